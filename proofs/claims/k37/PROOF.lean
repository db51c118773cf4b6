import PyProof.Rows.All
import Wide.All
import OpenK.AllK
import Wide.FinOn
import Lean
import PyProof.EqAt
import PyProof.EqKinds
import PyProof.TupleCall
import PyProof.EnumMake
import PyProof.WalksPairs
import PyProof.NsDelKeeps
import PyProof.NeKinds
import PySem.Challenge.RW_threadlathe_k37_whole_trains
set_option Elab.async false
set_option linter.all false
set_option maxRecDepth 100000
set_option maxHeartbeats 4000000

namespace Mt
theorem gcd_step (a b:Int):Int.gcd b (a % b)=Int.gcd a b:=by
 have e:a % b=a - (a / b) * b:=by
  have:=Int.emod_add_mul_ediv a b
  rw [Int.mul_comm] at this
  omega
 rw [e,Int.gcd_sub_mul_right_right,Int.gcd_comm]
theorem gcd_end (a:Int):(if a<0 then -a else a)=((Int.gcd a 0:Nat):Int):=by
 rw [Int.gcd_zero_right]
 split <;> omega
theorem gcd_abs (a b:Int):Int.gcd (if a<0 then -a else a) (if b<0 then -b else b)=Int.gcd a b:=by
 split <;> split <;> simp [Int.neg_gcd,Int.gcd_neg]
def sg (t b:Int):Int:=if b<0 then -((Int.gcd t b:Nat):Int) else ((Int.gcd t b:Nat):Int)
def ltN (t b:Int):Int:=Int.fdiv t (sg t b)
def ltD (t b:Int):Int:=Int.fdiv b (sg t b)
theorem gpos {t b:Int} (h:b≠0):0<Int.gcd t b:=Int.gcd_pos_iff.mpr (.inr h)
theorem sg_ne {t b:Int} (h:b≠0):sg t b≠0:=by
 have:=gpos (t:=t) h
 unfold sg;split <;> omega
theorem sg_abs (t b:Int):(sg t b).natAbs=Int.gcd t b:=by
 unfold sg;split <;> omega
theorem sg_le {t b:Int} (h:b≠0):(sg t b).natAbs≤b.natAbs:=by
 rw [sg_abs]
 exact Nat.le_of_dvd (by omega) (by have:=Int.gcd_dvd_right t b;exact Int.ofNat_dvd_left.mp this)
theorem sg_dt (t b:Int):sg t b ∣ t:=by
 unfold sg;split
 ·exact Int.neg_dvd.mpr (Int.gcd_dvd_left t b)
 ·exact Int.gcd_dvd_left t b
theorem sg_db (t b:Int):sg t b ∣ b:=by
 unfold sg;split
 ·exact Int.neg_dvd.mpr (Int.gcd_dvd_right t b)
 ·exact Int.gcd_dvd_right t b
theorem ltN_mul (t b:Int):sg t b * ltN t b=t:=by
 unfold ltN;rw [Int.fdiv_eq_ediv_of_dvd (sg_dt t b),Int.mul_ediv_cancel' (sg_dt t b)]
theorem ltD_mul (t b:Int):sg t b * ltD t b=b:=by
 unfold ltD;rw [Int.fdiv_eq_ediv_of_dvd (sg_db t b),Int.mul_ediv_cancel' (sg_db t b)]
structure LT (t b x y:Int):Prop where
 pos:1≤y
 co:Int.gcd x y=1
 eq:x * b=t * y
 nx:x.natAbs≤t.natAbs
 ny:y.natAbs≤b.natAbs
theorem lt_is {t b:Int} (h:b≠0):LT t b (ltN t b) (ltD t b):=by
 have hs:=sg_ne (t:=t) h
 have e1:=ltN_mul t b
 have e2:=ltD_mul t b
 have g0:=gpos (t:=t) h
 have hp:0<ltD t b:=by
  rcases Int.lt_trichotomy (ltD t b) 0 with l | l | l
  ·exfalso
   by_cases hb:b<0
   ·have hs':sg t b≤0:=by unfold sg;rw [if_pos hb];omega
    have:=Int.mul_nonneg_of_nonpos_of_nonpos hs' (Int.le_of_lt l)
    omega
   ·have hs':0≤sg t b:=by unfold sg;rw [if_neg hb];omega
    have:sg t b * ltD t b≤0:=Int.mul_nonpos_of_nonneg_of_nonpos hs' (Int.le_of_lt l)
    omega
  ·rw [l,Int.mul_zero] at e2;omega
  ·exact l
 refine ⟨hp,?_,?_,?_,?_⟩
 ·have:Int.gcd (sg t b * ltN t b) (sg t b * ltD t b)=(sg t b).natAbs * Int.gcd (ltN t b) (ltD t b):=Int.gcd_mul_left _ _ _
  rw [e1,e2,sg_abs] at this
  exact Nat.eq_of_mul_eq_mul_left g0 (by rw [Nat.mul_one];exact this.symm)
 ·have a1:ltN t b * b=ltN t b * (sg t b * ltD t b):=by rw [e2]
  have a2:t * ltD t b=(sg t b * ltN t b) * ltD t b:=by rw [e1]
  rw [a1,a2,← Int.mul_assoc,Int.mul_comm (ltN t b)]
 ·have:=congrArg Int.natAbs e1
  rw [Int.natAbs_mul] at this
  rw [← this]
  exact Nat.le_mul_of_pos_left _ (by omega)
 ·have:=congrArg Int.natAbs e2
  rw [Int.natAbs_mul] at this
  have g:ltD t b≠0:=by omega
  rw [← this]
  exact Nat.le_mul_of_pos_left _ (by omega)
def Bd (n:Nat) (i:Int):Prop:=i.natAbs<2 ^ n
theorem Bd.mono {m n:Nat} {i:Int} (h:Bd m i) (l:m≤n):Bd n i:=Nat.lt_of_lt_of_le h (Nat.pow_le_pow_right (by decide) l)
theorem Bd.mul {m n:Nat} {i j:Int} (h:Bd m i) (g:Bd n j):Bd (m + n) (i * j):=by
 unfold Bd at *
 rw [Int.natAbs_mul i j,Nat.pow_add 2 m n]
 exact Nat.mul_lt_mul'' h g
theorem Bd.add {m n:Nat} {i j:Int} (h:Bd m i) (g:Bd n j):Bd (max m n + 1) (i + j):=by
 have h':=h.mono (Nat.le_max_left m n)
 have g':=g.mono (Nat.le_max_right m n)
 have:=Int.natAbs_add_le i j
 unfold Bd at *
 rw [Nat.pow_succ]
 omega
theorem Bd.neg {m:Nat} {i:Int} (h:Bd m i):Bd m (-i):=by
 unfold Bd at *
 rw [Int.natAbs_neg];exact h
theorem Bd.sub {m n:Nat} {i j:Int} (h:Bd m i) (g:Bd n j):Bd (max m n + 1) (i - j):=by
 rw [Int.sub_eq_add_neg]
 exact h.add g.neg
theorem Bd.le {m:Nat} {i j:Int} (h:Bd m i) (g:j.natAbs≤i.natAbs):Bd m j:=Nat.lt_of_le_of_lt g h
theorem Bd.log {m:Nat} {i:Int} (h:Bd m i) (p:0<m):i.natAbs.log2<m:=by
 by_cases z:i.natAbs=0
 ·rw [z];simpa using p
 ·exact (Nat.log2_lt z).mpr h
theorem Bd.of60 {i:Int} (h1:-(10 ^ 60)≤i) (h2:i≤10 ^ 60):Bd 200 i:=by
 have:(10:Nat) ^ 60<2 ^ 200:=by decide
 unfold Bd
 have e:((10:Int) ^ 60)=(((10:Nat) ^ 60:Nat):Int):=by decide
 omega
end Mt
namespace L2
open PySem PySem.Spec PyProof.Rows
abbrev Key:=Sum Int Str
def keyIs:Key→Value→Bool
 | .inl k,v=>Value.isInt k v
 | .inr x,v=>Value.isStrOf x v
def keyH (w:World):Key→Int
 | .inl k=>hashInt k
 | .inr x=>hashStr w x
theorem keyIs_shape:∀ {k:Key} {v:Value},keyIs k v=true→(∃ i t,k=Sum.inl i∧v=Value.int i t)∨(∃ x t,k=Sum.inr x∧v=Value.str x t)
 | .inl i,v,h=>by
  obtain ⟨t,e⟩:=Value.isInt_shape (k:=i) (v:=v) h
  exact .inl ⟨i,t,rfl,e⟩
 | .inr x,v,h=>by
  obtain ⟨t,e⟩:=Value.isStrOf_shape (x:=x) (v:=v) h
  exact .inr ⟨x,t,rfl,e⟩
theorem key_ll (a b:Int):decide ((Sum.inl a:Key)=Sum.inl b)=(a == b):=by
 by_cases e:a=b
 ·subst e;simp
 ·have h:¬ (Sum.inl a:Key)=Sum.inl b:=fun q=>e (Sum.inl.inj q)
  rw [decide_eq_false h]
  exact (beq_eq_false_iff_ne.mpr e).symm
theorem key_rr (a b:Str):decide ((Sum.inr a:Key)=Sum.inr b)=decide (a=b):=by
 by_cases e:a=b
 ·subst e;simp
 ·have h:¬ (Sum.inr a:Key)=Sum.inr b:=fun q=>e (Sum.inr.inj q)
  rw [decide_eq_false h,decide_eq_false e]
theorem key_lr (a:Int) (b:Str):decide ((Sum.inl a:Key)=Sum.inr b)=false:=decide_eq_false (fun q=>nomatch q)
theorem key_rl (a:Str) (b:Int):decide ((Sum.inr a:Key)=Sum.inl b)=false:=decide_eq_false (fun q=>nomatch q)
def mixKind (prog:Program) (w:World):PySem.KeyKind prog w Key where
 is:=keyIs
 hash:=keyH w
 inj:=fun v a b ha hb=>by
  rcases keyIs_shape ha with ⟨i,t,rfl,rfl⟩ | ⟨x,t,rfl,rfl⟩
  ·rcases keyIs_shape hb with ⟨j,u,rfl,e⟩ | ⟨y,u,rfl,e⟩
   ·injection e with e1 _;rw [e1]
   ·exact nomatch e
  ·rcases keyIs_shape hb with ⟨j,u,rfl,e⟩ | ⟨y,u,rfl,e⟩
   ·exact nomatch e
   ·injection e with e1 _;rw [e1]
 byValue:=fun k v h=>by
  rcases keyIs_shape h with ⟨i,t,rfl,rfl⟩ | ⟨x,t,rfl,rfl⟩ <;> rfl
 pyHash:=fun hv h=>by
  rcases keyIs_shape hv with ⟨i,t,rfl,rfl⟩ | ⟨x,t,rfl,rfl⟩
  ·exact wpAny_pyHash_int h
  ·exact wpAny_pyHash_str h
 eqBool:=fun hu hv h=>by
  rcases keyIs_shape hu with ⟨i,t,rfl,rfl⟩ | ⟨x,t,rfl,rfl⟩
  ·rcases keyIs_shape hv with ⟨j,u,rfl,rfl⟩ | ⟨y,u,rfl,rfl⟩
   ·rw [key_ll] at h;exact wpAny_eqBool_int h
   ·rw [key_lr] at h;exact SeqAt.EqAt.int_str i t y u _ _ _ _ h
  ·rcases keyIs_shape hv with ⟨j,u,rfl,rfl⟩ | ⟨y,u,rfl,rfl⟩
   ·rw [key_rl] at h;exact SeqAt.EqAt.str_int x t j u _ _ _ _ h
   ·rw [key_rr] at h;exact wpAny_eqBool_str h
 «strs»:=fun k x t v h=>by
  rcases keyIs_shape h with ⟨i,u,rfl,e⟩ | ⟨y,u,rfl,e⟩
  ·exact nomatch e
  ·injection e with e1 _
   subst e1
   cases v <;> rfl
end L2
namespace L2
open PySem PySem.Spec PyProof.Rows
inductive V where
 | non | bl (b:Bool) | int (i:Int) | str (x:Str) | byt (b:Array UInt8) | flt (b:UInt64) | ref (a:Addr) | ty (n:String)
 deriving DecidableEq
def RelV:V→Value→Prop
 | .non,u=>u=Value.none
 | .bl b,u=>u=Value.bool b
 | .int i,u=>∃ t,u=Value.int i t
 | .str x,u=>∃ t,u=Value.str x t
 | .byt b,u=>∃ t,u=Value.bytes b t
 | .flt b,u=>∃ t,u=Value.float b t
 | .ref a,u=>u=Value.ref a
 | .ty n,u=>u=Value.type n
abbrev Vals:List V→List Value→Prop:=Paired RelV
theorem Vals.length {xs:List V} {us:List Value} (r:Vals xs us):xs.length=us.length:=Paired.length r
theorem Vals.get:∀ {xs:List V} {us:List Value} {i:Nat} {x:V},Vals xs us→xs[i]? = some x→∃ u,us[i]? = some u∧RelV x u
 | _,_,_,_,.nil,e=>by simp at e
 | _,_,0,_,.cons r _,e=>by simp at e;subst e;exact ⟨_,rfl,r⟩
 | _,_,i + 1,x,.cons _ t,e=>by
  obtain ⟨u,h1,h2⟩:=Vals.get (i:=i) (x:=x) t (by simpa using e)
  exact ⟨u,by simpa using h1,h2⟩
theorem Vals.append:∀ {xs ys:List V} {us ws:List Value},Vals xs us→Vals ys ws→Vals (xs++ys) (us++ws)
 | _,_,_,_,.nil,s=>s
 | _,_,_,_,.cons r t,s=>.cons r (Vals.append t s)
def RelO:Option V→Option Value→Prop
 | some v,some u=>RelV v u
 | none,none=>True
 | _,_=>False
def KV {κ:Type}:List (κ × V)→List (κ × Value)→Prop:=Paired fun (p:κ × V) (q:κ × Value)=>p.1=q.1∧RelV p.2 q.2
def kV:Key→V
 | .inl i=>.int i
 | .inr x=>.str x
inductive HO where
 | lst (xs:List V)
 | tup (xs:List V)
 | dK (kvs:List (Key × V)) | dT (kvs:List (List Key × V))
 | set (S:Int→Bool) (n:Nat)
 | ins (C dx:Addr) (fs:List (Str × V))
 | own (x:Addr)
 | xd (fs:List (Str × V))
 | met (f x:Addr)
 | rng (lo hi:Int)
 | frz (o:Obj) (u:HO)
 | tbl (ps:Array Value)
 | ext (φ:Heap→Prop)
abbrev Hp:=Addr→Option HO
def upd (H:Hp) (a:Addr) (o:HO):Hp:=fun b=>if b=a then some o else H b
theorem upd_same {H:Hp} {a:Addr} {o:HO}:upd H a o a=some o:=by unfold upd;rw [if_pos rfl]
theorem upd_ne {H:Hp} {a b:Addr} {o:HO} (h:b≠a):upd H a o b=H b:=by unfold upd;rw [if_neg h]
theorem upd_upd {H:Hp} {a:Addr} {o u:HO}:upd (upd H a o) a u=upd H a u:=by
 funext b;unfold upd;split <;> rfl
theorem ne_of {H:Hp} {a b:Addr} {o u:HO} (h:H a=some o) (h':H b=some u) (d:o≠u):a≠b:=by
 intro e;subst e;rw [h] at h';exact d (Option.some.inj h')
theorem ne_of_none {H:Hp} {a b:Addr} {o:HO} (h:H a=some o) (h':H b=none):a≠b:=by
 intro e;subst e;rw [h] at h';cases h'
section
variable (P:Program) (w:World)
def ObjOk (H:Hp) (h:Heap) (a:Addr):HO→Prop
 | .lst xs=>xs.length≤sizeLine∧∃ (its:List Value) (n:Nat),Vals xs its∧h.get? a=some { cls:=.type "list",data:=.seq its.toArray n }
 | .tup xs=>xs.length≤sizeLine∧∃ its:List Value,Vals xs its∧IsTup h a its.toArray
 | .dK kvs=>kvs.length≤sizeLine∧(a == sysModules)=false∧∃ vs,KV kvs vs∧h.DictOf (mixKind P w) a vs
 | .dT kvs=>kvs.length≤sizeLine∧(a == sysModules)=false∧∃ xs:List (List Key × Addr × Value),
   Paired (fun (p:List Key × V) (q:List Key × Addr × Value)=>p.1=q.1∧H q.2.1=some (.tup (p.1.map kV))∧RelV p.2 q.2.2) kvs xs ∧
   ∃ o es ep,h.get? a=some o∧o.ExactDict∧o.data = .dict es ep∧es.toList=xs.map (entryOfKey (tupleKind (mixKind P w)))∧(xs.map (·.1)).Nodup
 | .set S n=>h.SetOf (intKind P w) a S n
 | .ins C dx fs=>H dx=some (.own a)∧fs.length≤1000∧dx≠a∧h.get? a=some (PySem.W.instObj C dx) ∧
   ∃ mA,h.Ns1 dx mA∧(∀ f,RelO (fs.lookup f) (mA f))∧PySem.Within mA (fs.map (·.1))
 | .own _=>∃ o,h.get? a=some o
 | .xd fs=>∃ mA,h.Ns1 a mA∧∀ f,RelO (fs.lookup f) (mA f)
 | .rng lo hi=>∃ t u v,h.get? a=some { cls:=.type "range",data:=.fields #[.int lo t,.int hi u,.int 1 v] }
 | .frz o u=>h.get? a=some o∧ObjOk H h a u
 | .tbl ps=>h.get? a=some { cls:=.none,data:=.fields ps }
 | .met f x=>h.get? a=some (PySem.W.methodObj (.ref f) (.ref x))
 | .ext φ=>φ h∧(∃ o,h.get? a=some o)∧∀ h1 h2:Heap,φ h1→(∀ o,h1.get? a=some o→h2.get? a=some o)→φ h2
def HOk (H:Hp) (h:Heap):Prop:=∀ a o,H a=some o→ObjOk P w H h a o
end
section
variable {P:Program} {w:World} {H H':Hp} {h h':Heap} {a:Addr} {o:HO}
theorem ObjOk.lt (x:ObjOk P w H h a o):a<h.objs.size:=by
 cases o with
 | lst xs=>obtain ⟨_,_,_,_,e⟩:=x;exact Heap.lt_size e
 | tup xs=>obtain ⟨_,_,_,p⟩:=x;exact p.lt
 | dK kvs=>obtain ⟨_,_,_,_,o,_,_,e,_⟩:=x;exact Heap.lt_size e
 | dT kvs=>obtain ⟨_,_,_,_,o,_,_,e,_⟩:=x;exact Heap.lt_size e
 | set S n=>obtain ⟨o,_,_,_,e,_⟩:=x;exact Heap.lt_size e
 | ins C dx fs=>obtain ⟨_,_,_,e,_⟩:=x;exact Heap.lt_size e
 | own y=>obtain ⟨_,e⟩:=x;exact Heap.lt_size e
 | xd fs=>obtain ⟨_,⟨_,_,_,e,_⟩,_⟩:=x;exact Heap.lt_size e
 | rng lo hi=>obtain ⟨_,_,_,e⟩:=x;exact Heap.lt_size e
 | frz ob u=>obtain ⟨e,_⟩:=x;exact Heap.lt_size e
 | tbl ps=>exact Heap.lt_size (show h.get? a=some _ from x)
 | met f y=>exact Heap.lt_size (show h.get? a=some _ from x)
 | ext φ=>obtain ⟨_,⟨_,e⟩,_⟩:=x;exact Heap.lt_size e
theorem Paired.mapP {α β:Type} {F G:α→β→Prop}:∀ {l₁:List α} {l₂:List β},Paired F l₁ l₂→(∀ a b,F a b→G a b)→Paired G l₁ l₂
 | _,_,.nil,_=>.nil
 | _,_,.cons r t,f=>.cons (f _ _ r) (Paired.mapP t f)
theorem ObjOk.stay (x:ObjOk P w H h a o) (k:∀ b u,(b=a∨H b=some (.own a))→h.get? b=some u→h'.get? b=some u)
  (ho:∀ b,H b=some (.own a)→H' b=some (.own a)) (ht:∀ b xs,H b=some (.tup xs)→H' b=some (.tup xs)):ObjOk P w H' h' a o:=by
 induction o with
 | lst xs=>obtain ⟨z,its,n,r,e⟩:=x;exact ⟨z,its,n,r,k _ _ (.inl rfl) e⟩
 | tup xs=>obtain ⟨z,its,r,ob,e,c⟩:=x;exact ⟨z,its,r,ob,k _ _ (.inl rfl) e,c⟩
 | dK kvs=>obtain ⟨z,y,vs,r,ob,es,ep,e,c⟩:=x;exact ⟨z,y,vs,r,ob,es,ep,k _ _ (.inl rfl) e,c⟩
 | dT kvs =>
  obtain ⟨z,y,xs,r,ob,es,ep,e,c⟩:=x
  exact ⟨z,y,xs,Paired.mapP r fun p q z=>⟨z.1,ht _ _ z.2.1,z.2.2⟩,ob,es,ep,k _ _ (.inl rfl) e,c⟩
 | set S n=>obtain ⟨ob,es,ep,t,e,c⟩:=x;exact ⟨ob,es,ep,t,k _ _ (.inl rfl) e,c⟩
 | ins C dx fs =>
  obtain ⟨d,z,ne,e,mA,⟨od,es,ep,e2,c⟩,r⟩:=x
  exact ⟨ho _ d,z,ne,k _ _ (.inl rfl) e,mA,⟨od,es,ep,k _ _ (.inr d) e2,c⟩,r⟩
 | own y=>obtain ⟨ob,e⟩:=x;exact ⟨ob,k _ _ (.inl rfl) e⟩
 | xd fs=>obtain ⟨mA,⟨od,es,ep,e,c⟩,r⟩:=x;exact ⟨mA,⟨od,es,ep,k _ _ (.inl rfl) e,c⟩,r⟩
 | rng lo hi=>obtain ⟨t,u,v,e⟩:=x;exact ⟨t,u,v,k _ _ (.inl rfl) e⟩
 | frz ob u ih=>obtain ⟨e,q⟩:=x;exact ⟨k _ _ (.inl rfl) e,ih q⟩
 | tbl ps =>
  have e:h.get? a=some { cls:=.none,data:=.fields ps }:=x
  show h'.get? a=some { cls:=.none,data:=.fields ps }
  exact k a _ (.inl rfl) e
 | met f y =>
  have e:h.get? a=some (PySem.W.methodObj (.ref f) (.ref y)):=x
  show h'.get? a=some (PySem.W.methodObj (.ref f) (.ref y))
  exact k a _ (.inl rfl) e
 | ext φ=>obtain ⟨p,⟨o,e⟩,st⟩:=x;exact ⟨st _ _ p fun o q=>k _ _ (.inl rfl) q,⟨o,k _ _ (.inl rfl) e⟩,st⟩
theorem HOk.lt (x:HOk P w H h) (e:H a=some o):a<h.objs.size:=(x a o e).lt
theorem HOk.fresh (x:HOk P w H h) (e:h.objs.size≤a):H a=none:=by
 cases q:H a with
 | none=>rfl
 | some u=>exact absurd (Nat.lt_of_lt_of_le (x.lt q) e) (Nat.lt_irrefl _)
theorem HOk.kept (x:HOk P w H h) (k:∀ b u,h.get? b=some u→h'.get? b=some u):HOk P w H h':=fun a o e =>
 (x a o e).stay (fun b u _ q=>k b u q) (fun _ q=>q) fun _ _ q=>q
theorem HOk.laid (x:HOk P w H h) (k:∀ b u,h.get? b=some u→h'.get? b=some u) (hp:h.objs.size≤a) (new:ObjOk P w (upd H a o) h' a o):HOk P w (upd H a o) h':=fun b u e=>by
 have hn:=x.fresh hp
 by_cases hb:b=a
 ·subst hb;rw [upd_same] at e;cases e;exact new
 ·rw [upd_ne hb] at e
  exact (x b u e).stay (fun c v _ q=>k c v q) (fun c q=>by rw [upd_ne (ne_of_none q hn)];exact q) fun c xs q=>by rw [upd_ne (ne_of_none q hn)];exact q
end
def Rd (H:Hp) (a:Addr) (u:HO):Prop:=H a=some u∨∃ o,H a=some (.frz o u)
theorem Rd.ok {P:Program} {w:World} {H:Hp} {h:Heap} {a:Addr} {u:HO} (r:Rd H a u) (x:HOk P w H h):ObjOk P w H h a u:=by
 rcases r with r | ⟨o,r⟩
 ·exact x a u r
 ·obtain ⟨_,q⟩:=x a _ r
  exact q
def Mut:Option HO→Prop
 | some (.lst _)=>True
 | some (.dK _)=>True
 | some (.dT _)=>True
 | some (.set _ _)=>True
 | some (.ins _ _ _)=>True
 | some (.ext _)=>True
 | _=>False
section
variable {P:Program} {w:World} {H:Hp} {h h':Heap} {x e:Addr} {o':HO}
theorem HOk.write (ok:HOk P w H h) (mu:Mut (H x)) (he:e=x∨H e=some (.own x)) (k:∀ b u,b≠e→h.get? b=some u→h'.get? b=some u) (heo:∃ u,h'.get? e=some u)
  (new:ObjOk P w (upd H x o') h' x o'):HOk P w (upd H x o') h':=fun b u q=>by
 have nown:∀ c y,H c=some (.own y)→c≠x:=fun c y r z=>by subst z;rw [r] at mu;exact mu
 have ntup:∀ c xs,H c=some (.tup xs)→c≠x:=fun c xs r z=>by subst z;rw [r] at mu;exact mu
 by_cases hb:b=x
 ·subst hb;rw [upd_same] at q;cases q;exact new
 ·rw [upd_ne hb] at q
  by_cases hbe:b=e
  ·have q':H b=some (.own x):=by
    rcases he with z | z
    ·exact absurd (hbe.trans z) hb
    ·rw [hbe];exact z
   rw [q] at q';cases q'
   obtain ⟨v,hv⟩:=heo
   exact ⟨v,by rw [hbe];exact hv⟩
  ·refine (ok b u q).stay (fun c v hc r=>k c v ?_ r) (fun c r=>by rw [upd_ne (nown c b r)];exact r) fun c xs r=>by rw [upd_ne (ntup c xs r)];exact r
   rcases hc with rfl | hc
   ·exact hbe
   ·rintro rfl
    rcases he with z | z
    ·exact nown c b hc z
    ·rw [hc] at z;cases z;exact hb rfl
end
structure Un (fs ex:List Addr) (H H':Hp) (h h':Heap):Prop where
 keep:∀ b o,h.get? b=some o→H b=none→b ∉ fs→b ∉ ex→h'.get? b=some o
 slot:∀ b o,h.get? b=some o→H b=none→b∈fs→b ∉ ex→∃ sl,h'.get? b=some { o with slots:=sl }
 free:∀ b o,h.get? b=some o→H b=none→b ∉ ex→H' b=none
 there:∀ b o,h.get? b=some o→b ∉ ex→∃ o',h'.get? b=some o'
 tups:∀ b xs,H b=some (.tup xs)→H' b=some (.tup xs)
 frzs:∀ b o u,H b=some (.frz o u)→H' b=some (.frz o u)
 tbls:∀ b ps,H b=some (.tbl ps)→∃ more,H' b=some (.tbl (ps++more))
section
variable {fs fs' ex ex':List Addr} {H H1 H2:Hp} {h h1 h2 h':Heap} {a x e:Addr} {o:HO}
theorem Un.any (u:Un fs ex H H1 h h1) {b:Addr} {ob:Obj} (q:h.get? b=some ob) (n:H b=none) (hx:b ∉ ex):∃ sl,h1.get? b=some { ob with slots:=sl }:=by
 by_cases hb:b∈fs
 ·exact u.slot b ob q n hb hx
 ·exact ⟨ob.slots,u.keep b ob q n hb hx⟩
theorem Un.kept (k:∀ b u,h.get? b=some u→h'.get? b=some u):Un fs ex H H h h' :=
 ⟨fun b ob q _ _ _=>k b ob q,fun b ob q _ _ _=>⟨ob.slots,k b ob q⟩,fun _ _ _ n _=>n,fun b ob q _=>⟨ob,k b ob q⟩,fun _ _ q=>q,fun _ _ _ q=>q,fun _ ps q=>⟨#[],by rw [q];simp⟩⟩
theorem Un.refl:Un fs ex H H h h:=Un.kept fun _ _ q=>q
theorem Un.laid (k:∀ b u,h.get? b=some u→h'.get? b=some u) (hp:h.objs.size≤a) (hn:H a=none):Un fs ex H (upd H a o) h h' where
 keep:=fun b u q _ _ _=>k b u q
 slot:=fun b u q _ _ _=>⟨u.slots,k b u q⟩
 free:=fun b u q n _=>by rw [upd_ne (Nat.ne_of_lt (Nat.lt_of_lt_of_le (Heap.lt_size q) hp))];exact n
 there:=fun b u q _=>⟨u,k b u q⟩
 tups:=fun b xs q=>by rw [upd_ne (ne_of_none q hn)];exact q
 frzs:=fun b u xs q=>by rw [upd_ne (ne_of_none q hn)];exact q
 tbls:=fun b ps q=>⟨#[],by rw [upd_ne (ne_of_none q hn),q];simp⟩
theorem Un.write (mu:Mut (H x)) (he:e=x∨H e=some (.own x)) (k:∀ b u,b≠e→h.get? b=some u→h'.get? b=some u) (heo:∃ u,h'.get? e=some u):Un fs ex H (upd H x o) h h':=by
 have hx:∀ b,H b=none→b≠x:=fun b n z=>by subst z;rw [n] at mu;exact mu
 have hb:∀ b,H b=none→b≠e:=fun b n z=>by
  subst z
  rcases he with r | r
  ·exact hx b n r
  ·rw [n] at r;cases r
 have hm:∀ b u,H b=some u→¬ Mut (some u)→b≠x:=fun b u q nm z=>by subst z;rw [q] at mu;exact nm mu
 refine ⟨fun b u q n _ _=>k b u (hb b n) q,fun b u q n _ _=>⟨u.slots,k b u (hb b n) q⟩,fun b u q n _=>by rw [upd_ne (hx b n)];exact n,fun b u q _=>?_,
  fun b xs q=>by rw [upd_ne (hm b _ q fun z=>z)];exact q,fun b u xs q=>by rw [upd_ne (hm b _ q fun z=>z)];exact q,fun b ps q=>⟨#[],by rw [upd_ne (hm b _ q fun z=>z),q];simp⟩⟩
 by_cases hbe:b=e
 ·subst hbe;exact heo
 ·exact ⟨u,k b u hbe q⟩
end
def trk (h:Heap) (H:Hp):List Addr:=(List.range h.objs.size).filter fun a=>(H a).isSome
def hidT (h:Heap) (H:Hp):Heap:=PySem.W.hideAll h (trk h H)
theorem hidT_size (h:Heap) (H:Hp):(hidT h H).objs.size=h.objs.size:=PySem.W.hideAll_size _ _
theorem hidT_get {h:Heap} {H:Hp} {b:Addr} {o:Obj} (e:h.get? b=some o) (n:H b=none):(hidT h H).get? b=some o :=
 PySem.W.hideAll_get _ e fun hm=>by
  have q:(H b).isSome=true:=(List.mem_filter.mp hm).2
  rw [n] at q;simp at q
theorem of_hidT {h:Heap} {H:Hp} {b:Addr} {o:Obj} (e:(hidT h H).get? b=some o):h.get? b=some o∧H b=none:=by
 have e':h.get? b=some o:=PySem.W.of_hideAll (trk h H) e
 refine ⟨e',?_⟩
 cases q:H b with
 | none=>rfl
 | some x =>
  have hm:b∈trk h H:=List.mem_filter.mpr ⟨List.mem_range.mpr (Heap.lt_size e'),by simp [q]⟩
  have z:(hidT h H).get? b=none:=PySem.W.hideAll_none (trk h H) hm
  rw [z] at e;cases e
def allNews (g h:Heap) (L:Addr):List (Addr × Obj):=(List.range h.objs.size).filterMap fun a=>if a=L∨(g.get? a).isSome=true then none else (h.get? a).map fun o=>(a,o)
def rest (g h:Heap) (L d:Addr):List (Addr × Obj):=(allNews g h L).filter fun p=>decide (p.1≠d)
end L2
namespace L2
open PySem PySem.Spec PyProof.Rows
structure Mod (K:PySem.W.Frag) (mg:Str→Option Value) (base:Heap):Prop where
 kin:K.In base
 glob:base.Ns mainGlobals mg
 blt:∃ mb,base.Ns builtinsNs mb∧∀ x:Str,x≠"__name__"→mb x=bootBuiltins x
 nolimit:base.NoLimit
structure Cx where
 prog:Program
 w:World
 K:PySem.W.Frag
 mg:Str→Option Value
 base:Heap
 A:Around
 N:List Str
 s₀:Shared
 H₀:Hp
 env:Env
 outer:List Env
 stack:List Env
 ex:List Addr
 fn:Str→Bool
 calm:Bool
 pn:List (Addr × Obj)
 xe:Value→Shared→Prop
def frs (l:List Env):List Addr:=l.filterMap (·.frame)
abbrev Cx.fs (X:Cx):List Addr:=frs X.outer
def Vis (sc:Scope) (x:Str):Prop:=sc.names.lookup x=some .local∨sc.names.lookup x=some .cell∨sc.names.lookup x=some .free
def Loc (sc:Scope) (x:Str):Prop:=sc.names.lookup x=some .local∨sc.names.lookup x=some .cell
def Look (env:Env) (h:Heap) (m:Str→Option Value) (x:Str) (u:Value):Prop :=
 (env.kindOf x=some .local∧m x=some u)∨((env.kindOf x=some .cell∨env.kindOf x=some .free)∧∃ c,env.cells.lookup x=some c∧h.IsCell c (some u))
structure Cx.Ok (X:Cx):Prop where
 mod:Mod X.K X.mg X.base
 kind:X.env.scope.kind = .function
 glob:X.env.globals=mainGlobals
 blt:X.env.builtins=builtinsNs
 above:X.s₀.heap.objs.size≤X.env.locals
 inj:∀ x y c,X.env.cells.lookup x=some c→X.env.cells.lookup y=some c→x=y
 has:∀ x,(X.env.kindOf x=some .cell∨X.env.kindOf x=some .free)→∃ c,X.env.cells.lookup x=some c
 cab:∀ x c,X.fn x=true→X.env.cells.lookup x=some c→X.s₀.heap.objs.size≤c
 hd:X.calm=true→X.A.handled=none
 frames:X.A.frames=some X.stack
 stk:X.stack=X.outer∨(X.stack=X.env::X.outer∧X.env.frame=some X.env.locals)
 exf:∀ b∈X.ex,b≠X.env.locals∧∀ x c,X.env.cells.lookup x=some c→c≠b
 bs:∀ b o,X.base.get? b=some o→X.s₀.heap.get? b=some o∧X.H₀ b=none
 bsz:X.base.objs.size≤X.s₀.heap.objs.size
 noex:∀ b o,X.base.get? b=some o→b ∉ X.ex
 exfs:∀ b∈X.ex,b ∉ X.fs
 funs:X.s₀.heap.FunFrames X.base X.outer
 frf:∀ b∈X.fs,X.H₀ b=none
structure Inv (X:Cx) (pins:List (Addr × Obj)) (σ:List (Option V)) (H:Hp) (s:Shared):Prop where
 ok:X.Ok
 os:s.os=X.s₀.os
 bare:AllBare s.gens
 base:Un X.fs X.ex X.H₀ H X.s₀.heap s.heap
 loc:∃ m,s.heap.Ns X.env.locals m∧∀ (i:Nat) (x:Str) (v:V),X.N[i]? = some x→σ[i]? = some (some v)→Vis X.env.scope x→∃ u,RelV v u∧Look X.env s.heap m x u
 cell:∀ x c,X.env.cells.lookup x=some c→∃ v,s.heap.IsCell c v
 free:H X.env.locals=none
 freeC:∀ x c,X.env.cells.lookup x=some c→H c=none
 pin:∀ p∈X.pn++pins,s.heap.get? p.1=some p.2∧H p.1=none∧p.1≠X.env.locals∧p.1 ∉ X.fs∧∀ v,p.2.data≠.cell v
 hok:HOk X.prog X.w H s.heap
 len:σ.length=X.N.length
section
variable {X:Cx} {pins:List (Addr × Obj)} {σ:List (Option V)} {H H':Hp} {s:Shared} {h':Heap}
theorem Cx.Ok.nofr (ok:X.Ok) {b:Addr} {o:Obj} (e:X.base.get? b=some o):b ∉ X.fs:=fun hb=>by
 have:=(ok.funs.mem hb).1
 rw [e] at this;cases this
theorem Inv.bs (I:Inv X pins σ H s):∀ b o,X.base.get? b=some o→s.heap.get? b=some o∧H b=none:=fun b o e =>
 ⟨I.base.keep b o (I.ok.bs b o e).1 (I.ok.bs b o e).2 (I.ok.nofr e) (I.ok.noex b o e),I.base.free b o (I.ok.bs b o e).1 (I.ok.bs b o e).2 (I.ok.noex b o e)⟩
theorem Inv.bk (I:Inv X pins σ H s):∀ b o,X.base.get? b=some o→s.heap.get? b=some o:=fun b o e=>(I.bs b o e).1
theorem Inv.mod (I:Inv X pins σ H s):Mod X.K X.mg X.base:=I.ok.mod
theorem Inv.kIn (I:Inv X pins σ H s):X.K.In s.heap:=I.ok.mod.kin.keeps I.bk
theorem Inv.lt (I:Inv X pins σ H s):X.env.locals<s.heap.objs.size:=let ⟨_,hn,_⟩:=I.loc;hn.lt
theorem Inv.sz (I:Inv X pins σ H s):X.s₀.heap.objs.size≤s.heap.objs.size:=Nat.le_trans I.ok.above (Nat.le_of_lt I.lt)
theorem Inv.nofs (I:Inv X pins σ H s) {a:Addr} (h:s.heap.objs.size≤a):a ∉ X.fs:=fun hb=>by
 obtain ⟨_,o,ho,_⟩:=I.ok.funs.mem hb
 exact absurd (Nat.lt_of_lt_of_le (Heap.lt_size ho) (Nat.le_trans I.sz h)) (Nat.lt_irrefl _)
theorem Inv.cne (I:Inv X pins σ H s):∀ x c,X.env.cells.lookup x=some c→c≠X.env.locals:=fun x c e z=>by
 obtain ⟨v,o,ho,hd⟩:=I.cell x c e
 obtain ⟨m,⟨o',es,ep,ho',hd',_⟩,_⟩:=I.loc
 rw [z,ho'] at ho;cases ho;rw [hd'] at hd;cases hd
theorem Inv.funs (I:Inv X pins σ H s):s.heap.FunFrames X.base X.outer:=by
 have all:∀ (l:List Env),(∀ b∈frs l,b∈X.fs)→X.s₀.heap.FunFrames X.base l→s.heap.FunFrames X.base l:=by
  intro l
  induction l with
  | nil=>intro _ _;trivial
  | cons env r ih =>
   intro hs hl
   obtain ⟨hk,⟨L,o,hf,hn,ho,hd⟩,hr⟩:=hl
   have hL:L∈X.fs:=hs L (by unfold frs;rw [List.filterMap_cons,hf];exact List.mem_cons_self)
   obtain ⟨sl,e⟩:=I.base.slot L o ho (I.ok.frf L hL) hL fun z=>I.ok.exfs L z hL
   exact ⟨hk,⟨L,_,hf,hn,e,hd⟩,ih (fun b hb=>hs b (by unfold frs;rw [List.filterMap_cons,hf];exact List.mem_cons_of_mem _ hb)) hr⟩
 exact all X.outer (fun _ hb=>hb) I.ok.funs
theorem Inv.stack (I:Inv X pins σ H s):s.heap.FunFrames X.base X.stack:=by
 rcases I.ok.stk with e | ⟨e,hf⟩
 ·rw [e];exact I.funs
 ·rw [e]
  obtain ⟨m,hn,_⟩:=I.loc
  refine .cons (by rw [I.ok.kind];decide) hf hn ?_ I.funs
  exact Heap.get?_none_of_le (Nat.le_trans I.ok.bsz I.ok.above)
theorem Inv.stkSub (I:Inv X pins σ H s):∀ b∈frs X.stack,b∈X.env.locals::X.fs:=fun b hb=>by
 rcases I.ok.stk with e | ⟨e,hf⟩
 ·rw [e] at hb;exact List.mem_cons_of_mem _ hb
 ·rw [e] at hb
  unfold frs at hb
  rw [List.filterMap_cons,hf] at hb
  exact hb
theorem Inv.stkFree (I:Inv X pins σ H s):∀ b∈frs X.stack,H b=none:=fun b hb=>by
 rcases List.mem_cons.mp (I.stkSub b hb) with e | hb
 ·rw [e];exact I.free
 ·obtain ⟨_,o,ho,_⟩:=I.ok.funs.mem hb
  exact I.base.free b o ho (I.ok.frf b hb) fun z=>I.ok.exfs b z hb
theorem Inv.step {g':Array GenState} {t':Nat} {d':Drawn} {ch:List Addr} (I:Inv X pins σ H s)
  (hch:∀ b∈ch,(b∈X.ex∨X.s₀.heap.objs.size≤b)∧b≠X.env.locals∧(∀ x c,X.env.cells.lookup x=some c→c≠b)∧∀ p∈X.pn++pins,p.1≠b)
  (keep:∀ b o,b≠X.env.locals→b ∉ X.fs→b ∉ ch→s.heap.get? b=some o→H b=none→h'.get? b=some o)
  (slot:∀ b o,b≠X.env.locals→b∈X.fs→b ∉ ch→s.heap.get? b=some o→H b=none→∃ sl,h'.get? b=some { o with slots:=sl }) (free:∀ b o,b ∉ ch→s.heap.get? b=some o→H b=none→H' b=none)
  (there:∀ b o,b ∉ ch→s.heap.get? b=some o→∃ o',h'.get? b=some o')
  (tups:∀ b xs,H b=some (.tup xs)→H' b=some (.tup xs)) (frzs:∀ b o u,H b=some (.frz o u)→H' b=some (.frz o u)) (tbls:∀ b ps,H b=some (.tbl ps)→∃ more,H' b=some (.tbl (ps++more)))
  (ns:∀ m,s.heap.Ns X.env.locals m→h'.Ns X.env.locals m) (hok:HOk X.prog X.w H' h') (hg:AllBare g') :
  Inv X pins σ H' { s with heap:=h',gens:=g',drawn:=d',toks:=t' }:=by
 have neL:∀ b o,X.s₀.heap.get? b=some o→b≠X.env.locals:=fun b o e=>Nat.ne_of_lt (Nat.lt_of_lt_of_le (Heap.lt_size e) I.ok.above)
 have neC:∀ b o,X.s₀.heap.get? b=some o→b ∉ X.ex→b ∉ ch:=fun b o e hx hb=>by
  rcases (hch b hb).1 with z | z
  ·exact hx z
  ·exact absurd (Nat.lt_of_lt_of_le (Heap.lt_size e) z) (Nat.lt_irrefl _)
 have cellK:∀ x c,X.env.cells.lookup x=some c→∀ v,s.heap.IsCell c v→h'.IsCell c v:=fun x c e v ⟨o,ho,hd⟩=>by
  have nch:c ∉ ch:=fun z=>(hch c z).2.2.1 x c e rfl
  by_cases hc:c∈X.fs
  ·obtain ⟨sl,q⟩:=slot c o (I.cne x c e) hc nch ho (I.freeC x c e)
   exact ⟨_,q,hd⟩
  ·exact ⟨o,keep c o (I.cne x c e) hc nch ho (I.freeC x c e),hd⟩
 refine ⟨I.ok,I.os,hg,⟨fun b o e n hb hx=>?_,fun b o e n hb hx=>?_,fun b o e n hx=>?_,fun b o e hx=>?_,fun b xs e=>tups b xs (I.base.tups b xs e),fun b o xs e=>frzs b o xs (I.base.frzs b o xs e),fun b ps e=>?_⟩,?_,fun x c e=>?_,?_,fun x c e=>?_,fun p hp=>?_,hok,I.len⟩
 ·exact keep b o (neL b o e) hb (neC b o e hx) (I.base.keep b o e n hb hx) (I.base.free b o e n hx)
 ·obtain ⟨sl,e1⟩:=I.base.slot b o e n hb hx
  obtain ⟨sl',e2⟩:=slot b _ (neL b o e) hb (neC b o e hx) e1 (I.base.free b o e n hx)
  exact ⟨sl',e2⟩
 ·obtain ⟨o',e1⟩:=I.base.there b o e hx
  exact free b o' (neC b o e hx) e1 (I.base.free b o e n hx)
 ·obtain ⟨o',e1⟩:=I.base.there b o e hx
  exact there b o' (neC b o e hx) e1
 ·obtain ⟨m1,e1⟩:=I.base.tbls b ps e
  obtain ⟨m2,e2⟩:=tbls b _ e1
  exact ⟨m1++m2,by rw [e2,Array.append_assoc]⟩
 ·obtain ⟨m,hn,hl⟩:=I.loc
  refine ⟨m,ns m hn,fun i x v e1 e2 e3=>?_⟩
  obtain ⟨u,r,l⟩:=hl i x v e1 e2 e3
  refine ⟨u,r,?_⟩
  rcases l with l | ⟨k,c,e,z⟩
  ·exact .inl l
  ·exact .inr ⟨k,c,e,cellK x c e _ z⟩
 ·obtain ⟨v,z⟩:=I.cell x c e
  exact ⟨v,cellK x c e v z⟩
 ·obtain ⟨m,⟨o,_,_,ho,_⟩,_⟩:=I.loc
  exact free _ o (fun z=>(hch _ z).2.1 rfl) ho I.free
 ·obtain ⟨v,o,ho,hd⟩:=I.cell x c e
  exact free c o (fun z=>(hch c z).2.2.1 x c e rfl) ho (I.freeC x c e)
 ·obtain ⟨e,n,ne,nf,d⟩:=I.pin p hp
  have nch:p.1 ∉ ch:=fun z=>(hch p.1 z).2.2.2 p hp rfl
  exact ⟨keep p.1 p.2 ne nf nch e n,free p.1 p.2 nch e n,ne,nf,d⟩
theorem Inv.un {t':Nat} (I:Inv X pins σ H s) (u:Un X.fs [] H H' s.heap h') (hok:HOk X.prog X.w H' h'):Inv X pins σ H' { s with heap:=h',toks:=t' }:=by
 obtain ⟨m,⟨o,es,ep,ho,r⟩,_⟩:=id I.loc
 obtain ⟨sl,hL⟩:=u.any ho I.free (by simp)
 exact I.step (g':=s.gens) (d':=s.drawn) (ch:=[]) (fun _ z=>nomatch z) (fun b o _ hb _ e n=>u.keep b o e n hb (by simp)) (fun b o _ hb _ e n=>u.slot b o e n hb (by simp)) (fun b o _ e n=>u.free b o e n (by simp)) (fun b o _ e=>u.there b o e (by simp)) u.tups u.frzs u.tbls (fun m' hm=>by
  obtain ⟨o',es',ep',ho',r'⟩:=hm
  rw [ho] at ho';cases ho'
  exact ⟨_,es',ep',hL,r'⟩) hok I.bare
theorem Inv.call {g':Array GenState} {t':Nat} {d':Drawn} {ch:List Addr} (I:Inv X pins σ H s) (u:Un (frs X.stack) ch H H' s.heap h') (hok:HOk X.prog X.w H' h') (hg:AllBare g')
  (hch:∀ b∈ch,(b∈X.ex∨X.s₀.heap.objs.size≤b)∧b≠X.env.locals∧(∀ x c,X.env.cells.lookup x=some c→c≠b)∧∀ p∈X.pn++pins,p.1≠b) :
  Inv X pins σ H' { s with heap:=h',gens:=g',drawn:=d',toks:=t' }:=by
 obtain ⟨m,⟨o,es,ep,ho,r⟩,_⟩:=id I.loc
 obtain ⟨sl,hL⟩:=u.any ho I.free fun z=>(hch _ z).2.1 rfl
 exact I.step (ch:=ch) hch (fun b o hL hb hc e n=>u.keep b o e n (fun z=>(List.mem_cons.mp (I.stkSub b z)).elim hL hb) hc) (fun b o _ _ hc e n=>u.any e n hc) (fun b o hc e n=>u.free b o e n hc) (fun b o hc e=>u.there b o e hc) u.tups u.frzs u.tbls (fun m' hm=>by
  obtain ⟨o',es',ep',ho',r'⟩:=hm
  rw [ho] at ho';cases ho'
  exact ⟨_,es',ep',hL,r'⟩) hok hg
theorem Inv.turned {t':Nat} {it:Addr} (I:Inv X pins σ H s) (k:∀ b o,b≠it→s.heap.get? b=some o→h'.get? b=some o) (hn:H it=none) (hL:it≠X.env.locals)
  (h1:it∈X.ex∨X.s₀.heap.objs.size≤it) (h2:∀ x c,X.env.cells.lookup x=some c→c≠it) (h3:∀ p∈X.pn++pins,p.1≠it):Inv X pins σ H { s with heap:=h',toks:=t' }:=by
 have nit:∀ b u,H b=some u→b≠it:=fun b u e z=>by rw [z,hn] at e;cases e
 refine I.step (g':=s.gens) (d':=s.drawn) (ch:=[it]) (fun b hb=>?_) (fun b o _ _ hc e _=>k b o (fun z=>hc (by simp [z])) e) (fun b o _ _ hc e _=>⟨o.slots,k b o (fun z=>hc (by simp [z])) e⟩) (fun _ _ _ _ n=>n)
  (fun b o hc e=>⟨o,k b o (fun z=>hc (by simp [z])) e⟩) (fun _ _ e=>e) (fun _ _ _ e=>e) (fun b ps e=>⟨#[],by rw [e];simp⟩) (fun m hm=>?_) (fun b u e=>?_) I.bare
 ·have e:b=it:=by simpa using hb
  subst e
  exact ⟨h1,hL,h2,h3⟩
 ·obtain ⟨o,es,ep,ho,r⟩:=hm
  exact ⟨o,es,ep,k _ o (Ne.symm hL) ho,r⟩
 ·refine (I.hok b u e).stay (fun c v hc q=>k c v ?_ q) (fun _ q=>q) fun _ _ q=>q
  rcases hc with z | z
  ·rw [z];exact nit b u e
  ·exact nit c _ z
theorem Inv.tok (I:Inv X pins σ H s) (t:Nat):Inv X pins σ H { s with toks:=t }:=I.un (h':=s.heap) (t':=t) Un.refl I.hok
theorem Inv.kept {t':Nat} (I:Inv X pins σ H s) (k:∀ b u,s.heap.get? b=some u→h'.get? b=some u):Inv X pins σ H { s with heap:=h',toks:=t' }:=I.un (Un.kept k) (I.hok.kept k)
theorem Inv.laid {a:Addr} {o:HO} {t':Nat} (I:Inv X pins σ H s) (k:∀ b u,s.heap.get? b=some u→h'.get? b=some u) (hp:s.heap.objs.size≤a) (new:ObjOk X.prog X.w (upd H a o) h' a o) :
  Inv X pins σ (upd H a o) { s with heap:=h',toks:=t' }:=I.un (Un.laid k hp (I.hok.fresh hp)) (I.hok.laid k hp new)
theorem Inv.write {x e:Addr} {o:HO} {t':Nat} (I:Inv X pins σ H s) (mu:Mut (H x)) (he:e=x∨H e=some (.own x)) (k:∀ b u,b≠e→s.heap.get? b=some u→h'.get? b=some u) (heo:∃ u,h'.get? e=some u)
  (new:ObjOk X.prog X.w (upd H x o) h' x o):Inv X pins σ (upd H x o) { s with heap:=h',toks:=t' }:=I.un (Un.write mu he k heo) (I.hok.write mu he k heo new)
theorem Inv.pins_of {pins':List (Addr × Obj)} (I:Inv X pins σ H s) (h:∀ p∈pins',s.heap.get? p.1=some p.2∧H p.1=none∧p.1≠X.env.locals∧p.1 ∉ X.fs∧∀ v,p.2.data≠.cell v):Inv X pins' σ H s :=
 ⟨I.ok,I.os,I.bare,I.base,I.loc,I.cell,I.free,I.freeC,fun p hp=>(List.mem_append.mp hp).elim (fun z=>I.pin p (List.mem_append_left _ z)) (h p),I.hok,I.len⟩
theorem nodup_ix {N:List Str} (hN:N.Nodup) {i j:Nat} {x:Str} (a:N[i]? = some x) (b:N[j]? = some x):i=j:=by
 obtain ⟨h1,e1⟩:=List.getElem?_eq_some_iff.mp a
 obtain ⟨h2,e2⟩:=List.getElem?_eq_some_iff.mp b
 exact (List.getElem_inj hN).mp (e1.trans e2.symm)
theorem store_ok2 {M:Model} {A:Around} {E:Value→Shared→Prop} {i:Nat} {x:Str} {v:V} {u:Value} {Q:Unit→Shared→Prop} (I:Inv X pins σ H s) (hN:X.N.Nodup) (hi:X.N[i]? = some x) (hx:Loc X.env.scope x) (r:RelV v u)
  (h:∀ s',Inv X pins (σ.set i (some v)) H s'→(∃ a,Heap.SameBut a s.heap s'.heap∧(a=X.env.locals∨X.env.cells.lookup x=some a))→Q () s') (hf:X.fn x=true∨X.env.scope.names.lookup x=some .local:=by first | exact .inl rfl | exact .inr rfl | assumption):wpAny M A (storeName X.env x u) Q E s:=by
 obtain ⟨m,hn,hl⟩:=id I.loc
 have hcls:(X.env.scope.kind == .class || (X.env.scope.kind == .module && X.env.locals != X.env.globals))=false:=by rw [I.ok.kind];rfl
 have hiσ:i<σ.length:=by rw [I.len];exact (List.getElem?_eq_some_iff.mp hi).1
 have cne:=I.cne
 have tracked:∀ {a:Addr} {h':Heap},(∃ o,s.heap.get? a=some o∧H a=none)→Heap.SameBut a s.heap h'→HOk X.prog X.w H h':=fun {a h'} ha hs b ob e=>by
  obtain ⟨_,_,hfree⟩:=ha
  refine (I.hok b ob e).stay (fun c w' hc q=>(hs.2 c ?_).trans q) (fun _ q=>q) fun _ _ q=>q
  rintro rfl
  rcases hc with rfl | hc
  ·rw [hfree] at e;cases e
  ·rw [hfree] at hc;cases hc
 rcases hx with hk | hk
 ·refine wpAny_storeName_local hk hn (fun h' hn' hs=>?_) hcls
  obtain ⟨oL,_,_,hoL,_⟩:=id hn
  refine h _ ⟨I.ok,I.os,I.bare,⟨fun b o e n hb hx=>?_,fun b o e n hb hx=>?_,I.base.free,fun b o e hx=>?_,I.base.tups,I.base.frzs,I.base.tbls⟩,⟨_,hn',fun j y v' e1 e2 e3=>?_⟩,fun y c e=>?_,I.free,I.freeC,fun p hp=>?_,tracked ⟨oL,hoL,I.free⟩ hs,by simpa using I.len⟩ ⟨_,hs,.inl rfl⟩
  ·exact (hs.2 b (Nat.ne_of_lt (Nat.lt_of_lt_of_le (Heap.lt_size e) I.ok.above))).trans (I.base.keep b o e n hb hx)
  ·obtain ⟨sl,e1⟩:=I.base.slot b o e n hb hx
   exact ⟨sl,(hs.2 b (Nat.ne_of_lt (Nat.lt_of_lt_of_le (Heap.lt_size e) I.ok.above))).trans e1⟩
  ·obtain ⟨o',e1⟩:=I.base.there b o e hx
   exact ⟨o',(hs.2 b (Nat.ne_of_lt (Nat.lt_of_lt_of_le (Heap.lt_size e) I.ok.above))).trans e1⟩
  ·by_cases hj:j=i
   ·subst hj
    rw [hi] at e1;cases e1
    rw [List.getElem?_set_self hiσ] at e2
    cases e2
    exact ⟨u,r,.inl ⟨hk,by simp⟩⟩
   ·rw [List.getElem?_set_ne (Ne.symm hj)] at e2
    obtain ⟨u',r',q⟩:=hl j y v' e1 e2 e3
    refine ⟨u',r',?_⟩
    rcases q with ⟨k,e⟩ | ⟨k,c,e,z⟩
    ·refine .inl ⟨k,?_⟩
     have:y≠x:=fun e=>hj (nodup_ix hN e1 (e ▸ hi))
     simp [this,e]
    ·exact .inr ⟨k,c,e,z.sameBut hs (cne y c e)⟩
  ·obtain ⟨w',z⟩:=I.cell y c e
   exact ⟨w',z.sameBut hs (cne y c e)⟩
  ·obtain ⟨e,n,ne,nf,d⟩:=I.pin p hp
   exact ⟨(hs.2 p.1 ne).trans e,n,ne,nf,d⟩
 ·have hfn:X.fn x=true:=by
   rcases hf with z | z
   ·exact z
   ·rw [z] at hk;cases hk
  obtain ⟨c,hc⟩:=I.ok.has x (.inl hk)
  obtain ⟨w',z⟩:=I.cell x c hc
  refine wpAny_storeName_cell I.ok.kind hk hc z (fun h' hc' hs=>?_)
  obtain ⟨oc,hoc,hocd⟩:=id z
  refine h { s with heap:=h' } ⟨I.ok,I.os,I.bare,⟨fun b o e n hb hx=>?_,fun b o e n hb hx=>?_,I.base.free,fun b o e hx=>?_,I.base.tups,I.base.frzs,I.base.tbls⟩,⟨m,hn.sameBut hs (Ne.symm (cne x c hc)),fun j y v' e1 e2 e3=>?_⟩,fun y c' e=>?_,I.free,I.freeC,fun p hp=>?_,tracked ⟨oc,hoc,I.freeC x c hc⟩ hs,by simpa using I.len⟩ ⟨c,hs,.inr hc⟩
  ·exact (hs.2 b (Nat.ne_of_lt (Nat.lt_of_lt_of_le (Heap.lt_size e) (I.ok.cab x c hfn hc)))).trans (I.base.keep b o e n hb hx)
  ·obtain ⟨sl,e1⟩:=I.base.slot b o e n hb hx
   exact ⟨sl,(hs.2 b (Nat.ne_of_lt (Nat.lt_of_lt_of_le (Heap.lt_size e) (I.ok.cab x c hfn hc)))).trans e1⟩
  ·obtain ⟨o',e1⟩:=I.base.there b o e hx
   exact ⟨o',(hs.2 b (Nat.ne_of_lt (Nat.lt_of_lt_of_le (Heap.lt_size e) (I.ok.cab x c hfn hc)))).trans e1⟩
  ·by_cases hj:j=i
   ·subst hj
    rw [hi] at e1;cases e1
    rw [List.getElem?_set_self hiσ] at e2
    cases e2
    exact ⟨u,r,.inr ⟨.inl hk,c,hc,hc'⟩⟩
   ·rw [List.getElem?_set_ne (Ne.symm hj)] at e2
    obtain ⟨u',r',q⟩:=hl j y v' e1 e2 e3
    refine ⟨u',r',?_⟩
    rcases q with q | ⟨k,c',e,z'⟩
    ·exact .inl q
    ·refine .inr ⟨k,c',e,z'.sameBut hs ?_⟩
     rintro rfl
     exact hj (nodup_ix hN e1 (I.ok.inj _ _ _ e hc ▸ hi))
  ·by_cases hcc:c'=c
   ·subst hcc;exact ⟨_,hc'⟩
   ·obtain ⟨w2,z2⟩:=I.cell y c' e
    exact ⟨w2,z2.sameBut hs hcc⟩
  ·obtain ⟨e,n,ne,nf,d⟩:=I.pin p hp
   refine ⟨(hs.2 p.1 ?_).trans e,n,ne,nf,d⟩
   intro q
   rw [q,hoc] at e
   have q':oc=p.2:=Option.some.inj e
   exact d w' (by rw [← q'];exact hocd)
theorem store_ok {M:Model} {A:Around} {E:Value→Shared→Prop} {i:Nat} {x:Str} {v:V} {u:Value} {Q:Unit→Shared→Prop} (I:Inv X pins σ H s) (hN:X.N.Nodup) (hi:X.N[i]? = some x) (hx:Loc X.env.scope x) (r:RelV v u)
  (h:∀ s',Inv X pins (σ.set i (some v)) H s'→Q () s') (hf:X.fn x=true∨X.env.scope.names.lookup x=some .local:=by first | exact .inl rfl | exact .inr rfl | assumption):wpAny M A (storeName X.env x u) Q E s :=
 store_ok2 I hN hi hx r (fun s' I' _=>h s' I') hf
theorem Inv.call' {s':Shared} {ch:List Addr} (I:Inv X pins σ H s) (ho:s'.os=s.os) (u:Un (frs X.stack) ch H H' s.heap s'.heap) (hok:HOk X.prog X.w H' s'.heap) (hg:AllBare s'.gens)
  (hch:∀ b∈ch,(b∈X.ex∨X.s₀.heap.objs.size≤b)∧b≠X.env.locals∧(∀ x c,X.env.cells.lookup x=some c→c≠b)∧∀ p∈X.pn++pins,p.1≠b):Inv X pins σ H' s':=by
 obtain ⟨h',g',d',t',o'⟩:=s'
 have e:o'=s.os:=ho
 subst e
 exact I.call (g':=g') (t':=t') (d':=d') u hok hg hch
end
abbrev XK:=Value→Option Addr→Hp→Prop
abbrev St:=List (Option V)
abbrev VK:=V→Hp→Prop
abbrev TE:=St→Hp→VK→Prop
abbrev TT:=St→Hp→(Bool→Hp→Prop)→Prop
abbrev TA:=St→Hp→(List V→Hp→Prop)→Prop
structure Ends where
 nx:St→Hp→Prop
 rt:VK
 bk:St→Hp→Prop:=fun _ _=>False
 ct:St→Hp→Prop:=fun _ _=>False
abbrev TS:=Ends→St→Hp→Prop
def EP (X:Cx) (pins:List (Addr × Obj)) (σ:St) (Q:VK) (u:Value) (s':Shared):Prop:=∃ v H',Inv X pins σ H' s'∧RelV v u∧Q v H'
def TP (X:Cx) (pins:List (Addr × Obj)) (σ:St) (Q:Bool→Hp→Prop) (b:Bool) (s':Shared):Prop:=∃ H',Inv X pins σ H' s'∧Q b H'
def AP (X:Cx) (pins:List (Addr × Obj)) (σ:St) (Q:List V→Hp→Prop) (us:List Value) (s':Shared):Prop:=∃ vs H',Inv X pins σ H' s'∧Vals vs us∧Q vs H'
def SP (X:Cx) (pins:List (Addr × Obj)) (D:Ends) (f:Flow) (s':Shared):Prop :=
 match f with
 | .next=>∃ σ' H',Inv X pins σ' H' s'∧D.nx σ' H'
 | .brk=>∃ σ' H',Inv X pins σ' H' s'∧D.bk σ' H'
 | .cont=>∃ σ' H',Inv X pins σ' H' s'∧D.ct σ' H'
 | .ret u=>∃ v σ' H',Inv X pins σ' H' s'∧RelV v u∧D.rt v H'
def PE (X:Cx) (e:Expr) (t:TE):Prop :=
 ∀ (pins:List (Addr × Obj)) (s:Shared) (σ:St) (H:Hp) (Q:VK),Inv X pins σ H s→t σ H Q→wpAny (model X.prog X.w) X.A (eval e X.env) (EP X pins σ Q) X.xe s
def PT (X:Cx) (e:Expr) (t:TT):Prop :=
 ∀ (pins:List (Addr × Obj)) (s:Shared) (σ:St) (H:Hp) (Q:Bool→Hp→Prop),Inv X pins σ H s→t σ H Q→wpAny (model X.prog X.w) X.A (isTrue e X.env (eval e X.env)) (TP X pins σ Q) X.xe s
def PW (X:Cx) (e:Expr) (t:TT):Prop :=
 ∀ (whole:Sem Value) (pins:List (Addr × Obj)) (s:Shared) (σ:St) (H:Hp) (Q:Bool→Hp→Prop),Inv X pins σ H s→t σ H Q→wpAny (model X.prog X.w) X.A (isTrue e X.env whole) (TP X pins σ Q) X.xe s
theorem PW.pt {X:Cx} {e:Expr} {t:TT} (h:PW X e t):PT X e t:=h _
def PA (X:Cx) (es:List Expr) (t:TA):Prop :=
 ∀ (pos:Pos) (pins:List (Addr × Obj)) (s:Shared) (σ:St) (H:Hp) (Q:List V→Hp→Prop),Inv X pins σ H s→t σ H Q→wpAny (model X.prog X.w) X.A (spliced (backTo pos (starEach es X.env))) (AP X pins σ Q) X.xe s
def PS (X:Cx) (st:Stmt) (t:TS):Prop :=
 ∀ (pins:List (Addr × Obj)) (s:Shared) (σ:St) (H:Hp) (D:Ends),Inv X pins σ H s→t D σ H→wpAny (model X.prog X.w) X.A (exec st X.env) (SP X pins D) X.xe s
def PSs (X:Cx) (st:List Stmt) (t:TS):Prop :=
 ∀ (pins:List (Addr × Obj)) (s:Shared) (σ:St) (H:Hp) (D:Ends),Inv X pins σ H s→t D σ H→wpAny (model X.prog X.w) X.A (execs st X.env) (SP X pins D) X.xe s
theorem thn {α:Type} {t:Sem α} {Q Q':α→Shared→Prop} {M:Model} {A:Around} {E:Value→Shared→Prop} {s:Shared} (h:wpAny M A t Q E s) (hQ:∀ a s,Q a s→Q' a s):wpAny M A t Q' E s:=wpAny_mono h hQ fun _ _ x=>x
end L2
namespace L2
open PySem PySem.Spec PyProof.Rows
section
variable {X:Cx}
theorem bin {a b:Expr} {ta tb:TE} (ha:PE X a ta) (hb:PE X b tb) {pins:List (Addr × Obj)} {s:Shared} {σ:St} {H:Hp} {R:V→V→Hp→Prop} (I:Inv X pins σ H s) (h:ta σ H fun x H1=>tb σ H1 fun y H2=>R x y H2)
  {α:Type} {Q:α→Shared→Prop} {f:Value→Value→Sem α}
  (hf:∀ v u s2 x y H2,Inv X pins σ H2 s2→RelV x v→RelV y u→R x y H2→wpAny (model X.prog X.w) X.A (f v u) Q X.xe s2) :
  wpAny (model X.prog X.w) X.A (eval a X.env) (fun v s₁=>wpAny (model X.prog X.w) X.A (eval b X.env) (fun u s₂=>wpAny (model X.prog X.w) X.A (f v u) Q X.xe s₂) X.xe s₁) X.xe s:=by
 refine thn (ha pins s σ H _ I h) fun v s1 ⟨x,H1,I1,r1,q1⟩=>?_
 refine thn (hb pins s1 σ H1 _ I1 q1) fun u s2 ⟨y,H2,I2,r2,q2⟩=>?_
 exact hf v u s2 x y H2 I2 r1 r2 q2
def tVar (i:Nat):TE:=fun σ H Q=>∃ v,σ[i]? = some (some v)∧Q v H
def tC (v:V):TE:=fun _ H Q=>Q v H
theorem pe_var {i:Nat} {x:Str} {pos:Pos} (hN:X.N[i]? = some x) (hv:Vis X.env.scope x) (hd:(x == ("__debug__":Str))=false:=by decide) (hcd:(x == ("__classdict__":Str))=false:=by decide):PE X (.Name x pos) (tVar i):=by
 intro pins s σ H Q I h
 obtain ⟨v,e,h⟩:=h
 obtain ⟨m,hn,hl⟩:=I.loc
 obtain ⟨u,r,l⟩:=hl i x v hN e hv
 have fin:EP X pins σ Q u s:=⟨v,H,I,r,h⟩
 rcases l with ⟨hk,hm⟩ | ⟨hk,c,hc,hcell⟩
 ·exact wpAny_Name (wpAny_loadName_local I.ok.kind hk hn hm fin) hd
 ·rcases hk with hk | hk
  ·exact wpAny_Name (wpAny_loadName_cell I.ok.kind hk hc hcell fin) hd
  ·exact wpAny_Name (wpAny_loadName_free I.ok.kind hk hc hcell fin hcd) hd
theorem pe_int {i j pos}:PE X (.Constant (.int i) j pos) (tC (.int i)):=fun _ _ _ H _ I h=>wpAny_Constant_int ⟨.int i,H,I.tok _,⟨_,rfl⟩,h⟩
theorem pe_bl {b j pos}:PE X (.Constant (.bool b) j pos) (tC (.bl b)):=fun _ _ _ H _ I h=>Constant_bool ⟨.bl b,H,I,rfl,h⟩
theorem pe_non {j pos}:PE X (.Constant .none j pos) (tC .non):=fun _ _ _ H _ I h=>Constant_none ⟨.non,H,I,rfl,h⟩
theorem pe_str {x j pos}:PE X (.Constant (.str x) j pos) (tC (.str x)):=fun _ _ _ H _ I h=>Calls.Constant_str ⟨.str x,H,I.tok _,⟨_,rfl⟩,h⟩
def Gl (X:Cx) (x:Str):Prop:=X.env.kindOf x=some .globalImplicit
theorem ld_glob {E:Value→Shared→Prop} {pins:List (Addr × Obj)} {s:Shared} {σ:St} {H:Hp} {x:Str} {u:Value} {pos:Pos} {Q:Value→Shared→Prop} (I:Inv X pins σ H s) (hg:Gl X x) (hm:X.mg x=some u) (h:Q u s)
  (hd:(x == ("__debug__":Str))=false:=by decide):wpAny (model X.prog X.w) X.A (eval (.Name x pos) X.env) Q E s :=
 Calls.Name_function_global I.ok.kind hg (Calls.loadGlobal_global (by rw [I.ok.glob];exact I.mod.glob.keeps I.bk) hm h) hd
theorem ld_blt {E:Value→Shared→Prop} {pins:List (Addr × Obj)} {s:Shared} {σ:St} {H:Hp} {x:Str} {u:Value} {pos:Pos} {Q:Value→Shared→Prop} (I:Inv X pins σ H s) (hg:Gl X x) (hm:X.mg x=none) (hv:bootBuiltins x=some u) (h:Q u s)
  (hn:x≠"__name__":=by decide) (hd:(x == ("__debug__":Str))=false:=by decide):wpAny (model X.prog X.w) X.A (eval (.Name x pos) X.env) Q E s:=by
 obtain ⟨mb,h1,h2⟩:=I.mod.blt
 exact Calls.Name_function_global I.ok.kind hg (Calls.loadGlobal_builtin (by rw [I.ok.glob];exact I.mod.glob.keeps I.bk) hm (by rw [I.ok.blt];exact h1.keeps I.bk) ((h2 x hn).trans hv) h) hd
theorem pe_glob {x:Str} {v:V} {u:Value} {pos:Pos} (hg:Gl X x) (hm:X.mg x=some u) (r:RelV v u) (hd:(x == ("__debug__":Str))=false:=by decide):PE X (.Name x pos) (tC v) :=
 fun _ _ _ H _ I h=>ld_glob I hg hm ⟨v,H,I,r,h⟩ hd
theorem pe_bltn {x:Str} {v:V} {u:Value} {pos:Pos} (hg:Gl X x) (hm:X.mg x=none) (hv:bootBuiltins x=some u) (r:RelV v u) (hn:x≠"__name__":=by decide) (hd:(x == ("__debug__":Str))=false:=by decide):PE X (.Name x pos) (tC v) :=
 fun _ _ _ H _ I h=>ld_blt I hg hm hv ⟨v,H,I,r,h⟩ hn hd
def t2I (ta tb:TE) (k:Int→Int→Hp→Prop):St→Hp→Prop:=fun σ H=>ta σ H fun x H1=>tb σ H1 fun y H2=>∃ i j,x = .int i∧y = .int j∧k i j H2
variable {a b:Expr} {ta tb:TE} {pos:Pos}
def PC (X:Cx) (op:CmpOp) (a b:Expr) (t:TE):Prop :=
 ∀ (pins:List (Addr × Obj)) (s:Shared) (σ:St) (H:Hp) (Q:VK),Inv X pins σ H s→t σ H Q →
  wpAny (model X.prog X.w) X.A (eval a X.env) (fun v s₁=>wpAny (model X.prog X.w) X.A (eval b X.env) (fun u s₂=>wpAny (model X.prog X.w) X.A (compareOp op v u) (EP X pins σ Q) X.xe s₂) X.xe s₁) X.xe s
theorem nobehind (b:Expr) {op:CmpOp} (h:op≠.In) (h2:op≠.NotIn):behindInMarks op b=false:=by
 have e1:(op == CmpOp.In)=false:=by cases op <;> first | rfl | exact absurd rfl h
 have e2:(op == CmpOp.NotIn)=false:=by cases op <;> first | rfl | exact absurd rfl h2
 cases b <;> simp [behindInMarks,e1,e2]
def tCmp (p:Int→Int→Bool) (ta tb:TE):TE:=fun σ H Q=>t2I ta tb (fun i j H2=>Q (.bl (p i j)) H2) σ H
abbrev tLt:TE→TE→TE:=tCmp fun i j=>decide (i<j)
abbrev tLe:TE→TE→TE:=tCmp fun i j=>decide (i≤j)
abbrev tGt:TE→TE→TE:=tCmp fun i j=>decide (j<i)
abbrev tGe:TE→TE→TE:=tCmp fun i j=>decide (j≤i)
abbrev tEqI:TE→TE→TE:=tCmp fun i j=>decide (i=j)
abbrev tNeI:TE→TE→TE:=tCmp fun i j=>!decide (i=j)
theorem pc_int {op:CmpOp} {p:Int→Int→Bool} (ha:PE X a ta) (hb:PE X b tb)
  (rule:∀ (i j:Int) (t u:Tok) (Q:Value→Shared→Prop) (s:Shared),Q (.bool (p i j)) s→wpAny (model X.prog X.w) X.A (compareOp op (.int i t) (.int j u)) Q X.xe s):PC X op a b (tCmp p ta tb):=by
 intro pins s σ H Q I h
 refine bin ha hb I h fun v u s2 x y H2 I2 rx ry q=>?_
 obtain ⟨i,j,rfl,rfl,q⟩:=q
 obtain ⟨t,rfl⟩:=rx
 obtain ⟨t',rfl⟩:=ry
 exact rule i j t t' _ s2 ⟨.bl _,H2,I2,rfl,q⟩
theorem pc_lt (ha:PE X a ta) (hb:PE X b tb):PC X .Lt a b (tLt ta tb):=pc_int ha hb fun _ _ _ _ _ _ h=>lt_int h
theorem pc_le (ha:PE X a ta) (hb:PE X b tb):PC X .LtE a b (tLe ta tb):=pc_int ha hb fun _ _ _ _ _ _ h=>le_int h
theorem pc_gt (ha:PE X a ta) (hb:PE X b tb):PC X .Gt a b (tGt ta tb):=pc_int ha hb fun _ _ _ _ _ _ h=>gt_int h
theorem pc_ge (ha:PE X a ta) (hb:PE X b tb):PC X .GtE a b (tGe ta tb):=pc_int ha hb fun _ _ _ _ _ _ h=>ge_int h
theorem pc_eqI (ha:PE X a ta) (hb:PE X b tb):PC X .Eq a b (tEqI ta tb):=pc_int ha hb fun _ _ _ _ _ _ h=>eq_int (by rw [Bool.beq_eq_decide_eq];exact h)
theorem pc_neI (ha:PE X a ta) (hb:PE X b tb):PC X .NotEq a b (tNeI ta tb):=pc_int ha hb fun _ _ _ _ _ _ h=>ne_int (by rw [bne,Bool.beq_eq_decide_eq];exact h)
def tIsN (ta:TE):TE:=fun σ H Q=>ta σ H fun x H1=>Q (.bl (decide (x = .non))) H1
def tNotN (ta:TE):TE:=fun σ H Q=>ta σ H fun x H1=>Q (.bl (!decide (x = .non))) H1
theorem RelV.none_iff {x:V} {v:Value} (r:RelV x v):(v == Value.none)=decide (x = .non):=by
 cases x with
 | non=>cases r;rfl
 | bl _=>cases r;rfl
 | int _=>obtain ⟨t,rfl⟩:=r;rfl
 | str _=>obtain ⟨t,rfl⟩:=r;rfl
 | byt _=>obtain ⟨t,rfl⟩:=r;rfl
 | flt _=>obtain ⟨t,rfl⟩:=r;rfl
 | ref _=>cases r;rfl
 | ty _=>cases r;rfl
theorem pc_isN {j pos'} (ha:PE X a ta):PC X .Is a (.Constant .none j pos') (tIsN ta):=by
 intro pins s σ H Q I h
 refine thn (ha pins s σ H _ I h) fun v s1 ⟨x,H1,I1,r1,q1⟩=>?_
 exact Constant_none (is_none_gen ⟨.bl _,H1,I1,by rw [r1.none_iff];rfl,q1⟩)
theorem pc_notN {j pos'} (ha:PE X a ta):PC X .IsNot a (.Constant .none j pos') (tNotN ta):=by
 intro pins s σ H Q I h
 refine thn (ha pins s σ H _ I h) fun v s1 ⟨x,H1,I1,r1,q1⟩=>?_
 exact Constant_none (isnot_none_gen ⟨.bl _,H1,I1,by rw [r1.none_iff];rfl,q1⟩)
def tB (t:TE):TT:=fun σ H Q=>t σ H fun x H1=>∃ c,x = .bl c∧Q c H1
theorem pe_cmp {op:CmpOp} {t:TE} (h:PC X op a b t) (h1:behindInMarks op b=false:=by first | exact nobehind _ (by decide) (by decide) | rfl):PE X (.Compare a [op] [b] pos) t:=fun pins s σ H Q I hw=>wpAny_Compare1 (h pins s σ H Q I hw) h1
theorem pt_cmp {op:CmpOp} {t:TE} (h:PC X op a b t) (h1:behindInMarks op b=false:=by first | exact nobehind _ (by decide) (by decide) | rfl):PT X (.Compare a [op] [b] pos) (tB t):=by
 intro pins s σ H Q I hw
 refine wpAny_isTrue_Compare1 (thn (h pins s σ H _ I hw) fun v s1 h1=>thn h1 fun u s2 h2=>thn h2 fun c s3 ⟨x,H1,I1,r1,q1⟩=>?_) h1
 obtain ⟨d,rfl,q⟩:=q1
 cases r1
 exact wpAny_truthy_bool ⟨H1,I1,q⟩
theorem pt_val {e:Expr} {t:TE} (h:PE X e t) (he:∀ whole,isTrue e X.env whole=(do let v ← whole;standAt e.pos;holding [v] (truthy v)):=by intro _;rfl):PT X e (tB t):=by
 intro pins s σ H Q I hw
 refine isTrue_plain (thn (h pins s σ H _ I hw) fun v s1 ⟨x,H1,I1,r1,q1⟩=>?_) (he _)
 obtain ⟨d,rfl,q⟩:=q1
 cases r1
 exact wpAny_truthy_bool ⟨H1,I1,q⟩
variable {tA tB':TT} {rest:List Expr}
def tAnd (t u:TT):TT:=fun σ H Q=>t σ H fun c H1=>if c=true then u σ H1 Q else Q false H1
def tOr (t u:TT):TT:=fun σ H Q=>t σ H fun c H1=>if c=true then Q true H1 else u σ H1 Q
def tNot (t:TT):TT:=fun σ H Q=>t σ H fun c H1=>Q (!c) H1
theorem pw_and1 (ha:PT X a tA):PW X (.BoolOp .And [a] pos) tA:=by
 intro wh pins s σ H Q I h
 refine isTrue_and (thn (ha pins s σ H Q I h) fun c s1 e=>?_)
 cases c with
 | true=>exact isTrue_and_nil e
 | false=>exact e
theorem pw_or1 (ha:PT X a tA):PW X (.BoolOp .Or [a] pos) tA:=by
 intro wh pins s σ H Q I h
 refine isTrue_or (thn (ha pins s σ H Q I h) fun c s1 e=>?_)
 cases c with
 | false=>exact isTrue_or_nil e
 | true=>exact e
theorem pw_and (ha:PT X a tA) (hb:PW X (.BoolOp .And (b::rest) pos) tB'):PW X (.BoolOp .And (a::b::rest) pos) (tAnd tA tB'):=by
 intro wh pins s σ H Q I h
 refine isTrue_and (thn (ha pins s σ H _ I h) fun c s1 ⟨H1,I1,q1⟩=>?_)
 cases c with
 | true=>exact hb wh pins s1 σ H1 Q I1 q1
 | false=>exact ⟨H1,I1,q1⟩
theorem pw_or (ha:PT X a tA) (hb:PW X (.BoolOp .Or (b::rest) pos) tB'):PW X (.BoolOp .Or (a::b::rest) pos) (tOr tA tB'):=by
 intro wh pins s σ H Q I h
 refine isTrue_or (thn (ha pins s σ H _ I h) fun c s1 ⟨H1,I1,q1⟩=>?_)
 cases c with
 | true=>exact ⟨H1,I1,q1⟩
 | false=>exact hb wh pins s1 σ H1 Q I1 q1
theorem pt_not (ha:PT X a tA):PT X (.UnaryOp .Not a pos) (tNot tA):=by
 intro pins s σ H Q I h
 exact isTrue_not (ha pins s σ H (fun c H1=>Q (!c) H1) I h)
def tAndV (ta tb:TE):TE:=fun σ H Q=>ta σ H fun x H1=>∃ c,x = .bl c∧if c=true then tb σ H1 Q else Q (.bl false) H1
def tNotV (ta:TE):TE:=fun σ H Q=>ta σ H fun x H1=>∃ c,x = .bl c∧Q (.bl (!c)) H1
theorem pe_one {op} {t:TE} (h:PE X a t):PE X (.BoolOp op [a] pos) t:=fun pins s σ H Q I hw=>BoolOp_one (h pins s σ H Q I hw)
theorem pe_and (ha:PE X a ta) (hb:PE X (.BoolOp .And (b::rest) pos) tb):PE X (.BoolOp .And (a::b::rest) pos) (tAndV ta tb):=by
 intro pins s σ H Q I h
 refine BoolOp_and (thn (ha pins s σ H _ I h) fun v s1 ⟨x,H1,I1,r1,q1⟩=>?_)
 obtain ⟨c,rfl,q1⟩:=q1
 cases r1
 refine wpAny_truthy_bool ?_
 cases c with
 | true=>exact hb pins s1 σ H1 Q I1 q1
 | false=>exact ⟨.bl false,H1,I1,rfl,q1⟩
theorem pe_not (ha:PE X a ta):PE X (.UnaryOp .Not a pos) (tNotV ta):=by
 intro pins s σ H Q I h
 refine UnaryOp_ (thn (ha pins s σ H _ I h) fun v s1 ⟨x,H1,I1,r1,q1⟩=>?_)
 obtain ⟨c,rfl,q1⟩:=q1
 cases r1
 exact not_of (wpAny_truthy_bool ⟨.bl (!c),H1,I1,rfl,q1⟩)
def tIf (t:TT) (ta tb:TE):TE:=fun σ H Q=>t σ H fun c H1=>if c=true then ta σ H1 Q else tb σ H1 Q
theorem pe_ifExp {c:Expr} (hc:PT X c tA) (ha:PE X a ta) (hb:PE X b tb):PE X (.IfExp c a b pos) (tIf tA ta tb):=by
 intro pins s σ H Q I h
 refine wpAny_IfExp (thn (hc pins s σ H _ I h) fun d s1 ⟨H1,I1,q1⟩=>?_)
 cases d with
 | true=>exact ha pins s1 σ H1 Q I1 q1
 | false=>exact hb pins s1 σ H1 Q I1 q1
end
end L2
namespace L2
open PySem PySem.Spec PyProof.Rows
def SqL (K:PySem.W.Frag) (H:Hp) (a:Addr) (xs:List V):Prop :=
 Rd H a (.lst xs) ∨
  ∃ (o:Obj) (its:Array Value) (n:Nat),K.lookup a=some o∧o.cls = .type "list"∧o.dict=none∧o.data = .seq its n∧its.size≤sizeLine∧Vals xs its.toList
def SqT (K:PySem.W.Frag) (H:Hp) (a:Addr) (xs:List V):Prop :=
 Rd H a (.tup xs) ∨
  ∃ (o:Obj) (its:Array Value) (n:Nat),K.lookup a=some o∧o.cls = .type "tuple"∧o.data = .seq its n∧its.size≤sizeLine∧Vals xs its.toList
def absV:Value→Option V
 | .none=>some .non
 | .bool b=>some (.bl b)
 | .int i _=>some (.int i)
 | .str x _=>some (.str x)
 | .bytes b _=>some (.byt b)
 | .float b _=>some (.flt b)
 | .ref a=>some (.ref a)
 | .type n=>some (.ty n)
 | _=>none
theorem RelV.abs {x:V} {u:Value} (r:RelV x u):absV u=some x:=by
 cases x with
 | non=>cases r;rfl
 | bl _=>cases r;rfl
 | int _=>obtain ⟨t,rfl⟩:=r;rfl
 | str _=>obtain ⟨t,rfl⟩:=r;rfl
 | byt _=>obtain ⟨t,rfl⟩:=r;rfl
 | flt _=>obtain ⟨t,rfl⟩:=r;rfl
 | ref _=>cases r;rfl
 | ty _=>cases r;rfl
theorem RelV.inj {x y:V} {u:Value} (r:RelV x u) (q:RelV y u):x=y:=Option.some.inj (r.abs.symm.trans q.abs)
theorem Vals.inj:∀ {xs ys:List V} {us:List Value},Vals xs us→Vals ys us→xs=ys
 | _,_,_,.nil,.nil=>rfl
 | _,_,_,.cons r t,.cons r' t'=>by rw [r.inj r',Vals.inj t t']
section
variable {X:Cx} {pins:List (Addr × Obj)} {σ:St} {H:Hp} {s:Shared} {a:Addr} {xs ys:List V}
theorem SqL.of {K:PySem.W.Frag} (h:H a=some (.lst xs)):SqL K H a xs:=.inl (.inl h)
theorem SqT.of {K:PySem.W.Frag} (h:H a=some (.tup xs)):SqT K H a xs:=.inl (.inl h)
theorem Inv.list (I:Inv X pins σ H s) (h:SqL X.K H a xs):∃ its:List Value,Vals xs its∧PlainL s.heap a its.toArray∧xs.length≤sizeLine:=by
 rcases h with h | ⟨o,its,n,hk,hc,hd,hs,hz,r⟩
 ·obtain ⟨z,its,n,r,e⟩:=h.ok I.hok
  exact ⟨its,r,⟨_,n,e,rfl,rfl,rfl⟩,z⟩
 ·refine ⟨its.toList,r,⟨o,n,I.kIn a o hk,hc,hd,by simpa using hs⟩,?_⟩
  have e:=r.length
  simp only [Array.length_toList] at e
  omega
theorem Inv.tuple (I:Inv X pins σ H s) (h:SqT X.K H a xs):∃ its:List Value,Vals xs its∧IsTup s.heap a its.toArray∧xs.length≤sizeLine:=by
 rcases h with h | ⟨o,its,n,hk,hc,hs,hz,r⟩
 ·obtain ⟨z,its,r,p⟩:=h.ok I.hok
  exact ⟨its,r,p,z⟩
 ·refine ⟨its.toList,r,⟨o,I.kIn a o hk,hc,n,by simpa using hs⟩,?_⟩
  have e:=r.length
  simp only [Array.length_toList] at e
  omega
theorem Inv.list_inj (I:Inv X pins σ H s) (h:SqL X.K H a xs) (h':SqL X.K H a ys):xs=ys:=by
 obtain ⟨its,r,⟨o,n,e,_,_,d⟩,_⟩:=I.list h
 obtain ⟨its',r',⟨o',n',e',_,_,d'⟩,_⟩:=I.list h'
 rw [e] at e';cases e'
 rw [d] at d'
 injection d' with d1 _
 have:its=its':=by simpa using congrArg Array.toList d1
 subst this
 exact r.inj r'
theorem Inv.tuple_inj (I:Inv X pins σ H s) (h:SqT X.K H a xs) (h':SqT X.K H a ys):xs=ys:=by
 obtain ⟨its,r,⟨o,e,_,n,d⟩,_⟩:=I.tuple h
 obtain ⟨its',r',⟨o',e',_,n',d'⟩,_⟩:=I.tuple h'
 rw [e] at e';cases e'
 rw [d] at d'
 injection d' with d1 _
 have:its=its':=by simpa using congrArg Array.toList d1
 subst this
 exact r.inj r'
end
abbrev Cx.wish (X:Cx) (E:Value→Shared→Prop):Cx:={ X with xe:=E }
abbrev Cx.nox (X:Cx):Cx:=X.wish fun _ _=>False
theorem Cx.Ok.wish {X:Cx} (ok:X.Ok) (E:Value→Shared→Prop):(X.wish E).Ok :=
 ⟨ok.mod,ok.kind,ok.glob,ok.blt,ok.above,ok.inj,ok.has,ok.cab,ok.hd,ok.frames,ok.stk,ok.exf,ok.bs,ok.bsz,ok.noex,ok.exfs,ok.funs,ok.frf⟩
theorem Cx.Ok.unwish {X:Cx} {E:Value→Shared→Prop} (ok:(X.wish E).Ok):X.Ok :=
 ⟨ok.mod,ok.kind,ok.glob,ok.blt,ok.above,ok.inj,ok.has,ok.cab,ok.hd,ok.frames,ok.stk,ok.exf,ok.bs,ok.bsz,ok.noex,ok.exfs,ok.funs,ok.frf⟩
section
variable {X:Cx} {pins:List (Addr × Obj)} {σ:St} {H:Hp} {s:Shared} {E:Value→Shared→Prop}
theorem Inv.wish (I:Inv X pins σ H s) (E:Value→Shared→Prop):Inv (X.wish E) pins σ H s:=⟨I.ok.wish E,I.os,I.bare,I.base,I.loc,I.cell,I.free,I.freeC,I.pin,I.hok,I.len⟩
theorem Inv.unwish (I:Inv (X.wish E) pins σ H s):Inv X pins σ H s:=⟨I.ok.unwish,I.os,I.bare,I.base,I.loc,I.cell,I.free,I.freeC,I.pin,I.hok,I.len⟩
theorem SP.unwish {D:Ends} {f:Flow} {s':Shared} (h:SP (X.wish E) pins D f s'):SP X pins D f s':=by
 cases f with
 | next=>obtain ⟨σ',H',I,q⟩:=h;exact ⟨σ',H',I.unwish,q⟩
 | brk=>obtain ⟨σ',H',I,q⟩:=h;exact ⟨σ',H',I.unwish,q⟩
 | cont=>obtain ⟨σ',H',I,q⟩:=h;exact ⟨σ',H',I.unwish,q⟩
 | ret u=>obtain ⟨v,σ',H',I,r,q⟩:=h;exact ⟨v,σ',H',I.unwish,r,q⟩
theorem PSs.nox {st:List Stmt} {t:TS} (h:PSs X.nox st t):PSs X st t:=fun pins s σ H D I hw =>
 wpAny_mono (h pins s σ H D (I.wish _) hw) (fun _ _ q=>q.unwish) fun _ _ z=>False.elim z
end
section
variable {X:Cx} {st:Stmt} {rest:List Stmt} {t u:TS} {e:Expr} {te:TE} {pos:Pos}
def tNext:TS:=fun D σ H=>D.nx σ H
def tSeq (t u:TS):TS:=fun D σ H=>t { D with nx:=u D } σ H
theorem pss_nil:PSs X [] tNext:=fun _ _ σ H _ I h=>wpAny_execs_nil ⟨σ,H,I,h⟩
theorem pss_cons (h1:PS X st t) (h2:PSs X rest u):PSs X (st::rest) (tSeq t u):=by
 intro pins s σ H D I h
 refine wpAny_execs_cons (thn (h1 pins s σ H { D with nx:=u D } I h) fun f s1 q=>?_)
 cases f with
 | next =>
  obtain ⟨σ',H',I',q⟩:=q
  exact h2 pins s1 σ' H' D I' q
 | ret v=>exact q
 | brk=>exact q
 | cont=>exact q
theorem pss_one (h1:PS X st t):PSs X [st] t:=by
 intro pins s σ H D I h
 refine wpAny_execs_cons (thn (h1 pins s σ H D I h) fun f s1 q=>?_)
 cases f with
 | next=>exact wpAny_execs_nil q
 | ret v=>exact q
 | brk=>exact q
 | cont=>exact q
theorem Inv.quiet {pins:List (Addr × Obj)} {σ:St} {H:Hp} {s:Shared} (I:Inv X pins σ H s):interactive X.env=false:=by simp [interactive,I.ok.kind]
def tDrop (te:TE):TS:=fun D σ H=>te σ H fun _ H1=>D.nx σ H1
theorem ps_expr (he:PE X e te) (hs:swapsWith e none pos.line X.env=pure false:=by rfl):PS X (.Expr e pos) (tDrop te):=by
 intro pins s σ H D I h
 exact wpAny_Expr_any (thn (he pins s σ H _ I h) fun v s1 ⟨x,H1,I1,r1,q1⟩=>⟨σ,H1,I1,q1⟩) I.quiet hs
def tRet (te:TE):TS:=fun D σ H=>te σ H D.rt
theorem ps_ret (he:PE X e te):PS X (.Return (some e) pos) (tRet te):=by
 intro pins s σ H D I h
 exact wpAny_Return_some (thn (he pins s σ H _ I h) fun v s1 ⟨x,H1,I1,r1,q1⟩=>⟨x,σ,H1,I1,r1,q1⟩)
def tIfS (c:TT) (t u:TS):TS:=fun D σ H=>c σ H fun b H1=>if b=true then t D σ H1 else u D σ H1
theorem ps_if {c:Expr} {a b:List Stmt} {tc:TT} (hc:PT X c tc) (ha:PSs X a t) (hb:PSs X b u):PS X (.If c a b pos) (tIfS tc t u):=by
 intro pins s σ H D I h
 refine wpAny_If (thn (hc pins s σ H _ I h) fun d s1 ⟨H1,I1,q1⟩=>?_)
 cases d with
 | true=>exact ha pins s1 σ H1 D I1 q1
 | false=>exact hb pins s1 σ H1 D I1 q1
end
abbrev TG:=V→St→Hp→(St→Hp→Prop)→Prop
abbrev TGs:=List V→St→Hp→(St→Hp→Prop)→Prop
def PG (X:Cx) (target:Expr) (t:TG):Prop :=
 ∀ (pins:List (Addr × Obj)) (s:Shared) (σ:St) (H:Hp) (v:V) (u:Value) (Q:St→Hp→Prop),Inv X pins σ H s→RelV v u→t v σ H Q →
  wpAny (model X.prog X.w) X.A (assign target X.env u) (fun _ s'=>∃ σ' H',Inv X pins σ' H' s'∧Q σ' H') X.xe s
def PGs (X:Cx) (ts:List Expr) (t:TGs):Prop :=
 ∀ (pins:List (Addr × Obj)) (s:Shared) (σ:St) (H:Hp) (vs:List V) (us:List Value) (Q:St→Hp→Prop),Inv X pins σ H s→Vals vs us→t vs σ H Q →
  wpAny (model X.prog X.w) X.A (assignInOrder ((assignEach ts X.env).map (·.2)) us) (fun _ s'=>∃ σ' H',Inv X pins σ' H' s'∧Q σ' H') X.xe s
section
variable {X:Cx} {pos:Pos}
def gName (i:Nat):TG:=fun v σ H Q=>Q (σ.set i (some v)) H
theorem pg_name {i:Nat} {x:Str} (hN:X.N.Nodup) (hi:X.N[i]? = some x) (hx:Loc X.env.scope x) (hf:X.fn x=true∨X.env.scope.names.lookup x=some .local:=by first | exact .inl rfl | exact .inr rfl | assumption):PG X (.Name x pos) (gName i):=by
 intro pins s σ H v u Q I r h
 exact wpAny_assign_Name (store_ok I hN hi hx r (fun s' I'=>⟨_,H,I',h⟩) hf)
def gNil:TGs:=fun vs σ H Q=>vs=[]∧Q σ H
def gCons (t:TG) (u:TGs):TGs:=fun vs σ H Q=>∃ v r,vs=v::r∧t v σ H fun σ' H'=>u r σ' H' Q
theorem pgs_nil:PGs X [] gNil:=by
 intro pins s σ H vs us Q I r h
 obtain ⟨e,h⟩:=h
 subst e
 cases r
 exact assignInOrder_nil ⟨σ,H,I,h⟩
theorem pgs_cons {e:Expr} {es:List Expr} {t:TG} {u:TGs} (h1:PG X e t) (h2:PGs X es u)
  (hs:(assignEach (e::es) X.env).map (·.2)=assign e X.env::(assignEach es X.env).map (·.2):=by rfl):PGs X (e::es) (gCons t u):=by
 intro pins s σ H vs us Q I r h
 obtain ⟨v,vr,e1,h⟩:=h
 subst e1
 cases r with
 | cons r rr =>
  rw [hs]
  refine assignInOrder_cons (thn (h1 pins s σ H _ _ _ I r h) fun _ s1 ⟨σ1,H1,I1,q1⟩=>?_)
  exact h2 pins s1 σ1 H1 _ _ Q I1 rr q1
def gTup (K:PySem.W.Frag) (n:Nat) (t:TGs):TG:=fun v σ H Q=>∃ a xs,v = .ref a∧SqT K H a xs∧xs.length=n∧t xs σ H Q
theorem pg_tup {es:List Expr} {k:Nat} {t:TGs} {n:Nat} (hc:X.calm=true) (h:PGs X es t)
  (hn:(assignEach es X.env).length=n:=by rfl) (hst:(assignEach es X.env).findIdx? (·.1)=none:=by rfl):PG X (.Tuple es k pos) (gTup X.K n t):=by
 intro pins s σ H v u Q I r hw
 obtain ⟨a,xs,e1,hq,hl,hw⟩:=hw
 subst e1
 cases r
 obtain ⟨its,rv,ht,hz⟩:=I.tuple hq
 refine assign_Tuple_tuple (I.ok.hd hc) ht (by simp [hn,← hl,rv.length]) hst fun h' hx=>?_
 have I1:Inv X pins σ H { s with heap:=h' }:=I.kept (t':=s.toks) fun b o e=>hx b o (Nat.ne_of_lt (Heap.lt_size e)) e
 exact h pins _ σ H xs _ Q I1 (by simpa using rv) hw
def tAsg (te:TE) (g:TG):TS:=fun D σ H=>te σ H fun x H1=>g x σ H1 D.nx
theorem ps_set {i:Nat} {x:Str} {e:Expr} {te:TE} {pos':Pos} (hN:X.N.Nodup) (hi:X.N[i]? = some x) (hx:Loc X.env.scope x) (he:PE X e te) (hs:swapsWith e (some (.Name x pos')) pos.line X.env=pure false:=by rfl) (hf:X.fn x=true∨X.env.scope.names.lookup x=some .local:=by first | exact .inl rfl | exact .inr rfl | assumption) :
  PS X (.Assign [.Name x pos'] e pos) (tAsg te (gName i)):=by
 intro pins s σ H D I h
 refine wpAny_Assign_Name (thn (he pins s σ H _ I h) fun v s1 ⟨y,H1,I1,r1,q1⟩=>?_) hs
 exact store_ok I1 hN hi hx r1 (fun s2 I2=>⟨_,H1,I2,q1⟩) hf
def tPar (i j:Nat) (ta:TA):TS:=fun D σ H=>ta σ H fun vs H1=>∃ v w,vs=[v,w]∧D.nx ((σ.set i (some v)).set j (some w)) H1
theorem ps_par {i j:Nat} {x y:Str} {a b:Expr} {ta:TA} {px py pt:Pos} {kt k2 pt2} (hc:X.calm=true) (hN:X.N.Nodup) (hi:X.N[i]? = some x) (hj:X.N[j]? = some y) (hij:i≠j)
  (hx:X.env.scope.names.lookup x=some .local) (hy:X.env.scope.names.lookup y=some .local) (ha:PA X [a,b] ta)
  (hw:swappedStores [.Tuple [.Name x px,.Name y py] kt pt] (.Tuple [a,b] k2 pt2) X.env=pure (some [x,y]))
  (hs:swapsWithSole [.Tuple [.Name x px,.Name y py] kt pt] (.Tuple [a,b] k2 pt2) pos.line X.env=pure false:=by rfl) :
  PS X (.Assign [.Tuple [.Name x px,.Name y py] kt pt] (.Tuple [a,b] k2 pt2) pos) (tPar i j ta):=by
 intro pins s σ H D I h
 rw [exec_Assign_arm]
 refine wpAny_bind (wpAny_standAt ?_)
 rw [hs]
 refine wpAny_bind (wpAny_pure ?_)
 rw [if_neg (by decide)]
 refine wpAny_bind (Tuple_ (thn (ha _ pins s σ H _ I h) fun us s1 ⟨vs,H1,I1,r1,q1⟩=>?_))
 obtain ⟨v,w,e1,q1⟩:=q1
 subst e1
 obtain ⟨u1,u2,rfl,rv,rw'⟩:∃ u1 u2,us=[u1,u2]∧RelV v u1∧RelV w u2:=by
  cases r1 with
  | cons p q =>
   cases q with
   | cons p' q' =>
    cases q'
    exact ⟨_,_,rfl,p,p'⟩
 refine wpAny_newObj_type ?_ (by show 2≤sizeLine;decide)
 have I2:Inv X pins σ H1 { s1 with heap:=s1.heap.push { cls:=.type "tuple",data:=.seq [u1,u2].toArray } }:=I1.kept (t':=s1.toks) fun b o e=>Heap.get?_push_of_some _ e
 rw [hw]
 refine wpAny_bind (wpAny_pure ?_)
 show wpAny (model X.prog X.w) X.A (do rule "assign.swapped-stores";let items ← unpackItems (.ref s1.heap.objs.size) 2 none;assignInOrder [fun v=>bindName X.env y v,fun v=>bindName X.env x v] items.reverse;pure Flow.next) _ _ _
 refine wpAny_bind (wpAny_rule (wpAny_bind (unpackItems_tuple (items:=#[u1,u2]) (I.ok.hd hc) (IsTup.new s1.heap _) fun h' hx'=>?_)))
 have I3:=I2.kept (h':=h') (t':=s1.toks) fun b o e=>hx' b o (Nat.ne_of_lt (Heap.lt_size e)) e
 show wpAny _ _ (assignInOrder [fun v=>bindName X.env y v,fun v=>bindName X.env x v] [u2,u1] >>= fun _=>pure Flow.next) _ _ _
 refine wpAny_bind (assignInOrder_cons (wpAny_bindName (store_ok I3 hN hj (.inl hy) rw' (fun s2 I4=>?_) (.inr hy))))
 refine assignInOrder_cons (wpAny_bindName (store_ok I4 hN hi (.inl hx) rv (fun s3 I5=>assignInOrder_nil (wpAny_pure ?_)) (.inr hx)))
 rw [List.set_comm _ _ (Ne.symm hij)] at I5
 exact ⟨_,H1,I5,q1⟩
end
section
variable {X:Cx} {pos:Pos}
def tWhile (c:TT) (tb:TS):TS:=fun D σ H=>∃ W:Nat→St→Hp→Prop,(∃ m,W m σ H)∧∀ m σ H,W m σ H →
 c σ H fun b H1=>if b=true then ∃ N:St→Hp→Prop,(∀ σ' H',N σ' H'→∃ m',m'<m∧W m' σ' H')∧tb { D with nx:=N,ct:=N,bk:=D.nx } σ H1 else D.nx σ H1
theorem ps_while {c:Expr} {body:List Stmt} {tc:TT} {tb:TS} (hp:PassesOwn (model X.prog X.w) X.A X.env X.xe) (hc:PT X c tc) (hb:PSs X body tb):PS X (.While c body [] pos) (tWhile tc tb):=by
 intro pins s σ H D I h
 obtain ⟨W,⟨m0,w0⟩,turn⟩:=h
 refine wpAny_While (codeAny_whileLoop (fun n s'=>∃ σ' H',Inv X pins σ' H' s'∧W n σ' H') ?_ m0 ⟨σ,H,I,w0⟩)
 rintro n s1 ⟨σ1,H1,I1,w1⟩
 refine wpAny_passesOwn hp (thn (hc pins s1 σ1 H1 _ I1 (turn n σ1 H1 w1)) fun b s2 ⟨H2,I2,q2⟩=>?_)
 cases b with
 | true =>
  obtain ⟨N,hN,q2⟩:=q2
  rw [if_pos rfl]
  refine wpAny_passesOwn hp (thn (hb pins s2 σ1 H2 _ I2 q2) fun f s3 q3=>?_)
  cases f with
  | next =>
   obtain ⟨σ3,H3,I3,n3⟩:=q3
   obtain ⟨m',hm,w3⟩:=hN σ3 H3 n3
   exact ⟨m',hm,σ3,H3,I3,w3⟩
  | cont =>
   obtain ⟨σ3,H3,I3,n3⟩:=q3
   obtain ⟨m',hm,w3⟩:=hN σ3 H3 n3
   exact ⟨m',hm,σ3,H3,I3,w3⟩
  | brk=>exact q3
  | ret v=>exact q3
 | false =>
  rw [if_neg Bool.false_ne_true]
  exact wpAny_execs_nil ⟨σ1,H2,I2,q2⟩
end
structure It where
 go:Nat→Hp→Prop
 yld:Nat→Hp→V→Hp→Prop
 stop:Nat→Hp→Prop
def FpOk (X:Cx) (pins:List (Addr × Obj)) (H:Hp) (b:Addr):Prop :=
 H b=none∧b≠X.env.locals∧b ∉ X.fs∧(b∈X.ex∨X.s₀.heap.objs.size≤b)∧(∀ x c,X.env.cells.lookup x=some c→c≠b)∧∀ p∈X.pn++pins,p.1≠b
theorem Inv.fpOk {X:Cx} {pins:List (Addr × Obj)} {σ:St} {H H':Hp} {s:Shared} {b:Addr} (I:Inv X pins σ H s) (hb:s.heap.objs.size≤b) (hn:H' b=none):FpOk X pins H' b:=by
 refine ⟨hn,Nat.ne_of_gt (Nat.lt_of_lt_of_le I.lt hb),I.nofs hb,.inr (Nat.le_trans I.sz hb),fun x c e z=>?_,fun p hp z=>?_⟩
 ·obtain ⟨v,q⟩:=I.cell x c e
  exact absurd (Nat.lt_of_lt_of_le q.lt (by rw [z];exact hb)) (Nat.lt_irrefl _)
 ·exact absurd (Nat.lt_of_lt_of_le (Heap.lt_size (I.pin p hp).1) (by rw [z];exact hb)) (Nat.lt_irrefl _)
structure Turn (P:Program) (w:World) (K:PySem.W.Frag) (tg:Expr) (J:It) (fp:List Addr) (it:Addr) (tn:Nat→Heap→Prop):Prop where
 mem:it∈fp
 obj:∀ i h,tn i h→∀ b∈fp,∃ o,h.get? b=some o∧∀ v,o.data≠.cell v
 keep:∀ i h h',tn i h→(∀ b∈fp,∀ o,h.get? b=some o→h'.get? b=some o)→tn i h'
 item:∀ (X:Cx),X.prog=P→X.w=w→X.K=K→X.calm=true→∀ (i:Nat) (pins:List (Addr × Obj)) (s:Shared) (σ:St) (H:Hp) (E:Value→Shared→Prop),Inv X pins σ H s→(∀ b∈fp,FpOk X pins H b)→tn i s.heap→J.go i H →
  wpAny (model P w) X.A (pyNext (.ref it)) (fun r s1=>∃ u,r=some u ∧
   wpAny (model P w) X.A (letOwnedTupleGo tg (.ref it) u) (fun _ s2=>∃ x H',Inv X pins σ H' s2∧RelV x u∧J.yld i H x H'∧tn (i + 1) s2.heap∧∀ b∈fp,H' b=none) E s1) E s
 done:∀ (X:Cx),X.prog=P→X.w=w→X.K=K→X.calm=true→∀ (i:Nat) (pins:List (Addr × Obj)) (s:Shared) (σ:St) (H:Hp) (E:Value→Shared→Prop),Inv X pins σ H s→(∀ b∈fp,FpOk X pins H b)→tn i s.heap→J.stop i H →
  wpAny (model P w) X.A (pyNext (.ref it)) (fun r s1=>r=none∧Inv X pins σ H s1) E s
 self:∀ (A:Around) (i:Nat) (s:Shared) (Q:Value→Shared→Prop) (E:Value→Shared→Prop),tn i s.heap→Q (.ref it) s→wpAny (model P w) A (pyIter (.ref it)) Q E s
abbrev TI:=St→Hp→(It→Hp→Prop)→Prop
def PIE (X:Cx) (pins:List (Addr × Obj)) (σ:St) (tg:Expr) (R:It→Hp→Prop) (itv:Value) (s2:Shared):Prop :=
 ∃ (it:Addr) (fp:List Addr) (tn:Nat→Heap→Prop) (J:It) (H':Hp),itv = .ref it∧Inv X pins σ H' s2∧Turn X.prog X.w X.K tg J fp it tn∧tn 0 s2.heap∧(∀ b∈fp,FpOk X pins H' b)∧R J H'
def PI (X:Cx) (tg iter:Expr) (wi:TI):Prop :=
 ∀ (pins:List (Addr × Obj)) (s:Shared) (σ:St) (H:Hp) (R:It→Hp→Prop),Inv X pins σ H s→wi σ H R →
  wpAny (model X.prog X.w) X.A (eval iter X.env) (fun v s1=>wpAny (model X.prog X.w) X.A (pyIter v) (PIE X pins σ tg R) X.xe s1) X.xe s
theorem go_of {M : Model} {A : Around} {E : Value → Shared → Prop} {s : Shared} {tg : Expr} {it : Addr} {u : Value} {o : Obj} {n : String} {vs : Array Value} {Q : Unit → Shared → Prop} (ho : s.heap.get? it = some o) (hc : o.cls = .type n) (hd : o.data = .fields vs)
    (hn : ["enumerate", "zip", "dict_itemiterator", "dict_reverseitemiterator", "odict_iterator", "itertools.zip_longest", "itertools.pairwise"].contains n = false) (hQ : Q () s) : wpAny M A (letOwnedTupleGo tg (.ref it) u) Q E s := by
  unfold letOwnedTupleGo
  cases tg <;> first
    | exact wpAny_pure hQ
    | (cases u <;> first
        | exact wpAny_pure hQ
        | (refine wpAny_bind (wpAny_load ho ?_)
           rw [hc, hd]
           show wpAny M A (if (["enumerate", "zip", "dict_itemiterator", "dict_reverseitemiterator", "odict_iterator", "itertools.zip_longest", "itertools.pairwise"].contains n && vs[0]? == some (rawInt _)) = true then _ else _) Q E s
           rw [if_neg (by intro h; rw [hn, Bool.false_and] at h; cases h)]
           exact wpAny_pure hQ))
def Itl (K:PySem.W.Frag) (a:Addr):It :=
 ⟨fun i H=>∃ xs x,SqL K H a xs∧xs[i]? = some x,fun i H x H'=>H'=H∧∀ xs,SqL K H a xs→xs[i]? = some x,fun i H=>∃ xs,SqL K H a xs∧xs.length≤i⟩
def Itt (K:PySem.W.Frag) (a:Addr):It :=
 ⟨fun i H=>∃ xs x,SqT K H a xs∧xs[i]? = some x,fun i H x H'=>H'=H∧∀ xs,SqT K H a xs→xs[i]? = some x,fun i H=>∃ xs,SqT K H a xs∧xs.length≤i⟩
def Itr (lo:Int) (n:Nat):It:=⟨fun i _=>i<n,fun i H x H'=>H'=H∧x = .int (lo + i),fun i _=>n≤i⟩
theorem turn_list {P:Program} {w:World} {K:PySem.W.Frag} {tg:Expr} (a it:Addr):Turn P w K tg (Itl K a) [it] it (fun i h=>h.IsListIter it a i) where
 mem:=by simp
 obj:=fun i h st b hb=>by
  have e:b=it:=by simpa using hb
  subst e
  obtain ⟨o,e,c,d⟩:=st
  exact ⟨o,e,fun v z=>by rw [d] at z;cases z⟩
 keep:=fun i h h' st k=>st.at fun o e=>k it (by simp) o e
 item:=by
  intro X hP hw hK hc i pins s σ H E I hf st hg
  subst hP hw hK
  obtain ⟨xs,x,hq,hx⟩:=hg
  obtain ⟨its,rv,p,hz⟩:=I.list hq
  obtain ⟨u,hu,ru⟩:=rv.get hx
  obtain ⟨f0,f1,f2,f3,f4,f5⟩:=hf it (by simp)
  refine wpAny_pyNext_list_item st p.isList (x:=u) (by simpa using hu) fun h' st' sb=>?_
  have I1:Inv X pins σ H { s with heap:=h' }:=I.turned (t':=s.toks) (fun b o hb e=>(sb.2 b hb).trans e) f0 f1 f3 f4 f5
  obtain ⟨o,e,c,d⟩:=id st'
  exact ⟨u,rfl,go_of (s:={ s with heap:=h' }) e c d (by decide) ⟨x,H,I1,ru,⟨rfl,fun ys hy=>by rw [I.list_inj hy hq];exact hx⟩,st',fun b hb=>(hf b hb).1⟩⟩
 done:=by
  intro X hP hw hK hc i pins s σ H E I hf st hg
  subst hP hw hK
  obtain ⟨xs,hq,hx⟩:=hg
  obtain ⟨its,rv,p,hz⟩:=I.list hq
  obtain ⟨f0,f1,f2,f3,f4,f5⟩:=hf it (by simp)
  have hl:=rv.length
  exact wpAny_pyNext_list_end (I.ok.hd hc) st p.isList (by simp;omega) fun h' eb=>⟨rfl,I.turned (t':=s.toks) (fun b o hb e=>eb b o hb e) f0 f1 f3 f4 f5⟩
 self:=fun _ _ _ _ _ st h=>wpAny_pyIter_listiter st h
theorem turn_tuple {P:Program} {w:World} {K:PySem.W.Frag} {tg:Expr} (a it:Addr):Turn P w K tg (Itt K a) [it] it (fun i h=>h.IsTupleIter it a i) where
 mem:=by simp
 obj:=fun i h st b hb=>by
  have e:b=it:=by simpa using hb
  subst e
  obtain ⟨o,e,c,d⟩:=st
  exact ⟨o,e,fun v z=>by rw [d] at z;cases z⟩
 keep:=fun i h h' st k=>st.at fun o e=>k it (by simp) o e
 item:=by
  intro X hP hw hK hc i pins s σ H E I hf st hg
  subst hP hw hK
  obtain ⟨xs,x,hq,hx⟩:=hg
  obtain ⟨its,rv,p,hz⟩:=I.tuple hq
  obtain ⟨u,hu,ru⟩:=rv.get hx
  obtain ⟨f0,f1,f2,f3,f4,f5⟩:=hf it (by simp)
  refine wpAny_pyNext_tuple_item st (show s.heap.IsTuple a its.toArray from p) (x:=u) (by simpa using hu) fun h' st' sb=>?_
  have I1:Inv X pins σ H { s with heap:=h' }:=I.turned (t':=s.toks) (fun b o hb e=>(sb.2 b hb).trans e) f0 f1 f3 f4 f5
  obtain ⟨o,e,c,d⟩:=id st'
  exact ⟨u,rfl,go_of (s:={ s with heap:=h' }) e c d (by decide) ⟨x,H,I1,ru,⟨rfl,fun ys hy=>by rw [I.tuple_inj hy hq];exact hx⟩,st',fun b hb=>(hf b hb).1⟩⟩
 done:=by
  intro X hP hw hK hc i pins s σ H E I hf st hg
  subst hP hw hK
  obtain ⟨xs,hq,hx⟩:=hg
  obtain ⟨its,rv,p,hz⟩:=I.tuple hq
  obtain ⟨f0,f1,f2,f3,f4,f5⟩:=hf it (by simp)
  have hl:=rv.length
  exact wpAny_pyNext_tuple_end (I.ok.hd hc) st (show s.heap.IsTuple a its.toArray from p) (by simp;omega) fun h' eb=>⟨rfl,I.turned (t':=s.toks) (fun b o hb e=>eb b o hb e) f0 f1 f3 f4 f5⟩
 self:=fun _ _ _ _ _ st h=>wpAny_pyIter_tupleiter st h
theorem turn_range {P:Program} {w:World} {K:PySem.W.Frag} {tg:Expr} (it:Addr) (lo:Int) (n:Nat):Turn P w K tg (Itr lo n) [it] it (fun i h=>IsRangeIter h it (lo + (i:Nat) * 1) ((n:Int) - (i:Nat)) 1) where
 mem:=by simp
 obj:=fun i h st b hb=>by
  have e:b=it:=by simpa using hb
  subst e
  exact ⟨_,st,fun v z=>by
   have z':Data.fields _=Data.cell v:=z
   cases z'⟩
 keep:=fun i h h' st k=>k it (by simp) _ st
 item:=by
  intro X hP hw hK hc i pins s σ H E I hf st hg
  subst hP hw hK
  obtain ⟨f0,f1,f2,f3,f4,f5⟩:=hf it (by simp)
  have W:=Walks.range (prog:=X.prog) (w:=X.w) (I.ok.hd hc) it lo 1 n
  refine W.item i s _ _ hg st fun v h' tk hv st' kk=>?_
  obtain ⟨t,rfl⟩:=hv
  have I1:Inv X pins σ H { s with heap:=h',toks:=tk }:=I.turned (fun b o hb e=>kk b o (by simpa using hb) e) f0 f1 f3 f4 f5
  refine ⟨_,rfl,go_of (s:={ s with heap:=h',toks:=tk }) (n:="range_iterator") st' rfl rfl (by decide) ⟨.int (lo + i),H,I1,⟨t,?_⟩,⟨rfl,rfl⟩,st',fun b hb=>(hf b hb).1⟩⟩
  rw [Int.mul_one]
 done:=by
  intro X hP hw hK hc i pins s σ H E I hf st hg
  subst hP hw hK
  obtain ⟨f0,f1,f2,f3,f4,f5⟩:=hf it (by simp)
  exact wpAny_pyNext_range_end (I.ok.hd hc) st (by have:n≤i:=hg;omega) fun h' eb=>⟨rfl,I.turned (t':=s.toks) (fun b o hb e=>eb b o hb e) f0 f1 f3 f4 f5⟩
 self:=fun _ _ _ _ _ st h=>wpAny_pyIter_rangeiter st h
end L2
namespace L2
open PySem PySem.Spec PyProof.Rows
section
variable {X:Cx} {tg:Expr}
def iList (K:PySem.W.Frag) (tl:TE):TI:=fun σ H R=>tl σ H fun x H1=>∃ a,x = .ref a∧(∃ xs,SqL K H1 a xs)∧R (Itl K a) H1
def iTup (K:PySem.W.Frag) (tl:TE):TI:=fun σ H R=>tl σ H fun x H1=>∃ a,x = .ref a∧(∃ xs,SqT K H1 a xs)∧R (Itt K a) H1
theorem pi_list {l:Expr} {tl:TE} (hl:PE X l tl):PI X tg l (iList X.K tl):=by
 intro pins s σ H R I h
 refine thn (hl pins s σ H _ I h) fun v s1 ⟨x,H1,I1,r1,q1⟩=>?_
 obtain ⟨a,e,⟨xs,hq⟩,q⟩:=q1
 subst e
 cases r1
 obtain ⟨its,rv,p,hz⟩:=I1.list hq
 refine wpAny_pyIter_list p.isList ?_
 refine ⟨s1.heap.objs.size,[s1.heap.objs.size],_,_,H1,rfl,I1.kept (t':=s1.toks) fun b o e=>Heap.get?_push_of_some _ e,turn_list a _,⟨_,Heap.get?_push_size _ rfl,rfl,rfl⟩,fun b hb=>?_,q⟩
 have e:b=s1.heap.objs.size:=by simpa using hb
 subst e
 exact I1.fpOk (Nat.le_refl _) (I1.hok.fresh (Nat.le_refl _))
theorem pi_tup {l:Expr} {tl:TE} (hl:PE X l tl):PI X tg l (iTup X.K tl):=by
 intro pins s σ H R I h
 refine thn (hl pins s σ H _ I h) fun v s1 ⟨x,H1,I1,r1,q1⟩=>?_
 obtain ⟨a,e,⟨xs,hq⟩,q⟩:=q1
 subst e
 cases r1
 obtain ⟨its,rv,p,hz⟩:=I1.tuple hq
 refine wpAny_pyIter_tuple (show s1.heap.IsTuple a its.toArray from p) ?_
 refine ⟨s1.heap.objs.size,[s1.heap.objs.size],_,_,H1,rfl,I1.kept (t':=s1.toks) fun b o e=>Heap.get?_push_of_some _ e,turn_tuple a _,⟨_,Heap.get?_push_size _ rfl,rfl,rfl⟩,fun b hb=>?_,q⟩
 have e:b=s1.heap.objs.size:=by simpa using hb
 subst e
 exact I1.fpOk (Nat.le_refl _) (I1.hok.fresh (Nat.le_refl _))
theorem range_it {pins:List (Addr × Obj)} {σ:St} {H:Hp} {s:Shared} {R:It→Hp→Prop} {E:Value→Shared→Prop} {lo hi:Int} {t u v:Tok} {tk:Nat} (I:Inv X pins σ H s) (h1:-(2 ^ 62)≤lo) (h2:lo<2 ^ 62) (h3:-(2 ^ 62)≤hi) (h4:hi<2 ^ 62)
  (q:R (Itr lo (hi - lo).toNat) H):wpAny (model X.prog X.w) X.A (pyIter (.ref s.heap.objs.size)) (PIE X pins σ tg R) E { s with heap:=s.heap.push { cls:=.type "range",data:=.fields #[.int lo t,.int hi u,.int 1 v] },toks:=tk }:=by
 refine wpAny_pyIter_range (IsRange.new ..) (small_one h1 h2 h3 h4) ?_
 have I1:Inv X pins σ H { s with heap:=s.heap.push { cls:=.type "range",data:=.fields #[.int lo t,.int hi u,.int 1 v] },toks:=tk }:=I.kept fun b o e=>Heap.get?_push_of_some _ e
 refine ⟨(s.heap.push { cls:=.type "range",data:=.fields #[.int lo t,.int hi u,.int 1 v] }).objs.size,[(s.heap.push { cls:=.type "range",data:=.fields #[.int lo t,.int hi u,.int 1 v] }).objs.size],_,_,H,rfl,
  I1.kept (t':=tk) fun b o e=>Heap.get?_push_of_some _ e,turn_range _ lo (hi - lo).toNat,?_,fun b hb=>?_,q⟩
 ·have e1:lo + ((0:Nat):Int) * 1=lo:=by simp
  have e2:(((hi - lo).toNat:Nat):Int) - ((0:Nat):Int)=Builtin.Range.rangeSize lo hi 1:=by rw [rangeSize_one];split <;> omega
  show IsRangeIter _ _ (lo + ((0:Nat):Int) * 1) ((((hi - lo).toNat:Nat):Int) - ((0:Nat):Int)) 1
  rw [e1,e2]
  exact Heap.get?_push_size _ rfl
 ·have e:b=(s.heap.push { cls:=.type "range",data:=.fields #[.int lo t,.int hi u,.int 1 v] }).objs.size:=by simpa using hb
  subst e
  exact I1.fpOk (Nat.le_refl _) (I1.hok.fresh (Nat.le_refl _))
def iRng1 (ta:TA):TI:=fun σ H R=>ta σ H fun vs H1=>∃ j:Int,vs=[.int j]∧-(2 ^ 62)≤j∧j<2 ^ 62∧R (Itr 0 j.toNat) H1
theorem pi_range1 {a:Expr} {ta:TA} {p pos:Pos} (hg:Gl X "range") (hm:X.mg "range" = none) (ha:PA X [a] ta) (hs:starEach [a] X.env=[(false,eval a X.env)]:=by rfl):PI X tg (.Call (.Name "range" p) [a] [] pos) (iRng1 ta):=by
 intro pins s σ H R I h
 refine Call_ (ld_blt I hg hm boot_range (PyProof.Rows.callWith_type1 (thn (ha pos pins s σ H _ I h) fun us s1 ⟨vs,H1,I1,r1,q1⟩=>?_) hs rfl))
 obtain ⟨j,e,q1,q2,q⟩:=q1
 subst e
 cases r1 with
 | cons r rr =>
  cases rr
  obtain ⟨t,rfl⟩:=r
  exact call_range_1 (range_it I1 (by omega) (by omega) q1 q2 (by simpa using q))
def tFor (wi:TI) (g:TG) (tb:TS):TS:=fun D σ H=>wi σ H fun J H1=>∃ W:Nat→Nat→St→Hp→Prop,(∃ m,W 0 m σ H1)∧∀ i m σ H,W i m σ H →
 (J.stop i H∧D.nx σ H)∨(J.go i H∧∃ N:St→Hp→Prop,(∀ σ' H',N σ' H'→∃ m',m'<m∧W (i + 1) m' σ' H')∧∀ x H',J.yld i H x H'→g x σ H' fun σ2 H2=>tb { D with nx:=N,ct:=N,bk:=D.nx } σ2 H2)
def pinsAt (fp:List Addr) (h:Heap):List (Addr × Obj):=fp.filterMap fun b=>(h.get? b).map fun o=>(b,o)
theorem mem_pinsAt {fp:List Addr} {h:Heap} {b:Addr} {o:Obj} (hb:b∈fp) (e:h.get? b=some o):(b,o)∈pinsAt fp h:=List.mem_filterMap.mpr ⟨b,hb,by rw [e];rfl⟩
theorem of_pinsAt {fp:List Addr} {h:Heap} {p:Addr × Obj} (hp:p∈pinsAt fp h):p.1∈fp∧h.get? p.1=some p.2:=by
 obtain ⟨b,hb,e⟩:=List.mem_filterMap.mp hp
 cases q:h.get? b with
 | none=>rw [q] at e;cases e
 | some o =>
  rw [q] at e
  have e':(b,o)=p:=Option.some.inj e
  subst e'
  exact ⟨hb,q⟩
theorem Inv.pinned {pins:List (Addr × Obj)} {σ:St} {H:Hp} {s:Shared} {fp:List Addr} (I:Inv X pins σ H s) (hf:∀ b∈fp,FpOk X pins H b) (ho:∀ b∈fp,∃ o,s.heap.get? b=some o∧∀ v,o.data≠.cell v):Inv X (pins++pinsAt fp s.heap) σ H s :=
 I.pins_of fun p hp=>(List.mem_append.mp hp).elim (fun z=>I.pin p (List.mem_append_right _ z)) fun z=>by
  obtain ⟨hb,e⟩:=of_pinsAt z
  obtain ⟨f0,f1,f2,_⟩:=hf p.1 hb
  obtain ⟨o,e',d⟩:=ho p.1 hb
  rw [e] at e';cases e'
  exact ⟨e,f0,f1,f2,d⟩
theorem Inv.unpinned {pins pl:List (Addr × Obj)} {σ:St} {H:Hp} {s:Shared} (I:Inv X (pins++pl) σ H s):Inv X pins σ H s:=I.pins_of fun p hp=>I.pin p (List.mem_append_right _ (List.mem_append_left _ hp))
theorem ps_for {iter:Expr} {body:List Stmt} {wi:TI} {g:TG} {tb:TS} {pos:Pos} (hp:PassesOwn (model X.prog X.w) X.A X.env X.xe) (hc:X.calm=true) (hi:PI X tg iter wi) (hg:PG X tg g) (hb:PSs X body tb)
  (hs:∀ x,foldedSetIterable iter X.env x=pure x:=by intro _;rfl):PS X (.For tg iter body [] pos) (tFor wi g tb):=by
 intro pins s σ H D I h
 refine wpAny_For (thn (hi pins s σ H _ I h) fun v s1 h1=>thn h1 fun itv s2 h2=>?_) hs
 obtain ⟨it,fp,tn,J,H2,e,I2,T,st2,f2,W,⟨m0,w0⟩,turn⟩:=h2
 subst e
 have stat:∀ {H':Hp},(∀ b∈fp,H' b=none)→∀ b∈fp,FpOk X pins H' b:=fun hn b hb=>⟨hn b hb,(f2 b hb).2⟩
 refine codeAny_forLoop_any (fun n s'=>∃ i σ' H',Inv X pins σ' H' s'∧tn i s'.heap∧(∀ b∈fp,H' b=none)∧W i n σ' H') ?_ m0 ⟨0,σ,H2,I2,st2,fun b hb=>(f2 b hb).1,w0⟩
 rintro n s3 ⟨i,σ3,H3,I3,st3,fr3,w3⟩
 rcases turn i n σ3 H3 w3 with ⟨stop,qn⟩ | ⟨go,N,hN,step⟩
 ·refine wpAny_passesOwn hp (thn (T.done X rfl rfl rfl hc i pins s3 σ3 H3 X.xe I3 (stat fr3) st3 stop) fun r s4 ⟨hr,I4⟩=>?_)
  subst hr
  exact wpAny_execs_nil ⟨σ3,H3,I4,qn⟩
 ·refine wpAny_passesOwn hp (thn (T.item X rfl rfl rfl hc i pins s3 σ3 H3 X.xe I3 (stat fr3) st3 go) fun r s4 ⟨u,hr,h4⟩=>?_)
  subst hr
  refine wpAny_passesOwn hp (thn h4 fun _ s5 ⟨x,H5,I5,r5,y5,st5,fr5⟩=>?_)
  have I5':=I5.pinned (stat fr5) (T.obj _ _ st5)
  refine wpAny_passesOwn hp (thn (hg _ s5 σ3 H5 x u _ I5' r5 (step x H5 y5)) fun _ s6 ⟨σ6,H6,I6,q6⟩=>?_)
  refine wpAny_passesOwn hp (thn (hb _ s6 σ6 H6 _ I6 q6) fun f s7 q7=>?_)
  have again:∀ {σ7:St} {H7:Hp},Inv X (pins++pinsAt fp s5.heap) σ7 H7 s7→N σ7 H7→∃ m,m<n∧∃ i σ' H',Inv X pins σ' H' s7∧tn i s7.heap∧(∀ b∈fp,H' b=none)∧W i m σ' H':=fun {σ7 H7} I7 n7=>by
   obtain ⟨m',hm,w7⟩:=hN σ7 H7 n7
   refine ⟨m',hm,i + 1,σ7,H7,I7.unpinned,T.keep _ _ _ st5 fun b hb o e=>(I7.pin (b,o) (List.mem_append_right _ (List.mem_append_right _ (mem_pinsAt hb e)))).1,fun b hb=>?_,w7⟩
   obtain ⟨o,e,d⟩:=T.obj _ _ st5 b hb
   exact (I7.pin (b,o) (List.mem_append_right _ (List.mem_append_right _ (mem_pinsAt hb e)))).2.1
  cases f with
  | next=>obtain ⟨σ7,H7,I7,n7⟩:=q7;exact again I7 n7
  | cont=>obtain ⟨σ7,H7,I7,n7⟩:=q7;exact again I7 n7
  | brk=>obtain ⟨σ7,H7,I7,q7⟩:=q7;exact ⟨σ7,H7,I7.unpinned,q7⟩
  | ret v=>obtain ⟨x7,σ7,H7,I7,r7,q7⟩:=q7;exact ⟨x7,σ7,H7,I7.unpinned,r7,q7⟩
end
theorem for_list {K:PySem.W.Frag} {a:Addr} {xs:List V} {g:TG} {tb:TS} {D:Ends} {σ:St} {H:Hp} (Pv:Nat→St→Hp→Prop) (h0:Pv 0 σ H) (hl:∀ i σ H,i≤xs.length→Pv i σ H→SqL K H a xs)
  (hs:∀ i x σ H,xs[i]? = some x→Pv i σ H→g x σ H fun σ2 H2=>tb { D with nx:=Pv (i + 1),ct:=Pv (i + 1),bk:=D.nx } σ2 H2) (hd:∀ σ H,Pv xs.length σ H→D.nx σ H) :
  ∃ W:Nat→Nat→St→Hp→Prop,(∃ m,W 0 m σ H)∧∀ i m σ H,W i m σ H →
   ((Itl K a).stop i H∧D.nx σ H)∨((Itl K a).go i H∧∃ N:St→Hp→Prop,(∀ σ' H',N σ' H'→∃ m',m'<m∧W (i + 1) m' σ' H')∧∀ x H',(Itl K a).yld i H x H'→g x σ H' fun σ2 H2=>tb { D with nx:=N,ct:=N,bk:=D.nx } σ2 H2):=by
 refine ⟨fun i m σ H=>m=xs.length - i∧i≤xs.length∧Pv i σ H,⟨xs.length,by simp,Nat.zero_le _,h0⟩,?_⟩
 rintro i m σ H ⟨rfl,hi,p⟩
 have q:=hl i σ H hi p
 by_cases hlt:i<xs.length
 ·refine .inr ⟨⟨xs,xs[i],q,by simp [hlt]⟩,Pv (i + 1),fun σ' H' p'=>⟨xs.length - (i + 1),by omega,rfl,hlt,p'⟩,fun x H' y=>?_⟩
  obtain ⟨e,y⟩:=y
  subst e
  exact hs i x σ _ (y xs q) p
 ·have e:i=xs.length:=by omega
  subst e
  exact .inl ⟨⟨xs,q,Nat.le_refl _⟩,hd σ H p⟩
theorem for_tup {K:PySem.W.Frag} {a:Addr} {xs:List V} {g:TG} {tb:TS} {D:Ends} {σ:St} {H:Hp} (Pv:Nat→St→Hp→Prop) (h0:Pv 0 σ H) (hl:∀ i σ H,i≤xs.length→Pv i σ H→SqT K H a xs)
  (hs:∀ i x σ H,xs[i]? = some x→Pv i σ H→g x σ H fun σ2 H2=>tb { D with nx:=Pv (i + 1),ct:=Pv (i + 1),bk:=D.nx } σ2 H2) (hd:∀ σ H,Pv xs.length σ H→D.nx σ H) :
  ∃ W:Nat→Nat→St→Hp→Prop,(∃ m,W 0 m σ H)∧∀ i m σ H,W i m σ H →
   ((Itt K a).stop i H∧D.nx σ H)∨((Itt K a).go i H∧∃ N:St→Hp→Prop,(∀ σ' H',N σ' H'→∃ m',m'<m∧W (i + 1) m' σ' H')∧∀ x H',(Itt K a).yld i H x H'→g x σ H' fun σ2 H2=>tb { D with nx:=N,ct:=N,bk:=D.nx } σ2 H2):=by
 refine ⟨fun i m σ H=>m=xs.length - i∧i≤xs.length∧Pv i σ H,⟨xs.length,by simp,Nat.zero_le _,h0⟩,?_⟩
 rintro i m σ H ⟨rfl,hi,p⟩
 have q:=hl i σ H hi p
 by_cases hlt:i<xs.length
 ·refine .inr ⟨⟨xs,xs[i],q,by simp [hlt]⟩,Pv (i + 1),fun σ' H' p'=>⟨xs.length - (i + 1),by omega,rfl,hlt,p'⟩,fun x H' y=>?_⟩
  obtain ⟨e,y⟩:=y
  subst e
  exact hs i x σ _ (y xs q) p
 ·have e:i=xs.length:=by omega
  subst e
  exact .inl ⟨⟨xs,q,Nat.le_refl _⟩,hd σ H p⟩
theorem for_range {lo:Int} {n:Nat} {g:TG} {tb:TS} {D:Ends} {σ:St} {H:Hp} (Pv:Nat→St→Hp→Prop) (h0:Pv 0 σ H)
  (hs:∀ i σ H,i<n→Pv i σ H→g (.int (lo + i)) σ H fun σ2 H2=>tb { D with nx:=Pv (i + 1),ct:=Pv (i + 1),bk:=D.nx } σ2 H2) (hd:∀ σ H,Pv n σ H→D.nx σ H) :
  ∃ W:Nat→Nat→St→Hp→Prop,(∃ m,W 0 m σ H)∧∀ i m σ H,W i m σ H →
   ((Itr lo n).stop i H∧D.nx σ H)∨((Itr lo n).go i H∧∃ N:St→Hp→Prop,(∀ σ' H',N σ' H'→∃ m',m'<m∧W (i + 1) m' σ' H')∧∀ x H',(Itr lo n).yld i H x H'→g x σ H' fun σ2 H2=>tb { D with nx:=N,ct:=N,bk:=D.nx } σ2 H2):=by
 refine ⟨fun i m σ H=>m=n - i∧i≤n∧Pv i σ H,⟨n,by simp,Nat.zero_le _,h0⟩,?_⟩
 rintro i m σ H ⟨rfl,hi,p⟩
 by_cases hlt:i<n
 ·refine .inr ⟨hlt,Pv (i + 1),fun σ' H' p'=>⟨n - (i + 1),by omega,rfl,hlt,p'⟩,fun x H' y=>?_⟩
  obtain ⟨e,y⟩:=y
  subst e y
  exact hs i σ _ hlt p
 ·have e:i=n:=by omega
  subst e
  exact .inl ⟨Nat.le_refl _,hd σ H p⟩
end L2
namespace L2
open PySem PySem.Spec PyProof.Rows
abbrev R2:=V→V→Hp→VK→Prop
def OpR (X:Cx) (f:Value→Value→Sem Value) (r:R2):Prop :=
 ∀ (pins:List (Addr × Obj)) (s:Shared) (σ:St) (H:Hp) (x y:V) (v u:Value) (Q:VK),Inv X pins σ H s→RelV x v→RelV y u→r x y H Q →
  wpAny (model X.prog X.w) X.A (f v u) (EP X pins σ Q) X.xe s
def UnR (X:Cx) (f:Value→Sem Value) (r:V→Hp→VK→Prop):Prop :=
 ∀ (pins:List (Addr × Obj)) (s:Shared) (σ:St) (H:Hp) (x:V) (v:Value) (Q:VK),Inv X pins σ H s→RelV x v→r x H Q →
  wpAny (model X.prog X.w) X.A (f v) (EP X pins σ Q) X.xe s
def CallR (X:Cx) (f:Value) (r:List V→Hp→VK→Prop):Prop :=
 ∀ (pins:List (Addr × Obj)) (s:Shared) (σ:St) (H:Hp) (xs:List V) (us:List Value) (Q:VK),Inv X pins σ H s→Vals xs us→r xs H Q →
  wpAny (model X.prog X.w) X.A (call f us) (EP X pins σ Q) X.xe s
def tOp (r:R2) (ta tb:TE):TE:=fun σ H Q=>ta σ H fun x H1=>tb σ H1 fun y H2=>r x y H2 Q
def tUn (r:V→Hp→VK→Prop) (ta:TE):TE:=fun σ H Q=>ta σ H fun x H1=>r x H1 Q
def rI (C:Int→Int→Prop) (g:Int→Int→V):R2:=fun x y H Q=>∃ i j,x = .int i∧y = .int j∧C i j∧Q (g i j) H
def rI0 (g:Int→Int→V):R2:=fun x y H Q=>∃ i j,x = .int i∧y = .int j∧Q (g i j) H
def rU (g:Int→V):V→Hp→VK→Prop:=fun x H Q=>∃ i,x = .int i∧Q (g i) H
section
variable {X:Cx} {a b c:Expr} {ta tb tc:TE} {pos:Pos}
theorem binT (ha:PE X a ta) (hb:PE X b tb) {pins:List (Addr × Obj)} {s:Shared} {σ:St} {H:Hp} {R:V→V→Hp→Prop} (I:Inv X pins σ H s)
  (h:ta σ H fun x H1=>tb σ H1 fun y H2=>R x y H2) {Q:Value→Shared→Prop} {f:Value→Value→Sem Value}
  (hf:∀ v u s2 x y H2,Inv X pins σ H2 s2→RelV x v→RelV y u→R x y H2→wpAny (model X.prog X.w) X.A (f v u) Q X.xe s2) :
  wpAny (model X.prog X.w) X.A (eval a X.env) (fun v s₁=>wpAny (model X.prog X.w) X.A (eval b X.env) (fun u s₂=>wpAny (model X.prog X.w) X.A (f v u) Q X.xe s₂) X.xe s₁) X.xe s:=by
 refine thn (ha pins s σ H _ I h) fun v s1 ⟨x,H1,I1,r1,q1⟩=>?_
 refine thn (hb pins s1 σ H1 _ I1 q1) fun u s2 ⟨y,H2,I2,r2,q2⟩=>?_
 exact hf v u s2 x y H2 I2 r1 r2 q2
theorem pe_op {op:Operator} {r:R2} (ho:OpR X (binaryOp op) r) (ha:PE X a ta) (hb:PE X b tb):PE X (.BinOp a op b pos) (tOp r ta tb):=by
 intro pins s σ H Q I h
 exact wpAny_BinOp (binT ha hb I h fun v u s2 x y H2 I2 rx ry q=>ho pins s2 σ H2 x y v u Q I2 rx ry q)
theorem pe_un {op:UnaryOp} {r:V→Hp→VK→Prop} (ho:UnR X (unaryOp op) r) (ha:PE X a ta):PE X (.UnaryOp op a pos) (tUn r ta):=by
 intro pins s σ H Q I h
 exact UnaryOp_ (thn (ha pins s σ H _ I h) fun v s1 ⟨x,H1,I1,r1,q1⟩=>ho pins s1 σ H1 x v Q I1 r1 q1)
theorem opI {f:Value→Value→Sem Value} {C:Int→Int→Prop} {g:Int→Int→Int}
  (rule:∀ (i j:Int) (t u:Tok) (s:Shared) (Q:Value→Shared→Prop) (E:Value→Shared→Prop),C i j→Q (.int (g i j) s.toks) { s with toks:=s.toks + 1 }→wpAny (model X.prog X.w) X.A (f (.int i t) (.int j u)) Q E s) :
  OpR X f (rI C fun i j=>.int (g i j)):=by
 intro pins s σ H x y v u Q I rx ry h
 obtain ⟨i,j,rfl,rfl,hc,q⟩:=h
 obtain ⟨t,rfl⟩:=rx
 obtain ⟨t',rfl⟩:=ry
 exact rule i j t t' s _ _ hc ⟨.int (g i j),H,I.tok _,⟨_,rfl⟩,q⟩
theorem opI0 {f:Value→Value→Sem Value} {g:Int→Int→Int}
  (rule:∀ (i j:Int) (t u:Tok) (s:Shared) (Q:Value→Shared→Prop) (E:Value→Shared→Prop),Q (.int (g i j) s.toks) { s with toks:=s.toks + 1 }→wpAny (model X.prog X.w) X.A (f (.int i t) (.int j u)) Q E s) :
  OpR X f (rI0 fun i j=>.int (g i j)):=by
 intro pins s σ H x y v u Q I rx ry h
 obtain ⟨i,j,rfl,rfl,q⟩:=h
 obtain ⟨t,rfl⟩:=rx
 obtain ⟨t',rfl⟩:=ry
 exact rule i j t t' s _ _ ⟨.int (g i j),H,I.tok _,⟨_,rfl⟩,q⟩
def CMul (i j:Int):Prop:=(-(2 ^ 64)<i∧i<2 ^ 64)∨(-(2 ^ 64)<j∧j<2 ^ 64)
theorem CMul.ok {i j:Int} (h:CMul i j):IntMulOk i j:=by
 rcases h with ⟨h1,h2⟩ | ⟨h1,h2⟩
 ·exact .of_left (intBits_le_64 h1 h2)
 ·exact .of_right (intBits_le_64 h1 h2)
theorem op_add:OpR X (binaryOp .Add) (rI0 fun i j=>.int (i + j)):=opI0 fun _ _ _ _ _ _ _ q=>add_int q
theorem op_sub:OpR X (binaryOp .Sub) (rI0 fun i j=>.int (i - j)):=opI0 fun _ _ _ _ _ _ _ q=>sub_int q
theorem op_mod:OpR X (binaryOp .Mod) (rI (fun _ j=>0<j) fun i j=>.int (i % j)):=opI fun i j _ _ _ _ _ hc q=>by
 have h1:(0:Int)<j:=hc
 exact mod_int' (by omega) (by rw [Int.fmod_eq_emod_of_nonneg i (by omega)];exact q)
theorem unI {f:Value→Sem Value} {g:Int→Int}
  (rule:∀ (i:Int) (t:Tok) (s:Shared) (Q:Value→Shared→Prop) (E:Value→Shared→Prop),Q (.int (g i) s.toks) { s with toks:=s.toks + 1 }→wpAny (model X.prog X.w) X.A (f (.int i t)) Q E s) :
  UnR X f (rU fun i=>.int (g i)):=by
 intro pins s σ H x v Q I rx h
 obtain ⟨i,rfl,q⟩:=h
 obtain ⟨t,rfl⟩:=rx
 exact rule i t s _ _ ⟨.int (g i),H,I.tok _,⟨_,rfl⟩,q⟩
theorem un_neg:UnR X (unaryOp .USub) (rU fun i=>.int (-i)):=unI fun _ _ _ _ _ q=>neg_int q
end
section
variable {X:Cx} {a b c:Expr} {ta tb tc:TE} {pos:Pos}
theorem nomark (b:Expr) {op:CmpOp} (h:op≠.In:=by decide) (h2:op≠.NotIn:=by decide):behindInMarks op b=false:=by
 have e1:(op == CmpOp.In)=false:=by cases op <;> first | rfl | exact absurd rfl h
 have e2:(op == CmpOp.NotIn)=false:=by cases op <;> first | rfl | exact absurd rfl h2
 cases b <;> simp [behindInMarks,e1,e2]
def tTest (t:TE):TT:=fun σ H Q=>t σ H fun x H'=>∃ k,x = .bl k∧Q k H'
theorem pt_cmpR {op:CmpOp} {r:R2} (ho:OpR X (compareOp op) r) (ha:PE X a ta) (hb:PE X b tb) (hm:behindInMarks op b=false):PT X (.Compare a [op] [b] pos) (tTest (tOp r ta tb)):=by
 intro pins s σ H Q I h
 refine wpAny_isTrue_Compare1 (thn (ha pins s σ H _ I h) fun v s1 ⟨x,H1,I1,r1,q1⟩=>thn (hb pins s1 σ H1 _ I1 q1) fun u s2 ⟨y,H2,I2,r2,q2⟩ =>
  thn (ho pins s2 σ H2 x y v u _ I2 r1 r2 q2) fun c s3 ⟨z,H3,I3,r3,k,e,q3⟩=>?_) hm
 subst e
 cases r3
 exact wpAny_truthy_bool ⟨H3,I3,q3⟩
theorem line63:(sizeLine:Nat)<2 ^ 63:=by rw [sizeLine_eq];decide
theorem vals1 {x:V} {us:List Value} (r:Vals [x] us):∃ u,us=[u]∧RelV x u:=by
 cases r with
 | cons r1 r2=>cases r2;exact ⟨_,rfl,r1⟩
theorem vals2 {x y:V} {us:List Value} (r:Vals [x,y] us):∃ u w',us=[u,w']∧RelV x u∧RelV y w':=by
 cases r with
 | cons r1 r2 =>
  cases r2 with
  | cons r3 r4=>cases r4;exact ⟨_,_,rfl,r1,r3⟩
theorem call_abs:CallR X (.builtin "abs") (fun xs H Q=>∃ i,xs=[.int i]∧Q (.int (if i<0 then -i else i)) H):=by
 intro pins s σ H xs us Q I r h
 obtain ⟨i,rfl,q⟩:=h
 obtain ⟨u,rfl,t,rfl⟩:=vals1 r
 exact call_abs_int fun u tk=>⟨.int (if i<0 then -i else i),H,I.tok _,⟨_,rfl⟩,q⟩
theorem call_max2 (hc:X.calm=true):CallR X (.builtin "max") (fun xs H Q=>∃ i j,xs=[.int i,.int j]∧Q (.int (if j > i then j else i)) H):=by
 intro pins s σ H xs us Q I r h
 obtain ⟨i,j,rfl,q⟩:=h
 obtain ⟨u,w',rfl,⟨t,rfl⟩,⟨t',rfl⟩⟩:=vals2 r
 refine max_two_ints (I.ok.hd hc) fun h' tk k=>⟨_,H,I.kept k,?_,q⟩
 by_cases hj:j > i
 ·rw [if_pos hj,if_pos hj];exact ⟨_,rfl⟩
 ·rw [if_neg hj,if_neg hj];exact ⟨_,rfl⟩
theorem call_min2 (hc:X.calm=true):CallR X (.builtin "min") (fun xs H Q=>∃ i j,xs=[.int i,.int j]∧Q (.int (if j<i then j else i)) H):=by
 intro pins s σ H xs us Q I r h
 obtain ⟨i,j,rfl,q⟩:=h
 obtain ⟨u,w',rfl,⟨t,rfl⟩,⟨t',rfl⟩⟩:=vals2 r
 refine min_two_ints (I.ok.hd hc) fun h' tk k=>⟨_,H,I.kept k,?_,q⟩
 by_cases hj:j<i
 ·rw [if_pos hj,if_pos hj];exact ⟨_,rfl⟩
 ·rw [if_neg hj,if_neg hj];exact ⟨_,rfl⟩
theorem call_int1:CallR X (.type "int") (fun xs H Q=>(∃ i,xs=[.int i]∧Q (.int i) H)∨∃ k,xs=[.bl k]∧Q (.int (if k then 1 else 0)) H):=by
 intro pins s σ H xs us Q I r h
 rcases h with ⟨i,rfl,q⟩ | ⟨k,rfl,q⟩
 ·obtain ⟨u,rfl,t,rfl⟩:=vals1 r
  exact call_int_int ⟨.int i,H,I,⟨_,rfl⟩,q⟩
 ·obtain ⟨u,rfl,r1⟩:=vals1 r
  cases r1
  exact call_int_bool ⟨.int (if k then 1 else 0),H,I.tok _,⟨_,rfl⟩,q⟩
end
end L2
namespace L2
open PySem PySem.Spec PyProof.Rows
structure ObjM (h:Heap) (x dx C:Addr) (mA:Str→Option Value):Prop where
 obj:h.get? x=some (PySem.W.instObj C dx)
 ns:h.Ns1 dx mA
 ne:dx≠x
theorem lookIn_ns {h:Heap} {dx:Addr} {mA:Str→Option Value} (n:h.Ns1 dx mA):∃ od,h.get? dx=some od∧∀ name,PySem.W.lookIn name od=some (mA name):=by
 obtain ⟨o,es,ep,ho,hd,hk,_,hm⟩:=n
 refine ⟨o,ho,fun name=>?_⟩
 have e:=hm name
 unfold nsFind findBy at e
 rw [← Array.find?_toList] at e
 unfold PySem.W.lookIn
 rw [hd]
 dsimp only
 split
 ·rename_i y q
  rw [q] at e
  exact congrArg some e
 ·rename_i q
  rw [q] at e
  have a:es.toList.any (·.refKey)=false:=by
   rw [List.any_eq_false]
   intro y hy
   obtain ⟨z,t,hkey⟩:=hk y (Array.mem_toList_iff.mp hy)
   simp [DictEntry.refKey,hkey]
  have a':¬ es.toList.any (·.refKey)=true:=by rw [a];exact Bool.false_ne_true
  rw [if_neg a']
  exact congrArg some e
theorem ObjM.look {h:Heap} {x dx C:Addr} {mA:Str→Option Value} (I:ObjM h x dx C mA):∃ od,PySem.W.InstAt h x (PySem.W.instObj C dx) C (some od)∧∀ name,PySem.W.lookIn name od=some (mA name) :=
 let ⟨od,ho,hl⟩:=lookIn_ns I.ns
 ⟨od,⟨I.obj,rfl,rfl,ho⟩,hl⟩
section
variable {prog:Program} {w:World} {A:Around} {E:Value→Shared→Prop} {s:Shared} {K:PySem.W.Frag} {x dx C f:Addr} {mA:Str→Option Value} {name:Str} {v:Value}
theorem get_map {expr:Bool} {Q:Value→Shared→Prop} (X:K.In s.heap) (I:ObjM s.heap x dx C mA) (hg:PySem.W.plainGet K C name=true) (hh:PySem.W.hasDictIn K C=true)
  (ha:PySem.W.findIn K (.ref C) name=some none) (hv:mA name=some v) (hv':PySem.W.handedIn v=true) (h:Q v { s with toks:=s.toks + 1 }) :
  wpAny (model prog w) A (getAttr (.ref x) name expr) Q E s:=by
 obtain ⟨od,J,hl⟩:=I.look
 exact PySem.W.get_value X J (PySem.W.plainGet_of hg).1 (PySem.W.findObj_own hh ha rfl (by rw [hl,hv])) hv' h
theorem get_meth {pl:Sem Bool} {Q:Value × List Value→Shared→Prop} (X:K.In s.heap) (I:ObjM s.heap x dx C mA) (hg:PySem.W.plainGet K C name=true)
  (hf:PySem.W.findIn K (.ref C) name=some (some (.ref f))) (ht:PySem.W.isFn K (.ref f)=true) (hv:mA name=none) (h:Q (.ref f,[.ref x]) s) :
  wpAny (model prog w) A (getMethod (.ref x) name pl) Q E s:=by
 obtain ⟨od,J,hl⟩:=I.look
 exact PySem.W.method_fn X J (PySem.W.plainGet_of hg).1 (PySem.W.plainGet_of hg).2 hf (beq_iff_eq.mp ht) (by show (PySem.W.lookIn name od).map (·.isSome)=some false;rw [hl,hv];rfl) h
theorem set_map {ns:List Str} {Q:Unit→Shared→Prop} (X:K.In s.heap) (I:ObjM s.heap x dx C mA)
  (hs:PySem.W.findIn K (.ref C) "__setattr__" = some (some (.builtin "object.__setattr__"))) (hp:PySem.W.plainOver K C=true) (ht:PySem.W.takerIn K C name=some none) (hh:PySem.W.hasDictIn K C=true)
  (hw:PySem.Within mA ns) (hsz:ns.length≤sizeLine)
  (h:∀ h',ObjM h' x dx C (fun y=>if y=name then some v else mA y)→Heap.SameBut dx s.heap h'→Q () { s with heap:=h',toks:=s.toks + 2 }) :
  wpAny (model prog w) A (setAttr (.ref x) name v) Q E s:=by
 obtain ⟨od,J,hl⟩:=I.look
 refine PySem.W.set_plain X J hs (PySem.W.osa_open (s:={ s with toks:=s.toks + 1 }) (r:=none) X J hp ht fun b=>?_)
 obtain ⟨cd,hc,hd'⟩:=PySem.W.any_some hh
 have hx:s.heap.get? x=some ⟨.ref C,some dx,.plain,#[]⟩:=I.obj
 refine wpAny_bind (wpAny_pure (wpAny_bind (wpAny_bind (wpAny_loadPart hx (wpAny_bind (PySem.W.Looks.here (s:={ s with toks:=s.toks + 1 }) (PySem.W.looks_clsIn X hc) ?_))))))
 rw [hd']
 refine wpAny_pure (a:=some dx) (wpAny_bind (wpAny_pure (wpAny_bind ?_)))
 refine wpAny_nsSet1 (s:={ s with toks:=s.toks + 1 }) I.ns fun h' hn2 hs2=>?_
 obtain ⟨oD,esD,epD,hoD,hdD,hcD⟩:=hn2.count (PySem.Within.cons name v hw)
 refine wpAny_bind (wpAny_lookBehind hoD (by rw [hdD];exact pastItsLine_dict (Nat.le_trans hcD (by rw [List.length_cons];omega))) ?_)
 exact wpAny_pure (h _ ⟨(hs2.2 _ (Ne.symm I.ne)).trans I.obj,hn2,I.ne⟩ hs2)
theorem make_map {R:Result→Shared→Prop} {vs:List Value} {kw:List (Str × Value)} (X:K.In s.heap) (hm:PySem.W.makesIn K C=true)
  (hi:PySem.W.findIn K (.ref C) "__init__" = some (some (.ref f))) (hf:PySem.W.typeIn K (.ref f)=some (.type "function"))
  (h:codeAny (model prog w) (A.under (.builtin "type.__call__" ⟨.ref C::vs,kw⟩)) (.call (.ref f) ⟨.ref (s.heap.objs.size + 1)::vs,kw⟩) (PySem.W.InitBack (s.heap.objs.size + 1) R)
   { s with heap:=(s.heap.push PySem.W.emptyDict).push (PySem.W.instObj C s.heap.objs.size) }) :
  codeAny (model prog w) A (.call (.ref C) ⟨vs,kw⟩) R s:=by
 obtain ⟨hh,g,d,t,os⟩:=s
 exact PySem.W.make_core (PySem.W.makes_of X hm) (PySem.W.looks_findIn X hi) (fun self=>PySem.W.bind_fn X self hf) (.inl rfl) h
end
def putF (f:Str) (v:V):List (Str × V)→List (Str × V)
 | []=>[(f,v)]
 | (g,x)::r=>if g=f then (g,v)::r else (g,x)::putF f v r
theorem lookup_putF (f g:Str) (v:V):∀ fs:List (Str × V),(putF f v fs).lookup g=if g=f then some v else fs.lookup g
 | []=>by
  show List.lookup g [(f,v)]=_
  by_cases h:g=f
  ·have hb:(g == f)=true:=beq_iff_eq.mpr h
   simp only [List.lookup,hb,if_pos h]
  ·have hb:(g == f)=false:=beq_eq_false_iff_ne.mpr h
   simp only [List.lookup,hb,if_neg h]
 | (k,x)::r=>by
  have ih:=lookup_putF f g v r
  rw [show putF f v ((k,x)::r)=(if k=f then (k,v)::r else (k,x)::putF f v r) from rfl]
  by_cases hk:k=f
  ·rw [if_pos hk]
   by_cases h:g=k
   ·have hb:(g == k)=true:=beq_iff_eq.mpr h
    simp only [List.lookup,hb,if_pos (h.trans hk)]
   ·have hb:(g == k)=false:=beq_eq_false_iff_ne.mpr h
    simp only [List.lookup,hb,if_neg (fun e:g=f=>h (e.trans hk.symm))]
  ·rw [if_neg hk]
   by_cases h:g=k
   ·have hb:(g == k)=true:=beq_iff_eq.mpr h
    simp only [List.lookup,hb,if_neg (fun e:g=f=>hk (h.symm.trans e))]
   ·have hb:(g == k)=false:=beq_eq_false_iff_ne.mpr h
    simp only [List.lookup,hb]
    exact ih
theorem keys_putF (f:Str) (v:V):∀ fs:List (Str × V),f∈(putF f v fs).map (·.1)∧∀ g,g∈fs.map (·.1)→g∈(putF f v fs).map (·.1)
 | []=>⟨by simp [putF],fun g h=>by simp at h⟩
 | (k,x)::r=>by
  obtain ⟨i1,i2⟩:=keys_putF f v r
  rw [show putF f v ((k,x)::r)=(if k=f then (k,v)::r else (k,x)::putF f v r) from rfl]
  by_cases hk:k=f
  ·rw [if_pos hk]
   subst hk
   exact ⟨by simp,fun g h=>by simpa using h⟩
  ·rw [if_neg hk]
   refine ⟨?_,fun g h=>?_⟩
   ·rw [List.map_cons]
    exact List.mem_cons_of_mem _ i1
   ·rw [List.map_cons] at h ⊢
    rcases List.mem_cons.mp h with e | e
    ·exact List.mem_cons.mpr (.inl e)
    ·exact List.mem_cons_of_mem _ (i2 g e)
theorem length_putF (f:Str) (v:V):∀ fs:List (Str × V),(putF f v fs).length≤fs.length + 1
 | []=>by simp [putF]
 | (k,x)::r=>by
  have ih:=length_putF f v r
  rw [show putF f v ((k,x)::r)=(if k=f then (k,v)::r else (k,x)::putF f v r) from rfl]
  by_cases hk:k=f
  ·rw [if_pos hk,List.length_cons,List.length_cons];omega
  ·rw [if_neg hk,List.length_cons,List.length_cons];omega
theorem RelO.some_of {v:V} {o:Option Value} (r:RelO (some v) o):∃ u,o=some u∧RelV v u:=by
 cases o with
 | none=>exact (show False from r).elim
 | some u=>exact ⟨u,rfl,r⟩
theorem RelO.none_of {o:Option Value} (r:RelO none o):o=none:=by
 cases o with
 | none=>rfl
 | some u=>exact (show False from r).elim
theorem handed_of {v:V} {u:Value} (r:RelV v u):PySem.W.handedIn u=true:=by
 cases v with
 | non=>cases (show u=Value.none from r);rfl
 | bl b=>cases (show u=Value.bool b from r);rfl
 | int i=>obtain ⟨t,e⟩:=(show ∃ t,u=Value.int i t from r);cases e;rfl
 | str x=>obtain ⟨t,e⟩:=(show ∃ t,u=Value.str x t from r);cases e;rfl
 | byt b=>obtain ⟨t,e⟩:=(show ∃ t,u=Value.bytes b t from r);cases e;rfl
 | flt b=>obtain ⟨t,e⟩:=(show ∃ t,u=Value.float b t from r);cases e;rfl
 | ref a=>cases (show u=Value.ref a from r);rfl
 | ty n=>cases (show u=Value.type n from r);rfl
section
variable {P:Program} {w:World} {H H':Hp} {h h':Heap} {a C dx:Addr} {fs fs':List (Str × V)}
theorem ins_get (hok:HOk P w H h) (e:H a=some (.ins C dx fs)):∃ mA,ObjM h a dx C mA∧(∀ f,RelO (fs.lookup f) (mA f))∧PySem.Within mA (fs.map (·.1))∧fs.length≤1000∧H dx=some (.own a):=by
 obtain ⟨d,z,ne,ob,mA,n,r,q⟩:=(show ObjOk P w H h a (.ins C dx fs) from hok a _ e)
 exact ⟨mA,⟨ob,n,ne⟩,r,q,z,d⟩
end
structure Cls (K:PySem.W.Frag) (C:Addr):Prop where
 pg:PySem.W.plainGet K C Str.empty=true
 hd:PySem.W.hasDictIn K C=true
 po:PySem.W.plainOver K C=true
 sa:PySem.W.findIn K (.ref C) "__setattr__" = some (some (.builtin "object.__setattr__"))
theorem Cls.get {K:PySem.W.Frag} {C:Addr} (c:Cls K C) (f:Str):PySem.W.plainGet K C f=true:=c.pg
def NoAttr (K:PySem.W.Frag) (C:Addr) (f:Str):Prop:=PySem.W.findIn K (.ref C) f=some none
theorem NoAttr.taker {K:PySem.W.Frag} {C:Addr} {f:Str} (n:NoAttr K C f):PySem.W.takerIn K C f=some none:=by
 unfold PySem.W.takerIn
 rw [show PySem.W.findIn K (.ref C) f=some none from n]
 rfl
structure Con (K:PySem.W.Frag) (C:Addr) (f:Str) (v:V) (u:Value):Prop where
 at_:PySem.W.findIn K (.ref C) f=some (some u)
 rel:RelV v u
 get:PySem.W.specialIn K u "__get__" = some none
 cp:PySem.W.copiedNames.contains f=false
structure Meth (K:PySem.W.Frag) (C:Addr) (m:Str) (f:Addr):Prop where
 at_:PySem.W.findIn K (.ref C) m=some (some (.ref f))
 fn:PySem.W.isFn K (.ref f)=true
 kp:PySem.W.keepIn K (.ref f)=true
section
variable {X:Cx} {pins:List (Addr × Obj)} {σ:St} {H:Hp} {s:Shared} {a C dx:Addr} {fs:List (Str × V)} {f:Str} {v:V} {A:Around} {E:Value→Shared→Prop}
theorem getattr_ok {b:Bool} {Q:Value→Shared→Prop} (I:Inv X pins σ H s) (e:H a=some (.ins C dx fs)) (c:Cls X.K C) (n:NoAttr X.K C f) (l:fs.lookup f=some v)
  (h:∀ u s',Inv X pins σ H s'→RelV v u→Q u s'):wpAny (model X.prog X.w) A (getAttr (.ref a) f b) Q E s:=by
 obtain ⟨mA,O,r,_,_,_⟩:=ins_get I.hok e
 obtain ⟨u,hu,ru⟩:=RelO.some_of (v:=v) (o:=mA f) (by rw [← l];exact r f)
 exact get_map I.kIn O (c.get f) c.hd n hu (handed_of ru) (h u _ (I.tok _) ru)
theorem getmeth_ok {m:Str} {g:Addr} {pl:Sem Bool} {Q:Value × List Value→Shared→Prop} (I:Inv X pins σ H s) (e:H a=some (.ins C dx fs)) (c:Cls X.K C) (k:Meth X.K C m g) (l:fs.lookup m=none)
  (h:Q (.ref g,[.ref a]) s):wpAny (model X.prog X.w) A (getMethod (.ref a) m pl) Q E s:=by
 obtain ⟨mA,O,r,_,_,_⟩:=ins_get I.hok e
 have hn:mA m=none:=RelO.none_of (by rw [← l];exact r m)
 exact get_meth I.kIn O (c.get m) k.at_ k.fn hn h
theorem setattr_ok {y:V} {u:Value} {Q:Unit→Shared→Prop} (I:Inv X pins σ H s) (e:H a=some (.ins C dx fs)) (c:Cls X.K C) (n:NoAttr X.K C f) (hl:fs.length<1000) (ry:RelV y u)
  (h:∀ s',Inv X pins σ (upd H a (.ins C dx (putF f y fs))) s'→Q () s'):wpAny (model X.prog X.w) A (setAttr (.ref a) f u) Q E s:=by
 obtain ⟨mA,O,r,wi,_,ho⟩:=ins_get I.hok e
 have hz:(fs.map (·.1)).length≤sizeLine:=by rw [List.length_map,sizeLine_eq];omega
 refine set_map I.kIn O c.sa c.po n.taker c.hd wi hz fun h' O' sb=>h _ ?_
 have hd:∃ o,h'.get? dx=some o:=let ⟨o,_,_,e',_⟩:=O'.ns;⟨o,e'⟩
 refine I.write (x:=a) (e:=dx) (by rw [e];exact True.intro) (.inr ho) (fun b q hb z=>(sb.2 b hb).trans z) hd ?_
 refine ⟨by rw [upd_ne O.ne];exact ho,?_,O.ne,O'.obj,_,O'.ns,fun g=>?_,fun g hg=>?_⟩
 ·have:=length_putF f y fs;omega
 ·show RelO ((putF f y fs).lookup g) (if g=f then some u else mA g)
  rw [lookup_putF]
  by_cases q:g=f
  ·rw [if_pos q,if_pos q];exact ry
  ·rw [if_neg q,if_neg q];exact r g
 ·by_cases q:g=f
  ·rw [q];exact (keys_putF f y fs).1
  ·refine (keys_putF f y fs).2 g (wi g fun z=>hg ?_)
   show (if g=f then some u else mA g)=none
   rw [if_neg q];exact z
theorem Inv.made (I:Inv X pins σ H s):Inv X pins σ (upd (upd H s.heap.objs.size (.own (s.heap.objs.size + 1))) (s.heap.objs.size + 1) (.ins C s.heap.objs.size []))
  { s with heap:=(s.heap.push PySem.W.emptyDict).push (PySem.W.instObj C s.heap.objs.size) }:=by
 have e1:(s.heap.push PySem.W.emptyDict).get? s.heap.objs.size=some PySem.W.emptyDict:=Heap.get?_push_size s.heap rfl
 have e2:((s.heap.push PySem.W.emptyDict).push (PySem.W.instObj C s.heap.objs.size)).get? (s.heap.objs.size + 1)=some (PySem.W.instObj C s.heap.objs.size):=by
  have:=Heap.get?_push_size (s.heap.push PySem.W.emptyDict) (o:=PySem.W.instObj C s.heap.objs.size) rfl
  rwa [Heap.size_push] at this
 have e3:(s.heap.push PySem.W.emptyDict).Ns s.heap.objs.size (fun _=>none):=⟨PySem.W.emptyDict,#[],_,e1,rfl,(fun e he=>absurd he (by simp)),fun _=>rfl⟩
 have I1:=I.laid (a:=s.heap.objs.size) (o:=.own (s.heap.objs.size + 1)) (h':=s.heap.push PySem.W.emptyDict) (t':=s.toks) (fun b u q=>Heap.get?_push_of_some _ q) (Nat.le_refl _) ⟨_,e1⟩
 refine I1.laid (a:=s.heap.objs.size + 1) (o:=.ins C s.heap.objs.size []) (t':=s.toks) (fun b u q=>Heap.get?_push_of_some _ q) (Nat.le_of_eq (Heap.size_push _ _)) ?_
 have ne:s.heap.objs.size≠s.heap.objs.size + 1:=Nat.ne_of_lt (Nat.lt_succ_self _)
 refine ⟨by rw [upd_ne ne,upd_same],Nat.zero_le _,ne,e2,fun _=>none,(Heap.Ns1.of_empty e3).at fun o q=>Heap.get?_push_of_some _ q,fun _=>True.intro,fun y hy=>absurd rfl hy⟩
theorem attr_of {prog:Program} {w:World} {env:Env} {e:Expr} {f:Str} {pos:Pos} {s:Shared} {Q:Value→Shared→Prop} (hb:attributeBase e f env (eval e env)=eval e env)
  (h:wpAny (model prog w) A (eval e env) (fun o s₁=>wpAny (model prog w) A (getAttr o f true) Q E s₁) E s):wpAny (model prog w) A (eval (.Attribute e f pos) env) Q E s :=
 Attribute_any_ h (by rw [arm_eval_Attribute,hb])
end
def tFld (K:PySem.W.Frag) (ta:TE) (f:Str):TE:=fun σ H Q=>ta σ H fun x H1=>∃ a C dx fs v,x = .ref a∧H1 a=some (.ins C dx fs)∧Cls K C∧NoAttr K C f∧fs.lookup f=some v∧Q v H1
def sFld (K:PySem.W.Frag) (ta tv:TE) (f:Str):TS:=fun D σ H=>tv σ H fun y H1=>ta σ H1 fun x H2=>∃ a C dx fs,x = .ref a∧H2 a=some (.ins C dx fs)∧Cls K C∧NoAttr K C f∧fs.length<1000 ∧
 D.nx σ (upd H2 a (.ins C dx (putF f y fs)))
section
variable {X:Cx} {o e value:Expr} {f:Str} {pos pos' tpos:Pos} {ta tv:TE}
theorem pe_fld (he:PE X e ta) (hb:attributeBase e f X.env (eval e X.env)=eval e X.env):PE X (.Attribute e f pos) (tFld X.K ta f):=by
 intro pins s σ H Q I h
 refine attr_of hb (thn (he pins s σ H _ I h) fun u s1 ⟨x,H1,I1,rx,a,C,dx,fs,v,ex,ea,c,n,l,q⟩=>?_)
 subst ex
 obtain rfl:u=Value.ref a:=rx
 exact getattr_ok I1 ea c n l fun u' s2 I2 ru=>⟨v,H1,I2,ru,q⟩
theorem ps_fld (ha:PE X o ta) (hv:PE X value tv) (hs:swapsWith value (some (.Attribute o f pos')) pos.line X.env=pure false):PS X (.Assign [.Attribute o f pos'] value pos) (sFld X.K ta tv f):=by
 intro pins s σ H D I h
 refine plainObj_wpAny_Assign_Attribute (thn (hv pins s σ H _ I h) fun u s1 ⟨y,H1,I1,ry,q⟩=>thn (ha pins s1 σ H1 _ I1 q) fun ov s2 ⟨x,H2,I2,rx,a,C,dx,fs,ex,ea,c,n,l,q2⟩=>?_) hs
 subst ex
 obtain rfl:ov=Value.ref a:=rx
 exact setattr_ok I2 ea c n l ry fun s3 I3=>⟨σ,_,I3,q2⟩
end
section
variable {X:Cx} {pins:List (Addr × Obj)} {σ:St} {H:Hp} {s:Shared} {A:Around} {E:Value→Shared→Prop} {Q:Value→Shared→Prop} {c:Value} {b:Bool}
inductive TyOf (K:PySem.W.Frag) (H:Hp):V→Value→Prop where
 | non:TyOf K H .non (.type "NoneType")
 | bl (x:Bool):TyOf K H (.bl x) (.type "bool")
 | int (i:Int):TyOf K H (.int i) (.type "int")
 | str (x:Str):TyOf K H (.str x) (.type "str")
 | flt (x:UInt64):TyOf K H (.flt x) (.type "float")
 | lst {a:Addr} {xs:List V} (e:H a=some (.lst xs)):TyOf K H (.ref a) (.type "list")
 | frz {a:Addr} {o:Obj} {xs:List V} (e:H a=some (.frz o (.lst xs))):TyOf K H (.ref a) (.type "list")
 | tup {a:Addr} {xs:List V} (e:H a=some (.tup xs)):TyOf K H (.ref a) (.type "tuple")
 | dK {a:Addr} {kvs:List (Key × V)} (e:H a=some (.dK kvs)):TyOf K H (.ref a) (.type "dict")
 | dT {a:Addr} {kvs:List (List Key × V)} (e:H a=some (.dT kvs)):TyOf K H (.ref a) (.type "dict")
 | ins {a C dx:Addr} {fs:List (Str × V)} (e:H a=some (.ins C dx fs)) (cl:Cls K C) (ha:PySem.W.findIn K (.ref C) "__class__" = some (some (.builtin "object.__class__")))
   (hn:PySem.W.specialIn K (.builtin "object.__class__") "__get__" = some (some (.builtin "getset_descriptor.__get__"))) (htk:PySem.W.takesIn K (.builtin "object.__class__")=some true)
   (hm:PySem.W.mroIn K C (.type "object")=some true):TyOf K H (.ref a) (.ref C)
theorem isinst_ok {x:V} {u t:Value} (I:Inv X pins σ H s) (rx:RelV x u) (ty:TyOf X.K H x t) (e:PySem.W.kitOne X.K t c=some b) (h:∀ tk,Q (.bool b) { s with toks:=tk }) :
  wpAny (model X.prog X.w) A (call (.builtin "isinstance") [u,c]) Q E s:=by
 cases ty with
 | non=>cases (show u=Value.none from rx);exact PySem.W.kia_one PySem.W.kitx_none I.kIn True.intro e (fun z=>nomatch z) h
 | bl y=>cases (show u=Value.bool y from rx);exact PySem.W.kia_one PySem.W.kitx_bool I.kIn True.intro e (fun z=>nomatch z) h
 | int i=>obtain ⟨t,q⟩:=(show ∃ t,u=Value.int i t from rx);cases q;exact PySem.W.kia_one PySem.W.kitx_int I.kIn True.intro e (fun z=>nomatch z) h
 | str y=>obtain ⟨t,q⟩:=(show ∃ t,u=Value.str y t from rx);cases q;exact PySem.W.kia_one PySem.W.kitx_str I.kIn True.intro e (fun z=>nomatch z) h
 | flt y=>obtain ⟨t,q⟩:=(show ∃ t,u=Value.float y t from rx);cases q;exact PySem.W.kia_one PySem.W.kitx_float I.kIn True.intro e (fun z=>nomatch z) h
 | @lst a xs ea =>
  cases (show u=Value.ref a from rx)
  obtain ⟨_,_,n,_,h1⟩:=(show ObjOk X.prog X.w H s.heap a (.lst xs) from I.hok a _ ea)
  exact PySem.W.kia_one PySem.W.kitx_list I.kIn ⟨_,h1,rfl⟩ e (fun z=>nomatch z) h
 | @frz a ob xs ea =>
  cases (show u=Value.ref a from rx)
  obtain ⟨_,_,_,n,_,h1⟩:=(show ObjOk X.prog X.w H s.heap a (.frz ob (.lst xs)) from I.hok a _ ea)
  exact PySem.W.kia_one PySem.W.kitx_list I.kIn ⟨_,h1,rfl⟩ e (fun z=>nomatch z) h
 | @tup a xs ea =>
  cases (show u=Value.ref a from rx)
  obtain ⟨_,_,_,p⟩:=(show ObjOk X.prog X.w H s.heap a (.tup xs) from I.hok a _ ea)
  obtain ⟨o,h1,h2,_⟩:=p
  exact PySem.W.kia_one PySem.W.kitx_tuple I.kIn ⟨o,h1,h2⟩ e (fun z=>nomatch z) h
 | @dK a kvs ea =>
  cases (show u=Value.ref a from rx)
  obtain ⟨_,_,vs,_,p⟩:=(show ObjOk X.prog X.w H s.heap a (.dK kvs) from I.hok a _ ea)
  obtain ⟨o,es,ep,h1,h2,_⟩:=p
  exact PySem.W.kia_one PySem.W.kitx_dict I.kIn ⟨o,h1,h2.1⟩ e (fun z=>nomatch z) h
 | @dT a kvs ea =>
  cases (show u=Value.ref a from rx)
  obtain ⟨_,_,xs,_,o,es,ep,h1,h2,_⟩:=(show ObjOk X.prog X.w H s.heap a (.dT kvs) from I.hok a _ ea)
  exact PySem.W.kia_one PySem.W.kitx_dict I.kIn ⟨o,h1,h2.1⟩ e (fun z=>nomatch z) h
 | @ins a C dx fs ea cl ha hn htk hm =>
  cases (show u=Value.ref a from rx)
  obtain ⟨mA,O,_⟩:=ins_get I.hok ea
  obtain ⟨od,J,_⟩:=O.look
  exact PySem.W.kia_one (PySem.W.kitx_own (cl.get _) cl.hd ha hn htk hm) I.kIn J e (fun z=>nomatch z) h
end
end L2
namespace L2
open PySem PySem.Spec PyProof.Rows
structure Room (k:Nat) (A:Around):Prop where
 hd:A.handled=none
 dp:A.depth + 3 * k + 5<recursionLimit
 un:A.units + 16 * k + 200<cLine
theorem Room.mono {j k:Nat} {A:Around} (r:Room k A) (h:j≤k):Room j A:=⟨r.hd,by have:=r.dp;omega,by have:=r.un;omega⟩
theorem Room.deeper {k:Nat} {A:Around} (r:Room (k + 1) A) (env:Env):Room k (A.deeper env) :=
 ⟨r.hd,by have:=r.dp;show A.depth + 1 + 3 * k + 5<_;omega,by have:=r.un;show A.units + 3 + 16 * k + 200<_;omega⟩
theorem make_depth {A:Around} {C:Addr} {us:List Value} {kw:List (Str × Value)}:(A.under (.builtin "type.__call__" ⟨.ref C::us,kw⟩)).depth=A.depth + 1:=by
 first | rfl | simp [Around.under,Code.weight,Code.isCreation,Code.isGuard,Code.isCaller,Code.frames,Code.isFrame,guardIds]
theorem make_units {A:Around} {C:Addr} {us:List Value} {kw:List (Str × Value)}:(A.under (.builtin "type.__call__" ⟨.ref C::us,kw⟩)).units=A.units + 1:=by
 first | rfl | simp [Around.under,Code.cUnits,Code.frames,Code.isFrame]
theorem Room.make {k:Nat} {A:Around} (r:Room (k + 1) A) (C:Addr) (us:List Value) (kw:List (Str × Value)):Room k (A.under (.builtin "type.__call__" ⟨.ref C::us,kw⟩)) :=
 ⟨r.hd,by have:=r.dp;rw [make_depth];omega,by have:=r.un;rw [make_units];omega⟩
theorem Room.depth {k:Nat} {A:Around} (r:Room k A):A.depth<recursionLimit:=by have:=r.dp;omega
theorem Room.units {k:Nat} {A:Around} (r:Room k A):A.units + 64<cLine:=by have:=r.un;omega
def tNil:TA:=fun _ H Q=>Q [] H
def tCons (ta:TE) (tr:TA):TA:=fun σ H Q=>ta σ H fun x H1=>tr σ H1 fun xs H2=>Q (x::xs) H2
section
variable {X:Cx} {e:Expr} {es:List Expr} {te:TE} {t:TA} {pos:Pos}
theorem pa_nil:PA X [] tNil:=fun _ _ _ _ H Q I h=>Calls.spliced_nil ⟨[],H,I,.nil,h⟩
theorem pa_cons (ha:PE X e te) (hr:PA X es t) (hs:starEach (e::es) X.env=(false,eval e X.env)::starEach es X.env:=by rfl):PA X (e::es) (tCons te t):=by
 intro pos pins s σ H Q I h
 rw [hs]
 show wpAny _ _ (spliced ((false,eval e X.env)::backTo pos (starEach es X.env))) _ _ s
 refine Calls.spliced_cons (thn (ha pins s σ H _ I h) fun u s1 ⟨x,H1,I1,r1,q1⟩=>?_)
 exact thn (hr pos pins s1 σ H1 _ I1 q1) fun us s2 ⟨xs,H2,I2,r2,q2⟩=>⟨x::xs,H2,I2,.cons r1 r2,q2⟩
def tTup (t:TA):TE:=fun σ H Q=>t σ H fun xs H1=>xs.length≤sizeLine∧∀ p,H1 p=none→Q (.ref p) (upd H1 p (.tup xs))
def tLst (t:TA):TE:=fun σ H Q=>t σ H fun xs H1=>xs.length≤sizeLine∧∀ p,H1 p=none→Q (.ref p) (upd H1 p (.lst xs))
theorem pe_tup {x1} (h:PA X es t):PE X (.Tuple es x1 pos) (tTup t):=by
 intro pins s σ H Q I hq
 refine wpAny_Tuple_spliced (thn (h pos pins s σ H _ I hq) fun us s1 ⟨xs,H1,I1,r,z,q⟩=>⟨by rw [← r.length];exact z,?_⟩)
 have hf:H1 s1.heap.objs.size=none:=I1.hok.fresh (Nat.le_refl _)
 refine ⟨.ref s1.heap.objs.size,upd H1 s1.heap.objs.size (.tup xs),I1.laid (t':=s1.toks) (fun b u e=>Heap.get?_push_of_some _ e) (Nat.le_refl _) ?_,rfl,q _ hf⟩
 exact ⟨z,us,r,⟨_,Heap.get?_push_size _ rfl,rfl,_,rfl⟩⟩
theorem pe_lst (h:PA X es t):PE X (.List es pos) (tLst t):=by
 intro pins s σ H Q I hq
 refine wpAny_List_spliced (thn (h pos pins s σ H _ I hq) fun us s1 ⟨xs,H1,I1,r,z,q⟩=>⟨by rw [← r.length];exact z,?_⟩)
 have hf:H1 s1.heap.objs.size=none:=I1.hok.fresh (Nat.le_refl _)
 refine ⟨.ref s1.heap.objs.size,upd H1 s1.heap.objs.size (.lst xs),I1.laid (t':=s1.toks) (fun b u e=>Heap.get?_push_of_some _ e) (Nat.le_refl _) ?_,rfl,q _ hf⟩
 exact ⟨z,us,0,r,Heap.get?_push_size _ rfl⟩
end
abbrev Sp:=List V→Hp→VK→XK→Prop
abbrev CXT:=List Env→Hp→Shared→XK→Value→Shared→Prop
structure Env0 (P:Program) (w:World) (K:PySem.W.Frag) (mg:Str→Option Value) (base:Heap) (A:Around) (outer:List Env) (s:Shared) (H:Hp):Prop where
 frames:A.frames=some outer
 mod:Mod K mg base
 bs:∀ b o,base.get? b=some o→s.heap.get? b=some o∧H b=none
 bsz:base.objs.size≤s.heap.objs.size
 funs:s.heap.FunFrames base outer
 frf:∀ b∈frs outer,H b=none
 hok:HOk P w H s.heap
 bare:AllBare s.gens
def CE (outer:List Env) (P:Program) (w:World) (H:Hp) (s:Shared) (Q:VK) (u:Value) (s':Shared):Prop :=
 ∃ v H',s'.os=s.os∧AllBare s'.gens∧Un (frs outer) [] H H' s.heap s'.heap∧HOk P w H' s'.heap∧RelV v u∧Q v H'
def CR (CX:CXT) (outer:List Env) (P:Program) (w:World) (H:Hp) (s:Shared) (Q:VK) (E:XK) (r:Result) (s':Shared):Prop :=
 match r with
 | .ok (.ret u)=>CE outer P w H s Q u s'
 | .ok _=>False
 | .error e=>CX outer H s E e s'
structure FnOk (P:Program) (w:World) (K:PySem.W.Frag) (mg:Str→Option Value) (base:Heap) (CX:CXT) (k:Nat) (f:Addr) (fd:FuncData) (ps:List Str) (sp:Sp):Prop where
 len:∀ vs H Q E,sp vs H Q E→vs.length=ps.length
 run:∀ (A:Around) (outer:List Env) (s:Shared) (H:Hp) (args:Args) (us:List Value) (vs:List V) (Q:VK) (E:XK),Room k A→Env0 P w K mg base A outer s H→BindsTo s fd args (ps.zip us)→Vals vs us→sp vs H Q E →
  codeAny (model P w) A (.call (.ref f) args) (CR CX outer P w H s Q E) s
theorem Env0.make {P:Program} {w:World} {K:PySem.W.Frag} {mg:Str→Option Value} {base:Heap} {A:Around} {outer:List Env} {s:Shared} {H:Hp} (e:Env0 P w K mg base A outer s H) (C:Addr) (us:List Value) (kw:List (Str × Value)) :
  Env0 P w K mg base (A.under (.builtin "type.__call__" ⟨.ref C::us,kw⟩)) outer s H:=⟨by first | exact e.frames | (simpa [Around.under,Code.envs,Code.isFrame,pushEnvs] using e.frames),e.mod,e.bs,e.bsz,e.funs,e.frf,e.hok,e.bare⟩
section
variable {X:Cx} {pins:List (Addr × Obj)} {σ:St} {H:Hp} {s s':Shared}
theorem Inv.env0 (I:Inv X pins σ H s):Env0 X.prog X.w X.K X.mg X.base X.A X.stack s H :=
 ⟨I.ok.frames,I.ok.mod,I.bs,Nat.le_trans I.ok.bsz I.sz,I.stack,I.stkFree,I.hok,I.bare⟩
theorem Inv.after {Q:VK} {u:Value} (I:Inv X pins σ H s) (h:CE X.stack X.prog X.w H s Q u s'):EP X pins σ Q u s':=by
 obtain ⟨v,H',os,bare,un,hok,r,q⟩:=h
 obtain ⟨hh,g,d,t,os'⟩:=s'
 obtain rfl:os'=s.os:=os
 exact ⟨v,H',I.call (h':=hh) (g':=g) (d':=d) (t':=t) (ch:=[]) un hok bare (fun b z=>absurd z (by simp)),r,q⟩
end
def tCall (sp:Sp) (dvs:List V) (E:XK) (t:TA):TE:=fun σ H Q=>t σ H fun vs H1=>sp (vs++dvs) H1 Q E
def Binds (K:PySem.W.Frag) (fd:FuncData) (ps:List Str) (ds:List Value):Prop :=
 ∀ (s:Shared) (us:List Value),K.In s.heap→(us++ds).length=ps.length→BindsTo s fd ⟨us,[]⟩ (ps.zip (us++ds))
theorem Binds.all {K:PySem.W.Frag} {fd:FuncData} {ps:List Str} (h:∀ us:List Value,us.length=ps.length→bindArgs fd ⟨us,[]⟩=pure (ps.zip us)):Binds K fd ps []:=fun s us _ hl=>by
 rw [List.append_nil] at hl ⊢
 exact .of_eq (h us hl)
def Passes (CX:CXT) (X:Cx) (E:XK):Prop:=∀ (pins:List (Addr × Obj)) (σ:St) (H:Hp) (s:Shared) (e:Value) (s':Shared),Inv X pins σ H s→CX X.stack H s E e s'→X.xe e s'
section
variable {X:Cx} {CX:CXT} {k:Nat} {f C:Addr} {fd:FuncData} {ps:List Str} {sp:Sp} {dvs:List V} {ds:List Value} {E:XK} {x m:Str} {p pos apos:Pos} {e o:Expr} {es:List Expr} {ta:TE} {t:TA}
theorem run_fn {pins:List (Addr × Obj)} {σ:St} {H:Hp} {s:Shared} {Q:VK} {us:List Value} {vs:List V} (F:FnOk X.prog X.w X.K X.mg X.base CX k f fd ps sp) (hr:Room k X.A) (hb:Binds X.K fd ps ds) (hd:Vals dvs ds) (hx:Passes CX X E)
  (I:Inv X pins σ H s) (r:Vals vs us) (h:sp (vs++dvs) H Q E):wpAny (model X.prog X.w) X.A (call (.ref f) us) (EP X pins σ Q) X.xe s:=by
 have r2:Vals (vs++dvs) (us++ds):=r.append hd
 have hl:(us++ds).length=ps.length:=by rw [← r2.length];exact F.len _ _ _ _ h
 refine wpAny_call (codeAny_mono (F.run X.A X.stack s H ⟨us,[]⟩ (us++ds) (vs++dvs) Q E hr I.env0 (hb s us I.kIn hl) r2 h) fun r s' hq=>?_)
 cases r with
 | error e=>exact hx pins σ H s e s' I hq
 | ok fl =>
  cases fl with
  | ret u=>exact I.after hq
  | next=>exact False.elim hq
  | brk=>exact False.elim hq
  | cont=>exact False.elim hq
theorem pe_call (F:FnOk X.prog X.w X.K X.mg X.base CX k f fd ps sp) (hr:Room k X.A) (hg:Gl X x) (hm:X.mg x=some (.ref f)) (hk:PySem.W.keepIn X.K (.ref f)=true) (hb:Binds X.K fd ps ds) (hd:Vals dvs ds) (hx:Passes CX X E)
  (ha:PA X (e::es) t) (hdb:(x == ("__debug__":Str))=false:=by decide) (he:starEach (e::es) X.env=(false,eval e X.env)::starEach es X.env:=by rfl) (hpl:(backTo pos (starEach es X.env)).any (·.1)=false:=by rfl) :
  PE X (.Call (.Name x p) (e::es) [] pos) (tCall sp dvs E t):=by
 intro pins s σ H Q I h
 refine wpAny_Call_Name_kw (ld_glob I hg hm ?_ hdb)
 refine PySem.W.callWith_K (h₀:=X.base) I.ok.mod.kin hk (thn (ha pos pins s σ H _ I h) fun us s1 ⟨vs,H1,I1,r,q⟩=>⟨I1.kIn,?_⟩) he hpl
 exact run_fn F hr hb hd hx I1 r q
structure Mk (K:PySem.W.Frag) (C f:Addr):Prop where
 makes:PySem.W.makesIn K C=true
 init:PySem.W.findIn K (.ref C) "__init__" = some (some (.ref f))
 fn:PySem.W.isFn K (.ref f)=true
 kp:PySem.W.keepIn K (.ref C)=true
end
section
variable {X:Cx} {CX:CXT} {k:Nat} {f C:Addr} {fd:FuncData} {ps ks:List Str} {sp:Sp} {E:XK} {x m:Str} {p pos apos kpos:Pos} {e o:Expr} {es:List Expr} {kws:List Keyword} {te ta:TE} {t tk:TA} {nm:Option Str}
structure KBinds (K:PySem.W.Frag) (fd:FuncData) (ps ks:List Str) (g:List Value→List Value→List Value) (gV:List V→List V→List V):Prop where
 to:∀ (s:Shared) (us ws:List Value),K.In s.heap→(g us ws).length=ps.length→BindsTo s fd ⟨us,ks.zip ws⟩ (ps.zip (g us ws))
 rel:∀ {vs:List V} {us:List Value} {zs:List V} {ws:List Value},Vals vs us→Vals zs ws→Vals (gV vs zs) (g us ws)
variable {g:List Value→List Value→List Value} {gV:List V→List V→List V}
end
structure FnScope (N P:List Str) (sc:Scope):Prop where
 kind:sc.kind = .function
 co:sc.isCoroutine=false
 gen:sc.isGenerator=false
 nd:N.Nodup
 pre:N.take P.length=P
 par:∀ x∈P,sc.names.lookup x=some .local∨sc.names.lookup x=some .cell
 nofree:∀ y∈sc.names,y.2≠.free
theorem bindL_out {kindOf:Str→Option NameKind} {x:Str}:∀ {binds:List (Str × Value)} {m:Str→Option Value},(∀ v,(x,v) ∉ binds)→bindL kindOf binds m x=m x
 | [],_,_=>rfl
 | (n,v)::r,m,h=>by
  unfold bindL
  rw [bindL_out fun w hw=>h w (List.mem_cons_of_mem _ hw)]
  split
  ·have:x≠n:=by rintro rfl;exact h v List.mem_cons_self
   simp [this]
  ·rfl
theorem bindC_out {kindOf:Str→Option NameKind} {x:Str}:∀ {binds:List (Str × Value)} {m:Str→Option Value},(∀ v,(x,v) ∉ binds)→bindC kindOf binds m x=m x
 | [],_,_=>rfl
 | (n,v)::r,m,h=>by
  unfold bindC
  rw [bindC_out fun w hw=>h w (List.mem_cons_of_mem _ hw)]
  split
  ·rfl
  ·have:x≠n:=by rintro rfl;exact h v List.mem_cons_self
   simp [this]
theorem bindL_get {kindOf:Str→Option NameKind} {x:Str} {v:Value}:∀ {P:List Str} {vs:List Value} {i:Nat} {m:Str→Option Value},P.Nodup→P[i]? = some x→vs[i]? = some v→kindOf x=some .local →
  bindL kindOf (P.zip vs) m x=some v
 | [],_,_,_,_,h,_,_=>by simp at h
 | _::_,[],_,_,_,_,h,_=>by simp at h
 | p::P,w::vs,0,m,nd,h1,h2,hk=>by
  simp at h1 h2;subst h1;subst h2
  show bindL kindOf ((p,w)::P.zip vs) m p=_
  unfold bindL
  rw [bindL_out fun v hv=>(List.nodup_cons.mp nd).1 (List.of_mem_zip hv).1,if_pos hk]
  simp
 | p::P,w::vs,i + 1,m,nd,h1,h2,hk=>by
  show bindL kindOf ((p,w)::P.zip vs) m x=_
  unfold bindL
  exact bindL_get (i:=i) (List.nodup_cons.mp nd).2 (by simpa using h1) (by simpa using h2) hk
theorem bindC_get {kindOf:Str→Option NameKind} {x:Str} {v:Value}:∀ {P:List Str} {vs:List Value} {i:Nat} {m:Str→Option Value},P.Nodup→P[i]? = some x→vs[i]? = some v→kindOf x≠some .local →
  bindC kindOf (P.zip vs) m x=some v
 | [],_,_,_,_,h,_,_=>by simp at h
 | _::_,[],_,_,_,_,h,_=>by simp at h
 | p::P,w::vs,0,m,nd,h1,h2,hk=>by
  simp at h1 h2;subst h1;subst h2
  show bindC kindOf ((p,w)::P.zip vs) m p=_
  unfold bindC
  rw [bindC_out fun v hv=>(List.nodup_cons.mp nd).1 (List.of_mem_zip hv).1,if_neg hk]
  simp
 | p::P,w::vs,i + 1,m,nd,h1,h2,hk=>by
  show bindC kindOf ((p,w)::P.zip vs) m x=_
  unfold bindC
  exact bindC_get (i:=i) (List.nodup_cons.mp nd).2 (by simpa using h1) (by simpa using h2) hk
def start (N:List Str) (vs:List V):St:=vs.map some++List.replicate (N.length - vs.length) none
def cxOf (CX:CXT) (P:Program) (w:World) (K:PySem.W.Frag) (mg:Str→Option Value) (base:Heap) (N:List Str) (qual:Str) (scope:Scope) (f:Addr) (cd:Value) (A:Around) (outer:List Env) (s:Shared) (H:Hp) (E:XK):Cx where
 prog:=P
 w:=w
 K:=K
 mg:=mg
 base:=base
 A:=A.deeper (envOfC qual scope s.heap.objs.size f cd)
 N:=N
 s₀:=s
 H₀:=H
 env:=envOfC qual scope s.heap.objs.size f cd
 outer:=outer
 stack:=envOfC qual scope s.heap.objs.size f cd::outer
 ex:=[]
 calm:=true
 fn:=fun _=>true
 pn:=[]
 xe:=fun e s'=>wpAny (model P w) (A.deeper (envOfC qual scope s.heap.objs.size f cd)) (leaving (envOfC qual scope s.heap.objs.size f cd) e) (fun _ s''=>CX outer H s E e s'') (fun e' s''=>CX outer H s E e' s'') s'
theorem cell_has {sc:Scope} {n:Nat} {x:Str} (h:sc.names.lookup x=some .cell):∃ c,(cellsFrom n sc.names []).lookup x=some c:=by
 have q:=PySem.W.cellsFrom_some sc.names n [] (.inl h)
 exact Option.isSome_iff_exists.mp q
theorem inv_start {CX:CXT} {P:Program} {w:World} {K:PySem.W.Frag} {mg:Str→Option Value} {base:Heap} {N ps:List Str} {qual:Str} {scope:Scope} {f:Addr} {cd:Value} {A:Around} {outer:List Env} {s s1:Shared} {H:Hp} {E:XK} {us:List Value} {vs:List V}
  (S:FnScope N ps scope) (hd:A.handled=none) (e0:Env0 P w K mg base A outer s H) (hl:vs.length=ps.length) (r:Vals vs us)
  (x:InCallC s s.heap.objs.size (bindL (envOfC qual scope s.heap.objs.size f cd).kindOf (ps.zip us) fun _=>none) (cellsFrom (s.heap.objs.size + 1) scope.names []) (bindC (envOfC qual scope s.heap.objs.size f cd).kindOf (ps.zip us) fun _=>none) s1) :
  Inv (cxOf CX P w K mg base N qual scope f cd A outer s H E) [] (start N vs) H s1:=by
 have hpl:ps.length≤N.length:=by have:=congrArg List.length S.pre;rw [List.length_take] at this;omega
 obtain ⟨h1,tk,rfl,hk⟩:=x.done
 have noA:∀ b:Addr,b ∉ (cxOf CX P w K mg base N qual scope f cd A outer s H E).ex:=fun b z=>absurd (show b∈([]:List Addr) from z) (by simp)
 refine ⟨⟨e0.mod,S.kind,rfl,rfl,Nat.le_refl _,fun y z c h1 h2=>?_,fun y hy=>?_,fun y c _ h=>?_,fun _=>hd,Around.frames_deeper e0.frames,.inr ⟨rfl,rfl⟩,fun b z=>absurd z (noA b),e0.bs,e0.bsz,fun b _ _=>noA b,fun b z=>absurd z (noA b),e0.funs,e0.frf⟩,
  rfl,e0.bare,Un.kept hk,⟨_,x.toInCall.ns,fun i y v h1 h2 h3=>?_⟩,fun y c h=>⟨_,x.cell y c h⟩,e0.hok.fresh (Nat.le_refl _),fun y c h=>?_,fun p hp=>absurd (show p∈([]:List (Addr × Obj)) from hp) (by simp),e0.hok.kept hk,?_⟩
 ·exact name_of_addr x.apart (PySem.mem_of_lookup h1) (PySem.mem_of_lookup h2)
 ·have hy:scope.names.lookup y=some .cell∨scope.names.lookup y=some .free:=hy
  rcases hy with hy | hy
  ·exact cell_has hy
  ·exact absurd rfl (S.nofree _ (PySem.mem_of_lookup hy))
 ·exact Nat.le_of_lt (x.above y c (PySem.mem_of_lookup h))
 ·have hi:i<vs.length:=by
   unfold start at h2
   by_cases hi:i<vs.length
   ·exact hi
   ·rw [List.getElem?_append_right (by simpa using hi)] at h2
    rw [List.getElem?_replicate] at h2
    split at h2 <;> cases h2
  have ha:vs[i]? = some v:=by
   unfold start at h2
   rw [List.getElem?_append_left (by simpa using hi),List.getElem?_map] at h2
   cases e:vs[i]? with
   | none=>rw [e] at h2;cases h2
   | some a=>rw [e] at h2;cases h2;rfl
  obtain ⟨u,hu,rv⟩:=r.get ha
  have hp:ps[i]? = some y:=by
   rw [← S.pre,List.getElem?_take_of_lt (by omega)];exact h1
  have ndP:ps.Nodup:=by rw [← S.pre];exact S.nd.sublist (List.take_sublist _ _)
  refine ⟨u,rv,?_⟩
  rcases S.par y (List.mem_of_getElem? hp) with k | k
  ·exact .inl ⟨k,bindL_get ndP hp hu k⟩
  ·obtain ⟨c,e⟩:=cell_has (n:=s.heap.objs.size + 1) k
   refine .inr ⟨.inl k,c,e,?_⟩
   have q:=x.cell y c e
   rw [bindC_get ndP hp hu (by show scope.names.lookup y≠_;rw [k];decide)] at q
   exact q
 ·exact e0.hok.fresh (Nat.le_of_lt (x.above y c (PySem.mem_of_lookup h)))
 ·unfold start
  show _=N.length
  rw [List.length_append,List.length_map,List.length_replicate]
  omega
theorem fn_of {CX:CXT} {P:Program} {w:World} {K:PySem.W.Frag} {mg:Str→Option Value} {base:Heap} {k:Nat} {f:Addr} {name qual:Str} {params:Arguments} {body:List Stmt} {scope:Scope} {dV kV doc pm cdv ct oc:Value} {an od:Option Addr}
  {osl:Array (Option Value)} {N ps:List Str} {sp:Sp} (lk:K.lookup f=some ⟨oc,od,.func (PySem.W.fnOf name qual params body scope dV kV doc pm an cdv ct),osl⟩) (hcd:PySem.W.codeIn K cdv qual=true) (S:FnScope N ps scope)
  (len:∀ vs H Q E,sp vs H Q E→vs.length=ps.length)
  (hbody:∀ (A:Around) (outer:List Env) (s:Shared) (H:Hp) (vs:List V) (Q:VK) (E:XK),Room k (A.deeper (envOfC qual scope s.heap.objs.size f cdv))→sp vs H Q E →
   ∃ t,PSs (cxOf CX P w K mg base N qual scope f cdv A outer s H E) body t∧t { nx:=fun _ H'=>Q .non H',rt:=Q } (start N vs) H) :
  FnOk P w K mg base CX (k + 1) f (PySem.W.fnOf name qual params body scope dV kV doc pm an cdv ct) ps sp:=by
 refine ⟨len,fun A outer s H args us vs Q E hr e0 hb r hsp=>?_⟩
 have hl:=len _ _ _ _ hsp
 have KX:K.In s.heap:=e0.mod.kin.keeps fun b o e=>(e0.bs b o e).1
 have lim:s.heap.NoLimit:=e0.mod.nolimit.keeps fun b o e=>(e0.bs b o e).1
 have hkind:∀ y∈ps.zip us,scope.names.lookup y.1=some .local∨(scope.names.lookup y.1=some .cell∧((cellsFrom (s.heap.objs.size + 1) scope.names []).lookup y.1).isSome=true):=fun ⟨n,v⟩ hy=>by
  rcases S.par n (List.of_mem_zip hy).1 with q | q
  ·exact .inl q
  ·exact .inr ⟨q,PySem.W.cellsFrom_some _ _ _ (.inl q)⟩
 refine codeAny_call_function hr.depth (KX _ _ lk) rfl S.co S.gen rfl (PySem.W.codeRec_of KX hcd) (hb _ _ _ _ ?_)
 refine wpAny_newFunctionEnv_cells S.kind hkind fun env he s1 x=>?_
 subst he
 refine ⟨lim.keeps x.toInCall.keep,codeAny_func ?_⟩
 obtain ⟨t,ht,hq⟩:=hbody A outer s H vs Q E (hr.deeper _) hsp
 have I:Inv (cxOf CX P w K mg base N qual scope f cdv A outer s H E) [] (start N vs) H s1:=inv_start S hr.hd e0 hl r x
 refine wpAny_mono (ht [] s1 (start N vs) H _ I hq) (fun fl s' hs=>?_) fun e s' hs=>hs
 have fin:∀ {σ':St} {H':Hp} {v:V} {u:Value},Inv (cxOf CX P w K mg base N qual scope f cdv A outer s H E) [] σ' H' s'→RelV v u→Q v H'→CE outer P w H s Q u s' :=
  fun {σ' H' v u} J rv q=>⟨v,H',J.os,J.bare,J.base,J.hok,rv,q⟩
 cases fl with
 | ret u =>
  obtain ⟨v,σ',H',J,rv,q⟩:=hs
  exact fin J rv q
 | next =>
  obtain ⟨σ',H',J,q⟩:=hs
  exact fin (v:=V.non) (u:=Value.none) J rfl q
 | brk =>
  obtain ⟨_,_,_,q⟩:=hs
  exact False.elim q
 | cont =>
  obtain ⟨_,_,_,q⟩:=hs
  exact False.elim q
end L2
namespace L2
open PySem PySem.Spec PyProof.Rows
section
variable {X:Cx} {x:Str} {p pos:Pos} {e:Expr} {es:List Expr} {t:TA} {id T:String} {r:List V→Hp→VK→Prop}
def tCB (r:List V→Hp→VK→Prop) (t:TA):TE:=fun σ H Q=>t σ H fun vs H1=>r vs H1 Q
theorem pe_callB (hc:CallR X (.builtin id) r) (hg:Gl X x) (hm:X.mg x=none) (hv:bootBuiltins x=some (.builtin id)) (ha:PA X (e::es) t) (hn:x≠"__name__":=by decide) (hdb:(x == ("__debug__":Str))=false:=by decide)
  (he:starEach (e::es) X.env=(false,eval e X.env)::starEach es X.env:=by rfl) (hpl:(backTo pos (starEach es X.env)).any (·.1)=false:=by rfl):PE X (.Call (.Name x p) (e::es) [] pos) (tCB r t):=by
 intro pins s σ H Q I h
 refine wpAny_Call_Name_kw (ld_blt I hg hm hv ?_ hn hdb)
 exact PyProof.Rows.callWith_builtin1 (thn (ha pos pins s σ H _ I h) fun us s1 ⟨vs,H1,I1,r1,q1⟩=>hc pins s1 σ H1 vs us Q I1 r1 q1) he hpl
theorem pe_callTy (hc:CallR X (.type T) r) (hg:Gl X x) (hm:X.mg x=none) (hv:bootBuiltins x=some (.type T)) (ha:PA X (e::es) t) (hn:x≠"__name__":=by decide) (hdb:(x == ("__debug__":Str))=false:=by decide)
  (he:starEach (e::es) X.env=(false,eval e X.env)::starEach es X.env:=by rfl) (hpl:(backTo pos (starEach es X.env)).any (·.1)=false:=by rfl):PE X (.Call (.Name x p) (e::es) [] pos) (tCB r t):=by
 intro pins s σ H Q I h
 refine wpAny_Call_Name_kw (ld_blt I hg hm hv ?_ hn hdb)
 exact PyProof.Rows.callWith_type1 (thn (ha pos pins s σ H _ I h) fun us s1 ⟨vs,H1,I1,r1,q1⟩=>hc pins s1 σ H1 vs us Q I1 r1 q1) he hpl
end
end L2
namespace HT
open PySem PyProof.Rows
def lexLt:List Int→List Int→Bool
 | [],[]=>false
 | [],_::_=>true
 | _::_,[]=>false
 | x::xs,y::ys=>if x=y then lexLt xs ys else decide (x<y)
theorem lexLt_cons (x y:Int) (xs ys:List Int):lexLt (x::xs) (y::ys)=if x=y then lexLt xs ys else decide (x<y):=rfl
theorem lexLt_nil_nil:lexLt [] []=false:=rfl
theorem lexLt_nil_cons (y:Int) (ys:List Int):lexLt [] (y::ys)=true:=rfl
theorem lexLt_cons_nil (x:Int) (xs:List Int):lexLt (x::xs) []=false:=rfl
theorem eqAt_int (A:Around) (s:Shared) (a:Int) (t:Tok) (c:Int) (u:Tok):∃ e,SeqAt.EqAt A s (.int a t) (.int c u) e∧(e=true ↔ a=c) :=
 ⟨(a == c),SeqAt.EqAt.int_int a t c u,by simp⟩
theorem rcLt_int (A:Around) (s:Shared) (a:Int) (t:Tok) (c:Int) (u:Tok) (prog:Program) (w:World) (E:Value→Shared→Prop) (Q:Value→Shared→Prop) (h:Q (.bool (decide (a<c))) s) :
  wpAny (model prog w) A (richCompare .Lt (.int a t) (.int c u)) Q E s :=
 (PyProof.Rows.lt_int h:wpAny (model prog w) A (compareOp .Lt (.int a t) (.int c u)) Q E s)
section
open PySem.SeqAt
open PySem.AutoSeq1 (wpAny_loadPart')
open PySem.MeetsSeq PySem.MeetsSeq2 PySem.MeetsSeq3
theorem tuple_lt_ints (l b:Addr) (items items2:Array Value) (n n2:Nat) (dd dd2:Option Addr) (sl sl2:Array (Option Value)) (ns ms:List Int) (hi:IntsAre items.toList ns) (hj:IntsAre items2.toList ms) :
  Meets (Builtin.«tuple.__lt__» ⟨[.ref l,.ref b],[]⟩)
   (fun _ R s=>s.heap.get? l=some { cls:=.type "tuple",dict:=dd,data:=.seq items n,slots:=sl }∧s.heap.get? b=some { cls:=.type "tuple",dict:=dd2,data:=.seq items2 n2,slots:=sl2 } ∧
    R (.ok (.ret (.bool (lexLt ns ms)))) s) :=
 .of_wp fun prog w A R s h=>by
  obtain ⟨hp,g,d,tk,os⟩:=s;obtain ⟨hl,hb,h⟩:=h
  have f2:=AutoSeq1.sub_tuple_tuple
  have z1:items.size=ns.length:=by rw [← hi.length];simp
  have z2:items2.size=ms.length:=by rw [← hj.length];simp
  wp_walk using wpAny_loadPart' hl,wpAny_loadPart' hb,wpAny_forIn_list _ (fun rest b s'=>b.1=none∧s'=⟨hp,g,d,tk,os⟩∧∃ (vs ws:List Value) (ns' ms':List Int),rest=vs.zip ws ∧
   IntsAre vs ns'∧IntsAre ws ms'∧ns'.length + items2.size=ms'.length + items.size∧R (.ok (.ret (.bool (lexLt ns' ms')))) ⟨hp,g,d,tk,os⟩) _
  case turn =>
   rintro ⟨y,x⟩ rest b s' ⟨hb',rfl,vs,ws,ns',ms',hz,hvi,hwi,hlen,hR⟩
   cases hvi with
   | nil=>rw [List.zip_nil_left] at hz;cases hz
   | cons a t hvi' =>
    cases hwi with
    | nil=>rw [List.zip_nil_right] at hz;cases hz
    | cons c u hwi' =>
     rw [List.zip_cons_cons] at hz
     injection hz with hyx hrest
     injection hyx with hy hx
     subst hy hx
     rw [lexLt_cons] at hR
     simp only [List.length_cons] at hlen
     obtain ⟨e,he,hiff⟩:=eqAt_int A.in1 ⟨hp,g,d,tk,os⟩ a t c u
     refine wpAny_bind (he prog w _ _ ?_)
     cases e with
     | true =>
      rw [if_pos (hiff.mp rfl)] at hR
      wp_walk
      exact ⟨rfl,rfl,_,_,_,_,hrest,hvi',hwi',by omega,hR⟩
     | false =>
      rw [if_neg (fun q=>absurd (hiff.mpr q) Bool.false_ne_true)] at hR
      have hri:=rcLt_int A.in1 ⟨hp,g,d,tk,os⟩ a t c u prog w
      wp_walk using hri
      exact ⟨_,rfl,by simpa using hR⟩
  case fin =>
   rintro ⟨b1,b2⟩ s' ⟨hb',rfl,vs,ws,ns',ms',hz,hvi,hwi,hlen,hR⟩
   simp only at hb'
   subst hb'
   have hv:lexLt ns' ms'=decide (items.size<items2.size):=by
    cases hvi with
    | nil =>
     cases hwi with
     | nil =>
      simp only [List.length_nil] at hlen
      rw [lexLt_nil_nil]
      exact (decide_eq_false (by omega)).symm
     | cons c u hw =>
      simp only [List.length_nil,List.length_cons] at hlen
      rw [lexLt_nil_cons]
      exact (decide_eq_true (by omega)).symm
    | cons a t hv =>
     cases hwi with
     | nil =>
      simp only [List.length_nil,List.length_cons] at hlen
      rw [lexLt_cons_nil]
      exact (decide_eq_false (by omega)).symm
     | cons c u hw =>
      rw [List.zip_cons_cons] at hz
      cases hz
   rw [hv] at hR
   wp_walk
   exact ⟨_,rfl,by simpa [Builtin.Tuple.tupleCompareSizes] using hR⟩
  case h =>
   exact ⟨rfl,rfl,items.toList,items2.toList,ns,ms,rfl,hi,hj,by omega,h⟩
end
section
variable {prog:Program} {w:World} {A:Around} {E:Value→Shared→Prop} {s:Shared}
theorem cat_tup {t b:Addr} {vs ws:List Value} {Q:Value→Shared→Prop} (ht:IsTup s.heap t vs.toArray) (hb:IsTup s.heap b ws.toArray) (hv:vs≠[])
  (h1:ws=[]→Q (.ref t) s) (h2:ws≠[]→Q (.ref s.heap.objs.size) { s with heap:=s.heap.push { cls:=.type "tuple",data:=.seq (vs++ws).toArray } })
  (hsz:vs.length + ws.length≤sizeLine):wpAny (model prog w) A (binaryOp .Add (.ref t) (.ref b)) Q E s:=by
 obtain ⟨⟨cls,dd,data,sl⟩,ho,hc,n,hd⟩:=id ht
 obtain ⟨⟨cls2,dd2,data2,sl2⟩,ho2,hc2,n2,hd2⟩:=id hb
 simp only at hc hd hc2 hd2
 subst hc hd hc2 hd2
 have e:vs.toArray++ws.toArray=(vs++ws).toArray:=by simp
 by_cases hw:ws=[]
 ·exact concat_meets ⟨_,ho,rfl⟩ ⟨_,ho2,rfl⟩ noFill_tuple_add seq_tuple_add PySem.F.slot_tuple_add PySem.F.entry_tuple_add (PySem.F.args_tuple_add_2 _ _)
   (tuple_addW1 t b vs.toArray ws.toArray n n2 dd dd2 sl sl2 (by simpa using hv) (by simp [hw])) ⟨ho,ho2,h1 hw⟩
 ·refine concat_meets ⟨_,ho,rfl⟩ ⟨_,ho2,rfl⟩ noFill_tuple_add seq_tuple_add PySem.F.slot_tuple_add PySem.F.entry_tuple_add (PySem.F.args_tuple_add_2 _ _)
   (tuple_addW2 t b vs.toArray ws.toArray n n2 dd dd2 sl sl2 (by simpa using hv) (by simpa using hw) (by rw [List.size_toArray,List.size_toArray];exact hsz)) ⟨ho,ho2,?_⟩
  rw [e]
  exact h2 hw
end
end HT
namespace L2
open PySem PySem.Spec PyProof.Rows
abbrev TO:=St→Hp→(Option Int→Hp→Prop)→Prop
theorem intsAre_of {ns:List Int}:∀ {us:List Value},Vals (ns.map V.int) us→IntsAre us ns:=by
 induction ns with
 | nil=>intro us r;rw [List.map_nil] at r;cases r;exact .nil
 | cons n ns ih =>
  intro us r
  rw [List.map_cons] at r
  cases r with
  | cons r1 r2 =>
   obtain ⟨t,e⟩:=r1
   subst e
   exact .cons n t (ih r2)
section
variable {X:Cx} {e:Expr} {te:TE} {lo hi:Option Expr} {tl th:TO} {pos p2:Pos}
def rCatT (K:PySem.W.Frag):R2:=fun x y H Q=>∃ a b xs ys,x = .ref a∧y = .ref b∧SqT K H a xs∧SqT K H b ys∧xs≠[]∧xs.length + ys.length≤sizeLine ∧
 (ys=[]→Q (.ref a) H)∧(ys≠[]→∀ p,H p=none→Q (.ref p) (upd H p (.tup (xs++ys))))
theorem Vals.nil_iff {xs:List V} {us:List Value} (r:Vals xs us):us=[] ↔ xs=[]:=by
 cases r with
 | nil=>simp
 | cons _ _=>simp
theorem op_catT:OpR X (binaryOp .Add) (rCatT X.K):=by
 intro pins s σ H x y v u Q I rx ry h
 obtain ⟨a,b,xs,ys,rfl,rfl,ha,hb,hx,hz,q1,q2⟩:=h
 cases rx
 cases ry
 obtain ⟨its,r1,p1,_⟩:=I.tuple ha
 obtain ⟨its2,r2,p2,_⟩:=I.tuple hb
 refine HT.cat_tup p1 p2 (fun z=>hx (r1.nil_iff.mp z)) (fun z=>⟨.ref a,H,I,rfl,q1 (r2.nil_iff.mp z)⟩) (fun z=>?_) (by rw [← r1.length,← r2.length];exact hz)
 refine ⟨.ref s.heap.objs.size,_,I.laid (t':=s.toks) (o:=.tup (xs++ys)) (fun b ob q=>Heap.get?_push_of_some _ q) (Nat.le_refl _) ?_,rfl,q2 (fun w=>z (r2.nil_iff.mpr w)) _ (I.hok.fresh (Nat.le_refl _))⟩
 exact ⟨by rw [List.length_append];exact hz,_,r1.append r2,IsTup.new _ _⟩
end
end L2
namespace L2
open PySem PySem.Spec PyProof.Rows
def ixN (n:Nat) (i:Int):Option Nat:=if 0≤i then (if i<n then some i.toNat else none) else if -(n:Int)≤i then some (i + n).toNat else none
def atI {α:Type} (xs:List α) (i:Int):Option α:=(ixN xs.length i).bind fun j=>xs[j]?
theorem ixN_seq {n:Nat} {i:Int} {j:Nat} (h:ixN n i=some j):seqIndex? i n=some j∧j<n∧-(n:Int)≤i∧i<n:=by
 unfold ixN at h
 by_cases h0:0≤i
 ·rw [if_pos h0] at h
  by_cases h1:i<n
  ·rw [if_pos h1] at h
   have e:i.toNat=j:=Option.some.inj h
   exact ⟨by rw [seqIndex_of h0 h1,e],by omega,by omega,h1⟩
  ·rw [if_neg h1] at h;cases h
 ·rw [if_neg h0] at h
  by_cases h1:-(n:Int)≤i
  ·rw [if_pos h1] at h
   have e:(i + n).toNat=j:=Option.some.inj h
   exact ⟨by rw [seqIndex_neg (by omega) h1,e],by omega,h1,by omega⟩
  ·rw [if_neg h1] at h;cases h
theorem atI_get {α:Type} {xs:List α} {i:Int} {v:α} (h:atI xs i=some v):∃ j,seqIndex? i xs.length=some j∧xs[j]? = some v∧j<xs.length∧-(xs.length:Int)≤i∧i<xs.length:=by
 unfold atI at h
 cases e:ixN xs.length i with
 | none=>rw [e] at h;cases h
 | some j =>
  rw [e] at h
  obtain ⟨h1,h2,h3,h4⟩:=ixN_seq e
  exact ⟨j,h1,h,h2,h3,h4⟩
theorem atI_nat {α:Type} {xs:List α} {j:Nat} {v:α} (h:xs[j]? = some v):atI xs (j:Int)=some v:=by
 have hj:j<xs.length:=(List.getElem?_eq_some_iff.mp h).1
 have e:ixN xs.length (j:Int)=some j:=by
  unfold ixN
  rw [if_pos (by omega),if_pos (by omega)];simp
 unfold atI;rw [e];exact h
theorem atI_last {α:Type} (xs:List α) (v:α):atI (xs++[v]) (-1)=some v:=by
 have hl:(xs++[v]).length=xs.length + 1:=by simp
 have e:ixN (xs++[v]).length (-1)=some xs.length:=by
  unfold ixN
  rw [hl,if_neg (by decide),if_pos (by omega)]
  congr 1
  omega
 unfold atI
 rw [e]
 show (xs++[v])[xs.length]? = some v
 simp
def PlainIx (b:Expr):Prop:=∀ o i,subscripted b false o i=operate [o,i] (getItem o i)
def IxR (X:Cx) (r:R2):Prop :=
 ∀ (value slice:Expr) (pins:List (Addr × Obj)) (s:Shared) (σ:St) (H:Hp) (x y:V) (v u:Value) (Q:VK),Inv X pins σ H s→RelV x v→RelV y u→r x y H Q →
  subscripted slice false v u=operate [v,u] (getItem v u)→wpAny (model X.prog X.w) X.A (subscriptTail value slice v u) (EP X pins σ Q) X.xe s
def MtR (X:Cx) (id:String) (r:V→List V→Hp→VK→Prop):Prop :=
 ∀ (pins:List (Addr × Obj)) (s:Shared) (σ:St) (H:Hp) (x:V) (xs:List V) (v:Value) (us:List Value) (Q:VK),Inv X pins σ H s→RelV x v→Vals xs us→r x xs H Q →
  wpAny (model X.prog X.w) X.A (call (.builtin id) (v::us)) (EP X pins σ Q) X.xe s
section
variable {X:Cx} {a b:Expr} {ta tb:TE} {pos:Pos}
theorem pe_ix {r:R2} (hr:IxR X r) (ha:PE X a ta) (hb:PE X b tb) (hs:PlainIx b):PE X (.Subscript a b pos) (tOp r ta tb):=by
 intro pins s σ H Q I h
 exact Subscript_ (binT ha hb I h fun v u s2 x y H2 I2 rx ry q=>hr a b pins s2 σ H2 x y v u Q I2 rx ry q (hs _ _))
def rIxL (K:PySem.W.Frag):R2:=fun x y H Q=>∃ p xs i v,x = .ref p∧y = .int i∧SqL K H p xs∧atI xs i=some v∧Q v H
def rIxT (K:PySem.W.Frag):R2:=fun x y H Q=>∃ p xs i v,x = .ref p∧y = .int i∧SqT K H p xs∧atI xs i=some v∧Q v H
theorem ix_list:IxR X (rIxL X.K):=by
 intro value slice pins s σ H x y v u Q I rx ry h hs
 obtain ⟨p,xs,i,z,rfl,rfl,hq,he,q⟩:=h
 cases rx
 obtain ⟨t,rfl⟩:=ry
 obtain ⟨its,r,pl,hz⟩:=I.list hq
 obtain ⟨j,h1,h2,h3,h4,h5⟩:=atI_get he
 obtain ⟨w,ew,rw'⟩:=r.get h2
 have hl:=r.length
 have hn:=line63
 have fin:EP X pins σ Q w s:=⟨z,H,I,rw',q⟩
 by_cases h0:0≤i
 ·have hj:i.toNat=j:=by
   rw [seqIndex_of h0 h5] at h1
   exact Option.some.inj h1
  exact item_listR pl.isList h0 (by omega) (by rw [hj];simpa using ew) fin hs
 ·have hj:(i + (its.toArray.size:Int)).toNat=j:=by
   rw [seqIndex_neg (by omega) h4] at h1
   rw [List.size_toArray,← hl]
   exact Option.some.inj h1
  exact subscriptTail_builtinR (x:=w) pl.isList.typeIs slot_list_getitem.lookup
   (wpAny_getItem_list_neg (Q:=fun r s'=>r=w∧EP X pins σ Q r s') pl.isList (by omega) (by rw [List.size_toArray] <;> omega) (by omega) (by rw [hj];simpa using ew) ⟨rfl,fin⟩) hs
theorem ix_tup:IxR X (rIxT X.K):=by
 intro value slice pins s σ H x y v u Q I rx ry h hs
 obtain ⟨p,xs,i,z,rfl,rfl,hq,he,q⟩:=h
 cases rx
 obtain ⟨t,rfl⟩:=ry
 obtain ⟨its,r,pl,hz⟩:=I.tuple hq
 obtain ⟨j,h1,h2,h3,h4,h5⟩:=atI_get he
 obtain ⟨w,ew,rw'⟩:=r.get h2
 have hl:=r.length
 have hn:=line63
 have fin:EP X pins σ Q w s:=⟨z,H,I,rw',q⟩
 exact subscriptTail_builtinR (x:=w) pl.typeIs slot_tuple_getitem.lookup
  (getItem_tuple (j:=j) (Q:=fun r s'=>r=w∧EP X pins σ Q r s') pl (by omega) (by omega) (by rw [List.size_toArray,← hl];exact h1) (by simpa using ew) ⟨rfl,fin⟩) hs
def flatV:V→Bool
 | .non=>true
 | .bl _=>true
 | .int _=>true
 | .str _=>true
 | _=>false
def eqV:V→V→Bool
 | .non,.non=>true
 | .bl a,.bl b=>a == b
 | .bl a,.int b=>(if a then 1 else 0) == b
 | .int a,.bl b=>a == (if b then 1 else 0)
 | .int a,.int b=>a == b
 | .str a,.str b=>a == b
 | _,_=>false
theorem eqAt_V {A:Around} {s:Shared} {y x:V} {u v:Value} (ry:RelV y u) (rx:RelV x v) (fy:flatV y=true) (fx:flatV x=true):SeqAt.EqAt A s u v (eqV y x):=by
 cases y with
 | non =>
  cases ry
  cases x with
  | non=>cases rx;exact SeqAt.EqAt.same _
  | bl b=>cases rx;exact SeqAt.EqAt.none_bool b
  | int b=>obtain ⟨t,rfl⟩:=rx;exact SeqAt.EqAt.none_int b t
  | str b=>obtain ⟨t,rfl⟩:=rx;exact SeqAt.EqAt.none_str b t
  | _=>exact absurd (show false=true from fx) Bool.false_ne_true
 | bl a =>
  cases ry
  cases x with
  | non=>cases rx;exact SeqAt.EqAt.bool_none a
  | bl b=>cases rx;exact SeqAt.EqAt.bool_bool a b
  | int b=>obtain ⟨t,rfl⟩:=rx;exact SeqAt.EqAt.bool_int a b t
  | str b=>obtain ⟨t,rfl⟩:=rx;exact SeqAt.EqAt.bool_str a b t
  | _=>exact absurd (show false=true from fx) Bool.false_ne_true
 | int a =>
  obtain ⟨t',rfl⟩:=ry
  cases x with
  | non=>cases rx;exact SeqAt.EqAt.int_none a t'
  | bl b=>cases rx;exact SeqAt.EqAt.int_bool a t' b
  | int b=>obtain ⟨t,rfl⟩:=rx;exact SeqAt.EqAt.int_int a t' b t
  | str b=>obtain ⟨t,rfl⟩:=rx;exact SeqAt.EqAt.int_str a t' b t
  | _=>exact absurd (show false=true from fx) Bool.false_ne_true
 | str a =>
  obtain ⟨t',rfl⟩:=ry
  cases x with
  | non=>cases rx;exact SeqAt.EqAt.str_none a t'
  | bl b=>cases rx;exact SeqAt.EqAt.str_bool a t' b
  | int b=>obtain ⟨t,rfl⟩:=rx;exact SeqAt.EqAt.str_int a t' b t
  | str b=>obtain ⟨t,rfl⟩:=rx;exact SeqAt.EqAt.str_str a t' b t
  | _=>exact absurd (show false=true from fx) Bool.false_ne_true
 | _=>exact absurd (show false=true from fy) Bool.false_ne_true
def eqU (x:V) (u:Value):Bool:=match u with
 | .none=>eqV .non x
 | .bool b=>eqV (.bl b) x
 | .int i _=>eqV (.int i) x
 | .str z _=>eqV (.str z) x
 | _=>false
theorem eqU_of {x y:V} {u:Value} (r:RelV y u) (f:flatV y=true):eqU x u=eqV y x:=by
 cases y with
 | non=>cases r;rfl
 | bl b=>cases r;rfl
 | int i=>obtain ⟨t,rfl⟩:=r;rfl
 | str z=>obtain ⟨t,rfl⟩:=r;rfl
 | _=>exact absurd (show false=true from f) Bool.false_ne_true
theorem any_eqU {x:V}:∀ {xs:List V} {us:List Value},Vals xs us→xs.all flatV=true→us.any (eqU x)=xs.any fun y=>eqV y x
 | _,_,.nil,_=>rfl
 | y::xs,u::us,.cons r t,f=>by
  rw [List.all_cons,Bool.and_eq_true] at f
  rw [List.any_cons,List.any_cons,eqU_of r f.1,any_eqU t f.2]
theorem mem_eqAt {A:Around} {s:Shared} {x:V} {v:Value} (rx:RelV x v) (fx:flatV x=true):∀ {xs:List V} {us:List Value},Vals xs us→xs.all flatV=true→∀ u∈us,SeqAt.EqAt A s u v (eqU x u)
 | _,_,.nil,_=>fun u hu=>by cases hu
 | y::xs,u::us,.cons r t,f=>fun u' hu=>by
  rw [List.all_cons,Bool.and_eq_true] at f
  rcases List.mem_cons.mp hu with rfl | hu
  ·rw [eqU_of r f.1];exact eqAt_V r rx f.1 fx
  ·exact mem_eqAt rx fx t f.2 u' hu
def inV (x:V) (xs:List V):Bool:=xs.any fun y=>eqV y x
def rIn (K:PySem.W.Frag) (neg:Bool):R2:=fun x y H Q=>∃ p xs,y = .ref p∧(SqL K H p xs∨SqT K H p xs)∧flatV x=true∧xs.all flatV=true∧Q (.bl (if neg then !inV x xs else inV x xs)) H
theorem op_in_seq:OpR X (compareOp .In) (rIn X.K false):=by
 intro pins s σ H x y v u Q I rx ry h
 obtain ⟨p,xs,rfl,hq,fx,fs,q⟩:=h
 cases ry
 rcases hq with hq | hq
 ·obtain ⟨its,r,pl,hz⟩:=I.list hq
  refine SeqAt.in_listAt (eqU x) pl.isList (fun w hw=>mem_eqAt rx fx r fs w (by simpa using hw)) ⟨.bl _,H,I,rfl,?_⟩
  rw [show its.toArray.any (eqU x)=its.any (eqU x) by simp,any_eqU r fs]
  exact q
 ·obtain ⟨its,r,pl,hz⟩:=I.tuple hq
  refine SeqAt.in_tupleAt (eqU x) pl (fun w hw=>mem_eqAt rx fx r fs w (by simpa using hw)) ⟨.bl _,H,I,rfl,?_⟩
  rw [show its.toArray.any (eqU x)=its.any (eqU x) by simp,any_eqU r fs]
  exact q
theorem op_notIn_seq:OpR X (compareOp .NotIn) (rIn X.K true):=by
 intro pins s σ H x y v u Q I rx ry h
 obtain ⟨p,xs,rfl,hq,fx,fs,q⟩:=h
 cases ry
 rcases hq with hq | hq
 ·obtain ⟨its,r,pl,hz⟩:=I.list hq
  refine SeqAt.notIn_listAt (eqU x) pl.isList (fun w hw=>mem_eqAt rx fx r fs w (by simpa using hw)) ⟨.bl _,H,I,rfl,?_⟩
  rw [show its.toArray.any (eqU x)=its.any (eqU x) by simp,any_eqU r fs]
  exact q
 ·obtain ⟨its,r,pl,hz⟩:=I.tuple hq
  refine SeqAt.notIn_tupleAt (eqU x) pl (fun w hw=>mem_eqAt rx fx r fs w (by simpa using hw)) ⟨.bl _,H,I,rfl,?_⟩
  rw [show its.toArray.any (eqU x)=its.any (eqU x) by simp,any_eqU r fs]
  exact q
theorem call_len_seq:CallR X (.builtin "len") (fun xs H Q=>∃ p ys,xs=[.ref p]∧(SqL X.K H p ys∨SqT X.K H p ys)∧Q (.int ys.length) H):=by
 intro pins s σ H xs us Q I r h
 obtain ⟨p,ys,rfl,hq,q⟩:=h
 obtain ⟨u,rfl,rx⟩:=vals1 r
 cases rx
 have hn:=line63
 rcases hq with hq | hq
 ·obtain ⟨its,r',pl,hz⟩:=I.list hq
  have hlen:=r'.length
  exact Calls.call_len_list pl.isList (by simp only [List.size_toArray] <;> omega) ⟨.int ys.length,H,I.tok _,⟨s.toks + 1,by rw [List.size_toArray,hlen]⟩,q⟩
 ·obtain ⟨its,r',pl,hz⟩:=I.tuple hq
  have hlen:=r'.length
  exact len_tuple pl (by simp only [List.size_toArray] <;> omega) ⟨.int ys.length,H,I.tok _,⟨s.toks + 1,by rw [List.size_toArray,hlen]⟩,q⟩
theorem call_list_of:CallR X (.type "list") (fun xs H Q=>∃ p ys,xs=[.ref p]∧(SqL X.K H p ys∨SqT X.K H p ys)∧∀ l,H l=none→Q (.ref l) (upd H l (.lst ys))):=by
 intro pins s σ H xs us Q I r h
 obtain ⟨p,ys,rfl,hq,q⟩:=h
 obtain ⟨u,rfl,rx⟩:=vals1 r
 cases rx
 have fin:∀ (its:List Value),Vals ys its→ys.length≤sizeLine→∀ (h':Heap) (c':Nat),(∀ b o',s.heap.get? b=some o'→h'.get? b=some o') →
   h'.get? s.heap.objs.size=some { cls:=.type "list",dict:=none,data:=.seq its.toArray c',slots:=#[] }→EP X pins σ Q (.ref s.heap.objs.size) { s with heap:=h' }:=fun its r' hz h' c' kp e =>
  ⟨.ref s.heap.objs.size,_,I.laid (t':=s.toks) kp (Nat.le_refl _) (show ObjOk X.prog X.w _ h' _ (.lst ys) from ⟨hz,its,c',r',e⟩),rfl,q _ (I.hok.fresh (Nat.le_refl _))⟩
 rcases hq with hq | hq
 ·obtain ⟨its,r',pl,hz⟩:=I.list hq
  have hlen:=r'.length
  obtain ⟨o,ho,hc,n,hd⟩:=pl.isList
  exact call_list_seq p (.inl rfl) ho hc hd (fun h' c' kp e=>fin its r' hz h' c' kp e) (by simp only [List.size_toArray] <;> omega)
 ·obtain ⟨its,r',pl,hz⟩:=I.tuple hq
  have hlen:=r'.length
  obtain ⟨o,ho,hc,n,hd⟩:=pl
  exact call_list_seq p (.inr rfl) ho hc hd (fun h' c' kp e=>fin its r' hz h' c' kp e) (by simp only [List.size_toArray] <;> omega)
theorem call_tuple_of:CallR X (.type "tuple") (fun xs H Q=>∃ p ys,xs=[.ref p]∧((SqL X.K H p ys∧∀ l,H l=none→Q (.ref l) (upd H l (.tup ys)))∨(SqT X.K H p ys∧Q (.ref p) H))):=by
 intro pins s σ H xs us Q I r h
 obtain ⟨p,ys,rfl,h⟩:=h
 obtain ⟨u,rfl,rx⟩:=vals1 r
 cases rx
 rcases h with ⟨hq,q⟩ | ⟨hq,q⟩
 ·obtain ⟨its,r',pl,hz⟩:=I.list hq
  have hlen:=r'.length
  refine call_tuple_list pl.isList (fun h' kp=>?_) (by simp only [List.size_toArray] <;> omega)
  have I1:Inv X pins σ H { s with heap:=h' }:=I.kept (t':=s.toks) kp
  have I2:Inv X pins σ (upd H h'.objs.size (.tup ys)) { s with heap:=h'.push { cls:=.type "tuple",data:=.seq its.toArray } } :=
   I1.laid (t':=s.toks) (fun b o e=>Heap.get?_push_of_some _ e) (Nat.le_refl _) (show ObjOk X.prog X.w _ _ _ (.tup ys) from ⟨hz,its,r',IsTup.new _ _⟩)
  exact ⟨.ref h'.objs.size,_,I2,rfl,q _ (I1.hok.fresh (Nat.le_refl _))⟩
 ·obtain ⟨its,r',pl,hz⟩:=I.tuple hq
  exact call_tuple_same pl ⟨.ref p,H,I,rfl,q⟩
def tyV (K:PySem.W.Frag) (T:String) (x:V) (H:Hp):Prop:=match x with
 | .str _=>T = "str"
 | .int _=>T = "int"
 | .ref p=>(T = "list"∧∃ xs,SqL K H p xs)∨(T = "tuple"∧∃ o,K.lookup p=some o∧o.cls = .type "tuple"∧o.dict=none) ∨
   (T = "dict"∧((∃ kvs,H p=some (.dK kvs))∨∃ kvs,H p=some (.dT kvs)))∨(T = "set"∧∃ S n,H p=some (.set S n))
 | _=>False
theorem tyV_is {pins:List (Addr × Obj)} {σ:St} {H:Hp} {s:Shared} {T:String} {x:V} {v:Value} (I:Inv X pins σ H s) (r:RelV x v) (ty:tyV X.K T x H) :
  s.TypeIs v T∧∀ a,v = .ref a→∃ ob,s.heap.get? a=some ob∧ob.dict=none:=by
 cases x with
 | str z =>
  obtain ⟨t,rfl⟩:=r
  cases (show T = "str" from ty)
  exact ⟨typeIs_str s z t,fun _ e=>nomatch e⟩
 | int i =>
  obtain ⟨t,rfl⟩:=r
  cases (show T = "int" from ty)
  exact ⟨typeIs_int s i t,fun _ e=>nomatch e⟩
 | ref p =>
  cases r
  rcases ty with ⟨rfl,xs,hq⟩ | ⟨rfl,o,hk,hc,hd⟩ | ⟨rfl,hk⟩ | ⟨rfl,S,n,hk⟩
  ·obtain ⟨its,_,pl,_⟩:=I.list hq
   refine ⟨pl.isList.typeIs,fun a e=>?_⟩
   cases e
   obtain ⟨o,n,e,c,hd,_⟩:=pl
   exact ⟨o,e,hd⟩
  ·refine ⟨⟨o,I.kIn p o hk,hc⟩,fun a e=>?_⟩
   cases e
   exact ⟨o,I.kIn _ o hk,hd⟩
  ·have z:∃ o,s.heap.get? p=some o∧o.ExactDict:=by
    rcases hk with ⟨kvs,hk⟩ | ⟨kvs,hk⟩
    ·obtain ⟨_,_,_,_,o,_,_,e,ex,_⟩:=I.hok p _ hk
     exact ⟨o,e,ex⟩
    ·obtain ⟨_,_,_,_,o,_,_,e,ex,_⟩:=I.hok p _ hk
     exact ⟨o,e,ex⟩
   obtain ⟨o,e,ex⟩:=z
   refine ⟨⟨o,e,ex.1⟩,fun a e2=>?_⟩
   cases e2
   exact ⟨o,e,ex.2.1⟩
  ·obtain ⟨o,_,_,_,e,ex,_⟩:=I.hok p _ hk
   refine ⟨⟨o,e,ex.1⟩,fun a e2=>?_⟩
   cases e2
   exact ⟨o,e,ex.2.1⟩
 | _=>exact False.elim ty
def tBM (K:PySem.W.Frag) (T:String) (r:V→List V→Hp→VK→Prop) (to:TE) (t:TA):TE:=fun σ H Q=>to σ H fun x H1=>tyV K T x H1∧t σ H1 fun xs H2=>r x xs H2 Q
variable {o e:Expr} {es:List Expr} {to:TE} {t:TA} {name:Str} {apos cpos:Pos} {T id:String} {r:V→List V→Hp→VK→Prop}
theorem pe_bm (pa:PlainAttrs T) (slot:Slot T name id) (hty:typeOf (.builtin id)=pure (.type "method_descriptor")) (hm:MtR X id r) (ho:PE X o to) (ha:PA X (e::es) t)
  (hbase:attributeBase o name X.env (eval o X.env)=eval o X.env:=by rfl)
  (hfew:((backTo cpos (starEach (e::es) X.env)).all (fun x=>!x.1) && (backToKw cpos (keywordEach [] X.env)).all (fun x=>x.1.isSome)
   && decide ((e::es).length + ([]:List Keyword).length + (if ([]:List Keyword).isEmpty then 0 else 1)<30))=true:=by rfl)
  (hline:(apos.endLine == cpos.line)=true:=by rfl) (hs:starEach (e::es) X.env=(false,eval e X.env)::starEach es X.env:=by rfl) (hplain:(backTo cpos (starEach es X.env)).any (·.1)=false:=by rfl) :
  PE X (.Call (.Attribute o name apos) (e::es) [] cpos) (tBM X.K T r to t):=by
 intro pins s σ H Q I h
 refine wpAny_Call_method_late hbase hfew hline rfl (thn (ho pins s σ H _ I h) fun v s1 ⟨x,H1,I1,r1,ty,q1⟩=>?_)
 obtain ⟨h1,h2⟩:=tyV_is I1 r1 ty
 refine ⟨T,id,pa,slot,hty,h1,h2,?_⟩
 have hA:=ha cpos pins s1 σ H1 _ I1 q1
 rw [hs] at hA ⊢
 refine Calls.callWith_builtin (by show (false || (backTo cpos (starEach es X.env)).any (·.1))=false;rw [hplain] <;> rfl) (Calls.evalArgs_plain ?_)
 exact thn hA fun us s2 ⟨vs,H2,I2,r2,q2⟩=>hm pins s2 σ H2 x vs v us Q I2 r1 r2 q2
end
end L2
namespace L2
open PySem PySem.Spec PyProof.Rows
def MtM (X:Cx) (id:String) (r:V→List V→Hp→VK→Prop):Prop :=
 ∀ (pins:List (Addr × Obj)) (s:Shared) (σ:St) (H:Hp) (x:V) (xs:List V) (v:Value) (us:List Value) (Q:VK),Inv X pins σ H s→RelV x v→Vals xs us→r x xs H Q →
  wpAny (model X.prog X.w) X.A (call (.builtin id) (v::us)) (EP X pins σ Q) X.xe s
theorem Vals.one:∀ {x:V} {us:List Value},Vals [x] us→∃ u,us=[u]∧RelV x u
 | _,_,.cons r .nil=>⟨_,rfl,r⟩
theorem Vals.two:∀ {x y:V} {us:List Value},Vals [x,y] us→∃ u v,us=[u,v]∧RelV x u∧RelV y v
 | _,_,_,.cons r (.cons q .nil)=>⟨_,_,rfl,r,q⟩
theorem Vals.eraseIdx:∀ {xs:List V} {us:List Value} (i:Nat),Vals xs us→Vals (xs.eraseIdx i) (us.eraseIdx i)
 | _,_,_,.nil=>.nil
 | _,_,0,.cons _ t=>t
 | _,_,i + 1,.cons r t=>.cons r (Vals.eraseIdx i t)
theorem len_erase {α:Type}:∀ (l:List α) (i:Nat),(l.eraseIdx i).length≤l.length
 | [],_=>Nat.le_refl _
 | _::_,0=>Nat.le_succ _
 | _::r,i + 1=>Nat.succ_le_succ (len_erase r i)
section
variable {X:Cx} {pins:List (Addr × Obj)} {σ:St} {H:Hp} {s:Shared} {l b:Addr} {xs ys zs:List V}
theorem Inv.lset {its its':List Value} {n:Nat} {f:Array Value→Array Value} {t':Nat} (I:Inv X pins σ H s) (hH:H l=some (.lst xs))
  (e:s.heap.get? l=some { cls:=.type "list",data:=.seq its.toArray n }) (hf:f its.toArray=its'.toArray) (hv:Vals ys its') (hz:ys.length≤sizeLine) :
  Inv X pins σ (upd H l (.lst ys)) { s with heap:=s.heap.update l (Obj.mapSeq f),toks:=t' }:=by
 have q:=PySem.IsL.update e f
 rw [hf] at q
 refine I.write (x:=l) (e:=l) (by rw [hH];exact trivial) (.inl rfl) (fun b' u hb hu=>(Heap.get?_update_other s.heap (Obj.mapSeq f) (Ne.symm hb)).trans hu) ⟨_,q⟩ ?_
 exact ⟨hz,its',_,hv,q⟩
theorem Inv.lnew {its:List Value} {t':Nat} (I:Inv X pins σ H s) (hv:Vals ys its) (hz:ys.length≤sizeLine) :
  Inv X pins σ (upd H s.heap.objs.size (.lst ys)) { s with heap:=s.heap.push { cls:=.type "list",data:=.seq its.toArray },toks:=t' } :=
 I.laid (fun _ _ q=>Heap.get?_push_of_some _ q) (Nat.le_refl _) ⟨hz,its,0,hv,Heap.get?_push_size _ rfl⟩
theorem Inv.fresh (I:Inv X pins σ H s):H s.heap.objs.size=none:=I.hok.fresh (Nat.le_refl _)
theorem Inv.lstM (I:Inv X pins σ H s) (hH:H l=some (.lst xs)):xs.length≤sizeLine∧∃ (its:List Value) (n:Nat),Vals xs its∧xs.length=its.length∧s.heap.get? l=some { cls:=.type "list",data:=.seq its.toArray n }:=by
 obtain ⟨z,its,n,r,e⟩:=I.hok l _ hH
 exact ⟨z,its,n,r,r.length,e⟩
end
section
variable {X:Cx}
def rAppend:V→List V→Hp→VK→Prop:=fun x vs H Q=>∃ l xs y,x = .ref l∧vs=[y]∧H l=some (.lst xs)∧xs.length<sizeLine∧Q .non (upd H l (.lst (xs++[y])))
theorem mt_append:MtM X "list.append" rAppend:=by
 intro pins s σ H x vs v us Q I rx rv h
 obtain ⟨l,xs,y,rfl,rfl,hH,hz,q⟩:=h
 cases rx
 obtain ⟨u,rfl,ru⟩:=rv.one
 obtain ⟨z,its,n,r,hl,e⟩:=I.lstM hH
 refine call_meets F.slot_list_append ⟨_,e,rfl⟩ F.entry_list_append (F.args_list_append_2 _ _) (PySem.list_append l its.toArray n u (by rw [List.size_toArray];omega)) ⟨e,?_⟩
 refine ⟨.non,_,I.lset (its':=its++[u]) hH e (by simp) (r.append (.cons ru .nil)) ?_,rfl,q⟩
 rw [List.length_append,List.length_singleton]
 omega
def rPopAt:V→List V→Hp→VK→Prop:=fun x vs H Q=>∃ l xs i k y,x = .ref l∧vs=[.int i]∧H l=some (.lst xs)∧-(2 ^ 63)≤i∧i<2 ^ 63∧seqIndex? i xs.length=some k∧xs[k]? = some y∧Q y (upd H l (.lst (xs.eraseIdx k)))
theorem mt_popAt:MtM X "list.pop" rPopAt:=by
 intro pins s σ H x vs v us Q I rx rv h
 obtain ⟨l,xs,i,k,y,rfl,rfl,hH,h1,h2,hk,hy,q⟩:=h
 cases rx
 obtain ⟨u,rfl,ru⟩:=rv.one
 obtain ⟨t,rfl⟩:=ru
 obtain ⟨z,its,n,r,hl,e⟩:=I.lstM hH
 obtain ⟨w,hw,rw'⟩:=r.get hy
 refine call_meets F.slot_list_pop ⟨_,e,rfl⟩ F.entry_list_pop (F.args_list_pop_2 _ _)
  (MeetsSeq.list_pop_at l its.toArray n i t k w (fitsIndex_both h1 h2) (by rw [List.size_toArray,← hl];exact hk) (by rw [← Array.getElem?_toList];exact hw) (by rw [List.size_toArray];omega)) ⟨e,?_⟩
 refine ⟨y,_,I.lset (its':=its.eraseIdx k) hH e ?_ (r.eraseIdx k) ?_,rw',q⟩
 ·show its.toArray.eraseIdxIfInBounds k=(its.eraseIdx k).toArray
  rw [List.eraseIdxIfInBounds_toArray]
 ·have:=len_erase xs k
  omega
def rCat:R2:=fun x y H Q=>∃ l b xs zs,x = .ref l∧y = .ref b∧H l=some (.lst xs)∧H b=some (.lst zs)∧xs.length + zs.length≤sizeLine∧∀ p,H p=none→Q (.ref p) (upd H p (.lst (xs++zs)))
theorem op_cat:OpR X (binaryOp .Add) rCat:=by
 intro pins s σ H x y v u Q I rx ry h
 obtain ⟨l,b,xs,zs,rfl,rfl,hH,hB,hz,q⟩:=h
 cases rx
 cases ry
 obtain ⟨z,its,n,r,hl,e⟩:=I.lstM hH
 obtain ⟨z2,its2,n2,r2,hl2,e2⟩:=I.lstM hB
 refine PySem.P.add_list e e2 ?_ (by rw [List.size_toArray,List.size_toArray];omega)
 have ea:its.toArray++its2.toArray=(its++its2).toArray:=by simp
 rw [ea]
 exact ⟨.ref _,_,I.lnew (t':=s.toks) (r.append r2) (by rw [List.length_append];omega),rfl,q _ I.fresh⟩
end
section
variable {prog:Program} {w:World} {A:Around} {E:Value→Shared→Prop} {s:Shared}
end
section
variable {X:Cx}
end
end L2
namespace Att
open PySem PySem.W PySem.Calls PyProof.Rows
theorem ints_of_wellAll {P:Params} {h:Heap}:∀ (ns:List Int) (vs:List Value),WellAll P h vs (ns.map WData.int)→IntsAre vs ns:=by
 intro ns
 induction ns with
 | nil =>
  intro vs w
  rw [List.map_nil] at w
  cases w
  exact .nil
 | cons n ns ih =>
  intro vs w
  rw [List.map_cons] at w
  cases w with
  | cons a b =>
   cases a
   exact .cons _ _ (ih _ b)
theorem script_of {l:OpenLaw} {n:Nat} (hn:l.most=some n) {P:Params} {h:Heap} {args:List WData} {vals:List Value}
  (hpre:l.row.toRowW.claim.pre args=true) (hwl:WellAll P h vals args) :
  ∃ a vs ns,vals=[Value.ref a]∧args=[WData.list (ns.map WData.int)]∧h.get? a=some { cls:=.type "list",data:=.seq vs.toArray }∧IntsAre vs ns∧ns.length≤n:=by
 have hsh:WShape.hasAll [] args [.list .int]=true:=(pre_splitW hpre).1
 have hc:l.pre.holds [] { args:=args } = true:=(pre_splitW hpre).2
 obtain ⟨d,r,rfl,h1,h2⟩:=hasAllW_cons hsh
 obtain rfl:=hasAllW_nil h2
 obtain ⟨xs,rfl,h3⟩:=hasW_list h1
 obtain ⟨ns,rfl⟩:=items_int h3
 have hlen:ns.length≤n:=by
  unfold OpenLaw.pre at hc
  have h4:(WTm.not (.lt (.lit (.int (n:Int))) (.len (.arg 0)))).holds [] { args:=[.list (ns.map .int)] } = true:=by
   have h4:=(holds_andW hc).1
   rw [hn] at h4
   exact h4
  have h5:=condW_of h4 (w_not (w_lt w_lit (w_len_list (w_arg rfl))))
  rw [List.length_map] at h5
  refine Nat.le_of_not_lt fun q=>?_
  have q':(n:Int)<((ns.length:Nat):Int):=by omega
  first
   | (rw [decide_eq_true q'] at h5;exact absurd h5 (by decide))
   | (simp at h5;omega)
 cases hwl with
 | cons w1 w2 =>
  cases w2
  cases w1 with
  | list ho hall=>exact ⟨_,_,ns,rfl,rfl,ho,ints_of_wellAll ns _ hall,hlen⟩
theorem post_true (l:OpenLaw) (args:List WData):l.row.toRowW.claim.post args (.bool true) args=true :=
 postW_of (r:=l.row.toRowW) (X:=(true == true))
  (show WShape.has [] (.bool true) .bool=true by first | rfl | decide | simp [WShape.has,WShape.arms,WShape.armsAll])
  (show (WTm.eq .res (.lit (.bool true))).value [] { args:=args,res:=some (.bool true),after:=args } = some (.bool (true == true)) from w_eq_bool (w_res rfl) w_lit) rfl
theorem attach_call {l:OpenLaw} {n:Nat} {q:Program} {loose:List Str} {XP:(Str→Option Value)→Heap→Prop} {YP:World→Heap→Prop} {d:DefRec}
  (hn:l.most=some n) (hdf:d.params.defaults=[])
  (call:∀ (w:World) (s₀ s₁:Shared) (mg mb:Str→Option Value) (fa:Addr) (o:Obj) (pm cd doc:Value) (a:Addr) (vs:List Value) (ns:List Int),
   Ground q loose [] XP w s₀ mg mb s₁.heap→YP w s₁.heap →
   s₁.heap.get? fa=some o→o.data = .func (docDef d.name d.params d.body d.scope pm cd doc)→s₁.heap.CodeRec cd d.name→mg d.name=some (.ref fa) →
   s₁.heap.get? a=some { cls:=.type "list",data:=.seq vs.toArray }→IntsAre vs ns→ns.length≤n→s₁.gens = #[] →
   codeAny (model l.prog w) callerA (.call (.ref fa) ⟨[.ref a],[]⟩) (fun r s'=>r = .ok (.ret (.bool true))∧OldK s₁.heap s'.heap∧s'.os=s₁.os∧AllBare s'.gens) s₁) :
  WalkO q loose XP YP l.row.toRowW d [] (fun f vs=>PySem.call f vs):=by
 intro w s₀ s₁ mg mb G Y fa o pm cd doc dV kV ho hd hcd hD hmg hg args vals as hpre hlay hrd hwl hlo
 obtain rfl:dV = .none:=Dflts.none hD hdf
 obtain rfl:kV = .none:=Dflts.noKw hD
 obtain ⟨a,vs,ns,rfl,rfl,hobj,hints,hlen⟩:=script_of hn hpre hwl
 refine enter_call (codeAny_mono (call w s₀ s₁ mg mb fa o pm cd doc a vs ns G Y ho (fd_plain hd) hcd hmg hobj hints hlen hg) fun r s' hq=>?_)
 obtain ⟨rfl,h2,h3,h4⟩:=hq
 exact ⟨.inl ⟨.bool true,.bool true,[],rfl,fun _=>rfl,.bool true,post_true l _,fun _=>⟨List.Pairwise.nil,fun _ hm=>(nomatch hm)⟩⟩,h2,h3,h4⟩
section
variable {prog:Program} {w:World} {A:Around} {E:Value→Shared→Prop} {s:Shared} {K:Frag}
end
end Att
namespace L2
open PySem PySem.Spec PyProof.Rows
theorem vals_ints:∀ {vs:List Value} {ns:List Int},IntsAre vs ns→Vals (ns.map V.int) vs
 | _,_,.nil=>.nil
 | _,_,.cons n t h=>.cons ⟨t,rfl⟩ (vals_ints h)
def Only (H:Hp):Prop:=∀ b,H b=none∨∃ o xs,H b=some (.frz o (.lst xs))
theorem law_call {P:Program} {w:World} {K:PySem.W.Frag} {mg mb:Str→Option Value} {CX:CXT} {k:Nat} {fa a:Addr} {fd:FuncData} {x:Str} {sp:Sp} {s₁:Shared} {vs:List Value} {ns:List Int}
  (KX:K.In s₁.heap) (hns:s₁.heap.Ns mainGlobals mg) (hb:s₁.heap.Ns builtinsNs mb) (hbb:∀ x:Str,x≠"__name__"→mb x=bootBuiltins x) (hlim:s₁.heap.NoLimit) (hg:s₁.gens = #[])
  (ha:s₁.heap.get? a=some { cls:=.type "list",data:=.seq vs.toArray }) (hi:IntsAre vs ns) (hl:ns.length≤sizeLine) (hr:Room k callerA)
  (F:∀ base:Heap,K.In base→base.Ns mainGlobals mg→FnOk P w K mg base CX k fa fd [x] sp) (hbind:∀ (s:Shared) (u:Value),BindsTo s fd ⟨[u],[]⟩ [(x,u)])
  (hsp:∀ H:Hp,Only H→SqL K H a (ns.map V.int)→sp [.ref a] H (fun v _=>v = .bl true) fun _ _ _=>False)
  (hCX:∀ H e s',CX [] H s₁ (fun _ _ _=>False) e s'→False) :
  codeAny (model P w) callerA (.call (.ref fa) ⟨[.ref a],[]⟩) (fun r s'=>r = .ok (.ret (.bool true))∧OldK s₁.heap s'.heap∧s'.os=s₁.os∧AllBare s'.gens) s₁:=by
 have rv:=vals_ints hi
 have lenV:=hi.length
 have core:∀ H:Hp,Only H→SqL K H a (ns.map V.int)→HOk P w H s₁.heap→(∀ b,H b≠none→b=a)→(H a≠none→K.lookup a=none) →
   codeAny (model P w) callerA (.call (.ref fa) ⟨[.ref a],[]⟩) (fun r s'=>r = .ok (.ret (.bool true))∧OldK s₁.heap s'.heap∧s'.os=s₁.os∧AllBare s'.gens) s₁:=by
  intro H hO hS hok hA hK
  have base_of:∀ {b:Addr} {o:Obj},s₁.heap.get? b=some o→H b=none→(hidT s₁.heap H).get? b=some o:=fun e n=>hidT_get e n
  have noA:∀ {b:Addr} {o:Obj} {es:Array DictEntry} {ep:Nat},s₁.heap.get? b=some o→o.data = .dict es ep→H b=none:=fun {b o es ep} e d=>by
   cases q:H b with
   | none=>rfl
   | some u =>
    have e':b=a:=hA b (by rw [q];simp)
    subst e'
    rw [ha] at e;cases e
    have d':Data.seq vs.toArray _=Data.dict es ep:=d
    cases d'
  have nsK:∀ {b:Addr} {m:Str→Option Value},s₁.heap.Ns b m→(hidT s₁.heap H).Ns b m:=fun {b m} ⟨o,es,ep,e,d,r⟩=>⟨o,es,ep,base_of e (noA e d),d,r⟩
  have hKb:K.In (hidT s₁.heap H):=fun b o e=>base_of (KX b o e) (by
   cases q:H b with
   | none=>rfl
   | some u =>
    have e':b=a:=hA b (by rw [q];simp)
    subst e'
    rw [hK (by rw [q];simp)] at e;cases e)
  have hM:Mod K mg (hidT s₁.heap H):=⟨hKb,nsK hns,⟨mb,nsK hb,hbb⟩,let ⟨mc,h1,h2⟩:=hlim;⟨mc,nsK h1,h2⟩⟩
  have e0:Env0 P w K mg (hidT s₁.heap H) callerA [] s₁ H:=⟨rfl,hM,fun b o e=>of_hidT e,Nat.le_of_eq (hidT_size _ _),trivial,fun b hb=>absurd (show b∈([]:List Addr) from hb) (by simp),hok,.of_eq hg⟩
  refine codeAny_mono ((F _ hKb (nsK hns)).run callerA [] s₁ H ⟨[.ref a],[]⟩ [.ref a] [.ref a] _ _ hr e0 (hbind s₁ (.ref a)) (.cons rfl .nil) (hsp H hO hS)) fun r s' h=>?_
  cases r with
  | error e=>exact (hCX H e s' h).elim
  | ok fl =>
   cases fl with
   | next=>exact False.elim h
   | brk=>exact False.elim h
   | cont=>exact False.elim h
   | ret u =>
    obtain ⟨v,H',os,bare,un,hok',r',q⟩:=h
    have q':v = .bl true:=q
    subst q'
    obtain rfl:u=Value.bool true:=r'
    refine ⟨rfl,OldK.of_keep fun b o e=>?_,os,bare⟩
    cases q:H b with
    | none=>exact un.keep b o e q (by intro z;exact absurd (show b∈([]:List Addr) from z) (by simp)) (by simp)
    | some u =>
     rcases hO b with z | ⟨ob,xs,z⟩
     ·rw [q] at z;cases z
     ·have z2:=un.frzs b ob _ z
      obtain ⟨e1,_⟩:=hok b _ z
      obtain ⟨e2,_⟩:=hok' b _ z2
      rw [e] at e1;cases e1
      exact e2
 cases hk:K.lookup a with
 | some o =>
  have e:=KX a o hk
  rw [ha] at e
  cases e
  refine core (fun _=>none) (fun _=>.inl rfl) (.inr ⟨_,vs.toArray,_,hk,rfl,rfl,rfl,by rw [List.size_toArray,lenV];exact hl,by simpa using rv⟩) (fun b u z=>by have z':(none:Option HO)=some u:=z;cases z') (fun b z=>absurd rfl z) fun z=>absurd rfl z
 | none =>
  refine core (fun b=>if b=a then some (.frz { cls:=.type "list",data:=.seq vs.toArray } (.lst (ns.map V.int))) else none) (fun b=>?_) (.inl (.inr ⟨{ cls:=.type "list",data:=.seq vs.toArray },if_pos rfl⟩)) (fun b u z=>?_) (fun b z=>?_) fun _=>hk
  ·by_cases hb:b=a
   ·exact .inr ⟨_,_,if_pos hb⟩
   ·exact .inl (if_neg hb)
  ·by_cases hb:b=a
   ·have z':=(if_pos hb).symm.trans z
    cases z'
    subst hb
    exact ⟨ha,by rw [List.length_map];exact hl,vs,_,rv,ha⟩
   ·have z':=(if_neg hb).symm.trans z
    cases z'
  ·by_cases hb:b=a
   ·exact hb
   ·exact absurd (if_neg hb) z
end L2
namespace L2
open PySem PySem.Spec PyProof.Rows
theorem walk_of {l:PySem.W.OpenLaw} {n k:Nat} {q:Program} {loose:List Str} {XP:(Str→Option Value)→Heap→Prop} {YP:World→Heap→Prop} {d:DefRec} {K:Params→PySem.W.Frag} {CX:World→CXT} {sp:World→Sp} {x:Str}
  (hn:l.most=some n) (hn2:n≤sizeLine) (hdf:d.params.defaults=[]) (hr:Room k callerA)
  (hY:∀ (w:World) (h:Heap),YP w h→(K w.params).In h)
  (F:∀ (w:World) (mg:Str→Option Value) (fa:Addr) (h:Heap),(K w.params).In h→h.Ns mainGlobals mg→mg d.name=some (.ref fa) →
   ∃ fd:FuncData,(∀ (s:Shared) (u:Value),BindsTo s fd ⟨[u],[]⟩ [(x,u)]) ∧
    ∀ base:Heap,(K w.params).In base→base.Ns mainGlobals mg→FnOk l.prog w (K w.params) mg base (CX w) k fa fd [x] (sp w))
  (hsp:∀ (w:World) (H:Hp) (a:Addr) (ns:List Int),ns.length≤n→Only H→SqL (K w.params) H a (ns.map V.int)→sp w [.ref a] H (fun v _=>v = .bl true) fun _ _ _=>False)
  (hCX:∀ (w:World) (H:Hp) (s:Shared) (e:Value) (s':Shared),CX w [] H s (fun _ _ _=>False) e s'→False) :
  PySem.W.WalkO q loose XP YP l.row.toRowW d [] (fun f vs=>PySem.call f vs):=by
 refine Att.attach_call hn hdf fun w s₀ s₁ mg mb fa o pm cd doc a vs ns G Y ho hd hcd hmg hobj hints hlen hg=>?_
 have KX:=hY w _ Y
 obtain ⟨fd,hb,hF⟩:=F w mg fa _ KX G.T.g hmg
 exact law_call KX G.T.g G.T.b G.T.builtins G.T.nolimit hg hobj hints (Nat.le_trans hlen hn2) hr hF hb (fun H hO hS=>hsp w H a ns hlen hO hS) fun H e s'=>hCX w H s₁ e s'
end L2
namespace L2
open PySem PySem.Spec PyProof.Rows
def inClass (s:Stmt) (j:Nat):Stmt:=match s with
 | .ClassDef _ _ _ body _ _ _ _ _ _ _=>body.getD j (.Pass ⟨0,0,0,0⟩)
 | _=>.Pass ⟨0,0,0,0⟩
def defArgs (s:Stmt):Arguments:=match s with
 | .FunctionDef _ a _ _ _ _ _ _ _ _=>a
 | _=>{ posonlyargs:=[],args:=[],vararg:=none,kwonlyargs:=[],kw_defaults:=[],kwarg:=none,defaults:=[] }
def defBody (s:Stmt):List Stmt:=match s with
 | .FunctionDef _ _ b _ _ _ _ _ _ _=>b
 | _=>[]
def defScope (s:Stmt):Scope:=match s with
 | .FunctionDef _ _ _ _ _ _ sc _ _ _=>sc
 | _=>{ kind:=.function,names:=[],isGenerator:=false,isCoroutine:=false }
abbrev CX0:CXT:=fun _ _ _ _ _ _=>False
abbrev E0:XK:=fun _ _ _=>False
theorem pass0 {X:Cx}:Passes CX0 X E0:=fun _ _ _ _ _ _ _ h=>h.elim
structure Fun (K:PySem.W.Frag) (x qual:Str) (st:Stmt) (f:Addr) (fd:FuncData):Prop where
 ex:∃ (oc:Value) (od:Option Addr) (kV doc pm:Value) (an:Option Addr) (cdv ct:Value) (osl:Array (Option Value)),
  fd=PySem.W.fnOf x qual (defArgs st) (defBody st) (defScope st) .none kV doc pm an cdv ct∧K.lookup f=some ⟨oc,od,.func fd,osl⟩∧PySem.W.codeIn K cdv qual=true
 kp:PySem.W.keepIn K (.ref f)=true
section
variable {P:Program} {w:World} {K:PySem.W.Frag} {mg:Str→Option Value} {base:Heap}
theorem Fun.ok {x qual:Str} {st:Stmt} {f:Addr} {fd:FuncData} {N ps:List Str} {k:Nat} {sp:Sp} (F:Fun K x qual st f fd) (S:FnScope N ps (defScope st)) (len:∀ vs H Q E,sp vs H Q E→vs.length=ps.length)
  (hbody:∀ (cdv:Value) (A:Around) (outer:List Env) (s:Shared) (H:Hp) (vs:List V) (Q:VK) (E:XK),Room k (A.deeper (envOfC qual (defScope st) s.heap.objs.size f cdv))→sp vs H Q E →
   ∃ t,PSs (cxOf CX0 P w K mg base N qual (defScope st) f cdv A outer s H E).nox (defBody st) t∧t { nx:=fun _ H'=>Q .non H',rt:=Q } (start N vs) H):FnOk P w K mg base CX0 (k + 1) f fd ps sp:=by
 obtain ⟨oc,od,kV,doc,pm,an,cdv,ct,osl,rfl,lk,hcd⟩:=F.ex
 refine fn_of lk hcd S len fun A outer s H vs Q E hr hsp=>?_
 obtain ⟨t,h,q⟩:=hbody cdv A outer s H vs Q E hr hsp
 exact ⟨t,h.nox,q⟩
theorem Fun.binds {x qual:Str} {st:Stmt} {f:Addr} {fd:FuncData} {ps:List Str} (F:Fun K x qual st f fd)
  (h:∀ (kV doc pm:Value) (an:Option Addr) (cdv ct:Value) (us:List Value),us.length=ps.length→bindArgs (PySem.W.fnOf x qual (defArgs st) (defBody st) (defScope st) .none kV doc pm an cdv ct) ⟨us,[]⟩=pure (ps.zip us)):Binds K fd ps []:=by
 obtain ⟨oc,od,kV,doc,pm,an,cdv,ct,osl,rfl,lk,hcd⟩:=F.ex
 exact .all (h kV doc pm an cdv ct)
theorem fun_mk {x qual:Str} {st:Stmt} {f:Addr} {oc:Value} {od an:Option Addr} {osl:Array (Option Value)} {kV doc pm cdv ct:Value} (l:K.lookup f=some ⟨oc,od,.func (PySem.W.fnOf x qual (defArgs st) (defBody st) (defScope st) .none kV doc pm an cdv ct),osl⟩)
  (c:PySem.W.codeIn K cdv qual=true) (k:PySem.W.keepIn K (.ref f)=true):Fun K x qual st f (PySem.W.fnOf x qual (defArgs st) (defBody st) (defScope st) .none kV doc pm an cdv ct):=⟨⟨oc,od,kV,doc,pm,an,cdv,ct,osl,rfl,l,c⟩,k⟩
end
theorem small1000 {n:Nat} (h:n≤1000):n<sizeLine:=Nat.lt_of_le_of_lt h (by decide)
section
variable {X:Cx}
theorem pv (i:Nat) {x:Str} {pos:Pos} (hN:X.N[i]? = some x:=by rfl) (hv:Vis X.env.scope x:=by first | exact Or.inl rfl | exact Or.inr (Or.inl rfl) | exact Or.inr (Or.inr rfl)) (hd:(x == ("__debug__":Str))=false:=by decide)
  (hcd:(x == ("__classdict__":Str))=false:=by decide):PE X (.Name x pos) (tVar i):=pe_var hN hv hd hcd
end
theorem iteF {A B:Prop} (h:B):if false=true then A else B:=by
 rw [if_neg Bool.false_ne_true]
 exact h
theorem iteT {A B:Prop} (h:A):if true=true then A else B:=by
 rw [if_pos rfl]
 exact h
theorem ite2 {c A B:Prop} [Decidable c] (h1:c→A) (h2:¬ c→B):if c then A else B:=by
 by_cases h:c
 ·rw [if_pos h]
  exact h1 h
 ·rw [if_neg h]
  exact h2 h
theorem iteNS {c A B:Prop} [Decidable c] (hc:c) (h:B):if (!decide c)=true then A else B:=by
 rw [decide_eq_true hc]
 exact iteF h
def Same (H H':Hp):Prop:=∀ b o,H b=some o→H' b=some o
theorem Same.refl (H:Hp):Same H H:=fun _ _ h=>h
theorem Same.trans {H H1 H2:Hp} (a:Same H H1) (b:Same H1 H2):Same H H2:=fun c o h=>b c o (a c o h)
theorem Same.free {H H':Hp} (e:Same H H') {l:Addr} (h:H' l=Option.none):H l=Option.none:=by
 cases q:H l with
 | none=>rfl
 | some o =>
  rw [e l o q] at h
  cases h
theorem Same.seq {K:PySem.W.Frag} {H H':Hp} {a:Addr} {xs:List V} (e:Same H H') (h:SqL K H a xs):SqL K H' a xs:=by
 rcases h with (h | ⟨o,h⟩) | h
 ·exact .inl (.inl (e _ _ h))
 ·exact .inl (.inr ⟨o,e _ _ h⟩)
 ·exact .inr h
end L2
namespace L2
open PySem PySem.Spec PyProof.Rows Mt
section
variable {X:Cx}
theorem bits_of {i:Int} {n:Nat} (h:Bd n i) (p:0<n):Builtin.Int.intBits i≤n:=by
 unfold Builtin.Int.intBits
 split
 ·exact Nat.zero_le _
 ·have:=h.log p
  omega
def CMulX (i j:Int):Prop:=CMul i j∨(Bd 20000 i∧Bd 20000 j)
theorem CMulX.ok {i j:Int} (h:CMulX i j):IntMulOk i j:=by
 rcases h with h | ⟨h,g⟩
 ·exact h.ok
 ·exact IntMulOk.of_le (bits_of h (by decide)) (bits_of g (by decide)) (by decide)
theorem op_mulX:OpR X (binaryOp .Mult) (rI CMulX fun i j=>.int (i * j)):=opI fun _ _ _ _ _ _ _ hc q=>mul_int q hc.ok
def CDivX (_ j:Int):Prop:=j≠0∧Bd 8000 j
theorem op_fdivX:OpR X (binaryOp .FloorDiv) (rI CDivX fun i j=>.int (i.fdiv j)):=opI fun _ _ _ _ _ _ _ hc q =>
 floordiv_int hc.1 q (.inl (PyProof.noPylong_of_log2 (Nat.lt_of_lt_of_le (hc.2.log (by decide)) (by decide))))
def CDivP (_ j:Int):Prop:=0<j∧Bd 8000 j
theorem op_fdivP:OpR X (binaryOp .FloorDiv) (rI CDivP fun i j=>.int (i / j)):=opI fun i j _ _ _ _ _ hc q=>by
 have h1:(0:Int)<j:=hc.1
 exact floordiv_int (by omega) (by rw [Int.fdiv_eq_ediv_of_nonneg i (by omega)];exact q) (.inl (PyProof.noPylong_of_log2 (Nat.lt_of_lt_of_le (hc.2.log (by decide)) (by decide))))
theorem call_isinst:CallR X (.builtin "isinstance") (fun vs H Q=>∃ x T t b,vs=[x,.ty T]∧TyOf X.K H x t∧PySem.W.kitOne X.K t (.type T)=some b∧Q (.bl b) H):=by
 intro pins s σ H vs us Q I rv q
 obtain ⟨x,T,t,b,rfl,ty,e,q⟩:=q
 obtain ⟨u,c,rfl,ru,rc⟩:=Vals.two rv
 cases (show c=Value.type T from rc)
 exact isinst_ok I ru ty e fun tk=>⟨.bl b,H,I.tok tk,rfl,q⟩
theorem kit_same {K:PySem.W.Frag} (t:Value) (h:(t == t)=true:=by rfl):PySem.W.kitOne K t t=some true:=by
 unfold PySem.W.kitOne
 rw [if_pos h]
def intsE:List Expr→Option (List Int)
 | []=>some []
 | .Constant (.int i) _ _::r=>(intsE r).map (i::·)
 | _=>none
theorem pa_ints {es:List Expr}:∀ {is:List Int},intsE es=some is→PA X es (fun _ H Q=>Q (is.map V.int) H):=by
 induction es with
 | nil =>
  intro is h
  cases (show some []=some is from h)
  exact pa_nil
 | cons e r ih =>
  intro is h
  cases e with
  | Constant c j p =>
   cases c with
   | int i =>
    have h':(intsE r).map (i::·)=some is:=h
    cases q:intsE r with
    | none=>rw [q] at h';cases h'
    | some is' =>
     rw [q] at h'
     cases h'
     exact pa_cons (t:=fun _ H Q=>Q (is'.map V.int) H) pe_int (ih q)
   | _=>cases h
  | _=>cases h
def Here (K:PySem.W.Frag) (mg:Str→Option Value) (x:Str) (st:Stmt) (ps:List Str):Prop :=
 ∃ (f:Addr) (fd:FuncData),Fun K x x st f fd∧mg x=some (.ref f)∧Binds K fd ps []
def DefOk (P:Program) (w:World) (K:PySem.W.Frag) (mg:Str→Option Value) (base:Heap) (x:Str) (ps:List Str) (k:Nat) (sp:Sp):Prop :=
 ∃ (f:Addr) (fd:FuncData),FnOk P w K mg base CX0 k f fd ps sp∧mg x=some (.ref f)∧PySem.W.keepIn K (.ref f)=true∧Binds K fd ps []
theorem pe_callD {x:Str} {ps:List Str} {k j:Nat} {sp:Sp} {p pos:Pos} {e:Expr} {es:List Expr} {t:TA} (D:DefOk X.prog X.w X.K X.mg X.base x ps k sp) (hr:Room j X.A) (ha:PA X (e::es) t)
  (hkj:k≤j:=by decide) (hg:Gl X x:=by rfl) (h1:(x == ("__debug__":Str))=false:=by decide) (h2:starEach (e::es) X.env=(false,eval e X.env)::starEach es X.env:=by rfl) (h3:(backTo pos (starEach es X.env)).any (·.1)=false:=by rfl):PE X (.Call (.Name x p) (e::es) [] pos) (tCall sp [] E0 t):=by
 obtain ⟨f,fd,F,hm,hk,hb⟩:=D
 exact pe_call F (hr.mono hkj) hg hm hk hb .nil pass0 ha h1 h2 h3
theorem iteDT {c A B:Prop} [Decidable c] (hc:c) (h:A):if decide c=true then A else B:=by
 rw [decide_eq_true hc]
 exact iteT h
theorem iteDF {c A B:Prop} [Decidable c] (hc:¬ c) (h:B):if decide c=true then A else B:=by
 rw [decide_eq_false hc]
 exact iteF h
theorem iteD {c A B:Prop} [Decidable c] (h1:c→A) (h2:¬ c→B):if decide c=true then A else B:=by
 by_cases h:c
 ·exact iteDT h (h1 h)
 ·exact iteDF h (h2 h)
theorem iteND {c A B:Prop} [Decidable c] (h1:¬ c→A) (h2:c→B):if (!decide c)=true then A else B:=by
 by_cases h:c
 ·exact iteNS h (h2 h)
 ·rw [decide_eq_false h]
  exact iteT (h1 h)
theorem at2 {x y:V} {i:Int} (h0:0≤i) (h1:i<2):∃ v,atI [x,y] i=some v∧(i=0∧v=x∨i=1∧v=y):=by
 rcases (by omega:i=0∨i=1) with e | e <;> subst e
 ·exact ⟨x,rfl,.inl ⟨rfl,rfl⟩⟩
 ·exact ⟨y,rfl,.inr ⟨rfl,rfl⟩⟩
theorem at2i {a b:Int} {i:Int} (φ:Int→Prop) (h0:0≤i) (h1:i<2) (ha:φ a) (hb:φ b):∃ v:Int,atI [V.int a,V.int b] i=some (.int v)∧φ v:=by
 rcases (by omega:i=0∨i=1) with e | e <;> subst e
 ·exact ⟨a,rfl,ha⟩
 ·exact ⟨b,rfl,hb⟩
theorem same_new {H:Hp} {p:Addr} (h:H p=none) (o:HO):Same H (upd H p o):=fun b u q=>by rw [upd_ne (ne_of_none q h)];exact q
end
end L2
namespace L2
open PySem PySem.Spec PyProof.Rows
theorem lk_mem {β:Type} {y:Str} {c:β}:∀ {l:List (Str × β)},l.lookup y=some c→(y,c)∈l
 | [],h=>by simp at h
 | (n,k)::r,h=>by
  rw [List.lookup_cons] at h
  cases q:y == n with
  | true =>
   rw [q] at h
   have e:y=n:=by simpa using q
   cases h;rw [e];exact List.mem_cons_self
  | false =>
   rw [q] at h
   exact List.mem_cons_of_mem _ (lk_mem h)
theorem lk_some {β:Type} {y:Str} {c:β}:∀ {l:List (Str × β)},(y,c)∈l→∃ d,l.lookup y=some d
 | (n,k)::r,h=>by
  rw [List.lookup_cons]
  cases q:y == n with
  | true=>exact ⟨k,rfl⟩
  | false =>
   rcases List.mem_cons.mp h with z | z
   ·cases z;simp at q
   ·exact lk_some z
theorem lk_relabel {env:Env} {y:Str}:∀ {l:List (Str × NameKind)},
  (l.map fun (n,k)=>if (k == NameKind.free && env.scope.kind == .function && env.kindOf n == some .cell) then (n,NameKind.cell) else (n,k)).lookup y =
   (l.lookup y).map fun k=>if (k == NameKind.free && env.scope.kind == .function && env.kindOf y == some .cell) then NameKind.cell else k
 | []=>rfl
 | (n,k)::r=>by
  have ih:=lk_relabel (env:=env) (y:=y) (l:=r)
  rw [List.map_cons,List.lookup_cons (as:=r)]
  by_cases hc:(k == .free && env.scope.kind == .function && env.kindOf n == some .cell)=true
  ·dsimp only
   rw [if_pos hc,List.lookup_cons]
   cases q:y == n with
   | true =>
    have e:y=n:=by simpa using q
    subst e
    dsimp only [Option.map]
    rw [if_pos hc]
   | false=>exact ih
  ·dsimp only
   rw [if_neg hc,List.lookup_cons]
   cases q:y == n with
   | true =>
    have e:y=n:=by simpa using q
    subst e
    dsimp only [Option.map]
    rw [if_neg hc]
   | false=>exact ih
theorem clos_of {env:Env} {scope:Scope} (h:∀ p∈scope.names,p.2 = .free→∃ c,env.cells.lookup p.1=some c) :
  ∃ cl,closureFor scope env=pure cl∧(∀ p∈cl,env.cells.lookup p.1=some p.2)∧∀ p∈scope.names,p.2 = .free→∃ c,(p.1,c)∈cl:=by
 have all:∀ (l:List (Str × NameKind)) (acc:List (Str × Addr)),(∀ p∈l,p.2 = .free→∃ c,env.cells.lookup p.1=some c)→(∀ p∈acc,env.cells.lookup p.1=some p.2) →
   ∃ cl,(forIn l acc fun x r=>(if (x.2 == NameKind.free)=true then do let c ← cellOf env x.1;pure (ForInStep.yield ((x.1,c)::r)) else pure (ForInStep.yield r):Sem _))=pure cl∧(∀ p∈cl,env.cells.lookup p.1=some p.2)∧(∀ p∈acc,p∈cl)∧∀ p∈l,p.2 = .free→∃ c,(p.1,c)∈cl:=by
  intro l
  induction l with
  | nil=>intro acc _ h2;exact ⟨acc,rfl,h2,fun _ z=>z,fun _ z=>by simp at z⟩
  | cons x r ih =>
   intro acc h1 h2
   obtain ⟨n,k⟩:=x
   cases q:k == NameKind.free with
   | true =>
    have e:k = .free:=by simpa using q
    subst e
    obtain ⟨c,hc⟩:=h1 (n,.free) List.mem_cons_self rfl
    obtain ⟨cl,e1,e2,e3,e4⟩:=ih ((n,c)::acc) (fun p hp=>h1 p (List.mem_cons_of_mem _ hp)) (fun p hp=>by
     rcases List.mem_cons.mp hp with z | z
     ·subst z;exact hc
     ·exact h2 p z)
    refine ⟨cl,?_,e2,fun p hp=>e3 p (List.mem_cons_of_mem _ hp),fun p hp f=>?_⟩
    ·rw [List.forIn_cons]
     have ec:cellOf env n=pure c:=by unfold cellOf;rw [hc]
     simp only [ec,beq_self_eq_true,if_true,pure_bind]
     exact e1
    ·rcases List.mem_cons.mp hp with z | z
     ·subst z;exact ⟨c,e3 _ List.mem_cons_self⟩
     ·exact e4 p z f
   | false =>
    obtain ⟨cl,e1,e2,e3,e4⟩:=ih acc (fun p hp=>h1 p (List.mem_cons_of_mem _ hp)) h2
    refine ⟨cl,?_,e2,e3,fun p hp f=>?_⟩
    ·rw [List.forIn_cons]
     simp only [q,Bool.false_eq_true,if_false,pure_bind]
     exact e1
    ·rcases List.mem_cons.mp hp with z | z
     ·subst z;rw [show k = .free from f] at q;simp at q
     ·exact e4 p z f
 obtain ⟨cl,e1,e2,_,e4⟩:=all scope.names [] h (fun _ z=>by simp at z)
 refine ⟨cl,?_,e2,e4⟩
 show (forIn scope.names [] _ >>= fun r=>pure r)=_
 rw [bind_pure]
 exact e1
def compCx (X:Cx) (x:Str) (scope:Scope) (cl:List (Str × Addr)) (C:Addr) (s:Shared) (H:Hp) (fp:List Addr) (pins:List (Addr × Obj)):Cx :=
 { X with N:=x::X.N,s₀:=s,H₀:=H,env:=compEnvC scope cl C X.env,outer:=X.stack,ex:=fp,fn:=fun _=>false,pn:=X.pn++pins,xe:=fun _ _=>False }
def tComp (wi:TI) (tt:TT) (te:TE):TE:=fun σ H Q=>wi σ H fun J H1=>∀ D,H1 D=none→∃ W:Nat→Nat→Hp→List V→Prop,(∃ m,W 0 m (upd H1 D (.lst [])) []) ∧
 ∀ i m H2 ys,W i m H2 ys→H2 D=some (.lst ys)∧((J.stop i H2∧Q (.ref D) H2)∨(J.go i H2∧∀ x H3,J.yld i H2 x H3→tt (some x::σ) H3 fun b H4 =>
  if b=true then te (some x::σ) H4 fun v H5=>H5 D=some (.lst ys)∧ys.length<sizeLine∧∃ m',m'<m∧W (i + 1) m' (upd H5 D (.lst (ys++[v]))) (ys++[v])
  else ∃ m',m'<m∧W (i + 1) m' H4 ys))
section
variable {X:Cx} {pins:List (Addr × Obj)} {σ:St} {H:Hp} {s:Shared} {x:Str} {scope sc:Scope} {cl:List (Str × Addr)} {fp:List Addr} {N:List Str}
structure CompOk (x:Str) (scope sc:Scope) (N:List Str):Prop where
 cell:∀ y∈scope.names,y.2≠.cell
 kind:scope.kind = .function
 names:∀ y∈scope.names,y.2 = .local→scope.names.lookup y.1=some .local
 own:scope.names.lookup x=some .local
 fk:sc.kind = .function
 free:∀ p∈scope.names,p.2 = .free→sc.names.lookup p.1=some .cell
 nd:(x::N).Nodup
 loc:∀ y∈N,scope.names.lookup y≠some .local
theorem comp_kind (O:CompOk x scope X.env.scope X.N) {y:Str} (h:(relabel scope X.env).names.lookup y=some .cell∨(relabel scope X.env).names.lookup y=some .free) :
  X.env.kindOf y=some .cell∧∃ k,(y,k)∈scope.names∧k = .free:=by
 have e:(relabel scope X.env).names.lookup y=_:=lk_relabel (env:=X.env) (y:=y) (l:=scope.names)
 rw [e] at h
 cases q:scope.names.lookup y with
 | none=>rw [q] at h;rcases h with h | h <;> cases h
 | some k =>
  have hm:=lk_mem q
  rw [q] at h
  by_cases f:k = .free
  ·exact ⟨O.free _ hm f,k,hm,f⟩
  ·exfalso
   have f':(k == NameKind.free)=false:=by simpa using f
   rw [Option.map_some,f',Bool.false_and,Bool.false_and,if_neg Bool.false_ne_true] at h
   rcases h with h | h
   ·exact O.cell _ hm (Option.some.inj h)
   ·exact f (Option.some.inj h)
theorem comp_ok (O:CompOk x scope X.env.scope X.N) (I:Inv X pins σ H s) (h1:∀ p∈cl,X.env.cells.lookup p.1=some p.2) (h2:∀ p∈scope.names,p.2 = .free→∃ c,(p.1,c)∈cl)
  (hf:∀ b∈fp,FpOk X pins H b) (ho:∀ b∈fp,∃ o,s.heap.get? b=some o):(compCx X x scope cl s.heap.objs.size s H fp pins).Ok where
 mod:=I.ok.mod
 kind:=O.kind
 glob:=I.ok.glob
 blt:=I.ok.blt
 above:=Nat.le_refl _
 inj:=fun y z c e1 e2=>I.ok.inj y z c (h1 _ (lk_mem e1)) (h1 _ (lk_mem e2))
 has:=fun y e=>by
  obtain ⟨_,k,hm,f⟩:=comp_kind O e
  obtain ⟨c,hc⟩:=h2 _ hm f
  exact lk_some hc
 cab:=fun _ _ e=>nomatch e
 hd:=I.ok.hd
 frames:=I.ok.frames
 stk:=.inl rfl
 exf:=fun b hb=>⟨by obtain ⟨o,e⟩:=ho b hb;exact Nat.ne_of_lt (Heap.lt_size e),fun y c e=>(hf b hb).2.2.2.2.1 y c (h1 _ (lk_mem e))⟩
 bs:=I.bs
 bsz:=Nat.le_trans I.ok.bsz I.sz
 noex:=fun b o e hb=>by
  rcases (hf b hb).2.2.2.1 with z | z
  ·exact I.ok.noex b o e z
  ·exact absurd (Nat.lt_of_lt_of_le (Heap.lt_size e) (Nat.le_trans I.ok.bsz z)) (Nat.lt_irrefl _)
 exfs:=fun b hb z=>by
  rcases List.mem_cons.mp (I.stkSub b z) with e | e
  ·exact (hf b hb).2.1 e
  ·exact (hf b hb).2.2.1 e
 funs:=I.stack
 frf:=I.stkFree
theorem comp_inv (O:CompOk x scope X.env.scope X.N) (I:Inv X pins σ H s) (h1:∀ p∈cl,X.env.cells.lookup p.1=some p.2) (h2:∀ p∈scope.names,p.2 = .free→∃ c,(p.1,c)∈cl)
  (hf:∀ b∈fp,FpOk X pins H b) (ho:∀ b∈fp,∃ o,s.heap.get? b=some o) {h':Heap} {t':Nat} {m:Str→Option Value} (k:∀ b u,s.heap.get? b=some u→h'.get? b=some u) (hn:h'.Ns s.heap.objs.size m) :
  Inv (compCx X x scope cl s.heap.objs.size s H fp pins) [] (none::σ) H { s with heap:=h',toks:=t' } where
 ok:=comp_ok O I h1 h2 hf ho
 os:=rfl
 bare:=I.bare
 base:=Un.kept k
 loc:=by
  refine ⟨m,hn,fun i y v e1 e2 e3=>?_⟩
  cases i with
  | zero=>cases e2
  | succ i =>
   have e1':X.N[i]? = some y:=e1
   have e2':σ[i]? = some (some v):=e2
   have hv:(relabel scope X.env).names.lookup y=some .cell∨(relabel scope X.env).names.lookup y=some .free:=by
    rcases e3 with z | z
    ·exfalso
     have e:(relabel scope X.env).names.lookup y=_:=lk_relabel (env:=X.env) (y:=y) (l:=scope.names)
     have z':(relabel scope X.env).names.lookup y=some .local:=z
     rw [e] at z'
     cases q:scope.names.lookup y with
     | none=>rw [q] at z';cases z'
     | some k =>
      rw [q,Option.map_some] at z'
      have z2:=Option.some.inj z'
      split at z2
      ·cases z2
      ·exact O.loc y (List.mem_of_getElem? e1') (by rw [q,z2])
    ·exact z
   obtain ⟨hk,k',hm,f⟩:=comp_kind O hv
   obtain ⟨c,hc⟩:=h2 _ hm f
   obtain ⟨m0,hn0,hl⟩:=I.loc
   obtain ⟨u,r,l⟩:=hl i y v e1' e2' (.inr (.inl hk))
   refine ⟨u,r,.inr ⟨hv,c,?_,?_⟩⟩
   ·obtain ⟨d,hd⟩:=lk_some hc
    have a1:=h1 _ (lk_mem hd)
    have a2:=h1 _ hc
    rw [a1] at a2
    show cl.lookup y=some c
    rw [hd];exact a2
   ·rcases l with ⟨z,_⟩ | ⟨_,c',e,o,ho',hd⟩
    ·rw [hk] at z;cases z
    ·have a2:=h1 _ hc
     rw [e] at a2
     cases a2
     exact ⟨o,k _ _ ho',hd⟩
 cell:=fun y c e=>by
  obtain ⟨v,o,ho',hd⟩:=I.cell y c (h1 _ (lk_mem e))
  exact ⟨v,o,k _ _ ho',hd⟩
 free:=I.hok.fresh (Nat.le_refl _)
 freeC:=fun y c e=>I.freeC y c (h1 _ (lk_mem e))
 pin:=fun p hp=>by
  have hp':p∈X.pn++pins:=by simpa [compCx] using hp
  obtain ⟨e,n,ne,nf,d⟩:=I.pin p hp'
  refine ⟨k _ _ e,n,Nat.ne_of_lt (Heap.lt_size e),fun z=>?_,d⟩
  rcases List.mem_cons.mp (I.stkSub _ z) with q | q
  ·exact ne q
  ·exact nf q
 hok:=I.hok.kept k
 len:=by rw [List.length_cons,I.len];rfl
theorem comp_back {H':Hp} {s':Shared} {h':Heap} {v0:Option V} (I:Inv X pins σ H s) (hf:∀ b∈fp,FpOk X pins H b) (I':Inv (compCx X x scope cl s.heap.objs.size s H fp pins) [] (v0::σ) H' s')
  (hs:Heap.SameBut s.heap.objs.size s'.heap h'):Inv X pins σ H' { s' with heap:=h' }:=by
 have u:Un (frs X.stack) fp H H' s.heap s'.heap:=I'.base
 have ne:∀ b o,s.heap.get? b=some o→b≠s.heap.objs.size:=fun b o e=>Nat.ne_of_lt (Heap.lt_size e)
 have hC:H' s.heap.objs.size=none:=I'.free
 refine I.call' (s':={ s' with heap:=h' }) (ch:=fp) I'.os ⟨fun b o e n nf nx=>hs.extBut b _ (ne b o e) (u.keep b o e n nf nx),fun b o e n bf nx=>?_,u.free,fun b o e nx=>?_,u.tups,u.frzs,u.tbls⟩ (fun b o e=>?_) I'.bare fun b hb=>⟨(hf b hb).2.2.2.1,(hf b hb).2.1,(hf b hb).2.2.2.2.1,(hf b hb).2.2.2.2.2⟩
 ·obtain ⟨sl,q⟩:=u.slot b o e n bf nx
  exact ⟨sl,hs.extBut b _ (ne b o e) q⟩
 ·obtain ⟨o',q⟩:=u.there b o e nx
  exact ⟨o',hs.extBut b _ (ne b o e) q⟩
 ·refine (I'.hok b o e).stay (fun c v hc q=>hs.extBut c v ?_ q) (fun _ q=>q) fun _ _ q=>q
  intro z
  rcases hc with y | y
  ·rw [← y,z,hC] at e;cases e
  ·rw [z,hC] at y;cases y
theorem pe_compG {elt iter:Expr} {px pos:Pos} {ifs:List Expr} {wi:TI} {tt:TT} {te:TE} (hc:X.calm=true) (hsc:X.env.scope=sc) (hN:X.N=N) (O:CompOk x scope sc N) (hi:PI X (.Name x px) iter wi)
  (ht:∀ cl C s H fp pins,∀ (pins':List (Addr × Obj)) (s':Shared) (σ':St) (H':Hp) (Q:Bool→Hp→Prop),Inv (compCx X x scope cl C s H fp pins) pins' σ' H' s'→tt σ' H' Q →
   wpAny (model X.prog X.w) X.A (forIn ifs true fun c r=>if r=true then do let ok ← isTrue c (compEnvC scope cl C X.env) (eval c (compEnvC scope cl C X.env));pure (ForInStep.yield ok) else pure (ForInStep.yield r)) (TP (compCx X x scope cl C s H fp pins) pins' σ' Q) (fun _ _=>False) s')
  (he:∀ cl C s H fp pins,PE (compCx X x scope cl C s H fp pins) elt te)
  (hs:∀ z,foldedSetIterable iter X.env z=pure z:=by intro _;rfl):PE X (.ListComp elt [⟨.Name x px,iter,ifs,0⟩] scope pos) (tComp wi tt te):=by
 subst hsc hN
 intro pins s σ H Q I h
 obtain ⟨cl,hclos,h1,h2⟩:=clos_of (env:=X.env) (scope:=scope) fun p hp f=>I.ok.has p.1 (.inl (O.free p hp f))
 rw [eval_ListComp]
 refine wpAny_comprehension_free (use:=none) rfl hs hclos O.kind O.names ?_
 refine thn (hi pins s σ H _ I h) fun xv s1 hx1=>thn hx1 fun itv s2 hx2=>?_
 obtain ⟨it,fp,tn,J,H2,rfl,I2,T,st2,f2,hW⟩:=hx2
 refine wpAny_newObj_type ?_
 have nD:H2 s2.heap.objs.size=none:=I2.fresh
 obtain ⟨W,⟨m0,w0⟩,turn⟩:=hW _ nD
 have I3:=I2.lnew (its:=[]) (ys:=[]) (t':=s2.toks) .nil (Nat.zero_le _)
 generalize hD:s2.heap.objs.size=D at *
 have f3:∀ b∈fp,FpOk X pins (upd H2 D (.lst [])) b:=fun b hb=>by
  obtain ⟨o,e,_⟩:=T.obj _ _ st2 b hb
  exact ⟨by rw [upd_ne (by rw [← hD];exact Nat.ne_of_lt (Heap.lt_size e))];exact (f2 b hb).1,(f2 b hb).2⟩
 have st3:tn 0 (s2.heap.push { cls:=.type "list",dict:=none,data:=.seq ([]:List Value).toArray }):=T.keep _ _ _ st2 fun b _ o e=>Heap.get?_push_of_some _ e
 change Inv X pins σ (upd H2 D (.lst [])) { s2 with heap:=s2.heap.push { cls:=.type "list",dict:=none,data:=.seq ([]:List Value).toArray } } at I3
 generalize hs3:({ s2 with heap:=s2.heap.push { cls:=.type "list",dict:=none,data:=.seq ([]:List Value).toArray } }:Shared)=s3 at I3 ⊢
 have st3':tn 0 s3.heap:=by rw [← hs3];exact st3
 refine wpAny_newFunctionEnv O.cell (by intro y hy;simp at hy) (fun h4 hn4 hb4=>?_) O.kind
 have old:∀ b o,s3.heap.get? b=some o→h4.get? b=some o:=fun b o e=>hb4.extBut b o (Nat.ne_of_lt (Heap.lt_size e)) (Heap.get?_push_of_some _ e)
 have ho:∀ b∈fp,∃ o,s3.heap.get? b=some o:=fun b hb=>by
  obtain ⟨o,e,_⟩:=T.obj _ _ st3' b hb
  exact ⟨o,e⟩
 have I4:=comp_inv (t':=s3.toks + ([]:List (Str × Value)).length) O I3 h1 h2 f3 ho old hn4
 have st4:tn 0 h4:=T.keep _ _ _ st3' fun b _ o e=>old b o e
 have ok':=I4.ok
 have fpo:∀ {H':Hp},(∀ b∈fp,H' b=none)→∀ b∈fp,FpOk (compCx X x scope cl s3.heap.objs.size s3 (upd H2 D (.lst [])) fp pins) [] H' b:=fun hn b hb =>
  ⟨hn b hb,(ok'.exf b hb).1,ok'.exfs b hb,.inl hb,(ok'.exf b hb).2,fun p hp=>by
   have hp':p∈X.pn++pins:=by simpa [compCx] using hp
   exact (f3 b hb).2.2.2.2.2 p hp'⟩
 have loop:∀ s4:Shared,s4 = { s3 with heap:=h4,toks:=s3.toks + ([]:List (Str × Value)).length } →
   codeAny (model X.prog X.w) X.A (.compLoop (.ListComp elt [⟨.Name x px,iter,ifs,0⟩] scope pos) 0 (.ref it) (.ref D) (compEnvC scope cl s3.heap.objs.size X.env))
    (compPost (model X.prog X.w) X.A X.xe none (EP X pins σ Q) (.ref D) s3.heap.objs.size) s4:=by
  rintro s4 rfl
  refine codeAny_loop rfl (fun n s'=>∃ i v0 H' ys,Inv (compCx X x scope cl s3.heap.objs.size s3 (upd H2 D (.lst [])) fp pins) [] (v0::σ) H' s'∧tn i s'.heap∧(∀ b∈fp,H' b=none)∧W i n H' ys) ?_ m0
   ⟨0,none,_,[],I4,st4,fun b hb=>(f3 b hb).1,w0⟩
  rintro n s5 ⟨i,v0,H5,ys,I5,st5,fr5,w5⟩
  show wpAny _ X.A ((compTurn (.ListComp elt [⟨.Name x px,iter,ifs,0⟩] scope pos) 0 (.ref it) (.ref D) (compEnvC scope cl s3.heap.objs.size X.env)).onRaise _) _ _ s5
  refine wpAny_noted ?_
  rw [compTurn_list]
  refine wpAny_bind ?_;refine wpAny_standAt (wpAny_bind ?_)
  obtain ⟨hD5,⟨stop,qs⟩ | ⟨go,step⟩⟩:=turn i n H5 ys w5
  ·refine wpAny_mono (T.done (compCx X x scope cl s3.heap.objs.size s3 (upd H2 D (.lst [])) fp pins) rfl rfl rfl hc i [] s5 _ H5 (fun _ _=>False) I5 (fpo fr5) st5 stop) (fun r s6 ⟨hr,I6⟩=>?_) fun _ _ f=>f.elim
   subst hr
   obtain ⟨m6,hn6,_⟩:=id I6.loc
   exact wpAny_pure ⟨m6,hn6,fun h7 hs7=>⟨.ref D,H5,comp_back I3 f3 I6 hs7,rfl,qs⟩⟩
  ·refine wpAny_mono (T.item (compCx X x scope cl s3.heap.objs.size s3 (upd H2 D (.lst [])) fp pins) rfl rfl rfl hc i [] s5 _ H5 (fun _ _=>False) I5 (fpo fr5) st5 go) (fun r s6 ⟨u,hr,h6⟩=>?_) fun _ _ f=>f.elim
   subst hr
   refine wpAny_bind (wpAny_mono h6 (fun _ s7 ⟨y,H7,I7,r7,y7,st7,fr7⟩=>?_) fun _ _ f=>f.elim)
   have I7':=I7.pinned (fpo fr7) (T.obj _ _ st7)
   have own':(relabel scope X.env).names.lookup x=some .local:=lookup_relabel_local O.own
   refine wpAny_bind (wpAny_mono (pg_name (i:=0) (X:=compCx X x scope cl s3.heap.objs.size s3 (upd H2 D (.lst [])) fp pins) O.nd rfl (.inl own') (.inr own') _ s7 _ H7 y u (fun σ' H'=>σ'=some y::σ∧H'=H7) I7' r7 ⟨rfl,rfl⟩) (fun _ s8 ⟨σ8,H8,I8,e8,e8'⟩=>?_) fun _ _ f=>f.elim)
   subst e8 e8'
   have again:∀ {v9:Option V} {H9:Hp} {ys9:List V} {s9:Shared} {m9:Nat},Inv (compCx X x scope cl s3.heap.objs.size s3 (upd H2 D (.lst [])) fp pins) ([]++pinsAt fp s7.heap) (v9::σ) H9 s9→W (i + 1) m9 H9 ys9 →
     ∃ i v0 H' ys,Inv (compCx X x scope cl s3.heap.objs.size s3 (upd H2 D (.lst [])) fp pins) [] (v0::σ) H' s9∧tn i s9.heap∧(∀ b∈fp,H' b=none)∧W i m9 H' ys:=fun {v9 H9 ys9 s9 m9} I9 w9=>by
    refine ⟨i + 1,v9,H9,ys9,I9.unpinned,T.keep _ _ _ st7 fun b hb o e=>(I9.pin (b,o) (List.mem_append_right _ (List.mem_append_right _ (mem_pinsAt hb e)))).1,fun b hb=>?_,w9⟩
    obtain ⟨o,e,_⟩:=T.obj _ _ st7 b hb
    exact (I9.pin (b,o) (List.mem_append_right _ (List.mem_append_right _ (mem_pinsAt hb e)))).2.1
   refine wpAny_bind (wpAny_mono (ht cl s3.heap.objs.size s3 _ fp pins _ s8 _ H8 _ I8 (step y H8 y7)) (fun ok s9 ⟨H9,I9,q9⟩=>?_) fun _ _ f=>f.elim)
   cases ok with
   | false =>
    rw [if_neg Bool.false_ne_true] at q9
    obtain ⟨m',hm,w9⟩:=q9
    exact wpAny_pure ⟨rfl,m',hm,again I9 w9⟩
   | true =>
    rw [if_pos rfl] at q9
    refine wpAny_bind (wpAny_bind (wpAny_mono (he cl s3.heap.objs.size s3 _ fp pins _ s9 _ H9 _ I9 q9) (fun v s10 ⟨z,H10,I10,r10,hd10,hz10,m',hm,w10⟩=>?_) fun _ _ f=>f.elim))
    refine wpAny_bind (wpAny_mono (mt_append (X:=compCx X x scope cl s3.heap.objs.size s3 (upd H2 D (.lst [])) fp pins) _ s10 _ H10 (.ref D) [z] (.ref D) [v] (fun _ H'=>H'=upd H10 D (.lst (ys++[z]))) I10 rfl (.cons r10 .nil) ⟨D,ys,z,rfl,rfl,hd10,hz10,rfl⟩) (fun _ s11 ⟨_,H11,I11,_,e11⟩=>?_) fun _ _ f=>f.elim)
    subst e11
    exact wpAny_pure (wpAny_pure ⟨rfl,m',hm,again I11 w10⟩)
 exact codeAny_compStart_list (loop _ rfl) (T.self _ 0 _ _ _ st4 (loop _ rfl))
theorem pe_comp0 {elt iter:Expr} {px pos:Pos} {wi:TI} {te:TE} (hc:X.calm=true) (hsc:X.env.scope=sc) (hN:X.N=N) (O:CompOk x scope sc N) (hi:PI X (.Name x px) iter wi)
  (he:∀ cl C s H fp pins,PE (compCx X x scope cl C s H fp pins) elt te) (hs:∀ z,foldedSetIterable iter X.env z=pure z:=by intro _;rfl):PE X (.ListComp elt [⟨.Name x px,iter,[],0⟩] scope pos) (tComp wi (fun _ H Q=>Q true H) te) :=
 pe_compG hc hsc hN O hi (fun _ _ _ _ _ _ _ _ _ H' _ I q=>wpAny_tests_nil ⟨H',I,q⟩) he hs
end
end L2
namespace L2
open PySem PySem.Spec PyProof.Rows Mt
theorem Same.tup {K:PySem.W.Frag} {H H':Hp} {a:Addr} {xs:List V} (e:Same H H') (h:SqT K H a xs):SqT K H' a xs:=by
 rcases h with (h | ⟨o,h⟩) | h
 ·exact .inl (.inl (e _ _ h))
 ·exact .inl (.inr ⟨o,e _ _ h⟩)
 ·exact .inr h
def SqA (K:PySem.W.Frag) (H:Hp) (a:Addr) (xs:List V):Prop:=SqL K H a xs∨SqT K H a xs
theorem Same.any {K:PySem.W.Frag} {H H':Hp} {a:Addr} {xs:List V} (e:Same H H') (h:SqA K H a xs):SqA K H' a xs:=h.elim (fun h=>.inl (e.seq h)) fun h=>.inr (e.tup h)
def rIxA (K:PySem.W.Frag):R2:=fun x y H Q=>∃ p xs i v,x = .ref p∧y = .int i∧SqA K H p xs∧atI xs i=some v∧Q v H
section
variable {X:Cx} {tg:Expr}
theorem ix_any:IxR X (rIxA X.K):=by
 intro value slice pins s σ H x y v u Q I rx ry h hsub
 obtain ⟨p,xs,i,z,e1,e2,hq,ha,q⟩:=h
 rcases hq with hq | hq
 ·exact ix_list value slice pins s σ H x y v u Q I rx ry ⟨p,xs,i,z,e1,e2,hq,ha,q⟩ hsub
 ·exact ix_tup value slice pins s σ H x y v u Q I rx ry ⟨p,xs,i,z,e1,e2,hq,ha,q⟩ hsub
theorem ix_listK {K:PySem.W.Frag} (h:X.K=K):IxR X (rIxL K):=by subst h;exact ix_list
theorem ix_tupK {K:PySem.W.Frag} (h:X.K=K):IxR X (rIxT K):=by subst h;exact ix_tup
end
theorem comp_range {lo:Int} {n:Nat} {tt:TT} {te:TE} {σ:St} {H:Hp} {Q:VK} {D:Addr} (Pv:Nat→Hp→List V→Prop) (h0:Pv 0 (upd H D (.lst [])) [])
  (hs:∀ i H2 ys (kk:Hp→List V→Prop),(∀ H' ys',Pv (i + 1) H' ys'→kk H' ys')→i<n→Pv i H2 ys→H2 D=some (.lst ys)∧tt (some (.int (lo + i))::σ) H2 fun b H4 =>
   if b=true then te (some (.int (lo + i))::σ) H4 fun v H5=>H5 D=some (.lst ys)∧ys.length<sizeLine∧kk (upd H5 D (.lst (ys++[v]))) (ys++[v]) else kk H4 ys)
  (hd:∀ H2 ys,Pv n H2 ys→H2 D=some (.lst ys)∧Q (.ref D) H2) :
  ∃ W:Nat→Nat→Hp→List V→Prop,(∃ m,W 0 m (upd H D (.lst [])) [])∧∀ i m H2 ys,W i m H2 ys→H2 D=some (.lst ys)∧(((Itr lo n).stop i H2∧Q (.ref D) H2)∨((Itr lo n).go i H2∧∀ x H3,(Itr lo n).yld i H2 x H3→tt (some x::σ) H3 fun b H4 =>
   if b=true then te (some x::σ) H4 fun v H5=>H5 D=some (.lst ys)∧ys.length<sizeLine∧∃ m',m'<m∧W (i + 1) m' (upd H5 D (.lst (ys++[v]))) (ys++[v]) else ∃ m',m'<m∧W (i + 1) m' H4 ys)):=by
 refine ⟨fun i m H2 ys=>m=n - i∧i≤n∧Pv i H2 ys,⟨n,by simp,Nat.zero_le _,h0⟩,?_⟩
 rintro i m H2 ys ⟨rfl,hi,p⟩
 by_cases hlt:i<n
 ·obtain ⟨h1,h2⟩:=hs i H2 ys (fun H' ys'=>∃ m',m'<n - i∧m'=n - (i + 1)∧i + 1≤n∧Pv (i + 1) H' ys') (fun H' ys' p'=>⟨n - (i + 1),by omega,rfl,hlt,p'⟩) hlt p
  refine ⟨h1,.inr ⟨hlt,fun x H3 y=>?_⟩⟩
  obtain ⟨e,y⟩:=y
  subst e y
  exact h2
 ·have e:i=n:=by omega
  subst e
  exact ⟨(hd H2 ys p).1,.inl ⟨Nat.le_refl _,(hd H2 ys p).2⟩⟩
theorem comp_list {K:PySem.W.Frag} {a:Addr} {xs:List V} {tt:TT} {te:TE} {σ:St} {H:Hp} {Q:VK} {D:Addr} (Pv:Nat→Hp→List V→Prop) (h0:Pv 0 (upd H D (.lst [])) []) (hl:∀ i H2 ys,Pv i H2 ys→SqL K H2 a xs∧H2 D=some (.lst ys))
  (hs:∀ i x H2 ys (kk:Hp→List V→Prop),(∀ H' ys',Pv (i + 1) H' ys'→kk H' ys')→xs[i]? = some x→Pv i H2 ys→tt (some x::σ) H2 fun b H4 =>
   if b=true then te (some x::σ) H4 fun v H5=>H5 D=some (.lst ys)∧ys.length<sizeLine∧kk (upd H5 D (.lst (ys++[v]))) (ys++[v]) else kk H4 ys)
  (hd:∀ H2 ys,Pv xs.length H2 ys→Q (.ref D) H2) :
  ∃ W:Nat→Nat→Hp→List V→Prop,(∃ m,W 0 m (upd H D (.lst [])) [])∧∀ i m H2 ys,W i m H2 ys→H2 D=some (.lst ys)∧(((Itl K a).stop i H2∧Q (.ref D) H2)∨((Itl K a).go i H2∧∀ x H3,(Itl K a).yld i H2 x H3→tt (some x::σ) H3 fun b H4 =>
   if b=true then te (some x::σ) H4 fun v H5=>H5 D=some (.lst ys)∧ys.length<sizeLine∧∃ m',m'<m∧W (i + 1) m' (upd H5 D (.lst (ys++[v]))) (ys++[v]) else ∃ m',m'<m∧W (i + 1) m' H4 ys)):=by
 refine ⟨fun i m H2 ys=>m=xs.length - i∧i≤xs.length∧Pv i H2 ys,⟨xs.length,by simp,Nat.zero_le _,h0⟩,?_⟩
 rintro i m H2 ys ⟨rfl,hi,p⟩
 obtain ⟨h1,h2⟩:=hl i H2 ys p
 refine ⟨h2,?_⟩
 by_cases hlt:i<xs.length
 ·refine .inr ⟨⟨xs,xs[i],h1,by simp [hlt]⟩,fun x H3 y=>?_⟩
  obtain ⟨e,y⟩:=y
  subst e
  exact hs i x H3 ys (fun H' ys'=>∃ m',m'<xs.length - i∧m'=xs.length - (i + 1)∧i + 1≤xs.length∧Pv (i + 1) H' ys') (fun H' ys' p'=>⟨xs.length - (i + 1),by omega,rfl,hlt,p'⟩) (y xs h1) p
 ·have e:i=xs.length:=by omega
  subst e
  exact .inl ⟨⟨xs,h1,Nat.le_refl _⟩,hd H2 ys p⟩
end L2
namespace L2
open PySem PySem.Spec PyProof.Rows
section
variable {prog:Program} {w:World} {A:Around} {E:Value→Shared→Prop} {s:Shared}
theorem gather_tup {t:Addr} {us:List Value} {Q:List Value→Shared→Prop} (ht:IsTup s.heap t us.toArray) (hz:us.length≤sizeLine)
  (q:Q us { s with heap:=(s.heap.push (seqObj "list" #[] 0)).update s.heap.objs.size (Obj.mapSeq (·++us.toArray)) }):wpAny (model prog w) A (collect (.ref t)) Q E s:=by
 obtain ⟨ob,e,hc,n,hd⟩:=ht
 unfold collect;refine wpAny_bind (wpAny_runValue (codeAny_builtin entry_proto_collect' ?_))
 show wpAny _ _ (do again (.builtin "list.__iadd__" ⟨[← newList [],.ref t],[]⟩)) _ _ s
 refine wpAny_bind ?_;refine wpAny_newList (wpAny_pure ⟨Code.quiet_builtin _ (by decide +kernel),codeAny_builtin entry_list_iadd' ?_⟩)
 show wpAny _ _ (Builtin.List.listExtendWith (.ref s.heap.objs.size) (.ref t) (.ref s.heap.objs.size)) _ _ { s with heap:=s.heap.push (seqObj "list" #[] 0) }
 unfold Builtin.List.listExtendWith;have e':(s.heap.push (seqObj "list" #[] 0)).get? t=some ob:=Heap.get?_push_of_some _ e
 refine wpAny_bind (wpAny_typeOf (T:="tuple") ⟨ob,e',hc⟩ ?_)
 have h2:(Value.type "tuple" == Value.type "tuple")=true:=by rfl
 rw [if_pos (by rw [h2];simp)]
 refine wpAny_bind (listItems_at e' hd (wpAny_bind (listItems_at (xs:=#[]) (n:=0) (Heap.get?_push_size _ rfl) rfl ?_)))
 rw [if_neg (by simp)]
 refine wpAny_bind (listUpdate_at (xs:=#[]) (n:=0) (Heap.get?_push_size _ rfl) rfl ?_ (Nat.zero_le _) (by show (#[]++us.toArray).size≤sizeLine + 1;simp only [Array.size_append,List.size_toArray,List.length_nil];omega))
 refine wpAny_pure ?_
 show wpAny (model prog w) A (load s.heap.objs.size >>= fun o=>(match o.data with
   | .seq xs _=>pure xs.toList
   | _=>unsupported "internal:collect":Sem (List Value))) Q E { s with heap:=(s.heap.push (seqObj "list" #[] 0)).update s.heap.objs.size (Obj.mapSeq (·++us.toArray)) }
 refine wpAny_bind ?_;refine wpAny_load (get?_update_seq (Heap.get?_push_size _ rfl) _) ?_
 show wpAny _ _ (pure ((#[]:Array Value)++us.toArray).toList) Q E _
 rw [show ((#[]:Array Value)++us.toArray).toList=us by simp]
 exact wpAny_pure q
theorem sorted_tup {t:Addr} {us:List Value} {ns:List Int} {Q:Value→Shared→Prop} (ht:IsTup s.heap t us.toArray) (hI:IntsAre us ns) (h64:us.length<64)
  (q:∀ (out:Array Value) (ms:List Int),IntsAre out.toList ms→ms.Perm ns→ms.Pairwise (·≤·)→Q (.ref (s.heap.objs.size + 1)) { s with heap:=sortedAll s.heap us out }) :
  wpAny (model prog w) A (call (.builtin "sorted") [.ref t]) Q E s:=by
 refine Calls.call_function_entry kind_sorted plain_sorted entry_sorted (args_sorted1 _) ?_;unfold Builtin.«sorted»;refine wpAny_bind (m:=checkCount "sorted" 1 1 _) (wpAny_pure ?_)
 refine wpAny_bind (gather_tup ht (by rw [sizeLine_eq];omega) (wpAny_bind (wpAny_newList ?_)))
 have z1:((s.heap.push (seqObj "list" #[] 0)).update s.heap.objs.size (Obj.mapSeq (·++us.toArray))).objs.size=s.heap.objs.size + 1:=by rw [Heap.size_update,size_push']
 have z2:(((s.heap.push (seqObj "list" #[] 0)).update s.heap.objs.size (Obj.mapSeq (·++us.toArray))).push (seqObj "list" us.toArray 0)).get? (s.heap.objs.size + 1)=some (seqObj "list" us.toArray 0):=by rw [← z1];exact Heap.get?_push_size _ rfl
 show wpAny _ _ _ _ _ { s with heap:=((s.heap.push (seqObj "list" #[] 0)).update s.heap.objs.size (Obj.mapSeq (·++us.toArray))).push (seqObj "list" us.toArray 0) }
 rw [z1]
 refine wpAny_bind (wpAny_holding (wpAny_call_entry slot_list_sort ⟨_,z2,rfl⟩ entry_list_sort (list_sort_tree z2 hI h64 fun out ms a1 a2 a3=>⟨_,rfl,?_⟩) (args_list_sort _)))
 exact wpAny_pure ⟨_,rfl,q out ms a1 a2 a3⟩
end
section
variable {X:Cx}
theorem call_sorted_ints:CallR X (.builtin "sorted") (fun xs H Q=>∃ (p:Addr) (ns:List Int),xs=[.ref p]∧SqA X.K H p (ns.map V.int)∧ns.length<64∧∀ (l:Addr) (ms:List Int),ms.Perm ns→ms.Pairwise (·≤·)→H l=none→Q (.ref l) (upd H l (.lst (ms.map V.int)))):=by
 intro pins s σ H xs us Q I r h
 obtain ⟨p,ns,rfl,hq,h64,q⟩:=h
 obtain ⟨u,rfl,rx⟩:=vals1 r
 cases rx
 have fin:∀ (its:List Value) (out:Array Value) (ms:List Int),IntsAre out.toList ms→ms.Perm ns→ms.Pairwise (·≤·)→EP X pins σ Q (.ref (s.heap.objs.size + 1)) { s with heap:=sortedAll s.heap its out }:=fun its out ms a1 a2 a3=>by
  obtain ⟨e,he⟩:=sortedAll_at s.heap its out
  have hl:=a2.length_eq
  refine ⟨.ref (s.heap.objs.size + 1),_,I.laid (t':=s.toks) (fun _ _=>sortedAll_old) (Nat.le_succ _) (show ObjOk X.prog X.w _ _ _ (.lst (ms.map V.int)) from ⟨?_,out.toList,e,vals_ints a1,?_⟩),rfl,q _ ms a2 a3 (I.hok.fresh (Nat.le_succ _))⟩
  ·rw [List.length_map,hl];exact Nat.le_of_lt (small1000 (by omega))
  ·rw [Array.toArray_toList];exact he
 rcases hq with hq | hq
 ·obtain ⟨its,r',pl,hz⟩:=I.list hq
  have hlen:=r'.length
  rw [List.length_map] at hlen
  exact sorted_ints pl.isList (intsAre_of r') (by omega) fun out ms a1 a2 a3=>fin its out ms a1 a2 a3
 ·obtain ⟨its,r',pl,hz⟩:=I.tuple hq
  have hlen:=r'.length
  rw [List.length_map] at hlen
  exact sorted_tup pl (intsAre_of r') (by omega) fun out ms a1 a2 a3=>fin its out ms a1 a2 a3
end
end L2
namespace My
open PySem L2 Mt
structure Shop (ws:List Int):Prop where
 lo:∀ v∈ws,10≤v
 hi:∀ v∈ws,v≤127
 nd:ws.Nodup
theorem Shop.snoc {ws:List Int} {t:Int} (h:Shop ws) (h0:10≤t) (h1:t≤127) (n:t ∉ ws):Shop (ws++[t]) where
 lo:=fun v hv=>(List.mem_append.mp hv).elim (h.lo v) fun e=>by rw [List.mem_singleton.mp e];exact h0
 hi:=fun v hv=>(List.mem_append.mp hv).elim (h.hi v) fun e=>by rw [List.mem_singleton.mp e];exact h1
 nd:=by
  rw [List.nodup_append]
  exact ⟨h.nd,by simp,fun a ha b hb=>by rw [List.mem_singleton.mp hb];intro e;exact n (e ▸ ha)⟩
theorem free_tooth:∀ (n:Nat) (ws:List Int),ws.length<n→∃ i:Nat,i<n∧(10 + (i:Int)) ∉ ws
 | 0,_,h=>absurd h (Nat.not_lt_zero _)
 | n + 1,ws,h=>by
  by_cases m:(10 + (n:Int))∈ws
  ·have hl:=List.length_erase_of_mem m
   have hp:0<ws.length:=List.length_pos_of_mem m
   obtain ⟨i,hi,hn⟩:=free_tooth n (ws.erase (10 + (n:Int))) (by omega)
   exact ⟨i,by omega,fun z=>hn ((List.mem_erase_of_ne (by omega)).mpr z)⟩
  ·exact ⟨n,Nat.lt_succ_self _,m⟩
theorem in_ints (t:Int) (ws:List Int):inV (.int t) (ws.map V.int)=decide (t∈ws):=by
 unfold inV
 induction ws with
 | nil=>simp
 | cons w r ih =>
  rw [List.map_cons,List.any_cons,ih]
  have:eqV (.int w) (.int t)=decide (t=w):=by
   show (w == t)=_
   by_cases e:t=w
   ·simp [e]
   ·have:¬ w=t:=fun z=>e z.symm
    simp [e,this]
  rw [this]
  by_cases e:t=w <;> simp [e]
theorem flat_ints (ws:List Int):(ws.map V.int).all flatV=true:=by
 induction ws with
 | nil=>rfl
 | cons w r ih=>rw [List.map_cons,List.all_cons,ih];rfl
def ratT:List Int→Int
 | [a,_]=>a
 | [a,_,c,_]=>a * c
 | _=>0
def ratB:List Int→Int
 | [_,b]=>b
 | [_,b,_,d]=>b * d
 | _=>0
structure Train (ws:List Int):Prop where
 len:ws.length=2∨ws.length=4
 lo:∀ v∈ws,10≤v
 hi:∀ v∈ws,v≤127
theorem Train.cases {ws:List Int} (h:Train ws):(∃ a b,ws=[a,b])∨∃ a b c d,ws=[a,b,c,d]:=by
 obtain ⟨l,_,_⟩:=h
 match ws,l with
 | [a,b],_=>exact .inl ⟨a,b,rfl⟩
 | [a,b,c,d],_=>exact .inr ⟨a,b,c,d,rfl⟩
 | [],h=>simp at h
 | [_],h=>simp at h
 | [_,_,_],h=>simp at h
 | _::_::_::_::_::_,h=>simp at h
theorem mul_in {x y:Int} (h1:10≤x) (h2:x≤127) (h3:10≤y) (h4:y≤127):1≤x * y∧x * y≤16129:=by
 have a1:=Int.mul_le_mul h2 h4 (by omega) (by decide)
 have a2:=Int.mul_le_mul h1 h3 (by decide) (by omega)
 omega
theorem Train.in {ws:List Int} (h:Train ws):1≤ratT ws∧ratT ws≤16129∧1≤ratB ws∧ratB ws≤16129:=by
 rcases h.cases with ⟨a,b,rfl⟩ | ⟨a,b,c,d,rfl⟩
 ·have h1:=h.lo a (by simp);have h2:=h.hi a (by simp);have h3:=h.lo b (by simp);have h4:=h.hi b (by simp)
  show 1≤a∧a≤16129∧1≤b∧b≤16129
  omega
 ·have h1:=h.lo a (by simp);have h2:=h.hi a (by simp);have h3:=h.lo b (by simp);have h4:=h.hi b (by simp)
  have h5:=h.lo c (by simp);have h6:=h.hi c (by simp);have h7:=h.lo d (by simp);have h8:=h.hi d (by simp)
  have e1:=mul_in h1 h2 h5 h6
  have e2:=mul_in h3 h4 h7 h8
  exact ⟨e1.1,e1.2,e2.1,e2.2⟩
def TL (H:Hp) (D:Addr) (tss:List (List Int)):Prop:=∃ rs:List Addr,H D=some (.lst (rs.map V.ref))∧Paired (fun r t=>H r=some (.tup (t.map V.int))) rs tss
theorem pair_mono {H H':Hp} (e:Same H H'):∀ {rs:List Addr} {tss:List (List Int)},Paired (fun r t=>H r=some (.tup (t.map V.int))) rs tss→Paired (fun r t=>H' r=some (.tup (t.map V.int))) rs tss
 | _,_,.nil=>.nil
 | _,_,.cons h t=>.cons (e _ _ h) (pair_mono e t)
theorem TL.mono {H H':Hp} {D:Addr} {tss:List (List Int)} (h:TL H D tss) (e:Same H H'):TL H' D tss:=by
 obtain ⟨rs,h1,h2⟩:=h
 exact ⟨rs,e _ _ h1,pair_mono e h2⟩
theorem pair_upd {H:Hp} {D r:Addr} {xs:List V} {o o':HO} (hD:H D=some (.lst xs)) (hr:H r=none):∀ {rs:List Addr} {tss:List (List Int)},Paired (fun r t=>H r=some (.tup (t.map V.int))) rs tss →
  Paired (fun q t=>(upd (upd H r o) D o') q=some (.tup (t.map V.int))) rs tss
 | _,_,.nil=>.nil
 | _,_,.cons h t=>.cons (by rw [upd_ne (ne_of h hD (by intro z;cases z)),upd_ne (ne_of_none h hr)];exact h) (pair_upd hD hr t)
theorem TL.push {H:Hp} {D r:Addr} {rs:List Addr} {tss:List (List Int)} {t:List Int} (h1:H D=some (.lst (rs.map V.ref))) (h2:Paired (fun r t=>H r=some (.tup (t.map V.int))) rs tss) (hr:H r=none) :
  TL (upd (upd H r (.tup (t.map V.int))) D (.lst (rs.map V.ref++[V.ref r]))) D (tss++[t]):=by
 refine ⟨rs++[r],by rw [upd_same,List.map_append];rfl,Paired.snoc (pair_upd h1 hr h2) ?_⟩
 rw [upd_ne (Ne.symm (ne_of_none h1 hr)),upd_same]
theorem same_push {H0 H:Hp} {D r:Addr} {o o':HO} (s:Same H0 H) (hD:H0 D=none) (hr:H r=none):Same H0 (upd (upd H r o) D o'):=fun b u e=>by
 rw [upd_ne (ne_of_none e hD),upd_ne (ne_of_none (s b u e) hr)]
 exact s b u e
theorem int_at {ts:List Int} {i:Nat} {x:V} (h:(ts.map V.int)[i]? = some x):∃ a,x = .int a∧ts[i]? = some a:=by
 rw [List.getElem?_map] at h
 cases e:ts[i]? with
 | none=>rw [e] at h;cases h
 | some a=>rw [e] at h;exact ⟨a,(Option.some.inj h).symm,rfl⟩
theorem take_more {α:Type} {l:List α} {i:Nat} {a:α} (h:l[i]? = some a):l.take (i + 1)=l.take i++[a]:=by
 rw [List.take_add_one,h];rfl
theorem big {n:Nat} (h:n≤100000):n<sizeLine:=Nat.lt_of_le_of_lt h (by decide)
def rowM (ts:List Int) (a:Int):List (List Int):=(ts.filter fun b=>decide (a≠b)).map fun b=>[a,b]
def pairsM (ts:List Int):List (List Int):=ts.flatMap (rowM ts)
theorem tl_at {H:Hp}:∀ {rs:List Addr} {tss:List (List Int)} {i:Nat} {x:V},Paired (fun r t=>H r=some (.tup (t.map V.int))) rs tss→(rs.map V.ref)[i]? = some x→∃ r t,x = .ref r∧tss[i]? = some t∧H r=some (.tup (t.map V.int))
 | _,_,i,x,.nil,h=>by simp at h
 | _,_,0,x,.cons h t,e=>⟨_,_,by simpa using e.symm,rfl,h⟩
 | _,_,i + 1,x,.cons h t,e=>by
  obtain ⟨r,u,e1,e2,e3⟩:=tl_at (i:=i) (x:=x) t (by simpa using e)
  exact ⟨r,u,e1,by simpa using e2,e3⟩
def okB (f b:List Int):Bool:=decide (b.getD 0 0 ∉ f) && decide (b.getD 1 0 ∉ f)
def rowF (ps:List (List Int)) (f:List Int):List (List Int):=(ps.filter (okB f)).map fun b=>f++b
def foursM (ps:List (List Int)):List (List Int):=ps.flatMap (rowF ps)
def allT (ts:List Int):List (List Int):=pairsM ts++foursM (pairsM ts)
theorem mem_pairsM {ts:List Int} {p:List Int}:p∈pairsM ts ↔ ∃ a b,a∈ts∧b∈ts∧a≠b∧p=[a,b]:=by
 unfold pairsM rowM
 simp only [List.mem_flatMap,List.mem_map,List.mem_filter,decide_eq_true_eq]
 constructor
 ·rintro ⟨a,ha,b,⟨hb,ne⟩,rfl⟩;exact ⟨a,b,ha,hb,ne,rfl⟩
 ·rintro ⟨a,b,ha,hb,ne,rfl⟩;exact ⟨a,ha,b,⟨hb,ne⟩,rfl⟩
theorem mem_foursM {ts:List Int} {p:List Int}:p∈foursM (pairsM ts) ↔ ∃ a b c d,(a∈ts∧b∈ts∧c∈ts∧d∈ts)∧a≠b∧c≠d∧a≠c∧a≠d∧b≠c∧b≠d∧p=[a,b,c,d]:=by
 unfold foursM rowF okB
 simp only [List.mem_flatMap,List.mem_map,List.mem_filter,Bool.and_eq_true,decide_eq_true_eq]
 constructor
 ·rintro ⟨f,hf,b,⟨hb,n1,n2⟩,rfl⟩
  obtain ⟨x,y,hx,hy,ne,rfl⟩:=mem_pairsM.mp hf
  obtain ⟨u,v,hu,hv,ne2,rfl⟩:=mem_pairsM.mp hb
  simp only [List.getD_cons_zero,List.getD_cons_succ,List.mem_cons,List.not_mem_nil,or_false,not_or] at n1 n2
  exact ⟨x,y,u,v,⟨hx,hy,hu,hv⟩,ne,ne2,fun e=>n1.1 e.symm,fun e=>n2.1 e.symm,fun e=>n1.2 e.symm,fun e=>n2.2 e.symm,rfl⟩
 ·rintro ⟨a,b,c,d,⟨ha,hb,hc,hd⟩,n1,n2,n3,n4,n5,n6,rfl⟩
  refine ⟨[a,b],mem_pairsM.mpr ⟨a,b,ha,hb,n1,rfl⟩,[c,d],⟨mem_pairsM.mpr ⟨c,d,hc,hd,n2,rfl⟩,?_,?_⟩,rfl⟩
  ·simp only [List.getD_cons_zero,List.mem_cons,List.not_mem_nil,or_false,not_or];exact ⟨fun e=>n3 e.symm,fun e=>n5 e.symm⟩
  ·simp only [List.getD_cons_zero,List.getD_cons_succ,List.mem_cons,List.not_mem_nil,or_false,not_or];exact ⟨fun e=>n4 e.symm,fun e=>n6 e.symm⟩
theorem allT_train {ts:List Int} (lo:∀ v∈ts,10≤v) (hi:∀ v∈ts,v≤127):∀ t∈allT ts,Train t:=fun t ht=>by
 rcases List.mem_append.mp ht with h | h
 ·obtain ⟨a,b,ha,hb,_,rfl⟩:=mem_pairsM.mp h
  refine ⟨.inl rfl,fun v hv=>?_,fun v hv=>?_⟩ <;> simp only [List.mem_cons,List.not_mem_nil,or_false] at hv <;> rcases hv with rfl | rfl
  ·exact lo _ ha
  ·exact lo _ hb
  ·exact hi _ ha
  ·exact hi _ hb
 ·obtain ⟨a,b,c,d,⟨ha,hb,hc,hd⟩,_,_,_,_,_,_,rfl⟩:=mem_foursM.mp h
  refine ⟨.inr rfl,fun v hv=>?_,fun v hv=>?_⟩ <;> simp only [List.mem_cons,List.not_mem_nil,or_false] at hv <;> rcases hv with rfl | rfl | rfl | rfl
  ·exact lo _ ha
  ·exact lo _ hb
  ·exact lo _ hc
  ·exact lo _ hd
  ·exact hi _ ha
  ·exact hi _ hb
  ·exact hi _ hc
  ·exact hi _ hd
theorem paired_app {H:Hp}:∀ {r1 r2:List Addr} {t1 t2:List (List Int)},Paired (fun r t=>H r=some (.tup (t.map V.int))) r1 t1→Paired (fun r t=>H r=some (.tup (t.map V.int))) r2 t2→Paired (fun r t=>H r=some (.tup (t.map V.int))) (r1++r2) (t1++t2)
 | _,_,_,_,.nil,h=>h
 | _,_,_,_,.cons h t,h2=>.cons h (paired_app t h2)
def pool:List Int:=[20,30,40,50,60,80,100,120,90,45,24,36]
theorem pool_nd:pool.Nodup:=by decide
theorem pool_in:∀ v∈pool,10≤v∧v≤127:=by decide
theorem pool_at {i:Int} (h0:0≤i) (h1:i<12):∃ v:Int,atI (pool.map V.int) i=some (.int v)∧pool[i.toNat]? = some v∧10≤v∧v≤127:=by
 have hk:i.toNat<pool.length:=by show i.toNat<12;omega
 refine ⟨pool[i.toNat],?_,List.getElem?_eq_getElem hk,pool_in _ (List.getElem_mem hk)⟩
 have ek:i=((i.toNat:Nat):Int):=by omega
 have:=atI_nat (xs:=pool.map V.int) (j:=i.toNat) (v:=.int pool[i.toNat]) (by rw [List.getElem?_map,List.getElem?_eq_getElem hk] <;> rfl)
 rw [← ek] at this
 exact this
theorem pool_inj {i j:Nat} {v:Int} (h:pool[i]? = some v) (g:pool[j]? = some v):i=j:=by
 obtain ⟨a1,a2⟩:=List.getElem?_eq_some_iff.mp h
 obtain ⟨b1,b2⟩:=List.getElem?_eq_some_iff.mp g
 have nd:=pool_nd
 exact (List.getElem_inj nd).mp (a2.trans b2.symm)
theorem perm_erase {l:List Int}:∀ {k:Nat} {v:Int},l[k]? = some v→(v::l.eraseIdx k).Perm l:=by
 induction l with
 | nil=>intro k v h;simp at h
 | cons a r ih =>
  intro k v h
  cases k with
  | zero=>simp at h;subst h;exact List.Perm.refl _
  | succ k =>
   have h':r[k]? = some v:=by simpa using h
   have:=ih h'
   show (v::a::r.eraseIdx k).Perm (a::r)
   exact (List.Perm.swap a v _).trans (this.cons a)
theorem map_eraseIdx (l:List Int):∀ k:Nat,(l.map V.int).eraseIdx k=(l.eraseIdx k).map V.int:=by
 induction l with
 | nil=>intro k;rfl
 | cons a r ih =>
  intro k
  cases k with
  | zero=>rfl
  | succ k=>show V.int a::(r.map V.int).eraseIdx k=_;rw [ih k];rfl
end My
namespace My
open PySem L2 Mt
theorem fr_lt_le {a b c d e f:Int} (hb:0<b) (hd:0<d) (_hf:0<f) (h1:a * d<c * b) (h2:c * f≤e * d):a * f<e * b:=by
 have x1:a * d * f<c * b * f:=Int.mul_lt_mul_of_pos_right h1 _hf
 have x2:c * f * b≤e * d * b:=Int.mul_le_mul_of_nonneg_right h2 (Int.le_of_lt hb)
 have e1:a * d * f=a * f * d:=by rw [Int.mul_assoc,Int.mul_comm d f,← Int.mul_assoc]
 have e2:c * b * f=c * f * b:=by rw [Int.mul_assoc,Int.mul_comm b f,← Int.mul_assoc]
 have e3:e * d * b=e * b * d:=by rw [Int.mul_assoc,Int.mul_comm d b,← Int.mul_assoc]
 have:a * f * d<e * b * d:=by omega
 exact Int.lt_of_mul_lt_mul_right this (Int.le_of_lt hd)
theorem fr_le_lt {a b c d e f:Int} (hb:0<b) (hd:0<d) (hf:0<f) (h1:a * d≤c * b) (h2:c * f<e * d):a * f<e * b:=by
 have x1:a * d * f≤c * b * f:=Int.mul_le_mul_of_nonneg_right h1 (Int.le_of_lt hf)
 have x2:c * f * b<e * d * b:=Int.mul_lt_mul_of_pos_right h2 hb
 have e1:a * d * f=a * f * d:=by rw [Int.mul_assoc,Int.mul_comm d f,← Int.mul_assoc]
 have e2:c * b * f=c * f * b:=by rw [Int.mul_assoc,Int.mul_comm b f,← Int.mul_assoc]
 have e3:e * d * b=e * b * d:=by rw [Int.mul_assoc,Int.mul_comm d b,← Int.mul_assoc]
 have:a * f * d<e * b * d:=by omega
 exact Int.lt_of_mul_lt_mul_right this (Int.le_of_lt hd)
theorem fr_eq {a b c d e f:Int} (hd:0<d) (h1:a * d=c * b) (h2:c * f=e * d):a * f=e * b:=by
 have e1:a * d * f=a * f * d:=by rw [Int.mul_assoc,Int.mul_comm d f,← Int.mul_assoc]
 have e2:c * b * f=c * f * b:=by rw [Int.mul_assoc,Int.mul_comm b f,← Int.mul_assoc]
 have e3:e * d * b=e * b * d:=by rw [Int.mul_assoc,Int.mul_comm d b,← Int.mul_assoc]
 have:a * f * d=e * b * d:=by rw [← e1,← e3,h1,e2,h2]
 exact Int.eq_of_mul_eq_mul_right (Int.ne_of_gt hd) this
def gapF (a b p q:Int):Int:=if a * q - p * b<0 then -(a * q - p * b) else a * q - p * b
def Bt (a b c d p q:Int):Prop:=gapF a b p q * d<gapF c d p q * b∨(gapF a b p q * d=gapF c d p q * b∧a * d<c * b)
theorem Bt.asym {a b c d p q:Int} (h:Bt a b c d p q):¬ Bt c d a b p q:=by
 rintro (g | ⟨g1,g2⟩)
 ·rcases h with h | ⟨h1,_⟩ <;> omega
 ·rcases h with h | ⟨_,h2⟩ <;> omega
theorem Bt.step {a b c d e f p q:Int} (hb:0<b) (hd:0<d) (hf:0<f) (h1:¬ Bt a b c d p q) (h2:Bt e f c d p q):Bt e f a b p q:=by
 have n1:¬ gapF a b p q * d<gapF c d p q * b:=fun z=>h1 (.inl z)
 have le:gapF c d p q * b≤gapF a b p q * d:=by omega
 rcases h2 with h2 | ⟨h2,h3⟩
 ·exact .inl (fr_lt_le hf hd hb h2 le)
 ·by_cases z:gapF c d p q * b=gapF a b p q * d
  ·refine .inr ⟨fr_eq hd h2 z,?_⟩
   have n2:¬ a * d<c * b:=fun y=>h1 (.inr ⟨z.symm,y⟩)
   exact fr_lt_le hf hd hb h3 (by omega)
  ·exact .inl (fr_le_lt hf hd hb (Int.le_of_eq h2) (show gapF c d p q * b<gapF a b p q * d by omega))
theorem Bt.ne {a b c d p q:Int} (e:a * d=c * b) (hb:0<b) (hd:0<d):¬ Bt a b c d p q:=by
 have g:gapF a b p q * d=gapF c d p q * b:=by
  have e1:(a * q - p * b) * d=(c * q - p * d) * b:=by
   rw [Int.sub_mul,Int.sub_mul]
   have x1:a * q * d=c * q * b:=by rw [Int.mul_assoc,Int.mul_comm q d,← Int.mul_assoc,e,Int.mul_assoc,Int.mul_comm b q,← Int.mul_assoc]
   have x2:p * b * d=p * d * b:=by rw [Int.mul_assoc,Int.mul_comm b d,← Int.mul_assoc]
   rw [x1,x2]
  unfold gapF
  by_cases s1:a * q - p * b<0
  ·have:c * q - p * d<0:=by
    have:=Int.mul_neg_of_neg_of_pos s1 hd
    rw [e1] at this
    rcases Int.lt_or_le (c * q - p * d) 0 with l | l
    ·exact l
    ·have:=Int.mul_nonneg l (Int.le_of_lt hb);omega
   rw [if_pos s1,if_pos this,Int.neg_mul,Int.neg_mul,e1]
  ·have:¬ c * q - p * d<0:=fun l=>by
    have z:=Int.mul_neg_of_neg_of_pos l hb
    rw [← e1] at z
    have:=Int.mul_nonneg (show 0≤a * q - p * b by omega) (Int.le_of_lt hd);omega
   rw [if_neg s1,if_neg this,e1]
 rintro (h | ⟨_,h⟩) <;> omega
instance (a b c d p q:Int):Decidable (Bt a b c d p q):=by unfold Bt;exact inferInstance
def stepM (p q:Int) (c t:List Int):List Int:=if Bt (ratT t) (ratB t) (ratT c) (ratB c) p q then t else c
structure Best (p q:Int) (tss:List (List Int)) (c:List Int):Prop where
 ex:∃ u v,tss=u++c::v∧(∀ t∈u,Bt (ratT c) (ratB c) (ratT t) (ratB t) p q)∧∀ t∈v,¬ Bt (ratT t) (ratB t) (ratT c) (ratB c) p q
theorem Best.more {p q:Int} {tss:List (List Int)} {c t:List Int} (h:Best p q tss c) (pos:∀ x∈tss,0<ratB x) (pt:0<ratB t):Best p q (tss++[t]) (stepM p q c t):=by
 obtain ⟨u,v,rfl,h1,h2⟩:=h.ex
 have pc:0<ratB c:=pos c (by simp)
 unfold stepM
 split
 ·rename_i b
  refine ⟨u++c::v,[],rfl,fun x hx=>?_,by simp⟩
  have px:0<ratB x:=pos x hx
  rcases List.mem_append.mp hx with z | z
  ·exact Bt.step px pc pt (h1 x z).asym b
  ·rcases List.mem_cons.mp z with z | z
   ·rw [z];exact b
   ·exact Bt.step px pc pt (h2 x z) b
 ·rename_i b
  refine ⟨u,v++[t],by simp,h1,fun x hx=>?_⟩
  rcases List.mem_append.mp hx with z | z
  ·exact h2 x z
  ·rw [List.mem_singleton.mp z];exact b
def Lx (x y:List Int):Prop:=HT.lexLt x y=true
theorem lx2 {a b c d:Int}:Lx [a,b] [c,d] ↔ a<c∨(a=c∧b<d):=by
 unfold Lx
 rw [HT.lexLt_cons,HT.lexLt_cons,HT.lexLt_nil_nil]
 by_cases h1:a=c
 ·rw [if_pos h1]
  by_cases h2:b=d
  ·rw [if_pos h2];constructor
   ·intro z;cases z
   ·omega
  ·rw [if_neg h2,decide_eq_true_eq];omega
 ·rw [if_neg h1,decide_eq_true_eq];omega
theorem lx_cons {a c:Int} {x y:List Int}:Lx (a::x) (c::y) ↔ a<c∨(a=c∧Lx x y):=by
 unfold Lx
 rw [HT.lexLt_cons]
 by_cases h1:a=c
 ·rw [if_pos h1]
  constructor
  ·intro z;exact .inr ⟨h1,z⟩
  ·rintro (z | ⟨_,z⟩)
   ·omega
   ·exact z
 ·rw [if_neg h1,decide_eq_true_eq]
  constructor
  ·intro z;exact .inl z
  ·rintro (z | ⟨z,_⟩)
   ·exact z
   ·exact absurd z h1
def Bef (x y:List Int):Prop:=x.length<y.length∨(x.length=y.length∧Lx x y)
theorem pairs_sorted {sw:List Int} (h:sw.Pairwise (· < ·)):(pairsM sw).Pairwise Lx:=by
 unfold pairsM
 rw [List.pairwise_flatMap]
 refine ⟨fun a _=>?_,h.imp fun {a a'} l x hx y hy=>?_⟩
 ·unfold rowM
  exact List.Pairwise.map _ (fun b b' l=>lx2.mpr (.inr ⟨rfl,l⟩)) (h.filter _)
 ·unfold rowM at hx hy
  simp only [List.mem_map,List.mem_filter] at hx hy
  obtain ⟨b,_,rfl⟩:=hx
  obtain ⟨b',_,rfl⟩:=hy
  exact lx2.mpr (.inl l)
theorem fours_sorted {sw:List Int} (h:sw.Pairwise (· < ·)):(foursM (pairsM sw)).Pairwise Lx:=by
 have hp:=pairs_sorted h
 have hm:(pairsM sw).Pairwise fun x y=>x∈pairsM sw∧y∈pairsM sw∧Lx x y:=by
  rw [List.pairwise_iff_getElem] at hp ⊢
  intro i j hi hj l
  exact ⟨List.getElem_mem hi,List.getElem_mem hj,hp i j hi hj l⟩
 unfold foursM
 rw [List.pairwise_flatMap]
 refine ⟨fun f hf=>?_,hm.imp fun {f f'} l x hx y hy=>?_⟩
 ·obtain ⟨a,b,_,_,_,rfl⟩:=mem_pairsM.mp hf
  unfold rowF
  refine List.Pairwise.map _ (fun x y l=>?_) (hp.filter _)
  exact lx_cons.mpr (.inr ⟨rfl,lx_cons.mpr (.inr ⟨rfl,l⟩)⟩)
 ·obtain ⟨h1,h2,l⟩:=l
  obtain ⟨a,b,_,_,_,rfl⟩:=mem_pairsM.mp h1
  obtain ⟨c,d,_,_,_,rfl⟩:=mem_pairsM.mp h2
  unfold rowF at hx hy
  simp only [List.mem_map,List.mem_filter] at hx hy
  obtain ⟨b1,_,rfl⟩:=hx
  obtain ⟨b2,_,rfl⟩:=hy
  rcases lx2.mp l with z | ⟨z1,z2⟩
  ·exact lx_cons.mpr (.inl z)
  ·exact lx_cons.mpr (.inr ⟨z1,lx_cons.mpr (.inl z2)⟩)
theorem len_pairs {sw x:List Int} (h:x∈pairsM sw):x.length=2:=by
 obtain ⟨a,b,_,_,_,rfl⟩:=mem_pairsM.mp h;rfl
theorem len_fours {sw x:List Int} (h:x∈foursM (pairsM sw)):x.length=4:=by
 obtain ⟨a,b,c,d,_,_,_,_,_,_,_,rfl⟩:=mem_foursM.mp h;rfl
theorem all_sorted {sw:List Int} (h:sw.Pairwise (· < ·)):(allT sw).Pairwise Bef:=by
 unfold allT
 rw [List.pairwise_append]
 refine ⟨?_,?_,fun a ha b hb=>.inl (by rw [len_pairs ha,len_fours hb];decide)⟩
 ·have hp:=pairs_sorted h
  rw [List.pairwise_iff_getElem] at hp ⊢
  intro i j hi hj l
  exact .inr ⟨by rw [len_pairs (List.getElem_mem hi),len_pairs (List.getElem_mem hj)],hp i j hi hj l⟩
 ·have hp:=fours_sorted h
  rw [List.pairwise_iff_getElem] at hp ⊢
  intro i j hi hj l
  exact .inr ⟨by rw [len_fours (List.getElem_mem hi),len_fours (List.getElem_mem hj)],hp i j hi hj l⟩
def Ex (p q:Int) (t:List Int):Prop:=ratT t * q=p * ratB t
structure First (sw:List Int) (p q:Int) (c:List Int):Prop where
 mem:c∈allT sw
 ex:Ex p q c
 least:∀ y∈allT sw,Ex p q y→y=c∨Bef c y
theorem Lx.irr:∀ x:List Int,¬ Lx x x
 | []=>by unfold Lx;rw [HT.lexLt_nil_nil];decide
 | a::r=>by
  rw [lx_cons]
  rintro (z | ⟨_,z⟩)
  ·omega
  ·exact Lx.irr r z
theorem Lx.as:∀ {x y:List Int},Lx x y→¬ Lx y x
 | [],[],h=>absurd h (Lx.irr _)
 | [],_::_,_=>by unfold Lx;rw [HT.lexLt_cons_nil];decide
 | _::_,[],h=>by unfold Lx at h;rw [HT.lexLt_cons_nil] at h;cases h
 | a::r,c::s,h=>by
  rw [lx_cons] at h ⊢
  rcases h with h | ⟨h1,h2⟩
  ·rintro (z | ⟨z,_⟩) <;> omega
  ·rintro (z | ⟨_,z⟩)
   ·omega
   ·exact Lx.as h2 z
theorem strict_of {sw ws:List Int} (hp:sw.Perm ws) (nd:ws.Nodup) (hs:sw.Pairwise (·≤·)):sw.Pairwise (· < ·):=by
 have nd':sw.Nodup:=hp.nodup_iff.mpr nd
 exact (hs.and nd').imp fun {a b} h=>by have:=h.1;have:=h.2;omega
structure Pit (H:Hp) (r:Addr) (p q:Int):Prop where
 at_:H r=some (.tup [.int p,.int q])
 bp:Bd 300 p
 bq:Bd 300 q
 q1:1≤q
theorem Pit.mono {H H':Hp} {r:Addr} {p q:Int} (h:Pit H r p q) (s:Same H H'):Pit H' r p q:=⟨s _ _ h.at_,h.bp,h.bq,h.q1⟩
end My
namespace L2
open PySem PySem.Spec PyProof.Rows
abbrev freshSet (led:Bool):Obj:={ cls:=.type "set",dict:=none,data:=.set #[] 0 (.fresh 0 0 led) }
section
variable {prog:Program} {w:World} {A:Around} {E:Value→Shared→Prop} {s:Shared}
set_option maxHeartbeats 3200000 in
theorem set_tup {t:Addr} {its:Array Value} {ns:List Int} {Q:Value→Shared→Prop} (nh:A.handled=none) (ht:IsTup s.heap t its) (hi:IntsAre its.toList ns) (room:its.size + 1<scanBound)
  (q:∀ (h':Heap) (tk:Nat),h'.SetOf (intKind prog w) s.heap.objs.size (fun k=>(firstMet (fun i=>ns.getD i 0) its.size).any (· == k)) (firstMet (fun i=>ns.getD i 0) its.size).length →
   (∀ b o,b<s.heap.objs.size→s.heap.get? b=some o→h'.get? b=some o)→Q (.ref s.heap.objs.size) { s with heap:=h',toks:=tk }):wpAny (model prog w) A (call (.type "set") [.ref t]) Q E s:=by
 obtain ⟨c,tl,m1⟩:=PySem.F.called_set.mro
 have m2:=PySem.F.called_set.made;have m3:=PySem.F.called_set.sub
 refine wpAny_call (codeAny_of_tree ?_);show wpAny _ _ (callAny (.type "set") _) _ _ _
 refine wpAny_pure ⟨Code.quiet_builtin _ (by decide +kernel),codeAny_builtin PySem.F.entry_type_call ?_⟩
 rw [Around.under_plain (weight_type_call_type "set" [.ref t] []) rfl]
 have m4:=PySem.F.called_set.notType;have m5:=PySem.F.called_set.canCreate;have m6:=PySem.F.typeCall_set_1 (.ref t)
 repeat (any_goals (first | assumption | wp_step))
 refine codeAny_mono (code_set_new_1 (.ref t) (E:=E) (Q₁:=fun ob s1=>∃ led:Bool,ob = .ref s.heap.objs.size∧s1 = { s with heap:=s.heap.push (freshSet led) }) fun led=>⟨led,rfl,rfl⟩) fun r s1 hr=>?_
 cases r with
 | error e=>exact hr
 | ok fl =>
  cases fl with
  | ret ob =>
   obtain ⟨led,rfl,rfl⟩:=hr
   have gS:(s.heap.push (freshSet led)).get? s.heap.objs.size=some (freshSet led):=Heap.get?_push_size _ rfl
   have tS:Shared.TypeIs { s with heap:=s.heap.push (freshSet led) } (.ref s.heap.objs.size) "set":=⟨_,gS,rfl⟩
   have i1:=PySem.F.called_set.init.lookup;have i2:=PySem.F.called_set.init.bind (.ref s.heap.objs.size)
   repeat (any_goals (first | assumption | wp_step))
   refine codeAny_mono (codeAny_call_builtin (R:=wants (fun r s2=>r = .none∧∃ h' tk,s2 = { s with heap:=h',toks:=tk } ∧
     h'.SetOf (intKind prog w) s.heap.objs.size (fun k=>(firstMet (fun i=>ns.getD i 0) its.size).any (· == k)) (firstMet (fun i=>ns.getD i 0) its.size).length ∧
     (∀ b o,b<s.heap.objs.size→s.heap.get? b=some o→h'.get? b=some o)) E) PySem.F.called_set.init.plain PySem.F.entry_set_init (check_set_init_1 tS ?_)) fun r2 s2 hr2=>?_
   ·obtain ⟨⟨oc,od,oda,osl⟩,e0,ec,nl,ed⟩:=ht
    simp only at ec ed
    subst ec ed
    have e1:(s.heap.push (freshSet led)).get? t=some { cls:=.type "tuple",dict:=od,data:=.seq its nl,slots:=osl }:=Heap.get?_push_of_some _ e0
    have n1:=PySem.F.sub_tuple_set;have n2:=PySem.F.sub_tuple_frozenset
    have n3:(Value.type "tuple" == Value.type "dict")=false:=by decide
    have tu:(s.heap.push (freshSet led)).IsTuple t its:=⟨_,e1,rfl,nl,rfl⟩
    unfold Builtin.«set.__init__» noKeywords Builtin.Frozenset.updateFrom
    generalize hPI:pyIter=PI
    wp_walk
    subst hPI
    refine wpAny_pyIter_tuple tu (wpAny_bind (wpAny_runValue ?_))
    have lt:t<s.heap.objs.size:=Heap.lt_size e0
    have nh3:A.in1.in1.in1.handled=none:=by simp [nh]
    have ne:t≠(s.heap.push (freshSet led)).objs.size:=by rw [Heap.size_push];exact Nat.ne_of_lt (Nat.lt_succ_of_lt lt)
    have nS:s.heap.objs.size ∉ [(s.heap.push (freshSet led)).objs.size,t]:=by
     rw [Heap.size_push];simp only [List.mem_cons,List.not_mem_nil,or_false,not_or]
     exact ⟨Nat.ne_of_lt (Nat.lt_succ_self _),Nat.ne_of_gt lt⟩
    have vals:∀ (i:Nat) (v:Value),its[i]? = some v→∃ t,v = .int ((fun i=>ns.getD i 0) i) t:=fun i v hv=>IntsAre.int_at hi i v (by rw [Array.getElem?_toList];exact hv)
    refine codeAny_set_update_loopS ((Walks.tuple nh3 _ t ne its).toS) s.heap.objs.size nS (fun i=>ns.getD i 0) vals room (its.size - 0) 0 _ (by omega) (Nat.zero_le _) ⟨⟨_,Heap.get?_push_size _ rfl,rfl,rfl⟩,⟨_,Heap.get?_push_of_some _ e1,rfl,nl,rfl⟩⟩ ?_ ?_
    ·have g2:((s.heap.push (freshSet led)).push { cls:=.type "tuple_iterator",data:=.fields #[.ref t,.int 0 0] }).get? s.heap.objs.size=some (freshSet led):=Heap.get?_push_of_some _ gS
     exact SetOf_congr ((setObjOf_fresh (knd:=intKind prog w) led).setOf g2 (by unfold scanBound;omega)) (fun _=>rfl) rfl
    ·rintro ⟨h',g',d',tk',os'⟩ mv sS
     have eg:g'=s.gens:=mv.gens;have ed:d'=s.drawn:=mv.drawn;have eo:os'=s.os:=mv.os
     subst eg ed eo
     refine wpAny_pure ?_
     show wpAny _ _ (ret Value.none) _ _ _
     refine wpAny_pure ⟨rfl,h',tk',rfl,sS,fun b o hb e=>mv.heap b o ?_ (Heap.get?_push_of_some _ (Heap.get?_push_of_some _ e))⟩
     have b2:b≠(s.heap.push (freshSet led)).objs.size:=by rw [Heap.size_push];exact Nat.ne_of_lt (Nat.lt_succ_of_lt hb)
     simp only [List.mem_cons,List.not_mem_nil,or_false,not_or]
     exact ⟨Nat.ne_of_lt hb,b2⟩
   ·cases r2 with
    | error e=>exact hr2
    | ok f2 =>
     cases f2 with
     | ret r =>
      obtain ⟨rfl,h',tk,rfl,sS,kk⟩:=hr2
      repeat (any_goals (first | assumption | wp_step))
      exact q _ _ sS kk
     | _=>exact hr2.elim
  | _=>exact hr.elim
end
end L2
namespace L2
open PySem PySem.Spec PyProof.Rows
theorem met_nodup {ns:List Int} (nd:ns.Nodup):∀ n,n≤ns.length→firstMet (fun i=>ns.getD i 0) n=ns.take n
 | 0,_=>by rw [firstMet_zero,List.take_zero]
 | n + 1,h=>by
  have hn:n<ns.length:=h
  rw [firstMet_succ,met_nodup nd n (by omega)]
  have e:ns.getD n 0=ns[n]:=by rw [List.getD_eq_getElem?_getD,List.getElem?_eq_getElem hn];rfl
  have t:ns.take (n + 1)=ns.take n++[ns[n]]:=by rw [List.take_add_one,List.getElem?_eq_getElem hn];rfl
  rw [e,t]
  unfold step_dedup
  rw [if_neg]
  intro z
  obtain ⟨x,hx,ex⟩:=List.any_eq_true.mp z
  have ex':x=ns[n]:=by simpa using ex
  obtain ⟨j,hj,ej⟩:=List.mem_take_iff_getElem.mp hx
  have:=(List.getElem_inj nd).mp (ej.trans ex')
  omega
section
variable {X:Cx}
theorem call_len_set1:CallR X (.builtin "len") (fun xs H Q=>∃ (p:Addr) (S:Int→Bool) (n:Nat),xs=[.ref p]∧H p=some (.set S n)∧Q (.int n) H):=by
 intro pins s σ H xs us Q I r h
 obtain ⟨p,S,n,rfl,hq,q⟩:=h
 obtain ⟨u,rfl,rx⟩:=vals1 r
 cases rx
 obtain ⟨o,es,ep,t,ho,hex,hd,_,_,hb,hf,hn⟩:=(show s.heap.SetOf (intKind X.prog X.w) p S n from I.hok p _ hq)
 have hb':es.size<4096:=hb
 subst hn
 exact call_len_set ho hex hd hf (by omega) ⟨.int es.size,H,I.tok _,⟨_,rfl⟩,q⟩
end
end L2
namespace HT
open PySem PyProof.Rows
section
open PySem.SeqAt
open PySem.AutoSeq1 (wpAny_loadPart')
open PySem.MeetsSeq PySem.MeetsSeq2 PySem.MeetsSeq3
end
section
open PySem.SeqAt
variable {A:Around} {s:Shared}
theorem ints_get {vs:List Value} {ns:List Int} (h:IntsAre vs ns) {j:Nat} (hj:j<vs.length):∃ t,vs[j] = .int (ns.getD j 0) t:=IntsAre.int_at h j _ (List.getElem?_eq_getElem hj)
theorem eq_tup_false {l b:Addr} {vs ws:List Value} {ns ms:List Int} (hl:IsTup s.heap l vs.toArray) (hb:IsTup s.heap b ws.toArray) (hi:IntsAre vs ns) (hj:IntsAre ws ms) (hu:A.units<cLine) (ne:ns≠ms) (nab:l≠b):EqAt A s (.ref l) (.ref b) false:=by
 refine EqAt.of_refs nab ?_
 have r:=RcAt.tuples (A:=A) (s:=s) (l:=l) (b:=b) (items:=vs.toArray) (items2:=ws.toArray) (e:=fun j=>ns.getD j 0 == ms.getD j 0) hl hb hu fun j h1 h2=>by
  obtain ⟨t,e1⟩:=ints_get hi (j:=j) (by simpa using h1)
  obtain ⟨u,e2⟩:=ints_get hj (j:=j) (by simpa using h2)
  simp only [List.getElem_toArray]
  rw [e1,e2]
  exact EqAt.int_int _ _ _ _
 have z:((List.range (min vs.toArray.size ws.toArray.size)).all (fun j=>ns.getD j 0 == ms.getD j 0) && vs.toArray.size == ws.toArray.size)=false:=by
  rw [Bool.eq_false_iff]
  intro h
  rw [Bool.and_eq_true] at h
  obtain ⟨h1,h2⟩:=h
  have l1:vs.length=ns.length:=hi.length
  have l2:ws.length=ms.length:=hj.length
  have l3:vs.length=ws.length:=by simpa using h2
  refine ne (List.ext_getElem (by omega) fun j a1 a2=>?_)
  have:=List.all_eq_true.mp h1 j (by rw [List.mem_range];simp;omega)
  simp only [beq_iff_eq] at this
  rw [List.getD_eq_getElem?_getD,List.getD_eq_getElem?_getD,List.getElem?_eq_getElem a1,List.getElem?_eq_getElem a2] at this
  exact this
 rw [z] at r
 exact r
end
end HT
namespace L2
open PySem PySem.Spec PyProof.Rows
section
variable {X:Cx}
end
end L2
namespace My
open PySem L2 Mt
structure Rat2 (t b:Int):Prop where
 t1:1≤t
 t2:t≤20000
 b1:1≤b
 b2:b≤20000
theorem bd20 {i:Int} (h1:0≤i) (h2:i≤20000):Bd 64 i:=by
 unfold Bd
 have:(2:Nat) ^ 64=18446744073709551616:=by decide
 omega
theorem Rat2.bb {t b:Int} (h:Rat2 t b):Bd 64 b:=bd20 (by have:=h.b1;omega) h.b2
theorem cop_dvd {p q c:Int} (g:Int.gcd p q=1) (h:p ∣ c * q):p ∣ c:=by
 have h1:=Int.natAbs_dvd_natAbs.mpr h
 rw [Int.natAbs_mul] at h1
 exact Int.natAbs_dvd_natAbs.mp (Nat.Coprime.dvd_of_dvd_mul_right (show Nat.Coprime p.natAbs q.natAbs from g) h1)
structure Pl (t b p q:Int):Prop where
 rat:Rat2 t b
 ep:p=ltN t b
 eq:q=ltD t b
 p1:1≤p
 p2:p≤20000
 q1:1≤q
 q2:q≤20000
 co:Int.gcd p q=1
 val:p * b=t * q
theorem Rat2.pl {t b:Int} (h:Rat2 t b):Pl t b (ltN t b) (ltD t b):=by
 obtain ⟨t1,t2,b1,b2⟩:=h
 have L:=lt_is (t:=t) (b:=b) (by omega)
 have y1:=L.pos
 have nx:=L.nx
 have ny:=L.ny
 have he:=L.eq
 have x1:1≤ltN t b:=by
  rcases Int.lt_or_le (ltN t b) 1 with l | l
  ·exfalso
   have a1:ltN t b * b≤0:=Int.mul_nonpos_of_nonpos_of_nonneg (by omega) (by omega)
   have a2:0<t * ltD t b:=Int.mul_pos (by omega) (by omega)
   omega
  ·exact l
 exact ⟨⟨t1,t2,b1,b2⟩,rfl,rfl,x1,by omega,y1,by omega,L.co,he⟩
theorem Pl.bp {t b p q:Int} (h:Pl t b p q):Bd 64 p:=bd20 (by have:=h.p1;omega) h.p2
theorem Pl.bq {t b p q:Int} (h:Pl t b p q):Bd 64 q:=bd20 (by have:=h.q1;omega) h.q2
end My
namespace L2
open PySem PySem.Spec PyProof.Rows
section
variable {X:Cx} {pins:List (Addr × Obj)} {σ:St} {H:Hp} {s:Shared} {x:Str} {scope sc:Scope} {cl:List (Str × Addr)} {fp:List Addr} {N:List Str}
theorem ps_compG {elt iter:Expr} {px py pos sp:Pos} {i:Nat} {y:Str} (hNd:X.N.Nodup) (hi0:X.N[i]? = some y) (hy:Loc X.env.scope y) (hf0:X.fn y=true∨X.env.scope.names.lookup y=some .local) {ifs:List Expr} {wi:TI} {tt:TT} {te:TE} (hc:X.calm=true) (hsc:X.env.scope=sc) (hN:X.N=N) (O:CompOk x scope sc N) (hi:PI X (.Name x px) iter wi)
  (ht:∀ cl C s H fp pins,∀ (pins':List (Addr × Obj)) (s':Shared) (σ':St) (H':Hp) (Q:Bool→Hp→Prop),Inv (compCx X x scope cl C s H fp pins) pins' σ' H' s'→tt σ' H' Q →
   wpAny (model X.prog X.w) X.A (forIn ifs true fun c r=>if r=true then do let ok ← isTrue c (compEnvC scope cl C X.env) (eval c (compEnvC scope cl C X.env));pure (ForInStep.yield ok) else pure (ForInStep.yield r)) (TP (compCx X x scope cl C s H fp pins) pins' σ' Q) (fun _ _=>False) s')
  (he:∀ cl C s H fp pins,PE (compCx X x scope cl C s H fp pins) elt te)
  (hs:∀ z,foldedSetIterable iter X.env z=pure z) (hsw:swapsWith (.ListComp elt [⟨.Name x px,iter,ifs,0⟩] scope pos) (some (.Name y py)) sp.line X.env=pure true):PS X (.Assign [.Name y py] (.ListComp elt [⟨.Name x px,iter,ifs,0⟩] scope pos) sp) (tAsg (tComp wi tt te) (gName i)):=by
 subst hsc hN
 intro pins s σ H DD I h
 obtain ⟨cl,hclos,h1,h2⟩:=clos_of (env:=X.env) (scope:=scope) fun p hp f=>I.ok.has p.1 (.inl (O.free p hp f))
 rw [exec_Assign_Name_used y py _ sp hsw]
 refine wpAny_bind (wpAny_standAt ?_)
 refine wpAny_bind ?_
 show wpAny _ X.A (do let _ ← comprehension (.ListComp elt [⟨.Name x px,iter,ifs,0⟩] scope pos) scope X.env _ (newList []) false (eval iter X.env) (some (assign (.Name y py) X.env))) _ _ s
 refine wpAny_bind (wpAny_mono (wpAny_comprehension_free (Q:=fun _ s'=>SP X pins DD .next s') (use:=some (assign (.Name y py) X.env)) rfl hs hclos O.kind O.names ?_) (fun _ s' hq=>wpAny_pure (wpAny_pure hq)) fun _ _ e=>e)
 refine thn (hi pins s σ H _ I h) fun xv s1 hx1=>thn hx1 fun itv s2 hx2=>?_
 obtain ⟨it,fp,tn,J,H2,rfl,I2,T,st2,f2,hW⟩:=hx2
 refine wpAny_newObj_type ?_
 have nD:H2 s2.heap.objs.size=none:=I2.fresh
 obtain ⟨W,⟨m0,w0⟩,turn⟩:=hW _ nD
 have I3:=I2.lnew (its:=[]) (ys:=[]) (t':=s2.toks) .nil (Nat.zero_le _)
 generalize hD:s2.heap.objs.size=D at *
 have f3:∀ b∈fp,FpOk X pins (upd H2 D (.lst [])) b:=fun b hb=>by
  obtain ⟨o,e,_⟩:=T.obj _ _ st2 b hb
  exact ⟨by rw [upd_ne (by rw [← hD];exact Nat.ne_of_lt (Heap.lt_size e))];exact (f2 b hb).1,(f2 b hb).2⟩
 have st3:tn 0 (s2.heap.push { cls:=.type "list",dict:=none,data:=.seq ([]:List Value).toArray }):=T.keep _ _ _ st2 fun b _ o e=>Heap.get?_push_of_some _ e
 change Inv X pins σ (upd H2 D (.lst [])) { s2 with heap:=s2.heap.push { cls:=.type "list",dict:=none,data:=.seq ([]:List Value).toArray } } at I3
 generalize hs3:({ s2 with heap:=s2.heap.push { cls:=.type "list",dict:=none,data:=.seq ([]:List Value).toArray } }:Shared)=s3 at I3 ⊢
 have st3':tn 0 s3.heap:=by rw [← hs3];exact st3
 refine wpAny_newFunctionEnv O.cell (by intro y hy;simp at hy) (fun h4 hn4 hb4=>?_) O.kind
 have old:∀ b o,s3.heap.get? b=some o→h4.get? b=some o:=fun b o e=>hb4.extBut b o (Nat.ne_of_lt (Heap.lt_size e)) (Heap.get?_push_of_some _ e)
 have ho:∀ b∈fp,∃ o,s3.heap.get? b=some o:=fun b hb=>by
  obtain ⟨o,e,_⟩:=T.obj _ _ st3' b hb
  exact ⟨o,e⟩
 have I4:=comp_inv (t':=s3.toks + ([]:List (Str × Value)).length) O I3 h1 h2 f3 ho old hn4
 have st4:tn 0 h4:=T.keep _ _ _ st3' fun b _ o e=>old b o e
 have ok':=I4.ok
 have fpo:∀ {H':Hp},(∀ b∈fp,H' b=none)→∀ b∈fp,FpOk (compCx X x scope cl s3.heap.objs.size s3 (upd H2 D (.lst [])) fp pins) [] H' b:=fun hn b hb =>
  ⟨hn b hb,(ok'.exf b hb).1,ok'.exfs b hb,.inl hb,(ok'.exf b hb).2,fun p hp=>by
   have hp':p∈X.pn++pins:=by simpa [compCx] using hp
   exact (f3 b hb).2.2.2.2.2 p hp'⟩
 have loop:∀ s4:Shared,s4 = { s3 with heap:=h4,toks:=s3.toks + ([]:List (Str × Value)).length } →
   codeAny (model X.prog X.w) X.A (.compLoop (.ListComp elt [⟨.Name x px,iter,ifs,0⟩] scope pos) 0 (.ref it) (.ref D) (compEnvC scope cl s3.heap.objs.size X.env))
    (compPost (model X.prog X.w) X.A X.xe (some (assign (.Name y py) X.env)) (fun _ s'=>SP X pins DD .next s') (.ref D) s3.heap.objs.size) s4:=by
  rintro s4 rfl
  refine codeAny_loop rfl (fun n s'=>∃ i v0 H' ys,Inv (compCx X x scope cl s3.heap.objs.size s3 (upd H2 D (.lst [])) fp pins) [] (v0::σ) H' s'∧tn i s'.heap∧(∀ b∈fp,H' b=none)∧W i n H' ys) ?_ m0
   ⟨0,none,_,[],I4,st4,fun b hb=>(f3 b hb).1,w0⟩
  rintro n s5 ⟨i,v0,H5,ys,I5,st5,fr5,w5⟩
  show wpAny _ X.A ((compTurn (.ListComp elt [⟨.Name x px,iter,ifs,0⟩] scope pos) 0 (.ref it) (.ref D) (compEnvC scope cl s3.heap.objs.size X.env)).onRaise _) _ _ s5
  refine wpAny_noted ?_
  rw [compTurn_list]
  refine wpAny_bind ?_;refine wpAny_standAt (wpAny_bind ?_)
  obtain ⟨hD5,⟨stop,qs⟩ | ⟨go,step⟩⟩:=turn i n H5 ys w5
  ·refine wpAny_mono (T.done (compCx X x scope cl s3.heap.objs.size s3 (upd H2 D (.lst [])) fp pins) rfl rfl rfl hc i [] s5 _ H5 (fun _ _=>False) I5 (fpo fr5) st5 stop) (fun r s6 ⟨hr,I6⟩=>?_) fun _ _ f=>f.elim
   subst hr
   obtain ⟨m6,hn6,_⟩:=id I6.loc
   have I0:Inv X pins σ H5 s6:=comp_back I3 f3 I6 (Heap.SameBut.refl _ _)
   have fC:FpOk X pins H5 s3.heap.objs.size:=I3.fpOk (Nat.le_refl _) I6.free
   refine wpAny_pure (wpAny_assign_Name (store_ok2 I0 hNd hi0 hy (v:=.ref D) rfl (fun s7 I7 ⟨a,sb,ha⟩=>?_) hf0))
   have na:s3.heap.objs.size≠a:=fun z=>by
    rcases ha with e | e
    ·exact fC.2.1 (z.trans e)
    ·exact fC.2.2.2.2.1 y a e z.symm
   obtain ⟨o,es,ep,ho6,rest⟩:=hn6
   refine ⟨m6,⟨o,es,ep,sb.extBut _ o na ho6,rest⟩,fun h8 hs8=>⟨_,H5,I7.turned (t':=s7.toks) (fun b o hb e=>hs8.extBut b o hb e) fC.1 fC.2.1 fC.2.2.2.1 fC.2.2.2.2.1 fC.2.2.2.2.2,qs⟩⟩
  ·refine wpAny_mono (T.item (compCx X x scope cl s3.heap.objs.size s3 (upd H2 D (.lst [])) fp pins) rfl rfl rfl hc i [] s5 _ H5 (fun _ _=>False) I5 (fpo fr5) st5 go) (fun r s6 ⟨u,hr,h6⟩=>?_) fun _ _ f=>f.elim
   subst hr
   refine wpAny_bind (wpAny_mono h6 (fun _ s7 ⟨y,H7,I7,r7,y7,st7,fr7⟩=>?_) fun _ _ f=>f.elim)
   have I7':=I7.pinned (fpo fr7) (T.obj _ _ st7)
   have own':(relabel scope X.env).names.lookup x=some .local:=lookup_relabel_local O.own
   refine wpAny_bind (wpAny_mono (pg_name (i:=0) (X:=compCx X x scope cl s3.heap.objs.size s3 (upd H2 D (.lst [])) fp pins) O.nd rfl (.inl own') (.inr own') _ s7 _ H7 y u (fun σ' H'=>σ'=some y::σ∧H'=H7) I7' r7 ⟨rfl,rfl⟩) (fun _ s8 ⟨σ8,H8,I8,e8,e8'⟩=>?_) fun _ _ f=>f.elim)
   subst e8 e8'
   have again:∀ {v9:Option V} {H9:Hp} {ys9:List V} {s9:Shared} {m9:Nat},Inv (compCx X x scope cl s3.heap.objs.size s3 (upd H2 D (.lst [])) fp pins) ([]++pinsAt fp s7.heap) (v9::σ) H9 s9→W (i + 1) m9 H9 ys9 →
     ∃ i v0 H' ys,Inv (compCx X x scope cl s3.heap.objs.size s3 (upd H2 D (.lst [])) fp pins) [] (v0::σ) H' s9∧tn i s9.heap∧(∀ b∈fp,H' b=none)∧W i m9 H' ys:=fun {v9 H9 ys9 s9 m9} I9 w9=>by
    refine ⟨i + 1,v9,H9,ys9,I9.unpinned,T.keep _ _ _ st7 fun b hb o e=>(I9.pin (b,o) (List.mem_append_right _ (List.mem_append_right _ (mem_pinsAt hb e)))).1,fun b hb=>?_,w9⟩
    obtain ⟨o,e,_⟩:=T.obj _ _ st7 b hb
    exact (I9.pin (b,o) (List.mem_append_right _ (List.mem_append_right _ (mem_pinsAt hb e)))).2.1
   refine wpAny_bind (wpAny_mono (ht cl s3.heap.objs.size s3 _ fp pins _ s8 _ H8 _ I8 (step y H8 y7)) (fun ok s9 ⟨H9,I9,q9⟩=>?_) fun _ _ f=>f.elim)
   cases ok with
   | false =>
    rw [if_neg Bool.false_ne_true] at q9
    obtain ⟨m',hm,w9⟩:=q9
    exact wpAny_pure ⟨rfl,m',hm,again I9 w9⟩
   | true =>
    rw [if_pos rfl] at q9
    refine wpAny_bind (wpAny_bind (wpAny_mono (he cl s3.heap.objs.size s3 _ fp pins _ s9 _ H9 _ I9 q9) (fun v s10 ⟨z,H10,I10,r10,hd10,hz10,m',hm,w10⟩=>?_) fun _ _ f=>f.elim))
    refine wpAny_bind (wpAny_mono (mt_append (X:=compCx X x scope cl s3.heap.objs.size s3 (upd H2 D (.lst [])) fp pins) _ s10 _ H10 (.ref D) [z] (.ref D) [v] (fun _ H'=>H'=upd H10 D (.lst (ys++[z]))) I10 rfl (.cons r10 .nil) ⟨D,ys,z,rfl,rfl,hd10,hz10,rfl⟩) (fun _ s11 ⟨_,H11,I11,_,e11⟩=>?_) fun _ _ f=>f.elim)
    subst e11
    exact wpAny_pure (wpAny_pure ⟨rfl,m',hm,again I11 w10⟩)
 exact codeAny_compStart_list (loop _ rfl) (T.self _ 0 _ _ _ st4 (loop _ rfl))
theorem ps_comp1 {elt iter c:Expr} {px py pos sp:Pos} {i:Nat} {y:Str} {wi:TI} {tt:TT} {te:TE} (hNd:X.N.Nodup) (hi0:X.N[i]? = some y) (hy:Loc X.env.scope y) (hf0:X.fn y=true∨X.env.scope.names.lookup y=some .local) (hc:X.calm=true) (hsc:X.env.scope=sc) (hN:X.N=N) (O:CompOk x scope sc N) (hi:PI X (.Name x px) iter wi)
  (ht:∀ cl C s H fp pins,PT (compCx X x scope cl C s H fp pins) c tt) (he:∀ cl C s H fp pins,PE (compCx X x scope cl C s H fp pins) elt te)
  (hs:∀ z,foldedSetIterable iter X.env z=pure z) (hsw:swapsWith (.ListComp elt [⟨.Name x px,iter,[c],0⟩] scope pos) (some (.Name y py)) sp.line X.env=pure true) :
  PS X (.Assign [.Name y py] (.ListComp elt [⟨.Name x px,iter,[c],0⟩] scope pos) sp) (tAsg (tComp wi tt te) (gName i)) :=
 ps_compG hNd hi0 hy hf0 hc hsc hN O hi (fun cl C s H fp pins pins' s' σ' H' Q I q=>wpAny_tests_one (ht cl C s H fp pins pins' s' σ' H' Q I q)) he hs hsw
end
end L2
namespace L2
open PySem PySem.Spec PyProof.Rows
section
variable {X:Cx} {x:Str} {scope sc:Scope} {N:List Str}
end
end L2
namespace L2
open PySem PySem.Spec PyProof.Rows
section
variable {X:Cx} {tg:Expr}
end
end L2
namespace L2
open PySem PySem.Spec PyProof.Rows
end L2
namespace My
open PySem L2 Mt
end My
namespace L2
open PySem PySem.Spec PyProof.Rows
section
variable {κ:Type} [DecidableEq κ]
end
section
variable {P:Program} {w:World} {H:Hp} {h:Heap} {a:Addr}
end
section
variable {X:Cx} {pins:List (Addr × Obj)} {σ:St} {H:Hp} {s:Shared} {a:Addr} {y v:V} {u r:Value} {o:Option V} {A:Around} {E:Value→Shared→Prop}
end
section
variable {X:Cx} {pins:List (Addr × Obj)} {σ:St} {H:Hp} {s:Shared} {a:Addr} {kvs:List (Key × V)} {k:Key} {u:Value} {A:Around} {E:Value→Shared→Prop}
end
section
variable {X:Cx} {o i e value:Expr} {pos pos' tpos:Pos} {td ty tv:TE}
end
section
variable {X:Cx} {pos:Pos}
end
structure M1 (X:Cx) (o:Expr) (m:Str) (apos:Pos) (e:Expr) (cpos:Pos):Prop where
 base:attributeBase o m X.env (eval o X.env)=eval o X.env
 few:((backTo cpos (starEach [e] X.env)).all (fun x=>!x.1) && (backToKw cpos (keywordEach [] X.env)).all (fun x=>x.1.isSome)
  && decide (([e]:List Expr).length + ([]:List Keyword).length + (if ([]:List Keyword).isEmpty then 0 else 1)<30))=true
 line:(apos.endLine == cpos.line)=true
 trees:backTo cpos (starEach [e] X.env)=[(false,eval e X.env)]
structure M2 (X:Cx) (o:Expr) (m:Str) (apos:Pos) (e f:Expr) (cpos:Pos):Prop where
 base:attributeBase o m X.env (eval o X.env)=eval o X.env
 few:((backTo cpos (starEach [e,f] X.env)).all (fun x=>!x.1) && (backToKw cpos (keywordEach [] X.env)).all (fun x=>x.1.isSome)
  && decide (([e,f]:List Expr).length + ([]:List Keyword).length + (if ([]:List Keyword).isEmpty then 0 else 1)<30))=true
 line:(apos.endLine == cpos.line)=true
 trees:backTo cpos (starEach [e,f] X.env)=[(false,eval e X.env),(false,eval f X.env)]
section
variable {X:Cx} {pins:List (Addr × Obj)} {σ:St} {H:Hp} {s:Shared} {a:Addr} {y d:V} {u r:Value} {o:Option V} {A:Around} {E:Value→Shared→Prop}
end
section
variable {X:Cx} {o e f:Expr} {apos cpos:Pos} {td ty tx:TE}
end
section
variable {X:Cx} {pins:List (Addr × Obj)} {σ:St} {H:Hp} {s:Shared} {a:Addr} {kvs:List (Key × V)} {A:Around} {E:Value→Shared→Prop}
end
section
variable {X:Cx} {pins:List (Addr × Obj)} {σ:St} {H:Hp} {s:Shared} {a:Addr} {y:V} {u:Value} {A:Around} {E:Value→Shared→Prop}
end
end L2
namespace L2
open PySem PySem.Spec PyProof.Rows
structure Fly (P:Program) (w:World) (outer:List Env) (H:Hp) (s:Shared) (a:Addr) (C:Value) (H':Hp) (s':Shared):Prop where
 os:s'.os=s.os
 bare:AllBare s'.gens
 un:Un (frs outer) [] H H' s.heap s'.heap
 hok:HOk P w H' s'.heap
 fl:∃ (B:Heap) (a0:Value),Heap.FlyingW B outer a C a0 s'.heap∧(∀ b o,s.heap.get? b=some o→b ∉ frs outer→∃ o',B.get? b=some o')∧∀ b o,H' b=some o→∃ o',B.get? b=some o'
def CX1 (P:Program) (w:World):CXT:=fun outer H s E e s'=>∃ (a:Addr) (C:Value) (H':Hp),e = .ref a∧Fly P w outer H s a C H' s'∧E C none H'
theorem CX1.no {P:Program} {w:World} {outer:List Env} {H:Hp} {s s':Shared} {e:Value} (h:CX1 P w outer H s E0 e s'):False:=by
 obtain ⟨_,_,_,_,_,z⟩:=h;exact z
section
variable {X:Cx} {pins:List (Addr × Obj)} {σ:St} {H H':Hp} {s s':Shared}
structure Body (X:Cx):Prop where
 stk:X.stack=X.env::X.outer
 fr:X.env.frame=some X.env.locals
 ex:X.ex=[]
theorem Body.mem (hB:Body X) {b:Addr}:b∈frs X.stack ↔ b=X.env.locals∨b∈X.fs:=by
 unfold Cx.fs frs
 rw [hB.stk,List.filterMap_cons,hB.fr]
 exact List.mem_cons
theorem hok_stay {P:Program} {w:World} {h h':Heap} (x:HOk P w H h) (k:∀ b o u,H b=some o→h.get? b=some u→h'.get? b=some u):HOk P w H h':=fun a o e =>
 (x a o e).stay (fun b u hb q=>by
  rcases hb with z | z
  ·subst z;exact k b o u e q
  ·exact k b _ u z q) (fun _ q=>q) fun _ _ q=>q
theorem fly_hok {P:Program} {w:World} {h h' B:Heap} (x:HOk P w H h) (inB:∀ b o,H b=some o→∃ o',B.get? b=some o') (k1:B.StaysIn h) (k2:B.StaysIn h'):HOk P w H h' :=
 hok_stay x fun b o u e q=>by
  obtain ⟨o',z⟩:=inB b o e
  have:=k1 b o' z
  rw [q] at this;cases this
  exact k2 b _ z
theorem Inv.caught {a:Addr} {C:Value} {h6 B:Heap} {t':Nat} (hB:Body X) (I:Inv X pins σ H s) (un:Un (frs X.stack) [] H H' s.heap s'.heap) (hok:HOk X.prog X.w H' s'.heap) (os:s'.os=s.os) (bare:AllBare s'.gens)
  (k1:B.StaysIn s'.heap) (k2:B.StaysIn h6) (up:s'.heap.UpToSlots h6) (inB:∀ b o,s.heap.get? b=some o→b ∉ frs X.stack→∃ o',B.get? b=some o') (tr:∀ b o,H' b=some o→∃ o',B.get? b=some o') :
  Inv X pins σ H' { s' with heap:=h6,toks:=t' }:=by
 have nA:∀ b:Addr,b ∉ ([]:List Addr):=fun b=>by simp
 have fre:∀ b,b∈frs X.stack→H b=none:=I.stkFree
 have fro:∀ b,b∈frs X.stack→∀ o,s.heap.get? b=some o→∃ sl,h6.get? b=some { o with slots:=sl }:=fun b hb o e=>by
  obtain ⟨sl,e1⟩:=un.slot b o e (fre b hb) hb (nA b)
  obtain ⟨o2,e2,nf⟩:=(I.stack.mem hb).2
  rw [e] at e2;cases e2
  obtain ⟨sl2,e3⟩:=up b _ e1 nf
  exact ⟨sl2,e3⟩
 have key:=I.step (h':=h6) (H':=H') (g':=s'.gens) (t':=t') (d':=s'.drawn) (ch:=[]) (fun b hb=>absurd hb (nA b))
  (fun b o h1 h2 _ e n=>by
   have hb:b ∉ frs X.stack:=fun z=>(hB.mem.mp z).elim h1 h2
   have e1:=un.keep b o e n hb (nA b)
   obtain ⟨o',z⟩:=inB b o e hb
   have:=k1 b o' z
   rw [e1] at this;cases this
   exact k2 b _ z)
  (fun b o h1 h2 _ e n=>fro b (hB.mem.mpr (.inr h2)) o e)
  (fun b o _ e n=>un.free b o e n (nA b))
  (fun b o _ e=>by
   by_cases hb:b∈frs X.stack
   ·obtain ⟨sl,z⟩:=fro b hb o e
    exact ⟨_,z⟩
   ·obtain ⟨o',z⟩:=inB b o e hb
    exact ⟨o',k2 b _ z⟩)
  un.tups un.frzs un.tbls
  (fun m hn=>by
   obtain ⟨o,es,ep,ho,hd,r⟩:=hn
   obtain ⟨sl,z⟩:=fro _ (hB.mem.mpr (.inl rfl)) o ho
   exact ⟨_,es,ep,z,hd,r⟩)
  (fly_hok hok tr k1 k2) bare
 obtain ⟨hh,g,d,t,os'⟩:=s'
 obtain rfl:os'=s.os:=os
 exact key
theorem Inv.flown {a:Addr} {C a0:Value} {h6 B:Heap} (hB:Body X) (I:Inv X pins σ H s) (un:Un (frs X.stack) [] H H' s.heap s'.heap) (hok:HOk X.prog X.w H' s'.heap) (os:s'.os=s.os) (bare:AllBare s'.gens)
  (k1:B.StaysIn s'.heap) (fl:Heap.FlyingW B X.outer a C a0 h6) (up:s'.heap.UpToSlots h6) (inB:∀ b o,s.heap.get? b=some o→b ∉ frs X.stack→∃ o',B.get? b=some o') (tr:∀ b o,H' b=some o→∃ o',B.get? b=some o') :
  Fly X.prog X.w X.outer X.H₀ X.s₀ a C H' { s' with heap:=h6 }:=by
 have J:Inv X pins σ H' { s' with heap:=h6,toks:=s'.toks }:=I.caught (a:=a) (C:=C) (t':=s'.toks) hB un hok os bare k1 fl.1 up inB tr
 refine ⟨J.os,J.bare,by have:=J.base;rw [hB.ex] at this;exact this,J.hok,B,a0,fl,fun b o e hb=>?_,tr⟩
 obtain ⟨o',e1⟩:=I.base.there b o e (by rw [hB.ex];simp)
 refine inB b o' e1 fun z=>?_
 rcases hB.mem.mp z with z | z
 ·subst z
  exact absurd (Nat.lt_of_lt_of_le (Heap.lt_size e) I.ok.above) (Nat.lt_irrefl _)
 ·exact hb z
theorem fly_leave {a:Addr} {C:Value} {M:Model} {Q:Unit→Shared→Prop} {E:Value→Shared→Prop} (hB:Body X) (I:Inv X pins σ H s) (F:Fly X.prog X.w X.stack H s a C H' s') (q:∀ s'',Fly X.prog X.w X.outer X.H₀ X.s₀ a C H' s''→Q () s'') :
  wpAny M X.A (leaving X.env (.ref a)) Q E s':=by
 obtain ⟨os,bare,un,hok,B,a0,fl,inB,tr⟩:=F
 have fl':Heap.FlyingW B (X.env::X.outer) a C a0 s'.heap:=by rw [← hB.stk];exact fl
 refine wpAny_leaves_onW (by rw [I.ok.frames,hB.stk]) hB.fr fl' fun h6 f6 up=>q _ ?_
 exact I.flown hB un hok os bare fl.1 f6 up inB tr
theorem fly_raise {a:Addr} {C:Value} {vs:List Value} {h':Heap} {M:Model} {Q:Unit→Shared→Prop} {E:Value→Shared→Prop} (hB:Body X) (I:Inv X pins σ H s) (hx:Heap.MadeExcOf s.heap h' a C vs)
  (q:∀ s'',Fly X.prog X.w X.outer X.H₀ X.s₀ a C H s''→Q () s''):wpAny M X.A (leaving X.env (.ref a)) Q E { s with heap:=h' }:=by
 have hin:∀ env∈X.stack,∀ b,env.frame=some b→b∈frs X.stack:=fun env he b hb=>List.mem_filterMap.mpr ⟨env,he,hb⟩
 have hfr:s.heap.FunFrames (PySem.W.hideAll s.heap (frs X.stack)) (X.env::X.outer):=by
  rw [← hB.stk];exact PySem.W.funFrames_hide I.stack hin
 refine wpAny_leaves_madeW (base:=PySem.W.hideAll s.heap (frs X.stack)) (h:=s.heap) (by rw [I.ok.frames,hB.stk]) hB.fr (fun b o e=>PySem.W.of_hideAll _ e) hfr hx fun h6 t f6 _ _ up=>q _ ?_
 have kp:(PySem.W.hideAll s.heap (frs X.stack)).StaysIn h':=fun b o e=>hx.keeps b o (PySem.W.of_hideAll _ e)
 have inB:∀ b o,s.heap.get? b=some o→b ∉ frs X.stack→∃ o',(PySem.W.hideAll s.heap (frs X.stack)).get? b=some o':=fun b o e hb=>⟨o,PySem.W.hideAll_get _ e hb⟩
 refine I.flown (s':={ s with heap:=h' }) (H':=H) hB (Un.kept hx.keeps) (I.hok.kept hx.keeps) rfl I.bare kp f6 up inB fun b o e=>?_
 obtain ⟨u,e1⟩:∃ u,s.heap.get? b=some u:=by
  have lt:=I.hok.lt e
  cases z:s.heap.get? b with
  | some u=>exact ⟨u,rfl⟩
  | none =>
   have:=I.hok b o e
   cases o with
   | lst xs=>obtain ⟨_,_,_,_,e⟩:=this;rw [z] at e;cases e
   | tup xs=>obtain ⟨_,_,_,ob,e,_⟩:=this;rw [z] at e;cases e
   | dK kvs=>obtain ⟨_,_,_,_,o,_,_,e,_⟩:=this;rw [z] at e;cases e
   | dT kvs=>obtain ⟨_,_,_,_,o,_,_,e,_⟩:=this;rw [z] at e;cases e
   | set S n=>obtain ⟨o,_,_,_,e,_⟩:=this;rw [z] at e;cases e
   | ins C dx fs=>obtain ⟨_,_,_,e,_⟩:=this;rw [z] at e;cases e
   | own y=>obtain ⟨_,e⟩:=this;rw [z] at e;cases e
   | xd fs=>obtain ⟨_,⟨_,_,_,e,_⟩,_⟩:=this;rw [z] at e;cases e
   | rng lo hi=>obtain ⟨_,_,_,e⟩:=this;rw [z] at e;cases e
   | frz ob u=>obtain ⟨e,_⟩:=this;rw [z] at e;cases e
   | tbl ps=>have e:s.heap.get? b=some _:=this;rw [z] at e;cases e
   | met f y=>have e:s.heap.get? b=some _:=this;rw [z] at e;cases e
   | ext φ=>obtain ⟨_,⟨_,e⟩,_⟩:=this;rw [z] at e;cases e
 exact inB b u e1 fun hb=>by rw [I.stkFree b hb] at e;cases e
end
end L2
namespace L2
open PySem PySem.Spec PyProof.Rows
abbrev veM:List Value:=[.type "ValueError",.type "Exception",.type "BaseException",.type "object"]
def XCls (K:PySem.W.Frag) (C:Addr):Prop:=PySem.W.excIn K C veM "ValueError.__new__" = true
theorem XCls.obj {K:PySem.W.Frag} {C:Addr} {g:Heap} (inK:K.In g) (hx:XCls K C) :
  ∃ (bm:List Value) (N:Addr) (nm qn:Str) (bs:List Value) (hdct:Bool) (sn:List Str) (sub:List Value) (ab:Bool) (col:Option Bool) (dd:Option Addr) (k0 k1 k2 k3 k5:Option Value) (mN:Str→Option Value),
   g.get? C=some (excClassObj nm qn C N bs bm hdct sn sub ab col dd k0 k1 k2 k3 k5 "ValueError.__new__")∧g.Ns N mN∧mN "__init__" = none∧OwnTail g veM bm:=by
 unfold XCls PySem.W.excIn at hx
 split at hx
 ·next dd cd sl ho =>
  split at hx
  ·next C' bm k0 k1 k2 k3 n k5 hm hs =>
   rw [Bool.and_eq_true,Bool.and_eq_true,Bool.and_eq_true,Bool.and_eq_true,Bool.and_eq_true] at hx
   obtain ⟨⟨⟨⟨⟨h1,h2⟩,h3⟩,h4⟩,h5⟩,h6⟩:=hx
   have e1:=beq_iff_eq.mp h1
   have e2:=beq_iff_eq.mp h2
   have e6:=beq_iff_eq.mp h6
   have e3:cd.hasDel=false:=by simpa using h3
   subst e1 e2
   obtain ⟨nm,bs,mro,ns,qn,hd,sn,sub,ab,col,del⟩:=cd
   have em:mro=Value.ref C'::bm:=hm
   have ed:del=false:=e3
   subst em ed
   obtain ⟨l⟩:=sl
   have el:l=[k0,k1,k2,k3,some (Value.builtin "ValueError.__new__"),k5]:=hs
   subst el
   exact ⟨bm,ns,nm,qn,bs,hd,sn,sub,ab,col,dd,k0,k1,k2,k3,k5,_,inK _ _ ho,.of_isNs (PySem.W.isNs_of_in inK h5),PySem.W.nsMap_none_of_in inK h5 e6,PySem.W.tail_of_in inK h4⟩
  ·cases hx
 ·cases hx
structure XOut (X:Cx) (E:XK):Prop where
 body:Body X
 out:∀ e s',wpAny (model X.prog X.w) X.A (leaving X.env e) (fun _ s''=>CX1 X.prog X.w X.outer X.H₀ X.s₀ E e s'') (fun e' s''=>CX1 X.prog X.w X.outer X.H₀ X.s₀ E e' s'') s'→X.xe e s'
def PassX (X:Cx) (EX:St→XK):Prop:=∀ (pins:List (Addr × Obj)) (σ:St) (H:Hp) (s:Shared) (e:Value) (s':Shared),Inv X pins σ H s→CX1 X.prog X.w X.stack H s (EX σ) e s'→X.xe e s'
theorem passNo {X:Cx}:PassX X fun _=>E0:=fun _ _ _ _ _ _ _ h=>h.no.elim
theorem passOut {X:Cx} {E:XK} (O:XOut X E):PassX X fun _=>E:=fun pins σ H s e s' I h=>by
 obtain ⟨a,C,H',rfl,F,q⟩:=h
 exact O.out _ _ (fly_leave O.body I F fun s'' F'=>⟨a,C,H',rfl,F',q⟩)
theorem out_cx {P:Program} {w:World} {K:PySem.W.Frag} {mg:Str→Option Value} {base:Heap} {N:List Str} {qual:Str} {scope:Scope} {f:Addr} {cd:Value} {A:Around} {outer:List Env} {s:Shared} {H:Hp} {E:XK} :
  XOut (cxOf (CX1 P w) P w K mg base N qual scope f cd A outer s H E) E:=⟨⟨rfl,rfl,rfl⟩,fun _ _ h=>h⟩
def tRaise (C:Addr) (E:XK) (t:TA):TS:=fun _ σ H=>t σ H fun vs H1=>vs.length≤sizeLine∧E (.ref C) none H1
section
variable {X:Cx} {x:Str} {C:Addr} {E:XK} {np cpos pos:Pos} {e:Expr} {es:List Expr} {t:TA}
theorem ps_raise (O:XOut X E) (hc:X.calm=true) (hq:XCls X.K C) (hm:X.mg x=some (.ref C)) (ha:PA X (e::es) t) (hg:Gl X x:=by rfl) (h1:(x == ("__debug__":Str))=false:=by decide)
  (hs:starEach (e::es) X.env=(false,eval e X.env)::starEach es X.env:=by rfl) (hpl:(backTo cpos (starEach es X.env)).any (·.1)=false:=by rfl) :
  PS X (.Raise (some (.Call (.Name x np) (e::es) [] cpos)) none pos) (tRaise C E t):=by
 intro pins s σ H D I h
 obtain ⟨bm,N,nm,qn,bs,hdct,sn,sub,ab,col,dd,k0,k1,k2,k3,k5,mN,hC,hN,hni,T⟩:=hq.obj I.ok.mod.kin
 refine wpAny_Raise_call_subT (C:=C) (nm:=nm) (q:=qn) (N:=N) (bs:=bs) (bm:=bm) (hdct:=hdct) (sn:=sn) (sub:=sub) (ab:=ab) (col:=col) (dd:=dd) (k0:=k0) (k1:=k1) (k2:=k2) (k3:=k3) (k5:=k5) (mN:=mN)
  PySem.F.excBase_ValueError (T.hasType PySem.F.excBase_ValueError.hasBase) (I.ok.hd hc) (by rw [hs];show (false || (backTo cpos (starEach es X.env)).any (·.1))=false;rw [hpl];rfl) hni (ld_glob I hg hm ⟨rfl,?_⟩ h1)
 have h':=ha cpos pins s σ H _ I h
 rw [hs] at h' ⊢
 refine Calls.evalArgs_plain (wpAny_mono h' (fun vs s2 ⟨xs,H1,I1,r1,hl,q1⟩=>⟨rfl,by rw [← r1.length];exact hl,I1.bk _ _ hC,hN.keeps I1.bk,T.keeps I1.bk,fun h2 a hx=>?_⟩) fun _ _ y=>y)
 exact O.out _ _ (fly_raise O.body I1 hx fun s'' F=>⟨a,.ref C,H1,rfl,F,q1⟩)
end
def tCallX (sp:Sp) (EX:St→XK) (t:TA):TE:=fun σ H Q=>t σ H fun vs H1=>sp vs H1 Q (EX σ)
def tMethX (C:Addr) (m:Str) (sp:Sp) (EX:St→XK) (ta:TE) (t:TA):TE:=fun σ H Q=>ta σ H fun x H1=>∃ a dx fs,x = .ref a∧H1 a=some (.ins C dx fs)∧fs.lookup m=none∧t σ H1 fun vs H2=>sp (x::vs) H2 Q (EX σ)
def tMakeX (C:Addr) (sp:Sp) (EX:St→XK) (t:TA):TE:=fun σ H Q=>t σ H fun vs H1=>∀ x dx,H1 x=none→H1 dx=none→dx≠x →
 sp (.ref x::vs) (upd (upd H1 dx (.own x)) x (.ins C dx [])) (fun v H2=>v = .non∧Q (.ref x) H2) (fun Cx d H2=>EX σ Cx d H2)
def DefOkX (P:Program) (w:World) (K:PySem.W.Frag) (mg:Str→Option Value) (base:Heap) (x:Str) (ps:List Str) (k:Nat) (sp:Sp):Prop :=
 ∃ (f:Addr) (fd:FuncData),FnOk P w K mg base (CX1 P w) k f fd ps sp∧mg x=some (.ref f)∧PySem.W.keepIn K (.ref f)=true∧Binds K fd ps []
def MethOk (P:Program) (w:World) (K:PySem.W.Frag) (mg:Str→Option Value) (base:Heap) (C:Addr) (m:Str) (ps:List Str) (k:Nat) (sp:Sp):Prop :=
 ∃ (f:Addr) (fd:FuncData),FnOk P w K mg base (CX1 P w) k f fd ps sp∧Meth K C m f∧Cls K C∧Binds K fd ps []
def MakeOk (P:Program) (w:World) (K:PySem.W.Frag) (mg:Str→Option Value) (base:Heap) (x:Str) (C:Addr) (ps:List Str) (k:Nat) (sp:Sp):Prop :=
 ∃ (f:Addr) (fd:FuncData),FnOk P w K mg base (CX1 P w) k f fd ps sp∧Mk K C f∧mg x=some (.ref C)∧Binds K fd ps []
section
variable {X:Cx} {k j:Nat} {f C:Addr} {fd:FuncData} {ps:List Str} {sp:Sp} {EX:St→XK} {x m:Str} {p pos apos:Pos} {e o:Expr} {es:List Expr} {ta:TE} {t:TA}
theorem run_fnX {pins:List (Addr × Obj)} {σ:St} {H:Hp} {s:Shared} {Q:VK} {us:List Value} {vs:List V} (F:FnOk X.prog X.w X.K X.mg X.base (CX1 X.prog X.w) k f fd ps sp) (hr:Room k X.A) (hb:Binds X.K fd ps []) (hx:PassX X EX)
  (I:Inv X pins σ H s) (r:Vals vs us) (h:sp vs H Q (EX σ)):wpAny (model X.prog X.w) X.A (call (.ref f) us) (EP X pins σ Q) X.xe s:=by
 have hl:(us++[]).length=ps.length:=by rw [List.append_nil,← r.length];exact F.len _ _ _ _ h
 have hbd:=hb s us I.kIn hl
 rw [List.append_nil] at hbd
 refine wpAny_call (codeAny_mono (F.run X.A X.stack s H ⟨us,[]⟩ us vs Q (EX σ) hr I.env0 hbd r h) fun res s' hq=>?_)
 cases res with
 | error er=>exact hx pins σ H s er s' I hq
 | ok fl =>
  cases fl with
  | ret u=>exact I.after hq
  | next=>exact False.elim hq
  | brk=>exact False.elim hq
  | cont=>exact False.elim hq
theorem pe_callX (D:DefOkX X.prog X.w X.K X.mg X.base x ps k sp) (hr:Room j X.A) (hx:PassX X EX) (ha:PA X (e::es) t)
  (hkj:k≤j:=by decide) (hg:Gl X x:=by rfl) (h1:(x == ("__debug__":Str))=false:=by decide) (h2:starEach (e::es) X.env=(false,eval e X.env)::starEach es X.env:=by rfl) (h3:(backTo pos (starEach es X.env)).any (·.1)=false:=by rfl) :
  PE X (.Call (.Name x p) (e::es) [] pos) (tCallX sp EX t):=by
 obtain ⟨f,fd,F,hm,hk,hb⟩:=D
 intro pins s σ H Q I h
 refine wpAny_Call_Name_kw (ld_glob I hg hm ?_ h1)
 refine PySem.W.callWith_K (h₀:=X.base) I.ok.mod.kin hk (thn (ha pos pins s σ H _ I h) fun us s1 ⟨vs,H1,I1,r,q⟩=>⟨I1.kIn,?_⟩) h2 h3
 exact run_fnX F (hr.mono hkj) hb hx I1 r q
theorem pe_methX {pl:Sem Bool} (D:MethOk X.prog X.w X.K X.mg X.base C m ps k sp) (hr:Room j X.A) (hx:PassX X EX) (he:PE X o ta) (ha:PA X (e::es) t) (hkj:k≤j:=by decide)
  (hst:starEach (e::es) X.env=(false,eval e X.env)::starEach es X.env:=by rfl) (hpl:(backTo pos (starEach es X.env)).any (·.1)=false:=by rfl)
  (ht:eval (.Call (.Attribute o m apos) (e::es) [] pos) X.env=(eval o X.env >>= fun ov=>standAt apos.atName >>= fun _=>holding [ov] (getMethod ov m pl) >>= fun r =>
   callWith pos r.1 r.2 (backTo pos (starEach (e::es) X.env)) (backToKw pos (keywordEach [] X.env))):=by rfl) :
  PE X (.Call (.Attribute o m apos) (e::es) [] pos) (tMethX C m sp EX ta t):=by
 obtain ⟨f,fd,F,hm,c,hb⟩:=D
 intro pins s σ H Q I h
 refine PySem.W.methodCall_KW (pl:=pl) (thn (he pins s σ H _ I h) fun u s1 ⟨x,H1,I1,rx,a,dx,fs,ex,ea,l,q⟩=>?_) ht
 subst ex
 obtain rfl:u=Value.ref a:=rx
 refine getmeth_ok I1 ea c hm l ?_
 refine PySem.W.callWith_K (first:=[.ref a]) (h₀:=X.base) I.ok.mod.kin hm.kp (thn (ha pos pins s1 σ H1 _ I1 q) fun us s2 ⟨vs,H2,I2,r,q2⟩=>⟨I2.kIn,?_⟩) hst hpl
 exact run_fnX (us:=.ref a::us) (vs:=.ref a::vs) F (hr.mono hkj) hb hx I2 (.cons rfl r) q2
theorem pe_methX0 {pl:Sem Bool} (D:MethOk X.prog X.w X.K X.mg X.base C m ps k sp) (hr:Room j X.A) (hx:PassX X EX) (he:PE X o ta) (hkj:k≤j:=by decide)
  (ht:eval (.Call (.Attribute o m apos) [] [] pos) X.env=(eval o X.env >>= fun ov=>standAt apos.atName >>= fun _=>holding [ov] (getMethod ov m pl) >>= fun r =>
   callWith pos r.1 r.2 (backTo pos (starEach [] X.env)) (backToKw pos (keywordEach [] X.env))):=by rfl) :
  PE X (.Call (.Attribute o m apos) [] [] pos) (tMethX C m sp EX ta tNil):=by
 obtain ⟨f,fd,F,hm,c,hb⟩:=D
 intro pins s σ H Q I h
 refine PySem.W.methodCall_KW (pl:=pl) (thn (he pins s σ H _ I h) fun u s1 ⟨x,H1,I1,rx,a,dx,fs,ex,ea,l,q⟩=>?_) ht
 subst ex
 obtain rfl:u=Value.ref a:=rx
 refine getmeth_ok I1 ea c hm l ?_
 exact PySem.W.callWith_K0 (first:=[.ref a]) I1.kIn hm.kp (run_fnX (us:=[.ref a]) (vs:=[.ref a]) F (hr.mono hkj) hb hx I1 (.cons rfl .nil) q)
theorem run_makeX {pins:List (Addr × Obj)} {σ:St} {H:Hp} {s:Shared} {Q:VK} {us:List Value} {vs:List V} (M:Mk X.K C f) (F:FnOk X.prog X.w X.K X.mg X.base (CX1 X.prog X.w) k f fd ps sp) (hr:Room (k + 1) X.A) (hb:Binds X.K fd ps [])
  (hx:PassX X EX) (I:Inv X pins σ H s) (r:Vals vs us)
  (h:∀ x dx,H x=none→H dx=none→dx≠x→sp (.ref x::vs) (upd (upd H dx (.own x)) x (.ins C dx [])) (fun v H2=>v = .non∧Q (.ref x) H2) (EX σ)) :
  wpAny (model X.prog X.w) X.A (call (.ref C) us) (EP X pins σ Q) X.xe s:=by
 have n1:=I.hok.fresh (a:=s.heap.objs.size + 1) (Nat.le_succ _)
 have n2:=I.hok.fresh (a:=s.heap.objs.size) (Nat.le_refl _)
 have hq:=h (s.heap.objs.size + 1) s.heap.objs.size n1 n2 (Nat.ne_of_lt (Nat.lt_succ_self _))
 have I2:=Inv.made (C:=C) I
 have r2:Vals (V.ref (s.heap.objs.size + 1)::vs) (Value.ref (s.heap.objs.size + 1)::us):=.cons rfl r
 have hl:(Value.ref (s.heap.objs.size + 1)::us++[]).length=ps.length:=by
  have e:=r2.length
  rw [F.len _ _ _ _ hq] at e
  rw [List.append_nil]
  exact e.symm
 have hbd:=hb _ (Value.ref (s.heap.objs.size + 1)::us) I2.kIn hl
 rw [List.append_nil] at hbd
 refine wpAny_call (make_map (f:=f) I.kIn M.makes M.init (beq_iff_eq.mp M.fn) (codeAny_mono (F.run _ X.stack _ _ ⟨Value.ref (s.heap.objs.size + 1)::us,[]⟩ (Value.ref (s.heap.objs.size + 1)::us) _ _ (EX σ) (hr.make C us [])
  (I2.env0.make C us []) hbd r2 hq) fun res s' hq'=>?_))
 cases res with
 | error er=>exact hx pins σ _ _ er s' I2 hq'
 | ok fl =>
  cases fl with
  | ret u =>
   obtain ⟨v,H',I3,rv,ev,q3⟩:=I2.after hq'
   subst ev
   exact ⟨rv,⟨V.ref (s.heap.objs.size + 1),H',I3,rfl,q3⟩⟩
  | next=>exact False.elim hq'
  | brk=>exact False.elim hq'
  | cont=>exact False.elim hq'
theorem pe_makeX (D:MakeOk X.prog X.w X.K X.mg X.base x C ps k sp) (hr:Room j X.A) (hx:PassX X EX) (ha:PA X (e::es) t) (hkj:k + 1≤j:=by decide) (hg:Gl X x:=by rfl)
  (h1:(x == ("__debug__":Str))=false:=by decide) (h2:starEach (e::es) X.env=(false,eval e X.env)::starEach es X.env:=by rfl) (h3:(backTo pos (starEach es X.env)).any (·.1)=false:=by rfl) :
  PE X (.Call (.Name x p) (e::es) [] pos) (tMakeX C sp EX t):=by
 obtain ⟨f,fd,F,M,hm,hb⟩:=D
 intro pins s σ H Q I h
 refine wpAny_Call_Name_kw (ld_glob I hg hm ?_ h1)
 refine PySem.W.callWith_K (h₀:=X.base) I.ok.mod.kin M.kp (thn (ha pos pins s σ H _ I h) fun us s1 ⟨vs,H1,I1,r,q⟩=>⟨I1.kIn,?_⟩) h2 h3
 exact run_makeX M F (hr.mono hkj) hb hx I1 r q
theorem pe_makeX0 (D:MakeOk X.prog X.w X.K X.mg X.base x C ps k sp) (hr:Room j X.A) (hx:PassX X EX) (hkj:k + 1≤j:=by decide) (hg:Gl X x:=by rfl)
  (h1:(x == ("__debug__":Str))=false:=by decide):PE X (.Call (.Name x p) [] [] pos) (tMakeX C sp EX tNil):=by
 obtain ⟨f,fd,F,M,hm,hb⟩:=D
 intro pins s σ H Q I h
 refine wpAny_Call_Name_kw (ld_glob I hg hm ?_ h1)
 exact PySem.W.callWith_K0 I.kIn M.kp (run_makeX (us:=[]) M F (hr.mono hkj) hb hx I .nil h)
end
section
variable {P:Program} {w:World} {K:PySem.W.Frag} {mg:Str→Option Value} {base:Heap}
theorem Fun.ok1 {x qual:Str} {st:Stmt} {f:Addr} {fd:FuncData} {N ps:List Str} {k:Nat} {sp:Sp} (F:Fun K x qual st f fd) (S:FnScope N ps (defScope st)) (len:∀ vs H Q E,sp vs H Q E→vs.length=ps.length)
  (hbody:∀ (cdv:Value) (A:Around) (outer:List Env) (s:Shared) (H:Hp) (vs:List V) (Q:VK) (E:XK),Room k (A.deeper (envOfC qual (defScope st) s.heap.objs.size f cdv))→sp vs H Q E →
   ∃ t,PSs (cxOf (CX1 P w) P w K mg base N qual (defScope st) f cdv A outer s H E) (defBody st) t∧t { nx:=fun _ H'=>Q .non H',rt:=Q } (start N vs) H):FnOk P w K mg base (CX1 P w) (k + 1) f fd ps sp:=by
 obtain ⟨oc,od,kV,doc,pm,an,cdv,ct,osl,rfl,lk,hcd⟩:=F.ex
 exact fn_of lk hcd S len fun A outer s H vs Q E hr hsp=>hbody cdv A outer s H vs Q E hr hsp
end
end L2
namespace L2
open PySem PySem.Spec PyProof.Rows
section
variable {M:Model} {A:Around} {E:Value→Shared→Prop} {g:Heap} {gs:Array GenState} {d:Drawn} {t:Nat} {os:OsState}
end
def ExcO (a Ce:Addr):HO:=.ext fun h=>∃ o,h.get? a=some o∧o.cls = .ref Ce
abbrev suiteCx (X:Cx) (a:Addr):Cx:={ X with A:=X.A.mark (some (.ref a)),calm:=false,xe:=fun _ _=>False }
section
variable {X:Cx} {pins pins':List (Addr × Obj)} {σ:St} {H H':Hp} {s s':Shared} {a:Addr} {xe:Value→Shared→Prop}
end
def asT (i:Nat) (t:TS) (Ce:Addr):TS:=fun D σ H=>∀ a,H a=none→t ⟨fun σ' H'=>D.nx (σ'.set i none) H',D.rt,fun σ' H'=>D.bk (σ'.set i none) H',fun σ' H'=>D.ct (σ'.set i none) H'⟩ (σ.set i (some (.ref a))) (upd H a (ExcO a Ce))
inductive PHs (X:Cx):List ExceptHandler→List (Addr × (Addr→TS))→Prop where
 | nil:PHs X [] []
 | cons {x:Str} {np pos:Pos} {C:Addr} {b₀:Stmt} {suite:List Stmt} {t:TS} {r:List ExceptHandler} {L:List (Addr × (Addr→TS))} (hg:Gl X x) (hm:X.mg x=some (.ref C)) (hx:XCls X.K C) (hd:(x == ("__debug__":Str))=false)
   (hs:∀ a,PSs (suiteCx X a) (b₀::suite) t) (hr:PHs X r L):PHs X (.ExceptHandler (some (.Name x np)) none (b₀::suite) pos::r) ((C,fun _=>t)::L)
 | as {x n:Str} {i:Nat} {np pos:Pos} {C:Addr} {b₀:Stmt} {suite:List Stmt} {t:TS} {r:List ExceptHandler} {L:List (Addr × (Addr→TS))} (hg:Gl X x) (hm:X.mg x=some (.ref C)) (hx:XCls X.K C) (hd:(x == ("__debug__":Str))=false)
   (hN:X.N.Nodup) (hi:X.N[i]? = some n) (hk:X.env.kindOf n=some .local) (hs:∀ a,PSs (suiteCx X a) (b₀::suite) t) (hr:PHs X r L):PHs X (.ExceptHandler (some (.Name x np)) (some n) (b₀::suite) pos::r) ((C,asT i t)::L)
section
variable {X:Cx} {pins:List (Addr × Obj)} {σ:St} {H H':Hp} {s s':Shared} {a Ce:Addr} {B:Heap} {a0:Value} {D:Ends}
end
def hx (X:Cx) (pins:List (Addr × Obj)) (D:Ends) (hs:List ExceptHandler):Value→Shared→Prop:=fun e s' =>
 wpAny (model X.prog X.w) X.A (noteFrame e X.env) (fun _ s2=>wpAny (model X.prog X.w) X.A (setFlight e none) (fun _ s3=>wpAny (model X.prog X.w) X.A (handleBy e X.env hs) (SP X pins D) X.xe s3) X.xe s2) X.xe s'
end L2
namespace L2
open PySem PySem.Spec PyProof.Rows Builtin Builtin.ObjectAttr Builtin.Getset_descriptor
structure ClsAt (K:PySem.W.Frag) (C:Addr):Prop where
 ga:PySem.W.findIn K (.ref C) "__getattribute__" = some (some (.builtin "BaseException.__getattribute__"))
 gn:PySem.W.findIn K (.ref C) "__getattr__" = some none
 be:PySem.W.mroIn K C (.type "BaseException")=some true
 at_:PySem.W.findIn K (.ref C) "__class__" = some (some (.builtin "object.__class__"))
 get:PySem.W.specialIn K (.builtin "object.__class__") "__get__" = some (some (.builtin "getset_descriptor.__get__"))
 tk:PySem.W.takesIn K (.builtin "object.__class__")=some true
 ob:PySem.W.mroIn K C (.type "object")=some true
section
variable {K:PySem.W.Frag} {x C:Addr} {prog:Program} {w:World} {A:Around} {E:Value→Shared→Prop} {s:Shared}
end
end L2
namespace L2
open PySem PySem.Spec PyProof.Rows
def cOf (mg:Str→Option Value) (x:Str):Addr:=match mg x with
 | some (.ref a)=>a
 | _=>0
theorem cOf_of {mg:Str→Option Value} {x:Str} {a:Addr} (h:mg x=some (.ref a)):cOf mg x=a:=by unfold cOf;rw [h]
def HereM (K:PySem.W.Frag) (C:Addr) (m qual:Str) (st:Stmt) (ps:List Str):Prop:=∃ (f:Addr) (fd:FuncData),Fun K m qual st f fd∧Meth K C m f∧Binds K fd ps []
def HereI (K:PySem.W.Frag) (C:Addr) (qual:Str) (st:Stmt) (ps:List Str):Prop:=∃ (f:Addr) (fd:FuncData),Fun K "__init__" qual st f fd∧Mk K C f∧Binds K fd ps []
end L2
namespace L2
open PySem PySem.Spec PyProof.Rows
end L2
namespace L2
open PySem PySem.Spec PyProof.Rows PySem.SeqAt
def SameV (K:PySem.W.Frag) (H:Hp):Nat→V→V→Prop
 | 0,x,y=>x=y∧flatV x=true
 | n + 1,x,y=>(x=y∧flatV x=true)∨∃ p q xs ys,x = .ref p∧y = .ref q∧SqT K H p xs∧SqT K H q ys∧xs.length=ys.length∧∀ (j:Nat) a b,xs[j]? = some a→ys[j]? = some b→SameV K H n a b
theorem eqV_self {x:V} (f:flatV x=true):eqV x x=true:=by
 cases x with
 | non=>rfl
 | bl b=>cases b <;> rfl
 | int i=>exact beq_self_eq_true i
 | str z=>exact beq_self_eq_true z
 | _=>cases f
section
variable {X:Cx} {pins:List (Addr × Obj)} {σ:St} {H:Hp} {s:Shared}
theorem all_true {n:Nat}:(List.range n).all (fun _=>true)=true:=by rw [List.all_eq_true];exact fun _ _=>rfl
theorem same_eqAt (I:Inv X pins σ H s):∀ (n:Nat) {x y:V} {u v:Value} {A:Around},A.units + n<cLine→SameV X.K H n x y→RelV x u→RelV y v→EqAt A s u v true
 | 0,x,y,u,v,A,_,h,ru,rv=>by
  obtain ⟨rfl,f⟩:=h
  have:=eqAt_V (A:=A) (s:=s) ru rv f f
  rwa [eqV_self f] at this
 | n + 1,x,y,u,v,A,hu,h,ru,rv=>by
  rcases h with ⟨rfl,f⟩ | ⟨p,q,xs,ys,rfl,rfl,hp,hq,hl,he⟩
  ·have:=eqAt_V (A:=A) (s:=s) ru rv f f
   rwa [eqV_self f] at this
  ·cases (show u=Value.ref p from ru)
   cases (show v=Value.ref q from rv)
   by_cases e:p=q
   ·subst e;exact EqAt.same _
   ·obtain ⟨us,r1,t1,_⟩:=I.tuple hp
    obtain ⟨vs,r2,t2,_⟩:=I.tuple hq
    have l1:=r1.length
    have l2:=r2.length
    refine EqAt.of_refs e ?_
    have r:=RcAt.tuples (A:=A) (s:=s) (e:=fun _=>true) t1 t2 (Nat.lt_of_le_of_lt (Nat.le_add_right _ _) hu) fun j h1 h2=>by
     have h1':j<us.length:=by simpa using h1
     have h2':j<vs.length:=by simpa using h2
     simp only [List.getElem_toArray]
     have e1:xs[j]? = some xs[j]:=List.getElem?_eq_getElem (by omega)
     have e2:ys[j]? = some ys[j]:=List.getElem?_eq_getElem (by omega)
     obtain ⟨z1,q1,w1⟩:=r1.get e1
     obtain ⟨z2,q2,w2⟩:=r2.get e2
     rw [List.getElem?_eq_getElem h1'] at q1
     rw [List.getElem?_eq_getElem h2'] at q2
     cases q1
     cases q2
     exact same_eqAt I n (A:=A.in1) (by show A.units + 1 + n<cLine;omega) (he j _ _ e1 e2) w1 w2
    rw [all_true] at r
    have z:(us.toArray.size == vs.toArray.size)=true:=by simp;omega
    rw [z] at r
    exact r
theorem hu4 {A:Around} {k:Nat} (hr:Room k A):A.units + 4<cLine:=Nat.lt_of_le_of_lt (Nat.add_le_add_left (by decide:4≤64) _) hr.units
end
end L2
namespace My
open PySem L2 Mt
abbrev Q2:=Int × Int
def red (t b:Int):Q2:=(ltN t b,ltD t b)
def qadd (a b:Q2):Q2:=red (a.1 * b.2 + b.1 * a.2) (a.2 * b.2)
def qmul (a b:Q2):Q2:=red (a.1 * b.1) (a.2 * b.2)
def qneg (a:Q2):Q2:=(-a.1,a.2)
def qabs (a:Q2):Q2:=(if a.1<0 then -a.1 else a.1,a.2)
def ratio (ts:List Int):Q2:=red (ratT ts) (ratB ts)
inductive Deed where
 | mount (ts:List Int) | turn (a:Q2) | wait | close | opn | move (a:Q2) | cut (a:Q2)
structure PS where
 train:List Int
 pitch:Option Q2
 work:Q2
 place:Q2
 closed:Bool
 off:Option Q2
 cuts:List Q2
 turned:Q2
 moved:Q2
def ps0:PS:=⟨[],none,(0,1),(0,1),false,none,[],(0,1),(0,1)⟩
def PS.r (p:PS):Q2:=p.pitch.getD (0,1)
def PS.ahead (p:PS):Q2:=match p.off with
 | none=>(0,1)
 | some o=>red (o.1 % (o.2 * p.r.1) * p.r.2) (o.2 * p.r.1)
def PS.turn (p:PS) (a:Q2):PS :=
 { p with work:=qadd p.work a,turned:=qadd p.turned (qabs a),place:=if p.closed then qadd p.place (qmul p.r a) else p.place,off:=if p.closed then p.off else p.off.map fun o=>qadd o (qneg (qmul p.r a)) }
def PS.closing (p:PS):Int:=(p.off.getD (0,1)).1
def PS.groove (p:PS):Int:=p.closing * p.r.2 % p.r.1
def PS.after (p:PS):Deed→PS
 | .mount ts=>{ ps0 with train:=ts,pitch:=some (ratio ts) }
 | .turn a=>p.turn a
 | .wait=>p.turn p.ahead
 | .close=>{ p with closed:=true,off:=some (p.off.getD (0,1)) }
 | .opn=>{ p with closed:=false }
 | .move a=>{ p with place:=qadd p.place a,moved:=qadd p.moved (qabs a),off:=p.off.map fun o=>qadd o a }
 | .cut a=>{ p.turn a with cuts:=p.cuts++[(p.closing,p.groove)] }
structure LS where
 shop:List Int
 teeth:Int
 book:List Deed
def LS.ps (l:LS):PS:=l.book.foldl PS.after ps0
def LS.push (l:LS) (d:Deed):LS:={ l with book:=l.book++[d] }
theorem LS.ps_push (l:LS) (d:Deed):(l.push d).ps=l.ps.after d:=by unfold LS.ps LS.push;rw [List.foldl_append];rfl
def LS.back (l:LS):LS:={ l with book:=l.book.dropLast }
inductive Req where
 | mount (ts:List Int) | turn (t b:Int) | wait | close | opn | move (t b:Int) | cut (t b:Int)
def Req.deed:Req→Deed
 | .mount ts=>.mount ts
 | .turn t b=>.turn (red t b)
 | .wait=>.wait
 | .close=>.close
 | .opn=>.opn
 | .move t b=>.move (red t b)
 | .cut t b=>.cut (red t b)
def tooMuch (a b:Q2):Bool:=decide (100000 * (qadd a (qabs b)).2<(qadd a (qabs b)).1)
def Req.bad (p:PS):Req→Bool
 | .mount ts=>!(decide (ts.length=2∨ts.length=4) && decide ts.Nodup)
 | .turn t b=>decide (b<1) || decide (1000<b) || tooMuch p.turned (t,b)
 | .wait=>tooMuch p.turned p.ahead
 | .close=>false
 | .opn=>false
 | .move t b=>decide (b<1) || decide (1000<b) || tooMuch p.moved (t,b)
 | .cut t b=>decide (b<1) || decide (1000<b) || decide (t≤0) || tooMuch p.turned (t,b)
def Req.wrong (p:PS):Req→Bool
 | .mount _=>p.closed
 | .turn _ _=>false
 | .wait=>p.closed
 | .close=>p.closed
 | .opn=>!p.closed
 | .move _ _=>p.closed
 | .cut _ _=>!p.closed
def Req.known (l:LS):Req→Bool
 | .mount ts=>ts.all fun w=>decide (w∈l.shop)
 | _=>true
def Req.has (l:LS):Req→Bool
 | .mount _=>true
 | _=>l.ps.pitch.isSome
def Req.meets (l:LS):Req→Bool
 | .close=>(l.ps.off.getD (0,1)).2 == 1
 | _=>true
def due (l:LS) (q:Req):Option String :=
 if q.known l=false then some "UnknownWheel"
 else if q.has l=false then some "NoTrain"
 else if q.wrong l.ps=true then some "WrongNut"
 else if q.bad l.ps=true then some "BadNumber"
 else if q.meets l=false then some "NoMeeting"
 else if 100≤l.book.length then some "BookFull"
 else none
def Tups (H H':Hp):Prop:=∀ b xs,H b=some (.tup xs)→H' b=some (.tup xs)
theorem Same.tups {H H':Hp} (s:Same H H'):Tups H H':=fun b xs h=>s b _ h
def TupK (K:PySem.W.Frag) (H:Hp) (a:Addr) (xs:List V):Prop:=H a=some (.tup xs)∨SqT K (fun _=>none) a xs
theorem TupK.sq {K:PySem.W.Frag} {H:Hp} {a:Addr} {xs:List V} (h:TupK K H a xs):SqT K H a xs:=by
 rcases h with h | ((h | ⟨o,h⟩) | h)
 ·exact SqT.of h
 ·cases h
 ·cases h
 ·exact .inr h
theorem TupK.tups {K:PySem.W.Frag} {H H':Hp} {a:Addr} {xs:List V} (h:TupK K H a xs) (s:Tups H H'):TupK K H' a xs:=h.elim (fun h=>.inl (s _ _ h)) .inr
theorem TupK.mono {K:PySem.W.Frag} {H H':Hp} {a:Addr} {xs:List V} (h:TupK K H a xs) (s:Same H H'):TupK K H' a xs:=h.tups (Same.tups s)
def FrA (K:PySem.W.Frag) (H:Hp) (a:Addr) (x:Q2):Prop:=TupK K H a [.int x.1,.int x.2]
def FrO (K:PySem.W.Frag) (H:Hp) (v:V):Option Q2→Prop
 | none=>v = .non
 | some x=>∃ a,v = .ref a∧FrA K H a x
def InO (v:V):Option Int→Prop
 | none=>v = .non
 | some x=>v = .int x
def LS.shown (l:LS):Option Q2:=l.ps.off.map fun o=>red (o.1 % (l.teeth * o.2)) o.2
def LS.last (l:LS):Option Int:=l.ps.cuts.getLast?.map (·.2)
def StandA (K:PySem.W.Frag) (H:Hp) (r:Addr) (l:LS):Prop:=∃ c v g,H r=some (.tup [.ref c,v,g])∧FrA K H c l.ps.place∧FrO K H v l.shown∧InO g l.last
theorem FrA.sq {K:PySem.W.Frag} {H:Hp} {a:Addr} {x:Q2} (h:FrA K H a x):SqT K H a [.int x.1,.int x.2]:=TupK.sq h
theorem FrA.tups {K:PySem.W.Frag} {H H':Hp} {a:Addr} {x:Q2} (h:FrA K H a x) (s:Tups H H'):FrA K H' a x:=TupK.tups h s
theorem FrA.mono {K:PySem.W.Frag} {H H':Hp} {a:Addr} {x:Q2} (h:FrA K H a x) (s:Same H H'):FrA K H' a x:=TupK.mono h s
theorem FrO.tups {K:PySem.W.Frag} {H H':Hp} {v:V} {x:Option Q2} (h:FrO K H v x) (s:Tups H H'):FrO K H' v x:=by
 cases x with
 | none=>exact h
 | some x=>obtain ⟨a,e,h⟩:=h;exact ⟨a,e,h.tups s⟩
theorem StandA.tups {K:PySem.W.Frag} {H H':Hp} {r:Addr} {l:LS} (h:StandA K H r l) (s:Tups H H'):StandA K H' r l:=by
 obtain ⟨c,v,g,h1,h2,h3,h4⟩:=h
 exact ⟨c,v,g,s _ _ h1,h2.tups s,h3.tups s,h4⟩
structure Fit (F F':Addr→Prop) (H H':Hp):Prop where
 keep:∀ b o,H b=some o→¬ F b→H' b=some o
 foot:∀ b,F' b→F b∨H b=none
 tup:∀ b xs,H b=some (.tup xs)→H' b=some (.tup xs)
theorem Fit.refl (F:Addr→Prop) (H:Hp):Fit F F H H:=⟨fun _ _ h _=>h,fun _ h=>.inl h,fun _ _ h=>h⟩
theorem Fit.trans {F F1 F2:Addr→Prop} {H H1 H2:Hp} (a:Fit F F1 H H1) (b:Fit F1 F2 H1 H2):Fit F F2 H H2 where
 keep:=fun c o h n=>b.keep c o (a.keep c o h n) fun z=>(a.foot c z).elim n fun e=>by rw [e] at h;cases h
 foot:=fun c z=>(b.foot c z).elim (a.foot c) fun e=>by
  cases q:H c with
  | none=>exact .inr rfl
  | some o =>
   by_cases m:F c
   ·exact .inl m
   ·rw [a.keep c o q m] at e;cases e
 tup:=fun c xs h=>b.tup c xs (a.tup c xs h)
theorem Fit.of_same {F:Addr→Prop} {H H':Hp} (s:Same H H'):Fit F F H H':=⟨fun b o h _=>s b o h,fun _ h=>.inl h,fun b xs h=>s b _ h⟩
theorem Fit.out {F F':Addr→Prop} {H H':Hp} (a:Fit F F' H H') {b:Addr} {o:HO} (h:H b=some o) (n:¬ F b):¬ F' b:=fun z=>(a.foot b z).elim n fun e=>by rw [e] at h;cases h
end My
namespace My
open PySem L2 Mt
structure GoodShop (ws:List Int) (n:Int):Prop where
 l2:2≤ws.length
 l12:ws.length≤12
 shop:Shop ws
 n2:2≤n
 n64:n≤64
theorem good_mount {l:LS} {ts:List Int} (h1:∀ v∈ts,v∈l.shop) (h2:l.ps.closed=false) (h3:ts.length=2∨ts.length=4) (h4:ts.Nodup) (h5:l.book.length<100):due l (.mount ts)=none:=by
 have e1:(ts.all fun w=>decide (w∈l.shop))=true:=by rw [List.all_eq_true];exact fun v hv=>decide_eq_true (h1 v hv)
 have e2:(!(decide (ts.length=2∨ts.length=4) && decide ts.Nodup))=false:=by rw [decide_eq_true h3,decide_eq_true h4];rfl
 unfold due
 simp only [Req.known,Req.has,Req.meets,e1,Req.wrong,Req.bad,h2,e2]
 simp
 omega
theorem good_close {l:LS} (h1:l.ps.pitch.isSome=true) (h2:l.ps.closed=false) (h3:(l.ps.off.getD (0,1)).2=1) (h5:l.book.length<100):due l .close=none:=by
 unfold due
 simp only [Req.known,Req.has,Req.meets,h1,Req.wrong,Req.bad,h2,h3]
 simp
 omega
end My
namespace My
open PySem L2 Mt
theorem Train.rat {ts:List Int} (h:Train ts):Rat2 (ratT ts) (ratB ts):=by
 obtain ⟨b1,b2,b3,b4⟩:=h.in
 exact ⟨by omega,by omega,by omega,by omega⟩
theorem Train.pl {ts:List Int} (h:Train ts):Pl (ratT ts) (ratB ts) (ratio ts).1 (ratio ts).2:=h.rat.pl
theorem Train.bd {ts:List Int} (h:Train ts):∀ v∈ts,Bd 200 v:=fun v hv=>by
 have h1:=h.lo v hv
 have h2:=h.hi v hv
 exact (bd20 (by omega) (by omega)).mono (by decide)
theorem Shop.bd {ts:List Int} (h:Shop ts):∀ v∈ts,Bd 200 v:=fun v hv=>by
 have h1:=h.lo v hv
 have h2:=h.hi v hv
 exact (bd20 (by omega) (by omega)).mono (by decide)
theorem Train.len2 {ts:List Int} (h:Train ts):ts.length≤4:=by have:=h.len;omega
theorem Fit.made {F:Addr→Prop} {H H':Hp} {x dx:Addr} {o o':HO} (nx:H x=none) (nd:H dx=none) (k:∀ b u,upd (upd H dx o) x o' b=some u→b≠x→H' b=some u) (f:∀ b,F b→b=x∨b=dx∨upd (upd H dx o) x o' b=none):Fit (fun _=>False) F H H' where
 keep:=fun b u e _=>by
  have n1:=ne_of_none e nx
  have n2:=ne_of_none e nd
  exact k b u (by rw [upd_ne n1,upd_ne n2];exact e) n1
 foot:=fun b z=>.inr (by
  rcases f b z with e | e | e
  ·rw [e];exact nx
  ·rw [e];exact nd
  ·by_cases n1:b=x
   ·rw [n1];exact nx
   ·by_cases n2:b=dx
    ·rw [n2];exact nd
    ·rw [upd_ne n1,upd_ne n2] at e;exact e)
 tup:=fun b xs e=>by
  have n1:=ne_of_none e nx
  have n2:=ne_of_none e nd
  exact k b _ (by rw [upd_ne n1,upd_ne n2];exact e) n1
theorem Fit.lst {K:PySem.W.Frag} {F F':Addr→Prop} {H H':Hp} {a:Addr} {xs:List V} (f:Fit F F' H H') (h:SqL K H a xs) (n:¬ F a):SqL K H' a xs:=by
 rcases h with (h | ⟨o,h⟩) | h
 ·exact .inl (.inl (f.keep _ _ h n))
 ·exact .inl (.inr ⟨o,f.keep _ _ h n⟩)
 ·exact .inr h
end My
namespace My
open PySem L2 Mt
def Ob (F:Addr→Prop) (H:Hp) (p:Addr) (o:HO):Prop:=H p=some o∧¬ F p
end My
namespace My
open PySem L2 Mt
def qv (a:Q2):Rat:=(a.1:Rat) / (a.2:Rat)
structure Ok2 (a:Q2):Prop where
 pos:1≤a.2
 co:Int.gcd a.1 a.2=1
theorem Ok2.ne {a:Q2} (h:Ok2 a):a.2≠0:=by have:=h.pos;omega
theorem Ok2.nz {a:Q2} (h:Ok2 a):(a.2:Rat)≠0:=by have:=h.ne;exact_mod_cast this
theorem Ok2.gt {a:Q2} (h:Ok2 a):(0:Rat)<(a.2:Rat):=by have:=h.pos;exact_mod_cast (show (0:Int)<a.2 by omega)
theorem red_ok {t b:Int} (h:b≠0):Ok2 (red t b):=⟨(lt_is h).pos,(lt_is h).co⟩
theorem qv_red {t b:Int} (h:b≠0):qv (red t b)=(t:Rat) / (b:Rat):=by
 have e:((red t b).1:Rat) * b=t * ((red t b).2:Rat):=by have:=(lt_is (t:=t) h).eq;exact_mod_cast this
 have n1:=(red_ok (t:=t) h).nz
 have n2:(b:Rat)≠0:=by exact_mod_cast h
 unfold qv
 grind
theorem qv_inj {a b:Q2} (ha:Ok2 a) (hb:Ok2 b) (h:qv a=qv b):a=b:=by
 have n1:=ha.nz
 have n2:=hb.nz
 have e:(a.1:Rat) * b.2=b.1 * a.2:=by unfold qv at h;grind
 have e:a.1 * b.2=b.1 * a.2:=by exact_mod_cast e
 have d1:a.2 ∣ b.2:=by
  have:a.2 ∣ b.2 * a.1:=⟨b.1,by rw [Int.mul_comm];rw [e];exact Int.mul_comm _ _⟩
  exact cop_dvd (by rw [Int.gcd_comm];exact ha.co) this
 have d2:b.2 ∣ a.2:=by
  have:b.2 ∣ a.2 * b.1:=⟨a.1,by rw [Int.mul_comm a.2];rw [← e];exact Int.mul_comm _ _⟩
  exact cop_dvd (by rw [Int.gcd_comm];exact hb.co) this
 have p1:=ha.pos
 have p2:=hb.pos
 have e2:a.2=b.2:=Int.le_antisymm (Int.le_of_dvd (by omega) d1) (Int.le_of_dvd (by omega) d2)
 rw [e2] at e
 have e1:a.1=b.1:=Int.eq_of_mul_eq_mul_right (by omega) e
 exact Prod.ext e1 e2
theorem red_self {a:Q2} (h:Ok2 a):red a.1 a.2=a:=qv_inj (red_ok h.ne) h (qv_red h.ne)
theorem qadd_ok {a b:Q2} (ha:a.2≠0) (hb:b.2≠0):Ok2 (qadd a b):=red_ok (Int.mul_ne_zero ha hb)
theorem qmul_ok {a b:Q2} (ha:a.2≠0) (hb:b.2≠0):Ok2 (qmul a b):=red_ok (Int.mul_ne_zero ha hb)
theorem qv_add {a b:Q2} (ha:a.2≠0) (hb:b.2≠0):qv (qadd a b)=qv a + qv b:=by
 unfold qadd
 rw [qv_red (Int.mul_ne_zero ha hb)]
 have n1:(a.2:Rat)≠0:=by exact_mod_cast ha
 have n2:(b.2:Rat)≠0:=by exact_mod_cast hb
 unfold qv
 rw [Rat.intCast_add,Rat.intCast_mul,Rat.intCast_mul,Rat.intCast_mul]
 grind
theorem qv_mul {a b:Q2} (ha:a.2≠0) (hb:b.2≠0):qv (qmul a b)=qv a * qv b:=by
 unfold qmul
 rw [qv_red (Int.mul_ne_zero ha hb)]
 have n1:(a.2:Rat)≠0:=by exact_mod_cast ha
 have n2:(b.2:Rat)≠0:=by exact_mod_cast hb
 unfold qv
 rw [Rat.intCast_mul,Rat.intCast_mul]
 grind
theorem qv_neg (a:Q2):qv (qneg a) = - qv a:=by
 unfold qv qneg
 rw [Rat.intCast_neg]
 grind
def rabs (x:Rat):Rat:=if x<0 then -x else x
theorem qabs_ok {a:Q2} (h:Ok2 a):Ok2 (qabs a):=by
 refine ⟨h.pos,?_⟩
 unfold qabs
 dsimp only
 split
 ·rw [Int.neg_gcd];exact h.co
 ·exact h.co
theorem qneg_ok {a:Q2} (h:Ok2 a):Ok2 (qneg a):=⟨h.pos,by show Int.gcd (-a.1) a.2=1;rw [Int.neg_gcd];exact h.co⟩
theorem qv_pos {a:Q2} (h:0<a.2):(qv a<0) ↔ a.1<0:=by
 have g:(0:Rat)<(a.2:Rat):=by exact_mod_cast h
 unfold qv
 constructor
 ·intro z
  have h2:(a.1:Rat) / a.2 * a.2<0 * a.2:=Rat.mul_lt_mul_of_pos_right z g
  have h3:(a.1:Rat) / a.2 * a.2=a.1:=by grind
  rw [h3,Rat.zero_mul] at h2
  exact_mod_cast h2
 ·intro z
  have z':(a.1:Rat)<0:=by exact_mod_cast z
  have i:(0:Rat)<(a.2:Rat)⁻¹:=Rat.inv_pos.mpr g
  have:=Rat.mul_lt_mul_of_pos_right z' i
  rw [Rat.zero_mul] at this
  rw [Rat.div_def];exact this
theorem qv_abs {a:Q2} (h:0<a.2):qv (qabs a)=rabs (qv a):=by
 unfold rabs
 by_cases z:a.1<0
 ·rw [if_pos ((qv_pos h).mpr z)]
  have:qabs a=qneg a:=by unfold qabs qneg;rw [if_pos z]
  rw [this,qv_neg]
 ·rw [if_neg (fun q=>z ((qv_pos h).mp q))]
  have:qabs a=a:=by unfold qabs;rw [if_neg z]
  rw [this]
theorem qv_le {a:Q2} {m:Int} (h:0<a.2):qv a≤(m:Rat) ↔ a.1≤m * a.2:=by
 have g:(0:Rat)<(a.2:Rat):=by exact_mod_cast h
 have h3:(a.1:Rat) / a.2 * a.2=a.1:=by grind
 unfold qv
 constructor
 ·intro z
  have h2:(a.1:Rat) / a.2 * a.2≤m * a.2:=Rat.mul_le_mul_of_nonneg_right z (by grind)
  rw [h3] at h2
  exact_mod_cast h2
 ·intro z
  have z':(a.1:Rat)≤m * a.2:=by exact_mod_cast z
  have i:(0:Rat)<(a.2:Rat)⁻¹:=Rat.inv_pos.mpr g
  have:=Rat.mul_le_mul_of_nonneg_right z' (Rat.le_of_lt i)
  have e:(m:Rat) * a.2 * (a.2:Rat)⁻¹=m:=by grind
  rw [e] at this
  rw [Rat.div_def];exact this
theorem rabs_add (x y:Rat):rabs (x + y)≤rabs x + rabs y:=by unfold rabs;split <;> split <;> split <;> grind
theorem rabs_nn (x:Rat):0≤rabs x:=by unfold rabs;split <;> grind
theorem rabs_neg (x:Rat):rabs (-x)=rabs x:=by unfold rabs;split <;> split <;> grind
theorem rabs_mul {r x:Rat} (h:0≤r):rabs (r * x)≤r * rabs x:=by
 unfold rabs
 by_cases z:x<0
 ·rw [if_pos z]
  have:r * x≤0:=by
   have:=Rat.mul_le_mul_of_nonneg_left (Rat.le_of_lt z) h
   grind
  split <;> grind
 ·rw [if_neg z]
  have:0≤r * x:=Rat.mul_nonneg h (by grind)
  split <;> grind
def Wh (x:Rat):Prop:=∃ z:Int,x=(z:Rat)
theorem Wh.add {x y:Rat} (h:Wh x) (g:Wh y):Wh (x + y):=by
 obtain ⟨a,rfl⟩:=h
 obtain ⟨b,rfl⟩:=g
 exact ⟨a + b,(Rat.intCast_add a b).symm⟩
theorem Wh.mul {x y:Rat} (h:Wh x) (g:Wh y):Wh (x * y):=by
 obtain ⟨a,rfl⟩:=h
 obtain ⟨b,rfl⟩:=g
 exact ⟨a * b,(Rat.intCast_mul a b).symm⟩
theorem Wh.neg {x:Rat} (h:Wh x):Wh (-x):=by
 obtain ⟨a,rfl⟩:=h
 exact ⟨-a,(Rat.intCast_neg a).symm⟩
theorem Wh.int (z:Int):Wh (z:Rat):=⟨z,rfl⟩
theorem den_dvd {a:Q2} {D:Int} (h:Ok2 a) (g:Wh (qv a * (D:Rat))):a.2 ∣ D:=by
 obtain ⟨z,e⟩:=g
 have n:=h.nz
 have e1:(a.1:Rat) * D=z * a.2:=by unfold qv at e;grind
 have e2:a.1 * D=z * a.2:=by exact_mod_cast e1
 have:a.2 ∣ D * a.1:=⟨z,by rw [Int.mul_comm,e2,Int.mul_comm]⟩
 exact cop_dvd (by rw [Int.gcd_comm];exact h.co) this
theorem den_bd {a:Q2} {D:Int} {k:Nat} (h:Ok2 a) (g:Wh (qv a * (D:Rat))) (d:0<D) (b:Bd k D):Bd k a.2:=by
 have:=Int.le_of_dvd d (den_dvd h g)
 have:=h.pos
 exact b.le (by omega)
theorem num_bd {a:Q2} {D m:Int} {k:Nat} (h:Ok2 a) (g:Wh (qv a * (D:Rat))) (d:0<D) (m0:0≤m) (l:rabs (qv a)≤(m:Rat)) (b:Bd k (m * D)):Bd k a.1:=by
 have h1:=Int.le_of_dvd d (den_dvd h g)
 have h2:=h.pos
 rw [← qv_abs (by omega)] at l
 have h3:=(qv_le (show 0<(qabs a).2 from by show 0<a.2;omega)).mp l
 have h4:m * a.2≤m * D:=Int.mul_le_mul_of_nonneg_left h1 m0
 have h5:(qabs a).1≤m * D:=Int.le_trans h3 h4
 refine b.le ?_
 have h6:(qabs a).1=(a.1.natAbs:Int):=by unfold qabs;dsimp only;split <;> omega
 omega
end My
namespace My
open PySem L2 Mt
def lcmTo:Nat→Nat
 | 0=>1
 | n + 1=>Nat.lcm (lcmTo n) (n + 1)
theorem lcmTo_dvd:∀ {n b:Nat},1≤b→b≤n→b ∣ lcmTo n
 | 0,b,h1,h2=>by omega
 | n + 1,b,h1,h2=>by
  unfold lcmTo
  by_cases e:b=n + 1
  ·rw [e];exact Nat.dvd_lcm_right _ _
  ·exact Nat.dvd_trans (lcmTo_dvd h1 (by omega)) (Nat.dvd_lcm_left _ _)
def LL:Int:=(lcmTo 1000:Nat)
theorem LL_bd:Bd 1500 LL:=by
 have h:lcmTo 1000<2 ^ 1500:=by decide +kernel
 unfold Bd LL
 exact h
theorem LL_pos:0<LL:=by
 have h:0<lcmTo 1000:=by decide +kernel
 unfold LL
 omega
theorem dvd_LL {b:Int} (h1:1≤b) (h2:b≤1000):b ∣ LL:=by
 have:=lcmTo_dvd (n:=1000) (b:=b.toNat) (by omega) (by omega)
 have h:=Int.natCast_dvd_natCast.mpr this
 rw [Int.toNat_of_nonneg (by omega)] at h
 exact h
theorem whole_LL {t b:Int} (h1:1≤b) (h2:b≤1000):Wh (qv (red t b) * (LL:Rat)):=by
 obtain ⟨k,hk⟩:=dvd_LL h1 h2
 rw [qv_red (by omega)]
 have n:(b:Rat)≠0:=by exact_mod_cast (show b≠0 by omega)
 refine ⟨t * k,?_⟩
 rw [hk,Rat.intCast_mul,Rat.intCast_mul]
 grind
theorem qv_zero:qv (0,1)=0:=by unfold qv;simp;grind
theorem ok_zero:Ok2 (0,1):=⟨by decide,by decide⟩
structure Pc (p:PS) (ts:List Int):Prop where
 tr:Train ts
 nd:ts.Nodup
 et:p.train=ts
 ep:p.pitch=some (ratio ts)
 w:Ok2 p.work
 pl:Ok2 p.place
 t:Ok2 p.turned
 m:Ok2 p.moved
 o:∀ x,p.off=some x→Ok2 x
 dw:Wh (qv p.work * ((LL * (ratio ts).1:Int):Rat))
 dt:Wh (qv p.turned * ((LL * (ratio ts).1:Int):Rat))
 dp:Wh (qv p.place * ((LL * (ratio ts).2:Int):Rat))
 dm:Wh (qv p.moved * (LL:Rat))
 dx:∀ x,p.off=some x→Wh (qv x * ((LL * (ratio ts).2:Int):Rat))
 lw:rabs (qv p.work)≤qv p.turned
 t0:0≤qv p.turned
 t1:qv p.turned≤100000
 m0:0≤qv p.moved
 m1:qv p.moved≤100000
 lp:rabs (qv p.place)≤qv p.moved + qv (ratio ts) * qv p.turned
 lo:∀ x,p.off=some x→rabs (qv x)≤qv p.moved + qv (ratio ts) * qv p.turned
 cl:p.closed=true→∃ k:Int,p.off=some (k,1)
 cu:∀ c∈p.cuts,c.2=c.1 * (ratio ts).2 % (ratio ts).1∧Bd 64 c.1
theorem Train.rok {ts:List Int} (h:Train ts):Ok2 (ratio ts):=⟨h.pl.q1,h.pl.co⟩
theorem Train.rpos {ts:List Int} (h:Train ts):0≤qv (ratio ts):=by
 have g:=h.rok.gt
 have p:(0:Rat)≤((ratio ts).1:Rat):=by have:=h.pl.p1;exact_mod_cast (show (0:Int)≤(ratio ts).1 by omega)
 have i:(0:Rat)<((ratio ts).2:Rat)⁻¹:=Rat.inv_pos.mpr g
 unfold qv
 rw [Rat.div_def]
 exact Rat.mul_nonneg p (Rat.le_of_lt i)
theorem Train.rle {ts:List Int} (h:Train ts):qv (ratio ts)≤20000:=by
 have:=(qv_le (a:=ratio ts) (m:=20000) (by have:=h.pl.q1;omega)).mpr (by
  have h1:=h.pl.p2
  have h2:=h.pl.q1
  have:(20000:Int) * 1≤20000 * (ratio ts).2:=Int.mul_le_mul_of_nonneg_left h2 (by decide)
  omega)
 exact_mod_cast this
theorem Pc.new {ts:List Int} (h:Train ts) (nd:ts.Nodup):Pc { ps0 with train:=ts,pitch:=some (ratio ts) } ts:=by
 have z0:rabs (qv (0,1))=0:=by rw [qv_zero];unfold rabs;simp
 have wz:∀ d:Rat,Wh (qv (0,1) * d):=fun d=>⟨0,by rw [qv_zero];simp⟩
 refine ⟨h,nd,rfl,rfl,ok_zero,ok_zero,ok_zero,ok_zero,(fun _ z=>by cases z),wz _,wz _,wz _,wz _,(fun _ z=>by cases z),?_,?_,?_,?_,?_,?_,(fun _ z=>by cases z),(fun z=>by cases z),(fun _ z=>by cases z)⟩
 all_goals (show _≤_)
 ·show rabs (qv (0,1))≤qv (0,1);rw [z0,qv_zero];grind
 ·show 0≤qv (0,1);rw [qv_zero];grind
 ·show qv (0,1)≤100000;rw [qv_zero];grind
 ·show 0≤qv (0,1);rw [qv_zero];grind
 ·show qv (0,1)≤100000;rw [qv_zero];grind
 ·show rabs (qv (0,1))≤qv (0,1) + qv (ratio ts) * qv (0,1);rw [z0,qv_zero];grind
theorem Pc.turn {p:PS} {ts:List Int} {a:Q2} (h:Pc p ts) (ha:Ok2 a) (d1:Wh (qv a * ((LL * (ratio ts).1:Int):Rat))) (d2:Wh (qv (ratio ts) * qv a * ((LL * (ratio ts).2:Int):Rat))) (l:qv p.turned + rabs (qv a)≤100000):Pc (p.turn a) ts:=by
 have hr:p.r=ratio ts:=by unfold PS.r;rw [h.ep];rfl
 have ro:=h.tr.rok
 have rp:=h.tr.rpos
 have pa:0<a.2:=by have:=ha.pos;omega
 have qa:=qabs_ok ha
 have ma:=rabs_mul (x:=qv a) rp
 have na:=rabs_nn (qv a)
 have mo:=qmul_ok (b:=a) ro.ne ha.ne
 have eW:qv (p.turn a).work=qv p.work + qv a:=qv_add h.w.ne ha.ne
 have eT:qv (p.turn a).turned=qv p.turned + rabs (qv a):=by
  show qv (qadd p.turned (qabs a))=_
  rw [qv_add h.t.ne qa.ne,qv_abs pa]
 have hmul:qv (ratio ts) * (qv p.turned + rabs (qv a))=qv (ratio ts) * qv p.turned + qv (ratio ts) * rabs (qv a):=by grind
 have nra:0≤qv (ratio ts) * rabs (qv a):=Rat.mul_nonneg rp na
 have eM:qv (p.turn a).moved=qv p.moved:=rfl
 have offc:∀ x,(p.turn a).off=some x→(p.off=some x)∨(∃ o,p.off=some o∧x=qadd o (qneg (qmul (ratio ts) a))):=fun x e=>by
  unfold PS.turn at e
  dsimp only at e
  cases hc:p.closed with
  | true=>rw [hc,if_pos rfl] at e;exact .inl e
  | false =>
   rw [hc,if_neg Bool.false_ne_true,hr] at e
   cases ho:p.off with
   | none=>rw [ho] at e;cases e
   | some o=>rw [ho] at e;cases e;exact .inr ⟨o,rfl,rfl⟩
 have plc:((p.turn a).place=p.place)∨(p.turn a).place=qadd p.place (qmul (ratio ts) a):=by
  unfold PS.turn
  dsimp only
  rw [hr]
  split
  ·exact .inr rfl
  ·exact .inl rfl
 refine ⟨h.tr,h.nd,h.et,h.ep,qadd_ok h.w.ne ha.ne,?_,qadd_ok h.t.ne qa.ne,h.m,?_,?_,?_,?_,h.dm,?_,?_,?_,?_,h.m0,h.m1,?_,?_,?_,h.cu⟩
 ·rcases plc with e | e <;> rw [e]
  ·exact h.pl
  ·exact qadd_ok h.pl.ne mo.ne
 ·intro x e
  rcases offc x e with e | ⟨o,ho,rfl⟩
  ·exact h.o x e
  ·exact qadd_ok (h.o o ho).ne (qneg_ok mo).ne
 ·rw [eW,Rat.add_mul];exact h.dw.add d1
 ·rw [eT,Rat.add_mul]
  refine h.dt.add ?_
  unfold rabs
  split
  ·have:=d1.neg
   rw [← Rat.neg_mul] at this
   exact this
  ·exact d1
 ·rcases plc with e | e <;> rw [e]
  ·exact h.dp
  ·rw [qv_add h.pl.ne mo.ne,Rat.add_mul,qv_mul ro.ne ha.ne];exact h.dp.add d2
 ·intro x e
  rcases offc x e with e | ⟨o,ho,rfl⟩
  ·exact h.dx x e
  ·rw [qv_add (h.o o ho).ne (qneg_ok mo).ne,Rat.add_mul,qv_neg,qv_mul ro.ne ha.ne,Rat.neg_mul]
   exact (h.dx o ho).add d2.neg
 ·rw [eW,eT]
  have:=rabs_add (qv p.work) (qv a)
  have:=h.lw
  grind
 ·rw [eT];have:=h.t0;grind
 ·rw [eT];exact l
 ·rw [eT,eM,hmul]
  have h0:=h.lp
  rcases plc with e | e <;> rw [e]
  ·grind
  ·rw [qv_add h.pl.ne mo.ne,qv_mul ro.ne ha.ne]
   have:=rabs_add (qv p.place) (qv (ratio ts) * qv a)
   grind
 ·intro x e
  rw [eT,eM,hmul]
  rcases offc x e with e | ⟨o,ho,rfl⟩
  ·have h0:=h.lo x e
   grind
  ·have h0:=h.lo o ho
   rw [qv_add (h.o o ho).ne (qneg_ok mo).ne,qv_neg,qv_mul ro.ne ha.ne]
   have:=rabs_add (qv o) (-(qv (ratio ts) * qv a))
   rw [rabs_neg] at this
   grind
 ·intro z
  have z':p.closed=true:=z
  obtain ⟨k,e⟩:=h.cl z'
  refine ⟨k,?_⟩
  unfold PS.turn
  dsimp only
  rw [z',if_pos rfl]
  exact e
end My
namespace My
open PySem L2 Mt
theorem wh_small {ts:List Int} {a:Q2} (d:Wh (qv a * (LL:Rat))) (ro:Ok2 (ratio ts)):Wh (qv a * ((LL * (ratio ts).1:Int):Rat))∧Wh (qv (ratio ts) * qv a * ((LL * (ratio ts).2:Int):Rat)):=by
 have n:=ro.nz
 refine ⟨?_,?_⟩
 ·rw [Rat.intCast_mul,← Rat.mul_assoc];exact d.mul (Wh.int _)
 ·have e:qv (ratio ts) * qv a * ((LL * (ratio ts).2:Int):Rat)=qv a * (LL:Rat) * ((ratio ts).1:Rat):=by
   rw [Rat.intCast_mul]
   have:qv (ratio ts)=((ratio ts).1:Rat) / ((ratio ts).2:Rat):=rfl
   rw [this]
   grind
  rw [e];exact d.mul (Wh.int _)
theorem c5:((100000:Int):Rat)=100000:=rfl
theorem tooMuch_no {x:Q2} {t b:Int} (hx:Ok2 x) (hb:1≤b) (h:tooMuch x (t,b)=false):qv x + rabs (qv (red t b))≤100000:=by
 unfold tooMuch at h
 have h:=of_decide_eq_false h
 have hn:(qabs (t,b)).2≠0:=by show b≠0;omega
 have ok:=qadd_ok (a:=x) (b:=qabs (t,b)) hx.ne hn
 have le:=(qv_le (a:=qadd x (qabs (t,b))) (m:=100000) (by have:=ok.pos;omega)).mpr (by omega)
 rw [qv_add hx.ne hn,qv_abs (show 0<b by omega),c5] at le
 rw [qv_red (by omega)]
 exact le
theorem tooMuch_yes {x:Q2} {t b:Int} (hx:Ok2 x) (hb:1≤b) (h:qv x + rabs (qv (red t b))≤100000):tooMuch x (t,b)=false:=by
 unfold tooMuch
 refine decide_eq_false ?_
 have hn:(qabs (t,b)).2≠0:=by show b≠0;omega
 have ok:=qadd_ok (a:=x) (b:=qabs (t,b)) hx.ne hn
 have e:qv (t,b)=qv (red t b):=by rw [qv_red (by omega)];rfl
 have le:qv (qadd x (qabs (t,b)))≤((100000:Int):Rat):=by
  rw [qv_add hx.ne hn,qv_abs (show 0<b by omega),e,c5]
  exact h
 have:=(qv_le (a:=qadd x (qabs (t,b))) (m:=100000) (by have:=ok.pos;omega)).mp le
 omega
theorem ahead_is {p:PS} {ts:List Int} (h:Pc p ts):Ok2 p.ahead∧0≤qv p.ahead∧(p.off=none→p.ahead=(0,1))∧∀ o,p.off=some o→∃ k:Int,qv (ratio ts) * qv p.ahead=qv o - ((ratio ts).1 * k:Int)∧k=o.1 / (o.2 * (ratio ts).1):=by
 have hr:p.r=ratio ts:=by unfold PS.r;rw [h.ep];rfl
 have L:=h.tr.pl
 have p1:=L.p1
 have q1:=L.q1
 cases ho:p.off with
 | none =>
  have e:p.ahead=(0,1):=by unfold PS.ahead;rw [ho]
  rw [e]
  exact ⟨ok_zero,by rw [qv_zero];grind,fun _=>rfl,fun _ z=>by cases z⟩
 | some o =>
  have oo:=h.o o ho
  have o2:=oo.pos
  have D:0<o.2 * (ratio ts).1:=Int.mul_pos (by omega) (by omega)
  have e:p.ahead=red (o.1 % (o.2 * (ratio ts).1) * (ratio ts).2) (o.2 * (ratio ts).1):=by unfold PS.ahead;rw [ho,hr]
  have r0:=Int.emod_nonneg o.1 (Int.ne_of_gt D)
  have dv:=Int.emod_add_mul_ediv o.1 (o.2 * (ratio ts).1)
  have va:qv p.ahead=((o.1 % (o.2 * (ratio ts).1) * (ratio ts).2:Int):Rat) / ((o.2 * (ratio ts).1:Int):Rat):=by rw [e,qv_red (Int.ne_of_gt D)]
  refine ⟨by rw [e];exact red_ok (Int.ne_of_gt D),?_,(fun z=>by cases z),fun o' z=>?_⟩
  ·rw [va,Rat.div_def]
   have n1:(0:Rat)≤((o.1 % (o.2 * (ratio ts).1) * (ratio ts).2:Int):Rat):=by exact_mod_cast Int.mul_nonneg r0 (show 0≤(ratio ts).2 by omega)
   have n2:(0:Rat)<((o.2 * (ratio ts).1:Int):Rat)⁻¹:=Rat.inv_pos.mpr (by exact_mod_cast D)
   exact Rat.mul_nonneg n1 (Rat.le_of_lt n2)
  ·cases z
   refine ⟨o.1 / (o.2 * (ratio ts).1),?_,rfl⟩
   rw [va]
   have hq:qv (ratio ts)=((ratio ts).1:Rat) / ((ratio ts).2:Rat):=rfl
   have ho':qv o=(o.1:Rat) / (o.2:Rat):=rfl
   have n1:((ratio ts).1:Rat)≠0:=by exact_mod_cast (show (ratio ts).1≠0 by omega)
   have n2:((ratio ts).2:Rat)≠0:=by exact_mod_cast (show (ratio ts).2≠0 by omega)
   have n3:(o.2:Rat)≠0:=oo.nz
   have dv':((o.1 % (o.2 * (ratio ts).1):Int):Rat)=(o.1:Rat) - (o.2:Rat) * ((ratio ts).1:Rat) * ((o.1 / (o.2 * (ratio ts).1):Int):Rat):=by
    have:o.1 % (o.2 * (ratio ts).1)=o.1 - o.2 * (ratio ts).1 * (o.1 / (o.2 * (ratio ts).1)):=by omega
    rw [this,Rat.intCast_sub,Rat.intCast_mul,Rat.intCast_mul]
   rw [hq,ho',Rat.intCast_mul,Rat.intCast_mul,Rat.intCast_mul,dv']
   generalize ((o.1 / (o.2 * (ratio ts).1):Int):Rat)=k at *
   grind
theorem ahead_wh {p:PS} {ts:List Int} (h:Pc p ts):Wh (qv p.ahead * ((LL * (ratio ts).1:Int):Rat))∧Wh (qv (ratio ts) * qv p.ahead * ((LL * (ratio ts).2:Int):Rat)):=by
 obtain ⟨_,_,h0,h1⟩:=ahead_is h
 cases ho:p.off with
 | none =>
  rw [h0 ho,qv_zero]
  exact ⟨⟨0,by simp⟩,⟨0,by simp⟩⟩
 | some o =>
  obtain ⟨k,e,_⟩:=h1 o ho
  have w:=h.dx o ho
  have both:Wh (qv (ratio ts) * qv p.ahead * ((LL * (ratio ts).2:Int):Rat)):=by
   rw [e,Rat.sub_eq_add_neg,Rat.add_mul]
   exact w.add ((Wh.int _).neg.mul (Wh.int _))
  refine ⟨?_,both⟩
  have n2:=h.tr.rok.nz
  have e2:qv p.ahead * ((LL * (ratio ts).1:Int):Rat)=qv (ratio ts) * qv p.ahead * ((LL * (ratio ts).2:Int):Rat):=by
   have hq:qv (ratio ts)=((ratio ts).1:Rat) / ((ratio ts).2:Rat):=rfl
   rw [hq,Rat.intCast_mul,Rat.intCast_mul]
   grind
  rw [e2];exact both
end My
namespace My
open PySem L2 Mt
inductive Reach:LS→Prop where
 | new {ws:List Int} {n:Int} (g:GoodShop ws n):Reach ⟨ws,n,[]⟩
 | step {l:LS} {q:Req} (h:Reach l) (d:due l q=none):Reach (l.push q.deed)
structure Due (l:LS) (q:Req):Prop where
 kn:∀ ts,q = .mount ts→∀ w∈ts,w∈l.shop
 tr:(∀ ts,q≠.mount ts)→l.ps.pitch.isSome=true
 nut:q.wrong l.ps=false
 ok:q.bad l.ps=false
 meet:q = .close→(l.ps.off.getD (0,1)).2=1
 room:l.book.length<100
theorem due_none {l:LS} {q:Req} (h:due l q=none):Due l q:=by
 unfold due at h
 cases h1:q.known l with
 | false=>rw [if_pos h1] at h;cases h
 | true =>
 rw [if_neg (by rw [h1];decide)] at h
 cases h2:q.has l with
 | false=>rw [if_pos h2] at h;cases h
 | true =>
 rw [if_neg (by rw [h2];decide)] at h
 cases h3:q.wrong l.ps with
 | true=>rw [if_pos h3] at h;cases h
 | false =>
 rw [if_neg (by rw [h3];decide)] at h
 cases h4:q.bad l.ps with
 | true=>rw [if_pos h4] at h;cases h
 | false =>
 rw [if_neg (by rw [h4];decide)] at h
 cases h5:q.meets l with
 | false=>rw [if_pos h5] at h;cases h
 | true =>
 rw [if_neg (by rw [h5];decide)] at h
 by_cases h6:100≤l.book.length
 ·rw [if_pos h6] at h;cases h
 refine ⟨fun ts e=>?_,fun e=>?_,h3,h4,fun e=>?_,by omega⟩
 ·subst e
  exact fun w hw=>of_decide_eq_true (List.all_eq_true.mp (show (ts.all fun w=>decide (w∈l.shop))=true from h1) w hw)
 ·cases q with
  | mount ts=>exact absurd rfl (e ts)
  | _=>exact h2
 ·subst e
  exact eq_of_beq (show ((l.ps.off.getD (0,1)).2 == 1)=true from h5)
theorem Pc.amount {p:PS} {ts:List Int} {t b:Int} (h:Pc p ts) (h1:1≤b) (h2:b≤1000) (l:tooMuch p.turned (t,b)=false):Pc (p.turn (red t b)) ts:=by
 have w:=wh_small (ts:=ts) (whole_LL (t:=t) h1 h2) h.tr.rok
 exact h.turn (red_ok (by omega)) w.1 w.2 (tooMuch_no h.t h1 l)
theorem Pc.wait {p:PS} {ts:List Int} (h:Pc p ts) (l:tooMuch p.turned p.ahead=false):Pc (p.turn p.ahead) ts:=by
 have a:=ahead_is h
 have w:=ahead_wh h
 have l':=tooMuch_no (t:=p.ahead.1) (b:=p.ahead.2) h.t a.1.pos l
 rw [red_self a.1] at l'
 exact h.turn a.1 w.1 w.2 l'
theorem Pc.offBd {p:PS} {ts:List Int} (h:Pc p ts) {x:Q2} (hx:p.off=some x):rabs (qv x)≤((2000100000:Int):Rat):=by
 have h1:=h.lo x hx
 have h2:=h.tr.rle
 have h3:=h.t1
 have h4:=h.t0
 have h5:=h.m1
 have h6:qv (ratio ts) * qv p.turned≤20000 * qv p.turned:=Rat.mul_le_mul_of_nonneg_right h2 h4
 have e:((2000100000:Int):Rat)=2000100000:=rfl
 rw [e]
 grind
theorem Pc.placeBd {p:PS} {ts:List Int} (h:Pc p ts):rabs (qv p.place)≤((2000100000:Int):Rat):=by
 have h1:=h.lp
 have h2:=h.tr.rle
 have h3:=h.t1
 have h4:=h.t0
 have h5:=h.m1
 have h6:qv (ratio ts) * qv p.turned≤20000 * qv p.turned:=Rat.mul_le_mul_of_nonneg_right h2 h4
 have e:((2000100000:Int):Rat)=2000100000:=rfl
 rw [e]
 grind
theorem Pc.closeBd {p:PS} {ts:List Int} (h:Pc p ts) {k:Int} (hx:p.off=some (k,1)):Bd 64 k:=by
 have h1:=h.offBd hx
 rw [← qv_abs (by show (0:Int)<1;decide)] at h1
 have h2:=(qv_le (a:=qabs (k,1)) (m:=2000100000) (by show (0:Int)<1;decide)).mp h1
 have h3:(qabs (k,1)).1=(k.natAbs:Int):=by unfold qabs;dsimp only;split <;> omega
 have h4:(qabs (k,1)).2=1:=rfl
 rw [h3,h4] at h2
 unfold Bd
 have:(2:Nat) ^ 64=18446744073709551616:=by decide
 omega
theorem reach_pc {l:LS} (h:Reach l):GoodShop l.shop l.teeth∧(l.ps=ps0∨∃ ts,Pc l.ps ts∧∀ v∈ts,v∈l.shop):=by
 induction h with
 | new g=>exact ⟨g,.inl rfl⟩
 | @step l q _ d ih =>
  obtain ⟨G,ih⟩:=ih
  obtain ⟨kn,tr,nut,ok,meet,room⟩:=due_none d
  refine ⟨G,.inr ?_⟩
  rw [LS.ps_push]
  cases q with
  | mount ts =>
   have k:=kn ts rfl
   have ok':(decide (ts.length=2∨ts.length=4) && decide ts.Nodup)=true:=by
    have z:(!(decide (ts.length=2∨ts.length=4) && decide ts.Nodup))=false:=ok
    cases hh:(decide (ts.length=2∨ts.length=4) && decide ts.Nodup) with
    | true=>rfl
    | false=>rw [hh] at z;cases z
   rw [Bool.and_eq_true] at ok'
   exact ⟨ts,Pc.new ⟨of_decide_eq_true ok'.1,fun v hv=>G.shop.lo v (k v hv),fun v hv=>G.shop.hi v (k v hv)⟩ (of_decide_eq_true ok'.2),k⟩
  | turn t b =>
   have s:=tr (fun ts z=>nomatch z)
   rcases ih with e | ⟨ts,P,k⟩
   ·rw [e] at s;cases s
   ·have ok':(decide (b<1) || decide (1000<b) || tooMuch l.ps.turned (t,b))=false:=ok
    rw [Bool.or_eq_false_iff,Bool.or_eq_false_iff] at ok'
    exact ⟨ts,P.amount (by have:=of_decide_eq_false ok'.1.1;omega) (by have:=of_decide_eq_false ok'.1.2;omega) ok'.2,k⟩
  | wait =>
   have s:=tr (fun ts z=>nomatch z)
   rcases ih with e | ⟨ts,P,k⟩
   ·rw [e] at s;cases s
   ·exact ⟨ts,P.wait ok,k⟩
  | close =>
   have s:=tr (fun ts z=>nomatch z)
   have m:=meet rfl
   rcases ih with e | ⟨ts,P,k⟩
   ·rw [e] at s;cases s
   ·refine ⟨ts,?_,k⟩
    have hoff:∀ x,(l.ps.after .close).off=some x→l.ps.off=some x∨x=(0,1):=fun x e=>by
     have e:some (l.ps.off.getD (0,1))=some x:=e
     cases ho:l.ps.off with
     | none=>rw [ho] at e;cases e;exact .inr rfl
     | some o=>rw [ho] at e;cases e;exact .inl rfl
    have z0:rabs (qv (0,1))=0:=by rw [qv_zero];unfold rabs;simp
    refine ⟨P.tr,P.nd,P.et,P.ep,P.w,P.pl,P.t,P.m,fun x e=>?_,P.dw,P.dt,P.dp,P.dm,fun x e=>?_,P.lw,P.t0,P.t1,P.m0,P.m1,P.lp,fun x e=>?_,fun _=>?_,P.cu⟩
    ·rcases hoff x e with e | rfl
     ·exact P.o x e
     ·exact ok_zero
    ·rcases hoff x e with e | rfl
     ·exact P.dx x e
     ·exact ⟨0,by rw [qv_zero];simp⟩
    ·rcases hoff x e with e | rfl
     ·exact P.lo x e
     ·rw [z0]
      have:=rabs_nn (qv l.ps.place)
      exact Rat.le_trans this P.lp
    ·refine ⟨(l.ps.off.getD (0,1)).1,?_⟩
     exact congrArg some (Prod.ext rfl m)
  | opn =>
   have s:=tr (fun ts z=>nomatch z)
   rcases ih with e | ⟨ts,P,k⟩
   ·rw [e] at s;cases s
   ·exact ⟨ts,⟨P.tr,P.nd,P.et,P.ep,P.w,P.pl,P.t,P.m,P.o,P.dw,P.dt,P.dp,P.dm,P.dx,P.lw,P.t0,P.t1,P.m0,P.m1,P.lp,P.lo,(fun z=>by cases z),P.cu⟩,k⟩
  | move t b =>
   have s:=tr (fun ts z=>nomatch z)
   rcases ih with e | ⟨ts,P,k⟩
   ·rw [e] at s;cases s
   ·have ok':(decide (b<1) || decide (1000<b) || tooMuch l.ps.moved (t,b))=false:=ok
    rw [Bool.or_eq_false_iff,Bool.or_eq_false_iff] at ok'
    have b1:1≤b:=by have:=of_decide_eq_false ok'.1.1;omega
    have b2:b≤1000:=by have:=of_decide_eq_false ok'.1.2;omega
    have ha:=red_ok (t:=t) (b:=b) (by omega)
    have qa:=qabs_ok ha
    have wl:=whole_LL (t:=t) b1 b2
    have mm:=tooMuch_no P.m b1 ok'.2
    have na:=rabs_nn (qv (red t b))
    have pa:0<(red t b).2:=by have:=ha.pos;omega
    have eM:qv (l.ps.after (.move (red t b))).moved=qv l.ps.moved + rabs (qv (red t b)):=by
     show qv (qadd l.ps.moved (qabs (red t b)))=_
     rw [qv_add P.m.ne qa.ne,qv_abs pa]
    have eP:qv (l.ps.after (.move (red t b))).place=qv l.ps.place + qv (red t b):=qv_add P.pl.ne ha.ne
    have hoff:∀ x,(l.ps.after (.move (red t b))).off=some x→∃ o,l.ps.off=some o∧x=qadd o (red t b):=fun x e=>by
     have e:(l.ps.off.map fun o=>qadd o (red t b))=some x:=e
     cases ho:l.ps.off with
     | none=>rw [ho] at e;cases e
     | some o=>rw [ho] at e;cases e;exact ⟨o,rfl,rfl⟩
    have w2:Wh (qv (red t b) * ((LL * (ratio ts).2:Int):Rat)):=by rw [Rat.intCast_mul,← Rat.mul_assoc];exact wl.mul (Wh.int _)
    show ∃ ts,Pc (l.ps.after (.move (red t b))) ts∧∀ v∈ts,v∈l.shop
    refine ⟨ts,⟨P.tr,P.nd,P.et,P.ep,P.w,qadd_ok P.pl.ne ha.ne,P.t,qadd_ok P.m.ne qa.ne,fun x e=>?_,P.dw,P.dt,?_,?_,fun x e=>?_,P.lw,P.t0,P.t1,?_,?_,?_,fun x e=>?_,fun z=>?_,P.cu⟩,k⟩
    ·obtain ⟨o,ho,rfl⟩:=hoff x e
     exact qadd_ok (P.o o ho).ne ha.ne
    ·rw [eP,Rat.add_mul];exact P.dp.add w2
    ·rw [eM,Rat.add_mul]
     refine P.dm.add ?_
     unfold rabs
     split
     ·have:=wl.neg
      rw [← Rat.neg_mul] at this
      exact this
     ·exact wl
    ·obtain ⟨o,ho,rfl⟩:=hoff x e
     rw [qv_add (P.o o ho).ne ha.ne,Rat.add_mul]
     exact (P.dx o ho).add w2
    ·rw [eM];have:=P.m0;grind
    ·rw [eM];exact mm
    ·rw [eM,eP]
     have h0:=P.lp
     have h1:=rabs_add (qv l.ps.place) (qv (red t b))
     have e3:qv (l.ps.after (.move (red t b))).turned=qv l.ps.turned:=rfl
     rw [e3]
     grind
    ·obtain ⟨o,ho,rfl⟩:=hoff x e
     have h0:=P.lo o ho
     rw [eM,qv_add (P.o o ho).ne ha.ne]
     have h1:=rabs_add (qv o) (qv (red t b))
     have e3:qv (l.ps.after (.move (red t b))).turned=qv l.ps.turned:=rfl
     rw [e3]
     grind
    ·have nut':l.ps.closed=false:=nut
     have z':l.ps.closed=true:=z
     rw [nut'] at z';cases z'
  | cut t b =>
   have s:=tr (fun ts z=>nomatch z)
   rcases ih with e | ⟨ts,P,k⟩
   ·rw [e] at s;cases s
   ·have ok':(decide (b<1) || decide (1000<b) || decide (t≤0) || tooMuch l.ps.turned (t,b))=false:=ok
    rw [Bool.or_eq_false_iff,Bool.or_eq_false_iff,Bool.or_eq_false_iff] at ok'
    have P2:=P.amount (t:=t) (b:=b) (by have:=of_decide_eq_false ok'.1.1.1;omega) (by have:=of_decide_eq_false ok'.1.1.2;omega) ok'.2
    have cz:l.ps.closed=true:=by
     have:(!l.ps.closed)=false:=nut
     simpa using this
    obtain ⟨kk,hk⟩:=P.cl cz
    refine ⟨ts,⟨P2.tr,P2.nd,P2.et,P2.ep,P2.w,P2.pl,P2.t,P2.m,P2.o,P2.dw,P2.dt,P2.dp,P2.dm,P2.dx,P2.lw,P2.t0,P2.t1,P2.m0,P2.m1,P2.lp,P2.lo,P2.cl,fun c hc=>?_⟩,k⟩
    have hr:l.ps.r=ratio ts:=by unfold PS.r;rw [P.ep];rfl
    have hc:c∈l.ps.cuts++[(l.ps.closing,l.ps.groove)]:=hc
    rcases List.mem_append.mp hc with z | z
    ·exact P.cu c z
    ·rw [List.mem_singleton.mp z]
     have e1:l.ps.closing=kk:=by unfold PS.closing;rw [hk];rfl
     refine ⟨?_,?_⟩
     ·show l.ps.groove=_
      unfold PS.groove
      rw [hr]
     ·show Bd 64 l.ps.closing
      rw [e1];exact P.closeBd hk
end My
namespace My
open PySem L2 Mt
theorem good_cut {l:LS} {ts:List Int} {t b:Int} (P:Pc l.ps ts) (h0:1≤t) (h1:1≤b) (h2:b≤1000) (nut:l.ps.closed=true) (room:l.book.length<100) (m:qv l.ps.turned + rabs (qv (red t b))≤100000):due l (.cut t b)=none:=by
 have e1:tooMuch l.ps.turned (t,b)=false:=tooMuch_yes P.t h1 m
 have e2:decide (b<1)=false:=decide_eq_false (by omega)
 have e3:decide (1000<b)=false:=decide_eq_false (by omega)
 have e5:decide (t≤0)=false:=decide_eq_false (by omega)
 have e4:l.ps.pitch.isSome=true:=by rw [P.ep];rfl
 unfold due
 simp only [Req.known,Req.has,Req.meets,Req.wrong,Req.bad,e1,e2,e3,e4,e5,nut]
 simp
 omega
theorem rabs_red {t b m:Int} (h1:1≤b) (h2:-m≤t) (h3:t≤m):rabs (qv (red t b))≤(m:Rat):=by
 have hb:(b:Int)≠0:=by omega
 rw [qv_red hb]
 show rabs (qv (t,b))≤(m:Rat)
 rw [← qv_abs (a:=(t,b)) (by show 0<b;omega)]
 refine (qv_le (a:=qabs (t,b)) (m:=m) (by show 0<b;omega)).mpr ?_
 have e:(qabs (t,b)).1≤m:=by
  unfold qabs
  dsimp only
  split <;> omega
 show (qabs (t,b)).1≤m * b
 have hm:0≤m:=by omega
 have:=Int.mul_le_mul_of_nonneg_left h1 hm
 omega
theorem sizes {a:Q2} {D m:Int} (h:Ok2 a) (g:Wh (qv a * (D:Rat))) (d:0<D) (bD:Bd 1565 D) (m0:0≤m) (bm:Bd 64 m) (l:rabs (qv a)≤(m:Rat)):Bd 1700 a.1∧Bd 1700 a.2 :=
 ⟨num_bd h g d m0 l ((bm.mul bD).mono (by decide)),(den_bd h g d bD).mono (by decide)⟩
theorem Train.D2 {ts:List Int} (h:Train ts):0<LL * (ratio ts).2∧Bd 1565 (LL * (ratio ts).2) :=
 ⟨Int.mul_pos LL_pos (by have:=h.pl.q1;omega),(LL_bd.mul h.pl.bq).mono (by decide)⟩
theorem Train.D1 {ts:List Int} (h:Train ts):0<LL * (ratio ts).1∧Bd 1565 (LL * (ratio ts).1) :=
 ⟨Int.mul_pos LL_pos (by have:=h.pl.p1;omega),(LL_bd.mul h.pl.bp).mono (by decide)⟩
theorem bd2e9:Bd 64 2000100000:=by unfold Bd;decide
theorem bd1e5:Bd 64 100000:=by unfold Bd;decide
theorem Pc.placeN {p:PS} {ts:List Int} (h:Pc p ts):Bd 1700 p.place.1∧Bd 1700 p.place.2:=sizes h.pl h.dp h.tr.D2.1 h.tr.D2.2 (by decide) bd2e9 h.placeBd
theorem Pc.offN {p:PS} {ts:List Int} (h:Pc p ts) {x:Q2} (hx:p.off=some x):Bd 1700 x.1∧Bd 1700 x.2:=sizes (h.o x hx) (h.dx x hx) h.tr.D2.1 h.tr.D2.2 (by decide) bd2e9 (h.offBd hx)
theorem Pc.turnedN {p:PS} {ts:List Int} (h:Pc p ts):Bd 1700 p.turned.1∧Bd 1700 p.turned.2:=sizes (m:=100000) h.t h.dt h.tr.D1.1 h.tr.D1.2 (by decide) bd1e5 (by
 have e:rabs (qv p.turned)=qv p.turned:=by unfold rabs;rw [if_neg (Rat.not_lt.mpr h.t0)]
 rw [e];exact h.t1)
theorem Pc.workN {p:PS} {ts:List Int} (h:Pc p ts):Bd 1700 p.work.1∧Bd 1700 p.work.2:=sizes (m:=100000) h.w h.dw h.tr.D1.1 h.tr.D1.2 (by decide) bd1e5 (Rat.le_trans h.lw h.t1)
def SqO (K:PySem.W.Frag) (F:Addr→Prop) (H:Hp) (a:Addr) (xs:List V):Prop:=SqL K H a xs∧(¬ F a∨∀ H',SqL K H' a xs)
theorem SqO.fit {K:PySem.W.Frag} {F F':Addr→Prop} {H H':Hp} {a:Addr} {xs:List V} (h:SqO K F H a xs) (f:Fit F F' H H'):SqO K F' H' a xs:=by
 obtain ⟨h1,h2⟩:=h
 rcases h2 with n | al
 ·refine ⟨f.lst h1 n,?_⟩
  rcases h1 with (e | ⟨o,e⟩) | e
  ·exact .inl (f.out e n)
  ·exact .inl (f.out e n)
  ·exact .inr fun _=>.inr e
 ·exact ⟨al _,.inr al⟩
theorem SqO.same {K:PySem.W.Frag} {F:Addr→Prop} {H H':Hp} {a:Addr} {xs:List V} (h:SqO K F H a xs) (s:Same H H'):SqO K F H' a xs:=⟨s.seq h.1,h.2⟩
end My
namespace L2
open PySem PySem.Spec PyProof.Rows
theorem met_all {ns:List Int}:∀ n,n≤ns.length→(firstMet (fun i=>ns.getD i 0) n).length=n→firstMet (fun i=>ns.getD i 0) n=ns.take n∧(ns.take n).Nodup
 | 0,_,_=>by rw [firstMet_zero,List.take_zero];exact ⟨rfl,List.nodup_nil⟩
 | n + 1,h,e=>by
  have hn:n<ns.length:=h
  have le:=firstMet_length_le (fun i=>ns.getD i 0) n
  have ex:ns.getD n 0=ns[n]:=by rw [List.getD_eq_getElem?_getD,List.getElem?_eq_getElem hn];rfl
  have t:ns.take (n + 1)=ns.take n++[ns[n]]:=by rw [List.take_add_one,List.getElem?_eq_getElem hn];rfl
  rw [firstMet_succ] at e ⊢
  unfold step_dedup at e ⊢
  by_cases z:((firstMet (fun i=>ns.getD i 0) n).any fun x=>x == ns.getD n 0)=true
  ·rw [if_pos z] at e;omega
  ·rw [if_neg z] at e ⊢
   have e':(firstMet (fun i=>ns.getD i 0) n).length=n:=by simpa using e
   obtain ⟨h1,h2⟩:=met_all n (by omega) e'
   rw [h1] at z ⊢
   rw [t,ex]
   refine ⟨rfl,List.nodup_append.mpr ⟨h2,by simp,fun a ha b hb=>?_⟩⟩
   rw [List.mem_singleton.mp hb]
   intro q
   exact z (List.any_eq_true.mpr ⟨a,ha,by rw [ex];simpa using q⟩)
def manyOf (ns:List Int):Nat:=(firstMet (fun i=>ns.getD i 0) ns.length).length
theorem manyOf_lt {ns:List Int}:manyOf ns<ns.length ↔ ¬ ns.Nodup:=by
 have le:=firstMet_length_le (fun i=>ns.getD i 0) ns.length
 constructor
 ·intro h nd
  unfold manyOf at h
  rw [met_nodup nd _ (Nat.le_refl _),List.take_length] at h
  omega
 ·intro h
  rcases Nat.lt_or_ge (manyOf ns) ns.length with l | l
  ·exact l
  ·have e:(firstMet (fun i=>ns.getD i 0) ns.length).length=ns.length:=by unfold manyOf at l;omega
   have:=(met_all ns.length (Nat.le_refl _) e).2
   rw [List.take_length] at this
   exact absurd this h
section
variable {X:Cx}
theorem call_set_any (hc:X.calm=true):CallR X (.type "set") (fun xs H Q=>∃ (p:Addr) (ns:List Int),xs=[.ref p]∧SqA X.K H p (ns.map V.int)∧ns.length≤1000∧∀ (l:Addr) (S:Int→Bool),H l=none→Q (.ref l) (upd H l (.set S (manyOf ns)))):=by
 intro pins s σ H xs us Q I r h
 obtain ⟨p,ns,rfl,hq,h100,q⟩:=h
 obtain ⟨u,rfl,rx⟩:=vals1 r
 cases rx
 rcases hq with hq | hq
 ·obtain ⟨its,r',pl,hz⟩:=I.list hq
  have hlen:=r'.length
  rw [List.length_map] at hlen
  have ez:its.toArray.size=ns.length:=by rw [List.size_toArray,hlen]
  refine PySem.call_set_list (items:=its.toArray) (ns:=ns) (I.ok.hd hc) pl.isList (by simpa using intsAre_of r') (by rw [List.size_toArray];show _<4096;omega) fun h' tk sS kk=>?_
  rw [ez] at sS
  exact ⟨.ref s.heap.objs.size,_,I.laid (t':=tk) (fun b o e=>kk b o (Heap.lt_size e) e) (Nat.le_refl _) (show ObjOk X.prog X.w _ _ _ (.set _ (manyOf ns)) from sS),rfl,q _ _ I.fresh⟩
 ·obtain ⟨its,r',pl,hz⟩:=I.tuple hq
  have hlen:=r'.length
  rw [List.length_map] at hlen
  have ez:its.toArray.size=ns.length:=by rw [List.size_toArray,hlen]
  refine set_tup (ns:=ns) (I.ok.hd hc) pl (by simpa using intsAre_of r') (by rw [List.size_toArray];show _<4096;omega) fun h' tk sS kk=>?_
  rw [ez] at sS
  exact ⟨.ref s.heap.objs.size,_,I.laid (t':=tk) (fun b o e=>kk b o (Heap.lt_size e) e) (Nat.le_refl _) (show ObjOk X.prog X.w _ _ _ (.set _ (manyOf ns)) from sS),rfl,q _ _ I.fresh⟩
theorem pe_globC {x:Str} {v:V} {pos:Pos} (hg:Gl X x) (hm:∃ u,X.mg x=some u∧RelV v u) (hd:(x == ("__debug__":Str))=false:=by decide):PE X (.Name x pos) (tC v):=by
 obtain ⟨u,h1,h2⟩:=hm
 exact pe_glob hg h1 h2 hd
def iAny (K:PySem.W.Frag) (i:Nat):TI:=fun σ H R=>∃ a,σ[i]? = some (some (.ref a))∧(((∃ xs,SqL K H a xs)∧R (Itl K a) H)∨((∃ xs,SqT K H a xs)∧R (Itt K a) H))
theorem pi_any {tg l:Expr} {i:Nat} (hl:PE X l (tVar i)):PI X tg l (iAny X.K i):=by
 intro pins s σ H R I h
 obtain ⟨a,e,h⟩:=h
 rcases h with ⟨h1,h2⟩ | ⟨h1,h2⟩
 ·exact pi_list hl pins s σ H R I ⟨_,e,a,rfl,h1,h2⟩
 ·exact pi_tup hl pins s σ H R I ⟨_,e,a,rfl,h1,h2⟩
end
def Walk (it:It) (g:TG) (tb:TS) (D:Ends) (σ:St) (H:Hp):Prop:=∃ W:Nat→Nat→St→Hp→Prop,(∃ m,W 0 m σ H) ∧
 ∀ i m τ G,W i m τ G→(it.stop i G∧D.nx τ G)∨(it.go i G∧∃ N:St→Hp→Prop,(∀ τ' G',N τ' G'→∃ m',m'<m∧W (i + 1) m' τ' G') ∧
  ∀ x G',it.yld i G x G'→g x τ G' fun τ2 G2=>tb { D with nx:=N,ct:=N,bk:=D.nx } τ2 G2)
theorem for_any {K:PySem.W.Frag} {a:Addr} {xs:List V} {g:TG} {tb:TS} {D:Ends} {σ:St} {H:Hp} (Pv:Nat→St→Hp→Prop) (hA:SqA K H a xs) (h0:Pv 0 σ H) (hk:∀ i τ G,Pv i τ G→Same H G)
  (hs:∀ i x τ G,xs[i]? = some x→Pv i τ G→g x τ G fun τ2 G2=>tb { D with nx:=Pv (i + 1),ct:=Pv (i + 1),bk:=D.nx } τ2 G2) (hd:∀ τ G,Pv xs.length τ G→D.nx τ G) :
  ((∃ ys,SqL K H a ys)∧Walk (Itl K a) g tb D σ H)∨((∃ ys,SqT K H a ys)∧Walk (Itt K a) g tb D σ H):=by
 rcases hA with h | h
 ·exact .inl ⟨⟨_,h⟩,for_list (xs:=xs) Pv h0 (fun i τ G _ p=>(hk i τ G p).seq h) hs hd⟩
 ·exact .inr ⟨⟨_,h⟩,for_tup (xs:=xs) Pv h0 (fun i τ G _ p=>(hk i τ G p).tup h) hs hd⟩
theorem sqt_k {K:PySem.W.Frag} {a:Addr} {d:Option Addr} {its:Array Value} {n:Nat} {sl:Array (Option Value)} {xs:List V} (h:K.lookup a=some ⟨.type "tuple",d,.seq its n,sl⟩) (hz:its.size≤sizeLine) (r:Vals xs its.toList):SqT K (fun _=>none) a xs :=
 .inr ⟨_,its,n,h,rfl,rfl,hz,r⟩
end L2
namespace L2
open PySem PySem.Spec PyProof.Rows
theorem call_isinstT {X:Cx}:CallR X (.builtin "isinstance") (fun vs H Q=>∃ x T t b,vs=[x,.ty T]∧(TyOf X.K H x t∨∃ a xs,x = .ref a∧t = .type "tuple"∧SqT X.K H a xs)∧PySem.W.kitOne X.K t (.type T)=some b∧Q (.bl b) H):=by
 intro pins s σ H vs us Q I rv q
 obtain ⟨x,T,t,b,rfl,ty,e,q⟩:=q
 rcases ty with ty | ⟨a,xs,rfl,rfl,hq⟩
 ·exact call_isinst pins s σ H _ us Q I rv ⟨x,T,t,b,rfl,ty,e,q⟩
 ·obtain ⟨u,c,rfl,ru,rc⟩:=Vals.two rv
  cases (show c=Value.type T from rc)
  cases (show u=Value.ref a from ru)
  obtain ⟨its,_,p,_⟩:=I.tuple hq
  obtain ⟨o,h1,h2,_⟩:=p
  exact PySem.W.kia_one PySem.W.kitx_tuple I.kIn ⟨o,h1,h2⟩ e (fun z=>nomatch z) fun tk=>⟨.bl b,H,I.tok tk,rfl,q⟩
end L2
namespace L2
open PySem PySem.Spec PyProof.Rows
end L2
namespace My
open PySem L2 Mt
theorem pair_tups {H H':Hp} (e:Tups H H'):∀ {rs:List Addr} {tss:List (List Int)},Paired (fun r t=>H r=some (.tup (t.map V.int))) rs tss→Paired (fun r t=>H' r=some (.tup (t.map V.int))) rs tss
 | _,_,.nil=>.nil
 | _,_,.cons h t=>.cons (e _ _ h) (pair_tups e t)
def FrM (H:Hp) (v:V):Option Q2→Prop
 | none=>v = .non
 | some x=>∃ a,v = .ref a∧H a=some (.tup [.int x.1,.int x.2])
theorem FrM.tups {H H':Hp} {v:V} {x:Option Q2} (h:FrM H v x) (s:Tups H H'):FrM H' v x:=by
 cases x with
 | none=>exact h
 | some x=>obtain ⟨a,e,h⟩:=h;exact ⟨a,e,s _ _ h⟩
theorem FrM.fr {K:PySem.W.Frag} {H:Hp} {v:V} {x:Option Q2} (h:FrM H v x):FrO K H v x:=by
 cases x with
 | none=>exact h
 | some x=>obtain ⟨a,e,h⟩:=h;exact ⟨a,e,.inl h⟩
abbrev rowsOf (cs:List Q2):List (List Int):=cs.map fun c=>[c.1,c.2]
structure FirstOk (p:PS) (x y:Q2):Prop where
 ox:Ok2 x
 oy:Ok2 y
 wx:Wh (qv x * ((LL * (ratio p.train).2:Int):Rat))
 wy:Wh (qv y * ((LL * (ratio p.train).1:Int):Rat))
 bx:rabs (qv x)≤((2000100000:Int):Rat)
 bY:rabs (qv y)≤((100000:Int):Rat)
def FstA (K:PySem.W.Frag) (H:Hp) (v:V) (p:PS):Prop:=(p.off=none∧v = .non)∨∃ o f c w x y,p.off=some o∧v = .ref f∧H f=some (.tup [.ref c,.ref w])∧FrA K H c x∧FrA K H w y∧FirstOk p x y∧qv o=qv p.place - qv x - qv (ratio p.train) * (qv p.work - qv y)
theorem FstA.tups {K:PySem.W.Frag} {H H':Hp} {v:V} {p:PS} (h:FstA K H v p) (s:Tups H H'):FstA K H' v p:=by
 rcases h with h | ⟨o,f,c,w,x,y,h1,h2,h3,h4,h5,h6,h7⟩
 ·exact .inl h
 ·exact .inr ⟨o,f,c,w,x,y,h1,h2,s _ _ h3,h4.tups s,h5.tups s,h6,h7⟩
abbrev pcF (t:Addr) (rv:V) (w c:Addr) (cl:Bool) (fv:V) (tc mc cu:Addr):List (Str × V):=[("train",.ref t),("ratio",rv),("work_turns",.ref w),("place",.ref c),("closed",.bl cl),("first",fv),("turn_count",.ref tc),("move_count",.ref mc),("cuts",.ref cu)]
structure PRepA (K:PySem.W.Frag) (mg:Str→Option Value) (Fp:Addr→Prop) (H:Hp) (a:Addr) (p:PS) (dx t:Addr) (rv:V) (w c:Addr) (fv:V) (tc mc cu:Addr):Prop where
 ob:H a=some (.ins (cOf mg "Piece") dx (pcF t rv w c p.closed fv tc mc cu))
 fa:Fp a
 fc:Fp cu
 tr:TupK K H t (p.train.map V.int)
 ra:FrM H rv p.pitch
 wo:FrA K H w p.work
 pl:FrA K H c p.place
 fi:FstA K H fv p
 tu:FrA K H tc p.turned
 mo:FrA K H mc p.moved
 cu:TL H cu (rowsOf p.cuts)
def PRep (K:PySem.W.Frag) (mg:Str→Option Value) (Fp:Addr→Prop) (H:Hp) (a:Addr) (p:PS):Prop:=∃ dx t rv w c fv tc mc cu,PRepA K mg Fp H a p dx t rv w c fv tc mc cu
theorem TL.frame {H H':Hp} {D:Addr} {tss:List (List Int)} (h:TL H D tss) (k:∀ o,H D=some o→H' D=some o) (s:Tups H H'):TL H' D tss:=by
 obtain ⟨rs,h1,h2⟩:=h
 exact ⟨rs,k _ h1,pair_tups s h2⟩
theorem PRepA.frame {K:PySem.W.Frag} {mg:Str→Option Value} {Fp:Addr→Prop} {H H':Hp} {a:Addr} {p:PS} {dx t:Addr} {rv:V} {w c:Addr} {fv:V} {tc mc cu:Addr} (h:PRepA K mg Fp H a p dx t rv w c fv tc mc cu) (k:∀ b o,Fp b→H b=some o→H' b=some o) (s:Tups H H'):PRepA K mg Fp H' a p dx t rv w c fv tc mc cu :=
 ⟨k _ _ h.fa h.ob,h.fa,h.fc,h.tr.tups s,h.ra.tups s,h.wo.tups s,h.pl.tups s,h.fi.tups s,h.tu.tups s,h.mo.tups s,h.cu.frame (fun o e=>k _ _ h.fc e) s⟩
theorem PRepA.foot {K:PySem.W.Frag} {mg:Str→Option Value} {Fp Fp':Addr→Prop} {H:Hp} {a:Addr} {p:PS} {dx t:Addr} {rv:V} {w c:Addr} {fv:V} {tc mc cu:Addr} (h:PRepA K mg Fp H a p dx t rv w c fv tc mc cu) (k:∀ b,Fp b→Fp' b):PRepA K mg Fp' H a p dx t rv w c fv tc mc cu :=
 ⟨h.ob,k _ h.fa,k _ h.fc,h.tr,h.ra,h.wo,h.pl,h.fi,h.tu,h.mo,h.cu⟩
theorem PRep.frame {K:PySem.W.Frag} {mg:Str→Option Value} {Fp:Addr→Prop} {H H':Hp} {a:Addr} {p:PS} (h:PRep K mg Fp H a p) (k:∀ b o,Fp b→H b=some o→H' b=some o) (s:Tups H H'):PRep K mg Fp H' a p:=by
 obtain ⟨dx,t,rv,w,c,fv,tc,mc,cu,h⟩:=h
 exact ⟨dx,t,rv,w,c,fv,tc,mc,cu,h.frame k s⟩
theorem PRep.foot {K:PySem.W.Frag} {mg:Str→Option Value} {Fp Fp':Addr→Prop} {H:Hp} {a:Addr} {p:PS} (h:PRep K mg Fp H a p) (k:∀ b,Fp b→Fp' b):PRep K mg Fp' H a p:=by
 obtain ⟨dx,t,rv,w,c,fv,tc,mc,cu,h⟩:=h
 exact ⟨dx,t,rv,w,c,fv,tc,mc,cu,h.foot k⟩
def Deed.word:Deed→Str
 | .mount _=>"mount"
 | .turn _=>"turn"
 | .wait=>"wait"
 | .close=>"close"
 | .opn=>"open"
 | .move _=>"move"
 | .cut _=>"cut"
def WhatA (K:PySem.W.Frag) (H:Hp) (v:V):Deed→Prop
 | .mount ts=>∃ t,v = .ref t∧TupK K H t (ts.map V.int)
 | .turn a=>∃ t,v = .ref t∧FrA K H t a
 | .move a=>∃ t,v = .ref t∧FrA K H t a
 | .cut a=>∃ t,v = .ref t∧FrA K H t a
 | .wait=>v = .non
 | .close=>v = .non
 | .opn=>v = .non
theorem WhatA.tups {K:PySem.W.Frag} {H H':Hp} {v:V} {d:Deed} (h:WhatA K H v d) (s:Tups H H'):WhatA K H' v d:=by
 cases d with
 | mount ts=>obtain ⟨t,e,h⟩:=h;exact ⟨t,e,h.tups s⟩
 | turn a=>obtain ⟨t,e,h⟩:=h;exact ⟨t,e,h.tups s⟩
 | move a=>obtain ⟨t,e,h⟩:=h;exact ⟨t,e,h.tups s⟩
 | cut a=>obtain ⟨t,e,h⟩:=h;exact ⟨t,e,h.tups s⟩
 | wait=>exact h
 | close=>exact h
 | opn=>exact h
def EntA (K:PySem.W.Frag) (mg:Str→Option Value) (Fp:Addr→Prop) (H:Hp) (p:PS) (d:Deed) (v:V):Prop:=∃ e t b wv,v = .ref e∧H e=some (.tup [.ref t,.ref b])∧H t=some (.tup [.str d.word,wv])∧WhatA K H wv d∧PRep K mg Fp H b p
theorem EntA.frame {K:PySem.W.Frag} {mg:Str→Option Value} {Fp:Addr→Prop} {H H':Hp} {p:PS} {d:Deed} {v:V} (h:EntA K mg Fp H p d v) (k:∀ b o,Fp b→H b=some o→H' b=some o) (s:Tups H H'):EntA K mg Fp H' p d v:=by
 obtain ⟨e,t,b,wv,h1,h2,h3,h4,h5⟩:=h
 exact ⟨e,t,b,wv,h1,s _ _ h2,s _ _ h3,h4.tups s,h5.frame k s⟩
theorem EntA.foot {K:PySem.W.Frag} {mg:Str→Option Value} {Fp Fp':Addr→Prop} {H:Hp} {p:PS} {d:Deed} {v:V} (h:EntA K mg Fp H p d v) (k:∀ b,Fp b→Fp' b):EntA K mg Fp' H p d v:=by
 obtain ⟨e,t,b,wv,h1,h2,h3,h4,h5⟩:=h
 exact ⟨e,t,b,wv,h1,h2,h3,h4,h5.foot k⟩
def psOf (ds:List Deed):PS:=ds.foldl PS.after ps0
structure Ents (K:PySem.W.Frag) (mg:Str→Option Value) (Fp:Addr→Prop) (H:Hp) (ds:List Deed) (es:List V):Prop where
 len:es.length=ds.length
 ent:∀ i d v,ds[i]? = some d→es[i]? = some v→EntA K mg Fp H (psOf (ds.take i)) d v
theorem Ents.frame {K:PySem.W.Frag} {mg:Str→Option Value} {Fp:Addr→Prop} {H H':Hp} {ds:List Deed} {es:List V} (h:Ents K mg Fp H ds es) (k:∀ b o,Fp b→H b=some o→H' b=some o) (s:Tups H H'):Ents K mg Fp H' ds es:=⟨h.len,fun i d v h1 h2=>(h.ent i d v h1 h2).frame k s⟩
theorem Ents.foot {K:PySem.W.Frag} {mg:Str→Option Value} {Fp Fp':Addr→Prop} {H:Hp} {ds:List Deed} {es:List V} (h:Ents K mg Fp H ds es) (k:∀ b,Fp b→Fp' b):Ents K mg Fp' H ds es:=⟨h.len,fun i d v h1 h2=>(h.ent i d v h1 h2).foot k⟩
theorem Ents.push {K:PySem.W.Frag} {mg:Str→Option Value} {Fp:Addr→Prop} {H:Hp} {ds:List Deed} {es:List V} {d:Deed} {v:V} (h:Ents K mg Fp H ds es) (e:EntA K mg Fp H (psOf ds) d v):Ents K mg Fp H (ds++[d]) (es++[v]):=by
 refine ⟨by simp [h.len],fun i d' v' h1 h2=>?_⟩
 have hl:=h.len
 rcases Nat.lt_trichotomy i ds.length with l | l | l
 ·rw [List.getElem?_append_left l] at h1
  rw [List.getElem?_append_left (by omega)] at h2
  rw [List.take_append_of_le_length (by omega)]
  exact h.ent i d' v' h1 h2
 ·subst l
  rw [List.getElem?_append_right (Nat.le_refl _),Nat.sub_self] at h1
  rw [← hl,List.getElem?_append_right (Nat.le_refl _),Nat.sub_self] at h2
  cases h1;cases h2
  rw [List.take_append_of_le_length (Nat.le_refl _),List.take_length]
  exact e
 ·rw [List.getElem?_eq_none (by simp;omega)] at h1
  cases h1
abbrev laF (s:Addr) (n:Int) (pa ra:Addr):List (Str × V):=[("shop",.ref s),("teeth",.int n),("piece",.ref pa),("record",.ref ra)]
structure LRepA (K:PySem.W.Frag) (mg:Str→Option Value) (H:Hp) (a:Addr) (l:LS) (F Fp:Addr→Prop) (dx s pa ra rdx ea:Addr) (es:List V):Prop where
 re:Reach l
 ob:H a=some (.ins (cOf mg "Lathe") dx (laF s l.teeth pa ra))
 sh:H s=some (.tup (l.shop.map V.int))
 bo:H ra=some (.ins (cOf mg "Book") rdx [("entries",.ref ea)])
 he:H ea=some (.lst es)
 f1:F a
 f2:F ra
 f3:F ea
 fp:∀ b,Fp b→F b
 n1:¬ Fp a
 n2:¬ Fp ra
 n3:¬ Fp ea
 al:∀ b,F b→∃ o,H b=some o
 en:Ents K mg Fp H l.book es
 pc:PRep K mg Fp H pa l.ps
def LRep (K:PySem.W.Frag) (mg:Str→Option Value) (H:Hp) (a:Addr) (l:LS) (F:Addr→Prop):Prop:=∃ Fp dx s pa ra rdx ea es,LRepA K mg H a l F Fp dx s pa ra rdx ea es
theorem LRepA.keep {K:PySem.W.Frag} {mg:Str→Option Value} {H H':Hp} {a:Addr} {l:LS} {F Fp:Addr→Prop} {dx s pa ra rdx ea:Addr} {es:List V} (h:LRepA K mg H a l F Fp dx s pa ra rdx ea es) (k:∀ b o,F b→H b=some o→H' b=some o) (t:Tups H H'):LRepA K mg H' a l F Fp dx s pa ra rdx ea es :=
 ⟨h.re,k _ _ h.f1 h.ob,t _ _ h.sh,k _ _ h.f2 h.bo,k _ _ h.f3 h.he,h.f1,h.f2,h.f3,h.fp,h.n1,h.n2,h.n3,fun b z=>by obtain ⟨o,e⟩:=h.al b z;exact ⟨o,k _ _ z e⟩,h.en.frame (fun b o z e=>k b o (h.fp b z) e) t,h.pc.frame (fun b o z e=>k b o (h.fp b z) e) t⟩
abbrev latheMeths:List Str:=["stand","mount","turn","wait","close_nut","open_nut","move","cut","take_back","mounted","pitch","work","screw","nut","off","turned","moved","passes","book","wheels_for","marks","soonest","soonest_on","spoilt","reading","enter"]
theorem laF_no {s:Addr} {n:Int} {pa ra:Addr}:∀ m∈latheMeths,(laF s n pa ra).lookup m=none:=by
 intro m hm
 simp only [latheMeths,List.mem_cons,List.not_mem_nil,or_false] at hm
 rcases hm with rfl | rfl | rfl | rfl | rfl | rfl | rfl | rfl | rfl | rfl | rfl | rfl | rfl | rfl | rfl | rfl | rfl | rfl | rfl | rfl | rfl | rfl | rfl | rfl | rfl | rfl <;> rfl
theorem LRep.ins {K:PySem.W.Frag} {mg:Str→Option Value} {H:Hp} {a:Addr} {l:LS} {F:Addr→Prop} (h:LRep K mg H a l F):∃ dx fs,H a=some (.ins (cOf mg "Lathe") dx fs)∧∀ m∈latheMeths,fs.lookup m=none:=by
 obtain ⟨Fp,dx,s,pa,ra,rdx,ea,es,h⟩:=h
 exact ⟨dx,_,h.ob,laF_no⟩
theorem LRep.keep {K:PySem.W.Frag} {mg:Str→Option Value} {H H':Hp} {a:Addr} {l:LS} {F:Addr→Prop} (h:LRep K mg H a l F) (k:∀ b o,F b→H b=some o→H' b=some o) (t:Tups H H'):LRep K mg H' a l F:=by
 obtain ⟨Fp,dx,s,pa,ra,rdx,ea,es,h⟩:=h
 exact ⟨Fp,dx,s,pa,ra,rdx,ea,es,h.keep k t⟩
theorem LRep.at_ {K:PySem.W.Frag} {mg:Str→Option Value} {H:Hp} {a:Addr} {l:LS} {F:Addr→Prop} (h:LRep K mg H a l F) {b:Addr} (f:F b):∃ o,H b=some o:=by
 obtain ⟨Fp,dx,s,pa,ra,rdx,ea,es,h⟩:=h
 exact h.al b f
theorem LRep.reach {K:PySem.W.Frag} {mg:Str→Option Value} {H:Hp} {a:Addr} {l:LS} {F:Addr→Prop} (h:LRep K mg H a l F):Reach l:=by
 obtain ⟨Fp,dx,s,pa,ra,rdx,ea,es,h⟩:=h
 exact h.re
theorem LRep.same {K:PySem.W.Frag} {mg:Str→Option Value} {H H':Hp} {a:Addr} {l:LS} {F:Addr→Prop} (h:LRep K mg H a l F) (s:Same H H'):LRep K mg H' a l F:=h.keep (fun b o _ e=>s b o e) (Same.tups s)
def deedQ (K:PySem.W.Frag) (mg:Str→Option Value) (H:Hp) (a:Addr) (l:LS) (F:Addr→Prop) (q:Req) (Q:VK) (E:XK):Prop :=
 (due l q=none→∀ r H' F',LRep K mg H' a (l.push q.deed) F'→Fit F F' H H'→StandA K H' r (l.push q.deed)→Q (.ref r) H') ∧
 ∀ x,due l q=some x→∀ H' F',LRep K mg H' a l F'→Fit F F' H H'→E (.ref (cOf mg x)) none H'
def spDeed0 (K:PySem.W.Frag) (mg:Str→Option Value) (q:Req):Sp:=fun vs H Q E=>∃ a l F,vs=[.ref a]∧LRep K mg H a l F∧deedQ K mg H a l F q Q E
def spMountL (K:PySem.W.Frag) (mg:Str→Option Value):Sp:=fun vs H Q E=>∃ a t ts l F,vs=[.ref a,.ref t]∧LRep K mg H a l F∧(H t=some (.lst (ts.map V.int))∨TupK K H t (ts.map V.int))∧ts.length≤1000∧(∀ v∈ts,Bd 200 v)∧deedQ K mg H a l F (.mount ts) Q E
def spAmount (K:PySem.W.Frag) (mg:Str→Option Value) (q:Int→Int→Req):Sp:=fun vs H Q E=>∃ a t x y l F,vs=[.ref a,.ref t]∧LRep K mg H a l F∧FrA K H t (x,y)∧Bd 200 x∧Bd 200 y∧deedQ K mg H a l F (q x y) Q E
def spInitL (K:PySem.W.Frag) (mg:Str→Option Value):Sp:=fun vs H Q E=>∃ x dx wa ws n,vs=[.ref x,.ref wa,.int n]∧H x=some (.ins (cOf mg "Lathe") dx [])∧H dx=some (.own x)∧(H wa=some (.lst (ws.map V.int))∨H wa=some (.tup (ws.map V.int)))∧ws.length≤1000∧(∀ v∈ws,Bd 200 v)∧Bd 200 n ∧
 (GoodShop ws n→∀ H' F',LRep K mg H' x ⟨ws,n,[]⟩ F'→(∀ b o,H b=some o→b≠x→H' b=some o)→(∀ b,F' b→b=x∨b=dx∨H b=none)→Q .non H') ∧
 (¬ GoodShop ws n→∀ H',(∀ b o,H b=some o→b≠x→H' b=some o)→E (.ref (cOf mg "BadNumber")) none H')
def spAsk (K:PySem.W.Frag) (mg:Str→Option Value) (R:LS→(Addr→Prop)→Hp→Hp→V→Prop):Sp:=fun vs H Q _=>∃ a l F,vs=[.ref a]∧LRep K mg H a l F∧∀ v H' F',LRep K mg H' a l F'→Fit F F' H H'→R l F' H H' v→Q v H'
abbrev tellStand (K:PySem.W.Frag):LS→(Addr→Prop)→Hp→Hp→V→Prop:=fun l _ _ H' v=>∃ r,v = .ref r∧StandA K H' r l
abbrev tellFrac (K:PySem.W.Frag) (f:PS→Q2):LS→(Addr→Prop)→Hp→Hp→V→Prop:=fun l _ _ H' v=>∃ p,v = .ref p∧FrA K H' p (f l.ps)
abbrev tellOpt (K:PySem.W.Frag) (f:PS→Option Q2):LS→(Addr→Prop)→Hp→Hp→V→Prop:=fun l _ _ H' v=>FrO K H' v (f l.ps)
end My
namespace My
open PySem L2 Mt
theorem keep2 {H1:Hp} {x cu:Addr} {o1 o2:HO} (hcu:H1 cu=none):∀ b o,H1 b=some o→b≠x→upd (upd H1 cu o1) x o2 b=some o:=fun b o e n=>(upd_ne n).trans ((upd_ne (fun z=>by rw [z,hcu] at e;cases e)).trans e)
theorem paired_last {α β:Type} {R:α→β→Prop}:∀ {rs:List α} {ts:List β} {t:β},Paired R rs (ts++[t])→∃ rs' r,rs=rs'++[r]∧Paired R rs' ts∧R r t
 | _,[],_,.cons h .nil=>⟨[],_,rfl,.nil,h⟩
 | _,_::_,_,.cons h k=>by
  obtain ⟨rs',r,rfl,h1,h2⟩:=paired_last k
  exact ⟨_::rs',r,rfl,.cons h h1,h2⟩
theorem last_or {α:Type} (l:List α):l=[]∨∃ cs c,l=cs++[c]:=by
 rcases List.eq_nil_or_concat l with h | ⟨cs,c,h⟩
 ·exact .inl h
 ·exact .inr ⟨cs,c,by rw [h,List.concat_eq_append]⟩
def qsub (a b:Q2):Q2:=red (a.1 * b.2 - b.1 * a.2) (a.2 * b.2)
theorem qsub_ok {a b:Q2} (ha:a.2≠0) (hb:b.2≠0):Ok2 (qsub a b):=red_ok (Int.mul_ne_zero ha hb)
theorem qv_sub {a b:Q2} (ha:a.2≠0) (hb:b.2≠0):qv (qsub a b)=qv a - qv b:=by
 unfold qsub
 rw [qv_red (Int.mul_ne_zero ha hb)]
 have n1:(a.2:Rat)≠0:=by exact_mod_cast ha
 have n2:(b.2:Rat)≠0:=by exact_mod_cast hb
 unfold qv
 rw [Rat.intCast_sub,Rat.intCast_mul,Rat.intCast_mul,Rat.intCast_mul]
 grind
theorem qv_pair {t b:Int} (h:b≠0):qv (t,b)=qv (red t b):=(qv_red h).symm
theorem qadd_red {w:Q2} {t b:Int} (hw:w.2≠0) (h:b≠0):qadd w (t,b)=qadd w (red t b):=by
 have hr:=(red_ok (t:=t) h).ne
 refine qv_inj (qadd_ok hw h) (qadd_ok hw hr) ?_
 rw [qv_add hw (b:=(t,b)) h,qv_add hw hr,qv_pair h]
theorem qmul_red {w:Q2} {t b:Int} (hw:w.2≠0) (h:b≠0):qmul w (t,b)=qmul w (red t b):=by
 have hr:=(red_ok (t:=t) h).ne
 refine qv_inj (qmul_ok hw h) (qmul_ok hw hr) ?_
 rw [qv_mul hw (b:=(t,b)) h,qv_mul hw hr,qv_pair h]
theorem qadd_abs {w:Q2} {t b:Int} (hw:w.2≠0) (h:0<b):qadd w (qabs (t,b))=qadd w (qabs (red t b)):=by
 have hr:=red_ok (t:=t) (b:=b) (by omega)
 have ho:=(qabs_ok hr).ne
 have hb:(qabs (t,b)).2≠0:=by show b≠0;omega
 refine qv_inj (qadd_ok hw hb) (qadd_ok hw ho) ?_
 rw [qv_add hw hb,qv_add hw ho,qv_abs (a:=(t,b)) h,qv_abs (by have:=hr.pos;omega),qv_pair (t:=t) (b:=b) (by omega)]
theorem Pc.rr {p:PS} {ts:List Int} (h:Pc p ts):p.r=ratio ts:=by unfold PS.r;rw [h.ep];rfl
theorem off_steps {p:PS} {ts:List Int} {x y o:Q2} (P:Pc p ts) (F:FirstOk p x y) (ho:p.off=some o) (e:qv o=qv p.place - qv x - qv (ratio p.train) * (qv p.work - qv y)) :
  (Bd 1700 (qsub p.work y).1∧Bd 1700 (qsub p.work y).2∧(qsub p.work y).2≠0)∧(Bd 1700 (qmul (ratio ts) (qsub p.work y)).1∧Bd 1700 (qmul (ratio ts) (qsub p.work y)).2∧(qmul (ratio ts) (qsub p.work y)).2≠0) ∧
  (Bd 1700 (qsub p.place x).1∧Bd 1700 (qsub p.place x).2∧(qsub p.place x).2≠0)∧qsub (qsub p.place x) (qmul (ratio ts) (qsub p.work y))=o∧(Bd 1700 x.1∧Bd 1700 x.2)∧(Bd 1700 y.1∧Bd 1700 y.2):=by
 have et:=P.et
 rw [et] at e
 have wx:=F.wx
 have wy:=F.wy
 rw [et] at wx wy
 have ro:=P.tr.rok
 have rp:=P.tr.rpos
 have rl:=P.tr.rle
 have o1:=qsub_ok P.w.ne F.oy.ne
 have v1:=qv_sub P.w.ne F.oy.ne
 have o2:=qmul_ok (b:=qsub p.work y) ro.ne o1.ne
 have v2:qv (qmul (ratio ts) (qsub p.work y))=qv (ratio ts) * (qv p.work - qv y):=by rw [qv_mul ro.ne o1.ne,v1]
 have o3:=qsub_ok P.pl.ne F.ox.ne
 have v3:=qv_sub P.pl.ne F.ox.ne
 have w1:Wh (qv (qsub p.work y) * ((LL * (ratio ts).1:Int):Rat)):=by
  rw [v1,Rat.sub_eq_add_neg,Rat.add_mul,Rat.neg_mul]
  exact P.dw.add wy.neg
 have b1:rabs (qv (qsub p.work y))≤((200000:Int):Rat):=by
  rw [v1,Rat.sub_eq_add_neg]
  have h1:=rabs_add (qv p.work) (-(qv y))
  rw [rabs_neg] at h1
  have h2:=Rat.le_trans P.lw P.t1
  have h3:=F.bY
  have e1:((200000:Int):Rat)=200000:=rfl
  have e2:((100000:Int):Rat)=100000:=rfl
  rw [e1];rw [e2] at h3
  grind
 have w2:Wh (qv (qmul (ratio ts) (qsub p.work y)) * ((LL * (ratio ts).2:Int):Rat)):=by
  rw [v2,← v1]
  have n:=ro.nz
  have e3:qv (ratio ts) * qv (qsub p.work y) * ((LL * (ratio ts).2:Int):Rat)=qv (qsub p.work y) * ((LL * (ratio ts).1:Int):Rat):=by
   rw [Rat.intCast_mul,Rat.intCast_mul]
   have:qv (ratio ts)=((ratio ts).1:Rat) / ((ratio ts).2:Rat):=rfl
   rw [this]
   grind
  rw [e3];exact w1
 have b2:rabs (qv (qmul (ratio ts) (qsub p.work y)))≤((4000000000:Int):Rat):=by
  rw [v2,← v1]
  have h1:=rabs_mul (x:=qv (qsub p.work y)) rp
  have h2:=Rat.mul_le_mul_of_nonneg_left b1 rp
  have h3:=Rat.mul_le_mul_of_nonneg_right rl (show (0:Rat)≤((200000:Int):Rat) by decide)
  have e4:(20000:Rat) * ((200000:Int):Rat)=((4000000000:Int):Rat):=by rw [show (20000:Rat)=((20000:Int):Rat) from rfl,← Rat.intCast_mul];rfl
  rw [e4] at h3
  exact Rat.le_trans h1 (Rat.le_trans h2 h3)
 have w3:Wh (qv (qsub p.place x) * ((LL * (ratio ts).2:Int):Rat)):=by
  rw [v3,Rat.sub_eq_add_neg,Rat.add_mul,Rat.neg_mul]
  exact P.dp.add wx.neg
 have b3:rabs (qv (qsub p.place x))≤((4000200000:Int):Rat):=by
  rw [v3,Rat.sub_eq_add_neg]
  have h1:=rabs_add (qv p.place) (-(qv x))
  rw [rabs_neg] at h1
  have h2:=P.placeBd
  have h3:=F.bx
  have e1:((4000200000:Int):Rat)=4000200000:=rfl
  have e2:((2000100000:Int):Rat)=2000100000:=rfl
  rw [e1];rw [e2] at h2 h3
  grind
 have z1:=sizes o1 w1 P.tr.D1.1 P.tr.D1.2 (by decide) (by unfold Bd;decide) b1
 have z2:=sizes o2 w2 P.tr.D2.1 P.tr.D2.2 (by decide) (by unfold Bd;decide) b2
 have z3:=sizes o3 w3 P.tr.D2.1 P.tr.D2.2 (by decide) (by unfold Bd;decide) b3
 refine ⟨⟨z1.1,z1.2,o1.ne⟩,⟨z2.1,z2.2,o2.ne⟩,⟨z3.1,z3.2,o3.ne⟩,?_,sizes F.ox wx P.tr.D2.1 P.tr.D2.2 (by decide) bd2e9 F.bx,sizes F.oy wy P.tr.D1.1 P.tr.D1.2 (by decide) bd1e5 F.bY⟩
 refine qv_inj (qsub_ok o3.ne o2.ne) (P.o o ho) ?_
 rw [qv_sub o3.ne o2.ne,v3,v2,e]
def newPS (ts:List Int):PS:={ ps0 with train:=ts,pitch:=if ts=[] then none else some (ratio ts) }
theorem newPS_train {ts:List Int} (h:Train ts):newPS ts=ps0.after (.mount ts):=by
 have:ts≠[]:=fun e=>by have:=h.len;rw [e] at this;rcases this with z | z <;> cases z
 unfold newPS
 rw [if_neg this]
 rfl
def OffR (H H':Hp) (v:V):Option Q2→Prop
 | none=>v = .non
 | some x=>∃ n,v = .ref n∧H n=none∧H' n=some (.tup [.int x.1,.int x.2])
theorem Reach.pc {l:LS} (h:Reach l):l.ps=ps0∨∃ ts,Pc l.ps ts∧∀ v∈ts,v∈l.shop:=(reach_pc h).2
theorem Reach.good {l:LS} (h:Reach l):GoodShop l.shop l.teeth:=(reach_pc h).1
def PcO (p:PS):Prop:=p=ps0∨∃ ts,Pc p ts
theorem Reach.pco {l:LS} (h:Reach l):PcO l.ps:=h.pc.elim .inl fun ⟨ts,P,_⟩=>.inr ⟨ts,P⟩
theorem PcO.train {p:PS} (h:PcO p):(p.train=[]∨Train p.train)∧p.pitch=(newPS p.train).pitch:=by
 rcases h with rfl | ⟨ts,P⟩
 ·exact ⟨.inl rfl,rfl⟩
 ·refine ⟨.inr (by rw [P.et];exact P.tr),?_⟩
  rw [P.et,P.ep,newPS_train P.tr]
  rfl
theorem FstA.like {K:PySem.W.Frag} {H:Hp} {v:V} {p p':PS} (h:FstA K H v p) (e1:p'.off=p.off) (e2:p'.place=p.place) (e3:p'.work=p.work) (e4:p'.train=p.train):FstA K H v p':=by
 rcases h with ⟨h1,h2⟩ | ⟨o,f,c,w,x,y,h1,h2,h3,h4,h5,h6,h7⟩
 ·exact .inl ⟨e1.trans h1,h2⟩
 ·exact .inr ⟨o,f,c,w,x,y,e1.trans h1,h2,h3,h4,h5,⟨h6.ox,h6.oy,by rw [e4];exact h6.wx,by rw [e4];exact h6.wy,h6.bx,h6.bY⟩,by rw [e2,e3,e4];exact h7⟩
theorem twin_rep {K:PySem.W.Frag} {mg:Str→Option Value} {Fp:Addr→Prop} {H Hk:Hp} {a:Addr} {p:PS} {dx t:Addr} {rv rv1:V} {w c:Addr} {fv:V} {tc mc cu cu2 x dx2 C0 d0:Addr} {fs0:List (Str × V)} {rs:List Addr} (R:PRepA K mg Fp H a p dx t rv w c fv tc mc cu) (nx:H x=none)
  (hcu2:Hk cu2=none) (cx:cu2≠x) (kk:∀ b o,H b=some o→Hk b=some o) (prs:Paired (fun r t=>H r=some (.tup (t.map V.int))) rs (rowsOf p.cuts)) (hrv:FrM Hk rv1 p.pitch) (hkx:Hk x=some (.ins C0 d0 fs0)) :
  Same H (upd (upd Hk cu2 (.lst (rs.map V.ref))) x (.ins (cOf mg "Piece") dx2 (pcF t rv1 w c p.closed fv tc mc cu2))) ∧
  PRepA K mg (fun z=>z=x∨z=cu2) (upd (upd Hk cu2 (.lst (rs.map V.ref))) x (.ins (cOf mg "Piece") dx2 (pcF t rv1 w c p.closed fv tc mc cu2))) x p dx2 t rv1 w c fv tc mc cu2:=by
 have s2:Same H (upd (upd Hk cu2 (.lst (rs.map V.ref))) x (.ins (cOf mg "Piece") dx2 (pcF t rv1 w c p.closed fv tc mc cu2))):=fun b o e=>keep2 hcu2 b o (kk b o e) (ne_of_none e nx)
 refine ⟨s2,⟨upd_same,.inl rfl,.inr rfl,R.tr.mono s2,hrv.tups fun b xs e=>keep2 hcu2 b _ e (fun z=>by rw [z,hkx] at e;cases e),R.wo.mono s2,R.pl.mono s2,R.fi.tups (Same.tups s2),R.tu.mono s2,R.mo.mono s2,⟨rs,(upd_ne cx).trans upd_same,pair_mono s2 prs⟩⟩⟩
def spEnter (K:PySem.W.Frag) (mg:Str→Option Value):Sp:=fun vs H Q E=>∃ a l F d wv pb Fq,vs=[.ref a,.str (Deed.word d),wv,.ref pb]∧LRep K mg H a l F∧WhatA K H wv d∧PRep K mg Fq H pb (l.ps.after d)∧(∀ b,Fq b→¬ F b)∧(∀ b,Fq b→∃ o,H b=some o)∧(l.book.length<100→Reach (l.push d)) ∧
 (l.book.length<100→∀ r H' F',LRep K mg H' a (l.push d) F'→(∀ b,F' b→F b∨Fq b∨H b=none)→(∀ b o,H b=some o→¬ F b→¬ Fq b→H' b=some o)→Tups H H'→StandA K H' r (l.push d)→Q (.ref r) H')∧(100≤l.book.length→E (.ref (cOf mg "BookFull")) none H)
theorem Fit.enter {F Fq F':Addr→Prop} {H H3 H':Hp} (s:Same H H3) (nq:∀ b,Fq b→H b=none) (f:∀ b,F' b→F b∨Fq b∨H3 b=none) (k:∀ b o,H3 b=some o→¬ F b→¬ Fq b→H' b=some o) (t:Tups H3 H'):Fit F F' H H' where
 keep:=fun b o h n=>k b o (s b o h) n fun z=>by rw [nq b z] at h;cases h
 foot:=fun b z=>by
  rcases f b z with z | z | z
  ·exact .inl z
  ·exact .inr (nq b z)
  ·exact .inr (s.free z)
 tup:=fun b xs h=>t b xs (s b _ h)
theorem due1 {l:LS} {q:Req} (h:q.known l=false):due l q=some "UnknownWheel":=by unfold due;rw [if_pos h]
theorem due2 {l:LS} {q:Req} (h1:q.known l=true) (h:q.has l=false):due l q=some "NoTrain":=by unfold due;rw [if_neg (by rw [h1];decide),if_pos h]
theorem due3 {l:LS} {q:Req} (h1:q.known l=true) (h2:q.has l=true) (h:q.wrong l.ps=true):due l q=some "WrongNut":=by unfold due;rw [if_neg (by rw [h1];decide),if_neg (by rw [h2];decide),if_pos h]
theorem due4 {l:LS} {q:Req} (h1:q.known l=true) (h2:q.has l=true) (h3:q.wrong l.ps=false) (h:q.bad l.ps=true):due l q=some "BadNumber":=by unfold due;rw [if_neg (by rw [h1];decide),if_neg (by rw [h2];decide),if_neg (by rw [h3];decide),if_pos h]
theorem due5 {l:LS} {q:Req} (h1:q.known l=true) (h2:q.has l=true) (h3:q.wrong l.ps=false) (h4:q.bad l.ps=false) (h:q.meets l=false):due l q=some "NoMeeting":=by unfold due;rw [if_neg (by rw [h1];decide),if_neg (by rw [h2];decide),if_neg (by rw [h3];decide),if_neg (by rw [h4];decide),if_pos h]
theorem due6 {l:LS} {q:Req} (h1:q.known l=true) (h2:q.has l=true) (h3:q.wrong l.ps=false) (h4:q.bad l.ps=false) (h5:q.meets l=true):(l.book.length<100→due l q=none)∧(100≤l.book.length→due l q=some "BookFull"):=by
 unfold due
 rw [if_neg (by rw [h1];decide),if_neg (by rw [h2];decide),if_neg (by rw [h3];decide),if_neg (by rw [h4];decide),if_neg (by rw [h5];decide)]
 exact ⟨fun z=>if_neg (by omega),fun z=>if_pos z⟩
theorem deedQ.no {K:PySem.W.Frag} {mg:Str→Option Value} {H H':Hp} {a:Addr} {l:LS} {F:Addr→Prop} {q:Req} {Q:VK} {E:XK} {x:String} (D:deedQ K mg H a l F q Q E) (R:LRep K mg H a l F) (s:Same H H') (h:due l q=some x):E (.ref (cOf mg x)) none H':=D.2 x h H' F (R.same s) (Fit.of_same s)
theorem deedQ.enter {K:PySem.W.Frag} {mg:Str→Option Value} {H H3:Hp} {a:Addr} {l:LS} {F Fq:Addr→Prop} {q:Req} {Q:VK} {E:XK} {wv:V} {pb:Addr} (D:deedQ K mg H a l F q Q E) (R:LRep K mg H a l F) (s:Same H H3) (nq:∀ b,Fq b→H b=none) (aq:∀ b,Fq b→∃ o,H3 b=some o)
  (d:(l.book.length<100→due l q=none)∧(100≤l.book.length→due l q=some "BookFull")) (hw:WhatA K H3 wv q.deed) (Rb:PRep K mg Fq H3 pb (l.ps.after q.deed)):spEnter K mg [.ref a,.str (Deed.word q.deed),wv,.ref pb] H3 Q E :=
 ⟨a,l,F,q.deed,wv,pb,Fq,rfl,R.same s,hw,Rb,(fun b z f=>by obtain ⟨o,h⟩:=R.at_ f;rw [nq b z] at h;cases h),aq,fun z=>Reach.step R.reach (d.1 z),
  fun z r H' F' R' f k t st=>D.1 (d.1 z) r H' F' R' (Fit.enter s nq f k t) st,fun z=>D.no R s (d.2 z)⟩
theorem made_same {H:Hp} {x dx:Addr} (nx:H x=none) (ndx:H dx=none) (o o':HO):Same H (upd (upd H dx o) x o'):=fun b _ e=>(upd_ne (ne_of_none e nx)).trans ((upd_ne (ne_of_none e ndx)).trans e)
theorem made_next {H2 H3:Hp} {x dx:Addr} {o o':HO} (nx:H2 x=none) (ndx:H2 dx=none) (k:∀ b u,upd (upd H2 dx o) x o' b=some u→b≠x→H3 b=some u):Same H2 H3:=fun b u e=>k b u (made_same nx ndx o o' b u e) (ne_of_none e nx)
theorem PRep.same {K:PySem.W.Frag} {mg:Str→Option Value} {Fp:Addr→Prop} {H H':Hp} {a:Addr} {p:PS} (h:PRep K mg Fp H a p) (s:Same H H'):PRep K mg Fp H' a p:=h.frame (fun b o _ e=>s b o e) (Same.tups s)
theorem init_rep {K:PySem.W.Frag} {mg:Str→Option Value} {H7 H10:Hp} {x dx M px pdx e0 N cu bx bdx ea:Addr} {rv:V} {ws:List Int} {n:Int} (G:GoodShop ws n) (hM:H7 M=some (.tup (ws.map V.int))) (Mx:M≠x) (hob:H7 px=some (.ins (cOf mg "Piece") pdx (pcF e0 rv N N false .non N N cu))) (he0:H7 e0=some (.tup [])) (e0x:e0≠x)
  (hcu:H7 cu=some (.lst [])) (hrv:FrM H7 rv none) (pxx:px≠x) (cux:cu≠x) (hN:SqT K (fun _=>none) N [.int 0,.int 1]) (kx:∀ b o,H7 b=some o→b≠x→H10 b=some o) (hbx:H10 bx=some (.ins (cOf mg "Book") bdx [("entries",.ref ea)])) (hea:H10 ea=some (.lst []))
  (bxx:bx≠x) (eax:ea≠x) (nb:H7 bx=none) (ne:H7 ea=none):LRep K mg (upd H10 x (.ins (cOf mg "Lathe") dx (laF M n px bx))) x ⟨ws,n,[]⟩ (fun b=>b=x∨b=px∨b=cu∨b=bx∨b=ea):=by
 have k:∀ b o,H7 b=some o→b≠x→upd H10 x (.ins (cOf mg "Lathe") dx (laF M n px bx)) b=some o:=fun b o e z=>(upd_ne z).trans (kx b o e z)
 have fN:∀ H':Hp,FrA K H' N (0,1):=fun _=>.inr hN
 refine ⟨fun b=>b=px∨b=cu,dx,M,px,bx,bdx,ea,[],.new G,upd_same,k _ _ hM Mx,(upd_ne bxx).trans hbx,(upd_ne eax).trans hea,.inl rfl,.inr (.inr (.inr (.inl rfl))),.inr (.inr (.inr (.inr rfl))),fun b z=>z.elim (fun z=>.inr (.inl z)) fun z=>.inr (.inr (.inl z)),fun z=>z.elim (fun z=>pxx z.symm) fun z=>cux z.symm,fun z=>z.elim (fun z=>?_) fun z=>?_,fun z=>z.elim (fun z=>?_) fun z=>?_,fun b z=>?_,⟨rfl,fun i d v h=>by simp at h⟩,?_⟩
 ·rw [z,hob] at nb;cases nb
 ·rw [z,hcu] at nb;cases nb
 ·rw [z,hob] at ne;cases ne
 ·rw [z,hcu] at ne;cases ne
 ·rcases z with rfl | rfl | rfl | rfl | rfl
  ·exact ⟨_,upd_same⟩
  ·exact ⟨_,k _ _ hob pxx⟩
  ·exact ⟨_,k _ _ hcu cux⟩
  ·exact ⟨_,(upd_ne bxx).trans hbx⟩
  ·exact ⟨_,(upd_ne eax).trans hea⟩
 ·have hr:rv = .non:=hrv
  subst hr
  exact ⟨pdx,e0,.non,N,N,.non,N,N,cu,k _ _ hob pxx,.inl rfl,.inr rfl,.inl (k _ _ he0 e0x),rfl,fN _,fN _,.inl ⟨rfl,rfl⟩,fN _,fN _,⟨[],k _ _ hcu cux,.nil⟩⟩
theorem up3 {H2:Hp} {x e0 b:Addr} {o1 o2 u:HO} (he0:upd (upd H2 x o1) x o2 e0=none) (o3:HO) (nb:b≠x) (e:H2 b=some u):upd (upd (upd H2 x o1) x o2) e0 o3 b=some u:=by
 have e4:upd (upd H2 x o1) x o2 b=some u:=(upd_ne nb).trans ((upd_ne nb).trans e)
 exact (upd_ne (ne_of_none e4 he0)).trans e4
theorem up8 {H7:Hp} {x bx bdx ea b:Addr} {o1 o2 o3 o4 o5 u:HO} (nbx:upd H7 x o1 bx=none) (nbdx:upd H7 x o1 bdx=none) (hea:upd (upd (upd H7 x o1) bdx o2) bx o3 ea=none) (nb:b≠x) (e:H7 b=some u):upd (upd (upd (upd (upd H7 x o1) bdx o2) bx o3) ea o4) bx o5 b=some u:=by
 have e8:upd H7 x o1 b=some u:=(upd_ne nb).trans e
 have e9:=made_same nbx nbdx o2 o3 b u e8
 exact (upd_ne (ne_of_none e8 nbx)).trans ((upd_ne (ne_of_none e9 hea)).trans e9)
theorem keep1 {H H2 H3:Hp} {b:Addr} (s:Same H H2) (nb:H b=none) (k:∀ z o,H2 z=some o→z≠b→H3 z=some o):Same H H3:=fun z o h=>k z o (s z o h) (ne_of_none h nb)
theorem aq1 {H2 H3:Hp} {b:Addr} {Fq:Addr→Prop} (aq:∀ z,Fq z→∃ o,H2 z=some o) (k:∀ z o,H2 z=some o→z≠b→H3 z=some o) (h:∃ o,H3 b=some o):∀ z,Fq z→∃ o,H3 z=some o:=fun z f=>by
 by_cases e:z=b
 ·rw [e];exact h
 ·obtain ⟨o,h⟩:=aq z f;exact ⟨o,k z o h e⟩
theorem turn_rep {K:PySem.W.Frag} {mg:Str→Option Value} {Fp:Addr→Prop} {H H5:Hp} {a:Addr} {p:PS} {dx t rr w c:Addr} {fv:V} {tc mc cu n1 n2 c':Addr} {ts:List Int} {x y:Int} (R:PRepA K mg Fp H a p dx t (.ref rr) w c fv tc mc cu) (P:Pc p ts) (y1:1≤y) (k:∀ b o,H b=some o→b≠a→H5 b=some o)
  (ob:H5 a=some (.ins (cOf mg "Piece") dx (pcF t (.ref rr) n1 c' p.closed fv n2 mc cu))) (hw:H5 n1=some (.tup [.int (qadd p.work (x,y)).1,.int (qadd p.work (x,y)).2])) (hm:H5 n2=some (.tup [.int (qadd p.turned (qabs (x,y))).1,.int (qadd p.turned (qabs (x,y))).2]))
  (hc:p.closed=true→H5 c'=some (.tup [.int (qadd p.place (qmul (ratio ts) (x,y))).1,.int (qadd p.place (qmul (ratio ts) (x,y))).2])) (hc2:p.closed=false→c'=c):PRep K mg Fp H5 a (p.turn (red x y)):=by
 have y0:y≠0:=by omega
 have ha:=red_ok (t:=x) y0
 have ro:=P.tr.rok
 have er:=P.rr
 have t5:Tups H H5:=fun b xs e=>k b _ e fun z=>by rw [z,R.ob] at e;cases e
 obtain ⟨rs,hrs,prs⟩:=R.cu
 have hca:cu≠a:=fun z=>by rw [z,R.ob] at hrs;cases hrs
 rw [qadd_red P.w.ne y0] at hw
 rw [qadd_abs P.t.ne (by omega)] at hm
 have mo:=qmul_ok (b:=red x y) ro.ne ha.ne
 have vm:qv (qmul (ratio ts) (red x y))=qv (ratio ts) * qv (red x y):=qv_mul ro.ne ha.ne
 have vw:qv (qadd p.work (red x y))=qv p.work + qv (red x y):=qv_add P.w.ne ha.ne
 refine ⟨dx,t,.ref rr,n1,c',fv,n2,mc,cu,ob,R.fa,R.fc,R.tr.tups t5,R.ra.tups t5,.inl hw,?_,?_,.inl hm,R.mo.tups t5,⟨rs,k _ _ hrs hca,pair_tups t5 prs⟩⟩
 ·show FrA K H5 c' (if p.closed then qadd p.place (qmul p.r (red x y)) else p.place)
  cases cl:p.closed with
  | true =>
   have h:=hc cl
   rw [qmul_red ro.ne y0] at h
   rw [if_pos rfl,er]
   exact .inl h
  | false =>
   rw [if_neg Bool.false_ne_true,hc2 cl]
   exact R.pl.tups t5
 ·rcases R.fi with ⟨ho,hv⟩ | ⟨o,f1,c1,w1,u,v,ho,hv,hf,hc1,hw1,Fo,he⟩
  ·refine .inl ⟨?_,hv⟩
   show (if p.closed then p.off else p.off.map _)=none
   rw [ho];split <;> rfl
  ·have FO:FirstOk (p.turn (red x y)) u v:=⟨Fo.ox,Fo.oy,Fo.wx,Fo.wy,Fo.bx,Fo.bY⟩
   have et:ratio p.train=ratio ts:=by rw [P.et]
   cases cl:p.closed with
   | true =>
    refine .inr ⟨o,f1,c1,w1,u,v,?_,hv,t5 _ _ hf,hc1.tups t5,hw1.tups t5,FO,?_⟩
    ·show (if p.closed then p.off else p.off.map _)=some o
     rw [cl,if_pos rfl,ho]
    ·show qv o=qv (if p.closed then qadd p.place (qmul p.r (red x y)) else p.place) - qv u - qv (ratio p.train) * (qv (qadd p.work (red x y)) - qv v)
     rw [cl,if_pos rfl,er,qv_add P.pl.ne mo.ne,vm,vw,he,et]
     grind
   | false =>
    refine .inr ⟨qadd o (qneg (qmul (ratio ts) (red x y))),f1,c1,w1,u,v,?_,hv,t5 _ _ hf,hc1.tups t5,hw1.tups t5,FO,?_⟩
    ·show (if p.closed then p.off else p.off.map _)=_
     rw [cl,if_neg Bool.false_ne_true,ho,er];rfl
    ·show qv (qadd o (qneg (qmul (ratio ts) (red x y))))=qv (if p.closed then qadd p.place (qmul p.r (red x y)) else p.place) - qv u - qv (ratio p.train) * (qv (qadd p.work (red x y)) - qv v)
     rw [cl,if_neg Bool.false_ne_true,qv_add (P.o o ho).ne (qneg_ok mo).ne,qv_neg,vm,vw,he,et]
     grind
theorem Pc.more {p:PS} {ts:List Int} (P:Pc p ts) {k:Int} (b:Bd 64 k):Pc { p with cuts:=p.cuts++[(k,k * (ratio ts).2 % (ratio ts).1)] } ts :=
 ⟨P.tr,P.nd,P.et,P.ep,P.w,P.pl,P.t,P.m,P.o,P.dw,P.dt,P.dp,P.dm,P.dx,P.lw,P.t0,P.t1,P.m0,P.m1,P.lp,P.lo,P.cl,fun c hc=>by
  have hc:c∈p.cuts++[(k,k * (ratio ts).2 % (ratio ts).1)]:=hc
  rcases List.mem_append.mp hc with z | z
  ·exact P.cu c z
  ·rw [List.mem_singleton.mp z];exact ⟨rfl,b⟩⟩
theorem cut_rep {K:PySem.W.Frag} {mg:Str→Option Value} {Fp:Addr→Prop} {H H3:Hp} {a:Addr} {p:PS} {dx t:Addr} {rv:V} {w c:Addr} {fv:V} {tc mc cu m:Addr} {rs:List Addr} {e:Q2} (R:PRepA K mg Fp H a p dx t rv w c fv tc mc cu) (hrs:H cu=some (.lst (rs.map V.ref))) (prs:Paired (fun r t=>H r=some (.tup (t.map V.int))) rs (rowsOf p.cuts))
  (s3:Same H H3) (hm:H3 m=some (.tup [.int e.1,.int e.2])):PRep K mg Fp (upd H3 cu (.lst (rs.map V.ref++[.ref m]))) a { p with cuts:=p.cuts++[e] }:=by
 have hca:a≠cu:=fun z=>by have h:=R.ob;rw [z,hrs] at h;cases h
 have k:∀ b o,H b=some o→b≠cu→upd H3 cu (.lst (rs.map V.ref++[.ref m])) b=some o:=fun b o e n=>(upd_ne n).trans (s3 b o e)
 have t3:Tups H (upd H3 cu (.lst (rs.map V.ref++[.ref m]))):=fun b xs e=>k b _ e fun z=>by rw [z,hrs] at e;cases e
 refine ⟨dx,t,rv,w,c,fv,tc,mc,cu,k _ _ R.ob hca,R.fa,R.fc,R.tr.tups t3,R.ra.tups t3,R.wo.tups t3,R.pl.tups t3,(R.fi.tups t3).like rfl rfl rfl rfl,R.tu.tups t3,R.mo.tups t3,⟨rs++[m],by rw [upd_same,List.map_append];rfl,?_⟩⟩
 show Paired _ (rs++[m]) (rowsOf (p.cuts++[e]))
 rw [rowsOf,List.map_append]
 refine Paired.snoc (pair_tups t3 prs) ?_
 exact (upd_ne (fun z=>by rw [z,s3 _ _ hrs] at hm;cases hm)).trans hm
theorem count_bd {c:Q2} {x y:Int} (h1:Bd 1700 c.1) (h2:Bd 1700 c.2) (bx:Bd 200 x) (bY:Bd 200 y) (n1:c.2≠0) (n2:y≠0):Bd 2000 (qadd c (qabs (x,y))).1∧Bd 2000 (qadd c (qabs (x,y))).2:=by
 have L:=lt_is (t:=c.1 * y + (qabs (x,y)).1 * c.2) (b:=c.2 * y) (Int.mul_ne_zero n1 n2)
 have ba:Bd 200 (qabs (x,y)).1:=bx.le (by unfold qabs;dsimp only;split <;> omega)
 exact ⟨((h1.mul bY).add (ba.mul h2)).mono (show _≤2000 by decide) |>.le L.nx,((h2.mul bY).mono (show _≤2000 by decide)).le L.ny⟩
theorem cut_bottom {c:Q2} {x y:Int} (h:¬ (1≤y∧y≤1000)):(decide (y<1) || decide (1000<y) || decide (x≤0) || tooMuch c (x,y))=true:=by
 rcases Int.lt_or_le y 1 with z | z
 ·rw [decide_eq_true z];rfl
 ·rw [decide_eq_true (show 1000<y by omega),Bool.or_true];rfl
theorem cut_low {c:Q2} {x y:Int} (h:x≤0):(decide (y<1) || decide (1000<y) || decide (x≤0) || tooMuch c (x,y))=true:=by rw [decide_eq_true h,Bool.or_true];rfl
theorem cut_many {c:Q2} {x y:Int} (h:tooMuch c (x,y)=true):(decide (y<1) || decide (1000<y) || decide (x≤0) || tooMuch c (x,y))=true:=by rw [h,Bool.or_true]
theorem cut_none {c:Q2} {x y:Int} (h:1≤y∧y≤1000) (xp:¬ x≤0) (f:tooMuch c (x,y)=false):(decide (y<1) || decide (1000<y) || decide (x≤0) || tooMuch c (x,y))=false:=by rw [f,decide_eq_false (show ¬ y<1 by omega),decide_eq_false (show ¬ 1000<y by omega),decide_eq_false xp];rfl
theorem cuts_after (p:PS) (d:Deed):(p.after d).cuts.length≤p.cuts.length + 1:=by
 cases d with
 | mount ts=>exact Nat.zero_le _
 | cut a=>show (p.cuts++[_]).length≤_;rw [List.length_append];exact Nat.le_refl _
 | _=>exact Nat.le_succ _
theorem cuts_le (l:LS):l.ps.cuts.length≤l.book.length:=by
 have key:∀ (ds:List Deed) (p:PS),(ds.foldl PS.after p).cuts.length≤p.cuts.length + ds.length:=fun ds=>by
  induction ds with
  | nil=>exact fun p=>Nat.le_refl _
  | cons d ds ih=>intro p;have h1:=ih (p.after d);have h2:=cuts_after p d;rw [List.foldl_cons,List.length_cons];omega
 have h:=key l.book ps0
 have e:ps0.cuts.length=0:=rfl
 unfold LS.ps
 omega
theorem Reach.len {l:LS} (h:Reach l):l.book.length≤100:=by
 cases h with
 | new g=>exact Nat.zero_le _
 | step h d =>
  have r:=(due_none d).room
  show (_++[_]).length≤100
  rw [List.length_append,List.length_singleton];omega
def PS.screw (p:PS):Q2:=match p.pitch with
 | none=>(0,1)
 | some r=>qmul r p.work
section
variable {l:LS} {a:Q2}
theorem push_len {d:Deed}:(l.push d).book.length=l.book.length + 1:=by unfold LS.push;rw [List.length_append];rfl
end
theorem le_step {x y:Rat} {a b c:Int} (h1:x≤(a:Rat)) (h2:y≤(b:Rat)) (h:a + b≤c):x + y≤(c:Rat):=by
 have h3:((a + b:Int):Rat)≤(c:Rat):=by exact_mod_cast h
 rw [Rat.intCast_add] at h3
 grind
theorem le_most {x:Rat} {a:Int} (h1:x≤(a:Rat)) (h:a≤100000):x≤100000:=by
 have h3:(a:Rat)≤((100000:Int):Rat):=Rat.intCast_le_intCast.mpr h
 have e:((100000:Int):Rat)=100000:=rfl
 rw [e] at h3
 grind
theorem Pc.some {p:PS} {ts:List Int} (P:Pc p ts):p.pitch.isSome=true:=by rw [P.ep];rfl
theorem FrA.made {K:PySem.W.Frag} {H:Hp} {n:Addr} (_:H n=none) (x:Q2):FrA K (upd H n (.tup [.int x.1,.int x.2])) n x:=.inl upd_same
end My
namespace My
open PySem L2 Mt
def Booked (K:PySem.W.Frag) (H:Hp) (ds:List Deed) (rs:List Addr):Prop:=Paired (fun r d=>∃ wv,H r=some (.tup [.str (Deed.word d),wv])∧WhatA K H wv d) rs ds
def sF (t pi w pl:V) (c:Bool) (o cu tu mo:V):List (Key × V):=[(.inr "train",t),(.inr "pitch",pi),(.inr "work",w),(.inr "place",pl),(.inr "closed",.bl c),(.inr "off",o),(.inr "cuts",cu),(.inr "turned",tu),(.inr "moved",mo)]
section
variable {t pi w pl o cu tu mo v:V} {c b:Bool}
end
structure SRepA (K:PySem.W.Frag) (N:Addr→Prop) (H:Hp) (s:Addr) (p:PS) (t:Addr) (pi:V) (w pl:Addr) (o:V) (cu tu mo:Addr):Prop where
 ob:H s=some (.dK (sF (.ref t) pi (.ref w) (.ref pl) p.closed o (.ref cu) (.ref tu) (.ref mo)))
 ns:N s
 nc:N cu
 tr:TupK K H t (p.train.map V.int)
 pi':FrO K H pi p.pitch
 wo:FrA K H w p.work
 pl':FrA K H pl p.place
 of':FrO K H o p.off
 cu':TL H cu (rowsOf p.cuts)
 tu':FrA K H tu p.turned
 mo':FrA K H mo p.moved
def SRep (K:PySem.W.Frag) (N:Addr→Prop) (H:Hp) (s:Addr) (p:PS):Prop:=∃ t pi w pl o cu tu mo,SRepA K N H s p t pi w pl o cu tu mo
def Req.word (q:Req):Str:=Deed.word q.deed
end My
namespace L2
open PySem PySem.Spec PyProof.Rows
end L2
namespace My
open PySem L2 Mt
structure QtB (l:LS):Prop where
 tu:qv l.ps.turned≤((80000 + 200 * (l.book.length:Int):Int):Rat)
 mo:qv l.ps.moved≤((200 * (l.book.length:Int):Int):Rat)
inductive Qt:LS→Prop where
 | new {ws:List Int} {n:Int} (g:GoodShop ws n):Qt ⟨ws,n,[]⟩
 | step {l:LS} {q:Req} (h:Qt l) (d:due l q=none) (b:QtB (l.push q.deed)):Qt (l.push q.deed)
section
variable {l:LS} {ts:List Int}
end
def ShopO (F:Addr→Prop) (H:Hp) (W:Addr) (ws:List Int):Prop:=(H W=some (.lst (ws.map V.int))∨H W=some (.tup (ws.map V.int)))∧¬ F W
theorem ShopO.fit {F F':Addr→Prop} {H H':Hp} {W:Addr} {ws:List Int} (h:ShopO F H W ws) (f:Fit F F' H H'):ShopO F' H' W ws:=by
 obtain ⟨h | h,n⟩:=h
 ·exact ⟨.inl (f.keep _ _ h n),f.out h n⟩
 ·exact ⟨.inr (f.keep _ _ h n),f.out h n⟩
theorem ShopO.same {F:Addr→Prop} {H H':Hp} {W:Addr} {ws:List Int} (h:ShopO F H W ws) (s:Same H H'):ShopO F H' W ws:=⟨h.1.elim (fun h=>.inl (s _ _ h)) (fun h=>.inr (s _ _ h)),h.2⟩
theorem ShopO.sq {K:PySem.W.Frag} {F:Addr→Prop} {H:Hp} {W:Addr} {ws:List Int} (h:ShopO F H W ws):SqA K H W (ws.map V.int):=h.1.elim (fun h=>.inl (SqL.of h)) (fun h=>.inr (SqT.of h))
def ReqT (K:PySem.W.Frag) (H:Hp) (v:V):Req→Prop
 | .mount ts=>∃ t,v = .ref t∧TupK K H t (ts.map V.int)∧ts.length≤1000∧∀ v∈ts,Bd 200 v
 | .turn x y=>∃ t,v = .ref t∧FrA K H t (x,y)∧Bd 200 x∧Bd 200 y
 | .move x y=>∃ t,v = .ref t∧FrA K H t (x,y)∧Bd 200 x∧Bd 200 y
 | .cut x y=>∃ t,v = .ref t∧FrA K H t (x,y)∧Bd 200 x∧Bd 200 y
 | .wait=>v = .non
 | .close=>v = .non
 | .opn=>v = .non
end My
namespace My
open PySem L2 Mt
section
variable {K:PySem.W.Frag} {N:Addr→Prop} {G:Hp} {s:Addr} {p:PS} {t:Addr} {pi:V} {w pl:Addr} {o:V} {cu tu mo:Addr}
end
theorem red_zero {b:Int} (h:b≠0):red 0 b=(0,1):=qv_inj (red_ok h) ok_zero (by rw [qv_red h,qv_zero,show ((0:Int):Rat)=0 from rfl];grind)
end My
namespace My
open PySem L2 Mt
section
variable {i o w p v:Int}
end
section
variable {r:Q2} {x t b:Int}
end
end My
namespace PySem
namespace F
end F
section
variable {P:Program} {w:World} {A:Around} {E:Value→Shared→Prop} {s:Shared}
end
end PySem
namespace L2
open PySem PySem.Spec PyProof.Rows
section
variable {X:Cx}
end
end L2
namespace PySem
section
variable {P:Program} {w:World} {A:Around} {E:Value→Shared→Prop}
end
end PySem
namespace L2
open PySem PySem.Spec PyProof.Rows
end L2
namespace My
open PySem L2 Mt
structure Stk (K:PySem.W.Frag) (N:Addr→Prop) (H:Hp) (l:LS) (ss:List Addr):Prop where
 len:ss.length=l.book.length + 1
 at_:∀ i s,ss[i]? = some s→SRep K N H s (psOf (l.book.take i))
section
variable {K:PySem.W.Frag} {N N':Addr→Prop} {H H':Hp} {l:LS} {ss:List Addr}
end
def NoE2 (F:Addr→Prop) (E L:Addr):Addr→Prop:=fun b=>¬ F b∧b≠E∧b≠L
section
variable {K:PySem.W.Frag} {mg:Str→Option Value} {F F':Addr→Prop} {E L:Addr} {H H':Hp} {l:LS} {ss:List Addr} {s:Addr} {p:PS}
end
section
variable {o r x:Q2} {n mk k:Int}
end
end My
namespace My
open PySem L2 Mt
def allL:Nat→(List Value→Prop)→Prop
 | 0,P=>P []
 | n + 1,P=>∀ x,allL n fun l=>P (x::l)
theorem allL_of:∀ {n:Nat} {P:List Value→Prop},allL n P→∀ us:List Value,us.length=n→P us
 | 0,_,h,[],_=>h
 | n + 1,P,h,x::us,e=>allL_of (n:=n) (P:=fun l=>P (x::l)) (h x) us (Nat.succ.inj e)
def BindD (nm qual:Str) (st:Stmt) (ps:List Str):Prop:=∀ (kV doc pm:Value) (an:Option Addr) (cdv ct:Value),allL ps.length fun us=>bindArgs (PySem.W.fnOf nm qual (defArgs st) (defBody st) (defScope st) .none kV doc pm an cdv ct) ⟨us,[]⟩=pure (ps.zip us)
theorem BindD.all {nm qual:Str} {st:Stmt} {ps:List Str} (b:BindD nm qual st ps) (kV doc pm:Value) (an:Option Addr) (cdv ct:Value) (us:List Value) (e:us.length=ps.length):bindArgs (PySem.W.fnOf nm qual (defArgs st) (defBody st) (defScope st) .none kV doc pm an cdv ct) ⟨us,[]⟩=pure (ps.zip us):=allL_of (b kV doc pm an cdv ct) us e
section
variable {K:PySem.W.Frag} {mg:Str→Option Value} {h:Heap} {nm qual:Str} {st:Stmt} {ps:List Str} {f C B:Addr} {cv bv:Addr} {oc:Value} {od an:Option Addr} {osl:Array (Option Value)} {kV doc pm cdv ct:Value}
theorem tx_c {g:Prop} (X:K.In h) (G:h.Ns mainGlobals mg) (a:PySem.W.nsIn K mainGlobals nm=some (some (.ref C))) (k:cOf mg nm=C∧mg nm=some (.ref (cOf mg nm))→g):g:=by
 have e:=PySem.W.mg_of X G a
 have c:=cOf_of e
 exact k ⟨c,by rw [c];exact e⟩
theorem tx_h (X:K.In h) (G:h.Ns mainGlobals mg) (a:PySem.W.nsIn K mainGlobals nm=some (some (.ref f))) (l:K.lookup f=some ⟨oc,od,.func (PySem.W.fnOf nm nm (defArgs st) (defBody st) (defScope st) .none kV doc pm an cdv ct),osl⟩) (c:PySem.W.codeIn K cdv nm=true) (k:PySem.W.keepIn K (.ref f)=true)
  (b:BindD nm nm st ps):Here K mg nm st ps:=⟨_,_,fun_mk l c k,PySem.W.mg_of X G a,(fun_mk (st:=st) l c k).binds b.all⟩
theorem tx_m (e:cv=C) (a:PySem.W.findIn K (.ref C) nm=some (some (.ref f))) (i:PySem.W.isFn K (.ref f)=true) (l:K.lookup f=some ⟨oc,od,.func (PySem.W.fnOf nm qual (defArgs st) (defBody st) (defScope st) .none kV doc pm an cdv ct),osl⟩) (c:PySem.W.codeIn K cdv qual=true) (k:PySem.W.keepIn K (.ref f)=true)
  (b:BindD nm qual st ps):HereM K cv nm qual st ps:=by subst e;exact ⟨_,_,fun_mk l c k,⟨a,i,k⟩,(fun_mk (st:=st) l c k).binds b.all⟩
theorem tx_i (e:cv=C) (mk:PySem.W.makesIn K C=true) (kc:PySem.W.keepIn K (.ref C)=true) (a:PySem.W.findIn K (.ref C) "__init__" = some (some (.ref f))) (i:PySem.W.isFn K (.ref f)=true) (l:K.lookup f=some ⟨oc,od,.func (PySem.W.fnOf "__init__" qual (defArgs st) (defBody st) (defScope st) .none kV doc pm an cdv ct),osl⟩) (c:PySem.W.codeIn K cdv qual=true) (k:PySem.W.keepIn K (.ref f)=true)
  (b:BindD "__init__" qual st ps):HereI K cv qual st ps:=by subst e;exact ⟨_,_,fun_mk l c k,⟨mk,a,i,kc⟩,(fun_mk (st:=st) l c k).binds b.all⟩
theorem tx_n {z:Int} {tk:Tok} (X:K.In h) (G:h.Ns mainGlobals mg) (a:PySem.W.nsIn K mainGlobals nm=some (some (.int z tk))):∃ u,mg nm=some u∧RelV (.int z) u:=⟨_,PySem.W.mg_of X G a,_,rfl⟩
theorem tx_t {x y:Int} {t u:Tok} {n:Nat} (e:cv=C) (l:K.lookup C=some ⟨.type "tuple",od,.seq #[.int x t,.int y u] n,osl⟩):SqT K (fun _=>none) cv [.int x,.int y]:=by subst e;exact sqt_k l (by show 2≤sizeLine;decide) (.cons ⟨_,rfl⟩ (.cons ⟨_,rfl⟩ .nil))
theorem tx_cl (e:cv=C) (p:PySem.W.plainGet K C Str.empty=true) (d:PySem.W.hasDictIn K C=true) (o:PySem.W.plainOver K C=true) (s:PySem.W.findIn K (.ref C) "__setattr__" = some (some (.builtin "object.__setattr__"))):Cls K cv:=by subst e;exact ⟨p,d,o,s⟩
theorem tx_na (e:cv=C) (n:PySem.W.findIn K (.ref C) nm=some none):NoAttr K cv nm:=by subst e;exact n
theorem tx_x (e:cv=C) (x:PySem.W.excIn K C veM "ValueError.__new__" = true):XCls K cv:=by subst e;exact x
end
end My
namespace My
open PySem L2 Mt
structure Hold (K:PySem.W.Frag) (mg:Str→Option Value) (x st E a W:Addr) (ns ws:List Int) (n:Int) (l ms mb:LS) (F:Addr→Prop) (H:Hp) (ss us:List Addr):Prop where
 R:LRep K mg H x l F
 oS:Ob F H st (.lst (ss.map V.ref))
 oE:Ob F H E (.lst (us.map V.ref))
 ne:st≠E
 Sk:Stk K (NoE2 F E st) H ms ss
 B:Booked K H mb.book us
 hO:SqO K F H a (ns.map V.int)
 hW:ShopO F H W ws
 aS:a≠st∨∀ H',SqL K H' a (ns.map V.int)
 aE:a≠E∨∀ H',SqL K H' a (ns.map V.int)
 wS:W≠st
 wE:W≠E
section
variable {K:PySem.W.Frag} {mg:Str→Option Value} {x st E a W:Addr} {ns ws:List Int} {n:Int} {l l' ms mb:LS} {F F':Addr→Prop} {H H':Hp} {ss us:List Addr}
end
end My
namespace My
open PySem L2 Mt
def S (ws:List Int) (f:Int→Nat):Nat:=(ws.map f).sum
def one (c:Prop) [Decidable c]:Nat:=if c then 1 else 0
def Dif (a b c d:Int):Prop:=a≠b∧c≠d∧a≠c∧a≠d∧b≠c∧b≠d
instance (a b c d:Int):Decidable (Dif a b c d):=by unfold Dif;exact inferInstance
def q4 (a c b d:Int):List (List Int):=if b<d∧b≠a∧b≠c∧d≠a∧d≠c then [[a * c,b * d]] else []
def q3 (ws:List Int) (a c b:Int):List (List Int):=ws.flatMap (q4 a c b)
def q2 (ws:List Int) (a c:Int):List (List Int):=if a<c then ws.flatMap (q3 ws a c) else []
def q1 (ws:List Int) (a:Int):List (List Int):=ws.flatMap (q2 ws a)
end My
namespace L2
open PySem PySem.Spec PyProof.Rows PySem.W
section
variable {prog:Program} {w:World} {A:Around} {E:Value→Shared→Prop} {s:Shared}
end
section
variable {X:Cx}
end
end L2
namespace L2
open PySem PySem.Spec PyProof.Rows PySem.SeqAt
section
variable {X:Cx}
end
end L2
namespace My
open PySem L2 Mt
end My
namespace HT
open PySem PySem.Spec PyProof.Rows L2
variable {prog:Program} {w:World} {A:Around} {E:Value→Shared→Prop} {s:Shared}
end HT
namespace L2
open PySem PySem.Spec PyProof.Rows
variable {X:Cx}
end L2
namespace My
open PySem L2 Mt
structure QnB (l:LS):Prop where
 tu:5 * qv l.ps.turned≤((499750 + 2 * (l.book.length:Int):Int):Rat)
 mo:qv l.ps.moved≤((2 * (l.book.length:Int):Int):Rat)
inductive Qn:LS→Prop where
 | new {ws:List Int} {n:Int} (g:GoodShop ws n):Qn ⟨ws,n,[]⟩
 | step {l:LS} {q:Req} (h:Qn l) (d:due l q=none) (b:QnB (l.push q.deed)):Qn (l.push q.deed)
section
variable {l:LS} {ts:List Int}
end
structure FillH (K:PySem.W.Frag) (mg:Str→Option Value) (x a t E st:Addr) (ns ts:List Int) (l:LS) (F0 F:Addr→Prop) (H0 H:Hp) (s:Addr) (us ss:List Addr):Prop where
 R:LRep K mg H x l F
 oE:Ob F H E (.lst (us.map V.ref))
 oS:Ob F H st (.lst (ss.map V.ref))
 ne:st≠E
 Sk:Stk K (NoE2 F E st) H l (ss++[s])
 B:Booked K H l.book us
 hO:SqO K F H a (ns.map V.int)
 aS:a≠st∨∀ H',SqL K H' a (ns.map V.int)
 aE:a≠E∨∀ H',SqL K H' a (ns.map V.int)
 ht:H t=some (.tup (ts.map V.int))
 fr:Fit F0 F H0 H
 nE:H0 E=none
 nS:H0 st=none
section
variable {K:PySem.W.Frag} {mg:Str→Option Value} {x a t E st:Addr} {ns ts:List Int} {l:LS} {F0 F F':Addr→Prop} {H0 H H':Hp} {s:Addr} {us ss:List Addr}
end
structure DeedT (K:PySem.W.Frag) (H:Hp) (rs:List Addr) (qs:List Req):Prop where
 len:rs.length=qs.length
 at_:∀ (i:Nat) (r:Addr),rs[i]? = some r→∃ q wv,qs[i]? = some q∧H r=some (.tup [.str (Req.word q),wv])∧ReqT K H wv q
section
variable {K:PySem.W.Frag} {H H':Hp} {rs:List Addr} {qs:List Req}
end
end My
namespace L2
open PySem PyProof.Rows
structure Rest where
 X:Cx
 ss:List Stmt
 t:TS
 p:PSs X ss t
end L2
namespace HT
open PySem PyProof.Rows
section
open PySem.SeqAt
open PySem.AutoSeq1 (wpAny_loadPart')
open PySem.MeetsSeq PySem.MeetsSeq2 PySem.MeetsSeq3
theorem tuple_lt_pair (l b:Addr) (n n2:Nat) (dd dd2:Option Addr) (sl sl2:Array (Option Value)) (a c:Int) (t u:Tok) (p q:Value) :
  Meets (Builtin.«tuple.__lt__» ⟨[.ref l,.ref b],[]⟩)
   (fun A R s=>s.heap.get? l=some { cls:=.type "tuple",dict:=dd,data:=.seq #[.int a t,p] n,slots:=sl }∧s.heap.get? b=some { cls:=.type "tuple",dict:=dd2,data:=.seq #[.int c u,q] n2,slots:=sl2 } ∧
    (c<a∨(a=c∧((EqAt A.in1 s p q false∧∀ prog w E Q,Q (.bool false) s→wpAny (model prog w) A.in1 (richCompare .Lt p q) Q E s)∨EqAt A.in1 s p q true)))∧R (.ok (.ret (.bool false))) s) :=
 .of_wp fun prog w A R s h=>by
  obtain ⟨hp,g,d,tk,os⟩:=s;obtain ⟨hl,hb,hc,h⟩:=h
  have f2:=AutoSeq1.sub_tuple_tuple
  wp_walk using wpAny_loadPart' hl,wpAny_loadPart' hb,wpAny_forIn_list _ (fun rest b s'=>b.1=none∧s'=⟨hp,g,d,tk,os⟩∧(rest=[(Value.int a t,Value.int c u),(p,q)]∨(a=c∧rest=[(p,q)])∨rest=[])) _
  case turn =>
   rintro ⟨y,x⟩ rest b s' ⟨hb',rfl,hr⟩
   rcases hr with hr | ⟨hac,hr⟩ | hr
   ·injection hr with hyx hrest
    injection hyx with hy hx
    subst hy hx
    obtain ⟨e,he,hiff⟩:=eqAt_int A.in1 ⟨hp,g,d,tk,os⟩ a t c u
    refine wpAny_bind (he prog w _ _ ?_)
    cases e with
    | true =>
     wp_walk
     exact ⟨rfl,rfl,.inr (.inl ⟨hiff.mp rfl,hrest⟩)⟩
    | false =>
     have ne:a≠c:=fun z=>absurd (hiff.mpr z) Bool.false_ne_true
     have lt:c<a:=by rcases hc with z | ⟨z,_⟩;exact z;exact absurd z ne
     have hri:=rcLt_int A.in1 ⟨hp,g,d,tk,os⟩ a t c u prog w
     wp_walk using hri
     exact ⟨_,rfl,by rw [decide_eq_false (by omega)];exact h⟩
   ·injection hr with hyx hrest
    injection hyx with hy hx
    subst hy hx
    rcases hc with z | ⟨_,⟨he,hg⟩ | he⟩
    ·omega
    ·refine wpAny_bind (he prog w _ _ ?_)
     have hri:=hg prog w
     wp_walk using hri
     exact ⟨_,rfl,h⟩
    ·refine wpAny_bind (he prog w _ _ ?_)
     wp_walk
     exact ⟨rfl,rfl,.inr (.inr hrest)⟩
   ·cases hr
  case fin =>
   rintro ⟨b1,b2⟩ s' ⟨hb',rfl,hr⟩
   simp only at hb'
   subst hb'
   wp_walk
   exact ⟨_,rfl,by simpa [Builtin.Tuple.tupleCompareSizes] using h⟩
  case h =>
   exact ⟨rfl,rfl,.inl rfl⟩
end
section
open PySem.SeqAt
variable {A:Around} {s:Shared}
theorem lt_tup_false {l b:Addr} {vs ws:List Value} {ns ms:List Int} (hl:IsTup s.heap l vs.toArray) (hb:IsTup s.heap b ws.toArray) (hi:IntsAre vs ns) (hj:IntsAre ws ms) (hu:A.units<cLine) (lt:lexLt ns ms=false)
  (prog:Program) (w:World) (E:Value→Shared→Prop) (Q:Value→Shared→Prop) (q:Q (.bool false) s):wpAny (model prog w) A (richCompare .Lt (.ref l) (.ref b)) Q E s:=by
 obtain ⟨⟨cls,dd,data,sl⟩,ho,hc,n,hd⟩:=id hl
 obtain ⟨⟨cls2,dd2,data2,sl2⟩,ho2,hc2,n2,hd2⟩:=id hb
 simp only at hc hd hc2 hd2
 subst hc hd hc2 hd2
 refine richCompare_meets_room (op:=.Lt) ⟨_,ho,rfl⟩ ⟨_,ho2,rfl⟩ PySem.F.slot_tuple_lt PySem.F.entry_tuple_lt (PySem.F.args_tuple_lt_2 _ _) (tuple_lt_ints l b vs.toArray ws.toArray n n2 dd dd2 sl sl2 ns ms (by simpa using hi) (by simpa using hj))
  ⟨ho,ho2,show Value.bool (lexLt ns ms)≠Value.notImplemented∧Q (.bool (lexLt ns ms)) s from ⟨(fun x=>nomatch x),by rw [lt];exact q⟩⟩ hu
end
end HT
namespace L2
open PySem PySem.Spec PyProof.Rows
section
variable {X:Cx}
def rLtP (K:PySem.W.Frag):R2:=fun x y H Q=>∃ (l b p q:Addr) (a c:Int) (ns ms:List Int),x = .ref l∧y = .ref b∧SqT K H l [.int a,.ref p]∧SqT K H b [.int c,.ref q]∧SqT K H p (ns.map V.int)∧SqT K H q (ms.map V.int) ∧
 (c<a∨(a=c∧((p≠q∧HT.lexLt ms ns=true)∨ns=ms)))∧Q (.bl false) H
theorem op_ltP (hu:X.A.units + 64<cLine):OpR X (compareOp .Lt) (rLtP X.K):=by
 intro pins s σ H x y v u Q I rx ry h
 obtain ⟨l,b,p,q,a,c,ns,ms,rfl,rfl,hl,hb,hp,hq,hc,k⟩:=h
 cases rx
 cases ry
 obtain ⟨i1,r1,t1,_⟩:=I.tuple hl
 obtain ⟨i2,r2,t2,_⟩:=I.tuple hb
 obtain ⟨i3,r3,t3,_⟩:=I.tuple hp
 obtain ⟨i4,r4,t4,_⟩:=I.tuple hq
 obtain ⟨v1,v2,rfl,⟨tk1,rfl⟩,e1⟩:=Vals.two r1
 obtain ⟨w1,w2,rfl,⟨tk2,rfl⟩,e2⟩:=Vals.two r2
 cases (show v2=Value.ref p from e1)
 cases (show w2=Value.ref q from e2)
 obtain ⟨⟨cls,dd,data,sl⟩,ho,hcl,n,hd⟩:=id t1
 obtain ⟨⟨cls2,dd2,data2,sl2⟩,ho2,hcl2,n2,hd2⟩:=id t2
 simp only at hcl hd hcl2 hd2
 subst hcl hd hcl2 hd2
 have fin:EP X pins σ Q (.bool false) s:=⟨.bl false,H,I,rfl,k⟩
 refine richCompare_meets_room (op:=.Lt) ⟨_,ho,rfl⟩ ⟨_,ho2,rfl⟩ PySem.F.slot_tuple_lt PySem.F.entry_tuple_lt (PySem.F.args_tuple_lt_2 _ _) (HT.tuple_lt_pair l b n n2 dd dd2 sl sl2 a c tk1 tk2 (.ref p) (.ref q))
  ⟨ho,ho2,?_,show Value.bool false≠Value.notImplemented∧EP X pins σ Q (.bool false) s from ⟨(fun x=>nomatch x),fin⟩⟩ (by omega)
 rcases hc with z | ⟨z,⟨ne,lt⟩ | rfl⟩
 ·exact .inl z
 ·have e1:ns≠ms:=fun e=>by rw [e] at lt;exact absurd lt (My.Lx.irr ms)
  have e2:HT.lexLt ns ms=false:=by
   cases h:HT.lexLt ns ms with
   | false=>rfl
   | true=>exact absurd lt (My.Lx.as h)
  refine .inr ⟨z,.inl ⟨HT.eq_tup_false t3 t4 (intsAre_of r3) (intsAre_of r4) ?_ e1 ne,HT.lt_tup_false t3 t4 (intsAre_of r3) (intsAre_of r4) ?_ e2⟩⟩
  ·show X.A.units + 1<cLine;omega
  ·show X.A.units + 1<cLine;omega
 ·refine .inr ⟨z,.inr ?_⟩
  refine same_eqAt (A:=X.A.in1) I 1 (x:=.ref p) (y:=.ref q) (by show X.A.units + 1 + 1<cLine;omega) (.inr ⟨p,q,_,_,rfl,rfl,hp,hq,rfl,fun j a b ha hb=>?_⟩) rfl rfl
  rw [ha] at hb
  cases hb
  refine ⟨rfl,?_⟩
  obtain ⟨i,_,rfl⟩:=List.mem_map.mp (List.mem_of_getElem? ha)
  rfl
def rEqTI (K:PySem.W.Frag):R2:=fun x y H Q=>∃ (p q:Addr) (ns ms:List Int),x = .ref p∧y = .ref q∧SqT K H p (ns.map V.int)∧SqT K H q (ms.map V.int)∧Q (.bl (decide (ns=ms))) H
theorem op_eqTI (hu:X.A.units + 4<cLine):OpR X (compareOp .Eq) (rEqTI X.K):=by
 intro pins s σ H x y u v Q I ru rv h
 obtain ⟨p,q,ns,ms,rfl,rfl,hp,hq,k⟩:=h
 cases (show u=Value.ref p from ru)
 cases (show v=Value.ref q from rv)
 obtain ⟨us,r1,t1,_⟩:=I.tuple hp
 obtain ⟨vs,r2,t2,_⟩:=I.tuple hq
 have hi:=intsAre_of r1
 have hj:=intsAre_of r2
 refine PySem.SeqAt.eq_tupleAt (e:=fun j=>ns.getD j 0 == ms.getD j 0) t1 t2 (by omega) (fun j h1 h2=>?_) ?_
 ·obtain ⟨t,e1⟩:=HT.ints_get hi (j:=j) (by simpa using h1)
  obtain ⟨w,e2⟩:=HT.ints_get hj (j:=j) (by simpa using h2)
  simp only [List.getElem_toArray]
  rw [e1,e2]
  exact PySem.SeqAt.EqAt.int_int _ _ _ _
 ·have l1:us.length=ns.length:=hi.length
  have l2:vs.length=ms.length:=hj.length
  have z:((List.range (min us.toArray.size vs.toArray.size)).all (fun j=>ns.getD j 0 == ms.getD j 0) && us.toArray.size == vs.toArray.size)=decide (ns=ms):=by
   by_cases e:ns=ms
   ·subst e
    rw [decide_eq_true rfl,Bool.and_eq_true]
    exact ⟨List.all_eq_true.mpr fun j _=>by simp,by simp;omega⟩
   ·rw [decide_eq_false e,Bool.eq_false_iff]
    intro h
    rw [Bool.and_eq_true] at h
    obtain ⟨h1,h2⟩:=h
    have l3:us.length=vs.length:=by simpa using h2
    refine e (List.ext_getElem (by omega) fun j a1 a2=>?_)
    have:=List.all_eq_true.mp h1 j (by rw [List.mem_range];simp;omega)
    simp only [beq_iff_eq] at this
    rw [List.getD_eq_getElem?_getD,List.getD_eq_getElem?_getD,List.getElem?_eq_getElem a1,List.getElem?_eq_getElem a2] at this
    exact this
  rw [z]
  exact ⟨.bl _,H,I,rfl,k⟩
end
end L2
namespace L2
open PySem PySem.Spec PyProof.Rows
theorem op_eqTIK {X:Cx} {K:PySem.W.Frag} (hK:X.K=K) (hu:X.A.units + 4<cLine):OpR X (compareOp .Eq) (rEqTI K):=by
 subst hK
 exact op_eqTI hu
theorem for_anyB {K:PySem.W.Frag} {a:Addr} {xs:List V} {g:TG} {tb:TS} {D:Ends} {σ:St} {H H0:Hp} (Pv:Nat→St→Hp→Prop) (hA:SqA K H0 a xs) (h0:Pv 0 σ H) (hk:∀ i τ G,Pv i τ G→Same H0 G)
  (hs:∀ i x τ G,xs[i]? = some x→Pv i τ G→g x τ G fun τ2 G2=>tb { D with nx:=Pv (i + 1),ct:=Pv (i + 1),bk:=D.nx } τ2 G2) (hd:∀ τ G,Pv xs.length τ G→D.nx τ G) :
  ((∃ ys,SqL K H a ys)∧Walk (Itl K a) g tb D σ H)∨((∃ ys,SqT K H a ys)∧Walk (Itt K a) g tb D σ H) :=
 hA.elim (fun h=>.inl ⟨⟨_,(hk _ _ _ h0).seq h⟩,for_list (xs:=xs) Pv h0 (fun i τ G _ p=>(hk i τ G p).seq h) hs hd⟩)
  fun h=>.inr ⟨⟨_,(hk _ _ _ h0).tup h⟩,for_tup (xs:=xs) Pv h0 (fun i τ G _ p=>(hk i τ G p).tup h) hs hd⟩
theorem comp_listE {K:PySem.W.Frag} {a:Addr} {xs:List V} {tt:TT} {te:TE} {σ:St} {H:Hp} {Qd:Hp→Prop} {D:Addr} (Pv:Nat→Hp→List V→Prop) (h0:Pv 0 (upd H D (.lst [])) []) (hl:∀ i H2 ys,Pv i H2 ys→SqL K H2 a xs∧H2 D=some (.lst ys))
  (hs:∀ i x H2 ys (kk:Hp→List V→Prop),(∀ H' ys',Pv (i + 1) H' ys'→kk H' ys')→xs[i]? = some x→Pv i H2 ys→tt (some x::σ) H2 fun b H4 =>
   if b=true then te (some x::σ) H4 fun v H5=>H5 D=some (.lst ys)∧ys.length<sizeLine∧kk (upd H5 D (.lst (ys++[v]))) (ys++[v]) else kk H4 ys)
  (hd:∀ H2 ys,Pv xs.length H2 ys→Qd H2) :
  ∃ W:Nat→Nat→Hp→List V→Prop,(∃ m,W 0 m (upd H D (.lst [])) [])∧∀ i m H2 ys,W i m H2 ys→H2 D=some (.lst ys)∧(((Itl K a).stop i H2∧Qd H2)∨((Itl K a).go i H2∧∀ x H3,(Itl K a).yld i H2 x H3→tt (some x::σ) H3 fun b H4 =>
   if b=true then te (some x::σ) H4 fun v H5=>H5 D=some (.lst ys)∧ys.length<sizeLine∧∃ m',m'<m∧W (i + 1) m' (upd H5 D (.lst (ys++[v]))) (ys++[v]) else ∃ m',m'<m∧W (i + 1) m' H4 ys)) :=
 comp_list (Q:=fun _ H=>Qd H) Pv h0 hl hs hd
end L2
namespace My
open PySem L2 Mt
def top (i:Nat):Stmt:=PySem.Challenge.pw_threadlathe_k37_whole_trains.main.body.getD i (.Pass ⟨0,0,0,0⟩)
abbrev s_f_greatest_divisor:Stmt:=top 13
theorem sc_f_greatest_divisor:FnScope ["a","b","rest"] ["a","b"] (defScope s_f_greatest_divisor):=⟨rfl,rfl,rfl,by decide +kernel,rfl,by decide +kernel,by decide +kernel⟩
abbrev s_f_least_terms:Stmt:=top 14
theorem sc_f_least_terms:FnScope ["top","bottom","divisor"] ["top","bottom"] (defScope s_f_least_terms):=⟨rfl,rfl,rfl,by decide +kernel,rfl,by decide +kernel,by decide +kernel⟩
abbrev s_f_sum_of:Stmt:=top 15
theorem sc_f_sum_of:FnScope ["a","b"] ["a","b"] (defScope s_f_sum_of):=⟨rfl,rfl,rfl,by decide +kernel,rfl,by decide +kernel,by decide +kernel⟩
abbrev s_f_difference:Stmt:=top 16
theorem sc_f_difference:FnScope ["a","b"] ["a","b"] (defScope s_f_difference):=⟨rfl,rfl,rfl,by decide +kernel,rfl,by decide +kernel,by decide +kernel⟩
abbrev s_f_product:Stmt:=top 17
theorem sc_f_product:FnScope ["a","b"] ["a","b"] (defScope s_f_product):=⟨rfl,rfl,rfl,by decide +kernel,rfl,by decide +kernel,by decide +kernel⟩
abbrev s_f_is_less:Stmt:=top 18
theorem sc_f_is_less:FnScope ["a","b"] ["a","b"] (defScope s_f_is_less):=⟨rfl,rfl,rfl,by decide +kernel,rfl,by decide +kernel,by decide +kernel⟩
abbrev s_f_remainder:Stmt:=top 19
theorem sc_f_remainder:FnScope ["a","b"] ["a","b"] (defScope s_f_remainder):=⟨rfl,rfl,rfl,by decide +kernel,rfl,by decide +kernel,by decide +kernel⟩
abbrev s_f_groove_of:Stmt:=top 21
theorem sc_f_groove_of:FnScope ["ratio","closing","least"] ["ratio","closing"] (defScope s_f_groove_of):=⟨rfl,rfl,rfl,by decide +kernel,rfl,by decide +kernel,by decide +kernel⟩
abbrev s_f_reading_of:Stmt:=top 23
theorem sc_f_reading_of:FnScope ["off","teeth"] ["off","teeth"] (defScope s_f_reading_of):=⟨rfl,rfl,rfl,by decide +kernel,rfl,by decide +kernel,by decide +kernel⟩
abbrev s_f_plain_ratio:Stmt:=top 25
theorem sc_f_plain_ratio:FnScope ["train"] ["train"] (defScope s_f_plain_ratio):=⟨rfl,rfl,rfl,by decide +kernel,rfl,by decide +kernel,by decide +kernel⟩
abbrev s_f_ratio_of:Stmt:=top 26
theorem sc_f_ratio_of:FnScope ["train","ratio"] ["train"] (defScope s_f_ratio_of):=⟨rfl,rfl,rfl,by decide +kernel,rfl,by decide +kernel,by decide +kernel⟩
abbrev s_f_pairs_of:Stmt:=top 27
theorem sc_f_pairs_of:FnScope ["teeth","pairs","driver","driven"] ["teeth"] (defScope s_f_pairs_of):=⟨rfl,rfl,rfl,by decide +kernel,rfl,by decide +kernel,by decide +kernel⟩
abbrev s_f_fours_of:Stmt:=top 28
theorem sc_f_fours_of:FnScope ["pairs","fours","front","back"] ["pairs"] (defScope s_f_fours_of):=⟨rfl,rfl,rfl,by decide +kernel,rfl,by decide +kernel,by decide +kernel⟩
abbrev s_f_all_trains:Stmt:=top 29
theorem sc_f_all_trains:FnScope ["wheels","pairs"] ["wheels"] (defScope s_f_all_trains):=⟨rfl,rfl,rfl,by decide +kernel,rfl,by decide +kernel,by decide +kernel⟩
abbrev s_f_scaled_gap:Stmt:=top 30
theorem sc_f_scaled_gap:FnScope ["ratio","pitch"] ["ratio","pitch"] (defScope s_f_scaled_gap):=⟨rfl,rfl,rfl,by decide +kernel,rfl,by decide +kernel,by decide +kernel⟩
abbrev s_f_suits_better:Stmt:=top 31
theorem sc_f_suits_better:FnScope ["ratio","other","pitch","gap","other_gap"] ["ratio","other","pitch"] (defScope s_f_suits_better):=⟨rfl,rfl,rfl,by decide +kernel,rfl,by decide +kernel,by decide +kernel⟩
abbrev s_f_choose_train:Stmt:=top 32
theorem sc_f_choose_train:FnScope ["wheels","pitch","trains","chosen","train"] ["wheels","pitch"] (defScope s_f_choose_train):=⟨rfl,rfl,rfl,by decide +kernel,rfl,by decide +kernel,by decide +kernel⟩
abbrev s_f_counted:Stmt:=top 35
theorem sc_f_counted:FnScope ["count","amount"] ["count","amount"] (defScope s_f_counted):=⟨rfl,rfl,rfl,by decide +kernel,rfl,by decide +kernel,by decide +kernel⟩
abbrev s_f_is_within:Stmt:=top 41
theorem sc_f_is_within:FnScope ["number","least","most"] ["number","least","most"] (defScope s_f_is_within):=⟨rfl,rfl,rfl,by decide +kernel,rfl,by decide +kernel,by decide +kernel⟩
abbrev s_f_has_two_alike:Stmt:=top 42
theorem sc_f_has_two_alike:FnScope ["wheels"] ["wheels"] (defScope s_f_has_two_alike):=⟨rfl,rfl,rfl,by decide +kernel,rfl,by decide +kernel,by decide +kernel⟩
abbrev s_f_check_shop:Stmt:=top 43
theorem sc_f_check_shop:FnScope ["wheels","wheel"] ["wheels"] (defScope s_f_check_shop):=⟨rfl,rfl,rfl,by decide +kernel,rfl,by decide +kernel,by decide +kernel⟩
abbrev s_f_check_dial:Stmt:=top 44
theorem sc_f_check_dial:FnScope ["teeth"] ["teeth"] (defScope s_f_check_dial):=⟨rfl,rfl,rfl,by decide +kernel,rfl,by decide +kernel,by decide +kernel⟩
abbrev s_f_check_known:Stmt:=top 45
theorem sc_f_check_known:FnScope ["shop","train","wheel"] ["shop","train"] (defScope s_f_check_known):=⟨rfl,rfl,rfl,by decide +kernel,rfl,by decide +kernel,by decide +kernel⟩
abbrev s_f_check_train:Stmt:=top 46
theorem sc_f_check_train:FnScope ["train"] ["train"] (defScope s_f_check_train):=⟨rfl,rfl,rfl,by decide +kernel,rfl,by decide +kernel,by decide +kernel⟩
abbrev s_f_check_mounted:Stmt:=top 47
theorem sc_f_check_mounted:FnScope ["piece"] ["piece"] (defScope s_f_check_mounted):=⟨rfl,rfl,rfl,by decide +kernel,rfl,by decide +kernel,by decide +kernel⟩
abbrev s_f_check_nut_open:Stmt:=top 48
theorem sc_f_check_nut_open:FnScope ["piece"] ["piece"] (defScope s_f_check_nut_open):=⟨rfl,rfl,rfl,by decide +kernel,rfl,by decide +kernel,by decide +kernel⟩
abbrev s_f_check_nut_closed:Stmt:=top 49
theorem sc_f_check_nut_closed:FnScope ["piece"] ["piece"] (defScope s_f_check_nut_closed):=⟨rfl,rfl,rfl,by decide +kernel,rfl,by decide +kernel,by decide +kernel⟩
abbrev s_f_check_bottom:Stmt:=top 50
theorem sc_f_check_bottom:FnScope ["fraction"] ["fraction"] (defScope s_f_check_bottom):=⟨rfl,rfl,rfl,by decide +kernel,rfl,by decide +kernel,by decide +kernel⟩
abbrev s_f_check_count:Stmt:=top 51
theorem sc_f_check_count:FnScope ["count","amount"] ["count","amount"] (defScope s_f_check_count):=⟨rfl,rfl,rfl,by decide +kernel,rfl,by decide +kernel,by decide +kernel⟩
abbrev s_f_check_pitch:Stmt:=top 52
theorem sc_f_check_pitch:FnScope ["pitch"] ["pitch"] (defScope s_f_check_pitch):=⟨rfl,rfl,rfl,by decide +kernel,rfl,by decide +kernel,by decide +kernel⟩
abbrev s_l_at:Stmt:=top 55
theorem sc_l_at:FnScope ["_law_script","_law_k"] ["_law_script","_law_k"] (defScope s_l_at):=⟨rfl,rfl,rfl,by decide +kernel,rfl,by decide +kernel,by decide +kernel⟩
abbrev s_l_draw:Stmt:=top 56
theorem sc_l_draw:FnScope ["_law_script","_law_k","_law_cell"] ["_law_script","_law_k"] (defScope s_l_draw):=⟨rfl,rfl,rfl,by decide +kernel,rfl,by decide +kernel,by decide +kernel⟩
abbrev s_l_whole:Stmt:=top 57
theorem sc_l_whole:FnScope ["_law_found"] ["_law_found"] (defScope s_l_whole):=⟨rfl,rfl,rfl,by decide +kernel,rfl,by decide +kernel,by decide +kernel⟩
abbrev s_l_gcd:Stmt:=top 58
theorem sc_l_gcd:FnScope ["_law_a","_law_b"] ["_law_a","_law_b"] (defScope s_l_gcd):=⟨rfl,rfl,rfl,by decide +kernel,rfl,by decide +kernel,by decide +kernel⟩
abbrev s_l_shop:Stmt:=top 59
theorem sc_l_shop:FnScope ["_law_cell","_law_many","_law_made","_law_left","_law_k","_law_tooth"] ["_law_cell","_law_many"] (defScope s_l_shop):=⟨rfl,rfl,rfl,by decide +kernel,rfl,by decide +kernel,by decide +kernel⟩
abbrev s_l_pick:Stmt:=top 60
theorem sc_l_pick:FnScope ["_law_cell","_law_wheels","_law_many","_law_left","_law_rest","_law_made","_law_k"] ["_law_cell","_law_wheels","_law_many"] (defScope s_l_pick):=⟨rfl,rfl,rfl,by decide +kernel,rfl,by decide +kernel,by decide +kernel⟩
abbrev s_l_ratio:Stmt:=top 61
theorem sc_l_ratio:FnScope ["_law_train","_law_top","_law_bottom"] ["_law_train"] (defScope s_l_ratio):=⟨rfl,rfl,rfl,by decide +kernel,rfl,by decide +kernel,by decide +kernel⟩
abbrev s_l_red:Stmt:=top 62
theorem sc_l_red:FnScope ["_law_top","_law_bottom","_law_shared"] ["_law_top","_law_bottom"] (defScope s_l_red):=⟨rfl,rfl,rfl,by decide +kernel,rfl,by decide +kernel,by decide +kernel⟩
abbrev s_l_add:Stmt:=top 63
theorem sc_l_add:FnScope ["_law_a","_law_b"] ["_law_a","_law_b"] (defScope s_l_add):=⟨rfl,rfl,rfl,by decide +kernel,rfl,by decide +kernel,by decide +kernel⟩
abbrev s_l_mul:Stmt:=top 64
theorem sc_l_mul:FnScope ["_law_a","_law_b"] ["_law_a","_law_b"] (defScope s_l_mul):=⟨rfl,rfl,rfl,by decide +kernel,rfl,by decide +kernel,by decide +kernel⟩
abbrev s_l_is:Stmt:=top 65
theorem sc_l_is:FnScope ["_law_found","_law_due","_law_k"] ["_law_found","_law_due"] (defScope s_l_is):=⟨rfl,rfl,rfl,by decide +kernel,rfl,by decide +kernel,by decide +kernel⟩
abbrev s_l_any_shop:Stmt:=top 66
theorem sc_l_any_shop:FnScope ["_law_script","_law_k","_law_cell","_law_far","_law_many","_law_pool"] ["_law_script","_law_k"] (defScope s_l_any_shop):=⟨rfl,rfl,rfl,by decide +kernel,rfl,by decide +kernel,by decide +kernel⟩
abbrev s_l_lathe_shop:Stmt:=top 67
theorem sc_l_lathe_shop:FnScope ["_law_script","_law_wheels"] ["_law_script"] (defScope s_l_lathe_shop):=⟨rfl,rfl,rfl,by decide +kernel,rfl,by decide +kernel,by decide +kernel⟩
abbrev s_l_teeth:Stmt:=top 68
theorem sc_l_teeth:FnScope ["_law_script"] ["_law_script"] (defScope s_l_teeth):=⟨rfl,rfl,rfl,by decide +kernel,rfl,by decide +kernel,by decide +kernel⟩
abbrev s_l_good_train:Stmt:=top 69
theorem sc_l_good_train:FnScope ["_law_cell","_law_wheels","_law_many"] ["_law_cell","_law_wheels"] (defScope s_l_good_train):=⟨rfl,rfl,rfl,by decide +kernel,rfl,by decide +kernel,by decide +kernel⟩
abbrev s_l_asked_pitch:Stmt:=top 70
theorem sc_l_asked_pitch:FnScope ["_law_script","_law_wheels","_law_cell","_law_far","_law_pitch","_law_one","_law_two","_law_bottom"] ["_law_script","_law_wheels"] (defScope s_l_asked_pitch):=⟨rfl,rfl,rfl,by decide +kernel,rfl,by decide +kernel,by decide +kernel⟩
abbrev s_l_choices:Stmt:=top 71
theorem sc_l_choices:FnScope ["_law_wheels","_law_made","_law_a","_law_b","_law_c","_law_d"] ["_law_wheels"] (defScope s_l_choices):=⟨rfl,rfl,rfl,by decide +kernel,rfl,by decide +kernel,by decide +kernel⟩
abbrev s_l_best:Stmt:=top 72
theorem sc_l_best:FnScope ["_law_wheels","_law_pitch","_law_train","_law_choices_here","_law_told","_law_top","_law_bottom","_law_gap","_law_a","_law_b","_law_other","_law_here"] ["_law_wheels","_law_pitch","_law_train"] (defScope s_l_best):=⟨rfl,rfl,rfl,by decide +kernel,rfl,by decide +kernel,by decide +kernel⟩
abbrev s_law:Stmt:=top 73
theorem sc_law:FnScope ["_law_script","_law_wheels","_law_lathe","_law_pitch","_law_found","_law_wheel","_law_far","_law_turns","_law_stand","_law_carried"] ["_law_script"] (defScope s_law):=⟨rfl,rfl,rfl,by decide +kernel,rfl,by decide +kernel,by decide +kernel⟩
abbrev s_m_Book___init__:Stmt:=inClass (top 11) 0
theorem sc_m_Book___init__:FnScope ["self"] ["self"] (defScope s_m_Book___init__):=⟨rfl,rfl,rfl,by decide +kernel,rfl,by decide +kernel,by decide +kernel⟩
abbrev s_m_Book_write:Stmt:=inClass (top 11) 1
theorem sc_m_Book_write:FnScope ["self","word","what","before"] ["self","word","what","before"] (defScope s_m_Book_write):=⟨rfl,rfl,rfl,by decide +kernel,rfl,by decide +kernel,by decide +kernel⟩
abbrev s_m_Book_deeds:Stmt:=inClass (top 11) 3
theorem sc_m_Book_deeds:FnScope ["self"] ["self"] (defScope s_m_Book_deeds):=⟨rfl,rfl,rfl,by decide +kernel,rfl,by decide +kernel,by decide +kernel⟩
abbrev s_m_Piece___init__:Stmt:=inClass (top 36) 0
theorem sc_m_Piece___init__:FnScope ["self","train"] ["self","train"] (defScope s_m_Piece___init__):=⟨rfl,rfl,rfl,by decide +kernel,rfl,by decide +kernel,by decide +kernel⟩
abbrev s_m_Piece_twin:Stmt:=inClass (top 36) 1
theorem sc_m_Piece_twin:FnScope ["self","other"] ["self"] (defScope s_m_Piece_twin):=⟨rfl,rfl,rfl,by decide +kernel,rfl,by decide +kernel,by decide +kernel⟩
abbrev s_m_Piece_screw:Stmt:=inClass (top 36) 2
theorem sc_m_Piece_screw:FnScope ["self"] ["self"] (defScope s_m_Piece_screw):=⟨rfl,rfl,rfl,by decide +kernel,rfl,by decide +kernel,by decide +kernel⟩
abbrev s_m_Piece_off:Stmt:=inClass (top 36) 3
theorem sc_m_Piece_off:FnScope ["self","carried"] ["self"] (defScope s_m_Piece_off):=⟨rfl,rfl,rfl,by decide +kernel,rfl,by decide +kernel,by decide +kernel⟩
abbrev s_m_Piece_last_groove:Stmt:=inClass (top 36) 5
theorem sc_m_Piece_last_groove:FnScope ["self"] ["self"] (defScope s_m_Piece_last_groove):=⟨rfl,rfl,rfl,by decide +kernel,rfl,by decide +kernel,by decide +kernel⟩
abbrev s_m_Piece_turn:Stmt:=inClass (top 36) 6
theorem sc_m_Piece_turn:FnScope ["self","turns"] ["self","turns"] (defScope s_m_Piece_turn):=⟨rfl,rfl,rfl,by decide +kernel,rfl,by decide +kernel,by decide +kernel⟩
abbrev s_m_Piece_close_nut:Stmt:=inClass (top 36) 8
theorem sc_m_Piece_close_nut:FnScope ["self"] ["self"] (defScope s_m_Piece_close_nut):=⟨rfl,rfl,rfl,by decide +kernel,rfl,by decide +kernel,by decide +kernel⟩
abbrev s_m_Piece_cut:Stmt:=inClass (top 36) 10
theorem sc_m_Piece_cut:FnScope ["self","turns","closing"] ["self","turns"] (defScope s_m_Piece_cut):=⟨rfl,rfl,rfl,by decide +kernel,rfl,by decide +kernel,by decide +kernel⟩
abbrev s_m_Lathe___init__:Stmt:=inClass (top 53) 0
theorem sc_m_Lathe___init__:FnScope ["self","wheels","teeth"] ["self","wheels","teeth"] (defScope s_m_Lathe___init__):=⟨rfl,rfl,rfl,by decide +kernel,rfl,by decide +kernel,by decide +kernel⟩
abbrev s_m_Lathe_enter:Stmt:=inClass (top 53) 1
theorem sc_m_Lathe_enter:FnScope ["self","word","what","after"] ["self","word","what","after"] (defScope s_m_Lathe_enter):=⟨rfl,rfl,rfl,by decide +kernel,rfl,by decide +kernel,by decide +kernel⟩
abbrev s_m_Lathe_mount:Stmt:=inClass (top 53) 2
theorem sc_m_Lathe_mount:FnScope ["self","train","mounted"] ["self","train"] (defScope s_m_Lathe_mount):=⟨rfl,rfl,rfl,by decide +kernel,rfl,by decide +kernel,by decide +kernel⟩
abbrev s_m_Lathe_turn:Stmt:=inClass (top 53) 3
theorem sc_m_Lathe_turn:FnScope ["self","turns","after"] ["self","turns"] (defScope s_m_Lathe_turn):=⟨rfl,rfl,rfl,by decide +kernel,rfl,by decide +kernel,by decide +kernel⟩
abbrev s_m_Lathe_close_nut:Stmt:=inClass (top 53) 5
theorem sc_m_Lathe_close_nut:FnScope ["self","off","after"] ["self"] (defScope s_m_Lathe_close_nut):=⟨rfl,rfl,rfl,by decide +kernel,rfl,by decide +kernel,by decide +kernel⟩
abbrev s_m_Lathe_cut:Stmt:=inClass (top 53) 8
theorem sc_m_Lathe_cut:FnScope ["self","turns","after"] ["self","turns"] (defScope s_m_Lathe_cut):=⟨rfl,rfl,rfl,by decide +kernel,rfl,by decide +kernel,by decide +kernel⟩
abbrev s_m_Lathe_stand:Stmt:=inClass (top 53) 10
theorem sc_m_Lathe_stand:FnScope ["self"] ["self"] (defScope s_m_Lathe_stand):=⟨rfl,rfl,rfl,by decide +kernel,rfl,by decide +kernel,by decide +kernel⟩
abbrev s_m_Lathe_reading:Stmt:=inClass (top 53) 11
theorem sc_m_Lathe_reading:FnScope ["self","off"] ["self"] (defScope s_m_Lathe_reading):=⟨rfl,rfl,rfl,by decide +kernel,rfl,by decide +kernel,by decide +kernel⟩
abbrev s_m_Lathe_mounted:Stmt:=inClass (top 53) 12
theorem sc_m_Lathe_mounted:FnScope ["self"] ["self"] (defScope s_m_Lathe_mounted):=⟨rfl,rfl,rfl,by decide +kernel,rfl,by decide +kernel,by decide +kernel⟩
abbrev s_m_Lathe_pitch:Stmt:=inClass (top 53) 13
theorem sc_m_Lathe_pitch:FnScope ["self"] ["self"] (defScope s_m_Lathe_pitch):=⟨rfl,rfl,rfl,by decide +kernel,rfl,by decide +kernel,by decide +kernel⟩
abbrev s_m_Lathe_screw:Stmt:=inClass (top 53) 15
theorem sc_m_Lathe_screw:FnScope ["self"] ["self"] (defScope s_m_Lathe_screw):=⟨rfl,rfl,rfl,by decide +kernel,rfl,by decide +kernel,by decide +kernel⟩
abbrev s_m_Lathe_nut:Stmt:=inClass (top 53) 16
theorem sc_m_Lathe_nut:FnScope ["self"] ["self"] (defScope s_m_Lathe_nut):=⟨rfl,rfl,rfl,by decide +kernel,rfl,by decide +kernel,by decide +kernel⟩
abbrev s_m_Lathe_off:Stmt:=inClass (top 53) 17
theorem sc_m_Lathe_off:FnScope ["self"] ["self"] (defScope s_m_Lathe_off):=⟨rfl,rfl,rfl,by decide +kernel,rfl,by decide +kernel,by decide +kernel⟩
abbrev s_m_Lathe_book:Stmt:=inClass (top 53) 21
theorem sc_m_Lathe_book:FnScope ["self"] ["self"] (defScope s_m_Lathe_book):=⟨rfl,rfl,rfl,by decide +kernel,rfl,by decide +kernel,by decide +kernel⟩
abbrev s_m_Lathe_wheels_for:Stmt:=inClass (top 53) 22
theorem sc_m_Lathe_wheels_for:FnScope ["self","pitch"] ["self","pitch"] (defScope s_m_Lathe_wheels_for):=⟨rfl,rfl,rfl,by decide +kernel,rfl,by decide +kernel,by decide +kernel⟩
structure Txt (K:PySem.W.Frag) (mg:Str→Option Value):Prop where
 h_f_greatest_divisor:Here K mg "greatest_divisor" s_f_greatest_divisor ["a","b"]
 h_f_least_terms:Here K mg "least_terms" s_f_least_terms ["top","bottom"]
 h_f_sum_of:Here K mg "sum_of" s_f_sum_of ["a","b"]
 h_f_difference:Here K mg "difference" s_f_difference ["a","b"]
 h_f_product:Here K mg "product" s_f_product ["a","b"]
 h_f_is_less:Here K mg "is_less" s_f_is_less ["a","b"]
 h_f_remainder:Here K mg "remainder" s_f_remainder ["a","b"]
 h_f_groove_of:Here K mg "groove_of" s_f_groove_of ["ratio","closing"]
 h_f_reading_of:Here K mg "reading_of" s_f_reading_of ["off","teeth"]
 h_f_plain_ratio:Here K mg "plain_ratio" s_f_plain_ratio ["train"]
 h_f_ratio_of:Here K mg "ratio_of" s_f_ratio_of ["train"]
 h_f_pairs_of:Here K mg "pairs_of" s_f_pairs_of ["teeth"]
 h_f_fours_of:Here K mg "fours_of" s_f_fours_of ["pairs"]
 h_f_all_trains:Here K mg "all_trains" s_f_all_trains ["wheels"]
 h_f_scaled_gap:Here K mg "scaled_gap" s_f_scaled_gap ["ratio","pitch"]
 h_f_suits_better:Here K mg "suits_better" s_f_suits_better ["ratio","other","pitch"]
 h_f_choose_train:Here K mg "choose_train" s_f_choose_train ["wheels","pitch"]
 h_f_counted:Here K mg "counted" s_f_counted ["count","amount"]
 h_f_is_within:Here K mg "is_within" s_f_is_within ["number","least","most"]
 h_f_has_two_alike:Here K mg "has_two_alike" s_f_has_two_alike ["wheels"]
 h_f_check_shop:Here K mg "check_shop" s_f_check_shop ["wheels"]
 h_f_check_dial:Here K mg "check_dial" s_f_check_dial ["teeth"]
 h_f_check_known:Here K mg "check_known" s_f_check_known ["shop","train"]
 h_f_check_train:Here K mg "check_train" s_f_check_train ["train"]
 h_f_check_mounted:Here K mg "check_mounted" s_f_check_mounted ["piece"]
 h_f_check_nut_open:Here K mg "check_nut_open" s_f_check_nut_open ["piece"]
 h_f_check_nut_closed:Here K mg "check_nut_closed" s_f_check_nut_closed ["piece"]
 h_f_check_bottom:Here K mg "check_bottom" s_f_check_bottom ["fraction"]
 h_f_check_count:Here K mg "check_count" s_f_check_count ["count","amount"]
 h_f_check_pitch:Here K mg "check_pitch" s_f_check_pitch ["pitch"]
 h_l_at:Here K mg "_law_at" s_l_at ["_law_script","_law_k"]
 h_l_draw:Here K mg "_law_draw" s_l_draw ["_law_script","_law_k"]
 h_l_whole:Here K mg "_law_whole" s_l_whole ["_law_found"]
 h_l_gcd:Here K mg "_law_gcd" s_l_gcd ["_law_a","_law_b"]
 h_l_shop:Here K mg "_law_shop" s_l_shop ["_law_cell","_law_many"]
 h_l_pick:Here K mg "_law_pick" s_l_pick ["_law_cell","_law_wheels","_law_many"]
 h_l_ratio:Here K mg "_law_ratio" s_l_ratio ["_law_train"]
 h_l_red:Here K mg "_law_red" s_l_red ["_law_top","_law_bottom"]
 h_l_add:Here K mg "_law_add" s_l_add ["_law_a","_law_b"]
 h_l_mul:Here K mg "_law_mul" s_l_mul ["_law_a","_law_b"]
 h_l_is:Here K mg "_law_is" s_l_is ["_law_found","_law_due"]
 h_l_any_shop:Here K mg "_law_any_shop" s_l_any_shop ["_law_script","_law_k"]
 h_l_lathe_shop:Here K mg "_law_lathe_shop" s_l_lathe_shop ["_law_script"]
 h_l_teeth:Here K mg "_law_teeth" s_l_teeth ["_law_script"]
 h_l_good_train:Here K mg "_law_good_train" s_l_good_train ["_law_cell","_law_wheels"]
 h_l_asked_pitch:Here K mg "_law_asked_pitch" s_l_asked_pitch ["_law_script","_law_wheels"]
 h_l_choices:Here K mg "_law_choices" s_l_choices ["_law_wheels"]
 h_l_best:Here K mg "_law_best" s_l_best ["_law_wheels","_law_pitch","_law_train"]
 g_Book:mg "Book" = some (.ref (cOf mg "Book"))
 g_Piece:mg "Piece" = some (.ref (cOf mg "Piece"))
 g_Lathe:mg "Lathe" = some (.ref (cOf mg "Lathe"))
 g_LatheError:mg "LatheError" = some (.ref (cOf mg "LatheError"))
 g_UnknownWheel:mg "UnknownWheel" = some (.ref (cOf mg "UnknownWheel"))
 g_NoTrain:mg "NoTrain" = some (.ref (cOf mg "NoTrain"))
 g_WrongNut:mg "WrongNut" = some (.ref (cOf mg "WrongNut"))
 g_BadNumber:mg "BadNumber" = some (.ref (cOf mg "BadNumber"))
 g_NoMeeting:mg "NoMeeting" = some (.ref (cOf mg "NoMeeting"))
 g_BookFull:mg "BookFull" = some (.ref (cOf mg "BookFull"))
 g_MOST_DEEDS:∃ u,mg "MOST_DEEDS" = some u∧RelV (.int 100) u
 g_NOUGHT:mg "NOUGHT" = some (.ref (cOf mg "NOUGHT"))
 t_NOUGHT:SqT K (fun _=>none) (cOf mg "NOUGHT") [.int 0,.int 1]
 g_MOST_COUNTED:mg "MOST_COUNTED" = some (.ref (cOf mg "MOST_COUNTED"))
 t_MOST_COUNTED:SqT K (fun _=>none) (cOf mg "MOST_COUNTED") [.int 100000,.int 1]
 g_LEAST_PITCH:mg "LEAST_PITCH" = some (.ref (cOf mg "LEAST_PITCH"))
 t_LEAST_PITCH:SqT K (fun _=>none) (cOf mg "LEAST_PITCH") [.int 1,.int 100]
 g_GREATEST_PITCH:mg "GREATEST_PITCH" = some (.ref (cOf mg "GREATEST_PITCH"))
 t_GREATEST_PITCH:SqT K (fun _=>none) (cOf mg "GREATEST_PITCH") [.int 100,.int 1]
 cl_Book:Cls K (cOf mg "Book")
 na_Book_entries:NoAttr K (cOf mg "Book") "entries"
 cl_Piece:Cls K (cOf mg "Piece")
 na_Piece_closed:NoAttr K (cOf mg "Piece") "closed"
 na_Piece_cuts:NoAttr K (cOf mg "Piece") "cuts"
 na_Piece_first:NoAttr K (cOf mg "Piece") "first"
 na_Piece_move_count:NoAttr K (cOf mg "Piece") "move_count"
 na_Piece_place:NoAttr K (cOf mg "Piece") "place"
 na_Piece_ratio:NoAttr K (cOf mg "Piece") "ratio"
 na_Piece_train:NoAttr K (cOf mg "Piece") "train"
 na_Piece_turn_count:NoAttr K (cOf mg "Piece") "turn_count"
 na_Piece_work_turns:NoAttr K (cOf mg "Piece") "work_turns"
 cl_Lathe:Cls K (cOf mg "Lathe")
 na_Lathe_piece:NoAttr K (cOf mg "Lathe") "piece"
 na_Lathe_record:NoAttr K (cOf mg "Lathe") "record"
 na_Lathe_shop:NoAttr K (cOf mg "Lathe") "shop"
 na_Lathe_teeth:NoAttr K (cOf mg "Lathe") "teeth"
 hi_Book:HereI K (cOf mg "Book") "Book.__init__" s_m_Book___init__ ["self"]
 hm_Book_write:HereM K (cOf mg "Book") "write" "Book.write" s_m_Book_write ["self","word","what","before"]
 hm_Book_deeds:HereM K (cOf mg "Book") "deeds" "Book.deeds" s_m_Book_deeds ["self"]
 hi_Piece:HereI K (cOf mg "Piece") "Piece.__init__" s_m_Piece___init__ ["self","train"]
 hm_Piece_twin:HereM K (cOf mg "Piece") "twin" "Piece.twin" s_m_Piece_twin ["self"]
 hm_Piece_screw:HereM K (cOf mg "Piece") "screw" "Piece.screw" s_m_Piece_screw ["self"]
 hm_Piece_off:HereM K (cOf mg "Piece") "off" "Piece.off" s_m_Piece_off ["self"]
 hm_Piece_last_groove:HereM K (cOf mg "Piece") "last_groove" "Piece.last_groove" s_m_Piece_last_groove ["self"]
 hm_Piece_turn:HereM K (cOf mg "Piece") "turn" "Piece.turn" s_m_Piece_turn ["self","turns"]
 hm_Piece_close_nut:HereM K (cOf mg "Piece") "close_nut" "Piece.close_nut" s_m_Piece_close_nut ["self"]
 hm_Piece_cut:HereM K (cOf mg "Piece") "cut" "Piece.cut" s_m_Piece_cut ["self","turns"]
 hi_Lathe:HereI K (cOf mg "Lathe") "Lathe.__init__" s_m_Lathe___init__ ["self","wheels","teeth"]
 hm_Lathe_enter:HereM K (cOf mg "Lathe") "enter" "Lathe.enter" s_m_Lathe_enter ["self","word","what","after"]
 hm_Lathe_mount:HereM K (cOf mg "Lathe") "mount" "Lathe.mount" s_m_Lathe_mount ["self","train"]
 hm_Lathe_turn:HereM K (cOf mg "Lathe") "turn" "Lathe.turn" s_m_Lathe_turn ["self","turns"]
 hm_Lathe_close_nut:HereM K (cOf mg "Lathe") "close_nut" "Lathe.close_nut" s_m_Lathe_close_nut ["self"]
 hm_Lathe_cut:HereM K (cOf mg "Lathe") "cut" "Lathe.cut" s_m_Lathe_cut ["self","turns"]
 hm_Lathe_stand:HereM K (cOf mg "Lathe") "stand" "Lathe.stand" s_m_Lathe_stand ["self"]
 hm_Lathe_reading:HereM K (cOf mg "Lathe") "reading" "Lathe.reading" s_m_Lathe_reading ["self"]
 hm_Lathe_mounted:HereM K (cOf mg "Lathe") "mounted" "Lathe.mounted" s_m_Lathe_mounted ["self"]
 hm_Lathe_pitch:HereM K (cOf mg "Lathe") "pitch" "Lathe.pitch" s_m_Lathe_pitch ["self"]
 hm_Lathe_screw:HereM K (cOf mg "Lathe") "screw" "Lathe.screw" s_m_Lathe_screw ["self"]
 hm_Lathe_nut:HereM K (cOf mg "Lathe") "nut" "Lathe.nut" s_m_Lathe_nut ["self"]
 hm_Lathe_off:HereM K (cOf mg "Lathe") "off" "Lathe.off" s_m_Lathe_off ["self"]
 hm_Lathe_book:HereM K (cOf mg "Lathe") "book" "Lathe.book" s_m_Lathe_book ["self"]
 hm_Lathe_wheels_for:HereM K (cOf mg "Lathe") "wheels_for" "Lathe.wheels_for" s_m_Lathe_wheels_for ["self","pitch"]
 x_LatheError:XCls K (cOf mg "LatheError")
 x_UnknownWheel:XCls K (cOf mg "UnknownWheel")
 x_NoTrain:XCls K (cOf mg "NoTrain")
 x_WrongNut:XCls K (cOf mg "WrongNut")
 x_BadNumber:XCls K (cOf mg "BadNumber")
 x_NoMeeting:XCls K (cOf mg "NoMeeting")
 x_BookFull:XCls K (cOf mg "BookFull")
 z_abs:mg "abs" = none
 z_bool:mg "bool" = none
 z_int:mg "int" = none
 z_isinstance:mg "isinstance" = none
 z_len:mg "len" = none
 z_list:mg "list" = none
 z_max:mg "max" = none
 z_min:mg "min" = none
 z_range:mg "range" = none
 z_set:mg "set" = none
 z_sorted:mg "sorted" = none
 z_tuple:mg "tuple" = none
section
variable {P:Program} {w:World} {K:PySem.W.Frag} {mg:Str→Option Value} {base:Heap}
def atF (ns:List Int) (k:Int):Int:=if k<(ns.length:Int) then ns.getD k.toNat 0 else 0
def spAt (K:PySem.W.Frag):Sp:=fun vs H Q _=>∃ (a:Addr) (ns:List Int) (k:Int),vs=[.ref a,.int k]∧SqL K H a (ns.map V.int)∧0≤k∧Q (.int (atF ns k)) H
theorem d_l_at (T:Txt K mg):DefOk P w K mg base "_law_at" ["_law_script","_law_k"] 1 (spAt K):=by
 obtain ⟨f,fd,F,hm,hb⟩:=T.h_l_at
 refine ⟨f,fd,F.ok sc_l_at (fun vs H Q E h=>?_) (fun cdv A outer s H vs Q E hr h=>?_),hm,F.kp,hb⟩
 ·obtain ⟨a,ns,k,rfl,_⟩:=h
  rfl
 obtain ⟨a,ns,k,rfl,hS,h0,q⟩:=h
 refine ⟨_,(@pss_cons _ _ _ _ _ (ps_if (pt_cmp (pc_lt (pv 1) (pe_callB call_len_seq (by rfl) T.z_len PySem.boot_len (pa_cons (pv 0) pa_nil))))
 (@pss_one _ _ _ (@ps_ret _ _ _ _ (@pe_ix _ _ _ _ _ _ _ ix_list (pv 0) (pv 1) (fun _ _=>rfl))))
 pss_nil)
 (@pss_one _ _ _ (@ps_ret _ _ _ _ pe_int))),?_⟩
 refine ⟨_,rfl,_,rfl,a,_,rfl,.inl hS,_,_,rfl,rfl,_,rfl,?_⟩
 have hl:(ns.map V.int).length=ns.length:=List.length_map _
 refine ite2 (fun c=>?_) (fun c=>?_)
 ·have c':k<(((ns.map V.int).length:Nat):Int):=of_decide_eq_true c
  rw [hl] at c'
  have hk:k.toNat<ns.length:=by omega
  have e1:atF ns k=ns[k.toNat]:=by
   unfold atF
   rw [if_pos c',List.getD_eq_getElem?_getD,List.getElem?_eq_getElem hk]
   rfl
  have hv:atI (ns.map V.int) k=some (.int (atF ns k)):=by
   have ek:k=((k.toNat:Nat):Int):=by omega
   have:=atI_nat (xs:=ns.map V.int) (j:=k.toNat) (v:=.int ns[k.toNat]) (by rw [List.getElem?_map,List.getElem?_eq_getElem hk] <;> rfl)
   rw [← ek] at this
   rw [e1];exact this
  exact ⟨_,rfl,_,rfl,a,_,_,_,rfl,rfl,hS,hv,q⟩
 ·have c':¬ k<(((ns.map V.int).length:Nat):Int):=of_decide_eq_false (Bool.eq_false_iff.mpr c)
  rw [hl] at c'
  have e1:atF ns k=0:=if_neg c'
  rw [e1] at q
  exact q

def drawF (ns:List Int) (k:Int):Int:=if atF ns 0 % 2=0 then atF ns k else (atF ns k * 48271 % 2147483647 + 977 * k) * 69621 % 2147483647
def spDraw (K:PySem.W.Frag):Sp:=fun vs H Q _=>∃ (a:Addr) (ns:List Int) (k:Int),vs=[.ref a,.int k]∧SqL K H a (ns.map V.int)∧0≤k∧k≤1000∧Q (.int (drawF ns k)) H
theorem d_l_draw (T:Txt K mg):DefOk P w K mg base "_law_draw" ["_law_script","_law_k"] 2 (spDraw K):=by
 obtain ⟨f,fd,F,hm,hb⟩:=T.h_l_draw
 refine ⟨f,fd,F.ok sc_l_draw (fun vs H Q E h=>?_) (fun cdv A outer s H vs Q E hr h=>?_),hm,F.kp,hb⟩
 ·obtain ⟨a,ns,k,rfl,_⟩:=h
  rfl
 obtain ⟨a,ns,k,rfl,hS,h0,h1,q⟩:=h
 refine ⟨_,(@pss_cons _ _ _ _ _ (@ps_set _ _ 2 _ _ _ _ sc_l_draw.nd rfl (Or.inl rfl) (pe_callD (d_l_at T) hr (pa_cons (pv 0) (pa_cons (pv 1) pa_nil))) (by rfl) (by first | exact .inl rfl | exact .inr rfl))
 (@pss_cons _ _ _ _ _ (ps_if (pt_cmp (pc_eqI (pe_op op_mod (pe_callD (d_l_at T) hr (pa_cons (pv 0) (pa_cons pe_int pa_nil))) pe_int) pe_int))
 (@pss_one _ _ _ (@ps_ret _ _ _ _ (pv 2)))
 pss_nil)
 (@pss_one _ _ _ (@ps_ret _ _ _ _ (pe_op op_mod (pe_op op_mulX (pe_op op_add (pe_op op_mod (pe_op op_mulX (pv 2) pe_int) pe_int) (pe_op op_mulX pe_int (pv 1))) pe_int) pe_int))))),?_⟩
 refine ⟨_,rfl,_,rfl,a,ns,k,rfl,hS,h0,?_⟩
 refine ⟨_,rfl,a,ns,0,rfl,hS,Int.le_refl 0,_,_,rfl,rfl,(by show (0:Int)<2;decide),_,_,rfl,rfl,_,rfl,?_⟩
 refine ite2 (fun c=>?_) (fun c=>?_)
 ·have c':atF ns 0 % 2=0:=of_decide_eq_true c
  have e:drawF ns k=atF ns k:=if_pos c'
  rw [e] at q
  exact ⟨_,rfl,q⟩
 ·have c':¬ atF ns 0 % 2=0:=of_decide_eq_false (Bool.eq_false_iff.mpr c)
  have e:drawF ns k=(atF ns k * 48271 % 2147483647 + 977 * k) * 69621 % 2147483647:=if_neg c'
  rw [e] at q
  exact ⟨_,rfl,_,_,rfl,rfl,.inl (.inr ⟨by decide,by decide⟩),_,_,rfl,rfl,(by show (0:Int)<2147483647;decide),_,rfl,_,_,rfl,rfl,.inl (.inl ⟨by decide,by decide⟩),_,_,rfl,rfl,_,_,rfl,rfl,.inl (.inr ⟨by decide,by decide⟩),_,_,rfl,rfl,(by show (0:Int)<2147483647;decide),q⟩

def spShop:Sp:=fun vs H Q _=>∃ (c:Int) (n:Nat),vs=[.int c,.int (n:Int)]∧n≤100∧∀ (ws:List Int) (p:Addr) (H':Hp),Shop ws→ws.length=n→Same H H'→H p=none→H' p=some (.lst (ws.map V.int))→Q (.ref p) H'
theorem d_l_shop (T:Txt K mg):DefOk P w K mg base "_law_shop" ["_law_cell","_law_many"] 1 spShop:=by
 obtain ⟨f,fd,F,hm,hb⟩:=T.h_l_shop
 refine ⟨f,fd,F.ok sc_l_shop (fun vs H Q E h=>?_) (fun cdv A outer s H vs Q E hr h=>?_),hm,F.kp,hb⟩
 ·obtain ⟨c,n,rfl,_⟩:=h
  rfl
 obtain ⟨c,n,rfl,hn,q⟩:=h
 refine ⟨_,(@pss_cons _ _ _ _ _ (@ps_set _ _ 2 _ _ _ _ sc_l_shop.nd rfl (Or.inl rfl) (@pe_lst _ _ _ _ pa_nil) (by rfl) (by first | exact .inl rfl | exact .inr rfl))
 (@pss_cons _ _ _ _ _ (@ps_set _ _ 3 _ _ _ _ sc_l_shop.nd rfl (Or.inl rfl) (pv 0) (by rfl) (by first | exact .inl rfl | exact .inr rfl))
 (@pss_cons _ _ _ _ _ (ps_for PassesOwn.never rfl (pi_range1 (by rfl) T.z_range (pa_cons (pv 1) pa_nil)) (pg_name (i:=4) sc_l_shop.nd rfl (Or.inl rfl))
 (@pss_cons _ _ _ _ _ (@ps_set _ _ 5 _ _ _ _ sc_l_shop.nd rfl (Or.inl rfl) (pe_op op_add pe_int (pe_op op_mod (pv 3) pe_int)) (by rfl) (by first | exact .inl rfl | exact .inr rfl))
 (@pss_cons _ _ _ _ _ (@ps_set _ _ 3 _ _ _ _ sc_l_shop.nd rfl (Or.inl rfl) (pe_op op_add (pe_op op_fdivP (pv 3) pe_int) (pe_op op_mulX pe_int (pv 4))) (by rfl) (by first | exact .inl rfl | exact .inr rfl))
 (@pss_cons _ _ _ _ _ (ps_while PassesOwn.never (pt_cmpR op_in_seq (pv 5) (pv 2) (by with_unfolding_all rfl))
 (@pss_one _ _ _ (@ps_set _ _ 5 _ _ _ _ sc_l_shop.nd rfl (Or.inl rfl) (pe_op op_add pe_int (pe_op op_mod (pe_op op_sub (pv 5) pe_int) pe_int)) (by rfl) (by first | exact .inl rfl | exact .inr rfl))))
 (@pss_one _ _ _ (ps_expr (pe_bm PySem.F.plainAttrs_list PySem.F.slot_list_append PySem.F.type_list_append mt_append (pv 2) (pa_cons (pv 5) pa_nil))))))))
 (@pss_one _ _ _ (@ps_ret _ _ _ _ (pv 2)))))),?_⟩
 refine ⟨(by show 0≤sizeLine;decide),fun D hD=>?_⟩
 refine ⟨_,rfl,_,rfl,(n:Int),rfl,by omega,by omega,?_⟩
 rw [Int.toNat_natCast]
 refine for_range (lo:=0) (n:=n) (fun i σ H'=>∃ (ws:List Int) (lf:Int) (k t:Option V),σ=[some (.int c),some (.int (n:Int)),some (.ref D),some (.int lf),k,t]∧Same H H'∧H' D=some (.lst (ws.map V.int))∧ws.length=i∧Shop ws)
  ⟨[],c,none,none,rfl,same_new hD _,upd_same,rfl,⟨by simp,by simp,by simp⟩⟩ ?_ ?_
 ·rintro i σ H' hi ⟨ws,lf,k,t,rfl,hs,hw,hl,S⟩
  refine ⟨_,rfl,_,_,rfl,rfl,(by show (0:Int)<118;decide),_,_,rfl,rfl,?_⟩
  refine ⟨_,rfl,_,_,rfl,rfl,⟨by decide,by unfold Bd;decide⟩,_,rfl,_,_,rfl,rfl,.inl (.inl ⟨by decide,by decide⟩),_,_,rfl,rfl,?_⟩
  obtain ⟨j,hj,nj⟩:=free_tooth 118 ws (by omega)
  refine ⟨fun m σ2 H2=>∃ (x:Int),σ2=[some (.int c),some (.int (n:Int)),some (.ref D),some (.int (lf / 118 + 53 * (0 + (i:Int)))),some (.int (0 + (i:Int))),some (.int x)]∧H2=H'∧10≤x∧x≤127∧m=((10 + (j:Int) - x) % 118).toNat,
   ⟨_,_,rfl,rfl,by omega,by omega,rfl⟩,?_⟩
  rintro m σ2 H2 ⟨x,rfl,rfl,x0,x1,rfl⟩
  refine ⟨_,rfl,_,rfl,D,_,rfl,.inl (SqL.of hw),rfl,flat_ints ws,_,rfl,?_⟩
  dsimp only
  rw [if_neg Bool.false_ne_true,in_ints]
  refine iteD (fun hin=>?_) (fun hin=>?_)
  ·have hne:x≠10 + (j:Int):=fun e=>nj (e ▸ hin)
   refine ⟨fun σ3 H3=>∃ (y:Int),σ3=[some (.int c),some (.int (n:Int)),some (.ref D),some (.int (lf / 118 + 53 * (0 + (i:Int)))),some (.int (0 + (i:Int))),some (.int y)]∧H3=H2∧10≤y∧y≤127∧((10 + (j:Int) - y) % 118).toNat<((10 + (j:Int) - x) % 118).toNat,?_,?_⟩
   ·rintro σ3 H3 ⟨y,rfl,rfl,y0,y1,y2⟩
    exact ⟨_,y2,y,rfl,rfl,y0,y1,rfl⟩
   ·exact ⟨_,rfl,_,_,rfl,rfl,_,_,rfl,rfl,(by show (0:Int)<118;decide),_,_,rfl,rfl,_,rfl,rfl,by omega,by omega,by omega⟩
  ·refine ⟨_,rfl,.inl ⟨rfl,_,SqL.of hw⟩,_,rfl,D,_,_,rfl,rfl,hw,(by rw [List.length_map];exact small1000 (by omega)),?_⟩
   refine ⟨ws++[x],_,_,_,rfl,fun b o e=>?_,?_,by simp [hl],S.snoc x0 x1 hin⟩
   ·rw [upd_ne (ne_of_none e hD)];exact hs b o e
   ·rw [upd_same,List.map_append];rfl
 ·rintro σ H' ⟨ws,lf,k,t,rfl,hs,hw,hl,S⟩
  exact ⟨_,rfl,q ws D H' S hl hs hD hw⟩

def spAny (K:PySem.W.Frag):Sp:=fun vs H Q _=>∃ (a:Addr) (ns:List Int) (k:Int),vs=[.ref a,.int k]∧SqL K H a (ns.map V.int)∧0≤k∧k≤900 ∧
 ∀ (ws:List Int) (p:Addr) (H':Hp),Shop ws→2≤ws.length→ws.length≤12→Same H H'→H p=none→H' p=some (.lst (ws.map V.int))→Q (.ref p) H'
theorem d_l_any_shop (T:Txt K mg):DefOk P w K mg base "_law_any_shop" ["_law_script","_law_k"] 3 (spAny K):=by
 obtain ⟨f,fd,F,hm,hb⟩:=T.h_l_any_shop
 refine ⟨f,fd,F.ok sc_l_any_shop (fun vs H Q E h=>?_) (fun cdv A outer s H vs Q E hr h=>?_),hm,F.kp,hb⟩
 ·obtain ⟨a,ns,k,rfl,_⟩:=h
  rfl
 obtain ⟨a,ns,k,rfl,hS,h0,h1,q⟩:=h
 refine ⟨_,(@pss_cons _ _ _ _ _ (@ps_set _ _ 2 _ _ _ _ sc_l_any_shop.nd rfl (Or.inl rfl) (pe_callD (d_l_draw T) hr (pa_cons (pv 0) (pa_cons (pv 1) pa_nil))) (by rfl) (by first | exact .inl rfl | exact .inr rfl))
 (@pss_cons _ _ _ _ _ (@ps_set _ _ 3 _ _ _ _ sc_l_any_shop.nd rfl (Or.inr rfl) (pe_callD (d_l_draw T) hr (pa_cons (pv 0) (pa_cons (pe_op op_add (pv 1) pe_int) pa_nil))) (by rfl) (by first | exact .inl rfl | exact .inr rfl))
 (@pss_cons _ _ _ _ _ (@ps_set _ _ 4 _ _ _ _ sc_l_any_shop.nd rfl (Or.inl rfl) (pe_op op_add pe_int (pe_op op_mod (pe_op op_mod (pv 2) pe_int) (@pe_ix _ _ _ _ _ _ _ ix_list (@pe_lst _ _ _ _ (pa_cons pe_int (pa_cons pe_int pa_nil))) (pe_callTy call_int1 (by rfl) T.z_int PyProof.Rows.boot_int (pa_cons (pe_cmp (pc_lt (pe_op op_mod (pv 2) pe_int) pe_int)) pa_nil)) (fun _ _=>rfl)))) (by rfl) (by first | exact .inl rfl | exact .inr rfl))
 (@pss_cons _ _ _ _ _ (@ps_set _ _ 5 _ _ _ _ sc_l_any_shop.nd rfl (Or.inr rfl) (@pe_lst _ _ _ _ (@pa_ints _ _ [20,30,40,50,60,80,100,120,90,45,24,36] rfl)) (by rfl) (by first | exact .inl rfl | exact .inr rfl))
 (@pss_cons _ _ _ _ _ (ps_if (pt_cmp (pc_eqI (pe_op op_mod (pe_op op_fdivP (pv 2) pe_int) pe_int) pe_int))
 (@pss_one _ _ _ (@ps_ret _ _ _ _ (pe_comp0 rfl (sc:=defScope s_l_any_shop) rfl (N:=["_law_script","_law_k","_law_cell","_law_far","_law_many","_law_pool"]) rfl ⟨by decide +kernel,rfl,by decide +kernel,by decide +kernel,rfl,by decide +kernel,by decide +kernel,by decide +kernel⟩ (pi_range1 (by rfl) T.z_range (pa_cons (pv 4) pa_nil)) (fun _ _ _ _ _ _=>(@pe_ix _ _ _ _ _ _ _ (ix_listK (K:=K) rfl) (pv 6) (pe_op op_mod (pe_op op_add (pv 4) (pe_op op_mulX pe_int (pv 0))) pe_int) (fun _ _=>rfl))))))
 pss_nil)
 (@pss_one _ _ _ (@ps_ret _ _ _ _ (pe_callD (d_l_shop T) hr (pa_cons (pv 3) (pa_cons (pv 4) pa_nil)))))))))),?_⟩
 refine ⟨_,rfl,_,rfl,a,ns,k,rfl,hS,h0,by omega,?_⟩
 refine ⟨_,rfl,_,rfl,_,_,rfl,rfl,a,ns,k + 1,rfl,hS,by omega,by omega,?_⟩
 generalize drawF ns k=cl
 generalize drawF ns (k + 1)=fr
 refine ⟨_,rfl,_,_,rfl,rfl,(by show (0:Int)<33;decide),(by show 2≤sizeLine;decide),fun p1 hp1=>?_⟩
 refine ⟨_,rfl,_,_,rfl,rfl,(by show (0:Int)<33;decide),_,_,rfl,rfl,.inr ⟨_,rfl,?_⟩⟩
 have s1:=same_new hp1 (.lst [V.int 5,V.int 11])
 obtain ⟨d,hd,d1,d2⟩:=at2i (a:=5) (b:=11) (i:=if decide (cl % 33<11)=true then 1 else 0) (fun v=>5≤v∧v≤11) (by split <;> decide) (by split <;> decide) ⟨by decide,by decide⟩ ⟨by decide,by decide⟩
 refine ⟨p1,_,_,_,rfl,rfl,SqL.of upd_same,hd,_,_,rfl,rfl,(by show (0:Int)<d;omega),_,_,rfl,rfl,?_⟩
 have e0:=Int.emod_nonneg (cl % 33) (show d≠0 by omega)
 have e1:=Int.emod_lt_of_pos (cl % 33) (show 0<d by omega)
 obtain ⟨n,hn⟩:∃ n:Nat,2 + cl % 33 % d=(n:Int):=⟨(2 + cl % 33 % d).toNat,by omega⟩
 have n0:2≤n:=by omega
 have n1:n≤12:=by omega
 refine ⟨(by show 12≤sizeLine;decide),fun p2 hp2=>?_⟩
 have s2:=same_new hp2 (.lst (pool.map V.int))
 refine ⟨_,rfl,_,_,rfl,rfl,⟨by decide,by unfold Bd;decide⟩,_,_,rfl,rfl,(by show (0:Int)<2;decide),_,_,rfl,rfl,_,rfl,?_⟩
 dsimp only
 rw [hn]
 refine iteD (fun c=>?_) (fun c=>?_)
 ·refine ⟨_,rfl,(n:Int),rfl,by omega,by omega,?_⟩
  rw [Int.toNat_natCast]
  intro D hD
  have nH:H D=none:=by
   cases e:H D with
   | none=>rfl
   | some o=>cases ((s1.trans s2) D o e).symm.trans hD
  refine comp_range (tt:=fun _ H Q=>Q true H) (lo:=0) (n:=n) (fun i H' ys=>∃ ws:List Int,ys=ws.map V.int∧H'=upd (upd (upd H p1 (.lst [V.int 5,V.int 11])) p2 (.lst (pool.map V.int))) D (.lst ys)∧ws.length=i∧Shop ws∧∀ v∈ws,∃ j:Nat,j<i∧pool[((fr + 5 * (j:Int)) % 12).toNat]? = some v)
   ⟨[],rfl,rfl,rfl,⟨by simp,by simp,by simp⟩,by simp⟩ ?_ ?_
  ·rintro i H2 ys kk hk hi ⟨ws,rfl,rfl,hl,S,hv⟩
   refine ⟨upd_same,?_⟩
   refine iteT ?_
   have z0:(0:Int)≤(fr + 5 * (i:Int)) % 12:=by omega
   have z1:(fr + 5 * (i:Int)) % 12<12:=by omega
   obtain ⟨v,a1,a2,a3,a4⟩:=pool_at z0 z1
   have hp2':=same_new hD (.lst (ws.map V.int)) p2 _ upd_same
   have ez:fr + 5 * (0 + (i:Int))=fr + 5 * (i:Int):=by omega
   refine ⟨_,rfl,_,rfl,_,rfl,_,_,rfl,rfl,.inl (.inl ⟨by decide,by decide⟩),_,_,rfl,rfl,_,_,rfl,rfl,(by show (0:Int)<12;decide),p2,_,_,_,rfl,rfl,SqL.of hp2',(by rw [ez];exact a1),upd_same,(by rw [List.length_map];exact small1000 (by omega)),?_⟩
   refine hk _ _ ⟨ws++[v],by rw [List.map_append];rfl,by rw [upd_upd],by simp [hl],S.snoc a3 a4 ?_,?_⟩
   ·intro hin
    obtain ⟨j,hj,ej⟩:=hv v hin
    have:=pool_inj ej a2
    omega
   ·intro u hu
    rcases List.mem_append.mp hu with z | z
    ·obtain ⟨j,hj,ej⟩:=hv u z
     exact ⟨j,by omega,ej⟩
    ·rw [List.mem_singleton.mp z]
     exact ⟨i,Nat.lt_succ_self _,a2⟩
  ·rintro H2 ys ⟨ws,rfl,rfl,hl,S,hv⟩
   exact ⟨upd_same,q ws D _ S (by omega) (by omega) ((s1.trans s2).trans (same_new hD _)) nH upd_same⟩
 ·refine ⟨_,rfl,_,rfl,fr,n,rfl,by omega,fun ws p H' S hl hs hn' hp=>?_⟩
  have nH:H p=none:=by
   cases e:H p with
   | none=>rfl
   | some o=>cases ((s1.trans s2) p o e).symm.trans hn'
  exact q ws p H' S (by omega) (by omega) ((s1.trans s2).trans hs) nH hp

def spLShop (K:PySem.W.Frag):Sp:=fun vs H Q _=>∃ (a:Addr) (ns:List Int),vs=[.ref a]∧SqL K H a (ns.map V.int) ∧
 ∀ (ws:List Int) (p:Addr) (H':Hp),Shop ws→2≤ws.length→ws.length≤12→Same H H'→H p=none→(H' p=some (.lst (ws.map V.int))∨H' p=some (.tup (ws.map V.int)))→Q (.ref p) H'
theorem d_l_lathe_shop (T:Txt K mg):DefOk P w K mg base "_law_lathe_shop" ["_law_script"] 4 (spLShop K):=by
 obtain ⟨f,fd,F,hm,hb⟩:=T.h_l_lathe_shop
 refine ⟨f,fd,F.ok sc_l_lathe_shop (fun vs H Q E h=>?_) (fun cdv A outer s H vs Q E hr h=>?_),hm,F.kp,hb⟩
 ·obtain ⟨a,ns,rfl,_⟩:=h
  rfl
 obtain ⟨a,ns,rfl,hS,q⟩:=h
 refine ⟨_,(@pss_cons _ _ _ _ _ (@ps_set _ _ 1 _ _ _ _ sc_l_lathe_shop.nd rfl (Or.inl rfl) (pe_callD (d_l_any_shop T) hr (pa_cons (pv 0) (pa_cons pe_int pa_nil))) (by rfl) (by first | exact .inl rfl | exact .inr rfl))
 (@pss_one _ _ _ (@ps_ret _ _ _ _ (@pe_ix _ _ _ _ _ _ _ ix_list (@pe_lst _ _ _ _ (pa_cons (pv 1) (pa_cons (pe_callTy call_tuple_of (by rfl) T.z_tuple PyProof.Rows.boot_tuple (pa_cons (pv 1) pa_nil)) pa_nil))) (pe_op op_mod (pe_op op_fdivP (pe_callD (d_l_draw T) hr (pa_cons (pv 0) (pa_cons pe_int pa_nil))) pe_int) pe_int) (fun _ _=>rfl))))),?_⟩
 refine ⟨_,rfl,a,ns,1,rfl,hS,by decide,by decide,fun ws W H1 S l2 l12 s1 nW hW=>?_⟩
 refine ⟨_,rfl,_,rfl,W,_,rfl,.inl ⟨SqL.of hW,fun p hp=>?_⟩⟩
 have t1:=same_new hp (.tup (ws.map V.int))
 refine ⟨(by show 2≤sizeLine;decide),fun l hl=>?_⟩
 have t2:=same_new hl (.lst [V.ref W,V.ref p])
 refine ⟨_,rfl,a,ns,3,rfl,(s1.trans (t1.trans t2)).seq hS,by decide,by decide,?_⟩
 generalize drawF ns 3=c
 obtain ⟨v,hv,v1⟩:=at2 (x:=V.ref W) (y:=V.ref p) (i:=c / 63 % 2) (by omega) (by omega)
 refine ⟨_,_,rfl,rfl,⟨by decide,by unfold Bd;decide⟩,_,_,rfl,rfl,(by show (0:Int)<2;decide),l,_,_,_,rfl,rfl,SqL.of upd_same,hv,?_⟩
 rcases v1 with ⟨_,e⟩ | ⟨_,e⟩
 ·rw [e];exact q ws W _ S l2 l12 (s1.trans (t1.trans t2)) nW (.inl ((t1.trans t2) _ _ hW))
 ·rw [e];exact q ws p _ S l2 l12 (s1.trans (t1.trans t2)) (s1.free hp) (.inr (t2 _ _ upd_same))

def spAlike (K:PySem.W.Frag):Sp:=fun vs H Q _=>∃ (a:Addr) (ws:List Int),vs=[.ref a]∧SqA K H a (ws.map V.int)∧ws.length≤1000∧∀ H',Same H H'→Q (.bl (decide (¬ ws.Nodup))) H'
theorem d_f_has_two_alike (T:Txt K mg):DefOk P w K mg base "has_two_alike" ["wheels"] 1 (spAlike K):=by
 obtain ⟨f,fd,F,hm,hb⟩:=T.h_f_has_two_alike
 refine ⟨f,fd,F.ok sc_f_has_two_alike (fun vs H Q E h=>?_) (fun cdv A outer s H vs Q E hr h=>?_),hm,F.kp,hb⟩
 ·obtain ⟨a,ws,rfl,_⟩:=h
  rfl
 obtain ⟨a,ws,rfl,hA,hl,q⟩:=h
 refine ⟨_,(@pss_one _ _ _ (@ps_ret _ _ _ _ (pe_cmp (pc_lt (pe_callB call_len_set1 (by rfl) T.z_len PySem.boot_len (pa_cons (pe_callTy (call_set_any rfl) (by rfl) T.z_set PyProof.Rows.boot_set (pa_cons (pv 0) pa_nil)) pa_nil)) (pe_callB call_len_seq (by rfl) T.z_len PySem.boot_len (pa_cons (pv 0) pa_nil)))))),?_⟩
 refine ⟨_,rfl,a,ws,rfl,hA,hl,fun l S hl=>?_⟩
 have s1:=same_new hl (.set S (manyOf ws))
 refine ⟨l,S,_,rfl,upd_same,_,rfl,a,_,rfl,s1.any hA,_,_,rfl,rfl,?_⟩
 have e:decide (((manyOf ws:Nat):Int)<(((ws.map V.int).length:Nat):Int))=decide (¬ ws.Nodup):=decide_eq_decide.mpr (by rw [List.length_map];exact Int.ofNat_lt.trans manyOf_lt)
 have q':=q _ s1
 rw [← e] at q'
 exact q'

def spWithin:Sp:=fun vs H Q _=>∃ (a b c:Int),vs=[.int a,.int b,.int c]∧Q (.bl (decide (b≤a∧a≤c))) H
theorem d_f_is_within (T:Txt K mg):DefOk P w K mg base "is_within" ["number","least","most"] 1 spWithin:=by
 obtain ⟨f,fd,F,hm,hb⟩:=T.h_f_is_within
 refine ⟨f,fd,F.ok sc_f_is_within (fun vs H Q E h=>?_) (fun cdv A outer s H vs Q E hr h=>?_),hm,F.kp,hb⟩
 ·obtain ⟨a,b,c,rfl,_⟩:=h
  rfl
 obtain ⟨a,b,c,rfl,q⟩:=h
 refine ⟨_,(@pss_one _ _ _ (@ps_ret _ _ _ _ (pe_and (pe_cmp (pc_ge (pv 0) (pv 1))) (pe_one (pe_cmp (pc_le (pv 0) (pv 2))))))),?_⟩
 refine ⟨_,rfl,_,rfl,_,_,rfl,rfl,_,rfl,?_⟩
 refine iteD (fun h=>?_) (fun h=>?_)
 ·refine ⟨_,rfl,_,rfl,_,_,rfl,rfl,?_⟩
  have e:decide (b≤a∧a≤c)=decide (a≤c):=decide_eq_decide.mpr ⟨fun z=>z.2,fun z=>⟨h,z⟩⟩
  rw [e] at q;exact q
 ·have e:decide (b≤a∧a≤c)=false:=decide_eq_false fun z=>h z.1
  rw [e] at q;exact q

def spCheckShop (K:PySem.W.Frag) (mg:Str→Option Value):Sp:=fun vs H Q E=>∃ (a:Addr) (ws:List Int),vs=[.ref a]∧SqA K H a (ws.map V.int)∧ws.length≤1000 ∧
 (2≤ws.length∧ws.length≤12∧Shop ws→∀ H',Same H H'→Q .non H')∧(¬ (2≤ws.length∧ws.length≤12∧Shop ws)→∀ H',Same H H'→E (.ref (cOf mg "BadNumber")) none H')
theorem d_f_check_shop (T:Txt K mg):DefOkX P w K mg base "check_shop" ["wheels"] 2 (spCheckShop K mg):=by
 obtain ⟨f,fd,F,hm,hb⟩:=T.h_f_check_shop
 refine ⟨f,fd,F.ok1 sc_f_check_shop (fun vs H Q E h=>?_) (fun cdv A outer s H vs Q E hr h=>?_),hm,F.kp,hb⟩
 ·obtain ⟨a,ws,rfl,_⟩:=h
  rfl
 obtain ⟨a,ws,rfl,hA,hl,q1,q2⟩:=h
 refine ⟨_,(@pss_cons _ _ _ _ _ (ps_if (pt_not (pt_val (pe_callD (d_f_is_within T) hr (pa_cons (pe_callB call_len_seq (by rfl) T.z_len PySem.boot_len (pa_cons (pv 0) pa_nil)) (pa_cons pe_int (pa_cons pe_int pa_nil))))))
 (@pss_one _ _ _ (ps_raise out_cx rfl T.x_BadNumber T.g_BadNumber (pa_cons pe_str pa_nil)))
 pss_nil)
 (@pss_cons _ _ _ _ _ (ps_for PassesOwn.leaving rfl (pi_any (pv 0)) (pg_name (i:=1) sc_f_check_shop.nd rfl (Or.inl rfl))
 (@pss_one _ _ _ (ps_if (pt_not (pt_val (pe_callD (d_f_is_within T) hr (pa_cons (pv 1) (pa_cons pe_int (pa_cons pe_int pa_nil))))))
 (@pss_one _ _ _ (ps_raise out_cx rfl T.x_BadNumber T.g_BadNumber (pa_cons pe_str pa_nil)))
 pss_nil)))
 (@pss_one _ _ _ (ps_if (pt_val (pe_callD (d_f_has_two_alike T) hr (pa_cons (pv 0) pa_nil)))
 (@pss_one _ _ _ (ps_raise out_cx rfl T.x_BadNumber T.g_BadNumber (pa_cons pe_str pa_nil)))
 pss_nil)))),?_⟩
 have hlen:(ws.map V.int).length=ws.length:=List.length_map _
 refine ⟨_,rfl,a,_,rfl,hA,_,_,_,rfl,_,rfl,?_⟩
 refine iteND (fun c=>?_) (fun c=>?_)
 ·exact ⟨by show 1≤sizeLine;decide,q2 (fun z=>c (by rw [hlen];exact ⟨by have:=z.1;omega,by have:=z.2.1;omega⟩)) _ (Same.refl _)⟩
 rw [hlen] at c
 refine ⟨a,rfl,for_any (K:=K) (a:=a) (xs:=ws.map V.int) (fun i σ H'=>∃ k:Option V,σ=[some (.ref a),k]∧H'=H∧∀ j v,j<i→ws[j]? = some v→10≤v∧v≤127) hA ⟨none,rfl,rfl,fun j v z=>by omega⟩ (fun i τ G ⟨_,_,e,_⟩=>by rw [e];exact Same.refl _) ?_ ?_⟩
 ·rintro i x σ H' hx ⟨k,rfl,rfl,hv⟩
  rw [List.getElem?_map] at hx
  obtain ⟨v,hv1,rfl⟩:=Option.map_eq_some_iff.mp hx
  refine ⟨_,rfl,_,_,_,rfl,_,rfl,?_⟩
  refine iteND (fun c2=>?_) (fun c2=>?_)
  ·exact ⟨by show 1≤sizeLine;decide,q2 (fun z=>c2 ⟨z.2.2.lo v (List.mem_of_getElem? hv1),z.2.2.hi v (List.mem_of_getElem? hv1)⟩) _ (Same.refl _)⟩
  ·refine ⟨_,rfl,rfl,fun j u hj hu=>?_⟩
   rcases Nat.lt_or_ge j i with z | z
   ·exact hv j u z hu
   ·have e:j=i:=by omega
    subst e
    rw [hu] at hv1;cases hv1;exact c2
 ·rintro σ H' ⟨k,rfl,rfl,hv⟩
  rw [hlen] at hv
  have all:∀ v∈ws,10≤v∧v≤127:=fun v h=>by
   obtain ⟨j,hj,e⟩:=List.getElem_of_mem h
   exact hv j v hj (by rw [List.getElem?_eq_getElem hj,e])
  refine ⟨_,rfl,a,ws,rfl,hA,hl,fun H2 s2=>⟨_,rfl,?_⟩⟩
  refine iteD (fun c3=>?_) (fun c3=>?_)
  ·exact ⟨by show 1≤sizeLine;decide,q2 (fun z=>c3 z.2.2.nd) _ s2⟩
  ·exact q1 ⟨by omega,by omega,⟨fun v h=>(all v h).1,fun v h=>(all v h).2,Decidable.not_not.mp c3⟩⟩ _ s2

def spCheckDial (mg:Str→Option Value):Sp:=fun vs H Q E=>∃ (n:Int),vs=[.int n]∧(2≤n∧n≤64→Q .non H)∧(¬ (2≤n∧n≤64)→E (.ref (cOf mg "BadNumber")) none H)
theorem d_f_check_dial (T:Txt K mg):DefOkX P w K mg base "check_dial" ["teeth"] 2 (spCheckDial mg):=by
 obtain ⟨f,fd,F,hm,hb⟩:=T.h_f_check_dial
 refine ⟨f,fd,F.ok1 sc_f_check_dial (fun vs H Q E h=>?_) (fun cdv A outer s H vs Q E hr h=>?_),hm,F.kp,hb⟩
 ·obtain ⟨n,rfl,_⟩:=h
  rfl
 obtain ⟨n,rfl,q1,q2⟩:=h
 refine ⟨_,(@pss_one _ _ _ (ps_if (pt_not (pt_val (pe_callD (d_f_is_within T) hr (pa_cons (pv 0) (pa_cons pe_int (pa_cons pe_int pa_nil))))))
 (@pss_one _ _ _ (ps_raise out_cx rfl T.x_BadNumber T.g_BadNumber (pa_cons pe_str pa_nil)))
 pss_nil)),?_⟩
 refine ⟨_,rfl,_,_,_,rfl,_,rfl,?_⟩
 refine iteND (fun c=>?_) (fun c=>?_)
 ·exact ⟨by show 1≤sizeLine;decide,q2 c⟩
 ·exact q1 c

def spPlain (K:PySem.W.Frag):Sp:=fun vs H Q _=>∃ (a:Addr) (ws:List Int),vs=[.ref a]∧SqA K H a (ws.map V.int)∧Train ws∧∀ p,H p=none→Q (.ref p) (upd H p (.tup [.int (ratT ws),.int (ratB ws)]))
theorem d_f_plain_ratio (T:Txt K mg):DefOk P w K mg base "plain_ratio" ["train"] 1 (spPlain K):=by
 obtain ⟨f,fd,F,hm,hb⟩:=T.h_f_plain_ratio
 refine ⟨f,fd,F.ok sc_f_plain_ratio (fun vs H Q E h=>?_) (fun cdv A outer s H vs Q E hr h=>?_),hm,F.kp,hb⟩
 ·obtain ⟨a,ws,rfl,_⟩:=h
  rfl
 obtain ⟨a,ws,rfl,hA,R,q⟩:=h
 refine ⟨_,(@pss_cons _ _ _ _ _ (ps_if (pt_cmp (pc_eqI (pe_callB call_len_seq (by rfl) T.z_len PySem.boot_len (pa_cons (pv 0) pa_nil)) pe_int))
 (@pss_one _ _ _ (@ps_ret _ _ _ _ (@pe_tup _ _ _ _ _ (pa_cons (@pe_ix _ _ _ _ _ _ _ ix_any (pv 0) pe_int (fun _ _=>rfl)) (pa_cons (@pe_ix _ _ _ _ _ _ _ ix_any (pv 0) pe_int (fun _ _=>rfl)) pa_nil)))))
 pss_nil)
 (@pss_one _ _ _ (@ps_ret _ _ _ _ (@pe_tup _ _ _ _ _ (pa_cons (pe_op op_mulX (@pe_ix _ _ _ _ _ _ _ ix_any (pv 0) pe_int (fun _ _=>rfl)) (@pe_ix _ _ _ _ _ _ _ ix_any (pv 0) pe_int (fun _ _=>rfl))) (pa_cons (pe_op op_mulX (@pe_ix _ _ _ _ _ _ _ ix_any (pv 0) pe_int (fun _ _=>rfl)) (@pe_ix _ _ _ _ _ _ _ ix_any (pv 0) pe_int (fun _ _=>rfl))) pa_nil)))))),?_⟩
 rcases R.cases with ⟨x,y,rfl⟩ | ⟨x,y,z,t,rfl⟩
 ·refine ⟨_,rfl,a,_,rfl,hA,_,_,rfl,rfl,_,rfl,?_⟩
  refine iteDT rfl ?_
  exact ⟨_,rfl,_,_,_,_,rfl,rfl,hA,rfl,_,rfl,_,_,_,_,rfl,rfl,hA,rfl,(by show 2≤sizeLine;decide),q⟩
 ·refine ⟨_,rfl,a,_,rfl,hA,_,_,rfl,rfl,_,rfl,?_⟩
  refine iteDF (show ¬ ((4:Nat):Int)=2 by decide) ?_
  have h1:=R.lo x (by simp)
  have h2:=R.hi x (by simp)
  have h3:=R.lo y (by simp)
  have h4:=R.hi y (by simp)
  exact ⟨_,rfl,_,_,_,_,rfl,rfl,hA,rfl,_,rfl,_,_,_,_,rfl,rfl,hA,rfl,_,_,rfl,rfl,.inl (.inl ⟨by omega,by omega⟩),_,rfl,_,_,_,_,rfl,rfl,hA,rfl,_,rfl,_,_,_,_,rfl,rfl,hA,rfl,_,_,rfl,rfl,.inl (.inl ⟨by omega,by omega⟩),(by show 2≤sizeLine;decide),q⟩

def spGd:Sp:=fun vs H Q _=>∃ (a b:Int),vs=[.int a,.int b]∧0≤a∧0≤b∧Q (.int ((Int.gcd a b:Nat):Int)) H
theorem d_f_greatest_divisor (T:Txt K mg):DefOk P w K mg base "greatest_divisor" ["a","b"] 1 spGd:=by
 obtain ⟨f,fd,F,hm,hb⟩:=T.h_f_greatest_divisor
 refine ⟨f,fd,F.ok sc_f_greatest_divisor (fun vs H Q E h=>?_) (fun cdv A outer s H vs Q E hr h=>?_),hm,F.kp,hb⟩
 ·obtain ⟨a,b,rfl,_⟩:=h
  rfl
 obtain ⟨a,b,rfl,ha0,hb0,q⟩:=h
 refine ⟨_,(@pss_cons _ _ _ _ _ (ps_while PassesOwn.never (pt_cmp (pc_neI (pv 1) pe_int))
 (@pss_cons _ _ _ _ _ (@ps_set _ _ 2 _ _ _ _ sc_f_greatest_divisor.nd rfl (Or.inl rfl) (pe_op op_mod (pv 0) (pv 1)) (by rfl) (by first | exact .inl rfl | exact .inr rfl))
 (@pss_cons _ _ _ _ _ (@ps_set _ _ 0 _ _ _ _ sc_f_greatest_divisor.nd rfl (Or.inl rfl) (pv 1) (by rfl) (by first | exact .inl rfl | exact .inr rfl))
 (@pss_one _ _ _ (@ps_set _ _ 1 _ _ _ _ sc_f_greatest_divisor.nd rfl (Or.inl rfl) (pv 2) (by rfl) (by first | exact .inl rfl | exact .inr rfl))))))
 (@pss_one _ _ _ (@ps_ret _ _ _ _ (pv 0)))),?_⟩
 refine ⟨fun m σ H'=>∃ (x y:Int) (r:Option V),σ=[some (.int x),some (.int y),r]∧H'=H∧0≤x∧0≤y∧Int.gcd x y=Int.gcd a b∧m=y.toNat,⟨_,a,b,none,rfl,rfl,ha0,hb0,rfl,rfl⟩,?_⟩
 rintro m σ H' ⟨x,y,r,rfl,rfl,hx,hy,hg,rfl⟩
 refine ⟨_,rfl,_,_,rfl,rfl,_,rfl,?_⟩
 by_cases c:y=0
 ·subst c
  refine iteNS rfl ?_
  refine ⟨_,rfl,?_⟩
  have e:x=((Int.gcd a b:Nat):Int):=by
   rw [← hg,Int.gcd_zero_right];omega
  rw [← e] at q
  exact q
 ·refine ite2 (fun _=>?_) (fun z=>absurd (by simp [c]) z)
  refine ⟨fun σ' H''=>∃ (x' y':Int) (r':Option V),σ'=[some (.int x'),some (.int y'),r']∧H''=H'∧0≤x'∧0≤y'∧Int.gcd x' y'=Int.gcd a b∧y'.toNat<y.toNat,?_,?_⟩
  ·rintro σ' H'' ⟨x',y',r',rfl,rfl,h0,h1,h2,h3⟩
   exact ⟨_,h3,x',y',r',rfl,rfl,h0,h1,h2,rfl⟩
  ·have p:0<y:=by omega
   have e0:=Int.emod_nonneg x (Int.ne_of_gt p)
   have e1:=Int.emod_lt_of_pos x p
   refine ⟨_,rfl,_,rfl,_,_,rfl,rfl,p,_,rfl,_,rfl,y,x % y,_,rfl,rfl,hy,e0,?_,by omega⟩
   rw [gcd_step,hg]

def spLt:Sp:=fun vs H Q _=>∃ (t b:Int),vs=[.int t,.int b]∧b≠0∧Bd 8000 b∧∀ p,H p=none→Q (.ref p) (upd H p (.tup [.int (ltN t b),.int (ltD t b)]))
theorem d_f_least_terms (T:Txt K mg):DefOk P w K mg base "least_terms" ["top","bottom"] 2 spLt:=by
 obtain ⟨f,fd,F,hm,hb⟩:=T.h_f_least_terms
 refine ⟨f,fd,F.ok sc_f_least_terms (fun vs H Q E h=>?_) (fun cdv A outer s H vs Q E hr h=>?_),hm,F.kp,hb⟩
 ·obtain ⟨t,b,rfl,_⟩:=h
  rfl
 obtain ⟨t,b,rfl,hb0,hbd,q⟩:=h
 refine ⟨_,(@pss_cons _ _ _ _ _ (@ps_set _ _ 2 _ _ _ _ sc_f_least_terms.nd rfl (Or.inl rfl) (pe_callD (d_f_greatest_divisor T) hr (pa_cons (pe_callB call_abs (by rfl) T.z_abs PyProof.Rows.boot_abs (pa_cons (pv 0) pa_nil)) (pa_cons (pe_callB call_abs (by rfl) T.z_abs PyProof.Rows.boot_abs (pa_cons (pv 1) pa_nil)) pa_nil))) (by rfl) (by first | exact .inl rfl | exact .inr rfl))
 (@pss_cons _ _ _ _ _ (ps_if (pt_cmp (pc_lt (pv 1) pe_int))
 (@pss_one _ _ _ (@ps_set _ _ 2 _ _ _ _ sc_f_least_terms.nd rfl (Or.inl rfl) (pe_un un_neg (pv 2)) (by rfl) (by first | exact .inl rfl | exact .inr rfl)))
 pss_nil)
 (@pss_one _ _ _ (@ps_ret _ _ _ _ (@pe_tup _ _ _ _ _ (pa_cons (pe_op op_fdivX (pv 0) (pv 2)) (pa_cons (pe_op op_fdivX (pv 1) (pv 2)) pa_nil))))))),?_⟩
 refine ⟨_,rfl,_,rfl,_,rfl,_,rfl,_,_,rfl,by split <;> omega,by split <;> omega,?_⟩
 rw [gcd_abs]
 refine ⟨_,rfl,_,_,rfl,rfl,_,rfl,?_⟩
 have hs:sg t b≠0:=sg_ne hb0
 have hd:Bd 8000 (sg t b):=hbd.le (sg_le hb0)
 refine ite2 (fun c=>?_) (fun c=>?_)
 ·have c':b<0:=of_decide_eq_true c
  have e:-((Int.gcd t b:Nat):Int)=sg t b:=(if_pos c').symm
  unfold ltN ltD at q
  rw [← e] at q hs hd
  exact ⟨_,rfl,_,rfl,_,rfl,_,rfl,_,_,rfl,rfl,⟨hs,hd⟩,_,rfl,_,rfl,_,_,rfl,rfl,⟨hs,hd⟩,(by show 2≤sizeLine;decide),q⟩
 ·have c':¬ b<0:=of_decide_eq_false (Bool.eq_false_iff.mpr c)
  have e:((Int.gcd t b:Nat):Int)=sg t b:=(if_neg c').symm
  rw [e]
  exact ⟨_,rfl,_,rfl,_,_,rfl,rfl,⟨hs,hd⟩,_,rfl,_,rfl,_,_,rfl,rfl,⟨hs,hd⟩,(by show 2≤sizeLine;decide),q⟩

def spRatio (K:PySem.W.Frag):Sp:=fun vs H Q _=>∃ (a:Addr) (ws:List Int),vs=[.ref a]∧SqA K H a (ws.map V.int)∧Train ws∧∀ p H',Same H H'→H p=none→H' p=some (.tup [.int (ltN (ratT ws) (ratB ws)),.int (ltD (ratT ws) (ratB ws))])→Q (.ref p) H'
theorem d_f_ratio_of (T:Txt K mg):DefOk P w K mg base "ratio_of" ["train"] 3 (spRatio K):=by
 obtain ⟨f,fd,F,hm,hb⟩:=T.h_f_ratio_of
 refine ⟨f,fd,F.ok sc_f_ratio_of (fun vs H Q E h=>?_) (fun cdv A outer s H vs Q E hr h=>?_),hm,F.kp,hb⟩
 ·obtain ⟨a,ws,rfl,_⟩:=h
  rfl
 obtain ⟨a,ws,rfl,hA,R,q⟩:=h
 refine ⟨_,(@pss_cons _ _ _ _ _ (@ps_set _ _ 1 _ _ _ _ sc_f_ratio_of.nd rfl (Or.inl rfl) (pe_callD (d_f_plain_ratio T) hr (pa_cons (pv 0) pa_nil)) (by rfl) (by first | exact .inl rfl | exact .inr rfl))
 (@pss_one _ _ _ (@ps_ret _ _ _ _ (pe_callD (d_f_least_terms T) hr (pa_cons (@pe_ix _ _ _ _ _ _ _ ix_tup (pv 1) pe_int (fun _ _=>rfl)) (pa_cons (@pe_ix _ _ _ _ _ _ _ ix_tup (pv 1) pe_int (fun _ _=>rfl)) pa_nil)))))),?_⟩
 obtain ⟨_,_,b1,b2⟩:=R.in
 refine ⟨_,rfl,a,ws,rfl,hA,R,fun p hp=>?_⟩
 refine ⟨_,rfl,_,_,_,_,rfl,rfl,SqT.of (upd_same),rfl,_,rfl,_,_,_,_,rfl,rfl,SqT.of (upd_same),rfl,_,_,rfl,by omega,(Bd.of60 (by omega) (by omega)).mono (by decide),fun r hr'=>?_⟩
 have s1:=same_new hp (.tup [.int (ratT ws),.int (ratB ws)])
 exact q r _ (s1.trans (same_new hr' _)) (s1.free hr') upd_same

def spInitP (K:PySem.W.Frag) (mg:Str→Option Value):Sp:=fun vs H Q _=>∃ x dx t ts,vs=[.ref x,.ref t]∧H x=some (.ins (cOf mg "Piece") dx [])∧TupK K H t (ts.map V.int)∧(ts=[]∨Train ts) ∧
 ∀ H' rv cu,(∀ b o,H b=some o→b≠x→H' b=some o)→H cu=none→H' x=some (.ins (cOf mg "Piece") dx (pcF t rv (cOf mg "NOUGHT") (cOf mg "NOUGHT") false .non (cOf mg "NOUGHT") (cOf mg "NOUGHT") cu))→H' cu=some (.lst [])→FrM H' rv (newPS ts).pitch→Q .non H'
theorem d_m_Piece___init__ (T:Txt K mg):MakeOk P w K mg base "Piece" (cOf mg "Piece") ["self","train"] 4 (spInitP K mg):=by
 obtain ⟨f,fd,F,hm,hb⟩:=T.hi_Piece
 refine ⟨f,fd,F.ok1 sc_m_Piece___init__ (fun vs H Q E h=>?_) (fun cdv A outer s H vs Q E hr h=>?_),hm,T.g_Piece,hb⟩
 ·obtain ⟨x,dx,t,ts,rfl,_⟩:=h
  rfl
 obtain ⟨x,dx,t,ts,rfl,hx,ht,htr,q⟩:=h
 refine ⟨_,(@pss_cons _ _ _ _ _ (ps_fld (pv 0) (pv 1) rfl)
 (@pss_cons _ _ _ _ _ (ps_fld (pv 0) (pe_ifExp (pt_cmp (pc_gt (pe_callB call_len_seq (by rfl) T.z_len PySem.boot_len (pa_cons (pv 1) pa_nil)) pe_int)) (pe_callD (d_f_ratio_of T) hr (pa_cons (pv 1) pa_nil)) pe_non) rfl)
 (@pss_cons _ _ _ _ _ (ps_fld (pv 0) (pe_glob (by rfl) T.g_NOUGHT (v:=.ref (cOf mg "NOUGHT")) rfl) rfl)
 (@pss_cons _ _ _ _ _ (ps_fld (pv 0) (pe_glob (by rfl) T.g_NOUGHT (v:=.ref (cOf mg "NOUGHT")) rfl) rfl)
 (@pss_cons _ _ _ _ _ (ps_fld (pv 0) pe_bl rfl)
 (@pss_cons _ _ _ _ _ (ps_fld (pv 0) pe_non rfl)
 (@pss_cons _ _ _ _ _ (ps_fld (pv 0) (pe_glob (by rfl) T.g_NOUGHT (v:=.ref (cOf mg "NOUGHT")) rfl) rfl)
 (@pss_cons _ _ _ _ _ (ps_fld (pv 0) (pe_glob (by rfl) T.g_NOUGHT (v:=.ref (cOf mg "NOUGHT")) rfl) rfl)
 (@pss_one _ _ _ (ps_fld (pv 0) (@pe_lst _ _ _ _ pa_nil) rfl)))))))))),?_⟩
 refine ⟨_,rfl,_,rfl,_,_,_,_,rfl,hx,T.cl_Piece,T.na_Piece_train,Nat.le_of_ble_eq_true rfl,?_⟩
 have k1:∀ b o,H b=some o→b≠x→upd H x (.ins (cOf mg "Piece") dx (putF "train" (.ref t) [])) b=some o:=fun b o e n=>by rw [upd_ne n];exact e
 have ht1:TupK K (upd H x (.ins (cOf mg "Piece") dx (putF "train" (.ref t) []))) t (ts.map V.int):=ht.tups fun b xs e=>k1 b _ e fun z=>by rw [z,hx] at e;cases e
 rcases htr with rfl | R
 case' inl =>
  refine ⟨_,rfl,t,_,rfl,.inr ht1.sq,_,_,rfl,rfl,_,rfl,iteDF (by decide) ?_⟩
  refine ⟨_,rfl,_,_,_,_,rfl,upd_same,T.cl_Piece,T.na_Piece_ratio,Nat.le_of_ble_eq_true rfl,?_⟩
  have k3:∀ b o,H b=some o→b≠x→upd (upd H x (.ins (cOf mg "Piece") dx (putF "train" (.ref t) []))) x (.ins (cOf mg "Piece") dx (putF "ratio" .non (putF "train" (.ref t) []))) b=some o:=fun b o e n=>by rw [upd_ne n];exact k1 b o e n
  have hrv:∀ H':Hp,(∀ b o,upd (upd H x (.ins (cOf mg "Piece") dx (putF "train" (.ref t) []))) x (.ins (cOf mg "Piece") dx (putF "ratio" .non (putF "train" (.ref t) []))) b=some o→b≠x→H' b=some o)→FrM H' .non (newPS []).pitch:=fun _ _=>rfl
 case' inr =>
  have ne:ts≠[]:=fun e=>by have:=R.len;rw [e] at this;rcases this with z | z <;> cases z
  refine ⟨_,rfl,t,_,rfl,.inr ht1.sq,_,_,rfl,rfl,_,rfl,iteDT (by rw [List.length_map];have:=List.length_pos_iff.mpr ne;omega) ?_⟩
  refine ⟨_,rfl,t,ts,rfl,.inr ht1.sq,R,fun p H2 s2 np hp=>?_⟩
  have hx2:=s2 _ _ (upd_same (H:=H) (a:=x) (o:=.ins (cOf mg "Piece") dx (putF "train" (.ref t) [])))
  refine ⟨_,rfl,_,_,_,_,rfl,hx2,T.cl_Piece,T.na_Piece_ratio,Nat.le_of_ble_eq_true rfl,?_⟩
  have k3:∀ b o,H b=some o→b≠x→upd H2 x (.ins (cOf mg "Piece") dx (putF "ratio" (.ref p) (putF "train" (.ref t) []))) b=some o:=fun b o e n=>by rw [upd_ne n];exact s2 _ _ (k1 b o e n)
  have hrv:∀ H':Hp,(∀ b o,upd H2 x (.ins (cOf mg "Piece") dx (putF "ratio" (.ref p) (putF "train" (.ref t) []))) b=some o→b≠x→H' b=some o)→FrM H' (.ref p) (newPS ts).pitch:=fun H' kk=>by
   rw [newPS_train R]
   refine ⟨p,rfl,kk p _ ?_ ?_⟩
   ·rw [upd_ne]
    ·exact hp
    ·intro z;rw [z,hx2] at hp;cases hp
   ·intro z;rw [z,hx2] at hp;cases hp
 all_goals
  refine ⟨_,rfl,_,_,_,_,rfl,upd_same,T.cl_Piece,T.na_Piece_work_turns,Nat.le_of_ble_eq_true rfl,_,rfl,_,_,_,_,rfl,upd_same,T.cl_Piece,T.na_Piece_place,Nat.le_of_ble_eq_true rfl,_,rfl,_,_,_,_,rfl,upd_same,T.cl_Piece,T.na_Piece_closed,Nat.le_of_ble_eq_true rfl,_,rfl,_,_,_,_,rfl,upd_same,T.cl_Piece,T.na_Piece_first,Nat.le_of_ble_eq_true rfl,_,rfl,_,_,_,_,rfl,upd_same,T.cl_Piece,T.na_Piece_turn_count,Nat.le_of_ble_eq_true rfl,_,rfl,_,_,_,_,rfl,upd_same,T.cl_Piece,T.na_Piece_move_count,Nat.le_of_ble_eq_true rfl,?_⟩
  refine ⟨(by show 0≤sizeLine;decide),fun cu hcu=>?_⟩
  have cx:cu≠x:=fun z=>by rw [z,upd_same] at hcu;cases hcu
  refine ⟨_,rfl,_,_,_,_,rfl,(by rw [upd_ne (Ne.symm cx)];exact upd_same),T.cl_Piece,T.na_Piece_cuts,Nat.le_of_ble_eq_true rfl,?_⟩
  have hcu0:H cu=none:=by
   cases z:H cu with
   | none=>rfl
   | some o=>
    have:=k3 cu o z cx
    rw [upd_ne cx,upd_ne cx,upd_ne cx,upd_ne cx,upd_ne cx,upd_ne cx] at hcu
    rw [this] at hcu;cases hcu
  refine q _ _ cu (fun b o e n=>keep2 hcu b o (by rw [upd_ne n,upd_ne n,upd_ne n,upd_ne n,upd_ne n,upd_ne n];exact k3 b o e n) n) hcu0 upd_same (by rw [upd_ne cx];exact upd_same) (hrv _ fun b o e n=>keep2 hcu b o (by rw [upd_ne n,upd_ne n,upd_ne n,upd_ne n,upd_ne n,upd_ne n];exact e) n)

def spInitB (K:PySem.W.Frag) (mg:Str→Option Value):Sp:=fun vs H Q _=>∃ x dx,vs=[.ref x]∧H x=some (.ins (cOf mg "Book") dx [])∧∀ ea,H ea=none→Q .non (upd (upd H ea (.lst [])) x (.ins (cOf mg "Book") dx [("entries",.ref ea)]))
theorem d_m_Book___init__ (T:Txt K mg):MakeOk P w K mg base "Book" (cOf mg "Book") ["self"] 1 (spInitB K mg):=by
 obtain ⟨f,fd,F,hm,hb⟩:=T.hi_Book
 refine ⟨f,fd,F.ok1 sc_m_Book___init__ (fun vs H Q E h=>?_) (fun cdv A outer s H vs Q E hr h=>?_),hm,T.g_Book,hb⟩
 ·obtain ⟨x,dx,rfl,_⟩:=h
  rfl
 obtain ⟨x,dx,rfl,hx,q⟩:=h
 refine ⟨_,(@pss_one _ _ _ (ps_fld (pv 0) (@pe_lst _ _ _ _ pa_nil) rfl)),?_⟩
 refine ⟨(by show 0≤sizeLine;decide),fun ea hea=>?_⟩
 have n:x≠ea:=ne_of_none hx hea
 exact ⟨_,rfl,_,_,_,_,rfl,((upd_ne n).trans hx),T.cl_Book,T.na_Book_entries,Nat.le_of_ble_eq_true rfl,q ea hea⟩

theorem d_m_Lathe___init__ (T:Txt K mg):MakeOk P w K mg base "Lathe" (cOf mg "Lathe") ["self","wheels","teeth"] 9 (spInitL K mg):=by
 obtain ⟨f,fd,F,hm,hb⟩:=T.hi_Lathe
 refine ⟨f,fd,F.ok1 sc_m_Lathe___init__ (fun vs H Q E h=>?_) (fun cdv A outer s H vs Q E hr h=>?_),hm,T.g_Lathe,hb⟩
 ·obtain ⟨x,dx,wa,ws,n,rfl,_⟩:=h
  rfl
 obtain ⟨x,dx,wa,ws,n,rfl,hx,hdx,hT,h1000,hbd,bn,q1,q2⟩:=h
 refine ⟨_,(@pss_cons _ _ _ _ _ (ps_expr (pe_callX (d_f_check_shop T) hr (passOut out_cx) (pa_cons (pv 1) pa_nil)))
 (@pss_cons _ _ _ _ _ (ps_expr (pe_callX (d_f_check_dial T) hr (passOut out_cx) (pa_cons (pv 2) pa_nil)))
 (@pss_cons _ _ _ _ _ (ps_fld (pv 0) (pe_callTy call_tuple_of (by rfl) T.z_tuple PyProof.Rows.boot_tuple (pa_cons (pv 1) pa_nil)) rfl)
 (@pss_cons _ _ _ _ _ (ps_fld (pv 0) (pv 2) rfl)
 (@pss_cons _ _ _ _ _ (ps_fld (pv 0) (pe_makeX (d_m_Piece___init__ T) hr (passOut out_cx) (pa_cons (@pe_tup _ _ _ _ _ pa_nil) pa_nil)) rfl)
 (@pss_one _ _ _ (ps_fld (pv 0) (pe_makeX0 (d_m_Book___init__ T) hr (passOut out_cx)) rfl))))))),?_⟩
 have hA:SqA K H wa (ws.map V.int):=hT.elim (fun h=>.inl (SqL.of h)) fun h=>.inr (SqT.of h)
 refine ⟨_,rfl,wa,ws,rfl,hA,h1000,fun ok H1 s1=>?_,fun bad H1 s1=>q2 (fun G=>bad ⟨G.l2,G.l12,G.shop⟩) _ fun b o e _=>s1 b o e⟩
 refine ⟨_,rfl,n,rfl,fun ok2=>?_,fun bad=>q2 (fun G=>bad ⟨G.n2,G.n64⟩) _ fun b o e _=>s1 b o e⟩
 have G:GoodShop ws n:=⟨ok.1,ok.2.1,ok.2.2,ok2.1,ok2.2⟩
 refine (fun (key:∀ (M:Addr) (Hd:Hp),(Same H Hd∧M≠x∧Hd M=some (.tup (ws.map V.int)))→(?G:Addr→Hp→Prop) M Hd)=>?main) ?keyp
 case main =>
  rcases hT with hT | hT
  ·refine ⟨_,rfl,wa,_,rfl,.inl ⟨SqL.of (s1 _ _ hT),fun M hM=>?_⟩⟩
   have S2:=s1.trans (same_new hM (.tup (ws.map V.int)))
   have Mx:M≠x:=fun z=>by rw [z,s1 _ _ hx] at hM;cases hM
   have hM2:=upd_same (H:=H1) (a:=M) (o:=.tup (ws.map V.int))
   dsimp only
   generalize upd H1 M (.tup (ws.map V.int))=Hd at S2 hM2 ⊢
   exact key M Hd ⟨S2,Mx,hM2⟩
  ·refine ⟨_,rfl,wa,_,rfl,.inr ⟨SqT.of (s1 _ _ hT),?_⟩⟩
   dsimp only
   exact key wa _ ⟨s1,(fun z=>by rw [z,hx] at hT;cases hT),s1 _ _ hT⟩
 case keyp =>
  rintro M Hd ⟨s2,Mx,hM2⟩
  refine ⟨_,rfl,_,_,_,_,rfl,(s2 _ _ hx),T.cl_Lathe,T.na_Lathe_shop,Nat.le_of_ble_eq_true rfl,_,rfl,_,rfl,_,_,_,_,rfl,upd_same,T.cl_Lathe,T.na_Lathe_teeth,Nat.le_of_ble_eq_true rfl,?_⟩
  refine ⟨(by show 0≤sizeLine;decide),fun e0 he0=>fun px pdx npx npdx pne=>?_⟩
  have xe0:x≠e0:=fun z=>by rw [← z,upd_same] at he0;cases he0
  refine ⟨px,pdx,e0,[],rfl,upd_same,.inl (made_same npx npdx _ _ _ _ upd_same),.inl rfl,fun H7 rv cu k7 ncu hob hcu hrv=>⟨rfl,?_⟩⟩
  have s7:=made_next npx npdx k7
  have x7:=s7 _ _ ((upd_ne xe0).trans upd_same)
  have pxx:px≠x:=fun z=>by rw [z,(upd_ne xe0),upd_same] at npx;cases npx
  have cux:cu≠x:=fun z=>by rw [z,made_same npx npdx _ _ _ _ ((upd_ne xe0).trans upd_same)] at ncu;cases ncu
  refine ⟨_,rfl,_,_,_,_,rfl,x7,T.cl_Lathe,T.na_Lathe_piece,Nat.le_of_ble_eq_true rfl,?_⟩
  intro bx bdx nbx nbdx bne
  refine ⟨bx,bdx,rfl,upd_same,fun ea hea=>⟨rfl,?_⟩⟩
  have xbx:x≠bx:=fun z=>by rw [← z,upd_same] at nbx;cases nbx
  have x9:=made_same nbx nbdx (.own bx) (.ins (cOf mg "Book") bdx []) _ _ (upd_same (H:=H7) (a:=x))
  have xea:x≠ea:=ne_of_none x9 hea
  have bea:bx≠ea:=ne_of_none upd_same hea
  refine ⟨_,rfl,_,_,_,_,rfl,((upd_ne xbx).trans ((upd_ne xea).trans x9)),T.cl_Lathe,T.na_Lathe_record,Nat.le_of_ble_eq_true rfl,?_⟩
  have hM7:=s7 _ _ (up3 he0 (.tup []) Mx hM2)
  have e07:=s7 _ _ (upd_same (a:=e0) (o:=.tup []))
  have nb7:H7 bx=none:=by rw [← nbx,upd_ne (Ne.symm xbx)]
  have ne7:H7 ea=none:=by
   cases h:H7 ea with
   | none=>rfl
   | some o=>rw [made_same nbx nbdx _ _ ea o ((upd_ne (Ne.symm xea)).trans h)] at hea;cases hea
  refine q1 G _ _ (init_rep (dx:=dx) G hM7 Mx hob e07 (Ne.symm xe0) hcu hrv pxx cux T.t_NOUGHT (fun b o e nb=>?_) upd_same ((upd_ne (Ne.symm bea)).trans upd_same) (Ne.symm xbx) (Ne.symm xea) nb7 ne7) (fun b o e nb=>?_) (fun b z=>?_)
  ·exact up8 nbx nbdx hea nb e
  ·exact (upd_ne nb).trans (up8 nbx nbdx hea nb (s7 b o (up3 he0 (.tup []) nb (s2 b o e))))
  ·have back:∀ b,b≠x→H7 b=none→H b=none:=fun b nb z=>by
    cases h:H b with
    | none=>rfl
    | some o=>rw [s7 b o (up3 he0 (.tup []) nb (s2 b o h))] at z;cases z
   rcases z with z | rfl | rfl | rfl | rfl
   ·exact .inl z
   ·refine .inr (.inr ?_)
    cases h:H b with
    | none=>rfl
    | some o=>rw [up3 he0 (.tup []) pxx (s2 b o h)] at npx;cases npx
   ·refine .inr (.inr ?_)
    cases h:H b with
    | none=>rfl
    | some o=>rw [made_same npx npdx _ _ b o (up3 he0 (.tup []) cux (s2 b o h))] at ncu;cases ncu
   ·exact .inr (.inr (back _ (Ne.symm xbx) nb7))
   ·exact .inr (.inr (back _ (Ne.symm xea) ne7))

def spGcd:Sp:=fun vs H Q _=>∃ (a b:Int),vs=[.int a,.int b]∧0≤b∧Q (.int ((Int.gcd a b:Nat):Int)) H
theorem d_l_gcd (T:Txt K mg):DefOk P w K mg base "_law_gcd" ["_law_a","_law_b"] 1 spGcd:=by
 obtain ⟨f,fd,F,hm,hb⟩:=T.h_l_gcd
 refine ⟨f,fd,F.ok sc_l_gcd (fun vs H Q E h=>?_) (fun cdv A outer s H vs Q E hr h=>?_),hm,F.kp,hb⟩
 ·obtain ⟨a,b,rfl,_⟩:=h
  rfl
 obtain ⟨a,b,rfl,hb0,q⟩:=h
 refine ⟨_,(@pss_cons _ _ _ _ _ (ps_while PassesOwn.never (pt_cmp (pc_neI (pv 1) pe_int))
 (@pss_one _ _ _ (ps_par (i:=0) (j:=1) rfl sc_l_gcd.nd rfl rfl (by decide) rfl rfl (pa_cons (pv 1) (pa_cons (pe_op op_mod (pv 0) (pv 1)) pa_nil)) rfl)))
 (@pss_one _ _ _ (@ps_ret _ _ _ _ (pe_callB call_abs (by rfl) T.z_abs PyProof.Rows.boot_abs (pa_cons (pv 0) pa_nil))))),?_⟩
 refine ⟨fun m σ H'=>∃ x y:Int,σ=[some (.int x),some (.int y)]∧H'=H∧0≤y∧Int.gcd x y=Int.gcd a b∧m=y.toNat,⟨_,a,b,rfl,rfl,hb0,rfl,rfl⟩,?_⟩
 rintro m σ H' ⟨x,y,rfl,rfl,hy,hg,rfl⟩
 refine ⟨_,rfl,_,_,rfl,rfl,_,rfl,?_⟩
 by_cases c:y=0
 ·subst c
  refine iteNS rfl ?_
  refine ⟨_,rfl,_,rfl,?_⟩
  rw [gcd_end,hg]
  exact q
 ·refine ite2 (fun _=>?_) (fun z=>absurd (by simp [c]) z)
  refine ⟨fun σ' H''=>∃ x' y':Int,σ'=[some (.int x'),some (.int y')]∧H''=H'∧0≤y'∧Int.gcd x' y'=Int.gcd a b∧y'.toNat<y.toNat,?_,?_⟩
  ·rintro σ' H'' ⟨x',y',rfl,rfl,h1,h2,h3⟩
   exact ⟨_,h3,x',y',rfl,rfl,h1,h2,rfl⟩
  ·have p:0<y:=by omega
   have e0:=Int.emod_nonneg x (Int.ne_of_gt p)
   have e1:=Int.emod_lt_of_pos x p
   refine ⟨_,rfl,_,rfl,_,rfl,_,_,rfl,rfl,p,_,_,rfl,y,x % y,rfl,rfl,e0,?_,by omega⟩
   rw [gcd_step,hg]

theorem red_is {t b:Int} (hb:0<b):t / ((Int.gcd t b:Nat):Int)=ltN t b∧b / ((Int.gcd t b:Nat):Int)=ltD t b:=by
 have e:sg t b=((Int.gcd t b:Nat):Int):=if_neg (by omega)
 unfold ltN ltD
 rw [e,Int.fdiv_eq_ediv_of_nonneg _ (by omega),Int.fdiv_eq_ediv_of_nonneg _ (by omega)]
 exact ⟨rfl,rfl⟩
def spRed:Sp:=fun vs H Q _=>∃ (t b:Int),vs=[.int t,.int b]∧0<b∧Bd 8000 b∧∀ p,H p=none→Q (.ref p) (upd H p (.tup [.int (ltN t b),.int (ltD t b)]))
theorem d_l_red (T:Txt K mg):DefOk P w K mg base "_law_red" ["_law_top","_law_bottom"] 2 spRed:=by
 obtain ⟨f,fd,F,hm,hb⟩:=T.h_l_red
 refine ⟨f,fd,F.ok sc_l_red (fun vs H Q E h=>?_) (fun cdv A outer s H vs Q E hr h=>?_),hm,F.kp,hb⟩
 ·obtain ⟨t,b,rfl,_⟩:=h
  rfl
 obtain ⟨t,b,rfl,hb0,bd,q⟩:=h
 refine ⟨_,(@pss_cons _ _ _ _ _ (@ps_set _ _ 2 _ _ _ _ sc_l_red.nd rfl (Or.inl rfl) (pe_callD (d_l_gcd T) hr (pa_cons (pv 0) (pa_cons (pv 1) pa_nil))) (by rfl) (by first | exact .inl rfl | exact .inr rfl))
 (@pss_one _ _ _ (@ps_ret _ _ _ _ (@pe_tup _ _ _ _ _ (pa_cons (pe_op op_fdivP (pv 0) (pv 2)) (pa_cons (pe_op op_fdivP (pv 1) (pv 2)) pa_nil)))))),?_⟩
 have g0:0<Int.gcd t b:=gpos (by omega)
 have gp:(0:Int)<((Int.gcd t b:Nat):Int):=by omega
 have gb:Bd 8000 ((Int.gcd t b:Nat):Int):=by
  have:=sg_le (t:=t) (b:=b) (by omega)
  rw [sg_abs] at this
  exact bd.le (by omega)
 obtain ⟨e1,e2⟩:=red_is (t:=t) hb0
 rw [← e1,← e2] at q
 exact ⟨_,rfl,_,rfl,t,b,rfl,by omega,_,rfl,_,rfl,_,_,rfl,rfl,⟨gp,gb⟩,_,rfl,_,rfl,_,_,rfl,rfl,⟨gp,gb⟩,(by show 2≤sizeLine;decide),q⟩

def spLRatio (K:PySem.W.Frag):Sp:=fun vs H Q _=>∃ (a:Addr) (ws:List Int),vs=[.ref a]∧SqA K H a (ws.map V.int)∧Train ws∧∀ p,H p=none→Q (.ref p) (upd H p (.tup [.int (ltN (ratT ws) (ratB ws)),.int (ltD (ratT ws) (ratB ws))]))
theorem d_l_ratio (T:Txt K mg):DefOk P w K mg base "_law_ratio" ["_law_train"] 3 (spLRatio K):=by
 obtain ⟨f,fd,F,hm,hb⟩:=T.h_l_ratio
 refine ⟨f,fd,F.ok sc_l_ratio (fun vs H Q E h=>?_) (fun cdv A outer s H vs Q E hr h=>?_),hm,F.kp,hb⟩
 ·obtain ⟨a,ws,rfl,_⟩:=h
  rfl
 obtain ⟨a,ws,rfl,hA,R,q⟩:=h
 refine ⟨_,(@pss_cons _ _ _ _ _ (@ps_set _ _ 1 _ _ _ _ sc_l_ratio.nd rfl (Or.inl rfl) (@pe_ix _ _ _ _ _ _ _ ix_any (pv 0) pe_int (fun _ _=>rfl)) (by rfl) (by first | exact .inl rfl | exact .inr rfl))
 (@pss_cons _ _ _ _ _ (@ps_set _ _ 2 _ _ _ _ sc_l_ratio.nd rfl (Or.inl rfl) (@pe_ix _ _ _ _ _ _ _ ix_any (pv 0) pe_int (fun _ _=>rfl)) (by rfl) (by first | exact .inl rfl | exact .inr rfl))
 (@pss_cons _ _ _ _ _ (ps_if (pt_cmp (pc_eqI (pe_callB call_len_seq (by rfl) T.z_len PySem.boot_len (pa_cons (pv 0) pa_nil)) pe_int))
 (@pss_cons _ _ _ _ _ (@ps_set _ _ 1 _ _ _ _ sc_l_ratio.nd rfl (Or.inl rfl) (pe_op op_mulX (pv 1) (@pe_ix _ _ _ _ _ _ _ ix_any (pv 0) pe_int (fun _ _=>rfl))) (by rfl) (by first | exact .inl rfl | exact .inr rfl))
 (@pss_one _ _ _ (@ps_set _ _ 2 _ _ _ _ sc_l_ratio.nd rfl (Or.inl rfl) (pe_op op_mulX (pv 2) (@pe_ix _ _ _ _ _ _ _ ix_any (pv 0) pe_int (fun _ _=>rfl))) (by rfl) (by first | exact .inl rfl | exact .inr rfl))))
 pss_nil)
 (@pss_one _ _ _ (@ps_ret _ _ _ _ (pe_callD (d_l_red T) hr (pa_cons (pv 1) (pa_cons (pv 2) pa_nil)))))))),?_⟩
 obtain ⟨_,_,b1,b2⟩:=R.in
 have bd:Bd 8000 (ratB ws):=(Bd.of60 (by omega) (by omega)).mono (show 200≤8000 by decide)
 rcases R.cases with ⟨x,y,rfl⟩ | ⟨x,y,z,t,rfl⟩
 ·refine ⟨_,rfl,_,_,_,_,rfl,rfl,hA,rfl,_,rfl,_,_,_,_,rfl,rfl,hA,rfl,_,rfl,a,_,rfl,hA,_,_,rfl,rfl,_,rfl,?_⟩
  refine iteDF (show ¬ ((2:Nat):Int)=4 by decide) ?_
  exact ⟨_,rfl,_,rfl,_,_,rfl,by exact b1,by exact bd,q⟩
 ·have h1:=R.lo x (by simp)
  have h2:=R.hi x (by simp)
  have h3:=R.lo y (by simp)
  have h4:=R.hi y (by simp)
  refine ⟨_,rfl,_,_,_,_,rfl,rfl,hA,rfl,_,rfl,_,_,_,_,rfl,rfl,hA,rfl,_,rfl,a,_,rfl,hA,_,_,rfl,rfl,_,rfl,?_⟩
  refine iteDT rfl ?_
  refine ⟨_,rfl,_,rfl,_,_,_,_,rfl,rfl,hA,rfl,_,_,rfl,rfl,.inl (.inl ⟨by omega,by omega⟩),_,rfl,_,rfl,_,_,_,_,rfl,rfl,hA,rfl,_,_,rfl,rfl,.inl (.inl ⟨by omega,by omega⟩),?_⟩
  exact ⟨_,rfl,_,rfl,_,_,rfl,by exact b1,by exact bd,q⟩

def spPick (K:PySem.W.Frag):Sp:=fun vs H Q _=>∃ (c:Int) (a:Addr) (ws:List Int) (m:Int),vs=[.int c,.ref a,.int m]∧SqA K H a (ws.map V.int)∧0≤m∧m≤(ws.length:Int)∧ws.length≤100 ∧
 ∀ (ms ls:List Int) (p:Addr) (H':Hp),(ms.length:Int)=m→(ms++ls).Perm ws→Same H H'→H p=none→H' p=some (.lst (ms.map V.int))→Q (.ref p) H'
theorem d_l_pick (T:Txt K mg):DefOk P w K mg base "_law_pick" ["_law_cell","_law_wheels","_law_many"] 1 (spPick K):=by
 obtain ⟨f,fd,F,hm,hb⟩:=T.h_l_pick
 refine ⟨f,fd,F.ok sc_l_pick (fun vs H Q E h=>?_) (fun cdv A outer s H vs Q E hr h=>?_),hm,F.kp,hb⟩
 ·obtain ⟨c,a,ws,m,rfl,_⟩:=h
  rfl
 obtain ⟨c,a,ws,m,rfl,hS,hm0,hn,h100,q⟩:=h
 obtain ⟨n,rfl⟩:=Int.eq_ofNat_of_zero_le hm0
 refine ⟨_,(@pss_cons _ _ _ _ _ (@ps_set _ _ 3 _ _ _ _ sc_l_pick.nd rfl (Or.inl rfl) (pe_callTy call_list_of (by rfl) T.z_list PyProof.Rows.boot_list (pa_cons (pv 1) pa_nil)) (by rfl) (by first | exact .inl rfl | exact .inr rfl))
 (@pss_cons _ _ _ _ _ (@ps_set _ _ 4 _ _ _ _ sc_l_pick.nd rfl (Or.inl rfl) (pv 0) (by rfl) (by first | exact .inl rfl | exact .inr rfl))
 (@pss_cons _ _ _ _ _ (@ps_set _ _ 5 _ _ _ _ sc_l_pick.nd rfl (Or.inl rfl) (@pe_lst _ _ _ _ pa_nil) (by rfl) (by first | exact .inl rfl | exact .inr rfl))
 (@pss_cons _ _ _ _ _ (ps_for PassesOwn.never rfl (pi_range1 (by rfl) T.z_range (pa_cons (pv 2) pa_nil)) (pg_name (i:=6) sc_l_pick.nd rfl (Or.inl rfl))
 (@pss_cons _ _ _ _ _ (ps_expr (pe_bm PySem.F.plainAttrs_list PySem.F.slot_list_append PySem.F.type_list_append mt_append (pv 5) (pa_cons (pe_bm PySem.F.plainAttrs_list PySem.F.slot_list_pop PySem.F.type_list_pop mt_popAt (pv 3) (pa_cons (pe_op op_mod (pv 4) (pe_callB call_len_seq (by rfl) T.z_len PySem.boot_len (pa_cons (pv 3) pa_nil))) pa_nil)) pa_nil)))
 (@pss_one _ _ _ (@ps_set _ _ 4 _ _ _ _ sc_l_pick.nd rfl (Or.inl rfl) (pe_op op_fdivP (pv 4) pe_int) (by rfl) (by first | exact .inl rfl | exact .inr rfl)))))
 (@pss_one _ _ _ (@ps_ret _ _ _ _ (pv 5))))))),?_⟩
 refine ⟨_,rfl,a,_,rfl,hS,fun L hL=>?_⟩
 refine ⟨_,rfl,?_⟩
 refine ⟨(by show 0≤sizeLine;decide),fun D hD=>?_⟩
 have nLD:L≠D:=fun e=>by rw [← e,upd_same] at hD;cases hD
 have hD0:H D=none:=by rw [upd_ne (Ne.symm nLD)] at hD;exact hD
 refine ⟨_,rfl,(n:Int),rfl,by omega,by omega,?_⟩
 rw [Int.toNat_natCast]
 refine for_range (lo:=0) (n:=n) (fun i σ H'=>∃ (ms ls:List Int) (rs:Int) (k:Option V),σ=[some (.int c),some (.ref a),some (.int (n:Int)),some (.ref L),some (.int rs),some (.ref D),k]∧Same H H'∧H' D=some (.lst (ms.map V.int))∧H' L=some (.lst (ls.map V.int))∧ms.length=i∧(ms++ls).Perm ws)
  ⟨[],ws,c,none,rfl,(same_new hL _).trans (same_new hD _),upd_same,by rw [upd_ne nLD,upd_same],rfl,List.Perm.refl _⟩ ?_ ?_
 ·rintro i σ H' hi ⟨ms,ls,rs,k,rfl,hs,hm',hl,hi',hp⟩
  have hlen:=hp.length_eq
  rw [List.length_append,hi'] at hlen
  have hlp:(0:Int)<((ls.map V.int).length:Nat):=by rw [List.length_map];omega
  refine ⟨_,rfl,.inl ⟨rfl,_,SqL.of hm'⟩,_,rfl,.inl ⟨rfl,_,SqL.of hl⟩,_,rfl,_,rfl,L,_,rfl,.inl (SqL.of hl),_,_,rfl,rfl,hlp,?_⟩
  have m0:=Int.emod_nonneg rs (Int.ne_of_gt hlp)
  have m1:=Int.emod_lt_of_pos rs hlp
  have hk:(rs % ((ls.map V.int).length:Nat)).toNat<ls.length:=by rw [List.length_map] at *;omega
  obtain ⟨ix,hix⟩:∃ ix:Int,ix=rs % (((ls.map V.int).length:Nat):Int):=⟨_,rfl⟩
  rw [← hix] at m0 m1 hk
  have ea:atI (ls.map V.int) ix=some (.int ls[ix.toNat]):=by
   have ek:ix=((ix.toNat:Nat):Int):=by omega
   have:=atI_nat (xs:=ls.map V.int) (j:=ix.toNat) (v:=.int ls[ix.toNat]) (by rw [List.getElem?_map,List.getElem?_eq_getElem hk] <;> rfl)
   rw [← ek] at this
   exact this
  obtain ⟨j,j1,j2,_⟩:=atI_get ea
  have h63:ix<2 ^ 63:=by rw [List.length_map] at m1;omega
  have hj:ls[j]? = some ls[ix.toNat]:=by
   rw [List.getElem?_map] at j2
   cases e:ls[j]? with
   | none=>rw [e] at j2;cases j2
   | some z=>rw [e] at j2;cases j2;rfl
  have m63:-(2 ^ 63)≤ix:=by omega
  refine ⟨L,_,ix,j,_,rfl,(by rw [hix]),hl,m63,h63,j1,j2,?_⟩
  refine ⟨D,_,_,rfl,rfl,(by rw [upd_ne (Ne.symm nLD)];exact hm'),(by rw [List.length_map];exact small1000 (by omega)),?_⟩
  refine ⟨_,rfl,_,_,rfl,rfl,⟨by decide,by unfold Bd;decide⟩,ms++[ls[ix.toNat]],ls.eraseIdx j,_,_,rfl,fun b o e=>?_,?_,?_,by simp [hi'],?_⟩
  ·rw [upd_ne (ne_of_none e hD0),upd_ne (ne_of_none e hL)];exact hs b o e
  ·rw [upd_same,List.map_append];rfl
  ·rw [upd_ne nLD,upd_same,map_eraseIdx]
  ·rw [List.append_assoc]
   exact (List.Perm.append_left ms (perm_erase hj)).trans hp
 ·rintro σ H' ⟨ms,ls,rs,k,rfl,hs,hm',hl,hi',hp⟩
  exact ⟨_,rfl,q ms ls D H' (by rw [hi']) hp hs hD0 hm'⟩

def spGoodT (K:PySem.W.Frag):Sp:=fun vs H Q _=>∃ (c:Int) (a:Addr) (ws:List Int),vs=[.int c,.ref a]∧SqA K H a (ws.map V.int)∧Shop ws∧2≤ws.length∧ws.length≤12 ∧
 ∀ (ms:List Int) (p:Addr) (H':Hp),Train ms→ms.Nodup→(∀ v∈ms,v∈ws)→Same H H'→H p=none→H' p=some (.tup (ms.map V.int))→Q (.ref p) H'
theorem d_l_good_train (T:Txt K mg):DefOk P w K mg base "_law_good_train" ["_law_cell","_law_wheels"] 2 (spGoodT K):=by
 obtain ⟨f,fd,F,hm,hb⟩:=T.h_l_good_train
 refine ⟨f,fd,F.ok sc_l_good_train (fun vs H Q E h=>?_) (fun cdv A outer s H vs Q E hr h=>?_),hm,F.kp,hb⟩
 ·obtain ⟨c,a,ws,rfl,_⟩:=h
  rfl
 obtain ⟨c,a,ws,rfl,hA,S,l2,l12,q⟩:=h
 refine ⟨_,(@pss_cons _ _ _ _ _ (@ps_set _ _ 2 _ _ _ _ sc_l_good_train.nd rfl (Or.inl rfl) (pe_op op_mulX (pe_op op_fdivP (pe_callB (call_min2 rfl) (by rfl) T.z_min PyProof.Rows.boot_min (pa_cons (pe_callB call_len_seq (by rfl) T.z_len PySem.boot_len (pa_cons (pv 1) pa_nil)) (pa_cons (@pe_ix _ _ _ _ _ _ _ ix_list (@pe_lst _ _ _ _ (pa_cons pe_int (pa_cons pe_int pa_nil))) (pe_op op_mod (pv 0) pe_int) (fun _ _=>rfl)) pa_nil))) pe_int) pe_int) (by rfl) (by first | exact .inl rfl | exact .inr rfl))
 (@pss_one _ _ _ (@ps_ret _ _ _ _ (pe_callTy call_tuple_of (by rfl) T.z_tuple PyProof.Rows.boot_tuple (pa_cons (pe_callD (d_l_pick T) hr (pa_cons (pe_op op_fdivP (pv 0) pe_int) (pa_cons (pv 1) (pa_cons (pv 2) pa_nil)))) pa_nil))))),?_⟩
 obtain ⟨g,hg,g1⟩:=at2i (a:=2) (b:=4) (i:=c % 2) (fun v=>v=2∨v=4) (by omega) (by omega) (.inl rfl) (.inr rfl)
 refine ⟨_,rfl,a,_,rfl,hA,(by show 2≤sizeLine;decide),fun p1 hp1=>?_⟩
 have t1:=same_new hp1 (.lst [V.int 2,V.int 4])
 refine ⟨_,rfl,_,_,rfl,rfl,(by show (0:Int)<2;decide),p1,_,_,_,rfl,rfl,SqL.of upd_same,hg,_,_,rfl,_,_,rfl,rfl,⟨by decide,by unfold Bd;decide⟩,_,_,rfl,rfl,.inl (.inr ⟨by decide,by decide⟩),?_⟩
 have hl:(ws.map V.int).length=ws.length:=List.length_map _
 have hm:(if g<(((ws.map V.int).length:Nat):Int) then g else (((ws.map V.int).length:Nat):Int)) / 2 * 2=2∨(if g<(((ws.map V.int).length:Nat):Int) then g else (((ws.map V.int).length:Nat):Int)) / 2 * 2=4:=by
  rw [hl];split <;> omega
 have hm2:(if g<(((ws.map V.int).length:Nat):Int) then g else (((ws.map V.int).length:Nat):Int)) / 2 * 2≤(ws.length:Int):=by
  rw [hl];split <;> omega
 refine ⟨_,rfl,_,_,rfl,rfl,⟨by decide,by unfold Bd;decide⟩,_,rfl,_,rfl,_,a,ws,_,rfl,t1.any hA,by omega,hm2,by omega,fun ms ls M H2 hml hp s2 nM hM=>?_⟩
 have R:Train ms:=⟨by omega,fun v hv=>S.lo v (hp.mem_iff.mp (List.mem_append_left _ hv)),fun v hv=>S.hi v (hp.mem_iff.mp (List.mem_append_left _ hv))⟩
 have nd:ms.Nodup:=(List.nodup_append.mp (hp.nodup_iff.mpr S.nd)).1
 refine ⟨M,_,rfl,.inl ⟨SqL.of hM,fun p hp3=>?_⟩⟩
 exact q ms p _ R nd (fun v hv=>hp.mem_iff.mp (List.mem_append_left _ hv)) (t1.trans (s2.trans (same_new hp3 _))) ((t1.trans s2).free hp3) upd_same

def spMulL (K:PySem.W.Frag):Sp:=fun vs H Q _=>∃ (p r:Addr) (a b c d:Int),vs=[.ref p,.ref r]∧TupK K H p [.int a,.int b]∧TupK K H r [.int c,.int d]∧Bd 3000 a∧Bd 3000 b∧Bd 3000 c∧Bd 3000 d∧0<b∧0<d ∧
 ∀ n,H n=none→Q (.ref n) (upd H n (.tup [.int (ltN (a * c) (b * d)),.int (ltD (a * c) (b * d))]))
theorem d_l_mul (T:Txt K mg):DefOk P w K mg base "_law_mul" ["_law_a","_law_b"] 3 (spMulL K):=by
 obtain ⟨f,fd,F,hm,hb⟩:=T.h_l_mul
 refine ⟨f,fd,F.ok sc_l_mul (fun vs H Q E h=>?_) (fun cdv A outer s H vs Q E hr h=>?_),hm,F.kp,hb⟩
 ·obtain ⟨p,r,a,b,c,d,rfl,_⟩:=h
  rfl
 obtain ⟨p,r,a,b,c,d,rfl,hp,hr',ba,bb,bc,bd,b0,d0,q⟩:=h
 refine ⟨_,(@pss_one _ _ _ (@ps_ret _ _ _ _ (pe_callD (d_l_red T) hr (pa_cons (pe_op op_mulX (@pe_ix _ _ _ _ _ _ _ ix_tup (pv 0) pe_int (fun _ _=>rfl)) (@pe_ix _ _ _ _ _ _ _ ix_tup (pv 1) pe_int (fun _ _=>rfl))) (pa_cons (pe_op op_mulX (@pe_ix _ _ _ _ _ _ _ ix_tup (pv 0) pe_int (fun _ _=>rfl)) (@pe_ix _ _ _ _ _ _ _ ix_tup (pv 1) pe_int (fun _ _=>rfl))) pa_nil))))),?_⟩
 exact ⟨_,rfl,_,_,_,_,rfl,rfl,hp.sq,rfl,_,rfl,_,_,_,_,rfl,rfl,hr'.sq,rfl,_,_,rfl,rfl,.inr ⟨ba.mono (by decide),bc.mono (by decide)⟩,_,rfl,_,_,_,_,rfl,rfl,hp.sq,rfl,_,rfl,_,_,_,_,rfl,rfl,hr'.sq,rfl,_,_,rfl,rfl,.inr ⟨bb.mono (by decide),bd.mono (by decide)⟩,_,_,rfl,Int.mul_pos b0 d0,(bb.mul bd).mono (by decide),q⟩

def spAddL (K:PySem.W.Frag):Sp:=fun vs H Q _=>∃ (p r:Addr) (a b c d:Int),vs=[.ref p,.ref r]∧TupK K H p [.int a,.int b]∧TupK K H r [.int c,.int d]∧Bd 3000 a∧Bd 3000 b∧Bd 3000 c∧Bd 3000 d∧0<b∧0<d ∧
 ∀ n,H n=none→Q (.ref n) (upd H n (.tup [.int (ltN (a * d + c * b) (b * d)),.int (ltD (a * d + c * b) (b * d))]))
theorem d_l_add (T:Txt K mg):DefOk P w K mg base "_law_add" ["_law_a","_law_b"] 3 (spAddL K):=by
 obtain ⟨f,fd,F,hm,hb⟩:=T.h_l_add
 refine ⟨f,fd,F.ok sc_l_add (fun vs H Q E h=>?_) (fun cdv A outer s H vs Q E hr h=>?_),hm,F.kp,hb⟩
 ·obtain ⟨p,r,a,b,c,d,rfl,_⟩:=h
  rfl
 obtain ⟨p,r,a,b,c,d,rfl,hp,hr',ba,bb,bc,bd,b0,d0,q⟩:=h
 refine ⟨_,(@pss_one _ _ _ (@ps_ret _ _ _ _ (pe_callD (d_l_red T) hr (pa_cons (pe_op op_add (pe_op op_mulX (@pe_ix _ _ _ _ _ _ _ ix_tup (pv 0) pe_int (fun _ _=>rfl)) (@pe_ix _ _ _ _ _ _ _ ix_tup (pv 1) pe_int (fun _ _=>rfl))) (pe_op op_mulX (@pe_ix _ _ _ _ _ _ _ ix_tup (pv 1) pe_int (fun _ _=>rfl)) (@pe_ix _ _ _ _ _ _ _ ix_tup (pv 0) pe_int (fun _ _=>rfl)))) (pa_cons (pe_op op_mulX (@pe_ix _ _ _ _ _ _ _ ix_tup (pv 0) pe_int (fun _ _=>rfl)) (@pe_ix _ _ _ _ _ _ _ ix_tup (pv 1) pe_int (fun _ _=>rfl))) pa_nil))))),?_⟩
 exact ⟨_,rfl,_,_,_,_,rfl,rfl,hp.sq,rfl,_,rfl,_,_,_,_,rfl,rfl,hr'.sq,rfl,_,_,rfl,rfl,.inr ⟨ba.mono (by decide),bd.mono (by decide)⟩,_,rfl,_,_,_,_,rfl,rfl,hr'.sq,rfl,_,rfl,_,_,_,_,rfl,rfl,hp.sq,rfl,_,_,rfl,rfl,.inr ⟨bc.mono (by decide),bb.mono (by decide)⟩,_,_,rfl,rfl,_,rfl,_,_,_,_,rfl,rfl,hp.sq,rfl,_,rfl,_,_,_,_,rfl,rfl,hr'.sq,rfl,_,_,rfl,rfl,.inr ⟨bb.mono (by decide),bd.mono (by decide)⟩,_,_,rfl,Int.mul_pos b0 d0,(bb.mul bd).mono (by decide),q⟩

def spAsked (K:PySem.W.Frag):Sp:=fun vs H Q _=>∃ (a W:Addr) (ns ws:List Int),vs=[.ref a,.ref W]∧SqL K H a (ns.map V.int)∧SqA K H W (ws.map V.int)∧Shop ws∧2≤ws.length∧ws.length≤12 ∧
 ∀ (p:Addr) (x y:Int) (H':Hp),Same H H'→H' p=some (.tup [.int x,.int y])→((1≤y∧y≤1000)∧y≤100 * x∧x≤100 * y)→Q (.ref p) H'
theorem d_l_asked_pitch (T:Txt K mg):DefOk P w K mg base "_law_asked_pitch" ["_law_script","_law_wheels"] 5 (spAsked K):=by
 obtain ⟨f,fd,F,hm,hb⟩:=T.h_l_asked_pitch
 refine ⟨f,fd,F.ok sc_l_asked_pitch (fun vs H Q E h=>?_) (fun cdv A outer s H vs Q E hr h=>?_),hm,F.kp,hb⟩
 ·obtain ⟨a,W,ns,ws,rfl,_⟩:=h
  rfl
 obtain ⟨a,W,ns,ws,rfl,hS,hW,S,l2,l12,q⟩:=h
 refine ⟨_,(@pss_cons _ _ _ _ _ (@ps_set _ _ 2 _ _ _ _ sc_l_asked_pitch.nd rfl (Or.inl rfl) (pe_callD (d_l_draw T) hr (pa_cons (pv 0) (pa_cons pe_int pa_nil))) (by rfl) (by first | exact .inl rfl | exact .inr rfl))
 (@pss_cons _ _ _ _ _ (@ps_set _ _ 3 _ _ _ _ sc_l_asked_pitch.nd rfl (Or.inl rfl) (pe_callD (d_l_draw T) hr (pa_cons (pv 0) (pa_cons pe_int pa_nil))) (by rfl) (by first | exact .inl rfl | exact .inr rfl))
 (@pss_cons _ _ _ _ _ (@ps_set _ _ 4 _ _ _ _ sc_l_asked_pitch.nd rfl (Or.inl rfl) (pe_callD (d_l_ratio T) hr (pa_cons (pe_callD (d_l_good_train T) hr (pa_cons (pv 3) (pa_cons (pv 1) pa_nil))) pa_nil)) (by rfl) (by first | exact .inl rfl | exact .inr rfl))
 (@pss_cons _ _ _ _ _ (ps_if (pt_cmp (pc_eqI (pe_op op_mod (pv 2) pe_int) pe_int))
 (@pss_cons _ _ _ _ _ (@ps_set _ _ 5 _ _ _ _ sc_l_asked_pitch.nd rfl (Or.inl rfl) (pe_callD (d_l_ratio T) hr (pa_cons (pe_callD (d_l_pick T) hr (pa_cons (pv 3) (pa_cons (pv 1) (pa_cons pe_int pa_nil)))) pa_nil)) (by rfl) (by first | exact .inl rfl | exact .inr rfl))
 (@pss_cons _ _ _ _ _ (@ps_set _ _ 6 _ _ _ _ sc_l_asked_pitch.nd rfl (Or.inl rfl) (pe_callD (d_l_ratio T) hr (pa_cons (pe_callD (d_l_pick T) hr (pa_cons (pe_op op_fdivP (pv 3) pe_int) (pa_cons (pv 1) (pa_cons pe_int pa_nil)))) pa_nil)) (by rfl) (by first | exact .inl rfl | exact .inr rfl))
 (@pss_one _ _ _ (@ps_set _ _ 4 _ _ _ _ sc_l_asked_pitch.nd rfl (Or.inl rfl) (pe_callD (d_l_mul T) hr (pa_cons (pe_callD (d_l_add T) hr (pa_cons (pv 5) (pa_cons (pv 6) pa_nil))) (pa_cons (@pe_tup _ _ _ _ _ (pa_cons pe_int (pa_cons pe_int pa_nil))) pa_nil))) (by rfl) (by first | exact .inl rfl | exact .inr rfl)))))
 pss_nil)
 (@pss_cons _ _ _ _ _ (ps_if (pw_or (pt_cmp (pc_eqI (pe_op op_mod (pv 2) pe_int) pe_int)) (pw_or (pt_cmp (pc_gt (@pe_ix _ _ _ _ _ _ _ ix_tup (pv 4) pe_int (fun _ _=>rfl)) pe_int)) (pw_or (pt_cmp (pc_lt (pe_op op_mulX pe_int (@pe_ix _ _ _ _ _ _ _ ix_tup (pv 4) pe_int (fun _ _=>rfl))) (@pe_ix _ _ _ _ _ _ _ ix_tup (pv 4) pe_int (fun _ _=>rfl)))) (pw_or1 (pt_cmp (pc_gt (@pe_ix _ _ _ _ _ _ _ ix_tup (pv 4) pe_int (fun _ _=>rfl)) (pe_op op_mulX pe_int (@pe_ix _ _ _ _ _ _ _ ix_tup (pv 4) pe_int (fun _ _=>rfl))))))))).pt
 (@pss_cons _ _ _ _ _ (@ps_set _ _ 7 _ _ _ _ sc_l_asked_pitch.nd rfl (Or.inl rfl) (pe_op op_add pe_int (pe_op op_mod (pe_op op_fdivP (pv 3) pe_int) pe_int)) (by rfl) (by first | exact .inl rfl | exact .inr rfl))
 (@pss_cons _ _ _ _ _ (@ps_set _ _ 4 _ _ _ _ sc_l_asked_pitch.nd rfl (Or.inl rfl) (@pe_tup _ _ _ _ _ (pa_cons (pe_callB (call_max2 rfl) (by rfl) T.z_max PyProof.Rows.boot_max (pa_cons (pe_op op_add pe_int (pe_op op_mod (pv 3) pe_int)) (pa_cons (pe_op op_add (pe_op op_fdivP (pv 7) pe_int) pe_int) pa_nil))) (pa_cons (pv 7) pa_nil))) (by rfl) (by first | exact .inl rfl | exact .inr rfl))
 (@pss_one _ _ _ (@ps_set _ _ 4 _ _ _ _ sc_l_asked_pitch.nd rfl (Or.inl rfl) (@pe_tup _ _ _ _ _ (pa_cons (pe_callB (call_min2 rfl) (by rfl) T.z_min PyProof.Rows.boot_min (pa_cons (@pe_ix _ _ _ _ _ _ _ ix_tup (pv 4) pe_int (fun _ _=>rfl)) (pa_cons (pe_op op_mulX pe_int (pv 7)) pa_nil))) (pa_cons (pv 7) pa_nil))) (by rfl) (by first | exact .inl rfl | exact .inr rfl)))))
 pss_nil)
 (@pss_one _ _ _ (@ps_ret _ _ _ _ (pv 4)))))))),?_⟩
 refine ⟨_,rfl,a,ns,4,rfl,hS,by decide,by decide,?_⟩
 generalize drawF ns 4=c
 refine ⟨_,rfl,a,ns,5,rfl,hS,by decide,by decide,?_⟩
 generalize drawF ns 5=far
 have sm:∀ {i:Int},1≤i→i≤16129→Bd 64 i:=fun h1 h2=>bd20 (by omega) (by omega)
 have lt:∀ {ms:List Int},Train ms→1≤ltD (ratT ms) (ratB ms)∧Bd 64 (ltN (ratT ms) (ratB ms))∧Bd 64 (ltD (ratT ms) (ratB ms)):=fun {ms} R=>by
  have i:=R.in
  have Lg:=lt_is (t:=ratT ms) (b:=ratB ms) (by omega)
  exact ⟨Lg.pos,(sm i.1 i.2.1).le Lg.nx,(sm i.2.2.1 i.2.2.2).le Lg.ny⟩
 have pk:∀ {ms ls:List Int},(ms.length:Int)=2→(ms++ls).Perm ws→Train ms:=fun {ms ls} h1 h2 =>
  ⟨.inl (by omega),fun v hv=>S.lo v (h2.mem_iff.mp (List.mem_append_left _ hv)),fun v hv=>S.hi v (h2.mem_iff.mp (List.mem_append_left _ hv))⟩
 refine ⟨_,rfl,_,rfl,_,W,ws,rfl,hW,S,l2,l12,fun m1 M1 H1 T1 nd1 sub1 s1 nM1 hM1=>?_⟩
 refine ⟨M1,m1,rfl,.inr (SqT.of hM1),T1,fun p0 hp0=>?_⟩
 have f0:=lt T1
 have s2:=s1.trans (same_new hp0 (.tup [.int (ltN (ratT m1) (ratB m1)),.int (ltD (ratT m1) (ratB m1))]))
 have e0:upd H1 p0 (.tup [.int (ltN (ratT m1) (ratB m1)),.int (ltD (ratT m1) (ratB m1))]) p0=_:=upd_same
 generalize upd H1 p0 (.tup [.int (ltN (ratT m1) (ratB m1)),.int (ltD (ratT m1) (ratB m1))])=H2 at s2 e0 ⊢
 generalize ltN (ratT m1) (ratB m1)=x0 at f0 e0
 generalize ltD (ratT m1) (ratB m1)=y0 at f0 e0
 clear hM1 nM1 s1 hp0 sub1 nd1
 refine (fun (key1:∀ (y5 y6:Option V) (p:Addr) (Hd:Hp),(∃ x y:Int,Same H Hd∧Hd p=some (.tup [.int x,.int y])∧1≤y∧Bd 200 x∧Bd 200 y)→(?G1:Option V→Option V→Addr→Hp→Prop) y5 y6 p Hd)=>?main1) ?keyp1
 case main1 =>
  refine ⟨_,rfl,_,_,rfl,rfl,(by show (0:Int)<3;decide),_,_,rfl,rfl,_,rfl,iteD (fun c1=>?_) (fun c1=>?_)⟩
  ·refine ⟨_,rfl,_,rfl,far,W,ws,2,rfl,s2.any hW,by decide,by omega,by omega,fun ms ls L1 H3 h1 h2 s3 nL1 hL1=>?_⟩
   have R1:=pk h1 h2
   refine ⟨L1,ms,rfl,.inl (SqL.of hL1),R1,fun q1 hq1=>?_⟩
   have g1:=lt R1
   have s4:=s2.trans (s3.trans (same_new hq1 (.tup [.int (ltN (ratT ms) (ratB ms)),.int (ltD (ratT ms) (ratB ms))])))
   have e1:upd H3 q1 (.tup [.int (ltN (ratT ms) (ratB ms)),.int (ltD (ratT ms) (ratB ms))]) q1=_:=upd_same
   generalize upd H3 q1 (.tup [.int (ltN (ratT ms) (ratB ms)),.int (ltD (ratT ms) (ratB ms))])=H4 at s4 e1 ⊢
   generalize ltN (ratT ms) (ratB ms)=x1 at g1 e1
   generalize ltD (ratT ms) (ratB ms)=y1 at g1 e1
   clear hL1 nL1 s3 hq1 h1 h2 R1
   refine ⟨_,rfl,_,_,rfl,rfl,⟨by decide,by unfold Bd;decide⟩,_,rfl,_,W,ws,2,rfl,s4.any hW,by decide,by omega,by omega,fun ms' ls' L2 H5 h1 h2 s5 nL2 hL2=>?_⟩
   have R2:=pk h1 h2
   refine ⟨L2,ms',rfl,.inl (SqL.of hL2),R2,fun q2 hq2=>?_⟩
   have g2:=lt R2
   have s45:=s5.trans (same_new hq2 (.tup [.int (ltN (ratT ms') (ratB ms')),.int (ltD (ratT ms') (ratB ms'))]))
   have e2:upd H5 q2 (.tup [.int (ltN (ratT ms') (ratB ms')),.int (ltD (ratT ms') (ratB ms'))]) q2=_:=upd_same
   generalize upd H5 q2 (.tup [.int (ltN (ratT ms') (ratB ms')),.int (ltD (ratT ms') (ratB ms'))])=H6 at s45 e2 ⊢
   generalize ltN (ratT ms') (ratB ms')=x2 at g2 e2
   generalize ltD (ratT ms') (ratB ms')=y2 at g2 e2
   have e1:=s45 _ _ e1
   have s6:=s4.trans s45
   clear hL2 nL2 s5 hq2 h1 h2 R2 s4 s45
   refine ⟨_,rfl,_,rfl,q1,q2,x1,y1,x2,y2,rfl,.inl e1,.inl e2,g1.2.1.mono (by decide),g1.2.2.mono (by decide),g2.2.1.mono (by decide),g2.2.2.mono (by decide),by omega,by omega,fun n3 hn3=>?_⟩
   have y12:y1 * y2≠0:=Int.mul_ne_zero (by omega) (by omega)
   have Lg:=lt_is (t:=x1 * y2 + x2 * y1) (b:=y1 * y2) y12
   have bN:Bd 136 (ltN (x1 * y2 + x2 * y1) (y1 * y2)):=Bd.le ((((g1.2.1.mul g2.2.2).mono (show 64 + 64≤130 by decide)).add ((g2.2.1.mul g1.2.2).mono (show 64 + 64≤130 by decide))).mono (show _≤136 by decide)) Lg.nx
   have bD:Bd 136 (ltD (x1 * y2 + x2 * y1) (y1 * y2)):=Bd.le ((g1.2.2.mul g2.2.2).mono (show 64 + 64≤136 by decide)) Lg.ny
   have s7:=same_new hn3 (.tup [.int (ltN (x1 * y2 + x2 * y1) (y1 * y2)),.int (ltD (x1 * y2 + x2 * y1) (y1 * y2))])
   have e3:upd H6 n3 (.tup [.int (ltN (x1 * y2 + x2 * y1) (y1 * y2)),.int (ltD (x1 * y2 + x2 * y1) (y1 * y2))]) n3=_:=upd_same
   have pD:=Lg.pos
   generalize upd H6 n3 (.tup [.int (ltN (x1 * y2 + x2 * y1) (y1 * y2)),.int (ltD (x1 * y2 + x2 * y1) (y1 * y2))])=H7 at s7 e3 ⊢
   generalize ltN (x1 * y2 + x2 * y1) (y1 * y2)=x3 at bN e3
   generalize ltD (x1 * y2 + x2 * y1) (y1 * y2)=y3 at bD e3 pD
   clear Lg y12 hn3 e1 e2 g1 g2
   refine ⟨(by show 2≤sizeLine;decide),fun h4 hh4=>?_⟩
   have s8:=same_new hh4 (.tup [.int 1,.int 2])
   refine ⟨n3,h4,x3,y3,1,2,rfl,.inl (s8 _ _ e3),.inl upd_same,bN.mono (by decide),bD.mono (by decide),(sm (by decide) (by decide)).mono (by decide),(sm (by decide) (by decide)).mono (by decide),by omega,by decide,fun n5 hn5=>?_⟩
   have Lh:=lt_is (t:=x3 * 1) (b:=y3 * 2) (by omega)
   have s9:=s6.trans (s7.trans (s8.trans (same_new hn5 (.tup [.int (ltN (x3 * 1) (y3 * 2)),.int (ltD (x3 * 1) (y3 * 2))]))))
   generalize hG:upd (upd H7 h4 _) n5 _=H9
   have s9:Same H H9:=by rw [← hG];exact s9
   have e9:H9 n5=some (.tup [.int (ltN (x3 * 1) (y3 * 2)),.int (ltD (x3 * 1) (y3 * 2))]):=by rw [← hG];exact upd_same
   generalize some (V.ref q1)=y5
   generalize some (V.ref q2)=y6
   refine key1 y5 y6 n5 H9 ⟨_,_,s9,e9,Lh.pos,Bd.le ?_ Lh.nx,Bd.le ?_ Lh.ny⟩
   ·exact (bN.mul (sm (i:=1) (by decide) (by decide))).mono (by decide)
   ·exact (bD.mul (sm (i:=2) (by decide) (by decide))).mono (by decide)
  ·exact key1 none none p0 H2 ⟨x0,y0,s2,e0,f0.1,f0.2.1.mono (by decide),f0.2.2.mono (by decide)⟩
 case keyp1 =>
  clear e0 f0 s2 T1 lt pk
  rintro y5 y6 p Hd ⟨x,y,s3,e,y1,bx,bY⟩
  have b100:Bd 200 100:=Bd.of60 (by decide) (by decide)
  refine (fun (key2:(?G2:Prop))=>?main2) ?keyp2
  case main2 =>
   refine ⟨_,rfl,_,_,rfl,rfl,(by show (0:Int)<3;decide),_,_,rfl,rfl,_,rfl,iteD (fun _=>iteT ?_) (fun _=>?_)⟩
   ·exact key2
   refine ⟨_,rfl,_,_,_,_,rfl,rfl,SqT.of (e),rfl,_,_,rfl,rfl,_,rfl,iteD (fun _=>iteT ?_) (fun n2=>?_)⟩
   ·exact key2
   refine ⟨_,rfl,_,_,_,_,rfl,rfl,SqT.of (e),rfl,_,_,rfl,rfl,.inr ⟨b100.mono (by decide),bx.mono (by decide)⟩,_,rfl,_,_,_,_,rfl,rfl,SqT.of (e),rfl,_,_,rfl,rfl,_,rfl,iteD (fun _=>iteT ?_) (fun n3=>?_)⟩
   ·exact key2
   refine ⟨_,rfl,_,_,_,_,rfl,rfl,SqT.of (e),rfl,_,rfl,_,_,_,_,rfl,rfl,SqT.of (e),rfl,_,_,rfl,rfl,.inr ⟨b100.mono (by decide),bY.mono (by decide)⟩,_,_,rfl,rfl,_,rfl,iteD (fun _=>?_) (fun n4=>?_)⟩
   ·exact key2
   refine ⟨_,rfl,q p x y Hd s3 e ?_⟩
   have n2:¬ y > 1000:=n2
   have n3:¬ 100 * x<y:=n3
   have n4:¬ x > 100 * y:=n4
   omega
  case keyp2 =>
   refine ⟨_,rfl,_,_,rfl,rfl,⟨by decide,by unfold Bd;decide⟩,_,_,rfl,rfl,(by show (0:Int)<1000;decide),_,_,rfl,rfl,?_⟩
   dsimp only
   obtain ⟨b,hb⟩:∃ b,b=1 + far / 1000 % 1000:=⟨_,rfl⟩
   rw [← hb]
   have b1:1≤b∧b≤1000:=by omega
   refine ⟨_,rfl,_,_,rfl,rfl,(by show (0:Int)<1000;decide),_,_,rfl,rfl,_,rfl,_,_,rfl,rfl,⟨by decide,by unfold Bd;decide⟩,_,_,rfl,rfl,_,_,rfl,_,rfl,(by show 2≤sizeLine;decide),fun p1 hp1=>?_⟩
   generalize hG:upd Hd p1 _=G1
   obtain ⟨t,ht⟩:∃ t:Int,t=if b / 100 + 1 > 1 + far % 1000 then b / 100 + 1 else 1 + far % 1000:=⟨_,rfl⟩
   have e1:G1 p1=some (.tup [.int t,.int b]):=by rw [← hG,ht];exact upd_same
   have s4:Same H G1:=by rw [← hG];exact s3.trans (same_new hp1 _)
   have t1:b≤100 * t∧1≤t:=by rw [ht];split <;> omega
   clear hG ht
   refine ⟨_,rfl,_,_,_,_,rfl,rfl,SqT.of (e1),rfl,_,rfl,_,_,rfl,rfl,.inr ⟨b100.mono (by decide),(Bd.of60 (i:=b) (by omega) (by omega)).mono (by decide)⟩,_,_,rfl,_,rfl,(by show 2≤sizeLine;decide),fun p2 hp2=>?_⟩
   refine ⟨_,rfl,q p2 (if 100 * b<t then 100 * b else t) b _ (s4.trans (same_new hp2 _)) upd_same ?_⟩
   split <;> omega

def spBottom (K:PySem.W.Frag) (mg:Str→Option Value):Sp:=fun vs H Q E=>∃ (a:Addr) (x y:Int),vs=[.ref a]∧TupK K H a [.int x,.int y]∧(1≤y∧y≤1000→Q .non H)∧(¬ (1≤y∧y≤1000)→E (.ref (cOf mg "BadNumber")) none H)
theorem d_f_check_bottom (T:Txt K mg):DefOkX P w K mg base "check_bottom" ["fraction"] 2 (spBottom K mg):=by
 obtain ⟨f,fd,F,hm,hb⟩:=T.h_f_check_bottom
 refine ⟨f,fd,F.ok1 sc_f_check_bottom (fun vs H Q E h=>?_) (fun cdv A outer s H vs Q E hr h=>?_),hm,F.kp,hb⟩
 ·obtain ⟨a,x,y,rfl,_⟩:=h
  rfl
 obtain ⟨a,x,y,rfl,hA,q1,q2⟩:=h
 refine ⟨_,(@pss_one _ _ _ (ps_if (pt_not (pt_val (pe_callD (d_f_is_within T) hr (pa_cons (@pe_ix _ _ _ _ _ _ _ ix_tup (pv 0) pe_int (fun _ _=>rfl)) (pa_cons pe_int (pa_cons pe_int pa_nil))))))
 (@pss_one _ _ _ (ps_raise out_cx rfl T.x_BadNumber T.g_BadNumber (pa_cons pe_str pa_nil)))
 pss_nil)),?_⟩
 refine ⟨_,rfl,_,_,_,_,rfl,rfl,hA.sq,rfl,_,_,_,rfl,_,rfl,?_⟩
 refine iteND (fun c=>?_) (fun c=>?_)
 ·exact ⟨by show 1≤sizeLine;decide,q2 c⟩
 ·exact q1 c

def spLess (K:PySem.W.Frag):Sp:=fun vs H Q _=>∃ (p r:Addr) (a b c d:Int),vs=[.ref p,.ref r]∧TupK K H p [.int a,.int b]∧TupK K H r [.int c,.int d]∧Bd 2000 a∧Bd 2000 b∧Bd 2000 c∧Bd 2000 d∧Q (.bl (decide (a * d<c * b))) H
theorem d_f_is_less (T:Txt K mg):DefOk P w K mg base "is_less" ["a","b"] 1 (spLess K):=by
 obtain ⟨f,fd,F,hm,hb⟩:=T.h_f_is_less
 refine ⟨f,fd,F.ok sc_f_is_less (fun vs H Q E h=>?_) (fun cdv A outer s H vs Q E hr h=>?_),hm,F.kp,hb⟩
 ·obtain ⟨p,r,a,b,c,d,rfl,_⟩:=h
  rfl
 obtain ⟨p,r,a,b,c,d,rfl,hp,hr',ba,bb,bc,bd,q⟩:=h
 refine ⟨_,(@pss_one _ _ _ (@ps_ret _ _ _ _ (pe_cmp (pc_lt (pe_op op_mulX (@pe_ix _ _ _ _ _ _ _ ix_tup (pv 0) pe_int (fun _ _=>rfl)) (@pe_ix _ _ _ _ _ _ _ ix_tup (pv 1) pe_int (fun _ _=>rfl))) (pe_op op_mulX (@pe_ix _ _ _ _ _ _ _ ix_tup (pv 1) pe_int (fun _ _=>rfl)) (@pe_ix _ _ _ _ _ _ _ ix_tup (pv 0) pe_int (fun _ _=>rfl))))))),?_⟩
 exact ⟨_,rfl,_,_,_,_,rfl,rfl,hp.sq,rfl,_,rfl,_,_,_,_,rfl,rfl,hr'.sq,rfl,_,_,rfl,rfl,.inr ⟨ba.mono (by decide),bd.mono (by decide)⟩,_,rfl,_,_,_,_,rfl,rfl,hr'.sq,rfl,_,rfl,_,_,_,_,rfl,rfl,hp.sq,rfl,_,_,rfl,rfl,.inr ⟨bc.mono (by decide),bb.mono (by decide)⟩,_,_,rfl,rfl,q⟩

def pitchOk (x y:Int):Prop:=(1≤y∧y≤1000)∧y≤100 * x∧x≤100 * y
def spPitch (K:PySem.W.Frag) (mg:Str→Option Value):Sp:=fun vs H Q E=>∃ (a:Addr) (x y:Int),vs=[.ref a]∧TupK K H a [.int x,.int y]∧Bd 200 x∧Bd 200 y∧(pitchOk x y→Q .non H)∧(¬ pitchOk x y→E (.ref (cOf mg "BadNumber")) none H)
theorem d_f_check_pitch (T:Txt K mg):DefOkX P w K mg base "check_pitch" ["pitch"] 3 (spPitch K mg):=by
 obtain ⟨f,fd,F,hm,hb⟩:=T.h_f_check_pitch
 refine ⟨f,fd,F.ok1 sc_f_check_pitch (fun vs H Q E h=>?_) (fun cdv A outer s H vs Q E hr h=>?_),hm,F.kp,hb⟩
 ·obtain ⟨a,x,y,rfl,_⟩:=h
  rfl
 obtain ⟨a,x,y,rfl,hA,bx,bY,q1,q2⟩:=h
 refine ⟨_,(@pss_cons _ _ _ _ _ (ps_expr (pe_callX (d_f_check_bottom T) hr (passOut out_cx) (pa_cons (pv 0) pa_nil)))
 (@pss_one _ _ _ (ps_if (pw_or (pt_val (pe_callD (d_f_is_less T) hr (pa_cons (pv 0) (pa_cons (pe_glob (by rfl) T.g_LEAST_PITCH (v:=.ref (cOf mg "LEAST_PITCH")) rfl) pa_nil)))) (pw_or1 (pt_val (pe_callD (d_f_is_less T) hr (pa_cons (pe_glob (by rfl) T.g_GREATEST_PITCH (v:=.ref (cOf mg "GREATEST_PITCH")) rfl) (pa_cons (pv 0) pa_nil)))))).pt
 (@pss_one _ _ _ (ps_raise out_cx rfl T.x_BadNumber T.g_BadNumber (pa_cons pe_str pa_nil)))
 pss_nil))),?_⟩
 have b1:Bd 2000 1:=(bd20 (i:=1) (by decide) (by decide)).mono (by decide)
 have b100:Bd 2000 100:=(bd20 (i:=100) (by decide) (by decide)).mono (by decide)
 refine ⟨_,rfl,a,x,y,rfl,hA,fun c=>?_,fun c=>q2 fun z=>c z.1⟩
 refine ⟨_,rfl,a,_,x,y,1,100,rfl,hA,.inr T.t_LEAST_PITCH,bx.mono (by decide),bY.mono (by decide),b1,b100,_,rfl,?_⟩
 refine iteD (fun c1=>?_) (fun c1=>?_)
 ·refine iteT ⟨by show 1≤sizeLine;decide,q2 fun z=>?_⟩
  have:=z.2.1
  omega
 ·refine ⟨_,rfl,_,a,100,1,x,y,rfl,.inr T.t_GREATEST_PITCH,hA,b100,b1,bx.mono (by decide),bY.mono (by decide),_,rfl,?_⟩
  refine iteD (fun c2=>?_) (fun c2=>?_)
  ·refine ⟨by show 1≤sizeLine;decide,q2 fun z=>?_⟩
   have:=z.2.2
   omega
  ·exact q1 ⟨c,by omega,by omega⟩

def spPairs (K:PySem.W.Frag):Sp:=fun vs H Q _=>∃ (t:Addr) (ts:List Int),vs=[.ref t]∧SqL K H t (ts.map V.int)∧ts.length≤12∧∀ (D:Addr) (H':Hp),Same H H'→H D=none→TL H' D (pairsM ts)→(pairsM ts).length≤144→Q (.ref D) H'
theorem d_f_pairs_of (T:Txt K mg):DefOk P w K mg base "pairs_of" ["teeth"] 1 (spPairs K):=by
 obtain ⟨f,fd,F,hm,hb⟩:=T.h_f_pairs_of
 refine ⟨f,fd,F.ok sc_f_pairs_of (fun vs H Q E h=>?_) (fun cdv A outer s H vs Q E hr h=>?_),hm,F.kp,hb⟩
 ·obtain ⟨t,ts,rfl,_⟩:=h
  rfl
 obtain ⟨t,ts,rfl,hS,h12,q⟩:=h
 refine ⟨_,(@pss_cons _ _ _ _ _ (@ps_set _ _ 1 _ _ _ _ sc_f_pairs_of.nd rfl (Or.inl rfl) (@pe_lst _ _ _ _ pa_nil) (by rfl) (by first | exact .inl rfl | exact .inr rfl))
 (@pss_cons _ _ _ _ _ (ps_for PassesOwn.never rfl (pi_list (pv 0)) (pg_name (i:=2) sc_f_pairs_of.nd rfl (Or.inl rfl))
 (@pss_one _ _ _ (ps_for PassesOwn.never rfl (pi_list (pv 0)) (pg_name (i:=3) sc_f_pairs_of.nd rfl (Or.inl rfl))
 (@pss_one _ _ _ (ps_if (pt_cmp (pc_neI (pv 2) (pv 3)))
 (@pss_one _ _ _ (ps_expr (pe_bm PySem.F.plainAttrs_list PySem.F.slot_list_append PySem.F.type_list_append mt_append (pv 1) (pa_cons (@pe_tup _ _ _ _ _ (pa_cons (pv 2) (pa_cons (pv 3) pa_nil))) pa_nil))))
 pss_nil)))))
 (@pss_one _ _ _ (@ps_ret _ _ _ _ (pv 1))))),?_⟩
 have hlen:(ts.map V.int).length=ts.length:=List.length_map _
 refine ⟨(by show 0≤sizeLine;decide),fun D hD=>?_⟩
 refine ⟨_,rfl,t,rfl,⟨_,(same_new hD _).seq hS⟩,for_list (K:=K) (a:=t) (xs:=ts.map V.int) (fun i σ H'=>∃ u v,σ=[some (.ref t),some (.ref D),u,v]∧Same H H'∧TL H' D ((ts.take i).flatMap (rowM ts))∧((ts.take i).flatMap (rowM ts)).length≤12 * i)
  ⟨none,none,rfl,same_new hD _,⟨[],upd_same,.nil⟩,Nat.le_refl _⟩ (fun i σ H' _ ⟨_,_,_,s,_⟩=>s.seq hS) ?_ ?_⟩
 ·rintro i x σ H' hx ⟨u,v,rfl,s,tl,hl⟩
  obtain ⟨a,rfl,ha⟩:=int_at hx
  have hi:i<ts.length:=(List.getElem?_eq_some_iff.mp ha).1
  refine ⟨_,rfl,t,rfl,⟨_,s.seq hS⟩,for_list (K:=K) (a:=t) (xs:=ts.map V.int) (fun j σ H2=>∃ v,σ=[some (.ref t),some (.ref D),some (.int a),v]∧Same H H2∧TL H2 D ((ts.take i).flatMap (rowM ts)++((ts.take j).filter fun b=>decide (a≠b)).map fun b=>[a,b])∧((ts.take i).flatMap (rowM ts)++((ts.take j).filter fun b=>decide (a≠b)).map fun b=>[a,b]).length≤12 * i + j)
   ⟨v,rfl,s,by simpa using tl,by simpa using hl⟩ (fun j σ H2 _ ⟨_,_,s2,_⟩=>s2.seq hS) ?_ ?_⟩
  ·rintro j y σ H2 hy ⟨v,rfl,s2,tl2,hl2⟩
   obtain ⟨b,rfl,hb'⟩:=int_at hy
   have hj:j<ts.length:=(List.getElem?_eq_some_iff.mp hb').1
   refine ⟨_,rfl,_,rfl,_,_,rfl,rfl,_,rfl,?_⟩
   refine iteND (fun ne=>?_) (fun eq=>?_)
   ·obtain ⟨rs,h1,h2⟩:=tl2
    have hz:(rs.map V.ref).length<sizeLine:=by rw [List.length_map,Paired.length h2];exact big (by omega)
    refine ⟨_,rfl,.inl ⟨rfl,_,SqL.of h1⟩,_,rfl,_,rfl,(by show 2≤sizeLine;decide),fun r hr'=>?_⟩
    refine ⟨D,_,_,rfl,rfl,(by rw [upd_ne (ne_of_none h1 hr')];exact h1),hz,?_⟩
    have e:((ts.take (j + 1)).filter fun b=>decide (a≠b)).map (fun b=>[a,b])=((ts.take j).filter fun b=>decide (a≠b)).map (fun b=>[a,b])++[[a,b]]:=by
     rw [take_more hb',List.filter_append,List.map_append]
     simp [ne]
    refine ⟨_,rfl,same_push s2 hD hr',?_,?_⟩
    ·rw [e,← List.append_assoc]
     exact TL.push (t:=[a,b]) h1 h2 hr'
    ·rw [e,← List.append_assoc,List.length_append,List.length_singleton]
     omega
   ·have e:((ts.take (j + 1)).filter fun b=>decide (a≠b)).map (fun b=>[a,b])=((ts.take j).filter fun b=>decide (a≠b)).map (fun b=>[a,b]):=by
     rw [take_more hb',List.filter_append,List.map_append]
     simp [eq]
    refine ⟨_,rfl,s2,?_,?_⟩
    ·rw [e];exact tl2
    ·rw [e];omega
  ·rintro σ H2 ⟨v,rfl,s2,tl2,hl2⟩
   rw [hlen,List.take_length] at tl2 hl2
   refine ⟨_,_,rfl,s2,?_,?_⟩
   ·rw [take_more ha,List.flatMap_append];simpa [rowM] using tl2
   ·rw [take_more ha,List.flatMap_append]
    have:(((ts.take i).flatMap (rowM ts))++[a].flatMap (rowM ts)).length=((ts.take i).flatMap (rowM ts)++(ts.filter fun b=>decide (a≠b)).map fun b=>[a,b]).length:=by simp [rowM]
    rw [this];omega
 ·rintro σ H' ⟨u,v,rfl,s,tl,hl⟩
  rw [hlen,List.take_length] at tl hl
  exact ⟨_,rfl,q D H' s hD tl (Nat.le_trans hl (by omega))⟩

def spFours:Sp:=fun vs H Q _=>∃ (t:Addr) (ps:List (List Int)),vs=[.ref t]∧TL H t ps∧ps.length≤144∧(∀ p∈ps,∃ x y,p=[x,y])∧∀ (D:Addr) (H':Hp),Same H H'→H D=none→TL H' D (foursM ps)→(foursM ps).length≤20736→Q (.ref D) H'
theorem d_f_fours_of (T:Txt K mg):DefOk P w K mg base "fours_of" ["pairs"] 1 spFours:=by
 obtain ⟨f,fd,F,hm,hb⟩:=T.h_f_fours_of
 refine ⟨f,fd,F.ok sc_f_fours_of (fun vs H Q E h=>?_) (fun cdv A outer s H vs Q E hr h=>?_),hm,F.kp,hb⟩
 ·obtain ⟨t,ps,rfl,_⟩:=h
  rfl
 obtain ⟨t,ps,rfl,⟨rs,hS,hP⟩,h144,sh,q⟩:=h
 refine ⟨_,(@pss_cons _ _ _ _ _ (@ps_set _ _ 1 _ _ _ _ sc_f_fours_of.nd rfl (Or.inl rfl) (@pe_lst _ _ _ _ pa_nil) (by rfl) (by first | exact .inl rfl | exact .inr rfl))
 (@pss_cons _ _ _ _ _ (ps_for PassesOwn.never rfl (pi_list (pv 0)) (pg_name (i:=2) sc_f_fours_of.nd rfl (Or.inl rfl))
 (@pss_one _ _ _ (ps_for PassesOwn.never rfl (pi_list (pv 0)) (pg_name (i:=3) sc_f_fours_of.nd rfl (Or.inl rfl))
 (@pss_one _ _ _ (ps_if (pw_and (pt_cmpR op_notIn_seq (@pe_ix _ _ _ _ _ _ _ ix_tup (pv 3) pe_int (fun _ _=>rfl)) (pv 2) (by with_unfolding_all rfl)) (pw_and1 (pt_cmpR op_notIn_seq (@pe_ix _ _ _ _ _ _ _ ix_tup (pv 3) pe_int (fun _ _=>rfl)) (pv 2) (by with_unfolding_all rfl)))).pt
 (@pss_one _ _ _ (ps_expr (pe_bm PySem.F.plainAttrs_list PySem.F.slot_list_append PySem.F.type_list_append mt_append (pv 1) (pa_cons (pe_op op_catT (pv 2) (pv 3)) pa_nil))))
 pss_nil)))))
 (@pss_one _ _ _ (@ps_ret _ _ _ _ (pv 1))))),?_⟩
 have hlen:(rs.map V.ref).length=ps.length:=by rw [List.length_map,Paired.length hP]
 refine ⟨(by show 0≤sizeLine;decide),fun D hD=>?_⟩
 refine ⟨_,rfl,t,rfl,⟨_,SqL.of ((same_new hD _) _ _ hS)⟩,for_list (K:=K) (a:=t) (xs:=rs.map V.ref) (fun i σ H'=>∃ u v,σ=[some (.ref t),some (.ref D),u,v]∧Same H H'∧TL H' D ((ps.take i).flatMap (rowF ps))∧((ps.take i).flatMap (rowF ps)).length≤144 * i)
  ⟨none,none,rfl,same_new hD _,⟨[],upd_same,.nil⟩,Nat.le_refl _⟩ (fun i σ H' _ ⟨_,_,_,s,_⟩=>SqL.of (s _ _ hS)) ?_ ?_⟩
 ·rintro i x σ H' hx ⟨u,v,rfl,s,tl,hl⟩
  obtain ⟨fr,f0,rfl,ha,hfr⟩:=tl_at hP hx
  have hi:i<ps.length:=(List.getElem?_eq_some_iff.mp ha).1
  obtain ⟨x1,x2,rfl⟩:=sh _ (List.mem_of_getElem? ha)
  refine ⟨_,rfl,t,rfl,⟨_,SqL.of (s _ _ hS)⟩,for_list (K:=K) (a:=t) (xs:=rs.map V.ref) (fun j σ H2=>∃ v,σ=[some (.ref t),some (.ref D),some (.ref fr),v]∧Same H H2∧TL H2 D ((ps.take i).flatMap (rowF ps)++((ps.take j).filter (okB [x1,x2])).map fun b=>[x1,x2]++b)∧((ps.take i).flatMap (rowF ps)++((ps.take j).filter (okB [x1,x2])).map fun b=>[x1,x2]++b).length≤144 * i + j)
   ⟨v,rfl,s,by simpa using tl,by simpa using hl⟩ (fun j σ H2 _ ⟨_,_,s2,_⟩=>SqL.of (s2 _ _ hS)) ?_ ?_⟩
  ·rintro j y σ H2 hy ⟨v,rfl,s2,tl2,hl2⟩
   obtain ⟨br,b0,rfl,hb',hbr⟩:=tl_at hP hy
   have hj:j<ps.length:=(List.getElem?_eq_some_iff.mp hb').1
   obtain ⟨y1,y2,rfl⟩:=sh _ (List.mem_of_getElem? hb')
   have F2:=s2 _ _ hfr
   have B2:=s2 _ _ hbr
   have skip:okB [x1,x2] [y1,y2]=false→((ps.take (j + 1)).filter (okB [x1,x2])).map (fun b=>[x1,x2]++b)=((ps.take j).filter (okB [x1,x2])).map (fun b=>[x1,x2]++b):=fun z=>by
    rw [take_more hb',List.filter_append,List.map_append]
    simp [z]
   have more:okB [x1,x2] [y1,y2]=true→((ps.take (j + 1)).filter (okB [x1,x2])).map (fun b=>[x1,x2]++b)=((ps.take j).filter (okB [x1,x2])).map (fun b=>[x1,x2]++b)++[[x1,x2,y1,y2]]:=fun z=>by
    rw [take_more hb',List.filter_append,List.map_append]
    simp [z]
   refine ⟨_,rfl,_,_,_,_,rfl,rfl,SqT.of (B2),rfl,_,rfl,fr,_,rfl,.inr (SqT.of F2),rfl,flat_ints [x1,x2],_,rfl,?_⟩
   dsimp only
   rw [if_pos rfl,in_ints]
   refine iteND (fun n1=>?_) (fun n1=>?_)
   ·refine ⟨_,rfl,_,_,_,_,rfl,rfl,SqT.of (B2),rfl,_,rfl,fr,_,rfl,.inr (SqT.of F2),rfl,flat_ints [x1,x2],_,rfl,?_⟩
    dsimp only
    rw [if_pos rfl,in_ints]
    refine iteND (fun n2=>?_) (fun n2=>?_)
    ·have z:okB [x1,x2] [y1,y2]=true:=by show (decide (y1 ∉ [x1,x2]) && decide (y2 ∉ [x1,x2]))=true;rw [show decide (y1 ∉ [x1,x2])=true from decide_eq_true n1,show decide (y2 ∉ [x1,x2])=true from decide_eq_true n2];rfl
     obtain ⟨qs,h1,h2⟩:=tl2
     have hz:(qs.map V.ref).length<sizeLine:=by rw [List.length_map,Paired.length h2];exact big (by omega)
     refine ⟨_,rfl,.inl ⟨rfl,_,SqL.of h1⟩,_,rfl,_,rfl,fr,br,_,_,rfl,rfl,SqT.of F2,SqT.of B2,by simp,(by show 4≤sizeLine;decide),fun z=>by simp at z,fun _ r hr'=>?_⟩
     refine ⟨D,_,_,rfl,rfl,(by rw [upd_ne (ne_of_none h1 hr')];exact h1),hz,?_⟩
     refine ⟨_,rfl,same_push s2 hD hr',?_,?_⟩
     ·rw [more z,← List.append_assoc]
      exact TL.push (t:=[x1,x2,y1,y2]) h1 h2 hr'
     ·rw [more z,← List.append_assoc,List.length_append,List.length_singleton]
      omega
    ·have z:okB [x1,x2] [y1,y2]=false:=by show (decide (y1 ∉ [x1,x2]) && decide (y2 ∉ [x1,x2]))=false;rw [show decide (y2 ∉ [x1,x2])=false from decide_eq_false (fun w=>w n2),Bool.and_false]
     exact ⟨_,rfl,s2,by rw [skip z];exact tl2,by rw [skip z];omega⟩
   ·have z:okB [x1,x2] [y1,y2]=false:=by show (decide (y1 ∉ [x1,x2]) && decide (y2 ∉ [x1,x2]))=false;rw [show decide (y1 ∉ [x1,x2])=false from decide_eq_false (fun w=>w n1),Bool.false_and]
    exact iteF ⟨_,rfl,s2,by rw [skip z];exact tl2,by rw [skip z];omega⟩
  ·rintro σ H2 ⟨v,rfl,s2,tl2,hl2⟩
   rw [hlen,List.take_length] at tl2 hl2
   refine ⟨_,_,rfl,s2,?_,?_⟩
   ·rw [take_more ha,List.flatMap_append];simpa [rowF] using tl2
   ·rw [take_more ha,List.flatMap_append]
    have:(((ps.take i).flatMap (rowF ps))++[[x1,x2]].flatMap (rowF ps)).length=((ps.take i).flatMap (rowF ps)++(ps.filter (okB [x1,x2])).map fun b=>[x1,x2]++b).length:=by simp [rowF]
    rw [this];omega
 ·rintro σ H' ⟨u,v,rfl,s,tl,hl⟩
  rw [hlen,List.take_length] at tl hl
  exact ⟨_,rfl,q D H' s hD tl (Nat.le_trans hl (by omega))⟩

def spAll (K:PySem.W.Frag):Sp:=fun vs H Q _=>∃ (a:Addr) (ws:List Int),vs=[.ref a]∧SqA K H a (ws.map V.int)∧ws.length≤12∧∀ (sw:List Int) (D:Addr) (H':Hp),sw.Perm ws→sw.Pairwise (·≤·)→Same H H'→H D=none→TL H' D (allT sw)→(allT sw).length≤30000→Q (.ref D) H'
theorem d_f_all_trains (T:Txt K mg):DefOk P w K mg base "all_trains" ["wheels"] 2 (spAll K):=by
 obtain ⟨f,fd,F,hm,hb⟩:=T.h_f_all_trains
 refine ⟨f,fd,F.ok sc_f_all_trains (fun vs H Q E h=>?_) (fun cdv A outer s H vs Q E hr h=>?_),hm,F.kp,hb⟩
 ·obtain ⟨a,ws,rfl,_⟩:=h
  rfl
 obtain ⟨a,ws,rfl,hA,h12,q⟩:=h
 refine ⟨_,(@pss_cons _ _ _ _ _ (@ps_set _ _ 1 _ _ _ _ sc_f_all_trains.nd rfl (Or.inl rfl) (pe_callD (d_f_pairs_of T) hr (pa_cons (pe_callB call_sorted_ints (by rfl) T.z_sorted PyProof.Rows.boot_sorted (pa_cons (pv 0) pa_nil)) pa_nil)) (by rfl) (by first | exact .inl rfl | exact .inr rfl))
 (@pss_one _ _ _ (@ps_ret _ _ _ _ (pe_op op_cat (pv 1) (pe_callD (d_f_fours_of T) hr (pa_cons (pv 1) pa_nil)))))),?_⟩
 refine ⟨_,rfl,a,ws,rfl,hA,by omega,fun l sw hp hs hl=>?_⟩
 have s1:=same_new hl (.lst (sw.map V.int))
 refine ⟨l,sw,rfl,SqL.of upd_same,by rw [hp.length_eq];exact h12,fun D H1 s2 nD tl hn=>?_⟩
 refine ⟨_,rfl,_,rfl,D,pairsM sw,rfl,tl,hn,fun p hp'=>?_,fun G H2 s3 nG tg hg=>?_⟩
 ·obtain ⟨x,y,_,_,_,rfl⟩:=mem_pairsM.mp hp'
  exact ⟨x,y,rfl⟩
 ·obtain ⟨r1,d1,p1⟩:=tl.mono s3
  obtain ⟨r2,d2,p2⟩:=tg
  refine ⟨D,G,_,_,rfl,rfl,d1,d2,?_,fun p hp'=>?_⟩
  ·rw [List.length_map,List.length_map,Paired.length p1,Paired.length p2]
   exact Nat.le_of_lt (big (by omega))
  ·have s4:=same_new hp' (.lst (r1.map V.ref++r2.map V.ref))
   have sAll:=s1.trans (s2.trans s3)
   refine q sw p _ hp hs (sAll.trans s4) (sAll.free hp') ⟨r1++r2,by rw [upd_same,List.map_append],pair_mono s4 (paired_app p1 p2)⟩ ?_
   unfold allT
   rw [List.length_append]
   omega

structure RatH (H:Hp) (p:Addr) (a b:Int):Prop where
 at_:H p=some (.tup [.int a,.int b])
 a1:1≤a
 a2:a≤16129
 b1:1≤b
 b2:b≤16129
theorem RatH.mono {H H':Hp} {p:Addr} {a b:Int} (h:RatH H p a b) (s:Same H H'):RatH H' p a b:=⟨s _ _ h.at_,h.a1,h.a2,h.b1,h.b2⟩
theorem RatH.ba {H:Hp} {p:Addr} {a b:Int} (h:RatH H p a b):Bd 200 a:=Bd.of60 (by have:=h.a1;omega) (by have:=h.a2;omega)
theorem RatH.bb {H:Hp} {p:Addr} {a b:Int} (h:RatH H p a b):Bd 200 b:=Bd.of60 (by have:=h.b1;omega) (by have:=h.b2;omega)
theorem gap_bd {a b p q:Int} (h1:Bd 200 a) (h2:Bd 200 b) (h3:Bd 300 p) (h4:Bd 300 q):Bd 501 (gapF a b p q):=by
 have h:=(h1.mul h4).sub (h3.mul h2)
 unfold gapF
 split
 ·exact h.neg
 ·exact h
def spGap:Sp:=fun vs H Q _=>∃ (x r:Addr) (a b p q:Int),vs=[.ref x,.ref r]∧RatH H x a b∧Pit H r p q∧∀ n,H n=none→Q (.ref n) (upd H n (.tup [.int (gapF a b p q),.int b]))
theorem d_f_scaled_gap (T:Txt K mg):DefOk P w K mg base "scaled_gap" ["ratio","pitch"] 1 spGap:=by
 obtain ⟨f,fd,F,hm,hb⟩:=T.h_f_scaled_gap
 refine ⟨f,fd,F.ok sc_f_scaled_gap (fun vs H Q E h=>?_) (fun cdv A outer s H vs Q E hr h=>?_),hm,F.kp,hb⟩
 ·obtain ⟨x,r,a,b,p,q,rfl,_⟩:=h
  rfl
 obtain ⟨x,r,a,b,p,qq,rfl,R,Pi,q⟩:=h
 refine ⟨_,(@pss_one _ _ _ (@ps_ret _ _ _ _ (@pe_tup _ _ _ _ _ (pa_cons (pe_callB call_abs (by rfl) T.z_abs PyProof.Rows.boot_abs (pa_cons (pe_op op_sub (pe_op op_mulX (@pe_ix _ _ _ _ _ _ _ ix_tup (pv 0) pe_int (fun _ _=>rfl)) (@pe_ix _ _ _ _ _ _ _ ix_tup (pv 1) pe_int (fun _ _=>rfl))) (pe_op op_mulX (@pe_ix _ _ _ _ _ _ _ ix_tup (pv 1) pe_int (fun _ _=>rfl)) (@pe_ix _ _ _ _ _ _ _ ix_tup (pv 0) pe_int (fun _ _=>rfl)))) pa_nil)) (pa_cons (@pe_ix _ _ _ _ _ _ _ ix_tup (pv 0) pe_int (fun _ _=>rfl)) pa_nil))))),?_⟩
 exact ⟨_,rfl,_,_,_,_,rfl,rfl,SqT.of (R.at_),rfl,_,rfl,_,_,_,_,rfl,rfl,SqT.of (Pi.at_),rfl,_,_,rfl,rfl,.inr ⟨R.ba.mono (by decide),Pi.bq.mono (by decide)⟩,_,rfl,_,_,_,_,rfl,rfl,SqT.of (Pi.at_),rfl,_,rfl,_,_,_,_,rfl,rfl,SqT.of (R.at_),rfl,_,_,rfl,rfl,.inr ⟨Pi.bp.mono (by decide),R.bb.mono (by decide)⟩,_,_,rfl,rfl,_,rfl,_,rfl,_,_,_,_,rfl,rfl,SqT.of (R.at_),rfl,(by show 2≤sizeLine;decide),q⟩

def spSuits:Sp:=fun vs H Q _=>∃ (x y r:Addr) (a b c d p q:Int),vs=[.ref x,.ref y,.ref r]∧RatH H x a b∧RatH H y c d∧Pit H r p q∧∀ H',Same H H'→Q (.bl (decide (Bt a b c d p q))) H'
theorem d_f_suits_better (T:Txt K mg):DefOk P w K mg base "suits_better" ["ratio","other","pitch"] 2 spSuits:=by
 obtain ⟨f,fd,F,hm,hb⟩:=T.h_f_suits_better
 refine ⟨f,fd,F.ok sc_f_suits_better (fun vs H Q E h=>?_) (fun cdv A outer s H vs Q E hr h=>?_),hm,F.kp,hb⟩
 ·obtain ⟨x,y,r,a,b,c,d,p,q,rfl,_⟩:=h
  rfl
 obtain ⟨x,y,r,a,b,c,d,p,qq,rfl,R1,R2,Pi,q⟩:=h
 refine ⟨_,(@pss_cons _ _ _ _ _ (@ps_set _ _ 3 _ _ _ _ sc_f_suits_better.nd rfl (Or.inl rfl) (pe_callD (d_f_scaled_gap T) hr (pa_cons (pv 0) (pa_cons (pv 2) pa_nil))) (by rfl) (by first | exact .inl rfl | exact .inr rfl))
 (@pss_cons _ _ _ _ _ (@ps_set _ _ 4 _ _ _ _ sc_f_suits_better.nd rfl (Or.inl rfl) (pe_callD (d_f_scaled_gap T) hr (pa_cons (pv 1) (pa_cons (pv 2) pa_nil))) (by rfl) (by first | exact .inl rfl | exact .inr rfl))
 (@pss_cons _ _ _ _ _ (ps_if (pt_val (pe_callD (d_f_is_less T) hr (pa_cons (pv 3) (pa_cons (pv 4) pa_nil))))
 (@pss_one _ _ _ (@ps_ret _ _ _ _ pe_bl))
 pss_nil)
 (@pss_cons _ _ _ _ _ (ps_if (pt_val (pe_callD (d_f_is_less T) hr (pa_cons (pv 4) (pa_cons (pv 3) pa_nil))))
 (@pss_one _ _ _ (@ps_ret _ _ _ _ pe_bl))
 pss_nil)
 (@pss_one _ _ _ (@ps_ret _ _ _ _ (pe_callD (d_f_is_less T) hr (pa_cons (pv 0) (pa_cons (pv 1) pa_nil))))))))),?_⟩
 refine ⟨_,rfl,_,rfl,x,r,a,b,p,qq,rfl,R1,Pi,fun n1 h1=>?_⟩
 have s1:=same_new h1 (.tup [.int (gapF a b p qq),.int b])
 refine ⟨_,rfl,_,rfl,y,r,c,d,p,qq,rfl,R2.mono s1,Pi.mono s1,fun n2 h2=>?_⟩
 have s2:=same_new h2 (.tup [.int (gapF c d p qq),.int d])
 have g1:=s2 _ _ (upd_same (H:=H) (a:=n1) (o:=.tup [.int (gapF a b p qq),.int b]))
 have b1:=(gap_bd R1.ba R1.bb Pi.bp Pi.bq).mono (show 501≤2000 by decide)
 have b2:=(gap_bd R2.ba R2.bb Pi.bp Pi.bq).mono (show 501≤2000 by decide)
 have sAll:=s1.trans s2
 refine ⟨_,rfl,_,rfl,n1,n2,_,_,_,_,rfl,.inl g1,.inl upd_same,b1,R1.bb.mono (by decide),b2,R2.bb.mono (by decide),_,rfl,?_⟩
 refine iteD (fun l1=>?_) (fun l1=>?_)
 ·have z:=q _ sAll
  rw [decide_eq_true (show Bt a b c d p qq from .inl l1)] at z
  exact z
 refine ⟨_,rfl,_,rfl,n2,n1,_,_,_,_,rfl,.inl upd_same,.inl g1,b2,R2.bb.mono (by decide),b1,R1.bb.mono (by decide),_,rfl,?_⟩
 refine iteD (fun l2=>?_) (fun l2=>?_)
 ·have z:=q _ sAll
  rw [decide_eq_false (show ¬ Bt a b c d p qq from fun h=>by rcases h with h | ⟨h,_⟩ <;> omega)] at z
  exact z
 refine ⟨_,rfl,_,rfl,x,y,_,_,_,_,rfl,.inl (R1.mono sAll).at_,.inl (R2.mono sAll).at_,R1.ba.mono (by decide),R1.bb.mono (by decide),R2.ba.mono (by decide),R2.bb.mono (by decide),?_⟩
 have z:=q _ sAll
 have e:decide (Bt a b c d p qq)=decide (a * d<c * b):=decide_eq_decide.mpr ⟨fun h=>by rcases h with h | ⟨_,h⟩;exact absurd h l1;exact h,fun h=>.inr ⟨by omega,h⟩⟩
 rw [e] at z
 exact z

theorem train_rat {t:List Int} (R:Train t) {H:Hp} {p:Addr} (h:H p=some (.tup [.int (ratT t),.int (ratB t)])):RatH H p (ratT t) (ratB t):=by
 obtain ⟨h1,h2,h3,h4⟩:=R.in
 exact ⟨h,h1,h2,h3,h4⟩
theorem all_ne {sw:List Int} (hs:sw.Pairwise (· < ·)) (h2:2≤sw.length):∃ t r,allT sw=t::r:=by
 match sw,h2,hs with
 | a::b::r,_,hs =>
  have l:a<b:=(List.pairwise_cons.mp hs).1 b (by simp)
  have m:[a,b]∈allT (a::b::r):=List.mem_append_left _ (mem_pairsM.mpr ⟨a,b,by simp,by simp,by omega,rfl⟩)
  cases e:allT (a::b::r) with
  | nil=>rw [e] at m;simp at m
  | cons t r=>exact ⟨t,r,rfl⟩
def spChoose (K:PySem.W.Frag):Sp:=fun vs H Q _=>∃ (a r:Addr) (ws:List Int) (p q:Int),vs=[.ref a,.ref r]∧SqA K H a (ws.map V.int)∧Shop ws∧2≤ws.length∧ws.length≤12∧Pit H r p q ∧
 ∀ (sw c:List Int) (o o1 o2:Addr) (H':Hp),sw.Perm ws→sw.Pairwise (· < ·)→Best p q (allT sw) c→Train c→Same H H'→H' o=some (.tup [.ref o1,.ref o2])→H' o1=some (.tup [.int (ltN (ratT c) (ratB c)),.int (ltD (ratT c) (ratB c))])→H' o2=some (.tup (c.map V.int))→Q (.ref o) H'
theorem d_f_choose_train (T:Txt K mg):DefOk P w K mg base "choose_train" ["wheels","pitch"] 4 (spChoose K):=by
 obtain ⟨f,fd,F,hm,hb⟩:=T.h_f_choose_train
 refine ⟨f,fd,F.ok sc_f_choose_train (fun vs H Q E h=>?_) (fun cdv A outer s H vs Q E hr h=>?_),hm,F.kp,hb⟩
 ·obtain ⟨a,r,ws,p,q,rfl,_⟩:=h
  rfl
 obtain ⟨a,r,ws,p,qq,rfl,hA,S,l2,l12,Pi,q⟩:=h
 refine ⟨_,(@pss_cons _ _ _ _ _ (@ps_set _ _ 2 _ _ _ _ sc_f_choose_train.nd rfl (Or.inl rfl) (pe_callD (d_f_all_trains T) hr (pa_cons (pv 0) pa_nil)) (by rfl) (by first | exact .inl rfl | exact .inr rfl))
 (@pss_cons _ _ _ _ _ (@ps_set _ _ 3 _ _ _ _ sc_f_choose_train.nd rfl (Or.inl rfl) (@pe_ix _ _ _ _ _ _ _ ix_list (pv 2) pe_int (fun _ _=>rfl)) (by rfl) (by first | exact .inl rfl | exact .inr rfl))
 (@pss_cons _ _ _ _ _ (ps_for PassesOwn.never rfl (pi_list (pv 2)) (pg_name (i:=4) sc_f_choose_train.nd rfl (Or.inl rfl))
 (@pss_one _ _ _ (ps_if (pt_val (pe_callD (d_f_suits_better T) hr (pa_cons (pe_callD (d_f_plain_ratio T) hr (pa_cons (pv 4) pa_nil)) (pa_cons (pe_callD (d_f_plain_ratio T) hr (pa_cons (pv 3) pa_nil)) (pa_cons (pv 1) pa_nil)))))
 (@pss_one _ _ _ (@ps_set _ _ 3 _ _ _ _ sc_f_choose_train.nd rfl (Or.inl rfl) (pv 4) (by rfl) (by first | exact .inl rfl | exact .inr rfl)))
 pss_nil)))
 (@pss_one _ _ _ (@ps_ret _ _ _ _ (@pe_tup _ _ _ _ _ (pa_cons (pe_callD (d_f_ratio_of T) hr (pa_cons (pv 3) pa_nil)) (pa_cons (pv 3) pa_nil)))))))),?_⟩
 refine ⟨_,rfl,a,ws,rfl,hA,l12,fun sw D H1 hp hs0 s1 nD tl hn=>?_⟩
 have hs:=strict_of hp S.nd hs0
 have tr:=allT_train (ts:=sw) (fun v hv=>S.lo v (hp.mem_iff.mp hv)) (fun v hv=>S.hi v (hp.mem_iff.mp hv))
 have pos:∀ x∈allT sw,0<ratB x:=fun x hx=>by have:=(tr x hx).in;omega
 obtain ⟨t0,rest,e0⟩:=all_ne hs (by rw [hp.length_eq];exact l2)
 obtain ⟨rs,hD,hP⟩:=tl
 have hlen:(rs.map V.ref).length=(allT sw).length:=by rw [List.length_map,Paired.length hP]
 have h0:∃ r0,(rs.map V.ref)[0]? = some (.ref r0)∧H1 r0=some (.tup (t0.map V.int)):=by
  cases e:(rs.map V.ref)[0]? with
  | none=>rw [List.getElem?_eq_none_iff,hlen,e0] at e;simp at e
  | some x =>
   obtain ⟨r0,t,rfl,e1,e2⟩:=tl_at hP e
   rw [e0] at e1
   cases e1
   exact ⟨r0,rfl,e2⟩
 obtain ⟨r0,g0,g1⟩:=h0
 refine ⟨_,rfl,D,_,_,_,rfl,rfl,SqL.of hD,atI_nat g0,?_⟩
 refine ⟨_,rfl,D,rfl,⟨_,SqL.of hD⟩,for_list (K:=K) (a:=D) (xs:=rs.map V.ref) (fun i σ H'=>∃ (c:List Int) (cr:Addr) (u:Option V),σ=[some (.ref a),some (.ref r),some (.ref D),some (.ref cr),u]∧Same H1 H'∧H' cr=some (.tup (c.map V.int))∧c∈allT sw∧((i=0∧c=t0)∨Best p qq ((allT sw).take i) c))
  ⟨t0,r0,none,rfl,Same.refl _,g1,by rw [e0];simp,.inl ⟨rfl,rfl⟩⟩ (fun i σ H' _ ⟨_,_,_,_,s,_⟩=>SqL.of (s _ _ hD)) ?_ ?_⟩
 ·rintro i x σ H' hx ⟨c,cr,u,rfl,s,hc,mc,bst⟩
  obtain ⟨tr',t,rfl,ht,htr⟩:=tl_at hP hx
  have mt:t∈allT sw:=List.mem_of_getElem? ht
  refine ⟨_,rfl,tr',t,rfl,.inr (SqT.of (s _ _ htr)),tr t mt,fun n1 h1=>?_⟩
  have u1:=same_new h1 (.tup [.int (ratT t),.int (ratB t)])
  refine ⟨_,rfl,cr,c,rfl,.inr (SqT.of (u1 _ _ hc)),tr c mc,fun n2 h2=>?_⟩
  have u2:=same_new h2 (.tup [.int (ratT c),.int (ratB c)])
  have e1:=u2 _ _ (upd_same (H:=H') (a:=n1) (o:=.tup [.int (ratT t),.int (ratB t)]))
  refine ⟨_,rfl,n1,n2,r,_,_,_,_,p,qq,rfl,train_rat (tr t mt) e1,train_rat (tr c mc) upd_same,Pi.mono (s1.trans (s.trans (u1.trans u2))),fun H2 s2=>⟨_,rfl,?_⟩⟩
  have sAll:=u1.trans (u2.trans s2)
  have tk:(allT sw).take (i + 1)=(allT sw).take i++[t]:=take_more ht
  have next:Best p qq ((allT sw).take (i + 1)) (stepM p qq c t):=by
   rcases bst with ⟨rfl,rfl⟩ | b
   ·have:t=c:=by rw [e0] at ht;cases ht;rfl
    subst this
    have:stepM p qq t t=t:=by unfold stepM;split <;> rfl
    rw [this,tk]
    exact ⟨[],[],by simp,by simp,by simp⟩
   ·rw [tk]
    exact b.more (fun x hx=>pos x (List.mem_of_mem_take hx)) (pos t mt)
  refine iteD (fun bt=>?_) (fun bt=>?_)
  ·have:stepM p qq c t=t:=if_pos bt
   rw [this] at next
   exact ⟨_,rfl,t,tr',_,rfl,s.trans sAll,sAll _ _ (s _ _ htr),mt,.inr next⟩
  ·have:stepM p qq c t=c:=if_neg bt
   rw [this] at next
   exact ⟨c,cr,_,rfl,s.trans sAll,sAll _ _ hc,mc,.inr next⟩
 ·rintro σ H' ⟨c,cr,u,rfl,s,hc,mc,bst⟩
  rw [hlen,List.take_length] at bst
  have b:Best p qq (allT sw) c:=by
   rcases bst with ⟨z,_⟩ | b
   ·rw [e0] at z;simp at z
   ·exact b
  refine ⟨_,rfl,cr,c,rfl,.inr (SqT.of hc),tr c mc,fun o1 H2 s2 n1 h1=>?_⟩
  refine ⟨_,rfl,(by show 2≤sizeLine;decide),fun o ho=>?_⟩
  have s3:=same_new ho (.tup [.ref o1,.ref cr])
  exact q sw c o o1 cr _ hp hs b (tr c mc) (s1.trans (s.trans (s2.trans s3))) upd_same (s3 _ _ h1) (s3 _ _ (s2 _ _ hc))

def spWheels (K:PySem.W.Frag) (mg:Str→Option Value):Sp:=fun vs H Q E=>∃ a t l F x y,vs=[.ref a,.ref t]∧LRep K mg H a l F∧H t=some (.tup [.int x,.int y])∧Bd 200 x∧Bd 200 y ∧
 (pitchOk x y→∀ (sw c:List Int) (o o1 o2:Addr) (H':Hp),sw.Perm l.shop→sw.Pairwise (· < ·)→Best x y (allT sw) c→Train c→Same H H'→H' o=some (.tup [.ref o1,.ref o2])→H' o1=some (.tup [.int (ltN (ratT c) (ratB c)),.int (ltD (ratT c) (ratB c))])→H' o2=some (.tup (c.map V.int))→Q (.ref o) H') ∧
 (¬ pitchOk x y→E (.ref (cOf mg "BadNumber")) none H)
theorem d_m_Lathe_wheels_for (T:Txt K mg):MethOk P w K mg base (cOf mg "Lathe") "wheels_for" ["self","pitch"] 9 (spWheels K mg):=by
 obtain ⟨f,fd,F,hm,hb⟩:=T.hm_Lathe_wheels_for
 refine ⟨f,fd,F.ok1 sc_m_Lathe_wheels_for (fun vs H Q E h=>?_) (fun cdv A outer s H vs Q E hr h=>?_),hm,T.cl_Lathe,hb⟩
 ·obtain ⟨a,t,l,F,x,y,rfl,_⟩:=h
  rfl
 obtain ⟨a,t,l,F,x,y,rfl,R0,ht,bx,bY,q1,q2⟩:=h
 obtain ⟨Fp,dx,s,pa,ra,rdx,ea,es,R⟩:=R0
 refine ⟨_,(@pss_cons _ _ _ _ _ (ps_expr (pe_callX (d_f_check_pitch T) hr (passOut out_cx) (pa_cons (pv 1) pa_nil)))
 (@pss_one _ _ _ (@ps_ret _ _ _ _ (pe_callD (d_f_choose_train T) hr (pa_cons (pe_fld (pv 0) rfl) (pa_cons (pv 1) pa_nil)))))),?_⟩
 have G:=R.re.good
 refine ⟨_,rfl,t,x,y,rfl,.inl ht,bx,bY,fun ok=>?_,q2⟩
 exact ⟨_,rfl,_,_,_,_,_,rfl,R.ob,T.cl_Lathe,T.na_Lathe_shop,rfl,_,rfl,s,t,l.shop,x,y,rfl,.inr (SqT.of R.sh),G.shop,G.l2,G.l12,⟨ht,bx.mono (by decide),bY.mono (by decide),ok.1.1⟩,fun sw c o o1 o2 H' h1 h2 h3 h4 h5 h6 h7 h8=>q1 ok sw c o o1 o2 H' h1 h2 h3 h4 h5 h6 h7 h8⟩

def spKnown (K:PySem.W.Frag) (mg:Str→Option Value):Sp:=fun vs H Q E=>∃ (s a:Addr) (ss ws:List Int),vs=[.ref s,.ref a]∧SqT K H s (ss.map V.int)∧SqA K H a (ws.map V.int) ∧
 ((∀ v∈ws,v∈ss)→Q .non H)∧(¬ (∀ v∈ws,v∈ss)→E (.ref (cOf mg "UnknownWheel")) none H)
theorem d_f_check_known (T:Txt K mg):DefOkX P w K mg base "check_known" ["shop","train"] 1 (spKnown K mg):=by
 obtain ⟨f,fd,F,hm,hb⟩:=T.h_f_check_known
 refine ⟨f,fd,F.ok1 sc_f_check_known (fun vs H Q E h=>?_) (fun cdv A outer s H vs Q E hr h=>?_),hm,F.kp,hb⟩
 ·obtain ⟨s,a,ss,ws,rfl,_⟩:=h
  rfl
 obtain ⟨s,a,ss,ws,rfl,hS,hA,q1,q2⟩:=h
 refine ⟨_,(@pss_one _ _ _ (ps_for PassesOwn.leaving rfl (pi_any (pv 1)) (pg_name (i:=2) sc_f_check_known.nd rfl (Or.inl rfl))
 (@pss_one _ _ _ (ps_if (pt_cmpR op_notIn_seq (pv 2) (pv 0) (by with_unfolding_all rfl))
 (@pss_one _ _ _ (ps_raise out_cx rfl T.x_UnknownWheel T.g_UnknownWheel (pa_cons pe_str pa_nil)))
 pss_nil)))),?_⟩
 have hlen:(ws.map V.int).length=ws.length:=List.length_map _
 refine ⟨a,rfl,for_any (K:=K) (a:=a) (xs:=ws.map V.int) (fun i σ H'=>∃ k:Option V,σ=[some (.ref s),some (.ref a),k]∧H'=H∧∀ j v,j<i→ws[j]? = some v→v∈ss) hA ⟨none,rfl,rfl,fun j v z=>by omega⟩ (fun i τ G ⟨_,_,e,_⟩=>by rw [e];exact Same.refl _) ?_ ?_⟩
 ·rintro i x σ H' hx ⟨k,rfl,rfl,hv⟩
  rw [List.getElem?_map] at hx
  obtain ⟨v,hv1,rfl⟩:=Option.map_eq_some_iff.mp hx
  refine ⟨_,rfl,_,rfl,s,_,rfl,.inr hS,rfl,flat_ints ss,?_⟩
  rw [in_ints]
  refine ⟨_,rfl,iteND (fun c2=>?_) (fun c2=>?_)⟩
  ·exact ⟨by show 1≤sizeLine;decide,q2 (fun z=>c2 (z v (List.mem_of_getElem? hv1)))⟩
  ·refine ⟨_,rfl,rfl,fun j u hj hu=>?_⟩
   rcases Nat.lt_or_ge j i with z | z
   ·exact hv j u z hu
   ·have e:j=i:=by omega
    subst e
    rw [hu] at hv1;cases hv1;exact c2
 ·rintro σ H' ⟨k,rfl,rfl,hv⟩
  rw [hlen] at hv
  exact q1 fun v h=>by
   obtain ⟨j,hj,e⟩:=List.getElem_of_mem h
   exact hv j v hj (by rw [List.getElem?_eq_getElem hj,e])

def spNutOpen (K:PySem.W.Frag) (mg:Str→Option Value):Sp:=fun vs H Q E=>∃ (a:Addr) (p:PS) (Fp:Addr→Prop),vs=[.ref a]∧PRep K mg Fp H a p∧(p.closed=false→Q .non H)∧(p.closed=true→E (.ref (cOf mg "WrongNut")) none H)
theorem d_f_check_nut_open (T:Txt K mg):DefOkX P w K mg base "check_nut_open" ["piece"] 1 (spNutOpen K mg):=by
 obtain ⟨f,fd,F,hm,hb⟩:=T.h_f_check_nut_open
 refine ⟨f,fd,F.ok1 sc_f_check_nut_open (fun vs H Q E h=>?_) (fun cdv A outer s H vs Q E hr h=>?_),hm,F.kp,hb⟩
 ·obtain ⟨a,p,Fp,rfl,_⟩:=h
  rfl
 obtain ⟨a,p,Fp,rfl,⟨dx,t,rv,w,c,fv,tc,mc,cu,R⟩,q1,q2⟩:=h
 refine ⟨_,(@pss_one _ _ _ (ps_if (pt_val (pe_fld (pv 0) rfl))
 (@pss_one _ _ _ (ps_raise out_cx rfl T.x_WrongNut T.g_WrongNut (pa_cons pe_str pa_nil)))
 pss_nil)),?_⟩
 refine ⟨_,rfl,_,_,_,_,_,rfl,R.ob,T.cl_Piece,T.na_Piece_closed,rfl,_,rfl,?_⟩
 refine ite2 (fun c=>?_) (fun c=>?_)
 ·exact ⟨by show 1≤sizeLine;decide,q2 c⟩
 ·exact q1 (by simpa using c)

def spCheckTrain (K:PySem.W.Frag) (mg:Str→Option Value):Sp:=fun vs H Q E=>∃ (a:Addr) (ws:List Int),vs=[.ref a]∧SqA K H a (ws.map V.int)∧ws.length≤1000 ∧
 ((ws.length=2∨ws.length=4)∧ws.Nodup→∀ H',Same H H'→Q .non H')∧(¬ ((ws.length=2∨ws.length=4)∧ws.Nodup)→∀ H',Same H H'→E (.ref (cOf mg "BadNumber")) none H')
theorem d_f_check_train (T:Txt K mg):DefOkX P w K mg base "check_train" ["train"] 2 (spCheckTrain K mg):=by
 obtain ⟨f,fd,F,hm,hb⟩:=T.h_f_check_train
 refine ⟨f,fd,F.ok1 sc_f_check_train (fun vs H Q E h=>?_) (fun cdv A outer s H vs Q E hr h=>?_),hm,F.kp,hb⟩
 ·obtain ⟨a,ws,rfl,_⟩:=h
  rfl
 obtain ⟨a,ws,rfl,hA,hl,q1,q2⟩:=h
 refine ⟨_,(@pss_cons _ _ _ _ _ (ps_if (pw_and (pt_cmp (pc_neI (pe_callB call_len_seq (by rfl) T.z_len PySem.boot_len (pa_cons (pv 0) pa_nil)) pe_int)) (pw_and1 (pt_cmp (pc_neI (pe_callB call_len_seq (by rfl) T.z_len PySem.boot_len (pa_cons (pv 0) pa_nil)) pe_int)))).pt
 (@pss_one _ _ _ (ps_raise out_cx rfl T.x_BadNumber T.g_BadNumber (pa_cons pe_str pa_nil)))
 pss_nil)
 (@pss_one _ _ _ (ps_if (pt_val (pe_callD (d_f_has_two_alike T) hr (pa_cons (pv 0) pa_nil)))
 (@pss_one _ _ _ (ps_raise out_cx rfl T.x_BadNumber T.g_BadNumber (pa_cons pe_str pa_nil)))
 pss_nil))),?_⟩
 have hlen:(ws.map V.int).length=ws.length:=List.length_map _
 have rest:(ws.length=2∨ws.length=4)→∀ b:Bool,b=decide (¬ ws.Nodup)→∀ H',Same H H'→if b=true then (1≤sizeLine∧E (.ref (cOf mg "BadNumber")) none H') else Q .non H':=fun hh b hb H' s'=>by
  subst hb
  refine iteD (fun c3=>?_) (fun c3=>?_)
  ·exact ⟨by decide,q2 (fun z=>c3 z.2) _ s'⟩
  ·exact q1 ⟨hh,Decidable.not_not.mp c3⟩ _ s'
 refine ⟨_,rfl,a,_,rfl,hA,_,_,rfl,rfl,?_⟩
 refine ⟨_,rfl,?_⟩
 refine iteND (fun c=>?_) (fun c=>?_)
 ·refine ⟨_,rfl,a,_,rfl,hA,_,_,rfl,rfl,?_⟩
  refine ⟨_,rfl,?_⟩
  refine iteND (fun c2=>?_) (fun c2=>?_)
  ·exact ⟨by show 1≤sizeLine;decide,q2 (fun z=>by rw [hlen] at c c2;rcases z.1 with z | z <;> omega) _ (Same.refl _)⟩
  ·exact ⟨_,rfl,a,ws,rfl,hA,hl,fun H2 s2=>⟨_,rfl,rest (.inr (by rw [hlen] at c2;omega)) _ rfl _ s2⟩⟩
 ·exact iteF ⟨_,rfl,a,ws,rfl,hA,hl,fun H2 s2=>⟨_,rfl,rest (.inl (by rw [hlen] at c;omega)) _ rfl _ s2⟩⟩

def spWrite (K:PySem.W.Frag) (mg:Str→Option Value):Sp:=fun vs H Q E=>∃ b rdx ea es wd wv pb,vs=[.ref b,wd,wv,pb]∧H b=some (.ins (cOf mg "Book") rdx [("entries",.ref ea)])∧H ea=some (.lst es) ∧
 (es.length<100→∀ e t H',(∀ z o,H z=some o→z≠ea→H' z=some o)→H e=none→H t=none→H' t=some (.tup [wd,wv])→H' e=some (.tup [.ref t,pb])→H' ea=some (.lst (es++[.ref e]))→Q .non H')∧(100≤es.length→E (.ref (cOf mg "BookFull")) none H)
theorem d_m_Book_write (T:Txt K mg):MethOk P w K mg base (cOf mg "Book") "write" ["self","word","what","before"] 1 (spWrite K mg):=by
 obtain ⟨f,fd,F,hm,hb⟩:=T.hm_Book_write
 refine ⟨f,fd,F.ok1 sc_m_Book_write (fun vs H Q E h=>?_) (fun cdv A outer s H vs Q E hr h=>?_),hm,T.cl_Book,hb⟩
 ·obtain ⟨b,rdx,ea,es,wd,wv,pb,rfl,_⟩:=h
  rfl
 obtain ⟨b,rdx,ea,es,wd,wv,pb,rfl,hb',he,q1,q2⟩:=h
 refine ⟨_,(@pss_cons _ _ _ _ _ (ps_if (pt_cmp (pc_ge (pe_callB call_len_seq (by rfl) T.z_len PySem.boot_len (pa_cons (pe_fld (pv 0) rfl) pa_nil)) (pe_globC (by rfl) T.g_MOST_DEEDS)))
 (@pss_one _ _ _ (ps_raise out_cx rfl T.x_BookFull T.g_BookFull (pa_cons pe_str pa_nil)))
 pss_nil)
 (@pss_one _ _ _ (ps_expr (pe_bm PySem.F.plainAttrs_list PySem.F.slot_list_append PySem.F.type_list_append mt_append (pe_fld (pv 0) rfl) (pa_cons (@pe_tup _ _ _ _ _ (pa_cons (@pe_tup _ _ _ _ _ (pa_cons (pv 1) (pa_cons (pv 2) pa_nil))) (pa_cons (pv 3) pa_nil))) pa_nil))))),?_⟩
 refine ⟨_,rfl,_,_,_,_,_,rfl,hb',T.cl_Book,T.na_Book_entries,rfl,ea,_,rfl,.inl (SqL.of he),_,_,rfl,rfl,_,rfl,?_⟩
 refine iteD (fun c=>?_) (fun c=>?_)
 ·exact ⟨by show 1≤sizeLine;decide,q2 (by omega)⟩
 ·refine ⟨_,rfl,_,_,_,_,_,rfl,hb',T.cl_Book,T.na_Book_entries,rfl,?_⟩
  refine ⟨.inl ⟨rfl,_,SqL.of he⟩,_,rfl,_,rfl,(by show 2≤sizeLine;decide),fun t ht=>?_⟩
  refine ⟨_,rfl,(by show 2≤sizeLine;decide),fun e hE=>?_⟩
  have s1:=same_new ht (.tup [wd,wv])
  have s2:=s1.trans (same_new hE (.tup [.ref t,pb]))
  have nt:=ne_of_none he ht
  have hE0:=s1.free hE
  have ne:=ne_of_none he hE0
  have net:e≠t:=fun z=>by rw [z,upd_same] at hE;cases hE
  refine ⟨ea,es,_,rfl,rfl,s2 _ _ he,small1000 (by omega),?_⟩
  exact q1 (by omega) e t _ (fun z o hz n=>(upd_ne n).trans (s2 z o hz)) hE0 ht ((upd_ne (Ne.symm nt)).trans ((upd_ne (Ne.symm net)).trans upd_same)) ((upd_ne (Ne.symm ne)).trans upd_same) upd_same

def sp_product (K:PySem.W.Frag):Sp:=fun vs H Q _=>∃ (p r:Addr) (a b c d:Int),vs=[.ref p,.ref r]∧TupK K H p [.int a,.int b]∧TupK K H r [.int c,.int d]∧Bd 2000 a∧Bd 2000 b∧Bd 2000 c∧Bd 2000 d∧b≠0∧d≠0 ∧
 ∀ n,H n=none→Q (.ref n) (upd H n (.tup [.int (ltN (a * c) (b * d)),.int (ltD (a * c) (b * d))]))
theorem d_f_product (T:Txt K mg):DefOk P w K mg base "product" ["a","b"] 3 (sp_product K):=by
 obtain ⟨f,fd,F,hm,hb⟩:=T.h_f_product
 refine ⟨f,fd,F.ok sc_f_product (fun vs H Q E h=>?_) (fun cdv A outer s H vs Q E hr h=>?_),hm,F.kp,hb⟩
 ·obtain ⟨p,r,a,b,c,d,rfl,_⟩:=h
  rfl
 obtain ⟨p,r,a,b,c,d,rfl,hp,hr',ba,bb,bc,bd,b0,d0,q⟩:=h
 refine ⟨_,(@pss_one _ _ _ (@ps_ret _ _ _ _ (pe_callD (d_f_least_terms T) hr (pa_cons (pe_op op_mulX (@pe_ix _ _ _ _ _ _ _ ix_tup (pv 0) pe_int (fun _ _=>rfl)) (@pe_ix _ _ _ _ _ _ _ ix_tup (pv 1) pe_int (fun _ _=>rfl))) (pa_cons (pe_op op_mulX (@pe_ix _ _ _ _ _ _ _ ix_tup (pv 0) pe_int (fun _ _=>rfl)) (@pe_ix _ _ _ _ _ _ _ ix_tup (pv 1) pe_int (fun _ _=>rfl))) pa_nil))))),?_⟩
 exact ⟨_,rfl,_,_,_,_,rfl,rfl,hp.sq,rfl,_,rfl,_,_,_,_,rfl,rfl,hr'.sq,rfl,_,_,rfl,rfl,.inr ⟨ba.mono (by decide),bc.mono (by decide)⟩,_,rfl,_,_,_,_,rfl,rfl,hp.sq,rfl,_,rfl,_,_,_,_,rfl,rfl,hr'.sq,rfl,_,_,rfl,rfl,.inr ⟨bb.mono (by decide),bd.mono (by decide)⟩,_,_,rfl,Int.mul_ne_zero b0 d0,(bb.mul bd).mono (by decide),q⟩

def sp_difference (K:PySem.W.Frag):Sp:=fun vs H Q _=>∃ (p r:Addr) (a b c d:Int),vs=[.ref p,.ref r]∧TupK K H p [.int a,.int b]∧TupK K H r [.int c,.int d]∧Bd 2000 a∧Bd 2000 b∧Bd 2000 c∧Bd 2000 d∧b≠0∧d≠0 ∧
 ∀ n,H n=none→Q (.ref n) (upd H n (.tup [.int (ltN (a * d - c * b) (b * d)),.int (ltD (a * d - c * b) (b * d))]))
theorem d_f_difference (T:Txt K mg):DefOk P w K mg base "difference" ["a","b"] 3 (sp_difference K):=by
 obtain ⟨f,fd,F,hm,hb⟩:=T.h_f_difference
 refine ⟨f,fd,F.ok sc_f_difference (fun vs H Q E h=>?_) (fun cdv A outer s H vs Q E hr h=>?_),hm,F.kp,hb⟩
 ·obtain ⟨p,r,a,b,c,d,rfl,_⟩:=h
  rfl
 obtain ⟨p,r,a,b,c,d,rfl,hp,hr',ba,bb,bc,bd,b0,d0,q⟩:=h
 refine ⟨_,(@pss_one _ _ _ (@ps_ret _ _ _ _ (pe_callD (d_f_least_terms T) hr (pa_cons (pe_op op_sub (pe_op op_mulX (@pe_ix _ _ _ _ _ _ _ ix_tup (pv 0) pe_int (fun _ _=>rfl)) (@pe_ix _ _ _ _ _ _ _ ix_tup (pv 1) pe_int (fun _ _=>rfl))) (pe_op op_mulX (@pe_ix _ _ _ _ _ _ _ ix_tup (pv 1) pe_int (fun _ _=>rfl)) (@pe_ix _ _ _ _ _ _ _ ix_tup (pv 0) pe_int (fun _ _=>rfl)))) (pa_cons (pe_op op_mulX (@pe_ix _ _ _ _ _ _ _ ix_tup (pv 0) pe_int (fun _ _=>rfl)) (@pe_ix _ _ _ _ _ _ _ ix_tup (pv 1) pe_int (fun _ _=>rfl))) pa_nil))))),?_⟩
 exact ⟨_,rfl,_,_,_,_,rfl,rfl,hp.sq,rfl,_,rfl,_,_,_,_,rfl,rfl,hr'.sq,rfl,_,_,rfl,rfl,.inr ⟨ba.mono (by decide),bd.mono (by decide)⟩,_,rfl,_,_,_,_,rfl,rfl,hr'.sq,rfl,_,rfl,_,_,_,_,rfl,rfl,hp.sq,rfl,_,_,rfl,rfl,.inr ⟨bc.mono (by decide),bb.mono (by decide)⟩,_,_,rfl,rfl,_,rfl,_,_,_,_,rfl,rfl,hp.sq,rfl,_,rfl,_,_,_,_,rfl,rfl,hr'.sq,rfl,_,_,rfl,rfl,.inr ⟨bb.mono (by decide),bd.mono (by decide)⟩,_,_,rfl,Int.mul_ne_zero b0 d0,(bb.mul bd).mono (by decide),q⟩

def spOffP (K:PySem.W.Frag) (mg:Str→Option Value):Sp:=fun vs H Q _=>∃ a p Fp,vs=[.ref a]∧PRep K mg Fp H a p∧PcO p∧∀ v H',Same H H'→OffR H H' v p.off→Q v H'
theorem d_m_Piece_off (T:Txt K mg):MethOk P w K mg base (cOf mg "Piece") "off" ["self"] 4 (spOffP K mg):=by
 obtain ⟨f,fd,F,hm,hb⟩:=T.hm_Piece_off
 refine ⟨f,fd,F.ok1 sc_m_Piece_off (fun vs H Q E h=>?_) (fun cdv A outer s H vs Q E hr h=>?_),hm,T.cl_Piece,hb⟩
 ·obtain ⟨a,p,Fp,rfl,_⟩:=h
  rfl
 obtain ⟨a,p,Fp,rfl,⟨dx,t,rv,w,c,fv,tc,mc,cu,R⟩,Pc0,q⟩:=h
 refine ⟨_,(@pss_cons _ _ _ _ _ (ps_if (pt_cmp (pc_isN (pe_fld (pv 0) rfl)))
 (@pss_one _ _ _ (@ps_ret _ _ _ _ pe_non))
 pss_nil)
 (@pss_cons _ _ _ _ _ (@ps_set _ _ 1 _ _ _ _ sc_m_Piece_off.nd rfl (Or.inl rfl) (pe_callD (d_f_product T) hr (pa_cons (pe_fld (pv 0) rfl) (pa_cons (pe_callD (d_f_difference T) hr (pa_cons (pe_fld (pv 0) rfl) (pa_cons (@pe_ix _ _ _ _ _ _ _ ix_tup (pe_fld (pv 0) rfl) pe_int (fun _ _=>rfl)) pa_nil))) pa_nil))) (by rfl) (by first | exact .inl rfl | exact .inr rfl))
 (@pss_one _ _ _ (@ps_ret _ _ _ _ (pe_callD (d_f_difference T) hr (pa_cons (pe_callD (d_f_difference T) hr (pa_cons (pe_fld (pv 0) rfl) (pa_cons (@pe_ix _ _ _ _ _ _ _ ix_tup (pe_fld (pv 0) rfl) pe_int (fun _ _=>rfl)) pa_nil))) (pa_cons (pv 1) pa_nil))))))),?_⟩
 rcases R.fi with ⟨ho,rfl⟩ | ⟨o,f1,c1,w1,x,y,ho,rfl,hf,hc,hw,Fo,he⟩
 ·refine ⟨_,rfl,_,_,_,_,_,rfl,R.ob,T.cl_Piece,T.na_Piece_first,rfl,_,rfl,iteDT rfl ?_⟩
  exact q _ _ (Same.refl _) (by rw [ho];rfl)
 ·refine ⟨_,rfl,_,_,_,_,_,rfl,R.ob,T.cl_Piece,T.na_Piece_first,rfl,_,rfl,iteDF (fun z=>by cases z) ?_⟩
  rcases Pc0 with e | ⟨ts,P⟩
  ·rw [e] at ho;cases ho
  obtain ⟨⟨b1,b2,b3⟩,⟨b4,b5,b6⟩,⟨b7,b8,b9⟩,eo,⟨bx1,bx2⟩,bY1,bY2⟩:=off_steps P Fo ho he
  have hra:=R.ra
  rw [P.ep] at hra
  obtain ⟨ra,rfl,hra⟩:=hra
  have L:=P.tr.pl
  have wN:=P.workN
  have pN:=P.placeN
  refine ⟨_,rfl,_,_,_,_,_,rfl,R.ob,T.cl_Piece,T.na_Piece_ratio,rfl,_,rfl,_,_,_,_,_,rfl,R.ob,T.cl_Piece,T.na_Piece_work_turns,rfl,_,rfl,_,_,_,_,_,rfl,R.ob,T.cl_Piece,T.na_Piece_first,rfl,_,_,_,_,rfl,rfl,SqT.of hf,rfl,?_⟩
  refine ⟨w,w1,p.work.1,p.work.2,y.1,y.2,rfl,R.wo,hw,wN.1.mono (by decide),wN.2.mono (by decide),bY1.mono (by decide),bY2.mono (by decide),P.w.ne,Fo.oy.ne,fun n1 hn1=>?_⟩
  have s1:=same_new hn1 (.tup [.int (qsub p.work y).1,.int (qsub p.work y).2])
  refine ⟨ra,n1,(ratio ts).1,(ratio ts).2,(qsub p.work y).1,(qsub p.work y).2,rfl,(.inl (s1 _ _ hra)),.inl upd_same,L.bp.mono (by decide),L.bq.mono (by decide),b1.mono (by decide),b2.mono (by decide),P.tr.rok.ne,b3,fun n2 hn2=>?_⟩
  have s2:=s1.trans (same_new hn2 (.tup [.int (qmul (ratio ts) (qsub p.work y)).1,.int (qmul (ratio ts) (qsub p.work y)).2]))
  have ob2:=s2 _ _ R.ob
  refine ⟨_,rfl,_,_,_,_,_,rfl,ob2,T.cl_Piece,T.na_Piece_place,rfl,_,rfl,_,_,_,_,_,rfl,ob2,T.cl_Piece,T.na_Piece_first,rfl,_,_,_,_,rfl,rfl,SqT.of (s2 _ _ hf),rfl,?_⟩
  refine ⟨c,c1,p.place.1,p.place.2,x.1,x.2,rfl,R.pl.mono s2,hc.mono s2,pN.1.mono (by decide),pN.2.mono (by decide),bx1.mono (by decide),bx2.mono (by decide),P.pl.ne,Fo.ox.ne,fun n3 hn3=>?_⟩
  have s3:=same_new hn3 (.tup [.int (qsub p.place x).1,.int (qsub p.place x).2])
  refine ⟨_,rfl,n3,n2,(qsub p.place x).1,(qsub p.place x).2,(qmul (ratio ts) (qsub p.work y)).1,(qmul (ratio ts) (qsub p.work y)).2,rfl,.inl upd_same,.inl (s3 _ _ upd_same),b7.mono (by decide),b8.mono (by decide),b4.mono (by decide),b5.mono (by decide),b9,b6,fun n4 hn4=>?_⟩
  refine q _ _ (s2.trans (s3.trans (same_new hn4 _))) ?_
  rw [ho]
  refine ⟨n4,rfl,(s2.trans s3).free hn4,?_⟩
  rw [← eo]
  exact upd_same

def sp_remainder:Sp:=fun vs H Q _=>∃ (p r:Addr) (a b c d:Int),vs=[.ref p,.ref r]∧H p=some (.tup [.int a,.int b])∧H r=some (.tup [.int c,.int d])∧Bd 2000 a∧Bd 2000 b∧Bd 2000 c∧Bd 2000 d∧0<b∧0<c∧0<d ∧
 ∀ n,H n=none→Q (.ref n) (upd H n (.tup [.int (ltN (a * d % (c * b)) (b * d)),.int (ltD (a * d % (c * b)) (b * d))]))
theorem d_f_remainder (T:Txt K mg):DefOk P w K mg base "remainder" ["a","b"] 3 sp_remainder:=by
 obtain ⟨f,fd,F,hm,hb⟩:=T.h_f_remainder
 refine ⟨f,fd,F.ok sc_f_remainder (fun vs H Q E h=>?_) (fun cdv A outer s H vs Q E hr h=>?_),hm,F.kp,hb⟩
 ·obtain ⟨p,r,a,b,c,d,rfl,_⟩:=h
  rfl
 obtain ⟨p,r,a,b,c,d,rfl,hp,hr',ba,bb,bc,bd,b0,c0,d0,q⟩:=h
 refine ⟨_,(@pss_one _ _ _ (@ps_ret _ _ _ _ (pe_callD (d_f_least_terms T) hr (pa_cons (pe_op op_mod (pe_op op_mulX (@pe_ix _ _ _ _ _ _ _ ix_tup (pv 0) pe_int (fun _ _=>rfl)) (@pe_ix _ _ _ _ _ _ _ ix_tup (pv 1) pe_int (fun _ _=>rfl))) (pe_op op_mulX (@pe_ix _ _ _ _ _ _ _ ix_tup (pv 1) pe_int (fun _ _=>rfl)) (@pe_ix _ _ _ _ _ _ _ ix_tup (pv 0) pe_int (fun _ _=>rfl)))) (pa_cons (pe_op op_mulX (@pe_ix _ _ _ _ _ _ _ ix_tup (pv 0) pe_int (fun _ _=>rfl)) (@pe_ix _ _ _ _ _ _ _ ix_tup (pv 1) pe_int (fun _ _=>rfl))) pa_nil))))),?_⟩
 exact ⟨_,rfl,_,_,_,_,rfl,rfl,SqT.of (hp),rfl,_,rfl,_,_,_,_,rfl,rfl,SqT.of (hr'),rfl,_,_,rfl,rfl,.inr ⟨ba.mono (by decide),bd.mono (by decide)⟩,_,rfl,_,_,_,_,rfl,rfl,SqT.of (hr'),rfl,_,rfl,_,_,_,_,rfl,rfl,SqT.of (hp),rfl,_,_,rfl,rfl,.inr ⟨bc.mono (by decide),bb.mono (by decide)⟩,_,_,rfl,rfl,Int.mul_pos c0 b0,_,rfl,_,_,_,_,rfl,rfl,SqT.of (hp),rfl,_,rfl,_,_,_,_,rfl,rfl,SqT.of (hr'),rfl,_,_,rfl,rfl,.inr ⟨bb.mono (by decide),bd.mono (by decide)⟩,_,_,rfl,Int.ne_of_gt (Int.mul_pos b0 d0),(bb.mul bd).mono (by decide),q⟩

def spReading:Sp:=fun vs H Q _=>∃ (r:Addr) (x y n:Int),vs=[.ref r,.int n]∧H r=some (.tup [.int x,.int y])∧Bd 1700 x∧Bd 1700 y∧0<y∧2≤n∧n≤64 ∧
 ∀ (m:Addr) (H':Hp),Same H H'→H' m=some (.tup [.int (ltN (x % (n * y)) y),.int (ltD (x % (n * y)) y)])→Q (.ref m) H'
theorem d_f_reading_of (T:Txt K mg):DefOk P w K mg base "reading_of" ["off","teeth"] 4 spReading:=by
 obtain ⟨f,fd,F,hm,hb⟩:=T.h_f_reading_of
 refine ⟨f,fd,F.ok sc_f_reading_of (fun vs H Q E h=>?_) (fun cdv A outer s H vs Q E hr h=>?_),hm,F.kp,hb⟩
 ·obtain ⟨r,x,y,n,rfl,_⟩:=h
  rfl
 obtain ⟨r,x,y,n,rfl,hR,bx,bY,y0,n0,n1,q⟩:=h
 refine ⟨_,(@pss_one _ _ _ (@ps_ret _ _ _ _ (pe_callD (d_f_remainder T) hr (pa_cons (pv 0) (pa_cons (@pe_tup _ _ _ _ _ (pa_cons (pv 1) (pa_cons pe_int pa_nil))) pa_nil))))),?_⟩
 have bn:Bd 64 n:=bd20 (by omega) (by omega)
 refine ⟨_,rfl,_,rfl,(by show 2≤sizeLine;decide),fun p hp=>?_⟩
 have s1:=same_new hp (.tup [.int n,.int 1])
 refine ⟨r,p,x,y,n,1,rfl,s1 _ _ hR,upd_same,bx.mono (by decide),bY.mono (by decide),bn.mono (by decide),(Bd.of60 (by decide) (by decide)).mono (show 200≤2000 by decide),y0,by omega,by decide,fun m hm=>?_⟩
 rw [Int.mul_one,Int.mul_one]
 exact q m _ (s1.trans (same_new hm _)) upd_same

theorem d_m_Lathe_reading (T:Txt K mg):MethOk P w K mg base (cOf mg "Lathe") "reading" ["self"] 5 (spAsk K mg fun l _ _ H' v=>FrO K H' v l.shown):=by
 obtain ⟨f,fd,F,hm,hb⟩:=T.hm_Lathe_reading
 refine ⟨f,fd,F.ok1 sc_m_Lathe_reading (fun vs H Q E h=>?_) (fun cdv A outer s H vs Q E hr h=>?_),hm,T.cl_Lathe,hb⟩
 ·obtain ⟨a,l,F,rfl,_⟩:=h
  rfl
 obtain ⟨a,l,F,rfl,R,q⟩:=h
 have R0:=R
 obtain ⟨Fp,dx,s,pa,ra,rdx,ea,es,R⟩:=R
 refine ⟨_,(@pss_cons _ _ _ _ _ (@ps_set _ _ 1 _ _ _ _ sc_m_Lathe_reading.nd rfl (Or.inl rfl) (pe_methX0 (d_m_Piece_off T) hr (passOut out_cx) (pe_fld (pv 0) rfl)) (by rfl) (by first | exact .inl rfl | exact .inr rfl))
 (@pss_cons _ _ _ _ _ (ps_if (pt_cmp (pc_isN (pv 1)))
 (@pss_one _ _ _ (@ps_ret _ _ _ _ pe_non))
 pss_nil)
 (@pss_one _ _ _ (@ps_ret _ _ _ _ (pe_callD (d_f_reading_of T) hr (pa_cons (pv 1) (pa_cons (pe_fld (pv 0) rfl) pa_nil))))))),?_⟩
 obtain ⟨pdx,t,rv,w,c,fv,tc,mc,cu,Rp⟩:=R.pc
 refine ⟨_,rfl,_,_,_,_,_,rfl,R.ob,T.cl_Lathe,T.na_Lathe_piece,rfl,pa,pdx,_,rfl,Rp.ob,rfl,pa,l.ps,Fp,rfl,R.pc,R.re.pco,fun v H' s' hv=>?_⟩
 cases ho:l.ps.off with
 | none =>
  rw [ho] at hv
  cases (show v = .non from hv)
  refine ⟨_,rfl,_,rfl,iteDT rfl ?_⟩
  exact q _ _ F (R0.same s') (Fit.of_same s') (by show FrO K _ _ l.shown;unfold LS.shown;rw [ho];rfl)
 | some o =>
  rw [ho] at hv
  obtain ⟨n,rfl,hn0,hn⟩:=hv
  rcases R.re.pco with e | ⟨ts,P⟩
  ·rw [e] at ho;cases ho
  have G:=R.re.good
  have oN:=P.offN ho
  have oO:=P.o o ho
  refine ⟨_,rfl,_,rfl,iteDF (fun z=>by cases z) ?_⟩
  refine ⟨_,rfl,_,rfl,_,_,_,_,_,rfl,(s' _ _ R.ob),T.cl_Lathe,T.na_Lathe_teeth,rfl,n,o.1,o.2,l.teeth,rfl,hn,oN.1,oN.2,by have:=oO.pos;omega,G.n2,G.n64,fun m H2 s2 hm=>?_⟩
  exact q _ _ F (R0.same (s'.trans s2)) (Fit.of_same (s'.trans s2)) (by show FrO K _ _ l.shown;unfold LS.shown;rw [ho];exact ⟨m,rfl,.inl hm⟩)

def spLastG (K:PySem.W.Frag) (mg:Str→Option Value):Sp:=fun vs H Q _=>∃ a p Fp,vs=[.ref a]∧PRep K mg Fp H a p∧∀ v,InO v (p.cuts.getLast?.map (·.2))→Q v H
theorem d_m_Piece_last_groove (T:Txt K mg):MethOk P w K mg base (cOf mg "Piece") "last_groove" ["self"] 1 (spLastG K mg):=by
 obtain ⟨f,fd,F,hm,hb⟩:=T.hm_Piece_last_groove
 refine ⟨f,fd,F.ok1 sc_m_Piece_last_groove (fun vs H Q E h=>?_) (fun cdv A outer s H vs Q E hr h=>?_),hm,T.cl_Piece,hb⟩
 ·obtain ⟨a,p,Fp,rfl,_⟩:=h
  rfl
 obtain ⟨a,p,Fp,rfl,⟨dx,t,rv,w,c,fv,tc,mc,cu,R⟩,q⟩:=h
 refine ⟨_,(@pss_cons _ _ _ _ _ (ps_if (pt_cmp (pc_eqI (pe_callB call_len_seq (by rfl) T.z_len PySem.boot_len (pa_cons (pe_fld (pv 0) rfl) pa_nil)) pe_int))
 (@pss_one _ _ _ (@ps_ret _ _ _ _ pe_non))
 pss_nil)
 (@pss_one _ _ _ (@ps_ret _ _ _ _ (@pe_ix _ _ _ _ _ _ _ ix_tup (@pe_ix _ _ _ _ _ _ _ ix_list (pe_fld (pv 0) rfl) (pe_un un_neg pe_int) (fun _ _=>rfl)) pe_int (fun _ _=>rfl))))),?_⟩
 obtain ⟨rs,hrs,prs⟩:=R.cu
 rcases last_or p.cuts with e | ⟨cs,c0,e⟩
 ·rw [e] at prs
  cases prs
  refine ⟨_,rfl,_,_,_,_,_,rfl,R.ob,T.cl_Piece,T.na_Piece_cuts,rfl,cu,_,rfl,.inl (SqL.of hrs),_,_,rfl,rfl,_,rfl,iteDT rfl ?_⟩
  exact q _ (by rw [e];rfl)
 ·rw [e,rowsOf,List.map_append] at prs
  obtain ⟨rs',r,rfl,_,hr2⟩:=paired_last prs
  refine ⟨_,rfl,_,_,_,_,_,rfl,R.ob,T.cl_Piece,T.na_Piece_cuts,rfl,cu,_,rfl,.inl (SqL.of hrs),_,_,rfl,rfl,_,rfl,iteDF (by rw [List.length_map,List.length_append,List.length_singleton];omega) ?_⟩
  have ea:atI ((rs'++[r]).map V.ref) (-1)=some (.ref r):=by rw [List.map_append];exact atI_last _ _
  refine ⟨_,rfl,_,_,_,_,_,rfl,R.ob,T.cl_Piece,T.na_Piece_cuts,rfl,_,rfl,cu,_,_,_,rfl,rfl,SqL.of hrs,ea,_,_,_,_,rfl,rfl,SqT.of hr2,rfl,?_⟩
  exact q _ (by rw [e,List.getLast?_append];rfl)

theorem d_m_Lathe_stand (T:Txt K mg):MethOk P w K mg base (cOf mg "Lathe") "stand" ["self"] 6 (spAsk K mg (tellStand K)):=by
 obtain ⟨f,fd,F,hm,hb⟩:=T.hm_Lathe_stand
 refine ⟨f,fd,F.ok1 sc_m_Lathe_stand (fun vs H Q E h=>?_) (fun cdv A outer s H vs Q E hr h=>?_),hm,T.cl_Lathe,hb⟩
 ·obtain ⟨a,l,F,rfl,_⟩:=h
  rfl
 obtain ⟨a,l,F,rfl,R,q⟩:=h
 have R0:=R
 obtain ⟨Fp,dx,s,pa,ra,rdx,ea,es,R⟩:=R
 refine ⟨_,(@pss_one _ _ _ (@ps_ret _ _ _ _ (@pe_tup _ _ _ _ _ (pa_cons (pe_fld (pe_fld (pv 0) rfl) rfl) (pa_cons (pe_methX0 (d_m_Lathe_reading T) hr (passOut out_cx) (pv 0)) (pa_cons (pe_methX0 (d_m_Piece_last_groove T) hr (passOut out_cx) (pe_fld (pv 0) rfl)) pa_nil)))))),?_⟩
 obtain ⟨pdx,t,rv,w,c,fv,tc,mc,cu,Rp⟩:=R.pc
 refine ⟨_,rfl,_,_,_,_,_,rfl,R.ob,T.cl_Lathe,T.na_Lathe_piece,rfl,_,_,_,_,_,rfl,Rp.ob,T.cl_Piece,T.na_Piece_place,rfl,?_⟩
 refine ⟨_,rfl,a,dx,_,rfl,R.ob,rfl,a,l,F,rfl,R0,fun v H1 F1 R1 f1 hv=>?_⟩
 have R10:=R1
 obtain ⟨Fp1,dx1,s1,pa1,ra1,rdx1,ea1,es1,R1⟩:=R1
 obtain ⟨pdx1,t1,rv1,w1,c1,fv1,tc1,mc1,cu1,Rp1⟩:=R1.pc
 refine ⟨_,rfl,_,_,_,_,_,rfl,R1.ob,T.cl_Lathe,T.na_Lathe_piece,rfl,pa1,pdx1,_,rfl,Rp1.ob,rfl,pa1,l.ps,Fp1,rfl,R1.pc,fun g hg=>?_⟩
 refine ⟨(by show 3≤sizeLine;decide),fun n hn=>?_⟩
 have sn:=same_new hn (.tup [.ref c,v,g])
 exact q _ _ F1 (R10.same sn) (f1.trans (Fit.of_same sn)) ⟨n,rfl,c,v,g,upd_same,(Rp.pl.tups f1.tup).mono sn,hv.tups (Same.tups sn),hg⟩

theorem d_m_Lathe_enter (T:Txt K mg):MethOk P w K mg base (cOf mg "Lathe") "enter" ["self","word","what","after"] 7 (spEnter K mg):=by
 obtain ⟨f,fd,F,hm,hb⟩:=T.hm_Lathe_enter
 refine ⟨f,fd,F.ok1 sc_m_Lathe_enter (fun vs H Q E h=>?_) (fun cdv A outer s H vs Q E hr h=>?_),hm,T.cl_Lathe,hb⟩
 ·obtain ⟨a,l,F,d,wv,pb,Fq,rfl,_⟩:=h
  rfl
 obtain ⟨a,l,F,d,wv,pb,Fq,rfl,⟨Fp,dx,s,pa,ra,rdx,ea,es,R⟩,hw,Rb,nF,aF,hre,q1,q2⟩:=h
 refine ⟨_,(@pss_cons _ _ _ _ _ (ps_expr (pe_methX (d_m_Book_write T) hr (passOut out_cx) (pe_fld (pv 0) rfl) (pa_cons (pv 1) (pa_cons (pv 2) (pa_cons (pe_fld (pv 0) rfl) pa_nil)))))
 (@pss_cons _ _ _ _ _ (ps_fld (pv 0) (pv 3) rfl)
 (@pss_one _ _ _ (@ps_ret _ _ _ _ (pe_methX0 (d_m_Lathe_stand T) hr (passOut out_cx) (pv 0)))))),?_⟩
 have hlen:=R.en.len
 refine ⟨_,rfl,_,_,_,_,_,rfl,R.ob,T.cl_Lathe,T.na_Lathe_record,rfl,ra,rdx,_,rfl,R.bo,rfl,_,rfl,_,rfl,_,rfl,_,_,_,_,_,rfl,R.ob,T.cl_Lathe,T.na_Lathe_piece,rfl,ra,rdx,ea,es,_,_,_,rfl,R.bo,R.he,fun lt e t H1 k1 ne nt ht he hea=>?_,fun ge=>q2 (by omega)⟩
 have aea:a≠ea:=fun z=>by have h1:=R.ob;rw [z,R.he] at h1;cases h1
 have raea:ra≠ea:=fun z=>by have h1:=R.bo;rw [z,R.he] at h1;cases h1
 have raa:ra≠a:=fun z=>by have h1:=R.bo;rw [z,R.ob] at h1;exact nomatch (show (4:Nat)=1 from congrArg List.length (HO.ins.inj (Option.some.inj h1)).2.2)
 have ob1:=k1 _ _ R.ob aea
 refine ⟨_,rfl,_,rfl,_,_,_,_,rfl,ob1,T.cl_Lathe,T.na_Lathe_piece,Nat.le_of_ble_eq_true rfl,?_⟩
 have tu1:Tups H H1:=fun b xs h=>k1 b _ h fun z=>by rw [z,R.he] at h;cases h
 have nota:∀ b xs,H1 b=some (.tup xs)→b≠a:=fun b xs h z=>by rw [z,ob1] at h;cases h
 have tu2:Tups H (upd H1 a (.ins (cOf mg "Lathe") dx (laF s l.teeth pb ra))):=fun b xs h=>(upd_ne (nota b xs (tu1 b xs h))).trans (tu1 b xs h)
 have kp:∀ b o,Fp b→H b=some o→upd H1 a (.ins (cOf mg "Lathe") dx (laF s l.teeth pb ra)) b=some o:=fun b o f h=>(upd_ne (fun z:b=a=>R.n1 (z ▸ f))).trans (k1 b o h fun z=>R.n3 (z ▸ f))
 have kq:∀ b o,Fq b→H b=some o→upd H1 a (.ins (cOf mg "Lathe") dx (laF s l.teeth pb ra)) b=some o:=fun b o f h=>(upd_ne (fun z:b=a=>nF b f (z ▸ R.f1))).trans (k1 b o h fun z=>nF b f (z ▸ R.f3))
 have R2:LRep K mg (upd H1 a (.ins (cOf mg "Lathe") dx (laF s l.teeth pb ra))) a (l.push d) (fun b=>F b∨Fq b):=by
  refine ⟨fun b=>Fp b∨Fq b,dx,s,pb,ra,rdx,ea,es++[.ref e],hre (by omega),upd_same,tu2 _ _ R.sh,(upd_ne raa).trans (k1 _ _ R.bo raea),(upd_ne (Ne.symm aea)).trans hea,.inl R.f1,.inl R.f2,.inl R.f3,fun b z=>z.elim (fun z=>.inl (R.fp b z)) .inr,fun z=>z.elim R.n1 fun z=>nF _ z R.f1,fun z=>z.elim R.n2 fun z=>nF _ z R.f2,fun z=>z.elim R.n3 fun z=>nF _ z R.f3,fun b z=>?_,?_,?_⟩
  ·by_cases za:b=a
   ·rw [za];exact ⟨_,upd_same⟩
   ·by_cases ze:b=ea
    ·rw [ze];exact ⟨_,(upd_ne (Ne.symm aea)).trans hea⟩
    ·obtain ⟨o,h⟩:∃ o,H b=some o:=z.elim (R.al b) (aF b)
     exact ⟨o,(upd_ne za).trans (k1 b o h ze)⟩
  ·refine Ents.push ((R.en.frame kp tu2).foot fun b z=>.inl z) ?_
   refine ⟨e,t,pa,wv,rfl,(upd_ne (nota _ _ he)).trans he,(upd_ne (nota _ _ ht)).trans ht,hw.tups tu2,?_⟩
   exact (R.pc.frame kp tu2).foot fun b z=>.inl z
  ·rw [LS.ps_push]
   exact (Rb.frame kq tu2).foot fun b z=>.inr z
 refine ⟨_,rfl,a,dx,_,rfl,upd_same,rfl,a,l.push d,_,rfl,R2,fun v H3 F3 R3 f3 hv=>?_⟩
 obtain ⟨r,rfl,hst⟩:=hv
 refine q1 (by omega) r H3 F3 R3 (fun b z=>?_) (fun b o h n1 n2=>?_) (fun b xs h=>f3.tup b xs (tu2 b xs h)) hst
 ·rcases f3.foot b z with z | z
  ·exact z.elim .inl fun z=>.inr (.inl z)
  ·refine .inr (.inr ?_)
   cases h:H b with
   | none=>rfl
   | some o =>
    by_cases za:b=a
    ·rw [za,upd_same] at z;cases z
    ·rw [upd_ne za] at z
     by_cases ze:b=ea
     ·rw [ze,hea] at z;cases z
     ·rw [k1 b o h ze] at z;cases z
 ·refine f3.keep b o ((upd_ne fun z:b=a=>n1 (z ▸ R.f1)).trans (k1 b o h fun z=>n1 (z ▸ R.f3))) fun z=>z.elim n1 n2

theorem d_m_Lathe_mount (T:Txt K mg):MethOk P w K mg base (cOf mg "Lathe") "mount" ["self","train"] 9 (spMountL K mg):=by
 obtain ⟨f,fd,F,hm,hb⟩:=T.hm_Lathe_mount
 refine ⟨f,fd,F.ok1 sc_m_Lathe_mount (fun vs H Q E h=>?_) (fun cdv A outer s H vs Q E hr h=>?_),hm,T.cl_Lathe,hb⟩
 ·obtain ⟨a,t,ts,l,F,rfl,_⟩:=h
  rfl
 obtain ⟨a,t,ts,l,F,rfl,R0,hT,h1000,hbd,D⟩:=h
 have R1:=R0
 obtain ⟨Fp,dx,s,pa,ra,rdx,ea,es,R⟩:=R1
 refine ⟨_,(@pss_cons _ _ _ _ _ (ps_expr (pe_callX (d_f_check_known T) hr (passOut out_cx) (pa_cons (pe_fld (pv 0) rfl) (pa_cons (pv 1) pa_nil))))
 (@pss_cons _ _ _ _ _ (ps_expr (pe_callX (d_f_check_nut_open T) hr (passOut out_cx) (pa_cons (pe_fld (pv 0) rfl) pa_nil)))
 (@pss_cons _ _ _ _ _ (ps_expr (pe_callX (d_f_check_train T) hr (passOut out_cx) (pa_cons (pv 1) pa_nil)))
 (@pss_cons _ _ _ _ _ (@ps_set _ _ 2 _ _ _ _ sc_m_Lathe_mount.nd rfl (Or.inl rfl) (pe_callTy call_tuple_of (by rfl) T.z_tuple PyProof.Rows.boot_tuple (pa_cons (pv 1) pa_nil)) (by rfl) (by first | exact .inl rfl | exact .inr rfl))
 (@pss_one _ _ _ (@ps_ret _ _ _ _ (pe_methX (d_m_Lathe_enter T) hr (passOut out_cx) (pv 0) (pa_cons pe_str (pa_cons (pv 2) (pa_cons (pe_makeX (d_m_Piece___init__ T) hr (passOut out_cx) (pa_cons (pv 2) pa_nil)) pa_nil)))))))))),?_⟩
 have hA:SqA K H t (ts.map V.int):=hT.elim (fun h=>.inl (SqL.of h)) fun h=>.inr h.sq
 refine ⟨_,rfl,_,_,_,_,_,rfl,R.ob,T.cl_Lathe,T.na_Lathe_shop,rfl,_,rfl,s,t,l.shop,ts,rfl,SqT.of R.sh,hA,fun kn=>?_,fun un=>D.no R0 (Same.refl _) (due1 ?_)⟩
 rotate_left
 ·show (ts.all fun w=>decide (w∈l.shop))=false
  refine Bool.eq_false_iff.mpr fun z=>un fun v hv=>?_
  exact of_decide_eq_true (List.all_eq_true.mp z v hv)
 have d1:(Req.mount ts).known l=true:=by
  show (ts.all fun w=>decide (w∈l.shop))=true
  exact List.all_eq_true.mpr fun v hv=>decide_eq_true (kn v hv)
 refine ⟨_,rfl,_,_,_,_,_,rfl,R.ob,T.cl_Lathe,T.na_Lathe_piece,rfl,pa,l.ps,Fp,rfl,R.pc,fun cl=>?_,fun cl=>D.no R0 (Same.refl _) (due3 d1 rfl cl)⟩
 refine ⟨_,rfl,t,ts,rfl,hA,h1000,fun ok H1 s1=>?_,fun bad H1 s1=>D.no R0 s1 (due4 d1 rfl cl ?_)⟩
 rotate_left
 ·show (!(decide (ts.length=2∨ts.length=4) && decide ts.Nodup))=true
  rw [Bool.not_eq_true',← Bool.not_eq_true,Bool.and_eq_true]
  exact fun z=>bad ⟨of_decide_eq_true z.1,of_decide_eq_true z.2⟩
 have d4:(Req.mount ts).bad l.ps=false:=by
  show (!(decide (ts.length=2∨ts.length=4) && decide ts.Nodup))=false
  rw [decide_eq_true ok.1,decide_eq_true ok.2];rfl
 have G:=R.re.good
 have Tr:Train ts:=⟨ok.1,fun v hv=>G.shop.lo v (kn v hv),fun v hv=>G.shop.hi v (kn v hv)⟩
 have dd:=due6 (q:=.mount ts) d1 rfl cl d4 rfl
 have eps:l.ps.after (Req.mount ts).deed=newPS ts:=(newPS_train Tr).symm
 refine (fun (key:∀ (M:Addr) (Hd:Hp),(Same H Hd∧TupK K Hd M (ts.map V.int))→(?G:Addr→Hp→Prop) M Hd)=>?main) ?keyp
 case main =>
  rcases hT with hT | hT
  ·refine ⟨_,rfl,t,_,rfl,.inl ⟨SqL.of (s1 _ _ hT),fun M hM=>?_⟩⟩
   have S2:=s1.trans (same_new hM (.tup (ts.map V.int)))
   have hM2:TupK K (upd H1 M (.tup (ts.map V.int))) M (ts.map V.int):=.inl upd_same
   dsimp only
   generalize upd H1 M (.tup (ts.map V.int))=Hd at S2 hM2 ⊢
   exact key M Hd ⟨S2,hM2⟩
  ·refine ⟨_,rfl,t,_,rfl,.inr ⟨(hT.mono s1).sq,?_⟩⟩
   exact key t H1 ⟨s1,hT.mono s1⟩
 case keyp =>
  rintro M Hd ⟨s2,hM2⟩
  refine ⟨_,rfl,a,dx,_,rfl,s2 _ _ R.ob,rfl,_,rfl,_,rfl,fun x dx2 nx ndx ne=>?_⟩
  refine ⟨x,dx2,_,ts,rfl,upd_same,hM2.mono (made_same nx ndx _ _),.inr Tr,fun H3 rv cu k ncu hob hcu hrv=>⟨rfl,?_⟩⟩
  have s3:=made_next nx ndx k
  have nx0:=s2.free nx
  have cx:cu≠x:=fun z=>by rw [z,upd_same] at ncu;cases ncu
  have ncu0:H cu=none:=by
   cases h:H cu with
   | none=>rfl
   | some o=>rw [made_same nx ndx _ _ cu o (s2 _ _ h)] at ncu;cases ncu
  refine D.enter (Fq:=fun z=>z=x∨z=cu) R0 (s2.trans s3) (fun b z=>by rcases z with rfl | rfl;exact nx0;exact ncu0) (fun b z=>by rcases z with rfl | rfl;exact ⟨_,hob⟩;exact ⟨_,hcu⟩) dd ⟨_,rfl,hM2.mono s3⟩ ?_
  rw [eps]
  have hN:FrA K H3 (cOf mg "NOUGHT") (0,1):=.inr T.t_NOUGHT
  exact ⟨dx2,_,rv,_,_,.non,_,_,cu,hob,.inl rfl,.inr rfl,hM2.mono s3,hrv,hN,hN,.inl ⟨rfl,rfl⟩,hN,hN,⟨[],hcu,.nil⟩⟩

def spMounted (K:PySem.W.Frag) (mg:Str→Option Value):Sp:=fun vs H Q E=>∃ (a:Addr) (p:PS) (Fp:Addr→Prop),vs=[.ref a]∧PRep K mg Fp H a p∧(p.pitch≠none→Q .non H)∧(p.pitch=none→E (.ref (cOf mg "NoTrain")) none H)
theorem d_f_check_mounted (T:Txt K mg):DefOkX P w K mg base "check_mounted" ["piece"] 1 (spMounted K mg):=by
 obtain ⟨f,fd,F,hm,hb⟩:=T.h_f_check_mounted
 refine ⟨f,fd,F.ok1 sc_f_check_mounted (fun vs H Q E h=>?_) (fun cdv A outer s H vs Q E hr h=>?_),hm,F.kp,hb⟩
 ·obtain ⟨a,p,Fp,rfl,_⟩:=h
  rfl
 obtain ⟨a,p,Fp,rfl,⟨dx,t,rv,w,c,fv,tc,mc,cu,R⟩,q1,q2⟩:=h
 refine ⟨_,(@pss_one _ _ _ (ps_if (pt_cmp (pc_isN (pe_fld (pv 0) rfl)))
 (@pss_one _ _ _ (ps_raise out_cx rfl T.x_NoTrain T.g_NoTrain (pa_cons pe_str pa_nil)))
 pss_nil)),?_⟩
 refine ⟨_,rfl,_,_,_,_,_,rfl,R.ob,T.cl_Piece,T.na_Piece_ratio,rfl,_,rfl,?_⟩
 have hra:=R.ra
 refine iteD (fun c=>?_) (fun c=>?_)
 ·refine ⟨by show 1≤sizeLine;decide,q2 ?_⟩
  cases hp:p.pitch with
  | none=>rfl
  | some x=>rw [hp] at hra;obtain ⟨n,e,_⟩:=hra;rw [c] at e;cases e
 ·refine q1 fun z=>c ?_
  rw [z] at hra;exact hra

def spTwin (K:PySem.W.Frag) (mg:Str→Option Value):Sp:=fun vs H Q _=>∃ a p Fp,vs=[.ref a]∧PRep K mg Fp H a p∧PcO p ∧
 ∀ b H' Fq,Same H H'→H b=none→(∀ z,Fq z→H z=none)→(∀ z,Fq z→∃ o,H' z=some o)→PRep K mg Fq H' b p→Q (.ref b) H'
theorem d_m_Piece_twin (T:Txt K mg):MethOk P w K mg base (cOf mg "Piece") "twin" ["self"] 6 (spTwin K mg):=by
 obtain ⟨f,fd,F,hm,hb⟩:=T.hm_Piece_twin
 refine ⟨f,fd,F.ok1 sc_m_Piece_twin (fun vs H Q E h=>?_) (fun cdv A outer s H vs Q E hr h=>?_),hm,T.cl_Piece,hb⟩
 ·obtain ⟨a,p,Fp,rfl,_⟩:=h
  rfl
 obtain ⟨a,p,Fp,rfl,⟨dx,t,rv,w,c,fv,tc,mc,cu,R⟩,Pc0,q⟩:=h
 refine ⟨_,(@pss_cons _ _ _ _ _ (@ps_set _ _ 1 _ _ _ _ sc_m_Piece_twin.nd rfl (Or.inl rfl) (pe_makeX (d_m_Piece___init__ T) hr (passOut out_cx) (pa_cons (pe_fld (pv 0) rfl) pa_nil)) (by rfl) (by first | exact .inl rfl | exact .inr rfl))
 (@pss_cons _ _ _ _ _ (ps_fld (pv 1) (pe_fld (pv 0) rfl) rfl)
 (@pss_cons _ _ _ _ _ (ps_fld (pv 1) (pe_fld (pv 0) rfl) rfl)
 (@pss_cons _ _ _ _ _ (ps_fld (pv 1) (pe_fld (pv 0) rfl) rfl)
 (@pss_cons _ _ _ _ _ (ps_fld (pv 1) (pe_fld (pv 0) rfl) rfl)
 (@pss_cons _ _ _ _ _ (ps_fld (pv 1) (pe_fld (pv 0) rfl) rfl)
 (@pss_cons _ _ _ _ _ (ps_fld (pv 1) (pe_fld (pv 0) rfl) rfl)
 (@pss_cons _ _ _ _ _ (ps_fld (pv 1) (pe_callTy call_list_of (by rfl) T.z_list PyProof.Rows.boot_list (pa_cons (pe_fld (pv 0) rfl) pa_nil)) rfl)
 (@pss_one _ _ _ (@ps_ret _ _ _ _ (pv 1))))))))))),?_⟩
 obtain ⟨htr,hpi⟩:=Pc0.train
 obtain ⟨rs,hrs,prs⟩:=R.cu
 refine ⟨_,rfl,_,_,_,_,_,rfl,R.ob,T.cl_Piece,T.na_Piece_train,rfl,fun x dx2 nx ndx ne=>?_⟩
 have sx:Same H (upd (upd H dx2 (.own x)) x (.ins (cOf mg "Piece") dx2 [])):=fun b o e=>by rw [upd_ne (ne_of_none e nx),upd_ne (ne_of_none e ndx)];exact e
 refine ⟨x,dx2,t,p.train,rfl,upd_same,R.tr.mono sx,htr,fun H1 rv1 cu1 k1 ncu1 hob hcu1 hrv=>⟨rfl,?_⟩⟩
 have s1:Same H H1:=fun b o e=>k1 b o (sx b o e) (ne_of_none e nx)
 have hax:a≠x:=ne_of_none R.ob nx
 have a1:=s1 _ _ R.ob
 refine ⟨_,rfl,_,_,_,_,_,rfl,a1,T.cl_Piece,T.na_Piece_work_turns,rfl,_,rfl,_,_,_,_,rfl,hob,T.cl_Piece,T.na_Piece_work_turns,Nat.le_of_ble_eq_true rfl,?_⟩
 refine ⟨_,rfl,_,_,_,_,_,rfl,((upd_ne hax).trans a1),T.cl_Piece,T.na_Piece_place,rfl,_,rfl,_,_,_,_,rfl,upd_same,T.cl_Piece,T.na_Piece_place,Nat.le_of_ble_eq_true rfl,?_⟩
 refine ⟨_,rfl,_,_,_,_,_,rfl,((upd_ne hax).trans ((upd_ne hax).trans a1)),T.cl_Piece,T.na_Piece_closed,rfl,_,rfl,_,_,_,_,rfl,upd_same,T.cl_Piece,T.na_Piece_closed,Nat.le_of_ble_eq_true rfl,?_⟩
 refine ⟨_,rfl,_,_,_,_,_,rfl,((upd_ne hax).trans ((upd_ne hax).trans ((upd_ne hax).trans a1))),T.cl_Piece,T.na_Piece_first,rfl,_,rfl,_,_,_,_,rfl,upd_same,T.cl_Piece,T.na_Piece_first,Nat.le_of_ble_eq_true rfl,?_⟩
 refine ⟨_,rfl,_,_,_,_,_,rfl,((upd_ne hax).trans ((upd_ne hax).trans ((upd_ne hax).trans ((upd_ne hax).trans a1)))),T.cl_Piece,T.na_Piece_turn_count,rfl,_,rfl,_,_,_,_,rfl,upd_same,T.cl_Piece,T.na_Piece_turn_count,Nat.le_of_ble_eq_true rfl,?_⟩
 refine ⟨_,rfl,_,_,_,_,_,rfl,((upd_ne hax).trans ((upd_ne hax).trans ((upd_ne hax).trans ((upd_ne hax).trans ((upd_ne hax).trans a1))))),T.cl_Piece,T.na_Piece_move_count,rfl,_,rfl,_,_,_,_,rfl,upd_same,T.cl_Piece,T.na_Piece_move_count,Nat.le_of_ble_eq_true rfl,?_⟩
 have hcx:cu≠x:=ne_of_none hrs nx
 have c1:=s1 _ _ hrs
 refine ⟨_,rfl,_,_,_,_,_,rfl,((upd_ne hax).trans ((upd_ne hax).trans ((upd_ne hax).trans ((upd_ne hax).trans ((upd_ne hax).trans ((upd_ne hax).trans a1)))))),T.cl_Piece,T.na_Piece_cuts,rfl,cu,_,rfl,.inl (SqL.of ((upd_ne hcx).trans ((upd_ne hcx).trans ((upd_ne hcx).trans ((upd_ne hcx).trans ((upd_ne hcx).trans ((upd_ne hcx).trans c1))))))),fun cu2 hcu2=>?_⟩
 have cx:cu2≠x:=fun z=>by rw [z,upd_same] at hcu2;cases hcu2
 refine ⟨_,rfl,_,_,_,_,rfl,((upd_ne (Ne.symm cx)).trans upd_same),T.cl_Piece,T.na_Piece_cuts,Nat.le_of_ble_eq_true rfl,_,rfl,?_⟩
 obtain ⟨s2,R2⟩:=twin_rep (dx2:=dx2) R nx hcu2 cx (fun b o e=>by
  have n:=ne_of_none e nx
  exact (upd_ne n).trans ((upd_ne n).trans ((upd_ne n).trans ((upd_ne n).trans ((upd_ne n).trans ((upd_ne n).trans (s1 b o e))))))) prs (by
  rw [hpi]
  refine hrv.tups fun b xs e=>?_
  have n:b≠x:=fun z=>by rw [z,hob] at e;cases e
  exact (upd_ne n).trans ((upd_ne n).trans ((upd_ne n).trans ((upd_ne n).trans ((upd_ne n).trans ((upd_ne n).trans e)))))) upd_same
 refine q x _ (fun z=>z=x∨z=cu2) s2 nx (fun z hz=>?_) (fun z hz=>?_) ⟨dx2,t,rv1,w,c,fv,tc,mc,cu2,R2⟩
 ·rcases hz with rfl | rfl
  ·exact nx
  ·rw [upd_ne cx,upd_ne cx,upd_ne cx,upd_ne cx,upd_ne cx,upd_ne cx] at hcu2
   exact s1.free hcu2
 ·rcases hz with rfl | rfl
  ·exact ⟨_,upd_same⟩
  ·exact ⟨_,(upd_ne cx).trans upd_same⟩

def spCloseP (K:PySem.W.Frag) (mg:Str→Option Value):Sp:=fun vs H Q _=>∃ a p Fp ts,vs=[.ref a]∧PRep K mg Fp H a p∧Pc p ts∧∀ H',(∀ b o,H b=some o→b≠a→H' b=some o)→(∃ o,H' a=some o)→PRep K mg Fp H' a (p.after .close)→Q .non H'
theorem d_m_Piece_close_nut (T:Txt K mg):MethOk P w K mg base (cOf mg "Piece") "close_nut" ["self"] 1 (spCloseP K mg):=by
 obtain ⟨f,fd,F,hm,hb⟩:=T.hm_Piece_close_nut
 refine ⟨f,fd,F.ok1 sc_m_Piece_close_nut (fun vs H Q E h=>?_) (fun cdv A outer s H vs Q E hr h=>?_),hm,T.cl_Piece,hb⟩
 ·obtain ⟨a,p,Fp,ts,rfl,_⟩:=h
  rfl
 obtain ⟨a,p,Fp,ts,rfl,⟨dx,t,rv,w,c,fv,tc,mc,cu,R⟩,P,q⟩:=h
 refine ⟨_,(@pss_cons _ _ _ _ _ (ps_fld (pv 0) pe_bl rfl)
 (@pss_one _ _ _ (ps_if (pt_cmp (pc_isN (pe_fld (pv 0) rfl)))
 (@pss_one _ _ _ (ps_fld (pv 0) (@pe_tup _ _ _ _ _ (pa_cons (pe_fld (pv 0) rfl) (pa_cons (pe_fld (pv 0) rfl) pa_nil))) rfl))
 pss_nil))),?_⟩
 obtain ⟨rs,hrs,prs⟩:=R.cu
 have hca:cu≠a:=fun z=>by rw [z,R.ob] at hrs;cases hrs
 refine ⟨_,rfl,_,_,_,_,rfl,R.ob,T.cl_Piece,T.na_Piece_closed,Nat.le_of_ble_eq_true rfl,?_⟩
 rcases R.fi with ⟨ho,rfl⟩ | ⟨o,f1,c1,w1,x,y,ho,rfl,hf,hc,hw,Fo,he⟩
 ·refine ⟨_,rfl,_,_,_,_,_,rfl,upd_same,T.cl_Piece,T.na_Piece_first,rfl,_,rfl,iteDT rfl ?_⟩
  refine ⟨_,rfl,_,_,_,_,_,rfl,upd_same,T.cl_Piece,T.na_Piece_place,rfl,_,rfl,_,_,_,_,_,rfl,upd_same,T.cl_Piece,T.na_Piece_work_turns,rfl,(by show 2≤sizeLine;decide),fun n hn=>?_⟩
  have na:n≠a:=fun z=>by rw [z,upd_same] at hn;cases hn
  refine ⟨_,rfl,_,_,_,_,rfl,((upd_ne (Ne.symm na)).trans upd_same),T.cl_Piece,T.na_Piece_first,Nat.le_of_ble_eq_true rfl,?_⟩
  have k:∀ b o,H b=some o→b≠a→upd (upd (upd H a (.ins (cOf mg "Piece") dx (pcF t rv w c true .non tc mc cu))) n (.tup [.ref c,.ref w])) a (.ins (cOf mg "Piece") dx (pcF t rv w c true (.ref n) tc mc cu)) b=some o:=fun b o e nb=>keep2 hn b o ((upd_ne nb).trans e) nb
  have tu:Tups H (upd (upd (upd H a (.ins (cOf mg "Piece") dx (pcF t rv w c true .non tc mc cu))) n (.tup [.ref c,.ref w])) a (.ins (cOf mg "Piece") dx (pcF t rv w c true (.ref n) tc mc cu))):=fun b xs e=>k b _ e fun z=>by rw [z,R.ob] at e;cases e
  refine q _ k ⟨_,upd_same⟩ ⟨dx,t,rv,w,c,.ref n,tc,mc,cu,upd_same,R.fa,R.fc,R.tr.tups tu,R.ra.tups tu,R.wo.tups tu,R.pl.tups tu,.inr ⟨(0,1),n,c,w,p.place,p.work,?_,rfl,(upd_ne na).trans upd_same,R.pl.tups tu,R.wo.tups tu,⟨P.pl,P.w,?_,?_,P.placeBd,?_⟩,?_⟩,R.tu.tups tu,R.mo.tups tu,⟨rs,k _ _ hrs hca,pair_tups tu prs⟩⟩
  ·show some (p.off.getD (0,1))=_;rw [ho];rfl
  ·show Wh (qv p.place * ((LL * (ratio p.train).2:Int):Rat));rw [P.et];exact P.dp
  ·show Wh (qv p.work * ((LL * (ratio p.train).1:Int):Rat));rw [P.et];exact P.dw
  ·exact Rat.le_trans P.lw P.t1
  ·show qv (0,1)=qv p.place - qv p.place - qv (ratio p.train) * (qv p.work - qv p.work)
   rw [qv_zero];grind
 ·refine ⟨_,rfl,_,_,_,_,_,rfl,upd_same,T.cl_Piece,T.na_Piece_first,rfl,_,rfl,iteDF (fun z=>by cases z) ?_⟩
  have k:∀ b o,H b=some o→b≠a→upd H a (.ins (cOf mg "Piece") dx (pcF t rv w c true (.ref f1) tc mc cu)) b=some o:=fun b o e n=>(upd_ne n).trans e
  have tu:Tups H (upd H a (.ins (cOf mg "Piece") dx (pcF t rv w c true (.ref f1) tc mc cu))):=fun b xs e=>k b _ e fun z=>by rw [z,R.ob] at e;cases e
  refine q _ k ⟨_,upd_same⟩ ⟨dx,t,rv,w,c,.ref f1,tc,mc,cu,upd_same,R.fa,R.fc,R.tr.tups tu,R.ra.tups tu,R.wo.tups tu,R.pl.tups tu,.inr ⟨o,f1,c1,w1,x,y,?_,rfl,tu _ _ hf,hc.tups tu,hw.tups tu,⟨Fo.ox,Fo.oy,Fo.wx,Fo.wy,Fo.bx,Fo.bY⟩,he⟩,R.tu.tups tu,R.mo.tups tu,⟨rs,k _ _ hrs hca,pair_tups tu prs⟩⟩
  show some (p.off.getD (0,1))=_;rw [ho];rfl

theorem d_m_Lathe_close_nut (T:Txt K mg):MethOk P w K mg base (cOf mg "Lathe") "close_nut" ["self"] 9 (spDeed0 K mg .close):=by
 obtain ⟨f,fd,F,hm,hb⟩:=T.hm_Lathe_close_nut
 refine ⟨f,fd,F.ok1 sc_m_Lathe_close_nut (fun vs H Q E h=>?_) (fun cdv A outer s H vs Q E hr h=>?_),hm,T.cl_Lathe,hb⟩
 ·obtain ⟨a,l,F,rfl,_⟩:=h
  rfl
 obtain ⟨a,l,F,rfl,R0,D⟩:=h
 have R1:=R0
 obtain ⟨Fp,dx,s,pa,ra,rdx,ea,es,R⟩:=R1
 refine ⟨_,(@pss_cons _ _ _ _ _ (ps_expr (pe_callX (d_f_check_mounted T) hr (passOut out_cx) (pa_cons (pe_fld (pv 0) rfl) pa_nil)))
 (@pss_cons _ _ _ _ _ (ps_expr (pe_callX (d_f_check_nut_open T) hr (passOut out_cx) (pa_cons (pe_fld (pv 0) rfl) pa_nil)))
 (@pss_cons _ _ _ _ _ (@ps_set _ _ 1 _ _ _ _ sc_m_Lathe_close_nut.nd rfl (Or.inl rfl) (pe_methX0 (d_m_Piece_off T) hr (passOut out_cx) (pe_fld (pv 0) rfl)) (by rfl) (by first | exact .inl rfl | exact .inr rfl))
 (@pss_cons _ _ _ _ _ (ps_if (pw_and (pt_cmp (pc_notN (pv 1))) (pw_and1 (pt_cmp (pc_neI (@pe_ix _ _ _ _ _ _ _ ix_tup (pv 1) pe_int (fun _ _=>rfl)) pe_int)))).pt
 (@pss_one _ _ _ (ps_raise out_cx rfl T.x_NoMeeting T.g_NoMeeting (pa_cons pe_str pa_nil)))
 pss_nil)
 (@pss_cons _ _ _ _ _ (@ps_set _ _ 2 _ _ _ _ sc_m_Lathe_close_nut.nd rfl (Or.inl rfl) (pe_methX0 (d_m_Piece_twin T) hr (passOut out_cx) (pe_fld (pv 0) rfl)) (by rfl) (by first | exact .inl rfl | exact .inr rfl))
 (@pss_cons _ _ _ _ _ (ps_expr (pe_methX0 (d_m_Piece_close_nut T) hr (passOut out_cx) (pv 2)))
 (@pss_one _ _ _ (@ps_ret _ _ _ _ (pe_methX (d_m_Lathe_enter T) hr (passOut out_cx) (pv 0) (pa_cons pe_str (pa_cons pe_non (pa_cons (pv 2) pa_nil)))))))))))),?_⟩
 refine ⟨_,rfl,_,_,_,_,_,rfl,R.ob,T.cl_Lathe,T.na_Lathe_piece,rfl,pa,l.ps,Fp,rfl,R.pc,fun pi=>?_,fun pi=>D.no R0 (Same.refl _) (due2 rfl (by show l.ps.pitch.isSome=false;rw [pi];rfl))⟩
 have d2:Req.close.has l=true:=by show l.ps.pitch.isSome=true;exact Option.isSome_iff_ne_none.mpr pi
 refine ⟨_,rfl,_,_,_,_,_,rfl,R.ob,T.cl_Lathe,T.na_Lathe_piece,rfl,pa,l.ps,Fp,rfl,R.pc,fun cl=>?_,fun cl=>D.no R0 (Same.refl _) (due3 rfl d2 cl)⟩
 obtain ⟨pdx,t,rv,w,c,fv,tc,mc,cu,Rp⟩:=R.pc
 rcases R.re.pco with e | ⟨ts,P⟩
 ·rw [e] at pi;exact absurd rfl pi
 refine ⟨_,rfl,_,_,_,_,_,rfl,R.ob,T.cl_Lathe,T.na_Lathe_piece,rfl,pa,pdx,_,rfl,Rp.ob,rfl,pa,l.ps,Fp,rfl,R.pc,R.re.pco,fun v H1 s1 hv=>?_⟩
 have meet:∀ o,l.ps.off=some o→(Req.close.meets l=true ↔ o.2=1):=fun o ho=>by
  show ((l.ps.off.getD (0,1)).2 == 1)=true ↔ _
  rw [ho];exact beq_iff_eq
 refine (fun (key:∀ Hd:Hp,(Hd=H1∧((l.book.length<100→due l .close=none)∧(100≤l.book.length→due l .close=some "BookFull")))→(?G:Hp→Prop) Hd)=>?main) ?keyp
 case main =>
  rcases ho:l.ps.off with _ | o
  ·rw [ho] at hv
   have ev:v = .non:=hv
   refine ⟨_,rfl,_,rfl,?_⟩
   rw [ev]
   refine iteF (iteF ?_)
   exact key H1 ⟨rfl,due6 (l:=l) (q:=.close) rfl d2 cl rfl (by show ((l.ps.off.getD (0,1)).2 == 1)=true;rw [ho];rfl)⟩
  ·rw [ho] at hv
   obtain ⟨n,ev,hn0,hn⟩:=hv
   refine ⟨_,rfl,_,rfl,?_⟩
   rw [ev]
   refine iteT ?_
   refine ⟨_,rfl,_,_,_,_,rfl,rfl,SqT.of (hn),rfl,_,_,rfl,rfl,_,rfl,?_⟩
   refine iteND (fun ne=>⟨by show 1≤sizeLine;decide,D.no R0 s1 (due5 rfl d2 cl rfl (Bool.eq_false_iff.mpr fun z=>ne ((meet o ho).mp z)))⟩) (fun eq=>?_)
   exact key H1 ⟨rfl,due6 (l:=l) (q:=.close) rfl d2 cl rfl ((meet o ho).mpr eq)⟩
 case keyp =>
  rintro _ ⟨rfl,dd⟩
  refine ⟨_,rfl,_,_,_,_,_,rfl,(s1 _ _ R.ob),T.cl_Lathe,T.na_Lathe_piece,rfl,pa,pdx,_,rfl,s1 _ _ Rp.ob,rfl,pa,l.ps,Fp,rfl,R.pc.same s1,R.re.pco,fun b H2 Fq s2 nb nq aq Rb=>?_⟩
  obtain ⟨bdx,bt,brv,bw,bc,bfv,btc,bmc,bcu,Rb'⟩:=id Rb
  refine ⟨_,rfl,b,bdx,_,rfl,Rb'.ob,rfl,b,l.ps,Fq,ts,rfl,Rb,P,fun H3 k3 ex3 R3=>?_⟩
  have s3:=keep1 (s1.trans s2) (s1.free nb) k3
  exact ⟨_,rfl,a,dx,_,rfl,s3 _ _ R.ob,rfl,_,rfl,D.enter R0 s3 (fun z f=>s1.free (nq z f)) (aq1 aq k3 ex3) dd rfl R3⟩

def spNutClosed (K:PySem.W.Frag) (mg:Str→Option Value):Sp:=fun vs H Q E=>∃ (a:Addr) (p:PS) (Fp:Addr→Prop),vs=[.ref a]∧PRep K mg Fp H a p∧(p.closed=true→Q .non H)∧(p.closed=false→E (.ref (cOf mg "WrongNut")) none H)
theorem d_f_check_nut_closed (T:Txt K mg):DefOkX P w K mg base "check_nut_closed" ["piece"] 1 (spNutClosed K mg):=by
 obtain ⟨f,fd,F,hm,hb⟩:=T.h_f_check_nut_closed
 refine ⟨f,fd,F.ok1 sc_f_check_nut_closed (fun vs H Q E h=>?_) (fun cdv A outer s H vs Q E hr h=>?_),hm,F.kp,hb⟩
 ·obtain ⟨a,p,Fp,rfl,_⟩:=h
  rfl
 obtain ⟨a,p,Fp,rfl,⟨dx,t,rv,w,c,fv,tc,mc,cu,R⟩,q1,q2⟩:=h
 refine ⟨_,(@pss_one _ _ _ (ps_if (pt_not (pt_val (pe_fld (pv 0) rfl)))
 (@pss_one _ _ _ (ps_raise out_cx rfl T.x_WrongNut T.g_WrongNut (pa_cons pe_str pa_nil)))
 pss_nil)),?_⟩
 refine ⟨_,rfl,_,_,_,_,_,rfl,R.ob,T.cl_Piece,T.na_Piece_closed,rfl,_,rfl,?_⟩
 refine ite2 (fun c=>?_) (fun c=>?_)
 ·exact ⟨by show 1≤sizeLine;decide,q2 (by simpa using c)⟩
 ·exact q1 (by simpa using c)

def sp_sum_of (K:PySem.W.Frag):Sp:=fun vs H Q _=>∃ (p r:Addr) (a b c d:Int),vs=[.ref p,.ref r]∧TupK K H p [.int a,.int b]∧TupK K H r [.int c,.int d]∧Bd 2000 a∧Bd 2000 b∧Bd 2000 c∧Bd 2000 d∧b≠0∧d≠0 ∧
 ∀ n,H n=none→Q (.ref n) (upd H n (.tup [.int (ltN (a * d + c * b) (b * d)),.int (ltD (a * d + c * b) (b * d))]))
theorem d_f_sum_of (T:Txt K mg):DefOk P w K mg base "sum_of" ["a","b"] 3 (sp_sum_of K):=by
 obtain ⟨f,fd,F,hm,hb⟩:=T.h_f_sum_of
 refine ⟨f,fd,F.ok sc_f_sum_of (fun vs H Q E h=>?_) (fun cdv A outer s H vs Q E hr h=>?_),hm,F.kp,hb⟩
 ·obtain ⟨p,r,a,b,c,d,rfl,_⟩:=h
  rfl
 obtain ⟨p,r,a,b,c,d,rfl,hp,hr',ba,bb,bc,bd,b0,d0,q⟩:=h
 refine ⟨_,(@pss_one _ _ _ (@ps_ret _ _ _ _ (pe_callD (d_f_least_terms T) hr (pa_cons (pe_op op_add (pe_op op_mulX (@pe_ix _ _ _ _ _ _ _ ix_tup (pv 0) pe_int (fun _ _=>rfl)) (@pe_ix _ _ _ _ _ _ _ ix_tup (pv 1) pe_int (fun _ _=>rfl))) (pe_op op_mulX (@pe_ix _ _ _ _ _ _ _ ix_tup (pv 1) pe_int (fun _ _=>rfl)) (@pe_ix _ _ _ _ _ _ _ ix_tup (pv 0) pe_int (fun _ _=>rfl)))) (pa_cons (pe_op op_mulX (@pe_ix _ _ _ _ _ _ _ ix_tup (pv 0) pe_int (fun _ _=>rfl)) (@pe_ix _ _ _ _ _ _ _ ix_tup (pv 1) pe_int (fun _ _=>rfl))) pa_nil))))),?_⟩
 exact ⟨_,rfl,_,_,_,_,rfl,rfl,hp.sq,rfl,_,rfl,_,_,_,_,rfl,rfl,hr'.sq,rfl,_,_,rfl,rfl,.inr ⟨ba.mono (by decide),bd.mono (by decide)⟩,_,rfl,_,_,_,_,rfl,rfl,hr'.sq,rfl,_,rfl,_,_,_,_,rfl,rfl,hp.sq,rfl,_,_,rfl,rfl,.inr ⟨bc.mono (by decide),bb.mono (by decide)⟩,_,_,rfl,rfl,_,rfl,_,_,_,_,rfl,rfl,hp.sq,rfl,_,rfl,_,_,_,_,rfl,rfl,hr'.sq,rfl,_,_,rfl,rfl,.inr ⟨bb.mono (by decide),bd.mono (by decide)⟩,_,_,rfl,Int.mul_ne_zero b0 d0,(bb.mul bd).mono (by decide),q⟩

def spCounted (K:PySem.W.Frag):Sp:=fun vs H Q _=>∃ (p r:Addr) (c:Q2) (x y:Int),vs=[.ref p,.ref r]∧FrA K H p c∧FrA K H r (x,y)∧Bd 2000 c.1∧Bd 2000 c.2∧Bd 2000 x∧Bd 2000 y∧c.2≠0∧y≠0 ∧
 ∀ n H',Same H H'→H n=none→H' n=some (.tup [.int (qadd c (qabs (x,y))).1,.int (qadd c (qabs (x,y))).2])→Q (.ref n) H'
theorem d_f_counted (T:Txt K mg):DefOk P w K mg base "counted" ["count","amount"] 4 (spCounted K):=by
 obtain ⟨f,fd,F,hm,hb⟩:=T.h_f_counted
 refine ⟨f,fd,F.ok sc_f_counted (fun vs H Q E h=>?_) (fun cdv A outer s H vs Q E hr h=>?_),hm,F.kp,hb⟩
 ·obtain ⟨p,r,c,x,y,rfl,_⟩:=h
  rfl
 obtain ⟨p,r,c,x,y,rfl,hp,hR,b1,b2,b3,b4,n1,n2,q⟩:=h
 refine ⟨_,(@pss_one _ _ _ (@ps_ret _ _ _ _ (pe_callD (d_f_sum_of T) hr (pa_cons (pv 0) (pa_cons (@pe_tup _ _ _ _ _ (pa_cons (pe_callB call_abs (by rfl) T.z_abs PyProof.Rows.boot_abs (pa_cons (@pe_ix _ _ _ _ _ _ _ ix_tup (pv 1) pe_int (fun _ _=>rfl)) pa_nil)) (pa_cons (@pe_ix _ _ _ _ _ _ _ ix_tup (pv 1) pe_int (fun _ _=>rfl)) pa_nil))) pa_nil))))),?_⟩
 refine ⟨_,rfl,_,rfl,_,_,_,_,rfl,rfl,hR.sq,rfl,_,rfl,_,rfl,_,_,_,_,rfl,rfl,hR.sq,rfl,(by show 2≤sizeLine;decide),fun m hm=>?_⟩
 have s1:=same_new hm (.tup [.int (if x<0 then -x else x),.int y])
 refine ⟨p,m,_,_,_,_,rfl,hp.mono s1,.inl upd_same,b1,b2,(b3.le (by split <;> omega)),b4,n1,n2,fun n hn=>?_⟩
 exact q n _ (s1.trans (same_new hn _)) (s1.free hn) upd_same

def spCount (K:PySem.W.Frag) (mg:Str→Option Value):Sp:=fun vs H Q E=>∃ (p r:Addr) (c:Q2) (x y:Int),vs=[.ref p,.ref r]∧FrA K H p c∧FrA K H r (x,y)∧Bd 2000 c.1∧Bd 2000 c.2∧Bd 2000 x∧Bd 2000 y∧c.2≠0∧y≠0 ∧
 Bd 2000 (qadd c (qabs (x,y))).1∧Bd 2000 (qadd c (qabs (x,y))).2 ∧
 (tooMuch c (x,y)=false→∀ H',Same H H'→Q .non H')∧(tooMuch c (x,y)=true→∀ H',Same H H'→E (.ref (cOf mg "BadNumber")) none H')
theorem d_f_check_count (T:Txt K mg):DefOkX P w K mg base "check_count" ["count","amount"] 5 (spCount K mg):=by
 obtain ⟨f,fd,F,hm,hb⟩:=T.h_f_check_count
 refine ⟨f,fd,F.ok1 sc_f_check_count (fun vs H Q E h=>?_) (fun cdv A outer s H vs Q E hr h=>?_),hm,F.kp,hb⟩
 ·obtain ⟨p,r,c,x,y,rfl,_⟩:=h
  rfl
 obtain ⟨p,r,c,x,y,rfl,hp,hR,b1,b2,b3,b4,n1,n2,b5,b6,q1,q2⟩:=h
 refine ⟨_,(@pss_one _ _ _ (ps_if (pt_val (pe_callD (d_f_is_less T) hr (pa_cons (pe_glob (by rfl) T.g_MOST_COUNTED (v:=.ref (cOf mg "MOST_COUNTED")) rfl) (pa_cons (pe_callD (d_f_counted T) hr (pa_cons (pv 0) (pa_cons (pv 1) pa_nil))) pa_nil))))
 (@pss_one _ _ _ (ps_raise out_cx rfl T.x_BadNumber T.g_BadNumber (pa_cons pe_str pa_nil)))
 pss_nil)),?_⟩
 refine ⟨_,rfl,_,rfl,p,r,c,x,y,rfl,hp,hR,b1,b2,b3,b4,n1,n2,fun n H' s n0 hn=>?_⟩
 have e:decide ((100000:Int) * (qadd c (qabs (x,y))).2<(qadd c (qabs (x,y))).1 * 1)=tooMuch c (x,y):=by unfold tooMuch;rw [Int.mul_one]
 refine ⟨_,n,100000,1,(qadd c (qabs (x,y))).1,(qadd c (qabs (x,y))).2,rfl,.inr T.t_MOST_COUNTED,.inl hn,bd1e5.mono (by decide),(bd20 (by decide) (by decide)).mono (by decide),b5,b6,_,rfl,?_⟩
 rw [e]
 refine ite2 (fun c=>?_) (fun c=>?_)
 ·exact ⟨by show 1≤sizeLine;decide,q2 c _ s⟩
 ·exact q1 (by simpa using c) _ s

def spTurnP (K:PySem.W.Frag) (mg:Str→Option Value):Sp:=fun vs H Q _=>∃ a p Fp ts t x y,vs=[.ref a,.ref t]∧PRep K mg Fp H a p∧Pc p ts∧FrA K H t (x,y)∧Bd 2000 x∧Bd 2000 y∧1≤y∧(p.closed=true→Bd 200 x∧Bd 200 y)∧∀ H',(∀ b o,H b=some o→b≠a→H' b=some o)→(∃ o,H' a=some o)→PRep K mg Fp H' a (p.turn (red x y))→Q .non H'
theorem d_m_Piece_turn (T:Txt K mg):MethOk P w K mg base (cOf mg "Piece") "turn" ["self","turns"] 5 (spTurnP K mg):=by
 obtain ⟨f,fd,F,hm,hb⟩:=T.hm_Piece_turn
 refine ⟨f,fd,F.ok1 sc_m_Piece_turn (fun vs H Q E h=>?_) (fun cdv A outer s H vs Q E hr h=>?_),hm,T.cl_Piece,hb⟩
 ·obtain ⟨a,p,Fp,ts,t,x,y,rfl,_⟩:=h
  rfl
 obtain ⟨a,p,Fp,ts,tt,x,y,rfl,⟨dx,t,rv,w,c,fv,tc,mc,cu,R⟩,P,hT,bx,bY,y1,bcl,q⟩:=h
 refine ⟨_,(@pss_cons _ _ _ _ _ (ps_fld (pv 0) (pe_callD (d_f_sum_of T) hr (pa_cons (pe_fld (pv 0) rfl) (pa_cons (pv 1) pa_nil))) rfl)
 (@pss_cons _ _ _ _ _ (ps_fld (pv 0) (pe_callD (d_f_counted T) hr (pa_cons (pe_fld (pv 0) rfl) (pa_cons (pv 1) pa_nil))) rfl)
 (@pss_one _ _ _ (ps_if (pt_val (pe_fld (pv 0) rfl))
 (@pss_one _ _ _ (ps_fld (pv 0) (pe_callD (d_f_sum_of T) hr (pa_cons (pe_fld (pv 0) rfl) (pa_cons (pe_callD (d_f_product T) hr (pa_cons (pe_fld (pv 0) rfl) (pa_cons (pv 1) pa_nil))) pa_nil))) rfl))
 pss_nil)))),?_⟩
 obtain ⟨rs,hrs,prs⟩:=R.cu
 have hca:cu≠a:=fun z=>by rw [z,R.ob] at hrs;cases hrs
 have wN:=P.workN
 have tN:=P.turnedN
 have pN:=P.placeN
 have y0:y≠0:=by omega
 have hra:=R.ra
 rw [P.ep] at hra
 obtain ⟨rr,rfl,hra⟩:=hra
 have L:=P.tr.pl
 refine ⟨_,rfl,_,_,_,_,_,rfl,R.ob,T.cl_Piece,T.na_Piece_work_turns,rfl,_,rfl,w,tt,p.work.1,p.work.2,x,y,rfl,R.wo,hT,wN.1.mono (by decide),wN.2.mono (by decide),bx,bY,P.w.ne,y0,fun n1 hn1=>?_⟩
 have s1:=same_new hn1 (.tup [.int (qadd p.work (x,y)).1,.int (qadd p.work (x,y)).2])
 have na:a≠n1:=ne_of_none R.ob hn1
 refine ⟨_,rfl,_,_,_,_,rfl,((upd_ne na).trans R.ob),T.cl_Piece,T.na_Piece_work_turns,Nat.le_of_ble_eq_true rfl,?_⟩
 have k2:=fun b o (e:H b=some o) (n:b≠a)=>(upd_ne (o:=.ins (cOf mg "Piece") dx (pcF t (.ref rr) n1 c p.closed fv tc mc cu)) n).trans (s1 b o e)
 have t2:Tups H _:=fun b xs e=>k2 b _ e fun z=>by rw [z,R.ob] at e;cases e
 refine ⟨_,rfl,_,_,_,_,_,rfl,upd_same,T.cl_Piece,T.na_Piece_turn_count,rfl,_,rfl,tc,tt,p.turned,x,y,rfl,R.tu.tups t2,hT.tups t2,tN.1.mono (by decide),tN.2.mono (by decide),bx,bY,P.t.ne,y0,fun n2 H3 s3 nn2 hn2=>?_⟩
 refine ⟨_,rfl,_,_,_,_,rfl,(s3 _ _ upd_same),T.cl_Piece,T.na_Piece_turn_count,Nat.le_of_ble_eq_true rfl,?_⟩
 have a3:=s3 _ _ (upd_same (a:=a) (o:=.ins (cOf mg "Piece") dx (pcF t (.ref rr) n1 c p.closed fv tc mc cu)))
 have k3:∀ b o,H b=some o→b≠a→upd H3 a (.ins (cOf mg "Piece") dx (pcF t (.ref rr) n1 c p.closed fv n2 mc cu)) b=some o:=fun b o e n=>(upd_ne n).trans (s3 _ _ (k2 b o e n))
 have t3:Tups H (upd H3 a (.ins (cOf mg "Piece") dx (pcF t (.ref rr) n1 c p.closed fv n2 mc cu))):=fun b xs e=>k3 b _ e fun z=>by rw [z,R.ob] at e;cases e
 have w3:upd H3 a (.ins (cOf mg "Piece") dx (pcF t (.ref rr) n1 c p.closed fv n2 mc cu)) n1=some (.tup [.int (qadd p.work (x,y)).1,.int (qadd p.work (x,y)).2]):=(upd_ne (Ne.symm na)).trans (s3 _ _ ((upd_ne (Ne.symm na)).trans upd_same))
 have m3:upd H3 a (.ins (cOf mg "Piece") dx (pcF t (.ref rr) n1 c p.closed fv n2 mc cu)) n2=_:=(upd_ne (fun z=>by rw [z,a3] at hn2;cases hn2)).trans hn2
 have ha:=red_ok (t:=x) y0
 have ro:=P.tr.rok
 have rr':=P.rr
 refine ⟨_,rfl,_,_,_,_,_,rfl,upd_same,T.cl_Piece,T.na_Piece_closed,rfl,_,rfl,?_⟩
 refine ite2 (fun cl=>?_) (fun cl=>?_)
 ·obtain ⟨bx2,bY2⟩:=bcl cl
  have bm1:Bd 2000 (qmul (ratio ts) (x,y)).1:=(((L.bp.mul bx2).mono (show _≤2000 by decide)).le (lt_is (t:=(ratio ts).1 * x) (Int.mul_ne_zero ro.ne y0)).nx)
  have bm2:Bd 2000 (qmul (ratio ts) (x,y)).2:=(((L.bq.mul bY2).mono (show _≤2000 by decide)).le (lt_is (t:=(ratio ts).1 * x) (Int.mul_ne_zero ro.ne y0)).ny)
  refine ⟨_,rfl,_,_,_,_,_,rfl,upd_same,T.cl_Piece,T.na_Piece_place,rfl,_,rfl,_,_,_,_,_,rfl,upd_same,T.cl_Piece,T.na_Piece_ratio,rfl,_,rfl,rr,tt,(ratio ts).1,(ratio ts).2,x,y,rfl,.inl (t3 _ _ hra),hT.tups t3,L.bp.mono (by decide),L.bq.mono (by decide),bx2.mono (by decide),bY2.mono (by decide),ro.ne,y0,fun n4 hn4=>?_⟩
  have s4:=same_new hn4 (.tup [.int (qmul (ratio ts) (x,y)).1,.int (qmul (ratio ts) (x,y)).2])
  refine ⟨c,n4,p.place.1,p.place.2,(qmul (ratio ts) (x,y)).1,(qmul (ratio ts) (x,y)).2,rfl,(R.pl.tups t3).mono s4,.inl upd_same,pN.1.mono (by decide),pN.2.mono (by decide),bm1,bm2,P.pl.ne,(qmul_ok (b:=(x,y)) ro.ne y0).ne,fun n5 hn5=>?_⟩
  have s5:=s4.trans (same_new hn5 (.tup [.int (qadd p.place (qmul (ratio ts) (x,y))).1,.int (qadd p.place (qmul (ratio ts) (x,y))).2]))
  refine ⟨_,rfl,_,_,_,_,rfl,(s5 _ _ upd_same),T.cl_Piece,T.na_Piece_place,Nat.le_of_ble_eq_true rfl,?_⟩
  have n1a:=Ne.symm na
  have n2a:n2≠a:=fun z=>by rw [z,a3] at hn2;cases hn2
  have n5a:n5≠a:=Ne.symm (ne_of_none (s4 _ _ upd_same) hn5)
  refine q _ (fun b o e n=>?_) ⟨_,upd_same⟩ (turn_rep R P y1 (fun b o e n=>?_) upd_same ((upd_ne n1a).trans (s5 _ _ w3)) ((upd_ne n2a).trans (s5 _ _ m3)) (fun _=>(upd_ne n5a).trans upd_same) (fun z=>by rw [cl] at z;cases z))
  ·exact (upd_ne n).trans (s5 _ _ (k3 b o e n))
  ·exact (upd_ne n).trans (s5 _ _ (k3 b o e n))
 ·exact q _ k3 ⟨_,upd_same⟩ (turn_rep R P y1 k3 upd_same w3 m3 (fun z=>absurd z cl) (fun _=>rfl))

def spGroove:Sp:=fun vs H Q _=>∃ (r:Addr) (t b c:Int),vs=[.ref r,.int c]∧H r=some (.tup [.int t,.int b])∧Rat2 t b∧Bd 400 c ∧
 ∀ (H':Hp),Same H H'→Q (.int (c * ltD t b % ltN t b)) H'
theorem d_f_groove_of (T:Txt K mg):DefOk P w K mg base "groove_of" ["ratio","closing"] 3 spGroove:=by
 obtain ⟨f,fd,F,hm,hb⟩:=T.h_f_groove_of
 refine ⟨f,fd,F.ok sc_f_groove_of (fun vs H Q E h=>?_) (fun cdv A outer s H vs Q E hr h=>?_),hm,F.kp,hb⟩
 ·obtain ⟨r,t,b,c,rfl,_⟩:=h
  rfl
 obtain ⟨r,t,b,c,rfl,hR,R,bc,q⟩:=h
 refine ⟨_,(@pss_cons _ _ _ _ _ (@ps_set _ _ 2 _ _ _ _ sc_f_groove_of.nd rfl (Or.inl rfl) (pe_callD (d_f_least_terms T) hr (pa_cons (@pe_ix _ _ _ _ _ _ _ ix_tup (pv 0) pe_int (fun _ _=>rfl)) (pa_cons (@pe_ix _ _ _ _ _ _ _ ix_tup (pv 0) pe_int (fun _ _=>rfl)) pa_nil))) (by rfl) (by first | exact .inl rfl | exact .inr rfl))
 (@pss_one _ _ _ (@ps_ret _ _ _ _ (pe_op op_mod (pe_op op_mulX (pv 1) (@pe_ix _ _ _ _ _ _ _ ix_tup (pv 2) pe_int (fun _ _=>rfl))) (@pe_ix _ _ _ _ _ _ _ ix_tup (pv 2) pe_int (fun _ _=>rfl)))))),?_⟩
 have L:=R.pl
 have p1:=L.p1
 have b1:=R.b1
 refine ⟨_,rfl,_,_,_,_,rfl,rfl,SqT.of (hR),rfl,_,rfl,_,_,_,_,rfl,rfl,SqT.of (hR),rfl,_,_,rfl,by omega,R.bb.mono (by decide),fun p hp=>?_⟩
 refine ⟨_,rfl,_,rfl,_,_,_,_,rfl,rfl,SqT.of (upd_same),rfl,_,_,rfl,rfl,.inr ⟨bc.mono (by decide),L.bq.mono (by decide)⟩,_,rfl,_,_,_,_,rfl,rfl,SqT.of (upd_same),rfl,_,_,rfl,rfl,by omega,?_⟩
 exact q _ (same_new hp _)

def spCutP (K:PySem.W.Frag) (mg:Str→Option Value):Sp:=fun vs H Q _=>∃ a p Fp ts t x y,vs=[.ref a,.ref t]∧PRep K mg Fp H a p∧Pc p ts∧FrA K H t (x,y)∧Bd 200 x∧Bd 200 y∧1≤y∧p.closed=true∧p.cuts.length<1000∧∀ H',(∀ b o,H b=some o→¬ Fp b→H' b=some o)→(∀ b,Fp b→∀ o,H b=some o→∃ o',H' b=some o')→PRep K mg Fp H' a (p.after (.cut (red x y)))→Q .non H'
theorem d_m_Piece_cut (T:Txt K mg):MethOk P w K mg base (cOf mg "Piece") "cut" ["self","turns"] 6 (spCutP K mg):=by
 obtain ⟨f,fd,F,hm,hb⟩:=T.hm_Piece_cut
 refine ⟨f,fd,F.ok1 sc_m_Piece_cut (fun vs H Q E h=>?_) (fun cdv A outer s H vs Q E hr h=>?_),hm,T.cl_Piece,hb⟩
 ·obtain ⟨a,p,Fp,ts,t,x,y,rfl,_⟩:=h
  rfl
 obtain ⟨a,p,Fp,ts,tt,x,y,rfl,R0,P,hT,bx,bY,y1,cl,c1000,q⟩:=h
 obtain ⟨dx,t,rv,w,c,fv,tc,mc,cu,R⟩:=id R0
 refine ⟨_,(@pss_cons _ _ _ _ _ (@ps_set _ _ 2 _ _ _ _ sc_m_Piece_cut.nd rfl (Or.inl rfl) (@pe_ix _ _ _ _ _ _ _ ix_tup (pe_methX0 (d_m_Piece_off T) hr (passOut out_cx) (pv 0)) pe_int (fun _ _=>rfl)) (by rfl) (by first | exact .inl rfl | exact .inr rfl))
 (@pss_cons _ _ _ _ _ (ps_expr (pe_bm PySem.F.plainAttrs_list PySem.F.slot_list_append PySem.F.type_list_append mt_append (pe_fld (pv 0) rfl) (pa_cons (@pe_tup _ _ _ _ _ (pa_cons (pv 2) (pa_cons (pe_callD (d_f_groove_of T) hr (pa_cons (pe_fld (pv 0) rfl) (pa_cons (pv 2) pa_nil))) pa_nil))) pa_nil)))
 (@pss_one _ _ _ (ps_expr (pe_methX (d_m_Piece_turn T) hr (passOut out_cx) (pv 0) (pa_cons (pv 1) pa_nil)))))),?_⟩
 obtain ⟨kk,hk⟩:=P.cl cl
 have ec:p.closing=kk:=by unfold PS.closing;rw [hk];rfl
 refine ⟨_,rfl,a,dx,_,rfl,R.ob,rfl,a,p,Fp,rfl,R0,.inr ⟨ts,P⟩,fun v H1 s1 hv=>?_⟩
 rw [hk] at hv
 obtain ⟨n,rfl,hn0,hn⟩:=hv
 obtain ⟨rs,hrs,prs⟩:=R.cu
 have hca:cu≠a:=fun z=>by rw [z,R.ob] at hrs;cases hrs
 have hra:=R.ra
 rw [P.ep] at hra
 obtain ⟨rr,rfl,hra⟩:=hra
 have Rt:Rat2 (ratio ts).1 (ratio ts).2:=⟨P.tr.pl.p1,P.tr.pl.p2,P.tr.pl.q1,P.tr.pl.q2⟩
 have eN:ltN (ratio ts).1 (ratio ts).2=(ratio ts).1:=congrArg Prod.fst (red_self P.tr.rok)
 have eD:ltD (ratio ts).1 (ratio ts).2=(ratio ts).2:=congrArg Prod.snd (red_self P.tr.rok)
 have bk:=P.closeBd hk
 refine ⟨_,_,_,_,rfl,rfl,SqT.of hn,rfl,?_⟩
 refine ⟨_,rfl,_,_,_,_,_,rfl,(s1 _ _ R.ob),T.cl_Piece,T.na_Piece_cuts,rfl,.inl ⟨rfl,_,SqL.of (s1 _ _ hrs)⟩,_,rfl,_,rfl,_,_,_,_,_,rfl,(s1 _ _ R.ob),T.cl_Piece,T.na_Piece_ratio,rfl,_,rfl,rr,(ratio ts).1,(ratio ts).2,kk,rfl,s1 _ _ hra,Rt,bk.mono (by decide),fun H2 s2=>?_⟩
 rw [eN,eD]
 have s12:=s1.trans s2
 refine ⟨(by show 2≤sizeLine;decide),fun m hm=>?_⟩
 have s3:=s12.trans (same_new hm (.tup [.int kk,.int (kk * (ratio ts).2 % (ratio ts).1)]))
 have mcu:m≠cu:=Ne.symm (ne_of_none (s12 _ _ hrs) hm)
 refine ⟨cu,_,_,rfl,rfl,s3 _ _ hrs,(by have h:=Paired.length prs;rw [List.length_map] at h;rw [List.length_map];exact small1000 (by omega)),?_⟩
 have R4:=cut_rep (m:=m) (e:=(kk,kk * (ratio ts).2 % (ratio ts).1)) R hrs prs s3 upd_same
 have P4:=P.more bk
 obtain ⟨dx4,t4,rv4,w4,c4,fv4,tc4,mc4,cu4,R4'⟩:=id R4
 have tu4:Tups H _:=fun b xs (e:H b=some (.tup xs))=>(upd_ne (o:=.lst (rs.map V.ref++[.ref m])) (fun z=>by rw [z,hrs] at e;cases e)).trans (s3 b _ e)
 refine ⟨_,rfl,a,dx4,_,rfl,R4'.ob,rfl,_,rfl,a,_,Fp,ts,tt,x,y,rfl,R4,P4,hT.tups tu4,bx.mono (by decide),bY.mono (by decide),y1,fun _=>⟨bx,bY⟩,fun H5 k5 ex5 R5=>?_⟩
 refine q H5 (fun b o e n=>k5 b o ((upd_ne (fun z:b=cu=>n (z ▸ R.fc))).trans (s3 b o e)) (fun z=>n (z ▸ R.fa))) (fun b f o e=>?_) ?_
 ·by_cases za:b=a
  ·rw [za];exact ex5
  ·by_cases zc:b=cu
   ·exact ⟨_,k5 b _ (by rw [zc];exact upd_same) za⟩
   ·exact ⟨o,k5 b o ((upd_ne zc).trans (s3 b o e)) za⟩
 ·have e:p.after (.cut (red x y))=PS.turn { p with cuts:=p.cuts++[(kk,kk * (ratio ts).2 % (ratio ts).1)] } (red x y):=by
   show { p.turn (red x y) with cuts:=p.cuts++[(p.closing,p.groove)] } = _
   unfold PS.groove
   rw [ec,P.rr]
   rfl
  rw [e];exact R5

theorem d_m_Lathe_cut (T:Txt K mg):MethOk P w K mg base (cOf mg "Lathe") "cut" ["self","turns"] 9 (spAmount K mg .cut):=by
 obtain ⟨f,fd,F,hm,hb⟩:=T.hm_Lathe_cut
 refine ⟨f,fd,F.ok1 sc_m_Lathe_cut (fun vs H Q E h=>?_) (fun cdv A outer s H vs Q E hr h=>?_),hm,T.cl_Lathe,hb⟩
 ·obtain ⟨a,t,x,y,l,F,rfl,_⟩:=h
  rfl
 obtain ⟨a,tt,x,y,l,F,rfl,R0,hT,bx,bY,D⟩:=h
 have R1:=R0
 obtain ⟨Fp,dx,s,pa,ra,rdx,ea,es,R⟩:=R1
 refine ⟨_,(@pss_cons _ _ _ _ _ (ps_expr (pe_callX (d_f_check_mounted T) hr (passOut out_cx) (pa_cons (pe_fld (pv 0) rfl) pa_nil)))
 (@pss_cons _ _ _ _ _ (ps_expr (pe_callX (d_f_check_nut_closed T) hr (passOut out_cx) (pa_cons (pe_fld (pv 0) rfl) pa_nil)))
 (@pss_cons _ _ _ _ _ (ps_expr (pe_callX (d_f_check_bottom T) hr (passOut out_cx) (pa_cons (pv 1) pa_nil)))
 (@pss_cons _ _ _ _ _ (ps_if (pt_cmp (pc_le (@pe_ix _ _ _ _ _ _ _ ix_tup (pv 1) pe_int (fun _ _=>rfl)) pe_int))
 (@pss_one _ _ _ (ps_raise out_cx rfl T.x_BadNumber T.g_BadNumber (pa_cons pe_str pa_nil)))
 pss_nil)
 (@pss_cons _ _ _ _ _ (ps_expr (pe_callX (d_f_check_count T) hr (passOut out_cx) (pa_cons (pe_fld (pe_fld (pv 0) rfl) rfl) (pa_cons (pv 1) pa_nil))))
 (@pss_cons _ _ _ _ _ (@ps_set _ _ 2 _ _ _ _ sc_m_Lathe_cut.nd rfl (Or.inl rfl) (pe_methX0 (d_m_Piece_twin T) hr (passOut out_cx) (pe_fld (pv 0) rfl)) (by rfl) (by first | exact .inl rfl | exact .inr rfl))
 (@pss_cons _ _ _ _ _ (ps_expr (pe_methX (d_m_Piece_cut T) hr (passOut out_cx) (pv 2) (pa_cons (pv 1) pa_nil)))
 (@pss_one _ _ _ (@ps_ret _ _ _ _ (pe_methX (d_m_Lathe_enter T) hr (passOut out_cx) (pv 0) (pa_cons pe_str (pa_cons (pe_callD (d_f_least_terms T) hr (pa_cons (@pe_ix _ _ _ _ _ _ _ ix_tup (pv 1) pe_int (fun _ _=>rfl)) (pa_cons (@pe_ix _ _ _ _ _ _ _ ix_tup (pv 1) pe_int (fun _ _=>rfl)) pa_nil))) (pa_cons (pv 2) pa_nil))))))))))))),?_⟩
 refine ⟨_,rfl,_,_,_,_,_,rfl,R.ob,T.cl_Lathe,T.na_Lathe_piece,rfl,pa,l.ps,Fp,rfl,R.pc,fun pi=>?_,fun pi=>D.no R0 (Same.refl _) (due2 rfl (by show l.ps.pitch.isSome=false;rw [pi];rfl))⟩
 have d2:(Req.cut x y).has l=true:=by show l.ps.pitch.isSome=true;exact Option.isSome_iff_ne_none.mpr pi
 refine ⟨_,rfl,_,_,_,_,_,rfl,R.ob,T.cl_Lathe,T.na_Lathe_piece,rfl,pa,l.ps,Fp,rfl,R.pc,fun cl=>?_,fun cl=>D.no R0 (Same.refl _) (due3 rfl d2 (by show (!l.ps.closed)=true;rw [cl];rfl))⟩
 obtain ⟨pdx,t,rv,w,c,fv,tc,mc,cu,Rp⟩:=R.pc
 rcases R.re.pco with e | ⟨ts,P⟩
 ·rw [e] at pi;exact absurd rfl pi
 refine ⟨_,rfl,tt,x,y,rfl,hT,fun ok=>?_,fun bad=>D.no R0 (Same.refl _) (due4 rfl d2 (by show (!l.ps.closed)=false;rw [cl];rfl) (cut_bottom bad))⟩
 have y0:y≠0:=by omega
 refine ⟨_,rfl,_,_,_,_,rfl,rfl,hT.sq,rfl,_,_,rfl,rfl,_,rfl,iteD (fun np=>⟨by show 1≤sizeLine;decide,D.no R0 (Same.refl _) (due4 rfl d2 (by show (!l.ps.closed)=false;rw [cl];rfl) (cut_low np))⟩) (fun xp=>?_)⟩
 have tN:=P.turnedN
 obtain ⟨cb1,cb2⟩:=count_bd (c:=l.ps.turned) tN.1 tN.2 bx bY P.t.ne y0
 refine ⟨_,rfl,_,_,_,_,_,rfl,R.ob,T.cl_Lathe,T.na_Lathe_piece,rfl,_,_,_,_,_,rfl,Rp.ob,T.cl_Piece,T.na_Piece_turn_count,rfl,_,rfl,tc,tt,l.ps.turned,x,y,rfl,Rp.tu,hT,tN.1.mono (by decide),tN.2.mono (by decide),bx.mono (by decide),bY.mono (by decide),P.t.ne,y0,cb1,cb2,fun few H1 s1=>?_,fun many H1 s1=>D.no R0 s1 (due4 rfl d2 (by show (!l.ps.closed)=false;rw [cl];rfl) (cut_many many))⟩
 have dd:=due6 (l:=l) (q:=.cut x y) rfl d2 (by show (!l.ps.closed)=false;rw [cl];rfl) (cut_none ok xp few) rfl
 refine ⟨_,rfl,_,_,_,_,_,rfl,(s1 _ _ R.ob),T.cl_Lathe,T.na_Lathe_piece,rfl,pa,pdx,_,rfl,s1 _ _ Rp.ob,rfl,pa,l.ps,Fp,rfl,R.pc.same s1,R.re.pco,fun b H2 Fq s2 nb nq aq Rb=>?_⟩
 obtain ⟨bdx,bt,brv,bw,bc,bfv,btc,bmc,bcu,Rb'⟩:=id Rb
 refine ⟨_,rfl,b,bdx,_,rfl,Rb'.ob,rfl,_,rfl,b,l.ps,Fq,ts,tt,x,y,rfl,Rb,P,hT.mono (s1.trans s2),bx,bY,ok.1,cl,(by have h1:=cuts_le l;have h2:=R.re.len;omega),fun H3 k3 ex3 R3=>?_⟩
 have s3:Same H H3:=fun z o e=>k3 z o ((s1.trans s2) z o e) fun f=>by have:=s1.free (nq z f);rw [e] at this;cases this
 have hT3:=(hT.mono s3).sq
 refine ⟨_,rfl,a,dx,_,rfl,s3 _ _ R.ob,rfl,_,rfl,_,_,_,_,rfl,rfl,hT3,rfl,_,rfl,_,_,_,_,rfl,rfl,hT3,rfl,x,y,rfl,y0,bY.mono (by decide),fun n4 hn4=>?_⟩
 have s4:=same_new hn4 (.tup [.int (red x y).1,.int (red x y).2])
 exact ⟨_,rfl,D.enter R0 (s3.trans s4) (fun z f=>s1.free (nq z f)) (fun z f=>by obtain ⟨o,h⟩:=(fun z f=>by obtain ⟨o,h⟩:=aq z f;exact ex3 z f o h:∀ z,Fq z→∃ o,H3 z=some o) z f;exact ⟨o,s4 _ _ h⟩) dd ⟨n4,rfl,.inl upd_same⟩ (R3.same s4)⟩

def spTeeth (K:PySem.W.Frag):Sp:=fun vs H Q _=>∃ (a:Addr) (ns:List Int),vs=[.ref a]∧SqL K H a (ns.map V.int)∧Q (.int (2 + drawF ns 3 % 63)) H
theorem d_l_teeth (T:Txt K mg):DefOk P w K mg base "_law_teeth" ["_law_script"] 3 (spTeeth K):=by
 obtain ⟨f,fd,F,hm,hb⟩:=T.h_l_teeth
 refine ⟨f,fd,F.ok sc_l_teeth (fun vs H Q E h=>?_) (fun cdv A outer s H vs Q E hr h=>?_),hm,F.kp,hb⟩
 ·obtain ⟨a,ns,rfl,_⟩:=h
  rfl
 obtain ⟨a,ns,rfl,hS,q⟩:=h
 refine ⟨_,(@pss_one _ _ _ (@ps_ret _ _ _ _ (pe_op op_add pe_int (pe_op op_mod (pe_callD (d_l_draw T) hr (pa_cons (pv 0) (pa_cons pe_int pa_nil))) pe_int)))),?_⟩
 exact ⟨_,rfl,a,ns,3,rfl,hS,by decide,by decide,_,_,rfl,rfl,(by show (0:Int)<63;decide),_,_,rfl,rfl,q⟩

def spWhole:Sp:=fun vs H Q _=>∃ (i:Int),vs=[.int i]∧Q (.bl true) H
theorem d_l_whole (T:Txt K mg):DefOk P w K mg base "_law_whole" ["_law_found"] 1 spWhole:=by
 obtain ⟨f,fd,F,hm,hb⟩:=T.h_l_whole
 refine ⟨f,fd,F.ok sc_l_whole (fun vs H Q E h=>?_) (fun cdv A outer s H vs Q E hr h=>?_),hm,F.kp,hb⟩
 ·obtain ⟨i,rfl,_⟩:=h
  rfl
 obtain ⟨i,rfl,q⟩:=h
 refine ⟨_,(@pss_one _ _ _ (@ps_ret _ _ _ _ (pe_and (pe_callB call_isinst (by rfl) T.z_isinstance PyProof.Rows.boot_isinstance (pa_cons (pv 0) (pa_cons (pe_bltn (by rfl) T.z_int PyProof.Rows.boot_int (v:=.ty "int") rfl) pa_nil))) (pe_one (pe_not (pe_callB call_isinst (by rfl) T.z_isinstance PyProof.Rows.boot_isinstance (pa_cons (pv 0) (pa_cons (pe_bltn (by rfl) T.z_bool PyProof.Rows.boot_bool (v:=.ty "bool") rfl) pa_nil)))))))),?_⟩
 refine ⟨_,rfl,_,"int",_,_,rfl,.int i,kit_same _,_,rfl,?_⟩
 refine iteT ?_
 exact ⟨_,rfl,_,"bool",_,false,rfl,.int i,(by with_unfolding_all rfl),_,rfl,q⟩

def fD (a b c d:Int):List (List Int):=if d≠a∧d≠b∧d≠c then [[a,b,c,d]] else []
def fC (ws:List Int) (a b c:Int):List (List Int):=if c≠a∧c≠b then ws.flatMap (fD a b c) else []
def fB (ws:List Int) (a b:Int):List (List Int):=if a≠b then [a,b]::ws.flatMap (fC ws a b) else []
def chM (ws:List Int):List (List Int):=ws.flatMap fun a=>ws.flatMap (fB ws a)
theorem mem_chM {ws t:List Int}:t∈chM ws ↔ t∈allT ws:=by
 unfold chM allT
 rw [List.mem_append,mem_pairsM,mem_foursM]
 simp only [List.mem_flatMap]
 constructor
 ·rintro ⟨a,ha,b,hb,h⟩
  unfold fB at h
  split at h
  ·rename_i ab
   rcases List.mem_cons.mp h with h | h
   ·exact .inl ⟨a,b,ha,hb,ab,h⟩
   ·obtain ⟨c,hc,h⟩:=List.mem_flatMap.mp h
    unfold fC at h
    split at h
    ·rename_i cc
     obtain ⟨d,hd,h⟩:=List.mem_flatMap.mp h
     unfold fD at h
     split at h
     ·rename_i dd
      exact .inr ⟨a,b,c,d,⟨ha,hb,hc,hd⟩,ab,fun e=>dd.2.2 e.symm,fun e=>cc.1 e.symm,fun e=>dd.1 e.symm,fun e=>cc.2 e.symm,fun e=>dd.2.1 e.symm,List.mem_singleton.mp h⟩
     ·cases h
    ·cases h
  ·cases h
 ·rintro (⟨a,b,ha,hb,ab,rfl⟩ | ⟨a,b,c,d,⟨ha,hb,hc,hd⟩,n1,n2,n3,n4,n5,n6,rfl⟩)
  ·exact ⟨a,ha,b,hb,by unfold fB;rw [if_pos ab];exact List.mem_cons_self⟩
  ·refine ⟨a,ha,b,hb,?_⟩
   unfold fB
   rw [if_pos n1]
   refine List.mem_cons_of_mem _ (List.mem_flatMap.mpr ⟨c,hc,?_⟩)
   unfold fC
   rw [if_pos ⟨fun e=>n3 e.symm,fun e=>n5 e.symm⟩]
   refine List.mem_flatMap.mpr ⟨d,hd,?_⟩
   unfold fD
   rw [if_pos ⟨fun e=>n4 e.symm,fun e=>n6 e.symm,fun e=>n2 e.symm⟩]
   exact List.mem_singleton.mpr rfl
def RowC (H:Hp) (r:Addr) (t:List Int):Prop:=∃ p,H r=some (.tup [.int (ratT t),.int (ratB t),.ref p])∧H p=some (.tup (t.map V.int))
theorem RowC.same {H H':Hp} {r:Addr} {t:List Int} (h:RowC H r t) (s:Same H H'):RowC H' r t:=by
 obtain ⟨p,h1,h2⟩:=h
 exact ⟨p,s _ _ h1,s _ _ h2⟩
def RL (H:Hp) (D:Addr) (tss:List (List Int)):Prop:=∃ rs:List Addr,H D=some (.lst (rs.map V.ref))∧Paired (RowC H) rs tss
def I0 (H0:Hp) (D:Addr) (G:Hp) (acc:List (List Int)) (m:Nat):Prop:=Same H0 G∧RL G D acc∧acc.length≤m
theorem rows_imp {α β:Type} {R R':α→β→Prop} (f:∀ a b,R a b→R' a b):∀ {rs:List α} {ts:List β},Paired R rs ts→Paired R' rs ts
 | _,_,.nil=>.nil
 | _,_,.cons h t=>.cons (f _ _ h) (rows_imp f t)
theorem I0.push {H0 G:Hp} {D p r:Addr} {acc:List (List Int)} {m:Nat} {t:List Int} {rs:List Addr} {x y:V} (h:I0 H0 D G acc m) (hD:H0 D=none) (e:G D=some (.lst (rs.map V.ref))) (P:Paired (RowC G) rs acc)
  (hp:G p=none) (hr:(upd G p (.tup (t.map V.int))) r=none) (ex:x = .int (ratT t)) (ey:y = .int (ratB t)) :
  I0 H0 D (upd (upd (upd G p (.tup (t.map V.int))) r (.tup [x,y,.ref p])) D (.lst (rs.map V.ref++[.ref r]))) (acc++[t]) (m + 1):=by
 subst ex ey
 have s1:=same_new hp (.tup (t.map V.int))
 have s2:=s1.trans (same_new hr (.tup [.int (ratT t),.int (ratB t),.ref p]))
 have rD:r≠D:=fun z=>by rw [z,s1 _ _ e] at hr;cases hr
 have pD:p≠D:=fun z=>by rw [z,e] at hp;cases hp
 have pr:p≠r:=fun z=>by rw [← z,upd_same] at hr;cases hr
 refine ⟨fun b o hb=>?_,⟨rs++[r],by rw [upd_same,List.map_append];rfl,?_⟩,by rw [List.length_append];exact Nat.add_le_add_right h.2.2 1⟩
 ·rw [upd_ne (fun z=>by rw [z,hD] at hb;cases hb)]
  exact s2 _ _ (h.1 _ _ hb)
 ·refine Paired.snoc (rows_imp (fun q u z=>?_) P) ⟨p,by rw [upd_ne rD,upd_same],by rw [upd_ne pD,upd_ne pr,upd_same]⟩
  obtain ⟨p',h1,h2⟩:=z
  have n1:q≠D:=fun z=>by rw [z,e] at h1;cases h1
  have n2:p'≠D:=fun z=>by rw [z,e] at h2;cases h2
  exact ⟨p',by rw [upd_ne n1];exact s2 _ _ h1,by rw [upd_ne n2];exact s2 _ _ h2⟩
theorem flat_take {f:Int→List (List Int)} {ws:List Int} {i:Nat} {x:Int} (h:ws[i]? = some x):(ws.take (i + 1)).flatMap f=(ws.take i).flatMap f++f x:=by
 rw [take_more h,List.flatMap_append];simp
theorem at_int37 {ws:List Int} {i:Nat} {x:V} (h:(ws.map V.int)[i]? = some x):∃ y,x = .int y∧ws[i]? = some y∧y∈ws:=by
 rw [List.getElem?_map] at h
 obtain ⟨y,hy,rfl⟩:=Option.map_eq_some_iff.mp h
 exact ⟨y,rfl,hy,List.mem_of_getElem? hy⟩
def spChoices (K:PySem.W.Frag):Sp:=fun vs H Q _=>∃ (W:Addr) (ws:List Int),vs=[.ref W]∧SqA K H W (ws.map V.int)∧ws.length≤12∧(∀ v∈ws,Bd 64 v) ∧
 ∀ (D:Addr) (H':Hp),Same H H'→RL H' D (chM ws)→(chM ws).length≤20880→Q (.ref D) H'
theorem d_l_choices (T:Txt K mg):DefOk P w K mg base "_law_choices" ["_law_wheels"] 1 (spChoices K):=by
 obtain ⟨f,fd,F,hm,hb⟩:=T.h_l_choices
 refine ⟨f,fd,F.ok sc_l_choices (fun vs H Q E h=>?_) (fun cdv A outer s H vs Q E hr h=>?_),hm,F.kp,hb⟩
 ·obtain ⟨W,ws,rfl,_⟩:=h
  rfl
 obtain ⟨W,ws,rfl,hW,h12,bw,q⟩:=h
 refine ⟨_,(@pss_cons _ _ _ _ _ (@ps_set _ _ 1 _ _ _ _ sc_l_choices.nd rfl (Or.inl rfl) (@pe_lst _ _ _ _ pa_nil) (by rfl) (by first | exact .inl rfl | exact .inr rfl))
 (@pss_cons _ _ _ _ _ (ps_for PassesOwn.never rfl (pi_any (pv 0)) (pg_name (i:=2) sc_l_choices.nd rfl (Or.inl rfl))
 (@pss_one _ _ _ (ps_for PassesOwn.never rfl (pi_any (pv 0)) (pg_name (i:=3) sc_l_choices.nd rfl (Or.inl rfl))
 (@pss_one _ _ _ (ps_if (pt_cmp (pc_neI (pv 2) (pv 3)))
 (@pss_cons _ _ _ _ _ (ps_expr (pe_bm PySem.F.plainAttrs_list PySem.F.slot_list_append PySem.F.type_list_append mt_append (pv 1) (pa_cons (@pe_tup _ _ _ _ _ (pa_cons (pv 2) (pa_cons (pv 3) (pa_cons (@pe_tup _ _ _ _ _ (pa_cons (pv 2) (pa_cons (pv 3) pa_nil))) pa_nil)))) pa_nil)))
 (@pss_one _ _ _ (ps_for PassesOwn.never rfl (pi_any (pv 0)) (pg_name (i:=4) sc_l_choices.nd rfl (Or.inl rfl))
 (@pss_one _ _ _ (ps_if (pw_and (pt_cmp (pc_neI (pv 4) (pv 2))) (pw_and1 (pt_cmp (pc_neI (pv 4) (pv 3))))).pt
 (@pss_one _ _ _ (ps_for PassesOwn.never rfl (pi_any (pv 0)) (pg_name (i:=5) sc_l_choices.nd rfl (Or.inl rfl))
 (@pss_one _ _ _ (ps_if (pw_and (pt_cmp (pc_neI (pv 5) (pv 2))) (pw_and (pt_cmp (pc_neI (pv 5) (pv 3))) (pw_and1 (pt_cmp (pc_neI (pv 5) (pv 4)))))).pt
 (@pss_one _ _ _ (ps_expr (pe_bm PySem.F.plainAttrs_list PySem.F.slot_list_append PySem.F.type_list_append mt_append (pv 1) (pa_cons (@pe_tup _ _ _ _ _ (pa_cons (pe_op op_mulX (pv 2) (pv 4)) (pa_cons (pe_op op_mulX (pv 3) (pv 5)) (pa_cons (@pe_tup _ _ _ _ _ (pa_cons (pv 2) (pa_cons (pv 3) (pa_cons (pv 4) (pa_cons (pv 5) pa_nil))))) pa_nil)))) pa_nil))))
 pss_nil))))
 pss_nil)))))
 pss_nil)))))
 (@pss_one _ _ _ (@ps_ret _ _ _ _ (pv 1))))),?_⟩
 have hlen:(ws.map V.int).length=ws.length:=List.length_map _
 refine ⟨(by show 0≤sizeLine;decide),fun D hD=>?_⟩
 refine ⟨W,rfl,for_anyB (K:=K) (a:=W) (xs:=ws.map V.int) (H0:=H) (fun i σ G=>∃ v1 v2 v3 v4,σ=[some (.ref W),some (.ref D),v1,v2,v3,v4]∧I0 H D G ((ws.take i).flatMap fun a=>ws.flatMap (fB ws a)) (1740 * i)) hW
  ⟨none,none,none,none,rfl,same_new hD _,⟨[],upd_same,.nil⟩,Nat.le_refl _⟩ (fun i σ G ⟨_,_,_,_,_,s⟩=>s.1) ?_ ?_⟩
 ·rintro i x σ G hx ⟨v1,v2,v3,v4,rfl,I⟩
  obtain ⟨a,rfl,ha,ma⟩:=at_int37 hx
  refine ⟨W,rfl,for_anyB (K:=K) (a:=W) (xs:=ws.map V.int) (H0:=H) (fun j σ G=>∃ v2 v3 v4,σ=[some (.ref W),some (.ref D),some (.int a),v2,v3,v4]∧I0 H D G (((ws.take i).flatMap fun a=>ws.flatMap (fB ws a))++(ws.take j).flatMap (fB ws a)) (1740 * i + 145 * j)) hW
   ⟨v2,v3,v4,rfl,by simpa using I⟩ (fun i σ G ⟨_,_,_,_,s⟩=>s.1) ?_ ?_⟩
  rotate_left
  ·rintro σ G ⟨v2,v3,v4,rfl,I⟩
   rw [hlen,List.take_length] at I
   refine ⟨_,_,_,_,rfl,?_⟩
   rw [flat_take ha]
   exact ⟨I.1,I.2.1,by have:=I.2.2;omega⟩
  rintro j x σ G hx ⟨v2,v3,v4,rfl,I⟩
  obtain ⟨b,rfl,hb,mb⟩:=at_int37 hx
  rw [flat_take hb,← List.append_assoc]
  generalize ((ws.take i).flatMap fun a=>ws.flatMap (fB ws a))++(ws.take j).flatMap (fB ws a)=A1 at I ⊢
  by_cases ab:a=b
  ·refine ⟨_,rfl,_,rfl,_,_,rfl,rfl,_,rfl,iteND (fun n=>absurd ab n) (fun _=>?_)⟩
   have e:fB ws a b=[]:=if_neg (fun z=>z ab)
   exact ⟨_,_,_,rfl,by rw [e,List.append_nil];exact ⟨I.1,I.2.1,by have:=I.2.2;omega⟩⟩
  refine ⟨_,rfl,_,rfl,_,_,rfl,rfl,_,rfl,iteND (fun _=>?_) (fun z=>absurd z ab)⟩
  have e:fB ws a b=[a,b]::ws.flatMap (fC ws a b):=if_pos ab
  obtain ⟨rs,h1,h2⟩:=I.2.1
  have jl:j<ws.length:=(List.getElem?_eq_some_iff.mp hb).1
  have il:i<ws.length:=(List.getElem?_eq_some_iff.mp ha).1
  have al:=I.2.2
  refine ⟨_,rfl,.inl ⟨rfl,_,SqL.of h1⟩,_,rfl,_,rfl,_,rfl,_,rfl,(by show 2≤sizeLine;decide),fun p hp=>⟨(by show 3≤sizeLine;decide),fun r hr'=>?_⟩⟩
  refine ⟨D,_,_,rfl,rfl,(same_new hr' _) _ _ ((same_new hp _) _ _ h1),(by rw [List.length_map,Paired.length h2];exact big (by omega)),?_⟩
  have I2:=I.push hD h1 h2 (t:=[a,b]) hp hr' rfl rfl
  generalize hG:upd (upd (upd G p _) r _) D _=G2
  have I2:I0 H D G2 (A1++[[a,b]]) (1740 * i + 145 * j + 1):=by rw [← hG];exact I2
  clear hG h1 h2 hp hr' I
  refine ⟨W,rfl,for_anyB (K:=K) (a:=W) (xs:=ws.map V.int) (H0:=H) (fun k σ G=>∃ v3 v4,σ=[some (.ref W),some (.ref D),some (.int a),some (.int b),v3,v4]∧I0 H D G (A1++[[a,b]]++(ws.take k).flatMap (fC ws a b)) (1740 * i + 145 * j + 1 + 12 * k)) hW
   ⟨v3,v4,rfl,by simpa using I2⟩ (fun i σ G ⟨_,_,_,s⟩=>s.1) ?_ ?_⟩
  rotate_left
  ·rintro σ G ⟨v3,v4,rfl,I⟩
   rw [hlen,List.take_length] at I
   refine ⟨_,_,_,rfl,?_⟩
   rw [e,show A1++[a,b]::ws.flatMap (fC ws a b)=A1++[[a,b]]++ws.flatMap (fC ws a b) by rw [List.append_assoc];rfl]
   exact ⟨I.1,I.2.1,by have:=I.2.2;omega⟩
  clear I2 e
  rintro k x σ G hx ⟨v3,v4,rfl,I⟩
  obtain ⟨c,rfl,hc,mc⟩:=at_int37 hx
  have kl:k<ws.length:=(List.getElem?_eq_some_iff.mp hc).1
  rw [flat_take hc,← List.append_assoc]
  generalize A1++[[a,b]]++(ws.take k).flatMap (fC ws a b)=A2 at I ⊢
  by_cases cc:c≠a∧c≠b
  rotate_left
  ·have e:fC ws a b c=[]:=if_neg cc
   have skip:I0 H D G (A2++fC ws a b c) (1740 * i + 145 * j + 1 + 12 * (k + 1)):=by rw [e,List.append_nil];exact ⟨I.1,I.2.1,by have:=I.2.2;omega⟩
   by_cases ca:c=a
   ·exact ⟨_,rfl,_,rfl,_,_,rfl,rfl,_,rfl,iteND (fun n=>absurd ca n) (fun _=>iteF ⟨_,_,rfl,skip⟩)⟩
   ·exact ⟨_,rfl,_,rfl,_,_,rfl,rfl,_,rfl,iteND (fun _=>⟨_,rfl,_,rfl,_,_,rfl,rfl,_,rfl,iteND (fun n=>absurd ⟨ca,n⟩ cc) (fun _=>⟨_,_,rfl,skip⟩)⟩) (fun z=>absurd z ca)⟩
  refine ⟨_,rfl,_,rfl,_,_,rfl,rfl,_,rfl,iteND (fun _=>⟨_,rfl,_,rfl,_,_,rfl,rfl,_,rfl,iteND (fun _=>?_) (fun z=>absurd z cc.2)⟩) (fun z=>absurd z cc.1)⟩
  have e:fC ws a b c=ws.flatMap (fD a b c):=if_pos cc
  rw [e]
  refine ⟨W,rfl,for_anyB (K:=K) (a:=W) (xs:=ws.map V.int) (H0:=H) (fun m σ G=>∃ v4,σ=[some (.ref W),some (.ref D),some (.int a),some (.int b),some (.int c),v4]∧I0 H D G (A2++(ws.take m).flatMap (fD a b c)) (1740 * i + 145 * j + 1 + 12 * k + m)) hW
   ⟨v4,rfl,by simpa using I⟩ (fun i σ G ⟨_,_,s⟩=>s.1) ?_ ?_⟩
  rotate_left
  ·rintro σ G ⟨v4,rfl,I⟩
   rw [hlen,List.take_length] at I
   exact ⟨_,_,rfl,I.1,I.2.1,by have:=I.2.2;omega⟩
  clear I e
  rintro m x σ G hx ⟨v4,rfl,I⟩
  obtain ⟨d,rfl,hd,md⟩:=at_int37 hx
  have ml:m<ws.length:=(List.getElem?_eq_some_iff.mp hd).1
  rw [flat_take hd,← List.append_assoc]
  generalize A2++(ws.take m).flatMap (fD a b c)=A3 at I ⊢
  by_cases dd:d≠a∧d≠b∧d≠c
  rotate_left
  ·have e:fD a b c d=[]:=if_neg dd
   have skip:I0 H D G (A3++fD a b c d) (1740 * i + 145 * j + 1 + 12 * k + (m + 1)):=by rw [e,List.append_nil];exact ⟨I.1,I.2.1,by have:=I.2.2;omega⟩
   by_cases da:d=a
   ·exact ⟨_,rfl,_,rfl,_,_,rfl,rfl,_,rfl,iteND (fun n=>absurd da n) (fun _=>iteF ⟨_,rfl,skip⟩)⟩
   ·by_cases db:d=b
    ·exact ⟨_,rfl,_,rfl,_,_,rfl,rfl,_,rfl,iteND (fun _=>⟨_,rfl,_,rfl,_,_,rfl,rfl,_,rfl,iteND (fun n=>absurd db n) (fun _=>iteF ⟨_,rfl,skip⟩)⟩) (fun z=>absurd z da)⟩
    ·exact ⟨_,rfl,_,rfl,_,_,rfl,rfl,_,rfl,iteND (fun _=>⟨_,rfl,_,rfl,_,_,rfl,rfl,_,rfl,iteND (fun _=>⟨_,rfl,_,rfl,_,_,rfl,rfl,_,rfl,iteND (fun n=>absurd ⟨da,db,n⟩ dd) (fun _=>⟨_,rfl,skip⟩)⟩) (fun z=>absurd z db)⟩) (fun z=>absurd z da)⟩
  refine ⟨_,rfl,_,rfl,_,_,rfl,rfl,_,rfl,iteND (fun _=>⟨_,rfl,_,rfl,_,_,rfl,rfl,_,rfl,iteND (fun _=>⟨_,rfl,_,rfl,_,_,rfl,rfl,_,rfl,iteND (fun _=>?_) (fun z=>absurd z dd.2.2)⟩) (fun z=>absurd z dd.2.1)⟩) (fun z=>absurd z dd.1)⟩
  have e:fD a b c d=[[a,b,c,d]]:=if_pos dd
  obtain ⟨rs,h1,h2⟩:=I.2.1
  have al:=I.2.2
  refine ⟨_,rfl,.inl ⟨rfl,_,SqL.of h1⟩,_,rfl,_,rfl,_,_,rfl,rfl,.inr ⟨(bw a ma).mono (by decide),(bw c mc).mono (by decide)⟩,_,rfl,_,rfl,_,_,rfl,rfl,.inr ⟨(bw b mb).mono (by decide),(bw d md).mono (by decide)⟩,_,rfl,_,rfl,_,rfl,_,rfl,(by show 4≤sizeLine;decide),fun p hp=>⟨(by show 3≤sizeLine;decide),fun r hr'=>?_⟩⟩
  refine ⟨D,_,_,rfl,rfl,(same_new hr' _) _ _ ((same_new hp _) _ _ h1),(by rw [List.length_map,Paired.length h2];exact big (by omega)),?_⟩
  have I2:=I.push hD h1 h2 (t:=[a,b,c,d]) hp hr' rfl rfl
  exact ⟨_,rfl,by rw [e];exact I2⟩
 ·rintro σ G ⟨v1,v2,v3,v4,rfl,I⟩
  rw [hlen,List.take_length] at I
  exact ⟨_,rfl,q D G I.1 I.2.1 (Nat.le_trans I.2.2 (by omega))⟩

theorem fB_head {ws t:List Int} {a b:Int} (h:t∈fB ws a b):∃ r,t=a::b::r:=by
 unfold fB at h
 split at h
 ·rcases List.mem_cons.mp h with h | h
  ·exact ⟨[],h⟩
  ·obtain ⟨c,_,h⟩:=List.mem_flatMap.mp h
   unfold fC at h
   split at h
   ·obtain ⟨d,_,h⟩:=List.mem_flatMap.mp h
    unfold fD at h
    split at h
    ·exact ⟨[c,d],List.mem_singleton.mp h⟩
    ·cases h
   ·cases h
 ·cases h
theorem fC_head {ws t:List Int} {a b c:Int} (h:t∈fC ws a b c):∃ d,t=[a,b,c,d]:=by
 unfold fC at h
 split at h
 ·obtain ⟨d,_,h⟩:=List.mem_flatMap.mp h
  unfold fD at h
  split at h
  ·exact ⟨d,List.mem_singleton.mp h⟩
  ·cases h
 ·cases h
theorem chM_nd {ws:List Int} (nd:ws.Nodup):(chM ws).Nodup:=by
 unfold chM List.Nodup
 rw [List.pairwise_flatMap]
 refine ⟨fun a _=>?_,List.Pairwise.imp (fun {a a'} ne x hx y hy e=>?_) nd⟩
 ·rw [List.pairwise_flatMap]
  refine ⟨fun b _=>?_,List.Pairwise.imp (fun {b b'} ne x hx y hy e=>?_) nd⟩
  ·unfold fB
   split
   ·refine List.pairwise_cons.mpr ⟨fun t ht e=>?_,?_⟩
    ·obtain ⟨c,_,h⟩:=List.mem_flatMap.mp ht
     obtain ⟨d,h⟩:=fC_head h
     rw [h] at e
     cases e
    ·rw [List.pairwise_flatMap]
     refine ⟨fun c _=>?_,List.Pairwise.imp (fun {c c'} ne x hx y hy e=>?_) nd⟩
     ·unfold fC
      split
      ·rw [List.pairwise_flatMap]
       refine ⟨fun d _=>?_,List.Pairwise.imp (fun {d d'} ne x hx y hy e=>?_) nd⟩
       ·unfold fD
        split
        ·exact List.pairwise_singleton _ _
        ·exact List.Pairwise.nil
       ·unfold fD at hx hy
        split at hx
        ·split at hy
         ·rw [List.mem_singleton.mp hx,List.mem_singleton.mp hy] at e
          cases e
          exact ne rfl
         ·cases hy
        ·cases hx
      ·exact List.Pairwise.nil
     ·obtain ⟨d,rfl⟩:=fC_head hx
      obtain ⟨d',rfl⟩:=fC_head hy
      cases e
      exact ne rfl
   ·exact List.Pairwise.nil
  ·obtain ⟨r,rfl⟩:=fB_head hx
   obtain ⟨r',rfl⟩:=fB_head hy
   cases e
   exact ne rfl
 ·obtain ⟨b,_,hx⟩:=List.mem_flatMap.mp hx
  obtain ⟨b',_,hy⟩:=List.mem_flatMap.mp hy
  obtain ⟨r,rfl⟩:=fB_head hx
  obtain ⟨r',rfl⟩:=fB_head hy
  cases e
  exact ne rfl
theorem count_one {c:List Int}:∀ {l:List (List Int)},l.Nodup→c∈l→l.count c=1
 | t::l,nd,h=>by
  obtain ⟨n1,n2⟩:=List.pairwise_cons.mp nd
  by_cases e:t=c
  ·subst e
   have z:l.count t=0:=List.count_eq_zero.mpr fun m=>n1 t m rfl
   rw [List.count_cons_self,z]
  ·rw [List.count_cons_of_ne e]
   rcases List.mem_cons.mp h with h | h
   ·exact absurd h.symm e
   ·exact count_one n2 h
theorem perm_allT {sw ws t:List Int} (hp:sw.Perm ws) (h:t∈allT ws):t∈allT sw:=by
 unfold allT at h ⊢
 rw [List.mem_append,mem_pairsM,mem_foursM] at h ⊢
 rcases h with ⟨a,b,ha,hb,ab,rfl⟩ | ⟨a,b,c,d,⟨ha,hb,hc,hd⟩,n⟩
 ·exact .inl ⟨a,b,hp.mem_iff.mpr ha,hp.mem_iff.mpr hb,ab,rfl⟩
 ·exact .inr ⟨a,b,c,d,⟨hp.mem_iff.mpr ha,hp.mem_iff.mpr hb,hp.mem_iff.mpr hc,hp.mem_iff.mpr hd⟩,n⟩
theorem best_row {sw ws c t:List Int} {x y:Int} (S:Shop ws) (hp:sw.Perm ws) (hs:sw.Pairwise (· < ·)) (B:Best x y (allT sw) c) (ht:t∈chM ws) :
  Train t∧¬ Bt (ratT t) (ratB t) (ratT c) (ratB c) x y∧(ratT t * ratB c=ratT c * ratB t→t=c∨Bef c t):=by
 have tr:∀ t∈allT sw,Train t:=allT_train (fun v hv=>S.lo v (hp.mem_iff.mp hv)) (fun v hv=>S.hi v (hp.mem_iff.mp hv))
 have hs:=all_sorted hs
 have ht:=perm_allT hp (mem_chM.mp ht)
 have T:=tr t ht
 have b1:=T.in
 obtain ⟨u,v,e,h1,h2⟩:=B.ex
 have hc:c∈allT sw:=by rw [e];simp
 have b2:=(tr c hc).in
 rw [e] at ht hs
 refine ⟨T,?_⟩
 rcases List.mem_append.mp ht with h | h
 ·have:=h1 t h
  exact ⟨this.asym,fun z=>absurd this (Bt.ne z.symm (by omega) (by omega))⟩
 ·rcases List.mem_cons.mp h with h | h
  ·subst h
   exact ⟨Bt.ne rfl (by omega) (by omega),fun _=>.inl rfl⟩
  ·exact ⟨h2 t h,fun _=>.inr ((List.pairwise_cons.mp (List.pairwise_append.mp hs).2.1).1 t h)⟩
theorem rl_at {H:Hp}:∀ {rs:List Addr} {tss:List (List Int)} {i:Nat} {x:V},Paired (RowC H) rs tss→(rs.map V.ref)[i]? = some x→∃ r t,x = .ref r∧tss[i]? = some t∧RowC H r t
 | _,_,i,x,.nil,h=>by simp at h
 | _,_,0,x,.cons h t,e=>⟨_,_,by simpa using e.symm,rfl,h⟩
 | _,_,i + 1,x,.cons h t,e=>by
  obtain ⟨r,u,e1,e2,e3⟩:=rl_at (i:=i) (x:=x) t (by simpa using e)
  exact ⟨r,u,e1,by simpa using e2,e3⟩
def spBest (K:PySem.W.Frag):Sp:=fun vs H Q _=>∃ (W p tA:Addr) (ws sw c:List Int) (x y:Int),vs=[.ref W,.ref p,.ref tA]∧SqA K H W (ws.map V.int)∧Shop ws∧ws.length≤12∧TupK K H p [.int x,.int y]∧Bd 200 x∧Bd 200 y∧H tA=some (.tup (c.map V.int)) ∧
 sw.Perm ws∧sw.Pairwise (· < ·)∧Best x y (allT sw) c∧∀ H',Same H H'→Q (.bl true) H'
theorem d_l_best (T:Txt K mg):DefOk P w K mg base "_law_best" ["_law_wheels","_law_pitch","_law_train"] 2 (spBest K):=by
 obtain ⟨f,fd,F,hm,hb⟩:=T.h_l_best
 refine ⟨f,fd,F.ok sc_l_best (fun vs H Q E h=>?_) (fun cdv A outer s H vs Q E hr h=>?_),hm,F.kp,hb⟩
 ·obtain ⟨W,p,tA,ws,sw,c,x,y,rfl,_⟩:=h
  rfl
 obtain ⟨W,p,tA,ws,sw,c,x,y,rfl,hW,S,h12,hp,bx,bY,htA,hpm,hs,B,q⟩:=h
 refine ⟨_,(@pss_cons _ _ _ _ _ (@ps_set _ _ 3 _ _ _ _ sc_l_best.nd rfl (Or.inl rfl) (pe_callD (d_l_choices T) hr (pa_cons (pv 0) pa_nil)) (by rfl) (by first | exact .inl rfl | exact .inr rfl))
 (@pss_cons _ _ _ _ _ (ps_comp1 (i:=4) sc_l_best.nd rfl (Or.inl rfl) (by first | exact .inl rfl | exact .inr rfl) rfl (sc:=defScope s_l_best) rfl (N:=["_law_wheels","_law_pitch","_law_train","_law_choices_here","_law_told","_law_top","_law_bottom","_law_gap","_law_a","_law_b","_law_other","_law_here"]) rfl ⟨by decide +kernel,rfl,by decide +kernel,by decide +kernel,rfl,by decide +kernel,by decide +kernel,by decide +kernel⟩ (pi_list (pv 3)) (fun _ _ _ _ _ _=>(pt_cmpR (op_eqTIK (K:=K) rfl (by exact hu4 hr)) (@pe_ix _ _ _ _ _ _ _ (ix_tupK (K:=K) rfl) (pv 0) pe_int (fun _ _=>rfl)) (pv 3) (nomark _))) (fun _ _ _ _ _ _=>(pv 0)) (by intro _;rfl) (by rfl))
 (@pss_cons _ _ _ _ _ (ps_if (pt_cmp (pc_neI (pe_callB call_len_seq (by rfl) T.z_len PySem.boot_len (pa_cons (pv 4) pa_nil)) pe_int))
 (@pss_one _ _ _ (@ps_ret _ _ _ _ pe_bl))
 pss_nil)
 (@pss_cons _ _ _ _ _ (@ps_set _ _ 5 _ _ _ _ sc_l_best.nd rfl (Or.inl rfl) (@pe_ix _ _ _ _ _ _ _ ix_tup (@pe_ix _ _ _ _ _ _ _ ix_list (pv 4) pe_int (fun _ _=>rfl)) pe_int (fun _ _=>rfl)) (by rfl) (by first | exact .inl rfl | exact .inr rfl))
 (@pss_cons _ _ _ _ _ (@ps_set _ _ 6 _ _ _ _ sc_l_best.nd rfl (Or.inl rfl) (@pe_ix _ _ _ _ _ _ _ ix_tup (@pe_ix _ _ _ _ _ _ _ ix_list (pv 4) pe_int (fun _ _=>rfl)) pe_int (fun _ _=>rfl)) (by rfl) (by first | exact .inl rfl | exact .inr rfl))
 (@pss_cons _ _ _ _ _ (@ps_set _ _ 7 _ _ _ _ sc_l_best.nd rfl (Or.inl rfl) (pe_callB call_abs (by rfl) T.z_abs PyProof.Rows.boot_abs (pa_cons (pe_op op_sub (pe_op op_mulX (pv 5) (@pe_ix _ _ _ _ _ _ _ ix_tup (pv 1) pe_int (fun _ _=>rfl))) (pe_op op_mulX (@pe_ix _ _ _ _ _ _ _ ix_tup (pv 1) pe_int (fun _ _=>rfl)) (pv 6))) pa_nil)) (by rfl) (by first | exact .inl rfl | exact .inr rfl))
 (@pss_cons _ _ _ _ _ (ps_for PassesOwn.never rfl (pi_list (pv 3)) (pg_tup rfl (pgs_cons (pg_name (i:=8) sc_l_best.nd rfl (Or.inl rfl)) (pgs_cons (pg_name (i:=9) sc_l_best.nd rfl (Or.inl rfl)) (pgs_cons (pg_name (i:=10) sc_l_best.nd rfl (Or.inl rfl)) pgs_nil))))
 (@pss_cons _ _ _ _ _ (@ps_set _ _ 11 _ _ _ _ sc_l_best.nd rfl (Or.inl rfl) (pe_op op_mulX (pe_callB call_abs (by rfl) T.z_abs PyProof.Rows.boot_abs (pa_cons (pe_op op_sub (pe_op op_mulX (pv 8) (@pe_ix _ _ _ _ _ _ _ ix_tup (pv 1) pe_int (fun _ _=>rfl))) (pe_op op_mulX (@pe_ix _ _ _ _ _ _ _ ix_tup (pv 1) pe_int (fun _ _=>rfl)) (pv 9))) pa_nil)) (pv 6)) (by rfl) (by first | exact .inl rfl | exact .inr rfl))
 (@pss_cons _ _ _ _ _ (ps_if (pt_cmp (pc_lt (pv 11) (pe_op op_mulX (pv 7) (pv 9))))
 (@pss_one _ _ _ (@ps_ret _ _ _ _ pe_bl))
 pss_nil)
 (@pss_cons _ _ _ _ _ (ps_if (pw_and (pt_cmp (pc_eqI (pv 11) (pe_op op_mulX (pv 7) (pv 9)))) (pw_and1 (pt_cmp (pc_lt (pe_op op_mulX (pv 8) (pv 6)) (pe_op op_mulX (pv 5) (pv 9)))))).pt
 (@pss_one _ _ _ (@ps_ret _ _ _ _ pe_bl))
 pss_nil)
 (@pss_one _ _ _ (ps_if (pw_and (pt_cmp (pc_eqI (pe_op op_mulX (pv 8) (pv 6)) (pe_op op_mulX (pv 5) (pv 9)))) (pw_and1 (pt_cmpR (op_ltP hr.units) (@pe_tup _ _ _ _ _ (pa_cons (pe_callB call_len_seq (by rfl) T.z_len PySem.boot_len (pa_cons (pv 10) pa_nil)) (pa_cons (pv 10) pa_nil))) (@pe_tup _ _ _ _ _ (pa_cons (pe_callB call_len_seq (by rfl) T.z_len PySem.boot_len (pa_cons (pv 2) pa_nil)) (pa_cons (pv 2) pa_nil))) (nomark _)))).pt
 (@pss_one _ _ _ (@ps_ret _ _ _ _ pe_bl))
 pss_nil))))))
 (@pss_one _ _ _ (@ps_ret _ _ _ _ pe_bl))))))))),?_⟩
 have sm:∀ {i:Int},1≤i→i≤16129→Bd 64 i:=fun h1 h2=>bd20 (by omega) (by omega)
 have hc:c∈chM ws:=by
  obtain ⟨u,v,e,_,_⟩:=B.ex
  exact mem_chM.mpr (perm_allT hpm.symm (by rw [e];simp))
 have rows:∀ t∈chM ws,_:=fun t ht=>best_row S hpm hs B ht
 have one:=count_one (chM_nd S.nd) hc
 have Tc:=(rows c hc).1.in
 refine ⟨_,rfl,W,ws,rfl,hW,h12,fun v hv=>bd20 (by have:=S.lo v hv;omega) (by have:=S.hi v hv;omega),fun D H1 s1 rl len=>?_⟩
 obtain ⟨rs,h1,h2⟩:=rl
 have lr:rs.length=(chM ws).length:=Paired.length h2
 generalize chM ws=tss at rows one h2 lr len hc
 have hp1:=hp.mono s1
 have ht1:=s1 _ _ htA
 refine ⟨_,rfl,D,rfl,⟨_,SqL.of h1⟩,?_⟩
 intro E hE
 have u0:=same_new hE (.lst [])
 refine comp_listE (K:=K) (a:=D) (xs:=rs.map V.ref) (fun i H5 ys=>∃ us:List Addr,ys=us.map V.ref∧us.length=(tss.take i).count c∧(∀ u∈us,RowC H1 u c)∧Same H1 H5∧H5 E=some (.lst ys)) ⟨[],rfl,rfl,(fun u z=>nomatch z),u0,upd_same⟩ (fun i H5 ys ⟨_,_,_,_,s5,hd⟩=>⟨SqL.of (s5 _ _ h1),hd⟩) ?_ ?_
 ·rintro i v H5 ys kk hk hx ⟨us,rfl,lu,uc,s5,hd⟩
  obtain ⟨r,t,rfl,ht,hr'⟩:=rl_at h2 hx
  obtain ⟨o,e1,e2⟩:=hr'
  have cnt:(tss.take (i + 1)).count c=(tss.take i).count c + if t=c then 1 else 0:=by
   rw [take_more ht,List.count_append]
   by_cases z:t=c
   ·rw [if_pos z,z];simp
   ·rw [if_neg z,List.count_eq_zero.mpr (fun m=>z (List.mem_singleton.mp m).symm)]
  have ul:us.length≤20880:=by rw [lu];exact Nat.le_trans (List.count_le_length) (by rw [List.length_take];omega)
  refine ⟨_,rfl,_,_,_,_,rfl,rfl,SqT.of ((s5 _ _ e1)),rfl,_,rfl,o,tA,t,c,rfl,rfl,SqT.of (s5 _ _ e2),SqT.of (s5 _ _ ht1),_,rfl,?_⟩
  refine iteD (fun e=>?_) (fun e=>?_)
  ·rw [if_pos e] at cnt
   refine ⟨_,rfl,hd,(by rw [List.length_map];exact big (by omega)),hk _ _ ⟨us++[r],by rw [List.map_append];rfl,by rw [List.length_append,lu,cnt];rfl,fun u hu=>?_,fun b o hb=>?_,upd_same⟩⟩
   ·rcases List.mem_append.mp hu with hu | hu
    ·exact uc u hu
    ·rw [List.mem_singleton.mp hu];subst e;exact ⟨o,e1,e2⟩
   ·rw [upd_ne (ne_of_none hb hE)];exact s5 _ _ hb
  ·rw [if_neg e] at cnt
   exact hk _ _ ⟨us,rfl,by rw [lu,cnt];rfl,uc,s5,hd⟩
 ·rintro H5 ys ⟨us,rfl,lu,uc,s5,hd⟩
  rw [List.length_map,lr,List.take_length,one] at lu
  obtain ⟨r,rfl⟩:=List.length_eq_one_iff.mp lu
  obtain ⟨o,e1,e2⟩:=uc r List.mem_cons_self
  have e1:=s5 _ _ e1
  have hp5:=hp1.mono s5
  have ht5:=s5 _ _ ht1
  have h15:=s5 _ _ h1
  have P5:=rows_imp (fun _ _ z=>RowC.same z s5) h2
  clear uc hp1 ht1 h1 h2 u0 lu
  refine ⟨_,rfl,E,_,rfl,.inl (SqL.of hd),_,_,rfl,rfl,_,rfl,iteNS rfl ?_⟩
  refine ⟨_,rfl,E,_,_,_,rfl,rfl,SqL.of hd,rfl,_,_,_,_,rfl,rfl,SqT.of e1,rfl,?_⟩
  refine ⟨_,rfl,E,_,_,_,rfl,rfl,SqL.of hd,rfl,_,_,_,_,rfl,rfl,SqT.of e1,rfl,?_⟩
  have bct:=sm Tc.1 Tc.2.1
  have bcb:=sm Tc.2.2.1 Tc.2.2.2
  refine ⟨_,rfl,_,rfl,_,_,_,_,rfl,rfl,hp5.sq,rfl,_,_,rfl,rfl,.inr ⟨bct.mono (by decide),bY.mono (by decide)⟩,_,rfl,_,_,_,_,rfl,rfl,hp5.sq,rfl,_,rfl,_,_,rfl,rfl,.inr ⟨bx.mono (by decide),bcb.mono (by decide)⟩,_,_,rfl,rfl,_,rfl,?_⟩
  have gf:∀ a b:Int,(if a * y - x * b<0 then -(a * y - x * b) else a * y - x * b)=gapF a b x y:=fun _ _=>rfl
  dsimp only
  rw [gf]
  have gb:∀ {a b:Int},Bd 64 a→Bd 64 b→Bd 300 (gapF a b x y):=fun {a b} ha hb=>by
   unfold gapF
   have z:=(((ha.mul bY).mono (show 64 + 200≤280 by decide)).add (((bx.mul hb).mono (show 200 + 64≤280 by decide)).neg)).mono (show _≤300 by decide)
   rw [Int.sub_eq_add_neg]
   split
   ·exact z.neg
   ·exact z
  have gc:=gb bct bcb
  refine ⟨_,rfl,D,rfl,⟨_,SqL.of h15⟩,for_list (K:=K) (a:=D) (xs:=rs.map V.ref) (fun i σ G=>∃ v1 v2 v3 v4,σ=[some (.ref W),some (.ref p),some (.ref tA),some (.ref D),some (.ref E),some (.int (ratT c)),some (.int (ratB c)),some (.int (gapF (ratT c) (ratB c) x y)),v1,v2,v3,v4]∧Same H5 G)
   ⟨none,none,none,none,rfl,Same.refl _⟩ (fun i σ G _ ⟨_,_,_,_,_,s⟩=>SqL.of (s _ _ h15)) ?_ ?_⟩
  rotate_left
  ·rintro σ G ⟨v1,v2,v3,v4,rfl,s⟩
   exact q G (s1.trans (s5.trans s))
  rintro i v σ G hx ⟨v1,v2,v3,v4,rfl,s⟩
  obtain ⟨r2,t,rfl,ht,o2,f1,f2⟩:=rl_at P5 hx
  obtain ⟨Tt,nb,eqv⟩:=rows t (List.mem_of_getElem? ht)
  have ti:=Tt.in
  have bt:=sm ti.1 ti.2.1
  have bb:=sm ti.2.2.1 ti.2.2.2
  have gt:=gb bt bb
  have hp6:=hp5.mono s
  have f1:=s _ _ f1
  have f2:=s _ _ f2
  have ht6:=s _ _ ht5
  have n1:¬ gapF (ratT t) (ratB t) x y * ratB c<gapF (ratT c) (ratB c) x y * ratB t:=fun z=>nb (.inl z)
  have n2:gapF (ratT t) (ratB t) x y * ratB c=gapF (ratT c) (ratB c) x y * ratB t→¬ ratT t * ratB c<ratT c * ratB t:=fun z z2=>nb (.inr ⟨z,z2⟩)
  refine ⟨r2,_,rfl,SqT.of f1,rfl,_,_,rfl,_,_,rfl,_,_,rfl,rfl,?_⟩
  refine ⟨_,rfl,_,rfl,_,_,_,_,rfl,rfl,hp6.sq,rfl,_,_,rfl,rfl,.inr ⟨bt.mono (by decide),bY.mono (by decide)⟩,_,rfl,_,_,_,_,rfl,rfl,hp6.sq,rfl,_,rfl,_,_,rfl,rfl,.inr ⟨bx.mono (by decide),bb.mono (by decide)⟩,_,_,rfl,rfl,_,rfl,_,rfl,_,_,rfl,rfl,?_,?_⟩
  ·exact .inr ⟨gt.mono (by decide),bcb.mono (by decide)⟩
  dsimp only
  rw [gf]
  refine ⟨_,rfl,_,rfl,_,rfl,_,_,rfl,rfl,.inr ⟨gc.mono (by decide),bb.mono (by decide)⟩,_,_,rfl,rfl,_,rfl,iteDF n1 ?_⟩
  refine (fun (key:(?G:Prop))=>?main) ?keyp
  case main =>
   refine ⟨_,rfl,_,rfl,_,rfl,_,_,rfl,rfl,.inr ⟨gc.mono (by decide),bb.mono (by decide)⟩,_,_,rfl,rfl,_,rfl,iteD (fun z=>?_) (fun _=>iteF ?_)⟩
   ·refine ⟨_,rfl,_,rfl,_,_,rfl,rfl,.inr ⟨bt.mono (by decide),bcb.mono (by decide)⟩,_,rfl,_,rfl,_,_,rfl,rfl,.inr ⟨bct.mono (by decide),bb.mono (by decide)⟩,_,_,rfl,rfl,_,rfl,iteDF (n2 z) ?_⟩
    exact key
   ·exact key
  case keyp =>
   refine ⟨_,rfl,_,rfl,_,_,rfl,rfl,.inr ⟨bt.mono (by decide),bcb.mono (by decide)⟩,_,rfl,_,rfl,_,_,rfl,rfl,.inr ⟨bct.mono (by decide),bb.mono (by decide)⟩,_,_,rfl,rfl,_,rfl,iteD (fun z=>?_) (fun _=>iteF ⟨_,_,_,_,rfl,s⟩)⟩
   refine ⟨_,rfl,o2,_,rfl,.inr (SqT.of f2),_,rfl,(by show 2≤sizeLine;decide),fun a1 ha1=>?_⟩
   have s6:=same_new ha1 (.tup [.int (((t.map V.int).length:Nat):Int),.ref o2])
   refine ⟨_,rfl,tA,_,rfl,.inr (SqT.of (s6 _ _ ht6)),_,rfl,(by show 2≤sizeLine;decide),fun a2 ha2=>?_⟩
   have s7:=same_new ha2 (.tup [.int (((c.map V.int).length:Nat):Int),.ref tA])
   refine ⟨a1,a2,o2,tA,_,_,t,c,rfl,rfl,SqT.of (s7 _ _ upd_same),SqT.of upd_same,SqT.of (s7 _ _ (s6 _ _ f2)),SqT.of (s7 _ _ (s6 _ _ ht6)),?_,_,rfl,iteF ⟨_,_,_,_,rfl,s.trans (s6.trans s7)⟩⟩
   rcases eqv z with rfl | bf
   ·exact .inr ⟨rfl,.inr rfl⟩
   ·rw [List.length_map,List.length_map]
    rcases bf with l | ⟨l,lx⟩
    ·exact .inl (by omega)
    ·refine .inr ⟨by omega,.inl ⟨fun e=>?_,lx⟩⟩
     rw [e,ht6] at f2
     have e3:c.map V.int=t.map V.int:=by injection f2 with f2;injection f2
     have e4:c=t:=(List.map_inj_right (fun a b h=>by injection h)).mp e3
     rw [e4] at lx
     exact Lx.irr t lx

def spIs (K:PySem.W.Frag):Sp:=fun vs H Q _=>∃ (a b:Addr) (ws:List Int),vs=[.ref a,.ref b]∧TupK K H a (ws.map V.int)∧TupK K H b (ws.map V.int)∧ws.length≤1000∧Q (.bl true) H
theorem d_l_is (T:Txt K mg):DefOk P w K mg base "_law_is" ["_law_found","_law_due"] 2 (spIs K):=by
 obtain ⟨f,fd,F,hm,hb⟩:=T.h_l_is
 refine ⟨f,fd,F.ok sc_l_is (fun vs H Q E h=>?_) (fun cdv A outer s H vs Q E hr h=>?_),hm,F.kp,hb⟩
 ·obtain ⟨a,b,ws,rfl,_⟩:=h
  rfl
 obtain ⟨a,b,ws,rfl,hA,hB,hl,q⟩:=h
 refine ⟨_,(@pss_cons _ _ _ _ _ (ps_if (pw_or (pt_not (pt_val (pe_callB call_isinstT (by rfl) T.z_isinstance PyProof.Rows.boot_isinstance (pa_cons (pv 0) (pa_cons (pe_bltn (by rfl) T.z_tuple PyProof.Rows.boot_tuple (v:=.ty "tuple") rfl) pa_nil))))) (pw_or1 (pt_cmp (pc_neI (pe_callB call_len_seq (by rfl) T.z_len PySem.boot_len (pa_cons (pv 0) pa_nil)) (pe_callB call_len_seq (by rfl) T.z_len PySem.boot_len (pa_cons (pv 1) pa_nil)))))).pt
 (@pss_one _ _ _ (@ps_ret _ _ _ _ pe_bl))
 pss_nil)
 (@pss_cons _ _ _ _ _ (ps_for PassesOwn.never rfl (pi_range1 (by rfl) T.z_range (pa_cons (pe_callB call_len_seq (by rfl) T.z_len PySem.boot_len (pa_cons (pv 1) pa_nil)) pa_nil)) (pg_name (i:=2) sc_l_is.nd rfl (Or.inl rfl))
 (@pss_one _ _ _ (ps_if (pw_or (pt_not (pt_val (pe_callD (d_l_whole T) hr (pa_cons (@pe_ix _ _ _ _ _ _ _ ix_tup (pv 0) (pv 2) (fun _ _=>rfl)) pa_nil)))) (pw_or1 (pt_cmp (pc_neI (@pe_ix _ _ _ _ _ _ _ ix_tup (pv 0) (pv 2) (fun _ _=>rfl)) (@pe_ix _ _ _ _ _ _ _ ix_tup (pv 1) (pv 2) (fun _ _=>rfl)))))).pt
 (@pss_one _ _ _ (@ps_ret _ _ _ _ pe_bl))
 pss_nil)))
 (@pss_one _ _ _ (@ps_ret _ _ _ _ pe_bl)))),?_⟩
 refine ⟨_,rfl,_,"tuple",_,_,rfl,.inr ⟨a,_,rfl,rfl,hA.sq⟩,kit_same _,_,rfl,?_⟩
 refine iteF ?_
 refine ⟨_,rfl,a,_,rfl,.inr (hA.sq),_,rfl,b,_,rfl,.inr (hB.sq),_,_,rfl,rfl,_,rfl,?_⟩
 refine iteNS rfl ?_
 have hlen:(ws.map V.int).length=ws.length:=List.length_map _
 refine ⟨_,rfl,b,_,rfl,.inr (hB.sq),_,rfl,by omega,by rw [hlen];omega,?_⟩
 rw [Int.toNat_natCast,hlen]
 refine for_range (lo:=0) (n:=ws.length) (fun i σ H'=>∃ (k:Option V),σ=[some (.ref a),some (.ref b),k]∧H'=H) ⟨none,rfl,rfl⟩ ?_ ?_
 ·rintro i σ H' hi ⟨k,rfl,rfl⟩
  have ea:atI (ws.map V.int) (0 + (i:Int))=some (.int ws[i]):=by
   rw [Int.zero_add]
   exact atI_nat (by rw [List.getElem?_map,List.getElem?_eq_getElem hi] <;> rfl)
  refine ⟨_,rfl,_,rfl,a,_,_,_,rfl,rfl,hA.sq,ea,_,rfl,_,rfl,?_⟩
  refine iteF ?_
  refine ⟨_,rfl,_,rfl,a,_,_,_,rfl,rfl,hA.sq,ea,_,rfl,_,rfl,b,_,_,_,rfl,rfl,hB.sq,ea,_,_,rfl,rfl,_,rfl,?_⟩
  exact iteNS rfl ⟨_,rfl,rfl⟩
 ·rintro σ H' ⟨k,rfl,rfl⟩
  exact q

theorem d_m_Lathe_pitch (T:Txt K mg):MethOk P w K mg base (cOf mg "Lathe") "pitch" ["self"] 9 (spAsk K mg (tellOpt K PS.pitch)):=by
 obtain ⟨f,fd,F,hm,hb⟩:=T.hm_Lathe_pitch
 refine ⟨f,fd,F.ok1 sc_m_Lathe_pitch (fun vs H Q E h=>?_) (fun cdv A outer s H vs Q E hr h=>?_),hm,T.cl_Lathe,hb⟩
 ·obtain ⟨a,l,F,rfl,_⟩:=h
  rfl
 obtain ⟨a,l,F,rfl,R0,q⟩:=h
 have R1:=R0
 obtain ⟨Fp,dx,s,pa,ra,rdx,ea,es,R⟩:=R1
 refine ⟨_,(@pss_one _ _ _ (@ps_ret _ _ _ _ (pe_fld (pe_fld (pv 0) rfl) rfl))),?_⟩
 obtain ⟨pdx,t,rv,w,c,fv,tc,mc,cu,Rp⟩:=R.pc
 exact ⟨_,rfl,_,_,_,_,_,rfl,R.ob,T.cl_Lathe,T.na_Lathe_piece,rfl,_,_,_,_,_,rfl,Rp.ob,T.cl_Piece,T.na_Piece_ratio,rfl,q _ _ F R0 (Fit.refl _ _) Rp.ra.fr⟩

def spScrew (K:PySem.W.Frag) (mg:Str→Option Value):Sp:=fun vs H Q _=>∃ a p Fp,vs=[.ref a]∧PRep K mg Fp H a p∧PcO p∧∀ v H',Same H H'→(∃ n,v = .ref n∧FrA K H' n p.screw)→Q v H'
theorem d_m_Piece_screw (T:Txt K mg):MethOk P w K mg base (cOf mg "Piece") "screw" ["self"] 4 (spScrew K mg):=by
 obtain ⟨f,fd,F,hm,hb⟩:=T.hm_Piece_screw
 refine ⟨f,fd,F.ok1 sc_m_Piece_screw (fun vs H Q E h=>?_) (fun cdv A outer s H vs Q E hr h=>?_),hm,T.cl_Piece,hb⟩
 ·obtain ⟨a,p,Fp,rfl,_⟩:=h
  rfl
 obtain ⟨a,p,Fp,rfl,⟨dx,t,rv,w,c,fv,tc,mc,cu,R⟩,Pc0,q⟩:=h
 refine ⟨_,(@pss_cons _ _ _ _ _ (ps_if (pt_cmp (pc_isN (pe_fld (pv 0) rfl)))
 (@pss_one _ _ _ (@ps_ret _ _ _ _ (pe_glob (by rfl) T.g_NOUGHT (v:=.ref (cOf mg "NOUGHT")) rfl)))
 pss_nil)
 (@pss_one _ _ _ (@ps_ret _ _ _ _ (pe_callD (d_f_product T) hr (pa_cons (pe_fld (pv 0) rfl) (pa_cons (pe_fld (pv 0) rfl) pa_nil)))))),?_⟩
 have hra:=R.ra
 rcases Pc0 with e | ⟨ts,P⟩
 ·rw [e] at hra
  cases (show rv = .non from hra)
  refine ⟨_,rfl,_,_,_,_,_,rfl,R.ob,T.cl_Piece,T.na_Piece_ratio,rfl,_,rfl,iteDT rfl ?_⟩
  exact q _ _ (Same.refl _) ⟨_,rfl,by rw [e];exact .inr T.t_NOUGHT⟩
 ·rw [P.ep] at hra
  obtain ⟨rr,rfl,hra⟩:=hra
  have L:=P.tr.pl
  have wN:=P.workN
  refine ⟨_,rfl,_,_,_,_,_,rfl,R.ob,T.cl_Piece,T.na_Piece_ratio,rfl,_,rfl,iteDF (fun z=>by cases z) ?_⟩
  refine ⟨_,rfl,_,_,_,_,_,rfl,R.ob,T.cl_Piece,T.na_Piece_ratio,rfl,_,rfl,_,_,_,_,_,rfl,R.ob,T.cl_Piece,T.na_Piece_work_turns,rfl,rr,w,(ratio ts).1,(ratio ts).2,p.work.1,p.work.2,rfl,.inl hra,R.wo,L.bp.mono (by decide),L.bq.mono (by decide),wN.1.mono (by decide),wN.2.mono (by decide),P.tr.rok.ne,P.w.ne,fun n hn=>?_⟩
  refine q _ _ (same_new hn _) ⟨n,rfl,.inl ?_⟩
  have e:p.screw=qmul (ratio ts) p.work:=by unfold PS.screw;rw [P.ep]
  rw [e];exact upd_same

theorem d_m_Lathe_screw (T:Txt K mg):MethOk P w K mg base (cOf mg "Lathe") "screw" ["self"] 9 (spAsk K mg (tellFrac K PS.screw)):=by
 obtain ⟨f,fd,F,hm,hb⟩:=T.hm_Lathe_screw
 refine ⟨f,fd,F.ok1 sc_m_Lathe_screw (fun vs H Q E h=>?_) (fun cdv A outer s H vs Q E hr h=>?_),hm,T.cl_Lathe,hb⟩
 ·obtain ⟨a,l,F,rfl,_⟩:=h
  rfl
 obtain ⟨a,l,F,rfl,R0,q⟩:=h
 have R1:=R0
 obtain ⟨Fp,dx,s,pa,ra,rdx,ea,es,R⟩:=R1
 refine ⟨_,(@pss_one _ _ _ (@ps_ret _ _ _ _ (pe_methX0 (d_m_Piece_screw T) hr (passOut out_cx) (pe_fld (pv 0) rfl)))),?_⟩
 obtain ⟨pdx,t,rv,w,c,fv,tc,mc,cu,Rp⟩:=R.pc
 exact ⟨_,rfl,_,_,_,_,_,rfl,R.ob,T.cl_Lathe,T.na_Lathe_piece,rfl,pa,pdx,_,rfl,Rp.ob,rfl,pa,l.ps,Fp,rfl,R.pc,R.re.pco,fun v H' s' hv=>q v H' F (R0.same s') (Fit.of_same s') hv⟩

theorem best_sub37 {ws sw c:List Int} {x y:Int} (hp:sw.Perm ws) (B:Best x y (allT sw) c):(∀ v∈c,v∈ws)∧c.Nodup:=by
 obtain ⟨u,v,e,_,_⟩:=B.ex
 have hc:c∈allT sw:=by rw [e];simp
 unfold allT at hc
 rw [List.mem_append,mem_pairsM,mem_foursM] at hc
 rcases hc with ⟨a,b,ha,hb,ab,rfl⟩ | ⟨a,b,c',d,⟨ha,hb,hc',hd⟩,n1,n2,n3,n4,n5,n6,rfl⟩
 ·refine ⟨fun v hv=>?_,?_⟩
  ·simp only [List.mem_cons,List.not_mem_nil,or_false] at hv
   rcases hv with rfl | rfl
   ·exact hp.mem_iff.mp ha
   ·exact hp.mem_iff.mp hb
  ·simp [ab]
 ·refine ⟨fun v hv=>?_,?_⟩
  ·simp only [List.mem_cons,List.not_mem_nil,or_false] at hv
   rcases hv with rfl | rfl | rfl | rfl
   ·exact hp.mem_iff.mp ha
   ·exact hp.mem_iff.mp hb
   ·exact hp.mem_iff.mp hc'
   ·exact hp.mem_iff.mp hd
  ·simp [n1,n2,n3,n4,n5,n6]
theorem qadd_zero_l {x:Q2} (h:Ok2 x):qadd (0,1) x=x:=by
 refine qv_inj (qadd_ok (by decide) h.ne) h ?_
 rw [qv_add (by decide) h.ne,qv_zero,Rat.zero_add]
structure Cut37 (ws ts:List Int) (n t b:Int) (l1 l2 l3:LS):Prop where
 e1:l1=(⟨ws,n,[]⟩:LS).push (Req.mount ts).deed
 e2:l2=l1.push Req.close.deed
 e3:l3=l2.push (Req.cut t b).deed
 d1:due ⟨ws,n,[]⟩ (.mount ts)=none
 d2:due l1 .close=none
 d3:due l2 (.cut t b)=none
 pl:l3.ps.place=qmul (ratio ts) (t,b)
 sc:l3.ps.screw=qmul (ratio ts) (t,b)
 pi:l3.ps.pitch=some (ratio ts)
 sh:l3.shown=some (0,1)
 la:l3.last=some 0
theorem cut37 {ws ts:List Int} {n t b:Int} (T:Train ts) (nd:ts.Nodup) (sub:∀ v∈ts,v∈ws) (t0:1≤t) (t1:t≤30) (b1:1≤b) (b2:b≤30):∃ l1 l2 l3,Cut37 ws ts n t b l1 l2 l3:=by
 have b0:b≠0:=by omega
 have rO:=red_ok (t:=t) b0
 have e1:((⟨ws,n,[]⟩:LS).push (Req.mount ts).deed).ps = { ps0 with train:=ts,pitch:=some (ratio ts) }:=by rw [LS.ps_push];rfl
 have P1:Pc ((⟨ws,n,[]⟩:LS).push (Req.mount ts).deed).ps ts:=by rw [e1];exact Pc.new T nd
 have d1:due ⟨ws,n,[]⟩ (.mount ts)=none:=good_mount sub rfl T.len nd (by show 0<100;decide)
 have R1:∀ l:LS,l=(⟨ws,n,[]⟩:LS).push (Req.mount ts).deed→l.book.length=1:=fun l h=>by rw [h];rfl
 generalize hl1:(⟨ws,n,[]⟩:LS).push (Req.mount ts).deed=l1 at e1 P1 R1
 have k1:=R1 l1 rfl
 have d2:due l1 .close=none:=good_close P1.some (by rw [e1];rfl) (by rw [e1];rfl) (by omega)
 have e2:(l1.push Req.close.deed).ps = { ps0 with train:=ts,pitch:=some (ratio ts),closed:=true,off:=some (0,1) }:=by
  rw [LS.ps_push,e1];rfl
 have P2:∀ l:LS,l=l1.push Req.close.deed→Pc l.ps ts:=fun l h=>by
  rw [h,e2]
  have z:=Pc.new T nd
  exact ⟨z.tr,z.nd,z.et,z.ep,z.w,z.pl,z.t,z.m,fun x hx=>by cases hx;exact ok_zero,z.dw,z.dt,z.dp,z.dm,fun x hx=>by cases hx;exact z.dp,z.lw,z.t0,z.t1,z.m0,z.m1,z.lp,fun x hx=>by cases hx;exact z.lp,fun _=>⟨0,rfl⟩,z.cu⟩
 have P2:=P2 _ rfl
 have k2:(l1.push Req.close.deed).book.length=2:=by rw [push_len,k1]
 have te2:(l1.push Req.close.deed).teeth=n:=by rw [← hl1];rfl
 generalize hl2:l1.push Req.close.deed=l2 at e2 P2 k2 te2
 have z2:qv l2.ps.turned≤((0:Int):Rat):=by rw [e2];show qv (0,1)≤_;rw [qv_zero];decide +kernel
 have d3:due l2 (.cut t b)=none:=good_cut P2 t0 b1 (by omega) (by rw [e2]) (by omega) (le_most (le_step z2 (rabs_red (m:=30) b1 (by omega) t1) (c:=30) (by decide)) (by decide))
 have e3:(l2.push (Req.cut t b).deed).ps=l2.ps.after (.cut (red t b)):=LS.ps_push _ _
 rw [e2] at e3
 have gm:qmul (ratio ts) (red t b)=qmul (ratio ts) (t,b):=(qmul_red T.rok.ne b0).symm
 have gO:=qmul_ok T.rok.ne (b:=(t,b)) b0
 refine ⟨l1,l2,_,hl1.symm,hl2.symm,rfl,d1,d2,d3,?_,?_,by rw [e3];rfl,?_,?_⟩
 ·rw [e3]
  show qadd (0,1) (qmul (ratio ts) (red t b))=_
  rw [gm,qadd_zero_l gO]
 ·rw [e3]
  show qmul (ratio ts) (qadd (0,1) (red t b))=_
  rw [qadd_zero_l rO,gm]
 ·unfold LS.shown
  rw [e3]
  show some (red (0 % ((l2.push (Req.cut t b).deed).teeth * 1)) 1)=_
  rw [Int.zero_emod,red_zero (by decide)]
 ·unfold LS.last
  rw [e3]
  show some (0 * (ratio ts).2 % (ratio ts).1)=_
  rw [Int.zero_mul,Int.zero_emod]
def spLaw (K:PySem.W.Frag):Sp:=fun vs H Q _=>∃ (a:Addr) (ns:List Int),vs=[.ref a]∧SqL K H a (ns.map V.int)∧ns.length≤63∧∀ H',Q (.bl true) H'
abbrev depth:Nat:=12
theorem ok_law {f:Addr} {fd:FuncData} (F:Fun K "law" "law" s_law f fd) (T:Txt K mg):FnOk P w K mg base CX0 depth f fd ["_law_script"] (spLaw K):=by
 refine F.ok sc_law (fun vs H Q E h=>?_) (fun cdv A outer s H vs Q E hr h=>?_)
 ·obtain ⟨a,ns,rfl,_⟩:=h
  rfl
 obtain ⟨a,ns,rfl,hS,h63,q⟩:=h
 refine ⟨_,(@pss_cons _ _ _ _ _ (@ps_set _ _ 1 _ _ _ _ sc_law.nd rfl (Or.inl rfl) (pe_callD (d_l_lathe_shop T) hr (pa_cons (pv 0) pa_nil)) (by rfl) (by first | exact .inl rfl | exact .inr rfl))
 (@pss_cons _ _ _ _ _ (@ps_set _ _ 2 _ _ _ _ sc_law.nd rfl (Or.inl rfl) (pe_makeX (d_m_Lathe___init__ T) hr passNo (pa_cons (pv 1) (pa_cons (pe_callD (d_l_teeth T) hr (pa_cons (pv 0) pa_nil)) pa_nil))) (by rfl) (by first | exact .inl rfl | exact .inr rfl))
 (@pss_cons _ _ _ _ _ (@ps_set _ _ 3 _ _ _ _ sc_law.nd rfl (Or.inl rfl) (pe_callD (d_l_asked_pitch T) hr (pa_cons (pv 0) (pa_cons (pv 1) pa_nil))) (by rfl) (by first | exact .inl rfl | exact .inr rfl))
 (@pss_cons _ _ _ _ _ (@ps_set _ _ 4 _ _ _ _ sc_law.nd rfl (Or.inl rfl) (pe_methX (d_m_Lathe_wheels_for T) hr passNo (pv 2) (pa_cons (pv 3) pa_nil)) (by rfl) (by first | exact .inl rfl | exact .inr rfl))
 (@pss_cons _ _ _ _ _ (ps_if (pw_or (pt_not (pt_val (pe_callB call_isinst (by rfl) T.z_isinstance PyProof.Rows.boot_isinstance (pa_cons (pv 4) (pa_cons (pe_bltn (by rfl) T.z_tuple PyProof.Rows.boot_tuple (v:=.ty "tuple") rfl) pa_nil))))) (pw_or (pt_cmp (pc_neI (pe_callB call_len_seq (by rfl) T.z_len PySem.boot_len (pa_cons (pv 4) pa_nil)) pe_int)) (pw_or1 (pt_not (pt_val (pe_callB call_isinst (by rfl) T.z_isinstance PyProof.Rows.boot_isinstance (pa_cons (@pe_ix _ _ _ _ _ _ _ ix_tup (pv 4) pe_int (fun _ _=>rfl)) (pa_cons (pe_bltn (by rfl) T.z_tuple PyProof.Rows.boot_tuple (v:=.ty "tuple") rfl) pa_nil)))))))).pt
 (@pss_one _ _ _ (@ps_ret _ _ _ _ pe_bl))
 pss_nil)
 (@pss_cons _ _ _ _ _ (ps_for PassesOwn.never rfl (pi_tup (@pe_ix _ _ _ _ _ _ _ ix_tup (pv 4) pe_int (fun _ _=>rfl))) (pg_name (i:=5) sc_law.nd rfl (Or.inl rfl))
 (@pss_one _ _ _ (ps_if (pt_not (pt_val (pe_callD (d_l_whole T) hr (pa_cons (pv 5) pa_nil))))
 (@pss_one _ _ _ (@ps_ret _ _ _ _ pe_bl))
 pss_nil)))
 (@pss_cons _ _ _ _ _ (ps_if (pw_or (pt_not (pt_val (pe_callD (d_l_best T) hr (pa_cons (pv 1) (pa_cons (pv 3) (pa_cons (@pe_ix _ _ _ _ _ _ _ ix_tup (pv 4) pe_int (fun _ _=>rfl)) pa_nil)))))) (pw_or1 (pt_not (pt_val (pe_callD (d_l_is T) hr (pa_cons (@pe_ix _ _ _ _ _ _ _ ix_tup (pv 4) pe_int (fun _ _=>rfl)) (pa_cons (pe_callD (d_l_ratio T) hr (pa_cons (@pe_ix _ _ _ _ _ _ _ ix_tup (pv 4) pe_int (fun _ _=>rfl)) pa_nil)) pa_nil))))))).pt
 (@pss_one _ _ _ (@ps_ret _ _ _ _ pe_bl))
 pss_nil)
 (@pss_cons _ _ _ _ _ (@ps_set _ _ 6 _ _ _ _ sc_law.nd rfl (Or.inl rfl) (pe_callD (d_l_draw T) hr (pa_cons (pv 0) (pa_cons pe_int pa_nil))) (by rfl) (by first | exact .inl rfl | exact .inr rfl))
 (@pss_cons _ _ _ _ _ (@ps_set _ _ 7 _ _ _ _ sc_law.nd rfl (Or.inl rfl) (@pe_tup _ _ _ _ _ (pa_cons (pe_op op_add pe_int (pe_op op_mod (pv 6) pe_int)) (pa_cons (pe_op op_add pe_int (pe_op op_mod (pe_op op_fdivP (pv 6) pe_int) pe_int)) pa_nil))) (by rfl) (by first | exact .inl rfl | exact .inr rfl))
 (@pss_cons _ _ _ _ _ (ps_expr (pe_methX (d_m_Lathe_mount T) hr passNo (pv 2) (pa_cons (@pe_ix _ _ _ _ _ _ _ ix_tup (pv 4) pe_int (fun _ _=>rfl)) pa_nil)))
 (@pss_cons _ _ _ _ _ (ps_expr (pe_methX0 (d_m_Lathe_close_nut T) hr passNo (pv 2)))
 (@pss_cons _ _ _ _ _ (@ps_set _ _ 8 _ _ _ _ sc_law.nd rfl (Or.inl rfl) (pe_methX (d_m_Lathe_cut T) hr passNo (pv 2) (pa_cons (pv 7) pa_nil)) (by rfl) (by first | exact .inl rfl | exact .inr rfl))
 (@pss_cons _ _ _ _ _ (@ps_set _ _ 9 _ _ _ _ sc_law.nd rfl (Or.inl rfl) (pe_callD (d_l_mul T) hr (pa_cons (@pe_ix _ _ _ _ _ _ _ ix_tup (pv 4) pe_int (fun _ _=>rfl)) (pa_cons (pv 7) pa_nil))) (by rfl) (by first | exact .inl rfl | exact .inr rfl))
 (@pss_cons _ _ _ _ _ (ps_if (pw_or (pt_not (pt_val (pe_callD (d_l_is T) hr (pa_cons (pe_methX0 (d_m_Lathe_pitch T) hr passNo (pv 2)) (pa_cons (@pe_ix _ _ _ _ _ _ _ ix_tup (pv 4) pe_int (fun _ _=>rfl)) pa_nil))))) (pw_or1 (pt_not (pt_val (pe_callD (d_l_is T) hr (pa_cons (pe_methX0 (d_m_Lathe_screw T) hr passNo (pv 2)) (pa_cons (pv 9) pa_nil))))))).pt
 (@pss_one _ _ _ (@ps_ret _ _ _ _ pe_bl))
 pss_nil)
 (@pss_cons _ _ _ _ _ (ps_if (pw_or (pt_not (pt_val (pe_callD (d_l_is T) hr (pa_cons (@pe_ix _ _ _ _ _ _ _ ix_tup (pv 8) pe_int (fun _ _=>rfl)) (pa_cons (pv 9) pa_nil))))) (pw_or1 (pt_not (pt_val (pe_callD (d_l_is T) hr (pa_cons (@pe_ix _ _ _ _ _ _ _ ix_tup (pv 8) pe_int (fun _ _=>rfl)) (pa_cons (@pe_tup _ _ _ _ _ (pa_cons pe_int (pa_cons pe_int pa_nil))) pa_nil))))))).pt
 (@pss_one _ _ _ (@ps_ret _ _ _ _ pe_bl))
 pss_nil)
 (@pss_one _ _ _ (@ps_ret _ _ _ _ (pe_and (pe_callD (d_l_whole T) hr (pa_cons (@pe_ix _ _ _ _ _ _ _ ix_tup (pv 8) pe_int (fun _ _=>rfl)) pa_nil)) (pe_one (pe_cmp (pc_eqI (@pe_ix _ _ _ _ _ _ _ ix_tup (pv 8) pe_int (fun _ _=>rfl)) pe_int))))))))))))))))))))),?_⟩
 refine ⟨_,rfl,a,ns,rfl,hS,fun ws W H1 S l2 l12 s1 nW hW=>?_⟩
 refine ⟨_,rfl,_,rfl,a,ns,rfl,s1.seq hS,?_⟩
 obtain ⟨n,hn⟩:∃ n,n=2 + drawF ns 3 % 63:=⟨_,rfl⟩
 rw [← hn]
 have n0:2≤n:=by omega
 have n1:n≤64:=by omega
 have G:GoodShop ws n:=⟨l2,l12,S,n0,n1⟩
 intro x dx nx ndx ne
 have sx:Same H1 (upd (upd H1 dx (.own x)) x (.ins (cOf mg "Lathe") dx [])):=fun b o e=>by rw [upd_ne (ne_of_none e nx),upd_ne (ne_of_none e ndx)];exact e
 refine ⟨x,dx,W,ws,n,rfl,upd_same,(by rw [upd_ne ne,upd_same]),(hW.elim (fun h=>.inl (sx _ _ h)) fun h=>.inr (sx _ _ h)),by omega,S.bd,(bd20 (by omega) (by omega)).mono (by decide),fun _ H2 F2 R2 k2 f2=>⟨rfl,?_⟩,fun z=>absurd G z⟩
 have fit2:=Fit.made nx ndx k2 f2
 have hO2:SqO K F2 H2 a (ns.map V.int):=SqO.fit (F:=fun _=>False) ⟨s1.seq hS,.inl id⟩ fit2
 have sh2:ShopO F2 H2 W ws:=ShopO.fit (F:=fun _=>False) ⟨hW,id⟩ fit2
 clear fit2 k2 f2 sx hn hW
 -- the pitch,and the train told for it
 refine ⟨_,rfl,_,rfl,a,W,ns,ws,rfl,hO2.1,sh2.sq,S,l2,l12,fun p px py H3 s3 hp pok=>?_⟩
 have R3:=R2.same s3
 have hO3:=hO2.same s3
 have sh3:=sh2.same s3
 have b200:∀ {i:Int},-1000000≤i→i≤1000000→Bd 200 i:=fun h1 h2=>Bd.of60 (by omega) (by omega)
 have bx:Bd 200 px:=b200 (by omega) (by omega)
 have bY:Bd 200 py:=b200 (by omega) (by omega)
 obtain ⟨dx3,fs3,ins3,no3⟩:=R3.ins
 refine ⟨_,rfl,x,dx3,fs3,rfl,ins3,no3 "wheels_for" (by decide +kernel),_,rfl,x,p,_,F2,px,py,rfl,R3,hp,bx,bY,fun _ sw ts o o1 o2 H4 hpm hsw B Tr s4 ho ho1 ho2=>?_,fun z=>absurd pok z⟩
 have R4:=R3.same s4
 have hO4:=hO3.same s4
 have sh4:=sh3.same s4
 have hp4:=s4 _ _ hp
 obtain ⟨sub,nd⟩:=best_sub37 (ws:=ws) hpm B
 have er:=Tr.pl.ep
 have rp:=Tr.rok.pos
 have Lp:=Tr.pl
 have ho1:H4 o1=some (.tup [.int (ratio ts).1,.int (ratio ts).2]):=ho1
 clear R2 R3 hO2 hO3 sh2 sh3 s3 s4 hp ins3 no3
 refine ⟨_,rfl,_,"tuple",_,_,rfl,.tup ho,kit_same _,_,rfl,iteF ?_⟩
 refine ⟨_,rfl,o,_,rfl,.inr (SqT.of ho),_,_,rfl,rfl,_,rfl,iteNS rfl ?_⟩
 refine ⟨_,rfl,_,_,_,_,rfl,rfl,SqT.of (ho),rfl,_,"tuple",_,_,rfl,.tup ho2,kit_same _,_,rfl,iteF ?_⟩
 refine ⟨_,rfl,_,_,_,_,rfl,rfl,SqT.of (ho),rfl,o2,rfl,⟨_,SqT.of ho2⟩,for_tup (K:=K) (a:=o2) (xs:=ts.map V.int) (fun i σ G=>∃ v,σ=[some (.ref a),some (.ref W),some (.ref x),some (.ref p),some (.ref o),v,none,none,none,none]∧G=H4)
  ⟨none,rfl,rfl⟩ (fun i σ G _ ⟨_,_,e⟩=>by rw [e];exact SqT.of ho2) ?_ ?_⟩
 ·rintro i v σ G hv ⟨v5,rfl,rfl⟩
  rw [List.getElem?_map] at hv
  obtain ⟨y,hy,rfl⟩:=Option.map_eq_some_iff.mp hv
  exact ⟨_,rfl,y,rfl,_,rfl,iteF ⟨_,rfl,rfl⟩⟩
 rintro σ G ⟨v5,rfl,rfl⟩
 refine ⟨_,rfl,_,rfl,_,rfl,_,_,_,_,rfl,rfl,SqT.of (ho),rfl,W,p,o2,ws,sw,ts,px,py,rfl,sh4.sq,S,l12,.inl hp4,bx,bY,ho2,hpm,hsw,B,fun H5 s5=>⟨_,rfl,iteF ?_⟩⟩
 have R5:=R4.same s5
 have ho5:=s5 _ _ ho
 have ho15:=s5 _ _ ho1
 have ho25:=s5 _ _ ho2
 have hO5:=hO4.same s5
 refine ⟨_,rfl,_,_,_,_,rfl,rfl,SqT.of (ho5),rfl,_,rfl,_,_,_,_,rfl,rfl,SqT.of (ho5),rfl,o2,ts,rfl,.inr (SqT.of ho25),Tr,fun q6 hq6=>?_⟩
 have s6:=same_new hq6 (.tup [.int (ratio ts).1,.int (ratio ts).2])
 refine ⟨o1,q6,[(ratio ts).1,(ratio ts).2],rfl,.inl (s6 _ _ ho15),.inl upd_same,by simp,_,rfl,iteF ?_⟩
 have R6:=R5.same s6
 have ho6:=s6 _ _ ho5
 have ho16:=s6 _ _ ho15
 have ho26:=s6 _ _ ho25
 have hO6:=hO5.same s6
 generalize hG:upd H5 q6 _=H6
 have R6:LRep K mg H6 x ⟨ws,n,[]⟩ F2:=by rw [← hG];exact R6
 have ho6:H6 o=some (.tup [.ref o1,.ref o2]):=by rw [← hG];exact ho6
 have ho16:H6 o1=some (.tup [.int (ratio ts).1,.int (ratio ts).2]):=by rw [← hG];exact ho16
 have ho26:H6 o2=some (.tup (ts.map V.int)):=by rw [← hG];exact ho26
 have hO6:SqO K F2 H6 a (ns.map V.int):=by rw [← hG];exact hO6
 clear hG s6 hq6 R5 ho5 ho15 ho25 hO5 s5 R4 ho ho1 ho2 hO4 sh4 hp4
 refine ⟨_,rfl,a,ns,6,rfl,hO6.1,by decide,by decide,?_⟩
 generalize drawF ns 6=far
 refine ⟨_,rfl,_,_,rfl,rfl,(by show (0:Int)<30;decide),_,_,rfl,rfl,_,rfl,_,_,rfl,rfl,⟨by decide,by unfold Bd;decide⟩,_,_,rfl,rfl,(by show (0:Int)<30;decide),_,_,rfl,rfl,(by show 2≤sizeLine;decide),fun tn htn=>?_⟩
 dsimp only
 obtain ⟨t,ht⟩:∃ t,t=1 + far % 30:=⟨_,rfl⟩
 obtain ⟨b,hb⟩:∃ b,b=1 + far / 30 % 30:=⟨_,rfl⟩
 rw [← ht,← hb]
 have t01:1≤t∧t≤30:=by omega
 have b01:1≤b∧b≤30:=by omega
 have s7:=same_new htn (.tup [.int t,.int b])
 have en:upd H6 tn (.tup [.int t,.int b]) tn=some (.tup [.int t,.int b]):=upd_same
 have R7:=R6.same s7
 have ho7:=s7 _ _ ho6
 have ho17:=s7 _ _ ho16
 have ho27:=s7 _ _ ho26
 generalize upd H6 tn (.tup [.int t,.int b])=H7 at en R7 ho7 ho17 ho27 ⊢
 clear s7 htn R6 ho6 ho16 ho26 hO6 ht hb
 obtain ⟨l1,l2,l3,C⟩:=cut37 (ws:=ws) (n:=n) Tr nd sub t01.1 t01.2 b01.1 b01.2
 -- the mounting
 obtain ⟨dx7,fs7,ins7,no7⟩:=R7.ins
 have g1:=C.d1
 refine ⟨_,rfl,x,dx7,fs7,rfl,ins7,no7 "mount" (by decide +kernel),_,rfl,_,_,_,_,rfl,rfl,SqT.of (ho7),rfl,x,o2,ts,_,F2,rfl,R7,.inr (.inl ho27),Nat.le_trans Tr.len2 (by decide),Tr.bd,⟨fun _ r8 H8 F8 R8 f8 _=>?_,fun e he=>by rw [g1] at he;cases he⟩⟩
 rw [← C.e1] at R8
 have ho8:=f8.tup _ _ ho7
 have ho18:=f8.tup _ _ ho17
 have en8:=f8.tup _ _ en
 clear R7 ho7 ho17 ho27 en ins7 no7 f8
 -- the closing
 obtain ⟨dx8,fs8,ins8,no8⟩:=R8.ins
 have g2:=C.d2
 refine ⟨_,rfl,x,dx8,fs8,rfl,ins8,no8 "close_nut" (by decide +kernel),x,l1,F8,rfl,R8,⟨fun _ r9 H9 F9 R9 f9 _=>?_,fun e he=>by rw [g2] at he;cases he⟩⟩
 rw [← C.e2] at R9
 have ho9:=f9.tup _ _ ho8
 have ho19:=f9.tup _ _ ho18
 have en9:=f9.tup _ _ en8
 clear R8 ho8 ho18 en8 ins8 no8 f9
 -- the cut
 obtain ⟨dx9,fs9,ins9,no9⟩:=R9.ins
 have g3:=C.d3
 have bt:Bd 200 t:=b200 (by omega) (by omega)
 have bb:Bd 200 b:=b200 (by omega) (by omega)
 refine ⟨_,rfl,x,dx9,fs9,rfl,ins9,no9 "cut" (by decide +kernel),_,rfl,x,tn,t,b,l2,F9,rfl,R9,.inl en9,bt,bb,⟨fun _ rs Ha Fa Ra fa st=>?_,fun e he=>by rw [g3] at he;cases he⟩⟩
 rw [← C.e3] at Ra st
 have hoa:=fa.tup _ _ ho9
 have ho1a:=fa.tup _ _ ho19
 have ena:=fa.tup _ _ en9
 clear R9 ho9 ho19 en9 ins9 no9 fa
 have b0:b≠0:=by omega
 refine ⟨_,rfl,_,_,_,_,rfl,rfl,SqT.of (hoa),rfl,_,rfl,o1,tn,(ratio ts).1,(ratio ts).2,t,b,rfl,.inl ho1a,.inl ena,Lp.bp.mono (by decide),Lp.bq.mono (by decide),bt.mono (by decide),bb.mono (by decide),by omega,by omega,fun nc hnc=>?_⟩
 have fc:=FrA.made (K:=K) hnc (qmul (ratio ts) (t,b))
 have sb:=same_new hnc (.tup [.int (qmul (ratio ts) (t,b)).1,.int (qmul (ratio ts) (t,b)).2])
 have Rb:=Ra.same sb
 have hob:=sb _ _ hoa
 have ho1b:=sb _ _ ho1a
 have stb:=st.tups (Same.tups sb)
 generalize hG:upd Ha nc _=Hb
 have fc:FrA K Hb nc (qmul (ratio ts) (t,b)):=by rw [← hG];exact fc
 have Rb:LRep K mg Hb x l3 Fa:=by rw [← hG];exact Rb
 have hob:Hb o=some (.tup [.ref o1,.ref o2]):=by rw [← hG];exact hob
 have ho1b:Hb o1=some (.tup [.int (ratio ts).1,.int (ratio ts).2]):=by rw [← hG];exact ho1b
 have stb:StandA K Hb rs l3:=by rw [← hG];exact stb
 clear hG sb hnc Ra hoa ho1a st ena
 -- what is told
 obtain ⟨dxb,fsb,insb,nob⟩:=Rb.ins
 refine ⟨_,rfl,x,dxb,fsb,rfl,insb,nob "pitch" (by decide +kernel),x,l3,Fa,rfl,Rb,fun v Hc Fc Rc f1 k1=>?_⟩
 have k1:FrO K Hc v l3.ps.pitch:=k1
 rw [C.pi] at k1
 obtain ⟨va,rfl,hva⟩:=k1
 have hoc:=f1.tup _ _ hob
 have ho1c:=f1.tup _ _ ho1b
 have fcc:=fc.tups f1.tup
 have stc:=stb.tups f1.tup
 refine ⟨_,rfl,_,_,_,_,rfl,rfl,SqT.of (hoc),rfl,va,o1,[(ratio ts).1,(ratio ts).2],rfl,hva,.inl ho1c,by simp,_,rfl,iteF ?_⟩
 obtain ⟨dxc,fsc,insc,noc⟩:=Rc.ins
 refine ⟨_,rfl,x,dxc,fsc,rfl,insc,noc "screw" (by decide +kernel),x,l3,Fc,rfl,Rc,fun v Hd Fd Rd f2 k2=>?_⟩
 obtain ⟨vb,rfl,hvb⟩:=k2
 rw [C.sc] at hvb
 have fcd:=fcc.tups f2.tup
 refine ⟨_,rfl,vb,nc,[(qmul (ratio ts) (t,b)).1,(qmul (ratio ts) (t,b)).2],rfl,hvb,fcd,by simp,_,rfl,iteF ?_⟩
 obtain ⟨ca,sv,gr,j1,j2,j3,j4⟩:=stc.tups f2.tup
 rw [C.pl] at j2
 rw [C.sh] at j3
 rw [C.la] at j4
 obtain ⟨sa,rfl,hsa⟩:=j3
 obtain rfl:gr = .int 0:=j4
 refine ⟨_,rfl,_,_,_,_,rfl,rfl,SqT.of (j1),rfl,_,rfl,ca,nc,[(qmul (ratio ts) (t,b)).1,(qmul (ratio ts) (t,b)).2],rfl,j2,fcd,by simp,_,rfl,iteF ?_⟩
 refine ⟨_,rfl,_,_,_,_,rfl,rfl,SqT.of (j1),rfl,(by show 2≤sizeLine;decide),fun z0 hz0=>?_⟩
 have sz:=same_new hz0 (.tup [.int 0,.int 1])
 refine ⟨sa,z0,[0,1],rfl,hsa.mono sz,.inl upd_same,by simp,_,rfl,iteF ?_⟩
 have j1z:=sz _ _ j1
 refine ⟨_,rfl,_,_,_,_,rfl,rfl,SqT.of (j1z),rfl,0,rfl,_,rfl,iteT ?_⟩
 refine ⟨_,rfl,_,_,_,_,rfl,rfl,SqT.of (j1z),rfl,_,_,rfl,rfl,?_⟩
 exact q _

end
theorem all_mk {l:PySem.W.OpenLaw} {w:World} {K:PySem.W.Frag} {h:Heap} {mg:Str→Option Value} {fa f:Addr} {oc kV doc pm cdv ct:Value} {od an:Option Addr} {osl:Array (Option Value)} (X:K.In h) (G:h.Ns mainGlobals mg) (hfa:mg "law" = some (.ref fa)) (T:Txt K mg)
  (a:PySem.W.nsIn K mainGlobals "law" = some (some (.ref f))) (hl:K.lookup f=some ⟨oc,od,.func (PySem.W.fnOf "law" "law" (defArgs s_law) (defBody s_law) (defScope s_law) .none kV doc pm an cdv ct),osl⟩) (c:PySem.W.codeIn K cdv "law" = true) (k:PySem.W.keepIn K (.ref f)=true)
  : ∃ fd:FuncData,(∀ (s:Shared) (v:Value),BindsTo s fd ⟨[v],[]⟩ [("_law_script",v)])∧∀ base:Heap,K.In base→base.Ns mainGlobals mg→FnOk l.prog w K mg base CX0 depth fa fd ["_law_script"] (spLaw K):=by
 have e:=hfa.symm.trans (PySem.W.mg_of X G a)
 cases e
 exact ⟨_,fun s v=>.of_eq rfl,fun base _ _=>ok_law (fun_mk (st:=s_law) hl c k) T⟩
theorem walk {l:PySem.W.OpenLaw} {q:Program} {loose:List Str} {XP:(Str→Option Value)→Heap→Prop} {YP:World→Heap→Prop} {d:DefRec} {K:Params→PySem.W.Frag} (hn:l.most=some 63) (hdf:d.params.defaults=[])
  (hY:∀ (w:World) (h:Heap),YP w h→(K w.params).In h)
  (F:∀ (w:World) (mg:Str→Option Value) (fa:Addr) (h:Heap),(K w.params).In h→h.Ns mainGlobals mg→mg d.name=some (.ref fa) →
   ∃ fd:FuncData,(∀ (s:Shared) (u:Value),BindsTo s fd ⟨[u],[]⟩ [("_law_script",u)])∧∀ base:Heap,(K w.params).In base→base.Ns mainGlobals mg→FnOk l.prog w (K w.params) mg base CX0 depth fa fd ["_law_script"] (spLaw (K w.params))) :
  PySem.W.WalkO q loose XP YP l.row.toRowW d [] (fun f vs=>PySem.call f vs) :=
 L2.walk_of (n:=63) (k:=depth) (x:="_law_script") (CX:=fun _=>CX0) (sp:=fun w=>spLaw (K w.params)) hn (by decide) hdf ⟨rfl,by decide,by decide⟩ hY F (fun _ _ a ns hl _ hS=>⟨a,ns,rfl,hS,hl,fun _=>rfl⟩) fun _ _ _ _ _ z=>z
end My
namespace PySem.W.Fast
def tw611571635602825590:=True
def tw6428834103807978681:=True
def tw17699464173386252887:=True
def tw4903149750581814916:=True
def tw3162199434851093184:=True
def tw3609505802347445528:=True
def tw4041456893775276516:=True
def tw18280932230478703042:=True
def tw6030891954235616426:=True
def tw7267113963240895483:=True
def tw14145155015139219843:=True
def tw13752240528732007669:=True
def tw17968713566799613225:=True
def tw8403045189031149904:=True
def tw12479991679591568626:=True
def tw7111476726835335514:=True
def tw12592104320200858681:=True
def tw5086358146410259474:=True
def tw1070789364302687039:=True
def tw4240869202897475142:=True
def tw15836170186446520858:=True
def tw622549255906940889:=True
def tw8017157126812410042:=True
def tw2148705018618013037:=True
def tw15282184923357962293:=True
def tw9259113614252083573:=True
def tw2252997729678695796:=True
def tw10104759217037581493:=True
def tw13057132489264410756:=True
def tw1311208728171539238:=True
def tw4112408291277938348:=True
def tw9959958691705563893:=True
def tw6142485544788488224:=True
def tw4720426706811347014:=True
def tw8746248767258089152:=True
def tw422004813892433333:=True
def tw15738027559145803100:=True
def tw14594909692292820743:=True
def tw1147058739005171023:=True
def tw10938188747459702348:=True
def tw4496420994435421212:=True
def tw6663933386765621521:=True
def tw11026327487042615301:=True
def tw16608006976438195799:=True
def tw3748525470912257634:=True
def tw12755604583758150252:=True
def tw10711880915749021339:=True
def tw1349771705760502057:=True
def tw2452930135159621652:=True
def tw15541086815963067916:=True
def tw13081440237848118365:=True
def tw18164780886831624931:=True
def tw15686164139944024876:=True
def tw6216549301254295085:=True
def tw5715958164960324697:=True
def tw2899607963030077489:=True
def tw18166149285570676978:=True
def tw6652789497187184679:=True
def tw16599966464289941804:=True
def tw7140879060902726463:=True
def tw8539768388219989543:=True
def tw9384766830227798075:=True
def tw2341770505414511338:=True
def tw17637920987960036048:=True
def tw12628434912690506348:=True
def tw15995682813112045589:=True
def tw6907189879630523115:=True
def tw11276573633692239683:=True
def tw16091698838897695002:=True
def tw9822935379175721397:=True
def tw11092178985519902416:=True
def tw3893710893625123158:=True
def tw15064431489996545059:=True
def tw3836635199869672553:=True
def tw12078313019005234369:=True
def tw446451062461430432:=True
def tw3224851641707863988:=True
def tw4830629992791936047:=True
def tw3576543325602091347:=True
def tw10684357779770137275:=True
def tw13006599187368285448:=True
def tw6290280655795831947:=True
def tw10521598792506131082:=True
def tw17016892209688815423:=True
def tw17032011898203243503:=True
def tw1180347043887800439:=True
def tw5647412976110306334:=True
def tw18337758044758808417:=True
def tw47342977947137258:=True
def tw9972529406130843795:=True
def tw8416984649776419414:=True
def tw12539113568254955452:=True
def tw3316850758831591612:=True
def tw2774531685713009832:=True
def tw2229120957136657244:=True
def tw10460454216912124596:=True
def tw13707117178413305769:=True
def tw16290998393503064197:=True
def tw12368055728201882899:=True
def tw13985771288616548458:=True
def tw5746302011276241742:=True
def tw10232178380420025096:=True
def tw15705319048949523534:=True
def tw17908403391819025094:=True
def tw1125555725138417893:=True
def tw10185201217613828666:=True
def tw18337992395983389066:=True
def tw17392737462219287558:=True
def tw18190161123003813055:=True
def tw570418010945154905:=True
def tw18229625517823211380:=True
def tw12615508470644294356:=True
def tw8121039212419628697:=True
def tw3446966643401828989:=True
def tw5429224232144389035:=True
def tw14552135901318572599:=True
def tw8921569846361570104:=True
def tw6448194787203101536:=True
def tw8979764338499406060:=True
def tw3572036282547227939:=True
def tw7007353983178651607:=True
def tw16779898742872545706:=True
def tw2527697535789663609:=True
def tw8844446551480876416:=True
def tw17587713620868427358:=True
def tw10093795695975601236:=True
def tw16876060756492221635:=True
def tw1422617917673347393:=True
def tw5492576984701377144:=True
def tw2241258367888002758:=True
def tw9828865694652149322:=True
def tw9812457568862528281:=True
def tw9985599302521636230:=True
def tw6973026026824736697:=True
def tw1988716316772418706:=True
def tw8078851684471379626:=True
def tw7764617833165877113:=True
def tw15255892811085626620:=True
def tw13434247298678540528:=True
def tw5951281560373532720:=True
def tw16079648966611274240:=True
def tw5700413358555239222:=True
def tw12720073563253386871:=True
def tw9048853829782944025:=True
def tw17933054889002881807:=True
def tw7637373110165323169:=True
def tw16807542545135901081:=True
def tw1417274878393000580:=True
def tw9405867152237821453:=True
def tw14948161350451399696:=True
def tw10715267692874389615:=True
def tw13622265175006524054:=True
def tw16944830363137309209:=True
def tw11524111062348366868:=True
def tw396009119959632748:=True
def tw8177883837669112688:=True
def tw4599560222214120037:=True
def tw13770906266342141775:=True
def tw10449592527966566581:=True
def tw8985119480245781073:=True
def tw3198069250388627482:=True
def tw8395793439160807682:=True
def tw3243697911118729138:=True
def tw10295659893208409305:=True
def tw5117126395678455044:=True
def tw14687014366833480188:=True
def tw5786818817865278856:=True
def tw4104062028815239444:=True
def tw6327039450547947718:=True
def tw6569259975556567000:=True
def tw13040375610816035175:=True
def tw3762390636257535675:=True
def tw15389672768910321875:=True
def tw6184798891843257798:=True
def tw5802528933305215832:=True
def tw14690226129165356183:=True
def tw5117138697716216928:=True
def tw809744641736514786:=True
def tw10709062302589696227:=True
def tw3532821260533684043:=True
def tw5189988122514495952:=True
def tw10382222496418377146:=True
def tw12827981340693395891:=True
def tw5041945171003625385:=True
def tw5058353566216189231:=True
def tw12752149982109449415:=True
def tw13062516983408766623:=True
def tw12047211091603744986:=True
def tw13793388008199334785:=True
def tw10302105252213139134:=True
def tw4311411625546923172:=True
def tw2181655627364935162:=True
def tw7905179525113922797:=True
def tw9340981720821868581:=True
def tw15637565335582487169:=True
def tw628913238141199567:=True
def tw13706823509356415767:=True
def tw1399292751496553861:=True
def tw15477769539253116533:=True
def tw12987394360445793879:=True
def tw14514746957447887720:=True
def tw6248665024230064767:=True
def tw17612121858937251601:=True
def tw7413201429871945312:=True
def tw5207611312540737450:=True
def tw3253002680925052323:=True
def tw11596518910615264208:=True
def tw4564338927667949024:=True
def tw12098542873769715198:=True
def tw17907524142582690750:=True
def tw12699649707019248329:=True
def tw10485780031577806302:=True
def tw12962744867496104548:=True
def tw17397816700612450803:=True
def tw10617770678039983257:=True
def tw12568308059870506533:=True
def tw13923537370767370680:=True
def tw6745121396535432389:=True
def tw14415899973413215095:=True
def tw9061820324319786856:=True
def tw7727557436300411380:=True
def tw5279702506203549919:=True
def tw11065424925085635980:=True
def tw12989239464144429732:=True
def tw8073442925960712450:=True
def tw11090826757988655135:=True
def tw6939911241668741785:=True
def tw10079129694615165642:=True
def tw13810414493771989911:=True
def tw15998581893193012338:=True
def tw1284395165161759910:=True
def tw15364678323384907365:=True
def tw11398093500486430830:=True
def tw395106135363577317:=True
def tw17109130990530034132:=True
def tw2797168569522515003:=True
def tw12747076649200740497:=True
def tw7976009025223742724:=True
def tw10658104872173200420:=True
def tw2047487938934165560:=True
def tw977151374987771354:=True
def tw17558442361770322178:=True
def tw2838525829440154064:=True
def tw1580698052090110550:=True
def tw12190224390123307410:=True
def tw17411361812679803934:=True
def tw18380794923300140421:=True
def tw11134695902880490095:=True
def tw12334644622453185389:=True
def tw16154516241416932879:=True
def tw15190705480730915065:=True
def tw4342230572213290031:=True
def tw13379122665156884791:=True
def tw11203020961595676208:=True
def tw16052918381508754626:=True
def tw16799846164814041999:=True
def tw8663103665366980628:=True
def tw16333744657848786422:=True
def tw3119475236997935183:=True
def tw5363364722918212312:=True
def tw11314773414082504338:=True
def tw16489072903839580237:=True
def tw11435760776802908385:=True
def tw6526876481059592940:=True
def tw5618138290373302356:=True
def tw16353955008418281440:=True
def tw7193224367648800790:=True
def tw3084708965559509070:=True
def tw10233797532427519220:=True
def tw1692601169000551782:=True
def tw8736853122767778417:=True
def tw9971619858902088774:=True
def tw14673565315938323100:=True
def tw10372297320705113450:=True
def tw2100447795397283491:=True
def tw3514600363749642638:=True
def tw16025082507723482589:=True
def tw8371735549899146398:=True
def tw14702807373259216452:=True
def tw8612731210392653832:=True
def tw2967211754440495400:=True
def tw5722729687179502137:=True
def tw11067682773897561590:=True
def tw13790051075989951417:=True
def tw17931408372928621115:=True
def tw7160849288116388015:=True
def tw12359169344936720649:=True
def tw14447630432020553629:=True
def tw8928639448665913794:=True
def tw11850803829717283399:=True
def tw895168561274136114:=True
def tw10077007358885150091:=True
def tw17468675186912686189:=True
def tw12609824515599344494:=True
def tw4868124370587444118:=True
def tw8946470291608553894:=True
def tw15599082131786778266:=True
def tw2627522621276016182:=True
def tw1153219484408163259:=True
def tw9856137322879707280:=True
def tw12174964524259446400:=True
def tw15350834509177391796:=True
def tw3221812255066903215:=True
def tw1889950997600742468:=True
def tw6524206884229057810:=True
def tw9567551523030881583:=True
def tw16516877310578532293:=True
def tw9440622534785755321:=True
def tw4484420178836970742:=True
def tw4199840150106971117:=True
def tw7357637472715263638:=True
def tw15833950149858330608:=True
def tw16238380604615903971:=True
def tw17462402643326301691:=True
def tw17500421991102356869:=True
def tw3220182474685831585:=True
def tw12889429782942712137:=True
def tw18352425436427766284:=True
def tw8466488863586761340:=True
def tw17548651908531605531:=True
def tw4306188362273523940:=True
def tw5187929441791098169:=True
def tw9392961568511612197:=True
def tw10378678820336927131:=True
def tw8057554120713855252:=True
def tw4544651690390510065:=True
def tw438297250935485721:=True
def tw17718012172394474433:=True
def tw8160074359114717200:=True
def tw18405580099589379710:=True
def tw13254334316261623911:=True
def tw2130476220287818441:=True
def tw714101365994051870:=True
def tw2536594372934159897:=True
def tw12662101441667459517:=True
def tw1480933007140683019:=True
def tw17440249204084626161:=True
def tw11180199674153082665:=True
def tw1916932083043161960:=True
def tw352365482178222304:=True
def tw3006723677281207459:=True
def tw11244551453257792769:=True
def tw10135156572964986843:=True
def tw5540942097293956053:=True
def tw16704404734961508965:=True
def tw14653901756971842777:=True
def tw12377232056116753286:=True
def tw11781793212163059583:=True
def tw9014733511946366206:=True
def tw5850890416915279363:=True
def tw9838187240852112409:=True
def tw12697719816238913854:=True
def tw17217454511857524144:=True
def tw17951078495072705072:=True
def tw4375921806477578592:=True
def tw15430895619492260473:=True
def tw3359819808943373495:=True
def tw4501426941453158930:=True
def tw65543697354935515:=True
def tw13067629526641910743:=True
def tw6300085679998098966:=True
def tw4487486209900008883:=True
def tw6737493631062604523:=True
def tw8404573295879461893:=True
def tw13212061409810583064:=True
def tw7831779949120950366:=True
def tw11006766423480310323:=True
def tw3191484142225434078:=True
def tw1469861805042097631:=True
def tw5652026396977246252:=True
def tw10287037131253800990:=True
def tw15563342688826240659:=True
def tw13056710367552008566:=True
def tw3319651532442985879:=True
def tw582181808888623579:=True
def tw17587190926618924909:=True
def tw13633101957319672302:=True
def tw10859711060624838389:=True
def tw7246806551141473304:=True
def tw13435618515865060469:=True
def tw2560597145657906655:=True
def tw4083608037201001307:=True
def tw6957685560429673409:=True
def tw5525157970283606791:=True
def tw14744910027040853680:=True
def tw5035206603212444875:=True
def tw15947363579569845531:=True
def tw14153790100526567885:=True
def tw6294875174916066468:=True
def tw3920825892001525386:=True
def tw15999564106237202122:=True
def tw11032696859384930444:=True
def tw9169652627334347610:=True
def tw2107999439852697347:=True
def tw3780263576874447616:=True
def tw17613245566005128618:=True
def tw4114744090876544284:=True
def tw6683855838921549050:=True
def tw10125436316469672104:=True
def tw15290020667526214894:=True
def tw3776432767741684913:=True
end PySem.W.Fast
open PySem PySem.W PyProof.Rows
set_option maxRecDepth 100000 in
set_option maxHeartbeats 0 in
theorem PySem.Challenge.cw_threadlathe_k37_whole_trains_holds : PySem.Challenge.rw_threadlathe_k37_whole_trains.Holds := by
 w_on;o_law;k_head;(case hw=>w_witness2)
 k_fill
 refine My.walk (l:=PySem.Challenge.rw_threadlathe_k37_whole_trains) rfl rfl (fun w h Y=>PySem.W.kIn_of Y) ?F
 case F =>
  intro w mg fa h KX G hmg
  refine' My.all_mk KX G hmg ?zT ?za ?zl ?zc ?zk
  (case za=>k_is)
  (case zl=>k_is)
  (case zc=>k_is)
  (case zk=>k_is)
  (case zT =>
   refine' My.tx_c (nm:="Book") KX G ?za ?_;(case za=>k_is);intro e_Book
   refine' My.tx_c (nm:="Piece") KX G ?za ?_;(case za=>k_is);intro e_Piece
   refine' My.tx_c (nm:="Lathe") KX G ?za ?_;(case za=>k_is);intro e_Lathe
   refine' My.tx_c (nm:="LatheError") KX G ?za ?_;(case za=>k_is);intro e_LatheError
   refine' My.tx_c (nm:="UnknownWheel") KX G ?za ?_;(case za=>k_is);intro e_UnknownWheel
   refine' My.tx_c (nm:="NoTrain") KX G ?za ?_;(case za=>k_is);intro e_NoTrain
   refine' My.tx_c (nm:="WrongNut") KX G ?za ?_;(case za=>k_is);intro e_WrongNut
   refine' My.tx_c (nm:="BadNumber") KX G ?za ?_;(case za=>k_is);intro e_BadNumber
   refine' My.tx_c (nm:="NoMeeting") KX G ?za ?_;(case za=>k_is);intro e_NoMeeting
   refine' My.tx_c (nm:="BookFull") KX G ?za ?_;(case za=>k_is);intro e_BookFull
   refine' My.tx_c (nm:="NOUGHT") KX G ?za ?_;(case za=>k_is);intro e_NOUGHT
   refine' My.tx_c (nm:="MOST_COUNTED") KX G ?za ?_;(case za=>k_is);intro e_MOST_COUNTED
   refine' My.tx_c (nm:="LEAST_PITCH") KX G ?za ?_;(case za=>k_is);intro e_LEAST_PITCH
   refine' My.tx_c (nm:="GREATEST_PITCH") KX G ?za ?_;(case za=>k_is);intro e_GREATEST_PITCH
   constructor
   refine' My.tx_h KX G ?za ?zl ?zc ?zk (fun _ _ _ _ _ _ _ _=>rfl);(case za=>k_is);(case zl=>k_is);(case zc=>k_is);(case zk=>k_is)
   refine' My.tx_h KX G ?za ?zl ?zc ?zk (fun _ _ _ _ _ _ _ _=>rfl);(case za=>k_is);(case zl=>k_is);(case zc=>k_is);(case zk=>k_is)
   refine' My.tx_h KX G ?za ?zl ?zc ?zk (fun _ _ _ _ _ _ _ _=>rfl);(case za=>k_is);(case zl=>k_is);(case zc=>k_is);(case zk=>k_is)
   refine' My.tx_h KX G ?za ?zl ?zc ?zk (fun _ _ _ _ _ _ _ _=>rfl);(case za=>k_is);(case zl=>k_is);(case zc=>k_is);(case zk=>k_is)
   refine' My.tx_h KX G ?za ?zl ?zc ?zk (fun _ _ _ _ _ _ _ _=>rfl);(case za=>k_is);(case zl=>k_is);(case zc=>k_is);(case zk=>k_is)
   refine' My.tx_h KX G ?za ?zl ?zc ?zk (fun _ _ _ _ _ _ _ _=>rfl);(case za=>k_is);(case zl=>k_is);(case zc=>k_is);(case zk=>k_is)
   refine' My.tx_h KX G ?za ?zl ?zc ?zk (fun _ _ _ _ _ _ _ _=>rfl);(case za=>k_is);(case zl=>k_is);(case zc=>k_is);(case zk=>k_is)
   refine' My.tx_h KX G ?za ?zl ?zc ?zk (fun _ _ _ _ _ _ _ _=>rfl);(case za=>k_is);(case zl=>k_is);(case zc=>k_is);(case zk=>k_is)
   refine' My.tx_h KX G ?za ?zl ?zc ?zk (fun _ _ _ _ _ _ _ _=>rfl);(case za=>k_is);(case zl=>k_is);(case zc=>k_is);(case zk=>k_is)
   refine' My.tx_h KX G ?za ?zl ?zc ?zk (fun _ _ _ _ _ _ _=>rfl);(case za=>k_is);(case zl=>k_is);(case zc=>k_is);(case zk=>k_is)
   refine' My.tx_h KX G ?za ?zl ?zc ?zk (fun _ _ _ _ _ _ _=>rfl);(case za=>k_is);(case zl=>k_is);(case zc=>k_is);(case zk=>k_is)
   refine' My.tx_h KX G ?za ?zl ?zc ?zk (fun _ _ _ _ _ _ _=>rfl);(case za=>k_is);(case zl=>k_is);(case zc=>k_is);(case zk=>k_is)
   refine' My.tx_h KX G ?za ?zl ?zc ?zk (fun _ _ _ _ _ _ _=>rfl);(case za=>k_is);(case zl=>k_is);(case zc=>k_is);(case zk=>k_is)
   refine' My.tx_h KX G ?za ?zl ?zc ?zk (fun _ _ _ _ _ _ _=>rfl);(case za=>k_is);(case zl=>k_is);(case zc=>k_is);(case zk=>k_is)
   refine' My.tx_h KX G ?za ?zl ?zc ?zk (fun _ _ _ _ _ _ _ _=>rfl);(case za=>k_is);(case zl=>k_is);(case zc=>k_is);(case zk=>k_is)
   refine' My.tx_h KX G ?za ?zl ?zc ?zk (fun _ _ _ _ _ _ _ _ _=>rfl);(case za=>k_is);(case zl=>k_is);(case zc=>k_is);(case zk=>k_is)
   refine' My.tx_h KX G ?za ?zl ?zc ?zk (fun _ _ _ _ _ _ _ _=>rfl);(case za=>k_is);(case zl=>k_is);(case zc=>k_is);(case zk=>k_is)
   refine' My.tx_h KX G ?za ?zl ?zc ?zk (fun _ _ _ _ _ _ _ _=>rfl);(case za=>k_is);(case zl=>k_is);(case zc=>k_is);(case zk=>k_is)
   refine' My.tx_h KX G ?za ?zl ?zc ?zk (fun _ _ _ _ _ _ _ _ _=>rfl);(case za=>k_is);(case zl=>k_is);(case zc=>k_is);(case zk=>k_is)
   refine' My.tx_h KX G ?za ?zl ?zc ?zk (fun _ _ _ _ _ _ _=>rfl);(case za=>k_is);(case zl=>k_is);(case zc=>k_is);(case zk=>k_is)
   refine' My.tx_h KX G ?za ?zl ?zc ?zk (fun _ _ _ _ _ _ _=>rfl);(case za=>k_is);(case zl=>k_is);(case zc=>k_is);(case zk=>k_is)
   refine' My.tx_h KX G ?za ?zl ?zc ?zk (fun _ _ _ _ _ _ _=>rfl);(case za=>k_is);(case zl=>k_is);(case zc=>k_is);(case zk=>k_is)
   refine' My.tx_h KX G ?za ?zl ?zc ?zk (fun _ _ _ _ _ _ _ _=>rfl);(case za=>k_is);(case zl=>k_is);(case zc=>k_is);(case zk=>k_is)
   refine' My.tx_h KX G ?za ?zl ?zc ?zk (fun _ _ _ _ _ _ _=>rfl);(case za=>k_is);(case zl=>k_is);(case zc=>k_is);(case zk=>k_is)
   refine' My.tx_h KX G ?za ?zl ?zc ?zk (fun _ _ _ _ _ _ _=>rfl);(case za=>k_is);(case zl=>k_is);(case zc=>k_is);(case zk=>k_is)
   refine' My.tx_h KX G ?za ?zl ?zc ?zk (fun _ _ _ _ _ _ _=>rfl);(case za=>k_is);(case zl=>k_is);(case zc=>k_is);(case zk=>k_is)
   refine' My.tx_h KX G ?za ?zl ?zc ?zk (fun _ _ _ _ _ _ _=>rfl);(case za=>k_is);(case zl=>k_is);(case zc=>k_is);(case zk=>k_is)
   refine' My.tx_h KX G ?za ?zl ?zc ?zk (fun _ _ _ _ _ _ _=>rfl);(case za=>k_is);(case zl=>k_is);(case zc=>k_is);(case zk=>k_is)
   refine' My.tx_h KX G ?za ?zl ?zc ?zk (fun _ _ _ _ _ _ _ _=>rfl);(case za=>k_is);(case zl=>k_is);(case zc=>k_is);(case zk=>k_is)
   refine' My.tx_h KX G ?za ?zl ?zc ?zk (fun _ _ _ _ _ _ _=>rfl);(case za=>k_is);(case zl=>k_is);(case zc=>k_is);(case zk=>k_is)
   refine' My.tx_h KX G ?za ?zl ?zc ?zk (fun _ _ _ _ _ _ _ _=>rfl);(case za=>k_is);(case zl=>k_is);(case zc=>k_is);(case zk=>k_is)
   refine' My.tx_h KX G ?za ?zl ?zc ?zk (fun _ _ _ _ _ _ _ _=>rfl);(case za=>k_is);(case zl=>k_is);(case zc=>k_is);(case zk=>k_is)
   refine' My.tx_h KX G ?za ?zl ?zc ?zk (fun _ _ _ _ _ _ _=>rfl);(case za=>k_is);(case zl=>k_is);(case zc=>k_is);(case zk=>k_is)
   refine' My.tx_h KX G ?za ?zl ?zc ?zk (fun _ _ _ _ _ _ _ _=>rfl);(case za=>k_is);(case zl=>k_is);(case zc=>k_is);(case zk=>k_is)
   refine' My.tx_h KX G ?za ?zl ?zc ?zk (fun _ _ _ _ _ _ _ _=>rfl);(case za=>k_is);(case zl=>k_is);(case zc=>k_is);(case zk=>k_is)
   refine' My.tx_h KX G ?za ?zl ?zc ?zk (fun _ _ _ _ _ _ _ _ _=>rfl);(case za=>k_is);(case zl=>k_is);(case zc=>k_is);(case zk=>k_is)
   refine' My.tx_h KX G ?za ?zl ?zc ?zk (fun _ _ _ _ _ _ _=>rfl);(case za=>k_is);(case zl=>k_is);(case zc=>k_is);(case zk=>k_is)
   refine' My.tx_h KX G ?za ?zl ?zc ?zk (fun _ _ _ _ _ _ _ _=>rfl);(case za=>k_is);(case zl=>k_is);(case zc=>k_is);(case zk=>k_is)
   refine' My.tx_h KX G ?za ?zl ?zc ?zk (fun _ _ _ _ _ _ _ _=>rfl);(case za=>k_is);(case zl=>k_is);(case zc=>k_is);(case zk=>k_is)
   refine' My.tx_h KX G ?za ?zl ?zc ?zk (fun _ _ _ _ _ _ _ _=>rfl);(case za=>k_is);(case zl=>k_is);(case zc=>k_is);(case zk=>k_is)
   refine' My.tx_h KX G ?za ?zl ?zc ?zk (fun _ _ _ _ _ _ _ _=>rfl);(case za=>k_is);(case zl=>k_is);(case zc=>k_is);(case zk=>k_is)
   refine' My.tx_h KX G ?za ?zl ?zc ?zk (fun _ _ _ _ _ _ _ _=>rfl);(case za=>k_is);(case zl=>k_is);(case zc=>k_is);(case zk=>k_is)
   refine' My.tx_h KX G ?za ?zl ?zc ?zk (fun _ _ _ _ _ _ _=>rfl);(case za=>k_is);(case zl=>k_is);(case zc=>k_is);(case zk=>k_is)
   refine' My.tx_h KX G ?za ?zl ?zc ?zk (fun _ _ _ _ _ _ _=>rfl);(case za=>k_is);(case zl=>k_is);(case zc=>k_is);(case zk=>k_is)
   refine' My.tx_h KX G ?za ?zl ?zc ?zk (fun _ _ _ _ _ _ _ _=>rfl);(case za=>k_is);(case zl=>k_is);(case zc=>k_is);(case zk=>k_is)
   refine' My.tx_h KX G ?za ?zl ?zc ?zk (fun _ _ _ _ _ _ _ _=>rfl);(case za=>k_is);(case zl=>k_is);(case zc=>k_is);(case zk=>k_is)
   refine' My.tx_h KX G ?za ?zl ?zc ?zk (fun _ _ _ _ _ _ _=>rfl);(case za=>k_is);(case zl=>k_is);(case zc=>k_is);(case zk=>k_is)
   refine' My.tx_h KX G ?za ?zl ?zc ?zk (fun _ _ _ _ _ _ _ _ _=>rfl);(case za=>k_is);(case zl=>k_is);(case zc=>k_is);(case zk=>k_is)
   exact e_Book.2
   exact e_Piece.2
   exact e_Lathe.2
   exact e_LatheError.2
   exact e_UnknownWheel.2
   exact e_NoTrain.2
   exact e_WrongNut.2
   exact e_BadNumber.2
   exact e_NoMeeting.2
   exact e_BookFull.2
   refine' My.tx_n KX G ?za;(case za=>k_is)
   exact e_NOUGHT.2
   refine' My.tx_t e_NOUGHT.1 ?zl;(case zl=>k_is)
   exact e_MOST_COUNTED.2
   refine' My.tx_t e_MOST_COUNTED.1 ?zl;(case zl=>k_is)
   exact e_LEAST_PITCH.2
   refine' My.tx_t e_LEAST_PITCH.1 ?zl;(case zl=>k_is)
   exact e_GREATEST_PITCH.2
   refine' My.tx_t e_GREATEST_PITCH.1 ?zl;(case zl=>k_is)
   refine' My.tx_cl e_Book.1 ?zp ?zd ?zo ?zs;(case zp=>k_is);(case zd=>k_is);(case zo=>k_is);(case zs=>k_is)
   refine' My.tx_na e_Book.1 ?zn;(case zn=>k_is)
   refine' My.tx_cl e_Piece.1 ?zp ?zd ?zo ?zs;(case zp=>k_is);(case zd=>k_is);(case zo=>k_is);(case zs=>k_is)
   refine' My.tx_na e_Piece.1 ?zn;(case zn=>k_is)
   refine' My.tx_na e_Piece.1 ?zn;(case zn=>k_is)
   refine' My.tx_na e_Piece.1 ?zn;(case zn=>k_is)
   refine' My.tx_na e_Piece.1 ?zn;(case zn=>k_is)
   refine' My.tx_na e_Piece.1 ?zn;(case zn=>k_is)
   refine' My.tx_na e_Piece.1 ?zn;(case zn=>k_is)
   refine' My.tx_na e_Piece.1 ?zn;(case zn=>k_is)
   refine' My.tx_na e_Piece.1 ?zn;(case zn=>k_is)
   refine' My.tx_na e_Piece.1 ?zn;(case zn=>k_is)
   refine' My.tx_cl e_Lathe.1 ?zp ?zd ?zo ?zs;(case zp=>k_is);(case zd=>k_is);(case zo=>k_is);(case zs=>k_is)
   refine' My.tx_na e_Lathe.1 ?zn;(case zn=>k_is)
   refine' My.tx_na e_Lathe.1 ?zn;(case zn=>k_is)
   refine' My.tx_na e_Lathe.1 ?zn;(case zn=>k_is)
   refine' My.tx_na e_Lathe.1 ?zn;(case zn=>k_is)
   refine' My.tx_i e_Book.1 ?zy ?zt ?za ?zi ?zl ?zc ?zk (fun _ _ _ _ _ _ _=>rfl);(case zy=>k_is);(case zt=>k_is);(case za=>k_is);(case zi=>k_is);(case zl=>k_is);(case zc=>k_is);(case zk=>k_is)
   refine' My.tx_m e_Book.1 ?za ?zi ?zl ?zc ?zk (fun _ _ _ _ _ _ _ _ _ _=>rfl);(case za=>k_is);(case zi=>k_is);(case zl=>k_is);(case zc=>k_is);(case zk=>k_is)
   refine' My.tx_m e_Book.1 ?za ?zi ?zl ?zc ?zk (fun _ _ _ _ _ _ _=>rfl);(case za=>k_is);(case zi=>k_is);(case zl=>k_is);(case zc=>k_is);(case zk=>k_is)
   refine' My.tx_i e_Piece.1 ?zy ?zt ?za ?zi ?zl ?zc ?zk (fun _ _ _ _ _ _ _ _=>rfl);(case zy=>k_is);(case zt=>k_is);(case za=>k_is);(case zi=>k_is);(case zl=>k_is);(case zc=>k_is);(case zk=>k_is)
   refine' My.tx_m e_Piece.1 ?za ?zi ?zl ?zc ?zk (fun _ _ _ _ _ _ _=>rfl);(case za=>k_is);(case zi=>k_is);(case zl=>k_is);(case zc=>k_is);(case zk=>k_is)
   refine' My.tx_m e_Piece.1 ?za ?zi ?zl ?zc ?zk (fun _ _ _ _ _ _ _=>rfl);(case za=>k_is);(case zi=>k_is);(case zl=>k_is);(case zc=>k_is);(case zk=>k_is)
   refine' My.tx_m e_Piece.1 ?za ?zi ?zl ?zc ?zk (fun _ _ _ _ _ _ _=>rfl);(case za=>k_is);(case zi=>k_is);(case zl=>k_is);(case zc=>k_is);(case zk=>k_is)
   refine' My.tx_m e_Piece.1 ?za ?zi ?zl ?zc ?zk (fun _ _ _ _ _ _ _=>rfl);(case za=>k_is);(case zi=>k_is);(case zl=>k_is);(case zc=>k_is);(case zk=>k_is)
   refine' My.tx_m e_Piece.1 ?za ?zi ?zl ?zc ?zk (fun _ _ _ _ _ _ _ _=>rfl);(case za=>k_is);(case zi=>k_is);(case zl=>k_is);(case zc=>k_is);(case zk=>k_is)
   refine' My.tx_m e_Piece.1 ?za ?zi ?zl ?zc ?zk (fun _ _ _ _ _ _ _=>rfl);(case za=>k_is);(case zi=>k_is);(case zl=>k_is);(case zc=>k_is);(case zk=>k_is)
   refine' My.tx_m e_Piece.1 ?za ?zi ?zl ?zc ?zk (fun _ _ _ _ _ _ _ _=>rfl);(case za=>k_is);(case zi=>k_is);(case zl=>k_is);(case zc=>k_is);(case zk=>k_is)
   refine' My.tx_i e_Lathe.1 ?zy ?zt ?za ?zi ?zl ?zc ?zk (fun _ _ _ _ _ _ _ _ _=>rfl);(case zy=>k_is);(case zt=>k_is);(case za=>k_is);(case zi=>k_is);(case zl=>k_is);(case zc=>k_is);(case zk=>k_is)
   refine' My.tx_m e_Lathe.1 ?za ?zi ?zl ?zc ?zk (fun _ _ _ _ _ _ _ _ _ _=>rfl);(case za=>k_is);(case zi=>k_is);(case zl=>k_is);(case zc=>k_is);(case zk=>k_is)
   refine' My.tx_m e_Lathe.1 ?za ?zi ?zl ?zc ?zk (fun _ _ _ _ _ _ _ _=>rfl);(case za=>k_is);(case zi=>k_is);(case zl=>k_is);(case zc=>k_is);(case zk=>k_is)
   refine' My.tx_m e_Lathe.1 ?za ?zi ?zl ?zc ?zk (fun _ _ _ _ _ _ _ _=>rfl);(case za=>k_is);(case zi=>k_is);(case zl=>k_is);(case zc=>k_is);(case zk=>k_is)
   refine' My.tx_m e_Lathe.1 ?za ?zi ?zl ?zc ?zk (fun _ _ _ _ _ _ _=>rfl);(case za=>k_is);(case zi=>k_is);(case zl=>k_is);(case zc=>k_is);(case zk=>k_is)
   refine' My.tx_m e_Lathe.1 ?za ?zi ?zl ?zc ?zk (fun _ _ _ _ _ _ _ _=>rfl);(case za=>k_is);(case zi=>k_is);(case zl=>k_is);(case zc=>k_is);(case zk=>k_is)
   refine' My.tx_m e_Lathe.1 ?za ?zi ?zl ?zc ?zk (fun _ _ _ _ _ _ _=>rfl);(case za=>k_is);(case zi=>k_is);(case zl=>k_is);(case zc=>k_is);(case zk=>k_is)
   refine' My.tx_m e_Lathe.1 ?za ?zi ?zl ?zc ?zk (fun _ _ _ _ _ _ _=>rfl);(case za=>k_is);(case zi=>k_is);(case zl=>k_is);(case zc=>k_is);(case zk=>k_is)
   refine' My.tx_m e_Lathe.1 ?za ?zi ?zl ?zc ?zk (fun _ _ _ _ _ _ _=>rfl);(case za=>k_is);(case zi=>k_is);(case zl=>k_is);(case zc=>k_is);(case zk=>k_is)
   refine' My.tx_m e_Lathe.1 ?za ?zi ?zl ?zc ?zk (fun _ _ _ _ _ _ _=>rfl);(case za=>k_is);(case zi=>k_is);(case zl=>k_is);(case zc=>k_is);(case zk=>k_is)
   refine' My.tx_m e_Lathe.1 ?za ?zi ?zl ?zc ?zk (fun _ _ _ _ _ _ _=>rfl);(case za=>k_is);(case zi=>k_is);(case zl=>k_is);(case zc=>k_is);(case zk=>k_is)
   refine' My.tx_m e_Lathe.1 ?za ?zi ?zl ?zc ?zk (fun _ _ _ _ _ _ _=>rfl);(case za=>k_is);(case zi=>k_is);(case zl=>k_is);(case zc=>k_is);(case zk=>k_is)
   refine' My.tx_m e_Lathe.1 ?za ?zi ?zl ?zc ?zk (fun _ _ _ _ _ _ _=>rfl);(case za=>k_is);(case zi=>k_is);(case zl=>k_is);(case zc=>k_is);(case zk=>k_is)
   refine' My.tx_m e_Lathe.1 ?za ?zi ?zl ?zc ?zk (fun _ _ _ _ _ _ _=>rfl);(case za=>k_is);(case zi=>k_is);(case zl=>k_is);(case zc=>k_is);(case zk=>k_is)
   refine' My.tx_m e_Lathe.1 ?za ?zi ?zl ?zc ?zk (fun _ _ _ _ _ _ _ _=>rfl);(case za=>k_is);(case zi=>k_is);(case zl=>k_is);(case zc=>k_is);(case zk=>k_is)
   refine' My.tx_x e_LatheError.1 ?zx;(case zx=>k_exc)
   refine' My.tx_x e_UnknownWheel.1 ?zx;(case zx=>k_exc)
   refine' My.tx_x e_NoTrain.1 ?zx;(case zx=>k_exc)
   refine' My.tx_x e_WrongNut.1 ?zx;(case zx=>k_exc)
   refine' My.tx_x e_BadNumber.1 ?zx;(case zx=>k_exc)
   refine' My.tx_x e_NoMeeting.1 ?zx;(case zx=>k_exc)
   refine' My.tx_x e_BookFull.1 ?zx;(case zx=>k_exc)
   refine' PySem.W.mg_none_of KX G ?za;(case za=>k_is)
   refine' PySem.W.mg_none_of KX G ?za;(case za=>k_is)
   refine' PySem.W.mg_none_of KX G ?za;(case za=>k_is)
   refine' PySem.W.mg_none_of KX G ?za;(case za=>k_is)
   refine' PySem.W.mg_none_of KX G ?za;(case za=>k_is)
   refine' PySem.W.mg_none_of KX G ?za;(case za=>k_is)
   refine' PySem.W.mg_none_of KX G ?za;(case za=>k_is)
   refine' PySem.W.mg_none_of KX G ?za;(case za=>k_is)
   refine' PySem.W.mg_none_of KX G ?za;(case za=>k_is)
   refine' PySem.W.mg_none_of KX G ?za;(case za=>k_is)
   refine' PySem.W.mg_none_of KX G ?za;(case za=>k_is)
   refine' PySem.W.mg_none_of KX G ?za;(case za=>k_is))
