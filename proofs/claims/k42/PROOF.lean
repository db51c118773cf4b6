import PyProof.Rows.All
import Wide.All
import OpenK.AllK
import Wide.FinOn
import Lean
import PyProof.EqAt
import PyProof.EqKinds
import PyProof.TupleCall
import PyProof.EnumMake
import PyProof.WalksPairs
import PyProof.NsDelKeeps
import PyProof.NeKinds
import PySem.Challenge.RW_threadlathe_k42_whole_refusals
set_option Elab.async false
set_option compiler.extract_closed false
set_option linter.all false
set_option maxRecDepth 100000
set_option maxHeartbeats 4000000

abbrev zP:=PySem.W.Frag
abbrev zQ:=PySem.Str->Option PySem.Value
abbrev zR:=List (PySem.Addr × PySem.Obj)
namespace Mt
theorem Gi (a b:Int):Int.gcd b (a%b)=Int.gcd a b:=by
 have e:a%b=a-(a / b)*b:=by
  have:=Int.emod_add_mul_ediv a b;rw [Int.mul_comm] at this;lia
 rw [e,Int.gcd_sub_mul_right_right,Int.gcd_comm]
theorem SO (a:Int):(if a<0 then -a else a)=((Int.gcd a 0:Nat):Int):=by
 rw [Int.gcd_zero_right];split <;> lia
theorem SN (a b:Int):Int.gcd (if a<0 then -a else a) (if b<0 then -b else b)=Int.gcd a b:=by
 split <;> split <;> simp [Int.neg_gcd,Int.gcd_neg]
noncomputable def sg (t b:Int):Int:=if b<0 then -((Int.gcd t b:Nat):Int) else ((Int.gcd t b:Nat):Int)
noncomputable def AG (t b:Int):Int:=Int.fdiv t (sg t b)
noncomputable def Aj (t b:Int):Int:=Int.fdiv b (sg t b)
theorem Ig {t b:Int} (h:b≠0):0<Int.gcd t b:=Int.gcd_pos_iff.mpr (.inr h)
theorem OX {t b:Int} (h:b≠0):sg t b≠0:=by
 have:=Ig (t:=t) h;unfold sg;split <;> lia
theorem Jj (t b:Int):(sg t b).natAbs=Int.gcd t b:=by
 unfold sg;split <;> lia
theorem OW {t b:Int} (h:b≠0):(sg t b).natAbs<=b.natAbs:=by
 rw [Jj];exact Nat.le_of_dvd (by lia) (by have:=Int.gcd_dvd_right t b;exact Int.ofNat_dvd_left.mp this)
theorem OV (t b:Int):sg t b∣t:=by
 unfold sg;split
 ·exact Int.neg_dvd.mpr (Int.gcd_dvd_left t b)
 ·exact Int.gcd_dvd_left t b
theorem OU (t b:Int):sg t b∣b:=by
 unfold sg;split
 ·exact Int.neg_dvd.mpr (Int.gcd_dvd_right t b)
 ·exact Int.gcd_dvd_right t b
theorem Vq (t b:Int):sg t b*AG t b=t:=by
 unfold AG;rw [Int.fdiv_eq_ediv_of_dvd (OV t b),Int.mul_ediv_cancel' (OV t b)]
theorem Vp (t b:Int):sg t b*Aj t b=b:=by
 unfold Aj;rw [Int.fdiv_eq_ediv_of_dvd (OU t b),Int.mul_ediv_cancel' (OU t b)]
structure LT (t b x y:Int):Prop where
 pos:1<=y
 co:Int.gcd x y=1
 eq:x*b=t*y
 nx:x.natAbs<=t.natAbs
 ny:y.natAbs<=b.natAbs
theorem Cg {t b:Int} (h:b≠0):LT t b (AG t b) (Aj t b):=by
 have hs:=OX (t:=t) h;have e1:=Vq t b;have e2:=Vp t b;have g0:=Ig (t:=t) h;have hp:0<Aj t b:=by
  rcases Int.lt_trichotomy (Aj t b) 0 with l|l|l
  ·exfalso
   by_cases hb:b<0
   ·have hs':sg t b<=0:=by unfold sg;rw [if_pos hb];lia
    have:=Int.mul_nonneg_of_nonpos_of_nonpos hs' (Int.le_of_lt l);lia
   ·have hs':0<=sg t b:=by unfold sg;rw [if_neg hb];lia
    have:sg t b*Aj t b<=0:=Int.mul_nonpos_of_nonneg_of_nonpos hs' (Int.le_of_lt l);lia
  ·rw [l,Int.mul_zero] at e2;lia
  ·exact l
 refine ⟨hp,?_,?_,?_,?_⟩
 ·have:Int.gcd (sg t b*AG t b) (sg t b*Aj t b)=(sg t b).natAbs*Int.gcd (AG t b) (Aj t b):=Int.gcd_mul_left _ _ _
  rw [e1,e2,Jj] at this;exact Nat.eq_of_mul_eq_mul_left g0 (by rw [Nat.mul_one];exact this.symm)
 ·have a1:AG t b*b=AG t b*(sg t b*Aj t b):=by rw [e2]
  have a2:t*Aj t b=(sg t b*AG t b)*Aj t b:=by rw [e1]
  rw [a1,a2,← Int.mul_assoc,Int.mul_comm (AG t b)]
 ·have:=congrArg Int.natAbs e1
  rw [Int.natAbs_mul] at this;rw [← this];exact Nat.le_mul_of_pos_left _ (by lia)
 ·have:=congrArg Int.natAbs e2
  rw [Int.natAbs_mul] at this;have g:Aj t b≠0:=by lia
  rw [← this];exact Nat.le_mul_of_pos_left _ (by lia)
def Bd (n:Nat) (i:Int):Prop:=i.natAbs<2 ^ n
theorem Bd.mono {m n:Nat} {i:Int} (h:Bd m i) (l:m<=n):Bd n i:=Nat.lt_of_lt_of_le h (Nat.pow_le_pow_right (by decide) l)
theorem Bd.mul {m n:Nat} {i j:Int} (h:Bd m i) (g:Bd n j):Bd (m+n) (i*j):=by
 unfold Bd at *;rw [Int.natAbs_mul i j,Nat.pow_add 2 m n];exact Nat.mul_lt_mul'' h g
theorem Bd.add {m n:Nat} {i j:Int} (h:Bd m i) (g:Bd n j):Bd (max m n+1) (i+j):=by
 have h':=h.mono (Nat.le_max_left m n);have g':=g.mono (Nat.le_max_right m n);have:=Int.natAbs_add_le i j;unfold Bd at *;rw [Nat.pow_succ];lia
theorem Bd.neg {m:Nat} {i:Int} (h:Bd m i):Bd m (-i):=by
 unfold Bd at *;rw [Int.natAbs_neg];exact h
theorem Bd.sub {m n:Nat} {i j:Int} (h:Bd m i) (g:Bd n j):Bd (max m n+1) (i-j):=by
 rw [Int.sub_eq_add_neg];exact h.add g.neg
theorem Bd.le {m:Nat} {i j:Int} (h:Bd m i) (g:j.natAbs<=i.natAbs):Bd m j:=Nat.lt_of_le_of_lt g h
theorem Bd.log {m:Nat} {i:Int} (h:Bd m i) (p:0<m):i.natAbs.log2<m:=by
 by_cases z:i.natAbs=0
 ·rw [z];simpa using p
 ·exact (Nat.log2_lt z).mpr h
theorem Bd.of60 {i:Int} (h1:-(10 ^ 60)<=i) (h2:i<=10 ^ 60):Bd 200 i:=by
 have:(10:Nat) ^ 60<2 ^ 200:=by decide
 unfold Bd;have e:((10:Int) ^ 60)=(((10:Nat) ^ 60:Nat):Int):=by decide
 lia
end Mt
namespace L2
open PySem PySem.Spec PyProof.Rows
abbrev Ac:=Sum Int Str
noncomputable def FQ:Ac->Value->Bool
 | .inl k,v=>Value.isInt k v
 | .inr x,v=>Value.isStrOf x v
noncomputable def U2 (w:World):Ac->Int
 | .inl k=>hashInt k
 | .inr x=>hashStr w x
theorem Df:∀ {k:Ac} {v:Value},FQ k v=true->(∃ i t,k=Sum.inl i/\v=Value.int i t)\/(∃ x t,k=Sum.inr x/\v=Value.str x t)
 | .inl i,v,h=>by
  obtain ⟨t,e⟩:=Value.isInt_shape (k:=i) (v:=v) h;exact .inl ⟨i,t,rfl,e⟩
 | .inr x,v,h=>by
  obtain ⟨t,e⟩:=Value.isStrOf_shape (x:=x) (v:=v) h;exact .inr ⟨x,t,rfl,e⟩
theorem U3 (i:Int) (t:Tok):FQ (.inl i) (.int i t)=true:=by simp [FQ,Value.isInt]
theorem U4 (x:Str) (t:Tok):FQ (.inr x) (.str x t)=true:=by simp [FQ,Value.isStrOf]
theorem U5 (a b:Int):decide ((Sum.inl a:Ac)=Sum.inl b)=(a==b):=by
 by_cases e:a=b
 ·subst e;simp
 ·have h:¬ (Sum.inl a:Ac)=Sum.inl b:=fun q=>e (Sum.inl.inj q)
  rw [decide_eq_false h];exact (beq_eq_false_iff_ne.mpr e).symm
theorem U8 (a b:Str):decide ((Sum.inr a:Ac)=Sum.inr b)=decide (a=b):=by
 by_cases e:a=b
 ·subst e;simp
 ·have h:¬ (Sum.inr a:Ac)=Sum.inr b:=fun q=>e (Sum.inr.inj q)
  rw [decide_eq_false h,decide_eq_false e]
theorem U6 (a:Int) (b:Str):decide ((Sum.inl a:Ac)=Sum.inr b)=false:=decide_eq_false (fun q=>nomatch q)
theorem U7 (a:Str) (b:Int):decide ((Sum.inr a:Ac)=Sum.inl b)=false:=decide_eq_false (fun q=>nomatch q)
noncomputable def Bx (prog:Program) (w:World):PySem.KeyKind prog w Ac where
 is:=FQ
 hash:=U2 w
 inj:=fun v a b ha hb=>by
  rcases Df ha with ⟨i,t,rfl,rfl⟩|⟨x,t,rfl,rfl⟩
  ·rcases Df hb with ⟨j,u,rfl,e⟩|⟨y,u,rfl,e⟩
   ·injection e with e1 _;rw [e1]
   ·exact nomatch e
  ·rcases Df hb with ⟨j,u,rfl,e⟩|⟨y,u,rfl,e⟩
   ·exact nomatch e
   ·injection e with e1 _;rw [e1]
 byValue:=fun k v h=>by
  rcases Df h with ⟨i,t,rfl,rfl⟩|⟨x,t,rfl,rfl⟩ <;> rfl
 pyHash:=fun hv h=>by
  rcases Df hv with ⟨i,t,rfl,rfl⟩|⟨x,t,rfl,rfl⟩
  ·exact wpAny_pyHash_int h
  ·exact wpAny_pyHash_str h
 eqBool:=fun hu hv h=>by
  rcases Df hu with ⟨i,t,rfl,rfl⟩|⟨x,t,rfl,rfl⟩
  ·rcases Df hv with ⟨j,u,rfl,rfl⟩|⟨y,u,rfl,rfl⟩
   ·rw [U5] at h;exact wpAny_eqBool_int h
   ·rw [U6] at h;exact SeqAt.EqAt.int_str i t y u _ _ _ _ h
  ·rcases Df hv with ⟨j,u,rfl,rfl⟩|⟨y,u,rfl,rfl⟩
   ·rw [U7] at h;exact SeqAt.EqAt.str_int x t j u _ _ _ _ h
   ·rw [U8] at h;exact wpAny_eqBool_str h
 «strs»:=fun k x t v h=>by
  rcases Df h with ⟨i,u,rfl,e⟩|⟨y,u,rfl,e⟩
  ·exact nomatch e
  ·injection e with e1 _
   subst e1;cases v <;> rfl
theorem Vz (prog:Program) (w:World) (i:Int) (t:Tok):(Bx prog w).is (.inl i) (.int i t)=true:=U3 i t
theorem V0 (prog:Program) (w:World) (x:Str) (t:Tok):(Bx prog w).is (.inr x) (.str x t)=true:=U4 x t
end L2
namespace L2
open PySem PySem.Spec PyProof.Rows
inductive V where
 | non|bl (b:Bool)|int (i:Int)|str (x:Str)|byt (b:Array UInt8)|flt (b:UInt64)|ref (a:Addr)|ty (n:String)
 deriving DecidableEq
def AU:V->Value->Prop
 | .non,u=>u=Value.none
 | .bl b,u=>u=Value.bool b
 | .int i,u=>∃ t,u=Value.int i t
 | .str x,u=>∃ t,u=Value.str x t
 | .byt b,u=>∃ t,u=Value.bytes b t
 | .flt b,u=>∃ t,u=Value.float b t
 | .ref a,u=>u=Value.ref a
 | .ty n,u=>u=Value.type n
abbrev AW:List V->List Value->Prop:=Paired AU
theorem AW.length {xs:List V} {us:List Value} (r:AW xs us):xs.length=us.length:=Paired.length r
theorem AW.get:∀ {xs:List V} {us:List Value} {i:Nat} {x:V},AW xs us->xs[i]? = some x->∃ u,us[i]? = some u/\AU x u
 | _,_,_,_,.nil,e=>by simp at e
 | _,_,0,_,.cons r _,e=>by simp at e;subst e;exact ⟨_,rfl,r⟩
 | _,_,i+1,x,.cons _ t,e=>by
  obtain ⟨u,h1,h2⟩:=AW.get (i:=i) (x:=x) t (by simpa using e)
  exact ⟨u,by simpa using h1,h2⟩
theorem AW.append:∀ {xs ys:List V} {us ws:List Value},AW xs us->AW ys ws->AW (xs++ys) (us++ws)
 | _,_,_,_,.nil,s=>s
 | _,_,_,_,.cons r t,s=>.cons r (AW.append t s)
theorem AW.take:∀ {xs:List V} {us:List Value} (n:Nat),AW xs us->AW (xs.take n) (us.take n)
 | _,_,0,_=>.nil
 | _,_,_+1,.nil=>.nil
 | _,_,n+1,.cons r t=>.cons r (AW.take n t)
theorem AW.drop:∀ {xs:List V} {us:List Value} (n:Nat),AW xs us->AW (xs.drop n) (us.drop n)
 | _,_,0,r=>r
 | _,_,_+1,.nil=>.nil
 | _,_,n+1,.cons _ t=>AW.drop n t
def Bi:Option V->Option Value->Prop
 | some v,some u=>AU v u
 | none,none=>True
 | _,_=>False
def KV {κ:Type}:List (κ × V)->List (κ × Value)->Prop:=Paired fun (p:κ × V) (q:κ × Value)=>p.1=q.1/\AU p.2 q.2
noncomputable def kV:Ac->V
 | .inl i=>.int i
 | .inr x=>.str x
inductive HO where
 | lst (xs:List V)
 | tup (xs:List V)
 | dK (kvs:List (Ac × V))|dT (kvs:List (List Ac × V))
 | set (S:Int->Bool) (n:Nat)
 | ins (C dx:Addr) (fs:List (Str × V))
 | own (x:Addr)
 | xd (fs:List (Str × V))
 | met (f x:Addr)
 | rng (lo hi:Int)
 | frz (o:Obj) (u:HO)
 | tbl (ps:Array Value)
 | ext (φ:Heap->Prop)
abbrev Hp:=Addr->Option HO
noncomputable def AC (H:Hp) (a:Addr) (o:HO):Hp:=fun b=>if b=a then some o else H b
theorem uS {H:Hp} {a:Addr} {o:HO}:AC H a o a=some o:=by unfold AC;rw [if_pos rfl]
theorem uN {H:Hp} {a b:Addr} {o:HO} (h:b≠a):AC H a o b=H b:=by unfold AC;rw [if_neg h]
theorem cS {H:Hp} {a:Addr} {o u:HO}:AC (AC H a o) a u=AC H a u:=by
 funext b;unfold AC;split <;> rfl
theorem WE {H:Hp} {a b:Addr} {o u:HO} (h:H a=some o) (h':H b=some u) (d:o≠u):a≠b:=by
 intro e;subst e;rw [h] at h';exact d (Option.some.inj h')
theorem nQ {H:Hp} {a b:Addr} {o:HO} (h:H a=some o) (h':H b=none):a≠b:=by
 intro e;subst e;rw [h] at h';cases h'
section
variable (P:Program) (w:World)
def Av (H:Hp) (h:Heap) (a:Addr):HO->Prop
 | .lst xs=>xs.length<=sizeLine/\∃ (its:List Value) (n:Nat),AW xs its/\h.get? a=some { cls:=.type "list",data:=.seq its.toArray n }
 | .tup xs=>xs.length<=sizeLine/\∃ its:List Value,AW xs its/\IsTup h a its.toArray
 | .dK kvs=>kvs.length<=sizeLine/\(a==sysModules)=false/\∃ vs,KV kvs vs/\h.DictOf (Bx P w) a vs
 | .dT kvs=>kvs.length<=sizeLine/\(a==sysModules)=false/\∃ xs:List (List Ac × Addr × Value),
   Paired (fun (p:List Ac × V) (q:List Ac × Addr × Value)=>p.1=q.1/\H q.2.1=some (.tup (p.1.map kV))/\AU p.2 q.2.2) kvs xs /\
   ∃ o es ep,h.get? a=some o/\o.ExactDict/\o.data = .dict es ep/\es.toList=xs.map (entryOfKey (tupleKind (Bx P w)))/\(xs.map (·.1)).Nodup
 | .set S n=>h.SetOf (intKind P w) a S n
 | .ins C dx fs=>H dx=some (.own a)/\fs.length<=1000/\dx≠a/\h.get? a=some (PySem.W.instObj C dx) /\
   ∃ mA,h.Ns1 dx mA/\(∀ f,Bi (fs.lookup f) (mA f))/\PySem.Within mA (fs.map (·.1))
 | .own _=>∃ o,h.get? a=some o
 | .xd fs=>∃ mA,h.Ns1 a mA/\∀ f,Bi (fs.lookup f) (mA f)
 | .rng lo hi=>∃ t u v,h.get? a=some { cls:=.type "range",data:=.fields #[.int lo t,.int hi u,.int 1 v] }
 | .frz o u=>h.get? a=some o/\Av H h a u
 | .tbl ps=>h.get? a=some { cls:=.none,data:=.fields ps }
 | .met f x=>h.get? a=some (PySem.W.methodObj (.ref f) (.ref x))
 | .ext φ=>φ h/\(∃ o,h.get? a=some o)/\∀ h1 h2:Heap,φ h1->(∀ o,h1.get? a=some o->h2.get? a=some o)->φ h2
def Ak (H:Hp) (h:Heap):Prop:=∀ a o,H a=some o->Av P w H h a o
end
section
variable {P:Program} {w:World} {H H':Hp} {h h':Heap} {a:Addr} {o:HO}
theorem Av.lt (x:Av P w H h a o):a<h.objs.size:=by
 cases o with
 | lst xs=>obtain ⟨_,_,_,_,e⟩:=x;exact Heap.lt_size e
 | tup xs=>obtain ⟨_,_,_,p⟩:=x;exact p.lt
 | dK kvs=>obtain ⟨_,_,_,_,o,_,_,e,_⟩:=x;exact Heap.lt_size e
 | dT kvs=>obtain ⟨_,_,_,_,o,_,_,e,_⟩:=x;exact Heap.lt_size e
 | set S n=>obtain ⟨o,_,_,_,e,_⟩:=x;exact Heap.lt_size e
 | ins C dx fs=>obtain ⟨_,_,_,e,_⟩:=x;exact Heap.lt_size e
 | own y=>obtain ⟨_,e⟩:=x;exact Heap.lt_size e
 | xd fs=>obtain ⟨_,⟨_,_,_,e,_⟩,_⟩:=x;exact Heap.lt_size e
 | rng lo hi=>obtain ⟨_,_,_,e⟩:=x;exact Heap.lt_size e
 | frz ob u=>obtain ⟨e,_⟩:=x;exact Heap.lt_size e
 | tbl ps=>exact Heap.lt_size (show h.get? a=some _ from x)
 | met f y=>exact Heap.lt_size (show h.get? a=some _ from x)
 | ext φ=>obtain ⟨_,⟨_,e⟩,_⟩:=x;exact Heap.lt_size e
theorem Paired.mapP {α β:Type} {F G:α->β->Prop}:∀ {l₁:List α} {l₂:List β},Paired F l₁ l₂->(∀ a b,F a b->G a b)->Paired G l₁ l₂
 | _,_,.nil,_=>.nil
 | _,_,.cons r t,f=>.cons (f _ _ r) (Paired.mapP t f)
theorem Av.stay (x:Av P w H h a o) (k:∀ b u,(b=a\/H b=some (.own a))->h.get? b=some u->h'.get? b=some u)
  (ho:∀ b,H b=some (.own a)->H' b=some (.own a)) (ht:∀ b xs,H b=some (.tup xs)->H' b=some (.tup xs)):Av P w H' h' a o:=by
 induction o with
 | lst xs=>obtain ⟨z,its,n,r,e⟩:=x;exact ⟨z,its,n,r,k _ _ (.inl rfl) e⟩
 | tup xs=>obtain ⟨z,its,r,ob,e,c⟩:=x;exact ⟨z,its,r,ob,k _ _ (.inl rfl) e,c⟩
 | dK kvs=>obtain ⟨z,y,vs,r,ob,es,ep,e,c⟩:=x;exact ⟨z,y,vs,r,ob,es,ep,k _ _ (.inl rfl) e,c⟩
 | dT kvs =>
  obtain ⟨z,y,xs,r,ob,es,ep,e,c⟩:=x;exact ⟨z,y,xs,Paired.mapP r fun p q z=>⟨z.1,ht _ _ z.2.1,z.2.2⟩,ob,es,ep,k _ _ (.inl rfl) e,c⟩
 | set S n=>obtain ⟨ob,es,ep,t,e,c⟩:=x;exact ⟨ob,es,ep,t,k _ _ (.inl rfl) e,c⟩
 | ins C dx fs =>
  obtain ⟨d,z,ne,e,mA,⟨od,es,ep,e2,c⟩,r⟩:=x;exact ⟨ho _ d,z,ne,k _ _ (.inl rfl) e,mA,⟨od,es,ep,k _ _ (.inr d) e2,c⟩,r⟩
 | own y=>obtain ⟨ob,e⟩:=x;exact ⟨ob,k _ _ (.inl rfl) e⟩
 | xd fs=>obtain ⟨mA,⟨od,es,ep,e,c⟩,r⟩:=x;exact ⟨mA,⟨od,es,ep,k _ _ (.inl rfl) e,c⟩,r⟩
 | rng lo hi=>obtain ⟨t,u,v,e⟩:=x;exact ⟨t,u,v,k _ _ (.inl rfl) e⟩
 | frz ob u ih=>obtain ⟨e,q⟩:=x;exact ⟨k _ _ (.inl rfl) e,ih q⟩
 | tbl ps =>
  have e:h.get? a=some { cls:=.none,data:=.fields ps }:=x;show h'.get? a=some { cls:=.none,data:=.fields ps };exact k a _ (.inl rfl) e
 | met f y =>
  have e:h.get? a=some (PySem.W.methodObj (.ref f) (.ref y)):=x;show h'.get? a=some (PySem.W.methodObj (.ref f) (.ref y));exact k a _ (.inl rfl) e
 | ext φ=>obtain ⟨p,⟨o,e⟩,st⟩:=x;exact ⟨st _ _ p fun o q=>k _ _ (.inl rfl) q,⟨o,k _ _ (.inl rfl) e⟩,st⟩
theorem Ak.lt (x:Ak P w H h) (e:H a=some o):a<h.objs.size:=(x a o e).lt
theorem Ak.fresh (x:Ak P w H h) (e:h.objs.size<=a):H a=none:=by
 cases q:H a with
 | none=>rfl
 | some u=>exact absurd (Nat.lt_of_lt_of_le (x.lt q) e) (Nat.lt_irrefl _)
theorem Ak.kept (x:Ak P w H h) (k:∀ b u,h.get? b=some u->h'.get? b=some u):Ak P w H h':=fun a o e =>
 (x a o e).stay (fun b u _ q=>k b u q) (fun _ q=>q) fun _ _ q=>q
theorem Ak.laid (x:Ak P w H h) (k:∀ b u,h.get? b=some u->h'.get? b=some u) (hp:h.objs.size<=a) (new:Av P w (AC H a o) h' a o):Ak P w (AC H a o) h':=fun b u e=>by
 have hn:=x.fresh hp;by_cases hb:b=a
 ·subst hb;rw [uS] at e;cases e;exact new
 ·rw [uN hb] at e
  exact (x b u e).stay (fun c v _ q=>k c v q) (fun c q=>by rw [uN (nQ q hn)];exact q) fun c xs q=>by rw [uN (nQ q hn)];exact q
end
def Rd (H:Hp) (a:Addr) (u:HO):Prop:=H a=some u\/∃ o,H a=some (.frz o u)
theorem Rd.ok {P:Program} {w:World} {H:Hp} {h:Heap} {a:Addr} {u:HO} (r:Rd H a u) (x:Ak P w H h):Av P w H h a u:=by
 rcases r with r|⟨o,r⟩
 ·exact x a u r
 ·obtain ⟨_,q⟩:=x a _ r
  exact q
def Fk:Option HO->Prop
 | some (.lst _)=>True
 | some (.dK _)=>True
 | some (.dT _)=>True
 | some (.set _ _)=>True
 | some (.ins _ _ _)=>True
 | some (.ext _)=>True
 | _=>False
section
variable {P:Program} {w:World} {H:Hp} {h h':Heap} {x e:Addr} {o':HO}
theorem Ak.write (ok:Ak P w H h) (mu:Fk (H x)) (he:e=x\/H e=some (.own x)) (k:∀ b u,b≠e->h.get? b=some u->h'.get? b=some u) (heo:∃ u,h'.get? e=some u)
  (new:Av P w (AC H x o') h' x o'):Ak P w (AC H x o') h':=fun b u q=>by
 have nown:∀ c y,H c=some (.own y)->c≠x:=fun c y r z=>by subst z;rw [r] at mu;exact mu
 have ntup:∀ c xs,H c=some (.tup xs)->c≠x:=fun c xs r z=>by subst z;rw [r] at mu;exact mu
 by_cases hb:b=x
 ·subst hb;rw [uS] at q;cases q;exact new
 ·rw [uN hb] at q
  by_cases hbe:b=e
  ·have q':H b=some (.own x):=by
    rcases he with z|z
    ·exact absurd (hbe.trans z) hb
    ·rw [hbe];exact z
   rw [q] at q';cases q';obtain ⟨v,hv⟩:=heo;exact ⟨v,by rw [hbe];exact hv⟩
  ·refine (ok b u q).stay (fun c v hc r=>k c v ?_ r) (fun c r=>by rw [uN (nown c b r)];exact r) fun c xs r=>by rw [uN (ntup c xs r)];exact r
   rcases hc with rfl|hc
   ·exact hbe
   ·rintro rfl
    rcases he with z|z
    ·exact nown c b hc z
    ·rw [hc] at z;cases z;exact hb rfl
end
structure Un (fs ex:List Addr) (H H':Hp) (h h':Heap):Prop where
 keep:∀ b o,h.get? b=some o->H b=none->b ∉ fs->b ∉ ex->h'.get? b=some o
 slot:∀ b o,h.get? b=some o->H b=none->b∈fs->b ∉ ex->∃ sl,h'.get? b=some { o with slots:=sl }
 free:∀ b o,h.get? b=some o->H b=none->b ∉ ex->H' b=none
 there:∀ b o,h.get? b=some o->b ∉ ex->∃ o',h'.get? b=some o'
 tups:∀ b xs,H b=some (.tup xs)->H' b=some (.tup xs)
 frzs:∀ b o u,H b=some (.frz o u)->H' b=some (.frz o u)
 tbls:∀ b ps,H b=some (.tbl ps)->∃ more,H' b=some (.tbl (ps++more))
section
variable {fs fs' ex ex':List Addr} {H H1 H2:Hp} {h h1 h2 h':Heap} {a x e:Addr} {o:HO}
theorem Un.any (u:Un fs ex H H1 h h1) {b:Addr} {ob:Obj} (q:h.get? b=some ob) (n:H b=none) (hx:b ∉ ex):∃ sl,h1.get? b=some { ob with slots:=sl }:=by
 by_cases hb:b∈fs
 ·exact u.slot b ob q n hb hx
 ·exact ⟨ob.slots,u.keep b ob q n hb hx⟩
theorem Un.kept (k:∀ b u,h.get? b=some u->h'.get? b=some u):Un fs ex H H h h' :=
 ⟨fun b ob q _ _ _=>k b ob q,fun b ob q _ _ _=>⟨ob.slots,k b ob q⟩,fun _ _ _ n _=>n,fun b ob q _=>⟨ob,k b ob q⟩,fun _ _ q=>q,fun _ _ _ q=>q,fun _ ps q=>⟨#[],by rw [q];simp⟩⟩
theorem Un.refl:Un fs ex H H h h:=Un.kept fun _ _ q=>q
theorem Un.laid (k:∀ b u,h.get? b=some u->h'.get? b=some u) (hp:h.objs.size<=a) (hn:H a=none):Un fs ex H (AC H a o) h h' where
 keep:=fun b u q _ _ _=>k b u q
 slot:=fun b u q _ _ _=>⟨u.slots,k b u q⟩
 free:=fun b u q n _=>by rw [uN (Nat.ne_of_lt (Nat.lt_of_lt_of_le (Heap.lt_size q) hp))];exact n
 there:=fun b u q _=>⟨u,k b u q⟩
 tups:=fun b xs q=>by rw [uN (nQ q hn)];exact q
 frzs:=fun b u xs q=>by rw [uN (nQ q hn)];exact q
 tbls:=fun b ps q=>⟨#[],by rw [uN (nQ q hn),q];simp⟩
theorem Un.write (mu:Fk (H x)) (he:e=x\/H e=some (.own x)) (k:∀ b u,b≠e->h.get? b=some u->h'.get? b=some u) (heo:∃ u,h'.get? e=some u):Un fs ex H (AC H x o) h h':=by
 have hx:∀ b,H b=none->b≠x:=fun b n z=>by subst z;rw [n] at mu;exact mu
 have hb:∀ b,H b=none->b≠e:=fun b n z=>by
  subst z;rcases he with r|r
  ·exact hx b n r
  ·rw [n] at r;cases r
 have hm:∀ b u,H b=some u->¬ Fk (some u)->b≠x:=fun b u q nm z=>by subst z;rw [q] at mu;exact nm mu
 refine ⟨fun b u q n _ _=>k b u (hb b n) q,fun b u q n _ _=>⟨u.slots,k b u (hb b n) q⟩,fun b u q n _=>by rw [uN (hx b n)];exact n,fun b u q _=>?_,
  fun b xs q=>by rw [uN (hm b _ q fun z=>z)];exact q,fun b u xs q=>by rw [uN (hm b _ q fun z=>z)];exact q,fun b ps q=>⟨#[],by rw [uN (hm b _ q fun z=>z),q];simp⟩⟩
 by_cases hbe:b=e
 ·subst hbe;exact heo
 ·exact ⟨u,k b u hbe q⟩
end
noncomputable def He (h:Heap) (H:Hp):List Addr:=(List.range h.objs.size).filter fun a=>(H a).isSome
noncomputable def De (h:Heap) (H:Hp):Heap:=PySem.W.hideAll h (He h H)
theorem UD (h:Heap) (H:Hp):(De h H).objs.size=h.objs.size:=PySem.W.hideAll_size _ _
theorem UC {h:Heap} {H:Hp} {b:Addr} {o:Obj} (e:h.get? b=some o) (n:H b=none):(De h H).get? b=some o :=
 PySem.W.hideAll_get _ e fun hm=>by
  have q:(H b).isSome=true:=(List.mem_filter.mp hm).2;rw [n] at q;simp at q
theorem WI {h:Heap} {H:Hp} {b:Addr} {o:Obj} (e:(De h H).get? b=some o):h.get? b=some o/\H b=none:=by
 have e':h.get? b=some o:=PySem.W.of_hideAll (He h H) e;refine ⟨e',?_⟩;cases q:H b with
 | none=>rfl
 | some x =>
  have hm:b∈He h H:=List.mem_filter.mpr ⟨List.mem_range.mpr (Heap.lt_size e'),by simp [q]⟩
  have z:(De h H).get? b=none:=PySem.W.hideAll_none (He h H) hm;rw [z] at e;cases e
noncomputable def PK (g h:Heap) (L:Addr):zR:=(List.range h.objs.size).filterMap fun a=>if a=L\/(g.get? a).isSome=true then none else (h.get? a).map fun o=>(a,o)
noncomputable def BM (g h:Heap) (L d:Addr):zR:=(PK g h L).filter fun p=>decide (p.1≠d)
end L2
namespace L2
open PySem PySem.Spec PyProof.Rows
structure Mod (K:zP) (mg:zQ) (base:Heap):Prop where
 kin:K.In base
 glob:base.Ns mainGlobals mg
 blt:∃ mb,base.Ns builtinsNs mb/\∀ x:Str,x≠"__name__"->mb x=bootBuiltins x
 nolimit:base.NoLimit
structure Cx where
 prog:Program
 w:World
 K:zP
 mg:Str->Option Value
 base:Heap
 A:Around
 N:List Str
 s₀:Shared
 H₀:Hp
 env:Env
 outer:List Env
 stack:List Env
 ex:List Addr
 fn:Str->Bool
 calm:Bool
 pn:zR
 xe:Value->Shared->Prop
noncomputable def Ap (l:List Env):List Addr:=l.filterMap (·.frame)
noncomputable abbrev Cx.fs (X:Cx):List Addr:=Ap X.outer
def Hy (sc:Scope) (x:Str):Prop:=sc.names.lookup x=some .local\/sc.names.lookup x=some .cell\/sc.names.lookup x=some .free
def Ez (sc:Scope) (x:Str):Prop:=sc.names.lookup x=some .local\/sc.names.lookup x=some .cell
def PB (env:Env) (h:Heap) (m:Str->Option Value) (x:Str) (u:Value):Prop :=
 (env.kindOf x=some .local/\m x=some u)\/((env.kindOf x=some .cell\/env.kindOf x=some .free)/\∃ c,env.cells.lookup x=some c/\h.IsCell c (some u))
structure Cx.Ok (X:Cx):Prop where
 mod:Mod X.K X.mg X.base
 kind:X.env.scope.kind = .function
 glob:X.env.globals=mainGlobals
 blt:X.env.builtins=builtinsNs
 above:X.s₀.heap.objs.size<=X.env.locals
 inj:∀ x y c,X.env.cells.lookup x=some c->X.env.cells.lookup y=some c->x=y
 has:∀ x,(X.env.kindOf x=some .cell\/X.env.kindOf x=some .free)->∃ c,X.env.cells.lookup x=some c
 cab:∀ x c,X.fn x=true->X.env.cells.lookup x=some c->X.s₀.heap.objs.size<=c
 hd:X.calm=true->X.A.handled=none
 frames:X.A.frames=some X.stack
 stk:X.stack=X.outer\/(X.stack=X.env::X.outer/\X.env.frame=some X.env.locals)
 exf:∀ b∈X.ex,b≠X.env.locals/\∀ x c,X.env.cells.lookup x=some c->c≠b
 bs:∀ b o,X.base.get? b=some o->X.s₀.heap.get? b=some o/\X.H₀ b=none
 bsz:X.base.objs.size<=X.s₀.heap.objs.size
 noex:∀ b o,X.base.get? b=some o->b ∉ X.ex
 exfs:∀ b∈X.ex,b ∉ X.fs
 funs:X.s₀.heap.FunFrames X.base X.outer
 frf:∀ b∈X.fs,X.H₀ b=none
structure AD (X:Cx) (pins:zR) (σ:List (Option V)) (H:Hp) (s:Shared):Prop where
 ok:X.Ok
 os:s.os=X.s₀.os
 bare:AllBare s.gens
 base:Un X.fs X.ex X.H₀ H X.s₀.heap s.heap
 loc:∃ m,s.heap.Ns X.env.locals m/\∀ (i:Nat) (x:Str) (v:V),X.N[i]? = some x->σ[i]? = some (some v)->Hy X.env.scope x->∃ u,AU v u/\PB X.env s.heap m x u
 cell:∀ x c,X.env.cells.lookup x=some c->∃ v,s.heap.IsCell c v
 free:H X.env.locals=none
 freeC:∀ x c,X.env.cells.lookup x=some c->H c=none
 pin:∀ p∈X.pn++pins,s.heap.get? p.1=some p.2/\H p.1=none/\p.1≠X.env.locals/\p.1 ∉ X.fs/\∀ v,p.2.data≠.cell v
 hok:Ak X.prog X.w H s.heap
 len:σ.length=X.N.length
section
variable {X:Cx} {pins:zR} {σ:List (Option V)} {H H':Hp} {s:Shared} {h':Heap}
theorem Cx.Ok.nofr (ok:X.Ok) {b:Addr} {o:Obj} (e:X.base.get? b=some o):b ∉ X.fs:=fun hb=>by
 have:=(ok.funs.mem hb).1;rw [e] at this;cases this
theorem AD.bs (I:AD X pins σ H s):∀ b o,X.base.get? b=some o->s.heap.get? b=some o/\H b=none:=fun b o e =>
 ⟨I.base.keep b o (I.ok.bs b o e).1 (I.ok.bs b o e).2 (I.ok.nofr e) (I.ok.noex b o e),I.base.free b o (I.ok.bs b o e).1 (I.ok.bs b o e).2 (I.ok.noex b o e)⟩
theorem AD.bk (I:AD X pins σ H s):∀ b o,X.base.get? b=some o->s.heap.get? b=some o:=fun b o e=>(I.bs b o e).1
theorem AD.mod (I:AD X pins σ H s):Mod X.K X.mg X.base:=I.ok.mod
theorem AD.kIn (I:AD X pins σ H s):X.K.In s.heap:=I.ok.mod.kin.keeps I.bk
theorem AD.lt (I:AD X pins σ H s):X.env.locals<s.heap.objs.size:=let ⟨_,hn,_⟩:=I.loc;hn.lt
theorem AD.sz (I:AD X pins σ H s):X.s₀.heap.objs.size<=s.heap.objs.size:=Nat.le_trans I.ok.above (Nat.le_of_lt I.lt)
theorem AD.nofs (I:AD X pins σ H s) {a:Addr} (h:s.heap.objs.size<=a):a ∉ X.fs:=fun hb=>by
 obtain ⟨_,o,ho,_⟩:=I.ok.funs.mem hb;exact absurd (Nat.lt_of_lt_of_le (Heap.lt_size ho) (Nat.le_trans I.sz h)) (Nat.lt_irrefl _)
theorem AD.cne (I:AD X pins σ H s):∀ x c,X.env.cells.lookup x=some c->c≠X.env.locals:=fun x c e z=>by
 obtain ⟨v,o,ho,hd⟩:=I.cell x c e;obtain ⟨m,⟨o',es,ep,ho',hd',_⟩,_⟩:=I.loc;rw [z,ho'] at ho;cases ho;rw [hd'] at hd;cases hd
theorem AD.funs (I:AD X pins σ H s):s.heap.FunFrames X.base X.outer:=by
 have all:∀ (l:List Env),(∀ b∈Ap l,b∈X.fs)->X.s₀.heap.FunFrames X.base l->s.heap.FunFrames X.base l:=by
  intro l
  induction l with
  | nil=>intro _ _;trivial
  | cons env r ih =>
   intro hs hl;obtain ⟨hk,⟨L,o,hf,hn,ho,hd⟩,hr⟩:=hl;have hL:L∈X.fs:=hs L (by unfold Ap;rw [List.filterMap_cons,hf];exact List.mem_cons_self)
   obtain ⟨sl,e⟩:=I.base.slot L o ho (I.ok.frf L hL) hL fun z=>I.ok.exfs L z hL;exact ⟨hk,⟨L,_,hf,hn,e,hd⟩,ih (fun b hb=>hs b (by unfold Ap;rw [List.filterMap_cons,hf];exact List.mem_cons_of_mem _ hb)) hr⟩
 exact all X.outer (fun _ hb=>hb) I.ok.funs
theorem AD.stack (I:AD X pins σ H s):s.heap.FunFrames X.base X.stack:=by
 rcases I.ok.stk with e|⟨e,hf⟩
 ·rw [e];exact I.funs
 ·rw [e]
  obtain ⟨m,hn,_⟩:=I.loc;refine .cons (by rw [I.ok.kind];decide) hf hn ?_ I.funs
  exact Heap.get?_none_of_le (Nat.le_trans I.ok.bsz I.ok.above)
theorem AD.stkSub (I:AD X pins σ H s):∀ b∈Ap X.stack,b∈X.env.locals::X.fs:=fun b hb=>by
 rcases I.ok.stk with e|⟨e,hf⟩
 ·rw [e] at hb;exact List.mem_cons_of_mem _ hb
 ·rw [e] at hb
  unfold Ap at hb;rw [List.filterMap_cons,hf] at hb;exact hb
theorem AD.stkFree (I:AD X pins σ H s):∀ b∈Ap X.stack,H b=none:=fun b hb=>by
 rcases List.mem_cons.mp (I.stkSub b hb) with e|hb
 ·rw [e];exact I.free
 ·obtain ⟨_,o,ho,_⟩:=I.ok.funs.mem hb
  exact I.base.free b o ho (I.ok.frf b hb) fun z=>I.ok.exfs b z hb
theorem AD.step {g':Array GenState} {t':Nat} {d':Drawn} {ch:List Addr} (I:AD X pins σ H s)
  (hch:∀ b∈ch,(b∈X.ex\/X.s₀.heap.objs.size<=b)/\b≠X.env.locals/\(∀ x c,X.env.cells.lookup x=some c->c≠b)/\∀ p∈X.pn++pins,p.1≠b)
  (keep:∀ b o,b≠X.env.locals->b ∉ X.fs->b ∉ ch->s.heap.get? b=some o->H b=none->h'.get? b=some o)
  (slot:∀ b o,b≠X.env.locals->b∈X.fs->b ∉ ch->s.heap.get? b=some o->H b=none->∃ sl,h'.get? b=some { o with slots:=sl }) (free:∀ b o,b ∉ ch->s.heap.get? b=some o->H b=none->H' b=none)
  (there:∀ b o,b ∉ ch->s.heap.get? b=some o->∃ o',h'.get? b=some o')
  (tups:∀ b xs,H b=some (.tup xs)->H' b=some (.tup xs)) (frzs:∀ b o u,H b=some (.frz o u)->H' b=some (.frz o u)) (tbls:∀ b ps,H b=some (.tbl ps)->∃ more,H' b=some (.tbl (ps++more)))
  (ns:∀ m,s.heap.Ns X.env.locals m->h'.Ns X.env.locals m) (hok:Ak X.prog X.w H' h') (hg:AllBare g') :
  AD X pins σ H' { s with heap:=h',gens:=g',drawn:=d',toks:=t' }:=by
 have neL:∀ b o,X.s₀.heap.get? b=some o->b≠X.env.locals:=fun b o e=>Nat.ne_of_lt (Nat.lt_of_lt_of_le (Heap.lt_size e) I.ok.above);have neC:∀ b o,X.s₀.heap.get? b=some o->b ∉ X.ex->b ∉ ch:=fun b o e hx hb=>by
  rcases (hch b hb).1 with z|z
  ·exact hx z
  ·exact absurd (Nat.lt_of_lt_of_le (Heap.lt_size e) z) (Nat.lt_irrefl _)
 have cellK:∀ x c,X.env.cells.lookup x=some c->∀ v,s.heap.IsCell c v->h'.IsCell c v:=fun x c e v ⟨o,ho,hd⟩=>by
  have nch:c ∉ ch:=fun z=>(hch c z).2.2.1 x c e rfl;by_cases hc:c∈X.fs
  ·obtain ⟨sl,q⟩:=slot c o (I.cne x c e) hc nch ho (I.freeC x c e)
   exact ⟨_,q,hd⟩
  ·exact ⟨o,keep c o (I.cne x c e) hc nch ho (I.freeC x c e),hd⟩
 refine ⟨I.ok,I.os,hg,⟨fun b o e n hb hx=>?_,fun b o e n hb hx=>?_,fun b o e n hx=>?_,fun b o e hx=>?_,fun b xs e=>tups b xs (I.base.tups b xs e),fun b o xs e=>frzs b o xs (I.base.frzs b o xs e),fun b ps e=>?_⟩,?_,fun x c e=>?_,?_,fun x c e=>?_,fun p hp=>?_,hok,I.len⟩
 ·exact keep b o (neL b o e) hb (neC b o e hx) (I.base.keep b o e n hb hx) (I.base.free b o e n hx)
 ·obtain ⟨sl,e1⟩:=I.base.slot b o e n hb hx
  obtain ⟨sl',e2⟩:=slot b _ (neL b o e) hb (neC b o e hx) e1 (I.base.free b o e n hx);exact ⟨sl',e2⟩
 ·obtain ⟨o',e1⟩:=I.base.there b o e hx
  exact free b o' (neC b o e hx) e1 (I.base.free b o e n hx)
 ·obtain ⟨o',e1⟩:=I.base.there b o e hx
  exact there b o' (neC b o e hx) e1
 ·obtain ⟨m1,e1⟩:=I.base.tbls b ps e
  obtain ⟨m2,e2⟩:=tbls b _ e1;exact ⟨m1++m2,by rw [e2,Array.append_assoc]⟩
 ·obtain ⟨m,hn,hl⟩:=I.loc
  refine ⟨m,ns m hn,fun i x v e1 e2 e3=>?_⟩;obtain ⟨u,r,l⟩:=hl i x v e1 e2 e3;refine ⟨u,r,?_⟩;rcases l with l|⟨k,c,e,z⟩
  ·exact .inl l
  ·exact .inr ⟨k,c,e,cellK x c e _ z⟩
 ·obtain ⟨v,z⟩:=I.cell x c e
  exact ⟨v,cellK x c e v z⟩
 ·obtain ⟨m,⟨o,_,_,ho,_⟩,_⟩:=I.loc
  exact free _ o (fun z=>(hch _ z).2.1 rfl) ho I.free
 ·obtain ⟨v,o,ho,hd⟩:=I.cell x c e
  exact free c o (fun z=>(hch c z).2.2.1 x c e rfl) ho (I.freeC x c e)
 ·obtain ⟨e,n,ne,nf,d⟩:=I.pin p hp
  have nch:p.1 ∉ ch:=fun z=>(hch p.1 z).2.2.2 p hp rfl;exact ⟨keep p.1 p.2 ne nf nch e n,free p.1 p.2 nch e n,ne,nf,d⟩
theorem AD.un {t':Nat} (I:AD X pins σ H s) (u:Un X.fs [] H H' s.heap h') (hok:Ak X.prog X.w H' h'):AD X pins σ H' { s with heap:=h',toks:=t' }:=by
 obtain ⟨m,⟨o,es,ep,ho,r⟩,_⟩:=id I.loc;obtain ⟨sl,hL⟩:=u.any ho I.free (by simp)
 exact I.step (g':=s.gens) (d':=s.drawn) (ch:=[]) (fun _ z=>nomatch z) (fun b o _ hb _ e n=>u.keep b o e n hb (by simp)) (fun b o _ hb _ e n=>u.slot b o e n hb (by simp)) (fun b o _ e n=>u.free b o e n (by simp)) (fun b o _ e=>u.there b o e (by simp)) u.tups u.frzs u.tbls (fun m' hm=>by
  obtain ⟨o',es',ep',ho',r'⟩:=hm;rw [ho] at ho';cases ho';exact ⟨_,es',ep',hL,r'⟩) hok I.bare
theorem AD.call {g':Array GenState} {t':Nat} {d':Drawn} {ch:List Addr} (I:AD X pins σ H s) (u:Un (Ap X.stack) ch H H' s.heap h') (hok:Ak X.prog X.w H' h') (hg:AllBare g')
  (hch:∀ b∈ch,(b∈X.ex\/X.s₀.heap.objs.size<=b)/\b≠X.env.locals/\(∀ x c,X.env.cells.lookup x=some c->c≠b)/\∀ p∈X.pn++pins,p.1≠b) :
  AD X pins σ H' { s with heap:=h',gens:=g',drawn:=d',toks:=t' }:=by
 obtain ⟨m,⟨o,es,ep,ho,r⟩,_⟩:=id I.loc;obtain ⟨sl,hL⟩:=u.any ho I.free fun z=>(hch _ z).2.1 rfl;exact I.step (ch:=ch) hch (fun b o hL hb hc e n=>u.keep b o e n (fun z=>(List.mem_cons.mp (I.stkSub b z)).elim hL hb) hc) (fun b o _ _ hc e n=>u.any e n hc) (fun b o hc e n=>u.free b o e n hc) (fun b o hc e=>u.there b o e hc) u.tups u.frzs u.tbls (fun m' hm=>by
  obtain ⟨o',es',ep',ho',r'⟩:=hm;rw [ho] at ho';cases ho';exact ⟨_,es',ep',hL,r'⟩) hok hg
theorem AD.turned {t':Nat} {it:Addr} (I:AD X pins σ H s) (k:∀ b o,b≠it->s.heap.get? b=some o->h'.get? b=some o) (hn:H it=none) (hL:it≠X.env.locals)
  (h1:it∈X.ex\/X.s₀.heap.objs.size<=it) (h2:∀ x c,X.env.cells.lookup x=some c->c≠it) (h3:∀ p∈X.pn++pins,p.1≠it):AD X pins σ H { s with heap:=h',toks:=t' }:=by
 have nit:∀ b u,H b=some u->b≠it:=fun b u e z=>by rw [z,hn] at e;cases e
 refine I.step (g':=s.gens) (d':=s.drawn) (ch:=[it]) (fun b hb=>?_) (fun b o _ _ hc e _=>k b o (fun z=>hc (by simp [z])) e) (fun b o _ _ hc e _=>⟨o.slots,k b o (fun z=>hc (by simp [z])) e⟩) (fun _ _ _ _ n=>n)
  (fun b o hc e=>⟨o,k b o (fun z=>hc (by simp [z])) e⟩) (fun _ _ e=>e) (fun _ _ _ e=>e) (fun b ps e=>⟨#[],by rw [e];simp⟩) (fun m hm=>?_) (fun b u e=>?_) I.bare
 ·have e:b=it:=by simpa using hb
  subst e;exact ⟨h1,hL,h2,h3⟩
 ·obtain ⟨o,es,ep,ho,r⟩:=hm
  exact ⟨o,es,ep,k _ o (Ne.symm hL) ho,r⟩
 ·refine (I.hok b u e).stay (fun c v hc q=>k c v ?_ q) (fun _ q=>q) fun _ _ q=>q
  rcases hc with z|z
  ·rw [z];exact nit b u e
  ·exact nit c _ z
theorem AD.tok (I:AD X pins σ H s) (t:Nat):AD X pins σ H { s with toks:=t }:=I.un (h':=s.heap) (t':=t) Un.refl I.hok
theorem AD.kept {t':Nat} (I:AD X pins σ H s) (k:∀ b u,s.heap.get? b=some u->h'.get? b=some u):AD X pins σ H { s with heap:=h',toks:=t' }:=I.un (Un.kept k) (I.hok.kept k)
theorem AD.laid {a:Addr} {o:HO} {t':Nat} (I:AD X pins σ H s) (k:∀ b u,s.heap.get? b=some u->h'.get? b=some u) (hp:s.heap.objs.size<=a) (new:Av X.prog X.w (AC H a o) h' a o) :
  AD X pins σ (AC H a o) { s with heap:=h',toks:=t' }:=I.un (Un.laid k hp (I.hok.fresh hp)) (I.hok.laid k hp new)
theorem AD.write {x e:Addr} {o:HO} {t':Nat} (I:AD X pins σ H s) (mu:Fk (H x)) (he:e=x\/H e=some (.own x)) (k:∀ b u,b≠e->s.heap.get? b=some u->h'.get? b=some u) (heo:∃ u,h'.get? e=some u)
  (new:Av X.prog X.w (AC H x o) h' x o):AD X pins σ (AC H x o) { s with heap:=h',toks:=t' }:=I.un (Un.write mu he k heo) (I.hok.write mu he k heo new)
theorem AD.pins_of {pins':zR} (I:AD X pins σ H s) (h:∀ p∈pins',s.heap.get? p.1=some p.2/\H p.1=none/\p.1≠X.env.locals/\p.1 ∉ X.fs/\∀ v,p.2.data≠.cell v):AD X pins' σ H s :=
 ⟨I.ok,I.os,I.bare,I.base,I.loc,I.cell,I.free,I.freeC,fun p hp=>(List.mem_append.mp hp).elim (fun z=>I.pin p (List.mem_append_left _ z)) (h p),I.hok,I.len⟩
theorem Iv {N:List Str} (hN:N.Nodup) {i j:Nat} {x:Str} (a:N[i]? = some x) (b:N[j]? = some x):i=j:=by
 obtain ⟨h1,e1⟩:=List.getElem?_eq_some_iff.mp a;obtain ⟨h2,e2⟩:=List.getElem?_eq_some_iff.mp b;exact (List.getElem_inj hN).mp (e1.trans e2.symm)
theorem Jp {M:Model} {A:Around} {E:Value->Shared->Prop} {i:Nat} {x:Str} {v:V} {u:Value} {Q:Unit->Shared->Prop} (I:AD X pins σ H s) (hN:X.N.Nodup) (hi:X.N[i]? = some x) (hx:Ez X.env.scope x) (r:AU v u)
  (h:∀ s',AD X pins (σ.set i (some v)) H s'->(∃ a,Heap.SameBut a s.heap s'.heap/\(a=X.env.locals\/X.env.cells.lookup x=some a))->Q () s') (hf:X.fn x=true\/X.env.scope.names.lookup x=some .local:=by first|exact .inl rfl|exact .inr rfl|assumption):wpAny M A (storeName X.env x u) Q E s:=by
 obtain ⟨m,hn,hl⟩:=id I.loc;have hcls:(X.env.scope.kind==.class||(X.env.scope.kind==.module&&X.env.locals != X.env.globals))=false:=by rw [I.ok.kind];rfl
 have hiσ:i<σ.length:=by rw [I.len];exact (List.getElem?_eq_some_iff.mp hi).1
 have cne:=I.cne;have tracked:∀ {a:Addr} {h':Heap},(∃ o,s.heap.get? a=some o/\H a=none)->Heap.SameBut a s.heap h'->Ak X.prog X.w H h':=fun {a h'} ha hs b ob e=>by
  obtain ⟨_,_,hfree⟩:=ha;refine (I.hok b ob e).stay (fun c w' hc q=>(hs.2 c ?_).trans q) (fun _ q=>q) fun _ _ q=>q;rintro rfl
  rcases hc with rfl|hc
  ·rw [hfree] at e;cases e
  ·rw [hfree] at hc;cases hc
 rcases hx with hk|hk
 ·refine wpAny_storeName_local hk hn (fun h' hn' hs=>?_) hcls
  obtain ⟨oL,_,_,hoL,_⟩:=id hn;refine h _ ⟨I.ok,I.os,I.bare,⟨fun b o e n hb hx=>?_,fun b o e n hb hx=>?_,I.base.free,fun b o e hx=>?_,I.base.tups,I.base.frzs,I.base.tbls⟩,⟨_,hn',fun j y v' e1 e2 e3=>?_⟩,fun y c e=>?_,I.free,I.freeC,fun p hp=>?_,tracked ⟨oL,hoL,I.free⟩ hs,by simpa using I.len⟩ ⟨_,hs,.inl rfl⟩
  ·exact (hs.2 b (Nat.ne_of_lt (Nat.lt_of_lt_of_le (Heap.lt_size e) I.ok.above))).trans (I.base.keep b o e n hb hx)
  ·obtain ⟨sl,e1⟩:=I.base.slot b o e n hb hx
   exact ⟨sl,(hs.2 b (Nat.ne_of_lt (Nat.lt_of_lt_of_le (Heap.lt_size e) I.ok.above))).trans e1⟩
  ·obtain ⟨o',e1⟩:=I.base.there b o e hx
   exact ⟨o',(hs.2 b (Nat.ne_of_lt (Nat.lt_of_lt_of_le (Heap.lt_size e) I.ok.above))).trans e1⟩
  ·by_cases hj:j=i
   ·subst hj
    rw [hi] at e1;cases e1;rw [List.getElem?_set_self hiσ] at e2;cases e2;exact ⟨u,r,.inl ⟨hk,by simp⟩⟩
   ·rw [List.getElem?_set_ne (Ne.symm hj)] at e2
    obtain ⟨u',r',q⟩:=hl j y v' e1 e2 e3;refine ⟨u',r',?_⟩;rcases q with ⟨k,e⟩|⟨k,c,e,z⟩
    ·refine .inl ⟨k,?_⟩
     have:y≠x:=fun e=>hj (Iv hN e1 (e ▸ hi));simp [this,e]
    ·exact .inr ⟨k,c,e,z.sameBut hs (cne y c e)⟩
  ·obtain ⟨w',z⟩:=I.cell y c e
   exact ⟨w',z.sameBut hs (cne y c e)⟩
  ·obtain ⟨e,n,ne,nf,d⟩:=I.pin p hp
   exact ⟨(hs.2 p.1 ne).trans e,n,ne,nf,d⟩
 ·have hfn:X.fn x=true:=by
   rcases hf with z|z
   ·exact z
   ·rw [z] at hk;cases hk
  obtain ⟨c,hc⟩:=I.ok.has x (.inl hk);obtain ⟨w',z⟩:=I.cell x c hc;refine wpAny_storeName_cell I.ok.kind hk hc z (fun h' hc' hs=>?_);obtain ⟨oc,hoc,hocd⟩:=id z;refine h { s with heap:=h' } ⟨I.ok,I.os,I.bare,⟨fun b o e n hb hx=>?_,fun b o e n hb hx=>?_,I.base.free,fun b o e hx=>?_,I.base.tups,I.base.frzs,I.base.tbls⟩,⟨m,hn.sameBut hs (Ne.symm (cne x c hc)),fun j y v' e1 e2 e3=>?_⟩,fun y c' e=>?_,I.free,I.freeC,fun p hp=>?_,tracked ⟨oc,hoc,I.freeC x c hc⟩ hs,by simpa using I.len⟩ ⟨c,hs,.inr hc⟩
  ·exact (hs.2 b (Nat.ne_of_lt (Nat.lt_of_lt_of_le (Heap.lt_size e) (I.ok.cab x c hfn hc)))).trans (I.base.keep b o e n hb hx)
  ·obtain ⟨sl,e1⟩:=I.base.slot b o e n hb hx
   exact ⟨sl,(hs.2 b (Nat.ne_of_lt (Nat.lt_of_lt_of_le (Heap.lt_size e) (I.ok.cab x c hfn hc)))).trans e1⟩
  ·obtain ⟨o',e1⟩:=I.base.there b o e hx
   exact ⟨o',(hs.2 b (Nat.ne_of_lt (Nat.lt_of_lt_of_le (Heap.lt_size e) (I.ok.cab x c hfn hc)))).trans e1⟩
  ·by_cases hj:j=i
   ·subst hj
    rw [hi] at e1;cases e1;rw [List.getElem?_set_self hiσ] at e2;cases e2;exact ⟨u,r,.inr ⟨.inl hk,c,hc,hc'⟩⟩
   ·rw [List.getElem?_set_ne (Ne.symm hj)] at e2
    obtain ⟨u',r',q⟩:=hl j y v' e1 e2 e3;refine ⟨u',r',?_⟩;rcases q with q|⟨k,c',e,z'⟩
    ·exact .inl q
    ·refine .inr ⟨k,c',e,z'.sameBut hs ?_⟩
     rintro rfl
     exact hj (Iv hN e1 (I.ok.inj _ _ _ e hc ▸ hi))
  ·by_cases hcc:c'=c
   ·subst hcc;exact ⟨_,hc'⟩
   ·obtain ⟨w2,z2⟩:=I.cell y c' e
    exact ⟨w2,z2.sameBut hs hcc⟩
  ·obtain ⟨e,n,ne,nf,d⟩:=I.pin p hp
   refine ⟨(hs.2 p.1 ?_).trans e,n,ne,nf,d⟩;intro q;rw [q,hoc] at e;have q':oc=p.2:=Option.some.inj e;exact d w' (by rw [← q'];exact hocd)
theorem HV {M:Model} {A:Around} {E:Value->Shared->Prop} {i:Nat} {x:Str} {v:V} {u:Value} {Q:Unit->Shared->Prop} (I:AD X pins σ H s) (hN:X.N.Nodup) (hi:X.N[i]? = some x) (hx:Ez X.env.scope x) (r:AU v u)
  (h:∀ s',AD X pins (σ.set i (some v)) H s'->Q () s') (hf:X.fn x=true\/X.env.scope.names.lookup x=some .local:=by first|exact .inl rfl|exact .inr rfl|assumption):wpAny M A (storeName X.env x u) Q E s :=
 Jp I hN hi hx r (fun s' I' _=>h s' I') hf
theorem AD.call' {s':Shared} {ch:List Addr} (I:AD X pins σ H s) (ho:s'.os=s.os) (u:Un (Ap X.stack) ch H H' s.heap s'.heap) (hok:Ak X.prog X.w H' s'.heap) (hg:AllBare s'.gens)
  (hch:∀ b∈ch,(b∈X.ex\/X.s₀.heap.objs.size<=b)/\b≠X.env.locals/\(∀ x c,X.env.cells.lookup x=some c->c≠b)/\∀ p∈X.pn++pins,p.1≠b):AD X pins σ H' s':=by
 obtain ⟨h',g',d',t',o'⟩:=s';have e:o'=s.os:=ho;subst e;exact I.call (g':=g') (t':=t') (d':=d') u hok hg hch
end
abbrev XK:=Value->Option Addr->Hp->Prop
abbrev St:=List (Option V)
abbrev VK:=V->Hp->Prop
abbrev TE:=St->Hp->VK->Prop
abbrev TT:=St->Hp->(Bool->Hp->Prop)->Prop
abbrev TA:=St->Hp->(List V->Hp->Prop)->Prop
structure BL where
 nx:St->Hp->Prop
 rt:VK
 bk:St->Hp->Prop:=fun _ _=>False
 ct:St->Hp->Prop:=fun _ _=>False
abbrev TS:=BL->St->Hp->Prop
def EP (X:Cx) (pins:zR) (σ:St) (Q:VK) (u:Value) (s':Shared):Prop:=∃ v H',AD X pins σ H' s'/\AU v u/\Q v H'
def TP (X:Cx) (pins:zR) (σ:St) (Q:Bool->Hp->Prop) (b:Bool) (s':Shared):Prop:=∃ H',AD X pins σ H' s'/\Q b H'
def AP (X:Cx) (pins:zR) (σ:St) (Q:List V->Hp->Prop) (us:List Value) (s':Shared):Prop:=∃ vs H',AD X pins σ H' s'/\AW vs us/\Q vs H'
def SP (X:Cx) (pins:zR) (D:BL) (f:Flow) (s':Shared):Prop :=
 match f with
 | .next=>∃ σ' H',AD X pins σ' H' s'/\D.nx σ' H'
 | .brk=>∃ σ' H',AD X pins σ' H' s'/\D.bk σ' H'
 | .cont=>∃ σ' H',AD X pins σ' H' s'/\D.ct σ' H'
 | .ret u=>∃ v σ' H',AD X pins σ' H' s'/\AU v u/\D.rt v H'
def PE (X:Cx) (e:Expr) (t:TE):Prop :=
 ∀ (pins:zR) (s:Shared) (σ:St) (H:Hp) (Q:VK),AD X pins σ H s->t σ H Q->wpAny (model X.prog X.w) X.A (eval e X.env) (EP X pins σ Q) X.xe s
def PT (X:Cx) (e:Expr) (t:TT):Prop :=
 ∀ (pins:zR) (s:Shared) (σ:St) (H:Hp) (Q:Bool->Hp->Prop),AD X pins σ H s->t σ H Q->wpAny (model X.prog X.w) X.A (isTrue e X.env (eval e X.env)) (TP X pins σ Q) X.xe s
def PW (X:Cx) (e:Expr) (t:TT):Prop :=
 ∀ (whole:Sem Value) (pins:zR) (s:Shared) (σ:St) (H:Hp) (Q:Bool->Hp->Prop),AD X pins σ H s->t σ H Q->wpAny (model X.prog X.w) X.A (isTrue e X.env whole) (TP X pins σ Q) X.xe s
theorem PW.pt {X:Cx} {e:Expr} {t:TT} (h:PW X e t):PT X e t:=h _
def PA (X:Cx) (es:List Expr) (t:TA):Prop :=
 ∀ (pos:Pos) (pins:zR) (s:Shared) (σ:St) (H:Hp) (Q:List V->Hp->Prop),AD X pins σ H s->t σ H Q->wpAny (model X.prog X.w) X.A (spliced (backTo pos (starEach es X.env))) (AP X pins σ Q) X.xe s
def PS (X:Cx) (st:Stmt) (t:TS):Prop :=
 ∀ (pins:zR) (s:Shared) (σ:St) (H:Hp) (D:BL),AD X pins σ H s->t D σ H->wpAny (model X.prog X.w) X.A (exec st X.env) (SP X pins D) X.xe s
def BF (X:Cx) (st:List Stmt) (t:TS):Prop :=
 ∀ (pins:zR) (s:Shared) (σ:St) (H:Hp) (D:BL),AD X pins σ H s->t D σ H->wpAny (model X.prog X.w) X.A (execs st X.env) (SP X pins D) X.xe s
theorem AQ {α:Type} {t:Sem α} {Q Q':α->Shared->Prop} {M:Model} {A:Around} {E:Value->Shared->Prop} {s:Shared} (h:wpAny M A t Q E s) (hQ:∀ a s,Q a s->Q' a s):wpAny M A t Q' E s:=wpAny_mono h hQ fun _ _ x=>x
end L2
namespace L2
open PySem PySem.Spec PyProof.Rows
section
variable {X:Cx}
theorem PX {a b:Expr} {ta tb:TE} (ha:PE X a ta) (hb:PE X b tb) {pins:zR} {s:Shared} {σ:St} {H:Hp} {R:V->V->Hp->Prop} (I:AD X pins σ H s) (h:ta σ H fun x H1=>tb σ H1 fun y H2=>R x y H2)
  {α:Type} {Q:α->Shared->Prop} {f:Value->Value->Sem α}
  (hf:∀ v u s2 x y H2,AD X pins σ H2 s2->AU x v->AU y u->R x y H2->wpAny (model X.prog X.w) X.A (f v u) Q X.xe s2) :
  wpAny (model X.prog X.w) X.A (eval a X.env) (fun v s₁=>wpAny (model X.prog X.w) X.A (eval b X.env) (fun u s₂=>wpAny (model X.prog X.w) X.A (f v u) Q X.xe s₂) X.xe s₁) X.xe s:=by
 refine AQ (ha pins s σ H _ I h) fun v s1 ⟨x,H1,I1,r1,q1⟩=>?_;refine AQ (hb pins s1 σ H1 _ I1 q1) fun u s2 ⟨y,H2,I2,r2,q2⟩=>?_;exact hf v u s2 x y H2 I2 r1 r2 q2
def DP (i:Nat):TE:=fun σ H Q=>∃ v,σ[i]? = some (some v)/\Q v H
def tC (v:V):TE:=fun _ H Q=>Q v H
theorem Wk {i:Nat} {x:Str} {pos:Pos} (hN:X.N[i]? = some x) (hv:Hy X.env.scope x) (hd:(x==("__debug__":Str))=false:=by decide) (hcd:(x==("__classdict__":Str))=false:=by decide):PE X (.Name x pos) (DP i):=by
 intro pins s σ H Q I h;obtain ⟨v,e,h⟩:=h;obtain ⟨m,hn,hl⟩:=I.loc;obtain ⟨u,r,l⟩:=hl i x v hN e hv;have fin:EP X pins σ Q u s:=⟨v,H,I,r,h⟩;rcases l with ⟨hk,hm⟩|⟨hk,c,hc,hcell⟩
 ·exact wpAny_Name (wpAny_loadName_local I.ok.kind hk hn hm fin) hd
 ·rcases hk with hk|hk
  ·exact wpAny_Name (wpAny_loadName_cell I.ok.kind hk hc hcell fin) hd
  ·exact wpAny_Name (wpAny_loadName_free I.ok.kind hk hc hcell fin hcd) hd
theorem pZ {i j pos}:PE X (.Constant (.int i) j pos) (tC (.int i)):=fun _ _ _ H _ I h=>wpAny_Constant_int ⟨.int i,H,I.tok _,⟨_,rfl⟩,h⟩
theorem BH {b j pos}:PE X (.Constant (.bool b) j pos) (tC (.bl b)):=fun _ _ _ H _ I h=>Constant_bool ⟨.bl b,H,I,rfl,h⟩
theorem BC {j pos}:PE X (.Constant .none j pos) (tC .non):=fun _ _ _ H _ I h=>Constant_none ⟨.non,H,I,rfl,h⟩
theorem pS {x j pos}:PE X (.Constant (.str x) j pos) (tC (.str x)):=fun _ _ _ H _ I h=>Calls.Constant_str ⟨.str x,H,I.tok _,⟨_,rfl⟩,h⟩
def Gl (X:Cx) (x:Str):Prop:=X.env.kindOf x=some .globalImplicit
theorem ED {E:Value->Shared->Prop} {pins:zR} {s:Shared} {σ:St} {H:Hp} {x:Str} {u:Value} {pos:Pos} {Q:Value->Shared->Prop} (I:AD X pins σ H s) (hg:Gl X x) (hm:X.mg x=some u) (h:Q u s)
  (hd:(x==("__debug__":Str))=false:=by decide):wpAny (model X.prog X.w) X.A (eval (.Name x pos) X.env) Q E s :=
 Calls.Name_function_global I.ok.kind hg (Calls.loadGlobal_global (by rw [I.ok.glob];exact I.mod.glob.keeps I.bk) hm h) hd
theorem FS {E:Value->Shared->Prop} {pins:zR} {s:Shared} {σ:St} {H:Hp} {x:Str} {u:Value} {pos:Pos} {Q:Value->Shared->Prop} (I:AD X pins σ H s) (hg:Gl X x) (hm:X.mg x=none) (hv:bootBuiltins x=some u) (h:Q u s)
  (hn:x≠"__name__":=by decide) (hd:(x==("__debug__":Str))=false:=by decide):wpAny (model X.prog X.w) X.A (eval (.Name x pos) X.env) Q E s:=by
 obtain ⟨mb,h1,h2⟩:=I.mod.blt;exact Calls.Name_function_global I.ok.kind hg (Calls.loadGlobal_builtin (by rw [I.ok.glob];exact I.mod.glob.keeps I.bk) hm (by rw [I.ok.blt];exact h1.keeps I.bk) ((h2 x hn).trans hv) h) hd
theorem Bz {x:Str} {v:V} {u:Value} {pos:Pos} (hg:Gl X x) (hm:X.mg x=some u) (r:AU v u) (hd:(x==("__debug__":Str))=false:=by decide):PE X (.Name x pos) (tC v) :=
 fun _ _ _ H _ I h=>ED I hg hm ⟨v,H,I,r,h⟩ hd
theorem Dm {x:Str} {v:V} {u:Value} {pos:Pos} (hg:Gl X x) (hm:X.mg x=none) (hv:bootBuiltins x=some u) (r:AU v u) (hn:x≠"__name__":=by decide) (hd:(x==("__debug__":Str))=false:=by decide):PE X (.Name x pos) (tC v) :=
 fun _ _ _ H _ I h=>FS I hg hm hv ⟨v,H,I,r,h⟩ hn hd
def aR (ta tb:TE) (k:Int->Int->Hp->Prop):St->Hp->Prop:=fun σ H=>ta σ H fun x H1=>tb σ H1 fun y H2=>∃ i j,x = .int i/\y = .int j/\k i j H2
variable {a b:Expr} {ta tb:TE} {pos:Pos}
def PC (X:Cx) (op:CmpOp) (a b:Expr) (t:TE):Prop :=
 ∀ (pins:zR) (s:Shared) (σ:St) (H:Hp) (Q:VK),AD X pins σ H s->t σ H Q ->
  wpAny (model X.prog X.w) X.A (eval a X.env) (fun v s₁=>wpAny (model X.prog X.w) X.A (eval b X.env) (fun u s₂=>wpAny (model X.prog X.w) X.A (compareOp op v u) (EP X pins σ Q) X.xe s₂) X.xe s₁) X.xe s
theorem Lc (b:Expr) {op:CmpOp} (h:op≠.In) (h2:op≠.NotIn):behindInMarks op b=false:=by
 have e1:(op==CmpOp.In)=false:=by cases op <;> first|rfl|exact absurd rfl h
 have e2:(op==CmpOp.NotIn)=false:=by cases op <;> first|rfl|exact absurd rfl h2
 cases b <;> simp [behindInMarks,e1,e2]
def Er (p:Int->Int->Bool) (ta tb:TE):TE:=fun σ H Q=>aR ta tb (fun i j H2=>Q (.bl (p i j)) H2) σ H
abbrev au:TE->TE->TE:=Er fun i j=>decide (i<j)
abbrev ak:TE->TE->TE:=Er fun i j=>decide (i<=j)
abbrev ae:TE->TE->TE:=Er fun i j=>decide (j<i)
abbrev ad:TE->TE->TE:=Er fun i j=>decide (j<=i)
abbrev aa:TE->TE->TE:=Er fun i j=>decide (i=j)
abbrev av:TE->TE->TE:=Er fun i j=>!decide (i=j)
theorem FW {op:CmpOp} {p:Int->Int->Bool} (ha:PE X a ta) (hb:PE X b tb)
  (rule:∀ (i j:Int) (t u:Tok) (Q:Value->Shared->Prop) (s:Shared),Q (.bool (p i j)) s->wpAny (model X.prog X.w) X.A (compareOp op (.int i t) (.int j u)) Q X.xe s):PC X op a b (Er p ta tb):=by
 intro pins s σ H Q I h;refine PX ha hb I h fun v u s2 x y H2 I2 rx ry q=>?_;obtain ⟨i,j,rfl,rfl,q⟩:=q;obtain ⟨t,rfl⟩:=rx;obtain ⟨t',rfl⟩:=ry;exact rule i j t t' _ s2 ⟨.bl _,H2,I2,rfl,q⟩
theorem Eg (ha:PE X a ta) (hb:PE X b tb):PC X .Lt a b (au ta tb):=FW ha hb fun _ _ _ _ _ _ h=>lt_int h
theorem Gy (ha:PE X a ta) (hb:PE X b tb):PC X .LtE a b (ak ta tb):=FW ha hb fun _ _ _ _ _ _ h=>le_int h
theorem JA (ha:PE X a ta) (hb:PE X b tb):PC X .Gt a b (ae ta tb):=FW ha hb fun _ _ _ _ _ _ h=>gt_int h
theorem Iz (ha:PE X a ta) (hb:PE X b tb):PC X .GtE a b (ad ta tb):=FW ha hb fun _ _ _ _ _ _ h=>ge_int h
theorem CO (ha:PE X a ta) (hb:PE X b tb):PC X .Eq a b (aa ta tb):=FW ha hb fun _ _ _ _ _ _ h=>eq_int (by rw [Bool.beq_eq_decide_eq];exact h)
theorem Bm (ha:PE X a ta) (hb:PE X b tb):PC X .NotEq a b (av ta tb):=FW ha hb fun _ _ _ _ _ _ h=>ne_int (by rw [bne,Bool.beq_eq_decide_eq];exact h)
def aj (ta:TE):TE:=fun σ H Q=>ta σ H fun x H1=>Q (.bl (decide (x = .non))) H1
def az (ta:TE):TE:=fun σ H Q=>ta σ H fun x H1=>Q (.bl (!decide (x = .non))) H1
theorem AU.none_iff {x:V} {v:Value} (r:AU x v):(v==Value.none)=decide (x = .non):=by
 cases x with
 | non=>cases r;rfl
 | bl _=>cases r;rfl
 | int _=>obtain ⟨t,rfl⟩:=r;rfl
 | str _=>obtain ⟨t,rfl⟩:=r;rfl
 | byt _=>obtain ⟨t,rfl⟩:=r;rfl
 | flt _=>obtain ⟨t,rfl⟩:=r;rfl
 | ref _=>cases r;rfl
 | ty _=>cases r;rfl
theorem BX {j pos'} (ha:PE X a ta):PC X .Is a (.Constant .none j pos') (aj ta):=by
 intro pins s σ H Q I h;refine AQ (ha pins s σ H _ I h) fun v s1 ⟨x,H1,I1,r1,q1⟩=>?_;exact Constant_none (is_none_gen ⟨.bl _,H1,I1,by rw [r1.none_iff];rfl,q1⟩)
theorem EG {j pos'} (ha:PE X a ta):PC X .IsNot a (.Constant .none j pos') (az ta):=by
 intro pins s σ H Q I h;refine AQ (ha pins s σ H _ I h) fun v s1 ⟨x,H1,I1,r1,q1⟩=>?_;exact Constant_none (isnot_none_gen ⟨.bl _,H1,I1,by rw [r1.none_iff];rfl,q1⟩)
def tB (t:TE):TT:=fun σ H Q=>t σ H fun x H1=>∃ c,x = .bl c/\Q c H1
theorem C7 {op:CmpOp} {t:TE} (h:PC X op a b t) (h1:behindInMarks op b=false:=by first|exact Lc _ (by decide) (by decide)|rfl):PE X (.Compare a [op] [b] pos) t:=fun pins s σ H Q I hw=>wpAny_Compare1 (h pins s σ H Q I hw) h1
theorem qR {op:CmpOp} {t:TE} (h:PC X op a b t) (h1:behindInMarks op b=false:=by first|exact Lc _ (by decide) (by decide)|rfl):PT X (.Compare a [op] [b] pos) (tB t):=by
 intro pins s σ H Q I hw;refine wpAny_isTrue_Compare1 (AQ (h pins s σ H _ I hw) fun v s1 h1=>AQ h1 fun u s2 h2=>AQ h2 fun c s3 ⟨x,H1,I1,r1,q1⟩=>?_) h1;obtain ⟨d,rfl,q⟩:=q1;cases r1;exact wpAny_truthy_bool ⟨H1,I1,q⟩
theorem qZ {e:Expr} {t:TE} (h:PE X e t) (he:∀ whole,isTrue e X.env whole=(do let v ← whole;standAt e.pos;holding [v] (truthy v)):=by intro _;rfl):PT X e (tB t):=by
 intro pins s σ H Q I hw;refine isTrue_plain (AQ (h pins s σ H _ I hw) fun v s1 ⟨x,H1,I1,r1,q1⟩=>?_) (he _);obtain ⟨d,rfl,q⟩:=q1;cases r1;exact wpAny_truthy_bool ⟨H1,I1,q⟩
variable {tA tB':TT} {BM:List Expr}
def aT (t u:TT):TT:=fun σ H Q=>t σ H fun c H1=>if c=true then u σ H1 Q else Q false H1
def a8 (t u:TT):TT:=fun σ H Q=>t σ H fun c H1=>if c=true then Q true H1 else u σ H1 Q
def ay (t:TT):TT:=fun σ H Q=>t σ H fun c H1=>Q (!c) H1
theorem CT (ha:PT X a tA):PW X (.BoolOp .And [a] pos) tA:=by
 intro wh pins s σ H Q I h;refine isTrue_and (AQ (ha pins s σ H Q I h) fun c s1 e=>?_);cases c with
 | true=>exact isTrue_and_nil e
 | false=>exact e
theorem B3 (ha:PT X a tA):PW X (.BoolOp .Or [a] pos) tA:=by
 intro wh pins s σ H Q I h;refine isTrue_or (AQ (ha pins s σ H Q I h) fun c s1 e=>?_);cases c with
 | false=>exact isTrue_or_nil e
 | true=>exact e
theorem B0 (ha:PT X a tA) (hb:PW X (.BoolOp .And (b::BM) pos) tB'):PW X (.BoolOp .And (a::b::BM) pos) (aT tA tB'):=by
 intro wh pins s σ H Q I h;refine isTrue_and (AQ (ha pins s σ H _ I h) fun c s1 ⟨H1,I1,q1⟩=>?_);cases c with
 | true=>exact hb wh pins s1 σ H1 Q I1 q1
 | false=>exact ⟨H1,I1,q1⟩
theorem BQ (ha:PT X a tA) (hb:PW X (.BoolOp .Or (b::BM) pos) tB'):PW X (.BoolOp .Or (a::b::BM) pos) (a8 tA tB'):=by
 intro wh pins s σ H Q I h;refine isTrue_or (AQ (ha pins s σ H _ I h) fun c s1 ⟨H1,I1,q1⟩=>?_);cases c with
 | true=>exact ⟨H1,I1,q1⟩
 | false=>exact hb wh pins s1 σ H1 Q I1 q1
theorem A5 (ha:PT X a tA):PT X (.UnaryOp .Not a pos) (ay tA):=by
 intro pins s σ H Q I h;exact isTrue_not (ha pins s σ H (fun c H1=>Q (!c) H1) I h)
def aU (ta tb:TE):TE:=fun σ H Q=>ta σ H fun x H1=>∃ c,x = .bl c/\if c=true then tb σ H1 Q else Q (.bl false) H1
def a9 (ta tb:TE):TE:=fun σ H Q=>ta σ H fun x H1=>∃ c,x = .bl c/\if c=true then Q (.bl true) H1 else tb σ H1 Q
def a7 (ta:TE):TE:=fun σ H Q=>ta σ H fun x H1=>∃ c,x = .bl c/\Q (.bl (!c)) H1
theorem Fz {op} {t:TE} (h:PE X a t):PE X (.BoolOp op [a] pos) t:=fun pins s σ H Q I hw=>BoolOp_one (h pins s σ H Q I hw)
theorem Gz (ha:PE X a ta) (hb:PE X (.BoolOp .And (b::BM) pos) tb):PE X (.BoolOp .And (a::b::BM) pos) (aU ta tb):=by
 intro pins s σ H Q I h;refine BoolOp_and (AQ (ha pins s σ H _ I h) fun v s1 ⟨x,H1,I1,r1,q1⟩=>?_);obtain ⟨c,rfl,q1⟩:=q1;cases r1;refine wpAny_truthy_bool ?_;cases c with
 | true=>exact hb pins s1 σ H1 Q I1 q1
 | false=>exact ⟨.bl false,H1,I1,rfl,q1⟩
theorem Wj (ha:PE X a ta) (hb:PE X (.BoolOp .Or (b::BM) pos) tb):PE X (.BoolOp .Or (a::b::BM) pos) (a9 ta tb):=by
 intro pins s σ H Q I h;refine BoolOp_or (AQ (ha pins s σ H _ I h) fun v s1 ⟨x,H1,I1,r1,q1⟩=>?_);obtain ⟨c,rfl,q1⟩:=q1;cases r1;refine wpAny_truthy_bool ?_;cases c with
 | false=>exact hb pins s1 σ H1 Q I1 q1
 | true=>exact ⟨.bl true,H1,I1,rfl,q1⟩
theorem Wi (ha:PE X a ta):PE X (.UnaryOp .Not a pos) (a7 ta):=by
 intro pins s σ H Q I h;refine UnaryOp_ (AQ (ha pins s σ H _ I h) fun v s1 ⟨x,H1,I1,r1,q1⟩=>?_);obtain ⟨c,rfl,q1⟩:=q1;cases r1;exact not_of (wpAny_truthy_bool ⟨.bl (!c),H1,I1,rfl,q1⟩)
def ah (t:TT) (ta tb:TE):TE:=fun σ H Q=>t σ H fun c H1=>if c=true then ta σ H1 Q else tb σ H1 Q
theorem JC {c:Expr} (hc:PT X c tA) (ha:PE X a ta) (hb:PE X b tb):PE X (.IfExp c a b pos) (ah tA ta tb):=by
 intro pins s σ H Q I h;refine wpAny_IfExp (AQ (hc pins s σ H _ I h) fun d s1 ⟨H1,I1,q1⟩=>?_);cases d with
 | true=>exact ha pins s1 σ H1 Q I1 q1
 | false=>exact hb pins s1 σ H1 Q I1 q1
end
end L2
namespace L2
open PySem PySem.Spec PyProof.Rows
def AF (K:zP) (H:Hp) (a:Addr) (xs:List V):Prop :=
 Rd H a (.lst xs) \/
  ∃ (o:Obj) (its:Array Value) (n:Nat),K.lookup a=some o/\o.cls = .type "list"/\o.dict=none/\o.data = .seq its n/\its.size<=sizeLine/\AW xs its.toList
def AH (K:zP) (H:Hp) (a:Addr) (xs:List V):Prop :=
 Rd H a (.tup xs) \/
  ∃ (o:Obj) (its:Array Value) (n:Nat),K.lookup a=some o/\o.cls = .type "tuple"/\o.data = .seq its n/\its.size<=sizeLine/\AW xs its.toList
noncomputable def PH:Value->Option V
 | .none=>some .non
 | .bool b=>some (.bl b)
 | .int i _=>some (.int i)
 | .str x _=>some (.str x)
 | .bytes b _=>some (.byt b)
 | .float b _=>some (.flt b)
 | .ref a=>some (.ref a)
 | .type n=>some (.ty n)
 | _=>none
theorem AU.abs {x:V} {u:Value} (r:AU x u):PH u=some x:=by
 cases x with
 | non=>cases r;rfl
 | bl _=>cases r;rfl
 | int _=>obtain ⟨t,rfl⟩:=r;rfl
 | str _=>obtain ⟨t,rfl⟩:=r;rfl
 | byt _=>obtain ⟨t,rfl⟩:=r;rfl
 | flt _=>obtain ⟨t,rfl⟩:=r;rfl
 | ref _=>cases r;rfl
 | ty _=>cases r;rfl
theorem AU.inj {x y:V} {u:Value} (r:AU x u) (q:AU y u):x=y:=Option.some.inj (r.abs.symm.trans q.abs)
theorem AW.inj:∀ {xs ys:List V} {us:List Value},AW xs us->AW ys us->xs=ys
 | _,_,_,.nil,.nil=>rfl
 | _,_,_,.cons r t,.cons r' t'=>by rw [r.inj r',AW.inj t t']
section
variable {X:Cx} {pins:zR} {σ:St} {H:Hp} {s:Shared} {a:Addr} {xs ys:List V}
theorem AF.of {K:zP} (h:H a=some (.lst xs)):AF K H a xs:=.inl (.inl h)
theorem AH.of {K:zP} (h:H a=some (.tup xs)):AH K H a xs:=.inl (.inl h)
theorem AD.list (I:AD X pins σ H s) (h:AF X.K H a xs):∃ its:List Value,AW xs its/\PlainL s.heap a its.toArray/\xs.length<=sizeLine:=by
 rcases h with h|⟨o,its,n,hk,hc,hd,hs,hz,r⟩
 ·obtain ⟨z,its,n,r,e⟩:=h.ok I.hok
  exact ⟨its,r,⟨_,n,e,rfl,rfl,rfl⟩,z⟩
 ·refine ⟨its.toList,r,⟨o,n,I.kIn a o hk,hc,hd,by simpa using hs⟩,?_⟩
  have e:=r.length;simp only [Array.length_toList] at e;lia
theorem AD.tuple (I:AD X pins σ H s) (h:AH X.K H a xs):∃ its:List Value,AW xs its/\IsTup s.heap a its.toArray/\xs.length<=sizeLine:=by
 rcases h with h|⟨o,its,n,hk,hc,hs,hz,r⟩
 ·obtain ⟨z,its,r,p⟩:=h.ok I.hok
  exact ⟨its,r,p,z⟩
 ·refine ⟨its.toList,r,⟨o,I.kIn a o hk,hc,n,by simpa using hs⟩,?_⟩
  have e:=r.length;simp only [Array.length_toList] at e;lia
theorem AD.list_inj (I:AD X pins σ H s) (h:AF X.K H a xs) (h':AF X.K H a ys):xs=ys:=by
 obtain ⟨its,r,⟨o,n,e,_,_,d⟩,_⟩:=I.list h;obtain ⟨its',r',⟨o',n',e',_,_,d'⟩,_⟩:=I.list h';rw [e] at e';cases e';rw [d] at d';injection d' with d1 _
 have:its=its':=by simpa using congrArg Array.toList d1
 subst this;exact r.inj r'
theorem AD.tuple_inj (I:AD X pins σ H s) (h:AH X.K H a xs) (h':AH X.K H a ys):xs=ys:=by
 obtain ⟨its,r,⟨o,e,_,n,d⟩,_⟩:=I.tuple h;obtain ⟨its',r',⟨o',e',_,n',d'⟩,_⟩:=I.tuple h';rw [e] at e';cases e';rw [d] at d';injection d' with d1 _
 have:its=its':=by simpa using congrArg Array.toList d1
 subst this;exact r.inj r'
end
noncomputable abbrev Cx.wish (X:Cx) (E:Value->Shared->Prop):Cx:={ X with xe:=E }
noncomputable abbrev Cx.nox (X:Cx):Cx:=X.wish fun _ _=>False
theorem Cx.Ok.wish {X:Cx} (ok:X.Ok) (E:Value->Shared->Prop):(X.wish E).Ok :=
 ⟨ok.mod,ok.kind,ok.glob,ok.blt,ok.above,ok.inj,ok.has,ok.cab,ok.hd,ok.frames,ok.stk,ok.exf,ok.bs,ok.bsz,ok.noex,ok.exfs,ok.funs,ok.frf⟩
theorem Cx.Ok.unwish {X:Cx} {E:Value->Shared->Prop} (ok:(X.wish E).Ok):X.Ok :=
 ⟨ok.mod,ok.kind,ok.glob,ok.blt,ok.above,ok.inj,ok.has,ok.cab,ok.hd,ok.frames,ok.stk,ok.exf,ok.bs,ok.bsz,ok.noex,ok.exfs,ok.funs,ok.frf⟩
section
variable {X:Cx} {pins:zR} {σ:St} {H:Hp} {s:Shared} {E:Value->Shared->Prop}
theorem AD.wish (I:AD X pins σ H s) (E:Value->Shared->Prop):AD (X.wish E) pins σ H s:=⟨I.ok.wish E,I.os,I.bare,I.base,I.loc,I.cell,I.free,I.freeC,I.pin,I.hok,I.len⟩
theorem AD.unwish (I:AD (X.wish E) pins σ H s):AD X pins σ H s:=⟨I.ok.unwish,I.os,I.bare,I.base,I.loc,I.cell,I.free,I.freeC,I.pin,I.hok,I.len⟩
theorem SP.unwish {D:BL} {f:Flow} {s':Shared} (h:SP (X.wish E) pins D f s'):SP X pins D f s':=by
 cases f with
 | next=>obtain ⟨σ',H',I,q⟩:=h;exact ⟨σ',H',I.unwish,q⟩
 | brk=>obtain ⟨σ',H',I,q⟩:=h;exact ⟨σ',H',I.unwish,q⟩
 | cont=>obtain ⟨σ',H',I,q⟩:=h;exact ⟨σ',H',I.unwish,q⟩
 | ret u=>obtain ⟨v,σ',H',I,r,q⟩:=h;exact ⟨v,σ',H',I.unwish,r,q⟩
theorem BF.nox {st:List Stmt} {t:TS} (h:BF X.nox st t):BF X st t:=fun pins s σ H D I hw =>
 wpAny_mono (h pins s σ H D (I.wish _) hw) (fun _ _ q=>q.unwish) fun _ _ z=>False.elim z
end
section
variable {X:Cx} {st:Stmt} {BM:List Stmt} {t u:TS} {e:Expr} {te:TE} {pos:Pos}
def aw:TS:=fun D σ H=>D.nx σ H
def bI (t u:TS):TS:=fun D σ H=>t { D with nx:=u D } σ H
theorem qG:BF X [] aw:=fun _ _ σ H _ I h=>wpAny_execs_nil ⟨σ,H,I,h⟩
theorem pK (h1:PS X st t) (h2:BF X BM u):BF X (st::BM) (bI t u):=by
 intro pins s σ H D I h;refine wpAny_execs_cons (AQ (h1 pins s σ H { D with nx:=u D } I h) fun f s1 q=>?_)
 cases f with
 | next =>
  obtain ⟨σ',H',I',q⟩:=q;exact h2 pins s1 σ' H' D I' q
 | ret v=>exact q
 | brk=>exact q
 | cont=>exact q
theorem pO (h1:PS X st t):BF X [st] t:=by
 intro pins s σ H D I h;refine wpAny_execs_cons (AQ (h1 pins s σ H D I h) fun f s1 q=>?_);cases f with
 | next=>exact wpAny_execs_nil q
 | ret v=>exact q
 | brk=>exact q
 | cont=>exact q
theorem AD.quiet {pins:zR} {σ:St} {H:Hp} {s:Shared} (I:AD X pins σ H s):interactive X.env=false:=by simp [interactive,I.ok.kind]
def aZ (te:TE):TS:=fun D σ H=>te σ H fun _ H1=>D.nx σ H1
theorem qS (he:PE X e te) (hs:swapsWith e none pos.line X.env=pure false:=by rfl):PS X (.Expr e pos) (aZ te):=by
 intro pins s σ H D I h;exact wpAny_Expr_any (AQ (he pins s σ H _ I h) fun v s1 ⟨x,H1,I1,r1,q1⟩=>⟨σ,H1,I1,q1⟩) I.quiet hs
def bH (te:TE):TS:=fun D σ H=>te σ H D.rt
theorem pR (he:PE X e te):PS X (.Return (some e) pos) (bH te):=by
 intro pins s σ H D I h;exact wpAny_Return_some (AQ (he pins s σ H _ I h) fun v s1 ⟨x,H1,I1,r1,q1⟩=>⟨x,σ,H1,I1,r1,q1⟩)
def ai (c:TT) (t u:TS):TS:=fun D σ H=>c σ H fun b H1=>if b=true then t D σ H1 else u D σ H1
theorem qM {c:Expr} {a b:List Stmt} {tc:TT} (hc:PT X c tc) (ha:BF X a t) (hb:BF X b u):PS X (.If c a b pos) (ai tc t u):=by
 intro pins s σ H D I h;refine wpAny_If (AQ (hc pins s σ H _ I h) fun d s1 ⟨H1,I1,q1⟩=>?_);cases d with
 | true=>exact ha pins s1 σ H1 D I1 q1
 | false=>exact hb pins s1 σ H1 D I1 q1
end
abbrev TG:=V->St->Hp->(St->Hp->Prop)->Prop
abbrev ET:=List V->St->Hp->(St->Hp->Prop)->Prop
def PG (X:Cx) (target:Expr) (t:TG):Prop :=
 ∀ (pins:zR) (s:Shared) (σ:St) (H:Hp) (v:V) (u:Value) (Q:St->Hp->Prop),AD X pins σ H s->AU v u->t v σ H Q ->
  wpAny (model X.prog X.w) X.A (assign target X.env u) (fun _ s'=>∃ σ' H',AD X pins σ' H' s'/\Q σ' H') X.xe s
def GQ (X:Cx) (ts:List Expr) (t:ET):Prop :=
 ∀ (pins:zR) (s:Shared) (σ:St) (H:Hp) (vs:List V) (us:List Value) (Q:St->Hp->Prop),AD X pins σ H s->AW vs us->t vs σ H Q ->
  wpAny (model X.prog X.w) X.A (assignInOrder ((assignEach ts X.env).map (·.2)) us) (fun _ s'=>∃ σ' H',AD X pins σ' H' s'/\Q σ' H') X.xe s
section
variable {X:Cx} {pos:Pos}
def Gg (i:Nat):TG:=fun v σ H Q=>Q (σ.set i (some v)) H
theorem BY {i:Nat} {x:Str} (hN:X.N.Nodup) (hi:X.N[i]? = some x) (hx:Ez X.env.scope x) (hf:X.fn x=true\/X.env.scope.names.lookup x=some .local:=by first|exact .inl rfl|exact .inr rfl|assumption):PG X (.Name x pos) (Gg i):=by
 intro pins s σ H v u Q I r h;exact wpAny_assign_Name (HV I hN hi hx r (fun s' I'=>⟨_,H,I',h⟩) hf)
def SF:ET:=fun vs σ H Q=>vs=[]/\Q σ H
def SE (t:TG) (u:ET):ET:=fun vs σ H Q=>∃ v r,vs=v::r/\t v σ H fun σ' H'=>u r σ' H' Q
theorem JE:GQ X [] SF:=by
 intro pins s σ H vs us Q I r h;obtain ⟨e,h⟩:=h;subst e;cases r;exact assignInOrder_nil ⟨σ,H,I,h⟩
theorem FX {e:Expr} {es:List Expr} {t:TG} {u:ET} (h1:PG X e t) (h2:GQ X es u)
  (hs:(assignEach (e::es) X.env).map (·.2)=assign e X.env::(assignEach es X.env).map (·.2):=by rfl):GQ X (e::es) (SE t u):=by
 intro pins s σ H vs us Q I r h;obtain ⟨v,vr,e1,h⟩:=h;subst e1;cases r with
 | cons r rr =>
  rw [hs];refine assignInOrder_cons (AQ (h1 pins s σ H _ _ _ I r h) fun _ s1 ⟨σ1,H1,I1,q1⟩=>?_);exact h2 pins s1 σ1 H1 _ _ Q I1 rr q1
def SG (K:zP) (n:Nat) (t:ET):TG:=fun v σ H Q=>∃ a xs,v = .ref a/\AH K H a xs/\xs.length=n/\t xs σ H Q
theorem JD {es:List Expr} {k:Nat} {t:ET} {n:Nat} (hc:X.calm=true) (h:GQ X es t)
  (hn:(assignEach es X.env).length=n:=by rfl) (hst:(assignEach es X.env).findIdx? (·.1)=none:=by rfl):PG X (.Tuple es k pos) (SG X.K n t):=by
 intro pins s σ H v u Q I r hw;obtain ⟨a,xs,e1,hq,hl,hw⟩:=hw;subst e1;cases r;obtain ⟨its,rv,ht,hz⟩:=I.tuple hq;refine assign_Tuple_tuple (I.ok.hd hc) ht (by simp [hn,← hl,rv.length]) hst fun h' hx=>?_
 have I1:AD X pins σ H { s with heap:=h' }:=I.kept (t':=s.toks) fun b o e=>hx b o (Nat.ne_of_lt (Heap.lt_size e)) e
 exact h pins _ σ H xs _ Q I1 (by simpa using rv) hw
def HW (te:TE) (g:TG):TS:=fun D σ H=>te σ H fun x H1=>g x σ H1 D.nx
theorem Ww {tg e:Expr} {te:TE} {g:TG} (he:PE X e te) (hg:PG X tg g) (hs:swapsWithSole [tg] e pos.line X.env=pure false:=by rfl) (hw:swappedStores [tg] e X.env=pure none:=by rfl)
  (h1:(assignEach [tg] X.env).map (·.2)=[assign tg X.env]:=by rfl):PS X (.Assign [tg] e pos) (HW te g):=by
 intro pins s σ H D I h;refine wpAny_Assign_stores (AQ (he pins s σ H _ I h) fun v s1 ⟨x,H1,I1,r1,q1⟩=>?_) hs hw;rw [h1];exact AQ (hg pins s1 σ H1 x v _ I1 r1 q1) fun _ s2 q=>q
theorem qK {i:Nat} {x:Str} {e:Expr} {te:TE} {pos':Pos} (hN:X.N.Nodup) (hi:X.N[i]? = some x) (hx:Ez X.env.scope x) (he:PE X e te) (hs:swapsWith e (some (.Name x pos')) pos.line X.env=pure false:=by rfl) (hf:X.fn x=true\/X.env.scope.names.lookup x=some .local:=by first|exact .inl rfl|exact .inr rfl|assumption) :
  PS X (.Assign [.Name x pos'] e pos) (HW te (Gg i)):=by
 intro pins s σ H D I h;refine wpAny_Assign_Name (AQ (he pins s σ H _ I h) fun v s1 ⟨y,H1,I1,r1,q1⟩=>?_) hs;exact HV I1 hN hi hx r1 (fun s2 I2=>⟨_,H1,I2,q1⟩) hf
def bC (i j:Nat) (ta:TA):TS:=fun D σ H=>ta σ H fun vs H1=>∃ v w,vs=[v,w]/\D.nx ((σ.set i (some v)).set j (some w)) H1
theorem Wz {i j:Nat} {x y:Str} {a b:Expr} {ta:TA} {px py pt:Pos} {kt k2 pt2} (hc:X.calm=true) (hN:X.N.Nodup) (hi:X.N[i]? = some x) (hj:X.N[j]? = some y) (hij:i≠j)
  (hx:X.env.scope.names.lookup x=some .local) (hy:X.env.scope.names.lookup y=some .local) (ha:PA X [a,b] ta)
  (hw:swappedStores [.Tuple [.Name x px,.Name y py] kt pt] (.Tuple [a,b] k2 pt2) X.env=pure (some [x,y]))
  (hs:swapsWithSole [.Tuple [.Name x px,.Name y py] kt pt] (.Tuple [a,b] k2 pt2) pos.line X.env=pure false:=by rfl) :
  PS X (.Assign [.Tuple [.Name x px,.Name y py] kt pt] (.Tuple [a,b] k2 pt2) pos) (bC i j ta):=by
 intro pins s σ H D I h;rw [exec_Assign_arm];refine wpAny_bind (wpAny_standAt ?_);rw [hs];refine wpAny_bind (wpAny_pure ?_);rw [if_neg (by decide)]
 refine wpAny_bind (Tuple_ (AQ (ha _ pins s σ H _ I h) fun us s1 ⟨vs,H1,I1,r1,q1⟩=>?_));obtain ⟨v,w,e1,q1⟩:=q1;subst e1;obtain ⟨u1,u2,rfl,rv,rw'⟩:∃ u1 u2,us=[u1,u2]/\AU v u1/\AU w u2:=by
  cases r1 with
  | cons p q =>
   cases q with
   | cons p' q' =>
    cases q';exact ⟨_,_,rfl,p,p'⟩
 refine wpAny_newObj_type ?_ (by show 2<=sizeLine;decide)
 have I2:AD X pins σ H1 { s1 with heap:=s1.heap.push { cls:=.type "tuple",data:=.seq [u1,u2].toArray } }:=I1.kept (t':=s1.toks) fun b o e=>Heap.get?_push_of_some _ e
 rw [hw];refine wpAny_bind (wpAny_pure ?_);show wpAny (model X.prog X.w) X.A (do rule "assign.swapped-stores";let items ← unpackItems (.ref s1.heap.objs.size) 2 none;assignInOrder [fun v=>bindName X.env y v,fun v=>bindName X.env x v] items.reverse;pure Flow.next) _ _ _
 refine wpAny_bind (wpAny_rule (wpAny_bind (unpackItems_tuple (items:=#[u1,u2]) (I.ok.hd hc) (IsTup.new s1.heap _) fun h' hx'=>?_)));have I3:=I2.kept (h':=h') (t':=s1.toks) fun b o e=>hx' b o (Nat.ne_of_lt (Heap.lt_size e)) e;show wpAny _ _ (assignInOrder [fun v=>bindName X.env y v,fun v=>bindName X.env x v] [u2,u1]>>=fun _=>pure Flow.next) _ _ _
 refine wpAny_bind (assignInOrder_cons (wpAny_bindName (HV I3 hN hj (.inl hy) rw' (fun s2 I4=>?_) (.inr hy))));refine assignInOrder_cons (wpAny_bindName (HV I4 hN hi (.inl hx) rv (fun s3 I5=>assignInOrder_nil (wpAny_pure ?_)) (.inr hx)));rw [List.set_comm _ _ (Ne.symm hij)] at I5;exact ⟨_,H1,I5,q1⟩
end
section
variable {X:Cx} {pos:Pos}
def bM (c:TT) (tb:TS):TS:=fun D σ H=>∃ W:Nat->St->Hp->Prop,(∃ m,W m σ H)/\∀ m σ H,W m σ H ->
 c σ H fun b H1=>if b=true then ∃ N:St->Hp->Prop,(∀ σ' H',N σ' H'->∃ m',m'<m/\W m' σ' H')/\tb { D with nx:=N,ct:=N,bk:=D.nx } σ H1 else D.nx σ H1
theorem GB {c:Expr} {body:List Stmt} {tc:TT} {tb:TS} (hp:PassesOwn (model X.prog X.w) X.A X.env X.xe) (hc:PT X c tc) (hb:BF X body tb):PS X (.While c body [] pos) (bM tc tb):=by
 intro pins s σ H D I h;obtain ⟨W,⟨m0,w0⟩,turn⟩:=h;refine wpAny_While (codeAny_whileLoop (fun n s'=>∃ σ' H',AD X pins σ' H' s'/\W n σ' H') ?_ m0 ⟨σ,H,I,w0⟩);rintro n s1 ⟨σ1,H1,I1,w1⟩
 refine wpAny_passesOwn hp (AQ (hc pins s1 σ1 H1 _ I1 (turn n σ1 H1 w1)) fun b s2 ⟨H2,I2,q2⟩=>?_);cases b with
 | true =>
  obtain ⟨N,hN,q2⟩:=q2;rw [if_pos rfl];refine wpAny_passesOwn hp (AQ (hb pins s2 σ1 H2 _ I2 q2) fun f s3 q3=>?_);cases f with
  | next =>
   obtain ⟨σ3,H3,I3,n3⟩:=q3;obtain ⟨m',hm,w3⟩:=hN σ3 H3 n3;exact ⟨m',hm,σ3,H3,I3,w3⟩
  | cont =>
   obtain ⟨σ3,H3,I3,n3⟩:=q3;obtain ⟨m',hm,w3⟩:=hN σ3 H3 n3;exact ⟨m',hm,σ3,H3,I3,w3⟩
  | brk=>exact q3
  | ret v=>exact q3
 | false =>
  rw [if_neg Bool.false_ne_true];exact wpAny_execs_nil ⟨σ1,H2,I2,q2⟩
end
structure It where
 go:Nat->Hp->Prop
 yld:Nat->Hp->V->Hp->Prop
 stop:Nat->Hp->Prop
def CK (X:Cx) (pins:zR) (H:Hp) (b:Addr):Prop :=
 H b=none/\b≠X.env.locals/\b ∉ X.fs/\(b∈X.ex\/X.s₀.heap.objs.size<=b)/\(∀ x c,X.env.cells.lookup x=some c->c≠b)/\∀ p∈X.pn++pins,p.1≠b
theorem AD.fpOk {X:Cx} {pins:zR} {σ:St} {H H':Hp} {s:Shared} {b:Addr} (I:AD X pins σ H s) (hb:s.heap.objs.size<=b) (hn:H' b=none):CK X pins H' b:=by
 refine ⟨hn,Nat.ne_of_gt (Nat.lt_of_lt_of_le I.lt hb),I.nofs hb,.inr (Nat.le_trans I.sz hb),fun x c e z=>?_,fun p hp z=>?_⟩
 ·obtain ⟨v,q⟩:=I.cell x c e
  exact absurd (Nat.lt_of_lt_of_le q.lt (by rw [z];exact hb)) (Nat.lt_irrefl _)
 ·exact absurd (Nat.lt_of_lt_of_le (Heap.lt_size (I.pin p hp).1) (by rw [z];exact hb)) (Nat.lt_irrefl _)
structure FD (P:Program) (w:World) (K:zP) (tg:Expr) (J:It) (fp:List Addr) (it:Addr) (tn:Nat->Heap->Prop):Prop where
 mem:it∈fp
 obj:∀ i h,tn i h->∀ b∈fp,∃ o,h.get? b=some o/\∀ v,o.data≠.cell v
 keep:∀ i h h',tn i h->(∀ b∈fp,∀ o,h.get? b=some o->h'.get? b=some o)->tn i h'
 item:∀ (X:Cx),X.prog=P->X.w=w->X.K=K->X.calm=true->∀ (i:Nat) (pins:zR) (s:Shared) (σ:St) (H:Hp) (E:Value->Shared->Prop),AD X pins σ H s->(∀ b∈fp,CK X pins H b)->tn i s.heap->J.go i H ->
  wpAny (model P w) X.A (pyNext (.ref it)) (fun r s1=>∃ u,r=some u /\
   wpAny (model P w) X.A (letOwnedTupleGo tg (.ref it) u) (fun _ s2=>∃ x H',AD X pins σ H' s2/\AU x u/\J.yld i H x H'/\tn (i+1) s2.heap/\∀ b∈fp,H' b=none) E s1) E s
 done:∀ (X:Cx),X.prog=P->X.w=w->X.K=K->X.calm=true->∀ (i:Nat) (pins:zR) (s:Shared) (σ:St) (H:Hp) (E:Value->Shared->Prop),AD X pins σ H s->(∀ b∈fp,CK X pins H b)->tn i s.heap->J.stop i H ->
  wpAny (model P w) X.A (pyNext (.ref it)) (fun r s1=>r=none/\AD X pins σ H s1) E s
 self:∀ (A:Around) (i:Nat) (s:Shared) (Q:Value->Shared->Prop) (E:Value->Shared->Prop),tn i s.heap->Q (.ref it) s->wpAny (model P w) A (pyIter (.ref it)) Q E s
abbrev TI:=St->Hp->(It->Hp->Prop)->Prop
def Hu (X:Cx) (pins:zR) (σ:St) (tg:Expr) (R:It->Hp->Prop) (itv:Value) (s2:Shared):Prop :=
 ∃ (it:Addr) (fp:List Addr) (tn:Nat->Heap->Prop) (J:It) (H':Hp),itv = .ref it/\AD X pins σ H' s2/\FD X.prog X.w X.K tg J fp it tn/\tn 0 s2.heap/\(∀ b∈fp,CK X pins H' b)/\R J H'
def PI (X:Cx) (tg iter:Expr) (wi:TI):Prop :=
 ∀ (pins:zR) (s:Shared) (σ:St) (H:Hp) (R:It->Hp->Prop),AD X pins σ H s->wi σ H R ->
  wpAny (model X.prog X.w) X.A (eval iter X.env) (fun v s1=>wpAny (model X.prog X.w) X.A (pyIter v) (Hu X pins σ tg R) X.xe s1) X.xe s
theorem Gj {M : Model} {A : Around} {E : Value->Shared->Prop} {s : Shared} {tg : Expr} {it : Addr} {u : Value} {o : Obj} {n : String} {vs : Array Value} {Q : Unit->Shared->Prop} (ho : s.heap.get? it = some o) (hc : o.cls = .type n) (hd : o.data = .fields vs)
    (hn : ["enumerate", "zip", "dict_itemiterator", "dict_reverseitemiterator", "odict_iterator", "itertools.zip_longest", "itertools.pairwise"].contains n = false) (hQ : Q () s) : wpAny M A (letOwnedTupleGo tg (.ref it) u) Q E s := by
  unfold letOwnedTupleGo;cases tg <;> first
    | exact wpAny_pure hQ
    | (cases u <;> first
        | exact wpAny_pure hQ
        | (refine wpAny_bind (wpAny_load ho ?_)
           rw [hc, hd];show wpAny M A (if (["enumerate", "zip", "dict_itemiterator", "dict_reverseitemiterator", "odict_iterator", "itertools.zip_longest", "itertools.pairwise"].contains n&&vs[0]?==some (rawInt _)) = true then _ else _) Q E s
           rw [if_neg (by intro h; rw [hn, Bool.false_and] at h; cases h)]
           exact wpAny_pure hQ))
noncomputable def CC (K:zP) (a:Addr):It :=
 ⟨fun i H=>∃ xs x,AF K H a xs/\xs[i]? = some x,fun i H x H'=>H'=H/\∀ xs,AF K H a xs->xs[i]? = some x,fun i H=>∃ xs,AF K H a xs/\xs.length<=i⟩
noncomputable def Ct (K:zP) (a:Addr):It :=
 ⟨fun i H=>∃ xs x,AH K H a xs/\xs[i]? = some x,fun i H x H'=>H'=H/\∀ xs,AH K H a xs->xs[i]? = some x,fun i H=>∃ xs,AH K H a xs/\xs.length<=i⟩
noncomputable def CW (lo:Int) (n:Nat):It:=⟨fun i _=>i<n,fun i H x H'=>H'=H/\x = .int (lo+i),fun i _=>n<=i⟩
theorem bh {P:Program} {w:World} {K:zP} {tg:Expr} (a it:Addr):FD P w K tg (CC K a) [it] it (fun i h=>h.IsListIter it a i) where
 mem:=by simp
 obj:=fun i h st b hb=>by
  have e:b=it:=by simpa using hb
  subst e;obtain ⟨o,e,c,d⟩:=st;exact ⟨o,e,fun v z=>by rw [d] at z;cases z⟩
 keep:=fun i h h' st k=>st.at fun o e=>k it (by simp) o e
 item:=by
  intro X hP hw hK hc i pins s σ H E I hf st hg;subst hP hw hK;obtain ⟨xs,x,hq,hx⟩:=hg;obtain ⟨its,rv,p,hz⟩:=I.list hq;obtain ⟨u,hu,ru⟩:=rv.get hx;obtain ⟨f0,f1,f2,f3,f4,f5⟩:=hf it (by simp)
  refine wpAny_pyNext_list_item st p.isList (x:=u) (by simpa using hu) fun h' st' sb=>?_
  have I1:AD X pins σ H { s with heap:=h' }:=I.turned (t':=s.toks) (fun b o hb e=>(sb.2 b hb).trans e) f0 f1 f3 f4 f5
  obtain ⟨o,e,c,d⟩:=id st';exact ⟨u,rfl,Gj (s:={ s with heap:=h' }) e c d (by decide) ⟨x,H,I1,ru,⟨rfl,fun ys hy=>by rw [I.list_inj hy hq];exact hx⟩,st',fun b hb=>(hf b hb).1⟩⟩
 done:=by
  intro X hP hw hK hc i pins s σ H E I hf st hg;subst hP hw hK;obtain ⟨xs,hq,hx⟩:=hg;obtain ⟨its,rv,p,hz⟩:=I.list hq;obtain ⟨f0,f1,f2,f3,f4,f5⟩:=hf it (by simp)
  have hl:=rv.length;exact wpAny_pyNext_list_end (I.ok.hd hc) st p.isList (by simp;lia) fun h' eb=>⟨rfl,I.turned (t':=s.toks) (fun b o hb e=>eb b o hb e) f0 f1 f3 f4 f5⟩
 self:=fun _ _ _ _ _ st h=>wpAny_pyIter_listiter st h
theorem cC {P:Program} {w:World} {K:zP} {tg:Expr} (a it:Addr):FD P w K tg (Ct K a) [it] it (fun i h=>h.IsTupleIter it a i) where
 mem:=by simp
 obj:=fun i h st b hb=>by
  have e:b=it:=by simpa using hb
  subst e;obtain ⟨o,e,c,d⟩:=st;exact ⟨o,e,fun v z=>by rw [d] at z;cases z⟩
 keep:=fun i h h' st k=>st.at fun o e=>k it (by simp) o e
 item:=by
  intro X hP hw hK hc i pins s σ H E I hf st hg;subst hP hw hK;obtain ⟨xs,x,hq,hx⟩:=hg;obtain ⟨its,rv,p,hz⟩:=I.tuple hq;obtain ⟨u,hu,ru⟩:=rv.get hx;obtain ⟨f0,f1,f2,f3,f4,f5⟩:=hf it (by simp)
  refine wpAny_pyNext_tuple_item st (show s.heap.IsTuple a its.toArray from p) (x:=u) (by simpa using hu) fun h' st' sb=>?_
  have I1:AD X pins σ H { s with heap:=h' }:=I.turned (t':=s.toks) (fun b o hb e=>(sb.2 b hb).trans e) f0 f1 f3 f4 f5
  obtain ⟨o,e,c,d⟩:=id st';exact ⟨u,rfl,Gj (s:={ s with heap:=h' }) e c d (by decide) ⟨x,H,I1,ru,⟨rfl,fun ys hy=>by rw [I.tuple_inj hy hq];exact hx⟩,st',fun b hb=>(hf b hb).1⟩⟩
 done:=by
  intro X hP hw hK hc i pins s σ H E I hf st hg;subst hP hw hK;obtain ⟨xs,hq,hx⟩:=hg;obtain ⟨its,rv,p,hz⟩:=I.tuple hq;obtain ⟨f0,f1,f2,f3,f4,f5⟩:=hf it (by simp)
  have hl:=rv.length;exact wpAny_pyNext_tuple_end (I.ok.hd hc) st (show s.heap.IsTuple a its.toArray from p) (by simp;lia) fun h' eb=>⟨rfl,I.turned (t':=s.toks) (fun b o hb e=>eb b o hb e) f0 f1 f3 f4 f5⟩
 self:=fun _ _ _ _ _ st h=>wpAny_pyIter_tupleiter st h
theorem cA {P:Program} {w:World} {K:zP} {tg:Expr} (it:Addr) (lo:Int) (n:Nat):FD P w K tg (CW lo n) [it] it (fun i h=>IsRangeIter h it (lo+(i:Nat)*1) ((n:Int)-(i:Nat)) 1) where
 mem:=by simp
 obj:=fun i h st b hb=>by
  have e:b=it:=by simpa using hb
  subst e;exact ⟨_,st,fun v z=>by
   have z':Data.fields _=Data.cell v:=z;cases z'⟩
 keep:=fun i h h' st k=>k it (by simp) _ st
 item:=by
  intro X hP hw hK hc i pins s σ H E I hf st hg;subst hP hw hK;obtain ⟨f0,f1,f2,f3,f4,f5⟩:=hf it (by simp)
  have W:=Walks.range (prog:=X.prog) (w:=X.w) (I.ok.hd hc) it lo 1 n;refine W.item i s _ _ hg st fun v h' tk hv st' kk=>?_;obtain ⟨t,rfl⟩:=hv;have I1:AD X pins σ H { s with heap:=h',toks:=tk }:=I.turned (fun b o hb e=>kk b o (by simpa using hb) e) f0 f1 f3 f4 f5
  refine ⟨_,rfl,Gj (s:={ s with heap:=h',toks:=tk }) (n:="range_iterator") st' rfl rfl (by decide) ⟨.int (lo+i),H,I1,⟨t,?_⟩,⟨rfl,rfl⟩,st',fun b hb=>(hf b hb).1⟩⟩
  rw [Int.mul_one]
 done:=by
  intro X hP hw hK hc i pins s σ H E I hf st hg;subst hP hw hK;obtain ⟨f0,f1,f2,f3,f4,f5⟩:=hf it (by simp)
  exact wpAny_pyNext_range_end (I.ok.hd hc) st (by have:n<=i:=hg;lia) fun h' eb=>⟨rfl,I.turned (t':=s.toks) (fun b o hb e=>eb b o hb e) f0 f1 f3 f4 f5⟩
 self:=fun _ _ _ _ _ st h=>wpAny_pyIter_rangeiter st h
end L2
namespace L2
open PySem PySem.Spec PyProof.Rows
section
variable {X:Cx} {tg:Expr}
def Us (K:zP) (tl:TE):TI:=fun σ H R=>tl σ H fun x H1=>∃ a,x = .ref a/\(∃ xs,AF K H1 a xs)/\R (CC K a) H1
def Uv (K:zP) (tl:TE):TI:=fun σ H R=>tl σ H fun x H1=>∃ a,x = .ref a/\(∃ xs,AH K H1 a xs)/\R (Ct K a) H1
theorem Ei {l:Expr} {tl:TE} (hl:PE X l tl):PI X tg l (Us X.K tl):=by
 intro pins s σ H R I h;refine AQ (hl pins s σ H _ I h) fun v s1 ⟨x,H1,I1,r1,q1⟩=>?_;obtain ⟨a,e,⟨xs,hq⟩,q⟩:=q1;subst e;cases r1;obtain ⟨its,rv,p,hz⟩:=I1.list hq;refine wpAny_pyIter_list p.isList ?_;refine ⟨s1.heap.objs.size,[s1.heap.objs.size],_,_,H1,rfl,I1.kept (t':=s1.toks) fun b o e=>Heap.get?_push_of_some _ e,bh a _,⟨_,Heap.get?_push_size _ rfl,rfl,rfl⟩,fun b hb=>?_,q⟩;have e:b=s1.heap.objs.size:=by simpa using hb
 subst e;exact I1.fpOk (Nat.le_refl _) (I1.hok.fresh (Nat.le_refl _))
theorem Lk {l:Expr} {tl:TE} (hl:PE X l tl):PI X tg l (Uv X.K tl):=by
 intro pins s σ H R I h;refine AQ (hl pins s σ H _ I h) fun v s1 ⟨x,H1,I1,r1,q1⟩=>?_;obtain ⟨a,e,⟨xs,hq⟩,q⟩:=q1;subst e;cases r1;obtain ⟨its,rv,p,hz⟩:=I1.tuple hq;refine wpAny_pyIter_tuple (show s1.heap.IsTuple a its.toArray from p) ?_;refine ⟨s1.heap.objs.size,[s1.heap.objs.size],_,_,H1,rfl,I1.kept (t':=s1.toks) fun b o e=>Heap.get?_push_of_some _ e,cC a _,⟨_,Heap.get?_push_size _ rfl,rfl,rfl⟩,fun b hb=>?_,q⟩;have e:b=s1.heap.objs.size:=by simpa using hb
 subst e;exact I1.fpOk (Nat.le_refl _) (I1.hok.fresh (Nat.le_refl _))
theorem XG {pins:zR} {σ:St} {H:Hp} {s:Shared} {R:It->Hp->Prop} {E:Value->Shared->Prop} {lo hi:Int} {t u v:Tok} {tk:Nat} (I:AD X pins σ H s) (h1:-(2 ^ 62)<=lo) (h2:lo<2 ^ 62) (h3:-(2 ^ 62)<=hi) (h4:hi<2 ^ 62)
  (q:R (CW lo (hi-lo).toNat) H):wpAny (model X.prog X.w) X.A (pyIter (.ref s.heap.objs.size)) (Hu X pins σ tg R) E { s with heap:=s.heap.push { cls:=.type "range",data:=.fields #[.int lo t,.int hi u,.int 1 v] },toks:=tk }:=by
 refine wpAny_pyIter_range (IsRange.new ..) (small_one h1 h2 h3 h4) ?_;have I1:AD X pins σ H { s with heap:=s.heap.push { cls:=.type "range",data:=.fields #[.int lo t,.int hi u,.int 1 v] },toks:=tk }:=I.kept fun b o e=>Heap.get?_push_of_some _ e
 refine ⟨(s.heap.push { cls:=.type "range",data:=.fields #[.int lo t,.int hi u,.int 1 v] }).objs.size,[(s.heap.push { cls:=.type "range",data:=.fields #[.int lo t,.int hi u,.int 1 v] }).objs.size],_,_,H,rfl,
  I1.kept (t':=tk) fun b o e=>Heap.get?_push_of_some _ e,cA _ lo (hi-lo).toNat,?_,fun b hb=>?_,q⟩
 ·have e1:lo+((0:Nat):Int)*1=lo:=by simp
  have e2:(((hi-lo).toNat:Nat):Int)-((0:Nat):Int)=Builtin.Range.rangeSize lo hi 1:=by rw [rangeSize_one];split <;> lia
  show IsRangeIter _ _ (lo+((0:Nat):Int)*1) ((((hi-lo).toNat:Nat):Int)-((0:Nat):Int)) 1;rw [e1,e2];exact Heap.get?_push_size _ rfl
 ·have e:b=(s.heap.push { cls:=.type "range",data:=.fields #[.int lo t,.int hi u,.int 1 v] }).objs.size:=by simpa using hb
  subst e;exact I1.fpOk (Nat.le_refl _) (I1.hok.fresh (Nat.le_refl _))
def Ut (ta:TA):TI:=fun σ H R=>ta σ H fun vs H1=>∃ j:Int,vs=[.int j]/\-(2 ^ 62)<=j/\j<2 ^ 62/\R (CW 0 j.toNat) H1
theorem EI {a:Expr} {ta:TA} {p pos:Pos} (hg:Gl X "range") (hm:X.mg "range" = none) (ha:PA X [a] ta) (hs:starEach [a] X.env=[(false,eval a X.env)]:=by rfl):PI X tg (.Call (.Name "range" p) [a] [] pos) (Ut ta):=by
 intro pins s σ H R I h;refine Call_ (FS I hg hm boot_range (PyProof.Rows.callWith_type1 (AQ (ha pos pins s σ H _ I h) fun us s1 ⟨vs,H1,I1,r1,q1⟩=>?_) hs rfl));obtain ⟨j,e,q1,q2,q⟩:=q1;subst e;cases r1 with
 | cons r rr =>
  cases rr;obtain ⟨t,rfl⟩:=r;exact call_range_1 (XG I1 (by lia) (by lia) q1 q2 (by simpa using q))
def ac (wi:TI) (g:TG) (tb:TS):TS:=fun D σ H=>wi σ H fun J H1=>∃ W:Nat->Nat->St->Hp->Prop,(∃ m,W 0 m σ H1)/\∀ i m σ H,W i m σ H ->
 (J.stop i H/\D.nx σ H)\/(J.go i H/\∃ N:St->Hp->Prop,(∀ σ' H',N σ' H'->∃ m',m'<m/\W (i+1) m' σ' H')/\∀ x H',J.yld i H x H'->g x σ H' fun σ2 H2=>tb { D with nx:=N,ct:=N,bk:=D.nx } σ2 H2)
noncomputable def GA (fp:List Addr) (h:Heap):zR:=fp.filterMap fun b=>(h.get? b).map fun o=>(b,o)
theorem Gs {fp:List Addr} {h:Heap} {b:Addr} {o:Obj} (hb:b∈fp) (e:h.get? b=some o):(b,o)∈GA fp h:=List.mem_filterMap.mpr ⟨b,hb,by rw [e];rfl⟩
theorem WJ {fp:List Addr} {h:Heap} {p:Addr × Obj} (hp:p∈GA fp h):p.1∈fp/\h.get? p.1=some p.2:=by
 obtain ⟨b,hb,e⟩:=List.mem_filterMap.mp hp;cases q:h.get? b with
 | none=>rw [q] at e;cases e
 | some o =>
  rw [q] at e;have e':(b,o)=p:=Option.some.inj e;subst e';exact ⟨hb,q⟩
theorem AD.pinned {pins:zR} {σ:St} {H:Hp} {s:Shared} {fp:List Addr} (I:AD X pins σ H s) (hf:∀ b∈fp,CK X pins H b) (ho:∀ b∈fp,∃ o,s.heap.get? b=some o/\∀ v,o.data≠.cell v):AD X (pins++GA fp s.heap) σ H s :=
 I.pins_of fun p hp=>(List.mem_append.mp hp).elim (fun z=>I.pin p (List.mem_append_right _ z)) fun z=>by
  obtain ⟨hb,e⟩:=WJ z;obtain ⟨f0,f1,f2,_⟩:=hf p.1 hb;obtain ⟨o,e',d⟩:=ho p.1 hb;rw [e] at e';cases e';exact ⟨e,f0,f1,f2,d⟩
theorem AD.unpinned {pins pl:zR} {σ:St} {H:Hp} {s:Shared} (I:AD X (pins++pl) σ H s):AD X pins σ H s:=I.pins_of fun p hp=>I.pin p (List.mem_append_right _ (List.mem_append_left _ hp))
theorem CQ {iter:Expr} {body:List Stmt} {wi:TI} {g:TG} {tb:TS} {pos:Pos} (hp:PassesOwn (model X.prog X.w) X.A X.env X.xe) (hc:X.calm=true) (hi:PI X tg iter wi) (hg:PG X tg g) (hb:BF X body tb)
  (hs:∀ x,foldedSetIterable iter X.env x=pure x:=by intro _;rfl):PS X (.For tg iter body [] pos) (ac wi g tb):=by
 intro pins s σ H D I h;refine wpAny_For (AQ (hi pins s σ H _ I h) fun v s1 h1=>AQ h1 fun itv s2 h2=>?_) hs;obtain ⟨it,fp,tn,J,H2,e,I2,T,st2,f2,W,⟨m0,w0⟩,turn⟩:=h2;subst e;have stat:∀ {H':Hp},(∀ b∈fp,H' b=none)->∀ b∈fp,CK X pins H' b:=fun hn b hb=>⟨hn b hb,(f2 b hb).2⟩;refine codeAny_forLoop_any (fun n s'=>∃ i σ' H',AD X pins σ' H' s'/\tn i s'.heap/\(∀ b∈fp,H' b=none)/\W i n σ' H') ?_ m0 ⟨0,σ,H2,I2,st2,fun b hb=>(f2 b hb).1,w0⟩;rintro n s3 ⟨i,σ3,H3,I3,st3,fr3,w3⟩
 rcases turn i n σ3 H3 w3 with ⟨stop,qn⟩|⟨go,N,hN,step⟩
 ·refine wpAny_passesOwn hp (AQ (T.done X rfl rfl rfl hc i pins s3 σ3 H3 X.xe I3 (stat fr3) st3 stop) fun r s4 ⟨hr,I4⟩=>?_)
  subst hr;exact wpAny_execs_nil ⟨σ3,H3,I4,qn⟩
 ·refine wpAny_passesOwn hp (AQ (T.item X rfl rfl rfl hc i pins s3 σ3 H3 X.xe I3 (stat fr3) st3 go) fun r s4 ⟨u,hr,h4⟩=>?_)
  subst hr;refine wpAny_passesOwn hp (AQ h4 fun _ s5 ⟨x,H5,I5,r5,y5,st5,fr5⟩=>?_);have I5':=I5.pinned (stat fr5) (T.obj _ _ st5);refine wpAny_passesOwn hp (AQ (hg _ s5 σ3 H5 x u _ I5' r5 (step x H5 y5)) fun _ s6 ⟨σ6,H6,I6,q6⟩=>?_);refine wpAny_passesOwn hp (AQ (hb _ s6 σ6 H6 _ I6 q6) fun f s7 q7=>?_);have again:∀ {σ7:St} {H7:Hp},AD X (pins++GA fp s5.heap) σ7 H7 s7->N σ7 H7->∃ m,m<n/\∃ i σ' H',AD X pins σ' H' s7/\tn i s7.heap/\(∀ b∈fp,H' b=none)/\W i m σ' H':=fun {σ7 H7} I7 n7=>by
   obtain ⟨m',hm,w7⟩:=hN σ7 H7 n7;refine ⟨m',hm,i+1,σ7,H7,I7.unpinned,T.keep _ _ _ st5 fun b hb o e=>(I7.pin (b,o) (List.mem_append_right _ (List.mem_append_right _ (Gs hb e)))).1,fun b hb=>?_,w7⟩;obtain ⟨o,e,d⟩:=T.obj _ _ st5 b hb;exact (I7.pin (b,o) (List.mem_append_right _ (List.mem_append_right _ (Gs hb e)))).2.1
  cases f with
  | next=>obtain ⟨σ7,H7,I7,n7⟩:=q7;exact again I7 n7
  | cont=>obtain ⟨σ7,H7,I7,n7⟩:=q7;exact again I7 n7
  | brk=>obtain ⟨σ7,H7,I7,q7⟩:=q7;exact ⟨σ7,H7,I7.unpinned,q7⟩
  | ret v=>obtain ⟨x7,σ7,H7,I7,r7,q7⟩:=q7;exact ⟨x7,σ7,H7,I7.unpinned,r7,q7⟩
end
theorem Gf {K:zP} {a:Addr} {xs:List V} {g:TG} {tb:TS} {D:BL} {σ:St} {H:Hp} (Pv:Nat->St->Hp->Prop) (h0:Pv 0 σ H) (hl:∀ i σ H,i<=xs.length->Pv i σ H->AF K H a xs)
  (hs:∀ i x σ H,xs[i]? = some x->Pv i σ H->g x σ H fun σ2 H2=>tb { D with nx:=Pv (i+1),ct:=Pv (i+1),bk:=D.nx } σ2 H2) (hd:∀ σ H,Pv xs.length σ H->D.nx σ H) :
  ∃ W:Nat->Nat->St->Hp->Prop,(∃ m,W 0 m σ H)/\∀ i m σ H,W i m σ H ->
   ((CC K a).stop i H/\D.nx σ H)\/((CC K a).go i H/\∃ N:St->Hp->Prop,(∀ σ' H',N σ' H'->∃ m',m'<m/\W (i+1) m' σ' H')/\∀ x H',(CC K a).yld i H x H'->g x σ H' fun σ2 H2=>tb { D with nx:=N,ct:=N,bk:=D.nx } σ2 H2):=by
 refine ⟨fun i m σ H=>m=xs.length-i/\i<=xs.length/\Pv i σ H,⟨xs.length,by simp,Nat.zero_le _,h0⟩,?_⟩
 rintro i m σ H ⟨rfl,hi,p⟩
 have q:=hl i σ H hi p;by_cases hlt:i<xs.length
 ·refine .inr ⟨⟨xs,xs[i],q,by simp [hlt]⟩,Pv (i+1),fun σ' H' p'=>⟨xs.length-(i+1),by lia,rfl,hlt,p'⟩,fun x H' y=>?_⟩
  obtain ⟨e,y⟩:=y;subst e;exact hs i x σ _ (y xs q) p
 ·have e:i=xs.length:=by lia
  subst e;exact .inl ⟨⟨xs,q,Nat.le_refl _⟩,hd σ H p⟩
theorem LB {K:zP} {a:Addr} {xs:List V} {g:TG} {tb:TS} {D:BL} {σ:St} {H:Hp} (Pv:Nat->St->Hp->Prop) (h0:Pv 0 σ H) (hl:∀ i σ H,i<=xs.length->Pv i σ H->AH K H a xs)
  (hs:∀ i x σ H,xs[i]? = some x->Pv i σ H->g x σ H fun σ2 H2=>tb { D with nx:=Pv (i+1),ct:=Pv (i+1),bk:=D.nx } σ2 H2) (hd:∀ σ H,Pv xs.length σ H->D.nx σ H) :
  ∃ W:Nat->Nat->St->Hp->Prop,(∃ m,W 0 m σ H)/\∀ i m σ H,W i m σ H ->
   ((Ct K a).stop i H/\D.nx σ H)\/((Ct K a).go i H/\∃ N:St->Hp->Prop,(∀ σ' H',N σ' H'->∃ m',m'<m/\W (i+1) m' σ' H')/\∀ x H',(Ct K a).yld i H x H'->g x σ H' fun σ2 H2=>tb { D with nx:=N,ct:=N,bk:=D.nx } σ2 H2):=by
 refine ⟨fun i m σ H=>m=xs.length-i/\i<=xs.length/\Pv i σ H,⟨xs.length,by simp,Nat.zero_le _,h0⟩,?_⟩
 rintro i m σ H ⟨rfl,hi,p⟩
 have q:=hl i σ H hi p;by_cases hlt:i<xs.length
 ·refine .inr ⟨⟨xs,xs[i],q,by simp [hlt]⟩,Pv (i+1),fun σ' H' p'=>⟨xs.length-(i+1),by lia,rfl,hlt,p'⟩,fun x H' y=>?_⟩
  obtain ⟨e,y⟩:=y;subst e;exact hs i x σ _ (y xs q) p
 ·have e:i=xs.length:=by lia
  subst e;exact .inl ⟨⟨xs,q,Nat.le_refl _⟩,hd σ H p⟩
theorem Fv {lo:Int} {n:Nat} {g:TG} {tb:TS} {D:BL} {σ:St} {H:Hp} (Pv:Nat->St->Hp->Prop) (h0:Pv 0 σ H)
  (hs:∀ i σ H,i<n->Pv i σ H->g (.int (lo+i)) σ H fun σ2 H2=>tb { D with nx:=Pv (i+1),ct:=Pv (i+1),bk:=D.nx } σ2 H2) (hd:∀ σ H,Pv n σ H->D.nx σ H) :
  ∃ W:Nat->Nat->St->Hp->Prop,(∃ m,W 0 m σ H)/\∀ i m σ H,W i m σ H ->
   ((CW lo n).stop i H/\D.nx σ H)\/((CW lo n).go i H/\∃ N:St->Hp->Prop,(∀ σ' H',N σ' H'->∃ m',m'<m/\W (i+1) m' σ' H')/\∀ x H',(CW lo n).yld i H x H'->g x σ H' fun σ2 H2=>tb { D with nx:=N,ct:=N,bk:=D.nx } σ2 H2):=by
 refine ⟨fun i m σ H=>m=n-i/\i<=n/\Pv i σ H,⟨n,by simp,Nat.zero_le _,h0⟩,?_⟩
 rintro i m σ H ⟨rfl,hi,p⟩
 by_cases hlt:i<n
 ·refine .inr ⟨hlt,Pv (i+1),fun σ' H' p'=>⟨n-(i+1),by lia,rfl,hlt,p'⟩,fun x H' y=>?_⟩
  obtain ⟨e,y⟩:=y;subst e y;exact hs i σ _ hlt p
 ·have e:i=n:=by lia
  subst e;exact .inl ⟨Nat.le_refl _,hd σ H p⟩
end L2
namespace L2
open PySem PySem.Spec PyProof.Rows
abbrev R2:=V->V->Hp->VK->Prop
def A6 (X:Cx) (f:Value->Value->Sem Value) (r:R2):Prop :=
 ∀ (pins:zR) (s:Shared) (σ:St) (H:Hp) (x y:V) (v u:Value) (Q:VK),AD X pins σ H s->AU x v->AU y u->r x y H Q ->
  wpAny (model X.prog X.w) X.A (f v u) (EP X pins σ Q) X.xe s
def Hx (X:Cx) (f:Value->Sem Value) (r:V->Hp->VK->Prop):Prop :=
 ∀ (pins:zR) (s:Shared) (σ:St) (H:Hp) (x:V) (v:Value) (Q:VK),AD X pins σ H s->AU x v->r x H Q ->
  wpAny (model X.prog X.w) X.A (f v) (EP X pins σ Q) X.xe s
def BO (X:Cx) (f:Value) (r:List V->Hp->VK->Prop):Prop :=
 ∀ (pins:zR) (s:Shared) (σ:St) (H:Hp) (xs:List V) (us:List Value) (Q:VK),AD X pins σ H s->AW xs us->r xs H Q ->
  wpAny (model X.prog X.w) X.A (call f us) (EP X pins σ Q) X.xe s
def Es (r:R2) (ta tb:TE):TE:=fun σ H Q=>ta σ H fun x H1=>tb σ H1 fun y H2=>r x y H2 Q
def bL (r:V->Hp->VK->Prop) (ta:TE):TE:=fun σ H Q=>ta σ H fun x H1=>r x H1 Q
def rI (C:Int->Int->Prop) (g:Int->Int->V):R2:=fun x y H Q=>∃ i j,x = .int i/\y = .int j/\C i j/\Q (g i j) H
def JK (g:Int->Int->V):R2:=fun x y H Q=>∃ i j,x = .int i/\y = .int j/\Q (g i j) H
def rU (g:Int->V):V->Hp->VK->Prop:=fun x H Q=>∃ i,x = .int i/\Q (g i) H
section
variable {X:Cx} {a b c:Expr} {ta tb tc:TE} {pos:Pos}
theorem IG (ha:PE X a ta) (hb:PE X b tb) {pins:zR} {s:Shared} {σ:St} {H:Hp} {R:V->V->Hp->Prop} (I:AD X pins σ H s)
  (h:ta σ H fun x H1=>tb σ H1 fun y H2=>R x y H2) {Q:Value->Shared->Prop} {f:Value->Value->Sem Value}
  (hf:∀ v u s2 x y H2,AD X pins σ H2 s2->AU x v->AU y u->R x y H2->wpAny (model X.prog X.w) X.A (f v u) Q X.xe s2) :
  wpAny (model X.prog X.w) X.A (eval a X.env) (fun v s₁=>wpAny (model X.prog X.w) X.A (eval b X.env) (fun u s₂=>wpAny (model X.prog X.w) X.A (f v u) Q X.xe s₂) X.xe s₁) X.xe s:=by
 refine AQ (ha pins s σ H _ I h) fun v s1 ⟨x,H1,I1,r1,q1⟩=>?_;refine AQ (hb pins s1 σ H1 _ I1 q1) fun u s2 ⟨y,H2,I2,r2,q2⟩=>?_;exact hf v u s2 x y H2 I2 r1 r2 q2
theorem qC {op:Operator} {r:R2} (ho:A6 X (binaryOp op) r) (ha:PE X a ta) (hb:PE X b tb):PE X (.BinOp a op b pos) (Es r ta tb):=by
 intro pins s σ H Q I h;exact wpAny_BinOp (IG ha hb I h fun v u s2 x y H2 I2 rx ry q=>ho pins s2 σ H2 x y v u Q I2 rx ry q)
theorem Dn {op:UnaryOp} {r:V->Hp->VK->Prop} (ho:Hx X (unaryOp op) r) (ha:PE X a ta):PE X (.UnaryOp op a pos) (bL r ta):=by
 intro pins s σ H Q I h;exact UnaryOp_ (AQ (ha pins s σ H _ I h) fun v s1 ⟨x,H1,I1,r1,q1⟩=>ho pins s1 σ H1 x v Q I1 r1 q1)
theorem Fy {f:Value->Value->Sem Value} {C:Int->Int->Prop} {g:Int->Int->Int}
  (rule:∀ (i j:Int) (t u:Tok) (s:Shared) (Q:Value->Shared->Prop) (E:Value->Shared->Prop),C i j->Q (.int (g i j) s.toks) { s with toks:=s.toks+1 }->wpAny (model X.prog X.w) X.A (f (.int i t) (.int j u)) Q E s) :
  A6 X f (rI C fun i j=>.int (g i j)):=by
 intro pins s σ H x y v u Q I rx ry h;obtain ⟨i,j,rfl,rfl,hc,q⟩:=h;obtain ⟨t,rfl⟩:=rx;obtain ⟨t',rfl⟩:=ry;exact rule i j t t' s _ _ hc ⟨.int (g i j),H,I.tok _,⟨_,rfl⟩,q⟩
theorem Le {f:Value->Value->Sem Value} {g:Int->Int->Int}
  (rule:∀ (i j:Int) (t u:Tok) (s:Shared) (Q:Value->Shared->Prop) (E:Value->Shared->Prop),Q (.int (g i j) s.toks) { s with toks:=s.toks+1 }->wpAny (model X.prog X.w) X.A (f (.int i t) (.int j u)) Q E s) :
  A6 X f (JK fun i j=>.int (g i j)):=by
 intro pins s σ H x y v u Q I rx ry h;obtain ⟨i,j,rfl,rfl,q⟩:=h;obtain ⟨t,rfl⟩:=rx;obtain ⟨t',rfl⟩:=ry;exact rule i j t t' s _ _ ⟨.int (g i j),H,I.tok _,⟨_,rfl⟩,q⟩
def O7 (i j:Int):Prop:=0<=j/\j<=1000000/\i.natAbs<2 ^ 64
def Hi (i j:Int):Prop:=(-(2 ^ 64)<i/\i<2 ^ 64)\/(-(2 ^ 64)<j/\j<2 ^ 64)
theorem Hi.ok {i j:Int} (h:Hi i j):IntMulOk i j:=by
 rcases h with ⟨h1,h2⟩|⟨h1,h2⟩
 ·exact .of_left (intBits_le_64 h1 h2)
 ·exact .of_right (intBits_le_64 h1 h2)
theorem BP:A6 X (binaryOp .Add) (JK fun i j=>.int (i+j)):=Le fun _ _ _ _ _ _ _ q=>add_int q
theorem C5:A6 X (binaryOp .Sub) (JK fun i j=>.int (i-j)):=Le fun _ _ _ _ _ _ _ q=>sub_int q
theorem qT:A6 X (binaryOp .Mod) (rI (fun _ j=>0<j) fun i j=>.int (i%j)):=Fy fun i j _ _ _ _ _ hc q=>by
 have h1:(0:Int)<j:=hc;exact mod_int' (by lia) (by rw [Int.fmod_eq_emod_of_nonneg i (by lia)];exact q)
theorem WW:A6 X (binaryOp .Pow) (rI O7 fun i j=>.int (i ^ j.toNat)):=Fy fun _ _ _ _ _ _ _ hc q=>pow_int_small hc.1 hc.2.1 hc.2.2 q
theorem cR {f:Value->Sem Value} {g:Int->Int}
  (rule:∀ (i:Int) (t:Tok) (s:Shared) (Q:Value->Shared->Prop) (E:Value->Shared->Prop),Q (.int (g i) s.toks) { s with toks:=s.toks+1 }->wpAny (model X.prog X.w) X.A (f (.int i t)) Q E s) :
  Hx X f (rU fun i=>.int (g i)):=by
 intro pins s σ H x v Q I rx h;obtain ⟨i,rfl,q⟩:=h;obtain ⟨t,rfl⟩:=rx;exact rule i t s _ _ ⟨.int (g i),H,I.tok _,⟨_,rfl⟩,q⟩
theorem Ds:Hx X (unaryOp .USub) (rU fun i=>.int (-i)):=cR fun _ _ _ _ _ q=>neg_int q
end
noncomputable def Ji:V->V->Bool
 | .non,.non=>true|.non,.int _=>true|.int _,.non=>true|.non,.bl _=>true|.bl _,.non=>true|.non,.str _=>true|.str _,.non=>true
 | .int _,.int _=>true|.bl _,.bl _=>true|.str _,.str _=>true|.byt _,.byt _=>true
 | .int _,.str _=>true|.str _,.int _=>true|.bl _,.str _=>true|.str _,.bl _=>true
 | _,_=>false
def W4:R2:=fun x y H Q=>Ji x y=true/\Q (.bl (decide (x=y))) H
def W7:R2:=fun x y H Q=>Ji x y=true/\Q (.bl (!decide (x=y))) H
theorem Ky {i j:Int}:decide (V.int i=V.int j)=(i==j):=by
 rw [Bool.eq_iff_iff];simp
theorem Kw {i j:Bool}:decide (V.bl i=V.bl j)=(i==j):=by
 rw [Bool.eq_iff_iff];simp
theorem Kz {i j:Str}:decide (V.str i=V.str j)=(i==j):=by
 rw [Bool.eq_iff_iff];simp
theorem Kx {i j:Array UInt8}:decide (V.byt i=V.byt j)=(i.toList==j.toList):=by
 rw [Bool.eq_iff_iff];cases i;cases j;simp
section
variable {X:Cx} {a b c:Expr} {ta tb tc:TE} {pos:Pos}
theorem zC {pins:zR} {σ:St} {H:Hp} {s:Shared} {Q:VK} {k k':Bool} (I:AD X pins σ H s) (q:Q (.bl k) H) (e:k=k'):EP X pins σ Q (.bool k') s:=by
 subst e;exact ⟨.bl k,H,I,rfl,q⟩
theorem zF:A6 X (compareOp .Eq) W4:=by
 intro pins s σ H x y v u Q I rx ry h;obtain ⟨hs,q⟩:=h;cases x with
 | non =>
  cases rx;cases y with
  | non=>cases ry;exact PySem.EqNone.eq_none_none (zC I q (by simp))
  | bl j=>cases ry;exact PySem.EqNone.eq_none_bool (zC I q (by simp))
  | int j=>obtain ⟨t',rfl⟩:=ry;exact PySem.EqNone.eq_none_int (zC I q (by simp))
  | str j=>obtain ⟨t',rfl⟩:=ry;exact PySem.EqNone.eq_none_str (zC I q (by simp))
  | _=>exact absurd (show false=true from hs) Bool.false_ne_true
 | bl i =>
  cases rx;cases y with
  | non=>cases ry;exact PySem.EqNone.eq_bool_none (zC I q (by simp))
  | bl j=>cases ry;exact eq_bool (zC I q Kw)
  | str j=>obtain ⟨t',rfl⟩:=ry;exact PySem.EqMixed.eq_bool_str (zC I q (by simp))
  | _=>exact absurd (show false=true from hs) Bool.false_ne_true
 | int i =>
  obtain ⟨t,rfl⟩:=rx;cases y with
  | non=>cases ry;exact PySem.EqNone.eq_int_none (zC I q (by simp))
  | int j=>obtain ⟨t',rfl⟩:=ry;exact eq_int (zC I q Ky)
  | str j=>obtain ⟨t',rfl⟩:=ry;exact PySem.EqMixed.eq_int_str (zC I q (by simp))
  | _=>exact absurd (show false=true from hs) Bool.false_ne_true
 | str i =>
  obtain ⟨t,rfl⟩:=rx;cases y with
  | non=>cases ry;exact PySem.EqNone.eq_str_none (zC I q (by simp))
  | bl j=>cases ry;exact PySem.EqMixed.eq_str_bool (zC I q (by simp))
  | int j=>obtain ⟨t',rfl⟩:=ry;exact PySem.EqMixed.eq_str_int (zC I q (by simp))
  | str j=>obtain ⟨t',rfl⟩:=ry;exact eq_str (zC I q Kz)
  | _=>exact absurd (show false=true from hs) Bool.false_ne_true
 | byt i =>
  obtain ⟨t,rfl⟩:=rx;cases y with
  | byt j=>obtain ⟨t',rfl⟩:=ry;exact PySem.W.eq_bytes (zC I q Kx)
  | _=>exact absurd (show false=true from hs) Bool.false_ne_true
 | _=>cases y <;> exact absurd (show false=true from hs) Bool.false_ne_true
theorem Gx:A6 X (compareOp .NotEq) W7:=by
 intro pins s σ H x y v u Q I rx ry h;obtain ⟨hs,q⟩:=h;cases x with
 | non =>
  cases rx;cases y with
  | non=>cases ry;exact PySem.EqNone.ne_none_none (zC I q (by simp))
  | bl j=>cases ry;exact PySem.EqNone.ne_none_bool (zC I q (by simp))
  | int j=>obtain ⟨t',rfl⟩:=ry;exact PySem.EqNone.ne_none_int (zC I q (by simp))
  | str j=>obtain ⟨t',rfl⟩:=ry;exact PySem.EqNone.ne_none_str (zC I q (by simp))
  | _=>exact absurd (show false=true from hs) Bool.false_ne_true
 | bl i =>
  cases rx;cases y with
  | non=>cases ry;exact PySem.EqNone.ne_bool_none (zC I q (by simp))
  | bl j=>cases ry;exact ne_bool (zC I q (congrArg not Kw))
  | str j=>obtain ⟨t',rfl⟩:=ry;exact PySem.EqMixed.ne_bool_str (zC I q (by simp))
  | _=>exact absurd (show false=true from hs) Bool.false_ne_true
 | int i =>
  obtain ⟨t,rfl⟩:=rx;cases y with
  | non=>cases ry;exact PySem.EqNone.ne_int_none (zC I q (by simp))
  | int j=>obtain ⟨t',rfl⟩:=ry;exact ne_int (zC I q (congrArg not Ky))
  | str j=>obtain ⟨t',rfl⟩:=ry;exact PySem.EqMixed.ne_int_str (zC I q (by simp))
  | _=>exact absurd (show false=true from hs) Bool.false_ne_true
 | str i =>
  obtain ⟨t,rfl⟩:=rx;cases y with
  | non=>cases ry;exact PySem.EqNone.ne_str_none (zC I q (by simp))
  | bl j=>cases ry;exact PySem.EqMixed.ne_str_bool (zC I q (by simp))
  | int j=>obtain ⟨t',rfl⟩:=ry;exact PySem.EqMixed.ne_str_int (zC I q (by simp))
  | str j=>obtain ⟨t',rfl⟩:=ry;exact ne_str (zC I q (congrArg not Kz))
  | _=>exact absurd (show false=true from hs) Bool.false_ne_true
 | byt i =>
  obtain ⟨t,rfl⟩:=rx;cases y with
  | byt j=>obtain ⟨t',rfl⟩:=ry;exact PySem.W.ne_bytes (zC I q (congrArg not Kx))
  | _=>exact absurd (show false=true from hs) Bool.false_ne_true
 | _=>cases y <;> exact absurd (show false=true from hs) Bool.false_ne_true
theorem Ax (b:Expr) {op:CmpOp} (h:op≠.In:=by decide) (h2:op≠.NotIn:=by decide):behindInMarks op b=false:=by
 have e1:(op==CmpOp.In)=false:=by cases op <;> first|rfl|exact absurd rfl h
 have e2:(op==CmpOp.NotIn)=false:=by cases op <;> first|rfl|exact absurd rfl h2
 cases b <;> simp [behindInMarks,e1,e2]
theorem HA {op:CmpOp} {r:R2} (ho:A6 X (compareOp op) r) (ha:PE X a ta) (hb:PE X b tb) (hm:behindInMarks op b=false):PE X (.Compare a [op] [b] pos) (Es r ta tb):=by
 intro pins s σ H Q I h;exact wpAny_Compare1 (IG ha hb I h fun v u s2 x y H2 I2 rx ry q=>ho pins s2 σ H2 x y v u Q I2 rx ry q) hm
def Oj (t:TE):TT:=fun σ H Q=>t σ H fun x H'=>∃ k,x = .bl k/\Q k H'
theorem qQ {op:CmpOp} {r:R2} (ho:A6 X (compareOp op) r) (ha:PE X a ta) (hb:PE X b tb) (hm:behindInMarks op b=false):PT X (.Compare a [op] [b] pos) (Oj (Es r ta tb)):=by
 intro pins s σ H Q I h;refine wpAny_isTrue_Compare1 (AQ (ha pins s σ H _ I h) fun v s1 ⟨x,H1,I1,r1,q1⟩=>AQ (hb pins s1 σ H1 _ I1 q1) fun u s2 ⟨y,H2,I2,r2,q2⟩ =>
  AQ (ho pins s2 σ H2 x y v u _ I2 r1 r2 q2) fun c s3 ⟨z,H3,I3,r3,k,e,q3⟩=>?_) hm
 subst e;cases r3;exact wpAny_truthy_bool ⟨H3,I3,q3⟩
theorem Im:(sizeLine:Nat)<2 ^ 63:=by rw [sizeLine_eq];decide
theorem DC {x:V} {us:List Value} (r:AW [x] us):∃ u,us=[u]/\AU x u:=by
 cases r with
 | cons r1 r2=>cases r2;exact ⟨_,rfl,r1⟩
theorem Oq {x y:V} {us:List Value} (r:AW [x,y] us):∃ u w',us=[u,w']/\AU x u/\AU y w':=by
 cases r with
 | cons r1 r2 =>
  cases r2 with
  | cons r3 r4=>cases r4;exact ⟨_,_,rfl,r1,r3⟩
theorem EV:BO X (.builtin "abs") (fun xs H Q=>∃ i,xs=[.int i]/\Q (.int (if i<0 then -i else i)) H):=by
 intro pins s σ H xs us Q I r h;obtain ⟨i,rfl,q⟩:=h;obtain ⟨u,rfl,t,rfl⟩:=DC r;exact call_abs_int fun u tk=>⟨.int (if i<0 then -i else i),H,I.tok _,⟨_,rfl⟩,q⟩
theorem Pj (hc:X.calm=true):BO X (.builtin "max") (fun xs H Q=>∃ i j,xs=[.int i,.int j]/\Q (.int (if j>i then j else i)) H):=by
 intro pins s σ H xs us Q I r h;obtain ⟨i,j,rfl,q⟩:=h;obtain ⟨u,w',rfl,⟨t,rfl⟩,⟨t',rfl⟩⟩:=Oq r;refine max_two_ints (I.ok.hd hc) fun h' tk k=>⟨_,H,I.kept k,?_,q⟩;by_cases hj:j>i
 ·rw [if_pos hj,if_pos hj];exact ⟨_,rfl⟩
 ·rw [if_neg hj,if_neg hj];exact ⟨_,rfl⟩
theorem Pk (hc:X.calm=true):BO X (.builtin "min") (fun xs H Q=>∃ i j,xs=[.int i,.int j]/\Q (.int (if j<i then j else i)) H):=by
 intro pins s σ H xs us Q I r h;obtain ⟨i,j,rfl,q⟩:=h;obtain ⟨u,w',rfl,⟨t,rfl⟩,⟨t',rfl⟩⟩:=Oq r;refine min_two_ints (I.ok.hd hc) fun h' tk k=>⟨_,H,I.kept k,?_,q⟩;by_cases hj:j<i
 ·rw [if_pos hj,if_pos hj];exact ⟨_,rfl⟩
 ·rw [if_neg hj,if_neg hj];exact ⟨_,rfl⟩
theorem II:BO X (.type "int") (fun xs H Q=>(∃ i,xs=[.int i]/\Q (.int i) H)\/∃ k,xs=[.bl k]/\Q (.int (if k then 1 else 0)) H):=by
 intro pins s σ H xs us Q I r h;rcases h with ⟨i,rfl,q⟩|⟨k,rfl,q⟩
 ·obtain ⟨u,rfl,t,rfl⟩:=DC r
  exact call_int_int ⟨.int i,H,I,⟨_,rfl⟩,q⟩
 ·obtain ⟨u,rfl,r1⟩:=DC r
  cases r1;exact call_int_bool ⟨.int (if k then 1 else 0),H,I.tok _,⟨_,rfl⟩,q⟩
end
end L2
namespace L2
open PySem PySem.Spec PyProof.Rows
structure ES (h:Heap) (x dx C:Addr) (mA:Str->Option Value):Prop where
 obj:h.get? x=some (PySem.W.instObj C dx)
 ns:h.Ns1 dx mA
 ne:dx≠x
theorem Vo {h:Heap} {dx:Addr} {mA:Str->Option Value} (n:h.Ns1 dx mA):∃ od,h.get? dx=some od/\∀ name,PySem.W.lookIn name od=some (mA name):=by
 obtain ⟨o,es,ep,ho,hd,hk,_,hm⟩:=n;refine ⟨o,ho,fun name=>?_⟩;have e:=hm name;unfold nsFind findBy at e;rw [← Array.find?_toList] at e;unfold PySem.W.lookIn;rw [hd];dsimp only;split
 ·rename_i y q
  rw [q] at e;exact congrArg some e
 ·rename_i q
  rw [q] at e;have a:es.toList.any (·.refKey)=false:=by
   rw [List.any_eq_false];intro y hy;obtain ⟨z,t,hkey⟩:=hk y (Array.mem_toList_iff.mp hy);simp [DictEntry.refKey,hkey]
  have a':¬ es.toList.any (·.refKey)=true:=by rw [a];exact Bool.false_ne_true
  rw [if_neg a'];exact congrArg some e
theorem ES.look {h:Heap} {x dx C:Addr} {mA:Str->Option Value} (I:ES h x dx C mA):∃ od,PySem.W.InstAt h x (PySem.W.instObj C dx) C (some od)/\∀ name,PySem.W.lookIn name od=some (mA name) :=
 let ⟨od,ho,hl⟩:=Vo I.ns
 ⟨od,⟨I.obj,rfl,rfl,ho⟩,hl⟩
section
variable {prog:Program} {w:World} {A:Around} {E:Value->Shared->Prop} {s:Shared} {K:zP} {x dx C f:Addr} {mA:Str->Option Value} {name:Str} {v:Value}
theorem SQ {expr:Bool} {Q:Value->Shared->Prop} (X:K.In s.heap) (I:ES s.heap x dx C mA) (hg:PySem.W.plainGet K C name=true) (hh:PySem.W.hasDictIn K C=true)
  (ha:PySem.W.findIn K (.ref C) name=some none) (hv:mA name=some v) (hv':PySem.W.handedIn v=true) (h:Q v { s with toks:=s.toks+1 }) :
  wpAny (model prog w) A (getAttr (.ref x) name expr) Q E s:=by
 obtain ⟨od,J,hl⟩:=I.look;exact PySem.W.get_value X J (PySem.W.plainGet_of hg).1 (PySem.W.findObj_own hh ha rfl (by rw [hl,hv])) hv' h
theorem SR {pl:Sem Bool} {Q:Value × List Value->Shared->Prop} (X:K.In s.heap) (I:ES s.heap x dx C mA) (hg:PySem.W.plainGet K C name=true)
  (hf:PySem.W.findIn K (.ref C) name=some (some (.ref f))) (ht:PySem.W.isFn K (.ref f)=true) (hv:mA name=none) (h:Q (.ref f,[.ref x]) s) :
  wpAny (model prog w) A (getMethod (.ref x) name pl) Q E s:=by
 obtain ⟨od,J,hl⟩:=I.look;exact PySem.W.method_fn X J (PySem.W.plainGet_of hg).1 (PySem.W.plainGet_of hg).2 hf (beq_iff_eq.mp ht) (by show (PySem.W.lookIn name od).map (·.isSome)=some false;rw [hl,hv];rfl) h
theorem Yd {ns:List Str} {Q:Unit->Shared->Prop} (X:K.In s.heap) (I:ES s.heap x dx C mA)
  (hs:PySem.W.findIn K (.ref C) "__setattr__" = some (some (.builtin "object.__setattr__"))) (hp:PySem.W.plainOver K C=true) (ht:PySem.W.takerIn K C name=some none) (hh:PySem.W.hasDictIn K C=true)
  (hw:PySem.Within mA ns) (hsz:ns.length<=sizeLine)
  (h:∀ h',ES h' x dx C (fun y=>if y=name then some v else mA y)->Heap.SameBut dx s.heap h'->Q () { s with heap:=h',toks:=s.toks+2 }) :
  wpAny (model prog w) A (setAttr (.ref x) name v) Q E s:=by
 obtain ⟨od,J,hl⟩:=I.look;refine PySem.W.set_plain X J hs (PySem.W.osa_open (s:={ s with toks:=s.toks+1 }) (r:=none) X J hp ht fun b=>?_)
 obtain ⟨cd,hc,hd'⟩:=PySem.W.any_some hh;have hx:s.heap.get? x=some ⟨.ref C,some dx,.plain,#[]⟩:=I.obj;refine wpAny_bind (wpAny_pure (wpAny_bind (wpAny_bind (wpAny_loadPart hx (wpAny_bind (PySem.W.Looks.here (s:={ s with toks:=s.toks+1 }) (PySem.W.looks_clsIn X hc) ?_))))))
 rw [hd'];refine wpAny_pure (a:=some dx) (wpAny_bind (wpAny_pure (wpAny_bind ?_)));refine wpAny_nsSet1 (s:={ s with toks:=s.toks+1 }) I.ns fun h' hn2 hs2=>?_
 obtain ⟨oD,esD,epD,hoD,hdD,hcD⟩:=hn2.count (PySem.Within.cons name v hw);refine wpAny_bind (wpAny_lookBehind hoD (by rw [hdD];exact pastItsLine_dict (Nat.le_trans hcD (by rw [List.length_cons];lia))) ?_)
 exact wpAny_pure (h _ ⟨(hs2.2 _ (Ne.symm I.ne)).trans I.obj,hn2,I.ne⟩ hs2)
theorem Vs {R:Result->Shared->Prop} {vs:List Value} {kw:List (Str × Value)} (X:K.In s.heap) (hm:PySem.W.makesIn K C=true)
  (hi:PySem.W.findIn K (.ref C) "__init__" = some (some (.ref f))) (hf:PySem.W.typeIn K (.ref f)=some (.type "function"))
  (h:codeAny (model prog w) (A.under (.builtin "type.__call__" ⟨.ref C::vs,kw⟩)) (.call (.ref f) ⟨.ref (s.heap.objs.size+1)::vs,kw⟩) (PySem.W.InitBack (s.heap.objs.size+1) R)
   { s with heap:=(s.heap.push PySem.W.emptyDict).push (PySem.W.instObj C s.heap.objs.size) }) :
  codeAny (model prog w) A (.call (.ref C) ⟨vs,kw⟩) R s:=by
 obtain ⟨hh,g,d,t,os⟩:=s;exact PySem.W.make_core (PySem.W.makes_of X hm) (PySem.W.looks_findIn X hi) (fun self=>PySem.W.bind_fn X self hf) (.inl rfl) h
end
noncomputable def A0 (f:Str) (v:V):List (Str × V)->List (Str × V)
 | []=>[(f,v)]
 | (g,x)::r=>if g=f then (g,v)::r else (g,x)::A0 f v r
theorem LQ (f g:Str) (v:V):∀ fs:List (Str × V),(A0 f v fs).lookup g=if g=f then some v else fs.lookup g
 | []=>by
  show List.lookup g [(f,v)]=_;by_cases h:g=f
  ·have hb:(g==f)=true:=beq_iff_eq.mpr h
   simp only [List.lookup,hb,if_pos h]
  ·have hb:(g==f)=false:=beq_eq_false_iff_ne.mpr h
   simp only [List.lookup,hb,if_neg h]
 | (k,x)::r=>by
  have ih:=LQ f g v r;rw [show A0 f v ((k,x)::r)=(if k=f then (k,v)::r else (k,x)::A0 f v r) from rfl]
  by_cases hk:k=f
  ·rw [if_pos hk]
   by_cases h:g=k
   ·have hb:(g==k)=true:=beq_iff_eq.mpr h
    simp only [List.lookup,hb,if_pos (h.trans hk)]
   ·have hb:(g==k)=false:=beq_eq_false_iff_ne.mpr h
    simp only [List.lookup,hb,if_neg (fun e:g=f=>h (e.trans hk.symm))]
  ·rw [if_neg hk]
   by_cases h:g=k
   ·have hb:(g==k)=true:=beq_iff_eq.mpr h
    simp only [List.lookup,hb,if_neg (fun e:g=f=>hk (h.symm.trans e))]
   ·have hb:(g==k)=false:=beq_eq_false_iff_ne.mpr h
    simp only [List.lookup,hb];exact ih
theorem Ij (f:Str) (v:V):∀ fs:List (Str × V),f∈(A0 f v fs).map (·.1)/\∀ g,g∈fs.map (·.1)->g∈(A0 f v fs).map (·.1)
 | []=>⟨by simp [A0],fun g h=>by simp at h⟩
 | (k,x)::r=>by
  obtain ⟨i1,i2⟩:=Ij f v r;rw [show A0 f v ((k,x)::r)=(if k=f then (k,v)::r else (k,x)::A0 f v r) from rfl]
  by_cases hk:k=f
  ·rw [if_pos hk]
   subst hk;exact ⟨by simp,fun g h=>by simpa using h⟩
  ·rw [if_neg hk]
   refine ⟨?_,fun g h=>?_⟩
   ·rw [List.map_cons]
    exact List.mem_cons_of_mem _ i1
   ·rw [List.map_cons] at h ⊢
    rcases List.mem_cons.mp h with e|e
    ·exact List.mem_cons.mpr (.inl e)
    ·exact List.mem_cons_of_mem _ (i2 g e)
theorem LP (f:Str) (v:V):∀ fs:List (Str × V),(A0 f v fs).length<=fs.length+1
 | []=>by simp [A0]
 | (k,x)::r=>by
  have ih:=LP f v r;rw [show A0 f v ((k,x)::r)=(if k=f then (k,v)::r else (k,x)::A0 f v r) from rfl]
  by_cases hk:k=f
  ·rw [if_pos hk,List.length_cons,List.length_cons];lia
  ·rw [if_neg hk,List.length_cons,List.length_cons];lia
theorem Bi.some_of {v:V} {o:Option Value} (r:Bi (some v) o):∃ u,o=some u/\AU v u:=by
 cases o with
 | none=>exact (show False from r).elim
 | some u=>exact ⟨u,rfl,r⟩
theorem Bi.none_of {o:Option Value} (r:Bi none o):o=none:=by
 cases o with
 | none=>rfl
 | some u=>exact (show False from r).elim
theorem T7 {v:V} {u:Value} (r:AU v u):PySem.W.handedIn u=true:=by
 cases v with
 | non=>cases (show u=Value.none from r);rfl
 | bl b=>cases (show u=Value.bool b from r);rfl
 | int i=>obtain ⟨t,e⟩:=(show ∃ t,u=Value.int i t from r);cases e;rfl
 | str x=>obtain ⟨t,e⟩:=(show ∃ t,u=Value.str x t from r);cases e;rfl
 | byt b=>obtain ⟨t,e⟩:=(show ∃ t,u=Value.bytes b t from r);cases e;rfl
 | flt b=>obtain ⟨t,e⟩:=(show ∃ t,u=Value.float b t from r);cases e;rfl
 | ref a=>cases (show u=Value.ref a from r);rfl
 | ty n=>cases (show u=Value.type n from r);rfl
section
variable {P:Program} {w:World} {H H':Hp} {h h':Heap} {a C dx:Addr} {fs fs':List (Str × V)}
theorem Gn (hok:Ak P w H h) (e:H a=some (.ins C dx fs)):∃ mA,ES h a dx C mA/\(∀ f,Bi (fs.lookup f) (mA f))/\PySem.Within mA (fs.map (·.1))/\fs.length<=1000/\H dx=some (.own a):=by
 obtain ⟨d,z,ne,ob,mA,n,r,q⟩:=(show Av P w H h a (.ins C dx fs) from hok a _ e);exact ⟨mA,⟨ob,n,ne⟩,r,q,z,d⟩
end
structure CI (K:zP) (C:Addr):Prop where
 pg:PySem.W.plainGet K C Str.empty=true
 hd:PySem.W.hasDictIn K C=true
 po:PySem.W.plainOver K C=true
 sa:PySem.W.findIn K (.ref C) "__setattr__" = some (some (.builtin "object.__setattr__"))
theorem CI.get {K:zP} {C:Addr} (c:CI K C) (f:Str):PySem.W.plainGet K C f=true:=c.pg
def BJ (K:zP) (C:Addr) (f:Str):Prop:=PySem.W.findIn K (.ref C) f=some none
theorem BJ.taker {K:zP} {C:Addr} {f:Str} (n:BJ K C f):PySem.W.takerIn K C f=some none:=by
 unfold PySem.W.takerIn;rw [show PySem.W.findIn K (.ref C) f=some none from n];rfl
structure cq (K:zP) (C:Addr) (f:Str) (v:V) (u:Value):Prop where
 at_:PySem.W.findIn K (.ref C) f=some (some u)
 rel:AU v u
 get:PySem.W.specialIn K u "__get__" = some none
 cp:PySem.W.copiedNames.contains f=false
structure Hr (K:zP) (C:Addr) (m:Str) (f:Addr):Prop where
 at_:PySem.W.findIn K (.ref C) m=some (some (.ref f))
 fn:PySem.W.isFn K (.ref f)=true
 kp:PySem.W.keepIn K (.ref f)=true
section
variable {X:Cx} {pins:zR} {σ:St} {H:Hp} {s:Shared} {a C dx:Addr} {fs:List (Str × V)} {f:Str} {v:V} {A:Around} {E:Value->Shared->Prop}
theorem SS {b:Bool} {Q:Value->Shared->Prop} (I:AD X pins σ H s) (e:H a=some (.ins C dx fs)) (c:CI X.K C) (n:BJ X.K C f) (l:fs.lookup f=some v)
  (h:∀ u s',AD X pins σ H s'->AU v u->Q u s'):wpAny (model X.prog X.w) A (getAttr (.ref a) f b) Q E s:=by
 obtain ⟨mA,O,r,_,_,_⟩:=Gn I.hok e;obtain ⟨u,hu,ru⟩:=Bi.some_of (v:=v) (o:=mA f) (by rw [← l];exact r f)
 exact SQ I.kIn O (c.get f) c.hd n hu (T7 ru) (h u _ (I.tok _) ru)
theorem LG {m:Str} {g:Addr} {pl:Sem Bool} {Q:Value × List Value->Shared->Prop} (I:AD X pins σ H s) (e:H a=some (.ins C dx fs)) (c:CI X.K C) (k:Hr X.K C m g) (l:fs.lookup m=none)
  (h:Q (.ref g,[.ref a]) s):wpAny (model X.prog X.w) A (getMethod (.ref a) m pl) Q E s:=by
 obtain ⟨mA,O,r,_,_,_⟩:=Gn I.hok e;have hn:mA m=none:=Bi.none_of (by rw [← l];exact r m)
 exact SR I.kIn O (c.get m) k.at_ k.fn hn h
theorem Yf {y:V} {u:Value} {Q:Unit->Shared->Prop} (I:AD X pins σ H s) (e:H a=some (.ins C dx fs)) (c:CI X.K C) (n:BJ X.K C f) (hl:fs.length<1000) (ry:AU y u)
  (h:∀ s',AD X pins σ (AC H a (.ins C dx (A0 f y fs))) s'->Q () s'):wpAny (model X.prog X.w) A (setAttr (.ref a) f u) Q E s:=by
 obtain ⟨mA,O,r,wi,_,ho⟩:=Gn I.hok e;have hz:(fs.map (·.1)).length<=sizeLine:=by rw [List.length_map,sizeLine_eq];lia
 refine Yd I.kIn O c.sa c.po n.taker c.hd wi hz fun h' O' sb=>h _ ?_;have hd:∃ o,h'.get? dx=some o:=let ⟨o,_,_,e',_⟩:=O'.ns;⟨o,e'⟩;refine I.write (x:=a) (e:=dx) (by rw [e];exact True.intro) (.inr ho) (fun b q hb z=>(sb.2 b hb).trans z) hd ?_
 refine ⟨by rw [uN O.ne];exact ho,?_,O.ne,O'.obj,_,O'.ns,fun g=>?_,fun g hg=>?_⟩
 ·have:=LP f y fs;lia
 ·show Bi ((A0 f y fs).lookup g) (if g=f then some u else mA g)
  rw [LQ];by_cases q:g=f
  ·rw [if_pos q,if_pos q];exact ry
  ·rw [if_neg q,if_neg q];exact r g
 ·by_cases q:g=f
  ·rw [q];exact (Ij f y fs).1
  ·refine (Ij f y fs).2 g (wi g fun z=>hg ?_)
   show (if g=f then some u else mA g)=none
   rw [if_neg q];exact z
theorem AD.made (I:AD X pins σ H s):AD X pins σ (AC (AC H s.heap.objs.size (.own (s.heap.objs.size+1))) (s.heap.objs.size+1) (.ins C s.heap.objs.size []))
  { s with heap:=(s.heap.push PySem.W.emptyDict).push (PySem.W.instObj C s.heap.objs.size) }:=by
 have e1:(s.heap.push PySem.W.emptyDict).get? s.heap.objs.size=some PySem.W.emptyDict:=Heap.get?_push_size s.heap rfl;have e2:((s.heap.push PySem.W.emptyDict).push (PySem.W.instObj C s.heap.objs.size)).get? (s.heap.objs.size+1)=some (PySem.W.instObj C s.heap.objs.size):=by
  have:=Heap.get?_push_size (s.heap.push PySem.W.emptyDict) (o:=PySem.W.instObj C s.heap.objs.size) rfl
  rwa [Heap.size_push] at this
 have e3:(s.heap.push PySem.W.emptyDict).Ns s.heap.objs.size (fun _=>none):=⟨PySem.W.emptyDict,#[],_,e1,rfl,(fun e he=>absurd he (by simp)),fun _=>rfl⟩
 have I1:=I.laid (a:=s.heap.objs.size) (o:=.own (s.heap.objs.size+1)) (h':=s.heap.push PySem.W.emptyDict) (t':=s.toks) (fun b u q=>Heap.get?_push_of_some _ q) (Nat.le_refl _) ⟨_,e1⟩;refine I1.laid (a:=s.heap.objs.size+1) (o:=.ins C s.heap.objs.size []) (t':=s.toks) (fun b u q=>Heap.get?_push_of_some _ q) (Nat.le_of_eq (Heap.size_push _ _)) ?_;have ne:s.heap.objs.size≠s.heap.objs.size+1:=Nat.ne_of_lt (Nat.lt_succ_self _);refine ⟨by rw [uN ne,uS],Nat.zero_le _,ne,e2,fun _=>none,(Heap.Ns1.of_empty e3).at fun o q=>Heap.get?_push_of_some _ q,fun _=>True.intro,fun y hy=>absurd rfl hy⟩
theorem PP {prog:Program} {w:World} {env:Env} {e:Expr} {f:Str} {pos:Pos} {s:Shared} {Q:Value->Shared->Prop} (hb:attributeBase e f env (eval e env)=eval e env)
  (h:wpAny (model prog w) A (eval e env) (fun o s₁=>wpAny (model prog w) A (getAttr o f true) Q E s₁) E s):wpAny (model prog w) A (eval (.Attribute e f pos) env) Q E s :=
 Attribute_any_ h (by rw [arm_eval_Attribute,hb])
end
def Og (K:zP) (ta:TE) (f:Str):TE:=fun σ H Q=>ta σ H fun x H1=>∃ a C dx fs v,x = .ref a/\H1 a=some (.ins C dx fs)/\CI K C/\BJ K C f/\fs.lookup f=some v/\Q v H1
def XQ (K:zP) (ta tv:TE) (f:Str):TS:=fun D σ H=>tv σ H fun y H1=>ta σ H1 fun x H2=>∃ a C dx fs,x = .ref a/\H2 a=some (.ins C dx fs)/\CI K C/\BJ K C f/\fs.length<1000 /\
 D.nx σ (AC H2 a (.ins C dx (A0 f y fs)))
section
variable {X:Cx} {o e value:Expr} {f:Str} {pos pos' tpos:Pos} {ta tv:TE}
theorem pF (he:PE X e ta) (hb:attributeBase e f X.env (eval e X.env)=eval e X.env):PE X (.Attribute e f pos) (Og X.K ta f):=by
 intro pins s σ H Q I h;refine PP hb (AQ (he pins s σ H _ I h) fun u s1 ⟨x,H1,I1,rx,a,C,dx,fs,v,ex,ea,c,n,l,q⟩=>?_);subst ex;obtain rfl:u=Value.ref a:=rx;exact SS I1 ea c n l fun u' s2 I2 ru=>⟨v,H1,I2,ru,q⟩
theorem zD (ha:PE X o ta) (hv:PE X value tv) (hs:swapsWith value (some (.Attribute o f pos')) pos.line X.env=pure false):PS X (.Assign [.Attribute o f pos'] value pos) (XQ X.K ta tv f):=by
 intro pins s σ H D I h;refine plainObj_wpAny_Assign_Attribute (AQ (hv pins s σ H _ I h) fun u s1 ⟨y,H1,I1,ry,q⟩=>AQ (ha pins s1 σ H1 _ I1 q) fun ov s2 ⟨x,H2,I2,rx,a,C,dx,fs,ex,ea,c,n,l,q2⟩=>?_) hs;subst ex;obtain rfl:ov=Value.ref a:=rx;exact Yf I2 ea c n l ry fun s3 I3=>⟨σ,_,I3,q2⟩
end
section
variable {X:Cx} {pins:zR} {σ:St} {H:Hp} {s:Shared} {A:Around} {E:Value->Shared->Prop} {Q:Value->Shared->Prop} {c:Value} {b:Bool}
inductive TyOf (K:zP) (H:Hp):V->Value->Prop where
 | non:TyOf K H .non (.type "NoneType")
 | bl (x:Bool):TyOf K H (.bl x) (.type "bool")
 | int (i:Int):TyOf K H (.int i) (.type "int")
 | str (x:Str):TyOf K H (.str x) (.type "str")
 | flt (x:UInt64):TyOf K H (.flt x) (.type "float")
 | lst {a:Addr} {xs:List V} (e:H a=some (.lst xs)):TyOf K H (.ref a) (.type "list")
 | frz {a:Addr} {o:Obj} {xs:List V} (e:H a=some (.frz o (.lst xs))):TyOf K H (.ref a) (.type "list")
 | tup {a:Addr} {xs:List V} (e:H a=some (.tup xs)):TyOf K H (.ref a) (.type "tuple")
 | dK {a:Addr} {kvs:List (Ac × V)} (e:H a=some (.dK kvs)):TyOf K H (.ref a) (.type "dict")
 | dT {a:Addr} {kvs:List (List Ac × V)} (e:H a=some (.dT kvs)):TyOf K H (.ref a) (.type "dict")
 | ins {a C dx:Addr} {fs:List (Str × V)} (e:H a=some (.ins C dx fs)) (cl:CI K C) (ha:PySem.W.findIn K (.ref C) "__class__" = some (some (.builtin "object.__class__")))
   (hn:PySem.W.specialIn K (.builtin "object.__class__") "__get__" = some (some (.builtin "getset_descriptor.__get__"))) (htk:PySem.W.takesIn K (.builtin "object.__class__")=some true)
   (hm:PySem.W.mroIn K C (.type "object")=some true):TyOf K H (.ref a) (.ref C)
theorem Uz {x:V} {u t:Value} (I:AD X pins σ H s) (rx:AU x u) (ty:TyOf X.K H x t) (e:PySem.W.kitOne X.K t c=some b) (h:∀ tk,Q (.bool b) { s with toks:=tk }) :
  wpAny (model X.prog X.w) A (call (.builtin "isinstance") [u,c]) Q E s:=by
 cases ty with
 | non=>cases (show u=Value.none from rx);exact PySem.W.kia_one PySem.W.kitx_none I.kIn True.intro e (fun z=>nomatch z) h
 | bl y=>cases (show u=Value.bool y from rx);exact PySem.W.kia_one PySem.W.kitx_bool I.kIn True.intro e (fun z=>nomatch z) h
 | int i=>obtain ⟨t,q⟩:=(show ∃ t,u=Value.int i t from rx);cases q;exact PySem.W.kia_one PySem.W.kitx_int I.kIn True.intro e (fun z=>nomatch z) h
 | str y=>obtain ⟨t,q⟩:=(show ∃ t,u=Value.str y t from rx);cases q;exact PySem.W.kia_one PySem.W.kitx_str I.kIn True.intro e (fun z=>nomatch z) h
 | flt y=>obtain ⟨t,q⟩:=(show ∃ t,u=Value.float y t from rx);cases q;exact PySem.W.kia_one PySem.W.kitx_float I.kIn True.intro e (fun z=>nomatch z) h
 | @lst a xs ea =>
  cases (show u=Value.ref a from rx);obtain ⟨_,_,n,_,h1⟩:=(show Av X.prog X.w H s.heap a (.lst xs) from I.hok a _ ea);exact PySem.W.kia_one PySem.W.kitx_list I.kIn ⟨_,h1,rfl⟩ e (fun z=>nomatch z) h
 | @frz a ob xs ea =>
  cases (show u=Value.ref a from rx);obtain ⟨_,_,_,n,_,h1⟩:=(show Av X.prog X.w H s.heap a (.frz ob (.lst xs)) from I.hok a _ ea);exact PySem.W.kia_one PySem.W.kitx_list I.kIn ⟨_,h1,rfl⟩ e (fun z=>nomatch z) h
 | @tup a xs ea =>
  cases (show u=Value.ref a from rx);obtain ⟨_,_,_,p⟩:=(show Av X.prog X.w H s.heap a (.tup xs) from I.hok a _ ea);obtain ⟨o,h1,h2,_⟩:=p;exact PySem.W.kia_one PySem.W.kitx_tuple I.kIn ⟨o,h1,h2⟩ e (fun z=>nomatch z) h
 | @dK a kvs ea =>
  cases (show u=Value.ref a from rx);obtain ⟨_,_,vs,_,p⟩:=(show Av X.prog X.w H s.heap a (.dK kvs) from I.hok a _ ea);obtain ⟨o,es,ep,h1,h2,_⟩:=p;exact PySem.W.kia_one PySem.W.kitx_dict I.kIn ⟨o,h1,h2.1⟩ e (fun z=>nomatch z) h
 | @dT a kvs ea =>
  cases (show u=Value.ref a from rx);obtain ⟨_,_,xs,_,o,es,ep,h1,h2,_⟩:=(show Av X.prog X.w H s.heap a (.dT kvs) from I.hok a _ ea);exact PySem.W.kia_one PySem.W.kitx_dict I.kIn ⟨o,h1,h2.1⟩ e (fun z=>nomatch z) h
 | @ins a C dx fs ea cl ha hn htk hm =>
  cases (show u=Value.ref a from rx);obtain ⟨mA,O,_⟩:=Gn I.hok ea;obtain ⟨od,J,_⟩:=O.look;exact PySem.W.kia_one (PySem.W.kitx_own (cl.get _) cl.hd ha hn htk hm) I.kIn J e (fun z=>nomatch z) h
end
end L2
namespace L2
open PySem PySem.Spec PyProof.Rows
structure As (k:Nat) (A:Around):Prop where
 hd:A.handled=none
 dp:A.depth+3*k+5<recursionLimit
 un:A.units+16*k+200<cLine
theorem As.mono {j k:Nat} {A:Around} (r:As k A) (h:j<=k):As j A:=⟨r.hd,by have:=r.dp;lia,by have:=r.un;lia⟩
theorem As.deeper {k:Nat} {A:Around} (r:As (k+1) A) (env:Env):As k (A.deeper env) :=
 ⟨r.hd,by have:=r.dp;show A.depth+1+3*k+5<_;lia,by have:=r.un;show A.units+3+16*k+200<_;lia⟩
theorem Vr {A:Around} {C:Addr} {us:List Value} {kw:List (Str × Value)}:(A.under (.builtin "type.__call__" ⟨.ref C::us,kw⟩)).depth=A.depth+1:=by
 first|rfl|simp [Around.under,Code.weight,Code.isCreation,Code.isGuard,Code.isCaller,Code.frames,Code.isFrame,guardIds]
theorem Vt {A:Around} {C:Addr} {us:List Value} {kw:List (Str × Value)}:(A.under (.builtin "type.__call__" ⟨.ref C::us,kw⟩)).units=A.units+1:=by
 first|rfl|simp [Around.under,Code.cUnits,Code.frames,Code.isFrame]
theorem As.make {k:Nat} {A:Around} (r:As (k+1) A) (C:Addr) (us:List Value) (kw:List (Str × Value)):As k (A.under (.builtin "type.__call__" ⟨.ref C::us,kw⟩)) :=
 ⟨r.hd,by have:=r.dp;rw [Vr];lia,by have:=r.un;rw [Vt];lia⟩
theorem As.depth {k:Nat} {A:Around} (r:As k A):A.depth<recursionLimit:=by have:=r.dp;lia
theorem As.units {k:Nat} {A:Around} (r:As k A):A.units+64<cLine:=by have:=r.un;lia
def Jr:TA:=fun _ H Q=>Q [] H
def Jq (ta:TE) (tr:TA):TA:=fun σ H Q=>ta σ H fun x H1=>tr σ H1 fun xs H2=>Q (x::xs) H2
section
variable {X:Cx} {e:Expr} {es:List Expr} {te:TE} {t:TA} {pos:Pos}
theorem pI:PA X [] Jr:=fun _ _ _ _ H Q I h=>Calls.spliced_nil ⟨[],H,I,.nil,h⟩
theorem pA (ha:PE X e te) (hr:PA X es t) (hs:starEach (e::es) X.env=(false,eval e X.env)::starEach es X.env:=by rfl):PA X (e::es) (Jq te t):=by
 intro pos pins s σ H Q I h;rw [hs];show wpAny _ _ (spliced ((false,eval e X.env)::backTo pos (starEach es X.env))) _ _ s;refine Calls.spliced_cons (AQ (ha pins s σ H _ I h) fun u s1 ⟨x,H1,I1,r1,q1⟩=>?_);exact AQ (hr pos pins s1 σ H1 _ I1 q1) fun us s2 ⟨xs,H2,I2,r2,q2⟩=>⟨x::xs,H2,I2,.cons r1 r2,q2⟩
def bK (t:TA):TE:=fun σ H Q=>t σ H fun xs H1=>xs.length<=sizeLine/\∀ p,H1 p=none->Q (.ref p) (AC H1 p (.tup xs))
def ar (t:TA):TE:=fun σ H Q=>t σ H fun xs H1=>xs.length<=sizeLine/\∀ p,H1 p=none->Q (.ref p) (AC H1 p (.lst xs))
theorem zB {x1} (h:PA X es t):PE X (.Tuple es x1 pos) (bK t):=by
 intro pins s σ H Q I hq;refine wpAny_Tuple_spliced (AQ (h pos pins s σ H _ I hq) fun us s1 ⟨xs,H1,I1,r,z,q⟩=>⟨by rw [← r.length];exact z,?_⟩)
 have hf:H1 s1.heap.objs.size=none:=I1.hok.fresh (Nat.le_refl _);refine ⟨.ref s1.heap.objs.size,AC H1 s1.heap.objs.size (.tup xs),I1.laid (t':=s1.toks) (fun b u e=>Heap.get?_push_of_some _ e) (Nat.le_refl _) ?_,rfl,q _ hf⟩;exact ⟨z,us,r,⟨_,Heap.get?_push_size _ rfl,rfl,_,rfl⟩⟩
theorem zA (h:PA X es t):PE X (.List es pos) (ar t):=by
 intro pins s σ H Q I hq;refine wpAny_List_spliced (AQ (h pos pins s σ H _ I hq) fun us s1 ⟨xs,H1,I1,r,z,q⟩=>⟨by rw [← r.length];exact z,?_⟩)
 have hf:H1 s1.heap.objs.size=none:=I1.hok.fresh (Nat.le_refl _);refine ⟨.ref s1.heap.objs.size,AC H1 s1.heap.objs.size (.lst xs),I1.laid (t':=s1.toks) (fun b u e=>Heap.get?_push_of_some _ e) (Nat.le_refl _) ?_,rfl,q _ hf⟩;exact ⟨z,us,0,r,Heap.get?_push_size _ rfl⟩
end
abbrev Sp:=List V->Hp->VK->XK->Prop
abbrev CA:=List Env->Hp->Shared->XK->Value->Shared->Prop
structure EQ (P:Program) (w:World) (K:zP) (mg:zQ) (base:Heap) (A:Around) (outer:List Env) (s:Shared) (H:Hp):Prop where
 frames:A.frames=some outer
 mod:Mod K mg base
 bs:∀ b o,base.get? b=some o->s.heap.get? b=some o/\H b=none
 bsz:base.objs.size<=s.heap.objs.size
 funs:s.heap.FunFrames base outer
 frf:∀ b∈Ap outer,H b=none
 hok:Ak P w H s.heap
 bare:AllBare s.gens
def CE (outer:List Env) (P:Program) (w:World) (H:Hp) (s:Shared) (Q:VK) (u:Value) (s':Shared):Prop :=
 ∃ v H',s'.os=s.os/\AllBare s'.gens/\Un (Ap outer) [] H H' s.heap s'.heap/\Ak P w H' s'.heap/\AU v u/\Q v H'
def CR (CX:CA) (outer:List Env) (P:Program) (w:World) (H:Hp) (s:Shared) (Q:VK) (E:XK) (r:Result) (s':Shared):Prop :=
 match r with
 | .ok (.ret u)=>CE outer P w H s Q u s'
 | .ok _=>False
 | .error e=>CX outer H s E e s'
structure Bh (P:Program) (w:World) (K:zP) (mg:zQ) (base:Heap) (CX:CA) (k:Nat) (f:Addr) (fd:FuncData) (ps:List Str) (sp:Sp):Prop where
 len:∀ vs H Q E,sp vs H Q E->vs.length=ps.length
 run:∀ (A:Around) (outer:List Env) (s:Shared) (H:Hp) (args:Args) (us:List Value) (vs:List V) (Q:VK) (E:XK),As k A->EQ P w K mg base A outer s H->BindsTo s fd args (ps.zip us)->AW vs us->sp vs H Q E ->
  codeAny (model P w) A (.call (.ref f) args) (CR CX outer P w H s Q E) s
theorem EQ.make {P:Program} {w:World} {K:zP} {mg:zQ} {base:Heap} {A:Around} {outer:List Env} {s:Shared} {H:Hp} (e:EQ P w K mg base A outer s H) (C:Addr) (us:List Value) (kw:List (Str × Value)) :
  EQ P w K mg base (A.under (.builtin "type.__call__" ⟨.ref C::us,kw⟩)) outer s H:=⟨by first|exact e.frames|(simpa [Around.under,Code.envs,Code.isFrame,pushEnvs] using e.frames),e.mod,e.bs,e.bsz,e.funs,e.frf,e.hok,e.bare⟩
section
variable {X:Cx} {pins:zR} {σ:St} {H:Hp} {s s':Shared}
theorem AD.env0 (I:AD X pins σ H s):EQ X.prog X.w X.K X.mg X.base X.A X.stack s H :=
 ⟨I.ok.frames,I.ok.mod,I.bs,Nat.le_trans I.ok.bsz I.sz,I.stack,I.stkFree,I.hok,I.bare⟩
theorem AD.after {Q:VK} {u:Value} (I:AD X pins σ H s) (h:CE X.stack X.prog X.w H s Q u s'):EP X pins σ Q u s':=by
 obtain ⟨v,H',os,bare,un,hok,r,q⟩:=h;obtain ⟨hh,g,d,t,os'⟩:=s';obtain rfl:os'=s.os:=os;exact ⟨v,H',I.call (h':=hh) (g':=g) (d':=d) (t':=t) (ch:=[]) un hok bare (fun b z=>absurd z (by simp)),r,q⟩
end
def Of (sp:Sp) (dvs:List V) (E:XK) (t:TA):TE:=fun σ H Q=>t σ H fun vs H1=>sp (vs++dvs) H1 Q E
def B6 (K:zP) (fd:FuncData) (ps:List Str) (ds:List Value):Prop :=
 ∀ (s:Shared) (us:List Value),K.In s.heap->(us++ds).length=ps.length->BindsTo s fd ⟨us,[]⟩ (ps.zip (us++ds))
theorem B6.all {K:zP} {fd:FuncData} {ps:List Str} (h:∀ us:List Value,us.length=ps.length->bindArgs fd ⟨us,[]⟩=pure (ps.zip us)):B6 K fd ps []:=fun s us _ hl=>by
 rw [List.append_nil] at hl ⊢;exact .of_eq (h us hl)
def Hv (CX:CA) (X:Cx) (E:XK):Prop:=∀ (pins:zR) (σ:St) (H:Hp) (s:Shared) (e:Value) (s':Shared),AD X pins σ H s->CX X.stack H s E e s'->X.xe e s'
section
variable {X:Cx} {CX:CA} {k:Nat} {f C:Addr} {fd:FuncData} {ps:List Str} {sp:Sp} {dvs:List V} {ds:List Value} {E:XK} {x m:Str} {p pos apos:Pos} {e o:Expr} {es:List Expr} {ta:TE} {t:TA}
theorem XM {pins:zR} {σ:St} {H:Hp} {s:Shared} {Q:VK} {us:List Value} {vs:List V} (F:Bh X.prog X.w X.K X.mg X.base CX k f fd ps sp) (hr:As k X.A) (hb:B6 X.K fd ps ds) (hd:AW dvs ds) (hx:Hv CX X E)
  (I:AD X pins σ H s) (r:AW vs us) (h:sp (vs++dvs) H Q E):wpAny (model X.prog X.w) X.A (call (.ref f) us) (EP X pins σ Q) X.xe s:=by
 have r2:AW (vs++dvs) (us++ds):=r.append hd;have hl:(us++ds).length=ps.length:=by rw [← r2.length];exact F.len _ _ _ _ h
 refine wpAny_call (codeAny_mono (F.run X.A X.stack s H ⟨us,[]⟩ (us++ds) (vs++dvs) Q E hr I.env0 (hb s us I.kIn hl) r2 h) fun r s' hq=>?_);cases r with
 | error e=>exact hx pins σ H s e s' I hq
 | ok fl =>
  cases fl with
  | ret u=>exact I.after hq
  | next=>exact False.elim hq
  | brk=>exact False.elim hq
  | cont=>exact False.elim hq
theorem Wd (F:Bh X.prog X.w X.K X.mg X.base CX k f fd ps sp) (hr:As k X.A) (hg:Gl X x) (hm:X.mg x=some (.ref f)) (hk:PySem.W.keepIn X.K (.ref f)=true) (hb:B6 X.K fd ps ds) (hd:AW dvs ds) (hx:Hv CX X E)
  (ha:PA X (e::es) t) (hdb:(x==("__debug__":Str))=false:=by decide) (he:starEach (e::es) X.env=(false,eval e X.env)::starEach es X.env:=by rfl) (hpl:(backTo pos (starEach es X.env)).any (·.1)=false:=by rfl) :
  PE X (.Call (.Name x p) (e::es) [] pos) (Of sp dvs E t):=by
 intro pins s σ H Q I h;refine wpAny_Call_Name_kw (ED I hg hm ?_ hdb);refine PySem.W.callWith_K (h₀:=X.base) I.ok.mod.kin hk (AQ (ha pos pins s σ H _ I h) fun us s1 ⟨vs,H1,I1,r,q⟩=>⟨I1.kIn,?_⟩) he hpl;exact XM F hr hb hd hx I1 r q
structure Mk (K:zP) (C f:Addr):Prop where
 makes:PySem.W.makesIn K C=true
 init:PySem.W.findIn K (.ref C) "__init__" = some (some (.ref f))
 fn:PySem.W.isFn K (.ref f)=true
 kp:PySem.W.keepIn K (.ref C)=true
end
section
variable {X:Cx} {CX:CA} {k:Nat} {f C:Addr} {fd:FuncData} {ps ks:List Str} {sp:Sp} {E:XK} {x m:Str} {p pos apos kpos:Pos} {e o:Expr} {es:List Expr} {kws:List Keyword} {te ta:TE} {t tk:TA} {nm:Option Str}
structure c9 (K:zP) (fd:FuncData) (ps ks:List Str) (g:List Value->List Value->List Value) (gV:List V->List V->List V):Prop where
 to:∀ (s:Shared) (us ws:List Value),K.In s.heap->(g us ws).length=ps.length->BindsTo s fd ⟨us,ks.zip ws⟩ (ps.zip (g us ws))
 rel:∀ {vs:List V} {us:List Value} {zs:List V} {ws:List Value},AW vs us->AW zs ws->AW (gV vs zs) (g us ws)
variable {g:List Value->List Value->List Value} {gV:List V->List V->List V}
end
structure qB (N P:List Str) (sc:Scope):Prop where
 kind:sc.kind = .function
 co:sc.isCoroutine=false
 gen:sc.isGenerator=false
 nd:N.Nodup
 pre:N.take P.length=P
 par:∀ x∈P,sc.names.lookup x=some .local\/sc.names.lookup x=some .cell
 nofree:∀ y∈sc.names,y.2≠.free
theorem KO {kindOf:Str->Option NameKind} {x:Str}:∀ {binds:List (Str × Value)} {m:Str->Option Value},(∀ v,(x,v) ∉ binds)->bindL kindOf binds m x=m x
 | [],_,_=>rfl
 | (n,v)::r,m,h=>by
  unfold bindL;rw [KO fun w hw=>h w (List.mem_cons_of_mem _ hw)];split
  ·have:x≠n:=by rintro rfl;exact h v List.mem_cons_self
   simp [this]
  ·rfl
theorem KM {kindOf:Str->Option NameKind} {x:Str}:∀ {binds:List (Str × Value)} {m:Str->Option Value},(∀ v,(x,v) ∉ binds)->bindC kindOf binds m x=m x
 | [],_,_=>rfl
 | (n,v)::r,m,h=>by
  unfold bindC;rw [KM fun w hw=>h w (List.mem_cons_of_mem _ hw)];split
  ·rfl
  ·have:x≠n:=by rintro rfl;exact h v List.mem_cons_self
   simp [this]
theorem KN {kindOf:Str->Option NameKind} {x:Str} {v:Value}:∀ {P:List Str} {vs:List Value} {i:Nat} {m:Str->Option Value},P.Nodup->P[i]? = some x->vs[i]? = some v->kindOf x=some .local ->
  bindL kindOf (P.zip vs) m x=some v
 | [],_,_,_,_,h,_,_=>by simp at h
 | _::_,[],_,_,_,_,h,_=>by simp at h
 | p::P,w::vs,0,m,nd,h1,h2,hk=>by
  simp at h1 h2;subst h1;subst h2;show bindL kindOf ((p,w)::P.zip vs) m p=_;unfold bindL;rw [KO fun v hv=>(List.nodup_cons.mp nd).1 (List.of_mem_zip hv).1,if_pos hk];simp
 | p::P,w::vs,i+1,m,nd,h1,h2,hk=>by
  show bindL kindOf ((p,w)::P.zip vs) m x=_;unfold bindL;exact KN (i:=i) (List.nodup_cons.mp nd).2 (by simpa using h1) (by simpa using h2) hk
theorem KL {kindOf:Str->Option NameKind} {x:Str} {v:Value}:∀ {P:List Str} {vs:List Value} {i:Nat} {m:Str->Option Value},P.Nodup->P[i]? = some x->vs[i]? = some v->kindOf x≠some .local ->
  bindC kindOf (P.zip vs) m x=some v
 | [],_,_,_,_,h,_,_=>by simp at h
 | _::_,[],_,_,_,_,h,_=>by simp at h
 | p::P,w::vs,0,m,nd,h1,h2,hk=>by
  simp at h1 h2;subst h1;subst h2;show bindC kindOf ((p,w)::P.zip vs) m p=_;unfold bindC;rw [KM fun v hv=>(List.nodup_cons.mp nd).1 (List.of_mem_zip hv).1,if_neg hk];simp
 | p::P,w::vs,i+1,m,nd,h1,h2,hk=>by
  show bindC kindOf ((p,w)::P.zip vs) m x=_;unfold bindC;exact KL (i:=i) (List.nodup_cons.mp nd).2 (by simpa using h1) (by simpa using h2) hk
noncomputable def Cm (N:List Str) (vs:List V):St:=vs.map some++List.replicate (N.length-vs.length) none
noncomputable def Cz (CX:CA) (P:Program) (w:World) (K:zP) (mg:zQ) (base:Heap) (N:List Str) (qual:Str) (scope:Scope) (f:Addr) (cd:Value) (A:Around) (outer:List Env) (s:Shared) (H:Hp) (E:XK):Cx where
 prog:=P
 w:=w
 K:=K
 mg:=mg
 base:=base
 A:=A.deeper (envOfC qual scope s.heap.objs.size f cd)
 N:=N
 s₀:=s
 H₀:=H
 env:=envOfC qual scope s.heap.objs.size f cd
 outer:=outer
 stack:=envOfC qual scope s.heap.objs.size f cd::outer
 ex:=[]
 calm:=true
 fn:=fun _=>true
 pn:=[]
 xe:=fun e s'=>wpAny (model P w) (A.deeper (envOfC qual scope s.heap.objs.size f cd)) (leaving (envOfC qual scope s.heap.objs.size f cd) e) (fun _ s''=>CX outer H s E e s'') (fun e' s''=>CX outer H s E e' s'') s'
theorem KY {sc:Scope} {n:Nat} {x:Str} (h:sc.names.lookup x=some .cell):∃ c,(cellsFrom n sc.names []).lookup x=some c:=by
 have q:=PySem.W.cellsFrom_some sc.names n [] (.inl h);exact Option.isSome_iff_exists.mp q
theorem Uy {CX:CA} {P:Program} {w:World} {K:zP} {mg:zQ} {base:Heap} {N ps:List Str} {qual:Str} {scope:Scope} {f:Addr} {cd:Value} {A:Around} {outer:List Env} {s s1:Shared} {H:Hp} {E:XK} {us:List Value} {vs:List V}
  (S:qB N ps scope) (hd:A.handled=none) (e0:EQ P w K mg base A outer s H) (hl:vs.length=ps.length) (r:AW vs us)
  (x:InCallC s s.heap.objs.size (bindL (envOfC qual scope s.heap.objs.size f cd).kindOf (ps.zip us) fun _=>none) (cellsFrom (s.heap.objs.size+1) scope.names []) (bindC (envOfC qual scope s.heap.objs.size f cd).kindOf (ps.zip us) fun _=>none) s1) :
  AD (Cz CX P w K mg base N qual scope f cd A outer s H E) [] (Cm N vs) H s1:=by
 have hpl:ps.length<=N.length:=by have:=congrArg List.length S.pre;rw [List.length_take] at this;lia
 obtain ⟨h1,tk,rfl,hk⟩:=x.done;have noA:∀ b:Addr,b ∉ (Cz CX P w K mg base N qual scope f cd A outer s H E).ex:=fun b z=>absurd (show b∈([]:List Addr) from z) (by simp)
 refine ⟨⟨e0.mod,S.kind,rfl,rfl,Nat.le_refl _,fun y z c h1 h2=>?_,fun y hy=>?_,fun y c _ h=>?_,fun _=>hd,Around.frames_deeper e0.frames,.inr ⟨rfl,rfl⟩,fun b z=>absurd z (noA b),e0.bs,e0.bsz,fun b _ _=>noA b,fun b z=>absurd z (noA b),e0.funs,e0.frf⟩,
  rfl,e0.bare,Un.kept hk,⟨_,x.toInCall.ns,fun i y v h1 h2 h3=>?_⟩,fun y c h=>⟨_,x.cell y c h⟩,e0.hok.fresh (Nat.le_refl _),fun y c h=>?_,fun p hp=>absurd (show p∈([]:zR) from hp) (by simp),e0.hok.kept hk,?_⟩
 ·exact name_of_addr x.apart (PySem.mem_of_lookup h1) (PySem.mem_of_lookup h2)
 ·have hy:scope.names.lookup y=some .cell\/scope.names.lookup y=some .free:=hy
  rcases hy with hy|hy
  ·exact KY hy
  ·exact absurd rfl (S.nofree _ (PySem.mem_of_lookup hy))
 ·exact Nat.le_of_lt (x.above y c (PySem.mem_of_lookup h))
 ·have hi:i<vs.length:=by
   unfold Cm at h2;by_cases hi:i<vs.length
   ·exact hi
   ·rw [List.getElem?_append_right (by simpa using hi)] at h2
    rw [List.getElem?_replicate] at h2;split at h2 <;> cases h2
  have ha:vs[i]? = some v:=by
   unfold Cm at h2;rw [List.getElem?_append_left (by simpa using hi),List.getElem?_map] at h2
   cases e:vs[i]? with
   | none=>rw [e] at h2;cases h2
   | some a=>rw [e] at h2;cases h2;rfl
  obtain ⟨u,hu,rv⟩:=r.get ha;have hp:ps[i]? = some y:=by
   rw [← S.pre,List.getElem?_take_of_lt (by lia)];exact h1
  have ndP:ps.Nodup:=by rw [← S.pre];exact S.nd.sublist (List.take_sublist _ _)
  refine ⟨u,rv,?_⟩;rcases S.par y (List.mem_of_getElem? hp) with k|k
  ·exact .inl ⟨k,KN ndP hp hu k⟩
  ·obtain ⟨c,e⟩:=KY (n:=s.heap.objs.size+1) k
   refine .inr ⟨.inl k,c,e,?_⟩;have q:=x.cell y c e;rw [KL ndP hp hu (by show scope.names.lookup y≠_;rw [k];decide)] at q
   exact q
 ·exact e0.hok.fresh (Nat.le_of_lt (x.above y c (PySem.mem_of_lookup h)))
 ·unfold Cm
  show _=N.length;rw [List.length_append,List.length_map,List.length_replicate];lia
theorem K9 {CX:CA} {P:Program} {w:World} {K:zP} {mg:zQ} {base:Heap} {k:Nat} {f:Addr} {name qual:Str} {params:Arguments} {body:List Stmt} {scope:Scope} {dV kV doc pm cdv ct oc:Value} {an od:Option Addr}
  {osl:Array (Option Value)} {N ps:List Str} {sp:Sp} (lk:K.lookup f=some ⟨oc,od,.func (PySem.W.fnOf name qual params body scope dV kV doc pm an cdv ct),osl⟩) (hcd:PySem.W.codeIn K cdv qual=true) (S:qB N ps scope)
  (len:∀ vs H Q E,sp vs H Q E->vs.length=ps.length)
  (hbody:∀ (A:Around) (outer:List Env) (s:Shared) (H:Hp) (vs:List V) (Q:VK) (E:XK),As k (A.deeper (envOfC qual scope s.heap.objs.size f cdv))->sp vs H Q E ->
   ∃ t,BF (Cz CX P w K mg base N qual scope f cdv A outer s H E) body t/\t { nx:=fun _ H'=>Q .non H',rt:=Q } (Cm N vs) H) :
  Bh P w K mg base CX (k+1) f (PySem.W.fnOf name qual params body scope dV kV doc pm an cdv ct) ps sp:=by
 refine ⟨len,fun A outer s H args us vs Q E hr e0 hb r hsp=>?_⟩;have hl:=len _ _ _ _ hsp;have KX:K.In s.heap:=e0.mod.kin.keeps fun b o e=>(e0.bs b o e).1;have lim:s.heap.NoLimit:=e0.mod.nolimit.keeps fun b o e=>(e0.bs b o e).1;have hkind:∀ y∈ps.zip us,scope.names.lookup y.1=some .local\/(scope.names.lookup y.1=some .cell/\((cellsFrom (s.heap.objs.size+1) scope.names []).lookup y.1).isSome=true):=fun ⟨n,v⟩ hy=>by
  rcases S.par n (List.of_mem_zip hy).1 with q|q
  ·exact .inl q
  ·exact .inr ⟨q,PySem.W.cellsFrom_some _ _ _ (.inl q)⟩
 refine codeAny_call_function hr.depth (KX _ _ lk) rfl S.co S.gen rfl (PySem.W.codeRec_of KX hcd) (hb _ _ _ _ ?_);refine wpAny_newFunctionEnv_cells S.kind hkind fun env he s1 x=>?_;subst he;refine ⟨lim.keeps x.toInCall.keep,codeAny_func ?_⟩;obtain ⟨t,ht,hq⟩:=hbody A outer s H vs Q E (hr.deeper _) hsp;have I:AD (Cz CX P w K mg base N qual scope f cdv A outer s H E) [] (Cm N vs) H s1:=Uy S hr.hd e0 hl r x;refine wpAny_mono (ht [] s1 (Cm N vs) H _ I hq) (fun fl s' hs=>?_) fun e s' hs=>hs;have fin:∀ {σ':St} {H':Hp} {v:V} {u:Value},AD (Cz CX P w K mg base N qual scope f cdv A outer s H E) [] σ' H' s'->AU v u->Q v H'->CE outer P w H s Q u s' :=
  fun {σ' H' v u} J rv q=>⟨v,H',J.os,J.bare,J.base,J.hok,rv,q⟩
 cases fl with
 | ret u =>
  obtain ⟨v,σ',H',J,rv,q⟩:=hs;exact fin J rv q
 | next =>
  obtain ⟨σ',H',J,q⟩:=hs;exact fin (v:=V.non) (u:=Value.none) J rfl q
 | brk =>
  obtain ⟨_,_,_,q⟩:=hs;exact False.elim q
 | cont =>
  obtain ⟨_,_,_,q⟩:=hs;exact False.elim q
end L2
namespace L2
open PySem PySem.Spec PyProof.Rows
section
variable {X:Cx} {x:Str} {p pos:Pos} {e:Expr} {es:List Expr} {t:TA} {id T:String} {r:List V->Hp->VK->Prop}
def Oe (r:List V->Hp->VK->Prop) (t:TA):TE:=fun σ H Q=>t σ H fun vs H1=>r vs H1 Q
theorem qJ (hc:BO X (.builtin id) r) (hg:Gl X x) (hm:X.mg x=none) (hv:bootBuiltins x=some (.builtin id)) (ha:PA X (e::es) t) (hn:x≠"__name__":=by decide) (hdb:(x==("__debug__":Str))=false:=by decide)
  (he:starEach (e::es) X.env=(false,eval e X.env)::starEach es X.env:=by rfl) (hpl:(backTo pos (starEach es X.env)).any (·.1)=false:=by rfl):PE X (.Call (.Name x p) (e::es) [] pos) (Oe r t):=by
 intro pins s σ H Q I h;refine wpAny_Call_Name_kw (FS I hg hm hv ?_ hn hdb);exact PyProof.Rows.callWith_builtin1 (AQ (ha pos pins s σ H _ I h) fun us s1 ⟨vs,H1,I1,r1,q1⟩=>hc pins s1 σ H1 vs us Q I1 r1 q1) he hpl
theorem zG (hc:BO X (.type T) r) (hg:Gl X x) (hm:X.mg x=none) (hv:bootBuiltins x=some (.type T)) (ha:PA X (e::es) t) (hn:x≠"__name__":=by decide) (hdb:(x==("__debug__":Str))=false:=by decide)
  (he:starEach (e::es) X.env=(false,eval e X.env)::starEach es X.env:=by rfl) (hpl:(backTo pos (starEach es X.env)).any (·.1)=false:=by rfl):PE X (.Call (.Name x p) (e::es) [] pos) (Oe r t):=by
 intro pins s σ H Q I h;refine wpAny_Call_Name_kw (FS I hg hm hv ?_ hn hdb);exact PyProof.Rows.callWith_type1 (AQ (ha pos pins s σ H _ I h) fun us s1 ⟨vs,H1,I1,r1,q1⟩=>hc pins s1 σ H1 vs us Q I1 r1 q1) he hpl
end
end L2
namespace HT
open PySem PyProof.Rows
noncomputable def lexLt:List Int->List Int->Bool
 | [],[]=>false
 | [],_::_=>true
 | _::_,[]=>false
 | x::xs,y::ys=>if x=y then lexLt xs ys else decide (x<y)
section
open PySem.SeqAt
open PySem.AutoSeq1 (wpAny_loadPart')
open PySem.MeetsSeq PySem.MeetsSeq2 PySem.MeetsSeq3
end
section
variable {prog:Program} {w:World} {A:Around} {E:Value->Shared->Prop} {s:Shared}
noncomputable def sIx (n d:Nat):Option Int->Nat
 | none=>d
 | some v=>if v<0 then (v+(n:Int)).toNat else min v.toNat n
theorem XR (n d:Nat) (hd:d<=n) (o:Option Int):sIx n d o<=n:=by
 cases o with
 | none=>exact hd
 | some v =>
  show (if v<0 then (v+(n:Int)).toNat else min v.toNat n)<=n
  by_cases hv:v<0
  ·rw [if_pos hv];lia
  ·rw [if_neg hv];exact Nat.min_le_right _ _
theorem KZ (v:Int) (n d:Nat):(if v<0 then max (v+(n:Int)) 0 else min v (n:Int))=((sIx n d (some v):Nat):Int):=by
 show (if v<0 then max (v+(n:Int)) 0 else min v (n:Int))=(((if v<0 then (v+(n:Int)).toNat else min v.toNat n):Nat):Int)
 by_cases hv:v<0
 ·simp only [if_pos hv];lia
 ·simp only [if_neg hv];lia
theorem PJ (lo hi:Option Int) (n:Nat):Builtin.Slice.sliceAdjust lo hi 1 (n:Int)=(((sIx n 0 lo:Nat):Int),((sIx n n hi:Nat):Int)):=by
 have h1:¬ ((1:Int)<0):=by lia
 unfold Builtin.Slice.sliceAdjust;simp only [h1,if_false];refine Prod.ext ?_ ?_
 ·cases lo with
  | none=>rfl
  | some v=>exact KZ v n 0
 ·cases hi with
  | none=>rfl
  | some v=>exact KZ v n n
theorem Wp (i j:Nat):Builtin.Slice.slicePlaces (i:Int) (j:Int) 1=j-i:=by
 unfold Builtin.Slice.slicePlaces;have h1:(1:Int)>0:=by lia
 simp only [h1,if_true,Int.ediv_one];split <;> lia
theorem Oa {v:Value} {o:Option Int} {Q:Option Int->Shared->Prop} (p:IsPart v o) (h:Q o s):wpAny (model prog w) A (Builtin.Slice.slicePartIndex v) Q E s:=by
 cases p with
 | none=>exact slicePart_none h
 | int i t=>exact slicePart_int h
theorem OZ {sl:Addr} {vl vu:Value} {lo hi:Option Int} {n:Nat} {Q:Int × Int × Nat->Shared->Prop} (hs:s.heap.IsSliceOf sl vl vu .none) (pl:IsPart vl lo) (pu:IsPart vu hi)
  (h:Q (((sIx n 0 lo:Nat):Int),1,sIx n n hi-sIx n 0 lo) s):wpAny (model prog w) A (Builtin.Slice.sliceApplied (.ref sl) (pure (n:Int))) Q E s:=by
 obtain ⟨os,hos,hcs,hds⟩:=id hs;unfold Builtin.Slice.sliceApplied Builtin.Slice.sliceFields;refine wpAny_bind (wpAny_bind (wpAny_field hos hds (x:=vl) rfl (wpAny_bind (wpAny_field hos hds (x:=vu) rfl (wpAny_bind (wpAny_field hos hds (x:=.none) rfl (wpAny_pure ?_)))))));refine wpAny_bind (slicePart_none ?_);show wpAny _ _ (if ((1:Int)==0)=true then _ else _) _ _ s
 rw [if_neg (by decide)]
 refine wpAny_bind (Oa pl (wpAny_bind (Oa pu (wpAny_bind (wpAny_pure ?_)))));show wpAny _ _ (match Builtin.Slice.sliceAdjust lo hi 1 (n:Int) with|(lo,hi)=>pure (lo,(1:Int),Builtin.Slice.slicePlaces lo hi 1)) _ _ s
 rw [PJ lo hi n];show wpAny _ _ (pure (((sIx n 0 lo:Nat):Int),(1:Int),Builtin.Slice.slicePlaces ((sIx n 0 lo:Nat):Int) ((sIx n n hi:Nat):Int) 1)) _ _ s;rw [Wp];exact wpAny_pure h
theorem Wo (xs:Array Value) (i k:Nat):((List.range k).filterMap fun (m:Nat)=>xs[((i:Int)+(m:Int)*1).toNat]?).toArray=((xs.toList.drop i).take k).toArray:=by
 have e:(fun (m:Nat)=>xs[((i:Int)+(m:Int)*1).toNat]?)=fun m=>xs[i+m]?:=by
  funext m;have:((i:Int)+(m:Int)*1).toNat=i+m:=by lia
  rw [this]
 rw [e];have:=pick_run xs i k;rw [List.filterMap_map] at this;have e2:((fun x=>xs[x]?) ∘ fun x=>i+x)=fun m=>xs[i+m]?:=rfl;rw [e2] at this;rw [this]
theorem getItem_tuple_cut {t sl:Addr} {items:Array Value} {vl vu:Value} {lo hi:Option Int} {Q:Value->Shared->Prop} (ht:IsTup s.heap t items) (hs:s.heap.IsSliceOf sl vl vu .none) (pl:IsPart vl lo) (pu:IsPart vu hi)
  (hw:¬ (sIx items.size 0 lo=0/\sIx items.size items.size hi=items.size))
  (h:Q (.ref s.heap.objs.size) { s with heap:=s.heap.push { cls:=.type "tuple",data:=.seq ((items.toList.drop (sIx items.size 0 lo)).take (sIx items.size items.size hi-sIx items.size 0 lo)).toArray } })
  (hsz:items.size<=sizeLine):wpAny (model prog w) A (getItem (.ref t) (.ref sl)) Q E s:=by
 have htake:sizeOk (.seq ((items.toList.drop (sIx items.size 0 lo)).take (sIx items.size items.size hi-sIx items.size 0 lo)).toArray):=by
  show ((items.toList.drop (sIx items.size 0 lo)).take (sIx items.size items.size hi-sIx items.size 0 lo)).toArray.size<=sizeLine;rw [List.size_toArray,List.length_take,List.length_drop,Array.length_toList];lia
 have hj:sIx items.size items.size hi<=items.size:=XR _ _ (Nat.le_refl _) hi;obtain ⟨os,hos,hcs,hds⟩:=id hs;have hTs:s.TypeIs (.ref sl) "slice":=⟨os,hos,hcs⟩;unfold getItem
 try with_reducible refine wpAny_holding ?_
 first|refine wpAny_bind (wpAny_pure ?_)|skip
 refine wpAny_bind (wpAny_sequenceKey ht.typeIs (by decide) ?_)
 refine wpAny_bind (wpAny_callSpecial?_slot (name:=Str.ofString "__getitem__") ht.typeIs PyProof.Rows.slot_tuple_getitem
  (wpAny_call_entry PyProof.Rows.slot_tuple_getitem ht.typeIs entry_tuple_getitem ?_ (args_tuple_getitem _ _)))
 show wpAny _ _ (Builtin.Tuple.tupleItemsOf (.ref t)>>=_) _ _ s;refine wpAny_bind (tupleItemsOf_ ht ?_);refine wpAny_bind (wpAny_typeOf hTs ?_);rw [if_pos (by decide)]
 refine wpAny_bind (OZ hs pl pu ?_);have hno:¬ ((((sIx items.size 0 lo:Nat):Int)==0&&(1:Int)==1&&(sIx items.size items.size hi-sIx items.size 0 lo)==items.size)=true):=by
  intro q;rw [Bool.and_eq_true,Bool.and_eq_true] at q;have q1:((sIx items.size 0 lo:Nat):Int)=0:=eq_of_beq q.1.1;have q2:sIx items.size items.size hi-sIx items.size 0 lo=items.size:=eq_of_beq q.2;exact hw ⟨by lia,by lia⟩
 show wpAny _ _ (if (((sIx items.size 0 lo:Nat):Int)==0&&(1:Int)==1&&(sIx items.size items.size hi-sIx items.size 0 lo)==items.size)=true then _ else _) _ _ s
 rw [if_neg hno,Wo]
 first
  | exact wpAny_bind (m:=Builtin.Tuple.tupleExact _) (wpAny_newObj_type (wpAny_pure ⟨_,rfl,wpAny_pure h⟩) htake)
  | exact wpAny_bind (m:=Builtin.Tuple.tupleExact _) (wpAny_newObj_type (wpAny_bind (wpAny_pure (wpAny_pure ⟨_,rfl,wpAny_pure h⟩))) htake)
  | exact wpAny_bind (wpAny_bind (m:=Builtin.Tuple.tupleExact _) (wpAny_newObj_type (wpAny_pure (wpAny_pure ⟨_,rfl,wpAny_pure h⟩)) htake))
  | exact wpAny_bind (wpAny_bind (m:=Builtin.Tuple.tupleExact _) (wpAny_newObj_type (wpAny_pure ⟨_,rfl,wpAny_pure h⟩) htake))
end
end HT
namespace L2
open PySem PySem.Spec PyProof.Rows
abbrev TO:=St->Hp->(Option Int->Hp->Prop)->Prop
def PO (X:Cx) (e:Option Expr) (t:TO):Prop :=
 ∀ (pins:zR) (s:Shared) (σ:St) (H:Hp) (Q:Option Int->Hp->Prop),AD X pins σ H s->t σ H Q ->
  wpAny (model X.prog X.w) X.A (evalPart e X.env) (fun u s'=>∃ o H',AD X pins σ H' s'/\IsPart u o/\Q o H') X.xe s
def ax:TO:=fun _ H Q=>Q none H
def bF (t:TE):TO:=fun σ H Q=>t σ H fun x H1=>∃ i,x = .int i/\Q (some i) H1
theorem LH {ns:List Int}:∀ {us:List Value},AW (ns.map V.int) us->IntsAre us ns:=by
 induction ns with
 | nil=>intro us r;rw [List.map_nil] at r;cases r;exact .nil
 | cons n ns ih =>
  intro us r;rw [List.map_cons] at r;cases r with
  | cons r1 r2 =>
   obtain ⟨t,e⟩:=r1;subst e;exact .cons n t (ih r2)
section
variable {X:Cx} {e:Expr} {te:TE} {lo hi:Option Expr} {tl th:TO} {pos p2:Pos}
theorem Ej:PO X none ax:=by
 intro pins s σ H Q I h;rw [evalPart_none];exact wpAny_pure ⟨none,H,I,.none,h⟩
theorem Ek (h:PE X e te):PO X (some e) (bF te):=by
 intro pins s σ H Q I hw;rw [evalPart_some];refine AQ (h pins s σ H _ I hw) fun u s1 ⟨x,H1,I1,r1,q1⟩=>?_;obtain ⟨i,rfl,q⟩:=q1;obtain ⟨t,rfl⟩:=r1;exact ⟨some i,H1,I1,.int i t,q⟩
def GU (X:Cx) (r:V->Option Int->Option Int->Hp->VK->Prop):Prop :=
 ∀ (pins:zR) (s:Shared) (σ:St) (H:Hp) (x:V) (v vl vu:Value) (lo hi:Option Int) (sl:Addr) (Q:VK),AD X pins σ H s->AU x v->s.heap.IsSliceOf sl vl vu .none->IsPart vl lo->IsPart vu hi->r x lo hi H Q ->
  ∃ T id,typeLookup (.type T) "__getitem__" = pure (some (.builtin id))/\s.TypeIs v T/\wpAny (model X.prog X.w) X.A (getItem v (.ref sl)) (EP X pins σ Q) X.xe s
def bJ (r:V->Option Int->Option Int->Hp->VK->Prop) (te:TE) (tl th:TO):TE:=fun σ H Q=>te σ H fun x H1=>tl σ H1 fun l H2=>th σ H2 fun u H3=>r x l u H3 Q
theorem Eh {r:V->Option Int->Option Int->Hp->VK->Prop} (hr:GU X r) (he:PE X e te) (hl:PO X lo tl) (hu:PO X hi th):PE X (.Subscript e (.Slice lo hi none p2) pos) (bJ r te tl th):=by
 intro pins s σ H Q I h;refine Subscript_ (AQ (he pins s σ H _ I h) fun v s1 ⟨x,H1,I1,r1,q1⟩=>?_);refine wpAny_Slice (AQ (hl pins s1 σ H1 _ I1 q1) fun vl s2 ⟨l,H2,I2,pl,q2⟩=>AQ (hu pins s2 σ H2 _ I2 q2) fun vu s3 ⟨u,H3,I3,pu,q3⟩=>?_);rw [evalPart_none];refine wpAny_pure ?_;have I4:AD X pins σ H3 { s3 with heap:=s3.heap.push { cls:=.type "slice",data:=.fields #[vl,vu,.none] } }:=I3.kept (t':=s3.toks) fun b ob q=>Heap.get?_push_of_some _ q
 obtain ⟨T,id,hT,ht,hg⟩:=hr pins { s3 with heap:=s3.heap.push { cls:=.type "slice",data:=.fields #[vl,vu,.none] } } σ H3 x v vl vu l u s3.heap.objs.size Q I4 r1 (Heap.IsSliceOf.new ..) pl pu q3
 show wpAny (model X.prog X.w) X.A (subscriptTail e (.Slice lo hi none p2) v (.ref s3.heap.objs.size)) (EP X pins σ Q) X.xe { s3 with heap:=s3.heap.push { cls:=.type "slice",data:=.fields #[vl,vu,.none] } }
 exact tail_any (ops:=[.ref s3.heap.objs.size,v]) ht hT hg (by with_unfolding_all rfl)
noncomputable def AY (xs:List V) (lo hi:Option Int):List V:=(xs.drop (HT.sIx xs.length 0 lo)).take (HT.sIx xs.length xs.length hi-HT.sIx xs.length 0 lo)
theorem Ke (xs:List V) (lo hi:Option Int):(AY xs lo hi).length<=xs.length:=by
 unfold AY;rw [List.length_take,List.length_drop];lia
def XD (K:zP):V->Option Int->Option Int->Hp->VK->Prop:=fun x lo hi H Q=>∃ a xs,x = .ref a/\AH K H a xs /\
 ¬ (HT.sIx xs.length 0 lo=0/\HT.sIx xs.length xs.length hi=xs.length)/\∀ p,H p=none->Q (.ref p) (AC H p (.tup (AY xs lo hi)))
theorem Ym:GU X (XD X.K):=by
 intro pins s σ H x v vl vu lo hi sl Q I rx hs pl pu h;obtain ⟨a,xs,rfl,hx,hw,q⟩:=h;cases rx;obtain ⟨its,r,ht,hz⟩:=I.tuple hx;have hlen:its.toArray.size=xs.length:=by rw [List.size_toArray];exact r.length.symm
 refine ⟨"tuple",_,PyProof.Rows.slot_tuple_getitem.lookup,ht.typeIs,?_⟩;refine HT.getItem_tuple_cut ht hs pl pu (by rw [hlen];exact hw) ?_ (by rw [hlen];exact hz)
 rw [hlen];refine ⟨.ref s.heap.objs.size,_,I.laid (t':=s.toks) (o:=.tup (AY xs lo hi)) (fun b ob q=>Heap.get?_push_of_some _ q) (Nat.le_refl _) ?_,rfl,q _ (I.hok.fresh (Nat.le_refl _))⟩;exact ⟨Nat.le_trans (Ke xs lo hi) hz,_,(r.drop (HT.sIx xs.length 0 lo)).take (HT.sIx xs.length xs.length hi-HT.sIx xs.length 0 lo),IsTup.new _ _⟩
end
end L2
namespace L2
open PySem PySem.Spec PyProof.Rows
noncomputable def EA (n:Nat) (i:Int):Option Nat:=if 0<=i then (if i<n then some i.toNat else none) else if -(n:Int)<=i then some (i+n).toNat else none
noncomputable def A1 {α:Type} (xs:List α) (i:Int):Option α:=(EA xs.length i).bind fun j=>xs[j]?
theorem U0 {n:Nat} {i:Int} {j:Nat} (h:EA n i=some j):seqIndex? i n=some j/\j<n/\-(n:Int)<=i/\i<n:=by
 unfold EA at h;by_cases h0:0<=i
 ·rw [if_pos h0] at h
  by_cases h1:i<n
  ·rw [if_pos h1] at h
   have e:i.toNat=j:=Option.some.inj h;exact ⟨by rw [seqIndex_of h0 h1,e],by lia,by lia,h1⟩
  ·rw [if_neg h1] at h;cases h
 ·rw [if_neg h0] at h
  by_cases h1:-(n:Int)<=i
  ·rw [if_pos h1] at h
   have e:(i+n).toNat=j:=Option.some.inj h;exact ⟨by rw [seqIndex_neg (by lia) h1,e],by lia,h1,by lia⟩
  ·rw [if_neg h1] at h;cases h
theorem ID {α:Type} {xs:List α} {i:Int} {v:α} (h:A1 xs i=some v):∃ j,seqIndex? i xs.length=some j/\xs[j]? = some v/\j<xs.length/\-(xs.length:Int)<=i/\i<xs.length:=by
 unfold A1 at h;cases e:EA xs.length i with
 | none=>rw [e] at h;cases h
 | some j =>
  rw [e] at h;obtain ⟨h1,h2,h3,h4⟩:=U0 e;exact ⟨j,h1,h,h2,h3,h4⟩
theorem Cy {α:Type} {xs:List α} {j:Nat} {v:α} (h:xs[j]? = some v):A1 xs (j:Int)=some v:=by
 have hj:j<xs.length:=(List.getElem?_eq_some_iff.mp h).1;have e:EA xs.length (j:Int)=some j:=by
  unfold EA;rw [if_pos (by lia),if_pos (by lia)];simp
 unfold A1;rw [e];exact h
theorem KH {α:Type} (xs:List α) (v:α):A1 (xs++[v]) (-1)=some v:=by
 have hl:(xs++[v]).length=xs.length+1:=by simp
 have e:EA (xs++[v]).length (-1)=some xs.length:=by
  unfold EA;rw [hl,if_neg (by decide),if_pos (by lia)]
  congr 1;lia
 unfold A1;rw [e];show (xs++[v])[xs.length]? = some v;simp
def PD (b:Expr):Prop:=∀ o i,subscripted b false o i=operate [o,i] (getItem o i)
def Ey (X:Cx) (r:R2):Prop :=
 ∀ (value slice:Expr) (pins:zR) (s:Shared) (σ:St) (H:Hp) (x y:V) (v u:Value) (Q:VK),AD X pins σ H s->AU x v->AU y u->r x y H Q ->
  subscripted slice false v u=operate [v,u] (getItem v u)->wpAny (model X.prog X.w) X.A (subscriptTail value slice v u) (EP X pins σ Q) X.xe s
def J2 (X:Cx) (id:String) (r:V->List V->Hp->VK->Prop):Prop :=
 ∀ (pins:zR) (s:Shared) (σ:St) (H:Hp) (x:V) (xs:List V) (v:Value) (us:List Value) (Q:VK),AD X pins σ H s->AU x v->AW xs us->r x xs H Q ->
  wpAny (model X.prog X.w) X.A (call (.builtin id) (v::us)) (EP X pins σ Q) X.xe s
section
variable {X:Cx} {a b:Expr} {ta tb:TE} {pos:Pos}
theorem qD {r:R2} (hr:Ey X r) (ha:PE X a ta) (hb:PE X b tb) (hs:PD b):PE X (.Subscript a b pos) (Es r ta tb):=by
 intro pins s σ H Q I h;exact Subscript_ (IG ha hb I h fun v u s2 x y H2 I2 rx ry q=>hr a b pins s2 σ H2 x y v u Q I2 rx ry q (hs _ _))
def HI (K:zP):R2:=fun x y H Q=>∃ p xs i v,x = .ref p/\y = .int i/\AF K H p xs/\A1 xs i=some v/\Q v H
def Lo (K:zP):R2:=fun x y H Q=>∃ p xs i v,x = .ref p/\y = .int i/\AH K H p xs/\A1 xs i=some v/\Q v H
theorem qY:Ey X (HI X.K):=by
 intro value slice pins s σ H x y v u Q I rx ry h hs;obtain ⟨p,xs,i,z,rfl,rfl,hq,he,q⟩:=h;cases rx;obtain ⟨t,rfl⟩:=ry;obtain ⟨its,r,pl,hz⟩:=I.list hq;obtain ⟨j,h1,h2,h3,h4,h5⟩:=ID he;obtain ⟨w,ew,rw'⟩:=r.get h2;have hl:=r.length;have hn:=Im;have fin:EP X pins σ Q w s:=⟨z,H,I,rw',q⟩;by_cases h0:0<=i
 ·have hj:i.toNat=j:=by
   rw [seqIndex_of h0 h5] at h1;exact Option.some.inj h1
  exact item_listR pl.isList h0 (by lia) (by rw [hj];simpa using ew) fin hs
 ·have hj:(i+(its.toArray.size:Int)).toNat=j:=by
   rw [seqIndex_neg (by lia) h4] at h1
   rw [List.size_toArray,← hl];exact Option.some.inj h1
  exact subscriptTail_builtinR (x:=w) pl.isList.typeIs slot_list_getitem.lookup
   (wpAny_getItem_list_neg (Q:=fun r s'=>r=w/\EP X pins σ Q r s') pl.isList (by lia) (by rw [List.size_toArray] <;> lia) (by lia) (by rw [hj];simpa using ew) ⟨rfl,fin⟩) hs
theorem iT:Ey X (Lo X.K):=by
 intro value slice pins s σ H x y v u Q I rx ry h hs;obtain ⟨p,xs,i,z,rfl,rfl,hq,he,q⟩:=h;cases rx;obtain ⟨t,rfl⟩:=ry;obtain ⟨its,r,pl,hz⟩:=I.tuple hq;obtain ⟨j,h1,h2,h3,h4,h5⟩:=ID he;obtain ⟨w,ew,rw'⟩:=r.get h2;have hl:=r.length;have hn:=Im;have fin:EP X pins σ Q w s:=⟨z,H,I,rw',q⟩;exact subscriptTail_builtinR (x:=w) pl.typeIs slot_tuple_getitem.lookup
  (getItem_tuple (j:=j) (Q:=fun r s'=>r=w/\EP X pins σ Q r s') pl (by lia) (by lia) (by rw [List.size_toArray,← hl];exact h1) (by simpa using ew) ⟨rfl,fin⟩) hs
theorem Yo (lo hi:Option Int) (n:Nat):(sliceBounds lo hi none n).1=((HT.sIx n 0 lo:Nat):Int)/\(sliceBounds lo hi none n).2.1=((HT.sIx n n hi:Nat):Int)/\(sliceBounds lo hi none n).2.2=1:=by
 refine ⟨?_,?_,rfl⟩
 ·cases lo with
  | none=>simp [sliceBounds,HT.sIx]
  | some i =>
   simp only [sliceBounds,HT.sIx,Option.getD_none,show (1:Int)>0 by decide,if_true]
   by_cases h:i<0
   ·simp only [h,if_true] <;> lia
   ·simp only [h,if_false] <;> lia
 ·cases hi with
  | none=>simp [sliceBounds,HT.sIx]
  | some i =>
   simp only [sliceBounds,HT.sIx,Option.getD_none,show (1:Int)>0 by decide,if_true]
   by_cases h:i<0
   ·simp only [h,if_true] <;> lia
   ·simp only [h,if_false] <;> lia
theorem Yn (its:List Value) (lo hi:Option Int):slicePick its.toArray lo hi none=((its.drop (HT.sIx its.length 0 lo)).take (HT.sIx its.length its.length hi-HT.sIx its.length 0 lo)).toArray:=by
 obtain ⟨h1,h2,h3⟩:=Yo lo hi its.toArray.size;unfold slicePick;rw [h1,h2,h3];simp only [sliceRange_one,pick_run,List.size_toArray] <;> rfl
def XC (K:zP):V->Option Int->Option Int->Hp->VK->Prop:=fun x lo hi H Q=>∃ a xs,x = .ref a/\AF K H a xs/\∀ p,H p=none->Q (.ref p) (AC H p (.lst (AY xs lo hi)))
theorem GJ:GU X (XC X.K):=by
 intro pins s σ H x v vl vu lo hi sl Q I rx hs pl pu h;obtain ⟨a,xs,rfl,hx,q⟩:=h;cases rx;obtain ⟨its,r,ht,hz⟩:=I.list hx;have hlen:=r.length;refine ⟨"list",_,slot_list_getitem.lookup,ht.isList.typeIs,?_⟩;refine wpAny_getItem_list_slice ht.isList hs pl pu .none (by simp) ?_ (by rw [List.size_toArray] <;> lia)
 rw [Yn,← hlen];refine ⟨.ref s.heap.objs.size,_,I.laid (t':=s.toks) (o:=.lst (AY xs lo hi)) (fun b ob q=>Heap.get?_push_of_some _ q) (Nat.le_refl _) ?_,rfl,q _ (I.hok.fresh (Nat.le_refl _))⟩;exact ⟨Nat.le_trans (Ke xs lo hi) hz,_,0,(r.drop (HT.sIx xs.length 0 lo)).take (HT.sIx xs.length xs.length hi-HT.sIx xs.length 0 lo),Heap.get?_push_size _ rfl⟩
noncomputable def BV:V->Bool
 | .non=>true
 | .bl _=>true
 | .int _=>true
 | .str _=>true
 | _=>false
noncomputable def CM:V->V->Bool
 | .non,.non=>true
 | .bl a,.bl b=>a==b
 | .bl a,.int b=>(if a then 1 else 0)==b
 | .int a,.bl b=>a==(if b then 1 else 0)
 | .int a,.int b=>a==b
 | .str a,.str b=>a==b
 | _,_=>false
theorem Fu {A:Around} {s:Shared} {y x:V} {u v:Value} (ry:AU y u) (rx:AU x v) (fy:BV y=true) (fx:BV x=true):SeqAt.EqAt A s u v (CM y x):=by
 cases y with
 | non =>
  cases ry;cases x with
  | non=>cases rx;exact SeqAt.EqAt.same _
  | bl b=>cases rx;exact SeqAt.EqAt.none_bool b
  | int b=>obtain ⟨t,rfl⟩:=rx;exact SeqAt.EqAt.none_int b t
  | str b=>obtain ⟨t,rfl⟩:=rx;exact SeqAt.EqAt.none_str b t
  | _=>exact absurd (show false=true from fx) Bool.false_ne_true
 | bl a =>
  cases ry;cases x with
  | non=>cases rx;exact SeqAt.EqAt.bool_none a
  | bl b=>cases rx;exact SeqAt.EqAt.bool_bool a b
  | int b=>obtain ⟨t,rfl⟩:=rx;exact SeqAt.EqAt.bool_int a b t
  | str b=>obtain ⟨t,rfl⟩:=rx;exact SeqAt.EqAt.bool_str a b t
  | _=>exact absurd (show false=true from fx) Bool.false_ne_true
 | int a =>
  obtain ⟨t',rfl⟩:=ry;cases x with
  | non=>cases rx;exact SeqAt.EqAt.int_none a t'
  | bl b=>cases rx;exact SeqAt.EqAt.int_bool a t' b
  | int b=>obtain ⟨t,rfl⟩:=rx;exact SeqAt.EqAt.int_int a t' b t
  | str b=>obtain ⟨t,rfl⟩:=rx;exact SeqAt.EqAt.int_str a t' b t
  | _=>exact absurd (show false=true from fx) Bool.false_ne_true
 | str a =>
  obtain ⟨t',rfl⟩:=ry;cases x with
  | non=>cases rx;exact SeqAt.EqAt.str_none a t'
  | bl b=>cases rx;exact SeqAt.EqAt.str_bool a t' b
  | int b=>obtain ⟨t,rfl⟩:=rx;exact SeqAt.EqAt.str_int a t' b t
  | str b=>obtain ⟨t,rfl⟩:=rx;exact SeqAt.EqAt.str_str a t' b t
  | _=>exact absurd (show false=true from fx) Bool.false_ne_true
 | _=>exact absurd (show false=true from fy) Bool.false_ne_true
noncomputable def Bw (x:V) (u:Value):Bool:=match u with
 | .none=>CM .non x
 | .bool b=>CM (.bl b) x
 | .int i _=>CM (.int i) x
 | .str z _=>CM (.str z) x
 | _=>false
theorem K5 {x y:V} {u:Value} (r:AU y u) (f:BV y=true):Bw x u=CM y x:=by
 cases y with
 | non=>cases r;rfl
 | bl b=>cases r;rfl
 | int i=>obtain ⟨t,rfl⟩:=r;rfl
 | str z=>obtain ⟨t,rfl⟩:=r;rfl
 | _=>exact absurd (show false=true from f) Bool.false_ne_true
theorem Fm {x:V}:∀ {xs:List V} {us:List Value},AW xs us->xs.all BV=true->us.any (Bw x)=xs.any fun y=>CM y x
 | _,_,.nil,_=>rfl
 | y::xs,u::us,.cons r t,f=>by
  rw [List.all_cons,Bool.and_eq_true] at f;rw [List.any_cons,List.any_cons,K5 r f.1,Fm t f.2]
theorem Fx {A:Around} {s:Shared} {x:V} {v:Value} (rx:AU x v) (fx:BV x=true):∀ {xs:List V} {us:List Value},AW xs us->xs.all BV=true->∀ u∈us,SeqAt.EqAt A s u v (Bw x u)
 | _,_,.nil,_=>fun u hu=>by cases hu
 | y::xs,u::us,.cons r t,f=>fun u' hu=>by
  rw [List.all_cons,Bool.and_eq_true] at f;rcases List.mem_cons.mp hu with rfl|hu
  ·rw [K5 r f.1];exact Fu r rx f.1 fx
  ·exact Fx rx fx t f.2 u' hu
noncomputable def Aq (x:V) (xs:List V):Bool:=xs.any fun y=>CM y x
def HH (K:zP) (neg:Bool):R2:=fun x y H Q=>∃ p xs,y = .ref p/\(AF K H p xs\/AH K H p xs)/\BV x=true/\xs.all BV=true/\Q (.bl (if neg then !Aq x xs else Aq x xs)) H
theorem Gw:A6 X (compareOp .In) (HH X.K false):=by
 intro pins s σ H x y v u Q I rx ry h;obtain ⟨p,xs,rfl,hq,fx,fs,q⟩:=h;cases ry;rcases hq with hq|hq
 ·obtain ⟨its,r,pl,hz⟩:=I.list hq
  refine SeqAt.in_listAt (Bw x) pl.isList (fun w hw=>Fx rx fx r fs w (by simpa using hw)) ⟨.bl _,H,I,rfl,?_⟩
  rw [show its.toArray.any (Bw x)=its.any (Bw x) by simp,Fm r fs]
  exact q
 ·obtain ⟨its,r,pl,hz⟩:=I.tuple hq
  refine SeqAt.in_tupleAt (Bw x) pl (fun w hw=>Fx rx fx r fs w (by simpa using hw)) ⟨.bl _,H,I,rfl,?_⟩
  rw [show its.toArray.any (Bw x)=its.any (Bw x) by simp,Fm r fs]
  exact q
theorem Iw:A6 X (compareOp .NotIn) (HH X.K true):=by
 intro pins s σ H x y v u Q I rx ry h;obtain ⟨p,xs,rfl,hq,fx,fs,q⟩:=h;cases ry;rcases hq with hq|hq
 ·obtain ⟨its,r,pl,hz⟩:=I.list hq
  refine SeqAt.notIn_listAt (Bw x) pl.isList (fun w hw=>Fx rx fx r fs w (by simpa using hw)) ⟨.bl _,H,I,rfl,?_⟩
  rw [show its.toArray.any (Bw x)=its.any (Bw x) by simp,Fm r fs]
  exact q
 ·obtain ⟨its,r,pl,hz⟩:=I.tuple hq
  refine SeqAt.notIn_tupleAt (Bw x) pl (fun w hw=>Fx rx fx r fs w (by simpa using hw)) ⟨.bl _,H,I,rfl,?_⟩
  rw [show its.toArray.any (Bw x)=its.any (Bw x) by simp,Fm r fs]
  exact q
theorem qL:BO X (.builtin "len") (fun xs H Q=>∃ p ys,xs=[.ref p]/\(AF X.K H p ys\/AH X.K H p ys)/\Q (.int ys.length) H):=by
 intro pins s σ H xs us Q I r h;obtain ⟨p,ys,rfl,hq,q⟩:=h;obtain ⟨u,rfl,rx⟩:=DC r;cases rx;have hn:=Im;rcases hq with hq|hq
 ·obtain ⟨its,r',pl,hz⟩:=I.list hq
  have hlen:=r'.length;exact Calls.call_len_list pl.isList (by simp only [List.size_toArray] <;> lia) ⟨.int ys.length,H,I.tok _,⟨s.toks+1,by rw [List.size_toArray,hlen]⟩,q⟩
 ·obtain ⟨its,r',pl,hz⟩:=I.tuple hq
  have hlen:=r'.length;exact len_tuple pl (by simp only [List.size_toArray] <;> lia) ⟨.int ys.length,H,I.tok _,⟨s.toks+1,by rw [List.size_toArray,hlen]⟩,q⟩
theorem FG:BO X (.type "list") (fun xs H Q=>∃ p ys,xs=[.ref p]/\(AF X.K H p ys\/AH X.K H p ys)/\∀ l,H l=none->Q (.ref l) (AC H l (.lst ys))):=by
 intro pins s σ H xs us Q I r h;obtain ⟨p,ys,rfl,hq,q⟩:=h;obtain ⟨u,rfl,rx⟩:=DC r;cases rx;have fin:∀ (its:List Value),AW ys its->ys.length<=sizeLine->∀ (h':Heap) (c':Nat),(∀ b o',s.heap.get? b=some o'->h'.get? b=some o') ->
   h'.get? s.heap.objs.size=some { cls:=.type "list",dict:=none,data:=.seq its.toArray c',slots:=#[] }->EP X pins σ Q (.ref s.heap.objs.size) { s with heap:=h' }:=fun its r' hz h' c' kp e =>
  ⟨.ref s.heap.objs.size,_,I.laid (t':=s.toks) kp (Nat.le_refl _) (show Av X.prog X.w _ h' _ (.lst ys) from ⟨hz,its,c',r',e⟩),rfl,q _ (I.hok.fresh (Nat.le_refl _))⟩
 rcases hq with hq|hq
 ·obtain ⟨its,r',pl,hz⟩:=I.list hq
  have hlen:=r'.length;obtain ⟨o,ho,hc,n,hd⟩:=pl.isList;exact call_list_seq p (.inl rfl) ho hc hd (fun h' c' kp e=>fin its r' hz h' c' kp e) (by simp only [List.size_toArray] <;> lia)
 ·obtain ⟨its,r',pl,hz⟩:=I.tuple hq
  have hlen:=r'.length;obtain ⟨o,ho,hc,n,hd⟩:=pl;exact call_list_seq p (.inr rfl) ho hc hd (fun h' c' kp e=>fin its r' hz h' c' kp e) (by simp only [List.size_toArray] <;> lia)
theorem FH:BO X (.type "tuple") (fun xs H Q=>∃ p ys,xs=[.ref p]/\((AF X.K H p ys/\∀ l,H l=none->Q (.ref l) (AC H l (.tup ys)))\/(AH X.K H p ys/\Q (.ref p) H))):=by
 intro pins s σ H xs us Q I r h;obtain ⟨p,ys,rfl,h⟩:=h;obtain ⟨u,rfl,rx⟩:=DC r;cases rx;rcases h with ⟨hq,q⟩|⟨hq,q⟩
 ·obtain ⟨its,r',pl,hz⟩:=I.list hq
  have hlen:=r'.length;refine call_tuple_list pl.isList (fun h' kp=>?_) (by simp only [List.size_toArray] <;> lia)
  have I1:AD X pins σ H { s with heap:=h' }:=I.kept (t':=s.toks) kp
  have I2:AD X pins σ (AC H h'.objs.size (.tup ys)) { s with heap:=h'.push { cls:=.type "tuple",data:=.seq its.toArray } } :=
   I1.laid (t':=s.toks) (fun b o e=>Heap.get?_push_of_some _ e) (Nat.le_refl _) (show Av X.prog X.w _ _ _ (.tup ys) from ⟨hz,its,r',IsTup.new _ _⟩)
  exact ⟨.ref h'.objs.size,_,I2,rfl,q _ (I1.hok.fresh (Nat.le_refl _))⟩
 ·obtain ⟨its,r',pl,hz⟩:=I.tuple hq
  exact call_tuple_same pl ⟨.ref p,H,I,rfl,q⟩
def On (K:zP) (T:String) (x:V) (H:Hp):Prop:=match x with
 | .str _=>T = "str"
 | .int _=>T = "int"
 | .ref p=>(T = "list"/\∃ xs,AF K H p xs)\/(T = "tuple"/\∃ o,K.lookup p=some o/\o.cls = .type "tuple"/\o.dict=none) \/
   (T = "dict"/\((∃ kvs,H p=some (.dK kvs))\/∃ kvs,H p=some (.dT kvs)))\/(T = "set"/\∃ S n,H p=some (.set S n))
 | _=>False
theorem cQ {pins:zR} {σ:St} {H:Hp} {s:Shared} {T:String} {x:V} {v:Value} (I:AD X pins σ H s) (r:AU x v) (ty:On X.K T x H) :
  s.TypeIs v T/\∀ a,v = .ref a->∃ ob,s.heap.get? a=some ob/\ob.dict=none:=by
 cases x with
 | str z =>
  obtain ⟨t,rfl⟩:=r;cases (show T = "str" from ty);exact ⟨typeIs_str s z t,fun _ e=>nomatch e⟩
 | int i =>
  obtain ⟨t,rfl⟩:=r;cases (show T = "int" from ty);exact ⟨typeIs_int s i t,fun _ e=>nomatch e⟩
 | ref p =>
  cases r;rcases ty with ⟨rfl,xs,hq⟩|⟨rfl,o,hk,hc,hd⟩|⟨rfl,hk⟩|⟨rfl,S,n,hk⟩
  ·obtain ⟨its,_,pl,_⟩:=I.list hq
   refine ⟨pl.isList.typeIs,fun a e=>?_⟩;cases e;obtain ⟨o,n,e,c,hd,_⟩:=pl;exact ⟨o,e,hd⟩
  ·refine ⟨⟨o,I.kIn p o hk,hc⟩,fun a e=>?_⟩
   cases e;exact ⟨o,I.kIn _ o hk,hd⟩
  ·have z:∃ o,s.heap.get? p=some o/\o.ExactDict:=by
    rcases hk with ⟨kvs,hk⟩|⟨kvs,hk⟩
    ·obtain ⟨_,_,_,_,o,_,_,e,ex,_⟩:=I.hok p _ hk
     exact ⟨o,e,ex⟩
    ·obtain ⟨_,_,_,_,o,_,_,e,ex,_⟩:=I.hok p _ hk
     exact ⟨o,e,ex⟩
   obtain ⟨o,e,ex⟩:=z;refine ⟨⟨o,e,ex.1⟩,fun a e2=>?_⟩;cases e2;exact ⟨o,e,ex.2.1⟩
  ·obtain ⟨o,_,_,_,e,ex,_⟩:=I.hok p _ hk
   refine ⟨⟨o,e,ex.1⟩,fun a e2=>?_⟩;cases e2;exact ⟨o,e,ex.2.1⟩
 | _=>exact False.elim ty
def aV (K:zP) (T:String) (r:V->List V->Hp->VK->Prop) (to:TE) (t:TA):TE:=fun σ H Q=>to σ H fun x H1=>On K T x H1/\t σ H1 fun xs H2=>r x xs H2 Q
variable {o e:Expr} {es:List Expr} {to:TE} {t:TA} {name:Str} {apos cpos:Pos} {T id:String} {r:V->List V->Hp->VK->Prop}
theorem EH (pa:PlainAttrs T) (slot:Slot T name id) (hty:typeOf (.builtin id)=pure (.type "method_descriptor")) (hm:J2 X id r) (ho:PE X o to) (ha:PA X (e::es) t)
  (hbase:attributeBase o name X.env (eval o X.env)=eval o X.env:=by rfl)
  (hfew:((backTo cpos (starEach (e::es) X.env)).all (fun x=>!x.1)&&(backToKw cpos (keywordEach [] X.env)).all (fun x=>x.1.isSome)
   && decide ((e::es).length+([]:List Keyword).length+(if ([]:List Keyword).isEmpty then 0 else 1)<30))=true:=by rfl)
  (hline:(apos.endLine==cpos.line)=true:=by rfl) (hs:starEach (e::es) X.env=(false,eval e X.env)::starEach es X.env:=by rfl) (hplain:(backTo cpos (starEach es X.env)).any (·.1)=false:=by rfl) :
  PE X (.Call (.Attribute o name apos) (e::es) [] cpos) (aV X.K T r to t):=by
 intro pins s σ H Q I h;refine wpAny_Call_method_late hbase hfew hline rfl (AQ (ho pins s σ H _ I h) fun v s1 ⟨x,H1,I1,r1,ty,q1⟩=>?_);obtain ⟨h1,h2⟩:=cQ I1 r1 ty;refine ⟨T,id,pa,slot,hty,h1,h2,?_⟩;have hA:=ha cpos pins s1 σ H1 _ I1 q1;rw [hs] at hA ⊢;refine Calls.callWith_builtin (by show (false||(backTo cpos (starEach es X.env)).any (·.1))=false;rw [hplain] <;> rfl) (Calls.evalArgs_plain ?_)
 exact AQ hA fun us s2 ⟨vs,H2,I2,r2,q2⟩=>hm pins s2 σ H2 x vs v us Q I2 r1 r2 q2
end
end L2
namespace L2
open PySem PySem.Spec PyProof.Rows
def J1 (X:Cx) (id:String) (r:V->List V->Hp->VK->Prop):Prop :=
 ∀ (pins:zR) (s:Shared) (σ:St) (H:Hp) (x:V) (xs:List V) (v:Value) (us:List Value) (Q:VK),AD X pins σ H s->AU x v->AW xs us->r x xs H Q ->
  wpAny (model X.prog X.w) X.A (call (.builtin id) (v::us)) (EP X pins σ Q) X.xe s
theorem AW.one:∀ {x:V} {us:List Value},AW [x] us->∃ u,us=[u]/\AU x u
 | _,_,.cons r .nil=>⟨_,rfl,r⟩
theorem AW.two:∀ {x y:V} {us:List Value},AW [x,y] us->∃ u v,us=[u,v]/\AU x u/\AU y v
 | _,_,_,.cons r (.cons q .nil)=>⟨_,_,rfl,r,q⟩
theorem AW.eraseIdx:∀ {xs:List V} {us:List Value} (i:Nat),AW xs us->AW (xs.eraseIdx i) (us.eraseIdx i)
 | _,_,_,.nil=>.nil
 | _,_,0,.cons _ t=>t
 | _,_,i+1,.cons r t=>.cons r (AW.eraseIdx i t)
theorem LN {α:Type}:∀ (l:List α) (i:Nat),(l.eraseIdx i).length<=l.length
 | [],_=>Nat.le_refl _
 | _::_,0=>Nat.le_succ _
 | _::r,i+1=>Nat.succ_le_succ (LN r i)
section
variable {X:Cx} {pins:zR} {σ:St} {H:Hp} {s:Shared} {l b:Addr} {xs ys zs:List V}
theorem AD.lset {its its':List Value} {n:Nat} {f:Array Value->Array Value} {t':Nat} (I:AD X pins σ H s) (hH:H l=some (.lst xs))
  (e:s.heap.get? l=some { cls:=.type "list",data:=.seq its.toArray n }) (hf:f its.toArray=its'.toArray) (hv:AW ys its') (hz:ys.length<=sizeLine) :
  AD X pins σ (AC H l (.lst ys)) { s with heap:=s.heap.update l (Obj.mapSeq f),toks:=t' }:=by
 have q:=PySem.IsL.update e f;rw [hf] at q;refine I.write (x:=l) (e:=l) (by rw [hH];exact trivial) (.inl rfl) (fun b' u hb hu=>(Heap.get?_update_other s.heap (Obj.mapSeq f) (Ne.symm hb)).trans hu) ⟨_,q⟩ ?_
 exact ⟨hz,its',_,hv,q⟩
theorem AD.lnew {its:List Value} {t':Nat} (I:AD X pins σ H s) (hv:AW ys its) (hz:ys.length<=sizeLine) :
  AD X pins σ (AC H s.heap.objs.size (.lst ys)) { s with heap:=s.heap.push { cls:=.type "list",data:=.seq its.toArray },toks:=t' } :=
 I.laid (fun _ _ q=>Heap.get?_push_of_some _ q) (Nat.le_refl _) ⟨hz,its,0,hv,Heap.get?_push_size _ rfl⟩
theorem AD.fresh (I:AD X pins σ H s):H s.heap.objs.size=none:=I.hok.fresh (Nat.le_refl _)
theorem AD.lstM (I:AD X pins σ H s) (hH:H l=some (.lst xs)):xs.length<=sizeLine/\∃ (its:List Value) (n:Nat),AW xs its/\xs.length=its.length/\s.heap.get? l=some { cls:=.type "list",data:=.seq its.toArray n }:=by
 obtain ⟨z,its,n,r,e⟩:=I.hok l _ hH;exact ⟨z,its,n,r,r.length,e⟩
end
section
variable {X:Cx}
def W1:V->List V->Hp->VK->Prop:=fun x vs H Q=>∃ l xs y,x = .ref l/\vs=[y]/\H l=some (.lst xs)/\xs.length<sizeLine/\Q .non (AC H l (.lst (xs++[y])))
theorem Ed:J1 X "list.append" W1:=by
 intro pins s σ H x vs v us Q I rx rv h;obtain ⟨l,xs,y,rfl,rfl,hH,hz,q⟩:=h;cases rx;obtain ⟨u,rfl,ru⟩:=rv.one;obtain ⟨z,its,n,r,hl,e⟩:=I.lstM hH;refine call_meets F.slot_list_append ⟨_,e,rfl⟩ F.entry_list_append (F.args_list_append_2 _ _) (PySem.list_append l its.toArray n u (by rw [List.size_toArray];lia)) ⟨e,?_⟩
 refine ⟨.non,_,I.lset (its':=its++[u]) hH e (by simp) (r.append (.cons ru .nil)) ?_,rfl,q⟩
 rw [List.length_append,List.length_singleton];lia
def XA:V->List V->Hp->VK->Prop:=fun x vs H Q=>∃ l xs i k y,x = .ref l/\vs=[.int i]/\H l=some (.lst xs)/\-(2 ^ 63)<=i/\i<2 ^ 63/\seqIndex? i xs.length=some k/\xs[k]? = some y/\Q y (AC H l (.lst (xs.eraseIdx k)))
theorem WD:J1 X "list.pop" XA:=by
 intro pins s σ H x vs v us Q I rx rv h;obtain ⟨l,xs,i,k,y,rfl,rfl,hH,h1,h2,hk,hy,q⟩:=h;cases rx;obtain ⟨u,rfl,ru⟩:=rv.one;obtain ⟨t,rfl⟩:=ru;obtain ⟨z,its,n,r,hl,e⟩:=I.lstM hH;obtain ⟨w,hw,rw'⟩:=r.get hy;refine call_meets F.slot_list_pop ⟨_,e,rfl⟩ F.entry_list_pop (F.args_list_pop_2 _ _)
  (MeetsSeq.list_pop_at l its.toArray n i t k w (fitsIndex_both h1 h2) (by rw [List.size_toArray,← hl];exact hk) (by rw [← Array.getElem?_toList];exact hw) (by rw [List.size_toArray];lia)) ⟨e,?_⟩
 refine ⟨y,_,I.lset (its':=its.eraseIdx k) hH e ?_ (r.eraseIdx k) ?_,rw',q⟩
 ·show its.toArray.eraseIdxIfInBounds k=(its.eraseIdx k).toArray
  rw [List.eraseIdxIfInBounds_toArray]
 ·have:=LN xs k
  lia
def W2:R2:=fun x y H Q=>∃ l b xs zs,x = .ref l/\y = .ref b/\H l=some (.lst xs)/\H b=some (.lst zs)/\xs.length+zs.length<=sizeLine/\∀ p,H p=none->Q (.ref p) (AC H p (.lst (xs++zs)))
theorem Ci:A6 X (binaryOp .Add) W2:=by
 intro pins s σ H x y v u Q I rx ry h;obtain ⟨l,b,xs,zs,rfl,rfl,hH,hB,hz,q⟩:=h;cases rx;cases ry;obtain ⟨z,its,n,r,hl,e⟩:=I.lstM hH;obtain ⟨z2,its2,n2,r2,hl2,e2⟩:=I.lstM hB;refine PySem.P.add_list e e2 ?_ (by rw [List.size_toArray,List.size_toArray];lia)
 have ea:its.toArray++its2.toArray=(its++its2).toArray:=by simp
 rw [ea];exact ⟨.ref _,_,I.lnew (t':=s.toks) (r.append r2) (by rw [List.length_append];lia),rfl,q _ I.fresh⟩
end
section
variable {prog:Program} {w:World} {A:Around} {E:Value->Shared->Prop} {s:Shared}
end
section
variable {X:Cx}
end
end L2
namespace Att
open PySem PySem.W PySem.Calls PyProof.Rows
theorem Ux {P:Params} {h:Heap}:∀ (ns:List Int) (vs:List Value),WellAll P h vs (ns.map WData.int)->IntsAre vs ns:=by
 intro ns
 induction ns with
 | nil =>
  intro vs w;rw [List.map_nil] at w;cases w;exact .nil
 | cons n ns ih =>
  intro vs w;rw [List.map_cons] at w;cases w with
  | cons a b =>
   cases a;exact .cons _ _ (ih _ b)
theorem Yc {l:OpenLaw} {n:Nat} (hn:l.most=some n) {P:Params} {h:Heap} {args:List WData} {vals:List Value}
  (hpre:l.row.toRowW.claim.pre args=true) (hwl:WellAll P h vals args) :
  ∃ a vs ns,vals=[Value.ref a]/\args=[WData.list (ns.map WData.int)]/\h.get? a=some { cls:=.type "list",data:=.seq vs.toArray }/\IntsAre vs ns/\ns.length<=n:=by
 have hsh:WShape.hasAll [] args [.list .int]=true:=(pre_splitW hpre).1;have hc:l.pre.holds [] { args:=args } = true:=(pre_splitW hpre).2;obtain ⟨d,r,rfl,h1,h2⟩:=hasAllW_cons hsh;obtain rfl:=hasAllW_nil h2;obtain ⟨xs,rfl,h3⟩:=hasW_list h1;obtain ⟨ns,rfl⟩:=items_int h3;have hlen:ns.length<=n:=by
  unfold OpenLaw.pre at hc;have h4:(WTm.not (.lt (.lit (.int (n:Int))) (.len (.arg 0)))).holds [] { args:=[.list (ns.map .int)] } = true:=by
   have h4:=(holds_andW hc).1;rw [hn] at h4;exact h4
  have h5:=condW_of h4 (w_not (w_lt w_lit (w_len_list (w_arg rfl))));rw [List.length_map] at h5;refine Nat.le_of_not_lt fun q=>?_;have q':(n:Int)<((ns.length:Nat):Int):=by lia
  first
   | (rw [decide_eq_true q'] at h5;exact absurd h5 (by decide))
   | (simp at h5;lia)
 cases hwl with
 | cons w1 w2 =>
  cases w2;cases w1 with
  | list ho hall=>exact ⟨_,_,ns,rfl,rfl,ho,Ux ns _ hall,hlen⟩
theorem Wu (l:OpenLaw) (args:List WData):l.row.toRowW.claim.post args (.bool true) args=true :=
 postW_of (r:=l.row.toRowW) (X:=(true==true))
  (show WShape.has [] (.bool true) .bool=true by first|rfl|decide|simp [WShape.has,WShape.arms,WShape.armsAll])
  (show (WTm.eq .res (.lit (.bool true))).value [] { args:=args,res:=some (.bool true),after:=args } = some (.bool (true==true)) from w_eq_bool (w_res rfl) w_lit) rfl
theorem attach_call {l:OpenLaw} {n:Nat} {q:Program} {loose:List Str} {XP:(Str->Option Value)->Heap->Prop} {YP:World->Heap->Prop} {d:DefRec}
  (hn:l.most=some n) (hdf:d.params.defaults=[])
  (call:∀ (w:World) (s₀ s₁:Shared) (mg mb:Str->Option Value) (fa:Addr) (o:Obj) (pm cd doc:Value) (a:Addr) (vs:List Value) (ns:List Int),
   Ground q loose [] XP w s₀ mg mb s₁.heap->YP w s₁.heap ->
   s₁.heap.get? fa=some o->o.data = .func (docDef d.name d.params d.body d.scope pm cd doc)->s₁.heap.CodeRec cd d.name->mg d.name=some (.ref fa) ->
   s₁.heap.get? a=some { cls:=.type "list",data:=.seq vs.toArray }->IntsAre vs ns->ns.length<=n->s₁.gens = #[] ->
   codeAny (model l.prog w) callerA (.call (.ref fa) ⟨[.ref a],[]⟩) (fun r s'=>r = .ok (.ret (.bool true))/\OldK s₁.heap s'.heap/\s'.os=s₁.os/\AllBare s'.gens) s₁) :
  WalkO q loose XP YP l.row.toRowW d [] (fun f vs=>PySem.call f vs):=by
 intro w s₀ s₁ mg mb G Y fa o pm cd doc dV kV ho hd hcd hD hmg hg args vals as hpre hlay hrd hwl hlo;obtain rfl:dV = .none:=Dflts.none hD hdf;obtain rfl:kV = .none:=Dflts.noKw hD;obtain ⟨a,vs,ns,rfl,rfl,hobj,hints,hlen⟩:=Yc hn hpre hwl;refine enter_call (codeAny_mono (call w s₀ s₁ mg mb fa o pm cd doc a vs ns G Y ho (fd_plain hd) hcd hmg hobj hints hlen hg) fun r s' hq=>?_);obtain ⟨rfl,h2,h3,h4⟩:=hq;exact ⟨.inl ⟨.bool true,.bool true,[],rfl,fun _=>rfl,.bool true,Wu l _,fun _=>⟨List.Pairwise.nil,fun _ hm=>(nomatch hm)⟩⟩,h2,h3,h4⟩
section
variable {prog:Program} {w:World} {A:Around} {E:Value->Shared->Prop} {s:Shared} {K:Frag}
end
end Att
namespace L2
open PySem PySem.Spec PyProof.Rows
theorem Os:∀ {vs:List Value} {ns:List Int},IntsAre vs ns->AW (ns.map V.int) vs
 | _,_,.nil=>.nil
 | _,_,.cons n t h=>.cons ⟨t,rfl⟩ (Os h)
def Ht (H:Hp):Prop:=∀ b,H b=none\/∃ o xs,H b=some (.frz o (.lst xs))
theorem Vn {P:Program} {w:World} {K:zP} {mg mb:Str->Option Value} {CX:CA} {k:Nat} {fa a:Addr} {fd:FuncData} {x:Str} {sp:Sp} {s₁:Shared} {vs:List Value} {ns:List Int}
  (KX:K.In s₁.heap) (hns:s₁.heap.Ns mainGlobals mg) (hb:s₁.heap.Ns builtinsNs mb) (hbb:∀ x:Str,x≠"__name__"->mb x=bootBuiltins x) (hlim:s₁.heap.NoLimit) (hg:s₁.gens = #[])
  (ha:s₁.heap.get? a=some { cls:=.type "list",data:=.seq vs.toArray }) (hi:IntsAre vs ns) (hl:ns.length<=sizeLine) (hr:As k callerA)
  (F:∀ base:Heap,K.In base->base.Ns mainGlobals mg->Bh P w K mg base CX k fa fd [x] sp) (hbind:∀ (s:Shared) (u:Value),BindsTo s fd ⟨[u],[]⟩ [(x,u)])
  (hsp:∀ H:Hp,Ht H->AF K H a (ns.map V.int)->sp [.ref a] H (fun v _=>v = .bl true) fun _ _ _=>False)
  (hCX:∀ H e s',CX [] H s₁ (fun _ _ _=>False) e s'->False) :
  codeAny (model P w) callerA (.call (.ref fa) ⟨[.ref a],[]⟩) (fun r s'=>r = .ok (.ret (.bool true))/\OldK s₁.heap s'.heap/\s'.os=s₁.os/\AllBare s'.gens) s₁:=by
 have rv:=Os hi;have lenV:=hi.length;have core:∀ H:Hp,Ht H->AF K H a (ns.map V.int)->Ak P w H s₁.heap->(∀ b,H b≠none->b=a)->(H a≠none->K.lookup a=none) ->
   codeAny (model P w) callerA (.call (.ref fa) ⟨[.ref a],[]⟩) (fun r s'=>r = .ok (.ret (.bool true))/\OldK s₁.heap s'.heap/\s'.os=s₁.os/\AllBare s'.gens) s₁:=by
  intro H hO hS hok hA hK;have base_of:∀ {b:Addr} {o:Obj},s₁.heap.get? b=some o->H b=none->(De s₁.heap H).get? b=some o:=fun e n=>UC e n;have noA:∀ {b:Addr} {o:Obj} {es:Array DictEntry} {ep:Nat},s₁.heap.get? b=some o->o.data = .dict es ep->H b=none:=fun {b o es ep} e d=>by
   cases q:H b with
   | none=>rfl
   | some u =>
    have e':b=a:=hA b (by rw [q];simp)
    subst e';rw [ha] at e;cases e;have d':Data.seq vs.toArray _=Data.dict es ep:=d;cases d'
  have nsK:∀ {b:Addr} {m:Str->Option Value},s₁.heap.Ns b m->(De s₁.heap H).Ns b m:=fun {b m} ⟨o,es,ep,e,d,r⟩=>⟨o,es,ep,base_of e (noA e d),d,r⟩;have hKb:K.In (De s₁.heap H):=fun b o e=>base_of (KX b o e) (by
   cases q:H b with
   | none=>rfl
   | some u =>
    have e':b=a:=hA b (by rw [q];simp)
    subst e';rw [hK (by rw [q];simp)] at e;cases e)
  have hM:Mod K mg (De s₁.heap H):=⟨hKb,nsK hns,⟨mb,nsK hb,hbb⟩,let ⟨mc,h1,h2⟩:=hlim;⟨mc,nsK h1,h2⟩⟩;have e0:EQ P w K mg (De s₁.heap H) callerA [] s₁ H:=⟨rfl,hM,fun b o e=>WI e,Nat.le_of_eq (UD _ _),trivial,fun b hb=>absurd (show b∈([]:List Addr) from hb) (by simp),hok,.of_eq hg⟩
  refine codeAny_mono ((F _ hKb (nsK hns)).run callerA [] s₁ H ⟨[.ref a],[]⟩ [.ref a] [.ref a] _ _ hr e0 (hbind s₁ (.ref a)) (.cons rfl .nil) (hsp H hO hS)) fun r s' h=>?_;cases r with
  | error e=>exact (hCX H e s' h).elim
  | ok fl =>
   cases fl with
   | next=>exact False.elim h
   | brk=>exact False.elim h
   | cont=>exact False.elim h
   | ret u =>
    obtain ⟨v,H',os,bare,un,hok',r',q⟩:=h;have q':v = .bl true:=q;subst q';obtain rfl:u=Value.bool true:=r';refine ⟨rfl,OldK.of_keep fun b o e=>?_,os,bare⟩;cases q:H b with
    | none=>exact un.keep b o e q (by intro z;exact absurd (show b∈([]:List Addr) from z) (by simp)) (by simp)
    | some u =>
     rcases hO b with z|⟨ob,xs,z⟩
     ·rw [q] at z;cases z
     ·have z2:=un.frzs b ob _ z
      obtain ⟨e1,_⟩:=hok b _ z;obtain ⟨e2,_⟩:=hok' b _ z2;rw [e] at e1;cases e1;exact e2
 cases hk:K.lookup a with
 | some o =>
  have e:=KX a o hk;rw [ha] at e;cases e;refine core (fun _=>none) (fun _=>.inl rfl) (.inr ⟨_,vs.toArray,_,hk,rfl,rfl,rfl,by rw [List.size_toArray,lenV];exact hl,by simpa using rv⟩) (fun b u z=>by have z':(none:Option HO)=some u:=z;cases z') (fun b z=>absurd rfl z) fun z=>absurd rfl z
 | none =>
  refine core (fun b=>if b=a then some (.frz { cls:=.type "list",data:=.seq vs.toArray } (.lst (ns.map V.int))) else none) (fun b=>?_) (.inl (.inr ⟨{ cls:=.type "list",data:=.seq vs.toArray },if_pos rfl⟩)) (fun b u z=>?_) (fun b z=>?_) fun _=>hk
  ·by_cases hb:b=a
   ·exact .inr ⟨_,_,if_pos hb⟩
   ·exact .inl (if_neg hb)
  ·by_cases hb:b=a
   ·have z':=(if_pos hb).symm.trans z
    cases z';subst hb;exact ⟨ha,by rw [List.length_map];exact hl,vs,_,rv,ha⟩
   ·have z':=(if_neg hb).symm.trans z
    cases z'
  ·by_cases hb:b=a
   ·exact hb
   ·exact absurd (if_neg hb) z
end L2
namespace L2
open PySem PySem.Spec PyProof.Rows
theorem cW {l:PySem.W.OpenLaw} {n k:Nat} {q:Program} {loose:List Str} {XP:(Str->Option Value)->Heap->Prop} {YP:World->Heap->Prop} {d:DefRec} {K:Params->zP} {CX:World->CA} {sp:World->Sp} {x:Str}
  (hn:l.most=some n) (hn2:n<=sizeLine) (hdf:d.params.defaults=[]) (hr:As k callerA)
  (hY:∀ (w:World) (h:Heap),YP w h->(K w.params).In h)
  (F:∀ (w:World) (mg:zQ) (fa:Addr) (h:Heap),(K w.params).In h->h.Ns mainGlobals mg->mg d.name=some (.ref fa) ->
   ∃ fd:FuncData,(∀ (s:Shared) (u:Value),BindsTo s fd ⟨[u],[]⟩ [(x,u)]) /\
    ∀ base:Heap,(K w.params).In base->base.Ns mainGlobals mg->Bh l.prog w (K w.params) mg base (CX w) k fa fd [x] (sp w))
  (hsp:∀ (w:World) (H:Hp) (a:Addr) (ns:List Int),ns.length<=n->Ht H->AF (K w.params) H a (ns.map V.int)->sp w [.ref a] H (fun v _=>v = .bl true) fun _ _ _=>False)
  (hCX:∀ (w:World) (H:Hp) (s:Shared) (e:Value) (s':Shared),CX w [] H s (fun _ _ _=>False) e s'->False) :
  PySem.W.WalkO q loose XP YP l.row.toRowW d [] (fun f vs=>PySem.call f vs):=by
 refine Att.attach_call hn hdf fun w s₀ s₁ mg mb fa o pm cd doc a vs ns G Y ho hd hcd hmg hobj hints hlen hg=>?_;have KX:=hY w _ Y;obtain ⟨fd,hb,hF⟩:=F w mg fa _ KX G.T.g hmg;exact Vn KX G.T.g G.T.b G.T.builtins G.T.nolimit hg hobj hints (Nat.le_trans hlen hn2) hr hF hb (fun H hO hS=>hsp w H a ns hlen hO hS) fun H e s'=>hCX w H s₁ e s'
end L2
namespace L2
open PySem PySem.Spec PyProof.Rows
noncomputable def qW (s:Stmt) (j:Nat):Stmt:=match s with
 | .ClassDef _ _ _ body _ _ _ _ _ _ _=>body.getD j (.Pass ⟨0,0,0,0⟩)
 | _=>.Pass ⟨0,0,0,0⟩
noncomputable def DJ (s:Stmt):Arguments:=match s with
 | .FunctionDef _ a _ _ _ _ _ _ _ _=>a
 | _=>{ posonlyargs:=[],args:=[],vararg:=none,kwonlyargs:=[],kw_defaults:=[],kwarg:=none,defaults:=[] }
noncomputable def CD (s:Stmt):List Stmt:=match s with
 | .FunctionDef _ _ b _ _ _ _ _ _ _=>b
 | _=>[]
noncomputable def qA (s:Stmt):Scope:=match s with
 | .FunctionDef _ _ _ _ _ _ sc _ _ _=>sc
 | _=>{ kind:=.function,names:=[],isGenerator:=false,isCoroutine:=false }
abbrev DS:CA:=fun _ _ _ _ _ _=>False
abbrev E0:XK:=fun _ _ _=>False
theorem Wa {X:Cx}:Hv DS X E0:=fun _ _ _ _ _ _ _ h=>h.elim
structure Cs (K:zP) (x qual:Str) (st:Stmt) (f:Addr) (fd:FuncData):Prop where
 ex:∃ (oc:Value) (od:Option Addr) (kV doc pm:Value) (an:Option Addr) (cdv ct:Value) (osl:Array (Option Value)),
  fd=PySem.W.fnOf x qual (DJ st) (CD st) (qA st) .none kV doc pm an cdv ct/\K.lookup f=some ⟨oc,od,.func fd,osl⟩/\PySem.W.codeIn K cdv qual=true
 kp:PySem.W.keepIn K (.ref f)=true
section
variable {P:Program} {w:World} {K:zP} {mg:zQ} {base:Heap}
theorem Cs.ok {x qual:Str} {st:Stmt} {f:Addr} {fd:FuncData} {N ps:List Str} {k:Nat} {sp:Sp} (F:Cs K x qual st f fd) (S:qB N ps (qA st)) (len:∀ vs H Q E,sp vs H Q E->vs.length=ps.length)
  (hbody:∀ (cdv:Value) (A:Around) (outer:List Env) (s:Shared) (H:Hp) (vs:List V) (Q:VK) (E:XK),As k (A.deeper (envOfC qual (qA st) s.heap.objs.size f cdv))->sp vs H Q E ->
   ∃ t,BF (Cz DS P w K mg base N qual (qA st) f cdv A outer s H E).nox (CD st) t/\t { nx:=fun _ H'=>Q .non H',rt:=Q } (Cm N vs) H):Bh P w K mg base DS (k+1) f fd ps sp:=by
 obtain ⟨oc,od,kV,doc,pm,an,cdv,ct,osl,rfl,lk,hcd⟩:=F.ex;refine K9 lk hcd S len fun A outer s H vs Q E hr hsp=>?_;obtain ⟨t,h,q⟩:=hbody cdv A outer s H vs Q E hr hsp;exact ⟨t,h.nox,q⟩
theorem Cs.binds {x qual:Str} {st:Stmt} {f:Addr} {fd:FuncData} {ps:List Str} (F:Cs K x qual st f fd)
  (h:∀ (kV doc pm:Value) (an:Option Addr) (cdv ct:Value) (us:List Value),us.length=ps.length->bindArgs (PySem.W.fnOf x qual (DJ st) (CD st) (qA st) .none kV doc pm an cdv ct) ⟨us,[]⟩=pure (ps.zip us)):B6 K fd ps []:=by
 obtain ⟨oc,od,kV,doc,pm,an,cdv,ct,osl,rfl,lk,hcd⟩:=F.ex;exact .all (h kV doc pm an cdv ct)
theorem EZ {x qual:Str} {st:Stmt} {f:Addr} {oc:Value} {od an:Option Addr} {osl:Array (Option Value)} {kV doc pm cdv ct:Value} (l:K.lookup f=some ⟨oc,od,.func (PySem.W.fnOf x qual (DJ st) (CD st) (qA st) .none kV doc pm an cdv ct),osl⟩)
  (c:PySem.W.codeIn K cdv qual=true) (k:PySem.W.keepIn K (.ref f)=true):Cs K x qual st f (PySem.W.fnOf x qual (DJ st) (CD st) (qA st) .none kV doc pm an cdv ct):=⟨⟨oc,od,kV,doc,pm,an,cdv,ct,osl,rfl,l,c⟩,k⟩
end
theorem qV {A:Around} {k:Nat} (hr:As k A):A.units+1<cLine:=Nat.lt_of_le_of_lt (Nat.add_le_add_left (by decide:1<=64) _) hr.units
theorem Bb {n:Nat} (h:n<=1000):n<sizeLine:=Nat.lt_of_le_of_lt h (by decide)
section
variable {X:Cx}
theorem pv (i:Nat) {x:Str} {pos:Pos} (hN:X.N[i]? = some x:=by rfl) (hv:Hy X.env.scope x:=by first|exact Or.inl rfl|exact Or.inr (Or.inl rfl)|exact Or.inr (Or.inr rfl)) (hd:(x==("__debug__":Str))=false:=by decide)
  (hcd:(x==("__classdict__":Str))=false:=by decide):PE X (.Name x pos) (DP i):=Wk hN hv hd hcd
end
theorem AN {A B:Prop} (h:B):if false=true then A else B:=by
 rw [if_neg Bool.false_ne_true];exact h
theorem Ab {A B:Prop} (h:A):if true=true then A else B:=by
 rw [if_pos rfl];exact h
theorem C4 {c A B:Prop} [Decidable c] (h1:c->A) (h2:¬ c->B):if c then A else B:=by
 by_cases h:c
 ·rw [if_pos h]
  exact h1 h
 ·rw [if_neg h]
  exact h2 h
theorem DK {c A B:Prop} [Decidable c] (hc:c) (h:B):if (!decide c)=true then A else B:=by
 rw [decide_eq_true hc];exact AN h
def AE (H H':Hp):Prop:=∀ b o,H b=some o->H' b=some o
theorem AE.refl (H:Hp):AE H H:=fun _ _ h=>h
theorem AE.trans {H H1 H2:Hp} (a:AE H H1) (b:AE H1 H2):AE H H2:=fun c o h=>b c o (a c o h)
theorem AE.free {H H':Hp} (e:AE H H') {l:Addr} (h:H' l=Option.none):H l=Option.none:=by
 cases q:H l with
 | none=>rfl
 | some o =>
  rw [e l o q] at h;cases h
theorem AE.seq {K:zP} {H H':Hp} {a:Addr} {xs:List V} (e:AE H H') (h:AF K H a xs):AF K H' a xs:=by
 rcases h with (h|⟨o,h⟩)|h
 ·exact .inl (.inl (e _ _ h))
 ·exact .inl (.inr ⟨o,e _ _ h⟩)
 ·exact .inr h
end L2
namespace L2
open PySem PySem.Spec PyProof.Rows Mt
section
variable {X:Cx}
theorem KP {i:Int} {n:Nat} (h:Bd n i) (p:0<n):Builtin.Int.intBits i<=n:=by
 unfold Builtin.Int.intBits;split
 ·exact Nat.zero_le _
 ·have:=h.log p
  lia
def Hj (i j:Int):Prop:=Hi i j\/(Bd 20000 i/\Bd 20000 j)
theorem Hj.ok {i j:Int} (h:Hj i j):IntMulOk i j:=by
 rcases h with h|⟨h,g⟩
 ·exact h.ok
 ·exact IntMulOk.of_le (KP h (by decide)) (KP g (by decide)) (by decide)
theorem qU:A6 X (binaryOp .Mult) (rI Hj fun i j=>.int (i*j)):=Fy fun _ _ _ _ _ _ _ hc q=>mul_int q hc.ok
def O6 (_ j:Int):Prop:=j≠0/\Bd 8000 j
theorem Lf:A6 X (binaryOp .FloorDiv) (rI O6 fun i j=>.int (i.fdiv j)):=Fy fun _ _ _ _ _ _ _ hc q =>
 floordiv_int hc.1 q (.inl (PyProof.noPylong_of_log2 (Nat.lt_of_lt_of_le (hc.2.log (by decide)) (by decide))))
def O5 (_ j:Int):Prop:=0<j/\Bd 8000 j
theorem qX:A6 X (binaryOp .FloorDiv) (rI O5 fun i j=>.int (i / j)):=Fy fun i j _ _ _ _ _ hc q=>by
 have h1:(0:Int)<j:=hc.1;exact floordiv_int (by lia) (by rw [Int.fdiv_eq_ediv_of_nonneg i (by lia)];exact q) (.inl (PyProof.noPylong_of_log2 (Nat.lt_of_lt_of_le (hc.2.log (by decide)) (by decide))))
theorem DX:BO X (.builtin "isinstance") (fun vs H Q=>∃ x T t b,vs=[x,.ty T]/\TyOf X.K H x t/\PySem.W.kitOne X.K t (.type T)=some b/\Q (.bl b) H):=by
 intro pins s σ H vs us Q I rv q;obtain ⟨x,T,t,b,rfl,ty,e,q⟩:=q;obtain ⟨u,c,rfl,ru,rc⟩:=AW.two rv;cases (show c=Value.type T from rc);exact Uz I ru ty e fun tk=>⟨.bl b,H,I.tok tk,rfl,q⟩
theorem EB {K:zP} (t:Value) (h:(t==t)=true:=by rfl):PySem.W.kitOne K t t=some true:=by
 unfold PySem.W.kitOne;rw [if_pos h]
noncomputable def Go:List Expr->Option (List Int)
 | []=>some []
 | .Constant (.int i) _ _::r=>(Go r).map (i::·)
 | _=>none
theorem WZ {es:List Expr}:∀ {is:List Int},Go es=some is->PA X es (fun _ H Q=>Q (is.map V.int) H):=by
 induction es with
 | nil =>
  intro is h;cases (show some []=some is from h);exact pI
 | cons e r ih =>
  intro is h;cases e with
  | Constant c j p =>
   cases c with
   | int i =>
    have h':(Go r).map (i::·)=some is:=h
    cases q:Go r with
    | none=>rw [q] at h';cases h'
    | some is' =>
     rw [q] at h';cases h';exact pA (t:=fun _ H Q=>Q (is'.map V.int) H) pZ (ih q)
   | _=>cases h
  | _=>cases h
def AV (K:zP) (mg:zQ) (x:Str) (st:Stmt) (ps:List Str):Prop :=
 ∃ (f:Addr) (fd:FuncData),Cs K x x st f fd/\mg x=some (.ref f)/\B6 K fd ps []
def zH (P:Program) (w:World) (K:zP) (mg:zQ) (base:Heap) (x:Str) (ps:List Str) (k:Nat) (sp:Sp):Prop :=
 ∃ (f:Addr) (fd:FuncData),Bh P w K mg base DS k f fd ps sp/\mg x=some (.ref f)/\PySem.W.keepIn K (.ref f)=true/\B6 K fd ps []
theorem pD {x:Str} {ps:List Str} {k j:Nat} {sp:Sp} {p pos:Pos} {e:Expr} {es:List Expr} {t:TA} (D:zH X.prog X.w X.K X.mg X.base x ps k sp) (hr:As j X.A) (ha:PA X (e::es) t)
  (hkj:k<=j:=by decide) (hg:Gl X x:=by rfl) (h1:(x==("__debug__":Str))=false:=by decide) (h2:starEach (e::es) X.env=(false,eval e X.env)::starEach es X.env:=by rfl) (h3:(backTo pos (starEach es X.env)).any (·.1)=false:=by rfl):PE X (.Call (.Name x p) (e::es) [] pos) (Of sp [] E0 t):=by
 obtain ⟨f,fd,F,hm,hk,hb⟩:=D;exact Wd F (hr.mono hkj) hg hm hk hb .nil Wa ha h1 h2 h3
theorem qF {c A B:Prop} [Decidable c] (hc:c) (h:A):if decide c=true then A else B:=by
 rw [decide_eq_true hc];exact Ab h
theorem qE {c A B:Prop} [Decidable c] (hc:¬ c) (h:B):if decide c=true then A else B:=by
 rw [decide_eq_false hc];exact AN h
theorem BW {c A B:Prop} [Decidable c] (h1:c->A) (h2:¬ c->B):if decide c=true then A else B:=by
 by_cases h:c
 ·exact qF h (h1 h)
 ·exact qE h (h2 h)
theorem BG {c A B:Prop} [Decidable c] (h1:¬ c->A) (h2:c->B):if (!decide c)=true then A else B:=by
 by_cases h:c
 ·exact DK h (h2 h)
 ·rw [decide_eq_false h]
  exact Ab (h1 h)
theorem PN {x y:V} {i:Int} (h0:0<=i) (h1:i<2):∃ v,A1 [x,y] i=some v/\(i=0/\v=x\/i=1/\v=y):=by
 rcases (by lia:i=0\/i=1) with e|e <;> subst e
 ·exact ⟨x,rfl,.inl ⟨rfl,rfl⟩⟩
 ·exact ⟨y,rfl,.inr ⟨rfl,rfl⟩⟩
theorem KG {x y z:V} {i:Int} (h0:0<=i) (h1:i<3):∃ v,A1 [x,y,z] i=some v/\(i=0/\v=x\/i=1/\v=y\/i=2/\v=z):=by
 rcases (by lia:i=0\/i=1\/i=2) with e|e|e <;> subst e
 ·exact ⟨x,rfl,.inl ⟨rfl,rfl⟩⟩
 ·exact ⟨y,rfl,.inr (.inl ⟨rfl,rfl⟩)⟩
 ·exact ⟨z,rfl,.inr (.inr ⟨rfl,rfl⟩)⟩
theorem KE {a b:Int} {i:Int} (φ:Int->Prop) (h0:0<=i) (h1:i<2) (ha:φ a) (hb:φ b):∃ v:Int,A1 [V.int a,V.int b] i=some (.int v)/\φ v:=by
 rcases (by lia:i=0\/i=1) with e|e <;> subst e
 ·exact ⟨a,rfl,ha⟩
 ·exact ⟨b,rfl,hb⟩
theorem sN {H:Hp} {p:Addr} (h:H p=none) (o:HO):AE H (AC H p o):=fun b u q=>by rw [uN (nQ q h)];exact q
end
end L2
namespace L2
open PySem PySem.Spec PyProof.Rows
theorem EE {β:Type} {y:Str} {c:β}:∀ {l:List (Str × β)},l.lookup y=some c->(y,c)∈l
 | [],h=>by simp at h
 | (n,k)::r,h=>by
  rw [List.lookup_cons] at h;cases q:y==n with
  | true =>
   rw [q] at h;have e:y=n:=by simpa using q
   cases h;rw [e];exact List.mem_cons_self
  | false =>
   rw [q] at h;exact List.mem_cons_of_mem _ (EE h)
theorem Ip {β:Type} {y:Str} {c:β}:∀ {l:List (Str × β)},(y,c)∈l->∃ d,l.lookup y=some d
 | (n,k)::r,h=>by
  rw [List.lookup_cons];cases q:y==n with
  | true=>exact ⟨k,rfl⟩
  | false =>
   rcases List.mem_cons.mp h with z|z
   ·cases z;simp at q
   ·exact Ip z
theorem Io {env:Env} {y:Str}:∀ {l:List (Str × NameKind)},
  (l.map fun (n,k)=>if (k==NameKind.free&&env.scope.kind==.function&&env.kindOf n==some .cell) then (n,NameKind.cell) else (n,k)).lookup y =
   (l.lookup y).map fun k=>if (k==NameKind.free&&env.scope.kind==.function&&env.kindOf y==some .cell) then NameKind.cell else k
 | []=>rfl
 | (n,k)::r=>by
  have ih:=Io (env:=env) (y:=y) (l:=r);rw [List.map_cons,List.lookup_cons (as:=r)];by_cases hc:(k==.free&&env.scope.kind==.function&&env.kindOf n==some .cell)=true
  ·dsimp only
   rw [if_pos hc,List.lookup_cons];cases q:y==n with
   | true =>
    have e:y=n:=by simpa using q
    subst e;dsimp only [Option.map];rw [if_pos hc]
   | false=>exact ih
  ·dsimp only
   rw [if_neg hc,List.lookup_cons];cases q:y==n with
   | true =>
    have e:y=n:=by simpa using q
    subst e;dsimp only [Option.map];rw [if_neg hc]
   | false=>exact ih
theorem Pn {env:Env} {scope:Scope} (h:∀ p∈scope.names,p.2 = .free->∃ c,env.cells.lookup p.1=some c) :
  ∃ cl,closureFor scope env=pure cl/\(∀ p∈cl,env.cells.lookup p.1=some p.2)/\∀ p∈scope.names,p.2 = .free->∃ c,(p.1,c)∈cl:=by
 have all:∀ (l:List (Str × NameKind)) (acc:List (Str × Addr)),(∀ p∈l,p.2 = .free->∃ c,env.cells.lookup p.1=some c)->(∀ p∈acc,env.cells.lookup p.1=some p.2) ->
   ∃ cl,(forIn l acc fun x r=>(if (x.2==NameKind.free)=true then do let c ← cellOf env x.1;pure (ForInStep.yield ((x.1,c)::r)) else pure (ForInStep.yield r):Sem _))=pure cl/\(∀ p∈cl,env.cells.lookup p.1=some p.2)/\(∀ p∈acc,p∈cl)/\∀ p∈l,p.2 = .free->∃ c,(p.1,c)∈cl:=by
  intro l
  induction l with
  | nil=>intro acc _ h2;exact ⟨acc,rfl,h2,fun _ z=>z,fun _ z=>by simp at z⟩
  | cons x r ih =>
   intro acc h1 h2;obtain ⟨n,k⟩:=x;cases q:k==NameKind.free with
   | true =>
    have e:k = .free:=by simpa using q
    subst e;obtain ⟨c,hc⟩:=h1 (n,.free) List.mem_cons_self rfl;obtain ⟨cl,e1,e2,e3,e4⟩:=ih ((n,c)::acc) (fun p hp=>h1 p (List.mem_cons_of_mem _ hp)) (fun p hp=>by
     rcases List.mem_cons.mp hp with z|z
     ·subst z;exact hc
     ·exact h2 p z)
    refine ⟨cl,?_,e2,fun p hp=>e3 p (List.mem_cons_of_mem _ hp),fun p hp f=>?_⟩
    ·rw [List.forIn_cons]
     have ec:cellOf env n=pure c:=by unfold cellOf;rw [hc]
     simp only [ec,beq_self_eq_true,if_true,pure_bind];exact e1
    ·rcases List.mem_cons.mp hp with z|z
     ·subst z;exact ⟨c,e3 _ List.mem_cons_self⟩
     ·exact e4 p z f
   | false =>
    obtain ⟨cl,e1,e2,e3,e4⟩:=ih acc (fun p hp=>h1 p (List.mem_cons_of_mem _ hp)) h2;refine ⟨cl,?_,e2,e3,fun p hp f=>?_⟩
    ·rw [List.forIn_cons]
     simp only [q,Bool.false_eq_true,if_false,pure_bind];exact e1
    ·rcases List.mem_cons.mp hp with z|z
     ·subst z;rw [show k = .free from f] at q;simp at q
     ·exact e4 p z f
 obtain ⟨cl,e1,e2,_,e4⟩:=all scope.names [] h (fun _ z=>by simp at z)
 refine ⟨cl,?_,e2,e4⟩;show (forIn scope.names [] _>>=fun r=>pure r)=_;rw [bind_pure];exact e1
noncomputable def A7 (X:Cx) (x:Str) (scope:Scope) (cl:List (Str × Addr)) (C:Addr) (s:Shared) (H:Hp) (fp:List Addr) (pins:zR):Cx :=
 { X with N:=x::X.N,s₀:=s,H₀:=H,env:=compEnvC scope cl C X.env,outer:=X.stack,ex:=fp,fn:=fun _=>false,pn:=X.pn++pins,xe:=fun _ _=>False }
def Ff (wi:TI) (tt:TT) (te:TE):TE:=fun σ H Q=>wi σ H fun J H1=>∀ D,H1 D=none->∃ W:Nat->Nat->Hp->List V->Prop,(∃ m,W 0 m (AC H1 D (.lst [])) []) /\
 ∀ i m H2 ys,W i m H2 ys->H2 D=some (.lst ys)/\((J.stop i H2/\Q (.ref D) H2)\/(J.go i H2/\∀ x H3,J.yld i H2 x H3->tt (some x::σ) H3 fun b H4 =>
  if b=true then te (some x::σ) H4 fun v H5=>H5 D=some (.lst ys)/\ys.length<sizeLine/\∃ m',m'<m/\W (i+1) m' (AC H5 D (.lst (ys++[v]))) (ys++[v])
  else ∃ m',m'<m/\W (i+1) m' H4 ys))
section
variable {X:Cx} {pins:zR} {σ:St} {H:Hp} {s:Shared} {x:Str} {scope sc:Scope} {cl:List (Str × Addr)} {fp:List Addr} {N:List Str}
structure DT (x:Str) (scope sc:Scope) (N:List Str):Prop where
 cell:∀ y∈scope.names,y.2≠.cell
 kind:scope.kind = .function
 names:∀ y∈scope.names,y.2 = .local->scope.names.lookup y.1=some .local
 own:scope.names.lookup x=some .local
 fk:sc.kind = .function
 free:∀ p∈scope.names,p.2 = .free->sc.names.lookup p.1=some .cell
 nd:(x::N).Nodup
 loc:∀ y∈N,scope.names.lookup y≠some .local
theorem Kb (O:DT x scope X.env.scope X.N) {y:Str} (h:(relabel scope X.env).names.lookup y=some .cell\/(relabel scope X.env).names.lookup y=some .free) :
  X.env.kindOf y=some .cell/\∃ k,(y,k)∈scope.names/\k = .free:=by
 have e:(relabel scope X.env).names.lookup y=_:=Io (env:=X.env) (y:=y) (l:=scope.names);rw [e] at h;cases q:scope.names.lookup y with
 | none=>rw [q] at h;rcases h with h|h <;> cases h
 | some k =>
  have hm:=EE q;rw [q] at h;by_cases f:k = .free
  ·exact ⟨O.free _ hm f,k,hm,f⟩
  ·exfalso
   have f':(k==NameKind.free)=false:=by simpa using f
   rw [Option.map_some,f',Bool.false_and,Bool.false_and,if_neg Bool.false_ne_true] at h;rcases h with h|h
   ·exact O.cell _ hm (Option.some.inj h)
   ·exact f (Option.some.inj h)
theorem Pt (O:DT x scope X.env.scope X.N) (I:AD X pins σ H s) (h1:∀ p∈cl,X.env.cells.lookup p.1=some p.2) (h2:∀ p∈scope.names,p.2 = .free->∃ c,(p.1,c)∈cl)
  (hf:∀ b∈fp,CK X pins H b) (ho:∀ b∈fp,∃ o,s.heap.get? b=some o):(A7 X x scope cl s.heap.objs.size s H fp pins).Ok where
 mod:=I.ok.mod
 kind:=O.kind
 glob:=I.ok.glob
 blt:=I.ok.blt
 above:=Nat.le_refl _
 inj:=fun y z c e1 e2=>I.ok.inj y z c (h1 _ (EE e1)) (h1 _ (EE e2))
 has:=fun y e=>by
  obtain ⟨_,k,hm,f⟩:=Kb O e;obtain ⟨c,hc⟩:=h2 _ hm f;exact Ip hc
 cab:=fun _ _ e=>nomatch e
 hd:=I.ok.hd
 frames:=I.ok.frames
 stk:=.inl rfl
 exf:=fun b hb=>⟨by obtain ⟨o,e⟩:=ho b hb;exact Nat.ne_of_lt (Heap.lt_size e),fun y c e=>(hf b hb).2.2.2.2.1 y c (h1 _ (EE e))⟩
 bs:=I.bs
 bsz:=Nat.le_trans I.ok.bsz I.sz
 noex:=fun b o e hb=>by
  rcases (hf b hb).2.2.2.1 with z|z
  ·exact I.ok.noex b o e z
  ·exact absurd (Nat.lt_of_lt_of_le (Heap.lt_size e) (Nat.le_trans I.ok.bsz z)) (Nat.lt_irrefl _)
 exfs:=fun b hb z=>by
  rcases List.mem_cons.mp (I.stkSub b z) with e|e
  ·exact (hf b hb).2.1 e
  ·exact (hf b hb).2.2.1 e
 funs:=I.stack
 frf:=I.stkFree
theorem Ps (O:DT x scope X.env.scope X.N) (I:AD X pins σ H s) (h1:∀ p∈cl,X.env.cells.lookup p.1=some p.2) (h2:∀ p∈scope.names,p.2 = .free->∃ c,(p.1,c)∈cl)
  (hf:∀ b∈fp,CK X pins H b) (ho:∀ b∈fp,∃ o,s.heap.get? b=some o) {h':Heap} {t':Nat} {m:Str->Option Value} (k:∀ b u,s.heap.get? b=some u->h'.get? b=some u) (hn:h'.Ns s.heap.objs.size m) :
  AD (A7 X x scope cl s.heap.objs.size s H fp pins) [] (none::σ) H { s with heap:=h',toks:=t' } where
 ok:=Pt O I h1 h2 hf ho
 os:=rfl
 bare:=I.bare
 base:=Un.kept k
 loc:=by
  refine ⟨m,hn,fun i y v e1 e2 e3=>?_⟩;cases i with
  | zero=>cases e2
  | succ i =>
   have e1':X.N[i]? = some y:=e1;have e2':σ[i]? = some (some v):=e2;have hv:(relabel scope X.env).names.lookup y=some .cell\/(relabel scope X.env).names.lookup y=some .free:=by
    rcases e3 with z|z
    ·exfalso
     have e:(relabel scope X.env).names.lookup y=_:=Io (env:=X.env) (y:=y) (l:=scope.names);have z':(relabel scope X.env).names.lookup y=some .local:=z;rw [e] at z';cases q:scope.names.lookup y with
     | none=>rw [q] at z';cases z'
     | some k =>
      rw [q,Option.map_some] at z';have z2:=Option.some.inj z';split at z2
      ·cases z2
      ·exact O.loc y (List.mem_of_getElem? e1') (by rw [q,z2])
    ·exact z
   obtain ⟨hk,k',hm,f⟩:=Kb O hv;obtain ⟨c,hc⟩:=h2 _ hm f;obtain ⟨m0,hn0,hl⟩:=I.loc;obtain ⟨u,r,l⟩:=hl i y v e1' e2' (.inr (.inl hk));refine ⟨u,r,.inr ⟨hv,c,?_,?_⟩⟩
   ·obtain ⟨d,hd⟩:=Ip hc
    have a1:=h1 _ (EE hd);have a2:=h1 _ hc;rw [a1] at a2;show cl.lookup y=some c;rw [hd];exact a2
   ·rcases l with ⟨z,_⟩|⟨_,c',e,o,ho',hd⟩
    ·rw [hk] at z;cases z
    ·have a2:=h1 _ hc
     rw [e] at a2;cases a2;exact ⟨o,k _ _ ho',hd⟩
 cell:=fun y c e=>by
  obtain ⟨v,o,ho',hd⟩:=I.cell y c (h1 _ (EE e));exact ⟨v,o,k _ _ ho',hd⟩
 free:=I.hok.fresh (Nat.le_refl _)
 freeC:=fun y c e=>I.freeC y c (h1 _ (EE e))
 pin:=fun p hp=>by
  have hp':p∈X.pn++pins:=by simpa [A7] using hp
  obtain ⟨e,n,ne,nf,d⟩:=I.pin p hp';refine ⟨k _ _ e,n,Nat.ne_of_lt (Heap.lt_size e),fun z=>?_,d⟩;rcases List.mem_cons.mp (I.stkSub _ z) with q|q
  ·exact ne q
  ·exact nf q
 hok:=I.hok.kept k
 len:=by rw [List.length_cons,I.len];rfl
theorem Pr {H':Hp} {s':Shared} {h':Heap} {v0:Option V} (I:AD X pins σ H s) (hf:∀ b∈fp,CK X pins H b) (I':AD (A7 X x scope cl s.heap.objs.size s H fp pins) [] (v0::σ) H' s')
  (hs:Heap.SameBut s.heap.objs.size s'.heap h'):AD X pins σ H' { s' with heap:=h' }:=by
 have u:Un (Ap X.stack) fp H H' s.heap s'.heap:=I'.base;have ne:∀ b o,s.heap.get? b=some o->b≠s.heap.objs.size:=fun b o e=>Nat.ne_of_lt (Heap.lt_size e);have hC:H' s.heap.objs.size=none:=I'.free;refine I.call' (s':={ s' with heap:=h' }) (ch:=fp) I'.os ⟨fun b o e n nf nx=>hs.extBut b _ (ne b o e) (u.keep b o e n nf nx),fun b o e n bf nx=>?_,u.free,fun b o e nx=>?_,u.tups,u.frzs,u.tbls⟩ (fun b o e=>?_) I'.bare fun b hb=>⟨(hf b hb).2.2.2.1,(hf b hb).2.1,(hf b hb).2.2.2.2.1,(hf b hb).2.2.2.2.2⟩
 ·obtain ⟨sl,q⟩:=u.slot b o e n bf nx
  exact ⟨sl,hs.extBut b _ (ne b o e) q⟩
 ·obtain ⟨o',q⟩:=u.there b o e nx
  exact ⟨o',hs.extBut b _ (ne b o e) q⟩
 ·refine (I'.hok b o e).stay (fun c v hc q=>hs.extBut c v ?_ q) (fun _ q=>q) fun _ _ q=>q
  intro z;rcases hc with y|y
  ·rw [← y,z,hC] at e;cases e
  ·rw [z,hC] at y;cases y
theorem Ka {elt iter:Expr} {px pos p:Pos} {ifs:List Expr} {wi:TI} {tt:TT} {te:TE} {use:Option (Value->Sem Unit)} {QQ:Value->Shared->Prop} {Qc:VK} (hc:X.calm=true) (O:DT x scope X.env.scope X.N) (hi:PI X (.Name x px) iter wi)
  (ht:∀ cl C s H fp pins,∀ (pins':zR) (s':Shared) (σ':St) (H':Hp) (Q:Bool->Hp->Prop),AD (A7 X x scope cl C s H fp pins) pins' σ' H' s'->tt σ' H' Q ->
   wpAny (model X.prog X.w) X.A (forIn ifs true fun c r=>if r=true then do let ok ← isTrue c (compEnvC scope cl C X.env) (eval c (compEnvC scope cl C X.env));pure (ForInStep.yield ok) else pure (ForInStep.yield r)) (TP (A7 X x scope cl C s H fp pins) pins' σ' Q) (fun _ _=>False) s')
  (he:∀ cl C s H fp pins,PE (A7 X x scope cl C s H fp pins) elt te)
  (hs:∀ z,foldedSetIterable iter X.env z=pure z) (I:AD X pins σ H s) (h:Ff wi tt te σ H Qc)
  (fin:∀ (D C:Addr) (H5:Hp) (s6:Shared) (r:Flow),AD X pins σ H5 s6->CK X pins H5 C->(∃ m,s6.heap.Ns C m)->Qc (.ref D) H5->compPost (model X.prog X.w) X.A X.xe use QQ (.ref D) C (.ok r) s6) :
  wpAny (model X.prog X.w) X.A (comprehension (.ListComp elt [⟨.Name x px,iter,ifs,0⟩] scope pos) scope X.env p (newList []) false (eval iter X.env) use) QQ X.xe s:=by
 obtain ⟨cl,hclos,h1,h2⟩:=Pn (env:=X.env) (scope:=scope) fun p hp f=>I.ok.has p.1 (.inl (O.free p hp f));refine wpAny_comprehension_free rfl hs hclos O.kind O.names ?_;refine AQ (hi pins s σ H _ I h) fun xv s1 hx1=>AQ hx1 fun itv s2 hx2=>?_;obtain ⟨it,fp,tn,J,H2,rfl,I2,T,st2,f2,hW⟩:=hx2;refine wpAny_newObj_type ?_;have nD:H2 s2.heap.objs.size=none:=I2.fresh;obtain ⟨W,⟨m0,w0⟩,turn⟩:=hW _ nD;have I3:=I2.lnew (its:=[]) (ys:=[]) (t':=s2.toks) .nil (Nat.zero_le _);generalize hD:s2.heap.objs.size=D at *;have f3:∀ b∈fp,CK X pins (AC H2 D (.lst [])) b:=fun b hb=>by
  obtain ⟨o,e,_⟩:=T.obj _ _ st2 b hb;exact ⟨by rw [uN (by rw [← hD];exact Nat.ne_of_lt (Heap.lt_size e))];exact (f2 b hb).1,(f2 b hb).2⟩
 have st3:tn 0 (s2.heap.push { cls:=.type "list",dict:=none,data:=.seq ([]:List Value).toArray }):=T.keep _ _ _ st2 fun b _ o e=>Heap.get?_push_of_some _ e
 change AD X pins σ (AC H2 D (.lst [])) { s2 with heap:=s2.heap.push { cls:=.type "list",dict:=none,data:=.seq ([]:List Value).toArray } } at I3
 generalize hs3:({ s2 with heap:=s2.heap.push { cls:=.type "list",dict:=none,data:=.seq ([]:List Value).toArray } }:Shared)=s3 at I3 ⊢
 have st3':tn 0 s3.heap:=by rw [← hs3];exact st3
 refine wpAny_newFunctionEnv O.cell (by intro y hy;simp at hy) (fun h4 hn4 hb4=>?_) O.kind
 have old:∀ b o,s3.heap.get? b=some o->h4.get? b=some o:=fun b o e=>hb4.extBut b o (Nat.ne_of_lt (Heap.lt_size e)) (Heap.get?_push_of_some _ e);have ho:∀ b∈fp,∃ o,s3.heap.get? b=some o:=fun b hb=>by
  obtain ⟨o,e,_⟩:=T.obj _ _ st3' b hb;exact ⟨o,e⟩
 have I4:=Ps (t':=s3.toks+([]:List (Str × Value)).length) O I3 h1 h2 f3 ho old hn4;have st4:tn 0 h4:=T.keep _ _ _ st3' fun b _ o e=>old b o e;have ok':=I4.ok;have fpo:∀ {H':Hp},(∀ b∈fp,H' b=none)->∀ b∈fp,CK (A7 X x scope cl s3.heap.objs.size s3 (AC H2 D (.lst [])) fp pins) [] H' b:=fun hn b hb =>
  ⟨hn b hb,(ok'.exf b hb).1,ok'.exfs b hb,.inl hb,(ok'.exf b hb).2,fun p hp=>by
   have hp':p∈X.pn++pins:=by simpa [A7] using hp
   exact (f3 b hb).2.2.2.2.2 p hp'⟩
 have loop:∀ s4:Shared,s4 = { s3 with heap:=h4,toks:=s3.toks+([]:List (Str × Value)).length } ->
   codeAny (model X.prog X.w) X.A (.compLoop (.ListComp elt [⟨.Name x px,iter,ifs,0⟩] scope pos) 0 (.ref it) (.ref D) (compEnvC scope cl s3.heap.objs.size X.env))
    (compPost (model X.prog X.w) X.A X.xe use QQ (.ref D) s3.heap.objs.size) s4:=by
  rintro s4 rfl
  refine codeAny_loop rfl (fun n s'=>∃ i v0 H' ys,AD (A7 X x scope cl s3.heap.objs.size s3 (AC H2 D (.lst [])) fp pins) [] (v0::σ) H' s'/\tn i s'.heap/\(∀ b∈fp,H' b=none)/\W i n H' ys) ?_ m0
   ⟨0,none,_,[],I4,st4,fun b hb=>(f3 b hb).1,w0⟩
  rintro n s5 ⟨i,v0,H5,ys,I5,st5,fr5,w5⟩
  show wpAny _ X.A ((compTurn (.ListComp elt [⟨.Name x px,iter,ifs,0⟩] scope pos) 0 (.ref it) (.ref D) (compEnvC scope cl s3.heap.objs.size X.env)).onRaise _) _ _ s5;refine wpAny_noted ?_;rw [compTurn_list];refine wpAny_bind ?_;refine wpAny_standAt (wpAny_bind ?_);obtain ⟨hD5,⟨stop,qs⟩|⟨go,step⟩⟩:=turn i n H5 ys w5
  ·refine wpAny_mono (T.done (A7 X x scope cl s3.heap.objs.size s3 (AC H2 D (.lst [])) fp pins) rfl rfl rfl hc i [] s5 _ H5 (fun _ _=>False) I5 (fpo fr5) st5 stop) (fun r s6 ⟨hr,I6⟩=>?_) fun _ _ f=>f.elim
   subst hr;obtain ⟨m6,hn6,_⟩:=id I6.loc;exact wpAny_pure (fin D s3.heap.objs.size H5 s6 _ (Pr I3 f3 I6 (Heap.SameBut.refl _ _)) (I3.fpOk (Nat.le_refl _) I6.free) ⟨m6,hn6⟩ qs)
  ·refine wpAny_mono (T.item (A7 X x scope cl s3.heap.objs.size s3 (AC H2 D (.lst [])) fp pins) rfl rfl rfl hc i [] s5 _ H5 (fun _ _=>False) I5 (fpo fr5) st5 go) (fun r s6 ⟨u,hr,h6⟩=>?_) fun _ _ f=>f.elim
   subst hr;refine wpAny_bind (wpAny_mono h6 (fun _ s7 ⟨y,H7,I7,r7,y7,st7,fr7⟩=>?_) fun _ _ f=>f.elim);have I7':=I7.pinned (fpo fr7) (T.obj _ _ st7);have own':(relabel scope X.env).names.lookup x=some .local:=lookup_relabel_local O.own;refine wpAny_bind (wpAny_mono (BY (i:=0) (X:=A7 X x scope cl s3.heap.objs.size s3 (AC H2 D (.lst [])) fp pins) O.nd rfl (.inl own') (.inr own') _ s7 _ H7 y u (fun σ' H'=>σ'=some y::σ/\H'=H7) I7' r7 ⟨rfl,rfl⟩) (fun _ s8 ⟨σ8,H8,I8,e8,e8'⟩=>?_) fun _ _ f=>f.elim);subst e8 e8';have again:∀ {v9:Option V} {H9:Hp} {ys9:List V} {s9:Shared} {m9:Nat},AD (A7 X x scope cl s3.heap.objs.size s3 (AC H2 D (.lst [])) fp pins) ([]++GA fp s7.heap) (v9::σ) H9 s9->W (i+1) m9 H9 ys9 ->
     ∃ i v0 H' ys,AD (A7 X x scope cl s3.heap.objs.size s3 (AC H2 D (.lst [])) fp pins) [] (v0::σ) H' s9/\tn i s9.heap/\(∀ b∈fp,H' b=none)/\W i m9 H' ys:=fun {v9 H9 ys9 s9 m9} I9 w9=>by
    refine ⟨i+1,v9,H9,ys9,I9.unpinned,T.keep _ _ _ st7 fun b hb o e=>(I9.pin (b,o) (List.mem_append_right _ (List.mem_append_right _ (Gs hb e)))).1,fun b hb=>?_,w9⟩;obtain ⟨o,e,_⟩:=T.obj _ _ st7 b hb;exact (I9.pin (b,o) (List.mem_append_right _ (List.mem_append_right _ (Gs hb e)))).2.1
   refine wpAny_bind (wpAny_mono (ht cl s3.heap.objs.size s3 _ fp pins _ s8 _ H8 _ I8 (step y H8 y7)) (fun ok s9 ⟨H9,I9,q9⟩=>?_) fun _ _ f=>f.elim);cases ok with
   | false =>
    rw [if_neg Bool.false_ne_true] at q9;obtain ⟨m',hm,w9⟩:=q9;exact wpAny_pure ⟨rfl,m',hm,again I9 w9⟩
   | true =>
    rw [if_pos rfl] at q9;refine wpAny_bind (wpAny_bind (wpAny_mono (he cl s3.heap.objs.size s3 _ fp pins _ s9 _ H9 _ I9 q9) (fun v s10 ⟨z,H10,I10,r10,hd10,hz10,m',hm,w10⟩=>?_) fun _ _ f=>f.elim));refine wpAny_bind (wpAny_mono (Ed (X:=A7 X x scope cl s3.heap.objs.size s3 (AC H2 D (.lst [])) fp pins) _ s10 _ H10 (.ref D) [z] (.ref D) [v] (fun _ H'=>H'=AC H10 D (.lst (ys++[z]))) I10 rfl (.cons r10 .nil) ⟨D,ys,z,rfl,rfl,hd10,hz10,rfl⟩) (fun _ s11 ⟨_,H11,I11,_,e11⟩=>?_) fun _ _ f=>f.elim);subst e11;exact wpAny_pure (wpAny_pure ⟨rfl,m',hm,again I11 w10⟩)
 exact codeAny_compStart_list (loop _ rfl) (T.self _ 0 _ _ _ st4 (loop _ rfl))
theorem Lj {elt iter:Expr} {px pos:Pos} {ifs:List Expr} {wi:TI} {tt:TT} {te:TE} (hc:X.calm=true) (hsc:X.env.scope=sc) (hN:X.N=N) (O:DT x scope sc N) (hi:PI X (.Name x px) iter wi)
  (ht:∀ cl C s H fp pins,∀ (pins':zR) (s':Shared) (σ':St) (H':Hp) (Q:Bool->Hp->Prop),AD (A7 X x scope cl C s H fp pins) pins' σ' H' s'->tt σ' H' Q ->
   wpAny (model X.prog X.w) X.A (forIn ifs true fun c r=>if r=true then do let ok ← isTrue c (compEnvC scope cl C X.env) (eval c (compEnvC scope cl C X.env));pure (ForInStep.yield ok) else pure (ForInStep.yield r)) (TP (A7 X x scope cl C s H fp pins) pins' σ' Q) (fun _ _=>False) s')
  (he:∀ cl C s H fp pins,PE (A7 X x scope cl C s H fp pins) elt te)
  (hs:∀ z,foldedSetIterable iter X.env z=pure z:=by intro _;rfl):PE X (.ListComp elt [⟨.Name x px,iter,ifs,0⟩] scope pos) (Ff wi tt te):=by
 subst hsc hN;intro pins s σ H Q I h;rw [eval_ListComp];refine Ka hc O hi ht he hs I h fun D C H5 s6 _ I0 fC ⟨m6,hn6⟩ qs=>?_;exact ⟨m6,hn6,fun h7 hs7=>⟨.ref D,H5,I0.turned (t':=s6.toks) (fun b o hb e=>hs7.extBut b o hb e) fC.1 fC.2.1 fC.2.2.2.1 fC.2.2.2.2.1 fC.2.2.2.2.2,rfl,qs⟩⟩
theorem HB {elt iter:Expr} {px pos:Pos} {wi:TI} {te:TE} (hc:X.calm=true) (hsc:X.env.scope=sc) (hN:X.N=N) (O:DT x scope sc N) (hi:PI X (.Name x px) iter wi)
  (he:∀ cl C s H fp pins,PE (A7 X x scope cl C s H fp pins) elt te) (hs:∀ z,foldedSetIterable iter X.env z=pure z:=by intro _;rfl):PE X (.ListComp elt [⟨.Name x px,iter,[],0⟩] scope pos) (Ff wi (fun _ H Q=>Q true H) te) :=
 Lj hc hsc hN O hi (fun _ _ _ _ _ _ _ _ _ H' _ I q=>wpAny_tests_nil ⟨H',I,q⟩) he hs
theorem Li {elt iter c:Expr} {px pos:Pos} {wi:TI} {tt:TT} {te:TE} (hc:X.calm=true) (hsc:X.env.scope=sc) (hN:X.N=N) (O:DT x scope sc N) (hi:PI X (.Name x px) iter wi)
  (ht:∀ cl C s H fp pins,PT (A7 X x scope cl C s H fp pins) c tt) (he:∀ cl C s H fp pins,PE (A7 X x scope cl C s H fp pins) elt te)
  (hs:∀ z,foldedSetIterable iter X.env z=pure z:=by intro _;rfl):PE X (.ListComp elt [⟨.Name x px,iter,[c],0⟩] scope pos) (Ff wi tt te) :=
 Lj hc hsc hN O hi (fun cl C s H fp pins pins' s' σ' H' Q I q=>wpAny_tests_one (ht cl C s H fp pins pins' s' σ' H' Q I q)) he hs
end
end L2
namespace L2
open PySem PySem.Spec PyProof.Rows Mt
theorem AE.tup {K:zP} {H H':Hp} {a:Addr} {xs:List V} (e:AE H H') (h:AH K H a xs):AH K H' a xs:=by
 rcases h with (h|⟨o,h⟩)|h
 ·exact .inl (.inl (e _ _ h))
 ·exact .inl (.inr ⟨o,e _ _ h⟩)
 ·exact .inr h
def BB (K:zP) (H:Hp) (a:Addr) (xs:List V):Prop:=AF K H a xs\/AH K H a xs
theorem AE.any {K:zP} {H H':Hp} {a:Addr} {xs:List V} (e:AE H H') (h:BB K H a xs):BB K H' a xs:=h.elim (fun h=>.inl (e.seq h)) fun h=>.inr (e.tup h)
def W5 (K:zP):R2:=fun x y H Q=>∃ p xs i v,x = .ref p/\y = .int i/\BB K H p xs/\A1 xs i=some v/\Q v H
section
variable {X:Cx} {tg:Expr}
theorem Cf:Ey X (W5 X.K):=by
 intro value slice pins s σ H x y v u Q I rx ry h hsub;obtain ⟨p,xs,i,z,e1,e2,hq,ha,q⟩:=h;rcases hq with hq|hq
 ·exact qY value slice pins s σ H x y v u Q I rx ry ⟨p,xs,i,z,e1,e2,hq,ha,q⟩ hsub
 ·exact iT value slice pins s σ H x y v u Q I rx ry ⟨p,xs,i,z,e1,e2,hq,ha,q⟩ hsub
theorem Ih {K:zP} (h:X.K=K):Ey X (HI K):=by subst h;exact qY
theorem U1 {K:zP} (h:X.K=K):Ey X (Lo K):=by subst h;exact iT
theorem WV {K:zP} (h:X.K=K):A6 X (compareOp .NotIn) (HH K true):=by subst h;exact Iw
noncomputable def Ew (lo c:Int) (n:Nat):It:=⟨fun i _=>i<n,fun i H x H'=>H'=H/\x = .int (lo+i*c),fun i _=>n<=i⟩
theorem cB {P:Program} {w:World} {K:zP} {tg:Expr} (it:Addr) (lo c:Int) (n:Nat):FD P w K tg (Ew lo c n) [it] it (fun i h=>IsRangeIter h it (lo+(i:Nat)*c) ((n:Int)-(i:Nat)) c) where
 mem:=by simp
 obj:=fun i h st b hb=>by
  have e:b=it:=by simpa using hb
  subst e;exact ⟨_,st,fun v z=>by
   have z':Data.fields _=Data.cell v:=z;cases z'⟩
 keep:=fun i h h' st k=>k it (by simp) _ st
 item:=by
  intro X hP hw hK hc i pins s σ H E I hf st hg;subst hP hw hK;obtain ⟨f0,f1,f2,f3,f4,f5⟩:=hf it (by simp)
  have W:=Walks.range (prog:=X.prog) (w:=X.w) (I.ok.hd hc) it lo c n;refine W.item i s _ _ hg st fun v h' tk hv st' kk=>?_;obtain ⟨t,rfl⟩:=hv;have I1:AD X pins σ H { s with heap:=h',toks:=tk }:=I.turned (fun b o hb e=>kk b o (by simpa using hb) e) f0 f1 f3 f4 f5
  exact ⟨_,rfl,Gj (s:={ s with heap:=h',toks:=tk }) (n:="range_iterator") st' rfl rfl (by decide) ⟨.int (lo+i*c),H,I1,⟨t,rfl⟩,⟨rfl,rfl⟩,st',fun b hb=>(hf b hb).1⟩⟩
 done:=by
  intro X hP hw hK hc i pins s σ H E I hf st hg;subst hP hw hK;obtain ⟨f0,f1,f2,f3,f4,f5⟩:=hf it (by simp)
  exact wpAny_pyNext_range_end (I.ok.hd hc) st (by have:n<=i:=hg;lia) fun h' eb=>⟨rfl,I.turned (t':=s.toks) (fun b o hb e=>eb b o hb e) f0 f1 f3 f4 f5⟩
 self:=fun _ _ _ _ _ st h=>wpAny_pyIter_rangeiter st h
theorem aP {pins:zR} {σ:St} {H:Hp} {s:Shared} {R:It->Hp->Prop} {E:Value->Shared->Prop} {lo hi c:Int} {n:Nat} {t u v:Tok} {tk:Nat} (I:AD X pins σ H s) (hsm:Builtin.Range.small lo hi c=true) (hn:Builtin.Range.rangeSize lo hi c=(n:Int))
  (q:R (Ew lo c n) H):wpAny (model X.prog X.w) X.A (pyIter (.ref s.heap.objs.size)) (Hu X pins σ tg R) E { s with heap:=s.heap.push { cls:=.type "range",data:=.fields #[.int lo t,.int hi u,.int c v] },toks:=tk }:=by
 refine wpAny_pyIter_range (IsRange.new ..) hsm ?_;have I1:AD X pins σ H { s with heap:=s.heap.push { cls:=.type "range",data:=.fields #[.int lo t,.int hi u,.int c v] },toks:=tk }:=I.kept fun b o e=>Heap.get?_push_of_some _ e
 refine ⟨(s.heap.push { cls:=.type "range",data:=.fields #[.int lo t,.int hi u,.int c v] }).objs.size,[(s.heap.push { cls:=.type "range",data:=.fields #[.int lo t,.int hi u,.int c v] }).objs.size],_,_,H,rfl,
  I1.kept (t':=tk) fun b o e=>Heap.get?_push_of_some _ e,cB _ lo c n,?_,fun b hb=>?_,q⟩
 ·have e1:lo+((0:Nat):Int)*c=lo:=by simp
  have e2:(n:Int)-((0:Nat):Int)=Builtin.Range.rangeSize lo hi c:=by rw [hn];simp
  show IsRangeIter _ _ (lo+((0:Nat):Int)*c) ((n:Int)-((0:Nat):Int)) c;rw [e1,e2];exact Heap.get?_push_size _ rfl
 ·have e:b=(s.heap.push { cls:=.type "range",data:=.fields #[.int lo t,.int hi u,.int c v] }).objs.size:=by simpa using hb
  subst e;exact I1.fpOk (Nat.le_refl _) (I1.hok.fresh (Nat.le_refl _))
end
theorem SC {lo c:Int} {n:Nat} {g:TG} {tb:TS} {D:BL} {σ:St} {H:Hp} (Pv:Nat->St->Hp->Prop) (h0:Pv 0 σ H)
  (hs:∀ i σ H,i<n->Pv i σ H->g (.int (lo+i*c)) σ H fun σ2 H2=>tb { D with nx:=Pv (i+1),ct:=Pv (i+1),bk:=D.nx } σ2 H2) (hd:∀ σ H,Pv n σ H->D.nx σ H) :
  ∃ W:Nat->Nat->St->Hp->Prop,(∃ m,W 0 m σ H)/\∀ i m σ H,W i m σ H ->
   ((Ew lo c n).stop i H/\D.nx σ H)\/((Ew lo c n).go i H/\∃ N:St->Hp->Prop,(∀ σ' H',N σ' H'->∃ m',m'<m/\W (i+1) m' σ' H')/\∀ x H',(Ew lo c n).yld i H x H'->g x σ H' fun σ2 H2=>tb { D with nx:=N,ct:=N,bk:=D.nx } σ2 H2):=by
 refine ⟨fun i m σ H=>m=n-i/\i<=n/\Pv i σ H,⟨n,by simp,Nat.zero_le _,h0⟩,?_⟩
 rintro i m σ H ⟨rfl,hi,p⟩
 by_cases hlt:i<n
 ·refine .inr ⟨hlt,Pv (i+1),fun σ' H' p'=>⟨n-(i+1),by lia,rfl,hlt,p'⟩,fun x H' y=>?_⟩
  obtain ⟨e,y⟩:=y;subst e y;exact hs i σ _ hlt p
 ·have e:i=n:=by lia
  subst e;exact .inl ⟨Nat.le_refl _,hd σ H p⟩
theorem IL {lo:Int} {n:Nat} {tt:TT} {te:TE} {σ:St} {H:Hp} {Q:VK} {D:Addr} (Pv:Nat->Hp->List V->Prop) (h0:Pv 0 (AC H D (.lst [])) [])
  (hs:∀ i H2 ys (kk:Hp->List V->Prop),(∀ H' ys',Pv (i+1) H' ys'->kk H' ys')->i<n->Pv i H2 ys->H2 D=some (.lst ys)/\tt (some (.int (lo+i))::σ) H2 fun b H4 =>
   if b=true then te (some (.int (lo+i))::σ) H4 fun v H5=>H5 D=some (.lst ys)/\ys.length<sizeLine/\kk (AC H5 D (.lst (ys++[v]))) (ys++[v]) else kk H4 ys)
  (hd:∀ H2 ys,Pv n H2 ys->H2 D=some (.lst ys)/\Q (.ref D) H2) :
  ∃ W:Nat->Nat->Hp->List V->Prop,(∃ m,W 0 m (AC H D (.lst [])) [])/\∀ i m H2 ys,W i m H2 ys->H2 D=some (.lst ys)/\(((CW lo n).stop i H2/\Q (.ref D) H2)\/((CW lo n).go i H2/\∀ x H3,(CW lo n).yld i H2 x H3->tt (some x::σ) H3 fun b H4 =>
   if b=true then te (some x::σ) H4 fun v H5=>H5 D=some (.lst ys)/\ys.length<sizeLine/\∃ m',m'<m/\W (i+1) m' (AC H5 D (.lst (ys++[v]))) (ys++[v]) else ∃ m',m'<m/\W (i+1) m' H4 ys)):=by
 refine ⟨fun i m H2 ys=>m=n-i/\i<=n/\Pv i H2 ys,⟨n,by simp,Nat.zero_le _,h0⟩,?_⟩
 rintro i m H2 ys ⟨rfl,hi,p⟩
 by_cases hlt:i<n
 ·obtain ⟨h1,h2⟩:=hs i H2 ys (fun H' ys'=>∃ m',m'<n-i/\m'=n-(i+1)/\i+1<=n/\Pv (i+1) H' ys') (fun H' ys' p'=>⟨n-(i+1),by lia,rfl,hlt,p'⟩) hlt p
  refine ⟨h1,.inr ⟨hlt,fun x H3 y=>?_⟩⟩;obtain ⟨e,y⟩:=y;subst e y;exact h2
 ·have e:i=n:=by lia
  subst e;exact ⟨(hd H2 ys p).1,.inl ⟨Nat.le_refl _,(hd H2 ys p).2⟩⟩
theorem IK {K:zP} {a:Addr} {xs:List V} {tt:TT} {te:TE} {σ:St} {H:Hp} {Q:VK} {D:Addr} (Pv:Nat->Hp->List V->Prop) (h0:Pv 0 (AC H D (.lst [])) []) (hl:∀ i H2 ys,Pv i H2 ys->AF K H2 a xs/\H2 D=some (.lst ys))
  (hs:∀ i x H2 ys (kk:Hp->List V->Prop),(∀ H' ys',Pv (i+1) H' ys'->kk H' ys')->xs[i]? = some x->Pv i H2 ys->tt (some x::σ) H2 fun b H4 =>
   if b=true then te (some x::σ) H4 fun v H5=>H5 D=some (.lst ys)/\ys.length<sizeLine/\kk (AC H5 D (.lst (ys++[v]))) (ys++[v]) else kk H4 ys)
  (hd:∀ H2 ys,Pv xs.length H2 ys->Q (.ref D) H2) :
  ∃ W:Nat->Nat->Hp->List V->Prop,(∃ m,W 0 m (AC H D (.lst [])) [])/\∀ i m H2 ys,W i m H2 ys->H2 D=some (.lst ys)/\(((CC K a).stop i H2/\Q (.ref D) H2)\/((CC K a).go i H2/\∀ x H3,(CC K a).yld i H2 x H3->tt (some x::σ) H3 fun b H4 =>
   if b=true then te (some x::σ) H4 fun v H5=>H5 D=some (.lst ys)/\ys.length<sizeLine/\∃ m',m'<m/\W (i+1) m' (AC H5 D (.lst (ys++[v]))) (ys++[v]) else ∃ m',m'<m/\W (i+1) m' H4 ys)):=by
 refine ⟨fun i m H2 ys=>m=xs.length-i/\i<=xs.length/\Pv i H2 ys,⟨xs.length,by simp,Nat.zero_le _,h0⟩,?_⟩
 rintro i m H2 ys ⟨rfl,hi,p⟩
 obtain ⟨h1,h2⟩:=hl i H2 ys p;refine ⟨h2,?_⟩;by_cases hlt:i<xs.length
 ·refine .inr ⟨⟨xs,xs[i],h1,by simp [hlt]⟩,fun x H3 y=>?_⟩
  obtain ⟨e,y⟩:=y;subst e;exact hs i x H3 ys (fun H' ys'=>∃ m',m'<xs.length-i/\m'=xs.length-(i+1)/\i+1<=xs.length/\Pv (i+1) H' ys') (fun H' ys' p'=>⟨xs.length-(i+1),by lia,rfl,hlt,p'⟩) (y xs h1) p
 ·have e:i=xs.length:=by lia
  subst e;exact .inl ⟨⟨xs,h1,Nat.le_refl _⟩,hd H2 ys p⟩
end L2
namespace L2
open PySem PySem.Spec PyProof.Rows
section
variable {prog:Program} {w:World} {A:Around} {E:Value->Shared->Prop} {s:Shared}
end
section
variable {X:Cx}
end
end L2
namespace My
theorem Co:0<=PySem.sizeLine:=by decide
theorem Hg:1<=PySem.sizeLine:=by decide
theorem AL:2<=PySem.sizeLine:=by decide
theorem EO:3<=PySem.sizeLine:=by decide
theorem CH:4<=PySem.sizeLine:=by decide
theorem Jy:5<=PySem.sizeLine:=by decide
theorem Oy:6<=PySem.sizeLine:=by decide
theorem Oz:7<=PySem.sizeLine:=by decide
theorem ce:8<=PySem.sizeLine:=by decide
theorem cZ:12<=PySem.sizeLine:=by decide
open PySem L2 Mt
structure Bs (ws:List Int):Prop where
 lo:∀ v∈ws,10<=v
 hi:∀ v∈ws,v<=127
 nd:ws.Nodup
theorem Bs.snoc {ws:List Int} {t:Int} (h:Bs ws) (h0:10<=t) (h1:t<=127) (n:t ∉ ws):Bs (ws++[t]) where
 lo:=fun v hv=>(List.mem_append.mp hv).elim (h.lo v) fun e=>by rw [List.mem_singleton.mp e];exact h0
 hi:=fun v hv=>(List.mem_append.mp hv).elim (h.hi v) fun e=>by rw [List.mem_singleton.mp e];exact h1
 nd:=by
  rw [List.nodup_append];exact ⟨h.nd,by simp,fun a ha b hb=>by rw [List.mem_singleton.mp hb];intro e;exact n (e ▸ ha)⟩
theorem Ic:∀ (n:Nat) (ws:List Int),ws.length<n->∃ i:Nat,i<n/\(10+(i:Int)) ∉ ws
 | 0,_,h=>absurd h (Nat.not_lt_zero _)
 | n+1,ws,h=>by
  by_cases m:(10+(n:Int))∈ws
  ·have hl:=List.length_erase_of_mem m
   have hp:0<ws.length:=List.length_pos_of_mem m;obtain ⟨i,hi,hn⟩:=Ic n (ws.erase (10+(n:Int))) (by lia)
   exact ⟨i,by lia,fun z=>hn ((List.mem_erase_of_ne (by lia)).mpr z)⟩
  ·exact ⟨n,Nat.lt_succ_self _,m⟩
theorem Gm (t:Int) (ws:List Int):Aq (.int t) (ws.map V.int)=decide (t∈ws):=by
 unfold Aq
 induction ws with
 | nil=>simp
 | cons w r ih =>
  rw [List.map_cons,List.any_cons,ih];have:CM (.int w) (.int t)=decide (t=w):=by
   show (w==t)=_;by_cases e:t=w
   ·simp [e]
   ·have:¬ w=t:=fun z=>e z.symm
    simp [e,this]
  rw [this];by_cases e:t=w <;> simp [e]
theorem Gd (ws:List Int):(ws.map V.int).all BV=true:=by
 induction ws with
 | nil=>rfl
 | cons w r ih=>rw [List.map_cons,List.all_cons,ih];rfl
noncomputable def Bp:List Int->Int
 | [a,_]=>a
 | [a,_,c,_]=>a*c
 | _=>0
noncomputable def Be:List Int->Int
 | [_,b]=>b
 | [_,b,_,d]=>b*d
 | _=>0
structure Ao (ws:List Int):Prop where
 len:ws.length=2\/ws.length=4
 lo:∀ v∈ws,10<=v
 hi:∀ v∈ws,v<=127
theorem Ao.cases {ws:List Int} (h:Ao ws):(∃ a b,ws=[a,b])\/∃ a b c d,ws=[a,b,c,d]:=by
 obtain ⟨l,_,_⟩:=h
 match ws,l with
 | [a,b],_=>exact .inl ⟨a,b,rfl⟩
 | [a,b,c,d],_=>exact .inr ⟨a,b,c,d,rfl⟩
 | [],h=>simp at h
 | [_],h=>simp at h
 | [_,_,_],h=>simp at h
 | _::_::_::_::_::_,h=>simp at h
theorem LZ {x y:Int} (h1:10<=x) (h2:x<=127) (h3:10<=y) (h4:y<=127):1<=x*y/\x*y<=16129:=by
 have a1:=Int.mul_le_mul h2 h4 (by lia) (by decide)
 have a2:=Int.mul_le_mul h1 h3 (by decide) (by lia)
 lia
theorem Ao.in {ws:List Int} (h:Ao ws):1<=Bp ws/\Bp ws<=16129/\1<=Be ws/\Be ws<=16129:=by
 rcases h.cases with ⟨a,b,rfl⟩|⟨a,b,c,d,rfl⟩
 ·have h1:=h.lo a (by simp);have h2:=h.hi a (by simp);have h3:=h.lo b (by simp);have h4:=h.hi b (by simp)
  show 1<=a/\a<=16129/\1<=b/\b<=16129;lia
 ·have h1:=h.lo a (by simp);have h2:=h.hi a (by simp);have h3:=h.lo b (by simp);have h4:=h.hi b (by simp)
  have h5:=h.lo c (by simp);have h6:=h.hi c (by simp);have h7:=h.lo d (by simp);have h8:=h.hi d (by simp)
  have e1:=LZ h1 h2 h5 h6;have e2:=LZ h3 h4 h7 h8;exact ⟨e1.1,e1.2,e2.1,e2.2⟩
def TL (H:Hp) (D:Addr) (tss:List (List Int)):Prop:=∃ rs:List Addr,H D=some (.lst (rs.map V.ref))/\Paired (fun r t=>H r=some (.tup (t.map V.int))) rs tss
theorem Ix {H H':Hp} (e:AE H H'):∀ {rs:List Addr} {tss:List (List Int)},Paired (fun r t=>H r=some (.tup (t.map V.int))) rs tss->Paired (fun r t=>H' r=some (.tup (t.map V.int))) rs tss
 | _,_,.nil=>.nil
 | _,_,.cons h t=>.cons (e _ _ h) (Ix e t)
noncomputable def XL (ts:List Int) (a:Int):List (List Int):=(ts.filter fun b=>decide (a≠b)).map fun b=>[a,b]
noncomputable def Lh (ts:List Int):List (List Int):=ts.flatMap (XL ts)
theorem HY {H:Hp}:∀ {rs:List Addr} {tss:List (List Int)} {i:Nat} {x:V},Paired (fun r t=>H r=some (.tup (t.map V.int))) rs tss->(rs.map V.ref)[i]? = some x->∃ r t,x = .ref r/\tss[i]? = some t/\H r=some (.tup (t.map V.int))
 | _,_,i,x,.nil,h=>by simp at h
 | _,_,0,x,.cons h t,e=>⟨_,_,by simpa using e.symm,rfl,h⟩
 | _,_,i+1,x,.cons h t,e=>by
  obtain ⟨r,u,e1,e2,e3⟩:=HY (i:=i) (x:=x) t (by simpa using e)
  exact ⟨r,u,e1,by simpa using e2,e3⟩
noncomputable def WL (f b:List Int):Bool:=decide (b.getD 0 0 ∉ f)&&decide (b.getD 1 0 ∉ f)
noncomputable def XJ (ps:List (List Int)) (f:List Int):List (List Int):=(ps.filter (WL f)).map fun b=>f++b
noncomputable def SD (ps:List (List Int)):List (List Int):=ps.flatMap (XJ ps)
noncomputable def KD (ts:List Int):List (List Int):=Lh ts++SD (Lh ts)
noncomputable def CP:List Int:=[20,30,40,50,60,80,100,120,90,45,24,36]
theorem Wt:CP.Nodup:=by decide
theorem Wr:∀ v∈CP,10<=v/\v<=127:=by decide
theorem Wq {i:Int} (h0:0<=i) (h1:i<12):∃ v:Int,A1 (CP.map V.int) i=some (.int v)/\CP[i.toNat]? = some v/\10<=v/\v<=127:=by
 have hk:i.toNat<CP.length:=by show i.toNat<12;lia
 refine ⟨CP[i.toNat],?_,List.getElem?_eq_getElem hk,Wr _ (List.getElem_mem hk)⟩;have ek:i=((i.toNat:Nat):Int):=by lia
 have:=Cy (xs:=CP.map V.int) (j:=i.toNat) (v:=.int CP[i.toNat]) (by rw [List.getElem?_map,List.getElem?_eq_getElem hk] <;> rfl)
 rw [← ek] at this;exact this
theorem Ws {i j:Nat} {v:Int} (h:CP[i]? = some v) (g:CP[j]? = some v):i=j:=by
 obtain ⟨a1,a2⟩:=List.getElem?_eq_some_iff.mp h;obtain ⟨b1,b2⟩:=List.getElem?_eq_some_iff.mp g;have nd:=Wt;exact (List.getElem_inj nd).mp (a2.trans b2.symm)
theorem Wl {l:List Int}:∀ {k:Nat} {v:Int},l[k]? = some v->(v::l.eraseIdx k).Perm l:=by
 induction l with
 | nil=>intro k v h;simp at h
 | cons a r ih =>
  intro k v h;cases k with
  | zero=>simp at h;subst h;exact List.Perm.refl _
  | succ k =>
   have h':r[k]? = some v:=by simpa using h
   have:=ih h';show (v::a::r.eraseIdx k).Perm (a::r);exact (List.Perm.swap a v _).trans (this.cons a)
theorem Vu (l:List Int):∀ k:Nat,(l.map V.int).eraseIdx k=(l.eraseIdx k).map V.int:=by
 induction l with
 | nil=>intro k;rfl
 | cons a r ih =>
  intro k;cases k with
  | zero=>rfl
  | succ k=>show V.int a::(r.map V.int).eraseIdx k=_;rw [ih k];rfl
end My
namespace My
open PySem L2 Mt
noncomputable def Gh (a b p q:Int):Int:=if a*q-p*b<0 then -(a*q-p*b) else a*q-p*b
def Bt (a b c d p q:Int):Prop:=Gh a b p q*d<Gh c d p q*b\/(Gh a b p q*d=Gh c d p q*b/\a*d<c*b)
noncomputable instance (a b c d p q:Int):Decidable (Bt a b c d p q):=by unfold Bt;exact inferInstance
structure cm (p q:Int) (tss:List (List Int)) (c:List Int):Prop where
 ex:∃ u v,tss=u++c::v/\(∀ t∈u,Bt (Bp c) (Be c) (Bp t) (Be t) p q)/\∀ t∈v,¬ Bt (Bp t) (Be t) (Bp c) (Be c) p q
def Lx (x y:List Int):Prop:=HT.lexLt x y=true
def O3 (x y:List Int):Prop:=x.length<y.length\/(x.length=y.length/\Lx x y)
def Ex (p q:Int) (t:List Int):Prop:=Bp t*q=p*Be t
structure cy (sw:List Int) (p q:Int) (c:List Int):Prop where
 mem:c∈KD sw
 ex:Ex p q c
 least:∀ y∈KD sw,Ex p q y->y=c\/O3 c y
structure dB (H:Hp) (r:Addr) (p q:Int):Prop where
 at_:H r=some (.tup [.int p,.int q])
 bp:Bd 300 p
 bq:Bd 300 q
 q1:1<=q
end My
namespace L2
open PySem PySem.Spec PyProof.Rows
noncomputable abbrev C2 (led:Bool):Obj:={ cls:=.type "set",dict:=none,data:=.set #[] 0 (.fresh 0 0 led) }
section
variable {prog:Program} {w:World} {A:Around} {E:Value->Shared->Prop} {s:Shared}
set_option maxHeartbeats 3200000 in
theorem Ye {t:Addr} {its:Array Value} {ns:List Int} {Q:Value->Shared->Prop} (nh:A.handled=none) (ht:IsTup s.heap t its) (hi:IntsAre its.toList ns) (room:its.size+1<scanBound)
  (q:∀ (h':Heap) (tk:Nat),h'.SetOf (intKind prog w) s.heap.objs.size (fun k=>(firstMet (fun i=>ns.getD i 0) its.size).any (·==k)) (firstMet (fun i=>ns.getD i 0) its.size).length ->
   (∀ b o,b<s.heap.objs.size->s.heap.get? b=some o->h'.get? b=some o)->Q (.ref s.heap.objs.size) { s with heap:=h',toks:=tk }):wpAny (model prog w) A (call (.type "set") [.ref t]) Q E s:=by
 obtain ⟨c,tl,m1⟩:=PySem.F.called_set.mro;have m2:=PySem.F.called_set.made;have m3:=PySem.F.called_set.sub;refine wpAny_call (codeAny_of_tree ?_);show wpAny _ _ (callAny (.type "set") _) _ _ _;refine wpAny_pure ⟨Code.quiet_builtin _ (by decide +kernel),codeAny_builtin PySem.F.entry_type_call ?_⟩
 rw [Around.under_plain (weight_type_call_type "set" [.ref t] []) rfl];have m4:=PySem.F.called_set.notType;have m5:=PySem.F.called_set.canCreate;have m6:=PySem.F.typeCall_set_1 (.ref t)
 repeat (any_goals (first|assumption|wp_step))
 refine codeAny_mono (code_set_new_1 (.ref t) (E:=E) (Q₁:=fun ob s1=>∃ led:Bool,ob = .ref s.heap.objs.size/\s1 = { s with heap:=s.heap.push (C2 led) }) fun led=>⟨led,rfl,rfl⟩) fun r s1 hr=>?_
 cases r with
 | error e=>exact hr
 | ok fl =>
  cases fl with
  | ret ob =>
   obtain ⟨led,rfl,rfl⟩:=hr;have gS:(s.heap.push (C2 led)).get? s.heap.objs.size=some (C2 led):=Heap.get?_push_size _ rfl;have tS:Shared.TypeIs { s with heap:=s.heap.push (C2 led) } (.ref s.heap.objs.size) "set":=⟨_,gS,rfl⟩
   have i1:=PySem.F.called_set.init.lookup;have i2:=PySem.F.called_set.init.bind (.ref s.heap.objs.size)
   repeat (any_goals (first|assumption|wp_step))
   refine codeAny_mono (codeAny_call_builtin (R:=wants (fun r s2=>r = .none/\∃ h' tk,s2 = { s with heap:=h',toks:=tk } /\
     h'.SetOf (intKind prog w) s.heap.objs.size (fun k=>(firstMet (fun i=>ns.getD i 0) its.size).any (·==k)) (firstMet (fun i=>ns.getD i 0) its.size).length /\
     (∀ b o,b<s.heap.objs.size->s.heap.get? b=some o->h'.get? b=some o)) E) PySem.F.called_set.init.plain PySem.F.entry_set_init (check_set_init_1 tS ?_)) fun r2 s2 hr2=>?_
   ·obtain ⟨⟨oc,od,oda,osl⟩,e0,ec,nl,ed⟩:=ht
    simp only at ec ed;subst ec ed;have e1:(s.heap.push (C2 led)).get? t=some { cls:=.type "tuple",dict:=od,data:=.seq its nl,slots:=osl }:=Heap.get?_push_of_some _ e0;have n1:=PySem.F.sub_tuple_set;have n2:=PySem.F.sub_tuple_frozenset;have n3:(Value.type "tuple" == Value.type "dict")=false:=by decide
    have tu:(s.heap.push (C2 led)).IsTuple t its:=⟨_,e1,rfl,nl,rfl⟩;unfold Builtin.«set.__init__» noKeywords Builtin.Frozenset.updateFrom;generalize hPI:pyIter=PI
    wp_walk
    subst hPI;refine wpAny_pyIter_tuple tu (wpAny_bind (wpAny_runValue ?_));have lt:t<s.heap.objs.size:=Heap.lt_size e0;have nh3:A.in1.in1.in1.handled=none:=by simp [nh]
    have ne:t≠(s.heap.push (C2 led)).objs.size:=by rw [Heap.size_push];exact Nat.ne_of_lt (Nat.lt_succ_of_lt lt)
    have nS:s.heap.objs.size ∉ [(s.heap.push (C2 led)).objs.size,t]:=by
     rw [Heap.size_push];simp only [List.mem_cons,List.not_mem_nil,or_false,not_or];exact ⟨Nat.ne_of_lt (Nat.lt_succ_self _),Nat.ne_of_gt lt⟩
    have vals:∀ (i:Nat) (v:Value),its[i]? = some v->∃ t,v = .int ((fun i=>ns.getD i 0) i) t:=fun i v hv=>IntsAre.int_at hi i v (by rw [Array.getElem?_toList];exact hv)
    refine codeAny_set_update_loopS ((Walks.tuple nh3 _ t ne its).toS) s.heap.objs.size nS (fun i=>ns.getD i 0) vals room (its.size-0) 0 _ (by lia) (Nat.zero_le _) ⟨⟨_,Heap.get?_push_size _ rfl,rfl,rfl⟩,⟨_,Heap.get?_push_of_some _ e1,rfl,nl,rfl⟩⟩ ?_ ?_
    ·have g2:((s.heap.push (C2 led)).push { cls:=.type "tuple_iterator",data:=.fields #[.ref t,.int 0 0] }).get? s.heap.objs.size=some (C2 led):=Heap.get?_push_of_some _ gS
     exact SetOf_congr ((setObjOf_fresh (knd:=intKind prog w) led).setOf g2 (by unfold scanBound;lia)) (fun _=>rfl) rfl
    ·rintro ⟨h',g',d',tk',os'⟩ mv sS
     have eg:g'=s.gens:=mv.gens;have ed:d'=s.drawn:=mv.drawn;have eo:os'=s.os:=mv.os;subst eg ed eo;refine wpAny_pure ?_;show wpAny _ _ (ret Value.none) _ _ _;refine wpAny_pure ⟨rfl,h',tk',rfl,sS,fun b o hb e=>mv.heap b o ?_ (Heap.get?_push_of_some _ (Heap.get?_push_of_some _ e))⟩;have b2:b≠(s.heap.push (C2 led)).objs.size:=by rw [Heap.size_push];exact Nat.ne_of_lt (Nat.lt_succ_of_lt hb)
     simp only [List.mem_cons,List.not_mem_nil,or_false,not_or];exact ⟨Nat.ne_of_lt hb,b2⟩
   ·cases r2 with
    | error e=>exact hr2
    | ok f2 =>
     cases f2 with
     | ret r =>
      obtain ⟨rfl,h',tk,rfl,sS,kk⟩:=hr2
      repeat (any_goals (first|assumption|wp_step))
      exact q _ _ sS kk
     | _=>exact hr2.elim
  | _=>exact hr.elim
end
end L2
namespace L2
open PySem PySem.Spec PyProof.Rows
theorem LX {ns:List Int} (nd:ns.Nodup):∀ n,n<=ns.length->firstMet (fun i=>ns.getD i 0) n=ns.take n
 | 0,_=>by rw [firstMet_zero,List.take_zero]
 | n+1,h=>by
  have hn:n<ns.length:=h;rw [firstMet_succ,LX nd n (by lia)]
  have e:ns.getD n 0=ns[n]:=by rw [List.getD_eq_getElem?_getD,List.getElem?_eq_getElem hn];rfl
  have t:ns.take (n+1)=ns.take n++[ns[n]]:=by rw [List.take_add_one,List.getElem?_eq_getElem hn];rfl
  rw [e,t];unfold step_dedup;rw [if_neg];intro z;obtain ⟨x,hx,ex⟩:=List.any_eq_true.mp z;have ex':x=ns[n]:=by simpa using ex
  obtain ⟨j,hj,ej⟩:=List.mem_take_iff_getElem.mp hx;have:=(List.getElem_inj nd).mp (ej.trans ex');lia
section
variable {X:Cx}
theorem KR:BO X (.builtin "len") (fun xs H Q=>∃ (p:Addr) (S:Int->Bool) (n:Nat),xs=[.ref p]/\H p=some (.set S n)/\Q (.int n) H):=by
 intro pins s σ H xs us Q I r h;obtain ⟨p,S,n,rfl,hq,q⟩:=h;obtain ⟨u,rfl,rx⟩:=DC r;cases rx;obtain ⟨o,es,ep,t,ho,hex,hd,_,_,hb,hf,hn⟩:=(show s.heap.SetOf (intKind X.prog X.w) p S n from I.hok p _ hq);have hb':es.size<4096:=hb;subst hn;exact call_len_set ho hex hd hf (by lia) ⟨.int es.size,H,I.tok _,⟨_,rfl⟩,q⟩
end
end L2
namespace HT
open PySem PyProof.Rows
section
open PySem.SeqAt
open PySem.AutoSeq1 (wpAny_loadPart')
open PySem.MeetsSeq PySem.MeetsSeq2 PySem.MeetsSeq3
end
section
open PySem.SeqAt
variable {A:Around} {s:Shared}
end
end HT
namespace L2
open PySem PySem.Spec PyProof.Rows
section
variable {X:Cx}
end
end L2
namespace My
open PySem L2 Mt
structure BK (t b:Int):Prop where
 t1:1<=t
 t2:t<=20000
 b1:1<=b
 b2:b<=20000
theorem BE {i:Int} (h1:0<=i) (h2:i<=20000):Bd 64 i:=by
 unfold Bd;have:(2:Nat) ^ 64=18446744073709551616:=by decide
 lia
theorem BK.bt {t b:Int} (h:BK t b):Bd 64 t:=BE (by have:=h.t1;lia) h.t2
theorem BK.bb {t b:Int} (h:BK t b):Bd 64 b:=BE (by have:=h.b1;lia) h.b2
theorem FJ {p q c:Int} (g:Int.gcd p q=1) (h:p∣c*q):p∣c:=by
 have h1:=Int.natAbs_dvd_natAbs.mpr h;rw [Int.natAbs_mul] at h1;exact Int.natAbs_dvd_natAbs.mp (Nat.Coprime.dvd_of_dvd_mul_right (show Nat.Coprime p.natAbs q.natAbs from g) h1)
theorem Kd {p q:Int} (c:Int) (g:Int.gcd p q=1):c*q%p=0↔c%p=0 :=
 ⟨fun h=>Int.emod_eq_zero_of_dvd (FJ g (Int.dvd_of_emod_eq_zero h)),fun h=>Int.emod_eq_zero_of_dvd (Int.dvd_trans (Int.dvd_of_emod_eq_zero h) (Int.dvd_mul_right c q))⟩
theorem V2 (m p:Int):(m-m%p)%p=0:=by
 have:=Int.emod_add_mul_ediv m p;have e:m-m%p=p*(m / p):=by lia
 rw [e];exact Int.mul_emod_right _ _
theorem FP {p x f:Int} (_:0<p) (f0:0<=f) (f1:f<p):(x-f)%p=0↔x%p=f:=by
 constructor
 ·intro h
  have h1:x%p=f%p:=Int.emod_eq_emod_iff_emod_sub_eq_zero.mpr h;rw [h1];exact Int.emod_eq_of_lt f0 f1
 ·intro h
  rw [← h];exact V2 x p
structure Pl (t b p q:Int):Prop where
 rat:BK t b
 ep:p=AG t b
 eq:q=Aj t b
 p1:1<=p
 p2:p<=20000
 q1:1<=q
 q2:q<=20000
 co:Int.gcd p q=1
 val:p*b=t*q
theorem BK.pl {t b:Int} (h:BK t b):Pl t b (AG t b) (Aj t b):=by
 obtain ⟨t1,t2,b1,b2⟩:=h;have L:=Cg (t:=t) (b:=b) (by lia)
 have y1:=L.pos;have nx:=L.nx;have ny:=L.ny;have he:=L.eq;have x1:1<=AG t b:=by
  rcases Int.lt_or_le (AG t b) 1 with l|l
  ·exfalso
   have a1:AG t b*b<=0:=Int.mul_nonpos_of_nonpos_of_nonneg (by lia) (by lia)
   have a2:0<t*Aj t b:=Int.mul_pos (by lia) (by lia)
   lia
  ·exact l
 exact ⟨⟨t1,t2,b1,b2⟩,rfl,rfl,x1,by lia,y1,by lia,L.co,he⟩
theorem Pl.bp {t b p q:Int} (h:Pl t b p q):Bd 64 p:=BE (by have:=h.p1;lia) h.p2
theorem Pl.bq {t b p q:Int} (h:Pl t b p q):Bd 64 q:=BE (by have:=h.q1;lia) h.q2
theorem Ge (x:Int) {y:Int} (hy:0<y):x / y*y<=x/\x<(x / y+1)*y:=by
 have h1:=Int.emod_add_mul_ediv x y;have h2:=Int.emod_nonneg x (Int.ne_of_gt hy);have h3:=Int.emod_lt_of_pos x hy;rw [Int.mul_comm] at h1;rw [Int.add_mul];lia
theorem PU {m:Nat} {i j:Int} (h:Bd m i) (hj:0<j):Bd m (i / j):=by
 refine h.le ?_;obtain ⟨h1,h2⟩:=Ge i hj;generalize i / j=k at *;rcases Int.lt_or_le i 0 with l|l
 ·have k0:k<0:=by
   rcases Int.lt_or_le k 0 with z|z
   ·exact z
   ·have:=Int.mul_nonneg z (show 0<=j by lia);lia
  have a1:(k+1)*j<=(k+1)*1:=Int.mul_le_mul_of_nonpos_left (by lia) (by lia)
  lia
 ·have k0:0<=k:=by
   rcases Int.lt_or_le k 0 with z|z
   ·have:(k+1)*j<=0:=Int.mul_nonpos_of_nonpos_of_nonneg (by lia) (by lia)
    lia
   ·exact z
  have a1:k*1<=k*j:=Int.mul_le_mul_of_nonneg_left (by lia) k0
  lia
noncomputable def EN (p n m:Int):V:=if m%p≠0 then .int m else if n%p≠0 then .int (m+n) else .non
theorem V3 {p m n:Int} (i:Int) (h1:m%p=0) (h2:n%p=0):(m+i*n)%p=0 :=
 Int.emod_eq_zero_of_dvd (Int.dvd_add (Int.dvd_of_emod_eq_zero h1) (Int.dvd_trans (Int.dvd_of_emod_eq_zero h2) (Int.dvd_mul_left i n)))
theorem V1 {p m n:Int} (h1:m%p=0) (h2:(m+n)%p=0):n%p=0 :=
 Int.emod_eq_zero_of_dvd ((Int.dvd_add_right (Int.dvd_of_emod_eq_zero h1)).mp (Int.dvd_of_emod_eq_zero h2))
noncomputable def Ec (n:Nat) (f:Int->Bool):List Int:=((List.range n).map fun (i:Nat)=>(i:Int)).filter f
theorem Eb {b:Bool} {A B:Prop} (h1:b=true->A) (h2:b=false->B):if b=true then A else B:=by
 cases b
 ·rw [if_neg Bool.false_ne_true];exact h2 rfl
 ·rw [if_pos rfl];exact h1 rfl
noncomputable def Dc (p n m:Int):Bool:=(List.range n.toNat).any fun j=>decide ((j:Int)*p%n=m)
theorem Ro {p n m:Int} {j:Nat} (hj:j<n.toNat) (e:(j:Int)*p%n=m):Dc p n m=true :=
 List.any_eq_true.mpr ⟨j,List.mem_range.mpr hj,decide_eq_true e⟩
theorem Rn {p n m:Int} (h:∀ j:Nat,j<n.toNat->(j:Int)*p%n≠m):Dc p n m=false:=by
 unfold Dc;rw [List.any_eq_false];intro j hj;exact fun z=>h j (List.mem_range.mp hj) (of_decide_eq_true z)
theorem PV (a b:Nat):∃ u v:Int,u*(a:Int)+v*(b:Int)=((Nat.gcd a b:Nat):Int):=by
 induction a,b using Nat.gcd.induction with
 | H0 n=>exact ⟨0,1,by rw [Nat.gcd_zero_left];lia⟩
 | H1 m n _ ih =>
  obtain ⟨u,v,e⟩:=ih;refine ⟨v-u*((n / m:Nat):Int),u,?_⟩;rw [Nat.gcd_rec m n,← e];have h:((n%m:Nat):Int)=(n:Int)-(m:Int)*((n / m:Nat):Int):=by
   have:=Nat.mod_add_div n m;have h2:((n%m+m*(n / m):Nat):Int)=(n:Int):=by rw [this]
   rw [Int.natCast_add,Int.natCast_mul] at h2;lia
  rw [h]
  grind
noncomputable def GI (p n c:Int) (i:Nat) (m:Int):Bool:=(List.range i).any fun j=>decide ((c+(j:Int)*p)%n=m)
end My
namespace L2
open PySem PySem.Spec PyProof.Rows
section
variable {X:Cx} {pins:zR} {σ:St} {H:Hp} {s:Shared} {x:Str} {scope sc:Scope} {cl:List (Str × Addr)} {fp:List Addr} {N:List Str}
theorem Wy {elt iter:Expr} {px py pos sp:Pos} {i:Nat} {y:Str} (hNd:X.N.Nodup) (hi0:X.N[i]? = some y) (hy:Ez X.env.scope y) (hf0:X.fn y=true\/X.env.scope.names.lookup y=some .local) {ifs:List Expr} {wi:TI} {tt:TT} {te:TE} (hc:X.calm=true) (hsc:X.env.scope=sc) (hN:X.N=N) (O:DT x scope sc N) (hi:PI X (.Name x px) iter wi)
  (ht:∀ cl C s H fp pins,∀ (pins':zR) (s':Shared) (σ':St) (H':Hp) (Q:Bool->Hp->Prop),AD (A7 X x scope cl C s H fp pins) pins' σ' H' s'->tt σ' H' Q ->
   wpAny (model X.prog X.w) X.A (forIn ifs true fun c r=>if r=true then do let ok ← isTrue c (compEnvC scope cl C X.env) (eval c (compEnvC scope cl C X.env));pure (ForInStep.yield ok) else pure (ForInStep.yield r)) (TP (A7 X x scope cl C s H fp pins) pins' σ' Q) (fun _ _=>False) s')
  (he:∀ cl C s H fp pins,PE (A7 X x scope cl C s H fp pins) elt te)
  (hs:∀ z,foldedSetIterable iter X.env z=pure z) (hsw:swapsWith (.ListComp elt [⟨.Name x px,iter,ifs,0⟩] scope pos) (some (.Name y py)) sp.line X.env=pure true):PS X (.Assign [.Name y py] (.ListComp elt [⟨.Name x px,iter,ifs,0⟩] scope pos) sp) (HW (Ff wi tt te) (Gg i)):=by
 subst hsc hN;intro pins s σ H DD I h;rw [exec_Assign_Name_used y py _ sp hsw];refine wpAny_bind (wpAny_standAt ?_);refine wpAny_bind ?_;show wpAny _ X.A (do let _ ← comprehension (.ListComp elt [⟨.Name x px,iter,ifs,0⟩] scope pos) scope X.env _ (newList []) false (eval iter X.env) (some (assign (.Name y py) X.env))) _ _ s
 refine wpAny_bind (wpAny_mono (Ka (QQ:=fun _ s'=>SP X pins DD .next s') (use:=some (assign (.Name y py) X.env)) hc O hi ht he hs I h fun D C H5 s6 _ I0 fC ⟨m6,hn6⟩ qs=>?_) (fun _ s' hq=>wpAny_pure (wpAny_pure hq)) fun _ _ e=>e)
 refine wpAny_assign_Name (Jp I0 hNd hi0 hy (v:=.ref D) rfl (fun s7 I7 ⟨a,sb,ha⟩=>?_) hf0);have na:C≠a:=fun z=>by
  rcases ha with e|e
  ·exact fC.2.1 (z.trans e)
  ·exact fC.2.2.2.2.1 y a e z.symm
 obtain ⟨o,es,ep,ho6,BM⟩:=hn6;exact ⟨m6,⟨o,es,ep,sb.extBut _ o na ho6,BM⟩,fun h8 hs8=>⟨_,H5,I7.turned (t':=s7.toks) (fun b o hb e=>hs8.extBut b o hb e) fC.1 fC.2.1 fC.2.2.2.1 fC.2.2.2.2.1 fC.2.2.2.2.2,qs⟩⟩
end
theorem Pu {lo:Int} {n:Nat} {tt:TT} {te:TE} {σ:St} {H:Hp} {Qd:Hp->Prop} {D:Addr} (Pv:Nat->Hp->List V->Prop) (h0:Pv 0 (AC H D (.lst [])) [])
  (hs:∀ i H2 ys (kk:Hp->List V->Prop),(∀ H' ys',Pv (i+1) H' ys'->kk H' ys')->i<n->Pv i H2 ys->H2 D=some (.lst ys)/\tt (some (.int (lo+i))::σ) H2 fun b H4 =>
   if b=true then te (some (.int (lo+i))::σ) H4 fun v H5=>H5 D=some (.lst ys)/\ys.length<sizeLine/\kk (AC H5 D (.lst (ys++[v]))) (ys++[v]) else kk H4 ys)
  (hd:∀ H2 ys,Pv n H2 ys->H2 D=some (.lst ys)/\Qd H2) :
  ∃ W:Nat->Nat->Hp->List V->Prop,(∃ m,W 0 m (AC H D (.lst [])) [])/\∀ i m H2 ys,W i m H2 ys->H2 D=some (.lst ys)/\(((CW lo n).stop i H2/\Qd H2)\/((CW lo n).go i H2/\∀ x H3,(CW lo n).yld i H2 x H3->tt (some x::σ) H3 fun b H4 =>
   if b=true then te (some x::σ) H4 fun v H5=>H5 D=some (.lst ys)/\ys.length<sizeLine/\∃ m',m'<m/\W (i+1) m' (AC H5 D (.lst (ys++[v]))) (ys++[v]) else ∃ m',m'<m/\W (i+1) m' H4 ys)) :=
 IL (Q:=fun _ H=>Qd H) Pv h0 hs hd
end L2
namespace L2
open PySem PySem.Spec PyProof.Rows
section
variable {X:Cx} {x:Str} {scope sc:Scope} {N:List Str}
theorem Wx {elt iter:Expr} {px py pos sp:Pos} {i:Nat} {y:Str} {wi:TI} {te:TE} (hNd:X.N.Nodup) (hi0:X.N[i]? = some y) (hy:Ez X.env.scope y) (hf0:X.fn y=true\/X.env.scope.names.lookup y=some .local) (hc:X.calm=true) (hsc:X.env.scope=sc) (hN:X.N=N) (O:DT x scope sc N) (hi:PI X (.Name x px) iter wi)
  (he:∀ cl C s H fp pins,PE (A7 X x scope cl C s H fp pins) elt te)
  (hs:∀ z,foldedSetIterable iter X.env z=pure z) (hsw:swapsWith (.ListComp elt [⟨.Name x px,iter,[],0⟩] scope pos) (some (.Name y py)) sp.line X.env=pure true) :
  PS X (.Assign [.Name y py] (.ListComp elt [⟨.Name x px,iter,[],0⟩] scope pos) sp) (HW (Ff wi (fun _ H Q=>Q true H) te) (Gg i)) :=
 Wy hNd hi0 hy hf0 hc hsc hN O hi (fun cl C s H fp pins pins' s' σ' H' Q I q=>wpAny_tests_nil ⟨H',I,q⟩) he hs hsw
end
end L2
namespace L2
open PySem PySem.Spec PyProof.Rows
section
variable {X:Cx} {tg:Expr}
def Uu (ta:TA):TI:=fun σ H R=>ta σ H fun vs H1=>∃ (i j c:Int) (n:Nat),vs=[.int i,.int j,.int c]/\0<c/\c<1000000/\Builtin.Range.small i j c=true/\Builtin.Range.rangeSize i j c=(n:Int)/\R (Ew i c n) H1
theorem Wn {a b d:Expr} {ta:TA} {p pos:Pos} (hg:Gl X "range") (hm:X.mg "range" = none) (ha:PA X [a,b,d] ta) (hs:starEach [a,b,d] X.env=(false,eval a X.env)::starEach [b,d] X.env:=by rfl) (hpl:(backTo pos (starEach [b,d] X.env)).any (·.1)=false:=by rfl) :
  PI X tg (.Call (.Name "range" p) [a,b,d] [] pos) (Uu ta):=by
 intro pins s σ H R I h;refine Call_ (FS I hg hm boot_range (PyProof.Rows.callWith_type1 (AQ (ha pos pins s σ H _ I h) fun us s1 ⟨vs,H1,I1,r1,q1⟩=>?_) hs hpl));obtain ⟨i,j,c,n,e,c0,c1,hsm,hn,q⟩:=q1;subst e;cases r1 with
 | cons r rr =>
  cases rr with
  | cons r' rr =>
   cases rr with
   | cons r2 rr =>
    cases rr;obtain ⟨t,rfl⟩:=r;obtain ⟨t',rfl⟩:=r';obtain ⟨t2,rfl⟩:=r2;exact call_range_3 (by lia) (aP I1 hsm hn q) (Or.inl (PyProof.noPylong_small (by lia)))
noncomputable def D5 (r:Addr) (a b c:Int):HO:=.ext fun h=>∃ t u v,h.get? r=some { cls:=.type "range",data:=.fields #[.int a t,.int b u,.int c v] }
theorem Pm:BO X (.type "range") (fun xs H Q=>∃ a b c:Int,xs=[.int a,.int b,.int c]/\0<c/\c<1000000/\∀ r,H r=none->Q (.ref r) (AC H r (D5 r a b c))):=by
 intro pins s σ H xs us Q I rs q;obtain ⟨a,b,c,rfl,c0,c1,q⟩:=q;cases rs with
 | cons r rr =>
  cases rr with
  | cons r' rr =>
   cases rr with
   | cons r2 rr =>
    cases rr;obtain ⟨t,rfl⟩:=r;obtain ⟨t',rfl⟩:=r';obtain ⟨t2,rfl⟩:=r2;refine call_range_3 (by lia) ?_ (Or.inl (PyProof.noPylong_small (by lia)))
    refine ⟨.ref s.heap.objs.size,_,I.laid (t':=s.toks) (fun b o e=>Heap.get?_push_of_some _ e) (Nat.le_refl _) (o:=D5 s.heap.objs.size a b c) ?_,rfl,q _ (I.hok.fresh (Nat.le_refl _))⟩;have e:(s.heap.push { cls:=.type "range",data:=.fields #[.int a t,.int b t',.int c t2] }).get? s.heap.objs.size=some { cls:=.type "range",data:=.fields #[.int a t,.int b t',.int c t2] }:=Heap.get?_push_size _ rfl;exact ⟨⟨_,_,_,e⟩,⟨_,e⟩,fun h1 h2 ⟨t,u,v,z⟩ k=>⟨t,u,v,k _ z⟩⟩
theorem cT {a c:Int} {n:Nat} {acc:Array Value} (h:ItemsOf (fun i v=>∃ t,v=Value.int (a+i*c) t) acc n):AW ((List.range n).map fun (i:Nat)=>V.int (a+i*c)) acc.toList:=by
 have go:∀ (l:List Value) (k:Nat),(∀ j v,l[j]? = some v->∃ t,v=Value.int (a+((k+j:Nat):Int)*c) t)->AW ((List.range' k l.length).map fun (i:Nat)=>V.int (a+i*c)) l:=by
  intro l
  induction l with
  | nil=>intro k _;exact .nil
  | cons x l ih =>
   intro k hk;rw [List.length_cons,List.range'_succ,List.map_cons];refine .cons ?_ (ih (k+1) fun j v e=>?_)
   ·obtain ⟨t,e⟩:=hk 0 x rfl
    exact ⟨t,e⟩
   ·obtain ⟨t,e⟩:=hk (j+1) v (by simpa using e)
    refine ⟨t,?_⟩;rw [e];congr 4;lia
 obtain ⟨h1,h2⟩:=h;have g:=go acc.toList 0 (fun j v e=>by
  have:=h2 j v (by simpa using e)
  simpa using this)
 rw [Array.length_toList,h1,← List.range_eq_range'] at g;exact g
theorem IJ (hc:X.calm=true):BO X (.type "list") (fun xs H Q=>∃ (r:Addr) (a b c:Int) (n:Nat),xs=[.ref r]/\H r=some (D5 r a b c)/\Builtin.Range.small a b c=true/\Builtin.Range.rangeSize a b c=(n:Int)/\n<=1000/\∀ l,H l=none->Q (.ref l) (AC H l (.lst ((List.range n).map fun (i:Nat)=>V.int (a+i*c))))):=by
 intro pins s σ H xs us Q I rs q;obtain ⟨r,a,b,c,n,rfl,hR,hsm,hn,hl,q⟩:=q;obtain ⟨u,rfl,rx⟩:=DC rs;cases rx;obtain ⟨⟨t,u,v,e⟩,_,_⟩:=I.hok r _ hR;refine call_list_range (I.ok.hd hc) (show IsRange s.heap r a b c t u v from e) hsm hn (Nat.le_trans hl (by decide)) fun h' tk acc c' kp eq it=>?_
 have hv:=cT it;refine ⟨.ref s.heap.objs.size,_,I.laid (t':=tk) kp (Nat.le_refl _) (o:=.lst ((List.range n).map fun (i:Nat)=>V.int (a+i*c))) ⟨?_,acc.toList,c',hv,?_⟩,rfl,q _ (I.hok.fresh (Nat.le_refl _))⟩
 ·rw [List.length_map,List.length_range]
  exact Nat.le_trans hl (by decide)
 ·simpa using eq
end
end L2
namespace L2
open PySem PySem.Spec PyProof.Rows
theorem HR {a b c:Int} (n:Int) (ha:0<=a) (ha':a<2000000) (hb:0<=b) (hb':b<2000000) (hc:0<c) (hc':c<2000000) (hn:Builtin.Range.rangeSize a b c=n) (n0:0<=n) (n1:n<2000000):Builtin.Range.small a b c=true:=by
 unfold Builtin.Range.small;rw [hn];have f:∀ i:Int,0<=i->i<5000000->Builtin.Range.rangeFitsLong i=true:=fun i h1 h2=>by
  unfold Builtin.Range.rangeFitsLong;simp only [Bool.and_eq_true,decide_eq_true_eq];lia
 simp only [f a ha (by lia),f b hb (by lia),f c (by lia) (by lia),f n n0 (by lia),if_pos hc,f (b+(c-1)) (by lia) (by lia),Bool.and_self,Bool.or_true,Bool.and_true]
end L2
namespace My
open PySem L2 Mt
theorem Vv (m k:Nat) (f:Int->Bool):Ec (m+k) f=Ec m f++((List.range k).map fun (i:Nat)=>((m+i:Nat):Int)).filter f:=by
 unfold Ec;rw [List.range_add,List.map_append,List.filter_append,List.map_map];rfl
theorem Ru (s:Nat) (g:Nat->Int) (f:Int->Bool) (hf:∀ i,i<s->f (g i)=false):((List.range s).map g).filter f=[]:=by
 rw [List.filter_eq_nil_iff];intro x hx;obtain ⟨i,hi,rfl⟩:=List.mem_map.mp hx;rw [hf i (List.mem_range.mp hi)];exact Bool.false_ne_true
theorem K7 (a:Nat) (g:Nat->Int) (f:Int->Bool):∀ (s:Nat),a<s->(∀ i,i<s->f (g i)=decide (i=a))->((List.range s).map g).filter f=[g a]
 | 0,h,_=>absurd h (Nat.not_lt_zero a)
 | s+1,h,hf=>by
  rw [List.range_succ,List.map_append,List.filter_append];by_cases e:a=s
  ·subst e
   rw [Ru a g f (fun i hi=>by rw [hf i (by lia)];exact decide_eq_false (by lia))]
   have:=hf a (by lia)
   simp [this]
  ·rw [K7 a g f s (by lia) (fun i hi=>hf i (by lia))]
   have:=hf s (by lia)
   rw [decide_eq_false (by lia)] at this
   simp [this]
theorem LV {s a:Nat} (h:a<s) (f:Int->Bool):∀ (N:Nat),(∀ m:Nat,m<s*N->f (m:Int)=decide (m%s=a))->Ec (s*N) f=(List.range N).map fun (i:Nat)=>(a:Int)+i*(s:Int)
 | 0,_=>by rw [Nat.mul_zero];rfl
 | N+1,hf=>by
  rw [Nat.mul_succ,Vv,LV h f N (fun m hm=>hf m (by rw [Nat.mul_succ];lia)),List.range_succ,List.map_append]
  congr 1;rw [K7 a (fun (i:Nat)=>((s*N+i:Nat):Int)) f s h (fun i hi=>by
   rw [hf (s*N+i) (by rw [Nat.mul_succ];lia),Nat.mul_add_mod,Nat.mod_eq_of_lt hi])]
  simp only [List.map_cons,List.map_nil];congr 1;rw [Int.natCast_add,Int.natCast_mul,Int.mul_comm];lia
theorem Yg {p n c m:Int} (n0:0<n) (p1:1<=p) (m0:0<=m) (m1:m<n):GI p n c n.toNat m=decide (m%((Int.gcd p n:Nat):Int)=c%((Int.gcd p n:Nat):Int)):=by
 have dp:((Int.gcd p n:Nat):Int)∣p:=Int.gcd_dvd_left p n;have dn:((Int.gcd p n:Nat):Int)∣n:=Int.gcd_dvd_right p n;rw [Bool.eq_iff_iff,decide_eq_true_iff];unfold GI;rw [List.any_eq_true];constructor
 ·rintro ⟨j,_,e⟩
  have e:=of_decide_eq_true e;refine Int.emod_eq_emod_iff_emod_sub_eq_zero.mpr (Int.emod_eq_zero_of_dvd ?_);have dv:=Int.emod_add_mul_ediv (c+(j:Int)*p) n;rw [e] at dv;have h:m-c=(j:Int)*p-n*((c+(j:Int)*p) / n):=by lia
  rw [h];exact Int.dvd_sub (Int.dvd_trans dp (Int.dvd_mul_left _ _)) (Int.dvd_trans dn (Int.dvd_mul_right _ _))
 ·intro e
  obtain ⟨k,hk⟩:=Int.dvd_of_emod_eq_zero (Int.emod_eq_emod_iff_emod_sub_eq_zero.mp e);obtain ⟨u,v,e2⟩:=PV p.natAbs n.natAbs;rw [show Nat.gcd p.natAbs n.natAbs=Int.gcd p n from rfl,Int.natAbs_of_nonneg (show 0<=p by lia),Int.natAbs_of_nonneg (show 0<=n by lia)] at e2
  have r0:=Int.emod_nonneg (u*k) (Int.ne_of_gt n0);have r1:=Int.emod_lt_of_pos (u*k) n0;have dv:=Int.emod_add_mul_ediv (u*k) n;refine ⟨((u*k)%n).toNat,List.mem_range.mpr (by lia),decide_eq_true ?_⟩
  rw [Int.toNat_of_nonneg r0];refine (FP n0 m0 m1).mp ?_;have h:c+u*k%n*p-m=n*(-(v*k)-u*k / n*p):=by
   generalize u*k%n=x at *;generalize hy:u*k / n=y at *;rw [← e2] at hk;have hx:x=u*k-n*y:=by lia
   subst hx
   grind
  rw [h];exact Int.mul_emod_right _ _
theorem Vw {p n c:Int} (n0:0<n) (p1:1<=p) (c0:0<=c):∃ N:Nat,Builtin.Range.rangeSize (c%((Int.gcd p n:Nat):Int)) n ((Int.gcd p n:Nat):Int)=(N:Int)/\(N:Int)<=n /\
  Ec n.toNat (GI p n c n.toNat)=(List.range N).map fun (i:Nat)=>c%((Int.gcd p n:Nat):Int)+i*((Int.gcd p n:Nat):Int):=by
 have gp:0<Int.gcd p n:=Int.gcd_pos_iff.mpr (.inr (by lia))
 have dn:((Int.gcd p n:Nat):Int)∣n:=Int.gcd_dvd_right p n;have sh:=fun m=>Yg (c:=c) (m:=m) n0 p1;generalize Int.gcd p n=s at *;have hn:s∣n.toNat:=Int.natCast_dvd_natCast.mp (by rw [Int.toNat_of_nonneg (by lia)];exact dn)
 obtain ⟨N,hN⟩:=hn;have a0:=Int.emod_nonneg c (show (s:Int)≠0 by lia)
 have a1:=Int.emod_lt_of_pos c (show 0<(s:Int) by lia)
 have en:n=(s:Int)*(N:Int):=by
  have:((n.toNat:Nat):Int)=((s*N:Nat):Int):=by rw [hN]
  rw [Int.natCast_mul] at this;lia
 have N1:0<N:=by
  rcases Nat.eq_zero_or_pos N with z|z
  ·subst z;simp at en;lia
  ·exact z
 refine ⟨N,?_,?_,?_⟩
 ·unfold Builtin.Range.rangeSize
  have l:(s:Int)*1<=(s:Int)*(N:Int):=Int.mul_le_mul_of_nonneg_left (by lia) (by lia)
  rw [if_pos (by lia),if_pos (by lia)]
  have h:n-c%(s:Int)-1=((s:Int)-c%(s:Int)-1)+(s:Int)*((N:Int)-1):=by rw [en,Int.mul_sub];lia
  rw [h,Int.add_mul_ediv_left _ _ (by lia),Int.ediv_eq_zero_of_lt (by lia) (by lia)]
  lia
 ·rw [en]
  have:1*(N:Int)<=(s:Int)*(N:Int):=Int.mul_le_mul_of_nonneg_right (by lia) (by lia)
  lia
 ·rw [hN,LV (s:=s) (a:=(c%(s:Int)).toNat) (by lia) _ N (fun m hm=>?_)]
  ·rw [Int.toNat_of_nonneg a0]
  ·rw [← hN,sh _ (by lia) (by lia)]
   congr 1;rw [← Int.natCast_emod];apply propext;lia
end My
namespace L2
open PySem PySem.Spec PyProof.Rows
section
variable {κ:Type} [DecidableEq κ]
noncomputable def BS (kvs:List (κ × V)) (k:κ):Option V:=(kvs.find? fun kv=>decide (kv.1=k)).map (·.2)
noncomputable def BI (kvs:List (κ × V)) (k:κ) (v:V):List (κ × V) :=
 if (kvs.any fun kv=>decide (kv.1=k))=true then kvs.map (fun kv=>if kv.1=k then (kv.1,v) else kv) else kvs++[(k,v)]
theorem Jw {p:κ × V} {r:List (κ × V)} {k:κ} (e:p.1=k):BS (p::r) k=some p.2:=by simp [BS,List.find?_cons,e]
theorem Jv {p:κ × V} {r:List (κ × V)} {k:κ} (e:¬ p.1=k):BS (p::r) k=BS r k:=by simp [BS,List.find?_cons,e]
theorem Op (k:κ):∀ kvs:List (κ × V),(kvs.any fun kv=>decide (kv.1=k))=(BS kvs k).isSome
 | []=>rfl
 | p::r=>by
  rw [List.any_cons];by_cases e:p.1=k
  ·simp only [Jw e,decide_eq_true e,Bool.true_or,Option.isSome_some]
  ·rw [Jv e,decide_eq_false e,Bool.false_or];exact Op k r
theorem Il (kvs:List (κ × V)) (k:κ) (v:V):(BI kvs k v).length<=kvs.length+1:=by
 unfold BI;split
 ·rw [List.length_map];lia
 ·rw [List.length_append,List.length_cons,List.length_nil];lia
theorem Bi.isSome_eq {o:Option V} {u:Option Value} (r:Bi o u):o.isSome=u.isSome:=by
 cases o with
 | none=>cases u with
  | none=>rfl
  | some _=>exact (show False from r).elim
 | some _=>cases u with
  | none=>exact (show False from r).elim
  | some _=>rfl
theorem KV.val {kvs:List (κ × V)} {vs:List (κ × Value)} (r:KV kvs vs) (k:κ):Bi (BS kvs k) (valueAt vs k):=by
 unfold KV at r
 induction r with
 | nil=>exact True.intro
 | @cons p q ps qs h t ih =>
  obtain ⟨h1,h2⟩:=h;by_cases e:p.1=k
  ·have e':q.1=k:=h1.symm.trans e
   have b:valueAt (q::qs) k=some q.2:=by simp [valueAt,List.find?_cons,e']
   rw [Jw e,b];exact h2
  ·have e':¬ q.1=k:=fun z=>e (h1.trans z)
   have b:valueAt (q::qs) k=valueAt qs k:=by simp [valueAt,List.find?_cons,e']
   rw [Jv e,b];exact ih
theorem KV.any {kvs:List (κ × V)} {vs:List (κ × Value)} (r:KV kvs vs) (k:κ):(kvs.any fun kv=>decide (kv.1=k))=vs.any fun kv=>decide (kv.1=k):=by
 unfold KV at r
 induction r with
 | nil=>rfl
 | cons h t ih=>rw [List.any_cons,List.any_cons,ih,h.1]
theorem KV.repl {kvs:List (κ × V)} {vs:List (κ × Value)} (r:KV kvs vs) (k:κ) {y:V} {u:Value} (ry:AU y u) :
  KV (kvs.map fun kv=>if kv.1=k then (kv.1,y) else kv) (vs.map fun kv=>if kv.1=k then (kv.1,u) else kv):=by
 unfold KV at r ⊢
 induction r with
 | nil=>exact .nil
 | @cons p q ps qs h t ih =>
  rw [List.map_cons,List.map_cons];refine .cons ?_ ih;obtain ⟨h1,h2⟩:=h;by_cases e:p.1=k
  ·rw [if_pos e,if_pos (h1.symm.trans e)];exact ⟨h1,ry⟩
  ·rw [if_neg e,if_neg (fun z=>e (h1.trans z))];exact ⟨h1,h2⟩
theorem KV.put {kvs:List (κ × V)} {vs:List (κ × Value)} (r:KV kvs vs) (k:κ) {y:V} {u:Value} (ry:AU y u):KV (BI kvs k y) (stored vs k u):=by
 unfold BI stored;rw [r.any k];by_cases e:(vs.any fun kv=>decide (kv.1=k))=true
 ·rw [if_pos e,if_pos e];exact r.repl k ry
 ·rw [if_neg e,if_neg e];exact Paired.snoc r ⟨rfl,ry⟩
theorem KV.length {kvs:List (κ × V)} {vs:List (κ × Value)} (r:KV kvs vs):kvs.length=vs.length:=Paired.length r
end
theorem Gp {P:Program} {w:World} {k:Ac} {u:Value} (r:AU (kV k) u):(Bx P w).is k u=true:=by
 cases k with
 | inl i=>obtain ⟨t,e⟩:=(show ∃ t,u=Value.int i t from r);subst e;exact Vz P w i t
 | inr x=>obtain ⟨t,e⟩:=(show ∃ t,u=Value.str x t from r);subst e;exact V0 P w x t
theorem LI {P:Program} {w:World}:∀ {ks:List Ac} {us:List Value},AW (ks.map kV) us->ItemsAre (Bx P w) ks us
 | [],_,r=>by rw [List.map_nil] at r;cases r;exact .nil
 | k::ks,_,r=>by
  rw [List.map_cons] at r;cases r with
  | cons h t=>exact .cons (Gp h) (LI t)
abbrev KT (H:Hp):List (List Ac × V)->List (List Ac × Addr × Value)->Prop:=Paired fun p q=>p.1=q.1/\H q.2.1=some (.tup (p.1.map kV))/\AU p.2 q.2.2
theorem KT.val {H:Hp} {kvs:List (List Ac × V)} {xs:List (List Ac × Addr × Value)} (r:KT H kvs xs) (k:List Ac):Bi (BS kvs k) ((atKey xs k).map (·.2)):=by
 induction r with
 | nil=>exact True.intro
 | @cons p q ps qs h t ih =>
  obtain ⟨h1,_,h2⟩:=h;by_cases e:p.1=k
  ·have e':q.1=k:=h1.symm.trans e
   have b:atKey (q::qs) k=some q.2:=by simp [atKey,List.find?_cons,e']
   rw [Jw e,b];exact h2
  ·have e':¬ q.1=k:=fun z=>e (h1.trans z)
   have b:atKey (q::qs) k=atKey qs k:=by simp [atKey,List.find?_cons,e']
   rw [Jv e,b];exact ih
theorem KT.repl {H:Hp} {kvs:List (List Ac × V)} {xs:List (List Ac × Addr × Value)} (r:KT H kvs xs) (k:List Ac) {y:V} {u:Value} (ry:AU y u) :
  KT H (kvs.map fun kv=>if kv.1=k then (kv.1,y) else kv) (xs.map (putAt k u)):=by
 induction r with
 | nil=>exact .nil
 | @cons p q ps qs h t ih =>
  rw [List.map_cons,List.map_cons];refine .cons ?_ ih;obtain ⟨h1,h2,h3⟩:=h;unfold putAt;by_cases e:p.1=k
  ·rw [if_pos e,if_pos (h1.symm.trans e)];exact ⟨h1,h2,ry⟩
  ·rw [if_neg e,if_neg (fun z=>e (h1.trans z))];exact ⟨h1,h2,h3⟩
theorem KT.put {H:Hp} {kvs:List (List Ac × V)} {xs:List (List Ac × Addr × Value)} (r:KT H kvs xs) (k:List Ac) {b:Addr} {y:V} {u:Value} (hb:H b=some (.tup (k.map kV))) (ry:AU y u) :
  KT H (BI kvs k y) (storedH xs k b u):=by
 have e:(kvs.any fun kv=>decide (kv.1=k))=(atKey xs k).isSome:=by
  rw [Op,(r.val k).isSome_eq,Option.isSome_map]
 unfold BI storedH;rw [e];by_cases q:(atKey xs k).isSome=true
 ·rw [if_pos q,if_pos q];exact r.repl k ry
 ·rw [if_neg q,if_neg q];exact Paired.snoc r ⟨rfl,hb,ry⟩
theorem KT.keeps {H H':Hp} {kvs:List (List Ac × V)} {xs:List (List Ac × Addr × Value)} (r:KT H kvs xs) (ht:∀ b ys,H b=some (.tup ys)->H' b=some (.tup ys)):KT H' kvs xs :=
 Paired.mapP r fun _ _ z=>⟨z.1,ht _ _ z.2.1,z.2.2⟩
section
variable {P:Program} {w:World} {H:Hp} {h:Heap} {a:Addr}
theorem Lr {u:HO} (ok:Ak P w H h) (e:Rd H a u):Av P w H h a u:=e.ok ok
theorem Gb {kvs:List (Ac × V)} (ok:Ak P w H h) (e:Rd H a (.dK kvs)):kvs.length<=sizeLine/\(a==sysModules)=false/\∃ vs,KV kvs vs/\h.DictOf (Bx P w) a vs :=
 show Av P w H h a (.dK kvs) from Lr ok e
theorem K1 {kvs:List (Ac × V)} (ok:Ak P w H h) (e:H a=some (.dK kvs)):kvs.length<=sizeLine/\(a==sysModules)=false/\∃ vs,KV kvs vs/\h.DictOf (Bx P w) a vs:=Gb ok (.inl e)
theorem Ii {ks:List Ac} (ok:Ak P w H h) (e:H a=some (.tup (ks.map kV))):(tupleKind (Bx P w)).is h ks a:=by
 obtain ⟨_,its,r,o,h1,h2,n,h3⟩:=(show Av P w H h a (.tup (ks.map kV)) from ok a _ e);exact ⟨o,its.toArray,n,h1,h2,h3,by simpa using LI r⟩
theorem Ib {kvs:List (List Ac × V)} (ok:Ak P w H h) (e:Rd H a (.dT kvs)):kvs.length<=sizeLine/\(a==sysModules)=false /\
  ∃ xs,KT H kvs xs/\h.DictOfH (tupleKind (Bx P w)) a xs:=by
 obtain ⟨z,y,xs,r,o,es,ep,h1,h2,h3,h4,h5⟩:=(show Av P w H h a (.dT kvs) from Lr ok e);refine ⟨z,y,xs,r,o,es,ep,h1,h2,h3,h4,fun x hx=>?_,h5⟩;have all:∀ {l:List (List Ac × V)} {m:List (List Ac × Addr × Value)},KT H l m->∀ x∈m,(tupleKind (Bx P w)).is h x.1 x.2.1:=by
  intro l m q
  induction q with
  | nil=>intro x hx;exact nomatch hx
  | @cons p q ps qs hq t ih =>
   intro x hx;rcases List.mem_cons.mp hx with e|hx
   ·subst e
    exact Ii ok (by rw [← hq.1];exact hq.2.1)
   ·exact ih x hx
 exact all r x hx
theorem Rh {kvs:List (List Ac × V)} (ok:Ak P w H h) (e:H a=some (.dT kvs)):kvs.length<=sizeLine/\(a==sysModules)=false /\
  ∃ xs,KT H kvs xs/\h.DictOfH (tupleKind (Bx P w)) a xs:=Ib ok (.inl e)
end
def Hl (H:Hp) (a:Addr) (y:V) (r:Option V):Prop :=
 (∃ kvs k,Rd H a (.dK kvs)/\y=kV k/\r=BS kvs k)\/∃ kvs k b,Rd H a (.dT kvs)/\y = .ref b/\H b=some (.tup (k.map kV))/\r=BS kvs k
def Br (H:Hp) (a:Addr) (y v:V) (H':Hp):Prop :=
 (∃ kvs k,H a=some (.dK kvs)/\y=kV k/\kvs.length<sizeLine/\H'=AC H a (.dK (BI kvs k v))) \/
 ∃ kvs k b,H a=some (.dT kvs)/\y = .ref b/\H b=some (.tup (k.map kV))/\kvs.length<sizeLine/\H'=AC H a (.dT (BI kvs k v))
theorem Br.k {H:Hp} {a:Addr} {kvs:List (Ac × V)} {k:Ac} {v:V} (e:H a=some (.dK kvs)) (hl:kvs.length<sizeLine):Br H a (kV k) v (AC H a (.dK (BI kvs k v))):=.inl ⟨kvs,k,e,rfl,hl,rfl⟩
section
variable {X:Cx} {pins:zR} {σ:St} {H:Hp} {s:Shared} {a:Addr} {y v:V} {u r:Value} {o:Option V} {A:Around} {E:Value->Shared->Prop}
theorem AD.big (I:AD X pins σ H s):sysModules<s.heap.objs.size:=by
 have h:mainGlobals<s.heap.objs.size:=(I.mod.glob.keeps I.bk).lt;exact Nat.lt_trans (by decide) h
theorem QU {Q:Value->Shared->Prop} (hu:A.units+1<cLine) (I:AD X pins σ H s) (g:Hl H a y (some v)) (ry:AU y u) (h:∀ w' s',AD X pins σ H s'->AU v w'->Q w' s') :
  wpAny (model X.prog X.w) A (getItem (.ref a) u) Q E s:=by
 rcases g with ⟨kvs,k,e,ey,l⟩|⟨kvs,k,b,e,ey,eb,l⟩
 ·subst ey
  obtain ⟨z,hd,vs,rel,dd⟩:=Gb I.hok e;obtain ⟨w',hw,rw'⟩:=Bi.some_of (v:=v) (o:=valueAt vs k) (by rw [l];exact rel.val k)
  exact wpAny_getItem_of (Gp ry) dd.mapOf hw (h w' _ (I.tok _) rw')
 ·subst ey
  cases (show u=Value.ref b from ry);obtain ⟨z,hd,xs,rel,dd⟩:=Ib I.hok e;obtain ⟨w',hw,rw'⟩:=Bi.some_of (v:=v) (o:=(atKey xs k).map (·.2)) (by rw [l];exact rel.val k)
  obtain ⟨p,hp,hp2⟩:=Option.map_eq_some_iff.mp hw;refine wpAny_getItem_heap (tupleKind_room_in1 hu) (Ii I.hok eb) dd hp ?_;rw [hp2];exact h w' _ (I.tok _) rw'
theorem IZ {h':Heap} {t':Nat} {ob:HO} (I:AD X pins σ H s) (mu:Fk (H a)) (hs:Heap.SameBut a s.heap h') (he:∃ q,h'.get? a=some q) (new:Av X.prog X.w (AC H a ob) h' a ob) :
  AD X pins σ (AC H a ob) { s with heap:=h',toks:=t' } :=
 I.write (x:=a) (e:=a) mu (.inl rfl) (fun b q hb z=>(hs.2 b hb).trans z) he new
theorem Ia {P:Program} {w:World} {H':Hp} {h':Heap} {kvs:List (Ac × V)} {vs:List (Ac × Value)} (z:kvs.length<=sizeLine) (hd:(a==sysModules)=false) (rel:KV kvs vs) (dd:h'.DictOf (Bx P w) a vs) :
  Av P w H' h' a (.dK kvs):=⟨z,hd,vs,rel,dd⟩
theorem RZ {H':Hp} {Q:Unit->Shared->Prop} (hu:A.units+1<cLine) (I:AD X pins σ H s) (g:Br H a y v H') (ry:AU y u) (rv:AU v r) (h:∀ s',AD X pins σ H' s'->Q () s') :
  wpAny (model X.prog X.w) A (setItem (.ref a) u r) Q E s:=by
 rcases g with ⟨kvs,k,e,ey,l,eH⟩|⟨kvs,k,b,e,ey,eb,l,eH⟩
 ·subst ey eH
  obtain ⟨z,hd,vs,rel,dd⟩:=K1 I.hok e;have hz:vs.length<=sizeLine:=by rw [← rel.length];exact z
  have hl:(BI kvs k v).length<=sizeLine:=by have:=Il kvs k v;lia
  refine wpAny_setItem_pairs (hsz:=hz) (Gp ry) dd fun h' dd' hs=>h _ ?_;have he:∃ q,h'.get? a=some q:=let ⟨q,_,_,hq,_⟩:=dd';⟨q,hq⟩;exact IZ I (by rw [e];exact True.intro) hs he (Ia hl hd (rel.put k rv) dd')
 ·subst ey eH
  cases (show u=Value.ref b from ry);obtain ⟨z,hd,xs,rel,dd⟩:=Rh I.hok e;have hz:xs.length<=sizeLine:=by rw [← Paired.length rel];exact z
  have hl:(BI kvs k v).length<=sizeLine:=by have:=Il kvs k v;lia
  refine wpAny_setItem_heap (hsz:=hz) (tupleKind_room_in1 hu) (Ii I.hok eb) dd fun h' dd' hs=>h _ ?_;obtain ⟨q,es,ep,hq,h2,h3,h4,_,h5⟩:=dd';refine IZ I (by rw [e];exact True.intro) hs ⟨q,hq⟩ ⟨hl,hd,_,(rel.put k eb rv).keeps fun c ys ec=>?_,q,es,ep,hq,h2,h3,h4,h5⟩
  rw [uN (WE ec e (fun z=>nomatch z))];exact ec
end
section
variable {X:Cx} {pins:zR} {σ:St} {H:Hp} {s:Shared} {a:Addr} {kvs:List (Ac × V)} {k:Ac} {u:Value} {A:Around} {E:Value->Shared->Prop}
end
def J4 (i:Expr):Prop:=∀ ov iv,subscripted i false ov iv=operate [ov,iv] (getItem ov iv)
theorem aQ {prog:Program} {w:World} {A:Around} {E:Value->Shared->Prop} {s:Shared} {env:Env} {value slice:Expr} {pos:Pos} {T id:String} {Q:Value->Shared->Prop}
  (hl:typeLookup (.type T) "__getitem__" = pure (some (.builtin id))) (hs:J4 slice)
  (h:wpAny (model prog w) A (eval value env) (fun o s₁=>wpAny (model prog w) A (eval slice env) (fun i s₂=>s₂.TypeIs o T/\wpAny (model prog w) A (getItem o i) Q E s₂) E s₁) E s) :
  wpAny (model prog w) A (eval (.Subscript value slice pos) env) Q E s:=by
 refine Subscript_ (wpAny_mono h (fun o s₁ h₁=>wpAny_mono h₁ (fun i s₂ h₂=>?_) fun _ _ x=>x) fun _ _ x=>x);obtain ⟨hT,h₂⟩:=h₂;unfold subscriptTail;refine wpAny_bind ?_;rw [getitemInPython_of_ne hT.not_modules];refine wpAny_bind (wpAny_specialOf hT hl ?_);have fin:wpAny (model prog w) A (subscripted slice false o i) (fun r s₃=>wpAny (model prog w) A (letTemporaryGo value o r>>=fun _=>pure r) Q E s₃) E s₂:=by
  rw [hs o i];exact wpAny_operating (wpAny_mono h₂ (fun r s₃ h₃=>wpAny_bind (wpAny_letTemporaryGo (wpAny_pure h₃))) fun _ _ x=>x)
 first
  | exact wpAny_pure (wpAny_bind fin)
  | exact wpAny_bind (wpAny_pure (wpAny_bind fin))
  | exact wpAny_bind fin
theorem Rc {X:Cx} {pins:zR} {σ:St} {H:Hp} {s:Shared} {a:Addr} {y:V} {o:Option V} (I:AD X pins σ H s) (g:Hl H a y o):s.TypeIs (.ref a) "dict":=by
 rcases g with ⟨kvs,k,e,_,_⟩|⟨kvs,k,b,e,_,_,_⟩
 ·obtain ⟨_,_,vs,_,dd⟩:=Gb I.hok e
  exact dd.typeIs
 ·obtain ⟨_,_,xs,_,dd⟩:=Ib I.hok e
  exact dd.typeIs
def aX (td ty:TE):TE:=fun σ H Q=>td σ H fun x H1=>ty σ H1 fun y H2=>∃ a v,x = .ref a/\Hl H2 a y (some v)/\Q v H2
def XN (td ty tv:TE):TS:=fun D σ H=>tv σ H fun v H1=>td σ H1 fun x H2=>ty σ H2 fun y H3=>∃ a H4,x = .ref a/\Br H3 a y v H4/\D.nx σ H4
section
variable {X:Cx} {o i e value:Expr} {pos pos' tpos:Pos} {td ty tv:TE}
theorem qN (hu:X.A.units+1<cLine) (ho:PE X o td) (hi:PE X i ty) (hs:J4 i):PE X (.Subscript o i pos) (aX td ty):=by
 intro pins s σ H Q I h;refine aQ PySem.F.slot_dict_getitem.lookup hs (AQ (ho pins s σ H _ I h) fun u s1 ⟨x,H1,I1,rx,q1⟩=>AQ (hi pins s1 σ H1 _ I1 q1) fun iv s2 ⟨y,H2,I2,ry,a,v,ex,g,q2⟩=>?_);subst ex;obtain rfl:u=Value.ref a:=rx;exact ⟨Rc I2 g,QU hu I2 g ry fun w' s3 I3 rw'=>⟨v,H2,I3,rw',q2⟩⟩
theorem DO (hu:X.A.units+1<cLine) (ho:PE X o td) (hi:PE X i ty) (hv:PE X value tv) (hs:swapsWith value (some (.Subscript o i pos')) pos.line X.env=pure false) :
  PS X (.Assign [.Subscript o i pos'] value pos) (XN td ty tv):=by
 intro pins s σ H D I h;refine wpAny_Assign_Subscript (AQ (hv pins s σ H _ I h) fun r s1 ⟨v,H1,I1,rv,q1⟩=>AQ (ho pins s1 σ H1 _ I1 q1) fun u s2 ⟨x,H2,I2,rx,q2⟩=>AQ (hi pins s2 σ H2 _ I2 q2) fun iv s3 ⟨y,H3,I3,ry,a,H4,ex,g,q3⟩=>?_) hs;subst ex;obtain rfl:u=Value.ref a:=rx;exact RZ hu I3 g ry rv fun s4 I4=>⟨σ,H4,I4,q3⟩
end
theorem Rf {P:Program} {w:World} {H:Hp} (h:Heap) (hb:sysModules<h.objs.size):Av P w H (h.push { cls:=.type "dict",data:=.dict #[] }) h.objs.size (.dK []) :=
 ⟨Nat.zero_le _,beq_eq_false_iff_ne.mpr (Ne.symm (Nat.ne_of_lt hb)),[],.nil,Heap.DictOf.new h⟩
section
variable {X:Cx} {pos:Pos}
end
def Js:List (TE × TE)->St->Hp->(List (V × V)->Hp->Prop)->Prop
 | [],_,H,Q=>Q [] H
 | (tk,tv)::r,σ,H,Q=>tk σ H fun x H1=>tv σ H1 fun y H2=>Js r σ H2 fun ps H3=>Q ((x,y)::ps) H3
abbrev VV:List (V × V)->List (Value × Value)->Prop:=Paired fun p q=>AU p.1 q.1/\AU p.2 q.2
def GS (X:Cx) (pos:Pos) (keys:List (Option Expr)) (values:List Expr) (trs:List (TE × TE)):Prop :=
 ∀ (pins:zR) (s:Shared) (σ:St) (H:Hp) (Q:List (V × V)->Hp->Prop),AD X pins σ H s->Js trs σ H Q ->
  wpAny (model X.prog X.w) X.A (evalPairs (pairTrees keys values X.env pos)) (fun vs s'=>∃ ps H',AD X pins σ H' s'/\VV ps vs/\Q ps H') X.xe s
theorem Wv {X:Cx} {pos:Pos}:GS X pos [] [] []:=fun pins s σ H Q I h=>pairTrees_nil_walk ⟨[],H,I,.nil,h⟩
theorem Do {X:Cx} {pos:Pos} {k v:Expr} {ks:List (Option Expr)} {vs:List Expr} {tk tv:TE} {trs:List (TE × TE)} (hk:PE X k tk) (hv:PE X v tv) (hr:GS X pos ks vs trs) :
  GS X pos (some k::ks) (v::vs) ((tk,tv)::trs):=fun pins s σ H Q I h =>
 pairTrees_cons_walk (AQ (hk pins s σ H _ I h) fun u s1 ⟨x,H1,I1,rx,q1⟩=>AQ (hv pins s1 σ H1 _ I1 q1) fun w2 s2 ⟨y,H2,I2,ry,q2⟩ =>
  AQ (hr pins s2 σ H2 _ I2 q2) fun ws s3 ⟨ps,H3,I3,rel,q3⟩=>⟨(x,y)::ps,H3,I3,.cons ⟨rx,ry⟩ rel,q3⟩)
noncomputable def FU (kvs more:List (Ac × V)):List (Ac × V):=more.foldl (fun acc kv=>BI acc kv.1 kv.2) kvs
theorem KV.merge:∀ {more:List (Ac × V)} {rs:List (Ac × Value)} {kvs:List (Ac × V)} {vs:List (Ac × Value)},KV more rs->KV kvs vs->KV (FU kvs more) (merged vs rs):=by
 intro more rs kvs vs r;unfold KV at r
 induction r generalizing kvs vs with
 | nil=>intro q;exact q
 | @cons p q ps qs h t ih =>
  intro r0;have e:KV (BI kvs p.1 p.2) (stored vs q.1 q.2):=by
   have:=r0.put p.1 h.2;rw [← h.1];exact this
  exact ih e
theorem LO:∀ (more kvs:List (Ac × V)),(FU kvs more).length<=kvs.length+more.length
 | [],kvs=>by show kvs.length<=kvs.length+0;lia
 | p::r,kvs=>by
  have h1:=LO r (BI kvs p.1 p.2);have h2:=Il kvs p.1 p.2;show (FU (BI kvs p.1 p.2) r).length<=_;rw [List.length_cons];lia
theorem KW {P:Program} {w:World}:∀ {kvs:List (Ac × V)} {ws:List (Value × Value)},VV (kvs.map fun kv=>(kV kv.1,kv.2)) ws->∃ rs,Carries (Bx P w) ws rs/\KV kvs rs
 | [],_,r=>by rw [List.map_nil] at r;cases r;exact ⟨[],True.intro,.nil⟩
 | p::kvs,_,r=>by
  rw [List.map_cons] at r;cases r with
  | @cons a b as bs h t =>
   obtain ⟨rs,c,q⟩:=KW (P:=P) (w:=w) t;obtain ⟨b1,b2⟩:=b;exact ⟨(p.1,b2)::rs,⟨Gp h.1,rfl,c⟩,.cons ⟨rfl,h.2⟩ q⟩
def aY (trs:List (TE × TE)):TE:=fun σ H Q=>∀ p,H p=none->Js trs σ (AC H p (.dK [])) fun ps H2=>H2 p=some (.dK [])/\∃ kvs:List (Ac × V),ps=kvs.map (fun kv=>(kV kv.1,kv.2))/\kvs.length<=15/\Q (.ref p) (AC H2 p (.dK (FU [] kvs)))
theorem We {X:Cx} {pos:Pos} {keys:List (Option Expr)} {values:List Expr} {trs:List (TE × TE)} (h:GS X pos keys values trs) (hall:keys.all (·.isSome)=true) (hl:keys.length=values.length) (h0:keys≠[])
  (h15:keys.length<=15):PE X (.Dict keys values pos) (aY trs):=by
 intro pins s σ H Q I q;have hn:=I.hok.fresh (Nat.le_refl s.heap.objs.size);have I1:=I.laid (a:=s.heap.objs.size) (o:=.dK []) (h':=s.heap.push { cls:=.type "dict",data:=.dict #[] }) (t':=s.toks) (fun _ _ q=>Heap.get?_push_of_some _ q) (Nat.le_refl _) (Rf s.heap I.big);refine wpAny_Dict_walk (knd:=Bx X.prog X.w) hall hl h0 h15 (AQ (h pins _ σ _ _ I1 (q _ hn)) fun ws s2 ⟨ps,H2,I2,rel,e,kvs,ep,lk,q2⟩=>?_);subst ep;obtain ⟨rs,c,rk⟩:=KW (P:=X.prog) (w:=X.w) rel;obtain ⟨z,hd,vs0,r0,dd⟩:=K1 I2.hok e;cases r0;refine ⟨rs,c,dd,fun h' dd' hs=>⟨.ref s.heap.objs.size,_,?_,rfl,q2⟩⟩;have hz:(FU [] kvs).length<=sizeLine:=by
  have h1:=LO kvs [];rw [List.length_nil] at h1;rw [sizeLine_eq];lia
 have he:∃ q,h'.get? s.heap.objs.size=some q:=let ⟨q,_,_,hq,_⟩:=dd';⟨q,hq⟩;exact IZ I2 (by rw [e];exact True.intro) hs he (Ia hz hd (rk.merge .nil) dd')
structure M1 (X:Cx) (o:Expr) (m:Str) (apos:Pos) (e:Expr) (cpos:Pos):Prop where
 base:attributeBase o m X.env (eval o X.env)=eval o X.env
 few:((backTo cpos (starEach [e] X.env)).all (fun x=>!x.1)&&(backToKw cpos (keywordEach [] X.env)).all (fun x=>x.1.isSome)
  && decide (([e]:List Expr).length+([]:List Keyword).length+(if ([]:List Keyword).isEmpty then 0 else 1)<30))=true
 line:(apos.endLine==cpos.line)=true
 trees:backTo cpos (starEach [e] X.env)=[(false,eval e X.env)]
structure M2 (X:Cx) (o:Expr) (m:Str) (apos:Pos) (e f:Expr) (cpos:Pos):Prop where
 base:attributeBase o m X.env (eval o X.env)=eval o X.env
 few:((backTo cpos (starEach [e,f] X.env)).all (fun x=>!x.1)&&(backToKw cpos (keywordEach [] X.env)).all (fun x=>x.1.isSome)
  && decide (([e,f]:List Expr).length+([]:List Keyword).length+(if ([]:List Keyword).isEmpty then 0 else 1)<30))=true
 line:(apos.endLine==cpos.line)=true
 trees:backTo cpos (starEach [e,f] X.env)=[(false,eval e X.env),(false,eval f X.env)]
section
variable {X:Cx} {pins:zR} {σ:St} {H:Hp} {s:Shared} {a:Addr} {y d:V} {u r:Value} {o:Option V} {A:Around} {E:Value->Shared->Prop}
end
section
variable {X:Cx} {o e f:Expr} {apos cpos:Pos} {td ty tx:TE}
end
section
variable {X:Cx} {pins:zR} {σ:St} {H:Hp} {s:Shared} {a:Addr} {kvs:List (Ac × V)} {A:Around} {E:Value->Shared->Prop}
theorem QC {Q:Value->Shared->Prop} (I:AD X pins σ H s) (e:Rd H a (.dK kvs)) (h:∀ p s',H p=none->AD X pins σ (AC H p (.dK kvs)) s'->Q (.ref p) s'):wpAny (model X.prog X.w) A (call (.type "dict") [.ref a]) Q E s:=by
 obtain ⟨z,hd,vs,rel,dd⟩:=Gb I.hok e;refine kt_call_dict hd dd (by rw [← rel.length];exact z) fun h' dd' hs=>?_
 refine h _ _ (I.hok.fresh (Nat.le_refl _)) (I.laid (a:=s.heap.objs.size) (o:=.dK kvs) (t':=s.toks) (fun b q hq=>?_) (Nat.le_refl _) (Ia z (beq_eq_false_iff_ne.mpr (Ne.symm (Nat.ne_of_lt I.big))) rel dd'));exact (hs.2 b (Nat.ne_of_lt (Heap.lt_size hq))).trans (Heap.get?_push_of_some _ hq)
end
section
variable {X:Cx} {pins:zR} {σ:St} {H:Hp} {s:Shared} {a:Addr} {y:V} {u:Value} {A:Around} {E:Value->Shared->Prop}
end
end L2
namespace L2
open PySem PySem.Spec PyProof.Rows
structure Fi (P:Program) (w:World) (outer:List Env) (H:Hp) (s:Shared) (a:Addr) (C:Value) (H':Hp) (s':Shared):Prop where
 os:s'.os=s.os
 bare:AllBare s'.gens
 un:Un (Ap outer) [] H H' s.heap s'.heap
 hok:Ak P w H' s'.heap
 fl:∃ (B:Heap) (a0:Value),Heap.FlyingW B outer a C a0 s'.heap/\(∀ b o,s.heap.get? b=some o->b ∉ Ap outer->∃ o',B.get? b=some o')/\∀ b o,H' b=some o->∃ o',B.get? b=some o'
def B7 (P:Program) (w:World):CA:=fun outer H s E e s'=>∃ (a:Addr) (C:Value) (H':Hp),e = .ref a/\Fi P w outer H s a C H' s'/\E C none H'
theorem B7.no {P:Program} {w:World} {outer:List Env} {H:Hp} {s s':Shared} {e:Value} (h:B7 P w outer H s E0 e s'):False:=by
 obtain ⟨_,_,_,_,_,z⟩:=h;exact z
section
variable {X:Cx} {pins:zR} {σ:St} {H H':Hp} {s s':Shared}
structure DG (X:Cx):Prop where
 stk:X.stack=X.env::X.outer
 fr:X.env.frame=some X.env.locals
 ex:X.ex=[]
theorem DG.mem (hB:DG X) {b:Addr}:b∈Ap X.stack↔b=X.env.locals\/b∈X.fs:=by
 unfold Cx.fs Ap;rw [hB.stk,List.filterMap_cons,hB.fr];exact List.mem_cons
theorem Up {P:Program} {w:World} {h h':Heap} (x:Ak P w H h) (k:∀ b o u,H b=some o->h.get? b=some u->h'.get? b=some u):Ak P w H h':=fun a o e =>
 (x a o e).stay (fun b u hb q=>by
  rcases hb with z|z
  ·subst z;exact k b o u e q
  ·exact k b _ u z q) (fun _ q=>q) fun _ _ q=>q
theorem Rw {P:Program} {w:World} {h h' B:Heap} (x:Ak P w H h) (inB:∀ b o,H b=some o->∃ o',B.get? b=some o') (k1:B.StaysIn h) (k2:B.StaysIn h'):Ak P w H h' :=
 Up x fun b o u e q=>by
  obtain ⟨o',z⟩:=inB b o e;have:=k1 b o' z;rw [q] at this;cases this;exact k2 b _ z
theorem AD.caught {a:Addr} {C:Value} {h6 B:Heap} {t':Nat} (hB:DG X) (I:AD X pins σ H s) (un:Un (Ap X.stack) [] H H' s.heap s'.heap) (hok:Ak X.prog X.w H' s'.heap) (os:s'.os=s.os) (bare:AllBare s'.gens)
  (k1:B.StaysIn s'.heap) (k2:B.StaysIn h6) (up:s'.heap.UpToSlots h6) (inB:∀ b o,s.heap.get? b=some o->b ∉ Ap X.stack->∃ o',B.get? b=some o') (tr:∀ b o,H' b=some o->∃ o',B.get? b=some o') :
  AD X pins σ H' { s' with heap:=h6,toks:=t' }:=by
 have nA:∀ b:Addr,b ∉ ([]:List Addr):=fun b=>by simp
 have fre:∀ b,b∈Ap X.stack->H b=none:=I.stkFree;have fro:∀ b,b∈Ap X.stack->∀ o,s.heap.get? b=some o->∃ sl,h6.get? b=some { o with slots:=sl }:=fun b hb o e=>by
  obtain ⟨sl,e1⟩:=un.slot b o e (fre b hb) hb (nA b);obtain ⟨o2,e2,nf⟩:=(I.stack.mem hb).2;rw [e] at e2;cases e2;obtain ⟨sl2,e3⟩:=up b _ e1 nf;exact ⟨sl2,e3⟩
 have key:=I.step (h':=h6) (H':=H') (g':=s'.gens) (t':=t') (d':=s'.drawn) (ch:=[]) (fun b hb=>absurd hb (nA b))
  (fun b o h1 h2 _ e n=>by
   have hb:b ∉ Ap X.stack:=fun z=>(hB.mem.mp z).elim h1 h2;have e1:=un.keep b o e n hb (nA b);obtain ⟨o',z⟩:=inB b o e hb;have:=k1 b o' z;rw [e1] at this;cases this;exact k2 b _ z)
  (fun b o h1 h2 _ e n=>fro b (hB.mem.mpr (.inr h2)) o e)
  (fun b o _ e n=>un.free b o e n (nA b))
  (fun b o _ e=>by
   by_cases hb:b∈Ap X.stack
   ·obtain ⟨sl,z⟩:=fro b hb o e
    exact ⟨_,z⟩
   ·obtain ⟨o',z⟩:=inB b o e hb
    exact ⟨o',k2 b _ z⟩)
  un.tups un.frzs un.tbls
  (fun m hn=>by
   obtain ⟨o,es,ep,ho,hd,r⟩:=hn;obtain ⟨sl,z⟩:=fro _ (hB.mem.mpr (.inl rfl)) o ho;exact ⟨_,es,ep,z,hd,r⟩)
  (Rw hok tr k1 k2) bare
 obtain ⟨hh,g,d,t,os'⟩:=s';obtain rfl:os'=s.os:=os;exact key
theorem AD.flown {a:Addr} {C a0:Value} {h6 B:Heap} (hB:DG X) (I:AD X pins σ H s) (un:Un (Ap X.stack) [] H H' s.heap s'.heap) (hok:Ak X.prog X.w H' s'.heap) (os:s'.os=s.os) (bare:AllBare s'.gens)
  (k1:B.StaysIn s'.heap) (fl:Heap.FlyingW B X.outer a C a0 h6) (up:s'.heap.UpToSlots h6) (inB:∀ b o,s.heap.get? b=some o->b ∉ Ap X.stack->∃ o',B.get? b=some o') (tr:∀ b o,H' b=some o->∃ o',B.get? b=some o') :
  Fi X.prog X.w X.outer X.H₀ X.s₀ a C H' { s' with heap:=h6 }:=by
 have J:AD X pins σ H' { s' with heap:=h6,toks:=s'.toks }:=I.caught (a:=a) (C:=C) (t':=s'.toks) hB un hok os bare k1 fl.1 up inB tr
 refine ⟨J.os,J.bare,by have:=J.base;rw [hB.ex] at this;exact this,J.hok,B,a0,fl,fun b o e hb=>?_,tr⟩
 obtain ⟨o',e1⟩:=I.base.there b o e (by rw [hB.ex];simp)
 refine inB b o' e1 fun z=>?_;rcases hB.mem.mp z with z|z
 ·subst z
  exact absurd (Nat.lt_of_lt_of_le (Heap.lt_size e) I.ok.above) (Nat.lt_irrefl _)
 ·exact hb z
theorem Rx {a:Addr} {C:Value} {M:Model} {Q:Unit->Shared->Prop} {E:Value->Shared->Prop} (hB:DG X) (I:AD X pins σ H s) (F:Fi X.prog X.w X.stack H s a C H' s') (q:∀ s'',Fi X.prog X.w X.outer X.H₀ X.s₀ a C H' s''->Q () s'') :
  wpAny M X.A (leaving X.env (.ref a)) Q E s':=by
 obtain ⟨os,bare,un,hok,B,a0,fl,inB,tr⟩:=F;have fl':Heap.FlyingW B (X.env::X.outer) a C a0 s'.heap:=by rw [← hB.stk];exact fl
 refine wpAny_leaves_onW (by rw [I.ok.frames,hB.stk]) hB.fr fl' fun h6 f6 up=>q _ ?_
 exact I.flown hB un hok os bare fl.1 f6 up inB tr
theorem Rz {a:Addr} {C:Value} {vs:List Value} {h':Heap} {M:Model} {Q:Unit->Shared->Prop} {E:Value->Shared->Prop} (hB:DG X) (I:AD X pins σ H s) (hx:Heap.MadeExcOf s.heap h' a C vs)
  (q:∀ s'',Fi X.prog X.w X.outer X.H₀ X.s₀ a C H s''->Q () s''):wpAny M X.A (leaving X.env (.ref a)) Q E { s with heap:=h' }:=by
 have hin:∀ env∈X.stack,∀ b,env.frame=some b->b∈Ap X.stack:=fun env he b hb=>List.mem_filterMap.mpr ⟨env,he,hb⟩;have hfr:s.heap.FunFrames (PySem.W.hideAll s.heap (Ap X.stack)) (X.env::X.outer):=by
  rw [← hB.stk];exact PySem.W.funFrames_hide I.stack hin
 refine wpAny_leaves_madeW (base:=PySem.W.hideAll s.heap (Ap X.stack)) (h:=s.heap) (by rw [I.ok.frames,hB.stk]) hB.fr (fun b o e=>PySem.W.of_hideAll _ e) hfr hx fun h6 t f6 _ _ up=>q _ ?_
 have kp:(PySem.W.hideAll s.heap (Ap X.stack)).StaysIn h':=fun b o e=>hx.keeps b o (PySem.W.of_hideAll _ e);have inB:∀ b o,s.heap.get? b=some o->b ∉ Ap X.stack->∃ o',(PySem.W.hideAll s.heap (Ap X.stack)).get? b=some o':=fun b o e hb=>⟨o,PySem.W.hideAll_get _ e hb⟩;refine I.flown (s':={ s with heap:=h' }) (H':=H) hB (Un.kept hx.keeps) (I.hok.kept hx.keeps) rfl I.bare kp f6 up inB fun b o e=>?_
 obtain ⟨u,e1⟩:∃ u,s.heap.get? b=some u:=by
  have lt:=I.hok.lt e;cases z:s.heap.get? b with
  | some u=>exact ⟨u,rfl⟩
  | none =>
   have:=I.hok b o e;cases o with
   | lst xs=>obtain ⟨_,_,_,_,e⟩:=this;rw [z] at e;cases e
   | tup xs=>obtain ⟨_,_,_,ob,e,_⟩:=this;rw [z] at e;cases e
   | dK kvs=>obtain ⟨_,_,_,_,o,_,_,e,_⟩:=this;rw [z] at e;cases e
   | dT kvs=>obtain ⟨_,_,_,_,o,_,_,e,_⟩:=this;rw [z] at e;cases e
   | set S n=>obtain ⟨o,_,_,_,e,_⟩:=this;rw [z] at e;cases e
   | ins C dx fs=>obtain ⟨_,_,_,e,_⟩:=this;rw [z] at e;cases e
   | own y=>obtain ⟨_,e⟩:=this;rw [z] at e;cases e
   | xd fs=>obtain ⟨_,⟨_,_,_,e,_⟩,_⟩:=this;rw [z] at e;cases e
   | rng lo hi=>obtain ⟨_,_,_,e⟩:=this;rw [z] at e;cases e
   | frz ob u=>obtain ⟨e,_⟩:=this;rw [z] at e;cases e
   | tbl ps=>have e:s.heap.get? b=some _:=this;rw [z] at e;cases e
   | met f y=>have e:s.heap.get? b=some _:=this;rw [z] at e;cases e
   | ext φ=>obtain ⟨_,⟨_,e⟩,_⟩:=this;rw [z] at e;cases e
 exact inB b u e1 fun hb=>by rw [I.stkFree b hb] at e;cases e
end
end L2
namespace L2
open PySem PySem.Spec PyProof.Rows
abbrev Hf:List Value:=[.type "ValueError",.type "Exception",.type "BaseException",.type "object"]
def Az (K:zP) (C:Addr):Prop:=PySem.W.excIn K C Hf "ValueError.__new__" = true
theorem Az.obj {K:zP} {C:Addr} {g:Heap} (inK:K.In g) (hx:Az K C) :
  ∃ (bm:List Value) (N:Addr) (nm qn:Str) (bs:List Value) (hdct:Bool) (sn:List Str) (sub:List Value) (ab:Bool) (col:Option Bool) (dd:Option Addr) (k0 k1 k2 k3 k5:Option Value) (mN:Str->Option Value),
   g.get? C=some (excClassObj nm qn C N bs bm hdct sn sub ab col dd k0 k1 k2 k3 k5 "ValueError.__new__")/\g.Ns N mN/\mN "__init__" = none/\OwnTail g Hf bm:=by
 unfold Az PySem.W.excIn at hx;split at hx
 ·next dd cd sl ho =>
  split at hx
  ·next C' bm k0 k1 k2 k3 n k5 hm hs =>
   rw [Bool.and_eq_true,Bool.and_eq_true,Bool.and_eq_true,Bool.and_eq_true,Bool.and_eq_true] at hx;obtain ⟨⟨⟨⟨⟨h1,h2⟩,h3⟩,h4⟩,h5⟩,h6⟩:=hx;have e1:=beq_iff_eq.mp h1;have e2:=beq_iff_eq.mp h2;have e6:=beq_iff_eq.mp h6;have e3:cd.hasDel=false:=by simpa using h3
   subst e1 e2;obtain ⟨nm,bs,mro,ns,qn,hd,sn,sub,ab,col,del⟩:=cd;have em:mro=Value.ref C'::bm:=hm;have ed:del=false:=e3;subst em ed;obtain ⟨l⟩:=sl;have el:l=[k0,k1,k2,k3,some (Value.builtin "ValueError.__new__"),k5]:=hs;subst el;exact ⟨bm,ns,nm,qn,bs,hd,sn,sub,ab,col,dd,k0,k1,k2,k3,k5,_,inK _ _ ho,.of_isNs (PySem.W.isNs_of_in inK h5),PySem.W.nsMap_none_of_in inK h5 e6,PySem.W.tail_of_in inK h4⟩
  ·cases hx
 ·cases hx
structure IB (X:Cx) (E:XK):Prop where
 body:DG X
 out:∀ e s',wpAny (model X.prog X.w) X.A (leaving X.env e) (fun _ s''=>B7 X.prog X.w X.outer X.H₀ X.s₀ E e s'') (fun e' s''=>B7 X.prog X.w X.outer X.H₀ X.s₀ E e' s'') s'->X.xe e s'
def DI (X:Cx) (EX:St->XK):Prop:=∀ (pins:zR) (σ:St) (H:Hp) (s:Shared) (e:Value) (s':Shared),AD X pins σ H s->B7 X.prog X.w X.stack H s (EX σ) e s'->X.xe e s'
theorem By {X:Cx}:DI X fun _=>E0:=fun _ _ _ _ _ _ _ h=>h.no.elim
theorem qH {X:Cx} {E:XK} (O:IB X E):DI X fun _=>E:=fun pins σ H s e s' I h=>by
 obtain ⟨a,C,H',rfl,F,q⟩:=h;exact O.out _ _ (Rx O.body I F fun s'' F'=>⟨a,C,H',rfl,F',q⟩)
theorem qI {P:Program} {w:World} {K:zP} {mg:zQ} {base:Heap} {N:List Str} {qual:Str} {scope:Scope} {f:Addr} {cd:Value} {A:Around} {outer:List Env} {s:Shared} {H:Hp} {E:XK} :
  IB (Cz (B7 P w) P w K mg base N qual scope f cd A outer s H E) E:=⟨⟨rfl,rfl,rfl⟩,fun _ _ h=>h⟩
def bG (C:Addr) (E:XK) (t:TA):TS:=fun _ σ H=>t σ H fun vs H1=>vs.length<=sizeLine/\E (.ref C) none H1
section
variable {X:Cx} {x:Str} {C:Addr} {E:XK} {np cpos pos:Pos} {e:Expr} {es:List Expr} {t:TA}
theorem zE (O:IB X E) (hc:X.calm=true) (hq:Az X.K C) (hm:X.mg x=some (.ref C)) (ha:PA X (e::es) t) (hg:Gl X x:=by rfl) (h1:(x==("__debug__":Str))=false:=by decide)
  (hs:starEach (e::es) X.env=(false,eval e X.env)::starEach es X.env:=by rfl) (hpl:(backTo cpos (starEach es X.env)).any (·.1)=false:=by rfl) :
  PS X (.Raise (some (.Call (.Name x np) (e::es) [] cpos)) none pos) (bG C E t):=by
 intro pins s σ H D I h;obtain ⟨bm,N,nm,qn,bs,hdct,sn,sub,ab,col,dd,k0,k1,k2,k3,k5,mN,hC,hN,hni,T⟩:=hq.obj I.ok.mod.kin;refine wpAny_Raise_call_subT (C:=C) (nm:=nm) (q:=qn) (N:=N) (bs:=bs) (bm:=bm) (hdct:=hdct) (sn:=sn) (sub:=sub) (ab:=ab) (col:=col) (dd:=dd) (k0:=k0) (k1:=k1) (k2:=k2) (k3:=k3) (k5:=k5) (mN:=mN)
  PySem.F.excBase_ValueError (T.hasType PySem.F.excBase_ValueError.hasBase) (I.ok.hd hc) (by rw [hs];show (false||(backTo cpos (starEach es X.env)).any (·.1))=false;rw [hpl];rfl) hni (ED I hg hm ⟨rfl,?_⟩ h1)
 have h':=ha cpos pins s σ H _ I h;rw [hs] at h' ⊢;refine Calls.evalArgs_plain (wpAny_mono h' (fun vs s2 ⟨xs,H1,I1,r1,hl,q1⟩=>⟨rfl,by rw [← r1.length];exact hl,I1.bk _ _ hC,hN.keeps I1.bk,T.keeps I1.bk,fun h2 a hx=>?_⟩) fun _ _ y=>y)
 exact O.out _ _ (Rz O.body I1 hx fun s'' F=>⟨a,.ref C,H1,rfl,F,q1⟩)
end
def aW (sp:Sp) (EX:St->XK) (t:TA):TE:=fun σ H Q=>t σ H fun vs H1=>sp vs H1 Q (EX σ)
def Oi (C:Addr) (m:Str) (sp:Sp) (EX:St->XK) (ta:TE) (t:TA):TE:=fun σ H Q=>ta σ H fun x H1=>∃ a dx fs,x = .ref a/\H1 a=some (.ins C dx fs)/\fs.lookup m=none/\t σ H1 fun vs H2=>sp (x::vs) H2 Q (EX σ)
def Oh (C:Addr) (sp:Sp) (EX:St->XK) (t:TA):TE:=fun σ H Q=>t σ H fun vs H1=>∀ x dx,H1 x=none->H1 dx=none->dx≠x ->
 sp (.ref x::vs) (AC (AC H1 dx (.own x)) x (.ins C dx [])) (fun v H2=>v = .non/\Q (.ref x) H2) (fun Cx d H2=>EX σ Cx d H2)
def CB (P:Program) (w:World) (K:zP) (mg:zQ) (base:Heap) (x:Str) (ps:List Str) (k:Nat) (sp:Sp):Prop :=
 ∃ (f:Addr) (fd:FuncData),Bh P w K mg base (B7 P w) k f fd ps sp/\mg x=some (.ref f)/\PySem.W.keepIn K (.ref f)=true/\B6 K fd ps []
def zI (P:Program) (w:World) (K:zP) (mg:zQ) (base:Heap) (C:Addr) (m:Str) (ps:List Str) (k:Nat) (sp:Sp):Prop :=
 ∃ (f:Addr) (fd:FuncData),Bh P w K mg base (B7 P w) k f fd ps sp/\Hr K C m f/\CI K C/\B6 K fd ps []
def Fj (P:Program) (w:World) (K:zP) (mg:zQ) (base:Heap) (x:Str) (C:Addr) (ps:List Str) (k:Nat) (sp:Sp):Prop :=
 ∃ (f:Addr) (fd:FuncData),Bh P w K mg base (B7 P w) k f fd ps sp/\Mk K C f/\mg x=some (.ref C)/\B6 K fd ps []
section
variable {X:Cx} {k j:Nat} {f C:Addr} {fd:FuncData} {ps:List Str} {sp:Sp} {EX:St->XK} {x m:Str} {p pos apos:Pos} {e o:Expr} {es:List Expr} {ta:TE} {t:TA}
theorem JM {pins:zR} {σ:St} {H:Hp} {s:Shared} {Q:VK} {us:List Value} {vs:List V} (F:Bh X.prog X.w X.K X.mg X.base (B7 X.prog X.w) k f fd ps sp) (hr:As k X.A) (hb:B6 X.K fd ps []) (hx:DI X EX)
  (I:AD X pins σ H s) (r:AW vs us) (h:sp vs H Q (EX σ)):wpAny (model X.prog X.w) X.A (call (.ref f) us) (EP X pins σ Q) X.xe s:=by
 have hl:(us++[]).length=ps.length:=by rw [List.append_nil,← r.length];exact F.len _ _ _ _ h
 have hbd:=hb s us I.kIn hl;rw [List.append_nil] at hbd;refine wpAny_call (codeAny_mono (F.run X.A X.stack s H ⟨us,[]⟩ us vs Q (EX σ) hr I.env0 hbd r h) fun res s' hq=>?_);cases res with
 | error er=>exact hx pins σ H s er s' I hq
 | ok fl =>
  cases fl with
  | ret u=>exact I.after hq
  | next=>exact False.elim hq
  | brk=>exact False.elim hq
  | cont=>exact False.elim hq
theorem pX (D:CB X.prog X.w X.K X.mg X.base x ps k sp) (hr:As j X.A) (hx:DI X EX) (ha:PA X (e::es) t)
  (hkj:k<=j:=by decide) (hg:Gl X x:=by rfl) (h1:(x==("__debug__":Str))=false:=by decide) (h2:starEach (e::es) X.env=(false,eval e X.env)::starEach es X.env:=by rfl) (h3:(backTo pos (starEach es X.env)).any (·.1)=false:=by rfl) :
  PE X (.Call (.Name x p) (e::es) [] pos) (aW sp EX t):=by
 obtain ⟨f,fd,F,hm,hk,hb⟩:=D;intro pins s σ H Q I h;refine wpAny_Call_Name_kw (ED I hg hm ?_ h1);refine PySem.W.callWith_K (h₀:=X.base) I.ok.mod.kin hk (AQ (ha pos pins s σ H _ I h) fun us s1 ⟨vs,H1,I1,r,q⟩=>⟨I1.kIn,?_⟩) h2 h3;exact JM F (hr.mono hkj) hb hx I1 r q
theorem qP {pl:Sem Bool} (D:zI X.prog X.w X.K X.mg X.base C m ps k sp) (hr:As j X.A) (hx:DI X EX) (he:PE X o ta) (ha:PA X (e::es) t) (hkj:k<=j:=by decide)
  (hst:starEach (e::es) X.env=(false,eval e X.env)::starEach es X.env:=by rfl) (hpl:(backTo pos (starEach es X.env)).any (·.1)=false:=by rfl)
  (ht:eval (.Call (.Attribute o m apos) (e::es) [] pos) X.env=(eval o X.env>>=fun ov=>standAt apos.atName>>=fun _=>holding [ov] (getMethod ov m pl)>>=fun r =>
   callWith pos r.1 r.2 (backTo pos (starEach (e::es) X.env)) (backToKw pos (keywordEach [] X.env))):=by rfl) :
  PE X (.Call (.Attribute o m apos) (e::es) [] pos) (Oi C m sp EX ta t):=by
 obtain ⟨f,fd,F,hm,c,hb⟩:=D;intro pins s σ H Q I h;refine PySem.W.methodCall_KW (pl:=pl) (AQ (he pins s σ H _ I h) fun u s1 ⟨x,H1,I1,rx,a,dx,fs,ex,ea,l,q⟩=>?_) ht;subst ex;obtain rfl:u=Value.ref a:=rx;refine LG I1 ea c hm l ?_;refine PySem.W.callWith_K (first:=[.ref a]) (h₀:=X.base) I.ok.mod.kin hm.kp (AQ (ha pos pins s1 σ H1 _ I1 q) fun us s2 ⟨vs,H2,I2,r,q2⟩=>⟨I2.kIn,?_⟩) hst hpl
 exact JM (us:=.ref a::us) (vs:=.ref a::vs) F (hr.mono hkj) hb hx I2 (.cons rfl r) q2
theorem qO {pl:Sem Bool} (D:zI X.prog X.w X.K X.mg X.base C m ps k sp) (hr:As j X.A) (hx:DI X EX) (he:PE X o ta) (hkj:k<=j:=by decide)
  (ht:eval (.Call (.Attribute o m apos) [] [] pos) X.env=(eval o X.env>>=fun ov=>standAt apos.atName>>=fun _=>holding [ov] (getMethod ov m pl)>>=fun r =>
   callWith pos r.1 r.2 (backTo pos (starEach [] X.env)) (backToKw pos (keywordEach [] X.env))):=by rfl) :
  PE X (.Call (.Attribute o m apos) [] [] pos) (Oi C m sp EX ta Jr):=by
 obtain ⟨f,fd,F,hm,c,hb⟩:=D;intro pins s σ H Q I h;refine PySem.W.methodCall_KW (pl:=pl) (AQ (he pins s σ H _ I h) fun u s1 ⟨x,H1,I1,rx,a,dx,fs,ex,ea,l,q⟩=>?_) ht;subst ex;obtain rfl:u=Value.ref a:=rx;refine LG I1 ea c hm l ?_;exact PySem.W.callWith_K0 (first:=[.ref a]) I1.kIn hm.kp (JM (us:=[.ref a]) (vs:=[.ref a]) F (hr.mono hkj) hb hx I1 (.cons rfl .nil) q)
theorem Lu {pins:zR} {σ:St} {H:Hp} {s:Shared} {Q:VK} {us:List Value} {vs:List V} (M:Mk X.K C f) (F:Bh X.prog X.w X.K X.mg X.base (B7 X.prog X.w) k f fd ps sp) (hr:As (k+1) X.A) (hb:B6 X.K fd ps [])
  (hx:DI X EX) (I:AD X pins σ H s) (r:AW vs us)
  (h:∀ x dx,H x=none->H dx=none->dx≠x->sp (.ref x::vs) (AC (AC H dx (.own x)) x (.ins C dx [])) (fun v H2=>v = .non/\Q (.ref x) H2) (EX σ)) :
  wpAny (model X.prog X.w) X.A (call (.ref C) us) (EP X pins σ Q) X.xe s:=by
 have n1:=I.hok.fresh (a:=s.heap.objs.size+1) (Nat.le_succ _);have n2:=I.hok.fresh (a:=s.heap.objs.size) (Nat.le_refl _);have hq:=h (s.heap.objs.size+1) s.heap.objs.size n1 n2 (Nat.ne_of_lt (Nat.lt_succ_self _));have I2:=AD.made (C:=C) I;have r2:AW (V.ref (s.heap.objs.size+1)::vs) (Value.ref (s.heap.objs.size+1)::us):=.cons rfl r;have hl:(Value.ref (s.heap.objs.size+1)::us++[]).length=ps.length:=by
  have e:=r2.length;rw [F.len _ _ _ _ hq] at e;rw [List.append_nil];exact e.symm
 have hbd:=hb _ (Value.ref (s.heap.objs.size+1)::us) I2.kIn hl;rw [List.append_nil] at hbd;refine wpAny_call (Vs (f:=f) I.kIn M.makes M.init (beq_iff_eq.mp M.fn) (codeAny_mono (F.run _ X.stack _ _ ⟨Value.ref (s.heap.objs.size+1)::us,[]⟩ (Value.ref (s.heap.objs.size+1)::us) _ _ (EX σ) (hr.make C us [])
  (I2.env0.make C us []) hbd r2 hq) fun res s' hq'=>?_))
 cases res with
 | error er=>exact hx pins σ _ _ er s' I2 hq'
 | ok fl =>
  cases fl with
  | ret u =>
   obtain ⟨v,H',I3,rv,ev,q3⟩:=I2.after hq';subst ev;exact ⟨rv,⟨V.ref (s.heap.objs.size+1),H',I3,rfl,q3⟩⟩
  | next=>exact False.elim hq'
  | brk=>exact False.elim hq'
  | cont=>exact False.elim hq'
theorem HC (D:Fj X.prog X.w X.K X.mg X.base x C ps k sp) (hr:As j X.A) (hx:DI X EX) (ha:PA X (e::es) t) (hkj:k+1<=j:=by decide) (hg:Gl X x:=by rfl)
  (h1:(x==("__debug__":Str))=false:=by decide) (h2:starEach (e::es) X.env=(false,eval e X.env)::starEach es X.env:=by rfl) (h3:(backTo pos (starEach es X.env)).any (·.1)=false:=by rfl) :
  PE X (.Call (.Name x p) (e::es) [] pos) (Oh C sp EX t):=by
 obtain ⟨f,fd,F,M,hm,hb⟩:=D;intro pins s σ H Q I h;refine wpAny_Call_Name_kw (ED I hg hm ?_ h1);refine PySem.W.callWith_K (h₀:=X.base) I.ok.mod.kin M.kp (AQ (ha pos pins s σ H _ I h) fun us s1 ⟨vs,H1,I1,r,q⟩=>⟨I1.kIn,?_⟩) h2 h3;exact Lu M F (hr.mono hkj) hb hx I1 r q
theorem Wg (D:Fj X.prog X.w X.K X.mg X.base x C ps k sp) (hr:As j X.A) (hx:DI X EX) (hkj:k+1<=j:=by decide) (hg:Gl X x:=by rfl)
  (h1:(x==("__debug__":Str))=false:=by decide):PE X (.Call (.Name x p) [] [] pos) (Oh C sp EX Jr):=by
 obtain ⟨f,fd,F,M,hm,hb⟩:=D;intro pins s σ H Q I h;refine wpAny_Call_Name_kw (ED I hg hm ?_ h1);exact PySem.W.callWith_K0 I.kIn M.kp (Lu (us:=[]) M F (hr.mono hkj) hb hx I .nil h)
end
section
variable {P:Program} {w:World} {K:zP} {mg:zQ} {base:Heap}
theorem Cs.ok1 {x qual:Str} {st:Stmt} {f:Addr} {fd:FuncData} {N ps:List Str} {k:Nat} {sp:Sp} (F:Cs K x qual st f fd) (S:qB N ps (qA st)) (len:∀ vs H Q E,sp vs H Q E->vs.length=ps.length)
  (hbody:∀ (cdv:Value) (A:Around) (outer:List Env) (s:Shared) (H:Hp) (vs:List V) (Q:VK) (E:XK),As k (A.deeper (envOfC qual (qA st) s.heap.objs.size f cdv))->sp vs H Q E ->
   ∃ t,BF (Cz (B7 P w) P w K mg base N qual (qA st) f cdv A outer s H E) (CD st) t/\t { nx:=fun _ H'=>Q .non H',rt:=Q } (Cm N vs) H):Bh P w K mg base (B7 P w) (k+1) f fd ps sp:=by
 obtain ⟨oc,od,kV,doc,pm,an,cdv,ct,osl,rfl,lk,hcd⟩:=F.ex;exact K9 lk hcd S len fun A outer s H vs Q E hr hsp=>hbody cdv A outer s H vs Q E hr hsp
end
end L2
namespace L2
open PySem PySem.Spec PyProof.Rows
theorem Az.mro {K:zP} {C:Addr} {g:Heap} {v:Value} {b:Bool} {bm:List Value} {N:Addr} {nm qn:Str} {bs:List Value} {hdct:Bool} {sn:List Str} {sub:List Value} {ab:Bool} {col:Option Bool} {dd:Option Addr} {k0 k1 k2 k3 k5:Option Value} {ni:String} (inK:K.In g)
  (hC:g.get? C=some (excClassObj nm qn C N bs bm hdct sn sub ab col dd k0 k1 k2 k3 k5 ni)) (h:PySem.W.mroIn K C v=some b):(Value.ref C::bm).contains v=b:=by
 unfold PySem.W.mroIn at h;obtain ⟨cd,h1,h2⟩:=Option.bind_eq_some_iff.mp h;unfold PySem.W.clsIn at h1;split at h1
 ·next ho =>
  cases h1;have:=inK _ _ ho;rw [hC] at this;cases this;split at h2
  ·cases h2
  ·exact Option.some.inj h2
 ·cases h1
section
variable {M:Model} {A:Around} {E:Value->Shared->Prop} {g:Heap} {gs:Array GenState} {d:Drawn} {t:Nat} {os:OsState}
theorem K6 {C Ce e:Addr} {oe:Obj} {bm bmE:List Value} {N N':Addr} {nm qn nm' qn':Str} {bs bs':List Value} {hdct hdct':Bool} {sn sn':List Str} {sub sub':List Value} {ab ab':Bool} {col col':Option Bool} {dd dd':Option Addr} {k0 k1 k2 k3 k5 j0 j1 j2 j3 j5:Option Value} {ni ni':String} {b:Bool} {Q:Bool->Shared->Prop}
  (hC:g.get? C=some (excClassObj nm qn C N bs bm hdct sn sub ab col dd k0 k1 k2 k3 k5 ni)) (hE:g.get? Ce=some (excClassObj nm' qn' Ce N' bs' bmE hdct' sn' sub' ab' col' dd' j0 j1 j2 j3 j5 ni')) (he:g.get? e=some oe) (hcls:oe.cls = .ref Ce)
  (hbase:bm.contains (.type "BaseException")=true) (hb:(Value.ref Ce::bmE).contains (.ref C)=b) (hq:Q b ⟨g,gs,d,t,os⟩):wpAny M A (excMatches (.ref e) (.ref C)) Q E ⟨g,gs,d,t,os⟩:=by
 have hcB:(Value.ref C::bm).contains (.type "BaseException")=true:=by rw [List.contains_cons,hbase,Bool.or_true]
 have f:=tc_notTuple;unfold excMatches;by_cases same:Ce=C
 ·subst same
  rw [hC] at hE;cases hE;have hcC:(Value.ref Ce::bm).contains (.ref Ce)=true:=by simp
  rw [hcC] at hb;subst hb
  repeat (first|(with_reducible refine wpAny_loadPart_at he ?_;rw [hcls])|with_reducible refine wpAny_loadPart_at hC ?_|(with_reducible refine wpAny_isSubtype_exc hC ?_;first|rw [hcB]|rw [hcC])|wp_step)
  exact hq
 ·repeat (first|(with_reducible refine wpAny_loadPart_at he ?_;rw [hcls])|with_reducible refine wpAny_loadPart_at hC ?_|(with_reducible refine wpAny_isSubtype_exc hC ?_;rw [hcB])|(with_reducible refine wpAny_isSubtype_exc hE ?_;rw [hb])|wp_step)
  cases b <;> (wp_walk;exact hq)
end
noncomputable def DU (a Ce:Addr):HO:=.ext fun h=>∃ o,h.get? a=some o/\o.cls = .ref Ce
noncomputable abbrev Fe (X:Cx) (a:Addr):Cx:={ X with A:=X.A.mark (some (.ref a)),calm:=false,xe:=fun _ _=>False }
noncomputable abbrev Et (X:Cx) (pins:zR) (xe:Value->Shared->Prop):Cx:={ X with pn:=X.pn++pins,xe:=xe }
section
variable {X:Cx} {pins pins':zR} {σ:St} {H H':Hp} {s s':Shared} {a:Addr} {xe:Value->Shared->Prop}
theorem Cx.Ok.suite (ok:X.Ok):(Fe X a).Ok :=
 ⟨ok.mod,ok.kind,ok.glob,ok.blt,ok.above,ok.inj,ok.has,ok.cab,fun z=>(by cases z),ok.frames,ok.stk,ok.exf,ok.bs,ok.bsz,ok.noex,ok.exfs,ok.funs,ok.frf⟩
theorem AD.suite (I:AD X pins σ H s):AD (Fe X a) pins σ H s:=⟨I.ok.suite,I.os,I.bare,I.base,I.loc,I.cell,I.free,I.freeC,I.pin,I.hok,I.len⟩
theorem AD.unsuite (I:AD (Fe X a) pins σ H s) (ok:X.Ok):AD X pins σ H s:=⟨ok,I.os,I.bare,I.base,I.loc,I.cell,I.free,I.freeC,I.pin,I.hok,I.len⟩
theorem SP.unsuite {D:BL} {f:Flow} (h:SP (Fe X a) pins D f s) (ok:X.Ok):SP X pins D f s:=by
 cases f with
 | next=>obtain ⟨σ',H',I,q⟩:=h;exact ⟨σ',H',I.unsuite ok,q⟩
 | brk=>obtain ⟨σ',H',I,q⟩:=h;exact ⟨σ',H',I.unsuite ok,q⟩
 | cont=>obtain ⟨σ',H',I,q⟩:=h;exact ⟨σ',H',I.unsuite ok,q⟩
 | ret u=>obtain ⟨v,σ',H',I,r,q⟩:=h;exact ⟨v,σ',H',I.unsuite ok,r,q⟩
theorem Cx.Ok.try_ (ok:X.Ok):(Et X pins xe).Ok :=
 ⟨ok.mod,ok.kind,ok.glob,ok.blt,ok.above,ok.inj,ok.has,ok.cab,ok.hd,ok.frames,ok.stk,ok.exf,ok.bs,ok.bsz,ok.noex,ok.exfs,ok.funs,ok.frf⟩
theorem Cx.Ok.untry (ok:(Et X pins xe).Ok):X.Ok :=
 ⟨ok.mod,ok.kind,ok.glob,ok.blt,ok.above,ok.inj,ok.has,ok.cab,ok.hd,ok.frames,ok.stk,ok.exf,ok.bs,ok.bsz,ok.noex,ok.exfs,ok.funs,ok.frf⟩
theorem AD.try_ (I:AD X pins σ H s):AD (Et X pins xe) [] σ H s:=⟨I.ok.try_,I.os,I.bare,I.base,I.loc,I.cell,I.free,I.freeC,fun p hp=>I.pin p (by rw [List.append_nil] at hp;exact hp),I.hok,I.len⟩
theorem AD.untry (I:AD (Et X pins xe) pins' σ H s):AD X pins σ H s:=⟨I.ok.untry,I.os,I.bare,I.base,I.loc,I.cell,I.free,I.freeC,fun p hp=>I.pin p (List.mem_append_left _ hp),I.hok,I.len⟩
theorem SP.untry {D:BL} {f:Flow} (h:SP (Et X pins xe) pins' D f s):SP X pins D f s:=by
 cases f with
 | next=>obtain ⟨σ',H',I,q⟩:=h;exact ⟨σ',H',I.untry,q⟩
 | brk=>obtain ⟨σ',H',I,q⟩:=h;exact ⟨σ',H',I.untry,q⟩
 | cont=>obtain ⟨σ',H',I,q⟩:=h;exact ⟨σ',H',I.untry,q⟩
 | ret u=>obtain ⟨v,σ',H',I,r,q⟩:=h;exact ⟨v,σ',H',I.untry,r,q⟩
theorem AD.track {o:HO} (I:AD X pins σ H s) (hn:H a=none) (h0:∀ ob,X.s₀.heap.get? a≠some ob) (hl:a≠X.env.locals) (hc:∀ x c,X.env.cells.lookup x=some c->c≠a) (hp:∀ p∈X.pn++pins,p.1≠a)
  (new:Av X.prog X.w (AC H a o) s.heap a o):AD X pins σ (AC H a o) s:=by
 refine ⟨I.ok,I.os,I.bare,⟨I.base.keep,I.base.slot,fun b ob e n hx=>?_,I.base.there,fun b xs e=>?_,fun b ob u e=>?_,fun b ps e=>?_⟩,I.loc,I.cell,?_,fun x c e=>?_,fun p hp'=>?_,fun b u e=>?_,I.len⟩
 ·rw [uN (fun z=>h0 ob (by rw [← z];exact e))];exact I.base.free b ob e n hx
 ·have:=I.base.tups b xs e
  rw [uN (nQ this hn)];exact this
 ·have:=I.base.frzs b ob u e
  rw [uN (nQ this hn)];exact this
 ·obtain ⟨more,this⟩:=I.base.tbls b ps e
  exact ⟨more,by rw [uN (nQ this hn)];exact this⟩
 ·rw [uN (Ne.symm hl)];exact I.free
 ·rw [uN (hc x c e)];exact I.freeC x c e
 ·obtain ⟨e,n,r⟩:=I.pin p hp'
  exact ⟨e,by rw [uN (hp p hp')];exact n,r⟩
 ·by_cases hb:b=a
  ·subst hb;rw [uS] at e;cases e;exact new
  ·rw [uN hb] at e
   exact (I.hok b u e).stay (fun c v _ q=>q) (fun c q=>by rw [uN (nQ q hn)];exact q) fun c xs q=>by rw [uN (nQ q hn)];exact q
theorem Gv {M:Model} {A:Around} {E:Value->Shared->Prop} {i:Nat} {n:Str} {pos:Pos} {Q:Unit->Shared->Prop} (I:AD X pins σ H s) (hN:X.N.Nodup) (hi:X.N[i]? = some n) (hk:X.env.kindOf n=some .local)
  (h:∀ s',AD X pins (σ.set i none) H s'->Q () s'):wpAny M A (bindName X.env n .none>>=fun _=>unbindBehindTheSuite X.env n pos) Q E s:=by
 obtain ⟨m,hn,hl⟩:=id I.loc;have hcls:(X.env.scope.kind==.class||(X.env.scope.kind==.module&&X.env.locals != X.env.globals))=false:=by rw [I.ok.kind];rfl
 have hiσ:i<σ.length:=by rw [I.len];exact (List.getElem?_eq_some_iff.mp hi).1
 refine wpAny_nameGoes_keeps hk hn hcls fun h' v hn' hs=>h _ ?_;have ne0:∀ b ob,X.s₀.heap.get? b=some ob->b≠X.env.locals:=fun b ob e=>Nat.ne_of_lt (Nat.lt_of_lt_of_le (Heap.lt_size e) I.ok.above);refine ⟨I.ok,I.os,I.bare,⟨fun b ob e nn hb hx=>(hs.2 b (ne0 b ob e)).trans (I.base.keep b ob e nn hb hx),fun b ob e nn hb hx=>?_,I.base.free,fun b ob e hx=>?_,I.base.tups,I.base.frzs,I.base.tbls⟩,⟨_,hn',fun j y v' e1 e2 e3=>?_⟩,fun y c e=>?_,I.free,I.freeC,fun p hp=>?_,fun b ob e=>?_,by simpa using I.len⟩
 ·obtain ⟨sl,z⟩:=I.base.slot b ob e nn hb hx
  exact ⟨sl,(hs.2 b (ne0 b ob e)).trans z⟩
 ·obtain ⟨o',z⟩:=I.base.there b ob e hx
  exact ⟨o',(hs.2 b (ne0 b ob e)).trans z⟩
 ·by_cases hj:j=i
  ·subst hj
   rw [List.getElem?_set_self hiσ] at e2;cases e2
  ·rw [List.getElem?_set_ne (Ne.symm hj)] at e2
   obtain ⟨u',r',q⟩:=hl j y v' e1 e2 e3;refine ⟨u',r',?_⟩;rcases q with ⟨k,e⟩|⟨k,c,e,z⟩
   ·have:y≠n:=fun e=>hj (Iv hN e1 (e ▸ hi))
    exact .inl ⟨k,by simp [this,e]⟩
   ·exact .inr ⟨k,c,e,z.sameBut hs (I.cne y c e)⟩
 ·obtain ⟨w',z⟩:=I.cell y c e
  exact ⟨w',z.sameBut hs (I.cne y c e)⟩
 ·obtain ⟨e,nn,ne,nf,d⟩:=I.pin p hp
  exact ⟨(hs.2 p.1 ne).trans e,nn,ne,nf,d⟩
 ·refine (I.hok b ob e).stay (fun c w' hc q=>(hs.2 c ?_).trans q) (fun _ q=>q) fun _ _ q=>q
  rintro rfl
  rcases hc with z|z
  ·rw [← z,I.free] at e;cases e
  ·rw [I.free] at z;cases z
end
def Ie (K:zP) (Ce:Addr) (D:BL) (σ:St) (H:Hp):List (Addr × (Addr->TS))->Prop
 | []=>False
 | (C,t)::r=>∃ b,PySem.W.mroIn K Ce (.ref C)=some b/\if b=true then t Ce D σ H else Ie K Ce D σ H r
def Rq (K:zP) (L:List (Addr × (Addr->TS))) (D:BL):St->XK:=fun σ Cv _ H=>∃ Ce,Cv = .ref Ce/\Az K Ce/\Ie K Ce D σ H L
def PM (i:Nat) (t:TS) (Ce:Addr):TS:=fun D σ H=>∀ a,H a=none->t ⟨fun σ' H'=>D.nx (σ'.set i none) H',D.rt,fun σ' H'=>D.bk (σ'.set i none) H',fun σ' H'=>D.ct (σ'.set i none) H'⟩ (σ.set i (some (.ref a))) (AC H a (DU a Ce))
inductive PHs (X:Cx):List ExceptHandler->List (Addr × (Addr->TS))->Prop where
 | nil:PHs X [] []
 | cons {x:Str} {np pos:Pos} {C:Addr} {b₀:Stmt} {suite:List Stmt} {t:TS} {r:List ExceptHandler} {L:List (Addr × (Addr->TS))} (hg:Gl X x) (hm:X.mg x=some (.ref C)) (hx:Az X.K C) (hd:(x==("__debug__":Str))=false)
   (hs:∀ a,BF (Fe X a) (b₀::suite) t) (hr:PHs X r L):PHs X (.ExceptHandler (some (.Name x np)) none (b₀::suite) pos::r) ((C,fun _=>t)::L)
 | as {x n:Str} {i:Nat} {np pos:Pos} {C:Addr} {b₀:Stmt} {suite:List Stmt} {t:TS} {r:List ExceptHandler} {L:List (Addr × (Addr->TS))} (hg:Gl X x) (hm:X.mg x=some (.ref C)) (hx:Az X.K C) (hd:(x==("__debug__":Str))=false)
   (hN:X.N.Nodup) (hi:X.N[i]? = some n) (hk:X.env.kindOf n=some .local) (hs:∀ a,BF (Fe X a) (b₀::suite) t) (hr:PHs X r L):PHs X (.ExceptHandler (some (.Name x np)) (some n) (b₀::suite) pos::r) ((C,PM i t)::L)
section
variable {X:Cx} {pins:zR} {σ:St} {H H':Hp} {s s':Shared} {a Ce:Addr} {B:Heap} {a0:Value} {D:BL}
theorem Ry (fl:Heap.FlyingW B X.stack a (.ref Ce) a0 s'.heap) (inB:∀ b o,s.heap.get? b=some o->b ∉ Ap X.stack->∃ o',B.get? b=some o'):s.heap.get? a=none:=by
 cases z:s.heap.get? a with
 | none=>rfl
 | some o =>
  obtain ⟨_,f2,f3,oe,vs,_,_,_,he,_,hd,_⟩:=fl;by_cases hb:a∈Ap X.stack
  ·obtain ⟨_,o2,e2,nf⟩:=f3.mem hb
   rw [he] at e2;cases e2;exact absurd hd (nf vs)
  ·obtain ⟨o',e'⟩:=inB a o z hb
   rw [f2] at e';cases e'
theorem T8 (hB:DG X) (I:AD X pins σ H s) (un:Un (Ap X.stack) [] H H' s.heap s'.heap) (hok:Ak X.prog X.w H' s'.heap) (os:s'.os=s.os) (bare:AllBare s'.gens) (k1:B.StaysIn s'.heap)
  (inB:∀ b o,s.heap.get? b=some o->b ∉ Ap X.stack->∃ o',B.get? b=some o') (tr:∀ b o,H' b=some o->∃ o',B.get? b=some o') (new:s.heap.get? a=none) (xc:Az X.K Ce) {hs:List ExceptHandler} {L:List (Addr × (Addr->TS))} (P:PHs X hs L) :
  ∀ {h3:Heap},Heap.FlyingW B X.stack a (.ref Ce) a0 h3->s'.heap.UpToSlots h3->Ie X.K Ce D σ H' L->wpAny (model X.prog X.w) X.A (handleBy (.ref a) X.env hs) (SP X pins D) X.xe { s' with heap:=h3 }:=by
 induction P with
 | nil=>intro h3 _ _ g;exact g.elim
 | cons hg hm hx hd hsu hr ih =>
  intro h3 fl up g;obtain ⟨b,hb,g⟩:=g;have J:AD X pins σ H' { s' with heap:=h3,toks:=s'.toks }:=I.caught (a:=a) (C:=.ref Ce) (t':=s'.toks) hB un hok os bare k1 fl.1 up inB tr
  refine wpAny_handleBy_cons (codeAny_handlers_test (ED (J.suite (a:=a)) hg hm ?_ hd)) (by intro q;cases q)
  obtain ⟨bm,N,nm,qn,bs,hdct,sn,sub,ab,col,dd,j0,j1,j2,j3,j5,mN,hC,_,_,T⟩:=hx.obj J.kIn;obtain ⟨bmE,N',nm',qn',bs',hdct',sn',sub',ab',col',dd',i0,i1,i2,i3,i5,mN',hE,_,_,_⟩:=xc.obj J.kIn;obtain ⟨ob,hob,hobc⟩:=fl.there;refine K6 hC hE hob hobc (T.hasType PySem.F.excBase_ValueError.hasBase) (Az.mro J.kIn hE hb) ?_;cases b with
  | true =>
   rw [if_pos rfl] at g;refine codeAny_handlers_suite (lands_againW fl fun h6 f6 up6=>?_);have J6:AD X pins σ H' { s' with heap:=h6,toks:=s'.toks }:=I.caught (a:=a) (C:=.ref Ce) (t':=s'.toks) hB un hok os bare k1 f6.1 (up.trans up6) inB tr
   exact wpAny_mono (hsu a pins _ σ H' D J6.suite g) (fun f s4 h4=>h4.unsuite I.ok) fun _ _ z=>z.elim
  | false =>
   rw [if_neg Bool.false_ne_true] at g;exact ih fl up g
 | as hg hm hx hd hN hi hk hsu hr ih =>
  intro h3 fl up g;obtain ⟨b,hb,g⟩:=g;have J:AD X pins σ H' { s' with heap:=h3,toks:=s'.toks }:=I.caught (a:=a) (C:=.ref Ce) (t':=s'.toks) hB un hok os bare k1 fl.1 up inB tr
  refine wpAny_handleBy_cons (codeAny_handlers_test (ED (J.suite (a:=a)) hg hm ?_ hd)) (by intro q;cases q)
  obtain ⟨bm,N,nm,qn,bs,hdct,sn,sub,ab,col,dd,j0,j1,j2,j3,j5,mN,hC,_,_,T⟩:=hx.obj J.kIn;obtain ⟨bmE,N',nm',qn',bs',hdct',sn',sub',ab',col',dd',i0,i1,i2,i3,i5,mN',hE,_,_,_⟩:=xc.obj J.kIn;obtain ⟨ob,hob,hobc⟩:=fl.there;refine K6 hC hE hob hobc (T.hasType PySem.F.excBase_ValueError.hasBase) (Az.mro J.kIn hE hb) ?_;cases b with
  | true =>
   rw [if_pos rfl] at g;refine codeAny_handlers_suite_as (lands_againW fl fun h6 f6 up6=>?_);have J6:AD X pins σ H' { s' with heap:=h6,toks:=s'.toks }:=I.caught (a:=a) (C:=.ref Ce) (t':=s'.toks) hB un hok os bare k1 f6.1 (up.trans up6) inB tr
   have hn:H' a=none:=by
    cases z:H' a with
    | none=>rfl
    | some o =>
     obtain ⟨o',e'⟩:=tr a o z;rw [f6.2.1] at e';cases e'
   obtain ⟨oe,hoe,hoec⟩:=f6.there;have nl:a≠X.env.locals:=fun z=>by
    obtain ⟨m,⟨o,_,_,ho,_⟩,_⟩:=I.loc;rw [← z,new] at ho;cases ho
   have nc:∀ x c,X.env.cells.lookup x=some c->c≠a:=fun x c e z=>by
    obtain ⟨v,o,ho,_⟩:=I.cell x c e;rw [z,new] at ho;cases ho
   have np:∀ p∈X.pn++pins,p.1≠a:=fun p hp z=>by
    have:=(I.pin p hp).1;rw [z,new] at this;cases this
   have n0:∀ ob,X.s₀.heap.get? a≠some ob:=fun ob z=>by
    obtain ⟨o',e'⟩:=I.base.there a ob z (by rw [hB.ex];simp)
    rw [new] at e';cases e'
   refine Jp (v:=.ref a) J6 hN hi (.inl hk) rfl (fun s7 J7 ⟨b,sb,hb⟩=>?_) (.inr hk);have e7:s7.heap.get? a=some oe:=by
    refine (sb.2 a fun z=>?_).trans hoe;rcases hb with q|q
    ·exact nl (z.trans q)
    ·exact nc _ _ q z.symm
   have J8:=J7.track (o:=DU a Ce) hn n0 nl nc np ⟨⟨oe,e7,hoec⟩,⟨oe,e7⟩,fun h1 h2 ⟨o,z,zc⟩ k=>⟨o,k o z,zc⟩⟩;refine wpAny_mono (hsu a pins _ _ _ _ J8.suite (g a hn)) (fun f s4 h4=>?_) fun _ _ z=>z.elim;cases f with
   | next =>
    obtain ⟨σ',H5,J9,q⟩:=h4;exact Gv (J9.unsuite I.ok) hN hi hk fun s5 J=>⟨_,H5,J,q⟩
   | brk =>
    obtain ⟨σ',H5,J9,q⟩:=h4;exact Gv (J9.unsuite I.ok) hN hi hk fun s5 J=>⟨_,H5,J,q⟩
   | cont =>
    obtain ⟨σ',H5,J9,q⟩:=h4;exact Gv (J9.unsuite I.ok) hN hi hk fun s5 J=>⟨_,H5,J,q⟩
   | ret u =>
    obtain ⟨v,σ',H5,J9,r,q⟩:=h4;exact Gv (J9.unsuite I.ok) hN hi hk fun s5 J=>⟨v,_,H5,J,r,q⟩
  | false =>
   rw [if_neg Bool.false_ne_true] at g;exact ih fl up g
end
def hx (X:Cx) (pins:zR) (D:BL) (hs:List ExceptHandler):Value->Shared->Prop:=fun e s' =>
 wpAny (model X.prog X.w) X.A (noteFrame e X.env) (fun _ s2=>wpAny (model X.prog X.w) X.A (setFlight e none) (fun _ s3=>wpAny (model X.prog X.w) X.A (handleBy e X.env hs) (SP X pins D) X.xe s3) X.xe s2) X.xe s'
theorem Wb {X:Cx} {pins:zR} {D:BL} {hs:List ExceptHandler} {L:List (Addr × (Addr->TS))} (hB:DG X) (P:PHs X hs L):DI (Et X pins (hx X pins D hs)) (Rq X.K L D):=fun pins' σ H s e s' I0 h=>by
 obtain ⟨a,C,H',rfl,F,Ce,rfl,xc,g⟩:=h;have I:AD X pins σ H s:=I0.untry;obtain ⟨os,bare,un,hok,B,a0,fl,inB,tr⟩:=F;have fl:Heap.FlyingW B X.stack a (.ref Ce) a0 s'.heap:=fl;have new:s.heap.get? a=none:=Ry (X:=X) fl inB;have fl':Heap.FlyingW B (X.env::X.outer) a (.ref Ce) a0 s'.heap:=by rw [← hB.stk];exact fl
 refine wpAny_looks_onW (by rw [I.ok.frames,hB.stk]) hB.fr fl' fun h4 held4 up4=>?_
 refine wpAny_landsW held4 fun h5 fl5 up5=>?_;have fl5':Heap.FlyingW B X.stack a (.ref Ce) a0 h5:=by rw [hB.stk];exact fl5
 exact T8 hB I un hok os bare fl.1 inB tr new xc P fl5' (up4.trans up5) g
theorem W0 {X:Cx} {body:List Stmt} {h₀:ExceptHandler} {hs:List ExceptHandler} {pos:Pos} {tb:BL->TS} (hb:∀ pins D,BF (Et X pins (hx X pins D (h₀::hs))) body (tb D)):PS X (.Try body (h₀::hs) [] [] pos) (fun D σ H=>tb D D σ H):=by
 intro pins s σ H D I h;refine wpAny_Try_except (wpAny_mono (hb pins D [] s σ H D I.try_ h) (fun f s1 h1=>?_) fun e s1 h1=>h1);have h2:SP X pins D f s1:=h1.untry;cases f with
 | next=>exact wpAny_execs_nil h2
 | brk=>exact h2
 | cont=>exact h2
 | ret u=>exact h2
end L2
namespace L2
open PySem PySem.Spec PyProof.Rows Builtin Builtin.ObjectAttr Builtin.Getset_descriptor
structure CJ (K:zP) (C:Addr):Prop where
 ga:PySem.W.findIn K (.ref C) "__getattribute__" = some (some (.builtin "BaseException.__getattribute__"))
 gn:PySem.W.findIn K (.ref C) "__getattr__" = some none
 be:PySem.W.mroIn K C (.type "BaseException")=some true
 at_:PySem.W.findIn K (.ref C) "__class__" = some (some (.builtin "object.__class__"))
 get:PySem.W.specialIn K (.builtin "object.__class__") "__get__" = some (some (.builtin "getset_descriptor.__get__"))
 tk:PySem.W.takesIn K (.builtin "object.__class__")=some true
 ob:PySem.W.mroIn K C (.type "object")=some true
section
variable {K:zP} {x C:Addr} {prog:Program} {w:World} {A:Around} {E:Value->Shared->Prop} {s:Shared}
theorem Rs {M:Model} {g:Heap} (inK:K.In g) (c:CJ K C):PySem.W.Looks M g (find (.ref x) (.ref C) "__class__") (.bind (.builtin "getset_descriptor.__get__") (.builtin "object.__class__")):=by
 have a1:=PySem.W.looks_findIn (M:=M) inK c.at_;have a2:PySem.W.Looks M g (getOf (some (.builtin "object.__class__"))) (some (.builtin "getset_descriptor.__get__")):=PySem.W.looks_specialIn inK c.get;have a3:=PySem.W.looks_takesIn (M:=M) inK c.tk;have a4:PySem.W.Looks M g (dataDescriptor? (some (.builtin "object.__class__")) (some (.builtin "getset_descriptor.__get__"))) (some (.builtin "getset_descriptor.__get__",.builtin "object.__class__")):=a3.andThen .now;exact a1.andThen (a2.andThen (a4.andThen (PySem.W.Looks.tag .now)))
theorem Rr {Q:Option Value->Shared->Prop} (inK:K.In s.heap) (T:∀ M,PySem.W.Looks M s.heap (typeOf (.ref x)) (.ref C)) (c:CJ K C) (q:Q (some (.ref C)) { s with toks:=s.toks+1 }):wpAny (model prog w) A (getAttr? (.ref x) "__class__") Q E s:=by
 have pg1:=c.ga;have pg2:=c.gn;obtain ⟨hp,gs,dr,tk,os⟩:=s;have t0:=T (model prog w);have t1:=PySem.W.looks_findIn (M:=model prog w) inK pg1;have t2:=PySem.W.looks_findIn (M:=model prog w) inK pg2;have t3:=Rs (M:=model prog w) (x:=x) inK c;have t4:=PySem.W.looks_mroIn (M:=model prog w) inK c.ob;have t5:=PySem.W.looks_mroIn (M:=model prog w) inK c.be;unfold getAttr? getAttrBy? getAttrBy;refine wpAny_bind (wpAny_mkText (wpAny_bind (wpAny_attempt (wpAny_holding (wpAny_bind (t0.at (wpAny_bind (t1.at ?_))))))));have hx2:(Value.builtin "BaseException.__getattribute__" == Value.builtin "object.__getattribute__")=false:=by decide +kernel
 have hif:(onTheHeap (Value.ref C)&&Value.builtin "BaseException.__getattribute__" == Value.builtin "object.__getattribute__")=false:=by rw [hx2];rfl
 dsimp only;rw [if_neg (by rw [hif];exact Bool.false_ne_true)]
 unfold getAttrByItsOwn hookBefore;refine wpAny_bind ?_;show wpAny (model prog w) A (typeLookup (.ref C) "__getattr__") _ _ _;refine t2.at (wpAny_bind (wpAny_attempt (wpAny_holding ?_)));show wpAny (model prog w) A (boundAndCalled (.builtin "BaseException.__getattribute__") (.ref x) (.str "__class__" tk)) _ _ _;unfold boundAndCalled;rw [PySem.F.attr_ValueError.ga.bind];refine wpAny_bind (wpAny_pure (wpAny_call ?_));refine codeAny_call_builtin PySem.F.attr_ValueError.ga.plain PySem.F.entry_bexc_ga ?_;have hk:builtinKind "BaseException.__getattribute__" = some .slot:=by decide +kernel
 have hsplit:splitId "BaseException.__getattribute__" = some ("BaseException","__getattribute__"):=by decide +kernel
 have ha:=PySem.F.args_bexc_ga (.ref x) (.str "__class__" tk);simp only [checkBuiltinCall,hk,hsplit];refine wpAny_bind ?_;unfold isInstance
 repeat ((fail_if_success (with_reducible refine wpAny_bind (wpAny_holding (wpAny_call ?_))));lk)
 refine wpAny_bind (wpAny_holding (wpAny_call ?_));refine codeAny_call_builtin PySem.W.KF.slot_gs.plain PySem.W.KF.entry_gs (PySem.W.KF.slot_gs.check _ _ _ _ _ _ _ _ PySem.W.KF.type_class (PySem.W.KF.args_gs _ _ _) ?_);unfold «getset_descriptor.__get__» descrGet;rw [PySem.W.dga_obj];refine wpAny_bind (wpAny_pure ?_);unfold descrGetter descrCheckInstance descrNameAndClass isInstance;simp only [PySem.W.KF.owner_class];repeat lk
 refine ⟨Code.quiet_builtin _ (by decide +kernel),codeAny_builtin PySem.W.KF.entry_class ?_⟩
 unfold «object.__class__» shownTypeOf;repeat lk
 exact q
theorem Az.look {K:zP} {C:Addr} (h:Az K C):∃ dd cd sl,K.lookup C=some ⟨.type "type",dd,.cls cd,sl⟩:=by
 unfold Az PySem.W.excIn at h;split at h
 ·next dd cd sl ho=>exact ⟨dd,cd,sl,ho⟩
 ·cases h
theorem LJ (c:CJ K C) (xc:Az K C):PySem.W.KitX K (.ref x) (.ref C) (fun h=>∃ o,h.get? x=some o/\o.cls = .ref C):=by
 obtain ⟨dd,cd,sl,lk⟩:=xc.look;refine ⟨fun M h _ ⟨o,e,ec⟩=>?_,fun M h inK _=>?_,fun h tp d2 its n sl2 inK htp=>?_,fun inK ⟨o,e,ec⟩ k=>?_⟩
 ·rw [← ec];exact (PySem.W.Looks.ld e).andThen .now
 ·intro A' Q' E' s' k q
  unfold isType loadHead;exact wpAny_bind (wpAny_loadPart (k _ _ (inK _ _ lk)) (wpAny_pure q))
 ·refine Bool.eq_false_iff.mpr fun z=>?_
  have z':C=tp:=Value.ref.inj (beq_iff_eq.mp z);subst z';have:=congrArg (fun o=>o.map Obj.data) ((inK _ _ lk).symm.trans htp);cases this
 ·refine Rr inK (fun M=>?_) c k
  rw [← ec];exact (PySem.W.Looks.ld e).andThen .now
end
def Ln (K:zP):List V->Hp->VK->Prop:=fun vs H Q=>∃ a Ce y c b,vs=[.ref a,y]/\H a=some (DU a Ce)/\Az K Ce/\CJ K Ce/\(y = .ref c/\PySem.W.kitOne K (.ref Ce) (.ref c)=some b\/∃ T,y = .ty T/\PySem.W.kitOne K (.ref Ce) (.type T)=some b)/\Q (.bl b) H
theorem Pi {X:Cx}:BO X (.builtin "isinstance") (Ln X.K):=by
 intro pins s σ H vs us Q I rv q;obtain ⟨a,Ce,y,c,b,rfl,hH,xc,ca,hk,q⟩:=q;obtain ⟨u,z,rfl,ru,rz⟩:=AW.two rv;cases (show u=Value.ref a from ru);obtain ⟨ho,_,_⟩:=(show Av X.prog X.w H s.heap a (DU a Ce) from I.hok a _ hH);rcases hk with ⟨rfl,hk⟩|⟨T,rfl,hk⟩
 ·cases (show z=Value.ref c from rz)
  exact PySem.W.kia_one (LJ ca xc) I.kIn ho hk (fun z=>nomatch z) fun tk=>⟨.bl b,H,I.tok tk,rfl,q⟩
 ·cases (show z=Value.type T from rz)
  exact PySem.W.kia_one (LJ ca xc) I.kIn ho hk (fun z=>nomatch z) fun tk=>⟨.bl b,H,I.tok tk,rfl,q⟩
end L2
namespace L2
open PySem PySem.Spec PyProof.Rows
noncomputable def AA (mg:zQ) (x:Str):Addr:=match mg x with
 | some (.ref a)=>a
 | _=>0
theorem PZ {mg:zQ} {x:Str} {a:Addr} (h:mg x=some (.ref a)):AA mg x=a:=by unfold AA;rw [h]
def zJ (K:zP) (C:Addr) (m qual:Str) (st:Stmt) (ps:List Str):Prop:=∃ (f:Addr) (fd:FuncData),Cs K m qual st f fd/\Hr K C m f/\B6 K fd ps []
def GO (K:zP) (C:Addr) (qual:Str) (st:Stmt) (ps:List Str):Prop:=∃ (f:Addr) (fd:FuncData),Cs K "__init__" qual st f fd/\Mk K C f/\B6 K fd ps []
theorem PY {CX:CA} {P:Program} {w:World} {K:zP} {mg:zQ} {base:Heap} {N:List Str} {qual:Str} {scope:Scope} {f:Addr} {cd:Value} {A:Around} {outer:List Env} {s:Shared} {H:Hp} {E:XK} :
  DG (Cz CX P w K mg base N qual scope f cd A outer s H E).nox:=⟨rfl,rfl,rfl⟩
theorem KQ {X:Cx}:BO X (.type "dict") (fun xs H Q=>∃ a kvs,xs=[.ref a]/\H a=some (.dK kvs)/\∀ p,H p=none->Q (.ref p) (AC H p (.dK kvs))):=by
 intro pins s σ H xs us Q I r h;obtain ⟨a,kvs,rfl,ha,q⟩:=h;obtain ⟨u,rfl,ru⟩:=DC r;cases ru;exact QC I (.inl ha) fun p s' hp I'=>⟨.ref p,_,I',rfl,q p hp⟩
end L2
namespace L2
open PySem PySem.Spec PyProof.Rows
theorem Az.self {K:zP} {C:Addr} {b:Bool} (h:Az K C) (m:PySem.W.mroIn K C (.ref C)=some b):b=true:=by
 unfold Az PySem.W.excIn at h;split at h
 ·next dd cd sl ho =>
  split at h
  ·next C' bm k0 k1 k2 k3 n k5 hm hs =>
   rw [Bool.and_eq_true,Bool.and_eq_true,Bool.and_eq_true,Bool.and_eq_true,Bool.and_eq_true] at h;have e1:=beq_iff_eq.mp h.1.1.1.1.1;subst e1;unfold PySem.W.mroIn PySem.W.clsIn at m;rw [ho] at m;simp only [Option.bind_some,hm] at m;simpa using m.symm
  ·cases h
 ·cases h
theorem Vl {K:zP} {A C:Addr} {b:Bool} (hc:Az K C) (m:PySem.W.mroIn K A (.ref C)=some b):PySem.W.kitOne K (.ref A) (.ref C)=some b:=by
 unfold PySem.W.kitOne;by_cases e:A=C
 ·subst e
  rw [if_pos (beq_self_eq_true _),hc.self m]
 ·rw [if_neg (by simpa using e)]
  obtain ⟨dd,cd,sl,lk⟩:=hc.look;have h1:((PySem.W.clsIn K C).isSome&&PySem.W.typeIn K (.ref C)==some (.type "type"))=true:=by
   unfold PySem.W.clsIn PySem.W.typeIn;rw [lk];simp [lk]
  show (if ((PySem.W.clsIn K C).isSome&&PySem.W.typeIn K (.ref C)==some (.type "type"))=true then PySem.W.subIn K (.ref A) (.ref C) else none)=some b
  rw [if_pos h1];exact m
end L2
namespace L2
open PySem PySem.Spec PyProof.Rows PySem.SeqAt
def Fl (K:zP) (H:Hp):Nat->V->V->Prop
 | 0,x,y=>x=y/\BV x=true
 | n+1,x,y=>(x=y/\BV x=true)\/∃ p q xs ys,x = .ref p/\y = .ref q/\AH K H p xs/\AH K H q ys/\xs.length=ys.length/\∀ (j:Nat) a b,xs[j]? = some a->ys[j]? = some b->Fl K H n a b
theorem Gc {x:V} (f:BV x=true):CM x x=true:=by
 cases x with
 | non=>rfl
 | bl b=>cases b <;> rfl
 | int i=>exact beq_self_eq_true i
 | str z=>exact beq_self_eq_true z
 | _=>cases f
section
variable {X:Cx} {pins:zR} {σ:St} {H:Hp} {s:Shared}
theorem EU {n:Nat}:(List.range n).all (fun _=>true)=true:=by rw [List.all_eq_true];exact fun _ _=>rfl
theorem HN (I:AD X pins σ H s):∀ (n:Nat) {x y:V} {u v:Value} {A:Around},A.units+n<cLine->Fl X.K H n x y->AU x u->AU y v->EqAt A s u v true
 | 0,x,y,u,v,A,_,h,ru,rv=>by
  obtain ⟨rfl,f⟩:=h;have:=Fu (A:=A) (s:=s) ru rv f f
  rwa [Gc f] at this
 | n+1,x,y,u,v,A,hu,h,ru,rv=>by
  rcases h with ⟨rfl,f⟩|⟨p,q,xs,ys,rfl,rfl,hp,hq,hl,he⟩
  ·have:=Fu (A:=A) (s:=s) ru rv f f
   rwa [Gc f] at this
  ·cases (show u=Value.ref p from ru)
   cases (show v=Value.ref q from rv);by_cases e:p=q
   ·subst e;exact EqAt.same _
   ·obtain ⟨us,r1,t1,_⟩:=I.tuple hp
    obtain ⟨vs,r2,t2,_⟩:=I.tuple hq;have l1:=r1.length;have l2:=r2.length;refine EqAt.of_refs e ?_;have r:=RcAt.tuples (A:=A) (s:=s) (e:=fun _=>true) t1 t2 (Nat.lt_of_le_of_lt (Nat.le_add_right _ _) hu) fun j h1 h2=>by
     have h1':j<us.length:=by simpa using h1
     have h2':j<vs.length:=by simpa using h2
     simp only [List.getElem_toArray];have e1:xs[j]? = some xs[j]:=List.getElem?_eq_getElem (by lia)
     have e2:ys[j]? = some ys[j]:=List.getElem?_eq_getElem (by lia)
     obtain ⟨z1,q1,w1⟩:=r1.get e1;obtain ⟨z2,q2,w2⟩:=r2.get e2;rw [List.getElem?_eq_getElem h1'] at q1;rw [List.getElem?_eq_getElem h2'] at q2;cases q1;cases q2;exact HN I n (A:=A.in1) (by show A.units+1+n<cLine;lia) (he j _ _ e1 e2) w1 w2
    rw [EU] at r;have z:(us.toArray.size==vs.toArray.size)=true:=by simp;lia
    rw [z] at r;exact r
def XE (K:zP) (neg:Bool):R2:=fun x y H Q=>∃ p q xs ys,x = .ref p/\y = .ref q/\AH K H p xs/\AH K H q ys/\xs.length=ys.length/\(∀ (j:Nat) a b,xs[j]? = some a->ys[j]? = some b->Fl K H 3 a b)/\Q (.bl (!neg)) H
def HJ (K:zP) (neg:Bool):R2:=fun x y H Q=>∃ p q xs ys,x = .ref p/\y = .ref q/\AF K H p xs/\AF K H q ys/\xs.length=ys.length/\(∀ (j:Nat) a b,xs[j]? = some a->ys[j]? = some b->Fl K H 3 a b)/\Q (.bl (!neg)) H
def HG (K:zP) (neg:Bool):R2:=fun x y H Q=>∃ p q xs ys,x = .ref p/\y = .ref q/\AF K H p xs/\AF K H q ys/\xs.length≠ys.length/\Q (.bl neg) H
theorem WU (hu:X.A.units+4<cLine):A6 X (compareOp .NotEq) (XE X.K true):=by
 intro pins s σ H x y u v Q I ru rv h;obtain ⟨p,q,xs,ys,rfl,rfl,hp,hq,hl,he,k⟩:=h;cases (show u=Value.ref p from ru);cases (show v=Value.ref q from rv);obtain ⟨us,r1,t1,_⟩:=I.tuple hp;obtain ⟨vs,r2,t2,_⟩:=I.tuple hq;have l1:=r1.length;have l2:=r2.length;have r:=RcNeAt.tuples (A:=X.A) (s:=s) (e:=fun _=>true) t1 t2 (by lia) fun j h1 h2=>by
  have h1':j<us.length:=by simpa using h1
  have h2':j<vs.length:=by simpa using h2
  simp only [List.getElem_toArray];have e1:xs[j]? = some xs[j]:=List.getElem?_eq_getElem (by lia)
  have e2:ys[j]? = some ys[j]:=List.getElem?_eq_getElem (by lia)
  obtain ⟨z1,q1,w1⟩:=r1.get e1;obtain ⟨z2,q2,w2⟩:=r2.get e2;rw [List.getElem?_eq_getElem h1'] at q1;rw [List.getElem?_eq_getElem h2'] at q2;cases q1;cases q2;exact HN I 3 (A:=X.A.in1) (by show X.A.units+1+3<cLine;lia) (he j _ _ e1 e2) w1 w2
 rw [EU,show (us.toArray.size==vs.toArray.size)=true by simp;lia] at r
 exact r X.prog X.w X.xe _ ⟨.bl _,H,I,rfl,k⟩
theorem WN (hu:X.A.units+4<cLine):A6 X (compareOp .Eq) (HJ X.K false):=by
 intro pins s σ H x y u v Q I ru rv h;obtain ⟨p,q,xs,ys,rfl,rfl,hp,hq,hl,he,k⟩:=h;cases (show u=Value.ref p from ru);cases (show v=Value.ref q from rv);obtain ⟨us,r1,t1,_⟩:=I.list hp;obtain ⟨vs,r2,t2,_⟩:=I.list hq;have l1:=r1.length;have l2:=r2.length;refine eq_listAt (e:=fun _=>true) t1.isList t2.isList (by simp;lia) (by lia) (fun j h1 h2=>?_) ?_
 ·have h1':j<us.length:=by simpa using h1
  have h2':j<vs.length:=by simpa using h2
  simp only [List.getElem_toArray];have e1:xs[j]? = some xs[j]:=List.getElem?_eq_getElem (by lia)
  have e2:ys[j]? = some ys[j]:=List.getElem?_eq_getElem (by lia)
  obtain ⟨z1,q1,w1⟩:=r1.get e1;obtain ⟨z2,q2,w2⟩:=r2.get e2;rw [List.getElem?_eq_getElem h1'] at q1;rw [List.getElem?_eq_getElem h2'] at q2;cases q1;cases q2;exact HN I 3 (A:=X.A.in1) (by show X.A.units+1+3<cLine;lia) (he j _ _ e1 e2) w1 w2
 ·rw [EU]
  exact ⟨.bl _,H,I,rfl,k⟩
theorem WO (hu:X.A.units+4<cLine):A6 X (compareOp .Eq) (HG X.K false):=by
 intro pins s σ H x y u v Q I ru rv h;obtain ⟨p,q,xs,ys,rfl,rfl,hp,hq,hl,k⟩:=h;cases (show u=Value.ref p from ru);cases (show v=Value.ref q from rv);obtain ⟨us,r1,t1,_⟩:=I.list hp;obtain ⟨vs,r2,t2,_⟩:=I.list hq;have l1:=r1.length;have l2:=r2.length;exact eq_list_lengthsAt t1.isList t2.isList (by simp;lia) (by lia) ⟨.bl _,H,I,rfl,k⟩
theorem WS (hu:X.A.units+4<cLine):A6 X (compareOp .NotEq) (HG X.K true):=by
 intro pins s σ H x y u v Q I ru rv h;obtain ⟨p,q,xs,ys,rfl,rfl,hp,hq,hl,k⟩:=h;cases (show u=Value.ref p from ru);cases (show v=Value.ref q from rv);obtain ⟨us,r1,t1,_⟩:=I.list hp;obtain ⟨vs,r2,t2,_⟩:=I.list hq;have l1:=r1.length;have l2:=r2.length;exact RcNeAt.lists_lengths (A:=X.A) (s:=s) t1.isList t2.isList (by simp;lia) (by lia) X.prog X.w X.xe _ ⟨.bl _,H,I,rfl,k⟩
theorem WR (hu:X.A.units+4<cLine):A6 X (compareOp .NotEq) (HJ X.K true):=by
 intro pins s σ H x y u v Q I ru rv h;obtain ⟨p,q,xs,ys,rfl,rfl,hp,hq,hl,he,k⟩:=h;cases (show u=Value.ref p from ru);cases (show v=Value.ref q from rv);obtain ⟨us,r1,t1,_⟩:=I.list hp;obtain ⟨vs,r2,t2,_⟩:=I.list hq;have l1:=r1.length;have l2:=r2.length;have r:=RcNeAt.lists (A:=X.A) (s:=s) (e:=fun _=>true) t1.isList t2.isList (by simp;lia) (by lia) fun j h1 h2=>by
  have h1':j<us.length:=by simpa using h1
  have h2':j<vs.length:=by simpa using h2
  simp only [List.getElem_toArray];have e1:xs[j]? = some xs[j]:=List.getElem?_eq_getElem (by lia)
  have e2:ys[j]? = some ys[j]:=List.getElem?_eq_getElem (by lia)
  obtain ⟨z1,q1,w1⟩:=r1.get e1;obtain ⟨z2,q2,w2⟩:=r2.get e2;rw [List.getElem?_eq_getElem h1'] at q1;rw [List.getElem?_eq_getElem h2'] at q2;cases q1;cases q2;exact HN I 3 (A:=X.A.in1) (by show X.A.units+1+3<cLine;lia) (he j _ _ e1 e2) w1 w2
 rw [EU] at r;exact r X.prog X.w X.xe _ ⟨.bl _,H,I,rfl,k⟩
theorem Gk {A:Around} {k:Nat} (hr:As k A):A.units+4<cLine:=Nat.lt_of_le_of_lt (Nat.add_le_add_left (by decide:4<=64) _) hr.units
end
end L2
namespace My
open PySem L2 Mt
abbrev Q2:=Int × Int
noncomputable def AI (t b:Int):Q2:=(AG t b,Aj t b)
noncomputable def AJ (a b:Q2):Q2:=AI (a.1*b.2+b.1*a.2) (a.2*b.2)
noncomputable def AX (a b:Q2):Q2:=AI (a.1*b.1) (a.2*b.2)
noncomputable def Bo (a:Q2):Q2:=(-a.1,a.2)
noncomputable def AR (a:Q2):Q2:=(if a.1<0 then -a.1 else a.1,a.2)
noncomputable def AB (ts:List Int):Q2:=AI (Bp ts) (Be ts)
inductive Deed where
 | mount (ts:List Int)|turn (a:Q2)|wait|close|opn|move (a:Q2)|cut (a:Q2)
structure PS where
 train:List Int
 pitch:Option Q2
 work:Q2
 place:Q2
 closed:Bool
 off:Option Q2
 cuts:List Q2
 turned:Q2
 moved:Q2
noncomputable def BZ:PS:=⟨[],none,(0,1),(0,1),false,none,[],(0,1),(0,1)⟩
noncomputable def PS.r (p:PS):Q2:=p.pitch.getD (0,1)
noncomputable def PS.ahead (p:PS):Q2:=match p.off with
 | none=>(0,1)
 | some o=>AI (o.1%(o.2*p.r.1)*p.r.2) (o.2*p.r.1)
noncomputable def PS.turn (p:PS) (a:Q2):PS :=
 { p with work:=AJ p.work a,turned:=AJ p.turned (AR a),place:=if p.closed then AJ p.place (AX p.r a) else p.place,off:=if p.closed then p.off else p.off.map fun o=>AJ o (Bo (AX p.r a)) }
noncomputable def PS.closing (p:PS):Int:=(p.off.getD (0,1)).1
noncomputable def PS.groove (p:PS):Int:=p.closing*p.r.2%p.r.1
noncomputable def PS.after (p:PS):Deed->PS
 | .mount ts=>{ BZ with train:=ts,pitch:=some (AB ts) }
 | .turn a=>p.turn a
 | .wait=>p.turn p.ahead
 | .close=>{ p with closed:=true,off:=some (p.off.getD (0,1)) }
 | .opn=>{ p with closed:=false }
 | .move a=>{ p with place:=AJ p.place a,moved:=AJ p.moved (AR a),off:=p.off.map fun o=>AJ o a }
 | .cut a=>{ p.turn a with cuts:=p.cuts++[(p.closing,p.groove)] }
structure LS where
 shop:List Int
 teeth:Int
 book:List Deed
noncomputable def LS.ps (l:LS):PS:=l.book.foldl PS.after BZ
noncomputable def LS.push (l:LS) (d:Deed):LS:={ l with book:=l.book++[d] }
theorem LS.ps_push (l:LS) (d:Deed):(l.push d).ps=l.ps.after d:=by unfold LS.ps LS.push;rw [List.foldl_append];rfl
noncomputable def LS.back (l:LS):LS:={ l with book:=l.book.dropLast }
inductive Req where
 | mount (ts:List Int)|turn (t b:Int)|wait|close|opn|move (t b:Int)|cut (t b:Int)
noncomputable def Req.deed:Req->Deed
 | .mount ts=>.mount ts
 | .turn t b=>.turn (AI t b)
 | .wait=>.wait
 | .close=>.close
 | .opn=>.opn
 | .move t b=>.move (AI t b)
 | .cut t b=>.cut (AI t b)
noncomputable def Ag (a b:Q2):Bool:=decide (100000*(AJ a (AR b)).2<(AJ a (AR b)).1)
noncomputable def Req.bad (p:PS):Req->Bool
 | .mount ts=>!(decide (ts.length=2\/ts.length=4)&&decide ts.Nodup)
 | .turn t b=>decide (b<1)||decide (1000<b)||Ag p.turned (t,b)
 | .wait=>Ag p.turned p.ahead
 | .close=>false
 | .opn=>false
 | .move t b=>decide (b<1)||decide (1000<b)||Ag p.moved (t,b)
 | .cut t b=>decide (b<1)||decide (1000<b)||decide (t<=0)||Ag p.turned (t,b)
noncomputable def Req.wrong (p:PS):Req->Bool
 | .mount _=>p.closed
 | .turn _ _=>false
 | .wait=>p.closed
 | .close=>p.closed
 | .opn=>!p.closed
 | .move _ _=>p.closed
 | .cut _ _=>!p.closed
noncomputable def Req.known (l:LS):Req->Bool
 | .mount ts=>ts.all fun w=>decide (w∈l.shop)
 | _=>true
noncomputable def Req.has (l:LS):Req->Bool
 | .mount _=>true
 | _=>l.ps.pitch.isSome
noncomputable def Req.meets (l:LS):Req->Bool
 | .close=>(l.ps.off.getD (0,1)).2==1
 | _=>true
noncomputable def AZ (l:LS) (q:Req):Option String :=
 if q.known l=false then some "UnknownWheel"
 else if q.has l=false then some "NoTrain"
 else if q.wrong l.ps=true then some "WrongNut"
 else if q.bad l.ps=true then some "BadNumber"
 else if q.meets l=false then some "NoMeeting"
 else if 100<=l.book.length then some "BookFull"
 else none
def Ai (H H':Hp):Prop:=∀ b xs,H b=some (.tup xs)->H' b=some (.tup xs)
theorem AE.tups {H H':Hp} (s:AE H H'):Ai H H':=fun b xs h=>s b _ h
def Af (K:zP) (H:Hp) (a:Addr) (xs:List V):Prop:=H a=some (.tup xs)\/AH K (fun _=>none) a xs
theorem Af.sq {K:zP} {H:Hp} {a:Addr} {xs:List V} (h:Af K H a xs):AH K H a xs:=by
 rcases h with h|((h|⟨o,h⟩)|h)
 ·exact AH.of h
 ·cases h
 ·cases h
 ·exact .inr h
theorem Af.tups {K:zP} {H H':Hp} {a:Addr} {xs:List V} (h:Af K H a xs) (s:Ai H H'):Af K H' a xs:=h.elim (fun h=>.inl (s _ _ h)) .inr
theorem Af.mono {K:zP} {H H':Hp} {a:Addr} {xs:List V} (h:Af K H a xs) (s:AE H H'):Af K H' a xs:=h.tups (AE.tups s)
def AO (K:zP) (H:Hp) (a:Addr) (x:Q2):Prop:=Af K H a [.int x.1,.int x.2]
def Ay (K:zP) (H:Hp) (v:V):Option Q2->Prop
 | none=>v = .non
 | some x=>∃ a,v = .ref a/\AO K H a x
def J0 (v:V):Option Int->Prop
 | none=>v = .non
 | some x=>v = .int x
noncomputable def LS.shown (l:LS):Option Q2:=l.ps.off.map fun o=>AI (o.1%(l.teeth*o.2)) o.2
noncomputable def LS.last (l:LS):Option Int:=l.ps.cuts.getLast?.map (·.2)
def FC (K:zP) (H:Hp) (r:Addr) (l:LS):Prop:=∃ c v g,H r=some (.tup [.ref c,v,g])/\AO K H c l.ps.place/\Ay K H v l.shown/\J0 g l.last
theorem AO.sq {K:zP} {H:Hp} {a:Addr} {x:Q2} (h:AO K H a x):AH K H a [.int x.1,.int x.2]:=Af.sq h
theorem AO.tups {K:zP} {H H':Hp} {a:Addr} {x:Q2} (h:AO K H a x) (s:Ai H H'):AO K H' a x:=Af.tups h s
theorem AO.mono {K:zP} {H H':Hp} {a:Addr} {x:Q2} (h:AO K H a x) (s:AE H H'):AO K H' a x:=Af.mono h s
theorem Ay.tups {K:zP} {H H':Hp} {v:V} {x:Option Q2} (h:Ay K H v x) (s:Ai H H'):Ay K H' v x:=by
 cases x with
 | none=>exact h
 | some x=>obtain ⟨a,e,h⟩:=h;exact ⟨a,e,h.tups s⟩
structure AS (F F':Addr->Prop) (H H':Hp):Prop where
 keep:∀ b o,H b=some o->¬ F b->H' b=some o
 foot:∀ b,F' b->F b\/H b=none
 tup:∀ b xs,H b=some (.tup xs)->H' b=some (.tup xs)
theorem AS.refl (F:Addr->Prop) (H:Hp):AS F F H H:=⟨fun _ _ h _=>h,fun _ h=>.inl h,fun _ _ h=>h⟩
theorem AS.trans {F F1 F2:Addr->Prop} {H H1 H2:Hp} (a:AS F F1 H H1) (b:AS F1 F2 H1 H2):AS F F2 H H2 where
 keep:=fun c o h n=>b.keep c o (a.keep c o h n) fun z=>(a.foot c z).elim n fun e=>by rw [e] at h;cases h
 foot:=fun c z=>(b.foot c z).elim (a.foot c) fun e=>by
  cases q:H c with
  | none=>exact .inr rfl
  | some o =>
   by_cases m:F c
   ·exact .inl m
   ·rw [a.keep c o q m] at e;cases e
 tup:=fun c xs h=>b.tup c xs (a.tup c xs h)
theorem AS.of_same {F:Addr->Prop} {H H':Hp} (s:AE H H'):AS F F H H':=⟨fun b o h _=>s b o h,fun _ h=>.inl h,fun b xs h=>s b _ h⟩
theorem AS.out {F F':Addr->Prop} {H H':Hp} (a:AS F F' H H') {b:Addr} {o:HO} (h:H b=some o) (n:¬ F b):¬ F' b:=fun z=>(a.foot b z).elim n fun e=>by rw [e] at h;cases h
end My
namespace My
open PySem L2 Mt
structure DH (ws:List Int) (n:Int):Prop where
 l2:2<=ws.length
 l12:ws.length<=12
 shop:Bs ws
 n2:2<=n
 n64:n<=64
theorem SV {l:LS} {ts:List Int} (h1:∀ v∈ts,v∈l.shop) (h2:l.ps.closed=false) (h3:ts.length=2\/ts.length=4) (h4:ts.Nodup) (h5:l.book.length<100):AZ l (.mount ts)=none:=by
 have e1:(ts.all fun w=>decide (w∈l.shop))=true:=by rw [List.all_eq_true];exact fun v hv=>decide_eq_true (h1 v hv)
 have e2:(!(decide (ts.length=2\/ts.length=4)&&decide ts.Nodup))=false:=by rw [decide_eq_true h3,decide_eq_true h4];rfl
 unfold AZ;simp only [Req.known,Req.has,Req.meets,e1,Req.wrong,Req.bad,h2,e2];simp;lia
theorem ST {l:LS} (h1:l.ps.pitch.isSome=true) (h2:l.ps.closed=false) (h3:(l.ps.off.getD (0,1)).2=1) (h5:l.book.length<100):AZ l .close=none:=by
 unfold AZ;simp only [Req.known,Req.has,Req.meets,h1,Req.wrong,Req.bad,h2,h3];simp;lia
theorem SX {l:LS} (h1:l.ps.pitch.isSome=true) (h2:l.ps.closed=true) (h5:l.book.length<100):AZ l .opn=none:=by
 unfold AZ;simp only [Req.known,Req.has,Req.meets,h1,Req.wrong,Req.bad,h2];simp;lia
end My
namespace My
open PySem L2 Mt
theorem Ao.rat {ts:List Int} (h:Ao ts):BK (Bp ts) (Be ts):=by
 obtain ⟨b1,b2,b3,b4⟩:=h.in;exact ⟨by lia,by lia,by lia,by lia⟩
theorem Ao.pl {ts:List Int} (h:Ao ts):Pl (Bp ts) (Be ts) (AB ts).1 (AB ts).2:=h.rat.pl
theorem Ao.bd {ts:List Int} (h:Ao ts):∀ v∈ts,Bd 200 v:=fun v hv=>by
 have h1:=h.lo v hv;have h2:=h.hi v hv;exact (BE (by lia) (by lia)).mono (by decide)
theorem Bs.bd {ts:List Int} (h:Bs ts):∀ v∈ts,Bd 200 v:=fun v hv=>by
 have h1:=h.lo v hv;have h2:=h.hi v hv;exact (BE (by lia) (by lia)).mono (by decide)
theorem Ao.len2 {ts:List Int} (h:Ao ts):ts.length<=4:=by have:=h.len;lia
theorem AS.made {F:Addr->Prop} {H H':Hp} {x dx:Addr} {o o':HO} (nx:H x=none) (nd:H dx=none) (k:∀ b u,AC (AC H dx o) x o' b=some u->b≠x->H' b=some u) (f:∀ b,F b->b=x\/b=dx\/AC (AC H dx o) x o' b=none):AS (fun _=>False) F H H' where
 keep:=fun b u e _=>by
  have n1:=nQ e nx;have n2:=nQ e nd;exact k b u (by rw [uN n1,uN n2];exact e) n1
 foot:=fun b z=>.inr (by
  rcases f b z with e|e|e
  ·rw [e];exact nx
  ·rw [e];exact nd
  ·by_cases n1:b=x
   ·rw [n1];exact nx
   ·by_cases n2:b=dx
    ·rw [n2];exact nd
    ·rw [uN n1,uN n2] at e;exact e)
 tup:=fun b xs e=>by
  have n1:=nQ e nx;have n2:=nQ e nd;exact k b _ (by rw [uN n1,uN n2];exact e) n1
theorem AS.lst {K:zP} {F F':Addr->Prop} {H H':Hp} {a:Addr} {xs:List V} (f:AS F F' H H') (h:AF K H a xs) (n:¬ F a):AF K H' a xs:=by
 rcases h with (h|⟨o,h⟩)|h
 ·exact .inl (.inl (f.keep _ _ h n))
 ·exact .inl (.inr ⟨o,f.keep _ _ h n⟩)
 ·exact .inr h
end My
namespace My
open PySem L2 Mt
def Ob (F:Addr->Prop) (H:Hp) (p:Addr) (o:HO):Prop:=H p=some o/\¬ F p
theorem Ob.fit {F F':Addr->Prop} {H H':Hp} {p:Addr} {o:HO} (h:Ob F H p o) (f:AS F F' H H'):Ob F' H' p o:=⟨f.keep _ _ h.1 h.2,f.out h.1 h.2⟩
theorem Ob.same {F:Addr->Prop} {H H':Hp} {p:Addr} {o:HO} (h:Ob F H p o) (s:AE H H'):Ob F H' p o:=⟨s _ _ h.1,h.2⟩
end My
namespace My
open PySem L2 Mt
noncomputable def qv (a:Q2):Rat:=(a.1:Rat) / (a.2:Rat)
structure Ah (a:Q2):Prop where
 pos:1<=a.2
 co:Int.gcd a.1 a.2=1
theorem Ah.ne {a:Q2} (h:Ah a):a.2≠0:=by have:=h.pos;lia
theorem Ah.nz {a:Q2} (h:Ah a):(a.2:Rat)≠0:=by have:=h.ne;exact_mod_cast this
theorem Ah.gt {a:Q2} (h:Ah a):(0:Rat)<(a.2:Rat):=by have:=h.pos;exact_mod_cast (show (0:Int)<a.2 by lia)
theorem BR {t b:Int} (h:b≠0):Ah (AI t b):=⟨(Cg h).pos,(Cg h).co⟩
theorem C9 {t b:Int} (h:b≠0):qv (AI t b)=(t:Rat) / (b:Rat):=by
 have e:((AI t b).1:Rat)*b=t*((AI t b).2:Rat):=by have:=(Cg (t:=t) h).eq;exact_mod_cast this
 have n1:=(BR (t:=t) h).nz;have n2:(b:Rat)≠0:=by exact_mod_cast h
 unfold qv
 grind
theorem Em {a b:Q2} (ha:Ah a) (hb:Ah b) (h:qv a=qv b):a=b:=by
 have n1:=ha.nz;have n2:=hb.nz;have e:(a.1:Rat)*b.2=b.1*a.2:=by unfold qv at h;grind
 have e:a.1*b.2=b.1*a.2:=by exact_mod_cast e
 have d1:a.2∣b.2:=by
  have:a.2∣b.2*a.1:=⟨b.1,by rw [Int.mul_comm];rw [e];exact Int.mul_comm _ _⟩
  exact FJ (by rw [Int.gcd_comm];exact ha.co) this
 have d2:b.2∣a.2:=by
  have:b.2∣a.2*b.1:=⟨a.1,by rw [Int.mul_comm a.2];rw [← e];exact Int.mul_comm _ _⟩
  exact FJ (by rw [Int.gcd_comm];exact hb.co) this
 have p1:=ha.pos;have p2:=hb.pos;have e2:a.2=b.2:=Int.le_antisymm (Int.le_of_dvd (by lia) d1) (Int.le_of_dvd (by lia) d2)
 rw [e2] at e;have e1:a.1=b.1:=Int.eq_of_mul_eq_mul_right (by lia) e
 exact Prod.ext e1 e2
theorem Cj {a:Q2} (h:Ah a):AI a.1 a.2=a:=Em (BR h.ne) h (C9 h.ne)
theorem Bn {a b:Q2} (ha:a.2≠0) (hb:b.2≠0):Ah (AJ a b):=BR (Int.mul_ne_zero ha hb)
theorem El {a b:Q2} (ha:a.2≠0) (hb:b.2≠0):Ah (AX a b):=BR (Int.mul_ne_zero ha hb)
theorem A3 {a b:Q2} (ha:a.2≠0) (hb:b.2≠0):qv (AJ a b)=qv a+qv b:=by
 unfold AJ;rw [C9 (Int.mul_ne_zero ha hb)];have n1:(a.2:Rat)≠0:=by exact_mod_cast ha
 have n2:(b.2:Rat)≠0:=by exact_mod_cast hb
 unfold qv;rw [Rat.intCast_add,Rat.intCast_mul,Rat.intCast_mul,Rat.intCast_mul]
 grind
theorem EK {a b:Q2} (ha:a.2≠0) (hb:b.2≠0):qv (AX a b)=qv a*qv b:=by
 unfold AX;rw [C9 (Int.mul_ne_zero ha hb)];have n1:(a.2:Rat)≠0:=by exact_mod_cast ha
 have n2:(b.2:Rat)≠0:=by exact_mod_cast hb
 unfold qv;rw [Rat.intCast_mul,Rat.intCast_mul]
 grind
theorem HF (a:Q2):qv (Bo a) =-qv a:=by
 unfold qv Bo;rw [Rat.intCast_neg]
 grind
noncomputable def AT (x:Rat):Rat:=if x<0 then -x else x
theorem EJ {a:Q2} (h:Ah a):Ah (AR a):=by
 refine ⟨h.pos,?_⟩;unfold AR;dsimp only;split
 ·rw [Int.neg_gcd];exact h.co
 ·exact h.co
theorem HE {a:Q2} (h:Ah a):Ah (Bo a):=⟨h.pos,by show Int.gcd (-a.1) a.2=1;rw [Int.neg_gcd];exact h.co⟩
theorem Ll {a:Q2} (h:0<a.2):(qv a<0)↔a.1<0:=by
 have g:(0:Rat)<(a.2:Rat):=by exact_mod_cast h
 unfold qv;constructor
 ·intro z
  have h2:(a.1:Rat) / a.2*a.2<0*a.2:=Rat.mul_lt_mul_of_pos_right z g;have h3:(a.1:Rat) / a.2*a.2=a.1:=by grind
  rw [h3,Rat.zero_mul] at h2
  exact_mod_cast h2
 ·intro z
  have z':(a.1:Rat)<0:=by exact_mod_cast z
  have i:(0:Rat)<(a.2:Rat)⁻¹:=Rat.inv_pos.mpr g;have:=Rat.mul_lt_mul_of_pos_right z' i;rw [Rat.zero_mul] at this;rw [Rat.div_def];exact this
theorem Ba {a:Q2} (h:0<a.2):qv (AR a)=AT (qv a):=by
 unfold AT;by_cases z:a.1<0
 ·rw [if_pos ((Ll h).mpr z)]
  have:AR a=Bo a:=by unfold AR Bo;rw [if_pos z]
  rw [this,HF]
 ·rw [if_neg (fun q=>z ((Ll h).mp q))]
  have:AR a=a:=by unfold AR;rw [if_neg z]
  rw [this]
theorem Dq {a:Q2} {m:Int} (h:0<a.2):qv a<=(m:Rat)↔a.1<=m*a.2:=by
 have g:(0:Rat)<(a.2:Rat):=by exact_mod_cast h
 have h3:(a.1:Rat) / a.2*a.2=a.1:=by grind
 unfold qv;constructor
 ·intro z
  have h2:(a.1:Rat) / a.2*a.2<=m*a.2:=Rat.mul_le_mul_of_nonneg_right z (by grind)
  rw [h3] at h2
  exact_mod_cast h2
 ·intro z
  have z':(a.1:Rat)<=m*a.2:=by exact_mod_cast z
  have i:(0:Rat)<(a.2:Rat)⁻¹:=Rat.inv_pos.mpr g;have:=Rat.mul_le_mul_of_nonneg_right z' (Rat.le_of_lt i);have e:(m:Rat)*a.2*(a.2:Rat)⁻¹=m:=by grind
  rw [e] at this;rw [Rat.div_def];exact this
theorem EL (x y:Rat):AT (x+y)<=AT x+AT y:=by unfold AT;split <;> split <;> split <;> grind
theorem HK (x:Rat):0<=AT x:=by unfold AT;split <;> grind
theorem JL (x:Rat):AT (-x)=AT x:=by unfold AT;split <;> split <;> grind
theorem Lp {r x:Rat} (h:0<=r):AT (r*x)<=r*AT x:=by
 unfold AT;by_cases z:x<0
 ·rw [if_pos z]
  have:r*x<=0:=by
   have:=Rat.mul_le_mul_of_nonneg_left (Rat.le_of_lt z) h
   grind
  split <;> grind
 ·rw [if_neg z]
  have:0<=r*x:=Rat.mul_nonneg h (by grind)
  split <;> grind
def Wh (x:Rat):Prop:=∃ z:Int,x=(z:Rat)
theorem Wh.add {x y:Rat} (h:Wh x) (g:Wh y):Wh (x+y):=by
 obtain ⟨a,rfl⟩:=h;obtain ⟨b,rfl⟩:=g;exact ⟨a+b,(Rat.intCast_add a b).symm⟩
theorem Wh.mul {x y:Rat} (h:Wh x) (g:Wh y):Wh (x*y):=by
 obtain ⟨a,rfl⟩:=h;obtain ⟨b,rfl⟩:=g;exact ⟨a*b,(Rat.intCast_mul a b).symm⟩
theorem Wh.neg {x:Rat} (h:Wh x):Wh (-x):=by
 obtain ⟨a,rfl⟩:=h;exact ⟨-a,(Rat.intCast_neg a).symm⟩
theorem Wh.int (z:Int):Wh (z:Rat):=⟨z,rfl⟩
theorem K0 {a:Q2} {D:Int} (h:Ah a) (g:Wh (qv a*(D:Rat))):a.2∣D:=by
 obtain ⟨z,e⟩:=g;have n:=h.nz;have e1:(a.1:Rat)*D=z*a.2:=by unfold qv at e;grind
 have e2:a.1*D=z*a.2:=by exact_mod_cast e1
 have:a.2∣D*a.1:=⟨z,by rw [Int.mul_comm,e2,Int.mul_comm]⟩
 exact FJ (by rw [Int.gcd_comm];exact h.co) this
theorem Ra {a:Q2} {D:Int} {k:Nat} (h:Ah a) (g:Wh (qv a*(D:Rat))) (d:0<D) (b:Bd k D):Bd k a.2:=by
 have:=Int.le_of_dvd d (K0 h g);have:=h.pos;exact b.le (by lia)
theorem WG {a:Q2} {D m:Int} {k:Nat} (h:Ah a) (g:Wh (qv a*(D:Rat))) (d:0<D) (m0:0<=m) (l:AT (qv a)<=(m:Rat)) (b:Bd k (m*D)):Bd k a.1:=by
 have h1:=Int.le_of_dvd d (K0 h g);have h2:=h.pos;rw [← Ba (by lia)] at l
 have h3:=(Dq (show 0<(AR a).2 from by show 0<a.2;lia)).mp l
 have h4:m*a.2<=m*D:=Int.mul_le_mul_of_nonneg_left h1 m0;have h5:(AR a).1<=m*D:=Int.le_trans h3 h4;refine b.le ?_;have h6:(AR a).1=(a.1.natAbs:Int):=by unfold AR;dsimp only;split <;> lia
 lia
end My
namespace My
open PySem L2 Mt
noncomputable def FR:Nat->Nat
 | 0=>1
 | n+1=>Nat.lcm (FR n) (n+1)
theorem LM:∀ {n b:Nat},1<=b->b<=n->b∣FR n
 | 0,b,h1,h2=>by lia
 | n+1,b,h1,h2=>by
  unfold FR;by_cases e:b=n+1
  ·rw [e];exact Nat.dvd_lcm_right _ _
  ·exact Nat.dvd_trans (LM h1 (by lia)) (Nat.dvd_lcm_left _ _)
noncomputable def LL:Int:=(FR 1000:Nat)
theorem Ho:Bd 1500 LL:=by
 have h:FR 1000<2 ^ 1500:=by decide +kernel
 unfold Bd LL;exact h
theorem Hq:0<LL:=by
 have h:0<FR 1000:=by decide +kernel
 unfold LL;lia
theorem Ri {b:Int} (h1:1<=b) (h2:b<=1000):b∣LL:=by
 have:=LM (n:=1000) (b:=b.toNat) (by lia) (by lia)
 have h:=Int.natCast_dvd_natCast.mpr this;rw [Int.toNat_of_nonneg (by lia)] at h
 exact h
theorem Ot {t b:Int} (h1:1<=b) (h2:b<=1000):Wh (qv (AI t b)*(LL:Rat)):=by
 obtain ⟨k,hk⟩:=Ri h1 h2;rw [C9 (by lia)]
 have n:(b:Rat)≠0:=by exact_mod_cast (show b≠0 by lia)
 refine ⟨t*k,?_⟩;rw [hk,Rat.intCast_mul,Rat.intCast_mul]
 grind
theorem Bc:qv (0,1)=0:=by unfold qv;simp;grind
theorem FV:Ah (0,1):=⟨by decide,by decide⟩
structure Pc (p:PS) (ts:List Int):Prop where
 tr:Ao ts
 nd:ts.Nodup
 et:p.train=ts
 ep:p.pitch=some (AB ts)
 w:Ah p.work
 pl:Ah p.place
 t:Ah p.turned
 m:Ah p.moved
 o:∀ x,p.off=some x->Ah x
 dw:Wh (qv p.work*((LL*(AB ts).1:Int):Rat))
 dt:Wh (qv p.turned*((LL*(AB ts).1:Int):Rat))
 dp:Wh (qv p.place*((LL*(AB ts).2:Int):Rat))
 dm:Wh (qv p.moved*(LL:Rat))
 dx:∀ x,p.off=some x->Wh (qv x*((LL*(AB ts).2:Int):Rat))
 lw:AT (qv p.work)<=qv p.turned
 t0:0<=qv p.turned
 t1:qv p.turned<=100000
 m0:0<=qv p.moved
 m1:qv p.moved<=100000
 lp:AT (qv p.place)<=qv p.moved+qv (AB ts)*qv p.turned
 lo:∀ x,p.off=some x->AT (qv x)<=qv p.moved+qv (AB ts)*qv p.turned
 cl:p.closed=true->∃ k:Int,p.off=some (k,1)
 cu:∀ c∈p.cuts,c.2=c.1*(AB ts).2%(AB ts).1/\Bd 64 c.1
theorem Ao.rok {ts:List Int} (h:Ao ts):Ah (AB ts):=⟨h.pl.q1,h.pl.co⟩
theorem Ao.rpos {ts:List Int} (h:Ao ts):0<=qv (AB ts):=by
 have g:=h.rok.gt;have p:(0:Rat)<=((AB ts).1:Rat):=by have:=h.pl.p1;exact_mod_cast (show (0:Int)<=(AB ts).1 by lia)
 have i:(0:Rat)<((AB ts).2:Rat)⁻¹:=Rat.inv_pos.mpr g;unfold qv;rw [Rat.div_def];exact Rat.mul_nonneg p (Rat.le_of_lt i)
theorem Ao.rle {ts:List Int} (h:Ao ts):qv (AB ts)<=20000:=by
 have:=(Dq (a:=AB ts) (m:=20000) (by have:=h.pl.q1;lia)).mpr (by
  have h1:=h.pl.p2;have h2:=h.pl.q1;have:(20000:Int)*1<=20000*(AB ts).2:=Int.mul_le_mul_of_nonneg_left h2 (by decide)
  lia)
 exact_mod_cast this
theorem Pc.new {ts:List Int} (h:Ao ts) (nd:ts.Nodup):Pc { BZ with train:=ts,pitch:=some (AB ts) } ts:=by
 have z0:AT (qv (0,1))=0:=by rw [Bc];unfold AT;simp
 have wz:∀ d:Rat,Wh (qv (0,1)*d):=fun d=>⟨0,by rw [Bc];simp⟩
 refine ⟨h,nd,rfl,rfl,FV,FV,FV,FV,(fun _ z=>by cases z),wz _,wz _,wz _,wz _,(fun _ z=>by cases z),?_,?_,?_,?_,?_,?_,(fun _ z=>by cases z),(fun z=>by cases z),(fun _ z=>by cases z)⟩
 all_goals (show _<=_)
 ·show AT (qv (0,1))<=qv (0,1);rw [z0,Bc];grind
 ·show 0<=qv (0,1);rw [Bc];grind
 ·show qv (0,1)<=100000;rw [Bc];grind
 ·show 0<=qv (0,1);rw [Bc];grind
 ·show qv (0,1)<=100000;rw [Bc];grind
 ·show AT (qv (0,1))<=qv (0,1)+qv (AB ts)*qv (0,1);rw [z0,Bc];grind
theorem Pc.turn {p:PS} {ts:List Int} {a:Q2} (h:Pc p ts) (ha:Ah a) (d1:Wh (qv a*((LL*(AB ts).1:Int):Rat))) (d2:Wh (qv (AB ts)*qv a*((LL*(AB ts).2:Int):Rat))) (l:qv p.turned+AT (qv a)<=100000):Pc (p.turn a) ts:=by
 have hr:p.r=AB ts:=by unfold PS.r;rw [h.ep];rfl
 have ro:=h.tr.rok;have rp:=h.tr.rpos;have pa:0<a.2:=by have:=ha.pos;lia
 have qa:=EJ ha;have ma:=Lp (x:=qv a) rp;have na:=HK (qv a);have mo:=El (b:=a) ro.ne ha.ne;have eW:qv (p.turn a).work=qv p.work+qv a:=A3 h.w.ne ha.ne;have eT:qv (p.turn a).turned=qv p.turned+AT (qv a):=by
  show qv (AJ p.turned (AR a))=_;rw [A3 h.t.ne qa.ne,Ba pa]
 have hmul:qv (AB ts)*(qv p.turned+AT (qv a))=qv (AB ts)*qv p.turned+qv (AB ts)*AT (qv a):=by grind
 have nra:0<=qv (AB ts)*AT (qv a):=Rat.mul_nonneg rp na;have eM:qv (p.turn a).moved=qv p.moved:=rfl;have offc:∀ x,(p.turn a).off=some x->(p.off=some x)\/(∃ o,p.off=some o/\x=AJ o (Bo (AX (AB ts) a))):=fun x e=>by
  unfold PS.turn at e;dsimp only at e;cases hc:p.closed with
  | true=>rw [hc,if_pos rfl] at e;exact .inl e
  | false =>
   rw [hc,if_neg Bool.false_ne_true,hr] at e;cases ho:p.off with
   | none=>rw [ho] at e;cases e
   | some o=>rw [ho] at e;cases e;exact .inr ⟨o,rfl,rfl⟩
 have plc:((p.turn a).place=p.place)\/(p.turn a).place=AJ p.place (AX (AB ts) a):=by
  unfold PS.turn;dsimp only;rw [hr];split
  ·exact .inr rfl
  ·exact .inl rfl
 refine ⟨h.tr,h.nd,h.et,h.ep,Bn h.w.ne ha.ne,?_,Bn h.t.ne qa.ne,h.m,?_,?_,?_,?_,h.dm,?_,?_,?_,?_,h.m0,h.m1,?_,?_,?_,h.cu⟩
 ·rcases plc with e|e <;> rw [e]
  ·exact h.pl
  ·exact Bn h.pl.ne mo.ne
 ·intro x e
  rcases offc x e with e|⟨o,ho,rfl⟩
  ·exact h.o x e
  ·exact Bn (h.o o ho).ne (HE mo).ne
 ·rw [eW,Rat.add_mul];exact h.dw.add d1
 ·rw [eT,Rat.add_mul]
  refine h.dt.add ?_;unfold AT;split
  ·have:=d1.neg
   rw [← Rat.neg_mul] at this;exact this
  ·exact d1
 ·rcases plc with e|e <;> rw [e]
  ·exact h.dp
  ·rw [A3 h.pl.ne mo.ne,Rat.add_mul,EK ro.ne ha.ne];exact h.dp.add d2
 ·intro x e
  rcases offc x e with e|⟨o,ho,rfl⟩
  ·exact h.dx x e
  ·rw [A3 (h.o o ho).ne (HE mo).ne,Rat.add_mul,HF,EK ro.ne ha.ne,Rat.neg_mul]
   exact (h.dx o ho).add d2.neg
 ·rw [eW,eT]
  have:=EL (qv p.work) (qv a);have:=h.lw
  grind
 ·rw [eT];have:=h.t0;grind
 ·rw [eT];exact l
 ·rw [eT,eM,hmul]
  have h0:=h.lp;rcases plc with e|e <;> rw [e]
  ·grind
  ·rw [A3 h.pl.ne mo.ne,EK ro.ne ha.ne]
   have:=EL (qv p.place) (qv (AB ts)*qv a)
   grind
 ·intro x e
  rw [eT,eM,hmul];rcases offc x e with e|⟨o,ho,rfl⟩
  ·have h0:=h.lo x e
   grind
  ·have h0:=h.lo o ho
   rw [A3 (h.o o ho).ne (HE mo).ne,HF,EK ro.ne ha.ne];have:=EL (qv o) (-(qv (AB ts)*qv a));rw [JL] at this
   grind
 ·intro z
  have z':p.closed=true:=z;obtain ⟨k,e⟩:=h.cl z';refine ⟨k,?_⟩;unfold PS.turn;dsimp only;rw [z',if_pos rfl];exact e
end My
namespace My
open PySem L2 Mt
theorem cX {ts:List Int} {a:Q2} (d:Wh (qv a*(LL:Rat))) (ro:Ah (AB ts)):Wh (qv a*((LL*(AB ts).1:Int):Rat))/\Wh (qv (AB ts)*qv a*((LL*(AB ts).2:Int):Rat)):=by
 have n:=ro.nz;refine ⟨?_,?_⟩
 ·rw [Rat.intCast_mul,← Rat.mul_assoc];exact d.mul (Wh.int _)
 ·have e:qv (AB ts)*qv a*((LL*(AB ts).2:Int):Rat)=qv a*(LL:Rat)*((AB ts).1:Rat):=by
   rw [Rat.intCast_mul];have:qv (AB ts)=((AB ts).1:Rat) / ((AB ts).2:Rat):=rfl;rw [this]
   grind
  rw [e];exact d.mul (Wh.int _)
theorem c5:((100000:Int):Rat)=100000:=rfl
theorem HZ {x:Q2} {t b:Int} (hx:Ah x) (hb:1<=b) (h:Ag x (t,b)=false):qv x+AT (qv (AI t b))<=100000:=by
 unfold Ag at h;have h:=of_decide_eq_false h;have hn:(AR (t,b)).2≠0:=by show b≠0;lia
 have ok:=Bn (a:=x) (b:=AR (t,b)) hx.ne hn;have le:=(Dq (a:=AJ x (AR (t,b))) (m:=100000) (by have:=ok.pos;lia)).mpr (by lia)
 rw [A3 hx.ne hn,Ba (show 0<b by lia),c5] at le
 rw [C9 (by lia)]
 exact le
theorem Hb {x:Q2} {t b:Int} (hx:Ah x) (hb:1<=b) (h:qv x+AT (qv (AI t b))<=100000):Ag x (t,b)=false:=by
 unfold Ag;refine decide_eq_false ?_;have hn:(AR (t,b)).2≠0:=by show b≠0;lia
 have ok:=Bn (a:=x) (b:=AR (t,b)) hx.ne hn;have e:qv (t,b)=qv (AI t b):=by rw [C9 (by lia)];rfl
 have le:qv (AJ x (AR (t,b)))<=((100000:Int):Rat):=by
  rw [A3 hx.ne hn,Ba (show 0<b by lia),e,c5]
  exact h
 have:=(Dq (a:=AJ x (AR (t,b))) (m:=100000) (by have:=ok.pos;lia)).mp le
 lia
theorem DW {p:PS} {ts:List Int} (h:Pc p ts):Ah p.ahead/\0<=qv p.ahead/\(p.off=none->p.ahead=(0,1))/\∀ o,p.off=some o->∃ k:Int,qv (AB ts)*qv p.ahead=qv o-((AB ts).1*k:Int)/\k=o.1 / (o.2*(AB ts).1):=by
 have hr:p.r=AB ts:=by unfold PS.r;rw [h.ep];rfl
 have L:=h.tr.pl;have p1:=L.p1;have q1:=L.q1;cases ho:p.off with
 | none =>
  have e:p.ahead=(0,1):=by unfold PS.ahead;rw [ho]
  rw [e];exact ⟨FV,by rw [Bc];grind,fun _=>rfl,fun _ z=>by cases z⟩
 | some o =>
  have oo:=h.o o ho;have o2:=oo.pos;have D:0<o.2*(AB ts).1:=Int.mul_pos (by lia) (by lia)
  have e:p.ahead=AI (o.1%(o.2*(AB ts).1)*(AB ts).2) (o.2*(AB ts).1):=by unfold PS.ahead;rw [ho,hr]
  have r0:=Int.emod_nonneg o.1 (Int.ne_of_gt D);have dv:=Int.emod_add_mul_ediv o.1 (o.2*(AB ts).1);have va:qv p.ahead=((o.1%(o.2*(AB ts).1)*(AB ts).2:Int):Rat) / ((o.2*(AB ts).1:Int):Rat):=by rw [e,C9 (Int.ne_of_gt D)]
  refine ⟨by rw [e];exact BR (Int.ne_of_gt D),?_,(fun z=>by cases z),fun o' z=>?_⟩
  ·rw [va,Rat.div_def]
   have n1:(0:Rat)<=((o.1%(o.2*(AB ts).1)*(AB ts).2:Int):Rat):=by exact_mod_cast Int.mul_nonneg r0 (show 0<=(AB ts).2 by lia)
   have n2:(0:Rat)<((o.2*(AB ts).1:Int):Rat)⁻¹:=Rat.inv_pos.mpr (by exact_mod_cast D)
   exact Rat.mul_nonneg n1 (Rat.le_of_lt n2)
  ·cases z
   refine ⟨o.1 / (o.2*(AB ts).1),?_,rfl⟩;rw [va];have hq:qv (AB ts)=((AB ts).1:Rat) / ((AB ts).2:Rat):=rfl;have ho':qv o=(o.1:Rat) / (o.2:Rat):=rfl;have n1:((AB ts).1:Rat)≠0:=by exact_mod_cast (show (AB ts).1≠0 by lia)
   have n2:((AB ts).2:Rat)≠0:=by exact_mod_cast (show (AB ts).2≠0 by lia)
   have n3:(o.2:Rat)≠0:=oo.nz;have dv':((o.1%(o.2*(AB ts).1):Int):Rat)=(o.1:Rat)-(o.2:Rat)*((AB ts).1:Rat)*((o.1 / (o.2*(AB ts).1):Int):Rat):=by
    have:o.1%(o.2*(AB ts).1)=o.1-o.2*(AB ts).1*(o.1 / (o.2*(AB ts).1)):=by lia
    rw [this,Rat.intCast_sub,Rat.intCast_mul,Rat.intCast_mul]
   rw [hq,ho',Rat.intCast_mul,Rat.intCast_mul,Rat.intCast_mul,dv'];generalize ((o.1 / (o.2*(AB ts).1):Int):Rat)=k at *
   grind
theorem KB {p:PS} {ts:List Int} (h:Pc p ts):Wh (qv p.ahead*((LL*(AB ts).1:Int):Rat))/\Wh (qv (AB ts)*qv p.ahead*((LL*(AB ts).2:Int):Rat)):=by
 obtain ⟨_,_,h0,h1⟩:=DW h;cases ho:p.off with
 | none =>
  rw [h0 ho,Bc];exact ⟨⟨0,by simp⟩,⟨0,by simp⟩⟩
 | some o =>
  obtain ⟨k,e,_⟩:=h1 o ho;have w:=h.dx o ho;have both:Wh (qv (AB ts)*qv p.ahead*((LL*(AB ts).2:Int):Rat)):=by
   rw [e,Rat.sub_eq_add_neg,Rat.add_mul];exact w.add ((Wh.int _).neg.mul (Wh.int _))
  refine ⟨?_,both⟩;have n2:=h.tr.rok.nz;have e2:qv p.ahead*((LL*(AB ts).1:Int):Rat)=qv (AB ts)*qv p.ahead*((LL*(AB ts).2:Int):Rat):=by
   have hq:qv (AB ts)=((AB ts).1:Rat) / ((AB ts).2:Rat):=rfl;rw [hq,Rat.intCast_mul,Rat.intCast_mul]
   grind
  rw [e2];exact both
end My
namespace My
open PySem L2 Mt
inductive Reach:LS->Prop where
 | new {ws:List Int} {n:Int} (g:DH ws n):Reach ⟨ws,n,[]⟩
 | step {l:LS} {q:Req} (h:Reach l) (d:AZ l q=none):Reach (l.push q.deed)
structure O8 (l:LS) (q:Req):Prop where
 kn:∀ ts,q = .mount ts->∀ w∈ts,w∈l.shop
 tr:(∀ ts,q≠.mount ts)->l.ps.pitch.isSome=true
 nut:q.wrong l.ps=false
 ok:q.bad l.ps=false
 meet:q = .close->(l.ps.off.getD (0,1)).2=1
 room:l.book.length<100
theorem CL {l:LS} {q:Req} (h:AZ l q=none):O8 l q:=by
 unfold AZ at h;cases h1:q.known l with
 | false=>rw [if_pos h1] at h;cases h
 | true =>
 rw [if_neg (by rw [h1];decide)] at h
 cases h2:q.has l with
 | false=>rw [if_pos h2] at h;cases h
 | true =>
 rw [if_neg (by rw [h2];decide)] at h
 cases h3:q.wrong l.ps with
 | true=>rw [if_pos h3] at h;cases h
 | false =>
 rw [if_neg (by rw [h3];decide)] at h
 cases h4:q.bad l.ps with
 | true=>rw [if_pos h4] at h;cases h
 | false =>
 rw [if_neg (by rw [h4];decide)] at h
 cases h5:q.meets l with
 | false=>rw [if_pos h5] at h;cases h
 | true =>
 rw [if_neg (by rw [h5];decide)] at h
 by_cases h6:100<=l.book.length
 ·rw [if_pos h6] at h;cases h
 refine ⟨fun ts e=>?_,fun e=>?_,h3,h4,fun e=>?_,by lia⟩
 ·subst e
  exact fun w hw=>of_decide_eq_true (List.all_eq_true.mp (show (ts.all fun w=>decide (w∈l.shop))=true from h1) w hw)
 ·cases q with
  | mount ts=>exact absurd rfl (e ts)
  | _=>exact h2
 ·subst e
  exact eq_of_beq (show ((l.ps.off.getD (0,1)).2==1)=true from h5)
theorem Pc.amount {p:PS} {ts:List Int} {t b:Int} (h:Pc p ts) (h1:1<=b) (h2:b<=1000) (l:Ag p.turned (t,b)=false):Pc (p.turn (AI t b)) ts:=by
 have w:=cX (ts:=ts) (Ot (t:=t) h1 h2) h.tr.rok;exact h.turn (BR (by lia)) w.1 w.2 (HZ h.t h1 l)
theorem Pc.wait {p:PS} {ts:List Int} (h:Pc p ts) (l:Ag p.turned p.ahead=false):Pc (p.turn p.ahead) ts:=by
 have a:=DW h;have w:=KB h;have l':=HZ (t:=p.ahead.1) (b:=p.ahead.2) h.t a.1.pos l;rw [Cj a.1] at l';exact h.turn a.1 w.1 w.2 l'
theorem Pc.offBd {p:PS} {ts:List Int} (h:Pc p ts) {x:Q2} (hx:p.off=some x):AT (qv x)<=((2000100000:Int):Rat):=by
 have h1:=h.lo x hx;have h2:=h.tr.rle;have h3:=h.t1;have h4:=h.t0;have h5:=h.m1;have h6:qv (AB ts)*qv p.turned<=20000*qv p.turned:=Rat.mul_le_mul_of_nonneg_right h2 h4;have e:((2000100000:Int):Rat)=2000100000:=rfl;rw [e]
 grind
theorem Pc.placeBd {p:PS} {ts:List Int} (h:Pc p ts):AT (qv p.place)<=((2000100000:Int):Rat):=by
 have h1:=h.lp;have h2:=h.tr.rle;have h3:=h.t1;have h4:=h.t0;have h5:=h.m1;have h6:qv (AB ts)*qv p.turned<=20000*qv p.turned:=Rat.mul_le_mul_of_nonneg_right h2 h4;have e:((2000100000:Int):Rat)=2000100000:=rfl;rw [e]
 grind
theorem Pc.closeBd {p:PS} {ts:List Int} (h:Pc p ts) {k:Int} (hx:p.off=some (k,1)):Bd 64 k:=by
 have h1:=h.offBd hx;rw [← Ba (by show (0:Int)<1;decide)] at h1
 have h2:=(Dq (a:=AR (k,1)) (m:=2000100000) (by show (0:Int)<1;decide)).mp h1
 have h3:(AR (k,1)).1=(k.natAbs:Int):=by unfold AR;dsimp only;split <;> lia
 have h4:(AR (k,1)).2=1:=rfl;rw [h3,h4] at h2;unfold Bd;have:(2:Nat) ^ 64=18446744073709551616:=by decide
 lia
theorem Ls {l:LS} (h:Reach l):DH l.shop l.teeth/\(l.ps=BZ\/∃ ts,Pc l.ps ts/\∀ v∈ts,v∈l.shop):=by
 induction h with
 | new g=>exact ⟨g,.inl rfl⟩
 | @step l q _ d ih =>
  obtain ⟨G,ih⟩:=ih;obtain ⟨kn,tr,nut,ok,meet,room⟩:=CL d;refine ⟨G,.inr ?_⟩;rw [LS.ps_push];cases q with
  | mount ts =>
   have k:=kn ts rfl;have ok':(decide (ts.length=2\/ts.length=4)&&decide ts.Nodup)=true:=by
    have z:(!(decide (ts.length=2\/ts.length=4)&&decide ts.Nodup))=false:=ok;cases hh:(decide (ts.length=2\/ts.length=4)&&decide ts.Nodup) with
    | true=>rfl
    | false=>rw [hh] at z;cases z
   rw [Bool.and_eq_true] at ok';exact ⟨ts,Pc.new ⟨of_decide_eq_true ok'.1,fun v hv=>G.shop.lo v (k v hv),fun v hv=>G.shop.hi v (k v hv)⟩ (of_decide_eq_true ok'.2),k⟩
  | turn t b =>
   have s:=tr (fun ts z=>nomatch z);rcases ih with e|⟨ts,P,k⟩
   ·rw [e] at s;cases s
   ·have ok':(decide (b<1)||decide (1000<b)||Ag l.ps.turned (t,b))=false:=ok
    rw [Bool.or_eq_false_iff,Bool.or_eq_false_iff] at ok';exact ⟨ts,P.amount (by have:=of_decide_eq_false ok'.1.1;lia) (by have:=of_decide_eq_false ok'.1.2;lia) ok'.2,k⟩
  | wait =>
   have s:=tr (fun ts z=>nomatch z);rcases ih with e|⟨ts,P,k⟩
   ·rw [e] at s;cases s
   ·exact ⟨ts,P.wait ok,k⟩
  | close =>
   have s:=tr (fun ts z=>nomatch z);have m:=meet rfl;rcases ih with e|⟨ts,P,k⟩
   ·rw [e] at s;cases s
   ·refine ⟨ts,?_,k⟩
    have hoff:∀ x,(l.ps.after .close).off=some x->l.ps.off=some x\/x=(0,1):=fun x e=>by
     have e:some (l.ps.off.getD (0,1))=some x:=e;cases ho:l.ps.off with
     | none=>rw [ho] at e;cases e;exact .inr rfl
     | some o=>rw [ho] at e;cases e;exact .inl rfl
    have z0:AT (qv (0,1))=0:=by rw [Bc];unfold AT;simp
    refine ⟨P.tr,P.nd,P.et,P.ep,P.w,P.pl,P.t,P.m,fun x e=>?_,P.dw,P.dt,P.dp,P.dm,fun x e=>?_,P.lw,P.t0,P.t1,P.m0,P.m1,P.lp,fun x e=>?_,fun _=>?_,P.cu⟩
    ·rcases hoff x e with e|rfl
     ·exact P.o x e
     ·exact FV
    ·rcases hoff x e with e|rfl
     ·exact P.dx x e
     ·exact ⟨0,by rw [Bc];simp⟩
    ·rcases hoff x e with e|rfl
     ·exact P.lo x e
     ·rw [z0]
      have:=HK (qv l.ps.place);exact Rat.le_trans this P.lp
    ·refine ⟨(l.ps.off.getD (0,1)).1,?_⟩
     exact congrArg some (Prod.ext rfl m)
  | opn =>
   have s:=tr (fun ts z=>nomatch z);rcases ih with e|⟨ts,P,k⟩
   ·rw [e] at s;cases s
   ·exact ⟨ts,⟨P.tr,P.nd,P.et,P.ep,P.w,P.pl,P.t,P.m,P.o,P.dw,P.dt,P.dp,P.dm,P.dx,P.lw,P.t0,P.t1,P.m0,P.m1,P.lp,P.lo,(fun z=>by cases z),P.cu⟩,k⟩
  | move t b =>
   have s:=tr (fun ts z=>nomatch z);rcases ih with e|⟨ts,P,k⟩
   ·rw [e] at s;cases s
   ·have ok':(decide (b<1)||decide (1000<b)||Ag l.ps.moved (t,b))=false:=ok
    rw [Bool.or_eq_false_iff,Bool.or_eq_false_iff] at ok';have b1:1<=b:=by have:=of_decide_eq_false ok'.1.1;lia
    have b2:b<=1000:=by have:=of_decide_eq_false ok'.1.2;lia
    have ha:=BR (t:=t) (b:=b) (by lia)
    have qa:=EJ ha;have wl:=Ot (t:=t) b1 b2;have mm:=HZ P.m b1 ok'.2;have na:=HK (qv (AI t b));have pa:0<(AI t b).2:=by have:=ha.pos;lia
    have eM:qv (l.ps.after (.move (AI t b))).moved=qv l.ps.moved+AT (qv (AI t b)):=by
     show qv (AJ l.ps.moved (AR (AI t b)))=_;rw [A3 P.m.ne qa.ne,Ba pa]
    have eP:qv (l.ps.after (.move (AI t b))).place=qv l.ps.place+qv (AI t b):=A3 P.pl.ne ha.ne;have hoff:∀ x,(l.ps.after (.move (AI t b))).off=some x->∃ o,l.ps.off=some o/\x=AJ o (AI t b):=fun x e=>by
     have e:(l.ps.off.map fun o=>AJ o (AI t b))=some x:=e;cases ho:l.ps.off with
     | none=>rw [ho] at e;cases e
     | some o=>rw [ho] at e;cases e;exact ⟨o,rfl,rfl⟩
    have w2:Wh (qv (AI t b)*((LL*(AB ts).2:Int):Rat)):=by rw [Rat.intCast_mul,← Rat.mul_assoc];exact wl.mul (Wh.int _)
    show ∃ ts,Pc (l.ps.after (.move (AI t b))) ts/\∀ v∈ts,v∈l.shop;refine ⟨ts,⟨P.tr,P.nd,P.et,P.ep,P.w,Bn P.pl.ne ha.ne,P.t,Bn P.m.ne qa.ne,fun x e=>?_,P.dw,P.dt,?_,?_,fun x e=>?_,P.lw,P.t0,P.t1,?_,?_,?_,fun x e=>?_,fun z=>?_,P.cu⟩,k⟩
    ·obtain ⟨o,ho,rfl⟩:=hoff x e
     exact Bn (P.o o ho).ne ha.ne
    ·rw [eP,Rat.add_mul];exact P.dp.add w2
    ·rw [eM,Rat.add_mul]
     refine P.dm.add ?_;unfold AT;split
     ·have:=wl.neg
      rw [← Rat.neg_mul] at this;exact this
     ·exact wl
    ·obtain ⟨o,ho,rfl⟩:=hoff x e
     rw [A3 (P.o o ho).ne ha.ne,Rat.add_mul];exact (P.dx o ho).add w2
    ·rw [eM];have:=P.m0;grind
    ·rw [eM];exact mm
    ·rw [eM,eP]
     have h0:=P.lp;have h1:=EL (qv l.ps.place) (qv (AI t b));have e3:qv (l.ps.after (.move (AI t b))).turned=qv l.ps.turned:=rfl;rw [e3]
     grind
    ·obtain ⟨o,ho,rfl⟩:=hoff x e
     have h0:=P.lo o ho;rw [eM,A3 (P.o o ho).ne ha.ne];have h1:=EL (qv o) (qv (AI t b));have e3:qv (l.ps.after (.move (AI t b))).turned=qv l.ps.turned:=rfl;rw [e3]
     grind
    ·have nut':l.ps.closed=false:=nut
     have z':l.ps.closed=true:=z;rw [nut'] at z';cases z'
  | cut t b =>
   have s:=tr (fun ts z=>nomatch z);rcases ih with e|⟨ts,P,k⟩
   ·rw [e] at s;cases s
   ·have ok':(decide (b<1)||decide (1000<b)||decide (t<=0)||Ag l.ps.turned (t,b))=false:=ok
    rw [Bool.or_eq_false_iff,Bool.or_eq_false_iff,Bool.or_eq_false_iff] at ok';have P2:=P.amount (t:=t) (b:=b) (by have:=of_decide_eq_false ok'.1.1.1;lia) (by have:=of_decide_eq_false ok'.1.1.2;lia) ok'.2
    have cz:l.ps.closed=true:=by
     have:(!l.ps.closed)=false:=nut;simpa using this
    obtain ⟨kk,hk⟩:=P.cl cz;refine ⟨ts,⟨P2.tr,P2.nd,P2.et,P2.ep,P2.w,P2.pl,P2.t,P2.m,P2.o,P2.dw,P2.dt,P2.dp,P2.dm,P2.dx,P2.lw,P2.t0,P2.t1,P2.m0,P2.m1,P2.lp,P2.lo,P2.cl,fun c hc=>?_⟩,k⟩;have hr:l.ps.r=AB ts:=by unfold PS.r;rw [P.ep];rfl
    have hc:c∈l.ps.cuts++[(l.ps.closing,l.ps.groove)]:=hc;rcases List.mem_append.mp hc with z|z
    ·exact P.cu c z
    ·rw [List.mem_singleton.mp z]
     have e1:l.ps.closing=kk:=by unfold PS.closing;rw [hk];rfl
     refine ⟨?_,?_⟩
     ·show l.ps.groove=_
      unfold PS.groove;rw [hr]
     ·show Bd 64 l.ps.closing
      rw [e1];exact P.closeBd hk
end My
namespace My
open PySem L2 Mt
theorem SY {l:LS} {ts:List Int} {t b:Int} (P:Pc l.ps ts) (h1:1<=b) (h2:b<=1000) (room:l.book.length<100) (m:qv l.ps.turned+AT (qv (AI t b))<=100000):AZ l (.turn t b)=none:=by
 have e1:Ag l.ps.turned (t,b)=false:=Hb P.t h1 m;have e2:decide (b<1)=false:=decide_eq_false (by lia)
 have e3:decide (1000<b)=false:=decide_eq_false (by lia)
 have e4:l.ps.pitch.isSome=true:=by rw [P.ep];rfl
 unfold AZ;simp only [Req.known,Req.has,Req.meets,Req.wrong,Req.bad,e1,e2,e3,e4];simp;lia
theorem SW {l:LS} {ts:List Int} {t b:Int} (P:Pc l.ps ts) (h1:1<=b) (h2:b<=1000) (nut:l.ps.closed=false) (room:l.book.length<100) (m:qv l.ps.moved+AT (qv (AI t b))<=100000):AZ l (.move t b)=none:=by
 have e1:Ag l.ps.moved (t,b)=false:=Hb P.m h1 m;have e2:decide (b<1)=false:=decide_eq_false (by lia)
 have e3:decide (1000<b)=false:=decide_eq_false (by lia)
 have e4:l.ps.pitch.isSome=true:=by rw [P.ep];rfl
 unfold AZ;simp only [Req.known,Req.has,Req.meets,Req.wrong,Req.bad,e1,e2,e3,e4,nut];simp;lia
theorem SU {l:LS} {ts:List Int} {t b:Int} (P:Pc l.ps ts) (h0:1<=t) (h1:1<=b) (h2:b<=1000) (nut:l.ps.closed=true) (room:l.book.length<100) (m:qv l.ps.turned+AT (qv (AI t b))<=100000):AZ l (.cut t b)=none:=by
 have e1:Ag l.ps.turned (t,b)=false:=Hb P.t h1 m;have e2:decide (b<1)=false:=decide_eq_false (by lia)
 have e3:decide (1000<b)=false:=decide_eq_false (by lia)
 have e5:decide (t<=0)=false:=decide_eq_false (by lia)
 have e4:l.ps.pitch.isSome=true:=by rw [P.ep];rfl
 unfold AZ;simp only [Req.known,Req.has,Req.meets,Req.wrong,Req.bad,e1,e2,e3,e4,e5,nut];simp;lia
theorem cE {l:LS} {ts:List Int} {t b:Int} (P:Pc l.ps ts) (h1:1<=b):qv (l.push (.turn (AI t b))).ps.turned=qv l.ps.turned+AT (qv (AI t b)):=by
 have ha:=BR (t:=t) (b:=b) (by lia)
 rw [LS.ps_push];show qv (AJ l.ps.turned (AR (AI t b)))=_;rw [A3 P.t.ne (EJ ha).ne,Ba (by have:=ha.pos;lia)]
theorem V5 {l:LS} {ts:List Int} {t b:Int} (P:Pc l.ps ts) (h1:1<=b):qv (l.push (.move (AI t b))).ps.moved=qv l.ps.moved+AT (qv (AI t b)):=by
 have ha:=BR (t:=t) (b:=b) (by lia)
 rw [LS.ps_push];show qv (AJ l.ps.moved (AR (AI t b)))=_;rw [A3 P.m.ne (EJ ha).ne,Ba (by have:=ha.pos;lia)]
theorem Lq {t b m:Int} (h1:1<=b) (h2:-m<=t) (h3:t<=m):AT (qv (AI t b))<=(m:Rat):=by
 have hb:(b:Int)≠0:=by lia
 rw [C9 hb];show AT (qv (t,b))<=(m:Rat);rw [← Ba (a:=(t,b)) (by show 0<b;lia)]
 refine (Dq (a:=AR (t,b)) (m:=m) (by show 0<b;lia)).mpr ?_
 have e:(AR (t,b)).1<=m:=by
  unfold AR;dsimp only;split <;> lia
 show (AR (t,b)).1<=m*b;have hm:0<=m:=by lia
 have:=Int.mul_le_mul_of_nonneg_left h1 hm;lia
theorem Cl {a:Q2} {D m:Int} (h:Ah a) (g:Wh (qv a*(D:Rat))) (d:0<D) (bD:Bd 1565 D) (m0:0<=m) (bm:Bd 64 m) (l:AT (qv a)<=(m:Rat)):Bd 1700 a.1/\Bd 1700 a.2 :=
 ⟨WG h g d m0 l ((bm.mul bD).mono (by decide)),(Ra h g d bD).mono (by decide)⟩
theorem Ao.D2 {ts:List Int} (h:Ao ts):0<LL*(AB ts).2/\Bd 1565 (LL*(AB ts).2) :=
 ⟨Int.mul_pos Hq (by have:=h.pl.q1;lia),(Ho.mul h.pl.bq).mono (by decide)⟩
theorem Ao.D1 {ts:List Int} (h:Ao ts):0<LL*(AB ts).1/\Bd 1565 (LL*(AB ts).1) :=
 ⟨Int.mul_pos Hq (by have:=h.pl.p1;lia),(Ho.mul h.pl.bp).mono (by decide)⟩
theorem IF:Bd 64 2000100000:=by unfold Bd;decide
theorem FE:Bd 64 100000:=by unfold Bd;decide
theorem Pc.placeN {p:PS} {ts:List Int} (h:Pc p ts):Bd 1700 p.place.1/\Bd 1700 p.place.2:=Cl h.pl h.dp h.tr.D2.1 h.tr.D2.2 (by decide) IF h.placeBd
theorem Pc.offN {p:PS} {ts:List Int} (h:Pc p ts) {x:Q2} (hx:p.off=some x):Bd 1700 x.1/\Bd 1700 x.2:=Cl (h.o x hx) (h.dx x hx) h.tr.D2.1 h.tr.D2.2 (by decide) IF (h.offBd hx)
theorem Pc.turnedN {p:PS} {ts:List Int} (h:Pc p ts):Bd 1700 p.turned.1/\Bd 1700 p.turned.2:=Cl (m:=100000) h.t h.dt h.tr.D1.1 h.tr.D1.2 (by decide) FE (by
 have e:AT (qv p.turned)=qv p.turned:=by unfold AT;rw [if_neg (Rat.not_lt.mpr h.t0)]
 rw [e];exact h.t1)
theorem Pc.workN {p:PS} {ts:List Int} (h:Pc p ts):Bd 1700 p.work.1/\Bd 1700 p.work.2:=Cl (m:=100000) h.w h.dw h.tr.D1.1 h.tr.D1.2 (by decide) FE (Rat.le_trans h.lw h.t1)
theorem Pc.movedN {p:PS} {ts:List Int} (h:Pc p ts):Bd 1700 p.moved.1/\Bd 1700 p.moved.2:=Cl (m:=100000) h.m h.dm Hq (Ho.mono (by decide)) (by decide) FE (by
 have e:AT (qv p.moved)=qv p.moved:=by unfold AT;rw [if_neg (Rat.not_lt.mpr h.m0)]
 rw [e];exact h.m1)
def Bu (K:zP) (F:Addr->Prop) (H:Hp) (a:Addr) (xs:List V):Prop:=AF K H a xs/\(¬ F a\/∀ H',AF K H' a xs)
theorem Bu.fit {K:zP} {F F':Addr->Prop} {H H':Hp} {a:Addr} {xs:List V} (h:Bu K F H a xs) (f:AS F F' H H'):Bu K F' H' a xs:=by
 obtain ⟨h1,h2⟩:=h;rcases h2 with n|al
 ·refine ⟨f.lst h1 n,?_⟩
  rcases h1 with (e|⟨o,e⟩)|e
  ·exact .inl (f.out e n)
  ·exact .inl (f.out e n)
  ·exact .inr fun _=>.inr e
 ·exact ⟨al _,.inr al⟩
theorem Bu.same {K:zP} {F:Addr->Prop} {H H':Hp} {a:Addr} {xs:List V} (h:Bu K F H a xs) (s:AE H H'):Bu K F H' a xs:=⟨s.seq h.1,h.2⟩
end My
namespace L2
open PySem PySem.Spec PyProof.Rows
theorem LW {ns:List Int}:∀ n,n<=ns.length->(firstMet (fun i=>ns.getD i 0) n).length=n->firstMet (fun i=>ns.getD i 0) n=ns.take n/\(ns.take n).Nodup
 | 0,_,_=>by rw [firstMet_zero,List.take_zero];exact ⟨rfl,List.nodup_nil⟩
 | n+1,h,e=>by
  have hn:n<ns.length:=h;have le:=firstMet_length_le (fun i=>ns.getD i 0) n;have ex:ns.getD n 0=ns[n]:=by rw [List.getD_eq_getElem?_getD,List.getElem?_eq_getElem hn];rfl
  have t:ns.take (n+1)=ns.take n++[ns[n]]:=by rw [List.take_add_one,List.getElem?_eq_getElem hn];rfl
  rw [firstMet_succ] at e ⊢;unfold step_dedup at e ⊢;by_cases z:((firstMet (fun i=>ns.getD i 0) n).any fun x=>x==ns.getD n 0)=true
  ·rw [if_pos z] at e;lia
  ·rw [if_neg z] at e ⊢
   have e':(firstMet (fun i=>ns.getD i 0) n).length=n:=by simpa using e
   obtain ⟨h1,h2⟩:=LW n (by lia) e'
   rw [h1] at z ⊢;rw [t,ex];refine ⟨rfl,List.nodup_append.mpr ⟨h2,by simp,fun a ha b hb=>?_⟩⟩
   rw [List.mem_singleton.mp hb];intro q;exact z (List.any_eq_true.mpr ⟨a,ha,by rw [ex];simpa using q⟩)
noncomputable def CN (ns:List Int):Nat:=(firstMet (fun i=>ns.getD i 0) ns.length).length
theorem LU {ns:List Int}:CN ns<ns.length↔¬ ns.Nodup:=by
 have le:=firstMet_length_le (fun i=>ns.getD i 0) ns.length;constructor
 ·intro h nd
  unfold CN at h;rw [LX nd _ (Nat.le_refl _),List.take_length] at h;lia
 ·intro h
  rcases Nat.lt_or_ge (CN ns) ns.length with l|l
  ·exact l
  ·have e:(firstMet (fun i=>ns.getD i 0) ns.length).length=ns.length:=by unfold CN at l;lia
   have:=(LW ns.length (Nat.le_refl _) e).2;rw [List.take_length] at this;exact absurd this h
section
variable {X:Cx}
theorem KU (hc:X.calm=true):BO X (.type "set") (fun xs H Q=>∃ (p:Addr) (ns:List Int),xs=[.ref p]/\BB X.K H p (ns.map V.int)/\ns.length<=1000/\∀ (l:Addr) (S:Int->Bool),H l=none->Q (.ref l) (AC H l (.set S (CN ns)))):=by
 intro pins s σ H xs us Q I r h;obtain ⟨p,ns,rfl,hq,h100,q⟩:=h;obtain ⟨u,rfl,rx⟩:=DC r;cases rx;rcases hq with hq|hq
 ·obtain ⟨its,r',pl,hz⟩:=I.list hq
  have hlen:=r'.length;rw [List.length_map] at hlen;have ez:its.toArray.size=ns.length:=by rw [List.size_toArray,hlen]
  refine PySem.call_set_list (items:=its.toArray) (ns:=ns) (I.ok.hd hc) pl.isList (by simpa using LH r') (by rw [List.size_toArray];show _<4096;lia) fun h' tk sS kk=>?_
  rw [ez] at sS;exact ⟨.ref s.heap.objs.size,_,I.laid (t':=tk) (fun b o e=>kk b o (Heap.lt_size e) e) (Nat.le_refl _) (show Av X.prog X.w _ _ _ (.set _ (CN ns)) from sS),rfl,q _ _ I.fresh⟩
 ·obtain ⟨its,r',pl,hz⟩:=I.tuple hq
  have hlen:=r'.length;rw [List.length_map] at hlen;have ez:its.toArray.size=ns.length:=by rw [List.size_toArray,hlen]
  refine Ye (ns:=ns) (I.ok.hd hc) pl (by simpa using LH r') (by rw [List.size_toArray];show _<4096;lia) fun h' tk sS kk=>?_
  rw [ez] at sS;exact ⟨.ref s.heap.objs.size,_,I.laid (t':=tk) (fun b o e=>kk b o (Heap.lt_size e) e) (Nat.le_refl _) (show Av X.prog X.w _ _ _ (.set _ (CN ns)) from sS),rfl,q _ _ I.fresh⟩
theorem JB {K:zP} {e:Expr} {f:Str} {pos:Pos} {ta:TE} (h:X.K=K) (he:PE X e ta) (hb:attributeBase e f X.env (eval e X.env)=eval e X.env):PE X (.Attribute e f pos) (Og K ta f):=by subst h;exact pF he hb
theorem Wf {x:Str} {v:V} {pos:Pos} (hg:Gl X x) (hm:∃ u,X.mg x=some u/\AU v u) (hd:(x==("__debug__":Str))=false:=by decide):PE X (.Name x pos) (tC v):=by
 obtain ⟨u,h1,h2⟩:=hm;exact Bz hg h1 h2 hd
def Uq (K:zP) (i:Nat):TI:=fun σ H R=>∃ a,σ[i]? = some (some (.ref a))/\(((∃ xs,AF K H a xs)/\R (CC K a) H)\/((∃ xs,AH K H a xs)/\R (Ct K a) H))
theorem JF {tg l:Expr} {i:Nat} (hl:PE X l (DP i)):PI X tg l (Uq X.K i):=by
 intro pins s σ H R I h;obtain ⟨a,e,h⟩:=h;rcases h with ⟨h1,h2⟩|⟨h1,h2⟩
 ·exact Ei hl pins s σ H R I ⟨_,e,a,rfl,h1,h2⟩
 ·exact Lk hl pins s σ H R I ⟨_,e,a,rfl,h1,h2⟩
end
def IA (it:It) (g:TG) (tb:TS) (D:BL) (σ:St) (H:Hp):Prop:=∃ W:Nat->Nat->St->Hp->Prop,(∃ m,W 0 m σ H) /\
 ∀ i m τ G,W i m τ G->(it.stop i G/\D.nx τ G)\/(it.go i G/\∃ N:St->Hp->Prop,(∀ τ' G',N τ' G'->∃ m',m'<m/\W (i+1) m' τ' G') /\
  ∀ x G',it.yld i G x G'->g x τ G' fun τ2 G2=>tb { D with nx:=N,ct:=N,bk:=D.nx } τ2 G2)
theorem LA {K:zP} {a:Addr} {xs:List V} {g:TG} {tb:TS} {D:BL} {σ:St} {H:Hp} (Pv:Nat->St->Hp->Prop) (hA:BB K H a xs) (h0:Pv 0 σ H) (hk:∀ i τ G,Pv i τ G->AE H G)
  (hs:∀ i x τ G,xs[i]? = some x->Pv i τ G->g x τ G fun τ2 G2=>tb { D with nx:=Pv (i+1),ct:=Pv (i+1),bk:=D.nx } τ2 G2) (hd:∀ τ G,Pv xs.length τ G->D.nx τ G) :
  ((∃ ys,AF K H a ys)/\IA (CC K a) g tb D σ H)\/((∃ ys,AH K H a ys)/\IA (Ct K a) g tb D σ H):=by
 rcases hA with h|h
 ·exact .inl ⟨⟨_,h⟩,Gf (xs:=xs) Pv h0 (fun i τ G _ p=>(hk i τ G p).seq h) hs hd⟩
 ·exact .inr ⟨⟨_,h⟩,LB (xs:=xs) Pv h0 (fun i τ G _ p=>(hk i τ G p).tup h) hs hd⟩
theorem aN {K:zP} {a:Addr} {d:Option Addr} {its:Array Value} {n:Nat} {sl:Array (Option Value)} {xs:List V} (h:K.lookup a=some ⟨.type "tuple",d,.seq its n,sl⟩) (hz:its.size<=sizeLine) (r:AW xs its.toList):AH K (fun _=>none) a xs :=
 .inr ⟨_,its,n,h,rfl,rfl,hz,r⟩
end L2
namespace L2
open PySem PySem.Spec PyProof.Rows
theorem Ph {X:Cx}:BO X (.builtin "isinstance") (fun vs H Q=>∃ x T t b,vs=[x,.ty T]/\(TyOf X.K H x t\/∃ a xs,x = .ref a/\t = .type "tuple"/\AH X.K H a xs)/\PySem.W.kitOne X.K t (.type T)=some b/\Q (.bl b) H):=by
 intro pins s σ H vs us Q I rv q;obtain ⟨x,T,t,b,rfl,ty,e,q⟩:=q;rcases ty with ty|⟨a,xs,rfl,rfl,hq⟩
 ·exact DX pins s σ H _ us Q I rv ⟨x,T,t,b,rfl,ty,e,q⟩
 ·obtain ⟨u,c,rfl,ru,rc⟩:=AW.two rv
  cases (show c=Value.type T from rc);cases (show u=Value.ref a from ru);obtain ⟨its,_,p,_⟩:=I.tuple hq;obtain ⟨o,h1,h2,_⟩:=p;exact PySem.W.kia_one PySem.W.kitx_tuple I.kIn ⟨o,h1,h2⟩ e (fun z=>nomatch z) fun tk=>⟨.bl b,H,I.tok tk,rfl,q⟩
end L2
namespace L2
open PySem PySem.Spec PyProof.Rows
theorem WP {X:Cx} (hu:X.A.units+4<cLine):A6 X (compareOp .Eq) (fun x y H Q=>HJ X.K false x y H Q\/HG X.K false x y H Q):=by
 intro pins s σ H x y u v Q I rx ry h;rcases h with h|h
 ·exact WN hu pins s σ H x y u v Q I rx ry h
 ·exact WO hu pins s σ H x y u v Q I rx ry h
end L2
namespace My
open PySem L2 Mt
theorem DN {H H':Hp} (e:Ai H H'):∀ {rs:List Addr} {tss:List (List Int)},Paired (fun r t=>H r=some (.tup (t.map V.int))) rs tss->Paired (fun r t=>H' r=some (.tup (t.map V.int))) rs tss
 | _,_,.nil=>.nil
 | _,_,.cons h t=>.cons (e _ _ h) (DN e t)
def Cr (H:Hp) (v:V):Option Q2->Prop
 | none=>v = .non
 | some x=>∃ a,v = .ref a/\H a=some (.tup [.int x.1,.int x.2])
theorem Cr.tups {H H':Hp} {v:V} {x:Option Q2} (h:Cr H v x) (s:Ai H H'):Cr H' v x:=by
 cases x with
 | none=>exact h
 | some x=>obtain ⟨a,e,h⟩:=h;exact ⟨a,e,s _ _ h⟩
theorem Cr.fr {K:zP} {H:Hp} {v:V} {x:Option Q2} (h:Cr H v x):Ay K H v x:=by
 cases x with
 | none=>exact h
 | some x=>obtain ⟨a,e,h⟩:=h;exact ⟨a,e,.inl h⟩
noncomputable abbrev Bq (cs:List Q2):List (List Int):=cs.map fun c=>[c.1,c.2]
structure Hm (p:PS) (x y:Q2):Prop where
 ox:Ah x
 oy:Ah y
 wx:Wh (qv x*((LL*(AB p.train).2:Int):Rat))
 wy:Wh (qv y*((LL*(AB p.train).1:Int):Rat))
 bx:AT (qv x)<=((2000100000:Int):Rat)
 bY:AT (qv y)<=((100000:Int):Rat)
def ER (K:zP) (H:Hp) (v:V) (p:PS):Prop:=(p.off=none/\v = .non)\/∃ o f c w x y,p.off=some o/\v = .ref f/\H f=some (.tup [.ref c,.ref w])/\AO K H c x/\AO K H w y/\Hm p x y/\qv o=qv p.place-qv x-qv (AB p.train)*(qv p.work-qv y)
theorem ER.tups {K:zP} {H H':Hp} {v:V} {p:PS} (h:ER K H v p) (s:Ai H H'):ER K H' v p:=by
 rcases h with h|⟨o,f,c,w,x,y,h1,h2,h3,h4,h5,h6,h7⟩
 ·exact .inl h
 ·exact .inr ⟨o,f,c,w,x,y,h1,h2,s _ _ h3,h4.tups s,h5.tups s,h6,h7⟩
noncomputable abbrev A4 (t:Addr) (rv:V) (w c:Addr) (cl:Bool) (fv:V) (tc mc cu:Addr):List (Str × V):=[("train",.ref t),("ratio",rv),("work_turns",.ref w),("place",.ref c),("closed",.bl cl),("first",fv),("turn_count",.ref tc),("move_count",.ref mc),("cuts",.ref cu)]
structure Cw (K:zP) (mg:zQ) (Fp:Addr->Prop) (H:Hp) (a:Addr) (p:PS) (dx t:Addr) (rv:V) (w c:Addr) (fv:V) (tc mc cu:Addr):Prop where
 ob:H a=some (.ins (AA mg "Piece") dx (A4 t rv w c p.closed fv tc mc cu))
 fa:Fp a
 fc:Fp cu
 tr:Af K H t (p.train.map V.int)
 ra:Cr H rv p.pitch
 wo:AO K H w p.work
 pl:AO K H c p.place
 fi:ER K H fv p
 tu:AO K H tc p.turned
 mo:AO K H mc p.moved
 cu:TL H cu (Bq p.cuts)
def An (K:zP) (mg:zQ) (Fp:Addr->Prop) (H:Hp) (a:Addr) (p:PS):Prop:=∃ dx t rv w c fv tc mc cu,Cw K mg Fp H a p dx t rv w c fv tc mc cu
theorem TL.frame {H H':Hp} {D:Addr} {tss:List (List Int)} (h:TL H D tss) (k:∀ o,H D=some o->H' D=some o) (s:Ai H H'):TL H' D tss:=by
 obtain ⟨rs,h1,h2⟩:=h;exact ⟨rs,k _ h1,DN s h2⟩
theorem Cw.frame {K:zP} {mg:zQ} {Fp:Addr->Prop} {H H':Hp} {a:Addr} {p:PS} {dx t:Addr} {rv:V} {w c:Addr} {fv:V} {tc mc cu:Addr} (h:Cw K mg Fp H a p dx t rv w c fv tc mc cu) (k:∀ b o,Fp b->H b=some o->H' b=some o) (s:Ai H H'):Cw K mg Fp H' a p dx t rv w c fv tc mc cu :=
 ⟨k _ _ h.fa h.ob,h.fa,h.fc,h.tr.tups s,h.ra.tups s,h.wo.tups s,h.pl.tups s,h.fi.tups s,h.tu.tups s,h.mo.tups s,h.cu.frame (fun o e=>k _ _ h.fc e) s⟩
theorem Cw.foot {K:zP} {mg:zQ} {Fp Fp':Addr->Prop} {H:Hp} {a:Addr} {p:PS} {dx t:Addr} {rv:V} {w c:Addr} {fv:V} {tc mc cu:Addr} (h:Cw K mg Fp H a p dx t rv w c fv tc mc cu) (k:∀ b,Fp b->Fp' b):Cw K mg Fp' H a p dx t rv w c fv tc mc cu :=
 ⟨h.ob,k _ h.fa,k _ h.fc,h.tr,h.ra,h.wo,h.pl,h.fi,h.tu,h.mo,h.cu⟩
theorem An.frame {K:zP} {mg:zQ} {Fp:Addr->Prop} {H H':Hp} {a:Addr} {p:PS} (h:An K mg Fp H a p) (k:∀ b o,Fp b->H b=some o->H' b=some o) (s:Ai H H'):An K mg Fp H' a p:=by
 obtain ⟨dx,t,rv,w,c,fv,tc,mc,cu,h⟩:=h;exact ⟨dx,t,rv,w,c,fv,tc,mc,cu,h.frame k s⟩
theorem An.foot {K:zP} {mg:zQ} {Fp Fp':Addr->Prop} {H:Hp} {a:Addr} {p:PS} (h:An K mg Fp H a p) (k:∀ b,Fp b->Fp' b):An K mg Fp' H a p:=by
 obtain ⟨dx,t,rv,w,c,fv,tc,mc,cu,h⟩:=h;exact ⟨dx,t,rv,w,c,fv,tc,mc,cu,h.foot k⟩
noncomputable def Deed.word:Deed->Str
 | .mount _=>"mount"
 | .turn _=>"turn"
 | .wait=>"wait"
 | .close=>"close"
 | .opn=>"open"
 | .move _=>"move"
 | .cut _=>"cut"
def CZ (K:zP) (H:Hp) (v:V):Deed->Prop
 | .mount ts=>∃ t,v = .ref t/\Af K H t (ts.map V.int)
 | .turn a=>∃ t,v = .ref t/\AO K H t a
 | .move a=>∃ t,v = .ref t/\AO K H t a
 | .cut a=>∃ t,v = .ref t/\AO K H t a
 | .wait=>v = .non
 | .close=>v = .non
 | .opn=>v = .non
theorem CZ.tups {K:zP} {H H':Hp} {v:V} {d:Deed} (h:CZ K H v d) (s:Ai H H'):CZ K H' v d:=by
 cases d with
 | mount ts=>obtain ⟨t,e,h⟩:=h;exact ⟨t,e,h.tups s⟩
 | turn a=>obtain ⟨t,e,h⟩:=h;exact ⟨t,e,h.tups s⟩
 | move a=>obtain ⟨t,e,h⟩:=h;exact ⟨t,e,h.tups s⟩
 | cut a=>obtain ⟨t,e,h⟩:=h;exact ⟨t,e,h.tups s⟩
 | wait=>exact h
 | close=>exact h
 | opn=>exact h
def Dv (K:zP) (mg:zQ) (Fp:Addr->Prop) (H:Hp) (p:PS) (d:Deed) (v:V):Prop:=∃ e t b wv,v = .ref e/\H e=some (.tup [.ref t,.ref b])/\H t=some (.tup [.str d.word,wv])/\CZ K H wv d/\An K mg Fp H b p
theorem Dv.frame {K:zP} {mg:zQ} {Fp:Addr->Prop} {H H':Hp} {p:PS} {d:Deed} {v:V} (h:Dv K mg Fp H p d v) (k:∀ b o,Fp b->H b=some o->H' b=some o) (s:Ai H H'):Dv K mg Fp H' p d v:=by
 obtain ⟨e,t,b,wv,h1,h2,h3,h4,h5⟩:=h;exact ⟨e,t,b,wv,h1,s _ _ h2,s _ _ h3,h4.tups s,h5.frame k s⟩
theorem Dv.foot {K:zP} {mg:zQ} {Fp Fp':Addr->Prop} {H:Hp} {p:PS} {d:Deed} {v:V} (h:Dv K mg Fp H p d v) (k:∀ b,Fp b->Fp' b):Dv K mg Fp' H p d v:=by
 obtain ⟨e,t,b,wv,h1,h2,h3,h4,h5⟩:=h;exact ⟨e,t,b,wv,h1,h2,h3,h4,h5.foot k⟩
noncomputable def JG (ds:List Deed):PS:=ds.foldl PS.after BZ
structure CV (K:zP) (mg:zQ) (Fp:Addr->Prop) (H:Hp) (ds:List Deed) (es:List V):Prop where
 len:es.length=ds.length
 ent:∀ i d v,ds[i]? = some d->es[i]? = some v->Dv K mg Fp H (JG (ds.take i)) d v
theorem CV.frame {K:zP} {mg:zQ} {Fp:Addr->Prop} {H H':Hp} {ds:List Deed} {es:List V} (h:CV K mg Fp H ds es) (k:∀ b o,Fp b->H b=some o->H' b=some o) (s:Ai H H'):CV K mg Fp H' ds es:=⟨h.len,fun i d v h1 h2=>(h.ent i d v h1 h2).frame k s⟩
theorem CV.foot {K:zP} {mg:zQ} {Fp Fp':Addr->Prop} {H:Hp} {ds:List Deed} {es:List V} (h:CV K mg Fp H ds es) (k:∀ b,Fp b->Fp' b):CV K mg Fp' H ds es:=⟨h.len,fun i d v h1 h2=>(h.ent i d v h1 h2).foot k⟩
theorem CV.push {K:zP} {mg:zQ} {Fp:Addr->Prop} {H:Hp} {ds:List Deed} {es:List V} {d:Deed} {v:V} (h:CV K mg Fp H ds es) (e:Dv K mg Fp H (JG ds) d v):CV K mg Fp H (ds++[d]) (es++[v]):=by
 refine ⟨by simp [h.len],fun i d' v' h1 h2=>?_⟩
 have hl:=h.len;rcases Nat.lt_trichotomy i ds.length with l|l|l
 ·rw [List.getElem?_append_left l] at h1
  rw [List.getElem?_append_left (by lia)] at h2
  rw [List.take_append_of_le_length (by lia)]
  exact h.ent i d' v' h1 h2
 ·subst l
  rw [List.getElem?_append_right (Nat.le_refl _),Nat.sub_self] at h1;rw [← hl,List.getElem?_append_right (Nat.le_refl _),Nat.sub_self] at h2;cases h1;cases h2;rw [List.take_append_of_le_length (Nat.le_refl _),List.take_length];exact e
 ·rw [List.getElem?_eq_none (by simp;lia)] at h1
  cases h1
noncomputable abbrev EC (s:Addr) (n:Int) (pa ra:Addr):List (Str × V):=[("shop",.ref s),("teeth",.int n),("piece",.ref pa),("record",.ref ra)]
structure GP (K:zP) (mg:zQ) (H:Hp) (a:Addr) (l:LS) (F Fp:Addr->Prop) (dx s pa ra rdx ea:Addr) (es:List V):Prop where
 re:Reach l
 ob:H a=some (.ins (AA mg "Lathe") dx (EC s l.teeth pa ra))
 sh:H s=some (.tup (l.shop.map V.int))
 bo:H ra=some (.ins (AA mg "Book") rdx [("entries",.ref ea)])
 he:H ea=some (.lst es)
 f1:F a
 f2:F ra
 f3:F ea
 fp:∀ b,Fp b->F b
 n1:¬ Fp a
 n2:¬ Fp ra
 n3:¬ Fp ea
 al:∀ b,F b->∃ o,H b=some o
 en:CV K mg Fp H l.book es
 pc:An K mg Fp H pa l.ps
def Aa (K:zP) (mg:zQ) (H:Hp) (a:Addr) (l:LS) (F:Addr->Prop):Prop:=∃ Fp dx s pa ra rdx ea es,GP K mg H a l F Fp dx s pa ra rdx ea es
theorem GP.keep {K:zP} {mg:zQ} {H H':Hp} {a:Addr} {l:LS} {F Fp:Addr->Prop} {dx s pa ra rdx ea:Addr} {es:List V} (h:GP K mg H a l F Fp dx s pa ra rdx ea es) (k:∀ b o,F b->H b=some o->H' b=some o) (t:Ai H H'):GP K mg H' a l F Fp dx s pa ra rdx ea es :=
 ⟨h.re,k _ _ h.f1 h.ob,t _ _ h.sh,k _ _ h.f2 h.bo,k _ _ h.f3 h.he,h.f1,h.f2,h.f3,h.fp,h.n1,h.n2,h.n3,fun b z=>by obtain ⟨o,e⟩:=h.al b z;exact ⟨o,k _ _ z e⟩,h.en.frame (fun b o z e=>k b o (h.fp b z) e) t,h.pc.frame (fun b o z e=>k b o (h.fp b z) e) t⟩
noncomputable abbrev Ik:List Str:=["stand","mount","turn","wait","close_nut","open_nut","move","cut","take_back","mounted","pitch","work","screw","nut","off","turned","moved","passes","book","wheels_for","marks","soonest","soonest_on","spoilt","reading","enter"]
theorem Vm {s:Addr} {n:Int} {pa ra:Addr}:∀ m∈Ik,(EC s n pa ra).lookup m=none:=by
 intro m hm;simp only [Ik,List.mem_cons,List.not_mem_nil,or_false] at hm;rcases hm with rfl|rfl|rfl|rfl|rfl|rfl|rfl|rfl|rfl|rfl|rfl|rfl|rfl|rfl|rfl|rfl|rfl|rfl|rfl|rfl|rfl|rfl|rfl|rfl|rfl|rfl <;> rfl
theorem Aa.ins {K:zP} {mg:zQ} {H:Hp} {a:Addr} {l:LS} {F:Addr->Prop} (h:Aa K mg H a l F):∃ dx fs,H a=some (.ins (AA mg "Lathe") dx fs)/\∀ m∈Ik,fs.lookup m=none:=by
 obtain ⟨Fp,dx,s,pa,ra,rdx,ea,es,h⟩:=h;exact ⟨dx,_,h.ob,Vm⟩
theorem Aa.keep {K:zP} {mg:zQ} {H H':Hp} {a:Addr} {l:LS} {F:Addr->Prop} (h:Aa K mg H a l F) (k:∀ b o,F b->H b=some o->H' b=some o) (t:Ai H H'):Aa K mg H' a l F:=by
 obtain ⟨Fp,dx,s,pa,ra,rdx,ea,es,h⟩:=h;exact ⟨Fp,dx,s,pa,ra,rdx,ea,es,h.keep k t⟩
theorem Aa.at_ {K:zP} {mg:zQ} {H:Hp} {a:Addr} {l:LS} {F:Addr->Prop} (h:Aa K mg H a l F) {b:Addr} (f:F b):∃ o,H b=some o:=by
 obtain ⟨Fp,dx,s,pa,ra,rdx,ea,es,h⟩:=h;exact h.al b f
theorem Aa.reach {K:zP} {mg:zQ} {H:Hp} {a:Addr} {l:LS} {F:Addr->Prop} (h:Aa K mg H a l F):Reach l:=by
 obtain ⟨Fp,dx,s,pa,ra,rdx,ea,es,h⟩:=h;exact h.re
theorem Aa.same {K:zP} {mg:zQ} {H H':Hp} {a:Addr} {l:LS} {F:Addr->Prop} (h:Aa K mg H a l F) (s:AE H H'):Aa K mg H' a l F:=h.keep (fun b o _ e=>s b o e) (AE.tups s)
theorem Aa.new {K:zP} {mg:zQ} {H H':Hp} {a:Addr} {l:LS} {F:Addr->Prop} (h:Aa K mg H a l F) {p:Addr} {o:HO} (n:H p=none) (e:H' p=some o):Ob F H' p o:=⟨e,fun z=>by obtain ⟨u,q⟩:=h.at_ z;rw [n] at q;cases q⟩
def D9 (K:zP) (mg:zQ) (H:Hp) (a:Addr) (l:LS) (F:Addr->Prop) (q:Req) (Q:VK) (E:XK):Prop :=
 (AZ l q=none->∀ r H' F',Aa K mg H' a (l.push q.deed) F'->AS F F' H H'->FC K H' r (l.push q.deed)->Q (.ref r) H') /\
 ∀ x,AZ l q=some x->∀ H' F',Aa K mg H' a l F'->AS F F' H H'->E (.ref (AA mg x)) none H'
def Jo (K:zP) (mg:zQ) (q:Req):Sp:=fun vs H Q E=>∃ a l F,vs=[.ref a]/\Aa K mg H a l F/\D9 K mg H a l F q Q E
def ZY (K:zP) (mg:zQ):Sp:=fun vs H Q E=>∃ a t ts l F,vs=[.ref a,.ref t]/\Aa K mg H a l F/\(H t=some (.lst (ts.map V.int))\/Af K H t (ts.map V.int))/\ts.length<=1000/\(∀ v∈ts,Bd 200 v)/\D9 K mg H a l F (.mount ts) Q E
def Jn (K:zP) (mg:zQ) (q:Int->Int->Req):Sp:=fun vs H Q E=>∃ a t x y l F,vs=[.ref a,.ref t]/\Aa K mg H a l F/\AO K H t (x,y)/\Bd 200 x/\Bd 200 y/\D9 K mg H a l F (q x y) Q E
def ZK (K:zP) (mg:zQ):Sp:=fun vs H Q E=>∃ x dx wa ws n,vs=[.ref x,.ref wa,.int n]/\H x=some (.ins (AA mg "Lathe") dx [])/\H dx=some (.own x)/\(H wa=some (.lst (ws.map V.int))\/H wa=some (.tup (ws.map V.int)))/\ws.length<=1000/\(∀ v∈ws,Bd 200 v)/\Bd 200 n /\
 (DH ws n->∀ H' F',Aa K mg H' x ⟨ws,n,[]⟩ F'->(∀ b o,H b=some o->b≠x->H' b=some o)->(∀ b,F' b->b=x\/b=dx\/H b=none)->Q .non H') /\
 (¬ DH ws n->∀ H',(∀ b o,H b=some o->b≠x->H' b=some o)->E (.ref (AA mg "BadNumber")) none H')
noncomputable def FT (r:Q2) (n:Int):List V:=(List.range n.toNat).map fun (m:Nat)=>EN r.1 n (m:Int)
def ZW (K:zP) (mg:zQ):Sp:=fun vs H Q E=>∃ a l F,vs=[.ref a]/\Aa K mg H a l F /\
 (∀ r,l.ps.pitch=some r->∀ D H' F',Aa K mg H' a l F'->AS F F' H H'->H D=none->¬ F' D->H' D=some (.lst (FT r l.teeth))->Q (.ref D) H')/\(l.ps.pitch=none->∀ H' F',Aa K mg H' a l F'->AS F F' H H'->E (.ref (AA mg "NoTrain")) none H')
def CU (K:zP) (mg:zQ) (R:LS->(Addr->Prop)->Hp->Hp->V->Prop):Sp:=fun vs H Q _=>∃ a l F,vs=[.ref a]/\Aa K mg H a l F/\∀ v H' F',Aa K mg H' a l F'->AS F F' H H'->R l F' H H' v->Q v H'
abbrev bS (K:zP):LS->(Addr->Prop)->Hp->Hp->V->Prop:=fun l _ _ H' v=>∃ r,v = .ref r/\FC K H' r l
abbrev HX (K:zP) (f:PS->Q2):LS->(Addr->Prop)->Hp->Hp->V->Prop:=fun l _ _ H' v=>∃ p,v = .ref p/\AO K H' p (f l.ps)
abbrev Ol (K:zP) (f:PS->Option Q2):LS->(Addr->Prop)->Hp->Hp->V->Prop:=fun l _ _ H' v=>Ay K H' v (f l.ps)
abbrev bP:LS->(Addr->Prop)->Hp->Hp->V->Prop:=fun l _ _ _ v=>v = .bl l.ps.closed
abbrev bT (K:zP):LS->(Addr->Prop)->Hp->Hp->V->Prop:=fun l _ _ H' v=>∃ p,v = .ref p/\Af K H' p (l.ps.train.map V.int)
abbrev bQ:LS->(Addr->Prop)->Hp->Hp->V->Prop:=fun l F' H H' v=>∃ D,v = .ref D/\H D=none/\¬ F' D/\TL H' D (Bq l.ps.cuts)
end My
namespace My
open PySem L2 Mt
theorem Fw {H1:Hp} {x cu:Addr} {o1 o2:HO} (hcu:H1 cu=none):∀ b o,H1 b=some o->b≠x->AC (AC H1 cu o1) x o2 b=some o:=fun b o e n=>(uN n).trans ((uN (fun z=>by rw [z,hcu] at e;cases e)).trans e)
theorem Iy {α β:Type} {R:α->β->Prop}:∀ {rs:List α} {ts:List β} {t:β},Paired R rs (ts++[t])->∃ rs' r,rs=rs'++[r]/\Paired R rs' ts/\R r t
 | _,[],_,.cons h .nil=>⟨[],_,rfl,.nil,h⟩
 | _,_::_,_,.cons h k=>by
  obtain ⟨rs',r,rfl,h1,h2⟩:=Iy k;exact ⟨_::rs',r,rfl,.cons h h1,h2⟩
theorem LK {α:Type} (l:List α):l=[]\/∃ cs c,l=cs++[c]:=by
 rcases List.eq_nil_or_concat l with h|⟨cs,c,h⟩
 ·exact .inl h
 ·exact .inr ⟨cs,c,by rw [h,List.concat_eq_append]⟩
noncomputable def Am (a b:Q2):Q2:=AI (a.1*b.2-b.1*a.2) (a.2*b.2)
theorem JI {a b:Q2} (ha:a.2≠0) (hb:b.2≠0):Ah (Am a b):=BR (Int.mul_ne_zero ha hb)
theorem JJ {a b:Q2} (ha:a.2≠0) (hb:b.2≠0):qv (Am a b)=qv a-qv b:=by
 unfold Am;rw [C9 (Int.mul_ne_zero ha hb)];have n1:(a.2:Rat)≠0:=by exact_mod_cast ha
 have n2:(b.2:Rat)≠0:=by exact_mod_cast hb
 unfold qv;rw [Rat.intCast_sub,Rat.intCast_mul,Rat.intCast_mul,Rat.intCast_mul]
 grind
theorem GD {t b:Int} (h:b≠0):qv (t,b)=qv (AI t b):=(C9 h).symm
theorem GC {w:Q2} {t b:Int} (hw:w.2≠0) (h:b≠0):AJ w (t,b)=AJ w (AI t b):=by
 have hr:=(BR (t:=t) h).ne;refine Em (Bn hw h) (Bn hw hr) ?_;rw [A3 hw (b:=(t,b)) h,A3 hw hr,GD h]
theorem JH {w:Q2} {t b:Int} (hw:w.2≠0) (h:b≠0):AX w (t,b)=AX w (AI t b):=by
 have hr:=(BR (t:=t) h).ne;refine Em (El hw h) (El hw hr) ?_;rw [EK hw (b:=(t,b)) h,EK hw hr,GD h]
theorem HD {w:Q2} {t b:Int} (hw:w.2≠0) (h:0<b):AJ w (AR (t,b))=AJ w (AR (AI t b)):=by
 have hr:=BR (t:=t) (b:=b) (by lia)
 have ho:=(EJ hr).ne;have hb:(AR (t,b)).2≠0:=by show b≠0;lia
 refine Em (Bn hw hb) (Bn hw ho) ?_;rw [A3 hw hb,A3 hw ho,Ba (a:=(t,b)) h,Ba (by have:=hr.pos;lia),GD (t:=t) (b:=b) (by lia)]
theorem Pc.rr {p:PS} {ts:List Int} (h:Pc p ts):p.r=AB ts:=by unfold PS.r;rw [h.ep];rfl
theorem WK {p:PS} {ts:List Int} {x y o:Q2} (P:Pc p ts) (F:Hm p x y) (ho:p.off=some o) (e:qv o=qv p.place-qv x-qv (AB p.train)*(qv p.work-qv y)) :
  (Bd 1700 (Am p.work y).1/\Bd 1700 (Am p.work y).2/\(Am p.work y).2≠0)/\(Bd 1700 (AX (AB ts) (Am p.work y)).1/\Bd 1700 (AX (AB ts) (Am p.work y)).2/\(AX (AB ts) (Am p.work y)).2≠0) /\
  (Bd 1700 (Am p.place x).1/\Bd 1700 (Am p.place x).2/\(Am p.place x).2≠0)/\Am (Am p.place x) (AX (AB ts) (Am p.work y))=o/\(Bd 1700 x.1/\Bd 1700 x.2)/\(Bd 1700 y.1/\Bd 1700 y.2):=by
 have et:=P.et;rw [et] at e;have wx:=F.wx;have wy:=F.wy;rw [et] at wx wy;have ro:=P.tr.rok;have rp:=P.tr.rpos;have rl:=P.tr.rle;have o1:=JI P.w.ne F.oy.ne;have v1:=JJ P.w.ne F.oy.ne;have o2:=El (b:=Am p.work y) ro.ne o1.ne;have v2:qv (AX (AB ts) (Am p.work y))=qv (AB ts)*(qv p.work-qv y):=by rw [EK ro.ne o1.ne,v1]
 have o3:=JI P.pl.ne F.ox.ne;have v3:=JJ P.pl.ne F.ox.ne;have w1:Wh (qv (Am p.work y)*((LL*(AB ts).1:Int):Rat)):=by
  rw [v1,Rat.sub_eq_add_neg,Rat.add_mul,Rat.neg_mul];exact P.dw.add wy.neg
 have b1:AT (qv (Am p.work y))<=((200000:Int):Rat):=by
  rw [v1,Rat.sub_eq_add_neg];have h1:=EL (qv p.work) (-(qv y));rw [JL] at h1;have h2:=Rat.le_trans P.lw P.t1;have h3:=F.bY;have e1:((200000:Int):Rat)=200000:=rfl;have e2:((100000:Int):Rat)=100000:=rfl;rw [e1];rw [e2] at h3
  grind
 have w2:Wh (qv (AX (AB ts) (Am p.work y))*((LL*(AB ts).2:Int):Rat)):=by
  rw [v2,← v1];have n:=ro.nz;have e3:qv (AB ts)*qv (Am p.work y)*((LL*(AB ts).2:Int):Rat)=qv (Am p.work y)*((LL*(AB ts).1:Int):Rat):=by
   rw [Rat.intCast_mul,Rat.intCast_mul];have:qv (AB ts)=((AB ts).1:Rat) / ((AB ts).2:Rat):=rfl;rw [this]
   grind
  rw [e3];exact w1
 have b2:AT (qv (AX (AB ts) (Am p.work y)))<=((4000000000:Int):Rat):=by
  rw [v2,← v1];have h1:=Lp (x:=qv (Am p.work y)) rp;have h2:=Rat.mul_le_mul_of_nonneg_left b1 rp;have h3:=Rat.mul_le_mul_of_nonneg_right rl (show (0:Rat)<=((200000:Int):Rat) by decide)
  have e4:(20000:Rat)*((200000:Int):Rat)=((4000000000:Int):Rat):=by rw [show (20000:Rat)=((20000:Int):Rat) from rfl,← Rat.intCast_mul];rfl
  rw [e4] at h3;exact Rat.le_trans h1 (Rat.le_trans h2 h3)
 have w3:Wh (qv (Am p.place x)*((LL*(AB ts).2:Int):Rat)):=by
  rw [v3,Rat.sub_eq_add_neg,Rat.add_mul,Rat.neg_mul];exact P.dp.add wx.neg
 have b3:AT (qv (Am p.place x))<=((4000200000:Int):Rat):=by
  rw [v3,Rat.sub_eq_add_neg];have h1:=EL (qv p.place) (-(qv x));rw [JL] at h1;have h2:=P.placeBd;have h3:=F.bx;have e1:((4000200000:Int):Rat)=4000200000:=rfl;have e2:((2000100000:Int):Rat)=2000100000:=rfl;rw [e1];rw [e2] at h2 h3
  grind
 have z1:=Cl o1 w1 P.tr.D1.1 P.tr.D1.2 (by decide) (by unfold Bd;decide) b1
 have z2:=Cl o2 w2 P.tr.D2.1 P.tr.D2.2 (by decide) (by unfold Bd;decide) b2
 have z3:=Cl o3 w3 P.tr.D2.1 P.tr.D2.2 (by decide) (by unfold Bd;decide) b3
 refine ⟨⟨z1.1,z1.2,o1.ne⟩,⟨z2.1,z2.2,o2.ne⟩,⟨z3.1,z3.2,o3.ne⟩,?_,Cl F.ox wx P.tr.D2.1 P.tr.D2.2 (by decide) IF F.bx,Cl F.oy wy P.tr.D1.1 P.tr.D1.2 (by decide) FE F.bY⟩
 refine Em (JI o3.ne o2.ne) (P.o o ho) ?_;rw [JJ o3.ne o2.ne,v3,v2,e]
noncomputable def Ef (ts:List Int):PS:={ BZ with train:=ts,pitch:=if ts=[] then none else some (AB ts) }
theorem Iu {ts:List Int} (h:Ao ts):Ef ts=BZ.after (.mount ts):=by
 have:ts≠[]:=fun e=>by have:=h.len;rw [e] at this;rcases this with z|z <;> cases z
 unfold Ef;rw [if_neg this];rfl
def Hs (H H':Hp) (v:V):Option Q2->Prop
 | none=>v = .non
 | some x=>∃ n,v = .ref n/\H n=none/\H' n=some (.tup [.int x.1,.int x.2])
theorem Hs.fr {K:zP} {H H':Hp} {v:V} {o:Option Q2} (h:Hs H H' v o):Ay K H' v o:=by
 cases o with
 | none=>exact h
 | some x=>obtain ⟨n,e,_,h⟩:=h;exact ⟨n,e,.inl h⟩
theorem Reach.pc {l:LS} (h:Reach l):l.ps=BZ\/∃ ts,Pc l.ps ts/\∀ v∈ts,v∈l.shop:=(Ls h).2
theorem Reach.good {l:LS} (h:Reach l):DH l.shop l.teeth:=(Ls h).1
def Dx (p:PS):Prop:=p=BZ\/∃ ts,Pc p ts
theorem Reach.pco {l:LS} (h:Reach l):Dx l.ps:=h.pc.elim .inl fun ⟨ts,P,_⟩=>.inr ⟨ts,P⟩
theorem Dx.train {p:PS} (h:Dx p):(p.train=[]\/Ao p.train)/\p.pitch=(Ef p.train).pitch:=by
 rcases h with rfl|⟨ts,P⟩
 ·exact ⟨.inl rfl,rfl⟩
 ·refine ⟨.inr (by rw [P.et];exact P.tr),?_⟩
  rw [P.et,P.ep,Iu P.tr];rfl
theorem ER.like {K:zP} {H:Hp} {v:V} {p p':PS} (h:ER K H v p) (e1:p'.off=p.off) (e2:p'.place=p.place) (e3:p'.work=p.work) (e4:p'.train=p.train):ER K H v p':=by
 rcases h with ⟨h1,h2⟩|⟨o,f,c,w,x,y,h1,h2,h3,h4,h5,h6,h7⟩
 ·exact .inl ⟨e1.trans h1,h2⟩
 ·exact .inr ⟨o,f,c,w,x,y,e1.trans h1,h2,h3,h4,h5,⟨h6.ox,h6.oy,by rw [e4];exact h6.wx,by rw [e4];exact h6.wy,h6.bx,h6.bY⟩,by rw [e2,e3,e4];exact h7⟩
theorem twin_rep {K:zP} {mg:zQ} {Fp:Addr->Prop} {H Hk:Hp} {a:Addr} {p:PS} {dx t:Addr} {rv rv1:V} {w c:Addr} {fv:V} {tc mc cu cu2 x dx2 C0 d0:Addr} {fs0:List (Str × V)} {rs:List Addr} (R:Cw K mg Fp H a p dx t rv w c fv tc mc cu) (nx:H x=none)
  (hcu2:Hk cu2=none) (cx:cu2≠x) (kk:∀ b o,H b=some o->Hk b=some o) (prs:Paired (fun r t=>H r=some (.tup (t.map V.int))) rs (Bq p.cuts)) (hrv:Cr Hk rv1 p.pitch) (hkx:Hk x=some (.ins C0 d0 fs0)) :
  AE H (AC (AC Hk cu2 (.lst (rs.map V.ref))) x (.ins (AA mg "Piece") dx2 (A4 t rv1 w c p.closed fv tc mc cu2))) /\
  Cw K mg (fun z=>z=x\/z=cu2) (AC (AC Hk cu2 (.lst (rs.map V.ref))) x (.ins (AA mg "Piece") dx2 (A4 t rv1 w c p.closed fv tc mc cu2))) x p dx2 t rv1 w c fv tc mc cu2:=by
 have s2:AE H (AC (AC Hk cu2 (.lst (rs.map V.ref))) x (.ins (AA mg "Piece") dx2 (A4 t rv1 w c p.closed fv tc mc cu2))):=fun b o e=>Fw hcu2 b o (kk b o e) (nQ e nx);refine ⟨s2,⟨uS,.inl rfl,.inr rfl,R.tr.mono s2,hrv.tups fun b xs e=>Fw hcu2 b _ e (fun z=>by rw [z,hkx] at e;cases e),R.wo.mono s2,R.pl.mono s2,R.fi.tups (AE.tups s2),R.tu.mono s2,R.mo.mono s2,⟨rs,(uN cx).trans uS,Ix s2 prs⟩⟩⟩
def Oc (K:zP) (mg:zQ):Sp:=fun vs H Q E=>∃ a l F d wv pb Fq,vs=[.ref a,.str (Deed.word d),wv,.ref pb]/\Aa K mg H a l F/\CZ K H wv d/\An K mg Fq H pb (l.ps.after d)/\(∀ b,Fq b->¬ F b)/\(∀ b,Fq b->∃ o,H b=some o)/\(l.book.length<100->Reach (l.push d)) /\
 (l.book.length<100->∀ r H' F',Aa K mg H' a (l.push d) F'->(∀ b,F' b->F b\/Fq b\/H b=none)->(∀ b o,H b=some o->¬ F b->¬ Fq b->H' b=some o)->Ai H H'->FC K H' r (l.push d)->Q (.ref r) H')/\(100<=l.book.length->E (.ref (AA mg "BookFull")) none H)
theorem AS.enter {F Fq F':Addr->Prop} {H H3 H':Hp} (s:AE H H3) (nq:∀ b,Fq b->H b=none) (f:∀ b,F' b->F b\/Fq b\/H3 b=none) (k:∀ b o,H3 b=some o->¬ F b->¬ Fq b->H' b=some o) (t:Ai H3 H'):AS F F' H H' where
 keep:=fun b o h n=>k b o (s b o h) n fun z=>by rw [nq b z] at h;cases h
 foot:=fun b z=>by
  rcases f b z with z|z|z
  ·exact .inl z
  ·exact .inr (nq b z)
  ·exact .inr (s.free z)
 tup:=fun b xs h=>t b xs (s b _ h)
theorem K2 {l:LS} {q:Req} (h:q.known l=false):AZ l q=some "UnknownWheel":=by unfold AZ;rw [if_pos h]
theorem Cc {l:LS} {q:Req} (h1:q.known l=true) (h:q.has l=false):AZ l q=some "NoTrain":=by unfold AZ;rw [if_neg (by rw [h1];decide),if_pos h]
theorem Cd {l:LS} {q:Req} (h1:q.known l=true) (h2:q.has l=true) (h:q.wrong l.ps=true):AZ l q=some "WrongNut":=by unfold AZ;rw [if_neg (by rw [h1];decide),if_neg (by rw [h2];decide),if_pos h]
theorem Bl {l:LS} {q:Req} (h1:q.known l=true) (h2:q.has l=true) (h3:q.wrong l.ps=false) (h:q.bad l.ps=true):AZ l q=some "BadNumber":=by unfold AZ;rw [if_neg (by rw [h1];decide),if_neg (by rw [h2];decide),if_neg (by rw [h3];decide),if_pos h]
theorem K3 {l:LS} {q:Req} (h1:q.known l=true) (h2:q.has l=true) (h3:q.wrong l.ps=false) (h4:q.bad l.ps=false) (h:q.meets l=false):AZ l q=some "NoMeeting":=by unfold AZ;rw [if_neg (by rw [h1];decide),if_neg (by rw [h2];decide),if_neg (by rw [h3];decide),if_neg (by rw [h4];decide),if_pos h]
theorem Bv {l:LS} {q:Req} (h1:q.known l=true) (h2:q.has l=true) (h3:q.wrong l.ps=false) (h4:q.bad l.ps=false) (h5:q.meets l=true):(l.book.length<100->AZ l q=none)/\(100<=l.book.length->AZ l q=some "BookFull"):=by
 unfold AZ;rw [if_neg (by rw [h1];decide),if_neg (by rw [h2];decide),if_neg (by rw [h3];decide),if_neg (by rw [h4];decide),if_neg (by rw [h5];decide)]
 exact ⟨fun z=>if_neg (by lia),fun z=>if_pos z⟩
theorem D9.no {K:zP} {mg:zQ} {H H':Hp} {a:Addr} {l:LS} {F:Addr->Prop} {q:Req} {Q:VK} {E:XK} {x:String} (D:D9 K mg H a l F q Q E) (R:Aa K mg H a l F) (s:AE H H') (h:AZ l q=some x):E (.ref (AA mg x)) none H':=D.2 x h H' F (R.same s) (AS.of_same s)
theorem D9.enter {K:zP} {mg:zQ} {H H3:Hp} {a:Addr} {l:LS} {F Fq:Addr->Prop} {q:Req} {Q:VK} {E:XK} {wv:V} {pb:Addr} (D:D9 K mg H a l F q Q E) (R:Aa K mg H a l F) (s:AE H H3) (nq:∀ b,Fq b->H b=none) (aq:∀ b,Fq b->∃ o,H3 b=some o)
  (d:(l.book.length<100->AZ l q=none)/\(100<=l.book.length->AZ l q=some "BookFull")) (hw:CZ K H3 wv q.deed) (Rb:An K mg Fq H3 pb (l.ps.after q.deed)):Oc K mg [.ref a,.str (Deed.word q.deed),wv,.ref pb] H3 Q E :=
 ⟨a,l,F,q.deed,wv,pb,Fq,rfl,R.same s,hw,Rb,(fun b z f=>by obtain ⟨o,h⟩:=R.at_ f;rw [nq b z] at h;cases h),aq,fun z=>Reach.step R.reach (d.1 z),
  fun z r H' F' R' f k t st=>D.1 (d.1 z) r H' F' R' (AS.enter s nq f k t) st,fun z=>D.no R s (d.2 z)⟩
theorem Dg {H:Hp} {x dx:Addr} (nx:H x=none) (ndx:H dx=none) (o o':HO):AE H (AC (AC H dx o) x o'):=fun b _ e=>(uN (nQ e nx)).trans ((uN (nQ e ndx)).trans e)
theorem LR {H2 H3:Hp} {x dx:Addr} {o o':HO} (nx:H2 x=none) (ndx:H2 dx=none) (k:∀ b u,AC (AC H2 dx o) x o' b=some u->b≠x->H3 b=some u):AE H2 H3:=fun b u e=>k b u (Dg nx ndx o o' b u e) (nQ e nx)
theorem An.same {K:zP} {mg:zQ} {Fp:Addr->Prop} {H H':Hp} {a:Addr} {p:PS} (h:An K mg Fp H a p) (s:AE H H'):An K mg Fp H' a p:=h.frame (fun b o _ e=>s b o e) (AE.tups s)
theorem Uw {K:zP} {mg:zQ} {H7 H10:Hp} {x dx M px pdx e0 N cu bx bdx ea:Addr} {rv:V} {ws:List Int} {n:Int} (G:DH ws n) (hM:H7 M=some (.tup (ws.map V.int))) (Mx:M≠x) (hob:H7 px=some (.ins (AA mg "Piece") pdx (A4 e0 rv N N false .non N N cu))) (he0:H7 e0=some (.tup [])) (e0x:e0≠x)
  (hcu:H7 cu=some (.lst [])) (hrv:Cr H7 rv none) (pxx:px≠x) (cux:cu≠x) (hN:AH K (fun _=>none) N [.int 0,.int 1]) (kx:∀ b o,H7 b=some o->b≠x->H10 b=some o) (hbx:H10 bx=some (.ins (AA mg "Book") bdx [("entries",.ref ea)])) (hea:H10 ea=some (.lst []))
  (bxx:bx≠x) (eax:ea≠x) (nb:H7 bx=none) (ne:H7 ea=none):Aa K mg (AC H10 x (.ins (AA mg "Lathe") dx (EC M n px bx))) x ⟨ws,n,[]⟩ (fun b=>b=x\/b=px\/b=cu\/b=bx\/b=ea):=by
 have k:∀ b o,H7 b=some o->b≠x->AC H10 x (.ins (AA mg "Lathe") dx (EC M n px bx)) b=some o:=fun b o e z=>(uN z).trans (kx b o e z);have fN:∀ H':Hp,AO K H' N (0,1):=fun _=>.inr hN;refine ⟨fun b=>b=px\/b=cu,dx,M,px,bx,bdx,ea,[],.new G,uS,k _ _ hM Mx,(uN bxx).trans hbx,(uN eax).trans hea,.inl rfl,.inr (.inr (.inr (.inl rfl))),.inr (.inr (.inr (.inr rfl))),fun b z=>z.elim (fun z=>.inr (.inl z)) fun z=>.inr (.inr (.inl z)),fun z=>z.elim (fun z=>pxx z.symm) fun z=>cux z.symm,fun z=>z.elim (fun z=>?_) fun z=>?_,fun z=>z.elim (fun z=>?_) fun z=>?_,fun b z=>?_,⟨rfl,fun i d v h=>by simp at h⟩,?_⟩
 ·rw [z,hob] at nb;cases nb
 ·rw [z,hcu] at nb;cases nb
 ·rw [z,hob] at ne;cases ne
 ·rw [z,hcu] at ne;cases ne
 ·rcases z with rfl|rfl|rfl|rfl|rfl
  ·exact ⟨_,uS⟩
  ·exact ⟨_,k _ _ hob pxx⟩
  ·exact ⟨_,k _ _ hcu cux⟩
  ·exact ⟨_,(uN bxx).trans hbx⟩
  ·exact ⟨_,(uN eax).trans hea⟩
 ·have hr:rv = .non:=hrv
  subst hr;exact ⟨pdx,e0,.non,N,N,.non,N,N,cu,k _ _ hob pxx,.inl rfl,.inr rfl,.inl (k _ _ he0 e0x),rfl,fN _,fN _,.inl ⟨rfl,rfl⟩,fN _,fN _,⟨[],k _ _ hcu cux,.nil⟩⟩
theorem GN {H2:Hp} {x e0 b:Addr} {o1 o2 u:HO} (he0:AC (AC H2 x o1) x o2 e0=none) (o3:HO) (nb:b≠x) (e:H2 b=some u):AC (AC (AC H2 x o1) x o2) e0 o3 b=some u:=by
 have e4:AC (AC H2 x o1) x o2 b=some u:=(uN nb).trans ((uN nb).trans e);exact (uN (nQ e4 he0)).trans e4
theorem Oo {H7:Hp} {x bx bdx ea b:Addr} {o1 o2 o3 o4 o5 u:HO} (nbx:AC H7 x o1 bx=none) (nbdx:AC H7 x o1 bdx=none) (hea:AC (AC (AC H7 x o1) bdx o2) bx o3 ea=none) (nb:b≠x) (e:H7 b=some u):AC (AC (AC (AC (AC H7 x o1) bdx o2) bx o3) ea o4) bx o5 b=some u:=by
 have e8:AC H7 x o1 b=some u:=(uN nb).trans e;have e9:=Dg nbx nbdx o2 o3 b u e8;exact (uN (nQ e8 nbx)).trans ((uN (nQ e9 hea)).trans e9)
theorem keep1 {H H2 H3:Hp} {b:Addr} (s:AE H H2) (nb:H b=none) (k:∀ z o,H2 z=some o->z≠b->H3 z=some o):AE H H3:=fun z o h=>k z o (s z o h) (nQ h nb)
theorem Fn {H2 H3:Hp} {b:Addr} {Fq:Addr->Prop} (aq:∀ z,Fq z->∃ o,H2 z=some o) (k:∀ z o,H2 z=some o->z≠b->H3 z=some o) (h:∃ o,H3 b=some o):∀ z,Fq z->∃ o,H3 z=some o:=fun z f=>by
 by_cases e:z=b
 ·rw [e];exact h
 ·obtain ⟨o,h⟩:=aq z f;exact ⟨o,k z o h e⟩
theorem Om {K:zP} {mg:zQ} {Fp:Addr->Prop} {H H5:Hp} {a:Addr} {p:PS} {dx t rr w c:Addr} {fv:V} {tc mc cu n1 n2 c':Addr} {ts:List Int} {x y:Int} (R:Cw K mg Fp H a p dx t (.ref rr) w c fv tc mc cu) (P:Pc p ts) (y1:1<=y) (k:∀ b o,H b=some o->b≠a->H5 b=some o)
  (ob:H5 a=some (.ins (AA mg "Piece") dx (A4 t (.ref rr) n1 c' p.closed fv n2 mc cu))) (hw:H5 n1=some (.tup [.int (AJ p.work (x,y)).1,.int (AJ p.work (x,y)).2])) (hm:H5 n2=some (.tup [.int (AJ p.turned (AR (x,y))).1,.int (AJ p.turned (AR (x,y))).2]))
  (hc:p.closed=true->H5 c'=some (.tup [.int (AJ p.place (AX (AB ts) (x,y))).1,.int (AJ p.place (AX (AB ts) (x,y))).2])) (hc2:p.closed=false->c'=c):An K mg Fp H5 a (p.turn (AI x y)):=by
 have y0:y≠0:=by lia
 have ha:=BR (t:=x) y0;have ro:=P.tr.rok;have er:=P.rr;have t5:Ai H H5:=fun b xs e=>k b _ e fun z=>by rw [z,R.ob] at e;cases e
 obtain ⟨rs,hrs,prs⟩:=R.cu;have hca:cu≠a:=fun z=>by rw [z,R.ob] at hrs;cases hrs
 rw [GC P.w.ne y0] at hw;rw [HD P.t.ne (by lia)] at hm
 have mo:=El (b:=AI x y) ro.ne ha.ne;have vm:qv (AX (AB ts) (AI x y))=qv (AB ts)*qv (AI x y):=EK ro.ne ha.ne;have vw:qv (AJ p.work (AI x y))=qv p.work+qv (AI x y):=A3 P.w.ne ha.ne;refine ⟨dx,t,.ref rr,n1,c',fv,n2,mc,cu,ob,R.fa,R.fc,R.tr.tups t5,R.ra.tups t5,.inl hw,?_,?_,.inl hm,R.mo.tups t5,⟨rs,k _ _ hrs hca,DN t5 prs⟩⟩
 ·show AO K H5 c' (if p.closed then AJ p.place (AX p.r (AI x y)) else p.place)
  cases cl:p.closed with
  | true =>
   have h:=hc cl;rw [JH ro.ne y0] at h;rw [if_pos rfl,er];exact .inl h
  | false =>
   rw [if_neg Bool.false_ne_true,hc2 cl];exact R.pl.tups t5
 ·rcases R.fi with ⟨ho,hv⟩|⟨o,f1,c1,w1,u,v,ho,hv,hf,hc1,hw1,Fo,he⟩
  ·refine .inl ⟨?_,hv⟩
   show (if p.closed then p.off else p.off.map _)=none
   rw [ho];split <;> rfl
  ·have FO:Hm (p.turn (AI x y)) u v:=⟨Fo.ox,Fo.oy,Fo.wx,Fo.wy,Fo.bx,Fo.bY⟩
   have et:AB p.train=AB ts:=by rw [P.et]
   cases cl:p.closed with
   | true =>
    refine .inr ⟨o,f1,c1,w1,u,v,?_,hv,t5 _ _ hf,hc1.tups t5,hw1.tups t5,FO,?_⟩
    ·show (if p.closed then p.off else p.off.map _)=some o
     rw [cl,if_pos rfl,ho]
    ·show qv o=qv (if p.closed then AJ p.place (AX p.r (AI x y)) else p.place)-qv u-qv (AB p.train)*(qv (AJ p.work (AI x y))-qv v)
     rw [cl,if_pos rfl,er,A3 P.pl.ne mo.ne,vm,vw,he,et]
     grind
   | false =>
    refine .inr ⟨AJ o (Bo (AX (AB ts) (AI x y))),f1,c1,w1,u,v,?_,hv,t5 _ _ hf,hc1.tups t5,hw1.tups t5,FO,?_⟩
    ·show (if p.closed then p.off else p.off.map _)=_
     rw [cl,if_neg Bool.false_ne_true,ho,er];rfl
    ·show qv (AJ o (Bo (AX (AB ts) (AI x y))))=qv (if p.closed then AJ p.place (AX p.r (AI x y)) else p.place)-qv u-qv (AB p.train)*(qv (AJ p.work (AI x y))-qv v)
     rw [cl,if_neg Bool.false_ne_true,A3 (P.o o ho).ne (HE mo).ne,HF,vm,vw,he,et]
     grind
theorem Pc.more {p:PS} {ts:List Int} (P:Pc p ts) {k:Int} (b:Bd 64 k):Pc { p with cuts:=p.cuts++[(k,k*(AB ts).2%(AB ts).1)] } ts :=
 ⟨P.tr,P.nd,P.et,P.ep,P.w,P.pl,P.t,P.m,P.o,P.dw,P.dt,P.dp,P.dm,P.dx,P.lw,P.t0,P.t1,P.m0,P.m1,P.lp,P.lo,P.cl,fun c hc=>by
  have hc:c∈p.cuts++[(k,k*(AB ts).2%(AB ts).1)]:=hc;rcases List.mem_append.mp hc with z|z
  ·exact P.cu c z
  ·rw [List.mem_singleton.mp z];exact ⟨rfl,b⟩⟩
theorem P9 {K:zP} {mg:zQ} {Fp:Addr->Prop} {H H3:Hp} {a:Addr} {p:PS} {dx t:Addr} {rv:V} {w c:Addr} {fv:V} {tc mc cu m:Addr} {rs:List Addr} {e:Q2} (R:Cw K mg Fp H a p dx t rv w c fv tc mc cu) (hrs:H cu=some (.lst (rs.map V.ref))) (prs:Paired (fun r t=>H r=some (.tup (t.map V.int))) rs (Bq p.cuts))
  (s3:AE H H3) (hm:H3 m=some (.tup [.int e.1,.int e.2])):An K mg Fp (AC H3 cu (.lst (rs.map V.ref++[.ref m]))) a { p with cuts:=p.cuts++[e] }:=by
 have hca:a≠cu:=fun z=>by have h:=R.ob;rw [z,hrs] at h;cases h
 have k:∀ b o,H b=some o->b≠cu->AC H3 cu (.lst (rs.map V.ref++[.ref m])) b=some o:=fun b o e n=>(uN n).trans (s3 b o e);have t3:Ai H (AC H3 cu (.lst (rs.map V.ref++[.ref m]))):=fun b xs e=>k b _ e fun z=>by rw [z,hrs] at e;cases e
 refine ⟨dx,t,rv,w,c,fv,tc,mc,cu,k _ _ R.ob hca,R.fa,R.fc,R.tr.tups t3,R.ra.tups t3,R.wo.tups t3,R.pl.tups t3,(R.fi.tups t3).like rfl rfl rfl rfl,R.tu.tups t3,R.mo.tups t3,⟨rs++[m],by rw [uS,List.map_append];rfl,?_⟩⟩
 show Paired _ (rs++[m]) (Bq (p.cuts++[e]));rw [Bq,List.map_append];refine Paired.snoc (DN t3 prs) ?_;exact (uN (fun z=>by rw [z,s3 _ _ hrs] at hm;cases hm)).trans hm
theorem PQ {p:PS} {x y:Int} (h:¬ (1<=y/\y<=1000)):(decide (y<1)||decide (1000<y)||Ag p.turned (x,y))=true:=by
 rcases Int.lt_or_le y 1 with z|z
 ·rw [decide_eq_true z];rfl
 ·rw [decide_eq_true (show 1000<y by lia),Bool.or_true,Bool.true_or]
theorem KI {c:Q2} {x y:Int} (h:Ag c (x,y)=true):(decide (y<1)||decide (1000<y)||Ag c (x,y))=true:=by rw [h,Bool.or_true]
theorem KJ {c:Q2} {x y:Int} (h:1<=y/\y<=1000) (f:Ag c (x,y)=false):(decide (y<1)||decide (1000<y)||Ag c (x,y))=false:=by rw [f,decide_eq_false (show ¬ y<1 by lia),decide_eq_false (show ¬ 1000<y by lia)];rfl
theorem PR {c:Q2} {x y:Int} (h:¬ (1<=y/\y<=1000)):(decide (y<1)||decide (1000<y)||Ag c (x,y))=true:=by
 rcases Int.lt_or_le y 1 with z|z
 ·rw [decide_eq_true z];rfl
 ·rw [decide_eq_true (show 1000<y by lia),Bool.or_true,Bool.true_or]
theorem GX {c:Q2} {x y:Int} (h1:Bd 1700 c.1) (h2:Bd 1700 c.2) (bx:Bd 200 x) (bY:Bd 200 y) (n1:c.2≠0) (n2:y≠0):Bd 2000 (AJ c (AR (x,y))).1/\Bd 2000 (AJ c (AR (x,y))).2:=by
 have L:=Cg (t:=c.1*y+(AR (x,y)).1*c.2) (b:=c.2*y) (Int.mul_ne_zero n1 n2);have ba:Bd 200 (AR (x,y)).1:=bx.le (by unfold AR;dsimp only;split <;> lia)
 exact ⟨((h1.mul bY).add (ba.mul h2)).mono (show _<=2000 by decide) |>.le L.nx,((h2.mul bY).mono (show _<=2000 by decide)).le L.ny⟩
theorem P1 {c:Q2} {x y:Int} (h:¬ (1<=y/\y<=1000)):(decide (y<1)||decide (1000<y)||decide (x<=0)||Ag c (x,y))=true:=by
 rcases Int.lt_or_le y 1 with z|z
 ·rw [decide_eq_true z];rfl
 ·rw [decide_eq_true (show 1000<y by lia),Bool.or_true];rfl
theorem P5 {c:Q2} {x y:Int} (h:x<=0):(decide (y<1)||decide (1000<y)||decide (x<=0)||Ag c (x,y))=true:=by rw [decide_eq_true h,Bool.or_true];rfl
theorem P6 {c:Q2} {x y:Int} (h:Ag c (x,y)=true):(decide (y<1)||decide (1000<y)||decide (x<=0)||Ag c (x,y))=true:=by rw [h,Bool.or_true]
theorem P8 {c:Q2} {x y:Int} (h:1<=y/\y<=1000) (xp:¬ x<=0) (f:Ag c (x,y)=false):(decide (y<1)||decide (1000<y)||decide (x<=0)||Ag c (x,y))=false:=by rw [f,decide_eq_false (show ¬ y<1 by lia),decide_eq_false (show ¬ 1000<y by lia),decide_eq_false xp];rfl
theorem QA (p:PS) (d:Deed):(p.after d).cuts.length<=p.cuts.length+1:=by
 cases d with
 | mount ts=>exact Nat.zero_le _
 | cut a=>show (p.cuts++[_]).length<=_;rw [List.length_append];exact Nat.le_refl _
 | _=>exact Nat.le_succ _
theorem IN (l:LS):l.ps.cuts.length<=l.book.length:=by
 have key:∀ (ds:List Deed) (p:PS),(ds.foldl PS.after p).cuts.length<=p.cuts.length+ds.length:=fun ds=>by
  induction ds with
  | nil=>exact fun p=>Nat.le_refl _
  | cons d ds ih=>intro p;have h1:=ih (p.after d);have h2:=QA p d;rw [List.foldl_cons,List.length_cons];lia
 have h:=key l.book BZ;have e:BZ.cuts.length=0:=rfl;unfold LS.ps;lia
theorem Reach.len {l:LS} (h:Reach l):l.book.length<=100:=by
 cases h with
 | new g=>exact Nat.zero_le _
 | step h d =>
  have r:=(CL d).room;show (_++[_]).length<=100;rw [List.length_append,List.length_singleton];lia
noncomputable def PS.screw (p:PS):Q2:=match p.pitch with
 | none=>(0,1)
 | some r=>AX r p.work
section
variable {l:LS} {a:Q2}
theorem bj:(l.push (.turn a)).ps.moved=l.ps.moved:=by rw [LS.ps_push];rfl
theorem V4:(l.push (.move a)).ps.turned=l.ps.turned:=by rw [LS.ps_push];rfl
theorem Pp:(l.push .close).ps.turned=l.ps.turned:=by rw [LS.ps_push];rfl
theorem Po:(l.push .close).ps.moved=l.ps.moved:=by rw [LS.ps_push];rfl
theorem WY:(l.push .opn).ps.turned=l.ps.turned:=by rw [LS.ps_push];rfl
theorem WX:(l.push .opn).ps.moved=l.ps.moved:=by rw [LS.ps_push];rfl
theorem P7:(l.push (.cut a)).ps.moved=l.ps.moved:=by rw [LS.ps_push];rfl
theorem CS {d:Deed}:(l.push d).book.length=l.book.length+1:=by unfold LS.push;rw [List.length_append];rfl
theorem cD {ts:List Int} {t b:Int} (P:Pc l.ps ts) (h1:1<=b):qv (l.push (.cut (AI t b))).ps.turned=qv l.ps.turned+AT (qv (AI t b)):=by
 have ha:=BR (t:=t) (b:=b) (by lia)
 rw [LS.ps_push];show qv (AJ l.ps.turned (AR (AI t b)))=_;rw [A3 P.t.ne (EJ ha).ne,Ba (by have:=ha.pos;lia)]
end
theorem Gr {x y:Rat} {a b c:Int} (h1:x<=(a:Rat)) (h2:y<=(b:Rat)) (h:a+b<=c):x+y<=(c:Rat):=by
 have h3:((a+b:Int):Rat)<=(c:Rat):=by exact_mod_cast h
 rw [Rat.intCast_add] at h3
 grind
theorem Gq {x:Rat} {a:Int} (h1:x<=(a:Rat)) (h:a<=100000):x<=100000:=by
 have h3:(a:Rat)<=((100000:Int):Rat):=Rat.intCast_le_intCast.mpr h;have e:((100000:Int):Rat)=100000:=rfl;rw [e] at h3
 grind
theorem Pc.some {p:PS} {ts:List Int} (P:Pc p ts):p.pitch.isSome=true:=by rw [P.ep];rfl
theorem AO.made {K:zP} {H:Hp} {n:Addr} (_:H n=none) (x:Q2):AO K (AC H n (.tup [.int x.1,.int x.2])) n x:=.inl uS
theorem P3 {l:LS} {ts:List Int} {o:Int} (P:Pc l.ps ts) (h:l.ps.off=some (o,1)):(l.ps.closing,l.ps.groove)=(o,o*(AB ts).2%(AB ts).1):=by
 have e:l.ps.closing=o:=by unfold PS.closing;rw [h];rfl
 unfold PS.groove;rw [e,P.rr]
theorem Aa.made {K:zP} {mg:zQ} {H:Hp} {a:Addr} {l:LS} {F:Addr->Prop} (h:Aa K mg H a l F) {p:Addr} (n:H p=none) (o:HO):Ob F (AC H p o) p o:=h.new n uS
def Du (D:Addr) (H H':Hp):Prop:=∀ b o,H b=some o->b≠D->H' b=some o
theorem Du.tups {D:Addr} {H H':Hp} {xs:List V} (k:Du D H H') (h:H D=some (.lst xs)):Ai H H':=fun b ys e=>k b _ e fun z=>by rw [z,h] at e;cases e
theorem Aa.beside {K:zP} {mg:zQ} {H H':Hp} {a D:Addr} {l:LS} {F:Addr->Prop} {xs:List V} (R:Aa K mg H a l F) (n:¬ F D) (k:Du D H H') (h:H D=some (.lst xs)):Aa K mg H' a l F:=R.keep (fun b o f e=>k b o e fun z=>n (z ▸ f)) (k.tups h)
theorem Ob.beside {H H':Hp} {D p:Addr} {F:Addr->Prop} {o:HO} (h:Ob F H p o) (k:Du D H H') (n:p≠D):Ob F H' p o:=⟨k _ _ h.1 n,h.2⟩
theorem AF.apart {K:zP} {H:Hp} {a D:Addr} {xs:List V} (h:AF K H a xs) (n:H D=none):a≠D\/∀ H',AF K H' a xs:=by
 rcases h with (e|⟨o,e⟩)|e
 ·exact .inl (nQ e n)
 ·exact .inl (nQ e n)
 ·exact .inr fun _=>.inr e
theorem Bu.beside {K:zP} {F:Addr->Prop} {H H':Hp} {a D:Addr} {xs:List V} (h:Bu K F H a xs) (ap:a≠D\/∀ H',AF K H' a xs) (k:Du D H H'):Bu K F H' a xs:=by
 refine ⟨?_,h.2⟩;rcases ap with n|al
 ·rcases h.1 with (e|⟨o,e⟩)|e
  ·exact .inl (.inl (k _ _ e n))
  ·exact .inl (.inr ⟨o,k _ _ e n⟩)
  ·exact .inr e
 ·exact al H'
end My
namespace My
open PySem L2 Mt
theorem Pc.offLe {p:PS} {ts:List Int} (h:Pc p ts) {o:Q2} (ho:p.off=Option.some o):-(2000100000*o.2)<=o.1/\o.1<=2000100000*o.2:=by
 have h1:=h.offBd ho;have o2:0<o.2:=by have:=(h.o o ho).pos;lia
 rw [← Ba o2] at h1;have h2:=(Dq (a:=AR o) (m:=2000100000) o2).mp h1;have h3:(AR o).1=(o.1.natAbs:Int):=by unfold AR;dsimp only;split <;> lia
 have h4:(AR o).2=o.2:=rfl;rw [h3,h4] at h2;lia
theorem Pc.safeBd {p:PS} {ts:List Int} (h:Pc p ts) {o:Q2} (ho:p.off=Option.some o):Bd 64 (0+(o.1-0*o.2) / ((AB ts).1*o.2)*(AB ts).1):=by
 have ⟨h1,h2⟩:=h.offLe ho;have o2:0<o.2:=by have:=(h.o o ho).pos;lia
 have p1:=h.tr.pl.p1;have p2:=h.tr.pl.p2;have fl:=Ge (o.1-0*o.2) (Int.mul_pos (show 0<(AB ts).1 by lia) o2)
 rw [Int.zero_mul,Int.sub_zero] at fl ⊢;generalize o.1 / ((AB ts).1*o.2)=q at fl ⊢;have e1:q*((AB ts).1*o.2)=(q*(AB ts).1)*o.2:=by grind
 have e2:(q+1)*((AB ts).1*o.2)=(q*(AB ts).1+(AB ts).1)*o.2:=by grind
 rw [e1,e2] at fl;have u1:q*(AB ts).1<=2000100000:=by
  have:(q*(AB ts).1)*o.2<=2000100000*o.2:=by lia
  exact Int.le_of_mul_le_mul_right this o2
 have u2:-2000100000<=q*(AB ts).1+(AB ts).1:=by
  have:-2000100000*o.2<=(q*(AB ts).1+(AB ts).1)*o.2:=by rw [Int.neg_mul];lia
  exact Int.le_of_mul_le_mul_right this o2
 unfold Bd;have:(2:Nat) ^ 64=18446744073709551616:=by decide
 lia
theorem Pc.ahead_of {p:PS} {ts:List Int} (h:Pc p ts) {o:Q2} (ho:p.off=Option.some o) {k X Y:Int} (k1:k%(AB ts).1=0) (k2:k*o.2<=o.1) (k3:o.1<(k+(AB ts).1)*o.2) (y1:1<=Y) (co:Int.gcd X Y=1) (e:X*(o.2*(AB ts).1)=(o.1-k*o.2)*(AB ts).2*Y):p.ahead=(X,Y)/\0<=p.ahead.1:=by
 have o2:0<o.2:=by have:=(h.o o ho).pos;lia
 have p1:=h.tr.pl.p1;have q1:=h.tr.pl.q1;have d:0<o.2*(AB ts).1:=Int.mul_pos o2 (by lia)
 obtain ⟨j,rfl⟩:=Int.dvd_of_emod_eq_zero k1;have er:o.1%(o.2*(AB ts).1)=o.1-(AB ts).1*j*o.2:=by
  have e1:o.1=(o.1-(AB ts).1*j*o.2)+(o.2*(AB ts).1)*j:=by grind
  conv=>lhs;rw [e1]
  rw [Int.add_mul_emod_self_left];refine Int.emod_eq_of_lt (by lia) ?_
  have e2:((AB ts).1*j+(AB ts).1)*o.2=(AB ts).1*j*o.2+o.2*(AB ts).1:=by grind
  lia
 have ea:p.ahead=AI ((o.1-(AB ts).1*j*o.2)*(AB ts).2) (o.2*(AB ts).1):=by
  unfold PS.ahead;rw [ho];show AI (o.1%(o.2*p.r.1)*p.r.2) (o.2*p.r.1)=_;rw [h.rr,er]
 have ok:Ah (X,Y):=⟨y1,co⟩;have eq:p.ahead=(X,Y):=by
  rw [ea];refine Em (BR (by lia)) ok ?_
  rw [C9 (by lia)]
  have n1:((o.2*(AB ts).1:Int):Rat)≠0:=by exact_mod_cast (show o.2*(AB ts).1≠0 by lia)
  have n2:((Y:Int):Rat)≠0:=by exact_mod_cast (show Y≠0 by lia)
  have e':(X:Rat)*((o.2*(AB ts).1:Int):Rat)=(((o.1-(AB ts).1*j*o.2)*(AB ts).2:Int):Rat)*(Y:Rat):=by exact_mod_cast e
  unfold qv;dsimp only
  grind
 refine ⟨eq,?_⟩;rw [eq];show 0<=X;rcases Int.lt_or_le X 0 with z|z
 ·have h1:X*(o.2*(AB ts).1)<0:=Int.mul_neg_of_neg_of_pos z d
  have h2:0<=(o.1-(AB ts).1*j*o.2)*(AB ts).2*Y:=Int.mul_nonneg (Int.mul_nonneg (by lia) (by lia)) (by lia)
  lia
 ·exact z
theorem Pc.aheadBd {p:PS} {ts:List Int} (h:Pc p ts):AT (qv p.ahead)<=((20000:Int):Rat):=by
 cases ho:p.off with
 | none =>
  have e:p.ahead=(0,1):=by unfold PS.ahead;rw [ho]
  rw [e,Bc]
  exact_mod_cast (show AT 0<=20000 by unfold AT;decide)
 | some o =>
  have o2:0<o.2:=by have:=(h.o o ho).pos;lia
  have p1:=h.tr.pl.p1;have q1:=h.tr.pl.q1;have q2:=h.tr.pl.q2;have d:0<o.2*(AB ts).1:=Int.mul_pos o2 (by lia)
  have ea:p.ahead=AI (o.1%(o.2*(AB ts).1)*(AB ts).2) (o.2*(AB ts).1):=by
   unfold PS.ahead;rw [ho];show AI (o.1%(o.2*p.r.1)*p.r.2) (o.2*p.r.1)=_;rw [h.rr]
  have r0:=Int.emod_nonneg o.1 (show o.2*(AB ts).1≠0 by lia)
  have r1:=Int.emod_lt_of_pos o.1 d;rw [ea,← GD (by lia),← Ba d]
  refine (Dq (a:=AR (o.1%(o.2*(AB ts).1)*(AB ts).2,o.2*(AB ts).1)) (m:=20000) d).mpr ?_;have n0:0<=o.1%(o.2*(AB ts).1)*(AB ts).2:=Int.mul_nonneg r0 (by lia)
  have e1:(AR (o.1%(o.2*(AB ts).1)*(AB ts).2,o.2*(AB ts).1)).1=o.1%(o.2*(AB ts).1)*(AB ts).2:=by unfold AR;dsimp only;rw [if_neg (by lia)]
  rw [e1];show o.1%(o.2*(AB ts).1)*(AB ts).2<=20000*(o.2*(AB ts).1);have h1:=Int.mul_le_mul_of_nonneg_left q2 r0;have h2:=Int.mul_le_mul_of_nonneg_right (show o.1%(o.2*(AB ts).1)<=o.2*(AB ts).1 by lia) (show (0:Int)<=20000 by decide)
  lia
theorem Pc.waitN {p:PS} {ts:List Int} (h:Pc p ts):(Bd 1700 p.ahead.1/\Bd 1700 p.ahead.2)/\(Bd 1700 (AJ p.turned (AR p.ahead)).1/\Bd 1700 (AJ p.turned (AR p.ahead)).2):=by
 have a:=DW h;have w:=KB h;have qa:=EJ a.1;have pa:0<p.ahead.2:=by have:=a.1.pos;lia
 refine ⟨Cl a.1 w.1 h.tr.D1.1 h.tr.D1.2 (by decide) (by unfold Bd;decide) h.aheadBd,Cl (m:=120000) (Bn h.t.ne qa.ne) ?_ h.tr.D1.1 h.tr.D1.2 (by decide) (by unfold Bd;decide) ?_⟩
 ·rw [A3 h.t.ne qa.ne,Ba pa,Rat.add_mul]
  refine h.dt.add ?_;unfold AT;split
  ·have:=w.1.neg
   rw [← Rat.neg_mul] at this;exact this
  ·exact w.1
 ·rw [A3 h.t.ne qa.ne,Ba pa]
  have h1:=EL (qv p.turned) (AT (qv p.ahead));have e1:AT (qv p.turned)=qv p.turned:=by unfold AT;rw [if_neg (Rat.not_lt.mpr h.t0)]
  have e2:AT (AT (qv p.ahead))=AT (qv p.ahead):=by rw [show AT (AT (qv p.ahead))=if AT (qv p.ahead)<0 then -(AT (qv p.ahead)) else AT (qv p.ahead) from rfl,if_neg (Rat.not_lt.mpr (HK _))]
  rw [e1,e2] at h1;have h2:qv p.turned<=((100000:Int):Rat):=h.t1;exact Rat.le_trans h1 (Gr h2 h.aheadBd (by decide))
def BT (K:zP) (H:Hp) (ds:List Deed) (rs:List Addr):Prop:=Paired (fun r d=>∃ wv,H r=some (.tup [.str (Deed.word d),wv])/\CZ K H wv d) rs ds
theorem BT.tups {K:zP} {H H':Hp} (s:Ai H H'):∀ {ds:List Deed} {rs:List Addr},BT K H ds rs->BT K H' ds rs
 | _,_,.nil=>.nil
 | _,_,.cons ⟨wv,h1,h2⟩ t=>.cons ⟨wv,s _ _ h1,h2.tups s⟩ (BT.tups s t)
abbrev bO (K:zP):LS->(Addr->Prop)->Hp->Hp->V->Prop:=fun l F' H H' v=>∃ D,v = .ref D/\H D=none/\¬ F' D/\∃ rs,H' D=some (.lst (rs.map V.ref))/\BT K H' l.book rs
noncomputable def sF (t pi w pl:V) (c:Bool) (o cu tu mo:V):List (Ac × V):=[(.inr "train",t),(.inr "pitch",pi),(.inr "work",w),(.inr "place",pl),(.inr "closed",.bl c),(.inr "off",o),(.inr "cuts",cu),(.inr "turned",tu),(.inr "moved",mo)]
section
variable {t pi w pl o cu tu mo v:V} {c b:Bool}
theorem XO:BS (sF t pi w pl c o cu tu mo) (.inr "train")=some t:=rfl
theorem A9:BS (sF t pi w pl c o cu tu mo) (.inr "pitch")=some pi:=rfl
theorem JP:BS (sF t pi w pl c o cu tu mo) (.inr "work")=some w:=rfl
theorem JO:BS (sF t pi w pl c o cu tu mo) (.inr "place")=some pl:=rfl
theorem Aw:BS (sF t pi w pl c o cu tu mo) (.inr "closed")=some (.bl c):=rfl
theorem Ar:BS (sF t pi w pl c o cu tu mo) (.inr "off")=some o:=rfl
theorem HL:BS (sF t pi w pl c o cu tu mo) (.inr "cuts")=some cu:=rfl
theorem FZ:BS (sF t pi w pl c o cu tu mo) (.inr "turned")=some tu:=rfl
theorem JN:BS (sF t pi w pl c o cu tu mo) (.inr "moved")=some mo:=rfl
theorem XV:BI (sF t pi w pl c o cu tu mo) (.inr "work") v=sF t pi v pl c o cu tu mo:=rfl
theorem Ly:BI (sF t pi w pl c o cu tu mo) (.inr "place") v=sF t pi w v c o cu tu mo:=rfl
theorem Lv:BI (sF t pi w pl c o cu tu mo) (.inr "closed") (.bl b)=sF t pi w pl b o cu tu mo:=rfl
theorem JQ:BI (sF t pi w pl c o cu tu mo) (.inr "off") v=sF t pi w pl c v cu tu mo:=rfl
theorem XS:BI (sF t pi w pl c o cu tu mo) (.inr "cuts") v=sF t pi w pl c o v tu mo:=rfl
theorem XU:BI (sF t pi w pl c o cu tu mo) (.inr "turned") v=sF t pi w pl c o cu v mo:=rfl
theorem XT:BI (sF t pi w pl c o cu tu mo) (.inr "moved") v=sF t pi w pl c o cu tu v:=rfl
theorem Vy:FU [] (sF t pi w pl c o cu tu mo)=sF t pi w pl c o cu tu mo:=by kernel_rfl
theorem DA:(sF t pi w pl c o cu tu mo).length<sizeLine:=by show 9<sizeLine;decide
end
structure D6 (K:zP) (N:Addr->Prop) (H:Hp) (s:Addr) (p:PS) (t:Addr) (pi:V) (w pl:Addr) (o:V) (cu tu mo:Addr):Prop where
 ob:H s=some (.dK (sF (.ref t) pi (.ref w) (.ref pl) p.closed o (.ref cu) (.ref tu) (.ref mo)))
 ns:N s
 nc:N cu
 tr:Af K H t (p.train.map V.int)
 pi':Ay K H pi p.pitch
 wo:AO K H w p.work
 pl':AO K H pl p.place
 of':Ay K H o p.off
 cu':TL H cu (Bq p.cuts)
 tu':AO K H tu p.turned
 mo':AO K H mo p.moved
def Al (K:zP) (N:Addr->Prop) (H:Hp) (s:Addr) (p:PS):Prop:=∃ t pi w pl o cu tu mo,D6 K N H s p t pi w pl o cu tu mo
theorem D6.frame {K:zP} {N N':Addr->Prop} {H H':Hp} {s:Addr} {p:PS} {t:Addr} {pi:V} {w pl:Addr} {o:V} {cu tu mo:Addr} (h:D6 K N H s p t pi w pl o cu tu mo) (k:∀ b o,N b->H b=some o->H' b=some o/\N' b) (u:Ai H H'):D6 K N' H' s p t pi w pl o cu tu mo:=by
 obtain ⟨rs,h1,h2⟩:=h.cu';exact ⟨(k _ _ h.ns h.ob).1,(k _ _ h.ns h.ob).2,(k _ _ h.nc h1).2,h.tr.tups u,h.pi'.tups u,h.wo.tups u,h.pl'.tups u,h.of'.tups u,⟨rs,(k _ _ h.nc h1).1,DN u h2⟩,h.tu'.tups u,h.mo'.tups u⟩
theorem D6.same {K:zP} {N:Addr->Prop} {H H':Hp} {s:Addr} {p:PS} {t:Addr} {pi:V} {w pl:Addr} {o:V} {cu tu mo:Addr} (h:D6 K N H s p t pi w pl o cu tu mo) (e:AE H H'):D6 K N H' s p t pi w pl o cu tu mo:=h.frame (fun b o n z=>⟨e b o z,n⟩) (AE.tups e)
theorem Al.same {K:zP} {N:Addr->Prop} {H H':Hp} {s:Addr} {p:PS} (h:Al K N H s p) (e:AE H H'):Al K N H' s p:=by
 obtain ⟨t,pi,w,pl,o,cu,tu,mo,h⟩:=h;exact ⟨t,pi,w,pl,o,cu,tu,mo,h.same e⟩
theorem Al.fit {K:zP} {F F':Addr->Prop} {H H':Hp} {s:Addr} {p:PS} (h:Al K (fun b=>¬ F b) H s p) (f:AS F F' H H'):Al K (fun b=>¬ F' b) H' s p:=by
 obtain ⟨t,pi,w,pl,o,cu,tu,mo,h⟩:=h;exact ⟨t,pi,w,pl,o,cu,tu,mo,h.frame (fun b o n z=>⟨f.keep b o z n,f.out z n⟩) f.tup⟩
def Dw (N:Addr->Prop) (H:Hp):Prop:=∀ b,H b=none->N b
theorem Aa.newOk {K:zP} {mg:zQ} {H:Hp} {a:Addr} {l:LS} {F:Addr->Prop} (R:Aa K mg H a l F):Dw (fun b=>¬ F b) H:=fun b h f=>by obtain ⟨o,e⟩:=R.at_ f;rw [h] at e;cases e
theorem Dw.same {N:Addr->Prop} {H H':Hp} (h:Dw N H) (s:AE H H'):Dw N H':=fun b e=>h b (s.free e)
def BU (K:zP) (H:Hp) (v:V):Req->Prop
 | .mount ts=>∃ t,v = .ref t/\(H t=some (.lst (ts.map V.int))\/Af K H t (ts.map V.int))/\ts.length<=1000/\∀ v∈ts,Bd 200 v
 | .turn x y=>∃ t,v = .ref t/\AO K H t (x,y)/\Bd 200 x/\Bd 200 y
 | .move x y=>∃ t,v = .ref t/\AO K H t (x,y)/\Bd 200 x/\Bd 200 y
 | .cut x y=>∃ t,v = .ref t/\AO K H t (x,y)/\Bd 200 x/\Bd 200 y
 | .wait=>v = .non
 | .close=>v = .non
 | .opn=>v = .non
theorem BU.same {K:zP} {H H':Hp} {v:V} {q:Req} (h:BU K H v q) (s:AE H H'):BU K H' v q:=by
 cases q with
 | mount ts=>obtain ⟨t,e,h,h2⟩:=h;exact ⟨t,e,h.elim (fun h=>.inl (s _ _ h)) (fun h=>.inr (h.mono s)),h2⟩
 | turn x y=>obtain ⟨t,e,h,h2⟩:=h;exact ⟨t,e,h.mono s,h2⟩
 | move x y=>obtain ⟨t,e,h,h2⟩:=h;exact ⟨t,e,h.mono s,h2⟩
 | cut x y=>obtain ⟨t,e,h,h2⟩:=h;exact ⟨t,e,h.mono s,h2⟩
 | wait=>exact h
 | close=>exact h
 | opn=>exact h
noncomputable def Req.word (q:Req):Str:=Deed.word q.deed
theorem WF {K:zP} {N:Addr->Prop} {H G:Hp} {p t n1 n2 n3 n4 n5:Addr} {pw:V} {ts:List Int} {po:Option Q2} (s:AE H G) (hp:H p=none) (gp:G p=some (.dK [])) (ht:Af K H t (ts.map V.int)) (hpo:Ay K H pw po) (n0:N p) (n9:N n3)
  (h1:G n1=some (.tup [.int 0,.int 1])) (h2:G n2=some (.tup [.int 0,.int 1])) (h3:G n3=some (.lst [])) (h4:G n4=some (.tup [.int 0,.int 1])) (h5:G n5=some (.tup [.int 0,.int 1])) :
  AE H (AC G p (.dK (sF (.ref t) pw (.ref n1) (.ref n2) false .non (.ref n3) (.ref n4) (.ref n5))))/\Al K N (AC G p (.dK (sF (.ref t) pw (.ref n1) (.ref n2) false .non (.ref n3) (.ref n4) (.ref n5)))) p { BZ with train:=ts,pitch:=po }:=by
 have S:AE H (AC G p (.dK (sF (.ref t) pw (.ref n1) (.ref n2) false .non (.ref n3) (.ref n4) (.ref n5)))):=fun b o e=>(uN (nQ e hp)).trans (s b o e);have ap:∀ {n:Addr} {o:HO},G n=some o->o≠.dK []->AC G p (.dK (sF (.ref t) pw (.ref n1) (.ref n2) false .non (.ref n3) (.ref n4) (.ref n5))) n=some o:=fun h z=>(uN (fun e=>by rw [e,gp] at h;exact z (Option.some.inj h).symm)).trans h
 refine ⟨S,t,pw,n1,n2,.non,n3,n4,n5,uS,n0,n9,ht.mono S,hpo.tups (AE.tups S),.inl (ap h1 (by intro z;cases z)),.inl (ap h2 (by intro z;cases z)),rfl,⟨[],ap h3 (by intro z;cases z),.nil⟩,.inl (ap h4 (by intro z;cases z)),.inl (ap h5 (by intro z;cases z))⟩
theorem Yh {o:Q2} (h:Ah o) (n:Int):AI (o.1%(n*o.2)) o.2=(o.1%(o.2*n),o.2):=by
 rw [Int.mul_comm n];refine Cj (a:=(o.1%(o.2*n),o.2)) ⟨h.pos,?_⟩;show Int.gcd (o.1%(o.2*n)) o.2=1;have e:o.1%(o.2*n)=o.1+o.2*(-(n*(o.1 / (o.2*n)))):=by
  have:=Int.emod_add_mul_ediv o.1 (o.2*n)
  grind
 rw [e,Int.gcd_add_mul_left_left];exact h.co
theorem Dx.offOk {p:PS} (h:Dx p):∀ o,p.off=some o->Ah o/\Bd 1700 o.1/\Bd 1700 o.2:=fun o ho=>by
 rcases h with rfl|⟨ts,P⟩
 ·cases ho
 ·exact ⟨P.o o ho,(P.offN ho).1,(P.offN ho).2⟩
theorem C8 {H G:Hp} {c:Addr} {o:HO} (s:AE H G) (hc:H c=none):AE H (AC G c o):=fun b u e=>(uN (nQ e hc)).trans (s b u e)
theorem Dp {G:Hp} {c:Addr} {kvs:List (Ac × V)} {o:HO} (h:G c=some (.dK kvs)):Ai G (AC G c o):=fun b xs e=>(uN (fun z=>by rw [z,h] at e;cases e)).trans e
theorem D8 {K:zP} {N:Addr->Prop} {H G:Hp} {s c:Addr} {p p':PS} {t:Addr} {pi:V} {w pl:Addr} {o:V} {cu tu mo:Addr} {w' pl' tu' mo' cu':Addr} {o':V} (S:D6 K N H s p t pi w pl o cu tu mo) (sg:AE H G) (hc:G c=some (.dK (sF (.ref t) pi (.ref w') (.ref pl') p'.closed o' (.ref cu') (.ref tu') (.ref mo')))) (nc:N c) (ncu:N cu')
  (et:p'.train=p.train) (ep:p'.pitch=p.pitch) (hw:AO K G w' p'.work) (hpl:AO K G pl' p'.place) (ho:Ay K G o' p'.off) (hcu:TL G cu' (Bq p'.cuts)) (htu:AO K G tu' p'.turned) (hmo:AO K G mo' p'.moved):Al K N G c p' :=
 ⟨t,pi,w',pl',o',cu',tu',mo',hc,nc,ncu,by rw [et];exact S.tr.mono sg,by rw [ep];exact S.pi'.tups (AE.tups sg),hw,hpl,ho,hcu,htu,hmo⟩
theorem Reach.pcOf {l:LS} {q:Req} (h:Reach l) (d:AZ l q=none) (nm:∀ ts,q≠.mount ts):∃ ts,Pc l.ps ts:=by
 have s:=(CL d).tr nm;rcases h.pco with e|P
 ·rw [e] at s;cases s
 ·exact P
theorem IH {K:zP} {H:Hp}:∀ {ds:List Deed} {rs:List Addr} {i:Nat} {x:V},BT K H ds rs->(rs.map V.ref)[i]? = some x->∃ r d wv,x = .ref r/\ds[i]? = some d/\H r=some (.tup [.str (Deed.word d),wv])/\CZ K H wv d
 | _,_,i,_,.nil,h=>by cases i <;> cases h
 | _,_,0,_,.cons ⟨wv,h1,h2⟩ _,h=>by cases h;exact ⟨_,_,wv,rfl,rfl,h1,h2⟩
 | _,_,i+1,_,.cons _ t,h=>by
  obtain ⟨r,d,wv,e1,e2,e3⟩:=IH (i:=i) t h;exact ⟨r,d,wv,e1,e2,e3⟩
theorem Vx {K:zP} {H:Hp} {v v':V} {d:Deed} (h:CZ K H v d) (h':CZ K H v' d) (b:∀ ts,d = .mount ts->ts.length<=1000):(v = .non/\v' = .non)\/∃ (a c:Addr) (ws:List Int),v = .ref a/\v' = .ref c/\Af K H a (ws.map V.int)/\Af K H c (ws.map V.int)/\ws.length<=1000:=by
 cases d with
 | mount ts=>obtain ⟨a,e,h⟩:=h;obtain ⟨c,e',h'⟩:=h';exact .inr ⟨a,c,ts,e,e',h,h',b ts rfl⟩
 | turn x=>obtain ⟨a,e,h⟩:=h;obtain ⟨c,e',h'⟩:=h';exact .inr ⟨a,c,[x.1,x.2],e,e',h,h',by simp⟩
 | move x=>obtain ⟨a,e,h⟩:=h;obtain ⟨c,e',h'⟩:=h';exact .inr ⟨a,c,[x.1,x.2],e,e',h,h',by simp⟩
 | cut x=>obtain ⟨a,e,h⟩:=h;obtain ⟨c,e',h'⟩:=h';exact .inr ⟨a,c,[x.1,x.2],e,e',h,h',by simp⟩
 | wait=>exact .inl ⟨h,h'⟩
 | close=>exact .inl ⟨h,h'⟩
 | opn=>exact .inl ⟨h,h'⟩
theorem Yb (a b:Str):Ji (.str a) (.str b)=true:=rfl
def E8 (K:zP) (H:Hp) (v d:V):Prop:=(v = .non/\d = .non)\/∃ (a b:Addr) (ws:List Int),v = .ref a/\d = .ref b/\Af K H a (ws.map V.int)/\Af K H b (ws.map V.int)/\ws.length<=1000
def Hw (K:zP) (H:Hp) (D E:Addr):Prop:=∃ xs ys:List V,H D=some (.lst xs)/\H E=some (.lst ys)/\xs.length=ys.length/\ys.length<=1000/\∀ (i:Nat) x y,xs[i]? = some x->ys[i]? = some y->E8 K H x y
theorem bU {K:zP} {H:Hp} {D E:Addr} {rows:List (List Int)} (h1:TL H D rows) (h2:TL H E rows) (hl:rows.length<=1000) (hr:∀ t∈rows,t.length<=1000):Hw K H D E:=by
 obtain ⟨rs,e1,p1⟩:=h1;obtain ⟨us,e2,p2⟩:=h2;have l1:=Paired.length p1;have l2:=Paired.length p2;refine ⟨_,_,e1,e2,by rw [List.length_map,List.length_map,l1,l2],by rw [List.length_map,l2];exact hl,fun i x y hx hy=>?_⟩
 obtain ⟨r1,t1,rfl,g1,k1⟩:=HY p1 hx;obtain ⟨r2,t2,rfl,g2,k2⟩:=HY p2 hy;have et:t2=t1:=by rw [g1] at g2;exact (Option.some.inj g2).symm
 subst et;exact .inr ⟨r1,r2,t2,rfl,rfl,.inl k1,.inl k2,hr t2 (List.mem_of_getElem? g1)⟩
theorem E8.fr {K:zP} {H:Hp} {v d:V} {x:Option Q2} (h1:Ay K H v x) (h2:Ay K H d x):E8 K H v d:=by
 cases x with
 | none=>exact .inl ⟨h1,h2⟩
 | some x=>obtain ⟨a,e,h⟩:=h1;obtain ⟨b,e',h'⟩:=h2;exact .inr ⟨a,b,[x.1,x.2],e,e',h,h',by simp⟩
theorem Reach.mounts {l:LS} (h:Reach l):∀ ts,Deed.mount ts∈l.book->ts.length<=1000:=by
 induction h with
 | new g=>intro ts z;cases z
 | @step l q h d ih =>
  intro ts z;have z:Deed.mount ts∈l.book++[q.deed]:=z;rcases List.mem_append.mp z with z|z
  ·exact ih ts z
  ·have e:=List.mem_singleton.mp z
   cases q with
   | mount us =>
    cases e;have ok:(!(decide (ts.length=2\/ts.length=4)&&decide ts.Nodup))=false:=(CL d).ok;cases hh:decide (ts.length=2\/ts.length=4) with
    | true=>have:=of_decide_eq_true hh;lia
    | false=>rw [hh] at ok;cases ok
   | _=>cases e
end My
namespace L2
open PySem PySem.Spec PyProof.Rows
theorem KS {X:Cx}:BO X (.type "range") (fun xs H Q=>∃ a b:Int,xs=[.int a,.int b]/\∀ r,H r=none->Q (.ref r) (AC H r (D5 r a b 1))):=by
 intro pins s σ H xs us Q I rs q;obtain ⟨a,b,rfl,q⟩:=q;cases rs with
 | cons r rr =>
  cases rr with
  | cons r' rr =>
   cases rr;obtain ⟨t,rfl⟩:=r;obtain ⟨t',rfl⟩:=r';refine call_range_2 ?_;refine ⟨.ref s.heap.objs.size,_,I.laid (t':=s.toks+1) (fun b o e=>Heap.get?_push_of_some _ e) (Nat.le_refl _) (o:=D5 s.heap.objs.size a b 1) ?_,rfl,q _ (I.hok.fresh (Nat.le_refl _))⟩;have e:(s.heap.push { cls:=.type "range",data:=.fields #[.int a t,.int b t',.int 1 s.toks] }).get? s.heap.objs.size=some { cls:=.type "range",data:=.fields #[.int a t,.int b t',.int 1 s.toks] }:=Heap.get?_push_size _ rfl;exact ⟨⟨_,_,_,e⟩,⟨_,e⟩,fun h1 h2 ⟨t,u,v,z⟩ k=>⟨t,u,v,k _ z⟩⟩
end L2
namespace My
open PySem L2 Mt
noncomputable def BN (f:Int) (n:Nat):List V:=(List.range n).map fun (i:Nat)=>V.int (f+i*1)
theorem aJ {f:Int} {n i:Nat} {x:V} (h:(BN f n)[i]? = some x):i<n/\x = .int (f+i):=by
 unfold BN at h;rw [List.getElem?_map] at h;rcases Nat.lt_or_ge i n with l|l
 ·rw [List.getElem?_range l] at h
  cases h;exact ⟨l,by show V.int (f+(i:Int)*1)=_;rw [Int.mul_one]⟩
 ·rw [List.getElem?_eq_none (by rw [List.length_range];exact l)] at h
  cases h
theorem aL {f:Int} {n:Nat}:(BN f n).length=n:=by unfold BN;rw [List.length_map,List.length_range]
theorem HU {a b:Int}:Builtin.Range.rangeSize a b 1=(((b-a).toNat:Nat):Int):=by
 rw [rangeSize_one];split <;> lia
structure J5 (l:LS):Prop where
 tu:qv l.ps.turned<=((80000+200*(l.book.length:Int):Int):Rat)
 mo:qv l.ps.moved<=((200*(l.book.length:Int):Int):Rat)
inductive Qt:LS->Prop where
 | new {ws:List Int} {n:Int} (g:DH ws n):Qt ⟨ws,n,[]⟩
 | step {l:LS} {q:Req} (h:Qt l) (d:AZ l q=none) (b:J5 (l.push q.deed)):Qt (l.push q.deed)
theorem Qt.reach {l:LS} (h:Qt l):Reach l:=by
 induction h with
 | new g=>exact .new g
 | step h d b ih=>exact .step ih d
theorem Qt.qb {l:LS} (h:Qt l):J5 l:=by
 cases h with
 | new g=>exact ⟨by show qv (0,1)<=((80000:Int):Rat);rw [Bc];decide,by show qv (0,1)<=((0:Int):Rat);rw [Bc];decide⟩
 | step h d b=>exact b
section
variable {l:LS} {ts:List Int}
theorem Qt.mount (h:Qt l) {us:List Int} (h1:∀ v∈us,v∈l.shop) (h2:l.ps.closed=false) (h3:us.length=2\/us.length=4) (h4:us.Nodup) (h5:l.book.length<100):AZ l (.mount us)=none/\Qt (l.push (Req.mount us).deed):=by
 have d:=SV h1 h2 h3 h4 h5;have z:∀ m:Int,0<=m->qv (0,1)<=(m:Rat):=fun m hm=>by rw [Bc];exact_mod_cast hm
 refine ⟨d,.step h d ⟨?_,?_⟩⟩
 ·rw [LS.ps_push];exact z _ (by lia)
 ·rw [LS.ps_push];exact z _ (by lia)
theorem DY {x:Rat} {a b:Int} (h:x<=(a:Rat)) (k:a<=b):x<=(b:Rat):=Rat.le_trans h (Rat.intCast_le_intCast.mpr k)
theorem Qt.turn (h:Qt l) (P:Pc l.ps ts) {t b:Int} (b1:1<=b) (b2:b<=1000) (t1:-200<=t) (t2:t<=200) (h5:l.book.length<96):AZ l (.turn t b)=none/\Qt (l.push (Req.turn t b).deed):=by
 have r:=Lq (t:=t) (b:=b) (m:=200) b1 (by lia) (by lia)
 have s:=Gr h.qb.tu r (c:=80000+200*((l.book.length+1:Nat):Int)) (by lia)
 have d:=SY P (t:=t) b1 b2 (by lia) (Gq s (by lia))
 refine ⟨d,.step h d ⟨?_,?_⟩⟩
 ·rw [CS];show qv (l.push (.turn (AI t b))).ps.turned<=_;rw [cE P b1];exact s
 ·rw [CS];show qv (l.push (.turn (AI t b))).ps.moved<=_;rw [bj];exact DY h.qb.mo (by lia)
theorem Qt.cut (h:Qt l) (P:Pc l.ps ts) (c:l.ps.closed=true) {t b:Int} (b1:1<=b) (b2:b<=1000) (t1:1<=t) (t2:t<=200) (h5:l.book.length<96):AZ l (.cut t b)=none/\Qt (l.push (Req.cut t b).deed):=by
 have r:=Lq (t:=t) (b:=b) (m:=200) b1 (by lia) (by lia)
 have s:=Gr h.qb.tu r (c:=80000+200*((l.book.length+1:Nat):Int)) (by lia)
 have d:=SU P (t:=t) t1 b1 b2 c (by lia) (Gq s (by lia))
 refine ⟨d,.step h d ⟨?_,?_⟩⟩
 ·rw [CS];show qv (l.push (.cut (AI t b))).ps.turned<=_;rw [cD P b1];exact s
 ·rw [CS];show qv (l.push (.cut (AI t b))).ps.moved<=_;rw [P7];exact DY h.qb.mo (by lia)
theorem Qt.move (h:Qt l) (P:Pc l.ps ts) (c:l.ps.closed=false) {t b:Int} (b1:1<=b) (b2:b<=1000) (t1:-(200*b)<=t) (t2:t<=200*b) (h5:l.book.length<96):AZ l (.move t b)=none/\Qt (l.push (Req.move t b).deed):=by
 have r:AT (qv (AI t b))<=((200:Int):Rat):=by
  rw [← GD (by lia),← Ba (a:=(t,b)) (by show 0<b;lia)]
  refine (Dq (a:=AR (t,b)) (m:=200) (by show 0<b;lia)).mpr ?_
  show (if t<0 then -t else t)<=200*b
  split <;> lia
 have s:=Gr h.qb.mo r (c:=200*((l.book.length+1:Nat):Int)) (by lia)
 have d:=SW P (t:=t) b1 b2 c (by lia) (Gq s (by lia))
 refine ⟨d,.step h d ⟨?_,?_⟩⟩
 ·rw [CS];show qv (l.push (.move (AI t b))).ps.turned<=_;rw [V4];exact DY h.qb.tu (by lia)
 ·rw [CS];show qv (l.push (.move (AI t b))).ps.moved<=_;rw [V5 P b1];exact s
theorem Qt.close (h:Qt l) (P:Pc l.ps ts) (c:l.ps.closed=false) (m:(l.ps.off.getD (0,1)).2=1) (h5:l.book.length<96):AZ l .close=none/\Qt (l.push Req.close.deed):=by
 have d:=ST P.some c m (by lia)
 refine ⟨d,.step h d ⟨?_,?_⟩⟩
 ·rw [CS];show qv (l.push .close).ps.turned<=_;rw [Pp];exact DY h.qb.tu (by lia)
 ·rw [CS];show qv (l.push .close).ps.moved<=_;rw [Po];exact DY h.qb.mo (by lia)
theorem Qt.opn (h:Qt l) (P:Pc l.ps ts) (c:l.ps.closed=true) (h5:l.book.length<96):AZ l .opn=none/\Qt (l.push Req.opn.deed):=by
 have d:=SX P.some c (by lia)
 refine ⟨d,.step h d ⟨?_,?_⟩⟩
 ·rw [CS];show qv (l.push .opn).ps.turned<=_;rw [WY];exact DY h.qb.tu (by lia)
 ·rw [CS];show qv (l.push .opn).ps.moved<=_;rw [WX];exact DY h.qb.mo (by lia)
theorem SZ (P:Pc l.ps ts) (c:l.ps.closed=false) (room:l.book.length<100) (m:qv l.ps.turned+AT (qv l.ps.ahead)<=100000):AZ l .wait=none:=by
 have a:=(DW P).1;have e1:Ag l.ps.turned l.ps.ahead=false:=Hb (t:=l.ps.ahead.1) (b:=l.ps.ahead.2) P.t a.pos (by rw [Cj a];exact m)
 have e4:l.ps.pitch.isSome=true:=by rw [P.ep];rfl
 unfold AZ;simp only [Req.known,Req.has,Req.meets,Req.wrong,Req.bad,e1,e4,c];simp;lia
theorem cF (P:Pc l.ps ts):qv (l.push .wait).ps.turned=qv l.ps.turned+AT (qv l.ps.ahead):=by
 have a:=(DW P).1;rw [LS.ps_push];show qv (AJ l.ps.turned (AR l.ps.ahead))=_;rw [A3 P.t.ne (EJ a).ne,Ba (by have:=a.pos;lia)]
theorem cU:(l.push .wait).ps.moved=l.ps.moved:=by rw [LS.ps_push];rfl
theorem Qt.wait (h:Qt l) (P:Pc l.ps ts) (c:l.ps.closed=false) (tm:Ag l.ps.turned (AJ l.ps.ahead (20000,1))=false) (h5:l.book.length<96):AZ l .wait=none/\Qt (l.push Req.wait.deed):=by
 obtain ⟨a,a0,_⟩:=DW P;have o2:Ah (20000,1):=⟨by decide,by decide⟩
 have ok:=Bn (a:=l.ps.ahead) (b:=(20000,1)) a.ne o2.ne;have n:=HZ (t:=(AJ l.ps.ahead (20000,1)).1) (b:=(AJ l.ps.ahead (20000,1)).2) P.t ok.pos tm;have v2:qv (20000,1)=20000:=by unfold qv;dsimp only;rw [show ((20000:Int):Rat)=20000 from rfl,show ((1:Int):Rat)=1 from rfl];grind
 rw [Cj ok,A3 a.ne o2.ne,v2] at n;have e1:AT (qv l.ps.ahead)=qv l.ps.ahead:=by unfold AT;rw [if_neg (Rat.not_lt.mpr a0)]
 have e2:AT (qv l.ps.ahead+20000)=qv l.ps.ahead+20000:=by unfold AT;rw [if_neg (by grind)]
 rw [e2] at n;have s:qv l.ps.turned+AT (qv l.ps.ahead)<=((80000:Int):Rat):=by rw [e1,show ((80000:Int):Rat)=80000 from rfl];grind
 have d:=SZ P c (by lia) (Gq s (by lia))
 refine ⟨d,.step h d ⟨?_,?_⟩⟩
 ·rw [CS];show qv (l.push .wait).ps.turned<=_;rw [cF P];exact DY s (by lia)
 ·rw [CS];show qv (l.push .wait).ps.moved<=_;rw [cU];exact DY h.qb.mo (by lia)
end
theorem Reach.open0 {l:LS} (h:Reach l) (n:l.ps.pitch=none):l.ps=BZ:=by
 rcases h.pco with e|⟨ts,P⟩
 ·exact e
 ·rw [P.ep] at n;cases n
theorem Reach.pcOf' {l:LS} (h:Reach l) (n:l.ps.pitch≠none):∃ ts,Pc l.ps ts:=by
 rcases h.pco with e|P
 ·rw [e] at n;exact absurd rfl n
 ·exact P
def Bj (F:Addr->Prop) (H:Hp) (W:Addr) (ws:List Int):Prop:=(H W=some (.lst (ws.map V.int))\/H W=some (.tup (ws.map V.int)))/\¬ F W
theorem Bj.fit {F F':Addr->Prop} {H H':Hp} {W:Addr} {ws:List Int} (h:Bj F H W ws) (f:AS F F' H H'):Bj F' H' W ws:=by
 obtain ⟨h|h,n⟩:=h
 ·exact ⟨.inl (f.keep _ _ h n),f.out h n⟩
 ·exact ⟨.inr (f.keep _ _ h n),f.out h n⟩
theorem Bj.same {F:Addr->Prop} {H H':Hp} {W:Addr} {ws:List Int} (h:Bj F H W ws) (s:AE H H'):Bj F H' W ws:=⟨h.1.elim (fun h=>.inl (s _ _ h)) (fun h=>.inr (s _ _ h)),h.2⟩
theorem Bj.sq {K:zP} {F:Addr->Prop} {H:Hp} {W:Addr} {ws:List Int} (h:Bj F H W ws):BB K H W (ws.map V.int):=h.1.elim (fun h=>.inl (AF.of h)) (fun h=>.inr (AH.of h))
def Cu (F:Addr->Prop) (E:Addr):Addr->Prop:=fun b=>¬ F b/\b≠E
theorem Al.weak {K:zP} {N N':Addr->Prop} {H:Hp} {s:Addr} {p:PS} (h:Al K N H s p) (k:∀ b,N b->N' b):Al K N' H s p:=by
 obtain ⟨t,pi,w,pl,o,cu,tu,mo,h⟩:=h;exact ⟨t,pi,w,pl,o,cu,tu,mo,h.frame (fun b o n z=>⟨z,k b n⟩) (fun _ _ z=>z)⟩
theorem Al.fitE {K:zP} {F F':Addr->Prop} {E:Addr} {H H':Hp} {s:Addr} {p:PS} (h:Al K (Cu F E) H s p) (f:AS F F' H H'):Al K (Cu F' E) H' s p:=by
 obtain ⟨t,pi,w,pl,o,cu,tu,mo,h⟩:=h;exact ⟨t,pi,w,pl,o,cu,tu,mo,h.frame (fun b o n z=>⟨f.keep b o z n.1,f.out z n.1,n.2⟩) f.tup⟩
theorem Al.beside {K:zP} {F:Addr->Prop} {E:Addr} {H H':Hp} {s:Addr} {p:PS} {xs:List V} (h:Al K (Cu F E) H s p) (k:Du E H H') (e:H E=some (.lst xs)):Al K (Cu F E) H' s p:=by
 obtain ⟨t,pi,w,pl,o,cu,tu,mo,h⟩:=h;exact ⟨t,pi,w,pl,o,cu,tu,mo,h.frame (fun b o n z=>⟨k b o z n.2,n⟩) (k.tups e)⟩
theorem Al.notE {K:zP} {F:Addr->Prop} {E:Addr} {H:Hp} {s:Addr} {p:PS} (h:Al K (Cu F E) H s p):Al K (fun b=>¬ F b) H s p:=h.weak fun _ n=>n.1
theorem Cu.newOk {K:zP} {mg:zQ} {H:Hp} {a E:Addr} {l:LS} {F:Addr->Prop} {o:HO} (R:Aa K mg H a l F) (e:H E=some o):Dw (Cu F E) H:=fun b h=>⟨R.newOk b h,fun z=>by rw [z,e] at h;cases h⟩
theorem AS.besides {F F':Addr->Prop} {H G G':Hp} {E:Addr} (f:AS F F' H G) (n:H E=none) (k:Du E G G'):AS F F' H G' where
 keep:=fun b o h nf=>k b o (f.keep b o h nf) (nQ h n)
 foot:=f.foot
 tup:=fun b xs h=>k b _ (f.tup b xs h) (nQ h n)
theorem KK {H:Hp} {D:Addr} (o':HO):Du D H (AC H D o'):=fun _ _ e n=>(uN n).trans e
theorem BT.snoc {K:zP} {H:Hp} {ds:List Deed} {rs:List Addr} {d:Deed} {r:Addr} {wv:V} (h:BT K H ds rs) (h1:H r=some (.tup [.str (Deed.word d),wv])) (h2:CZ K H wv d):BT K H (ds++[d]) (rs++[r]):=Paired.snoc h ⟨wv,h1,h2⟩
def Dy (K:zP) (H:Hp) (v:V):Req->Prop
 | .mount ts=>∃ t,v = .ref t/\Af K H t (ts.map V.int)/\ts.length<=1000/\∀ v∈ts,Bd 200 v
 | .turn x y=>∃ t,v = .ref t/\AO K H t (x,y)/\Bd 200 x/\Bd 200 y
 | .move x y=>∃ t,v = .ref t/\AO K H t (x,y)/\Bd 200 x/\Bd 200 y
 | .cut x y=>∃ t,v = .ref t/\AO K H t (x,y)/\Bd 200 x/\Bd 200 y
 | .wait=>v = .non
 | .close=>v = .non
 | .opn=>v = .non
theorem Dy.reqV {K:zP} {H:Hp} {v:V} {q:Req} (h:Dy K H v q):BU K H v q:=by
 cases q with
 | mount ts=>obtain ⟨t,e,h,h2⟩:=h;exact ⟨t,e,.inr h,h2⟩
 | _=>exact h
theorem Dy.tups {K:zP} {H H':Hp} {v:V} {q:Req} (h:Dy K H v q) (s:Ai H H'):Dy K H' v q:=by
 cases q with
 | mount ts=>obtain ⟨t,e,h,h2⟩:=h;exact ⟨t,e,h.tups s,h2⟩
 | turn x y=>obtain ⟨t,e,h,h2⟩:=h;exact ⟨t,e,h.tups s,h2⟩
 | move x y=>obtain ⟨t,e,h,h2⟩:=h;exact ⟨t,e,h.tups s,h2⟩
 | cut x y=>obtain ⟨t,e,h,h2⟩:=h;exact ⟨t,e,h.tups s,h2⟩
 | wait=>exact h
 | close=>exact h
 | opn=>exact h
end My
namespace My
open PySem L2 Mt
section
variable {K:zP} {N:Addr->Prop} {G:Hp} {s:Addr} {p:PS} {t:Addr} {pi:V} {w pl:Addr} {o:V} {cu tu mo:Addr}
end
end My
namespace My
open PySem L2 Mt
section
variable {i o w p v:Int}
end
section
variable {r:Q2} {x t b:Int}
end
end My
namespace PySem
namespace F
theorem tyCallKw (a v:Value):checkTypeCall "enumerate" ⟨[a],[("start",v)]⟩=pure ():=by kernel_rfl
theorem nwCallKw (a v:Value):checkBuiltinCall "enumerate.__new__" ⟨[.type "enumerate",a],[("start",v)]⟩=pure ():=by kernel_rfl
end F
section
variable {P:Program} {w:World} {A:Around} {E:Value->Shared->Prop} {s:Shared}
theorem P0 (T:String) (xs:List Value) (kw:List (Str × Value)):(Code.builtin "type.__call__" ⟨.type T::xs,kw⟩).weight=0:=rfl
theorem Pz (T:String) (xs:List Value) (kw:List (Str × Value)):(Code.builtin "type.__call__" ⟨.type T::xs,kw⟩).cUnits=1:=rfl
theorem Py {T nw it:String} {B1 B2:Builtin} {xs:List Value} {kw:List (Str × Value)} {S1:Spec} {Q Q1:Value->Shared->Prop} (ft:TypeCalled T nw it) (c1:checkTypeCall T ⟨xs,kw⟩=pure ()) (c2:checkBuiltinCall nw ⟨.type T::xs,kw⟩=pure ())
  (e1:entryFor table nw=some B1) (e2:entryFor table it=some B2) (g1:Meets (B1 ⟨.type T::xs,kw⟩) S1) (h:S1 A.in1 (wants Q1 E) s)
  (nx:∀ o s1,Q1 o s1->s1.TypeIs o T/\argsOk it ⟨o::xs,kw⟩/\∃ S2,Meets (B2 ⟨o::xs,kw⟩) S2/\S2 A.in1 (wants (fun r s2=>r = .none/\Q o s2) E) s1):wpAny (model P w) A (call (.type T) xs kw) Q E s:=by
 have hmade:=ft.made;have hsub:=ft.sub;have n1:=ft.notType;have n2:=ft.canCreate;obtain ⟨c0,cs0,hmro⟩:=ft.mro;refine wpAny_call (codeAny_of_tree ?_);show wpAny _ _ (callAny (Value.type T) _) _ _ _;refine wpAny_pure ⟨Code.quiet_builtin _ (by decide +kernel),codeAny_builtin F.entry_type_call (?_:_)⟩
 rw [Around.under_plain (P0 T xs kw) (Pz T xs kw)]
 repeat (any_goals (first|assumption|wp_step|fail))
 refine codeAny_mono (codeAny_call_builtin ft.plain e1 (wpAny_of_eq c2 (g1 P w A.in1 _ s h))) fun r s1 hr=>?_;cases r with
 | error e=>exact hr
 | ok f1 =>
  cases f1 with
  | ret o =>
   obtain ⟨hT,ok,S2,g2,h2⟩:=nx _ _ hr;have li:=ft.init.lookup;have bi:=ft.init.bind o
   repeat (any_goals (first|assumption|wp_step|fail))
   refine codeAny_mono (codeAny_call_builtin ft.init.plain e2 (ft.init.check _ _ _ _ _ _ _ _ hT ok (g2 P w A.in1 _ s1 h2))) fun r2 s2 hr2=>?_;cases r2 with
   | error e=>exact hr2
   | ok f2 =>
    cases f2 with
    | ret r =>
     obtain ⟨rfl,hq⟩:=hr2
     repeat (any_goals (first|assumption|wp_step|fail))
    | _=>exact hr2.elim
  | _=>exact hr.elim
theorem WH {T nw:String} {o:Value} {xs:List Value} {k:Str} {v:Value} (hl:typeLookup (.type T) "__init__" = pure (some (.builtin "object.__init__"))) (hm:Bind.madeBy (.type T)=pure (some nw)) (hne:(some nw != some "object.__new__")=true) :
  Meets (Builtin.«object.__init__» ⟨o::xs,[(k,v)]⟩) (fun _ R s=>s.TypeIs o T/\R (.ok (.ret .none)) s):=by
 refine Meets.of_wp fun prog w A R s ⟨hT,hq⟩=>?_
 repeat (any_goals (first|assumption|wp_step|fail))
 exact ⟨_,rfl,hq⟩
theorem Rl (l:Addr) (its:Array Value) (n:Nat) (dc:Option Addr) (sl:Array (Option Value)) (t:Tok) :
  Meets (Builtin.«enumerate.__new__» ⟨[.type "enumerate",.ref l],[("start",.int 1 t)]⟩) (fun _ R s=>s.heap.get? l=some ⟨.type "list",dc,.seq its n,sl⟩ /\
   R (.ok (.ret (.ref (s.heap.push { cls:=.type "list_iterator",data:=.fields #[.ref l,.int 0 0] }).objs.size))) { s with heap:=(s.heap.push { cls:=.type "list_iterator",data:=.fields #[.ref l,.int 0 0] }).push { cls:=.type "enumerate",data:=.fields #[.none,.bool false,.ref s.heap.objs.size,rawInt 1,.none,.none] } }):=by
 refine .of_wp fun prog w A R ⟨hp,g,d,tk,os⟩ h=>?_;obtain ⟨hl,h⟩:=h;have hsub:=sub_enumerate;have hL:Heap.IsList (Shared.heap ⟨hp,g,d,tk,os⟩) l its:=⟨_,hl,rfl,n,rfl⟩
 wp_walk using (AutoSeq1.wpAny_loadPart' hl)
 refine wpAny_stack_any fun stk=>wpAny_pure ?_;split
 ·rename_i c _ _ _ _ _
  cases (c==(Value.type "enumerate":Value))
  ·wp_walk using (AutoSeq1.wpAny_loadPart' hl),(wpAny_pyIter_list hL)
   exact ⟨_,rfl,h⟩
  ·wp_walk using (AutoSeq1.wpAny_loadPart' hl),(wpAny_pyIter_list hL)
   exact ⟨_,rfl,h⟩
 ·wp_walk using (AutoSeq1.wpAny_loadPart' hl),(wpAny_pyIter_list hL)
  exact ⟨_,rfl,h⟩
theorem Rj {l:Addr} {its:Array Value} {t:Tok} {Q:Value->Shared->Prop} (hL:s.heap.IsList l its)
  (h:∀ g,IsEnum g (s.heap.objs.size+1) s.heap.objs.size 1 .none->g.IsListIter s.heap.objs.size l 0->(∀ b o,s.heap.get? b=some o->g.get? b=some o)->Q (.ref (s.heap.objs.size+1)) { s with heap:=g }) :
  wpAny (model P w) A (call (.type "enumerate") [.ref l] [("start",.int 1 t)]) Q E s:=by
 obtain ⟨⟨c,dc,dt,sl⟩,hl,hc,n,hd⟩:=hL;cases (show c = .type "list" from hc);cases (show dt = .seq its n from hd);have hz:(s.heap.push { cls:=.type "list_iterator",data:=.fields #[.ref l,.int 0 0] }).objs.size=s.heap.objs.size+1:=by rw [Heap.size_push]
 have hE:IsEnum ((s.heap.push { cls:=.type "list_iterator",data:=.fields #[.ref l,.int 0 0] }).push { cls:=.type "enumerate",data:=.fields #[.none,.bool false,.ref s.heap.objs.size,rawInt 1,.none,.none] }) (s.heap.objs.size+1) s.heap.objs.size 1 .none:=by
  have q:=Heap.get?_push_size (s.heap.push { cls:=.type "list_iterator",data:=.fields #[.ref l,.int 0 0] }) (o:={ cls:=.type "enumerate",data:=.fields #[.none,.bool false,.ref s.heap.objs.size,rawInt 1,.none,.none] }) rfl;rw [hz] at q;exact q
 refine Py (Q1:=fun o s1=>s1.TypeIs o "enumerate"/\Q o s1) F.called_enumerate (F.tyCallKw _ _) (F.nwCallKw _ _) F.entry_enumerate_new F.entry_object_init (Rl l its n dc sl t) ⟨hl,?_⟩ fun o s1 hq=>⟨hq.1,?_,_,WH F.called_enumerate.init.lookup F.called_enumerate.made (by decide),hq.1,rfl,hq.2⟩
 ·show _/\_
  rw [hz];exact ⟨⟨_,hE,rfl⟩,h _ hE ⟨_,Heap.get?_push_of_some _ (Heap.get?_push_size _ rfl),rfl,rfl⟩ fun b o x=>Heap.get?_push_of_some _ (Heap.get?_push_of_some _ x)⟩
 ·unfold argsOk
  have sg:=signature?_of (id:="object.__init__") (n:="__tini__".toList) (o:="tcejbo".toList) (by kernel_rfl) F.owner_object
  rw [sg]
  kernel_rfl
theorem Rm {e it l:Addr} {i:Nat} {j:Int} {its:Array Value} {x old:Value} {Q:Option Value->Shared->Prop} (hE:IsEnum s.heap e it j old) (hI:s.heap.IsListIter it l i) (hL:s.heap.IsList l its) (hx:its[i]? = some x) (ne:e≠it)
  (hQ:∀ g,IsEnumOut g e it (j+1) x s.heap.objs.size->g.IsListIter it l (i+1)->g.get? s.heap.objs.size=some { cls:=.type "tuple",data:=.seq #[.int j s.toks,x] }->(∀ b o,b≠e->b≠it->s.heap.get? b=some o->g.get? b=some o)->g.objs.size=s.heap.objs.size+1->Q (some (.ref s.heap.objs.size)) { s with heap:=g,toks:=s.toks+1 }) :
  wpAny (model P w) A (pyNext (.ref e)) Q E s:=by
 have tE:s.TypeIs (.ref e) "enumerate":=⟨_,hE,rfl⟩;unfold pyNext;refine wpAny_bind (wpAny_attempt (wpAny_callSpecial?_slot (name:=Str.ofString "__next__") tE F.slot_enumerate_next (wpAny_call_entry F.slot_enumerate_next tE F.entry_enumerate_next ?_ (F.args_enumerate_next_1 _))));obtain ⟨hp,g0,d,tk,os⟩:=s;show wpAny _ _ (field (Value.ref e) 2>>=_) _ _ _;refine wpAny_bind (wpAny_field hE rfl (x:=.ref it) rfl (wpAny_bind (wpAny_nextOf_list_item hI hL hx fun g1 i1 b1=>?_)));have b1:Heap.SameBut it hp g1:=b1;have E1:IsEnum g1 e it j old:=(b1.2 e ne).trans hE;show wpAny _ _ (field (.ref e) 3>>=_) _ _ ⟨g1,g0,d,tk,os⟩;refine wpAny_bind (wpAny_field E1 rfl (x:=rawInt j) rfl ?_);show wpAny _ _ (field (.ref e) 4>>=_) _ _ ⟨g1,g0,d,tk,os⟩;refine wpAny_bind (wpAny_field E1 rfl (x:=.none) rfl ?_);show wpAny _ _ (mkInt j>>=_) _ _ ⟨g1,g0,d,tk,os⟩;refine wpAny_bind (wpAny_mkInt ?_);show wpAny _ _ (setField (.ref e) 3 (rawInt (j+1))>>=_) _ _ ⟨g1,g0,d,tk+1,os⟩;refine wpAny_bind (wpAny_setField_rec E1 (by simp) fun g2 E2 b2=>?_)
 have b2:Heap.SameBut e g1 g2:=b2;have E2:IsEnum g2 e it (j+1) old:=E2;show wpAny _ _ (setField (.ref e) 4 .none>>=_) _ _ ⟨g2,g0,d,tk+1,os⟩;refine wpAny_bind (wpAny_setField_rec E2 (by simp) fun g3 E3 b3=>?_)
 have b3:Heap.SameBut e g2 g3:=b3;have E3:IsEnum g3 e it (j+1) old:=E3;show wpAny _ _ (newTuple [.int j tk,x]>>=_) _ _ ⟨g3,g0,d,tk+1,os⟩;refine wpAny_bind (wpAny_newTuple (?_:_));have E4:IsEnum (g3.push { cls:=.type "tuple",data:=.seq #[.int j tk,x] }) e it (j+1) old:=Heap.get?_push_of_some _ E3;generalize hg:g3.push { cls:=.type "tuple",data:=.seq #[.int j tk,x] } = g4 at E4;have z3:g3.objs.size=hp.objs.size:=by rw [b3.1,b2.1,b1.1]
 have le:e<hp.objs.size:=Heap.lt_size hE;have t4:g4.get? hp.objs.size=some { cls:=.type "tuple",data:=.seq #[.int j tk,x] }:=by
  rw [← hg,← z3];exact Heap.get?_push_size _ rfl
 have z4:g4.objs.size=hp.objs.size+1:=by rw [← hg,Heap.size_push,z3]
 have k4:∀ b o,b≠e->b≠it->hp.get? b=some o->g4.get? b=some o:=fun b o n1 n2 q=>by
  rw [← hg];exact Heap.get?_push_of_some _ (b3.extBut b o n1 (b2.extBut b o n1 (b1.extBut b o n2 q)))
 have i4:g4.IsListIter it l (i+1):=by
  rw [← hg];obtain ⟨o,q,r⟩:=(i1.extBut b2.extBut (Ne.symm ne)).extBut b3.extBut (Ne.symm ne);exact ⟨o,Heap.get?_push_of_some _ q,r⟩
 show wpAny _ _ (Builtin.SmallTypes.ownedTupleIsFree (.ref e)>>=_) _ _ ⟨g4,g0,d,tk+1,os⟩;rw [z3];refine wpAny_bind ?_;unfold Builtin.SmallTypes.ownedTupleIsFree;refine wpAny_bind (wpAny_field E4 rfl (x:=.none) rfl (wpAny_pure ?_));simp only [if_true];refine wpAny_bind (wpAny_rule (wpAny_bind (wpAny_field E4 rfl (x:=old) rfl (wpAny_bind (wpAny_setField_rec E4 (by simp) fun g5 E5 b5=>?_)))))
 have b5:Heap.SameBut e g4 g5:=b5;have E5:IsEnum g5 e it (j+1) x:=E5;show wpAny _ _ (Builtin.SmallTypes.ownedTupleHandOut (.ref e) (.ref hp.objs.size)>>=_) _ _ ⟨g5,g0,d,tk+1,os⟩;refine wpAny_bind ?_;unfold Builtin.SmallTypes.ownedTupleHandOut;refine wpAny_bind (wpAny_setField_rec E5 (by simp) fun g6 E6 b6=>?_)
 have b6:Heap.SameBut e g5 g6:=b6;have E6:IsEnumOut g6 e it (j+1) x hp.objs.size:=E6;refine wpAny_setField_rec E6 (by simp) fun g7 E7 b7=>?_
 have b7:Heap.SameBut e g6 g7:=b7;have E7:IsEnumOut g7 e it (j+1) x hp.objs.size:=E7;have nt:hp.objs.size≠e:=Nat.ne_of_gt le;have all:∀ b o,b≠e->g4.get? b=some o->g7.get? b=some o:=fun b o n q=>b7.extBut b o n (b6.extBut b o n (b5.extBut b o n q));refine wpAny_bind (wpAny_letGo (wpAny_pure ⟨_,rfl,wpAny_pure (hQ g7 E7 ?_ (all _ _ nt t4) (fun b o n1 n2 q=>all b o n1 (k4 b o n1 n2 q)) ?_)⟩))
 ·exact i4.at fun o q=>all it o (Ne.symm ne) q
 ·show g7.objs.size=hp.objs.size+1
  rw [b7.1,b6.1,b5.1,z4]
theorem Rk {e it l:Addr} {i:Nat} {j:Int} {its:Array Value} {old:Value} {Q:Option Value->Shared->Prop} (hh:A.handled=none) (hE:IsEnum s.heap e it j old) (hI:s.heap.IsListIter it l i) (hL:s.heap.IsList l its) (hx:its[i]? = none)
  (hQ:∀ g,Heap.ExtBut it s.heap g->Q none { s with heap:=g }):wpAny (model P w) A (pyNext (.ref e)) Q E s:=by
 have tE:s.TypeIs (.ref e) "enumerate":=⟨_,hE,rfl⟩;unfold pyNext;refine wpAny_bind (wpAny_attempt (wpAny_callSpecial?_slot (name:=Str.ofString "__next__") tE F.slot_enumerate_next (wpAny_call_entry F.slot_enumerate_next tE F.entry_enumerate_next ?_ (F.args_enumerate_next_1 _))));show wpAny _ _ (field (Value.ref e) 2>>=_) _ _ _;refine wpAny_bind (wpAny_field hE rfl (x:=.ref it) rfl (wpAny_bind (wpAny_nextOf_list_end hh hI hL hx fun g x q k=>?_)));obtain ⟨o,ho,hc⟩:=k;exact wpAny_bind (wpAny_isInstance (T:="StopIteration") (b:=true) ⟨o,ho,hc⟩ isSubtype_stop (wpAny_pure (hQ _ q)))
end
end PySem
namespace L2
open PySem PySem.Spec PyProof.Rows
noncomputable def Hn (K:zP) (a:Addr):It :=
 ⟨fun i H=>∃ xs x,AF K H a xs/\xs[i]? = some x,fun i H x H'=>∃ t v,x = .ref t/\H t=none/\H'=AC H t (.tup [.int (1+(i:Int)),v])/\∀ xs,AF K H a xs->xs[i]? = some v,fun i H=>∃ xs,AF K H a xs/\xs.length<=i⟩
theorem AD.turned2 {X:Cx} {pins:zR} {σ:List (Option V)} {H:Hp} {s:Shared} {h':Heap} {t':Nat} {e it:Addr} (I:AD X pins σ H s) (k:∀ b o,b≠e->b≠it->s.heap.get? b=some o->h'.get? b=some o) (f:∀ b,b=e\/b=it->H b=none/\b≠X.env.locals/\(b∈X.ex\/X.s₀.heap.objs.size<=b)/\(∀ x c,X.env.cells.lookup x=some c->c≠b)/\∀ p∈X.pn++pins,p.1≠b):AD X pins σ H { s with heap:=h',toks:=t' }:=by
 have n:∀ b u,H b=some u->b≠e/\b≠it:=fun b u q=>⟨fun z=>(by rw [z,(f e (.inl rfl)).1] at q;cases q),fun z=>(by rw [z,(f it (.inr rfl)).1] at q;cases q)⟩
 have k':∀ b o,b ∉ [e,it]->s.heap.get? b=some o->h'.get? b=some o:=fun b o hc q=>k b o (fun z=>hc (by simp [z])) (fun z=>hc (by simp [z])) q
 refine I.step (g':=s.gens) (d':=s.drawn) (ch:=[e,it]) (fun b hb=>?_) (fun b o _ _ hc q _=>k' b o hc q) (fun b o _ _ hc q _=>⟨o.slots,k' b o hc q⟩) (fun _ _ _ _ n=>n) (fun b o hc q=>⟨o,k' b o hc q⟩) (fun _ _ q=>q) (fun _ _ _ q=>q) (fun b ps q=>⟨#[],by rw [q];simp⟩) (fun m hm=>?_) (fun b u q=>?_) I.bare
 ·obtain ⟨_,a1,a2,a3,a4⟩:=f b (by simpa using hb)
  exact ⟨a2,a1,a3,a4⟩
 ·obtain ⟨o,es,ep,ho,r⟩:=hm
  exact ⟨o,es,ep,k _ o (Ne.symm (f e (.inl rfl)).2.1) (Ne.symm (f it (.inr rfl)).2.1) ho,r⟩
 ·refine (I.hok b u q).stay (fun c v hc z=>?_) (fun _ z=>z) fun _ _ z=>z
  rcases hc with y|y
  ·rw [y] at z ⊢
   exact k b v (n b u q).1 (n b u q).2 z
  ·exact k c v (n c _ y).1 (n c _ y).2 z
theorem bZ {P:Program} {w:World} {K:zP} {es:List Expr} {k:Nat} {tp:Pos} (a it e:Addr) (ne:e≠it):FD P w K (.Tuple es k tp) (Hn K a) [e,it] e (fun i h=>(∃ old,IsEnum h e it (1+(i:Int)) old)/\h.IsListIter it a i) where
 mem:=by simp
 obj:=fun i h st b hb=>by
  rcases (show b=e\/b=it by simpa using hb) with z|z
  ·obtain ⟨⟨old,q⟩,_⟩:=st
   rw [z];exact ⟨_,q,fun v y=>by cases (show Data.fields _=Data.cell v from y)⟩
  ·obtain ⟨_,o,q,c,d⟩:=st
   rw [z];exact ⟨o,q,fun v y=>by rw [d] at y;cases y⟩
 keep:=fun i h h' st k=>⟨by obtain ⟨⟨old,q⟩,_⟩:=st;exact ⟨old,k e (by simp) _ q⟩,st.2.at fun o q=>k it (by simp) o q⟩
 item:=by
  intro X hP hw hK hc i pins s σ H E I hf st hg;subst hP hw hK;obtain ⟨xs,x,hq,hx⟩:=hg;obtain ⟨⟨old,hE⟩,hI⟩:=st;obtain ⟨its,rv,p,hz⟩:=I.list hq;obtain ⟨u,hu,ru⟩:=rv.get hx;have fe:=hf e (by simp)
  have fi:=hf it (by simp)
  refine Rm hE hI p.isList (x:=u) (by simpa using hu) ne fun g gE gI gT gk gz=>⟨_,rfl,?_⟩
  refine wpAny_letOwnedTupleGo_enum gE fun g2 gE2 gs=>?_;have fr:H s.heap.objs.size=none:=I.hok.fresh (Nat.le_refl _);have te:s.heap.objs.size≠e:=Nat.ne_of_gt (Heap.lt_size hE);have ti:s.heap.objs.size≠it:=by
   obtain ⟨o,q,_⟩:=hI;exact Nat.ne_of_gt (Heap.lt_size q)
  have gs:Heap.SameBut e g g2:=gs;have ht2:g2.get? s.heap.objs.size=some { cls:=.type "tuple",data:=.seq #[.int (1+(i:Int)) s.toks,u] }:=gs.extBut _ _ te gT;have I1:AD X pins σ (AC H s.heap.objs.size (.tup [.int (1+(i:Int)),x])) { s with heap:=s.heap.push { cls:=.type "tuple",data:=.seq #[.int (1+(i:Int)) s.toks,u] },toks:=s.toks } :=
   I.laid (fun b o q=>Heap.get?_push_of_some _ q) (Nat.le_refl _) ⟨by show 2<=sizeLine;decide,[.int (1+(i:Int)) s.toks,u],.cons ⟨_,rfl⟩ (.cons ru .nil),⟨_,Heap.get?_push_size _ rfl,rfl,_,rfl⟩⟩
  have ff:∀ b,b=e\/b=it->CK X pins (AC H s.heap.objs.size (.tup [.int (1+(i:Int)),x])) b:=fun b hb=>by
   rcases hb with rfl|rfl
   ·exact ⟨(uN (Ne.symm te)).trans fe.1,fe.2⟩
   ·exact ⟨(uN (Ne.symm ti)).trans fi.1,fi.2⟩
  have I2:AD X pins σ (AC H s.heap.objs.size (.tup [.int (1+(i:Int)),x])) { s with heap:=g2,toks:=s.toks+1 }:=by
   have z:=AD.turned2 (e:=e) (it:=it) (h':=g2) (t':=s.toks+1) I1 (fun b o n1 n2 q=>by
    rcases Heap.get?_push_cases q with ⟨z,y⟩|q
    ·rw [z,y];exact ht2
    ·exact gs.extBut _ _ n1 (gk b o n1 n2 q)) fun b hb=>⟨(ff b hb).1,(ff b hb).2.1,(ff b hb).2.2.2.1,(ff b hb).2.2.2.2.1,(ff b hb).2.2.2.2.2⟩
   exact z
  refine ⟨.ref s.heap.objs.size,_,I2,rfl,⟨_,x,rfl,fr,rfl,fun ys hy=>by rw [I.list_inj hy hq];exact hx⟩,⟨⟨u,?_⟩,?_⟩,fun b hb=>(ff b (by simpa using hb)).1⟩
  ·rw [show (1:Int)+((i+1:Nat):Int)=1+(i:Int)+1 by lia]
   exact gE2
  ·exact gI.extBut gs.extBut (Ne.symm ne)
 done:=by
  intro X hP hw hK hc i pins s σ H E I hf st hg;subst hP hw hK;obtain ⟨xs,hq,hx⟩:=hg;obtain ⟨⟨old,hE⟩,hI⟩:=st;obtain ⟨its,rv,p,hz⟩:=I.list hq;obtain ⟨f0,f1,f2,f3,f4,f5⟩:=hf it (by simp)
  have hl:=rv.length;exact Rk (I.ok.hd hc) hE hI p.isList (by simp;lia) fun g eb=>⟨rfl,I.turned (t':=s.toks) (fun b o hb q=>eb b o hb q) f0 f1 f3 f4 f5⟩
 self:=fun _ _ _ _ _ st h=>by
  obtain ⟨⟨old,hE⟩,_⟩:=st;exact wpAny_pyIter_enum hE h
theorem QB {M:Model} {A:Around} {E:Value->Shared->Prop} {s:Shared} {pos:Pos} {T:String} {as:List (Bool × Sem Value)} {ks:List (Option Str × Sem Value)} {Q:Value->Shared->Prop} (p1:as.any (·.1)=false) (p2:ks.any (·.1.isNone)=false)
  (h:wpAny M A (evalArgs (.type T) true as ks) (fun a s1=>wpAny M A (call (.type T) ([]++a.pos) a.kw) Q E s1) E s):wpAny M A (callWith pos (.type T) [] as ks) Q E s:=by
 unfold callWith;refine wpAny_bind (wpAny_holding (AQ h fun a s1 h1=>wpAny_bind (wpAny_standAt ?_)));simp only [p1,p2,Bool.or_false];exact wpAny_bind (wpAny_pure (wpAny_bind (AQ h1 fun r s2 hr=>wpAny_bind (wpAny_holding (wpAny_point (wpAny_pure hr))))))
section
variable {X:Cx}
def Ur (K:zP) (ta:TA):TI:=fun σ H R=>ta σ H fun vs H1=>∃ a,vs=[.ref a]/\(∃ xs,AF K H1 a xs)/\R (Hn K a) H1
theorem Wm {l c:Expr} {ta:TA} {p pos kp tp:Pos} {es:List Expr} {k:Nat} (hg:Gl X "enumerate") (hm:X.mg "enumerate" = none) (ha:PA X [l] ta) (hc:PE X c (tC (.int 1)))
  (hs:starEach [l] X.env=(false,eval l X.env)::starEach [] X.env:=by rfl):PI X (.Tuple es k tp) (.Call (.Name "enumerate" p) [l] [⟨some "start",c,kp⟩] pos) (Ur X.K ta):=by
 intro pins s σ H R I h;refine wpAny_Call_Name_kw (FS I hg hm PyProof.Rows.boot_enumerate ?_);refine QB (by rw [hs];rfl) (by rfl) (PyProof.Rows.evalArgs_kw2 (by rfl) ?_ hs)
 refine AQ (ha pos pins s σ H _ I h) fun us s1 ⟨vs,H1,I1,r1,q1⟩=>?_;refine PyProof.Rows.kws_cons (AQ (hc pins s1 σ H1 (fun v H'=>v=V.int 1/\H'=H1) I1 ⟨rfl,rfl⟩) fun v s2 ⟨x2,H2,I2,r2,q2⟩=>PyProof.Rows.kws_nil ?_);obtain ⟨rfl,rfl⟩:=q2;obtain ⟨t2,rfl⟩:=r2;obtain ⟨a,rfl,⟨xs,hq⟩,q⟩:=q1;obtain ⟨u,rfl,rx⟩:=DC r1;cases rx;obtain ⟨its,rv,pl,hz⟩:=I2.list hq;refine Rj pl.isList fun g gE gI gk=>wpAny_pyIter_enum gE ?_;have I3:=I2.kept (t':=s2.toks) gk;refine ⟨_,_,_,_,_,rfl,I3,bZ a s2.heap.objs.size (s2.heap.objs.size+1) (Nat.succ_ne_self _),⟨⟨.none,gE⟩,gI⟩,fun b hb=>?_,q⟩;rcases (show b=s2.heap.objs.size+1\/b=s2.heap.objs.size by simpa using hb) with z|z
 ·rw [z];exact I2.fpOk (Nat.le_succ _) (I2.hok.fresh (Nat.le_succ _))
 ·rw [z];exact I2.fpOk (Nat.le_refl _) (I2.hok.fresh (Nat.le_refl _))
theorem SB {K:zP} {a:Addr} {xs:List V} {g:TG} {tb:TS} {D:BL} {σ:St} {H:Hp} (Pv:Nat->St->Hp->Prop) (h0:Pv 0 σ H) (hl:∀ i σ H,i<=xs.length->Pv i σ H->AF K H a xs)
  (hs:∀ i x σ H t,xs[i]? = some x->Pv i σ H->H t=none->g (.ref t) σ (AC H t (.tup [.int (1+(i:Int)),x])) fun σ2 H2=>tb { D with nx:=Pv (i+1),ct:=Pv (i+1),bk:=D.nx } σ2 H2) (hd:∀ σ H,Pv xs.length σ H->D.nx σ H) :
  IA (Hn K a) g tb D σ H:=by
 refine ⟨fun i m σ H=>m=xs.length-i/\i<=xs.length/\Pv i σ H,⟨xs.length,by simp,Nat.zero_le _,h0⟩,?_⟩
 rintro i m σ H ⟨rfl,hi,p⟩
 have q:=hl i σ H hi p;by_cases hlt:i<xs.length
 ·refine .inr ⟨⟨xs,xs[i],q,by simp [hlt]⟩,Pv (i+1),fun σ' H' p'=>⟨xs.length-(i+1),by lia,rfl,hlt,p'⟩,fun x H' y=>?_⟩
  obtain ⟨t,v,rfl,ht,rfl,hv⟩:=y;exact hs i v σ H t (hv xs q) p ht
 ·have e:i=xs.length:=by lia
  subst e;exact .inl ⟨⟨xs,q,Nat.le_refl _⟩,hd σ H p⟩
end
end L2
namespace PySem
section
variable {P:Program} {w:World} {A:Around} {E:Value->Shared->Prop}
end
end PySem
namespace L2
open PySem PySem.Spec PyProof.Rows
end L2
namespace My
open PySem L2 Mt
structure KA (K:zP) (N:Addr->Prop) (H:Hp) (l:LS) (ss:List Addr):Prop where
 len:ss.length=l.book.length+1
 at_:∀ i s,ss[i]? = some s->Al K N H s (JG (l.book.take i))
section
variable {K:zP} {N N':Addr->Prop} {H H':Hp} {l:LS} {ss:List Addr}
end
def J3 (F:Addr->Prop) (E L:Addr):Addr->Prop:=fun b=>¬ F b/\b≠E/\b≠L
section
variable {K:zP} {mg:zQ} {F F':Addr->Prop} {E L:Addr} {H H':Hp} {l:LS} {ss:List Addr} {s:Addr} {p:PS}
end
section
variable {o r x:Q2} {n mk k:Int}
end
def FB (p:PS) (n mk:Int):Option Q2->Prop
 | none=>(p.off=none/\mk≠0)\/∃ o,p.off=some o/\Dc p.r.1 n mk=false
 | some x=>(p.off=none/\mk=0/\x=(0,1))\/∃ o k,p.off=some o/\Dc p.r.1 n mk=true/\k%p.r.1=0/\k%n=mk/\k*o.2<=o.1/\(∀ j:Int,1<=j->j<=n->(k+j*p.r.1)%n=mk->o.1<(k+j*p.r.1)*o.2)/\Ah x/\(Bd 2000 x.1/\Bd 2000 x.2)/\x.1*(o.2*p.r.1)=(o.1-k*o.2)*p.r.2*x.2
def FA (p:PS) (k:Int):Prop:=(p.off=none->k=0)/\∀ o,p.off=some o->k%p.r.1=0/\k*o.2<=o.1/\o.1<(k+p.r.1)*o.2
def DV (H:Hp) (v:V) (F:Addr->Prop) (n:Int) (r:Q2) (cs:List Q2):Prop:=(v = .non/\∀ c∈cs,c.2=0)\/∃ (k:Nat) (c:Q2) (a D:Addr) (m u:Int),cs[k]? = some c/\c.2≠0/\(∀ j d,j<k->cs[j]? = some d->d.2=0)/\v = .ref a/\H a=some (.tup [.int (1+(k:Int)),.int c.2,.int m,.ref D]) /\
 (0<=m/\m<r.1/\m*r.2%r.1=c.2)/\(0<=u/\u<r.1/\u*r.2%r.1=c.2)/\H D=some (.lst ((Ec n.toNat (GI r.1 n u n.toNat)).map V.int))/\¬ F D
end My
namespace My
open PySem L2 Mt
def IC:Nat->(List Value->Prop)->Prop
 | 0,P=>P []
 | n+1,P=>∀ x,IC n fun l=>P (x::l)
theorem KC:∀ {n:Nat} {P:List Value->Prop},IC n P->∀ us:List Value,us.length=n->P us
 | 0,_,h,[],_=>h
 | n+1,P,h,x::us,e=>KC (n:=n) (P:=fun l=>P (x::l)) (h x) us (Nat.succ.inj e)
def Fh (nm qual:Str) (st:Stmt) (ps:List Str):Prop:=∀ (kV doc pm:Value) (an:Option Addr) (cdv ct:Value),IC ps.length fun us=>bindArgs (PySem.W.fnOf nm qual (DJ st) (CD st) (qA st) .none kV doc pm an cdv ct) ⟨us,[]⟩=pure (ps.zip us)
theorem Fh.all {nm qual:Str} {st:Stmt} {ps:List Str} (b:Fh nm qual st ps) (kV doc pm:Value) (an:Option Addr) (cdv ct:Value) (us:List Value) (e:us.length=ps.length):bindArgs (PySem.W.fnOf nm qual (DJ st) (CD st) (qA st) .none kV doc pm an cdv ct) ⟨us,[]⟩=pure (ps.zip us):=KC (b kV doc pm an cdv ct) us e
section
variable {K:zP} {mg:zQ} {h:Heap} {nm qual:Str} {st:Stmt} {ps:List Str} {f C B:Addr} {cv bv:Addr} {oc:Value} {od an:Option Addr} {osl:Array (Option Value)} {kV doc pm cdv ct:Value}
theorem Cn {g:Prop} (X:K.In h) (G:h.Ns mainGlobals mg) (a:PySem.W.nsIn K mainGlobals nm=some (some (.ref C))) (k:AA mg nm=C/\mg nm=some (.ref (AA mg nm))->g):g:=by
 have e:=PySem.W.mg_of X G a;have c:=PZ e;exact k ⟨c,by rw [c];exact e⟩
theorem GM (X:K.In h) (G:h.Ns mainGlobals mg) (a:PySem.W.nsIn K mainGlobals nm=some (some (.ref f))) (l:K.lookup f=some ⟨oc,od,.func (PySem.W.fnOf nm nm (DJ st) (CD st) (qA st) .none kV doc pm an cdv ct),osl⟩) (c:PySem.W.codeIn K cdv nm=true) (k:PySem.W.keepIn K (.ref f)=true)
  (b:Fh nm nm st ps):AV K mg nm st ps:=⟨_,_,EZ l c k,PySem.W.mg_of X G a,(EZ (st:=st) l c k).binds b.all⟩
theorem Ju (e:cv=C) (a:PySem.W.findIn K (.ref C) nm=some (some (.ref f))) (i:PySem.W.isFn K (.ref f)=true) (l:K.lookup f=some ⟨oc,od,.func (PySem.W.fnOf nm qual (DJ st) (CD st) (qA st) .none kV doc pm an cdv ct),osl⟩) (c:PySem.W.codeIn K cdv qual=true) (k:PySem.W.keepIn K (.ref f)=true)
  (b:Fh nm qual st ps):zJ K cv nm qual st ps:=by subst e;exact ⟨_,_,EZ l c k,⟨a,i,k⟩,(EZ (st:=st) l c k).binds b.all⟩
theorem Jt (e:cv=C) (mk:PySem.W.makesIn K C=true) (kc:PySem.W.keepIn K (.ref C)=true) (a:PySem.W.findIn K (.ref C) "__init__" = some (some (.ref f))) (i:PySem.W.isFn K (.ref f)=true) (l:K.lookup f=some ⟨oc,od,.func (PySem.W.fnOf "__init__" qual (DJ st) (CD st) (qA st) .none kV doc pm an cdv ct),osl⟩) (c:PySem.W.codeIn K cdv qual=true) (k:PySem.W.keepIn K (.ref f)=true)
  (b:Fh "__init__" qual st ps):GO K cv qual st ps:=by subst e;exact ⟨_,_,EZ l c k,⟨mk,a,i,kc⟩,(EZ (st:=st) l c k).binds b.all⟩
theorem cK {z:Int} {tk:Tok} (X:K.In h) (G:h.Ns mainGlobals mg) (a:PySem.W.nsIn K mainGlobals nm=some (some (.int z tk))):∃ u,mg nm=some u/\AU (.int z) u:=⟨_,PySem.W.mg_of X G a,_,rfl⟩
theorem cN {x y:Int} {t u:Tok} {n:Nat} (e:cv=C) (l:K.lookup C=some ⟨.type "tuple",od,.seq #[.int x t,.int y u] n,osl⟩):AH K (fun _=>none) cv [.int x,.int y]:=by subst e;exact aN l (by exact My.AL) (.cons ⟨_,rfl⟩ (.cons ⟨_,rfl⟩ .nil))
theorem cH (e:cv=C) (p:PySem.W.plainGet K C Str.empty=true) (d:PySem.W.hasDictIn K C=true) (o:PySem.W.plainOver K C=true) (s:PySem.W.findIn K (.ref C) "__setattr__" = some (some (.builtin "object.__setattr__"))):CI K cv:=by subst e;exact ⟨p,d,o,s⟩
theorem cM (e:cv=C) (n:PySem.W.findIn K (.ref C) nm=some none):BJ K cv nm:=by subst e;exact n
theorem cO (e:cv=C) (x:PySem.W.excIn K C Hf "ValueError.__new__" = true):Az K cv:=by subst e;exact x
theorem cJ {b:Bool} (e:cv=C) (e':bv=B) (m:PySem.W.mroIn K C (.ref B)=some b):PySem.W.mroIn K cv (.ref bv)=some b:=by subst e e';exact m
theorem cG (e:cv=C) (a:PySem.W.findIn K (.ref C) "__getattribute__" = some (some (.builtin "BaseException.__getattribute__"))) (n:PySem.W.findIn K (.ref C) "__getattr__" = some none) (x:PySem.W.mroIn K C (.type "BaseException")=some true) (b:PySem.W.findIn K (.ref C) "__class__" = some (some (.builtin "object.__class__"))) (d:PySem.W.specialIn K (.builtin "object.__class__") "__get__" = some (some (.builtin "getset_descriptor.__get__"))) (g:PySem.W.takesIn K (.builtin "object.__class__")=some true) (o:PySem.W.mroIn K C (.type "object")=some true):CJ K cv:=by subst e;exact ⟨a,n,x,b,d,g,o⟩
theorem cI {b:Bool} (e:cv=C) (e':bv=B) (x:PySem.W.excIn K B Hf "ValueError.__new__" = true) (m:PySem.W.mroIn K C (.ref B)=some b):PySem.W.kitOne K (.ref cv) (.ref bv)=some b:=by subst e e';exact Vl x m
end
end My
namespace My
open PySem L2 Mt
theorem aK {f:Int} {n k:Nat}:∃ m,m<=n/\m<=k/\AY (BN f n) none (some (k:Int))=BN f m:=by
 refine ⟨min k n,Nat.min_le_right _ _,Nat.min_le_left _ _,?_⟩;unfold AY HT.sIx;simp only [aL];rw [List.drop_zero];have e:(BN f n).take (min k n)=BN f (min k n):=by
  unfold BN;rw [← List.map_take,List.take_range];congr 2;lia
 rw [← e];congr 1
structure c8 (K:zP) (mg:zQ) (x st E a W:Addr) (ns ws:List Int) (n:Int) (l ms mb:LS) (F:Addr->Prop) (H:Hp) (ss us:List Addr):Prop where
 R:Aa K mg H x l F
 oS:Ob F H st (.lst (ss.map V.ref))
 oE:Ob F H E (.lst (us.map V.ref))
 ne:st≠E
 Sk:KA K (J3 F E st) H ms ss
 B:BT K H mb.book us
 hO:Bu K F H a (ns.map V.int)
 hW:Bj F H W ws
 aS:a≠st\/∀ H',AF K H' a (ns.map V.int)
 aE:a≠E\/∀ H',AF K H' a (ns.map V.int)
 wS:W≠st
 wE:W≠E
section
variable {K:zP} {mg:zQ} {x st E a W:Addr} {ns ws:List Int} {n:Int} {l l' ms mb:LS} {F F':Addr->Prop} {H H':Hp} {ss us:List Addr}
end
theorem Sb {p q a c:Int} (co:Int.gcd p q=1) (h:a*q%p=c*q%p):(a-c)%p=0:=by
 have h1:(a*q-c*q)%p=0:=Int.emod_eq_emod_iff_emod_sub_eq_zero.mp h;rw [← Int.sub_mul] at h1;exact Int.emod_eq_zero_of_dvd (FJ co (Int.dvd_of_emod_eq_zero h1))
end My
namespace L2
open PySem PySem.Spec PyProof.Rows
section
variable {X:Cx} {a:Expr} {ta:TE}
end
def W6:V->List V->Hp->VK->Prop:=fun x vs H Q=>∃ sep D ys,x = .str sep/\vs=[.ref D]/\H D=some (.lst (ys.map V.str))/\(ys.map (·.length)).sum+ys.length*sep.length<=16777216/\Q (.str (Txt.join sep ys)) H
theorem Od:∀ {ys:List Str} {us:List Value},AW (ys.map V.str) us->StrsAre us ys
 | [],_,.nil=>.nil
 | y::ys,_,.cons r t=>by
  obtain ⟨tk,rfl⟩:=r;exact .cons y tk (Od t)
theorem WC {X:Cx}:J2 X "str.join" W6:=by
 intro pins s σ H x vs v us Q I rx rv h;obtain ⟨sep,D,ys,rfl,rfl,hD,hz,q⟩:=h;obtain ⟨tk,rfl⟩:=rx;obtain ⟨u,rfl,ru⟩:=rv.one;cases (show u=Value.ref D from ru);obtain ⟨z,its,n,r,hl,e⟩:=I.lstM hD;exact join_list ⟨_,e,rfl,n,rfl⟩ (by simpa using Od r) hz fun t' k=>⟨.str _,H,I.tok _,⟨_,rfl⟩,q⟩
theorem FF {X:Cx} {K:zP} (h:X.K=K):BO X (.builtin "isinstance") (Ln K):=h ▸ Pi
end L2
namespace My
open PySem L2 Mt
theorem IE {xs:List V} {i:Int} (h0:0<=i) (h1:i<(xs.length:Int)):∃ v,v∈xs/\A1 xs i=some v:=by
 obtain ⟨j,rfl⟩:=Int.eq_ofNat_of_zero_le h0;have hj:j<xs.length:=by lia
 exact ⟨xs[j],List.getElem_mem hj,Cy (List.getElem?_eq_getElem hj)⟩
theorem XZ {K:zP} {H:Hp} {xs:List V} (h:∀ v∈xs,BV v=true):∀ (j:Nat) a b,xs[j]? = some a->xs[j]? = some b->Fl K H 3 a b:=by
 intro j a b h1 h2;rw [h1] at h2;cases h2;exact .inl ⟨rfl,h a (List.mem_of_getElem? h1)⟩
theorem Rv {x y:Str}:∀ v∈[V.str x,V.str y],BV v=true:=by
 intro v hv;simp only [List.mem_cons,List.not_mem_nil,or_false] at hv;rcases hv with rfl|rfl <;> rfl
noncomputable def Bf:List String:=["UnknownWheel","NoTrain","WrongNut","BadNumber","NoMeeting","BookFull"]
theorem K4 {l:LS} {q:Req} {x:String} (h:AZ l q=some x):x∈Bf:=by
 unfold AZ at h;unfold Bf;by_cases c:q.known l=false
 ·rw [if_pos c] at h;cases h;simp
 rw [if_neg c] at h;clear c;by_cases c:q.has l=false
 ·rw [if_pos c] at h;cases h;simp
 rw [if_neg c] at h;clear c;by_cases c:q.wrong l.ps=true
 ·rw [if_pos c] at h;cases h;simp
 rw [if_neg c] at h;clear c;by_cases c:q.bad l.ps=true
 ·rw [if_pos c] at h;cases h;simp
 rw [if_neg c] at h;clear c;by_cases c:q.meets l=false
 ·rw [if_pos c] at h;cases h;simp
 rw [if_neg c] at h;clear c;by_cases c:100<=l.book.length
 ·rw [if_pos c] at h;cases h;simp
 rw [if_neg c] at h;clear c;cases h
end My
namespace L2
open PySem PySem.Spec PyProof.Rows
theorem Pw {K:zP} {a:Addr} {xs:List V} {tt:TT} {te:TE} {σ:St} {H:Hp} {Q:VK} {D:Addr} (Pv:Nat->Hp->List V->Prop) (h0:Pv 0 (AC H D (.lst [])) []) (hl:∀ i H2 ys,Pv i H2 ys->AH K H2 a xs/\H2 D=some (.lst ys))
  (hs:∀ i x H2 ys (kk:Hp->List V->Prop),(∀ H' ys',Pv (i+1) H' ys'->kk H' ys')->xs[i]? = some x->Pv i H2 ys->tt (some x::σ) H2 fun b H4 =>
   if b=true then te (some x::σ) H4 fun v H5=>H5 D=some (.lst ys)/\ys.length<sizeLine/\kk (AC H5 D (.lst (ys++[v]))) (ys++[v]) else kk H4 ys)
  (hd:∀ H2 ys,Pv xs.length H2 ys->Q (.ref D) H2) :
  ∃ W:Nat->Nat->Hp->List V->Prop,(∃ m,W 0 m (AC H D (.lst [])) [])/\∀ i m H2 ys,W i m H2 ys->H2 D=some (.lst ys)/\(((Ct K a).stop i H2/\Q (.ref D) H2)\/((Ct K a).go i H2/\∀ x H3,(Ct K a).yld i H2 x H3->tt (some x::σ) H3 fun b H4 =>
   if b=true then te (some x::σ) H4 fun v H5=>H5 D=some (.lst ys)/\ys.length<sizeLine/\∃ m',m'<m/\W (i+1) m' (AC H5 D (.lst (ys++[v]))) (ys++[v]) else ∃ m',m'<m/\W (i+1) m' H4 ys)):=by
 refine ⟨fun i m H2 ys=>m=xs.length-i/\i<=xs.length/\Pv i H2 ys,⟨xs.length,by simp,Nat.zero_le _,h0⟩,?_⟩
 rintro i m H2 ys ⟨rfl,hi,p⟩
 obtain ⟨h1,h2⟩:=hl i H2 ys p;refine ⟨h2,?_⟩;by_cases hlt:i<xs.length
 ·refine .inr ⟨⟨xs,xs[i],h1,by simp [hlt]⟩,fun x H3 y=>?_⟩
  obtain ⟨e,y⟩:=y;subst e;exact hs i x H3 ys (fun H' ys'=>∃ m',m'<xs.length-i/\m'=xs.length-(i+1)/\i+1<=xs.length/\Pv (i+1) H' ys') (fun H' ys' p'=>⟨xs.length-(i+1),by lia,rfl,hlt,p'⟩) (y xs h1) p
 ·have e:i=xs.length:=by lia
  subst e;exact .inl ⟨⟨xs,h1,Nat.le_refl _⟩,hd H2 ys p⟩
def Jz (J:It) (tt:TT) (te:TE) (σ:St) (H:Hp) (Qd:Addr->Hp->Prop):Prop:=∀ D,H D=none->∃ W:Nat->Nat->Hp->List V->Prop,(∃ m,W 0 m (AC H D (.lst [])) []) /\
 ∀ i m H2 ys,W i m H2 ys->H2 D=some (.lst ys)/\((J.stop i H2/\Qd D H2)\/(J.go i H2/\∀ x H3,J.yld i H2 x H3->tt (some x::σ) H3 fun b H4 =>
  if b=true then te (some x::σ) H4 fun v H5=>H5 D=some (.lst ys)/\ys.length<sizeLine/\∃ m',m'<m/\W (i+1) m' (AC H5 D (.lst (ys++[v]))) (ys++[v])
  else ∃ m',m'<m/\W (i+1) m' H4 ys))
theorem Pq {K:zP} {a:Addr} {xs:List V} {tt:TT} {te:TE} {σ:St} {H:Hp} {Qd:Addr->Hp->Prop} (Pv:Addr->Nat->Hp->List V->Prop) (hA:BB K H a xs) (h0:∀ D,H D=none->Pv D 0 (AC H D (.lst [])) []) (hk:∀ D,H D=none->∀ i H2 ys,Pv D i H2 ys->AE H H2/\H2 D=some (.lst ys))
  (hs:∀ D,H D=none->∀ i x H2 ys (kk:Hp->List V->Prop),(∀ H' ys',Pv D (i+1) H' ys'->kk H' ys')->xs[i]? = some x->Pv D i H2 ys->tt (some x::σ) H2 fun b H4 =>
   if b=true then te (some x::σ) H4 fun v H5=>H5 D=some (.lst ys)/\ys.length<sizeLine/\kk (AC H5 D (.lst (ys++[v]))) (ys++[v]) else kk H4 ys)
  (hd:∀ D,H D=none->∀ H2 ys,Pv D xs.length H2 ys->Qd D H2):((∃ ys,AF K H a ys)/\Jz (CC K a) tt te σ H Qd)\/((∃ ys,AH K H a ys)/\Jz (Ct K a) tt te σ H Qd):=by
 rcases hA with h|h
 ·exact .inl ⟨⟨_,h⟩,fun D hD=>IK (xs:=xs) (Q:=fun _ H=>Qd D H) (Pv D) (h0 D hD) (fun i H2 ys p=>⟨(hk D hD i H2 ys p).1.seq h,(hk D hD i H2 ys p).2⟩) (hs D hD) (hd D hD)⟩
 ·exact .inr ⟨⟨_,h⟩,fun D hD=>Pw (xs:=xs) (Q:=fun _ H=>Qd D H) (Pv D) (h0 D hD) (fun i H2 ys p=>⟨(hk D hD i H2 ys p).1.tup h,(hk D hD i H2 ys p).2⟩) (hs D hD) (hd D hD)⟩
theorem WT {X:Cx} (hu:X.A.units+4<cLine):A6 X (compareOp .NotEq) (fun x y H Q=>HJ X.K true x y H Q\/HG X.K true x y H Q):=by
 intro pins s σ H x y u v Q I rx ry h;rcases h with h|h
 ·exact WR hu pins s σ H x y u v Q I rx ry h
 ·exact WS hu pins s σ H x y u v Q I rx ry h
end L2
namespace My
open PySem L2 Mt
noncomputable def LS.pre (l:LS) (i:Nat):LS:={ l with book:=l.book.take i }
end My
namespace L2
open PySem PySem.Spec PyProof.Rows PySem.SeqAt
def CY (K:zP) (H:Hp):Nat->V->V->Prop
 | 0,x,y=>x=y/\BV x=true
 | n+1,x,y=>(x=y/\BV x=true)\/(∃ p q xs ys,x = .ref p/\y = .ref q/\AH K H p xs/\AH K H q ys/\xs.length=ys.length/\∀ (j:Nat) a b,xs[j]? = some a->ys[j]? = some b->CY K H n a b) \/
  ∃ p q xs ys,x = .ref p/\y = .ref q/\AF K H p xs/\AF K H q ys/\xs.length=ys.length/\∀ (j:Nat) a b,xs[j]? = some a->ys[j]? = some b->CY K H n a b
section
variable {X:Cx} {pins:zR} {σ:St} {H:Hp} {s:Shared}
theorem JW (I:AD X pins σ H s):∀ (n:Nat) {x y:V} {u v:Value} {A:Around},A.units+n<cLine->CY X.K H n x y->AU x u->AU y v->EqAt A s u v true
 | 0,x,y,u,v,A,_,h,ru,rv=>by
  obtain ⟨rfl,f⟩:=h;have:=Fu (A:=A) (s:=s) ru rv f f
  rwa [Gc f] at this
 | n+1,x,y,u,v,A,hu,h,ru,rv=>by
  rcases h with ⟨rfl,f⟩|⟨p,q,xs,ys,rfl,rfl,hp,hq,hl,he⟩|⟨p,q,xs,ys,rfl,rfl,hp,hq,hl,he⟩
  ·have:=Fu (A:=A) (s:=s) ru rv f f
   rwa [Gc f] at this
  ·cases (show u=Value.ref p from ru)
   cases (show v=Value.ref q from rv);by_cases e:p=q
   ·subst e;exact EqAt.same _
   ·obtain ⟨us,r1,t1,_⟩:=I.tuple hp
    obtain ⟨vs,r2,t2,_⟩:=I.tuple hq;have l1:=r1.length;have l2:=r2.length;refine EqAt.of_refs e ?_;have r:=RcAt.tuples (A:=A) (s:=s) (e:=fun _=>true) t1 t2 (Nat.lt_of_le_of_lt (Nat.le_add_right _ _) hu) fun j h1 h2=>by
     have h1':j<us.length:=by simpa using h1
     have h2':j<vs.length:=by simpa using h2
     simp only [List.getElem_toArray];have e1:xs[j]? = some xs[j]:=List.getElem?_eq_getElem (by lia)
     have e2:ys[j]? = some ys[j]:=List.getElem?_eq_getElem (by lia)
     obtain ⟨z1,q1,w1⟩:=r1.get e1;obtain ⟨z2,q2,w2⟩:=r2.get e2;rw [List.getElem?_eq_getElem h1'] at q1;rw [List.getElem?_eq_getElem h2'] at q2;cases q1;cases q2;exact JW I n (A:=A.in1) (by show A.units+1+n<cLine;lia) (he j _ _ e1 e2) w1 w2
    rw [EU] at r;have z:(us.toArray.size==vs.toArray.size)=true:=by simp;lia
    rw [z] at r;exact r
  ·cases (show u=Value.ref p from ru)
   cases (show v=Value.ref q from rv);by_cases e:p=q
   ·subst e;exact EqAt.same _
   ·obtain ⟨us,r1,t1,_⟩:=I.list hp
    obtain ⟨vs,r2,t2,_⟩:=I.list hq;have l1:=r1.length;have l2:=r2.length;refine EqAt.of_refs e ?_;have r:=RcAt.lists (A:=A) (s:=s) (e:=fun _=>true) t1.isList t2.isList (by simp;lia) (Nat.lt_of_le_of_lt (Nat.le_add_right _ _) hu) fun j h1 h2=>by
     have h1':j<us.length:=by simpa using h1
     have h2':j<vs.length:=by simpa using h2
     simp only [List.getElem_toArray];have e1:xs[j]? = some xs[j]:=List.getElem?_eq_getElem (by lia)
     have e2:ys[j]? = some ys[j]:=List.getElem?_eq_getElem (by lia)
     obtain ⟨z1,q1,w1⟩:=r1.get e1;obtain ⟨z2,q2,w2⟩:=r2.get e2;rw [List.getElem?_eq_getElem h1'] at q1;rw [List.getElem?_eq_getElem h2'] at q2;cases q1;cases q2;exact JW I n (A:=A.in1) (by show A.units+1+n<cLine;lia) (he j _ _ e1 e2) w1 w2
    rw [EU] at r;exact r
def XF (K:zP) (neg:Bool):R2:=fun x y H Q=>∃ p q xs ys,x = .ref p/\y = .ref q/\AF K H p xs/\AF K H q ys/\xs.length=ys.length/\(∀ (j:Nat) a b,xs[j]? = some a->ys[j]? = some b->CY K H 3 a b)/\Q (.bl (!neg)) H
theorem WQ (hu:X.A.units+4<cLine):A6 X (compareOp .Eq) (XF X.K false):=by
 intro pins s σ H x y u v Q I ru rv h;obtain ⟨p,q,xs,ys,rfl,rfl,hp,hq,hl,he,k⟩:=h;cases (show u=Value.ref p from ru);cases (show v=Value.ref q from rv);obtain ⟨us,r1,t1,_⟩:=I.list hp;obtain ⟨vs,r2,t2,_⟩:=I.list hq;have l1:=r1.length;have l2:=r2.length;refine eq_listAt (e:=fun _=>true) t1.isList t2.isList (by simp;lia) (by lia) (fun j h1 h2=>?_) ?_
 ·have h1':j<us.length:=by simpa using h1
  have h2':j<vs.length:=by simpa using h2
  simp only [List.getElem_toArray];have e1:xs[j]? = some xs[j]:=List.getElem?_eq_getElem (by lia)
  have e2:ys[j]? = some ys[j]:=List.getElem?_eq_getElem (by lia)
  obtain ⟨z1,q1,w1⟩:=r1.get e1;obtain ⟨z2,q2,w2⟩:=r2.get e2;rw [List.getElem?_eq_getElem h1'] at q1;rw [List.getElem?_eq_getElem h2'] at q2;cases q1;cases q2;exact JW I 3 (A:=X.A.in1) (by show X.A.units+1+3<cLine;lia) (he j _ _ e1 e2) w1 w2
 ·rw [EU]
  exact ⟨.bl _,H,I,rfl,k⟩
end
end L2
namespace My
open PySem L2 Mt
section
variable {K:zP} {H:Hp} {n:Nat}
theorem XX {p q:Addr} {ws:List Int} (ha:AH K H p (ws.map V.int)) (hb:AH K H q (ws.map V.int)):CY K H (n+1) (.ref p) (.ref q):=by
 refine .inr (.inl ⟨p,q,_,_,rfl,rfl,ha,hb,rfl,fun j a b h1 h2=>?_⟩);rw [h1] at h2;cases h2;obtain ⟨i,_,rfl⟩:=List.mem_map.mp (List.mem_of_getElem? h1);cases n with
 | zero=>exact ⟨rfl,rfl⟩
 | succ n=>exact .inl ⟨rfl,rfl⟩
theorem Dr {v:V} (h:BV v=true):CY K H n v v:=by
 cases n with
 | zero=>exact ⟨rfl,h⟩
 | succ n=>exact .inl ⟨rfl,h⟩
theorem N2 {p q:Addr} {c:Q2} (ha:AO K H p c) (hb:AO K H q c):CY K H (n+1) (.ref p) (.ref q):=XX (ws:=[c.1,c.2]) ha.sq hb.sq
theorem XW {v w:V} {o:Option Q2} (ha:Ay K H v o) (hb:Ay K H w o):CY K H (n+1) v w:=by
 cases o with
 | none =>
  cases (show v = .non from ha);cases (show w = .non from hb);exact Dr rfl
 | some c =>
  obtain ⟨a,rfl,h1⟩:=ha;obtain ⟨b,rfl,h2⟩:=hb;exact N2 h1 h2
theorem LY {p q m m' c:Int} (co:Int.gcd p q=1) (h:0<=m/\m<p/\m*q%p=c) (h':0<=m'/\m'<p/\m'*q%p=c):m=m':=by
 have g:=Sb (p:=p) (q:=q) (a:=m) (c:=m') co (h.2.2.trans h'.2.2.symm);obtain ⟨k,hk⟩:=Int.dvd_of_emod_eq_zero g;have k0:k=0:=by
  rcases Int.lt_trichotomy k 0 with z|z|z
  ·have:p*k<=p*(-1):=Int.mul_le_mul_of_nonneg_left (by lia) (by lia)
   lia
  ·exact z
  ·have:p*1<=p*k:=Int.mul_le_mul_of_nonneg_left (by lia) (by lia)
   lia
 rw [k0,Int.mul_zero] at hk;lia
theorem XY {v w:V} {F F':Addr->Prop} {nt:Int} {r:Q2} {cs:List Q2} (co:Int.gcd r.1 r.2=1) (ha:DV H v F nt r cs) (hb:DV H w F' nt r cs):CY K H (n+2) v w:=by
 rcases ha with ⟨rfl,z⟩|⟨k,c,a,D,m,u,h1,h2,h3,rfl,h4,h5,h6,h7,_⟩
 ·rcases hb with ⟨rfl,_⟩|⟨k',c',a',D',m',u',h1',h2',_⟩
  ·exact Dr rfl
  ·exact absurd (z c' (List.mem_of_getElem? h1')) h2'
 ·rcases hb with ⟨rfl,z⟩|⟨k',c',a',D',m',u',h1',h2',h3',rfl,h4',h5',h6',h7',_⟩
  ·exact absurd (z c (List.mem_of_getElem? h1)) h2
  ·have ek:k=k':=by
    rcases Nat.lt_trichotomy k k' with z|z|z
    ·exact absurd (h3' k c z h1) h2
    ·exact z
    ·exact absurd (h3 k' c' z h1') h2'
   subst ek;rw [h1] at h1';cases h1';obtain rfl:=LY co h5 h5';obtain rfl:=LY co h6 h6';refine .inr (.inl ⟨a,a',_,_,rfl,rfl,AH.of h4,AH.of h4',rfl,fun j x y e1 e2=>?_⟩)
   match j,e1,e2 with
   | 0,e1,e2=>cases e1;cases e2;exact Dr rfl
   | 1,e1,e2=>cases e1;cases e2;exact Dr rfl
   | 2,e1,e2=>cases e1;cases e2;exact Dr rfl
   | 3,e1,e2 =>
    cases e1;cases e2;refine .inr (.inr ⟨D,D',_,_,rfl,rfl,AF.of h7,AF.of h7',rfl,fun j x y e1 e2=>?_⟩);rw [e1] at e2;cases e2;obtain ⟨i,_,rfl⟩:=List.mem_map.mp (List.mem_of_getElem? e1);exact Dr rfl
end
end My
namespace My
open PySem L2 Mt
theorem BU.fit {K:zP} {F F':Addr->Prop} {H H':Hp} {v:V} {q:Req} (h:BU K H v q) (n:∀ t,v = .ref t->¬ F t) (f:AS F F' H H'):BU K H' v q:=by
 cases q with
 | mount ts=>obtain ⟨t,e,h,h2⟩:=h;exact ⟨t,e,h.elim (fun h=>.inl (f.keep _ _ h (n t e))) (fun h=>.inr (h.tups f.tup)),h2⟩
 | turn x y=>obtain ⟨t,e,h,h2⟩:=h;exact ⟨t,e,h.tups f.tup,h2⟩
 | move x y=>obtain ⟨t,e,h,h2⟩:=h;exact ⟨t,e,h.tups f.tup,h2⟩
 | cut x y=>obtain ⟨t,e,h,h2⟩:=h;exact ⟨t,e,h.tups f.tup,h2⟩
 | wait=>exact h
 | close=>exact h
 | opn=>exact h
theorem Yk {x:String} (h:x∈Bf):Str.ofString x≠Str.ofString "good":=by
 simp only [Bf,List.mem_cons,List.not_mem_nil,or_false] at h;rcases h with rfl|rfl|rfl|rfl|rfl|rfl <;> decide +kernel
structure dD (K:zP) (mg:zQ) (x a W D E:Addr) (ns ws:List Int) (nm:Nat) (l mb:LS) (F:Addr->Prop) (H:Hp) (us:List Addr):Prop where
 R:Aa K mg H x l F
 oE:Ob F H E (.lst (us.map V.ref))
 B:BT K H mb.book us
 hO:Bu K F H a (ns.map V.int)
 hW:Bj F H W ws
 oD:Ob F H D (.lst (BN 6 nm))
 aE:a≠E\/∀ H',AF K H' a (ns.map V.int)
 wE:W≠E
 dE:D≠E
section
variable {K:zP} {mg:zQ} {x a W D E:Addr} {ns ws:List Int} {nm:Nat} {l l' mb:LS} {F F':Addr->Prop} {H H':Hp} {us:List Addr}
end
end My
namespace L2
open PySem PySem.Spec PyProof.Rows
theorem Kc {K:zP} {a:Addr} {xs:List V} {tt:TT} {te:TE} {σ:St} {H:Hp} {Qd:Hp->Prop} {D:Addr} (Pv:Nat->Hp->List V->Prop) (h0:Pv 0 (AC H D (.lst [])) []) (hl:∀ i H2 ys,Pv i H2 ys->AF K H2 a xs/\H2 D=some (.lst ys))
  (hs:∀ i x H2 ys (kk:Hp->List V->Prop),(∀ H' ys',Pv (i+1) H' ys'->kk H' ys')->xs[i]? = some x->Pv i H2 ys->tt (some x::σ) H2 fun b H4 =>
   if b=true then te (some x::σ) H4 fun v H5=>H5 D=some (.lst ys)/\ys.length<sizeLine/\kk (AC H5 D (.lst (ys++[v]))) (ys++[v]) else kk H4 ys)
  (hd:∀ H2 ys,Pv xs.length H2 ys->Qd H2) :
  ∃ W:Nat->Nat->Hp->List V->Prop,(∃ m,W 0 m (AC H D (.lst [])) [])/\∀ i m H2 ys,W i m H2 ys->H2 D=some (.lst ys)/\(((CC K a).stop i H2/\Qd H2)\/((CC K a).go i H2/\∀ x H3,(CC K a).yld i H2 x H3->tt (some x::σ) H3 fun b H4 =>
   if b=true then te (some x::σ) H4 fun v H5=>H5 D=some (.lst ys)/\ys.length<sizeLine/\∃ m',m'<m/\W (i+1) m' (AC H5 D (.lst (ys++[v]))) (ys++[v]) else ∃ m',m'<m/\W (i+1) m' H4 ys)) :=
 IK (Q:=fun _ H=>Qd H) Pv h0 hl hs hd
variable {X:Cx}
end L2
namespace My
open PySem L2 Mt
structure dA (E st:Addr) (F F':Addr->Prop) (H H':Hp):Prop where
 ob:∀ b o,H b=some o->¬ F b->b≠E->b≠st->H' b=some o/\¬ F' b
 tup:Ai H H'
section
variable {K:zP} {mg:zQ} {x st E a W D:Addr} {ns ws:List Int} {n:Int} {l l' ms mb:LS} {F F' F2:Addr->Prop} {H H' H2:Hp} {ss us:List Addr}
end
end My
namespace HT
open PySem PySem.Spec PyProof.Rows L2
variable {prog:Program} {w:World} {A:Around} {E:Value->Shared->Prop} {s:Shared}
theorem getItem_tuple_whole {t sl:Addr} {items:Array Value} {vl vu:Value} {lo hi:Option Int} {Q:Value->Shared->Prop} (ht:IsTup s.heap t items) (hs:s.heap.IsSliceOf sl vl vu .none) (pl:IsPart vl lo) (pu:IsPart vu hi)
  (hw:sIx items.size 0 lo=0/\sIx items.size items.size hi=items.size) (h:Q (.ref t) s):wpAny (model prog w) A (getItem (.ref t) (.ref sl)) Q E s:=by
 obtain ⟨os,hos,hcs,hds⟩:=id hs;have hTs:s.TypeIs (.ref sl) "slice":=⟨os,hos,hcs⟩;unfold getItem
 try with_reducible refine wpAny_holding ?_
 first|refine wpAny_bind (wpAny_pure ?_)|skip
 refine wpAny_bind (wpAny_sequenceKey ht.typeIs (by decide) ?_)
 refine wpAny_bind (wpAny_callSpecial?_slot (name:=Str.ofString "__getitem__") ht.typeIs PyProof.Rows.slot_tuple_getitem
  (wpAny_call_entry PyProof.Rows.slot_tuple_getitem ht.typeIs entry_tuple_getitem ?_ (args_tuple_getitem _ _)))
 show wpAny _ _ (Builtin.Tuple.tupleItemsOf (.ref t)>>=_) _ _ s;refine wpAny_bind (tupleItemsOf_ ht ?_);refine wpAny_bind (wpAny_typeOf hTs ?_);rw [if_pos (by decide)]
 refine wpAny_bind (OZ hs pl pu ?_);have hyes:(((sIx items.size 0 lo:Nat):Int)==0&&(1:Int)==1&&(sIx items.size items.size hi-sIx items.size 0 lo)==items.size)=true:=by
  rw [hw.1,hw.2];simp
 show wpAny _ _ (if (((sIx items.size 0 lo:Nat):Int)==0&&(1:Int)==1&&(sIx items.size items.size hi-sIx items.size 0 lo)==items.size)=true then _ else _) _ _ s
 rw [if_pos hyes];unfold Builtin.Tuple.tupleIsExact;refine wpAny_bind (wpAny_bind (wpAny_typeOf ht.typeIs (wpAny_pure ?_)));show wpAny _ _ (if true=true then _ else _) _ _ s
 rw [if_pos rfl];refine wpAny_bind (wpAny_rule ?_);exact wpAny_pure ⟨_,rfl,wpAny_pure h⟩
end HT
namespace L2
open PySem PySem.Spec PyProof.Rows
variable {X:Cx}
theorem C6 {es es':List Expr} {k:Nat} {p:Pos} {te:TE} {t:TA} (ha:PE X (.Tuple es' k p) te) (hr:PA X es t):PA X (.Tuple es' k p::es) (Jq te t):=pA ha hr (by rfl)
theorem A8 {es:List Expr} {c:Const} {k:Nat} {p:Pos} {te:TE} {t:TA} (ha:PE X (.Constant c k p) te) (hr:PA X es t):PA X (.Constant c k p::es) (Jq te t):=pA ha hr (by rfl)
def XB (K:zP):V->Option Int->Option Int->Hp->VK->Prop:=fun x lo hi H Q=>∃ a xs,x = .ref a/\((AF K H a xs/\∀ p,H p=none->Q (.ref p) (AC H p (.lst (AY xs lo hi))))\/(AH K H a xs /\
 (¬ (HT.sIx xs.length 0 lo=0/\HT.sIx xs.length xs.length hi=xs.length)->∀ p,H p=none->Q (.ref p) (AC H p (.tup (AY xs lo hi))))/\((HT.sIx xs.length 0 lo=0/\HT.sIx xs.length xs.length hi=xs.length)->Q (.ref a) H)))
theorem Jm:GU X (XB X.K):=by
 intro pins s σ H x v vl vu lo hi sl Q I rx hs pl pu h;obtain ⟨a,xs,rfl,h|⟨hx,q1,q2⟩⟩:=h
 ·exact GJ pins s σ H _ v vl vu lo hi sl Q I rx hs pl pu ⟨a,xs,rfl,h⟩
 ·by_cases hw:HT.sIx xs.length 0 lo=0/\HT.sIx xs.length xs.length hi=xs.length
  ·cases rx
   obtain ⟨its,r,ht,hz⟩:=I.tuple hx;have hlen:its.toArray.size=xs.length:=by rw [List.size_toArray];exact r.length.symm
   refine ⟨"tuple",_,PyProof.Rows.slot_tuple_getitem.lookup,ht.typeIs,?_⟩;exact HT.getItem_tuple_whole ht hs pl pu (by rw [hlen];exact hw) ⟨.ref a,H,I,rfl,q2 hw⟩
  ·exact Ym pins s σ H _ v vl vu lo hi sl Q I rx hs pl pu ⟨a,xs,rfl,hx,hw,q1 hw⟩
end L2
namespace My
open PySem L2 Mt
structure PF (l:LS):Prop where
 tu:5*qv l.ps.turned<=((499750+2*(l.book.length:Int):Int):Rat)
 mo:qv l.ps.moved<=((2*(l.book.length:Int):Int):Rat)
inductive Qn:LS->Prop where
 | new {ws:List Int} {n:Int} (g:DH ws n):Qn ⟨ws,n,[]⟩
 | step {l:LS} {q:Req} (h:Qn l) (d:AZ l q=none) (b:PF (l.push q.deed)):Qn (l.push q.deed)
section
variable {l:LS} {ts:List Int}
end
structure cw (K:zP) (mg:zQ) (x a t E st:Addr) (ns ts:List Int) (l:LS) (F0 F:Addr->Prop) (H0 H:Hp) (s:Addr) (us ss:List Addr):Prop where
 R:Aa K mg H x l F
 oE:Ob F H E (.lst (us.map V.ref))
 oS:Ob F H st (.lst (ss.map V.ref))
 ne:st≠E
 Sk:KA K (J3 F E st) H l (ss++[s])
 B:BT K H l.book us
 hO:Bu K F H a (ns.map V.int)
 aS:a≠st\/∀ H',AF K H' a (ns.map V.int)
 aE:a≠E\/∀ H',AF K H' a (ns.map V.int)
 ht:H t=some (.tup (ts.map V.int))
 fr:AS F0 F H0 H
 nE:H0 E=none
 nS:H0 st=none
section
variable {K:zP} {mg:zQ} {x a t E st:Addr} {ns ts:List Int} {l:LS} {F0 F F':Addr->Prop} {H0 H H':Hp} {s:Addr} {us ss:List Addr}
end
structure cr (K:zP) (H:Hp) (rs:List Addr) (qs:List Req):Prop where
 len:rs.length=qs.length
 at_:∀ (i:Nat) (r:Addr),rs[i]? = some r->∃ q wv,qs[i]? = some q/\H r=some (.tup [.str (Req.word q),wv])/\Dy K H wv q
section
variable {K:zP} {H H':Hp} {rs:List Addr} {qs:List Req}
end
end My
namespace L2
open PySem PyProof.Rows
def af (X:Cx) (ss:List Stmt):TS:=fun D σ H=>∃ t,BF X ss t/\t D σ H
theorem Au {X:Cx} {ss:List Stmt}:BF X ss (af X ss):=fun pins s σ H D i h=>by
 obtain ⟨t,p,q⟩:=h;exact p pins s σ H D i q
def ag (X:Cx) (es:List Expr):TA:=fun σ H Q=>∃ t,PA X es t/\t σ H Q
theorem A2 {X:Cx} {es:List Expr}:PA X es (ag X es):=fun pos pins s σ H Q i h=>by
 obtain ⟨t,p,q⟩:=h;exact p pos pins s σ H Q i q
structure dC where
 X:Cx
 ss:List Stmt
 t:TS
 p:BF X ss t
section
variable {CX:CA} {P:Program} {w:World} {K:zP} {mg:zQ} {base:Heap} {N:List Str} {q:Str} {sc:Scope} {f:Addr} {cd:Value} {A:Around} {o:List Env} {s:Shared} {H:Hp} {E:XK}
end
end L2
namespace My
open PySem L2 Mt
local macro_rules|`(tactic|trivial)=>`(tactic|first|exact .inl rfl|exact .inr rfl|exact ⟨rfl,rfl,rfl,by decide +kernel,rfl,by decide +kernel,by decide +kernel⟩)
noncomputable def AK (i:Nat):Stmt:=PySem.Challenge.pw_threadlathe_k42_whole_refusals.main.body.getD i (.Pass ⟨0,0,0,0⟩)
noncomputable abbrev MJ:Stmt:=AK 13
theorem HP:qB ["a","b","rest"] ["a","b"] (qA MJ):=by trivial
noncomputable abbrev MR:Stmt:=AK 14
theorem JX:qB ["top","bottom","divisor"] ["top","bottom"] (qA MR):=by trivial
noncomputable abbrev Md:Stmt:=AK 15
theorem Xs:qB ["a","b"] ["a","b"] (qA Md):=by trivial
noncomputable abbrev MH:Stmt:=AK 16
theorem Xi:qB ["a","b"] ["a","b"] (qA MH):=by trivial
noncomputable abbrev MU:Stmt:=AK 17
theorem Xn:qB ["a","b"] ["a","b"] (qA MU):=by trivial
noncomputable abbrev MV:Stmt:=AK 18
theorem Xo:qB ["a","b"] ["a","b"] (qA MV):=by trivial
noncomputable abbrev MO:Stmt:=AK 19
theorem Xk:qB ["a","b"] ["a","b"] (qA MO):=by trivial
noncomputable abbrev MY:Stmt:=AK 20
theorem Xq:qB ["a","b"] ["a","b"] (qA MY):=by trivial
noncomputable abbrev Me:Stmt:=AK 22
theorem Xt:qB ["ratio"] ["ratio"] (qA Me):=by trivial
noncomputable abbrev MK:Stmt:=AK 23
theorem N6:qB ["ratio","closing","least"] ["ratio","closing"] (qA MK):=by trivial
noncomputable abbrev MN:Stmt:=AK 24
theorem Ck:qB ["number","modulus","rest","factor","new_rest","new_factor","times","old_rest","old_factor"] ["number","modulus"] (qA MN):=by trivial
noncomputable abbrev MQ:Stmt:=AK 25
theorem N7:qB ["ratio","groove","least"] ["ratio","groove"] (qA MQ):=by trivial
noncomputable abbrev MX:Stmt:=AK 27
theorem Xp:qB ["off","teeth"] ["off","teeth"] (qA MX):=by trivial
noncomputable abbrev Mc:Stmt:=AK 28
theorem OA:qB ["ratio","teeth","mark","closing"] ["ratio","teeth","mark"] (qA Mc):=by trivial
noncomputable abbrev MS:Stmt:=AK 29
theorem N8:qB ["ratio","teeth","groove","step"] ["ratio","teeth","groove"] (qA MS):=by trivial
noncomputable abbrev Ma:Stmt:=AK 31
theorem JZ:qB ["ratio","off","start","step","steps","closing"] ["ratio","off","start","step"] (qA Ma):=by trivial
noncomputable abbrev Mb:Stmt:=AK 32
theorem Xr:qB ["ratio","off"] ["ratio","off"] (qA Mb):=by trivial
noncomputable abbrev MI:Stmt:=AK 33
theorem N5:qB ["top","teeth","mark","closing"] ["top","teeth","mark"] (qA MI):=by trivial
noncomputable abbrev MZ:Stmt:=AK 34
theorem JY:qB ["ratio","teeth","off","mark","top","first"] ["ratio","teeth","off","mark"] (qA MZ):=by trivial
noncomputable abbrev MT:Stmt:=AK 36
theorem Xm:qB ["train"] ["train"] (qA MT):=by trivial
noncomputable abbrev MW:Stmt:=AK 37
theorem N9:qB ["train","ratio"] ["train"] (qA MW):=by trivial
noncomputable abbrev MG:Stmt:=AK 40
theorem Xh:qB ["count","amount"] ["count","amount"] (qA MG):=by trivial
noncomputable abbrev MP:Stmt:=AK 44
theorem Xl:qB ["number","least","most"] ["number","least","most"] (qA MP):=by trivial
noncomputable abbrev ML:Stmt:=AK 45
theorem Xj:qB ["wheels"] ["wheels"] (qA ML):=by trivial
noncomputable abbrev ME:Stmt:=AK 46
theorem N4:qB ["wheels","wheel"] ["wheels"] (qA ME):=by trivial
noncomputable abbrev L8:Stmt:=AK 47
theorem Xc:qB ["teeth"] ["teeth"] (qA L8):=by trivial
noncomputable abbrev MA:Stmt:=AK 48
theorem N3:qB ["shop","train","wheel"] ["shop","train"] (qA MA):=by trivial
noncomputable abbrev MF:Stmt:=AK 49
theorem Xg:qB ["train"] ["train"] (qA MF):=by trivial
noncomputable abbrev MB:Stmt:=AK 50
theorem Xd:qB ["piece"] ["piece"] (qA MB):=by trivial
noncomputable abbrev MD:Stmt:=AK 51
theorem Xf:qB ["piece"] ["piece"] (qA MD):=by trivial
noncomputable abbrev MC:Stmt:=AK 52
theorem Xe:qB ["piece"] ["piece"] (qA MC):=by trivial
noncomputable abbrev L0:Stmt:=AK 53
theorem Xa:qB ["fraction"] ["fraction"] (qA L0):=by trivial
noncomputable abbrev L1:Stmt:=AK 54
theorem Xb:qB ["count","amount"] ["count","amount"] (qA L1):=by trivial
noncomputable abbrev Mj:Stmt:=AK 57
theorem Xw:qB ["_law_script","_law_k"] ["_law_script","_law_k"] (qA Mj):=by trivial
noncomputable abbrev Mq:Stmt:=AK 58
theorem OC:qB ["_law_script","_law_k","_law_cell"] ["_law_script","_law_k"] (qA Mq):=by trivial
noncomputable abbrev NN:Stmt:=AK 59
theorem YA:qB ["_law_found"] ["_law_found"] (qA NN):=by trivial
noncomputable abbrev Mr:Stmt:=AK 60
theorem OD:qB ["_law_a","_law_b"] ["_law_a","_law_b"] (qA Mr):=by trivial
noncomputable abbrev NG:Stmt:=AK 61
theorem Eo:qB ["_law_cell","_law_many","_law_made","_law_left","_law_k","_law_tooth"] ["_law_cell","_law_many"] (qA NG):=by trivial
noncomputable abbrev NB:Stmt:=AK 62
theorem Fb:qB ["_law_cell","_law_wheels","_law_many","_law_left","_law_rest","_law_made","_law_k"] ["_law_cell","_law_wheels","_law_many"] (qA NB):=by trivial
noncomputable abbrev ND:Stmt:=AK 63
theorem GG:qB ["_law_train","_law_top","_law_bottom"] ["_law_train"] (qA ND):=by trivial
noncomputable abbrev NE:Stmt:=AK 64
theorem OH:qB ["_law_top","_law_bottom","_law_shared"] ["_law_top","_law_bottom"] (qA NE):=by trivial
noncomputable abbrev Mf:Stmt:=AK 65
theorem Xu:qB ["_law_a","_law_b"] ["_law_a","_law_b"] (qA Mf):=by trivial
noncomputable abbrev Mz:Stmt:=AK 66
theorem X6:qB ["_law_a","_law_b"] ["_law_a","_law_b"] (qA Mz):=by trivial
noncomputable abbrev NH:Stmt:=AK 67
theorem X8:qB ["_law_script","_law_first","_law_least"] ["_law_script","_law_first","_law_least"] (qA NH):=by trivial
noncomputable abbrev Mw:Stmt:=AK 68
theorem X5:qB ["_law_found","_law_due_here"] ["_law_found","_law_due_here"] (qA Mw):=by trivial
noncomputable abbrev Mu:Stmt:=AK 69
theorem OF:qB ["_law_found","_law_due_here","_law_k"] ["_law_found","_law_due_here"] (qA Mu):=by trivial
noncomputable abbrev NF:Stmt:=AK 70
theorem OI:qB ["_law_found","_law_due_here","_law_k"] ["_law_found","_law_due_here"] (qA NF):=by trivial
noncomputable abbrev JR:Stmt:=AK 71
theorem GF:qB ["_law_script","_law_k","_law_cell","_law_far","_law_many","_law_pool"] ["_law_script","_law_k"] (qA JR):=by trivial
noncomputable abbrev Mv:Stmt:=AK 72
theorem OG:qB ["_law_script","_law_wheels"] ["_law_script"] (qA Mv):=by trivial
noncomputable abbrev NK:Stmt:=AK 73
theorem X9:qB ["_law_script"] ["_law_script"] (qA NK):=by trivial
noncomputable abbrev Ms:Stmt:=AK 74
theorem OE:qB ["_law_cell","_law_wheels","_law_many"] ["_law_cell","_law_wheels"] (qA Ms):=by trivial
noncomputable abbrev M9:Stmt:=AK 75
theorem X7:qB ["_law_train","_law_pitch"] ["_law_train","_law_pitch"] (qA M9):=by trivial
noncomputable abbrev NA:Stmt:=AK 76
theorem Jb:qB ["_law_s","_law_top","_law_left"] ["_law_s"] (qA NA):=by trivial
noncomputable abbrev NM:Stmt:=AK 77
theorem Je:qB ["_law_s","_law_turns","_law_came","_law_carried"] ["_law_s","_law_turns"] (qA NM):=by trivial
noncomputable abbrev Mg:Stmt:=AK 78
theorem HQ:qB ["_law_s","_law_word","_law_what","_law_came","_law_closing"] ["_law_s","_law_word","_law_what"] (qA Mg):=by trivial
noncomputable abbrev NL:Stmt:=AK 79
theorem OJ:qB ["_law_before","_law_amount","_law_summed"] ["_law_before","_law_amount"] (qA NL):=by trivial
noncomputable abbrev Ml:Stmt:=AK 80
theorem Xx:qB ["_law_s","_law_word","_law_what"] ["_law_s","_law_word","_law_what"] (qA Ml):=by trivial
noncomputable abbrev JS:Stmt:=AK 81
theorem X0:qB ["_law_s","_law_word","_law_what","_law_wheels","_law_many"] ["_law_s","_law_word","_law_what","_law_wheels","_law_many"] (qA JS):=by trivial
noncomputable abbrev Mp:Stmt:=AK 82
theorem Xz:qB ["_law_lathe","_law_word","_law_what"] ["_law_lathe","_law_word","_law_what"] (qA Mp):=by trivial
noncomputable abbrev JT:Stmt:=AK 83
theorem Fd:qB ["_law_lathe","_law_word","_law_what","_law_told_here","e","_law_names"] ["_law_lathe","_law_word","_law_what"] (qA JT):=by trivial
noncomputable abbrev NI:Stmt:=AK 84
theorem Jd:qB ["_law_found","_law_s","_law_teeth_here","_law_shown"] ["_law_found","_law_s","_law_teeth_here"] (qA NI):=by trivial
noncomputable abbrev NJ:Stmt:=AK 85
theorem Fc:qB ["_law_lathe","_law_s","_law_spun","_law_found","_law_due_here","_law_nut"] ["_law_lathe","_law_s"] (qA NJ):=by trivial
noncomputable abbrev Mn:Stmt:=AK 86
theorem OB:qB ["_law_found","_law_good","_law_k"] ["_law_found","_law_good"] (qA Mn):=by trivial
noncomputable abbrev Mh:Stmt:=AK 87
theorem Xv:qB ["_law_lathe","_law_s","_law_teeth_here","_law_good"] ["_law_lathe","_law_s","_law_teeth_here","_law_good"] (qA Mh):=by trivial
noncomputable abbrev Mo:Stmt:=AK 88
theorem Xy:qB ["_law_word","_law_what"] ["_law_word","_law_what"] (qA Mo):=by trivial
noncomputable abbrev NC:Stmt:=AK 89
theorem Jc:qB ["_law_cell","_law_s","_law_wheels","_law_far","_law_amount"] ["_law_cell","_law_s","_law_wheels"] (qA NC):=by trivial
noncomputable abbrev HM:Stmt:=AK 90
theorem CG:qB ["_law_cell","_law_wheels","_law_two","_law_spare","_law_strange","_law_place","_law_rows_here","_law_bottom","_law_amounts","_law_deeds","_law_word"] ["_law_cell","_law_wheels"] (qA HM):=by trivial
noncomputable abbrev Mm:Stmt:=AK 91
theorem Ja:qB ["_law_lathe","_law_s","_law_row"] ["_law_lathe","_law_s"] (qA Mm):=by trivial
noncomputable abbrev Mi:Stmt:=AK 92
theorem GE:qB ["_law_lathe","_law_s","_law_wheels","_law_cell","_law_many","_law_before","_law_word","_law_what","_law_due_here"] ["_law_lathe","_law_s","_law_wheels","_law_cell","_law_many"] (qA Mi):=by trivial
noncomputable abbrev Fa:Stmt:=AK 93
theorem DB:qB ["_law_script","_law_wheels","_law_teeth_here","_law_lathe","_law_s","_law_good","_law_k","_law_cell","_law_word","_law_what"] ["_law_script"] (qA Fa):=by trivial
noncomputable abbrev NO:Stmt:=qW (AK 11) 0
theorem YB:qB ["self"] ["self"] (qA NO):=by trivial
noncomputable abbrev NP:Stmt:=qW (AK 11) 1
theorem YD:qB ["self","word","what","before"] ["self","word","what","before"] (qA NP):=by trivial
noncomputable abbrev JU:Stmt:=qW (AK 11) 3
theorem YC:qB ["self"] ["self"] (qA JU):=by trivial
noncomputable abbrev Np:Stmt:=qW (AK 41) 0
theorem YT:qB ["self","train"] ["self","train"] (qA Np):=by trivial
noncomputable abbrev N0:Stmt:=qW (AK 41) 1
theorem OT:qB ["self","other"] ["self"] (qA N0):=by trivial
noncomputable abbrev Ny:Stmt:=qW (AK 41) 2
theorem YZ:qB ["self"] ["self"] (qA Ny):=by trivial
noncomputable abbrev Nw:Stmt:=qW (AK 41) 3
theorem OS:qB ["self","carried"] ["self"] (qA Nw):=by trivial
noncomputable abbrev Nv:Stmt:=qW (AK 41) 4
theorem YX:qB ["self"] ["self"] (qA Nv):=by trivial
noncomputable abbrev Nt:Stmt:=qW (AK 41) 5
theorem YV:qB ["self"] ["self"] (qA Nt):=by trivial
noncomputable abbrev Nz:Stmt:=qW (AK 41) 6
theorem Ya:qB ["self","turns"] ["self","turns"] (qA Nz):=by trivial
noncomputable abbrev Nu:Stmt:=qW (AK 41) 7
theorem YW:qB ["self","way"] ["self","way"] (qA Nu):=by trivial
noncomputable abbrev Nq:Stmt:=qW (AK 41) 8
theorem YU:qB ["self"] ["self"] (qA Nq):=by trivial
noncomputable abbrev Nx:Stmt:=qW (AK 41) 9
theorem YY:qB ["self"] ["self"] (qA Nx):=by trivial
noncomputable abbrev Nr:Stmt:=qW (AK 41) 10
theorem OR:qB ["self","turns","closing"] ["self","turns"] (qA Nr):=by trivial
noncomputable abbrev NQ:Stmt:=qW (AK 55) 0
theorem YE:qB ["self","wheels","teeth"] ["self","wheels","teeth"] (qA NQ):=by trivial
noncomputable abbrev NU:Stmt:=qW (AK 55) 1
theorem YG:qB ["self","word","what","after"] ["self","word","what","after"] (qA NU):=by trivial
noncomputable abbrev NV:Stmt:=qW (AK 55) 2
theorem OL:qB ["self","train","mounted"] ["self","train"] (qA NV):=by trivial
noncomputable abbrev Nl:Stmt:=qW (AK 55) 3
theorem OQ:qB ["self","turns","after"] ["self","turns"] (qA Nl):=by trivial
noncomputable abbrev Nn:Stmt:=qW (AK 55) 4
theorem Jh:qB ["self","turns","after"] ["self"] (qA Nn):=by trivial
noncomputable abbrev NS:Stmt:=qW (AK 55) 5
theorem Jf:qB ["self","off","after"] ["self"] (qA NS):=by trivial
noncomputable abbrev Nb:Stmt:=qW (AK 55) 6
theorem ON:qB ["self","after"] ["self"] (qA Nb):=by trivial
noncomputable abbrev NX:Stmt:=qW (AK 55) 7
theorem OM:qB ["self","way","after"] ["self","way"] (qA NX):=by trivial
noncomputable abbrev NT:Stmt:=qW (AK 55) 8
theorem OK:qB ["self","turns","after"] ["self","turns"] (qA NT):=by trivial
noncomputable abbrev Nk:Stmt:=qW (AK 55) 10
theorem YQ:qB ["self"] ["self"] (qA Nk):=by trivial
noncomputable abbrev Nf:Stmt:=qW (AK 55) 11
theorem OO:qB ["self","off"] ["self"] (qA Nf):=by trivial
noncomputable abbrev NW:Stmt:=qW (AK 55) 12
theorem YI:qB ["self"] ["self"] (qA NW):=by trivial
noncomputable abbrev Nd:Stmt:=qW (AK 55) 13
theorem YN:qB ["self"] ["self"] (qA Nd):=by trivial
noncomputable abbrev No:Stmt:=qW (AK 55) 14
theorem YS:qB ["self"] ["self"] (qA No):=by trivial
noncomputable abbrev Ng:Stmt:=qW (AK 55) 15
theorem YO:qB ["self"] ["self"] (qA Ng):=by trivial
noncomputable abbrev NZ:Stmt:=qW (AK 55) 16
theorem YK:qB ["self"] ["self"] (qA NZ):=by trivial
noncomputable abbrev Na:Stmt:=qW (AK 55) 17
theorem YL:qB ["self"] ["self"] (qA Na):=by trivial
noncomputable abbrev Nm:Stmt:=qW (AK 55) 18
theorem YR:qB ["self"] ["self"] (qA Nm):=by trivial
noncomputable abbrev NY:Stmt:=qW (AK 55) 19
theorem YJ:qB ["self"] ["self"] (qA NY):=by trivial
noncomputable abbrev Nc:Stmt:=qW (AK 55) 20
theorem YM:qB ["self"] ["self"] (qA Nc):=by trivial
noncomputable abbrev NR:Stmt:=qW (AK 55) 21
theorem YF:qB ["self"] ["self"] (qA NR):=by trivial
noncomputable abbrev JV:Stmt:=qW (AK 55) 23
theorem YH:qB ["self"] ["self"] (qA JV):=by trivial
noncomputable abbrev Nh:Stmt:=qW (AK 55) 24
theorem OP:qB ["self","meeting"] ["self"] (qA Nh):=by trivial
noncomputable abbrev Ni:Stmt:=qW (AK 55) 25
theorem Jg:qB ["self","mark","off","meeting"] ["self","mark"] (qA Ni):=by trivial
noncomputable abbrev Nj:Stmt:=qW (AK 55) 26
theorem GH:qB ["self","ratio","number","made","groove"] ["self"] (qA Nj):=by trivial
structure Txt (K:zP) (mg:zQ):Prop where
 Sr:AV K mg "greatest_divisor" MJ ["a","b"]
 Sz:AV K mg "least_terms" MR ["top","bottom"]
 TU:AV K mg "sum_of" Md ["a","b"]
 So:AV K mg "difference" MH ["a","b"]
 TC:AV K mg "product" MU ["a","b"]
 TD:AV K mg "quotient" MV ["a","b"]
 Sw:AV K mg "is_less" MO ["a","b"]
 TJ:AV K mg "remainder" MY ["a","b"]
 TV:AV K mg "top_of" Me ["ratio"]
 Ss:AV K mg "groove_of" MK ["ratio","closing"]
 Sv:AV K mg "inverse_of" MN ["number","modulus"]
 Sy:AV K mg "least_closing" MQ ["ratio","groove"]
 TH:AV K mg "reading_of" MX ["off","teeth"]
 TR:AV K mg "spoiling_at" Mc ["ratio","teeth","mark"]
 S6:AV K mg "marks_of" MS ["ratio","teeth","groove"]
 TN:AV K mg "soonest_of" Ma ["ratio","off","start","step"]
 TQ:AV K mg "soonest_safe" Mb ["ratio","off"]
 Sq:AV K mg "first_safe_closing_at" MI ["top","teeth","mark"]
 TK:AV K mg "soonest_at" MZ ["ratio","teeth","off","mark"]
 TB:AV K mg "plain_ratio" MT ["train"]
 TF:AV K mg "ratio_of" MW ["train"]
 Sn:AV K mg "counted" MG ["count","amount"]
 Sx:AV K mg "is_within" MP ["number","least","most"]
 Su:AV K mg "has_two_alike" ML ["wheels"]
 Sl:AV K mg "check_shop" ME ["wheels"]
 Sf:AV K mg "check_dial" L8 ["teeth"]
 Sg:AV K mg "check_known" MA ["shop","train"]
 Sm:AV K mg "check_train" MF ["train"]
 Sh:AV K mg "check_mounted" MB ["piece"]
 Sj:AV K mg "check_nut_open" MD ["piece"]
 Si:AV K mg "check_nut_closed" MC ["piece"]
 Sc:AV K mg "check_bottom" L0 ["fraction"]
 Se:AV K mg "check_count" L1 ["count","amount"]
 Tb:AV K mg "_law_at" Mj ["_law_script","_law_k"]
 Th:AV K mg "_law_draw" Mq ["_law_script","_law_k"]
 T6:AV K mg "_law_whole" NN ["_law_found"]
 Tk:AV K mg "_law_gcd" Mr ["_law_a","_law_b"]
 Ty:AV K mg "_law_shop" NG ["_law_cell","_law_many"]
 Tt:AV K mg "_law_pick" NB ["_law_cell","_law_wheels","_law_many"]
 Tv:AV K mg "_law_ratio" ND ["_law_train"]
 Tw:AV K mg "_law_red" NE ["_law_top","_law_bottom"]
 TW:AV K mg "_law_add" Mf ["_law_a","_law_b"]
 Tp:AV K mg "_law_mul" Mz ["_law_a","_law_b"]
 Tz:AV K mg "_law_span" NH ["_law_script","_law_first","_law_least"]
 To:AV K mg "_law_may" Mw ["_law_found","_law_due_here"]
 Tm:AV K mg "_law_is" Mu ["_law_found","_law_due_here"]
 Tx:AV K mg "_law_rows" NF ["_law_found","_law_due_here"]
 Ta:AV K mg "_law_any_shop" JR ["_law_script","_law_k"]
 Tn:AV K mg "_law_lathe_shop" Mv ["_law_script"]
 T2:AV K mg "_law_teeth" NK ["_law_script"]
 Tl:AV K mg "_law_good_train" Ms ["_law_cell","_law_wheels"]
 Tq:AV K mg "_law_new" M9 ["_law_train","_law_pitch"]
 Ts:AV K mg "_law_off_turns" NA ["_law_s"]
 T5:AV K mg "_law_turned" NM ["_law_s","_law_turns"]
 TX:AV K mg "_law_after" Mg ["_law_s","_law_word","_law_what"]
 T4:AV K mg "_law_too_much" NL ["_law_before","_law_amount"]
 Tc:AV K mg "_law_bad" Ml ["_law_s","_law_word","_law_what"]
 Ti:AV K mg "_law_due" JS ["_law_s","_law_word","_law_what","_law_wheels","_law_many"]
 Tg:AV K mg "_law_do" Mp ["_law_lathe","_law_word","_law_what"]
 T3:AV K mg "_law_told" JT ["_law_lathe","_law_word","_law_what"]
 T0:AV K mg "_law_stand" NI ["_law_found","_law_s","_law_teeth_here"]
 T1:AV K mg "_law_state" NJ ["_law_lathe","_law_s"]
 Te:AV K mg "_law_booked" Mn ["_law_found","_law_good"]
 TY:AV K mg "_law_all" Mh ["_law_lathe","_law_s","_law_teeth_here","_law_good"]
 Tf:AV K mg "_law_booking" Mo ["_law_word","_law_what"]
 Tu:AV K mg "_law_quiet" NC ["_law_cell","_law_s","_law_wheels"]
 Tj:AV K mg "_law_faulty" HM ["_law_cell","_law_wheels"]
 Td:AV K mg "_law_besides" Mm ["_law_lathe","_law_s"]
 TZ:AV K mg "_law_all_refused" Mi ["_law_lathe","_law_s","_law_wheels","_law_cell","_law_many"]
 SH:mg "Book" = some (.ref (AA mg "Book"))
 SM:mg "Piece" = some (.ref (AA mg "Piece"))
 SI:mg "Lathe" = some (.ref (AA mg "Lathe"))
 SJ:mg "LatheError" = some (.ref (AA mg "LatheError"))
 LF:mg "UnknownWheel" = some (.ref (AA mg "UnknownWheel"))
 LE:mg "NoTrain" = some (.ref (AA mg "NoTrain"))
 Id:mg "WrongNut" = some (.ref (AA mg "WrongNut"))
 C3:mg "BadNumber" = some (.ref (AA mg "BadNumber"))
 LD:mg "NoMeeting" = some (.ref (AA mg "NoMeeting"))
 LC:mg "BookFull" = some (.ref (AA mg "BookFull"))
 SL:∃ u,mg "MOST_DEEDS" = some u/\AU (.int 100) u
 Ea:mg "NOUGHT" = some (.ref (AA mg "NOUGHT"))
 GK:AH K (fun _=>none) (AA mg "NOUGHT") [.int 0,.int 1]
 SK:mg "MOST_COUNTED" = some (.ref (AA mg "MOST_COUNTED"))
 bN:AH K (fun _=>none) (AA mg "MOST_COUNTED") [.int 100000,.int 1]
 FI:CI K (AA mg "Book")
 Gu:BJ K (AA mg "Book") "entries"
 cP:CI K (AA mg "Piece")
 Dh:BJ K (AA mg "Piece") "closed"
 Di:BJ K (AA mg "Piece") "cuts"
 Ch:BJ K (AA mg "Piece") "first"
 Ee:BJ K (AA mg "Piece") "move_count"
 DL:BJ K (AA mg "Piece") "place"
 CF:BJ K (AA mg "Piece") "ratio"
 Ir:BJ K (AA mg "Piece") "train"
 Dj:BJ K (AA mg "Piece") "turn_count"
 Dk:BJ K (AA mg "Piece") "work_turns"
 cL:CI K (AA mg "Lathe")
 Ae:BJ K (AA mg "Lathe") "piece"
 Iq:BJ K (AA mg "Lathe") "record"
 Lb:BJ K (AA mg "Lathe") "shop"
 EF:BJ K (AA mg "Lathe") "teeth"
 T9:GO K (AA mg "Book") "Book.__init__" NO ["self"]
 UF:zJ K (AA mg "Book") "write" "Book.write" NP ["self","word","what","before"]
 UE:zJ K (AA mg "Book") "deeds" "Book.deeds" JU ["self"]
 UB:GO K (AA mg "Piece") "Piece.__init__" Np ["self","train"]
 Uo:zJ K (AA mg "Piece") "twin" "Piece.twin" N0 ["self"]
 Ul:zJ K (AA mg "Piece") "screw" "Piece.screw" Ny ["self"]
 Uj:zJ K (AA mg "Piece") "off" "Piece.off" Nw ["self"]
 Ui:zJ K (AA mg "Piece") "next_safe" "Piece.next_safe" Nv ["self"]
 Ug:zJ K (AA mg "Piece") "last_groove" "Piece.last_groove" Nt ["self"]
 Um:zJ K (AA mg "Piece") "turn" "Piece.turn" Nz ["self","turns"]
 Uh:zJ K (AA mg "Piece") "move" "Piece.move" Nu ["self","way"]
 Ue:zJ K (AA mg "Piece") "close_nut" "Piece.close_nut" Nq ["self"]
 Uk:zJ K (AA mg "Piece") "open_nut" "Piece.open_nut" Nx ["self"]
 Uf:zJ K (AA mg "Piece") "cut" "Piece.cut" Nr ["self","turns"]
 UA:GO K (AA mg "Lathe") "Lathe.__init__" NQ ["self","wheels","teeth"]
 UJ:zJ K (AA mg "Lathe") "enter" "Lathe.enter" NU ["self","word","what","after"]
 UL:zJ K (AA mg "Lathe") "mount" "Lathe.mount" NV ["self","train"]
 Ua:zJ K (AA mg "Lathe") "turn" "Lathe.turn" Nl ["self","turns"]
 Uc:zJ K (AA mg "Lathe") "wait" "Lathe.wait" Nn ["self"]
 UH:zJ K (AA mg "Lathe") "close_nut" "Lathe.close_nut" NS ["self"]
 UR:zJ K (AA mg "Lathe") "open_nut" "Lathe.open_nut" Nb ["self"]
 UN:zJ K (AA mg "Lathe") "move" "Lathe.move" NX ["self","way"]
 UI:zJ K (AA mg "Lathe") "cut" "Lathe.cut" NT ["self","turns"]
 UZ:zJ K (AA mg "Lathe") "stand" "Lathe.stand" Nk ["self"]
 UU:zJ K (AA mg "Lathe") "reading" "Lathe.reading" Nf ["self"]
 UM:zJ K (AA mg "Lathe") "mounted" "Lathe.mounted" NW ["self"]
 UT:zJ K (AA mg "Lathe") "pitch" "Lathe.pitch" Nd ["self"]
 Ud:zJ K (AA mg "Lathe") "work" "Lathe.work" No ["self"]
 UV:zJ K (AA mg "Lathe") "screw" "Lathe.screw" Ng ["self"]
 UP:zJ K (AA mg "Lathe") "nut" "Lathe.nut" NZ ["self"]
 UQ:zJ K (AA mg "Lathe") "off" "Lathe.off" Na ["self"]
 Ub:zJ K (AA mg "Lathe") "turned" "Lathe.turned" Nm ["self"]
 UO:zJ K (AA mg "Lathe") "moved" "Lathe.moved" NY ["self"]
 US:zJ K (AA mg "Lathe") "passes" "Lathe.passes" Nc ["self"]
 UG:zJ K (AA mg "Lathe") "book" "Lathe.book" NR ["self"]
 UK:zJ K (AA mg "Lathe") "marks" "Lathe.marks" JV ["self"]
 UW:zJ K (AA mg "Lathe") "soonest" "Lathe.soonest" Nh ["self"]
 UX:zJ K (AA mg "Lathe") "soonest_on" "Lathe.soonest_on" Ni ["self","mark"]
 UY:zJ K (AA mg "Lathe") "spoilt" "Lathe.spoilt" Nj ["self"]
 cY:Az K (AA mg "LatheError")
 db:PySem.W.mroIn K (AA mg "LatheError") (.ref (AA mg "BadNumber"))=some false
 de:PySem.W.mroIn K (AA mg "LatheError") (.ref (AA mg "BookFull"))=some false
 dg:PySem.W.mroIn K (AA mg "LatheError") (.ref (AA mg "LatheError"))=some true
 dh:PySem.W.mroIn K (AA mg "LatheError") (.ref (AA mg "NoMeeting"))=some false
 di:PySem.W.mroIn K (AA mg "LatheError") (.ref (AA mg "NoTrain"))=some false
 dj:PySem.W.mroIn K (AA mg "LatheError") (.ref (AA mg "UnknownWheel"))=some false
 dk:PySem.W.mroIn K (AA mg "LatheError") (.ref (AA mg "WrongNut"))=some false
 dF:CJ K (AA mg "LatheError")
 dG:PySem.W.kitOne K (.ref (AA mg "LatheError")) (.ref (AA mg "BadNumber"))=some false
 dH:PySem.W.kitOne K (.ref (AA mg "LatheError")) (.ref (AA mg "BookFull"))=some false
 dI:PySem.W.kitOne K (.ref (AA mg "LatheError")) (.ref (AA mg "NoMeeting"))=some false
 dJ:PySem.W.kitOne K (.ref (AA mg "LatheError")) (.ref (AA mg "NoTrain"))=some false
 dL:PySem.W.kitOne K (.ref (AA mg "LatheError")) (.ref (AA mg "UnknownWheel"))=some false
 dM:PySem.W.kitOne K (.ref (AA mg "LatheError")) (.ref (AA mg "WrongNut"))=some false
 Ox:Az K (AA mg "UnknownWheel")
 eF:PySem.W.mroIn K (AA mg "UnknownWheel") (.ref (AA mg "BadNumber"))=some false
 eG:PySem.W.mroIn K (AA mg "UnknownWheel") (.ref (AA mg "BookFull"))=some false
 WA:PySem.W.mroIn K (AA mg "UnknownWheel") (.ref (AA mg "LatheError"))=some true
 eI:PySem.W.mroIn K (AA mg "UnknownWheel") (.ref (AA mg "NoMeeting"))=some false
 eJ:PySem.W.mroIn K (AA mg "UnknownWheel") (.ref (AA mg "NoTrain"))=some false
 eK:PySem.W.mroIn K (AA mg "UnknownWheel") (.ref (AA mg "UnknownWheel"))=some true
 eO:PySem.W.mroIn K (AA mg "UnknownWheel") (.ref (AA mg "WrongNut"))=some false
 Pf:CJ K (AA mg "UnknownWheel")
 VZ:PySem.W.kitOne K (.ref (AA mg "UnknownWheel")) (.ref (AA mg "BadNumber"))=some false
 Va:PySem.W.kitOne K (.ref (AA mg "UnknownWheel")) (.ref (AA mg "BookFull"))=some false
 Vb:PySem.W.kitOne K (.ref (AA mg "UnknownWheel")) (.ref (AA mg "NoMeeting"))=some false
 Vc:PySem.W.kitOne K (.ref (AA mg "UnknownWheel")) (.ref (AA mg "NoTrain"))=some false
 Vd:PySem.W.kitOne K (.ref (AA mg "UnknownWheel")) (.ref (AA mg "UnknownWheel"))=some true
 Ve:PySem.W.kitOne K (.ref (AA mg "UnknownWheel")) (.ref (AA mg "WrongNut"))=some false
 Ow:Az K (AA mg "NoTrain")
 d8:PySem.W.mroIn K (AA mg "NoTrain") (.ref (AA mg "BadNumber"))=some false
 d9:PySem.W.mroIn K (AA mg "NoTrain") (.ref (AA mg "BookFull"))=some false
 V9:PySem.W.mroIn K (AA mg "NoTrain") (.ref (AA mg "LatheError"))=some true
 eA:PySem.W.mroIn K (AA mg "NoTrain") (.ref (AA mg "NoMeeting"))=some false
 eB:PySem.W.mroIn K (AA mg "NoTrain") (.ref (AA mg "NoTrain"))=some true
 eC:PySem.W.mroIn K (AA mg "NoTrain") (.ref (AA mg "UnknownWheel"))=some false
 eE:PySem.W.mroIn K (AA mg "NoTrain") (.ref (AA mg "WrongNut"))=some false
 Pe:CJ K (AA mg "NoTrain")
 VS:PySem.W.kitOne K (.ref (AA mg "NoTrain")) (.ref (AA mg "BadNumber"))=some false
 VT:PySem.W.kitOne K (.ref (AA mg "NoTrain")) (.ref (AA mg "BookFull"))=some false
 VU:PySem.W.kitOne K (.ref (AA mg "NoTrain")) (.ref (AA mg "NoMeeting"))=some false
 VW:PySem.W.kitOne K (.ref (AA mg "NoTrain")) (.ref (AA mg "NoTrain"))=some true
 VX:PySem.W.kitOne K (.ref (AA mg "NoTrain")) (.ref (AA mg "UnknownWheel"))=some false
 VY:PySem.W.kitOne K (.ref (AA mg "NoTrain")) (.ref (AA mg "WrongNut"))=some false
 Jx:Az K (AA mg "WrongNut")
 eQ:PySem.W.mroIn K (AA mg "WrongNut") (.ref (AA mg "BadNumber"))=some false
 eR:PySem.W.mroIn K (AA mg "WrongNut") (.ref (AA mg "BookFull"))=some false
 WB:PySem.W.mroIn K (AA mg "WrongNut") (.ref (AA mg "LatheError"))=some true
 eS:PySem.W.mroIn K (AA mg "WrongNut") (.ref (AA mg "NoMeeting"))=some false
 eU:PySem.W.mroIn K (AA mg "WrongNut") (.ref (AA mg "NoTrain"))=some false
 eV:PySem.W.mroIn K (AA mg "WrongNut") (.ref (AA mg "UnknownWheel"))=some false
 eX:PySem.W.mroIn K (AA mg "WrongNut") (.ref (AA mg "WrongNut"))=some true
 Pg:CJ K (AA mg "WrongNut")
 Vf:PySem.W.kitOne K (.ref (AA mg "WrongNut")) (.ref (AA mg "BadNumber"))=some false
 Vg:PySem.W.kitOne K (.ref (AA mg "WrongNut")) (.ref (AA mg "BookFull"))=some false
 Vh:PySem.W.kitOne K (.ref (AA mg "WrongNut")) (.ref (AA mg "NoMeeting"))=some false
 Vi:PySem.W.kitOne K (.ref (AA mg "WrongNut")) (.ref (AA mg "NoTrain"))=some false
 Vj:PySem.W.kitOne K (.ref (AA mg "WrongNut")) (.ref (AA mg "UnknownWheel"))=some false
 Vk:PySem.W.kitOne K (.ref (AA mg "WrongNut")) (.ref (AA mg "WrongNut"))=some true
 DE:Az K (AA mg "BadNumber")
 dN:PySem.W.mroIn K (AA mg "BadNumber") (.ref (AA mg "BadNumber"))=some true
 dO:PySem.W.mroIn K (AA mg "BadNumber") (.ref (AA mg "BookFull"))=some false
 V6:PySem.W.mroIn K (AA mg "BadNumber") (.ref (AA mg "LatheError"))=some true
 dP:PySem.W.mroIn K (AA mg "BadNumber") (.ref (AA mg "NoMeeting"))=some false
 dQ:PySem.W.mroIn K (AA mg "BadNumber") (.ref (AA mg "NoTrain"))=some false
 dR:PySem.W.mroIn K (AA mg "BadNumber") (.ref (AA mg "UnknownWheel"))=some false
 dS:PySem.W.mroIn K (AA mg "BadNumber") (.ref (AA mg "WrongNut"))=some false
 Pa:CJ K (AA mg "BadNumber")
 U9:PySem.W.kitOne K (.ref (AA mg "BadNumber")) (.ref (AA mg "BadNumber"))=some true
 VA:PySem.W.kitOne K (.ref (AA mg "BadNumber")) (.ref (AA mg "BookFull"))=some false
 VB:PySem.W.kitOne K (.ref (AA mg "BadNumber")) (.ref (AA mg "NoMeeting"))=some false
 VC:PySem.W.kitOne K (.ref (AA mg "BadNumber")) (.ref (AA mg "NoTrain"))=some false
 VD:PySem.W.kitOne K (.ref (AA mg "BadNumber")) (.ref (AA mg "UnknownWheel"))=some false
 VE:PySem.W.kitOne K (.ref (AA mg "BadNumber")) (.ref (AA mg "WrongNut"))=some false
 Ov:Az K (AA mg "NoMeeting")
 dl:PySem.W.mroIn K (AA mg "NoMeeting") (.ref (AA mg "BadNumber"))=some false
 du:PySem.W.mroIn K (AA mg "NoMeeting") (.ref (AA mg "BookFull"))=some false
 V8:PySem.W.mroIn K (AA mg "NoMeeting") (.ref (AA mg "LatheError"))=some true
 dy:PySem.W.mroIn K (AA mg "NoMeeting") (.ref (AA mg "NoMeeting"))=some true
 dz:PySem.W.mroIn K (AA mg "NoMeeting") (.ref (AA mg "NoTrain"))=some false
 d6:PySem.W.mroIn K (AA mg "NoMeeting") (.ref (AA mg "UnknownWheel"))=some false
 d7:PySem.W.mroIn K (AA mg "NoMeeting") (.ref (AA mg "WrongNut"))=some false
 Pd:CJ K (AA mg "NoMeeting")
 VM:PySem.W.kitOne K (.ref (AA mg "NoMeeting")) (.ref (AA mg "BadNumber"))=some false
 VN:PySem.W.kitOne K (.ref (AA mg "NoMeeting")) (.ref (AA mg "BookFull"))=some false
 VO:PySem.W.kitOne K (.ref (AA mg "NoMeeting")) (.ref (AA mg "NoMeeting"))=some true
 VP:PySem.W.kitOne K (.ref (AA mg "NoMeeting")) (.ref (AA mg "NoTrain"))=some false
 VQ:PySem.W.kitOne K (.ref (AA mg "NoMeeting")) (.ref (AA mg "UnknownWheel"))=some false
 VR:PySem.W.kitOne K (.ref (AA mg "NoMeeting")) (.ref (AA mg "WrongNut"))=some false
 Ou:Az K (AA mg "BookFull")
 dU:PySem.W.mroIn K (AA mg "BookFull") (.ref (AA mg "BadNumber"))=some false
 dW:PySem.W.mroIn K (AA mg "BookFull") (.ref (AA mg "BookFull"))=some true
 V7:PySem.W.mroIn K (AA mg "BookFull") (.ref (AA mg "LatheError"))=some true
 dX:PySem.W.mroIn K (AA mg "BookFull") (.ref (AA mg "NoMeeting"))=some false
 dY:PySem.W.mroIn K (AA mg "BookFull") (.ref (AA mg "NoTrain"))=some false
 dZ:PySem.W.mroIn K (AA mg "BookFull") (.ref (AA mg "UnknownWheel"))=some false
 da:PySem.W.mroIn K (AA mg "BookFull") (.ref (AA mg "WrongNut"))=some false
 Pb:CJ K (AA mg "BookFull")
 VF:PySem.W.kitOne K (.ref (AA mg "BookFull")) (.ref (AA mg "BadNumber"))=some false
 VG:PySem.W.kitOne K (.ref (AA mg "BookFull")) (.ref (AA mg "BookFull"))=some true
 VH:PySem.W.kitOne K (.ref (AA mg "BookFull")) (.ref (AA mg "NoMeeting"))=some false
 VI:PySem.W.kitOne K (.ref (AA mg "BookFull")) (.ref (AA mg "NoTrain"))=some false
 VJ:PySem.W.kitOne K (.ref (AA mg "BookFull")) (.ref (AA mg "UnknownWheel"))=some false
 VL:PySem.W.kitOne K (.ref (AA mg "BookFull")) (.ref (AA mg "WrongNut"))=some false
 Eu:mg "abs" = none
 O0:mg "bool" = none
 O1:mg "dict" = none
 cf:mg "enumerate" = none
 Hh:mg "int" = none
 B5:mg "isinstance" = none
 At:mg "len" = none
 DF:mg "list" = none
 cg:mg "max" = none
 cj:mg "min" = none
 Cp:mg "range" = none
 O2:mg "set" = none
 ck:mg "str" = none
 Dt:mg "tuple" = none
section
variable {P:Program} {w:World} {K:zP} {mg:zQ} {base:Heap}
open PySem.Spec PyProof.Rows in
theorem Ad {x:Str} {st:Stmt} {N ps:List Str} {k:Nat} {sp:Sp} (h:AV K mg x st ps) (S:qB N ps (qA st)) (len:∀ vs H Q E,sp vs H Q E->vs.length=ps.length)
 (b:∀ (f:Addr) (cdv:Value) (A:Around) (outer:List Env) (s:Shared) (H:Hp) (vs:List V) (Q:VK) (E:XK),As k (A.deeper (envOfC x (qA st) s.heap.objs.size f cdv))->sp vs H Q E->
  ∃ t,BF (Cz DS P w K mg base N x (qA st) f cdv A outer s H E).nox (CD st) t/\t { nx:=fun _ H'=>Q .non H',rt:=Q } (Cm N vs) H):zH P w K mg base x ps (k+1) sp:=by
 obtain ⟨f,fd,F,hm,hb⟩:=h;exact ⟨f,fd,F.ok S len (b f),hm,F.kp,hb⟩
open PySem.Spec PyProof.Rows in
theorem Cq {x:Str} {st:Stmt} {N ps:List Str} {k:Nat} {sp:Sp} (h:AV K mg x st ps) (S:qB N ps (qA st)) (len:∀ vs H Q E,sp vs H Q E->vs.length=ps.length)
 (b:∀ (f:Addr) (cdv:Value) (A:Around) (outer:List Env) (s:Shared) (H:Hp) (vs:List V) (Q:VK) (E:XK),As k (A.deeper (envOfC x (qA st) s.heap.objs.size f cdv))->sp vs H Q E->
  ∃ t,BF (Cz (B7 P w) P w K mg base N x (qA st) f cdv A outer s H E) (CD st) t/\t { nx:=fun _ H'=>Q .non H',rt:=Q } (Cm N vs) H):CB P w K mg base x ps (k+1) sp:=by
 obtain ⟨f,fd,F,hm,hb⟩:=h;exact ⟨f,fd,F.ok1 S len (b f),hm,F.kp,hb⟩
noncomputable def Ca (ns:List Int) (k:Int):Int:=if k<(ns.length:Int) then ns.getD k.toNat 0 else 0
def Yv (K:zP):Sp:=fun vs H Q _=>∃ (a:Addr) (ns:List Int) (k:Int),vs=[.ref a,.int k]/\AF K H a (ns.map V.int)/\0<=k/\Q (.int (Ca ns k)) H
theorem IT (T:Txt K mg):zH P w K mg base "_law_at" ["_law_script","_law_k"] 1 (Yv K):=by
 refine Ad T.Tb Xw (fun vs H Q E h=>?_) (fun f cdv A outer s H vs Q E hr h=>?_)
 ·obtain ⟨a,ns,k,rfl,_⟩:=h
  rfl
 obtain ⟨a,ns,k,rfl,hS,h0,q⟩:=h;refine ⟨_,(@pK _ _ _ _ _ (qM (qR (Eg (pv 1) (qJ qL (by rfl) T.At PySem.boot_len (pA (pv 0) pI))))
 (@pO _ _ _ (@pR _ _ _ _ (@qD _ _ _ _ _ _ _ qY (pv 0) (pv 1) (fun _ _=>rfl))))
 qG)
 (@pO _ _ _ (@pR _ _ _ _ pZ))),?_⟩
 refine ⟨_,rfl,_,rfl,a,_,rfl,.inl hS,_,_,rfl,rfl,_,rfl,?_⟩;have hl:(ns.map V.int).length=ns.length:=List.length_map _;refine C4 (fun c=>?_) (fun c=>?_)
 ·have c':k<(((ns.map V.int).length:Nat):Int):=of_decide_eq_true c
  rw [hl] at c';have hk:k.toNat<ns.length:=by lia
  have e1:Ca ns k=ns[k.toNat]:=by
   unfold Ca;rw [if_pos c',List.getD_eq_getElem?_getD,List.getElem?_eq_getElem hk];rfl
  have hv:A1 (ns.map V.int) k=some (.int (Ca ns k)):=by
   have ek:k=((k.toNat:Nat):Int):=by lia
   have:=Cy (xs:=ns.map V.int) (j:=k.toNat) (v:=.int ns[k.toNat]) (by rw [List.getElem?_map,List.getElem?_eq_getElem hk] <;> rfl)
   rw [← ek] at this;rw [e1];exact this
  exact ⟨_,rfl,_,rfl,a,_,_,_,rfl,rfl,hS,hv,q⟩
 ·have c':¬ k<(((ns.map V.int).length:Nat):Int):=of_decide_eq_false (Bool.eq_false_iff.mpr c)
  rw [hl] at c';have e1:Ca ns k=0:=if_neg c';rw [e1] at q;exact q

noncomputable def Db (ns:List Int) (k:Int):Int:=if Ca ns 0%2=0 then Ca ns k else (Ca ns k*48271%2147483647+977*k)*69621%2147483647
def ZB (K:zP):Sp:=fun vs H Q _=>∃ (a:Addr) (ns:List Int) (k:Int),vs=[.ref a,.int k]/\AF K H a (ns.map V.int)/\0<=k/\k<=1000/\Q (.int (Db ns k)) H
theorem Fs (T:Txt K mg):zH P w K mg base "_law_draw" ["_law_script","_law_k"] 2 (ZB K):=by
 refine Ad T.Th OC (fun vs H Q E h=>?_) (fun f cdv A outer s H vs Q E hr h=>?_)
 ·obtain ⟨a,ns,k,rfl,_⟩:=h
  rfl
 obtain ⟨a,ns,k,rfl,hS,h0,h1,q⟩:=h;refine ⟨_,(@pK _ _ _ _ _ (@qK _ _ 2 _ _ _ _ OC.nd rfl (Or.inl rfl) (pD (IT T) hr (pA (pv 0) (pA (pv 1) pI))) (by rfl) (by trivial))
 (@pK _ _ _ _ _ (qM (qR (CO (qC qT (pD (IT T) hr (pA (pv 0) (pA pZ pI))) pZ) pZ))
 (@pO _ _ _ (@pR _ _ _ _ (pv 2)))
 qG)
 (@pO _ _ _ (@pR _ _ _ _ (qC qT (qC qU (qC BP (qC qT (qC qU (pv 2) pZ) pZ) (qC qU pZ (pv 1))) pZ) pZ))))),?_⟩
 refine ⟨_,rfl,_,rfl,a,ns,k,rfl,hS,h0,?_⟩;refine ⟨_,rfl,a,ns,0,rfl,hS,Int.le_refl 0,_,_,rfl,rfl,(by show (0:Int)<2;decide),_,_,rfl,rfl,_,rfl,?_⟩
 refine C4 (fun c=>?_) (fun c=>?_)
 ·have c':Ca ns 0%2=0:=of_decide_eq_true c
  have e:Db ns k=Ca ns k:=if_pos c';rw [e] at q;exact ⟨_,rfl,q⟩
 ·have c':¬ Ca ns 0%2=0:=of_decide_eq_false (Bool.eq_false_iff.mpr c)
  have e:Db ns k=(Ca ns k*48271%2147483647+977*k)*69621%2147483647:=if_neg c';rw [e] at q;exact ⟨_,rfl,_,_,rfl,rfl,.inl (.inr ⟨by decide,by decide⟩),_,_,rfl,rfl,(by show (0:Int)<2147483647;decide),_,rfl,_,_,rfl,rfl,.inl (.inl ⟨by decide,by decide⟩),_,_,rfl,rfl,_,_,rfl,rfl,.inl (.inr ⟨by decide,by decide⟩),_,_,rfl,rfl,(by show (0:Int)<2147483647;decide),q⟩

def Zt:Sp:=fun vs H Q _=>∃ (c:Int) (n:Nat),vs=[.int c,.int (n:Int)]/\n<=100/\∀ (ws:List Int) (p:Addr) (H':Hp),Bs ws->ws.length=n->AE H H'->H p=none->H' p=some (.lst (ws.map V.int))->Q (.ref p) H'
theorem Qk (T:Txt K mg):zH P w K mg base "_law_shop" ["_law_cell","_law_many"] 1 Zt:=by
 refine Ad T.Ty Eo (fun vs H Q E h=>?_) (fun f cdv A outer s H vs Q E hr h=>?_)
 ·obtain ⟨c,n,rfl,_⟩:=h
  rfl
 obtain ⟨c,n,rfl,hn,q⟩:=h;refine ⟨_,(@pK _ _ _ _ _ (@qK _ _ 2 _ _ _ _ Eo.nd rfl (Or.inl rfl) (@zA _ _ _ _ pI) (by rfl) (by trivial))
 (@pK _ _ _ _ _ (@qK _ _ 3 _ _ _ _ Eo.nd rfl (Or.inl rfl) (pv 0) (by rfl) (by trivial))
 (@pK _ _ _ _ _ (CQ PassesOwn.never rfl (EI (by rfl) T.Cp (pA (pv 1) pI)) (BY (i:=4) Eo.nd rfl (Or.inl rfl))
 (@pK _ _ _ _ _ (@qK _ _ 5 _ _ _ _ Eo.nd rfl (Or.inl rfl) (qC BP pZ (qC qT (pv 3) pZ)) (by rfl) (by trivial))
 (@pK _ _ _ _ _ (@qK _ _ 3 _ _ _ _ Eo.nd rfl (Or.inl rfl) (qC BP (qC qX (pv 3) pZ) (qC qU pZ (pv 4))) (by rfl) (by trivial))
 (@pK _ _ _ _ _ (GB PassesOwn.never (qQ Gw (pv 5) (pv 2) (by with_unfolding_all rfl))
 (@pO _ _ _ (@qK _ _ 5 _ _ _ _ Eo.nd rfl (Or.inl rfl) (qC BP pZ (qC qT (qC C5 (pv 5) pZ) pZ)) (by rfl) (by trivial))))
 (@pO _ _ _ (qS (EH PySem.F.plainAttrs_list PySem.F.slot_list_append PySem.F.type_list_append Ed (pv 2) (pA (pv 5) pI))))))))
 (@pO _ _ _ (@pR _ _ _ _ (pv 2)))))),?_⟩
 refine ⟨(by exact My.Co),fun D hD=>?_⟩
 refine ⟨_,rfl,_,rfl,(n:Int),rfl,by lia,by lia,?_⟩
 rw [Int.toNat_natCast];refine Fv (lo:=0) (n:=n) (fun i σ H'=>∃ (ws:List Int) (lf:Int) (k t:Option V),σ=[some (.int c),some (.int (n:Int)),some (.ref D),some (.int lf),k,t]/\AE H H'/\H' D=some (.lst (ws.map V.int))/\ws.length=i/\Bs ws)
  ⟨[],c,none,none,rfl,sN hD _,uS,rfl,⟨by simp,by simp,by simp⟩⟩ ?_ ?_
 ·rintro i σ H' hi ⟨ws,lf,k,t,rfl,hs,hw,hl,S⟩
  refine ⟨_,rfl,_,_,rfl,rfl,(by show (0:Int)<118;decide),_,_,rfl,rfl,?_⟩
  refine ⟨_,rfl,_,_,rfl,rfl,⟨by decide,by unfold Bd;decide⟩,_,rfl,_,_,rfl,rfl,.inl (.inl ⟨by decide,by decide⟩),_,_,rfl,rfl,?_⟩
  obtain ⟨j,hj,nj⟩:=Ic 118 ws (by lia)
  refine ⟨fun m σ2 H2=>∃ (x:Int),σ2=[some (.int c),some (.int (n:Int)),some (.ref D),some (.int (lf / 118+53*(0+(i:Int)))),some (.int (0+(i:Int))),some (.int x)]/\H2=H'/\10<=x/\x<=127/\m=((10+(j:Int)-x)%118).toNat,
   ⟨_,_,rfl,rfl,by lia,by lia,rfl⟩,?_⟩
  rintro m σ2 H2 ⟨x,rfl,rfl,x0,x1,rfl⟩
  refine ⟨_,rfl,_,rfl,D,_,rfl,.inl (AF.of hw),rfl,Gd ws,_,rfl,?_⟩;dsimp only;rw [if_neg Bool.false_ne_true,Gm];refine BW (fun hin=>?_) (fun hin=>?_)
  ·have hne:x≠10+(j:Int):=fun e=>nj (e ▸ hin)
   refine ⟨fun σ3 H3=>∃ (y:Int),σ3=[some (.int c),some (.int (n:Int)),some (.ref D),some (.int (lf / 118+53*(0+(i:Int)))),some (.int (0+(i:Int))),some (.int y)]/\H3=H2/\10<=y/\y<=127/\((10+(j:Int)-y)%118).toNat<((10+(j:Int)-x)%118).toNat,?_,?_⟩
   ·rintro σ3 H3 ⟨y,rfl,rfl,y0,y1,y2⟩
    exact ⟨_,y2,y,rfl,rfl,y0,y1,rfl⟩
   ·exact ⟨_,rfl,_,_,rfl,rfl,_,_,rfl,rfl,(by show (0:Int)<118;decide),_,_,rfl,rfl,_,rfl,rfl,by lia,by lia,by lia⟩
  ·refine ⟨_,rfl,.inl ⟨rfl,_,AF.of hw⟩,_,rfl,D,_,_,rfl,rfl,hw,(by rw [List.length_map];exact Bb (by lia)),?_⟩
   refine ⟨ws++[x],_,_,_,rfl,fun b o e=>?_,?_,by simp [hl],S.snoc x0 x1 hin⟩
   ·rw [uN (nQ e hD)];exact hs b o e
   ·rw [uS,List.map_append];rfl
 ·rintro σ H' ⟨ws,lf,k,t,rfl,hs,hw,hl,S⟩
  exact ⟨_,rfl,q ws D H' S hl hs hD hw⟩

def Yu (K:zP):Sp:=fun vs H Q _=>∃ (a:Addr) (ns:List Int) (k:Int),vs=[.ref a,.int k]/\AF K H a (ns.map V.int)/\0<=k/\k<=900 /\
 ∀ (ws:List Int) (p:Addr) (H':Hp),Bs ws->2<=ws.length->ws.length<=12->AE H H'->H p=none->H' p=some (.lst (ws.map V.int))->Q (.ref p) H'
theorem QW (T:Txt K mg):zH P w K mg base "_law_any_shop" ["_law_script","_law_k"] 3 (Yu K):=by
 refine Ad T.Ta GF (fun vs H Q E h=>?_) (fun f cdv A outer s H vs Q E hr h=>?_)
 ·obtain ⟨a,ns,k,rfl,_⟩:=h
  rfl
 obtain ⟨a,ns,k,rfl,hS,h0,h1,q⟩:=h;refine ⟨_,(@pK _ _ _ _ _ (@qK _ _ 2 _ _ _ _ GF.nd rfl (Or.inl rfl) (pD (Fs T) hr (pA (pv 0) (pA (pv 1) pI))) (by rfl) (by trivial))
 (@pK _ _ _ _ _ (@qK _ _ 3 _ _ _ _ GF.nd rfl (Or.inr rfl) (pD (Fs T) hr (pA (pv 0) (pA (qC BP (pv 1) pZ) pI))) (by rfl) (by trivial))
 (@pK _ _ _ _ _ (@qK _ _ 4 _ _ _ _ GF.nd rfl (Or.inl rfl) (qC BP pZ (qC qT (qC qT (pv 2) pZ) (@qD _ _ _ _ _ _ _ qY (@zA _ _ _ _ (pA pZ (pA pZ pI))) (zG II (by rfl) T.Hh PyProof.Rows.boot_int (pA (C7 (Eg (qC qT (pv 2) pZ) pZ)) pI)) (fun _ _=>rfl)))) (by rfl) (by trivial))
 (@pK _ _ _ _ _ (@qK _ _ 5 _ _ _ _ GF.nd rfl (Or.inr rfl) (@zA _ _ _ _ (@WZ _ _ [20,30,40,50,60,80,100,120,90,45,24,36] rfl)) (by rfl) (by trivial))
 (@pK _ _ _ _ _ (qM (qR (CO (qC qT (qC qX (pv 2) pZ) pZ) pZ))
 (@pO _ _ _ (@pR _ _ _ _ (HB rfl (sc:=qA JR) rfl (N:=["_law_script","_law_k","_law_cell","_law_far","_law_many","_law_pool"]) rfl ⟨by decide +kernel,rfl,by decide +kernel,by decide +kernel,rfl,by decide +kernel,by decide +kernel,by decide +kernel⟩ (EI (by rfl) T.Cp (pA (pv 4) pI)) (fun _ _ _ _ _ _=>(@qD _ _ _ _ _ _ _ (Ih (K:=K) rfl) (pv 6) (qC qT (qC BP (pv 4) (qC qU pZ (pv 0))) pZ) (fun _ _=>rfl))))))
 qG)
 (@pO _ _ _ (@pR _ _ _ _ (pD (Qk T) hr (pA (pv 3) (pA (pv 4) pI)))))))))),?_⟩
 refine ⟨_,rfl,_,rfl,a,ns,k,rfl,hS,h0,by lia,?_⟩
 refine ⟨_,rfl,_,rfl,_,_,rfl,rfl,a,ns,k+1,rfl,hS,by lia,by lia,?_⟩
 generalize Db ns k=cl;generalize Db ns (k+1)=fr;refine ⟨_,rfl,_,_,rfl,rfl,(by show (0:Int)<33;decide),(by exact My.AL),fun p1 hp1=>?_⟩
 refine ⟨_,rfl,_,_,rfl,rfl,(by show (0:Int)<33;decide),_,_,rfl,rfl,.inr ⟨_,rfl,?_⟩⟩
 have s1:=sN hp1 (.lst [V.int 5,V.int 11]);obtain ⟨d,hd,d1,d2⟩:=KE (a:=5) (b:=11) (i:=if decide (cl%33<11)=true then 1 else 0) (fun v=>5<=v/\v<=11) (by split <;> decide) (by split <;> decide) ⟨by decide,by decide⟩ ⟨by decide,by decide⟩
 refine ⟨p1,_,_,_,rfl,rfl,AF.of uS,hd,_,_,rfl,rfl,(by show (0:Int)<d;lia),_,_,rfl,rfl,?_⟩
 have e0:=Int.emod_nonneg (cl%33) (show d≠0 by lia)
 have e1:=Int.emod_lt_of_pos (cl%33) (show 0<d by lia)
 obtain ⟨n,hn⟩:∃ n:Nat,2+cl%33%d=(n:Int):=⟨(2+cl%33%d).toNat,by lia⟩
 have n0:2<=n:=by lia
 have n1:n<=12:=by lia
 refine ⟨(by exact My.cZ),fun p2 hp2=>?_⟩
 have s2:=sN hp2 (.lst (CP.map V.int));refine ⟨_,rfl,_,_,rfl,rfl,⟨by decide,by unfold Bd;decide⟩,_,_,rfl,rfl,(by show (0:Int)<2;decide),_,_,rfl,rfl,_,rfl,?_⟩
 dsimp only;rw [hn];refine BW (fun c=>?_) (fun c=>?_)
 ·refine ⟨_,rfl,(n:Int),rfl,by lia,by lia,?_⟩
  rw [Int.toNat_natCast];intro D hD;have nH:H D=none:=by
   cases e:H D with
   | none=>rfl
   | some o=>cases ((s1.trans s2) D o e).symm.trans hD
  refine IL (tt:=fun _ H Q=>Q true H) (lo:=0) (n:=n) (fun i H' ys=>∃ ws:List Int,ys=ws.map V.int/\H'=AC (AC (AC H p1 (.lst [V.int 5,V.int 11])) p2 (.lst (CP.map V.int))) D (.lst ys)/\ws.length=i/\Bs ws/\∀ v∈ws,∃ j:Nat,j<i/\CP[((fr+5*(j:Int))%12).toNat]? = some v)
   ⟨[],rfl,rfl,rfl,⟨by simp,by simp,by simp⟩,by simp⟩ ?_ ?_
  ·rintro i H2 ys kk hk hi ⟨ws,rfl,rfl,hl,S,hv⟩
   refine ⟨uS,?_⟩;refine Ab ?_;have z0:(0:Int)<=(fr+5*(i:Int))%12:=by lia
   have z1:(fr+5*(i:Int))%12<12:=by lia
   obtain ⟨v,a1,a2,a3,a4⟩:=Wq z0 z1;have hp2':=sN hD (.lst (ws.map V.int)) p2 _ uS;have ez:fr+5*(0+(i:Int))=fr+5*(i:Int):=by lia
   refine ⟨_,rfl,_,rfl,_,rfl,_,_,rfl,rfl,.inl (.inl ⟨by decide,by decide⟩),_,_,rfl,rfl,_,_,rfl,rfl,(by show (0:Int)<12;decide),p2,_,_,_,rfl,rfl,AF.of hp2',(by rw [ez];exact a1),uS,(by rw [List.length_map];exact Bb (by lia)),?_⟩
   refine hk _ _ ⟨ws++[v],by rw [List.map_append];rfl,by rw [cS],by simp [hl],S.snoc a3 a4 ?_,?_⟩
   ·intro hin
    obtain ⟨j,hj,ej⟩:=hv v hin;have:=Ws ej a2;lia
   ·intro u hu
    rcases List.mem_append.mp hu with z|z
    ·obtain ⟨j,hj,ej⟩:=hv u z
     exact ⟨j,by lia,ej⟩
    ·rw [List.mem_singleton.mp z]
     exact ⟨i,Nat.lt_succ_self _,a2⟩
  ·rintro H2 ys ⟨ws,rfl,rfl,hl,S,hv⟩
   exact ⟨uS,q ws D _ S (by lia) (by lia) ((s1.trans s2).trans (sN hD _)) nH uS⟩
 ·refine ⟨_,rfl,_,rfl,fr,n,rfl,by lia,fun ws p H' S hl hs hn' hp=>?_⟩
  have nH:H p=none:=by
   cases e:H p with
   | none=>rfl
   | some o=>cases ((s1.trans s2) p o e).symm.trans hn'
  exact q ws p H' S (by lia) (by lia) ((s1.trans s2).trans hs) nH hp

def ZQ (K:zP):Sp:=fun vs H Q _=>∃ (a:Addr) (ns:List Int),vs=[.ref a]/\AF K H a (ns.map V.int) /\
 ∀ (ws:List Int) (p:Addr) (H':Hp),Bs ws->2<=ws.length->ws.length<=12->AE H H'->H p=none->(H' p=some (.lst (ws.map V.int))\/H' p=some (.tup (ws.map V.int)))->Q (.ref p) H'
theorem Qg (T:Txt K mg):zH P w K mg base "_law_lathe_shop" ["_law_script"] 4 (ZQ K):=by
 refine Ad T.Tn OG (fun vs H Q E h=>?_) (fun f cdv A outer s H vs Q E hr h=>?_)
 ·obtain ⟨a,ns,rfl,_⟩:=h
  rfl
 obtain ⟨a,ns,rfl,hS,q⟩:=h;refine ⟨_,(@pK _ _ _ _ _ (@qK _ _ 1 _ _ _ _ OG.nd rfl (Or.inl rfl) (pD (QW T) hr (pA (pv 0) (pA pZ pI))) (by rfl) (by trivial))
 (@pO _ _ _ (@pR _ _ _ _ (@qD _ _ _ _ _ _ _ qY (@zA _ _ _ _ (pA (pv 1) (pA (zG FH (by rfl) T.Dt PyProof.Rows.boot_tuple (pA (pv 1) pI)) pI))) (qC qT (qC qX (pD (Fs T) hr (pA (pv 0) (pA pZ pI))) pZ) pZ) (fun _ _=>rfl))))),?_⟩
 refine ⟨_,rfl,a,ns,1,rfl,hS,by decide,by decide,fun ws W H1 S l2 l12 s1 nW hW=>?_⟩
 refine ⟨_,rfl,_,rfl,W,_,rfl,.inl ⟨AF.of hW,fun p hp=>?_⟩⟩;have t1:=sN hp (.tup (ws.map V.int));refine ⟨(by exact My.AL),fun l hl=>?_⟩
 have t2:=sN hl (.lst [V.ref W,V.ref p]);refine ⟨_,rfl,a,ns,3,rfl,(s1.trans (t1.trans t2)).seq hS,by decide,by decide,?_⟩
 generalize Db ns 3=c;obtain ⟨v,hv,v1⟩:=PN (x:=V.ref W) (y:=V.ref p) (i:=c / 63%2) (by lia) (by lia)
 refine ⟨_,_,rfl,rfl,⟨by decide,by unfold Bd;decide⟩,_,_,rfl,rfl,(by show (0:Int)<2;decide),l,_,_,_,rfl,rfl,AF.of uS,hv,?_⟩
 rcases v1 with ⟨_,e⟩|⟨_,e⟩
 ·rw [e];exact q ws W _ S l2 l12 (s1.trans (t1.trans t2)) nW (.inl ((t1.trans t2) _ _ hW))
 ·rw [e];exact q ws p _ S l2 l12 (s1.trans (t1.trans t2)) (s1.free hp) (.inr (t2 _ _ uS))

def Z1 (K:zP):Sp:=fun vs H Q _=>∃ (a:Addr) (ns:List Int),vs=[.ref a]/\AF K H a (ns.map V.int)/\Q (.int (2+Db ns 3%63)) H
theorem Qq (T:Txt K mg):zH P w K mg base "_law_teeth" ["_law_script"] 3 (Z1 K):=by
 refine Ad T.T2 X9 (fun vs H Q E h=>?_) (fun f cdv A outer s H vs Q E hr h=>?_)
 ·obtain ⟨a,ns,rfl,_⟩:=h
  rfl
 obtain ⟨a,ns,rfl,hS,q⟩:=h;refine ⟨_,(@pO _ _ _ (@pR _ _ _ _ (qC BP pZ (qC qT (pD (Fs T) hr (pA (pv 0) (pA pZ pI))) pZ)))),?_⟩;exact ⟨_,rfl,a,ns,3,rfl,hS,by decide,by decide,_,_,rfl,rfl,(by show (0:Int)<63;decide),_,_,rfl,rfl,q⟩

def Yr (K:zP):Sp:=fun vs H Q _=>∃ (a:Addr) (ws:List Int),vs=[.ref a]/\BB K H a (ws.map V.int)/\ws.length<=1000/\∀ H',AE H H'->Q (.bl (decide (¬ ws.Nodup))) H'
theorem Kh (T:Txt K mg):zH P w K mg base "has_two_alike" ["wheels"] 1 (Yr K):=by
 refine Ad T.Su Xj (fun vs H Q E h=>?_) (fun f cdv A outer s H vs Q E hr h=>?_)
 ·obtain ⟨a,ws,rfl,_⟩:=h
  rfl
 obtain ⟨a,ws,rfl,hA,hl,q⟩:=h;refine ⟨_,(@pO _ _ _ (@pR _ _ _ _ (C7 (Eg (qJ KR (by rfl) T.At PySem.boot_len (pA (zG (KU rfl) (by rfl) T.O2 PyProof.Rows.boot_set (pA (pv 0) pI)) pI)) (qJ qL (by rfl) T.At PySem.boot_len (pA (pv 0) pI)))))),?_⟩
 refine ⟨_,rfl,a,ws,rfl,hA,hl,fun l S hl=>?_⟩;have s1:=sN hl (.set S (CN ws));refine ⟨l,S,_,rfl,uS,_,rfl,a,_,rfl,s1.any hA,_,_,rfl,rfl,?_⟩;have e:decide (((CN ws:Nat):Int)<(((ws.map V.int).length:Nat):Int))=decide (¬ ws.Nodup):=decide_eq_decide.mpr (by rw [List.length_map];exact Int.ofNat_lt.trans LU)
 have q':=q _ s1;rw [← e] at q';exact q'

def aA:Sp:=fun vs H Q _=>∃ (a b c:Int),vs=[.int a,.int b,.int c]/\Q (.bl (decide (b<=a/\a<=c))) H
theorem Fr (T:Txt K mg):zH P w K mg base "is_within" ["number","least","most"] 1 aA:=by
 refine Ad T.Sx Xl (fun vs H Q E h=>?_) (fun f cdv A outer s H vs Q E hr h=>?_)
 ·obtain ⟨a,b,c,rfl,_⟩:=h
  rfl
 obtain ⟨a,b,c,rfl,q⟩:=h;refine ⟨_,(@pO _ _ _ (@pR _ _ _ _ (Gz (C7 (Iz (pv 0) (pv 1))) (Fz (C7 (Gy (pv 0) (pv 2))))))),?_⟩;refine ⟨_,rfl,_,rfl,_,_,rfl,rfl,_,rfl,?_⟩;refine BW (fun h=>?_) (fun h=>?_)
 ·refine ⟨_,rfl,_,rfl,_,_,rfl,rfl,?_⟩
  have e:decide (b<=a/\a<=c)=decide (a<=c):=decide_eq_decide.mpr ⟨fun z=>z.2,fun z=>⟨h,z⟩⟩;rw [e] at q;exact q
 ·have e:decide (b<=a/\a<=c)=false:=decide_eq_false fun z=>h z.1
  rw [e] at q;exact q

def Y3 (K:zP) (mg:zQ):Sp:=fun vs H Q E=>∃ (a:Addr) (ws:List Int),vs=[.ref a]/\BB K H a (ws.map V.int)/\ws.length<=1000 /\
 (2<=ws.length/\ws.length<=12/\Bs ws->∀ H',AE H H'->Q .non H')/\(¬ (2<=ws.length/\ws.length<=12/\Bs ws)->∀ H',AE H H'->E (.ref (AA mg "BadNumber")) none H')
theorem QF (T:Txt K mg):CB P w K mg base "check_shop" ["wheels"] 2 (Y3 K mg):=by
 refine Cq T.Sl N4 (fun vs H Q E h=>?_) (fun f cdv A outer s H vs Q E hr h=>?_)
 ·obtain ⟨a,ws,rfl,_⟩:=h
  rfl
 obtain ⟨a,ws,rfl,hA,hl,q1,q2⟩:=h;refine ⟨_,(@pK _ _ _ _ _ (qM (A5 (qZ (pD (Fr T) hr (pA (qJ qL (by rfl) T.At PySem.boot_len (pA (pv 0) pI)) (pA pZ (pA pZ pI))))))
 (@pO _ _ _ (zE qI rfl T.DE T.C3 (pA pS pI)))
 qG)
 (@pK _ _ _ _ _ (CQ PassesOwn.leaving rfl (JF (pv 0)) (BY (i:=1) N4.nd rfl (Or.inl rfl))
 (@pO _ _ _ (qM (A5 (qZ (pD (Fr T) hr (pA (pv 1) (pA pZ (pA pZ pI))))))
 (@pO _ _ _ (zE qI rfl T.DE T.C3 (pA pS pI)))
 qG)))
 (@pO _ _ _ (qM (qZ (pD (Kh T) hr (pA (pv 0) pI)))
 (@pO _ _ _ (zE qI rfl T.DE T.C3 (pA pS pI)))
 qG)))),?_⟩
 have hlen:(ws.map V.int).length=ws.length:=List.length_map _;refine ⟨_,rfl,a,_,rfl,hA,_,_,_,rfl,_,rfl,?_⟩;refine BG (fun c=>?_) (fun c=>?_)
 ·exact ⟨by show 1<=sizeLine;decide,q2 (fun z=>c (by rw [hlen];exact ⟨by have:=z.1;lia,by have:=z.2.1;lia⟩)) _ (AE.refl _)⟩
 rw [hlen] at c;refine ⟨a,rfl,LA (K:=K) (a:=a) (xs:=ws.map V.int) (fun i σ H'=>∃ k:Option V,σ=[some (.ref a),k]/\H'=H/\∀ j v,j<i->ws[j]? = some v->10<=v/\v<=127) hA ⟨none,rfl,rfl,fun j v z=>by lia⟩ (fun i τ G ⟨_,_,e,_⟩=>by rw [e];exact AE.refl _) ?_ ?_⟩
 ·rintro i x σ H' hx ⟨k,rfl,rfl,hv⟩
  rw [List.getElem?_map] at hx;obtain ⟨v,hv1,rfl⟩:=Option.map_eq_some_iff.mp hx;refine ⟨_,rfl,_,_,_,rfl,_,rfl,?_⟩;refine BG (fun c2=>?_) (fun c2=>?_)
  ·exact ⟨by show 1<=sizeLine;decide,q2 (fun z=>c2 ⟨z.2.2.lo v (List.mem_of_getElem? hv1),z.2.2.hi v (List.mem_of_getElem? hv1)⟩) _ (AE.refl _)⟩
  ·refine ⟨_,rfl,rfl,fun j u hj hu=>?_⟩
   rcases Nat.lt_or_ge j i with z|z
   ·exact hv j u z hu
   ·have e:j=i:=by lia
    subst e;rw [hu] at hv1;cases hv1;exact c2
 ·rintro σ H' ⟨k,rfl,rfl,hv⟩
  rw [hlen] at hv;have all:∀ v∈ws,10<=v/\v<=127:=fun v h=>by
   obtain ⟨j,hj,e⟩:=List.getElem_of_mem h;exact hv j v hj (by rw [List.getElem?_eq_getElem hj,e])
  refine ⟨_,rfl,a,ws,rfl,hA,hl,fun H2 s2=>⟨_,rfl,?_⟩⟩;refine BW (fun c3=>?_) (fun c3=>?_)
  ·exact ⟨by show 1<=sizeLine;decide,q2 (fun z=>c3 z.2.2.nd) _ s2⟩
  ·exact q1 ⟨by lia,by lia,⟨fun v h=>(all v h).1,fun v h=>(all v h).2,Decidable.not_not.mp c3⟩⟩ _ s2

def Y2 (mg:zQ):Sp:=fun vs H Q E=>∃ (n:Int),vs=[.int n]/\(2<=n/\n<=64->Q .non H)/\(¬ (2<=n/\n<=64)->E (.ref (AA mg "BadNumber")) none H)
theorem QD (T:Txt K mg):CB P w K mg base "check_dial" ["teeth"] 2 (Y2 mg):=by
 refine Cq T.Sf Xc (fun vs H Q E h=>?_) (fun f cdv A outer s H vs Q E hr h=>?_)
 ·obtain ⟨n,rfl,_⟩:=h
  rfl
 obtain ⟨n,rfl,q1,q2⟩:=h;refine ⟨_,(@pO _ _ _ (qM (A5 (qZ (pD (Fr T) hr (pA (pv 0) (pA pZ (pA pZ pI))))))
 (@pO _ _ _ (zE qI rfl T.DE T.C3 (pA pS pI)))
 qG)),?_⟩
 refine ⟨_,rfl,_,_,_,rfl,_,rfl,?_⟩;refine BG (fun c=>?_) (fun c=>?_)
 ·exact ⟨by show 1<=sizeLine;decide,q2 c⟩
 ·exact q1 c

def Zk (K:zP):Sp:=fun vs H Q _=>∃ (a:Addr) (ws:List Int),vs=[.ref a]/\BB K H a (ws.map V.int)/\Ao ws/\∀ p,H p=none->Q (.ref p) (AC H p (.tup [.int (Bp ws),.int (Be ws)]))
theorem QL (T:Txt K mg):zH P w K mg base "plain_ratio" ["train"] 1 (Zk K):=by
 refine Ad T.TB Xm (fun vs H Q E h=>?_) (fun f cdv A outer s H vs Q E hr h=>?_)
 ·obtain ⟨a,ws,rfl,_⟩:=h
  rfl
 obtain ⟨a,ws,rfl,hA,R,q⟩:=h;refine ⟨_,(@pK _ _ _ _ _ (qM (qR (CO (qJ qL (by rfl) T.At PySem.boot_len (pA (pv 0) pI)) pZ))
 (@pO _ _ _ (@pR _ _ _ _ (@zB _ _ _ _ _ (pA (@qD _ _ _ _ _ _ _ Cf (pv 0) pZ (fun _ _=>rfl)) (pA (@qD _ _ _ _ _ _ _ Cf (pv 0) pZ (fun _ _=>rfl)) pI)))))
 qG)
 (@pO _ _ _ (@pR _ _ _ _ (@zB _ _ _ _ _ (pA (qC qU (@qD _ _ _ _ _ _ _ Cf (pv 0) pZ (fun _ _=>rfl)) (@qD _ _ _ _ _ _ _ Cf (pv 0) pZ (fun _ _=>rfl))) (pA (qC qU (@qD _ _ _ _ _ _ _ Cf (pv 0) pZ (fun _ _=>rfl)) (@qD _ _ _ _ _ _ _ Cf (pv 0) pZ (fun _ _=>rfl))) pI)))))),?_⟩
 rcases R.cases with ⟨x,y,rfl⟩|⟨x,y,z,t,rfl⟩
 ·refine ⟨_,rfl,a,_,rfl,hA,_,_,rfl,rfl,_,rfl,?_⟩
  refine qF rfl ?_;exact ⟨_,rfl,_,_,_,_,rfl,rfl,hA,rfl,_,rfl,_,_,_,_,rfl,rfl,hA,rfl,(by exact My.AL),q⟩
 ·refine ⟨_,rfl,a,_,rfl,hA,_,_,rfl,rfl,_,rfl,?_⟩
  refine qE (show ¬ ((4:Nat):Int)=2 by decide) ?_
  have h1:=R.lo x (by simp)
  have h2:=R.hi x (by simp)
  have h3:=R.lo y (by simp)
  have h4:=R.hi y (by simp)
  exact ⟨_,rfl,_,_,_,_,rfl,rfl,hA,rfl,_,rfl,_,_,_,_,rfl,rfl,hA,rfl,_,_,rfl,rfl,.inl (.inl ⟨by lia,by lia⟩),_,rfl,_,_,_,_,rfl,rfl,hA,rfl,_,rfl,_,_,_,_,rfl,rfl,hA,rfl,_,_,rfl,rfl,.inl (.inl ⟨by lia,by lia⟩),(by exact My.AL),q⟩

def ZG:Sp:=fun vs H Q _=>∃ (a b:Int),vs=[.int a,.int b]/\0<=a/\0<=b/\Q (.int ((Int.gcd a b:Nat):Int)) H
theorem IQ (T:Txt K mg):zH P w K mg base "greatest_divisor" ["a","b"] 1 ZG:=by
 refine Ad T.Sr HP (fun vs H Q E h=>?_) (fun f cdv A outer s H vs Q E hr h=>?_)
 ·obtain ⟨a,b,rfl,_⟩:=h
  rfl
 obtain ⟨a,b,rfl,ha0,hb0,q⟩:=h;refine ⟨_,(@pK _ _ _ _ _ (GB PassesOwn.never (qR (Bm (pv 1) pZ))
 (@pK _ _ _ _ _ (@qK _ _ 2 _ _ _ _ HP.nd rfl (Or.inl rfl) (qC qT (pv 0) (pv 1)) (by rfl) (by trivial))
 (@pK _ _ _ _ _ (@qK _ _ 0 _ _ _ _ HP.nd rfl (Or.inl rfl) (pv 1) (by rfl) (by trivial))
 (@pO _ _ _ (@qK _ _ 1 _ _ _ _ HP.nd rfl (Or.inl rfl) (pv 2) (by rfl) (by trivial))))))
 (@pO _ _ _ (@pR _ _ _ _ (pv 0)))),?_⟩
 refine ⟨fun m σ H'=>∃ (x y:Int) (r:Option V),σ=[some (.int x),some (.int y),r]/\H'=H/\0<=x/\0<=y/\Int.gcd x y=Int.gcd a b/\m=y.toNat,⟨_,a,b,none,rfl,rfl,ha0,hb0,rfl,rfl⟩,?_⟩;rintro m σ H' ⟨x,y,r,rfl,rfl,hx,hy,hg,rfl⟩
 refine ⟨_,rfl,_,_,rfl,rfl,_,rfl,?_⟩;by_cases c:y=0
 ·subst c
  refine DK rfl ?_;refine ⟨_,rfl,?_⟩;have e:x=((Int.gcd a b:Nat):Int):=by
   rw [← hg,Int.gcd_zero_right];lia
  rw [← e] at q;exact q
 ·refine C4 (fun _=>?_) (fun z=>absurd (by simp [c]) z)
  refine ⟨fun σ' H''=>∃ (x' y':Int) (r':Option V),σ'=[some (.int x'),some (.int y'),r']/\H''=H'/\0<=x'/\0<=y'/\Int.gcd x' y'=Int.gcd a b/\y'.toNat<y.toNat,?_,?_⟩
  ·rintro σ' H'' ⟨x',y',r',rfl,rfl,h0,h1,h2,h3⟩
   exact ⟨_,h3,x',y',r',rfl,rfl,h0,h1,h2,rfl⟩
  ·have p:0<y:=by lia
   have e0:=Int.emod_nonneg x (Int.ne_of_gt p);have e1:=Int.emod_lt_of_pos x p;refine ⟨_,rfl,_,rfl,_,_,rfl,rfl,p,_,rfl,_,rfl,y,x%y,_,rfl,rfl,hy,e0,?_,by lia⟩
   rw [Gi,hg]

def ZU:Sp:=fun vs H Q _=>∃ (t b:Int),vs=[.int t,.int b]/\b≠0/\Bd 8000 b/\∀ p,H p=none->Q (.ref p) (AC H p (.tup [.int (AG t b),.int (Aj t b)]))
theorem Cb (T:Txt K mg):zH P w K mg base "least_terms" ["top","bottom"] 2 ZU:=by
 refine Ad T.Sz JX (fun vs H Q E h=>?_) (fun f cdv A outer s H vs Q E hr h=>?_)
 ·obtain ⟨t,b,rfl,_⟩:=h
  rfl
 obtain ⟨t,b,rfl,hb0,hbd,q⟩:=h;refine ⟨_,(@pK _ _ _ _ _ (@qK _ _ 2 _ _ _ _ JX.nd rfl (Or.inl rfl) (pD (IQ T) hr (pA (qJ EV (by rfl) T.Eu PyProof.Rows.boot_abs (pA (pv 0) pI)) (pA (qJ EV (by rfl) T.Eu PyProof.Rows.boot_abs (pA (pv 1) pI)) pI))) (by rfl) (by trivial))
 (@pK _ _ _ _ _ (qM (qR (Eg (pv 1) pZ))
 (@pO _ _ _ (@qK _ _ 2 _ _ _ _ JX.nd rfl (Or.inl rfl) (Dn Ds (pv 2)) (by rfl) (by trivial)))
 qG)
 (@pO _ _ _ (@pR _ _ _ _ (@zB _ _ _ _ _ (pA (qC Lf (pv 0) (pv 2)) (pA (qC Lf (pv 1) (pv 2)) pI))))))),?_⟩
 refine ⟨_,rfl,_,rfl,_,rfl,_,rfl,_,_,rfl,by split <;> lia,by split <;> lia,?_⟩
 rw [SN];refine ⟨_,rfl,_,_,rfl,rfl,_,rfl,?_⟩;have hs:sg t b≠0:=OX hb0;have hd:Bd 8000 (sg t b):=hbd.le (OW hb0);refine C4 (fun c=>?_) (fun c=>?_)
 ·have c':b<0:=of_decide_eq_true c
  have e:-((Int.gcd t b:Nat):Int)=sg t b:=(if_pos c').symm;unfold AG Aj at q;rw [← e] at q hs hd;exact ⟨_,rfl,_,rfl,_,rfl,_,rfl,_,_,rfl,rfl,⟨hs,hd⟩,_,rfl,_,rfl,_,_,rfl,rfl,⟨hs,hd⟩,(by exact My.AL),q⟩
 ·have c':¬ b<0:=of_decide_eq_false (Bool.eq_false_iff.mpr c)
  have e:((Int.gcd t b:Nat):Int)=sg t b:=(if_neg c').symm;rw [e];exact ⟨_,rfl,_,rfl,_,_,rfl,rfl,⟨hs,hd⟩,_,rfl,_,rfl,_,_,rfl,rfl,⟨hs,hd⟩,(by exact My.AL),q⟩

def Zm (K:zP):Sp:=fun vs H Q _=>∃ (a:Addr) (ws:List Int),vs=[.ref a]/\BB K H a (ws.map V.int)/\Ao ws/\∀ p H',AE H H'->H p=none->H' p=some (.tup [.int (AG (Bp ws) (Be ws)),.int (Aj (Bp ws) (Be ws))])->Q (.ref p) H'
theorem QN (T:Txt K mg):zH P w K mg base "ratio_of" ["train"] 3 (Zm K):=by
 refine Ad T.TF N9 (fun vs H Q E h=>?_) (fun f cdv A outer s H vs Q E hr h=>?_)
 ·obtain ⟨a,ws,rfl,_⟩:=h
  rfl
 obtain ⟨a,ws,rfl,hA,R,q⟩:=h;refine ⟨_,(@pK _ _ _ _ _ (@qK _ _ 1 _ _ _ _ N9.nd rfl (Or.inl rfl) (pD (QL T) hr (pA (pv 0) pI)) (by rfl) (by trivial))
 (@pO _ _ _ (@pR _ _ _ _ (pD (Cb T) hr (pA (@qD _ _ _ _ _ _ _ iT (pv 1) pZ (fun _ _=>rfl)) (pA (@qD _ _ _ _ _ _ _ iT (pv 1) pZ (fun _ _=>rfl)) pI)))))),?_⟩
 obtain ⟨_,_,b1,b2⟩:=R.in;refine ⟨_,rfl,a,ws,rfl,hA,R,fun p hp=>?_⟩;refine ⟨_,rfl,_,_,_,_,rfl,rfl,AH.of (uS),rfl,_,rfl,_,_,_,_,rfl,rfl,AH.of (uS),rfl,_,_,rfl,by lia,(Bd.of60 (by lia) (by lia)).mono (by decide),fun r hr'=>?_⟩
 have s1:=sN hp (.tup [.int (Bp ws),.int (Be ws)]);exact q r _ (s1.trans (sN hr' _)) (s1.free hr') uS

def ZL (K:zP) (mg:zQ):Sp:=fun vs H Q _=>∃ x dx t ts,vs=[.ref x,.ref t]/\H x=some (.ins (AA mg "Piece") dx [])/\Af K H t (ts.map V.int)/\(ts=[]\/Ao ts) /\
 ∀ H' rv cu,(∀ b o,H b=some o->b≠x->H' b=some o)->H cu=none->H' x=some (.ins (AA mg "Piece") dx (A4 t rv (AA mg "NOUGHT") (AA mg "NOUGHT") false .non (AA mg "NOUGHT") (AA mg "NOUGHT") cu))->H' cu=some (.lst [])->Cr H' rv (Ef ts).pitch->Q .non H'
theorem IX (T:Txt K mg):Fj P w K mg base "Piece" (AA mg "Piece") ["self","train"] 4 (ZL K mg):=by
 obtain ⟨f,fd,F,hm,hb⟩:=T.UB;refine ⟨f,fd,F.ok1 YT (fun vs H Q E h=>?_) (fun cdv A outer s H vs Q E hr h=>?_),hm,T.SM,hb⟩
 ·obtain ⟨x,dx,t,ts,rfl,_⟩:=h
  rfl
 obtain ⟨x,dx,t,ts,rfl,hx,ht,htr,q⟩:=h;refine ⟨_,(@pK _ _ _ _ _ (zD (pv 0) (pv 1) rfl)
 (@pK _ _ _ _ _ (zD (pv 0) (JC (qR (JA (qJ qL (by rfl) T.At PySem.boot_len (pA (pv 1) pI)) pZ)) (pD (QN T) hr (pA (pv 1) pI)) BC) rfl)
 (@pK _ _ _ _ _ (zD (pv 0) (Bz (by rfl) T.Ea (v:=.ref (AA mg "NOUGHT")) rfl) rfl)
 (@pK _ _ _ _ _ (zD (pv 0) (Bz (by rfl) T.Ea (v:=.ref (AA mg "NOUGHT")) rfl) rfl)
 (@pK _ _ _ _ _ (zD (pv 0) BH rfl)
 (@pK _ _ _ _ _ (zD (pv 0) BC rfl)
 (@pK _ _ _ _ _ (zD (pv 0) (Bz (by rfl) T.Ea (v:=.ref (AA mg "NOUGHT")) rfl) rfl)
 (@pK _ _ _ _ _ (zD (pv 0) (Bz (by rfl) T.Ea (v:=.ref (AA mg "NOUGHT")) rfl) rfl)
 (@pO _ _ _ (zD (pv 0) (@zA _ _ _ _ pI) rfl)))))))))),?_⟩
 refine ⟨_,rfl,_,rfl,_,_,_,_,rfl,hx,T.cP,T.Ir,Nat.le_of_ble_eq_true rfl,?_⟩;have k1:∀ b o,H b=some o->b≠x->AC H x (.ins (AA mg "Piece") dx (A0 "train" (.ref t) [])) b=some o:=fun b o e n=>by rw [uN n];exact e
 have ht1:Af K (AC H x (.ins (AA mg "Piece") dx (A0 "train" (.ref t) []))) t (ts.map V.int):=ht.tups fun b xs e=>k1 b _ e fun z=>by rw [z,hx] at e;cases e
 rcases htr with rfl|R
 case' inl =>
  refine ⟨_,rfl,t,_,rfl,.inr ht1.sq,_,_,rfl,rfl,_,rfl,qE (by decide) ?_⟩
  refine ⟨_,rfl,_,_,_,_,rfl,uS,T.cP,T.CF,Nat.le_of_ble_eq_true rfl,?_⟩;have k3:∀ b o,H b=some o->b≠x->AC (AC H x (.ins (AA mg "Piece") dx (A0 "train" (.ref t) []))) x (.ins (AA mg "Piece") dx (A0 "ratio" .non (A0 "train" (.ref t) []))) b=some o:=fun b o e n=>by rw [uN n];exact k1 b o e n
  have hrv:∀ H':Hp,(∀ b o,AC (AC H x (.ins (AA mg "Piece") dx (A0 "train" (.ref t) []))) x (.ins (AA mg "Piece") dx (A0 "ratio" .non (A0 "train" (.ref t) []))) b=some o->b≠x->H' b=some o)->Cr H' .non (Ef []).pitch:=fun _ _=>rfl
 case' inr =>
  have ne:ts≠[]:=fun e=>by have:=R.len;rw [e] at this;rcases this with z|z <;> cases z
  refine ⟨_,rfl,t,_,rfl,.inr ht1.sq,_,_,rfl,rfl,_,rfl,qF (by rw [List.length_map];have:=List.length_pos_iff.mpr ne;lia) ?_⟩
  refine ⟨_,rfl,t,ts,rfl,.inr ht1.sq,R,fun p H2 s2 np hp=>?_⟩;have hx2:=s2 _ _ (uS (H:=H) (a:=x) (o:=.ins (AA mg "Piece") dx (A0 "train" (.ref t) [])));refine ⟨_,rfl,_,_,_,_,rfl,hx2,T.cP,T.CF,Nat.le_of_ble_eq_true rfl,?_⟩;have k3:∀ b o,H b=some o->b≠x->AC H2 x (.ins (AA mg "Piece") dx (A0 "ratio" (.ref p) (A0 "train" (.ref t) []))) b=some o:=fun b o e n=>by rw [uN n];exact s2 _ _ (k1 b o e n)
  have hrv:∀ H':Hp,(∀ b o,AC H2 x (.ins (AA mg "Piece") dx (A0 "ratio" (.ref p) (A0 "train" (.ref t) []))) b=some o->b≠x->H' b=some o)->Cr H' (.ref p) (Ef ts).pitch:=fun H' kk=>by
   rw [Iu R];refine ⟨p,rfl,kk p _ ?_ ?_⟩
   ·rw [uN]
    ·exact hp
    ·intro z;rw [z,hx2] at hp;cases hp
   ·intro z;rw [z,hx2] at hp;cases hp
 all_goals
  refine ⟨_,rfl,_,_,_,_,rfl,uS,T.cP,T.Dk,Nat.le_of_ble_eq_true rfl,_,rfl,_,_,_,_,rfl,uS,T.cP,T.DL,Nat.le_of_ble_eq_true rfl,_,rfl,_,_,_,_,rfl,uS,T.cP,T.Dh,Nat.le_of_ble_eq_true rfl,_,rfl,_,_,_,_,rfl,uS,T.cP,T.Ch,Nat.le_of_ble_eq_true rfl,_,rfl,_,_,_,_,rfl,uS,T.cP,T.Dj,Nat.le_of_ble_eq_true rfl,_,rfl,_,_,_,_,rfl,uS,T.cP,T.Ee,Nat.le_of_ble_eq_true rfl,?_⟩;refine ⟨(by exact My.Co),fun cu hcu=>?_⟩
  have cx:cu≠x:=fun z=>by rw [z,uS] at hcu;cases hcu
  refine ⟨_,rfl,_,_,_,_,rfl,(by rw [uN (Ne.symm cx)];exact uS),T.cP,T.Di,Nat.le_of_ble_eq_true rfl,?_⟩
  have hcu0:H cu=none:=by
   cases z:H cu with
   | none=>rfl
   | some o=>
    have:=k3 cu o z cx;rw [uN cx,uN cx,uN cx,uN cx,uN cx,uN cx] at hcu;rw [this] at hcu;cases hcu
  refine q _ _ cu (fun b o e n=>Fw hcu b o (by rw [uN n,uN n,uN n,uN n,uN n,uN n];exact k3 b o e n) n) hcu0 uS (by rw [uN cx];exact uS) (hrv _ fun b o e n=>Fw hcu b o (by rw [uN n,uN n,uN n,uN n,uN n,uN n];exact e) n)

def ZJ (K:zP) (mg:zQ):Sp:=fun vs H Q _=>∃ x dx,vs=[.ref x]/\H x=some (.ins (AA mg "Book") dx [])/\∀ ea,H ea=none->Q .non (AC (AC H ea (.lst [])) x (.ins (AA mg "Book") dx [("entries",.ref ea)]))
theorem Qs (T:Txt K mg):Fj P w K mg base "Book" (AA mg "Book") ["self"] 1 (ZJ K mg):=by
 obtain ⟨f,fd,F,hm,hb⟩:=T.T9;refine ⟨f,fd,F.ok1 YB (fun vs H Q E h=>?_) (fun cdv A outer s H vs Q E hr h=>?_),hm,T.SH,hb⟩
 ·obtain ⟨x,dx,rfl,_⟩:=h
  rfl
 obtain ⟨x,dx,rfl,hx,q⟩:=h;refine ⟨_,(@pO _ _ _ (zD (pv 0) (@zA _ _ _ _ pI) rfl)),?_⟩;refine ⟨(by exact My.Co),fun ea hea=>?_⟩
 have n:x≠ea:=nQ hx hea;exact ⟨_,rfl,_,_,_,_,rfl,((uN n).trans hx),T.FI,T.Gu,Nat.le_of_ble_eq_true rfl,q ea hea⟩

theorem Qw (T:Txt K mg):Fj P w K mg base "Lathe" (AA mg "Lathe") ["self","wheels","teeth"] 9 (ZK K mg):=by
 obtain ⟨f,fd,F,hm,hb⟩:=T.UA;refine ⟨f,fd,F.ok1 YE (fun vs H Q E h=>?_) (fun cdv A outer s H vs Q E hr h=>?_),hm,T.SI,hb⟩
 ·obtain ⟨x,dx,wa,ws,n,rfl,_⟩:=h
  rfl
 obtain ⟨x,dx,wa,ws,n,rfl,hx,hdx,hT,h1000,hbd,bn,q1,q2⟩:=h;refine ⟨_,(@pK _ _ _ _ _ (qS (pX (QF T) hr (qH qI) (pA (pv 1) pI)))
 (@pK _ _ _ _ _ (qS (pX (QD T) hr (qH qI) (pA (pv 2) pI)))
 (@pK _ _ _ _ _ (zD (pv 0) (zG FH (by rfl) T.Dt PyProof.Rows.boot_tuple (pA (pv 1) pI)) rfl)
 (@pK _ _ _ _ _ (zD (pv 0) (pv 2) rfl)
 (@pK _ _ _ _ _ (zD (pv 0) (HC (IX T) hr (qH qI) (pA (@zB _ _ _ _ _ pI) pI)) rfl)
 (@pO _ _ _ (zD (pv 0) (Wg (Qs T) hr (qH qI)) rfl))))))),?_⟩
 have hA:BB K H wa (ws.map V.int):=hT.elim (fun h=>.inl (AF.of h)) fun h=>.inr (AH.of h);refine ⟨_,rfl,wa,ws,rfl,hA,h1000,fun ok H1 s1=>?_,fun bad H1 s1=>q2 (fun G=>bad ⟨G.l2,G.l12,G.shop⟩) _ fun b o e _=>s1 b o e⟩;refine ⟨_,rfl,n,rfl,fun ok2=>?_,fun bad=>q2 (fun G=>bad ⟨G.n2,G.n64⟩) _ fun b o e _=>s1 b o e⟩;have G:DH ws n:=⟨ok.1,ok.2.1,ok.2.2,ok2.1,ok2.2⟩;refine (fun (key:∀ (M:Addr) (Hd:Hp),(AE H Hd/\M≠x/\Hd M=some (.tup (ws.map V.int)))->(?G:Addr->Hp->Prop) M Hd)=>?main) ?keyp
 case main =>
  rcases hT with hT|hT
  ·refine ⟨_,rfl,wa,_,rfl,.inl ⟨AF.of (s1 _ _ hT),fun M hM=>?_⟩⟩
   have S2:=s1.trans (sN hM (.tup (ws.map V.int)));have Mx:M≠x:=fun z=>by rw [z,s1 _ _ hx] at hM;cases hM
   have hM2:=uS (H:=H1) (a:=M) (o:=.tup (ws.map V.int));dsimp only;generalize AC H1 M _=Hd at S2 hM2 ⊢;exact key M Hd ⟨S2,Mx,hM2⟩
  ·refine ⟨_,rfl,wa,_,rfl,.inr ⟨AH.of (s1 _ _ hT),?_⟩⟩
   dsimp only;exact key wa _ ⟨s1,(fun z=>by rw [z,hx] at hT;cases hT),s1 _ _ hT⟩
 case keyp =>
  rintro M Hd ⟨s2,Mx,hM2⟩
  refine ⟨_,rfl,_,_,_,_,rfl,(s2 _ _ hx),T.cL,T.Lb,Nat.le_of_ble_eq_true rfl,_,rfl,_,rfl,_,_,_,_,rfl,uS,T.cL,T.EF,Nat.le_of_ble_eq_true rfl,?_⟩;refine ⟨(by exact My.Co),fun e0 he0=>fun px pdx npx npdx pne=>?_⟩
  have xe0:x≠e0:=fun z=>by rw [← z,uS] at he0;cases he0
  refine ⟨px,pdx,e0,[],rfl,uS,.inl (Dg npx npdx _ _ _ _ uS),.inl rfl,fun H7 rv cu k7 ncu hob hcu hrv=>⟨rfl,?_⟩⟩;have s7:=LR npx npdx k7;have x7:=s7 _ _ ((uN xe0).trans uS);have pxx:px≠x:=fun z=>by rw [z,(uN xe0),uS] at npx;cases npx
  have cux:cu≠x:=fun z=>by rw [z,Dg npx npdx _ _ _ _ ((uN xe0).trans uS)] at ncu;cases ncu
  refine ⟨_,rfl,_,_,_,_,rfl,x7,T.cL,T.Ae,Nat.le_of_ble_eq_true rfl,?_⟩;intro bx bdx nbx nbdx bne;refine ⟨bx,bdx,rfl,uS,fun ea hea=>⟨rfl,?_⟩⟩;have xbx:x≠bx:=fun z=>by rw [← z,uS] at nbx;cases nbx
  have x9:=Dg nbx nbdx (.own bx) (.ins (AA mg "Book") bdx []) _ _ (uS (H:=H7) (a:=x));have xea:x≠ea:=nQ x9 hea;have bea:bx≠ea:=nQ uS hea;refine ⟨_,rfl,_,_,_,_,rfl,((uN xbx).trans ((uN xea).trans x9)),T.cL,T.Iq,Nat.le_of_ble_eq_true rfl,?_⟩;have hM7:=s7 _ _ (GN he0 (.tup []) Mx hM2);have e07:=s7 _ _ (uS (a:=e0) (o:=.tup []));have nb7:H7 bx=none:=by rw [← nbx,uN (Ne.symm xbx)]
  have ne7:H7 ea=none:=by
   cases h:H7 ea with
   | none=>rfl
   | some o=>rw [Dg nbx nbdx _ _ ea o ((uN (Ne.symm xea)).trans h)] at hea;cases hea
  refine q1 G _ _ (Uw (dx:=dx) G hM7 Mx hob e07 (Ne.symm xe0) hcu hrv pxx cux T.GK (fun b o e nb=>?_) uS ((uN (Ne.symm bea)).trans uS) (Ne.symm xbx) (Ne.symm xea) nb7 ne7) (fun b o e nb=>?_) (fun b z=>?_)
  ·exact Oo nbx nbdx hea nb e
  ·exact (uN nb).trans (Oo nbx nbdx hea nb (s7 b o (GN he0 (.tup []) nb (s2 b o e))))
  ·have back:∀ b,b≠x->H7 b=none->H b=none:=fun b nb z=>by
    cases h:H b with
    | none=>rfl
    | some o=>rw [s7 b o (GN he0 (.tup []) nb (s2 b o h))] at z;cases z
   rcases z with z|rfl|rfl|rfl|rfl
   ·exact .inl z
   ·refine .inr (.inr ?_)
    cases h:H b with
    | none=>rfl
    | some o=>rw [GN he0 (.tup []) pxx (s2 b o h)] at npx;cases npx
   ·refine .inr (.inr ?_)
    cases h:H b with
    | none=>rfl
    | some o=>rw [Dg npx npdx _ _ b o (GN he0 (.tup []) cux (s2 b o h))] at ncu;cases ncu
   ·exact .inr (.inr (back _ (Ne.symm xbx) nb7))
   ·exact .inr (.inr (back _ (Ne.symm xea) ne7))

def Zc (K:zP):Sp:=fun vs H Q _=>∃ (t:Addr) (pv:V) (ts:List Int) (po:Option Q2) (N:Addr->Prop),vs=[.ref t,pv]/\Af K H t (ts.map V.int)/\Ay K H pv po/\Dw N H /\
 ∀ s H',AE H H'->H s=none->Al K N H' s { BZ with train:=ts,pitch:=po }->Q (.ref s) H'
theorem Kq (T:Txt K mg):zH P w K mg base "_law_new" ["_law_train","_law_pitch"] 1 (Zc K):=by
 refine Ad T.Tq X7 (fun vs H Q E h=>?_) (fun f cdv A outer s H vs Q E hr h=>?_)
 ·obtain ⟨t,pv,ts,po,N,rfl,_⟩:=h
  rfl
 obtain ⟨t,pw,ts,po,N,rfl,ht,hpo,nN,q⟩:=h;refine ⟨_,(@pO _ _ _ (@pR _ _ _ _ (@We _ _ _ _ _ (@Do _ _ _ _ _ _ _ _ _ pS (pv 0) (@Do _ _ _ _ _ _ _ _ _ pS (pv 1) (@Do _ _ _ _ _ _ _ _ _ pS (@zB _ _ _ _ _ (pA pZ (pA pZ pI))) (@Do _ _ _ _ _ _ _ _ _ pS (@zB _ _ _ _ _ (pA pZ (pA pZ pI))) (@Do _ _ _ _ _ _ _ _ _ pS BH (@Do _ _ _ _ _ _ _ _ _ pS BC (@Do _ _ _ _ _ _ _ _ _ pS (@zA _ _ _ _ pI) (@Do _ _ _ _ _ _ _ _ _ pS (@zB _ _ _ _ _ (pA pZ (pA pZ pI))) (@Do _ _ _ _ _ _ _ _ _ pS (@zB _ _ _ _ _ (pA pZ (pA pZ pI))) Wv))))))))) (by rfl) (by rfl) (by exact List.cons_ne_nil _ _) (by exact Nat.le_of_ble_eq_true rfl)))),?_⟩
 intro p hp;have s0:=sN hp (.dK []);have g0:=uS (H:=H) (a:=p) (o:=.dK []);refine ⟨_,rfl,_,rfl,(by exact My.AL),fun n1 h1=>?_⟩
 have u1:=sN h1 (.tup [.int 0,.int 1]);have a1:=uS (H:=AC H p (.dK [])) (a:=n1) (o:=.tup [.int 0,.int 1]);have s1:=s0.trans u1;have g1:=u1 _ _ g0;refine ⟨(by exact My.AL),fun n2 h2=>?_⟩
 have u2:=sN h2 (.tup [.int 0,.int 1]);have a2:=uS (H:=AC (AC H p (.dK [])) n1 (.tup [.int 0,.int 1])) (a:=n2) (o:=.tup [.int 0,.int 1]);have a1:=u2 _ _ a1;have s2:=s1.trans u2;have g2:=u2 _ _ g1;refine ⟨(by exact My.Co),fun n3 h3=>?_⟩
 have n9:=nN n3 (s2.free h3);have u3:=sN h3 (.lst []);have a3:=uS (H:=AC (AC (AC H p (.dK [])) n1 (.tup [.int 0,.int 1])) n2 (.tup [.int 0,.int 1])) (a:=n3) (o:=.lst []);have a1:=u3 _ _ a1;have a2:=u3 _ _ a2;have s3:=s2.trans u3;have g3:=u3 _ _ g2;refine ⟨(by exact My.AL),fun n4 h4=>?_⟩
 have u4:=sN h4 (.tup [.int 0,.int 1]);have a4:=uS (H:=AC (AC (AC (AC H p (.dK [])) n1 (.tup [.int 0,.int 1])) n2 (.tup [.int 0,.int 1])) n3 (.lst [])) (a:=n4) (o:=.tup [.int 0,.int 1]);have a1:=u4 _ _ a1;have a2:=u4 _ _ a2;have a3:=u4 _ _ a3;have s4:=s3.trans u4;have g4:=u4 _ _ g3;refine ⟨(by exact My.AL),fun n5 h5=>?_⟩
 have u5:=sN h5 (.tup [.int 0,.int 1]);obtain ⟨S,R⟩:=WF (N:=N) (s4.trans u5) hp (u5 _ _ g4) ht hpo (nN p hp) n9 (u5 _ _ a1) (u5 _ _ a2) (u5 _ _ a3) (u5 _ _ a4) uS;refine ⟨u5 _ _ g4,sF (.ref t) pw (.ref n1) (.ref n2) false .non (.ref n3) (.ref n4) (.ref n5),rfl,Nat.le_of_ble_eq_true rfl,?_⟩;rw [Vy];exact q p _ S hp R

def Zx (K:zP):Sp:=fun vs H Q _=>∃ (a:Addr) (ns:List Int) (f m:Int),vs=[.ref a,.int f,.int m]/\AF K H a (ns.map V.int)/\ns.length<=63/\0<=f/\f<=100/\0<=m/\m<=63 /\
 ∀ (D:Addr) (n:Nat) (H':Hp),AE H H'->H D=none->n<=63->H' D=some (.lst (BN f n))->Q (.ref D) H'
theorem Qm (T:Txt K mg):zH P w K mg base "_law_span" ["_law_script","_law_first","_law_least"] 3 (Zx K):=by
 refine Ad T.Tz X8 (fun vs H Q E h=>?_) (fun f cdv A outer s H vs Q E hr h=>?_)
 ·obtain ⟨a,ns,f,m,rfl,_⟩:=h
  rfl
 obtain ⟨a,ns,f,m,rfl,hS,h63,f0,f1,m0,m1,q⟩:=h;refine ⟨_,(@pK _ _ _ _ _ (qM (qR (CO (qC qT (pD (IT T) hr (pA (pv 0) (pA pZ pI))) pZ) pZ))
 (@pO _ _ _ (@pR _ _ _ _ (zG (IJ rfl) (by rfl) T.DF PyProof.Rows.boot_list (pA (zG KS (by rfl) T.Cp PyProof.Rows.boot_range (pA (pv 1) (pA (qJ qL (by rfl) T.At PySem.boot_len (pA (pv 0) pI)) pI))) pI))))
 qG)
 (@pO _ _ _ (@pR _ _ _ _ (zG (IJ rfl) (by rfl) T.DF PyProof.Rows.boot_list (pA (zG KS (by rfl) T.Cp PyProof.Rows.boot_range (pA (pv 1) (pA (qJ (Pj rfl) (by rfl) T.cg PyProof.Rows.boot_max (pA (qJ qL (by rfl) T.At PySem.boot_len (pA (pv 0) pI)) (pA (qC BP (pv 1) (pv 2)) pI))) pI))) pI))))),?_⟩
 have hl:(ns.map V.int).length=ns.length:=List.length_map _;have go:∀ b:Int,0<=b->(b-f).toNat<=63->b<=200->∀ x,H x=none->∀ l,AC H x (D5 x f b 1) l=none->Q (.ref l) (AC (AC H x (D5 x f b 1)) l (.lst (BN f (b-f).toNat))):=fun b b0 bl b2 x hx l hl' =>
  q l _ _ ((sN hx _).trans (sN hl' _)) ((sN hx _).free hl') bl uS
 refine ⟨_,rfl,a,ns,0,rfl,hS,Int.le_refl 0,_,_,rfl,rfl,(by show (0:Int)<2;decide),_,_,rfl,rfl,_,rfl,?_⟩
 refine BW (fun c=>?_) (fun c=>?_)
 ·refine ⟨_,rfl,_,rfl,a,_,rfl,.inl hS,_,_,rfl,fun x hx=>?_⟩
  refine ⟨x,_,_,_,_,rfl,uS,HR _ f0 (by lia) (by lia) (by rw [hl];lia) (by decide) (by decide) HU (by lia) (by rw [hl];lia),HU,by rw [hl];lia,fun l hl'=>?_⟩
  exact go _ (by lia) (by rw [hl];lia) (by rw [hl];lia) x hx l hl'
 ·refine ⟨_,rfl,_,rfl,a,_,rfl,.inl hS,_,rfl,_,rfl,_,_,rfl,rfl,_,_,rfl,?_⟩
  generalize hb:(if f+m>(((ns.map V.int).length:Nat):Int) then f+m else (((ns.map V.int).length:Nat):Int))=b
  have b0:0<=b/\(b-f).toNat<=63/\b<=200:=by rw [← hb,hl];split <;> lia
  refine ⟨_,_,rfl,fun x hx=>?_⟩;refine ⟨x,_,_,_,_,rfl,uS,HR _ f0 (by lia) (by lia) (by lia) (by decide) (by decide) HU (by lia) (by lia),HU,by lia,fun l hl'=>?_⟩
  exact go _ (by lia) (by lia) (by lia) x hx l hl'

def Zj (K:zP):Sp:=fun vs H Q _=>∃ (c:Int) (a:Addr) (ws:List Int) (m:Int),vs=[.int c,.ref a,.int m]/\BB K H a (ws.map V.int)/\0<=m/\m<=(ws.length:Int)/\ws.length<=100 /\
 ∀ (ms ls:List Int) (p:Addr) (H':Hp),(ms.length:Int)=m->(ms++ls).Perm ws->AE H H'->H p=none->H' p=some (.lst (ms.map V.int))->Q (.ref p) H'
theorem Qh (T:Txt K mg):zH P w K mg base "_law_pick" ["_law_cell","_law_wheels","_law_many"] 1 (Zj K):=by
 refine Ad T.Tt Fb (fun vs H Q E h=>?_) (fun f cdv A outer s H vs Q E hr h=>?_)
 ·obtain ⟨c,a,ws,m,rfl,_⟩:=h
  rfl
 obtain ⟨c,a,ws,m,rfl,hS,hm0,hn,h100,q⟩:=h;obtain ⟨n,rfl⟩:=Int.eq_ofNat_of_zero_le hm0;refine ⟨_,(@pK _ _ _ _ _ (@qK _ _ 3 _ _ _ _ Fb.nd rfl (Or.inl rfl) (zG FG (by rfl) T.DF PyProof.Rows.boot_list (pA (pv 1) pI)) (by rfl) (by trivial))
 (@pK _ _ _ _ _ (@qK _ _ 4 _ _ _ _ Fb.nd rfl (Or.inl rfl) (pv 0) (by rfl) (by trivial))
 (@pK _ _ _ _ _ (@qK _ _ 5 _ _ _ _ Fb.nd rfl (Or.inl rfl) (@zA _ _ _ _ pI) (by rfl) (by trivial))
 (@pK _ _ _ _ _ (CQ PassesOwn.never rfl (EI (by rfl) T.Cp (pA (pv 2) pI)) (BY (i:=6) Fb.nd rfl (Or.inl rfl))
 (@pK _ _ _ _ _ (qS (EH PySem.F.plainAttrs_list PySem.F.slot_list_append PySem.F.type_list_append Ed (pv 5) (pA (EH PySem.F.plainAttrs_list PySem.F.slot_list_pop PySem.F.type_list_pop WD (pv 3) (pA (qC qT (pv 4) (qJ qL (by rfl) T.At PySem.boot_len (pA (pv 3) pI))) pI)) pI)))
 (@pO _ _ _ (@qK _ _ 4 _ _ _ _ Fb.nd rfl (Or.inl rfl) (qC qX (pv 4) pZ) (by rfl) (by trivial)))))
 (@pO _ _ _ (@pR _ _ _ _ (pv 5))))))),?_⟩
 refine ⟨_,rfl,a,_,rfl,hS,fun L hL=>?_⟩;refine ⟨_,rfl,?_⟩;refine ⟨(by exact My.Co),fun D hD=>?_⟩
 have nLD:L≠D:=fun e=>by rw [← e,uS] at hD;cases hD
 have hD0:H D=none:=by rw [uN (Ne.symm nLD)] at hD;exact hD
 refine ⟨_,rfl,(n:Int),rfl,by lia,by lia,?_⟩
 rw [Int.toNat_natCast];refine Fv (lo:=0) (n:=n) (fun i σ H'=>∃ (ms ls:List Int) (rs:Int) (k:Option V),σ=[some (.int c),some (.ref a),some (.int (n:Int)),some (.ref L),some (.int rs),some (.ref D),k]/\AE H H'/\H' D=some (.lst (ms.map V.int))/\H' L=some (.lst (ls.map V.int))/\ms.length=i/\(ms++ls).Perm ws)
  ⟨[],ws,c,none,rfl,(sN hL _).trans (sN hD _),uS,by rw [uN nLD,uS],rfl,List.Perm.refl _⟩ ?_ ?_
 ·rintro i σ H' hi ⟨ms,ls,rs,k,rfl,hs,hm',hl,hi',hp⟩
  have hlen:=hp.length_eq;rw [List.length_append,hi'] at hlen;have hlp:(0:Int)<((ls.map V.int).length:Nat):=by rw [List.length_map];lia
  refine ⟨_,rfl,.inl ⟨rfl,_,AF.of hm'⟩,_,rfl,.inl ⟨rfl,_,AF.of hl⟩,_,rfl,_,rfl,L,_,rfl,.inl (AF.of hl),_,_,rfl,rfl,hlp,?_⟩;have m0:=Int.emod_nonneg rs (Int.ne_of_gt hlp);have m1:=Int.emod_lt_of_pos rs hlp;have hk:(rs%((ls.map V.int).length:Nat)).toNat<ls.length:=by rw [List.length_map] at *;lia
  obtain ⟨ix,hix⟩:∃ ix:Int,ix=rs%(((ls.map V.int).length:Nat):Int):=⟨_,rfl⟩;rw [← hix] at m0 m1 hk;have ea:A1 (ls.map V.int) ix=some (.int ls[ix.toNat]):=by
   have ek:ix=((ix.toNat:Nat):Int):=by lia
   have:=Cy (xs:=ls.map V.int) (j:=ix.toNat) (v:=.int ls[ix.toNat]) (by rw [List.getElem?_map,List.getElem?_eq_getElem hk] <;> rfl)
   rw [← ek] at this;exact this
  obtain ⟨j,j1,j2,_⟩:=ID ea;have h63:ix<2 ^ 63:=by rw [List.length_map] at m1;lia
  have hj:ls[j]? = some ls[ix.toNat]:=by
   rw [List.getElem?_map] at j2;cases e:ls[j]? with
   | none=>rw [e] at j2;cases j2
   | some z=>rw [e] at j2;cases j2;rfl
  have m63:-(2 ^ 63)<=ix:=by lia
  refine ⟨L,_,ix,j,_,rfl,(by rw [hix]),hl,m63,h63,j1,j2,?_⟩
  refine ⟨D,_,_,rfl,rfl,(by rw [uN (Ne.symm nLD)];exact hm'),(by rw [List.length_map];exact Bb (by lia)),?_⟩
  refine ⟨_,rfl,_,_,rfl,rfl,⟨by decide,by unfold Bd;decide⟩,ms++[ls[ix.toNat]],ls.eraseIdx j,_,_,rfl,fun b o e=>?_,?_,?_,by simp [hi'],?_⟩
  ·rw [uN (nQ e hD0),uN (nQ e hL)];exact hs b o e
  ·rw [uS,List.map_append];rfl
  ·rw [uN nLD,uS,Vu]
  ·rw [List.append_assoc]
   exact (List.Perm.append_left ms (Wl hj)).trans hp
 ·rintro σ H' ⟨ms,ls,rs,k,rfl,hs,hm',hl,hi',hp⟩
  exact ⟨_,rfl,q ms ls D H' (by rw [hi']) hp hs hD0 hm'⟩

def ZH (K:zP):Sp:=fun vs H Q _=>∃ (c:Int) (a:Addr) (ws:List Int),vs=[.int c,.ref a]/\BB K H a (ws.map V.int)/\Bs ws/\2<=ws.length/\ws.length<=12 /\
 ∀ (ms:List Int) (p:Addr) (H':Hp),Ao ms->ms.Nodup->(∀ v∈ms,v∈ws)->AE H H'->H p=none->H' p=some (.tup (ms.map V.int))->Q (.ref p) H'
theorem Qf (T:Txt K mg):zH P w K mg base "_law_good_train" ["_law_cell","_law_wheels"] 2 (ZH K):=by
 refine Ad T.Tl OE (fun vs H Q E h=>?_) (fun f cdv A outer s H vs Q E hr h=>?_)
 ·obtain ⟨c,a,ws,rfl,_⟩:=h
  rfl
 obtain ⟨c,a,ws,rfl,hA,S,l2,l12,q⟩:=h;refine ⟨_,(@pK _ _ _ _ _ (@qK _ _ 2 _ _ _ _ OE.nd rfl (Or.inl rfl) (qC qU (qC qX (qJ (Pk rfl) (by rfl) T.cj PyProof.Rows.boot_min (pA (qJ qL (by rfl) T.At PySem.boot_len (pA (pv 1) pI)) (pA (@qD _ _ _ _ _ _ _ qY (@zA _ _ _ _ (pA pZ (pA pZ pI))) (qC qT (pv 0) pZ) (fun _ _=>rfl)) pI))) pZ) pZ) (by rfl) (by trivial))
 (@pO _ _ _ (@pR _ _ _ _ (zG FH (by rfl) T.Dt PyProof.Rows.boot_tuple (pA (pD (Qh T) hr (pA (qC qX (pv 0) pZ) (pA (pv 1) (pA (pv 2) pI)))) pI))))),?_⟩
 obtain ⟨g,hg,g1⟩:=KE (a:=2) (b:=4) (i:=c%2) (fun v=>v=2\/v=4) (by lia) (by lia) (.inl rfl) (.inr rfl)
 refine ⟨_,rfl,a,_,rfl,hA,(by exact My.AL),fun p1 hp1=>?_⟩
 have t1:=sN hp1 (.lst [V.int 2,V.int 4]);refine ⟨_,rfl,_,_,rfl,rfl,(by show (0:Int)<2;decide),p1,_,_,_,rfl,rfl,AF.of uS,hg,_,_,rfl,_,_,rfl,rfl,⟨by decide,by unfold Bd;decide⟩,_,_,rfl,rfl,.inl (.inr ⟨by decide,by decide⟩),?_⟩
 have hl:(ws.map V.int).length=ws.length:=List.length_map _;have hm:(if g<(((ws.map V.int).length:Nat):Int) then g else (((ws.map V.int).length:Nat):Int)) / 2*2=2\/(if g<(((ws.map V.int).length:Nat):Int) then g else (((ws.map V.int).length:Nat):Int)) / 2*2=4:=by
  rw [hl];split <;> lia
 have hm2:(if g<(((ws.map V.int).length:Nat):Int) then g else (((ws.map V.int).length:Nat):Int)) / 2*2<=(ws.length:Int):=by
  rw [hl];split <;> lia
 refine ⟨_,rfl,_,_,rfl,rfl,⟨by decide,by unfold Bd;decide⟩,_,rfl,_,rfl,_,a,ws,_,rfl,t1.any hA,by lia,hm2,by lia,fun ms ls M H2 hml hp s2 nM hM=>?_⟩
 have R:Ao ms:=⟨by lia,fun v hv=>S.lo v (hp.mem_iff.mp (List.mem_append_left _ hv)),fun v hv=>S.hi v (hp.mem_iff.mp (List.mem_append_left _ hv))⟩
 have nd:ms.Nodup:=(List.nodup_append.mp (hp.nodup_iff.mpr S.nd)).1;refine ⟨M,_,rfl,.inl ⟨AF.of hM,fun p hp3=>?_⟩⟩;exact q ms p _ R nd (fun v hv=>hp.mem_iff.mp (List.mem_append_left _ hv)) (t1.trans (s2.trans (sN hp3 _))) ((t1.trans s2).free hp3) uS

def ZF:Sp:=fun vs H Q _=>∃ (a b:Int),vs=[.int a,.int b]/\0<=b/\Q (.int ((Int.gcd a b:Nat):Int)) H
theorem Qe (T:Txt K mg):zH P w K mg base "_law_gcd" ["_law_a","_law_b"] 1 ZF:=by
 refine Ad T.Tk OD (fun vs H Q E h=>?_) (fun f cdv A outer s H vs Q E hr h=>?_)
 ·obtain ⟨a,b,rfl,_⟩:=h
  rfl
 obtain ⟨a,b,rfl,hb0,q⟩:=h;refine ⟨_,(@pK _ _ _ _ _ (GB PassesOwn.never (qR (Bm (pv 1) pZ))
 (@pO _ _ _ (Wz (i:=0) (j:=1) rfl OD.nd rfl rfl (by decide) rfl rfl (pA (pv 1) (pA (qC qT (pv 0) (pv 1)) pI)) rfl)))
 (@pO _ _ _ (@pR _ _ _ _ (qJ EV (by rfl) T.Eu PyProof.Rows.boot_abs (pA (pv 0) pI))))),?_⟩
 refine ⟨fun m σ H'=>∃ x y:Int,σ=[some (.int x),some (.int y)]/\H'=H/\0<=y/\Int.gcd x y=Int.gcd a b/\m=y.toNat,⟨_,a,b,rfl,rfl,hb0,rfl,rfl⟩,?_⟩;rintro m σ H' ⟨x,y,rfl,rfl,hy,hg,rfl⟩
 refine ⟨_,rfl,_,_,rfl,rfl,_,rfl,?_⟩;by_cases c:y=0
 ·subst c
  refine DK rfl ?_;refine ⟨_,rfl,_,rfl,?_⟩;rw [SO,hg];exact q
 ·refine C4 (fun _=>?_) (fun z=>absurd (by simp [c]) z)
  refine ⟨fun σ' H''=>∃ x' y':Int,σ'=[some (.int x'),some (.int y')]/\H''=H'/\0<=y'/\Int.gcd x' y'=Int.gcd a b/\y'.toNat<y.toNat,?_,?_⟩
  ·rintro σ' H'' ⟨x',y',rfl,rfl,h1,h2,h3⟩
   exact ⟨_,h3,x',y',rfl,rfl,h1,h2,rfl⟩
  ·have p:0<y:=by lia
   have e0:=Int.emod_nonneg x (Int.ne_of_gt p);have e1:=Int.emod_lt_of_pos x p;refine ⟨_,rfl,_,rfl,_,rfl,_,_,rfl,rfl,p,_,_,rfl,y,x%y,rfl,rfl,e0,?_,by lia⟩
   rw [Gi,hg]

theorem XH {t b:Int} (hb:0<b):t / ((Int.gcd t b:Nat):Int)=AG t b/\b / ((Int.gcd t b:Nat):Int)=Aj t b:=by
 have e:sg t b=((Int.gcd t b:Nat):Int):=if_neg (by lia)
 unfold AG Aj;rw [e,Int.fdiv_eq_ediv_of_nonneg _ (by lia),Int.fdiv_eq_ediv_of_nonneg _ (by lia)]
 exact ⟨rfl,rfl⟩
def Zo:Sp:=fun vs H Q _=>∃ (t b:Int),vs=[.int t,.int b]/\0<b/\Bd 8000 b/\∀ p,H p=none->Q (.ref p) (AC H p (.tup [.int (AG t b),.int (Aj t b)]))
theorem Ft (T:Txt K mg):zH P w K mg base "_law_red" ["_law_top","_law_bottom"] 2 Zo:=by
 refine Ad T.Tw OH (fun vs H Q E h=>?_) (fun f cdv A outer s H vs Q E hr h=>?_)
 ·obtain ⟨t,b,rfl,_⟩:=h
  rfl
 obtain ⟨t,b,rfl,hb0,bd,q⟩:=h;refine ⟨_,(@pK _ _ _ _ _ (@qK _ _ 2 _ _ _ _ OH.nd rfl (Or.inl rfl) (pD (Qe T) hr (pA (pv 0) (pA (pv 1) pI))) (by rfl) (by trivial))
 (@pO _ _ _ (@pR _ _ _ _ (@zB _ _ _ _ _ (pA (qC qX (pv 0) (pv 2)) (pA (qC qX (pv 1) (pv 2)) pI)))))),?_⟩
 have g0:0<Int.gcd t b:=Ig (by lia)
 have gp:(0:Int)<((Int.gcd t b:Nat):Int):=by lia
 have gb:Bd 8000 ((Int.gcd t b:Nat):Int):=by
  have:=OW (t:=t) (b:=b) (by lia)
  rw [Jj] at this;exact bd.le (by lia)
 obtain ⟨e1,e2⟩:=XH (t:=t) hb0;rw [← e1,← e2] at q;exact ⟨_,rfl,_,rfl,t,b,rfl,by lia,_,rfl,_,rfl,_,_,rfl,rfl,⟨gp,gb⟩,_,rfl,_,rfl,_,_,rfl,rfl,⟨gp,gb⟩,(by exact My.AL),q⟩

def Yp (K:zP):Sp:=fun vs H Q _=>∃ (p r:Addr) (a b c d:Int),vs=[.ref p,.ref r]/\Af K H p [.int a,.int b]/\Af K H r [.int c,.int d]/\Bd 3000 a/\Bd 3000 b/\Bd 3000 c/\Bd 3000 d/\0<b/\0<d /\
 ∀ n,H n=none->Q (.ref n) (AC H n (.tup [.int (AG (a*d+c*b) (b*d)),.int (Aj (a*d+c*b) (b*d))]))
theorem Da (T:Txt K mg):zH P w K mg base "_law_add" ["_law_a","_law_b"] 3 (Yp K):=by
 refine Ad T.TW Xu (fun vs H Q E h=>?_) (fun f cdv A outer s H vs Q E hr h=>?_)
 ·obtain ⟨p,r,a,b,c,d,rfl,_⟩:=h
  rfl
 obtain ⟨p,r,a,b,c,d,rfl,hp,hr',ba,bb,bc,bd,b0,d0,q⟩:=h;refine ⟨_,(@pO _ _ _ (@pR _ _ _ _ (pD (Ft T) hr (pA (qC BP (qC qU (@qD _ _ _ _ _ _ _ iT (pv 0) pZ (fun _ _=>rfl)) (@qD _ _ _ _ _ _ _ iT (pv 1) pZ (fun _ _=>rfl))) (qC qU (@qD _ _ _ _ _ _ _ iT (pv 1) pZ (fun _ _=>rfl)) (@qD _ _ _ _ _ _ _ iT (pv 0) pZ (fun _ _=>rfl)))) (pA (qC qU (@qD _ _ _ _ _ _ _ iT (pv 0) pZ (fun _ _=>rfl)) (@qD _ _ _ _ _ _ _ iT (pv 1) pZ (fun _ _=>rfl))) pI))))),?_⟩;exact ⟨_,rfl,_,_,_,_,rfl,rfl,hp.sq,rfl,_,rfl,_,_,_,_,rfl,rfl,hr'.sq,rfl,_,_,rfl,rfl,.inr ⟨ba.mono (by decide),bd.mono (by decide)⟩,_,rfl,_,_,_,_,rfl,rfl,hr'.sq,rfl,_,rfl,_,_,_,_,rfl,rfl,hp.sq,rfl,_,_,rfl,rfl,.inr ⟨bc.mono (by decide),bb.mono (by decide)⟩,_,_,rfl,rfl,_,rfl,_,_,_,_,rfl,rfl,hp.sq,rfl,_,rfl,_,_,_,_,rfl,rfl,hr'.sq,rfl,_,_,rfl,rfl,.inr ⟨bb.mono (by decide),bd.mono (by decide)⟩,_,_,rfl,Int.mul_pos b0 d0,(bb.mul bd).mono (by decide),q⟩

def Z3 (K:zP):Sp:=fun vs H Q _=>∃ (p r:Addr) (c:Q2) (x y:Int),vs=[.ref p,.ref r]/\AO K H p c/\AO K H r (x,y)/\Bd 2000 c.1/\Bd 2000 c.2/\Bd 2000 x/\Bd 2000 y/\0<c.2/\0<y/\∀ H',AE H H'->Q (.bl (Ag c (x,y))) H'
theorem IW (T:Txt K mg):zH P w K mg base "_law_too_much" ["_law_before","_law_amount"] 4 (Z3 K):=by
 refine Ad T.T4 OJ (fun vs H Q E h=>?_) (fun f cdv A outer s H vs Q E hr h=>?_)
 ·obtain ⟨p,r,c,x,y,rfl,_⟩:=h
  rfl
 obtain ⟨p,r,c,x,y,rfl,hp,hR,b1,b2,b3,b4,n1,n2,q⟩:=h;refine ⟨_,(@pK _ _ _ _ _ (@qK _ _ 2 _ _ _ _ OJ.nd rfl (Or.inl rfl) (pD (Da T) hr (pA (pv 0) (pA (@zB _ _ _ _ _ (pA (qJ EV (by rfl) T.Eu PyProof.Rows.boot_abs (pA (@qD _ _ _ _ _ _ _ iT (pv 1) pZ (fun _ _=>rfl)) pI)) (pA (@qD _ _ _ _ _ _ _ iT (pv 1) pZ (fun _ _=>rfl)) pI))) pI))) (by rfl) (by trivial))
 (@pO _ _ _ (@pR _ _ _ _ (C7 (JA (@qD _ _ _ _ _ _ _ iT (pv 2) pZ (fun _ _=>rfl)) (qC qU pZ (@qD _ _ _ _ _ _ _ iT (pv 2) pZ (fun _ _=>rfl)))))))),?_⟩
 refine ⟨_,rfl,_,rfl,_,_,_,_,rfl,rfl,hR.sq,rfl,_,rfl,_,rfl,_,_,_,_,rfl,rfl,hR.sq,rfl,(by exact My.AL),fun m hm=>?_⟩
 have s1:=sN hm (.tup [.int (if x<0 then -x else x),.int y])
 have ba:Bd 2000 (if x<0 then -x else x):=b3.le (by split <;> lia)
 refine ⟨p,m,c.1,c.2,_,_,rfl,hp.mono s1,.inl uS,b1.mono (by decide),b2.mono (by decide),ba.mono (by decide),b4.mono (by decide),n1,n2,fun n hn=>?_⟩
 have s2:=s1.trans (sN hn (.tup [.int (AJ c (AR (x,y))).1,.int (AJ c (AR (x,y))).2]));have hn2:=(AO.made (K:=K) hn (AJ c (AR (x,y)))).sq;have L:=Cg (t:=c.1*y+(AR (x,y)).1*c.2) (b:=c.2*y) (Int.ne_of_gt (Int.mul_pos n1 n2));have bn:Bd 4000 (AJ c (AR (x,y))).2:=((b2.mul b4).mono (show _<=4000 by decide)).le L.ny
 refine ⟨_,rfl,_,_,_,_,rfl,rfl,hn2,rfl,_,rfl,_,_,_,_,rfl,rfl,hn2,rfl,_,_,rfl,rfl,.inr ⟨FE.mono (by decide),bn.mono (by decide)⟩,_,_,rfl,rfl,?_⟩
 exact q _ s2

def Zh (K:zP):Sp:=fun vs H Q _=>∃ (s:Addr) (p:PS) (ts:List Int) (N:Addr->Prop),vs=[.ref s]/\Al K N H s p/\Pc p ts/\∀ n H',AE H H'->AO K H' n p.ahead->Q (.ref n) H'
theorem IV (T:Txt K mg):zH P w K mg base "_law_off_turns" ["_law_s"] 3 (Zh K):=by
 refine Ad T.Ts Jb (fun vs H Q E h=>?_) (fun f cdv A outer s H vs Q E hr h=>?_)
 ·obtain ⟨s,p,ts,N,rfl,_⟩:=h
  rfl
 obtain ⟨s,p,ts,N,rfl,⟨t,pi,w,pl,ov,cu,tu,mo,S⟩,P,q⟩:=h;refine ⟨_,(@pK _ _ _ _ _ (qM (qR (BX (qN (qV hr) (pv 0) pS (fun _ _=>rfl))))
 (@pO _ _ _ (@pR _ _ _ _ (@zB _ _ _ _ _ (pA pZ (pA pZ pI)))))
 qG)
 (@pK _ _ _ _ _ (@qK _ _ 1 _ _ _ _ Jb.nd rfl (Or.inl rfl) (@qD _ _ _ _ _ _ _ iT (qN (qV hr) (pv 0) pS (fun _ _=>rfl)) pZ (fun _ _=>rfl)) (by rfl) (by trivial))
 (@pK _ _ _ _ _ (@qK _ _ 2 _ _ _ _ Jb.nd rfl (Or.inl rfl) (qC qT (@qD _ _ _ _ _ _ _ iT (qN (qV hr) (pv 0) pS (fun _ _=>rfl)) pZ (fun _ _=>rfl)) (qC qU (@qD _ _ _ _ _ _ _ iT (qN (qV hr) (pv 0) pS (fun _ _=>rfl)) pZ (fun _ _=>rfl)) (pv 1))) (by rfl) (by trivial))
 (@pO _ _ _ (@pR _ _ _ _ (pD (Ft T) hr (pA (qC qU (pv 2) (@qD _ _ _ _ _ _ _ iT (qN (qV hr) (pv 0) pS (fun _ _=>rfl)) pZ (fun _ _=>rfl))) (pA (qC qU (@qD _ _ _ _ _ _ _ iT (qN (qV hr) (pv 0) pS (fun _ _=>rfl)) pZ (fun _ _=>rfl)) (pv 1)) pI)))))))),?_⟩
 have hof:=S.of';have hpi:=S.pi';rw [P.ep] at hpi;obtain ⟨pp,rfl,hpp⟩:=hpi;cases ho:p.off with
 | none =>
  rw [ho] at hof;cases (show ov = .non from hof);refine ⟨_,rfl,_,_,rfl,.inl ⟨_,.inr "off",.inl S.ob,rfl,Ar.symm⟩,_,rfl,qF rfl ?_⟩;refine ⟨(by exact My.AL),fun n hn=>?_⟩
  have ea:p.ahead=(0,1):=by unfold PS.ahead;rw [ho]
  exact q n _ (sN hn _) (by rw [ea];exact .inl uS)
 | some o =>
  rw [ho] at hof;obtain ⟨oa,rfl,hoa⟩:=hof;have oN:=P.offN ho;have o2:=(P.o o ho).pos;have L:=P.tr.pl;have r1:=L.p1;have d:0<o.2*(AB ts).1:=Int.mul_pos (by lia) (by lia)
  refine ⟨_,rfl,_,_,rfl,.inl ⟨_,.inr "off",.inl S.ob,rfl,Ar.symm⟩,_,rfl,qE (fun z=>by cases z) ?_⟩
  refine ⟨_,rfl,_,_,rfl,.inl ⟨_,.inr "pitch",.inl S.ob,rfl,A9.symm⟩,_,_,_,_,rfl,rfl,hpp.sq,rfl,?_⟩;refine ⟨_,rfl,_,_,rfl,.inl ⟨_,.inr "off",.inl S.ob,rfl,Ar.symm⟩,_,_,_,_,rfl,rfl,hoa.sq,rfl,_,rfl,_,_,rfl,.inl ⟨_,.inr "off",.inl S.ob,rfl,Ar.symm⟩,_,_,_,_,rfl,rfl,hoa.sq,rfl,_,rfl,_,_,rfl,rfl,.inr ⟨oN.2.mono (by decide),L.bp.mono (by decide)⟩,_,_,rfl,rfl,d,?_⟩
  have br:Bd 1800 (o.1%(o.2*(AB ts).1)):=((oN.2.mul L.bp).mono (show _<=1800 by decide)).le (by have h1:=Int.emod_nonneg o.1 (show o.2*(AB ts).1≠0 by lia);have h2:=Int.emod_lt_of_pos o.1 d;lia)
  refine ⟨_,rfl,_,rfl,_,_,rfl,.inl ⟨_,.inr "pitch",.inl S.ob,rfl,A9.symm⟩,_,_,_,_,rfl,rfl,hpp.sq,rfl,_,_,rfl,rfl,.inr ⟨br.mono (by decide),L.bq.mono (by decide)⟩,_,rfl,_,_,rfl,.inl ⟨_,.inr "off",.inl S.ob,rfl,Ar.symm⟩,_,_,_,_,rfl,rfl,hoa.sq,rfl,_,rfl,_,_,rfl,rfl,.inr ⟨oN.2.mono (by decide),L.bp.mono (by decide)⟩,_,_,rfl,d,(oN.2.mul L.bp).mono (by decide),fun n hn=>?_⟩
  have ea:p.ahead=AI (o.1%(o.2*(AB ts).1)*(AB ts).2) (o.2*(AB ts).1):=by
   unfold PS.ahead;rw [ho];show AI (o.1%(o.2*p.r.1)*p.r.2) (o.2*p.r.1)=_;rw [P.rr]
  exact q n _ (sN hn _) (by rw [ea];exact .inl uS)

def Zl (K:zP):Sp:=fun vs H Q _=>∃ (c:Int) (s W:Addr) (l:LS) (N:Addr->Prop),vs=[.int c,.ref s,.ref W]/\Al K N H s l.ps/\Qt l/\l.book.length<96/\BB K H W (l.shop.map V.int) /\
 ∀ (q:Req) (wv:V) (r:Addr) (H':Hp),AE H H'->H r=none->H' r=some (.tup [.str (Req.word q),wv])->Dy K H' wv q->AZ l q=none->Qt (l.push q.deed)->Q (.ref r) H'
theorem qa {f:Int}:-200<=f%401-200/\f%401-200<=200:=by lia
theorem qb {f:Int}:1<=1+f / 401%60/\1+f / 401%60<=1000:=by lia
theorem qc {f:Int}:(1<=1+f%90/\1+f%90<=200)/\1<=1+f / 90%60/\1+f / 90%60<=1000:=by lia
theorem qd {f:Int}:-30<=f%61-30/\f%61-30<=30:=by lia
theorem qm {t b:Int} (h:-200<=t/\t<=200) (b1:1<=b):-(200*b)<=t/\t<=200*b:=by lia
theorem FY {i:Int} (h:-200<=i/\i<=1000):Bd 200 i:=Bd.of60 (by lia) (by lia)
theorem Qi (T:Txt K mg):zH P w K mg base "_law_quiet" ["_law_cell","_law_s","_law_wheels"] 5 (Zl K):=by
 refine Ad T.Tu Jc (fun vs H Q E h=>?_) (fun f cdv A outer s H vs Q E hr h=>?_)
 ·obtain ⟨c,s,W,l,N,rfl,_⟩:=h
  rfl
 obtain ⟨c,s,W,l,N,rfl,S0,Qt0,hb,hW,q⟩:=h;have S0':=S0;obtain ⟨t,pi,wk,pl,ov,cu,tu,mo,S⟩:=S0;refine ⟨_,(@pK _ _ _ _ _ (@qK _ _ 3 _ _ _ _ Jc.nd rfl (Or.inl rfl) (qC qX (pv 0) pZ) (by rfl) (by trivial))
 (@pK _ _ _ _ _ (qM (BQ (qR (BX (qN (qV hr) (pv 1) pS (fun _ _=>rfl)))) (B3 (B0 (qR (CO (qC qT (pv 0) pZ) pZ)) (CT (A5 (qZ (qN (qV hr) (pv 1) pS (fun _ _=>rfl)))))).pt)).pt
 (@pO _ _ _ (@pR _ _ _ _ (@zB _ _ _ _ _ (pA pS (pA (pD (Qf T) hr (pA (pv 3) (pA (pv 2) pI))) pI)))))
 qG)
 (@pK _ _ _ _ _ (@qK _ _ 4 _ _ _ _ Jc.nd rfl (Or.inl rfl) (@zB _ _ _ _ _ (pA (qC C5 (qC qT (pv 3) pZ) pZ) (pA (qC BP pZ (qC qT (qC qX (pv 3) pZ) pZ)) pI))) (by rfl) (by trivial))
 (@pK _ _ _ _ _ (qM (qZ (qN (qV hr) (pv 1) pS (fun _ _=>rfl)))
 (@pO _ _ _ (@pR _ _ _ _ (@qD _ _ _ _ _ _ _ qY (@zA _ _ _ _ (pA (@zB _ _ _ _ _ (pA pS (pA (@zB _ _ _ _ _ (pA (qC BP pZ (qC qT (pv 3) pZ)) (pA (qC BP pZ (qC qT (qC qX (pv 3) pZ) pZ)) pI))) pI))) (pA (@zB _ _ _ _ _ (pA pS (pA BC pI))) (pA (@zB _ _ _ _ _ (pA pS (pA (pv 4) pI))) pI)))) (qC qT (qC qT (pv 0) pZ) pZ) (fun _ _=>rfl))))
 qG)
 (@pK _ _ _ _ _ (qM (B0 (qR (Eg (qC qT (pv 0) pZ) pZ)) (CT (BQ (qR (BX (qN (qV hr) (pv 1) pS (fun _ _=>rfl)))) (B3 (qR (CO (@qD _ _ _ _ _ _ _ iT (qN (qV hr) (pv 1) pS (fun _ _=>rfl)) pZ (fun _ _=>rfl)) pZ)))).pt)).pt
 (@pO _ _ _ (@pR _ _ _ _ (@zB _ _ _ _ _ (pA pS (pA BC pI)))))
 qG)
 (@pK _ _ _ _ _ (qM (B0 (qR (CO (qC qT (pv 0) pZ) pZ)) (CT (A5 (qZ (pD (IW T) hr (pA (qN (qV hr) (pv 1) pS (fun _ _=>rfl)) (pA (pD (Da T) hr (pA (pD (IV T) hr (pA (pv 1) pI)) (pA (@zB _ _ _ _ _ (pA pZ (pA pZ pI))) pI))) pI))))))).pt
 (@pO _ _ _ (@pR _ _ _ _ (@zB _ _ _ _ _ (pA pS (pA BC pI)))))
 qG)
 (@pK _ _ _ _ _ (qM (B0 (qR (CO (qC qT (pv 0) pZ) pZ)) (B0 (qR (EG (qN (qV hr) (pv 1) pS (fun _ _=>rfl)))) (CT (qR (Gy (@qD _ _ _ _ _ _ _ iT (qN (qV hr) (pv 1) pS (fun _ _=>rfl)) pZ (fun _ _=>rfl)) pZ))))).pt
 (@pO _ _ _ (@pR _ _ _ _ (@zB _ _ _ _ _ (pA pS (pA (@zB _ _ _ _ _ (pA (qC C5 (qC qU (@qD _ _ _ _ _ _ _ iT (qN (qV hr) (pv 1) pS (fun _ _=>rfl)) pZ (fun _ _=>rfl)) (qC C5 (qC qT (pv 3) pZ) pZ)) (qC qT (@qD _ _ _ _ _ _ _ iT (qN (qV hr) (pv 1) pS (fun _ _=>rfl)) pZ (fun _ _=>rfl)) (@qD _ _ _ _ _ _ _ iT (qN (qV hr) (pv 1) pS (fun _ _=>rfl)) pZ (fun _ _=>rfl)))) (pA (@qD _ _ _ _ _ _ _ iT (qN (qV hr) (pv 1) pS (fun _ _=>rfl)) pZ (fun _ _=>rfl)) pI))) pI)))))
 qG)
 (@pO _ _ _ (@pR _ _ _ _ (@qD _ _ _ _ _ _ _ qY (@zA _ _ _ _ (pA (@zB _ _ _ _ _ (pA pS (pA (pv 4) pI))) (pA (@zB _ _ _ _ _ (pA pS (pA (pv 4) pI))) (pA (@zB _ _ _ _ _ (pA pS (pA (@zB _ _ _ _ _ (pA (qC C5 (qC qT (pv 3) pZ) pZ) (pA pZ pI))) pI))) pI)))) (qC qT (pv 3) pZ) (fun _ _=>rfl))))))))))),?_⟩
 have Re:=Qt0.reach;have G:=Re.good;have hpi:=S.pi';have hof:=S.of';refine ⟨_,rfl,_,_,rfl,rfl,⟨by decide,by unfold Bd;decide⟩,?_⟩
 dsimp only;generalize hfar:c / 8=far;have fin:∀ (rq:Req) (wv:V) (H1:Hp) (r:Addr),AE H H1->H1 r=none->Dy K H1 wv rq->(AZ l rq=none/\Qt (l.push rq.deed))->Q (.ref r) (AC H1 r (.tup [.str (Req.word rq),wv])):=fun rq wv H1 r s1 hr hv dq =>
  q rq wv r _ (s1.trans (sN hr _)) (s1.free hr) uS (hv.tups (AE.tups (sN hr _))) dq.1 dq.2
 rcases hpn:l.ps.pitch with _|rt
 ·rw [hpn] at hpi
  cases (show pi = .non from hpi);have cl:l.ps.closed=false:=by rw [Re.open0 hpn];rfl
  exact ⟨_,rfl,_,_,rfl,.inl ⟨_,.inr "pitch",.inl S.ob,rfl,A9.symm⟩,_,rfl,qF rfl (Ab (by
   refine ⟨_,rfl,_,rfl,_,W,l.shop,rfl,hW,G.shop,G.l2,G.l12,fun ms p H1 R nd sub s1 np hp=>⟨(by exact My.AL),fun r hr=>?_⟩⟩
   exact fin (.mount ms) (.ref p) H1 r s1 hr ⟨p,rfl,.inl hp,Nat.le_trans R.len2 (by decide),R.bd⟩ (Qt0.mount sub cl R.len nd (by lia))))⟩
 rw [hpn] at hpi;obtain ⟨pp,rfl,hpp⟩:=hpi;obtain ⟨ts,P⟩:=Re.pcOf' (by rw [hpn];exact fun z=>nomatch z)
 refine (fun (kr:∀ H1:Hp,H=H1->(?GR:Hp->Prop) H1)=>?main1) ?krp
 case main1 =>
  refine ⟨_,rfl,_,_,rfl,.inl ⟨_,.inr "pitch",.inl S.ob,rfl,A9.symm⟩,_,rfl,qE (fun z=>by cases z) ?_⟩
  refine ⟨_,rfl,_,_,rfl,rfl,(by show (0:Int)<8;decide),_,_,rfl,rfl,_,rfl,?_⟩
  refine BW (fun c7=>?_) (fun c7=>?_)
  ·cases hcl:l.ps.closed with
   | false=>exact ⟨_,rfl,_,_,rfl,.inl ⟨_,.inr "closed",.inl S.ob,rfl,Aw.symm⟩,_,rfl,by
    rw [hcl];exact Ab (by
     refine ⟨_,rfl,_,rfl,_,W,l.shop,rfl,hW,G.shop,G.l2,G.l12,fun ms p H1 R nd sub s1 np hp=>⟨(by exact My.AL),fun r hr=>?_⟩⟩
     exact fin (.mount ms) (.ref p) H1 r s1 hr ⟨p,rfl,.inl hp,Nat.le_trans R.len2 (by decide),R.bd⟩ (Qt0.mount sub hcl R.len nd (by lia)))⟩
   | true=>exact ⟨_,rfl,_,_,rfl,.inl ⟨_,.inr "closed",.inl S.ob,rfl,Aw.symm⟩,_,rfl,by rw [hcl];refine AN ?_;exact kr H rfl⟩
  ·refine AN ?_
   exact kr H rfl
 case krp =>
  rintro _ rfl
  refine ⟨_,rfl,_,_,rfl,rfl,(by show (0:Int)<401;decide),_,_,rfl,rfl,_,rfl,_,_,rfl,rfl,⟨by decide,by unfold Bd;decide⟩,_,_,rfl,rfl,(by show (0:Int)<60;decide),_,_,rfl,rfl,(by exact My.AL),fun am ham=>?_⟩
  dsimp only;have sa:=sN ham (.tup [.int (far%401-200),.int (1+far / 401%60)]);have Sa:=S.same sa;have bA:Bd 200 (far%401-200):=FY ⟨qa.1,Int.le_trans qa.2 (by decide)⟩
  have bB:Bd 200 (1+far / 401%60):=FY ⟨Int.le_trans (by decide) qb.1,qb.2⟩
  have hA:AO K (AC H am (.tup [.int (far%401-200),.int (1+far / 401%60)])) am (far%401-200,1+far / 401%60):=.inl uS;generalize AC H am _=Ha at sa Sa hA ⊢;cases hcl:l.ps.closed with
  | true =>
   refine ⟨_,rfl,_,_,rfl,.inl ⟨_,.inr "closed",.inl Sa.ob,rfl,Aw.symm⟩,_,rfl,?_⟩;rw [hcl];refine Ab ?_;refine ⟨_,rfl,_,_,rfl,rfl,(by show (0:Int)<90;decide),_,_,rfl,rfl,_,rfl,_,_,rfl,rfl,⟨by decide,by unfold Bd;decide⟩,_,_,rfl,rfl,(by show (0:Int)<60;decide),_,_,rfl,rfl,(by exact My.AL),fun t1 ht1=>?_⟩
   dsimp only;have s1:=sN ht1 (.tup [.int (1+far%90),.int (1+far / 90%60)]);have h1:AO K (AC Ha t1 (.tup [.int (1+far%90),.int (1+far / 90%60)])) t1 (1+far%90,1+far / 90%60):=.inl uS;generalize AC Ha t1 _=H1 at s1 h1 ⊢;refine ⟨(by exact My.AL),fun u1 hu1=>?_⟩
   have s2:=sN hu1 (.tup [.str "cut",.ref t1]);refine ⟨(by exact My.AL),fun u2 hu2=>?_⟩
   have s3:=sN hu2 (.tup [.str "open",.non]);refine ⟨_,rfl,(by exact My.AL),fun u3 hu3=>?_⟩
   have s4:=sN hu3 (.tup [.str "turn",.ref am]);refine ⟨(by exact My.EO),fun L hL=>?_⟩
   have s5:=sN hL (.lst [.ref u1,.ref u2,.ref u3]);obtain ⟨v,hv,v1⟩:=KG (x:=V.ref u1) (y:=V.ref u2) (z:=V.ref u3) (i:=c%8%3) (by lia) (by lia)
   refine ⟨_,rfl,_,_,rfl,rfl,(by show (0:Int)<8;decide),_,_,rfl,rfl,(by show (0:Int)<3;decide),L,_,_,_,rfl,rfl,AF.of uS,hv,?_⟩
   have sx:=s2.trans (s3.trans (s4.trans s5));have sy:=sa.trans s1;rcases v1 with ⟨_,e⟩|⟨_,e⟩|⟨_,e⟩
   ·rw [e]
    have dq:=Qt0.cut P hcl (t:=1+far%90) (b:=1+far / 90%60) qc.2.1 qc.2.2 qc.1.1 qc.1.2 hb;exact q (.cut (1+far%90) (1+far / 90%60)) (.ref t1) u1 _ (sy.trans sx) (sy.free hu1) (s5 _ _ (s4 _ _ (s3 _ _ uS))) ⟨t1,rfl,h1.mono sx,FY ⟨Int.le_trans (by decide) qc.1.1,Int.le_trans qc.1.2 (by decide)⟩,FY ⟨Int.le_trans (by decide) qc.2.1,qc.2.2⟩⟩ dq.1 dq.2
   ·rw [e]
    have dq:=Qt0.opn P hcl hb;exact q .opn .non u2 _ (sy.trans sx) ((sy.trans s2).free hu2) (s5 _ _ (s4 _ _ uS)) rfl dq.1 dq.2
   ·rw [e]
    have dq:=Qt0.turn P (t:=far%401-200) (b:=1+far / 401%60) qb.1 qb.2 qa.1 qa.2 hb;exact q (.turn (far%401-200) (1+far / 401%60)) (.ref am) u3 _ (sy.trans sx) ((sy.trans (s2.trans s3)).free hu3) (s5 _ _ uS) ⟨am,rfl,hA.mono (s1.trans sx),bA,bB⟩ dq.1 dq.2
  | false =>
   refine ⟨_,rfl,_,_,rfl,.inl ⟨_,.inr "closed",.inl Sa.ob,rfl,Aw.symm⟩,_,rfl,?_⟩;rw [hcl];refine AN ?_;refine (fun (kl:∀ H1:Hp,AE Ha H1->(?GL:Hp->Prop) H1)=>?main2) ?klp
   case main2 =>
    refine (fun (kv:∀ H1:Hp,AE Ha H1->(?GV:Hp->Prop) H1)=>?main3) ?kvp
    case main3 =>
     refine (fun (kw:∀ H1:Hp,Ha=H1->(?GW:Hp->Prop) H1)=>?main4) ?kwp
     case main4 =>
      refine ⟨_,rfl,_,_,rfl,rfl,(by show (0:Int)<8;decide),_,_,rfl,rfl,_,rfl,?_⟩
      refine BW (fun c3=>?_) (fun c3=>?_)
      rotate_left
      ·refine AN ?_
       exact kw Ha rfl
      have ho1:=Sa.of';rcases ho:l.ps.off with _|o
      ·rw [ho] at ho1
       cases (show ov = .non from ho1);refine ⟨_,rfl,_,_,rfl,.inl ⟨_,.inr "off",.inl Sa.ob,rfl,Ar.symm⟩,_,rfl,qF rfl (Ab ⟨(by exact My.AL),fun r hr=>?_⟩)⟩
       exact fin .close .non Ha r sa hr rfl (Qt0.close P hcl (by rw [ho];rfl) hb)
      ·rw [ho] at ho1
       obtain ⟨oa,rfl,hoa⟩:=ho1;refine ⟨_,rfl,_,_,rfl,.inl ⟨_,.inr "off",.inl Sa.ob,rfl,Ar.symm⟩,_,rfl,qE (fun z=>by cases z) ?_⟩
       refine ⟨_,rfl,_,_,rfl,.inl ⟨_,.inr "off",.inl Sa.ob,rfl,Ar.symm⟩,_,_,_,_,rfl,rfl,hoa.sq,rfl,_,_,rfl,rfl,_,rfl,?_⟩;refine BW (fun cb=>?_) (fun cb=>?_)
       rotate_left
       ·exact kw Ha rfl
       refine ⟨(by exact My.AL),fun r hr=>?_⟩
       exact fin .close .non Ha r sa hr rfl (Qt0.close P hcl (by rw [ho];exact cb) hb)
     case kwp =>
      rintro _ rfl
      refine ⟨_,rfl,_,_,rfl,rfl,(by show (0:Int)<8;decide),_,_,rfl,rfl,_,rfl,?_⟩
      refine BW (fun c3=>?_) (fun c3=>?_)
      rotate_left
      ·refine AN ?_
       exact kv Ha (AE.refl _)
      have aO:=(DW P).1;have wN:=P.waitN;have tN:=P.turnedN;refine ⟨_,rfl,_,_,rfl,.inl ⟨_,.inr "turned",.inl Sa.ob,rfl,FZ.symm⟩,_,rfl,s,l.ps,ts,N,rfl,S0'.same sa,P,fun n1 H1 s1 hn1=>?_⟩;refine ⟨(by exact My.AL),fun n2 hn2=>?_⟩
      have s2:=sN hn2 (.tup [.int 20000,.int 1]);refine ⟨n1,n2,l.ps.ahead.1,l.ps.ahead.2,20000,1,rfl,hn1.mono s2,.inl uS,wN.1.1.mono (by decide),wN.1.2.mono (by decide),(BE (by decide) (by decide)).mono (by decide),(BE (by decide) (by decide)).mono (by decide),by have:=aO.pos;lia,by decide,fun n3 hn3=>?_⟩
      have s3:=sN hn3 (.tup [.int (AJ l.ps.ahead (20000,1)).1,.int (AJ l.ps.ahead (20000,1)).2]);have sx:=s1.trans (s2.trans s3);have bq:=GX (c:=l.ps.ahead) (x:=20000) (y:=1) wN.1.1 wN.1.2 ((BE (by decide) (by decide)).mono (by decide)) ((BE (by decide) (by decide)).mono (by decide)) aO.ne (by decide)
      have ok:=Bn (a:=l.ps.ahead) (b:=(20000,1)) aO.ne (by decide)
      have e20:AR (20000,1)=(20000,1):=rfl;rw [e20] at bq;refine ⟨tu,n3,l.ps.turned,(AJ l.ps.ahead (20000,1)).1,(AJ l.ps.ahead (20000,1)).2,rfl,(Sa.same sx).tu',.inl uS,tN.1.mono (by decide),tN.2.mono (by decide),bq.1,bq.2,by have:=P.t.pos;lia,by have:=ok.pos;lia,fun H4 s4=>⟨_,rfl,?_⟩⟩
      cases htm:Ag l.ps.turned (AJ l.ps.ahead (20000,1)) with
      | true=>refine AN ?_;exact kv H4 (sx.trans s4)
      | false =>
       refine Ab ⟨(by exact My.AL),fun r hr=>?_⟩
       exact fin .wait .non H4 r (sa.trans (sx.trans s4)) hr rfl (Qt0.wait P hcl htm hb)
    case kvp =>
     intro H1 s1;refine ⟨_,rfl,_,_,rfl,rfl,(by show (0:Int)<8;decide),_,_,rfl,rfl,_,rfl,?_⟩
     refine BW (fun c4=>?_) (fun c4=>?_)
     rotate_left
     ·refine AN ?_
      exact kl H1 s1
     have S1:=Sa.same s1;have ho1:=S1.of';rcases ho:l.ps.off with _|o
     ·rw [ho] at ho1
      cases (show ov = .non from ho1);exact ⟨_,rfl,_,_,rfl,.inl ⟨_,.inr "off",.inl S1.ob,rfl,Ar.symm⟩,_,rfl,AN (AN (by exact kl H1 s1))⟩
     ·rw [ho] at ho1
      obtain ⟨oa,rfl,hoa⟩:=ho1;have o2:=(P.o o ho).pos;refine ⟨_,rfl,_,_,rfl,.inl ⟨_,.inr "off",.inl S1.ob,rfl,Ar.symm⟩,_,rfl,Ab ?_⟩;refine ⟨_,rfl,_,_,rfl,.inl ⟨_,.inr "off",.inl S1.ob,rfl,Ar.symm⟩,_,_,_,_,rfl,rfl,hoa.sq,rfl,_,_,rfl,rfl,_,rfl,?_⟩;refine BW (fun cb=>?_) (fun cb=>?_)
      rotate_left
      ·exact kl H1 s1
      have r0:=Int.emod_nonneg o.1 (show o.2≠0 by lia)
      have r1:=Int.emod_lt_of_pos o.1 (show 0<o.2 by lia)
      have k1:-30<=far%61-30:=qd.1;have k2:far%61-30<=30:=qd.2;have m1:=Int.mul_le_mul_of_nonneg_left k1 (show 0<=o.2 by lia)
      have m2:=Int.mul_le_mul_of_nonneg_left k2 (show 0<=o.2 by lia)
      have bo:Bd 64 o.2:=BE (by lia) (by lia)
      have bk:Bd 200 (far%61-30):=FY ⟨Int.le_trans (by decide) qd.1,Int.le_trans qd.2 (by decide)⟩
      refine ⟨_,rfl,_,_,rfl,.inl ⟨_,.inr "off",.inl S1.ob,rfl,Ar.symm⟩,_,_,_,_,rfl,rfl,hoa.sq,rfl,_,rfl,_,_,rfl,rfl,(by show (0:Int)<61;decide),_,_,rfl,rfl,_,_,rfl,rfl,.inr ⟨bo.mono (by decide),bk.mono (by decide)⟩,_,rfl,_,_,rfl,.inl ⟨_,.inr "off",.inl S1.ob,rfl,Ar.symm⟩,_,_,_,_,rfl,rfl,hoa.sq,rfl,_,rfl,_,_,rfl,.inl ⟨_,.inr "off",.inl S1.ob,rfl,Ar.symm⟩,_,_,_,_,rfl,rfl,hoa.sq,rfl,_,_,rfl,rfl,(by show 0<o.2;lia),_,_,rfl,rfl,_,rfl,_,_,rfl,.inl ⟨_,.inr "off",.inl S1.ob,rfl,Ar.symm⟩,_,_,_,_,rfl,rfl,hoa.sq,rfl,(by exact My.AL),fun t2 ht2=>?_⟩
      have s2:=sN ht2 (.tup [.int (o.2*(far%61-30)-o.1%o.2),.int o.2]);refine ⟨(by exact My.AL),fun r hr=>?_⟩
      exact fin (.move (o.2*(far%61-30)-o.1%o.2) o.2) (.ref t2) _ r (sa.trans (s1.trans s2)) hr ⟨t2,rfl,.inl uS,Bd.of60 (by lia) (by lia),Bd.of60 (by lia) (by lia)⟩ (Qt0.move P hcl (by lia) (by lia) (by lia) (by lia) hb)
   case klp =>
    intro H1 s1;refine ⟨_,rfl,(by exact My.AL),fun u1 hu1=>?_⟩
    have s2:=sN hu1 (.tup [.str "move",.ref am]);refine ⟨_,rfl,(by exact My.AL),fun u2 hu2=>?_⟩
    have s3:=sN hu2 (.tup [.str "turn",.ref am]);refine ⟨_,rfl,_,_,rfl,rfl,(by show (0:Int)<61;decide),_,_,rfl,rfl,(by exact My.AL),fun t3 ht3=>?_⟩
    have s4:=sN ht3 (.tup [.int (far%61-30),.int 1]);refine ⟨(by exact My.AL),fun u3 hu3=>?_⟩
    have s5:=sN hu3 (.tup [.str "move",.ref t3]);refine ⟨(by exact My.EO),fun L hL=>?_⟩
    have s6:=sN hL (.lst [.ref u1,.ref u2,.ref u3]);obtain ⟨v,hv,v1⟩:=KG (x:=V.ref u1) (y:=V.ref u2) (z:=V.ref u3) (i:=far%3) (by lia) (by lia)
    refine ⟨_,rfl,_,_,rfl,rfl,(by show (0:Int)<3;decide),L,_,_,_,rfl,rfl,AF.of uS,hv,?_⟩
    have sx:=s2.trans (s3.trans (s4.trans (s5.trans s6)));have sy:=sa.trans s1;rcases v1 with ⟨_,e⟩|⟨_,e⟩|⟨_,e⟩
    ·rw [e]
     have dq:=Qt0.move P hcl (t:=far%401-200) (b:=1+far / 401%60) qb.1 qb.2 (qm qa qb.1).1 (qm qa qb.1).2 hb;exact q (.move (far%401-200) (1+far / 401%60)) (.ref am) u1 _ (sy.trans sx) (sy.free hu1) (s6 _ _ (s5 _ _ (s4 _ _ (s3 _ _ uS)))) ⟨am,rfl,hA.mono (s1.trans sx),bA,bB⟩ dq.1 dq.2
    ·rw [e]
     have dq:=Qt0.turn P (t:=far%401-200) (b:=1+far / 401%60) qb.1 qb.2 qa.1 qa.2 hb;exact q (.turn (far%401-200) (1+far / 401%60)) (.ref am) u2 _ (sy.trans sx) ((sy.trans s2).free hu2) (s6 _ _ (s5 _ _ (s4 _ _ uS))) ⟨am,rfl,hA.mono (s1.trans sx),bA,bB⟩ dq.1 dq.2
    ·rw [e]
     have dq:=Qt0.move P hcl (t:=far%61-30) (b:=1) (by decide) (by decide) (qm ⟨Int.le_trans (by decide) qd.1,Int.le_trans qd.2 (by decide)⟩ (by decide)).1 (qm ⟨Int.le_trans (by decide) qd.1,Int.le_trans qd.2 (by decide)⟩ (by decide)).2 hb
     exact q (.move (far%61-30) 1) (.ref t3) u3 _ (sy.trans sx) ((sy.trans (s2.trans (s3.trans s4))).free hu3) (s6 _ _ uS) ⟨t3,rfl,.inl (s6 _ _ (s5 _ _ uS)),FY ⟨Int.le_trans (by decide) qd.1,Int.le_trans qd.2 (by decide)⟩,Bd.of60 (by decide) (by decide)⟩ dq.1 dq.2

def ZZ (K:zP) (mg:zQ):Sp:=fun vs H Q E=>∃ (a:Addr) (p:PS) (Fp:Addr->Prop),vs=[.ref a]/\An K mg Fp H a p/\(p.pitch≠none->Q .non H)/\(p.pitch=none->E (.ref (AA mg "NoTrain")) none H)
theorem DZ (T:Txt K mg):CB P w K mg base "check_mounted" ["piece"] 1 (ZZ K mg):=by
 refine Cq T.Sh Xd (fun vs H Q E h=>?_) (fun f cdv A outer s H vs Q E hr h=>?_)
 ·obtain ⟨a,p,Fp,rfl,_⟩:=h
  rfl
 obtain ⟨a,p,Fp,rfl,⟨dx,t,rv,w,c,fv,tc,mc,cu,R⟩,q1,q2⟩:=h;refine ⟨_,(@pO _ _ _ (qM (qR (BX (pF (pv 0) rfl)))
 (@pO _ _ _ (zE qI rfl T.Ow T.LE (pA pS pI)))
 qG)),?_⟩
 refine ⟨_,rfl,_,_,_,_,_,rfl,R.ob,T.cP,T.CF,rfl,_,rfl,?_⟩;have hra:=R.ra;refine BW (fun c=>?_) (fun c=>?_)
 ·refine ⟨by show 1<=sizeLine;decide,q2 ?_⟩
  cases hp:p.pitch with
  | none=>rfl
  | some x=>rw [hp] at hra;obtain ⟨n,e,_⟩:=hra;rw [c] at e;cases e
 ·refine q1 fun z=>c ?_
  rw [z] at hra;exact hra

def Ze (K:zP) (mg:zQ):Sp:=fun vs H Q E=>∃ (a:Addr) (p:PS) (Fp:Addr->Prop),vs=[.ref a]/\An K mg Fp H a p/\(p.closed=true->Q .non H)/\(p.closed=false->E (.ref (AA mg "WrongNut")) none H)
theorem Kf (T:Txt K mg):CB P w K mg base "check_nut_closed" ["piece"] 1 (Ze K mg):=by
 refine Cq T.Si Xe (fun vs H Q E h=>?_) (fun f cdv A outer s H vs Q E hr h=>?_)
 ·obtain ⟨a,p,Fp,rfl,_⟩:=h
  rfl
 obtain ⟨a,p,Fp,rfl,⟨dx,t,rv,w,c,fv,tc,mc,cu,R⟩,q1,q2⟩:=h;refine ⟨_,(@pO _ _ _ (qM (A5 (qZ (pF (pv 0) rfl)))
 (@pO _ _ _ (zE qI rfl T.Jx T.Id (pA pS pI)))
 qG)),?_⟩
 refine ⟨_,rfl,_,_,_,_,_,rfl,R.ob,T.cP,T.Dh,rfl,_,rfl,?_⟩;refine C4 (fun c=>?_) (fun c=>?_)
 ·exact ⟨by show 1<=sizeLine;decide,q2 (by simpa using c)⟩
 ·exact q1 (by simpa using c)

def Y0 (K:zP) (mg:zQ):Sp:=fun vs H Q E=>∃ (a:Addr) (x y:Int),vs=[.ref a]/\Af K H a [.int x,.int y]/\(1<=y/\y<=1000->Q .non H)/\(¬ (1<=y/\y<=1000)->E (.ref (AA mg "BadNumber")) none H)
theorem IO (T:Txt K mg):CB P w K mg base "check_bottom" ["fraction"] 2 (Y0 K mg):=by
 refine Cq T.Sc Xa (fun vs H Q E h=>?_) (fun f cdv A outer s H vs Q E hr h=>?_)
 ·obtain ⟨a,x,y,rfl,_⟩:=h
  rfl
 obtain ⟨a,x,y,rfl,hA,q1,q2⟩:=h;refine ⟨_,(@pO _ _ _ (qM (A5 (qZ (pD (Fr T) hr (pA (@qD _ _ _ _ _ _ _ iT (pv 0) pZ (fun _ _=>rfl)) (pA pZ (pA pZ pI))))))
 (@pO _ _ _ (zE qI rfl T.DE T.C3 (pA pS pI)))
 qG)),?_⟩
 refine ⟨_,rfl,_,_,_,_,rfl,rfl,hA.sq,rfl,_,_,_,rfl,_,rfl,?_⟩;refine BG (fun c=>?_) (fun c=>?_)
 ·exact ⟨by show 1<=sizeLine;decide,q2 c⟩
 ·exact q1 c

def ZT (K:zP):Sp:=fun vs H Q _=>∃ (p r:Addr) (a b c d:Int),vs=[.ref p,.ref r]/\Af K H p [.int a,.int b]/\Af K H r [.int c,.int d]/\Bd 2000 a/\Bd 2000 b/\Bd 2000 c/\Bd 2000 d/\Q (.bl (decide (a*d<c*b))) H
theorem QJ (T:Txt K mg):zH P w K mg base "is_less" ["a","b"] 1 (ZT K):=by
 refine Ad T.Sw Xk (fun vs H Q E h=>?_) (fun f cdv A outer s H vs Q E hr h=>?_)
 ·obtain ⟨p,r,a,b,c,d,rfl,_⟩:=h
  rfl
 obtain ⟨p,r,a,b,c,d,rfl,hp,hr',ba,bb,bc,bd,q⟩:=h;refine ⟨_,(@pO _ _ _ (@pR _ _ _ _ (C7 (Eg (qC qU (@qD _ _ _ _ _ _ _ iT (pv 0) pZ (fun _ _=>rfl)) (@qD _ _ _ _ _ _ _ iT (pv 1) pZ (fun _ _=>rfl))) (qC qU (@qD _ _ _ _ _ _ _ iT (pv 1) pZ (fun _ _=>rfl)) (@qD _ _ _ _ _ _ _ iT (pv 0) pZ (fun _ _=>rfl))))))),?_⟩;exact ⟨_,rfl,_,_,_,_,rfl,rfl,hp.sq,rfl,_,rfl,_,_,_,_,rfl,rfl,hr'.sq,rfl,_,_,rfl,rfl,.inr ⟨ba.mono (by decide),bd.mono (by decide)⟩,_,rfl,_,_,_,_,rfl,rfl,hr'.sq,rfl,_,rfl,_,_,_,_,rfl,rfl,hp.sq,rfl,_,_,rfl,rfl,.inr ⟨bc.mono (by decide),bb.mono (by decide)⟩,_,_,rfl,rfl,q⟩

def aI (K:zP):Sp:=fun vs H Q _=>∃ (p r:Addr) (a b c d:Int),vs=[.ref p,.ref r]/\Af K H p [.int a,.int b]/\Af K H r [.int c,.int d]/\Bd 2000 a/\Bd 2000 b/\Bd 2000 c/\Bd 2000 d/\b≠0/\d≠0 /\
 ∀ n,H n=none->Q (.ref n) (AC H n (.tup [.int (AG (a*d+c*b) (b*d)),.int (Aj (a*d+c*b) (b*d))]))
theorem Ga (T:Txt K mg):zH P w K mg base "sum_of" ["a","b"] 3 (aI K):=by
 refine Ad T.TU Xs (fun vs H Q E h=>?_) (fun f cdv A outer s H vs Q E hr h=>?_)
 ·obtain ⟨p,r,a,b,c,d,rfl,_⟩:=h
  rfl
 obtain ⟨p,r,a,b,c,d,rfl,hp,hr',ba,bb,bc,bd,b0,d0,q⟩:=h;refine ⟨_,(@pO _ _ _ (@pR _ _ _ _ (pD (Cb T) hr (pA (qC BP (qC qU (@qD _ _ _ _ _ _ _ iT (pv 0) pZ (fun _ _=>rfl)) (@qD _ _ _ _ _ _ _ iT (pv 1) pZ (fun _ _=>rfl))) (qC qU (@qD _ _ _ _ _ _ _ iT (pv 1) pZ (fun _ _=>rfl)) (@qD _ _ _ _ _ _ _ iT (pv 0) pZ (fun _ _=>rfl)))) (pA (qC qU (@qD _ _ _ _ _ _ _ iT (pv 0) pZ (fun _ _=>rfl)) (@qD _ _ _ _ _ _ _ iT (pv 1) pZ (fun _ _=>rfl))) pI))))),?_⟩;exact ⟨_,rfl,_,_,_,_,rfl,rfl,hp.sq,rfl,_,rfl,_,_,_,_,rfl,rfl,hr'.sq,rfl,_,_,rfl,rfl,.inr ⟨ba.mono (by decide),bd.mono (by decide)⟩,_,rfl,_,_,_,_,rfl,rfl,hr'.sq,rfl,_,rfl,_,_,_,_,rfl,rfl,hp.sq,rfl,_,_,rfl,rfl,.inr ⟨bc.mono (by decide),bb.mono (by decide)⟩,_,_,rfl,rfl,_,rfl,_,_,_,_,rfl,rfl,hp.sq,rfl,_,rfl,_,_,_,_,rfl,rfl,hr'.sq,rfl,_,_,rfl,rfl,.inr ⟨bb.mono (by decide),bd.mono (by decide)⟩,_,_,rfl,Int.mul_ne_zero b0 d0,(bb.mul bd).mono (by decide),q⟩

def Y7 (K:zP):Sp:=fun vs H Q _=>∃ (p r:Addr) (c:Q2) (x y:Int),vs=[.ref p,.ref r]/\AO K H p c/\AO K H r (x,y)/\Bd 2000 c.1/\Bd 2000 c.2/\Bd 2000 x/\Bd 2000 y/\c.2≠0/\y≠0 /\
 ∀ n H',AE H H'->H n=none->H' n=some (.tup [.int (AJ c (AR (x,y))).1,.int (AJ c (AR (x,y))).2])->Q (.ref n) H'
theorem IP (T:Txt K mg):zH P w K mg base "counted" ["count","amount"] 4 (Y7 K):=by
 refine Ad T.Sn Xh (fun vs H Q E h=>?_) (fun f cdv A outer s H vs Q E hr h=>?_)
 ·obtain ⟨p,r,c,x,y,rfl,_⟩:=h
  rfl
 obtain ⟨p,r,c,x,y,rfl,hp,hR,b1,b2,b3,b4,n1,n2,q⟩:=h;refine ⟨_,(@pO _ _ _ (@pR _ _ _ _ (pD (Ga T) hr (pA (pv 0) (pA (@zB _ _ _ _ _ (pA (qJ EV (by rfl) T.Eu PyProof.Rows.boot_abs (pA (@qD _ _ _ _ _ _ _ iT (pv 1) pZ (fun _ _=>rfl)) pI)) (pA (@qD _ _ _ _ _ _ _ iT (pv 1) pZ (fun _ _=>rfl)) pI))) pI))))),?_⟩
 refine ⟨_,rfl,_,rfl,_,_,_,_,rfl,rfl,hR.sq,rfl,_,rfl,_,rfl,_,_,_,_,rfl,rfl,hR.sq,rfl,(by exact My.AL),fun m hm=>?_⟩
 have s1:=sN hm (.tup [.int (if x<0 then -x else x),.int y])
 refine ⟨p,m,_,_,_,_,rfl,hp.mono s1,.inl uS,b1,b2,(b3.le (by split <;> lia)),b4,n1,n2,fun n hn=>?_⟩
 exact q n _ (s1.trans (sN hn _)) (s1.free hn) uS

def Y6 (K:zP) (mg:zQ):Sp:=fun vs H Q E=>∃ (p r:Addr) (c:Q2) (x y:Int),vs=[.ref p,.ref r]/\AO K H p c/\AO K H r (x,y)/\Bd 2000 c.1/\Bd 2000 c.2/\Bd 2000 x/\Bd 2000 y/\c.2≠0/\y≠0 /\
 Bd 2000 (AJ c (AR (x,y))).1/\Bd 2000 (AJ c (AR (x,y))).2 /\
 (Ag c (x,y)=false->∀ H',AE H H'->Q .non H')/\(Ag c (x,y)=true->∀ H',AE H H'->E (.ref (AA mg "BadNumber")) none H')
theorem GY (T:Txt K mg):CB P w K mg base "check_count" ["count","amount"] 5 (Y6 K mg):=by
 refine Cq T.Se Xb (fun vs H Q E h=>?_) (fun f cdv A outer s H vs Q E hr h=>?_)
 ·obtain ⟨p,r,c,x,y,rfl,_⟩:=h
  rfl
 obtain ⟨p,r,c,x,y,rfl,hp,hR,b1,b2,b3,b4,n1,n2,b5,b6,q1,q2⟩:=h;refine ⟨_,(@pO _ _ _ (qM (qZ (pD (QJ T) hr (pA (Bz (by rfl) T.SK (v:=.ref (AA mg "MOST_COUNTED")) rfl) (pA (pD (IP T) hr (pA (pv 0) (pA (pv 1) pI))) pI))))
 (@pO _ _ _ (zE qI rfl T.DE T.C3 (pA pS pI)))
 qG)),?_⟩
 refine ⟨_,rfl,_,rfl,p,r,c,x,y,rfl,hp,hR,b1,b2,b3,b4,n1,n2,fun n H' s n0 hn=>?_⟩;have e:decide ((100000:Int)*(AJ c (AR (x,y))).2<(AJ c (AR (x,y))).1*1)=Ag c (x,y):=by unfold Ag;rw [Int.mul_one]
 refine ⟨_,n,100000,1,(AJ c (AR (x,y))).1,(AJ c (AR (x,y))).2,rfl,.inr T.bN,.inl hn,FE.mono (by decide),(BE (by decide) (by decide)).mono (by decide),b5,b6,_,rfl,?_⟩
 rw [e];refine C4 (fun c=>?_) (fun c=>?_)
 ·exact ⟨by show 1<=sizeLine;decide,q2 c _ s⟩
 ·exact q1 (by simpa using c) _ s

def Z7 (K:zP) (mg:zQ):Sp:=fun vs H Q _=>∃ a p Fp,vs=[.ref a]/\An K mg Fp H a p/\Dx p /\
 ∀ b H' Fq,AE H H'->H b=none->(∀ z,Fq z->H z=none)->(∀ z,Fq z->∃ o,H' z=some o)->An K mg Fq H' b p->Q (.ref b) H'
theorem FN (T:Txt K mg):zI P w K mg base (AA mg "Piece") "twin" ["self"] 6 (Z7 K mg):=by
 obtain ⟨f,fd,F,hm,hb⟩:=T.Uo;refine ⟨f,fd,F.ok1 OT (fun vs H Q E h=>?_) (fun cdv A outer s H vs Q E hr h=>?_),hm,T.cP,hb⟩
 ·obtain ⟨a,p,Fp,rfl,_⟩:=h
  rfl
 obtain ⟨a,p,Fp,rfl,⟨dx,t,rv,w,c,fv,tc,mc,cu,R⟩,Pc0,q⟩:=h;refine ⟨_,(@pK _ _ _ _ _ (@qK _ _ 1 _ _ _ _ OT.nd rfl (Or.inl rfl) (HC (IX T) hr (qH qI) (pA (pF (pv 0) rfl) pI)) (by rfl) (by trivial))
 (@pK _ _ _ _ _ (zD (pv 1) (pF (pv 0) rfl) rfl)
 (@pK _ _ _ _ _ (zD (pv 1) (pF (pv 0) rfl) rfl)
 (@pK _ _ _ _ _ (zD (pv 1) (pF (pv 0) rfl) rfl)
 (@pK _ _ _ _ _ (zD (pv 1) (pF (pv 0) rfl) rfl)
 (@pK _ _ _ _ _ (zD (pv 1) (pF (pv 0) rfl) rfl)
 (@pK _ _ _ _ _ (zD (pv 1) (pF (pv 0) rfl) rfl)
 (@pK _ _ _ _ _ (zD (pv 1) (zG FG (by rfl) T.DF PyProof.Rows.boot_list (pA (pF (pv 0) rfl) pI)) rfl)
 (@pO _ _ _ (@pR _ _ _ _ (pv 1))))))))))),?_⟩
 obtain ⟨htr,hpi⟩:=Pc0.train;obtain ⟨rs,hrs,prs⟩:=R.cu;refine ⟨_,rfl,_,_,_,_,_,rfl,R.ob,T.cP,T.Ir,rfl,fun x dx2 nx ndx ne=>?_⟩;have sx:AE H (AC (AC H dx2 (.own x)) x (.ins (AA mg "Piece") dx2 [])):=fun b o e=>by rw [uN (nQ e nx),uN (nQ e ndx)];exact e
 refine ⟨x,dx2,t,p.train,rfl,uS,R.tr.mono sx,htr,fun H1 rv1 cu1 k1 ncu1 hob hcu1 hrv=>⟨rfl,?_⟩⟩;have s1:AE H H1:=fun b o e=>k1 b o (sx b o e) (nQ e nx);have hax:a≠x:=nQ R.ob nx;have a1:=s1 _ _ R.ob;refine ⟨_,rfl,_,_,_,_,_,rfl,a1,T.cP,T.Dk,rfl,_,rfl,_,_,_,_,rfl,hob,T.cP,T.Dk,Nat.le_of_ble_eq_true rfl,?_⟩;refine ⟨_,rfl,_,_,_,_,_,rfl,((uN hax).trans a1),T.cP,T.DL,rfl,_,rfl,_,_,_,_,rfl,uS,T.cP,T.DL,Nat.le_of_ble_eq_true rfl,?_⟩;refine ⟨_,rfl,_,_,_,_,_,rfl,((uN hax).trans ((uN hax).trans a1)),T.cP,T.Dh,rfl,_,rfl,_,_,_,_,rfl,uS,T.cP,T.Dh,Nat.le_of_ble_eq_true rfl,?_⟩;refine ⟨_,rfl,_,_,_,_,_,rfl,((uN hax).trans ((uN hax).trans ((uN hax).trans a1))),T.cP,T.Ch,rfl,_,rfl,_,_,_,_,rfl,uS,T.cP,T.Ch,Nat.le_of_ble_eq_true rfl,?_⟩;refine ⟨_,rfl,_,_,_,_,_,rfl,((uN hax).trans ((uN hax).trans ((uN hax).trans ((uN hax).trans a1)))),T.cP,T.Dj,rfl,_,rfl,_,_,_,_,rfl,uS,T.cP,T.Dj,Nat.le_of_ble_eq_true rfl,?_⟩;refine ⟨_,rfl,_,_,_,_,_,rfl,((uN hax).trans ((uN hax).trans ((uN hax).trans ((uN hax).trans ((uN hax).trans a1))))),T.cP,T.Ee,rfl,_,rfl,_,_,_,_,rfl,uS,T.cP,T.Ee,Nat.le_of_ble_eq_true rfl,?_⟩;have hcx:cu≠x:=nQ hrs nx;have c1:=s1 _ _ hrs;refine ⟨_,rfl,_,_,_,_,_,rfl,((uN hax).trans ((uN hax).trans ((uN hax).trans ((uN hax).trans ((uN hax).trans ((uN hax).trans a1)))))),T.cP,T.Di,rfl,cu,_,rfl,.inl (AF.of ((uN hcx).trans ((uN hcx).trans ((uN hcx).trans ((uN hcx).trans ((uN hcx).trans ((uN hcx).trans c1))))))),fun cu2 hcu2=>?_⟩;have cx:cu2≠x:=fun z=>by rw [z,uS] at hcu2;cases hcu2
 refine ⟨_,rfl,_,_,_,_,rfl,((uN (Ne.symm cx)).trans uS),T.cP,T.Di,Nat.le_of_ble_eq_true rfl,_,rfl,?_⟩;obtain ⟨s2,R2⟩:=twin_rep (dx2:=dx2) R nx hcu2 cx (fun b o e=>by
  have n:=nQ e nx;exact (uN n).trans ((uN n).trans ((uN n).trans ((uN n).trans ((uN n).trans ((uN n).trans (s1 b o e))))))) prs (by
  rw [hpi];refine hrv.tups fun b xs e=>?_;have n:b≠x:=fun z=>by rw [z,hob] at e;cases e
  exact (uN n).trans ((uN n).trans ((uN n).trans ((uN n).trans ((uN n).trans ((uN n).trans e)))))) uS
 refine q x _ (fun z=>z=x\/z=cu2) s2 nx (fun z hz=>?_) (fun z hz=>?_) ⟨dx2,t,rv1,w,c,fv,tc,mc,cu2,R2⟩
 ·rcases hz with rfl|rfl
  ·exact nx
  ·rw [uN cx,uN cx,uN cx,uN cx,uN cx,uN cx] at hcu2
   exact s1.free hcu2
 ·rcases hz with rfl|rfl
  ·exact ⟨_,uS⟩
  ·exact ⟨_,(uN cx).trans uS⟩

def aD (K:zP):Sp:=fun vs H Q _=>∃ (p r:Addr) (a b c d:Int),vs=[.ref p,.ref r]/\Af K H p [.int a,.int b]/\Af K H r [.int c,.int d]/\Bd 2000 a/\Bd 2000 b/\Bd 2000 c/\Bd 2000 d/\b≠0/\d≠0 /\
 ∀ n,H n=none->Q (.ref n) (AC H n (.tup [.int (AG (a*c) (b*d)),.int (Aj (a*c) (b*d))]))
theorem IR (T:Txt K mg):zH P w K mg base "product" ["a","b"] 3 (aD K):=by
 refine Ad T.TC Xn (fun vs H Q E h=>?_) (fun f cdv A outer s H vs Q E hr h=>?_)
 ·obtain ⟨p,r,a,b,c,d,rfl,_⟩:=h
  rfl
 obtain ⟨p,r,a,b,c,d,rfl,hp,hr',ba,bb,bc,bd,b0,d0,q⟩:=h;refine ⟨_,(@pO _ _ _ (@pR _ _ _ _ (pD (Cb T) hr (pA (qC qU (@qD _ _ _ _ _ _ _ iT (pv 0) pZ (fun _ _=>rfl)) (@qD _ _ _ _ _ _ _ iT (pv 1) pZ (fun _ _=>rfl))) (pA (qC qU (@qD _ _ _ _ _ _ _ iT (pv 0) pZ (fun _ _=>rfl)) (@qD _ _ _ _ _ _ _ iT (pv 1) pZ (fun _ _=>rfl))) pI))))),?_⟩;exact ⟨_,rfl,_,_,_,_,rfl,rfl,hp.sq,rfl,_,rfl,_,_,_,_,rfl,rfl,hr'.sq,rfl,_,_,rfl,rfl,.inr ⟨ba.mono (by decide),bc.mono (by decide)⟩,_,rfl,_,_,_,_,rfl,rfl,hp.sq,rfl,_,rfl,_,_,_,_,rfl,rfl,hr'.sq,rfl,_,_,rfl,rfl,.inr ⟨bb.mono (by decide),bd.mono (by decide)⟩,_,_,rfl,Int.mul_ne_zero b0 d0,(bb.mul bd).mono (by decide),q⟩

def Z5 (K:zP) (mg:zQ):Sp:=fun vs H Q _=>∃ a p Fp ts t x y,vs=[.ref a,.ref t]/\An K mg Fp H a p/\Pc p ts/\AO K H t (x,y)/\Bd 2000 x/\Bd 2000 y/\1<=y/\(p.closed=true->Bd 200 x/\Bd 200 y)/\∀ H',(∀ b o,H b=some o->b≠a->H' b=some o)->(∃ o,H' a=some o)->An K mg Fp H' a (p.turn (AI x y))->Q .non H'
theorem IY (T:Txt K mg):zI P w K mg base (AA mg "Piece") "turn" ["self","turns"] 5 (Z5 K mg):=by
 obtain ⟨f,fd,F,hm,hb⟩:=T.Um;refine ⟨f,fd,F.ok1 Ya (fun vs H Q E h=>?_) (fun cdv A outer s H vs Q E hr h=>?_),hm,T.cP,hb⟩
 ·obtain ⟨a,p,Fp,ts,t,x,y,rfl,_⟩:=h
  rfl
 obtain ⟨a,p,Fp,ts,tt,x,y,rfl,⟨dx,t,rv,w,c,fv,tc,mc,cu,R⟩,P,hT,bx,bY,y1,bcl,q⟩:=h;refine ⟨_,(@pK _ _ _ _ _ (zD (pv 0) (pD (Ga T) hr (pA (pF (pv 0) rfl) (pA (pv 1) pI))) rfl)
 (@pK _ _ _ _ _ (zD (pv 0) (pD (IP T) hr (pA (pF (pv 0) rfl) (pA (pv 1) pI))) rfl)
 (@pO _ _ _ (qM (qZ (pF (pv 0) rfl))
 (@pO _ _ _ (zD (pv 0) (pD (Ga T) hr (pA (pF (pv 0) rfl) (pA (pD (IR T) hr (pA (pF (pv 0) rfl) (pA (pv 1) pI))) pI))) rfl))
 qG)))),?_⟩
 obtain ⟨rs,hrs,prs⟩:=R.cu;have hca:cu≠a:=fun z=>by rw [z,R.ob] at hrs;cases hrs
 have wN:=P.workN;have tN:=P.turnedN;have pN:=P.placeN;have y0:y≠0:=by lia
 have hra:=R.ra;rw [P.ep] at hra;obtain ⟨rr,rfl,hra⟩:=hra;have L:=P.tr.pl;refine ⟨_,rfl,_,_,_,_,_,rfl,R.ob,T.cP,T.Dk,rfl,_,rfl,w,tt,p.work.1,p.work.2,x,y,rfl,R.wo,hT,wN.1.mono (by decide),wN.2.mono (by decide),bx,bY,P.w.ne,y0,fun n1 hn1=>?_⟩
 have s1:=sN hn1 (.tup [.int (AJ p.work (x,y)).1,.int (AJ p.work (x,y)).2]);have na:a≠n1:=nQ R.ob hn1;refine ⟨_,rfl,_,_,_,_,rfl,((uN na).trans R.ob),T.cP,T.Dk,Nat.le_of_ble_eq_true rfl,?_⟩;have k2:=fun b o (e:H b=some o) (n:b≠a)=>(uN (o:=.ins (AA mg "Piece") dx (A4 t (.ref rr) n1 c p.closed fv tc mc cu)) n).trans (s1 b o e);have t2:Ai H _:=fun b xs e=>k2 b _ e fun z=>by rw [z,R.ob] at e;cases e
 refine ⟨_,rfl,_,_,_,_,_,rfl,uS,T.cP,T.Dj,rfl,_,rfl,tc,tt,p.turned,x,y,rfl,R.tu.tups t2,hT.tups t2,tN.1.mono (by decide),tN.2.mono (by decide),bx,bY,P.t.ne,y0,fun n2 H3 s3 nn2 hn2=>?_⟩
 refine ⟨_,rfl,_,_,_,_,rfl,(s3 _ _ uS),T.cP,T.Dj,Nat.le_of_ble_eq_true rfl,?_⟩;have a3:=s3 _ _ (uS (a:=a) (o:=.ins (AA mg "Piece") dx (A4 t (.ref rr) n1 c p.closed fv tc mc cu)));have k3:∀ b o,H b=some o->b≠a->AC H3 a (.ins (AA mg "Piece") dx (A4 t (.ref rr) n1 c p.closed fv n2 mc cu)) b=some o:=fun b o e n=>(uN n).trans (s3 _ _ (k2 b o e n));have t3:Ai H (AC H3 a (.ins (AA mg "Piece") dx (A4 t (.ref rr) n1 c p.closed fv n2 mc cu))):=fun b xs e=>k3 b _ e fun z=>by rw [z,R.ob] at e;cases e
 have w3:AC H3 a (.ins (AA mg "Piece") dx (A4 t (.ref rr) n1 c p.closed fv n2 mc cu)) n1=some (.tup [.int (AJ p.work (x,y)).1,.int (AJ p.work (x,y)).2]):=(uN (Ne.symm na)).trans (s3 _ _ ((uN (Ne.symm na)).trans uS));have m3:AC H3 a (.ins (AA mg "Piece") dx (A4 t (.ref rr) n1 c p.closed fv n2 mc cu)) n2=_:=(uN (fun z=>by rw [z,a3] at hn2;cases hn2)).trans hn2
 have ha:=BR (t:=x) y0;have ro:=P.tr.rok;have rr':=P.rr;refine ⟨_,rfl,_,_,_,_,_,rfl,uS,T.cP,T.Dh,rfl,_,rfl,?_⟩;refine C4 (fun cl=>?_) (fun cl=>?_)
 ·obtain ⟨bx2,bY2⟩:=bcl cl
  have bm1:Bd 2000 (AX (AB ts) (x,y)).1:=(((L.bp.mul bx2).mono (show _<=2000 by decide)).le (Cg (t:=(AB ts).1*x) (Int.mul_ne_zero ro.ne y0)).nx)
  have bm2:Bd 2000 (AX (AB ts) (x,y)).2:=(((L.bq.mul bY2).mono (show _<=2000 by decide)).le (Cg (t:=(AB ts).1*x) (Int.mul_ne_zero ro.ne y0)).ny)
  refine ⟨_,rfl,_,_,_,_,_,rfl,uS,T.cP,T.DL,rfl,_,rfl,_,_,_,_,_,rfl,uS,T.cP,T.CF,rfl,_,rfl,rr,tt,(AB ts).1,(AB ts).2,x,y,rfl,.inl (t3 _ _ hra),hT.tups t3,L.bp.mono (by decide),L.bq.mono (by decide),bx2.mono (by decide),bY2.mono (by decide),ro.ne,y0,fun n4 hn4=>?_⟩
  have s4:=sN hn4 (.tup [.int (AX (AB ts) (x,y)).1,.int (AX (AB ts) (x,y)).2]);refine ⟨c,n4,p.place.1,p.place.2,(AX (AB ts) (x,y)).1,(AX (AB ts) (x,y)).2,rfl,(R.pl.tups t3).mono s4,.inl uS,pN.1.mono (by decide),pN.2.mono (by decide),bm1,bm2,P.pl.ne,(El (b:=(x,y)) ro.ne y0).ne,fun n5 hn5=>?_⟩
  have s5:=s4.trans (sN hn5 (.tup [.int (AJ p.place (AX (AB ts) (x,y))).1,.int (AJ p.place (AX (AB ts) (x,y))).2]));refine ⟨_,rfl,_,_,_,_,rfl,(s5 _ _ uS),T.cP,T.DL,Nat.le_of_ble_eq_true rfl,?_⟩;have n1a:=Ne.symm na;have n2a:n2≠a:=fun z=>by rw [z,a3] at hn2;cases hn2
  have n5a:n5≠a:=Ne.symm (nQ (s4 _ _ uS) hn5);refine q _ (fun b o e n=>?_) ⟨_,uS⟩ (Om R P y1 (fun b o e n=>?_) uS ((uN n1a).trans (s5 _ _ w3)) ((uN n2a).trans (s5 _ _ m3)) (fun _=>(uN n5a).trans uS) (fun z=>by rw [cl] at z;cases z))
  ·exact (uN n).trans (s5 _ _ (k3 b o e n))
  ·exact (uN n).trans (s5 _ _ (k3 b o e n))
 ·exact q _ k3 ⟨_,uS⟩ (Om R P y1 k3 uS w3 m3 (fun z=>absurd z cl) (fun _=>rfl))

def aC (K:zP):Sp:=fun vs H Q _=>∃ (p r:Addr) (a b c d:Int),vs=[.ref p,.ref r]/\Af K H p [.int a,.int b]/\Af K H r [.int c,.int d]/\Bd 2000 a/\Bd 2000 b/\Bd 2000 c/\Bd 2000 d/\b≠0/\d≠0 /\
 ∀ n,H n=none->Q (.ref n) (AC H n (.tup [.int (AG (a*d-c*b) (b*d)),.int (Aj (a*d-c*b) (b*d))]))
theorem GZ (T:Txt K mg):zH P w K mg base "difference" ["a","b"] 3 (aC K):=by
 refine Ad T.So Xi (fun vs H Q E h=>?_) (fun f cdv A outer s H vs Q E hr h=>?_)
 ·obtain ⟨p,r,a,b,c,d,rfl,_⟩:=h
  rfl
 obtain ⟨p,r,a,b,c,d,rfl,hp,hr',ba,bb,bc,bd,b0,d0,q⟩:=h;refine ⟨_,(@pO _ _ _ (@pR _ _ _ _ (pD (Cb T) hr (pA (qC C5 (qC qU (@qD _ _ _ _ _ _ _ iT (pv 0) pZ (fun _ _=>rfl)) (@qD _ _ _ _ _ _ _ iT (pv 1) pZ (fun _ _=>rfl))) (qC qU (@qD _ _ _ _ _ _ _ iT (pv 1) pZ (fun _ _=>rfl)) (@qD _ _ _ _ _ _ _ iT (pv 0) pZ (fun _ _=>rfl)))) (pA (qC qU (@qD _ _ _ _ _ _ _ iT (pv 0) pZ (fun _ _=>rfl)) (@qD _ _ _ _ _ _ _ iT (pv 1) pZ (fun _ _=>rfl))) pI))))),?_⟩;exact ⟨_,rfl,_,_,_,_,rfl,rfl,hp.sq,rfl,_,rfl,_,_,_,_,rfl,rfl,hr'.sq,rfl,_,_,rfl,rfl,.inr ⟨ba.mono (by decide),bd.mono (by decide)⟩,_,rfl,_,_,_,_,rfl,rfl,hr'.sq,rfl,_,rfl,_,_,_,_,rfl,rfl,hp.sq,rfl,_,_,rfl,rfl,.inr ⟨bc.mono (by decide),bb.mono (by decide)⟩,_,_,rfl,rfl,_,rfl,_,_,_,_,rfl,rfl,hp.sq,rfl,_,rfl,_,_,_,_,rfl,rfl,hr'.sq,rfl,_,_,rfl,rfl,.inr ⟨bb.mono (by decide),bd.mono (by decide)⟩,_,_,rfl,Int.mul_ne_zero b0 d0,(bb.mul bd).mono (by decide),q⟩

def Zg (K:zP) (mg:zQ):Sp:=fun vs H Q _=>∃ a p Fp,vs=[.ref a]/\An K mg Fp H a p/\Dx p/\∀ v H',AE H H'->Hs H H' v p.off->Q v H'
theorem FM (T:Txt K mg):zI P w K mg base (AA mg "Piece") "off" ["self"] 4 (Zg K mg):=by
 obtain ⟨f,fd,F,hm,hb⟩:=T.Uj;refine ⟨f,fd,F.ok1 OS (fun vs H Q E h=>?_) (fun cdv A outer s H vs Q E hr h=>?_),hm,T.cP,hb⟩
 ·obtain ⟨a,p,Fp,rfl,_⟩:=h
  rfl
 obtain ⟨a,p,Fp,rfl,⟨dx,t,rv,w,c,fv,tc,mc,cu,R⟩,Pc0,q⟩:=h;refine ⟨_,(@pK _ _ _ _ _ (qM (qR (BX (pF (pv 0) rfl)))
 (@pO _ _ _ (@pR _ _ _ _ BC))
 qG)
 (@pK _ _ _ _ _ (@qK _ _ 1 _ _ _ _ OS.nd rfl (Or.inl rfl) (pD (IR T) hr (pA (pF (pv 0) rfl) (pA (pD (GZ T) hr (pA (pF (pv 0) rfl) (pA (@qD _ _ _ _ _ _ _ iT (pF (pv 0) rfl) pZ (fun _ _=>rfl)) pI))) pI))) (by rfl) (by trivial))
 (@pO _ _ _ (@pR _ _ _ _ (pD (GZ T) hr (pA (pD (GZ T) hr (pA (pF (pv 0) rfl) (pA (@qD _ _ _ _ _ _ _ iT (pF (pv 0) rfl) pZ (fun _ _=>rfl)) pI))) (pA (pv 1) pI))))))),?_⟩
 rcases R.fi with ⟨ho,rfl⟩|⟨o,f1,c1,w1,x,y,ho,rfl,hf,hc,hw,Fo,he⟩
 ·refine ⟨_,rfl,_,_,_,_,_,rfl,R.ob,T.cP,T.Ch,rfl,_,rfl,qF rfl ?_⟩
  exact q _ _ (AE.refl _) (by rw [ho];rfl)
 ·refine ⟨_,rfl,_,_,_,_,_,rfl,R.ob,T.cP,T.Ch,rfl,_,rfl,qE (fun z=>by cases z) ?_⟩
  rcases Pc0 with e|⟨ts,P⟩
  ·rw [e] at ho;cases ho
  obtain ⟨⟨b1,b2,b3⟩,⟨b4,b5,b6⟩,⟨b7,b8,b9⟩,eo,⟨bx1,bx2⟩,bY1,bY2⟩:=WK P Fo ho he;have hra:=R.ra;rw [P.ep] at hra;obtain ⟨ra,rfl,hra⟩:=hra;have L:=P.tr.pl;have wN:=P.workN;have pN:=P.placeN;refine ⟨_,rfl,_,_,_,_,_,rfl,R.ob,T.cP,T.CF,rfl,_,rfl,_,_,_,_,_,rfl,R.ob,T.cP,T.Dk,rfl,_,rfl,_,_,_,_,_,rfl,R.ob,T.cP,T.Ch,rfl,_,_,_,_,rfl,rfl,AH.of hf,rfl,?_⟩;refine ⟨w,w1,p.work.1,p.work.2,y.1,y.2,rfl,R.wo,hw,wN.1.mono (by decide),wN.2.mono (by decide),bY1.mono (by decide),bY2.mono (by decide),P.w.ne,Fo.oy.ne,fun n1 hn1=>?_⟩
  have s1:=sN hn1 (.tup [.int (Am p.work y).1,.int (Am p.work y).2]);refine ⟨ra,n1,(AB ts).1,(AB ts).2,(Am p.work y).1,(Am p.work y).2,rfl,(.inl (s1 _ _ hra)),.inl uS,L.bp.mono (by decide),L.bq.mono (by decide),b1.mono (by decide),b2.mono (by decide),P.tr.rok.ne,b3,fun n2 hn2=>?_⟩
  have s2:=s1.trans (sN hn2 (.tup [.int (AX (AB ts) (Am p.work y)).1,.int (AX (AB ts) (Am p.work y)).2]));have ob2:=s2 _ _ R.ob;refine ⟨_,rfl,_,_,_,_,_,rfl,ob2,T.cP,T.DL,rfl,_,rfl,_,_,_,_,_,rfl,ob2,T.cP,T.Ch,rfl,_,_,_,_,rfl,rfl,AH.of (s2 _ _ hf),rfl,?_⟩;refine ⟨c,c1,p.place.1,p.place.2,x.1,x.2,rfl,R.pl.mono s2,hc.mono s2,pN.1.mono (by decide),pN.2.mono (by decide),bx1.mono (by decide),bx2.mono (by decide),P.pl.ne,Fo.ox.ne,fun n3 hn3=>?_⟩
  have s3:=sN hn3 (.tup [.int (Am p.place x).1,.int (Am p.place x).2]);refine ⟨_,rfl,n3,n2,(Am p.place x).1,(Am p.place x).2,(AX (AB ts) (Am p.work y)).1,(AX (AB ts) (Am p.work y)).2,rfl,.inl uS,.inl (s3 _ _ uS),b7.mono (by decide),b8.mono (by decide),b4.mono (by decide),b5.mono (by decide),b9,b6,fun n4 hn4=>?_⟩
  refine q _ _ (s2.trans (s3.trans (sN hn4 _))) ?_;rw [ho];refine ⟨n4,rfl,(s2.trans s3).free hn4,?_⟩;rw [← eo];exact uS

def ZI:Sp:=fun vs H Q _=>∃ (r:Addr) (t b c:Int),vs=[.ref r,.int c]/\H r=some (.tup [.int t,.int b])/\BK t b/\Bd 400 c /\
 ∀ (H':Hp),AE H H'->Q (.int (c*Aj t b%AG t b)) H'
theorem Kg (T:Txt K mg):zH P w K mg base "groove_of" ["ratio","closing"] 3 ZI:=by
 refine Ad T.Ss N6 (fun vs H Q E h=>?_) (fun f cdv A outer s H vs Q E hr h=>?_)
 ·obtain ⟨r,t,b,c,rfl,_⟩:=h
  rfl
 obtain ⟨r,t,b,c,rfl,hR,R,bc,q⟩:=h;refine ⟨_,(@pK _ _ _ _ _ (@qK _ _ 2 _ _ _ _ N6.nd rfl (Or.inl rfl) (pD (Cb T) hr (pA (@qD _ _ _ _ _ _ _ iT (pv 0) pZ (fun _ _=>rfl)) (pA (@qD _ _ _ _ _ _ _ iT (pv 0) pZ (fun _ _=>rfl)) pI))) (by rfl) (by trivial))
 (@pO _ _ _ (@pR _ _ _ _ (qC qT (qC qU (pv 1) (@qD _ _ _ _ _ _ _ iT (pv 2) pZ (fun _ _=>rfl))) (@qD _ _ _ _ _ _ _ iT (pv 2) pZ (fun _ _=>rfl)))))),?_⟩
 have L:=R.pl;have p1:=L.p1;have b1:=R.b1;refine ⟨_,rfl,_,_,_,_,rfl,rfl,AH.of (hR),rfl,_,rfl,_,_,_,_,rfl,rfl,AH.of (hR),rfl,_,_,rfl,by lia,R.bb.mono (by decide),fun p hp=>?_⟩
 refine ⟨_,rfl,_,rfl,_,_,_,_,rfl,rfl,AH.of (uS),rfl,_,_,rfl,rfl,.inr ⟨bc.mono (by decide),L.bq.mono (by decide)⟩,_,rfl,_,_,_,_,rfl,rfl,AH.of (uS),rfl,_,_,rfl,rfl,by lia,?_⟩
 exact q _ (sN hp _)

def Y8 (K:zP) (mg:zQ):Sp:=fun vs H Q _=>∃ a p Fp ts t x y,vs=[.ref a,.ref t]/\An K mg Fp H a p/\Pc p ts/\AO K H t (x,y)/\Bd 200 x/\Bd 200 y/\1<=y/\p.closed=true/\p.cuts.length<1000/\∀ H',(∀ b o,H b=some o->¬ Fp b->H' b=some o)->(∀ b,Fp b->∀ o,H b=some o->∃ o',H' b=some o')->An K mg Fp H' a (p.after (.cut (AI x y)))->Q .non H'
theorem RU (T:Txt K mg):zI P w K mg base (AA mg "Piece") "cut" ["self","turns"] 6 (Y8 K mg):=by
 obtain ⟨f,fd,F,hm,hb⟩:=T.Uf;refine ⟨f,fd,F.ok1 OR (fun vs H Q E h=>?_) (fun cdv A outer s H vs Q E hr h=>?_),hm,T.cP,hb⟩
 ·obtain ⟨a,p,Fp,ts,t,x,y,rfl,_⟩:=h
  rfl
 obtain ⟨a,p,Fp,ts,tt,x,y,rfl,R0,P,hT,bx,bY,y1,cl,c1000,q⟩:=h;obtain ⟨dx,t,rv,w,c,fv,tc,mc,cu,R⟩:=id R0;refine ⟨_,(@pK _ _ _ _ _ (@qK _ _ 2 _ _ _ _ OR.nd rfl (Or.inl rfl) (@qD _ _ _ _ _ _ _ iT (qO (FM T) hr (qH qI) (pv 0)) pZ (fun _ _=>rfl)) (by rfl) (by trivial))
 (@pK _ _ _ _ _ (qS (EH PySem.F.plainAttrs_list PySem.F.slot_list_append PySem.F.type_list_append Ed (pF (pv 0) rfl) (pA (@zB _ _ _ _ _ (pA (pv 2) (pA (pD (Kg T) hr (pA (pF (pv 0) rfl) (pA (pv 2) pI))) pI))) pI)))
 (@pO _ _ _ (qS (qP (IY T) hr (qH qI) (pv 0) (pA (pv 1) pI)))))),?_⟩
 obtain ⟨kk,hk⟩:=P.cl cl;have ec:p.closing=kk:=by unfold PS.closing;rw [hk];rfl
 refine ⟨_,rfl,a,dx,_,rfl,R.ob,rfl,a,p,Fp,rfl,R0,.inr ⟨ts,P⟩,fun v H1 s1 hv=>?_⟩;rw [hk] at hv;obtain ⟨n,rfl,hn0,hn⟩:=hv;obtain ⟨rs,hrs,prs⟩:=R.cu;have hca:cu≠a:=fun z=>by rw [z,R.ob] at hrs;cases hrs
 have hra:=R.ra;rw [P.ep] at hra;obtain ⟨rr,rfl,hra⟩:=hra;have Rt:BK (AB ts).1 (AB ts).2:=⟨P.tr.pl.p1,P.tr.pl.p2,P.tr.pl.q1,P.tr.pl.q2⟩;have eN:AG (AB ts).1 (AB ts).2=(AB ts).1:=congrArg Prod.fst (Cj P.tr.rok);have eD:Aj (AB ts).1 (AB ts).2=(AB ts).2:=congrArg Prod.snd (Cj P.tr.rok);have bk:=P.closeBd hk;refine ⟨_,_,_,_,rfl,rfl,AH.of hn,rfl,?_⟩;refine ⟨_,rfl,_,_,_,_,_,rfl,(s1 _ _ R.ob),T.cP,T.Di,rfl,.inl ⟨rfl,_,AF.of (s1 _ _ hrs)⟩,_,rfl,_,rfl,_,_,_,_,_,rfl,(s1 _ _ R.ob),T.cP,T.CF,rfl,_,rfl,rr,(AB ts).1,(AB ts).2,kk,rfl,s1 _ _ hra,Rt,bk.mono (by decide),fun H2 s2=>?_⟩
 rw [eN,eD];have s12:=s1.trans s2;refine ⟨(by exact My.AL),fun m hm=>?_⟩
 have s3:=s12.trans (sN hm (.tup [.int kk,.int (kk*(AB ts).2%(AB ts).1)]));have mcu:m≠cu:=Ne.symm (nQ (s12 _ _ hrs) hm);refine ⟨cu,_,_,rfl,rfl,s3 _ _ hrs,(by have h:=Paired.length prs;rw [List.length_map] at h;rw [List.length_map];exact Bb (by lia)),?_⟩
 have R4:=P9 (m:=m) (e:=(kk,kk*(AB ts).2%(AB ts).1)) R hrs prs s3 uS;have P4:=P.more bk;obtain ⟨dx4,t4,rv4,w4,c4,fv4,tc4,mc4,cu4,R4'⟩:=id R4;have tu4:Ai H _:=fun b xs (e:H b=some (.tup xs))=>(uN (o:=.lst (rs.map V.ref++[.ref m])) (fun z=>by rw [z,hrs] at e;cases e)).trans (s3 b _ e)
 refine ⟨_,rfl,a,dx4,_,rfl,R4'.ob,rfl,_,rfl,a,_,Fp,ts,tt,x,y,rfl,R4,P4,hT.tups tu4,bx.mono (by decide),bY.mono (by decide),y1,fun _=>⟨bx,bY⟩,fun H5 k5 ex5 R5=>?_⟩
 refine q H5 (fun b o e n=>k5 b o ((uN (fun z:b=cu=>n (z ▸ R.fc))).trans (s3 b o e)) (fun z=>n (z ▸ R.fa))) (fun b f o e=>?_) ?_
 ·by_cases za:b=a
  ·rw [za];exact ex5
  ·by_cases zc:b=cu
   ·exact ⟨_,k5 b _ (by rw [zc];exact uS) za⟩
   ·exact ⟨o,k5 b o ((uN zc).trans (s3 b o e)) za⟩
 ·have e:p.after (.cut (AI x y))=PS.turn { p with cuts:=p.cuts++[(kk,kk*(AB ts).2%(AB ts).1)] } (AI x y):=by
   show { p.turn (AI x y) with cuts:=p.cuts++[(p.closing,p.groove)] } = _
   unfold PS.groove;rw [ec,P.rr];rfl
  rw [e];exact R5

def aB (K:zP) (mg:zQ):Sp:=fun vs H Q E=>∃ b rdx ea es wd wv pb,vs=[.ref b,wd,wv,pb]/\H b=some (.ins (AA mg "Book") rdx [("entries",.ref ea)])/\H ea=some (.lst es) /\
 (es.length<100->∀ e t H',(∀ z o,H z=some o->z≠ea->H' z=some o)->H e=none->H t=none->H' t=some (.tup [wd,wv])->H' e=some (.tup [.ref t,pb])->H' ea=some (.lst (es++[.ref e]))->Q .non H')/\(100<=es.length->E (.ref (AA mg "BookFull")) none H)
theorem Qv (T:Txt K mg):zI P w K mg base (AA mg "Book") "write" ["self","word","what","before"] 1 (aB K mg):=by
 obtain ⟨f,fd,F,hm,hb⟩:=T.UF;refine ⟨f,fd,F.ok1 YD (fun vs H Q E h=>?_) (fun cdv A outer s H vs Q E hr h=>?_),hm,T.FI,hb⟩
 ·obtain ⟨b,rdx,ea,es,wd,wv,pb,rfl,_⟩:=h
  rfl
 obtain ⟨b,rdx,ea,es,wd,wv,pb,rfl,hb',he,q1,q2⟩:=h;refine ⟨_,(@pK _ _ _ _ _ (qM (qR (Iz (qJ qL (by rfl) T.At PySem.boot_len (pA (pF (pv 0) rfl) pI)) (Wf (by rfl) T.SL)))
 (@pO _ _ _ (zE qI rfl T.Ou T.LC (pA pS pI)))
 qG)
 (@pO _ _ _ (qS (EH PySem.F.plainAttrs_list PySem.F.slot_list_append PySem.F.type_list_append Ed (pF (pv 0) rfl) (pA (@zB _ _ _ _ _ (pA (@zB _ _ _ _ _ (pA (pv 1) (pA (pv 2) pI))) (pA (pv 3) pI))) pI))))),?_⟩
 refine ⟨_,rfl,_,_,_,_,_,rfl,hb',T.FI,T.Gu,rfl,ea,_,rfl,.inl (AF.of he),_,_,rfl,rfl,_,rfl,?_⟩;refine BW (fun c=>?_) (fun c=>?_)
 ·exact ⟨by show 1<=sizeLine;decide,q2 (by lia)⟩
 ·refine ⟨_,rfl,_,_,_,_,_,rfl,hb',T.FI,T.Gu,rfl,?_⟩
  refine ⟨.inl ⟨rfl,_,AF.of he⟩,_,rfl,_,rfl,(by exact My.AL),fun t ht=>?_⟩
  refine ⟨_,rfl,(by exact My.AL),fun e hE=>?_⟩
  have s1:=sN ht (.tup [wd,wv]);have s2:=s1.trans (sN hE (.tup [.ref t,pb]));have nt:=nQ he ht;have hE0:=s1.free hE;have ne:=nQ he hE0;have net:e≠t:=fun z=>by rw [z,uS] at hE;cases hE
  refine ⟨ea,es,_,rfl,rfl,s2 _ _ he,Bb (by lia),?_⟩
  exact q1 (by lia) e t _ (fun z o hz n=>(uN n).trans (s2 z o hz)) hE0 ht ((uN (Ne.symm nt)).trans ((uN (Ne.symm net)).trans uS)) ((uN (Ne.symm ne)).trans uS) uS

def aH:Sp:=fun vs H Q _=>∃ (p r:Addr) (a b c d:Int),vs=[.ref p,.ref r]/\H p=some (.tup [.int a,.int b])/\H r=some (.tup [.int c,.int d])/\Bd 2000 a/\Bd 2000 b/\Bd 2000 c/\Bd 2000 d/\0<b/\0<c/\0<d /\
 ∀ n,H n=none->Q (.ref n) (AC H n (.tup [.int (AG (a*d%(c*b)) (b*d)),.int (Aj (a*d%(c*b)) (b*d))]))
theorem QP (T:Txt K mg):zH P w K mg base "remainder" ["a","b"] 3 aH:=by
 refine Ad T.TJ Xq (fun vs H Q E h=>?_) (fun f cdv A outer s H vs Q E hr h=>?_)
 ·obtain ⟨p,r,a,b,c,d,rfl,_⟩:=h
  rfl
 obtain ⟨p,r,a,b,c,d,rfl,hp,hr',ba,bb,bc,bd,b0,c0,d0,q⟩:=h;refine ⟨_,(@pO _ _ _ (@pR _ _ _ _ (pD (Cb T) hr (pA (qC qT (qC qU (@qD _ _ _ _ _ _ _ iT (pv 0) pZ (fun _ _=>rfl)) (@qD _ _ _ _ _ _ _ iT (pv 1) pZ (fun _ _=>rfl))) (qC qU (@qD _ _ _ _ _ _ _ iT (pv 1) pZ (fun _ _=>rfl)) (@qD _ _ _ _ _ _ _ iT (pv 0) pZ (fun _ _=>rfl)))) (pA (qC qU (@qD _ _ _ _ _ _ _ iT (pv 0) pZ (fun _ _=>rfl)) (@qD _ _ _ _ _ _ _ iT (pv 1) pZ (fun _ _=>rfl))) pI))))),?_⟩;exact ⟨_,rfl,_,_,_,_,rfl,rfl,AH.of (hp),rfl,_,rfl,_,_,_,_,rfl,rfl,AH.of (hr'),rfl,_,_,rfl,rfl,.inr ⟨ba.mono (by decide),bd.mono (by decide)⟩,_,rfl,_,_,_,_,rfl,rfl,AH.of (hr'),rfl,_,rfl,_,_,_,_,rfl,rfl,AH.of (hp),rfl,_,_,rfl,rfl,.inr ⟨bc.mono (by decide),bb.mono (by decide)⟩,_,_,rfl,rfl,Int.mul_pos c0 b0,_,rfl,_,_,_,_,rfl,rfl,AH.of (hp),rfl,_,rfl,_,_,_,_,rfl,rfl,AH.of (hr'),rfl,_,_,rfl,rfl,.inr ⟨bb.mono (by decide),bd.mono (by decide)⟩,_,_,rfl,Int.ne_of_gt (Int.mul_pos b0 d0),(bb.mul bd).mono (by decide),q⟩

def Zn:Sp:=fun vs H Q _=>∃ (r:Addr) (x y n:Int),vs=[.ref r,.int n]/\H r=some (.tup [.int x,.int y])/\Bd 1700 x/\Bd 1700 y/\0<y/\2<=n/\n<=64 /\
 ∀ (m:Addr) (H':Hp),AE H H'->H' m=some (.tup [.int (AG (x%(n*y)) y),.int (Aj (x%(n*y)) y)])->Q (.ref m) H'
theorem QO (T:Txt K mg):zH P w K mg base "reading_of" ["off","teeth"] 4 Zn:=by
 refine Ad T.TH Xp (fun vs H Q E h=>?_) (fun f cdv A outer s H vs Q E hr h=>?_)
 ·obtain ⟨r,x,y,n,rfl,_⟩:=h
  rfl
 obtain ⟨r,x,y,n,rfl,hR,bx,bY,y0,n0,n1,q⟩:=h;refine ⟨_,(@pO _ _ _ (@pR _ _ _ _ (pD (QP T) hr (pA (pv 0) (pA (@zB _ _ _ _ _ (pA (pv 1) (pA pZ pI))) pI))))),?_⟩;have bn:Bd 64 n:=BE (by lia) (by lia)
 refine ⟨_,rfl,_,rfl,(by exact My.AL),fun p hp=>?_⟩
 have s1:=sN hp (.tup [.int n,.int 1]);refine ⟨r,p,x,y,n,1,rfl,s1 _ _ hR,uS,bx.mono (by decide),bY.mono (by decide),bn.mono (by decide),(Bd.of60 (by decide) (by decide)).mono (show 200<=2000 by decide),y0,by lia,by decide,fun m hm=>?_⟩
 rw [Int.mul_one,Int.mul_one];exact q m _ (s1.trans (sN hm _)) uS

theorem RK (T:Txt K mg):zI P w K mg base (AA mg "Lathe") "reading" ["self"] 5 (CU K mg fun l _ _ H' v=>Ay K H' v l.shown):=by
 obtain ⟨f,fd,F,hm,hb⟩:=T.UU;refine ⟨f,fd,F.ok1 OO (fun vs H Q E h=>?_) (fun cdv A outer s H vs Q E hr h=>?_),hm,T.cL,hb⟩
 ·obtain ⟨a,l,F,rfl,_⟩:=h
  rfl
 obtain ⟨a,l,F,rfl,R,q⟩:=h;have R0:=R;obtain ⟨Fp,dx,s,pa,ra,rdx,ea,es,R⟩:=R;refine ⟨_,(@pK _ _ _ _ _ (@qK _ _ 1 _ _ _ _ OO.nd rfl (Or.inl rfl) (qO (FM T) hr (qH qI) (pF (pv 0) rfl)) (by rfl) (by trivial))
 (@pK _ _ _ _ _ (qM (qR (BX (pv 1)))
 (@pO _ _ _ (@pR _ _ _ _ BC))
 qG)
 (@pO _ _ _ (@pR _ _ _ _ (pD (QO T) hr (pA (pv 1) (pA (pF (pv 0) rfl) pI))))))),?_⟩
 obtain ⟨pdx,t,rv,w,c,fv,tc,mc,cu,Rp⟩:=R.pc;refine ⟨_,rfl,_,_,_,_,_,rfl,R.ob,T.cL,T.Ae,rfl,pa,pdx,_,rfl,Rp.ob,rfl,pa,l.ps,Fp,rfl,R.pc,R.re.pco,fun v H' s' hv=>?_⟩;cases ho:l.ps.off with
 | none =>
  rw [ho] at hv;cases (show v = .non from hv);refine ⟨_,rfl,_,rfl,qF rfl ?_⟩;exact q _ _ F (R0.same s') (AS.of_same s') (by show Ay K _ _ l.shown;unfold LS.shown;rw [ho];rfl)
 | some o =>
  rw [ho] at hv;obtain ⟨n,rfl,hn0,hn⟩:=hv;rcases R.re.pco with e|⟨ts,P⟩
  ·rw [e] at ho;cases ho
  have G:=R.re.good;have oN:=P.offN ho;have oO:=P.o o ho;refine ⟨_,rfl,_,rfl,qE (fun z=>by cases z) ?_⟩
  refine ⟨_,rfl,_,rfl,_,_,_,_,_,rfl,(s' _ _ R.ob),T.cL,T.EF,rfl,n,o.1,o.2,l.teeth,rfl,hn,oN.1,oN.2,by have:=oO.pos;lia,G.n2,G.n64,fun m H2 s2 hm=>?_⟩
  exact q _ _ F (R0.same (s'.trans s2)) (AS.of_same (s'.trans s2)) (by show Ay K _ _ l.shown;unfold LS.shown;rw [ho];exact ⟨m,rfl,.inl hm⟩)

def ZR (K:zP) (mg:zQ):Sp:=fun vs H Q _=>∃ a p Fp,vs=[.ref a]/\An K mg Fp H a p/\∀ v,J0 v (p.cuts.getLast?.map (·.2))->Q v H
theorem RV (T:Txt K mg):zI P w K mg base (AA mg "Piece") "last_groove" ["self"] 1 (ZR K mg):=by
 obtain ⟨f,fd,F,hm,hb⟩:=T.Ug;refine ⟨f,fd,F.ok1 YV (fun vs H Q E h=>?_) (fun cdv A outer s H vs Q E hr h=>?_),hm,T.cP,hb⟩
 ·obtain ⟨a,p,Fp,rfl,_⟩:=h
  rfl
 obtain ⟨a,p,Fp,rfl,⟨dx,t,rv,w,c,fv,tc,mc,cu,R⟩,q⟩:=h;refine ⟨_,(@pK _ _ _ _ _ (qM (qR (CO (qJ qL (by rfl) T.At PySem.boot_len (pA (pF (pv 0) rfl) pI)) pZ))
 (@pO _ _ _ (@pR _ _ _ _ BC))
 qG)
 (@pO _ _ _ (@pR _ _ _ _ (@qD _ _ _ _ _ _ _ iT (@qD _ _ _ _ _ _ _ qY (pF (pv 0) rfl) (Dn Ds pZ) (fun _ _=>rfl)) pZ (fun _ _=>rfl))))),?_⟩
 obtain ⟨rs,hrs,prs⟩:=R.cu;rcases LK p.cuts with e|⟨cs,c0,e⟩
 ·rw [e] at prs
  cases prs;refine ⟨_,rfl,_,_,_,_,_,rfl,R.ob,T.cP,T.Di,rfl,cu,_,rfl,.inl (AF.of hrs),_,_,rfl,rfl,_,rfl,qF rfl ?_⟩;exact q _ (by rw [e];rfl)
 ·rw [e,Bq,List.map_append] at prs
  obtain ⟨rs',r,rfl,_,hr2⟩:=Iy prs;refine ⟨_,rfl,_,_,_,_,_,rfl,R.ob,T.cP,T.Di,rfl,cu,_,rfl,.inl (AF.of hrs),_,_,rfl,rfl,_,rfl,qE (by rw [List.length_map,List.length_append,List.length_singleton];lia) ?_⟩
  have ea:A1 ((rs'++[r]).map V.ref) (-1)=some (.ref r):=by rw [List.map_append];exact KH _ _
  refine ⟨_,rfl,_,_,_,_,_,rfl,R.ob,T.cP,T.Di,rfl,_,rfl,cu,_,_,_,rfl,rfl,AF.of hrs,ea,_,_,_,_,rfl,rfl,AH.of hr2,rfl,?_⟩;exact q _ (by rw [e,List.getLast?_append];rfl)

theorem Ku (T:Txt K mg):zI P w K mg base (AA mg "Lathe") "stand" ["self"] 6 (CU K mg (bS K)):=by
 obtain ⟨f,fd,F,hm,hb⟩:=T.UZ;refine ⟨f,fd,F.ok1 YQ (fun vs H Q E h=>?_) (fun cdv A outer s H vs Q E hr h=>?_),hm,T.cL,hb⟩
 ·obtain ⟨a,l,F,rfl,_⟩:=h
  rfl
 obtain ⟨a,l,F,rfl,R,q⟩:=h;have R0:=R;obtain ⟨Fp,dx,s,pa,ra,rdx,ea,es,R⟩:=R;refine ⟨_,(@pO _ _ _ (@pR _ _ _ _ (@zB _ _ _ _ _ (pA (pF (pF (pv 0) rfl) rfl) (pA (qO (RK T) hr (qH qI) (pv 0)) (pA (qO (RV T) hr (qH qI) (pF (pv 0) rfl)) pI)))))),?_⟩;obtain ⟨pdx,t,rv,w,c,fv,tc,mc,cu,Rp⟩:=R.pc;refine ⟨_,rfl,_,_,_,_,_,rfl,R.ob,T.cL,T.Ae,rfl,_,_,_,_,_,rfl,Rp.ob,T.cP,T.DL,rfl,?_⟩;refine ⟨_,rfl,a,dx,_,rfl,R.ob,rfl,a,l,F,rfl,R0,fun v H1 F1 R1 f1 hv=>?_⟩;have R10:=R1;obtain ⟨Fp1,dx1,s1,pa1,ra1,rdx1,ea1,es1,R1⟩:=R1;obtain ⟨pdx1,t1,rv1,w1,c1,fv1,tc1,mc1,cu1,Rp1⟩:=R1.pc;refine ⟨_,rfl,_,_,_,_,_,rfl,R1.ob,T.cL,T.Ae,rfl,pa1,pdx1,_,rfl,Rp1.ob,rfl,pa1,l.ps,Fp1,rfl,R1.pc,fun g hg=>?_⟩;refine ⟨(by exact My.EO),fun n hn=>?_⟩
 have sn:=sN hn (.tup [.ref c,v,g]);exact q _ _ F1 (R10.same sn) (f1.trans (AS.of_same sn)) ⟨n,rfl,c,v,g,uS,(Rp.pl.tups f1.tup).mono sn,hv.tups (AE.tups sn),hg⟩

theorem EW (T:Txt K mg):zI P w K mg base (AA mg "Lathe") "enter" ["self","word","what","after"] 7 (Oc K mg):=by
 obtain ⟨f,fd,F,hm,hb⟩:=T.UJ;refine ⟨f,fd,F.ok1 YG (fun vs H Q E h=>?_) (fun cdv A outer s H vs Q E hr h=>?_),hm,T.cL,hb⟩
 ·obtain ⟨a,l,F,d,wv,pb,Fq,rfl,_⟩:=h
  rfl
 obtain ⟨a,l,F,d,wv,pb,Fq,rfl,⟨Fp,dx,s,pa,ra,rdx,ea,es,R⟩,hw,Rb,nF,aF,hre,q1,q2⟩:=h;refine ⟨_,(@pK _ _ _ _ _ (qS (qP (Qv T) hr (qH qI) (pF (pv 0) rfl) (pA (pv 1) (pA (pv 2) (pA (pF (pv 0) rfl) pI)))))
 (@pK _ _ _ _ _ (zD (pv 0) (pv 3) rfl)
 (@pO _ _ _ (@pR _ _ _ _ (qO (Ku T) hr (qH qI) (pv 0)))))),?_⟩
 have hlen:=R.en.len;refine ⟨_,rfl,_,_,_,_,_,rfl,R.ob,T.cL,T.Iq,rfl,ra,rdx,_,rfl,R.bo,rfl,_,rfl,_,rfl,_,rfl,_,_,_,_,_,rfl,R.ob,T.cL,T.Ae,rfl,ra,rdx,ea,es,_,_,_,rfl,R.bo,R.he,fun lt e t H1 k1 ne nt ht he hea=>?_,fun ge=>q2 (by lia)⟩
 have aea:a≠ea:=fun z=>by have h1:=R.ob;rw [z,R.he] at h1;cases h1
 have raea:ra≠ea:=fun z=>by have h1:=R.bo;rw [z,R.he] at h1;cases h1
 have raa:ra≠a:=fun z=>by have h1:=R.bo;rw [z,R.ob] at h1;exact nomatch (show (4:Nat)=1 from congrArg List.length (HO.ins.inj (Option.some.inj h1)).2.2)
 have ob1:=k1 _ _ R.ob aea;refine ⟨_,rfl,_,rfl,_,_,_,_,rfl,ob1,T.cL,T.Ae,Nat.le_of_ble_eq_true rfl,?_⟩;have tu1:Ai H H1:=fun b xs h=>k1 b _ h fun z=>by rw [z,R.he] at h;cases h
 have nota:∀ b xs,H1 b=some (.tup xs)->b≠a:=fun b xs h z=>by rw [z,ob1] at h;cases h
 have tu2:Ai H (AC H1 a (.ins (AA mg "Lathe") dx (EC s l.teeth pb ra))):=fun b xs h=>(uN (nota b xs (tu1 b xs h))).trans (tu1 b xs h);have kp:∀ b o,Fp b->H b=some o->AC H1 a (.ins (AA mg "Lathe") dx (EC s l.teeth pb ra)) b=some o:=fun b o f h=>(uN (fun z:b=a=>R.n1 (z ▸ f))).trans (k1 b o h fun z=>R.n3 (z ▸ f));have kq:∀ b o,Fq b->H b=some o->AC H1 a (.ins (AA mg "Lathe") dx (EC s l.teeth pb ra)) b=some o:=fun b o f h=>(uN (fun z:b=a=>nF b f (z ▸ R.f1))).trans (k1 b o h fun z=>nF b f (z ▸ R.f3));have R2:Aa K mg (AC H1 a (.ins (AA mg "Lathe") dx (EC s l.teeth pb ra))) a (l.push d) (fun b=>F b\/Fq b):=by
  refine ⟨fun b=>Fp b\/Fq b,dx,s,pb,ra,rdx,ea,es++[.ref e],hre (by lia),uS,tu2 _ _ R.sh,(uN raa).trans (k1 _ _ R.bo raea),(uN (Ne.symm aea)).trans hea,.inl R.f1,.inl R.f2,.inl R.f3,fun b z=>z.elim (fun z=>.inl (R.fp b z)) .inr,fun z=>z.elim R.n1 fun z=>nF _ z R.f1,fun z=>z.elim R.n2 fun z=>nF _ z R.f2,fun z=>z.elim R.n3 fun z=>nF _ z R.f3,fun b z=>?_,?_,?_⟩
  ·by_cases za:b=a
   ·rw [za];exact ⟨_,uS⟩
   ·by_cases ze:b=ea
    ·rw [ze];exact ⟨_,(uN (Ne.symm aea)).trans hea⟩
    ·obtain ⟨o,h⟩:∃ o,H b=some o:=z.elim (R.al b) (aF b)
     exact ⟨o,(uN za).trans (k1 b o h ze)⟩
  ·refine CV.push ((R.en.frame kp tu2).foot fun b z=>.inl z) ?_
   refine ⟨e,t,pa,wv,rfl,(uN (nota _ _ he)).trans he,(uN (nota _ _ ht)).trans ht,hw.tups tu2,?_⟩;exact (R.pc.frame kp tu2).foot fun b z=>.inl z
  ·rw [LS.ps_push]
   exact (Rb.frame kq tu2).foot fun b z=>.inr z
 refine ⟨_,rfl,a,dx,_,rfl,uS,rfl,a,l.push d,_,rfl,R2,fun v H3 F3 R3 f3 hv=>?_⟩;obtain ⟨r,rfl,hst⟩:=hv;refine q1 (by lia) r H3 F3 R3 (fun b z=>?_) (fun b o h n1 n2=>?_) (fun b xs h=>f3.tup b xs (tu2 b xs h)) hst
 ·rcases f3.foot b z with z|z
  ·exact z.elim .inl fun z=>.inr (.inl z)
  ·refine .inr (.inr ?_)
   cases h:H b with
   | none=>rfl
   | some o =>
    by_cases za:b=a
    ·rw [za,uS] at z;cases z
    ·rw [uN za] at z
     by_cases ze:b=ea
     ·rw [ze,hea] at z;cases z
     ·rw [k1 b o h ze] at z;cases z
 ·refine f3.keep b o ((uN fun z:b=a=>n1 (z ▸ R.f1)).trans (k1 b o h fun z=>n1 (z ▸ R.f3))) fun z=>z.elim n1 n2

theorem Qz (T:Txt K mg):zI P w K mg base (AA mg "Lathe") "cut" ["self","turns"] 9 (Jn K mg .cut):=by
 obtain ⟨f,fd,F,hm,hb⟩:=T.UI;refine ⟨f,fd,F.ok1 OK (fun vs H Q E h=>?_) (fun cdv A outer s H vs Q E hr h=>?_),hm,T.cL,hb⟩
 ·obtain ⟨a,t,x,y,l,F,rfl,_⟩:=h
  rfl
 obtain ⟨a,tt,x,y,l,F,rfl,R0,hT,bx,bY,D⟩:=h;have R1:=R0;obtain ⟨Fp,dx,s,pa,ra,rdx,ea,es,R⟩:=R1;refine ⟨_,(@pK _ _ _ _ _ (qS (pX (DZ T) hr (qH qI) (pA (pF (pv 0) rfl) pI)))
 (@pK _ _ _ _ _ (qS (pX (Kf T) hr (qH qI) (pA (pF (pv 0) rfl) pI)))
 (@pK _ _ _ _ _ (qS (pX (IO T) hr (qH qI) (pA (pv 1) pI)))
 (@pK _ _ _ _ _ (qM (qR (Gy (@qD _ _ _ _ _ _ _ iT (pv 1) pZ (fun _ _=>rfl)) pZ))
 (@pO _ _ _ (zE qI rfl T.DE T.C3 (pA pS pI)))
 qG)
 (@pK _ _ _ _ _ (qS (pX (GY T) hr (qH qI) (pA (pF (pF (pv 0) rfl) rfl) (pA (pv 1) pI))))
 (@pK _ _ _ _ _ (@qK _ _ 2 _ _ _ _ OK.nd rfl (Or.inl rfl) (qO (FN T) hr (qH qI) (pF (pv 0) rfl)) (by rfl) (by trivial))
 (@pK _ _ _ _ _ (qS (qP (RU T) hr (qH qI) (pv 2) (pA (pv 1) pI)))
 (@pO _ _ _ (@pR _ _ _ _ (qP (EW T) hr (qH qI) (pv 0) (pA pS (pA (pD (Cb T) hr (pA (@qD _ _ _ _ _ _ _ iT (pv 1) pZ (fun _ _=>rfl)) (pA (@qD _ _ _ _ _ _ _ iT (pv 1) pZ (fun _ _=>rfl)) pI))) (pA (pv 2) pI))))))))))))),?_⟩
 refine ⟨_,rfl,_,_,_,_,_,rfl,R.ob,T.cL,T.Ae,rfl,pa,l.ps,Fp,rfl,R.pc,fun pi=>?_,fun pi=>D.no R0 (AE.refl _) (Cc rfl (by show l.ps.pitch.isSome=false;rw [pi];rfl))⟩
 have d2:(Req.cut x y).has l=true:=by show l.ps.pitch.isSome=true;exact Option.isSome_iff_ne_none.mpr pi
 refine ⟨_,rfl,_,_,_,_,_,rfl,R.ob,T.cL,T.Ae,rfl,pa,l.ps,Fp,rfl,R.pc,fun cl=>?_,fun cl=>D.no R0 (AE.refl _) (Cd rfl d2 (by show (!l.ps.closed)=true;rw [cl];rfl))⟩
 obtain ⟨pdx,t,rv,w,c,fv,tc,mc,cu,Rp⟩:=R.pc;rcases R.re.pco with e|⟨ts,P⟩
 ·rw [e] at pi;exact absurd rfl pi
 refine ⟨_,rfl,tt,x,y,rfl,hT,fun ok=>?_,fun bad=>D.no R0 (AE.refl _) (Bl rfl d2 (by show (!l.ps.closed)=false;rw [cl];rfl) (P1 bad))⟩
 have y0:y≠0:=by lia
 refine ⟨_,rfl,_,_,_,_,rfl,rfl,hT.sq,rfl,_,_,rfl,rfl,_,rfl,BW (fun np=>⟨by show 1<=sizeLine;decide,D.no R0 (AE.refl _) (Bl rfl d2 (by show (!l.ps.closed)=false;rw [cl];rfl) (P5 np))⟩) (fun xp=>?_)⟩
 have tN:=P.turnedN;obtain ⟨cb1,cb2⟩:=GX (c:=l.ps.turned) tN.1 tN.2 bx bY P.t.ne y0;refine ⟨_,rfl,_,_,_,_,_,rfl,R.ob,T.cL,T.Ae,rfl,_,_,_,_,_,rfl,Rp.ob,T.cP,T.Dj,rfl,_,rfl,tc,tt,l.ps.turned,x,y,rfl,Rp.tu,hT,tN.1.mono (by decide),tN.2.mono (by decide),bx.mono (by decide),bY.mono (by decide),P.t.ne,y0,cb1,cb2,fun few H1 s1=>?_,fun many H1 s1=>D.no R0 s1 (Bl rfl d2 (by show (!l.ps.closed)=false;rw [cl];rfl) (P6 many))⟩
 have dd:=Bv (l:=l) (q:=.cut x y) rfl d2 (by show (!l.ps.closed)=false;rw [cl];rfl) (P8 ok xp few) rfl
 refine ⟨_,rfl,_,_,_,_,_,rfl,(s1 _ _ R.ob),T.cL,T.Ae,rfl,pa,pdx,_,rfl,s1 _ _ Rp.ob,rfl,pa,l.ps,Fp,rfl,R.pc.same s1,R.re.pco,fun b H2 Fq s2 nb nq aq Rb=>?_⟩;obtain ⟨bdx,bt,brv,bw,bc,bfv,btc,bmc,bcu,Rb'⟩:=id Rb;refine ⟨_,rfl,b,bdx,_,rfl,Rb'.ob,rfl,_,rfl,b,l.ps,Fq,ts,tt,x,y,rfl,Rb,P,hT.mono (s1.trans s2),bx,bY,ok.1,cl,(by have h1:=IN l;have h2:=R.re.len;lia),fun H3 k3 ex3 R3=>?_⟩
 have s3:AE H H3:=fun z o e=>k3 z o ((s1.trans s2) z o e) fun f=>by have:=s1.free (nq z f);rw [e] at this;cases this
 have hT3:=(hT.mono s3).sq;refine ⟨_,rfl,a,dx,_,rfl,s3 _ _ R.ob,rfl,_,rfl,_,_,_,_,rfl,rfl,hT3,rfl,_,rfl,_,_,_,_,rfl,rfl,hT3,rfl,x,y,rfl,y0,bY.mono (by decide),fun n4 hn4=>?_⟩
 have s4:=sN hn4 (.tup [.int (AI x y).1,.int (AI x y).2]);exact ⟨_,rfl,D.enter R0 (s3.trans s4) (fun z f=>s1.free (nq z f)) (fun z f=>by obtain ⟨o,h⟩:=(fun z f=>by obtain ⟨o,h⟩:=aq z f;exact ex3 z f o h:∀ z,Fq z->∃ o,H3 z=some o) z f;exact ⟨o,s4 _ _ h⟩) dd ⟨n4,rfl,.inl uS⟩ (R3.same s4)⟩

def ZO (K:zP) (mg:zQ):Sp:=fun vs H Q E=>∃ (s a:Addr) (ss ws:List Int),vs=[.ref s,.ref a]/\AH K H s (ss.map V.int)/\BB K H a (ws.map V.int) /\
 ((∀ v∈ws,v∈ss)->Q .non H)/\(¬ (∀ v∈ws,v∈ss)->E (.ref (AA mg "UnknownWheel")) none H)
theorem QE (T:Txt K mg):CB P w K mg base "check_known" ["shop","train"] 1 (ZO K mg):=by
 refine Cq T.Sg N3 (fun vs H Q E h=>?_) (fun f cdv A outer s H vs Q E hr h=>?_)
 ·obtain ⟨s,a,ss,ws,rfl,_⟩:=h
  rfl
 obtain ⟨s,a,ss,ws,rfl,hS,hA,q1,q2⟩:=h;refine ⟨_,(@pO _ _ _ (CQ PassesOwn.leaving rfl (JF (pv 1)) (BY (i:=2) N3.nd rfl (Or.inl rfl))
 (@pO _ _ _ (qM (qQ Iw (pv 2) (pv 0) (by with_unfolding_all rfl))
 (@pO _ _ _ (zE qI rfl T.Ox T.LF (pA pS pI)))
 qG)))),?_⟩
 have hlen:(ws.map V.int).length=ws.length:=List.length_map _;refine ⟨a,rfl,LA (K:=K) (a:=a) (xs:=ws.map V.int) (fun i σ H'=>∃ k:Option V,σ=[some (.ref s),some (.ref a),k]/\H'=H/\∀ j v,j<i->ws[j]? = some v->v∈ss) hA ⟨none,rfl,rfl,fun j v z=>by lia⟩ (fun i τ G ⟨_,_,e,_⟩=>by rw [e];exact AE.refl _) ?_ ?_⟩
 ·rintro i x σ H' hx ⟨k,rfl,rfl,hv⟩
  rw [List.getElem?_map] at hx;obtain ⟨v,hv1,rfl⟩:=Option.map_eq_some_iff.mp hx;refine ⟨_,rfl,_,rfl,s,_,rfl,.inr hS,rfl,Gd ss,?_⟩;rw [Gm];refine ⟨_,rfl,BG (fun c2=>?_) (fun c2=>?_)⟩
  ·exact ⟨by show 1<=sizeLine;decide,q2 (fun z=>c2 (z v (List.mem_of_getElem? hv1)))⟩
  ·refine ⟨_,rfl,rfl,fun j u hj hu=>?_⟩
   rcases Nat.lt_or_ge j i with z|z
   ·exact hv j u z hu
   ·have e:j=i:=by lia
    subst e;rw [hu] at hv1;cases hv1;exact c2
 ·rintro σ H' ⟨k,rfl,rfl,hv⟩
  rw [hlen] at hv;exact q1 fun v h=>by
   obtain ⟨j,hj,e⟩:=List.getElem_of_mem h;exact hv j v hj (by rw [List.getElem?_eq_getElem hj,e])

def Zf (K:zP) (mg:zQ):Sp:=fun vs H Q E=>∃ (a:Addr) (p:PS) (Fp:Addr->Prop),vs=[.ref a]/\An K mg Fp H a p/\(p.closed=false->Q .non H)/\(p.closed=true->E (.ref (AA mg "WrongNut")) none H)
theorem FL (T:Txt K mg):CB P w K mg base "check_nut_open" ["piece"] 1 (Zf K mg):=by
 refine Cq T.Sj Xf (fun vs H Q E h=>?_) (fun f cdv A outer s H vs Q E hr h=>?_)
 ·obtain ⟨a,p,Fp,rfl,_⟩:=h
  rfl
 obtain ⟨a,p,Fp,rfl,⟨dx,t,rv,w,c,fv,tc,mc,cu,R⟩,q1,q2⟩:=h;refine ⟨_,(@pO _ _ _ (qM (qZ (pF (pv 0) rfl))
 (@pO _ _ _ (zE qI rfl T.Jx T.Id (pA pS pI)))
 qG)),?_⟩
 refine ⟨_,rfl,_,_,_,_,_,rfl,R.ob,T.cP,T.Dh,rfl,_,rfl,?_⟩;refine C4 (fun c=>?_) (fun c=>?_)
 ·exact ⟨by show 1<=sizeLine;decide,q2 c⟩
 ·exact q1 (by simpa using c)

def Y4 (K:zP) (mg:zQ):Sp:=fun vs H Q E=>∃ (a:Addr) (ws:List Int),vs=[.ref a]/\BB K H a (ws.map V.int)/\ws.length<=1000 /\
 ((ws.length=2\/ws.length=4)/\ws.Nodup->∀ H',AE H H'->Q .non H')/\(¬ ((ws.length=2\/ws.length=4)/\ws.Nodup)->∀ H',AE H H'->E (.ref (AA mg "BadNumber")) none H')
theorem QG (T:Txt K mg):CB P w K mg base "check_train" ["train"] 2 (Y4 K mg):=by
 refine Cq T.Sm Xg (fun vs H Q E h=>?_) (fun f cdv A outer s H vs Q E hr h=>?_)
 ·obtain ⟨a,ws,rfl,_⟩:=h
  rfl
 obtain ⟨a,ws,rfl,hA,hl,q1,q2⟩:=h;refine ⟨_,(@pK _ _ _ _ _ (qM (B0 (qR (Bm (qJ qL (by rfl) T.At PySem.boot_len (pA (pv 0) pI)) pZ)) (CT (qR (Bm (qJ qL (by rfl) T.At PySem.boot_len (pA (pv 0) pI)) pZ)))).pt
 (@pO _ _ _ (zE qI rfl T.DE T.C3 (pA pS pI)))
 qG)
 (@pO _ _ _ (qM (qZ (pD (Kh T) hr (pA (pv 0) pI)))
 (@pO _ _ _ (zE qI rfl T.DE T.C3 (pA pS pI)))
 qG))),?_⟩
 have hlen:(ws.map V.int).length=ws.length:=List.length_map _;have BM:(ws.length=2\/ws.length=4)->∀ b:Bool,b=decide (¬ ws.Nodup)->∀ H',AE H H'->if b=true then (1<=sizeLine/\E (.ref (AA mg "BadNumber")) none H') else Q .non H':=fun hh b hb H' s'=>by
  subst hb;refine BW (fun c3=>?_) (fun c3=>?_)
  ·exact ⟨by decide,q2 (fun z=>c3 z.2) _ s'⟩
  ·exact q1 ⟨hh,Decidable.not_not.mp c3⟩ _ s'
 refine ⟨_,rfl,a,_,rfl,hA,_,_,rfl,rfl,?_⟩;refine ⟨_,rfl,?_⟩;refine BG (fun c=>?_) (fun c=>?_)
 ·refine ⟨_,rfl,a,_,rfl,hA,_,_,rfl,rfl,?_⟩
  refine ⟨_,rfl,?_⟩;refine BG (fun c2=>?_) (fun c2=>?_)
  ·exact ⟨by show 1<=sizeLine;decide,q2 (fun z=>by rw [hlen] at c c2;rcases z.1 with z|z <;> lia) _ (AE.refl _)⟩
  ·exact ⟨_,rfl,a,ws,rfl,hA,hl,fun H2 s2=>⟨_,rfl,BM (.inr (by rw [hlen] at c2;lia)) _ rfl _ s2⟩⟩
 ·exact AN ⟨_,rfl,a,ws,rfl,hA,hl,fun H2 s2=>⟨_,rfl,BM (.inl (by rw [hlen] at c;lia)) _ rfl _ s2⟩⟩

theorem RB (T:Txt K mg):zI P w K mg base (AA mg "Lathe") "mount" ["self","train"] 9 (ZY K mg):=by
 obtain ⟨f,fd,F,hm,hb⟩:=T.UL;refine ⟨f,fd,F.ok1 OL (fun vs H Q E h=>?_) (fun cdv A outer s H vs Q E hr h=>?_),hm,T.cL,hb⟩
 ·obtain ⟨a,t,ts,l,F,rfl,_⟩:=h
  rfl
 obtain ⟨a,t,ts,l,F,rfl,R0,hT,h1000,hbd,D⟩:=h;have R1:=R0;obtain ⟨Fp,dx,s,pa,ra,rdx,ea,es,R⟩:=R1;refine ⟨_,(@pK _ _ _ _ _ (qS (pX (QE T) hr (qH qI) (pA (pF (pv 0) rfl) (pA (pv 1) pI))))
 (@pK _ _ _ _ _ (qS (pX (FL T) hr (qH qI) (pA (pF (pv 0) rfl) pI)))
 (@pK _ _ _ _ _ (qS (pX (QG T) hr (qH qI) (pA (pv 1) pI)))
 (@pK _ _ _ _ _ (@qK _ _ 2 _ _ _ _ OL.nd rfl (Or.inl rfl) (zG FH (by rfl) T.Dt PyProof.Rows.boot_tuple (pA (pv 1) pI)) (by rfl) (by trivial))
 (@pO _ _ _ (@pR _ _ _ _ (qP (EW T) hr (qH qI) (pv 0) (pA pS (pA (pv 2) (pA (HC (IX T) hr (qH qI) (pA (pv 2) pI)) pI)))))))))),?_⟩
 have hA:BB K H t (ts.map V.int):=hT.elim (fun h=>.inl (AF.of h)) fun h=>.inr h.sq;refine ⟨_,rfl,_,_,_,_,_,rfl,R.ob,T.cL,T.Lb,rfl,_,rfl,s,t,l.shop,ts,rfl,AH.of R.sh,hA,fun kn=>?_,fun un=>D.no R0 (AE.refl _) (K2 ?_)⟩
 rotate_left
 ·show (ts.all fun w=>decide (w∈l.shop))=false
  refine Bool.eq_false_iff.mpr fun z=>un fun v hv=>?_;exact of_decide_eq_true (List.all_eq_true.mp z v hv)
 have d1:(Req.mount ts).known l=true:=by
  show (ts.all fun w=>decide (w∈l.shop))=true;exact List.all_eq_true.mpr fun v hv=>decide_eq_true (kn v hv)
 refine ⟨_,rfl,_,_,_,_,_,rfl,R.ob,T.cL,T.Ae,rfl,pa,l.ps,Fp,rfl,R.pc,fun cl=>?_,fun cl=>D.no R0 (AE.refl _) (Cd d1 rfl cl)⟩;refine ⟨_,rfl,t,ts,rfl,hA,h1000,fun ok H1 s1=>?_,fun bad H1 s1=>D.no R0 s1 (Bl d1 rfl cl ?_)⟩
 rotate_left
 ·show (!(decide (ts.length=2\/ts.length=4)&&decide ts.Nodup))=true
  rw [Bool.not_eq_true',← Bool.not_eq_true,Bool.and_eq_true];exact fun z=>bad ⟨of_decide_eq_true z.1,of_decide_eq_true z.2⟩
 have d4:(Req.mount ts).bad l.ps=false:=by
  show (!(decide (ts.length=2\/ts.length=4)&&decide ts.Nodup))=false;rw [decide_eq_true ok.1,decide_eq_true ok.2];rfl
 have G:=R.re.good;have Tr:Ao ts:=⟨ok.1,fun v hv=>G.shop.lo v (kn v hv),fun v hv=>G.shop.hi v (kn v hv)⟩;have dd:=Bv (q:=.mount ts) d1 rfl cl d4 rfl;have eps:l.ps.after (Req.mount ts).deed=Ef ts:=(Iu Tr).symm;refine (fun (key:∀ (M:Addr) (Hd:Hp),(AE H Hd/\Af K Hd M (ts.map V.int))->(?G:Addr->Hp->Prop) M Hd)=>?main) ?keyp
 case main =>
  rcases hT with hT|hT
  ·refine ⟨_,rfl,t,_,rfl,.inl ⟨AF.of (s1 _ _ hT),fun M hM=>?_⟩⟩
   have S2:=s1.trans (sN hM (.tup (ts.map V.int)));have hM2:Af K (AC H1 M (.tup (ts.map V.int))) M (ts.map V.int):=.inl uS;dsimp only;generalize AC H1 M _=Hd at S2 hM2 ⊢;exact key M Hd ⟨S2,hM2⟩
  ·refine ⟨_,rfl,t,_,rfl,.inr ⟨(hT.mono s1).sq,?_⟩⟩
   exact key t H1 ⟨s1,hT.mono s1⟩
 case keyp =>
  rintro M Hd ⟨s2,hM2⟩
  refine ⟨_,rfl,a,dx,_,rfl,s2 _ _ R.ob,rfl,_,rfl,_,rfl,fun x dx2 nx ndx ne=>?_⟩;refine ⟨x,dx2,_,ts,rfl,uS,hM2.mono (Dg nx ndx _ _),.inr Tr,fun H3 rv cu k ncu hob hcu hrv=>⟨rfl,?_⟩⟩;have s3:=LR nx ndx k;have nx0:=s2.free nx;have cx:cu≠x:=fun z=>by rw [z,uS] at ncu;cases ncu
  have ncu0:H cu=none:=by
   cases h:H cu with
   | none=>rfl
   | some o=>rw [Dg nx ndx _ _ cu o (s2 _ _ h)] at ncu;cases ncu
  refine D.enter (Fq:=fun z=>z=x\/z=cu) R0 (s2.trans s3) (fun b z=>by rcases z with rfl|rfl;exact nx0;exact ncu0) (fun b z=>by rcases z with rfl|rfl;exact ⟨_,hob⟩;exact ⟨_,hcu⟩) dd ⟨_,rfl,hM2.mono s3⟩ ?_
  rw [eps];have hN:AO K H3 (AA mg "NOUGHT") (0,1):=.inr T.GK;exact ⟨dx2,_,rv,_,_,.non,_,_,cu,hob,.inl rfl,.inr rfl,hM2.mono s3,hrv,hN,hN,.inl ⟨rfl,rfl⟩,hN,hN,⟨[],hcu,.nil⟩⟩

theorem RP (T:Txt K mg):zI P w K mg base (AA mg "Lathe") "turn" ["self","turns"] 9 (Jn K mg .turn):=by
 obtain ⟨f,fd,F,hm,hb⟩:=T.Ua;refine ⟨f,fd,F.ok1 OQ (fun vs H Q E h=>?_) (fun cdv A outer s H vs Q E hr h=>?_),hm,T.cL,hb⟩
 ·obtain ⟨a,t,x,y,l,F,rfl,_⟩:=h
  rfl
 obtain ⟨a,tt,x,y,l,F,rfl,R0,hT,bx,bY,D⟩:=h;have R1:=R0;obtain ⟨Fp,dx,s,pa,ra,rdx,ea,es,R⟩:=R1;refine ⟨_,(@pK _ _ _ _ _ (qS (pX (DZ T) hr (qH qI) (pA (pF (pv 0) rfl) pI)))
 (@pK _ _ _ _ _ (qS (pX (IO T) hr (qH qI) (pA (pv 1) pI)))
 (@pK _ _ _ _ _ (qS (pX (GY T) hr (qH qI) (pA (pF (pF (pv 0) rfl) rfl) (pA (pv 1) pI))))
 (@pK _ _ _ _ _ (@qK _ _ 2 _ _ _ _ OQ.nd rfl (Or.inl rfl) (qO (FN T) hr (qH qI) (pF (pv 0) rfl)) (by rfl) (by trivial))
 (@pK _ _ _ _ _ (qS (qP (IY T) hr (qH qI) (pv 2) (pA (pv 1) pI)))
 (@pO _ _ _ (@pR _ _ _ _ (qP (EW T) hr (qH qI) (pv 0) (pA pS (pA (pD (Cb T) hr (pA (@qD _ _ _ _ _ _ _ iT (pv 1) pZ (fun _ _=>rfl)) (pA (@qD _ _ _ _ _ _ _ iT (pv 1) pZ (fun _ _=>rfl)) pI))) (pA (pv 2) pI))))))))))),?_⟩
 refine ⟨_,rfl,_,_,_,_,_,rfl,R.ob,T.cL,T.Ae,rfl,pa,l.ps,Fp,rfl,R.pc,fun pi=>?_,fun pi=>D.no R0 (AE.refl _) (Cc rfl (by show l.ps.pitch.isSome=false;rw [pi];rfl))⟩
 have d2:(Req.turn x y).has l=true:=by show l.ps.pitch.isSome=true;exact Option.isSome_iff_ne_none.mpr pi
 obtain ⟨pdx,t,rv,w,c,fv,tc,mc,cu,Rp⟩:=R.pc;rcases R.re.pco with e|⟨ts,P⟩
 ·rw [e] at pi;exact absurd rfl pi
 refine ⟨_,rfl,tt,x,y,rfl,hT,fun ok=>?_,fun bad=>D.no R0 (AE.refl _) (Bl rfl d2 rfl (PQ bad))⟩;have y0:y≠0:=by lia
 have tN:=P.turnedN;obtain ⟨cb1,cb2⟩:=GX (c:=l.ps.turned) tN.1 tN.2 bx bY P.t.ne y0;refine ⟨_,rfl,_,_,_,_,_,rfl,R.ob,T.cL,T.Ae,rfl,_,_,_,_,_,rfl,Rp.ob,T.cP,T.Dj,rfl,_,rfl,tc,tt,l.ps.turned,x,y,rfl,Rp.tu,hT,tN.1.mono (by decide),tN.2.mono (by decide),bx.mono (by decide),bY.mono (by decide),P.t.ne,y0,cb1,cb2,fun few H1 s1=>?_,fun many H1 s1=>D.no R0 s1 (Bl rfl d2 rfl (KI many))⟩
 have dd:=Bv (l:=l) (q:=.turn x y) rfl d2 rfl (KJ ok few) rfl;refine ⟨_,rfl,_,_,_,_,_,rfl,(s1 _ _ R.ob),T.cL,T.Ae,rfl,pa,pdx,_,rfl,s1 _ _ Rp.ob,rfl,pa,l.ps,Fp,rfl,R.pc.same s1,R.re.pco,fun b H2 Fq s2 nb nq aq Rb=>?_⟩;obtain ⟨bdx,bt,brv,bw,bc,bfv,btc,bmc,bcu,Rb'⟩:=id Rb;refine ⟨_,rfl,b,bdx,_,rfl,Rb'.ob,rfl,_,rfl,b,l.ps,Fq,ts,tt,x,y,rfl,Rb,P,hT.mono (s1.trans s2),bx.mono (by decide),bY.mono (by decide),ok.1,fun _=>⟨bx,bY⟩,fun H3 k3 ex3 R3=>?_⟩
 have s3:=keep1 (s1.trans s2) (s1.free nb) k3;have hT3:=(hT.mono s3).sq;refine ⟨_,rfl,a,dx,_,rfl,s3 _ _ R.ob,rfl,_,rfl,_,_,_,_,rfl,rfl,hT3,rfl,_,rfl,_,_,_,_,rfl,rfl,hT3,rfl,x,y,rfl,y0,bY.mono (by decide),fun n4 hn4=>?_⟩
 have s4:=sN hn4 (.tup [.int (AI x y).1,.int (AI x y).2]);exact ⟨_,rfl,D.enter R0 (s3.trans s4) (fun z f=>s1.free (nq z f)) (fun z f=>by obtain ⟨o,h⟩:=Fn aq k3 ex3 z f;exact ⟨o,s4 _ _ h⟩) dd ⟨n4,rfl,.inl uS⟩ (R3.same s4)⟩

def aG:Sp:=fun vs H Q _=>∃ (p r:Addr) (a b c d:Int),vs=[.ref p,.ref r]/\H p=some (.tup [.int a,.int b])/\H r=some (.tup [.int c,.int d])/\Bd 2000 a/\Bd 2000 b/\Bd 2000 c/\Bd 2000 d/\b≠0/\c≠0 /\
 ∀ n,H n=none->Q (.ref n) (AC H n (.tup [.int (AG (a*d) (b*c)),.int (Aj (a*d) (b*c))]))
theorem QM (T:Txt K mg):zH P w K mg base "quotient" ["a","b"] 3 aG:=by
 refine Ad T.TD Xo (fun vs H Q E h=>?_) (fun f cdv A outer s H vs Q E hr h=>?_)
 ·obtain ⟨p,r,a,b,c,d,rfl,_⟩:=h
  rfl
 obtain ⟨p,r,a,b,c,d,rfl,hp,hr',ba,bb,bc,bd,b0,c0,q⟩:=h;refine ⟨_,(@pO _ _ _ (@pR _ _ _ _ (pD (Cb T) hr (pA (qC qU (@qD _ _ _ _ _ _ _ iT (pv 0) pZ (fun _ _=>rfl)) (@qD _ _ _ _ _ _ _ iT (pv 1) pZ (fun _ _=>rfl))) (pA (qC qU (@qD _ _ _ _ _ _ _ iT (pv 0) pZ (fun _ _=>rfl)) (@qD _ _ _ _ _ _ _ iT (pv 1) pZ (fun _ _=>rfl))) pI))))),?_⟩;exact ⟨_,rfl,_,_,_,_,rfl,rfl,AH.of (hp),rfl,_,rfl,_,_,_,_,rfl,rfl,AH.of (hr'),rfl,_,_,rfl,rfl,.inr ⟨ba.mono (by decide),bd.mono (by decide)⟩,_,rfl,_,_,_,_,rfl,rfl,AH.of (hp),rfl,_,rfl,_,_,_,_,rfl,rfl,AH.of (hr'),rfl,_,_,rfl,rfl,.inr ⟨bb.mono (by decide),bc.mono (by decide)⟩,_,_,rfl,Int.mul_ne_zero b0 c0,(bb.mul bc).mono (by decide),q⟩

def Zq:Sp:=fun vs H Q _=>∃ (r o:Addr) (t b x y u v:Int),vs=[.ref r,.ref o,.int u,.int v]/\H r=some (.tup [.int t,.int b])/\H o=some (.tup [.int x,.int y])/\BK t b/\Bd 1700 x/\Bd 1700 y/\0<y/\Bd 64 u/\Bd 64 v/\1<=v/\Bd 64 (u+(x-u*y) / (v*y)*v) /\
 ∀ (k X Y:Int) (m f:Addr) (H':Hp),AE H H'->k=u+(x-u*y) / (v*y)*v->k*y<=x->x<(k+v)*y->Bd 64 k ->
  1<=Y->Int.gcd X Y=1->X*(y*t)=(x-k*y)*b*Y->Bd 2000 X->Bd 2000 Y->H' m=some (.tup [.ref f,.int k])->H' f=some (.tup [.int X,.int Y])->Q (.ref m) H'
theorem Kj (T:Txt K mg):zH P w K mg base "soonest_of" ["ratio","off","start","step"] 4 Zq:=by
 refine Ad T.TN JZ (fun vs H Q E h=>?_) (fun f cdv A outer s H vs Q E hr h=>?_)
 ·obtain ⟨r,o,t,b,x,y,u,v,rfl,_⟩:=h
  rfl
 obtain ⟨r,o,t,b,x,y,u,v,rfl,hR,hO,R,bx,bY,y0,bu,bv,v1,bk,q⟩:=h;refine ⟨_,(@pK _ _ _ _ _ (@qK _ _ 4 _ _ _ _ JZ.nd rfl (Or.inl rfl) (qC qX (qC C5 (@qD _ _ _ _ _ _ _ iT (pv 1) pZ (fun _ _=>rfl)) (qC qU (pv 2) (@qD _ _ _ _ _ _ _ iT (pv 1) pZ (fun _ _=>rfl)))) (qC qU (pv 3) (@qD _ _ _ _ _ _ _ iT (pv 1) pZ (fun _ _=>rfl)))) (by rfl) (by trivial))
 (@pK _ _ _ _ _ (@qK _ _ 5 _ _ _ _ JZ.nd rfl (Or.inl rfl) (qC BP (pv 2) (qC qU (pv 4) (pv 3))) (by rfl) (by trivial))
 (@pO _ _ _ (@pR _ _ _ _ (@zB _ _ _ _ _ (pA (pD (QM T) hr (pA (pD (GZ T) hr (pA (pv 1) (pA (@zB _ _ _ _ _ (pA (pv 5) (pA pZ pI))) pI))) (pA (pv 0) pI))) (pA (pv 5) pI))))))),?_⟩
 have t1:=R.t1;have b1:=R.b1;have vy:0<v*y:=Int.mul_pos (by lia) y0
 have bz:=(bx.sub (bu.mul bY)).mono (show _<=1800 by decide)
 have bq:=PU bz vy;refine ⟨_,rfl,_,_,_,_,rfl,rfl,AH.of (hO),rfl,_,rfl,_,rfl,_,_,_,_,rfl,rfl,AH.of (hO),rfl,_,_,rfl,rfl,.inr ⟨bu.mono (by decide),bY.mono (by decide)⟩,_,_,rfl,rfl,_,rfl,_,rfl,_,_,_,_,rfl,rfl,AH.of (hO),rfl,_,_,rfl,rfl,.inr ⟨bv.mono (by decide),bY.mono (by decide)⟩,_,_,rfl,rfl,⟨vy,(bv.mul bY).mono (by decide)⟩,?_⟩
 refine ⟨_,rfl,_,rfl,_,rfl,_,_,rfl,rfl,.inr ⟨bq.mono (by decide),bv.mono (by decide)⟩,_,_,rfl,rfl,?_⟩
 have fl:=Ge (x-u*y) vy;have k1:(u+(x-u*y) / (v*y)*v)*y<=x/\x<((u+(x-u*y) / (v*y)*v)+v)*y:=by
  generalize (x-u*y) / (v*y)=z at *;have e1:(u+z*v)*y=u*y+z*(v*y):=by grind
  have e2:(u+z*v+v)*y=u*y+(z+1)*(v*y):=by grind
  rw [e1,e2];lia
 have bone:Bd 2000 (1:Int):=(BE (by decide) (by decide)).mono (by decide)
 refine ⟨_,rfl,_,rfl,(by exact My.AL),fun p hp=>?_⟩
 have s1:=sN hp (.tup [.int (u+(x-u*y) / (v*y)*v),.int 1]);refine ⟨o,p,x,y,(u+(x-u*y) / (v*y)*v),1,rfl,.inl (s1 _ _ hO),.inl uS,bx.mono (by decide),bY.mono (by decide),bk.mono (by decide),bone,by lia,by decide,fun d hd=>?_⟩
 have s2:=sN hd (.tup [.int (AG (x*1-(u+(x-u*y) / (v*y)*v)*y) (y*1)),.int (Aj (x*1-(u+(x-u*y) / (v*y)*v)*y) (y*1))]);have D:=Cg (t:=x*1-(u+(x-u*y) / (v*y)*v)*y) (b:=y*1) (by lia)
 have bD:=((bx.mul (BE (i:=1) (by decide) (by decide))).sub (bk.mul bY)).mono (show _<=1900 by decide)
 have bE:=(bY.mul (BE (i:=1) (by decide) (by decide))).mono (show _<=1900 by decide)
 have bX1:=bD.le D.nx;have bY1:=bE.le D.ny;have he:=D.eq;have hp1:=D.pos;refine ⟨_,rfl,d,r,_,_,t,b,rfl,uS,s2 _ _ (s1 _ _ hR),bX1.mono (by decide),bY1.mono (by decide),R.bt.mono (by decide),R.bb.mono (by decide),by lia,by lia,fun f hf=>?_⟩
 generalize AG (x*1-(u+(x-u*y) / (v*y)*v)*y) (y*1)=X1 at *;generalize Aj (x*1-(u+(x-u*y) / (v*y)*v)*y) (y*1)=Y1 at *;have yt:Y1*t≠0:=Int.ne_of_gt (Int.mul_pos (by lia) (by lia))
 have L:=Cg (t:=X1*b) yt;have s3:=sN hf (.tup [.int (AG (X1*b) (Y1*t)),.int (Aj (X1*b) (Y1*t))]);refine ⟨_,rfl,(by exact My.AL),fun m hm=>?_⟩
 have s4:=sN hm (.tup [.ref f,.int (u+(x-u*y) / (v*y)*v)]);refine q (u+(x-u*y) / (v*y)*v) _ _ m f _ (s1.trans (s2.trans (s3.trans s4))) rfl k1.1 k1.2 bk L.pos L.co ?_ (((bX1.mul R.bb).mono (show _<=2000 by decide)).le L.nx) (((bY1.mul R.bt).mono (show _<=2000 by decide)).le L.ny) uS (s4 _ _ uS)
 have h2:=L.eq;generalize AG (X1*b) (Y1*t)=X at *;generalize Aj (X1*b) (Y1*t)=Y at *;generalize (u+(x-u*y) / (v*y)*v)=k at *;have h3:(X*(y*t)-(x-k*y)*b*Y)*Y1=0:=by grind
 rcases Int.mul_eq_zero.mp h3 with h3|h3
 ·lia
 ·lia

def Z4:Sp:=fun vs H Q _=>∃ (r:Addr) (t b:Int),vs=[.ref r]/\H r=some (.tup [.int t,.int b])/\BK t b/\∀ H',AE H H'->Q (.int (AG t b)) H'
theorem IS (T:Txt K mg):zH P w K mg base "top_of" ["ratio"] 3 Z4:=by
 refine Ad T.TV Xt (fun vs H Q E h=>?_) (fun f cdv A outer s H vs Q E hr h=>?_)
 ·obtain ⟨r,t,b,rfl,_⟩:=h
  rfl
 obtain ⟨r,t,b,rfl,hR,R,q⟩:=h;refine ⟨_,(@pO _ _ _ (@pR _ _ _ _ (@qD _ _ _ _ _ _ _ iT (pD (Cb T) hr (pA (@qD _ _ _ _ _ _ _ iT (pv 0) pZ (fun _ _=>rfl)) (pA (@qD _ _ _ _ _ _ _ iT (pv 0) pZ (fun _ _=>rfl)) pI))) pZ (fun _ _=>rfl)))),?_⟩;have b1:=R.b1;refine ⟨_,rfl,_,_,_,_,rfl,rfl,AH.of (hR),rfl,_,rfl,_,_,_,_,rfl,rfl,AH.of (hR),rfl,_,_,rfl,by lia,R.bb.mono (by decide),fun p hp=>?_⟩
 exact ⟨_,_,_,_,rfl,rfl,AH.of uS,rfl,q _ (sN hp _)⟩

def Zr:Sp:=fun vs H Q _=>∃ (r o:Addr) (t b x y:Int),vs=[.ref r,.ref o]/\H r=some (.tup [.int t,.int b])/\H o=some (.tup [.int x,.int y])/\BK t b/\Bd 1700 x/\Bd 1700 y/\0<y/\Bd 64 (0+(x-0*y) / (AG t b*y)*AG t b) /\
 ∀ (k X Y:Int) (m f:Addr) (H':Hp),AE H H'->k%AG t b=0->k*y<=x->x<(k+AG t b)*y->Bd 64 k ->
  1<=Y->Int.gcd X Y=1->X*(y*t)=(x-k*y)*b*Y->Bd 2000 X->Bd 2000 Y->H' m=some (.tup [.ref f,.int k])->H' f=some (.tup [.int X,.int Y])->Q (.ref m) H'
theorem QS (T:Txt K mg):zH P w K mg base "soonest_safe" ["ratio","off"] 5 Zr:=by
 refine Ad T.TQ Xr (fun vs H Q E h=>?_) (fun f cdv A outer s H vs Q E hr h=>?_)
 ·obtain ⟨r,o,t,b,x,y,rfl,_⟩:=h
  rfl
 obtain ⟨r,o,t,b,x,y,rfl,hR,hO,R,bx,bY,y0,bk0,q⟩:=h;refine ⟨_,(@pO _ _ _ (@pR _ _ _ _ (pD (Kj T) hr (pA (pv 0) (pA (pv 1) (pA pZ (pA (pD (IS T) hr (pA (pv 0) pI)) pI))))))),?_⟩;have L:=R.pl;refine ⟨_,rfl,_,rfl,_,rfl,r,t,b,rfl,hR,R,fun H1 s1=>?_⟩;refine ⟨r,o,t,b,x,y,0,_,rfl,s1 _ _ hR,s1 _ _ hO,R,bx,bY,y0,BE (by decide) (by decide),L.bp,L.p1,bk0,fun k X Y m f H' s e k1 k2 bk h1 h2 h3 h4 h5 h6 h7=>?_⟩
 refine q k X Y m f H' (s1.trans s) ?_ k1 k2 bk h1 h2 h3 h4 h5 h6 h7;rw [e,Int.zero_add];exact Int.mul_emod_left _ _

def Zd (K:zP) (mg:zQ):Sp:=fun vs H Q _=>∃ a p Fp ts,vs=[.ref a]/\An K mg Fp H a p/\Pc p ts/\∀ m f k H',AE H H'->H' m=some (.tup [.ref f,.int k])->AO K H' f p.ahead->Bd 2000 p.ahead.1->Bd 2000 p.ahead.2->0<=p.ahead.1->(p.off=none->k=0)->(∀ o,p.off=some o->k%(AB ts).1=0/\k*o.2<=o.1/\o.1<(k+(AB ts).1)*o.2)->Q (.ref m) H'
theorem Kv (T:Txt K mg):zI P w K mg base (AA mg "Piece") "next_safe" ["self"] 6 (Zd K mg):=by
 obtain ⟨f,fd,F,hm,hb⟩:=T.Ui;refine ⟨f,fd,F.ok1 YX (fun vs H Q E h=>?_) (fun cdv A outer s H vs Q E hr h=>?_),hm,T.cP,hb⟩
 ·obtain ⟨a,p,Fp,ts,rfl,_⟩:=h
  rfl
 obtain ⟨a,p,Fp,ts,rfl,R0,P,q⟩:=h;obtain ⟨dx,t,rv,w,c,fv,tc,mc,cu,R⟩:=id R0;refine ⟨_,(@pK _ _ _ _ _ (qM (qR (BX (pF (pv 0) rfl)))
 (@pO _ _ _ (@pR _ _ _ _ (@zB _ _ _ _ _ (pA (Bz (by rfl) T.Ea (v:=.ref (AA mg "NOUGHT")) rfl) (pA pZ pI)))))
 qG)
 (@pO _ _ _ (@pR _ _ _ _ (pD (QS T) hr (pA (pF (pv 0) rfl) (pA (qO (FM T) hr (qH qI) (pv 0)) pI)))))),?_⟩
 have b1:Bd 2000 (1:Int):=(Bd.of60 (by decide) (by decide)).mono (by decide)
 have b0:Bd 2000 (0:Int):=(Bd.of60 (by decide) (by decide)).mono (by decide)
 rcases R.fi with ⟨ho,rfl⟩|⟨o,f1,c1,w1,x,y,ho,rfl,hf,hc,hw,Fo,he⟩
 ·have ea:p.ahead=(0,1):=by unfold PS.ahead;rw [ho]
  refine ⟨_,rfl,_,_,_,_,_,rfl,R.ob,T.cP,T.Ch,rfl,_,rfl,qF rfl ?_⟩;refine ⟨(by exact My.AL),fun m hm=>?_⟩
  exact q m _ 0 _ (sN hm _) uS (by rw [ea];exact .inr T.GK) (by rw [ea];exact b0) (by rw [ea];exact b1) (by rw [ea];decide) (fun _=>rfl) (fun o z=>by rw [ho] at z;cases z)
 ·have hra:=R.ra
  rw [P.ep] at hra;obtain ⟨rr,rfl,hra⟩:=hra;have Rt:BK (AB ts).1 (AB ts).2:=⟨P.tr.pl.p1,P.tr.pl.p2,P.tr.pl.q1,P.tr.pl.q2⟩;have eN:AG (AB ts).1 (AB ts).2=(AB ts).1:=congrArg Prod.fst (Cj P.tr.rok);have oN:=P.offN ho;have oO:=P.o o ho;have o2:0<o.2:=by have:=oO.pos;lia
  refine ⟨_,rfl,_,_,_,_,_,rfl,R.ob,T.cP,T.Ch,rfl,_,rfl,qE (fun z=>by cases z) ?_⟩
  refine ⟨_,rfl,_,_,_,_,_,rfl,R.ob,T.cP,T.CF,rfl,_,rfl,a,dx,_,rfl,R.ob,rfl,a,p,Fp,rfl,R0,.inr ⟨ts,P⟩,fun v H1 s1 hv=>?_⟩;rw [ho] at hv;obtain ⟨n,rfl,hn0,hn⟩:=hv;refine ⟨rr,n,(AB ts).1,(AB ts).2,o.1,o.2,rfl,s1 _ _ hra,hn,Rt,oN.1,oN.2,o2,(by rw [eN];exact P.safeBd ho),fun k X Y m f H' s k1 k2 k3 bk h1 h2 h3 h4 h5 h6 h7=>?_⟩
  rw [eN] at k1 k3;obtain ⟨e1,e2⟩:=P.ahead_of ho k1 k2 k3 h1 h2 h3;exact q m f k H' (s1.trans s) h6 (by rw [e1];exact .inl h7) (by rw [e1];exact h4) (by rw [e1];exact h5) e2 (fun z=>by rw [ho] at z;cases z) (fun o' z=>by rw [ho] at z;cases z;exact ⟨k1,k2,k3⟩)

theorem RR (T:Txt K mg):zI P w K mg base (AA mg "Lathe") "wait" ["self"] 9 (Jo K mg .wait):=by
 obtain ⟨f,fd,F,hm,hb⟩:=T.Uc;refine ⟨f,fd,F.ok1 Jh (fun vs H Q E h=>?_) (fun cdv A outer s H vs Q E hr h=>?_),hm,T.cL,hb⟩
 ·obtain ⟨a,l,F,rfl,_⟩:=h
  rfl
 obtain ⟨a,l,F,rfl,R0,D⟩:=h;have R1:=R0;obtain ⟨Fp,dx,s,pa,ra,rdx,ea,es,R⟩:=R1;refine ⟨_,(@pK _ _ _ _ _ (qS (pX (DZ T) hr (qH qI) (pA (pF (pv 0) rfl) pI)))
 (@pK _ _ _ _ _ (qS (pX (FL T) hr (qH qI) (pA (pF (pv 0) rfl) pI)))
 (@pK _ _ _ _ _ (@qK _ _ 1 _ _ _ _ Jh.nd rfl (Or.inl rfl) (@qD _ _ _ _ _ _ _ iT (qO (Kv T) hr (qH qI) (pF (pv 0) rfl)) pZ (fun _ _=>rfl)) (by rfl) (by trivial))
 (@pK _ _ _ _ _ (qS (pX (GY T) hr (qH qI) (pA (pF (pF (pv 0) rfl) rfl) (pA (pv 1) pI))))
 (@pK _ _ _ _ _ (@qK _ _ 2 _ _ _ _ Jh.nd rfl (Or.inl rfl) (qO (FN T) hr (qH qI) (pF (pv 0) rfl)) (by rfl) (by trivial))
 (@pK _ _ _ _ _ (qS (qP (IY T) hr (qH qI) (pv 2) (pA (pv 1) pI)))
 (@pO _ _ _ (@pR _ _ _ _ (qP (EW T) hr (qH qI) (pv 0) (pA pS (pA BC (pA (pv 2) pI)))))))))))),?_⟩
 refine ⟨_,rfl,_,_,_,_,_,rfl,R.ob,T.cL,T.Ae,rfl,pa,l.ps,Fp,rfl,R.pc,fun pi=>?_,fun pi=>D.no R0 (AE.refl _) (Cc rfl (by show l.ps.pitch.isSome=false;rw [pi];rfl))⟩
 have d2:Req.wait.has l=true:=by show l.ps.pitch.isSome=true;exact Option.isSome_iff_ne_none.mpr pi
 refine ⟨_,rfl,_,_,_,_,_,rfl,R.ob,T.cL,T.Ae,rfl,pa,l.ps,Fp,rfl,R.pc,fun cl=>?_,fun cl=>D.no R0 (AE.refl _) (Cd rfl d2 cl)⟩;obtain ⟨pdx,t,rv,w,c,fv,tc,mc,cu,Rp⟩:=R.pc;rcases R.re.pco with e|⟨ts,P⟩
 ·rw [e] at pi;exact absurd rfl pi
 refine ⟨_,rfl,_,_,_,_,_,rfl,R.ob,T.cL,T.Ae,rfl,pa,pdx,_,rfl,Rp.ob,rfl,pa,l.ps,Fp,ts,rfl,R.pc,P,fun m f k H1 s1 hm hf b1 b2 n0 _ _=>?_⟩;refine ⟨_,_,_,_,rfl,rfl,AH.of hm,rfl,?_⟩;have tN:=P.turnedN;have ao:=(DW P).1;have wN:=P.waitN;have y0:l.ps.ahead.2≠0:=ao.ne;refine ⟨_,rfl,_,_,_,_,_,rfl,(s1 _ _ R.ob),T.cL,T.Ae,rfl,_,_,_,_,_,rfl,(s1 _ _ Rp.ob),T.cP,T.Dj,rfl,_,rfl,tc,f,l.ps.turned,l.ps.ahead.1,l.ps.ahead.2,rfl,Rp.tu.mono s1,hf,tN.1.mono (by decide),tN.2.mono (by decide),b1,b2,P.t.ne,y0,wN.2.1.mono (by decide),wN.2.2.mono (by decide),fun few H2 s2=>?_,fun many H2 s2=>D.no R0 (s1.trans s2) (Bl rfl d2 cl many)⟩
 have dd:=Bv (l:=l) (q:=.wait) rfl d2 cl few rfl;have s12:=s1.trans s2;refine ⟨_,rfl,_,_,_,_,_,rfl,(s12 _ _ R.ob),T.cL,T.Ae,rfl,pa,pdx,_,rfl,s12 _ _ Rp.ob,rfl,pa,l.ps,Fp,rfl,R.pc.same s12,R.re.pco,fun b H3 Fq s3 nb nq aq Rb=>?_⟩;obtain ⟨bdx,bt,brv,bw,bc,bfv,btc,bmc,bcu,Rb'⟩:=id Rb;have hf3:=hf.mono (s2.trans s3);refine ⟨_,rfl,b,bdx,_,rfl,Rb'.ob,rfl,_,rfl,b,l.ps,Fq,ts,f,l.ps.ahead.1,l.ps.ahead.2,rfl,Rb,P,hf3,b1,b2,ao.pos,fun z=>(by rw [cl] at z;cases z),fun H4 k4 ex4 R4=>?_⟩
 have s4:=keep1 (s12.trans s3) (s12.free nb) k4;rw [Cj ao] at R4;exact ⟨_,rfl,a,dx,_,rfl,s4 _ _ R.ob,rfl,_,rfl,D.enter R0 s4 (fun z f=>s12.free (nq z f)) (Fn aq k4 ex4) dd rfl R4⟩

def Y5 (K:zP) (mg:zQ):Sp:=fun vs H Q _=>∃ a p Fp ts,vs=[.ref a]/\An K mg Fp H a p/\Pc p ts/\∀ H',(∀ b o,H b=some o->b≠a->H' b=some o)->(∃ o,H' a=some o)->An K mg Fp H' a (p.after .close)->Q .non H'
theorem RT (T:Txt K mg):zI P w K mg base (AA mg "Piece") "close_nut" ["self"] 1 (Y5 K mg):=by
 obtain ⟨f,fd,F,hm,hb⟩:=T.Ue;refine ⟨f,fd,F.ok1 YU (fun vs H Q E h=>?_) (fun cdv A outer s H vs Q E hr h=>?_),hm,T.cP,hb⟩
 ·obtain ⟨a,p,Fp,ts,rfl,_⟩:=h
  rfl
 obtain ⟨a,p,Fp,ts,rfl,⟨dx,t,rv,w,c,fv,tc,mc,cu,R⟩,P,q⟩:=h;refine ⟨_,(@pK _ _ _ _ _ (zD (pv 0) BH rfl)
 (@pO _ _ _ (qM (qR (BX (pF (pv 0) rfl)))
 (@pO _ _ _ (zD (pv 0) (@zB _ _ _ _ _ (pA (pF (pv 0) rfl) (pA (pF (pv 0) rfl) pI))) rfl))
 qG))),?_⟩
 obtain ⟨rs,hrs,prs⟩:=R.cu;have hca:cu≠a:=fun z=>by rw [z,R.ob] at hrs;cases hrs
 refine ⟨_,rfl,_,_,_,_,rfl,R.ob,T.cP,T.Dh,Nat.le_of_ble_eq_true rfl,?_⟩;rcases R.fi with ⟨ho,rfl⟩|⟨o,f1,c1,w1,x,y,ho,rfl,hf,hc,hw,Fo,he⟩
 ·refine ⟨_,rfl,_,_,_,_,_,rfl,uS,T.cP,T.Ch,rfl,_,rfl,qF rfl ?_⟩
  refine ⟨_,rfl,_,_,_,_,_,rfl,uS,T.cP,T.DL,rfl,_,rfl,_,_,_,_,_,rfl,uS,T.cP,T.Dk,rfl,(by exact My.AL),fun n hn=>?_⟩
  have na:n≠a:=fun z=>by rw [z,uS] at hn;cases hn
  refine ⟨_,rfl,_,_,_,_,rfl,((uN (Ne.symm na)).trans uS),T.cP,T.Ch,Nat.le_of_ble_eq_true rfl,?_⟩;have k:∀ b o,H b=some o->b≠a->AC (AC (AC H a (.ins (AA mg "Piece") dx (A4 t rv w c true .non tc mc cu))) n (.tup [.ref c,.ref w])) a (.ins (AA mg "Piece") dx (A4 t rv w c true (.ref n) tc mc cu)) b=some o:=fun b o e nb=>Fw hn b o ((uN nb).trans e) nb;have tu:Ai H (AC (AC (AC H a (.ins (AA mg "Piece") dx (A4 t rv w c true .non tc mc cu))) n (.tup [.ref c,.ref w])) a (.ins (AA mg "Piece") dx (A4 t rv w c true (.ref n) tc mc cu))):=fun b xs e=>k b _ e fun z=>by rw [z,R.ob] at e;cases e
  refine q _ k ⟨_,uS⟩ ⟨dx,t,rv,w,c,.ref n,tc,mc,cu,uS,R.fa,R.fc,R.tr.tups tu,R.ra.tups tu,R.wo.tups tu,R.pl.tups tu,.inr ⟨(0,1),n,c,w,p.place,p.work,?_,rfl,(uN na).trans uS,R.pl.tups tu,R.wo.tups tu,⟨P.pl,P.w,?_,?_,P.placeBd,?_⟩,?_⟩,R.tu.tups tu,R.mo.tups tu,⟨rs,k _ _ hrs hca,DN tu prs⟩⟩
  ·show some (p.off.getD (0,1))=_;rw [ho];rfl
  ·show Wh (qv p.place*((LL*(AB p.train).2:Int):Rat));rw [P.et];exact P.dp
  ·show Wh (qv p.work*((LL*(AB p.train).1:Int):Rat));rw [P.et];exact P.dw
  ·exact Rat.le_trans P.lw P.t1
  ·show qv (0,1)=qv p.place-qv p.place-qv (AB p.train)*(qv p.work-qv p.work)
   rw [Bc];grind
 ·refine ⟨_,rfl,_,_,_,_,_,rfl,uS,T.cP,T.Ch,rfl,_,rfl,qE (fun z=>by cases z) ?_⟩
  have k:∀ b o,H b=some o->b≠a->AC H a (.ins (AA mg "Piece") dx (A4 t rv w c true (.ref f1) tc mc cu)) b=some o:=fun b o e n=>(uN n).trans e;have tu:Ai H (AC H a (.ins (AA mg "Piece") dx (A4 t rv w c true (.ref f1) tc mc cu))):=fun b xs e=>k b _ e fun z=>by rw [z,R.ob] at e;cases e
  refine q _ k ⟨_,uS⟩ ⟨dx,t,rv,w,c,.ref f1,tc,mc,cu,uS,R.fa,R.fc,R.tr.tups tu,R.ra.tups tu,R.wo.tups tu,R.pl.tups tu,.inr ⟨o,f1,c1,w1,x,y,?_,rfl,tu _ _ hf,hc.tups tu,hw.tups tu,⟨Fo.ox,Fo.oy,Fo.wx,Fo.wy,Fo.bx,Fo.bY⟩,he⟩,R.tu.tups tu,R.mo.tups tu,⟨rs,k _ _ hrs hca,DN tu prs⟩⟩;show some (p.off.getD (0,1))=_;rw [ho];rfl

theorem Qy (T:Txt K mg):zI P w K mg base (AA mg "Lathe") "close_nut" ["self"] 9 (Jo K mg .close):=by
 obtain ⟨f,fd,F,hm,hb⟩:=T.UH;refine ⟨f,fd,F.ok1 Jf (fun vs H Q E h=>?_) (fun cdv A outer s H vs Q E hr h=>?_),hm,T.cL,hb⟩
 ·obtain ⟨a,l,F,rfl,_⟩:=h
  rfl
 obtain ⟨a,l,F,rfl,R0,D⟩:=h;have R1:=R0;obtain ⟨Fp,dx,s,pa,ra,rdx,ea,es,R⟩:=R1;refine ⟨_,(@pK _ _ _ _ _ (qS (pX (DZ T) hr (qH qI) (pA (pF (pv 0) rfl) pI)))
 (@pK _ _ _ _ _ (qS (pX (FL T) hr (qH qI) (pA (pF (pv 0) rfl) pI)))
 (@pK _ _ _ _ _ (@qK _ _ 1 _ _ _ _ Jf.nd rfl (Or.inl rfl) (qO (FM T) hr (qH qI) (pF (pv 0) rfl)) (by rfl) (by trivial))
 (@pK _ _ _ _ _ (qM (B0 (qR (EG (pv 1))) (CT (qR (Bm (@qD _ _ _ _ _ _ _ iT (pv 1) pZ (fun _ _=>rfl)) pZ)))).pt
 (@pO _ _ _ (zE qI rfl T.Ov T.LD (pA pS pI)))
 qG)
 (@pK _ _ _ _ _ (@qK _ _ 2 _ _ _ _ Jf.nd rfl (Or.inl rfl) (qO (FN T) hr (qH qI) (pF (pv 0) rfl)) (by rfl) (by trivial))
 (@pK _ _ _ _ _ (qS (qO (RT T) hr (qH qI) (pv 2)))
 (@pO _ _ _ (@pR _ _ _ _ (qP (EW T) hr (qH qI) (pv 0) (pA pS (pA BC (pA (pv 2) pI)))))))))))),?_⟩
 refine ⟨_,rfl,_,_,_,_,_,rfl,R.ob,T.cL,T.Ae,rfl,pa,l.ps,Fp,rfl,R.pc,fun pi=>?_,fun pi=>D.no R0 (AE.refl _) (Cc rfl (by show l.ps.pitch.isSome=false;rw [pi];rfl))⟩
 have d2:Req.close.has l=true:=by show l.ps.pitch.isSome=true;exact Option.isSome_iff_ne_none.mpr pi
 refine ⟨_,rfl,_,_,_,_,_,rfl,R.ob,T.cL,T.Ae,rfl,pa,l.ps,Fp,rfl,R.pc,fun cl=>?_,fun cl=>D.no R0 (AE.refl _) (Cd rfl d2 cl)⟩;obtain ⟨pdx,t,rv,w,c,fv,tc,mc,cu,Rp⟩:=R.pc;rcases R.re.pco with e|⟨ts,P⟩
 ·rw [e] at pi;exact absurd rfl pi
 refine ⟨_,rfl,_,_,_,_,_,rfl,R.ob,T.cL,T.Ae,rfl,pa,pdx,_,rfl,Rp.ob,rfl,pa,l.ps,Fp,rfl,R.pc,R.re.pco,fun v H1 s1 hv=>?_⟩;have meet:∀ o,l.ps.off=some o->(Req.close.meets l=true↔o.2=1):=fun o ho=>by
  show ((l.ps.off.getD (0,1)).2==1)=true↔_;rw [ho];exact beq_iff_eq
 refine (fun (key:∀ Hd:Hp,(Hd=H1/\((l.book.length<100->AZ l .close=none)/\(100<=l.book.length->AZ l .close=some "BookFull")))->(?G:Hp->Prop) Hd)=>?main) ?keyp
 case main =>
  rcases ho:l.ps.off with _|o
  ·rw [ho] at hv
   have ev:v = .non:=hv;refine ⟨_,rfl,_,rfl,?_⟩;rw [ev];refine AN (AN ?_);exact key H1 ⟨rfl,Bv (l:=l) (q:=.close) rfl d2 cl rfl (by show ((l.ps.off.getD (0,1)).2==1)=true;rw [ho];rfl)⟩
  ·rw [ho] at hv
   obtain ⟨n,ev,hn0,hn⟩:=hv;refine ⟨_,rfl,_,rfl,?_⟩;rw [ev];refine Ab ?_;refine ⟨_,rfl,_,_,_,_,rfl,rfl,AH.of (hn),rfl,_,_,rfl,rfl,_,rfl,?_⟩;refine BG (fun ne=>⟨by show 1<=sizeLine;decide,D.no R0 s1 (K3 rfl d2 cl rfl (Bool.eq_false_iff.mpr fun z=>ne ((meet o ho).mp z)))⟩) (fun eq=>?_)
   exact key H1 ⟨rfl,Bv (l:=l) (q:=.close) rfl d2 cl rfl ((meet o ho).mpr eq)⟩
 case keyp =>
  rintro _ ⟨rfl,dd⟩
  refine ⟨_,rfl,_,_,_,_,_,rfl,(s1 _ _ R.ob),T.cL,T.Ae,rfl,pa,pdx,_,rfl,s1 _ _ Rp.ob,rfl,pa,l.ps,Fp,rfl,R.pc.same s1,R.re.pco,fun b H2 Fq s2 nb nq aq Rb=>?_⟩;obtain ⟨bdx,bt,brv,bw,bc,bfv,btc,bmc,bcu,Rb'⟩:=id Rb;refine ⟨_,rfl,b,bdx,_,rfl,Rb'.ob,rfl,b,l.ps,Fq,ts,rfl,Rb,P,fun H3 k3 ex3 R3=>?_⟩;have s3:=keep1 (s1.trans s2) (s1.free nb) k3;exact ⟨_,rfl,a,dx,_,rfl,s3 _ _ R.ob,rfl,_,rfl,D.enter R0 s3 (fun z f=>s1.free (nq z f)) (Fn aq k3 ex3) dd rfl R3⟩

def Zi (K:zP) (mg:zQ):Sp:=fun vs H Q _=>∃ a p Fp,vs=[.ref a]/\An K mg Fp H a p/\∀ H',(∀ b o,H b=some o->b≠a->H' b=some o)->(∃ o,H' a=some o)->An K mg Fp H' a (p.after .opn)->Q .non H'
theorem RX (T:Txt K mg):zI P w K mg base (AA mg "Piece") "open_nut" ["self"] 1 (Zi K mg):=by
 obtain ⟨f,fd,F,hm,hb⟩:=T.Uk;refine ⟨f,fd,F.ok1 YY (fun vs H Q E h=>?_) (fun cdv A outer s H vs Q E hr h=>?_),hm,T.cP,hb⟩
 ·obtain ⟨a,p,Fp,rfl,_⟩:=h
  rfl
 obtain ⟨a,p,Fp,rfl,⟨dx,t,rv,w,c,fv,tc,mc,cu,R⟩,q⟩:=h;refine ⟨_,(@pO _ _ _ (zD (pv 0) BH rfl)),?_⟩;refine ⟨_,rfl,_,_,_,_,rfl,R.ob,T.cP,T.Dh,Nat.le_of_ble_eq_true rfl,?_⟩;have k:∀ b o,H b=some o->b≠a->AC H a (.ins (AA mg "Piece") dx (A4 t rv w c false fv tc mc cu)) b=some o:=fun b o e n=>(uN n).trans e;have tu:Ai H (AC H a (.ins (AA mg "Piece") dx (A4 t rv w c false fv tc mc cu))):=fun b xs e=>k b _ e fun z=>by rw [z,R.ob] at e;cases e
 obtain ⟨rs,hrs,prs⟩:=R.cu;have hca:cu≠a:=fun z=>by rw [z,R.ob] at hrs;cases hrs
 refine q _ k ⟨_,uS⟩ ⟨dx,t,rv,w,c,fv,tc,mc,cu,uS,R.fa,R.fc,R.tr.tups tu,R.ra.tups tu,R.wo.tups tu,R.pl.tups tu,(R.fi.tups tu).like rfl rfl rfl rfl,R.tu.tups tu,R.mo.tups tu,⟨rs,k _ _ hrs hca,DN tu prs⟩⟩

theorem RH (T:Txt K mg):zI P w K mg base (AA mg "Lathe") "open_nut" ["self"] 9 (Jo K mg .opn):=by
 obtain ⟨f,fd,F,hm,hb⟩:=T.UR;refine ⟨f,fd,F.ok1 ON (fun vs H Q E h=>?_) (fun cdv A outer s H vs Q E hr h=>?_),hm,T.cL,hb⟩
 ·obtain ⟨a,l,F,rfl,_⟩:=h
  rfl
 obtain ⟨a,l,F,rfl,R0,D⟩:=h;have R1:=R0;obtain ⟨Fp,dx,s,pa,ra,rdx,ea,es,R⟩:=R1;refine ⟨_,(@pK _ _ _ _ _ (qS (pX (DZ T) hr (qH qI) (pA (pF (pv 0) rfl) pI)))
 (@pK _ _ _ _ _ (qS (pX (Kf T) hr (qH qI) (pA (pF (pv 0) rfl) pI)))
 (@pK _ _ _ _ _ (@qK _ _ 1 _ _ _ _ ON.nd rfl (Or.inl rfl) (qO (FN T) hr (qH qI) (pF (pv 0) rfl)) (by rfl) (by trivial))
 (@pK _ _ _ _ _ (qS (qO (RX T) hr (qH qI) (pv 1)))
 (@pO _ _ _ (@pR _ _ _ _ (qP (EW T) hr (qH qI) (pv 0) (pA pS (pA BC (pA (pv 1) pI)))))))))),?_⟩
 refine ⟨_,rfl,_,_,_,_,_,rfl,R.ob,T.cL,T.Ae,rfl,pa,l.ps,Fp,rfl,R.pc,fun pi=>?_,fun pi=>D.no R0 (AE.refl _) (Cc rfl (by show l.ps.pitch.isSome=false;rw [pi];rfl))⟩
 have d2:Req.opn.has l=true:=by show l.ps.pitch.isSome=true;exact Option.isSome_iff_ne_none.mpr pi
 refine ⟨_,rfl,_,_,_,_,_,rfl,R.ob,T.cL,T.Ae,rfl,pa,l.ps,Fp,rfl,R.pc,fun cl=>?_,fun cl=>D.no R0 (AE.refl _) (Cd rfl d2 (by show (!l.ps.closed)=true;rw [cl];rfl))⟩
 obtain ⟨pdx,t,rv,w,c,fv,tc,mc,cu,Rp⟩:=R.pc;have dd:=Bv (l:=l) (q:=.opn) rfl d2 (by show (!l.ps.closed)=false;rw [cl];rfl) rfl rfl
 refine ⟨_,rfl,_,_,_,_,_,rfl,R.ob,T.cL,T.Ae,rfl,pa,pdx,_,rfl,Rp.ob,rfl,pa,l.ps,Fp,rfl,R.pc,R.re.pco,fun b H2 Fq s2 nb nq aq Rb=>?_⟩;obtain ⟨bdx,bt,brv,bw,bc,bfv,btc,bmc,bcu,Rb'⟩:=id Rb;refine ⟨_,rfl,b,bdx,_,rfl,Rb'.ob,rfl,b,l.ps,Fq,rfl,Rb,fun H3 k3 ex3 R3=>?_⟩;have s3:=keep1 s2 nb k3;exact ⟨_,rfl,a,dx,_,rfl,s3 _ _ R.ob,rfl,_,rfl,D.enter R0 s3 nq (Fn aq k3 ex3) dd rfl R3⟩

def Za (K:zP) (mg:zQ):Sp:=fun vs H Q _=>∃ a p Fp ts t x y,vs=[.ref a,.ref t]/\An K mg Fp H a p/\Pc p ts/\AO K H t (x,y)/\Bd 200 x/\Bd 200 y/\1<=y/\∀ H',(∀ b o,H b=some o->b≠a->H' b=some o)->(∃ o,H' a=some o)->An K mg Fp H' a (p.after (.move (AI x y)))->Q .non H'
theorem RW (T:Txt K mg):zI P w K mg base (AA mg "Piece") "move" ["self","way"] 5 (Za K mg):=by
 obtain ⟨f,fd,F,hm,hb⟩:=T.Uh;refine ⟨f,fd,F.ok1 YW (fun vs H Q E h=>?_) (fun cdv A outer s H vs Q E hr h=>?_),hm,T.cP,hb⟩
 ·obtain ⟨a,p,Fp,ts,t,x,y,rfl,_⟩:=h
  rfl
 obtain ⟨a,p,Fp,ts,tt,x,y,rfl,⟨dx,t,rv,w,c,fv,tc,mc,cu,R⟩,P,hT,bx,bY,y1,q⟩:=h;refine ⟨_,(@pK _ _ _ _ _ (zD (pv 0) (pD (Ga T) hr (pA (pF (pv 0) rfl) (pA (pv 1) pI))) rfl)
 (@pO _ _ _ (zD (pv 0) (pD (IP T) hr (pA (pF (pv 0) rfl) (pA (pv 1) pI))) rfl))),?_⟩
 obtain ⟨rs,hrs,prs⟩:=R.cu;have hca:cu≠a:=fun z=>by rw [z,R.ob] at hrs;cases hrs
 have pN:=P.placeN;have mN:=P.movedN;have y0:y≠0:=by lia
 refine ⟨_,rfl,_,_,_,_,_,rfl,R.ob,T.cP,T.DL,rfl,_,rfl,c,tt,p.place.1,p.place.2,x,y,rfl,R.pl,hT,pN.1.mono (by decide),pN.2.mono (by decide),bx.mono (by decide),bY.mono (by decide),P.pl.ne,y0,fun n1 hn1=>?_⟩
 have s1:=sN hn1 (.tup [.int (AJ p.place (x,y)).1,.int (AJ p.place (x,y)).2]);have na:a≠n1:=nQ R.ob hn1;refine ⟨_,rfl,_,_,_,_,rfl,((uN na).trans R.ob),T.cP,T.DL,Nat.le_of_ble_eq_true rfl,?_⟩;have k2:=fun b o (e:H b=some o) (n:b≠a)=>(uN (o:=.ins (AA mg "Piece") dx (A4 t rv w n1 p.closed fv tc mc cu)) n).trans (s1 b o e);have t2:Ai H _:=fun b xs e=>k2 b _ e fun z=>by rw [z,R.ob] at e;cases e
 refine ⟨_,rfl,_,_,_,_,_,rfl,uS,T.cP,T.Ee,rfl,_,rfl,mc,tt,p.moved,x,y,rfl,R.mo.tups t2,hT.tups t2,mN.1.mono (by decide),mN.2.mono (by decide),bx.mono (by decide),bY.mono (by decide),P.m.ne,y0,fun n2 H3 s3 nn2 hn2=>?_⟩
 refine ⟨_,rfl,_,_,_,_,rfl,(s3 _ _ uS),T.cP,T.Ee,Nat.le_of_ble_eq_true rfl,?_⟩;have a3:=s3 _ _ (uS (a:=a) (o:=.ins (AA mg "Piece") dx (A4 t rv w n1 p.closed fv tc mc cu)));have k3:∀ b o,H b=some o->b≠a->AC H3 a (.ins (AA mg "Piece") dx (A4 t rv w n1 p.closed fv tc n2 cu)) b=some o:=fun b o e n=>(uN n).trans (s3 _ _ (k2 b o e n));have t3:Ai H (AC H3 a (.ins (AA mg "Piece") dx (A4 t rv w n1 p.closed fv tc n2 cu))):=fun b xs e=>k3 b _ e fun z=>by rw [z,R.ob] at e;cases e
 have p3:AC H3 a (.ins (AA mg "Piece") dx (A4 t rv w n1 p.closed fv tc n2 cu)) n1=some (.tup [.int (AJ p.place (x,y)).1,.int (AJ p.place (x,y)).2]):=(uN (Ne.symm na)).trans (s3 _ _ ((uN (Ne.symm na)).trans uS));have m3:AC H3 a (.ins (AA mg "Piece") dx (A4 t rv w n1 p.closed fv tc n2 cu)) n2=_:=(uN (fun z=>by rw [z,a3] at hn2;cases hn2)).trans hn2
 rw [GC P.pl.ne y0] at p3;rw [HD P.m.ne (by lia)] at m3
 refine q _ k3 ⟨_,uS⟩ ⟨dx,t,rv,w,n1,fv,tc,n2,cu,uS,R.fa,R.fc,R.tr.tups t3,R.ra.tups t3,R.wo.tups t3,.inl p3,?_,R.tu.tups t3,.inl m3,⟨rs,k3 _ _ hrs hca,DN t3 prs⟩⟩;have ha:=BR (t:=x) y0;rcases R.fi with ⟨ho,rfl⟩|⟨o,f1,c1,w1,u,v,ho,rfl,hf,hc,hw,Fo,he⟩
 ·exact .inl ⟨by show p.off.map _=none;rw [ho];rfl,rfl⟩
 ·refine .inr ⟨AJ o (AI x y),f1,c1,w1,u,v,by show p.off.map _=_;rw [ho];rfl,rfl,t3 _ _ hf,hc.tups t3,hw.tups t3,⟨Fo.ox,Fo.oy,Fo.wx,Fo.wy,Fo.bx,Fo.bY⟩,?_⟩
  show qv (AJ o (AI x y))=qv (AJ p.place (AI x y))-qv u-qv (AB p.train)*(qv p.work-qv v);rw [A3 (P.o o ho).ne ha.ne,A3 P.pl.ne ha.ne,he]
  grind

theorem RD (T:Txt K mg):zI P w K mg base (AA mg "Lathe") "move" ["self","way"] 9 (Jn K mg .move):=by
 obtain ⟨f,fd,F,hm,hb⟩:=T.UN;refine ⟨f,fd,F.ok1 OM (fun vs H Q E h=>?_) (fun cdv A outer s H vs Q E hr h=>?_),hm,T.cL,hb⟩
 ·obtain ⟨a,t,x,y,l,F,rfl,_⟩:=h
  rfl
 obtain ⟨a,tt,x,y,l,F,rfl,R0,hT,bx,bY,D⟩:=h;have R1:=R0;obtain ⟨Fp,dx,s,pa,ra,rdx,ea,es,R⟩:=R1;refine ⟨_,(@pK _ _ _ _ _ (qS (pX (DZ T) hr (qH qI) (pA (pF (pv 0) rfl) pI)))
 (@pK _ _ _ _ _ (qS (pX (FL T) hr (qH qI) (pA (pF (pv 0) rfl) pI)))
 (@pK _ _ _ _ _ (qS (pX (IO T) hr (qH qI) (pA (pv 1) pI)))
 (@pK _ _ _ _ _ (qS (pX (GY T) hr (qH qI) (pA (pF (pF (pv 0) rfl) rfl) (pA (pv 1) pI))))
 (@pK _ _ _ _ _ (@qK _ _ 2 _ _ _ _ OM.nd rfl (Or.inl rfl) (qO (FN T) hr (qH qI) (pF (pv 0) rfl)) (by rfl) (by trivial))
 (@pK _ _ _ _ _ (qS (qP (RW T) hr (qH qI) (pv 2) (pA (pv 1) pI)))
 (@pO _ _ _ (@pR _ _ _ _ (qP (EW T) hr (qH qI) (pv 0) (pA pS (pA (pD (Cb T) hr (pA (@qD _ _ _ _ _ _ _ iT (pv 1) pZ (fun _ _=>rfl)) (pA (@qD _ _ _ _ _ _ _ iT (pv 1) pZ (fun _ _=>rfl)) pI))) (pA (pv 2) pI)))))))))))),?_⟩
 refine ⟨_,rfl,_,_,_,_,_,rfl,R.ob,T.cL,T.Ae,rfl,pa,l.ps,Fp,rfl,R.pc,fun pi=>?_,fun pi=>D.no R0 (AE.refl _) (Cc rfl (by show l.ps.pitch.isSome=false;rw [pi];rfl))⟩
 have d2:(Req.move x y).has l=true:=by show l.ps.pitch.isSome=true;exact Option.isSome_iff_ne_none.mpr pi
 refine ⟨_,rfl,_,_,_,_,_,rfl,R.ob,T.cL,T.Ae,rfl,pa,l.ps,Fp,rfl,R.pc,fun cl=>?_,fun cl=>D.no R0 (AE.refl _) (Cd rfl d2 cl)⟩;obtain ⟨pdx,t,rv,w,c,fv,tc,mc,cu,Rp⟩:=R.pc;rcases R.re.pco with e|⟨ts,P⟩
 ·rw [e] at pi;exact absurd rfl pi
 refine ⟨_,rfl,tt,x,y,rfl,hT,fun ok=>?_,fun bad=>D.no R0 (AE.refl _) (Bl rfl d2 cl (PR bad))⟩;have y0:y≠0:=by lia
 have mN:=P.movedN;obtain ⟨cb1,cb2⟩:=GX (c:=l.ps.moved) mN.1 mN.2 bx bY P.m.ne y0;refine ⟨_,rfl,_,_,_,_,_,rfl,R.ob,T.cL,T.Ae,rfl,_,_,_,_,_,rfl,Rp.ob,T.cP,T.Ee,rfl,_,rfl,mc,tt,l.ps.moved,x,y,rfl,Rp.mo,hT,mN.1.mono (by decide),mN.2.mono (by decide),bx.mono (by decide),bY.mono (by decide),P.m.ne,y0,cb1,cb2,fun few H1 s1=>?_,fun many H1 s1=>D.no R0 s1 (Bl rfl d2 cl (KI many))⟩
 have dd:=Bv (l:=l) (q:=.move x y) rfl d2 cl (KJ ok few) rfl;refine ⟨_,rfl,_,_,_,_,_,rfl,(s1 _ _ R.ob),T.cL,T.Ae,rfl,pa,pdx,_,rfl,s1 _ _ Rp.ob,rfl,pa,l.ps,Fp,rfl,R.pc.same s1,R.re.pco,fun b H2 Fq s2 nb nq aq Rb=>?_⟩;obtain ⟨bdx,bt,brv,bw,bc,bfv,btc,bmc,bcu,Rb'⟩:=id Rb;refine ⟨_,rfl,b,bdx,_,rfl,Rb'.ob,rfl,_,rfl,b,l.ps,Fq,ts,tt,x,y,rfl,Rb,P,hT.mono (s1.trans s2),bx,bY,ok.1,fun H3 k3 ex3 R3=>?_⟩;have s3:=keep1 (s1.trans s2) (s1.free nb) k3;have hT3:=(hT.mono s3).sq;refine ⟨_,rfl,a,dx,_,rfl,s3 _ _ R.ob,rfl,_,rfl,_,_,_,_,rfl,rfl,hT3,rfl,_,rfl,_,_,_,_,rfl,rfl,hT3,rfl,x,y,rfl,y0,bY.mono (by decide),fun n4 hn4=>?_⟩
 have s4:=sN hn4 (.tup [.int (AI x y).1,.int (AI x y).2]);exact ⟨_,rfl,D.enter R0 (s3.trans s4) (fun z f=>s1.free (nq z f)) (fun z f=>by obtain ⟨o,h⟩:=Fn aq k3 ex3 z f;exact ⟨o,s4 _ _ h⟩) dd ⟨n4,rfl,.inl uS⟩ (R3.same s4)⟩

def Rg (K:zP) (mg:zQ) (H:Hp) (a:Addr) (l:LS) (F:Addr->Prop) (q:Req) (Q:VK) (E:XK):Option String->Prop
 | none=>∀ r H' F',Aa K mg H' a (l.push q.deed) F'->AS F F' H H'->FC K H' r (l.push q.deed)->Q (.ref r) H'
 | some x=>∀ H' F',Aa K mg H' a l F'->AS F F' H H'->E (.ref (AA mg x)) none H'
def ZA (K:zP) (mg:zQ):Sp:=fun vs H Q E=>∃ (a:Addr) (l:LS) (F:Addr->Prop) (q:Req) (wv:V),vs=[.ref a,.str (Req.word q),wv]/\Aa K mg H a l F/\BU K H wv q/\∃ o,AZ l q=o/\Rg K mg H a l F q Q E o
theorem Kn (T:Txt K mg):CB P w K mg base "_law_do" ["_law_lathe","_law_word","_law_what"] 10 (ZA K mg):=by
 refine Cq T.Tg Xz (fun vs H Q E h=>?_) (fun f cdv A outer s H vs Q E hr h=>?_)
 ·obtain ⟨a,l,F,q,wv,rfl,_⟩:=h
  rfl
 obtain ⟨a,l,F,rq,wv,rfl,R,hv,o,d,q⟩:=h;refine ⟨_,(@pK _ _ _ _ _ (qM (qQ zF (pv 1) pS (Ax _))
 (@pO _ _ _ (@pR _ _ _ _ (qP (RB T) hr (qH qI) (pv 0) (pA (pv 2) pI))))
 qG)
 (@pK _ _ _ _ _ (qM (qQ zF (pv 1) pS (Ax _))
 (@pO _ _ _ (@pR _ _ _ _ (qP (RP T) hr (qH qI) (pv 0) (pA (pv 2) pI))))
 qG)
 (@pK _ _ _ _ _ (qM (qQ zF (pv 1) pS (Ax _))
 (@pO _ _ _ (@pR _ _ _ _ (qO (RR T) hr (qH qI) (pv 0))))
 qG)
 (@pK _ _ _ _ _ (qM (qQ zF (pv 1) pS (Ax _))
 (@pO _ _ _ (@pR _ _ _ _ (qO (Qy T) hr (qH qI) (pv 0))))
 qG)
 (@pK _ _ _ _ _ (qM (qQ zF (pv 1) pS (Ax _))
 (@pO _ _ _ (@pR _ _ _ _ (qO (RH T) hr (qH qI) (pv 0))))
 qG)
 (@pK _ _ _ _ _ (qM (qQ zF (pv 1) pS (Ax _))
 (@pO _ _ _ (@pR _ _ _ _ (qP (RD T) hr (qH qI) (pv 0) (pA (pv 2) pI))))
 qG)
 (@pO _ _ _ (@pR _ _ _ _ (qP (Qz T) hr (qH qI) (pv 0) (pA (pv 2) pI)))))))))),?_⟩
 obtain ⟨dx,fs,ins,no⟩:=R.ins;have D:D9 K mg H a l F rq Q E:=⟨fun z=>by rw [z] at d;subst d;exact q,fun e he=>by rw [he] at d;subst d;exact q⟩
 cases rq with
 | mount ts =>
  obtain ⟨t,rfl,ht,h1,h2⟩:=hv;refine ⟨_,rfl,rfl,_,rfl,qF rfl ?_⟩;exact ⟨_,rfl,a,dx,fs,rfl,ins,no "mount" (by decide +kernel),_,rfl,a,t,ts,l,F,rfl,R,ht,h1,h2,D⟩
 | turn x y =>
  obtain ⟨t,rfl,ht,b1,b2⟩:=hv;refine ⟨_,rfl,rfl,_,rfl,qE (by show ¬ V.str "turn" = V.str "mount";decide +kernel) ?_⟩
  refine ⟨_,rfl,rfl,_,rfl,qF rfl ?_⟩;exact ⟨_,rfl,a,dx,fs,rfl,ins,no "turn" (by decide +kernel),_,rfl,a,t,x,y,l,F,rfl,R,ht,b1,b2,D⟩
 | wait =>
  refine ⟨_,rfl,rfl,_,rfl,qE (by show ¬ V.str "wait" = V.str "mount";decide +kernel) ?_⟩
  refine ⟨_,rfl,rfl,_,rfl,qE (by show ¬ V.str "wait" = V.str "turn";decide +kernel) ?_⟩
  refine ⟨_,rfl,rfl,_,rfl,qF rfl ?_⟩;exact ⟨_,rfl,a,dx,fs,rfl,ins,no "wait" (by decide +kernel),a,l,F,rfl,R,D⟩
 | close =>
  refine ⟨_,rfl,rfl,_,rfl,qE (by show ¬ V.str "close" = V.str "mount";decide +kernel) ?_⟩
  refine ⟨_,rfl,rfl,_,rfl,qE (by show ¬ V.str "close" = V.str "turn";decide +kernel) ?_⟩
  refine ⟨_,rfl,rfl,_,rfl,qE (by show ¬ V.str "close" = V.str "wait";decide +kernel) ?_⟩
  refine ⟨_,rfl,rfl,_,rfl,qF rfl ?_⟩;exact ⟨_,rfl,a,dx,fs,rfl,ins,no "close_nut" (by decide +kernel),a,l,F,rfl,R,D⟩
 | opn =>
  refine ⟨_,rfl,rfl,_,rfl,qE (by show ¬ V.str "open" = V.str "mount";decide +kernel) ?_⟩
  refine ⟨_,rfl,rfl,_,rfl,qE (by show ¬ V.str "open" = V.str "turn";decide +kernel) ?_⟩
  refine ⟨_,rfl,rfl,_,rfl,qE (by show ¬ V.str "open" = V.str "wait";decide +kernel) ?_⟩
  refine ⟨_,rfl,rfl,_,rfl,qE (by show ¬ V.str "open" = V.str "close";decide +kernel) ?_⟩
  refine ⟨_,rfl,rfl,_,rfl,qF rfl ?_⟩;exact ⟨_,rfl,a,dx,fs,rfl,ins,no "open_nut" (by decide +kernel),a,l,F,rfl,R,D⟩
 | move x y =>
  obtain ⟨t,rfl,ht,b1,b2⟩:=hv;refine ⟨_,rfl,rfl,_,rfl,qE (by show ¬ V.str "move" = V.str "mount";decide +kernel) ?_⟩
  refine ⟨_,rfl,rfl,_,rfl,qE (by show ¬ V.str "move" = V.str "turn";decide +kernel) ?_⟩
  refine ⟨_,rfl,rfl,_,rfl,qE (by show ¬ V.str "move" = V.str "wait";decide +kernel) ?_⟩
  refine ⟨_,rfl,rfl,_,rfl,qE (by show ¬ V.str "move" = V.str "close";decide +kernel) ?_⟩
  refine ⟨_,rfl,rfl,_,rfl,qE (by show ¬ V.str "move" = V.str "open";decide +kernel) ?_⟩
  refine ⟨_,rfl,rfl,_,rfl,qF rfl ?_⟩;exact ⟨_,rfl,a,dx,fs,rfl,ins,no "move" (by decide +kernel),_,rfl,a,t,x,y,l,F,rfl,R,ht,b1,b2,D⟩
 | cut x y =>
  obtain ⟨t,rfl,ht,b1,b2⟩:=hv;refine ⟨_,rfl,rfl,_,rfl,qE (by show ¬ V.str "cut" = V.str "mount";decide +kernel) ?_⟩
  refine ⟨_,rfl,rfl,_,rfl,qE (by show ¬ V.str "cut" = V.str "turn";decide +kernel) ?_⟩
  refine ⟨_,rfl,rfl,_,rfl,qE (by show ¬ V.str "cut" = V.str "wait";decide +kernel) ?_⟩
  refine ⟨_,rfl,rfl,_,rfl,qE (by show ¬ V.str "cut" = V.str "close";decide +kernel) ?_⟩
  refine ⟨_,rfl,rfl,_,rfl,qE (by show ¬ V.str "cut" = V.str "open";decide +kernel) ?_⟩
  refine ⟨_,rfl,rfl,_,rfl,qE (by show ¬ V.str "cut" = V.str "move";decide +kernel) ?_⟩
  exact ⟨_,rfl,a,dx,fs,rfl,ins,no "cut" (by decide +kernel),_,rfl,a,t,x,y,l,F,rfl,R,ht,b1,b2,D⟩

def Zb (K:zP):Sp:=fun vs H Q _=>∃ (p r:Addr) (a b c d:Int),vs=[.ref p,.ref r]/\Af K H p [.int a,.int b]/\Af K H r [.int c,.int d]/\Bd 3000 a/\Bd 3000 b/\Bd 3000 c/\Bd 3000 d/\0<b/\0<d /\
 ∀ n,H n=none->Q (.ref n) (AC H n (.tup [.int (AG (a*c) (b*d)),.int (Aj (a*c) (b*d))]))
theorem Kp (T:Txt K mg):zH P w K mg base "_law_mul" ["_law_a","_law_b"] 3 (Zb K):=by
 refine Ad T.Tp X6 (fun vs H Q E h=>?_) (fun f cdv A outer s H vs Q E hr h=>?_)
 ·obtain ⟨p,r,a,b,c,d,rfl,_⟩:=h
  rfl
 obtain ⟨p,r,a,b,c,d,rfl,hp,hr',ba,bb,bc,bd,b0,d0,q⟩:=h;refine ⟨_,(@pO _ _ _ (@pR _ _ _ _ (pD (Ft T) hr (pA (qC qU (@qD _ _ _ _ _ _ _ iT (pv 0) pZ (fun _ _=>rfl)) (@qD _ _ _ _ _ _ _ iT (pv 1) pZ (fun _ _=>rfl))) (pA (qC qU (@qD _ _ _ _ _ _ _ iT (pv 0) pZ (fun _ _=>rfl)) (@qD _ _ _ _ _ _ _ iT (pv 1) pZ (fun _ _=>rfl))) pI))))),?_⟩;exact ⟨_,rfl,_,_,_,_,rfl,rfl,hp.sq,rfl,_,rfl,_,_,_,_,rfl,rfl,hr'.sq,rfl,_,_,rfl,rfl,.inr ⟨ba.mono (by decide),bc.mono (by decide)⟩,_,rfl,_,_,_,_,rfl,rfl,hp.sq,rfl,_,rfl,_,_,_,_,rfl,rfl,hr'.sq,rfl,_,_,rfl,rfl,.inr ⟨bb.mono (by decide),bd.mono (by decide)⟩,_,_,rfl,Int.mul_pos b0 d0,(bb.mul bd).mono (by decide),q⟩

def Z6 (K:zP):Sp:=fun vs H Q _=>∃ (s t:Addr) (p:PS) (ts:List Int) (N:Addr->Prop) (x y:Int),vs=[.ref s,.ref t]/\Al K N H s p/\Pc p ts/\Dw N H/\AO K H t (x,y)/\Bd 1700 x/\Bd 1700 y/\1<=y /\
 ∀ s' H',AE H H'->H s'=none->Al K N H' s' (p.turn (AI x y))->Q (.ref s') H'
theorem Ks (T:Txt K mg):zH P w K mg base "_law_turned" ["_law_s","_law_turns"] 4 (Z6 K):=by
 refine Ad T.T5 Je (fun vs H Q E h=>?_) (fun f cdv A outer s H vs Q E hr h=>?_)
 ·obtain ⟨s,t,p,ts,N,x,y,rfl,_⟩:=h
  rfl
 obtain ⟨s,tt,p,ts,N,x,y,rfl,⟨t,pi,w,pl,ov,cu,tu,mo,S⟩,P,nN,hT,bx,bY,y1,q⟩:=h;refine ⟨_,(@pK _ _ _ _ _ (@qK _ _ 2 _ _ _ _ Je.nd rfl (Or.inl rfl) (zG KQ (by rfl) T.O1 PyProof.Rows.boot_dict (pA (pv 0) pI)) (by rfl) (by trivial))
 Au),?_⟩
 have hpi:=S.pi';rw [P.ep] at hpi;obtain ⟨pp,rfl,hpp⟩:=hpi;have y0:y≠0:=by lia
 have wN:=P.workN;have tN:=P.turnedN;have pN:=P.placeN;have L:=P.tr.pl;have ro:=P.tr.rok;have hr1:=ro.pos;refine ⟨_,rfl,s,_,rfl,S.ob,fun c hc=>?_⟩;have u1:=sN hc (.dK (sF (.ref t) (.ref pp) (.ref w) (.ref pl) p.closed ov (.ref cu) (.ref tu) (.ref mo)));have c1:=uS (H:=H) (a:=c) (o:=.dK (sF (.ref t) (.ref pp) (.ref w) (.ref pl) p.closed ov (.ref cu) (.ref tu) (.ref mo)));refine ⟨_,(@pK _ _ _ _ _ (DO (qV hr) (pv 2) pS (pD (Da T) hr (pA (qN (qV hr) (pv 0) pS (fun _ _=>rfl)) (pA (pv 1) pI))) rfl)
 Au),?_⟩
 refine ⟨_,rfl,_,_,rfl,.inl ⟨_,.inr "work",.inl (u1 _ _ S.ob),rfl,JP.symm⟩,_,rfl,w,tt,p.work.1,p.work.2,x,y,rfl,S.wo.mono u1,hT.mono u1,wN.1.mono (by decide),wN.2.mono (by decide),bx.mono (by decide),bY.mono (by decide),by have:=P.w.pos;lia,by lia,fun n1 hn1=>?_⟩
 have v1:=sN hn1 (.tup [.int (AJ p.work (x,y)).1,.int (AJ p.work (x,y)).2]);have f1:=AO.made (K:=K) hn1 (AJ p.work (x,y));refine ⟨_,rfl,c,_,rfl,Br.k (k:=.inr "work") (v1 _ _ c1) DA,?_⟩;rw [XV];have t1:=Dp (o:=.dK (sF (.ref t) (.ref pp) (.ref n1) (.ref pl) p.closed ov (.ref cu) (.ref tu) (.ref mo))) (v1 _ _ c1);have s1:=C8 (o:=.dK (sF (.ref t) (.ref pp) (.ref n1) (.ref pl) p.closed ov (.ref cu) (.ref tu) (.ref mo))) (u1.trans v1) hc;have f1:=f1.tups t1;refine ⟨_,(@pK _ _ _ _ _ (DO (qV hr) (pv 2) pS (pD (Da T) hr (pA (qN (qV hr) (pv 0) pS (fun _ _=>rfl)) (pA (@zB _ _ _ _ _ (pA (qJ EV (by rfl) T.Eu PyProof.Rows.boot_abs (pA (@qD _ _ _ _ _ _ _ iT (pv 1) pZ (fun _ _=>rfl)) pI)) (pA (@qD _ _ _ _ _ _ _ iT (pv 1) pZ (fun _ _=>rfl)) pI))) pI))) rfl)
 Au),?_⟩
 refine ⟨_,rfl,_,_,rfl,.inl ⟨_,.inr "turned",.inl (s1 _ _ S.ob),rfl,FZ.symm⟩,_,rfl,_,_,_,_,rfl,rfl,(hT.mono s1).sq,rfl,_,rfl,_,rfl,_,_,_,_,rfl,rfl,(hT.mono s1).sq,rfl,(by exact My.AL),fun m2 hm2=>?_⟩
 have v2:=sN hm2 (.tup [.int (if x<0 then -x else x),.int y])
 have ba:Bd 1700 (if x<0 then -x else x):=bx.le (by split <;> lia)
 refine ⟨tu,m2,p.turned.1,p.turned.2,_,_,rfl,S.tu'.mono (s1.trans v2),.inl uS,tN.1.mono (by decide),tN.2.mono (by decide),ba.mono (by decide),bY.mono (by decide),by have:=P.t.pos;lia,by lia,fun n2 hn2=>?_⟩
 have v3:=v2.trans (sN hn2 (.tup [.int (AJ p.turned (AR (x,y))).1,.int (AJ p.turned (AR (x,y))).2]));have f2:=AO.made (K:=K) hn2 (AJ p.turned (AR (x,y)));refine ⟨_,rfl,c,_,rfl,Br.k (k:=.inr "turned") (v3 _ _ uS) DA,?_⟩;rw [XU];have t3:=Dp (o:=.dK (sF (.ref t) (.ref pp) (.ref n1) (.ref pl) p.closed ov (.ref cu) (.ref n2) (.ref mo))) (v3 _ _ (uS (a:=c)));have s3:=C8 (o:=.dK (sF (.ref t) (.ref pp) (.ref n1) (.ref pl) p.closed ov (.ref cu) (.ref n2) (.ref mo))) (s1.trans v3) hc;have f1:=(f1.mono v3).tups t3;have f2:=f2.tups t3;have bm:Bd 2000 (AX (AB ts) (x,y)).1/\Bd 2000 (AX (AB ts) (x,y)).2:=⟨((L.bp.mul bx).mono (show _<=2000 by decide)).le (Cg (t:=(AB ts).1*x) (Int.mul_ne_zero ro.ne y0)).nx,((L.bq.mul bY).mono (show _<=2000 by decide)).le (Cg (t:=(AB ts).1*x) (Int.mul_ne_zero ro.ne y0)).ny⟩
 have mo':=El (b:=(x,y)) ro.ne y0;have mp:=mo'.pos;refine ⟨_,(@pK _ _ _ _ _ (@qK _ _ 3 _ _ _ _ Je.nd rfl (Or.inl rfl) (pD (Kp T) hr (pA (qN (qV hr) (pv 0) pS (fun _ _=>rfl)) (pA (pv 1) pI))) (by rfl) (by trivial))
 Au),?_⟩
 refine ⟨_,rfl,_,_,rfl,.inl ⟨_,.inr "pitch",.inl (s3 _ _ S.ob),rfl,A9.symm⟩,_,rfl,pp,tt,(AB ts).1,(AB ts).2,x,y,rfl,hpp.mono s3,hT.mono s3,L.bp.mono (by decide),L.bq.mono (by decide),bx.mono (by decide),bY.mono (by decide),by lia,by lia,fun n3 hn3=>?_⟩
 have v4:=sN hn3 (.tup [.int (AX (AB ts) (x,y)).1,.int (AX (AB ts) (x,y)).2]);have f3:=AO.made (K:=K) hn3 (AX (AB ts) (x,y));have s4:=s3.trans v4;have f1:=f1.mono v4;have f2:=f2.mono v4;have c4:=v4 _ _ (uS (a:=c) (o:=.dK (sF (.ref t) (.ref pp) (.ref n1) (.ref pl) p.closed ov (.ref cu) (.ref n2) (.ref mo))));have nc:=nN c hc;rw [GC P.w.ne y0] at f1;rw [HD P.t.ne (by lia)] at f2
 refine ⟨_,(@pK _ _ _ _ _ (qM (qZ (qN (qV hr) (pv 0) pS (fun _ _=>rfl)))
 (@pO _ _ _ (DO (qV hr) (pv 2) pS (pD (Da T) hr (pA (qN (qV hr) (pv 0) pS (fun _ _=>rfl)) (pA (pv 3) pI))) rfl))
 (@pO _ _ _ (qM (qR (EG (qN (qV hr) (pv 0) pS (fun _ _=>rfl))))
 (@pO _ _ _ (DO (qV hr) (pv 2) pS (pD (Da T) hr (pA (qN (qV hr) (pv 0) pS (fun _ _=>rfl)) (pA (@zB _ _ _ _ _ (pA (Dn Ds (@qD _ _ _ _ _ _ _ iT (pv 3) pZ (fun _ _=>rfl))) (pA (@qD _ _ _ _ _ _ _ iT (pv 3) pZ (fun _ _=>rfl)) pI))) pI))) rfl))
 qG)))
 (@pO _ _ _ (@pR _ _ _ _ (pv 2)))),?_⟩
 refine ⟨_,rfl,_,_,rfl,.inl ⟨_,.inr "closed",.inl (s4 _ _ S.ob),rfl,Aw.symm⟩,_,rfl,?_⟩;refine C4 (fun cl=>?_) (fun cl=>?_)
 ·refine ⟨_,rfl,_,_,rfl,.inl ⟨_,.inr "place",.inl (s4 _ _ S.ob),rfl,JO.symm⟩,_,rfl,pl,n3,p.place.1,p.place.2,(AX (AB ts) (x,y)).1,(AX (AB ts) (x,y)).2,rfl,S.pl'.mono s4,f3,pN.1.mono (by decide),pN.2.mono (by decide),bm.1.mono (by decide),bm.2.mono (by decide),by have:=P.pl.pos;lia,by lia,fun n4 hn4=>?_⟩
  have v5:=sN hn4 (.tup [.int (AJ p.place (AX (AB ts) (x,y))).1,.int (AJ p.place (AX (AB ts) (x,y))).2]);have f4:=AO.made (K:=K) hn4 (AJ p.place (AX (AB ts) (x,y)));refine ⟨_,rfl,c,_,rfl,Br.k (k:=.inr "place") (v5 _ _ c4) DA,?_⟩;rw [Ly];have t5:=Dp (o:=.dK (sF (.ref t) (.ref pp) (.ref n1) (.ref n4) p.closed ov (.ref cu) (.ref n2) (.ref mo))) (v5 _ _ c4);have s5:=C8 (o:=.dK (sF (.ref t) (.ref pp) (.ref n1) (.ref n4) p.closed ov (.ref cu) (.ref n2) (.ref mo))) (s4.trans v5) hc;have f4:=f4.tups t5;have e4:AJ p.place (AX (AB ts) (AI x y))=AJ p.place (AX (AB ts) (x,y)):=by rw [JH ro.ne y0]
  refine ⟨_,rfl,q c _ s5 hc (D8 (p':=p.turn (AI x y)) S s5 uS nc S.nc rfl rfl ((f1.mono v5).tups t5) ?_ ?_ (S.cu'.frame (fun o e=>s5 _ _ e) (AE.tups s5)) ((f2.mono v5).tups t5) (S.mo'.mono s5))⟩
  ·show AO K _ n4 (if p.closed then AJ p.place (AX p.r (AI x y)) else p.place)
   rw [if_pos cl,P.rr,e4];exact f4
  ·show Ay K _ ov (if p.closed then p.off else p.off.map _)
   rw [if_pos cl];exact S.of'.tups (AE.tups s5)
 ·have hplc:∀ G:Hp,AE H G->AO K G pl (p.turn (AI x y)).place:=fun G sg=>by
   show AO K _ pl (if p.closed then AJ p.place (AX p.r (AI x y)) else p.place)
   rw [if_neg cl];exact S.pl'.mono sg
  have hof:=S.of';rcases ho:p.off with _|o
  ·rw [ho] at hof
   cases (show ov = .non from hof);refine ⟨_,rfl,_,_,rfl,.inl ⟨_,.inr "off",.inl (s4 _ _ S.ob),rfl,Ar.symm⟩,_,rfl,AN ?_⟩;refine ⟨_,rfl,q c _ s4 hc (D8 (p':=p.turn (AI x y)) S s4 c4 nc S.nc rfl rfl f1 (hplc _ s4) ?_ (S.cu'.frame (fun o e=>s4 _ _ e) (AE.tups s4)) f2 (S.mo'.mono s4))⟩;show Ay K _ .non (if p.closed then p.off else p.off.map _)
   rw [if_neg cl,ho];rfl
  ·rw [ho] at hof
   obtain ⟨oa,rfl,hoa⟩:=hof;have oN:=P.offN ho;have oO:=P.o o ho;have op:=oO.pos;refine ⟨_,rfl,_,_,rfl,.inl ⟨_,.inr "off",.inl (s4 _ _ S.ob),rfl,Ar.symm⟩,_,rfl,Ab ?_⟩;refine ⟨_,rfl,_,_,rfl,.inl ⟨_,.inr "off",.inl (s4 _ _ S.ob),rfl,Ar.symm⟩,_,rfl,_,_,_,_,rfl,rfl,f3.sq,rfl,_,rfl,_,rfl,_,_,_,_,rfl,rfl,f3.sq,rfl,(by exact My.AL),fun m5 hm5=>?_⟩
   have v5:=sN hm5 (.tup [.int (-(AX (AB ts) (x,y)).1),.int (AX (AB ts) (x,y)).2]);have bneg:Bd 2000 (-(AX (AB ts) (x,y)).1):=bm.1.le (by lia)
   refine ⟨oa,m5,o.1,o.2,-(AX (AB ts) (x,y)).1,(AX (AB ts) (x,y)).2,rfl,hoa.mono (s4.trans v5),.inl uS,oN.1.mono (by decide),oN.2.mono (by decide),bneg.mono (by decide),bm.2.mono (by decide),by lia,by lia,fun n5 hn5=>?_⟩
   have v6:=v5.trans (sN hn5 (.tup [.int (AJ o (Bo (AX (AB ts) (x,y)))).1,.int (AJ o (Bo (AX (AB ts) (x,y)))).2]));have f5:=AO.made (K:=K) hn5 (AJ o (Bo (AX (AB ts) (x,y))));refine ⟨_,rfl,c,_,rfl,Br.k (k:=.inr "off") (v6 _ _ c4) DA,?_⟩;rw [JQ];have t5:=Dp (o:=.dK (sF (.ref t) (.ref pp) (.ref n1) (.ref pl) p.closed (.ref n5) (.ref cu) (.ref n2) (.ref mo))) (v6 _ _ c4);have s5:=C8 (o:=.dK (sF (.ref t) (.ref pp) (.ref n1) (.ref pl) p.closed (.ref n5) (.ref cu) (.ref n2) (.ref mo))) (s4.trans v6) hc;have f5:=f5.tups t5;have e5:AJ o (Bo (AX (AB ts) (AI x y)))=AJ o (Bo (AX (AB ts) (x,y))):=by rw [JH ro.ne y0]
   refine ⟨_,rfl,q c _ s5 hc (D8 (p':=p.turn (AI x y)) S s5 uS nc S.nc rfl rfl ((f1.mono v6).tups t5) (hplc _ s5) ?_ (S.cu'.frame (fun o e=>s5 _ _ e) (AE.tups s5)) ((f2.mono v6).tups t5) (S.mo'.mono s5))⟩;show Ay K _ (.ref n5) (if p.closed then p.off else p.off.map fun o=>AJ o (Bo (AX p.r (AI x y))))
   rw [if_neg cl,ho,P.rr];refine ⟨n5,rfl,?_⟩;show AO K _ n5 (AJ o (Bo (AX (AB ts) (AI x y))));rw [e5];exact f5

def ZP (K:zP):Sp:=fun vs H Q _=>∃ (a:Addr) (ws:List Int),vs=[.ref a]/\BB K H a (ws.map V.int)/\Ao ws/\∀ p,H p=none->Q (.ref p) (AC H p (.tup [.int (AG (Bp ws) (Be ws)),.int (Aj (Bp ws) (Be ws))]))
theorem Qj (T:Txt K mg):zH P w K mg base "_law_ratio" ["_law_train"] 3 (ZP K):=by
 refine Ad T.Tv GG (fun vs H Q E h=>?_) (fun f cdv A outer s H vs Q E hr h=>?_)
 ·obtain ⟨a,ws,rfl,_⟩:=h
  rfl
 obtain ⟨a,ws,rfl,hA,R,q⟩:=h;refine ⟨_,(@pK _ _ _ _ _ (@qK _ _ 1 _ _ _ _ GG.nd rfl (Or.inl rfl) (@qD _ _ _ _ _ _ _ Cf (pv 0) pZ (fun _ _=>rfl)) (by rfl) (by trivial))
 (@pK _ _ _ _ _ (@qK _ _ 2 _ _ _ _ GG.nd rfl (Or.inl rfl) (@qD _ _ _ _ _ _ _ Cf (pv 0) pZ (fun _ _=>rfl)) (by rfl) (by trivial))
 (@pK _ _ _ _ _ (qM (qR (CO (qJ qL (by rfl) T.At PySem.boot_len (pA (pv 0) pI)) pZ))
 (@pK _ _ _ _ _ (@qK _ _ 1 _ _ _ _ GG.nd rfl (Or.inl rfl) (qC qU (pv 1) (@qD _ _ _ _ _ _ _ Cf (pv 0) pZ (fun _ _=>rfl))) (by rfl) (by trivial))
 (@pO _ _ _ (@qK _ _ 2 _ _ _ _ GG.nd rfl (Or.inl rfl) (qC qU (pv 2) (@qD _ _ _ _ _ _ _ Cf (pv 0) pZ (fun _ _=>rfl))) (by rfl) (by trivial))))
 qG)
 (@pO _ _ _ (@pR _ _ _ _ (pD (Ft T) hr (pA (pv 1) (pA (pv 2) pI)))))))),?_⟩
 obtain ⟨_,_,b1,b2⟩:=R.in;have bd:Bd 8000 (Be ws):=(Bd.of60 (by lia) (by lia)).mono (show 200<=8000 by decide)
 rcases R.cases with ⟨x,y,rfl⟩|⟨x,y,z,t,rfl⟩
 ·refine ⟨_,rfl,_,_,_,_,rfl,rfl,hA,rfl,_,rfl,_,_,_,_,rfl,rfl,hA,rfl,_,rfl,a,_,rfl,hA,_,_,rfl,rfl,_,rfl,?_⟩
  refine qE (show ¬ ((2:Nat):Int)=4 by decide) ?_
  exact ⟨_,rfl,_,rfl,_,_,rfl,by exact b1,by exact bd,q⟩
 ·have h1:=R.lo x (by simp)
  have h2:=R.hi x (by simp)
  have h3:=R.lo y (by simp)
  have h4:=R.hi y (by simp)
  refine ⟨_,rfl,_,_,_,_,rfl,rfl,hA,rfl,_,rfl,_,_,_,_,rfl,rfl,hA,rfl,_,rfl,a,_,rfl,hA,_,_,rfl,rfl,_,rfl,?_⟩;refine qF rfl ?_;refine ⟨_,rfl,_,rfl,_,_,_,_,rfl,rfl,hA,rfl,_,_,rfl,rfl,.inl (.inl ⟨by lia,by lia⟩),_,rfl,_,rfl,_,_,_,_,rfl,rfl,hA,rfl,_,_,rfl,rfl,.inl (.inl ⟨by lia,by lia⟩),?_⟩
  exact ⟨_,rfl,_,rfl,_,_,rfl,by exact b1,by exact bd,q⟩

def Yq (K:zP):Sp:=fun vs H Q _=>∃ (s:Addr) (l:LS) (q:Req) (wv:V) (N:Addr->Prop),vs=[.ref s,.str (Req.word q),wv]/\Al K N H s l.ps/\Reach l/\AZ l q=none/\Dw N H/\BU K H wv q /\
 ∀ s' H',AE H H'->H s'=none->Al K N H' s' (l.push q.deed).ps->Q (.ref s') H'
theorem QV (T:Txt K mg):zH P w K mg base "_law_after" ["_law_s","_law_word","_law_what"] 5 (Yq K):=by
 refine Ad T.TX HQ (fun vs H Q E h=>?_) (fun f cdv A outer s H vs Q E hr h=>?_)
 ·obtain ⟨s,l,q,wv,N,rfl,_⟩:=h
  rfl
 obtain ⟨s,l,rq,wv,N,rfl,S0,Re,d,nN,hv,q⟩:=h;refine ⟨_,(@pK _ _ _ _ _ (qM (qQ zF (pv 1) pS (Ax _))
 (@pO _ _ _ (@pR _ _ _ _ (pD (Kq T) hr (pA (zG FH (by rfl) T.Dt PyProof.Rows.boot_tuple (pA (pv 2) pI)) (pA (pD (Qj T) hr (pA (pv 2) pI)) pI)))))
 qG)
 (@pK _ _ _ _ _ (qM (BQ (qQ zF (pv 1) pS (Ax _)) (B3 (qQ zF (pv 1) pS (Ax _)))).pt
 (@pK _ _ _ _ _ (@qK _ _ 3 _ _ _ _ HQ.nd rfl (Or.inl rfl) (pD (Ks T) hr (pA (pv 0) (pA (pv 2) pI))) (by rfl) (by trivial))
 (@pK _ _ _ _ _ (qM (qQ zF (pv 1) pS (Ax _))
 (@pK _ _ _ _ _ (@qK _ _ 4 _ _ _ _ HQ.nd rfl (Or.inl rfl) (@qD _ _ _ _ _ _ _ iT (qN (qV hr) (pv 0) pS (fun _ _=>rfl)) pZ (fun _ _=>rfl)) (by rfl) (by trivial))
 (@pO _ _ _ (DO (qV hr) (pv 3) pS (qC Ci (qN (qV hr) (pv 0) pS (fun _ _=>rfl)) (@zA _ _ _ _ (pA (@zB _ _ _ _ _ (pA (pv 4) (pA (qC qT (qC qU (pv 4) (@qD _ _ _ _ _ _ _ iT (qN (qV hr) (pv 0) pS (fun _ _=>rfl)) pZ (fun _ _=>rfl))) (@qD _ _ _ _ _ _ _ iT (qN (qV hr) (pv 0) pS (fun _ _=>rfl)) pZ (fun _ _=>rfl))) pI))) pI))) rfl)))
 qG)
 (@pO _ _ _ (@pR _ _ _ _ (pv 3)))))
 qG)
 (@pK _ _ _ _ _ (qM (qQ zF (pv 1) pS (Ax _))
 (@pO _ _ _ (@pR _ _ _ _ (pD (Ks T) hr (pA (pv 0) (pA (pD (IV T) hr (pA (pv 0) pI)) pI)))))
 qG)
 (@pK _ _ _ _ _ (@qK _ _ 3 _ _ _ _ HQ.nd rfl (Or.inl rfl) (zG KQ (by rfl) T.O1 PyProof.Rows.boot_dict (pA (pv 0) pI)) (by rfl) (by trivial))
 (@pK _ _ _ _ _ (qM (qQ zF (pv 1) pS (Ax _))
 (@pK _ _ _ _ _ (DO (qV hr) (pv 3) pS (pD (Da T) hr (pA (qN (qV hr) (pv 0) pS (fun _ _=>rfl)) (pA (pv 2) pI))) rfl)
 (@pK _ _ _ _ _ (DO (qV hr) (pv 3) pS (pD (Da T) hr (pA (qN (qV hr) (pv 0) pS (fun _ _=>rfl)) (pA (@zB _ _ _ _ _ (pA (qJ EV (by rfl) T.Eu PyProof.Rows.boot_abs (pA (@qD _ _ _ _ _ _ _ iT (pv 2) pZ (fun _ _=>rfl)) pI)) (pA (@qD _ _ _ _ _ _ _ iT (pv 2) pZ (fun _ _=>rfl)) pI))) pI))) rfl)
 (@pK _ _ _ _ _ (qM (qR (EG (qN (qV hr) (pv 0) pS (fun _ _=>rfl))))
 (@pO _ _ _ (DO (qV hr) (pv 3) pS (pD (Da T) hr (pA (qN (qV hr) (pv 0) pS (fun _ _=>rfl)) (pA (pv 2) pI))) rfl))
 qG)
 (@pO _ _ _ (@pR _ _ _ _ (pv 3))))))
 qG)
 (@pK _ _ _ _ _ (DO (qV hr) (pv 3) pS (HA zF (pv 1) pS (Ax _)) rfl)
 (@pK _ _ _ _ _ (qM (qR (BX (qN (qV hr) (pv 0) pS (fun _ _=>rfl))))
 (@pO _ _ _ (DO (qV hr) (pv 3) pS (@zB _ _ _ _ _ (pA pZ (pA pZ pI))) rfl))
 qG)
 (@pO _ _ _ (@pR _ _ _ _ (pv 3)))))))))),?_⟩
 rw [LS.ps_push] at q;have G:=Re.good;cases rq with
 | mount ts =>
  obtain ⟨t,rfl,ht,_,_⟩:=hv;have Tr:Ao ts:=by
   have D:=CL d;have ok:(!(decide (ts.length=2\/ts.length=4)&&decide ts.Nodup))=false:=D.ok;have ok':(decide (ts.length=2\/ts.length=4)&&decide ts.Nodup)=true:=by
    cases hh:(decide (ts.length=2\/ts.length=4)&&decide ts.Nodup) with
    | true=>rfl
    | false=>rw [hh] at ok;cases ok
   rw [Bool.and_eq_true] at ok';exact ⟨of_decide_eq_true ok'.1,fun v hv=>G.shop.lo v (D.kn ts rfl v hv),fun v hv=>G.shop.hi v (D.kn ts rfl v hv)⟩
  refine ⟨_,rfl,rfl,_,rfl,qF rfl ?_⟩;rcases ht with ht|ht
  ·refine ⟨_,rfl,t,_,rfl,.inl ⟨AF.of ht,fun M hM=>?_⟩⟩
   have u1:=sN hM (.tup (ts.map V.int));refine ⟨_,rfl,t,ts,rfl,.inl (AF.of (u1 _ _ ht)),Tr,fun p4 hp4=>?_⟩;have u2:=sN hp4 (.tup [.int (AB ts).1,.int (AB ts).2]);exact ⟨M,_,ts,some (AB ts),N,rfl,.inl (u2 _ _ uS),⟨p4,rfl,.inl uS⟩,nN.same (u1.trans u2),fun s' H' s'' n' R=>q s' H' ((u1.trans u2).trans s'') ((u1.trans u2).free n') R⟩
  ·refine ⟨_,rfl,t,_,rfl,.inr ⟨ht.sq,?_⟩⟩
   refine ⟨_,rfl,t,ts,rfl,.inr ht.sq,Tr,fun p4 hp4=>?_⟩;have u2:=sN hp4 (.tup [.int (AB ts).1,.int (AB ts).2]);exact ⟨t,_,ts,some (AB ts),N,rfl,ht.mono u2,⟨p4,rfl,.inl uS⟩,nN.same u2,fun s' H' s'' n' R=>q s' H' (u2.trans s'') (u2.free n') R⟩
 | turn x y =>
  obtain ⟨t,rfl,ht,bx,bY⟩:=hv;obtain ⟨ts,P⟩:=Re.pcOf d (fun _ z=>nomatch z);have ok:(decide (y<1)||decide (1000<y)||Ag l.ps.turned (x,y))=false:=(CL d).ok
  rw [Bool.or_eq_false_iff,Bool.or_eq_false_iff] at ok;have y1:1<=y:=by have:=of_decide_eq_false ok.1.1;lia
  refine ⟨_,rfl,rfl,_,rfl,qE (by show ¬ V.str "turn" = V.str "mount";decide +kernel) ?_⟩
  refine ⟨_,rfl,rfl,_,rfl,qF rfl (Ab ?_)⟩;refine ⟨_,rfl,_,rfl,s,t,l.ps,ts,N,x,y,rfl,S0,P,nN,ht,bx.mono (by decide),bY.mono (by decide),y1,fun s' H' s'' n' R=>?_⟩
  refine ⟨_,rfl,rfl,_,rfl,qE (by show ¬ V.str "turn" = V.str "cut";decide +kernel) ?_⟩
  exact ⟨_,rfl,q s' H' s'' n' R⟩
 | wait =>
  obtain ⟨ts,P⟩:=Re.pcOf d (fun _ z=>nomatch z);have ao:=(DW P).1;have wN:=P.waitN;refine ⟨_,rfl,rfl,_,rfl,qE (by decide +kernel) ?_⟩
  refine ⟨_,rfl,rfl,_,rfl,qE (by decide +kernel) ?_⟩
  refine ⟨_,rfl,rfl,_,rfl,qE (by decide +kernel) ?_⟩
  refine ⟨_,rfl,rfl,_,rfl,qF rfl ?_⟩;refine ⟨_,rfl,_,rfl,s,l.ps,ts,N,rfl,S0,P,fun n H1 s1 hn=>?_⟩;refine ⟨s,n,l.ps,ts,N,l.ps.ahead.1,l.ps.ahead.2,rfl,S0.same s1,P,nN.same s1,hn,wN.1.1,wN.1.2,ao.pos,fun s' H' s'' n' R=>?_⟩;rw [Cj ao] at R;exact q s' H' (s1.trans s'') (s1.free n') R
 | move x y =>
  obtain ⟨t',rfl,hT,bx,bY⟩:=hv;obtain ⟨ts,P⟩:=Re.pcOf d (fun _ z=>nomatch z);have ok:(decide (y<1)||decide (1000<y)||Ag l.ps.moved (x,y))=false:=(CL d).ok
  rw [Bool.or_eq_false_iff,Bool.or_eq_false_iff] at ok;have y1:1<=y:=by have:=of_decide_eq_false ok.1.1;lia
  have y0:y≠0:=by lia
  have pN:=P.placeN;have mN:=P.movedN;obtain ⟨t,pi,w,pl,ov,cu,tu,mo,S⟩:=S0;refine ⟨_,rfl,rfl,_,rfl,qE (by show ¬ V.str "move" = V.str "mount";decide +kernel) ?_⟩
  refine ⟨_,rfl,rfl,_,rfl,qE (by show ¬ V.str "move" = V.str "turn";decide +kernel) ?_⟩
  refine ⟨_,rfl,rfl,_,rfl,qE (by show ¬ V.str "move" = V.str "cut";decide +kernel) ?_⟩
  refine ⟨_,rfl,rfl,_,rfl,qE (by show ¬ V.str "move" = V.str "wait";decide +kernel) ?_⟩
  refine ⟨_,rfl,s,_,rfl,S.ob,fun c hc=>?_⟩;have u1:=sN hc (.dK (sF (.ref t) pi (.ref w) (.ref pl) l.ps.closed ov (.ref cu) (.ref tu) (.ref mo)));have c1:=uS (H:=H) (a:=c) (o:=.dK (sF (.ref t) pi (.ref w) (.ref pl) l.ps.closed ov (.ref cu) (.ref tu) (.ref mo)));refine ⟨_,rfl,rfl,_,rfl,qF rfl ?_⟩;refine ⟨_,rfl,_,_,rfl,.inl ⟨_,.inr "place",.inl (u1 _ _ S.ob),rfl,JO.symm⟩,_,rfl,pl,t',l.ps.place.1,l.ps.place.2,x,y,rfl,S.pl'.mono u1,hT.mono u1,pN.1.mono (by decide),pN.2.mono (by decide),bx.mono (by decide),bY.mono (by decide),by have:=P.pl.pos;lia,by lia,fun n1 hn1=>?_⟩
  have v1:=sN hn1 (.tup [.int (AJ l.ps.place (x,y)).1,.int (AJ l.ps.place (x,y)).2]);have f1:=AO.made (K:=K) hn1 (AJ l.ps.place (x,y));refine ⟨_,rfl,c,_,rfl,Br.k (k:=.inr "place") (v1 _ _ c1) DA,?_⟩;rw [Ly];have t1:=Dp (o:=.dK (sF (.ref t) pi (.ref w) (.ref n1) l.ps.closed ov (.ref cu) (.ref tu) (.ref mo))) (v1 _ _ c1);have s1:=C8 (o:=.dK (sF (.ref t) pi (.ref w) (.ref n1) l.ps.closed ov (.ref cu) (.ref tu) (.ref mo))) (u1.trans v1) hc;have f1:=f1.tups t1;refine ⟨_,rfl,_,_,rfl,.inl ⟨_,.inr "moved",.inl (s1 _ _ S.ob),rfl,JN.symm⟩,_,rfl,_,_,_,_,rfl,rfl,(hT.mono s1).sq,rfl,_,rfl,_,rfl,_,_,_,_,rfl,rfl,(hT.mono s1).sq,rfl,(by exact My.AL),fun m2 hm2=>?_⟩
  have v2:=sN hm2 (.tup [.int (if x<0 then -x else x),.int y])
  have ba:Bd 200 (if x<0 then -x else x):=bx.le (by split <;> lia)
  refine ⟨mo,m2,l.ps.moved.1,l.ps.moved.2,_,_,rfl,S.mo'.mono (s1.trans v2),.inl uS,mN.1.mono (by decide),mN.2.mono (by decide),ba.mono (by decide),bY.mono (by decide),by have:=P.m.pos;lia,by lia,fun n2 hn2=>?_⟩
  have v3:=v2.trans (sN hn2 (.tup [.int (AJ l.ps.moved (AR (x,y))).1,.int (AJ l.ps.moved (AR (x,y))).2]));have f2:=AO.made (K:=K) hn2 (AJ l.ps.moved (AR (x,y)));refine ⟨_,rfl,c,_,rfl,Br.k (k:=.inr "moved") (v3 _ _ uS) DA,?_⟩;rw [XT];have t3:=Dp (o:=.dK (sF (.ref t) pi (.ref w) (.ref n1) l.ps.closed ov (.ref cu) (.ref tu) (.ref n2))) (v3 _ _ (uS (a:=c)));have s3:=C8 (o:=.dK (sF (.ref t) pi (.ref w) (.ref n1) l.ps.closed ov (.ref cu) (.ref tu) (.ref n2))) (s1.trans v3) hc;have f1:=(f1.mono v3).tups t3;have f2:=f2.tups t3;have e1:AJ l.ps.place (AI x y)=AJ l.ps.place (x,y):=(GC P.pl.ne y0).symm;have e2:AJ l.ps.moved (AR (AI x y))=AJ l.ps.moved (AR (x,y)):=(HD P.m.ne (by lia)).symm
  have nc:=nN c hc;have hof:=S.of';have g1:∀ G:Hp,AO K G n1 (AJ l.ps.place (x,y))->AO K G n1 (l.ps.after (Req.move x y).deed).place:=fun G h=>by show AO K G n1 (AJ l.ps.place (AI x y));rw [e1];exact h
  have g2:∀ G:Hp,AO K G n2 (AJ l.ps.moved (AR (x,y)))->AO K G n2 (l.ps.after (Req.move x y).deed).moved:=fun G h=>by show AO K G n2 (AJ l.ps.moved (AR (AI x y)));rw [e2];exact h
  rcases ho:l.ps.off with _|o
  ·rw [ho] at hof
   cases (show ov = .non from hof);refine ⟨_,rfl,_,_,rfl,.inl ⟨_,.inr "off",.inl (s3 _ _ S.ob),rfl,Ar.symm⟩,_,rfl,AN ?_⟩;refine ⟨_,rfl,q c _ s3 hc (D8 (p':=l.ps.after (Req.move x y).deed) S s3 uS nc S.nc rfl rfl (S.wo.mono s3) (g1 _ f1) ?_ (S.cu'.frame (fun o e=>s3 _ _ e) (AE.tups s3)) (S.tu'.mono s3) (g2 _ f2))⟩;show Ay K _ .non (l.ps.off.map _);rw [ho];rfl
  ·rw [ho] at hof
   obtain ⟨oa,rfl,hoa⟩:=hof;have oN:=P.offN ho;have oO:=P.o o ho;have op:=oO.pos;refine ⟨_,rfl,_,_,rfl,.inl ⟨_,.inr "off",.inl (s3 _ _ S.ob),rfl,Ar.symm⟩,_,rfl,Ab ?_⟩;refine ⟨_,rfl,_,_,rfl,.inl ⟨_,.inr "off",.inl (s3 _ _ S.ob),rfl,Ar.symm⟩,_,rfl,oa,t',o.1,o.2,x,y,rfl,hoa.mono s3,hT.mono s3,oN.1.mono (by decide),oN.2.mono (by decide),bx.mono (by decide),bY.mono (by decide),by lia,by lia,fun n5 hn5=>?_⟩
   have v6:=sN hn5 (.tup [.int (AJ o (x,y)).1,.int (AJ o (x,y)).2]);have f5:=AO.made (K:=K) hn5 (AJ o (x,y));refine ⟨_,rfl,c,_,rfl,Br.k (k:=.inr "off") (v6 _ _ uS) DA,?_⟩;rw [JQ];have t5:=Dp (o:=.dK (sF (.ref t) pi (.ref w) (.ref n1) l.ps.closed (.ref n5) (.ref cu) (.ref tu) (.ref n2))) (v6 _ _ (uS (a:=c)));have s5:=C8 (o:=.dK (sF (.ref t) pi (.ref w) (.ref n1) l.ps.closed (.ref n5) (.ref cu) (.ref tu) (.ref n2))) (s3.trans v6) hc;have f5:=f5.tups t5;have e5:AJ o (AI x y)=AJ o (x,y):=(GC oO.ne y0).symm;refine ⟨_,rfl,q c _ s5 hc (D8 (p':=l.ps.after (Req.move x y).deed) S s5 uS nc S.nc rfl rfl (S.wo.mono s5) (g1 _ ((f1.mono v6).tups t5)) ?_ (S.cu'.frame (fun o e=>s5 _ _ e) (AE.tups s5)) (S.tu'.mono s5) (g2 _ ((f2.mono v6).tups t5)))⟩;show Ay K _ (.ref n5) (l.ps.off.map fun o=>AJ o (AI x y));rw [ho];refine ⟨n5,rfl,?_⟩;show AO K _ n5 (AJ o (AI x y));rw [e5];exact f5
 | close =>
  obtain ⟨t,pi,w,pl,ov,cu,tu,mo,S⟩:=S0;refine ⟨_,rfl,rfl,_,rfl,qE (by show ¬ V.str "close" = V.str "mount";decide +kernel) ?_⟩
  refine ⟨_,rfl,rfl,_,rfl,qE (by show ¬ V.str "close" = V.str "turn";decide +kernel) ?_⟩
  refine ⟨_,rfl,rfl,_,rfl,qE (by show ¬ V.str "close" = V.str "cut";decide +kernel) ?_⟩
  refine ⟨_,rfl,rfl,_,rfl,qE (by show ¬ V.str "close" = V.str "wait";decide +kernel) ?_⟩
  refine ⟨_,rfl,s,_,rfl,S.ob,fun c hc=>?_⟩;have u1:=sN hc (.dK (sF (.ref t) pi (.ref w) (.ref pl) l.ps.closed ov (.ref cu) (.ref tu) (.ref mo)));have c1:=uS (H:=H) (a:=c) (o:=.dK (sF (.ref t) pi (.ref w) (.ref pl) l.ps.closed ov (.ref cu) (.ref tu) (.ref mo)));refine ⟨_,rfl,rfl,_,rfl,qE (by show ¬ V.str "close" = V.str "move";decide +kernel) ?_⟩
  refine ⟨_,rfl,rfl,_,rfl,c,_,rfl,Br.k (k:=.inr "closed") c1 DA,?_⟩;rw [Lv,decide_eq_true (show V.str (Req.word .close)=V.str "close" from rfl)];have s3:=C8 (o:=.dK (sF (.ref t) pi (.ref w) (.ref pl) true ov (.ref cu) (.ref tu) (.ref mo))) u1 hc;have nc:=nN c hc;have hof:=S.of';rcases ho:l.ps.off with _|o
  ·rw [ho] at hof
   cases (show ov = .non from hof);refine ⟨_,rfl,_,_,rfl,.inl ⟨_,.inr "off",.inl (s3 _ _ S.ob),rfl,Ar.symm⟩,_,rfl,qF rfl ?_⟩;refine ⟨(by exact My.AL),fun n5 hn5=>?_⟩
   have v6:=sN hn5 (.tup [.int 0,.int 1]);have f5:=AO.made (K:=K) hn5 (0,1);refine ⟨_,rfl,c,_,rfl,Br.k (k:=.inr "off") (v6 _ _ uS) DA,?_⟩;rw [JQ];have t5:=Dp (o:=.dK (sF (.ref t) pi (.ref w) (.ref pl) true (.ref n5) (.ref cu) (.ref tu) (.ref mo))) (v6 _ _ (uS (a:=c)));have s5:=C8 (o:=.dK (sF (.ref t) pi (.ref w) (.ref pl) true (.ref n5) (.ref cu) (.ref tu) (.ref mo))) (s3.trans v6) hc;have f5:=f5.tups t5;refine ⟨_,rfl,q c _ s5 hc (D8 (p':=l.ps.after Req.close.deed) S s5 uS nc S.nc rfl rfl (S.wo.mono s5) (S.pl'.mono s5) ?_ (S.cu'.frame (fun o e=>s5 _ _ e) (AE.tups s5)) (S.tu'.mono s5) (S.mo'.mono s5))⟩;show Ay K _ (.ref n5) (some (l.ps.off.getD (0,1)));rw [ho];exact ⟨n5,rfl,f5⟩
  ·rw [ho] at hof
   obtain ⟨oa,rfl,hoa⟩:=hof;refine ⟨_,rfl,_,_,rfl,.inl ⟨_,.inr "off",.inl (s3 _ _ S.ob),rfl,Ar.symm⟩,_,rfl,qE (fun z=>by cases z) ?_⟩
   refine ⟨_,rfl,q c _ s3 hc (D8 (p':=l.ps.after Req.close.deed) S s3 uS nc S.nc rfl rfl (S.wo.mono s3) (S.pl'.mono s3) ?_ (S.cu'.frame (fun o e=>s3 _ _ e) (AE.tups s3)) (S.tu'.mono s3) (S.mo'.mono s3))⟩;show Ay K _ (.ref oa) (some (l.ps.off.getD (0,1)));rw [ho];exact ⟨oa,rfl,hoa.mono s3⟩
 | opn =>
  obtain ⟨ts,P⟩:=Re.pcOf d (fun _ z=>nomatch z);have cl:l.ps.closed=true:=by
   have z:(!l.ps.closed)=false:=(CL d).nut;simpa using z
  obtain ⟨kk,ho⟩:=P.cl cl;obtain ⟨t,pi,w,pl,ov,cu,tu,mo,S⟩:=S0;refine ⟨_,rfl,rfl,_,rfl,qE (by show ¬ V.str "open" = V.str "mount";decide +kernel) ?_⟩
  refine ⟨_,rfl,rfl,_,rfl,qE (by show ¬ V.str "open" = V.str "turn";decide +kernel) ?_⟩
  refine ⟨_,rfl,rfl,_,rfl,qE (by show ¬ V.str "open" = V.str "cut";decide +kernel) ?_⟩
  refine ⟨_,rfl,rfl,_,rfl,qE (by show ¬ V.str "open" = V.str "wait";decide +kernel) ?_⟩
  refine ⟨_,rfl,s,_,rfl,S.ob,fun c hc=>?_⟩;have u1:=sN hc (.dK (sF (.ref t) pi (.ref w) (.ref pl) l.ps.closed ov (.ref cu) (.ref tu) (.ref mo)));have c1:=uS (H:=H) (a:=c) (o:=.dK (sF (.ref t) pi (.ref w) (.ref pl) l.ps.closed ov (.ref cu) (.ref tu) (.ref mo)));refine ⟨_,rfl,rfl,_,rfl,qE (by show ¬ V.str "open" = V.str "move";decide +kernel) ?_⟩
  refine ⟨_,rfl,rfl,_,rfl,c,_,rfl,Br.k (k:=.inr "closed") c1 DA,?_⟩;rw [Lv,decide_eq_false (show ¬ V.str (Req.word .opn)=V.str "close" by decide +kernel)]
  have s3:=C8 (o:=.dK (sF (.ref t) pi (.ref w) (.ref pl) false ov (.ref cu) (.ref tu) (.ref mo))) u1 hc;have nc:=nN c hc;have hof:=S.of';rw [ho] at hof;obtain ⟨oa,rfl,hoa⟩:=hof;refine ⟨_,rfl,_,_,rfl,.inl ⟨_,.inr "off",.inl (s3 _ _ S.ob),rfl,Ar.symm⟩,_,rfl,qE (fun z=>by cases z) ?_⟩
  refine ⟨_,rfl,q c _ s3 hc (D8 (p':=l.ps.after Req.opn.deed) S s3 uS nc S.nc rfl rfl (S.wo.mono s3) (S.pl'.mono s3) ?_ (S.cu'.frame (fun o e=>s3 _ _ e) (AE.tups s3)) (S.tu'.mono s3) (S.mo'.mono s3))⟩;show Ay K _ (.ref oa) l.ps.off;rw [ho];exact ⟨oa,rfl,hoa.mono s3⟩
 | cut x y =>
  obtain ⟨t',rfl,hT,bx,bY⟩:=hv;obtain ⟨ts,P⟩:=Re.pcOf d (fun _ z=>nomatch z);have ok:(decide (y<1)||decide (1000<y)||decide (x<=0)||Ag l.ps.turned (x,y))=false:=(CL d).ok
  rw [Bool.or_eq_false_iff,Bool.or_eq_false_iff,Bool.or_eq_false_iff] at ok;have y1:1<=y:=by have:=of_decide_eq_false ok.1.1.1;lia
  have cl:l.ps.closed=true:=by
   have z:(!l.ps.closed)=false:=(CL d).nut;simpa using z
  obtain ⟨kk,ho⟩:=P.cl cl;have bk:=P.closeBd ho;have L:=P.tr.pl;have r1:=L.p1;refine ⟨_,rfl,rfl,_,rfl,qE (by show ¬ V.str "cut" = V.str "mount";decide +kernel) ?_⟩
  refine ⟨_,rfl,rfl,_,rfl,qE (by show ¬ V.str "cut" = V.str "turn";decide +kernel) ?_⟩
  refine ⟨_,rfl,rfl,_,rfl,qF rfl ?_⟩;refine ⟨_,rfl,_,rfl,s,t',l.ps,ts,N,x,y,rfl,S0,P,nN,hT,bx.mono (by decide),bY.mono (by decide),y1,fun s' H' s1 n' R=>?_⟩
  obtain ⟨t,pi,w,pl,ov,cu,tu,mo,S⟩:=S0.same s1;obtain ⟨t2,pi2,w2,pl2,o2,cu2,tu2,mo2,R⟩:=R;have hof:=S.of';rw [ho] at hof;obtain ⟨oa,rfl,hoa⟩:=hof;have hpi:=S.pi';rw [P.ep] at hpi;obtain ⟨pp,rfl,hpp⟩:=hpi;obtain ⟨rs,hrs,prs⟩:=S.cu';have lr:=Paired.length prs;rw [Bq,List.length_map] at lr;have lc:=IN l;have lb:=Re.len;refine ⟨_,rfl,rfl,_,rfl,qF rfl ?_⟩;refine ⟨_,rfl,_,_,rfl,.inl ⟨_,.inr "off",.inl S.ob,rfl,Ar.symm⟩,_,_,_,_,rfl,rfl,hoa.sq,rfl,?_⟩;refine ⟨_,rfl,_,_,rfl,.inl ⟨_,.inr "cuts",.inl S.ob,rfl,HL.symm⟩,_,rfl,_,rfl,_,rfl,_,_,rfl,.inl ⟨_,.inr "pitch",.inl S.ob,rfl,A9.symm⟩,_,_,_,_,rfl,rfl,hpp.sq,rfl,_,_,rfl,rfl,.inr ⟨bk.mono (by decide),L.bq.mono (by decide)⟩,_,rfl,_,_,rfl,.inl ⟨_,.inr "pitch",.inl S.ob,rfl,A9.symm⟩,_,_,_,_,rfl,rfl,hpp.sq,rfl,_,_,rfl,rfl,by lia,(by exact My.AL),fun m hm=>?_⟩
  have v1:=sN hm (.tup [.int kk,.int (kk*(AB ts).2%(AB ts).1)]);refine ⟨(by exact My.Hg),fun Lz hLz=>?_⟩
  have v2:=v1.trans (sN hLz (.lst [.ref m]));refine ⟨cu,Lz,_,_,rfl,rfl,v2 _ _ hrs,uS,(by rw [List.length_map];show _+1<=sizeLine;exact Bb (by lia)),fun pn hpn=>?_⟩
  have v3:=v2.trans (sN hpn (.lst (rs.map V.ref++[.ref m])));refine ⟨_,rfl,s',_,rfl,Br.k (k:=.inr "cuts") (v3 _ _ R.ob) DA,?_⟩;rw [XS];have t5:=Dp (o:=.dK (sF (.ref t2) pi2 (.ref w2) (.ref pl2) (l.ps.turn (AI x y)).closed o2 (.ref pn) (.ref tu2) (.ref mo2))) (v3 _ _ R.ob);have s5:=C8 (o:=.dK (sF (.ref t2) pi2 (.ref w2) (.ref pl2) (l.ps.turn (AI x y)).closed o2 (.ref pn) (.ref tu2) (.ref mo2))) (s1.trans v3) n';have tt5:Ai H' _:=fun b xs e=>t5 b xs (v3 b _ e);have ps':pn≠s':=Ne.symm (nQ (v2 _ _ R.ob) hpn);refine ⟨_,rfl,q s' _ s5 n' ⟨t2,pi2,w2,pl2,o2,pn,tu2,mo2,uS,R.ns,nN pn ((s1.trans v2).free hpn),R.tr.tups tt5,R.pi'.tups tt5,R.wo.tups tt5,R.pl'.tups tt5,R.of'.tups tt5,⟨rs++[m],?_,?_⟩,R.tu'.tups tt5,R.mo'.tups tt5⟩⟩
  ·rw [uN ps',uS,List.map_append];rfl
  ·show Paired _ (rs++[m]) (Bq (l.ps.cuts++[(l.ps.closing,l.ps.groove)]))
   rw [P3 P ho,Bq,List.map_append];refine Paired.snoc (DN tt5 prs) ?_;exact t5 _ _ ((sN hpn _) _ _ ((sN hLz _) _ _ uS))

def ZM:Sp:=fun vs H Q _=>∃ (n p:Int),vs=[.int n,.int p]/\1<=p/\p<=20000/\Int.gcd p n=1/\∀ c:Int,0<=c->c<p->p∣c*n-1->Q (.int c) H
theorem QI (T:Txt K mg):zH P w K mg base "inverse_of" ["number","modulus"] 1 ZM:=by
 refine Ad T.Sv Ck (fun vs H Q E h=>?_) (fun f cdv A outer s H vs Q E hr h=>?_)
 ·obtain ⟨n,p,rfl,_⟩:=h
  rfl
 obtain ⟨n,p,rfl,p1,p2,co,q⟩:=h;refine ⟨_,(@pK _ _ _ _ _ (@qK _ _ 2 _ _ _ _ Ck.nd rfl (Or.inl rfl) (pv 1) (by rfl) (by trivial))
 (@pK _ _ _ _ _ (@qK _ _ 3 _ _ _ _ Ck.nd rfl (Or.inl rfl) pZ (by rfl) (by trivial))
 (@pK _ _ _ _ _ (@qK _ _ 4 _ _ _ _ Ck.nd rfl (Or.inl rfl) (qC qT (pv 0) (pv 1)) (by rfl) (by trivial))
 (@pK _ _ _ _ _ (@qK _ _ 5 _ _ _ _ Ck.nd rfl (Or.inl rfl) pZ (by rfl) (by trivial))
 (@pK _ _ _ _ _ (GB PassesOwn.never (qR (Bm (pv 4) pZ))
 (@pK _ _ _ _ _ (@qK _ _ 6 _ _ _ _ Ck.nd rfl (Or.inl rfl) (qC qX (pv 2) (pv 4)) (by rfl) (by trivial))
 (@pK _ _ _ _ _ (@qK _ _ 7 _ _ _ _ Ck.nd rfl (Or.inl rfl) (pv 2) (by rfl) (by trivial))
 (@pK _ _ _ _ _ (@qK _ _ 8 _ _ _ _ Ck.nd rfl (Or.inl rfl) (pv 3) (by rfl) (by trivial))
 (@pK _ _ _ _ _ (@qK _ _ 2 _ _ _ _ Ck.nd rfl (Or.inl rfl) (pv 4) (by rfl) (by trivial))
 (@pK _ _ _ _ _ (@qK _ _ 3 _ _ _ _ Ck.nd rfl (Or.inl rfl) (pv 5) (by rfl) (by trivial))
 (@pK _ _ _ _ _ (@qK _ _ 4 _ _ _ _ Ck.nd rfl (Or.inl rfl) (qC C5 (pv 7) (qC qU (pv 6) (pv 2))) (by rfl) (by trivial))
 (@pO _ _ _ (@qK _ _ 5 _ _ _ _ Ck.nd rfl (Or.inl rfl) (qC C5 (pv 8) (qC qU (pv 6) (pv 3))) (by rfl) (by trivial))))))))))
 (@pO _ _ _ (@pR _ _ _ _ (qC qT (pv 3) (pv 1))))))))),?_⟩
 have p0:0<p:=by lia
 have m0:=Int.emod_nonneg n (Int.ne_of_gt p0);have m1:=Int.emod_lt_of_pos n p0;refine ⟨_,rfl,_,rfl,_,rfl,_,_,rfl,rfl,p0,?_⟩;refine ⟨fun m σ H'=>∃ (a f x g:Int) (s1 s2 s3:Option V),σ=[some (.int n),some (.int p),some (.int a),some (.int f),some (.int x),some (.int g),s1,s2,s3]/\H'=H/\0<=a/\a<=20000/\0<=x/\x<=20000/\Int.gcd a x=1/\p∣f*n-a/\p∣g*n-x/\m=x.toNat,
  ⟨_,p,0,n%p,1,none,none,none,rfl,rfl,by lia,p2,m0,by lia,?_,?_,?_,rfl⟩,?_⟩
 ·rw [Gi,Int.gcd_comm];exact co
 ·exact ⟨-1,by lia⟩
 ·have:=Int.emod_add_mul_ediv n p
  exact ⟨n / p,by lia⟩
 rintro m σ H' ⟨a,f,x,g,s1,s2,s3,rfl,rfl,a0,a1,x0,x1,hg,d1,d2,rfl⟩
 refine ⟨_,rfl,_,_,rfl,rfl,_,rfl,?_⟩;by_cases c:x=0
 ·subst c
  refine DK rfl ?_;rw [Int.gcd_zero_right] at hg;have e:a=1:=by lia
  subst e;refine ⟨_,rfl,_,rfl,_,_,rfl,rfl,p0,?_⟩;refine q _ (Int.emod_nonneg _ (Int.ne_of_gt p0)) (Int.emod_lt_of_pos _ p0) ?_;have dv:=Int.emod_add_mul_ediv f p;have e:f%p*n-1=(f*n-1)-p*(f / p*n):=by
   generalize f%p=y at *;generalize f / p=z at *;rw [← dv];grind
  rw [e];exact Int.dvd_sub d1 (Int.dvd_mul_right _ _)
 ·refine C4 (fun _=>?_) (fun z=>absurd (by simp [c]) z)
  have x2:0<x:=by lia
  have hd:=Int.emod_add_mul_ediv a x;have r0:=Int.emod_nonneg a (Int.ne_of_gt x2);have r1:=Int.emod_lt_of_pos a x2;have k0:=Int.ediv_nonneg a0 x0;have k1:=Int.ediv_le_self x a0;refine ⟨fun σ' H''=>∃ (a f y g:Int) (s1 s2 s3:Option V),σ'=[some (.int n),some (.int p),some (.int a),some (.int f),some (.int y),some (.int g),s1,s2,s3]/\H''=H'/\0<=a/\a<=20000/\0<=y/\y<=20000/\Int.gcd a y=1/\p∣f*n-a/\p∣g*n-y/\y.toNat<x.toNat,?_,?_⟩
  ·rintro σ' H'' ⟨a,f,y,g,s1,s2,s3,rfl,rfl,h0,h1,h2,h3,h4,h5,h6,h7⟩
   exact ⟨_,h7,a,f,y,g,s1,s2,s3,rfl,rfl,h0,h1,h2,h3,h4,h5,h6,rfl⟩
  ·refine ⟨_,rfl,_,rfl,_,_,rfl,rfl,⟨x2,(BE x0 x1).mono (by decide)⟩,_,rfl,_,rfl,_,rfl,_,rfl,_,rfl,_,rfl,_,rfl,_,_,rfl,rfl,.inl (.inl ⟨by lia,by lia⟩),_,_,rfl,rfl,_,rfl,_,rfl,_,rfl,_,_,rfl,rfl,.inl (.inl ⟨by lia,by lia⟩),_,_,rfl,rfl,?_⟩
   have e:a-a / x*x=a%x:=by rw [Int.mul_comm (a / x) x];lia
   refine ⟨x,g,a-a / x*x,f-a / x*g,_,_,_,rfl,rfl,by lia,by lia,by rw [e];exact r0,by rw [e];lia,?_,d2,?_,by rw [e];lia⟩
   ·rw [e,Gi];exact hg
   ·have e2:(f-a / x*g)*n-(a-a / x*x)=(f*n-a)-a / x*(g*n-x):=by
     generalize a / x=k at *
     grind
    rw [e2];exact Int.dvd_sub d1 (Int.dvd_trans d2 (Int.dvd_mul_left _ _))

def ZS:Sp:=fun vs H Q _=>∃ (r:Addr) (t b g:Int),vs=[.ref r,.int g]/\H r=some (.tup [.int t,.int b])/\BK t b/\0<=g/\g<AG t b /\
 ∀ (c:Int) (H':Hp),AE H H'->0<=c->c<AG t b->c*Aj t b%AG t b=g->Q (.int c) H'
theorem Ki (T:Txt K mg):zH P w K mg base "least_closing" ["ratio","groove"] 4 ZS:=by
 refine Ad T.Sy N7 (fun vs H Q E h=>?_) (fun f cdv A outer s H vs Q E hr h=>?_)
 ·obtain ⟨r,t,b,g,rfl,_⟩:=h
  rfl
 obtain ⟨r,t,b,g,rfl,hR,R,g0,g1,q⟩:=h;refine ⟨_,(@pK _ _ _ _ _ (@qK _ _ 2 _ _ _ _ N7.nd rfl (Or.inl rfl) (pD (Cb T) hr (pA (@qD _ _ _ _ _ _ _ iT (pv 0) pZ (fun _ _=>rfl)) (pA (@qD _ _ _ _ _ _ _ iT (pv 0) pZ (fun _ _=>rfl)) pI))) (by rfl) (by trivial))
 (@pO _ _ _ (@pR _ _ _ _ (qC qT (qC qU (pv 1) (pD (QI T) hr (pA (@qD _ _ _ _ _ _ _ iT (pv 2) pZ (fun _ _=>rfl)) (pA (@qD _ _ _ _ _ _ _ iT (pv 2) pZ (fun _ _=>rfl)) pI)))) (@qD _ _ _ _ _ _ _ iT (pv 2) pZ (fun _ _=>rfl)))))),?_⟩
 have L:=R.pl;have p1:=L.p1;have p2:=L.p2;have b1:=R.b1;have co:=L.co;have bg:Bd 64 g:=BE g0 (by lia)
 refine ⟨_,rfl,_,_,_,_,rfl,rfl,AH.of (hR),rfl,_,rfl,_,_,_,_,rfl,rfl,AH.of (hR),rfl,_,_,rfl,by lia,R.bb.mono (by decide),fun p hp=>?_⟩
 refine ⟨_,rfl,_,rfl,_,_,_,_,rfl,rfl,AH.of (uS),rfl,_,rfl,_,_,_,_,rfl,rfl,AH.of (uS),rfl,_,_,rfl,p1,p2,co,fun c c0 c1 dv=>?_⟩;refine ⟨_,_,rfl,rfl,.inl (.inl ⟨by lia,by lia⟩),_,rfl,_,_,_,_,rfl,rfl,AH.of (uS),rfl,_,_,rfl,rfl,by lia,?_⟩
 have p0:0<AG t b:=by lia
 refine q _ _ (sN hp _) (Int.emod_nonneg _ (Int.ne_of_gt p0)) (Int.emod_lt_of_pos _ p0) ((FP p0 g0 g1).mp (Int.emod_eq_zero_of_dvd ?_));have hd:=Int.emod_add_mul_ediv (g*c) (AG t b);generalize AG t b=x at *;generalize Aj t b=y at *;generalize g*c%x=u at *;generalize hv:g*c / x=v at *;have e:u*y-g=(c*y-1)*g-x*(v*y):=by
  have hu:u=g*c-x*v:=by lia
  rw [hu];grind
 rw [e];exact Int.dvd_sub (Int.dvd_trans dv (Int.dvd_mul_right _ _)) (Int.dvd_mul_right _ _)

def ZV:Sp:=fun vs H Q _=>∃ (r:Addr) (t b n g:Int),vs=[.ref r,.int n,.int g]/\H r=some (.tup [.int t,.int b])/\BK t b/\2<=n/\n<=64/\0<=g/\g<AG t b /\
 ∀ (c:Int) (D:Addr) (H':Hp),0<=c->c<AG t b->c*Aj t b%AG t b=g->AE H H'->H D=none->H' D=some (.lst ((Ec n.toNat (GI (AG t b) n c n.toNat)).map V.int))->Q (.ref D) H'
theorem QK (T:Txt K mg):zH P w K mg base "marks_of" ["ratio","teeth","groove"] 5 ZV:=by
 refine Ad T.S6 N8 (fun vs H Q E h=>?_) (fun f cdv A outer s H vs Q E hr h=>?_)
 ·obtain ⟨r,t,b,n,g,rfl,_⟩:=h
  rfl
 obtain ⟨r,t,b,n,g,rfl,hR,R,n0,n1,g0,g1,q⟩:=h;refine ⟨_,(@pK _ _ _ _ _ (@qK _ _ 3 _ _ _ _ N8.nd rfl (Or.inl rfl) (pD (IQ T) hr (pA (pD (IS T) hr (pA (pv 0) pI)) (pA (pv 1) pI))) (by rfl) (by trivial))
 (@pO _ _ _ (@pR _ _ _ _ (zG (IJ rfl) (by rfl) T.DF PyProof.Rows.boot_list (pA (zG Pm (by rfl) T.Cp PyProof.Rows.boot_range (pA (qC qT (pD (Ki T) hr (pA (pv 0) (pA (pv 2) pI))) (pv 3)) (pA (pv 1) (pA (pv 3) pI)))) pI))))),?_⟩
 have L:=R.pl;have p1:=L.p1;refine ⟨_,rfl,r,t,b,rfl,hR,R,fun H1 s1=>?_⟩;refine ⟨_,rfl,_,_,rfl,by lia,by lia,?_⟩
 refine ⟨_,rfl,_,rfl,r,t,b,g,rfl,s1 _ _ hR,R,g0,g1,fun c H2 s2 c0 c1 hc=>?_⟩;have gp:0<Int.gcd (AG t b) n:=Int.gcd_pos_iff.mpr (.inr (by lia))
 have gl:Int.gcd (AG t b) n<=n.natAbs:=Nat.le_of_dvd (by lia) (Int.natCast_dvd_natCast.mp (by rw [Int.natAbs_of_nonneg (show 0<=n by lia)];exact Int.gcd_dvd_right (AG t b) n))
 obtain ⟨N,hN,hl,hm⟩:=Vw (n:=n) (c:=c) (by lia) p1 c0
 have a0:=Int.emod_nonneg c (show ((Int.gcd (AG t b) n:Nat):Int)≠0 by lia)
 have a1:=Int.emod_lt_of_pos c (show 0<((Int.gcd (AG t b) n:Nat):Int) by lia)
 refine ⟨_,rfl,_,_,rfl,rfl,by lia,_,rfl,_,rfl,_,_,_,rfl,by lia,by lia,fun x hx=>?_⟩
 have s3:=sN hx (D5 x (c%((Int.gcd (AG t b) n:Nat):Int)) n ((Int.gcd (AG t b) n:Nat):Int));refine ⟨x,_,_,_,N,rfl,uS,HR (N:Int) a0 (by lia) (by lia) (by lia) (by lia) (by lia) hN (by lia) (by lia),hN,by lia,fun l hl'=>?_⟩
 have s4:=sN hl' (.lst ((List.range N).map fun (i:Nat)=>V.int (c%((Int.gcd (AG t b) n:Nat):Int)+i*((Int.gcd (AG t b) n:Nat):Int))));refine q c l _ c0 c1 hc (s1.trans (s2.trans (s3.trans s4))) ((s1.trans (s2.trans s3)).free hl') ?_;rw [uS,hm,List.map_map];rfl

abbrev bR:LS->(Addr->Prop)->Hp->Hp->V->Prop:=fun l F' _ H' v=>DV H' v F' l.teeth l.ps.r l.ps.cuts
theorem RO (T:Txt K mg):zI P w K mg base (AA mg "Lathe") "spoilt" ["self"] 9 (CU K mg bR):=by
 obtain ⟨f,fd,F,hm,hb⟩:=T.UY;refine ⟨f,fd,F.ok1 GH (fun vs H Q E h=>?_) (fun cdv A outer s H vs Q E hr h=>?_),hm,T.cL,hb⟩
 ·obtain ⟨a,l,F,rfl,_⟩:=h
  rfl
 obtain ⟨a,l,F,rfl,R0,q⟩:=h;have R1:=R0;obtain ⟨Fp,dx,s,pa,ra,rdx,ea,es,R⟩:=R1;obtain ⟨pdx,t,rv,w,c,fv,tc,mc,cu,Rp⟩:=R.pc;refine ⟨_,(@pK _ _ _ _ _ (@qK _ _ 1 _ _ _ _ GH.nd rfl (Or.inl rfl) (pF (pF (pv 0) rfl) rfl) (by rfl) (by trivial))
 (@pK _ _ _ _ _ (CQ PassesOwn.leaving rfl (Wm (by rfl) T.cf (pA (pF (pF (pv 0) rfl) rfl) pI) pZ) (JD rfl (FX (BY (i:=2) GH.nd rfl (Or.inl rfl)) (FX (BY (i:=3) GH.nd rfl (Or.inl rfl)) JE)))
 (@pK _ _ _ _ _ (@qK _ _ 4 _ _ _ _ GH.nd rfl (Or.inl rfl) (@qD _ _ _ _ _ _ _ iT (pv 3) pZ (fun _ _=>rfl)) (by rfl) (by trivial))
 (@pO _ _ _ (qM (qR (Bm (pv 4) pZ))
 (@pO _ _ _ (@pR _ _ _ _ (@zB _ _ _ _ _ (pA (pv 2) (pA (pv 4) (pA (pD (Ki T) hr (pA (pv 1) (pA (pv 4) pI))) (pA (pD (QK T) hr (pA (pv 1) (pA (pF (pv 0) rfl) (pA (pv 4) pI)))) pI)))))))
 qG))))
 (@pO _ _ _ (@pR _ _ _ _ BC)))),?_⟩
 obtain ⟨rs,hrs,prs⟩:=Rp.cu;have lr:=Paired.length prs;have lc:(Bq l.ps.cuts).length=l.ps.cuts.length:=List.length_map _;have G:=R.re.good;have n2:=G.n2;have n64:=G.n64;refine ⟨_,rfl,_,_,_,_,_,rfl,R.ob,T.cL,T.Ae,rfl,_,_,_,_,_,rfl,Rp.ob,T.cP,T.CF,rfl,?_⟩;refine ⟨_,rfl,_,_,_,_,_,rfl,R.ob,T.cL,T.Ae,rfl,_,_,_,_,_,rfl,Rp.ob,T.cP,T.Di,rfl,cu,rfl,⟨_,AF.of hrs⟩,SB (K:=K) (a:=cu) (xs:=rs.map V.ref) (fun i σ H'=>∃ (v1 v2 v3:Option V),σ=[some (.ref a),some rv,v1,v2,v3]/\AE H H'/\∀ j d,j<i->l.ps.cuts[j]? = some d->d.2=0)
  ⟨none,none,none,rfl,AE.refl _,fun j d z=>absurd z (Nat.not_lt_zero _)⟩ (fun i σ H' _ ⟨_,_,_,_,s',_⟩=>AF.of (s' _ _ hrs)) ?_ ?_⟩
 ·rintro i x σ Hc tt hx ⟨v1,v2,v3,rfl,sc,hz⟩ htt
  obtain ⟨r1,t1,rfl,g1,k1⟩:=HY prs hx;obtain ⟨cc,hcc,rfl⟩:∃ cc:Q2,l.ps.cuts[i]? = some cc/\t1=[cc.1,cc.2]:=by
   rw [Bq,List.getElem?_map] at g1;cases e:l.ps.cuts[i]? with
   | none=>rw [e] at g1;cases g1
   | some cc=>rw [e] at g1;cases g1;exact ⟨cc,rfl,rfl⟩
  have sd:=sc.trans (sN htt (.tup [.int (1+(i:Int)),.ref r1]));have k1':=sd _ _ k1;refine ⟨tt,_,rfl,AH.of uS,rfl,_,_,rfl,_,_,rfl,rfl,?_⟩;refine ⟨_,rfl,_,_,_,_,rfl,rfl,AH.of (k1'),rfl,?_⟩;refine ⟨_,rfl,_,_,rfl,rfl,_,rfl,BG (fun ng=>?_) (fun ez=>?_)⟩
  ·obtain ⟨ts,P⟩:∃ ts,Pc l.ps ts:=by
    rcases R.re.pco with e|P
    ·rw [e] at hcc;cases i <;> cases hcc
    ·exact P
   have hra:=Rp.ra;rw [P.ep] at hra;obtain ⟨rr,rfl,hra⟩:=hra;have Rt:BK (AB ts).1 (AB ts).2:=⟨P.tr.pl.p1,P.tr.pl.p2,P.tr.pl.q1,P.tr.pl.q2⟩;have rse:=Cj P.tr.rok;have eN:AG (AB ts).1 (AB ts).2=(AB ts).1:=congrArg Prod.fst rse;have eD:Aj (AB ts).1 (AB ts).2=(AB ts).2:=congrArg Prod.snd rse;have p1:=P.tr.pl.p1;have cu':=P.cu cc (List.mem_of_getElem? hcc);have g0:0<=cc.2:=by rw [cu'.1];exact Int.emod_nonneg _ (by lia)
   have g1':cc.2<(AB ts).1:=by rw [cu'.1];exact Int.emod_lt_of_pos _ (by lia)
   have ng':cc.2≠0:=ng;refine ⟨_,rfl,_,rfl,_,rfl,_,rfl,rr,(AB ts).1,(AB ts).2,cc.2,rfl,sd _ _ hra,Rt,g0,by rw [eN];exact g1',fun m H7 s7 m0 m1 hm=>?_⟩
   have s8:=sd.trans s7;refine ⟨_,rfl,_,rfl,_,_,_,_,_,rfl,(s8 _ _ R.ob),T.cL,T.EF,rfl,_,rfl,rr,(AB ts).1,(AB ts).2,l.teeth,cc.2,rfl,s8 _ _ hra,Rt,n2,n64,g0,by rw [eN];exact g1',fun u D H9 u0 u1 hu s9 nD hD=>?_⟩
   refine ⟨(by exact My.CH),fun r hr=>?_⟩
   have sA:=sN hr (.tup [.int (1+(i:Int)),.int cc.2,.int m,.ref D]);have sB:=s8.trans (s9.trans sA);rw [eN,eD] at hm hu;rw [eN] at m1 u1 hD;refine q _ _ F (R0.same sB) (AS.of_same sB) (.inr ⟨i,cc,r,D,m,u,hcc,ng',hz,rfl,uS,?_,?_,?_,fun z=>?_⟩)
   ·rw [P.rr];exact ⟨m0,m1,hm⟩
   ·rw [P.rr];exact ⟨u0,u1,hu⟩
   ·rw [P.rr];exact sA _ _ hD
   ·obtain ⟨o,h⟩:=R0.at_ z
    rw [s8.free nD] at h;cases h
  ·refine ⟨_,_,_,rfl,sd,fun j d hj hd=>?_⟩
   rcases Nat.lt_or_eq_of_le (Nat.le_of_lt_succ hj) with z|z
   ·exact hz j d z hd
   ·rw [z,hcc] at hd;cases hd;exact ez
 ·rintro σ Hc ⟨v1,v2,v3,rfl,sc,hz⟩
  refine q _ _ F (R0.same sc) (AS.of_same sc) (.inl ⟨rfl,fun c hc=>?_⟩);obtain ⟨j,hj⟩:=List.getElem?_of_mem hc;refine hz j c ?_ hj;have:=(List.getElem?_eq_some_iff.mp hj).1;rw [List.length_map];lia

def Zy:Sp:=fun vs H Q _=>∃ (r:Addr) (t b n m:Int),vs=[.ref r,.int n,.int m]/\H r=some (.tup [.int t,.int b])/\BK t b/\2<=n/\n<=64/\0<=m/\m<n /\
 ∀ (H':Hp),AE H H'->Q (EN (AG t b) n m) H'
theorem QT (T:Txt K mg):zH P w K mg base "spoiling_at" ["ratio","teeth","mark"] 4 Zy:=by
 refine Ad T.TR OA (fun vs H Q E h=>?_) (fun f cdv A outer s H vs Q E hr h=>?_)
 ·obtain ⟨r,t,b,n,m,rfl,_⟩:=h
  rfl
 obtain ⟨r,t,b,n,m,rfl,hR,R,n0,n1,m0,m1,q⟩:=h;refine ⟨_,(@pK _ _ _ _ _ (CQ PassesOwn.never rfl (Lk (@zB _ _ _ _ _ (pA (pv 2) (pA (qC BP (pv 2) (pv 1)) pI)))) (BY (i:=3) OA.nd rfl (Or.inl rfl))
 (@pO _ _ _ (qM (qR (Bm (pD (Kg T) hr (pA (pv 0) (pA (pv 3) pI))) pZ))
 (@pO _ _ _ (@pR _ _ _ _ (pv 3)))
 qG)))
 (@pO _ _ _ (@pR _ _ _ _ BC))),?_⟩
 have L:=R.pl;refine ⟨_,rfl,_,rfl,_,rfl,_,_,rfl,rfl,(by exact My.AL),fun l hl=>?_⟩
 have s0:=sN hl (.tup [.int m,.int (m+n)]);refine ⟨l,rfl,⟨_,AH.of uS⟩,LB (K:=K) (a:=l) (xs:=[.int m,.int (m+n)]) (fun i σ H'=>∃ k:Option V,σ=[some (.ref r),some (.int n),some (.int m),k]/\AE H H'/\H' l=some (.tup [.int m,.int (m+n)])/\(1<=i->m%AG t b=0)/\(2<=i->(m+n)%AG t b=0))
  ⟨none,rfl,s0,uS,by lia,by lia⟩ (fun i σ H' _ ⟨_,_,_,h,_⟩=>AH.of h) ?_ ?_⟩
 ·rintro i x σ H' hx ⟨k,rfl,s1,h1,z1,z2⟩
  have hx':∃ c:Int,x = .int c/\((i=0/\c=m)\/(i=1/\c=m+n)):=by
   match i,hx with
   | 0,hx=>cases hx;exact ⟨m,rfl,.inl ⟨rfl,rfl⟩⟩
   | 1,hx=>cases hx;exact ⟨m+n,rfl,.inr ⟨rfl,rfl⟩⟩
  obtain ⟨c,rfl,hc⟩:=hx';have bc:Bd 64 c:=BE (by lia) (by lia)
  refine ⟨_,rfl,_,rfl,r,t,b,c,rfl,s1 _ _ hR,R,bc.mono (by decide),fun H2 s2=>?_⟩
  refine ⟨_,_,rfl,rfl,_,rfl,?_⟩;refine BG (fun ne=>?_) (fun eq=>?_)
  ·have ne':c%AG t b≠0:=fun z=>ne ((Kd c L.co).mpr z)
   have e:V.int c=EN (AG t b) n m:=by
    unfold EN;rcases hc with ⟨_,rfl⟩|⟨rfl,rfl⟩
    ·rw [if_pos ne']
    ·have hm:=z1 (Nat.le_refl 1)
     rw [if_neg (fun z=>z hm),if_pos];intro z;have:=V3 1 hm z;rw [Int.one_mul] at this;exact ne' this
   have q':=q H2 (s1.trans s2);rw [← e] at q';exact ⟨_,rfl,q'⟩
  ·have eq':c%AG t b=0:=(Kd c L.co).mp eq
   refine ⟨_,rfl,s1.trans s2,s2 _ _ h1,fun _=>?_,fun _=>?_⟩
   ·rcases hc with ⟨_,rfl⟩|⟨rfl,rfl⟩
    ·exact eq'
    ·exact z1 (Nat.le_refl 1)
   ·rcases hc with ⟨_,rfl⟩|⟨rfl,rfl⟩
    ·lia
    ·exact eq'
 ·rintro σ H' ⟨k,rfl,s1,h1,z1,z2⟩
  have a1:=z1 (show 1<=2 by decide)
  have a2:=z2 (show 2<=2 by decide)
  have q':=q H' s1;unfold EN at q';rw [if_neg (fun z=>z a1),if_neg (fun z=>z (V1 a1 a2))] at q';exact q'

theorem RA (T:Txt K mg):zI P w K mg base (AA mg "Lathe") "marks" ["self"] 9 (ZW K mg):=by
 obtain ⟨f,fd,F,hm,hb⟩:=T.UK;refine ⟨f,fd,F.ok1 YH (fun vs H Q E h=>?_) (fun cdv A outer s H vs Q E hr h=>?_),hm,T.cL,hb⟩
 ·obtain ⟨a,l,F,rfl,_⟩:=h
  rfl
 obtain ⟨a,l,F,rfl,R0,q1,q2⟩:=h;have R1:=R0;obtain ⟨Fp,dx,s,pa,ra,rdx,ea,es,R⟩:=R1;refine ⟨_,(@pK _ _ _ _ _ (qS (pX (DZ T) hr (qH qI) (pA (pF (pv 0) rfl) pI)))
 (@pO _ _ _ (@pR _ _ _ _ (HB rfl (sc:=qA JV) rfl (N:=["self"]) rfl ⟨by decide +kernel,rfl,by decide +kernel,by decide +kernel,rfl,by decide +kernel,by decide +kernel,by decide +kernel⟩ (EI (by rfl) T.Cp (pA (pF (pv 0) rfl) pI)) (fun _ _ _ _ _ _=>(pD (QT T) hr (pA (JB (K:=K) rfl (JB (K:=K) rfl (pv 1) rfl) rfl) (pA (JB (K:=K) rfl (pv 1) rfl) (pA (pv 0) pI))))))))),?_⟩
 refine ⟨_,rfl,_,_,_,_,_,rfl,R.ob,T.cL,T.Ae,rfl,pa,l.ps,Fp,rfl,R.pc,fun pi=>?_,fun pi=>q2 pi _ F R0 (AS.refl _ _)⟩;obtain ⟨pdx,t,rv,w,c,fv,tc,mc,cu,Rp⟩:=R.pc;rcases R.re.pco with e|⟨ts,P⟩
 ·rw [e] at pi;exact absurd rfl pi
 have G:=R.re.good;have n2:=G.n2;have n64:=G.n64;have hra:=Rp.ra;rw [P.ep] at hra;obtain ⟨rr,rfl,hra⟩:=hra;have Rt:BK (AB ts).1 (AB ts).2:=⟨P.tr.pl.p1,P.tr.pl.p2,P.tr.pl.q1,P.tr.pl.q2⟩;have eN:AG (AB ts).1 (AB ts).2=(AB ts).1:=congrArg Prod.fst (Cj P.tr.rok);refine ⟨_,rfl,_,_,_,_,_,rfl,R.ob,T.cL,T.EF,rfl,_,rfl,by lia,by lia,?_⟩
 intro D hD;have u0:=sN hD (.lst []);refine IL (tt:=fun _ H Q=>Q true H) (lo:=0) (n:=l.teeth.toNat) (fun i H6 ys=>ys=(List.range i).map (fun (m:Nat)=>EN (AB ts).1 l.teeth (m:Int))/\(∀ b o,H b=some o->H6 b=some o)/\H6 D=some (.lst ys)) ⟨rfl,u0,uS⟩ ?_ ?_
 ·rintro i H6 ys kk hk hi ⟨rfl,s6,hd6⟩
  refine ⟨hd6,Ab ?_⟩;refine ⟨_,rfl,_,_,_,_,_,rfl,(s6 _ _ R.ob),T.cL,T.Ae,rfl,_,_,_,_,_,rfl,(s6 _ _ Rp.ob),T.cP,T.CF,rfl,_,rfl,_,_,_,_,_,rfl,(s6 _ _ R.ob),T.cL,T.EF,rfl,_,rfl,rr,(AB ts).1,(AB ts).2,l.teeth,_,rfl,s6 _ _ hra,Rt,n2,n64,by lia,by lia,fun H7 s7=>?_⟩
  refine ⟨s7 _ _ hd6,(by rw [List.length_map,List.length_range];exact Bb (by lia)),hk _ _ ⟨?_,fun b o e=>by rw [uN (nQ e hD)];exact s7 _ _ (s6 b o e),uS⟩⟩
  rw [List.range_succ,List.map_append,eN,Int.zero_add];rfl
 ·rintro H6 ys ⟨rfl,s6,hd6⟩
  refine ⟨hd6,?_⟩;exact q1 (AB ts) P.ep D _ F (R0.same s6) (AS.of_same s6) hD (fun z=>by obtain ⟨o,h⟩:=R0.at_ z;rw [hD] at h;cases h) hd6

def Zu (K:zP) (mg:zQ):Sp:=fun vs H Q E=>∃ a l F,vs=[.ref a]/\Aa K mg H a l F/\(l.ps.pitch=none->E (.ref (AA mg "NoTrain")) none H)/\(l.ps.pitch≠none->l.ps.closed=true->E (.ref (AA mg "WrongNut")) none H) /\
 (l.ps.pitch≠none->l.ps.closed=false->∀ m f k H',AE H H'->H' m=some (.tup [.ref f,.int (k%l.teeth)])->AO K H' f l.ps.ahead->FA l.ps k->Q (.ref m) H')
theorem RM (T:Txt K mg):zI P w K mg base (AA mg "Lathe") "soonest" ["self"] 9 (Zu K mg):=by
 obtain ⟨f,fd,F,hm,hb⟩:=T.UW;refine ⟨f,fd,F.ok1 OP (fun vs H Q E h=>?_) (fun cdv A outer s H vs Q E hr h=>?_),hm,T.cL,hb⟩
 ·obtain ⟨a,l,F,rfl,_⟩:=h
  rfl
 obtain ⟨a,l,F,rfl,R0,q1,q2,q3⟩:=h;have R1:=R0;obtain ⟨Fp,dx,s,pa,ra,rdx,ea,es,R⟩:=R1;refine ⟨_,(@pK _ _ _ _ _ (qS (pX (DZ T) hr (qH qI) (pA (pF (pv 0) rfl) pI)))
 (@pK _ _ _ _ _ (qS (pX (FL T) hr (qH qI) (pA (pF (pv 0) rfl) pI)))
 (@pK _ _ _ _ _ (@qK _ _ 1 _ _ _ _ OP.nd rfl (Or.inl rfl) (qO (Kv T) hr (qH qI) (pF (pv 0) rfl)) (by rfl) (by trivial))
 (@pO _ _ _ (@pR _ _ _ _ (@zB _ _ _ _ _ (pA (@qD _ _ _ _ _ _ _ iT (pv 1) pZ (fun _ _=>rfl)) (pA (qC qT (@qD _ _ _ _ _ _ _ iT (pv 1) pZ (fun _ _=>rfl)) (pF (pv 0) rfl)) pI)))))))),?_⟩
 have G:=R.re.good;have n2:=G.n2;refine ⟨_,rfl,_,_,_,_,_,rfl,R.ob,T.cL,T.Ae,rfl,pa,l.ps,Fp,rfl,R.pc,fun pi=>?_,q1⟩;refine ⟨_,rfl,_,_,_,_,_,rfl,R.ob,T.cL,T.Ae,rfl,pa,l.ps,Fp,rfl,R.pc,fun cl=>?_,fun cl=>q2 pi cl⟩;obtain ⟨pdx,t,rv,w,c,fv,tc,mc,cu,Rp⟩:=R.pc;rcases R.re.pco with e|⟨ts,P⟩
 ·rw [e] at pi;exact absurd rfl pi
 refine ⟨_,rfl,_,_,_,_,_,rfl,R.ob,T.cL,T.Ae,rfl,pa,pdx,_,rfl,Rp.ob,rfl,pa,l.ps,Fp,ts,rfl,R.pc,P,fun m f k H1 s1 hm hf b1 b2 n0 k0 k1=>?_⟩;refine ⟨_,rfl,_,_,_,_,rfl,rfl,AH.of (hm),rfl,_,rfl,_,_,_,_,rfl,rfl,AH.of (hm),rfl,_,rfl,_,_,_,_,_,rfl,(s1 _ _ R.ob),T.cL,T.EF,rfl,_,_,rfl,rfl,(by show 0<l.teeth;lia),(by exact My.AL),fun r hr=>?_⟩
 have s2:=sN hr (.tup [.ref f,.int (k%l.teeth)]);exact q3 pi cl r f k _ (s1.trans s2) uS (hf.mono s2) ⟨k0,by rw [P.rr];exact k1⟩

def ZE:Sp:=fun vs H Q _=>∃ (p n m:Int),vs=[.int p,.int n,.int m]/\1<=p/\p<=20000/\2<=n/\n<=64/\(Dc p n m=false->Q .non H)/\(Dc p n m=true->∀ j:Nat,j<n.toNat->(j:Int)*p%n=m->Q (.int ((j:Int)*p)) H)
theorem QH (T:Txt K mg):zH P w K mg base "first_safe_closing_at" ["top","teeth","mark"] 1 ZE:=by
 refine Ad T.Sq N5 (fun vs H Q E h=>?_) (fun f cdv A outer s H vs Q E hr h=>?_)
 ·obtain ⟨p,n,m,rfl,_⟩:=h
  rfl
 obtain ⟨p,n,m,rfl,p1,p2,n0,n1,q1,q2⟩:=h;refine ⟨_,(@pK _ _ _ _ _ (CQ PassesOwn.never rfl (Wn (by rfl) T.Cp (pA pZ (pA (qC qU (pv 0) (pv 1)) (pA (pv 0) pI)))) (BY (i:=3) N5.nd rfl (Or.inl rfl))
 (@pO _ _ _ (qM (qR (CO (qC qT (pv 3) (pv 1)) (pv 2)))
 (@pO _ _ _ (@pR _ _ _ _ (pv 3)))
 qG)))
 (@pO _ _ _ (@pR _ _ _ _ BC))),?_⟩
 have pn:1*n<=p*n:=Int.mul_le_mul_of_nonneg_right p1 (by lia)
 have pn2:p*n<=20000*n:=Int.mul_le_mul_of_nonneg_right p2 (by lia)
 have hN:Builtin.Range.rangeSize 0 (p*n) p=((n.toNat:Nat):Int):=by
  unfold Builtin.Range.rangeSize;rw [if_pos (by lia),if_pos (by lia),Int.toNat_of_nonneg (by lia)]
  have h:p*n-0-1=(p-1)+p*(n-1):=by rw [Int.mul_sub];lia
  rw [h,Int.add_mul_ediv_left _ _ (by lia),Int.ediv_eq_zero_of_lt (by lia) (by lia)]
  lia
 refine ⟨_,rfl,_,rfl,_,_,rfl,rfl,.inl (.inl ⟨by lia,by lia⟩),_,rfl,_,_,_,n.toNat,rfl,by lia,by lia,HR ((n.toNat:Nat):Int) (by lia) (by lia) (by lia) (by lia) (by lia) (by lia) hN (by lia) (by lia),hN,?_⟩
 refine SC (lo:=0) (c:=p) (n:=n.toNat) (fun i σ H'=>(∃ (k:Option V),σ=[some (.int p),some (.int n),some (.int m),k]/\H'=H)/\∀ j:Nat,j<i->(j:Int)*p%n≠m) ⟨⟨none,rfl,rfl⟩,fun j hj=>absurd hj (Nat.not_lt_zero j)⟩ ?_ ?_
 ·rintro i σ H' hi ⟨⟨k,rfl,rfl⟩,bef⟩
  refine ⟨_,rfl,_,rfl,_,_,rfl,rfl,by lia,_,rfl,_,_,rfl,rfl,_,rfl,?_⟩
  rw [Int.zero_add];refine BW (fun e=>?_) (fun e=>?_)
  ·exact ⟨_,rfl,q2 (Ro hi e) i hi e⟩
  ·refine ⟨⟨_,rfl,rfl⟩,fun j hj=>?_⟩
   rcases Nat.lt_succ_iff_lt_or_eq.mp hj with l|l
   ·exact bef j l
   ·subst l;exact e
 ·rintro σ H' ⟨⟨k,rfl,rfl⟩,all⟩
  exact q1 (Rn all)

def Zv:Sp:=fun vs H Q _=>∃ (r o:Addr) (t b x y n mk:Int),vs=[.ref r,.int n,.ref o,.int mk]/\H r=some (.tup [.int t,.int b])/\H o=some (.tup [.int x,.int y])/\BK t b/\Bd 1700 x/\Bd 1700 y/\0<y/\(-(2000100000*y)<=x/\x<=2000100000*y)/\2<=n/\n<=64/\0<=mk/\mk<n /\
 (Dc (AG t b) n mk=false->∀ H',AE H H'->Q .non H') /\
 (Dc (AG t b) n mk=true->∀ (k X Y:Int) (m f:Addr) (H':Hp),AE H H'->k%AG t b=0->k%n=mk->k*y<=x->(∀ j:Int,1<=j->j<=n->(k+j*AG t b)%n=mk->x<(k+j*AG t b)*y)->Bd 64 k ->
  1<=Y->Int.gcd X Y=1->X*(y*t)=(x-k*y)*b*Y->Bd 2000 X->Bd 2000 Y->H' m=some (.tup [.ref f,.int k])->H' f=some (.tup [.int X,.int Y])->Q (.ref m) H')
theorem QR (T:Txt K mg):zH P w K mg base "soonest_at" ["ratio","teeth","off","mark"] 5 Zv:=by
 refine Ad T.TK JY (fun vs H Q E h=>?_) (fun f cdv A outer s H vs Q E hr h=>?_)
 ·obtain ⟨r,o,t,b,x,y,n,mk,rfl,_⟩:=h
  rfl
 obtain ⟨r,o,t,b,x,y,n,mk,rfl,hR,hO,R,bx,bY,y0,⟨xl,xu⟩,n0,n1,m0,m1,q1,q2⟩:=h;refine ⟨_,(@pK _ _ _ _ _ (@qK _ _ 4 _ _ _ _ JY.nd rfl (Or.inl rfl) (pD (IS T) hr (pA (pv 0) pI)) (by rfl) (by trivial))
 (@pK _ _ _ _ _ (@qK _ _ 5 _ _ _ _ JY.nd rfl (Or.inl rfl) (pD (QH T) hr (pA (pv 4) (pA (pv 1) (pA (pv 3) pI)))) (by rfl) (by trivial))
 (@pK _ _ _ _ _ (qM (qR (BX (pv 5)))
 (@pO _ _ _ (@pR _ _ _ _ BC))
 qG)
 (@pO _ _ _ (@pR _ _ _ _ (pD (Kj T) hr (pA (pv 0) (pA (pv 2) (pA (pv 5) (pA (qC qX (qC qU (pv 4) (pv 1)) (pD (IQ T) hr (pA (pv 4) (pA (pv 1) pI)))) pI)))))))))),?_⟩
 have L:=R.pl;have p1:=L.p1;have p2:=L.p2;have gp:0<Int.gcd (AG t b) n:=Int.gcd_pos_iff.mpr (.inr (by lia))
 have gl:Int.gcd (AG t b) n<=n.natAbs:=Nat.le_of_dvd (by lia) (Int.natCast_dvd_natCast.mp (by rw [Int.natAbs_of_nonneg (show 0<=n by lia)];exact Int.gcd_dvd_right (AG t b) n))
 refine ⟨_,rfl,r,t,b,rfl,hR,R,fun H1 s1=>?_⟩;refine ⟨_,rfl,_,rfl,_,rfl,_,n,mk,rfl,p1,p2,n0,n1,fun e=>?_,fun e j hj hm=>?_⟩
 ·exact ⟨_,rfl,_,rfl,qF rfl (q1 e _ s1)⟩
 ·have pn2:AG t b*n<=20000*n:=Int.mul_le_mul_of_nonneg_right p2 (by lia)
  have pn1:1*n<=AG t b*n:=Int.mul_le_mul_of_nonneg_right p1 (by lia)
  have jp:(j:Int)*AG t b<=64*20000:=Int.le_trans (Int.mul_le_mul_of_nonneg_right (show (j:Int)<=64 by lia) (by lia)) (Int.mul_le_mul_of_nonneg_left p2 (by lia))
  have jp0:0<=(j:Int)*AG t b:=Int.mul_nonneg (by lia) (by lia)
  obtain ⟨a,ha⟩:=Int.gcd_dvd_left (AG t b) n;obtain ⟨c,hc⟩:=Int.gcd_dvd_right (AG t b) n;have co:Int.gcd a c=1:=by
   have h:=Int.gcd_mul_left (((Int.gcd (AG t b) n:Nat):Int)) a c;rw [← ha,← hc,Int.natAbs_natCast] at h;exact Nat.eq_of_mul_eq_mul_left gp (by lia)
  have hs:AG t b*n / ((Int.gcd (AG t b) n:Nat):Int)=AG t b*c:=by
   have h:AG t b*n=((Int.gcd (AG t b) n:Nat):Int)*(AG t b*c):=by
    conv=>lhs;rw [hc]
    grind
   rw [h,Int.mul_ediv_cancel_left _ (by lia)]
  have bg:Bd 64 ((Int.gcd (AG t b) n:Nat):Int):=BE (by lia) (by lia)
  have bst:Bd 64 ((j:Int)*AG t b):=by
   unfold Bd;have:(2:Nat) ^ 64=18446744073709551616:=by decide
   lia
  have c1:1<=c:=by
   rcases Int.lt_or_le c 1 with l|l
   ·have:=Int.mul_nonpos_of_nonneg_of_nonpos (show 0<=((Int.gcd (AG t b) n:Nat):Int) by lia) (show c<=0 by lia)
    lia
   ·exact l
  have cn:c<=n:=by
   have:=Int.mul_le_mul_of_nonneg_right (show 1<=((Int.gcd (AG t b) n:Nat):Int) by lia) (show 0<=c by lia)
   lia
  have bp:=L.bp;have bse:Bd 64 (AG t b*c):=by
   have h1:AG t b*c<=20000*64:=Int.le_trans (Int.mul_le_mul_of_nonneg_right p2 (by lia)) (Int.mul_le_mul_of_nonneg_left (by lia) (by lia))
   have h2:0<=AG t b*c:=Int.mul_nonneg (by lia) (by lia)
   unfold Bd;have:(2:Nat) ^ 64=18446744073709551616:=by decide
   lia
  have se1:1<=AG t b*c:=Int.mul_pos (by lia) (by lia)
  have bk0:Bd 64 ((j:Int)*AG t b+(x-(j:Int)*AG t b*y) / (AG t b*c*y)*(AG t b*c)):=by
   have vy:0<AG t b*c*y:=Int.mul_pos (by lia) y0
   have fl:=Ge (x-(j:Int)*AG t b*y) vy;generalize (x-(j:Int)*AG t b*y) / (AG t b*c*y)=fq at fl ⊢;have v2:AG t b*c<=20000*64:=Int.le_trans (Int.mul_le_mul_of_nonneg_right p2 (by lia)) (Int.mul_le_mul_of_nonneg_left (by lia) (by lia))
   have f1:fq*(AG t b*c*y)=fq*(AG t b*c)*y:=by grind
   have f2:(fq+1)*(AG t b*c*y)=(fq*(AG t b*c)+AG t b*c)*y:=by grind
   rw [f1,f2] at fl;have g1:((j:Int)*AG t b+fq*(AG t b*c))*y=(j:Int)*AG t b*y+fq*(AG t b*c)*y:=by grind
   have g2:((j:Int)*AG t b+fq*(AG t b*c)+AG t b*c)*y=(j:Int)*AG t b*y+(fq*(AG t b*c)+AG t b*c)*y:=by grind
   have u1:(j:Int)*AG t b+fq*(AG t b*c)<=2000100000:=Int.le_of_mul_le_mul_right (show ((j:Int)*AG t b+fq*(AG t b*c))*y<=2000100000*y by rw [g1];lia) y0
   have u2:-2000100000<=(j:Int)*AG t b+fq*(AG t b*c)+AG t b*c:=Int.le_of_mul_le_mul_right (show -2000100000*y<=((j:Int)*AG t b+fq*(AG t b*c)+AG t b*c)*y by rw [g2,Int.neg_mul];lia) y0
   unfold Bd;have:(2:Nat) ^ 64=18446744073709551616:=by decide
   lia
  refine ⟨_,rfl,_,rfl,qE (fun z=>nomatch z) ?_⟩;refine ⟨_,rfl,_,rfl,_,rfl,_,rfl,_,rfl,_,_,rfl,rfl,.inl (.inl ⟨by lia,by lia⟩),_,rfl,_,rfl,_,_,rfl,by lia,by lia,_,_,rfl,rfl,⟨by lia,bg.mono (by decide)⟩,?_⟩
  refine ⟨r,o,t,b,x,y,(j:Int)*AG t b,AG t b*c,(by show [V.ref r,V.ref o,V.int ((j:Int)*AG t b),V.int (AG t b*n / ((Int.gcd (AG t b) n:Nat):Int))]=_;rw [hs]),s1 _ _ hR,s1 _ _ hO,R,bx,bY,y0,bst,bse,se1,bk0,fun k X Y m f H' s ek k1 k2 bk h1 h2 h3 h4 h5 h6 h7=>?_⟩
  refine q2 e k X Y m f H' (s1.trans s) ?_ ?_ k1 ?_ bk h1 h2 h3 h4 h5 h6 h7
  ·rw [ek]
   refine Int.emod_eq_zero_of_dvd (Int.dvd_add (Int.dvd_mul_left _ _) (Int.dvd_trans (Int.dvd_mul_right _ c) (Int.dvd_mul_left _ _)))
  ·refine (FP (by lia) m0 m1).mp (Int.emod_eq_zero_of_dvd ?_)
   have d1:n∣(j:Int)*AG t b-mk:=Int.dvd_of_emod_eq_zero ((FP (by lia) m0 m1).mpr hm)
   have d2:n∣AG t b*c:=⟨a,by
    conv=>lhs;rw [ha]
    conv=>rhs;rw [hc]
    grind⟩
   rw [ek];have e2:(j:Int)*AG t b+(x-(j:Int)*AG t b*y) / (AG t b*c*y)*(AG t b*c)-mk=((j:Int)*AG t b-mk)+(x-(j:Int)*AG t b*y) / (AG t b*c*y)*(AG t b*c):=by lia
   rw [e2];exact Int.dvd_add d1 (Int.dvd_trans d2 (Int.dvd_mul_left _ _))
  ·intro i i1 i2 hi
   have kn:k%n=mk:=by
    refine (FP (by lia) m0 m1).mp (Int.emod_eq_zero_of_dvd ?_)
    have d1:n∣(j:Int)*AG t b-mk:=Int.dvd_of_emod_eq_zero ((FP (by lia) m0 m1).mpr hm)
    have d2:n∣AG t b*c:=⟨a,by
     conv=>lhs;rw [ha]
     conv=>rhs;rw [hc]
     grind⟩
    rw [ek];have e2:(j:Int)*AG t b+(x-(j:Int)*AG t b*y) / (AG t b*c*y)*(AG t b*c)-mk=((j:Int)*AG t b-mk)+(x-(j:Int)*AG t b*y) / (AG t b*c*y)*(AG t b*c):=by lia
    rw [e2];exact Int.dvd_add d1 (Int.dvd_trans d2 (Int.dvd_mul_left _ _))
   have dv:n∣i*AG t b:=by
    have:=Int.dvd_of_emod_eq_zero (Int.emod_eq_emod_iff_emod_sub_eq_zero.mp (hi.trans kn.symm));have e3:k+i*AG t b-k=i*AG t b:=by lia
    rwa [e3] at this
   have dc:c∣i:=by
    have h:((Int.gcd (AG t b) n:Nat):Int)*c∣((Int.gcd (AG t b) n:Nat):Int)*(i*a):=by
     rw [← hc];have e4:((Int.gcd (AG t b) n:Nat):Int)*(i*a)=i*AG t b:=by
      conv=>rhs;rw [ha]
      grind
     rw [e4];exact dv
    have h':=Int.dvd_of_mul_dvd_mul_left (show ((Int.gcd (AG t b) n:Nat):Int)≠0 by lia) h
    exact FJ (by rw [Int.gcd_comm];exact co) h'
   have ci:c<=i:=Int.le_of_dvd (by lia) dc
   have h8:AG t b*c<=i*AG t b:=by
    rw [Int.mul_comm i];exact Int.mul_le_mul_of_nonneg_left ci (by lia)
   exact Int.lt_of_lt_of_le k2 (Int.mul_le_mul_of_nonneg_right (by lia) (by lia))

def Zw (K:zP) (mg:zQ):Sp:=fun vs H Q E=>∃ a l F mk,vs=[.ref a,.int mk]/\Aa K mg H a l F/\(l.ps.pitch=none->E (.ref (AA mg "NoTrain")) none H)/\(l.ps.pitch≠none->l.ps.closed=true->E (.ref (AA mg "WrongNut")) none H) /\
 (l.ps.pitch≠none->l.ps.closed=false->¬ (0<=mk/\mk<=l.teeth-1)->E (.ref (AA mg "BadNumber")) none H) /\
 (l.ps.pitch≠none->l.ps.closed=false->0<=mk->mk<l.teeth->∀ v x H',AE H H'->Ay K H' v x->FB l.ps l.teeth mk x->Q v H')
theorem RN (T:Txt K mg):zI P w K mg base (AA mg "Lathe") "soonest_on" ["self","mark"] 9 (Zw K mg):=by
 obtain ⟨f,fd,F,hm,hb⟩:=T.UX;refine ⟨f,fd,F.ok1 Jg (fun vs H Q E h=>?_) (fun cdv A outer s H vs Q E hr h=>?_),hm,T.cL,hb⟩
 ·obtain ⟨a,l,F,mk,rfl,_⟩:=h
  rfl
 obtain ⟨a,l,F,mk,rfl,R0,q1,q2,q3,q4⟩:=h;have R1:=R0;obtain ⟨Fp,dx,s,pa,ra,rdx,ea,es,R⟩:=R1;refine ⟨_,(@pK _ _ _ _ _ (qS (pX (DZ T) hr (qH qI) (pA (pF (pv 0) rfl) pI)))
 (@pK _ _ _ _ _ (qS (pX (FL T) hr (qH qI) (pA (pF (pv 0) rfl) pI)))
 (@pK _ _ _ _ _ (qM (A5 (qZ (pD (Fr T) hr (pA (pv 1) (pA pZ (pA (qC C5 (pF (pv 0) rfl) pZ) pI))))))
 (@pO _ _ _ (zE qI rfl T.DE T.C3 (pA pS pI)))
 qG)
 (@pK _ _ _ _ _ (@qK _ _ 2 _ _ _ _ Jg.nd rfl (Or.inl rfl) (qO (FM T) hr (qH qI) (pF (pv 0) rfl)) (by rfl) (by trivial))
 (@pK _ _ _ _ _ (qM (qR (BX (pv 2)))
 (@pO _ _ _ (@pR _ _ _ _ (JC (qR (CO (pv 1) pZ)) (Bz (by rfl) T.Ea (v:=.ref (AA mg "NOUGHT")) rfl) BC)))
 qG)
 (@pK _ _ _ _ _ (@qK _ _ 3 _ _ _ _ Jg.nd rfl (Or.inl rfl) (pD (QR T) hr (pA (pF (pF (pv 0) rfl) rfl) (pA (pF (pv 0) rfl) (pA (pv 2) (pA (pv 1) pI))))) (by rfl) (by trivial))
 (@pO _ _ _ (@pR _ _ _ _ (JC (qR (BX (pv 3))) BC (@qD _ _ _ _ _ _ _ iT (pv 3) pZ (fun _ _=>rfl))))))))))),?_⟩
 have G:=R.re.good;have n2:=G.n2;have n64:=G.n64;refine ⟨_,rfl,_,_,_,_,_,rfl,R.ob,T.cL,T.Ae,rfl,pa,l.ps,Fp,rfl,R.pc,fun pi=>?_,q1⟩;refine ⟨_,rfl,_,_,_,_,_,rfl,R.ob,T.cL,T.Ae,rfl,pa,l.ps,Fp,rfl,R.pc,fun cl=>?_,fun cl=>q2 pi cl⟩;obtain ⟨pdx,t,rv,w,c,fv,tc,mc,cu,Rp⟩:=R.pc;rcases R.re.pco with e|⟨ts,P⟩
 ·rw [e] at pi;exact absurd rfl pi
 refine ⟨_,rfl,_,rfl,_,_,_,_,_,rfl,R.ob,T.cL,T.EF,rfl,_,_,rfl,rfl,mk,0,l.teeth-1,rfl,_,rfl,?_⟩;by_cases hin:0<=mk/\mk<=l.teeth-1
 rotate_left
 ·rw [decide_eq_false hin]
  refine Ab ?_;exact ⟨by show 1<=sizeLine;decide,q3 pi cl hin⟩
 rw [decide_eq_true hin];refine AN ?_;refine ⟨_,rfl,_,_,_,_,_,rfl,R.ob,T.cL,T.Ae,rfl,pa,pdx,_,rfl,Rp.ob,rfl,pa,l.ps,Fp,rfl,R.pc,R.re.pco,fun v H1 s1 hv=>?_⟩;rcases ho:l.ps.off with _|o
 ·rw [ho] at hv
  cases (show v = .non from hv);refine ⟨_,rfl,_,rfl,qF rfl ?_⟩;refine ⟨_,rfl,_,_,rfl,rfl,_,rfl,BW (fun z=>?_) (fun z=>?_)⟩
  ·have z':mk=0:=z
   exact q4 pi cl hin.1 (by lia) _ (some (0,1)) H1 s1 ⟨_,rfl,.inr T.GK⟩ (.inl ⟨ho,z',rfl⟩)
  ·have z':¬ mk=0:=z
   exact q4 pi cl hin.1 (by lia) _ none H1 s1 rfl (.inl ⟨ho,z'⟩)
 ·rw [ho] at hv
  obtain ⟨n,rfl,hn0,hn⟩:=hv;refine ⟨_,rfl,_,rfl,qE (fun z=>by cases z) ?_⟩
  have hra:=Rp.ra;rw [P.ep] at hra;obtain ⟨rr,rfl,hra⟩:=hra;have Rt:BK (AB ts).1 (AB ts).2:=⟨P.tr.pl.p1,P.tr.pl.p2,P.tr.pl.q1,P.tr.pl.q2⟩;have rse:=Cj P.tr.rok;have eN:AG (AB ts).1 (AB ts).2=(AB ts).1:=congrArg Prod.fst rse;have oN:=P.offN ho;have oO:=P.o o ho;have o2:0<o.2:=by have:=oO.pos;lia
  refine ⟨_,rfl,_,_,_,_,_,rfl,(s1 _ _ R.ob),T.cL,T.Ae,rfl,_,_,_,_,_,rfl,(s1 _ _ Rp.ob),T.cP,T.CF,rfl,_,rfl,_,_,_,_,_,rfl,(s1 _ _ R.ob),T.cL,T.EF,rfl,_,rfl,_,rfl,rr,n,(AB ts).1,(AB ts).2,o.1,o.2,l.teeth,mk,rfl,s1 _ _ hra,hn,Rt,oN.1,oN.2,o2,P.offLe ho,n2,n64,hin.1,by lia,fun ev H2 s2=>?_,fun ev k X Y m f H2 s2 k1 k2 k3 k4 bk y1 co eq bX bY hm hf=>?_⟩
  ·rw [eN] at ev
   refine ⟨_,rfl,_,rfl,qF rfl ?_⟩;exact q4 pi cl hin.1 (by lia) _ none H2 (s1.trans s2) rfl (.inr ⟨o,ho,by rw [P.rr];exact ev⟩)
  ·rw [eN] at ev k1 k4
   refine ⟨_,rfl,_,rfl,qE (fun z=>by cases z) ?_⟩
   exact ⟨_,rfl,_,_,_,_,rfl,rfl,AH.of (hm),rfl,q4 pi cl hin.1 (by lia) _ (some (X,Y)) H2 (s1.trans s2) ⟨f,rfl,.inl hf⟩ (.inr ⟨o,k,ho,by rw [P.rr];exact ev,by rw [P.rr];exact k1,k2,k3,by rw [P.rr];exact k4,⟨y1,co⟩,⟨bX,bY⟩,by rw [P.rr];exact eq⟩)⟩

theorem FA.uniq {p:PS} {ts:List Int} {k j:Int} (P:Pc p ts) (h:FA p k) (g:FA p j):k=j:=by
 have t1:=P.tr.pl.p1;rcases ho:p.off with _|o
 ·rw [h.1 ho,g.1 ho]
 ·obtain ⟨k1,k2,k3⟩:=h.2 o ho
  obtain ⟨j1,j2,j3⟩:=g.2 o ho;rw [P.rr] at k1 k3 j1 j3;have oO:=(P.o o ho).pos;have l1:k<j+(AB ts).1:=Int.lt_of_mul_lt_mul_right (show k*o.2<(j+(AB ts).1)*o.2 by lia) (by lia)
  have l2:j<k+(AB ts).1:=Int.lt_of_mul_lt_mul_right (show j*o.2<(k+(AB ts).1)*o.2 by lia) (by lia)
  obtain ⟨i,hi⟩:=Int.dvd_of_emod_eq_zero k1;obtain ⟨m,hm⟩:=Int.dvd_of_emod_eq_zero j1;rw [hi,hm] at l1 l2;have e:i=m:=by
   have a1:(AB ts).1*i<(AB ts).1*(m+1):=by rw [Int.mul_add];lia
   have a2:(AB ts).1*m<(AB ts).1*(i+1):=by rw [Int.mul_add];lia
   have b1:=Int.lt_of_mul_lt_mul_left a1 (by lia)
   have b2:=Int.lt_of_mul_lt_mul_left a2 (by lia)
   lia
  rw [hi,hm,e]
theorem Ld {p n mk o1 o2 k j:Int} (p1:0<p) (n1:0<n) (o20:0<o2) (k1:k%p=0) (j1:j%p=0) (km:k%n=mk) (jm:j%n=mk) (jl:j*o2<=o1) (nx:∀ i:Int,1<=i->i<=n->(k+i*p)%n=mk->o1<(k+i*p)*o2):¬ k<j:=fun lt=>by
 obtain ⟨a,ha⟩:=Int.dvd_of_emod_eq_zero k1;obtain ⟨b,hb⟩:=Int.dvd_of_emod_eq_zero j1;have ab:a<b:=Int.lt_of_mul_lt_mul_left (show p*a<p*b by lia) (by lia)
 have m0:=Int.emod_nonneg (b-a-1) (show n≠0 by lia)
 have m1:=Int.emod_lt_of_pos (b-a-1) n1;have md:=Int.emod_add_mul_ediv (b-a-1) n;have q0:0<=(b-a-1) / n:=Int.ediv_nonneg (by lia) (by lia)
 generalize (b-a-1)%n=r at m0 m1 md;generalize (b-a-1) / n=q at md q0;have ej:j=k+(r+1)*p+n*(q*p):=by
  have e3:b=a+1+(r+n*q):=by lia
  rw [hb,e3,ha]
  grind
 have em:(k+(r+1)*p)%n=mk:=by
  rw [← jm,ej,Int.add_mul_emod_self_left]
 have:=nx (r+1) (by lia) (by lia) em
 have qp:0<=n*(q*p):=Int.mul_nonneg (by lia) (Int.mul_nonneg q0 (by lia))
 have le:(k+(r+1)*p)*o2<=j*o2:=Int.mul_le_mul_of_nonneg_right (by lia) (by lia)
 lia
theorem Px {x y:Q2} {d e:Int} (d0:0<d) (hx:Ah x) (hy:Ah y) (ex:x.1*d=e*x.2) (ey:y.1*d=e*y.2):x=y:=by
 have c:x.1*y.2=y.1*x.2:=by
  refine Int.eq_of_mul_eq_mul_right (show d≠0 by lia) ?_
  have a:x.1*y.2*d=e*x.2*y.2:=by rw [Int.mul_right_comm,ex]
  have b:y.1*x.2*d=e*y.2*x.2:=by rw [Int.mul_right_comm,ey]
  rw [a,b]
  grind
 have nx:=hx.nz;have ny:=hy.nz;have c':(x.1:Rat)*(y.2:Rat)=(y.1:Rat)*(x.2:Rat):=by exact_mod_cast c
 refine Em hx hy ?_;unfold qv
 grind
theorem FB.uniq {p:PS} {ts:List Int} {n mk:Int} {x y:Option Q2} (P:Pc p ts) (n1:0<n) (h:FB p n mk x) (g:FB p n mk y):x=y:=by
 have t1:=P.tr.pl.p1;have q1:=P.tr.pl.q1
 match x,y,h,g with
 | none,none,_,_=>rfl
 | none,some y,h,g =>
  rcases h with ⟨h1,h2⟩|⟨o,h1,h2⟩ <;> rcases g with ⟨g1,g2,_⟩|⟨o',k,g1,g2,_⟩
  ·exact absurd g2 h2
  ·rw [h1] at g1;cases g1
  ·rw [h1] at g1;cases g1
  ·rw [h2] at g2;cases g2
 | some x,none,g,h =>
  rcases h with ⟨h1,h2⟩|⟨o,h1,h2⟩ <;> rcases g with ⟨g1,g2,_⟩|⟨o',k,g1,g2,_⟩
  ·exact absurd g2 h2
  ·rw [h1] at g1;cases g1
  ·rw [h1] at g1;cases g1
  ·rw [h2] at g2;cases g2
 | some x,some y,h,g =>
  rcases h with ⟨h1,_,h2⟩|⟨o,k,h1,_,a1,a2,a3,a4,a5,_,a6⟩ <;> rcases g with ⟨g1,_,g2⟩|⟨o',k',g1,_,b1,b2,b3,b4,b5,_,b6⟩
  ·rw [h2,g2]
  ·rw [h1] at g1;cases g1
  ·rw [h1] at g1;cases g1
  ·rw [h1] at g1
   cases g1;have oO:=(P.o o h1).pos;rw [P.rr] at a1 a4 a6 b1 b4 b6;have l1:=Ld (by lia) n1 (by lia) a1 b1 a2 b2 b3 a4
   have l2:=Ld (by lia) n1 (by lia) b1 a1 b2 a2 a3 b4
   have e:k=k':=by lia
   subst e;rw [Px (Int.mul_pos (by lia) (show 0<(AB ts).1 by lia)) a5 b5 a6 b6]
def O4 (K:zP) (F:Addr->Prop) (H:Hp) (l:LS) (xs:List V):Prop:=(l.ps.pitch=none/\xs=[])\/∃ M,Ob F H M (.lst (FT l.ps.r l.teeth))/\l.ps.pitch≠none/\((l.ps.closed=true/\xs=[.ref M]) \/
 (l.ps.closed=false/\∃ m f k v x,xs=[.ref M,.ref m,v]/\H m=some (.tup [.ref f,.int (k%l.teeth)])/\AO K H f l.ps.ahead/\FA l.ps k/\Ay K H v x/\FB l.ps l.teeth 0 x))
def DR (K:zP) (F:Addr->Prop) (H:Hp) (D:Addr) (l:LS):Prop:=∃ sp xs,Ob F H D (.lst (sp::xs))/\DV H sp F l.teeth l.ps.r l.ps.cuts/\O4 K F H l xs
theorem DV.fit {v:V} {nt:Int} {r:Q2} {cs:List Q2} {F F':Addr->Prop} {H H':Hp} (h:DV H v F nt r cs) (f:AS F F' H H'):DV H' v F' nt r cs:=by
 rcases h with h|⟨k,c,a,D,m,u,h1,h2,h3,e,h4,h5,h6,h7,h8⟩
 ·exact .inl h
 ·exact .inr ⟨k,c,a,D,m,u,h1,h2,h3,e,f.tup _ _ h4,h5,h6,f.keep _ _ h7 h8,f.out h7 h8⟩
theorem DR.fit {K:zP} {F F':Addr->Prop} {H H':Hp} {D:Addr} {l:LS} (h:DR K F H D l) (f:AS F F' H H'):DR K F' H' D l:=by
 obtain ⟨sp,xs,h1,h2,h3⟩:=h;refine ⟨sp,xs,h1.fit f,h2.fit f,?_⟩;rcases h3 with h|⟨M,a,b,c⟩
 ·exact .inl h
 ·refine .inr ⟨M,a.fit f,b,c.elim .inl fun ⟨c0,m,g,k,v,x,c1,c2,c3,c4,c5,c6⟩=>.inr ⟨c0,m,g,k,v,x,c1,f.tup _ _ c2,c3.tups f.tup,c4,c5.tups f.tup,c6⟩⟩
theorem aM (p n m:Int):BV (EN p n m)=true:=by
 unfold EN;split
 ·rfl
 ·split <;> rfl
theorem DR.eq {K:zP} {F F':Addr->Prop} {H:Hp} {D D':Addr} {l:LS} (Re:Reach l) (h:DR K F H D l) (h':DR K F' H D' l):∃ xs ys,H D=some (.lst xs)/\H D'=some (.lst ys)/\xs.length=ys.length/\∀ (j:Nat) a b,xs[j]? = some a->ys[j]? = some b->CY K H 3 a b:=by
 obtain ⟨sp,xs,h1,h2,h3⟩:=h;obtain ⟨sp',ys,k1,k2,k3⟩:=h';have sps:CY K H 3 sp sp':=by
  rcases Re.pco with e|⟨ts,Pc'⟩
  ·rw [e] at h2 k2
   have no:∀ {v:V} {F:Addr->Prop},DV H v F l.teeth BZ.r BZ.cuts->v = .non:=fun h=>by
    rcases h with ⟨e,_⟩|⟨k,c,a,D,m,u,h1,_⟩
    ·exact e
    ·simp [BZ] at h1
   rw [no h2,no k2];exact Dr rfl
  ·refine XY (n:=1) ?_ h2 k2
   rw [Pc'.rr];exact Pc'.tr.pl.co
 have mks:∀ {M M':Addr},H M=some (.lst (FT l.ps.r l.teeth))->H M'=some (.lst (FT l.ps.r l.teeth))->CY K H 3 (.ref M) (.ref M'):=fun e1 e2=>by
  refine .inr (.inr ⟨_,_,_,_,rfl,rfl,AF.of e1,AF.of e2,rfl,fun j x y z1 z2=>?_⟩);rw [z1] at z2;cases z2;have m:=List.mem_of_getElem? z1;unfold FT at m;obtain ⟨i,_,rfl⟩:=List.mem_map.mp m;exact Dr (aM _ _ _)
 refine ⟨_,_,h1.1,k1.1,?_⟩;rcases h3 with ⟨a1,rfl⟩|⟨M,a1,a2,a3⟩
 ·rcases k3 with ⟨_,rfl⟩|⟨M',_,b2,_⟩
  ·refine ⟨rfl,fun j a b e1 e2=>?_⟩
   match j,e1,e2 with
   | 0,e1,e2=>cases e1;cases e2;exact sps
  ·exact absurd a1 b2
 ·rcases k3 with ⟨b1,_⟩|⟨M',b1,b2,b3⟩
  ·exact absurd b1 a2
  ·obtain ⟨ts,P⟩:=Re.pcOf' a2
   rcases a3 with ⟨a0,rfl⟩|⟨a0,m,f,k,v,x,rfl,c1,c2,c3,c4,c5⟩
   ·rcases b3 with ⟨b0,rfl⟩|⟨b0,_⟩
    ·refine ⟨rfl,fun j a b e1 e2=>?_⟩
     match j,e1,e2 with
     | 0,e1,e2=>cases e1;cases e2;exact sps
     | 1,e1,e2=>cases e1;cases e2;exact mks a1.1 b1.1
    ·rw [a0] at b0;cases b0
   ·rcases b3 with ⟨b0,_⟩|⟨b0,m',f',k',v',x',rfl,d1,d2,d3,d4,d5⟩
    ·rw [a0] at b0;cases b0
    ·obtain rfl:=FA.uniq P c3 d3
     obtain rfl:=FB.uniq P (by have:=Re.good.n2;lia) c5 d5
     refine ⟨rfl,fun j a b e1 e2=>?_⟩
     match j,e1,e2 with
     | 0,e1,e2=>cases e1;cases e2;exact sps
     | 1,e1,e2=>cases e1;cases e2;exact mks a1.1 b1.1
     | 2,e1,e2 =>
      cases e1;cases e2;refine .inr (.inl ⟨m,m',_,_,rfl,rfl,AH.of c1,AH.of d1,rfl,fun j x y e1 e2=>?_⟩)
      match j,e1,e2 with
      | 0,e1,e2=>cases e1;cases e2;exact N2 c2 d2
      | 1,e1,e2=>cases e1;cases e2;exact Dr rfl
     | 3,e1,e2=>cases e1;cases e2;exact XW c4 d4
def Yx (K:zP) (mg:zQ):Sp:=fun vs H Q _=>∃ (x s:Addr) (l:LS) (F:Addr->Prop),vs=[.ref x,.ref s]/\Aa K mg H x l F/\Al K (fun b=>¬ F b) H s l.ps/\∀ D H' F',Aa K mg H' x l F'->AS F F' H H'->DR K F' H' D l->Q (.ref D) H'
theorem Km (T:Txt K mg):CB P w K mg base "_law_besides" ["_law_lathe","_law_s"] 10 (Yx K mg):=by
 refine Cq T.Td Ja (fun vs H Q E h=>?_) (fun f cdv A outer s H vs Q E hr h=>?_)
 ·obtain ⟨x,s,l,F,rfl,_⟩:=h
  rfl
 obtain ⟨x,s,l,F,rfl,R,S,q⟩:=h;refine ⟨_,(@pK _ _ _ _ _ (@qK _ _ 2 _ _ _ _ Ja.nd rfl (Or.inl rfl) (@zA _ _ _ _ (pA (qO (RO T) hr (qH qI) (pv 0)) pI)) (by rfl) (by trivial))
 (@pK _ _ _ _ _ (qM (qR (EG (qN (qV hr) (pv 1) pS (fun _ _=>rfl))))
 (@pK _ _ _ _ _ (qS (EH PySem.F.plainAttrs_list PySem.F.slot_list_append PySem.F.type_list_append Ed (pv 2) (pA (qO (RA T) hr (qH qI) (pv 0)) pI)))
 (@pO _ _ _ (qM (A5 (qZ (qN (qV hr) (pv 1) pS (fun _ _=>rfl))))
 (@pO _ _ _ (@qK _ _ 2 _ _ _ _ Ja.nd rfl (Or.inl rfl) (qC Ci (pv 2) (@zA _ _ _ _ (pA (qO (RM T) hr (qH qI) (pv 0)) (pA (qP (RN T) hr (qH qI) (pv 0) (pA pZ pI)) pI)))) (by rfl) (by trivial)))
 qG)))
 qG)
 (@pO _ _ _ (@pR _ _ _ _ (pv 2))))),?_⟩
 have Re:=R.reach;have G:=Re.good;obtain ⟨t,pi,wk,pl,ov,cu,tu,mo,SA⟩:=S;have oS:Ob F H s _:=⟨SA.ob,SA.ns⟩;have hpi:=SA.pi';obtain ⟨dx1,fs1,ins1,no1⟩:=R.ins;refine ⟨_,rfl,x,dx1,fs1,rfl,ins1,no1 "spoilt" (by decide +kernel),x,l,F,rfl,R,fun v1 H1 F1 R1 f1 k1=>?_⟩
 have k1:DV H1 v1 F1 l.teeth l.ps.r l.ps.cuts:=k1;have oS:=oS.fit f1;refine ⟨(by exact My.Hg),fun D hD=>?_⟩
 have s2:=sN hD (.lst [v1]);have oD:=R1.made hD (.lst [v1]);have R2:=R1.same s2;have sD:=nQ oS.1 hD;have oS:=oS.same s2;have g2:=AS.of_same (F:=F1) s2;generalize AC H1 D _=H2 at oD R2 oS g2 ⊢;clear s2 R1;rcases hp:l.ps.pitch with _|r
 ·rw [hp] at hpi
  cases (show pi = .non from hpi);refine ⟨_,rfl,_,_,rfl,.inl ⟨_,.inr "pitch",.inl oS.1,rfl,A9.symm⟩,_,rfl,AN ?_⟩;exact ⟨_,rfl,q D H2 F1 R2 (f1.trans g2) ⟨v1,[],oD,k1.fit g2,.inl ⟨hp,rfl⟩⟩⟩
 ·have np:l.ps.pitch≠none:=by rw [hp];exact fun z=>nomatch z
  have er:l.ps.r=r:=by unfold PS.r;rw [hp];rfl
  rw [hp] at hpi;obtain ⟨pa,rfl,_⟩:=hpi;obtain ⟨dx2,fs2,ins2,no2⟩:=R2.ins;refine ⟨_,rfl,_,_,rfl,.inl ⟨_,.inr "pitch",.inl oS.1,rfl,A9.symm⟩,_,rfl,Ab ?_⟩;refine ⟨_,rfl,.inl ⟨rfl,_,AF.of oD.1⟩,_,rfl,x,dx2,fs2,rfl,ins2,no2 "marks" (by decide +kernel),x,l,F1,rfl,R2,fun r' hr' M H3 F3 R3 f3 nM nF3 hM=>?_,fun z=>absurd z np⟩
  rw [hp] at hr';cases hr';have oD3:=oD.fit f3;have oM:Ob F3 H3 M (.lst (FT l.ps.r l.teeth)):=⟨by rw [er];exact hM,nF3⟩
  have DM:D≠M:=nQ oD.1 nM;refine ⟨D,_,_,rfl,rfl,oD3.1,Bb (by show 1<=1000;decide),?_⟩
  have kD:=KK (H:=H3) (D:=D) (.lst ([v1]++[.ref M]));have tD:=kD.tups oD3.1;have R4:=R3.beside oD3.2 kD oD3.1;have oM4:=oM.beside kD (Ne.symm DM);have oD4:Ob F3 (AC H3 D (.lst ([v1]++[.ref M]))) D (.lst [v1,.ref M]):=⟨uS,oD3.2⟩;have oS4:=(oS.fit f3).beside kD sD;have g4:AS F1 F3 H1 (AC H3 D (.lst ([v1]++[.ref M]))):=AS.besides (g2.trans f3) hD kD;generalize AC H3 D _=H4 at R4 oM4 oD4 oS4 g4 ⊢;clear kD tD R3 oM oD3 oD R2 g2 f3 nM nF3 hM;refine ⟨_,rfl,_,_,rfl,.inl ⟨_,.inr "closed",.inl oS4.1,rfl,Aw.symm⟩,_,rfl,?_⟩;cases cl:l.ps.closed with
  | true =>
   refine AN ?_;exact ⟨_,rfl,q D H4 F3 R4 (f1.trans g4) ⟨v1,_,oD4,k1.fit g4,.inr ⟨M,oM4,np,.inl ⟨cl,rfl⟩⟩⟩⟩
  | false =>
   refine Ab ?_;obtain ⟨dx4,fs4,ins4,no4⟩:=R4.ins;refine ⟨_,rfl,_,rfl,x,dx4,fs4,rfl,ins4,no4 "soonest" (by decide +kernel),x,l,F3,rfl,R4,(fun z=>absurd z np),(fun _ z=>by rw [cl] at z;cases z),fun _ _ m f k H5 s5 hm hf nx=>?_⟩
   have R5:=R4.same s5;obtain ⟨dx5,fs5,ins5,no5⟩:=R5.ins;refine ⟨_,rfl,x,dx5,fs5,rfl,ins5,no5 "soonest_on" (by decide +kernel),x,l,F3,0,rfl,R5,(fun z=>absurd z np),(fun _ z=>by rw [cl] at z;cases z),(fun _ _ z=>absurd ⟨by decide,by have:=G.n2;lia⟩ z),fun _ _ _ _ v y H6 s6 hv hy=>?_⟩
   refine ⟨(by exact My.AL),fun La hLa=>?_⟩
   have s7:=sN hLa (.lst [.ref m,v]);have s57:=s5.trans (s6.trans s7);refine ⟨D,La,_,_,rfl,rfl,(oD4.same s57).1,uS,(by exact My.CH),fun D2 hD2=>?_⟩
   have s8:=sN hD2 (.lst ([v1,.ref M]++[.ref m,v]));have s58:=s57.trans s8;have h5:=AS.of_same (F:=F3) s58;have oD2:=(R4.same s57).made hD2 (.lst ([v1,.ref M]++[.ref m,v]));exact ⟨_,rfl,q D2 _ F3 (R4.same s58) (f1.trans (g4.trans h5)) ⟨v1,_,oD2,k1.fit (g4.trans h5),.inr ⟨M,oM4.fit h5,np,.inr ⟨cl,m,f,k,v,y,rfl,(s6.trans (s7.trans s8)) _ _ hm,(hf.mono (s6.trans (s7.trans s8))),nx,hv.tups (AE.tups (s7.trans s8)),hy⟩⟩⟩⟩

theorem FK (ts:List Int) (lo hi:Option Int):∃ u:List Int,AY (ts.map V.int) lo hi=u.map V.int/\u.length<=ts.length/\∀ v∈u,v∈ts:=by
 refine ⟨(ts.drop (HT.sIx (ts.map V.int).length 0 lo)).take (HT.sIx (ts.map V.int).length (ts.map V.int).length hi-HT.sIx (ts.map V.int).length 0 lo),?_,?_,fun v hv=>List.mem_of_mem_drop (List.mem_of_mem_take hv)⟩
 ·unfold AY;rw [List.map_take,List.map_drop]
 ·rw [List.length_take,List.length_drop];lia
theorem IM {xs:List V} {lo hi:Option Int} (z:HT.sIx xs.length 0 lo=0/\HT.sIx xs.length xs.length hi=xs.length):AY xs lo hi=xs:=by
 unfold AY;rw [z.1,z.2,List.drop_zero];exact List.take_of_length_le (by lia)
def GT (t:List Int):Prop:=t.length<=900/\∀ v∈t,Bd 200 v
/-- rows of ints,made one by one -/
def DQ (H0 H:Hp) (rs:List Addr) (ts:List (List Int)):Prop:=AE H0 H/\Paired (fun r t=>H r=some (.lst (t.map V.int))/\H0 r=none/\GT t) rs ts
theorem Dl {α β:Type} {R R':α->β->Prop} (f:∀ a b,R a b->R' a b):∀ {rs:List α} {ts:List β},Paired R rs ts->Paired R' rs ts
 | _,_,.nil=>.nil
 | _,_,.cons h t=>.cons (f _ _ h) (Dl f t)
theorem DQ.same {H0 H H':Hp} {rs:List Addr} {ts:List (List Int)} (h:DQ H0 H rs ts) (s:AE H H'):DQ H0 H' rs ts:=⟨h.1.trans s,Dl (fun _ _ z=>⟨s _ _ z.1,z.2⟩) h.2⟩
theorem DQ.add {H0 H:Hp} {rs:List Addr} {ts:List (List Int)} {r:Addr} {xs:List V} {t:List Int} (h:DQ H0 H rs ts) (e:H r=some (.lst xs)) (n:H0 r=none) (ex:xs=t.map V.int) (p:GT t):DQ H0 H (rs++[r]) (ts++[t]):=⟨h.1,Paired.snoc h.2 ⟨by rw [e,ex],n,p⟩⟩
def Bg (H0 H:Hp) (rs:List Addr) (as:List Q2):Prop:=AE H0 H/\Paired (fun r a=>H r=some (.tup [.int a.1,.int a.2])/\H0 r=none/\Bd 200 a.1/\Bd 200 a.2) rs as
theorem Bg.nil (H:Hp):Bg H H [] []:=⟨AE.refl _,.nil⟩
theorem Bg.same {H0 H H':Hp} {rs:List Addr} {as:List Q2} (h:Bg H0 H rs as) (s:AE H H'):Bg H0 H' rs as:=⟨h.1.trans s,Dl (fun _ _ z=>⟨s _ _ z.1,z.2⟩) h.2⟩
theorem Bg.snoc {H0 H:Hp} {rs:List Addr} {as:List Q2} {p:Addr} {x y:Int} (h:Bg H0 H rs as) (hp:H p=none) (bx:Bd 200 x) (bY:Bd 200 y):Bg H0 (AC H p (.tup [.int x,.int y])) (rs++[p]) (as++[(x,y)]) :=
 have z:=h.same (sN hp (.tup [.int x,.int y]))
 ⟨z.1,Paired.snoc z.2 ⟨uS,h.1.free hp,bx,bY⟩⟩
theorem Bg.lst {H0 H:Hp} {rs:List Addr} {as:List Q2} {D:Addr} {xs:List V} (h:Bg H0 H rs as) (hD:H D=none) (e:rs.map V.ref=xs) (l:rs.length=8):∃ rm am,Bg H0 (AC H D (.lst xs)) rm am/\(AC H D (.lst xs)) D=some (.lst (rm.map V.ref))/\rm.length=8:=by
 subst e;exact ⟨rs,as,h.same (sN hD _),uS,l⟩
/-- deeds as they are handed,all of them new -/
def BA (K:zP) (H0 H:Hp) (us:List Addr) (qs:List Req):Prop:=AE H0 H/\Paired (fun r q=>∃ wv,H r=some (.tup [.str (Req.word q),wv])/\BU K H wv q/\∀ t,wv = .ref t->H0 t=none/\∃ o,H t=some o) us qs
theorem BA.same {K:zP} {H0 H H':Hp} {us:List Addr} {qs:List Req} (h:BA K H0 H us qs) (s:AE H H'):BA K H0 H' us qs :=
 ⟨h.1.trans s,Dl (fun _ _ ⟨wv,a,b,c⟩=>⟨wv,s _ _ a,b.same s,fun t e=>⟨(c t e).1,by obtain ⟨o,z⟩:=(c t e).2;exact ⟨o,s _ _ z⟩⟩⟩) h.2⟩
theorem BA.app {K:zP} {H0 H:Hp} {us vs:List Addr} {qs ps:List Req} (h:BA K H0 H us qs) (k:BA K H0 H vs ps):BA K H0 H (us++vs) (qs++ps):=by
 refine ⟨h.1,?_⟩;have:=k.2;obtain ⟨_,h⟩:=h
 induction h with
 | nil=>exact this
 | cons h _ ih=>exact .cons h ih
theorem BA.mount {K:zP} {H0 H:Hp}:∀ {rs us:List Addr} {ts:List (List Int)},DQ H0 H rs ts->Paired (fun p s=>H p=some (.tup [.str "mount",.ref s])) us rs->BA K H0 H us (ts.map Req.mount)
 | _,_,_,⟨s,.nil⟩,.nil=>⟨s,.nil⟩
 | _,_,_,⟨s,.cons h t⟩,.cons p ps=>⟨s,.cons ⟨_,p,⟨_,rfl,.inl h.1,by have:=h.2.2.1;lia,h.2.2.2⟩,fun t e=>by cases e;exact ⟨h.2.1,_,h.1⟩⟩ (BA.mount ⟨s,t⟩ ps).2⟩
theorem BA.amt {K:zP} {H0 H:Hp} {wd:Str} {g:Int->Int->Req} (hw:∀ x y,Req.word (g x y)=wd) (hg:∀ (t:Addr) (x y:Int),H t=some (.tup [.int x,.int y])->Bd 200 x->Bd 200 y->BU K H (.ref t) (g x y)):∀ {rs us:List Addr} {as:List Q2},Bg H0 H rs as->Paired (fun p s=>H p=some (.tup [.str wd,.ref s])) us rs->BA K H0 H us (as.map fun a=>g a.1 a.2)
 | _,_,_,⟨s,.nil⟩,.nil=>⟨s,.nil⟩
 | _,_,_,⟨s,.cons h t⟩,.cons p ps=>⟨s,.cons ⟨_,by rw [hw];exact p,hg _ _ _ h.1 h.2.2.1 h.2.2.2,fun t e=>by cases e;exact ⟨h.2.1,_,h.1⟩⟩ (BA.amt hw hg ⟨s,t⟩ ps).2⟩
theorem BA.bare {K:zP} {H0 H:Hp} {r:Addr} {q:Req} (s:AE H0 H) (e:H r=some (.tup [.str (Req.word q),.non])) (h:BU K H .non q):BA K H0 H [r] [q]:=⟨s,.cons ⟨_,e,h,fun _ z=>nomatch z⟩ .nil⟩
def Ev:List Int->Prop|[]=>True|v::t=>Bd 200 v/\Ev t
theorem Ev.all:∀ {t:List Int},Ev t->∀ v∈t,Bd 200 v
 | _::_,⟨h,_⟩,_,.head _=>h
 | _::_,⟨_,t⟩,_,.tail _ z=>Ev.all t _ z
theorem EM {t:List Int} (h:t.length<=900) (a:Ev t):GT t:=⟨h,a.all⟩
def E9 (G:Hp):List (Addr × HO)->Prop|[]=>True|(a,o)::t=>G a=some o/\E9 G t
theorem E9.same {G G':Hp} (s:AE G G'):∀ {E:List (Addr × HO)},E9 G E->E9 G' E
 | [],_=>trivial
 | _::_,⟨h,t⟩=>⟨s _ _ h,E9.same s t⟩
structure BD (K:zP) (H G:Hp) (W:Addr) (ws:List V) (rs:List Addr) (ts:List (List Int)) (E:List (Addr × HO)):Prop where
 A:DQ H G rs ts
 W:BB K G W ws
 e:E9 G E
section
variable {K:zP} {H G G':Hp} {W:Addr} {ws:List V} {rs:List Addr} {ts:List (List Int)} {E:List (Addr × HO)}
theorem BD.same (C:BD K H G W ws rs ts E) (s:AE G G'):BD K H G' W ws rs ts E:=⟨C.A.same s,s.any C.W,C.e.same s⟩
theorem BD.step (C:BD K H G W ws rs ts E) {p:Addr} (h:G p=none) (o:HO) (e:AC G p o=G'):BD K H G' W ws rs ts ((p,o)::E):=by
 subst e;exact ⟨C.A.same (sN h o),(sN h o).any C.W,uS,C.e.same (sN h o)⟩
theorem BD.row {p:Addr} {xs:List V} (C:BD K H G W ws rs ts ((p,.lst xs)::E)) (n:H p=none) {t:List Int} (ex:xs=t.map V.int) (b:GT t):BD K H G W ws (rs++[p]) (ts++[t]) E:=⟨C.A.add C.e.1 n ex b,C.W,C.e.2⟩
theorem BD.drop {x:Addr × HO} (C:BD K H G W ws rs ts (x::E)):BD K H G W ws rs ts E:=⟨C.A,C.W,by obtain ⟨a,o⟩:=x;exact C.e.2⟩
theorem BD.keep1 {x y:Addr × HO} (C:BD K H G W ws rs ts (x::y::E)):BD K H G W ws rs ts (x::E):=by
 obtain ⟨a,o⟩:=x;obtain ⟨b,u⟩:=y;exact ⟨C.A,C.W,C.e.1,C.e.2.2⟩
theorem BD.free (C:BD K H G W ws rs ts E) {p:Addr} (h:G p=none):H p=none:=C.A.1.free h
/-- a list of what is walked,cut at the Cm: whichever it is,a new list -/
theorem BD.put {L:Addr} {o:HO} (C:BD K H G W ws rs ts E) (s:AE G G') (e:G' L=some o):BD K H G' W ws rs ts ((L,o)::E):=⟨C.A.same s,s.any C.W,e,C.e.same s⟩
end
def ZD (K:zP):Sp:=fun vs H Q _=>∃ (c:Int) (W:Addr) (ws:List Int),vs=[.int c,.ref W]/\BB K H W (ws.map V.int)/\Bs ws/\2<=ws.length/\ws.length<=12 /\
 ∀ (D:Addr) (H':Hp) (us:List Addr) (qs:List Req),BA K H H' us qs->H' D=some (.lst (us.map V.ref))->H D=none->us.length<=100->Q (.ref D) H'
theorem Qb (T:Txt K mg):zH P w K mg base "_law_faulty" ["_law_cell","_law_wheels"] 2 (ZD K):=by
 refine Ad T.Tj CG (fun vs H Q E h=>?_) (fun f cdv A outer s H vs Q E hr h=>?_)
 ·obtain ⟨c,W,ws,rfl,_⟩:=h
  rfl
 obtain ⟨c,W,ws,rfl,hW,S,h2,h12,q⟩:=h;refine ⟨_,(@pK _ _ _ _ _ (@qK _ _ 2 _ _ _ _ CG.nd rfl (Or.inl rfl) (@zA _ _ _ _ (pA (@qD _ _ _ _ _ _ _ Cf (pv 1) (qC qT (pv 0) (qJ qL (by rfl) T.At PySem.boot_len (pA (pv 1) pI))) (fun _ _=>rfl)) (pA (@qD _ _ _ _ _ _ _ Cf (pv 1) (qC qT (qC BP (pv 0) pZ) (qJ qL (by rfl) T.At PySem.boot_len (pA (pv 1) pI))) (fun _ _=>rfl)) pI))) (by rfl) (by trivial))
 (@pK _ _ _ _ _ (@qK _ _ 3 _ _ _ _ CG.nd rfl (Or.inl rfl) (qC BP pZ (qC qT (qC qX (pv 0) pZ) pZ)) (by rfl) (by trivial))
 (@pK _ _ _ _ _ (GB PassesOwn.never (qQ Gw (pv 3) (pv 1) (by with_unfolding_all rfl))
 (@pO _ _ _ (@qK _ _ 3 _ _ _ _ CG.nd rfl (Or.inl rfl) (qC BP pZ (qC qT (qC C5 (pv 3) pZ) pZ)) (by rfl) (by trivial))))
 Au))),?_⟩
 have sm:∀ {i:Int},-1000000<=i->i<=1000000->Bd 200 i:=fun h1 h2=>Bd.of60 (by lia) (by lia)
 have bW:∀ v∈ws,Bd 200 v:=fun v hv=>S.bd v hv;have hl:(ws.map V.int).length=ws.length:=List.length_map _;have pick:∀ {i:Int},0<=i->i<ws.length->∃ v:Int,A1 (ws.map V.int) i=some (.int v)/\v∈ws:=fun {i} z0 z1=>by
  obtain ⟨v,hv,e⟩:=IE (xs:=ws.map V.int) z0 (by rw [hl];exact z1)
  obtain ⟨y,hy,rfl⟩:=List.mem_map.mp hv;exact ⟨y,e,hy⟩
 have lp:(0:Int)<(((ws.map V.int).length:Nat):Int):=by rw [hl];lia
 obtain ⟨w0,ew0,mw0⟩:=pick (i:=c%(((ws.map V.int).length:Nat):Int)) (Int.emod_nonneg _ (by lia)) (by have:=Int.emod_lt_of_pos c lp;rw [hl] at this;rw [hl];lia)
 obtain ⟨w1,ew1,mw1⟩:=pick (i:=(c+1)%(((ws.map V.int).length:Nat):Int)) (Int.emod_nonneg _ (by lia)) (by have:=Int.emod_lt_of_pos (c+1) lp;rw [hl] at this;rw [hl];lia)
 refine ⟨_,rfl,_,rfl,_,rfl,W,_,rfl,hW,_,_,rfl,rfl,lp,W,_,_,_,rfl,rfl,hW,ew0,_,rfl,_,rfl,_,_,rfl,rfl,_,rfl,W,_,rfl,hW,_,_,rfl,rfl,lp,W,_,_,_,rfl,rfl,hW,ew1,(by exact My.AL),fun Lt hLt=>?_⟩
 have C:BD K H (AC H Lt (.lst [.int w0,.int w1])) W (ws.map V.int) [] [] [(Lt,.lst [.int w0,.int w1])]:=⟨⟨sN hLt _,.nil⟩,(sN hLt _).any hW,uS,trivial⟩;clear ew0 ew1 hW;generalize AC H Lt _=H1 at C ⊢;refine ⟨_,rfl,_,_,rfl,rfl,⟨by decide,by unfold Bd;decide⟩,_,_,rfl,rfl,(by show (0:Int)<118;decide),_,_,rfl,rfl,?_⟩
 obtain ⟨j,hj,nj⟩:=Ic 118 ws (by lia)
 refine (fun (key0:∀ spare:Int,10<=spare->spare<=127->(?G0:Int->Prop) spare)=>?main0) ?keyp0
 case main0 =>
  refine ⟨fun m σ2 H2=>∃ (x:Int),σ2=[some (.int c),some (.ref W),some (.ref Lt),some (.int x),none,none,none,none,none,none,none]/\H1=H2/\10<=x/\x<=127/\m=((10+(j:Int)-x)%118).toNat,
   ⟨_,_,rfl,rfl,by lia,by lia,rfl⟩,?_⟩
  rintro m σ2 H2 ⟨x,rfl,rfl,x0,x1,rfl⟩
  refine ⟨_,rfl,_,rfl,W,_,rfl,C.W,rfl,Gd ws,_,rfl,?_⟩;dsimp only;rw [if_neg Bool.false_ne_true,Gm];refine BW (fun hin=>?_) (fun hin=>?_)
  ·have hne:x≠10+(j:Int):=fun e=>nj (e ▸ hin)
   refine ⟨fun σ3 H3=>∃ (y:Int),σ3=[some (.int c),some (.ref W),some (.ref Lt),some (.int y),none,none,none,none,none,none,none]/\H1=H3/\10<=y/\y<=127/\((10+(j:Int)-y)%118).toNat<((10+(j:Int)-x)%118).toNat,?_,?_⟩
   ·rintro σ3 H3 ⟨y,rfl,rfl,y0,y1,y2⟩
    exact ⟨_,y2,y,rfl,rfl,y0,y1,rfl⟩
   ·exact ⟨_,rfl,_,_,rfl,rfl,_,_,rfl,rfl,(by show (0:Int)<118;decide),_,_,rfl,rfl,_,rfl,rfl,by lia,by lia,by lia⟩
  ·exact key0 x x0 x1
 case keyp0 =>
 intro spare sp0 sp1;obtain ⟨gv,hg,eg⟩:=IE (xs:=[V.int 9,V.int 128,V.int (-40),V.int spare]) (i:=c / 12%4) (by lia) (by show c / 12%4<4;lia)
 obtain ⟨sg,rfl,bs⟩:∃ y:Int,gv = .int y/\Bd 200 y:=by
  simp only [List.mem_cons,List.not_mem_nil,or_false] at hg;rcases hg with rfl|rfl|rfl|rfl <;> exact ⟨_,rfl,sm (by lia) (by lia)⟩
 refine ⟨_,(@pK _ _ _ _ _ (@qK _ _ 4 _ _ _ _ CG.nd rfl (Or.inl rfl) (@qD _ _ _ _ _ _ _ qY (@zA _ _ _ _ (@A8 _ _ _ _ _ _ _ pZ (@A8 _ _ _ _ _ _ _ pZ (pA (Dn Ds pZ) (pA (pv 3) pI))))) (qC qT (qC qX (pv 0) pZ) pZ) (fun _ _=>rfl)) (by rfl) (by trivial))
 (@pK _ _ _ _ _ (@qK _ _ 5 _ _ _ _ CG.nd rfl (Or.inl rfl) (qC qT (qC qX (pv 0) pZ) pZ) (by rfl) (by trivial))
 Au)),?_⟩
 refine ⟨_,rfl,_,rfl,(by exact My.CH),fun L4 hL4=>?_⟩
 generalize hG:AC H1 L4 _=H2;have C:=C.step hL4 (.lst [.int 9,.int 128,.int (-40),.int spare]) hG;clear hG;clear hL4;refine ⟨_,rfl,_,_,rfl,rfl,⟨by decide,by unfold Bd;decide⟩,_,_,rfl,rfl,(by show (0:Int)<4;decide),L4,_,_,_,rfl,rfl,AF.of C.e.1,eg,?_⟩
 have C:=C.drop;clear hg eg;refine ⟨_,rfl,_,_,rfl,rfl,⟨by decide,by unfold Bd;decide⟩,_,_,rfl,rfl,(by show (0:Int)<3;decide),?_⟩
 refine ⟨_,(@pK _ _ _ _ _ (@qK _ _ 6 _ _ _ _ CG.nd rfl (Or.inl rfl) (@zA _ _ _ _ A2) (by rfl) (by trivial))
 Au),?_⟩
 dsimp only;generalize c / 48%3=place;have b0:=bW _ mw0;have b1:=bW _ mw1;have b2:∀ v∈[w0,w1],Bd 200 v:=Ev.all ⟨b0,b1,trivial⟩;obtain ⟨u1,eu1,lu1,mu1⟩:=FK [w0,w1] none (some place);have eu1:AY [V.int w0,V.int w1] none (some place)=List.map V.int u1:=eu1;obtain ⟨u2,eu2,lu2,mu2⟩:=FK [w0,w1] (some place) none;have eu2:AY [V.int w0,V.int w1] (some place) none=List.map V.int u2:=eu2;refine ⟨_,(pA (qC Ci (qC Ci (Eh GJ (pv 2) Ej (Ek (pv 5))) (@zA _ _ _ _ (pA (pv 4) pI))) (Eh GJ (pv 2) (Ek (pv 5)) Ej)) A2),_,rfl,_,rfl,_,rfl,Lt,_,rfl,AF.of C.e.1,fun p1 hp1=>?_⟩;generalize hG:AC H2 p1 _=G1;have C:=C.step hp1 (.lst (AY [V.int w0,V.int w1] none (some place))) hG;clear hG;clear hp1;refine ⟨_,rfl,(by exact My.Hg),fun p2 hp2=>?_⟩
 generalize hG:AC G1 p2 _=G2;have C:=C.step hp2 (.lst [.int sg]) hG;clear hG;clear hp2;refine ⟨p1,p2,_,_,rfl,rfl,C.e.2.1,C.e.1,(by rw [eu1,List.length_map];exact Bb (by have:=lu1;simp at this;lia)),fun p3 hp3=>?_⟩
 generalize hG:AC G2 p3 _=G3;have C:=C.step hp3 (.lst (AY [V.int w0,V.int w1] none (some place)++[.int sg])) hG;clear hG;clear hp3;have C:=C.keep1.keep1;refine ⟨_,rfl,_,rfl,_,rfl,Lt,_,rfl,AF.of C.e.2.1,fun p4 hp4=>?_⟩;generalize hG:AC G3 p4 _=G4;have C:=C.step hp4 (.lst (AY [V.int w0,V.int w1] (some place) none)) hG;clear hG;clear hp4;refine ⟨p3,p4,_,_,rfl,rfl,C.e.2.1,C.e.1,(by rw [eu1,eu2,List.length_append,List.length_map,List.length_map];show u1.length+1+u2.length<=sizeLine;have z1:u1.length<=2:=lu1;have z2:u2.length<=2:=lu2;exact Nat.le_of_lt (Bb (by lia))),fun p5 hp5=>?_⟩
 have np5:=C.free hp5;generalize hG:AC G4 p5 _=G5;have C:=C.step hp5 (.lst ((AY [V.int w0,V.int w1] none (some place)++[.int sg])++AY [V.int w0,V.int w1] (some place) none)) hG;clear hG;clear hp5;have C:=C.keep1.keep1.row np5 (t:=u1++[sg]++u2) (by rw [eu1,eu2,List.map_append,List.map_append];rfl) (⟨by have z1:u1.length<=2:=lu1;have z2:u2.length<=2:=lu2;rw [List.length_append,List.length_append,List.length_singleton];lia,fun v hv=>by
   rcases List.mem_append.mp hv with hv|hv
   ·rcases List.mem_append.mp hv with hv|hv
    ·exact b2 v (mu1 v hv)
    ·rw [List.mem_singleton.mp hv];exact bs
   ·exact b2 v (mu2 v hv)⟩)
 clear eu1 lu1 mu1 eu2 lu2 mu2;refine ⟨_,(pA (@zA _ _ _ _ (pA (pv 4) (pA (pv 4) pI))) A2),_,rfl,_,rfl,(by exact My.AL),fun q1 hq1=>?_⟩
 have nq1:=C.free hq1;generalize hG:AC G5 q1 _=G6;have C:=C.step hq1 (.lst [.int sg,.int sg]) hG;clear hG;clear hq1;have C:=C.row nq1 (t:=[sg,sg]) rfl (EM (Nat.le_of_ble_eq_true rfl) ⟨bs,bs,trivial⟩);clear nq1;refine ⟨_,(pA (@zA _ _ _ _ (pA (@qD _ _ _ _ _ _ _ qY (pv 2) pZ (fun _ _=>rfl)) (pA (@qD _ _ _ _ _ _ _ qY (pv 2) pZ (fun _ _=>rfl)) pI))) A2),_,rfl,Lt,_,_,_,rfl,rfl,AF.of C.e.1,rfl,_,rfl,Lt,_,_,_,rfl,rfl,AF.of C.e.1,rfl,(by exact My.AL),fun q2 hq2=>?_⟩
 have nq2:=C.free hq2;generalize hG:AC G6 q2 _=G7;have C:=C.step hq2 (.lst [.int w0,.int w0]) hG;clear hG;clear hq2;have C:=C.row nq2 (t:=[w0,w0]) rfl (EM (Nat.le_of_ble_eq_true rfl) ⟨b0,b0,trivial⟩);clear nq2;refine ⟨_,(pA (@zA _ _ _ _ pI) A2),(by exact My.Co),fun q3 hq3=>?_⟩
 have nq3:=C.free hq3;generalize hG:AC G7 q3 _=G8;have C:=C.step hq3 (.lst []) hG;clear hG;clear hq3;have C:=C.row nq3 (t:=[]) rfl (EM (Nat.le_of_ble_eq_true rfl) trivial);clear nq3;obtain ⟨u3,eu3,lu3,mu3⟩:=FK [w0,w1] none (some 1);have eu3:AY [V.int w0,V.int w1] none (some 1)=List.map V.int u3:=eu3;refine ⟨_,(pA (Eh GJ (pv 2) Ej (Ek pZ)) pI),_,rfl,_,rfl,Lt,_,rfl,AF.of C.e.1,fun q4 hq4=>?_⟩;have nq4:=C.free hq4;generalize hG:AC G8 q4 _=G9;have C:=C.step hq4 (.lst (AY [V.int w0,V.int w1] none (some 1))) hG;clear hG;clear hq4;have C:=C.row nq4 (t:=u3) eu3 (⟨by have:=lu3;simp at this;lia,fun v hv=>b2 v (mu3 v hv)⟩)
 clear nq4 eu3 lu3 mu3;refine ⟨(by exact My.Jy),fun R1 hR1=>?_⟩
 generalize hG:AC G9 R1 _=G10;have C:=C.step hR1 (.lst [.ref p5,.ref q1,.ref q2,.ref q3,.ref q4]) hG;clear hG;clear hR1;obtain ⟨ra,ta,hra,C1⟩:∃ ra ta,([V.ref p5,V.ref q1,V.ref q2,V.ref q3,V.ref q4]:List V)=List.map V.ref ra/\BD K H G10 W (ws.map V.int) ra ta [(R1,.lst [.ref p5,.ref q1,.ref q2,.ref q3,.ref q4]),(Lt,.lst [.int w0,.int w1])]/\ra.length=5:=⟨_,_,rfl,C,rfl⟩;obtain ⟨C,la⟩:=C1;rw [hra] at C;clear hra;refine ⟨_,(@pK _ _ _ _ _ (@qK _ _ 6 _ _ _ _ CG.nd rfl (Or.inl rfl) (qC Ci (pv 6) (@zA _ _ _ _ A2)) (by rfl) (by trivial))
 Au),?_⟩
 refine ⟨_,rfl,?_⟩;refine ⟨_,(pA (@zA _ _ _ _ (pA (@qD _ _ _ _ _ _ _ qY (pv 2) pZ (fun _ _=>rfl)) (pA (pv 4) pI))) A2),_,rfl,Lt,_,_,_,rfl,rfl,AF.of C.e.2.1,rfl,_,rfl,(by exact My.AL),fun x1 hx1=>?_⟩
 have nx1:=C.free hx1;generalize hG:AC G10 x1 _=G11;have C:=C.step hx1 (.lst [.int w0,.int sg]) hG;clear hG;clear hx1;have C:=C.row nx1 (t:=[w0,sg]) rfl (EM (Nat.le_of_ble_eq_true rfl) ⟨b0,bs,trivial⟩);clear nx1;refine ⟨_,(pA (@zA _ _ _ _ (pA (pv 4) (pA (@qD _ _ _ _ _ _ _ qY (pv 2) pZ (fun _ _=>rfl)) pI))) A2),_,rfl,_,rfl,Lt,_,_,_,rfl,rfl,AF.of C.e.2.1,rfl,(by exact My.AL),fun x2 hx2=>?_⟩
 have nx2:=C.free hx2;generalize hG:AC G11 x2 _=G12;have C:=C.step hx2 (.lst [.int sg,.int w1]) hG;clear hG;clear hx2;have C:=C.row nx2 (t:=[sg,w1]) rfl (EM (Nat.le_of_ble_eq_true rfl) ⟨bs,b1,trivial⟩);clear nx2;refine ⟨_,(pA (qC Ci (pv 2) (pv 2)) A2),_,rfl,_,rfl,Lt,Lt,_,_,rfl,rfl,C.e.2.1,C.e.2.1,(by exact My.CH),fun x3 hx3=>?_⟩
 have nx3:=C.free hx3;generalize hG:AC G12 x3 _=G13;have C:=C.step hx3 (.lst ([V.int w0,V.int w1]++[V.int w0,V.int w1])) hG;clear hG;clear hx3;have C:=C.row nx3 (t:=[w0,w1,w0,w1]) rfl (EM (Nat.le_of_ble_eq_true rfl) ⟨b0,b1,b0,b1,trivial⟩);clear nx3;refine ⟨_,(pA (zG FG (by rfl) T.DF PyProof.Rows.boot_list (pA (Eh Jm (pv 1) Ej (Ek pZ)) pI)) A2),?_⟩
 refine (fun (keyx4:∀ (x4:Addr) (Hd:Hp),(AE G13 Hd/\G13 x4=none/\Hd x4=some (.lst (AY (ws.map V.int) none (some 3))))->(?Gx4:Addr->Hp->Prop) x4 Hd)=>?mainx4) ?keypx4
 case mainx4 =>
  rcases C.W with hW|hW
  ·refine ⟨_,rfl,_,rfl,W,_,rfl,.inl ⟨hW,fun a hp=>⟨a,_,rfl,.inl (AF.of uS),fun L hL=>?_⟩⟩⟩
   have z1:=sN hp (.lst (AY (ws.map V.int) none (some 3)));have z2:=z1.trans (sN hL (.lst (AY (ws.map V.int) none (some 3))));have nL:=z1.free hL;have eL:AC (AC G13 a (.lst (AY (ws.map V.int) none (some 3)))) L (.lst (AY (ws.map V.int) none (some 3))) L=_:=uS;generalize AC (AC G13 a (.lst (AY (ws.map V.int) none (some 3)))) L (.lst (AY (ws.map V.int) none (some 3)))=Hd at z2 eL ⊢;exact keyx4 L Hd ⟨z2,nL,eL⟩
  ·refine ⟨_,rfl,_,rfl,W,_,rfl,.inr ⟨hW,fun _ a hp=>⟨a,_,rfl,.inr (AH.of uS),fun L hL=>?_⟩,fun z=>⟨W,_,rfl,.inr hW,fun L hL=>?_⟩⟩⟩
   ·have z1:=sN hp (.tup (AY (ws.map V.int) none (some 3)))
    have z2:=z1.trans (sN hL (.lst (AY (ws.map V.int) none (some 3))));have nL:=z1.free hL;have eL:AC (AC G13 a (.tup (AY (ws.map V.int) none (some 3)))) L (.lst (AY (ws.map V.int) none (some 3))) L=_:=uS;generalize AC (AC G13 a (.tup (AY (ws.map V.int) none (some 3)))) L (.lst (AY (ws.map V.int) none (some 3)))=Hd at z2 eL ⊢;exact keyx4 L Hd ⟨z2,nL,eL⟩
   ·have z2:=sN hL (.lst (ws.map V.int))
    have eL:AC G13 L (.lst (ws.map V.int)) L=some (.lst (AY (ws.map V.int) none (some 3))):=by rw [IM z];exact uS
    generalize AC G13 L _=Hd at z2 eL ⊢;exact keyx4 L Hd ⟨z2,hL,eL⟩
 case keypx4 =>
  rintro x4 G14 ⟨sx4,nx4,ex4⟩
  have nx4:=C.free nx4;have C:=C.put sx4 ex4;obtain ⟨ux4,eux4,lux4,mux4⟩:=FK ws none (some 3);have C:=C.row nx4 (t:=ux4) eux4 ⟨by lia,fun v hv=>bW v (mux4 v hv)⟩
  clear sx4 nx4 ex4 eux4 lux4 mux4;refine ⟨_,(pA (zG FG (by rfl) T.DF PyProof.Rows.boot_list (pA (Eh Jm (pv 1) Ej (Ek pZ)) pI)) pI),?_⟩
  refine (fun (keyx5:∀ (x5:Addr) (Hd:Hp),(AE G14 Hd/\G14 x5=none/\Hd x5=some (.lst (AY (ws.map V.int) none (some 5))))->(?Gx5:Addr->Hp->Prop) x5 Hd)=>?mainx5) ?keypx5
  case mainx5 =>
   rcases C.W with hW|hW
   ·refine ⟨_,rfl,_,rfl,W,_,rfl,.inl ⟨hW,fun a hp=>⟨a,_,rfl,.inl (AF.of uS),fun L hL=>?_⟩⟩⟩
    have z1:=sN hp (.lst (AY (ws.map V.int) none (some 5)));have z2:=z1.trans (sN hL (.lst (AY (ws.map V.int) none (some 5))));have nL:=z1.free hL;have eL:AC (AC G14 a (.lst (AY (ws.map V.int) none (some 5)))) L (.lst (AY (ws.map V.int) none (some 5))) L=_:=uS;generalize AC (AC G14 a (.lst (AY (ws.map V.int) none (some 5)))) L (.lst (AY (ws.map V.int) none (some 5)))=Hd at z2 eL ⊢;exact keyx5 L Hd ⟨z2,nL,eL⟩
   ·refine ⟨_,rfl,_,rfl,W,_,rfl,.inr ⟨hW,fun _ a hp=>⟨a,_,rfl,.inr (AH.of uS),fun L hL=>?_⟩,fun z=>⟨W,_,rfl,.inr hW,fun L hL=>?_⟩⟩⟩
    ·have z1:=sN hp (.tup (AY (ws.map V.int) none (some 5)))
     have z2:=z1.trans (sN hL (.lst (AY (ws.map V.int) none (some 5))));have nL:=z1.free hL;have eL:AC (AC G14 a (.tup (AY (ws.map V.int) none (some 5)))) L (.lst (AY (ws.map V.int) none (some 5))) L=_:=uS;generalize AC (AC G14 a (.tup (AY (ws.map V.int) none (some 5)))) L (.lst (AY (ws.map V.int) none (some 5)))=Hd at z2 eL ⊢;exact keyx5 L Hd ⟨z2,nL,eL⟩
    ·have z2:=sN hL (.lst (ws.map V.int))
     have eL:AC G14 L (.lst (ws.map V.int)) L=some (.lst (AY (ws.map V.int) none (some 5))):=by rw [IM z];exact uS
     generalize AC G14 L _=Hd at z2 eL ⊢;exact keyx5 L Hd ⟨z2,hL,eL⟩
  case keypx5 =>
   rintro x5 G15 ⟨sx5,nx5,ex5⟩
   have nx5:=C.free nx5;have C:=C.put sx5 ex5;obtain ⟨ux5,eux5,lux5,mux5⟩:=FK ws none (some 5);have C:=C.row nx5 (t:=ux5) eux5 ⟨by lia,fun v hv=>bW v (mux5 v hv)⟩
   clear sx5 nx5 ex5 eux5 lux5 mux5;refine ⟨(by exact My.Jy),fun R2 hR2=>?_⟩
   generalize hG:AC G15 R2 _=G16;have C:=C.step hR2 (.lst [.ref x1,.ref x2,.ref x3,.ref x4,.ref x5]) hG;clear hG;clear hR2;refine ⟨R1,R2,_,_,rfl,rfl,C.e.2.1,C.e.1,(by rw [List.length_map,la];show 10<=sizeLine;decide),fun R3 hR3=>?_⟩
   generalize hG:AC G16 R3 _=G17;have C:=C.step hR3 (.lst (List.map V.ref ra++[V.ref x1,V.ref x2,V.ref x3,V.ref x4,V.ref x5])) hG;clear hG;clear hR3;have C:=C.keep1.keep1;obtain ⟨rb,tb,hrb,C,lb⟩:∃ rb tb,(List.map V.ref ra++[V.ref x1,V.ref x2,V.ref x3,V.ref x4,V.ref x5]:List V)=List.map V.ref rb/\BD K H G17 W (ws.map V.int) rb tb [(R3,.lst (List.map V.ref ra++[V.ref x1,V.ref x2,V.ref x3,V.ref x4,V.ref x5])),(Lt,.lst [.int w0,.int w1])]/\rb.length=10:=⟨_,_,(by simp only [List.map_append,List.append_assoc,List.map_cons,List.map_nil,List.cons_append,List.nil_append]),C,(by simp [la])⟩
   rw [hrb] at C;clear hrb la;refine ⟨_,(@pK _ _ _ _ _ (@qK _ _ 6 _ _ _ _ CG.nd rfl (Or.inl rfl) (qC Ci (pv 6) (@zA _ _ _ _ A2)) (by rfl) (by trivial))
 Au),?_⟩
   refine ⟨_,rfl,?_⟩;refine ⟨_,(pA (qC Ci (qC Ci (pv 2) (pv 2)) (@zA _ _ _ _ (pA (pv 4) pI))) A2),_,rfl,_,rfl,Lt,Lt,_,_,rfl,rfl,C.e.2.1,C.e.2.1,(by exact My.CH),fun y1 hy1=>?_⟩
   generalize hG:AC G17 y1 _=G18;have C:=C.step hy1 (.lst ([V.int w0,V.int w1]++[V.int w0,V.int w1])) hG;clear hG;clear hy1;refine ⟨_,rfl,(by exact My.Hg),fun y2 hy2=>?_⟩
   generalize hG:AC G18 y2 _=G19;have C:=C.step hy2 (.lst [.int sg]) hG;clear hG;clear hy2;refine ⟨y1,y2,_,_,rfl,rfl,C.e.2.1,C.e.1,(by exact My.Jy),fun y3 hy3=>?_⟩
   have ny3:=C.free hy3;generalize hG:AC G19 y3 _=G20;have C:=C.step hy3 (.lst ([V.int w0,V.int w1]++[V.int w0,V.int w1]++[.int sg])) hG;clear hG;clear hy3;have C:=C.keep1.keep1.row ny3 (t:=[w0,w1,w0,w1,sg]) rfl (EM (Nat.le_of_ble_eq_true rfl) ⟨b0,b1,b0,b1,bs,trivial⟩);clear ny3;refine ⟨_,(pA (@zA _ _ _ _ (pA (@qD _ _ _ _ _ _ _ qY (pv 2) pZ (fun _ _=>rfl)) (pA (@qD _ _ _ _ _ _ _ qY (pv 2) pZ (fun _ _=>rfl)) (pA (@qD _ _ _ _ _ _ _ qY (pv 2) pZ (fun _ _=>rfl)) (pA (pv 4) pI))))) A2),_,rfl,Lt,_,_,_,rfl,rfl,AF.of C.e.2.1,rfl,_,rfl,Lt,_,_,_,rfl,rfl,AF.of C.e.2.1,rfl,_,rfl,Lt,_,_,_,rfl,rfl,AF.of C.e.2.1,rfl,_,rfl,(by exact My.CH),fun y4 hy4=>?_⟩
   have ny4:=C.free hy4;generalize hG:AC G20 y4 _=G21;have C:=C.step hy4 (.lst [.int w0,.int w1,.int w0,.int sg]) hG;clear hG;clear hy4;have C:=C.row ny4 (t:=[w0,w1,w0,sg]) rfl (EM (Nat.le_of_ble_eq_true rfl) ⟨b0,b1,b0,bs,trivial⟩);clear ny4;refine ⟨_,(pA (zG FG (by rfl) T.DF PyProof.Rows.boot_list (pA (Eh Jm (pv 1) Ej (Ek pZ)) pI)) pI),?_⟩
   refine (fun (keyy5:∀ (y5:Addr) (Hd:Hp),(AE G21 Hd/\G21 y5=none/\Hd y5=some (.lst (AY (ws.map V.int) none (some 6))))->(?Gy5:Addr->Hp->Prop) y5 Hd)=>?mainy5) ?keypy5
   case mainy5 =>
    rcases C.W with hW|hW
    ·refine ⟨_,rfl,_,rfl,W,_,rfl,.inl ⟨hW,fun a hp=>⟨a,_,rfl,.inl (AF.of uS),fun L hL=>?_⟩⟩⟩
     have z1:=sN hp (.lst (AY (ws.map V.int) none (some 6)));have z2:=z1.trans (sN hL (.lst (AY (ws.map V.int) none (some 6))));have nL:=z1.free hL;have eL:AC (AC G21 a (.lst (AY (ws.map V.int) none (some 6)))) L (.lst (AY (ws.map V.int) none (some 6))) L=_:=uS;generalize AC (AC G21 a (.lst (AY (ws.map V.int) none (some 6)))) L (.lst (AY (ws.map V.int) none (some 6)))=Hd at z2 eL ⊢;exact keyy5 L Hd ⟨z2,nL,eL⟩
    ·refine ⟨_,rfl,_,rfl,W,_,rfl,.inr ⟨hW,fun _ a hp=>⟨a,_,rfl,.inr (AH.of uS),fun L hL=>?_⟩,fun z=>⟨W,_,rfl,.inr hW,fun L hL=>?_⟩⟩⟩
     ·have z1:=sN hp (.tup (AY (ws.map V.int) none (some 6)))
      have z2:=z1.trans (sN hL (.lst (AY (ws.map V.int) none (some 6))));have nL:=z1.free hL;have eL:AC (AC G21 a (.tup (AY (ws.map V.int) none (some 6)))) L (.lst (AY (ws.map V.int) none (some 6))) L=_:=uS;generalize AC (AC G21 a (.tup (AY (ws.map V.int) none (some 6)))) L (.lst (AY (ws.map V.int) none (some 6)))=Hd at z2 eL ⊢;exact keyy5 L Hd ⟨z2,nL,eL⟩
     ·have z2:=sN hL (.lst (ws.map V.int))
      have eL:AC G21 L (.lst (ws.map V.int)) L=some (.lst (AY (ws.map V.int) none (some 6))):=by rw [IM z];exact uS
      generalize AC G21 L _=Hd at z2 eL ⊢;exact keyy5 L Hd ⟨z2,hL,eL⟩
   case keypy5 =>
    rintro y5 G22 ⟨sy5,ny5,ey5⟩
    have ny5:=C.free ny5;have C:=C.put sy5 ey5;obtain ⟨uy5,euy5,luy5,muy5⟩:=FK ws none (some 6);have C:=C.row ny5 (t:=uy5) euy5 ⟨by lia,fun v hv=>bW v (muy5 v hv)⟩
    clear sy5 ny5 ey5 euy5 luy5 muy5;refine ⟨(by exact My.EO),fun R4 hR4=>?_⟩
    generalize hG:AC G22 R4 _=G23;have C:=C.step hR4 (.lst [.ref y3,.ref y4,.ref y5]) hG;clear hG;clear hR4;refine ⟨R3,R4,_,_,rfl,rfl,C.e.2.1,C.e.1,(by rw [List.length_map,lb];show 13<=sizeLine;decide),fun R5 hR5=>?_⟩
    generalize hG:AC G23 R5 _=G24;have C:=C.step hR5 (.lst (List.map V.ref rb++[V.ref y3,V.ref y4,V.ref y5])) hG;clear hG;clear hR5;have A:=C.A;have eR5:=C.e.1;clear C;obtain ⟨rc,tc,hrc,A,lc⟩:∃ rc tc,(List.map V.ref rb++[V.ref y3,V.ref y4,V.ref y5]:List V)=List.map V.ref rc/\DQ H G24 rc tc/\rc.length=13:=⟨_,_,(by simp only [List.map_append,List.append_assoc,List.map_cons,List.map_nil,List.cons_append,List.nil_append]),A,(by simp [lb])⟩
    rw [hrc] at eR5;clear hrc;obtain ⟨bv,hb,eb⟩:=IE (xs:=[V.int 0,V.int (-1),V.int 1001,V.int (-1000)]) (i:=c / 144%4) (by lia) (by show c / 144%4<4;lia)
    obtain ⟨bo,rfl,bbo⟩:∃ y:Int,bv = .int y/\Bd 200 y:=by
     simp only [List.mem_cons,List.not_mem_nil,or_false] at hb;rcases hb with rfl|rfl|rfl|rfl <;> exact ⟨_,rfl,sm (by decide) (by decide)⟩
    refine ⟨_,(@pK _ _ _ _ _ (@qK _ _ 7 _ _ _ _ CG.nd rfl (Or.inl rfl) (@qD _ _ _ _ _ _ _ qY (@zA _ _ _ _ (@A8 _ _ _ _ _ _ _ pZ (pA (Dn Ds pZ) (@A8 _ _ _ _ _ _ _ pZ (pA (Dn Ds pZ) pI))))) (qC qT (qC qX (pv 0) pZ) pZ) (fun _ _=>rfl)) (by rfl) (by trivial))
 Au),?_⟩
    refine ⟨_,rfl,_,rfl,(by exact My.CH),fun L7 hL7=>?_⟩
    have s7:=sN hL7 (.lst [.int 0,.int (-1),.int 1001,.int (-1000)]);refine ⟨_,rfl,_,_,rfl,rfl,⟨by decide,by unfold Bd;decide⟩,_,_,rfl,rfl,(by show (0:Int)<4;decide),L7,_,_,_,rfl,rfl,AF.of uS,eb,?_⟩
    have A:=A.same s7;have eR5:=s7 _ _ eR5;generalize AC G24 L7 _=Q0 at A eR5 ⊢;clear s7 hL7 hb eb;refine ⟨_,(@pK _ _ _ _ _ (@qK _ _ 8 _ _ _ _ CG.nd rfl (Or.inl rfl) (@zA _ _ _ _ A2) (by rfl) (by trivial))
 Au),?_⟩
    have AMfree:AE H Q0:=A.1;have M0:=Bg.nil Q0;refine ⟨_,(@C6 _ _ _ _ _ _ _ (@zB _ _ _ _ _ (@A8 _ _ _ _ _ _ _ pZ (pA (pv 7) pI))) A2),_,rfl,(by exact My.AL),fun t0 ht0=>?_⟩
    have M1:=M0.snoc (x:=1) (y:=bo) ht0 (sm (by decide) (by decide)) (bbo)
    have A:=A.same (sN ht0 (.tup [.int 1,.int bo]));have eR5:=sN ht0 (.tup [.int 1,.int bo]) _ _ eR5;generalize AC Q0 t0 _=Q1 at M1 A eR5 ⊢;clear M0 ht0;refine ⟨_,(@C6 _ _ _ _ _ _ _ (@zB _ _ _ _ _ (@A8 _ _ _ _ _ _ _ pZ (pA (pv 7) pI))) A2),_,rfl,(by exact My.AL),fun t1 ht1=>?_⟩
    have M2:=M1.snoc (x:=0) (y:=bo) ht1 (sm (by decide) (by decide)) (bbo)
    have A:=A.same (sN ht1 (.tup [.int 0,.int bo]));have eR5:=sN ht1 (.tup [.int 0,.int bo]) _ _ eR5;generalize AC Q1 t1 _=Q2 at M2 A eR5 ⊢;clear M1 ht1;refine ⟨_,(@C6 _ _ _ _ _ _ _ (@zB _ _ _ _ _ (pA (Dn Ds pZ) (@A8 _ _ _ _ _ _ _ pZ pI))) A2),_,rfl,(by exact My.AL),fun t2 ht2=>?_⟩
    have M3:=M2.snoc (x:=-1) (y:=2) ht2 (sm (by decide) (by decide)) (sm (by decide) (by decide))
    have A:=A.same (sN ht2 (.tup [.int (-1),.int 2]));have eR5:=sN ht2 (.tup [.int (-1),.int 2]) _ _ eR5;generalize AC Q2 t2 _=Q3 at M3 A eR5 ⊢;clear M2 ht2;refine ⟨_,(@C6 _ _ _ _ _ _ _ (@zB _ _ _ _ _ (@A8 _ _ _ _ _ _ _ pZ (@A8 _ _ _ _ _ _ _ pZ pI))) A2),(by exact My.AL),fun t3 ht3=>?_⟩
    have M4:=M3.snoc (x:=0) (y:=5) ht3 (sm (by decide) (by decide)) (sm (by decide) (by decide))
    have A:=A.same (sN ht3 (.tup [.int 0,.int 5]));have eR5:=sN ht3 (.tup [.int 0,.int 5]) _ _ eR5;generalize AC Q3 t3 _=Q4 at M4 A eR5 ⊢;clear M3 ht3;refine ⟨_,(@C6 _ _ _ _ _ _ _ (@zB _ _ _ _ _ (@A8 _ _ _ _ _ _ _ pZ (@A8 _ _ _ _ _ _ _ pZ pI))) A2),(by exact My.AL),fun t4 ht4=>?_⟩
    have M5:=M4.snoc (x:=100001) (y:=1) ht4 (sm (by decide) (by decide)) (sm (by decide) (by decide))
    have A:=A.same (sN ht4 (.tup [.int 100001,.int 1]));have eR5:=sN ht4 (.tup [.int 100001,.int 1]) _ _ eR5;generalize AC Q4 t4 _=Q5 at M5 A eR5 ⊢;clear M4 ht4;refine ⟨_,(@C6 _ _ _ _ _ _ _ (@zB _ _ _ _ _ (pA (Dn Ds pZ) (@A8 _ _ _ _ _ _ _ pZ pI))) A2),_,rfl,(by exact My.AL),fun t5 ht5=>?_⟩
    have M6:=M5.snoc (x:=-100001) (y:=1) ht5 (sm (by decide) (by decide)) (sm (by decide) (by decide))
    have A:=A.same (sN ht5 (.tup [.int (-100001),.int 1]));have eR5:=sN ht5 (.tup [.int (-100001),.int 1]) _ _ eR5;generalize AC Q5 t5 _=Q6 at M6 A eR5 ⊢;clear M5 ht5;refine ⟨_,(@C6 _ _ _ _ _ _ _ (@zB _ _ _ _ _ (pA (qC WW pZ pZ) (@A8 _ _ _ _ _ _ _ pZ pI))) A2),_,_,rfl,rfl,⟨by decide,by decide,by decide⟩,(by exact My.AL),fun t6 ht6=>?_⟩
    have M7:=M6.snoc (x:=10 ^ Int.toNat 60) (y:=7) ht6 (Bd.of60 (by decide) (Int.le_refl _)) (sm (by decide) (by decide))
    have A:=A.same (sN ht6 (.tup [.int (10 ^ Int.toNat 60),.int 7]));have eR5:=sN ht6 (.tup [.int (10 ^ Int.toNat 60),.int 7]) _ _ eR5;generalize AC Q6 t6 _=Q7 at M7 A eR5 ⊢;clear M6 ht6;refine ⟨_,(@C6 _ _ _ _ _ _ _ (@zB _ _ _ _ _ (@A8 _ _ _ _ _ _ _ pZ (@A8 _ _ _ _ _ _ _ pZ pI))) pI),(by exact My.AL),fun t7 ht7=>?_⟩
    have M8:=M7.snoc (x:=1) (y:=2) ht7 (sm (by decide) (by decide)) (sm (by decide) (by decide))
    have A:=A.same (sN ht7 (.tup [.int 1,.int 2]));have eR5:=sN ht7 (.tup [.int 1,.int 2]) _ _ eR5;generalize AC Q7 t7 _=Q8 at M8 A eR5 ⊢;clear M7 ht7;refine ⟨(by exact My.ce),fun Lm hLm=>?_⟩
    have TM:=M8.lst hLm (by rfl:_=[V.ref t0,V.ref t1,V.ref t2,V.ref t3,V.ref t4,V.ref t5,V.ref t6,V.ref t7]) rfl
    have A:=A.same (sN hLm (.lst [.ref t0,.ref t1,.ref t2,.ref t3,.ref t4,.ref t5,.ref t6,.ref t7]));have eR5:=sN hLm (.lst [.ref t0,.ref t1,.ref t2,.ref t3,.ref t4,.ref t5,.ref t6,.ref t7]) _ _ eR5;generalize AC Q8 Lm _=Q9 at TM A eR5 ⊢;clear M8 hLm;obtain ⟨rm,am,TM,eLm,lm⟩:=TM;clear h2 h12 lp;refine ⟨_,(@pK _ _ _ _ _ (Wx (i:=9) CG.nd rfl (Or.inl rfl) (by trivial) rfl (sc:=qA HM) rfl (N:=["_law_cell","_law_wheels","_law_two","_law_spare","_law_strange","_law_place","_law_rows_here","_law_bottom","_law_amounts","_law_deeds","_law_word"]) rfl ⟨by decide +kernel,rfl,by decide +kernel,by decide +kernel,rfl,by decide +kernel,by decide +kernel,by decide +kernel⟩ (Ei (pv 6)) (fun _ _ _ _ _ _=>(@zB _ _ _ _ _ (@A8 _ _ _ _ _ _ _ pS (pA (pv 0) pI)))) (by intro _;rfl) (by rfl))
 Au),?_⟩
    refine ⟨_,rfl,R5,rfl,⟨_,AF.of eR5⟩,?_⟩;intro D hD;have u0:=sN hD (.lst []);refine Kc (K:=K) (a:=R5) (xs:=rc.map V.ref) (tt:=fun _ H Q=>Q true H) (σ:=[some (.int c),some (.ref W),some (.ref Lt),some (.int spare),some (.int sg),some (.int place),some (.ref R5),some (.int bo),some (.ref Lm),none,none]) (fun i H5 ys=>∃ us:List Addr,ys=us.map V.ref/\us.length=i/\Paired (fun p s=>H5 p=some (.tup [.str "mount",.ref s])) us (rc.take i)/\AE Q9 H5/\H5 D=some (.lst ys)) ⟨[],rfl,rfl,.nil,u0,uS⟩ (fun i H5 ys ⟨_,_,_,_,s5,hd⟩=>⟨AF.of (s5 _ _ eR5),hd⟩) ?_ ?_
    ·rintro i x H5 ys kk hk hx ⟨us,rfl,lu,pp,s5,hd⟩
     rw [List.getElem?_map] at hx;obtain ⟨s,hs,rfl⟩:=Option.map_eq_some_iff.mp hx;have il:i<rc.length:=(List.getElem?_eq_some_iff.mp hs).1;refine Ab ⟨_,rfl,(by exact My.AL),fun p hp=>⟨sN hp (.tup [.str "mount",.ref s]) _ _ hd,(by rw [List.length_map];exact Bb (by lia)),hk _ _ ⟨us++[p],(by rw [List.map_append];rfl),(by rw [List.length_append,lu];rfl),?_,fun b o e=>?_,uS⟩⟩⟩
     ·rw [List.take_add_one,hs]
      have np:p≠D:=fun z=>by rw [z,hd] at hp;cases hp
      refine Paired.snoc (Dl (fun q r z=>?_) pp) ((uN np).trans uS);have nq:q≠D:=fun y=>by rw [y,hd] at z;cases z
      exact (uN nq).trans (sN hp _ _ _ z)
     ·rw [uN (nQ e hD)]
      exact sN hp _ _ _ (s5 b o e)
    ·rintro H5 ys ⟨us,rfl,lu,pp,s5,hd5⟩
     rw [List.length_map] at lu pp;rw [List.take_length] at pp;have dv:=BA.mount (A.same s5) pp (K:=K);have MM:=TM.same s5;have eLm:=s5 _ _ eLm;have nD:H D=none:=A.1.free hD;clear A TM eR5 pp;refine ⟨_,(@pK _ _ _ _ _ (CQ PassesOwn.never rfl (Ei (@zA _ _ _ _ (@A8 _ _ _ _ _ _ _ pS (@A8 _ _ _ _ _ _ _ pS (@A8 _ _ _ _ _ _ _ pS pI))))) (BY (i:=10) CG.nd rfl (Or.inr rfl))
 (@pO _ _ _ (@qK _ _ 9 _ _ _ _ CG.nd rfl (Or.inl rfl) (qC Ci (pv 9) (HB rfl (sc:=qA HM) rfl (N:=["_law_cell","_law_wheels","_law_two","_law_spare","_law_strange","_law_place","_law_rows_here","_law_bottom","_law_amounts","_law_deeds","_law_word"]) rfl ⟨by decide +kernel,rfl,by decide +kernel,by decide +kernel,rfl,by decide +kernel,by decide +kernel,by decide +kernel⟩ (Ei (pv 8)) (fun _ _ _ _ _ _=>(@zB _ _ _ _ _ (pA (pv 11) (pA (pv 0) pI)))))) (by rfl) (by trivial))))
 (@pO _ _ _ (@pR _ _ _ _ (qC Ci (pv 9) (@zA _ _ _ _ (@C6 _ _ _ _ _ _ _ (@zB _ _ _ _ _ (@A8 _ _ _ _ _ _ _ pS (@A8 _ _ _ _ _ _ _ BC pI))) (@C6 _ _ _ _ _ _ _ (@zB _ _ _ _ _ (@A8 _ _ _ _ _ _ _ pS (@A8 _ _ _ _ _ _ _ BC pI))) (@C6 _ _ _ _ _ _ _ (@zB _ _ _ _ _ (@A8 _ _ _ _ _ _ _ pS (@A8 _ _ _ _ _ _ _ BC pI))) pI)))))))),?_⟩
     refine ⟨(by exact My.EO),fun Lw hLw=>?_⟩
     have s6:=sN hLw (.lst [.str "turn",.str "move",.str "cut"]);have AM:Bg Q0 _ rm am:=MM.same s6;refine ⟨Lw,rfl,⟨_,AF.of uS⟩,Gf (K:=K) (a:=Lw) (xs:=[V.str "turn",V.str "move",V.str "cut"]) (fun i σ H'=>∃ (Dd:Addr) (us:List Addr) (qs:List Req) (v:Option V),σ=[some (.int c),some (.ref W),some (.ref Lt),some (.int spare),some (.int sg),some (.int place),some (.ref R5),some (.int bo),some (.ref Lm),some (.ref Dd),v]/\BA K H H' us qs/\H' Dd=some (.lst (us.map V.ref))/\H Dd=none/\us.length<=13+8*i/\Bg Q0 H' rm am/\H' Lm=some (.lst (rm.map V.ref))/\H' Lw=some (.lst [V.str "turn",V.str "move",V.str "cut"]))
      ⟨D,us,_,none,rfl,dv.same s6,s6 _ _ hd5,nD,by lia,AM,s6 _ _ eLm,uS⟩ (fun i σ H' _ ⟨_,_,_,_,_,_,_,_,_,_,_,e⟩=>AF.of e) ?_ ?_⟩
     ·clear dv MM eLm AM hd5 lu us
      rintro i x σ Hc hx ⟨Dd,us,qs,v,rfl,dv,eD,nDd,lu,AM,eLm,eLw⟩
      obtain ⟨g,wd,rfl,hw,hg⟩:∃ (g:Int->Int->Req) (wd:Str),x = .str wd/\(∀ x y,Req.word (g x y)=wd)/\∀ (Hz:Hp) (t:Addr) (x y:Int),Hz t=some (.tup [.int x,.int y])->Bd 200 x->Bd 200 y->BU K Hz (.ref t) (g x y):=by
       have mx:=List.mem_of_getElem? hx;simp only [List.mem_cons,List.not_mem_nil,or_false] at mx;rcases mx with rfl|rfl|rfl
       ·exact ⟨Req.turn,_,rfl,fun _ _=>rfl,fun _ t _ _ h b1 b2=>⟨t,rfl,.inl h,b1,b2⟩⟩
       ·exact ⟨Req.move,_,rfl,fun _ _=>rfl,fun _ t _ _ h b1 b2=>⟨t,rfl,.inl h,b1,b2⟩⟩
       ·exact ⟨Req.cut,_,rfl,fun _ _=>rfl,fun _ t _ _ h b1 b2=>⟨t,rfl,.inl h,b1,b2⟩⟩
      have i3:i<3:=(List.getElem?_eq_some_iff.mp hx).1;refine ⟨_,rfl,_,rfl,Lm,rfl,⟨_,AF.of eLm⟩,?_⟩;intro E hE;have v0:=sN hE (.lst []);refine Kc (K:=K) (a:=Lm) (xs:=rm.map V.ref) (tt:=fun _ H Q=>Q true H) (σ:=[some (.int c),some (.ref W),some (.ref Lt),some (.int spare),some (.int sg),some (.int place),some (.ref R5),some (.int bo),some (.ref Lm),some (.ref Dd),some (.str wd)]) (fun i H5 ys=>∃ vs:List Addr,ys=vs.map V.ref/\vs.length=i/\Paired (fun p s=>H5 p=some (.tup [.str wd,.ref s])) vs (rm.take i)/\AE Hc H5/\H5 E=some (.lst ys)) ⟨[],rfl,rfl,.nil,v0,uS⟩ (fun i H5 ys ⟨_,_,_,_,s5,hd⟩=>⟨AF.of (s5 _ _ eLm),hd⟩) ?_ ?_
      ·rintro j x H5 ys kk hk hx ⟨vs,rfl,lv,pp,s5,hd⟩
       rw [List.getElem?_map] at hx;obtain ⟨s,hs,rfl⟩:=Option.map_eq_some_iff.mp hx;have il:j<rm.length:=(List.getElem?_eq_some_iff.mp hs).1;refine Ab ⟨_,rfl,_,rfl,(by exact My.AL),fun p hp=>⟨sN hp (.tup [.str wd,.ref s]) _ _ hd,(by rw [List.length_map];exact Bb (by lia)),hk _ _ ⟨vs++[p],(by rw [List.map_append];rfl),(by rw [List.length_append,lv];rfl),?_,fun b o e=>?_,uS⟩⟩⟩
       ·rw [List.take_add_one,hs]
        have np:p≠E:=fun z=>by rw [z,hd] at hp;cases hp
        refine Paired.snoc (Dl (fun q r z=>?_) pp) ((uN np).trans uS);have nq:q≠E:=fun y=>by rw [y,hd] at z;cases z
        exact (uN nq).trans (sN hp _ _ _ z)
       ·rw [uN (nQ e hE)]
        exact sN hp _ _ _ (s5 b o e)
      ·rintro H5 ys ⟨vs,rfl,lv,pp,s5,hd5⟩
       rw [List.length_map] at lv pp;rw [List.take_length] at pp;have AM5:=AM.same s5;have AMH:Bg H H5 rm am:=⟨dv.1.trans s5,Dl (fun _ _ z=>⟨z.1,AMfree.free z.2.1,z.2.2⟩) AM5.2⟩;have dv2:=BA.amt (K:=K) hw (hg H5) AMH pp;have dv1:=dv.same s5;refine ⟨Dd,E,_,_,rfl,rfl,s5 _ _ eD,hd5,(by rw [List.length_map,List.length_map];exact Nat.le_of_lt (Bb (by lia))),fun D2 hD2=>?_⟩
       have s7:=sN hD2 (.lst (us.map V.ref++vs.map V.ref));exact ⟨D2,us++vs,_,_,rfl,(dv1.app dv2).same s7,by rw [uS,List.map_append],dv1.1.free hD2,by rw [List.length_append];lia,AM5.same s7,s7 _ _ (s5 _ _ eLm),s7 _ _ (s5 _ _ eLw)⟩
     ·clear dv MM eLm AM hd5 lu us
      rintro σ Hc ⟨Dd,us,qs,v,rfl,dv,eD,nDd,lu,_,_,_⟩
      have lu:us.length<=37:=lu;refine ⟨_,rfl,(by exact My.AL),fun a1 h1=>?_⟩
      have d1:=dv.same (sN h1 (.tup [.str "wait",.non]));have D1:=sN h1 (.tup [.str "wait",.non]) _ _ eD;have b1:=BA.bare (K:=K) (q:=.wait) d1.1 uS rfl;generalize AC Hc a1 _=X1 at d1 D1 b1 ⊢;refine ⟨(by exact My.AL),fun a2 h2=>?_⟩
      have d2:=(d1.app b1).same (sN h2 (.tup [.str "close",.non]));have D2:=sN h2 (.tup [.str "close",.non]) _ _ D1;have b2:=BA.bare (K:=K) (q:=.close) d2.1 uS rfl;generalize AC X1 a2 _=X2 at d2 D2 b2 ⊢;refine ⟨(by exact My.AL),fun a3 h3=>?_⟩
      have d3:=(d2.app b2).same (sN h3 (.tup [.str "open",.non]));have D3:=sN h3 (.tup [.str "open",.non]) _ _ D2;have b3:=BA.bare (K:=K) (q:=.opn) d3.1 uS rfl;generalize AC X2 a3 _=X3 at d3 D3 b3 ⊢;refine ⟨(by exact My.EO),fun La hLa=>?_⟩
      have d4:=(d3.app b3).same (sN hLa (.lst [.ref a1,.ref a2,.ref a3]));have D4:=sN hLa (.lst [.ref a1,.ref a2,.ref a3]) _ _ D3;have e4:AC X3 La (.lst [.ref a1,.ref a2,.ref a3]) La=_:=uS;generalize AC X3 La _=X4 at d4 D4 e4 ⊢;refine ⟨Dd,La,_,_,rfl,rfl,D4,e4,(by rw [List.length_map];exact Nat.le_of_lt (Bb (by show us.length+3<=1000;lia))),fun Dz hDz=>?_⟩
      have d5:=d4.same (sN hDz (.lst (us.map V.ref++[.ref a1,.ref a2,.ref a3])));refine q Dz _ _ _ d5 (by rw [uS];simp only [List.map_append,List.append_assoc,List.map_cons,List.map_nil,List.cons_append,List.nil_append]) (d4.1.free hDz) (by simp only [List.length_append,List.length_singleton];lia)

def Yw (K:zP):Sp:=fun vs H Q _=>∃ (s:Addr) (p:PS) (q:Req) (wv:V) (N:Addr->Prop),vs=[.ref s,.str (Req.word q),wv]/\Al K N H s p/\BU K H wv q/\((∀ ts,q≠.mount ts)->∃ ts,Pc p ts)/\∀ H',AE H H'->Q (.bl (Req.bad p q)) H'
theorem QX (T:Txt K mg):zH P w K mg base "_law_bad" ["_law_s","_law_word","_law_what"] 5 (Yw K):=by
 refine Ad T.Tc Xx (fun vs H Q E h=>?_) (fun f cdv A outer s H vs Q E hr h=>?_)
 ·obtain ⟨s,p,q,wv,N,rfl,_⟩:=h
  rfl
 obtain ⟨s,p,rq,wv,N,rfl,S0,hv,hP,q⟩:=h;refine ⟨_,(@pK _ _ _ _ _ (qM (qQ zF (pv 1) pS (Ax _))
 (@pO _ _ _ (@pR _ _ _ _ (Wj (HA Iw (qJ qL (by rfl) T.At PySem.boot_len (pA (pv 2) pI)) (@zB _ _ _ _ _ (pA pZ (pA pZ pI))) (by with_unfolding_all rfl)) (Fz (C7 (Bm (qJ KR (by rfl) T.At PySem.boot_len (pA (zG (KU rfl) (by rfl) T.O2 PyProof.Rows.boot_set (pA (pv 2) pI)) pI)) (qJ qL (by rfl) T.At PySem.boot_len (pA (pv 2) pI))))))))
 qG)
 (@pK _ _ _ _ _ (qM (qQ zF (pv 1) pS (Ax _))
 (@pO _ _ _ (@pR _ _ _ _ (pD (IW T) hr (pA (qN (qV hr) (pv 0) pS (fun _ _=>rfl)) (pA (pD (IV T) hr (pA (pv 0) pI)) pI)))))
 qG)
 (@pK _ _ _ _ _ (qM (BQ (qQ zF (pv 1) pS (Ax _)) (B3 (qQ zF (pv 1) pS (Ax _)))).pt
 (@pO _ _ _ (@pR _ _ _ _ BH))
 qG)
 (@pK _ _ _ _ _ (qM (BQ (qR (Eg (@qD _ _ _ _ _ _ _ iT (pv 2) pZ (fun _ _=>rfl)) pZ)) (BQ (qR (JA (@qD _ _ _ _ _ _ _ iT (pv 2) pZ (fun _ _=>rfl)) pZ)) (B3 (B0 (qQ zF (pv 1) pS (Ax _)) (CT (qR (Gy (@qD _ _ _ _ _ _ _ iT (pv 2) pZ (fun _ _=>rfl)) pZ)))).pt))).pt
 (@pO _ _ _ (@pR _ _ _ _ BH))
 qG)
 (@pO _ _ _ (@pR _ _ _ _ (pD (IW T) hr (pA (qN (qV hr) (pv 0) (@qD _ _ _ _ _ _ _ qY (@zA _ _ _ _ (pA pS (pA pS pI))) (zG II (by rfl) T.Hh PyProof.Rows.boot_int (pA (HA zF (pv 1) pS (Ax _)) pI)) (fun _ _=>rfl)) (fun _ _=>rfl)) (pA (pv 2) pI))))))))),?_⟩
 have S0':=S0;obtain ⟨t,pi,wk,pl,ov,cu,tu,mo,S⟩:=S0';cases rq with
 | mount ts =>
  obtain ⟨ta,rfl,ht,l1000,_⟩:=hv;have hA:BB K H ta (ts.map V.int):=ht.elim (fun h=>.inl (AF.of h)) (fun h=>.inr h.sq);refine ⟨_,rfl,rfl,_,rfl,qF rfl ?_⟩;refine ⟨_,rfl,ta,_,rfl,hA,(by exact My.AL),fun a1 ha1=>?_⟩
  have s1:=sN ha1 (.tup [.int 2,.int 4]);refine ⟨a1,_,rfl,.inr (AH.of uS),rfl,rfl,_,rfl,?_⟩;have ei:Aq (V.int (((ts.map V.int).length:Nat):Int)) [V.int 2,V.int 4]=decide (ts.length=2\/ts.length=4):=by
   rw [List.length_map];by_cases h2:ts.length=2
   ·rw [h2];rfl
   ·by_cases h4:ts.length=4
    ·rw [h4];rfl
    ·rw [decide_eq_false (by lia)]
     have n2:¬ ((ts.length:Nat):Int)=2:=by lia
     have n4:¬ ((ts.length:Nat):Int)=4:=by lia
     show (CM (V.int 2) (V.int ((ts.length:Nat):Int))||(CM (V.int 4) (V.int ((ts.length:Nat):Int))||false))=false
     have m2:¬ (2:Int)=((ts.length:Nat):Int):=by lia
     have m4:¬ (4:Int)=((ts.length:Nat):Int):=by lia
     simp [CM,m2,m4]
  have eb:Req.bad p (.mount ts)=(!(decide (ts.length=2\/ts.length=4)&&decide ts.Nodup)):=rfl;rw [eb] at q;dsimp only;rw [if_pos rfl,ei];by_cases hl:ts.length=2\/ts.length=4
  ·rw [decide_eq_true hl] at q ⊢
   refine AN ?_;refine ⟨_,rfl,ta,ts,rfl,s1.any hA,l1000,fun l2 S2 hl2=>?_⟩;have s2:=sN hl2 (.set S2 (CN ts));refine ⟨l2,S2,_,rfl,uS,_,rfl,ta,_,rfl,(s1.trans s2).any hA,_,_,rfl,rfl,?_⟩;have e:(!decide (((CN ts:Nat):Int)=(((ts.map V.int).length:Nat):Int))) = !(true&&decide ts.Nodup):=by
    rw [List.length_map,Bool.true_and];congr 1;refine decide_eq_decide.mpr ?_;have h:=LU (ns:=ts);have h2:CN ts<=ts.length:=PyProof.Rows.firstMet_length_le (fun i=>ts.getD i 0) ts.length;constructor
    ·intro z;exact Decidable.not_not.mp (fun n=>by have:=h.mpr n;lia)
    ·intro z;have:¬ CN ts<ts.length:=fun y=>h.mp y z;lia
   dsimp only;rw [e];exact q _ (s1.trans s2)
  ·rw [decide_eq_false hl] at q ⊢
   refine Ab ?_;exact q _ s1
 | wait =>
  obtain ⟨ts,P⟩:=hP (fun _ z=>nomatch z);have wN:=P.waitN;have tN:=P.turnedN;have tp:=P.t.pos;have ap:1<=p.ahead.2:=by
   unfold PS.ahead;have t1:=P.tr.pl.p1;rcases ho:p.off with _|o
   ·show (1:Int)<=1;decide
   ·have oO:=(P.o o ho).pos
    exact (BR (by rw [P.rr];exact Int.mul_ne_zero (by lia) (by lia))).pos
  refine ⟨_,rfl,rfl,_,rfl,qE (by show ¬ V.str "wait" = V.str "mount";decide +kernel) ?_⟩
  refine ⟨_,rfl,rfl,_,rfl,qF rfl ?_⟩;refine ⟨_,rfl,_,_,rfl,.inl ⟨_,.inr "turned",.inl S.ob,rfl,FZ.symm⟩,_,rfl,s,p,ts,_,rfl,S0,P,fun m5 H5 s5 fr5=>?_⟩;exact ⟨tu,m5,p.turned,p.ahead.1,p.ahead.2,rfl,S.tu'.mono s5,fr5,tN.1.mono (by decide),tN.2.mono (by decide),wN.1.1.mono (by decide),wN.1.2.mono (by decide),by lia,by lia,fun H6 s6=>q _ (s5.trans s6)⟩
 | close =>
  refine ⟨_,rfl,rfl,_,rfl,qE (by show ¬ V.str "close" = V.str "mount";decide +kernel) ?_⟩
  refine ⟨_,rfl,rfl,_,rfl,qE (by show ¬ V.str "close" = V.str "wait";decide +kernel) ?_⟩
  refine ⟨_,rfl,rfl,_,rfl,qF rfl (Ab ?_)⟩;exact q _ (AE.refl _)
 | opn =>
  refine ⟨_,rfl,rfl,_,rfl,qE (by show ¬ V.str "open" = V.str "mount";decide +kernel) ?_⟩
  refine ⟨_,rfl,rfl,_,rfl,qE (by show ¬ V.str "open" = V.str "wait";decide +kernel) ?_⟩
  refine ⟨_,rfl,rfl,_,rfl,qE (by show ¬ V.str "open" = V.str "close";decide +kernel) ?_⟩
  refine ⟨_,rfl,rfl,_,rfl,qF rfl ?_⟩;exact q _ (AE.refl _)
 | turn x y =>
  obtain ⟨ta,rfl,ht,bx,by'⟩:=hv;obtain ⟨ts,P⟩:=hP (fun _ z=>nomatch z);have tN:=P.turnedN;have tp:=P.t.pos;refine ⟨_,rfl,rfl,_,rfl,qE (by show ¬ V.str "turn" = V.str "mount";decide +kernel) ?_⟩
  refine ⟨_,rfl,rfl,_,rfl,qE (by show ¬ V.str "turn" = V.str "wait";decide +kernel) ?_⟩
  refine ⟨_,rfl,rfl,_,rfl,qE (by show ¬ V.str "turn" = V.str "close";decide +kernel) ?_⟩
  refine ⟨_,rfl,rfl,_,rfl,qE (by show ¬ V.str "turn" = V.str "open";decide +kernel) ?_⟩
  by_cases h1:y<1
  ·refine ⟨_,rfl,_,_,_,_,rfl,rfl,ht.sq,rfl,_,_,rfl,rfl,_,rfl,qF h1 (Ab ?_)⟩
   have e:Req.bad p (.turn x y)=true:=by simp [Req.bad,h1]
   rw [e] at q;exact q _ (AE.refl _)
  refine ⟨_,rfl,_,_,_,_,rfl,rfl,ht.sq,rfl,_,_,rfl,rfl,_,rfl,qE h1 ?_⟩;by_cases h2:y>1000
  ·refine ⟨_,rfl,_,_,_,_,rfl,rfl,ht.sq,rfl,_,_,rfl,rfl,_,rfl,qF h2 (Ab ?_)⟩
   have e:Req.bad p (.turn x y)=true:=by simp [Req.bad,show (1000:Int)<y from h2]
   rw [e] at q;exact q _ (AE.refl _)
  refine ⟨_,rfl,_,_,_,_,rfl,rfl,ht.sq,rfl,_,_,rfl,rfl,_,rfl,qE h2 ?_⟩;refine ⟨_,rfl,rfl,_,rfl,qE (by show ¬ V.str "turn" = V.str "cut";decide +kernel) (AN ?_)⟩
  have e:Req.bad p (.turn x y)=Ag p.turned (x,y):=by
   simp only [Req.bad];rw [decide_eq_false h1,decide_eq_false (show ¬ (1000:Int)<y from h2)];rfl
  rw [e] at q;refine ⟨_,rfl,(by exact My.AL),fun L9 hL9=>?_⟩
  have s9:=sN hL9 (.lst [V.str "turned",V.str "moved"]);refine ⟨_,rfl,rfl,.inr ⟨_,rfl,L9,_,_,.str "turned",rfl,rfl,AF.of uS,?_,_,_,rfl,.inl ⟨_,.inr "turned",.inl (S.same s9).ob,rfl,FZ.symm⟩,?_⟩⟩
  ·have ed:decide (V.str (Req.word (.turn x y))=V.str "move")=false:=by show decide (V.str "turn" = V.str "move")=false;decide +kernel
   rw [ed];rfl
  exact ⟨_,rfl,tu,ta,p.turned,x,y,rfl,S.tu'.mono s9,ht.mono s9,tN.1.mono (by decide),tN.2.mono (by decide),bx.mono (by decide),by'.mono (by decide),by lia,by lia,fun H6 s6=>q _ (s9.trans s6)⟩
 | move x y =>
  obtain ⟨ta,rfl,ht,bx,by'⟩:=hv;obtain ⟨ts,P⟩:=hP (fun _ z=>nomatch z);have tN:=P.movedN;have tp:=P.m.pos;refine ⟨_,rfl,rfl,_,rfl,qE (by show ¬ V.str "move" = V.str "mount";decide +kernel) ?_⟩
  refine ⟨_,rfl,rfl,_,rfl,qE (by show ¬ V.str "move" = V.str "wait";decide +kernel) ?_⟩
  refine ⟨_,rfl,rfl,_,rfl,qE (by show ¬ V.str "move" = V.str "close";decide +kernel) ?_⟩
  refine ⟨_,rfl,rfl,_,rfl,qE (by show ¬ V.str "move" = V.str "open";decide +kernel) ?_⟩
  by_cases h1:y<1
  ·refine ⟨_,rfl,_,_,_,_,rfl,rfl,ht.sq,rfl,_,_,rfl,rfl,_,rfl,qF h1 (Ab ?_)⟩
   have e:Req.bad p (.move x y)=true:=by simp [Req.bad,h1]
   rw [e] at q;exact q _ (AE.refl _)
  refine ⟨_,rfl,_,_,_,_,rfl,rfl,ht.sq,rfl,_,_,rfl,rfl,_,rfl,qE h1 ?_⟩;by_cases h2:y>1000
  ·refine ⟨_,rfl,_,_,_,_,rfl,rfl,ht.sq,rfl,_,_,rfl,rfl,_,rfl,qF h2 (Ab ?_)⟩
   have e:Req.bad p (.move x y)=true:=by simp [Req.bad,show (1000:Int)<y from h2]
   rw [e] at q;exact q _ (AE.refl _)
  refine ⟨_,rfl,_,_,_,_,rfl,rfl,ht.sq,rfl,_,_,rfl,rfl,_,rfl,qE h2 ?_⟩;refine ⟨_,rfl,rfl,_,rfl,qE (by show ¬ V.str "move" = V.str "cut";decide +kernel) (AN ?_)⟩
  have e:Req.bad p (.move x y)=Ag p.moved (x,y):=by
   simp only [Req.bad];rw [decide_eq_false h1,decide_eq_false (show ¬ (1000:Int)<y from h2)];rfl
  rw [e] at q;refine ⟨_,rfl,(by exact My.AL),fun L9 hL9=>?_⟩
  have s9:=sN hL9 (.lst [V.str "turned",V.str "moved"]);refine ⟨_,rfl,rfl,.inr ⟨_,rfl,L9,_,_,.str "moved",rfl,rfl,AF.of uS,?_,_,_,rfl,.inl ⟨_,.inr "moved",.inl (S.same s9).ob,rfl,JN.symm⟩,?_⟩⟩
  ·have ed:decide (V.str (Req.word (.move x y))=V.str "move")=true:=by show decide (V.str "move" = V.str "move")=true;decide +kernel
   rw [ed];rfl
  exact ⟨_,rfl,mo,ta,p.moved,x,y,rfl,S.mo'.mono s9,ht.mono s9,tN.1.mono (by decide),tN.2.mono (by decide),bx.mono (by decide),by'.mono (by decide),by lia,by lia,fun H6 s6=>q _ (s9.trans s6)⟩
 | cut x y =>
  obtain ⟨ta,rfl,ht,bx,by'⟩:=hv;obtain ⟨ts,P⟩:=hP (fun _ z=>nomatch z);have tN:=P.turnedN;have tp:=P.t.pos;refine ⟨_,rfl,rfl,_,rfl,qE (by show ¬ V.str "cut" = V.str "mount";decide +kernel) ?_⟩
  refine ⟨_,rfl,rfl,_,rfl,qE (by show ¬ V.str "cut" = V.str "wait";decide +kernel) ?_⟩
  refine ⟨_,rfl,rfl,_,rfl,qE (by show ¬ V.str "cut" = V.str "close";decide +kernel) ?_⟩
  refine ⟨_,rfl,rfl,_,rfl,qE (by show ¬ V.str "cut" = V.str "open";decide +kernel) ?_⟩
  by_cases h1:y<1
  ·refine ⟨_,rfl,_,_,_,_,rfl,rfl,ht.sq,rfl,_,_,rfl,rfl,_,rfl,qF h1 (Ab ?_)⟩
   have e:Req.bad p (.cut x y)=true:=by simp [Req.bad,h1]
   rw [e] at q;exact q _ (AE.refl _)
  refine ⟨_,rfl,_,_,_,_,rfl,rfl,ht.sq,rfl,_,_,rfl,rfl,_,rfl,qE h1 ?_⟩;by_cases h2:y>1000
  ·refine ⟨_,rfl,_,_,_,_,rfl,rfl,ht.sq,rfl,_,_,rfl,rfl,_,rfl,qF h2 (Ab ?_)⟩
   have e:Req.bad p (.cut x y)=true:=by simp [Req.bad,show (1000:Int)<y from h2]
   rw [e] at q;exact q _ (AE.refl _)
  refine ⟨_,rfl,_,_,_,_,rfl,rfl,ht.sq,rfl,_,_,rfl,rfl,_,rfl,qE h2 ?_⟩;refine ⟨_,rfl,rfl,_,rfl,qF rfl ?_⟩;by_cases h3:x<=0
  ·refine ⟨_,rfl,_,_,_,_,rfl,rfl,ht.sq,rfl,_,_,rfl,rfl,_,rfl,qF h3 ?_⟩
   have e:Req.bad p (.cut x y)=true:=by simp [Req.bad,h3]
   rw [e] at q;exact q _ (AE.refl _)
  refine ⟨_,rfl,_,_,_,_,rfl,rfl,ht.sq,rfl,_,_,rfl,rfl,_,rfl,qE h3 ?_⟩;have e:Req.bad p (.cut x y)=Ag p.turned (x,y):=by
   simp only [Req.bad];rw [decide_eq_false h1,decide_eq_false (show ¬ (1000:Int)<y from h2),decide_eq_false h3];rfl
  rw [e] at q;refine ⟨_,rfl,(by exact My.AL),fun L9 hL9=>?_⟩
  have s9:=sN hL9 (.lst [V.str "turned",V.str "moved"]);refine ⟨_,rfl,rfl,.inr ⟨_,rfl,L9,_,_,.str "turned",rfl,rfl,AF.of uS,?_,_,_,rfl,.inl ⟨_,.inr "turned",.inl (S.same s9).ob,rfl,FZ.symm⟩,?_⟩⟩
  ·have ed:decide (V.str (Req.word (.cut x y))=V.str "move")=false:=by show decide (V.str "cut" = V.str "move")=false;decide +kernel
   rw [ed];rfl
  exact ⟨_,rfl,tu,ta,p.turned,x,y,rfl,S.tu'.mono s9,ht.mono s9,tN.1.mono (by decide),tN.2.mono (by decide),bx.mono (by decide),by'.mono (by decide),by lia,by lia,fun H6 s6=>q _ (s9.trans s6)⟩

noncomputable def EY (l:LS) (q:Req):Str:=match AZ l q with
 | none=>"good"
 | some x=>x
def ZC (K:zP):Sp:=fun vs H Q _=>∃ (s:Addr) (l:LS) (q:Req) (wv:V) (W:Addr) (N:Addr->Prop),vs=[.ref s,.str (Req.word q),wv,.ref W,.int (l.book.length:Int)]/\Al K N H s l.ps/\Reach l/\BU K H wv q/\BB K H W (l.shop.map V.int)/\∀ H',AE H H'->Q (.str (EY l q)) H'
theorem K8 {ts:List Int} {f:Int->Bool} {i:Nat} {v:Int} (h:ts[i]? = some v):(ts.take (i+1)).filter f=(ts.take i).filter f++(if f v=true then [v] else []):=by
 rw [List.take_add_one,h];show List.filter f (List.take i ts++[v])=_;rw [List.filter_append];congr 1;simp only [List.filter_cons,List.filter_nil]
theorem Qa (T:Txt K mg):zH P w K mg base "_law_due" ["_law_s","_law_word","_law_what","_law_wheels","_law_many"] 6 (ZC K):=by
 refine Ad T.Ti X0 (fun vs H Q E h=>?_) (fun f cdv A outer s H vs Q E hr h=>?_)
 ·obtain ⟨s,l,q,wv,W,N,rfl,_⟩:=h
  rfl
 obtain ⟨s,l,rq,wv,W,N,rfl,S0,Re,hv,hW,q⟩:=h;refine ⟨_,(@pK _ _ _ _ _ (qM (B0 (qQ zF (pv 1) pS (Ax _)) (CT (qQ (WT (Gk hr)) (Li rfl (sc:=qA JS) rfl (N:=["_law_s","_law_word","_law_what","_law_wheels","_law_many"]) rfl ⟨by decide +kernel,rfl,by decide +kernel,by decide +kernel,rfl,by decide +kernel,by decide +kernel,by decide +kernel⟩ (JF (pv 2)) (fun _ _ _ _ _ _=>(qQ (WV (K:=K) rfl) (pv 0) (pv 4) (by with_unfolding_all rfl))) (fun _ _ _ _ _ _=>(pv 0))) (@zA _ _ _ _ pI) (Ax _)))).pt
 (@pO _ _ _ (@pR _ _ _ _ pS))
 qG)
 (@pK _ _ _ _ _ (qM (B0 (qQ Gx (pv 1) pS (Ax _)) (CT (qR (BX (qN (qV hr) (pv 0) pS (fun _ _=>rfl)))))).pt
 (@pO _ _ _ (@pR _ _ _ _ pS))
 qG)
 (@pK _ _ _ _ _ (qM (B0 (qZ (qN (qV hr) (pv 0) pS (fun _ _=>rfl))) (CT (qQ Gw (pv 1) (@zB _ _ _ _ _ (pA pS (pA pS (pA pS (pA pS pI))))) (by with_unfolding_all rfl)))).pt
 (@pO _ _ _ (@pR _ _ _ _ pS))
 qG)
 (@pK _ _ _ _ _ (qM (B0 (A5 (qZ (qN (qV hr) (pv 0) pS (fun _ _=>rfl)))) (CT (qQ Gw (pv 1) (@zB _ _ _ _ _ (pA pS (pA pS pI))) (by with_unfolding_all rfl)))).pt
 (@pO _ _ _ (@pR _ _ _ _ pS))
 qG)
 (@pK _ _ _ _ _ (qM (qZ (pD (QX T) hr (pA (pv 0) (pA (pv 1) (pA (pv 2) pI)))))
 (@pO _ _ _ (@pR _ _ _ _ pS))
 qG)
 (@pK _ _ _ _ _ (qM (B0 (qQ zF (pv 1) pS (Ax _)) (B0 (qR (EG (qN (qV hr) (pv 0) pS (fun _ _=>rfl)))) (CT (qR (Bm (@qD _ _ _ _ _ _ _ iT (qN (qV hr) (pv 0) pS (fun _ _=>rfl)) pZ (fun _ _=>rfl)) pZ))))).pt
 (@pO _ _ _ (@pR _ _ _ _ pS))
 qG)
 (@pO _ _ _ (@pR _ _ _ _ (@qD _ _ _ _ _ _ _ qY (@zA _ _ _ _ (pA pS (pA pS pI))) (zG II (by rfl) T.Hh PyProof.Rows.boot_int (pA (C7 (Iz (pv 4) pZ)) pI)) (fun _ _=>rfl)))))))))),?_⟩
 have fin:∀ (x:String) (H':Hp),AZ l rq=some x->AE H H'->Q (.str (Str.ofString x)) H':=fun x H' e s'=>by
  have h:=q H' s';unfold EY at h;rw [e] at h;exact h
 have fin0:∀ H':Hp,AZ l rq=none->AE H H'->Q (.str "good") H':=fun H' e s'=>by
  have h:=q H' s';unfold EY at h;rw [e] at h;exact h
 have endG:∀ (H1:Hp),((l.book.length<100->AZ l rq=none)/\(100<=l.book.length->AZ l rq=some "BookFull"))->AE H H1->∀ L,H1 L=none->∃ v,A1 [V.str "good",V.str "BookFull"] (if decide ((l.book.length:Int) ≥ 100)=true then 1 else 0)=some v/\Q v (AC H1 L (.lst [V.str "good",V.str "BookFull"])):=by
  intro H1 dd s1 L hL;have s2:=s1.trans (sN hL (.lst [V.str "good",V.str "BookFull"]));by_cases h:(l.book.length:Int) ≥ 100
  ·rw [decide_eq_true h]
   exact ⟨_,rfl,fin "BookFull" _ (dd.2 (by lia)) s2⟩
  ·rw [decide_eq_false h]
   exact ⟨_,rfl,fin0 _ (dd.1 (by lia)) s2⟩
 have S0':=S0;obtain ⟨t,pi,wk,pl,ov,cu,tu,mo,S⟩:=S0';cases rq with
 | mount ts =>
  obtain ⟨ta,rfl,ht,l1000,bd⟩:=id hv;have hA:BB K H ta (ts.map V.int):=ht.elim (fun h=>.inl (AF.of h)) (fun h=>.inr h.sq);refine ⟨_,rfl,rfl,_,rfl,qF rfl ?_⟩;refine ⟨ta,rfl,?_⟩;refine Pq (K:=K) (xs:=ts.map V.int) (tt:=Oj (Es (HH K true) (DP 0) (DP 4))) (te:=DP 0) (σ:=[some (.ref s),some (.str (Req.word (.mount ts))),some (.ref ta),some (.ref W),some (.int (l.book.length:Int))]) (fun D i H2 ys=>ys=((ts.take i).filter fun v=>!decide (v∈l.shop)).map V.int/\AE H H2/\H2 D=some (.lst ys)) hA (fun D hD=>⟨rfl,sN hD _,uS⟩) (fun D hD i H2 ys p=>p.2) ?hs ?hd
  case hs =>
   rintro D hD i xv H2 ys kk hk hx ⟨rfl,s2,hd2⟩
   rw [List.getElem?_map] at hx;obtain ⟨v,hv1,rfl⟩:=Option.map_eq_some_iff.mp hx;refine ⟨_,rfl,_,rfl,W,_,rfl,s2.any hW,rfl,Gd _,_,rfl,?_⟩;refine (show if (!Aq (V.int v) (l.shop.map V.int))=true then _ else _ from ?_)
   rw [Gm];by_cases c:v∈l.shop
   ·rw [decide_eq_true c]
    refine AN (hk _ _ ⟨?_,s2,hd2⟩);rw [K8 hv1,decide_eq_true c,if_neg (by decide),List.append_nil]
   ·rw [decide_eq_false c]
    refine Ab ?_;refine ⟨_,rfl,hd2,?_,hk _ _ ⟨?_,fun b o e=>by rw [uN (nQ e hD)];exact s2 b o e,uS⟩⟩
    ·rw [List.length_map]
     exact Bb (Nat.le_trans (List.length_filter_le _ _) (by rw [List.length_take];lia))
    ·rw [K8 hv1,decide_eq_false c,if_pos (by decide),List.map_append];rfl
  case hd =>
   rintro D hD H2 ys ⟨rfl,s2,hd2⟩
   rw [List.length_map,List.take_length] at hd2;refine ⟨(by exact My.Co),fun e2 he2=>?_⟩
   have s3:=s2.trans (sN he2 (.lst []));have hd3:=sN he2 (.lst []) _ _ hd2;generalize hu:(ts.filter fun v=>!decide (v∈l.shop))=us at hd3;by_cases ue:us=[]
   ·subst ue
    have kn:Req.known l (.mount ts)=true:=by
     show (ts.all fun w=>decide (w∈l.shop))=true;rw [List.all_eq_true];intro w hw;refine Decidable.byContradiction fun z=>?_;have:w∈ts.filter fun v=>!decide (v∈l.shop):=List.mem_filter.mpr ⟨hw,by simpa using z⟩
     rw [hu] at this;cases this
    refine .inl ⟨D,e2,[],[],rfl,rfl,AF.of hd3,AF.of uS,rfl,fun j a b h=>by simp at h,_,rfl,AN ?_⟩
    refine ⟨_,rfl,rfl,_,rfl,DK rfl (AN ?_)⟩;have S3:=S.same s3;by_cases hcl:l.ps.closed=true
    ·refine ⟨_,rfl,_,_,rfl,.inl ⟨_,.inr "closed",.inl S3.ob,rfl,Aw.symm⟩,_,rfl,?_⟩
     rw [hcl];refine Ab ?_;refine ⟨_,rfl,(by exact My.CH),fun t1 ht1=>?_⟩
     have s4:=s3.trans (sN ht1 (.tup [V.str "mount",V.str "wait",V.str "close",V.str "move"]));have ei:Aq (V.str "mount") [V.str "mount",V.str "wait",V.str "close",V.str "move"]=true:=by decide +kernel
     refine ⟨t1,_,rfl,.inr (AH.of uS),rfl,rfl,_,rfl,?_⟩;refine (show if Aq (V.str "mount") [V.str "mount",V.str "wait",V.str "close",V.str "move"]=true then _ else _ from ?_)
     rw [ei];refine Ab ?_;exact fin "WrongNut" _ (Cd kn rfl hcl) s4
    ·have hcl:l.ps.closed=false:=by simpa using hcl
     refine ⟨_,rfl,_,_,rfl,.inl ⟨_,.inr "closed",.inl S3.ob,rfl,Aw.symm⟩,_,rfl,?_⟩;rw [hcl];refine AN (AN ?_);refine ⟨_,rfl,_,_,rfl,.inl ⟨_,.inr "closed",.inl S3.ob,rfl,Aw.symm⟩,_,rfl,?_⟩;rw [hcl];refine Ab ?_;refine ⟨_,rfl,(by exact My.AL),fun t1 ht1=>?_⟩
     have s4:=s3.trans (sN ht1 (.tup [V.str "open",V.str "cut"]));have ei:Aq (V.str "mount") [V.str "open",V.str "cut"]=false:=by decide +kernel
     refine ⟨t1,_,rfl,.inr (AH.of uS),rfl,rfl,_,rfl,?_⟩;refine (show if Aq (V.str "mount") [V.str "open",V.str "cut"]=true then _ else _ from ?_)
     rw [ei];refine AN ?_;refine ⟨_,rfl,_,rfl,_,rfl,s,l.ps,.mount ts,.ref ta,N,rfl,S0.same s4,hv.same s4,(fun z=>absurd rfl (z ts)),fun H5 s5=>⟨_,rfl,Eb (fun b=>?_) (fun b=>?_)⟩⟩
     ·exact fin "BadNumber" _ (Bl kn rfl hcl b) (s4.trans s5)
     refine ⟨_,rfl,rfl,_,rfl,qE (by show ¬ V.str "mount" = V.str "close";decide +kernel) (AN ?_)⟩
     refine ⟨(by exact My.AL),fun L hL=>?_⟩
     obtain ⟨v,e1,e3⟩:=endG H5 (Bv kn rfl hcl b rfl) (s4.trans s5) L hL;exact ⟨_,rfl,_,_,rfl,rfl,.inr ⟨_,rfl,L,_,_,v,rfl,rfl,AF.of uS,e1,e3⟩⟩
   ·have kn:Req.known l (.mount ts)=false:=by
     show (ts.all fun w=>decide (w∈l.shop))=false;rw [List.all_eq_false];obtain ⟨w,hw⟩:=List.exists_mem_of_ne_nil _ ue;rw [← hu] at hw;obtain ⟨h1,h2⟩:=List.mem_filter.mp hw;exact ⟨w,h1,by simpa using h2⟩
    refine .inr ⟨D,e2,us.map V.int,[],rfl,rfl,AF.of hd3,AF.of uS,(by rw [List.length_map];exact fun z=>ue (List.length_eq_zero_iff.mp z)),_,rfl,Ab ?_⟩
    exact fin "UnknownWheel" _ (K2 kn) s3
 | turn x y =>
  refine ⟨_,rfl,rfl,_,rfl,qE (by show ¬ V.str "turn" = V.str "mount";decide +kernel) (AN ?_)⟩
  refine ⟨_,rfl,rfl,_,rfl,BG (fun _=>?_) (fun z=>absurd z (by show ¬ V.str "turn" = V.str "mount";decide +kernel))⟩
  have hpi:=S.pi';rcases hpn:l.ps.pitch with _|rt
  ·rw [hpn] at hpi
   cases (show pi = .non from hpi);refine ⟨_,rfl,_,_,rfl,.inl ⟨_,.inr "pitch",.inl S.ob,rfl,A9.symm⟩,_,rfl,qF rfl ?_⟩;exact fin "NoTrain" _ (Cc rfl (by show l.ps.pitch.isSome=false;rw [hpn];rfl)) (AE.refl _)
  have pn:l.ps.pitch≠none:=by rw [hpn];exact fun z=>nomatch z
  have d2:Req.has l (.turn x y)=true:=by show l.ps.pitch.isSome=true;rw [hpn];rfl
  obtain ⟨ts,P⟩:=Re.pcOf' pn;rw [hpn] at hpi;obtain ⟨pp,rfl,hpp⟩:=hpi;refine ⟨_,rfl,_,_,rfl,.inl ⟨_,.inr "pitch",.inl S.ob,rfl,A9.symm⟩,_,rfl,qE (fun z=>by cases z) ?_⟩
  refine (fun (key:∀ Hd:Hp,(AE H Hd/\Req.wrong l.ps (.turn x y)=false)->(?Gturn:Hp->Prop) Hd)=>?mainturn) ?keypturn
  case mainturn =>
   by_cases hcl:l.ps.closed=true
   ·refine ⟨_,rfl,_,_,rfl,.inl ⟨_,.inr "closed",.inl S.ob,rfl,Aw.symm⟩,_,rfl,?_⟩
    rw [hcl];refine Ab ?_;refine ⟨_,rfl,(by exact My.CH),fun t1 ht1=>?_⟩
    have s1:=sN ht1 (.tup [V.str "mount",V.str "wait",V.str "close",V.str "move"]);have ei:Aq (V.str "turn") [V.str "mount",V.str "wait",V.str "close",V.str "move"]=false:=by decide +kernel
    refine ⟨t1,_,rfl,.inr (AH.of uS),rfl,rfl,_,rfl,?_⟩;refine (show if Aq (V.str "turn") [V.str "mount",V.str "wait",V.str "close",V.str "move"]=true then _ else _ from ?_)
    rw [ei];refine AN ?_;refine ⟨_,rfl,_,_,rfl,.inl ⟨_,.inr "closed",.inl (S.same s1).ob,rfl,Aw.symm⟩,_,rfl,?_⟩;rw [hcl];refine AN (AN ?_);exact key _ ⟨s1,rfl⟩
   ·have hcl:l.ps.closed=false:=by simpa using hcl
    refine ⟨_,rfl,_,_,rfl,.inl ⟨_,.inr "closed",.inl S.ob,rfl,Aw.symm⟩,_,rfl,?_⟩;rw [hcl];refine AN (AN ?_);refine ⟨_,rfl,_,_,rfl,.inl ⟨_,.inr "closed",.inl S.ob,rfl,Aw.symm⟩,_,rfl,?_⟩;rw [hcl];refine Ab ?_;refine ⟨_,rfl,(by exact My.AL),fun t1 ht1=>?_⟩
    have s1:=sN ht1 (.tup [V.str "open",V.str "cut"]);have ei:Aq (V.str "turn") [V.str "open",V.str "cut"]=false:=by decide +kernel
    refine ⟨t1,_,rfl,.inr (AH.of uS),rfl,rfl,_,rfl,?_⟩;refine (show if Aq (V.str "turn") [V.str "open",V.str "cut"]=true then _ else _ from ?_)
    rw [ei];refine AN ?_;exact key _ ⟨s1,rfl⟩
  case keypturn =>
   rintro Hd ⟨sd,wr⟩
   have Sd:=S0.same sd;refine ⟨_,rfl,_,rfl,_,rfl,s,l.ps,.turn x y,wv,N,rfl,Sd,hv.same sd,(fun _=>⟨ts,P⟩),fun H2 s2=>⟨_,rfl,Eb (fun b=>?_) (fun b=>?_)⟩⟩
   ·exact fin "BadNumber" _ (Bl rfl d2 wr b) (sd.trans s2)
   have sA:=sd.trans s2;refine ⟨_,rfl,rfl,_,rfl,qE (by show ¬ V.str "turn" = V.str "close";decide +kernel) (AN ?_)⟩
   refine ⟨(by exact My.AL),fun L hL=>?_⟩
   obtain ⟨v,e1,e2⟩:=endG H2 (Bv rfl d2 wr b rfl) sA L hL;exact ⟨_,rfl,_,_,rfl,rfl,.inr ⟨_,rfl,L,_,_,v,rfl,rfl,AF.of uS,e1,e2⟩⟩
 | wait =>
  refine ⟨_,rfl,rfl,_,rfl,qE (by show ¬ V.str "wait" = V.str "mount";decide +kernel) (AN ?_)⟩
  refine ⟨_,rfl,rfl,_,rfl,BG (fun _=>?_) (fun z=>absurd z (by show ¬ V.str "wait" = V.str "mount";decide +kernel))⟩
  have hpi:=S.pi';rcases hpn:l.ps.pitch with _|rt
  ·rw [hpn] at hpi
   cases (show pi = .non from hpi);refine ⟨_,rfl,_,_,rfl,.inl ⟨_,.inr "pitch",.inl S.ob,rfl,A9.symm⟩,_,rfl,qF rfl ?_⟩;exact fin "NoTrain" _ (Cc rfl (by show l.ps.pitch.isSome=false;rw [hpn];rfl)) (AE.refl _)
  have pn:l.ps.pitch≠none:=by rw [hpn];exact fun z=>nomatch z
  have d2:Req.has l (.wait)=true:=by show l.ps.pitch.isSome=true;rw [hpn];rfl
  obtain ⟨ts,P⟩:=Re.pcOf' pn;rw [hpn] at hpi;obtain ⟨pp,rfl,hpp⟩:=hpi;refine ⟨_,rfl,_,_,rfl,.inl ⟨_,.inr "pitch",.inl S.ob,rfl,A9.symm⟩,_,rfl,qE (fun z=>by cases z) ?_⟩
  refine (fun (key:∀ Hd:Hp,(AE H Hd/\Req.wrong l.ps (.wait)=false)->(?Gwait:Hp->Prop) Hd)=>?mainwait) ?keypwait
  case mainwait =>
   by_cases hcl:l.ps.closed=true
   ·refine ⟨_,rfl,_,_,rfl,.inl ⟨_,.inr "closed",.inl S.ob,rfl,Aw.symm⟩,_,rfl,?_⟩
    rw [hcl];refine Ab ?_;refine ⟨_,rfl,(by exact My.CH),fun t1 ht1=>?_⟩
    have s1:=sN ht1 (.tup [V.str "mount",V.str "wait",V.str "close",V.str "move"]);have ei:Aq (V.str "wait") [V.str "mount",V.str "wait",V.str "close",V.str "move"]=true:=by decide +kernel
    refine ⟨t1,_,rfl,.inr (AH.of uS),rfl,rfl,_,rfl,?_⟩;refine (show if Aq (V.str "wait") [V.str "mount",V.str "wait",V.str "close",V.str "move"]=true then _ else _ from ?_)
    rw [ei];refine Ab ?_;exact fin "WrongNut" _ (Cd rfl d2 hcl) s1
   ·have hcl:l.ps.closed=false:=by simpa using hcl
    refine ⟨_,rfl,_,_,rfl,.inl ⟨_,.inr "closed",.inl S.ob,rfl,Aw.symm⟩,_,rfl,?_⟩;rw [hcl];refine AN (AN ?_);refine ⟨_,rfl,_,_,rfl,.inl ⟨_,.inr "closed",.inl S.ob,rfl,Aw.symm⟩,_,rfl,?_⟩;rw [hcl];refine Ab ?_;refine ⟨_,rfl,(by exact My.AL),fun t1 ht1=>?_⟩
    have s1:=sN ht1 (.tup [V.str "open",V.str "cut"]);have ei:Aq (V.str "wait") [V.str "open",V.str "cut"]=false:=by decide +kernel
    refine ⟨t1,_,rfl,.inr (AH.of uS),rfl,rfl,_,rfl,?_⟩;refine (show if Aq (V.str "wait") [V.str "open",V.str "cut"]=true then _ else _ from ?_)
    rw [ei];refine AN ?_;exact key _ ⟨s1,hcl⟩
  case keypwait =>
   rintro Hd ⟨sd,wr⟩
   have Sd:=S0.same sd;refine ⟨_,rfl,_,rfl,_,rfl,s,l.ps,.wait,wv,N,rfl,Sd,hv.same sd,(fun _=>⟨ts,P⟩),fun H2 s2=>⟨_,rfl,Eb (fun b=>?_) (fun b=>?_)⟩⟩
   ·exact fin "BadNumber" _ (Bl rfl d2 wr b) (sd.trans s2)
   have sA:=sd.trans s2;refine ⟨_,rfl,rfl,_,rfl,qE (by show ¬ V.str "wait" = V.str "close";decide +kernel) (AN ?_)⟩
   refine ⟨(by exact My.AL),fun L hL=>?_⟩
   obtain ⟨v,e1,e2⟩:=endG H2 (Bv rfl d2 wr b rfl) sA L hL;exact ⟨_,rfl,_,_,rfl,rfl,.inr ⟨_,rfl,L,_,_,v,rfl,rfl,AF.of uS,e1,e2⟩⟩
 | close =>
  refine ⟨_,rfl,rfl,_,rfl,qE (by show ¬ V.str "close" = V.str "mount";decide +kernel) (AN ?_)⟩
  refine ⟨_,rfl,rfl,_,rfl,BG (fun _=>?_) (fun z=>absurd z (by show ¬ V.str "close" = V.str "mount";decide +kernel))⟩
  have hpi:=S.pi';rcases hpn:l.ps.pitch with _|rt
  ·rw [hpn] at hpi
   cases (show pi = .non from hpi);refine ⟨_,rfl,_,_,rfl,.inl ⟨_,.inr "pitch",.inl S.ob,rfl,A9.symm⟩,_,rfl,qF rfl ?_⟩;exact fin "NoTrain" _ (Cc rfl (by show l.ps.pitch.isSome=false;rw [hpn];rfl)) (AE.refl _)
  have pn:l.ps.pitch≠none:=by rw [hpn];exact fun z=>nomatch z
  have d2:Req.has l (.close)=true:=by show l.ps.pitch.isSome=true;rw [hpn];rfl
  obtain ⟨ts,P⟩:=Re.pcOf' pn;rw [hpn] at hpi;obtain ⟨pp,rfl,hpp⟩:=hpi;refine ⟨_,rfl,_,_,rfl,.inl ⟨_,.inr "pitch",.inl S.ob,rfl,A9.symm⟩,_,rfl,qE (fun z=>by cases z) ?_⟩
  refine (fun (key:∀ Hd:Hp,(AE H Hd/\Req.wrong l.ps (.close)=false)->(?Gclose:Hp->Prop) Hd)=>?mainclose) ?keypclose
  case mainclose =>
   by_cases hcl:l.ps.closed=true
   ·refine ⟨_,rfl,_,_,rfl,.inl ⟨_,.inr "closed",.inl S.ob,rfl,Aw.symm⟩,_,rfl,?_⟩
    rw [hcl];refine Ab ?_;refine ⟨_,rfl,(by exact My.CH),fun t1 ht1=>?_⟩
    have s1:=sN ht1 (.tup [V.str "mount",V.str "wait",V.str "close",V.str "move"]);have ei:Aq (V.str "close") [V.str "mount",V.str "wait",V.str "close",V.str "move"]=true:=by decide +kernel
    refine ⟨t1,_,rfl,.inr (AH.of uS),rfl,rfl,_,rfl,?_⟩;refine (show if Aq (V.str "close") [V.str "mount",V.str "wait",V.str "close",V.str "move"]=true then _ else _ from ?_)
    rw [ei];refine Ab ?_;exact fin "WrongNut" _ (Cd rfl d2 hcl) s1
   ·have hcl:l.ps.closed=false:=by simpa using hcl
    refine ⟨_,rfl,_,_,rfl,.inl ⟨_,.inr "closed",.inl S.ob,rfl,Aw.symm⟩,_,rfl,?_⟩;rw [hcl];refine AN (AN ?_);refine ⟨_,rfl,_,_,rfl,.inl ⟨_,.inr "closed",.inl S.ob,rfl,Aw.symm⟩,_,rfl,?_⟩;rw [hcl];refine Ab ?_;refine ⟨_,rfl,(by exact My.AL),fun t1 ht1=>?_⟩
    have s1:=sN ht1 (.tup [V.str "open",V.str "cut"]);have ei:Aq (V.str "close") [V.str "open",V.str "cut"]=false:=by decide +kernel
    refine ⟨t1,_,rfl,.inr (AH.of uS),rfl,rfl,_,rfl,?_⟩;refine (show if Aq (V.str "close") [V.str "open",V.str "cut"]=true then _ else _ from ?_)
    rw [ei];refine AN ?_;exact key _ ⟨s1,hcl⟩
  case keypclose =>
   rintro Hd ⟨sd,wr⟩
   have Sd:=S0.same sd;refine ⟨_,rfl,_,rfl,_,rfl,s,l.ps,.close,wv,N,rfl,Sd,hv.same sd,(fun _=>⟨ts,P⟩),fun H2 s2=>⟨_,rfl,Eb (fun b=>?_) (fun b=>?_)⟩⟩
   ·exact fin "BadNumber" _ (Bl rfl d2 wr b) (sd.trans s2)
   have sA:=sd.trans s2;refine ⟨_,rfl,rfl,_,rfl,qF rfl ?_⟩;have SA:=S.same sA;have hof:=SA.of';have BM:Req.meets l .close=true->∀ L,H2 L=none->∃ v,A1 [V.str "good",V.str "BookFull"] (if decide ((l.book.length:Int) ≥ 100)=true then 1 else 0)=some v/\Q v (AC H2 L (.lst [V.str "good",V.str "BookFull"])):=fun me=>endG H2 (Bv rfl d2 wr b me) sA
   rcases ho:l.ps.off with _|o
   ·rw [ho] at hof
    cases (show ov = .non from hof);refine ⟨_,rfl,_,_,rfl,.inl ⟨_,.inr "off",.inl SA.ob,rfl,Ar.symm⟩,_,rfl,AN (AN ?_)⟩;refine ⟨(by exact My.AL),fun L hL=>?_⟩
    obtain ⟨v,e1,e2⟩:=BM (by show ((l.ps.off.getD (0,1)).2==1)=true;rw [ho];rfl) L hL
    exact ⟨_,rfl,_,_,rfl,rfl,.inr ⟨_,rfl,L,_,_,v,rfl,rfl,AF.of uS,e1,e2⟩⟩
   ·rw [ho] at hof
    obtain ⟨oa,rfl,hoa⟩:=hof;refine ⟨_,rfl,_,_,rfl,.inl ⟨_,.inr "off",.inl SA.ob,rfl,Ar.symm⟩,_,rfl,Ab ?_⟩;refine ⟨_,rfl,_,_,rfl,.inl ⟨_,.inr "off",.inl SA.ob,rfl,Ar.symm⟩,_,_,_,_,rfl,rfl,hoa.sq,rfl,_,_,rfl,rfl,_,rfl,BG (fun ne=>?_) (fun e=>?_)⟩
    ·exact fin "NoMeeting" _ (K3 rfl d2 wr b (by show ((l.ps.off.getD (0,1)).2==1)=false;rw [ho];exact beq_eq_false_iff_ne.mpr ne)) sA
    ·refine ⟨(by exact My.AL),fun L hL=>?_⟩
     obtain ⟨v,e1,e2⟩:=BM (by show ((l.ps.off.getD (0,1)).2==1)=true;rw [ho];exact beq_iff_eq.mpr e) L hL
     exact ⟨_,rfl,_,_,rfl,rfl,.inr ⟨_,rfl,L,_,_,v,rfl,rfl,AF.of uS,e1,e2⟩⟩
 | opn =>
  refine ⟨_,rfl,rfl,_,rfl,qE (by show ¬ V.str "open" = V.str "mount";decide +kernel) (AN ?_)⟩
  refine ⟨_,rfl,rfl,_,rfl,BG (fun _=>?_) (fun z=>absurd z (by show ¬ V.str "open" = V.str "mount";decide +kernel))⟩
  have hpi:=S.pi';rcases hpn:l.ps.pitch with _|rt
  ·rw [hpn] at hpi
   cases (show pi = .non from hpi);refine ⟨_,rfl,_,_,rfl,.inl ⟨_,.inr "pitch",.inl S.ob,rfl,A9.symm⟩,_,rfl,qF rfl ?_⟩;exact fin "NoTrain" _ (Cc rfl (by show l.ps.pitch.isSome=false;rw [hpn];rfl)) (AE.refl _)
  have pn:l.ps.pitch≠none:=by rw [hpn];exact fun z=>nomatch z
  have d2:Req.has l (.opn)=true:=by show l.ps.pitch.isSome=true;rw [hpn];rfl
  obtain ⟨ts,P⟩:=Re.pcOf' pn;rw [hpn] at hpi;obtain ⟨pp,rfl,hpp⟩:=hpi;refine ⟨_,rfl,_,_,rfl,.inl ⟨_,.inr "pitch",.inl S.ob,rfl,A9.symm⟩,_,rfl,qE (fun z=>by cases z) ?_⟩
  refine (fun (key:∀ Hd:Hp,(AE H Hd/\Req.wrong l.ps (.opn)=false)->(?Gopn:Hp->Prop) Hd)=>?mainopn) ?keypopn
  case mainopn =>
   by_cases hcl:l.ps.closed=true
   ·refine ⟨_,rfl,_,_,rfl,.inl ⟨_,.inr "closed",.inl S.ob,rfl,Aw.symm⟩,_,rfl,?_⟩
    rw [hcl];refine Ab ?_;refine ⟨_,rfl,(by exact My.CH),fun t1 ht1=>?_⟩
    have s1:=sN ht1 (.tup [V.str "mount",V.str "wait",V.str "close",V.str "move"]);have ei:Aq (V.str "open") [V.str "mount",V.str "wait",V.str "close",V.str "move"]=false:=by decide +kernel
    refine ⟨t1,_,rfl,.inr (AH.of uS),rfl,rfl,_,rfl,?_⟩;refine (show if Aq (V.str "open") [V.str "mount",V.str "wait",V.str "close",V.str "move"]=true then _ else _ from ?_)
    rw [ei];refine AN ?_;refine ⟨_,rfl,_,_,rfl,.inl ⟨_,.inr "closed",.inl (S.same s1).ob,rfl,Aw.symm⟩,_,rfl,?_⟩;rw [hcl];refine AN (AN ?_);exact key _ ⟨s1,(by show (!l.ps.closed)=false;rw [hcl];rfl)⟩
   ·have hcl:l.ps.closed=false:=by simpa using hcl
    refine ⟨_,rfl,_,_,rfl,.inl ⟨_,.inr "closed",.inl S.ob,rfl,Aw.symm⟩,_,rfl,?_⟩;rw [hcl];refine AN (AN ?_);refine ⟨_,rfl,_,_,rfl,.inl ⟨_,.inr "closed",.inl S.ob,rfl,Aw.symm⟩,_,rfl,?_⟩;rw [hcl];refine Ab ?_;refine ⟨_,rfl,(by exact My.AL),fun t1 ht1=>?_⟩
    have s1:=sN ht1 (.tup [V.str "open",V.str "cut"]);have ei:Aq (V.str "open") [V.str "open",V.str "cut"]=true:=by decide +kernel
    refine ⟨t1,_,rfl,.inr (AH.of uS),rfl,rfl,_,rfl,?_⟩;refine (show if Aq (V.str "open") [V.str "open",V.str "cut"]=true then _ else _ from ?_)
    rw [ei];refine Ab ?_;exact fin "WrongNut" _ (Cd rfl d2 (by show (!l.ps.closed)=true;rw [hcl];rfl)) s1
  case keypopn =>
   rintro Hd ⟨sd,wr⟩
   have Sd:=S0.same sd;refine ⟨_,rfl,_,rfl,_,rfl,s,l.ps,.opn,wv,N,rfl,Sd,hv.same sd,(fun _=>⟨ts,P⟩),fun H2 s2=>⟨_,rfl,Eb (fun b=>?_) (fun b=>?_)⟩⟩
   ·exact fin "BadNumber" _ (Bl rfl d2 wr b) (sd.trans s2)
   have sA:=sd.trans s2;refine ⟨_,rfl,rfl,_,rfl,qE (by show ¬ V.str "open" = V.str "close";decide +kernel) (AN ?_)⟩
   refine ⟨(by exact My.AL),fun L hL=>?_⟩
   obtain ⟨v,e1,e2⟩:=endG H2 (Bv rfl d2 wr b rfl) sA L hL;exact ⟨_,rfl,_,_,rfl,rfl,.inr ⟨_,rfl,L,_,_,v,rfl,rfl,AF.of uS,e1,e2⟩⟩
 | move x y =>
  refine ⟨_,rfl,rfl,_,rfl,qE (by show ¬ V.str "move" = V.str "mount";decide +kernel) (AN ?_)⟩
  refine ⟨_,rfl,rfl,_,rfl,BG (fun _=>?_) (fun z=>absurd z (by show ¬ V.str "move" = V.str "mount";decide +kernel))⟩
  have hpi:=S.pi';rcases hpn:l.ps.pitch with _|rt
  ·rw [hpn] at hpi
   cases (show pi = .non from hpi);refine ⟨_,rfl,_,_,rfl,.inl ⟨_,.inr "pitch",.inl S.ob,rfl,A9.symm⟩,_,rfl,qF rfl ?_⟩;exact fin "NoTrain" _ (Cc rfl (by show l.ps.pitch.isSome=false;rw [hpn];rfl)) (AE.refl _)
  have pn:l.ps.pitch≠none:=by rw [hpn];exact fun z=>nomatch z
  have d2:Req.has l (.move x y)=true:=by show l.ps.pitch.isSome=true;rw [hpn];rfl
  obtain ⟨ts,P⟩:=Re.pcOf' pn;rw [hpn] at hpi;obtain ⟨pp,rfl,hpp⟩:=hpi;refine ⟨_,rfl,_,_,rfl,.inl ⟨_,.inr "pitch",.inl S.ob,rfl,A9.symm⟩,_,rfl,qE (fun z=>by cases z) ?_⟩
  refine (fun (key:∀ Hd:Hp,(AE H Hd/\Req.wrong l.ps (.move x y)=false)->(?Gmove:Hp->Prop) Hd)=>?mainmove) ?keypmove
  case mainmove =>
   by_cases hcl:l.ps.closed=true
   ·refine ⟨_,rfl,_,_,rfl,.inl ⟨_,.inr "closed",.inl S.ob,rfl,Aw.symm⟩,_,rfl,?_⟩
    rw [hcl];refine Ab ?_;refine ⟨_,rfl,(by exact My.CH),fun t1 ht1=>?_⟩
    have s1:=sN ht1 (.tup [V.str "mount",V.str "wait",V.str "close",V.str "move"]);have ei:Aq (V.str "move") [V.str "mount",V.str "wait",V.str "close",V.str "move"]=true:=by decide +kernel
    refine ⟨t1,_,rfl,.inr (AH.of uS),rfl,rfl,_,rfl,?_⟩;refine (show if Aq (V.str "move") [V.str "mount",V.str "wait",V.str "close",V.str "move"]=true then _ else _ from ?_)
    rw [ei];refine Ab ?_;exact fin "WrongNut" _ (Cd rfl d2 hcl) s1
   ·have hcl:l.ps.closed=false:=by simpa using hcl
    refine ⟨_,rfl,_,_,rfl,.inl ⟨_,.inr "closed",.inl S.ob,rfl,Aw.symm⟩,_,rfl,?_⟩;rw [hcl];refine AN (AN ?_);refine ⟨_,rfl,_,_,rfl,.inl ⟨_,.inr "closed",.inl S.ob,rfl,Aw.symm⟩,_,rfl,?_⟩;rw [hcl];refine Ab ?_;refine ⟨_,rfl,(by exact My.AL),fun t1 ht1=>?_⟩
    have s1:=sN ht1 (.tup [V.str "open",V.str "cut"]);have ei:Aq (V.str "move") [V.str "open",V.str "cut"]=false:=by decide +kernel
    refine ⟨t1,_,rfl,.inr (AH.of uS),rfl,rfl,_,rfl,?_⟩;refine (show if Aq (V.str "move") [V.str "open",V.str "cut"]=true then _ else _ from ?_)
    rw [ei];refine AN ?_;exact key _ ⟨s1,hcl⟩
  case keypmove =>
   rintro Hd ⟨sd,wr⟩
   have Sd:=S0.same sd;refine ⟨_,rfl,_,rfl,_,rfl,s,l.ps,.move x y,wv,N,rfl,Sd,hv.same sd,(fun _=>⟨ts,P⟩),fun H2 s2=>⟨_,rfl,Eb (fun b=>?_) (fun b=>?_)⟩⟩
   ·exact fin "BadNumber" _ (Bl rfl d2 wr b) (sd.trans s2)
   have sA:=sd.trans s2;refine ⟨_,rfl,rfl,_,rfl,qE (by show ¬ V.str "move" = V.str "close";decide +kernel) (AN ?_)⟩
   refine ⟨(by exact My.AL),fun L hL=>?_⟩
   obtain ⟨v,e1,e2⟩:=endG H2 (Bv rfl d2 wr b rfl) sA L hL;exact ⟨_,rfl,_,_,rfl,rfl,.inr ⟨_,rfl,L,_,_,v,rfl,rfl,AF.of uS,e1,e2⟩⟩
 | cut x y =>
  refine ⟨_,rfl,rfl,_,rfl,qE (by show ¬ V.str "cut" = V.str "mount";decide +kernel) (AN ?_)⟩
  refine ⟨_,rfl,rfl,_,rfl,BG (fun _=>?_) (fun z=>absurd z (by show ¬ V.str "cut" = V.str "mount";decide +kernel))⟩
  have hpi:=S.pi';rcases hpn:l.ps.pitch with _|rt
  ·rw [hpn] at hpi
   cases (show pi = .non from hpi);refine ⟨_,rfl,_,_,rfl,.inl ⟨_,.inr "pitch",.inl S.ob,rfl,A9.symm⟩,_,rfl,qF rfl ?_⟩;exact fin "NoTrain" _ (Cc rfl (by show l.ps.pitch.isSome=false;rw [hpn];rfl)) (AE.refl _)
  have pn:l.ps.pitch≠none:=by rw [hpn];exact fun z=>nomatch z
  have d2:Req.has l (.cut x y)=true:=by show l.ps.pitch.isSome=true;rw [hpn];rfl
  obtain ⟨ts,P⟩:=Re.pcOf' pn;rw [hpn] at hpi;obtain ⟨pp,rfl,hpp⟩:=hpi;refine ⟨_,rfl,_,_,rfl,.inl ⟨_,.inr "pitch",.inl S.ob,rfl,A9.symm⟩,_,rfl,qE (fun z=>by cases z) ?_⟩
  refine (fun (key:∀ Hd:Hp,(AE H Hd/\Req.wrong l.ps (.cut x y)=false)->(?Gcut:Hp->Prop) Hd)=>?maincut) ?keypcut
  case maincut =>
   by_cases hcl:l.ps.closed=true
   ·refine ⟨_,rfl,_,_,rfl,.inl ⟨_,.inr "closed",.inl S.ob,rfl,Aw.symm⟩,_,rfl,?_⟩
    rw [hcl];refine Ab ?_;refine ⟨_,rfl,(by exact My.CH),fun t1 ht1=>?_⟩
    have s1:=sN ht1 (.tup [V.str "mount",V.str "wait",V.str "close",V.str "move"]);have ei:Aq (V.str "cut") [V.str "mount",V.str "wait",V.str "close",V.str "move"]=false:=by decide +kernel
    refine ⟨t1,_,rfl,.inr (AH.of uS),rfl,rfl,_,rfl,?_⟩;refine (show if Aq (V.str "cut") [V.str "mount",V.str "wait",V.str "close",V.str "move"]=true then _ else _ from ?_)
    rw [ei];refine AN ?_;refine ⟨_,rfl,_,_,rfl,.inl ⟨_,.inr "closed",.inl (S.same s1).ob,rfl,Aw.symm⟩,_,rfl,?_⟩;rw [hcl];refine AN (AN ?_);exact key _ ⟨s1,(by show (!l.ps.closed)=false;rw [hcl];rfl)⟩
   ·have hcl:l.ps.closed=false:=by simpa using hcl
    refine ⟨_,rfl,_,_,rfl,.inl ⟨_,.inr "closed",.inl S.ob,rfl,Aw.symm⟩,_,rfl,?_⟩;rw [hcl];refine AN (AN ?_);refine ⟨_,rfl,_,_,rfl,.inl ⟨_,.inr "closed",.inl S.ob,rfl,Aw.symm⟩,_,rfl,?_⟩;rw [hcl];refine Ab ?_;refine ⟨_,rfl,(by exact My.AL),fun t1 ht1=>?_⟩
    have s1:=sN ht1 (.tup [V.str "open",V.str "cut"]);have ei:Aq (V.str "cut") [V.str "open",V.str "cut"]=true:=by decide +kernel
    refine ⟨t1,_,rfl,.inr (AH.of uS),rfl,rfl,_,rfl,?_⟩;refine (show if Aq (V.str "cut") [V.str "open",V.str "cut"]=true then _ else _ from ?_)
    rw [ei];refine Ab ?_;exact fin "WrongNut" _ (Cd rfl d2 (by show (!l.ps.closed)=true;rw [hcl];rfl)) s1
  case keypcut =>
   rintro Hd ⟨sd,wr⟩
   have Sd:=S0.same sd;refine ⟨_,rfl,_,rfl,_,rfl,s,l.ps,.cut x y,wv,N,rfl,Sd,hv.same sd,(fun _=>⟨ts,P⟩),fun H2 s2=>⟨_,rfl,Eb (fun b=>?_) (fun b=>?_)⟩⟩
   ·exact fin "BadNumber" _ (Bl rfl d2 wr b) (sd.trans s2)
   have sA:=sd.trans s2;refine ⟨_,rfl,rfl,_,rfl,qE (by show ¬ V.str "cut" = V.str "close";decide +kernel) (AN ?_)⟩
   refine ⟨(by exact My.AL),fun L hL=>?_⟩
   obtain ⟨v,e1,e2⟩:=endG H2 (Bv rfl d2 wr b rfl) sA L hL;exact ⟨_,rfl,_,_,rfl,rfl,.inr ⟨_,rfl,L,_,_,v,rfl,rfl,AF.of uS,e1,e2⟩⟩

theorem bV {K:zP} {mg:zQ} (T:Txt K mg):∀ x∈Bf,Az K (AA mg x)/\CJ K (AA mg x)/\PySem.W.mroIn K (AA mg x) (.ref (AA mg "LatheError"))=some true /\
  PySem.W.kitOne K (.ref (AA mg x)) (.ref (AA mg "UnknownWheel"))=some (decide (x = "UnknownWheel"))/\PySem.W.kitOne K (.ref (AA mg x)) (.ref (AA mg "NoTrain"))=some (decide (x = "NoTrain"))/\PySem.W.kitOne K (.ref (AA mg x)) (.ref (AA mg "WrongNut"))=some (decide (x = "WrongNut")) /\
  PySem.W.kitOne K (.ref (AA mg x)) (.ref (AA mg "BadNumber"))=some (decide (x = "BadNumber"))/\PySem.W.kitOne K (.ref (AA mg x)) (.ref (AA mg "NoMeeting"))=some (decide (x = "NoMeeting"))/\PySem.W.kitOne K (.ref (AA mg x)) (.ref (AA mg "BookFull"))=some (decide (x = "BookFull")):=by
 intro x hx;simp only [Bf,List.mem_cons,List.not_mem_nil,or_false] at hx;rcases hx with rfl|rfl|rfl|rfl|rfl|rfl
 ·exact ⟨T.Ox,T.Pf,T.WA,T.Vd,T.Vc,T.Ve,T.VZ,T.Vb,T.Va⟩
 ·exact ⟨T.Ow,T.Pe,T.V9,T.VX,T.VW,T.VY,T.VS,T.VU,T.VT⟩
 ·exact ⟨T.Jx,T.Pg,T.WB,T.Vj,T.Vi,T.Vk,T.Vf,T.Vh,T.Vg⟩
 ·exact ⟨T.DE,T.Pa,T.V6,T.VD,T.VC,T.VE,T.U9,T.VB,T.VA⟩
 ·exact ⟨T.Ov,T.Pd,T.V8,T.VQ,T.VP,T.VR,T.VM,T.VO,T.VN⟩
 ·exact ⟨T.Ou,T.Pb,T.V7,T.VJ,T.VI,T.VL,T.VF,T.VH,T.VG⟩
noncomputable def XI (x:Str):HO:=.tup [.str "refused",.str x]
noncomputable def Jl:List V:=Bf.map fun y=>V.str (Str.ofString y)
noncomputable def Jk (x:String):List V:=Bf.map fun y=>V.bl (decide (x=y))
noncomputable def Ep (x:String) (i:Nat):List Str:=((Bf.take i).filter fun y=>decide (x=y)).map Str.ofString
theorem Yi {x:String} (h:x∈Bf):Ep x 6=[Str.ofString x]:=by
 simp only [Bf,List.mem_cons,List.not_mem_nil,or_false] at h;rcases h with rfl|rfl|rfl|rfl|rfl|rfl <;> decide +kernel
theorem Yl {x:String} (h:x∈Bf):(Str.ofString x).length<=100:=by
 simp only [Bf,List.mem_cons,List.not_mem_nil,or_false] at h;rcases h with rfl|rfl|rfl|rfl|rfl|rfl <;> decide +kernel
theorem Yj {i:Nat} (h:i<6):∃ y,Bf[i]? = some y:=⟨_,List.getElem?_eq_getElem (show i<Bf.length from h)⟩
theorem OY {x y:String} {i:Nat} (h:Bf[i]? = some y):Ep x (i+1)=Ep x i++(if decide (x=y)=true then [Str.ofString y] else []):=by
 unfold Ep;rw [List.take_add_one,h];show List.map Str.ofString (List.filter _ (List.take i Bf++[y]))=_;rw [List.filter_append,List.map_append];congr 1;by_cases c:x=y
 ·rw [if_pos (decide_eq_true c)]
  simp only [List.filter_cons,List.filter_nil];rw [if_pos (decide_eq_true c)];rfl
 ·rw [if_neg (by rw [decide_eq_false c];decide)]
  simp only [List.filter_cons,List.filter_nil];rw [if_neg (by rw [decide_eq_false c];decide)];rfl
def Z2 (K:zP) (mg:zQ):Sp:=fun vs H Q _=>∃ (a:Addr) (l:LS) (F:Addr->Prop) (q:Req) (wv:V),vs=[.ref a,.str (Req.word q),wv]/\Aa K mg H a l F/\BU K H wv q /\
 (AZ l q=none->∀ r H' F',Aa K mg H' a (l.push q.deed) F'->AS F F' H H'->FC K H' r (l.push q.deed)->Q (.ref r) H')/\∀ x:String,AZ l q=some x->∀ r H' F',Aa K mg H' a l F'->AS F F' H H'->H' r=some (XI x)->Q (.ref r) H'
theorem Qr (T:Txt K mg):zH P w K mg base "_law_told" ["_law_lathe","_law_word","_law_what"] 11 (Z2 K mg):=by
 refine Ad T.T3 Fd (fun vs H Q E h=>?_) (fun f cdv A outer s H vs Q E hr h=>?_)
 ·obtain ⟨a,l,F,q,wv,rfl,_⟩:=h
  rfl
 obtain ⟨a,l,F,rq,wv,rfl,R,hv,q1,q2⟩:=h;refine ⟨_,(@pK _ _ _ _ _ (@qK _ _ 3 _ _ _ _ Fd.nd rfl (Or.inr rfl) (@zA _ _ _ _ pI) (by rfl) (by trivial))
 (@pK _ _ _ _ _ (W0 (fun _ _=>(@pO _ _ _ (@pR _ _ _ _ (pX (Kn T) hr (Wb PY (.as (i:=4) (by rfl) T.SJ T.cY (by decide) Fd.nd rfl (by rfl) (fun _=>(@pK _ _ _ _ _ (@qK _ _ 3 _ _ _ _ Fd.nd rfl (Or.inr rfl) (@zA _ _ _ _ (pA (qJ (FF (K:=K) rfl) (by rfl) T.B5 PyProof.Rows.boot_isinstance (pA (pv 4) (pA (Bz (by rfl) T.LF (v:=.ref (AA mg "UnknownWheel")) rfl) pI))) (pA (qJ (FF (K:=K) rfl) (by rfl) T.B5 PyProof.Rows.boot_isinstance (pA (pv 4) (pA (Bz (by rfl) T.LE (v:=.ref (AA mg "NoTrain")) rfl) pI))) (pA (qJ (FF (K:=K) rfl) (by rfl) T.B5 PyProof.Rows.boot_isinstance (pA (pv 4) (pA (Bz (by rfl) T.Id (v:=.ref (AA mg "WrongNut")) rfl) pI))) pI)))) (by rfl) (by trivial))
 (@pO _ _ _ (@qK _ _ 3 _ _ _ _ Fd.nd rfl (Or.inr rfl) (qC Ci (pv 3) (@zA _ _ _ _ (pA (qJ (FF (K:=K) rfl) (by rfl) T.B5 PyProof.Rows.boot_isinstance (pA (pv 4) (pA (Bz (by rfl) T.C3 (v:=.ref (AA mg "BadNumber")) rfl) pI))) (pA (qJ (FF (K:=K) rfl) (by rfl) T.B5 PyProof.Rows.boot_isinstance (pA (pv 4) (pA (Bz (by rfl) T.LD (v:=.ref (AA mg "NoMeeting")) rfl) pI))) (pA (qJ (FF (K:=K) rfl) (by rfl) T.B5 PyProof.Rows.boot_isinstance (pA (pv 4) (pA (Bz (by rfl) T.LC (v:=.ref (AA mg "BookFull")) rfl) pI))) pI))))) (by rfl) (by trivial))))) .nil)) (pA (pv 0) (pA (pv 1) (pA (pv 2) pI))))))))
 (@pK _ _ _ _ _ (@qK _ _ 5 _ _ _ _ Fd.nd rfl (Or.inr rfl) (@zA _ _ _ _ (pA pS (pA pS (pA pS (pA pS (pA pS (pA pS pI))))))) (by rfl) (by trivial))
 (@pO _ _ _ (@pR _ _ _ _ (@zB _ _ _ _ _ (pA pS (pA (EH PySem.F.plainAttrs_str PySem.F.slot_str_join PySem.F.type_str_join WC pS (pA (Li rfl (sc:=qA JT) rfl (N:=["_law_lathe","_law_word","_law_what","_law_told_here","e","_law_names"]) rfl ⟨by decide +kernel,rfl,by decide +kernel,by decide +kernel,rfl,by decide +kernel,by decide +kernel,by decide +kernel⟩ (EI (by rfl) T.Cp (pA pZ pI)) (fun _ _ _ _ _ _=>(qZ (@qD _ _ _ _ _ _ _ (Ih (K:=K) rfl) (pv 4) (pv 0) (fun _ _=>rfl)))) (fun _ _ _ _ _ _=>(@qD _ _ _ _ _ _ _ (Ih (K:=K) rfl) (pv 6) (pv 0) (fun _ _=>rfl)))) pI)) pI)))))))),?_⟩
 refine ⟨(by exact My.Co),fun t0 ht0=>?_⟩
 have s0:=sN ht0 (.lst []);refine ⟨_,rfl,_,rfl,_,rfl,a,l,F,rq,wv,rfl,R.same s0,hv.same s0,_,rfl,?_⟩;rcases hd:AZ l rq with _|x
 ·exact fun r H' F' R' f' st=>q1 hd r H' F' R' ((AS.of_same (F:=F) s0).trans f') st
 ·intro H1 F1 R1 f1
  have hx:=K4 hd;obtain ⟨xc,ca,mr,k1,k2,k3,k4,k5,k6⟩:=bV T x hx;refine ⟨_,rfl,xc,true,mr,Ab ?_⟩;intro e he;have s2:=sN he (DU e (AA mg x));refine ⟨_,rfl,e,_,_,_,_,rfl,uS,xc,ca,.inl ⟨rfl,k1⟩,_,rfl,e,_,_,_,_,rfl,uS,xc,ca,.inl ⟨rfl,k2⟩,_,rfl,e,_,_,_,_,rfl,uS,xc,ca,.inl ⟨rfl,k3⟩,(by exact My.EO),fun L3 hL3=>?_⟩
  have s3:=sN hL3 (.lst [.bl (decide (x = "UnknownWheel")),.bl (decide (x = "NoTrain")),.bl (decide (x = "WrongNut"))]);have e3:=s3 _ _ (uS (H:=H1) (a:=e) (o:=DU e (AA mg x)));refine ⟨_,rfl,_,rfl,e,_,_,_,_,rfl,e3,xc,ca,.inl ⟨rfl,k4⟩,_,rfl,e,_,_,_,_,rfl,e3,xc,ca,.inl ⟨rfl,k5⟩,_,rfl,e,_,_,_,_,rfl,e3,xc,ca,.inl ⟨rfl,k6⟩,(by exact My.EO),fun L4 hL4=>?_⟩
  have s4:=sN hL4 (.lst [.bl (decide (x = "BadNumber")),.bl (decide (x = "NoMeeting")),.bl (decide (x = "BookFull"))]);refine ⟨L3,L4,_,_,rfl,rfl,s4 _ _ uS,uS,(by exact My.Oy),fun L5 hL5=>?_⟩
  have s5:=sN hL5 (.lst ([.bl (decide (x = "UnknownWheel")),.bl (decide (x = "NoTrain")),.bl (decide (x = "WrongNut"))]++[.bl (decide (x = "BadNumber")),.bl (decide (x = "NoMeeting")),.bl (decide (x = "BookFull"))]));have hb5:AC (AC (AC (AC H1 e (DU e (AA mg x))) L3 (.lst [.bl (decide (x = "UnknownWheel")),.bl (decide (x = "NoTrain")),.bl (decide (x = "WrongNut"))])) L4 (.lst [.bl (decide (x = "BadNumber")),.bl (decide (x = "NoMeeting")),.bl (decide (x = "BookFull"))])) L5 (.lst ([.bl (decide (x = "UnknownWheel")),.bl (decide (x = "NoTrain")),.bl (decide (x = "WrongNut"))]++[.bl (decide (x = "BadNumber")),.bl (decide (x = "NoMeeting")),.bl (decide (x = "BookFull"))])) L5=some (.lst (Jk x)):=uS;refine ⟨(by exact My.Oy),fun L6 hL6=>?_⟩
  have s6:=sN hL6 (.lst [.str "UnknownWheel",.str "NoTrain",.str "WrongNut",.str "BadNumber",.str "NoMeeting",.str "BookFull"]);have hb:=s6 _ _ hb5;have hn:AC (AC (AC (AC (AC H1 e (DU e (AA mg x))) L3 (.lst [.bl (decide (x = "UnknownWheel")),.bl (decide (x = "NoTrain")),.bl (decide (x = "WrongNut"))])) L4 (.lst [.bl (decide (x = "BadNumber")),.bl (decide (x = "NoMeeting")),.bl (decide (x = "BookFull"))])) L5 (.lst ([.bl (decide (x = "UnknownWheel")),.bl (decide (x = "NoTrain")),.bl (decide (x = "WrongNut"))]++[.bl (decide (x = "BadNumber")),.bl (decide (x = "NoMeeting")),.bl (decide (x = "BookFull"))]))) L6 (.lst [.str "UnknownWheel",.str "NoTrain",.str "WrongNut",.str "BadNumber",.str "NoMeeting",.str "BookFull"]) L6=some (.lst Jl):=uS;have s26:=s2.trans (s3.trans (s4.trans (s5.trans s6)));generalize AC (AC (AC (AC (AC H1 e (DU e (AA mg x))) L3 (.lst [.bl (decide (x = "UnknownWheel")),.bl (decide (x = "NoTrain")),.bl (decide (x = "WrongNut"))])) L4 (.lst [.bl (decide (x = "BadNumber")),.bl (decide (x = "NoMeeting")),.bl (decide (x = "BookFull"))])) L5 (.lst ([.bl (decide (x = "UnknownWheel")),.bl (decide (x = "NoTrain")),.bl (decide (x = "WrongNut"))]++[.bl (decide (x = "BadNumber")),.bl (decide (x = "NoMeeting")),.bl (decide (x = "BookFull"))]))) L6 (.lst [.str "UnknownWheel",.str "NoTrain",.str "WrongNut",.str "BadNumber",.str "NoMeeting",.str "BookFull"])=H6 at s26 hb hn ⊢;clear s2 s3 s4 s5 s6 hb5 e3;refine ⟨rfl,?_⟩;refine ⟨6,rfl,by decide,by decide,?_⟩
  intro D hD;have s7:=sN hD (.lst []);refine Pu (tt:=tB (Es (HI K) (DP 4) (DP 0))) (te:=Es (HI K) (DP 6) (DP 0)) (σ:=[some (.ref a),some (.str (Req.word rq)),some wv,some (.ref L5),none,some (.ref L6)]) (lo:=0) (n:=6) (fun i H7 ys=>ys=(Ep x i).map V.str/\AE H6 H7/\H7 D=some (.lst ys)) ⟨rfl,s7,uS⟩ ?_ ?_
  ·rintro i H7 ys kk hk hi ⟨rfl,s7',hd7⟩
   obtain ⟨y,hy⟩:=Yj hi;rw [Int.zero_add];have ab:A1 (Jk x) (i:Int)=some (.bl (decide (x=y))):=Cy (by unfold Jk;rw [List.getElem?_map,hy];rfl)
   have an:A1 Jl (i:Int)=some (.str (Str.ofString y)):=Cy (by unfold Jl;rw [List.getElem?_map,hy];rfl)
   refine ⟨hd7,_,rfl,_,rfl,L5,_,_,_,rfl,rfl,AF.of (s7' _ _ hb),ab,_,rfl,?_⟩;by_cases c:x=y
   ·rw [decide_eq_true c]
    refine Ab ?_;refine ⟨_,rfl,_,rfl,L6,_,_,_,rfl,rfl,AF.of (s7' _ _ hn),an,hd7,?_,hk _ _ ⟨?_,fun b o e=>by rw [uN (nQ e hD)];exact s7' b o e,uS⟩⟩
    ·rw [List.length_map]
     have:(Ep x i).length<=6:=by unfold Ep;rw [List.length_map];exact Nat.le_trans (List.length_filter_le _ _) (by rw [List.length_take];lia)
     exact Bb (by lia)
    ·rw [OY hy,if_pos (decide_eq_true c),List.map_append];rfl
   ·rw [decide_eq_false c]
    refine AN (hk _ _ ⟨?_,s7',hd7⟩);rw [OY hy,if_neg (by rw [decide_eq_false c];decide),List.append_nil]
  ·rintro H7 ys ⟨rfl,s7',hd7⟩
   refine ⟨hd7,?_⟩;rw [Yi hx] at hd7;have l1:=Yl hx;refine ⟨" ",D,[Str.ofString x],rfl,rfl,hd7,?_,(by exact My.AL),fun p hp=>?_⟩
   ·show (Str.ofString x).length+0+1*(Str.ofString " ").length<=16777216
    have:(Str.ofString " ").length=1:=by decide +kernel
    lia
   ·have ej:Txt.join (Str.ofString " ") [Str.ofString x]=Str.ofString x:=rfl
    have s8:=sN hp (.tup [.str "refused",.str (Str.ofString x)]);have sA:=s26.trans (s7'.trans s8);refine q2 x hd p _ F1 (R1.same sA) (((AS.of_same (F:=F) s0).trans f1).trans (AS.of_same (F:=F1) sA)) ?_;exact uS

/-- deeds that are handed,none of them the lathe's own -/
def Fg (K:zP) (F:Addr->Prop) (H:Hp) (us:List Addr) (qs:List Req):Prop:=Paired (fun r q=>∃ wv,H r=some (.tup [.str (Req.word q),wv])/\BU K H wv q/\∀ t,wv = .ref t->¬ F t/\∃ o,H t=some o) us qs
theorem Fg.fit {K:zP} {F F':Addr->Prop} {H H':Hp} {us:List Addr} {qs:List Req} (h:Fg K F H us qs) (f:AS F F' H H'):Fg K F' H' us qs :=
 Dl (fun _ _ ⟨wv,a,b,c⟩=>⟨wv,f.tup _ _ a,b.fit (fun t e=>(c t e).1) f,fun t e=>by obtain ⟨n,o,z⟩:=c t e;exact ⟨f.out z n,o,f.keep _ _ z n⟩⟩) h
theorem BA.own {K:zP} {mg:zQ} {H0 H:Hp} {us:List Addr} {qs:List Req} {x:Addr} {l:LS} {F:Addr->Prop} (h:BA K H0 H us qs) (R:Aa K mg H0 x l F):Fg K F H us qs:=Dl (fun _ _ ⟨wv,a,b,c⟩=>⟨wv,a,b,fun t e=>⟨R.newOk t (c t e).1,(c t e).2⟩⟩) h.2
theorem Lg {β:Type} {R:Addr->β->Prop}:∀ {us:List Addr} {qs:List β} {i:Nat} {v:V},Paired R us qs->(us.map V.ref)[i]? = some v->∃ r q,v = .ref r/\R r q
 | _,_,_,_,.nil,e=>by simp at e
 | _,_,0,_,.cons h _,e=>by cases e;exact ⟨_,_,rfl,h⟩
 | _,_,i+1,_,.cons _ t,e=>Lg (i:=i) t (by simpa using e)
def Yt (K:zP) (mg:zQ):Sp:=fun vs H Q _=>∃ (x s W:Addr) (c:Int) (l:LS) (F:Addr->Prop),vs=[.ref x,.ref s,.ref W,.int c,.int (l.book.length:Int)]/\Aa K mg H x l F/\Al K (fun b=>¬ F b) H s l.ps/\Bj F H W l.shop/\∀ H' F',Aa K mg H' x l F'->AS F F' H H'->Q (.bl true) H'
theorem Kl (T:Txt K mg):CB P w K mg base "_law_all_refused" ["_law_lathe","_law_s","_law_wheels","_law_cell","_law_many"] 12 (Yt K mg):=by
 refine Cq T.TZ GE (fun vs H Q E h=>?_) (fun f cdv A outer s H vs Q E hr h=>?_)
 ·obtain ⟨x,s,W,c,l,F,rfl,_⟩:=h
  rfl
 obtain ⟨x,s,W,c,l,F,rfl,R,S,hW,q⟩:=h;refine ⟨_,(@pK _ _ _ _ _ (@qK _ _ 5 _ _ _ _ GE.nd rfl (Or.inl rfl) (pX (Km T) hr (qH qI) (pA (pv 0) (pA (pv 1) pI))) (by rfl) (by trivial))
 Au),?_⟩
 have Re:=R.reach;have G:=Re.good;refine ⟨_,rfl,_,rfl,x,s,l,F,rfl,R,S,fun D0 H1 F1 R1 f1 B1=>?_⟩;have S1:=S.fit f1;have hW1:=hW.fit f1;refine ⟨_,(@pK _ _ _ _ _ (CQ PassesOwn.leaving rfl (Ei (pD (Qb T) hr (pA (pv 3) (pA (pv 2) pI)))) (JD rfl (FX (BY (i:=6) GE.nd rfl (Or.inl rfl)) (FX (BY (i:=7) GE.nd rfl (Or.inl rfl)) JE)))
 Au)
 Au),?_⟩
 refine ⟨_,rfl,_,rfl,c,W,l.shop,rfl,hW1.sq,G.shop,G.l2,G.l12,fun D H2 us qs dv eD nD lu=>?_⟩;have s2:=dv.1;have df:=dv.own R1;have oD:Ob F1 H2 D (.lst (us.map V.ref)):=⟨eD,R1.newOk D nD⟩;refine ⟨D,rfl,⟨_,AF.of eD⟩,Gf (K:=K) (a:=D) (xs:=us.map V.ref) (fun i σ H'=>∃ (F':Addr->Prop) (v1 v2 v3:Option V),σ=[some (.ref x),some (.ref s),some (.ref W),some (.int c),some (.int (l.book.length:Int)),some (.ref D0),v1,v2,v3]/\Aa K mg H' x l F'/\AS F F' H H'/\DR K F' H' D0 l/\Fg K F' H' us qs/\Al K (fun b=>¬ F' b) H' s l.ps/\Bj F' H' W l.shop/\Ob F' H' D (.lst (us.map V.ref)))
  ⟨F1,none,none,none,rfl,R1.same s2,f1.trans (AS.of_same s2),B1.fit (AS.of_same s2),df,S1.same s2,hW1.same s2,oD⟩ (fun i σ H' _ ⟨_,_,_,_,_,_,_,_,_,_,_,o⟩=>AF.of o.1) ?_ ?_⟩
 ·clear R S hW R1 S1 hW1 df oD dv s2 B1 f1
  rintro i v σ Hc hv ⟨F',v1,v2,v3,rfl,R,f,B,df,S,hW,oD⟩
  obtain ⟨r,rq,rfl,wv,hr1,hq,hn⟩:=Lg df hv;refine ⟨r,_,rfl,AH.of hr1,rfl,_,_,rfl,_,_,rfl,rfl,?_⟩;refine ⟨_,(@pK _ _ _ _ _ (@qK _ _ 8 _ _ _ _ GE.nd rfl (Or.inl rfl) (pD (Qa T) hr (pA (pv 1) (pA (pv 6) (pA (pv 7) (pA (pv 2) (pA (pv 4) pI)))))) (by rfl) (by trivial))
 Au),?_⟩
  refine ⟨_,rfl,_,rfl,_,rfl,_,rfl,_,rfl,s,l,rq,wv,W,_,rfl,S,Re,hq,hW.sq,fun H6 s6=>?_⟩;have R:=R.same s6;have h6:=AS.of_same (F:=F') s6;have B:=B.fit h6;have df:=df.fit h6;have S:=S.same s6;have hW:=hW.same s6;have oD:=oD.same s6;have hq:=hq.same s6;have f:=f.trans h6;refine ⟨_,(@pO _ _ _ (qM (B0 (qQ Gx (pv 8) pS (Ax _)) (CT (qQ (WU (Gk hr)) (pD (Qr T) hr (pA (pv 0) (pA (pv 6) (pA (pv 7) pI)))) (@zB _ _ _ _ _ (pA pS (pA (pv 8) pI))) (Ax _)))).pt
 (@pO _ _ _ (@pR _ _ _ _ BH))
 qG)),?_⟩
  rcases hd:AZ l rq with _|xx
  ·have edu:EY l rq=Str.ofString "good":=by unfold EY;rw [hd]
   rw [edu];refine ⟨_,rfl,rfl,_,rfl,DK rfl (AN ?_)⟩;exact ⟨F',_,_,_,rfl,R,f,B,df,S,hW,oD⟩
  ·have edu:EY l rq=Str.ofString xx:=by unfold EY;rw [hd]
   rw [edu];have ng:=Yk (K4 hd);refine ⟨_,rfl,rfl,_,rfl,BG (fun _=>?_) (fun e=>absurd (V.str.inj e) ng)⟩;refine ⟨_,rfl,_,rfl,_,rfl,x,l,F',rq,wv,rfl,R,hq,(fun d=>by rw [hd] at d;cases d),fun e he fo H7 F7 R7 f7 hr7=>?_⟩
   rw [hd] at he;cases he;refine ⟨_,rfl,(by exact My.AL),fun p hp=>?_⟩
   have s8:=sN hp (.tup [.str "refused",.str (Str.ofString xx)]);have h8:=f7.trans (AS.of_same (F:=F7) s8);refine ⟨fo,p,_,_,rfl,rfl,AH.of (s8 _ _ hr7),AH.of uS,rfl,XZ Rv,_,rfl,AN ?_⟩;exact ⟨F7,_,_,_,rfl,R7.same s8,f.trans h8,B.fit h8,df.fit h8,S.fit h8,hW.fit h8,oD.fit h8⟩
 ·clear R S hW R1 S1 hW1 df oD dv s2 B1 f1
  rintro σ Hc ⟨F',v1,v2,v3,rfl,R,f,B,df,S,hW,oD⟩
  refine ⟨_,(@pO _ _ _ (@pR _ _ _ _ (HA (WQ (Gk hr)) (pX (Km T) hr (qH qI) (pA (pv 0) (pA (pv 1) pI))) (pv 5) (Ax _)))),?_⟩;refine ⟨_,rfl,_,rfl,x,s,l,F',rfl,R,S,fun D2 H9 F9 R9 f9 B9=>?_⟩;obtain ⟨xs,ys,x1,x2,x3,x4⟩:=DR.eq Re B9 (B.fit f9);exact ⟨_,rfl,D2,D0,xs,ys,rfl,rfl,AF.of x1,AF.of x2,x3,x4,q H9 F9 R9 (f.trans f9)⟩

def Z8:Sp:=fun vs H Q _=>∃ (i:Int),vs=[.int i]/\Q (.bl true) H
theorem Kt (T:Txt K mg):zH P w K mg base "_law_whole" ["_law_found"] 1 Z8:=by
 refine Ad T.T6 YA (fun vs H Q E h=>?_) (fun f cdv A outer s H vs Q E hr h=>?_)
 ·obtain ⟨i,rfl,_⟩:=h
  rfl
 obtain ⟨i,rfl,q⟩:=h;refine ⟨_,(@pO _ _ _ (@pR _ _ _ _ (Gz (qJ DX (by rfl) T.B5 PyProof.Rows.boot_isinstance (pA (pv 0) (pA (Dm (by rfl) T.Hh PyProof.Rows.boot_int (v:=.ty "int") rfl) pI))) (Fz (Wi (qJ DX (by rfl) T.B5 PyProof.Rows.boot_isinstance (pA (pv 0) (pA (Dm (by rfl) T.O0 PyProof.Rows.boot_bool (v:=.ty "bool") rfl) pI)))))))),?_⟩
 refine ⟨_,rfl,_,"int",_,_,rfl,.int i,EB _,_,rfl,?_⟩;refine Ab ?_;exact ⟨_,rfl,_,"bool",_,false,rfl,.int i,(by with_unfolding_all rfl),_,rfl,q⟩

def ZN (K:zP):Sp:=fun vs H Q _=>∃ (a b:Addr) (ws:List Int),vs=[.ref a,.ref b]/\Af K H a (ws.map V.int)/\Af K H b (ws.map V.int)/\ws.length<=1000/\Q (.bl true) H
theorem Ko (T:Txt K mg):zH P w K mg base "_law_is" ["_law_found","_law_due_here"] 2 (ZN K):=by
 refine Ad T.Tm OF (fun vs H Q E h=>?_) (fun f cdv A outer s H vs Q E hr h=>?_)
 ·obtain ⟨a,b,ws,rfl,_⟩:=h
  rfl
 obtain ⟨a,b,ws,rfl,hA,hB,hl,q⟩:=h;refine ⟨_,(@pK _ _ _ _ _ (qM (BQ (A5 (qZ (qJ Ph (by rfl) T.B5 PyProof.Rows.boot_isinstance (pA (pv 0) (pA (Dm (by rfl) T.Dt PyProof.Rows.boot_tuple (v:=.ty "tuple") rfl) pI))))) (B3 (qR (Bm (qJ qL (by rfl) T.At PySem.boot_len (pA (pv 0) pI)) (qJ qL (by rfl) T.At PySem.boot_len (pA (pv 1) pI)))))).pt
 (@pO _ _ _ (@pR _ _ _ _ BH))
 qG)
 (@pK _ _ _ _ _ (CQ PassesOwn.never rfl (EI (by rfl) T.Cp (pA (qJ qL (by rfl) T.At PySem.boot_len (pA (pv 1) pI)) pI)) (BY (i:=2) OF.nd rfl (Or.inl rfl))
 (@pO _ _ _ (qM (BQ (A5 (qZ (pD (Kt T) hr (pA (@qD _ _ _ _ _ _ _ iT (pv 0) (pv 2) (fun _ _=>rfl)) pI)))) (B3 (qR (Bm (@qD _ _ _ _ _ _ _ iT (pv 0) (pv 2) (fun _ _=>rfl)) (@qD _ _ _ _ _ _ _ iT (pv 1) (pv 2) (fun _ _=>rfl)))))).pt
 (@pO _ _ _ (@pR _ _ _ _ BH))
 qG)))
 (@pO _ _ _ (@pR _ _ _ _ BH)))),?_⟩
 refine ⟨_,rfl,_,"tuple",_,_,rfl,.inr ⟨a,_,rfl,rfl,hA.sq⟩,EB _,_,rfl,?_⟩;refine AN ?_;refine ⟨_,rfl,a,_,rfl,.inr (hA.sq),_,rfl,b,_,rfl,.inr (hB.sq),_,_,rfl,rfl,_,rfl,?_⟩;refine DK rfl ?_;have hlen:(ws.map V.int).length=ws.length:=List.length_map _;refine ⟨_,rfl,b,_,rfl,.inr (hB.sq),_,rfl,by lia,by rw [hlen];lia,?_⟩
 rw [Int.toNat_natCast,hlen];refine Fv (lo:=0) (n:=ws.length) (fun i σ H'=>∃ (k:Option V),σ=[some (.ref a),some (.ref b),k]/\H'=H) ⟨none,rfl,rfl⟩ ?_ ?_
 ·rintro i σ H' hi ⟨k,rfl,rfl⟩
  have ea:A1 (ws.map V.int) (0+(i:Int))=some (.int ws[i]):=by
   rw [Int.zero_add];exact Cy (by rw [List.getElem?_map,List.getElem?_eq_getElem hi] <;> rfl)
  refine ⟨_,rfl,_,rfl,a,_,_,_,rfl,rfl,hA.sq,ea,_,rfl,_,rfl,?_⟩;refine AN ?_;refine ⟨_,rfl,_,rfl,a,_,_,_,rfl,rfl,hA.sq,ea,_,rfl,_,rfl,b,_,_,_,rfl,rfl,hB.sq,ea,_,_,rfl,rfl,_,rfl,?_⟩;exact DK rfl ⟨_,rfl,rfl⟩
 ·rintro σ H' ⟨k,rfl,rfl⟩
  exact q

def ZX (K:zP):Sp:=fun vs H Q _=>∃ (v d:V),vs=[v,d]/\((v = .non/\d = .non)\/∃ (a b:Addr) (ws:List Int),v = .ref a/\d = .ref b/\Af K H a (ws.map V.int)/\Af K H b (ws.map V.int)/\ws.length<=1000)/\Q (.bl true) H
theorem IU (T:Txt K mg):zH P w K mg base "_law_may" ["_law_found","_law_due_here"] 3 (ZX K):=by
 refine Ad T.To X5 (fun vs H Q E h=>?_) (fun f cdv A outer s H vs Q E hr h=>?_)
 ·obtain ⟨v,d,rfl,_⟩:=h
  rfl
 obtain ⟨v,d,rfl,h,q⟩:=h;refine ⟨_,(@pK _ _ _ _ _ (qM (qR (BX (pv 1)))
 (@pO _ _ _ (@pR _ _ _ _ (C7 (BX (pv 0)))))
 qG)
 (@pO _ _ _ (@pR _ _ _ _ (pD (Ko T) hr (pA (pv 0) (pA (pv 1) pI)))))),?_⟩
 rcases h with ⟨rfl,rfl⟩|⟨a,b,ws,rfl,rfl,h1,h2,h3⟩
 ·exact ⟨_,rfl,_,rfl,qF rfl ⟨_,rfl,q⟩⟩
 ·exact ⟨_,rfl,_,rfl,qE (fun z=>by cases z) ⟨_,rfl,_,rfl,a,b,ws,rfl,h1,h2,h3,q⟩⟩

def Yy (K:zP):Sp:=fun vs H Q _=>∃ (D E:Addr) (ds:List Deed) (rs us:List Addr),vs=[.ref D,.ref E]/\H D=some (.lst (rs.map V.ref))/\H E=some (.lst (us.map V.ref))/\BT K H ds rs/\BT K H ds us/\ds.length<=1000/\(∀ ts,Deed.mount ts∈ds->ts.length<=1000)/\Q (.bl true) H
theorem QY (T:Txt K mg):zH P w K mg base "_law_booked" ["_law_found","_law_good"] 4 (Yy K):=by
 refine Ad T.Te OB (fun vs H Q E h=>?_) (fun f cdv A outer s H vs Q E hr h=>?_)
 ·obtain ⟨D,E,ds,rs,us,rfl,_⟩:=h
  rfl
 obtain ⟨D,E',ds,rs,us,rfl,h1,h2,p1,p2,hl,hmt,q⟩:=h;refine ⟨_,(@pK _ _ _ _ _ (qM (BQ (A5 (qZ (qJ DX (by rfl) T.B5 PyProof.Rows.boot_isinstance (pA (pv 0) (pA (Dm (by rfl) T.DF PyProof.Rows.boot_list (v:=.ty "list") rfl) pI))))) (B3 (qR (Bm (qJ qL (by rfl) T.At PySem.boot_len (pA (pv 0) pI)) (qJ qL (by rfl) T.At PySem.boot_len (pA (pv 1) pI)))))).pt
 (@pO _ _ _ (@pR _ _ _ _ BH))
 qG)
 Au),?_⟩
 have l1:=Paired.length p1;have l2:=Paired.length p2;have m1:(rs.map V.ref).length=ds.length:=by rw [List.length_map,l1]
 have m2:(us.map V.ref).length=ds.length:=by rw [List.length_map,l2]
 refine ⟨_,rfl,_,"list",_,_,rfl,.lst h1,EB _,_,rfl,?_⟩;refine AN ?_;refine ⟨_,rfl,D,_,rfl,.inl (AF.of h1),_,rfl,E',_,rfl,.inl (AF.of h2),_,_,rfl,rfl,_,rfl,?_⟩;refine DK (by rw [m1,m2]) ?_
 refine ⟨_,(@pK _ _ _ _ _ (CQ PassesOwn.never rfl (EI (by rfl) T.Cp (pA (qJ qL (by rfl) T.At PySem.boot_len (pA (pv 1) pI)) pI)) (BY (i:=2) OB.nd rfl (Or.inl rfl))
 Au)
 (@pO _ _ _ (@pR _ _ _ _ BH))),?_⟩
 refine ⟨_,rfl,E',_,rfl,.inl (AF.of h2),_,rfl,by lia,by rw [m2];lia,?_⟩
 rw [Int.toNat_natCast,m2];refine Fv (lo:=0) (n:=ds.length) (fun i σ H'=>∃ (k:Option V),σ=[some (.ref D),some (.ref E'),k]/\H'=H) ⟨none,rfl,rfl⟩ ?_ ?_
 ·rintro i σ H' hi ⟨k,rfl,rfl⟩
  obtain ⟨r1,d1,w1,e1,g1,k1,q1⟩:=IH p1 (i:=i) (x:=(rs.map V.ref)[i]'(by lia)) (List.getElem?_eq_getElem _)
  obtain ⟨r2,d2,w2,e2,g2,k2,q2⟩:=IH p2 (i:=i) (x:=(us.map V.ref)[i]'(by lia)) (List.getElem?_eq_getElem _)
  have et:d2=d1:=by rw [g1] at g2;exact (Option.some.inj g2).symm
  subst et;have a1:A1 (rs.map V.ref) (0+(i:Int))=some (.ref r1):=by rw [Int.zero_add];exact Cy (by rw [List.getElem?_eq_getElem (by lia),e1])
  have a2:A1 (us.map V.ref) (0+(i:Int))=some (.ref r2):=by rw [Int.zero_add];exact Cy (by rw [List.getElem?_eq_getElem (by lia),e2])
  have bnd:∀ ts,d2 = .mount ts->ts.length<=1000:=fun ts e=>hmt ts (by rw [← e];exact List.mem_of_getElem? g1)
  refine ⟨_,(@pK _ _ _ _ _ (qM (BQ (A5 (qZ (qJ DX (by rfl) T.B5 PyProof.Rows.boot_isinstance (pA (@qD _ _ _ _ _ _ _ qY (pv 0) (pv 2) (fun _ _=>rfl)) (pA (Dm (by rfl) T.Dt PyProof.Rows.boot_tuple (v:=.ty "tuple") rfl) pI))))) (BQ (qR (Bm (qJ qL (by rfl) T.At PySem.boot_len (pA (@qD _ _ _ _ _ _ _ qY (pv 0) (pv 2) (fun _ _=>rfl)) pI)) pZ)) (B3 (A5 (qZ (qJ DX (by rfl) T.B5 PyProof.Rows.boot_isinstance (pA (@qD _ _ _ _ _ _ _ iT (@qD _ _ _ _ _ _ _ qY (pv 0) (pv 2) (fun _ _=>rfl)) pZ (fun _ _=>rfl)) (pA (Dm (by rfl) T.ck PyProof.Rows.boot_str (v:=.ty "str") rfl) pI)))))))).pt
 (@pO _ _ _ (@pR _ _ _ _ BH))
 qG)
 Au),?_⟩
  refine ⟨_,rfl,_,rfl,D,_,_,_,rfl,rfl,AF.of h1,a1,_,"tuple",_,_,rfl,.tup k1,EB _,_,rfl,?_⟩;refine AN ?_;refine ⟨_,rfl,_,rfl,D,_,_,_,rfl,rfl,AF.of h1,a1,r1,_,rfl,.inr (AH.of k1),_,_,rfl,rfl,_,rfl,BG (fun z=>absurd rfl z) (fun _=>?_)⟩;refine ⟨_,rfl,_,rfl,D,_,_,_,rfl,rfl,AF.of h1,a1,_,_,_,_,rfl,rfl,AH.of k1,rfl,_,"str",_,_,rfl,.str _,EB _,_,rfl,?_⟩;refine AN ?_;refine ⟨_,(@pO _ _ _ (qM (BQ (qQ Gx (@qD _ _ _ _ _ _ _ iT (@qD _ _ _ _ _ _ _ qY (pv 0) (pv 2) (fun _ _=>rfl)) pZ (fun _ _=>rfl)) (@qD _ _ _ _ _ _ _ iT (@qD _ _ _ _ _ _ _ qY (pv 1) (pv 2) (fun _ _=>rfl)) pZ (fun _ _=>rfl)) (Ax _)) (B3 (A5 (qZ (pD (IU T) hr (pA (@qD _ _ _ _ _ _ _ iT (@qD _ _ _ _ _ _ _ qY (pv 0) (pv 2) (fun _ _=>rfl)) pZ (fun _ _=>rfl)) (pA (@qD _ _ _ _ _ _ _ iT (@qD _ _ _ _ _ _ _ qY (pv 1) (pv 2) (fun _ _=>rfl)) pZ (fun _ _=>rfl)) pI))))))).pt
 (@pO _ _ _ (@pR _ _ _ _ BH))
 qG)),?_⟩
  refine ⟨_,rfl,_,rfl,D,_,_,_,rfl,rfl,AF.of h1,a1,_,_,_,_,rfl,rfl,AH.of k1,rfl,_,rfl,_,rfl,E',_,_,_,rfl,rfl,AF.of h2,a2,_,_,_,_,rfl,rfl,AH.of k2,rfl,Yb _ _,_,rfl,BG (fun z=>absurd rfl z) (fun _=>?_)⟩;refine ⟨_,rfl,_,rfl,D,_,_,_,rfl,rfl,AF.of h1,a1,_,_,_,_,rfl,rfl,AH.of k1,rfl,_,rfl,_,rfl,E',_,_,_,rfl,rfl,AF.of h2,a2,_,_,_,_,rfl,rfl,AH.of k2,rfl,_,_,rfl,Vx q1 q2 bnd,_,rfl,AN ?_⟩;exact ⟨_,rfl,rfl⟩
 ·rintro σ H' ⟨k,rfl,rfl⟩
  exact q

def Y9 (K:zP) (mg:zQ):Sp:=fun vs H Q _=>∃ b rdx ea es Fp ds,vs=[.ref b]/\H b=some (.ins (AA mg "Book") rdx [("entries",.ref ea)])/\H ea=some (.lst es)/\CV K mg Fp H ds es/\ds.length<=100 /\
 ∀ D rs H',AE H H'->H D=none->H' D=some (.lst (rs.map V.ref))->BT K H' ds rs->Q (.ref D) H'
theorem Qu (T:Txt K mg):zI P w K mg base (AA mg "Book") "deeds" ["self"] 1 (Y9 K mg):=by
 obtain ⟨f,fd,F,hm,hb⟩:=T.UE;refine ⟨f,fd,F.ok1 YC (fun vs H Q E h=>?_) (fun cdv A outer s H vs Q E hr h=>?_),hm,T.FI,hb⟩
 ·obtain ⟨b,rdx,ea,es,Fp,ds,rfl,_⟩:=h
  rfl
 obtain ⟨b,rdx,ea,es,Fp,ds,rfl,hb',he,En,h100,q⟩:=h;refine ⟨_,(@pO _ _ _ (@pR _ _ _ _ (HB rfl (sc:=qA JU) rfl (N:=["self"]) rfl ⟨by decide +kernel,rfl,by decide +kernel,by decide +kernel,rfl,by decide +kernel,by decide +kernel,by decide +kernel⟩ (Ei (pF (pv 0) rfl)) (fun _ _ _ _ _ _=>(@qD _ _ _ _ _ _ _ (U1 (K:=K) rfl) (pv 0) pZ (fun _ _=>rfl)))))),?_⟩
 have hlen:=En.len;refine ⟨_,rfl,_,_,_,_,_,rfl,hb',T.FI,T.Gu,rfl,ea,rfl,⟨_,AF.of he⟩,?_⟩;intro D hD;have u0:=sN hD (.lst []);refine IK (K:=K) (a:=ea) (xs:=es) (tt:=fun _ H Q=>Q true H) (fun i H6 ys=>∃ rs:List Addr,ys=rs.map V.ref/\AE H H6/\H6 D=some (.lst ys)/\BT K H (ds.take i) rs) ⟨[],rfl,u0,uS,by rw [List.take_zero];exact .nil⟩ (fun i H6 ys ⟨rs,_,s6,hd,_⟩=>⟨AF.of (s6 _ _ he),hd⟩) ?_ ?_
 ·rintro i v H6 ys kk hk hv ⟨rs,rfl,s6,hd6,Bk⟩
  have il:i<ds.length:=by rw [← hlen];exact (List.getElem?_eq_some_iff.mp hv).1
  obtain ⟨e,t,pb,wv,rfl,h1,h2,h3,_⟩:=En.ent i ds[i] v (List.getElem?_eq_getElem il) hv;have lr:=Paired.length Bk;refine Ab ?_;refine ⟨_,rfl,_,_,_,_,rfl,rfl,AH.of ((s6 _ _ h1)),rfl,hd6,(by rw [List.length_map,lr,List.length_take];exact Bb (by lia)),hk _ _ ⟨rs++[t],by rw [List.map_append];rfl,fun b o h=>by rw [uN (nQ h hD)];exact s6 b o h,uS,?_⟩⟩
  rw [List.take_add_one,List.getElem?_eq_getElem il];exact Paired.snoc Bk ⟨wv,h2,h3⟩
 ·rintro H6 ys ⟨rs,rfl,s6,hd6,Bk⟩
  rw [hlen,List.take_length] at Bk;exact q D rs H6 s6 hD hd6 (Bk.tups (AE.tups s6))

theorem Qx (T:Txt K mg):zI P w K mg base (AA mg "Lathe") "book" ["self"] 9 (CU K mg (bO K)):=by
 obtain ⟨f,fd,F,hm,hb⟩:=T.UG;refine ⟨f,fd,F.ok1 YF (fun vs H Q E h=>?_) (fun cdv A outer s H vs Q E hr h=>?_),hm,T.cL,hb⟩
 ·obtain ⟨a,l,F,rfl,_⟩:=h
  rfl
 obtain ⟨a,l,F,rfl,R0,q⟩:=h;have R1:=R0;obtain ⟨Fp,dx,s,pa,ra,rdx,ea,es,R⟩:=R1;refine ⟨_,(@pO _ _ _ (@pR _ _ _ _ (qO (Qu T) hr (qH qI) (pF (pv 0) rfl)))),?_⟩;refine ⟨_,rfl,_,_,_,_,_,rfl,R.ob,T.cL,T.Iq,rfl,ra,rdx,_,rfl,R.bo,rfl,ra,rdx,ea,es,Fp,l.book,rfl,R.bo,R.he,R.en,R.re.len,fun D rs H' s' nD hD B=>?_⟩;exact q _ H' F (R0.same s') (AS.of_same s') ⟨D,rfl,nD,(fun z=>by obtain ⟨o,h⟩:=R0.at_ z;rw [nD] at h;cases h),rs,hD,B⟩

def Zz (K:zP):Sp:=fun vs H Q _=>∃ (r s:Addr) (l:LS) (p:PS) (N:Addr->Prop),vs=[.ref r,.ref s,.int l.teeth]/\Al K N H s p/\p.place=l.ps.place/\p.off=l.ps.off/\p.cuts=l.ps.cuts/\FC K H r l/\(∀ o,p.off=some o->Ah o/\Bd 1700 o.1/\Bd 1700 o.2)/\0<l.teeth/\l.teeth<=64/\∀ H',AE H H'->Q (.bl true) H'
theorem Qo (T:Txt K mg):zH P w K mg base "_law_stand" ["_law_found","_law_s","_law_teeth_here"] 4 (Zz K):=by
 refine Ad T.T0 Jd (fun vs H Q E h=>?_) (fun f cdv A outer s H vs Q E hr h=>?_)
 ·obtain ⟨r,s,l,p,N,rfl,_⟩:=h
  rfl
 obtain ⟨r,s,l,p,N,rfl,⟨t,pi,w,pl,ov,cu,tu,mo,S⟩,e1,e2,e3,⟨c,v,g,h1,h2,h3,h4⟩,hoff,n0,n64,q⟩:=h;refine ⟨_,(@pK _ _ _ _ _ (qM (BQ (A5 (qZ (qJ DX (by rfl) T.B5 PyProof.Rows.boot_isinstance (pA (pv 0) (pA (Dm (by rfl) T.Dt PyProof.Rows.boot_tuple (v:=.ty "tuple") rfl) pI))))) (BQ (qR (Bm (qJ qL (by rfl) T.At PySem.boot_len (pA (pv 0) pI)) pZ)) (B3 (A5 (qZ (pD (Ko T) hr (pA (@qD _ _ _ _ _ _ _ iT (pv 0) pZ (fun _ _=>rfl)) (pA (qN (qV hr) (pv 1) pS (fun _ _=>rfl)) pI)))))))).pt
 (@pO _ _ _ (@pR _ _ _ _ BH))
 qG)
 Au),?_⟩
 have bt:Bd 64 l.teeth:=BE (by lia) (by lia)
 refine ⟨_,rfl,_,"tuple",_,_,rfl,.tup h1,EB _,_,rfl,?_⟩;refine AN ?_;refine ⟨_,rfl,r,_,rfl,.inr (AH.of h1),_,_,rfl,rfl,_,rfl,BG (fun z=>absurd rfl z) (fun _=>?_)⟩;refine ⟨_,rfl,_,_,_,_,rfl,rfl,AH.of (h1),rfl,_,rfl,_,_,rfl,.inl ⟨_,.inr "place",.inl S.ob,rfl,JO.symm⟩,c,pl,[l.ps.place.1,l.ps.place.2],rfl,h2,(by have:=S.pl';rw [e1] at this;exact this),by simp,_,rfl,AN ?_⟩
 obtain ⟨rs,hrs,prs⟩:=S.cu';rw [e3] at prs;have hof:=S.of';rw [e2] at hof hoff;refine ⟨_,(@pK _ _ _ _ _ (@qK _ _ 3 _ _ _ _ Jd.nd rfl (Or.inl rfl) BC (by rfl) (by trivial))
 (@pK _ _ _ _ _ (qM (qR (EG (qN (qV hr) (pv 1) pS (fun _ _=>rfl))))
 (@pO _ _ _ (@qK _ _ 3 _ _ _ _ Jd.nd rfl (Or.inl rfl) (@zB _ _ _ _ _ (pA (qC qT (@qD _ _ _ _ _ _ _ iT (qN (qV hr) (pv 1) pS (fun _ _=>rfl)) pZ (fun _ _=>rfl)) (qC qU (@qD _ _ _ _ _ _ _ iT (qN (qV hr) (pv 1) pS (fun _ _=>rfl)) pZ (fun _ _=>rfl)) (pv 2))) (pA (@qD _ _ _ _ _ _ _ iT (qN (qV hr) (pv 1) pS (fun _ _=>rfl)) pZ (fun _ _=>rfl)) pI))) (by rfl) (by trivial)))
 qG)
 (@pK _ _ _ _ _ (qM (A5 (qZ (pD (IU T) hr (pA (@qD _ _ _ _ _ _ _ iT (pv 0) pZ (fun _ _=>rfl)) (pA (pv 3) pI)))))
 (@pO _ _ _ (@pR _ _ _ _ BH))
 qG)
 Au))),?_⟩
 refine (fun (key:∀ (y:V) (Hd:Hp),AE H Hd->(?G:V->Hp->Prop) y Hd)=>?main) ?keyp
 case main =>
  rcases ho:l.ps.off with _|o
  case some =>
   rw [ho] at hof;obtain ⟨oa,rfl,hoa⟩:=hof;obtain ⟨oO,bo1,bo2⟩:=hoff o ho;have o2:=oO.pos;have d:0<o.2*l.teeth:=Int.mul_pos (by lia) n0
   refine ⟨_,rfl,_,_,rfl,.inl ⟨_,.inr "off",.inl S.ob,rfl,Ar.symm⟩,_,rfl,Ab ?_⟩;refine ⟨_,rfl,_,_,rfl,.inl ⟨_,.inr "off",.inl S.ob,rfl,Ar.symm⟩,_,_,_,_,rfl,rfl,hoa.sq,rfl,_,rfl,_,_,rfl,.inl ⟨_,.inr "off",.inl S.ob,rfl,Ar.symm⟩,_,_,_,_,rfl,rfl,hoa.sq,rfl,_,rfl,_,_,rfl,rfl,.inr ⟨bo2.mono (by decide),bt.mono (by decide)⟩,_,_,rfl,rfl,d,_,rfl,_,_,rfl,.inl ⟨_,.inr "off",.inl S.ob,rfl,Ar.symm⟩,_,_,_,_,rfl,rfl,hoa.sq,rfl,(by exact My.AL),fun m hm=>?_⟩
   have hsh:l.shown=some (o.1%(o.2*l.teeth),o.2):=by unfold LS.shown;rw [ho];show some (AI (o.1%(l.teeth*o.2)) o.2)=_;rw [Yh oO]
   rw [hsh] at h3;obtain ⟨va,ev,hva⟩:=h3;have sm:=sN hm (.tup [.int (o.1%(o.2*l.teeth)),.int o.2]);refine ⟨_,rfl,_,_,_,_,rfl,rfl,AH.of ((sm _ _ h1)),rfl,_,rfl,_,_,rfl,.inr ⟨va,m,[o.1%(o.2*l.teeth),o.2],ev,rfl,hva.mono sm,.inl uS,by simp⟩,_,rfl,AN ?_⟩
   generalize V.ref m=y;exact key y _ sm
  case none =>
   rw [ho] at hof;have eo:ov = .non:=hof;have hsh:l.shown=none:=by unfold LS.shown;rw [ho];rfl
   rw [hsh] at h3;have ev:v = .non:=h3;refine ⟨_,rfl,_,_,rfl,.inl ⟨_,.inr "off",.inl S.ob,rfl,Ar.symm⟩,_,rfl,?_⟩;rw [eo];refine AN ?_;refine ⟨_,rfl,_,_,_,_,rfl,rfl,AH.of (h1),rfl,_,rfl,_,_,rfl,.inl ⟨ev,rfl⟩,_,rfl,AN ?_⟩;exact key .non H (AE.refl H)
 case keyp =>
  intro y Hd sm;refine ⟨_,(@pK _ _ _ _ _ (qM (qQ (WP (Gk hr)) (qN (qV hr) (pv 1) pS (fun _ _=>rfl)) (@zA _ _ _ _ pI) (Ax _))
 (@pO _ _ _ (@pR _ _ _ _ (C7 (BX (@qD _ _ _ _ _ _ _ iT (pv 0) pZ (fun _ _=>rfl))))))
 qG)
 (@pO _ _ _ (@pR _ _ _ _ (Gz (pD (Kt T) hr (pA (@qD _ _ _ _ _ _ _ iT (pv 0) pZ (fun _ _=>rfl)) pI)) (Fz (C7 (CO (@qD _ _ _ _ _ _ _ iT (pv 0) pZ (fun _ _=>rfl)) (@qD _ _ _ _ _ _ _ iT (@qD _ _ _ _ _ _ _ qY (qN (qV hr) (pv 1) pS (fun _ _=>rfl)) (Dn Ds pZ) (fun _ _=>rfl)) pZ (fun _ _=>rfl))))))))),?_⟩
  refine ⟨_,rfl,_,_,rfl,.inl ⟨_,.inr "cuts",.inl (sm _ _ S.ob),rfl,HL.symm⟩,(by exact My.Co),fun e2' he2=>?_⟩
  have s2:=sm.trans (sN he2 (.lst []));rcases LK l.ps.cuts with ec|⟨cs,c0,ec⟩
  ·rw [ec] at prs
   cases prs;have hl4:g = .non:=by unfold LS.last at h4;rw [ec] at h4;exact h4
   subst hl4;refine .inl ⟨cu,e2',[],[],rfl,rfl,AF.of (s2 _ _ hrs),AF.of uS,rfl,fun j a b h=>by simp at h,_,rfl,Ab ?_⟩
   exact ⟨_,rfl,_,_,_,_,rfl,rfl,AH.of ((s2 _ _ h1)),rfl,q _ s2⟩
  ·rw [ec,Bq,List.map_append] at prs
   obtain ⟨rs',r',rfl,_,hr2⟩:=Iy prs;have hl4:g = .int c0.2:=by unfold LS.last at h4;rw [ec,List.getLast?_append] at h4;exact h4
   subst hl4;refine .inr ⟨cu,e2',_,[],rfl,rfl,AF.of (s2 _ _ hrs),AF.of uS,by rw [List.length_map,List.length_append];exact Nat.succ_ne_zero _,_,rfl,AN ?_⟩
   have ea:A1 ((rs'++[r']).map V.ref) (-1)=some (.ref r'):=by rw [List.map_append];exact KH _ _
   refine ⟨_,rfl,_,_,_,_,rfl,rfl,AH.of ((s2 _ _ h1)),rfl,_,rfl,_,rfl,Ab ?_⟩;have q':=q _ s2;refine ⟨_,rfl,_,_,_,_,rfl,rfl,AH.of ((s2 _ _ h1)),rfl,_,rfl,_,_,rfl,.inl ⟨_,.inr "cuts",.inl (s2 _ _ S.ob),rfl,HL.symm⟩,_,rfl,cu,_,_,_,rfl,rfl,AF.of (s2 _ _ hrs),ea,_,_,_,_,rfl,rfl,AH.of (s2 _ _ hr2),rfl,_,_,rfl,rfl,?_⟩;rw [← decide_eq_true (show c0.2=c0.2 from rfl)] at q';exact q'

theorem RF (T:Txt K mg):zI P w K mg base (AA mg "Lathe") "nut" ["self"] 9 (CU K mg bP):=by
 obtain ⟨f,fd,F,hm,hb⟩:=T.UP;refine ⟨f,fd,F.ok1 YK (fun vs H Q E h=>?_) (fun cdv A outer s H vs Q E hr h=>?_),hm,T.cL,hb⟩
 ·obtain ⟨a,l,F,rfl,_⟩:=h
  rfl
 obtain ⟨a,l,F,rfl,R0,q⟩:=h;have R1:=R0;obtain ⟨Fp,dx,s,pa,ra,rdx,ea,es,R⟩:=R1;refine ⟨_,(@pO _ _ _ (@pR _ _ _ _ (pF (pF (pv 0) rfl) rfl))),?_⟩;obtain ⟨pdx,t,rv,w,c,fv,tc,mc,cu,Rp⟩:=R.pc;exact ⟨_,rfl,_,_,_,_,_,rfl,R.ob,T.cL,T.Ae,rfl,_,_,_,_,_,rfl,Rp.ob,T.cP,T.Dh,rfl,q _ _ F R0 (AS.refl _ _) rfl⟩

def Zp (K:zP):Sp:=fun vs H Q _=>∃ (D E:Addr),vs=[.ref D,.ref E]/\Hw K H D E/\Q (.bl true) H
theorem Kr (T:Txt K mg):zH P w K mg base "_law_rows" ["_law_found","_law_due_here"] 4 (Zp K):=by
 refine Ad T.Tx OI (fun vs H Q E h=>?_) (fun f cdv A outer s H vs Q E hr h=>?_)
 ·obtain ⟨D,E,rfl,_⟩:=h
  rfl
 obtain ⟨D,E',rfl,⟨xs,ys,h1,h2,hxy,hl,hm'⟩,q⟩:=h;refine ⟨_,(@pK _ _ _ _ _ (qM (BQ (A5 (qZ (qJ DX (by rfl) T.B5 PyProof.Rows.boot_isinstance (pA (pv 0) (pA (Dm (by rfl) T.DF PyProof.Rows.boot_list (v:=.ty "list") rfl) pI))))) (B3 (qR (Bm (qJ qL (by rfl) T.At PySem.boot_len (pA (pv 0) pI)) (qJ qL (by rfl) T.At PySem.boot_len (pA (pv 1) pI)))))).pt
 (@pO _ _ _ (@pR _ _ _ _ BH))
 qG)
 (@pK _ _ _ _ _ (CQ PassesOwn.never rfl (EI (by rfl) T.Cp (pA (qJ qL (by rfl) T.At PySem.boot_len (pA (pv 1) pI)) pI)) (BY (i:=2) OI.nd rfl (Or.inl rfl))
 (@pO _ _ _ (qM (A5 (qZ (pD (IU T) hr (pA (@qD _ _ _ _ _ _ _ qY (pv 0) (pv 2) (fun _ _=>rfl)) (pA (@qD _ _ _ _ _ _ _ qY (pv 1) (pv 2) (fun _ _=>rfl)) pI)))))
 (@pO _ _ _ (@pR _ _ _ _ BH))
 qG)))
 (@pO _ _ _ (@pR _ _ _ _ BH)))),?_⟩
 refine ⟨_,rfl,_,"list",_,_,rfl,.lst h1,EB _,_,rfl,?_⟩;refine AN ?_;refine ⟨_,rfl,D,_,rfl,.inl (AF.of h1),_,rfl,E',_,rfl,.inl (AF.of h2),_,_,rfl,rfl,_,rfl,?_⟩;refine DK (by rw [hxy]) ?_
 refine ⟨_,rfl,E',_,rfl,.inl (AF.of h2),_,rfl,by lia,by lia,?_⟩
 rw [Int.toNat_natCast];refine Fv (lo:=0) (n:=ys.length) (fun i σ H'=>∃ (k:Option V),σ=[some (.ref D),some (.ref E'),k]/\H'=H) ⟨none,rfl,rfl⟩ ?_ ?_
 ·rintro i σ H' hi ⟨k,rfl,rfl⟩
  have g1:xs[i]? = some (xs[i]'(by lia)):=List.getElem?_eq_getElem _
  have g2:ys[i]? = some ys[i]:=List.getElem?_eq_getElem _;have a1:A1 xs (0+(i:Int))=some (xs[i]'(by lia)):=by rw [Int.zero_add];exact Cy g1
  have a2:A1 ys (0+(i:Int))=some ys[i]:=by rw [Int.zero_add];exact Cy g2
  refine ⟨_,rfl,_,rfl,D,_,_,_,rfl,rfl,AF.of h1,a1,_,rfl,_,rfl,E',_,_,_,rfl,rfl,AF.of h2,a2,?_⟩;refine ⟨_,_,rfl,hm' i _ _ g1 g2,_,rfl,AN ?_⟩;exact ⟨_,rfl,rfl⟩
 ·rintro σ H' ⟨k,rfl,rfl⟩
  exact q

theorem RC (T:Txt K mg):zI P w K mg base (AA mg "Lathe") "mounted" ["self"] 9 (CU K mg (bT K)):=by
 obtain ⟨f,fd,F,hm,hb⟩:=T.UM;refine ⟨f,fd,F.ok1 YI (fun vs H Q E h=>?_) (fun cdv A outer s H vs Q E hr h=>?_),hm,T.cL,hb⟩
 ·obtain ⟨a,l,F,rfl,_⟩:=h
  rfl
 obtain ⟨a,l,F,rfl,R0,q⟩:=h;have R1:=R0;obtain ⟨Fp,dx,s,pa,ra,rdx,ea,es,R⟩:=R1;refine ⟨_,(@pO _ _ _ (@pR _ _ _ _ (pF (pF (pv 0) rfl) rfl))),?_⟩;obtain ⟨pdx,t,rv,w,c,fv,tc,mc,cu,Rp⟩:=R.pc;exact ⟨_,rfl,_,_,_,_,_,rfl,R.ob,T.cL,T.Ae,rfl,_,_,_,_,_,rfl,Rp.ob,T.cP,T.Ir,rfl,q _ _ F R0 (AS.refl _ _) ⟨t,rfl,Rp.tr⟩⟩

theorem RJ (T:Txt K mg):zI P w K mg base (AA mg "Lathe") "pitch" ["self"] 9 (CU K mg (Ol K PS.pitch)):=by
 obtain ⟨f,fd,F,hm,hb⟩:=T.UT;refine ⟨f,fd,F.ok1 YN (fun vs H Q E h=>?_) (fun cdv A outer s H vs Q E hr h=>?_),hm,T.cL,hb⟩
 ·obtain ⟨a,l,F,rfl,_⟩:=h
  rfl
 obtain ⟨a,l,F,rfl,R0,q⟩:=h;have R1:=R0;obtain ⟨Fp,dx,s,pa,ra,rdx,ea,es,R⟩:=R1;refine ⟨_,(@pO _ _ _ (@pR _ _ _ _ (pF (pF (pv 0) rfl) rfl))),?_⟩;obtain ⟨pdx,t,rv,w,c,fv,tc,mc,cu,Rp⟩:=R.pc;exact ⟨_,rfl,_,_,_,_,_,rfl,R.ob,T.cL,T.Ae,rfl,_,_,_,_,_,rfl,Rp.ob,T.cP,T.CF,rfl,q _ _ F R0 (AS.refl _ _) Rp.ra.fr⟩

theorem RS (T:Txt K mg):zI P w K mg base (AA mg "Lathe") "work" ["self"] 9 (CU K mg (HX K PS.work)):=by
 obtain ⟨f,fd,F,hm,hb⟩:=T.Ud;refine ⟨f,fd,F.ok1 YS (fun vs H Q E h=>?_) (fun cdv A outer s H vs Q E hr h=>?_),hm,T.cL,hb⟩
 ·obtain ⟨a,l,F,rfl,_⟩:=h
  rfl
 obtain ⟨a,l,F,rfl,R0,q⟩:=h;have R1:=R0;obtain ⟨Fp,dx,s,pa,ra,rdx,ea,es,R⟩:=R1;refine ⟨_,(@pO _ _ _ (@pR _ _ _ _ (pF (pF (pv 0) rfl) rfl))),?_⟩;obtain ⟨pdx,t,rv,w,c,fv,tc,mc,cu,Rp⟩:=R.pc;exact ⟨_,rfl,_,_,_,_,_,rfl,R.ob,T.cL,T.Ae,rfl,_,_,_,_,_,rfl,Rp.ob,T.cP,T.Dk,rfl,q _ _ F R0 (AS.refl _ _) ⟨w,rfl,Rp.wo⟩⟩

def Zs (K:zP) (mg:zQ):Sp:=fun vs H Q _=>∃ a p Fp,vs=[.ref a]/\An K mg Fp H a p/\Dx p/\∀ v H',AE H H'->(∃ n,v = .ref n/\AO K H' n p.screw)->Q v H'
theorem RY (T:Txt K mg):zI P w K mg base (AA mg "Piece") "screw" ["self"] 4 (Zs K mg):=by
 obtain ⟨f,fd,F,hm,hb⟩:=T.Ul;refine ⟨f,fd,F.ok1 YZ (fun vs H Q E h=>?_) (fun cdv A outer s H vs Q E hr h=>?_),hm,T.cP,hb⟩
 ·obtain ⟨a,p,Fp,rfl,_⟩:=h
  rfl
 obtain ⟨a,p,Fp,rfl,⟨dx,t,rv,w,c,fv,tc,mc,cu,R⟩,Pc0,q⟩:=h;refine ⟨_,(@pK _ _ _ _ _ (qM (qR (BX (pF (pv 0) rfl)))
 (@pO _ _ _ (@pR _ _ _ _ (Bz (by rfl) T.Ea (v:=.ref (AA mg "NOUGHT")) rfl)))
 qG)
 (@pO _ _ _ (@pR _ _ _ _ (pD (IR T) hr (pA (pF (pv 0) rfl) (pA (pF (pv 0) rfl) pI)))))),?_⟩
 have hra:=R.ra;rcases Pc0 with e|⟨ts,P⟩
 ·rw [e] at hra
  cases (show rv = .non from hra);refine ⟨_,rfl,_,_,_,_,_,rfl,R.ob,T.cP,T.CF,rfl,_,rfl,qF rfl ?_⟩;exact q _ _ (AE.refl _) ⟨_,rfl,by rw [e];exact .inr T.GK⟩
 ·rw [P.ep] at hra
  obtain ⟨rr,rfl,hra⟩:=hra;have L:=P.tr.pl;have wN:=P.workN;refine ⟨_,rfl,_,_,_,_,_,rfl,R.ob,T.cP,T.CF,rfl,_,rfl,qE (fun z=>by cases z) ?_⟩
  refine ⟨_,rfl,_,_,_,_,_,rfl,R.ob,T.cP,T.CF,rfl,_,rfl,_,_,_,_,_,rfl,R.ob,T.cP,T.Dk,rfl,rr,w,(AB ts).1,(AB ts).2,p.work.1,p.work.2,rfl,.inl hra,R.wo,L.bp.mono (by decide),L.bq.mono (by decide),wN.1.mono (by decide),wN.2.mono (by decide),P.tr.rok.ne,P.w.ne,fun n hn=>?_⟩
  refine q _ _ (sN hn _) ⟨n,rfl,.inl ?_⟩;have e:p.screw=AX (AB ts) p.work:=by unfold PS.screw;rw [P.ep]
  rw [e];exact uS

theorem RL (T:Txt K mg):zI P w K mg base (AA mg "Lathe") "screw" ["self"] 9 (CU K mg (HX K PS.screw)):=by
 obtain ⟨f,fd,F,hm,hb⟩:=T.UV;refine ⟨f,fd,F.ok1 YO (fun vs H Q E h=>?_) (fun cdv A outer s H vs Q E hr h=>?_),hm,T.cL,hb⟩
 ·obtain ⟨a,l,F,rfl,_⟩:=h
  rfl
 obtain ⟨a,l,F,rfl,R0,q⟩:=h;have R1:=R0;obtain ⟨Fp,dx,s,pa,ra,rdx,ea,es,R⟩:=R1;refine ⟨_,(@pO _ _ _ (@pR _ _ _ _ (qO (RY T) hr (qH qI) (pF (pv 0) rfl)))),?_⟩;obtain ⟨pdx,t,rv,w,c,fv,tc,mc,cu,Rp⟩:=R.pc;exact ⟨_,rfl,_,_,_,_,_,rfl,R.ob,T.cL,T.Ae,rfl,pa,pdx,_,rfl,Rp.ob,rfl,pa,l.ps,Fp,rfl,R.pc,R.re.pco,fun v H' s' hv=>q v H' F (R0.same s') (AS.of_same s') hv⟩

theorem RG (T:Txt K mg):zI P w K mg base (AA mg "Lathe") "off" ["self"] 9 (CU K mg (Ol K PS.off)):=by
 obtain ⟨f,fd,F,hm,hb⟩:=T.UQ;refine ⟨f,fd,F.ok1 YL (fun vs H Q E h=>?_) (fun cdv A outer s H vs Q E hr h=>?_),hm,T.cL,hb⟩
 ·obtain ⟨a,l,F,rfl,_⟩:=h
  rfl
 obtain ⟨a,l,F,rfl,R0,q⟩:=h;have R1:=R0;obtain ⟨Fp,dx,s,pa,ra,rdx,ea,es,R⟩:=R1;refine ⟨_,(@pO _ _ _ (@pR _ _ _ _ (qO (FM T) hr (qH qI) (pF (pv 0) rfl)))),?_⟩;obtain ⟨pdx,t,rv,w,c,fv,tc,mc,cu,Rp⟩:=R.pc;exact ⟨_,rfl,_,_,_,_,_,rfl,R.ob,T.cL,T.Ae,rfl,pa,pdx,_,rfl,Rp.ob,rfl,pa,l.ps,Fp,rfl,R.pc,R.re.pco,fun v H' s' hv=>q v H' F (R0.same s') (AS.of_same s') hv.fr⟩

theorem RQ (T:Txt K mg):zI P w K mg base (AA mg "Lathe") "turned" ["self"] 9 (CU K mg (HX K PS.turned)):=by
 obtain ⟨f,fd,F,hm,hb⟩:=T.Ub;refine ⟨f,fd,F.ok1 YR (fun vs H Q E h=>?_) (fun cdv A outer s H vs Q E hr h=>?_),hm,T.cL,hb⟩
 ·obtain ⟨a,l,F,rfl,_⟩:=h
  rfl
 obtain ⟨a,l,F,rfl,R0,q⟩:=h;have R1:=R0;obtain ⟨Fp,dx,s,pa,ra,rdx,ea,es,R⟩:=R1;refine ⟨_,(@pO _ _ _ (@pR _ _ _ _ (pF (pF (pv 0) rfl) rfl))),?_⟩;obtain ⟨pdx,t,rv,w,c,fv,tc,mc,cu,Rp⟩:=R.pc;exact ⟨_,rfl,_,_,_,_,_,rfl,R.ob,T.cL,T.Ae,rfl,_,_,_,_,_,rfl,Rp.ob,T.cP,T.Dj,rfl,q _ _ F R0 (AS.refl _ _) ⟨tc,rfl,Rp.tu⟩⟩

theorem RE (T:Txt K mg):zI P w K mg base (AA mg "Lathe") "moved" ["self"] 9 (CU K mg (HX K PS.moved)):=by
 obtain ⟨f,fd,F,hm,hb⟩:=T.UO;refine ⟨f,fd,F.ok1 YJ (fun vs H Q E h=>?_) (fun cdv A outer s H vs Q E hr h=>?_),hm,T.cL,hb⟩
 ·obtain ⟨a,l,F,rfl,_⟩:=h
  rfl
 obtain ⟨a,l,F,rfl,R0,q⟩:=h;have R1:=R0;obtain ⟨Fp,dx,s,pa,ra,rdx,ea,es,R⟩:=R1;refine ⟨_,(@pO _ _ _ (@pR _ _ _ _ (pF (pF (pv 0) rfl) rfl))),?_⟩;obtain ⟨pdx,t,rv,w,c,fv,tc,mc,cu,Rp⟩:=R.pc;exact ⟨_,rfl,_,_,_,_,_,rfl,R.ob,T.cL,T.Ae,rfl,_,_,_,_,_,rfl,Rp.ob,T.cP,T.Ee,rfl,q _ _ F R0 (AS.refl _ _) ⟨mc,rfl,Rp.mo⟩⟩

theorem RI (T:Txt K mg):zI P w K mg base (AA mg "Lathe") "passes" ["self"] 9 (CU K mg bQ):=by
 obtain ⟨f,fd,F,hm,hb⟩:=T.US;refine ⟨f,fd,F.ok1 YM (fun vs H Q E h=>?_) (fun cdv A outer s H vs Q E hr h=>?_),hm,T.cL,hb⟩
 ·obtain ⟨a,l,F,rfl,_⟩:=h
  rfl
 obtain ⟨a,l,F,rfl,R0,q⟩:=h;have R1:=R0;obtain ⟨Fp,dx,s,pa,ra,rdx,ea,es,R⟩:=R1;refine ⟨_,(@pO _ _ _ (@pR _ _ _ _ (zG FG (by rfl) T.DF PyProof.Rows.boot_list (pA (pF (pF (pv 0) rfl) rfl) pI)))),?_⟩
 obtain ⟨pdx,t,rv,w,c,fv,tc,mc,cu,Rp⟩:=R.pc;obtain ⟨rs,hrs,prs⟩:=Rp.cu;refine ⟨_,rfl,_,_,_,_,_,rfl,R.ob,T.cL,T.Ae,rfl,_,_,_,_,_,rfl,Rp.ob,T.cP,T.Di,rfl,cu,_,rfl,.inl (AF.of hrs),fun D hD=>?_⟩;have s1:=sN hD (.lst (rs.map V.ref));exact q _ _ F (R0.same s1) (AS.of_same s1) ⟨D,rfl,hD,(fun z=>by obtain ⟨o,h⟩:=R0.at_ z;rw [hD] at h;cases h),⟨rs,uS,Ix s1 prs⟩⟩

def Z0 (K:zP) (mg:zQ):Sp:=fun vs H Q _=>∃ (a s:Addr) (l:LS) (F:Addr->Prop),vs=[.ref a,.ref s]/\Aa K mg H a l F/\Al K (fun b=>¬ F b) H s l.ps/\∀ H' F',Aa K mg H' a l F'->AS F F' H H'->Q (.bl true) H'
theorem Qp (T:Txt K mg):zH P w K mg base "_law_state" ["_law_lathe","_law_s"] 10 (Z0 K mg):=by
 refine Ad T.T1 Fc (fun vs H Q E h=>?_) (fun f cdv A outer s H vs Q E hr h=>?_)
 ·obtain ⟨a,s,l,F,rfl,_⟩:=h
  rfl
 obtain ⟨a,s,l,F,rfl,R,S0,q⟩:=h;refine ⟨_,(@pK _ _ _ _ _ (@qK _ _ 2 _ _ _ _ Fc.nd rfl (Or.inl rfl) (@zB _ _ _ _ _ (pA pZ (pA pZ pI))) (by rfl) (by trivial))
 (@pK _ _ _ _ _ (qM (qR (EG (qN (qV hr) (pv 1) pS (fun _ _=>rfl))))
 (@pO _ _ _ (@qK _ _ 2 _ _ _ _ Fc.nd rfl (Or.inl rfl) (pD (Kp T) hr (pA (qN (qV hr) (pv 1) pS (fun _ _=>rfl)) (pA (qN (qV hr) (pv 1) pS (fun _ _=>rfl)) pI))) (by rfl) (by trivial)))
 qG)
 Au)),?_⟩
 obtain ⟨t,pi,w,pl,ov,cu,tu,mo,S⟩:=id S0;have Re:=R.reach;have lt:l.ps.train.length<=1000:=by
  rcases Re.pco with e|⟨ts,P⟩
  ·rw [e];exact Nat.zero_le _
  ·have:=P.tr.len;rw [P.et];lia
 refine (fun (key:∀ (sp:Addr) (Hd:Hp),(AE H Hd/\AO K Hd sp l.ps.screw)->(?G:Addr->Hp->Prop) sp Hd)=>?main) ?keyp
 case main =>
  refine ⟨(by exact My.AL),fun n0 h0=>?_⟩
  have u0:=sN h0 (.tup [.int 0,.int 1]);have hpi:=S.pi';rcases Re.pco with ep|⟨ts,P⟩
  ·skip
   rw [ep] at hpi;cases (show pi = .non from hpi);refine ⟨_,rfl,_,_,rfl,.inl ⟨_,.inr "pitch",.inl (u0 _ _ S.ob),rfl,A9.symm⟩,_,rfl,AN ?_⟩;exact key n0 _ ⟨u0,by rw [ep];exact AO.made h0 (0,1)⟩
  ·skip
   rw [P.ep] at hpi;obtain ⟨pp,rfl,hpp⟩:=hpi;have L:=P.tr.pl;have wN:=P.workN;refine ⟨_,rfl,_,_,rfl,.inl ⟨_,.inr "pitch",.inl (u0 _ _ S.ob),rfl,A9.symm⟩,_,rfl,Ab ?_⟩;refine ⟨_,rfl,_,_,rfl,.inl ⟨_,.inr "pitch",.inl (u0 _ _ S.ob),rfl,A9.symm⟩,_,rfl,_,_,rfl,.inl ⟨_,.inr "work",.inl (u0 _ _ S.ob),rfl,JP.symm⟩,pp,w,(AB ts).1,(AB ts).2,l.ps.work.1,l.ps.work.2,rfl,hpp.mono u0,S.wo.mono u0,L.bp.mono (by decide),L.bq.mono (by decide),wN.1.mono (by decide),wN.2.mono (by decide),by have:=P.tr.rok.pos;lia,by have:=P.w.pos;lia,fun sp h1=>?_⟩
   have u1:=u0.trans (sN h1 (.tup [.int (AX (AB ts) l.ps.work).1,.int (AX (AB ts) l.ps.work).2]));have es:l.ps.screw=AX (AB ts) l.ps.work:=by unfold PS.screw;rw [P.ep]
   exact key sp _ ⟨u1,by rw [es];exact AO.made h1 (AX (AB ts) l.ps.work)⟩
 case keyp =>
  rintro sp Hd ⟨u,hsp⟩
  have R0:=R.same u;have f0:=AS.of_same (F:=F) u;obtain ⟨dx0,fs0,ins0,no0⟩:=R0.ins;refine ⟨_,(@pK _ _ _ _ _ (@qK _ _ 3 _ _ _ _ Fc.nd rfl (Or.inl rfl) (@zA _ _ _ _ A2) (by rfl) (by trivial))
 Au),?_⟩
  refine ⟨_,(pA (qO (RC T) hr By (pv 0)) A2),_,rfl,a,dx0,fs0,rfl,ins0,no0 "mounted" (by decide +kernel),a,l,_,rfl,R0,fun v1 H1 F1 R1 g1 k1=>?_⟩
  obtain ⟨dx1,fs1,ins1,no1⟩:=R1.ins;have f1:=f0.trans g1;have hsp:=hsp.tups g1.tup;refine ⟨_,(pA (qO (RJ T) hr By (pv 0)) A2),_,rfl,a,dx1,fs1,rfl,ins1,no1 "pitch" (by decide +kernel),a,l,_,rfl,R1,fun v2 H2 F2 R2 g2 k2=>?_⟩
  obtain ⟨dx2,fs2,ins2,no2⟩:=R2.ins;have f2:=f1.trans g2;have hsp:=hsp.tups g2.tup;refine ⟨_,(pA (qO (RS T) hr By (pv 0)) A2),_,rfl,a,dx2,fs2,rfl,ins2,no2 "work" (by decide +kernel),a,l,_,rfl,R2,fun v3 H3 F3 R3 g3 k3=>?_⟩
  obtain ⟨dx3,fs3,ins3,no3⟩:=R3.ins;have f3:=f2.trans g3;have hsp:=hsp.tups g3.tup;refine ⟨_,(pA (qO (RL T) hr By (pv 0)) A2),_,rfl,a,dx3,fs3,rfl,ins3,no3 "screw" (by decide +kernel),a,l,_,rfl,R3,fun v4 H4 F4 R4 g4 k4=>?_⟩
  obtain ⟨dx4,fs4,ins4,no4⟩:=R4.ins;have f4:=f3.trans g4;have hsp:=hsp.tups g4.tup;refine ⟨_,(pA (qO (RG T) hr By (pv 0)) A2),_,rfl,a,dx4,fs4,rfl,ins4,no4 "off" (by decide +kernel),a,l,_,rfl,R4,fun v5 H5 F5 R5 g5 k5=>?_⟩
  obtain ⟨dx5,fs5,ins5,no5⟩:=R5.ins;have f5:=f4.trans g5;have hsp:=hsp.tups g5.tup;refine ⟨_,(pA (qO (RQ T) hr By (pv 0)) A2),_,rfl,a,dx5,fs5,rfl,ins5,no5 "turned" (by decide +kernel),a,l,_,rfl,R5,fun v6 H6 F6 R6 g6 k6=>?_⟩
  obtain ⟨dx6,fs6,ins6,no6⟩:=R6.ins;have f6:=f5.trans g6;have hsp:=hsp.tups g6.tup;refine ⟨_,(pA (qO (RE T) hr By (pv 0)) pI),_,rfl,a,dx6,fs6,rfl,ins6,no6 "moved" (by decide +kernel),a,l,_,rfl,R6,fun v7 H7 F7 R7 g7 k7=>?_⟩
  obtain ⟨dx7,fs7,ins7,no7⟩:=R7.ins;have f7:=f6.trans g7;have hsp:=hsp.tups g7.tup;refine ⟨(by exact My.Oz),fun D hD=>?_⟩
  have uD:=sN hD (.lst [v1,v2,v3,v4,v5,v6,v7]);have S7:=(S0.fit f7).same uD;obtain ⟨t',pi',w',pl',ov',cu',tu',mo',Z⟩:=id S7;refine ⟨_,(@pK _ _ _ _ _ (@qK _ _ 4 _ _ _ _ Fc.nd rfl (Or.inl rfl) (@zA _ _ _ _ (pA (qN (qV hr) (pv 1) pS (fun _ _=>rfl)) (pA (qN (qV hr) (pv 1) pS (fun _ _=>rfl)) (pA (qN (qV hr) (pv 1) pS (fun _ _=>rfl)) (pA (pv 2) (pA (qN (qV hr) (pv 1) pS (fun _ _=>rfl)) (pA (qN (qV hr) (pv 1) pS (fun _ _=>rfl)) (pA (qN (qV hr) (pv 1) pS (fun _ _=>rfl)) pI)))))))) (by rfl) (by trivial))
 Au),?_⟩
  refine ⟨_,rfl,_,_,rfl,.inl ⟨_,.inr "train",.inl Z.ob,rfl,XO.symm⟩,_,rfl,_,_,rfl,.inl ⟨_,.inr "pitch",.inl Z.ob,rfl,A9.symm⟩,_,rfl,_,_,rfl,.inl ⟨_,.inr "work",.inl Z.ob,rfl,JP.symm⟩,_,rfl,_,rfl,_,_,rfl,.inl ⟨_,.inr "off",.inl Z.ob,rfl,Ar.symm⟩,_,rfl,_,_,rfl,.inl ⟨_,.inr "turned",.inl Z.ob,rfl,FZ.symm⟩,_,rfl,_,_,rfl,.inl ⟨_,.inr "moved",.inl Z.ob,rfl,JN.symm⟩,(by exact My.Oz),fun E1 hE=>?_⟩
  have uE:=sN hE (.lst [.ref t',pi',.ref w',.ref sp,ov',.ref tu',.ref mo']);have R8:=R7.same (uD.trans uE);have oD:=(R7.made hD (.lst [v1,v2,v3,v4,v5,v6,v7])).same uE;have oE:=(R7.same uD).made hE (.lst [.ref t',pi',.ref w',.ref sp,ov',.ref tu',.ref mo']);obtain ⟨dx8,fs8,ins8,no8⟩:=R8.ins;refine ⟨_,(@pK _ _ _ _ _ (@qK _ _ 5 _ _ _ _ Fc.nd rfl (Or.inl rfl) (qO (RF T) hr By (pv 0)) (by rfl) (by trivial))
 Au),?_⟩
  refine ⟨_,rfl,a,dx8,fs8,rfl,ins8,no8 "nut" (by decide +kernel),a,l,_,rfl,R8,fun v9 H9 F9 R9 g9 k9=>?_⟩
  cases (show v9 = .bl l.ps.closed from k9);have oD9:=oD.fit g9;have oE9:=oE.fit g9;have f8:=(f7.trans (AS.of_same (F:=F7) (uD.trans uE))).trans g9;have S9:=(S7.same uE).fit g9;have Z9:=(Z.same uE).frame (fun b o n z=>⟨g9.keep b o z n,g9.out z n⟩) g9.tup;have z7:Ai H7 H9:=fun b xs h=>g9.tup b xs (uE b _ (uD b _ h));have z6:Ai H6 H9:=fun b xs h=>z7 b xs (g7.tup b xs h);have z5:Ai H5 H9:=fun b xs h=>z6 b xs (g6.tup b xs h);have z4:Ai H4 H9:=fun b xs h=>z5 b xs (g5.tup b xs h);have z3:Ai H3 H9:=fun b xs h=>z4 b xs (g4.tup b xs h);have z2:Ai H2 H9:=fun b xs h=>z3 b xs (g3.tup b xs h);have z1:Ai H1 H9:=fun b xs h=>z2 b xs (g2.tup b xs h);have hsp9:=hsp.tups z7;obtain ⟨b1,rfl,k1⟩:=k1;obtain ⟨b3,rfl,k3⟩:=k3;obtain ⟨b4,rfl,k4⟩:=k4;obtain ⟨b6,rfl,k6⟩:=k6;obtain ⟨b7,rfl,k7⟩:=k7;have fr:∀ {a b:Addr} {x:Q2},AO K H9 a x->AO K H9 b x->E8 K H9 (.ref a) (.ref b):=fun {a b x} h1 h2=>.inr ⟨a,b,[x.1,x.2],rfl,rfl,h1,h2,by simp⟩
  have rows:Hw K H9 D E1:=by
   refine ⟨[.ref b1,v2,.ref b3,.ref b4,v5,.ref b6,.ref b7],[.ref t',pi',.ref w',.ref sp,ov',.ref tu',.ref mo'],oD9.1,oE9.1,rfl,by show 7<=1000;decide,fun i x y hx hy=>?_⟩
   match i,hx,hy with
   | 0,hx,hy=>cases hx;cases hy;exact .inr ⟨b1,t',l.ps.train,rfl,rfl,k1.tups z1,Z9.tr,lt⟩
   | 1,hx,hy=>cases hx;cases hy;exact E8.fr (k2.tups z2) Z9.pi'
   | 2,hx,hy=>cases hx;cases hy;exact fr (k3.tups z3) Z9.wo
   | 3,hx,hy=>cases hx;cases hy;exact fr (k4.tups z4) hsp9
   | 4,hx,hy=>cases hx;cases hy;exact E8.fr (k5.tups z5) Z9.of'
   | 5,hx,hy=>cases hx;cases hy;exact fr (k6.tups z6) Z9.tu'
   | 6,hx,hy=>cases hx;cases hy;exact fr (k7.tups z7) Z9.mo'
  refine ⟨_,(@pK _ _ _ _ _ (qM (BQ (A5 (qZ (pD (Kr T) hr (pA (pv 3) (pA (pv 4) pI))))) (BQ (A5 (qZ (qJ DX (by rfl) T.B5 PyProof.Rows.boot_isinstance (pA (pv 5) (pA (Dm (by rfl) T.O0 PyProof.Rows.boot_bool (v:=.ty "bool") rfl) pI))))) (B3 (qQ Gx (pv 5) (qN (qV hr) (pv 1) pS (fun _ _=>rfl)) (Ax _))))).pt
 (@pO _ _ _ (@pR _ _ _ _ BH))
 qG)
 (@pO _ _ _ (@pR _ _ _ _ (pD (Kr T) hr (pA (qO (RI T) hr By (pv 0)) (pA (qN (qV hr) (pv 1) pS (fun _ _=>rfl)) pI)))))),?_⟩
  refine ⟨_,rfl,_,rfl,D,E1,rfl,rows,_,rfl,AN ?_⟩;refine ⟨_,rfl,_,"bool",_,_,rfl,.bl _,EB _,_,rfl,AN ?_⟩;refine ⟨_,rfl,_,rfl,_,_,rfl,.inl ⟨_,.inr "closed",.inl Z9.ob,rfl,Aw.symm⟩,rfl,_,rfl,BG (fun z=>absurd rfl z) (fun _=>?_)⟩;obtain ⟨dx9,fs9,ins9,no9⟩:=R9.ins;refine ⟨_,rfl,a,dx9,fs9,rfl,ins9,no9 "passes" (by decide +kernel),a,l,_,rfl,R9,fun v10 H10 F10 R10 g10 k10=>?_⟩
  obtain ⟨D2,rfl,_,_,hD2⟩:=k10;have Z10:=Z9.frame (fun b o n z=>⟨g10.keep b o z n,g10.out z n⟩) g10.tup;have lc:=IN l;have lb:=Re.len;refine ⟨_,rfl,_,_,rfl,.inl ⟨_,.inr "cuts",.inl Z10.ob,rfl,HL.symm⟩,D2,cu',rfl,bU hD2 Z10.cu' (by rw [Bq,List.length_map];lia) (fun t ht=>by obtain ⟨c,_,rfl⟩:=List.mem_map.mp ht;simp),q _ _ R10 (f8.trans g10)⟩

def Ys (K:zP) (mg:zQ):Sp:=fun vs H Q _=>∃ (a s E:Addr) (us:List Addr) (l:LS) (F:Addr->Prop),vs=[.ref a,.ref s,.int l.teeth,.ref E]/\Aa K mg H a l F/\Al K (fun b=>¬ F b) H s l.ps/\H E=some (.lst (us.map V.ref))/\¬ F E/\BT K H l.book us/\∀ H' F',Aa K mg H' a l F'->AS F F' H H'->Q (.bl true) H'
theorem Kk (T:Txt K mg):zH P w K mg base "_law_all" ["_law_lathe","_law_s","_law_teeth_here","_law_good"] 11 (Ys K mg):=by
 refine Ad T.TY Xv (fun vs H Q E h=>?_) (fun f cdv A outer s H vs Q E hr h=>?_)
 ·obtain ⟨a,s,E,us,l,F,rfl,_⟩:=h
  rfl
 obtain ⟨a,s,E',us,l,F,rfl,R,S,hE,nE,Bk,q⟩:=h;refine ⟨_,(@pK _ _ _ _ _ (qM (BQ (A5 (qZ (pD (Qo T) hr (pA (qO (Ku T) hr By (pv 0)) (pA (pv 1) (pA (pv 2) pI)))))) (B3 (A5 (qZ (pD (Qp T) hr (pA (pv 0) (pA (pv 1) pI))))))).pt
 (@pO _ _ _ (@pR _ _ _ _ BH))
 qG)
 (@pO _ _ _ (@pR _ _ _ _ (pD (QY T) hr (pA (qO (Qx T) hr By (pv 0)) (pA (pv 3) pI)))))),?_⟩
 have Re:=R.reach;have G:=Re.good;have n2:=G.n2;obtain ⟨dx,fs,ins,no⟩:=R.ins;refine ⟨_,rfl,a,dx,fs,rfl,ins,no "stand" (by decide +kernel),a,l,F,rfl,R,fun v1 H1 F1 R1 f1 k1=>?_⟩
 obtain ⟨r1,rfl,st1⟩:=k1;have S1:=S.fit f1;refine ⟨_,rfl,_,rfl,r1,s,l,l.ps,_,rfl,S1,rfl,rfl,rfl,st1,Re.pco.offOk,by lia,G.n64,fun H2 s2=>⟨_,rfl,AN ?_⟩⟩
 refine ⟨_,rfl,_,rfl,a,s,l,F1,rfl,R1.same s2,S1.same s2,fun H3 F3 R3 f3=>⟨_,rfl,AN ?_⟩⟩;have fa:=(f1.trans (AS.of_same (F:=F1) s2)).trans f3;obtain ⟨dx3,fs3,ins3,no3⟩:=R3.ins;refine ⟨_,rfl,a,dx3,fs3,rfl,ins3,no3 "book" (by decide +kernel),a,l,F3,rfl,R3,fun v4 H4 F4 R4 f4 k4=>?_⟩
 obtain ⟨D,rfl,_,_,rs,hD,B4⟩:=k4;have fb:=fa.trans f4;have lb:=Re.len;exact ⟨_,rfl,D,E',l.book,rs,us,rfl,hD,fb.keep _ _ hE nE,B4,Bk.tups fb.tup,by lia,Re.mounts,q _ _ R4 fb⟩

def Yz (K:zP):Sp:=fun vs H Q _=>∃ (q:Req) (wv:V) (l:LS),vs=[.str (Req.word q),wv]/\BU K H wv q/\AZ l q=none/\∀ r H',AE H H'->H r=none->(∃ wv',H' r=some (.tup [.str (Deed.word q.deed),wv'])/\CZ K H' wv' q.deed)->Q (.ref r) H'
theorem QZ (T:Txt K mg):zH P w K mg base "_law_booking" ["_law_word","_law_what"] 3 (Yz K):=by
 refine Ad T.Tf Xy (fun vs H Q E h=>?_) (fun f cdv A outer s H vs Q E hr h=>?_)
 ·obtain ⟨q,wv,l,rfl,_⟩:=h
  rfl
 obtain ⟨rq,wv,l,rfl,hv,d,q⟩:=h;refine ⟨_,(@pK _ _ _ _ _ (qM (qR (BX (pv 1)))
 (@pO _ _ _ (@pR _ _ _ _ (@zB _ _ _ _ _ (pA (pv 0) (pA BC pI)))))
 qG)
 (@pK _ _ _ _ _ (qM (qQ zF (pv 0) pS (Ax _))
 (@pO _ _ _ (@pR _ _ _ _ (@zB _ _ _ _ _ (pA (pv 0) (pA (zG FH (by rfl) T.Dt PyProof.Rows.boot_tuple (pA (pv 1) pI)) pI)))))
 qG)
 (@pO _ _ _ (@pR _ _ _ _ (@zB _ _ _ _ _ (pA (pv 0) (pA (pD (Ft T) hr (pA (@qD _ _ _ _ _ _ _ iT (pv 1) pZ (fun _ _=>rfl)) (pA (@qD _ _ _ _ _ _ _ iT (pv 1) pZ (fun _ _=>rfl)) pI))) pI))))))),?_⟩
 cases rq with
 | mount ts =>
  obtain ⟨t,rfl,ht,_,_⟩:=hv;refine ⟨_,rfl,_,rfl,qE (fun z=>by cases z) ?_⟩
  refine ⟨_,rfl,rfl,_,rfl,qF rfl ?_⟩;rcases ht with ht|ht
  ·refine ⟨_,rfl,_,rfl,t,_,rfl,.inl ⟨AF.of ht,fun M hM=>?_⟩⟩
   have u1:=sN hM (.tup (ts.map V.int));refine ⟨(by exact My.AL),fun r hr'=>?_⟩
   have u2:=sN hr' (.tup [.str (Deed.word (Req.mount ts).deed),.ref M]);exact q r _ (u1.trans u2) (u1.free hr') ⟨.ref M,uS,M,rfl,.inl (u2 _ _ uS)⟩
  ·refine ⟨_,rfl,_,rfl,t,_,rfl,.inr ⟨ht.sq,?_⟩⟩
   refine ⟨(by exact My.AL),fun r hr'=>?_⟩
   have u2:=sN hr' (.tup [.str (Deed.word (Req.mount ts).deed),.ref t]);exact q r _ u2 hr' ⟨.ref t,uS,t,rfl,ht.mono u2⟩
 | turn x y =>
  obtain ⟨t,rfl,ht,b1,b2⟩:=hv;have y1:0<y:=by
   have ok:(decide (y<1)||decide (1000<y)||Ag l.ps.turned (x,y))=false:=(CL d).ok
   rw [Bool.or_eq_false_iff,Bool.or_eq_false_iff] at ok;have:=of_decide_eq_false ok.1.1;lia
  refine ⟨_,rfl,_,rfl,qE (fun z=>by cases z) ?_⟩
  refine ⟨_,rfl,rfl,_,rfl,qE (by show ¬ V.str "turn" = V.str "mount";decide +kernel) ?_⟩
  refine ⟨_,rfl,_,rfl,_,_,_,_,rfl,rfl,ht.sq,rfl,_,rfl,_,_,_,_,rfl,rfl,ht.sq,rfl,x,y,rfl,y1,b2.mono (by decide),fun n hn=>?_⟩
  have u1:=sN hn (.tup [.int (AI x y).1,.int (AI x y).2]);refine ⟨(by exact My.AL),fun r hr'=>?_⟩
  have u2:=sN hr' (.tup [.str (Deed.word (Req.turn x y).deed),.ref n]);exact q r _ (u1.trans u2) (u1.free hr') ⟨.ref n,uS,n,rfl,.inl (u2 _ _ uS)⟩
 | move x y =>
  obtain ⟨t,rfl,ht,b1,b2⟩:=hv;have y1:0<y:=by
   have ok:(decide (y<1)||decide (1000<y)||Ag l.ps.moved (x,y))=false:=(CL d).ok
   rw [Bool.or_eq_false_iff,Bool.or_eq_false_iff] at ok;have:=of_decide_eq_false ok.1.1;lia
  refine ⟨_,rfl,_,rfl,qE (fun z=>by cases z) ?_⟩
  refine ⟨_,rfl,rfl,_,rfl,qE (by show ¬ V.str "move" = V.str "mount";decide +kernel) ?_⟩
  refine ⟨_,rfl,_,rfl,_,_,_,_,rfl,rfl,ht.sq,rfl,_,rfl,_,_,_,_,rfl,rfl,ht.sq,rfl,x,y,rfl,y1,b2.mono (by decide),fun n hn=>?_⟩
  have u1:=sN hn (.tup [.int (AI x y).1,.int (AI x y).2]);refine ⟨(by exact My.AL),fun r hr'=>?_⟩
  have u2:=sN hr' (.tup [.str (Deed.word (Req.move x y).deed),.ref n]);exact q r _ (u1.trans u2) (u1.free hr') ⟨.ref n,uS,n,rfl,.inl (u2 _ _ uS)⟩
 | cut x y =>
  obtain ⟨t,rfl,ht,b1,b2⟩:=hv;have y1:0<y:=by
   have ok:(decide (y<1)||decide (1000<y)||decide (x<=0)||Ag l.ps.turned (x,y))=false:=(CL d).ok
   rw [Bool.or_eq_false_iff,Bool.or_eq_false_iff,Bool.or_eq_false_iff] at ok;have:=of_decide_eq_false ok.1.1.1;lia
  refine ⟨_,rfl,_,rfl,qE (fun z=>by cases z) ?_⟩
  refine ⟨_,rfl,rfl,_,rfl,qE (by show ¬ V.str "cut" = V.str "mount";decide +kernel) ?_⟩
  refine ⟨_,rfl,_,rfl,_,_,_,_,rfl,rfl,ht.sq,rfl,_,rfl,_,_,_,_,rfl,rfl,ht.sq,rfl,x,y,rfl,y1,b2.mono (by decide),fun n hn=>?_⟩
  have u1:=sN hn (.tup [.int (AI x y).1,.int (AI x y).2]);refine ⟨(by exact My.AL),fun r hr'=>?_⟩
  have u2:=sN hr' (.tup [.str (Deed.word (Req.cut x y).deed),.ref n]);exact q r _ (u1.trans u2) (u1.free hr') ⟨.ref n,uS,n,rfl,.inl (u2 _ _ uS)⟩
 | wait =>
  cases (show wv = .non from hv);refine ⟨_,rfl,_,rfl,qF rfl ?_⟩;refine ⟨_,rfl,(by exact My.AL),fun r hr'=>?_⟩
  exact q r _ (sN hr' _) hr' ⟨.non,uS,rfl⟩
 | close =>
  cases (show wv = .non from hv);refine ⟨_,rfl,_,rfl,qF rfl ?_⟩;refine ⟨_,rfl,(by exact My.AL),fun r hr'=>?_⟩
  exact q r _ (sN hr' _) hr' ⟨.non,uS,rfl⟩
 | opn =>
  cases (show wv = .non from hv);refine ⟨_,rfl,_,rfl,qF rfl ?_⟩;refine ⟨_,rfl,(by exact My.AL),fun r hr'=>?_⟩
  exact q r _ (sN hr' _) hr' ⟨.non,uS,rfl⟩

structure D7 (K:zP) (mg:zQ) (x s E a W D:Addr) (ns ws:List Int) (nm:Nat) (l:LS) (F:Addr->Prop) (H:Hp) (us:List Addr):Prop where
 R:Aa K mg H x l F
 S:Al K (Cu F E) H s l.ps
 oE:Ob F H E (.lst (us.map V.ref))
 B:BT K H l.book us
 hO:Bu K F H a (ns.map V.int)
 hW:Bj F H W ws
 oD:Ob F H D (.lst (BN 6 nm))
 aE:a≠E\/∀ H',AF K H' a (ns.map V.int)
 wE:W≠E
 dE:D≠E
section
variable {x s s' E a W D:Addr} {ns ws:List Int} {nm:Nat} {l l':LS} {F F':Addr->Prop} {H H':Hp} {us:List Addr}
theorem D7.same (h:D7 K mg x s E a W D ns ws nm l F H us) (u:AE H H'):D7 K mg x s E a W D ns ws nm l F H' us:=⟨h.R.same u,h.S.same u,h.oE.same u,h.B.tups (AE.tups u),h.hO.same u,h.hW.same u,h.oD.same u,h.aE,h.wE,h.dE⟩
theorem D7.fit (h:D7 K mg x s E a W D ns ws nm l F H us) (R':Aa K mg H' x l F') (f:AS F F' H H'):D7 K mg x s E a W D ns ws nm l F' H' us:=⟨R',h.S.fitE f,h.oE.fit f,h.B.tups f.tup,h.hO.fit f,h.hW.fit f,h.oD.fit f,h.aE,h.wE,h.dE⟩
end
def O9 (K:zP) (mg:zQ) (x E5 a W D1:Addr) (n:Int) (ns ws:List Int) (nm i:Nat) (σ:St) (H':Hp):Prop:=∃ (l:LS) (F:Addr->Prop) (s:Addr) (us:List Addr) (v1 v2 v3 v4:Option V),σ=[some (.ref a),some (.ref W),some (.int n),some (.ref x),some (.ref s),some (.ref E5),v1,v2,v3,v4]/\D7 K mg x s E5 a W D1 ns ws nm l F H' us/\Qt l/\l.shop=ws/\l.teeth=n/\l.book.length<=i
def HS (K:zP):Sp:=fun vs H Q _=>∃ (a:Addr) (ns:List Int),vs=[.ref a]/\AF K H a (ns.map V.int)/\ns.length<=63/\∀ H',Q (.bl true) H'
noncomputable abbrev depth:Nat:=14
theorem WM {f:Addr} {fd:FuncData} (F:Cs K "law" "law" Fa f fd) (T:Txt K mg):Bh P w K mg base DS depth f fd ["_law_script"] (HS K):=by
 refine F.ok DB (fun vs H Q E h=>?_) (fun cdv A outer s H vs Q E hr h=>?_)
 ·obtain ⟨a,ns,rfl,_⟩:=h
  rfl
 obtain ⟨a,ns,rfl,hS,h63,q⟩:=h;refine ⟨_,(@pK _ _ _ _ _ (@qK _ _ 1 _ _ _ _ DB.nd rfl (Or.inl rfl) (pD (Qg T) hr (pA (pv 0) pI)) (by rfl) (by trivial))
 (@pK _ _ _ _ _ (@qK _ _ 2 _ _ _ _ DB.nd rfl (Or.inl rfl) (pD (Qq T) hr (pA (pv 0) pI)) (by rfl) (by trivial))
 (@pK _ _ _ _ _ (@qK _ _ 3 _ _ _ _ DB.nd rfl (Or.inl rfl) (HC (Qw T) hr By (pA (pv 1) (pA (pv 2) pI))) (by rfl) (by trivial))
 Au))),?_⟩
 refine ⟨_,rfl,a,ns,rfl,hS,fun ws W H1 S l2 l12 s1 nW hW=>?_⟩;refine ⟨_,rfl,a,ns,rfl,s1.seq hS,?_⟩;obtain ⟨n,hn⟩:∃ n,n=2+Db ns 3%63:=⟨_,rfl⟩;rw [← hn];have n0:2<=n:=by lia
 have n1:n<=64:=by lia
 have G:DH ws n:=⟨l2,l12,S,n0,n1⟩;refine ⟨_,rfl,_,rfl,fun x dx nx ndx ne=>?_⟩;have sx:AE H1 (AC (AC H1 dx (.own x)) x (.ins (AA mg "Lathe") dx [])):=fun b o e=>by rw [uN (nQ e nx),uN (nQ e ndx)];exact e
 refine ⟨x,dx,W,ws,n,rfl,uS,(by rw [uN ne,uS]),(hW.elim (fun h=>.inl (sx _ _ h)) fun h=>.inr (sx _ _ h)),by lia,S.bd,(BE (by lia) (by lia)).mono (by decide),fun _ H2 F2 R2 k2 f2=>⟨rfl,?_⟩,fun z=>absurd G z⟩
 have fit2:=AS.made nx ndx k2 f2;have hO2:Bu K F2 H2 a (ns.map V.int):=Bu.fit (F:=fun _=>False) ⟨s1.seq hS,.inl id⟩ fit2;have sh2:Bj F2 H2 W ws:=Bj.fit (F:=fun _=>False) ⟨hW,id⟩ fit2;have Qt2:Qt ⟨ws,n,[]⟩:=.new G;refine ⟨_,(@pK _ _ _ _ _ (@qK _ _ 4 _ _ _ _ DB.nd rfl (Or.inl rfl) (pD (Kq T) hr (pA (@zB _ _ _ _ _ pI) (pA BC pI))) (by rfl) (by trivial))
 (@pK _ _ _ _ _ (@qK _ _ 5 _ _ _ _ DB.nd rfl (Or.inl rfl) (@zA _ _ _ _ pI) (by rfl) (by trivial))
 Au)),?_⟩
 refine ⟨(by exact My.Co),fun e0 he0=>?_⟩
 have s3:=sN he0 (.tup []);refine ⟨e0,.non,[],none,(fun b=>¬ F2 b),rfl,.inl uS,rfl,(R2.same s3).newOk,fun s4 H4 s4' ns4 S4=>?_⟩;have s34:=s3.trans s4';refine ⟨(by exact My.Co),fun E5 hE5=>?_⟩
 have s5:=sN hE5 (.lst []);have s35:=s34.trans s5;have S5:Al K (Cu F2 E5) (AC H4 E5 (.lst [])) s4 BZ:=by
  obtain ⟨t,pi,w,pl,o,cu,tu,mo,h⟩:=S4;exact ⟨t,pi,w,pl,o,cu,tu,mo,h.frame (fun b o nn z=>⟨s5 b o z,nn,nQ z hE5⟩) (AE.tups s5)⟩
 have oE5:=(R2.same s34).made hE5 (.lst []);have aE5:=AF.apart (hO2.same s34).1 hE5;have wE5:W≠E5:=(sh2.same s34).1.elim (fun z=>nQ z hE5) (fun z=>nQ z hE5);have R5:=R2.same s35;have hO5:=hO2.same s35;have sh5:=sh2.same s35;generalize AC H4 E5 _=H5 at S5 oE5 R5 hO5 sh5 ⊢;clear s35 s34 s5 s3 s4' hE5 he0 S4 ns4;refine ⟨_,(@pK _ _ _ _ _ (CQ PassesOwn.never rfl (Ei (Eh GJ (pD (Qm T) hr (pA (pv 0) (pA pZ (pA pZ pI)))) Ej (Ek pZ))) (BY (i:=6) DB.nd rfl (Or.inl rfl))
 Au)
 Au),?_⟩
 refine ⟨_,rfl,a,ns,6,10,rfl,hO5.1,h63,by decide,by decide,by decide,by decide,fun D0 nd H7 s7 nD0 hn63 hD0=>?_⟩
 refine ⟨_,rfl,D0,_,rfl,AF.of hD0,fun D1 hD1=>?_⟩;obtain ⟨nm,nm1,nm2,ecut⟩:=aK (f:=6) (n:=nd) (k:=24);rw [show AY (BN 6 nd) none (some 24)=BN 6 nm from ecut];have s8:=s7.trans (sN hD1 (.lst (BN 6 nm)));have oD:Ob F2 (AC H7 D1 (.lst (BN 6 nm))) D1 (.lst (BN 6 nm)):=(R5.same s7).made hD1 _;have W8:D7 K mg x s4 E5 a W D1 ns ws nm ⟨ws,n,[]⟩ F2 (AC H7 D1 (.lst (BN 6 nm))) []:=⟨R5.same s8,S5.same s8,oE5.same s8,.nil,hO5.same s8,sh5.same s8,oD,aE5,wE5,Ne.symm (nQ (s7 _ _ oE5.1) hD1)⟩;refine ⟨D1,rfl,⟨_,AF.of uS⟩,Gf (K:=K) (a:=D1) (xs:=BN 6 nm) (O9 K mg x E5 a W D1 n ns ws nm)
  ⟨_,F2,s4,[],none,none,none,none,rfl,W8,Qt2,rfl,rfl,Nat.zero_le _⟩ (fun i σ H' _ ⟨_,_,_,_,_,_,_,_,_,w,_⟩=>AF.of w.oD.1) ?_ ?_⟩
 ·clear W8 oD s8 s7 R5 S5 hO5 sh5 oE5 R2 hO2 sh2 Qt2 aE5 wE5
  rintro i v σ Hc hv ⟨l,F,s,us,v1,v2,v3,v4,rfl,Wc,Ql,esh,ete,hb⟩
  obtain ⟨hi,rfl⟩:=aJ hv;refine ⟨_,(@pK _ _ _ _ _ (@qK _ _ 7 _ _ _ _ DB.nd rfl (Or.inl rfl) (pD (Fs T) hr (pA (pv 0) (pA (pv 6) pI))) (by rfl) (by trivial))
 (@pK _ _ _ _ _ (qM (BQ (A5 (qZ (pX (Kl T) hr By (pA (pv 3) (pA (pv 4) (pA (pv 1) (pA (pv 7) (pA (qJ qL (by rfl) T.At PySem.boot_len (pA (pv 5) pI)) pI)))))))) (B3 (A5 (qZ (pD (Kk T) hr (pA (pv 3) (pA (pv 4) (pA (pv 2) (pA (pv 5) pI))))))))).pt
 (@pO _ _ _ (@pR _ _ _ _ BH))
 qG)
 Au)),?_⟩
  refine ⟨_,rfl,_,rfl,a,ns,_,rfl,Wc.hO.1,by lia,by lia,?_⟩
  generalize Db ns (6+(i:Int))=cc;have lu:=Paired.length Wc.B;refine ⟨_,rfl,_,rfl,_,rfl,_,rfl,_,rfl,E5,_,rfl,.inl (AF.of Wc.oE.1),x,s,W,cc,l,F,(by rw [List.length_map,lu]),Wc.R,Wc.S.notE,by rw [esh];exact Wc.hW,fun H8 F8 R8 f8=>⟨_,rfl,AN ?_⟩⟩
  have W8:=Wc.fit R8 f8;refine ⟨_,rfl,_,rfl,_,rfl,_,rfl,x,s,E5,us,l,F8,(by rw [ete];rfl),W8.R,W8.S.notE,W8.oE.1,W8.oE.2,W8.B,fun H9 F9 R9 f9=>⟨_,rfl,AN ?_⟩⟩
  have W9:=W8.fit R9 f9;clear W8 Wc R8 f8;refine ⟨_,(@pK _ _ _ _ _ (@Ww _ _ _ _ _ _ (pD (Qi T) hr (pA (pv 7) (pA (pv 4) (pA (pv 1) pI)))) (JD rfl (FX (BY (i:=8) DB.nd rfl (Or.inl rfl)) (FX (BY (i:=9) DB.nd rfl (Or.inl rfl)) JE))) (by rfl) (by rfl) (by rfl))
 Au),?_⟩
  refine ⟨_,rfl,_,rfl,_,rfl,cc,s,W,l,_,rfl,W9.S,Ql,by lia,by rw [esh];exact W9.hW.sq,fun rq wv r H3 s3 nr hrr hv d Qn=>?_⟩
  refine ⟨r,_,rfl,AH.of hrr,rfl,_,_,rfl,_,_,rfl,rfl,?_⟩;have W3:=W9.same s3;have Re:=W3.R.reach;refine ⟨_,(@pK _ _ _ _ _ (qS (pX (Kn T) hr By (pA (pv 3) (pA (pv 8) (pA (pv 9) pI)))))
 (@pK _ _ _ _ _ (qS (EH PySem.F.plainAttrs_list PySem.F.slot_list_append PySem.F.type_list_append Ed (pv 5) (pA (pD (QZ T) hr (pA (pv 8) (pA (pv 9) pI))) pI)))
 Au)),?_⟩
  refine ⟨_,rfl,_,rfl,_,rfl,x,l,F9,rq,wv,rfl,W3.R,hv.reqV,none,d,fun r4 H4 F4 R4 f4 st4=>?_⟩;have hv4:=hv.tups f4.tup;have S4:=W3.S.fitE f4;have oE4:=W3.oE.fit f4;have B4:=W3.B.tups f4.tup;have hO4:=W3.hO.fit f4;have hW4:=W3.hW.fit f4;have oD4:=W3.oD.fit f4;refine ⟨_,rfl,.inl ⟨rfl,_,AF.of oE4.1⟩,_,rfl,_,rfl,rq,wv,l,rfl,hv4.reqV,d,fun r7 H7 s7 nr7 hr7=>?_⟩;obtain ⟨wv7,h7a,h7b⟩:=hr7;have oE7:=oE4.same s7;refine ⟨E5,_,_,rfl,rfl,oE7.1,Bb (by rw [List.length_map,lu];lia),?_⟩
  have kE:=KK (H:=H7) (D:=E5) (.lst (us.map V.ref++[.ref r7]));have tE:=kE.tups oE7.1;have R8:=(R4.same s7).beside oE7.2 kE oE7.1;have S8:=(S4.same s7).beside kE oE7.1;have B8:=((B4.tups (AE.tups s7)).tups tE).snoc (tE _ _ h7a) (h7b.tups tE);have hO8:=(hO4.same s7).beside W9.aE kE;have hW8:Bj F4 (AC H7 E5 (.lst (us.map V.ref++[.ref r7]))) W ws:=⟨(hW4.same s7).1.elim (fun z=>.inl (kE _ _ z W9.wE)) (fun z=>.inr (kE _ _ z W9.wE)),hW4.2⟩;have oD8:=(oD4.same s7).beside kE W9.dE;have oE8:Ob F4 (AC H7 E5 (.lst (us.map V.ref++[.ref r7]))) E5 (.lst ((us++[r7]).map V.ref)):=⟨by rw [uS,List.map_append];rfl,oE7.2⟩
  have hv8:=(hv4.tups (AE.tups s7)).tups tE;generalize AC H7 E5 _=H8 at R8 S8 B8 hO8 hW8 oD8 oE8 hv8 ⊢;refine ⟨_,(@pO _ _ _ (@qK _ _ 4 _ _ _ _ DB.nd rfl (Or.inl rfl) (pD (QV T) hr (pA (pv 4) (pA (pv 8) (pA (pv 9) pI)))) (by rfl) (by trivial))),?_⟩
  refine ⟨_,rfl,_,rfl,_,rfl,s,l,rq,wv,Cu F4 E5,rfl,S8,Re,d,Cu.newOk R8 oE8.1,hv8.reqV,fun s9 H9 s9s ns9 S9=>?_⟩;exact ⟨_,F4,s9,us++[r7],_,_,_,_,rfl,⟨R8.same s9s,S9,oE8.same s9s,B8.tups (AE.tups s9s),hO8.same s9s,hW8.same s9s,oD8.same s9s,W9.aE,W9.wE,W9.dE⟩,Qn,esh,ete,by rw [CS];lia⟩
 ·clear W8 oD s8 s7 R5 S5 hO5 sh5 oE5 R2 hO2 sh2 Qt2 aE5 wE5
  rintro σ Hc ⟨l,F,s,us,v1,v2,v3,v4,rfl,Wc,Ql,esh,ete,hb⟩
  have lu:=Paired.length Wc.B;refine ⟨_,(@pO _ _ _ (@pR _ _ _ _ (Gz (pX (Kl T) hr By (pA (pv 3) (pA (pv 4) (pA (pv 1) (pA pZ (pA (qJ qL (by rfl) T.At PySem.boot_len (pA (pv 5) pI)) pI)))))) (Fz (pD (Kk T) hr (pA (pv 3) (pA (pv 4) (pA (pv 2) (pA (pv 5) pI))))))))),?_⟩
  refine ⟨_,rfl,_,rfl,_,rfl,_,rfl,E5,_,rfl,.inl (AF.of Wc.oE.1),x,s,W,5,l,F,(by rw [List.length_map,lu]),Wc.R,Wc.S.notE,by rw [esh];exact Wc.hW,fun H8 F8 R8 f8=>⟨_,rfl,Ab ?_⟩⟩
  have W8:=Wc.fit R8 f8;exact ⟨_,rfl,_,rfl,_,rfl,_,rfl,x,s,E5,us,l,F8,(by rw [ete];rfl),W8.R,W8.S.notE,W8.oE.1,W8.oE.2,W8.B,fun H9 F9 R9 f9=>q _⟩

end
theorem PL {l:PySem.W.OpenLaw} {w:World} {K:zP} {h:Heap} {mg:zQ} {fa f:Addr} {oc kV doc pm cdv ct:Value} {od an:Option Addr} {osl:Array (Option Value)} (X:K.In h) (G:h.Ns mainGlobals mg) (hfa:mg "law" = some (.ref fa)) (T:Txt K mg)
  (a:PySem.W.nsIn K mainGlobals "law" = some (some (.ref f))) (hl:K.lookup f=some ⟨oc,od,.func (PySem.W.fnOf "law" "law" (DJ Fa) (CD Fa) (qA Fa) .none kV doc pm an cdv ct),osl⟩) (c:PySem.W.codeIn K cdv "law" = true) (k:PySem.W.keepIn K (.ref f)=true)
  : ∃ fd:FuncData,(∀ (s:Shared) (v:Value),BindsTo s fd ⟨[v],[]⟩ [("_law_script",v)])/\∀ base:Heap,K.In base->base.Ns mainGlobals mg->Bh l.prog w K mg base DS depth fa fd ["_law_script"] (HS K):=by
 have e:=hfa.symm.trans (PySem.W.mg_of X G a);cases e;exact ⟨_,fun s v=>.of_eq rfl,fun base _ _=>WM (EZ (st:=Fa) hl c k) T⟩
theorem cV {l:PySem.W.OpenLaw} {q:Program} {loose:List Str} {XP:(Str->Option Value)->Heap->Prop} {YP:World->Heap->Prop} {d:DefRec} {K:Params->zP} (hn:l.most=some 63) (hdf:d.params.defaults=[])
  (hY:∀ (w:World) (h:Heap),YP w h->(K w.params).In h)
  (F:∀ (w:World) (mg:zQ) (fa:Addr) (h:Heap),(K w.params).In h->h.Ns mainGlobals mg->mg d.name=some (.ref fa) ->
   ∃ fd:FuncData,(∀ (s:Shared) (u:Value),BindsTo s fd ⟨[u],[]⟩ [("_law_script",u)])/\∀ base:Heap,(K w.params).In base->base.Ns mainGlobals mg->Bh l.prog w (K w.params) mg base DS depth fa fd ["_law_script"] (HS (K w.params))) :
  PySem.W.WalkO q loose XP YP l.row.toRowW d [] (fun f vs=>PySem.call f vs) :=
 L2.cW (n:=63) (k:=depth) (x:="_law_script") (CX:=fun _=>DS) (sp:=fun w=>HS (K w.params)) hn (by decide) hdf ⟨rfl,by decide,by decide⟩ hY F (fun _ _ a ns hl _ hS=>⟨a,ns,rfl,hS,hl,fun _=>rfl⟩) fun _ _ _ _ _ z=>z
end My
namespace PySem.W.Fast
def tw10035928626896837507:=True
def tw10053904709031357879:=True
def tw10064264582083905384:=True
def tw10094840388173843312:=True
def tw10104890638260420651:=True
def tw10106311021457082109:=True
def tw10118866331054210512:=True
def tw10133501397411865885:=True
def tw10145611628247985258:=True
def tw1018344712145252275:=True
def tw1022907756136053654:=True
def tw10267179251514082404:=True
def tw10272405197064724804:=True
def tw10276418942927559537:=True
def tw10287876182287548444:=True
def tw10300334313608581828:=True
def tw10326899367941079334:=True
def tw10329980252160143640:=True
def tw1034313501551616221:=True
def tw10360524137505597613:=True
def tw10394646594134418956:=True
def tw10404389895125435443:=True
def tw10406712503667760995:=True
def tw10412901003843793328:=True
def tw10456846324646700494:=True
def tw10479443113841077241:=True
def tw10495761260461788006:=True
def tw10540202117145931183:=True
def tw10594335405453455941:=True
def tw1059595893078906117:=True
def tw10618518359939814198:=True
def tw10675412207456744422:=True
def tw1071273057639418937:=True
def tw10776221031403528997:=True
def tw10812954474780891611:=True
def tw10843888477064453875:=True
def tw10857624681564996925:=True
def tw10877322661678476240:=True
def tw10922837264996842900:=True
def tw1096712957840180506:=True
def tw10971463312877912078:=True
def tw11016323012935549303:=True
def tw11018839958293903317:=True
def tw11074969582793356315:=True
def tw11078816990300169166:=True
def tw11142053449623145453:=True
def tw11161881700059266375:=True
def tw11199977182232621304:=True
def tw11272918177728935515:=True
def tw11273592426343973219:=True
def tw11277782828790245594:=True
def tw11280679394885788484:=True
def tw11309292557724305192:=True
def tw11353415992449335474:=True
def tw11382277396916395471:=True
def tw11395901292749369502:=True
def tw11465933395639839447:=True
def tw1148326787860452170:=True
def tw11498869401433027939:=True
def tw11502654576585307527:=True
def tw11545257564825126182:=True
def tw1155359408492451015:=True
def tw11598313993686362386:=True
def tw11619514916984960662:=True
def tw11645924077799337400:=True
def tw11665664189965712155:=True
def tw11672223274436361945:=True
def tw11679882491168438538:=True
def tw117030880634748287:=True
def tw1172519190652899459:=True
def tw11741522602395363642:=True
def tw11832950772347023937:=True
def tw11833403185386825964:=True
def tw11837048773272666353:=True
def tw11862604949190180735:=True
def tw11878646065867436484:=True
def tw1192105432256350076:=True
def tw11952383786732095475:=True
def tw1196740310937767219:=True
def tw11995533471710375270:=True
def tw1200365517068841869:=True
def tw12021892596444737611:=True
def tw120598836856042465:=True
def tw12108928692200789070:=True
def tw1218038461202430724:=True
def tw12230134372722023552:=True
def tw12234259832377753394:=True
def tw12236709364424387804:=True
def tw12317523393782761703:=True
def tw1233170641447077317:=True
def tw12331996150439520037:=True
def tw12333791025866601609:=True
def tw12400207340645028191:=True
def tw12453445806098945128:=True
def tw1246232824766520511:=True
def tw12490585448040583529:=True
def tw12583586546716089994:=True
def tw12657717476795077940:=True
def tw12665452114726981581:=True
def tw12672614515044228665:=True
def tw12683044174907368346:=True
def tw12746589485009346811:=True
def tw12762129731395578600:=True
def tw12787546335270756506:=True
def tw12862311930934498025:=True
def tw12955827928062476400:=True
def tw13030494721414323784:=True
def tw13042242662463141749:=True
def tw13053885510692424042:=True
def tw13098866676932250900:=True
def tw13112320851223500384:=True
def tw13133971739609755837:=True
def tw13181303816973580782:=True
def tw13237466837403582218:=True
def tw13254209220975065455:=True
def tw13274554690096334574:=True
def tw13391595803186083126:=True
def tw13393295336089985673:=True
def tw13410381731346537017:=True
def tw13410956161047557188:=True
def tw13429450224183185580:=True
def tw13433538882115775305:=True
def tw13436834977388575716:=True
def tw13446050107751667499:=True
def tw13569231733383166213:=True
def tw1359552987607825086:=True
def tw13649456229428931975:=True
def tw13683105016017051317:=True
def tw13715369033968823310:=True
def tw13740102828681928027:=True
def tw13746288576596495945:=True
def tw13824850022630920624:=True
def tw1386692129914622108:=True
def tw13878028486212990719:=True
def tw13916814343226449541:=True
def tw13942028798890719362:=True
def tw13948298663445487933:=True
def tw13957726792639079959:=True
def tw13964723291467144944:=True
def tw13976246788472817777:=True
def tw13995766351285196895:=True
def tw14002180458358431999:=True
def tw14006931558054247581:=True
def tw14011367679215527077:=True
def tw14034490037625900510:=True
def tw14037035115456123567:=True
def tw14098925003617357629:=True
def tw14112299867109593557:=True
def tw14150049431265280521:=True
def tw14162604573530556287:=True
def tw14181257012149467299:=True
def tw14195010220099257736:=True
def tw14207010365981837322:=True
def tw14327628836733421413:=True
def tw14327757916864595666:=True
def tw14327844787197710445:=True
def tw14343099747658381369:=True
def tw14356290919719577923:=True
def tw14366764978934269899:=True
def tw14371395459581562114:=True
def tw14373336260048810955:=True
def tw14378085666018102980:=True
def tw14392332046008689942:=True
def tw14401691433880716315:=True
def tw14417906890437787171:=True
def tw14422400292291831993:=True
def tw14474541204340325645:=True
def tw14491582168058300345:=True
def tw14492794168620852700:=True
def tw1450227474923594073:=True
def tw14540011157865237459:=True
def tw14568699242037896285:=True
def tw1458481645710445554:=True
def tw14600889322128907848:=True
def tw14619069403490311978:=True
def tw14629294030542227619:=True
def tw14643417922886513618:=True
def tw14722596933449007131:=True
def tw14766015268720913141:=True
def tw14821525740125386889:=True
def tw14836497304689695870:=True
def tw14836939221803437007:=True
def tw14847944142654558654:=True
def tw14851387008229836139:=True
def tw14909992569815039910:=True
def tw14915045317097116137:=True
def tw14953734888298831769:=True
def tw14959968966940269269:=True
def tw14965067997756440499:=True
def tw14984420122741320783:=True
def tw14993546176964280941:=True
def tw15004389424596988922:=True
def tw15053187651982733253:=True
def tw15153849226108024249:=True
def tw15180415647577133806:=True
def tw15187742780956487837:=True
def tw15234953215792596808:=True
def tw15277448664576722709:=True
def tw15280470561229990237:=True
def tw15280494055154068133:=True
def tw15281752849590901990:=True
def tw15323993588279100496:=True
def tw15325352906435089862:=True
def tw15335894906905167406:=True
def tw15355470958777912164:=True
def tw15368130589920709244:=True
def tw15400765252051661125:=True
def tw15405790977409478143:=True
def tw15427538711457212686:=True
def tw15429086571853549171:=True
def tw15451034046385083377:=True
def tw15474548000597795319:=True
def tw15493188352444032305:=True
def tw15519759375308734422:=True
def tw15538137984896801419:=True
def tw15581272719325824949:=True
def tw15628249454911560332:=True
def tw15661622341020679310:=True
def tw15686503756850400971:=True
def tw15704381408957321686:=True
def tw15722753781110370916:=True
def tw15726115391776405572:=True
def tw15764835297063694886:=True
def tw1579374649646343091:=True
def tw15834992383712749628:=True
def tw15847495213479389082:=True
def tw15982410686864472422:=True
def tw16000450589673158180:=True
def tw16038161365158919006:=True
def tw16057266302138441097:=True
def tw16069745381166025005:=True
def tw16081533933457195124:=True
def tw16119786197667968912:=True
def tw16145797638776357255:=True
def tw16158279416292144613:=True
def tw16170784034736861725:=True
def tw16171669440875804335:=True
def tw1621450194646423463:=True
def tw16280485493421994664:=True
def tw16289585671582620538:=True
def tw16305982900448918371:=True
def tw1632359160085006508:=True
def tw1637348067694336595:=True
def tw16387421398496133394:=True
def tw16400054377188068934:=True
def tw16421096446052874371:=True
def tw16456849431154602580:=True
def tw16502060488045989964:=True
def tw16531442480773145203:=True
def tw1654470284290403520:=True
def tw16575087165641712493:=True
def tw16603866706017187140:=True
def tw16604603032335678962:=True
def tw16649067651882409849:=True
def tw16728695240374784487:=True
def tw16794784915750341552:=True
def tw16840312987463437898:=True
def tw16849333117782612073:=True
def tw16849894839145551136:=True
def tw16861837462853525868:=True
def tw16883790469921912775:=True
def tw16887788023726604098:=True
def tw16888559919824770939:=True
def tw16900659859332370559:=True
def tw16909851687053556871:=True
def tw16970097746990651983:=True
def tw17012820429346993766:=True
def tw170402427642541992:=True
def tw17052162595457431891:=True
def tw17064550372247095091:=True
def tw17098120128637961304:=True
def tw17199629235759243214:=True
def tw17217402984832081161:=True
def tw17239156034937894465:=True
def tw1724048649277174478:=True
def tw17243927481024354067:=True
def tw1725349623158028765:=True
def tw17256904085058431278:=True
def tw17260652793491313508:=True
def tw17264626822345748084:=True
def tw1726750538193328209:=True
def tw17276191634337733844:=True
def tw17277328612767382553:=True
def tw173762229505312488:=True
def tw17380753858519754133:=True
def tw17423478393862415949:=True
def tw17430603511636204959:=True
def tw17452515729481987671:=True
def tw17465435975838197528:=True
def tw17488928779862141084:=True
def tw1755513786722483749:=True
def tw17555438835003179800:=True
def tw17592999700485297228:=True
def tw1759869606568975460:=True
def tw17604374027233696191:=True
def tw17607437623243027395:=True
def tw1764790452634886891:=True
def tw17687472282653994502:=True
def tw17714529665842994834:=True
def tw1773839067459404917:=True
def tw17772872070385073176:=True
def tw17775493270554977588:=True
def tw17778453798865967029:=True
def tw17783164356866585028:=True
def tw17784568418513579298:=True
def tw17797968794751730753:=True
def tw17824947171431797275:=True
def tw17838272210111010714:=True
def tw17866001156335513965:=True
def tw17872538114476139969:=True
def tw17910540628424476514:=True
def tw17925904767293761387:=True
def tw17938138362127321453:=True
def tw17941742167199695505:=True
def tw17951443455648874453:=True
def tw18060229710146572947:=True
def tw18075807670561796055:=True
def tw18076558098735979082:=True
def tw18082286875760056331:=True
def tw18102771269439858154:=True
def tw18111754528418323481:=True
def tw18132188689494995967:=True
def tw18134873330154912561:=True
def tw18141692603782798055:=True
def tw18198890437337400788:=True
def tw18199746133070285212:=True
def tw18318995944042759097:=True
def tw18334729753986098018:=True
def tw18339287616806139883:=True
def tw18346472343093708867:=True
def tw18365840599065418632:=True
def tw18409519193931537784:=True
def tw18425201070069900876:=True
def tw18425415291441897298:=True
def tw2003636142449753103:=True
def tw2009618023976494370:=True
def tw2028193608958372766:=True
def tw2029106952098767805:=True
def tw2067753374266256730:=True
def tw2092491955846712967:=True
def tw2103990688357571222:=True
def tw213268293639561019:=True
def tw2134703092495934878:=True
def tw2153275351621750123:=True
def tw2162644222796659089:=True
def tw2193357495044219911:=True
def tw2202929172836046428:=True
def tw2282365097138941404:=True
def tw228677313038379871:=True
def tw2298742875038362966:=True
def tw2319025997666828379:=True
def tw2326643906133993771:=True
def tw2362602856945205838:=True
def tw2388200773247628327:=True
def tw2411538275707455999:=True
def tw2437644689187160851:=True
def tw2444307155447454550:=True
def tw2462452532095210982:=True
def tw2494760032940979152:=True
def tw2498404881124603409:=True
def tw2511698664127845601:=True
def tw2516657137352713303:=True
def tw2561022939240358586:=True
def tw2568895047393403391:=True
def tw2572414823955401097:=True
def tw2628270620300908826:=True
def tw264556774351099026:=True
def tw2722057571884883644:=True
def tw2750178155489408773:=True
def tw281938194652450869:=True
def tw2871642763498647257:=True
def tw2887929446006455203:=True
def tw2901276154171638489:=True
def tw2927132875511932887:=True
def tw2936140167760534782:=True
def tw2958311547789358470:=True
def tw3000702858665444670:=True
def tw3007675658265019809:=True
def tw3034628762949495282:=True
def tw3049381110845554312:=True
def tw3058946341025666009:=True
def tw3102841918604067562:=True
def tw3188676319587231666:=True
def tw3213990719392176497:=True
def tw3232688754038772387:=True
def tw327056499602241242:=True
def tw3299891781217866222:=True
def tw3302605398985467333:=True
def tw3347202999916592684:=True
def tw3355679729147948954:=True
def tw3405966051994898439:=True
def tw3410253455362602178:=True
def tw3446936355909977444:=True
def tw3509450218565547722:=True
def tw3549809624392177797:=True
def tw356129276123174755:=True
def tw3604738256730573441:=True
def tw3613555747005396972:=True
def tw3660053355277173225:=True
def tw3711998845830065869:=True
def tw3721440760299176365:=True
def tw3727276555408604887:=True
def tw3740961518724397246:=True
def tw378797883182348572:=True
def tw3797775717119593286:=True
def tw3798513074764855302:=True
def tw3810462784677210596:=True
def tw3816271606690520031:=True
def tw3829458992141888882:=True
def tw3851221130487531866:=True
def tw3862543018030068450:=True
def tw3873010460188259656:=True
def tw3897997192451877579:=True
def tw3911443061686299181:=True
def tw3923056841949725060:=True
def tw3959327831428104045:=True
def tw3982347591096037264:=True
def tw3986534464983167008:=True
def tw403216201169063696:=True
def tw4074053559947081149:=True
def tw4081449194589414412:=True
def tw4085651738060835583:=True
def tw4103155919655095849:=True
def tw4148516874580882756:=True
def tw4157130805149698130:=True
def tw4168536159235262855:=True
def tw4175431729303077448:=True
def tw4261195556774956813:=True
def tw4286306074337948276:=True
def tw4302734205663773538:=True
def tw4334383224881356324:=True
def tw4337245425340382265:=True
def tw4394886571772718284:=True
def tw4406650730033079403:=True
def tw441115910225238116:=True
def tw4438596880641463445:=True
def tw4452471061991941968:=True
def tw4465808787352818188:=True
def tw4476946260570956739:=True
def tw4503218329949382962:=True
def tw4553194789823120642:=True
def tw4563615661982697940:=True
def tw4563638784160416049:=True
def tw4568701056374214978:=True
def tw4606976885952851070:=True
def tw4661601129673348680:=True
def tw4688701179044533860:=True
def tw4731980582025055205:=True
def tw4752059294747142478:=True
def tw4798170175266806602:=True
def tw4810679802680962956:=True
def tw482186305223675714:=True
def tw4822719594781758543:=True
def tw4831060642988797697:=True
def tw4835687489215276107:=True
def tw4882014212853196470:=True
def tw4902906219766244303:=True
def tw4906849124808147696:=True
def tw4910555800235821853:=True
def tw4920910708896210913:=True
def tw4951092514040416965:=True
def tw4976532911481941508:=True
def tw4977644010048129086:=True
def tw4978642124567754825:=True
def tw5038824832556461231:=True
def tw511491201846096415:=True
def tw5152071907080440907:=True
def tw5188961509649986480:=True
def tw5197439510357416546:=True
def tw521413102678395667:=True
def tw5223334484518599107:=True
def tw5277674577693576554:=True
def tw5281856858382815880:=True
def tw5333835205326736579:=True
def tw5413390194022568166:=True
def tw5415642333673234695:=True
def tw5489776648986370341:=True
def tw5536396715803985397:=True
def tw5650299640101412052:=True
def tw5651594611256426366:=True
def tw5690321898652489755:=True
def tw5693911863143070298:=True
def tw5720058830176696723:=True
def tw5749777244401337544:=True
def tw5770692372634514425:=True
def tw5831567167220264080:=True
def tw5843926421144842571:=True
def tw5858495640750782964:=True
def tw5911657664357742667:=True
def tw6005912419142252980:=True
def tw600844156385334039:=True
def tw6024253504968272518:=True
def tw6041810671209402825:=True
def tw6051655130481220895:=True
def tw6052755649169691745:=True
def tw6066843123174742820:=True
def tw613759919703975418:=True
def tw6140852335191512326:=True
def tw6188041266768083144:=True
def tw6237449675630149569:=True
def tw6276211406768307249:=True
def tw6305654160326762795:=True
def tw6407249214311218989:=True
def tw6434511378521454291:=True
def tw6450261682574350636:=True
def tw6463769766116623666:=True
def tw6476268247149561864:=True
def tw6482302862740362233:=True
def tw6549920591109155360:=True
def tw6635753374597725247:=True
def tw6647272924900775532:=True
def tw6647279150627679514:=True
def tw6651360854907816048:=True
def tw6712543435426975238:=True
def tw6746924918082687950:=True
def tw6768975686222446582:=True
def tw6772130788620517496:=True
def tw6856935285689481057:=True
def tw691324976824156932:=True
def tw696433110758005300:=True
def tw6976336372650584866:=True
def tw6996626405051378649:=True
def tw7005512204407222753:=True
def tw7008513078119499695:=True
def tw7016262829736407155:=True
def tw7039099486066700538:=True
def tw7074550032937694010:=True
def tw7120129354561557503:=True
def tw7143050949266217817:=True
def tw7159404548023100996:=True
def tw7165106725596983345:=True
def tw7219419989032979111:=True
def tw7245775988815048499:=True
def tw7262737396723995949:=True
def tw7317652765482001860:=True
def tw7371453577894481974:=True
def tw7426143864979913189:=True
def tw7501603903354356031:=True
def tw7544174932160998889:=True
def tw7560364719919921914:=True
def tw7571985687763138657:=True
def tw7585579240067350069:=True
def tw7597162631021604525:=True
def tw7652508422922231649:=True
def tw7714294951098896600:=True
def tw7734543830655111643:=True
def tw7761517704466962096:=True
def tw7768765976817413264:=True
def tw7796435320649617333:=True
def tw7803957395083732178:=True
def tw782509592140621082:=True
def tw7891535677403193049:=True
def tw7924402085313960396:=True
def tw8006117523130863237:=True
def tw8017871965950395111:=True
def tw8047198522274577278:=True
def tw8058831845269733497:=True
def tw8075159706846036164:=True
def tw8098907520742361451:=True
def tw8216896055940633214:=True
def tw8242775753177085165:=True
def tw827847195061714816:=True
def tw8294026641879132333:=True
def tw8342459665465734290:=True
def tw836758116347621209:=True
def tw8407406494043301060:=True
def tw8429733081193766471:=True
def tw8459024577276986219:=True
def tw8488718199750561983:=True
def tw8525435187726137783:=True
def tw859181957315768300:=True
def tw8612076629914341172:=True
def tw8622062129955530566:=True
def tw8645295159820766504:=True
def tw8647766659683371371:=True
def tw8650092567407051025:=True
def tw8770497256515060503:=True
def tw8778790054087551864:=True
def tw8806970972403960938:=True
def tw8867532561910224424:=True
def tw8883527426796644519:=True
def tw8885727235444865873:=True
def tw8887436479872368200:=True
def tw8912059212301758164:=True
def tw8917020648627896073:=True
def tw8926470988993731311:=True
def tw902255167587680552:=True
def tw9031969463814417374:=True
def tw9076821193043859899:=True
def tw9077332145261006951:=True
def tw90837396676197009:=True
def tw9091418444008304201:=True
def tw910659468128997147:=True
def tw9116961029987245133:=True
def tw9117277823524531640:=True
def tw9148958425268609440:=True
def tw9236469936025422725:=True
def tw9338292967215773283:=True
def tw9351096903190095791:=True
def tw9375566528941683720:=True
def tw9430331807741161212:=True
def tw9458085133027732414:=True
def tw9460303322097088724:=True
def tw9462950473556667605:=True
def tw947875451400670351:=True
def tw9482000908849093195:=True
def tw9510616262443976898:=True
def tw9532954681254193111:=True
def tw9552879543879525924:=True
def tw9577866704424426613:=True
def tw9595034566902496565:=True
def tw9603008170996209449:=True
def tw9623442598750434459:=True
def tw9635439985963442012:=True
def tw964226114912829890:=True
def tw968990331560407918:=True
def tw9705268511517045258:=True
def tw9829179481987739829:=True
def tw9857465488639315278:=True
def tw9914875246692927900:=True
def tw9935574362657018959:=True
def tw994115941465445225:=True
def tw9957381969452310252:=True
def tw9994814771794808704:=True
end PySem.W.Fast
open PySem PySem.W PyProof.Rows
set_option maxRecDepth 100000 in
set_option maxHeartbeats 0 in
theorem PySem.Challenge.cw_threadlathe_k42_whole_refusals_holds : PySem.Challenge.rw_threadlathe_k42_whole_refusals.Holds := by
 w_on;o_law;k_head;(case hw=>w_witness2)
 k_fill
 refine My.cV (l:=PySem.Challenge.rw_threadlathe_k42_whole_refusals) rfl rfl (fun w h Y=>PySem.W.kIn_of Y) ?F
 case F =>
  intro w mg fa h KX G hmg
  refine' My.PL KX G hmg ?zT ?za ?zl ?zc ?zk
  (case za=>k_is)
  (case zl=>k_is)
  (case zc=>k_is)
  (case zk=>k_is)
  (case zT =>
   refine' My.Cn (nm:="Book") KX G ?za ?_;(case za=>k_is);rintro ⟨_,_⟩
   refine' My.Cn (nm:="Piece") KX G ?za ?_;(case za=>k_is);rintro ⟨_,_⟩
   refine' My.Cn (nm:="Lathe") KX G ?za ?_;(case za=>k_is);rintro ⟨_,_⟩
   refine' My.Cn (nm:="LatheError") KX G ?za ?_;(case za=>k_is);rintro ⟨_,_⟩
   refine' My.Cn (nm:="UnknownWheel") KX G ?za ?_;(case za=>k_is);rintro ⟨_,_⟩
   refine' My.Cn (nm:="NoTrain") KX G ?za ?_;(case za=>k_is);rintro ⟨_,_⟩
   refine' My.Cn (nm:="WrongNut") KX G ?za ?_;(case za=>k_is);rintro ⟨_,_⟩
   refine' My.Cn (nm:="BadNumber") KX G ?za ?_;(case za=>k_is);rintro ⟨_,_⟩
   refine' My.Cn (nm:="NoMeeting") KX G ?za ?_;(case za=>k_is);rintro ⟨_,_⟩
   refine' My.Cn (nm:="BookFull") KX G ?za ?_;(case za=>k_is);rintro ⟨_,_⟩
   refine' My.Cn (nm:="NOUGHT") KX G ?za ?_;(case za=>k_is);rintro ⟨_,_⟩
   refine' My.Cn (nm:="MOST_COUNTED") KX G ?za ?_;(case za=>k_is);rintro ⟨_,_⟩
   constructor
   all_goals first
    |(refine' My.GM KX G ?za ?zl ?zc ?zk (fun _ _ _ _ _ _ _ _=>rfl);(case za|zl|zc|zk=>k_is))
    |(refine' My.GM KX G ?za ?zl ?zc ?zk (fun _ _ _ _ _ _ _=>rfl);(case za|zl|zc|zk=>k_is))
    |(refine' My.GM KX G ?za ?zl ?zc ?zk (fun _ _ _ _ _ _ _ _ _=>rfl);(case za|zl|zc|zk=>k_is))
    |(refine' My.GM KX G ?za ?zl ?zc ?zk (fun _ _ _ _ _ _ _ _ _ _=>rfl);(case za|zl|zc|zk=>k_is))
    |(refine' My.GM KX G ?za ?zl ?zc ?zk (fun _ _ _ _ _ _ _ _ _ _ _=>rfl);(case za|zl|zc|zk=>k_is))
    |(assumption)
    |(refine' My.cK KX G ?za;(case za=>k_is))
    |(refine' My.cN ?ya ?zl;(case ya=>assumption);(case zl=>k_is))
    |(refine' My.cH ?ya ?zp ?zd ?zo ?zs;(case ya=>assumption);(case zp|zd|zo|zs=>k_is))
    |(refine' My.cM ?ya ?zn;(case ya=>assumption);(case zn=>k_is))
    |(refine' My.Jt ?ya ?zy ?zt ?za ?zi ?zl ?zc ?zk (fun _ _ _ _ _ _ _=>rfl);(case ya=>assumption);(case zy|zt|za|zi|zl|zc|zk=>k_is))
    |(refine' My.Ju ?ya ?za ?zi ?zl ?zc ?zk (fun _ _ _ _ _ _ _ _ _ _=>rfl);(case ya=>assumption);(case za|zi|zl|zc|zk=>k_is))
    |(refine' My.Ju ?ya ?za ?zi ?zl ?zc ?zk (fun _ _ _ _ _ _ _=>rfl);(case ya=>assumption);(case za|zi|zl|zc|zk=>k_is))
    |(refine' My.Jt ?ya ?zy ?zt ?za ?zi ?zl ?zc ?zk (fun _ _ _ _ _ _ _ _=>rfl);(case ya=>assumption);(case zy|zt|za|zi|zl|zc|zk=>k_is))
    |(refine' My.Ju ?ya ?za ?zi ?zl ?zc ?zk (fun _ _ _ _ _ _ _ _=>rfl);(case ya=>assumption);(case za|zi|zl|zc|zk=>k_is))
    |(refine' My.Jt ?ya ?zy ?zt ?za ?zi ?zl ?zc ?zk (fun _ _ _ _ _ _ _ _ _=>rfl);(case ya=>assumption);(case zy|zt|za|zi|zl|zc|zk=>k_is))
    |(refine' My.cO ?ya ?zx;(case ya=>assumption);(case zx=>k_exc))
    |(refine' My.cJ ?ya ?yb ?zm;(case ya=>assumption);(case yb=>assumption);(case zm=>k_is))
    |(refine' My.cG ?ya ?za ?zn ?ze ?zb ?zd ?zg ?zo;(case ya=>assumption);(case za|zn|ze|zb|zd|zg|zo=>k_is))
    |(refine' My.cI ?ya ?yb ?zx ?zm;(case ya=>assumption);(case yb=>assumption);(case zx=>k_exc);(case zm=>k_is))
    |(refine' PySem.W.mg_none_of KX G ?za;(case za=>k_is)))
