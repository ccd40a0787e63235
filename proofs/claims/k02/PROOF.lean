import PyProof.Rows.All
import Wide.FinOn
import OpenK.KLine
import PyProof.EqAt
import PyProof.EqKinds
import PyProof.TupleCall
import KE.KDictList
import KE.KDictOf
import KE.KFromBytes
import KE.KIntText
import KE.KIsAll
import KE.KItem
import KE.KLam
import KE.KNestM
import KE.KRevIter
import PyProof.CollectIter
import PySem.Challenge.RW_widekind_k02_whole_made_alike
set_option Elab.async false
set_option maxRecDepth 100000
set_option maxHeartbeats 16000000
set_option linter.all false
section
set_option hygiene false
local macro_rules
|`(#[$xs,*])=>`(⟨$xs,*⟩)
|`(tactic|omega)=>`(tactic|first|assumption|exact Nat.le_of_lt (by assumption)|exact Nat.le_trans (by assumption) (by decide)|exact Nat.lt_of_le_of_lt (by assumption) (by decide)|exact Nat.lt_of_lt_of_le (by assumption) (by assumption)|exact Nat.lt_of_le_of_lt (by assumption) (by assumption)|exact Nat.le_trans (by assumption) (by assumption)|lia|omega +splitDisjunctions)


set_option linter.all false
namespace L2
open PySem PySem.Spec PyProof.Rows
abbrev Key:=Sum Int Str
def nu:Key->Value->Bool
 | .inl k,v=>Value.isInt k v
 | .inr x,v=>Value.isStrOf x v
def Ea (w:World):Key->Int
 | .inl k=>hashInt k
 | .inr x=>hashStr w x
theorem cN:∀{k:Key} {v:Value},nu k v=true->(∃i t,k=Sum.inl i/\v=Value.int i t)\/(∃x t,k=Sum.inr x/\v=Value.str x t)
 | .inl i,v,h=>by obtain⟨t,e⟩:=Value.isInt_shape (k:=i) (v:=v) h;exact .inl #[i,t,rfl,e]
 | .inr x,v,h=>by obtain⟨t,e⟩:=Value.isStrOf_shape (x:=x) (v:=v) h;exact .inr #[x,t,rfl,e]
theorem uq (i:Int) (t:Tok):nu (.inl i) (.int i t)=true:=by simp[nu,Value.isInt]
theorem ur (x:Str) (t:Tok):nu (.inr x) (.str x t)=true:=by simp[nu,Value.isStrOf]
theorem BL (a b:Int):decide ((Sum.inl a:Key)=Sum.inl b)=(a==b):=by
 by_cases e:a=b
 .subst e;simp
 .have h:¬(Sum.inl a:Key)=Sum.inl b:=λq=>e (Sum.inl.inj q);rw[decide_eq_false h];exact(beq_eq_false_iff_ne.mpr e).symm
theorem BM (a b:Str):decide ((Sum.inr a:Key)=Sum.inr b)=decide (a=b):=by
 by_cases e:a=b
 .subst e;simp
 .have h:¬(Sum.inr a:Key)=Sum.inr b:=λq=>e (Sum.inr.inj q);rw[decide_eq_false h,decide_eq_false e]
theorem BN (a:Int) (b:Str):decide ((Sum.inl a:Key)=Sum.inr b)=false:=decide_eq_false (λq=>nomatch q)
theorem BO (a:Str) (b:Int):decide ((Sum.inr a:Key)=Sum.inl b)=false:=decide_eq_false (λq=>nomatch q)
def cH (prog:Program) (w:World):PySem.KeyKind prog w Key where
 is:=nu
 hash:=Ea w
 inj:=λv a b ha hb=>by
  rcases cN ha with⟨i,t,rfl,rfl⟩|⟨x,t,rfl,rfl⟩
  .rcases cN hb with⟨j,u,rfl,e⟩|⟨y,u,rfl,e⟩
   .injection e with e1 _;rw[e1]
   .exact nomatch e
  .rcases cN hb with⟨j,u,rfl,e⟩|⟨y,u,rfl,e⟩
   .exact nomatch e
   .injection e with e1 _;rw[e1]
 byValue:=λk v h=>by rcases cN h with⟨i,t,rfl,rfl⟩|⟨x,t,rfl,rfl⟩ <;> rfl
 pyHash:=λhv h=>by
  rcases cN hv with⟨i,t,rfl,rfl⟩|⟨x,t,rfl,rfl⟩
  .exact wpAny_pyHash_int h
  .exact wpAny_pyHash_str h
 eqBool:=λhu hv h=>by
  rcases cN hu with⟨i,t,rfl,rfl⟩|⟨x,t,rfl,rfl⟩
  .rcases cN hv with⟨j,u,rfl,rfl⟩|⟨y,u,rfl,rfl⟩
   .rw[BL] at h;exact wpAny_eqBool_int h
   .rw[BN] at h;exact SeqAt.EqAt.int_str i t y u _ _ _ _ h
  .rcases cN hv with⟨j,u,rfl,rfl⟩|⟨y,u,rfl,rfl⟩
   .rw[BO] at h;exact SeqAt.EqAt.str_int x t j u _ _ _ _ h
   .rw[BM] at h;exact wpAny_eqBool_str h
 «strs»:=λk x t v h=>by
  rcases cN h with⟨i,u,rfl,e⟩|⟨y,u,rfl,e⟩
  .exact nomatch e
  .injection e with e1 _;subst e1;cases v <;> rfl
theorem pL (prog:Program) (w:World) (i:Int) (t:Tok):(cH prog w).is (.inl i) (.int i t)=true:=uq i t
theorem pM (prog:Program) (w:World) (x:Str) (t:Tok):(cH prog w).is (.inr x) (.str x t)=true:=ur x t
inductive V where
 |dE|bl (b:Bool)|int (i:Int)|str (x:Str)|rH (b:Array UInt8)|Bc (b:UInt64)|ref (a:Addr)|ty (n:String)
 deriving DecidableEq
def RelV:V->Value->Prop
 | .dE,u=>u=Value.none
 | .bl b,u=>u=Value.bool b
 | .int i,u=>∃t,u=Value.int i t
 | .str x,u=>∃t,u=Value.str x t
 | .rH b,u=>∃t,u=Value.bytes b t
 | .Bc b,u=>∃t,u=Value.float b t
 | .ref a,u=>u=Value.ref a
 | .ty n,u=>u=Value.type n
abbrev Vals:List V->List Value->Prop:=Paired RelV
theorem Vals.length {xs:List V} {us:List Value} (r:Vals xs us):xs.length=us.length:=Paired.length r
theorem Vals.get:∀{xs:List V} {us:List Value} {i:Nat} {x:V},Vals xs us->xs[i]?=some x->∃u,us[i]?=some u/\RelV x u
 |_,_,_,_,.nil,e=>by simp at e
 |_,_,0,_,.cons r _,e=>by simp at e;subst e;exact#[_,rfl,r]
 |_,_,i+1,x,.cons _ t,e=>by obtain⟨u,h1,h2⟩:=Vals.get (i:=i) (x:=x) t (by simpa using e);exact#[u,by simpa using h1,h2]
theorem Vals.set {x:V} {u:Value} (r:RelV x u):∀{xs:List V} {us:List Value} (i:Nat),Vals xs us->Vals (xs.set i x) (us.set i u)
 |_,_,_,.nil=>.nil
 |_,_,0,.cons _ t=>.cons r t
 |_,_,i+1,.cons q t=>.cons q (Vals.set r i t)
theorem Vals.append:∀{xs ys:List V} {us w:List Value},Vals xs us->Vals ys w->Vals (xs++ys) (us++w)
 |_,_,_,_,.nil,s=>s
 |_,_,_,_,.cons r t,s=>.cons r (Vals.append t s)
theorem Vals.take:∀{xs:List V} {us:List Value} (n:Nat),Vals xs us->Vals (xs.take n) (us.take n)
 |_,_,0,_=>.nil
 |_,_,_+1,.nil=>.nil
 |_,_,n+1,.cons r t=>.cons r (Vals.take n t)
theorem Vals.drop:∀{xs:List V} {us:List Value} (n:Nat),Vals xs us->Vals (xs.drop n) (us.drop n)
 |_,_,0,r=>r
 |_,_,_+1,.nil=>.nil
 |_,_,n+1,.cons _ t=>Vals.drop n t
def gD:Option V->Option Value->Prop
 |some v,some u=>RelV v u
 |none,none=>True
 |_,_=>False
def KV {κ:Type}:List (κ×V)->List (κ×Value)->Prop:=Paired λ(p:κ×V) (q:κ×Value)=>p.1=q.1/\RelV p.2 q.2
def kV:Key->V
 | .inl i=>.int i
 | .inr x=>.str x
inductive HO where
 |lst (xs:List V)
 |tup (xs:List V)
 |dK (kvs:List (Key×V))|dT (kvs:List (List Key×V))
 |set (S:Int->Bool) (n:Nat)
 |ins (C dx:Addr) (fs:List (Str×V))
 |own (x:Addr)
 |xd (fs:List (Str×V))
 |met (f x:Addr)
 |Eb (lo hi:Int)
 |rD (o:Obj) (u:HO)
 |ke (ps:Array Value)
 |ext (φ:Heap->Prop)
abbrev Hp:=Addr->Option HO
def upd (H:Hp) (a:Addr) (o:HO):Hp:=λb=>if b=a then some o else H b
theorem ab {H:Hp} {a:Addr} {o:HO}:upd H a o a=some o:=by unfold upd;rw[if_pos rfl]
theorem ah {H:Hp} {a b:Addr} {o:HO} (h:b≠a):upd H a o b=H b:=by unfold upd;rw[if_neg h]
theorem iN {H:Hp} {a:Addr} {o u:HO}:upd (upd H a o) a u=upd H a u:=by
 funext b;unfold upd;split <;> rfl
theorem eP {H:Hp} {a b:Addr} {o u:HO} (h:H a=some o) (h':H b=some u) (d:o≠u):a≠b:=by intro e;subst e;rw[h] at h';exact d (Option.some.inj h')
theorem au {H:Hp} {a b:Addr} {o:HO} (h:H a=some o) (h':H b=none):a≠b:=by intro e;subst e;rw[h] at h';cases h'
section
variable (P:Program) (w:World)
def cv (H:Hp) (h:Heap) (a:Addr):HO->Prop
 | .lst xs=>xs.length<=sizeLine/\∃(i:List Value) (n:Nat),Vals xs i/\h.get? a=some {cls:=.type "list",data:=.seq i.toArray n}
 | .tup xs=>xs.length<=sizeLine/\∃i:List Value,Vals xs i/\IsTup h a i.toArray
 | .dK kvs=>kvs.length<=sizeLine/\(a==sysModules)=false/\∃b,KV kvs b/\h.DictOf (cH P w) a b
 | .dT kvs=>kvs.length<=sizeLine/\(a==sysModules)=false/\∃xs:List (List Key×Addr×Value),Paired (λ(p:List Key×V) (q:List Key×Addr×Value)=>p.1=q.1/\H q.2.1=some (.tup (p.1.map kV))/\RelV p.2 q.2.2) kvs xs/\∃o es e,h.get? a=some o/\o.ExactDict/\o.data=.dict es e/\es.toList=xs.map (entryOfKey (tupleKind (cH P w)))/\(xs.map (·.1)).Nodup
 | .set S n=>h.SetOf (intKind P w) a S n
 | .ins C dx fs=>H dx=some (.own a)/\fs.length<=1000/\dx≠a/\h.get? a=some (W.instObj C dx)/\∃mA,h.Ns1 dx mA/\(∀f,gD (fs.lookup f) (mA f))/\PySem.Within mA (fs.map (·.1))
 | .own _=>∃o,h.get? a=some o
 | .xd fs=>∃mA,h.Ns1 a mA/\∀f,gD (fs.lookup f) (mA f)
 | .Eb lo hi=>∃t u v,h.get? a=some {cls:=.type "range",data:=.fields [.int lo t,.int hi u,.int 1 v].toArray}
 | .rD o u=>h.get? a=some o/\cv H h a u
 | .ke ps=>h.get? a=some {cls:=.none,data:=.fields ps}
 | .met f x=>h.get? a=some (W.methodObj (.ref f) (.ref x))
 | .ext c=>c h/\(∃o,h.get? a=some o)/\∀h1 h2:Heap,c h1->(∀o,h1.get? a=some o->h2.get? a=some o)->c h2
def g9 (H:Hp) (h:Heap):Prop:=∀a o,H a=some o->cv P w H h a o
end
section
variable {P:Program} {w:World} {H H':Hp} {h h':Heap} {a:Addr} {o:HO}
theorem cv.lt (x:cv P w H h a o):a < h.objs.size:=by
 cases o with
 |lst xs=>obtain⟨_,_,_,_,e⟩:=x;exact Heap.lt_size e
 |tup xs=>obtain⟨_,_,_,p⟩:=x;exact p.lt
 |dK kvs=>obtain⟨_,_,_,_,o,_,_,e,_⟩:=x;exact Heap.lt_size e
 |dT kvs=>obtain⟨_,_,_,_,o,_,_,e,_⟩:=x;exact Heap.lt_size e
 |set S n=>obtain⟨o,_,_,_,e,_⟩:=x;exact Heap.lt_size e
 |ins C dx fs=>obtain⟨_,_,_,e,_⟩:=x;exact Heap.lt_size e
 |own y=>obtain⟨_,e⟩:=x;exact Heap.lt_size e
 |xd fs=>obtain⟨_,⟨_,_,_,e,_⟩,_⟩:=x;exact Heap.lt_size e
 |Eb lo hi=>obtain⟨_,_,_,e⟩:=x;exact Heap.lt_size e
 |rD O u=>obtain⟨e,_⟩:=x;exact Heap.lt_size e
 |ke ps=>exact Heap.lt_size (show h.get? a=some _ from x)
 |met f y=>exact Heap.lt_size (show h.get? a=some _ from x)
 |ext c=>obtain⟨_,⟨_,e⟩,_⟩:=x;exact Heap.lt_size e
theorem Paired.zg {c d:Type} {F G:c->d->Prop}:∀{l:List c} {l₂:List d},Paired F l l₂->(∀a b,F a b->G a b)->Paired G l l₂
 |_,_,.nil,_=>.nil
 |_,_,.cons r t,f=>.cons (f _ _ r) (Paired.zg t f)
theorem Paired.imp' {c d:Type} {F G:c->d->Prop} (f:∀a b,F a b->G a b) {l:List c} {l₂:List d} (r:Paired F l l₂):Paired G l l₂:=Paired.zg r f
theorem cv.mR (x:cv P w H h a o) (k:∀b u,(b=a\/H b=some (.own a))->h.get? b=some u->h'.get? b=some u) (g:∀b,H b=some (.own a)->H' b=some (.own a)) (l:∀b xs,H b=some (.tup xs)->H' b=some (.tup xs)):cv P w H' h' a o:=by
 induction o with
 |lst xs=>obtain⟨z,i,n,r,e⟩:=x;exact#[z,i,n,r,k _ _ (.inl rfl) e]
 |tup xs=>obtain⟨z,i,r,O,e,c⟩:=x;exact#[z,i,r,O,k _ _ (.inl rfl) e,c]
 |dK kvs=>obtain⟨z,y,j,r,O,es,s,e,c⟩:=x;exact#[z,y,j,r,O,es,s,k _ _ (.inl rfl) e,c]
 |dT kvs=>obtain⟨z,y,xs,r,O,es,s,e,c⟩:=x;exact#[z,y,xs,Paired.zg r λp q z=>#[z.1,l _ _ z.2.1,z.2.2],O,es,s,k _ _ (.inl rfl) e,c]
 |set S n=>obtain⟨O,es,s,t,e,c⟩:=x;exact#[O,es,s,t,k _ _ (.inl rfl) e,c]
 |ins C dx fs=>obtain⟨d,z,N,e,mA,⟨A,es,s,E,c⟩,r⟩:=x;exact#[g _ d,z,N,k _ _ (.inl rfl) e,mA,#[A,es,s,k _ _ (.inr d) E,c],r]
 |own y=>obtain⟨O,e⟩:=x;exact#[O,k _ _ (.inl rfl) e]
 |xd fs=>obtain⟨mA,⟨A,es,s,e,c⟩,r⟩:=x;exact#[mA,#[A,es,s,k _ _ (.inl rfl) e,c],r]
 |Eb lo hi=>obtain⟨t,u,v,e⟩:=x;exact#[t,u,v,k _ _ (.inl rfl) e]
 |rD O u I=>obtain⟨e,q⟩:=x;exact#[k _ _ (.inl rfl) e,I q]
 |ke ps=>have e:h.get? a=some {cls:=.none,data:=.fields ps}:=x;show h'.get? a=some {cls:=.none,data:=.fields ps};exact k a _ (.inl rfl) e
 |met f y=>have e:h.get? a=some (W.methodObj (.ref f) (.ref y)):=x;show h'.get? a=some (W.methodObj (.ref f) (.ref y));exact k a _ (.inl rfl) e
 |ext m=>obtain⟨p,⟨o,e⟩,st⟩:=x;exact#[st _ _ p λo q=>k _ _ (.inl rfl) q,#[o,k _ _ (.inl rfl) e],st]
theorem g9.lt (x:g9 P w H h) (e:H a=some o):a < h.objs.size:=(x a o e).lt
theorem g9.fresh (x:g9 P w H h) (e:h.objs.size<=a):H a=none:=by
 cases q:H a with
 |none=>rfl
 |some u=>exact absurd (Nat.lt_of_lt_of_le (x.lt q) e) (Nat.lt_irrefl _)
theorem g9.kept (x:g9 P w H h) (k:∀b u,h.get? b=some u->h'.get? b=some u):g9 P w H h':=λa o e=>
 (x a o e).mR (λb u _ q=>k b u q) (λ_ q=>q) λ_ _ q=>q
theorem g9.laid (x:g9 P w H h) (k:∀b u,h.get? b=some u->h'.get? b=some u) (g:h.objs.size<=a) (n:cv P w (upd H a o) h' a o):g9 P w (upd H a o) h':=λb u e=>by
 have f:=x.fresh g;by_cases d:b=a
 .subst d;rw[ab] at e;cases e;exact n
 .rw[ah d] at e;exact(x b u e).mR (λc v _ q=>k c v q) (λc q=>by rw[ah (au q f)];exact q) λc xs q=>by rw[ah (au q f)];exact q
end
def Rd (H:Hp) (a:Addr) (u:HO):Prop:=H a=some u\/∃o,H a=some (.rD o u)
theorem Rd.of {H:Hp} {a:Addr} {u:HO} (h:H a=some u):Rd H a u:=.inl h
theorem Rd.ok {P:Program} {w:World} {H:Hp} {h:Heap} {a:Addr} {u:HO} (r:Rd H a u) (x:g9 P w H h):cv P w H h a u:=by
 rcases r with r|⟨o,r⟩
 .exact x a u r
 .obtain⟨_,q⟩:=x a _ r;exact q
def Dd:Option HO->Prop
 |some (.lst _)=>True
 |some (.dK _)=>True
 |some (.dT _)=>True
 |some (.set _ _)=>True
 |some (.ins _ _ _)=>True
 |some (.ext _)=>True
 |_=>False
section
variable {P:Program} {w:World} {H:Hp} {h h':Heap} {x e:Addr} {o':HO}
theorem g9.write (o:g9 P w H h) (m:Dd (H x)) (f:e=x\/H e=some (.own x)) (k:∀b u,b≠e->h.get? b=some u->h'.get? b=some u) (j:∃u,h'.get? e=some u) (n:cv P w (upd H x o') h' x o'):g9 P w (upd H x o') h':=λb u q=>by
 have N:∀c y,H c=some (.own y)->c≠x:=λc y r z=>by subst z;rw[r] at m;exact m
 have l:∀c xs,H c=some (.tup xs)->c≠x:=λc xs r z=>by subst z;rw[r] at m;exact m
 by_cases d:b=x
 .subst d;rw[ab] at q;cases q;exact n
 .rw[ah d] at q;by_cases i:b=e
  .have Q:H b=some (.own x):=by
    rcases f with z|z
    .exact absurd (i.trans z) d
    .rw[i];exact z
   rw[q] at Q;cases Q;obtain⟨v,g⟩:=j;exact#[v,by rw[i];exact g]
  .refine(o b u q).mR (λc v a r=>k c v ?_ r) (λc r=>by rw[ah (N c b r)];exact r) λc xs r=>by rw[ah (l c xs r)];exact r
   rcases a with rfl|a
   .exact i
   .rintro rfl;rcases f with z|z
    .exact N c b a z
    .rw[a] at z;cases z;exact d rfl
end
structure Un (fs ex:List Addr) (H H':Hp) (h h':Heap):Prop where
 keep:∀b o,h.get? b=some o->H b=none->b∉fs->b∉ex->h'.get? b=some o
 slot:∀b o,h.get? b=some o->H b=none->b∈fs->b∉ex->∃sl,h'.get? b=some {o with slots:=sl}
 free:∀b o,h.get? b=some o->H b=none->b∉ex->H' b=none
 there:∀b o,h.get? b=some o->b∉ex->∃o',h'.get? b=some o'
 pN:∀b xs,H b=some (.tup xs)->H' b=some (.tup xs)
 nX:∀b o u,H b=some (.rD o u)->H' b=some (.rD o u)
 nY:∀b ps,H b=some (.ke ps)->∃more,H' b=some (.ke (ps++more))
section
variable {fs fs' ex ex':List Addr} {H H1 H2:Hp} {h h1 h2 h':Heap} {a x e:Addr} {o:HO}
theorem Un.any (u:Un fs ex H H1 h h1) {b:Addr} {O:Obj} (q:h.get? b=some O) (n:H b=none) (a:b∉ex):∃s,h1.get? b=some {O with slots:=s}:=by
 by_cases d:b∈fs
 .exact u.slot b O q n d a
 .exact#[O.slots,u.keep b O q n d a]
theorem Un.kept (k:∀b u,h.get? b=some u->h'.get? b=some u):Un fs ex H H h h':=#[λb O q _ _ _=>k b O q,λb O q _ _ _=>#[O.slots,k b O q],λ_ _ _ n _=>n,λb O q _=>#[O,k b O q],λ_ _ q=>q,λ_ _ _ q=>q,λ_ ps q=>#[[].toArray,by rw[q];simp]]
theorem Un.refl:Un fs ex H H h h:=Un.kept λ_ _ q=>q
theorem Un.laid (k:∀b u,h.get? b=some u->h'.get? b=some u) (hp:h.objs.size<=a) (hn:H a=none):Un fs ex H (upd H a o) h h' where
 keep:=λb u q _ _ _=>k b u q
 slot:=λb u q _ _ _=>⟨u.slots,k b u q⟩
 free:=λb u q n _=>by rw[ah (Nat.ne_of_lt (Nat.lt_of_lt_of_le (Heap.lt_size q) hp))];exact n
 there:=λb u q _=>⟨u,k b u q⟩
 pN:=λb xs q=>by rw[ah (au q hn)];exact q
 nX:=λb u xs q=>by rw[ah (au q hn)];exact q
 nY:=λb ps q=>⟨[].toArray,by rw[ah (au q hn),q];simp⟩
theorem Un.write (m:Dd (H x)) (f:e=x\/H e=some (.own x)) (k:∀b u,b≠e->h.get? b=some u->h'.get? b=some u) (j:∃u,h'.get? e=some u):Un fs ex H (upd H x o) h h':=by
 have a:∀b,H b=none->b≠x:=λb n z=>by subst z;rw[n] at m;exact m
 have d:∀b,H b=none->b≠e:=λb n z=>by
  subst z;rcases f with r|r
  .exact a b n r
  .rw[n] at r;cases r
 have c:∀b u,H b=some u->¬Dd (some u)->b≠x:=λb u q N z=>by subst z;rw[q] at m;exact N m
 refine#[λb u q n _ _=>k b u (d b n) q,λb u q n _ _=>#[u.slots,k b u (d b n) q],λb u q n _=>by rw[ah (a b n)];exact n,λb u q _=>?_,λb xs q=>by rw[ah (c b _ q λz=>z)];exact q,λb u xs q=>by rw[ah (c b _ q λz=>z)];exact q,λb ps q=>#[[].toArray,by rw[ah (c b _ q λz=>z),q];simp]];by_cases i:b=e
 .subst i;exact j
 .exact#[u,k b u i q]
end
def D2 (h:Heap) (H:Hp):List Addr:=(List.range h.objs.size).filter λa=>(H a).isSome
def lg (h:Heap) (H:Hp):Heap:=W.hideAll h (D2 h H)
theorem uu (h:Heap) (H:Hp):(lg h H).objs.size=h.objs.size:=W.hideAll_size _ _
theorem wO {h:Heap} {H:Hp} {b:Addr} {o:Obj} (e:h.get? b=some o) (n:H b=none):(lg h H).get? b=some o:=W.hideAll_get _ e λc=>by have q:(H b).isSome=true:=(List.mem_filter.mp c).2;rw[n] at q;simp at q
theorem zi {h:Heap} {H:Hp} {b:Addr} {o:Obj} (e:(lg h H).get? b=some o):h.get? b=some o/\H b=none:=by
 have E:h.get? b=some o:=W.of_hideAll (D2 h H) e;refine#[E,?_];cases q:H b with
 |none=>rfl
 |some x=>have c:b∈D2 h H:=List.mem_filter.mpr #[List.mem_range.mpr (Heap.lt_size E),by simp[q]];have z:(lg h H).get? b=none:=W.hideAll_none (D2 h H) c;rw[z] at e;cases e
structure Mod (K:W.Frag) (mg:Str->Option Value) (base:Heap):Prop where
 BP:K.In base
 glob:base.Ns mainGlobals mg
 blt:∃mb,base.Ns builtinsNs mb/\∀x:Str,x≠"__name__"->mb x=bootBuiltins x
 nolimit:base.NoLimit
structure Cx where
 prog:Program
 w:World
 K:W.Frag
 mg:Str->Option Value
 base:Heap
 A:Around
 N:List Str
 s₀:Shared
 H₀:Hp
 env:Env
 outer:List Env
 stack:List Env
 ex:List Addr
 fn:Str->Bool
 calm:Bool
 pn:List (Addr×Obj)
 xe:Value->Shared->Prop
def wJ (l:List Env):List Addr:=l.filterMap (·.frame)
abbrev Cx.fs (X:Cx):List Addr:=wJ X.outer
def De (s:Scope) (x:Str):Prop:=s.names.lookup x=some .local\/s.names.lookup x=some .cell\/s.names.lookup x=some .free
def Loc (s:Scope) (x:Str):Prop:=s.names.lookup x=some .local\/s.names.lookup x=some .cell
def Look (e:Env) (h:Heap) (m:Str->Option Value) (x:Str) (u:Value):Prop:=(e.kindOf x=some .local/\m x=some u)\/((e.kindOf x=some .cell\/e.kindOf x=some .free)/\∃c,e.cells.lookup x=some c/\h.IsCell c (some u))
structure Cx.Ok (X:Cx):Prop where
 mod:Mod X.K X.mg X.base
 kind:X.env.scope.kind=.function
 glob:X.env.globals=mainGlobals
 blt:X.env.builtins=builtinsNs
 above:X.s₀.heap.objs.size<=X.env.locals
 inj:∀x y c,X.env.cells.lookup x=some c->X.env.cells.lookup y=some c->x=y
 has:∀x,(X.env.kindOf x=some .cell\/X.env.kindOf x=some .free)->∃c,X.env.cells.lookup x=some c
 Df:∀x c,X.fn x=true->X.env.cells.lookup x=some c->X.s₀.heap.objs.size<=c
 hd:X.calm=true->X.A.handled=none
 frames:X.A.frames=some X.stack
 D3:X.stack=X.outer\/(X.stack=X.env :: X.outer/\X.env.frame=some X.env.locals)
 ED:∀b∈X.ex,b≠X.env.locals/\∀x c,X.env.cells.lookup x=some c->c≠b
 bs:∀b o,X.base.get? b=some o->X.s₀.heap.get? b=some o/\X.H₀ b=none
 uv:X.base.objs.size<=X.s₀.heap.objs.size
 jZ:∀b o,X.base.get? b=some o->b∉X.ex
 zj:∀b∈X.ex,b∉X.fs
 jq:X.s₀.heap.FunFrames X.base X.outer
 BQ:∀b∈X.fs,X.H₀ b=none
structure Inv (X:Cx) (pins:List (Addr×Obj)) (σ:List (Option V)) (H:Hp) (s:Shared):Prop where
 ok:X.Ok
 os:s.os=X.s₀.os
 bare:AllBare s.gens
 base:Un X.fs X.ex X.H₀ H X.s₀.heap s.heap
 loc:∃m,s.heap.Ns X.env.locals m/\∀(i:Nat) (x:Str) (v:V),X.N[i]?=some x->σ[i]?=some (some v)->De X.env.scope x->∃u,RelV v u/\Look X.env s.heap m x u
 cell:∀x c,X.env.cells.lookup x=some c->∃v,s.heap.IsCell c v
 free:H X.env.locals=none
 gB:∀x c,X.env.cells.lookup x=some c->H c=none
 pin:∀p∈X.pn++pins,s.heap.get? p.1=some p.2/\H p.1=none/\p.1≠X.env.locals/\p.1∉X.fs/\∀v,p.2.data≠.cell v
 bE:g9 X.prog X.w H s.heap
 len:σ.length=X.N.length
section
variable {X:Cx} {pins:List (Addr×Obj)} {σ:List (Option V)} {H H':Hp} {s:Shared} {h':Heap}
theorem Cx.Ok.wQ (O:X.Ok) {b:Addr} {o:Obj} (e:X.base.get? b=some o):b∉X.fs:=λd=>by have:=(O.jq.mem d).1;rw[e] at this;cases this
theorem Inv.bs (I:Inv X pins σ H s):∀b o,X.base.get? b=some o->s.heap.get? b=some o/\H b=none:=λb o e=>
 ⟨I.base.keep b o (I.ok.bs b o e).1 (I.ok.bs b o e).2 (I.ok.wQ e) (I.ok.jZ b o e),I.base.free b o (I.ok.bs b o e).1 (I.ok.bs b o e).2 (I.ok.jZ b o e)⟩
theorem Inv.bk (I:Inv X pins σ H s):∀b o,X.base.get? b=some o->s.heap.get? b=some o:=λb o e=>(I.bs b o e).1
theorem Inv.mod (I:Inv X pins σ H s):Mod X.K X.mg X.base:=I.ok.mod
theorem Inv.j3 (I:Inv X pins σ H s):X.K.In s.heap:=I.ok.mod.BP.keeps I.bk
theorem Inv.nolimit (I:Inv X pins σ H s):s.heap.NoLimit:=I.ok.mod.nolimit.keeps I.bk
theorem Inv.lt (I:Inv X pins σ H s):X.env.locals < s.heap.objs.size:=let ⟨_,f,_⟩:=I.loc;f.lt
theorem Inv.sz (I:Inv X pins σ H s):X.s₀.heap.objs.size<=s.heap.objs.size:=Nat.le_trans I.ok.above (Nat.le_of_lt I.lt)
theorem Inv.Ec (I:Inv X pins σ H s) {a:Addr} (h:s.heap.objs.size<=a):a∉X.fs:=λd=>by obtain⟨_,o,g,_⟩:=I.ok.jq.mem d;exact absurd (Nat.lt_of_lt_of_le (Heap.lt_size g) (Nat.le_trans I.sz h)) (Nat.lt_irrefl _)
theorem Inv.Bd (I:Inv X pins σ H s):∀x c,X.env.cells.lookup x=some c->c≠X.env.locals:=λx c e z=>by obtain⟨v,o,g,h⟩:=I.cell x c e;obtain⟨m,⟨o',es,E,b,a,_⟩,_⟩:=I.loc;rw[z,b] at g;cases g;rw[a] at h;cases h
theorem Inv.jq (I:Inv X pins σ H s):s.heap.FunFrames X.base X.outer:=by
 have A:∀(l:List Env),(∀b∈wJ l,b∈X.fs)->X.s₀.heap.FunFrames X.base l->s.heap.FunFrames X.base l:=by
  intro l;induction l with
  |nil=>intro _ _;trivial
  |cons env r i=>intro j c;obtain⟨a,⟨L,o,m,f,g,h⟩,k⟩:=c;have n:L∈X.fs:=j L (by unfold wJ;rw[List.filterMap_cons,m];exact List.mem_cons_self);obtain⟨S,e⟩:=I.base.slot L o g (I.ok.BQ L n) n λz=>I.ok.zj L z n;exact#[a,#[L,_,m,f,e,h],i (λb d=>j b (by unfold wJ;rw[List.filterMap_cons,m];exact List.mem_cons_of_mem _ d)) k]
 exact A X.outer (λ_ d=>d) I.ok.jq
theorem Inv.stack (I:Inv X pins σ H s):s.heap.FunFrames X.base X.stack:=by
 rcases I.ok.D3 with e|⟨e,h⟩
 .rw[e];exact I.jq
 .rw[e];obtain⟨m,f,_⟩:=I.loc;refine .cons (by rw[I.ok.kind];decide) h f ?_ I.jq;exact Heap.get?_none_of_le (Nat.le_trans I.ok.uv I.ok.above)
theorem Inv.lh (I:Inv X pins σ H s):∀b∈wJ X.stack,b∈X.env.locals :: X.fs:=λb d=>by
 rcases I.ok.D3 with e|⟨e,m⟩
 .rw[e] at d;exact List.mem_cons_of_mem _ d
 .rw[e] at d;unfold wJ at d;rw[List.filterMap_cons,m] at d;exact d
theorem Inv.nZ (I:Inv X pins σ H s):∀b∈wJ X.stack,H b=none:=λb d=>by
 rcases List.mem_cons.mp (I.lh b d) with e|d
 .rw[e];exact I.free
 .obtain⟨_,o,g,_⟩:=I.ok.jq.mem d;exact I.base.free b o g (I.ok.BQ b d) λz=>I.ok.zj b z d
theorem Inv.step {g':Array GenState} {t':Nat} {d':Drawn} {ch:List Addr} (I:Inv X pins σ H s) (G:∀b∈ch,(b∈X.ex\/X.s₀.heap.objs.size<=b)/\b≠X.env.locals/\(∀x c,X.env.cells.lookup x=some c->c≠b)/\∀p∈X.pn++pins,p.1≠b) (L:∀b o,b≠X.env.locals->b∉X.fs->b∉ch->s.heap.get? b=some o->H b=none->h'.get? b=some o) (K:∀b o,b≠X.env.locals->b∈X.fs->b∉ch->s.heap.get? b=some o->H b=none->∃S,h'.get? b=some {o with slots:=S}) (free:∀b o,b∉ch->s.heap.get? b=some o->H b=none->H' b=none) (Y:∀b o,b∉ch->s.heap.get? b=some o->∃o',h'.get? b=some o') (pN:∀b xs,H b=some (.tup xs)->H' b=some (.tup xs)) (U:∀b o u,H b=some (.rD o u)->H' b=some (.rD o u)) (Z:∀b ps,H b=some (.ke ps)->∃more,H' b=some (.ke (ps++more))) (ns:∀m,s.heap.Ns X.env.locals m->h'.Ns X.env.locals m) (bE:g9 X.prog X.w H' h') (C:AllBare g'):Inv X pins σ H' {s with heap:=h',gens:=g',drawn:=d',toks:=t'}:=by
 have T:∀b o,X.s₀.heap.get? b=some o->b≠X.env.locals:=λb o e=>Nat.ne_of_lt (Nat.lt_of_lt_of_le (Heap.lt_size e) I.ok.above);have P:∀b o,X.s₀.heap.get? b=some o->b∉X.ex->b∉ch:=λb o e a j=>by
  rcases (G b j).1 with z|z
  .exact a z
  .exact absurd (Nat.lt_of_lt_of_le (Heap.lt_size e) z) (Nat.lt_irrefl _)
 have R:∀x c,X.env.cells.lookup x=some c->∀v,s.heap.IsCell c v->h'.IsCell c v:=λx c e v ⟨o,g,h⟩=>by
  have O:c∉ch:=λz=>(G c z).2.2.1 x c e rfl;by_cases y:c∈X.fs
  .obtain⟨S,q⟩:=K c o (I.Bd x c e) y O g (I.gB x c e);exact#[_,q,h]
  .exact#[o,L c o (I.Bd x c e) y O g (I.gB x c e),h]
 refine#[I.ok,I.os,C,#[λb o e n j a=>?_,λb o e n j a=>?_,λb o e n a=>?_,λb o e a=>?_,λb xs e=>pN b xs (I.base.pN b xs e),λb o xs e=>U b o xs (I.base.nX b o xs e),λb ps e=>?_],?_,λx c e=>?_,?_,λx c e=>?_,λp A=>?_,bE,I.len]
 .exact L b o (T b o e) j (P b o e a) (I.base.keep b o e n j a) (I.base.free b o e n a)
 .obtain⟨S,t⟩:=I.base.slot b o e n j a;obtain⟨Q,E⟩:=K b _ (T b o e) j (P b o e a) t (I.base.free b o e n a);exact#[Q,E]
 .obtain⟨o',t⟩:=I.base.there b o e a;exact free b o' (P b o e a) t (I.base.free b o e n a)
 .obtain⟨o',t⟩:=I.base.there b o e a;exact Y b o' (P b o e a) t
 .obtain⟨M,t⟩:=I.base.nY b ps e;obtain⟨D,E⟩:=Z b _ t;exact#[M++D,by rw[E,Array.append_assoc]]
 .obtain⟨m,f,w⟩:=I.loc;refine#[m,ns m f,λi x v t E B=>?_];obtain⟨u,r,l⟩:=w i x v t E B;refine#[u,r,?_];rcases l with l|⟨k,c,e,z⟩
  .exact .inl l
  .exact .inr #[k,c,e,R x c e _ z]
 .obtain⟨v,z⟩:=I.cell x c e;exact#[v,R x c e v z]
 .obtain⟨m,⟨o,_,_,g,_⟩,_⟩:=I.loc;exact free _ o (λz=>(G _ z).2.1 rfl) g I.free
 .obtain⟨v,o,g,h⟩:=I.cell x c e;exact free c o (λz=>(G c z).2.2.1 x c e rfl) g (I.gB x c e)
 .obtain⟨e,n,N,J,d⟩:=I.pin p A;have O:p.1∉ch:=λz=>(G p.1 z).2.2.2 p A rfl;exact#[L p.1 p.2 N J O e n,free p.1 p.2 O e n,N,J,d]
theorem Inv.un {t':Nat} (I:Inv X pins σ H s) (u:Un X.fs [] H H' s.heap h') (bE:g9 X.prog X.w H' h'):Inv X pins σ H' {s with heap:=h',toks:=t'}:=by obtain⟨m,⟨o,es,E,g,r⟩,_⟩:=id I.loc;obtain⟨S,h⟩:=u.any g I.free (by simp);exact I.step (g':=s.gens) (d':=s.drawn) (ch:=[]) (λ_ z=>nomatch z) (λb o _ d _ e n=>u.keep b o e n d (by simp)) (λb o _ d _ e n=>u.slot b o e n d (by simp)) (λb o _ e n=>u.free b o e n (by simp)) (λb o _ e=>u.there b o e (by simp)) u.pN u.nX u.nY (λM c=>by obtain⟨o',i,f,a,R⟩:=c;rw[g] at a;cases a;exact⟨_,i,f,h,R⟩) bE I.bare
theorem Inv.call {g':Array GenState} {t':Nat} {d':Drawn} {ch:List Addr} (I:Inv X pins σ H s) (u:Un (wJ X.stack) ch H H' s.heap h') (bE:g9 X.prog X.w H' h') (C:AllBare g') (G:∀b∈ch,(b∈X.ex\/X.s₀.heap.objs.size<=b)/\b≠X.env.locals/\(∀x c,X.env.cells.lookup x=some c->c≠b)/\∀p∈X.pn++pins,p.1≠b):Inv X pins σ H' {s with heap:=h',gens:=g',drawn:=d',toks:=t'}:=by obtain⟨m,⟨o,es,E,g,r⟩,_⟩:=id I.loc;obtain⟨S,j⟩:=u.any g I.free λz=>(G _ z).2.1 rfl;exact I.step (ch:=ch) G (λb o j d a e n=>u.keep b o e n (λz=>(List.mem_cons.mp (I.lh b z)).elim j d) a) (λb o _ _ a e n=>u.any e n a) (λb o a e n=>u.free b o e n a) (λb o a e=>u.there b o e a) u.pN u.nX u.nY (λM h=>by obtain⟨o',i,f,k,R⟩:=h;rw[g] at k;cases k;exact⟨_,i,f,j,R⟩) bE C
theorem Inv.turned {t':Nat} {it:Addr} (I:Inv X pins σ H s) (k:∀b o,b≠it->s.heap.get? b=some o->h'.get? b=some o) (f:H it=none) (j:it≠X.env.locals) (h1:it∈X.ex\/X.s₀.heap.objs.size<=it) (h2:∀x c,X.env.cells.lookup x=some c->c≠it) (i:∀p∈X.pn++pins,p.1≠it):Inv X pins σ H {s with heap:=h',toks:=t'}:=by
 have N:∀b u,H b=some u->b≠it:=λb u e z=>by rw[z,f] at e;cases e
 refine I.step (g':=s.gens) (d':=s.drawn) (ch:=[it]) (λb d=>?_) (λb o _ _ a e _=>k b o (λz=>a (by simp[z])) e) (λb o _ _ a e _=>#[o.slots,k b o (λz=>a (by simp[z])) e]) (λ_ _ _ _ n=>n) (λb o a e=>#[o,k b o (λz=>a (by simp[z])) e]) (λ_ _ e=>e) (λ_ _ _ e=>e) (λb ps e=>#[[].toArray,by rw[e];simp]) (λm h=>?_) (λb u e=>?_) I.bare
 .have e:b=it:=by simpa using d
  subst e;exact#[h1,j,h2,i]
 .obtain⟨o,es,E,g,r⟩:=h;exact#[o,es,E,k _ o (Ne.symm j) g,r]
 .refine(I.bE b u e).mR (λc v a q=>k c v ?_ q) (λ_ q=>q) λ_ _ q=>q;rcases a with z|z
  .rw[z];exact N b u e
  .exact N c _ z
theorem Inv.tok (I:Inv X pins σ H s) (t:Nat):Inv X pins σ H {s with toks:=t}:=I.un (h':=s.heap) (t':=t) Un.refl I.bE
theorem Inv.kept {t':Nat} (I:Inv X pins σ H s) (k:∀b u,s.heap.get? b=some u->h'.get? b=some u):Inv X pins σ H {s with heap:=h',toks:=t'}:=I.un (Un.kept k) (I.bE.kept k)
theorem Inv.laid {a:Addr} {o:HO} {t':Nat} (I:Inv X pins σ H s) (k:∀b u,s.heap.get? b=some u->h'.get? b=some u) (g:s.heap.objs.size<=a) (n:cv X.prog X.w (upd H a o) h' a o):Inv X pins σ (upd H a o) {s with heap:=h',toks:=t'}:=I.un (Un.laid k g (I.bE.fresh g)) (I.bE.laid k g n)
theorem Inv.write {x e:Addr} {o:HO} {t':Nat} (I:Inv X pins σ H s) (m:Dd (H x)) (f:e=x\/H e=some (.own x)) (k:∀b u,b≠e->s.heap.get? b=some u->h'.get? b=some u) (j:∃u,h'.get? e=some u) (n:cv X.prog X.w (upd H x o) h' x o):Inv X pins σ (upd H x o) {s with heap:=h',toks:=t'}:=I.un (Un.write m f k j) (I.bE.write m f k j n)
theorem Inv.tI {P:List (Addr×Obj)} (I:Inv X pins σ H s) (h:∀p∈P,s.heap.get? p.1=some p.2/\H p.1=none/\p.1≠X.env.locals/\p.1∉X.fs/\∀v,p.2.data≠.cell v):Inv X P σ H s:=#[I.ok,I.os,I.bare,I.base,I.loc,I.cell,I.free,I.gB,λp g=>(List.mem_append.mp g).elim (λz=>I.pin p (List.mem_append_left _ z)) (h p),I.bE,I.len]
theorem lj {N:List Str} (h:N.Nodup) {i j:Nat} {x:Str} (a:N[i]?=some x) (b:N[j]?=some x):i=j:=by obtain⟨h1,t⟩:=List.getElem?_eq_some_iff.mp a;obtain⟨h2,E⟩:=List.getElem?_eq_some_iff.mp b;exact(List.getElem_inj h).mp (t.trans E.symm)
theorem nv {M:Model} {A:Around} {E:Value->Shared->Prop} {i:Nat} {x:Str} {v:V} {u:Value} {Q:Unit->Shared->Prop} (I:Inv X pins σ H s) (hN:X.N.Nodup) (hi:X.N[i]?=some x) (g:Loc X.env.scope x) (r:RelV v u) (h:∀s',Inv X pins (σ.set i (some v)) H s'->(∃a,Heap.SameBut a s.heap s'.heap/\(a=X.env.locals\/X.env.cells.lookup x=some a))->Q () s') (hf:X.fn x=true\/X.env.scope.names.lookup x=some .local:=by first|exact .inl rfl|exact .inr rfl|assumption):wpAny M A (storeName X.env x u) Q E s:=by
 obtain⟨m,hn,hl⟩:=id I.loc;have Y:(X.env.scope.kind==.class||(X.env.scope.kind==.module&&X.env.locals != X.env.globals))=false:=by rw[I.ok.kind];rfl
 have T:i < σ.length:=by rw[I.len];exact(List.getElem?_eq_some_iff.mp hi).1
 have R:=I.Bd;have U:∀{a:Addr} {h':Heap},(∃o,s.heap.get? a=some o/\H a=none)->Heap.SameBut a s.heap h'->g9 X.prog X.w H h':=λ{a h'} ha C b ob e=>by
  obtain⟨_,_,O⟩:=ha;refine(I.bE b ob e).mR (λc J B q=>(C.2 c ?_).trans q) (λ_ q=>q) λ_ _ q=>q;rintro rfl;rcases B with rfl|B
  .rw[O] at e;cases e
  .rw[O] at B;cases B
 rcases g with w|w
 .refine wpAny_storeName_local w hn (λh' al C=>?_) Y;obtain⟨oL,_,_,ac,_⟩:=id hn;refine h _ #[I.ok,I.os,I.bare,#[λb o e n f g=>?_,λb o e n f g=>?_,I.base.free,λb o e g=>?_,I.base.pN,I.base.nX,I.base.nY],#[_,al,λj y v' t l e3=>?_],λy c e=>?_,I.free,I.gB,λp hp=>?_,U #[oL,ac,I.free] C,by simpa using I.len] #[_,C,.inl rfl]
  .exact(C.2 b (Nat.ne_of_lt (Nat.lt_of_lt_of_le (Heap.lt_size e) I.ok.above))).trans (I.base.keep b o e n f g)
  .obtain⟨sl,t⟩:=I.base.slot b o e n f g;exact#[sl,(C.2 b (Nat.ne_of_lt (Nat.lt_of_lt_of_le (Heap.lt_size e) I.ok.above))).trans t]
  .obtain⟨o',t⟩:=I.base.there b o e g;exact#[o',(C.2 b (Nat.ne_of_lt (Nat.lt_of_lt_of_le (Heap.lt_size e) I.ok.above))).trans t]
  .by_cases D:j=i
   .subst D;rw[hi] at t;cases t;rw[List.getElem?_set_self T] at l;cases l;exact#[u,r,.inl #[w,by simp]]
   .rw[List.getElem?_set_ne (Ne.symm D)] at l;obtain⟨u',r',q⟩:=hl j y v' t l e3;refine#[u',r',?_];rcases q with⟨k,e⟩|⟨k,c,e,z⟩
    .refine .inl #[k,?_];have:y≠x:=λe=>D (lj hN t (e▸hi));simp[this,e]
    .exact .inr #[k,c,e,z.sameBut C (R y c e)]
  .obtain⟨J,z⟩:=I.cell y c e;exact#[J,z.sameBut C (R y c e)]
  .obtain⟨e,n,N,nf,d⟩:=I.pin p hp;exact#[(C.2 p.1 N).trans e,n,N,nf,d]
 .have P:X.fn x=true:=by
   rcases hf with z|z
   .exact z
   .rw[z] at w;cases w
  obtain⟨c,B⟩:=I.ok.has x (.inl w);obtain⟨J,z⟩:=I.cell x c B;refine wpAny_storeName_cell I.ok.kind w B z (λh' K C=>?_);obtain⟨oc,S,Z⟩:=id z;refine h {s with heap:=h'} #[I.ok,I.os,I.bare,#[λb o e n f g=>?_,λb o e n f g=>?_,I.base.free,λb o e g=>?_,I.base.pN,I.base.nX,I.base.nY],#[m,hn.sameBut C (Ne.symm (R x c B)),λj y v' t l e3=>?_],λy G e=>?_,I.free,I.gB,λp hp=>?_,U #[oc,S,I.gB x c B] C,by simpa using I.len] #[c,C,.inr B]
  .exact(C.2 b (Nat.ne_of_lt (Nat.lt_of_lt_of_le (Heap.lt_size e) (I.ok.Df x c P B)))).trans (I.base.keep b o e n f g)
  .obtain⟨sl,t⟩:=I.base.slot b o e n f g;exact#[sl,(C.2 b (Nat.ne_of_lt (Nat.lt_of_lt_of_le (Heap.lt_size e) (I.ok.Df x c P B)))).trans t]
  .obtain⟨o',t⟩:=I.base.there b o e g;exact#[o',(C.2 b (Nat.ne_of_lt (Nat.lt_of_lt_of_le (Heap.lt_size e) (I.ok.Df x c P B)))).trans t]
  .by_cases D:j=i
   .subst D;rw[hi] at t;cases t;rw[List.getElem?_set_self T] at l;cases l;exact#[u,r,.inr #[.inl w,c,B,K]]
   .rw[List.getElem?_set_ne (Ne.symm D)] at l;obtain⟨u',r',q⟩:=hl j y v' t l e3;refine#[u',r',?_];rcases q with q|⟨k,G,e,z'⟩
    .exact .inl q
    .refine .inr #[k,G,e,z'.sameBut C ?_];rintro rfl;exact D (lj hN t (I.ok.inj _ _ _ e B▸hi))
  .by_cases L:G=c
   .subst L;exact⟨_,K⟩
   .obtain⟨w2,z2⟩:=I.cell y G e;exact#[w2,z2.sameBut C L]
  .obtain⟨e,n,N,nf,d⟩:=I.pin p hp;refine#[(C.2 p.1 ?_).trans e,n,N,nf,d];intro q;rw[q,S] at e;have q':oc=p.2:=Option.some.inj e;exact d J (by rw[<-q'];exact Z)
theorem iO {M:Model} {A:Around} {E:Value->Shared->Prop} {i:Nat} {x:Str} {v:V} {u:Value} {Q:Unit->Shared->Prop} (I:Inv X pins σ H s) (b:X.N.Nodup) (hi:X.N[i]?=some x) (a:Loc X.env.scope x) (r:RelV v u) (h:∀s',Inv X pins (σ.set i (some v)) H s'->Q () s') (m:X.fn x=true\/X.env.scope.names.lookup x=some .local:=by first|exact .inl rfl|exact .inr rfl|assumption):wpAny M A (storeName X.env x u) Q E s:=
 nv I b hi a r (λs' c _=>h s' c) m
theorem Inv.Dg {s':Shared} {ch:List Addr} (I:Inv X pins σ H s) (g:s'.os=s.os) (u:Un (wJ X.stack) ch H H' s.heap s'.heap) (bE:g9 X.prog X.w H' s'.heap) (C:AllBare s'.gens) (G:∀b∈ch,(b∈X.ex\/X.s₀.heap.objs.size<=b)/\b≠X.env.locals/\(∀x c,X.env.cells.lookup x=some c->c≠b)/\∀p∈X.pn++pins,p.1≠b):Inv X pins σ H' s':=by obtain⟨h',a,d,t,o'⟩:=s';have e:o'=s.os:=g;subst e;exact I.call (g':=a) (t':=t) (d':=d) u bE C G
end
abbrev XK:=Value->Option Addr->Hp->Prop
abbrev St:=List (Option V)
abbrev VK:=V->Hp->Prop
abbrev TE:=St->Hp->VK->Prop
abbrev TT:=St->Hp->(Bool->Hp->Prop)->Prop
abbrev TA:=St->Hp->(List V->Hp->Prop)->Prop
structure Ends where
 nx:St->Hp->Prop
 rt:VK
 bk:St->Hp->Prop:=λ_ _=>False
 ct:St->Hp->Prop:=λ_ _=>False
abbrev TS:=Ends->St->Hp->Prop
def Ends.of (Q:VK):Ends:={nx:=λ_ H'=>Q .dE H',rt:=Q}
def Ends.sq (D:Ends) (u:TS):Ends:={D with nx:=u D}
def Ends.lp (D:Ends) (N:St->Hp->Prop):Ends:={D with nx:=N,ct:=N,bk:=D.nx}
def EP (X:Cx) (pins:List (Addr×Obj)) (σ:St) (Q:VK) (u:Value) (s':Shared):Prop:=∃v H',Inv X pins σ H' s'/\RelV v u/\Q v H'
def TP (X:Cx) (pins:List (Addr×Obj)) (σ:St) (Q:Bool->Hp->Prop) (b:Bool) (s':Shared):Prop:=∃H',Inv X pins σ H' s'/\Q b H'
def AP (X:Cx) (pins:List (Addr×Obj)) (σ:St) (Q:List V->Hp->Prop) (us:List Value) (s':Shared):Prop:=∃b H',Inv X pins σ H' s'/\Vals b us/\Q b H'
def SP (X:Cx) (pins:List (Addr×Obj)) (D:Ends) (f:Flow) (s':Shared):Prop:=match f with
 | .next=>∃a H',Inv X pins a H' s'/\D.nx a H'
 | .brk=>∃a H',Inv X pins a H' s'/\D.bk a H'
 | .cont=>∃a H',Inv X pins a H' s'/\D.ct a H'
 | .ret u=>∃v a H',Inv X pins a H' s'/\RelV v u/\D.rt v H'
def PE (X:Cx) (e:Expr) (t:TE):Prop:=∀(pins:List (Addr×Obj)) (s:Shared) (σ:St) (H:Hp) (Q:VK),Inv X pins σ H s->t σ H Q->wpAny (model X.prog X.w) X.A (eval e X.env) (EP X pins σ Q) X.xe s
def PT (X:Cx) (e:Expr) (t:TT):Prop:=∀(pins:List (Addr×Obj)) (s:Shared) (σ:St) (H:Hp) (Q:Bool->Hp->Prop),Inv X pins σ H s->t σ H Q->wpAny (model X.prog X.w) X.A (isTrue e X.env (eval e X.env)) (TP X pins σ Q) X.xe s
def PW (X:Cx) (e:Expr) (t:TT):Prop:=∀(w:Sem Value) (pins:List (Addr×Obj)) (s:Shared) (σ:St) (H:Hp) (Q:Bool->Hp->Prop),Inv X pins σ H s->t σ H Q->wpAny (model X.prog X.w) X.A (isTrue e X.env w) (TP X pins σ Q) X.xe s
theorem PW.pt {X:Cx} {e:Expr} {t:TT} (h:PW X e t):PT X e t:=h _
def PA (X:Cx) (es:List Expr) (t:TA):Prop:=∀(pos:Pos) (pins:List (Addr×Obj)) (s:Shared) (σ:St) (H:Hp) (Q:List V->Hp->Prop),Inv X pins σ H s->t σ H Q->wpAny (model X.prog X.w) X.A (spliced (backTo pos (starEach es X.env))) (AP X pins σ Q) X.xe s
def PS (X:Cx) (st:Stmt) (t:TS):Prop:=∀(pins:List (Addr×Obj)) (s:Shared) (σ:St) (H:Hp) (D:Ends),Inv X pins σ H s->t D σ H->wpAny (model X.prog X.w) X.A (exec st X.env) (SP X pins D) X.xe s
def n8 (X:Cx) (st:List Stmt) (t:TS):Prop:=∀(pins:List (Addr×Obj)) (s:Shared) (σ:St) (H:Hp) (D:Ends),Inv X pins σ H s->t D σ H->wpAny (model X.prog X.w) X.A (execs st X.env) (SP X pins D) X.xe s
theorem cL {c:Type} {t:Sem c} {Q Q':c->Shared->Prop} {M:Model} {A:Around} {E:Value->Shared->Prop} {s:Shared} (h:wpAny M A t Q E s) (H:∀a s,Q a s->Q' a s):wpAny M A t Q' E s:=wpAny_mono h H λ_ _ x=>x
section
variable {X:Cx}
inductive af (i:Nat) (σ:St) (H:Hp) (Q:VK):Prop
 |mk (v:_) (h1_:σ[i]?=some (some v)) (h2_:Q v H):af i σ H Q
def tC (v:V):TE:=λ_ H Q=>Q v H
theorem BR {i:Nat} {x:Str} {pos:Pos} (n:X.N[i]?=some x) (g:De X.env.scope x) (j:(x==("__debug__":Str))=false:=by decide) (p:(x==("__classdict__":Str))=false:=by decide):PE X (.Name x pos) (af i):=by
 intro pins s σ H Q I h;obtain⟨v,e,h⟩:=h;obtain⟨m,f,b⟩:=I.loc;obtain⟨u,r,l⟩:=b i x v n e g;have o:EP X pins σ Q u s:=#[v,H,I,r,h];rcases l with⟨a,k⟩|⟨a,c,d,q⟩
 .exact wpAny_Name (wpAny_loadName_local I.ok.kind a f k o) j
 .rcases a with a|a
  .exact wpAny_Name (wpAny_loadName_cell I.ok.kind a d q o) j
  .exact wpAny_Name (wpAny_loadName_free I.ok.kind a d q o p) j
theorem ak {i j pos}:PE X (.Constant (.int i) j pos) (tC (.int i)):=λ_ _ _ H _ I h=>wpAny_Constant_int #[.int i,H,I.tok _,#[_,rfl],h]
theorem e7 {b j pos}:PE X (.Constant (.bool b) j pos) (tC (.bl b)):=λ_ _ _ H _ I h=>Constant_bool #[.bl b,H,I,rfl,h]
theorem lA {j pos}:PE X (.Constant .none j pos) (tC .dE):=λ_ _ _ H _ I h=>Constant_none #[.dE,H,I,rfl,h]
theorem aZ {x j pos}:PE X (.Constant (.str x) j pos) (tC (.str x)):=λ_ _ _ H _ I h=>Calls.Constant_str #[.str x,H,I.tok _,#[_,rfl],h]
def Gl (X:Cx) (x:Str):Prop:=X.env.kindOf x=some .globalImplicit
theorem n9 {E:Value->Shared->Prop} {pins:List (Addr×Obj)} {s:Shared} {σ:St} {H:Hp} {x:Str} {u:Value} {pos:Pos} {Q:Value->Shared->Prop} (I:Inv X pins σ H s) (C:Gl X x) (c:X.mg x=some u) (h:Q u s) (a:(x==("__debug__":Str))=false:=by decide):wpAny (model X.prog X.w) X.A (eval (.Name x pos) X.env) Q E s:=
 Calls.Name_function_global I.ok.kind C (Calls.loadGlobal_global (by rw[I.ok.glob];exact I.mod.glob.keeps I.bk) c h) a
theorem ft {E:Value->Shared->Prop} {pins:List (Addr×Obj)} {s:Shared} {σ:St} {H:Hp} {x:Str} {u:Value} {pos:Pos} {Q:Value->Shared->Prop} (I:Inv X pins σ H s) (C:Gl X x) (c:X.mg x=none) (g:bootBuiltins x=some u) (h:Q u s) (f:x≠"__name__":=by decide) (a:(x==("__debug__":Str))=false:=by decide):wpAny (model X.prog X.w) X.A (eval (.Name x pos) X.env) Q E s:=by obtain⟨m,h1,h2⟩:=I.mod.blt;exact Calls.Name_function_global I.ok.kind C (Calls.loadGlobal_builtin (by rw[I.ok.glob];exact I.mod.glob.keeps I.bk) c (by rw[I.ok.blt];exact h1.keeps I.bk) ((h2 x f).trans g) h) a
theorem kg {x:Str} {v:V} {u:Value} {pos:Pos} (C:Gl X x) (c:X.mg x=none) (g:bootBuiltins x=some u) (r:RelV v u) (f:x≠"__name__":=by decide) (a:(x==("__debug__":Str))=false:=by decide):PE X (.Name x pos) (tC v):=
 λ_ _ _ H _ I h=>ft I C c g ⟨v,H,I,r,h⟩ f a
variable {a b:Expr} {ta tb:TE} {pos:Pos}
def PC (X:Cx) (o:CmpOp) (a b:Expr) (t:TE):Prop:=∀(pins:List (Addr×Obj)) (s:Shared) (σ:St) (H:Hp) (Q:VK),Inv X pins σ H s->t σ H Q->
  wpAny (model X.prog X.w) X.A (eval a X.env) (λv S=>wpAny (model X.prog X.w) X.A (eval b X.env) (λu c=>wpAny (model X.prog X.w) X.A (compareOp o v u) (EP X pins σ Q) X.xe c) X.xe S) X.xe s
theorem pO (b:Expr) {o:CmpOp} (h:o≠.In) (h2:o≠.NotIn):behindInMarks o b=false:=by
 have t:(o==CmpOp.In)=false:=by cases o <;> first|rfl|exact absurd rfl h
 have E:(o==CmpOp.NotIn)=false:=by cases o <;> first|rfl|exact absurd rfl h2
 cases b <;> simp[behindInMarks,t,E]
def zk (ta:TE):TE:=λσ H Q=>ta σ H λx H1=>Q (.bl (decide (x=.dE))) H1
def Be (ta:TE):TE:=λσ H Q=>ta σ H λx H1=>Q (.bl (!decide (x=.dE))) H1
theorem RelV.pP {x:V} {v:Value} (r:RelV x v):(v==Value.none)=decide (x=.dE):=by
 cases x with
 |dE=>cases r;rfl
 |bl _=>cases r;rfl
 |int _=>obtain⟨t,rfl⟩:=r;rfl
 |str _=>obtain⟨t,rfl⟩:=r;rfl
 |rH _=>obtain⟨t,rfl⟩:=r;rfl
 |Bc _=>obtain⟨t,rfl⟩:=r;rfl
 |ref _=>cases r;rfl
 |ty _=>cases r;rfl
theorem rJ {j pos'} (b:PE X a ta):PC X .Is a (.Constant .none j pos') (zk ta):=by intro pins s σ H Q I h;refine cL (b pins s σ H _ I h) λv S z=>?_;obtain⟨x,H1,i,r,q⟩:=z;exact Constant_none (is_none_gen #[.bl _,H1,i,by rw[r.pP];rfl,q])
theorem tJ {j pos'} (b:PE X a ta):PC X .IsNot a (.Constant .none j pos') (Be ta):=by intro pins s σ H Q I h;refine cL (b pins s σ H _ I h) λv S z=>?_;obtain⟨x,H1,i,r,q⟩:=z;exact Constant_none (isnot_none_gen #[.bl _,H1,i,by rw[r.pP];rfl,q])
inductive EE (Q:Bool->Hp->Prop) (x:V) (H1:Hp):Prop
 |mk (c:_) (h1_:x=.bl c) (h2_:Q c H1):EE Q x H1
def tB (t:TE):TT:=λσ H Q=>t σ H (EE Q)
theorem rK {o:CmpOp} {t:TE} (h:PC X o a b t) (h1:behindInMarks o b=false:=by first|exact pO _ (by decide) (by decide)|rfl):PE X (.Compare a [o] [b] pos) t:=λpins s σ H Q I c=>wpAny_Compare1 (h pins s σ H Q I c) h1
theorem fX {o:CmpOp} {t:TE} (h:PC X o a b t) (h1:behindInMarks o b=false:=by first|exact pO _ (by decide) (by decide)|rfl):PT X (.Compare a [o] [b] pos) (tB t):=by intro pins s σ H Q I g;refine wpAny_isTrue_Compare1 (cL (h pins s σ H _ I g) λv S h1=>cL h1 λu f h2=>cL h2 λc j z=>?_) h1;obtain⟨x,H1,i,r,e⟩:=z;obtain⟨d,rfl,q⟩:=e;cases r;exact wpAny_truthy_bool #[H1,i,q]
variable {tA tB':TT} {rest:List Expr}
def jr (t u:TT):TT:=λσ H Q=>t σ H λc H1=>if c=true then u σ H1 Q else Q false H1
def CT (t u:TT):TT:=λσ H Q=>t σ H λc H1=>if c=true then Q true H1 else u σ H1 Q
def mT (t:TT):TT:=λσ H Q=>t σ H λc H1=>Q (!c) H1
theorem eK (b:PT X a tA):PW X (.BoolOp .And [a] pos) tA:=by
 intro w pins s σ H Q I h;refine isTrue_and (cL (b pins s σ H Q I h) λc S e=>?_);cases c with
 |true=>exact isTrue_and_nil e
 |false=>exact e
theorem oa (b:PT X a tA):PW X (.BoolOp .Or [a] pos) tA:=by
 intro w pins s σ H Q I h;refine isTrue_or (cL (b pins s σ H Q I h) λc S e=>?_);cases c with
 |false=>exact isTrue_or_nil e
 |true=>exact e
theorem fc (e:PT X a tA) (d:PW X (.BoolOp .And (b :: rest) pos) tB'):PW X (.BoolOp .And (a :: b :: rest) pos) (jr tA tB'):=by
 intro w pins s σ H Q I h;refine isTrue_and (cL (e pins s σ H _ I h) λc S z=>?_);obtain⟨H1,i,q⟩:=z;cases c with
 |true=>exact d w pins S σ H1 Q i q
 |false=>exact#[H1,i,q]
theorem pQ (e:PT X a tA) (d:PW X (.BoolOp .Or (b :: rest) pos) tB'):PW X (.BoolOp .Or (a :: b :: rest) pos) (CT tA tB'):=by
 intro w pins s σ H Q I h;refine isTrue_or (cL (e pins s σ H _ I h) λc S z=>?_);obtain⟨H1,i,q⟩:=z;cases c with
 |true=>exact#[H1,i,q]
 |false=>exact d w pins S σ H1 Q i q
theorem fY (b:PT X a tA):PT X (.UnaryOp .Not a pos) (mT tA):=by intro pins s σ H Q I h;exact isTrue_not (b pins s σ H (λc H1=>Q (!c) H1) I h)
inductive wR (tb:TE) (σ:St) (Q:VK) (x:V) (H1:Hp):Prop
 |mk (c:_) (h1_:x=.bl c) (h2_:if c=true then tb σ H1 Q else Q (.bl false) H1):wR tb σ Q x H1
def Bf (ta tb:TE):TE:=λσ H Q=>ta σ H (wR tb σ Q)
inductive wU (Q:VK) (x:V) (H1:Hp):Prop
 |mk (c:_) (h1_:x=.bl c) (h2_:Q (.bl (!c)) H1):wU Q x H1
def Dh (ta:TE):TE:=λσ H Q=>ta σ H (wU Q)
theorem wV {op} {t:TE} (h:PE X a t):PE X (.BoolOp op [a] pos) t:=λpins s σ H Q I c=>BoolOp_one (h pins s σ H Q I c)
theorem wW (e:PE X a ta) (d:PE X (.BoolOp .And (b :: rest) pos) tb):PE X (.BoolOp .And (a :: b :: rest) pos) (Bf ta tb):=by
 intro pins s σ H Q I h;refine BoolOp_and (cL (e pins s σ H _ I h) λv S z=>?_);obtain⟨x,H1,i,r,q⟩:=z;obtain⟨c,rfl,q⟩:=q;cases r;refine wpAny_truthy_bool ?_;cases c with
 |true=>exact d pins S σ H1 Q i q
 |false=>exact#[.bl false,H1,i,rfl,q]
theorem BS (b:PE X a ta):PE X (.UnaryOp .Not a pos) (Dh ta):=by intro pins s σ H Q I h;refine UnaryOp_ (cL (b pins s σ H _ I h) λv S z=>?_);obtain⟨x,H1,i,r,q⟩:=z;obtain⟨c,rfl,q⟩:=q;cases r;exact not_of (wpAny_truthy_bool #[.bl (!c),H1,i,rfl,q])
end
def bp (K:W.Frag) (H:Hp) (a:Addr) (xs:List V):Prop:=Rd H a (.lst xs)\/
  ∃(o:Obj) (i:Array Value) (n:Nat),K.lookup a=some o/\o.cls=.type "list"/\o.dict=none/\o.data=.seq i n/\i.size<=sizeLine/\Vals xs i.toList
def cx (K:W.Frag) (H:Hp) (a:Addr) (xs:List V):Prop:=Rd H a (.tup xs)\/
  ∃(o:Obj) (i:Array Value) (n:Nat),K.lookup a=some o/\o.cls=.type "tuple"/\o.data=.seq i n/\i.size<=sizeLine/\Vals xs i.toList
def Ed:Value->Option V
 | .none=>some .dE
 | .bool b=>some (.bl b)
 | .int i _=>some (.int i)
 | .str x _=>some (.str x)
 | .bytes b _=>some (.rH b)
 | .float b _=>some (.Bc b)
 | .ref a=>some (.ref a)
 | .type n=>some (.ty n)
 |_=>none
theorem RelV.abs {x:V} {u:Value} (r:RelV x u):Ed u=some x:=by
 cases x with
 |dE=>cases r;rfl
 |bl _=>cases r;rfl
 |int _=>obtain⟨t,rfl⟩:=r;rfl
 |str _=>obtain⟨t,rfl⟩:=r;rfl
 |rH _=>obtain⟨t,rfl⟩:=r;rfl
 |Bc _=>obtain⟨t,rfl⟩:=r;rfl
 |ref _=>cases r;rfl
 |ty _=>cases r;rfl
theorem RelV.inj {x y:V} {u:Value} (r:RelV x u) (q:RelV y u):x=y:=Option.some.inj (r.abs.symm.trans q.abs)
theorem Vals.inj:∀{xs ys:List V} {us:List Value},Vals xs us->Vals ys us->xs=ys
 |_,_,_,.nil,.nil=>rfl
 |_,_,_,.cons r t,.cons R T=>by rw[r.inj R,Vals.inj t T]
section
variable {X:Cx} {pins:List (Addr×Obj)} {σ:St} {H:Hp} {s:Shared} {a:Addr} {xs ys:List V}
theorem bp.of {K:W.Frag} (h:H a=some (.lst xs)):bp K H a xs:=.inl (.inl h)
theorem cx.of {K:W.Frag} (h:H a=some (.tup xs)):cx K H a xs:=.inl (.inl h)
theorem Inv.list (I:Inv X pins σ H s) (h:bp X.K H a xs):∃i:List Value,Vals xs i/\PlainL s.heap a i.toArray/\xs.length<=sizeLine:=by
 rcases h with h|⟨o,i,n,b,c,d,j,f,r⟩
 .obtain⟨z,i,n,r,e⟩:=h.ok I.bE;exact#[i,r,#[_,n,e,rfl,rfl,rfl],z]
 .refine#[i.toList,r,#[o,n,I.j3 a o b,c,d,by simpa using j],?_];have e:=r.length;simp only[Array.length_toList] at e;omega
theorem Inv.tuple (I:Inv X pins σ H s) (h:cx X.K H a xs):∃i:List Value,Vals xs i/\IsTup s.heap a i.toArray/\xs.length<=sizeLine:=by
 rcases h with h|⟨o,i,n,b,c,j,f,r⟩
 .obtain⟨z,i,r,p⟩:=h.ok I.bE;exact#[i,r,p,z]
 .refine#[i.toList,r,#[o,I.j3 a o b,c,n,by simpa using j],?_];have e:=r.length;simp only[Array.length_toList] at e;omega
theorem Inv.pR (I:Inv X pins σ H s) (h:bp X.K H a xs) (h':bp X.K H a ys):xs=ys:=by
 obtain⟨i,r,⟨o,n,e,_,_,d⟩,_⟩:=I.list h;obtain⟨c,R,⟨o',N,E,_,_,b⟩,_⟩:=I.list h';rw[e] at E;cases E;rw[d] at b;injection b with D _;have:i=c:=by simpa using congrArg Array.toList D
 subst this;exact r.inj R
end
abbrev Cx.mU (X:Cx) (E:Value->Shared->Prop):Cx:={X with xe:=E}
abbrev Cx.mV (X:Cx):Cx:=X.mU λ_ _=>False
theorem Cx.Ok.mU {X:Cx} (o:X.Ok) (E:Value->Shared->Prop):(X.mU E).Ok:=#[o.mod,o.kind,o.glob,o.blt,o.above,o.inj,o.has,o.Df,o.hd,o.frames,o.D3,o.ED,o.bs,o.uv,o.jZ,o.zj,o.jq,o.BQ]
theorem Cx.Ok.gH {X:Cx} {E:Value->Shared->Prop} (o:(X.mU E).Ok):X.Ok:=#[o.mod,o.kind,o.glob,o.blt,o.above,o.inj,o.has,o.Df,o.hd,o.frames,o.D3,o.ED,o.bs,o.uv,o.jZ,o.zj,o.jq,o.BQ]
section
variable {X:Cx} {pins:List (Addr×Obj)} {σ:St} {H:Hp} {s:Shared} {E:Value->Shared->Prop}
theorem Inv.mU (I:Inv X pins σ H s) (E:Value->Shared->Prop):Inv (X.mU E) pins σ H s:=#[I.ok.mU E,I.os,I.bare,I.base,I.loc,I.cell,I.free,I.gB,I.pin,I.bE,I.len]
theorem Inv.gH (I:Inv (X.mU E) pins σ H s):Inv X pins σ H s:=#[I.ok.gH,I.os,I.bare,I.base,I.loc,I.cell,I.free,I.gB,I.pin,I.bE,I.len]
theorem SP.gH {D:Ends} {f:Flow} {s':Shared} (h:SP (X.mU E) pins D f s'):SP X pins D f s':=by
 cases f with
 |next=>obtain⟨a,H',I,q⟩:=h;exact#[a,H',I.gH,q]
 |brk=>obtain⟨a,H',I,q⟩:=h;exact#[a,H',I.gH,q]
 |cont=>obtain⟨a,H',I,q⟩:=h;exact#[a,H',I.gH,q]
 |ret u=>obtain⟨v,a,H',I,r,q⟩:=h;exact#[v,a,H',I.gH,r,q]
theorem n8.mV {st:List Stmt} {t:TS} (h:n8 X.mV st t):n8 X st t:=λpins s σ H D I c=>
 wpAny_mono (h pins s σ H D (I.mU _) c) (λ_ _ q=>q.gH) λ_ _ z=>False.elim z
end
section
variable {X:Cx} {st:Stmt} {rest:List Stmt} {t u:TS} {e:Expr} {te:TE} {pos:Pos}
def cC:TS:=λD σ H=>D.nx σ H
def aN (t u:TS):TS:=λD σ H=>t (D.sq u) σ H
theorem bw:n8 X [] cC:=λ_ _ σ H _ I h=>wpAny_execs_nil #[σ,H,I,h]
theorem ae (h1:PS X st t) (h2:n8 X rest u):n8 X (st :: rest) (aN t u):=by
 intro pins s σ H D I h;refine wpAny_execs_cons (cL (h1 pins s σ H (D.sq u) I h) λf S q=>?_);cases f with
 |next=>obtain⟨a,H',c,q⟩:=q;exact h2 pins S a H' D c q
 |ret v=>exact q
 |brk=>exact q
 |cont=>exact q
theorem aj (h1:PS X st t):n8 X [st] t:=by
 intro pins s σ H D I h;refine wpAny_execs_cons (cL (h1 pins s σ H D I h) λf S q=>?_);cases f with
 |next=>exact wpAny_execs_nil q
 |ret v=>exact q
 |brk=>exact q
 |cont=>exact q
def wX:TS:=λD σ H=>D.ct σ H
theorem jO:PS X (.Continue pos) wX:=λ_ _ σ H _ I h=>wpAny_Continue #[σ,H,I,h]
theorem Inv.quiet {pins:List (Addr×Obj)} {σ:St} {H:Hp} {s:Shared} (I:Inv X pins σ H s):interactive X.env=false:=by simp[interactive,I.ok.kind]
def dk (te:TE):TS:=λD σ H=>te σ H λ_ H1=>D.nx σ H1
theorem cp (f:PE X e te) (j:swapsWith e none pos.line X.env=pure false:=by rfl):PS X (.Expr e pos) (dk te):=by intro pins s σ H D I h;exact wpAny_Expr_any (cL (f pins s σ H _ I h) λv S ⟨x,H1,i,r,q⟩=>#[σ,H1,i,q]) I.quiet j
def cT (te:TE):TS:=λD σ H=>te σ H D.rt
theorem bc (f:PE X e te):PS X (.Return (some e) pos) (cT te):=by intro pins s σ H D I h;exact wpAny_Return_some (cL (f pins s σ H _ I h) λv S ⟨x,H1,i,r,q⟩=>#[x,σ,H1,i,r,q])
def cI (c:TT) (t u:TS):TS:=λD σ H=>c σ H λb H1=>if b=true then t D σ H1 else u D σ H1
theorem cb {c:Expr} {a b:List Stmt} {tc:TT} (f:PT X c tc) (g:n8 X a t) (e:n8 X b u):PS X (.If c a b pos) (cI tc t u):=by
 intro pins s σ H D I h;refine wpAny_If (cL (f pins s σ H _ I h) λd S z=>?_);obtain⟨H1,i,q⟩:=z;cases d with
 |true=>exact g pins S σ H1 D i q
 |false=>exact e pins S σ H1 D i q
def wY:TS:=λ_ _ _=>False
theorem uw {s:List Stmt}:n8 X s wY:=λ_ _ _ _ _ _ h=>h.elim
end
abbrev TG:=V->St->Hp->(St->Hp->Prop)->Prop
abbrev CU:=List V->St->Hp->(St->Hp->Prop)->Prop
def PG (X:Cx) (T:Expr) (t:TG):Prop:=∀(pins:List (Addr×Obj)) (s:Shared) (σ:St) (H:Hp) (v:V) (u:Value) (Q:St->Hp->Prop),Inv X pins σ H s->RelV v u->t v σ H Q->
  wpAny (model X.prog X.w) X.A (assign T X.env u) (λ_ s'=>∃a H',Inv X pins a H' s'/\Q a H') X.xe s
def D4 (X:Cx) (ts:List Expr) (t:CU):Prop:=∀(pins:List (Addr×Obj)) (s:Shared) (σ:St) (H:Hp) (b:List V) (u:List Value) (Q:St->Hp->Prop),Inv X pins σ H s->Vals b u->t b σ H Q->
  wpAny (model X.prog X.w) X.A (assignInOrder ((assignEach ts X.env).map (·.2)) u) (λ_ s'=>∃a H',Inv X pins a H' s'/\Q a H') X.xe s
abbrev BU:=V->V->V->Hp->(Hp->Prop)->Prop
def Di (X:Cx) (t:BU):Prop:=∀(pins:List (Addr×Obj)) (s:Shared) (σ:St) (H:Hp) (o i v:V) (O I u:Value) (Q:Hp->Prop),Inv X pins σ H s->RelV o O->RelV i I->RelV v u->t o i v H Q->
  wpAny (model X.prog X.w) X.A (setItem O I u) (λ_ s'=>∃H',Inv X pins σ H' s'/\Q H') X.xe s
section
variable {X:Cx} {pos:Pos}
def az (i:Nat):TG:=λv σ H Q=>Q (σ.set i (some v)) H
theorem dg {i:Nat} {x:Str} (b:X.N.Nodup) (hi:X.N[i]?=some x) (a:Loc X.env.scope x) (m:X.fn x=true\/X.env.scope.names.lookup x=some .local:=by first|exact .inl rfl|exact .inr rfl|assumption):PG X (.Name x pos) (az i):=by intro pins s σ H v u Q I r h;exact wpAny_assign_Name (iO I b hi a r (λs' c=>#[_,H,c,h]) m)
def BV:CU:=λb σ H Q=>b=[]/\Q σ H
inductive ny (t:TG) (u:CU) (vs:List V) (σ:St) (H:Hp) (Q:St->Hp->Prop):Prop
 |mk (v:_) (r:_) (h1_:vs=v :: r) (h2_:t v σ H λσ' H'=>u r σ' H' Q):ny t u vs σ H Q
theorem tK:D4 X [] BV:=by intro pins s σ H b u Q I r h;obtain⟨e,h⟩:=h;subst e;cases r;exact assignInOrder_nil #[σ,H,I,h]
theorem iP {e:Expr} {es:List Expr} {t:TG} {u:CU} (h1:PG X e t) (h2:D4 X es u) (j:(assignEach (e :: es) X.env).map (·.2)=assign e X.env :: (assignEach es X.env).map (·.2):=by rfl):D4 X (e :: es) (ny t u):=by
 intro pins s σ H b U Q I r h;obtain⟨v,c,E,h⟩:=h;subst E;cases r with
 |cons r R=>rw[j];refine assignInOrder_cons (cL (h1 pins s σ H _ _ _ I r h) λ_ S z=>?_);obtain⟨a,H1,i,q⟩:=z;exact h2 pins S a H1 _ _ Q i R q
inductive zl (K:W.Frag) (n:Nat) (t:CU) (v:V) (σ:St) (H:Hp) (Q:St->Hp->Prop):Prop
 |mk (a:_) (xs:_) (h1_:v=.ref a) (h2_:cx K H a xs) (h3_:xs.length=n) (h4_:t xs σ H Q):zl K n t v σ H Q
theorem wZ {es:List Expr} {k:Nat} {t:CU} {n:Nat} (g:X.calm=true) (h:D4 X es t) (f:(assignEach es X.env).length=n:=by rfl) (w:(assignEach es X.env).findIdx? (·.1)=none:=by rfl):PG X (.Tuple es k pos) (zl X.K n t):=by intro pins s σ H v u Q I r p;obtain⟨a,xs,E,j,c,p⟩:=p;subst E;cases r;obtain⟨i,R,l,q⟩:=I.tuple j;refine assign_Tuple_tuple (I.ok.hd g) l (by simp[f,<-c,R.length]) w λh' d=>?_;have m:Inv X pins σ H {s with heap:=h'}:=I.kept (t':=s.toks) λb o e=>d b o (Nat.ne_of_lt (Heap.lt_size e)) e;exact h pins _ σ H xs _ Q m (by simpa using R) p
def zm (to T:TE) (t:BU):TG:=λv σ H Q=>to σ H λo H1=>T σ H1 λi H2=>t o i v H2 λh=>Q σ h
theorem rL {o i:Expr} {to T:TE} {t:BU} (g:PE X o to) (hi:PE X i T) (j:Di X t) (b:∀v,assign (.Subscript o i pos) X.env v=(do
   let O <-holding [v] (eval o X.env);let p <-holding [v,O] (eval i X.env)
   standAt pos
   holding [v,O,p] (setItem O p v)
   release [v,O,p] []):=by intro _;rfl):PG X (.Subscript o i pos) (zm to T t):=by
 intro pins s σ H v u Q I r h;rw[b];refine wpAny_bind (wpAny_holding (cL (g pins s σ H _ I h) λO S z=>?_));obtain⟨x,H1,c,R,q⟩:=z;refine wpAny_bind (wpAny_holding (cL (hi pins S σ H1 _ c q) λp f z=>?_));obtain⟨y,H2,e,l,d⟩:=z;refine wpAny_bind (wpAny_standAt (wpAny_bind (wpAny_holding (cL (j pins f σ H2 x y v O p u _ e R l r d) λ_ n z=>?_))));obtain⟨a,k,m⟩:=z;exact wpAny_release #[σ,a,k,m]
def bq (te:TE) (g:TG):TS:=λD σ H=>te σ H λx H1=>g x σ H1 D.nx
theorem lB {tg e:Expr} {te:TE} {g:TG} (f:PE X e te) (C:PG X tg g) (j:swapsWithSole [tg] e pos.line X.env=pure false:=by rfl) (c:swappedStores [tg] e X.env=pure none:=by rfl)
  (h1:(assignEach [tg] X.env).map (·.2)=[assign tg X.env]:=by rfl):PS X (.Assign [tg] e pos) (bq te g):=by
 intro pins s σ H D I h;refine wpAny_Assign_stores (cL (f pins s σ H _ I h) λv S z=>?_) j c;obtain⟨x,H1,i,r,Q⟩:=z;rw[h1];exact cL (C pins S σ H1 x v _ i r Q) λ_ a q=>q
theorem ay {i:Nat} {x:Str} {e:Expr} {te:TE} {pos':Pos} (c:X.N.Nodup) (hi:X.N[i]?=some x) (a:Loc X.env.scope x) (f:PE X e te) (j:swapsWith e (some (.Name x pos')) pos.line X.env=pure false:=by rfl) (m:X.fn x=true\/X.env.scope.names.lookup x=some .local:=by first|exact .inl rfl|exact .inr rfl|assumption):
  PS X (.Assign [.Name x pos'] e pos) (bq te (az i)):=by
 intro pins s σ H D I h;refine wpAny_Assign_Name (cL (f pins s σ H _ I h) λv S z=>?_) j;obtain⟨y,H1,b,r,q⟩:=z;exact iO b c hi a r (λd g=>#[_,H1,g,q]) m
inductive Bg (i:Nat) (j:Nat) (D:Ends) (σ:St) (vs:List V) (H1:Hp):Prop
 |mk (v:_) (w:_) (h1_:vs=[v,w]) (h2_:D.nx ((σ.set i (some v)).set j (some w)) H1):Bg i j D σ vs H1
def Dj (i j:Nat) (ta:TA):TS:=λD σ H=>ta σ H (Bg i j D σ)
theorem BW {i j:Nat} {x y:Str} {a b:Expr} {ta:TA} {P M pt:Pos} {kt k2 pt2} (g:X.calm=true) (C:X.N.Nodup) (hi:X.N[i]?=some x) (A:X.N[j]?=some y) (Z:i≠j) (d:X.env.scope.names.lookup x=some .local) (E:X.env.scope.names.lookup y=some .local) (l:PA X [a,b] ta) (c:swappedStores [.Tuple [.Name x P,.Name y M] kt pt] (.Tuple [a,b] k2 pt2) X.env=pure (some [x,y])) (m:swapsWithSole [.Tuple [.Name x P,.Name y M] kt pt] (.Tuple [a,b] k2 pt2) pos.line X.env=pure false:=by rfl):
  PS X (.Assign [.Tuple [.Name x P,.Name y M] kt pt] (.Tuple [a,b] k2 pt2) pos) (Dj i j ta):=by
 intro pins s σ H D I h;rw[exec_Assign_arm];refine wpAny_bind (wpAny_standAt ?_);rw[m];refine wpAny_bind (wpAny_pure ?_);rw[if_neg (by decide)];refine wpAny_bind (Tuple_ (cL (l _ pins s σ H _ I h) λu S z=>?_));obtain⟨vs,H1,B,r,n⟩:=z;obtain⟨v,w,t,n⟩:=n;subst t;obtain⟨U,J,rfl,R,K⟩:∃U J,u=[U,J]/\RelV v U/\RelV w J:=by
  cases r with
  |cons p q=>
   cases q with
   |cons L Q=>cases Q;exact#[_,_,rfl,p,L]
 refine wpAny_newObj_type ?_ (by show 2<=sizeLine;decide);have G:Inv X pins σ H1 {S with heap:=S.heap.push {cls:=.type "tuple",data:=.seq [U,J].toArray}}:=B.kept (t':=S.toks) λb o e=>Heap.get?_push_of_some _ e;rw[c];refine wpAny_bind (wpAny_pure ?_);show wpAny (model X.prog X.w) X.A (do rule "assign.swapped-stores";let Y <-unpackItems (.ref S.heap.objs.size) 2 none;assignInOrder [λv=>bindName X.env y v,λv=>bindName X.env x v] Y.reverse;pure Flow.next) _ _ _;refine wpAny_bind (wpAny_rule (wpAny_bind (unpackItems_tuple (items:=[U,J].toArray) (I.ok.hd g) (IsTup.new S.heap _) λh' T=>?_)));have k:=G.kept (h':=h') (t':=S.toks) λb o e=>T b o (Nat.ne_of_lt (Heap.lt_size e)) e;show wpAny _ _ (assignInOrder [λv=>bindName X.env y v,λv=>bindName X.env x v] [J,U] >>=λ_=>pure Flow.next) _ _ _;refine wpAny_bind (assignInOrder_cons (wpAny_bindName (iO k C A (.inl E) K (λf N=>?_) (.inr E))));refine assignInOrder_cons (wpAny_bindName (iO N C hi (.inl d) R (λs3 O=>assignInOrder_nil (wpAny_pure ?_)) (.inr d)));rw[List.set_comm _ _ (Ne.symm Z)] at O;exact#[_,H1,O,n]
end
section
variable {X:Cx} {pos:Pos}
inductive eQ (c:TT) (tb:TS) (D:Ends) (σ:St) (H:Hp):Prop
 |mk (W:Nat->St->Hp->Prop) (h1_:(∃m,W m σ H)) (h2_:∀m σ H,W m σ H->c σ H λb H1=>if b=true then ∃N:St->Hp->Prop,(∀σ' H',N σ' H'->∃m',m' < m/\W m' σ' H')/\tb (D.lp N) σ H1 else D.nx σ H1):eQ c tb D σ H
theorem dm {c:Expr} {B:List Stmt} {tc:TT} {tb:TS} (g:PassesOwn (model X.prog X.w) X.A X.env X.xe) (a:PT X c tc) (d:n8 X B tb):PS X (.While c B [] pos) (eQ tc tb):=by
 intro pins s σ H D I h;obtain⟨W,⟨x,A⟩,T⟩:=h;refine wpAny_While (codeAny_whileLoop (λn s'=>∃r H',Inv X pins r H' s'/\W n r H') ?_ x #[σ,H,I,A]);rintro n S ⟨y,H1,i,C⟩;refine wpAny_passesOwn g (cL (a pins S y H1 _ i (T n y H1 C)) λb q z=>?_);obtain⟨H2,e,Q⟩:=z;cases b with
 |true=>
  obtain⟨N,p,Q⟩:=Q;rw[if_pos rfl];refine wpAny_passesOwn g (cL (d pins q y H2 _ e Q) λf j m=>?_);cases f with
  |next=>obtain⟨u,o,k,t⟩:=m;obtain⟨M,l,w⟩:=p u o t;exact#[M,l,u,o,k,w]
  |cont=>obtain⟨u,o,k,t⟩:=m;obtain⟨M,l,w⟩:=p u o t;exact#[M,l,u,o,k,w]
  |brk=>exact m
  |ret v=>exact m
 |false=>rw[if_neg Bool.false_ne_true];exact wpAny_execs_nil #[y,H2,e,Q]
end
structure It where
 go:Nat->Hp->Prop
 Ee:Nat->Hp->V->Hp->Prop
 stop:Nat->Hp->Prop
def pS (X:Cx) (pins:List (Addr×Obj)) (H:Hp) (b:Addr):Prop:=H b=none/\b≠X.env.locals/\b∉X.fs/\(b∈X.ex\/X.s₀.heap.objs.size<=b)/\(∀x c,X.env.cells.lookup x=some c->c≠b)/\∀p∈X.pn++pins,p.1≠b
theorem Inv.BX {X:Cx} {pins:List (Addr×Obj)} {σ:St} {H H':Hp} {s:Shared} {b:Addr} (I:Inv X pins σ H s) (d:s.heap.objs.size<=b) (f:H' b=none):pS X pins H' b:=by
 refine#[f,Nat.ne_of_gt (Nat.lt_of_lt_of_le I.lt d),I.Ec d,.inr (Nat.le_trans I.sz d),λx c e z=>?_,λp g z=>?_]
 .obtain⟨v,q⟩:=I.cell x c e;exact absurd (Nat.lt_of_lt_of_le q.lt (by rw[z];exact d)) (Nat.lt_irrefl _)
 .exact absurd (Nat.lt_of_lt_of_le (Heap.lt_size (I.pin p g).1) (by rw[z];exact d)) (Nat.lt_irrefl _)
structure Turn (P:Program) (w:World) (K:W.Frag) (tg:Expr) (J:It) (fp:List Addr) (it:Addr) (tn:Nat->Heap->Prop):Prop where
 mem:it∈fp
 obj:∀i h,tn i h->∀b∈fp,∃o,h.get? b=some o/\∀v,o.data≠.cell v
 keep:∀i h h',tn i h->(∀b∈fp,∀o,h.get? b=some o->h'.get? b=some o)->tn i h'
 item:∀(X:Cx),X.prog=P->X.w=w->X.K=K->X.calm=true->∀(i:Nat) (pins:List (Addr×Obj)) (s:Shared) (σ:St) (H:Hp) (E:Value->Shared->Prop),Inv X pins σ H s->(∀b∈fp,pS X pins H b)->tn i s.heap->J.go i H->wpAny (model P w) X.A (pyNext (.ref it)) (λr s1=>∃u,r=some u/\wpAny (model P w) X.A (letOwnedTupleGo tg (.ref it) u) (λ_ s2=>∃x H',Inv X pins σ H' s2/\RelV x u/\J.Ee i H x H'/\tn (i+1) s2.heap/\∀b∈fp,H' b=none) E s1) E s
 done:∀(X:Cx),X.prog=P->X.w=w->X.K=K->X.calm=true->∀(i:Nat) (pins:List (Addr×Obj)) (s:Shared) (σ:St) (H:Hp) (E:Value->Shared->Prop),Inv X pins σ H s->(∀b∈fp,pS X pins H b)->tn i s.heap->J.stop i H->wpAny (model P w) X.A (pyNext (.ref it)) (λr s1=>r=none/\Inv X pins σ H s1) E s
 self:∀(A:Around) (i:Nat) (s:Shared) (Q:Value->Shared->Prop) (E:Value->Shared->Prop),tn i s.heap->Q (.ref it) s->wpAny (model P w) A (pyIter (.ref it)) Q E s
abbrev TI:=St->Hp->(It->Hp->Prop)->Prop
def EO (X:Cx) (pins:List (Addr×Obj)) (σ:St) (tg:Expr) (R:It->Hp->Prop) (I:Value) (f:Shared):Prop:=∃(i:Addr) (a:List Addr) (t:Nat->Heap->Prop) (J:It) (H':Hp),I=.ref i/\Inv X pins σ H' f/\Turn X.prog X.w X.K tg J a i t/\t 0 f.heap/\(∀b∈a,pS X pins H' b)/\R J H'
def PI (X:Cx) (tg i:Expr) (w:TI):Prop:=∀(pins:List (Addr×Obj)) (s:Shared) (σ:St) (H:Hp) (R:It->Hp->Prop),Inv X pins σ H s->w σ H R->
  wpAny (model X.prog X.w) X.A (eval i X.env) (λv S=>wpAny (model X.prog X.w) X.A (pyIter v) (EO X pins σ tg R) X.xe S) X.xe s
theorem w4 {M:Model} {A:Around} {E:Value->Shared->Prop} {s:Shared} {tg:Expr} {it:Addr} {u:Value} {o:Obj} {n:String} {vs:Array Value} {Q:Unit->Shared->Prop} (g:s.heap.get? it=some o) (a:o.cls=.type n) (b:o.data=.fields vs) (f:["enumerate","zip","dict_itemiterator","dict_reverseitemiterator","odict_iterator","itertools.zip_longest","itertools.pairwise"].contains n=false) (H:Q () s):wpAny M A (letOwnedTupleGo tg (.ref it) u) Q E s:=by
 unfold letOwnedTupleGo;cases tg <;> first
  |exact wpAny_pure H
  |(cases u <;> first
    |exact wpAny_pure H
    |(refine wpAny_bind (wpAny_load g ?_)
      rw[a,b];show wpAny M A (if (["enumerate","zip","dict_itemiterator","dict_reverseitemiterator","odict_iterator","itertools.zip_longest","itertools.pairwise"].contains n&&vs[0]?==some (rawInt _))=true then _ else _) Q E s;rw[if_neg (by intro h;rw[f,Bool.false_and] at h;cases h)];exact wpAny_pure H))
def Ef (K:W.Frag) (a:Addr):It:=#[λi H=>∃xs x,bp K H a xs/\xs[i]?=some x,λi H x H'=>H'=H/\∀xs,bp K H a xs->xs[i]?=some x,λi H=>∃xs,bp K H a xs/\xs.length<=i]
theorem ux {P:Program} {w:World} {K:W.Frag} {tg:Expr} (a it:Addr):Turn P w K tg (Ef K a) [it] it (λi h=>h.IsListIter it a i) where
 mem:=by simp
 obj:=λi h st b hb=>by
  have e:b=it:=by simpa using hb
  subst e;obtain⟨o,e,c,d⟩:=st;exact#[o,e,λv z=>by rw[d] at z;cases z]
 keep:=λi h h' st k=>st.at λo e=>k it (by simp) o e
 item:=by intro X hP hw hK hc i pins s σ H E I hf st hg;subst hP hw hK;obtain⟨xs,x,hq,hx⟩:=hg;obtain⟨its,rv,p,hz⟩:=I.list hq;obtain⟨u,hu,ru⟩:=rv.get hx;obtain⟨f0,f1,f2,f3,f4,f5⟩:=hf it (by simp);refine wpAny_pyNext_list_item st p.isList (x:=u) (by simpa using hu) λh' st' sb=>?_;have I1:Inv X pins σ H {s with heap:=h'}:=I.turned (t':=s.toks) (λb o hb e=>(sb.2 b hb).trans e) f0 f1 f3 f4 f5;obtain⟨o,e,c,d⟩:=id st';exact#[u,rfl,w4 (s:={s with heap:=h'}) e c d (by decide) #[x,H,I1,ru,#[rfl,λys hy=>by rw[I.pR hy hq];exact hx],st',λb hb=>(hf b hb).1]]
 done:=by intro X hP hw hK hc i pins s σ H E I hf st hg;subst hP hw hK;obtain⟨xs,hq,hx⟩:=hg;obtain⟨its,rv,p,hz⟩:=I.list hq;obtain⟨f0,f1,f2,f3,f4,f5⟩:=hf it (by simp);have hl:=rv.length;exact wpAny_pyNext_list_end (I.ok.hd hc) st p.isList (by simp;omega) λh' eb=>#[rfl,I.turned (t':=s.toks) (λb o hb e=>eb b o hb e) f0 f1 f3 f4 f5]
 self:=λ_ _ _ _ _ st h=>wpAny_pyIter_listiter st h
section
variable {X:Cx} {tg:Expr}
inductive w8 (K:W.Frag) (R:It->Hp->Prop) (x:V) (H1:Hp):Prop
 |mk (a:_) (h1_:x=.ref a) (h2_:(∃xs,bp K H1 a xs)) (h3_:R (Ef K a) H1):w8 K R x H1
def iQ (K:W.Frag) (tl:TE):TI:=λσ H R=>tl σ H (w8 K R)
theorem fj {l:Expr} {tl:TE} (c:PE X l tl):PI X tg l (iQ X.K tl):=by
 intro pins s σ H R I h;refine cL (c pins s σ H _ I h) λv S z=>?_;obtain⟨x,H1,g,r,Q⟩:=z;obtain⟨a,e,⟨xs,j⟩,q⟩:=Q;subst e;cases r;obtain⟨i,k,p,f⟩:=g.list j;refine wpAny_pyIter_list p.isList ?_;refine#[S.heap.objs.size,[S.heap.objs.size],_,_,H1,rfl,g.kept (t':=S.toks) λb o e=>Heap.get?_push_of_some _ e,ux a _,#[_,Heap.get?_push_size _ rfl,rfl,rfl],λb d=>?_,q];have e:b=S.heap.objs.size:=by simpa using d
 subst e;exact g.BX (Nat.le_refl _) (g.bE.fresh (Nat.le_refl _))
inductive pT (g:TG) (tb:TS) (D:Ends) (σ:St) (J:It) (H1:Hp):Prop
 |mk (W:Nat->Nat->St->Hp->Prop) (h1_:(∃m,W 0 m σ H1)) (h2_:∀i m σ H,W i m σ H->(J.stop i H/\D.nx σ H)\/(J.go i H/\∃N:St->Hp->Prop,(∀σ' H',N σ' H'->∃m',m' < m/\W (i+1) m' σ' H')/\∀x H',J.Ee i H x H'->g x σ H' λσ2 H2=>tb (D.lp N) σ2 H2)):pT g tb D σ J H1
def oh (w:TI) (g:TG) (tb:TS):TS:=λD σ H=>w σ H (pT g tb D σ)
def oi (a:List Addr) (h:Heap):List (Addr×Obj):=a.filterMap λb=>(h.get? b).map λo=>(b,o)
theorem fZ {a:List Addr} {h:Heap} {b:Addr} {o:Obj} (d:b∈a) (e:h.get? b=some o):(b,o)∈oi a h:=List.mem_filterMap.mpr #[b,d,by rw[e];rfl]
theorem uy {a:List Addr} {h:Heap} {p:Addr×Obj} (g:p∈oi a h):p.1∈a/\h.get? p.1=some p.2:=by
 obtain⟨b,d,e⟩:=List.mem_filterMap.mp g;cases q:h.get? b with
 |none=>rw[q] at e;cases e
 |some o=>rw[q] at e;have E:(b,o)=p:=Option.some.inj e;subst E;exact#[d,q]
theorem Inv.pinned {pins:List (Addr×Obj)} {σ:St} {H:Hp} {s:Shared} {a:List Addr} (I:Inv X pins σ H s) (m:∀b∈a,pS X pins H b) (g:∀b∈a,∃o,s.heap.get? b=some o/\∀v,o.data≠.cell v):Inv X (pins++oi a s.heap) σ H s:=I.tI λp c=>(List.mem_append.mp c).elim (λz=>I.pin p (List.mem_append_right _ z)) λz=>by obtain⟨h,e⟩:=uy z;obtain⟨j,f,i,_⟩:=m p.1 h;obtain⟨o,E,d⟩:=g p.1 h;rw[e] at E;cases E;exact#[e,j,f,i,d]
theorem Inv.iR {pins pl:List (Addr×Obj)} {σ:St} {H:Hp} {s:Shared} (I:Inv X (pins++pl) σ H s):Inv X pins σ H s:=I.tI λp g=>I.pin p (List.mem_append_right _ (List.mem_append_left _ g))
theorem gb {w:Expr} {B:List Stmt} {wi:TI} {g:TG} {tb:TS} {pos:Pos} (l:PassesOwn (model X.prog X.w) X.A X.env X.xe) (hc:X.calm=true) (hi:PI X tg w wi) (hg:PG X tg g) (c:n8 X B tb) (hs:∀x,foldedSetIterable w X.env x=pure x:=by intro _;rfl):PS X (.For tg w B [] pos) (oh wi g tb):=by
 intro pins s σ H D I h;refine wpAny_For (cL (hi pins s σ H _ I h) λv s1 h1=>cL h1 λac s2 h2=>?_) hs;obtain⟨it,q,tn,J,H2,e,I2,T,L,f2,W,⟨m0,w0⟩,O⟩:=h2;subst e;have S:∀{H':Hp},(∀b∈q,H' b=none)->∀b∈q,pS X pins H' b:=λhn b c=>#[hn b c,(f2 b c).2];refine codeAny_forLoop_any (λn s'=>∃i a H',Inv X pins a H' s'/\tn i s'.heap/\(∀b∈q,H' b=none)/\W i n a H') ?_ m0 ⟨0,σ,H2,I2,L,λb c=>(f2 b c).1,w0⟩;rintro n s3 ⟨i,y,j,I3,U,R,w3⟩;rcases O i n y j w3 with⟨P,qn⟩|⟨go,N,hN,step⟩
 .refine wpAny_passesOwn l (cL (T.done X rfl rfl rfl hc i pins s3 y j X.xe I3 (S R) U P) λr s4 z=>?_);obtain⟨k,I4⟩:=z;subst k;exact wpAny_execs_nil #[y,j,I4,qn]
 .refine wpAny_passesOwn l (cL (T.item X rfl rfl rfl hc i pins s3 y j X.xe I3 (S R) U go) λr s4 z=>?_);obtain⟨u,k,h4⟩:=z;subst k;refine wpAny_passesOwn l (cL h4 λ_ s5 z=>?_);obtain⟨x,p,I5,r5,y5,G,M⟩:=z;have Y:=I5.pinned (S M) (T.obj _ _ G);refine wpAny_passesOwn l (cL (hg _ s5 y p x u _ Y r5 (step x p y5)) λ_ s6 z=>?_);obtain⟨Z,H6,I6,q6⟩:=z;refine wpAny_passesOwn l (cL (c _ s6 Z H6 _ I6 q6) λf E Q=>?_);have again:∀{A:St} {t:Hp},Inv X (pins++oi q s5.heap) A t E->N A t->∃m,m < n/\∃i a H',Inv X pins a H' E/\tn i E.heap/\(∀b∈q,H' b=none)/\W i m a H':=λ{A t} C K=>by
   obtain⟨m',hm,w7⟩:=hN A t K;refine#[m',hm,i+1,A,t,C.iR,T.keep _ _ _ G λb c o e=>(C.pin (b,o) (List.mem_append_right _ (List.mem_append_right _ (fZ c e)))).1,λb c=>?_,w7];obtain⟨o,e,d⟩:=T.obj _ _ G b c;exact(C.pin (b,o) (List.mem_append_right _ (List.mem_append_right _ (fZ c e)))).2.1
  cases f with
  |next=>obtain⟨A,t,C,K⟩:=Q;exact again C K
  |cont=>obtain⟨A,t,C,K⟩:=Q;exact again C K
  |brk=>obtain⟨A,t,C,Q⟩:=Q;exact#[A,t,C.iR,Q]
  |ret v=>obtain⟨x7,A,t,C,r7,Q⟩:=Q;exact#[x7,A,t,C.iR,r7,Q]
end
theorem gI {K:W.Frag} {a:Addr} {xs:List V} {g:TG} {tb:TS} {D:Ends} {σ:St} {H:Hp} (Pv:Nat->St->Hp->Prop) (d:Pv 0 σ H) (c:∀i σ H,i<=xs.length->Pv i σ H->bp K H a xs) (j:∀i x σ H,xs[i]?=some x->Pv i σ H->g x σ H λk H2=>tb (D.lp (Pv (i+1))) k H2) (h:∀σ H,Pv xs.length σ H->D.nx σ H):pT g tb D σ (Ef K a) H:=by
 refine#[λi m σ H=>m=xs.length - i/\i<=xs.length/\Pv i σ H,#[xs.length,by simp,Nat.zero_le _,d],?_];rintro i m σ H ⟨rfl,hi,p⟩;have q:=c i σ H hi p;by_cases f:i < xs.length
 .refine .inr #[#[xs,xs[i],q,by simp[f]],Pv (i+1),λb H' L=>#[xs.length - (i+1),by omega,rfl,f,L],λx H' y=>?_];obtain⟨e,y⟩:=y;subst e;exact j i x σ _ (y xs q) p
 .have e:i=xs.length:=by omega
  subst e;exact .inl #[#[xs,q,Nat.le_refl _],h σ H p]
abbrev R2:=V->V->Hp->VK->Prop
def lC (X:Cx) (f:Value->Value->Sem Value) (r:R2):Prop:=∀(pins:List (Addr×Obj)) (s:Shared) (σ:St) (H:Hp) (x y:V) (v u:Value) (Q:VK),Inv X pins σ H s->RelV x v->RelV y u->r x y H Q->
  wpAny (model X.prog X.w) X.A (f v u) (EP X pins σ Q) X.xe s
def Eg (X:Cx) (f:Value->Sem Value) (r:V->Hp->VK->Prop):Prop:=∀(pins:List (Addr×Obj)) (s:Shared) (σ:St) (H:Hp) (x:V) (v:Value) (Q:VK),Inv X pins σ H s->RelV x v->r x H Q->
  wpAny (model X.prog X.w) X.A (f v) (EP X pins σ Q) X.xe s
def lD (X:Cx) (f:Value) (r:List V->Hp->VK->Prop):Prop:=∀(pins:List (Addr×Obj)) (s:Shared) (σ:St) (H:Hp) (xs:List V) (u:List Value) (Q:VK),Inv X pins σ H s->Vals xs u->r xs H Q->
  wpAny (model X.prog X.w) X.A (call f u) (EP X pins σ Q) X.xe s
def Eh (X:Cx) (r:V->Hp->(Bool->Hp->Prop)->Prop):Prop:=∀(pins:List (Addr×Obj)) (s:Shared) (σ:St) (H:Hp) (x:V) (v:Value) (Q:Bool->Hp->Prop),Inv X pins σ H s->RelV x v->r x H Q->
  wpAny (model X.prog X.w) X.A (truthy v) (TP X pins σ Q) X.xe s
def bj (r:R2) (ta tb:TE):TE:=λσ H Q=>ta σ H λx H1=>tb σ H1 λy H2=>r x y H2 Q
def Dk (r:V->Hp->VK->Prop) (ta:TE):TE:=λσ H Q=>ta σ H λx H1=>r x H1 Q
inductive rI (C:Int->Int->Prop) (g:Int->Int->V) (x:V) (y:V) (H:Hp) (Q:VK):Prop
 |mk (i:_) (j:_) (h1_:x=.int i) (h2_:y=.int j) (h3_:C i j) (h4_:Q (g i j) H):rI C g x y H Q
inductive mW (g:Int->Int->V) (x:V) (y:V) (H:Hp) (Q:VK):Prop
 |mk (i:_) (j:_) (h1_:x=.int i) (h2_:y=.int j) (h3_:Q (g i j) H):mW g x y H Q
inductive rU (g:Int->V) (x:V) (H:Hp) (Q:VK):Prop
 |mk (i:_) (h1_:x=.int i) (h2_:Q (g i) H):rU g x H Q
section
variable {X:Cx} {a b c:Expr} {ta tb tc:TE} {pos:Pos}
theorem BY (g:PE X a ta) (d:PE X b tb) {pins:List (Addr×Obj)} {s:Shared} {σ:St} {H:Hp} {R:V->V->Hp->Prop} (I:Inv X pins σ H s) (h:ta σ H λx H1=>tb σ H1 λy H2=>R x y H2) {Q:Value->Shared->Prop} {f:Value->Value->Sem Value} (m:∀v u j x y H2,Inv X pins σ H2 j->RelV x v->RelV y u->R x y H2->wpAny (model X.prog X.w) X.A (f v u) Q X.xe j):wpAny (model X.prog X.w) X.A (eval a X.env) (λv n=>wpAny (model X.prog X.w) X.A (eval b X.env) (λu c=>wpAny (model X.prog X.w) X.A (f v u) Q X.xe c) X.xe n) X.xe s:=by refine cL (g pins s σ H _ I h) λv S z=>?_;obtain⟨x,H1,i,r,q⟩:=z;refine cL (d pins S σ H1 _ i q) λu j z=>?_;obtain⟨y,H2,e,l,k⟩:=z;exact m v u j x y H2 e r l k
theorem cD {o:Operator} {r:R2} (g:lC X (binaryOp o) r) (c:PE X a ta) (d:PE X b tb):PE X (.BinOp a o b pos) (bj r ta tb):=by intro pins s σ H Q I h;exact wpAny_BinOp (BY c d I h λv u f x y H2 e R i q=>g pins f σ H2 x y v u Q e R i q)
theorem tL {o:UnaryOp} {r:V->Hp->VK->Prop} (g:Eg X (unaryOp o) r) (b:PE X a ta):PE X (.UnaryOp o a pos) (Dk r ta):=by intro pins s σ H Q I h;exact UnaryOp_ (cL (b pins s σ H _ I h) λv S ⟨x,H1,i,R,q⟩=>g pins S σ H1 x v Q i R q)
theorem D5 {f:Value->Value->Sem Value} {C:Int->Int->Prop} {g:Int->Int->Int} (rule:∀(i j:Int) (t u:Tok) (s:Shared) (Q:Value->Shared->Prop) (E:Value->Shared->Prop),C i j->Q (.int (g i j) s.toks) {s with toks:=s.toks+1}->wpAny (model X.prog X.w) X.A (f (.int i t) (.int j u)) Q E s):lC X f (rI C λi j=>.int (g i j)):=by intro pins s σ H x y v u Q I R r h;obtain⟨i,j,rfl,rfl,a,q⟩:=h;obtain⟨t,rfl⟩:=R;obtain⟨T,rfl⟩:=r;exact rule i j t T s _ _ a #[.int (g i j),H,I.tok _,#[_,rfl],q]
theorem Dm {f:Value->Value->Sem Value} {g:Int->Int->Int} (rule:∀(i j:Int) (t u:Tok) (s:Shared) (Q:Value->Shared->Prop) (E:Value->Shared->Prop),Q (.int (g i j) s.toks) {s with toks:=s.toks+1}->wpAny (model X.prog X.w) X.A (f (.int i t) (.int j u)) Q E s):lC X f (mW λi j=>.int (g i j)):=by intro pins s σ H x y v u Q I R r h;obtain⟨i,j,rfl,rfl,q⟩:=h;obtain⟨t,rfl⟩:=R;obtain⟨T,rfl⟩:=r;exact rule i j t T s _ _ #[.int (g i j),H,I.tok _,#[_,rfl],q]
theorem BZ {f:Value->Value->Sem Value} {g:Int->Int->Bool} (rule:∀(i j:Int) (t u:Tok) (s:Shared) (Q:Value->Shared->Prop) (E:Value->Shared->Prop),Q (.bool (g i j)) s->wpAny (model X.prog X.w) X.A (f (.int i t) (.int j u)) Q E s):lC X f (mW λi j=>.bl (g i j)):=by intro pins s σ H x y v u Q I R r h;obtain⟨i,j,rfl,rfl,q⟩:=h;obtain⟨t,rfl⟩:=R;obtain⟨T,rfl⟩:=r;exact rule i j t T s _ _ #[.bl (g i j),H,I,rfl,q]
def pU (i j:Int):Prop:=0 < j/\j < 1073741824
def Dp (i j:Int):Prop:=0<=j/\j<=1000000/\i.natAbs < 2 ^ 64
def zo (i j:Int):Prop:=(-(2 ^ 64) < i/\i < 2 ^ 64)\/(-(2 ^ 64) < j/\j < 2 ^ 64)
theorem zo.ok {i j:Int} (h:zo i j):IntMulOk i j:=by
 rcases h with⟨h1,h2⟩|⟨h1,h2⟩
 .exact .of_left (intBits_le_64 h1 h2)
 .exact .of_right (intBits_le_64 h1 h2)
theorem rM:lC X (binaryOp .Add) (mW λi j=>.int (i+j)):=Dm λ_ _ _ _ _ _ _ q=>add_int q
theorem xf:lC X (binaryOp .Sub) (mW λi j=>.int (i - j)):=Dm λ_ _ _ _ _ _ _ q=>sub_int q
theorem B0:lC X (binaryOp .Mult) (rI zo λi j=>.int (i*j)):=D5 λ_ _ _ _ _ _ _ a q=>mul_int q a.ok
theorem gc:lC X (binaryOp .FloorDiv) (rI pU λi j=>.int (i / j)):=D5 λi j _ _ _ _ _ a q=>by have h1:(0:Int) < j:=a.1;have h2:j < 1073741824:=a.2;exact floordiv_int (by omega) (by rw[Int.fdiv_eq_ediv_of_nonneg i (by omega)];exact q) (.inl (PyProof.noPylong_small (by omega)))
theorem fe:lC X (binaryOp .Mod) (rI (λ_ j=>0 < j) λi j=>.int (i%j)):=D5 λi j _ _ _ _ _ a q=>by have h1:(0:Int) < j:=a;exact mod_int' (by omega) (by rw[Int.fmod_eq_emod_of_nonneg i (by omega)];exact q)
theorem B1:lC X (binaryOp .Pow) (rI Dp λi j=>.int (i ^ j.toNat)):=D5 λ_ _ _ _ _ _ _ a q=>pow_int_small a.1 a.2.1 a.2.2 q
theorem ER {f:Value->Sem Value} {g:Int->Int} (rule:∀(i:Int) (t:Tok) (s:Shared) (Q:Value->Shared->Prop) (E:Value->Shared->Prop),Q (.int (g i) s.toks) {s with toks:=s.toks+1}->wpAny (model X.prog X.w) X.A (f (.int i t)) Q E s):Eg X f (rU λi=>.int (g i)):=by intro pins s σ H x v Q I R h;obtain⟨i,rfl,q⟩:=h;obtain⟨t,rfl⟩:=R;exact rule i t s _ _ #[.int (g i),H,I.tok _,#[_,rfl],q]
theorem oj:Eg X (unaryOp .USub) (rU λi=>.int (-i)):=ER λ_ _ _ _ _ q=>neg_int q
end
def Dq:V->V->Bool
 | .dE,.dE=>true| .dE,.int _=>true| .int _,.dE=>true| .dE,.bl _=>true| .bl _,.dE=>true| .dE,.str _=>true| .str _,.dE=>true
 | .int _,.int _=>true| .bl _,.bl _=>true| .str _,.str _=>true| .rH _,.rH _=>true
 | .int _,.str _=>true| .str _,.int _=>true| .bl _,.str _=>true| .str _,.bl _=>true
 |_,_=>false
def ki:R2:=λx y H Q=>Dq x y=true/\Q (.bl (decide (x=y))) H
def CV:R2:=λx y H Q=>Dq x y=true/\Q (.bl (!decide (x=y))) H
theorem tM {i j:Int}:decide (V.int i=V.int j)=(i==j):=by rw[Bool.eq_iff_iff];simp
theorem xg {i j:Bool}:decide (V.bl i=V.bl j)=(i==j):=by rw[Bool.eq_iff_iff];simp
theorem tO {i j:Str}:decide (V.str i=V.str j)=(i==j):=by rw[Bool.eq_iff_iff];simp
theorem tP {i j:Array UInt8}:decide (V.rH i=V.rH j)=(i.toList==j.toList):=by rw[Bool.eq_iff_iff];cases i;cases j;simp
section
variable {X:Cx} {a b c:Expr} {ta tb tc:TE} {pos:Pos}
theorem cq {pins:List (Addr×Obj)} {σ:St} {H:Hp} {s:Shared} {Q:VK} {k K:Bool} (I:Inv X pins σ H s) (q:Q (.bl k) H) (e:k=K):EP X pins σ Q (.bool K) s:=by subst e;exact#[.bl k,H,I,rfl,q]
theorem dj:lC X (compareOp .Eq) ki:=by
 intro pins s σ H x y v u Q I R r h;obtain⟨a,q⟩:=h;cases x with
 |dE=>
  cases R;cases y with
  |dE=>cases r;exact PySem.EqNone.eq_none_none (cq I q (by simp))
  |bl j=>cases r;exact PySem.EqNone.eq_none_bool (cq I q (by simp))
  |int j=>obtain⟨T,rfl⟩:=r;exact PySem.EqNone.eq_none_int (cq I q (by simp))
  |str j=>obtain⟨T,rfl⟩:=r;exact PySem.EqNone.eq_none_str (cq I q (by simp))
  |_=>exact absurd (show false=true from a) Bool.false_ne_true
 |bl i=>
  cases R;cases y with
  |dE=>cases r;exact PySem.EqNone.eq_bool_none (cq I q (by simp))
  |bl j=>cases r;exact eq_bool (cq I q xg)
  |str j=>obtain⟨T,rfl⟩:=r;exact PySem.EqMixed.eq_bool_str (cq I q (by simp))
  |_=>exact absurd (show false=true from a) Bool.false_ne_true
 |int i=>
  obtain⟨t,rfl⟩:=R;cases y with
  |dE=>cases r;exact PySem.EqNone.eq_int_none (cq I q (by simp))
  |int j=>obtain⟨T,rfl⟩:=r;exact eq_int (cq I q tM)
  |str j=>obtain⟨T,rfl⟩:=r;exact PySem.EqMixed.eq_int_str (cq I q (by simp))
  |_=>exact absurd (show false=true from a) Bool.false_ne_true
 |str i=>
  obtain⟨t,rfl⟩:=R;cases y with
  |dE=>cases r;exact PySem.EqNone.eq_str_none (cq I q (by simp))
  |bl j=>cases r;exact PySem.EqMixed.eq_str_bool (cq I q (by simp))
  |int j=>obtain⟨T,rfl⟩:=r;exact PySem.EqMixed.eq_str_int (cq I q (by simp))
  |str j=>obtain⟨T,rfl⟩:=r;exact eq_str (cq I q tO)
  |_=>exact absurd (show false=true from a) Bool.false_ne_true
 |rH i=>
  obtain⟨t,rfl⟩:=R;cases y with
  |rH j=>obtain⟨T,rfl⟩:=r;exact W.eq_bytes (cq I q tP)
  |_=>exact absurd (show false=true from a) Bool.false_ne_true
 |_=>cases y <;> exact absurd (show false=true from a) Bool.false_ne_true
theorem pV:lC X (compareOp .NotEq) CV:=by
 intro pins s σ H x y v u Q I R r h;obtain⟨a,q⟩:=h;cases x with
 |dE=>
  cases R;cases y with
  |dE=>cases r;exact PySem.EqNone.ne_none_none (cq I q (by simp))
  |bl j=>cases r;exact PySem.EqNone.ne_none_bool (cq I q (by simp))
  |int j=>obtain⟨T,rfl⟩:=r;exact PySem.EqNone.ne_none_int (cq I q (by simp))
  |str j=>obtain⟨T,rfl⟩:=r;exact PySem.EqNone.ne_none_str (cq I q (by simp))
  |_=>exact absurd (show false=true from a) Bool.false_ne_true
 |bl i=>
  cases R;cases y with
  |dE=>cases r;exact PySem.EqNone.ne_bool_none (cq I q (by simp))
  |bl j=>cases r;exact ne_bool (cq I q (congrArg not xg))
  |str j=>obtain⟨T,rfl⟩:=r;exact PySem.EqMixed.ne_bool_str (cq I q (by simp))
  |_=>exact absurd (show false=true from a) Bool.false_ne_true
 |int i=>
  obtain⟨t,rfl⟩:=R;cases y with
  |dE=>cases r;exact PySem.EqNone.ne_int_none (cq I q (by simp))
  |int j=>obtain⟨T,rfl⟩:=r;exact ne_int (cq I q (congrArg not tM))
  |str j=>obtain⟨T,rfl⟩:=r;exact PySem.EqMixed.ne_int_str (cq I q (by simp))
  |_=>exact absurd (show false=true from a) Bool.false_ne_true
 |str i=>
  obtain⟨t,rfl⟩:=R;cases y with
  |dE=>cases r;exact PySem.EqNone.ne_str_none (cq I q (by simp))
  |bl j=>cases r;exact PySem.EqMixed.ne_str_bool (cq I q (by simp))
  |int j=>obtain⟨T,rfl⟩:=r;exact PySem.EqMixed.ne_str_int (cq I q (by simp))
  |str j=>obtain⟨T,rfl⟩:=r;exact ne_str (cq I q (congrArg not tO))
  |_=>exact absurd (show false=true from a) Bool.false_ne_true
 |rH i=>
  obtain⟨t,rfl⟩:=R;cases y with
  |rH j=>obtain⟨T,rfl⟩:=r;exact W.ne_bytes (cq I q (congrArg not tP))
  |_=>exact absurd (show false=true from a) Bool.false_ne_true
 |_=>cases y <;> exact absurd (show false=true from a) Bool.false_ne_true
theorem tQ:lC X (compareOp .Lt) (mW λi j=>.bl (decide (i < j))):=BZ λ_ _ _ _ _ _ _ q=>lt_int q
theorem Dr:lC X (compareOp .LtE) (mW λi j=>.bl (decide (i<=j))):=BZ λ_ _ _ _ _ _ _ q=>le_int q
theorem xi:lC X (compareOp .Gt) (mW λi j=>.bl (decide (j < i))):=BZ λ_ _ _ _ _ _ _ q=>gt_int q
theorem aX (b:Expr) {o:CmpOp} (h:o≠.In:=by decide) (h2:o≠.NotIn:=by decide):behindInMarks o b=false:=by
 have t:(o==CmpOp.In)=false:=by cases o <;> first|rfl|exact absurd rfl h
 have E:(o==CmpOp.NotIn)=false:=by cases o <;> first|rfl|exact absurd rfl h2
 cases b <;> simp[behindInMarks,t,E]
theorem zp {o:CmpOp} {r:R2} (g:lC X (compareOp o) r) (j:PE X a ta) (d:PE X b tb) (c:behindInMarks o b=false):PE X (.Compare a [o] [b] pos) (bj r ta tb):=by intro pins s σ H Q I h;exact wpAny_Compare1 (BY j d I h λv u f x y H2 e R i q=>g pins f σ H2 x y v u Q e R i q) c
inductive xj (Q:Bool->Hp->Prop) (x:V) (H':Hp):Prop
 |mk (k:_) (h1_:x=.bl k) (h2_:Q k H'):xj Q x H'
def bD (t:TE):TT:=λσ H Q=>t σ H (xj Q)
theorem aD {o:CmpOp} {r:R2} (g:lC X (compareOp o) r) (t:PE X a ta) (d:PE X b tb) (n:behindInMarks o b=false):PT X (.Compare a [o] [b] pos) (bD (bj r ta tb)):=by
 intro pins s σ H Q I h;refine wpAny_isTrue_Compare1 (cL (t pins s σ H _ I h) λv S ⟨x,H1,i,R,q⟩=>cL (d pins S σ H1 _ i q) λu f ⟨y,H2,A,l,w⟩=>
  cL (g pins f σ H2 x y v u _ A R l w) λc j ⟨z,p,B,C,k,e,m⟩=>?_) n
 subst e;cases C;exact wpAny_truthy_bool #[p,B,m]
def Ds (K:W.Frag) (x:V) (H:Hp) (k:Bool):Prop:=match x with
 | .dE=>k=false
 | .bl b=>k=b
 | .int i=>k=(i != 0)
 | .str y=>y.length<=sizeLine/\k=((y.length:Int) != 0)
 | .rH y=>y.size<=sizeLine/\k=((y.size:Int) != 0)
 | .ref p=>(∃xs,bp K H p xs/\k=!xs.isEmpty)\/(∃xs,cx K H p xs/\k=!xs.isEmpty)\/∃kvs,H p=some (.dK kvs)/\k=!kvs.isEmpty
 |_=>False
theorem rN {κ:Type} {kvs:List (κ×V)} {vs:List (κ×Value)} (r:KV kvs vs):(!vs.isEmpty)=!kvs.isEmpty:=by cases r <;> rfl
theorem lE {xs:List V} {i:List Value} (r:Vals xs i):(!i.toArray.isEmpty)=!xs.isEmpty:=by cases r <;> simp
theorem lF:(sizeLine:Nat) < 2 ^ 63:=by rw[sizeLine_eq];decide
theorem B2:Eh X (λx H Q=>∃k,Ds X.K x H k/\Q k H):=by
 intro pins s σ H x v Q I R h;obtain⟨k,e,q⟩:=h;have c:=lF;have j:sizeLine=16777216:=sizeLine_eq;cases x with
 |dE=>cases R;have E:k=false:=e;subst E;exact truthy_none #[H,I,q]
 |bl b=>cases R;have E:k=b:=e;subst E;exact wpAny_truthy_bool #[H,I,q]
 |int i=>obtain⟨t,rfl⟩:=R;have E:k=(i != 0):=e;subst E;exact PySem.P.truthy_int #[H,I,q]
 |str y=>obtain⟨t,rfl⟩:=R;obtain⟨l,E⟩:y.length<=sizeLine/\k=((y.length:Int) != 0):=e;subst E;exact PySem.P.truthy_str (by omega) #[H,I.tok _,q]
 |rH y=>obtain⟨t,rfl⟩:=R;obtain⟨l,E⟩:y.size<=sizeLine/\k=((y.size:Int) != 0):=e;subst E;exact W.truthy_bytes (by omega) #[H,I.tok _,q]
 |ref p=>
  cases R;have E:(∃xs,bp X.K H p xs/\k=!xs.isEmpty)\/(∃xs,cx X.K H p xs/\k=!xs.isEmpty)\/∃kvs,H p=some (.dK kvs)/\k=!kvs.isEmpty:=e;rcases E with⟨xs,a,E⟩|⟨xs,a,E⟩|⟨kvs,a,E⟩
  .subst E;obtain⟨d,r,P,f⟩:=I.list a;have o:=r.length;exact wpAny_truthy_list P.isList (by simp only[List.size_toArray];omega) #[H,I.tok _,by rw[lE r];exact q]
  .subst E;obtain⟨d,r,P,f⟩:=I.tuple a;have o:=r.length;exact truthy_tuple P (by simp only[List.size_toArray];omega) #[H,I.tok _,by rw[lE r];exact q]
  .subst E;obtain⟨f,n,g,r,m⟩:kvs.length<=sizeLine/\(p==sysModules)=false/\∃g,KV kvs g/\s.heap.DictOf (cH X.prog X.w) p g:=I.bE p _ a;have o:kvs.length=g.length:=Paired.length r;exact wpAny_truthy_dict n m (by omega) #[H,I.tok _,by rw[rN r];exact q]
 |_=>exact(show False from e).elim
inductive Bh (K:W.Frag) (Q:Bool->Hp->Prop) (x:V) (H':Hp):Prop
 |mk (k:_) (h1_:Ds K x H' k) (h2_:Q k H'):Bh K Q x H'
def iS (K:W.Frag) (ta:TE):TT:=λσ H Q=>ta σ H (Bh K Q)
theorem cU (b:PE X a ta) (f:∀w,isTrue a X.env w=(do let v <-w;standAt a.pos;holding [v] (truthy v))):PT X a (iS X.K ta):=by intro pins s σ H Q I h;exact isTrue_plain (cL (b pins s σ H _ I h) λv S ⟨x,H1,i,r,⟨k,t,q⟩⟩=>B2 pins S σ H1 x v Q i r #[k,t,q]) (f _)
theorem vals1 {x:V} {us:List Value} (r:Vals [x] us):∃u,us=[u]/\RelV x u:=by
 cases r with
 |cons R l=>cases l;exact#[_,rfl,R]
theorem vals2 {x y:V} {us:List Value} (r:Vals [x,y] us):∃u J,us=[u,J]/\RelV x u/\RelV y J:=by
 cases r with
 |cons R l=>
  cases l with
  |cons C a=>cases a;exact#[_,_,rfl,R,C]
inductive hG (xs:List V) (H:Hp) (Q:VK):Prop
 |mk (i:_) (h1_:xs=[.int i]) (h2_:Q (.int (if i < 0 then -i else i)) H):hG xs H Q
theorem pW:lD X (.builtin "abs") hG:=by intro pins s σ H xs U Q I r h;obtain⟨i,rfl,q⟩:=h;obtain⟨u,rfl,t,rfl⟩:=vals1 r;exact call_abs_int λu T=>#[.int (if i < 0 then -i else i),H,I.tok _,#[_,rfl],q]
end
structure rO (h:Heap) (x dx C:Addr) (mA:Str->Option Value):Prop where
 obj:h.get? x=some (W.instObj C dx)
 ns:h.Ns1 dx mA
 ne:dx≠x
theorem uz {h:Heap} {dx:Addr} {mA:Str->Option Value} (n:h.Ns1 dx mA):∃A,h.get? dx=some A/\∀name,W.lookIn name A=some (mA name):=by
 obtain⟨o,es,d,g,b,H,_,c⟩:=n;refine#[o,g,λname=>?_];have e:=c name;unfold nsFind findBy at e;rw[<-Array.find?_toList] at e;unfold W.lookIn;rw[b];dsimp only;split
 .rename_i y q;rw[q] at e;exact congrArg some e
 .rename_i q;rw[q] at e;have a:es.toList.any (·.refKey)=false:=by
   rw[List.any_eq_false];intro y E;obtain⟨z,t,i⟩:=H y (Array.mem_toList_iff.mp E);simp[DictEntry.refKey,i]
  have f:¬es.toList.any (·.refKey)=true:=by rw[a];exact Bool.false_ne_true
  rw[if_neg f];exact congrArg some e
theorem rO.look {h:Heap} {x dx C:Addr} {mA:Str->Option Value} (I:rO h x dx C mA):∃A,W.InstAt h x (W.instObj C dx) C (some A)/\∀name,W.lookIn name A=some (mA name):=let ⟨A,g,c⟩:=uz I.ns
 ⟨A,⟨I.obj,rfl,rfl,g⟩,c⟩
section
variable {prog:Program} {w:World} {A:Around} {E:Value->Shared->Prop} {s:Shared} {K:W.Frag} {x dx C f:Addr} {mA:Str->Option Value} {name:Str} {v:Value}
theorem get_map {e:Bool} {Q:Value->Shared->Prop} (X:K.In s.heap) (I:rO s.heap x dx C mA) (H:W.plainGet K C name=true) (a:W.hasDictIn K C=true) (b:W.findIn K (.ref C) name=some none) (g:mA name=some v) (d:W.handedIn v=true) (h:Q v {s with toks:=s.toks+1}):wpAny (model prog w) A (getAttr (.ref x) name e) Q E s:=by obtain⟨o,J,c⟩:=I.look;exact W.get_value X J (W.plainGet_of H).1 (W.findObj_own a b rfl (by rw[c,g])) d h
theorem xk {pl:Sem Bool} {Q:Value×List Value->Shared->Prop} (X:K.In s.heap) (I:rO s.heap x dx C mA) (H:W.plainGet K C name=true) (m:W.findIn K (.ref C) name=some (some (.ref f))) (l:W.isFn K (.ref f)=true) (g:mA name=none) (h:Q (.ref f,[.ref x]) s):wpAny (model prog w) A (getMethod (.ref x) name pl) Q E s:=by obtain⟨o,J,c⟩:=I.look;exact W.method_fn X J (W.plainGet_of H).1 (W.plainGet_of H).2 m (beq_iff_eq.mp l) (by show (W.lookIn name o).map (·.isSome)=some false;rw[c,g];rfl) h
theorem zr {n:List Str} {Q:Unit->Shared->Prop} (X:K.In s.heap) (I:rO s.heap x dx C mA) (j:W.findIn K (.ref C) "__setattr__"=some (some (.builtin "object.__setattr__"))) (g:W.plainOver K C=true) (l:W.takerIn K C name=some none) (f:W.hasDictIn K C=true) (e:PySem.Within mA n) (hsz:n.length<=sizeLine) (h:∀h',rO h' x dx C (λy=>if y=name then some v else mA y)->Heap.SameBut dx s.heap h'->Q () {s with heap:=h',toks:=s.toks+2}):wpAny (model prog w) A (setAttr (.ref x) name v) Q E s:=by obtain⟨o,J,c⟩:=I.look;refine W.set_plain X J j (W.osa_open (s:={s with toks:=s.toks+1}) (r:=none) X J g l λb=>?_);obtain⟨k,d,i⟩:=W.any_some f;have H:s.heap.get? x=some #[.ref C,some dx,.plain,[].toArray]:=I.obj;refine wpAny_bind (wpAny_pure (wpAny_bind (wpAny_bind (wpAny_loadPart H (wpAny_bind (W.Looks.here (s:={s with toks:=s.toks+1}) (W.looks_clsIn X d) ?_))))));rw[i];refine wpAny_pure (a:=some dx) (wpAny_bind (wpAny_pure (wpAny_bind ?_)));refine wpAny_nsSet1 (s:={s with toks:=s.toks+1}) I.ns λh' p m=>?_;obtain⟨O,z,B,q,t,u⟩:=p.count (PySem.Within.cons name v e);refine wpAny_bind (wpAny_lookBehind q (by rw[t];exact pastItsLine_dict (Nat.le_trans u (by rw[List.length_cons];omega))) ?_);exact wpAny_pure (h _ #[(m.2 _ (Ne.symm I.ne)).trans I.obj,p,I.ne] m)
theorem xl {R:Result->Shared->Prop} {vs:List Value} {k:List (Str×Value)} (X:K.In s.heap) (c:W.makesIn K C=true) (hi:W.findIn K (.ref C) "__init__"=some (some (.ref f))) (m:W.typeIn K (.ref f)=some (.type "function")) (h:codeAny (model prog w) (A.under (.builtin "type.__call__" #[.ref C :: vs,k])) (.call (.ref f) #[.ref (s.heap.objs.size+1) :: vs,k]) (W.InitBack (s.heap.objs.size+1) R) {s with heap:=(s.heap.push W.emptyDict).push (W.instObj C s.heap.objs.size)}):codeAny (model prog w) A (.call (.ref C) #[vs,k]) R s:=by obtain⟨a,g,d,t,os⟩:=s;exact W.make_core (W.makes_of X c) (W.looks_findIn X hi) (λS=>W.bind_fn X S m) (.inl rfl) h
end
def cJ (f:Str) (v:V):List (Str×V)->List (Str×V)
 |[]=>[(f,v)]
 |(g,x) :: r=>if g=f then(g,v) :: r else(g,x) :: cJ f v r
theorem jP (f g:Str) (v:V):∀fs:List (Str×V),(cJ f v fs).lookup g=if g=f then some v else fs.lookup g
 |[]=>by
  show List.lookup g [(f,v)]=_;by_cases h:g=f
  .have d:(g==f)=true:=beq_iff_eq.mpr h;simp only[List.lookup,d,if_pos h]
  .have d:(g==f)=false:=beq_eq_false_iff_ne.mpr h;simp only[List.lookup,d,if_neg h]
 |(k,x) :: r=>by
  have I:=jP f g v r;rw[show cJ f v ((k,x) :: r)=(if k=f then(k,v) :: r else(k,x) :: cJ f v r) from rfl];by_cases a:k=f
  .rw[if_pos a];by_cases h:g=k
   .have d:(g==k)=true:=beq_iff_eq.mpr h;simp only[List.lookup,d,if_pos (h.trans a)]
   .have d:(g==k)=false:=beq_eq_false_iff_ne.mpr h;simp only[List.lookup,d,if_neg (λe:g=f=>h (e.trans a.symm))]
  .rw[if_neg a];by_cases h:g=k
   .have d:(g==k)=true:=beq_iff_eq.mpr h;simp only[List.lookup,d,if_neg (λe:g=f=>a (h.symm.trans e))]
   .have d:(g==k)=false:=beq_eq_false_iff_ne.mpr h;simp only[List.lookup,d];exact I
theorem js (f:Str) (v:V):∀fs:List (Str×V),f∈(cJ f v fs).map (·.1)/\∀g,g∈fs.map (·.1)->g∈(cJ f v fs).map (·.1)
 |[]=>#[by simp[cJ],λg h=>by simp at h]
 |(k,x) :: r=>by
  obtain⟨i,I⟩:=js f v r;rw[show cJ f v ((k,x) :: r)=(if k=f then(k,v) :: r else(k,x) :: cJ f v r) from rfl];by_cases a:k=f
  .rw[if_pos a];subst a;exact#[by simp,λg h=>by simpa using h]
  .rw[if_neg a];refine#[?_,λg h=>?_]
   .rw[List.map_cons];exact List.mem_cons_of_mem _ i
   .rw[List.map_cons] at h ⊢;rcases List.mem_cons.mp h with e|e
    .exact List.mem_cons.mpr (.inl e)
    .exact List.mem_cons_of_mem _ (I g e)
theorem jQ (f:Str) (v:V):∀fs:List (Str×V),(cJ f v fs).length<=fs.length+1
 |[]=>by simp[cJ]
 |(k,x) :: r=>by
  have I:=jQ f v r;rw[show cJ f v ((k,x) :: r)=(if k=f then(k,v) :: r else(k,x) :: cJ f v r) from rfl];by_cases a:k=f
  .rw[if_pos a,List.length_cons,List.length_cons];omega
  .rw[if_neg a,List.length_cons,List.length_cons];omega
theorem gD.some_of {v:V} {o:Option Value} (r:gD (some v) o):∃u,o=some u/\RelV v u:=by
 cases o with
 |none=>exact(show False from r).elim
 |some u=>exact#[u,rfl,r]
theorem gD.none_of {o:Option Value} (r:gD none o):o=none:=by
 cases o with
 |none=>rfl
 |some u=>exact(show False from r).elim
theorem uA {v:V} {u:Value} (r:RelV v u):W.handedIn u=true:=by
 cases v with
 |dE=>cases (show u=Value.none from r);rfl
 |bl b=>cases (show u=Value.bool b from r);rfl
 |int i=>obtain⟨t,e⟩:=(show ∃t,u=Value.int i t from r);cases e;rfl
 |str x=>obtain⟨t,e⟩:=(show ∃t,u=Value.str x t from r);cases e;rfl
 |rH b=>obtain⟨t,e⟩:=(show ∃t,u=Value.bytes b t from r);cases e;rfl
 |Bc b=>obtain⟨t,e⟩:=(show ∃t,u=Value.float b t from r);cases e;rfl
 |ref a=>cases (show u=Value.ref a from r);rfl
 |ty n=>cases (show u=Value.type n from r);rfl
section
variable {P:Program} {w:World} {H H':Hp} {h h':Heap} {a C dx:Addr} {fs fs':List (Str×V)}
theorem kj (b:g9 P w H h) (e:H a=some (.ins C dx fs)):∃mA,rO h a dx C mA/\(∀f,gD (fs.lookup f) (mA f))/\PySem.Within mA (fs.map (·.1))/\fs.length<=1000/\H dx=some (.own a):=by obtain⟨d,z,N,O,mA,n,r,q⟩:=(show cv P w H h a (.ins C dx fs) from b a _ e);exact#[mA,#[O,n,N],r,q,z,d]
end
structure zc (K:W.Frag) (C:Addr):Prop where
 pg:W.plainGet K C Str.empty=true
 hd:W.hasDictIn K C=true
 po:W.plainOver K C=true
 sa:W.findIn K (.ref C) "__setattr__"=some (some (.builtin "object.__setattr__"))
theorem zc.get {K:W.Frag} {C:Addr} (c:zc K C) (f:Str):W.plainGet K C f=true:=c.pg
def fu (K:W.Frag) (C:Addr) (f:Str):Prop:=W.findIn K (.ref C) f=some none
theorem fu.Dt {K:W.Frag} {C:Addr} {f:Str} (n:fu K C f):W.takerIn K C f=some none:=by unfold W.takerIn;rw[show W.findIn K (.ref C) f=some none from n];rfl
structure Meth (K:W.Frag) (C:Addr) (m:Str) (f:Addr):Prop where
 at_:W.findIn K (.ref C) m=some (some (.ref f))
 fn:W.isFn K (.ref f)=true
 kp:W.keepIn K (.ref f)=true
section
variable {X:Cx} {pins:List (Addr×Obj)} {σ:St} {H:Hp} {s:Shared} {a C dx:Addr} {fs:List (Str×V)} {f:Str} {v:V} {A:Around} {E:Value->Shared->Prop}
theorem rP {b:Bool} {Q:Value->Shared->Prop} (I:Inv X pins σ H s) (e:H a=some (.ins C dx fs)) (c:zc X.K C) (n:fu X.K C f) (l:fs.lookup f=some v) (h:∀u s',Inv X pins σ H s'->RelV v u->Q u s'):wpAny (model X.prog X.w) A (getAttr (.ref a) f b) Q E s:=by obtain⟨mA,O,r,_,_,_⟩:=kj I.bE e;obtain⟨u,d,R⟩:=gD.some_of (v:=v) (o:=mA f) (by rw[<-l];exact r f);exact get_map I.j3 O (c.get f) c.hd n d (uA R) (h u _ (I.tok _) R)
theorem rQ {m:Str} {g:Addr} {pl:Sem Bool} {Q:Value×List Value->Shared->Prop} (I:Inv X pins σ H s) (e:H a=some (.ins C dx fs)) (c:zc X.K C) (k:Meth X.K C m g) (l:fs.lookup m=none) (h:Q (.ref g,[.ref a]) s):wpAny (model X.prog X.w) A (getMethod (.ref a) m pl) Q E s:=by obtain⟨mA,O,r,_,_,_⟩:=kj I.bE e;have f:mA m=none:=gD.none_of (by rw[<-l];exact r m);exact xk I.j3 O (c.get m) k.at_ k.fn f h
theorem rR {y:V} {u:Value} {Q:Unit->Shared->Prop} (I:Inv X pins σ H s) (e:H a=some (.ins C dx fs)) (c:zc X.K C) (n:fu X.K C f) (k:fs.length < 1000) (i:RelV y u) (h:∀s',Inv X pins σ (upd H a (.ins C dx (cJ f y fs))) s'->Q () s'):wpAny (model X.prog X.w) A (setAttr (.ref a) f u) Q E s:=by
 obtain⟨mA,O,r,w,_,m⟩:=kj I.bE e;have t:(fs.map (·.1)).length<=sizeLine:=by rw[List.length_map,sizeLine_eq];omega
 refine zr I.j3 O c.sa c.po n.Dt c.hd w t λh' v S=>h _ ?_;have l:∃o,h'.get? dx=some o:=let ⟨o,_,_,j,_⟩:=v.ns;⟨o,j⟩;refine I.write (x:=a) (e:=dx) (by rw[e];exact True.intro) (.inr m) (λb q d z=>(S.2 b d).trans z) l ?_;refine#[by rw[ah O.ne];exact m,?_,O.ne,v.obj,_,v.ns,λg=>?_,λg p=>?_]
 .have:=jQ f y fs;omega
 .show gD ((cJ f y fs).lookup g) (if g=f then some u else mA g);rw[jP];by_cases q:g=f
  .rw[if_pos q,if_pos q];exact i
  .rw[if_neg q,if_neg q];exact r g
 .by_cases q:g=f
  .rw[q];exact(js f y fs).1
  .refine(js f y fs).2 g (w g λz=>p ?_);show (if g=f then some u else mA g)=none;rw[if_neg q];exact z
theorem Inv.made (I:Inv X pins σ H s):Inv X pins σ (upd (upd H s.heap.objs.size (.own (s.heap.objs.size+1))) (s.heap.objs.size+1) (.ins C s.heap.objs.size [])) {s with heap:=(s.heap.push W.emptyDict).push (W.instObj C s.heap.objs.size)}:=by
 have t:(s.heap.push W.emptyDict).get? s.heap.objs.size=some W.emptyDict:=Heap.get?_push_size s.heap rfl;have E:((s.heap.push W.emptyDict).push (W.instObj C s.heap.objs.size)).get? (s.heap.objs.size+1)=some (W.instObj C s.heap.objs.size):=by have:=Heap.get?_push_size (s.heap.push W.emptyDict) (o:=W.instObj C s.heap.objs.size) rfl;rwa [Heap.size_push] at this
 have B:(s.heap.push W.emptyDict).Ns s.heap.objs.size (λ_=>none):=#[W.emptyDict,[].toArray,_,t,rfl,(λe f=>absurd f (by simp)),λ_=>rfl];have i:=I.laid (a:=s.heap.objs.size) (o:=.own (s.heap.objs.size+1)) (h':=s.heap.push W.emptyDict) (t':=s.toks) (λb u q=>Heap.get?_push_of_some _ q) (Nat.le_refl _) #[_,t];refine i.laid (a:=s.heap.objs.size+1) (o:=.ins C s.heap.objs.size []) (t':=s.toks) (λb u q=>Heap.get?_push_of_some _ q) (Nat.le_of_eq (Heap.size_push _ _)) ?_;have N:s.heap.objs.size≠s.heap.objs.size+1:=Nat.ne_of_lt (Nat.lt_succ_self _);refine#[by rw[ah N,ab],Nat.zero_le _,N,E,λ_=>none,(Heap.Ns1.of_empty B).at λo q=>Heap.get?_push_of_some _ q,λ_=>True.intro,λy h=>absurd rfl h]
theorem zt {prog:Program} {w:World} {a:Env} {e:Expr} {f:Str} {pos:Pos} {s:Shared} {Q:Value->Shared->Prop} (d:attributeBase e f a (eval e a)=eval e a) (h:wpAny (model prog w) A (eval e a) (λo S=>wpAny (model prog w) A (getAttr o f true) Q E S) E s):wpAny (model prog w) A (eval (.Attribute e f pos) a) Q E s:=Attribute_any_ h (by rw[arm_eval_Attribute,d])
end
inductive Bi (K:W.Frag) (f:Str) (Q:VK) (x:V) (H1:Hp):Prop
 |mk (a:_) (C:_) (dx:_) (fs:_) (v:_) (h1_:x=.ref a) (h2_:H1 a=some (.ins C dx fs)) (h3_:zc K C) (h4_:fu K C f) (h5_:fs.lookup f=some v) (h6_:Q v H1):Bi K f Q x H1
def fH (K:W.Frag) (ta:TE) (f:Str):TE:=λσ H Q=>ta σ H (Bi K f Q)
inductive Bj (K:W.Frag) (f:Str) (D:Ends) (σ:St) (y:V) (x:V) (H2:Hp):Prop
 |mk (a:_) (C:_) (dx:_) (fs:_) (h1_:x=.ref a) (h2_:H2 a=some (.ins C dx fs)) (h3_:zc K C) (h4_:fu K C f) (h5_:fs.length < 1000) (h6_:D.nx σ (upd H2 a (.ins C dx (cJ f y fs)))):Bj K f D σ y x H2
def uB (K:W.Frag) (ta tv:TE) (f:Str):TS:=λD σ H=>tv σ H λy H1=>ta σ H1 (Bj K f D σ y)
section
variable {X:Cx} {o e value:Expr} {f:Str} {pos pos' tpos:Pos} {ta tv:TE}
theorem cS (b:PE X e ta) (d:attributeBase e f X.env (eval e X.env)=eval e X.env):PE X (.Attribute e f pos) (fH X.K ta f):=by intro pins s σ H Q I h;refine zt d (cL (b pins s σ H _ I h) λu S z=>?_);obtain⟨x,H1,i,R,a,C,dx,fs,v,ex,E,c,n,l,q⟩:=z;subst ex;obtain rfl:u=Value.ref a:=R;exact rP i E c n l λU g j r=>#[v,H1,j,r,q]
theorem lG (b:PE X o ta) (g:PE X value tv) (j:swapsWith value (some (.Attribute o f pos')) pos.line X.env=pure false):PS X (.Assign [.Attribute o f pos'] value pos) (uB X.K ta tv f):=by intro pins s σ H D I h;refine plainObj_wpAny_Assign_Attribute (cL (g pins s σ H _ I h) λu S ⟨y,H1,m,i,q⟩=>cL (b pins S σ H1 _ m q) λO p z=>?_) j;obtain⟨x,H2,e,R,a,C,dx,fs,ex,E,c,n,l,d⟩:=z;subst ex;obtain rfl:O=Value.ref a:=R;exact rR e E c n l i λr k=>#[σ,_,k,d]
end
section
variable {X:Cx} {pins:List (Addr×Obj)} {σ:St} {H:Hp} {s:Shared} {A:Around} {E:Value->Shared->Prop} {Q:Value->Shared->Prop} {c:Value} {b:Bool}
inductive jt (K:W.Frag) (H:Hp):V->Value->Prop where
 |dE:jt K H .dE (.type "NoneType")
 |bl (x:Bool):jt K H (.bl x) (.type "bool")
 |int (i:Int):jt K H (.int i) (.type "int")
 |str (x:Str):jt K H (.str x) (.type "str")
 |Bc (x:UInt64):jt K H (.Bc x) (.type "float")
 |lst {a:Addr} {xs:List V} (e:H a=some (.lst xs)):jt K H (.ref a) (.type "list")
 |rD {a:Addr} {o:Obj} {xs:List V} (e:H a=some (.rD o (.lst xs))):jt K H (.ref a) (.type "list")
 |tup {a:Addr} {xs:List V} (e:H a=some (.tup xs)):jt K H (.ref a) (.type "tuple")
 |dK {a:Addr} {kvs:List (Key×V)} (e:H a=some (.dK kvs)):jt K H (.ref a) (.type "dict")
 |dT {a:Addr} {kvs:List (List Key×V)} (e:H a=some (.dT kvs)):jt K H (.ref a) (.type "dict")
 |ins {a C dx:Addr} {fs:List (Str×V)} (e:H a=some (.ins C dx fs)) (cl:zc K C) (ha:W.findIn K (.ref C) "__class__"=some (some (.builtin "object.__class__"))) (hn:W.specialIn K (.builtin "object.__class__") "__get__"=some (some (.builtin "getset_descriptor.__get__"))) (htk:W.takesIn K (.builtin "object.__class__")=some true) (hm:W.mroIn K C (.type "object")=some true):jt K H (.ref a) (.ref C)
theorem uC {x:V} {u t:Value} (I:Inv X pins σ H s) (R:RelV x u) (ty:jt X.K H x t) (e:W.kitOne X.K t c=some b) (h:∀T,Q (.bool b) {s with toks:=T}):wpAny (model X.prog X.w) A (call (.builtin "isinstance") [u,c]) Q E s:=by
 cases ty with
 |dE=>cases (show u=Value.none from R);exact W.kia_one W.kitx_none I.j3 True.intro e (λz=>nomatch z) h
 |bl y=>cases (show u=Value.bool y from R);exact W.kia_one W.kitx_bool I.j3 True.intro e (λz=>nomatch z) h
 |int i=>obtain⟨t,q⟩:=(show ∃t,u=Value.int i t from R);cases q;exact W.kia_one W.kitx_int I.j3 True.intro e (λz=>nomatch z) h
 |str y=>obtain⟨t,q⟩:=(show ∃t,u=Value.str y t from R);cases q;exact W.kia_one W.kitx_str I.j3 True.intro e (λz=>nomatch z) h
 |Bc y=>obtain⟨t,q⟩:=(show ∃t,u=Value.float y t from R);cases q;exact W.kia_one W.kitx_float I.j3 True.intro e (λz=>nomatch z) h
 |@lst a xs l=>cases (show u=Value.ref a from R);obtain⟨_,_,n,_,h1⟩:=(show cv X.prog X.w H s.heap a (.lst xs) from I.bE a _ l);exact W.kia_one W.kitx_list I.j3 #[_,h1,rfl] e (λz=>nomatch z) h
 |@rD a g xs l=>cases (show u=Value.ref a from R);obtain⟨_,_,_,n,_,h1⟩:=(show cv X.prog X.w H s.heap a (.rD g (.lst xs)) from I.bE a _ l);exact W.kia_one W.kitx_list I.j3 #[_,h1,rfl] e (λz=>nomatch z) h
 |@tup a xs l=>cases (show u=Value.ref a from R);obtain⟨_,_,_,p⟩:=(show cv X.prog X.w H s.heap a (.tup xs) from I.bE a _ l);obtain⟨o,h1,h2,_⟩:=p;exact W.kia_one W.kitx_tuple I.j3 #[o,h1,h2] e (λz=>nomatch z) h
 |@dK a kvs l=>cases (show u=Value.ref a from R);obtain⟨_,_,v,_,p⟩:=(show cv X.prog X.w H s.heap a (.dK kvs) from I.bE a _ l);obtain⟨o,es,j,h1,h2,_⟩:=p;exact W.kia_one W.kitx_dict I.j3 #[o,h1,h2.1] e (λz=>nomatch z) h
 |@dT a kvs l=>cases (show u=Value.ref a from R);obtain⟨_,_,xs,_,o,es,j,h1,h2,_⟩:=(show cv X.prog X.w H s.heap a (.dT kvs) from I.bE a _ l);exact W.kia_one W.kitx_dict I.j3 #[o,h1,h2.1] e (λz=>nomatch z) h
 |@ins a C dx fs l cl d f m hm=>cases (show u=Value.ref a from R);obtain⟨mA,O,_⟩:=kj I.bE l;obtain⟨k,J,_⟩:=O.look;exact W.kia_one (W.kitx_own (cl.get _) cl.hd d f m hm) I.j3 J e (λz=>nomatch z) h
end
structure dG (k:Nat) (A:Around):Prop where
 hd:A.handled=none
 dp:A.depth+3*k+5 < recursionLimit
 un:A.units+16*k+200 < cLine
theorem dG.mono {j k:Nat} {A:Around} (r:dG k A) (h:j<=k):dG j A:=#[r.hd,by have:=r.dp;omega,by have:=r.un;omega]
theorem dG.deeper {k:Nat} {A:Around} (r:dG (k+1) A) (e:Env):dG k (A.deeper e):=#[r.hd,by have:=r.dp;show A.depth+1+3*k+5 < _;omega,by have:=r.un;show A.units+3+16*k+200 < _;omega]
theorem rS {A:Around} {C:Addr} {us:List Value} {k:List (Str×Value)}:(A.under (.builtin "type.__call__" #[.ref C :: us,k])).depth=A.depth+1:=by first|rfl|simp[Around.under,Code.weight,Code.isCreation,Code.isGuard,Code.isCaller,Code.frames,Code.isFrame,guardIds]
theorem rT {A:Around} {C:Addr} {us:List Value} {k:List (Str×Value)}:(A.under (.builtin "type.__call__" #[.ref C :: us,k])).units=A.units+1:=by first|rfl|simp[Around.under,Code.cUnits,Code.frames,Code.isFrame]
theorem dG.make {k:Nat} {A:Around} (r:dG (k+1) A) (C:Addr) (us:List Value) (K:List (Str×Value)):dG k (A.under (.builtin "type.__call__" #[.ref C :: us,K])):=#[r.hd,by have:=r.dp;rw[rS];omega,by have:=r.un;rw[rT];omega]
theorem dG.depth {k:Nat} {A:Around} (r:dG k A):A.depth < recursionLimit:=by have:=r.dp;omega
theorem dG.units {k:Nat} {A:Around} (r:dG k A):A.units+64 < cLine:=by have:=r.un;omega
def av:TA:=λ_ H Q=>Q [] H
def ai (ta:TE) (t:TA):TA:=λσ H Q=>ta σ H λx H1=>t σ H1 λxs H2=>Q (x :: xs) H2
section
variable {X:Cx} {e:Expr} {es:List Expr} {te:TE} {t:TA} {pos:Pos}
theorem ag:PA X [] av:=λ_ _ _ _ H Q I h=>Calls.spliced_nil #[[],H,I,.nil,h]
theorem aa (b:PE X e te) (k:PA X es t) (j:starEach (e :: es) X.env=(false,eval e X.env) :: starEach es X.env:=by rfl):PA X (e :: es) (ai te t):=by intro pos pins s σ H Q I h;rw[j];show wpAny _ _ (spliced ((false,eval e X.env) :: backTo pos (starEach es X.env))) _ _ s;refine Calls.spliced_cons (cL (b pins s σ H _ I h) λu S z=>?_);obtain⟨x,H1,i,r,q⟩:=z;exact cL (k pos pins S σ H1 _ i q) λU f ⟨xs,H2,a,l,d⟩=>#[x :: xs,H2,a,.cons r l,d]
def dZ (t:TA):TE:=λσ H Q=>t σ H λxs H1=>xs.length<=sizeLine/\∀p,H1 p=none->Q (.ref p) (upd H1 p (.tup xs))
def cK (t:TA):TE:=λσ H Q=>t σ H λxs H1=>xs.length<=sizeLine/\∀p,H1 p=none->Q (.ref p) (upd H1 p (.lst xs))
theorem cj {x1} (h:PA X es t):PE X (.Tuple es x1 pos) (dZ t):=by intro pins s σ H Q I j;refine wpAny_Tuple_spliced (cL (h pos pins s σ H _ I j) λU S ⟨xs,H1,i,r,z,q⟩=>#[by rw[<-r.length];exact z,?_]);have m:H1 S.heap.objs.size=none:=i.bE.fresh (Nat.le_refl _);refine#[.ref S.heap.objs.size,upd H1 S.heap.objs.size (.tup xs),i.laid (t':=S.toks) (λb u e=>Heap.get?_push_of_some _ e) (Nat.le_refl _) ?_,rfl,q _ m];exact#[z,U,r,#[_,Heap.get?_push_size _ rfl,rfl,_,rfl]]
theorem ba (h:PA X es t):PE X (.List es pos) (cK t):=by intro pins s σ H Q I j;refine wpAny_List_spliced (cL (h pos pins s σ H _ I j) λU S ⟨xs,H1,i,r,z,q⟩=>#[by rw[<-r.length];exact z,?_]);have m:H1 S.heap.objs.size=none:=i.bE.fresh (Nat.le_refl _);refine#[.ref S.heap.objs.size,upd H1 S.heap.objs.size (.lst xs),i.laid (t':=S.toks) (λb u e=>Heap.get?_push_of_some _ e) (Nat.le_refl _) ?_,rfl,q _ m];exact#[z,U,0,r,Heap.get?_push_size _ rfl]
end
abbrev Sp:=List V->Hp->VK->XK->Prop
abbrev xm:=List Env->Hp->Shared->XK->Value->Shared->Prop
structure om (P:Program) (w:World) (K:W.Frag) (mg:Str->Option Value) (base:Heap) (A:Around) (outer:List Env) (s:Shared) (H:Hp):Prop where
 frames:A.frames=some outer
 mod:Mod K mg base
 bs:∀b o,base.get? b=some o->s.heap.get? b=some o/\H b=none
 uv:base.objs.size<=s.heap.objs.size
 jq:s.heap.FunFrames base outer
 BQ:∀b∈wJ outer,H b=none
 bE:g9 P w H s.heap
 bare:AllBare s.gens
def CE (o:List Env) (P:Program) (w:World) (H:Hp) (s:Shared) (Q:VK) (u:Value) (s':Shared):Prop:=∃v H',s'.os=s.os/\AllBare s'.gens/\Un (wJ o) [] H H' s.heap s'.heap/\g9 P w H' s'.heap/\RelV v u/\Q v H'
def CR (CX:xm) (o:List Env) (P:Program) (w:World) (H:Hp) (s:Shared) (Q:VK) (E:XK) (r:Result) (s':Shared):Prop:=match r with
 | .ok (.ret u)=>CE o P w H s Q u s'
 | .ok _=>False
 | .error e=>CX o H s E e s'
structure aU (P:Program) (w:World) (K:W.Frag) (mg:Str->Option Value) (base:Heap) (CX:xm) (k:Nat) (f:Addr) (fd:FuncData) (ps:List Str) (sp:Sp):Prop where
 len:∀vs H Q E,sp vs H Q E->vs.length=ps.length
 run:∀(A:Around) (outer:List Env) (s:Shared) (H:Hp) (args:Args) (us:List Value) (vs:List V) (Q:VK) (E:XK),dG k A->om P w K mg base A outer s H->BindsTo s fd args (ps.zip us)->Vals vs us->sp vs H Q E->codeAny (model P w) A (.call (.ref f) args) (CR CX outer P w H s Q E) s
theorem om.make {P:Program} {w:World} {K:W.Frag} {mg:Str->Option Value} {base:Heap} {A:Around} {o:List Env} {s:Shared} {H:Hp} (e:om P w K mg base A o s H) (C:Addr) (us:List Value) (k:List (Str×Value)):om P w K mg base (A.under (.builtin "type.__call__" #[.ref C :: us,k])) o s H:=#[by first|exact e.frames|(simpa [Around.under,Code.envs,Code.isFrame,pushEnvs] using e.frames),e.mod,e.bs,e.uv,e.jq,e.BQ,e.bE,e.bare]
section
variable {X:Cx} {pins:List (Addr×Obj)} {σ:St} {H:Hp} {s s':Shared}
theorem Inv.B3 (I:Inv X pins σ H s):om X.prog X.w X.K X.mg X.base X.A X.stack s H:=#[I.ok.frames,I.ok.mod,I.bs,Nat.le_trans I.ok.uv I.sz,I.stack,I.nZ,I.bE,I.bare]
theorem Inv.after {Q:VK} {u:Value} (I:Inv X pins σ H s) (h:CE X.stack X.prog X.w H s Q u s'):EP X pins σ Q u s':=by obtain⟨v,H',os,bare,un,bE,r,q⟩:=h;obtain⟨a,g,d,t,o⟩:=s';obtain rfl:o=s.os:=os;exact#[v,H',I.call (h':=a) (g':=g) (d':=d) (t':=t) (ch:=[]) un bE bare (λb z=>absurd z (by simp)),r,q]
end
def cO (sp:Sp) (dvs:List V) (E:XK) (t:TA):TE:=λσ H Q=>t σ H λb H1=>sp (b++dvs) H1 Q E
inductive xn (C:Addr) (m:Str) (sp:Sp) (dvs:List V) (E:XK) (t:TA) (σ:St) (Q:VK) (x:V) (H1:Hp):Prop
 |mk (a:_) (dx:_) (fs:_) (h1_:x=.ref a) (h2_:H1 a=some (.ins C dx fs)) (h3_:fs.lookup m=none) (h4_:t σ H1 λvs H2=>sp (x :: (vs++dvs)) H2 Q E):xn C m sp dvs E t σ Q x H1
def eC (C:Addr) (m:Str) (sp:Sp) (dvs:List V) (E:XK) (ta:TE) (t:TA):TE:=λσ H Q=>ta σ H (xn C m sp dvs E t σ Q)
def Bk (C:Addr) (sp:Sp) (dvs:List V) (E:XK) (t:TA):TE:=λσ H Q=>t σ H λb H1=>∀x dx,H1 x=none->H1 dx=none->dx≠x->
 sp (.ref x :: (b++dvs)) (upd (upd H1 dx (.own x)) x (.ins C dx [])) (λv H2=>v=.dE/\Q (.ref x) H2) E
def Binds (K:W.Frag) (fd:FuncData) (ps:List Str) (ds:List Value):Prop:=∀(s:Shared) (u:List Value),K.In s.heap->(u++ds).length=ps.length->BindsTo s fd #[u,[]] (ps.zip (u++ds))
theorem Binds.all {K:W.Frag} {fd:FuncData} {ps:List Str} (h:∀us:List Value,us.length=ps.length->bindArgs fd #[us,[]]=pure (ps.zip us)):Binds K fd ps []:=λs us _ c=>by rw[List.append_nil] at c ⊢;exact .of_eq (h us c)
def Passes (CX:xm) (X:Cx) (E:XK):Prop:=∀(pins:List (Addr×Obj)) (σ:St) (H:Hp) (s:Shared) (e:Value) (s':Shared),Inv X pins σ H s->CX X.stack H s E e s'->X.xe e s'
section
variable {X:Cx} {CX:xm} {k:Nat} {f C:Addr} {fd:FuncData} {ps:List Str} {sp:Sp} {dvs:List V} {ds:List Value} {E:XK} {x m:Str} {p pos apos:Pos} {e o:Expr} {es:List Expr} {ta:TE} {t:TA}
theorem xo {pins:List (Addr×Obj)} {σ:St} {H:Hp} {s:Shared} {Q:VK} {us:List Value} {vs:List V} (F:aU X.prog X.w X.K X.mg X.base CX k f fd ps sp) (g:dG k X.A) (d:Binds X.K fd ps ds) (b:Vals dvs ds) (a:Passes CX X E) (I:Inv X pins σ H s) (r:Vals vs us) (h:sp (vs++dvs) H Q E):wpAny (model X.prog X.w) X.A (call (.ref f) us) (EP X pins σ Q) X.xe s:=by
 have l:Vals (vs++dvs) (us++ds):=r.append b;have c:(us++ds).length=ps.length:=by rw[<-l.length];exact F.len _ _ _ _ h
 refine wpAny_call (codeAny_mono (F.run X.A X.stack s H #[us,[]] (us++ds) (vs++dvs) Q E g I.B3 (d s us I.j3 c) l h) λr s' j=>?_);cases r with
 |error e=>exact a pins σ H s e s' I j
 |ok i=>
  cases i with
  |ret u=>exact I.after j
  |next=>exact False.elim j
  |brk=>exact False.elim j
  |cont=>exact False.elim j
theorem bU (F:aU X.prog X.w X.K X.mg X.base CX k f fd ps sp) (m:dG k X.A) (C:Gl X x) (c:X.mg x=some (.ref f)) (g:W.keepIn X.K (.ref f)=true) (d:Binds X.K fd ps ds) (j:Vals dvs ds) (a:Passes CX X E) (b:PA X (e :: es) t) (o:(x==("__debug__":Str))=false:=by decide) (l:starEach (e :: es) X.env=(false,eval e X.env) :: starEach es X.env:=by rfl) (n:(backTo pos (starEach es X.env)).any (·.1)=false:=by rfl):
  PE X (.Call (.Name x p) (e :: es) [] pos) (cO sp dvs E t):=by
 intro pins s σ H Q I h;refine wpAny_Call_Name_kw (n9 I C c ?_ o);refine W.callWith_K (h₀:=X.base) I.ok.mod.BP g (cL (b pos pins s σ H _ I h) λu S ⟨v,H1,i,r,q⟩=>#[i.j3,?_]) l n;exact xo F m d j a i r q
theorem cy {pl:Sem Bool} (v:PE X o ta) (c:zc X.K C) (p:Meth X.K C m f) (F:aU X.prog X.w X.K X.mg X.base CX k f fd ps sp) (y:dG k X.A) (d:Binds X.K fd ps ds) (j:Vals dvs ds) (g:Passes CX X E) (b:PA X (e :: es) t) (w:starEach (e :: es) X.env=(false,eval e X.env) :: starEach es X.env:=by rfl) (n:(backTo pos (starEach es X.env)).any (·.1)=false:=by rfl)
  (D:eval (.Call (.Attribute o m apos) (e :: es) [] pos) X.env=(do
   let O <-eval o X.env
   standAt apos.atName
   let (f,first) <-holding [O] (getMethod O m pl)
   callWith pos f first (backTo pos (starEach (e :: es) X.env)) (backToKw pos (keywordEach [] X.env))):=by rfl):
  PE X (.Call (.Attribute o m apos) (e :: es) [] pos) (eC C m sp dvs E ta t):=by
 intro pins s σ H Q I h;refine W.methodCall_KW (pl:=pl) (cL (v pins s σ H _ I h) λu S z=>?_) D;obtain⟨x,H1,i,R,a,dx,fs,ex,K,l,q⟩:=z;subst ex;obtain rfl:u=Value.ref a:=R;refine rQ i K c p l ?_;refine W.callWith_K (first:=[.ref a]) (h₀:=X.base) I.ok.mod.BP p.kp (cL (b pos pins S σ H1 _ i q) λU B ⟨A,H2,J,r,G⟩=>#[J.j3,?_]) w n;exact xo (us:=.ref a :: U) (vs:=.ref a :: A) F y d j g J (.cons rfl r) G
structure Mk (K:W.Frag) (C f:Addr):Prop where
 makes:W.makesIn K C=true
 init:W.findIn K (.ref C) "__init__"=some (some (.ref f))
 fn:W.isFn K (.ref f)=true
 kp:W.keepIn K (.ref C)=true
theorem xp {pins:List (Addr×Obj)} {σ:St} {H:Hp} {s:Shared} {Q:VK} {us:List Value} {vs:List V} (M:Mk X.K C f) (F:aU X.prog X.w X.K X.mg X.base CX k f fd ps sp) (g:dG (k+1) X.A) (d:Binds X.K fd ps ds) (b:Vals dvs ds) (a:Passes CX X E) (I:Inv X pins σ H s) (r:Vals vs us) (h:∀x dx,H x=none->H dx=none->dx≠x->sp (.ref x :: (vs++dvs)) (upd (upd H dx (.own x)) x (.ins C dx [])) (λv H2=>v=.dE/\Q (.ref x) H2) E):wpAny (model X.prog X.w) X.A (call (.ref C) us) (EP X pins σ Q) X.xe s:=by
 have j:=h (s.heap.objs.size+1) s.heap.objs.size (I.bE.fresh (Nat.le_succ _)) (I.bE.fresh (Nat.le_refl _)) (Nat.ne_of_lt (Nat.lt_succ_self _));have n:=Inv.made (C:=C) I;have l:Vals (V.ref (s.heap.objs.size+1) :: (vs++dvs)) (Value.ref (s.heap.objs.size+1) :: (us++ds)):=.cons rfl (r.append b);have c:(Value.ref (s.heap.objs.size+1) :: us++ds).length=ps.length:=by have e:=l.length;rw[F.len _ _ _ _ j] at e;exact e.symm
 refine wpAny_call (xl (f:=f) I.j3 M.makes M.init (beq_iff_eq.mp M.fn) (codeAny_mono (F.run _ X.stack _ _ #[Value.ref (s.heap.objs.size+1) :: us,[]] (Value.ref (s.heap.objs.size+1) :: (us++ds)) _ _ E (g.make C us []) (n.B3.make C us []) (d _ (Value.ref (s.heap.objs.size+1) :: us) n.j3 c) l j) λr s' q=>?_));cases r with
 |error e=>exact a pins σ _ _ e s' n q
 |ok i=>
  cases i with
  |ret u=>obtain⟨v,H',o,R,p,m⟩:=n.after q;subst p;exact#[R,#[V.ref (s.heap.objs.size+1),H',o,rfl,m]]
  |next=>exact False.elim q
  |brk=>exact False.elim q
  |cont=>exact False.elim q
theorem xq (M:Mk X.K C f) (F:aU X.prog X.w X.K X.mg X.base CX k f fd ps sp) (e:dG (k+1) X.A) (g:Gl X x) (c:X.mg x=some (.ref C)) (d:Binds X.K fd ps ds) (b:Vals dvs ds) (a:Passes CX X E) (o:(x==("__debug__":Str))=false:=by decide):PE X (.Call (.Name x p) [] [] pos) (Bk C sp dvs E av):=by intro pins s σ H Q I h;refine wpAny_Call_Name_kw (n9 I g c ?_ o);exact W.callWith_K0 I.j3 M.kp (xp (us:=[]) M F e d b a I .nil h)
end
structure a9 (N P:List Str) (sc:Scope):Prop where
 kind:sc.kind=.function
 co:sc.isCoroutine=false
 gen:sc.isGenerator=false
 nd:N.Nodup
 pre:N.take P.length=P
 par:∀x∈P,sc.names.lookup x=some .local\/sc.names.lookup x=some .cell
 B4:∀y∈sc.names,y.2≠.free
theorem nz {kindOf:Str->Option NameKind} {x:Str}:∀{b:List (Str×Value)} {m:Str->Option Value},(∀v,(x,v)∉b)->bindL kindOf b m x=m x
 |[],_,_=>rfl
 |(n,v) :: r,m,h=>by
  unfold bindL;rw[nz λw c=>h w (List.mem_cons_of_mem _ c)];split
  .have:x≠n:=by rintro rfl;exact h v List.mem_cons_self
   simp[this]
  .rfl
theorem nA {kindOf:Str->Option NameKind} {x:Str}:∀{b:List (Str×Value)} {m:Str->Option Value},(∀v,(x,v)∉b)->bindC kindOf b m x=m x
 |[],_,_=>rfl
 |(n,v) :: r,m,h=>by
  unfold bindC;rw[nA λw c=>h w (List.mem_cons_of_mem _ c)];split
  .rfl
  .have:x≠n:=by rintro rfl;exact h v List.mem_cons_self
   simp[this]
theorem nB {kindOf:Str->Option NameKind} {x:Str} {v:Value}:∀{P:List Str} {vs:List Value} {i:Nat} {m:Str->Option Value},P.Nodup->P[i]?=some x->vs[i]?=some v->kindOf x=some .local->bindL kindOf (P.zip vs) m x=some v
 |[],_,_,_,_,h,_,_=>by simp at h
 |_ :: _,[],_,_,_,_,h,_=>by simp at h
 |p :: P,w :: vs,0,m,nd,h1,h2,a=>by simp at h1 h2;subst h1;subst h2;show bindL kindOf ((p,w) :: P.zip vs) m p=_;unfold bindL;rw[nz λv g=>(List.nodup_cons.mp nd).1 (List.of_mem_zip g).1,if_pos a];simp
 |p :: P,w :: vs,i+1,m,nd,h1,h2,a=>by show bindL kindOf ((p,w) :: P.zip vs) m x=_;unfold bindL;exact nB (i:=i) (List.nodup_cons.mp nd).2 (by simpa using h1) (by simpa using h2) a
theorem nC {kindOf:Str->Option NameKind} {x:Str} {v:Value}:∀{P:List Str} {vs:List Value} {i:Nat} {m:Str->Option Value},P.Nodup->P[i]?=some x->vs[i]?=some v->kindOf x≠some .local->bindC kindOf (P.zip vs) m x=some v
 |[],_,_,_,_,h,_,_=>by simp at h
 |_ :: _,[],_,_,_,_,h,_=>by simp at h
 |p :: P,w :: vs,0,m,nd,h1,h2,a=>by simp at h1 h2;subst h1;subst h2;show bindC kindOf ((p,w) :: P.zip vs) m p=_;unfold bindC;rw[nA λv g=>(List.nodup_cons.mp nd).1 (List.of_mem_zip g).1,if_neg a];simp
 |p :: P,w :: vs,i+1,m,nd,h1,h2,a=>by show bindC kindOf ((p,w) :: P.zip vs) m x=_;unfold bindC;exact nC (i:=i) (List.nodup_cons.mp nd).2 (by simpa using h1) (by simpa using h2) a
def start (N:List Str) (vs:List V):St:=vs.map some++List.replicate (N.length - vs.length) none
def fw (CX:xm) (P:Program) (w:World) (K:W.Frag) (mg:Str->Option Value) (base:Heap) (N:List Str) (qual:Str) (scope:Scope) (f:Addr) (cd:Value) (A:Around) (outer:List Env) (s:Shared) (H:Hp) (E:XK):Cx where
 prog:=P
 w:=w
 K:=K
 mg:=mg
 base:=base
 A:=A.deeper (envOfC qual scope s.heap.objs.size f cd)
 N:=N
 s₀:=s
 H₀:=H
 env:=envOfC qual scope s.heap.objs.size f cd
 outer:=outer
 stack:=envOfC qual scope s.heap.objs.size f cd :: outer
 ex:=[]
 calm:=true
 fn:=λ_=>true
 pn:=[]
 xe:=λe s'=>wpAny (model P w) (A.deeper (envOfC qual scope s.heap.objs.size f cd)) (leaving (envOfC qual scope s.heap.objs.size f cd) e) (λ_ s''=>CX outer H s E e s'') (λe' s''=>CX outer H s E e' s'') s'
theorem pX {s:Scope} {n:Nat} {x:Str} (h:s.names.lookup x=some .cell):∃c,(cellsFrom n s.names []).lookup x=some c:=by have q:=W.cellsFrom_some s.names n [] (.inl h);exact Option.isSome_iff_exists.mp q
theorem nE {CX:xm} {P:Program} {w:World} {K:W.Frag} {mg:Str->Option Value} {base:Heap} {N ps:List Str} {Q:Str} {C:Scope} {f:Addr} {L:Value} {A:Around} {o:List Env} {s t:Shared} {H:Hp} {E:XK} {us:List Value} {vs:List V} (S:a9 N ps C) (m:A.handled=none) (I:om P w K mg base A o s H) (l:vs.length=ps.length) (r:Vals vs us) (x:InCallC s s.heap.objs.size (bindL (envOfC Q C s.heap.objs.size f L).kindOf (ps.zip us) λ_=>none) (cellsFrom (s.heap.objs.size+1) C.names []) (bindC (envOfC Q C s.heap.objs.size f L).kindOf (ps.zip us) λ_=>none) t):Inv (fw CX P w K mg base N Q C f L A o s H E) [] (start N vs) H t:=by
 have J:ps.length<=N.length:=by have:=congrArg List.length S.pre;rw[List.length_take] at this;omega
 obtain⟨h1,T,rfl,j⟩:=x.done;have M:∀b:Addr,b∉(fw CX P w K mg base N Q C f L A o s H E).ex:=λb z=>absurd (show b∈([]:List Addr) from z) (by simp);refine#[#[I.mod,S.kind,rfl,rfl,Nat.le_refl _,λy z c h1 h2=>?_,λy G=>?_,λy c _ h=>?_,λ_=>m,Around.frames_deeper I.frames,.inr #[rfl,rfl],λb z=>absurd z (M b),I.bs,I.uv,λb _ _=>M b,λb z=>absurd z (M b),I.jq,I.BQ],rfl,I.bare,Un.kept j,#[_,x.toInCall.ns,λi y v h1 h2 D=>?_],λy c h=>#[_,x.cell y c h],I.bE.fresh (Nat.le_refl _),λy c h=>?_,λp g=>absurd (show p∈([]:List (Addr×Obj)) from g) (by simp),I.bE.kept j,?_]
 .exact name_of_addr x.apart (PySem.mem_of_lookup h1) (PySem.mem_of_lookup h2)
 .have G:C.names.lookup y=some .cell\/C.names.lookup y=some .free:=G;rcases G with G|G
  .exact pX G
  .exact absurd rfl (S.B4 _ (PySem.mem_of_lookup G))
 .exact Nat.le_of_lt (x.above y c (PySem.mem_of_lookup h))
 .have hi:i < vs.length:=by
   unfold start at h2;by_cases hi:i < vs.length
   .exact hi
   .rw[List.getElem?_append_right (by simpa using hi)] at h2;rw[List.getElem?_replicate] at h2;split at h2 <;> cases h2
  have B:vs[i]?=some v:=by
   unfold start at h2;rw[List.getElem?_append_left (by simpa using hi),List.getElem?_map] at h2;cases e:vs[i]? with
   |none=>rw[e] at h2;cases h2
   |some a=>rw[e] at h2;cases h2;rfl
  obtain⟨u,d,R⟩:=r.get B;have g:ps[i]?=some y:=by rw[<-S.pre,List.getElem?_take_of_lt (by omega)];exact h1
  have O:ps.Nodup:=by rw[<-S.pre];exact S.nd.sublist (List.take_sublist _ _)
  refine#[u,R,?_];rcases S.par y (List.mem_of_getElem? g) with k|k
  .exact .inl #[k,nB O g d k]
  .obtain⟨c,e⟩:=pX (n:=s.heap.objs.size+1) k;refine .inr #[.inl k,c,e,?_];have q:=x.cell y c e;rw[nC O g d (by show C.names.lookup y≠_;rw[k];decide)] at q;exact q
 .exact I.bE.fresh (Nat.le_of_lt (x.above y c (PySem.mem_of_lookup h)))
 .unfold start;show _=N.length;rw[List.length_append,List.length_map,List.length_replicate];omega
theorem xr {CX:xm} {P:Program} {w:World} {K:W.Frag} {mg:Str->Option Value} {base:Heap} {k:Nat} {f:Addr} {name d:Str} {i:Arguments} {B:List Stmt} {C:Scope} {X kV doc pm c l oc:Value} {m od:Option Addr} {L:Array (Option Value)} {N ps:List Str} {sp:Sp} (lk:K.lookup f=some #[oc,od,.func (W.fnOf name d i B C X kV doc pm m c l),L]) (p:W.codeIn K c d=true) (S:a9 N ps C) (U:∀vs H Q E,sp vs H Q E->vs.length=ps.length) (M:∀(A:Around) (O:List Env) (s:Shared) (H:Hp) (vs:List V) (Q:VK) (E:XK),dG k (A.deeper (envOfC d C s.heap.objs.size f c))->sp vs H Q E->∃t,n8 (fw CX P w K mg base N d C f c A O s H E) B t/\t (Ends.of Q) (start N vs) H):aU P w K mg base CX (k+1) f (W.fnOf name d i B C X kV doc pm m c l) ps sp:=by
 refine#[U,λA O s H D us vs Q E h z hb r T=>?_];have hl:=U _ _ _ _ T;have G:K.In s.heap:=z.mod.BP.keeps λb o e=>(z.bs b o e).1;have Z:s.heap.NoLimit:=z.mod.nolimit.keeps λb o e=>(z.bs b o e).1;have Y:∀y∈ps.zip us,C.names.lookup y.1=some .local\/(C.names.lookup y.1=some .cell/\((cellsFrom (s.heap.objs.size+1) C.names []).lookup y.1).isSome=true):=λ⟨n,v⟩ hy=>by
  rcases S.par n (List.of_mem_zip hy).1 with q|q
  .exact .inl q
  .exact .inr #[q,W.cellsFrom_some _ _ _ (.inl q)]
 refine codeAny_call_function h.depth (G _ _ lk) rfl S.co S.gen rfl (W.codeRec_of G p) (hb _ _ _ _ ?_);refine wpAny_newFunctionEnv_cells S.kind Y λac he s1 x=>?_;subst he;refine#[Z.keeps x.toInCall.keep,codeAny_func ?_];obtain⟨t,ht,hq⟩:=M A O s H vs Q E (h.deeper _) T;have I:Inv (fw CX P w K mg base N d C f c A O s H E) [] (start N vs) H s1:=nE S h.hd z hl r x;refine wpAny_mono (ht [] s1 (start N vs) H _ I hq) (λfl s' j=>?_) λe s' j=>j;have g:∀{a:St} {H':Hp} {v:V} {u:Value},Inv (fw CX P w K mg base N d C f c A O s H E) [] a H' s'->RelV v u->Q v H'->CE O P w H s Q u s':=λ{a H' v u} J R q=>#[v,H',J.os,J.bare,J.base,J.bE,R,q];cases fl with
 |ret u=>obtain⟨v,a,H',J,R,q⟩:=j;exact g J R q
 |next=>obtain⟨a,H',J,q⟩:=j;exact g (v:=V.dE) (u:=Value.none) J rfl q
 |brk=>obtain⟨_,_,_,q⟩:=j;exact False.elim q
 |cont=>obtain⟨_,_,_,q⟩:=j;exact False.elim q
section
variable {X:Cx} {x:Str} {p pos:Pos} {e:Expr} {es:List Expr} {t:TA} {id T:String} {r:List V->Hp->VK->Prop}
def lH (r:List V->Hp->VK->Prop) (t:TA):TE:=λσ H Q=>t σ H λb H1=>r b H1 Q
theorem bX (a:lD X (.builtin id) r) (C:Gl X x) (c:X.mg x=none) (g:bootBuiltins x=some (.builtin id)) (b:PA X (e :: es) t) (f:x≠"__name__":=by decide) (o:(x==("__debug__":Str))=false:=by decide)
  (d:starEach (e :: es) X.env=(false,eval e X.env) :: starEach es X.env:=by rfl) (n:(backTo pos (starEach es X.env)).any (·.1)=false:=by rfl):PE X (.Call (.Name x p) (e :: es) [] pos) (lH r t):=by
 intro pins s σ H Q I h;refine wpAny_Call_Name_kw (ft I C c g ?_ f o);exact PyProof.Rows.callWith_builtin1 (cL (b pos pins s σ H _ I h) λu S ⟨v,H1,i,R,q⟩=>a pins S σ H1 v u Q i R q) d n
theorem uD (a:lD X (.type T) r) (C:Gl X x) (c:X.mg x=none) (g:bootBuiltins x=some (.type T)) (b:PA X (e :: es) t) (f:x≠"__name__":=by decide) (o:(x==("__debug__":Str))=false:=by decide)
  (d:starEach (e :: es) X.env=(false,eval e X.env) :: starEach es X.env:=by rfl) (n:(backTo pos (starEach es X.env)).any (·.1)=false:=by rfl):PE X (.Call (.Name x p) (e :: es) [] pos) (lH r t):=by
 intro pins s σ H Q I h;refine wpAny_Call_Name_kw (ft I C c g ?_ f o);exact PyProof.Rows.callWith_type1 (cL (b pos pins s σ H _ I h) λu S ⟨v,H1,i,R,q⟩=>a pins S σ H1 v u Q i R q) d n
end
end L2
namespace HT
open PySem PyProof.Rows
section
open PySem.SeqAt
open PySem.AutoSeq1 (wpAny_loadPart')
open PySem.MeetsSeq PySem.MeetsSeq2 PySem.MeetsSeq3
end
section
variable {prog:Program} {w:World} {A:Around} {E:Value->Shared->Prop} {s:Shared}
theorem zu {t b:Addr} {vs f:List Value} {Q:Value->Shared->Prop} (l:IsTup s.heap t vs.toArray) (d:IsTup s.heap b f.toArray) (H:vs≠[]) (h1:f=[]->Q (.ref t) s) (h2:f≠[]->Q (.ref s.heap.objs.size) {s with heap:=s.heap.push {cls:=.type "tuple",data:=.seq (vs++f).toArray}}) (hsz:vs.length+f.length<=sizeLine):wpAny (model prog w) A (binaryOp .Add (.ref t) (.ref b)) Q E s:=by
 obtain⟨⟨C,D,p,S⟩,g,a,n,h⟩:=id l;obtain⟨⟨q,o,data2,m⟩,i,k,N,j⟩:=id d;simp only at a h k j;subst a h k j;have e:vs.toArray++f.toArray=(vs++f).toArray:=by simp
 by_cases c:f=[]
 .exact concat_meets #[_,g,rfl] #[_,i,rfl] noFill_tuple_add seq_tuple_add PySem.F.slot_tuple_add PySem.F.entry_tuple_add (PySem.F.args_tuple_add_2 _ _) (tuple_addW1 t b vs.toArray f.toArray n N D o S m (by simpa using H) (by simp[c])) #[g,i,h1 c]
 .refine concat_meets #[_,g,rfl] #[_,i,rfl] noFill_tuple_add seq_tuple_add PySem.F.slot_tuple_add PySem.F.entry_tuple_add (PySem.F.args_tuple_add_2 _ _) (tuple_addW2 t b vs.toArray f.toArray n N D o S m (by simpa using H) (by simpa using c) (by rw[List.size_toArray,List.size_toArray];exact hsz)) #[g,i,?_];rw[e];exact h2 c
def eJ (n d:Nat):Option Int->Nat
 |none=>d
 |some v=>if v < 0 then(v+(n:Int)).toNat else min v.toNat n
theorem zv (n d k:Nat):eJ n d (some (k:Int))=min k n:=by show (if (k:Int) < 0 then((k:Int)+(n:Int)).toNat else min (k:Int).toNat n)=min k n;rw[if_neg (by omega),Int.toNat_natCast]
theorem B5 (n d:Nat) (h:d<=n) (o:Option Int):eJ n d o<=n:=by
 cases o with
 |none=>exact h
 |some v=>
  show (if v < 0 then(v+(n:Int)).toNat else min v.toNat n)<=n;by_cases g:v < 0
  .rw[if_pos g];omega
  .rw[if_neg g];exact Nat.min_le_right _ _
theorem tR (v:Int) (n d:Nat):(if v < 0 then max (v+(n:Int)) 0 else min v (n:Int))=((eJ n d (some v):Nat):Int):=by
 show (if v < 0 then max (v+(n:Int)) 0 else min v (n:Int))=(((if v < 0 then(v+(n:Int)).toNat else min v.toNat n):Nat):Int);by_cases g:v < 0
 .simp only[if_pos g];omega
 .simp only[if_neg g];omega
theorem rV (lo hi:Option Int) (n:Nat):Builtin.Slice.sliceAdjust lo hi 1 (n:Int)=(((eJ n 0 lo:Nat):Int),((eJ n n hi:Nat):Int)):=by
 have h1:¬((1:Int) < 0):=by omega
 unfold Builtin.Slice.sliceAdjust;simp only[h1,if_false];refine Prod.ext ?_ ?_
 .cases lo with
  |none=>rfl
  |some v=>exact tR v n 0
 .cases hi with
  |none=>rfl
  |some v=>exact tR v n n
theorem rW (i j:Nat):Builtin.Slice.slicePlaces (i:Int) (j:Int) 1=j - i:=by
 unfold Builtin.Slice.slicePlaces;have h1:(1:Int) > 0:=by omega
 simp only[h1,if_true,Int.ediv_one];split <;> omega
theorem lI {v:Value} {o:Option Int} {Q:Option Int->Shared->Prop} (p:IsPart v o) (h:Q o s):wpAny (model prog w) A (Builtin.Slice.slicePartIndex v) Q E s:=by
 cases p with
 |none=>exact slicePart_none h
 |int i t=>exact slicePart_int h
theorem ju {S:Addr} {v a:Value} {lo hi:Option Int} {n:Nat} {Q:Int×Int×Nat->Shared->Prop} (j:s.heap.IsSliceOf S v a .none) (pl:IsPart v lo) (p:IsPart a hi) (h:Q (((eJ n 0 lo:Nat):Int),1,eJ n n hi - eJ n 0 lo) s):wpAny (model prog w) A (Builtin.Slice.sliceApplied (.ref S) (pure (n:Int))) Q E s:=by obtain⟨os,H,c,b⟩:=id j;unfold Builtin.Slice.sliceApplied Builtin.Slice.sliceFields;refine wpAny_bind (wpAny_bind (wpAny_field H b (x:=v) rfl (wpAny_bind (wpAny_field H b (x:=a) rfl (wpAny_bind (wpAny_field H b (x:=.none) rfl (wpAny_pure ?_)))))));refine wpAny_bind (slicePart_none ?_);show wpAny _ _ (if ((1:Int)==0)=true then _ else _) _ _ s;rw[if_neg (by decide)];refine wpAny_bind (lI pl (wpAny_bind (lI p (wpAny_bind (wpAny_pure ?_)))));show wpAny _ _ (match Builtin.Slice.sliceAdjust lo hi 1 (n:Int) with|(lo,hi)=>pure (lo,(1:Int),Builtin.Slice.slicePlaces lo hi 1)) _ _ s;rw[rV lo hi n];show wpAny _ _ (pure (((eJ n 0 lo:Nat):Int),(1:Int),Builtin.Slice.slicePlaces ((eJ n 0 lo:Nat):Int) ((eJ n n hi:Nat):Int) 1)) _ _ s;rw[rW];exact wpAny_pure h
theorem xu (xs:Array Value) (i k:Nat):((List.range k).filterMap λ(m:Nat)=>xs[((i:Int)+(m:Int)*1).toNat]?).toArray=((xs.toList.drop i).take k).toArray:=by
 have e:(λ(m:Nat)=>xs[((i:Int)+(m:Int)*1).toNat]?)=λm=>xs[i+m]?:=by
  funext m
  have:((i:Int)+(m:Int)*1).toNat=i+m:=by omega
  rw[this]
 rw[e];have:=pick_run xs i k;rw[List.filterMap_map] at this;have E:((λx=>xs[x]?)∘λx=>i+x)=λm=>xs[i+m]?:=rfl;rw[E] at this;rw[this]
theorem iT {t S:Addr} {items:Array Value} {v a:Value} {lo hi:Option Int} {Q:Value->Shared->Prop} (l:IsTup s.heap t items) (j:s.heap.IsSliceOf S v a .none) (pl:IsPart v lo) (p:IsPart a hi) (c:¬(eJ items.size 0 lo=0/\eJ items.size items.size hi=items.size)) (h:Q (.ref s.heap.objs.size) {s with heap:=s.heap.push {cls:=.type "tuple",data:=.seq ((items.toList.drop (eJ items.size 0 lo)).take (eJ items.size items.size hi - eJ items.size 0 lo)).toArray}}) (hsz:items.size<=sizeLine):wpAny (model prog w) A (getItem (.ref t) (.ref S)) Q E s:=by
 have g:sizeOk (.seq ((items.toList.drop (eJ items.size 0 lo)).take (eJ items.size items.size hi - eJ items.size 0 lo)).toArray):=by show ((items.toList.drop (eJ items.size 0 lo)).take (eJ items.size items.size hi - eJ items.size 0 lo)).toArray.size<=sizeLine;rw[List.size_toArray,List.length_take,List.length_drop,Array.length_toList];omega
 have D:eJ items.size items.size hi<=items.size:=B5 _ _ (Nat.le_refl _) hi;obtain⟨os,H,k,b⟩:=id j;have i:s.TypeIs (.ref S) "slice":=#[os,H,k];unfold getItem;try with_reducible refine wpAny_holding ?_
 first|refine wpAny_bind (wpAny_pure ?_)|skip
 refine wpAny_bind (wpAny_sequenceKey l.typeIs (by decide) ?_);refine wpAny_bind (wpAny_callSpecial?_slot (name:=Str.ofString "__getitem__") l.typeIs PyProof.Rows.slot_tuple_getitem (wpAny_call_entry PyProof.Rows.slot_tuple_getitem l.typeIs entry_tuple_getitem ?_ (args_tuple_getitem _ _)));show wpAny _ _ (Builtin.Tuple.tupleItemsOf (.ref t) >>=_) _ _ s;refine wpAny_bind (tupleItemsOf_ l ?_);refine wpAny_bind (wpAny_typeOf i ?_);rw[if_pos (by decide)];refine wpAny_bind (ju j pl p ?_);have f:¬((((eJ items.size 0 lo:Nat):Int)==0&&(1:Int)==1&&(eJ items.size items.size hi - eJ items.size 0 lo)==items.size)=true):=by intro q;rw[Bool.and_eq_true,Bool.and_eq_true] at q;have e:((eJ items.size 0 lo:Nat):Int)=0:=eq_of_beq q.1.1;have d:eJ items.size items.size hi - eJ items.size 0 lo=items.size:=eq_of_beq q.2;exact c #[by omega,by omega]
 show wpAny _ _ (if (((eJ items.size 0 lo:Nat):Int)==0&&(1:Int)==1&&(eJ items.size items.size hi - eJ items.size 0 lo)==items.size)=true then _ else _) _ _ s;rw[if_neg f,xu];first
  |exact wpAny_bind (m:=Builtin.Tuple.tupleExact _) (wpAny_newObj_type (wpAny_pure ⟨_,rfl,wpAny_pure h⟩) g)
  |exact wpAny_bind (m:=Builtin.Tuple.tupleExact _) (wpAny_newObj_type (wpAny_bind (wpAny_pure (wpAny_pure ⟨_,rfl,wpAny_pure h⟩))) g)
  |exact wpAny_bind (wpAny_bind (m:=Builtin.Tuple.tupleExact _) (wpAny_newObj_type (wpAny_pure (wpAny_pure ⟨_,rfl,wpAny_pure h⟩)) g))
  |exact wpAny_bind (wpAny_bind (m:=Builtin.Tuple.tupleExact _) (wpAny_newObj_type (wpAny_pure ⟨_,rfl,wpAny_pure h⟩) g))
end
end HT
namespace L2
open PySem PySem.Spec PyProof.Rows
abbrev TO:=St->Hp->(Option Int->Hp->Prop)->Prop
def PO (X:Cx) (e:Option Expr) (t:TO):Prop:=∀(pins:List (Addr×Obj)) (s:Shared) (σ:St) (H:Hp) (Q:Option Int->Hp->Prop),Inv X pins σ H s->t σ H Q->
  wpAny (model X.prog X.w) X.A (evalPart e X.env) (λu s'=>∃o H',Inv X pins σ H' s'/\IsPart u o/\Q o H') X.xe s
def gg:TO:=λ_ H Q=>Q none H
inductive xw (Q:Option Int->Hp->Prop) (x:V) (H1:Hp):Prop
 |mk (i:_) (h1_:x=.int i) (h2_:Q (some i) H1):xw Q x H1
def gJ (t:TE):TO:=λσ H Q=>t σ H (xw Q)
section
variable {X:Cx} {e:Expr} {te:TE} {lo hi:Option Expr} {tl th:TO} {pos p2:Pos}
theorem hV:PO X none gg:=by intro pins s σ H Q I h;rw[evalPart_none];exact wpAny_pure #[none,H,I,.none,h]
theorem eY (h:PE X e te):PO X (some e) (gJ te):=by intro pins s σ H Q I c;rw[evalPart_some];refine cL (h pins s σ H _ I c) λu S z=>?_;obtain⟨x,H1,b,r,a⟩:=z;obtain⟨i,rfl,q⟩:=a;obtain⟨t,rfl⟩:=r;exact#[some i,H1,b,.int i t,q]
def Ei (X:Cx) (r:V->Option Int->Option Int->Hp->VK->Prop):Prop:=∀(pins:List (Addr×Obj)) (s:Shared) (σ:St) (H:Hp) (x:V) (v b a:Value) (lo hi:Option Int) (S:Addr) (Q:VK),Inv X pins σ H s->RelV x v->s.heap.IsSliceOf S b a .none->IsPart b lo->IsPart a hi->r x lo hi H Q->
  ∃T id,typeLookup (.type T) "__getitem__"=pure (some (.builtin id))/\s.TypeIs v T/\wpAny (model X.prog X.w) X.A (getItem v (.ref S)) (EP X pins σ Q) X.xe s
def zw (r:V->Option Int->Option Int->Hp->VK->Prop) (te:TE) (tl th:TO):TE:=λσ H Q=>te σ H λx H1=>tl σ H1 λl H2=>th σ H2 λu h=>r x l u h Q
theorem e8 {r:V->Option Int->Option Int->Hp->VK->Prop} (k:Ei X r) (f:PE X e te) (c:PO X lo tl) (d:PO X hi th):PE X (.Subscript e (.Slice lo hi none p2) pos) (zw r te tl th):=by intro pins s σ H Q I h;refine Subscript_ (cL (f pins s σ H _ I h) λv S z=>?_);obtain⟨x,H1,i,R,n⟩:=z;refine wpAny_Slice (cL (c pins S σ H1 _ i n) λD o ⟨l,H2,y,P,w⟩=>cL (d pins o σ H2 _ y w) λa j z=>?_);obtain⟨u,g,B,p,m⟩:=z;rw[evalPart_none];refine wpAny_pure ?_;have N:Inv X pins σ g {j with heap:=j.heap.push {cls:=.type "slice",data:=.fields [D,a,.none].toArray}}:=B.kept (t':=j.toks) λb O q=>Heap.get?_push_of_some _ q;obtain⟨T,id,A,t,C⟩:=k pins {j with heap:=j.heap.push {cls:=.type "slice",data:=.fields [D,a,.none].toArray}} σ g x v D a l u j.heap.objs.size Q N R (Heap.IsSliceOf.new ..) P p m;show wpAny (model X.prog X.w) X.A (subscriptTail e (.Slice lo hi none p2) v (.ref j.heap.objs.size)) (EP X pins σ Q) X.xe {j with heap:=j.heap.push {cls:=.type "slice",data:=.fields [D,a,.none].toArray}};exact tail_any (ops:=[.ref j.heap.objs.size,v]) t A C (by with_unfolding_all rfl)
def ff (xs:List V) (lo hi:Option Int):List V:=(xs.drop (HT.eJ xs.length 0 lo)).take (HT.eJ xs.length xs.length hi - HT.eJ xs.length 0 lo)
theorem jR (xs:List V) (lo hi:Option Int):(ff xs lo hi).length<=xs.length:=by unfold ff;rw[List.length_take,List.length_drop];omega
inductive zx (K:W.Frag) (x:V) (lo:Option Int) (hi:Option Int) (H:Hp) (Q:VK):Prop
 |mk (a:_) (xs:_) (h1_:x=.ref a) (h2_:cx K H a xs) (h3_:¬(HT.eJ xs.length 0 lo=0/\HT.eJ xs.length xs.length hi=xs.length)) (h4_:∀p,H p=none->Q (.ref p) (upd H p (.tup (ff xs lo hi)))):zx K x lo hi H Q
theorem xx:Ei X (zx X.K):=by
 intro pins s σ H x v g k lo hi S Q I R j P p h;obtain⟨a,xs,rfl,d,c,q⟩:=h;cases R;obtain⟨i,r,l,f⟩:=I.tuple d;have e:i.toArray.size=xs.length:=by rw[List.size_toArray];exact r.length.symm
 refine#["tuple",_,PyProof.Rows.slot_tuple_getitem.lookup,l.typeIs,?_];refine HT.iT l j P p (by rw[e];exact c) ?_ (by rw[e];exact f);rw[e];refine#[.ref s.heap.objs.size,_,I.laid (t':=s.toks) (o:=.tup (ff xs lo hi)) (λb O q=>Heap.get?_push_of_some _ q) (Nat.le_refl _) ?_,rfl,q _ (I.bE.fresh (Nat.le_refl _))];exact#[Nat.le_trans (jR xs lo hi) f,_,(r.drop (HT.eJ xs.length 0 lo)).take (HT.eJ xs.length xs.length hi - HT.eJ xs.length 0 lo),IsTup.new _ _]
inductive xy (K:W.Frag) (x:V) (y:V) (H:Hp) (Q:VK):Prop
 |mk (a:_) (b:_) (xs:_) (ys:_) (h1_:x=.ref a) (h2_:y=.ref b) (h3_:cx K H a xs) (h4_:cx K H b ys) (h5_:xs≠[]) (h6_:xs.length+ys.length<=sizeLine) (h7_:(ys=[]->Q (.ref a) H)) (h8_:(ys≠[]->∀p,H p=none->Q (.ref p) (upd H p (.tup (xs++ys))))):xy K x y H Q
theorem Vals.oo {xs:List V} {us:List Value} (r:Vals xs us):us=[]↔xs=[]:=by
 cases r with
 |nil=>simp
 |cons _ _=>simp
theorem zy:lC X (binaryOp .Add) (xy X.K):=by intro pins s σ H x y v u Q I R j h;obtain⟨a,b,xs,ys,rfl,rfl,e,d,c,f,g,k⟩:=h;cases R;cases j;obtain⟨i,r,p,_⟩:=I.tuple e;obtain⟨m,l,p2,_⟩:=I.tuple d;refine HT.zu p p2 (λz=>c (r.oo.mp z)) (λz=>#[.ref a,H,I,rfl,g (l.oo.mp z)]) (λz=>?_) (by rw[<-r.length,<-l.length];exact f);refine#[.ref s.heap.objs.size,_,I.laid (t':=s.toks) (o:=.tup (xs++ys)) (λb O q=>Heap.get?_push_of_some _ q) (Nat.le_refl _) ?_,rfl,k (λw=>z (l.oo.mpr w)) _ (I.bE.fresh (Nat.le_refl _))];exact#[by rw[List.length_append];exact f,_,r.append l,IsTup.new _ _]
end
def xA (n:Nat) (i:Int):Option Nat:=if 0<=i then(if i < n then some i.toNat else none) else if -(n:Int)<=i then some (i+n).toNat else none
def rX {c:Type} (xs:List c) (i:Int):Option c:=(xA xs.length i).bind λj=>xs[j]?
theorem tU {n:Nat} {i:Int} {j:Nat} (h:xA n i=some j):seqIndex? i n=some j/\j < n/\ -(n:Int)<=i/\i < n:=by
 unfold xA at h;by_cases d:0<=i
 .rw[if_pos d] at h;by_cases h1:i < n
  .rw[if_pos h1] at h;have e:i.toNat=j:=Option.some.inj h;exact#[by rw[seqIndex_of d h1,e],by omega,by omega,h1]
  .rw[if_neg h1] at h;cases h
 .rw[if_neg d] at h;by_cases h1: -(n:Int)<=i
  .rw[if_pos h1] at h;have e:(i+n).toNat=j:=Option.some.inj h;exact#[by rw[seqIndex_neg (by omega) h1,e],by omega,h1,by omega]
  .rw[if_neg h1] at h;cases h
theorem tV {c:Type} {xs:List c} {i:Int} {v:c} (h:rX xs i=some v):∃j,seqIndex? i xs.length=some j/\xs[j]?=some v/\j < xs.length/\ -(xs.length:Int)<=i/\i < xs.length:=by
 unfold rX at h;cases e:xA xs.length i with
 |none=>rw[e] at h;cases h
 |some j=>rw[e] at h;obtain⟨h1,h2,H,a⟩:=tU e;exact#[j,h1,h,h2,H,a]
theorem ar {c:Type} {xs:List c} {j:Nat} {v:c} (h:xs[j]?=some v):rX xs (j:Int)=some v:=by
 have D:j < xs.length:=(List.getElem?_eq_some_iff.mp h).1;have e:xA xs.length (j:Int)=some j:=by unfold xA;rw[if_pos (by omega),if_pos (by omega)];simp
 unfold rX;rw[e];exact h
theorem xB {a:Type} (xs:List a) (v:a):rX (xs++[v]) (-1)=some v:=by
 have c:(xs++[v]).length=xs.length+1:=by simp
 have e:xA (xs++[v]).length (-1)=some xs.length:=by
  unfold xA;rw[c,if_neg (by decide),if_pos (by omega)]
  congr 1
  omega
 unfold rX;rw[e];show (xs++[v])[xs.length]?=some v;simp
def zz (b:Expr):Prop:=∀o i,subscripted b false o i=operate [o,i] (getItem o i)
def Ej (X:Cx) (r:R2):Prop:=∀(value S:Expr) (pins:List (Addr×Obj)) (s:Shared) (σ:St) (H:Hp) (x y:V) (v u:Value) (Q:VK),Inv X pins σ H s->RelV x v->RelV y u->r x y H Q->
  subscripted S false v u=operate [v,u] (getItem v u)->wpAny (model X.prog X.w) X.A (subscriptTail value S v u) (EP X pins σ Q) X.xe s
def EF (X:Cx) (id:String) (r:V->List V->Hp->VK->Prop):Prop:=∀(pins:List (Addr×Obj)) (s:Shared) (σ:St) (H:Hp) (x:V) (xs:List V) (v:Value) (u:List Value) (Q:VK),Inv X pins σ H s->RelV x v->Vals xs u->r x xs H Q->
  wpAny (model X.prog X.w) X.A (call (.builtin id) (v :: u)) (EP X pins σ Q) X.xe s
section
variable {X:Cx} {a b:Expr} {ta tb:TE} {pos:Pos}
theorem aB {r:R2} (k:Ej X r) (c:PE X a ta) (d:PE X b tb) (j:zz b):PE X (.Subscript a b pos) (bj r ta tb):=by intro pins s σ H Q I h;exact Subscript_ (BY c d I h λv u f x y H2 e R i q=>k a b pins f σ H2 x y v u Q e R i q (j _ _))
inductive eL (K:W.Frag) (x:V) (y:V) (H:Hp) (Q:VK):Prop
 |mk (p:_) (xs:_) (i:_) (v:_) (h1_:x=.ref p) (h2_:y=.int i) (h3_:bp K H p xs) (h4_:rX xs i=some v) (h5_:Q v H):eL K x y H Q
inductive cn (K:W.Frag) (x:V) (y:V) (H:Hp) (Q:VK):Prop
 |mk (p:_) (xs:_) (i:_) (v:_) (h1_:x=.ref p) (h2_:y=.int i) (h3_:cx K H p xs) (h4_:rX xs i=some v) (h5_:Q v H):cn K x y H Q
theorem cf:Ej X (eL X.K):=by
 intro value S pins s σ H x y v u Q I R l h g;obtain⟨p,xs,i,z,rfl,rfl,b,k,q⟩:=h;cases R;obtain⟨t,rfl⟩:=l;obtain⟨e,r,P,n⟩:=I.list b;obtain⟨j,h1,h2,m,a,A⟩:=tV k;obtain⟨w,E,K⟩:=r.get h2;have c:=r.length;have f:=lF;have o:EP X pins σ Q w s:=#[z,H,I,K,q];by_cases d:0<=i
 .have D:i.toNat=j:=by
   rw[seqIndex_of d A] at h1;exact Option.some.inj h1
  exact item_listR P.isList d (by omega) (by rw[D];simpa using E) o g
 .have D:(i+(e.toArray.size:Int)).toNat=j:=by
   rw[seqIndex_neg (by omega) a] at h1;rw[List.size_toArray,<-c];exact Option.some.inj h1
  exact subscriptTail_builtinR (x:=w) P.isList.typeIs slot_list_getitem.lookup (wpAny_getItem_list_neg (Q:=λr s'=>r=w/\EP X pins σ Q r s') P.isList (by omega) (by rw[List.size_toArray] <;> omega) (by omega) (by rw[D];simpa using E) #[rfl,o]) g
theorem aG:Ej X (cn X.K):=by intro value S pins s σ H x y v u Q I R k h e;obtain⟨p,xs,i,z,rfl,rfl,b,g,q⟩:=h;cases R;obtain⟨t,rfl⟩:=k;obtain⟨d,r,P,m⟩:=I.tuple b;obtain⟨j,h1,h2,l,a,A⟩:=tV g;obtain⟨w,E,K⟩:=r.get h2;have c:=r.length;have f:=lF;have o:EP X pins σ Q w s:=#[z,H,I,K,q];exact subscriptTail_builtinR (x:=w) P.typeIs slot_tuple_getitem.lookup (getItem_tuple (j:=j) (Q:=λr s'=>r=w/\EP X pins σ Q r s') P (by omega) (by omega) (by rw[List.size_toArray,<-c];exact h1) (by simpa using E) #[rfl,o]) e
theorem rY (i:List Value) (n j:Nat) (u:Value):Obj.mapSeq (·.setIfInBounds j u) {cls:=.type "list",data:=.seq i.toArray n}={cls:=.type "list",data:=.seq (i.set j u).toArray n}:=by simp[Obj.mapSeq]
theorem Inv.lst {pins:List (Addr×Obj)} {σ:St} {H:Hp} {s:Shared} {p:Addr} {xs:List V} (I:Inv X pins σ H s) (h:H p=some (.lst xs)):∃(i:List Value) (n:Nat),Vals xs i/\s.heap.get? p=some {cls:=.type "list",data:=.seq i.toArray n}/\xs.length<=sizeLine:=by obtain⟨z,i,n,r,e⟩:=I.bE p _ h;exact#[i,n,r,e,z]
theorem Inv.B6 {pins:List (Addr×Obj)} {σ:St} {H:Hp} {s:Shared} {p:Addr} {xs ys:List V} {i its':List Value} {n N:Nat} {f:Obj->Obj} (I:Inv X pins σ H s) (h:H p=some (.lst xs)) (g:s.heap.get? p=some {cls:=.type "list",data:=.seq i.toArray n}) (m:f {cls:=.type "list",data:=.seq i.toArray n}={cls:=.type "list",data:=.seq its'.toArray N}) (r:Vals ys its') (hz:ys.length<=sizeLine) (t:Nat):Inv X pins σ (upd H p (.lst ys)) {s with heap:=s.heap.update p f,toks:=t}:=by
 have e:(s.heap.update p f).get? p=some {cls:=.type "list",data:=.seq its'.toArray N}:=by rw[Heap.get?_update_self f g (by rw[m] <;> rfl),m]
 refine I.write (x:=p) (e:=p) (by rw[h];trivial) (.inl rfl) (λb u d q=>(Heap.get?_update_other _ _ (Ne.symm d)).trans q) #[_,e] ?_;exact#[hz,its',N,r,e]
inductive pY (o:V) (i:V) (v:V) (H:Hp) (Q:Hp->Prop):Prop
 |mk (p:_) (xs:_) (k:_) (j:_) (h1_:o=.ref p) (h2_:i=.int k) (h3_:H p=some (.lst xs)) (h4_:xA xs.length k=some j) (h5_:Q (upd H p (.lst (xs.set j v)))):pY o i v H Q
theorem set_list:Di X pY:=by
 intro pins s σ H o i v O y u Q I z A R h;obtain⟨p,xs,k,j,rfl,rfl,e,D,q⟩:=h;cases z;obtain⟨t,rfl⟩:=A;obtain⟨b,n,r,g,m⟩:=I.lst e;obtain⟨h1,h2,l,w⟩:=tU D;have c:=r.length;have f:=lF;have x:Inv X pins σ (upd H p (.lst (xs.set j v))) {s with heap:=s.heap.update p (Obj.mapSeq (·.setIfInBounds j u))}:=I.B6 e g (rY b n j u) (r.set R j) (by rw[List.length_set];exact m) s.toks;by_cases d:0<=k
 .have a:k.toNat=j:=by
   rw[seqIndex_of d w] at h1;exact Option.some.inj h1
  exact W.ki_setAt g d (by omega) (by rw[List.size_toArray,<-c];exact w) (by rw[a];exact#[_,x,q])
 .have a:(k+(b.toArray.size:Int)).toNat=j:=by
   rw[seqIndex_neg (by omega) l] at h1;rw[List.size_toArray,<-c];exact Option.some.inj h1
  exact W.ki_setBack g (by omega) (by rw[List.size_toArray,<-c];exact l) (by omega) (by rw[a];exact#[_,x,q])
theorem oq (lo hi:Option Int) (n:Nat):(sliceBounds lo hi none n).1=((HT.eJ n 0 lo:Nat):Int)/\(sliceBounds lo hi none n).2.1=((HT.eJ n n hi:Nat):Int)/\(sliceBounds lo hi none n).2.2=1:=by
 refine#[?_,?_,rfl]
 .cases lo with
  |none=>simp[sliceBounds,HT.eJ]
  |some i=>
   simp only[sliceBounds,HT.eJ,Option.getD_none,show (1:Int) > 0 by decide,if_true];by_cases h:i < 0
   .simp only[h,if_true] <;> omega
   .simp only[h,if_false] <;> omega
 .cases hi with
  |none=>simp[sliceBounds,HT.eJ]
  |some i=>
   simp only[sliceBounds,HT.eJ,Option.getD_none,show (1:Int) > 0 by decide,if_true];by_cases h:i < 0
   .simp only[h,if_true] <;> omega
   .simp only[h,if_false] <;> omega
theorem mX (i:List Value) (lo hi:Option Int):slicePick i.toArray lo hi none=((i.drop (HT.eJ i.length 0 lo)).take (HT.eJ i.length i.length hi - HT.eJ i.length 0 lo)).toArray:=by obtain⟨h1,h2,h⟩:=oq lo hi i.toArray.size;unfold slicePick;rw[h1,h2,h];simp only[sliceRange_one,pick_run,List.size_toArray] <;> rfl
inductive pZ (K:W.Frag) (x:V) (lo:Option Int) (hi:Option Int) (H:Hp) (Q:VK):Prop
 |mk (a:_) (xs:_) (h1_:x=.ref a) (h2_:bp K H a xs) (h3_:∀p,H p=none->Q (.ref p) (upd H p (.lst (ff xs lo hi)))):pZ K x lo hi H Q
theorem hX:Ei X (pZ X.K):=by intro pins s σ H x v e g lo hi S Q I R j P p h;obtain⟨a,xs,rfl,c,q⟩:=h;cases R;obtain⟨i,r,l,f⟩:=I.list c;have d:=r.length;refine#["list",_,slot_list_getitem.lookup,l.isList.typeIs,?_];refine wpAny_getItem_list_slice l.isList j P p .none (by simp) ?_ (by rw[List.size_toArray] <;> omega);rw[mX,<-d];refine#[.ref s.heap.objs.size,_,I.laid (t':=s.toks) (o:=.lst (ff xs lo hi)) (λb O q=>Heap.get?_push_of_some _ q) (Nat.le_refl _) ?_,rfl,q _ (I.bE.fresh (Nat.le_refl _))];exact#[Nat.le_trans (jR xs lo hi) f,_,0,(r.drop (HT.eJ xs.length 0 lo)).take (HT.eJ xs.length xs.length hi - HT.eJ xs.length 0 lo),Heap.get?_push_size _ rfl]
def jS:V->Bool
 | .dE=>true
 | .bl _=>true
 | .int _=>true
 | .str _=>true
 |_=>false
def zd:V->V->Bool
 | .dE,.dE=>true
 | .bl a,.bl b=>a==b
 | .bl a,.int b=>(if a then 1 else 0)==b
 | .int a,.bl b=>a==(if b then 1 else 0)
 | .int a,.int b=>a==b
 | .str a,.str b=>a==b
 |_,_=>false
theorem rZ {A:Around} {s:Shared} {y x:V} {u v:Value} (i:RelV y u) (R:RelV x v) (c:jS y=true) (f:jS x=true):SeqAt.EqAt A s u v (zd y x):=by
 cases y with
 |dE=>
  cases i;cases x with
  |dE=>cases R;exact SeqAt.EqAt.same _
  |bl b=>cases R;exact SeqAt.EqAt.none_bool b
  |int b=>obtain⟨t,rfl⟩:=R;exact SeqAt.EqAt.none_int b t
  |str b=>obtain⟨t,rfl⟩:=R;exact SeqAt.EqAt.none_str b t
  |_=>exact absurd (show false=true from f) Bool.false_ne_true
 |bl a=>
  cases i;cases x with
  |dE=>cases R;exact SeqAt.EqAt.bool_none a
  |bl b=>cases R;exact SeqAt.EqAt.bool_bool a b
  |int b=>obtain⟨t,rfl⟩:=R;exact SeqAt.EqAt.bool_int a b t
  |str b=>obtain⟨t,rfl⟩:=R;exact SeqAt.EqAt.bool_str a b t
  |_=>exact absurd (show false=true from f) Bool.false_ne_true
 |int a=>
  obtain⟨T,rfl⟩:=i;cases x with
  |dE=>cases R;exact SeqAt.EqAt.int_none a T
  |bl b=>cases R;exact SeqAt.EqAt.int_bool a T b
  |int b=>obtain⟨t,rfl⟩:=R;exact SeqAt.EqAt.int_int a T b t
  |str b=>obtain⟨t,rfl⟩:=R;exact SeqAt.EqAt.int_str a T b t
  |_=>exact absurd (show false=true from f) Bool.false_ne_true
 |str a=>
  obtain⟨T,rfl⟩:=i;cases x with
  |dE=>cases R;exact SeqAt.EqAt.str_none a T
  |bl b=>cases R;exact SeqAt.EqAt.str_bool a T b
  |int b=>obtain⟨t,rfl⟩:=R;exact SeqAt.EqAt.str_int a T b t
  |str b=>obtain⟨t,rfl⟩:=R;exact SeqAt.EqAt.str_str a T b t
  |_=>exact absurd (show false=true from f) Bool.false_ne_true
 |_=>exact absurd (show false=true from c) Bool.false_ne_true
def zF (x:V) (u:Value):Bool:=match u with
 | .none=>zd .dE x
 | .bool b=>zd (.bl b) x
 | .int i _=>zd (.int i) x
 | .str z _=>zd (.str z) x
 |_=>false
theorem xC {x y:V} {u:Value} (r:RelV y u) (f:jS y=true):zF x u=zd y x:=by
 cases y with
 |dE=>cases r;rfl
 |bl b=>cases r;rfl
 |int i=>obtain⟨t,rfl⟩:=r;rfl
 |str z=>obtain⟨t,rfl⟩:=r;rfl
 |_=>exact absurd (show false=true from f) Bool.false_ne_true
theorem ot {x:V}:∀{xs:List V} {us:List Value},Vals xs us->xs.all jS=true->us.any (zF x)=xs.any λy=>zd y x
 |_,_,.nil,_=>rfl
 |y :: xs,u :: us,.cons r t,f=>by rw[List.all_cons,Bool.and_eq_true] at f;rw[List.any_cons,List.any_cons,xC r f.1,ot t f.2]
theorem lJ {A:Around} {s:Shared} {x:V} {v:Value} (R:RelV x v) (a:jS x=true):∀{xs:List V} {us:List Value},Vals xs us->xs.all jS=true->∀u∈us,SeqAt.EqAt A s u v (zF x u)
 |_,_,.nil,_=>λu d=>by cases d
 |y :: xs,u :: us,.cons r t,f=>λU d=>by
  rw[List.all_cons,Bool.and_eq_true] at f;rcases List.mem_cons.mp d with rfl|d
  .rw[xC r f.1];exact rZ r R f.1 a
  .exact lJ R a t f.2 U d
def CW (x:V) (xs:List V):Bool:=xs.any λy=>zd y x
inductive CY (K:W.Frag) (neg:Bool) (x:V) (y:V) (H:Hp) (Q:VK):Prop
 |mk (p:_) (xs:_) (h1_:y=.ref p) (h2_:(bp K H p xs\/cx K H p xs)) (h3_:jS x=true) (h4_:xs.all jS=true) (h5_:Q (.bl (if neg then !CW x xs else CW x xs)) H):CY K neg x y H Q
theorem ic:lC X (compareOp .In) (CY X.K false):=by
 intro pins s σ H x y v u Q I R a h;obtain⟨p,xs,rfl,j,b,fs,q⟩:=h;cases a;rcases j with j|j
 .obtain⟨i,r,P,f⟩:=I.list j;refine SeqAt.in_listAt (zF x) P.isList (λw c=>lJ R b r fs w (by simpa using c)) #[.bl _,H,I,rfl,?_];rw[show i.toArray.any (zF x)=i.any (zF x) by simp,ot r fs];exact q
 .obtain⟨i,r,P,f⟩:=I.tuple j;refine SeqAt.in_tupleAt (zF x) P (λw c=>lJ R b r fs w (by simpa using c)) #[.bl _,H,I,rfl,?_];rw[show i.toArray.any (zF x)=i.any (zF x) by simp,ot r fs];exact q
inductive aV (K:W.Frag) (xs:List V) (H:Hp) (Q:VK):Prop
 |mk (p:_) (ys:_) (h1_:xs=[.ref p]) (h2_:(bp K H p ys\/cx K H p ys)) (h3_:Q (.int ys.length) H):aV K xs H Q
theorem br:lD X (.builtin "len") (aV X.K):=by
 intro pins s σ H xs U Q I r h;obtain⟨p,ys,rfl,j,q⟩:=h;obtain⟨u,rfl,R⟩:=vals1 r;cases R;have f:=lF;rcases j with j|j
 .obtain⟨i,b,P,a⟩:=I.list j;have o:=b.length;exact Calls.call_len_list P.isList (by simp only[List.size_toArray] <;> omega) #[.int ys.length,H,I.tok _,#[s.toks+1,by rw[List.size_toArray,o]],q]
 .obtain⟨i,b,P,a⟩:=I.tuple j;have o:=b.length;exact len_tuple P (by simp only[List.size_toArray] <;> omega) #[.int ys.length,H,I.tok _,#[s.toks+1,by rw[List.size_toArray,o]],q]
inductive fz (K:W.Frag) (xs:List V) (H:Hp) (Q:VK):Prop
 |mk (p:_) (ys:_) (h1_:xs=[.ref p]) (h2_:((bp K H p ys/\∀l,H l=none->Q (.ref l) (upd H l (.tup ys)))\/(cx K H p ys/\Q (.ref p) H))):fz K xs H Q
theorem mZ:lD X (.type "tuple") (fz X.K):=by
 intro pins s σ H xs U Q I r h;obtain⟨p,ys,rfl,h⟩:=h;obtain⟨u,rfl,R⟩:=vals1 r;cases R;rcases h with⟨j,q⟩|⟨j,q⟩
 .obtain⟨i,g,P,f⟩:=I.list j;have d:=g.length;refine call_tuple_list P.isList (λh' k=>?_) (by simp only[List.size_toArray] <;> omega);have a:Inv X pins σ H {s with heap:=h'}:=I.kept (t':=s.toks) k;have c:Inv X pins σ (upd H h'.objs.size (.tup ys)) {s with heap:=h'.push {cls:=.type "tuple",data:=.seq i.toArray}}:=a.laid (t':=s.toks) (λb o e=>Heap.get?_push_of_some _ e) (Nat.le_refl _) (show cv X.prog X.w _ _ _ (.tup ys) from#[f,i,g,IsTup.new _ _]);exact#[.ref h'.objs.size,_,c,rfl,q _ (a.bE.fresh (Nat.le_refl _))]
 .obtain⟨i,g,P,f⟩:=I.tuple j;exact call_tuple_same P #[.ref p,H,I,rfl,q]
def Ek (K:W.Frag) (T:String) (x:V) (H:Hp):Prop:=match x with
 | .str _=>T="str"
 | .int _=>T="int"
 | .ref p=>(T="list"/\∃xs,bp K H p xs)\/(T="tuple"/\∃o,K.lookup p=some o/\o.cls=.type "tuple"/\o.dict=none)\/(T="dict"/\((∃kvs,H p=some (.dK kvs))\/∃kvs,H p=some (.dT kvs)))\/(T="set"/\∃S n,H p=some (.set S n))
 |_=>False
theorem xD {pins:List (Addr×Obj)} {σ:St} {H:Hp} {s:Shared} {T:String} {x:V} {v:Value} (I:Inv X pins σ H s) (r:RelV x v) (ty:Ek X.K T x H):s.TypeIs v T/\∀a,v=.ref a->∃O,s.heap.get? a=some O/\O.dict=none:=by
 cases x with
 |str z=>obtain⟨t,rfl⟩:=r;cases (show T="str" from ty);exact#[typeIs_str s z t,λ_ e=>nomatch e]
 |int i=>obtain⟨t,rfl⟩:=r;cases (show T="int" from ty);exact#[typeIs_int s i t,λ_ e=>nomatch e]
 |ref p=>
  cases r;rcases ty with⟨rfl,xs,j⟩|⟨rfl,o,b,d,h⟩|⟨rfl,b⟩|⟨rfl,S,n,b⟩
  .obtain⟨f,_,P,_⟩:=I.list j;refine#[P.isList.typeIs,λa e=>?_];cases e;obtain⟨o,n,e,c,h,_⟩:=P;exact#[o,e,h]
  .refine#[#[o,I.j3 p o b,d],λa e=>?_];cases e;exact#[o,I.j3 _ o b,h]
  .have z:∃o,s.heap.get? p=some o/\o.ExactDict:=by
    rcases b with⟨kvs,b⟩|⟨kvs,b⟩
    .obtain⟨_,_,_,_,o,_,_,e,ex,_⟩:=I.bE p _ b;exact#[o,e,ex]
    .obtain⟨_,_,_,_,o,_,_,e,ex,_⟩:=I.bE p _ b;exact#[o,e,ex]
   obtain⟨o,e,ex⟩:=z;refine#[#[o,e,ex.1],λa E=>?_];cases E;exact#[o,e,ex.2.1]
  .obtain⟨o,_,_,_,e,ex,_⟩:=I.bE p _ b;refine#[#[o,e,ex.1],λa E=>?_];cases E;exact#[o,e,ex.2.1]
 |_=>exact False.elim ty
def iz (K:W.Frag) (T:String) (r:V->List V->Hp->VK->Prop) (to:TE):TE:=λσ H Q=>to σ H λx H1=>Ek K T x H1/\r x [] H1 Q
def ou (K:W.Frag) (T:String) (r:V->List V->Hp->VK->Prop) (to:TE) (t:TA):TE:=λσ H Q=>to σ H λx H1=>Ek K T x H1/\t σ H1 λxs H2=>r x xs H2 Q
variable {o e:Expr} {es:List Expr} {to:TE} {t:TA} {name:Str} {apos cpos:Pos} {T id:String} {r:V->List V->Hp->VK->Prop}
theorem dq (p:PlainAttrs T) (K:Slot T name id) (b:typeOf (.builtin id)=pure (.type "method_descriptor")) (c:EF X id r) (g:PE X o to) (a:attributeBase o name X.env (eval o X.env)=eval o X.env:=by rfl) (d:(apos.endLine==cpos.line)=true:=by rfl):PE X (.Call (.Attribute o name apos) [] [] cpos) (iz X.K T r to):=by intro pins s σ H Q I h;refine wpAny_Call_method0_late a d (cL (g pins s σ H _ I h) λv S z=>?_);obtain⟨x,H1,i,R,ty,q⟩:=z;obtain⟨h1,h2⟩:=xD i R ty;exact#[T,id,p,K,b,h1,h2,Calls.callWith_builtin rfl (PySem.evalArgs_none (c pins S σ H1 x [] v [] Q i R .nil q))]
theorem eD (p:PlainAttrs T) (K:Slot T name id) (w:typeOf (.builtin id)=pure (.type "method_descriptor")) (c:EF X id r) (g:PE X o to) (b:PA X (e :: es) t) (a:attributeBase o name X.env (eval o X.env)=eval o X.env:=by rfl)
  (A:((backTo cpos (starEach (e :: es) X.env)).all (λx=>!x.1)&&(backToKw cpos (keywordEach [] X.env)).all (λx=>x.1.isSome)&&decide ((e :: es).length+([]:List Keyword).length+(if ([]:List Keyword).isEmpty then 0 else 1) < 30))=true:=by rfl)
  (y:(apos.endLine==cpos.line)=true:=by rfl) (j:starEach (e :: es) X.env=(false,eval e X.env) :: starEach es X.env:=by rfl) (B:(backTo cpos (starEach es X.env)).any (·.1)=false:=by rfl):
  PE X (.Call (.Attribute o name apos) (e :: es) [] cpos) (ou X.K T r to t):=by
 intro pins s σ H Q I h;refine wpAny_Call_method_late a A y rfl (cL (g pins s σ H _ I h) λv S z=>?_);obtain⟨x,H1,i,R,ty,q⟩:=z;obtain⟨h1,h2⟩:=xD i R ty;refine#[T,id,p,K,w,h1,h2,?_];have n:=b cpos pins S σ H1 _ i q;rw[j] at n ⊢;refine Calls.callWith_builtin (by show (false||(backTo cpos (starEach es X.env)).any (·.1))=false;rw[B] <;> rfl) (Calls.evalArgs_plain ?_);exact cL n λu f ⟨k,H2,m,l,d⟩=>c pins f σ H2 x k v u Q m R l d
end
def El (X:Cx) (id:String) (r:V->List V->Hp->VK->Prop):Prop:=∀(pins:List (Addr×Obj)) (s:Shared) (σ:St) (H:Hp) (x:V) (xs:List V) (v:Value) (u:List Value) (Q:VK),Inv X pins σ H s->RelV x v->Vals xs u->r x xs H Q->
  wpAny (model X.prog X.w) X.A (call (.builtin id) (v :: u)) (EP X pins σ Q) X.xe s
theorem Vals.one:∀{x:V} {us:List Value},Vals [x] us->∃u,us=[u]/\RelV x u
 |_,_,.cons r .nil=>#[_,rfl,r]
theorem Vals.zero:∀{us:List Value},Vals [] us->us=[]
 |_,.nil=>rfl
theorem Vals.dropLast {xs:List V} {us:List Value} (h:Vals xs us):Vals xs.dropLast us.dropLast:=by
 induction h with
 |nil=>exact .nil
 |cons r t I=>
  cases t with
  |nil=>exact .nil
  |cons q T=>exact .cons r I
theorem sd {c:Type} (l:List c):l.eraseIdx (l.length - 1)=l.dropLast:=by
 induction l with
 |nil=>rfl
 |cons a r I=>
  cases r with
  |nil=>rfl
  |cons b r=>
   have e:(a :: b :: r).length - 1=((b :: r).length - 1)+1:=by have h1:(a :: b :: r).length=r.length+2:=rfl;have h2:(b :: r).length=r.length+1:=rfl;omega
   rw[e,List.eraseIdx_cons_succ,I];all_goals rfl
section
variable {X:Cx} {pins:List (Addr×Obj)} {σ:St} {H:Hp} {s:Shared} {l b:Addr} {xs ys zs:List V}
theorem Inv.B7 {i its':List Value} {n:Nat} {f:Array Value->Array Value} {t':Nat} (I:Inv X pins σ H s) (a:H l=some (.lst xs)) (e:s.heap.get? l=some {cls:=.type "list",data:=.seq i.toArray n}) (m:f i.toArray=its'.toArray) (g:Vals ys its') (hz:ys.length<=sizeLine):Inv X pins σ (upd H l (.lst ys)) {s with heap:=s.heap.update l (Obj.mapSeq f),toks:=t'}:=by have q:=PySem.IsL.update e f;rw[m] at q;refine I.write (x:=l) (e:=l) (by rw[a];exact trivial) (.inl rfl) (λb u d h=>(Heap.get?_update_other s.heap (Obj.mapSeq f) (Ne.symm d)).trans h) #[_,q] ?_;exact#[hz,its',_,g,q]
theorem Inv.Du {i:List Value} {t':Nat} (I:Inv X pins σ H s) (g:Vals ys i) (hz:ys.length<=sizeLine):Inv X pins σ (upd H s.heap.objs.size (.lst ys)) {s with heap:=s.heap.push {cls:=.type "list",data:=.seq i.toArray},toks:=t'}:=I.laid (λ_ _ q=>Heap.get?_push_of_some _ q) (Nat.le_refl _) #[hz,i,0,g,Heap.get?_push_size _ rfl]
theorem Inv.fresh (I:Inv X pins σ H s):H s.heap.objs.size=none:=I.bE.fresh (Nat.le_refl _)
theorem Inv.uE (I:Inv X pins σ H s) (a:H l=some (.lst xs)):xs.length<=sizeLine/\∃(i:List Value) (n:Nat),Vals xs i/\xs.length=i.length/\s.heap.get? l=some {cls:=.type "list",data:=.seq i.toArray n}:=by obtain⟨z,i,n,r,e⟩:=I.bE l _ a;exact#[z,i,n,r,r.length,e]
theorem xE {n:Nat} (h:n<=sizeLine):Builtin.List.listTooLong n=false:=by unfold Builtin.List.listTooLong;exact decide_eq_false (by omega)
end
section
variable {X:Cx}
inductive cB (x:V) (vs:List V) (H:Hp) (Q:VK):Prop
 |mk (l:_) (xs:_) (y:_) (h1_:x=.ref l) (h2_:vs=[y]) (h3_:H l=some (.lst xs)) (h4_:xs.length < sizeLine) (h5_:Q .dE (upd H l (.lst (xs++[y])))):cB x vs H Q
theorem bV:El X "list.append" cB:=by intro pins s σ H x b v U Q I R d h;obtain⟨l,xs,y,rfl,rfl,a,f,q⟩:=h;cases R;obtain⟨u,rfl,g⟩:=d.one;obtain⟨z,i,n,r,c,e⟩:=I.uE a;refine call_meets F.slot_list_append #[_,e,rfl] F.entry_list_append (F.args_list_append_2 _ _) (PySem.list_append l i.toArray n u (by rw[List.size_toArray];omega)) #[e,?_];refine#[.dE,_,I.B7 (its':=i++[u]) a e (by simp) (r.append (.cons g .nil)) ?_,rfl,q];rw[List.length_append,List.length_singleton];omega
inductive ow (x:V) (vs:List V) (H:Hp) (Q:VK):Prop
 |mk (l:_) (b:_) (xs:_) (zs:_) (h1_:x=.ref l) (h2_:vs=[.ref b]) (h3_:H l=some (.lst xs)) (h4_:H b=some (.lst zs)) (h5_:xs.length+zs.length<=sizeLine) (h6_:Q .dE (upd H l (.lst (xs++zs)))):ow x vs H Q
theorem uF:El X "list.extend" ow:=by
 intro pins s σ H x d v U Q I R g h;obtain⟨l,b,xs,zs,rfl,rfl,a,t,f,q⟩:=h;cases R;obtain⟨u,rfl,j⟩:=g.one;cases j;obtain⟨z,i,n,r,c,e⟩:=I.uE a;obtain⟨Z,m,N,k,p,E⟩:=I.uE t;have o:i.toArray.size+m.toArray.size<=sizeLine:=by rw[List.size_toArray,List.size_toArray];omega
 have w:¬(!i.toArray.isEmpty&&Builtin.List.listTooLong (i.toArray.size+m.toArray.size))=true:=by rw[xE o,Bool.and_false];exact Bool.false_ne_true
 refine call_meets F.slot_list_extend #[_,e,rfl] F.entry_list_extend (F.args_list_extend_2 _ _) (AutoSeq1.list_extend_list_list_0 l i.toArray n b m.toArray N w (by rw[List.size_toArray];omega) (by omega)) #[e,E,?_];refine#[.dE,_,I.B7 (its':=i++m) a e (by simp) (r.append k) ?_,rfl,q];rw[List.length_append];omega
inductive iq (x:V) (vs:List V) (H:Hp) (Q:VK):Prop
 |mk (l:_) (xs:_) (y:_) (h1_:x=.ref l) (h2_:vs=[]) (h3_:H l=some (.lst xs)) (h4_:xs[xs.length - 1]?=some y) (h5_:Q y (upd H l (.lst xs.dropLast))):iq x vs H Q
theorem dr:El X "list.pop" iq:=by
 intro pins s σ H x b v U Q I R f h;obtain⟨l,xs,y,rfl,rfl,a,E,q⟩:=h;cases R;have k:=f.zero;subst k;obtain⟨z,i,n,r,c,e⟩:=I.uE a;obtain⟨u,d,g⟩:=r.get E;have j:i.toArray[i.toArray.size - 1]?=some u:=by show i.toArray[i.length - 1]?=some u;rw[<-Array.getElem?_toList,<-c];exact d
 refine call_meets F.slot_list_pop #[_,e,rfl] F.entry_list_pop (F.args_list_pop_1 _) (MeetsSeq.list_pop_last l i.toArray n u j (by rw[List.size_toArray];omega)) #[e,?_];refine#[y,_,I.B7 (its':=i.dropLast) a e ?_ r.dropLast ?_,g,q]
 .show i.toArray.eraseIdxIfInBounds (i.toArray.size - 1)=i.dropLast.toArray;rw[List.size_toArray,List.eraseIdxIfInBounds_toArray,sd]
 .rw[List.length_dropLast];omega
inductive uG (x:V) (y:V) (H:Hp) (Q:VK):Prop
 |mk (l:_) (b:_) (xs:_) (zs:_) (h1_:x=.ref l) (h2_:y=.ref b) (h3_:H l=some (.lst xs)) (h4_:H b=some (.lst zs)) (h5_:xs.length+zs.length<=sizeLine) (h6_:∀p,H p=none->Q (.ref p) (upd H p (.lst (xs++zs)))):uG x y H Q
theorem ox:lC X (binaryOp .Add) uG:=by
 intro pins s σ H x y v u Q I R d h;obtain⟨l,b,xs,zs,rfl,rfl,a,t,f,q⟩:=h;cases R;cases d;obtain⟨z,i,n,r,c,e⟩:=I.uE a;obtain⟨Z,m,N,g,p,E⟩:=I.uE t;refine PySem.P.add_list e E ?_ (by rw[List.size_toArray,List.size_toArray];omega);have j:i.toArray++m.toArray=(i++m).toArray:=by simp
 rw[j];exact#[.ref _,_,I.Du (t':=s.toks) (r.append g) (by rw[List.length_append];omega),rfl,q _ I.fresh]
end
end L2
namespace EG
open PySem PySem.W PySem.Calls PyProof.Rows
theorem j8 {P:Params} {h:Heap}:∀(N:List Int) (vs:List Value),WellAll P h vs (N.map WData.int)->IntsAre vs N:=by
 intro N;induction N with
 |nil=>intro vs w;rw[List.map_nil] at w;cases w;exact .nil
 |cons n N I=>
  intro vs w;rw[List.map_cons] at w;cases w with
  |cons a b=>cases a;exact .cons _ _ (I _ b)
theorem uH {l:OpenLaw} {n:Nat} (f:l.most=some n) {P:Params} {h:Heap} {D:List WData} {v:List Value} (k:l.row.toRowW.claim.pre D=true) (e:WellAll P h v D):∃a b N,v=[Value.ref a]/\D=[WData.list (N.map WData.int)]/\h.get? a=some {cls:=.type "list",data:=.seq b.toArray}/\IntsAre b N/\N.length<=n:=by
 have m:WShape.hasAll [] D [.list .int]=true:=(pre_splitW k).1;have H:l.pre.holds [] {args:=D}=true:=(pre_splitW k).2;obtain⟨d,r,rfl,h1,h2⟩:=hasAllW_cons m;obtain rfl:=hasAllW_nil h2;obtain⟨xs,rfl,i⟩:=hasW_list h1;obtain⟨N,rfl⟩:=items_int i;have o:N.length<=n:=by
  unfold OpenLaw.pre at H;have c:(WTm.not (.lt (.lit (.int (n:Int))) (.len (.arg 0)))).holds [] {args:=[.list (N.map .int)]}=true:=by have c:=(holds_andW H).1;rw[f] at c;exact c
  have A:=condW_of c (w_not (w_lt w_lit (w_len_list (w_arg rfl))));rw[List.length_map] at A;refine Nat.le_of_not_lt λq=>?_;have Q:(n:Int) < ((N.length:Nat):Int):=by omega
  first
   |(rw[decide_eq_true Q] at A;exact absurd A (by decide))
   |(simp at A;omega)
 cases e with
 |cons C w=>
  cases w;cases C with
  |list g j=>exact#[_,_,N,rfl,rfl,g,j8 N _ j,o]
theorem uI (l:OpenLaw) (D:List WData):l.row.toRowW.claim.post D (.bool true) D=true:=postW_of (r:=l.row.toRowW) (X:=(true==true))
  (show WShape.has [] (.bool true) .bool=true by first|rfl|decide|simp[WShape.has,WShape.arms,WShape.armsAll])
  (show (WTm.eq .res (.lit (.bool true))).value [] {args:=D,res:=some (.bool true),after:=D}=some (.bool (true==true)) from w_eq_bool (w_res rfl) w_lit) rfl
theorem qa {l:OpenLaw} {n:Nat} {q:Program} {L:List Str} {B:(Str->Option Value)->Heap->Prop} {z:World->Heap->Prop} {d:DefRec} (H:l.most=some n) (y:d.params.defaults=[]) (call:∀(w:World) (E S:Shared) (mg m:Str->Option Value) (u:Addr) (o:Obj) (P k doc:Value) (a:Addr) (vs:List Value) (N:List Int),Ground q L [] B w E mg m S.heap->z w S.heap->S.heap.get? u=some o->o.data=.func (docDef d.name d.params d.body d.scope P k doc)->S.heap.CodeRec k d.name->mg d.name=some (.ref u)->S.heap.get? a=some {cls:=.type "list",data:=.seq vs.toArray}->IntsAre vs N->N.length<=n->S.gens=[].toArray->codeAny (model l.prog w) callerA (.call (.ref u) #[[.ref a],[]]) (λr s'=>r=.ok (.ret (.bool true))/\OldK S.heap s'.heap/\s'.os=S.os/\AllBare s'.gens) S):WalkO q L B z l.row.toRowW d [] (λf vs=>PySem.call f vs):=by intro w E S mg m G Y u o P k doc X kV g h p t I C D v O A Q M e x;obtain rfl:X=.none:=Dflts.none t y;obtain rfl:kV=.none:=Dflts.noKw t;obtain⟨a,vs,N,rfl,rfl,K,J,b⟩:=uH H A e;refine enter_call (codeAny_mono (call w E S mg m u o P k doc a vs N G Y g (fd_plain h) p I K J b C) λr s' j=>?_);obtain⟨rfl,h2,i,s⟩:=j;exact#[.inl #[.bool true,.bool true,[],rfl,λ_=>rfl,.bool true,uI l _,λ_=>#[List.Pairwise.nil,λ_ c=>(nomatch c)]],h2,i,s]
end EG
namespace L2
open PySem PySem.Spec PyProof.Rows
theorem nF:∀{vs:List Value} {N:List Int},IntsAre vs N->Vals (N.map V.int) vs
 |_,_,.nil=>.nil
 |_,_,.cons n t h=>.cons #[t,rfl] (nF h)
def inClass (s:Stmt) (j:Nat):Stmt:=match s with
 | .ClassDef _ _ _ body _ _ _ _ _ _ _=>body.getD j (.Pass ⟨0,0,0,0⟩)
 |_=>.Pass ⟨0,0,0,0⟩
def ck (s:Stmt):Arguments:=match s with
 | .FunctionDef _ a _ _ _ _ _ _ _ _=>a
 |_=>{posonlyargs:=[],args:=[],vararg:=none,kwonlyargs:=[],kw_defaults:=[],kwarg:=none,defaults:=[]}
def bx (s:Stmt):List Stmt:=match s with
 | .FunctionDef _ _ b _ _ _ _ _ _ _=>b
 |_=>[]
def ao (s:Stmt):Scope:=match s with
 | .FunctionDef _ _ _ _ _ _ sc _ _ _=>sc
 |_=>{kind:=.function,names:=[],isGenerator:=false,isCoroutine:=false}
abbrev cM:xm:=λ_ _ _ _ _ _=>False
abbrev E0:XK:=λ_ _ _=>False
theorem bN {X:Cx}:Passes cM X E0:=λ_ _ _ _ _ _ _ h=>h.elim
structure gj (K:W.Frag) (x qual:Str) (st:Stmt) (f:Addr) (fd:FuncData):Prop where
 ex:∃(oc:Value) (od:Option Addr) (kV doc pm:Value) (an:Option Addr) (cdv ct:Value) (osl:Array (Option Value)),fd=W.fnOf x qual (ck st) (bx st) (ao st) .none kV doc pm an cdv ct/\K.lookup f=some #[oc,od,.func fd,osl]/\W.codeIn K cdv qual=true
 kp:W.keepIn K (.ref f)=true
section
variable {P:Program} {w:World} {K:W.Frag} {mg:Str->Option Value} {base:Heap}
theorem gj.ok {x b:Str} {st:Stmt} {f:Addr} {fd:FuncData} {N ps:List Str} {k:Nat} {sp:Sp} (F:gj K x b st f fd) (S:a9 N ps (ao st)) (U:∀vs H Q E,sp vs H Q E->vs.length=ps.length) (M:∀(c:Value) (A:Around) (o:List Env) (s:Shared) (H:Hp) (vs:List V) (Q:VK) (E:XK),dG k (A.deeper (envOfC b (ao st) s.heap.objs.size f c))->sp vs H Q E->∃t,n8 (fw cM P w K mg base N b (ao st) f c A o s H E).mV (bx st) t/\t (Ends.of Q) (start N vs) H):aU P w K mg base cM (k+1) f fd ps sp:=by obtain⟨g,O,kV,doc,d,m,c,l,L,rfl,e,p⟩:=F.ex;refine xr e p S U λA o s H vs Q E a T=>?_;obtain⟨t,h,q⟩:=M c A o s H vs Q E a T;exact#[t,h.mV,q]
theorem gj.binds {x Q:Str} {st:Stmt} {f:Addr} {fd:FuncData} {ps:List Str} (F:gj K x Q st f fd) (h:∀(kV doc P:Value) (m:Option Addr) (c l:Value) (us:List Value),us.length=ps.length->bindArgs (W.fnOf x Q (ck st) (bx st) (ao st) .none kV doc P m c l) #[us,[]]=pure (ps.zip us)):Binds K fd ps []:=by obtain⟨g,A,kV,doc,P,m,c,l,L,rfl,e,p⟩:=F.ex;exact .all (h kV doc P m c l)
theorem oy {x Q:Str} {st:Stmt} {f:Addr} {g:Value} {A m:Option Addr} {L:Array (Option Value)} {kV doc P C a:Value} (l:K.lookup f=some #[g,A,.func (W.fnOf x Q (ck st) (bx st) (ao st) .none kV doc P m C a),L]) (c:W.codeIn K C Q=true) (k:W.keepIn K (.ref f)=true):gj K x Q st f (W.fnOf x Q (ck st) (bx st) (ao st) .none kV doc P m C a):=#[#[g,A,kV,doc,P,m,C,a,L,rfl,l,c],k]
end
theorem fI {A:Around} {k:Nat} (h:dG k A):A.units+1 < cLine:=Nat.lt_of_le_of_lt (Nat.add_le_add_left (by decide:1<=64) _) h.units
section
variable {X:Cx}
theorem pv (i:Nat) {x:Str} {pos:Pos} (H:X.N[i]?=some x:=by rfl) (g:De X.env.scope x:=by first|exact Or.inl rfl|exact Or.inr (Or.inl rfl)|exact Or.inr (Or.inr rfl)) (h:(x==("__debug__":Str))=false:=by decide)
  (p:(x==("__classdict__":Str))=false:=by decide):PE X (.Name x pos) (af i):=BR H g h p
end
theorem cA {A B:Prop} (h:B):if false=true then A else B:=by rw[if_neg Bool.false_ne_true];exact h
theorem fM {A B:Prop} (h:A):if true=true then A else B:=by rw[if_pos rfl];exact h
theorem bO {c A B:Prop} [Decidable c] (h1:c->A) (h2:¬c->B):if c then A else B:=by
 by_cases h:c
 .rw[if_pos h];exact h1 h
 .rw[if_neg h];exact h2 h
def aq (H H':Hp):Prop:=∀b o,H b=some o->H' b=some o
theorem aq.refl (H:Hp):aq H H:=λ_ _ h=>h
theorem aq.trans {H H1 H2:Hp} (a:aq H H1) (b:aq H1 H2):aq H H2:=λc o h=>b c o (a c o h)
theorem aq.free {H H':Hp} (e:aq H H') {l:Addr} (h:H' l=Option.none):H l=Option.none:=by
 cases q:H l with
 |none=>rfl
 |some o=>rw[e l o q] at h;cases h
theorem aq.seq {K:W.Frag} {H H':Hp} {a:Addr} {xs:List V} (e:aq H H') (h:bp K H a xs):bp K H' a xs:=by
 rcases h with (h|⟨o,h⟩)|h
 .exact .inl (.inl (e _ _ h))
 .exact .inl (.inr #[o,e _ _ h])
 .exact .inr h
section
variable {κ:Type} [DecidableEq κ]
def cE (kvs:List (κ×V)) (k:κ):Option V:=(kvs.find? λK=>decide (K.1=k)).map (·.2)
def putK (kvs:List (κ×V)) (k:κ) (v:V):List (κ×V):=if (kvs.any λK=>decide (K.1=k))=true then kvs.map (λK=>if K.1=k then(K.1,v) else K) else kvs++[(k,v)]
theorem dt {p:κ×V} {r:List (κ×V)} {k:κ} (e:p.1=k):cE (p :: r) k=some p.2:=by simp[cE,List.find?_cons,e]
theorem du {p:κ×V} {r:List (κ×V)} {k:κ} (e:¬p.1=k):cE (p :: r) k=cE r k:=by simp[cE,List.find?_cons,e]
theorem gK (k:κ):∀kvs:List (κ×V),(kvs.any λK=>decide (K.1=k))=(cE kvs k).isSome
 |[]=>rfl
 |p :: r=>by
  rw[List.any_cons];by_cases e:p.1=k
  .simp only[dt e,decide_eq_true e,Bool.true_or,Option.isSome_some]
  .rw[du e,decide_eq_false e,Bool.false_or];exact gK k r
theorem qb (k j:κ) (y:V):∀kvs:List (κ×V),cE (kvs.map λK=>if K.1=k then(K.1,y) else K) j=(cE kvs j).map λx=>if j=k then y else x
 |[]=>rfl
 |p :: r=>by
  have I:=qb k j y r;rw[List.map_cons];by_cases h:p.1=k
  .rw[if_pos h];by_cases e:p.1=j
   .rw[dt (p:=(p.1,y)) e,dt e,Option.map_some,if_pos (e.symm.trans h)]
   .rw[du (p:=(p.1,y)) e,du e,I]
  .rw[if_neg h];by_cases e:p.1=j
   .rw[dt (p:=p) e,dt e,Option.map_some,if_neg (λz=>h (e.trans z))]
   .rw[du (p:=p) e,du e,I]
theorem nG (k j:κ) (y:V):∀kvs:List (κ×V),cE kvs k=none->cE (kvs++[(k,y)]) j=if j=k then some y else cE kvs j
 |[],_=>by
  by_cases e:k=j
  .rw[if_pos e.symm];exact dt (p:=(k,y)) e
  .rw[if_neg (λz=>e z.symm)];exact du (p:=(k,y)) e
 |p :: r,f=>by
  rw[List.cons_append];have a:¬p.1=k:=λz=>by rw[dt z] at f;cases f
  rw[du a] at f;have I:=nG k j y r f;by_cases e:p.1=j
  .rw[dt e,dt e,if_neg (λz=>a (e.trans z))]
  .rw[du e,du e,I]
theorem fO (kvs:List (κ×V)) (k j:κ) (y:V):cE (putK kvs k y) j=if j=k then some y else cE kvs j:=by
 unfold putK;by_cases a:(kvs.any λK=>decide (K.1=k))=true
 .rw[if_pos a,qb];rw[gK] at a;by_cases e:j=k
  .obtain⟨x,h⟩:=Option.isSome_iff_exists.mp a;rw[if_pos e,e,h,Option.map_some,if_pos rfl]
  .rw[if_neg e];cases cE kvs j with
   |none=>rfl
   |some x=>rw[Option.map_some,if_neg e]
 .rw[if_neg a];refine nG k j y kvs ?_;rw[gK] at a;cases q:cE kvs k with
  |none=>rfl
  |some x=>rw[q] at a;exact(a rfl).elim
theorem eE (kvs:List (κ×V)) (k:κ) (v:V):(putK kvs k v).length<=kvs.length+1:=by
 unfold putK;split
 .rw[List.length_map];omega
 .rw[List.length_append,List.length_cons,List.length_nil];omega
theorem iU {kvs:List (κ×V)} {k:κ} (v:V) (h:cE kvs k=none):putK kvs k v=kvs++[(k,v)]:=by unfold putK;rw[gK,h];exact if_neg (by decide)
theorem gD.fP {o:Option V} {u:Option Value} (r:gD o u):o.isSome=u.isSome:=by
 cases o with
 |none=>cases u with
  |none=>rfl
  |some _=>exact(show False from r).elim
 |some _=>cases u with
  |none=>exact(show False from r).elim
  |some _=>rfl
theorem gD.getD {o:Option V} {u:Option Value} {d:V} {d':Value} (r:gD o u) (R:RelV d d'):RelV (o.getD d) (u.getD d'):=by
 cases o with
 |none=>cases u with
  |none=>exact R
  |some _=>exact(show False from r).elim
 |some _=>cases u with
  |none=>exact(show False from r).elim
  |some _=>exact r
theorem KV.val {kvs:List (κ×V)} {vs:List (κ×Value)} (r:KV kvs vs) (k:κ):gD (cE kvs k) (valueAt vs k):=by
 unfold KV at r;induction r with
 |nil=>exact True.intro
 |@cons p q ps Q h t I=>
  obtain⟨h1,h2⟩:=h;by_cases e:p.1=k
  .have E:q.1=k:=h1.symm.trans e;have b:valueAt (q :: Q) k=some q.2:=by simp[valueAt,List.find?_cons,E]
   rw[dt e,b];exact h2
  .have E:¬q.1=k:=λz=>e (h1.trans z);have b:valueAt (q :: Q) k=valueAt Q k:=by simp[valueAt,List.find?_cons,E]
   rw[du e,b];exact I
theorem KV.any {kvs:List (κ×V)} {vs:List (κ×Value)} (r:KV kvs vs) (k:κ):(kvs.any λK=>decide (K.1=k))=vs.any λK=>decide (K.1=k):=by
 unfold KV at r;induction r with
 |nil=>rfl
 |cons h t I=>rw[List.any_cons,List.any_cons,I,h.1]
theorem KV.B8 {kvs:List (κ×V)} {vs:List (κ×Value)} (r:KV kvs vs) (k:κ) {y:V} {u:Value} (i:RelV y u):KV (kvs.map λK=>if K.1=k then(K.1,y) else K) (vs.map λK=>if K.1=k then(K.1,u) else K):=by
 unfold KV at r ⊢;induction r with
 |nil=>exact .nil
 |@cons p q ps Q h t I=>
  rw[List.map_cons,List.map_cons];refine .cons ?_ I;obtain⟨h1,h2⟩:=h;by_cases e:p.1=k
  .rw[if_pos e,if_pos (h1.symm.trans e)];exact#[h1,i]
  .rw[if_neg e,if_neg (λz=>e (h1.trans z))];exact#[h1,h2]
theorem KV.put {kvs:List (κ×V)} {vs:List (κ×Value)} (r:KV kvs vs) (k:κ) {y:V} {u:Value} (i:RelV y u):KV (putK kvs k y) (stored vs k u):=by
 unfold putK stored;rw[r.any k];by_cases e:(vs.any λK=>decide (K.1=k))=true
 .rw[if_pos e,if_pos e];exact r.B8 k i
 .rw[if_neg e,if_neg e];exact Paired.snoc r #[rfl,i]
theorem KV.length {kvs:List (κ×V)} {vs:List (κ×Value)} (r:KV kvs vs):kvs.length=vs.length:=Paired.length r
end
theorem lK {P:Program} {w:World} {k:Key} {u:Value} (r:RelV (kV k) u):(cH P w).is k u=true:=by
 cases k with
 |inl i=>obtain⟨t,e⟩:=(show ∃t,u=Value.int i t from r);subst e;exact pL P w i t
 |inr x=>obtain⟨t,e⟩:=(show ∃t,u=Value.str x t from r);subst e;exact pM P w x t
theorem nH {P:Program} {w:World}:∀{K:List Key} {us:List Value},Vals (K.map kV) us->ItemsAre (cH P w) K us
 |[],_,r=>by rw[List.map_nil] at r;cases r;exact .nil
 |k :: K,_,r=>by
  rw[List.map_cons] at r;cases r with
  |cons h t=>exact .cons (lK h) (nH t)
abbrev KT (H:Hp):List (List Key×V)->List (List Key×Addr×Value)->Prop:=Paired λp q=>p.1=q.1/\H q.2.1=some (.tup (p.1.map kV))/\RelV p.2 q.2.2
theorem KT.val {H:Hp} {kvs:List (List Key×V)} {xs:List (List Key×Addr×Value)} (r:KT H kvs xs) (k:List Key):gD (cE kvs k) ((atKey xs k).map (·.2)):=by
 induction r with
 |nil=>exact True.intro
 |@cons p q ps Q h t I=>
  obtain⟨h1,_,h2⟩:=h;by_cases e:p.1=k
  .have E:q.1=k:=h1.symm.trans e;have b:atKey (q :: Q) k=some q.2:=by simp[atKey,List.find?_cons,E]
   rw[dt e,b];exact h2
  .have E:¬q.1=k:=λz=>e (h1.trans z);have b:atKey (q :: Q) k=atKey Q k:=by simp[atKey,List.find?_cons,E]
   rw[du e,b];exact I
theorem KT.B8 {H:Hp} {kvs:List (List Key×V)} {xs:List (List Key×Addr×Value)} (r:KT H kvs xs) (k:List Key) {y:V} {u:Value} (i:RelV y u):KT H (kvs.map λK=>if K.1=k then(K.1,y) else K) (xs.map (putAt k u)):=by
 induction r with
 |nil=>exact .nil
 |@cons p q ps Q h t I=>
  rw[List.map_cons,List.map_cons];refine .cons ?_ I;obtain⟨h1,h2,a⟩:=h;unfold putAt;by_cases e:p.1=k
  .rw[if_pos e,if_pos (h1.symm.trans e)];exact#[h1,h2,i]
  .rw[if_neg e,if_neg (λz=>e (h1.trans z))];exact#[h1,h2,a]
theorem KT.put {H:Hp} {kvs:List (List Key×V)} {xs:List (List Key×Addr×Value)} (r:KT H kvs xs) (k:List Key) {b:Addr} {y:V} {u:Value} (d:H b=some (.tup (k.map kV))) (i:RelV y u):KT H (putK kvs k y) (storedH xs k b u):=by
 have e:(kvs.any λK=>decide (K.1=k))=(atKey xs k).isSome:=by rw[gK,(r.val k).fP,Option.isSome_map]
 unfold putK storedH;rw[e];by_cases q:(atKey xs k).isSome=true
 .rw[if_pos q,if_pos q];exact r.B8 k i
 .rw[if_neg q,if_neg q];exact Paired.snoc r #[rfl,d,i]
theorem KT.keeps {H H':Hp} {kvs:List (List Key×V)} {xs:List (List Key×Addr×Value)} (r:KT H kvs xs) (l:∀b ys,H b=some (.tup ys)->H' b=some (.tup ys)):KT H' kvs xs:=Paired.zg r λ_ _ z=>#[z.1,l _ _ z.2.1,z.2.2]
section
variable {P:Program} {w:World} {H:Hp} {h:Heap} {a:Addr}
theorem Bl {u:HO} (o:g9 P w H h) (e:Rd H a u):cv P w H h a u:=e.ok o
theorem jT {kvs:List (Key×V)} (o:g9 P w H h) (e:Rd H a (.dK kvs)):kvs.length<=sizeLine/\(a==sysModules)=false/\∃b,KV kvs b/\h.DictOf (cH P w) a b:=show cv P w H h a (.dK kvs) from Bl o e
theorem Bm {kvs:List (Key×V)} (o:g9 P w H h) (e:H a=some (.dK kvs)):kvs.length<=sizeLine/\(a==sysModules)=false/\∃b,KV kvs b/\h.DictOf (cH P w) a b:=jT o (.inl e)
theorem jv {K:List Key} (O:g9 P w H h) (e:H a=some (.tup (K.map kV))):(tupleKind (cH P w)).is h K a:=by obtain⟨_,i,r,o,h1,h2,n,b⟩:=(show cv P w H h a (.tup (K.map kV)) from O a _ e);exact#[o,i.toArray,n,h1,h2,b,by simpa using nH r]
theorem lM {kvs:List (List Key×V)} (O:g9 P w H h) (e:Rd H a (.dT kvs)):kvs.length<=sizeLine/\(a==sysModules)=false/\∃xs,KT H kvs xs/\h.DictOfH (tupleKind (cH P w)) a xs:=by
 obtain⟨z,y,xs,r,o,es,E,h1,h2,i,c,A⟩:=(show cv P w H h a (.dT kvs) from Bl O e);refine#[z,y,xs,r,o,es,E,h1,h2,i,c,λx b=>?_,A];have d:∀{l:List (List Key×V)} {m:List (List Key×Addr×Value)},KT H l m->∀x∈m,(tupleKind (cH P w)).is h x.1 x.2.1:=by
  intro l m q;induction q with
  |nil=>intro x b;exact nomatch b
  |@cons p q ps Q j t I=>
   intro x b;rcases List.mem_cons.mp b with e|b
   .subst e;exact jv O (by rw[<-j.1];exact j.2.1)
   .exact I x b
 exact d r x b
theorem Dv {kvs:List (List Key×V)} (o:g9 P w H h) (e:H a=some (.dT kvs)):kvs.length<=sizeLine/\(a==sysModules)=false/\∃xs,KT H kvs xs/\h.DictOfH (tupleKind (cH P w)) a xs:=lM o (.inl e)
end
def d0 (H:Hp) (a:Addr) (y:V) (r:Option V):Prop:=(∃kvs k,Rd H a (.dK kvs)/\y=kV k/\r=cE kvs k)\/∃kvs k b,Rd H a (.dT kvs)/\y=.ref b/\H b=some (.tup (k.map kV))/\r=cE kvs k
def gE (H:Hp) (a:Addr) (y v:V) (H':Hp):Prop:=(∃kvs k,H a=some (.dK kvs)/\y=kV k/\kvs.length < sizeLine/\H'=upd H a (.dK (putK kvs k v)))\/
 ∃kvs k b,H a=some (.dT kvs)/\y=.ref b/\H b=some (.tup (k.map kV))/\kvs.length < sizeLine/\H'=upd H a (.dT (putK kvs k v))
theorem d0.k {H:Hp} {a:Addr} {kvs:List (Key×V)} {k:Key} (e:H a=some (.dK kvs)):d0 H a (kV k) (cE kvs k):=.inl #[kvs,k,.inl e,rfl,rfl]
theorem d0.t {H:Hp} {a b:Addr} {kvs:List (List Key×V)} {k:List Key} (e:H a=some (.dT kvs)) (E:H b=some (.tup (k.map kV))):d0 H a (.ref b) (cE kvs k):=.inr #[kvs,k,b,.inl e,rfl,E,rfl]
theorem gE.k {H:Hp} {a:Addr} {kvs:List (Key×V)} {k:Key} {v:V} (e:H a=some (.dK kvs)) (c:kvs.length < sizeLine):gE H a (kV k) v (upd H a (.dK (putK kvs k v))):=.inl #[kvs,k,e,rfl,c,rfl]
theorem gE.t {H:Hp} {a b:Addr} {kvs:List (List Key×V)} {k:List Key} {v:V} (e:H a=some (.dT kvs)) (E:H b=some (.tup (k.map kV))) (c:kvs.length < sizeLine):gE H a (.ref b) v (upd H a (.dT (putK kvs k v))):=.inr #[kvs,k,b,e,rfl,E,c,rfl]
section
variable {X:Cx} {pins:List (Addr×Obj)} {σ:St} {H:Hp} {s:Shared} {a:Addr} {y v:V} {u r:Value} {o:Option V} {A:Around} {E:Value->Shared->Prop}
theorem Inv.big (I:Inv X pins σ H s):sysModules < s.heap.objs.size:=by have h:mainGlobals < s.heap.objs.size:=(I.mod.glob.keeps I.bk).lt;exact Nat.lt_trans (by decide) h
theorem uJ {Q:Value->Shared->Prop} (d:A.units+1 < cLine) (I:Inv X pins σ H s) (g:d0 H a y (some v)) (i:RelV y u) (h:∀J s',Inv X pins σ H s'->RelV v J->Q J s'):wpAny (model X.prog X.w) A (getItem (.ref a) u) Q E s:=by
 rcases g with⟨kvs,k,e,n,l⟩|⟨kvs,k,b,e,n,q,l⟩
 .subst n;obtain⟨z,f,j,r,D⟩:=jT I.bE e;obtain⟨J,c,K⟩:=gD.some_of (v:=v) (o:=valueAt j k) (by rw[l];exact r.val k);exact wpAny_getItem_of (lK i) D.mapOf c (h J _ (I.tok _) K)
 .subst n;cases (show u=Value.ref b from i);obtain⟨z,f,xs,r,D⟩:=lM I.bE e;obtain⟨J,c,K⟩:=gD.some_of (v:=v) (o:=(atKey xs k).map (·.2)) (by rw[l];exact r.val k);obtain⟨p,m,t⟩:=Option.map_eq_some_iff.mp c;refine wpAny_getItem_heap (tupleKind_room_in1 d) (jv I.bE q) D m ?_;rw[t];exact h J _ (I.tok _) K
theorem Em {Q:Value->Shared->Prop} (d:A.units+1 < cLine) (I:Inv X pins σ H s) (g:d0 H a y o) (i:RelV y u) (h:∀s',Inv X pins σ H s'->Q (.bool o.isSome) s'):wpAny (model X.prog X.w) A (compareOp .In u (.ref a)) Q E s:=by
 rcases g with⟨kvs,k,e,n,l⟩|⟨kvs,k,b,e,n,f,l⟩
 .subst n;obtain⟨z,c,v,r,D⟩:=jT I.bE e;refine wpAny_in_of (lK i) c D.mapOf ?_;rw[<-(r.val k).fP,<-l];exact h _ (I.tok _)
 .subst n;cases (show u=Value.ref b from i);obtain⟨z,c,xs,r,D⟩:=lM I.bE e;refine wpAny_in_heap (tupleKind_room_in1 d) (jv I.bE f) c D ?_;have q:=(r.val k).fP;rw[Option.isSome_map] at q;rw[<-q,<-l];exact h _ (I.tok _)
theorem zG {Q:Value->Shared->Prop} (d:A.units+1 < cLine) (I:Inv X pins σ H s) (g:d0 H a y o) (i:RelV y u) (h:∀s',Inv X pins σ H s'->Q (.bool (!o.isSome)) s'):wpAny (model X.prog X.w) A (compareOp .NotIn u (.ref a)) Q E s:=by
 rcases g with⟨kvs,k,e,n,l⟩|⟨kvs,k,b,e,n,f,l⟩
 .subst n;obtain⟨z,c,v,r,D⟩:=jT I.bE e;refine wpAny_notIn_of (lK i) c D.mapOf ?_;rw[<-(r.val k).fP,<-l];exact h _ (I.tok _)
 .subst n;cases (show u=Value.ref b from i);obtain⟨z,c,xs,r,D⟩:=lM I.bE e;refine wpAny_notIn_heap (tupleKind_room_in1 d) (jv I.bE f) c D ?_;have q:=(r.val k).fP;rw[Option.isSome_map] at q;rw[<-q,<-l];exact h _ (I.tok _)
theorem oz {h':Heap} {t':Nat} {O:HO} (I:Inv X pins σ H s) (m:Dd (H a)) (j:Heap.SameBut a s.heap h') (f:∃q,h'.get? a=some q) (n:cv X.prog X.w (upd H a O) h' a O):Inv X pins σ (upd H a O) {s with heap:=h',toks:=t'}:=I.write (x:=a) (e:=a) m (.inl rfl) (λb q d z=>(j.2 b d).trans z) f n
theorem xF {P:Program} {w:World} {H':Hp} {h':Heap} {kvs:List (Key×V)} {vs:List (Key×Value)} (z:kvs.length<=sizeLine) (h:(a==sysModules)=false) (r:KV kvs vs) (D:h'.DictOf (cH P w) a vs):cv P w H' h' a (.dK kvs):=#[z,h,vs,r,D]
theorem uK {H':Hp} {Q:Unit->Shared->Prop} (d:A.units+1 < cLine) (I:Inv X pins σ H s) (g:gE H a y v H') (i:RelV y u) (R:RelV v r) (h:∀s',Inv X pins σ H' s'->Q () s'):wpAny (model X.prog X.w) A (setItem (.ref a) u r) Q E s:=by
 rcases g with⟨kvs,k,e,n,l,N⟩|⟨kvs,k,b,e,n,J,l,N⟩
 .subst n N;obtain⟨z,o,t,K,D⟩:=Bm I.bE e;have x:t.length<=sizeLine:=by rw[<-K.length];exact z
  have m:(putK kvs k v).length<=sizeLine:=by have:=eE kvs k v;omega
  refine wpAny_setItem_pairs (hsz:=x) (lK i) D λh' M p=>h _ ?_;have f:∃q,h'.get? a=some q:=let ⟨q,_,_,j,_⟩:=M;⟨q,j⟩;exact oz I (by rw[e];exact True.intro) p f (xF m o (K.put k R) M)
 .subst n N;cases (show u=Value.ref b from i);obtain⟨z,o,xs,K,D⟩:=Dv I.bE e;have x:xs.length<=sizeLine:=by rw[<-Paired.length K];exact z
  have m:(putK kvs k v).length<=sizeLine:=by have:=eE kvs k v;omega
  refine wpAny_setItem_heap (hsz:=x) (tupleKind_room_in1 d) (jv I.bE J) D λh' M p=>h _ ?_;obtain⟨q,es,C,j,h2,w,B,_,G⟩:=M;refine oz I (by rw[e];exact True.intro) p #[q,j] #[m,o,_,(K.put k J R).keeps λc ys L=>?_,q,es,C,j,h2,w,B,G];rw[ah (eP L e (λz=>nomatch z))];exact L
end
section
variable {X:Cx} {pins:List (Addr×Obj)} {σ:St} {H:Hp} {s:Shared} {a:Addr} {kvs:List (Key×V)} {k:Key} {u:Value} {A:Around} {E:Value->Shared->Prop}
theorem Dw {Q:Value->Shared->Prop} (I:Inv X pins σ H s) (e:Rd H a (.dK kvs)) (h:∀t s',Inv X pins σ H s'->Q (.int kvs.length t) s'):wpAny (model X.prog X.w) A (call (.builtin "len") [.ref a]) Q E s:=by obtain⟨z,c,b,r,D⟩:=jT I.bE e;refine call_len_dict c D (by rw[<-r.length];rw[sizeLine_eq] at z;omega) ?_;rw[<-r.length];exact h _ _ (I.tok _)
end
def Dx (i:Expr):Prop:=∀O I,subscripted i false O I=operate [O,I] (getItem O I)
theorem zH {prog:Program} {w:World} {A:Around} {E:Value->Shared->Prop} {s:Shared} {e:Env} {value b:Expr} {pos:Pos} {T id:String} {Q:Value->Shared->Prop} (c:typeLookup (.type T) "__getitem__"=pure (some (.builtin id))) (j:Dx b) (h:wpAny (model prog w) A (eval value e) (λo S=>wpAny (model prog w) A (eval b e) (λi d=>d.TypeIs o T/\wpAny (model prog w) A (getItem o i) Q E d) E S) E s):wpAny (model prog w) A (eval (.Subscript value b pos) e) Q E s:=by
 refine Subscript_ (wpAny_mono h (λo S a=>wpAny_mono a (λi d g=>?_) λ_ _ x=>x) λ_ _ x=>x);obtain⟨H,g⟩:=g;unfold subscriptTail;refine wpAny_bind ?_;rw[getitemInPython_of_ne H.not_modules];refine wpAny_bind (wpAny_specialOf H c ?_);have f:wpAny (model prog w) A (subscripted b false o i) (λr k=>wpAny (model prog w) A (letTemporaryGo value o r >>=λ_=>pure r) Q E k) E d:=by rw[j o i];exact wpAny_operating (wpAny_mono g (λr k l=>wpAny_bind (wpAny_letTemporaryGo (wpAny_pure l))) λ_ _ x=>x)
 first
  |exact wpAny_pure (wpAny_bind f)
  |exact wpAny_bind (wpAny_pure (wpAny_bind f))
  |exact wpAny_bind f
theorem qd {X:Cx} {pins:List (Addr×Obj)} {σ:St} {H:Hp} {s:Shared} {a:Addr} {y:V} {o:Option V} (I:Inv X pins σ H s) (g:d0 H a y o):s.TypeIs (.ref a) "dict":=by
 rcases g with⟨kvs,k,e,_,_⟩|⟨kvs,k,b,e,_,_,_⟩
 .obtain⟨_,_,v,_,D⟩:=jT I.bE e;exact D.typeIs
 .obtain⟨_,_,xs,_,D⟩:=lM I.bE e;exact D.typeIs
inductive xG (Q:VK) (x:V) (y:V) (H2:Hp):Prop
 |mk (a:_) (v:_) (h1_:x=.ref a) (h2_:d0 H2 a y (some v)) (h3_:Q v H2):xG Q x y H2
def jU (td ty:TE):TE:=λσ H Q=>td σ H λx H1=>ty σ H1 (xG Q x)
inductive Bn (Q:VK) (y:V) (x:V) (H2:Hp):Prop
 |mk (a:_) (o:_) (h1_:x=.ref a) (h2_:d0 H2 a y o) (h3_:Q (.bl o.isSome) H2):Bn Q y x H2
def xH (ty td:TE):TE:=λσ H Q=>ty σ H λy H1=>td σ H1 (Bn Q y)
inductive qe (Q:VK) (y:V) (x:V) (H2:Hp):Prop
 |mk (a:_) (o:_) (h1_:x=.ref a) (h2_:d0 H2 a y o) (h3_:Q (.bl (!o.isSome)) H2):qe Q y x H2
def km (ty td:TE):TE:=λσ H Q=>ty σ H λy H1=>td σ H1 (qe Q y)
inductive xI (D:Ends) (σ:St) (v:V) (x:V) (y:V) (H3:Hp):Prop
 |mk (a:_) (H4:_) (h1_:x=.ref a) (h2_:gE H3 a y v H4) (h3_:D.nx σ H4):xI D σ v x y H3
def iV (td ty tv:TE):TS:=λD σ H=>tv σ H λv H1=>td σ H1 λx H2=>ty σ H2 (xI D σ v x)
section
variable {X:Cx} {o i e value:Expr} {pos pos' tpos:Pos} {td ty tv:TE}
theorem gp (d:X.A.units+1 < cLine) (b:PE X o td) (hi:PE X i ty) (j:Dx i):PE X (.Subscript o i pos) (jU td ty):=by intro pins s σ H Q I h;refine zH PySem.F.slot_dict_getitem.lookup j (cL (b pins s σ H _ I h) λu S ⟨x,H1,c,R,q⟩=>cL (hi pins S σ H1 _ c q) λn f z=>?_);obtain⟨y,H2,e,r,a,v,ex,g,l⟩:=z;subst ex;obtain rfl:u=Value.ref a:=R;exact#[qd e g,uJ d e g r λJ m k K=>#[v,H2,k,K,l]]
theorem oA (d:X.A.units+1 < cLine) (hi:PE X i ty) (b:PE X o td):PC X .In i o (xH ty td):=by intro pins s σ H Q I h;refine cL (hi pins s σ H _ I h) λm S ⟨y,H1,c,r,q⟩=>cL (b pins S σ H1 _ c q) λu f z=>?_;obtain⟨x,H2,e,R,a,O,ex,g,l⟩:=z;subst ex;obtain rfl:u=Value.ref a:=R;exact Em d e g r λj k=>#[.bl O.isSome,H2,k,rfl,l]
theorem jw (d:X.A.units+1 < cLine) (hi:PE X i ty) (b:PE X o td):PC X .NotIn i o (km ty td):=by intro pins s σ H Q I h;refine cL (hi pins s σ H _ I h) λm S ⟨y,H1,c,r,q⟩=>cL (b pins S σ H1 _ c q) λu f z=>?_;obtain⟨x,H2,e,R,a,O,ex,g,l⟩:=z;subst ex;obtain rfl:u=Value.ref a:=R;exact zG d e g r λj k=>#[.bl (!O.isSome),H2,k,rfl,l]
theorem fJ (d:X.A.units+1 < cLine) (c:PE X o td) (hi:PE X i ty) (t:PE X value tv) (j:swapsWith value (some (.Subscript o i pos')) pos.line X.env=pure false):PS X (.Assign [.Subscript o i pos'] value pos) (iV td ty tv):=by intro pins s σ H D I h;refine wpAny_Assign_Subscript (cL (t pins s σ H _ I h) λr S ⟨v,H1,n,w,q⟩=>cL (c pins S σ H1 _ n q) λu f ⟨x,H2,e,R,Q⟩=>cL (hi pins f σ H2 _ e Q) λB A z=>?_) j;obtain⟨y,b,k,l,a,p,ex,g,m⟩:=z;subst ex;obtain rfl:u=Value.ref a:=R;exact uK d k g l w λC N=>#[σ,p,N,m]
end
theorem qg {P:Program} {w:World} {H:Hp} (h:Heap) (d:sysModules < h.objs.size):cv P w H (h.push {cls:=.type "dict",data:=.dict [].toArray}) h.objs.size (.dK []):=#[Nat.zero_le _,beq_eq_false_iff_ne.mpr (Ne.symm (Nat.ne_of_lt d)),[],.nil,Heap.DictOf.new h]
theorem xJ {P:Program} {w:World} {H:Hp} (h:Heap) (d:sysModules < h.objs.size):cv P w H (h.push {cls:=.type "dict",data:=.dict [].toArray}) h.objs.size (.dT []):=#[Nat.zero_le _,beq_eq_false_iff_ne.mpr (Ne.symm (Nat.ne_of_lt d)),[],.nil,_,[].toArray,0,Heap.get?_push_size _ rfl,#[rfl,rfl,rfl],rfl,rfl,List.nodup_nil]
def jx:TE:=λ_ H Q=>∀p,H p=none->Q (.ref p) (upd H p (.dK []))
def xK:TE:=λ_ H Q=>∀p,H p=none->Q (.ref p) (upd H p (.dT []))
section
variable {X:Cx} {pos:Pos}
theorem gM:PE X (.Dict [] [] pos) jx:=λpins s σ H Q I h=>
 wpAny_Dict_empty ⟨.ref s.heap.objs.size,_,I.laid (a:=s.heap.objs.size) (o:=.dK []) (t':=s.toks) (λ_ _ q=>Heap.get?_push_of_some _ q) (Nat.le_refl _) (qg s.heap I.big),rfl,h _ (I.bE.fresh (Nat.le_refl _))⟩
theorem xM:PE X (.Dict [] [] pos) xK:=λpins s σ H Q I h=>
 wpAny_Dict_empty ⟨.ref s.heap.objs.size,_,I.laid (a:=s.heap.objs.size) (o:=.dT []) (t':=s.toks) (λ_ _ q=>Heap.get?_push_of_some _ q) (Nat.le_refl _) (xJ s.heap I.big),rfl,h _ (I.bE.fresh (Nat.le_refl _))⟩
end
def se:List (TE×TE)->St->Hp->(List (V×V)->Hp->Prop)->Prop
 |[],_,H,Q=>Q [] H
 |(tk,tv) :: r,σ,H,Q=>tk σ H λx H1=>tv σ H1 λy H2=>se r σ H2 λps h=>Q ((x,y) :: ps) h
abbrev VV:List (V×V)->List (Value×Value)->Prop:=Paired λp q=>RelV p.1 q.1/\RelV p.2 q.2
def D6 (X:Cx) (pos:Pos) (k:List (Option Expr)) (v:List Expr) (t:List (TE×TE)):Prop:=∀(pins:List (Addr×Obj)) (s:Shared) (σ:St) (H:Hp) (Q:List (V×V)->Hp->Prop),Inv X pins σ H s->se t σ H Q->
  wpAny (model X.prog X.w) X.A (evalPairs (pairTrees k v X.env pos)) (λb s'=>∃ps H',Inv X pins σ H' s'/\VV ps b/\Q ps H') X.xe s
theorem zI {X:Cx} {pos:Pos}:D6 X pos [] [] []:=λpins s σ H Q I h=>pairTrees_nil_walk #[[],H,I,.nil,h]
theorem iW {X:Cx} {pos:Pos} {k v:Expr} {K:List (Option Expr)} {vs:List Expr} {T tv:TE} {t:List (TE×TE)} (a:PE X k T) (g:PE X v tv) (c:D6 X pos K vs t):D6 X pos (some k :: K) (v :: vs) ((T,tv) :: t):=λpins s σ H Q I h=>
 pairTrees_cons_walk (cL (a pins s σ H _ I h) λu S ⟨x,H1,l,R,q⟩=>cL (g pins S σ H1 _ l q) λo f ⟨y,H2,e,i,d⟩=>
  cL (c pins f σ H2 _ e d) λw j ⟨ps,b,n,r,m⟩=>⟨(x,y) :: ps,b,n,.cons ⟨R,i⟩ r,m⟩)
def dX (kvs m:List (Key×V)):List (Key×V):=m.foldl (λa K=>putK a K.1 K.2) kvs
theorem KV.merge:∀{m:List (Key×V)} {R:List (Key×Value)} {kvs:List (Key×V)} {vs:List (Key×Value)},KV m R->KV kvs vs->KV (dX kvs m) (merged vs R):=by
 intro m R kvs vs r;unfold KV at r;induction r generalizing kvs vs with
 |nil=>intro q;exact q
 |@cons p q ps Q h t I=>
  intro a;have e:KV (putK kvs p.1 p.2) (stored vs q.1 q.2):=by have:=a.put p.1 h.2;rw[<-h.1];exact this
  exact I e
theorem ir:∀(m kvs:List (Key×V)),(dX kvs m).length<=kvs.length+m.length
 |[],kvs=>by show kvs.length<=kvs.length+0;omega
 |p :: r,kvs=>by have h1:=ir r (putK kvs p.1 p.2);have h2:=eE kvs p.1 p.2;show (dX (putK kvs p.1 p.2) r).length<=_;rw[List.length_cons];omega
theorem lN {P:Program} {w:World}:∀{kvs:List (Key×V)} {d:List (Value×Value)},VV (kvs.map λK=>(kV K.1,K.2)) d->∃R,Carries (cH P w) d R/\KV kvs R
 |[],_,r=>by rw[List.map_nil] at r;cases r;exact#[[],True.intro,.nil]
 |p :: kvs,_,r=>by
  rw[List.map_cons] at r;cases r with
  |@cons a b as bs h t=>obtain⟨R,c,q⟩:=lN (P:=P) (w:=w) t;obtain⟨e,B⟩:=b;exact#[(p.1,B) :: R,#[lK h.1,rfl,c],.cons #[rfl,h.2] q]
def Bo (t:List (TE×TE)):TE:=λσ H Q=>∀p,H p=none->se t σ (upd H p (.dK [])) λps H2=>H2 p=some (.dK [])/\∃kvs:List (Key×V),ps=kvs.map (λK=>(kV K.1,K.2))/\kvs.length<=15/\Q (.ref p) (upd H2 p (.dK (dX [] kvs)))
theorem zJ {X:Cx} {pos:Pos} {k:List (Option Expr)} {v:List Expr} {t:List (TE×TE)} (h:D6 X pos k v t) (A:k.all (·.isSome)=true) (b:k.length=v.length) (y:k≠[]) (C:k.length<=15):PE X (.Dict k v pos) (Bo t):=by
 intro pins s σ H Q I q;have f:=I.bE.fresh (Nat.le_refl s.heap.objs.size);have i:=I.laid (a:=s.heap.objs.size) (o:=.dK []) (h':=s.heap.push {cls:=.type "dict",data:=.dict [].toArray}) (t':=s.toks) (λ_ _ q=>Heap.get?_push_of_some _ q) (Nat.le_refl _) (qg s.heap I.big);refine wpAny_Dict_walk (knd:=cH X.prog X.w) A b y C (cL (h pins _ σ _ _ i (q _ f)) λp S Z=>?_);obtain⟨ps,H2,u,r,e,kvs,E,L,d⟩:=Z;subst E;obtain⟨R,c,l⟩:=lN (P:=X.prog) (w:=X.w) r;obtain⟨z,g,G,B,D⟩:=Bm u.bE e;cases B;refine#[R,c,D,λh' M m=>#[.ref s.heap.objs.size,_,?_,rfl,d]];have x:(dX [] kvs).length<=sizeLine:=by have h1:=ir kvs [];rw[List.length_nil] at h1;rw[sizeLine_eq];omega
 have n:∃q,h'.get? s.heap.objs.size=some q:=let ⟨q,_,_,j,_⟩:=M;⟨q,j⟩;exact oz u (by rw[e];exact True.intro) m n (xF x g (l.merge .nil) M)
structure M2 (X:Cx) (o:Expr) (m:Str) (apos:Pos) (e f:Expr) (cpos:Pos):Prop where
 base:attributeBase o m X.env (eval o X.env)=eval o X.env
 rE:((backTo cpos (starEach [e,f] X.env)).all (λx=>!x.1)&&(backToKw cpos (keywordEach [] X.env)).all (λx=>x.1.isSome)&&decide (([e,f]:List Expr).length+([]:List Keyword).length+(if ([]:List Keyword).isEmpty then 0 else 1) < 30))=true
 line:(apos.endLine==cpos.line)=true
 trees:backTo cpos (starEach [e,f] X.env)=[(false,eval e X.env),(false,eval f X.env)]
def EH (H:Hp) (a:Addr):Prop:=(∃kvs,Rd H a (.dK kvs))\/∃kvs,Rd H a (.dT kvs)
theorem B9 {X:Cx} {pins:List (Addr×Obj)} {σ:St} {H:Hp} {s:Shared} {a:Addr} (I:Inv X pins σ H s) (d:EH H a):s.TypeIs (.ref a) "dict"/\(∀b,Value.ref a=.ref b->∃O,s.heap.get? b=some O/\O.dict=none)/\(a==sysModules)=false:=by
 rcases d with⟨kvs,e⟩|⟨kvs,e⟩
 .obtain⟨_,h,v,_,D⟩:=jT I.bE e;refine#[D.typeIs,λb q=>?_,h];cases q;obtain⟨O,_,_,h1,h2,_⟩:=D;exact#[O,h1,h2.2.1]
 .obtain⟨_,h,xs,_,D⟩:=lM I.bE e;refine#[D.typeIs,λb q=>?_,h];cases q;obtain⟨O,_,_,h1,h2,_⟩:=D;exact#[O,h1,h2.2.1]
section
variable {X:Cx} {pins:List (Addr×Obj)} {σ:St} {H:Hp} {s:Shared} {a:Addr} {y d:V} {u r:Value} {o:Option V} {A:Around} {E:Value->Shared->Prop}
theorem Ca {Q:Value->Shared->Prop} (f:A.units+1 < cLine) (I:Inv X pins σ H s) (g:d0 H a y o) (i:RelV y u) (R:RelV d r) (h:∀J s',Inv X pins σ H s'->RelV (o.getD d) J->Q J s'):wpAny (model X.prog X.w) A (call (.builtin "dict.get") [.ref a,u,r]) Q E s:=by
 rcases g with⟨kvs,k,e,n,l⟩|⟨kvs,k,b,e,n,j,l⟩
 .subst n;obtain⟨z,c,v,m,D⟩:=jT I.bE e;refine call_meetsIn PySem.F.slot_dict_get D.typeIs PySem.F.entry_dict_get (PySem.F.args_dict_get_3 _ _ _) (meets_dict_get_default (cH X.prog X.w) a (lK i) c r) #[_,D.mapOf,h _ _ (I.tok _) ?_];rw[l];exact(m.val k).getD R
 .subst n;cases (show u=Value.ref b from i);obtain⟨z,c,xs,m,D⟩:=lM I.bE e;refine call_meetsIn PySem.F.slot_dict_get D.typeIs PySem.F.entry_dict_get (PySem.F.args_dict_get_3 _ _ _) (meetsH_dict_get_default (tupleKind (cH X.prog X.w)) a b c r) #[tupleKind_room_in1 f,k,xs,jv I.bE j,D,h _ _ (I.tok _) ?_];rw[l];exact(m.val k).getD R
end
inductive tW (ty:TE) (tx:TE) (σ:St) (Q:VK) (x:V) (H1:Hp):Prop
 |mk (a:_) (h1_:x=.ref a) (h2_:EH H1 a) (h3_:ty σ H1 λy H2=>tx σ H2 λz H3=>∃o,d0 H3 a y o/\Q (o.getD z) H3):tW ty tx σ Q x H1
def sf (td ty tx:TE):TE:=λσ H Q=>td σ H (tW ty tx σ Q)
section
variable {X:Cx} {o e f:Expr} {apos cpos:Pos} {td ty tx:TE}
theorem qh (p:X.A.units+1 < cLine) (l:PE X o td) (c:PE X e ty) (t:PE X f tx) (m:M2 X o "get" apos e f cpos):PE X (.Call (.Attribute o "get" apos) [e,f] [] cpos) (sf td ty tx):=by
 intro pins s σ H Q I h;refine wpAny_Call_method m.base m.rE m.line PySem.F.plainAttrs_dict PySem.F.slot_dict_get PySem.F.type_dict_get (cL (l pins s σ H _ I h) λu S Z=>?_);obtain⟨x,H1,n,R,a,ex,d,q⟩:=Z;subst ex;obtain rfl:u=Value.ref a:=R;obtain⟨A,T,_⟩:=B9 n d;refine#[A,T,?_];rw[m.trees];refine Calls.callWith_builtin rfl (Calls.evalArgs_plain (Calls.spliced_cons (cL (c pins S σ H1 _ n q) λD r ⟨y,H2,w,i,v⟩=>
  Calls.spliced_cons (cL (t pins r σ H2 _ w v) λG j ⟨z,b,k,E,O,g,B⟩=>Calls.spliced_nil ?_))))
 exact Ca p k g i E λJ C N K=>#[_,b,N,K,B]
end
section
variable {X:Cx}
inductive iA (xs:List V) (H:Hp) (Q:VK):Prop
 |mk (a:_) (kvs:_) (h1_:xs=[V.ref a]) (h2_:H a=some (.dK kvs)) (h3_:Q (.int kvs.length) H):iA xs H Q
theorem uL:lD X (.builtin "len") iA:=by intro pins s σ H xs U Q I r h;obtain⟨a,kvs,rfl,b,q⟩:=h;obtain⟨u,rfl,R⟩:=vals1 r;cases R;exact Dw I (.inl b) λt s' c=>#[.int kvs.length,H,c,#[t,rfl],q]
end
def En (K:W.Frag) (a:Addr) (n:Nat):It:=#[λi H=>i < n/\∃X,bp K H a X/\X.length=n,λi H x h=>h=H/\∀X,bp K H a X->X[n - 1 - i]?=some x,λi _=>i=n]
theorem xN {P:Program} {w:World} {K:W.Frag} {G:Expr} (a it:Addr) (n:Nat):Turn P w K G (En K a n) [it] it (λi h=>h.IsRevIter it a ((n:Int) - 1 - (i:Int))) where
 mem:=by simp
 obj:=λi h st b hb=>by
  have e:b=it:=by simpa using hb
  subst e;obtain⟨o,e,c,d⟩:=st;exact#[o,e,λv z=>by rw[d] at z;cases z]
 keep:=λi h h' st k=>st.at λo e=>k it (by simp) o e
 item:=by
  intro X hP hw hK hc i pins s σ H E I hf st hg;subst hP hw hK;obtain⟨hi,xs,hq,hn⟩:=hg;obtain⟨its,rv,p,hz⟩:=I.list hq;have hx:xs[n - 1 - i]?=some (xs[n - 1 - i]'(by omega)):=List.getElem?_eq_getElem (by omega);obtain⟨u,hu,ru⟩:=rv.get hx;obtain⟨f0,f1,f2,f3,f4,f5⟩:=hf it (by simp);have e1:(n:Int) - 1 - (i:Int)=((n - 1 - i:Nat):Int):=by omega
  have st1:=st;rw[e1] at st1;refine wpAny_pyNext_rev_item st1 p.isList (x:=u) (by simpa using hu) λh' st' sb=>?_;have e2:((n - 1 - i:Nat):Int) - 1=(n:Int) - 1 - ((i+1:Nat):Int):=by omega
  rw[e2] at st';have I1:Inv X pins σ H {s with heap:=h'}:=I.turned (t':=s.toks) (λb o hb e=>(sb.2 b hb).trans e) f0 f1 f3 f4 f5;obtain⟨o,e,c,d⟩:=id st';exact#[u,rfl,w4 (s:={s with heap:=h'}) e c d (by decide) #[_,H,I1,ru,#[rfl,λys hy=>by rw[I.pR hy hq];exact hx],st',λb hb=>(hf b hb).1]]
 done:=by
  intro X hP hw hK hc i pins s σ H E I hf st hg;subst hP hw hK;have hg:i=n:=hg;subst hg;have e1:(i:Int) - 1 - (i:Int)= -1:=by omega
  rw[e1] at st;obtain⟨f0,f1,f2,f3,f4,f5⟩:=hf it (by simp);exact wpAny_pyNext_rev_end (I.ok.hd hc) st λh' eb=>#[rfl,I.turned (t':=s.toks) (λb o hb e=>eb b o hb e) f0 f1 f3 f4 f5]
 self:=λ_ _ _ _ _ st h=>wpAny_pyIter_revIter st h
section
variable {X:Cx} {G:Expr}
inductive Bp (K:W.Frag) (R:It->Hp->Prop) (vs:List V) (H1:Hp):Prop
 |mk (a:_) (xs:_) (h1_:vs=[.ref a]) (h2_:bp K H1 a xs) (h3_:R (En K a xs.length) H1):Bp K R vs H1
def zK (K:W.Frag) (t:TA):TI:=λa H R=>t a H (Bp K R)
theorem oB {a:Expr} {t:TA} {p D:Pos} (C:Gl X "reversed") (c:X.mg "reversed"=none) (k:PA X [a] t) (l:starEach [a] X.env=[(false,eval a X.env)]:=by rfl):PI X G (.Call (.Name "reversed" p) [a] [] D) (zK X.K t):=by
 intro P s m H R I h;refine Call_ (ft I C c boot_reversed (PyProof.Rows.callWith_type1 (cL (k D P s m H _ I h) λu S z=>?_) l rfl));obtain⟨v,g,n,w,Q⟩:=z;obtain⟨a,x,e,j,q⟩:=Q;subst e;cases w with
 |cons r B=>
  cases B;cases r;obtain⟨i,y,p,f⟩:=n.list j;refine call_reversed_list p.isList ?_;have A:Inv X P m g {S with heap:=S.heap.push (revObj a ((i.toArray.size:Int) - 1))}:=n.kept (t':=S.toks) λb o e=>Heap.get?_push_of_some _ e;have st:Heap.IsRevIter (S.heap.push (revObj a ((i.toArray.size:Int) - 1))) S.heap.objs.size a ((i.toArray.size:Int) - 1):=#[_,Heap.get?_push_size _ rfl,rfl,rfl];refine wpAny_pyIter_revIter st ?_;refine#[S.heap.objs.size,[S.heap.objs.size],_,_,g,rfl,A,xN a _ x.length,?_,λb d=>?_,q]
  .have e:((x.length:Int) - 1 - ((0:Nat):Int))=(i.toArray.size:Int) - 1:=by rw[y.length];simp
   show Heap.IsRevIter _ _ _ ((x.length:Int) - 1 - ((0:Nat):Int));rw[e];exact st
  .have e:b=S.heap.objs.size:=by simpa using d
   subst e;exact n.BX (Nat.le_refl _) (n.bE.fresh (Nat.le_refl _))
end
theorem oC {K:W.Frag} {a:Addr} {xs:List V} {g:TG} {t:TS} {D:Ends} {n:St} {H:Hp} (Pv:Nat->St->Hp->Prop) (d:Pv 0 n H) (c:∀i n H,i<=xs.length->Pv i n H->bp K H a xs) (j:∀i x n H,i < xs.length->xs[xs.length - 1 - i]?=some x->Pv i n H->g x n H λk b=>t (D.lp (Pv (i+1))) k b) (h:∀n H,Pv xs.length n H->D.nx n H):pT g t D n (En K a xs.length) H:=by
 refine#[λi m n H=>m=xs.length - i/\i<=xs.length/\Pv i n H,#[xs.length,by simp,Nat.zero_le _,d],?_];rintro i m n H ⟨rfl,o,p⟩;have q:=c i n H o p;by_cases f:i < xs.length
 .refine .inr #[#[f,xs,q,rfl],Pv (i+1),λr l L=>#[xs.length - (i+1),by omega,rfl,f,L],λx l y=>?_];obtain⟨e,y⟩:=y;subst e;exact j i x n l f (y xs q) p
 .have e:i=xs.length:=by omega
  subst e;exact .inl #[rfl,h n H p]
section
variable {X:Cx}
inductive qi (K:W.Frag) (x:V) (y:V) (H:Hp) (Q:VK):Prop
 |mk (a:_) (b:_) (xs:_) (h1_:x=.ref a) (h2_:y=.ref b) (h3_:bp K H a xs) (h4_:bp K H b []) (h5_:Q (.bl (!xs.isEmpty)) H):qi K x y H Q
theorem jy (o:X.A.units < cLine):lC X (compareOp .NotEq) (qi X.K):=by
 intro P s l H x y v u Q I R n h;obtain⟨a,b,k,rfl,rfl,g,d,q⟩:=h;cases R;cases n;obtain⟨i,t,p,f⟩:=I.list g;obtain⟨m,z,w,A⟩:=I.list d;cases z;cases k with
 |nil=>cases t;exact SeqAt.RcNeAt.lists (e:=λ_=>true) p.isList w.isList rfl o (λj c _=>absurd c (Nat.not_lt_zero j)) _ _ _ _ #[.bl _,H,I,rfl,q]
 |cons x r=>cases t;exact SeqAt.RcNeAt.lists_lengths p.isList w.isList (by simp) o _ _ _ _ #[.bl _,H,I,rfl,q]
inductive zL (K:W.Frag) (xs:List V) (H:Hp) (Q:VK):Prop
 |mk (x:_) (n:_) (t:_) (b:_) (h1_:xs=[x,.ty n]) (h2_:jt K H x t) (h3_:W.kitOne K t (.type n)=some b) (h4_:Q (.bl b) H):zL K xs H Q
theorem iX:lD X (.builtin "isinstance") (zL X.K):=by intro P s a H c U Q I r h;obtain⟨x,n,t,b,rfl,d,e,q⟩:=h;obtain⟨u,J,rfl,R,K⟩:=vals2 r;cases K;exact uC I R d e λT=>#[.bl b,H,I.tok T,rfl,q]
end
def gN (c:Addr) (Q:Str) (h:Heap):Prop:=h.CodeRec (.ref c) Q
def gO (f c:Addr) (Q:Str) (i:Arguments) (B:Expr) (C:Scope) (a:List (Str×Addr)) (h:Heap):Prop:=∃n P b,h.get? f=some (W.kla_obj n Q i B C a P c b)
theorem iY {c:Addr} {Q:Str} {h H:Heap} (x:gN c Q h) (k:∀o,h.get? c=some o->H.get? c=some o):gN c Q H:=by obtain⟨C,O,b,t,e,g,r⟩:=x;cases e;exact#[c,O,b,t,rfl,k _ g,r]
theorem tX {f c:Addr} {Q:Str} {i:Arguments} {B:Expr} {C:Scope} {a:List (Str×Addr)} {h H:Heap} (x:gO f c Q i B C a h) (k:∀o,h.get? f=some o->H.get? f=some o):gO f c Q i B C a H:=let ⟨n,p,t,e⟩:=x;⟨n,p,t,k _ e⟩
structure xO (X:Cx) (P:Addr):Prop where
 code:∃c,X.env.code=.ref c/\W.CodeHd X.base c P
 blt:∃bm ob,X.mg "__builtins__"=some (.ref bm)/\bm≠builtinsNs/\X.base.get? bm=some ob/\ob.cls=.type "module"/\ob.dict=some builtinsNs/\ob.data=.plain
structure cV (H:Hp) (P:Addr) (pos:Pos) (qual:Str) (ps:Array Value):Prop where
 at_:H P=some (.ke ps)
 ok:TriplesOk ps.toList
 known:codeAmong pos ps.toList=none\/∃c,codeAmong pos ps.toList=some (.ref c)/\H c=some (.ext (gN c qual))
def Eo (P:Addr) (pos:Pos) (q:Str) (i:Arguments) (B:Expr) (C:Scope) (a:List (Str×Addr)):TE:=λ_ H Q=>
 ∃p,cV H P pos q p/\∀f c h,(∀b o,H b=some o->b≠P->h b=some o)->H f=none->h f=some (.ext (gO f c q i B C a))->h c=some (.ext (gN c q))->(∃d,cV h P pos q d)->(∀b,h b≠none->H b≠none\/b=f\/b=c)->Q (.ref f) h
theorem sg {o:Obj} {h':Heap} {b:Addr} (e:h'.get? b=some o):∃s,h'.get? b=some {o with slots:=s}:=#[o.slots,e]
section
variable {X:Cx} {pins:List (Addr×Obj)} {σ:St} {H:Hp} {s:Shared}
theorem Inv.lam {P f c:Addr} {p t:Array Value} {h':Heap} {T:Nat} {φ ψ:Heap->Prop} (I:Inv X pins σ H s) (r:H P=some (.ke p)) (i:Heap.ExtBut P s.heap h') (m:s.heap.objs.size<=f) (k:(H c=some (.ext ψ))\/s.heap.objs.size<=c) (L:f≠c) (v:∃more,t=p++more) (B:h'.get? P=some (W.tabObj t)) (O:φ h'/\(∃o,h'.get? f=some o)/\∀h j:Heap,φ h->(∀o,h.get? f=some o->j.get? f=some o)->φ j) (g:ψ h'/\(∃o,h'.get? c=some o)/\∀h j:Heap,ψ h->(∀o,h.get? c=some o->j.get? c=some o)->ψ j):Inv X pins σ (upd (upd (upd H P (.ke t)) c (.ext ψ)) f (.ext φ)) {s with heap:=h',toks:=T}:=by
 have lt:∀{b o},H b=some o->b < s.heap.objs.size:=λe=>I.bE.lt e;have D:∀{b o},H b=some o->b≠f:=λe=>Nat.ne_of_lt (Nat.lt_of_lt_of_le (lt e) m);have w:P≠c:=by
  rcases k with k|k
  .exact eP r k (by intro z;cases z)
  .exact Nat.ne_of_lt (Nat.lt_of_lt_of_le (lt r) k)
 have K:∀b o,H b=some o->b≠P->upd (upd (upd H P (.ke t)) c (.ext ψ)) f (.ext φ) b=some o:=λb o e d=>by
  rw[ah (D e)];by_cases q:b=c
  .subst q;rcases k with k|k
   .rw[ab];rw[e] at k;exact k.symm
   .exact absurd (Nat.lt_of_lt_of_le (lt e) k) (Nat.lt_irrefl _)
  .rw[ah q,ah d];exact e
 have J:upd (upd (upd H P (.ke t)) c (.ext ψ)) f (.ext φ) P=some (.ke t):=by rw[ah (D r),ah w,ab]
 have G:∀b o,s.heap.get? b=some o->H b=none->upd (upd (upd H P (.ke t)) c (.ext ψ)) f (.ext φ) b=none:=λb o e n=>by
  have l:=Heap.lt_size e;rw[ah (Nat.ne_of_lt (Nat.lt_of_lt_of_le l m)),ah ?_,ah ?_]
  .exact n
  .intro z;rw[z,r] at n;cases n
  .intro z;rcases k with k|k
   .rw[z,k] at n;cases n
   .exact absurd (Nat.lt_of_lt_of_le l (z▸k)) (Nat.lt_irrefl _)
 have N:∀{b},H b=none->b≠P:=λn z=>by rw[z,r] at n;cases n
 refine I.un (Un.mk (λb o e n _ _=>i b o (N n) e) (λb o e n _ _=>sg (i b o (N n) e)) (λb o e n _=>G b o e n) (λb o e _=>?_) (λb x e=>K b _ e (eP e r (by intro z;cases z))) (λb o u e=>K b _ e (eP e r (by intro z;cases z))) (λb Q e=>?_)) ?_
 .by_cases q:b=P
  .exact#[_,q▸B]
  .exact#[o,i b o q e]
 .by_cases q:b=P
  .subst q;rw[r] at e;cases e;obtain⟨more,rfl⟩:=v;exact#[more,J]
  .exact#[[].toArray,by rw[Array.append_empty];exact K b _ e q]
 .intro a o e;by_cases C:a=f
  .subst C;rw[ab] at e;cases e;exact O
  .rw[ah C] at e;by_cases A:a=c
   .subst A;rw[ab] at e;cases e;exact g
   .rw[ah A] at e;by_cases y:a=P
    .subst y;rw[ab] at e;cases e;exact B
    .rw[ah y] at e;refine(I.bE a o e).mR (λb u d E=>i b u ?_ E) (λb E=>K b _ E (eP E r (by intro z;cases z))) λb x E=>K b _ E (eP E r (by intro z;cases z));rcases d with d|d
     .rw[d];exact y
     .exact eP d r (by intro z;cases z)
theorem Cb {P:Addr} {i:Arguments} {A:Expr} {S:Scope} {pos:Pos} {x:List (Str×Addr)} (C:xO X P) (L:closureFor S X.env=pure x) (Z:defaultsOf i X.env=([],[])):PE X (.Lambda i A S pos) (Eo P pos (X.env.qual++"<lambda>") i A S x):=by
 intro pins s σ H Q I h;obtain⟨p,T,h⟩:=h;obtain⟨cc,O,j⟩:=C.code;obtain⟨bm,ob,b1,b2,D,b4,b5,b6⟩:=C.blt;have u:s.heap.get? P=some (W.tabObj p):=I.bE P _ T.at_;have hg:s.heap.Ns mainGlobals X.mg:=I.mod.glob.keeps I.bk;have an:mainGlobals≠P:=λq=>by obtain⟨o,es,ep,e,j,_⟩:=hg;rw[q,u] at e;cases e;cases j
 have ac:bm≠P:=λq=>by have e:=I.bk _ _ D;rw[q,u] at e;cases e;cases b4
 have am:bm≠mainGlobals:=λq=>by obtain⟨o,es,ep,e,j,_⟩:=I.mod.glob;rw[q,e] at D;cases D;rw[j] at b6;cases b6
 have B:s.heap.BuiltinsAt X.mg P:=#[bm,ob,b1,b2,am,ac,I.bk _ _ D,b4,b5,b6];refine W.kla_eval Z ?_;rcases T.known with hn|⟨G,hk,K⟩
 .refine W.kla_makeFunction (mg:=X.mg) L I.ok.glob hg O (j.keeps I.bk) u T.ok hn an B λG J n tk c M f U al=>?_;have y:Inv X pins σ (upd (upd (upd H P (.ke (p++[rawInt pos.line,rawInt pos.col,.ref G].toArray))) G (.ext (gN G (X.env.qual++"<lambda>")))) n.objs.size (.ext (gO n.objs.size G (X.env.qual++"<lambda>") i A S x))) {s with heap:=n.push (W.kla_obj "<lambda>" (X.env.qual++"<lambda>") i A S x ((X.mg "__name__").getD .none) G J),toks:=tk}:=by
   refine I.lam T.at_ (λb o d e=>Heap.get?_push_of_some _ (c b o d e)) (Nat.le_of_lt (Nat.lt_of_le_of_lt M f)) (.inr M) (Nat.ne_of_gt f) #[_,rfl] (Heap.get?_push_of_some _ al) #[#[_,_,_,Heap.get?_push_size _ rfl],#[_,Heap.get?_push_size _ rfl],λh1 h2 a b=>tX a b] #[iY U λo e=>Heap.get?_push_of_some _ e,?_,λh1 h2 a b=>iY a b];obtain⟨c2,g,vs,t,e,ho,r⟩:=U;cases e;exact#[g,Heap.get?_push_of_some _ ho]
  have w:P≠G:=Nat.ne_of_lt (Nat.lt_of_lt_of_le (I.bE.lt T.at_) M);have R:P≠n.objs.size:=Nat.ne_of_lt (Nat.lt_of_lt_of_le (I.bE.lt T.at_) (Nat.le_of_lt (Nat.lt_of_le_of_lt M f)));have N:G≠n.objs.size:=Nat.ne_of_lt f;refine#[.ref n.objs.size,_,y,rfl,h n.objs.size G _ (λb o e d=>?_) (I.bE.fresh (Nat.le_of_lt (Nat.lt_of_le_of_lt M f))) ab (by rw[ah N,ab]) #[_,by rw[ah R,ah w,ab],?_,.inr #[G,?_,by rw[ah N,ab]]] λb d=>?_]
  .have l:=I.bE.lt e;rw[ah (Nat.ne_of_lt (Nat.lt_of_lt_of_le l (Nat.le_of_lt (Nat.lt_of_le_of_lt M f)))),ah (Nat.ne_of_lt (Nat.lt_of_lt_of_le l M)),ah d];exact e
  .rw[Array.toList_append];exact TriplesOk_snoc _ _ _ _ T.ok
  .rw[Array.toList_append];exact codeAmong_snoc _ T.ok hn
  .by_cases k:b=n.objs.size
   .exact .inr (.inl k)
   .by_cases v:b=G
    .exact .inr (.inr v)
    .rw[ah k,ah v] at d;by_cases m:b=P
     .exact .inl (by rw[m,T.at_];simp)
     .rw[ah m] at d;exact .inl d
 .refine W.kla_makeFunctionHit (mg:=X.mg) L I.ok.glob hg O (j.keeps I.bk) u T.ok hk B λJ n tk c E=>?_;have g:=I.bE G _ K;have Y:G < s.heap.objs.size:=I.bE.lt K;have y:Inv X pins σ (upd (upd (upd H P (.ke p)) G (.ext (gN G (X.env.qual++"<lambda>")))) n.objs.size (.ext (gO n.objs.size G (X.env.qual++"<lambda>") i A S x))) {s with heap:=n.push (W.kla_obj "<lambda>" (X.env.qual++"<lambda>") i A S x ((X.mg "__name__").getD .none) G J),toks:=tk}:=by
   refine I.lam T.at_ (λb o d e=>Heap.get?_push_of_some _ (c b o e)) E (.inl K) (Nat.ne_of_gt (Nat.lt_of_lt_of_le Y E)) #[[].toArray,by rw[Array.append_empty]] (Heap.get?_push_of_some _ (c _ _ u)) #[#[_,_,_,Heap.get?_push_size _ rfl],#[_,Heap.get?_push_size _ rfl],λh1 h2 a b=>tX a b] #[iY g.1 λo e=>Heap.get?_push_of_some _ (c _ _ e),?_,λh1 h2 a b=>iY a b];obtain⟨o,ho⟩:=g.2.1;exact#[o,Heap.get?_push_of_some _ (c _ _ ho)]
  have w:P≠G:=eP T.at_ K (by intro z;cases z);have R:P≠n.objs.size:=Nat.ne_of_lt (Nat.lt_of_lt_of_le (I.bE.lt T.at_) E);have N:G≠n.objs.size:=Nat.ne_of_lt (Nat.lt_of_lt_of_le Y E);refine#[.ref n.objs.size,_,y,rfl,h n.objs.size G _ (λb o e d=>?_) (I.bE.fresh E) ab (by rw[ah N,ab]) #[p,by rw[ah R,ah w,ab],T.ok,.inr #[G,hk,by rw[ah N,ab]]] λb d=>?_]
  .have l:=I.bE.lt e;rw[ah (Nat.ne_of_lt (Nat.lt_of_lt_of_le l E))];by_cases q:b=G
   .subst q;rw[ab];rw[e] at K;exact K.symm
   .rw[ah q,ah d];exact e
  .by_cases k:b=n.objs.size
   .exact .inr (.inl k)
   .by_cases v:b=G
    .exact .inr (.inr v)
    .rw[ah k,ah v] at d;by_cases m:b=P
     .exact .inl (by rw[m,T.at_];simp)
     .rw[ah m] at d;exact .inl d
end
def xP (X:Cx) (N:List Str) (qual:Str) (scope:Scope) (f:Addr) (cd:Value) (cl:List (Str×Addr)) (s:Shared) (H:Hp):Cx where
 prog:=X.prog
 w:=X.w
 K:=X.K
 mg:=X.mg
 base:=X.base
 A:=X.A.deeper (W.envX qual scope s.heap.objs.size f cd cl)
 N:=N
 s₀:=s
 H₀:=H
 env:=W.envX qual scope s.heap.objs.size f cd cl
 outer:=X.stack
 stack:=W.envX qual scope s.heap.objs.size f cd cl :: X.stack
 ex:=[]
 calm:=true
 fn:=λ_=>false
 pn:=[]
 xe:=λ_ _=>False
structure qj (ps:List Str) (scope:Scope) (cl:List (Str×Addr)):Prop where
 kind:scope.kind=.function
 co:scope.isCoroutine=false
 gen:scope.isGenerator=false
 nd:ps.Nodup
 par:∀x∈ps,scope.names.lookup x=some .local
 jz:∀y∈scope.names,y.2≠.cell
 free:∀x,scope.names.lookup x=some .free->∃c,cl.lookup x=some c
 inj:∀x y c,cl.lookup x=some c->cl.lookup y=some c->x=y
theorem lO {P:List Str} {us:List Value} {i:Nat} {x:Str} {u:Value} (N:P.Nodup) (c:P[i]?=some x) (H:us[i]?=some u):(P.zip us).reverse.lookup x=some u:=by
 have a:(x,u)∈P.zip us:=by rw[List.mem_iff_getElem?];exact#[i,by rw[List.getElem?_zip_eq_some];exact#[c,H]]
 have k:∀(l:List (Str×Value)),(∀v,(x,v)∈l->v=u)->(x,u)∈l->l.lookup x=some u:=by
  intro l;induction l with
  |nil=>intro _ h;simp at h
  |cons p r I=>
   intro h n;obtain⟨y,v⟩:=p;by_cases q:x=y
   .subst q;rw[List.lookup_cons_self,h v (List.mem_cons_self)]
   .have b:(x==y)=false:=by simpa using q
    rw[List.lookup_cons,b];refine I (λv g=>h v (List.mem_cons_of_mem _ g)) ?_;rcases List.mem_cons.mp n with e|e
    .cases e;exact absurd rfl q
    .exact e
 refine k _ (λv g=>?_) (List.mem_reverse.mpr a);have d:=List.mem_reverse.mp g;obtain⟨j,D⟩:=List.mem_iff_getElem?.mp d;rw[List.getElem?_zip_eq_some] at D;have e:=lj N c D.1;subst e;rw[H] at D;exact(Option.some.inj D.2).symm
section
variable {X:Cx} {pins:List (Addr×Obj)} {σ:St} {H:Hp} {s:Shared}
theorem xQ {k:Nat} {f c:Addr} {d:Str} {A:Arguments} {B:Expr} {C:Scope} {l:List (Str×Addr)} {P N:List Str} {us:List Value} {vs:List V} {Q:VK} {σ₀:St} (I:Inv X pins σ H s) (U:X.calm=true) (hr:dG (k+1) X.A) (S:qj P C l) (hf:H f=some (.ext (gO f c d A B C l))) (hc:H c=some (.ext (gN c d))) (Y:∀x a,l.lookup x=some a->H a=none/\∃v,s.heap.IsCell a v) (hb:∀(name:Str) (pm K:Value),bindArgs (W.kla_fn name d A B C l pm (.ref c) K) #[us,[]]=pure (P.zip us)) (rv:Vals vs us) (m:σ₀.length=N.length) (al:∀(i:Nat) (x:Str) (v:V),N[i]?=some x->σ₀[i]?=some (some v)->(∃j:Nat,P[j]?=some x/\vs[j]?=some v)\/(C.names.lookup x=some .free/\∃a u,l.lookup x=some a/\RelV v u/\s.heap.IsCell a (some u))) (M:dG k (X.A.deeper (W.envX d C s.heap.objs.size f (.ref c) l))->∃t,PE (xP X N d C f (.ref c) l s H) B t/\t σ₀ H Q):wpAny (model X.prog X.w) X.A (call (.ref f) us) (EP X pins σ Q) X.xe s:=by
 obtain⟨⟨name,pm,K,g⟩,_⟩:=(show cv X.prog X.w H s.heap f (.ext (gO f c d A B C l)) from I.bE f _ hf);obtain⟨D,_⟩:=(show cv X.prog X.w H s.heap c (.ext (gN c d)) from I.bE c _ hc);obtain⟨t,ht,q⟩:=M (hr.deeper _);refine wpAny_call (codeAny_mono (R:=λr w=>∃u,r=.ok (.ret u)/\CE X.stack X.prog X.w H s Q u w) ?_ λr w hq=>?_)
 .refine W.kla_callFunE hr.depth g rfl S.co S.gen rfl D ?_;rw[hb _ _ _];refine wpAny_pure (wpAny_newFunctionEnv S.jz (λy hy=>S.par y.1 (List.of_mem_zip hy).1) (λE ac Z=>#[(I.nolimit).fresh _ Z,?_]) S.kind);show codeAny _ _ (.expr B (W.envX d C s.heap.objs.size f (.ref c) l)) _ _;have O:∀b o,s.heap.get? b=some o->E.get? b=some o:=λb o e=>Z.extBut b o (Nat.ne_of_lt (Heap.lt_size e)) (Heap.get?_push_of_some _ e);have T:∀b:Addr,b∉(xP X N d C f (.ref c) l s H).ex:=λb z=>absurd (show b∈([]:List Addr) from z) (by simp);have J:Inv (xP X N d C f (.ref c) l s H) [] σ₀ H {s with heap:=E,toks:=s.toks+(P.zip us).length}:=by
   refine#[#[I.mod,S.kind,rfl,rfl,Nat.le_refl _,S.inj,λx h=>?_,λx a z=>absurd z Bool.false_ne_true,λ_=>I.ok.hd U,Around.frames_deeper I.ok.frames,.inr #[rfl,rfl],λb z=>absurd z (T b),I.bs,Nat.le_trans I.ok.uv I.sz,λb _ _=>T b,λb z=>absurd z (T b),I.stack,I.nZ],rfl,I.bare,Un.kept O,#[_,ac,λi x v h1 h2 h3=>?_],λx a e=>?_,I.bE.fresh (Nat.le_refl _),λx a e=>(Y x a e).1,λp hp=>absurd (show p∈([]:List (Addr×Obj)) from hp) (by simp),I.bE.kept O,m]
   .have h:C.names.lookup x=some .cell\/C.names.lookup x=some .free:=h;rcases h with h|h
    .exact absurd rfl (S.jz _ (PySem.mem_of_lookup h))
    .exact S.free x h
   .rcases al i x v h1 h2 with⟨j,hj,hv⟩|⟨h,a,u,ha,n,L⟩
    .obtain⟨u,hu,n⟩:=rv.get hv;exact#[u,n,.inl #[S.par x (List.mem_of_getElem? hj),lO S.nd hj hu]]
    .obtain⟨o,g,hd⟩:=L;exact#[u,n,.inr #[.inr h,a,ha,o,O _ _ g,hd]]
   .obtain⟨_,v,o,g,hd⟩:=Y x a e;exact#[v,o,O _ _ g,hd]
  refine W.kla_codeExpr (wpAny_mono (ht [] _ σ₀ H Q J q) (λu w hu=>?_) λe w z=>False.elim z);obtain⟨v,H',G,n,q'⟩:=hu;exact#[u,rfl,v,H',G.os,G.bare,G.base,G.bE,n,q']
 .obtain⟨u,rfl,hq⟩:=hq;exact I.after hq
inductive xR (i:Nat) (t:TA) (r:Addr->List V->Hp->VK->Prop) (σ:St) (H:Hp) (Q:VK):Prop
 |mk (f:_) (h1_:σ[i]?=some (some (.ref f))) (h2_:(∃c qual params body scope cl,H f=some (.ext (gO f c qual params body scope cl)))) (h3_:t σ H λvs H1=>r f vs H1 Q):xR i t r σ H Q
theorem qk {i:Nat} {x:Str} {p pos:Pos} {e:Expr} {es:List Expr} {t:TA} {r:Addr->List V->Hp->VK->Prop} (a:PE X (.Name x p) (af i)) (q:PA X (e :: es) t) (k:∀(f:Addr) (pins:List (Addr×Obj)) (σ:St) (H:Hp) (s:Shared) (vs:List V) (us:List Value) (Q:VK),Inv X pins σ H s->Vals vs us->r f vs H Q->wpAny (model X.prog X.w) X.A (call (.ref f) us) (EP X pins σ Q) X.xe s) (m:∀(f:Addr) (vs:List V) (H:Hp) (Q:VK),r f vs H Q->∃c G N B C L,H f=some (.ext (gO f c G N B C L))) (y:starEach (e :: es) X.env=(false,eval e X.env) :: starEach es X.env:=by rfl) (n:(backTo pos (starEach es X.env)).any (·.1)=false:=by rfl):
  PE X (.Call (.Name x p) (e :: es) [] pos) (xR i t r):=by
 intro pins s σ H Q I h;obtain⟨f,o,⟨c,G,N,B,C,L,O⟩,h⟩:=h;refine wpAny_Call_Name_kw (cL (a pins s σ H (λv A=>v=.ref f/\A=H) I #[.ref f,o,rfl,rfl]) λu S j=>?_);obtain⟨v,g,D,R,rfl,rfl⟩:=j;cases R;have Y:∀{M:St} {A:Hp} {w:Shared},Inv X pins M A w->(∃c G N B C L,A f=some (.ext (gO f c G N B C L)))->W.FnAt f w.heap:=λ{M A w} J ⟨c,G,N,B,C,L,e⟩=>by obtain⟨⟨U,P,T,z⟩,_⟩:=(show cv X.prog X.w A w.heap f (.ext (gO f c G N B C L)) from J.bE f _ e);exact#[_,_,_,_,z]
 refine W.callWith_F (Y D #[c,G,N,B,C,L,O]) (cL (q pos pins S σ g _ D h) λus E ⟨vs,b,K,l,d⟩=>#[Y K (m f vs b Q d),?_]) y n;exact k f pins σ b E vs us Q K l d
end
theorem Cc {CX:xm} {P:Program} {w:World} {K:W.Frag} {mg:Str->Option Value} {base:Heap} {k:Nat} {f:Addr} {name g:Str} {i:Arguments} {B:List Stmt} {C:Scope} {dV kV doc pm c l oc:Value} {m od:Option Addr} {L:Array (Option Value)} {N p:List Str} (lk:K.lookup f=some #[oc,od,.func (W.fnOf name g i B C dV kV doc pm m c l),L]) (X:W.codeIn K c g=true) (S:a9 N p C) {A:Around} {O:List Env} {s:Shared} {H:Hp} {D:Args} {us:List Value} {vs:List V} {Q:VK} {E:XK} (d:dG (k+1) A) (U:om P w K mg base A O s H) (hb:BindsTo s (W.fnOf name g i B C dV kV doc pm m c l) D (p.zip us)) (r:Vals vs us) (hl:vs.length=p.length) (M:dG k (A.deeper (envOfC g C s.heap.objs.size f c))->∃t,n8 (fw CX P w K mg base N g C f c A O s H E) B t/\t (Ends.of Q) (start N vs) H):codeAny (model P w) A (.call (.ref f) D) (CR CX O P w H s Q E) s:=by
 have G:K.In s.heap:=U.mod.BP.keeps λb o e=>(U.bs b o e).1;have Z:s.heap.NoLimit:=U.mod.nolimit.keeps λb o e=>(U.bs b o e).1;have Y:∀y∈p.zip us,C.names.lookup y.1=some .local\/(C.names.lookup y.1=some .cell/\((cellsFrom (s.heap.objs.size+1) C.names []).lookup y.1).isSome=true):=λ⟨n,v⟩ hy=>by
  rcases S.par n (List.of_mem_zip hy).1 with q|q
  .exact .inl q
  .exact .inr #[q,W.cellsFrom_some _ _ _ (.inl q)]
 refine codeAny_call_function d.depth (G _ _ lk) rfl S.co S.gen rfl (W.codeRec_of G X) (hb _ _ _ _ ?_);refine wpAny_newFunctionEnv_cells S.kind Y λac he s1 x=>?_;subst he;refine#[Z.keeps x.toInCall.keep,codeAny_func ?_];obtain⟨t,ht,hq⟩:=M (d.deeper _);have I:Inv (fw CX P w K mg base N g C f c A O s H E) [] (start N vs) H s1:=nE S d.hd U hl r x;refine wpAny_mono (ht [] s1 (start N vs) H _ I hq) (λfl z j=>?_) λe z j=>j;have T:∀{a:St} {h:Hp} {v:V} {u:Value},Inv (fw CX P w K mg base N g C f c A O s H E) [] a h z->RelV v u->Q v h->CE O P w H s Q u z:=λ{a h v u} J R q=>#[v,h,J.os,J.bare,J.base,J.bE,R,q];cases fl with
 |ret u=>obtain⟨v,a,h,J,R,q⟩:=j;exact T J R q
 |next=>obtain⟨a,h,J,q⟩:=j;exact T (v:=V.dE) (u:=Value.none) J rfl q
 |brk=>obtain⟨_,_,_,q⟩:=j;exact False.elim q
 |cont=>obtain⟨_,_,_,q⟩:=j;exact False.elim q
section
variable {X:Cx} {f:Addr} {x:Str} {p pos:Pos} {e:Expr} {es:List Expr} {t:TA}
theorem xS {sp:St->List V->Hp->VK->Prop} (C:Gl X x) (c:X.mg x=some (.ref f)) (a:W.keepIn X.K (.ref f)=true) (run:∀(pins:List (Addr×Obj)) (σ:St) (H:Hp) (s:Shared) (vs:List V) (us:List Value) (Q:VK),Inv X pins σ H s->Vals vs us->sp σ vs H Q->codeAny (model X.prog X.w) X.A (.call (.ref f) #[us,[]]) (CR cM X.stack X.prog X.w H s Q E0) s) (b:PA X (e :: es) t) (o:(x==("__debug__":Str))=false:=by decide) (d:starEach (e :: es) X.env=(false,eval e X.env) :: starEach es X.env:=by rfl) (n:(backTo pos (starEach es X.env)).any (·.1)=false:=by rfl):
  PE X (.Call (.Name x p) (e :: es) [] pos) (λσ H Q=>t σ H λvs g=>sp σ vs g Q):=by
 intro pins s σ H Q I h;refine wpAny_Call_Name_kw (n9 I C c ?_ o);refine W.callWith_K (h₀:=X.base) I.ok.mod.BP a (cL (b pos pins s σ H _ I h) λus S ⟨vs,g,i,r,q⟩=>#[i.j3,?_]) d n;refine wpAny_call (codeAny_mono (run pins σ g S vs us Q i r q) λr w j=>?_);cases r with
 |error e=>exact False.elim j
 |ok k=>
  cases k with
  |ret u=>exact i.after j
  |next=>exact False.elim j
  |brk=>exact False.elim j
  |cont=>exact False.elim j
end
section
variable {P:Program} {w:World} {K:W.Frag} {mg:Str->Option Value} {base:Heap}
theorem gj.run {x i:Str} {st:Stmt} {f:Addr} {v:FuncData} {N p:List Str} {k:Nat} (F:gj K x i st f v) (S:a9 N p (ao st)) {A:Around} {O:List Env} {s:Shared} {H:Hp} {us:List Value} {vs:List V} {Q:VK} (a:dG (k+1) A) (I:om P w K mg base A O s H) (d:Binds K v p []) (r:Vals vs us) (c:vs.length=p.length) (M:∀C:Value,dG k (A.deeper (envOfC i (ao st) s.heap.objs.size f C))->∃t,n8 (fw cM P w K mg base N i (ao st) f C A O s H E0).mV (bx st) t/\t (Ends.of Q) (start N vs) H):codeAny (model P w) A (.call (.ref f) #[us,[]]) (CR cM O P w H s Q E0) s:=by
 obtain⟨g,u,kV,doc,j,m,C,l,L,rfl,n,y⟩:=F.ex;have G:K.In s.heap:=I.mod.BP.keeps λb o e=>(I.bs b o e).1;have D:us.length=p.length:=by rw[<-r.length];exact c
 have B:=d s us G (by rw[List.append_nil];exact D);rw[List.append_nil] at B;refine Cc n y S a I B r c λz=>?_;obtain⟨t,h,q⟩:=M C z;exact#[t,h.mV,q]
end
def fg (X:Cx) (N:List Str) (scope:Scope) (cl:List (Str×Addr)) (C:Addr) (fp:List Addr) (s:Shared) (H:Hp):Cx where
 prog:=X.prog
 w:=X.w
 K:=X.K
 mg:=X.mg
 base:=X.base
 A:=X.A
 N:=N
 s₀:=s
 H₀:=H
 env:=compEnvC scope cl C X.env
 outer:=X.stack
 stack:=X.stack
 ex:=fp
 calm:=true
 fn:=λ_=>false
 pn:=[]
 xe:=λ_ _=>False
structure cz (X:Cx) (x:Str) (ys:List Str) (sl:List Nat) (scope:Scope) (cl:List (Str×Addr)):Prop where
 kind:scope.kind=.function
 jz:∀y∈scope.names,y.2≠.cell
 names:∀y∈scope.names,y.2=.local->scope.names.lookup y.1=some .local
 var:scope.names.lookup x=some .local
 nd:(x :: ys).Nodup
 Cd:closureFor scope X.env=pure cl
 has:∀y,((relabel scope X.env).names.lookup y=some .cell\/(relabel scope X.env).names.lookup y=some .free)->∃c,cl.lookup y=some c
 sub:∀y c,cl.lookup y=some c->X.env.cells.lookup y=some c
 slots:∀(i:Nat) (y:Str),ys[i]?=some y->∃j,sl[i]?=some j/\X.N[j]?=some y/\De X.env.scope y/\((X.env.kindOf y=some .cell\/X.env.kindOf y=some .free))/\((relabel scope X.env).names.lookup y=some .cell\/(relabel scope X.env).names.lookup y=some .free)
 len:ys.length=sl.length
def lP (w:TI) (t:TE) (s:List Nat):TE:=λa H Q=>w a H λJ g=>∀D,g D=none->∃W:Nat->Nat->List V->Hp->Prop,(∃m,W 0 m [] (upd g D (.lst [])))/\
 ∀i m y H,W i m y H->H D=some (.lst y)/\((J.stop i H/\Q (.ref D) H)\/(J.go i H/\y.length < sizeLine/\∀x h,J.Ee i H x h->t (some x :: s.map (λj=>a.getD j none)) h λv b=>b D=some (.lst y)/\∃M,M < m/\W (i+1) M (y++[v]) (upd b D (.lst (y++[v])))))
section
variable {X:Cx}
structure Apart (X:Cx) (pins:List (Addr×Obj)) (H:Hp) (C:Addr):Prop where
 free:H C=none
 loc:C≠X.env.locals
 big:X.s₀.heap.objs.size<=C
 cell:∀a c,X.env.cells.lookup a=some c->c≠C
 pin:∀p∈X.pn++pins,p.1≠C
theorem ql {R M:Expr} {x:Str} {px:Pos} {E:Scope} {K:List (Str×Addr)} {ax a4:Pos} {ys:List Str} {sl:List Nat} {wi:TI} {te:TE} {use:Option (Value->Sem Unit)} {Q':Value->Shared->Prop} (S:cz X x ys sl E K) (aQ:X.calm=true) (hi:PI X (.Name x px) M wi) (ht:∀C L s H,PE (fg X (x :: ys) E K C L s H) R te) (hs:∀v,foldedSetIterable M X.env v=pure v) {P:List (Addr×Obj)} {s:Shared} {B:St} {H:Hp} {Q:VK} (I:Inv X P B H s) (h:lP wi te sl B H Q) (bb:∀(D C:Addr) (s':Shared) (A:Hp) (m:Str->Option Value),Inv X P B A s'->s'.heap.Ns C m->Apart X P A C->Q (.ref D) A->compPost (model X.prog X.w) X.A X.xe use Q' (.ref D) C (.ok .next) s'):wpAny (model X.prog X.w) X.A (comprehension (.ListComp R [#[.Name x px,M,[],0]] E ax) E X.env a4 (newList []) false (eval M X.env) use) Q' X.xe s:=by
 refine wpAny_comprehension_free (use:=use) rfl hs S.Cd S.kind S.names (cL (hi P s B H _ I h) λxv s1 l=>cL l λbi f t=>?_);obtain⟨it,L,tn,J,H2,rfl,I2,T,aJ,f2,R2⟩:=t;refine wpAny_newObj_type (wpAny_newFunctionEnv S.jz (by intro y hy;simp at hy) (λU aI aC=>?_) S.kind);dsimp only at aI aC ⊢;have k:Inv X P B (upd H2 f.heap.objs.size (.lst [])) {f with heap:=f.heap.push {cls:=.type "list",data:=.seq ([]:List Value).toArray},toks:=f.toks}:=I2.Du .nil (Nat.zero_le _);obtain⟨W,⟨m0,w0⟩,step⟩:=R2 f.heap.objs.size I2.fresh;generalize hD:f.heap.objs.size=D at*;generalize aT:upd H2 D (.lst [])=w at*;generalize aF:f.heap.push {cls:=.type "list",data:=.seq ([]:List Value).toArray}=G at*;have hC:G.objs.size=D+1:=by rw[<-aF,Heap.size_push,hD]
 have aS:∀b o,f.heap.get? b=some o->G.get? b=some o:=λb o e=>by rw[<-aF];exact Heap.get?_push_of_some _ e
 have O:∀b o,G.get? b=some o->U.get? b=some o:=λb o e=>aC.extBut b o (Nat.ne_of_lt (Heap.lt_size e)) (Heap.get?_push_of_some _ e);have ap:∀b∈L,b < D:=λb g=>by obtain⟨o,e,_⟩:=T.obj _ _ aJ b g;rw[<-hD];exact Heap.lt_size e
 have al:∀{b:Addr},b < D->b < G.objs.size:=λ{b} h=>by rw[hC];exact Nat.lt_succ_of_lt h
 have N:∀b∈L,pS X P w b:=λb g=>#[by rw[<-aT,ah (Nat.ne_of_lt (ap b g))];exact(f2 b g).1,(f2 b g).2];have Z:∀y c,X.env.cells.lookup y=some c->c < D:=λy c e=>by obtain⟨v,q⟩:=I2.cell y c e;rw[<-hD];exact q.lt
 have aR:X.env.locals < D:=by rw[<-hD];exact I2.lt
 have J4:Inv (fg X (x :: ys) E K G.objs.size L {f with heap:=G,toks:=f.toks} w) [] (none :: sl.map (λj=>B.getD j none)) w {f with heap:=U,toks:=f.toks+([]:List (Str×Value)).length}:=by
  refine#[#[k.mod,S.kind,k.ok.glob,k.ok.blt,Nat.le_refl _,λa b c l t=>k.ok.inj a b c (S.sub a c l) (S.sub b c t),S.has,λa c z=>absurd z Bool.false_ne_true,λ_=>k.ok.hd aQ,k.ok.frames,.inl rfl,λb g=>#[?_,λa c e=>?_],k.bs,Nat.le_trans k.ok.uv k.sz,λb o e g=>?_,λb g z=>?_,k.stack,k.nZ],rfl,k.bare,Un.kept O,#[_,aI,λi y v l t G=>?_],λa c e=>?_,?_,λa c e=>k.gB a c (S.sub a c e),λp hp=>absurd (show p∈([]:List (Addr×Obj)) from hp) (by simp),k.bE.kept O,?_]
  .exact Nat.ne_of_lt (al (ap b g))
  .exact(N b g).2.2.2.2.1 a c (S.sub a c e)
  .rcases (N b g).2.2.2.1 with z|z
   .exact k.ok.jZ b o e z
   .exact absurd (Nat.lt_of_lt_of_le (Heap.lt_size e) (Nat.le_trans k.ok.uv z)) (Nat.lt_irrefl _)
  .rcases List.mem_cons.mp (k.lh b z) with e|e
   .exact(N b g).2.1 e
   .exact(N b g).2.2.1 e
  .cases i with
   |zero=>exact absurd t (by simp)
   |succ i=>
    have l:ys[i]?=some y:=l;obtain⟨j,hj,hN,hv,hk,hr⟩:=S.slots i y l;have t:(sl.map (λj=>B.getD j none))[i]?=some (some v):=t;rw[List.getElem?_map,hj] at t;have e2:B.getD j none=some v:=Option.some.inj t;have e3:B[j]?=some (some v):=by
     rw[List.getD_eq_getElem?_getD] at e2;cases q:B[j]? with
     |none=>rw[q] at e2;cases e2
     |some o=>rw[q] at e2;rw[show o=some v from e2]
    obtain⟨m,bd,aW⟩:=k.loc;obtain⟨u,ru,lk⟩:=aW j y v hN e3 hv;refine#[u,ru,.inr #[hr,?_]];rcases lk with⟨lk,_⟩|⟨_,c,hc,o,ho,hd⟩
    .rcases hk with hk|hk <;> (rw[lk] at hk;cases hk)
    .obtain⟨c',aL⟩:=S.has y hr;have e:=S.sub y c' aL;rw[hc] at e;cases e;exact#[c,aL,o,O _ _ ho,hd]
  .obtain⟨v,o,ho,hd⟩:=k.cell a c (S.sub a c e);exact#[v,o,O _ _ ho,hd]
  .show w G.objs.size=none;exact k.bE.fresh (Nat.le_refl _)
  .show (none :: sl.map (λj=>B.getD j none)).length=(x :: ys).length;rw[List.length_cons,List.length_cons,List.length_map,S.len]
 have aK:tn 0 U:=T.keep _ _ _ aJ λb _ o e=>O b o (aS b o e);have Y:∀{A:Hp},(∀b∈L,A b=none)->∀b∈L,pS (fg X (x :: ys) E K G.objs.size L {f with heap:=G,toks:=f.toks} w) [] A b:=λ{A} hn b g=>by
  refine#[hn b g,?_,λz=>?_,.inl g,λa c e=>(N b g).2.2.2.2.1 a c (S.sub a c e),λp hp=>absurd (show p∈([]:List (Addr×Obj)) from hp) (by simp)]
  .exact Nat.ne_of_lt (al (ap b g))
  .rcases List.mem_cons.mp (k.lh b z) with e|e
   .exact(N b g).2.1 e
   .exact(N b g).2.2.1 e
 have hg:PG (fg X (x :: ys) E K G.objs.size L {f with heap:=G,toks:=f.toks} w) (.Name x px) (az 0):=dg (i:=0) S.nd rfl (.inl (lookup_relabel_local S.var)) (.inr (lookup_relabel_local S.var));have a7:PE (fg X (x :: ys) E K G.objs.size L {f with heap:=G,toks:=f.toks} w) R te:=ht _ _ _ _;have aY:∀{ac:St} {A:Hp} {s':Shared},Inv (fg X (x :: ys) E K G.objs.size L {f with heap:=G,toks:=f.toks} w) [] ac A s'->Q (.ref D) A->compPost (model X.prog X.w) X.A X.xe use Q' (.ref D) G.objs.size (.ok .next) s':=λ{ac A s'} J' q=>by
  have a6:A G.objs.size=none:=J'.free;obtain⟨m,a1,_⟩:=J'.loc;have J1:Inv X P B A s':=k.Dg (s':=s') (ch:=L) J'.os J'.base J'.bE J'.bare λb g=>#[(N b g).2.2.2.1,(N b g).2.1,(N b g).2.2.2.2.1,(N b g).2.2.2.2.2];refine bb D G.objs.size s' A m J1 a1 #[a6,Nat.ne_of_gt (al aR),k.sz,λa c e z=>?_,λp hp z=>?_] q
  .exact absurd (al (Z a c e)) (by rw[z];exact Nat.lt_irrefl _)
  .have l:p.1 < G.objs.size:=Heap.lt_size (k.pin p hp).1;rw[z] at l;exact absurd l (Nat.lt_irrefl _)
 have aA:codeAny (model X.prog X.w) X.A (.compLoop (.ListComp R [#[.Name x px,M,[],0]] E ax) 0 (.ref it) (.ref D) (compEnvC E K G.objs.size X.env)) (compPost (model X.prog X.w) X.A X.xe use Q' (.ref D) G.objs.size) {f with heap:=U,toks:=f.toks+([]:List (Str×Value)).length}:=by
  refine codeAny_loop rfl (λn s'=>∃i o A zs,Inv (fg X (x :: ys) E K G.objs.size L {f with heap:=G,toks:=f.toks} w) [] (o :: sl.map (λj=>B.getD j none)) A s'/\tn i s'.heap/\(∀b∈L,A b=none)/\W i n zs A) (λn s' hI=>?_) m0 ⟨0,none,w,[],J4,aK,λb g=>(N b g).1,w0⟩;obtain⟨i,o,A,zs,J5,aM,aH,w5⟩:=hI;show wpAny _ _ ((compTurn (.ListComp R [#[.Name x px,M,[],0]] E ax) 0 (.ref it) (.ref D) (compEnvC E K G.objs.size X.env)).onRaise (λx=>do noteFrame x (compEnvC E K G.objs.size X.env);theTreesLotGoes x)) _ _ s';refine wpAny_noted ?_;rw[compTurn_list1];refine wpAny_bind (wpAny_standAt (wpAny_bind ?_));obtain⟨bf,⟨a0,q⟩|⟨go,hz,aP⟩⟩:=step i n zs A w5
  .refine cL (T.done (fg X (x :: ys) E K G.objs.size L {f with heap:=G,toks:=f.toks} w) rfl rfl rfl rfl i [] s' _ A _ J5 (Y aH) aM a0) λr s6 zq=>?_;obtain⟨hr,J6⟩:=zq;subst hr;exact wpAny_pure (aY J6 q)
  .refine cL (T.item (fg X (x :: ys) E K G.objs.size L {f with heap:=G,toks:=f.toks} w) rfl rfl rfl rfl i [] s' _ A _ J5 (Y aH) aM go) λr s6 zq=>?_;obtain⟨u,hr,h6⟩:=zq;subst hr;refine wpAny_bind (cL h6 λ_ s7 zq=>?_);obtain⟨xv,H7,J7,r7,y7,as,a2⟩:=zq;have a8:=J7.pinned (Y a2) (T.obj _ _ as);refine wpAny_bind (wpAny_mono (hg _ s7 _ H7 xv u (λac am=>ac=some xv :: sl.map (λj=>B.getD j none)/\am=H7) a8 r7 #[rfl,rfl]) (λ_ s8 h8=>?_) λ_ _ z=>False.elim z);obtain⟨bg,H8,J8,rfl,rfl⟩:=h8;refine wpAny_bind (wpAny_bind (wpAny_mono (a7 _ s8 _ H8 _ J8 (aP xv H8 y7)) (λv s9 h9=>?_) λ_ _ z=>False.elim z));obtain⟨y,H9,J9,r9,aO,m',a5,w9⟩:=h9;refine wpAny_bind (wpAny_mono (bV (X:=(fg X (x :: ys) E K G.objs.size L {f with heap:=G,toks:=f.toks} w)) _ s9 _ H9 (.ref D) [y] (.ref D) [v] (λ_ am=>am=upd H9 D (.lst (zs++[y]))) J9 rfl (.cons r9 .nil) #[D,zs,y,rfl,rfl,aO,hz,rfl]) (λ_ be a3=>?_) λ_ _ z=>False.elim z);obtain⟨_,bk,an,_,rfl⟩:=a3;refine wpAny_pure (wpAny_pure #[rfl,m',a5,i+1,_,_,zs++[y],an.iR,T.keep _ _ _ as λb g ob e=>(an.pin (b,ob) (List.mem_append_right _ (List.mem_append_right _ (fZ g e)))).1,λb g=>?_,w9]);obtain⟨ob,e,d⟩:=T.obj _ _ as b g;exact(an.pin (b,ob) (List.mem_append_right _ (List.mem_append_right _ (fZ g e)))).2.1
 exact codeAny_compStart_list aA (T.self _ 0 _ _ _ aK aA)
theorem kB {R i:Expr} {x:Str} {P:Pos} {g:Scope} {k:List (Str×Addr)} {y:Pos} {ys:List Str} {p:List Nat} {z:TI} {t:TE} (S:cz X x ys p g k) (U:X.calm=true) (f:PI X (.Name x P) i z) (l:∀C r s H,PE (fg X (x :: ys) g k C r s H) R t) (j:∀v,foldedSetIterable i X.env v=pure v:=by intro _;rfl):
  PE X (.ListComp R [⟨.Name x P,i,[],0⟩] g y) (lP z t p):=by
 intro u s a H Q I h;rw[eval_ListComp];refine ql (use:=none) S U f l j I h λD C w c m J B A q=>#[m,B,λn E=>#[.ref D,c,?_,rfl,q]];exact J.turned (t':=w.toks) (it:=C) (λb o d e=>(E.2 b d).trans e) A.free A.loc (.inr A.big) A.cell A.pin
theorem zM {R E:Expr} {x y:Str} {i:Nat} {P M:Pos} {k:Scope} {l:List (Str×Addr)} {G N:Pos} {ys:List Str} {p:List Nat} {K:TI} {t:TE} (j:X.N.Nodup) (hy:X.N[i]?=some y) (f:X.env.scope.names.lookup y=some .local) (S:cz X x ys p k l) (U:X.calm=true) (hi:PI X (.Name x P) E K) (ht:∀C r s H,PE (fg X (x :: ys) k l C r s H) R t) (T:swapsWith (.ListComp R [#[.Name x P,E,[],0]] k G) (some (.Name y M)) N.line X.env=pure true:=by rfl) (hs:∀v,foldedSetIterable E X.env v=pure v:=by intro _;rfl):
  PS X (.Assign [.Name y M] (.ListComp R [⟨.Name x P,E,[],0⟩] k G) N) (bq (lP K t p) (az i)):=by
 intro z s σ H D I h;rw[exec_Assign_Name_used _ _ _ _ T];refine wpAny_bind (wpAny_standAt (wpAny_bind ?_));show wpAny _ _ (do let _ <-comprehension (.ListComp R [⟨.Name x P,E,[],0⟩] k G) k X.env _ (newList []) false (eval E X.env) (some (assign (.Name y M) X.env))) _ _ s;refine wpAny_bind (wpAny_mono (ql (use:=some (assign (.Name y M) X.env)) (Q':=λ_ w=>SP X z D .next w) S U hi ht hs I h λL C w g m J B A q=>?_) (λ_ w hq=>wpAny_pure (wpAny_pure hq)) λ_ _ e=>e);show wpAny _ _ (assign (.Name y M) X.env (.ref L)) _ _ w;refine wpAny_assign_Name ?_;obtain⟨m0,am,al⟩:=J.loc;have ac:X.env.kindOf y=some .local:=f;refine nv J j hy (.inl f) (v:=.ref L) (u:=.ref L) rfl (λO Q n=>?_) (.inr f);obtain⟨c,sb,a⟩:=n;have Z:c≠C:=by
  rcases a with rfl|a
  .exact A.loc.symm
  .exact A.cell _ _ a
 refine#[m,B.sameBut sb Z.symm,λh' Y=>#[_,g,?_,q]];exact Q.turned (t':=O.toks) (it:=C) (λb o d e=>(Y.2 b d).trans e) A.free A.loc (.inr A.big) A.cell A.pin
end
structure xT (tabs:List (Addr×Addr)) (H:Hp):Prop where
 only:∀b,H b=none\/(∃o xs,H b=some (.rD o (.lst xs)))\/(b∈tabs.map (·.2)/\H b=some (.ke [].toArray))
 tabs:∀q∈tabs,H q.2=some (.ke [].toArray)
structure BMain (mg:Str->Option Value) (h:Heap):Prop where
 ex:∃bm ob,mg "__builtins__"=some (.ref bm)/\bm≠builtinsNs/\h.get? bm=some ob/\ob.cls=.type "module"/\ob.dict=some builtinsNs/\ob.data=.plain
theorem uM {P:Program} {w:World} {K:W.Frag} {mg mb:Str->Option Value} {CX:xm} {k:Nat} {fa a:Addr} {fd:FuncData} {x:Str} {sp:Sp} {S:Shared} {vs:List Value} {ns:List Int} {tabs:List (Addr×Addr)} (KX:K.In S.heap) (B:S.heap.Ns mainGlobals mg) (c:S.heap.Ns builtinsNs mb) (aF:∀x:Str,x≠"__name__"->mb x=bootBuiltins x) (Q:S.heap.NoLimit) (hg:S.gens=[].toArray) (A:W.TabsAt tabs S.heap) (as:W.noTabs K=true) (aJ:BMain mg S.heap) (g:S.heap.get? a=some {cls:=.type "list",data:=.seq vs.toArray}) (hi:IntsAre vs ns) (hl:ns.length<=sizeLine) (hr:dG k callerA) (F:∀base:Heap,K.In base->base.Ns mainGlobals mg->(∀q∈tabs,W.CodeHd base q.1 q.2)->BMain mg base->aU P w K mg base CX k fa fd [x] sp) (Y:∀(s:Shared) (u:Value),BindsTo s fd #[[u],[]] [(x,u)]) (aC:∀H:Hp,xT tabs H->bp K H a (ns.map V.int)->sp [.ref a] H (λv _=>v=.bl true) λ_ _ _=>False) (al:∀H e s',CX [] H S (λ_ _ _=>False) e s'->False):codeAny (model P w) callerA (.call (.ref fa) #[[.ref a],[]]) (λr s'=>r=.ok (.ret (.bool true))/\OldK S.heap s'.heap/\s'.os=S.os/\AllBare s'.gens) S:=by
 have rv:=nF hi;have aA:=hi.length;have T:∀b,b∈tabs.map (·.2)->S.heap.get? b=some (W.tabObj [].toArray):=λb c=>by obtain⟨q,j,rfl⟩:=List.mem_map.mp c;exact(A q j).2
 have X:∀b o,K.lookup b=some o->b∉tabs.map (·.2):=λb o e c=>by have t:=KX b o e;rw[T b c] at t;cases t;have h2:=List.all_eq_true.mp as (b,_) (W.mem_of_lookupK e);exact absurd (show false=true from h2) Bool.false_ne_true
 have J:a∉tabs.map (·.2):=λz=>by have e:=T a z;rw[g] at e;cases e
 have core:∀H:Hp,xT tabs H->bp K H a (ns.map V.int)->g9 P w H S.heap->(∀b,H b≠none->b=a\/b∈tabs.map (·.2))->(H a≠none->K.lookup a=none)->codeAny (model P w) callerA (.call (.ref fa) #[[.ref a],[]]) (λr s'=>r=.ok (.ret (.bool true))/\OldK S.heap s'.heap/\s'.os=S.os/\AllBare s'.gens) S:=by
  intro H hO hS bE hA hK;have C:∀{b:Addr} {o:Obj},S.heap.get? b=some o->H b=none->(lg S.heap H).get? b=some o:=λe n=>wO e n;have D:∀{b:Addr} {o:Obj},S.heap.get? b=some o->o≠{cls:=.type "list",data:=.seq vs.toArray}->o≠W.tabObj [].toArray->H b=none:=λ{b o} e d1 d2=>by
   cases q:H b with
   |none=>rfl
   |some u=>
    rcases hA b (by rw[q];simp) with E|E
    .subst E;rw[g] at e;cases e;exact absurd rfl d1
    .rw[T b E] at e;cases e;exact absurd rfl d2
  have N:∀{b:Addr} {m:Str->Option Value},S.heap.Ns b m->(lg S.heap H).Ns b m:=λ{b m} ⟨o,es,ep,e,d,r⟩=>#[o,es,ep,C e (D e (λz=>by rw[z] at d;cases d) (λz=>by rw[z] at d;cases d)),d,r];have I:K.In (lg S.heap H):=λb o e=>C (KX b o e) (by
   cases q:H b with
   |none=>rfl
   |some u=>
    rcases hA b (by rw[q];simp) with E|E
    .subst E;rw[hK (by rw[q];simp)] at e;cases e
    .exact absurd E (X b o e))
  have am:∀q∈tabs,W.CodeHd (lg S.heap H) q.1 q.2:=λq j=>by obtain⟨o,aH,U,tf,O,tg,ac,an,tt,t,R,r2,r3,r4,r5,r6,r7,r8,l⟩:=(A q j).1;exact#[o,aH,U,tf,O,tg,ac,an,tt,C t (D t (λz=>by rw[z] at R;injection R with R;exact absurd R (by decide)) (λz=>by rw[z] at R;cases R)),R,r2,r3,r4,r5,r6,r7,r8,l]
  have ax:BMain mg (lg S.heap H):=by obtain⟨bm,ob,b1,b2,b3,i,b5,b6⟩:=aJ.ex;exact#[bm,ob,b1,b2,C b3 (D b3 (λz=>by rw[z] at i;injection i with i;exact absurd i (by decide)) (λz=>by rw[z] at i;cases i)),i,b5,b6]
  have hM:Mod K mg (lg S.heap H):=#[I,N B,#[mb,N c,aF],let ⟨mc,h1,h2⟩:=Q;⟨mc,N h1,h2⟩];have e0:om P w K mg (lg S.heap H) callerA [] S H:=#[rfl,hM,λb o e=>zi e,Nat.le_of_eq (uu _ _),trivial,λb c=>absurd (show b∈([]:List Addr) from c) (by simp),bE,.of_eq hg];refine codeAny_mono ((F _ I (N B) am ax).run callerA [] S H #[[.ref a],[]] [.ref a] [.ref a] _ _ hr e0 (Y S (.ref a)) (.cons rfl .nil) (aC H hO hS)) λr s' h=>?_;cases r with
  |error e=>exact(al H e s' h).elim
  |ok fl=>
   cases fl with
   |next=>exact False.elim h
   |brk=>exact False.elim h
   |cont=>exact False.elim h
   |ret u=>
    obtain⟨v,H',os,M,un,G,r',q⟩:=h;have q':v=.bl true:=q;subst q';obtain rfl:u=Value.bool true:=r';have L:∀b o,S.heap.get? b=some o->(s'.heap.get? b=some o)\/(isCodeTable S.heap b/\o=W.tabObj [].toArray/\∃ps,s'.heap.get? b=some (W.tabObj ps)):=λb o e=>by
     rcases hO.only b with z|⟨ob,xs,z⟩|⟨ap,z⟩
     .exact .inl (un.keep b o e z (by intro z;exact absurd (show b∈([]:List Addr) from z) (by simp)) (by simp))
     .have z2:=un.nX b ob _ z;obtain⟨t,_⟩:=(show cv P w H S.heap b (.rD ob (.lst xs)) from bE b _ z);obtain⟨e2,_⟩:=(show cv P w H' s'.heap b (.rD ob (.lst xs)) from G b _ z2);rw[e] at t;cases t;exact .inl e2
     .obtain⟨aI,z2⟩:=un.nY b _ z;have e2:=(show cv P w H' s'.heap b (.ke ([].toArray++aI)) from G b _ z2);obtain⟨q,j,rfl⟩:=List.mem_map.mp ap;have e3:=(A q j).2;rw[e] at e3;exact .inr #[((A q j).1.tab (A q j).2).isCodeTable,Option.some.inj e3,_,e2]
    refine#[rfl,#[λb o e=>?_,λb o e=>?_],os,M]
    .rcases L b o e with x|⟨ht,rfl,ps,hP⟩
     .exact .inl x
     .exact .inr (.inl #[ht,rfl,[].toArray,ps,rfl,by rw[Array.empty_append];exact hP])
    .rcases L b o e with x|⟨ht,rfl,ps,hP⟩
     .exact#[o,x]
     .exact#[_,hP]
 have aK:∀b,Decidable (b∈tabs.map (·.2)):=λb=>inferInstance;cases hk:K.lookup a with
 |some o=>
  have e:=KX a o hk;rw[g] at e;cases e;refine core (λb=>if b∈tabs.map (·.2) then some (.ke [].toArray) else none) #[λb=>?_,λq j=>if_pos (List.mem_map_of_mem j)] (.inr #[_,vs.toArray,_,hk,rfl,rfl,rfl,by rw[List.size_toArray,aA];exact hl,by simpa using rv]) (λb u z=>?_) (λb z=>?_) λz=>absurd (if_neg J) z
  .by_cases c:b∈tabs.map (·.2)
   .exact .inr (.inr #[c,if_pos c])
   .exact .inl (if_neg c)
  .by_cases c:b∈tabs.map (·.2)
   .have Z:=(if_pos c).symm.trans z;cases Z;exact T b c
   .have Z:=(if_neg c).symm.trans z;cases Z
  .by_cases c:b∈tabs.map (·.2)
   .exact .inr c
   .exact absurd (if_neg c) z
 |none=>
  refine core (λb=>if b=a then some (.rD {cls:=.type "list",data:=.seq vs.toArray} (.lst (ns.map V.int))) else if b∈tabs.map (·.2) then some (.ke [].toArray) else none) #[λb=>?_,λq j=>?_] (.inl (.inr #[{cls:=.type "list",data:=.seq vs.toArray},if_pos rfl])) (λb u z=>?_) (λb z=>?_) λ_=>hk
  .by_cases c:b=a
   .exact .inr (.inl #[_,_,if_pos c])
   .by_cases y:b∈tabs.map (·.2)
    .exact .inr (.inr #[y,by rw[if_neg c,if_pos y]])
    .exact .inl (by rw[if_neg c,if_neg y])
  .have p:=List.mem_map_of_mem (f:=(·.2)) j;have l:q.2≠a:=λz=>J (by rw[<-z];exact p);rw[if_neg l,if_pos p]
  .by_cases c:b=a
   .have Z:=(if_pos c).symm.trans z;cases Z;subst c;exact#[g,by rw[List.length_map];exact hl,vs,_,rv,g]
   .have z1:=(if_neg c).symm.trans z;by_cases y:b∈tabs.map (·.2)
    .have Z:=(if_pos y).symm.trans z1;cases Z;exact T b y
    .have Z:=(if_neg y).symm.trans z1;cases Z
  .by_cases c:b=a
   .exact .inl c
   .by_cases y:b∈tabs.map (·.2)
    .exact .inr y
    .exact absurd (by rw[if_neg c,if_neg y]) z
end L2
namespace Wk
inductive Kd where
 |num
 |ax (n:Int)
 |two (f:Bool) (a b:Kd)
 deriving DecidableEq
namespace Kd
def size:Kd->Nat
 | .num=>1
 | .ax _=>1
 | .two _ a b=>a.size+b.size+1
def deep:Kd->Nat
 | .num=>1
 | .ax _=>1
 | .two _ a b=>max a.deep b.deep+1
theorem oE:∀k:Kd,k.deep<=k.size
 | .num=>Nat.le_refl _
 | .ax _=>Nat.le_refl _
 | .two _ a b=>by have:=oE a;have:=oE b;simp only[deep,size];omega
theorem size_pos:∀k:Kd,1<=k.size
 | .num=>Nat.le_refl _
 | .ax _=>Nat.le_refl _
 | .two _ a b=>by simp only[size];omega
def parts:Kd->List Kd
 | .num=>[.num]
 | .ax n=>[.ax n]
 | .two f a b=>.two f a b :: (a.parts++b.parts)
theorem cm:∀k:Kd,k.parts.length=k.size
 | .num=>rfl
 | .ax _=>rfl
 | .two _ a b=>by simp only[parts,size,List.length_cons,List.length_append,cm a,cm b]
def ok:Kd->Prop
 | .num=>True
 | .ax n=>0<=n
 | .two _ a b=>a.ok/\b.ok
def rE:Kd->Prop
 | .num=>True
 | .ax n=>n.natAbs < 10 ^ 59
 | .two _ a b=>a.rE/\b.rE
def fill (φ:Int->Option Kd):Kd->Kd
 | .num=>.num
 | .ax n=>(φ n).getD (.ax n)
 | .two f a b=>.two f (a.fill φ) (b.fill φ)
end Kd
def kids:Kd->List Kd
 | .two _ a b=>[a,b]
 |_=>[]
def flat (ts:List Kd):List Kd:=ts.flatMap Kd.parts
theorem qm:flat []=[]:=rfl
theorem qo (a b:List Kd):flat (a++b)=flat a++flat b:=List.flatMap_append
theorem fQ (t:Kd) (r:List Kd):flat (t :: r)=t :: flat (kids t++r):=by cases t <;> simp[flat,kids,Kd.parts]
theorem cw (t:Kd):flat [t]=t.parts:=by simp[flat]
def mO (ts:List Kd):Nat->List Kd
 |0=>ts
 |n+1=>match mO ts n with
  |[]=>[]
  |t :: r=>kids t++r
theorem fA (ts:List Kd):∀n,flat (mO ts n)=(flat ts).drop n
 |0=>rfl
 |n+1=>by
  have I:=fA ts n;rw[<-List.drop_drop,<-I];show flat (match mO ts n with|[]=>[]|t :: r=>kids t++r)=_;cases mO ts n with
  |nil=>rfl
  |cons t r=>rw[fQ];rfl
theorem eM {ts:List Kd} {n:Nat} {t:Kd} {r:List Kd} (h:mO ts n=t :: r):mO ts (n+1)=kids t++r:=by show (match mO ts n with|[]=>[]|t :: r=>kids t++r)=_;rw[h]
theorem oF {ts:List Kd} {n:Nat} {t:Kd} (h:(flat ts)[n]?=some t):∃r,mO ts n=t :: r:=by
 have e:=fA ts n;cases q:mO ts n with
 |nil=>rw[q,qm] at e;have:(flat ts)[n]?=none:=List.getElem?_eq_none (List.drop_eq_nil_iff.mp e.symm);rw[this] at h;cases h
 |cons u r=>
  refine#[r,?_];rw[q,fQ] at e;have H:((flat ts).drop n)[0]?=some t:=by rw[List.getElem?_drop];exact h
  rw[<-e] at H;have:u=t:=Option.some.inj H;rw[this]
theorem oG {ts:List Kd} {n:Nat} (h:(flat ts).length<=n):mO ts n=[]:=by
 have e:=fA ts n;rw[List.drop_eq_nil_of_le h] at e;cases q:mO ts n with
 |nil=>rfl
 |cons u r=>rw[q,fQ] at e;cases e
theorem tY {ts:List Kd} {n:Nat} (h:mO ts n=[]):(flat ts).length<=n:=by have e:=fA ts n;rw[h,qm] at e;exact List.drop_eq_nil_iff.mp e.symm
theorem jV (ts:List Kd):ts.length<=(flat ts).length:=by
 induction ts with
 |nil=>exact Nat.le_refl _
 |cons t r I=>have e:flat (t :: r)=t.parts++flat r:=rfl;rw[e,List.length_append,List.length_cons,Kd.cm];have:=Kd.size_pos t;omega
theorem fB (ts:List Kd) (n:Nat):(mO ts n).length<=(flat ts).length:=by have h:=jV (mO ts n);rw[fA,List.length_drop] at h;omega
def seen (os:List Int):Kd->List Int
 | .ax n=>if n∈os then os else os++[n]
 |_=>os
def dN (K:List Kd):List Int:=K.foldl seen []
def rank (os:List Int) (n:Int):Option Kd:=if n∈os then some (.ax (os.idxOf n:Nat)) else none
def gP (k:Kd):Kd:=k.fill (rank (dN k.parts))
theorem uN (K:List Kd) (k:Kd):dN (K++[k])=seen (dN K) k:=by unfold dN;rw[List.foldl_append];rfl
theorem seen_length (os:List Int) (k:Kd):(seen os k).length<=os.length+1:=by cases k <;> simp only[seen] <;> (try split) <;> simp
theorem fK:∀(K:List Kd) (os:List Int),(K.foldl seen os).length<=os.length+K.length
 |[],os=>by simp
 |k :: r,os=>by have c:=fK r (seen os k);have H:=seen_length os k;simp only[List.foldl_cons,List.length_cons];omega
theorem qp (K:List Kd):(dN K).length<=K.length:=by have:=fK K [];simpa [dN] using this
theorem xU {os:List Int} {k:Kd} {n:Int} (h:n∈os):n∈seen os k:=by
 cases k with
 |ax m=>
       simp only[seen];split
       .exact h
       .exact List.mem_append_left _ h
 |num=>exact h
 |two f a b=>exact h
theorem gQ:∀(K:List Kd) (os:List Int) {n:Int},n∈os->n∈K.foldl seen os
 |[],_,_,h=>h
 |k :: r,os,_,h=>gQ r (seen os k) (xU h)
theorem iu:∀(K:List Kd) (os:List Int) {n:Int},Kd.ax n∈K->n∈K.foldl seen os
 |[],_,_,h=>absurd h (by simp)
 |k :: r,os,n,h=>by
  rcases List.mem_cons.mp h with e|e
  .subst e;refine gQ r _ ?_;simp only[seen];split
   .assumption
   .exact List.mem_append_right _ (List.mem_singleton.mpr rfl)
  .exact iu r _ e
theorem zN {K:List Kd} {n:Int} (h:Kd.ax n∈K):n∈dN K:=iu K [] h
theorem xV {os:List Int} {n m:Int} (h:m∈os):rank (os++[n]) m=rank os m:=by unfold rank;rw[if_pos (List.mem_append_left _ h),if_pos h,List.idxOf_append,if_pos h]
theorem xW {os:List Int} {n:Int} (h:n∉os):rank (os++[n]) n=some (.ax (os.length:Nat)):=by unfold rank;rw[if_pos (List.mem_append_right _ (List.mem_singleton.mpr rfl)),List.idxOf_append,if_neg h];simp
theorem si {os:List Int} {n m:Int} (h:m∉os) (f:m≠n):rank (os++[n]) m=none:=by
 unfold rank;rw[if_neg];intro q;rcases List.mem_append.mp q with q|q
 .exact h q
 .exact f (List.mem_singleton.mp q)
theorem jA {os:List Int} {n:Int}:rank os n=none↔n∉os:=by unfold rank;split <;> simp_all
theorem uO (os:List Int) (n m:Int) (h:n∉os):rank (os++[n]) m=if m=n then some (.ax (os.length:Nat)) else rank os m:=by
 by_cases e:m=n
 .subst e;rw[if_pos rfl,xW h]
 .rw[if_neg e];by_cases q:m∈os
  .exact xV q
  .rw[si q e,jA.mpr q]
theorem zO {os:List Int} {n:Int} {k:Kd} (h:rank os n=some k):k.ok:=by
 unfold rank at h;split at h
 .cases h;exact Int.natCast_nonneg _
 .cases h
theorem uP {os:List Int} {n:Int} {k:Kd} (h:rank os n=some k):k.size=1/\k.deep=1:=by
 unfold rank at h;split at h
 .cases h;exact#[rfl,rfl]
 .cases h
theorem fC (os:List Int):∀k:Kd,(k.fill (rank os)).size=k.size/\(k.fill (rank os)).deep=k.deep
 | .num=>#[rfl,rfl]
 | .ax n=>by
  show ((rank os n).getD (.ax n)).size=1/\((rank os n).getD (.ax n)).deep=1;cases e:rank os n with
  |none=>exact#[rfl,rfl]
  |some t=>exact uP e
 | .two f a b=>by have c:=fC os a;have H:=fC os b;simp only[Kd.fill,Kd.size,Kd.deep,c.1,c.2,H.1,H.2,and_self]
abbrev eR:=Int->Option Kd
def put (φ:eR) (n:Int) (t:Kd):eR:=λm=>if m=n then some t else φ m
theorem xX {φ:eR} {n:Int} {t:Kd} (h:φ n=some t):put φ n t=φ:=by
 funext m;unfold put;split
 .rename_i e;subst e;exact h.symm
 .rfl
def mt (φ:eR):Kd->Kd->Option eR
 | .ax n,t=>match φ n with
  |none=>some (put φ n t)
  |some u=>if u=t then some φ else none
 | .num,.num=>some φ
 | .num,_=>none
 | .two f a b,.two g c d=>if f=g then(mt φ b d).bind λe=>mt e a c else none
 | .two _ _ _,_=>none
def mP (φ:eR):List (Kd×Kd)->Option eR
 |[]=>some φ
 |p :: r=>(mt φ p.1 p.2).bind λe=>mP e r
theorem zP (φ:eR) (f:Bool) (a b c d:Kd) (r:List (Kd×Kd)):mP φ ((.two f a b,.two f c d) :: r)=mP φ ((b,d) :: (a,c) :: r):=by simp only[mP,mt,if_true,Option.bind_assoc]
def fit (w k:Kd):Bool:=(mP (λ_=>none) [(w,k)]).isSome
def eg:List (Kd×Kd)->Nat
 |[]=>0
 |p :: r=>p.1.size+eg r
theorem iZ:∀P:List (Kd×Kd),P.length<=eg P
 |[]=>Nat.le_refl _
 |p :: r=>by have:=iZ r;have:=Kd.size_pos p.1;simp only[eg,List.length_cons];omega
end Wk
namespace L2
open PySem PySem.Spec PyProof.Rows Wk
def Tk (H h:Hp):Prop:=∀p X,H p=some (.tup X)->h p=some (.tup X)
theorem Tk.refl (H:Hp):Tk H H:=λ_ _ h=>h
theorem Tk.trans {H g c:Hp} (a:Tk H g) (b:Tk g c):Tk H c:=λp X h=>b p X (a p X h)
theorem Tk.upd {H:Hp} {p:Addr} {o:HO} (h:∀xs,H p≠some (.tup xs)):Tk H (upd H p o):=λq xs e=>by have j:q≠p:=λz=>h xs (by rw[<-z];exact e);rw[ah j];exact e
theorem Tk.new {H:Hp} {p:Addr} {o:HO} (h:H p=none):Tk H (L2.upd H p o):=.upd λX e=>by rw[h] at e;cases e
theorem Tk.lst {H:Hp} {p:Addr} {o:HO} {ys:List V} (h:H p=some (.lst ys)):Tk H (L2.upd H p o):=.upd λX e=>by rw[h] at e;cases e
theorem Tk.CZ {H:Hp} {p:Addr} {o:HO} {ys:List (Key×V)} (h:H p=some (.dK ys)):Tk H (L2.upd H p o):=.upd λX e=>by rw[h] at e;cases e
theorem aq.tk {H a:Hp} (s:aq H a):Tk H a:=λp _ h=>s p _ h
theorem aq.new {H:Hp} {p:Addr} {o:HO} (h:H p=none):aq H (L2.upd H p o):=λb u q=>by rw[ah (au q h)];exact q
theorem aq.upd {H g:Hp} {p:Addr} {o:HO} (s:aq H g) (h:H p=none):aq H (L2.upd g p o):=λb u q=>by rw[ah (au q h)];exact s b u q
def tag (f:Bool):Str:=if f then "to" else "pair"
def cP (H:Hp):V->Kd->Prop
 |v,.num=>∃p,v=.ref p/\H p=some (.tup [.str "number"])
 |v,.ax n=>∃p,v=.ref p/\H p=some (.tup [.str "blank",.int n])
 |v,.two f a b=>∃p x y,v=.ref p/\H p=some (.tup [.str (tag f),x,y])/\cP H x a/\cP H y b
theorem cP.mono {H a:Hp} (t:Tk H a):∀{k:Kd} {v:V},cP H v k->cP a v k
 | .num,_,⟨p,e,h⟩=>#[p,e,t p _ h]
 | .ax _,_,⟨p,e,h⟩=>#[p,e,t p _ h]
 | .two _ _ _,_,⟨p,x,y,e,h,b,d⟩=>#[p,x,y,e,t p _ h,cP.mono t b,cP.mono t d]
theorem ie {f g:Bool} (h:tag f=tag g):f=g:=by cases f <;> cases g <;> first|rfl|(exact absurd h (by decide))
theorem kE (f:Bool):tag f≠"number":=by cases f <;> decide
theorem gq (f:Bool):tag f≠"blank":=by cases f <;> decide
theorem cP.inj {H:Hp} {k K:Kd} {v:V} (l:cP H v k):cP H v K->k=K:=by
 induction k generalizing K v with
 |num=>
  intro m;obtain⟨p,e,h⟩:=l;cases K with
  |num=>rfl
  |ax _=>obtain⟨L,E,n⟩:=m;cases e;cases E;rw[h] at n;cases n
  |two f _ _=>obtain⟨L,_,_,E,n,_⟩:=m;cases e;cases E;rw[h] at n;simp at n
 |ax _=>
  intro m;obtain⟨p,e,h⟩:=l;cases K with
  |num=>obtain⟨L,E,n⟩:=m;cases e;cases E;rw[h] at n;cases n
  |ax _=>obtain⟨L,E,n⟩:=m;cases e;cases E;rw[h] at n;cases n;rfl
  |two f _ _=>obtain⟨L,_,_,E,n,_⟩:=m;cases e;cases E;rw[h] at n;simp at n
 |two f a b I t=>
  intro m;obtain⟨p,x,y,e,h,r,j⟩:=l;cases K with
  |num=>obtain⟨L,E,n⟩:=m;cases e;cases E;rw[h] at n;simp at n
  |ax _=>obtain⟨L,E,n⟩:=m;cases e;cases E;rw[h] at n;simp at n
  |two g c d=>obtain⟨L,X,Y,E,n,o,q⟩:=m;cases e;cases E;rw[h] at n;have m:=Option.some.inj n;injection m with m;injection m with i s;injection i with i;injection s with s A;injection A with A;rw[ie i];subst s A;rw[I r o,t j q]
theorem cP.ref {H:Hp} {v:V} {k:Kd} (h:cP H v k):∃p X,v=.ref p/\H p=some (.tup X):=by
 cases k with
 |num=>obtain⟨p,e,q⟩:=h;exact#[p,_,e,q]
 |ax n=>obtain⟨p,e,q⟩:=h;exact#[p,_,e,q]
 |two f a b=>obtain⟨p,x,y,e,q,_⟩:=h;exact#[p,_,e,q]
abbrev Ks (H:Hp):List V->List Kd->Prop:=Paired (cP H)
theorem Ks.mono {H a:Hp} (t:Tk H a) {vs:List V} {K:List Kd} (h:Ks H vs K):Ks a vs K:=Paired.imp' (λ_ _ q=>q.mono t) h
theorem bZ {e f:Type} {F:e->f->Prop}:∀{a:List e} {b:List f} {c:List e} {d:List f},Paired F a b->Paired F c d->Paired F (a++c) (b++d)
 |_,_,_,_,.nil,h=>h
 |_,_,_,_,.cons x r,h=>.cons x (bZ r h)
theorem bt {c d:Type} {F:c->d->Prop}:∀{a:List c} {b:List d} {y:d},Paired F a (b++[y])->∃f x,a=f++[x]/\Paired F f b/\F x y
 |_,[],y,.cons h .nil=>#[[],_,rfl,.nil,h]
 |_,b :: bs,y,.cons h r=>by obtain⟨f,x,e,p,q⟩:=bt r;subst e;exact#[_ :: f,x,rfl,.cons h p,q]
theorem dw {c d:Type} {F:c->d->Prop}:∀{a:List c} {b:List d} {i:Nat} {x:c},Paired F a b->a[i]?=some x->∃y,b[i]?=some y/\F x y
 |_,_,_,_,.nil,h=>by simp at h
 |_,_,0,x,.cons (b:=y) h r,e=>by simp at e;exact#[y,rfl,e▸h]
 |_,_,i+1,x,.cons h r,e=>dw (i:=i) r e
section
variable {A:Around} {s:Shared} {H:Hp} {P:Program} {w:World}
theorem oH (b:g9 P w H s.heap) {p:Addr} {xs:List V} (h:H p=some (.tup xs)):∃i:List Value,Vals xs i/\s.heap.IsTuple p i.toArray:=by obtain⟨_,i,r,q⟩:=(show cv P w H s.heap p (.tup xs) from b p _ h);exact#[i,r,q]
theorem fk (k:g9 P w H s.heap) {p q:Addr} {xs ys:List V} (e:Nat->Bool) (g:H p=some (.tup xs)) (a:H q=some (.tup ys)) (d:A.units < cLine) (f:∀(j:Nat) (x y:V) (u v:Value),xs[j]?=some x->ys[j]?=some y->RelV x u->RelV y v->SeqAt.EqAt A.in1 s u v (e j)):SeqAt.RcAt A s (.ref p) (.ref q) ((List.range (min xs.length ys.length)).all e&&xs.length==ys.length)/\SeqAt.RcNeAt A s (.ref p) (.ref q) (!((List.range (min xs.length ys.length)).all e&&xs.length==ys.length)):=by
 obtain⟨U,i,T⟩:=oH k g;obtain⟨b,R,G⟩:=oH k a;have t:U.toArray.size=xs.length:=by rw[List.size_toArray,i.length]
 have E:b.toArray.size=ys.length:=by rw[List.size_toArray,R.length]
 have I:∀j (c:j < U.toArray.size) (h:j < b.toArray.size),SeqAt.EqAt A.in1 s U.toArray[j] b.toArray[j] (e j):=λj c h=>by
  have n:j < xs.length:=by omega
  have m:j < ys.length:=by omega
  obtain⟨u,D,J⟩:=i.get (List.getElem?_eq_getElem n);obtain⟨v,z,C⟩:=R.get (List.getElem?_eq_getElem m);have o:U.toArray[j]=u:=by
   have:U[j]?=some U.toArray[j]:=by simp[List.getElem?_eq_getElem (by simpa using c)]
   rw[D] at this;exact(Option.some.inj this).symm
  have B:b.toArray[j]=v:=by
   have:b[j]?=some b.toArray[j]:=by simp[List.getElem?_eq_getElem (by simpa using h)]
   rw[z] at this;exact(Option.some.inj this).symm
  rw[o,B];exact f j _ _ u v (List.getElem?_eq_getElem n) (List.getElem?_eq_getElem m) J C
 have r:=SeqAt.RcAt.tuples T G d I;have l:=SeqAt.RcNeAt.tuples T G d I;rw[t,E] at r l;exact#[r,l]
theorem eN {a b:Str} {u v:Value} (r:RelV (.str a) u) (R:RelV (.str b) v):SeqAt.EqAt A s u v (decide (a=b)):=by
 have h:=rZ (A:=A) (s:=s) r R rfl rfl;have e:zd (.str a) (.str b)=decide (a=b):=by
  show (a==b)=_;by_cases q:a=b
  .subst q;simp
  .rw[decide_eq_false q];simpa using q
 rw[e] at h;exact h
theorem xY {a b:Int} {u v:Value} (r:RelV (.int a) u) (R:RelV (.int b) v):SeqAt.EqAt A s u v (decide (a=b)):=by
 have h:=rZ (A:=A) (s:=s) r R rfl rfl;have e:zd (.int a) (.int b)=decide (a=b):=by
  show (a==b)=_;by_cases q:a=b
  .subst q;simp
  .rw[decide_eq_false q];simpa using q
 rw[e] at h;exact h
end
section
variable {s:Shared} {H:Hp} {P:Program} {w:World}
theorem Bq (T:g9 P w H s.heap):∀(k K:Kd) {A:Around} {p q:Addr},cP H (.ref p) k->cP H (.ref q) K->A.units+k.deep < cLine->SeqAt.RcAt A s (.ref p) (.ref q) (decide (k=K))/\SeqAt.RcNeAt A s (.ref p) (.ref q) (!decide (k=K)):=by
 intro k;induction k with
 |num=>
  intro K A p q B G M;cases K with
  |num=>
   obtain⟨S,e,h⟩:=B;obtain⟨Q,E,L⟩:=G;cases e;cases E;have r:=fk (A:=A) T (λ_=>true) h L (by omega) (λj x y u v B G O R=>by
    match j,B,G with
    |0,B,G=>cases (Option.some.inj B);cases (Option.some.inj G);exact eN O R)
   simpa using r
  |ax n=>
   obtain⟨S,e,h⟩:=B;obtain⟨Q,E,L⟩:=G;cases e;cases E;have r:=fk (A:=A) T (λ_=>false) h L (by omega) (λj x y u v B G O R=>by
    match j,B,G with
    |0,B,G=>cases (Option.some.inj B);cases (Option.some.inj G);exact eN O R)
   simpa using r
  |two f a b=>
   obtain⟨S,e,h⟩:=B;obtain⟨Q,X,Y,E,L,_⟩:=G;cases e;cases E;have r:=fk (A:=A) T (λ_=>false) h L (by omega) (λj x y u v B G O R=>by
    match j,B,G with
    |0,B,G=>cases (Option.some.inj B);cases (Option.some.inj G);have:=eN (A:=A.in1) (s:=s) O R;rwa [decide_eq_false (λz=>kE f z.symm)] at this)
   simpa using r
 |ax n=>
  intro K A p q B G M;cases K with
  |num=>
   obtain⟨S,e,h⟩:=B;obtain⟨Q,E,L⟩:=G;cases e;cases E;have r:=fk (A:=A) T (λ_=>false) h L (by omega) (λj x y u v B G O R=>by
    match j,B,G with
    |0,B,G=>cases (Option.some.inj B);cases (Option.some.inj G);exact eN O R)
   simpa using r
  |ax m=>
   obtain⟨S,e,h⟩:=B;obtain⟨Q,E,L⟩:=G;cases e;cases E;have r:=fk (A:=A) T (λj=>if j=1 then decide (n=m) else true) h L (by omega) (λj x y u v B G O R=>by
    match j,B,G with
    |0,B,G=>cases (Option.some.inj B);cases (Option.some.inj G);exact eN O R
    |1,B,G=>cases (Option.some.inj B);cases (Option.some.inj G);exact xY O R)
   simpa [List.range_succ] using r
  |two f a b=>
   obtain⟨S,e,h⟩:=B;obtain⟨Q,X,Y,E,L,J,o⟩:=G;cases e;cases E;have r:=fk (A:=A) T (λj=>false) h L (by omega) (λj x y u v B G O R=>by
    match j,B,G with
    |0,B,G=>cases (Option.some.inj B);cases (Option.some.inj G);have:=eN (A:=A.in1) (s:=s) O R;rwa [decide_eq_false (λz=>gq f z.symm)] at this
    |1,B,G=>cases (Option.some.inj B);cases (Option.some.inj G);obtain⟨px,xs,rfl,C⟩:=J.ref;obtain⟨t,rfl⟩:=O;cases R;obtain⟨i,_,l⟩:=oH T C;exact SeqAt.EqAt.int_tuple _ _ l (by simp only[Kd.deep] at M ⊢;omega))
   simpa using r
 |two f a b I Z=>
  intro K A p q B G M;cases K with
  |num=>
   obtain⟨S,X,Y,e,h,_⟩:=B;obtain⟨Q,E,L⟩:=G;cases e;cases E;have r:=fk (A:=A) T (λ_=>false) h L (by omega) (λj x y u v B G O R=>by
    match j,B,G with
    |0,B,G=>cases (Option.some.inj B);cases (Option.some.inj G);have:=eN (A:=A.in1) (s:=s) O R;rwa [decide_eq_false (kE f)] at this)
   simpa using r
  |ax m=>
   obtain⟨S,X,Y,e,h,J,o⟩:=B;obtain⟨Q,E,L⟩:=G;cases e;cases E;have r:=fk (A:=A) T (λj=>false) h L (by omega) (λj x y u v B G O R=>by
    match j,B,G with
    |0,B,G=>cases (Option.some.inj B);cases (Option.some.inj G);have:=eN (A:=A.in1) (s:=s) O R;rwa [decide_eq_false (gq f)] at this
    |1,B,G=>cases (Option.some.inj B);cases (Option.some.inj G);obtain⟨px,xs,rfl,C⟩:=J.ref;obtain⟨t,rfl⟩:=R;cases O;obtain⟨i,_,l⟩:=oH T C;exact SeqAt.EqAt.tuple_int _ _ l (by simp only[Kd.deep] at M ⊢;omega))
   simpa using r
  |two g c d=>
   obtain⟨S,X,Y,e,h,J,o⟩:=B;obtain⟨Q,U,y2,E,L,hc,hd⟩:=G;cases e;cases E;have sub:∀(k K:Kd) {x y:V} {u v:Value},cP H x k->cP H y K->RelV x u->RelV y v->A.in1.units+k.deep < cLine->(∀{p q:Addr},cP H (.ref p) k->cP H (.ref q) K->A.in1.units+k.deep < cLine->SeqAt.RcAt A.in1 s (.ref p) (.ref q) (decide (k=K)))->SeqAt.EqAt A.in1 s u v (decide (k=K)):=by
    intro k K x y u v B G O R D ih;obtain⟨p2,xs,rfl,_⟩:=B.ref;obtain⟨q2,ys,rfl,_⟩:=G.ref;cases O;cases R;by_cases z:p2=q2
    .subst z;rw[decide_eq_true (B.inj G)];exact SeqAt.EqAt.same _
    .exact SeqAt.EqAt.of_refs z (ih B G D)
   have ua:A.in1.units+a.deep < cLine:=by simp only[Kd.deep] at M ⊢;omega
   have ub:A.in1.units+b.deep < cLine:=by simp only[Kd.deep] at M ⊢;omega
   have r:=fk (A:=A) T (λj=>if j=0 then decide (f=g) else if j=1 then decide (a=c) else decide (b=d)) h L (by omega) (λj x y u v B G O R=>by
    match j,B,G with
    |0,B,G=>
     cases (Option.some.inj B);cases (Option.some.inj G);have:=eN (A:=A.in1) (s:=s) O R;by_cases z:f=g
     .subst z;simpa using this
     .rw[decide_eq_false (λz'=>z (ie z'))] at this;simpa [z] using this
    |1,B,G=>cases (Option.some.inj B);cases (Option.some.inj G);exact sub a c J hc O R ua λ{p q} B G N=>(I c B G N).1
    |2,B,G=>cases (Option.some.inj B);cases (Option.some.inj G);exact sub b d o hd O R ub λ{p q} B G N=>(Z d B G N).1)
   have e:((List.range (min [V.str (tag f),X,Y].length [V.str (tag g),U,y2].length)).all (λj=>if j=0 then decide (f=g) else if j=1 then decide (a=c) else decide (b=d))&&[V.str (tag f),X,Y].length==[V.str (tag g),U,y2].length)=decide (Kd.two f a b=Kd.two g c d):=by by_cases z1:f=g <;> by_cases z2:a=c <;> by_cases z3:b=d <;> simp[List.range_succ,z1,z2,z3]
   rw[e] at r;exact r
end
section
variable {X:Cx}
inductive sj (x:V) (y:V) (H:Hp) (Q:VK):Prop
 |mk (k:_) (k':_) (h1_:cP H x k) (h2_:cP H y k') (h3_:k.deep<=3000) (h4_:Q (.bl (!decide (k=k'))) H):sj x y H Q
theorem lQ (d:X.A.units+3000 < cLine):lC X (compareOp .NotEq) sj:=by intro P s a H x y v u Q I R i h;obtain⟨k,K,c,b,e,q⟩:=h;obtain⟨p,f,rfl,_⟩:=c.ref;obtain⟨L,Y,rfl,_⟩:=b.ref;cases R;cases i;exact(Bq I.bE k K c b (by omega)).2 _ _ _ _ #[.bl _,H,I,rfl,q]
end
def iw:Kd->Str
 | .num=>"number"
 | .ax _=>"blank"
 | .two f _ _=>tag f
def Rest (H:Hp):Kd->List V->Prop
 | .num,xs=>xs=[]
 | .ax n,xs=>xs=[.int n]
 | .two _ a b,xs=>∃x y,xs=[x,y]/\cP H x a/\cP H y b
theorem cP.shape {H:Hp} {v:V} {k:Kd} (h:cP H v k):∃p X,v=.ref p/\H p=some (.tup (.str (iw k) :: X))/\Rest H k X:=by
 cases k with
 |num=>obtain⟨p,e,q⟩:=h;exact#[p,[],e,q,rfl]
 |ax n=>obtain⟨p,e,q⟩:=h;exact#[p,_,e,q,rfl]
 |two f a b=>obtain⟨p,x,y,e,q,c,d⟩:=h;exact#[p,[x,y],e,q,x,y,rfl,c,d]
theorem Rest.mono {H g:Hp} (t:Tk H g) {k:Kd} {xs:List V} (h:Rest H k xs):Rest g k xs:=by
 cases k with
 |num=>exact h
 |ax n=>exact h
 |two f a b=>obtain⟨x,y,e,c,d⟩:=h;exact#[x,y,e,c.mono t,d.mono t]
theorem fR {k:Kd}:iw k="blank"↔∃n,k=.ax n:=by
 cases k with
 |num=>exact#[λh=>absurd h (by decide),λ⟨n,h⟩=>by cases h]
 |ax n=>exact#[λ_=>#[n,rfl],λ_=>rfl]
 |two f a b=>exact#[λh=>absurd h (gq f),λ⟨n,h⟩=>by cases h]
theorem qq {a b:Kd} (h:iw a=iw b):(a=.num/\b=.num)\/(∃n m,a=.ax n/\b=.ax m)\/∃f c d e g,a=.two f c d/\b=.two f e g:=by
 cases a with
 |num=>
  cases b with
  |num=>exact .inl #[rfl,rfl]
  |ax m=>exact absurd (show ("number":Str)="blank" from h) (by decide)
  |two g c d=>exact absurd h.symm (kE g)
 |ax n=>
  cases b with
  |num=>exact absurd (show ("blank":Str)="number" from h) (by decide)
  |ax m=>exact .inr (.inl #[n,m,rfl,rfl])
  |two g c d=>exact absurd h.symm (gq g)
 |two f c d=>
  cases b with
  |num=>exact absurd h (kE f)
  |ax m=>exact absurd h (gq f)
  |two g e G=>have:=ie h;subst this;exact .inr (.inr #[f,c,d,e,G,rfl,rfl])
def Ce (H:Hp) (v:V) (p:Kd×Kd):Prop:=∃a x y,v=.ref a/\H a=some (.tup [x,y])/\cP H x p.1/\cP H y p.2
theorem Ce.mono {H d:Hp} (t:Tk H d) {v:V} {p:Kd×Kd} (h:Ce H v p):Ce d v p:=let ⟨a,x,y,e,q,c,b⟩:=h;⟨a,x,y,e,t _ _ q,c.mono t,b.mono t⟩
abbrev Ps (H:Hp):List V->List (Kd×Kd)->Prop:=Paired (Ce H)
theorem Ps.mono {H a:Hp} (t:Tk H a) {vs:List V} {K:List (Kd×Kd)} (h:Ps H vs K):Ps a vs K:=Paired.imp' (λ_ _ q=>q.mono t) h
theorem bh {n:Nat} (h:n<=16000000):n < sizeLine:=Nat.lt_of_le_of_lt h (by decide)
theorem kL {n:Nat} (h:n<=16000000):n<=sizeLine:=Nat.le_of_lt (bh h)
def oI (H:Hp) (k:List (Key×V)) (φ:eR):Prop:=∀n:Int,(cE k (Sum.inl n)=none/\φ n=none)\/∃v t,cE k (Sum.inl n)=some v/\φ n=some t/\cP H v t
theorem oI.mono {H d:Hp} (t:Tk H d) {K:List (Key×V)} {φ:eR} (h:oI H K φ):oI d K φ:=λn=>(h n).imp id λ⟨v,k,a,b,c⟩=>#[v,k,a,b,c.mono t]
theorem oI.nil (H:Hp):oI H [] (λ_=>none):=λ_=>.inl #[rfl,rfl]
theorem oI.put {H:Hp} {k:List (Key×V)} {φ:eR} (h:oI H k φ) (n:Int) {v:V} {t:Kd} (g:cP H v t):oI H (putK k (Sum.inl n) v) (Wk.put φ n t):=λm=>by
 by_cases e:m=n
 .subst e;refine .inr #[v,t,?_,?_,g]
  .rw[fO,if_pos rfl]
  .simp[Wk.put]
 .have a:cE (putK k (Sum.inl n) v) (Sum.inl m)=cE k (Sum.inl m):=by
   rw[fO,if_neg (λz=>e (Sum.inl.inj z))]
  have E:Wk.put φ n t m=φ m:=by simp[Wk.put,e]
  rw[a,E];exact h m
def Dy:Kd->Bool
 | .two _ _ _=>true
 |_=>false
theorem sk (k:Kd):CW (.str (iw k)) [.str "pair",.str "to"]=Dy k:=by
 cases k with
 |num=>decide +kernel
 |ax n=>show CW (.str "blank") [.str "pair",.str "to"]=false;decide +kernel
 |two f a b=>
         cases f
         .show CW (.str "pair") [.str "pair",.str "to"]=true;decide +kernel
         .show CW (.str "to") [.str "pair",.str "to"]=true;decide +kernel
end L2
namespace K1
open PySem L2 Wk
def top (i:Nat):Stmt:=PySem.Challenge.pw_widekind_k02_whole_made_alike.main.body.getD i (.Pass ⟨0,0,0,0⟩)
abbrev sm:Stmt:=top 2
abbrev jB:Stmt:=top 3
abbrev mN (j:Nat):Stmt:=inClass (top 5) j
abbrev xZ:Stmt:=inClass (top 5) 0
abbrev de:Stmt:=inClass (top 5) 1
abbrev c8:Stmt:=inClass (top 5) 2
abbrev jC:Stmt:=inClass (top 5) 3
abbrev iB:Stmt:=top 7
abbrev so:Stmt:=top 9
abbrev Ep:Stmt:=top 10
abbrev oJ:Stmt:=top 11
abbrev oK:Stmt:=top 12
abbrev oM:Stmt:=top 13
abbrev fD:Stmt:=top 14
abbrev oN:Stmt:=top 15
abbrev jD:Stmt:=top 16
abbrev oO:Stmt:=top 17
abbrev x4:Stmt:=top 18
abbrev oP:Stmt:=top 19
abbrev oQ:Stmt:=top 20
abbrev Cf:Stmt:=top 21
abbrev uQ:Stmt:=top 22
section
variable {P:Program} {w:World} {K:W.Frag} {mg:Str->Option Value} {base:Heap} {f:Addr} {fd:FuncData}
inductive dU (vs:List V) (H:Hp) (Q:VK) (zz3:XK):Prop
 |mk (v:_) (k:_) (h1_:vs=[v]) (h2_:cP H v k) (h3_:k.size<=10000000) (h4_:∀r ws H',aq H H'->H r=none->H' r=some (.lst ws)->Ks H' ws k.parts->Q (.ref r) H'):dU vs H Q zz3
theorem tZ:a9 ["kind","order","waiting","part"] ["kind"] (ao sm):=#[rfl,rfl,rfl,by decide +kernel,rfl,by decide +kernel,by decide +kernel]
inductive Br (H:Hp) (k:Kd) (lo:Addr) (lw:Addr) (v:V) (m:Nat) (σ:St) (H1:Hp):Prop
 |mk (p:_) (os:_) (ws:_) (i:_) (h1:σ=[some v,some (.ref lo),some (.ref lw),p]) (h2:m=k.parts.length - i) (h3:aq H H1) (h4:H1 lo=some (.lst os)) (h5:H1 lw=some (.lst ws)) (h6:Ks H1 os (k.parts.take i)) (h7:Ks H1 ws (mO [k] i).reverse):Br H k lo lw v m σ H1
def x5 (K:W.Frag):TS:=aN (dk (ou K "list" cB (af (2:Nat)) (ai (bj (cn K) (af (3:Nat)) (tC (V.int (2:Int)))) av))) (dk (ou K "list" cB (af (2:Nat)) (ai (bj (cn K) (af (3:Nat)) (tC (V.int (1:Int)))) av)))
def x6 (K:W.Frag):TS:=cI (bD (bj ki (lH (aV K) (ai (af (3:Nat)) av)) (tC (V.int (3:Int))))) (x5 K) cC
def x8 (K:W.Frag):TS:=aN (dk (ou K "list" cB (af (1:Nat)) (ai (af (3:Nat)) av))) (x6 K)
def x9 (K:W.Frag):TS:=aN (bq (iz K "list" iq (af (2:Nat))) (az (3:Nat))) (x8 K)
def yc (K:W.Frag):TS:=aN (eQ (iS K (af (2:Nat))) (x9 K)) (cT (af (1:Nat)))
def yd (K:W.Frag):TS:=aN (bq (cK (ai (af (0:Nat)) av)) (az (2:Nat))) (yc K)
def ye (K:W.Frag):TS:=aN (bq (cK av) (az (1:Nat))) (yd K)
theorem yg (F:gj K "parts" "parts" sm f fd) (ml:mg "len"=none):aU P w K mg base cM 1 f fd ["kind"] dU:=by
 refine F.ok tZ (λvs H Q E h=>?_) (λaC A ap s H vs Q E hr h=>?_)
 .obtain⟨v,k,rfl,_,_,_⟩:=h;rfl
 obtain⟨v,k,rfl,hk,hB,q⟩:=h;have nd:=tZ.nd;refine#[ye K,ae (ay (i:=1) nd rfl (Or.inl rfl) (ba ag)) (ae (ay (i:=2) nd rfl (Or.inl rfl) (ba (aa (pv 0) ag))) (ae (dm PassesOwn.never (cU (pv 2) (λ_=>rfl)) (ae (ay (i:=3) nd rfl (Or.inl rfl) (dq PySem.F.plainAttrs_list PySem.F.slot_list_pop PySem.F.type_list_pop dr (pv 2))) (ae (cp (eD PySem.F.plainAttrs_list PySem.F.slot_list_append PySem.F.type_list_append bV (pv 1) (aa (pv 3) ag))) (aj (cb (aD dj (bX br rfl ml PySem.boot_len (aa (pv 3) ag)) ak (aX _)) (ae (cp (eD PySem.F.plainAttrs_list PySem.F.slot_list_append PySem.F.type_list_append bV (pv 2) (aa (aB aG (pv 3) ak (λ_ _=>rfl)) ag))) (aj (cp (eD PySem.F.plainAttrs_list PySem.F.slot_list_append PySem.F.type_list_append bV (pv 2) (aa (aB aG (pv 3) ak (λ_ _=>rfl)) ag))))) bw))))) (aj (bc (pv 1))))),?_];refine#[Nat.zero_le _,λlo I=>?_];refine#[_,rfl,(by show 1<=sizeLine;decide),λL B=>?_];have e:L≠lo:=λz=>by rw[z,ab] at B;cases B
 have C:H L=none:=by rw[ah e] at B;exact B
 have an:k.parts.length<=10000000:=by rw[Kd.cm];exact hB
 refine#[(Br H k lo L v),#[k.parts.length,none,[],[v],0,rfl,rfl,(aq.new I).upd C,?_,ab,.nil,.cons ?_ .nil],?_]
 .rw[ah e.symm,ab]
 .exact hk.mono (aq.tk ((aq.new I).upd C))
 rintro m σ d ⟨p,os,ws,i,rfl,rfl,hS,hO,hW,kO,D⟩;have as:os.length<=10000000:=by rw[Paired.length kO,List.length_take];omega
 have Z:ws.length<=10000000:=by rw[Paired.length D,List.length_reverse];have:=fB [k] i;rw[cw] at this;omega
 refine#[_,rfl,!ws.isEmpty,.inl #[ws,bp.of hW,rfl],?_];cases l:mO [k] i with
 |nil=>rw[l] at D;cases D;refine cA #[_,rfl,q lo os d hS I hO ?_];have:=tY l;rw[cw] at this;rwa [List.take_of_length_le this] at kO
 |cons t r=>
  rw[l,List.reverse_cons] at D;obtain⟨o,x,rfl,al,kx⟩:=bt D;have Y:k.parts[i]?=some t:=by
   have h1:=fA [k] i;rw[cw,l,fQ] at h1;have h2:(k.parts.drop i)[0]?=some t:=by rw[<-h1];rfl
   rwa [List.getElem?_drop] at h2
  have hi:i < k.parts.length:=by have:=List.getElem?_eq_some_iff.mp Y;exact this.1
  have he:(!(o++[x]).isEmpty)=true:=by simp
  rw[if_pos he];refine#[_,λ_ _ z=>z,?_];refine#[_,rfl,.inl #[rfl,_,bp.of hW],L,o++[x],x,rfl,rfl,hW,by simp,?_];rw[List.dropLast_concat];have G:Tk d (upd d L (.lst o)):=Tk.lst hW;have U:upd d L (.lst o) lo=some (.lst os):=by rw[ah e.symm];exact hO
  refine#[_,rfl,.inl #[rfl,_,bp.of U],_,rfl,lo,os,x,rfl,rfl,U,bh (by omega),?_];have J:Tk (upd d L (.lst o)) (upd (upd d L (.lst o)) lo (.lst (os++[x]))):=Tk.lst U;have S2:aq H (upd (upd d L (.lst o)) lo (.lst (os++[x]))):=(hS.upd C).upd I;have N:=kx.mono (G.trans J);have S:Ks (upd (upd d L (.lst o)) lo (.lst (os++[x]))) (os++[x]) (k.parts.take (i+1)):=by rw[List.take_add_one,Y];exact bZ (kO.mono (G.trans J)) (.cons N .nil)
  have O:=Ks.mono (G.trans J) al;have M:upd (upd d L (.lst o)) lo (.lst (os++[x])) L=some (.lst o):=by rw[ah e,ab]
  have aA:o.length+1<=10000000:=by rw[List.length_append] at Z;exact Z
  have R:upd (upd d L (.lst o)) lo (.lst (os++[x])) lo=some (.lst (os++[x])):=ab;generalize am:upd (upd d L (.lst o)) lo (.lst (os++[x]))=H2 at S2 N S O M R ⊢;cases t with
  |num=>obtain⟨u,rfl,c⟩:=N;refine#[_,rfl,u,_,rfl,.inr (cx.of c),rfl,_,rfl,?_];refine bO (λz=>absurd z (by simp)) λ_=>?_;exact#[k.parts.length - (i+1),by omega,_,_,o,i+1,rfl,rfl,S2,R,M,S,by rw[eM l];exact O]
  |ax n=>obtain⟨u,rfl,c⟩:=N;refine#[_,rfl,u,_,rfl,.inr (cx.of c),rfl,_,rfl,?_];refine bO (λz=>absurd z (by simp)) λ_=>?_;exact#[k.parts.length - (i+1),by omega,_,_,o,i+1,rfl,rfl,S2,R,M,S,by rw[eM l];exact O]
  |two g a b=>obtain⟨u,X,y,rfl,c,ka,kb⟩:=N;refine#[_,rfl,u,_,rfl,.inr (cx.of c),rfl,_,rfl,?_];refine bO (λ_=>?_) λz=>absurd (by simp) z;refine#[_,rfl,.inl #[rfl,_,bp.of M],_,rfl,u,_,2,y,rfl,rfl,cx.of c,ar (j:=2) rfl,L,o,y,rfl,rfl,M,bh (by omega),?_];have ac:upd H2 L (.lst (o++[y])) u=some (.tup [.str (tag g),X,y]):=Tk.lst M _ _ c;refine#[_,rfl,.inl #[rfl,_,bp.of ab],_,rfl,u,_,1,X,rfl,rfl,cx.of ac,ar (j:=1) rfl,L,o++[y],X,rfl,rfl,ab,bh (by rw[List.length_append];simp;omega),?_];rw[iN];have T:Tk H2 (upd H2 L (.lst (o++[y]++[X]))):=Tk.lst M;refine#[k.parts.length - (i+1),by omega,_,_,o++[y]++[X],i+1,rfl,rfl,S2.upd C,by rw[ah e.symm];exact R,ab,S.mono T,?_];rw[eM l];show Ks _ _ (a :: b :: r).reverse;rw[List.reverse_cons,List.reverse_cons];exact bZ (bZ (O.mono T) (.cons (kb.mono T) .nil)) (.cons (ka.mono T) .nil)
end
theorem gF {c:Bool} {A B:Prop} (h:c=true) (x:A):if c=true then A else B:=by rw[if_pos h];exact x
abbrev NB:List Str:=["kind","make","ready","part","one","other"]
structure EI where
 par:Arguments
 body:Expr
 scope:Scope
 pos:Pos
def Dz (s:Stmt):EI:=match (bx s).getLast? with
 |some (.Return (some (.Call _ [_,.Lambda a b sc p] _ _)) _)=>#[a,b,sc,p]
 |_=>#[{posonlyargs:=[],args:=[],vararg:=none,kwonlyargs:=[],kw_defaults:=[],kwarg:=none,defaults:=[]},.Constant .none 0 ⟨0,0,0,0⟩,{kind:=.function,names:=[],isGenerator:=false,isCoroutine:=false},⟨0,0,0,0⟩]
theorem cV.mono {H d:Hp} {p:Addr} {D:Pos} {q:Str} {P:Array Value} (s:aq H d) (h:cV H p D q P):cV d p D q P:=#[s _ _ h.at_,h.ok,h.known.imp id λ⟨c,a,b⟩=>#[c,a,s _ _ b]]
section
variable {P:Program} {w:World} {K:W.Frag} {mg:Str->Option Value} {base:Heap} {f g fb:Addr} {fd gd fbd:FuncData}
theorem t7:a9 NB ["kind","make"] (ao jB):=#[rfl,rfl,rfl,by decide +kernel,rfl,by decide +kernel,by decide +kernel]
abbrev XB (P:Program) (w:World) (K:W.Frag) (mg:Str->Option Value) (base:Heap) (f:Addr) (c:Value) (A:Around) (o:List Env) (s:Shared) (H:Hp):Cx:=(fw cM P w K mg base NB "built" (ao jB) f c A o s H E0).mV
end
def Kx (S:Addr->Prop) (H h:Hp):Prop:=∀b o,H b=some o->¬S b->h b=some o
section
variable {S:Addr->Prop} {H H1 H2:Hp}
theorem Kx.refl (S:Addr->Prop) (H:Hp):Kx S H H:=λ_ _ h _=>h
theorem Kx.of (s:aq H H1):Kx S H H1:=λb o h _=>s b o h
theorem Kx.trans (a:Kx S H H1) (b:Kx S H1 H2):Kx S H H2:=λc o h n=>b c o (a c o h n) n
theorem Kx.upd {p:Addr} {o:HO} (a:Kx S H H1) (h:H p=none):Kx S H (L2.upd H1 p o):=λb u q n=>by rw[ah (au q h)];exact a b u q n
theorem Kx.qr {p:Addr} {o:HO} (a:Kx S H H1) (h:S p):Kx S H (L2.upd H1 p o):=λb u q n=>by rw[ah (λz=>n (by rw[z];exact h))];exact a b u q n
end
def sr (S:Addr->Prop) (H:Hp):Prop:=∀b,S b->H b≠none/\∀X,H b≠some (.tup X)
theorem sr.tk {S:Addr->Prop} {H H1:Hp} (h:sr S H) (k:Kx S H H1):Tk H H1:=λp X e=>k p _ e λz=>(h p z).2 X e
theorem sr.new {S:Addr->Prop} {H:Hp} (h:sr S H) {p:Addr} (e:H p=none):¬S p:=λz=>(h p z).1 e
def DA {T:Type} (R:T->V->Kd->Prop) (t:T) (H:Hp) (x:V):Kd->Prop
 | .two f a b=>∃p X y,x=.ref p/\H p=some (.tup [.str (tag f),X,y])/\R t X a/\R t y b
 |u=>cP H x u
abbrev Rs {T:Type} (R:T->V->Kd->Prop) (t:T):List V->List Kd->Prop:=Paired (R t)
section
variable {P:Program} {w:World} {K:W.Frag} {mg:Str->Option Value} {base:Heap} {f g fb:Addr} {fd gd fbd:FuncData}
inductive yi {T:Type} (H:Hp) (J:T->Hp->Prop) (R:T->V->Kd->Prop) (S:Addr->Prop) (k:Kd) (le:T->T->Prop) (lp:Addr) (lr:Addr) (mk:Addr) (sz:T->Nat) (t0:T) (v:V) (ws:List V) (i:Nat) (σ:St) (H3:Hp):Prop
 |mk (t:_) (p:_) (o1:_) (o2:_) (xs:_) (h1_:σ=[some v,some (.ref mk),some (.ref lp),p,o1,o2]) (h2_:le t0 t) (h3_:sz t<=i) (h4_:Kx S H H3) (h5_:J t H3) (h6_:H3 lr=some (.lst ws)) (h7_:H3 lp=some (.lst xs)) (h8_:Ks H3 ws k.parts) (h9_:Rs R t xs (mO [k] (k.parts.length - i)).reverse):yi H J R S k le lp lr mk sz t0 v ws i σ H3
theorem qt {T:Type} {S:Addr->Prop} {J:T->Hp->Prop} {le:T->T->Prop} {R:T->V->Kd->Prop} {sz:T->Nat} {t0:T} {mk:Addr} {r:Addr->List V->Hp->VK->Prop} {D:Value} {A:Around} {O:List Env} {s:Shared} {H:Hp} {v:V} {k:Kd} {Q:VK} {np:Nat} (hr:dG np (A.deeper (PyProof.Rows.envOfC "built" (ao jB) s.heap.objs.size f D))) (a5:1<=np) (G:aU P w K mg base cM 1 g gd ["kind"] dU) (bG:Binds K gd ["kind"] []) (kG:W.keepIn K (.ref g)=true) (mG:mg "parts"=some (.ref g)) (mr:mg "reversed"=none) (ml:mg "len"=none) (hc:∀(f':Addr) (a0:List (Addr×Obj)) (σ:St) (m:Hp) (s':Shared) (vs:List V) (us:List Value) (Q':VK),Inv (XB P w K mg base f D A O s H) a0 σ m s'->Vals vs us->r f' vs m Q'->wpAny (model P w) (XB P w K mg base f D A O s H).A (call (.ref f') us) (EP (XB P w K mg base f D A O s H) a0 σ Q') (XB P w K mg base f D A O s H).xe s') (hf:∀(f':Addr) (vs:List V) (m:Hp) (Q':VK),r f' vs m Q'->∃c L N B C cl,m f'=some (.ext (gO f' c L N B C cl))) (bd:∃c L N B C cl,H mk=some (.ext (gO mk c L N B C cl))) (bs:¬S mk) (hk:cP H v k) (hB:k.size<=100000) (hS:∀t H,J t H->sr S H) (hJ:∀t H m,J t H->(∀b,S b->m b=H b)->Tk H m->J t m) (bB:∀t,le t t) (bl:∀a b c,le a b->le b c->le a c) (hR:∀t t' v k,le t t'->R t v k->R t' v k) (j0:J t0 H) (bE:sz t0=0) (hm:∀(t:T) (u:Kd) (H1:Hp) (x:V) (Q':VK),le t0 t->sz t < k.parts.length->Kx S H H1->J t H1->u∈k.parts->DA R t H1 x u->(∀t' y H2,le t t'->sz t'<=sz t+1->Kx S H1 H2->J t' H2->R t' y u->Q' y H2)->r mk [x] H1 Q') (q:∀t y m,le t0 t->sz t<=k.parts.length->Kx S H m->J t m->R t y k->Q y m):∃t,n8 (XB P w K mg base f D A O s H) (bx jB) t/\t (Ends.of Q) (start NB [v,.ref mk]) H:=by
 have nd:=t7.nd;refine#[_,ae (ay (i:=2) nd rfl (Or.inl rfl) (ba ag)) (ae (gb PassesOwn.never rfl (oB rfl mr (aa (bU G (hr.mono a5) rfl mG kG bG .nil bN (aa (pv 0) ag)) ag)) (dg (i:=3) nd rfl (Or.inl rfl)) (aj (cb (aD dj (bX br rfl ml PySem.boot_len (aa (pv 3) ag)) ak (aX _)) (ae (ay (i:=4) nd rfl (Or.inl rfl) (dq PySem.F.plainAttrs_list PySem.F.slot_list_pop PySem.F.type_list_pop dr (pv 2))) (ae (ay (i:=5) nd rfl (Or.inl rfl) (dq PySem.F.plainAttrs_list PySem.F.slot_list_pop PySem.F.type_list_pop dr (pv 2))) (aj (cp (eD PySem.F.plainAttrs_list PySem.F.slot_list_append PySem.F.type_list_append bV (pv 2) (aa (qk (i:=1) (pv 1) (aa (cj (aa (aB aG (pv 3) ak (λ_ _=>rfl)) (aa (pv 4) (aa (pv 5) ag)))) ag) hc hf) ag)))))) (aj (cp (eD PySem.F.plainAttrs_list PySem.F.slot_list_append PySem.F.type_list_append bV (pv 2) (aa (qk (i:=1) (pv 1) (aa (pv 3) ag) hc hf) ag))))))) (aj (bc (dq PySem.F.plainAttrs_list PySem.F.slot_list_pop PySem.F.type_list_pop dr (pv 2))))),?_];refine#[Nat.zero_le _,λl am=>?_];have S1:aq H (upd H l (.lst [])):=aq.new am;refine#[_,rfl,v,k,rfl,hk.mono S1.tk,(by omega),λlr ws H2 S2 aM aQ a1=>?_];refine#[lr,ws,rfl,bp.of aQ,?_];have be:H2 l=some (.lst []):=S2 _ _ ab;have aO:ws.length=k.parts.length:=Paired.length a1;have bH:k.parts.length<=100000:=by rw[Kd.cm];exact hB
 have aW:lr≠l:=λz=>by rw[z,ab] at aM;cases aM
 have a7:H lr=none:=S1.free aM;have Z:¬S l:=(hS _ _ j0).new am;have bk:¬S lr:=(hS _ _ j0).new a7;have aH:aq H H2:=S1.trans S2;have bo:∀b,S b->H2 b=H b:=λb hb=>by
  cases e:H b with
  |none=>exact absurd e ((hS _ _ j0) b hb).1
  |some o=>exact aH b o e
 have j2:J t0 H2:=hJ _ _ _ j0 bo aH.tk;have aJ:∀{t:T} {E:Hp} {xs ys:List V} {u:Kd},J t E->E l=some (.lst xs)->J t (upd E l (.lst ys)):=λ{t E xs ys _} j e=>hJ _ _ _ j (λb hb=>ah λz=>Z (by rw[<-z];exact hb)) (Tk.lst e);refine oC (yi H J R S k le l lr mk sz t0 v ws) #[t0,none,none,none,[],rfl,bB _,Nat.le_of_eq bE,.of aH,j2,aQ,be,a1,?_] (λi σ d hi ⟨t,p,o1,o2,xs,_,_,_,_,_,h,_,_,_⟩=>bp.of h) (λi x σ d hi hx hP=>?_) (λσ d hP=>?_)
 .rw[Nat.sub_zero,oG (by rw[cw];exact Nat.le_refl _)];exact .nil
 .obtain⟨t,p,o1,o2,xs,rfl,ac,a3,hK,hj,as,I,kR,kX⟩:=hP;obtain⟨u,hu,ku⟩:=dw kR hx;rw[aO] at hi hu;obtain⟨r',an⟩:=oF (ts:=[k]) (n:=k.parts.length - 1 - i) (by rw[cw];exact hu);have aI:=eM an;rw[show k.parts.length - 1 - i+1=k.parts.length - i by omega] at aI;have aC:k.parts.length - (i+1)=k.parts.length - 1 - i:=by omega
  rw[aI] at kX;have bg:xs.length<=100000:=by rw[Paired.length kX,List.length_reverse,<-aI];have:=fB [k] (k.parts.length - i);rw[cw] at this;omega
  have aF:u∈k.parts:=List.mem_of_getElem? hu;obtain⟨px,ys,rfl,aR,ry⟩:=ku.shape;refine#[_,rfl,px,_,rfl,.inr (cx.of aR),rfl,_,rfl,?_];have aK:∀E,Kx S H E->∃c L N B C cl,E mk=some (.ext (gO mk c L N B C cl)):=λE s5=>by obtain⟨c,L,N,B,C,cl,e⟩:=bd;exact#[c,L,N,B,C,cl,s5 _ _ e bs]
  have aA:∀(aP aS:Option V) (Y:List V) (aL:List Kd) (H4:Hp) (t':T) (y:V) (E:Hp),Kx S H H4->Tk d H4->H4 lr=some (.lst ws)->H4 l=some (.lst Y)->J t H4->Rs R t Y aL->u :: aL.reverse=mO [k] (k.parts.length - (i+1))->le t t'->sz t'<=sz t+1->Kx S H4 E->J t' E->R t' y u->yi H J R S k le l lr mk sz t0 v ws (i+1) [some v,some (.ref mk),some (.ref l),some (.ref px),aP,aS] (upd E l (.lst (Y++[y]))):=by intro aP aS Y aL H4 t' y E K4 T4 bC ap j4 bv a6 a2 bF U j5 ry;have M:=U _ _ ap Z;have al:Tk H4 E:=(hS _ _ j4).tk U;have bm:Tk d (upd E l (.lst (Y++[y]))):=(T4.trans al).trans (Tk.lst M);refine#[t',_,_,_,Y++[y],rfl,bl _ _ _ ac a2,(by omega),(K4.trans U).upd am,aJ (u:=u) j5 M,by rw[ah aW];exact U _ _ bC bk,ab,kR.mono bm,?_];rw[<-a6,List.reverse_cons,List.reverse_reverse];exact bZ (Paired.imp' (λa b q=>hR _ _ _ _ a2 q) bv) (.cons ry .nil)
  cases u with
  |num=>cases ry;refine bO (λz=>absurd z (by simp)) λ_=>?_;refine#[_,rfl,.inl #[rfl,_,bp.of I],?_];refine#[mk,rfl,aK _ hK,_,rfl,hm t .num d _ _ ac (by omega) hK hj aF ku λt' y E l5 s5 U j5 r5=>?_];exact#[l,xs,y,rfl,rfl,U _ _ I Z,bh (by omega),aA _ _ xs _ d t' y E hK (Tk.refl _) as I hj kX (by rw[aC,an,List.reverse_reverse];rfl) l5 s5 U j5 r5]
  |ax n=>cases ry;refine bO (λz=>absurd z (by simp)) λ_=>?_;refine#[_,rfl,.inl #[rfl,_,bp.of I],?_];refine#[mk,rfl,aK _ hK,_,rfl,hm t (.ax n) d _ _ ac (by omega) hK hj aF ku λt' y E l5 s5 U j5 r5=>?_];exact#[l,xs,y,rfl,rfl,U _ _ I Z,bh (by omega),aA _ _ xs _ d t' y E hK (Tk.refl _) as I hj kX (by rw[aC,an,List.reverse_reverse];rfl) l5 s5 U j5 r5]
  |two g' a b=>
   obtain⟨xa,xb,rfl,ka,kb⟩:=ry;refine bO (λ_=>?_) λz=>absurd (by simp) z;have bb:Rs R t xs (r'.reverse++[b]++[a]):=by
    have e:(kids (Kd.two g' a b)++r').reverse=r'.reverse++[b]++[a]:=by simp[kids]
    rw[<-e];exact kX
   obtain⟨Y,ya,rfl,bA,a8⟩:=bt bb;obtain⟨X,yb,rfl,bi,bf⟩:=bt bA;refine#[_,rfl,.inl #[rfl,_,bp.of I],l,_,ya,rfl,rfl,I,by simp,?_];rw[List.dropLast_concat];have ap:upd d l (.lst (X++[yb])) l=some (.lst (X++[yb])):=ab;refine#[_,rfl,.inl #[rfl,_,bp.of ap],l,_,yb,rfl,rfl,ap,by simp,?_];rw[List.dropLast_concat,iN];have M:upd d l (.lst X) l=some (.lst X):=ab;have al:Tk d (upd d l (.lst X)):=Tk.lst I;have U:Kx S H (upd d l (.lst X)):=hK.upd am;have j5:J t (upd d l (.lst X)):=aJ (u:=a) hj I;have a4:upd d l (.lst X) lr=some (.lst ws):=by rw[ah aW];exact as
   have aY:=al _ _ aR;generalize upd d l (.lst X)=E at M al U j5 a4 aY ⊢;refine#[_,rfl,.inl #[rfl,_,bp.of M],?_];refine#[mk,rfl,aK _ U,?_];refine#[_,rfl,px,_,0,_,rfl,rfl,cx.of aY,ar (j:=0) rfl,_,rfl,_,rfl,(by show 3<=sizeLine;decide),λtp aT=>?_];have S6:aq E (upd E tp (.tup [.str (tag g'),ya,yb])):=aq.new aT;have bn:¬S tp:=(hS _ _ j5).new aT;have j6:J t (upd E tp (.tup [.str (tag g'),ya,yb])):=hJ _ _ _ j5 (λc hc=>ah λz=>bn (by rw[<-z];exact hc)) S6.tk;refine hm t (.two g' a b) _ _ _ ac (by omega) (U.trans (.of S6)) j6 aF #[tp,ya,yb,rfl,ab,a8,bf] λt' y H7 l7 s7 K7 j7 r7=>?_;refine#[l,X,y,rfl,rfl,K7 _ _ (S6 _ _ M) Z,bh (by simp at bg;omega),?_];exact aA _ _ X _ _ t' y H7 (U.trans (.of S6)) (al.trans S6.tk) (S6 _ _ a4) (S6 _ _ M) j6 bi (by rw[aC,an,List.reverse_reverse]) l7 s7 K7 j7 r7
 .obtain⟨t,p,o1,o2,xs,rfl,ac,a3,hK,hj,as,I,kR,kX⟩:=hP;rw[aO,Nat.sub_self] at kX;have kX:Rs R t xs [k]:=kX;cases kX with
  |cons kx kn=>cases kn;exact#[_,rfl,.inl #[rfl,_,bp.of I],l,_,_,rfl,rfl,I,rfl,q t _ _ ac (by rw[<-aO];exact a3) (hK.upd am) (aJ (u:=k) hj I) kx]
end
end K1
namespace L2
open PySem PySem.Spec PyProof.Rows
structure nc (K:W.Frag) (x qual:Str) (st:Stmt) (f:Addr) (fd:FuncData) (y:Value):Prop where
 ex:∃(oc:Value) (od:Option Addr) (kV doc pm:Value) (an:Option Addr) (cdv ct:Value) (osl:Array (Option Value)),fd=W.fnOf x qual (ck st) (bx st) (ao st) y kV doc pm an cdv ct/\K.lookup f=some #[oc,od,.func fd,osl]/\W.codeIn K cdv qual=true
section
variable {P:Program} {w:World} {K:W.Frag} {mg:Str->Option Value} {base:Heap} {y:Value}
theorem nc.ok {x e:Str} {st:Stmt} {f:Addr} {v:FuncData} {N p:List Str} {k:Nat} {sp:Sp} (F:nc K x e st f v y) (S:a9 N p (ao st)) (U:∀vs H Q E,sp vs H Q E->vs.length=p.length) (d:∀(c:Value) (A:Around) (o:List Env) (s:Shared) (H:Hp) (vs:List V) (Q:VK) (E:XK),dG k (A.deeper (envOfC e (ao st) s.heap.objs.size f c))->sp vs H Q E->∃t,n8 (fw cM P w K mg base N e (ao st) f c A o s H E).mV (bx st) t/\t (Ends.of Q) (start N vs) H):aU P w K mg base cM (k+1) f v p sp:=by obtain⟨g,O,kV,doc,j,m,c,C,L,rfl,i,b⟩:=F.ex;refine xr i b S U λA o s H vs Q E a h=>?_;obtain⟨t,l,q⟩:=d c A o s H vs Q E a h;exact#[t,l.mV,q]
theorem nc.ES {x n:Str} {st:Stmt} {f c:Addr} {v:FuncData} {N p:List Str} {k:Nat} {sp:Sp} (F:nc K x n st f v y) (a:v.code=.ref c) (S:a9 N p (ao st)) (U:∀vs H Q E,sp vs H Q E->vs.length=p.length) (d:∀(A:Around) (o:List Env) (s:Shared) (H:Hp) (vs:List V) (Q:VK) (E:XK),dG k (A.deeper (envOfC n (ao st) s.heap.objs.size f (.ref c)))->sp vs H Q E->∃t,n8 (fw cM P w K mg base N n (ao st) f (.ref c) A o s H E).mV (bx st) t/\t (Ends.of Q) (start N vs) H):aU P w K mg base cM (k+1) f v p sp:=by obtain⟨g,O,kV,doc,r,m,C,u,L,rfl,i,b⟩:=F.ex;have e:C=.ref c:=a;subst e;refine xr i b S U λA o s H vs Q E j h=>?_;obtain⟨t,l,q⟩:=d A o s H vs Q E j h;exact#[t,l.mV,q]
end
section
variable {P:Program} {w:World} {A:Around} {E:Value->Shared->Prop} {s:Shared}
theorem kP {j t:Addr} {n:Nat} {i:Array Value} {v:Value} {Q:Value->Shared->Prop} (D:s.heap.IsTupleIter j t n) (l:s.heap.IsTuple t i) (g:i[n]?=some v) (q:∀h',h'.IsTupleIter j t (n+1)->Heap.SameBut j s.heap h'->Q v {s with heap:=h'}):wpAny (model P w) A (Builtin.SmallTypes.nextOf (.ref j)) Q E s:=by obtain⟨O,G,c,d⟩:=id D;obtain⟨o,b,_,N,a⟩:=l;unfold Builtin.SmallTypes.nextOf;refine wpAny_bind (wpAny_callSpecial?_slot (name:=Str.ofString "__next__") D.typeIs F.slot_tuple_iterator_next (wpAny_call_entry F.slot_tuple_iterator_next D.typeIs F.entry_tuple_iterator_next ?_ (F.args_tuple_iterator_next_1 _)));show wpAny _ _ (field (.ref j) 0 >>=_) _ _ s;refine wpAny_bind (wpAny_field G d (x:=.ref t) rfl ?_);show wpAny _ _ (if (Value.ref t==Value.none)=true then _ else _) _ _ s;rw[if_neg (by exact Bool.false_ne_true)];show wpAny _ _ (field (.ref j) 1 >>=_) _ _ s;refine wpAny_bind (wpAny_field G d (x:=.int n 0) rfl ?_);show wpAny _ _ (seqItems? (.ref t) >>=_) _ _ s;refine wpAny_bind (wpAny_seqItems b a ?_);simp only[g,Int.toNat_natCast];refine wpAny_bind (wpAny_setField G d (by simp) (wpAny_pure #[v,rfl,wpAny_pure (q _ ?_ (Heap.SameBut.update ..))]));refine#[_,Heap.get?_update_self _ G (Obj.isFreed_of_fields (Obj.data_mapFields d _)),(Obj.cls_mapFields ..).trans c,?_];rw[Obj.data_mapFields d];simp[rawInt]
theorem yj {j t:Addr} {n:Nat} {i:Array Value} {Q:Value->Shared->Prop} (h:A.handled=none) (D:s.heap.IsTupleIter j t n) (l:s.heap.IsTuple t i) (g:i[n]?=none) (q:∀h' e,Heap.ExtBut j s.heap h'->(∃o,h'.get? e=some o/\o.cls=.type "StopIteration")->E (.ref e) {s with heap:=h'}):wpAny (model P w) A (Builtin.SmallTypes.nextOf (.ref j)) Q E s:=by obtain⟨O,G,c,f⟩:=id D;obtain⟨u,r,_,N,k⟩:=l;unfold Builtin.SmallTypes.nextOf;refine wpAny_bind (wpAny_callSpecial?_slot (name:=Str.ofString "__next__") D.typeIs F.slot_tuple_iterator_next (wpAny_call_entry F.slot_tuple_iterator_next D.typeIs F.entry_tuple_iterator_next ?_ (F.args_tuple_iterator_next_1 _)));show wpAny _ _ (field (.ref j) 0 >>=_) _ _ s;refine wpAny_bind (wpAny_field G f (x:=.ref t) rfl ?_);show wpAny _ _ (if (Value.ref t==Value.none)=true then _ else _) _ _ s;rw[if_neg (by exact Bool.false_ne_true)];show wpAny _ _ (field (.ref j) 1 >>=_) _ _ s;refine wpAny_bind (wpAny_field G f (x:=.int n 0) rfl ?_);show wpAny _ _ (seqItems? (.ref t) >>=_) _ _ s;refine wpAny_bind (wpAny_seqItems r k ?_);simp only[g,Int.toNat_natCast];refine wpAny_bind (wpAny_rule (wpAny_bind (wpAny_setField G f (by simp) ?_)));show wpAny _ _ (newExc (.type "StopIteration") [] >>=_) _ _ _;refine wpAny_bind ?_;simp only[newTuple,newExc];refine wpAny_bind (wpAny_newObj_type ?_ (by size_fits));refine wpAny_bind (m:=firstArgMember _ _) (wpAny_of_eq (a:=Value.none) rfl ?_);refine wpAny_newObj_type ?_ (by size_fits);simp only[raiseNew];refine wpAny_bind (wpAny_handled ?_);rw[show A.in1.handled=none from h];refine wpAny_bind (wpAny_pure (wpAny_throw ?_));refine q _ _ (λb o d p=>?_) #[_,Heap.get?_push_size _ rfl,rfl];exact Heap.get?_push_of_some _ (Heap.get?_push_of_some _ ((Heap.get?_update_other _ _ (Ne.symm d)).trans p))
end
abbrev lR (h:Heap) (z TI TO:Addr) (j f:Value):Prop:=h.get? z=some {cls:=.type "zip",dict:=none,data:=.fields [j,f,.bool false,.ref TI,.ref TO].toArray,slots:=[].toArray}
structure wK (h:Heap) (z TI TO i1 i2 t1 t2:Addr) (k:Nat) (xs ys:Array Value):Prop where
 ti:IsPair h TI (.ref i1) (.ref i2)
 to:∃a b,IsPair h TO a b
 j1:h.IsTupleIter i1 t1 k
 j2:h.IsTupleIter i2 t2 k
 p1:h.IsTuple t1 xs
 p2:h.IsTuple t2 ys
section
variable {P:Program} {w:World} {A:Around} {E:Value->Shared->Prop} {s:Shared} {z TI TO i1 i2 t1 t2:Addr} {k:Nat} {xs ys:Array Value} {x y:Value}
theorem zQ (D:ZipApart z TI TO i1 i2 t1 t2) (hz:lR s.heap z TI TO .none (.bool false)) (Z:wK s.heap z TI TO i1 i2 t1 t2 k xs ys) (hx:xs[k]?=some x) (hy:ys[k]?=some y) {Q:Value->Shared->Prop} (q:∀h',lR h' z TI TO (rawInt s.heap.objs.size) (.bool false)->wK h' z TI TO i1 i2 t1 t2 (k+1) xs ys->IsPair h' s.heap.objs.size x y->h'.objs.size=s.heap.objs.size+1->(∀c o,c≠z->c≠TO->c≠i1->c≠i2->s.heap.get? c=some o->h'.get? c=some o)->Q (.ref s.heap.objs.size) {s with heap:=h'}):wpAny (model P w) A (Builtin.«zip.__next__» #[[.ref z],[]]) (λf s'=>∃v,f=.done (.ret v)/\Q v s') E s:=by
 obtain⟨a,b,U⟩:=Z.to;show wpAny _ _ (field (.ref z) 2 >>=_) _ _ _;refine wpAny_bind (wpAny_field hz rfl (x:=.bool false) rfl ?_);show wpAny _ _ (field (.ref z) 3 >>=_) _ _ _;refine wpAny_bind (wpAny_field hz rfl (x:=.ref TI) rfl ?_);refine wpAny_bind (wpAny_seqItems Z.ti rfl ?_);show wpAny _ _ (Builtin.SmallTypes.ownedTupleIsFree (.ref z) >>=_) _ _ _;refine wpAny_bind ?_;unfold Builtin.SmallTypes.ownedTupleIsFree;refine wpAny_bind (wpAny_field hz rfl (x:=.none) rfl (wpAny_pure ?_));simp only[if_true];refine wpAny_bind (wpAny_rule ?_);refine wpAny_bind (wpAny_field hz rfl (x:=.ref TO) rfl ?_);refine wpAny_bind (wpAny_setField_rec hz (by simp) λh g p=>?_);replace g:lR h z TI TO .ellipsis (.bool false):=g;refine wpAny_bind ?_;simp only[List.forIn_cons,List.forIn_nil,List.zipIdx_cons,List.zipIdx_nil];refine wpAny_bind (wpAny_bind (wpAny_onRaise ?_));show wpAny _ _ (Builtin.SmallTypes.nextOf (.ref i1) >>=_) _ _ _;have t:∀c o,c≠z->s.heap.get? c=some o->h.get? c=some o:=λc o n e=>p.extBut c o n e;refine wpAny_bind (kP (Z.j1.at λo e=>t _ o D.i1z e) (Z.p1.at λo e=>t _ o D.l1z e) hx λH j2 j=>wpAny_pure ?_);have d:∀c o,c≠z->c≠i1->s.heap.get? c=some o->H.get? c=some o:=λc o n m e=>j.extBut c o m (t c o n e);have o2:IsPair H TO a b:=d _ _ D.TOz D.TOi1 U;refine wpAny_bind (wpAny_seqItems o2 rfl ?_);refine wpAny_bind (wpAny_updateSeq_pair o2 λi O G=>?_);replace O:IsPair i TO x b:=O;refine wpAny_bind (wpAny_letGo (wpAny_pure ?_));refine wpAny_bind (wpAny_bind (wpAny_onRaise ?_));show wpAny _ _ (Builtin.SmallTypes.nextOf (.ref i2) >>=_) _ _ _;have B:∀c o,c≠z->c≠i1->c≠TO->s.heap.get? c=some o->i.get? c=some o:=λc o n m l e=>G.extBut c o l (d c o n m e);refine wpAny_bind (kP (Z.j2.at λo e=>B _ o D.i2z D.i12.symm D.TOi2.symm e) (Z.p2.at λo e=>B _ o D.l2z D.l2i1 D.l2TO e) hy λh4 j4 I=>wpAny_pure ?_);have e4:∀c o,c≠z->c≠i1->c≠TO->c≠i2->s.heap.get? c=some o->h4.get? c=some o:=λc o n m l r e=>I.extBut c o r (B c o n m l e);have o4:IsPair h4 TO x b:=I.extBut _ _ D.TOi2 O;refine wpAny_bind (wpAny_seqItems o4 rfl ?_);refine wpAny_bind (wpAny_updateSeq_pair o4 λC L K=>?_);replace L:IsPair C TO x y:=L;refine wpAny_bind (wpAny_letGo (wpAny_pure (wpAny_pure ?_)));refine wpAny_bind (wpAny_seqItems L rfl ?_);refine wpAny_bind (wpAny_newTuple ?_);have sz:C.objs.size=s.heap.objs.size:=by rw[K.1,I.1,G.1,j.1,p.1]
 have z5:lR C z TI TO .ellipsis (.bool false):=K.extBut _ _ D.TOz.symm (I.extBut _ _ D.i2z.symm (G.extBut _ _ D.TOz.symm (j.extBut _ _ D.i1z.symm g)));have J:∀c o,c≠z->c≠i1->c≠TO->c≠i2->s.heap.get? c=some o->C.get? c=some o:=λc o n m l r e=>K.extBut c o l (e4 c o n m l r e);have i5:C.IsTupleIter i1 t1 (k+1):=j2.at λo e=>K.extBut _ o D.TOi1.symm (I.extBut _ o D.i12 (G.extBut _ o D.TOi1.symm e));have k5:C.IsTupleIter i2 t2 (k+1):=j4.at λo e=>K.extBut _ o D.TOi2.symm e;show wpAny _ _ (Builtin.SmallTypes.ownedTupleHandOut (.ref z) (.ref C.objs.size) >>=_) _ _ _;refine wpAny_bind ?_;unfold Builtin.SmallTypes.ownedTupleHandOut;have z6:lR (C.push {cls:=.type "tuple",data:=.seq [x,y].toArray}) z TI TO .ellipsis (.bool false):=Heap.get?_push_of_some _ z5;refine wpAny_bind (wpAny_setField_rec z6 (by simp) λh7 X M=>?_);replace X:lR h7 z TI TO (rawInt C.objs.size) (.bool false):=X;refine wpAny_setField_rec X (by simp) λS T R=>?_;replace T:lR S z TI TO (rawInt C.objs.size) (.bool false):=T;have u:∀c o,c≠z->C.get? c=some o->S.get? c=some o:=λc o n e=>R.extBut c o n (M.extBut c o n (Heap.get?_push_of_some _ e));have Y:z < C.objs.size:=Heap.lt_size z5;have N:IsPair S C.objs.size x y:=R.extBut _ _ (Nat.ne_of_gt Y) (M.extBut _ _ (Nat.ne_of_gt Y) (Heap.get?_push_size _ rfl));refine wpAny_pure #[_,rfl,?_];rw[sz] at T N ⊢;refine q S T #[u _ _ D.TIz (J _ _ D.TIz D.TIi1 D.TITO D.TIi2 Z.ti),#[x,y,u _ _ D.TOz L],i5.at λo e=>u _ o D.i1z e,k5.at λo e=>u _ o D.i2z e,Z.p1.at λo e=>u _ o D.l1z (J _ o D.l1z D.l1i1 D.l1TO D.l1i2 e),Z.p2.at λo e=>u _ o D.l2z (J _ o D.l2z D.l2i1 D.l2TO D.l2i2 e)] N ?_ λc o n m l r e=>u c o n (J c o n l m r e);rw[R.1,M.1,Heap.size_push,sz]
end
section
variable {P:Program} {w:World} {A:Around} {E:Value->Shared->Prop} {s:Shared} {z TI TO Y i2 t1 t2 T:Addr} {k:Nat} {xs ys:Array Value} {x y f1:Value}
theorem qu {Q:Bool->Shared->Prop} (hz:lR s.heap z TI TO (rawInt T) f1) (H:∃o,s.heap.get? T=some o) (m:f1=.bool true\/f1=.bool false) (q:∀h',lR h' z TI TO (rawInt T) (.bool true)->(∀c o,c≠z->s.heap.get? c=some o->h'.get? c=some o)->h'.objs.size=s.heap.objs.size->Q false {s with heap:=h'}):wpAny (model P w) A (Builtin.SmallTypes.ownedTupleIsFree (.ref z)) Q E s:=by
 obtain⟨O,G⟩:=H;unfold Builtin.SmallTypes.ownedTupleIsFree;refine wpAny_bind (wpAny_field hz rfl (x:=rawInt T) rfl ?_);show wpAny _ _ (loadIfAlive ((T:Int).toNat) >>=_) _ _ _;refine wpAny_bind (Q:=Q) ?_;have e:(T:Int).toNat=T:=Int.toNat_natCast T;rw[e];intro a p d;show Sem.wp _ _ (Sem.loadIfAlive T _) _ _ _ _;rw[Sem.wp,G];show Sem.wp _ _ (Sem.pure (some O)) _ _ _ _;rw[Sem.wp];show wpAny _ _ (field (.ref z) 1 >>=_) _ _ _;refine wpAny_bind (wpAny_field hz rfl (x:=f1) rfl ?_);rcases m with rfl|rfl
 .exact wpAny_pure (q s.heap hz (λ_ _ _ e=>e) rfl)
 .show wpAny _ _ (setField (.ref z) 1 (.bool true) >>=_) _ _ _;refine wpAny_bind (wpAny_setField_rec hz (by simp) λh g b=>wpAny_pure (q h g (λc o n e=>b.extBut c o n e) b.1))
theorem zR (D:ZipApart z TI TO Y i2 t1 t2) (hz:lR s.heap z TI TO (rawInt T) f1) (p:∃o,s.heap.get? T=some o) (j:f1=.bool true\/f1=.bool false) (Z:wK s.heap z TI TO Y i2 t1 t2 k xs ys) (d:xs[k]?=some x) (l:ys[k]?=some y) {Q:Value->Shared->Prop} (q:∀h',lR h' z TI TO (rawInt T) (.bool true)->wK h' z TI TO Y i2 t1 t2 (k+1) xs ys->IsPair h' s.heap.objs.size x y->h'.objs.size=s.heap.objs.size+1->(∀c o,c≠z->c≠Y->c≠i2->s.heap.get? c=some o->h'.get? c=some o)->Q (.ref s.heap.objs.size) {s with heap:=h'}):wpAny (model P w) A (Builtin.«zip.__next__» #[[.ref z],[]]) (λI G=>∃v,I=.done (.ret v)/\Q v G) E s:=by
 show wpAny _ _ (field (.ref z) 2 >>=_) _ _ _;refine wpAny_bind (wpAny_field hz rfl (x:=.bool false) rfl ?_);show wpAny _ _ (field (.ref z) 3 >>=_) _ _ _;refine wpAny_bind (wpAny_field hz rfl (x:=.ref TI) rfl ?_);refine wpAny_bind (wpAny_seqItems Z.ti rfl ?_);show wpAny _ _ (Builtin.SmallTypes.ownedTupleIsFree (.ref z) >>=_) _ _ _;refine wpAny_bind (qu hz p j λh g t S=>?_);simp only[Bool.false_eq_true,if_false,List.forIn_toArray,List.forIn_cons,List.forIn_nil];refine wpAny_bind (wpAny_bind (wpAny_bind (wpAny_holding ?_)));show wpAny _ _ (Builtin.SmallTypes.nextOf (.ref Y) >>=_) _ _ _;refine wpAny_bind (kP (Z.j1.at λo e=>t _ o D.i1z e) (Z.p1.at λo e=>t _ o D.l1z e) d λH M B=>wpAny_pure ?_);have f:∀c o,c≠z->c≠Y->s.heap.get? c=some o->H.get? c=some o:=λc o n m e=>B.extBut c o m (t c o n e);refine wpAny_pure ?_;refine wpAny_bind (wpAny_bind (wpAny_holding ?_));show wpAny _ _ (Builtin.SmallTypes.nextOf (.ref i2) >>=_) _ _ _;refine wpAny_bind (kP (Z.j2.at λo e=>f _ o D.i2z D.i12.symm e) (Z.p2.at λo e=>f _ o D.l2z D.l2i1 e) l λC L i=>wpAny_pure ?_);have J:∀c o,c≠z->c≠Y->c≠i2->s.heap.get? c=some o->C.get? c=some o:=λc o n m r e=>i.extBut c o r (f c o n m e);have O:lR C z TI TO (rawInt T) (.bool true):=i.extBut _ _ D.i2z.symm (B.extBut _ _ D.i1z.symm g);have K:C.objs.size=s.heap.objs.size:=by rw[i.1,B.1];exact S
 refine wpAny_pure (wpAny_pure ?_);refine wpAny_bind (wpAny_newTuple (hsz:=by show 2<=sizeLine;decide) ?_);refine wpAny_pure #[_,rfl,?_];show Q (.ref C.objs.size) {s with heap:=C.push {cls:=.type "tuple",data:=.seq [x,y].toArray}};rw[K];obtain⟨a,b,U⟩:=Z.to;have u:∀c o,C.get? c=some o->(C.push {cls:=.type "tuple",data:=.seq [x,y].toArray}).get? c=some o:=λc o e=>Heap.get?_push_of_some _ e;have N:IsPair (C.push {cls:=.type "tuple",data:=.seq [x,y].toArray}) s.heap.objs.size x y:=by rw[<-K];exact Heap.get?_push_size _ rfl
 refine q _ (u _ _ O) #[u _ _ (J _ _ D.TIz D.TIi1 D.TIi2 Z.ti),#[a,b,u _ _ (J _ _ D.TOz D.TOi1 D.TOi2 U)],M.at λo e=>u _ o (i.extBut _ o D.i12 e),L.at λo e=>u _ o e,Z.p1.at λo e=>u _ o (J _ o D.l1z D.l1i1 D.l1i2 e),Z.p2.at λo e=>u _ o (J _ o D.l2z D.l2i1 D.l2i2 e)] N ?_ λc o n m r e=>u c o (J c o n m r e);rw[Heap.size_push,K]
theorem qv (b:A.handled=none) (D:ZipApart z TI TO Y i2 t1 t2) (hz:lR s.heap z TI TO .none (.bool false)) (Z:wK s.heap z TI TO Y i2 t1 t2 k xs ys) (a:xs[k]?=none) {Q:Fin->Shared->Prop} (q:∀h' e,(∀c o,c≠z->c≠Y->s.heap.get? c=some o->h'.get? c=some o)->(∃o,h'.get? e=some o/\o.cls=.type "StopIteration")->E (.ref e) {s with heap:=h'}):wpAny (model P w) A (Builtin.«zip.__next__» #[[.ref z],[]]) Q E s:=by
 show wpAny _ _ (field (.ref z) 2 >>=_) _ _ _;refine wpAny_bind (wpAny_field hz rfl (x:=.bool false) rfl ?_);show wpAny _ _ (field (.ref z) 3 >>=_) _ _ _;refine wpAny_bind (wpAny_field hz rfl (x:=.ref TI) rfl ?_);refine wpAny_bind (wpAny_seqItems Z.ti rfl ?_);show wpAny _ _ (Builtin.SmallTypes.ownedTupleIsFree (.ref z) >>=_) _ _ _;refine wpAny_bind ?_;unfold Builtin.SmallTypes.ownedTupleIsFree;refine wpAny_bind (wpAny_field hz rfl (x:=.none) rfl (wpAny_pure ?_));simp only[if_true];refine wpAny_bind (wpAny_rule ?_);refine wpAny_bind (wpAny_field hz rfl (x:=.ref TO) rfl ?_);refine wpAny_bind (wpAny_setField_rec hz (by simp) λh d l=>?_);replace d:lR h z TI TO .ellipsis (.bool false):=d;refine wpAny_bind ?_;simp only[List.forIn_cons,List.forIn_nil,List.zipIdx_cons,List.zipIdx_nil];refine wpAny_bind (wpAny_bind (wpAny_onRaise ?_));show wpAny _ _ (Builtin.SmallTypes.nextOf (.ref Y) >>=_) _ _ _;have t:∀c o,c≠z->s.heap.get? c=some o->h.get? c=some o:=λc o n e=>l.extBut c o n e;refine wpAny_bind (yj b (Z.j1.at λo e=>t _ o D.i1z e) (Z.p1.at λo e=>t _ o D.l1z e) a λH e B f=>?_);obtain⟨O,g,C⟩:=f;have j:lR H z TI TO .ellipsis (.bool false):=B _ _ D.i1z.symm d;have N:e≠z:=λu=>by subst u;rw[j] at g;cases g;simp at C
 exact wpAny_setField_rec j (by simp) λi _ p=>q i e (λc o n m u=>p.extBut _ _ n (B _ _ m (t _ _ n u))) #[O,p.extBut _ _ N g,C]
theorem qw (b:A.handled=none) (D:ZipApart z TI TO Y i2 t1 t2) (hz:lR s.heap z TI TO (rawInt T) f1) (i:∃o,s.heap.get? T=some o) (d:f1=.bool true\/f1=.bool false) (Z:wK s.heap z TI TO Y i2 t1 t2 k xs ys) (a:xs[k]?=none) {Q:Fin->Shared->Prop} (q:∀h' e,(∀c o,c≠z->c≠Y->s.heap.get? c=some o->h'.get? c=some o)->(∃o,h'.get? e=some o/\o.cls=.type "StopIteration")->E (.ref e) {s with heap:=h'}):wpAny (model P w) A (Builtin.«zip.__next__» #[[.ref z],[]]) Q E s:=by show wpAny _ _ (field (.ref z) 2 >>=_) _ _ _;refine wpAny_bind (wpAny_field hz rfl (x:=.bool false) rfl ?_);show wpAny _ _ (field (.ref z) 3 >>=_) _ _ _;refine wpAny_bind (wpAny_field hz rfl (x:=.ref TI) rfl ?_);refine wpAny_bind (wpAny_seqItems Z.ti rfl ?_);show wpAny _ _ (Builtin.SmallTypes.ownedTupleIsFree (.ref z) >>=_) _ _ _;refine wpAny_bind (qu hz i d λh g t S=>?_);simp only[Bool.false_eq_true,if_false,List.forIn_toArray,List.forIn_cons,List.forIn_nil];refine wpAny_bind (wpAny_bind (wpAny_bind (wpAny_holding ?_)));show wpAny _ _ (Builtin.SmallTypes.nextOf (.ref Y) >>=_) _ _ _;exact wpAny_bind (yj b (Z.j1.at λo e=>t _ o D.i1z e) (Z.p1.at λo e=>t _ o D.l1z e) a λH e B f=>q H e (λc o n m u=>B _ _ m (t _ _ n u)) f)
theorem zS {p:Option Addr} (D:ZipApart z TI TO Y i2 t1 t2) (hz:lR s.heap z TI TO (match p with|none=>.none|some T=>rawInt T) f1) (H:∀T,p=some T->∃o,s.heap.get? T=some o) (m:(p=none/\f1=.bool false)\/(∃T,p=some T)/\(f1=.bool true\/f1=.bool false)) (Z:wK s.heap z TI TO Y i2 t1 t2 k xs ys) (a:xs[k]?=some x) (h:ys[k]?=some y) {Q:Option Value->Shared->Prop} (q:∀(h':Heap) (T:Addr) (f:Value),lR h' z TI TO (rawInt T) f->(f=.bool true\/f=.bool false)->(∃o,h'.get? T=some o)->wK h' z TI TO Y i2 t1 t2 (k+1) xs ys->IsPair h' s.heap.objs.size x y->h'.objs.size=s.heap.objs.size+1->(∀c o,c≠z->c≠TO->c≠Y->c≠i2->s.heap.get? c=some o->h'.get? c=some o)->Q (some (.ref s.heap.objs.size)) {s with heap:=h'}):wpAny (model P w) A (pyNext (.ref z)) Q E s:=by
 have d:s.TypeIs (.ref z) "zip":=#[_,hz,rfl];unfold pyNext;refine wpAny_bind (wpAny_attempt (wpAny_callSpecial?_slot (name:=Str.ofString "__next__") d F.slot_zip_next (wpAny_call_entry F.slot_zip_next d F.entry_zip_next ?_ (F.args_zip_next_1 _))));rcases m with⟨rfl,rfl⟩|⟨⟨T,rfl⟩,m⟩
 .exact zQ D hz Z a h λh' j i u v C=>wpAny_pure (q h' _ _ j (.inr rfl) #[_,u] i u v C)
 .obtain⟨O,G⟩:=H T rfl;refine zR D hz #[O,G] m Z a h λh' j i u v C=>wpAny_pure (q h' T _ j (.inl rfl) ?_ i u v λc o n _ l r e=>C c o n l r e);have L:T < s.heap.objs.size:=Heap.lt_size G;by_cases t:T=z
  .subst t;exact⟨_,j⟩
  .by_cases b:T=Y
   .subst b;obtain⟨o,g,_⟩:=i.j1;exact⟨o,g⟩
   .by_cases B:T=i2
    .subst B;obtain⟨o,g,_⟩:=i.j2;exact⟨o,g⟩
    .exact#[O,C T O t b B G]
theorem Cg {p:Option Addr} (H:A.handled=none) (D:ZipApart z TI TO Y i2 t1 t2) (hz:lR s.heap z TI TO (match p with|none=>.none|some T=>rawInt T) f1) (i:∀T,p=some T->∃o,s.heap.get? T=some o) (m:(p=none/\f1=.bool false)\/(∃T,p=some T)/\(f1=.bool true\/f1=.bool false)) (Z:wK s.heap z TI TO Y i2 t1 t2 k xs ys) (a:xs[k]?=none) {Q:Option Value->Shared->Prop} (q:∀h',(∀c o,c≠z->c≠Y->s.heap.get? c=some o->h'.get? c=some o)->Q none {s with heap:=h'}):wpAny (model P w) A (pyNext (.ref z)) Q E s:=by
 have d:s.TypeIs (.ref z) "zip":=#[_,hz,rfl];unfold pyNext;rcases m with⟨rfl,rfl⟩|⟨⟨T,rfl⟩,m⟩
 .refine wpAny_bind (wpAny_attempt (wpAny_callSpecial?_slot (name:=Str.ofString "__next__") d F.slot_zip_next (wpAny_call_entry F.slot_zip_next d F.entry_zip_next (qv (A:=A.in1) H D hz Z a λh' e h f=>?_) (F.args_zip_next_1 _))));obtain⟨o,g,c⟩:=f;exact wpAny_bind (wpAny_isInstance (T:="StopIteration") (b:=true) #[o,g,c] isSubtype_stop (wpAny_pure (q _ h)))
 .refine wpAny_bind (wpAny_attempt (wpAny_callSpecial?_slot (name:=Str.ofString "__next__") d F.slot_zip_next (wpAny_call_entry F.slot_zip_next d F.entry_zip_next (qw (A:=A.in1) H D hz (i T rfl) m Z a λh' e h f=>?_) (F.args_zip_next_1 _))));obtain⟨o,g,c⟩:=f;exact wpAny_bind (wpAny_isInstance (T:="StopIteration") (b:=true) #[o,g,c] isSubtype_stop (wpAny_pure (q _ h)))
end
abbrev zA (h:Heap) (t:Addr):Heap:=h.push {cls:=.type "tuple_iterator",data:=.fields [.ref t,.int 0 0].toArray}
abbrev zB (h:Heap) (t u:Addr):Heap:=zA (zA h t) u
abbrev zC (h:Heap) (t u:Addr):Heap:=(zB h t u).push {cls:=.type "tuple",data:=.seq [.ref h.objs.size,.ref (zA h t).objs.size].toArray}
abbrev zD (h:Heap) (t u:Addr):Heap:=(zC h t u).push {cls:=.type "tuple",data:=.seq [.none,.none].toArray}
abbrev zE (h:Heap) (t u:Addr):Heap:=(zD h t u).push {cls:=.type "zip",data:=.fields [.none,.bool false,.bool false,.ref (zB h t u).objs.size,.ref (zC h t u).objs.size].toArray}
theorem yk (t u:Addr) (xs ys:Array Value):Meets (Builtin.«zip.__new__» #[[.type "zip",.ref t,.ref u],[]]) (λ_ R s=>s.heap.IsTuple t xs/\s.heap.IsTuple u ys/\R (.ok (.ret (.ref (zD s.heap t u).objs.size))) {s with heap:=zE s.heap t u}):=.of_wp λp w A R s h=>by obtain⟨a,g,d,T,os⟩:=s;obtain⟨c,H,h⟩:=h;have f:=sub_zip;have G:Heap.IsTuple (Shared.heap #[a,g,d,T,os]) t xs:=c;have b:Heap.IsTuple (Shared.heap #[a.push {cls:=.type "tuple_iterator",data:=.fields [.ref t,.int 0 0].toArray},g,d,T,os]) u ys:=Heap.IsTuple.at H λo e=>Heap.get?_push_of_some _ e;wp_walk using wpAny_pyIter_tuple G,wpAny_pyIter_tuple b;exact#[_,rfl,h]
section
variable {P:Program} {w:World} {A:Around} {E:Value->Shared->Prop} {s:Shared}
theorem uR {t u:Addr} {xs ys:Array Value} {Q:Value->Shared->Prop} (h:s.heap.IsTuple t xs) (H:s.heap.IsTuple u ys) (q:∀h' z TI TO i I,ZipApart z TI TO i I t u->lR h' z TI TO .none (.bool false)->wK h' z TI TO i I t u 0 xs ys->(∀c o,s.heap.get? c=some o->h'.get? c=some o)->(s.heap.objs.size<=z/\s.heap.objs.size<=TO/\s.heap.objs.size<=i/\s.heap.objs.size<=I)->Q (.ref z) {s with heap:=h'}):wpAny (model P w) A (call (.type "zip") [.ref t,.ref u]) Q E s:=by
 refine callType_new F.called_zip (by decide) (F.typeCall_zip_2 _ _) (F.newCall_zip_2 _ _) (λO=>F.args_object_init_3 O _ _) F.entry_zip_new (yk t u xs ys) #[h,H,?_];have L:t < s.heap.objs.size:=by obtain⟨_,e,_⟩:=h;exact Heap.lt_size e
 have l:u < s.heap.objs.size:=by obtain⟨_,e,_⟩:=H;exact Heap.lt_size e
 have n:(zA s.heap t).objs.size=s.heap.objs.size+1:=Heap.size_push ..;have N:(zB s.heap t u).objs.size=s.heap.objs.size+2:=by rw[Heap.size_push,n]
 have a:(zC s.heap t u).objs.size=s.heap.objs.size+3:=by rw[Heap.size_push,N]
 have d:(zD s.heap t u).objs.size=s.heap.objs.size+4:=by rw[Heap.size_push,a]
 have j:(zE s.heap t u).get? (zD s.heap t u).objs.size=some _:=Heap.get?_push_size _ rfl;have f:(zE s.heap t u).get? (zC s.heap t u).objs.size=some _:=Heap.get?_push_of_some _ (Heap.get?_push_size _ rfl);have g:(zE s.heap t u).get? (zB s.heap t u).objs.size=some _:=Heap.get?_push_of_some _ (Heap.get?_push_of_some _ (Heap.get?_push_size _ rfl));have b:(zE s.heap t u).get? (zA s.heap t).objs.size=some _:=Heap.get?_push_of_some _ (Heap.get?_push_of_some _ (Heap.get?_push_of_some _ (Heap.get?_push_size _ rfl)));have G:(zE s.heap t u).get? s.heap.objs.size=some _:=Heap.get?_push_of_some _ (Heap.get?_push_of_some _ (Heap.get?_push_of_some _ (Heap.get?_push_of_some _ (Heap.get?_push_size _ rfl))));have U:∀c o,s.heap.get? c=some o->(zE s.heap t u).get? c=some o:=λc o e=>Heap.get?_push_of_some _ (Heap.get?_push_of_some _ (Heap.get?_push_of_some _ (Heap.get?_push_of_some _ (Heap.get?_push_of_some _ e))));show _/\_;rw[N,a,d] at j;rw[n,N] at g;rw[a] at f;rw[n] at b;rw[d];refine#[#[_,j,rfl],q _ _ _ _ _ _ (zipApart_new L l) j #[g,#[_,_,f],#[_,G,rfl,rfl],#[_,b,rfl,rfl],h.at λo e=>U _ o e,H.at λo e=>U _ o e] U #[?_,?_,?_,?_]] <;> omega
structure Made (base:Nat) (h:Heap) (xs ys:Array Value) (acc:Array Value) (k:Nat):Prop where
 len:acc.size=k
 at_:∀i,i < k->∃(T:Addr) (x y:Value),acc[i]?=some (.ref T)/\base<=T/\xs[i]?=some x/\ys[i]?=some y/\IsPair h T x y
 inj:∀(i j:Nat) (T:Addr),acc[i]?=some (.ref T)->acc[j]?=some (.ref T)->i=j
theorem uS {z TI TO r I t1 t2 S:Addr} {xs ys:Array Value} {base:Nat} {h₀:Heap} {X:Value} {R:Result->Shared->Prop} (hc:A.handled=none) (D:ZipApart z TI TO r I t1 t2) (hS:S≠z/\S≠TO/\S≠r/\S≠I/\S≠TI/\S≠t1/\S≠t2) (d:base<=S/\base<=z/\base<=TO/\base<=r/\base<=I) (hl:xs.size=ys.size) (hn:xs.size<=1000) (q:∀s' l c,s'.os=s.os->s'.gens=s.gens->s'.drawn=s.drawn->(∀b o,b < base->h₀.get? b=some o->s'.heap.get? b=some o)->s'.heap.get? S=some {cls:=.type "list",dict:=none,data:=.seq l c,slots:=[].toArray}->Made base s'.heap xs ys l xs.size->(∀(i:Nat) (T:Addr),l[i]?=some (Value.ref T)->T≠S)->R (.ok (.ret X)) s'):∀(m k:Nat) (s':Shared) (l:Array Value) (c:Nat) (p:Option Addr) (v:Value),xs.size - k=m->k<=xs.size->s'.os=s.os->s'.gens=s.gens->s'.drawn=s.drawn->base<=s'.heap.objs.size->lR s'.heap z TI TO (match p with|none=>.none|some T=>rawInt T) v->(∀T,p=some T->∃o,s'.heap.get? T=some o)->((p=none/\v=.bool false)\/(∃T,p=some T)/\(v=.bool true\/v=.bool false))->wK s'.heap z TI TO r I t1 t2 k xs ys->(∀b o,b < base->h₀.get? b=some o->s'.heap.get? b=some o)->s'.heap.get? S=some {cls:=.type "list",dict:=none,data:=.seq l c,slots:=[].toArray}->Made base s'.heap xs ys l k->(∀(i:Nat) (T:Addr),l[i]?=some (Value.ref T)->T≠S/\T≠z/\T≠TO/\T≠r/\T≠I)->codeAny (model P w) A (.builtin "list.extend.loop" #[[.ref S,.ref z,X],[]]) R s':=by
 obtain⟨S1,S2,S3,S4,S5,S6,S7⟩:=hS;obtain⟨b1,b2,b3,b4,b5⟩:=d;have N:∀{b c:Nat},b < base->base<=c->b≠c:=λx y=>Nat.ne_of_lt (Nat.lt_of_lt_of_le x y);intro m;induction m with
 |zero=>
  intro k s' l c p v hk ap os gs ds uv hz hT hf Z B gS M G;have ek:k=xs.size:=by omega
  subst ek;refine codeAny_builtin F.entry_extend_loop ?_;rw[Around.under_plainId F.plain_extend_loop _];show wpAny _ A.in1 (pyNext (.ref z) >>=_) _ _ s';refine wpAny_bind (Cg (A:=A.in1) hc D hz hT hf Z (by simp) λh' C=>?_);refine wpAny_pure (q _ l c os gs ds (λb o L e=>C b o (N L b2) (N L b4) (B b o L e)) (C _ _ S1 S3 gS) #[M.len,λi h=>?_,M.inj] λi T e=>(G i T e).1);obtain⟨T,x,y,t,E,e3,e4,J⟩:=M.at_ i h;obtain⟨_,n1,_,n3,_⟩:=G i T t;exact#[T,x,y,t,E,e3,e4,C _ _ n1 n3 J]
 |succ m ih=>
  intro k s' l c p v hk ap os gs ds uv hz hT hf Z B gS M G;have L:k < xs.size:=by omega
  have ex:xs[k]?=some xs[k]:=Array.getElem?_eq_getElem L;have ey:ys[k]?=some (ys[k]'(by omega)):=Array.getElem?_eq_getElem (by omega);refine codeAny_builtin F.entry_extend_loop ?_;rw[Around.under_plainId F.plain_extend_loop _];show wpAny _ A.in1 (pyNext (.ref z) >>=_) _ _ s';refine wpAny_bind (zS (A:=A.in1) D hz hT hf Z ex ey λh' T f z' an gT Q al sz C=>?_);have Y:=C _ _ S1 S2 S3 S4 gS;show wpAny _ A.in1 (updateSeq S (·.push (.ref s'.heap.objs.size)) >>=_) _ _ _;refine wpAny_bind ?_;have lS:S < s'.heap.objs.size:=Heap.lt_size gS;have lz:z < s'.heap.objs.size:=Heap.lt_size hz;have ac:TO < s'.heap.objs.size:=by obtain⟨a,b,e⟩:=Z.to;exact Heap.lt_size e
  have l1:r < s'.heap.objs.size:=by obtain⟨o,e,_⟩:=Z.j1;exact Heap.lt_size e
  have l2:I < s'.heap.objs.size:=by obtain⟨o,e,_⟩:=Z.j2;exact Heap.lt_size e
  have O:∀b o,b≠S->h'.get? b=some o->(h'.update S (Obj.mapSeq (·.push (.ref s'.heap.objs.size)))).get? b=some o:=λb o n e=>(Heap.get?_update_other _ _ (Ne.symm n)).trans e;have H:=Heap.get?_update_self (Obj.mapSeq (·.push (Value.ref s'.heap.objs.size))) Y rfl;have tl:∀(i:Nat) (T:Addr),l[i]?=some (Value.ref T)->T < s'.heap.objs.size:=λi T e=>by
   have h:i < k:=by have:=(Array.getElem?_eq_some_iff.mp e).1;rw[M.len] at this;exact this
   obtain⟨T',x,y,t,_,_,_,J⟩:=M.at_ i h;rw[e] at t;cases t;exact Heap.lt_size J
  refine wpAny_updateSeq Y rfl (wpAny_pure #[plainId_quiet F.plain_extend_loop _,?_]) (by rw[M.len,sizeLine_eq];omega) (by show (l.push _).size<=sizeLine+1;rw[Array.size_push,M.len,sizeLine_eq];omega);refine ih (k+1) _ (l.push (.ref s'.heap.objs.size)) _ (some T) f (by omega) L os gs ds ?_ (O _ _ S1.symm z') (λu e=>?_) (.inr #[#[T,rfl],an]) #[O _ _ S5.symm Q.ti,?_,Q.j1.at λo e=>O _ o S3.symm e,Q.j2.at λo e=>O _ o S4.symm e,Q.p1.at λo e=>O _ o S6.symm e,Q.p2.at λo e=>O _ o S7.symm e] (λb o d e=>?_) H #[?_,λi h=>?_,λi j u t E=>?_] (λi u e=>?_)
  .show base<=(h'.update S _).objs.size;rw[Heap.size_update,sz];omega
  .cases e;obtain⟨oT,g⟩:=gT;by_cases e:T=S
   .subst e;exact⟨_,H⟩
   .exact#[oT,O _ _ e g]
  .obtain⟨a,b,e⟩:=Q.to;exact#[a,b,O _ _ S2.symm e]
  .exact O b o (N d b1) (C b o (N d b2) (N d b3) (N d b4) (N d b5) (B b o d e))
  .rw[Array.size_push,M.len]
  .by_cases U:i < k
   .obtain⟨u,x,y,t,E,e3,e4,J⟩:=M.at_ i U;obtain⟨n0,n1,n2,n3,n4⟩:=G i u t;refine#[u,x,y,?_,E,e3,e4,O _ _ n0 (C _ _ n1 n2 n3 n4 J)];rw[Array.getElem?_push_lt (by rw[M.len];exact U),<-t];exact(Array.getElem?_eq_getElem (by rw[M.len];exact U)).symm
   .have am:i=k:=by omega
    subst am;refine#[s'.heap.objs.size,_,_,?_,uv,ex,ey,O _ _ (Nat.ne_of_gt lS) al];have:=@Array.getElem?_push_size _ l (Value.ref s'.heap.objs.size);rw[M.len] at this;exact this
  .have K:∀(i:Nat) (u:Addr),(l.push (Value.ref s'.heap.objs.size))[i]?=some (Value.ref u)->(l[i]?=some (Value.ref u)/\i < k)\/(i=k/\u=s'.heap.objs.size):=λi u e=>by
    rw[Array.getElem?_push] at e;by_cases h:i=l.size
    .rw[if_pos h] at e;cases e;exact .inr #[by rw[h,M.len],rfl]
    .rw[if_neg h] at e;refine .inl #[e,?_];have:=(Array.getElem?_eq_some_iff.mp e).1;rw[M.len] at this;exact this
   rcases K i u t with⟨a1,a2⟩|⟨a1,a2⟩ <;> rcases K j u E with⟨c1,c2⟩|⟨c1,c2⟩
   .exact M.inj i j u a1 c1
   .exact absurd (tl i u a1) (by rw[c2];exact Nat.lt_irrefl _)
   .exact absurd (tl j u c1) (by rw[a2];exact Nat.lt_irrefl _)
   .rw[a1,c1]
  .rw[Array.getElem?_push] at e;by_cases h:i=l.size
   .rw[if_pos h] at e;cases e;exact#[Nat.ne_of_gt lS,Nat.ne_of_gt lz,Nat.ne_of_gt ac,Nat.ne_of_gt l1,Nat.ne_of_gt l2]
   .rw[if_neg h] at e;exact G i u e
end
theorem su:typeLookup (.type "zip") "__len__"=pure none:=by rw[typeLookup_type,builtinLookup_eq_fast];kernel_rfl
theorem qx:typeLookup (.type "zip") "__length_hint__"=pure none:=by rw[typeLookup_type,builtinLookup_eq_fast];kernel_rfl
section
variable {P:Program} {w:World} {A:Around} {E:Value->Shared->Prop} {s:Shared}
theorem sv {z TI TO l I h t:Addr} {xs ys:Array Value} {base:Nat} {h₀:Heap} {Q:Value->Shared->Prop} (hc:A.handled=none) (D:ZipApart z TI TO l I h t) (hz:lR s.heap z TI TO .none (.bool false)) (Z:wK s.heap z TI TO l I h t 0 xs ys) (hb:base<=z/\base<=TO/\base<=l/\base<=I) (hl:xs.size=ys.size) (hn:xs.size<=1000) (B:∀b o,b < base->h₀.get? b=some o->s.heap.get? b=some o) (q:∀s' S f c,s'.os=s.os->s'.gens=s.gens->s'.drawn=s.drawn->(∀b o,b < base->h₀.get? b=some o->s'.heap.get? b=some o)->base<=S->s'.heap.get? S=some {cls:=.type "list",dict:=none,data:=.seq f c,slots:=[].toArray}->Made base s'.heap xs ys f xs.size->(∀(i:Nat) (T:Addr),f[i]?=some (Value.ref T)->T≠S)->Q (.ref S) s'):wpAny (model P w) A (call (.type "list") [.ref z]) Q E s:=by
 refine callType_codes (Q₁:=λO g=>O=.ref s.heap.objs.size/\g={s with heap:=s.heap.push {cls:=.type "list",data:=.seq [].toArray}}) F.called_list (F.typeCall_list_1 _) F.entry_list_init (code_list_new _ #[rfl,rfl]) λO g m=>?_;obtain⟨rfl,rfl⟩:=m;have G:(s.heap.push {cls:=.type "list",data:=.seq [].toArray}).get? s.heap.objs.size=some {cls:=.type "list",data:=.seq [].toArray}:=Heap.get?_push_size _ rfl;have up:∀c o,s.heap.get? c=some o->(s.heap.push {cls:=.type "list",data:=.seq [].toArray}).get? c=some o:=λc o e=>Heap.get?_push_of_some _ e;have L:z < s.heap.objs.size:=Heap.lt_size hz;have K:TI < s.heap.objs.size:=Heap.lt_size Z.ti;have x:TO < s.heap.objs.size:=by obtain⟨a,b,e⟩:=Z.to;exact Heap.lt_size e
 have l1:l < s.heap.objs.size:=by obtain⟨o,e,_⟩:=Z.j1;exact Heap.lt_size e
 have l2:I < s.heap.objs.size:=by obtain⟨o,e,_⟩:=Z.j2;exact Heap.lt_size e
 have l3:h < s.heap.objs.size:=by obtain⟨o,e,_⟩:=Z.p1;exact Heap.lt_size e
 have l4:t < s.heap.objs.size:=by obtain⟨o,e,_⟩:=Z.p2;exact Heap.lt_size e
 obtain⟨a,b,U⟩:=Z.to;have p:base<=s.heap.objs.size:=Nat.le_of_lt (Nat.lt_of_le_of_lt hb.1 L);refine#[#[_,G,rfl],F.args_list_init_2 _ _,?_];have ns:Builtin.List.listSameRef (.ref s.heap.objs.size) (.ref z)=false:=by simp[Builtin.List.listSameRef,Nat.ne_of_gt L]
 show wpAny _ A.in1.in1 (do let B <-Builtin.List.listItems (.ref s.heap.objs.size);Builtin.List.listUpdate (.ref s.heap.objs.size) (λ_=>[].toArray);letGo B.toList.reverse;Builtin.List.listExtendWith (.ref s.heap.objs.size) (.ref z) .none) _ _ _;refine wpAny_bind ?_;unfold Builtin.List.listItems;refine wpAny_bind (wpAny_seqItems G rfl (wpAny_pure ?_));show wpAny _ _ (updateSeq s.heap.objs.size (λ_=>[].toArray) >>=_) _ _ _;refine wpAny_bind (wpAny_updateSeq G rfl ?_);have r:=Heap.get?_update_self (Obj.mapSeq (λ_=>([].toArray:Array Value))) G rfl;refine wpAny_bind (wpAny_letGo ?_);generalize y:(s.heap.push {cls:=.type "list",data:=.seq [].toArray}).update s.heap.objs.size (Obj.mapSeq (λ_=>([].toArray:Array Value)))=H at r ⊢;have v:∀c o,c≠s.heap.objs.size->s.heap.get? c=some o->H.get? c=some o:=λc o n e=>by rw[<-y];exact(Heap.get?_update_other _ _ (Ne.symm n)).trans (up c o e)
 have z2:lR H z TI TO .none (.bool false):=v _ _ (Nat.ne_of_lt L) hz;have C:H.objs.size=s.heap.objs.size+1:=by rw[<-y,Heap.size_update,Heap.size_push]
 have d:(#[H,s.gens,s.drawn,s.toks,s.os]:Shared).TypeIs (.ref z) "zip":=#[_,z2,rfl];unfold Builtin.List.listExtendWith;refine wpAny_bind (wpAny_typeOf d ?_);have Y:(Value.type "zip"==Value.type "list")=false:=by decide
 have X:(Value.type "zip"==Value.type "tuple")=false:=by decide
 simp only[ns,Y,X,Bool.or_false,Bool.false_eq_true,if_false];refine wpAny_bind (wpAny_pyIter_zip z2 ?_);refine wpAny_bind (wpAny_holding ?_);unfold Builtin.List.listLengthHint;refine wpAny_bind (wpAny_specialOf d su ?_);show wpAny _ _ (specialOf (Value.ref z) (Str.ofString "__length_hint__") >>=_) _ _ _;refine wpAny_bind (wpAny_specialOf d qx ?_);refine wpAny_pure ?_;show wpAny _ _ (rule "list.extend.makes-room" >>=_) _ _ _;refine wpAny_bind (wpAny_rule ?_);refine wpAny_bind ?_;show wpAny _ _ (updateSeq s.heap.objs.size (·.push .none) >>=λ_=>updateSeq s.heap.objs.size (·.pop)) _ _ _;refine wpAny_bind (wpAny_updateSeq r rfl ?_);have M:=Heap.get?_update_self (Obj.mapSeq (·.push Value.none)) r rfl;refine wpAny_updateSeq (hz:=by seq_fits) M rfl ?_;have J:=Heap.get?_update_self (Obj.mapSeq (·.pop)) M rfl;generalize N:(H.update s.heap.objs.size (Obj.mapSeq (·.push Value.none))).update s.heap.objs.size (Obj.mapSeq (·.pop))=k at J ⊢;have u:∀c o,c≠s.heap.objs.size->s.heap.get? c=some o->k.get? c=some o:=λc o n e=>by rw[<-N];exact(Heap.get?_update_other _ _ (Ne.symm n)).trans ((Heap.get?_update_other _ _ (Ne.symm n)).trans (v c o n e))
 have R:k.objs.size=s.heap.objs.size+1:=by rw[<-N,Heap.size_update,Heap.size_update,C]
 refine wpAny_pure #[plainId_quiet F.plain_extend_loop _,?_];refine uS (s:=s) (base:=base) (h₀:=h₀) (A:=A.in1) (S:=s.heap.objs.size) hc D #[Nat.ne_of_gt L,Nat.ne_of_gt x,Nat.ne_of_gt l1,Nat.ne_of_gt l2,Nat.ne_of_gt K,Nat.ne_of_gt l3,Nat.ne_of_gt l4] #[p,hb] hl hn (λs' f c o1 o2 o3 o4 o5 o6 o7=>#[rfl,q s' _ f c o1 o2 o3 o4 p o5 o6 o7]) xs.size 0 _ [].toArray _ none (.bool false) (by simp) (Nat.zero_le _) rfl rfl rfl (by show base<=k.objs.size;rw[R];omega) (u _ _ (Nat.ne_of_lt L) hz) (λ_ e=>nomatch e) (.inl #[rfl,rfl]) #[u _ _ (Nat.ne_of_lt K) Z.ti,#[a,b,u _ _ (Nat.ne_of_lt x) U],Z.j1.at λo e=>u _ o (Nat.ne_of_lt l1) e,Z.j2.at λo e=>u _ o (Nat.ne_of_lt l2) e,Z.p1.at λo e=>u _ o (Nat.ne_of_lt l3) e,Z.p2.at λo e=>u _ o (Nat.ne_of_lt l4) e] (λb o lt e=>u b o (Nat.ne_of_lt (Nat.lt_of_lt_of_le lt p)) (B b o lt e)) J #[rfl,λi hi=>absurd hi (Nat.not_lt_zero i),λi j T e=>by simp at e] (λi T e=>by simp at e)
end
def ng (H N:Hp):Hp:=λb=>match H b with
 |some o=>some o
 |none=>N b
theorem lT {H N:Hp} {b:Addr} {o:HO} (e:H b=some o):ng H N b=some o:=by unfold ng;rw[e]
theorem i0 {H N:Hp} {b:Addr} (e:H b=none):ng H N b=N b:=by unfold ng;rw[e]
section
variable {X:Cx} {pins:List (Addr×Obj)} {σ:St} {H:Hp} {s:Shared}
theorem Inv.more {N:Hp} {s':Shared} (I:Inv X pins σ H s) (os:s'.os=s.os) (G:s'.gens=s.gens) (k:∀b u,s.heap.get? b=some u->s'.heap.get? b=some u) (h:∀b o,N b=some o->s.heap.objs.size<=b) (a:∀b o,N b=some o->cv X.prog X.w (ng H N) s'.heap b o):Inv X pins σ (ng H N) s':=by
 have same:∀b o,H b=some o->ng H N b=some o:=λb o e=>lT e;have un:Un X.fs [] H (ng H N) s.heap s'.heap:=⟨λb u q _ _ _=>k b u q,λb u q _ _ _=>⟨u.slots,k b u q⟩,λb u q n _=>by
   rw[i0 n];cases e:N b with
   |none=>rfl
   |some o=>exact absurd (Nat.lt_of_lt_of_le (Heap.lt_size q) (h b o e)) (Nat.lt_irrefl _),λb u q _=>⟨u,k b u q⟩,λb x q=>same b _ q,λb u x q=>same b _ q,λb p q=>⟨[].toArray,by rw[same b _ q];simp⟩⟩
 have ok:g9 X.prog X.w (ng H N) s'.heap:=λb o e=>by
  cases q:H b with
  |some u=>rw[lT q] at e;injection e with e;subst e;exact(I.bE b u q).mR (λc v _ g=>k c v g) (λc g=>same c _ g) λc x g=>same c _ g
  |none=>rw[i0 q] at e;exact a b o e
 have J:=I.un (h':=s'.heap) (t':=s'.toks) un ok;refine#[J.ok,os.trans I.os,by rw[G];exact I.bare,J.base,J.loc,J.cell,J.free,J.gB,J.pin,J.bE,J.len]
end
section
variable {X:Cx} {a b:Expr} {ta tb:TE} {p1 p2 pos1 pos2:Pos}
def LZ (K:W.Frag) (x y:V) (b:Hp) (Q:VK):Prop:=∃t u X Y,x=.ref t/\y=.ref u/\cx K b t X/\cx K b u Y/\X.length=Y.length/\X.length<=1000/\
 ∀(l:Addr) (a:List Addr) (h:Hp),aq b h->b l=none->(∀T∈a,b T=none)->h l=some (.lst (a.map V.ref))->a.length=X.length->(∀(i:Nat) (T:Addr) (x y:V),a[i]?=some T->X[i]?=some x->Y[i]?=some y->h T=some (.tup [x,y]))->Q (.ref l) h
def EJ (K:W.Frag) (ta tb:TE):TE:=λσ H Q=>ta σ H λx g=>tb σ g λy b=>LZ K x y b Q
def ET (K:W.Frag) (Q:VK) (vs:List V) (b:Hp):Prop:=match vs with
 |[x,y]=>LZ K x y b Q
 |_=>False
def adr:Value->Addr
 | .ref T=>T
 |_=>0
theorem lU {d:Type}:∀{t:List Addr} {P:List d} {i:Nat} {T:Addr} {p:d},(∀(i j:Nat) (T:Addr),t[i]?=some T->t[j]?=some T->i=j)->t[i]?=some T->P[i]?=some p->(t.zip P).lookup T=some p
 |[],_,_,_,_,_,h,_=>by simp at h
 |T0 :: t,[],_,_,_,_,_,h=>by simp at h
 |T0 :: t,f :: P,0,T,p,_,c,H=>by simp at c H;subst c H;simp
 |T0 :: t,f :: P,i+1,T,p,inj,c,H=>by
  have N:T≠T0:=λe=>by have:=inj 0 (i+1) T (by simp[e]) c;omega
  have b:(T==T0)=false:=by simpa using N
  rw[List.zip_cons_cons,List.lookup_cons,b];exact lU (λi j T a b=>by have:=inj (i+1) (j+1) T (by simpa using a) (by simpa using b);omega) (by simpa using c) (by simpa using H)
theorem lV {f:Type} {a:List Addr} {P:List f} {T:Addr} {p:f} (h:(a.zip P).lookup T=some p):∃i:Nat,a[i]?=some T/\P[i]?=some p:=by
 have c:(T,p)∈a.zip P:=by
  generalize a.zip P=l at h;induction l with
  |nil=>simp at h
  |cons q l I=>
   obtain⟨Q,d⟩:=q;rw[List.lookup_cons] at h;by_cases e:T=Q
   .subst e;simp at h;subst h;simp
   .have b:(T==Q)=false:=by simpa using e
    rw[b] at h;exact List.mem_cons_of_mem _ (I h)
 obtain⟨i,o⟩:=List.mem_iff_getElem?.mp c;rw[List.getElem?_zip_eq_some] at o;exact#[i,o]
theorem nI:∀a:List Addr,Vals (a.map V.ref) (a.map Value.ref)
 |[]=>.nil
 |T :: r=>.cons rfl (nI r)
theorem iy {x:V} {xs:List V} {us:List Value} (h:Vals (x :: xs) us):∃u U,us=u :: U/\RelV x u/\Vals xs U:=by
 cases h with
 |cons a b=>exact#[_,_,rfl,a,b]
theorem zT (hc:X.calm=true) (aL:Gl X "list") (aC:X.mg "list"=none) (aF:Gl X "zip") (ax:X.mg "zip"=none) (ha:PE X a ta) (d:PE X b tb) (hs:starEach [a,b] X.env=[(false,eval a X.env),(false,eval b X.env)]:=by rfl) (B:starEach [b] X.env=[(false,eval b X.env)]:=by rfl)
  (al:starEach [.Call (.Name "zip" p2) [a,b] [] pos2] X.env=[(false,eval (.Call (.Name "zip" p2) [a,b] [] pos2) X.env)]:=by rfl):
  PE X (.Call (.Name "list" p1) [.Call (.Name "zip" p2) [a,b] [] pos2] [] pos1) (EJ X.K ta tb):=by
 intro pins s σ H Q I h;have am:PA X [a,b] (ai ta (ai tb av)):=aa ha (aa d ag B) (by rw[hs,B]);have aA:=I.ok.hd hc;refine wpAny_Call_Name_kw (ft I aL aC PyProof.Rows.boot_list ?_);refine PyProof.Rows.callWith_type1 ?_ al rfl;rw[al];show wpAny _ _ (spliced [(false,eval (.Call (.Name "zip" p2) [a,b] [] pos2) X.env)]) _ _ _;refine Calls.spliced_cons (wpAny_Call_Name_kw (ft I aF ax PyProof.Rows.boot_zip ?_));refine PyProof.Rows.callWith_type1 (cL (am pos2 pins s σ H (ET X.K Q) I h) λus f zq=>?_) (by rw[hs,B]) (by rw[B];rfl);obtain⟨vs,H2,I2,rv,q2⟩:=zq
 match vs,q2 with
 |[x,y],q2=>
  obtain⟨t,u,k,Y,rfl,rfl,hT,hU,aR,hn,q⟩:=q2;obtain⟨v1,aP,rfl,E,aO⟩:=iy rv;obtain⟨v2,aQ,rfl,e2,as⟩:=iy aO;cases as;obtain rfl:v1=Value.ref t:=E;obtain rfl:v2=Value.ref u:=e2;obtain⟨P,r1,g1,z1⟩:=I2.tuple hT;obtain⟨m,r2,g2,z2⟩:=I2.tuple hU;have n1:=r1.length;have n2:=r2.length;refine uR (s:=f) (xs:=P.toArray) (ys:=m.toArray) (by exact g1) (by exact g2) λh' z TI TO i1 i2 D hz Z up d=>?_;refine Calls.spliced_nil ?_;refine sv (s:={f with heap:=h'}) (base:=f.heap.objs.size) (h₀:=f.heap) aA D hz Z d (by simp only[List.size_toArray];omega) (by simp only[List.size_toArray];omega) (λb o _ e=>up b o e) λs' S A c os gs ds an bS gS M nS=>?_;have aM:(P.toArray).size=k.length:=by simp only[List.size_toArray];omega
  rw[aM] at M;have G:A.toList=(A.toList.map adr).map Value.ref:=by
   apply List.ext_getElem?;intro i;rw[List.getElem?_map,List.getElem?_map];by_cases l:i < k.length
   .obtain⟨T,_,_,E,_⟩:=M.at_ i l;have ap:A.toList[i]?=some (.ref T):=by rw[<-E];simp
    rw[ap];rfl
   .have:A.toList[i]?=none:=List.getElem?_eq_none_iff.mpr (by rw[Array.length_toList,M.len];omega);rw[this];rfl
  generalize aH:A.toList.map adr=r at G;have O:r.length=k.length:=by rw[<-aH,List.length_map,Array.length_toList,M.len]
  have C:∀(i:Nat) (T:Addr),r[i]?=some T->A[i]?=some (Value.ref T):=λi T e=>by
   have E:A.toList[i]?=some (Value.ref T):=by rw[G,List.getElem?_map,e];rfl
   rw[<-E];simp
  have aK:∀(i j:Nat) (T:Addr),r[i]?=some T->r[j]?=some T->i=j:=λi j T a b=>M.inj i j T (C i T a) (C j T b);have K:∀(i:Nat) (T:Addr),r[i]?=some T->∃vx vy x y,k[i]?=some vx/\Y[i]?=some vy/\RelV vx x/\RelV vy y/\IsPair s'.heap T x y/\f.heap.objs.size<=T:=λi T e=>by
   have l:i < k.length:=by rw[<-O];exact(List.getElem?_eq_some_iff.mp e).1
   obtain⟨T',x,y,E,e2,e3,e4,e5⟩:=M.at_ i l;have:=(C i T e).symm.trans E;cases this;obtain⟨x',w,rx⟩:=r1.get (List.getElem?_eq_getElem l);have ac:i < Y.length:=by omega
   obtain⟨y',n,ry⟩:=r2.get (List.getElem?_eq_getElem ac);have U:P[i]?=some x:=by rw[<-e3];simp
   have R:m[i]?=some y:=by rw[<-e4];simp
   rw[w] at U;cases U;rw[n] at R;cases R;exact#[_,_,_,_,List.getElem?_eq_getElem l,List.getElem?_eq_getElem ac,rx,ry,e5,e2]
  have aJ:∀(i:Nat) (T:Addr),r[i]?=some T->T≠S:=λi T e=>nS i T (C i T e);let N:Hp:=λb=>if b=S then some (.lst (r.map V.ref)) else((r.zip (k.zip Y)).lookup b).map λp=>.tup [p.1,p.2]
  have NS:N S=some (.lst (r.map V.ref)):=if_pos rfl;have NT:∀(i:Nat) (T:Addr) (x y:V),r[i]?=some T->k[i]?=some x->Y[i]?=some y->N T=some (.tup [x,y]):=λi T x y e w n=>by show (if T=S then _ else _)=_;rw[if_neg (aJ i T e),lU (p:=(x,y)) aK e (by rw[List.getElem?_zip_eq_some];exact#[w,n])];rfl
  have J:∀b o,N b=some o->(b=S/\o=.lst (r.map V.ref))\/∃i T x y,b=T/\r[i]?=some T/\k[i]?=some x/\Y[i]?=some y/\o=.tup [x,y]:=λb o e=>by
   by_cases L:b=S
   .rw[L,NS] at e;cases e;exact .inl #[L,rfl]
   .have e':((r.zip (k.zip Y)).lookup b).map (λp=>HO.tup [p.1,p.2])=some o:=by rw[<-e];exact(if_neg L).symm
    obtain⟨p,ep,rfl⟩:=Option.map_eq_some_iff.mp e';obtain⟨i,g,h2⟩:=lV ep;rw[List.getElem?_zip_eq_some] at h2;exact .inr #[i,b,p.1,p.2,rfl,g,h2.1,h2.2,rfl]
  have aI:∀b o,N b=some o->f.heap.objs.size<=b:=λb o e=>by
   rcases J b o e with⟨rfl,_⟩|⟨i,T,x,y,rfl,g,_⟩
   .exact bS
   .obtain⟨_,_,_,_,_,_,_,_,_,h⟩:=K i b g;exact h
  have I3:Inv X pins σ (ng H2 N) s':=by
   refine I2.more os gs (λb u e=>an b u (Heap.lt_size e) e) aI λb o e=>?_;rcases J b o e with⟨rfl,rfl⟩|⟨i,T,x,y,rfl,g,hx,hy,rfl⟩
   .refine#[by rw[List.length_map,O];exact z1,A.toList,c,?_,by rw[gS]];rw[G];exact nI r
   .obtain⟨vx,vy,x',y',w,n,rx,ry,e5,_⟩:=K i b g;rw[hx] at w;cases w;rw[hy] at n;cases n;exact#[by show 2<=sizeLine;decide,[x',y'],.cons rx (.cons ry .nil),_,e5,rfl,_,rfl]
  have v:∀b,f.heap.objs.size<=b->H2 b=none:=λb d=>I2.bE.fresh d;refine#[.ref S,_,I3,rfl,q S r _ (λb o e=>lT e) (v S bS) (λT hT=>?_) (by rw[i0 (v S bS)];exact NS) O λi T x y e w n=>?_]
  .obtain⟨i,l⟩:=List.mem_iff_getElem?.mp hT;obtain⟨_,_,_,_,_,_,_,_,_,h⟩:=K i T l;exact v T h
  .obtain⟨_,_,_,_,_,_,_,_,_,h⟩:=K i T e;rw[i0 (v T h)];exact NT i T x y e w n
end
end L2
namespace Wk
def got (a:eR) (n:Int):Kd:=(a n).getD (.ax n)
def cY (n:Int):Kd->Prop
 | .num=>False
 | .ax m=>m=n
 | .two _ a b=>cY n a\/cY n b
theorem iC {φ ψ:eR}:∀k:Kd,(∀n,cY n k->got φ n=got ψ n)->k.fill φ=k.fill ψ
 | .num,_=>rfl
 | .ax n,h=>h n rfl
 | .two f a b,h=>by show Kd.two f (a.fill φ) (b.fill φ)=Kd.two f (a.fill ψ) (b.fill ψ);rw[iC a λn q=>h n (.inl q),iC b λn q=>h n (.inr q)]
def Ext (φ a:eR):Prop:=∀n t,φ n=some t->a n=some t
def Met (φ a:eR):Prop:=∀n t,φ n=some t->got a n=t
theorem Ext.trans {a b c:eR} (h:Ext a b) (h':Ext b c):Ext a c:=λn t e=>h' n t (h n t e)
theorem zU {φ:eR} {n:Int} {t:Kd} (h:φ n=none):Ext φ (put φ n t):=λm u e=>by
 unfold put;by_cases q:m=n
 .subst q;rw[h] at e;cases e
 .rw[if_neg q];exact e
theorem lW:∀(w:Kd) (φ ψ:eR) (k:Kd),mt φ w k=some ψ->Ext φ ψ/\(∀n,cY n w->ψ n≠none)/\w.fill ψ=k
 | .ax n,φ,ψ,k,h=>by
  have j:(match φ n with|none=>some (put φ n k)|some u=>if u=k then some φ else none)=some ψ:=h;cases e:φ n with
  |none=>
   rw[e] at j;cases j;have i:put φ n k n=some k:=by simp[put]
   exact#[zU e,λm q=>by cases q;rw[i];exact Option.some_ne_none _,by show (put φ n k n).getD _=k;rw[i];rfl]
  |some u=>
   rw[e] at j;by_cases q:u=k
   .simp only[if_pos q] at j;cases j;exact#[λ_ _ z=>z,λm Q=>by cases Q;rw[e];exact Option.some_ne_none _,by show (φ n).getD _=k;rw[e];exact q]
   .simp only[if_neg q] at j;cases j
 | .num,φ,ψ,k,h=>by
  cases k with
  |num=>cases h;exact#[λ_ _ z=>z,λ_ q=>q.elim,rfl]
  |ax m=>cases h
  |two g c d=>cases h
 | .two f a b,φ,ψ,k,h=>by
  cases k with
  |num=>cases h
  |ax m=>cases h
  |two g c d=>
   have j:(if f=g then(mt φ b d).bind λψ=>mt ψ a c else none)=some ψ:=h;by_cases q:f=g
   .rw[if_pos q] at j;cases e:mt φ b d with
    |none=>rw[e] at j;cases j
    |some o=>
     rw[e] at j;obtain⟨X,Y,l⟩:=lW b φ o d e;obtain⟨U,y,Z⟩:=lW a o ψ c j;have L:∀n,cY n b->ψ n=o n:=λn H=>by
      cases E:o n with
      |none=>exact absurd E (Y n H)
      |some t=>exact U n t E
     refine#[X.trans U,λn H=>?_,?_]
     .rcases H with H|H
      .exact y n H
      .rw[L n H];exact Y n H
     .show Kd.two f (a.fill ψ) (b.fill ψ)=_;rw[Z,iC (ψ:=o) b λn H=>by unfold got;rw[L n H],l,q]
   .rw[if_neg q] at j;cases j
theorem gR:∀(w:Kd) (φ i:eR),Met φ i->∃j,mt φ w (w.fill i)=some j/\Met j i
 | .ax n,φ,i,h=>by
  show ∃j,(match φ n with|none=>some (put φ n (got i n))|some u=>if u=got i n then some φ else none)=some j/\Met j i;cases e:φ n with
  |none=>
   refine#[_,rfl,λm t q=>?_];unfold put at q;by_cases g:m=n
   .subst g;rw[if_pos rfl] at q;exact Option.some.inj q
   .rw[if_neg g] at q;exact h m t q
  |some u=>have:u=got i n:=(h n u e).symm;exact#[φ,by simp only[if_pos this],h]
 | .num,φ,i,h=>#[φ,rfl,h]
 | .two f a b,φ,i,h=>by obtain⟨l,d,c⟩:=gR b φ i h;obtain⟨k,E,H⟩:=gR a l i c;refine#[k,?_,H];show (if f=f then(mt φ b (b.fill i)).bind λj=>mt j a (a.fill i) else none)=some k;rw[if_pos rfl,d];exact E
theorem zV (w k:Kd):fit w k=true↔∃c:eR,w.fill c=k:=by
 unfold fit;have e:mP (λ_=>none) [(w,k)]=mt (λ_=>none) w k:=by show (mt (λ_=>none) w k).bind (λa=>some a)=_;cases mt (λ_=>none) w k <;> rfl
 rw[e];constructor
 .intro h;obtain⟨a,H⟩:=Option.isSome_iff_exists.mp h;exact#[a,(lW w _ a k H).2.2]
 .rintro⟨c,rfl⟩;obtain⟨a,H,_⟩:=gR w (λ_=>none) c (λ_ _ z=>nomatch z);rw[H];rfl
inductive Fm where
 |num
 |ax (o:Option Int)
 |two (f:Bool) (a b:Nat)
 deriving DecidableEq
inductive Den (fs:List Fm):Nat->Kd->Prop
 |num {i:Nat}:fs[i]?=some .num->Den fs i .num
 |ax {i:Nat} {n:Int}:fs[i]?=some (.ax (some n))->Den fs i (.ax n)
 |two {i:Nat} {f:Bool} {a b:Nat} {x y:Kd}:fs[i]?=some (.two f a b)->Den fs a x->Den fs b y->Den fs i (.two f x y)
theorem Den.fn {f:List Fm} {i:Nat} {k K:Kd} (h:Den f i k) (h':Den f i K):k=K:=by
 induction h generalizing K with
 |num e=>cases h' with
  |num _=>rfl
  |ax E=>rw[e] at E;cases E
  |two E _ _=>rw[e] at E;cases E
 |ax e=>cases h' with
  |num E=>rw[e] at E;cases E
  |ax E=>rw[e] at E;cases E;rfl
  |two E _ _=>rw[e] at E;cases E
 |two e _ _ a I=>cases h' with
  |num E=>rw[e] at E;cases E
  |ax E=>rw[e] at E;cases E
  |two E c H=>rw[e] at E;cases E;rw[a c,I H]
theorem oR {c:Type} {xs ys:List c} {i:Nat} {x:c} (h:xs[i]?=some x):(xs++ys)[i]?=some x:=by rw[List.getElem?_append_left (List.getElem?_eq_some_iff.mp h).1];exact h
theorem Den.mono {f G:List Fm} {i:Nat} {k:Kd} (h:Den f i k):Den (f++G) i k:=by
 induction h with
 |num e=>exact .num (oR e)
 |ax e=>exact .ax (oR e)
 |two e _ _ a I=>exact .two (oR e) a I
theorem Den.lt {f:List Fm} {i:Nat} {k:Kd} (h:Den f i k):i < f.length:=by
 cases h with
 |num e=>exact(List.getElem?_eq_some_iff.mp e).1
 |ax e=>exact(List.getElem?_eq_some_iff.mp e).1
 |two e _ _=>exact(List.getElem?_eq_some_iff.mp e).1
def uT (a:List Fm):Prop:=∀(i j:Nat) (f:Fm),a[i]?=some f->a[j]?=some f->i=j
def dB (f:List Fm):Prop:=∀i,i < f.length->∃k,Den f i k
theorem dB.nil:dB []:=λi h=>absurd h (Nat.not_lt_zero i)
theorem dB.snoc {a:List Fm} (h:dB a) (f:Fm) (m:∃k,Den (a++[f]) a.length k):dB (a++[f]):=λi o=>by
 rw[List.length_append] at o;by_cases q:i < a.length
 .obtain⟨k,d⟩:=h i q;exact#[k,d.mono]
 .have:i=a.length:=by have:[f].length=1:=rfl;omega
  rw[this];exact m
end Wk
namespace K1
open PySem L2 Wk
def gC:Fm->List Key
 | .num=>[Sum.inr "number"]
 | .ax (some n)=>[Sum.inr "blank",Sum.inl n]
 | .ax none=>[Sum.inr "blank"]
 | .two f a b=>[Sum.inr (tag f),Sum.inl (a:Int),Sum.inl (b:Int)]
def nJ (f:Fm):List V:=(gC f).map kV
theorem lX (f:Bool):tag f≠("number":Str):=by cases f <;> decide +kernel
theorem iD (f:Bool):tag f≠("blank":Str):=by cases f <;> decide +kernel
theorem ie {f g:Bool} (h:tag f=tag g):f=g:=by
 cases f <;> cases g
 .rfl
 .exact absurd h (by decide +kernel)
 .exact absurd h (by decide +kernel)
 .rfl
theorem fE:¬(("number":Str)="blank"):=by decide +kernel
theorem zW:∀{f g:Fm},gC f=gC g->f=g:=by
 intro f g h;cases f with
 |num=>
  cases g with
  |num=>rfl
  |ax o=>
   cases o with
   |none=>simp only[gC,List.cons.injEq,Sum.inr.injEq] at h;exact absurd h.1 fE
   |some n=>simp[gC] at h
  |two j a b=>simp[gC] at h
 |ax o=>
  cases g with
  |num=>
   cases o with
   |none=>simp only[gC,List.cons.injEq,Sum.inr.injEq] at h;exact absurd h.1.symm fE
   |some n=>simp[gC] at h
  |ax O=>
   cases o <;> cases O <;> simp[gC] at h
   .rfl
   .rw[h]
  |two j a b=>cases o <;> simp[gC] at h
 |two j a b=>
  cases g with
  |num=>simp[gC] at h
  |ax o=>cases o <;> simp[gC] at h
  |two G c d=>simp only[gC,List.cons.injEq,Sum.inr.injEq,Sum.inl.injEq] at h;obtain⟨e,H,i,_⟩:=h;rw[ie e,Int.ofNat.inj H,Int.ofNat.inj i]
def cu:Nat->List Fm->List (List Key×V)
 |_,[]=>[]
 |i,f :: r=>(gC f,.int (i:Nat)) :: cu (i+1) r
theorem jW:∀(t:List Fm) (i:Nat),(cu i t).length=t.length
 |[],_=>rfl
 |f :: r,i=>by simp[cu,jW r]
theorem jX:∀(t:List Fm) (f:Fm) (i:Nat),cu i (t++[f])=cu i t++[(gC f,.int ((i+t.length:Nat):Int))]
 |[],f,i=>by simp[cu]
 |g :: r,f,i=>by show (gC g,_) :: cu (i+1) (r++[f])=(gC g,_) :: cu (i+1) r++_;rw[jX r f (i+1)];simp;omega
theorem yl (f:Fm):∀(t:List Fm) (i:Nat),cE (cu i t) (gC f)=(t.idxOf? f).map λj=>V.int ((i+j:Nat):Int):=by
 intro t;induction t with
 |nil=>intro i;rfl
 |cons g r I=>
  intro i;have h:cE ((gC g,V.int (i:Nat)) :: cu (i+1) r) (gC f)=if gC f=gC g then some (.int (i:Nat)) else cE (cu (i+1) r) (gC f):=by
   unfold cE;rw[List.find?_cons];by_cases e:gC f=gC g
   .rw[if_pos e];have:decide (gC g=gC f)=true:=decide_eq_true e.symm;simp only[this];rfl
   .rw[if_neg e];have:decide (gC g=gC f)=false:=decide_eq_false λz=>e z.symm;simp only[this]
  show cE ((gC g,V.int (i:Nat)) :: cu (i+1) r) (gC f)=_;rw[h,List.idxOf?_cons];by_cases e:g=f
  .subst e;simp
  .have a:¬gC f=gC g:=λz=>e (zW z).symm;have E:(g==f)=false:=by simpa using e
   rw[if_neg a,E,I (i+1)];cases r.idxOf? f with
   |none=>rfl
   |some j=>simp;omega
theorem Ci {f:Fm} {t:List Fm} {i:Nat} (h:t.idxOf? f=some i):t[i]?=some f:=by
 induction t generalizing i with
 |nil=>simp at h
 |cons g r I=>
  rw[List.idxOf?_cons] at h;by_cases e:g=f
  .subst e;simp at h;subst h;rfl
  .have b:(g==f)=false:=by simpa using e
   rw[b] at h;obtain⟨j,D,rfl⟩:=Option.map_eq_some_iff.mp (by simpa using h:(r.idxOf? f).map (·+1)=some i);simpa using I D
end K1
namespace Wk
theorem ig:∀(n:Nat) (l:List Nat),l.Nodup->(∀x∈l,x < n)->l.length<=n:=by
 intro n;induction n with
 |zero=>
  intro l _ h;cases l with
  |nil=>exact Nat.le_refl _
  |cons a r=>exact absurd (h a (by simp)) (Nat.not_lt_zero a)
 |succ n I=>
  intro l f h;by_cases d:n∈l
  .have c:(l.erase n).length<=n:=I (l.erase n) (f.erase n) λx b=>by
    have H:=h x (List.mem_of_mem_erase b);have i:x≠n:=λz=>by subst z;exact absurd b (by rw[f.mem_erase_iff];simp)
    omega
   rw[List.length_erase_of_mem d] at c;omega
  .exact Nat.le_succ_of_le (I l f λx b=>by have H:=h x b;have i:x≠n:=λz=>d (by rw[<-z];exact b);omega)
end Wk
namespace Wk
structure sx (ls:List Nat) (n:Nat) (R rk:Nat->Nat):Prop where
 len:ls.length=n
 at_:∀i,i < n->∃j,ls[i]?=some j/\j < n/\((j=i/\R i=i)\/(R i≠i/\R j=R i/\rk j < rk i))
def For (L:List Nat) (n:Nat) (R:Nat->Nat):Prop:=∃l,sx L n R l
structure i4 (n:Nat) (R:Nat->Nat):Prop where
 lt:∀i,i < n->R i < n
 idem:∀i,i < n->R (R i)=R i
theorem sx.lY {L:List Nat} {n:Nat} {R l:Nat->Nat} (h:sx L n R l):i4 n R:=by
 have y:∀(m i:Nat),l i < m->i < n->R i < n/\R (R i)=R i:=by
  intro m;induction m with
  |zero=>intro i o;exact absurd o (Nat.not_lt_zero _)
  |succ m I=>
   intro i c o;obtain⟨j,e,D,⟨rfl,q⟩|⟨Q,d,a⟩⟩:=h.at_ i o
   .rw[q];exact#[o,q]
   .have:=I j (by omega) D;rw[<-d];exact this
 exact#[λi o=>(y _ i (Nat.lt_succ_self _) o).1,λi o=>(y _ i (Nat.lt_succ_self _) o).2]
theorem For.lY {L:List Nat} {n:Nat} {R:Nat->Nat} (h:For L n R):i4 n R:=h.elim λ_ h=>h.lY
theorem For.len {L:List Nat} {n:Nat} {R:Nat->Nat} (h:For L n R):L.length=n:=h.elim λ_ h=>h.len
theorem sx.DC {L:List Nat} {n:Nat} {R l:Nat->Nat} (h:sx L n R l) {i j k:Nat} (o:i < n) (t:L[i]?=some j) (E:L[j]?=some k) (N:j≠i):sx (L.set i k) n R l/\k < n/\R k=R i/\l k < l i:=by
 obtain⟨J,c,D,⟨rfl,q⟩|⟨Q,f,m⟩⟩:=h.at_ i o
 .rw[t] at c;cases c;exact absurd rfl N
 .rw[t] at c;cases c;have a:k < n/\R k=R i/\l k < l i:=by
   obtain⟨K,c,a,⟨rfl,q⟩|⟨p,w,P⟩⟩:=h.at_ j D
   .rw[E] at c;cases c;exact#[D,f,m]
   .rw[E] at c;cases c;exact#[a,by rw[w,f],by omega]
  refine#[#[by rw[List.length_set];exact h.len,λb d=>?_],a];by_cases e:i=b
  .subst e;exact#[k,by rw[List.getElem?_set_self (by rw[h.len];exact o)],a.1,.inr #[Q,a.2.1,a.2.2]]
  .rw[List.getElem?_set_ne e];exact h.at_ b d
def joinR (R:Nat->Nat) (g r:Nat):Nat->Nat:=λi=>if R i=g then r else R i
theorem For.join {L:List Nat} {n:Nat} {R:Nat->Nat} (h:For L n R) {g r:Nat} (C:g < n) (k:r < n) (c:R g=g) (b:R r=r) (N:g≠r):For (L.set g r) n (joinR R g r):=by
 obtain⟨l,h⟩:=h;refine#[λi=>if R i=g then l i+l r+1 else l i,by rw[List.length_set];exact h.len,λi o=>?_];by_cases e:g=i
 .subst e;refine#[r,by rw[List.getElem?_set_self (by rw[h.len];exact o)],k,.inr #[?_,?_,?_]]
  .unfold joinR;rw[if_pos c];exactλz=>N z.symm
  .unfold joinR;rw[if_pos c,b,if_neg (λz=>N z.symm)]
  .show (if R r=g then _ else _) < (if R g=g then _ else _);rw[b,if_neg (λz=>N z.symm),if_pos c];omega
 .rw[List.getElem?_set_ne e];obtain⟨j,E,D,⟨rfl,q⟩|⟨Q,d,m⟩⟩:=h.at_ i o
  .refine#[j,E,D,.inl #[rfl,?_]];unfold joinR;rw[q,if_neg (λz=>e z.symm)]
  .refine#[j,E,D,.inr #[?_,?_,?_]]
   .unfold joinR;split
    .rename_i a;intro z;rw[<-z,b] at a;exact N a.symm
    .exact Q
   .unfold joinR;rw[d]
   .show (if R j=g then _ else _) < (if R i=g then _ else _);rw[d];split <;> omega
theorem i4.join {n:Nat} {R:Nat->Nat} (h:i4 n R) {g r:Nat} (k:r < n) (b:R r=r) (N:g≠r):i4 n (joinR R g r):=by
 refine#[λi o=>?_,λi o=>?_]
 .unfold joinR;split
  .exact k
  .exact h.lt i o
 .unfold joinR;split
  .rw[b,if_neg (λz=>N z.symm)]
  .rename_i a;rw[h.idem i o,if_neg a]
theorem For.id (n:Nat):For (List.range n) n (λi=>i):=#[λ_=>0,by simp,λi o=>#[i,by rw[List.getElem?_range o],o,.inl #[rfl,rfl]]]
theorem For.snoc {L:List Nat} {n:Nat} {R:Nat->Nat} (h:For L n R):For (L++[n]) (n+1) (λi=>if i < n then R i else i):=by
 obtain⟨l,h⟩:=h;refine#[l,by simp[h.len],λi o=>?_];by_cases e:i < n
 .obtain⟨j,E,D,q⟩:=h.at_ i e;refine#[j,by rw[List.getElem?_append_left (by rw[h.len];exact e)];exact E,by omega,?_];show (j=i/\(if i < n then R i else i)=i)\/((if i < n then R i else i)≠i/\(if j < n then R j else j)=(if i < n then R i else i)/\l j < l i);rw[if_pos e,if_pos D];exact q
 .have:i=n:=by omega
  subst this;refine#[i,by rw[List.getElem?_append_right (by rw[h.len];exact Nat.le_refl _),h.len];simp,o,.inl #[rfl,?_]];show (if i < i then R i else i)=i;rw[if_neg (Nat.lt_irrefl _)]
theorem For.congr {L:List Nat} {n:Nat} {R r:Nat->Nat} (h:For L n R) (e:∀i,i < n->r i=R i):For L n r:=by obtain⟨l,h⟩:=h;refine#[l,h.len,λi o=>?_];obtain⟨j,E,D,q⟩:=h.at_ i o;exact#[j,E,D,by rw[e i o,e j D];exact q]
def roots (n:Nat) (R:Nat->Nat):List Nat:=(List.range n).filter λi=>decide (R i=i)
theorem qy (n:Nat) (R:Nat->Nat):(roots n R).length<=n:=by unfold roots;exact Nat.le_trans (List.length_filter_le _ _) (by simp)
theorem sy {n:Nat} {R:Nat->Nat} {g r:Nat} (C:g < n) (d:R g=g) (b:R r=r) (N:g≠r):(roots n (joinR R g r)).length+1=(roots n R).length:=by
 have e:roots n (joinR R g r)=(roots n R).erase g:=by
  unfold roots;rw[List.Nodup.erase_eq_filter (List.Nodup.sublist List.filter_sublist List.nodup_range),List.filter_filter];apply List.filter_congr;intro i _;unfold joinR;by_cases c:R i=g
  .rw[if_pos c];by_cases H:i=g
   .subst H;simp;exactλz=>N z.symm
   .have:¬R i=i:=λz=>H (z.symm.trans c);have a:¬r=i:=λz=>by rw[<-z,b] at c;exact N c.symm
    simp[a,this]
  .rw[if_neg c];by_cases H:i=g
   .subst H;exact absurd d c
   .simp[H]
 have h:g∈roots n R:=by unfold roots;rw[List.mem_filter];exact#[List.mem_range.mpr C,by simpa using d]
 rw[e,List.length_erase_of_mem h];have:0 < (roots n R).length:=List.length_pos_of_mem h;omega
end Wk
namespace K1
open PySem L2 Wk
theorem oU {c:Bool} {A B:Prop} (h:c=false) (x:B):if c=true then A else B:=by rw[if_neg (by rw[h];exact Bool.false_ne_true)];exact x
def gr:Fm->Str
 | .num=>"number"
 | .ax _=>"blank"
 | .two f _ _=>tag f
theorem qz (f:Fm):rX (nJ f) 0=some (.str (gr f)):=by
 cases f with
 |num=>rfl
 |ax o=>cases o <;> rfl
 |two f a b=>rfl
theorem gU {c d:Type} {F:c->d->Prop}:∀{a:List c} {b:List d} {i:Nat} {y:d},Paired F a b->b[i]?=some y->∃x,a[i]?=some x/\F x y
 |_,_,_,_,.nil,h=>by simp at h
 |x :: a,Y :: b,0,y,.cons h _,e=>by simp at e;subst e;exact#[x,rfl,h]
 |x :: a,Y :: b,i+1,y,.cons _ r,e=>by obtain⟨X,E,n⟩:=gU r (by simpa using e);exact#[X,by simpa using E,n]
def sA (H:Hp) (v:V) (f:Fm):Prop:=∃b,v=.ref b/\H b=some (.tup (nJ f))
theorem sA.mono {H H':Hp} (k:Tk H H') {v:V} {f:Fm} (h:sA H v f):sA H' v f:=let ⟨b,e,h⟩:=h;⟨b,e,k _ _ h⟩
theorem en {n:Nat} (h:n<=16000000):n < sizeLine:=Nat.lt_of_le_of_lt h (by decide)
def nV (n:Nat):V:=.int (n:Nat)
def cF (l:List Nat):List V:=l.map nV
theorem c5 {l:List Nat} {i j:Nat} (h:l[i]?=some j):(cF l)[i]?=some (.int (j:Nat)):=by unfold cF;rw[List.getElem?_map,h];rfl
theorem c6 (l:List Nat):(cF l).length=l.length:=List.length_map _
theorem oV (l:List Nat) (i j:Nat):(cF l).set i (.int (j:Nat))=cF (l.set i j):=by unfold cF;rw[List.map_set];rfl
theorem gu (l m:List Nat):cF l++cF m=cF (l++m):=by unfold cF;rw[List.map_append]
theorem oW {n j:Nat} (h:j < n):xA n (j:Int)=some j:=by unfold xA;rw[if_pos (by omega),if_pos (by omega)];simp
structure Lay where
 p:Addr
 dx:Addr
 L1:Addr
 L2:Addr
 L3:Addr
 L4:Addr
def aE (A:Lay):List (Str×V):=[("forms",.ref A.L1),("links",.ref A.L2),("levels",.ref A.L3),("lowered",.ref A.L4)]
theorem eS (A:Lay):(aE A).lookup ("forms":Str)=some (V.ref A.L1):=by unfold aE;rfl
theorem eU (A:Lay):(aE A).lookup ("links":Str)=some (V.ref A.L2):=by unfold aE;rfl
theorem eV (A:Lay):(aE A).lookup ("levels":Str)=some (V.ref A.L3):=by unfold aE;rfl
theorem qA (A:Lay):(aE A).lookup ("lowered":Str)=some (V.ref A.L4):=by unfold aE;rfl
structure cg (C:Addr) (A:Lay) (t:List Fm) (R:Nat->Nat) (lv lo:List Nat) (H:Hp):Prop where
 ins:H A.p=some (.ins C A.dx (aE A))
 zX:∃ws,H A.L1=some (.lst ws)/\Paired (sA H) ws t
 zY:∃ls,H A.L2=some (.lst (cF ls))/\For ls t.length R
 lZ:H A.L3=some (.lst (cF lv))
 lvl:lv.length=t.length
 low:H A.L4=some (.lst (cF lo))
 C0:∀x∈lo,x < t.length
 Bs:A.L1≠A.L2
 zZ:A.L1≠A.L3
 Bt:A.L1≠A.L4
 Aa:A.L2≠A.L3
 Bu:A.L2≠A.L4
 Ab:A.L3≠A.L4
def SN (A:Lay) (b:Addr):Prop:=b=A.L1\/b=A.L2\/b=A.L3\/b=A.L4
section
variable {C:Addr} {A:Lay} {t:List Fm} {R R':Nat->Nat} {lv lo:List Nat} {H H':Hp}
theorem cg.keep (h:cg C A t R lv lo H) (p:H' A.p=H A.p) (l:∀b,SN A b->H' b=H b) (k:Tk H H'):cg C A t R lv lo H':=by obtain⟨w,e,r⟩:=h.zX;obtain⟨L,E,a⟩:=h.zY;exact#[p.trans h.ins,#[w,(l _ (.inl rfl)).trans e,Paired.imp' (λ_ _ q=>q.mono k) r],#[L,(l _ (.inr (.inl rfl))).trans E,a],(l _ (.inr (.inr (.inl rfl)))).trans h.lZ,h.lvl,(l _ (.inr (.inr (.inr rfl)))).trans h.low,h.C0,h.Bs,h.zZ,h.Bt,h.Aa,h.Bu,h.Ab]
theorem cg.held (h:cg C A t R lv lo H) {b:Addr} (d:SN A b):∃X,H b=some (.lst X):=by
 obtain⟨w,e,_⟩:=h.zX;obtain⟨L,E,_⟩:=h.zY;rcases d with rfl|rfl|rfl|rfl
 .exact#[_,e]
 .exact#[_,E]
 .exact#[_,h.lZ]
 .exact#[_,h.low]
theorem cg.hs (h:cg C A t R lv lo H):sr (SN A) H:=λb d=>by obtain⟨X,e⟩:=h.held d;exact#[by rw[e];exact Option.some_ne_none _,λy z=>by rw[e] at z;cases z]
theorem cg.Cj (h:cg C A t R lv lo H):¬SN A A.p:=λz=>by obtain⟨X,e⟩:=h.held z;rw[h.ins] at e;cases e
theorem cg.same (h:cg C A t R lv lo H) (s:aq H H'):cg C A t R lv lo H':=h.keep ((s _ _ h.ins).trans h.ins.symm) (λb d=>by obtain⟨X,e⟩:=h.held d;rw[e];exact s _ _ e) s.tk
theorem cg.other (h:cg C A t R lv lo H) {b:Addr} {o:HO} (N:¬SN A b) (n:b≠A.p) (T:Tk H (upd H b o)):cg C A t R lv lo (upd H b o):=h.keep (ah n.symm) (λc a=>ah λz=>N (by rw[<-z];exact a)) T
theorem cg.links {L:List Nat} (h:cg C A t R lv lo H) (f:For L t.length R'):cg C A t R' lv lo (upd H A.L2 (.lst (cF L))):=by obtain⟨w,e,r⟩:=h.zX;obtain⟨a,E,l⟩:=h.zY;have k:Tk H (upd H A.L2 (.lst (cF L))):=Tk.lst E;exact#[(ah λz=>h.Cj (.inr (.inl z))).trans h.ins,#[w,(ah h.Bs).trans e,Paired.imp' (λ_ _ q=>q.mono k) r],#[L,ab,f],(ah h.Aa.symm).trans h.lZ,h.lvl,(ah h.Bu.symm).trans h.low,h.C0,h.Bs,h.zZ,h.Bt,h.Aa,h.Bu,h.Ab]
theorem cg.levels {l3:List Nat} (h:cg C A t R lv lo H) (f:l3.length=t.length):cg C A t R l3 lo (upd H A.L3 (.lst (cF l3))):=by obtain⟨w,e,r⟩:=h.zX;obtain⟨a,E,l⟩:=h.zY;have k:Tk H (upd H A.L3 (.lst (cF l3))):=Tk.lst h.lZ;exact#[(ah λz=>h.Cj (.inr (.inr (.inl z)))).trans h.ins,#[w,(ah h.zZ).trans e,Paired.imp' (λ_ _ q=>q.mono k) r],#[a,(ah h.Aa).trans E,l],ab,f,(ah h.Ab.symm).trans h.low,h.C0,h.Bs,h.zZ,h.Bt,h.Aa,h.Bu,h.Ab]
theorem cg.lowered {L:List Nat} (h:cg C A t R lv lo H) (c:∀x∈L,x < t.length):cg C A t R lv L (upd H A.L4 (.lst (cF L))):=by obtain⟨w,e,r⟩:=h.zX;obtain⟨a,E,l⟩:=h.zY;have k:Tk H (upd H A.L4 (.lst (cF L))):=Tk.lst h.low;exact#[(ah λz=>h.Cj (.inr (.inr (.inr z)))).trans h.ins,#[w,(ah h.Bt).trans e,Paired.imp' (λ_ _ q=>q.mono k) r],#[a,(ah h.Bu).trans E,l],(ah h.Ab).trans h.lZ,h.lvl,ab,c,h.Bs,h.zZ,h.Bt,h.Aa,h.Bu,h.Ab]
theorem cg.lY (h:cg C A t R lv lo H):i4 t.length R:=by obtain⟨L,_,f⟩:=h.zY;exact f.lY
theorem cg.form (h:cg C A t R lv lo H) {i:Nat} (o:i < t.length):∃f w b,t[i]?=some f/\H A.L1=some (.lst w)/\w[i]?=some (.ref b)/\H b=some (.tup (nJ f)):=by obtain⟨w,e,r⟩:=h.zX;have m:t[i]?=some t[i]:=List.getElem?_eq_getElem o;obtain⟨v,p,b,rfl,d⟩:=gU r m;exact#[t[i],w,b,m,e,p,d]
end
structure i6 (K:W.Frag) (C:Addr):Prop where
 cl:zc K C
 n1:fu K C "forms"
 n2:fu K C "links"
 n3:fu K C "levels"
 n4:fu K C "lowered"
abbrev ym:Stmt:=mN 4
abbrev oX:Stmt:=mN 5
abbrev oY:Stmt:=mN 6
abbrev oZ:Stmt:=mN 7
abbrev yn:Stmt:=mN 8
abbrev l6:Stmt:=mN 9
abbrev nL:Stmt:=mN 10
abbrev l8:Stmt:=mN 11
section
variable {P:Program} {w:World} {K:W.Frag} {mg:Str->Option Value} {base:Heap} {f aR:Addr} {fd dR:FuncData} {C:Addr}
inductive fh (C:Addr) (vs:List V) (H:Hp) (Q:VK) (zz3:XK):Prop
 |mk (A:_) (t:_) (R:_) (lv:_) (lo:_) (i:Nat) (h1_:vs=[.ref A.p,.int (i:Nat)]) (h2_:cg C A t R lv lo H) (h3_:i < t.length) (h4_:∀H',Kx (SN A) H H'->cg C A t R lv lo H'->Q (.int ((R i:Nat):Int)) H'):fh C vs H Q zz3
theorem yo:a9 ["self","node"] ["self","node"] (ao ym):=#[rfl,rfl,rfl,by decide +kernel,rfl,by decide +kernel,by decide +kernel]
inductive yp (A:Lay) (C:Addr) (H:Hp) (R:Nat->Nat) (i:Nat) (lo:List Nat) (lv:List Nat) (rk:Nat->Nat) (t:List Fm) (μ:Nat) (σ:St) (H1:Hp):Prop
 |mk (ls:_) (c:Nat) (h1_:σ=[some (.ref A.p),some (.int (c:Nat))]) (h2_:μ=rk c) (h3_:c < t.length) (h4_:R c=R i) (h5_:Kx (SN A) H H1) (h6_:cg C A t R lv lo H1) (h7_:H1 A.L2=some (.lst (cF ls))) (h8_:sx ls t.length R rk):yp A C H R i lo lv rk t μ σ H1
def Ac (K:W.Frag):TS:=aN (bq (bj (eL K) (fH K (af (0:Nat)) (PySem.Str.ofString "links")) (bj (eL K) (fH K (af (0:Nat)) (PySem.Str.ofString "links")) (af (1:Nat)))) (zm (fH K (af (0:Nat)) (PySem.Str.ofString "links")) (af (1:Nat)) pY)) (bq (bj (eL K) (fH K (af (0:Nat)) (PySem.Str.ofString "links")) (af (1:Nat))) (az (1:Nat)))
def Ad (K:W.Frag):TS:=aN (eQ (bD (bj CV (bj (eL K) (fH K (af (0:Nat)) (PySem.Str.ofString "links")) (af (1:Nat))) (af (1:Nat)))) (Ac K)) (cT (af (1:Nat)))
theorem Ae (F:gj K "root" "Nodes.root" ym f fd) (N:i6 K C):aU P w K mg base cM 1 f fd ["self","node"] (fh C):=by
 refine F.ok yo (λvs H Q E h=>?_) (λu A' O s H vs Q E hr h=>?_)
 .obtain⟨A,t,R,lv,lo,i,rfl,_,_,_⟩:=h;rfl
 obtain⟨A,t,R,lv,lo,i,rfl,p,o,q⟩:=h;have n:=yo.nd;refine#[Ad K,ae (dm PassesOwn.never (aD pV (aB cf (cS (pv 0) rfl) (pv 1) (λ_ _=>rfl)) (pv 1) (aX _)) (ae (lB (aB cf (cS (pv 0) rfl) (aB cf (cS (pv 0) rfl) (pv 1) (λ_ _=>rfl)) (λ_ _=>rfl)) (rL (cS (pv 0) rfl) (pv 1) set_list)) (aj (ay (i:=1) n rfl (Or.inl rfl) (aB cf (cS (pv 0) rfl) (pv 1) (λ_ _=>rfl)))))) (aj (bc (pv 1))),?_];obtain⟨Z,I,l,U⟩:=p.zY;refine#[(yp A C H R i lo lv l t),#[l i,Z,i,rfl,rfl,o,rfl,Kx.refl _ _,p,I,U],?_];rintro μ σ g ⟨L,c,rfl,rfl,a,y,v,T,b,B⟩;obtain⟨j,G,D,Y⟩:=B.at_ c a;refine#[_,rfl,A.p,C,A.dx,aE A,.ref A.L2,rfl,T.ins,N.cl,N.n2,eU A,_,rfl,A.L2,_,_,_,rfl,rfl,bp.of b,ar (c5 G),_,rfl,rfl,_,rfl,?_];by_cases e:j=c
 .subst e;refine oU (by simp) ?_;rcases Y with⟨_,q1⟩|⟨_,_,q3⟩
  .refine#[_,rfl,?_];have:=q g v T;rw[<-y,q1] at this;exact this
  .exact absurd q3 (Nat.lt_irrefl _)
 refine gF (by simp;omega) ?_;obtain⟨k,S,hk,_⟩:=B.at_ j D;obtain⟨J,m,r,M⟩:=B.DC a G S e;refine#[_,λ_ _ z=>z,?_];refine#[_,rfl,A.p,C,A.dx,aE A,.ref A.L2,rfl,T.ins,N.cl,N.n2,eU A,_,rfl,A.p,C,A.dx,aE A,.ref A.L2,rfl,T.ins,N.cl,N.n2,eU A,_,rfl,A.L2,_,_,_,rfl,rfl,bp.of b,ar (c5 G),A.L2,_,_,_,rfl,rfl,bp.of b,ar (c5 S),?_];refine#[_,rfl,A.p,C,A.dx,aE A,.ref A.L2,rfl,T.ins,N.cl,N.n2,eU A,_,rfl,A.L2,_,_,c,rfl,rfl,b,oW (by rw[c6,B.len];exact a),?_];rw[oV];have X:=T.links #[l,J];have d:upd g A.L2 (.lst (cF (L.set c k))) A.L2=some (.lst (cF (L.set c k))):=ab;have x:Kx (SN A) H (upd g A.L2 (.lst (cF (L.set c k)))):=v.qr (.inr (.inl rfl));generalize upd g A.L2 (.lst (cF (L.set c k)))=H2 at X d x ⊢;refine#[_,rfl,A.p,C,A.dx,aE A,.ref A.L2,rfl,X.ins,N.cl,N.n2,eU A,_,rfl,A.L2,_,_,_,rfl,rfl,bp.of d,ar (c5 (List.getElem?_set_self (by rw[B.len];exact a))),?_];exact#[l k,M,L.set c k,k,rfl,rfl,m,r.trans y,x,X,d,J]
end
end K1
namespace Wk
def aw (t:List Fm) (R:Nat->Nat) (i:Nat):List Nat:=match t[i]? with
 |some (.two _ a b)=>[R a,R b]
 |_=>[]
structure Eqv (E:Nat->Nat->Prop):Prop where
 refl:∀i,E i i
 symm:∀{i j},E i j->E j i
 trans:∀{i j k},E i j->E j k->E i k
def uU (t:List Fm) (E:Nat->Nat->Prop):Prop:=∀(i j:Nat) (f:Bool) (a b:Nat) (g:Bool) (c d:Nat),t[i]?=some (.two f a b)->t[j]?=some (.two g c d)->E i j->E a c/\E b d
def sC (t:List Fm) (R:Nat->Nat) (E:Nat->Nat->Prop) (i:Nat):Prop:=(∀f a b,t[i]?=some (.two f a b)->∃A B,t[R i]?=some (.two f A B)/\E a A/\E b B)/\(t[i]?=some .num->t[R i]?=some .num)
def yq (R:Nat->Nat) (i j:Nat):Prop:=R i=R j
theorem uV (R:Nat->Nat):Eqv (yq R):=#[λ_=>rfl,λh=>Eq.symm h,λh n=>Eq.trans h n]
structure ni (t:List Fm) (prs:List (Nat×Nat)) (R:Nat->Nat):Prop where
 rf:i4 t.length R
 qB:∀i,i < t.length->sC t R (yq R) i
 all:∀p∈prs,R p.1=R p.2
 least:∀E,Eqv E->uU t E->(∀p∈prs,E p.1 p.2)->∀i,i < t.length->E i (R i)
theorem ni.nil (t:List Fm):ni t [] (λi=>i):=#[#[λ_ h=>h,λ_ _=>rfl],λi _=>#[λf a b e=>#[a,b,e,rfl,rfl],λe=>e],λp g=>by simp at g,λE H _ _ i _=>H.refl i]
def yr:Fm->Fm->Prop
 | .num,.two _ _ _=>True
 | .two _ _ _,.num=>True
 | .two f _ _,.two g _ _=>f≠g
 |_,_=>False
def qC (t:List Fm) (prs:List (Nat×Nat)):Prop:=∃i j f g,t[i]?=some f/\t[j]?=some g/\yr f g/\∀E,Eqv E->uU t E->(∀p∈prs,E p.1 p.2)->E i j
structure Lk (t:List Fm) (prs:List (Nat×Nat)) (R:Nat->Nat) (W:List (Nat×Nat)):Prop where
 rf:i4 t.length R
 C4:∀w∈W,w.1 < t.length/\w.2 < t.length
 least:∀E,Eqv E->uU t E->(∀p∈prs,E p.1 p.2)->(∀i,i < t.length->E i (R i))/\∀w∈W,E w.1 w.2
 qB:∀E,Eqv E->(∀i,i < t.length->E i (R i))->(∀w∈W,E w.1 w.2)->(∀p∈prs,E p.1 p.2)/\∀i,i < t.length->sC t R E i
section
variable {t:List Fm} {prs:List (Nat×Nat)} {R:Nat->Nat} {W:List (Nat×Nat)} {x y g k:Nat}
theorem Lk.start (h:ni t prs R) (P:∀p∈prs,p.1 < t.length/\p.2 < t.length) (wf:∀(i:Nat) (f:Bool) (a b:Nat),t[i]?=some (Fm.two f a b)->a < t.length/\b < t.length) (H:x < t.length) (n:y < t.length):Lk t (prs++[(x,y)]) R [(x,y)]:=by
 refine#[h.rf,λw c=>?_,λE j k B=>#[h.least E j k λp g=>B p (List.mem_append_left _ g),λw c=>B w (List.mem_append_right _ c)],λE j k B=>#[λp g=>?_,λi o=>?_]]
 .simp at c;subst c;exact⟨H,n⟩
 .rcases List.mem_append.mp g with g|g
  .have:=h.all p g;exact j.trans (k _ (P p g).1) (by rw[this];exact j.symm (k _ (P p g).2))
  .exact B p g
 .obtain⟨r,C⟩:=h.qB i o;refine#[λf a b e=>?_,C];obtain⟨A,s,q,d,m⟩:=r f a b e;have L:=wf _ _ _ _ e;have l:=wf _ _ _ _ q;have d:R a=R A:=d;have m:R b=R s:=m;exact#[A,s,q,j.trans (k a L.1) (by rw[d];exact j.symm (k A l.1)),j.trans (k b L.2) (by rw[m];exact j.symm (k s l.2))]
theorem Lk.done (h:Lk t prs R []):ni t prs R:=by have y:=h.qB (yq R) (uV R) (λi o=>((h.rf.idem i o).symm:R i=R (R i))) (λw c=>by simp at c);exact#[h.rf,y.2,y.1,λE e a B=>(h.least E e a B).1]
theorem Lk.same (h:Lk t prs R (W++[(x,y)])) (e:R x=R y):Lk t prs R W:=by
 have H:=h.C4 (x,y) (by simp);refine#[h.rf,λw c=>h.C4 w (List.mem_append_left _ c),λE d f B=>?_,λE d f B=>h.qB E d f λw c=>?_]
 .obtain⟨a,b⟩:=h.least E d f B;exact#[a,λw c=>b w (List.mem_append_left _ c)]
 .rcases List.mem_append.mp c with c|c
  .exact B w c
  .simp at c;subst c;exact d.trans (f x H.1) (by rw[e];exact d.symm (f y H.2))
theorem Lk.yu (h:Lk t prs R (W++[(x,y)])) {E:Nat->Nat->Prop} (e:Eqv E) (c:uU t E) (B:∀p∈prs,E p.1 p.2):E (R x) (R y):=by have H:=h.C4 (x,y) (by simp);obtain⟨a,b⟩:=h.least E e c B;exact e.trans (e.symm (a x H.1)) (e.trans (b (x,y) (by simp)) (a y H.2))
theorem Lk.join (h:Lk t prs R (W++[(x,y)])) (l:k < t.length) (rg:R g=g) (rk:R k=k) (N:g≠k) (H:(R x=g/\R y=k)\/(R x=k/\R y=g)) (C:g < t.length) (M:List (Nat×Nat)) (Z:∀m∈M,m.1 < t.length/\m.2 < t.length) (U:∀E,Eqv E->uU t E->E g k->∀m∈M,E m.1 m.2) (n:∀E,Eqv E->(∀m∈M,E m.1 m.2)->∀f a b,t[g]?=some (.two f a b)->∃L O,t[k]?=some (.two f L O)/\E a L/\E b O) (r:t[g]?=some .num->t[k]?=some .num):Lk t prs (joinR R g k) (W++M):=by
 have Y:=h.C4 (x,y) (by simp);refine#[h.rf.join l rk N,λw s=>?_,λE d j B=>?_,λE d j B=>?_]
 .rcases List.mem_append.mp s with s|s
  .exact h.C4 w (List.mem_append_left _ s)
  .exact Z w s
 .obtain⟨a,b⟩:=h.least E d j B;have f:=h.yu d j B;have X:E g k:=by
   rcases H with⟨p,q⟩|⟨p,q⟩
   .rw[p,q] at f;exact f
   .rw[p,q] at f;exact d.symm f
  refine#[λi o=>?_,λw s=>?_]
  .unfold joinR;split
   .rename_i z;have:=a i o;rw[z] at this;exact d.trans this X
   .exact a i o
  .rcases List.mem_append.mp s with s|s
   .exact b w (List.mem_append_left _ s)
   .exact U E d j X w s
 .have X:E g k:=by
   have:=j g C;unfold joinR at this;rw[if_pos rg] at this;exact this
  have S:∀i,i < t.length->E i (R i):=λi o=>by
   have:=j i o;unfold joinR at this;split at this
   .rename_i z;rw[z];exact d.trans this (d.symm X)
   .exact this
  have T:E x y:=by
   have a:=S x Y.1;have b:=S y Y.2;rcases H with⟨p,q⟩|⟨p,q⟩
   .rw[p] at a;rw[q] at b;exact d.trans a (d.trans X (d.symm b))
   .rw[p] at a;rw[q] at b;exact d.trans a (d.trans (d.symm X) (d.symm b))
  obtain⟨J,v⟩:=h.qB E d S λw s=>by
   rcases List.mem_append.mp s with s|s
   .exact B w (List.mem_append_left _ s)
   .simp at s;subst s;exact T
  refine#[J,λi o=>?_];obtain⟨D,u⟩:=v i o;unfold sC joinR;split
  .rename_i z;rw[z] at D u;refine#[λf a b e=>?_,λe=>r (u e)];obtain⟨L,O,Q,q2,q3⟩:=D f a b e;obtain⟨I,K,A,G,P⟩:=n E d (λm c=>B m (List.mem_append_right _ c)) f L O Q;exact#[I,K,A,d.trans q2 G,d.trans q3 P]
  .exact#[D,u]
theorem Lk.Er (h:Lk t prs R (W++[(x,y)])) {f g:Fm} (e:t[R x]?=some f) (E:t[R y]?=some g) (c:yr f g):qC t prs:=#[R x,R y,f,g,e,E,c,λ_ a b d=>h.yu a b d]
end
end Wk
namespace Wk
def rF (t:List Fm):Prop:=∀(i:Nat) (f:Bool) (a b:Nat),t[i]?=some (.two f a b)->a < i/\b < i
theorem rF.lt {t:List Fm} (h:rF t) {i:Nat} {f:Bool} {a b:Nat} (e:t[i]?=some (.two f a b)):a < t.length/\b < t.length:=by have c:=h i f a b e;have H:=(List.getElem?_eq_some_iff.mp e).1;omega
theorem sum_set:∀(l:List Nat) (i x y:Nat),l[i]?=some y->(l.set i x).sum+y=l.sum+x
 |[],_,_,_,h=>by simp at h
 |a :: r,0,x,y,h=>by simp at h;subst h;simp;omega
 |a :: r,i+1,x,y,h=>by have:=sum_set r i x y (by simpa using h);simp;omega
structure pH (lv lo lv' lo':List Nat):Prop where
 len:lv'.length=lv.length
 sum:lo'.length+lv'.sum<=lo.length+lv.sum
 pos:(∀x∈lv,1<=x)->∀x∈lv',1<=x
theorem pH.refl (l lo:List Nat):pH l lo l lo:=#[rfl,Nat.le_refl _,λh=>h]
theorem pH.trans {a b c d e f:List Nat} (h:pH a b c d) (h':pH c d e f):pH a b e f:=#[h'.len.trans h.len,Nat.le_trans h'.sum h.sum,λp=>h'.pos (h.pos p)]
theorem pH.lower {l lo:List Nat} {g r x y:Nat} (C:l[g]?=some x) (k:l[r]?=some y) (L:x < y):pH l lo (l.set r x) (lo++[r]):=by
 refine#[by simp,?_,λp z f=>?_]
 .have:=sum_set l r x y k;rw[List.length_append];simp;omega
 .rcases List.mem_or_eq_of_mem_set f with h|rfl
  .exact p z h
  .exact p z (List.mem_of_getElem? C)
end Wk
namespace K1
open PySem L2 Wk
section
variable {P:Program} {w:World} {K:W.Frag} {mg:Str->Option Value} {base:Heap} {f aR:Addr} {fd dR:FuncData} {C:Addr}
inductive fS (C:Addr) (vs:List V) (H:Hp) (Q:VK) (zz3:XK):Prop
 |mk (A:_) (t:_) (R:_) (lv:_) (lo:_) (i:Nat) (h1_:vs=[.ref A.p,.int (i:Nat)]) (h2_:cg C A t R lv lo H) (h3_:i < t.length) (h4_:rF t) (h5_:∀l H',H l=none->Kx (SN A) H H'->cg C A t R lv lo H'->H' l=some (.lst (cF (aw t R i)))->Q (.ref l) H'):fS C vs H Q zz3
theorem qD:a9 ["self","node","form"] ["self","node"] (ao oX):=#[rfl,rfl,rfl,by decide +kernel,rfl,by decide +kernel,by decide +kernel]
def uW (K:W.Frag) (C:PySem.Addr):TS:=aN (cI (bD (bj (mW λ(i j:Int)=>V.bl (Decidable.decide (i < j))) (lH (aV K) (ai (af (2:Nat)) av)) (tC (V.int (3:Int))))) (cT (cK av)) cC) (cT (cK (ai (eC C (PySem.Str.ofString "root") (K1.fh C) [] E0 (af (0:Nat)) (ai (bj (cn K) (af (2:Nat)) (tC (V.int (1:Int)))) av)) (ai (eC C (PySem.Str.ofString "root") (K1.fh C) [] E0 (af (0:Nat)) (ai (bj (cn K) (af (2:Nat)) (tC (V.int (2:Int)))) av)) av))))
def uX (K:W.Frag) (C:PySem.Addr):TS:=aN (bq (bj (eL K) (fH K (af (0:Nat)) (PySem.Str.ofString "forms")) (af (1:Nat))) (az (2:Nat))) (uW K C)
theorem uY (F:gj K "within" "Nodes.within" oX f fd) (N:i6 K C) (ml:mg "len"=none) (M:Meth K C "root" aR) (S:aU P w K mg base cM 1 aR dR ["self","node"] (fh C)) (T:Binds K dR ["self","node"] []):aU P w K mg base cM 2 f fd ["self","node"] (fS C):=by
 refine F.ok (k:=1) qD (λvs H Q E h=>?_) (λy A' O s H vs Q E u h=>?_)
 .obtain⟨A,t,R,L,lo,i,rfl,_,_,_,_⟩:=h;rfl
 obtain⟨A,t,R,L,lo,i,rfl,v,hi,hW,q⟩:=h;have nd:=qD.nd;refine#[uX K C,ae (ay (i:=2) nd rfl (Or.inl rfl) (aB cf (cS (pv 0) rfl) (pv 1) (λ_ _=>rfl))) (ae (cb (aD tQ (bX br rfl ml PySem.boot_len (aa (pv 2) ag)) ak (aX _)) (aj (bc (ba ag))) bw) (aj (bc (ba (aa (cy (pv 0) N.cl M S u T .nil bN (aa (aB aG (pv 2) ak (λ_ _=>rfl)) ag)) (aa (cy (pv 0) N.cl M S u T .nil bN (aa (aB aG (pv 2) ak (λ_ _=>rfl)) ag)) ag)))))),?_];obtain⟨B,ws,b,J,ew,Z,d⟩:=v.form hi;refine#[_,rfl,A.p,C,A.dx,aE A,.ref A.L1,rfl,v.ins,N.cl,N.n1,eS A,_,rfl,A.L1,_,_,_,rfl,rfl,bp.of ew,ar Z,?_];refine#[_,rfl,b,_,rfl,.inr (cx.of d),_,_,rfl,rfl,_,rfl,?_];have X:(∀g a c,B≠.two g a c)->aw t R i=[]:=λh=>by
  unfold aw;rw[J];cases B with
  |two g a c=>exact absurd rfl (h g a c)
  |num=>rfl
  |ax o=>rfl
 cases B with
 |two g a c=>
  refine oU (by simp[nJ,gC]) ?_;have m:=hW.lt J;refine#[_,rfl,A.p,A.dx,_,rfl,v.ins,by unfold aE;rfl,?_];refine#[_,rfl,b,_,1,_,rfl,rfl,cx.of d,ar (j:=1) rfl,A,t,R,L,lo,a,rfl,v,m.1,λH1 I D=>?_];have Y:=I _ _ d (λz=>by obtain⟨xs,e⟩:=v.held z;rw[d] at e;cases e);refine#[_,rfl,A.p,A.dx,_,rfl,D.ins,by unfold aE;rfl,?_];refine#[_,rfl,b,_,2,_,rfl,rfl,cx.of Y,ar (j:=2) rfl,A,t,R,L,lo,c,rfl,D,m.2,λH2 x G=>?_];refine#[(by show 2<=sizeLine;decide),λl r=>?_];have U:H l=none:=by
   cases e:H l with
   |none=>rfl
   |some o=>
    by_cases n:SN A l
    .obtain⟨xs,p⟩:=G.held n;rw[r] at p;cases p
    .rw[x _ _ (I _ _ e n) n] at r;cases r
  refine q l _ U ((I.trans x).upd U) (G.same (aq.new r)) ?_;unfold aw;rw[J];exact ab
 |num=>refine gF (by simp[nJ,gC]) ?_;refine#[Nat.zero_le _,λl r=>q l _ r ((Kx.refl _ _).upd r) (v.same (aq.new r)) ?_];rw[X (by intro _ _ _ z;cases z)];exact ab
 |ax o=>refine gF (by cases o <;> simp[nJ,gC]) ?_;refine#[Nat.zero_le _,λl r=>q l _ r ((Kx.refl _ _).upd r) (v.same (aq.new r)) ?_];rw[X (by intro _ _ _ z;cases z)];exact ab
inductive fT (C:Addr) (vs:List V) (H:Hp) (Q:VK) (zz3:XK):Prop
 |mk (A:_) (t:_) (R:_) (lv:_) (lo:_) (g:Nat) (r:Nat) (h1_:vs=[.ref A.p,.int (g:Nat),.int (r:Nat)]) (h2_:cg C A t R lv lo H) (h3_:g < t.length) (h4_:r < t.length) (h5_:R g=g) (h6_:R r=r) (h7_:g≠r) (h8_:lo.length+lv.sum < sizeLine) (h9_:∀lv' lo' H',Kx (SN A) H H'->cg C A t (joinR R g r) lv' lo' H'->pH lv lo lv' lo'->Q .dE H'):fT C vs H Q zz3
theorem qE:a9 ["self","gone","root"] ["self","gone","root"] (ao oZ):=#[rfl,rfl,rfl,by decide +kernel,rfl,by decide +kernel,by decide +kernel]
def uZ (K:W.Frag):TS:=aN (bq (bj (eL K) (fH K (af (0:Nat)) (PySem.Str.ofString "levels")) (af (1:Nat))) (zm (fH K (af (0:Nat)) (PySem.Str.ofString "levels")) (af (2:Nat)) pY)) (dk (ou K "list" cB (fH K (af (0:Nat)) (PySem.Str.ofString "lowered")) (ai (af (2:Nat)) av)))
def u4 (K:W.Frag):TS:=cI (bD (bj (mW λ(i j:Int)=>V.bl (Decidable.decide (i < j))) (bj (eL K) (fH K (af (0:Nat)) (PySem.Str.ofString "levels")) (af (1:Nat))) (bj (eL K) (fH K (af (0:Nat)) (PySem.Str.ofString "levels")) (af (2:Nat))))) (uZ K) cC
def u5 (K:W.Frag):TS:=aN (bq (af (2:Nat)) (zm (fH K (af (0:Nat)) (PySem.Str.ofString "links")) (af (1:Nat)) pY)) (u4 K)
theorem u6 (F:gj K "joined" "Nodes.joined" oZ f fd) (N:i6 K C):aU P w K mg base cM 1 f fd ["self","gone","root"] (fT C):=by
 refine F.ok qE (λv H Q E h=>?_) (λc T o s H v Q E k h=>?_)
 .obtain⟨A,t,R,l,lo,g,r,rfl,_,_,_,_,_,_,_,_⟩:=h;rfl
 obtain⟨A,t,R,l,lo,g,r,rfl,p,u,Y,X,O,J,B,q⟩:=h;have m:=qE.nd;refine#[u5 K,ae (lB (pv 2) (rL (cS (pv 0) rfl) (pv 1) set_list)) (aj (cb (aD tQ (aB cf (cS (pv 0) rfl) (pv 1) (λ_ _=>rfl)) (aB cf (cS (pv 0) rfl) (pv 2) (λ_ _=>rfl)) (aX _)) (ae (lB (aB cf (cS (pv 0) rfl) (pv 1) (λ_ _=>rfl)) (rL (cS (pv 0) rfl) (pv 2) set_list)) (aj (cp (eD PySem.F.plainAttrs_list PySem.F.slot_list_append PySem.F.type_list_append bV (cS (pv 0) rfl) (aa (pv 2) ag))))) bw)),?_];obtain⟨L,d,i⟩:=p.zY;refine#[_,rfl,_,rfl,A.p,C,A.dx,aE A,.ref A.L2,rfl,p.ins,N.cl,N.n2,eU A,_,rfl,A.L2,_,_,g,rfl,rfl,d,oW (by rw[c6,i.len];exact u),?_];rw[oV];have D:=p.links (i.join u Y X O J);have I:Kx (SN A) H (upd H A.L2 (.lst (cF (L.set g r)))):=(Kx.refl _ _).qr (.inr (.inl rfl));generalize upd H A.L2 (.lst (cF (L.set g r)))=j at D I ⊢;obtain⟨x,S⟩:∃x,l[g]?=some x:=#[_,List.getElem?_eq_getElem (by rw[p.lvl];exact u)];obtain⟨y,n⟩:∃y,l[r]?=some y:=#[_,List.getElem?_eq_getElem (by rw[p.lvl];exact Y)];refine#[_,rfl,A.p,C,A.dx,aE A,.ref A.L3,rfl,D.ins,N.cl,N.n3,eV A,_,rfl,A.L3,_,_,_,rfl,rfl,bp.of D.lZ,ar (c5 S),_,rfl,A.p,C,A.dx,aE A,.ref A.L3,rfl,D.ins,N.cl,N.n3,eV A,_,rfl,A.L3,_,_,_,rfl,rfl,bp.of D.lZ,ar (c5 n),_,_,rfl,rfl,_,rfl,?_];by_cases U:x < y
 .refine gF (by simp;omega) ?_;refine#[_,rfl,A.p,C,A.dx,aE A,.ref A.L3,rfl,D.ins,N.cl,N.n3,eV A,_,rfl,A.L3,_,_,_,rfl,rfl,bp.of D.lZ,ar (c5 S),_,rfl,A.p,C,A.dx,aE A,.ref A.L3,rfl,D.ins,N.cl,N.n3,eV A,_,rfl,A.L3,_,_,r,rfl,rfl,D.lZ,oW (by rw[c6,p.lvl];exact Y),?_];rw[oV];have G:=D.levels (l3:=l.set r x) (by simp[p.lvl]);have M:Kx (SN A) H (upd j A.L3 (.lst (cF (l.set r x)))):=I.qr (.inr (.inr (.inl rfl)));generalize upd j A.L3 (.lst (cF (l.set r x)))=b at G M ⊢;refine#[_,rfl,A.p,C,A.dx,aE A,.ref A.L4,rfl,G.ins,N.cl,N.n4,qA A,.inl #[rfl,_,bp.of G.low],_,rfl,A.L4,_,_,rfl,rfl,G.low,(by rw[c6];omega),?_];have e:cF lo++[V.int (r:Nat)]=cF (lo++[r]):=(gu lo [r]);rw[e];exact q _ _ _ (M.qr (.inr (.inr (.inr rfl)))) (G.lowered λx a=>(List.mem_append.mp a).elim (p.C0 x) λz=>by simp at z;rw[z];exact Y) (pH.lower S n U)
 .refine oU (by simp;omega) ?_;exact q _ _ _ I D (pH.refl _ _)
end
def jE (H:Hp) (v:V) (p:Nat×Nat):Prop:=∃b,v=.ref b/\H b=some (.tup [.int (p.1:Nat),.int (p.2:Nat)])
theorem jE.mono {H a:Hp} (k:Tk H a) {v:V} {p:Nat×Nat} (h:jE H v p):jE a v p:=let ⟨b,e,h⟩:=h;⟨b,e,k _ _ h⟩
theorem Af {f g:Fm} (h:gr f≠gr g) (m:gr f≠"blank") (C:gr g≠"blank"):yr f g:=by
 cases f with
 |num=>
  cases g with
  |num=>exact absurd rfl h
  |ax o=>exact absurd rfl C
  |two g c d=>trivial
 |ax o=>exact absurd rfl m
 |two f a b=>
  cases g with
  |num=>trivial
  |ax o=>exact absurd rfl C
  |two g c d=>exactλz=>h (by rw[z];rfl)
theorem Kx.back {S:Addr->Prop} {H g:Hp} (k:Kx S H g) {l:Addr} (h:g l=none) (j:¬S l):H l=none:=by
 cases e:H l with
 |none=>rfl
 |some o=>rw[k _ _ e j] at h;cases h
theorem cg.nS {C:Addr} {A:Lay} {t:List Fm} {R:Nat->Nat} {L lo:List Nat} {H:Hp} (h:cg C A t R L lo H) {l:Addr} (e:H l=none):¬SN A l:=λz=>by obtain⟨X,E⟩:=h.held z;rw[e] at E;cases E
theorem cg.Es {C:Addr} {A:Lay} {t:List Fm} {R:Nat->Nat} {L lo:List Nat} {H:Hp} (h:cg C A t R L lo H) {l:Addr} {xs:List V} (e:H l=some (.tup xs)):¬SN A l:=λz=>by obtain⟨y,E⟩:=h.held z;rw[e] at E;cases E
abbrev EU:List Str:=["self","one","other","waiting","both","left","right","form","goal"]
section
variable {P:Program} {w:World} {K:W.Frag} {mg:Str->Option Value} {base:Heap} {f aR aJ:Addr} {fd dR dJ:FuncData} {C:Addr}
inductive i7 (C:Addr) (vs:List V) (H:Hp) (Q:VK) (zz3:XK):Prop
 |mk (A:_) (t:_) (R:_) (lv:_) (lo:_) (prs:_) (x:Nat) (y:Nat) (h1_:vs=[.ref A.p,.int (x:Nat),.int (y:Nat)]) (h2_:cg C A t R lv lo H) (h3_:rF t) (h4_:ni t prs R) (h5_:(∀p∈prs,p.1 < t.length/\p.2 < t.length)) (h6_:x < t.length) (h7_:y < t.length) (h8_:t.length<=1000000) (h9_:lo.length+lv.sum < sizeLine) (h10_:∀b R' lv' lo' H',Kx (SN A) H H'->cg C A t R' lv' lo' H'->pH lv lo lv' lo'->(b=true->ni t (prs++[(x,y)]) R')->(b=false->qC t (prs++[(x,y)]))->Q (.bl b) H'):i7 C vs H Q zz3
theorem qF:a9 EU ["self","one","other"] (ao oY):=#[rfl,rfl,rfl,by decide +kernel,rfl,by decide +kernel,by decide +kernel]
inductive sD (A:Lay) (C:Addr) (H:Hp) (lo0:List Nat) (lv0:List Nat) (lw:Addr) (prs:List (Nat×Nat)) (t:List Fm) (x0:Nat) (y0:Nat) (μ:Nat) (σ:St) (H1:Hp):Prop
 |mk (R:_) (lv:_) (lo:_) (ws:_) (vs:_) (bo:_) (lf:_) (rg:_) (fo:_) (go:_) (h1_:σ=[some (.ref A.p),some (.int (x0:Nat)),some (.int (y0:Nat)),some (.ref lw),bo,lf,rg,fo,go]) (h2_:μ=3*(roots t.length R).length+ws.length) (h3_:Kx (SN A) H H1) (h4_:cg C A t R lv lo H1) (h5_:pH lv0 lo0 lv lo) (h6_:H1 lw=some (.lst vs)) (h7_:Paired (jE H1) vs ws) (h8_:Lk t (prs++[(x0,y0)]) R ws) (h9_:ws.length+2*(roots t.length R).length<=2*t.length+1):sD A C H lo0 lv0 lw prs t x0 y0 μ σ H1
def u7 (K:W.Frag) (C:PySem.Addr):TS:=aN (dk (eC C (PySem.Str.ofString "joined") (K1.fT C) [] E0 (af (0:Nat)) (ai (af (5:Nat)) (ai (af (6:Nat)) av)))) (dk (ou K "list" ow (af (3:Nat)) (ai (EJ K (zw (zx K) (af (7:Nat)) (gJ (tC (V.int (1:Int)))) gg) (zw (zx K) (af (8:Nat)) (gJ (tC (V.int (1:Int)))) gg)) av)))
def u9 (K:W.Frag) (C:PySem.Addr):TS:=cI (bD (bj ki (bj (cn K) (af (7:Nat)) (tC (V.int (0:Int)))) (bj (cn K) (af (8:Nat)) (tC (V.int (0:Int)))))) (u7 K C) (cT (tC (V.bl Bool.false)))
def vb (K:W.Frag) (C:PySem.Addr):TS:=cI (bD (bj ki (bj (cn K) (af (7:Nat)) (tC (V.int (0:Int)))) (tC (V.str (PySem.Str.ofString "blank"))))) (dk (eC C (PySem.Str.ofString "joined") (K1.fT C) [] E0 (af (0:Nat)) (ai (af (5:Nat)) (ai (af (6:Nat)) av)))) (u9 K C)
def vc (K:W.Frag) (C:PySem.Addr):TS:=cI (bD (bj ki (bj (cn K) (af (8:Nat)) (tC (V.int (0:Int)))) (tC (V.str (PySem.Str.ofString "blank"))))) (dk (eC C (PySem.Str.ofString "joined") (K1.fT C) [] E0 (af (0:Nat)) (ai (af (6:Nat)) (ai (af (5:Nat)) av)))) (vb K C)
def vd (K:W.Frag) (C:PySem.Addr):TS:=aN (bq (bj (eL K) (fH K (af (0:Nat)) (PySem.Str.ofString "forms")) (af (6:Nat))) (az (8:Nat))) (vc K C)
def ve (K:W.Frag) (C:PySem.Addr):TS:=aN (bq (bj (eL K) (fH K (af (0:Nat)) (PySem.Str.ofString "forms")) (af (5:Nat))) (az (7:Nat))) (vd K C)
def vf (K:W.Frag) (C:PySem.Addr):TS:=aN (cI (bD (bj ki (af (5:Nat)) (af (6:Nat)))) wX cC) (ve K C)
def vg (K:W.Frag) (C:PySem.Addr):TS:=aN (bq (eC C (PySem.Str.ofString "root") (K1.fh C) [] E0 (af (0:Nat)) (ai (bj (cn K) (af (4:Nat)) (tC (V.int (1:Int)))) av)) (az (6:Nat))) (vf K C)
def vh (K:W.Frag) (C:PySem.Addr):TS:=aN (bq (eC C (PySem.Str.ofString "root") (K1.fh C) [] E0 (af (0:Nat)) (ai (bj (cn K) (af (4:Nat)) (tC (V.int (0:Int)))) av)) (az (5:Nat))) (vg K C)
def vi (K:W.Frag) (C:PySem.Addr):TS:=aN (bq (iz K "list" iq (af (3:Nat))) (az (4:Nat))) (vh K C)
def sE (K:W.Frag) (C:PySem.Addr):TS:=aN (eQ (iS K (af (3:Nat))) (vi K C)) (cT (tC (V.bl Bool.true)))
def sF (K:W.Frag) (C:PySem.Addr):TS:=aN (bq (cK (ai (dZ (ai (af (1:Nat)) (ai (af (2:Nat)) av))) av)) (az (3:Nat))) (sE K C)
theorem vj (F:gj K "linked" "Nodes.linked" oY f fd) (N:i6 K C) (bI:mg "list"=none) (mz:mg "zip"=none) (MR:Meth K C "root" aR) (GR:aU P w K mg base cM 1 aR dR ["self","node"] (fh C)) (bR:Binds K dR ["self","node"] []) (MJ:Meth K C "joined" aJ) (GJ:aU P w K mg base cM 1 aJ dJ ["self","gone","root"] (fT C)) (bJ:Binds K dJ ["self","gone","root"] []):aU P w K mg base cM 2 f fd ["self","one","other"] (i7 C):=by
 refine F.ok (k:=1) qF (λvs H Q E h=>?_) (λb9 A' bW s H vs Q E hr h=>?_)
 .obtain⟨A,t,R,lv,lo,aA,x,y,rfl,_,_,_,_,_,_,_,_,_⟩:=h;rfl
 obtain⟨A,t,R0,aL,aQ,aA,x0,y0,rfl,hN,a4,hC,hP,bS,bT,hn,hz,q⟩:=h;have nd:=qF.nd;refine#[sF K C,ae (ay (i:=3) nd rfl (Or.inl rfl) (ba (aa (cj (aa (pv 1) (aa (pv 2) ag))) ag))) (ae (dm PassesOwn.never (cU (pv 3) (λ_=>rfl)) (ae (ay (i:=4) nd rfl (Or.inl rfl) (dq PySem.F.plainAttrs_list PySem.F.slot_list_pop PySem.F.type_list_pop dr (pv 3))) (ae (ay (i:=5) nd rfl (Or.inl rfl) (cy (pv 0) N.cl MR GR hr bR .nil bN (aa (aB aG (pv 4) ak (λ_ _=>rfl)) ag))) (ae (ay (i:=6) nd rfl (Or.inl rfl) (cy (pv 0) N.cl MR GR hr bR .nil bN (aa (aB aG (pv 4) ak (λ_ _=>rfl)) ag))) (ae (cb (aD dj (pv 5) (pv 6) (aX _)) (aj jO) bw) (ae (ay (i:=7) nd rfl (Or.inl rfl) (aB cf (cS (pv 0) rfl) (pv 5) (λ_ _=>rfl))) (ae (ay (i:=8) nd rfl (Or.inl rfl) (aB cf (cS (pv 0) rfl) (pv 6) (λ_ _=>rfl))) (aj (cb (aD dj (aB aG (pv 8) ak (λ_ _=>rfl)) aZ (aX _)) (aj (cp (cy (pv 0) N.cl MJ GJ hr bJ .nil bN (aa (pv 6) (aa (pv 5) ag))))) (aj (cb (aD dj (aB aG (pv 7) ak (λ_ _=>rfl)) aZ (aX _)) (aj (cp (cy (pv 0) N.cl MJ GJ hr bJ .nil bN (aa (pv 5) (aa (pv 6) ag))))) (aj (cb (aD dj (aB aG (pv 7) ak (λ_ _=>rfl)) (aB aG (pv 8) ak (λ_ _=>rfl)) (aX _)) (ae (cp (cy (pv 0) N.cl MJ GJ hr bJ .nil bN (aa (pv 5) (aa (pv 6) ag)))) (aj (cp (eD PySem.F.plainAttrs_list PySem.F.slot_list_extend PySem.F.type_list_extend uF (pv 3) (aa (zT rfl rfl bI rfl mz (e8 xx (pv 7) (eY ak) hV) (e8 xx (pv 8) (eY ak) hV)) ag))))) (aj (bc e7))))))))))))))) (aj (bc e7))),?_];refine#[_,rfl,_,rfl,(by show 2<=sizeLine;decide),λtp bM=>#[(by show 1<=sizeLine;decide),λl aO=>?_]];have S1:aq H (upd H tp (.tup [.int (x0:Nat),.int (y0:Nat)])):=aq.new bM;have S2:=S1.trans (aq.new (o:=.lst [.ref tp]) aO);have bi:upd (upd H tp (.tup [.int (x0:Nat),.int (y0:Nat)])) l (.lst [.ref tp]) tp=some (.tup [.int (x0:Nat),.int (y0:Nat)]):=(aq.new aO) _ _ ab;have bd:upd (upd H tp (.tup [.int (x0:Nat),.int (y0:Nat)])) l (.lst [.ref tp]) l=some (.lst [.ref tp]):=ab;have G:H l=none:=S1.free aO;have D:¬SN A l:=hN.nS G;have aT:l≠A.p:=λz=>by rw[z,hN.ins] at G;cases G
 generalize upd (upd H tp (.tup [.int (x0:Nat),.int (y0:Nat)])) l (.lst [.ref tp])=H2 at bi bd S2;refine#[(sD A C H aQ aL l aA t x0 y0),#[_,R0,aL,aQ,[(x0,y0)],[.ref tp],none,none,none,none,none,rfl,rfl,.of S2,hN.same S2,pH.refl _ _,bd,.cons #[tp,rfl,bi] .nil,Lk.start hC hP (λi f a b e=>a4.lt e) bS bT,by have:=qy t.length R0;simp;omega],?_];rintro μ σ H1 ⟨R,lv,lo,ws,vs,bo,lf,rg,fo,go,rfl,rfl,hK,bs,hL,hW,kW,L,a7⟩;refine#[_,rfl,_,.inl #[_,bp.of hW,rfl],?_];rcases List.eq_nil_or_concat ws with rfl|⟨n,⟨x,y⟩,rfl⟩
 .cases kW;refine cA ?_;exact q true R lv lo H1 hK bs hL (λ_=>L.done) (λz=>by cases z)
 rw[List.concat_eq_append] at kW L a7 ⊢;obtain⟨u,v,rfl,bb,kv⟩:=bt kW;obtain⟨b,rfl,hb⟩:=kv;have ac:=L.C4 (x,y) (by simp);have wl:(n++[(x,y)]).length=n.length+1:=by simp
 have vl:u.length=n.length:=Paired.length bb;have bY:=qy t.length R;refine gF (by simp) ?_;refine#[_,λ_ _ z=>z,?_];refine#[_,rfl,.inl #[rfl,_,bp.of hW],l,u++[.ref b],.ref b,rfl,rfl,hW,(by simp),?_];rw[List.dropLast_concat];have aP:Tk H1 (upd H1 l (.lst u)):=Tk.lst hW;have a3:=aP _ _ hb;have bA:upd H1 l (.lst u) l=some (.lst u):=ab;have bC:Kx (SN A) H (upd H1 l (.lst u)):=hK.upd G;have aH:=bs.other D aT aP;have bv:=Paired.imp' (λ_ _ z=>jE.mono aP z) bb;generalize upd H1 l (.lst u)=H3 at a3 bA bC aH bv ⊢;refine#[_,rfl,A.p,A.dx,_,rfl,aH.ins,by unfold aE;rfl,_,rfl,b,_,0,_,rfl,rfl,cx.of a3,ar (j:=0) rfl,A,t,R,lv,lo,x,rfl,aH,ac.1,λH4 K4 N4=>?_];have bk:=aH.hs.tk K4;have be:=bk _ _ a3;have bH:=K4 _ _ bA D;have bK:=Paired.imp' (λ_ _ z=>jE.mono bk z) bv;have bE:=bC.trans K4;refine#[_,rfl,A.p,A.dx,_,rfl,N4.ins,by unfold aE;rfl,_,rfl,b,_,1,_,rfl,rfl,cx.of be,ar (j:=1) rfl,A,t,R,lv,lo,y,rfl,N4,ac.2,λH5 K5 r=>?_];have a8:=N4.hs.tk K5;have b7:=a8 _ _ be;have aC:=K5 _ _ bH D;have aF:=Paired.imp' (λ_ _ z=>jE.mono a8 z) bK;have an:=bE.trans K5;refine#[_,rfl,_,rfl,rfl,_,rfl,?_];by_cases T:R x=R y
 .refine gF (by simp[T]) ?_;exact⟨3*(roots t.length R).length+n.length,by omega,R,lv,lo,n,u,_,_,_,_,_,rfl,rfl,an,r,hL,aC,aF,L.same T,by omega⟩
 refine oU (by simp;omega) ?_;have lx:=L.rf.lt x ac.1;have ly:=L.rf.lt y ac.2;have rx:=L.rf.idem x ac.1;have ry:=L.rf.idem y ac.2;obtain⟨fm,wf,bf,J,bF,bG,aI⟩:=r.form lx;obtain⟨gm,wg,bg,U,bL,bP,aM⟩:=r.form ly;refine#[_,rfl,A.p,C,A.dx,aE A,.ref A.L1,rfl,r.ins,N.cl,N.n1,eS A,_,rfl,A.L1,_,_,_,rfl,rfl,bp.of bF,ar bG,?_];refine#[_,rfl,A.p,C,A.dx,aE A,.ref A.L1,rfl,r.ins,N.cl,N.n1,eS A,_,rfl,A.L1,_,_,_,rfl,rfl,bp.of bL,ar bP,?_];refine#[_,rfl,bg,_,0,_,rfl,rfl,cx.of aM,qz gm,rfl,_,rfl,?_];have am:lo.length+lv.sum < sizeLine:=Nat.lt_of_le_of_lt hL.sum hz;have b8:=hL.len;have as:∀(g k:Nat) (M:List (Nat×Nat)) (vm:List V) (B I:List Nat) (p:Hp),g < t.length->R g=g->R k=k->g≠k->M.length<=2->Lk t (aA++[(x0,y0)]) (joinR R g k) (n++M)->Kx (SN A) H p->cg C A t (joinR R g k) B I p->pH lv lo B I->p l=some (.lst (u++vm))->Paired (jE p) (u++vm) (n++M)->∃m',m' < 3*(roots t.length R).length+(n++[(x,y)]).length/\sD A C H aQ aL l aA t x0 y0 m' [some (V.ref A.p),some (.int (x0:Nat)),some (.int (y0:Nat)),some (.ref l),some (.ref b),some (.int (R x:Nat)),some (.int (R y:Nat)),some (.ref bf),some (.ref bg)] p:=λg k M vm B I p hg rg rk ne hM b1 b2 b3 b4 b5 b6=>by have hj:=sy hg rg rk ne;refine⟨3*(roots t.length (joinR R g k)).length+(n++M).length,by simp only[List.length_append,List.length_cons,List.length_nil];omega,joinR R g k,B,I,n++M,u++vm,_,_,_,_,_,rfl,rfl,b2,b3,hL.trans b4,b5,b6,b1,?_⟩;simp only[List.length_append,List.length_cons,List.length_nil] at a7 ⊢;omega
 by_cases O:gr gm="blank"
 .refine gF (by simp[O]) ?_;refine#[_,rfl,A.p,A.dx,_,rfl,r.ins,by unfold aE;rfl,_,rfl,_,rfl,A,t,R,lv,lo,R y,R x,rfl,r,ly,lx,ry,rx,λz=>T z.symm,am,λB I p K6 N6 L6=>?_];refine as (R y) (R x) [] [] B I p ly ry rx (λz=>T z.symm) (by simp) ?_ (an.trans K6) N6 L6 ?_ ?_
  .refine L.join lx ry rx (λz=>T z.symm) (.inr #[rfl,rfl]) ly [] (by simp) (λ_ _ _ _ m hm=>by simp at hm) (λE _ _ f a b e=>?_) (λe=>?_)
   .rw[U] at e;cases e;exact absurd O (iD f)
   .rw[U] at e;cases e;exact absurd O fE
  .simpa using K6 _ _ aC D
  .simpa using Paired.imp' (λ_ _ z=>jE.mono (r.hs.tk K6) z) aF
 refine oU (by simp;exact O) ?_;refine#[_,rfl,bf,_,0,_,rfl,rfl,cx.of aI,qz fm,rfl,_,rfl,?_];by_cases X:gr fm="blank"
 .refine gF (by simp[X]) ?_;refine#[_,rfl,A.p,A.dx,_,rfl,r.ins,by unfold aE;rfl,_,rfl,_,rfl,A,t,R,lv,lo,R x,R y,rfl,r,lx,ly,rx,ry,T,am,λB I p K6 N6 L6=>?_];refine as (R x) (R y) [] [] B I p lx rx ry T (by simp) ?_ (an.trans K6) N6 L6 ?_ ?_
  .refine L.join ly rx ry T (.inl #[rfl,rfl]) lx [] (by simp) (λ_ _ _ _ m hm=>by simp at hm) (λE _ _ f a b e=>?_) (λe=>?_)
   .rw[J] at e;cases e;exact absurd X (iD f)
   .rw[J] at e;cases e;exact absurd X fE
  .simpa using K6 _ _ aC D
  .simpa using Paired.imp' (λ_ _ z=>jE.mono (r.hs.tk K6) z) aF
 refine oU (by simp;exact X) ?_;refine#[_,rfl,bf,_,0,_,rfl,rfl,cx.of aI,qz fm,_,rfl,bg,_,0,_,rfl,rfl,cx.of aM,qz gm,rfl,_,rfl,?_];by_cases al:gr fm=gr gm
 .refine gF (by simp[al]) ?_;refine#[_,rfl,A.p,A.dx,_,rfl,r.ins,by unfold aE;rfl,_,rfl,_,rfl,A,t,R,lv,lo,R x,R y,rfl,r,lx,ly,rx,ry,T,am,λB I p K6 N6 L6=>?_];have aY:=r.hs.tk K6;have a1:=K6 _ _ aC D;have bl:=Paired.imp' (λ_ _ z=>jE.mono aY z) aF;have bm:=aY _ _ aI;have bn:=aY _ _ aM;have bB:=an.trans K6;refine#[_,rfl,.inl #[rfl,_,bp.of a1],_,rfl,_,rfl,?_];cases fm with
  |ax o=>exact absurd rfl X
  |num=>
   cases gm with
   |ax o=>exact absurd rfl O
   |two g' c d=>exact absurd al.symm (lX g')
   |num=>
    refine#[bf,_,rfl,cx.of bm,(by decide),λp1 aS=>?_];have S5:aq p (upd p p1 (.tup (ff (nJ .num) (some 1) none))):=aq.new aS;have Y:upd p p1 (.tup (ff (nJ .num) (some 1) none)) p1=some (.tup []):=ab;generalize upd p p1 (.tup (ff (nJ .num) (some 1) none))=H7 at S5 Y;refine#[_,rfl,_,rfl,bg,_,rfl,cx.of (S5 _ _ bn),(by decide),λp2 aK=>?_];have S6:aq H7 (upd H7 p2 (.tup (ff (nJ .num) (some 1) none))):=aq.new aK;have Z:upd H7 p2 (.tup (ff (nJ .num) (some 1) none)) p2=some (.tup []):=ab;generalize upd H7 p2 (.tup (ff (nJ .num) (some 1) none))=H8 at S6 Z;refine#[p1,p2,[],[],rfl,rfl,cx.of (S6 _ _ Y),cx.of Z,rfl,by simp,λlz Ts H9 S7 am bQ a5 a6 aW=>?_];have S8:=S5.trans (S6.trans S7);have ap:=S8 _ _ a1;obtain rfl:Ts=[]:=List.eq_nil_of_length_eq_zero a6;refine#[l,lz,u,_,rfl,rfl,ap,a5,Nat.le_of_lt (en (by simp;omega)),?_];have S:Tk H9 (upd H9 l (.lst (u++[].map V.ref))):=Tk.lst ap;refine as (R x) (R y) [] [] B I _ lx rx ry T (by simp) ?_ (((bB.trans (.of S8))).upd G) ((N6.same S8).other D aT S) L6 ab ?_
    .refine L.join ly rx ry T (.inl #[rfl,rfl]) lx [] (by simp) (λ_ _ _ _ m hm=>by simp at hm) (λE _ _ f a b e=>?_) (λe=>U);rw[J] at e;cases e
    .simpa using Paired.imp' (λ_ _ z=>jE.mono (S8.tk.trans S) z) bl
  |two f' a c=>
   cases gm with
   |ax o=>exact absurd rfl O
   |num=>exact absurd al (lX f')
   |two g' a2 c2=>
    obtain rfl:f'=g':=ie al;refine#[bf,_,rfl,cx.of bm,(by show ¬(HT.eJ 3 0 (some 1)=0/\HT.eJ 3 3 none=3);decide),λp1 aS=>?_];have S5:aq p (upd p p1 (.tup (ff (nJ (.two f' a c)) (some 1) none))):=aq.new aS;have Y:upd p p1 (.tup (ff (nJ (.two f' a c)) (some 1) none)) p1=some (.tup [.int (a:Nat),.int (c:Nat)]):=ab;generalize upd p p1 (.tup (ff (nJ (.two f' a c)) (some 1) none))=H7 at S5 Y;refine#[_,rfl,_,rfl,bg,_,rfl,cx.of (S5 _ _ bn),(by show ¬(HT.eJ 3 0 (some 1)=0/\HT.eJ 3 3 none=3);decide),λp2 aK=>?_];have S6:aq H7 (upd H7 p2 (.tup (ff (nJ (.two f' a2 c2)) (some 1) none))):=aq.new aK;have Z:upd H7 p2 (.tup (ff (nJ (.two f' a2 c2)) (some 1) none)) p2=some (.tup [.int (a2:Nat),.int (c2:Nat)]):=ab;generalize upd H7 p2 (.tup (ff (nJ (.two f' a2 c2)) (some 1) none))=H8 at S6 Z;refine#[p1,p2,[.int (a:Nat),.int (c:Nat)],[.int (a2:Nat),.int (c2:Nat)],rfl,rfl,cx.of (S6 _ _ Y),cx.of Z,rfl,by simp,λlz Ts H9 S7 am bQ a5 a6 aW=>?_];have S8:=S5.trans (S6.trans S7);have ap:=S8 _ _ a1;obtain⟨T1,T2,rfl⟩:∃T1 T2,Ts=[T1,T2]:=by
     match Ts,a6 with
     |[T1,T2],_=>exact#[T1,T2,rfl]
    have g1:=aW 0 T1 _ _ rfl rfl rfl;have g2:=aW 1 T2 _ _ rfl rfl rfl;refine#[l,lz,u,_,rfl,rfl,ap,a5,Nat.le_of_lt (en (by simp;omega)),?_];have S:Tk H9 (upd H9 l (.lst (u++[T1,T2].map V.ref))):=Tk.lst ap;have kl:=a4.lt J;have kr:=a4.lt U;refine as (R x) (R y) [(a,a2),(c,c2)] [.ref T1,.ref T2] B I _ lx rx ry T (by simp) ?_ (((bB.trans (.of S8))).upd G) ((N6.same S8).other D aT S) L6 ab ?_
    .refine L.join ly rx ry T (.inl #[rfl,rfl]) lx _ (λm hm=>?_) (λE _ e2 e3 m hm=>?_) (λE _ e3 f a0 b0 e=>?_) (λe=>?_)
     .simp only[List.mem_cons,List.not_mem_nil,or_false] at hm;rcases hm with rfl|rfl
      .exact#[kl.1,kr.1]
      .exact#[kl.2,kr.2]
     .have:=e2 _ _ _ _ _ _ _ _ J U e3;simp only[List.mem_cons,List.not_mem_nil,or_false] at hm;rcases hm with rfl|rfl
      .exact this.1
      .exact this.2
     .rw[J] at e;cases e;exact#[a2,c2,U,e3 (a,a2) (by simp),e3 (c,c2) (by simp)]
     .rw[J] at e;cases e
    .exact bZ (Paired.imp' (λ_ _ z=>jE.mono (S8.tk.trans S) z) bl) (.cons #[T1,rfl,S _ _ g1] (.cons #[T2,rfl,S _ _ g2] .nil))
 .refine oU (by simp;exact al) ?_;exact q false R lv lo H5 an r hL (λz=>by cases z) (λ_=>L.Er J U (Af al X O))
end
end K1
namespace Wk
def eO (t:List Fm) (c:Nat):Bool:=match t[c]? with
 |some (.ax _)=>true
 |_=>false
def live (lv:List Nat) (b c:Nat):Prop:=∃x,lv[c]?=some x/\b < x
def gV (t:List Fm) (R:Nat->Nat) (lv:List Nat) (b:Nat) (l:Nat->Nat):Prop:=∀c,live lv b c->∀d∈aw t R c,live lv b d->l d < l c
def uc (t:List Fm) (R:Nat->Nat) (lv:List Nat) (b:Nat) (nodes:List Nat) (T:Nat->Prop) (l:Nat->Nat):Prop:=(∀x∈nodes,T x)/\∀c,T c->live lv b c->∀d∈aw t R c,T d/\(live lv b d->l d < l c)
theorem gV.all {t:List Fm} {R:Nat->Nat} {lv:List Nat} {b:Nat} {l:Nat->Nat} (h:gV t R lv b l) (nodes:List Nat):uc t R lv b nodes (λ_=>True) l:=#[λ_ _=>trivial,λc _ a d H=>#[trivial,h c a d H]]
def Ck (t:List Fm) (R:Nat->Nat) (U:Nat->List Nat):Prop:=∀c,U c=if eO t c then[c] else(aw t R c).flatMap U
def fr:List Nat->List Nat->List Nat
 |acc,[]=>acc
 |acc,x :: l=>if x∈acc then fr acc l else fr (acc++[x]) l
theorem gv:∀(a l m:List Nat),fr a (l++m)=fr (fr a l) m
 |a,[],m=>rfl
 |a,x :: l,m=>by
  show (if x∈a then fr a (l++m) else fr (a++[x]) (l++m))=fr (if x∈a then fr a l else fr (a++[x]) l) m;split
  .exact gv a l m
  .exact gv (a++[x]) l m
theorem l9:∀(a l:List Nat),(∀x∈l,x∈a)->fr a l=a
 |a,[],_=>rfl
 |a,x :: l,h=>by show (if x∈a then fr a l else _)=a;rw[if_pos (h x (by simp))];exact l9 a l λy E=>h y (by simp[E])
theorem o8:∀(a l:List Nat) (x:Nat),x∈fr a l↔x∈a\/x∈l
 |a,[],x=>by simp[fr]
 |a,y :: l,x=>by
  show x∈(if y∈a then fr a l else fr (a++[y]) l)↔_;split
  .rename_i h;rw[o8 a l x];constructor
   .rintro (c|c)
    .exact .inl c
    .exact .inr (by simp[c])
   .rintro (c|c)
    .exact .inl c
    .rcases List.mem_cons.mp c with rfl|c
     .exact .inl h
     .exact .inr c
  .rw[o8 (a++[y]) l x];simp only[List.mem_append,List.mem_cons,List.not_mem_nil,or_false];constructor
   .rintro ((c|c)|c)
    .exact .inl c
    .exact .inr (.inl c)
    .exact .inr (.inr c)
   .rintro (c|c|c)
    .exact .inl (.inl c)
    .exact .inl (.inr c)
    .exact .inr c
structure DD (t:List Fm) (R:Nat->Nat) (lv:List Nat) (b:Nat) (order:List Nat):Prop where
 nd:order.Nodup
 mem:∀c∈order,c < t.length/\R c=c/\live lv b c
 kids:∀pre c post,order=pre++c :: post->∀d∈aw t R c,live lv b d->d∈pre
structure o9 (t:List Fm) (R:Nat->Nat) (lv:List Nat) (b:Nat) (nodes:List Nat) (D:Nat->Option Bool) (order:List Nat) (G:List (Nat×Bool)):Prop where
 gw:DD t R lv b order
 ax:∀c,c∈order↔D c=some true
 ze:∀c,D c=some false↔(c,true)∈G
 Cm:∀e∈G,e.1 < t.length/\R e.1=e.1
 DE:∀c,D c≠none->live lv b c
 once:∀pre c post,G=pre++(c,true) :: post->∀e∈post,e.1≠c
 D7:∀pre c post,G=pre++(c,true) :: post->∀d∈aw t R c,live lv b d->D d=some true\/∃e∈post,e.1=d
 wL:∀T rk,uc t R lv b nodes T rk->(∀e∈G,T e.1)/\∀pre c post,G=pre++(c,true) :: post->∀e∈post,live lv b e.1->rk e.1 < rk c
 Cn:∀x∈nodes,live lv b x->D x=some true\/∃e∈G,e.1=x
 C5:∀U,Ck t R U->(∀c,c < t.length->live lv b c)->fr (order.filter (eO t)) ((G.map (·.1)).reverse.flatMap U)=fr [] (nodes.flatMap U)
section
variable {t:List Fm} {R:Nat->Nat} {lv:List Nat} {b:Nat} {nodes:List Nat} {D:Nat->Option Bool} {order:List Nat} {G:List (Nat×Bool)} {c:Nat}
theorem o9.start (h:∀x∈nodes,x < t.length/\R x=x):o9 t R lv b nodes (λ_=>none) [] (nodes.reverse.map λx=>(x,false)):=by
 have n:∀c,(c,true)∉nodes.reverse.map λx=>(x,false):=λc H=>by obtain⟨x,_,e⟩:=List.mem_map.mp H;cases e
 have N:∀{p c P},(nodes.reverse.map λx=>(x,false))=p++(c,true) :: P->False:=λ{p c P} e=>n c (by rw[e];simp);refine#[#[List.nodup_nil,λc H=>by simp at H,λp c P e=>by simp at e],λc=>by simp,λc=>#[(λe=>nomatch e),(λe=>absurd e (n c))],λe f=>?_,λc H=>absurd rfl H,λ_ _ _ e=>(N e).elim,λ_ _ _ e=>(N e).elim,λT l r=>#[λe f=>by obtain⟨x,a,rfl⟩:=List.mem_map.mp f;exact r.1 x (by simpa using a),λ_ _ _ e=>(N e).elim],λx a _=>.inr #[(x,false),?_,rfl],λU _ _=>?_]
 .obtain⟨x,a,rfl⟩:=List.mem_map.mp f;exact h x (by simpa using a)
 .exact List.mem_map.mpr #[x,by simpa using a,rfl]
 .have:((nodes.reverse.map λx=>(x,false)).map (·.1)).reverse=nodes:=by rw[List.map_map];simp[Function.comp_def]
  rw[this];rfl
theorem o9.seen (h:o9 t R lv b nodes D order G) {U:Nat->List Nat} (o:Ck t R U) (l:∀c,c < t.length->live lv b c) (f:∀c d,c < t.length->d∈aw t R c->d < t.length):∀c∈order,∀x∈U c,x∈order.filter (eO t):=by
 have y:∀(n:Nat) (p P:List Nat) (c:Nat),p.length < n->order=p++c :: P->∀x∈U c,x∈order.filter (eO t):=by
  intro n;induction n with
  |zero=>intro p P c i;exact absurd i (Nat.not_lt_zero _)
  |succ n I=>
   intro p P c i e x a;have j:c∈order:=by rw[e];simp
   rw[o c] at a;by_cases H:eO t c=true
   .rw[if_pos H] at a;simp at a;subst a;exact List.mem_filter.mpr #[j,H]
   .rw[if_neg H] at a;obtain⟨d,k,a⟩:=List.mem_flatMap.mp a;have g:=h.gw.kids p c P e d k (l d (f c d (h.gw.mem c j).1 k));obtain⟨m,w,E⟩:=List.append_of_mem g;refine I m (w++c :: P) d ?_ (by rw[e,E];simp) x a;rw[E,List.length_append] at i;simp at i;omega
 intro c j x a;obtain⟨p,P,e⟩:=List.append_of_mem j;exact y _ p P c (Nat.lt_succ_self _) e x a
theorem sG {c:Type} {G a P:List c} {e x:c} (h:G++[e]=a++x :: P):(P=[]/\e=x/\G=a)\/∃b,P=b++[e]/\G=a++x :: b:=by
 rcases List.eq_nil_or_concat P with rfl|⟨p,y,rfl⟩
 .have:G++[e]=a++[x]:=h;rw[List.append_inj_right' this (by simp) |> λz=>(List.cons.inj z).1] at this;have E:=List.append_inj' h (by simp);exact .inl #[rfl,(List.cons.inj E.2).1,E.1]
 .rw[List.concat_eq_append] at h ⊢;have:G++[e]=(a++x :: p)++[y]:=by rw[h];simp
  have E:=List.append_inj' this (by simp);refine .inr #[p,?_,E.1];rw[(List.cons.inj E.2).1]
theorem o9.pass (h:o9 t R lv b nodes D order (G++[(c,g)])) (H:∀c d,c < t.length->d∈aw t R c->d < t.length) (q:D c=some true\/(D c=none/\¬live lv b c)):o9 t R lv b nodes D order G:=by
 have C:g=false:=by
  cases g with
  |false=>rfl
  |true=>have:=(h.ze c).mpr (by simp);rcases q with e|⟨e,_⟩ <;> (rw[e] at this;cases this)
 subst C;refine#[h.gw,h.ax,λd=>#[λe=>?_,λe=>(h.ze d).mpr (List.mem_append_left _ e)],λe f=>h.Cm e (List.mem_append_left _ f),h.DE,λp d P e=>?_,λp d P e k s j=>?_,λT l r=>#[λe f=>(h.wL T l r).1 e (List.mem_append_left _ f),λp d P e=>?_],λx a j=>?_,λU o n=>?_]
 .have:=(h.ze d).mp e;rcases List.mem_append.mp this with z|z
  .exact z
  .simp at z
 .intro E f;exact h.once p d (P++[(c,false)]) (by rw[e];simp) E (List.mem_append_left _ f)
 .rcases h.D7 p d (P++[(c,false)]) (by rw[e];simp) k s j with z|⟨E,f,z⟩
  .exact .inl z
  .rcases List.mem_append.mp f with f|f
   .exact .inr #[E,f,z]
   .simp at f;subst f;rcases q with i|⟨_,i⟩
    .rw[<-z];exact .inl i
    .rw[<-z] at j;exact absurd j i
 .intro E f;exact(h.wL T l r).2 p d (P++[(c,false)]) (by rw[e];simp) E (List.mem_append_left _ f)
 .rcases h.Cn x a j with z|⟨E,f,z⟩
  .exact .inl z
  .rcases List.mem_append.mp f with f|f
   .exact .inr #[E,f,z]
   .simp at f;subst f;rcases q with i|⟨_,i⟩
    .rw[<-z];exact .inl i
    .rw[<-z] at j;exact absurd j i
 .have:=h.C5 U o n;rw[<-this,List.map_append,List.reverse_append];show _=fr _ (([c]++(G.map (·.1)).reverse).flatMap U);rw[List.flatMap_append,gv];have m:c∈order:=by
   rcases q with i|⟨_,i⟩
   .exact(h.ax c).mpr i
   .exact absurd (n c (h.Cm (c,false) (by simp)).1) i
  rw[l9 _ ([c].flatMap U)];intro x a;simp at a;exact h.seen o n H c m x a
theorem o9.close (h:o9 t R lv b nodes D order (G++[(c,g)])) (m:∀c d,c < t.length->d∈aw t R c->d < t.length) (w:D c=some false):o9 t R lv b nodes (λx=>if x=c then some true else D x) (order++[c]) G/\c∉order:=by
 have C:g=true:=by
  cases g with
  |true=>rfl
  |false=>
   have y:=(h.ze c).mp w;rcases List.mem_append.mp y with z|z
   .obtain⟨p,q,e⟩:=List.append_of_mem z;exact absurd rfl (h.once p c (q++[(c,false)]) (by rw[e];simp) (c,false) (by simp))
   .simp at z
 subst C;have K:c∉order:=λz=>by rw[(h.ax c).mp z] at w;cases w
 have L:=h.DE c (by rw[w];simp);have I:=h.Cm (c,true) (by simp);have Q:∀d∈aw t R c,live lv b d->d∈order:=λd M v=>by
  rcases h.D7 G c [] rfl d M v with z|⟨e,f,_⟩
  .exact(h.ax d).mpr z
  .simp at f
 have S:∀e∈G,e.1=c->e.2=false:=λe f i=>by
  obtain⟨x,O⟩:=e;cases O with
  |false=>rfl
  |true=>have i:x=c:=i;subst i;obtain⟨p,q,e⟩:=List.append_of_mem f;exact absurd rfl (h.once p x (q++[(x,true)]) (by rw[e];simp) (x,true) (by simp))
 refine#[#[#[?_,λd M=>?_,λB d P e=>?_],λd=>?_,λd=>?_,λe f=>h.Cm e (List.mem_append_left _ f),λd M=>?_,λB d P e=>?_,λB d P e k s v=>?_,λT l r=>#[λe f=>(h.wL T l r).1 e (List.mem_append_left _ f),λB d P e=>?_],λx j v=>?_,λU o n=>?_],K]
 .rw[List.nodup_append];refine#[h.gw.nd,by simp,λa A J H z=>?_];simp at H;subst H;subst z;exact K A
 .rcases List.mem_append.mp M with z|z
  .exact h.gw.mem d z
  .simp at z;subst z;exact⟨I.1,I.2,L⟩
 .rcases sG e with⟨rfl,i,E⟩|⟨N,rfl,E⟩
  .subst i;subst E;exact Q
  .exact h.gw.kids B d N E
 .show d∈order++[c]↔(if d=c then some true else D d)=some true;by_cases e:d=c
  .subst e;simp
  .rw[if_neg e,<-h.ax d];simp[e]
 .show (if d=c then some true else D d)=some false↔_;by_cases e:d=c
  .subst e;rw[if_pos rfl];exact#[(λz=>nomatch z),(λz=>by have:=S _ z rfl;cases this)]
  .rw[if_neg e,h.ze d];simp[e]
 .by_cases e:d=c
  .subst e;exact L
  .have:D d≠none:=by
    have M:(if d=c then some true else D d)≠none:=M;rwa [if_neg e] at M
   exact h.DE d this
 .intro u f;exact h.once B d (P++[(c,true)]) (by rw[e];simp) u (List.mem_append_left _ f)
 .show (if k=c then some true else D k)=some true\/_;by_cases i:k=c
  .rw[if_pos i];exact .inl rfl
  .rw[if_neg i];rcases h.D7 B d (P++[(c,true)]) (by rw[e];simp) k s v with z|⟨u,f,z⟩
   .exact .inl z
   .rcases List.mem_append.mp f with f|f
    .exact .inr #[u,f,z]
    .simp at f;subst f;exact absurd z.symm i
 .intro u f;exact(h.wL T l r).2 B d (P++[(c,true)]) (by rw[e];simp) u (List.mem_append_left _ f)
 .show (if x=c then some true else D x)=some true\/_;by_cases i:x=c
  .rw[if_pos i];exact .inl rfl
  .rw[if_neg i];rcases h.Cn x j v with z|⟨u,f,z⟩
   .exact .inl z
   .rcases List.mem_append.mp f with f|f
    .exact .inr #[u,f,z]
    .simp at f;subst f;exact absurd z.symm i
 .have:=h.C5 U o n;rw[<-this,List.map_append,List.reverse_append];show _=fr _ (([c]++(G.map (·.1)).reverse).flatMap U);rw[List.flatMap_append,gv];have i:[c].flatMap U=U c:=by simp
  rw[i];by_cases H:eO t c=true
  .have:(order++[c]).filter (eO t)=order.filter (eO t)++[c]:=by rw[List.filter_append];simp[H]
   rw[this,o c,if_pos H];show _=fr (if c∈order.filter (eO t) then _ else fr (order.filter (eO t)++[c]) []) _;rw[if_neg λz=>K (List.mem_filter.mp z).1];rfl
  .have:(order++[c]).filter (eO t)=order.filter (eO t):=by rw[List.filter_append];simp[H]
   rw[this,l9 _ (U c)];intro x j;rw[o c,if_neg H] at j;obtain⟨d,M,j⟩:=List.mem_flatMap.mp j;exact h.seen o n m d (Q d M (n d (m c d I.1 M))) x j
theorem o9.stuck (h:o9 t R lv b nodes D order (G++[(c,g)])) (a:live lv b c) {d:Nat} (j:d∈aw t R c) (H:D d=some false\/d=c) (T:Nat->Prop) (l:Nat->Nat) (r:uc t R lv b nodes T l):False:=by
 have m:=(h.wL T l r).1 (c,g) (by simp);rcases H with H|rfl
 .have i:=h.DE d (by rw[H];simp);have f:=(r.2 c m a d j).2 i;have k:=(h.ze d).mp H;rcases List.mem_append.mp k with z|z
  .obtain⟨p,q,e⟩:=List.append_of_mem z;have:=(h.wL T l r).2 p d (q++[(c,g)]) (by rw[e];simp) (c,g) (by simp) a;exact absurd (Nat.lt_trans f this) (Nat.lt_irrefl _)
  .simp at z;rw[z.1] at f;exact absurd f (Nat.lt_irrefl _)
 .exact absurd ((r.2 d m a d j).2 a) (Nat.lt_irrefl _)
theorem o9.begin (h:o9 t R lv b nodes D order (G++[(c,g)])) (hk:∀c d,c < t.length->d∈aw t R c->d < t.length/\R d=d) (u:live lv b c) (B:D c=none) (M:List Nat) (hM:M=(aw t R c).reverse.filter λd=>decide (D d=none)) (N:∀d∈aw t R c,D d≠some false/\d≠c):o9 t R lv b nodes (λx=>if x=c then some false else D x) order (G++(c,true) :: M.map λd=>(d,false)):=by
 have bE:=h.Cm (c,g) (by simp);have hg:g=false:=by
  cases g with
  |false=>rfl
  |true=>have:=(h.ze c).mpr (by simp);rw[B] at this;cases this
 subst hg;have S:∀d,d∈M↔d∈aw t R c/\D d=none:=λd=>by rw[hM];simp
 have nT:∀d:Nat,(d,true)∉M.map λd=>(d,false):=λd z=>by obtain⟨x,_,e⟩:=List.mem_map.mp z;cases e
 have X:∀{p d P},G++(c,true) :: (M.map λd=>(d,false))=p++(d,true) :: P->(d=c/\G=p/\P=M.map λd=>(d,false))\/∃O,G=p++(d,true) :: O/\P=O++(c,true) :: (M.map λd=>(d,false)):=by
  intro p d P e;rcases List.append_eq_append_iff.mp e with⟨x,i,E⟩|⟨x,i,E⟩
  .cases x with
   |nil=>simp at E i;exact .inl #[E.1.symm,i.symm,E.2.symm]
   |cons y x=>
    have:(d,true)∈M.map λd=>(d,false):=by
     have:M.map (λd=>(d,false))=x++(d,true) :: P:=by simp at E;exact E.2
     rw[this];simp
    exact absurd this (nT d)
  .cases x with
   |nil=>simp at E i;exact .inl #[E.1,i,E.2]
   |cons y x=>simp at E;obtain⟨rfl,E⟩:=E;exact .inr #[x,i,E]
 have cG:(c,true)∉G:=λz=>by have:=(h.ze c).mpr (List.mem_append_left _ z);rw[B] at this;cases this
 refine#[h.gw,λd=>?_,λd=>?_,λe J=>?_,λd A=>?_,λp d P e=>?_,λp d P e k s n=>?_,λT I r=>#[λe J=>?_,λp d P e=>?_],λx j n=>?_,λU L hL=>?_]
 .show d∈order↔(if d=c then some false else D d)=some true;by_cases e:d=c
  .subst e;rw[if_pos rfl];exact#[(λz=>by rw[(h.ax d).mp z] at B;cases B),(λz=>nomatch z)]
  .rw[if_neg e];exact h.ax d
 .show (if d=c then some false else D d)=some false↔_;by_cases e:d=c
  .subst e;rw[if_pos rfl];simp
  .rw[if_neg e,h.ze d];constructor
   .intro z;rcases List.mem_append.mp z with z|z
    .exact List.mem_append_left _ z
    .simp at z
   .intro z;rcases List.mem_append.mp z with z|z
    .exact List.mem_append_left _ z
    .rcases List.mem_cons.mp z with z|z
     .cases z;exact absurd rfl e
     .exact absurd z (nT d)
 .rcases List.mem_append.mp J with z|z
  .exact h.Cm e (List.mem_append_left _ z)
  .rcases List.mem_cons.mp z with rfl|z
   .exact bE
   .obtain⟨d,A,rfl⟩:=List.mem_map.mp z;exact hk c d bE.1 ((S d).mp A).1
 .by_cases e:d=c
  .subst e;exact u
  .have A:(if d=c then some false else D d)≠none:=A;rw[if_neg e] at A;exact h.DE d A
 .rcases X e with⟨rfl,_,rfl⟩|⟨O,i,rfl⟩
  .intro m J;obtain⟨x,j,rfl⟩:=List.mem_map.mp J;exact(N x ((S x).mp j).1).2
  .have kT:D d=some false:=(h.ze d).mpr (by rw[i];simp);intro m J;rcases List.mem_append.mp J with z|z
   .exact h.once p d (O++[(c,false)]) (by rw[i];simp) m (List.mem_append_left _ z)
   .rcases List.mem_cons.mp z with rfl|z
    .intro (z:c=d);rw[<-z,B] at kT;cases kT
    .obtain⟨x,j,rfl⟩:=List.mem_map.mp z;intro (z:x=d);rw[<-z,((S x).mp j).2] at kT;cases kT
 .show (if k=c then some false else D k)=some true\/_;rcases X e with⟨rfl,_,rfl⟩|⟨O,i,rfl⟩
  .rw[if_neg (N k s).2];cases Z:D k with
   |none=>exact .inr #[(k,false),List.mem_map.mpr #[k,(S k).mpr #[s,Z],rfl],rfl]
   |some v=>
    cases v with
    |true=>exact .inl rfl
    |false=>exact absurd Z (N k s).1
  .rcases h.D7 p d (O++[(c,false)]) (by rw[i];simp) k s n with z|⟨m,J,z⟩
   .have:k≠c:=λw=>by rw[w,B] at z;cases z
    rw[if_neg this];exact .inl z
   .rcases List.mem_append.mp J with J|J
    .exact .inr #[m,List.mem_append_left _ J,z]
    .simp at J;subst J;exact .inr #[(c,true),by simp,z]
 .have tc:T c:=(h.wL T I r).1 (c,false) (by simp);rcases List.mem_append.mp J with z|z
  .exact(h.wL T I r).1 e (List.mem_append_left _ z)
  .rcases List.mem_cons.mp z with rfl|z
   .exact tc
   .obtain⟨x,j,rfl⟩:=List.mem_map.mp z;exact(r.2 c tc u x ((S x).mp j).1).1
 .rcases X e with⟨rfl,_,rfl⟩|⟨O,i,rfl⟩
  .intro m J n;obtain⟨x,j,rfl⟩:=List.mem_map.mp J;exact(r.2 d ((h.wL T I r).1 (d,false) (by simp)) u x ((S x).mp j).1).2 n
  .intro m J n;have cd:I c < I d:=(h.wL T I r).2 p d (O++[(c,false)]) (by rw[i];simp) (c,false) (by simp) u;rcases List.mem_append.mp J with z|z
   .exact(h.wL T I r).2 p d (O++[(c,false)]) (by rw[i];simp) m (List.mem_append_left _ z) n
   .rcases List.mem_cons.mp z with rfl|z
    .exact cd
    .obtain⟨x,j,rfl⟩:=List.mem_map.mp z;exact Nat.lt_trans ((r.2 c ((h.wL T I r).1 (c,false) (by simp)) u x ((S x).mp j).1).2 n) cd
 .show (if x=c then some false else D x)=some true\/_;rcases h.Cn x j n with z|⟨m,J,z⟩
  .have:x≠c:=λw=>by rw[w,B] at z;cases z
   rw[if_neg this];exact .inl z
  .rcases List.mem_append.mp J with J|J
   .exact .inr #[m,List.mem_append_left _ J,z]
   .simp at J;subst J;exact .inr #[(c,true),by simp,z]
 .rw[<-h.C5 U L hL];have i:((G++(c,true) :: M.map λd=>(d,false)).map (·.1)).reverse=M.reverse++([c]++(G.map (·.1)).reverse):=by
   simp[Function.comp_def]
  have E:((G++[(c,false)]).map (·.1)).reverse=[c]++(G.map (·.1)).reverse:=by simp
  rw[i,E,List.flatMap_append,gv];have e3:M.reverse=(aw t R c).filter λd=>decide (D d=none):=by rw[hM,List.filter_reverse,List.reverse_reverse]
  rw[e3,List.flatMap_append,gv,gv _ ([c].flatMap U)]
  congr 1
  have e4:[c].flatMap U=U c:=by simp
  rw[e4];by_cases H:eO t c=true
  .have:aw t R c=[]:=by
    unfold eO at H;unfold aw;cases q:t[c]? with
    |none=>rfl
    |some fm=>
     rw[q] at H;cases fm with
     |num=>rfl
     |ax o=>rfl
     |two f a b=>cases H
   rw[this];rfl
  .have Y:=L c;rw[if_neg H] at Y;have ac:∀(l:List Nat) (K:List Nat),(∀x∈order.filter (eO t),x∈K)->(∀d∈l,d∈aw t R c)->fr K ((l.filter λd=>decide (D d=none)).flatMap U)=fr K (l.flatMap U):=by
    intro l;induction l with
    |nil=>intro K _ _;rfl
    |cons d l ih=>
     intro K C n;have A:=n d (by simp);rw[List.flatMap_cons,gv];cases Q:D d with
     |none=>
      have:(d :: l).filter (λd=>decide (D d=none))=d :: l.filter (λd=>decide (D d=none)):=by simp[Q]
      rw[this,List.flatMap_cons,gv];exact ih _ (λx j=>(o8 _ _ _).mpr (.inl (C x j))) λx j=>n x (by simp[j])
     |some v=>
      have:(d :: l).filter (λd=>decide (D d=none))=l.filter (λd=>decide (D d=none)):=by simp[Q]
      rw[this];have hv:v=true:=by
       cases v with
       |true=>rfl
       |false=>exact absurd Q (N d A).1
      subst hv;rw[l9 K (U d) λx j=>C x (h.seen L hL (λc d a b=>(hk c d a b).1) d ((h.ax d).mpr Q) x j)];exact ih K C λx j=>n x (by simp[j])
   rw[ac _ _ (λ_ z=>z) λ_ z=>z,<-Y];exact l9 _ _ λx j=>(o8 _ _ _).mpr (.inr j)
structure DF (t:List Fm) (R:Nat->Nat) (lv:List Nat) (b:Nat) (nodes order:List Nat):Prop where
 gw:DD t R lv b order
 Cn:∀x∈nodes,live lv b x->x∈order
 C5:∀U,Ck t R U->(∀c,c < t.length->live lv b c)->order.filter (eO t)=fr [] (nodes.flatMap U)
theorem o9.end (h:o9 t R lv b nodes D order []):DF t R lv b nodes order:=by
 refine#[h.gw,λx a c=>?_,λU o n=>h.C5 U o n];rcases h.Cn x a c with z|⟨e,f,_⟩
 .exact(h.ax x).mpr z
 .simp at f
end
end Wk
namespace L2
open PySem PySem.Spec PyProof.Rows
theorem cz.of {X:Cx} {x:Str} {ys:List Str} {s:List Nat} {C:Scope} {e:List (Str×Addr)} (L:List (Str×NameKind)) (kind:C.kind=.function) (jz:∀y∈C.names,y.2≠.cell) (names:∀y∈C.names,y.2=.local->C.names.lookup y.1=some .local) (var:C.names.lookup x=some .local) (nd:(x :: ys).Nodup) (Cd:closureFor C X.env=pure e) (n:(relabel C X.env).names=L) (b:(L.all λp=>decide (p.2≠.cell/\p.2≠.free)||decide (p.1∈ys))=true) (H:∀y∈ys,∃c,e.lookup y=some c) (sub:∀y c,e.lookup y=some c->X.env.cells.lookup y=some c) (slots:∀(i:Nat) (y:Str),ys[i]?=some y->∃j,s[i]?=some j/\X.N[j]?=some y/\De X.env.scope y/\((X.env.kindOf y=some .cell\/X.env.kindOf y=some .free))/\((relabel C X.env).names.lookup y=some .cell\/(relabel C X.env).names.lookup y=some .free)) (len:ys.length=s.length):cz X x ys s C e:=by
 refine#[kind,jz,names,var,nd,Cd,λy E=>?_,sub,slots,len];have k:∀K,(relabel C X.env).names.lookup y=some K->(K=.cell\/K=.free)->y∈ys:=λK h a=>by
  rw[n] at h;have d:=PySem.mem_of_lookup h;have:=List.all_eq_true.mp b _ d;simp only[Bool.or_eq_true,decide_eq_true_eq] at this;rcases this with z|z
  .rcases a with a|a
   .exact absurd a z.1
   .exact absurd a z.2
  .exact z
 refine H y ?_;rcases E with E|E
 .exact k _ E (.inl rfl)
 .exact k _ E (.inr rfl)
def gW:Nat->Expr->List Scope
 |0,_=>[]
 |n+1,e=>match e with
  | .ListComp _ _ sc _=>[sc]
  | .Call f as _ _=>gW n f++as.flatMap (gW n)
  | .Compare a _ bs _=>gW n a++bs.flatMap (gW n)
  | .BinOp a _ b _=>gW n a++gW n b
  | .BoolOp _ as _=>as.flatMap (gW n)
  | .Tuple as _ _=>as.flatMap (gW n)
  | .Subscript a b _=>gW n a++gW n b
  | .Attribute a _ _=>gW n a
  |_=>[]
def yv:Nat->Stmt->List Scope
 |0,_=>[]
 |n+1,s=>match s with
  | .Assign _ e _=>gW 8 e
  | .Return (some e) _=>gW 8 e
  | .Expr e _=>gW 8 e
  | .For _ it b _ _=>gW 8 it++b.flatMap (yv n)
  | .While c b _ _=>gW 8 c++b.flatMap (yv n)
  | .If c b d _=>gW 8 c++b.flatMap (yv n)++d.flatMap (yv n)
  |_=>[]
def ud (s:Stmt) (k:Nat):Scope:=match s with
 | .FunctionDef _ _ b _ _ _ _ _ _ _=>(b.flatMap (yv 8)).getD k {kind:=.function,names:=[],isGenerator:=false,isCoroutine:=false}
 |_=>{kind:=.function,names:=[],isGenerator:=false,isCoroutine:=false}
end L2
namespace K1
open PySem L2 Wk
structure DB (n:Nat) (kvs:List (Key×V)) (D:Nat->Option Bool) (dom:List Nat):Prop where
 val:∀l:Nat,cE kvs (Sum.inl (l:Int))=(D l).map V.bl
 len:kvs.length=dom.length
 nd:dom.Nodup
 lt:∀x∈dom,x < n
 mem:∀l,D l=none->l∉dom
theorem DB.le {n:Nat} {k:List (Key×V)} {D:Nat->Option Bool} {d:List Nat} (h:DB n k D d):d.length<=n:=ig n d h.nd h.lt
theorem DB.new {n:Nat} {k:List (Key×V)} {D:Nat->Option Bool} {d:List Nat} (h:DB n k D d) {c:Nat} {v:Bool} (e:D c=none) (H:c < n):DB n (putK k (Sum.inl (c:Int)) (.bl v)) (λx=>if x=c then some v else D x) (c :: d):=by
 have g:cE k (Sum.inl (c:Int))=none:=by rw[h.val,e];rfl
 refine#[λj=>?_,by rw[iU _ g,List.length_append,h.len];simp,List.nodup_cons.mpr #[h.mem c e,h.nd],λx a=>?_,λj b=>?_]
 .rw[fO];show _=(if j=c then some v else D j).map V.bl;by_cases q:j=c
  .subst q;rw[if_pos rfl,if_pos rfl];rfl
  .rw[if_neg (λz=>q (by injection z with z;omega)),if_neg q,h.val]
 .rcases List.mem_cons.mp a with rfl|a
  .exact H
  .exact h.lt x a
 .have b:(if j=c then some v else D j)=none:=b;by_cases q:j=c
  .rw[if_pos q] at b;cases b
  .rw[if_neg q] at b;intro z;rcases List.mem_cons.mp z with z|z
   .exact q z
   .exact h.mem j b z
theorem DB.DG {n:Nat} {k:List (Key×V)} {D:Nat->Option Bool} {d:List Nat} (h:DB n k D d) {c:Nat} (e:D c=none) (H:c < n):d.length < n:=by
 have:=ig n (c :: d) (List.nodup_cons.mpr #[h.mem c e,h.nd]) λz f=>by
  rcases List.mem_cons.mp f with rfl|f
  .exact H
  .exact h.lt z f
 exact this
theorem pd {b:Type} [DecidableEq b] (K:List (b×V)) (k:b) (v:V) (h:cE K k≠none):(putK K k v).length=K.length:=by
 have c:=eE K k v;unfold putK;split
 .simp
 .rename_i a;exfalso;apply h;unfold cE;rw[List.find?_eq_none.mpr]
  .rfl
  .intro p g z;simp only[decide_eq_true_eq] at z;first
    |exact a (List.any_eq_true.mpr ⟨p,g,by simpa using z⟩)
    |(apply a;simp only[List.any_eq_true,decide_eq_true_eq];exact⟨p,g,z⟩)
theorem DB.old {n:Nat} {k:List (Key×V)} {D:Nat->Option Bool} {d:List Nat} (h:DB n k D d) {c:Nat} {v:Bool} (e:D c≠none):DB n (putK k (Sum.inl (c:Int)) (.bl v)) (λx=>if x=c then some v else D x) d:=by
 refine#[λj=>?_,?_,h.nd,h.lt,λj H=>?_]
 .rw[fO];show _=(if j=c then some v else D j).map V.bl;by_cases q:j=c
  .subst q;rw[if_pos rfl,if_pos rfl];rfl
  .rw[if_neg (λz=>q (by injection z with z;omega)),if_neg q,h.val]
 .rw[pd _ _ _ (by rw[h.val];cases q:D c with|none=>exact absurd q e|some x=>simp),h.len]
 .have H:(if j=c then some v else D j)=none:=H;by_cases q:j=c
  .rw[if_pos q] at H;cases H
  .rw[if_neg q] at H;exact h.mem j H
theorem qG {t:List Fm} {R:Nat->Nat} (w:rF t) (r:i4 t.length R):∀c d,c < t.length->d∈aw t R c->d < t.length/\R d=d:=by
 intro c d _ h;unfold aw at h;cases e:t[c]? with
 |none=>rw[e] at h;simp at h
 |some g=>
  rw[e] at h;cases g with
  |num=>simp at h
  |ax o=>simp at h
  |two f a b=>
   have H:=w.lt e;simp only[List.mem_cons,List.not_mem_nil,or_false] at h;rcases h with rfl|rfl
   .exact#[r.lt _ H.1,r.idem _ H.1]
   .exact#[r.lt _ H.2,r.idem _ H.2]
theorem nM (t:List Fm) (R:Nat->Nat) (c:Nat):(aw t R c).length<=2:=by unfold aw;split <;> simp
abbrev EK:List Str:=["self","nodes","bound","order","done","waiting","top","part"]
section
variable {P:Program} {w:World} {K:W.Frag} {mg:Str->Option Value} {base:Heap} {f aR aW:Addr} {fd dR dW:FuncData} {C:Addr} {dV:Value}
inductive yw (C:Addr) (vs:List V) (H:Hp) (Q:VK) (zz3:XK):Prop
 |mk (A:_) (t:_) (R:_) (lv:_) (lo:_) (ln:Addr) (nodes:List Nat) (b:Nat) (h1_:vs=[.ref A.p,.ref ln,.int (b:Nat)]) (h2_:cg C A t R lv lo H) (h3_:rF t) (h4_:H ln=some (.lst (cF nodes))) (h5_:¬SN A ln) (h6_:(∀x∈nodes,x < t.length)) (h7_:t.length<=1000000) (h8_:nodes.length<=1000000) (h9_:(∀H',Kx (SN A) H H'->cg C A t R lv lo H'->(∀T rk,uc t R lv b (nodes.map R) T rk->False)->Q .dE H')) (h10_:∀l order H',H l=none->Kx (SN A) H H'->cg C A t R lv lo H'->H' l=some (.lst (cF order))->DF t R lv b (nodes.map R) order->Q (.ref l) H'):yw C vs H Q zz3
theorem DH:a9 EK ["self","nodes","bound"] (ao nL):=#[rfl,rfl,rfl,by decide +kernel,rfl,by decide +kernel,by decide +kernel]
inductive sH (A:Lay) (C:Addr) (H:Hp) (R:Nat->Nat) (b:Nat) (ld:Addr) (ln:Addr) (lo:List Nat) (lo':Addr) (lv:List Nat) (lw:Addr) (nodes:List Nat) (t:List Fm) (μ:Nat) (σ:St) (H1:Hp):Prop
 |mk (D:_) (order:_) (G:_) (kvs:_) (dom:_) (tp:_) (pt:_) (h1_:σ=[some (.ref A.p),some (.ref ln),some (.int (b:Nat)),some (.ref lo'),some (.ref ld),some (.ref lw),tp,pt]) (h2_:μ=3*(t.length - dom.length)+G.length) (h3_:Kx (SN A) H H1) (h4_:cg C A t R lv lo H1) (h5_:H1 lw=some (.lst (cF (G.map (·.1))))) (h6_:H1 lo'=some (.lst (cF order))) (h7_:H1 ld=some (.dK kvs)) (h8_:DB t.length kvs D dom) (h9_:o9 t R lv b (nodes.map R) D order G) (h10_:G.length<=nodes.length+2*dom.length):sH A C H R b ld ln lo lo' lv lw nodes t μ σ H1
inductive yx (A:Lay) (C:Addr) (D:Nat->Option Bool) (G':List (Nat×Bool)) (H:Hp) (R:Nat->Nat) (b:Nat) (c:Nat) (kvs:List (Key×V)) (ld:Addr) (lk:Addr) (ln:Addr) (lo:List Nat) (lo':Addr) (lv:List Nat) (lw:Addr) (order:List Nat) (t:List Fm) (i:Nat) (σ:St) (H6:Hp):Prop
 |mk (pt:_) (h1_:σ=[some (.ref A.p),some (.ref ln),some (.int (b:Nat)),some (.ref lo'),some (.ref ld),some (.ref lw),some (.int (c:Nat)),pt]) (h2_:Kx (SN A) H H6) (h3_:cg C A t R lv lo H6) (h4_:H6 lk=some (.lst (cF (aw t R c)))) (h5_:H6 lo'=some (.lst (cF order))) (h6_:H6 ld=some (.dK (putK kvs (Sum.inl (c:Int)) (.bl false)))) (h7_:H6 lw=some (.lst (cF (G'.map (·.1)++c :: ((aw t R c).reverse.take i).filter λd=>decide (D d=none))))) (h8_:∀d∈(aw t R c).reverse.take i,D d≠some false/\d≠c):yx A C D G' H R b c kvs ld lk ln lo lo' lv lw order t i σ H6
def DI (K:W.Frag):TS:=cI (mT (iS K (jU (af (4:Nat)) (af (7:Nat))))) (cT (tC V.dE)) cC
def DJ (K:W.Frag):TS:=cI (tB (km (af (7:Nat)) (af (4:Nat)))) (dk (ou K "list" cB (af (5:Nat)) (ai (af (7:Nat)) av))) (DI K)
def DK (K:W.Frag) (C:PySem.Addr):TS:=oh (zK K (ai (eC C (PySem.Str.ofString "within") (K1.fS C) [] E0 (af (0:Nat)) (ai (af (6:Nat)) av)) av)) (az (7:Nat)) (DJ K)
def DL (K:W.Frag) (C:PySem.Addr):TS:=aN (iV (af (4:Nat)) (af (6:Nat)) (tC (V.bl Bool.false))) (DK K C)
def DM (K:W.Frag):TS:=aN (iV (af (4:Nat)) (af (6:Nat)) (tC (V.bl Bool.true))) (dk (ou K "list" cB (af (3:Nat)) (ai (af (6:Nat)) av)))
def DN (K:W.Frag):TS:=aN (cI (mT (iS K (sf (af (4:Nat)) (af (6:Nat)) (tC (V.bl Bool.true))))) (DM K) cC) wX
def DO (K:W.Frag):TS:=aN (dk (iz K "list" iq (af (5:Nat)))) (DN K)
def DP (K:W.Frag) (C:PySem.Addr):TS:=aN (cI (CT (tB (xH (af (6:Nat)) (af (4:Nat)))) (bD (bj (mW λ(i j:Int)=>V.bl (Decidable.decide (i<=j))) (bj (eL K) (fH K (af (0:Nat)) (PySem.Str.ofString "levels")) (af (6:Nat))) (af (2:Nat))))) (DO K) cC) (DL K C)
def DQ (K:W.Frag) (C:PySem.Addr):TS:=aN (bq (bj (eL K) (af (5:Nat)) (Dk (rU λ(i:Int)=>V.int (-i)) (tC (V.int (1:Int))))) (az (6:Nat))) (DP K C)
def DR (K:W.Frag) (C:PySem.Addr):TS:=aN (eQ (iS K (af (5:Nat))) (DQ K C)) (cT (af (3:Nat)))
def Co (K:W.Frag) (C:PySem.Addr):TS:=aN (bq (lP (zK K (ai (af (1:Nat)) av)) (eC C (PySem.Str.ofString "root") (K1.fh C) [] E0 (af (1:Nat)) (ai (af (0:Nat)) av)) [(0:Nat)]) (az (5:Nat))) (DR K C)
def Cp (K:W.Frag) (C:PySem.Addr):TS:=aN (bq jx (az (4:Nat))) (Co K C)
def Cq (K:W.Frag) (C:PySem.Addr):TS:=aN (bq (cK av) (az (3:Nat))) (Cp K C)
theorem DS (F:nc K "parts_first" "Nodes.parts_first" nL f fd dV) (N:i6 K C) (mr:mg "reversed"=none) (MR:Meth K C "root" aR) (GR:aU P w K mg base cM 1 aR dR ["self","node"] (fh C)) (bR:Binds K dR ["self","node"] []) (MW:Meth K C "within" aW) (GW:aU P w K mg base cM 2 aW dW ["self","node"] (fS C)) (bW:Binds K dW ["self","node"] []):aU P w K mg base cM 3 f fd ["self","nodes","bound"] (yw C):=by
 refine F.ok (k:=2) DH (λvs H Q E h=>?_) (λbI A' bo s H vs Q E hr h=>?_)
 .obtain⟨A,t,R,lv,lo,ln,q,b,rfl,_,_,_,_,_,_,_,_,_⟩:=h;rfl
 obtain⟨A,t,R,lv,lo,ln,q,b,rfl,hN,bb,a1,bs,a0,hn,bS,qn,qs⟩:=h;have nd:=DH.nd;have hu:=fI hr;have bH:=hr.mono (show 1<=2 by decide);have CS:cz (fw cM P w K mg base EK "Nodes.parts_first" (ao nL) f bI A' bo s H E).mV "node" ["self"] [0] (ud nL 0) [("self",s.heap.objs.size+1)]:=by
  refine cz.of [(".0",.local),("node",.local),("self",.cell)] rfl (by decide +kernel) (by decide +kernel) rfl (by decide +kernel) rfl rfl (by decide +kernel) (λy hy=>?_) (λy c h=>h) (λi y h=>?_) rfl
  .simp at hy;subst hy;exact⟨_,rfl⟩
  .match i,h with
   |0,h=>cases (Option.some.inj h);exact⟨0,rfl,rfl,Or.inr (Or.inl rfl),.inl rfl,.inl rfl⟩
 refine#[Cq K C,(ae (ay (i:=3) nd rfl (Or.inl rfl) (ba ag)) (ae (ay (i:=4) nd rfl (Or.inl rfl) gM) (ae (zM (i:=5) nd rfl rfl CS rfl (oB rfl mr (aa (pv 1) ag)) (λC' fp s' H'=>cy (pv 1) N.cl MR GR bH bR .nil bN (aa (pv 0) ag))) (ae (dm PassesOwn.never (cU (pv 5) (λ_=>rfl)) (ae (ay (i:=6) nd rfl (Or.inl rfl) (aB cf (pv 5) (tL oj ak) (λ_ _=>rfl))) (ae (cb (PW.pt (pQ (fX (oA hu (pv 6) (pv 4))) (oa (aD Dr (aB cf (cS (pv 0) rfl) (pv 6) (λ_ _=>rfl)) (pv 2) (aX _))))) (ae (cp (dq PySem.F.plainAttrs_list PySem.F.slot_list_pop PySem.F.type_list_pop dr (pv 5))) (ae (cb (fY (cU (qh hu (pv 4) (pv 6) e7 #[rfl,rfl,rfl,rfl]) (λ_=>rfl))) (ae (fJ hu (pv 4) (pv 6) e7 rfl) (aj (cp (eD PySem.F.plainAttrs_list PySem.F.slot_list_append PySem.F.type_list_append bV (pv 3) (aa (pv 6) ag))))) bw) (aj (jO)))) bw) (ae (fJ hu (pv 4) (pv 6) e7 rfl) (aj (gb PassesOwn.never rfl (oB rfl mr (aa (cy (pv 0) N.cl MW GW hr bW .nil bN (aa (pv 6) ag)) ag)) (dg (i:=7) nd rfl (Or.inl rfl)) (aj (cb (fX (jw hu (pv 7) (pv 4))) (aj (cp (eD PySem.F.plainAttrs_list PySem.F.slot_list_append PySem.F.type_list_append bV (pv 5) (aa (pv 7) ag)))) (aj (cb (fY (cU (gp hu (pv 4) (pv 7) (λ_ _=>rfl)) (λ_=>rfl))) (aj (bc lA)) bw)))))))))) (aj (bc (pv 3))))))),?_];refine#[Nat.zero_le _,λu an=>?_];have S1:aq H (upd H u (.lst [])):=aq.new an;intro ld a8;have S2:aq (upd H u (.lst [])) (upd (upd H u (.lst [])) ld (.dK [])):=aq.new a8;have S:=S1.trans S2;have aC:upd (upd H u (.lst [])) ld (.dK []) u=some (.lst []):=S2 _ _ ab;have aK:upd (upd H u (.lst [])) ld (.dK []) ld=some (.dK []):=ab;have fld:H ld=none:=S1.free a8;generalize upd (upd H u (.lst [])) ld (.dK [])=H2 at S2 S aC aK ⊢;have aO:¬SN A u:=hN.nS an;have aJ:¬SN A ld:=hN.nS fld;have bJ:u≠A.p:=λz=>by rw[z,hN.ins] at an;cases an
 have a3:ld≠A.p:=λz=>by rw[z,hN.ins] at fld;cases fld
 have aQ:u≠ld:=λz=>by rw[z,aK] at aC;cases aC
 refine#[_,rfl,ln,cF q,rfl,bp.of (S _ _ a1),λL B=>?_];have U:H L=none:=S.free B;have am:¬SN A L:=hN.nS U;have aL:L≠A.p:=λz=>by rw[z,hN.ins] at U;cases U
 have Z:u≠L:=λz=>by rw[<-z,aC] at B;cases B
 have Y:ld≠L:=λz=>by rw[<-z,aK] at B;cases B
 have a5:ln≠L:=λz=>by rw[<-z,S _ _ a1] at B;cases B
 have aT:(cF q).length=q.length:=c6 _;refine#[(λi m ys n=>m=q.length - i/\i<=q.length/\ys=cF ((q.map R).reverse.take i)/\Kx (SN A) H n/\cg C A t R lv lo n/\n L=some (.lst ys)/\n ln=some (.lst (cF q))/\n u=some (.lst [])/\n ld=some (.dK [])),#[q.length,by simp,Nat.zero_le _,by simp[cF],(Kx.of S).upd U,(hN.same S).same (aq.new B),ab,by rw[ah a5];exact S _ _ a1,by rw[ah Z];exact aC,by rw[ah Y];exact aK],?_];rintro i m ys n ⟨rfl,hi,rfl,K1,N1,j,e2,e3,e4⟩;refine#[j,?_];by_cases a6:i < q.length
 .refine .inr #[#[by rw[aT];exact a6,_,bp.of e2,rfl],bh (by rw[c6];simp;omega),λx H' y=>?_];obtain⟨rfl,y⟩:=y;have hx:=y _ (bp.of e2);have hj:q.length - 1 - i < q.length:=by omega
  have bm:q[q.length - 1 - i]?=some q[q.length - 1 - i]:=List.getElem?_eq_getElem hj;rw[aT,c5 bm] at hx;obtain rfl:=Option.some.inj hx;refine#[_,rfl,A.p,A.dx,_,rfl,N1.ins,by unfold aE;rfl,_,rfl,A,t,R,lv,lo,_,rfl,N1,a0 _ (List.getElem_mem hj),λH3 K3 N3=>?_];refine#[K3 _ _ j am,q.length - (i+1),by omega,rfl,by omega,?_,(K1.trans K3).upd U,N3.other am aL (Tk.lst (K3 _ _ j am)),ab,by rw[ah a5];exact K3 _ _ e2 bs,by rw[ah Z];exact K3 _ _ e3 aO,by rw[ah Y];exact K3 _ _ e4 aJ];have aI:(q.map R).reverse[i]?=some (R q[q.length - 1 - i]):=by rw[List.getElem?_reverse (by simpa using a6),List.length_map,List.getElem?_map,bm];rfl
  rw[List.take_add_one,aI];exact(gu _ [_])
 have bC:i=q.length:=by omega
 subst bC;have aS:(q.map R).reverse.take q.length=(q.map R).reverse:=List.take_of_length_le (by simp);rw[aS] at j;refine .inl #[aT.symm,?_];have aM:=hN.lY;have be:=qG (R:=R) bb aM;have a4:∀c d,c < t.length->d∈aw t R c->d < t.length:=λc d a b=>(be c d a b).1;refine#[(sH A C H R b ld ln lo u lv L q t),#[_,λ_=>none,[],(q.map R).reverse.map λx=>(x,false),[],[],none,none,rfl,rfl,K1,N1,?_,e3,e4,#[λl=>rfl,rfl,List.nodup_nil,λx hx=>by simp at hx,λl _=>by simp],o9.start (λx hx=>?_),by simp],?_]
 .rw[List.map_map];simpa [Function.comp_def] using j
 .obtain⟨y,hy,rfl⟩:=List.mem_map.mp hx;exact#[aM.lt _ (a0 y hy),aM.idem _ (a0 y hy)]
 clear j e2 e3 e4 N1 K1 n;rintro μ σ n ⟨D,O,G,p,M,tp,pt,rfl,rfl,K1,N1,j,e3,e4,db,I,a2⟩;have bK:=db.le;refine#[_,rfl,_,.inl #[_,bp.of j,rfl],?_];rcases List.eq_nil_or_concat G with rfl|⟨J,⟨c,g⟩,rfl⟩
 .refine cA ?_;exact#[_,rfl,qs u O n an K1 N1 e3 I.end]
 rw[List.concat_eq_append] at j I a2 ⊢;have bA:cF ((J++[(c,g)]).map (·.1))=cF (J.map (·.1))++[V.int (c:Nat)]:=by rw[List.map_append];exact(gu _ [c]).symm
 rw[bA] at j ⊢;have bE:=I.Cm (c,g) (by simp);have aH:c < t.length:=bE.1;refine gF (by simp) ?_;refine#[_,λ_ _ z=>z,?_];refine#[_,rfl,_,rfl,L,_,_,_,rfl,rfl,bp.of j,xB _ _,?_];refine#[_,rfl,_,rfl,ld,_,rfl,d0.k (k:=Sum.inl (c:Int)) e4,_,rfl,?_];rw[db.val];obtain⟨x,ex⟩:∃x,lv[c]?=some x:=#[_,List.getElem?_eq_getElem (by rw[hN.lvl];exact aH)];have bd:∀ys,Tk n (upd n L (.lst ys)):=λys=>Tk.lst j;have gl:(J++[(c,g)]).length=J.length+1:=by simp
 have bL:O.length<=t.length:=ig _ _ I.gw.nd λx hx=>(I.gw.mem x hx).1;have bk:∀(aY:St),aY=[some (.ref A.p),some (.ref ln),some (.int (b:Nat)),some (.ref u),some (.ref ld),some (.ref L),some (.int (c:Nat)),pt]->(D c=some true\/(D c=none/\¬live lv b c))->∃m',m' < 3*(t.length - M.length)+(J++[(c,g)]).length/\sH A C H R b ld ln lo u lv L q t m' aY (upd n L (.lst (cF (J.map (·.1))))):=λaY bF hd=>⟨3*(t.length - M.length)+J.length,by omega,D,O,J,p,M,_,_,bF,rfl,K1.upd U,N1.other am aL (bd _),ab,by rw[ah Z];exact e3,by rw[ah Y];exact e4,db,I.pass a4 hd,by omega⟩;have bi:(cF (J.map (·.1))++[V.int (c:Nat)]).dropLast=cF (J.map (·.1)):=List.dropLast_concat;have ac:upd n L (.lst (cF (J.map (·.1)))) ld=some (.dK p):=by rw[ah Y];exact e4
 cases hD:D c with
 |some v=>
  refine fM (fM ?_);refine#[_,rfl,.inl #[rfl,_,bp.of j],L,_,.int (c:Nat),rfl,rfl,j,(by simp),?_];rw[bi];refine#[_,rfl,ld,rfl,.inl #[_,.of ac],_,rfl,some (.bl v),?_,v,rfl,?_]
  .have:=d0.k (k:=Sum.inl (c:Int)) ac;rw[db.val,hD] at this;exact this
  cases v with
  |true=>refine cA ?_;exact bk _ rfl (.inl hD)
  |false=>
   refine fM ?_;refine#[_,rfl,_,rfl,ld,_,rfl,gE.k (k:=Sum.inl (c:Int)) ac (bh (by rw[db.len];omega)),?_];obtain⟨I2,as⟩:=I.close a4 hD;have ax:=db.old (c:=c) (v:=true) (by rw[hD];simp);have K2:Kx (SN A) H (upd n L (.lst (cF (J.map (·.1))))):=K1.upd U;have N2:=N1.other am aL (bd (cF (J.map (·.1))));have w2:upd n L (.lst (cF (J.map (·.1)))) L=some (.lst (cF (J.map (·.1)))):=ab;have o2:upd n L (.lst (cF (J.map (·.1)))) u=some (.lst (cF O)):=by rw[ah Z];exact e3
   generalize upd n L (.lst (cF (J.map (·.1))))=H3 at ac K2 N2 w2 o2 ⊢;have K3:=K2.upd (o:=.dK (putK p (Sum.inl (c:Int)) (.bl true))) fld;have N3:=N2.other (o:=.dK (putK p (Sum.inl (c:Int)) (.bl true))) aJ a3 (Tk.CZ ac);have w3:upd H3 ld (.dK (putK p (Sum.inl (c:Int)) (.bl true))) L=some (.lst (cF (J.map (·.1)))):=by rw[ah Y.symm];exact w2
   have o3:upd H3 ld (.dK (putK p (Sum.inl (c:Int)) (.bl true))) u=some (.lst (cF O)):=by rw[ah aQ];exact o2
   have d3:upd H3 ld (.dK (putK p (Sum.inl (c:Int)) (.bl true))) ld=some (.dK (putK p (Sum.inl (c:Int)) (.bl true))):=ab;generalize upd H3 ld (.dK (putK p (Sum.inl (c:Int)) (.bl true)))=H4 at K3 N3 w3 o3 d3 ⊢;refine#[_,rfl,.inl #[rfl,_,bp.of o3],_,rfl,u,_,_,rfl,rfl,o3,bh (by rw[c6];omega),?_];have e:cF O++[V.int (c:Nat)]=cF (O++[c]):=gu O [c];rw[e];exact⟨3*(t.length - M.length)+J.length,by omega,_,O++[c],J,_,M,_,_,rfl,rfl,K3.upd an,N3.other aO bJ (Tk.lst o3),by rw[ah Z.symm];exact w3,ab,by rw[ah aQ.symm];exact d3,ax,I2,by omega⟩
 |none=>
  refine cA ?_;refine#[_,rfl,A.p,C,A.dx,aE A,.ref A.L3,rfl,N1.ins,N.cl,N.n3,eV A,_,rfl,A.L3,_,_,_,rfl,rfl,bp.of N1.lZ,ar (c5 ex),_,rfl,_,_,rfl,rfl,_,rfl,?_];by_cases hx:x<=b
  .refine gF (by simp;omega) ?_;refine#[_,rfl,.inl #[rfl,_,bp.of j],L,_,.int (c:Nat),rfl,rfl,j,(by simp),?_];rw[bi];refine#[_,rfl,ld,rfl,.inl #[_,.of ac],_,rfl,none,?_,true,rfl,?_]
   .have:=d0.k (k:=Sum.inl (c:Int)) ac;rw[db.val,hD] at this;exact this
   refine cA ?_;exact bk _ rfl (.inr #[hD,λ⟨y,ey,hy⟩=>by rw[ex] at ey;cases ey;omega])
  .refine oU (by simp;omega) ?_;have bg:live lv b c:=#[x,ex,by omega];have bM:=db.DG hD aH;refine#[_,rfl,_,rfl,ld,_,rfl,gE.k (k:=Sum.inl (c:Int)) e4 (bh (by rw[db.len];omega)),?_];have ax:=db.new (v:=false) hD aH;have K3:=K1.upd (o:=.dK (putK p (Sum.inl (c:Int)) (.bl false))) fld;have N3:=N1.other (o:=.dK (putK p (Sum.inl (c:Int)) (.bl false))) aJ a3 (Tk.CZ e4);have w3:upd n ld (.dK (putK p (Sum.inl (c:Int)) (.bl false))) L=some (.lst (cF (J.map (·.1))++[V.int (c:Nat)])):=by rw[ah Y.symm];exact j
   have o3:upd n ld (.dK (putK p (Sum.inl (c:Int)) (.bl false))) u=some (.lst (cF O)):=by rw[ah aQ];exact e3
   have d3:upd n ld (.dK (putK p (Sum.inl (c:Int)) (.bl false))) ld=some (.dK (putK p (Sum.inl (c:Int)) (.bl false))):=ab;generalize upd n ld (.dK (putK p (Sum.inl (c:Int)) (.bl false)))=H4 at K3 N3 w3 o3 d3 ⊢;refine#[_,rfl,A.p,A.dx,_,rfl,N3.ins,by unfold aE;rfl,_,rfl,A,t,R,lv,lo,c,rfl,N3,aH,bb,λlk H5 aP K5 N5 bf=>?_];have w5:=K5 _ _ w3 am;have o5:=K5 _ _ o3 aO;have d5:=K5 _ _ d3 aJ;have bv:lk≠L:=λz=>by rw[z,w3] at aP;cases aP
   have bP:¬SN A lk:=N3.nS aP;refine#[lk,cF (aw t R c),rfl,bp.of bf,?_];have kl:(cF (aw t R c)).length=(aw t R c).length:=c6 _;have bQ:=nM t R c;refine oC (yx A C D J H R b c p ld lk ln lo u lv L O t) #[pt,rfl,K3.trans K5,N5,bf,o5,d5,by rw[w5];simp[cF,nV],λd hd=>by simp at hd] (λi σ H6 _ ⟨_,_,_,_,h,_,_,_,_⟩=>bp.of h) (λi y σ H6 hi hy hP=>?_) (λσ H6 hP=>?_)
   .obtain⟨bG,rfl,K6,N6,k6,o6,d6,w6,as⟩:=hP;rw[kl] at hi hy;have hj:(aw t R c).length - 1 - i < (aw t R c).length:=by omega
    have aF:(aw t R c)[(aw t R c).length - 1 - i]?=some (aw t R c)[(aw t R c).length - 1 - i]:=List.getElem?_eq_getElem hj;rw[c5 aF] at hy;obtain rfl:=Option.some.inj hy;have aI:(aw t R c).reverse[i]?=some (aw t R c)[(aw t R c).length - 1 - i]:=by rw[List.getElem?_reverse hi];exact aF
    generalize (aw t R c)[(aw t R c).length - 1 - i]=d at aF aI;have bn:d∈aw t R c:=List.mem_of_getElem? aF;have X:(aw t R c).reverse.take (i+1)=(aw t R c).reverse.take i++[d]:=by rw[List.take_add_one,aI];rfl
    refine#[_,rfl,_,rfl,ld,_,rfl,d0.k (k:=Sum.inl (d:Int)) d6,_,rfl,?_];rw[ax.val];have a7:(D d=some false\/d=c)->Q .dE H6:=λhb=>qn H6 K6 N6 λT rk r=>I.stuck bg bn hb T rk r;by_cases al:d=c
    .rw[if_pos al];refine cA ?_;refine#[_,rfl,_,rfl,ld,.bl false,rfl,?_,false,rfl,?_]
     .have:=d0.k (k:=Sum.inl (d:Int)) d6;rw[ax.val,if_pos al] at this;exact this
     exact fM (a7 (.inr al))
    rw[if_neg al];cases ap:D d with
    |none=>
     refine fM ?_;refine#[_,rfl,.inl #[rfl,_,bp.of w6],_,rfl,L,_,_,rfl,rfl,w6,en ?_,?_]
     .rw[c6,List.length_append,List.length_cons];have h1:=List.length_filter_le (λd=>decide (D d=none)) ((aw t R c).reverse.take i);have h2:((aw t R c).reverse.take i).length<=2:=by simp;omega
      simp only[List.length_map] at*;omega
     refine#[_,rfl,K6.upd U,N6.other am aL (Tk.lst w6),by rw[ah bv];exact k6,by rw[ah Z];exact o6,by rw[ah Y];exact d6,?_,λd' aA=>?_]
     .rw[ab,X,List.filter_append];have:[d].filter (λd=>decide (D d=none))=[d]:=by simp[ap]
      rw[this];simp[cF,nV]
     .rw[X] at aA;rcases List.mem_append.mp aA with z|z
      .exact as d' z
      .simp at z;subst z;exact⟨by rw[ap];simp,al⟩
    |some v=>
     refine cA ?_;refine#[_,rfl,_,rfl,ld,.bl v,rfl,?_,v,rfl,?_]
     .have:=d0.k (k:=Sum.inl (d:Int)) d6;rw[ax.val,if_neg al,ap] at this;exact this
     cases v with
     |false=>exact fM (a7 (.inl ap))
     |true=>
      refine cA ?_;refine#[_,rfl,K6,N6,k6,o6,d6,?_,λd' aA=>?_]
      .rw[w6,X,List.filter_append];have:[d].filter (λd=>decide (D d=none))=[]:=by simp[ap]
       rw[this];simp
      .rw[X] at aA;rcases List.mem_append.mp aA with z|z
       .exact as d' z
       .simp at z;subst z;exact⟨by rw[ap];simp,al⟩
   .obtain⟨bG,rfl,K6,N6,k6,o6,d6,w6,as⟩:=hP;have aS:(aw t R c).reverse.take (cF (aw t R c)).length=(aw t R c).reverse:=List.take_of_length_le (by rw[kl];simp);rw[aS] at w6 as;have I2:=I.begin be bg hD _ rfl λd hd=>as d (by simpa using hd);have bB:=List.length_filter_le (λd=>decide (D d=none)) (aw t R c).reverse;rw[List.length_reverse] at bB;refine⟨3*(t.length - (c :: M).length)+(J++(c,true) :: ((aw t R c).reverse.filter λd=>decide (D d=none)).map λd=>(d,false)).length,?_,_,O,_,_,c :: M,_,_,rfl,rfl,K6,N6,?_,o6,d6,ax,I2,?_⟩
    .simp only[List.length_append,List.length_cons,List.length_map,List.length_nil];omega
    .rw[w6];simp[Function.comp_def]
    .simp only[List.length_append,List.length_cons,List.length_map] at a2 ⊢;simp at a2;omega
end
end K1
namespace Wk
def yy (t:List Fm) (R:Nat->Nat) (ix:Nat->Nat) (kd:Nat->Kd):Prop:=∀c,c < t.length->kd c=match t[c]? with
 |some (.two f a b)=>.two f (kd (R a)) (kd (R b))
 |some (.ax _)=>.ax (ix c:Nat)
 |_=>.num
def sI (t:List Fm) (R:Nat->Nat) (ix:Nat->Nat):Nat->Nat->Kd
 |0,_=>.num
 |n+1,c=>match t[c]? with
  |some (.two f a b)=>.two f (sI t R ix n (R a)) (sI t R ix n (R b))
  |some (.ax _)=>.ax (ix c:Nat)
  |_=>.num
theorem md {t:List Fm} {R:Nat->Nat} {ix l:Nat->Nat} (h:∀(c:Nat) (f:Bool) (a b:Nat),t[c]?=some (.two f a b)->l (R a) < l c/\l (R b) < l c):∀(n m c:Nat),l c < n->l c < m->sI t R ix n c=sI t R ix m c:=by
 intro n;induction n with
 |zero=>intro m c d;exact absurd d (Nat.not_lt_zero _)
 |succ n I=>
  intro m c d H;cases m with
  |zero=>exact absurd H (Nat.not_lt_zero _)
  |succ m=>
   unfold sI;cases e:t[c]? with
   |none=>rfl
   |some g=>
    cases g with
    |num=>rfl
    |ax o=>rfl
    |two f a b=>have:=h c f a b e;show Kd.two f _ _=Kd.two f _ _;rw[I m (R a) (by omega) (by omega),I m (R b) (by omega) (by omega)]
theorem nN {t:List Fm} {R:Nat->Nat} {l:Nat->Nat} (ix:Nat->Nat) (h:∀(c:Nat) (f:Bool) (a b:Nat),t[c]?=some (.two f a b)->l (R a) < l c/\l (R b) < l c):∃K,yy t R ix K:=by
 refine#[λc=>sI t R ix (l c+1) c,λc _=>?_];show sI t R ix (l c+1) c=_;cases e:t[c]? with
 |none=>unfold sI;rw[e]
 |some d=>
  cases d with
  |num=>unfold sI;rw[e]
  |ax o=>unfold sI;rw[e]
  |two f a b=>
   have:=h c f a b e;have E:sI t R ix (l c+1) c=.two f (sI t R ix (l c) (R a)) (sI t R ix (l c) (R b)):=by show (match t[c]? with|some (.two f a b)=>Kd.two f (sI t R ix (l c) (R a)) (sI t R ix (l c) (R b))|some (.ax _)=>.ax (ix c:Nat)|_=>.num)=_;rw[e]
   rw[E,md h (l c) (l (R a)+1) (R a) this.1 (Nat.lt_succ_self _),md h (l c) (l (R b)+1) (R b) this.2 (Nat.lt_succ_self _)]
theorem yz {t:List Fm} {l:List Nat} (h:l.length=t.length) (g:∀x∈l,1<=x):∀c,c < t.length->live l 0 c:=λc a=>
 ⟨l[c]'(by rw[h];exact a),List.getElem?_eq_getElem (by rw[h];exact a),g _ (List.getElem_mem _)⟩
theorem me {t:List Fm} {R:Nat->Nat} {L:List Nat} {l:Nat->Nat} (r:gV t R L 0 l) (g:∀c,c < t.length->live L 0 c) (H:∀c d,c < t.length->d∈aw t R c->d < t.length):∀(c:Nat) (f:Bool) (a b:Nat),t[c]?=some (.two f a b)->l (R a) < l c/\l (R b) < l c:=λc f a b e=>by
 have i:=(List.getElem?_eq_some_iff.mp e).1;have E:aw t R c=[R a,R b]:=by unfold aw;rw[e]
 have j:R a∈aw t R c:=by rw[E];simp
 have h:R b∈aw t R c:=by rw[E];simp
 exact#[r c (g c i) _ j (g _ (H c _ i j)),r c (g c i) _ h (g _ (H c _ i h))]
theorem qH {p:Nat->Bool}:∀(l:List Nat) (i c:Nat),l.Nodup->l[i]?=some c->p c=true->(l.filter p).idxOf c=((l.take i).filter p).length
 |[],_,_,_,h,_=>by simp at h
 |a :: l,0,c,nd,h,g=>by simp at h;subst h;simp[g]
 |a :: l,i+1,c,nd,h,g=>by
  have H:l[i]?=some c:=by simpa using h
  have N:a≠c:=λz=>(List.nodup_cons.mp nd).1 (by rw[z];exact List.mem_of_getElem? H);have I:=qH (p:=p) l i c (List.nodup_cons.mp nd).2 H g;by_cases b:p a=true
  .rw[List.filter_cons_of_pos b,List.take_succ_cons,List.filter_cons_of_pos b,List.idxOf_cons,List.length_cons,<-I];have:(a==c)=false:=by simpa using N
   rw[this];rfl
  .rw[List.filter_cons_of_neg b,List.take_succ_cons,List.filter_cons_of_neg b];exact I
end Wk
namespace K1
open PySem L2 Wk
abbrev Et:List Str:=["self","nodes","kinds","count","each","head"]
section
variable {P:Program} {w:World} {K:W.Frag} {mg:Str->Option Value} {base:Heap} {f aR aW aP:Addr} {fd dR dW dP:FuncData} {C:Addr} {u0:Tok}
inductive pe (C:Addr) (vs:List V) (H:Hp) (Q:VK) (zz3:XK):Prop
 |mk (A:_) (t:_) (R:_) (lv:_) (lo:_) (ln:Addr) (nodes:List Nat) (h1_:vs=[.ref A.p,.ref ln]) (h2_:cg C A t R lv lo H) (h3_:rF t) (h4_:H ln=some (.lst (cF nodes))) (h5_:¬SN A ln) (h6_:(∀x∈nodes,x < t.length)) (h7_:t.length<=1000000) (h8_:nodes.length<=1000000) (h9_:(∀x∈lv,1<=x)) (h10_:(∃rk,gV t R lv 0 rk)) (h11_:∀l ws kd H',H l=none->Kx (SN A) H H'->cg C A t R lv lo H'->H' l=some (.lst ws)->Ks H' ws (nodes.map λx=>kd (R x))->(∀U,Ck t R U->yy t R (λc=>(fr [] ((nodes.map R).flatMap U)).idxOf c) kd)->Q (.ref l) H'):pe C vs H Q zz3
theorem yA:a9 Et ["self","nodes"] (ao l8):=#[rfl,rfl,rfl,by decide +kernel,rfl,by decide +kernel,by decide +kernel]
inductive sJ (A:Lay) (C:Addr) (H:Hp) (R:Nat->Nat) (kd:Nat->Kd) (ld:Addr) (ln:Addr) (lo:List Nat) (lr:Addr) (lv:List Nat) (nodes:List Nat) (order:List Nat) (t:List Fm) (i:Nat) (σ:St) (H2:Hp):Prop
 |mk (ea:_) (he:_) (kvs:_) (vv:Nat->V) (h1_:σ=[some (.ref A.p),some (.ref ln),some (.ref ld),some (.int ((((order.take i).filter (eO t)).length:Nat):Int)),ea,he]) (h2_:Kx (SN A) H H2) (h3_:cg C A t R lv lo H2) (h4_:H2 lr=some (.lst (cF order))) (h5_:H2 ln=some (.lst (cF nodes))) (h6_:H2 ld=some (.dK kvs)) (h7_:kvs.length=i) (h8_:(∀c:Nat,cE kvs (Sum.inl (c:Int))=if c∈order.take i then some (vv c) else none)) (h9_:∀c∈order.take i,cP H2 (vv c) (kd c)):sJ A C H R kd ld ln lo lr lv nodes order t i σ H2
def Ag:TS:=aN (iV (af (2:Nat)) (af (4:Nat)) (dZ (ai (tC (V.str (PySem.Str.ofString "blank"))) (ai (af (3:Nat)) av)))) (bq (bj (mW λ(i j:Int)=>V.int (i+j)) (af (3:Nat)) (tC (V.int (1:Int)))) (az (3:Nat)))
def Ah (K:W.Frag) (C:PySem.Addr):TS:=cI (bD (bj ki (af (5:Nat)) (tC (V.str (PySem.Str.ofString "blank"))))) Ag (iV (af (2:Nat)) (af (4:Nat)) (bj (xy K) (dZ (ai (af (5:Nat)) av)) (lH (fz K) (ai (lP (iQ K (eC C (PySem.Str.ofString "within") (K1.fS C) [] E0 (af (0:Nat)) (ai (af (4:Nat)) av))) (jU (af (1:Nat)) (af (0:Nat))) [(2:Nat)]) av))))
def Ai (K:W.Frag) (C:PySem.Addr):TS:=aN (bq (bj (cn K) (bj (eL K) (fH K (af (0:Nat)) (PySem.Str.ofString "forms")) (af (4:Nat))) (tC (V.int (0:Int)))) (az (5:Nat))) (Ah K C)
def Aj (K:W.Frag) (C:PySem.Addr):TS:=aN (oh (iQ K (eC C (PySem.Str.ofString "parts_first") (K1.yw C) [V.int (0:Int)] E0 (af (0:Nat)) (ai (af (1:Nat)) av))) (az (4:Nat)) (Ai K C)) (cT (lP (iQ K (af (1:Nat))) (jU (af (1:Nat)) (eC C (PySem.Str.ofString "root") (K1.fh C) [] E0 (af (2:Nat)) (ai (af (0:Nat)) av))) [(2:Nat),(0:Nat)]))
def Ak (K:W.Frag) (C:PySem.Addr):TS:=aN (bq (tC (V.int (0:Int))) (az (3:Nat))) (Aj K C)
def Al (K:W.Frag) (C:PySem.Addr):TS:=aN (bq jx (az (2:Nat))) (Ak K C)
theorem Am (F:gj K "told" "Nodes.told" l8 f fd) (N:i6 K C) (mt:mg "tuple"=none) (MR:Meth K C "root" aR) (GR:aU P w K mg base cM 1 aR dR ["self","node"] (fh C)) (bR:Binds K dR ["self","node"] []) (MW:Meth K C "within" aW) (GW:aU P w K mg base cM 2 aW dW ["self","node"] (fS C)) (bW:Binds K dW ["self","node"] []) (MP:Meth K C "parts_first" aP) (GP:aU P w K mg base cM 3 aP dP ["self","nodes","bound"] (yw C)) (bP:Binds K dP ["self","nodes","bound"] [.int 0 u0]):aU P w K mg base cM 4 f fd ["self","nodes"] (pe C):=by
 refine F.ok (k:=3) yA (λvs H Q E h=>?_) (λbJ A' bn s H vs Q E hr h=>?_)
 .obtain⟨A,t,R,lv,lo,ln,G,rfl,_,_,_,_,_,_,_,_,_,_⟩:=h;rfl
 obtain⟨A,t,R,lv,lo,ln,G,rfl,hN,bd,cm,aS,a8,hn,ch,ca,⟨rk,bs⟩,q⟩:=h;have nd:=yA.nd;have hu:=fI hr;have co:=hr.mono (show 1<=3 by decide);have b4:=hr.mono (show 2<=3 by decide);have b0:cz (fw cM P w K mg base Et "Nodes.told" (ao l8) f bJ A' bn s H E).mV "part" ["kinds"] [2] (ud l8 0) [("kinds",s.heap.objs.size+2)]:=by
  refine cz.of [(".0",.local),("part",.local),("kinds",.cell)] rfl (by decide +kernel) (by decide +kernel) rfl (by decide +kernel) rfl rfl (by decide +kernel) (λy hy=>?_) (λy c h=>?_) (λi y h=>?_) rfl
  .simp at hy;subst hy;exact⟨_,rfl⟩
  .rw[List.lookup_cons] at h;by_cases e:y="kinds"
   .subst e;simp at h;subst h;rfl
   .have b:(y=="kinds")=false:=by simpa using e
    rw[b] at h;cases h
  .match i,h with
   |0,h=>cases (Option.some.inj h);exact⟨2,rfl,rfl,Or.inr (Or.inl rfl),.inl rfl,.inl rfl⟩
 have b1:cz (fw cM P w K mg base Et "Nodes.told" (ao l8) f bJ A' bn s H E).mV "node" ["kinds","self"] [2,0] (ud l8 1) [("self",s.heap.objs.size+1),("kinds",s.heap.objs.size+2)]:=by
  refine cz.of [(".0",.local),("node",.local),("kinds",.cell),("self",.cell)] rfl (by decide +kernel) (by decide +kernel) rfl (by decide +kernel) rfl rfl (by decide +kernel) (λy hy=>?_) (λy c h=>?_) (λi y h=>?_) rfl
  .simp at hy;rcases hy with rfl|rfl <;> exact⟨_,rfl⟩
  .rw[List.lookup_cons] at h;by_cases e:y="self"
   .subst e;simp at h;subst h;rfl
   .have b:(y=="self")=false:=by simpa using e
    rw[b,List.lookup_cons] at h;by_cases e:y="kinds"
    .subst e;simp at h;subst h;rfl
    .have b:(y=="kinds")=false:=by simpa using e
     rw[b] at h;cases h
  .match i,h with
   |0,h=>cases (Option.some.inj h);exact⟨2,rfl,rfl,Or.inr (Or.inl rfl),.inl rfl,.inl rfl⟩
   |1,h=>cases (Option.some.inj h);exact⟨0,rfl,rfl,Or.inr (Or.inl rfl),.inl rfl,.inl rfl⟩
 refine#[Al K C,(ae (ay (i:=2) nd rfl (Or.inr rfl) gM) (ae (ay (i:=3) nd rfl (Or.inl rfl) ak) (ae (gb PassesOwn.never rfl (fj (cy (pv 0) N.cl MP GP hr bP (dvs:=[.int 0]) (.cons #[u0,rfl] .nil) bN (aa (pv 1) ag))) (dg (i:=4) nd rfl (Or.inl rfl)) (ae (ay (i:=5) nd rfl (Or.inl rfl) (aB aG (aB cf (cS (pv 0) rfl) (pv 4) (λ_ _=>rfl)) ak (λ_ _=>rfl))) (aj (cb (aD dj (pv 5) aZ (aX _)) (ae (fJ hu (pv 2) (pv 4) (cj (aa aZ (aa (pv 3) ag))) rfl) (aj (ay (i:=3) nd rfl (Or.inl rfl) (cD rM (pv 3) ak)))) (aj (fJ hu (pv 2) (pv 4) (cD zy (cj (aa (pv 5) ag)) (uD mZ rfl mt PyProof.Rows.boot_tuple (aa (kB b0 rfl (fj (cy (pv 0) N.cl MW GW b4 bW .nil bN (aa (pv 4) ag))) (λC' fp s' H'=>gp hu (pv 1) (pv 0) (λ_ _=>rfl))) ag))) rfl)))))) (aj (bc (kB b1 rfl (fj (pv 1)) (λC' fp s' H'=>gp hu (pv 1) (cy (pv 2) N.cl MR GR co bR .nil bN (aa (pv 0) ag)) (λ_ _=>rfl)))))))),?_];intro ld aJ;have S0:aq H (upd H ld (.dK [])):=aq.new aJ;have aF:¬SN A ld:=hN.nS aJ;have bL:ld≠A.p:=λz=>by rw[z,hN.ins] at aJ;cases aJ
 have bb:upd H ld (.dK []) ld=some (.dK []):=ab;have N0:=hN.same S0;generalize upd H ld (.dK [])=H0 at S0 bb N0 ⊢;have bG:=S0 _ _ cm;refine#[_,rfl,A.p,A.dx,_,rfl,N0.ins,by unfold aE;rfl,_,rfl,A,t,R,lv,lo,ln,G,0,rfl,N0,bd,bG,aS,a8,hn,ch,λH1 _ _ a7=>(a7 _ rk (bs.all _)).elim,λlr O H1 a3 K1 N1 bl pf=>?_];have cG:H lr=none:=S0.free a3;have bM:¬SN A lr:=N0.nS a3;have bS:lr≠ld:=λz=>by rw[z,bb] at a3;cases a3
 have bT:=K1 _ _ bb aF;have cc:=K1 _ _ bG aS;have bI:=qG (R:=R) bd hN.lY;have hL:=yz (t:=t) hN.lvl ca;have b6:=me bs hL λc d a b=>(bI c d a b).1;obtain⟨kd,bk⟩:=nN (λc=>(O.filter (eO t)).idxOf c) b6;have ct:O.length<=t.length:=ig _ _ pf.gw.nd λx hx=>(pf.gw.mem x hx).1;have bF:(cF O).length=O.length:=c6 _;refine#[lr,rfl,#[_,bp.of bl],gI (xs:=cF O) (sJ A C H R kd ld ln lo lr lv G O t) #[none,none,[],λ_=>.dE,rfl,(Kx.of S0).trans K1,N1,bl,cc,bT,rfl,λc=>by simp;rfl,λc hc=>by simp at hc] (λi σ n _ ⟨_,_,_,_,_,_,_,h,_,_,_,_,_⟩=>bp.of h) (λi x σ n hx hP=>?_) (λσ n hP=>?_)]
 .obtain⟨ea,he,ac,D,rfl,K2,N2,a5,al,d2,aI,X,Y⟩:=hP;have hi:i < O.length:=by rw[<-bF];exact(List.getElem?_eq_some_iff.mp hx).1
  have aH:O[i]?=some O[i]:=List.getElem?_eq_getElem hi;rw[c5 aH] at hx;obtain rfl:=Option.some.inj hx;have bf:O=O.take i++O[i] :: O.drop (i+1):=by have:=List.take_append_drop i O;rw[List.drop_eq_getElem_cons hi] at this;exact this.symm
  generalize O[i]=c at aH bf;have bY:=List.mem_of_getElem? aH;obtain⟨aM,cR,_⟩:=pf.gw.mem c bY;have a7:c∉O.take i:=λz=>by have h1:=pf.gw.nd;rw[bf,List.nodup_append] at h1;exact h1.2.2 c z c (by simp) rfl
  have am:O.take (i+1)=O.take i++[c]:=by rw[List.take_add_one,aH];rfl
  obtain⟨u,ws,b,an,ew,cs,hb⟩:=N2.form aM;have b7:cE ac (Sum.inl (c:Int))=none:=by rw[X,if_neg a7]
  refine#[_,rfl,A.p,C,A.dx,aE A,.ref A.L1,rfl,N2.ins,N.cl,N.n1,eS A,_,rfl,A.L1,_,_,_,rfl,rfl,bp.of ew,ar cs,b,_,0,_,rfl,rfl,cx.of hb,qz u,?_];refine#[_,rfl,rfl,_,rfl,?_];have aO:=bk c aM;rw[an] at aO;have a4:∀(cnt:Nat) (v:V) (g:Hp),cnt=((O.take (i+1)).filter (eO t)).length->Kx (SN A) H g->cg C A t R lv lo g->g lr=some (.lst (cF O))->g ln=some (.lst (cF G))->g ld=some (.dK ac)->Tk n g->cP g v (kd c)->sJ A C H R kd ld ln lo lr lv G O t (i+1) [some (V.ref A.p),some (.ref ln),some (.ref ld),some (.int ((cnt:Nat):Int)),some (.int (c:Nat)),some (.str (gr u))] (upd g ld (.dK (putK ac (Sum.inl (c:Int)) v))):=by
   intro cnt v g hc K3 N3 a0 as d3 b9 kv;have aA:Tk g (upd g ld (.dK (putK ac (Sum.inl (c:Int)) v))):=Tk.CZ d3;refine#[_,_,_,λx=>if x=c then v else D x,by rw[hc],K3.upd aJ,N3.other aF bL aA,by rw[ah bS];exact a0,by rw[ah (eP as d3 (by intro z;cases z))];exact as,ab,by rw[iU _ b7,List.length_append,aI];rfl,λc'=>?_,λc' bH=>?_]
   .rw[fO,am];by_cases e:c'=c
    .subst e;rw[if_pos rfl,if_pos (by simp)];simp
    .rw[if_neg (λz=>e (by injection z with z;omega)),X];by_cases hm:c'∈O.take i
     .rw[if_pos hm,if_pos (by simp[hm])];simp[e]
     .rw[if_neg hm,if_neg (by simp[hm,e])]
   .show cP _ (if c'=c then v else D c') (kd c');by_cases e:c'=c
    .subst e;rw[if_pos rfl];exact kv.mono aA
    .rw[if_neg e];rw[am] at bH;have hm:c'∈O.take i:=by
      rcases List.mem_append.mp bH with z|z
      .exact z
      .simp at z;exact absurd z e
     exact(Y c' hm).mono (b9.trans aA)
  by_cases M:gr u="blank"
  .refine gF (by simp[M]) ?_;obtain⟨o,rfl⟩:∃o,u=.ax o:=by
    cases u with
    |ax o=>exact#[o,rfl]
    |num=>exact absurd M fE
    |two f a b=>exact absurd M (iD f)
   have aQ:eO t c=true:=by unfold eO;rw[an]
   refine#[_,rfl,(by show 2<=sizeLine;decide),λT aT=>?_];have B:aq n (upd n T (.tup [.str "blank",.int ((((O.take i).filter (eO t)).length:Nat):Int)])):=aq.new aT;have aL:upd n T (.tup [.str "blank",.int ((((O.take i).filter (eO t)).length:Nat):Int)]) T=some (.tup [.str "blank",.int ((((O.take i).filter (eO t)).length:Nat):Int)]):=ab;generalize upd n T (.tup [.str "blank",.int ((((O.take i).filter (eO t)).length:Nat):Int)])=g at B aL ⊢;refine#[_,rfl,_,rfl,ld,_,rfl,gE.k (k:=Sum.inl (c:Int)) (B _ _ d2) (bh (by rw[aI];omega)),?_];refine#[_,rfl,_,_,rfl,rfl,?_];have a2:((O.take i).filter (eO t)).length+1=((O.take (i+1)).filter (eO t)).length:=by rw[am,List.filter_append,List.length_append];simp[aQ]
   refine a4 (((O.take i).filter (eO t)).length+1) (.ref T) g a2 (K2.trans (.of B)) (N2.same B) (B _ _ a5) (B _ _ al) (B _ _ d2) B.tk ?_;rw[aO];show cP g (.ref T) (.ax (((O.filter (eO t)).idxOf c:Nat):Int));rw[qH O i c pf.gw.nd aH aQ];exact#[T,rfl,aL]
  .refine oU (by simp;exact M) ?_;have aQ:eO t c=false:=by
    unfold eO;rw[an];cases u with
    |ax o=>exact absurd rfl M
    |num=>rfl
    |two f a b=>rfl
   have a2:((O.take i).filter (eO t)).length=((O.take (i+1)).filter (eO t)).length:=by rw[am,List.filter_append,List.length_append];simp[aQ]
   refine#[_,rfl,(by show 1<=sizeLine;decide),λT aT=>?_];have B:aq n (upd n T (.tup [.str (gr u)])):=aq.new aT;have aL:upd n T (.tup [.str (gr u)]) T=some (.tup [.str (gr u)]):=ab;have N3:=N2.same B;have a0:=B _ _ a5;have as:=B _ _ al;have d3:=B _ _ d2;have cr:¬SN A T:=N2.nS aT;have K3:=K2.trans (Kx.of (S:=SN A) B);generalize upd n T (.tup [.str (gr u)])=g at B aL N3 a0 as d3 K3 ⊢;refine#[_,rfl,A.p,A.dx,_,rfl,N3.ins,by unfold aE;rfl,_,rfl,A,t,R,lv,lo,c,rfl,N3,aM,bd,λlk H4 b3 K4 N4 aK=>?_];have aA:=N3.hs.tk K4;have bA:=K4 _ _ a0 bM;have bB:=K4 _ _ as aS;have d4:=K4 _ _ d3 aF;have c0:¬SN A lk:=N3.nS b3;refine#[lk,rfl,#[_,bp.of aK],λlq J=>?_];have c1:lk≠lq:=λz=>by rw[<-z,aK] at J;cases J
   have b5:(cF (aw t R c)).length=(aw t R c).length:=c6 _;have c2:=nM t R c;have bi:∀d∈aw t R c,d∈O.take i:=λd hd=>pf.gw.kids _ _ _ bf d hd (hL d (bI c d aM hd).1);refine#[(λj m ys r=>m=(aw t R c).length - j/\j<=(aw t R c).length/\ys=((aw t R c).take j).map D/\aq H4 r/\r lq=some (.lst ys)),#[_,rfl,Nat.zero_le _,rfl,aq.new J,ab],?_];rintro j m ys r ⟨rfl,hj,rfl,S5,e5⟩;refine#[e5,?_];by_cases ap:j < (aw t R c).length
   .have L:(aw t R c)[j]?=some (aw t R c)[j]:=List.getElem?_eq_getElem ap;refine .inr #[#[_,_,bp.of (S5 _ _ aK),c5 L],bh (by simp;omega),λx H' y=>?_];obtain⟨rfl,y⟩:=y;have hx:=y _ (bp.of (S5 _ _ aK));rw[c5 L] at hx;obtain rfl:=Option.some.inj hx;have bQ:=bi _ (List.getElem_mem ap);refine#[_,rfl,_,rfl,ld,D (aw t R c)[j],rfl,?_,?_]
    .have:=d0.k (k:=Sum.inl (((aw t R c)[j]:Nat):Int)) (S5 _ _ d4);rw[X,if_pos bQ] at this;exact this
    refine#[e5,(aw t R c).length - (j+1),by omega,rfl,by omega,?_,S5.upd J,ab];rw[List.take_add_one,L,List.map_append];rfl
   .have ej:j=(aw t R c).length:=by omega
    subst ej;refine .inl #[#[_,bp.of (S5 _ _ aK),by rw[b5];exact Nat.le_refl _],?_];rw[List.take_length] at e5;refine#[lq,_,rfl,.inl #[bp.of e5,λlu cl=>?_]];have S6:aq r (upd r lu (.tup ((aw t R c).map D))):=aq.new cl;have bC:upd r lu (.tup ((aw t R c).map D)) lu=some (.tup ((aw t R c).map D)):=ab;have I:=S5.trans S6;generalize upd r lu (.tup ((aw t R c).map D))=H6 at S6 bC I ⊢;have bm:=I _ _ (K4 _ _ aL cr);have K6:Kx (SN A) H H6:=(K3.trans K4).trans (.of I);have a1:Tk n H6:=(B.tk.trans aA).trans I.tk;refine#[T,lu,_,_,rfl,rfl,cx.of bm,cx.of bC,by simp,(by simp;exact Nat.le_of_lt (bh (by omega))),λbg=>?_,λa6 p hp=>?_]
    .refine#[_,rfl,_,rfl,ld,_,rfl,gE.k (k:=Sum.inl (c:Int)) (I _ _ d4) (bh (by rw[aI];omega)),?_];refine a4 _ (.ref T) H6 a2 K6 (N4.same I) (I _ _ bA) (I _ _ bB) (I _ _ d4) a1 ?_;cases u with
     |ax o=>exact absurd rfl M
     |num=>rw[aO];exact#[T,rfl,bm]
     |two f a b=>unfold aw at bg;rw[an] at bg;simp at bg
    .have S7:aq H6 (upd H6 p (.tup ([.str (gr u)]++(aw t R c).map D))):=aq.new hp;have be:upd H6 p (.tup ([.str (gr u)]++(aw t R c).map D)) p=some (.tup ([.str (gr u)]++(aw t R c).map D)):=ab;generalize upd H6 p (.tup ([.str (gr u)]++(aw t R c).map D))=H7 at S7 be ⊢;have aC:=I.trans S7;refine#[_,rfl,_,rfl,ld,_,rfl,gE.k (k:=Sum.inl (c:Int)) (aC _ _ d4) (bh (by rw[aI];omega)),?_];refine a4 _ (.ref p) H7 a2 (K6.trans (.of S7)) (N4.same aC) (aC _ _ bA) (aC _ _ bB) (aC _ _ d4) (a1.trans S7.tk) ?_;cases u with
     |ax o=>exact absurd rfl M
     |num=>unfold aw at a6;rw[an] at a6;simp at a6
     |two f a b=>
      have e1:aw t R c=[R a,R b]:=by unfold aw;rw[an]
      rw[e1] at be;rw[aO];exact#[p,D (R a),D (R b),rfl,be,(Y _ (bi _ (by rw[e1];simp))).mono (a1.trans S7.tk),(Y _ (bi _ (by rw[e1];simp))).mono (a1.trans S7.tk)]
 .obtain⟨ea,he,ac,D,rfl,K2,N2,a5,al,d2,aI,X,Y⟩:=hP;have am:O.take (cF O).length=O:=by rw[bF];exact List.take_length
  rw[am] at X Y;have bK:∀x∈G,R x∈O:=λx hx=>pf.Cn (R x) (List.mem_map.mpr #[x,hx,rfl]) (hL _ (hN.lY.lt _ (a8 x hx)));refine#[_,rfl,ln,rfl,#[_,bp.of al],λlq J=>?_];have b8:(cF G).length=G.length:=c6 _;have Z:H lq=none:=K2.back J (N2.nS J);have bv:¬SN A lq:=N2.nS J;have ci:lq≠A.p:=λz=>by rw[z,hN.ins] at Z;cases Z
  have cd:ln≠lq:=λz=>by rw[<-z,al] at J;cases J
  have ce:ld≠lq:=λz=>by rw[<-z,d2] at J;cases J
  have b2:Tk n (upd n lq (.lst [])):=Tk.new J;refine#[(λj m ys r=>m=G.length - j/\j<=G.length/\ys=(G.take j).map (λx=>D (R x))/\Kx (SN A) H r/\cg C A t R lv lo r/\Tk n r/\r lq=some (.lst ys)/\r ln=some (.lst (cF G))/\r ld=some (.dK ac)),#[_,rfl,Nat.zero_le _,rfl,K2.upd Z,N2.same (aq.new J),b2,ab,(aq.new J) _ _ al,(aq.new J) _ _ d2],?_];rintro j m ys r ⟨rfl,hj,rfl,K5,N5,bo,e5,aY,d5⟩;refine#[e5,?_];by_cases ap:j < G.length
  .have L:G[j]?=some G[j]:=List.getElem?_eq_getElem ap;refine .inr #[#[_,_,bp.of aY,c5 L],en (by simp;omega),λx H' y=>?_];obtain⟨rfl,y⟩:=y;have hx:=y _ (bp.of aY);rw[c5 L] at hx;obtain rfl:=Option.some.inj hx;have bE:=List.getElem_mem ap;refine#[_,rfl,_,rfl,A.p,A.dx,_,rfl,N5.ins,by unfold aE;rfl,_,rfl,A,t,R,lv,lo,G[j],rfl,N5,a8 _ bE,λH6 K6 N6=>?_];refine#[ld,D (R G[j]),rfl,?_,?_]
   .have:=d0.k (k:=Sum.inl ((R G[j]:Nat):Int)) (K6 _ _ d5 aF);rw[X,if_pos (bK _ bE)] at this;exact this
   have e6:=K6 _ _ e5 bv;refine#[e6,G.length - (j+1),by omega,rfl,by omega,?_,(K5.trans K6).upd Z,N6.other bv ci (Tk.lst e6),(bo.trans (N5.hs.tk K6)).trans (Tk.lst e6),ab,by rw[ah cd];exact K6 _ _ aY aS,by rw[ah ce];exact K6 _ _ d5 aF];rw[List.take_add_one,L,List.map_append];rfl
  .have ej:j=G.length:=by omega
   subst ej;rw[List.take_length] at e5;refine .inl #[#[_,bp.of aY,by rw[b8];exact Nat.le_refl _],q lq _ kd r Z K5 N5 e5 ?_ λU hU=>?_]
   .have:∀l:List Nat,(∀x∈l,x∈G)->Ks r (l.map λx=>D (R x)) (l.map λx=>kd (R x)):=by
     intro l;induction l with
     |nil=>intro _;exact .nil
     |cons x l ih=>intro h;exact .cons ((Y _ (bK x (h x (by simp)))).mono bo) (ih λy hy=>h y (by simp[hy]))
    exact this G λ_ z=>z
   .rw[<-pf.C5 U hU hL];exact bk
end
end K1
namespace L2
open PySem PySem.Spec PyProof.Rows
section
variable {X:Cx} {a:Expr} {ta:TA} {p1 p2 pos1 pos2:Pos}
inductive DT (Q:VK) (vs:List V) (H1:Hp):Prop
 |mk (n:Nat) (h1_:vs=[.int (n:Nat)]) (h2_:n<=sizeLine) (h3_:∀l,H1 l=none->Q (.ref l) (upd H1 l (.lst ((List.range n).map λi=>V.int ((i:Nat):Int))))):DT Q vs H1
def EL (ta:TA):TE:=λa H Q=>ta a H (DT Q)
theorem sL {d:List Value} {n:Nat} (h:ItemsOf (λi v=>∃t,v=.int (0+(i:Nat)*1) t) d.toArray n):Vals ((List.range n).map λi=>V.int ((i:Nat):Int)) d:=by
 have c:d.length=n:=by have:=h.1;simpa using this
 have y:∀(k:Nat) (l:List Value),l=d.drop k->Vals (((List.range n).drop k).map λi=>V.int ((i:Nat):Int)) l:=by
  intro k l;induction l generalizing k with
  |nil=>
   intro e;have:n<=k:=by have:=congrArg List.length e;simp at this;omega
   rw[List.drop_eq_nil_of_le (by simpa using this)];exact .nil
  |cons v l I=>
   intro e;have a:k < d.length:=by
    by_cases z:k < d.length
    .exact z
    .rw[List.drop_eq_nil_of_le (by omega)] at e;cases e
   rw[List.drop_eq_getElem_cons a] at e;injection e with b E;have f:k < (List.range n).length:=by simp;omega
   rw[List.drop_eq_getElem_cons f,List.map_cons];refine .cons ?_ (I (k+1) E);obtain⟨t,H⟩:=h.2 k v (by rw[b];simp[a]);rw[H];simp;exact#[t,rfl]
 have:=y 0 d (by simp);simpa using this
theorem vk (m:X.calm=true) (J:Gl X "list") (L:X.mg "list"=none) (Z:Gl X "range") (U:X.mg "range"=none) (p:PA X [a] ta) (j:starEach [a] X.env=[(false,eval a X.env)]:=by rfl)
  (K:starEach [.Call (.Name "range" p2) [a] [] pos2] X.env=[(false,eval (.Call (.Name "range" p2) [a] [] pos2) X.env)]:=by rfl):
  PE X (.Call (.Name "list" p1) [.Call (.Name "range" p2) [a] [] pos2] [] pos1) (EL ta):=by
 intro P s v H Q I h;have Y:=I.ok.hd m;refine wpAny_Call_Name_kw (ft I J L PyProof.Rows.boot_list ?_);refine PyProof.Rows.callWith_type1 ?_ K rfl;rw[K];show wpAny _ _ (spliced [(false,eval (.Call (.Name "range" p2) [a] [] pos2) X.env)]) _ _ _;refine Calls.spliced_cons (Call_ (ft I Z U boot_range (PyProof.Rows.callWith_type1 (cL (p pos2 P s v H _ I h) λus S z=>?_) j rfl)));obtain⟨vs,g,x,C,w⟩:=z;obtain⟨n,e,f,q⟩:=w;subst e;cases C with
 |cons r R=>
  cases R;obtain⟨t,rfl⟩:=r;refine call_range_1 ?_;refine Calls.spliced_nil ?_;have k:(n:Int) < 2 ^ 62:=by have E:n<=2 ^ 24:=f;omega
  refine call_list_range (s:={S with heap:=S.heap.push {cls:=.type "range",data:=.fields [.int 0 S.toks,.int n t,.int 1 (S.toks+1)].toArray},toks:=S.toks+1+1}) (n:=n) Y (IsRange.new ..) (small_one (by omega +splitDisjunctions) (by omega +splitDisjunctions) (by omega +splitDisjunctions) k) (by rw[rangeSize_one];split <;> omega) f λy T A c l D N=>?_;have u:∀b o,S.heap.get? b=some o->y.get? b=some o:=λb o e=>l b o (Heap.get?_push_of_some _ e);have G:S.heap.objs.size<=(S.heap.push {cls:=.type "range",data:=.fields [.int 0 S.toks,.int n t,.int 1 (S.toks+1)].toArray}).objs.size:=by rw[Heap.size_push];exact Nat.le_succ _
  have B:Vals ((List.range n).map λi=>V.int ((i:Nat):Int)) A.toList:=sL N;have O:∀b,b=(S.heap.push {cls:=.type "range",data:=.fields [.int 0 S.toks,.int n t,.int 1 (S.toks+1)].toArray}).objs.size->EP X P v Q (.ref b) {S with heap:=y,toks:=T}:=λb d=>by
   have M:S.heap.objs.size<=b:=by rw[d];exact G
   exact#[.ref b,_,x.laid (o:=.lst ((List.range n).map λi=>V.int ((i:Nat):Int))) (t':=T) u M (show cv X.prog X.w _ y b (.lst _) from#[by simpa using f,A.toList,c,B,by rw[d];simpa using D]),rfl,q _ (x.bE.fresh M)]
  exact O _ rfl
end
end L2
namespace Wk
theorem qC.more {t:List Fm} {p q:List (Nat×Nat)} (h:qC t p) (l:∀x∈p,x∈q):qC t q:=by obtain⟨i,j,f,g,a,b,c,d⟩:=h;exact#[i,j,f,g,a,b,c,λE e k B=>d E e k λx H=>B x (l x H)]
end Wk
namespace K1
open PySem L2 Wk
def qI (H:Hp) (v:V) (p:Nat×Nat):Prop:=∃b X,v=.ref b/\H b=some (.tup (.int (p.1:Nat) :: .int (p.2:Nat) :: X))
theorem qI.mono {H a:Hp} (k:Tk H a) {v:V} {p:Nat×Nat} (h:qI H v p):qI a v p:=let ⟨b,X,e,h⟩:=h;⟨b,X,e,k _ _ h⟩
section
variable {P:Program} {w:World} {K:W.Frag} {mg:Str->Option Value} {base:Heap} {f aP aL aS:Addr} {fd dP dL dS:FuncData} {C:Addr} {u0:Tok}
inductive kU (C:Addr) (vs:List V) (H:Hp) (Q:VK) (zz3:XK):Prop
 |mk (A:_) (t:_) (R:_) (lv:_) (lo:_) (lp:Addr) (ws:List V) (prs:List (Nat×Nat)) (h1_:vs=[.ref A.p,.ref lp]) (h2_:cg C A t R lv lo H) (h3_:rF t) (h4_:H lp=some (.lst ws)) (h5_:¬SN A lp) (h6_:Paired (qI H) ws prs) (h7_:(∀p∈prs,p.1 < t.length)) (h8_:t.length<=1000000) (h9_:prs.length<=1000000) (h10_:∀b H',Kx (SN A) H H'->cg C A t R lv lo H'->(b=true->∃order,DF t R lv 0 ((prs.map (·.1)).map R) order)->(b=false->∀rk,gV t R lv 0 rk->False)->Q (.bl b) H'):kU C vs H Q zz3
theorem ue:a9 ["self","pairs"] ["self","pairs"] (ao l6):=#[rfl,rfl,rfl,by decide +kernel,rfl,by decide +kernel,by decide +kernel]
theorem yB (F:gj K "sound" "Nodes.sound" l6 f fd) (N:i6 K C) (MP:Meth K C "parts_first" aP) (GP:aU P w K mg base cM 3 aP dP ["self","nodes","bound"] (yw C)) (bP:Binds K dP ["self","nodes","bound"] [.int 0 u0]):aU P w K mg base cM 4 f fd ["self","pairs"] (kU C):=by
 refine F.ok (k:=3) ue (λvs H Q E h=>?_) (λe A' o s H vs Q E hr h=>?_)
 .obtain⟨A,t,R,lv,lo,lp,ws,G,rfl,_,_,_,_,_,_,_,_,_⟩:=h;rfl
 obtain⟨A,t,R,lv,lo,lp,ws,G,rfl,d,U,B,al,Z,n,hn,Y,q⟩:=h;have nd:=ue.nd;have CS:cz (fw cM P w K mg base ["self","pairs"] "Nodes.sound" (ao l6) f e A' o s H E).mV "both" [] [] (ud l6 0) []:=by refine cz.of [(".0",.local),("both",.local)] rfl (by decide +kernel) (by decide +kernel) rfl (by decide +kernel) rfl rfl (by decide +kernel) (λy hy=>by simp at hy) (λy c h=>by simp at h) (λi y h=>by simp at h) rfl
 refine#[_,(aj (bc (rK (tJ (cy (pv 0) N.cl MP GP hr bP (dvs:=[.int 0]) (.cons #[u0,rfl] .nil) bN (aa (kB CS rfl (fj (pv 1)) (λC' fp s' H'=>aB (r:=cn K) aG (pv 0) ak (λ_ _=>rfl))) ag)))))),?_];refine#[_,rfl,A.p,A.dx,_,rfl,d.ins,by unfold aE;rfl,_,rfl,lp,rfl,#[_,bp.of B],λlq M=>?_];have am:ws.length=G.length:=Paired.length Z;refine#[(λj m ys g=>m=G.length - j/\j<=G.length/\ys=cF ((G.map (·.1)).take j)/\aq H g/\g lq=some (.lst ys)),⟨_,rfl,Nat.zero_le _,rfl,aq.new M,ab⟩,?_];rintro j m ys g ⟨rfl,hj,rfl,S5,J⟩;refine#[J,?_];by_cases X:j < G.length
 .have L:G[j]?=some G[j]:=List.getElem?_eq_getElem X;obtain⟨v,ev,b,xs,rfl,hb⟩:=gU Z L;refine .inr #[#[_,_,bp.of (S5 _ _ B),ev],en (by rw[c6];simp;omega),λx H' y=>?_];obtain⟨rfl,y⟩:=y;have a:=y _ (bp.of (S5 _ _ B));rw[ev] at a;obtain rfl:=Option.some.inj a;refine#[_,rfl,b,_,0,_,rfl,rfl,cx.of (S5 _ _ hb),ar (j:=0) rfl,?_];refine#[J,G.length - (j+1),by omega,rfl,by omega,?_,S5.upd M,ab];rw[List.take_add_one,List.getElem?_map,L];exact gu _ [_]
 .have ej:j=G.length:=by omega
  subst ej;refine .inl #[#[_,bp.of (S5 _ _ B),by omega],?_];have T:(G.map (·.1)).take G.length=G.map (·.1):=List.take_of_length_le (by simp);rw[T] at J;have ac:¬SN A lq:=d.nS M;refine#[A,t,R,lv,lo,lq,G.map (·.1),0,rfl,d.same S5,U,J,ac,λx a=>?_,hn,by simpa using Y,λu D S I=>?_,λl O u hl D S an pf=>?_]
  .obtain⟨p,hp,rfl⟩:=List.mem_map.mp a;exact n p hp
  .exact q false u ((Kx.of S5).trans D) S (λz=>by cases z) (λ_ rk r=>I _ rk (r.all _))
  .exact q true u ((Kx.of S5).trans D) S (λ_=>#[O,pf]) (λz=>by cases z)
inductive pj (C:Addr) (vs:List V) (H:Hp) (Q:VK) (zz3:XK):Prop
 |mk (A:_) (t:_) (R:_) (lv:_) (lo:_) (lp:Addr) (ws:List V) (prs:List (Nat×Nat)) (h1_:vs=[.ref A.p,.ref lp]) (h2_:cg C A t R lv lo H) (h3_:rF t) (h4_:H lp=some (.lst ws)) (h5_:¬SN A lp) (h6_:Paired (qI H) ws prs) (h7_:(∀p∈prs,p.1 < t.length/\p.2 < t.length)) (h8_:t.length<=1000000) (h9_:prs.length<=1000000) (h10_:lo.length+lv.sum < sizeLine) (h11_:∀b l2 R' lv' lo' H',H l2=none->Kx (λc=>SN A c\/c=A.p) H H'->cg C {A with L2:=l2} t R' lv' lo' H'->pH lv lo lv' lo'->(b=true->ni t prs R'/\∃order,DF t R' lv' 0 ((prs.map (·.1)).map R') order)->(b=false->qC t prs\/(ni t prs R'/\∀rk,gV t R' lv' 0 rk->False))->Q (.bl b) H'):pj C vs H Q zz3
theorem yC:a9 ["self","pairs","both"] ["self","pairs"] (ao yn):=#[rfl,rfl,rfl,by decide +kernel,rfl,by decide +kernel,by decide +kernel]
theorem sM (A:Lay) (l:Addr):cJ "links" (.ref l) (aE A)=aE {A with L2:=l}:=rfl
inductive yD (A:Lay) (C:Addr) (H:Hp) (H2:Hp) (l2:Addr) (lo:List Nat) (lp:Addr) (lv:List Nat) (prs:List (Nat×Nat)) (t:List Fm) (i:Nat) (σ:St) (H3:Hp):Prop
 |mk (bo:_) (R3:_) (lv3:_) (lo3:_) (h1_:σ=[some (.ref A.p),some (.ref lp),bo]) (h2_:Kx (λc=>(SN A c\/c=A.p)\/c=l2) H H3) (h3_:Kx (SN {A with L2:=l2}) H2 H3) (h4_:cg C {A with L2:=l2} t R3 lv3 lo3 H3) (h5_:pH lv lo lv3 lo3) (h6_:ni t (prs.take i) R3):yD A C H H2 l2 lo lp lv prs t i σ H3
def An (K:W.Frag) (C:PySem.Addr):TS:=cI (mT (iS K (eC C (PySem.Str.ofString "linked") (K1.i7 C) [] E0 (af (0:Nat)) (ai (bj (cn K) (af (2:Nat)) (tC (V.int (0:Int)))) (ai (bj (cn K) (af (2:Nat)) (tC (V.int (1:Int)))) av))))) (cT (tC (V.bl Bool.false))) cC
def Ao (K:W.Frag) (C:PySem.Addr):TS:=aN (oh (iQ K (af (1:Nat))) (az (2:Nat)) (An K C)) (cT (eC C (PySem.Str.ofString "sound") (K1.kU C) [] E0 (af (0:Nat)) (ai (af (1:Nat)) av)))
def Ap (K:W.Frag) (C:PySem.Addr):TS:=aN (uB K (af (0:Nat)) (EL (ai (lH (aV K) (ai (fH K (af (0:Nat)) (PySem.Str.ofString "forms")) av)) av)) (PySem.Str.ofString "links")) (Ao K C)
theorem Aq (F:gj K "linked_anew" "Nodes.linked_anew" yn f fd) (N:i6 K C) (ml:mg "len"=none) (aH:mg "list"=none) (aR:mg "range"=none) (ML:Meth K C "linked" aL) (GL:aU P w K mg base cM 2 aL dL ["self","one","other"] (i7 C)) (bL:Binds K dL ["self","one","other"] []) (MS:Meth K C "sound" aS) (GS:aU P w K mg base cM 4 aS dS ["self","pairs"] (kU C)) (bS:Binds K dS ["self","pairs"] []):aU P w K mg base cM 5 f fd ["self","pairs"] (pj C):=by
 refine F.ok (k:=4) yC (λvs H Q E h=>?_) (λa0 A' aW s H vs Q E hr h=>?_)
 .obtain⟨A,t,R,lv,lo,l,ws,G,rfl,_,_,_,_,_,_,_,_,_,_⟩:=h;rfl
 obtain⟨A,t,R,lv,lo,l,ws,G,rfl,d,as,B,y,aA,u,hn,aT,hz,q⟩:=h;have nd:=yC.nd;have aF:=hr.mono (show 2<=4 by decide);refine#[Ap K C,(ae (lG (pv 0) (vk rfl rfl aH rfl aR (aa (bX br rfl ml PySem.boot_len (aa (cS (pv 0) rfl) ag)) ag)) rfl) (ae (gb PassesOwn.never rfl (fj (pv 1)) (dg (i:=2) nd rfl (Or.inl rfl)) (aj (cb (fY (cU (cy (pv 0) N.cl ML GL aF bL .nil bN (aa (aB aG (pv 2) ak (λ_ _=>rfl)) (aa (aB aG (pv 2) ak (λ_ _=>rfl)) ag))) (λ_=>rfl))) (aj (bc e7)) bw))) (aj (bc (cy (pv 0) N.cl MS GS hr bS .nil bN (aa (pv 1) ag)))))),?_];obtain⟨wf,ew,rw⟩:=d.zX;have aM:wf.length=t.length:=Paired.length rw;have ac:ws.length=G.length:=Paired.length aA;refine#[_,rfl,A.p,C,A.dx,aE A,.ref A.L1,rfl,d.ins,N.cl,N.n1,eS A,A.L1,wf,rfl,.inl (bp.of ew),wf.length,rfl,Nat.le_of_lt (en (by omega)),λL m=>?_];have S1:aq H (upd H L (.lst ((List.range wf.length).map λi=>V.int ((i:Nat):Int)))):=aq.new m;have e1:upd H L (.lst ((List.range wf.length).map λi=>V.int ((i:Nat):Int))) L=some (.lst (cF (List.range t.length))):=by rw[ab,aM];rfl
 have D:=d.same S1;generalize upd H L (.lst ((List.range wf.length).map λi=>V.int ((i:Nat):Int)))=g at S1 e1 D ⊢;refine#[_,rfl,A.p,C,A.dx,aE A,rfl,D.ins,N.cl,N.n2,(by show 4 < 1000;decide),?_];rw[sM];have am:upd g A.p (.ins C A.dx (aE {A with L2:=L})) A.p=some (.ins C A.dx (aE {A with L2:=L})):=ab;have J:Tk g (upd g A.p (.ins C A.dx (aE {A with L2:=L}))):=.upd λxs e=>by rw[D.ins] at e;cases e
 have S:¬SN A L:=d.nS m;have aQ:L≠A.p:=λz=>by rw[z,d.ins] at m;cases m
 have O:∀b,b≠A.p->upd g A.p (.ins C A.dx (aE {A with L2:=L})) b=g b:=λb hb=>ah hb;have K2:Kx (λc=>SN A c\/c=A.p) H (upd g A.p (.ins C A.dx (aE {A with L2:=L}))):=(Kx.of S1).qr (.inr rfl);have aK:l≠A.p:=eP B d.ins (by intro z;cases z);have v:upd g A.p (.ins C A.dx (aE {A with L2:=L})) l=some (.lst ws):=by rw[O _ aK];exact S1 _ _ B
 have N2:cg C {A with L2:=L} t (λi=>i) lv lo (upd g A.p (.ins C A.dx (aE {A with L2:=L}))):=by have np:∀b,SN A b->b≠A.p:=λb hb z=>d.Cj (by rw[<-z];exact hb);obtain⟨aC,aJ,aP⟩:=D.zX;refine#[am,#[aC,by show upd g A.p _ A.L1=_;rw[O _ (np _ (.inl rfl))];exact aJ,Paired.imp' (λ_ _ z=>z.mono J) aP],#[List.range t.length,by show upd g A.p _ L=_;rw[O _ aQ];exact e1,For.id _],by show upd g A.p _ A.L3=_;rw[O _ (np _ (.inr (.inr (.inl rfl))))];exact D.lZ,D.lvl,by show upd g A.p _ A.L4=_;rw[O _ (np _ (.inr (.inr (.inr rfl))))];exact D.low,D.C0,λz=>S (.inl z.symm),D.zZ,D.Bt,λz=>S (.inr (.inr (.inl z))),λz=>S (.inr (.inr (.inr z))),D.Ab]
 have Y:=Paired.imp' (λ_ _ z=>qI.mono (S1.tk.trans J) z) aA;have aY:g L≠none:=by rw[e1];simp
 generalize upd g A.p (.ins C A.dx (aE {A with L2:=L}))=H2 at am J O K2 v N2 Y ⊢;have U:¬SN {A with L2:=L} l:=λz=>by
  rcases z with z|z|z|z
  .exact y (.inl z)
  .have z:l=L:=z;rw[z,m] at B;cases B
  .exact y (.inr (.inr (.inl z)))
  .exact y (.inr (.inr (.inr z)))
 have X:∀{Ha r:Hp},Kx (SN {A with L2:=L}) Ha r->Kx (λc=>(SN A c\/c=A.p)\/c=L) Ha r:=λ{Ha r} k b o e n=>k b o e λz=>n (by
  rcases z with z|z|z|z
  .exact .inl (.inl (.inl z))
  .exact .inr z
  .exact .inl (.inl (.inr (.inr (.inl z))))
  .exact .inl (.inl (.inr (.inr (.inr z)))))
 have aO:Kx (λc=>(SN A c\/c=A.p)\/c=L) H H2:=λb o e n=>K2 b o e λz=>n (.inl z);have Z:∀{r:Hp},Kx (λc=>(SN A c\/c=A.p)\/c=L) H r->Kx (λc=>SN A c\/c=A.p) H r:=λ{r} k b o e n=>k b o e λz=>by
  rcases z with z|z
  .exact n z
  .rw[z,m] at e;cases e
 refine#[_,rfl,l,rfl,#[_,bp.of v],gI (xs:=ws) (yD A C H H2 L lo l lv G t) #[none,_,lv,lo,rfl,aO,Kx.refl _ _,N2,pH.refl _ _,by rw[List.take_zero];exact ni.nil t] (λi σ H3 _ ⟨_,_,_,_,_,_,k,_,_,_⟩=>bp.of (k _ _ v U)) (λi x σ H3 a hP=>?_) (λσ H3 hP=>?_)]
 .obtain⟨bo,R3,T,M,rfl,K3,I,N3,L3,C3⟩:=hP;have hi:i < G.length:=by rw[<-ac];exact(List.getElem?_eq_some_iff.mp a).1
  have aI:=N2.hs.tk I;obtain⟨p,hp,b,xs,rfl,hb⟩:=dw (Paired.imp' (λ_ _ z=>qI.mono aI z) Y) a;have al:=u p (List.mem_of_getElem? hp);have ap:G.take (i+1)=G.take i++[p]:=by rw[List.take_add_one,hp];rfl
  refine#[_,rfl,A.p,A.dx,_,rfl,N3.ins,by unfold aE;rfl,_,rfl,b,_,0,_,rfl,rfl,cx.of hb,ar (j:=0) rfl,_,rfl,b,_,1,_,rfl,rfl,cx.of hb,ar (j:=1) rfl,{A with L2:=L},t,R3,T,M,G.take i,p.1,p.2,rfl,N3,as,C3,λx a=>u x (List.mem_of_mem_take a),al.1,al.2,hn,Nat.lt_of_le_of_lt L3.sum hz,λbb R4 ax an H4 K4 N4 L4 h1 h2=>?_];refine#[bb,rfl,?_];cases bb with
  |true=>refine cA ?_;exact#[_,R4,ax,an,rfl,K3.trans (X K4),I.trans K4,N4,L3.trans L4,by rw[ap];exact h1 rfl]
  |false=>refine fM ?_;refine q false L R4 ax an H4 m (Z (K3.trans (X K4))) N4 (L3.trans L4) (λz=>by cases z) (λ_=>.inl ((h2 rfl).more λx a=>?_));have:(p.1,p.2)=p:=rfl;rw[this,<-ap] at a;exact List.mem_of_mem_take a
 .obtain⟨bo,R3,T,M,rfl,K3,I,N3,L3,C3⟩:=hP;rw[ac,List.take_length] at C3;refine#[_,rfl,A.p,A.dx,_,rfl,N3.ins,by unfold aE;rfl,_,rfl,{A with L2:=L},t,R3,T,M,l,ws,G,rfl,N3,as,I _ _ v U,U,Paired.imp' (λ_ _ z=>qI.mono (N2.hs.tk I) z) Y,λp hp=>(u p hp).1,hn,aT,λbb H4 K4 N4 h1 h2=>?_];exact q bb L R3 T M H4 m (Z (K3.trans (X K4))) N4 L3 (λz=>#[C3,h1 z]) (λz=>.inr #[C3,h2 z])
end
section
variable {P:Program} {w:World} {K:W.Frag} {mg:Str->Option Value} {base:Heap} {f aA:Addr} {fd dA:FuncData} {C:Addr} {dV:Value}
inductive pk (C:Addr) (vs:List V) (H:Hp) (Q:VK) (zz3:XK):Prop
 |mk (p:_) (dx:_) (h1_:vs=[.ref p]) (h2_:H p=some (.ins C dx [])) (h3_:∀A H',A.p=p->A.dx=dx->(∀b o,H b=some o->b≠p->H' b=some o)->cg C A [] (λi=>i) [] [] H'->(∀b,SN A b->H b=none)->Q .dE H'):pk C vs H Q zz3
theorem Cr:a9 ["self"] ["self"] (ao xZ):=#[rfl,rfl,rfl,by decide +kernel,rfl,by decide +kernel,by decide +kernel]
def Ar (K:W.Frag):TS:=aN (uB K (af (0:Nat)) (cK av) (PySem.Str.ofString "levels")) (uB K (af (0:Nat)) (cK av) (PySem.Str.ofString "lowered"))
def As (K:W.Frag):TS:=aN (uB K (af (0:Nat)) (cK av) (PySem.Str.ofString "links")) (Ar K)
def Au (K:W.Frag):TS:=aN (uB K (af (0:Nat)) (cK av) (PySem.Str.ofString "forms")) (As K)
theorem Av (F:gj K "__init__" "Nodes.__init__" xZ f fd) (N:i6 K C):aU P w K mg base cM 1 f fd ["self"] (pk C):=by
 refine F.ok Cr (λvs H Q E h=>?_) (λal A ac s H vs Q E hr h=>?_)
 .obtain⟨p,O,rfl,_,_⟩:=h;rfl
 obtain⟨p,O,rfl,hp,q⟩:=h;refine#[Au K,(ae (lG (pv 0) (ba ag) rfl) (ae (lG (pv 0) (ba ag) rfl) (ae (lG (pv 0) (ba ag) rfl) (aj (lG (pv 0) (ba ag) rfl))))),?_];have step:∀(x:Str) (D:List (Str×V)) (g:Hp) (l:Addr),g p=some (.ins C O D)->g l=none->(∀b o,g b=some o->b≠p->upd (upd g l (.lst [])) p (.ins C O (cJ x (.ref l) D)) b=some o)/\upd (upd g l (.lst [])) p (.ins C O (cJ x (.ref l) D)) l=some (.lst [])/\upd g l (.lst []) p=some (.ins C O D)/\l≠p:=λx D g l c d=>by
  have ne:l≠p:=λz=>by rw[z,c] at d;cases d
  exact#[λb o e n=>by rw[ah n,ah (au e d)];exact e,by rw[ah ne];exact ab,by rw[ah ne.symm];exact c,ne]
 refine#[Nat.zero_le _,λG c=>?_];obtain⟨m,J,p1,T⟩:=step "forms" [] H G hp c;refine#[_,rfl,p,C,O,_,rfl,p1,N.cl,N.n1,by decide,?_];have q1:upd (upd H G (.lst [])) p (.ins C O (cJ "forms" (.ref G) [])) p=some (.ins C O (cJ "forms" (.ref G) [])):=ab;generalize upd (upd H G (.lst [])) p (.ins C O (cJ "forms" (.ref G) []))=g at m J q1 ⊢;refine#[Nat.zero_le _,λy d=>?_];obtain⟨r,I,p2,S⟩:=step "links" _ g y q1 d;refine#[_,rfl,p,C,O,_,rfl,p2,N.cl,N.n2,(by exact(by decide:1 < 1000)),?_];have q2:upd (upd g y (.lst [])) p (.ins C O (cJ "links" (.ref y) (cJ "forms" (.ref G) []))) p=some (.ins C O (cJ "links" (.ref y) (cJ "forms" (.ref G) []))):=ab;generalize upd (upd g y (.lst [])) p (.ins C O (cJ "links" (.ref y) (cJ "forms" (.ref G) [])))=v at r I q2 ⊢;refine#[Nat.zero_le _,λR B=>?_];obtain⟨M,u,p3,t⟩:=step "levels" _ v R q2 B;refine#[_,rfl,p,C,O,_,rfl,p3,N.cl,N.n3,(by exact(by decide:2 < 1000)),?_];have q3:upd (upd v R (.lst [])) p (.ins C O (cJ "levels" (.ref R) (cJ "links" (.ref y) (cJ "forms" (.ref G) [])))) p=some (.ins C O (cJ "levels" (.ref R) (cJ "links" (.ref y) (cJ "forms" (.ref G) [])))):=ab;generalize upd (upd v R (.lst [])) p (.ins C O (cJ "levels" (.ref R) (cJ "links" (.ref y) (cJ "forms" (.ref G) []))))=j at M u q3 ⊢;refine#[Nat.zero_le _,λL a=>?_];obtain⟨Z,a4,p4,n4⟩:=step "lowered" _ j L q3 a;refine#[_,rfl,p,C,O,_,rfl,p4,N.cl,N.n4,(by exact(by decide:3 < 1000)),?_];have q4:upd (upd j L (.lst [])) p (.ins C O (cJ "lowered" (.ref L) (cJ "levels" (.ref R) (cJ "links" (.ref y) (cJ "forms" (.ref G) []))))) p=some (.ins C O (aE #[p,O,G,y,R,L])):=ab;generalize upd (upd j L (.lst [])) p (.ins C O (cJ "lowered" (.ref L) (cJ "levels" (.ref R) (cJ "links" (.ref y) (cJ "forms" (.ref G) [])))))=H4 at Z a4 q4 ⊢;have b1:=r _ _ J T;have c1:=M _ _ b1 T;have d1:=Z _ _ c1 T;have c2:=M _ _ I S;have d2:=Z _ _ c2 S;have d3:=Z _ _ u t;have Y:∀(l:Addr) (X U:Hp),l≠p->(∀b o,X b=some o->b≠p->U b=some o)->U l=none->X l=none:=λl X U n k e=>by
  cases e':X l with
  |none=>rfl
  |some o=>rw[k _ _ e' n] at e;cases e
 refine q #[p,O,G,y,R,L] H4 rfl rfl (λb o e n=>Z _ _ (M _ _ (r _ _ (m _ _ e n) n) n) n) #[q4,#[[],d1,.nil],#[[],d2,#[λ_=>0,rfl,λi hi=>absurd hi (Nat.not_lt_zero _)]],d3,rfl,a4,(λx hx=>by simp at hx),?_,?_,?_,?_,?_,?_] ?_
 .exactλz=>by have z:G=y:=z;rw[<-z,J] at d;cases d
 .exactλz=>by have z:G=R:=z;rw[<-z,b1] at B;cases B
 .exactλz=>by have z:G=L:=z;rw[<-z,c1] at a;cases a
 .exactλz=>by have z:y=R:=z;rw[<-z,I] at B;cases B
 .exactλz=>by have z:y=L:=z;rw[<-z,c2] at a;cases a
 .exactλz=>by have z:R=L:=z;rw[<-z,u] at a;cases a
 .rintro b (rfl|rfl|rfl|rfl)
  .exact c
  .exact Y _ _ _ S m d
  .exact Y _ _ _ t m (Y _ _ _ t r B)
  .exact Y _ _ _ n4 m (Y _ _ _ n4 r (Y _ _ _ n4 M a))
inductive k0 (C:Addr) (vs:List V) (H:Hp) (Q:VK) (zz3:XK):Prop
 |mk (A:_) (t:_) (R:_) (lv:_) (lo:_) (fm:_) (b:_) (l:Nat) (h1_:vs=[.ref A.p,.ref b,.int (l:Nat)]) (h2_:H b=some (.tup (nJ fm))) (h3_:cg C A t R lv lo H) (h4_:R t.length=t.length) (h5_:t.length<=1000000) (h6_:∀H',Kx (SN A) H H'->cg C A (t++[fm]) R (lv++[l]) lo H'->Q (.int ((t.length:Nat):Int)) H'):k0 C vs H Q zz3
theorem uf:a9 ["self","form","level","node"] ["self","form","level"] (ao de):=#[rfl,rfl,rfl,by decide +kernel,rfl,by decide +kernel,by decide +kernel]
def yE (K:W.Frag):TS:=aN (dk (ou K "list" cB (fH K (af (0:Nat)) (PySem.Str.ofString "levels")) (ai (af (2:Nat)) av))) (cT (af (3:Nat)))
def yF (K:W.Frag):TS:=aN (dk (ou K "list" cB (fH K (af (0:Nat)) (PySem.Str.ofString "links")) (ai (af (3:Nat)) av))) (yE K)
def yG (K:W.Frag):TS:=aN (dk (ou K "list" cB (fH K (af (0:Nat)) (PySem.Str.ofString "forms")) (ai (af (1:Nat)) av))) (yF K)
def yH (K:W.Frag):TS:=aN (bq (lH (aV K) (ai (fH K (af (0:Nat)) (PySem.Str.ofString "forms")) av)) (az (3:Nat))) (yG K)
theorem yI (F:nc K "added" "Nodes.added" de f fd dV) (N:i6 K C) (ml:mg "len"=none):aU P w K mg base cM 1 f fd ["self","form","level"] (k0 C):=by
 refine F.ok uf (λvs H Q E h=>?_) (λac A o s H vs Q E hr h=>?_)
 .obtain⟨A,t,R,y,lo,fm,b,l,rfl,_,_,_,_,_⟩:=h;rfl
 obtain⟨A,t,R,y,lo,fm,b,l,rfl,hb,p,Z,hl,q⟩:=h;have nd:=uf.nd;refine#[yH K,(ae (ay (i:=3) nd rfl (Or.inl rfl) (bX br rfl ml PySem.boot_len (aa (cS (pv 0) rfl) ag))) (ae (cp (eD PySem.F.plainAttrs_list PySem.F.slot_list_append PySem.F.type_list_append bV (cS (pv 0) rfl) (aa (pv 1) ag))) (ae (cp (eD PySem.F.plainAttrs_list PySem.F.slot_list_append PySem.F.type_list_append bV (cS (pv 0) rfl) (aa (pv 3) ag))) (ae (cp (eD PySem.F.plainAttrs_list PySem.F.slot_list_append PySem.F.type_list_append bV (cS (pv 0) rfl) (aa (pv 2) ag))) (aj (bc (pv 3))))))),?_];obtain⟨k,a,r⟩:=p.zX;obtain⟨L,e2,J⟩:=p.zY;have Y:k.length=t.length:=Paired.length r;have al:=J.len;refine#[_,rfl,A.p,C,A.dx,_,_,rfl,p.ins,N.cl,N.n1,eS A,A.L1,k,rfl,.inl (bp.of a),?_];refine#[_,rfl,A.p,C,A.dx,_,_,rfl,p.ins,N.cl,N.n1,eS A,.inl #[rfl,_,bp.of a],_,rfl,A.L1,_,_,rfl,rfl,a,en (by omega),?_];have p1:A.p≠A.L1:=λz=>p.Cj (.inl z);have p2:A.p≠A.L2:=λz=>p.Cj (.inr (.inl z));have p3:A.p≠A.L3:=λz=>p.Cj (.inr (.inr (.inl z)));generalize X:upd H A.L1 (.lst (k++[.ref b]))=g;have M:g A.p=some (.ins C A.dx (aE A)):=by rw[<-X,ah p1];exact p.ins
 have n:g A.L1=some (.lst (k++[.ref b])):=by rw[<-X];exact ab
 have m:g A.L2=some (.lst (cF L)):=by rw[<-X,ah p.Bs.symm];exact e2
 have u:g A.L3=some (.lst (cF y)):=by rw[<-X,ah p.zZ.symm];exact p.lZ
 have v:g A.L4=some (.lst (cF lo)):=by rw[<-X,ah p.Bt.symm];exact p.low
 have t1:Tk H g:=by rw[<-X];exact Tk.lst a
 have k1:Kx (SN A) H g:=by rw[<-X];exact(Kx.refl _ _).qr (.inl rfl)
 refine#[_,rfl,A.p,C,A.dx,_,_,rfl,M,N.cl,N.n2,eU A,.inl #[rfl,_,bp.of m],_,rfl,A.L2,_,_,rfl,rfl,m,en (by rw[c6];omega),?_];have f2:cF L++[V.int ((k.length:Nat):Int)]=cF (L++[t.length]):=by rw[Y];exact gu L [t.length]
 rw[f2];generalize U:upd g A.L2 (.lst (cF (L++[t.length])))=j;have I:j A.p=some (.ins C A.dx (aE A)):=by rw[<-U,ah p2];exact M
 have e:j A.L1=some (.lst (k++[.ref b])):=by rw[<-U,ah p.Bs];exact n
 have B:j A.L2=some (.lst (cF (L++[t.length]))):=by rw[<-U];exact ab
 have D:j A.L3=some (.lst (cF y)):=by rw[<-U,ah p.Aa.symm];exact u
 have O:j A.L4=some (.lst (cF lo)):=by rw[<-U,ah p.Bu.symm];exact v
 have t2:Tk H j:=by rw[<-U];exact t1.trans (Tk.lst m)
 have k2:Kx (SN A) H j:=by rw[<-U];exact k1.qr (.inr (.inl rfl))
 refine#[_,rfl,A.p,C,A.dx,aE A,.ref A.L3,rfl,I,N.cl,N.n3,eV A,.inl #[rfl,_,bp.of D],_,rfl,A.L3,_,_,rfl,rfl,D,en (by rw[c6,p.lvl];omega),?_];have f3:cF y++[V.int ((l:Nat):Int)]=cF (y++[l]):=gu y [l];rw[f3];generalize S:upd j A.L3 (.lst (cF (y++[l])))=d;have i3:d A.p=some (.ins C A.dx (aE A)):=by rw[<-S,ah p3];exact I
 have c:d A.L1=some (.lst (k++[.ref b])):=by rw[<-S,ah p.zZ];exact e
 have G:d A.L2=some (.lst (cF (L++[t.length]))):=by rw[<-S,ah p.Aa];exact B
 have c3:d A.L3=some (.lst (cF (y++[l]))):=by rw[<-S];exact ab
 have c4:d A.L4=some (.lst (cF lo)):=by rw[<-S,ah p.Ab.symm];exact O
 have T:Tk H d:=by rw[<-S];exact t2.trans (Tk.lst D)
 have k3:Kx (SN A) H d:=by rw[<-S];exact k2.qr (.inr (.inr (.inl rfl)))
 refine#[_,rfl,?_];rw[Y];refine q d k3 #[i3,#[_,c,bZ (Paired.imp' (λ_ _ z=>z.mono T) r) (.cons #[b,rfl,T _ _ hb] .nil)],#[_,G,?_],c3,by simp[p.lvl],c4,(λx hx=>by have:=p.C0 x hx;simp;omega),p.Bs,p.zZ,p.Bt,p.Aa,p.Bu,p.Ab];rw[List.length_append];refine(J.snoc).congr λi hi=>?_;show R i=if i < t.length then R i else i
 split
 .rfl
 .have:i=t.length:=by have h2:i < t.length+1:=hi;omega
  rw[this];exact Z
def gX (m:Nat) (t:List Fm) (f:Fm):Nat×List Fm:=match (t.drop m).idxOf? f with
 |some i=>(m+i,t)
 |none=>(t.length,t++[f])
def S4 (A:Lay) (D:Addr) (b:Addr):Prop:=SN A b\/b=D
structure TabAt (C:Addr) (A:Lay) (D:Addr) (m:Nat) (t0:List Fm) (R:Nat->Nat) (lv lo:List Nat) (l:Nat) (t:List Fm) (H:Hp):Prop where
 sN:cg C A t R (lv++List.replicate (t.length - t0.length) l) lo H
 ext:∃more,t=t0++more
 le:m<=t.length
 Aw:H D=some (.dT (cu m (t.drop m)))
inductive iE (C:Addr) (vs:List V) (H:Hp) (Q:VK) (zz3:XK):Prop
 |mk (A:_) (D:_) (m:_) (t0:_) (R:_) (lv:_) (lo:_) (t:_) (fm:_) (b:_) (l:Nat) (h1_:vs=[.ref A.p,.ref b,.ref D,.int (l:Nat)]) (h2_:H b=some (.tup (nJ fm))) (h3_:TabAt C A D m t0 R lv lo l t H) (h4_:(∀i,t0.length<=i->R i=i)) (h5_:t.length<=1000000) (h6_:∀H',Kx (S4 A D) H H'->TabAt C A D m t0 R lv lo l (gX m t fm).2 H'->Q (.int (((gX m t fm).1:Nat):Int)) H'):iE C vs H Q zz3
theorem mf:a9 ["self","part","known","level"] ["self","part","known","level"] (ao jC):=#[rfl,rfl,rfl,by decide +kernel,rfl,by decide +kernel,by decide +kernel]
def qJ (C:PySem.Addr):TS:=aN (cI (tB (km (af (1:Nat)) (af (2:Nat)))) (iV (af (2:Nat)) (af (1:Nat)) (eC C (PySem.Str.ofString "added") (K1.k0 C) [] E0 (af (0:Nat)) (ai (af (1:Nat)) (ai (af (3:Nat)) av)))) cC) (cT (jU (af (2:Nat)) (af (1:Nat))))
theorem qK (F:gj K "laid_part" "Nodes.laid_part" jC f fd) (N:i6 K C) (M:Meth K C "added" aA) (GA:aU P w K mg base cM 1 aA dA ["self","form","level"] (k0 C)) (bA:Binds K dA ["self","form","level"] []):aU P w K mg base cM 2 f fd ["self","part","known","level"] (iE C):=by
 refine F.ok (k:=1) mf (λvs H Q E h=>?_) (λal A' O s H vs Q E hr h=>?_)
 .obtain⟨A,D,m,X,R,lv,lo,t,u,b,l,rfl,_,_,_,_,_⟩:=h;rfl
 obtain⟨A,D,m,X,R,lv,lo,t,u,b,l,rfl,d,v,hR,hl,q⟩:=h;have nd:=mf.nd;have p:=fI hr;refine#[qJ C,(ae (cb (fX (jw p (pv 1) (pv 2))) (aj (fJ p (pv 2) (pv 1) (cy (pv 0) N.cl M GA hr bA .nil bN (aa (pv 1) (aa (pv 3) ag))) rfl)) bw) (aj (bc (gp p (pv 2) (pv 1) (λ_ _=>rfl))))),?_];have r:=yl u (t.drop m) m;unfold gX at q;refine#[_,rfl,_,rfl,D,_,rfl,d0.t v.Aw d,_,rfl,?_];cases j:(t.drop m).idxOf? u with
 |some i=>rw[j] at r q;rw[r];refine cA ?_;refine#[_,rfl,_,rfl,D,_,rfl,?_,q H (Kx.refl _ _) v];have:=d0.t v.Aw d;rw[r] at this;exact this
 |none=>
  rw[j] at r q;rw[r];refine fM ?_;obtain⟨mo,S⟩:=v.ext;have h0:X.length<=t.length:=by rw[S];simp
  refine#[_,rfl,A.p,A.dx,_,rfl,v.sN.ins,by unfold aE;rfl,_,rfl,_,rfl,A,t,R,_,lo,u,b,l,rfl,d,v.sN,hR _ h0,hl,λg I J=>?_];have nD:¬SN A D:=λz=>by obtain⟨xs,e⟩:=v.sN.held z;have hk:=v.Aw;rw[e] at hk;cases hk
  have nb:¬SN A b:=v.sN.Es d;have L:=I _ _ v.Aw nD;have Y:=I _ _ d nb;have ac:(t.drop m).length=t.length - m:=by simp
  refine#[_,rfl,_,rfl,D,_,rfl,gE.t L Y (en (by rw[jW];simp;omega)),?_];have B:=v.le;have y:putK (cu m (t.drop m)) (gC u) (.int ((t.length:Nat):Int))=cu m ((t++[u]).drop m):=by
   rw[iU _ (by rw[r];rfl),List.drop_append_of_le_length B,jX];have:m+(t.drop m).length=t.length:=by omega
   rw[this]
  rw[y];have U:upd g D (.dT (cu m ((t++[u]).drop m))) D=some (.dT (cu m ((t++[u]).drop m))):=ab;have T:Tk g (upd g D (.dT (cu m ((t++[u]).drop m)))):=.upd λxs e=>by rw[L] at e;cases e
  have x:Kx (S4 A D) H (upd g D (.dT (cu m ((t++[u]).drop m)))):=λc o e n=>by rw[ah λz=>n (.inr z)];exact I c o e λz=>n (.inl z)
  have pD:D≠A.p:=eP L J.ins (by intro z;cases z);have G:=J.other (o:=.dT (cu m ((t++[u]).drop m))) nD pD T;generalize upd g D (.dT (cu m ((t++[u]).drop m)))=a at U T x G ⊢;have Z:cE (cu m ((t++[u]).drop m)) (gC u)=some (.int ((t.length:Nat):Int)):=by rw[<-y,fO,if_pos rfl]
  refine#[_,rfl,_,rfl,D,_,rfl,?_,q a x #[?_,#[mo++[u],by rw[S];simp],by simp;omega,U]]
  .have:=d0.t U (T _ _ Y);rw[Z] at this;exact this
  .have e1:(t++[u]).length - X.length=(t.length - X.length)+1:=by simp;omega
   show cg C A (t++[u]) R (lv++List.replicate ((t++[u]).length - X.length) l) lo a;rw[e1,List.replicate_succ',<-List.append_assoc];exact G
end
def sO (m:Nat) (t:List Fm):Kd->Fm->Prop
 | .num,f=>f=.num
 | .ax n,f=>f=.ax (some n)
 | .two g a b,f=>∃i j,f=.two g i j/\(Den t i a/\m<=i)/\Den t j b/\m<=j
def Bv (m:Nat) (t:List Fm):Prop:=(∀(i:Nat) (f:Bool) (a b:Nat),m<=i->t[i]?=some (.two f a b)->m<=a/\m<=b)/\(m=0->uT t)
theorem sO.den {m:Nat} {t:List Fm} {u:Kd} {f:Fm} {i:Nat} (h:sO m t u f) (e:t[i]?=some f):Den t i u:=by
 cases u with
 |num=>cases h;exact .num e
 |ax n=>cases h;exact .ax e
 |two g a b=>obtain⟨I,J,rfl,⟨D,_⟩,d,_⟩:=h;exact .two e D d
theorem sO.mono {m:Nat} {t M:List Fm} {u:Kd} {f:Fm} (h:sO m t u f):sO m (t++M) u f:=by
 cases u with
 |num=>exact h
 |ax n=>exact h
 |two g a b=>obtain⟨I,J,rfl,D,d⟩:=h;exact#[I,J,rfl,#[D.1.mono,D.2],d.1.mono,d.2]
theorem Ax {m:Nat} {t:List Fm} {u:Kd} {f:Fm} (h:sO m t u f) (c:m<=t.length):(∃M,(gX m t f).2=t++M)/\(gX m t f).2.length<=t.length+1/\(rF t->rF (gX m t f).2)/\(dB t->dB (gX m t f).2)/\(Den (gX m t f).2 (gX m t f).1 u/\m<=(gX m t f).1)/\(Bv m t->Bv m (gX m t f).2):=by
 unfold gX;cases e:(t.drop m).idxOf? f with
 |some i=>have o:=Ci e;rw[List.getElem?_drop] at o;exact#[#[[],by simp],Nat.le_succ _,λw=>w,λw=>w,#[h.den o,by show m<=m+i;omega],λw=>w]
 |none=>
  have d:Den (t++[f]) t.length u:=h.mono.den (by rw[List.getElem?_append_right (Nat.le_refl _)];simp);refine#[#[[f],rfl],by simp,λw i g a b l=>?_,λr=>r.snoc f #[u,d],#[d,c],λw=>#[λi g a b L l=>?_,λC i j g k E=>?_]];rotate_left
  .by_cases q:i < t.length
   .rw[List.getElem?_append_left q] at l;exact w.1 i g a b L l
   .rw[List.getElem?_append_right (by omega)] at l;have H:i - t.length=0:=by
     have:=(List.getElem?_eq_some_iff.mp l).1;simp at this;omega
    rw[H] at l;simp at l;subst l;cases u with
    |num=>cases h
    |ax n=>cases h
    |two G x y=>obtain⟨I,B,z,⟨_,D⟩,_,s⟩:=h;cases z;exact#[D,s]
  .subst C;have J:∀i:Nat,t[i]?≠some f:=λi z=>by
    have p:f∉t:=by intro A;have:=List.idxOf?_eq_none_iff.mp e;simp at this;exact this A
    exact p (List.mem_of_getElem? z)
   have K:∀{i:Nat},(t++[f])[i]?=some g->(t[i]?=some g/\i < t.length)\/(i=t.length/\g=f):=λ{i} z=>by
    by_cases q:i < t.length
    .rw[List.getElem?_append_left q] at z;exact .inl #[z,q]
    .rw[List.getElem?_append_right (by omega)] at z;have H:i - t.length=0:=by
      have:=(List.getElem?_eq_some_iff.mp z).1;simp at this;omega
     rw[H] at z;simp at z;exact .inr #[by omega,z.symm]
   rcases K k with⟨X,_⟩|⟨X,U⟩ <;> rcases K E with⟨Y,_⟩|⟨Y,v⟩
   .exact w.2 rfl i j g X Y
   .rw[v] at X;exact absurd X (J i)
   .rw[U] at Y;exact absurd Y (J j)
   .omega
  by_cases q:i < t.length
  .rw[List.getElem?_append_left q] at l;exact w i g a b l
  .rw[List.getElem?_append_right (by omega)] at l;have H:i - t.length=0:=by
    have:=(List.getElem?_eq_some_iff.mp l).1;simp at this;omega
   rw[H] at l;simp at l;subst l;cases u with
   |num=>cases h
   |ax n=>cases h
   |two G x y=>obtain⟨I,B,z,⟨D,_⟩,s,_⟩:=h;cases z;have:=D.lt;have:=s.lt;omega
abbrev gG:EI:=Dz c8
abbrev cQ:Str:=(("Nodes.laid":Str)++".<locals>.")++"<lambda>"
abbrev NL:List Str:=["self","kind","known","level"]
def S5 (A:Lay) (D:Addr) (b:Addr):Prop:=S4 A D b\/b=A.p
section
variable {C:Addr} {A:Lay} {D:Addr} {m:Nat} {t0:List Fm} {R:Nat->Nat} {lv lo:List Nat} {l:Nat} {t:List Fm} {H H':Hp}
theorem TabAt.keep (h:TabAt C A D m t0 R lv lo l t H) (e:∀b,S5 A D b->H' b=H b) (k:Tk H H'):TabAt C A D m t0 R lv lo l t H':=#[h.sN.keep (e _ (.inr rfl)) (λb d=>e b (.inl (.inl d))) k,h.ext,h.le,(e _ (.inl (.inr rfl))).trans h.Aw]
theorem TabAt.held (h:TabAt C A D m t0 R lv lo l t H):sr (S5 A D) H:=by
 rintro b ((d|rfl)|rfl)
 .exact h.sN.hs b d
 .exact#[by rw[h.Aw];simp,λX z=>by rw[h.Aw] at z;cases z]
 .exact#[by rw[h.sN.ins];simp,λX z=>by rw[h.sN.ins] at z;cases z]
theorem TabAt.qL (h:TabAt C A D m t0 R lv lo l t H) {b:Addr} {o:HO} (e:H b=some o) (n:∀xs,o≠.lst xs) (N:∀xs,o≠.dT xs) (a:∀C O f,o≠.ins C O f):¬S5 A D b:=by
 rintro ((d|rfl)|rfl)
 .obtain⟨xs,E⟩:=h.sN.held d;rw[E] at e;exact n _ (Option.some.inj e).symm
 .rw[h.Aw] at e;exact N _ (Option.some.inj e).symm
 .rw[h.sN.ins] at e;exact a _ _ _ (Option.some.inj e).symm
end
section
variable {P:Program} {w:World} {K:W.Frag} {mg:Str->Option Value} {base:Heap} {f g fb aP c pt:Addr} {fd gd fbd dP:FuncData} {C:Addr} {dV:Value}
inductive mh (C:Addr) (pt:Addr) (vs:List V) (H:Hp) (Q:VK) (zz3:XK):Prop
 |mk (A:_) (D:_) (m:_) (t:_) (R:_) (lv:_) (lo:_) (v:_) (k:_) (ps:_) (l:Nat) (h1_:vs=[.ref A.p,v,.ref D,.int (l:Nat)]) (h2_:cP H v k) (h3_:k.size<=50000) (h4_:TabAt C A D m t R lv lo l t H) (h5_:rF t) (h6_:(∀i,t.length<=i->R i=i)) (h7_:t.length<=900000) (h8_:cV H pt gG.pos cQ ps) (h9_:∀t' (i:Nat) H',(∃more,t'=t++more)->t'.length<=t.length+k.size->rF t'->(dB t->dB t')->Den t' i k/\m<=i/\(Bv m t->Bv m t')->TabAt C A D m t R lv lo l t' H'->(∀b o,H b=some o->¬S5 A D b->b≠pt->H' b=some o)->(∃ps',cV H' pt gG.pos cQ ps')->Q (.int (i:Nat)) H'):mh C pt vs H Q zz3
theorem yJ:a9 NL NL (ao c8):=#[rfl,rfl,rfl,by decide +kernel,rfl,by decide +kernel,by decide +kernel]
abbrev C6 (n:Nat):List (Str×Addr):=[("self",n+1),("level",n+1+1+1),("known",n+1+1)]
theorem Cs (n:Nat):qj ["part"] gG.scope (C6 n):=by
 refine#[rfl,rfl,rfl,by decide +kernel,by decide +kernel,by decide +kernel,λx h=>?_,λx y a c H=>?_]
 .have b:=PySem.mem_of_lookup h;have A:(x,NameKind.free)∈[(("part":Str),NameKind.local),("known",.free),("level",.free),("self",.free)]:=b;simp only[List.mem_cons,List.not_mem_nil,or_false,Prod.mk.injEq] at A;rcases A with⟨_,z⟩|⟨z,_⟩|⟨z,_⟩|⟨z,_⟩
  .cases z
  .subst z;exact⟨_,rfl⟩
  .subst z;exact⟨_,rfl⟩
  .subst z;exact⟨_,rfl⟩
 .have m:=PySem.mem_of_lookup c;have r:=PySem.mem_of_lookup H;simp only[C6,List.mem_cons,List.not_mem_nil,or_false,Prod.mk.injEq] at m r;rcases m with⟨f,d⟩|⟨f,d⟩|⟨f,d⟩ <;> rcases r with⟨e,B⟩|⟨e,B⟩|⟨e,B⟩ <;> first|(exact f.trans e.symm)|(exact absurd (d.symm.trans B) (by show ¬((_:Nat)=_);omega))
theorem Ay (F:nc K "laid" "Nodes.laid" c8 f fd dV) (a8:fd.code=.ref c) (aY:W.CodeHd base c pt) (bd:BMain mg base) (N:i6 K C) (M:Meth K C "laid_part" aP) (GP:aU P w K mg base cM 2 aP dP ["self","part","known","level"] (iE C)) (bP:Binds K dP ["self","part","known","level"] []) (G:aU P w K mg base cM 1 g gd ["kind"] dU) (bG:Binds K gd ["kind"] []) (kG:W.keepIn K (.ref g)=true) (mG:mg "parts"=some (.ref g)) (FB:gj K "built" "built" jB fb fbd) (bB:Binds K fbd ["kind","make"] []) (mB:mg "built"=some (.ref fb)) (mr:mg "reversed"=none) (ml:mg "len"=none):aU P w K mg base cM 6 f fd NL (mh C pt):=by
 refine F.ES (k:=5) a8 yJ (λvs H Q E h=>?_) (λA' U s H vs Q E hr h=>?_)
 .obtain⟨A,D,m,t,R,lv,lo,v,k,ps,l,rfl,_,_,_,_,_,_,_,_⟩:=h;rfl
 obtain⟨A,D,X,t0,R,lv,lo,v,k,ps,l,rfl,hk,hB,hT,hU,bb,hl,ap,q⟩:=h;have nd:=yJ.nd;have CO:xO (fw cM P w K mg base NL "Nodes.laid" (ao c8) f (.ref c) A' U s H E).mV pt:=#[#[c,rfl,aY],bd.ex];have aO:k.parts.length=k.size:=Kd.cm k;refine#[_,aj (bc (xS (sp:=λσ vs H1 Q1=>∃x Y Z,vs=[x,.ref Y]/\σ[0]?=some (some (.ref A.p))/\σ[2]?=some (some (.ref D))/\σ[3]?=some (some (.int (l:Nat)))/\cP H1 x k/\TabAt C A D X t0 R lv lo l t0 H1/\H1 Y=some (.ext (gO Y Z cQ gG.par gG.body gG.scope (C6 s.heap.objs.size)))/\H1 Z=some (.ext (gN Z cQ))/\∀t' (i:Nat) H',(∃aH,t'=t0++aH)->t'.length<=t0.length+k.size->rF t'->(dB t0->dB t')->Den t' i k/\X<=i/\(Bv X t0->Bv X t')->TabAt C A D X t0 R lv lo l t' H'->Kx (S5 A D) H1 H'->Q1 (.int (i:Nat)) H') rfl mB FB.kp ?run (aa (pv 1) (aa (Cb CO rfl rfl) ag)))),?_];case run=>
  intro bs σ H1 s1 vs us Q1 I rv h;obtain⟨x,Y,Z,rfl,s0,s2,s3,kx,ac,al,an,q1⟩:=h;obtain⟨m,bk,be⟩:=I.loc;have wQ:∀(y:Str) (a:Addr),(fw cM P w K mg base NL "Nodes.laid" (ao c8) f (.ref c) A' U s H E).mV.env.cells.lookup y=some a->s.heap.objs.size < a->a∉wJ (fw cM P w K mg base NL "Nodes.laid" (ao c8) f (.ref c) A' U s H E).mV.stack:=λy a e lt z=>by
   rcases List.mem_cons.mp (I.lh _ z) with u|u
   .exact I.Bd y a e u
   .obtain⟨_,o,ho,_⟩:=I.ok.jq.mem u;exact absurd (Nat.lt_trans lt (Heap.lt_size ho)) (Nat.lt_irrefl _)
  have cellOf:∀(j:Nat) (y:Str) (vv:V) (a:Addr),NL[j]?=some y->σ[j]?=some (some vv)->(ao c8).names.lookup y=some .cell->(fw cM P w K mg base NL "Nodes.laid" (ao c8) f (.ref c) A' U s H E).mV.env.cells.lookup y=some a->∃u,RelV vv u/\s1.heap.IsCell a (some u)/\H1 a=none:=λj y vv a e1 e2 e3 e4=>by
   obtain⟨u,ru,lk⟩:=be j y vv e1 e2 (Or.inr (Or.inl e3));rcases lk with⟨z,_⟩|⟨_,c0,aJ,aS⟩
   .have z':(ao c8).names.lookup y=some .local:=z;rw[e3] at z';cases z'
   .rw[e4] at aJ;cases aJ;exact#[u,ru,aS,I.gB _ _ e4]
  obtain⟨u1,bf,⟨o1,g1,d1⟩,f1⟩:=cellOf 0 "self" _ (s.heap.objs.size+1) rfl s0 rfl rfl;obtain⟨u2,aR,⟨o2,g2,d2⟩,f2⟩:=cellOf 2 "known" _ (s.heap.objs.size+1+1) rfl s2 rfl rfl;obtain⟨u3,aW,⟨o3,g3,d3⟩,f3⟩:=cellOf 3 "level" _ (s.heap.objs.size+1+1+1) rfl s3 rfl rfl;have n1:=wQ "self" (s.heap.objs.size+1) rfl (by omega);have n2:=wQ "known" (s.heap.objs.size+1+1) rfl (by omega);have n3:=wQ "level" (s.heap.objs.size+1+1+1) rfl (by omega);have aM:¬S5 A D Y:=ac.qL al (by intro xs z;cases z) (by intro xs z;cases z) (by intro _ _ _ z;cases z);have aT:¬S5 A D Z:=ac.qL an (by intro xs z;cases z) (by intro xs z;cases z) (by intro _ _ _ z;cases z);refine FB.run (k:=4) t7 hr I.B3 bB rv rfl λbE aL=>?_;refine qt (T:=List Fm) (S:=S5 A D) (J:=λt H=>TabAt C A D X t0 R lv lo l t H/\rF t/\(dB t0->dB t)/\(Bv X t0->Bv X t)) (le:=λa b=>∃aH,b=a++aH) (R:=λt y u=>∃i:Nat,y=.int (i:Nat)/\Den t i u/\X<=i) (sz:=λt=>t.length - t0.length) (t0:=t0) (mk:=Y) (r:=λf' as H' Q'=>f'=Y/\∃y t O,as=[y]/\H' Y=some (.ext (gO Y Z cQ gG.par gG.body gG.scope (C6 s.heap.objs.size)))/\H' Z=some (.ext (gN Z cQ))/\sA H' y O/\TabAt C A D X t0 R lv lo l t H'/\t.length<=1000000/\∀H2,Kx (S4 A D) H' H2->TabAt C A D X t0 R lv lo l (gX X t O).2 H2->Q' (.int (((gX X t O).1:Nat):Int)) H2) aL (by decide) G bG kG mG mr ml ?hc ?hf #[_,_,_,_,_,_,al] aM kx (by omega) (λt H h=>h.1.held) (λt H H' h e k=>#[h.1.keep e k,h.2]) (λt=>#[[],by simp]) (λa b c B L=>?ltr) (λt t' y u B L=>?hR) #[ac,hU,λz=>z,λz=>z] (Nat.sub_self _) ?hm ?hq;case ltr=>obtain⟨m1,rfl⟩:=B;obtain⟨m2,rfl⟩:=L;exact#[m1++m2,by simp]
  case hR=>obtain⟨m1,rfl⟩:=B;obtain⟨i,e,d⟩:=L;exact#[i,e,d.1.mono,d.2]
  case hf=>rintro f' as H' Q' ⟨rfl,y,t,O,rfl,B,_⟩;exact#[_,_,_,_,_,_,B]
  case hm=>
   intro t u H2 y Q' aF aC hK hJ bn ha hq;obtain⟨m1,rfl⟩:=aF;have bg:(t0++m1).length<=1000000:=by have:(t0++m1).length - t0.length < k.parts.length:=aC;rw[aO] at this;omega
   have go:∀O,sA H2 y O->sO X (t0++m1) u O->Y=Y/\∃y' t O,[y]=[y']/\H2 Y=some (.ext (gO Y Z cQ gG.par gG.body gG.scope (C6 s.heap.objs.size)))/\H2 Z=some (.ext (gN Z cQ))/\sA H2 y' O/\TabAt C A D X t0 R lv lo l t H2/\t.length<=1000000/\∀H3,Kx (S4 A D) H2 H3->TabAt C A D X t0 R lv lo l (gX X t O).2 H3->Q' (.int (((gX X t O).1:Nat):Int)) H3:=λO B L=>by obtain⟨a1,a2,a3,a4,a5,a6⟩:=Ax (m:=X) L hJ.1.le;refine#[rfl,y,t0++m1,O,rfl,hK _ _ al aM,hK _ _ an aT,B,hJ.1,bg,λH3 K3 T3=>?_];exact hq (gX X (t0++m1) O).2 _ H3 a1 (by omega) (λb o e n=>K3 b o e λz=>n (.inl z)) #[T3,a3 hJ.2.1,λz=>a4 (hJ.2.2.1 z),λz=>a6 (hJ.2.2.2 z)] #[_,rfl,a5]
   cases u with
   |num=>obtain⟨p,rfl,hp⟩:=ha;exact go .num #[p,rfl,hp] rfl
   |ax n=>obtain⟨p,rfl,hp⟩:=ha;exact go (.ax (some n)) #[p,rfl,hp] rfl
   |two g' a b=>obtain⟨p,xa,xb,rfl,hp,⟨i,rfl,da⟩,⟨j,rfl,db⟩⟩:=ha;exact go (.two g' i j) #[p,rfl,hp] #[i,j,rfl,da,db]
  case hq=>intro t y H' aF aC hK hJ hR;obtain⟨i,rfl,d⟩:=hR;obtain⟨m1,rfl⟩:=aF;refine q1 (t0++m1) i H' #[m1,rfl] ?_ hJ.2.1 hJ.2.2.1 #[d.1,d.2,hJ.2.2.2] hJ.1 hK;have:(t0++m1).length - t0.length<=k.parts.length:=aC;rw[aO] at this;omega
  case hc=>
   rintro f' bv bm H' s' as bA Q' I' aI ⟨rfl,y,t,O,rfl,B,L,hy,aQ,a0,hq⟩;have jZ:∀b:Addr,b∉([]:List Addr):=λb z=>absurd z List.not_mem_nil;have c1:s'.heap.IsCell (s.heap.objs.size+1) (some u1):=#[o1,I'.base.keep _ _ g1 f1 n1 (jZ _),d1];have c2:s'.heap.IsCell (s.heap.objs.size+1+1) (some u2):=#[o2,I'.base.keep _ _ g2 f2 n2 (jZ _),d2];have c3:s'.heap.IsCell (s.heap.objs.size+1+1+1) (some u3):=#[o3,I'.base.keep _ _ g3 f3 n3 (jZ _),d3];have k1:H' (s.heap.objs.size+1)=none:=I'.base.free _ _ g1 f1 (jZ _);have k2:H' (s.heap.objs.size+1+1)=none:=I'.base.free _ _ g2 f2 (jZ _);have k3:H' (s.heap.objs.size+1+1+1)=none:=I'.base.free _ _ g3 f3 (jZ _);refine xQ (k:=3) (N:=["part","self","known","level"]) (σ₀:=[some y,some (.ref A.p),some (.ref D),some (.int (l:Nat))]) I' rfl aL (Cs _) B L (λx a e=>?_) (λbl pm bF=>?_) aI rfl (λi x v B L=>?_) λa7=>?_
   .have z:=PySem.mem_of_lookup e;simp only[C6,List.mem_cons,List.not_mem_nil,or_false,Prod.mk.injEq] at z;rcases z with⟨_,rfl⟩|⟨_,rfl⟩|⟨_,rfl⟩
    .exact#[k1,_,c1]
    .exact#[k3,_,c3]
    .exact#[k2,_,c2]
   .obtain⟨u,rfl,_⟩:=vals1 aI;rfl
   .match i,B,L with
    |0,B,L=>cases (Option.some.inj B);cases (Option.some.inj (Option.some.inj L));exact .inl ⟨0,rfl,rfl⟩
    |1,B,L=>cases (Option.some.inj B);cases (Option.some.inj (Option.some.inj L));exact .inr #[rfl,_,_,rfl,bf,c1]
    |2,B,L=>cases (Option.some.inj B);cases (Option.some.inj (Option.some.inj L));exact .inr #[rfl,_,_,rfl,aR,c2]
    |3,B,L=>cases (Option.some.inj B);cases (Option.some.inj (Option.some.inj L));exact .inr #[rfl,_,_,rfl,aW,c3]
   .obtain⟨b,rfl,hb⟩:=hy;refine#[_,cy (pv 1) N.cl M GP (a7.mono (by decide)) bP .nil bN (aa (pv 0) (aa (pv 2) (aa (pv 3) ag))),?_];refine#[_,rfl,A.p,A.dx,_,rfl,aQ.sN.ins,by unfold aE;rfl,_,rfl,_,rfl,_,rfl,A,D,X,t0,R,lv,lo,t,O,b,l,rfl,hb,aQ,bb,a0,λH2 K2 T2=>hq H2 K2 T2]
 refine#[_,rfl,ps,ap,λY Z H4 aA bC al an am _=>?_];have aK:Tk H H4:=λb xs e=>aA b _ e (eP e ap.at_ (by intro z;cases z));have nS:¬S5 A D pt:=hT.qL ap.at_ (by intro xs z;cases z) (by intro xs z;cases z) (by intro _ _ _ z;cases z);have ac:TabAt C A D X t0 R lv lo l t0 H4:=hT.keep (λb hb=>by
  cases e:H b with
  |none=>exact absurd e (hT.held b hb).1
  |some o=>exact aA b o e λz=>nS (by rw[<-z];exact hb)) aK
 refine#[v,Y,Z,rfl,rfl,rfl,rfl,hk.mono aK,ac,al,an,λt' i H' B L h3 h4 h5 h6 h7=>?_];obtain⟨bi,am⟩:=am;have bo:¬S5 A D pt:=nS;refine q t' i H' B L h3 h4 h5 h6 (λb o e n m=>h7 b o (aA b o e m) n) #[bi,h7 _ _ am.at_ nS,am.ok,am.known.imp id λ⟨c',a,b⟩=>#[c',a,?_]];exact h7 _ _ b (ac.qL b (by intro xs z;cases z) (by intro xs z;cases z) (by intro _ _ _ z;cases z))
end
end K1
namespace Wk
section
variable {t:List Fm} {R:Nat->Nat}
theorem qM {c d:Nat} (h:d∈aw t R c):∃f a b,t[c]?=some (.two f a b)/\(d=R a\/d=R b):=by
 unfold aw at h;split at h
 .next f a b e=>simp at h;exact#[f,a,b,e,h]
 .simp at h
end
end Wk
namespace K1
open PySem L2 Wk
section
variable {t:List Fm} {prs:List (Nat×Nat)} {R R':Nat->Nat} {lv:List Nat}
theorem sP {O:List Nat} (w:rF t) (h:ni t prs R) (J:DF t R lv 0 ((prs.map (·.1)).map R) O) (hp:∀p∈prs,p.1 < t.length/\p.2 < t.length) (r:∀c,c < t.length->live lv 0 c):∃rk,gV t R lv 0 rk:=by
 have X:∀c,c∈O->∀d∈aw t R c,d < t.length->d∈O/\O.idxOf d < O.idxOf c:=λc s d v M=>by
  obtain⟨B,P,e⟩:=List.append_of_mem s;have H:=J.gw.kids B c P e d v (r d M);have N:=J.gw.nd;rw[e] at N ⊢;have Y:c∉B:=λz=>by have:=(List.nodup_append.mp N).2.2 c z c (by simp);exact this rfl
  refine#[List.mem_append_left _ H,?_];rw[List.idxOf_append,if_pos H,List.idxOf_append,if_neg Y,List.idxOf_cons_self];have:=List.idxOf_lt_length_iff.mpr H;omega
 have sub:∀i f a b,t[i]?=some (.two f a b)->R i∈O->R a∈O/\R b∈O:=λi f a b e o=>by
  have il:=(List.getElem?_eq_some_iff.mp e).1;obtain⟨G,I,Q,A,C⟩:=(h.qB i il).1 f a b e;have l:=w.lt Q;have k1:R G∈aw t R (R i):=by unfold aw;rw[Q];simp
  have k2:R I∈aw t R (R i):=by unfold aw;rw[Q];simp
  have A:R a=R G:=A;have C:R b=R I:=C;rw[A,C];exact#[(X _ o _ k1 (h.rf.lt _ l.1)).1,(X _ o _ k2 (h.rf.lt _ l.2)).1]
 have K:∀i,i < t.length->i=R i\/(R i∈O/\R (R i)∈O):=λi o=>by
  refine h.least (λi j=>i=j\/(R i∈O/\R j∈O)) #[λ_=>.inl rfl,λz=>z.elim (λz=>.inl z.symm) λz=>.inr #[z.2,z.1],λ{i j k} D Z=>?_] (λi j f a b g c d n E z=>?_) (λp u=>.inr ?_) i o
  .rcases D with rfl|D
   .exact Z
   .rcases Z with rfl|Z
    .exact .inr D
    .exact .inr #[D.1,Z.2]
  .rcases z with rfl|⟨D,Z⟩
   .rw[n] at E;cases E;exact#[.inl rfl,.inl rfl]
   .have S:=sub i f a b n D;have s2:=sub j g c d E Z;exact#[.inr #[S.1,s2.1],.inr #[S.2,s2.2]]
  .have hr:=h.all p u;have m:R p.1∈O:=J.Cn (R p.1) (List.mem_map.mpr #[p.1,List.mem_map.mpr #[p,u,rfl],rfl]) (r _ (h.rf.lt _ (hp p u).1));exact#[m,by rw[<-hr];exact m]
 refine#[λc=>if c∈O then O.idxOf c else O.length+c,λc s d v _=>?_];obtain⟨f,x,y,e,z⟩:=qM v;have cl:=(List.getElem?_eq_some_iff.mp e).1;have l:=w.lt e;have L:=w c f x y e;have M:d < t.length:=by
  rcases z with rfl|rfl
  .exact h.rf.lt _ l.1
  .exact h.rf.lt _ l.2
 by_cases U:c∈O
 .obtain⟨H,h2⟩:=X c U d v M;show (if d∈O then O.idxOf d else O.length+d) < if c∈O then O.idxOf c else O.length+c
  rw[if_pos H,if_pos U];exact h2
 .show (if d∈O then O.idxOf d else O.length+d) < if c∈O then O.idxOf c else O.length+c
  rw[if_neg U];by_cases T:d∈O
  .rw[if_pos T];have:=List.idxOf_lt_length_iff.mpr T;omega
  .rw[if_neg T];have lt:d < c:=by
    rcases z with rfl|rfl
    .rcases K x l.1 with q|q
     .rw[<-q];exact L.1
     .exact absurd q.1 T
    .rcases K y l.2 with q|q
     .rw[<-q];exact L.2
     .exact absurd q.1 T
   omega
end
end K1
namespace Wk
section
variable {t:Type}
def gx (sim:t->t->Bool) (kd:t->List t):List t->List t->List (List t)×List t
 |[],fr=>([],fr)
 |P :: rs,fr=>
  let g:=fr.filter (sim P);let r:=gx sim kd rs (fr.filter (λo=>!sim P o)++(if g.isEmpty then[] else kd P))
  (g :: r.1,r.2)
def i8:List (List t)->Nat
 |[]=>1
 |g :: G=>max 1 g.length*i8 G
theorem nO (F:t->Nat) (p:t->Bool):∀l:List t,(l.map F).sum=((l.filter p).map F).sum+((l.filter λo=>!p o).map F).sum
 |[]=>rfl
 |x :: l=>by have:=nO F p l;cases h:p x <;> simp[h] <;> omega
theorem jF (F:t->Nat) (c:Nat):∀l:List t,(∀o∈l,F o=c)->(l.map F).sum=l.length*c
 |[],_=>by simp
 |x :: l,h=>by have:=jF F c l λo g=>h o (List.mem_cons_of_mem _ g);have H:=h x (List.mem_cons_self);simp only[List.map_cons,List.sum_cons,List.length_cons,Nat.add_mul];omega
theorem ug {sim:t->t->Bool} {kd:t->List t} (F:t->Nat):∀(R fr:List t),(∀P∈R,∀o,sim P o=true->F o=((kd P).map F).sum)->(fr.map F).sum<=i8 (gx sim kd R fr).1*((gx sim kd R fr).2.map F).sum
 |[],fr,_=>by simp[gx,i8]
 |P :: R,fr,h=>by
  have I:=ug F R (fr.filter (λo=>!sim P o)++(if (fr.filter (sim P)).isEmpty then[] else kd P)) λQ H=>h Q (List.mem_cons_of_mem _ H);show _<=max 1 (fr.filter (sim P)).length*i8 _*_;refine Nat.le_trans ?_ (by rw[Nat.mul_assoc];exact Nat.mul_le_mul_left _ I);rw[nO F (sim P) fr,List.map_append,List.sum_append];have e:=jF F ((kd P).map F).sum (fr.filter (sim P)) λo g=>h P List.mem_cons_self o (List.mem_filter.mp g).2;rw[e];generalize ((fr.filter λo=>!sim P o).map F).sum=r;cases C:fr.filter (sim P) with
  |nil=>simp
  |cons x l=>
   have c:max 1 (x :: l).length=(x :: l).length:=by simp only[List.length_cons];omega
   simp only[List.isEmpty_cons,Bool.false_eq_true,if_false];rw[c,Nat.mul_add,Nat.add_comm];have:1*r<=(x :: l).length*r:=Nat.mul_le_mul_right _ (by simp);omega
theorem i9 {sim:t->t->Bool} {kd:t->List t}:∀(R fr:List t) {o:t},o∈(gx sim kd R fr).1.flatten++(gx sim kd R fr).2->o∈fr++R.flatMap kd
 |[],fr,o,h=>by simpa [gx] using h
 |P :: R,fr,o,h=>by
  have I:=i9 (sim:=sim) (kd:=kd) R (fr.filter (λo=>!sim P o)++(if (fr.filter (sim P)).isEmpty then[] else kd P)) (o:=o);have h:o∈(fr.filter (sim P) :: (gx sim kd R (fr.filter (λo=>!sim P o)++(if (fr.filter (sim P)).isEmpty then[] else kd P))).1).flatten++(gx sim kd R (fr.filter (λo=>!sim P o)++(if (fr.filter (sim P)).isEmpty then[] else kd P))).2:=h;rw[List.flatten_cons,List.append_assoc,List.mem_append] at h;rw[List.mem_append,List.flatMap_cons,List.mem_append];rcases h with h|h
  .exact .inl (List.mem_filter.mp h).1
  .have:=I h;rw[List.mem_append,List.mem_append] at this;rcases this with (q|q)|q
   .exact .inl (List.mem_filter.mp q).1
   .split at q
    .simp at q
    .exact .inr (.inl q)
   .exact .inr (.inr q)
theorem iF {sim:t->t->Bool} {kd:t->List t}:∀(R fr:List t),(fr++R.flatMap kd).Nodup->((gx sim kd R fr).1.flatten++(gx sim kd R fr).2).Nodup
 |[],fr,h=>by simpa [gx] using h
 |P :: R,fr,h=>by
  show ((fr.filter (sim P) :: (gx sim kd R (fr.filter (λo=>!sim P o)++(if (fr.filter (sim P)).isEmpty then[] else kd P))).1).flatten++_).Nodup;rw[List.flatMap_cons,<-List.append_assoc] at h;obtain⟨c,H,i⟩:=List.nodup_append.mp h;obtain⟨g,A,k⟩:=List.nodup_append.mp c;have j:=(List.Perm.nodup_iff (List.filter_append_perm (sim P) fr)).mpr g;obtain⟨S,f,s⟩:=List.nodup_append.mp j;have fresh:(fr.filter (λo=>!sim P o)++(if (fr.filter (sim P)).isEmpty then[] else kd P)++R.flatMap kd).Nodup:=by
   refine List.nodup_append.mpr #[List.nodup_append.mpr #[f,?_,λa e b d=>?_],H,λa e b d=>?_]
   .split
    .exact List.nodup_nil
    .exact A
   .split at d
    .simp at d
    .exact k a (List.mem_filter.mp e).1 b d
   .rcases List.mem_append.mp e with e|e
    .exact i a (List.mem_append_left _ (List.mem_filter.mp e).1) b d
    .split at e
     .simp at e
     .exact i a (List.mem_append_right _ e) b d
  have I:=iF (sim:=sim) R _ fresh;rw[List.flatten_cons,List.append_assoc];refine List.nodup_append.mpr #[S,I,λa e b d=>?_];have d:=i9 R _ d;rcases List.mem_append.mp d with d|d
  .rcases List.mem_append.mp d with d|d
   .exact s a e b d
   .split at d
    .simp at d
    .exact k a (List.mem_filter.mp e).1 b d
  .exact i a (List.mem_append_left _ (List.mem_filter.mp e).1) b d
theorem qN {sim:t->t->Bool} {kd:t->List t}:∀(R fr:List t) {g:List t},g∈(gx sim kd R fr).1->∃P∈R,∀o∈g,sim P o=true
 |[],fr,g,h=>by simp[gx] at h
 |P :: R,fr,g,h=>by
  have h:g∈fr.filter (sim P) :: (gx sim kd R (fr.filter (λo=>!sim P o)++(if (fr.filter (sim P)).isEmpty then[] else kd P))).1:=h;rcases List.mem_cons.mp h with rfl|h
  .exact#[P,List.mem_cons_self,λo a=>(List.mem_filter.mp a).2]
  .obtain⟨Q,H,z⟩:=qN R _ h;exact#[Q,List.mem_cons_of_mem _ H,z]
theorem qO {sim:t->t->Bool} {kd:t->List t}:∀(R fr:List t),R.Pairwise (λP b=>∀o∈kd b,sim P o=false)->(∀P∈R,∀o∈kd P,sim P o=false)->∀o∈(gx sim kd R fr).2,∀P∈R,sim P o=false
 |[],fr,_,_,o,_,P,r=>by simp at r
 |P :: R,fr,h,a,o,g,Q,H=>by
  obtain⟨p,w⟩:=List.pairwise_cons.mp h;have g:o∈(gx sim kd R (fr.filter (λo=>!sim P o)++(if (fr.filter (sim P)).isEmpty then[] else kd P))).2:=g;rcases List.mem_cons.mp H with rfl|H
  .have:=i9 R _ (List.mem_append_right _ g);rcases List.mem_append.mp this with q|q
   .rcases List.mem_append.mp q with q|q
    .simpa using (List.mem_filter.mp q).2
    .split at q
     .simp at q
     .exact a Q List.mem_cons_self o q
   .obtain⟨b,c,q⟩:=List.mem_flatMap.mp q;exact p b c o q
  .exact qO R _ w (λP r=>a P (List.mem_cons_of_mem _ r)) o g Q H
def vn (G:List (List t)) (o:List t):List t:=(G.filter λg=>decide (2<=g.length)).flatten++o
theorem pw:∀n:Nat,n ^ 3<=3 ^ n
 |0=>by decide
 |1=>by decide
 |2=>by decide
 |3=>by decide
 |n+4=>by
  have I:=pw (n+3);have e:3 ^ (n+4)=3*3 ^ (n+3):=by rw[Nat.pow_succ];omega
  have P:∀a:Nat,a ^ 3=a*a*a:=λa=>by simp[Nat.pow_succ]
  rw[e];refine Nat.le_trans ?_ (Nat.mul_le_mul_left 3 I);rw[P,P];have c:(n+4)*3<=(n+3)*4:=by omega
  have H:((n+4)*3)*((n+4)*3)*((n+4)*3)<=((n+3)*4)*((n+3)*4)*((n+3)*4):=Nat.mul_le_mul (Nat.mul_le_mul c c) c;have i:((n+4)*3)*((n+4)*3)*((n+4)*3)=27*((n+4)*(n+4)*(n+4)):=by rw[show (27:Nat)=3*3*3 from rfl];simp only[Nat.mul_assoc,Nat.mul_left_comm,Nat.mul_comm]
  have h:((n+3)*4)*((n+3)*4)*((n+3)*4)=64*((n+3)*(n+3)*(n+3)):=by rw[show (64:Nat)=4*4*4 from rfl];simp only[Nat.mul_assoc,Nat.mul_left_comm,Nat.mul_comm]
  omega
theorem mj:∀(G:List (List t)),(i8 G) ^ 3<=3 ^ ((G.filter λg=>decide (2<=g.length)).flatten.length)
 |[]=>by simp[i8]
 |g :: G=>by
  have I:=mj G;show (max 1 g.length*i8 G) ^ 3<=_;rw[Nat.mul_pow];by_cases h:2<=g.length
  .have e:max 1 g.length=g.length:=by omega
   rw[List.filter_cons,if_pos (by simpa using h),List.flatten_cons,List.length_append,Nat.pow_add,e];exact Nat.mul_le_mul (pw _) I
  .have e:max 1 g.length=1:=by omega
   rw[List.filter_cons,if_neg (by simpa using h),e];simpa using I
theorem vo (G:List (List t)) (o:List t):(i8 G*o.length) ^ 3<=3 ^ (vn G o).length:=by unfold vn;rw[Nat.mul_pow,List.length_append,Nat.pow_add];exact Nat.mul_le_mul (mj G) (pw _)
theorem iG (p:List t->Bool):∀G:List (List t),List.Sublist (G.filter p).flatten G.flatten
 |[]=>.slnil
 |g :: G=>by
  rw[List.filter_cons,List.flatten_cons];split
  .rw[List.flatten_cons];exact(List.Sublist.refl g).append (iG p G)
  .exact(iG p G).trans (List.sublist_append_right _ _)
theorem ja (G:List (List t)) (o:List t):List.Sublist (vn G o) (G.flatten++o):=(iG _ G).append (List.Sublist.refl o)
theorem nq {m:Type} [DecidableEq m] {l:List t} {L:List m} (f:t->m) (j:l.Nodup) (i:∀x∈l,f x∈L) (n:∀x∈l,∀y∈l,f x=f y->x=y):l.length<=L.length:=by
 have h:(l.map f).Nodup:=by
  induction l with
  |nil=>exact List.nodup_nil
  |cons x l I=>obtain⟨c,H⟩:=List.nodup_cons.mp j;rw[List.map_cons];refine List.nodup_cons.mpr #[λz=>?_,I H (λy E=>i y (List.mem_cons_of_mem _ E)) λa k b d=>n a (List.mem_cons_of_mem _ k) b (List.mem_cons_of_mem _ d)];obtain⟨y,E,e⟩:=List.mem_map.mp z;exact c (by rw[<-n y (List.mem_cons_of_mem _ E) x List.mem_cons_self e];exact E)
 have:=List.Nodup.length_le_of_subset h (l₂:=L) λy E=>by obtain⟨x,g,rfl⟩:=List.mem_map.mp E;exact i x g
 simpa using this
end
end Wk
namespace Wk
section
variable {ι:Type}
open Classical in
noncomputable def fi (eq:ι->ι->Prop):List ι->List ι
 |[]=>[]
 |P :: l=>if ∃Q∈fi eq l,eq Q P then fi eq l else P :: fi eq l
theorem iH (eq:ι->ι->Prop):∀(l:List ι) {P:ι},P∈fi eq l->P∈l
 |[],P,h=>by simp[fi] at h
 |Q :: l,P,h=>by
  unfold fi at h;split at h
  .exact List.mem_cons_of_mem _ (iH eq l h)
  .rcases List.mem_cons.mp h with rfl|h
   .exact List.mem_cons_self
   .exact List.mem_cons_of_mem _ (iH eq l h)
theorem mq {eq:ι->ι->Prop} (refl:∀o,eq o o):∀(l:List ι) {P:ι},P∈l->∃Q∈fi eq l,eq Q P
 |[],P,h=>by simp at h
 |R :: l,P,h=>by
  unfold fi;rcases List.mem_cons.mp h with rfl|h
  .split
   .rename_i q;exact q
   .exact#[P,List.mem_cons_self,refl P]
  .obtain⟨Q,H,e⟩:=mq refl l h;split
   .exact#[Q,H,e]
   .exact#[Q,List.mem_cons_of_mem _ H,e]
theorem gy {eq:ι->ι->Prop} (symm:∀{a b},eq a b->eq b a):∀l:List ι,(fi eq l).Pairwise λa b=>¬eq a b
 |[]=>by simp[fi]
 |R :: l=>by
  unfold fi;split
  .exact gy symm l
  .rename_i q;exact List.pairwise_cons.mpr #[λb d e=>q #[b,d,symm e],gy symm l]
structure Eu (F Z:ι->Nat) (kd:ι->List ι) (hd:ι->ι) (ii eq:ι->ι->Prop) (all L:List ι) (B:Nat):Prop where
 Ew:∀o,ii o o
 EV:∀{a b},ii a b->ii b a
 EW:∀{a b c},ii a b->ii b c->ii a c
 EX:∀o,eq o o
 D8:∀{a b},eq a b->eq b a
 eqT:∀{a b c},eq a b->eq b c->eq a c
 hF:∀o,F (hd o)=F o
 hZ:∀o,Z (hd o)=Z o
 hE:∀o,eq (hd o) o
 kF:∀P,kd P≠[]->F P=((kd P).map F).sum
 kZ:∀P o,o∈kd P->Z o < Z P
 kN:∀P,(kd P).Nodup
 leaf:∀o,kd (hd o)=[]->F o=1/\o∈L
 EY:∀{a b},eq a b->F a=F b
 eqZ:∀{a b},eq a b->Z a=Z b
 Ex:∀{a b},eq a b->¬ii a b->∃l∈L,ii a l
 one:∀{P Q a b},a∈kd P->b∈kd Q->Z P<=B->Z Q<=B->ii a b->eq P Q/\(P=Q->a=b)
 mem:∀o,Z o<=B->kd (hd o)≠[]->hd o∈all
open Classical in
theorem Eu.bound {F Z:ι->Nat} {kd:ι->List ι} {f:ι->ι} {ii eq:ι->ι->Prop} {A L:List ι} {B:Nat} (h:Eu F Z kd f ii eq A L B) {top:ι} (hB:Z top<=B):(F top) ^ 3<=3 ^ L.length:=by
 by_cases ht:kd (f top)=[]
 .rw[(h.leaf top ht).1];exact Nat.one_le_pow _ _ (by decide)
 let w:=f top;have O:Z w<=B:=by show Z (f top)<=B;rw[h.hZ];exact hB
 let p:=fi eq (A.filter λP=>decide (kd P≠[]/\Z P < Z w));let v:ι->ι->Bool:=λa b=>decide (Z b<=Z a);let s:=p.mergeSort v;have K:s.Perm p:=List.mergeSort_perm p v;have D:∀{P},P∈s->kd P≠[]/\Z P < Z w:=λ{P} n=>by have:=iH eq _ (K.mem_iff.mp n);simpa using (List.mem_filter.mp this).2
 have Y:s.Pairwise λa b=>v a b=true:=List.pairwise_mergeSort (le:=v) (λa b c x y=>by simp[v] at*;omega) (λa b=>by simp[v];omega) p;have T:s.Pairwise λa b=>¬eq a b:=(List.Perm.pairwise_iff (λ{a b} z e=>z (h.D8 e)) K).mpr (gy h.D8 _);have U:∀{P Q},P∈s->Q∈s->eq P Q->P=Q:=λ{P Q} n H e=>by
  by_cases z:P=Q
  .exact z
  .rcases (List.pairwise_iff_getElem).mp T with hh;obtain⟨i,hi,ei⟩:=List.mem_iff_getElem.mp n;obtain⟨j,hj,ej⟩:=List.mem_iff_getElem.mp H;rcases Nat.lt_trichotomy i j with l|l|l
   .exact absurd (by rw[ei,ej];exact e) (hh i j hi hj l)
   .subst l;exact absurd (ei.symm.trans ej) z
   .exact absurd (by rw[ei,ej];exact h.D8 e) (hh j i hj hi l)
 have ap:∀{P Q},(P=w\/P∈s)->(Q=w\/Q∈s)->eq P Q->P=Q:=λ{P Q} n H e=>by
  rcases n with n|n <;> rcases H with H|H
  .rw[n,H]
  .have:=h.eqZ e;have:=(D H).2;rw[n] at*;omega
  .have:=h.eqZ e;have:=(D n).2;rw[H] at*;omega
  .exact U n H e
 have X:∀{P},(P=w\/P∈s)->Z P<=B:=λ{P} n=>by
  rcases n with n|n
  .rw[n];exact O
  .have:=(D n).2;omega
 let S:ι->ι->Bool:=λP o=>decide (eq P o);let R:=gx S kd s (kd w);have G:((kd w).map F).sum<=i8 R.1*(R.2.map F).sum:=ug F s (kd w) λP n o m=>by
  have e:eq P o:=by simpa [S] using m
  rw[<-h.EY e];exact h.kF P (D n).1
 have EM:(kd w++s.flatMap kd).Nodup:=by
  have am:∀l:List ι,(∀P∈l,P∈s)->l.Pairwise (λa b=>¬eq a b)->(l.flatMap kd).Nodup:=by
   intro l;induction l with
   |nil=>intro _ _;exact List.nodup_nil
   |cons P l ih=>intro hl hp;obtain⟨p1,p2⟩:=List.pairwise_cons.mp hp;rw[List.flatMap_cons];refine List.nodup_append.mpr #[h.kN P,ih (λQ H=>hl Q (List.mem_cons_of_mem _ H)) p2,λa k b d e=>?_];obtain⟨Q,H,d⟩:=List.mem_flatMap.mp d;subst e;exact p1 Q H (h.one k d (X (.inr (hl P List.mem_cons_self))) (X (.inr (hl Q (List.mem_cons_of_mem _ H)))) (h.Ew a)).1
  refine List.nodup_append.mpr #[h.kN w,am s (λ_ z=>z) T,λa k b d e=>?_];obtain⟨Q,H,d⟩:=List.mem_flatMap.mp d;subst e;have e:=(h.one k d O (X (.inr H)) (h.Ew a)).1;have:=h.eqZ e;have:=(D H).2;omega
 have J:∀{o},o∈R.1.flatten++R.2->∃P,(P=w\/P∈s)/\o∈kd P:=λ{o} m=>by
  have:=i9 s (kd w) m;rcases List.mem_append.mp this with q|q
  .exact#[w,.inl rfl,q]
  .obtain⟨P,n,q⟩:=List.mem_flatMap.mp q;exact#[P,.inr n,q]
 have ac:∀{a b},a∈R.1.flatten++R.2->b∈R.1.flatten++R.2->ii a b->a=b:=λ{a b} k d e=>by obtain⟨P,n,ka⟩:=J k;obtain⟨Q,H,kb⟩:=J d;obtain⟨t,E⟩:=h.one ka kb (X n) (X H) e;exact E (ap n H t)
 have N:∀o∈R.2,F o=1/\o∈L:=λo m=>by
  refine h.leaf o (Classical.byContradiction λne=>?_);obtain⟨P,n,ko⟩:=J (List.mem_append_right _ m);have z1:=h.kZ P o ko;have z2:Z P<=Z w:=by
   rcases n with n|n
   .rw[n];exact Nat.le_refl _
   .exact Nat.le_of_lt (D n).2
  have hm:=h.mem o (by omega) ne;have zh:=h.hZ o;obtain⟨Q,H,e⟩:=mq (eq:=eq) h.EX (A.filter λP=>decide (kd P≠[]/\Z P < Z w)) (P:=f o) (List.mem_filter.mpr #[hm,by simp[ne];omega]);have al:Q∈s:=K.mem_iff.mpr H;have:=qO (sim:=S) (kd:=kd) s (kd w) (List.Pairwise.imp_of_mem (λ{a b} k d z c hc=>by
    have z:Z b<=Z a:=by simpa [v] using z
    have:=h.kZ b c hc;simp only[S,decide_eq_false_iff_not];intro e;have:=h.eqZ e;omega) Y) (λP n c hc=>by
    have:=h.kZ P c hc;simp only[S,decide_eq_false_iff_not];intro e;have:=h.eqZ e;omega) o m Q al
  simp only[S,decide_eq_false_iff_not] at this;exact this (h.eqT e (h.hE o))
 have an:∀o∈vn R.1 R.2,∃l∈L,ii o l:=λo m=>by
  have I:=(ja R.1 R.2).subset m;rcases List.mem_append.mp m with q|q
  .obtain⟨g,C,og⟩:=List.mem_flatten.mp q;obtain⟨C,g2⟩:=List.mem_filter.mp C;have g2:2<=g.length:=by simpa using g2
   obtain⟨P,n,hs⟩:=qN s (kd w) C;have gn:g.Nodup:=by have:=iF (sim:=S) s (kd w) EM;have:=(List.nodup_append.mp this).1;exact(List.pairwise_flatten.mp this).1 g C
   have:∃b∈g,b≠o:=by
    refine Classical.byContradiction λas=>?_;have all1:∀b∈g,b=o:=λb d=>Classical.byContradiction λz=>as #[b,d,z]
    match g,gn,g2,all1 with
    |[],_,z,_=>simp at z
    |[_],_,z,_=>simp at z
    |x :: y :: r,gn,_,a1=>have ex:=a1 x List.mem_cons_self;have ey:=a1 y (List.mem_cons_of_mem _ List.mem_cons_self);exact(List.nodup_cons.mp gn).1 (by rw[ex,ey];exact List.mem_cons_self)
   obtain⟨b,d,ne⟩:=this;have t:eq P o:=by simpa [S] using hs o og
   have E:eq P b:=by simpa [S] using hs b d
   refine h.Ex (h.eqT (h.D8 t) E) λz=>ne (ac I ?_ z).symm;exact List.mem_append_left _ (List.mem_flatten.mpr #[g,C,d])
  .exact#[o,(N o q).2,h.Ew o]
 let py:ι->ι:=λo=>if z:∃l∈L,ii o l then z.choose else o
 have M:∀o∈vn R.1 R.2,py o∈L/\ii o (py o):=λo m=>by have z:=an o m;have e:py o=z.choose:=dif_pos z;rw[e];exact z.choose_spec
 have u:(vn R.1 R.2).length<=L.length:=nq py ((ja R.1 R.2).nodup (iF (sim:=S) s (kd w) EM)) (λo m=>(M o m).1) λa k b d e=>
  ac ((ja R.1 R.2).subset k) ((ja R.1 R.2).subset d) (h.EW (M a k).2 (by rw[e];exact h.EV (M b d).2))
 have t:F top=((kd w).map F).sum:=by rw[<-h.hF top];exact h.kF w ht
 have E:(R.2.map F).sum=R.2.length:=by rw[jF F 1 R.2 λo m=>(N o m).1,Nat.mul_one]
 rw[E] at G;rw[t];exact Nat.le_trans (Nat.pow_le_pow_left G 3) (Nat.le_trans (vo R.1 R.2) (Nat.pow_le_pow_right (by decide) u))
end
end Wk
namespace Wk
namespace Kd
def aO:Kd->Nat
 | .num=>1
 | .ax _=>1
 | .two _ a b=>a.aO+b.aO
theorem cR:∀k:Kd,k.size+1=2*k.aO
 | .num=>rfl
 | .ax _=>rfl
 | .two _ a b=>by have:=cR a;have:=cR b;simp only[size,aO];omega
def inst (v:Int->Kd):Kd->Kd
 | .num=>.num
 | .ax n=>v n
 | .two f a b=>.two f (a.inst v) (b.inst v)
def sub:Kd->List Bool->Option Kd
 |k,[]=>some k
 | .two _ a b,i :: p=>match i with
  |false=>a.sub p
  |true=>b.sub p
 | .num,_ :: _=>none
 | .ax _,_ :: _=>none
theorem eB (k:Kd):k.sub []=some k:=by cases k <;> rfl
theorem jb:∀(k:Kd) (p q:List Bool),k.sub (p++q)=(k.sub p).bind λj=>j.sub q
 |k,[],q=>by rw[eB];rfl
 | .num,_ :: _,q=>rfl
 | .ax _,_ :: _,q=>rfl
 | .two _ a _,false :: p,q=>jb a p q
 | .two _ _ b,true :: p,q=>jb b p q
def lZ:Kd->List (List Bool)
 | .num=>[[]]
 | .ax _=>[[]]
 | .two _ a b=>a.lZ.map (false :: ·)++b.lZ.map (true :: ·)
theorem iI:∀k:Kd,k.lZ.length=k.aO
 | .num=>rfl
 | .ax _=>rfl
 | .two _ a b=>by simp[lZ,aO,iI a,iI b]
def eu:Kd->Bool
 | .two _ _ _=>false
 |_=>true
theorem k7:∀(k:Kd) (p:List Bool) (j:Kd),k.sub p=some j->j.eu=true->p∈k.lZ
 | .num,[],j,e,h=>by simp[lZ]
 | .ax _,[],j,e,h=>by simp[lZ]
 | .two _ _ _,[],j,e,h=>by cases e;cases h
 | .two _ a _,false :: p,j,e,h=>by simp only[lZ,List.mem_append,List.mem_map];exact .inl #[p,k7 a p j e h,rfl]
 | .two _ _ b,true :: p,j,e,h=>by simp only[lZ,List.mem_append,List.mem_map];exact .inr #[p,k7 b p j e h,rfl]
 | .num,_ :: _,j,e,h=>by cases e
 | .ax _,_ :: _,j,e,h=>by cases e
def wM:Kd->List (List Bool)
 | .num=>[[]]
 | .ax _=>[[]]
 | .two _ a b=>[] :: (a.wM.map (false :: ·)++b.wM.map (true :: ·))
theorem k8:∀(k:Kd) (p:List Bool) (j:Kd),k.sub p=some j->p∈k.wM
 | .num,[],j,e=>by simp[wM]
 | .ax _,[],j,e=>by simp[wM]
 | .two _ _ _,[],j,e=>by simp[wM]
 | .two _ a _,false :: p,j,e=>by simp only[wM,List.mem_cons,List.mem_append,List.mem_map];exact .inr (.inl #[p,k8 a p j e,rfl])
 | .two _ _ b,true :: p,j,e=>by simp only[wM,List.mem_cons,List.mem_append,List.mem_map];exact .inr (.inr #[p,k8 b p j e,rfl])
 | .num,_ :: _,j,e=>by cases e
 | .ax _,_ :: _,j,e=>by cases e
end Kd
structure bu (T:Kd) where
 p:List Bool
 k:Kd
 e:T.sub p=some k
section
variable {T:Kd}
theorem bu.ext {a b:bu T} (h:a.p=b.p):a=b:=by obtain⟨p,k,e⟩:=a;obtain⟨q,j,E⟩:=b;have h:p=q:=h;subst h;rw[e] at E;cases E;rfl
instance:DecidableEq (bu T):=λa b=>if h:a.p=b.p then .isTrue (bu.ext h) else .isFalse λz=>h (by rw[z])
def iJ (P:bu T) (i:Bool) (o:bu T):Prop:=o.p=P.p++[i]
theorem iJ.par {P Q o:bu T} {i j:Bool} (h:iJ P i o) (h':iJ Q j o):P=Q/\i=j:=by have:P.p++[i]=Q.p++[j]:=h.symm.trans h';obtain⟨a,b⟩:=List.append_inj' this rfl;exact#[bu.ext a,by cases b;rfl]
theorem iJ.same {P o O:bu T} {i:Bool} (h:iJ P i o) (h':iJ P i O):o=O:=bu.ext (h.trans h'.symm)
theorem iJ.kind {P o:bu T} {i:Bool} (h:iJ P i o):∃f a b,P.k=.two f a b/\o.k=if i then b else a:=by
 have e:=o.e;rw[h,Kd.jb,P.e] at e;have e:P.k.sub [i]=some o.k:=e;cases H:P.k with
 |num=>rw[H] at e;cases e
 |ax n=>rw[H] at e;cases e
 |two f a b=>
  rw[H] at e;refine#[f,a,b,rfl,?_];cases i
  .have e:a.sub []=some o.k:=e;rw[Kd.eB] at e;cases e;rfl
  .have e:b.sub []=some o.k:=e;rw[Kd.eB] at e;cases e;rfl
def mv (P:bu T):List (bu T):=match h:P.k with
 | .two _ a b=>[#[P.p++[false],a,by rw[Kd.jb,P.e,h];exact Kd.eB a],#[P.p++[true],b,by rw[Kd.jb,P.e,h];exact Kd.eB b]]
 |_=>[]
theorem cW {P:bu T} {f:Bool} {a b:Kd} (h:P.k=.two f a b):∃l r,mv P=[l,r]/\iJ P false l/\iJ P true r/\l.k=a/\r.k=b:=by
 unfold mv;split
 .rename_i g c d n;rw[h] at n;cases n;exact#[_,_,rfl,rfl,rfl,rfl,rfl]
 .rename_i n;exact absurd h (n f a b)
theorem eW {P:bu T} (h:P.k.eu=true):mv P=[]:=by
 unfold mv;split
 .rename_i g c d n;rw[n] at h;cases h
 .rfl
theorem jG {P o:bu T}:o∈mv P↔∃i,iJ P i o:=by
 constructor
 .intro h;cases H:P.k with
  |num=>rw[eW (by rw[H];rfl)] at h;simp at h
  |ax n=>rw[eW (by rw[H];rfl)] at h;simp at h
  |two f a b=>
   obtain⟨l,r,e,k,K,_⟩:=cW H;rw[e] at h;simp at h;rcases h with rfl|rfl
   .exact#[_,k]
   .exact#[_,K]
 .intro ⟨i,h⟩;obtain⟨f,a,b,e,_⟩:=h.kind;obtain⟨l,r,E,k,K,_⟩:=cW e;rw[E];cases i
  .rw[h.same k];simp
  .rw[h.same K];simp
inductive II (Lk:List (bu T×bu T)):bu T->bu T->Prop where
 |refl (o:bu T):II Lk o o
 |symm {a b:bu T}:II Lk a b->II Lk b a
 |trans {a b c:bu T}:II Lk a b->II Lk b c->II Lk a c
 |link {a b:bu T}:(a,b)∈Lk->II Lk a b
inductive EQ (Lk:List (bu T×bu T)):bu T->bu T->Prop where
 |refl (o:bu T):EQ Lk o o
 |symm {a b:bu T}:EQ Lk a b->EQ Lk b a
 |trans {a b c:bu T}:EQ Lk a b->EQ Lk b c->EQ Lk a c
 |link {a b:bu T}:(a,b)∈Lk->EQ Lk a b
 |blank {a b:bu T} {n:Int}:a.k=.ax n->b.k=.ax n->EQ Lk a b
theorem EQ.Ex {Lk:List (bu T×bu T)} {a b:bu T} (h:EQ Lk a b):II Lk a b\/(∃l:bu T,l.k.eu=true/\II Lk a l)/\(∃l:bu T,l.k.eu=true/\II Lk b l):=by
 induction h with
 |refl o=>exact .inl (.refl o)
 |symm _ I=>
  rcases I with I|⟨x,y⟩
  .exact .inl I.symm
  .exact .inr #[y,x]
 |trans _ _ i d=>
  rcases i with i|⟨⟨l,c,x⟩,⟨m,H,y⟩⟩ <;> rcases d with d|⟨⟨L,e,X⟩,⟨M,A,Y⟩⟩
  .exact .inl (i.trans d)
  .exact .inr #[#[L,e,i.trans X],#[M,A,Y]]
  .exact .inr #[#[l,c,x],#[m,H,d.symm.trans y]]
  .exact .inr #[#[l,c,x],#[M,A,Y]]
 |link h=>exact .inl (.link h)
 |blank h n=>exact .inr #[#[_,by rw[h];rfl,.refl _],#[_,by rw[n];rfl,.refl _]]
theorem EQ.val {Lk:List (bu T×bu T)} {v:Int->Kd} (c:∀q∈Lk,q.1.k.inst v=q.2.k.inst v) {a b:bu T} (h:EQ Lk a b):a.k.inst v=b.k.inst v:=by
 induction h with
 |refl o=>rfl
 |symm _ I=>exact I.symm
 |trans _ _ i d=>exact i.trans d
 |link h=>exact c _ h
 |blank h n=>rw[h,n]
theorem EQ.mono {Lk L:List (bu T×bu T)} (s:∀q∈Lk,q∈L) {a b:bu T} (h:EQ Lk a b):EQ L a b:=by
 induction h with
 |refl o=>exact .refl o
 |symm _ I=>exact I.symm
 |trans _ _ i c=>exact i.trans c
 |link h=>exact .link (s _ h)
 |blank h n=>exact .blank h n
structure yK (v:Int->Kd) (Lk fr:List (bu T×bu T)) (B:Nat):Prop where
 lv:∀q∈Lk,q.1.k.inst v=q.2.k.inst v
 par:∀q∈Lk,(∃P Q i,iJ P i q.1/\iJ Q i q.2/\(EQ Lk P Q\/(P,Q)∈fr))\/(q.1.p.length=1/\q.2.p.length=1)
 big:∀q∈fr,B < (q.2.k.inst v).size
 EZ:∀q∈fr,∀q'∈fr,(q.2.k.inst v).size=(q'.2.k.inst v).size->q=q'
 res:∀o:bu T,(o.k.inst v).eu=false->∃P,EQ Lk P o/\P.k.eu=false
 top:B < (T.inst v).size
 Ey:∀q∈fr,(q.2.k.inst v).size < (T.inst v).size
 leaf:∀o:bu T,o.k.eu=true->(o.k.inst v).eu=true->(o.k.inst v).aO=1
inductive Jn (Lk fr:List (bu T×bu T)) (P:bu T):bu T->bu T->Prop where
 |base {A B:bu T}:(A,B)∈fr->EQ Lk A P->Jn Lk fr P A B
 |step {A B A' B':bu T}:(A,B)∈fr->Jn Lk fr P A' B'->EQ Lk A B'->Jn Lk fr P A B
theorem Jn.mem {Lk fr:List (bu T×bu T)} {P A B:bu T} (h:Jn Lk fr P A B):(A,B)∈fr:=by cases h <;> assumption
def Xs (Lk fr:List (bu T×bu T)) (P R:bu T):Prop:=EQ Lk R P\/∃A B,Jn Lk fr P A B/\EQ Lk R B
section
variable {v:Int->Kd} {Lk fr:List (bu T×bu T)} {B:Nat}
theorem Xs.eq {P R S:bu T} (h:Xs Lk fr P R) (e:EQ Lk S R):Xs Lk fr P S:=by
 rcases h with h|⟨A,C,j,h⟩
 .exact .inl (e.trans h)
 .exact .inr #[A,C,j,e.trans h]
theorem yK.fwd {P A C:bu T} (c:(A,C)∈fr) (x:Xs Lk fr P A):Xs Lk fr P C:=by
 rcases x with x|⟨a,b,j,x⟩
 .exact .inr #[A,C,.base c x,.refl _]
 .exact .inr #[A,C,.step c j x,.refl _]
theorem yK.bwd (h:yK v Lk fr B) {P A C:bu T} (r:(P.k.inst v).size<=B) (c:(A,C)∈fr) (x:Xs Lk fr P C):Xs Lk fr P A:=by
 rcases x with x|⟨a,b,j,x⟩
 .have:=h.big _ c;have e:=x.val h.lv;have this:B < (C.k.inst v).size:=this;rw[e] at this;omega
 .have e:=x.val h.lv;have:=h.EZ _ c _ j.mem (by show (C.k.inst v).size=(b.k.inst v).size;rw[e]);cases this;cases j with
  |base _ q=>exact .inl q
  |step _ J q=>exact .inr #[_,_,J,q]
theorem yK.walk (h:yK v Lk fr B) {P a b:bu T} (d:(P.k.inst v).size<=B) (e:II Lk a b):∀i,((∃R,iJ R i a/\Xs Lk fr P R)->∃R,iJ R i b/\Xs Lk fr P R)/\((∃R,iJ R i b/\Xs Lk fr P R)->∃R,iJ R i a/\Xs Lk fr P R):=by
 have N:∀{R o:bu T} {i:Bool},iJ R i o->o.p.length=1->Xs Lk fr P R->False:=λ{R o i} k l x=>by
  have g:R.p=[]:=by have k:o.p=R.p++[i]:=k;rw[k,List.length_append] at l;exact List.length_eq_zero_iff.mp (by simp at l;simpa using l)
  have H:R.k=T:=by have:=R.e;rw[g,Kd.eB] at this;injection this with this;exact this.symm
  have f:=h.top;rcases x with x|⟨A,C,j,x⟩
  .have e:=x.val h.lv;rw[H] at e;rw[e] at f;omega
  .have e:=x.val h.lv;rw[H] at e;have:(C.k.inst v).size < (T.inst v).size:=h.Ey _ j.mem;rw[e] at this;omega
 induction e with
 |refl o=>exactλi=>#[id,id]
 |symm _ I=>exactλi=>#[(I i).2,(I i).1]
 |trans _ _ p q=>exactλi=>#[λz=>(q i).1 ((p i).1 z),λz=>(p i).2 ((q i).2 z)]
 |link c=>
  intro i;rcases h.par _ c with⟨s,Q,j,m,K,r⟩|⟨n,L⟩
  .refine#[λ⟨R,k,x⟩=>?_,λ⟨R,k,x⟩=>?_]
   .obtain⟨t,E⟩:=k.par m;subst t E;refine#[Q,K,?_];rcases r with r|r
    .exact x.eq r.symm
    .exact yK.fwd r x
   .obtain⟨t,E⟩:=k.par K;subst t E;refine#[s,m,?_];rcases r with r|r
    .exact x.eq r
    .exact h.bwd d r x
  .exact#[λ⟨R,k,x⟩=>(N k n x).elim,λ⟨R,k,x⟩=>(N k L x).elim]
theorem yK.rE (h:yK v Lk fr B) {o:bu T} (g:(o.k.inst v).size<=B):((o.k.inst v).aO) ^ 3<=3 ^ T.aO:=by
 classical
 let u:bu T->bu T:=λo=>if z:∃P,EQ Lk P o/\P.k.eu=false then z.choose else o
 have S:∀o,EQ Lk (u o) o:=λo=>by
  by_cases z:∃P,EQ Lk P o/\P.k.eu=false
  .have e:u o=z.choose:=dif_pos z;rw[e];exact z.choose_spec.1
  .have e:u o=o:=dif_neg z;rw[e];exact .refl o
 have N:∀o,mv (u o)=[]->(o.k.inst v).eu=true/\o.k.eu=true:=λo H=>by
  have y:¬∃P,EQ Lk P o/\P.k.eu=false:=λz=>by
   have e:u o=z.choose:=dif_pos z;rw[e] at H;have m:=z.choose_spec.2;cases I:z.choose.k with
   |num=>rw[I] at m;cases m
   |ax n=>rw[I] at m;cases m
   |two f a b=>obtain⟨l,r,e,_⟩:=cW I;rw[e] at H;cases H
  refine#[?_,?_]
  .cases q:(o.k.inst v).eu with
   |true=>rfl
   |false=>exact absurd (h.res o q) y
  .cases q:o.k.eu with
   |true=>rfl
   |false=>exact absurd #[o,.refl o,q] y
 let O:List (List Bool)->List (bu T):=λl=>l.filterMap λp=>match e:T.sub p with
  |some k=>some #[p,k,e]
  |none=>none
 have U:∀(l:List (List Bool)) (o:bu T),o.p∈l->o∈O l:=λl o w=>by
  refine List.mem_filterMap.mpr #[o.p,w,?_];split
  .rename_i k e
   congr 1
   exact bu.ext rfl
  .rename_i e;rw[o.e] at e;cases e
 have sh:Eu (λo:bu T=>(o.k.inst v).aO) (λo=>(o.k.inst v).size) mv u (II Lk) (EQ Lk) (O T.wM) (O T.lZ) B:=by
  refine#[.refl,.symm,.trans,.refl,.symm,.trans,λo=>by rw[(S o).val h.lv],λo=>by rw[(S o).val h.lv],S,λP D=>?_,λP o w=>?_,λP=>?_,λo H=>?_,λe=>by rw[e.val h.lv],λe=>by rw[e.val h.lv],λe ne=>?_,λ{P Q a b} J L D hQ e=>?_,λo _ _=>U _ _ (Kd.k8 T _ _ (u o).e)]
  .cases H:P.k with
   |num=>exact absurd (eW (by rw[H];rfl)) D
   |ax n=>exact absurd (eW (by rw[H];rfl)) D
   |two f a b=>obtain⟨l,r,e,_,_,X,Y⟩:=cW H;rw[e];simp[X,Y,Kd.inst,Kd.aO]
  .obtain⟨i,k⟩:=jG.mp w;obtain⟨f,a,b,e,s⟩:=k.kind;rw[e,s];show _ < (Kd.two f (a.inst v) (b.inst v)).size;simp only[Kd.size];cases i
   .simp;omega
   .simp;omega
  .cases H:P.k with
   |num=>rw[eW (by rw[H];rfl)];exact List.nodup_nil
   |ax n=>rw[eW (by rw[H];rfl)];exact List.nodup_nil
   |two f a b=>obtain⟨l,r,e,M,K,_⟩:=cW H;rw[e];refine List.nodup_cons.mpr #[λz=>?_,by simp];simp at z;subst z;have:=(M.par K).2;cases this
  .obtain⟨q1,G⟩:=N o H;exact#[h.leaf o G q1,U _ _ (Kd.k7 T _ _ o.e G)]
  .rcases e.Ex with q|⟨⟨l,c,q⟩,_⟩
   .exact absurd q ne
   .exact#[l,U _ _ (Kd.k7 T _ _ l.e c),q]
  .obtain⟨i,J⟩:=jG.mp J;obtain⟨j,L⟩:=jG.mp L;obtain⟨R,K,x⟩:=(h.walk D e i).1 #[P,J,.inl (.refl P)];obtain⟨t,E⟩:=K.par L;subst t E;refine#[?_,λz=>by subst z;exact J.same L];rcases x with x|⟨A,C,Z,x⟩
   .exact x.symm
   .have:=h.big _ Z.mem;have e:=x.val h.lv;have this:B < (C.k.inst v).size:=this;rw[<-e] at this;omega
 have d:=sh.bound (top:=o) g;refine Nat.le_trans d (Nat.pow_le_pow_right (by decide) ?_);rw[<-Kd.iI T];exact List.length_filterMap_le _ _
end
end
end Wk
namespace Wk
namespace Kd
theorem fU (v s:Int->Kd):∀k:Kd,(k.inst v).inst s=k.inst λn=>(v n).inst s
 | .num=>rfl
 | .ax _=>rfl
 | .two f a b=>by show Kd.two f _ _=Kd.two f _ _;rw[fU v s a,fU v s b]
theorem jc:∀k:Kd,k.inst .ax=k
 | .num=>rfl
 | .ax _=>rfl
 | .two f a b=>by show Kd.two f _ _=_;rw[jc a,jc b]
theorem eX {v w:Int->Kd}:∀{k:Kd},(∀n,cY n k->v n=w n)->k.inst v=k.inst w
 | .num,_=>rfl
 | .ax n,h=>h n rfl
 | .two f a b,h=>by show Kd.two f _ _=Kd.two f _ _;rw[eX (k:=a) λn q=>h n (.inl q),eX (k:=b) λn q=>h n (.inr q)]
theorem c9 {v:Int->Kd} {m:Int}:∀{k:Kd},cY m (k.inst v)↔∃n,cY n k/\cY m (v n)
 | .num=>#[λh=>h.elim,λ⟨_,h,_⟩=>h.elim]
 | .ax n=>#[λh=>#[n,rfl,h],λ⟨_,e,h⟩=>by cases e;exact h]
 | .two f a b=>by
  refine#[λh=>?_,λ⟨n,h,q⟩=>?_]
  .rcases h with h|h
   .obtain⟨n,x,y⟩:=(c9 (k:=a)).mp h;exact#[n,.inl x,y]
   .obtain⟨n,x,y⟩:=(c9 (k:=b)).mp h;exact#[n,.inr x,y]
  .rcases h with h|h
   .exact .inl (c9.mpr #[n,h,q])
   .exact .inr (c9.mpr #[n,h,q])
theorem jd {v:Int->Kd} {n:Int}:∀{k:Kd},cY n k->(v n).size<=(k.inst v).size
 | .num,h=>h.elim
 | .ax m,h=>by cases h;exact Nat.le_refl _
 | .two f a b,h=>by
  show _<=(Kd.two f (a.inst v) (b.inst v)).size;simp only[size];rcases h with h|h
  .have:=jd (v:=v) h;omega
  .have:=jd (v:=v) h;omega
theorem gY {k:Kd} (h:k.eu=true):k.aO=1:=by cases k <;> first|rfl|cases h
end Kd
section
variable {T:Kd}
def pI (Lk f:List (bu T×bu T)):Prop:=∀q∈Lk,(∃P Q i,iJ P i q.1/\iJ Q i q.2/\(EQ Lk P Q\/(P,Q)∈f))\/(q.1.p.length=1/\q.2.p.length=1)
def Az (v:Int->Kd) (Lk:List (bu T×bu T)):Prop:=∀q∈Lk,q.1.k.inst v=q.2.k.inst v
inductive je (Lk:List (bu T×bu T)):List (bu T×bu T)->bu T->bu T->List (Kd×Kd)->Prop where
 |nil {a b:bu T}:a.p=[false]->b.p=[true]->je Lk [] a b []
 |one {fs:List (bu T×bu T)} {a b A B l1 l2:bu T} {td:List (Kd×Kd)} {f:Bool} {x y z w:Kd}:je Lk fs a b td->EQ Lk A a->EQ Lk B b->A.k=.two f x y->B.k=.two f z w->iJ A false l1->iJ B false l2->je Lk ((A,B) :: fs) l1 l2 ((y,w) :: td)
 |two {fs:List (bu T×bu T)} {a b A B l1 l2 r1 r2:bu T} {td:List (Kd×Kd)} {f:Bool} {x y z w:Kd}:je Lk fs a b td->EQ Lk A a->EQ Lk B b->A.k=.two f x y->B.k=.two f z w->iJ A false l1->iJ B false l2->(l1,l2)∈Lk->iJ A true r1->iJ B true r2->je Lk ((A,B) :: fs) r1 r2 td
theorem je.mono {Lk L f:List (bu T×bu T)} {a b:bu T} {g:List (Kd×Kd)} (s:∀q∈Lk,q∈L) (h:je Lk f a b g):je L f a b g:=by
 induction h with
 |nil c H=>exact .nil c H
 |one _ t E k r e C I=>exact .one I (t.mono s) (E.mono s) k r e C
 |two _ t E k r e C m D d I=>exact .two I (t.mono s) (E.mono s) k r e C (s _ m) D d
theorem je.cur {Lk f:List (bu T×bu T)} {a b:bu T} {g:List (Kd×Kd)} (h:je Lk f a b g):(∃P Q i,iJ P i a/\iJ Q i b/\(P,Q)∈f)\/(a.p.length=1/\b.p.length=1):=by
 cases h with
 |nil c H=>exact .inr #[by rw[c];rfl,by rw[H];rfl]
 |one _ _ _ _ _ e C=>exact .inl #[_,_,_,e,C,List.mem_cons_self]
 |two _ _ _ _ _ _ _ _ D d=>exact .inl #[_,_,_,D,d,List.mem_cons_self]
theorem pI.now {Lk f:List (bu T×bu T)} {a b:bu T} {g:List (Kd×Kd)} (h:pI Lk f) (s:je Lk f a b g):pI ((a,b) :: Lk) f:=λq j=>by
 rcases List.mem_cons.mp j with rfl|j
 .rcases s.cur with⟨P,Q,i,k,r,m⟩|q
  .exact .inl #[P,Q,i,k,r,.inr m]
  .exact .inr q
 .rcases h q j with⟨P,Q,i,k,r,e⟩|z
  .exact .inl #[P,Q,i,k,r,e.imp (λe=>e.mono λ_ m=>List.mem_cons_of_mem _ m) id]
  .exact .inr z
theorem je.next {v:Int->Kd}:∀(o:List (bu T×bu T)) (Lk:List (bu T×bu T)) (a b:bu T) (G:List (Kd×Kd)),je Lk o a b G->Az v Lk->pI ((a,b) :: Lk) o->a.k.inst v=b.k.inst v->∃L,(∀q∈(a,b) :: Lk,q∈L)/\Az v L/\((G=[]/\pI L []/\∃l r:bu T,l.p=[false]/\r.p=[true]/\(l,r)∈L)\/∃N a' b' J,G=(a'.k,b'.k) :: J/\pI L N/\je L N a' b' J)
 |[],Lk,a,b,G,h,H,g,e=>by
  cases h with
  |nil h1 h2=>
   refine#[(a,b) :: Lk,λ_ m=>m,λq j=>?_,.inl #[rfl,g,a,b,h1,h2,List.mem_cons_self]];rcases List.mem_cons.mp j with rfl|j
   .exact e
   .exact H q j
 |(A,B) :: o,Lk,p,n,G,h,H,g,e=>by
  have d:Az v ((p,n) :: Lk):=λq j=>by
   rcases List.mem_cons.mp j with rfl|j
   .exact e
   .exact H q j
  have sub:∀q∈Lk,q∈(p,n) :: Lk:=λq j=>List.mem_cons_of_mem _ j;cases h with
  |one h0 t E k K c C=>obtain⟨_,r1,_,_,q1,_,q2⟩:=cW k;obtain⟨_,r2,_,_,q3,_,q4⟩:=cW K;refine#[(p,n) :: Lk,λ_ m=>m,d,.inr #[(A,B) :: o,r1,r2,_,by rw[q2,q4],g,.two (h0.mono sub) (t.mono sub) (E.mono sub) k K c C List.mem_cons_self q1 q3]]
  |@two o a b A B m1 m2 r1 r2 G f x y z w h0 t E k K c C m d1 d2=>
   have vA:A.k.inst v=B.k.inst v:=by have X:=H _ m;obtain⟨_,_,_,ea,O⟩:=c.kind;obtain⟨_,_,_,eb,S⟩:=C.kind;obtain⟨_,_,_,ec,M⟩:=d1.kind;obtain⟨_,_,_,ed,Y⟩:=d2.kind;rw[k] at ea ec;cases ea;cases ec;rw[K] at eb ed;cases eb;cases ed;have X:m1.k.inst v=m2.k.inst v:=X;rw[O,S] at X;rw[M,Y] at e;rw[k,K];show Kd.two f _ _=Kd.two f _ _;simp only[Bool.false_eq_true,if_false,if_true] at X e;rw[X,e]
   have R:a.k.inst v=b.k.inst v:=by rw[<-t.val H,<-E.val H];exact vA
   have I:pI ((a,b) :: (p,n) :: Lk) o:=λq j=>by
    have u:∀q∈(p,n) :: Lk,q∈(a,b) :: (p,n) :: Lk:=λq j=>List.mem_cons_of_mem _ j;rcases List.mem_cons.mp j with rfl|j
    .rcases h0.cur with⟨P,Q,i,X,U,D⟩|z
     .exact .inl #[P,Q,i,X,U,.inr D]
     .exact .inr z
    .rcases g q j with⟨P,Q,i,X,U,D⟩|z
     .refine .inl #[P,Q,i,X,U,?_];rcases D with D|D
      .exact .inl (D.mono u)
      .rcases List.mem_cons.mp D with D|D
       .cases D;exact .inl ((t.mono λq j=>u _ (sub _ j)).trans ((EQ.link List.mem_cons_self).trans (E.mono λq j=>u _ (sub _ j)).symm))
       .exact .inr D
     .exact .inr z
   obtain⟨L,s,Z,r⟩:=je.next o ((p,n) :: Lk) a b G (h0.mono sub) d I R;exact#[L,λq j=>s q (List.mem_cons_of_mem _ j),Z,r]
theorem je.eg {v:Int->Kd} {Lk z:List (bu T×bu T)} {a b:bu T} {M:List (Kd×Kd)} (g:Az v Lk) (h:je Lk z a b M):(∀q∈z,(a.k.inst v).size < (q.1.k.inst v).size/\(b.k.inst v).size < (q.2.k.inst v).size)/\z.Pairwise (λq Q=>(q.1.k.inst v).size < (Q.1.k.inst v).size/\(q.2.k.inst v).size < (Q.2.k.inst v).size)/\(∀q∈z,(q.1.k.inst v).size < (T.inst v).size/\(q.2.k.inst v).size < (T.inst v).size)/\(a.k.inst v).size < (T.inst v).size/\(b.k.inst v).size < (T.inst v).size:=by
 have N:∀{P o:bu T} {i:Bool},iJ P i o->(o.k.inst v).size < (P.k.inst v).size:=λ{P o i} k=>by
  obtain⟨f,x,y,e,n⟩:=k.kind;rw[e,n];show _ < (Kd.two f (x.inst v) (y.inst v)).size;simp only[Kd.size];cases i
  .simp;omega
  .simp;omega
 have step:∀{z:List (bu T×bu T)} {a b A B c d:bu T} {i:Bool},EQ Lk A a->EQ Lk B b->iJ A i c->iJ B i d->((∀q∈z,(a.k.inst v).size < (q.1.k.inst v).size/\(b.k.inst v).size < (q.2.k.inst v).size)/\z.Pairwise (λq Q=>(q.1.k.inst v).size < (Q.1.k.inst v).size/\(q.2.k.inst v).size < (Q.2.k.inst v).size)/\(∀q∈z,(q.1.k.inst v).size < (T.inst v).size/\(q.2.k.inst v).size < (T.inst v).size)/\(a.k.inst v).size < (T.inst v).size/\(b.k.inst v).size < (T.inst v).size)->((∀q∈(A,B) :: z,(c.k.inst v).size < (q.1.k.inst v).size/\(d.k.inst v).size < (q.2.k.inst v).size)/\((A,B) :: z).Pairwise (λq Q=>(q.1.k.inst v).size < (Q.1.k.inst v).size/\(q.2.k.inst v).size < (Q.2.k.inst v).size)/\(∀q∈(A,B) :: z,(q.1.k.inst v).size < (T.inst v).size/\(q.2.k.inst v).size < (T.inst v).size)/\(c.k.inst v).size < (T.inst v).size/\(d.k.inst v).size < (T.inst v).size):=by
  intro z a b A B c d i t E m r ⟨l,H,u,J,L⟩;have p:=N m;have w:=N r;have S:(A.k.inst v).size=(a.k.inst v).size:=by rw[t.val g]
  have s:(B.k.inst v).size=(b.k.inst v).size:=by rw[E.val g]
  refine#[λq j=>?_,List.pairwise_cons.mpr #[λq j=>?_,H],λq j=>?_,by omega,by omega]
  .rcases List.mem_cons.mp j with rfl|j
   .exact#[p,w]
   .have:=l q j;omega
  .have:=l q j;show (A.k.inst v).size < _/\(B.k.inst v).size < _;omega
  .rcases List.mem_cons.mp j with rfl|j
   .show (A.k.inst v).size < _/\(B.k.inst v).size < _;omega
   .exact u q j
 induction h with
 |@nil a b l H=>have top:∀{o:bu T} {i:Bool},o.p=[i]->(o.k.inst v).size < (T.inst v).size:=λ{o i} e=>N (P:=#[[],T,Kd.eB T]) (i:=i) e;exact#[λq j=>by simp at j,.nil,λq j=>by simp at j,top l,top H]
 |one _ t E _ _ K C I=>exact step t E K C I
 |two _ t E _ _ _ _ _ D G I=>exact step t E D G I
end
end Wk
namespace Wk
section
variable {T:Kd}
inductive eA (φ:eR):Kd->Kd->Prop where
 |stop {k:Kd}:(∀n,k=.ax n->φ n=none)->eA φ k k
 |go {n:Int} {k k':Kd}:φ n=some k->eA φ k k'->eA φ (.ax n) k'
structure MI (φ:eR) (v:Int->Kd) (rk:Int->Nat) (bo:Int->Option (bu T)) (Lk:List (bu T×bu T)):Prop where
 C7:∀n,φ n=(bo n).map bu.k
 rG:∀n,φ n=none->v n=.ax n
 pJ:∀n k,φ n=some k->v n=k.inst v/\∀m,cY m k->rk m < rk n
 bl:∀n o,bo n=some o->∃l:bu T,l.k=.ax n/\EQ Lk l o
 lv:Az v Lk
section
variable {φ:eR} {v:Int->Kd} {rk:Int->Nat} {bo:Int->Option (bu T)} {Lk fs:List (bu T×bu T)} {a b:bu T} {td:List (Kd×Kd)}
theorem MI.bound (h:MI φ v rk bo Lk) {n:Int} {o:bu T} (e:bo n=some o):φ n=some o.k:=by rw[h.C7,e];rfl
theorem MI.at_ (h:MI φ v rk bo Lk) {n:Int} {o l:bu T} (e:bo n=some o) (a:l.k=.ax n):EQ Lk o l:=by obtain⟨L,c,H⟩:=h.bl n o e;exact H.symm.trans (.blank c a)
theorem MI.res (h:MI φ v rk bo Lk):∀(m:Nat) (o:bu T),(∀n,o.k=.ax n->rk n < m)->(o.k.inst v).eu=false->∃P,EQ Lk P o/\P.k.eu=false:=by
 intro m;induction m with
 |zero=>
  intro o c H;cases a:o.k with
  |ax n=>exact absurd (c n a) (Nat.not_lt_zero _)
  |num=>rw[a] at H;cases H
  |two f x y=>exact#[o,.refl o,by rw[a];rfl]
 |succ m I=>
  intro o c H;cases a:o.k with
  |num=>rw[a] at H;cases H
  |two f x y=>exact#[o,.refl o,by rw[a];rfl]
  |ax n=>
   rw[a] at H;have H:(v n).eu=false:=H;cases e:bo n with
   |none=>
    have:φ n=none:=by rw[h.C7,e];rfl
    rw[h.rG n this] at H;cases H
   |some O=>obtain⟨t,E⟩:=h.pJ n O.k (h.bound e);have r:=c n a;obtain⟨P,p,w⟩:=I O (λM A=>by have:=E M (by rw[A];rfl);omega) (by rw[<-t];exact H);exact#[P,p.trans (h.at_ e a),w]
theorem MI.Ct (h:MI φ v rk bo Lk) (o:bu T) (H:(o.k.inst v).eu=false):∃P,EQ Lk P o/\P.k.eu=false:=by
 cases a:o.k with
 |ax n=>exact h.res (rk n+1) o (λm e=>by rw[a] at e;cases e;omega) H
 |num=>exact h.res 0 o (λm e=>by rw[a] at e;cases e) H
 |two f x y=>exact h.res 0 o (λm e=>by rw[a] at e;cases e) H
theorem MI.head (h:MI φ v rk bo Lk):∀(m:Nat) (o:bu T),(∀n,o.k=.ax n->rk n < m)->∃p:bu T,EQ Lk p o/\eA φ o.k p.k/\∀n,p.k=.ax n->φ n=none:=by
 intro m;induction m with
 |zero=>intro o c;have y:∀n,o.k=.ax n->φ n=none:=λn e=>absurd (c n e) (Nat.not_lt_zero _);exact#[o,.refl o,.stop y,y]
 |succ m I=>
  intro o c;by_cases y:∀n,o.k=.ax n->φ n=none
  .exact#[o,.refl o,.stop y,y]
  .have:∃n,o.k=.ax n/\φ n≠none:=Classical.byContradiction λz=>y λn e=>Classical.byContradiction λZ=>z #[n,e,Z];obtain⟨n,a,N⟩:=this;cases e:bo n with
   |none=>exact absurd (by rw[h.C7,e];rfl) N
   |some O=>obtain⟨_,E⟩:=h.pJ n O.k (h.bound e);have r:=c n a;obtain⟨p,b,w,P⟩:=I O (λM A=>by have:=E M (by rw[A];rfl);omega);exact#[p,b.trans (h.at_ e a),by rw[a];exact .go (h.bound e) w,P]
theorem MI.head' (h:MI φ v rk bo Lk) (o:bu T):∃p:bu T,EQ Lk p o/\eA φ o.k p.k/\∀n,p.k=.ax n->φ n=none:=by
 cases a:o.k with
 |ax n=>have:=h.head (rk n+1) o (λm e=>by rw[a] at e;cases e;omega);rwa [a] at this
 |num=>have:=h.head 0 o (λm e=>by rw[a] at e;cases e);rwa [a] at this
 |two f x y=>have:=h.head 0 o (λm e=>by rw[a] at e;cases e);rwa [a] at this
theorem MI.Ez (h:MI φ v rk bo Lk) (s:je Lk fs a b td) (p:pI Lk fs):((b.k.inst v).aO) ^ 3<=3 ^ T.aO:=by
 obtain⟨S,f,g,C,k⟩:=s.eg h.lv;have F:yK v Lk fs (b.k.inst v).size:=by
  refine#[h.lv,p,λq H=>(S q H).2,λq H Q n e=>?_,h.Ct,k,λq H=>(g q H).2,λo _ m=>Kd.gY m];obtain⟨i,c,E⟩:=List.mem_iff_getElem.mp H;obtain⟨j,D,G⟩:=List.mem_iff_getElem.mp n;have d:=List.pairwise_iff_getElem.mp f;rcases Nat.lt_trichotomy i j with l|l|l
  .have:=(d i j c D l).2;rw[E,G] at this;omega
  .subst l;exact E.symm.trans G
  .have:=(d j i D c l).2;rw[E,G] at this;omega
 exact F.rE (Nat.le_refl _)
theorem eq_swap {Lk:List (bu T×bu T)} {a b:bu T} (h:EQ Lk a b):EQ (Lk.map λq=>(q.2,q.1)) a b:=by
 induction h with
 |refl o=>exact .refl o
 |symm _ I=>exact I.symm
 |trans _ _ i c=>exact i.trans c
 |link h=>exact(EQ.link (List.mem_map.mpr #[_,h,rfl])).symm
 |blank h n=>exact .blank h n
theorem MI.EA (h:MI φ v rk bo Lk) (s:je Lk fs a b td) (p:pI Lk fs):((a.k.inst v).aO) ^ 3<=3 ^ T.aO:=by
 obtain⟨S,f,n,C,k⟩:=s.eg h.lv;have F:yK v (Lk.map λq=>(q.2,q.1)) (fs.map λq=>(q.2,q.1)) (a.k.inst v).size:=by
  refine#[λq H=>?_,λq H=>?_,λq H=>?_,λq H r u e=>?_,λo m=>?_,C,λq H=>?_,λo _ m=>Kd.gY m]
  .obtain⟨q,M,rfl⟩:=List.mem_map.mp H;exact(h.lv q M).symm
  .obtain⟨q,M,rfl⟩:=List.mem_map.mp H;rcases p q M with⟨P,Q,i,X,U,x⟩|z
   .refine .inl #[Q,P,i,U,X,?_];rcases x with x|x
    .exact .inl (eq_swap x).symm
    .exact .inr (List.mem_map.mpr #[_,x,rfl])
   .exact .inr #[z.2,z.1]
  .obtain⟨q,M,rfl⟩:=List.mem_map.mp H;exact(S q M).1
  .obtain⟨q,M,rfl⟩:=List.mem_map.mp H;obtain⟨r,t,rfl⟩:=List.mem_map.mp u;obtain⟨i,c,E⟩:=List.mem_iff_getElem.mp M;obtain⟨j,D,G⟩:=List.mem_iff_getElem.mp t;have d:=List.pairwise_iff_getElem.mp f;have e:(q.1.k.inst v).size=(r.1.k.inst v).size:=e;rcases Nat.lt_trichotomy i j with l|l|l
   .have:=(d i j c D l).1;rw[E,G] at this;omega
   .subst l;rw[<-E,<-G]
   .have:=(d j i D c l).1;rw[E,G] at this;omega
  .obtain⟨P,g,w⟩:=h.Ct o m;exact#[P,eq_swap g,w]
  .obtain⟨q,M,rfl⟩:=List.mem_map.mp H;exact(n q M).1
 exact F.rE (Nat.le_refl _)
theorem MI.Cu (h:MI φ v rk bo Lk) (p:pI Lk []) {o:bu T} (g:(o.k.inst v).size < (T.inst v).size):((o.k.inst v).aO) ^ 3<=3 ^ T.aO:=by have F:yK v Lk [] (o.k.inst v).size:=#[h.lv,p,λq j=>by simp at j,λq j=>by simp at j,h.Ct,g,λq j=>by simp at j,λo _ m=>Kd.gY m];exact F.rE (Nat.le_refl _)
theorem pI.more {Lk fs:List (bu T×bu T)} (h:pI Lk fs) (q:bu T×bu T):pI Lk (q :: fs):=λa j=>by
 rcases h a j with⟨P,Q,i,X,U,D⟩|z
 .exact .inl #[P,Q,i,X,U,D.imp id (List.mem_cons_of_mem _)]
 .exact .inr z
theorem je.split {h t:bu T} {f:Bool} {x y z w:Kd} (s:je Lk fs a b td) (p:pI Lk fs) (e:EQ Lk h a) (S:EQ Lk t b) (d:h.k=.two f x y) (K:t.k=.two f z w):∃l r:bu T,l.k=x/\r.k=z/\je Lk ((h,t) :: fs) l r ((y,w) :: td)/\pI Lk ((h,t) :: fs):=by obtain⟨i,_,_,c,_,m,_⟩:=cW d;obtain⟨L,_,_,C,_,k,_⟩:=cW K;exact#[i,L,m,k,.one s e S d K c C,p.more _]
theorem MI.grow {L:List (bu T×bu T)} (h:MI φ v rk bo Lk) (s:∀q∈Lk,q∈L) (g:Az v L):MI φ v rk bo L:=#[h.C7,h.rG,h.pJ,λn o e=>by obtain⟨l,x,y⟩:=h.bl n o e;exact#[l,x,y.mono s],g]
def iK (x:Int) (k:Kd):Int->Kd:=λm=>if m=x then k else .ax m
theorem vp {x:Int} {k:Kd}:∀{j:Kd},¬cY x j->j.inst (iK x k)=j:=λ{j} h=>by
 have:=Kd.eX (v:=iK x k) (w:=Kd.ax) (k:=j) λn f=>by
  unfold iK;by_cases e:n=x
  .subst e;exact absurd f h
  .rw[if_neg e]
 rw[this];exact Kd.jc j
open Classical in
theorem MI.fill (h:MI φ v rk bo Lk) {x:Int} {t l:bu T} (g:φ x=none) (p:l.k=.ax x) (N:¬cY x (t.k.inst v)) (R:∀L,(∀q∈Lk,q∈L)->(a,b)∈L->EQ L l t) (Q:∀w,Az w Lk->w x=t.k.inst w->a.k.inst w=b.k.inst w):∃A,MI (put φ x t.k) (λn=>(v n).inst (iK x (t.k.inst v))) A (λn=>if n=x then some t else bo n) ((a,b) :: Lk)/\a.k.inst (λn=>(v n).inst (iK x (t.k.inst v)))=b.k.inst (λn=>(v n).inst (iK x (t.k.inst v))):=by
 have K:∀k:Kd,k.inst (λn=>(v n).inst (iK x (t.k.inst v)))=(k.inst v).inst (iK x (t.k.inst v)):=λk=>(Kd.fU v _ k).symm;have D:v x=.ax x:=h.rG x g;have M:(v x).inst (iK x (t.k.inst v))=t.k.inst v:=by rw[D];show iK x _ x=_;unfold iK;rw[if_pos rfl]
 have O:t.k.inst (λn=>(v n).inst (iK x (t.k.inst v)))=t.k.inst v:=by rw[K];exact vp N
 have G:Az (λn=>(v n).inst (iK x (t.k.inst v))) Lk:=λq j=>by rw[K,K,h.lv q j]
 have P:=Q _ G (by rw[O];exact M);obtain⟨C,J⟩:∃C,∀m,cY m t.k->rk m < C:=by
  have y:∀k:Kd,∃C,∀m,cY m k->rk m < C:=by
   intro k;induction k with
   |num=>exact⟨0,λm z=>z.elim⟩
   |ax n=>exact#[rk n+1,λm z=>by cases z;omega]
   |two f a b i I=>
    obtain⟨S,c⟩:=i;obtain⟨Y,H⟩:=I;refine#[S+Y,λm z=>?_];rcases z with z|z
    .have:=c m z;omega
    .have:=H m z;omega
  exact y t.k
 refine#[λn=>if cY x (v n) then rk n+C else rk n,#[λn=>?_,λn u=>?_,λn k u=>?_,λn o e=>?_,λq j=>?_],P]
 .unfold put;by_cases e:n=x
  .rw[if_pos e,if_pos e];rfl
  .rw[if_neg e,if_neg e];exact h.C7 n
 .unfold put at u;by_cases e:n=x
  .rw[if_pos e] at u;cases u
  .rw[if_neg e] at u;show (v n).inst _=_;rw[h.rG n u];show iK x _ n=_;unfold iK;rw[if_neg e]
 .unfold put at u;by_cases e:n=x
  .rw[if_pos e] at u;cases u;subst e;refine#[by show (v n).inst _=_;rw[M,O],λm s=>?_];show (if cY n (v m) then rk m+C else rk m) < (if cY n (v n) then rk n+C else rk n);have c:¬cY n (v m):=λz=>N (Kd.c9.mpr #[m,s,z]);have H:cY n (v n):=by rw[D];rfl
   rw[if_neg c,if_pos H];have:=J m s;omega
  .rw[if_neg e] at u;obtain⟨d,E⟩:=h.pJ n k u;refine#[by show (v n).inst _=_;rw[d,K],λm s=>?_];show (if cY x (v m) then rk m+C else rk m) < (if cY x (v n) then rk n+C else rk n);have r:=E m s;by_cases q:cY x (v m)
   .have:cY x (v n):=by rw[d];exact Kd.c9.mpr #[m,s,q]
    rw[if_pos q,if_pos this];omega
   .rw[if_neg q];split <;> omega
 .by_cases q:n=x
  .rw[if_pos q] at e;cases e;subst q;exact#[l,p,R _ (λq j=>List.mem_cons_of_mem _ j) List.mem_cons_self]
  .rw[if_neg q] at e;obtain⟨B,X,U⟩:=h.bl n o e;exact#[B,X,U.mono λq j=>List.mem_cons_of_mem _ j]
 .rcases List.mem_cons.mp j with rfl|j
  .exact P
  .exact G q j
end
end
end Wk
namespace Wk
def C8 (one other:Kd):Prop:=∀a:Int->Kd,one.inst a≠other.inst a
structure Wr (φ:eR) (v:Int->Kd) (rk:Int->Nat):Prop where
 rG:∀n,φ n=none->v n=.ax n
 pJ:∀n k,φ n=some k->v n=k.inst v/\∀m,cY m k->rk m < rk n
abbrev top2 (one other:Kd):Kd:=.two true one other
def c7 (one other:Kd) (φ:eR) (t:List (Kd×Kd)):Prop:=∃(v:Int->Kd) (R:Int->Nat) (B:Int->Option (bu (top2 one other))) (Lk:List (bu (top2 one other)×bu (top2 one other))),MI φ v R B Lk/\
 (∀c:Int->Kd,one.inst c=other.inst c->(∀n k,φ n=some k->c n=k.inst c)/\∀q∈t,q.1.inst c=q.2.inst c)/\
 match t with
 |[]=>pI Lk []/\∃l r:bu (top2 one other),l.p=[false]/\r.p=[true]/\(l,r)∈Lk
 |p :: td=>∃f a b,p=(a.k,b.k)/\pI Lk f/\je Lk f a b td
theorem MI.wr {T:Kd} {φ:eR} {v:Int->Kd} {l:Int->Nat} {B:Int->Option (bu T)} {Lk:List (bu T×bu T)} (h:MI φ v l B Lk):Wr φ v l:=#[h.rG,h.pJ]
theorem Wr.wide {φ:eR} {v:Int->Kd} {l:Int->Nat} (h:Wr φ v l) {θ:Int->Kd} (H:∀n k,φ n=some k->θ n=k.inst θ):∀n,(v n).inst θ=θ n:=by
 have y:∀(m:Nat) (n:Int),l n < m->(v n).inst θ=θ n:=by
  intro m;induction m with
  |zero=>intro n f;exact absurd f (Nat.not_lt_zero _)
  |succ m I=>
   intro n f;cases e:φ n with
   |none=>rw[h.rG n e];rfl
   |some k=>obtain⟨t,E⟩:=h.pJ n k e;rw[t,H n k e,Kd.fU];exact Kd.eX λM A=>I M (by have:=E M A;omega)
 exactλn=>y _ n (Nat.lt_succ_self _)
theorem Wr.Bw {φ:eR} {v:Int->Kd} {l:Int->Nat} (h:Wr φ v l) {θ:Int->Kd} (H:∀n k,φ n=some k->θ n=k.inst θ) (k:Kd):(k.inst v).inst θ=k.inst θ:=by rw[Kd.fU];exact Kd.eX λn _=>h.wide H n
theorem Wr.free {φ:eR} {v:Int->Kd} {l:Int->Nat} (h:Wr φ v l):∀n m,cY m (v n)->φ m=none:=by
 have K:∀(j:Nat) (n m:Int),l n < j->cY m (v n)->φ m=none:=by
  intro j;induction j with
  |zero=>intro n m f;exact absurd f (Nat.not_lt_zero _)
  |succ j I=>
   intro n m f c;cases e:φ n with
   |none=>rw[h.rG n e] at c;cases c;exact e
   |some k=>obtain⟨t,E⟩:=h.pJ n k e;rw[t] at c;obtain⟨N,x,y⟩:=Kd.c9.mp c;exact I N m (by have:=E N x;omega) y
 exactλn m=>K _ n m (Nat.lt_succ_self _)
theorem eA.inst {φ:eR} {v:Int->Kd} {l:Int->Nat} (w:Wr φ v l) {k K:Kd} (h:eA φ k K):k.inst v=K.inst v:=by
 induction h with
 |stop _=>rfl
 |go e _ I=>rw[<-I];exact(w.pJ _ _ e).1
theorem eA.meets {φ:eR} {θ:Int->Kd} (H:∀n k,φ n=some k->θ n=k.inst θ) {k K:Kd} (h:eA φ k K):k.inst θ=K.inst θ:=by
 induction h with
 |stop _=>rfl
 |go e _ I=>rw[<-I];exact H _ _ e
theorem eA.det {φ:eR} {k a b:Kd} (h:eA φ k a) (h':eA φ k b):a=b:=by
 induction h with
 |stop n1=>
  cases h' with
  |stop _=>rfl
  |go e _=>have:=n1 _ rfl;rw[e] at this;cases this
 |go e _ I=>
  cases h' with
  |stop n1=>have:=n1 _ rfl;rw[e] at this;cases this
  |go E h'=>rw[e] at E;cases E;exact I h'
theorem c7.start (one other:Kd):c7 one other (λ_=>none) [(one,other)]:=#[.ax,λ_=>0,λ_=>none,[],#[λ_=>rfl,λ_ _=>rfl,λ_ _ e=>(nomatch e),λ_ _ e=>(nomatch e),λq j=>by simp at j],λa e=>#[λ_ _ z=>(nomatch z),λq j=>by simp at j;subst j;exact e],[],#[[false],one,Kd.eB one],#[[true],other,Kd.eB other],rfl,λq j=>by simp at j,.nil rfl rfl]
section
variable {one other:Kd} {φ:eR} {td:List (Kd×Kd)}
theorem c7.pass {g:eR} {v:Int->Kd} {A:Int->Nat} {i:Int->Option (bu (top2 one other))} {Lk f:List (bu (top2 one other)×bu (top2 one other))} {a b:bu (top2 one other)} (h:MI g v A i ((a,b) :: Lk)) (s:je Lk f a b td) (p:pI Lk f) (e:a.k.inst v=b.k.inst v) (u:∀θ:Int->Kd,one.inst θ=other.inst θ->(∀n k,g n=some k->θ n=k.inst θ)/\∀q∈td,q.1.inst θ=q.2.inst θ):c7 one other g td:=by
 obtain⟨L,w,d,r⟩:=je.next f Lk a b td s (λq j=>h.lv q (List.mem_cons_of_mem _ j)) (p.now s) e;refine#[v,A,i,L,h.grow w d,u,?_];rcases r with⟨rfl,x⟩|⟨N,c,B,J,rfl,x,y⟩
 .exact x
 .exact#[N,c,B,rfl,x,y]
def sQ:Kd->Kd->Prop
 | .num,.two _ _ _=>True
 | .two _ _ _,.num=>True
 | .two f _ _,.two g _ _=>f≠g
 |_,_=>False
theorem sQ.no {a b:Kd} (h:sQ a b) (θ:Int->Kd):a.inst θ≠b.inst θ:=by
 cases a with
 |num=>cases b <;> first|exact h.elim|(intro e;cases e)
 |ax n=>exact h.elim
 |two f x y=>
  cases b with
  |num=>intro e;cases e
  |ax n=>exact h.elim
  |two g z w=>intro e;have e:Kd.two f _ _=Kd.two g _ _:=e;injection e with e;exact h e
theorem c7.step {p q:Kd} (I:c7 one other φ ((p,q) :: td)):∃(v:Int->Kd) (R:Int->Nat) (h t:Kd),Wr φ v R/\eA φ p h/\eA φ q t/\(∀n,h=.ax n->φ n=none)/\(∀n,t=.ax n->φ n=none)/\(h.inst v).aO ^ 3<=3 ^ (top2 one other).aO/\(t.inst v).aO ^ 3<=3 ^ (top2 one other).aO/\(∀x,h=.ax x->t≠.ax x->(cY x (t.inst v)->C8 one other)/\(¬cY x (t.inst v)->c7 one other (put φ x t) td))/\(∀x,t=.ax x->h≠.ax x->(cY x (h.inst v)->C8 one other)/\(¬cY x (h.inst v)->c7 one other (put φ x h) td))/\(h=t->c7 one other φ td)/\(∀f x y z w,h=.two f x y->t=.two f z w->c7 one other φ ((x,z) :: (y,w) :: td))/\(sQ h t->C8 one other):=by
 obtain⟨v,R,bo,Lk,M,U,fs,a,b,e,P,S⟩:=I;cases e;obtain⟨h,T,B,nh⟩:=M.head' a;obtain⟨t,K,ht,nt⟩:=M.head' b;have w:=M.wr;have ia:a.k.inst v=h.k.inst v:=B.inst w;have ib:b.k.inst v=t.k.inst v:=ht.inst w;have C:∀A:Int->Kd,one.inst A=other.inst A->h.k.inst A=t.k.inst A:=λA H=>by obtain⟨G,u2⟩:=U A H;rw[<-B.meets G,<-ht.meets G];exact u2 _ List.mem_cons_self
 have Y:∀A:Int->Kd,one.inst A=other.inst A->(∀n k,φ n=some k->A n=k.inst A)/\∀q∈td,q.1.inst A=q.2.inst A:=λA H=>#[(U A H).1,λq i=>(U A H).2 q (List.mem_cons_of_mem _ i)];have O:∀(x:Int) (k:Kd),k≠.ax x->cY x (k.inst v)->(∀A:Int->Kd,one.inst A=other.inst A->A x=k.inst A)->(∀n,k=.ax n->φ n=none)->C8 one other:=λx k N g o nk A H=>by
  have e:=o A H;obtain⟨G,_⟩:=U A H;have E:(k.inst v).inst A=k.inst A:=w.Bw G k;have hs:∀j:Kd,cY x j->j≠.ax x->(A x).size < (j.inst A).size:=λj D nj=>by
   cases j with
   |num=>exact D.elim
   |ax n=>cases D;exact absurd rfl nj
   |two f c d=>
    show _ < (Kd.two f (c.inst A) (d.inst A)).size;simp only[Kd.size];rcases D with D|D
    .have:=Kd.jd (v:=A) D;omega
    .have:=Kd.jd (v:=A) D;omega
  have al:k.inst v≠.ax x:=λz=>by
   cases k with
   |num=>cases z
   |two f c d=>cases z
   |ax n=>have:v n=.ax n:=w.rG n (nk n rfl);have z:v n=.ax x:=z;rw[this] at z;cases z;exact N rfl
  have:=hs _ g al;rw[E,<-e] at this;exact Nat.lt_irrefl _ this
 have Z:∀(x:Int) (k:Kd),(∀A:Int->Kd,one.inst A=other.inst A->A x=k.inst A)->∀A:Int->Kd,one.inst A=other.inst A->(∀n j,put φ x k n=some j->A n=j.inst A)/\∀q∈td,q.1.inst A=q.2.inst A:=λx k o A H=>by
  refine#[λn j e=>?_,(Y A H).2];unfold put at e;by_cases q:n=x
  .rw[if_pos q] at e;cases e;rw[q];exact o A H
  .rw[if_neg q] at e;exact(Y A H).1 n j e
 refine#[v,R,h.k,t.k,w,B,ht,nh,nt,by rw[<-ia];exact M.EA S P,by rw[<-ib];exact M.Ez S P,λx g N=>?_,λx g N=>?_,λe=>?_,λf x y z u g hz=>?_,λc A H=>c.no A (C A H)]
 .have o:∀A:Int->Kd,one.inst A=other.inst A->A x=t.k.inst A:=λA H=>by have:=C A H;rw[g] at this;exact this
  refine#[λJ=>O x t.k N J o nt,λno=>?_];obtain⟨ac,X,E⟩:=M.fill (a:=a) (b:=b) (x:=x) (t:=t) (l:=h) (nh x g) g no (λL s m=>(T.mono s).trans ((EQ.link m).trans (K.mono s).symm)) λv' Q E=>by rw[<-T.val Q,<-K.val Q,g];exact E
  exact c7.pass X S P E (Z x t.k o)
 .have o:∀A:Int->Kd,one.inst A=other.inst A->A x=h.k.inst A:=λA H=>by have:=C A H;rw[g] at this;exact this.symm
  refine#[λJ=>O x h.k N J o nh,λno=>?_];obtain⟨ac,X,E⟩:=M.fill (a:=a) (b:=b) (x:=x) (t:=h) (l:=t) (nt x g) g no (λL s m=>(K.mono s).trans ((EQ.link m).symm.trans (T.mono s).symm)) λv' Q E=>by rw[<-T.val Q,<-K.val Q,g];exact E.symm
  exact c7.pass X S P E (Z x h.k o)
 .have E:a.k.inst v=b.k.inst v:=by rw[ia,ib,e]
  refine c7.pass (M.grow (λq i=>List.mem_cons_of_mem _ i) λq i=>?_) S P E Y;rcases List.mem_cons.mp i with rfl|i
  .exact E
  .exact M.lv q i
 .obtain⟨l,r,kl,kr,S',P'⟩:=S.split P T K g hz;refine#[v,R,bo,Lk,M,λA H=>#[(Y A H).1,λq i=>?_],(h,t) :: fs,l,r,by rw[kl,kr],P',S'];have e:=C A H;rw[g,hz] at e;have e:Kd.two f _ _=Kd.two f _ _:=e;injection e with _ e1 e2;rcases List.mem_cons.mp i with rfl|i
  .exact e1
  .rcases List.mem_cons.mp i with rfl|i
   .exact e2
   .exact(Y A H).2 q i
theorem c7.done (I:c7 one other φ []):∃(v:Int->Kd) (R:Int->Nat),Wr φ v R/\one.inst v=other.inst v/\(one.inst v).aO ^ 3<=3 ^ (top2 one other).aO/\∀θ:Int->Kd,one.inst θ=other.inst θ->(∀n k,φ n=some k->θ n=k.inst θ)/\∀k:Kd,(k.inst v).inst θ=k.inst θ:=by
 obtain⟨v,R,B,Lk,M,U,P,l,r,t,E,m⟩:=I;have K:l.k=one:=by have:=l.e;rw[t] at this;have this:one.sub []=some l.k:=this;rw[Kd.eB] at this;injection this with this;exact this.symm
 have a:r.k=other:=by have:=r.e;rw[E] at this;have this:other.sub []=some r.k:=this;rw[Kd.eB] at this;injection this with this;exact this.symm
 have e:=M.lv _ m;have e:l.k.inst v=r.k.inst v:=e;rw[K,a] at e;refine#[v,R,M.wr,e,?_,λθ H=>#[(U θ H).1,λk=>M.wr.Bw (U θ H).1 k]];have:=M.Cu P (o:=l) (by rw[K];show _ < (Kd.two true (one.inst v) (other.inst v)).size;simp only[Kd.size];omega)
 rwa [K] at this
end
end Wk
namespace Wk
theorem Wr.uniq {φ:eR} {v a:Int->Kd} {rk A:Int->Nat} (h:Wr φ v rk) (h':Wr φ a A):v=a:=by
 funext n
 have e:=h.wide (θ:=a) (λn k e=>(h'.pJ n k e).1) n;rw[<-e];have:=Kd.eX (v:=a) (w:=Kd.ax) (k:=v n) λm c=>h'.rG m (h.free n m c);rw[this,Kd.jc]
theorem jH:∀(T:Kd) (p:List Bool) (k:Kd),T.sub p=some k->k∈T.parts
 |T,[],k,e=>by rw[Kd.eB] at e;cases e;cases T <;> simp[Kd.parts]
 | .num,_ :: _,k,e=>by cases e
 | .ax _,_ :: _,k,e=>by cases e
 | .two f a b,false :: p,k,e=>by simp only[Kd.parts,List.mem_cons,List.mem_append];exact .inr (.inl (jH a p k e))
 | .two f a b,true :: p,k,e=>by simp only[Kd.parts,List.mem_cons,List.mem_append];exact .inr (.inr (jH b p k e))
theorem bu.part {T:Kd} (o:bu T):o.k∈T.parts:=jH T o.p o.k o.e
theorem iL:∀T:Kd,T.wM.length=T.size
 | .num=>rfl
 | .ax _=>rfl
 | .two _ a b=>by simp[Kd.wM,Kd.size,iL a,iL b]
theorem je.todo {T:Kd} {Lk f:List (bu T×bu T)} {a b:bu T} {td:List (Kd×Kd)} (h:je Lk f a b td):td.length<=f.length/\∀q∈td,q.1∈T.parts/\q.2∈T.parts:=by
 induction h with
 |nil=>exact#[Nat.le_refl _,λq j=>by simp at j]
 |one _ _ _ m r _ _ I=>
  refine#[by simp only[List.length_cons];omega,λq j=>?_];rcases List.mem_cons.mp j with rfl|j
  .obtain⟨_,R,_,_,_,_,t⟩:=cW m;obtain⟨_,l,_,_,_,_,E⟩:=cW r;exact#[by show _∈_;rw[<-t];exact R.part,by show _∈_;rw[<-E];exact l.part]
  .exact I.2 q j
 |two _ _ _ _ _ _ _ _ _ _ I=>exact#[by simp only[List.length_cons];omega,I.2]
theorem je.rE {T:Kd} {v:Int->Kd} {Lk c:List (bu T×bu T)} {a b:bu T} {td:List (Kd×Kd)} (H:Az v Lk) (h:je Lk c a b td):td.length<=T.size:=by
 refine Nat.le_trans h.todo.1 ?_;obtain⟨_,s,_⟩:=h.eg H;have f:(c.map λq=>q.1.p).Nodup:=by refine List.pairwise_map.mpr (List.Pairwise.imp (λ{q Q} z e=>?_) s);have:q.1=Q.1:=bu.ext e;rw[this] at z;exact Nat.lt_irrefl _ z.1
 have:=List.Nodup.length_le_of_subset f (l₂:=T.wM) λp g=>by obtain⟨q,_,rfl⟩:=List.mem_map.mp g;exact Kd.k8 T _ _ q.1.e
 rw[iL] at this;simpa using this
def bz:Kd->List Int
 | .num=>[]
 | .ax n=>[n]
 | .two _ a b=>bz a++bz b
theorem cZ {n:Int}:∀{k:Kd},n∈bz k↔cY n k
 | .num=>by simp[bz,cY]
 | .ax m=>by simp[bz,cY];exact eq_comm
 | .two f a b=>by simp[bz,cY,cZ (k:=a),cZ (k:=b)]
theorem eF:∀{T k:Kd} {n:Int},k∈T.parts->cY n k->cY n T
 | .num,k,n,h,q=>by simp[Kd.parts] at h;subst h;exact q
 | .ax m,k,n,h,q=>by simp[Kd.parts] at h;subst h;exact q
 | .two f a b,k,n,h,q=>by
  simp only[Kd.parts,List.mem_cons,List.mem_append] at h;rcases h with rfl|h|h
  .exact q
  .exact .inl (eF h q)
  .exact .inr (eF h q)
def C9 (T:Kd) (φ:eR):Nat:=((bz T).filter λn=>(φ n).isNone).length
theorem uh {T:Kd} {φ:eR} {x:Int} {k:Kd} (a:cY x T) (e:φ x=none):C9 T (put φ x k) < C9 T φ:=by
 unfold C9;have h:x∈bz T:=cZ.mpr a;have y:∀l:List Int,((l.filter λn=>(put φ x k n).isNone).length<=(l.filter λn=>(φ n).isNone).length)/\(x∈l->(l.filter λn=>(put φ x k n).isNone).length < (l.filter λn=>(φ n).isNone).length):=by
  intro l;induction l with
  |nil=>exact#[Nat.le_refl _,λz=>by simp at z]
  |cons m l I=>
   by_cases q:m=x
   .subst q;have c:(put φ m k m).isNone=false:=by simp[put]
    have H:(φ m).isNone=true:=by rw[e];rfl
    simp only[List.filter_cons,c,H,Bool.false_eq_true,if_false,if_true,List.length_cons];exact#[by have:=I.1;omega,λ_=>by have:=I.1;omega]
   .have c:put φ x k m=φ m:=by simp[put,q]
    simp only[List.filter_cons,c];refine#[?_,λz=>?_]
    .split
     .simp only[List.length_cons];have:=I.1;omega
     .exact I.1
    .have:=I.2 ((List.mem_cons.mp z).resolve_left λz=>q z.symm);split
     .simp only[List.length_cons];omega
     .exact this
 exact(y _).2 h
section
variable {one other:Kd} {φ:eR} {td:List (Kd×Kd)}
theorem c7.sR (I:c7 one other φ td):(∀n k,φ n=some k->k∈(top2 one other).parts)/\(∀q∈td,q.1∈(top2 one other).parts/\q.2∈(top2 one other).parts)/\td.length<=(top2 one other).size+1:=by
 obtain⟨v,rk,B,Lk,M,U,r⟩:=I;refine#[λn k e=>?_,?_]
 .rw[M.C7] at e;cases E:B n with
  |none=>rw[E] at e;cases e
  |some o=>rw[E] at e;cases e;exact o.part
 .cases td with
  |nil=>exact#[λq j=>by simp at j,by simp]
  |cons p td=>
   obtain⟨f,a,b,rfl,P,S⟩:=r;refine#[λq j=>?_,by have:=S.rE M.lv;simp only[List.length_cons];omega];rcases List.mem_cons.mp j with rfl|j
   .exact#[a.part,b.part]
   .exact S.todo.2 q j
theorem eA.sR {k h:Kd} (H:eA φ k h) (a:k∈(top2 one other).parts) (b:∀n k,φ n=some k->k∈(top2 one other).parts):h∈(top2 one other).parts:=by
 induction H with
 |stop _=>exact a
 |go e _ I=>exact I (b _ _ e)
def Dn (one other:Kd):Nat->eR->List (Kd×Kd)->Prop
 |0,_,td=>td=[]
 |_+1,_,[]=>True
 |m+1,φ,(p,q) :: r=>∀h t,eA φ p h->eA φ q t->(c7 one other φ r->Dn one other m φ r)/\(∀x,h=.ax x->φ x=none->c7 one other (put φ x t) r->Dn one other m (put φ x t) r)/\(∀x,t=.ax x->φ x=none->c7 one other (put φ x h) r->Dn one other m (put φ x h) r)/\(∀f x y z w,h=.two f x y->t=.two f z w->c7 one other φ ((x,z) :: (y,w) :: r)->Dn one other m φ ((x,z) :: (y,w) :: r))
theorem Dn.mono {m:Nat}:∀{φ:eR} {td:List (Kd×Kd)},Dn one other m φ td->Dn one other (m+1) φ td:=by
 induction m with
 |zero=>intro φ td h;have h:td=[]:=h;subst h;trivial
 |succ m I=>
  intro φ td h;cases td with
  |nil=>trivial
  |cons p r=>obtain⟨p,q⟩:=p;intro a b g d;obtain⟨c,H,i,j⟩:=h a b g d;exact#[λz=>I (c z),λx e n z=>I (H x e n z),λx e n z=>I (i x e n z),λf x y z w t E s=>I (j f x y z w t E s)]
theorem Dn.le {m M:Nat} {φ:eR} {td:List (Kd×Kd)} (h:Dn one other m φ td) (l:m<=M):Dn one other M φ td:=by
 induction l with
 |refl=>exact h
 |step _ I=>exact I.mono
def fN (v:Int->Kd) (td:List (Kd×Kd)):Nat:=(td.map λq=>(q.1.inst v).size).sum
theorem c7.ends:∀(u s:Nat) (φ:eR) (td:List (Kd×Kd)),c7 one other φ td->C9 (top2 one other) φ<=u->(∀v rk,Wr φ v rk->fN v td<=s)->∃m,Dn one other m φ td:=by
 intro u;induction u using Nat.strongRecOn with
 |_ u Y=>
 intro s;induction s using Nat.strongRecOn with
 |_ s P=>
 intro φ td I d hs;cases td with
 |nil=>exact⟨0,rfl⟩
 |cons pq r=>
  obtain⟨p,q⟩:=pq;obtain⟨v,rk,h,t,w,a,l,nh,nt,_⟩:=I.step;have H:=I.sR;have hT:h∈(top2 one other).parts:=a.sR (H.2.1 _ List.mem_cons_self).1 H.1;have tT:t∈(top2 one other).parts:=l.sR (H.2.1 _ List.mem_cons_self).2 H.1;have am:=hs v rk w;have C:fN v ((p,q) :: r)=(p.inst v).size+fN v r:=by simp[fN]
  have al:=Kd.size_pos (p.inst v);have Q:∀(g:eR) (T:List (Kd×Kd)),c7 one other g T->∃S,∀v rk,Wr g v rk->fN v T<=S:=λg T B=>by obtain⟨D,A,_,_,X,_⟩:=B;exact#[fN D T,λac R N=>by rw[N.uniq X.wr];exact Nat.le_refl _]
  have G:∃m,c7 one other φ r->Dn one other m φ r:=by
   by_cases z:c7 one other φ r
   .obtain⟨m,c⟩:=P (s - 1) (by omega) φ r z d λD A J=>by rw[J.uniq w];omega
    exact#[m,λ_=>c]
   .exact⟨0,λZ=>absurd Z z⟩
  have b:∀k j:Kd,k∈(top2 one other).parts->∃m,∀x,k=.ax x->φ x=none->c7 one other (put φ x j) r->Dn one other m (put φ x j) r:=λk j hk=>by
   by_cases z:∃x,k=.ax x/\φ x=none/\c7 one other (put φ x j) r
   .obtain⟨x,rfl,nx,z⟩:=z;obtain⟨S,O⟩:=Q _ _ z;have hx:cY x (top2 one other):=eF hk rfl;have lt:=uh (k:=j) hx nx;obtain⟨m,c⟩:=Y (C9 (top2 one other) (put φ x j)) (by omega) S _ r z (Nat.le_refl _) O;exact#[m,λx' e _ _=>by cases e;exact c]
   .exact⟨0,λx e n Z=>absurd #[x,e,n,Z] z⟩
  have K:∃m,∀f x y z w,h=.two f x y->t=.two f z w->c7 one other φ ((x,z) :: (y,w) :: r)->Dn one other m φ ((x,z) :: (y,w) :: r):=by
   by_cases z:∃f x y z w,h=.two f x y/\t=.two f z w/\c7 one other φ ((x,z) :: (y,w) :: r)
   .obtain⟨f,x,y,z,J,rfl,rfl,B⟩:=z;have es:(p.inst v).size=(x.inst v).size+(y.inst v).size+1:=by rw[a.inst w];rfl
    have i:fN v ((x,z) :: (y,J) :: r)+1=fN v ((p,q) :: r):=by rw[C,es];simp[fN];omega
    obtain⟨m,c⟩:=P (s - 1) (by omega) φ _ B d λD A J=>by rw[J.uniq w];omega
    exact#[m,λf' x' y' Z N e o _=>by cases e;cases o;exact c]
   .exact⟨0,λf x y Z J i E S=>absurd #[f,x,y,Z,J,i,E,S] z⟩
  obtain⟨m1,G⟩:=G;obtain⟨m2,U⟩:=b h t hT;obtain⟨m3,g3⟩:=b t h tT;obtain⟨m4,K⟩:=K;refine#[m1+m2+m3+m4+1,λh' t' M L=>?_];cases M.det a;cases L.det l;exact#[λz=>(G z).le (by omega),λx e n z=>(U x e n z).le (by omega),λx e n z=>(g3 x e n z).le (by omega),λf x y z w i E s=>(K f x y z w i E s).le (by omega)]
theorem c7.DU (one other:Kd):∃m,Dn one other m (λ_=>none) [(one,other)]:=by have I:=c7.start one other;obtain⟨w,A,_,_,X,_⟩:=id I;exact c7.ends _ _ _ _ I (Nat.le_refl _) λv R N=>by rw[N.uniq X.wr];exact Nat.le_refl (fN w _)
end
section
variable {φ:eR} {v:Int->Kd} {rk:Int->Nat}
theorem Wr.jI (w:Wr φ v rk):∀k:Kd,(k.fill φ).inst v=k.inst v
 | .num=>rfl
 | .ax n=>by
  show ((φ n).getD (.ax n)).inst v=v n;cases e:φ n with
  |none=>rfl
  |some k=>exact(w.pJ n k e).1.symm
 | .two f a b=>by show Kd.two f _ _=Kd.two f _ _;rw[Wr.jI w a,Wr.jI w b]
theorem ij (v:Int->Kd):∀k:Kd,k.size<=(k.inst v).size
 | .num=>Nat.le_refl _
 | .ax n=>Kd.size_pos _
 | .two f a b=>by have:=ij v a;have:=ij v b;show _<=(Kd.two f (a.inst v) (b.inst v)).size;simp only[Kd.size];omega
theorem Wr.fix (w:Wr φ v rk):∀k:Kd,k.fill φ=k->k.inst v=k
 | .num,_=>rfl
 | .ax n,h=>by
  have h:(φ n).getD (.ax n)=.ax n:=h;cases e:φ n with
  |none=>exact w.rG n e
  |some k=>rw[e] at h;have h:k=.ax n:=h;have:=(w.pJ n k e).2 n (by rw[h];rfl);exact absurd this (Nat.lt_irrefl _)
 | .two f a b,h=>by have h:Kd.two f (a.fill φ) (b.fill φ)=Kd.two f a b:=h;injection h with _ c H;show Kd.two f _ _=_;rw[Wr.fix w a c,Wr.fix w b H]
def j9 (φ:eR) (rk:Int->Nat):Kd->Nat
 | .num=>0
 | .ax n=>match φ n with
  |none=>0
  |some _=>rk n+1
 | .two _ a b=>max (j9 φ rk a) (j9 φ rk b)
theorem sS {φ:eR} {rk:Int->Nat} {N:Nat}:∀{k:Kd},(∀m,cY m k->rk m < N)->j9 φ rk k<=N
 | .num,_=>Nat.zero_le _
 | .ax n,h=>by have:=h n rfl;unfold j9;split <;> omega
 | .two f a b,h=>by have c:=sS (φ:=φ) (k:=a) λm q=>h m (.inl q);have H:=sS (φ:=φ) (k:=b) λm q=>h m (.inr q);unfold j9;omega
theorem Wr.sU (w:Wr φ v rk):∀k:Kd,j9 φ rk (k.fill φ)<=j9 φ rk k - 1
 | .num=>Nat.zero_le _
 | .ax n=>by
  show j9 φ rk ((φ n).getD (.ax n))<=j9 φ rk (.ax n) - 1;cases e:φ n with
  |none=>show j9 φ rk (.ax n)<=_;simp[j9,e]
  |some k=>
   have:j9 φ rk (.ax n)=rk n+1:=by simp[j9,e]
   rw[this];exact sS λm h=>(w.pJ n k e).2 m h
 | .two f a b=>by have c:=Wr.sU w a;have H:=Wr.sU w b;show max (j9 φ rk (a.fill φ)) (j9 φ rk (b.fill φ))<=max (j9 φ rk a) (j9 φ rk b) - 1;omega
theorem mw:∀k:Kd,j9 φ rk k=0->k.fill φ=k
 | .num,_=>rfl
 | .ax n,h=>by
  show (φ n).getD (.ax n)=_;cases e:φ n with
  |none=>rfl
  |some k=>simp[j9,e] at h
 | .two f a b,h=>by have h:max (j9 φ rk a) (j9 φ rk b)=0:=h;show Kd.two f _ _=_;rw[mw a (by omega),mw b (by omega)]
end
end Wk
namespace Wk
section
variable {t:List Fm}
def DV (t:List Fm) (θ:Int->Kd) (a b:Nat):Prop:=a=b\/∃x y,Den t a x/\Den t b y/\x.inst θ=y.inst θ
theorem ui (θ:Int->Kd):Eqv (DV t θ):=by
 refine#[λi=>.inl rfl,λ{i j} h=>?_,λ{i j k} h n=>?_]
 .rcases h with h|⟨x,y,D,a,e⟩
  .exact .inl h.symm
  .exact .inr #[y,x,a,D,e.symm]
 .rcases h with rfl|⟨x,y,D,a,e⟩
  .exact n
  .rcases n with rfl|⟨X,Y,d,b,E⟩
   .exact .inr #[x,y,D,a,e]
   .cases a.fn d;exact .inr #[x,Y,D,b,e.trans E]
theorem Den.ik {i a b:Nat} {f:Bool} {x:Kd} (d:Den t i x) (e:t[i]?=some (.two f a b)):∃y z,x=.two f y z/\Den t a y/\Den t b z:=by
 cases d with
 |num E=>rw[e] at E;cases E
 |ax E=>rw[e] at E;cases E
 |two E D c=>rw[e] at E;cases E;exact#[_,_,rfl,D,c]
theorem qQ (θ:Int->Kd):uU t (DV t θ):=λi j f a b g c d k E h=>by
 rcases h with rfl|⟨x,y,D,l,e⟩
 .rw[k] at E;cases E;exact#[.inl rfl,.inl rfl]
 .obtain⟨X,U,rfl,p,w⟩:=D.ik k;obtain⟨Y,m,rfl,q,Q⟩:=l.ik E;have e:Kd.two f _ _=Kd.two g _ _:=e;injection e with _ S s;exact#[.inr #[X,Y,p,q,S],.inr #[U,m,w,Q,s]]
section
variable {θ:Int->Kd} {i j:Nat} {one other:Kd} {R:Nat->Nat}
theorem qR (D:Den t i one) (a:Den t j other) (e:one.inst θ=other.inst θ):∀p∈[(i,j)],DV t θ p.1 p.2:=λp g=>by simp at g;subst g;exact .inr ⟨_,_,D,a,e⟩
theorem qC.no (h:qC t [(i,j)]) (D:Den t i one) (l:Den t j other) (e:one.inst θ=other.inst θ):False:=by
 obtain⟨a,b,f,g,k,E,c,A⟩:=h;have:=A (DV t θ) (ui θ) (qQ θ) (qR D l e);rcases this with rfl|⟨x,y,p,q,s⟩
 .rw[k] at E;cases E;cases f with
  |num=>exact c
  |ax o=>exact c
  |two f a b=>exact c rfl
 .cases f with
  |num=>
   cases p.fn (.num k);cases g with
   |num=>exact c
   |ax o=>exact c
   |two g G d=>obtain⟨_,_,rfl,_⟩:=q.ik E;cases s
  |ax o=>exact c
  |two f m B=>
   obtain⟨X,U,rfl,_⟩:=p.ik k;cases g with
   |num=>cases q.fn (.num E);cases s
   |ax o=>exact c
   |two g G d=>obtain⟨_,_,rfl,_⟩:=q.ik E;have s:Kd.two f _ _=Kd.two g _ _:=s;injection s with s;exact c s
theorem ni.Dc (h:ni t [(i,j)] R) (D:Den t i one) (b:Den t j other) (e:one.inst θ=other.inst θ) {a:Nat} {x:Kd} (d:Den t a x):∃y,Den t (R a) y/\x.inst θ=y.inst θ:=by
 rcases h.least (DV t θ) (ui θ) (qQ θ) (qR D b e) a d.lt with q|⟨X,y,p,q,s⟩
 .exact#[x,by rw[<-q];exact d,rfl]
 .cases d.fn p;exact#[y,q,s]
open Classical in
theorem ni.yL (h:ni t [(i,j)] R) (A:dB t) (D:Den t i one) (g:Den t j other) (e:one.inst θ=other.inst θ):∃l:Nat->Nat,∀(c:Nat) (f:Bool) (a b:Nat),t[c]?=some (.two f a b)->l (R a) < l c/\l (R b) < l c:=by
 refine#[λc=>if z:∃x,Den t c x then(z.choose.inst θ).size else 0,λc f a b L=>?_];have K:∀{c:Nat} {x:Kd},Den t c x->(if z:∃x,Den t c x then(z.choose.inst θ).size else 0)=(x.inst θ).size:=λ{c x} d=>by have z:∃x,Den t c x:=#[x,d];rw[dif_pos z,d.fn z.choose_spec]
 obtain⟨x,O⟩:=A c (List.getElem?_eq_some_iff.mp L).1;obtain⟨y,z,rfl,k,m⟩:=O.ik L;obtain⟨Y,o,n⟩:=h.Dc D g e k;obtain⟨Z,p,E⟩:=h.Dc D g e m;show (if z:∃x,Den t (R a) x then(z.choose.inst θ).size else 0) < (if z:∃x,Den t c x then(z.choose.inst θ).size else 0)/\(if z:∃x,Den t (R b) x then(z.choose.inst θ).size else 0) < (if z:∃x,Den t c x then(z.choose.inst θ).size else 0);rw[K O,K o,K p,<-n,<-E];show _ < (Kd.two f (y.inst θ) (z.inst θ)).size/\_ < (Kd.two f (y.inst θ) (z.inst θ)).size;simp only[Kd.size];omega
theorem vq {l:Nat->Nat} (h:∀(c:Nat) (f:Bool) (a b:Nat),t[c]?=some (.two f a b)->l (R a) < l c/\l (R b) < l c) (L:List Nat) (b:Nat):gV t R L b l:=λc _ d H _=>by
 unfold aw at H;split at H
 .rename_i f x y e;have:=h c f x y e;simp at H;rcases H with rfl|rfl
  .exact this.1
  .exact this.2
 .simp at H
open Classical in
noncomputable def pK (t:List Fm) (R:Nat->Nat) (kd:Nat->Kd):Int->Kd:=λn=>if z:∃c:Nat,t[c]?=some (.ax (some n)) then kd (R z.choose) else .ax n
theorem pz (u:uT t) {kd:Nat->Kd} {n:Int} {c:Nat} (e:t[c]?=some (.ax (some n))):pK t R kd n=kd (R c):=by have z:∃c:Nat,t[c]?=some (.ax (some n)):=#[c,e];unfold pK;rw[dif_pos z,u _ _ _ z.choose_spec e]
theorem ni.pK (h:ni t [(i,j)] R) (u:uT t) {ix:Nat->Nat} {kd:Nat->Kd} (H:yy t R ix kd) {c:Nat} {k:Kd} (d:Den t c k):kd (R c)=k.inst (pK t R kd):=by
 induction d with
 |@num c e=>have g:=(List.getElem?_eq_some_iff.mp e).1;have E:=(h.qB c g).2 e;rw[H (R c) (h.rf.lt c g),E];rfl
 |@ax c n e=>exact(pz u e).symm
 |@two c f a b x y e _ _ l I=>have g:=(List.getElem?_eq_some_iff.mp e).1;obtain⟨A,B,E,S,s⟩:=(h.qB c g).1 f a b e;have S:R a=R A:=S;have s:R b=R B:=s;rw[H (R c) (h.rf.lt c g),E];show Kd.two f (kd (R A)) (kd (R B))=Kd.two f _ _;rw[<-S,<-s,l,I]
theorem ni.pA (h:ni t [(i,j)] R) (u:uT t) {ix:Nat->Nat} {kd:Nat->Kd} (a:yy t R ix kd) (D:Den t i one) (d:Den t j other):one.inst (Wk.pK t R kd)=other.inst (Wk.pK t R kd):=by rw[<-h.pK u a D,<-h.pK u a d];have:=h.all (i,j) (by simp);rw[show R i=R j from this]
end
end
end Wk
namespace Wk
section
variable {t:List Fm}
theorem Den.blank {c:Nat} {k:Kd} (d:Den t c k) {m:Int} (h:cY m k):∃G:Nat,t[G]?=some (.ax (some m)):=by
 induction d with
 |num e=>exact h.elim
 |ax e=>cases h;exact#[_,e]
 |two e _ _ a I=>
  rcases h with h|h
  .exact a h
  .exact I h
def nr:List Int->List Int->List Int
 |acc,[]=>acc
 |acc,x :: l=>if x∈acc then nr acc l else nr (acc++[x]) l
theorem pB:∀(a l m:List Int),nr a (l++m)=nr (nr a l) m
 |a,[],m=>rfl
 |a,x :: l,m=>by
  show (if x∈a then nr a (l++m) else nr (a++[x]) (l++m))=nr (if x∈a then nr a l else nr (a++[x]) l) m;split
  .exact pB a l m
  .exact pB (a++[x]) l m
theorem jf:∀(k:Kd) (os:List Int),k.parts.foldl seen os=nr os (bz k)
 | .num,os=>rfl
 | .ax n,os=>by show seen os (.ax n)=nr os [n];simp only[seen,nr]
 | .two f a b,os=>by show (a.parts++b.parts).foldl seen os=nr os (bz a++bz b);rw[List.foldl_append,jf a os,jf b,pB]
theorem k9:∀(l a:List Int) (x:Int),x∈nr a l↔x∈a\/x∈l
 |[],a,x=>by simp[nr]
 |y :: l,a,x=>by
  show x∈(if y∈a then nr a l else nr (a++[y]) l)↔_;split
  .rename_i h;rw[k9 l a x,List.mem_cons];constructor
   .rintro (q|q)
    .exact .inl q
    .exact .inr (.inr q)
   .rintro (q|rfl|q)
    .exact .inl q
    .exact .inl h
    .exact .inr q
  .rw[k9 l _ x,List.mem_append,List.mem_singleton,List.mem_cons];constructor
   .rintro ((q|q)|q)
    .exact .inl q
    .exact .inr (.inl q)
    .exact .inr (.inr q)
   .rintro (q|q|q)
    .exact .inl (.inl q)
    .exact .inl (.inr q)
    .exact .inr q
theorem sV {g:Int->Nat}:∀(l A:List Int),(∀x∈A++l,∀y∈A++l,g x=g y->x=y)->fr (A.map g) (l.map g)=(nr A l).map g
 |[],A,_=>rfl
 |x :: l,A,inj=>by
  show (if g x∈A.map g then fr (A.map g) (l.map g) else fr (A.map g++[g x]) (l.map g))=(if x∈A then nr A l else nr (A++[x]) l).map g;have c:g x∈A.map g↔x∈A:=by
   constructor
   .intro h;obtain⟨y,E,e⟩:=List.mem_map.mp h;rw[<-inj y (List.mem_append_left _ E) x (by simp) e];exact E
   .exactλh=>List.mem_map.mpr #[x,h,rfl]
  by_cases h:x∈A
  .rw[if_pos (c.mpr h),if_pos h];exact sV l A λa H b d=>inj a (by simp at H ⊢;rcases H with H|H;exact .inl H;exact .inr (.inr H)) b (by simp at d ⊢;rcases d with d|d;exact .inl d;exact .inr (.inr d))
  .rw[if_neg (λz=>h (c.mp z)),if_neg h];have:=sV l (A++[x]) λa H b d=>inj a (by simpa [List.append_assoc] using H) b (by simpa [List.append_assoc] using d);rw[List.map_append] at this;exact this
theorem idx_map {g:Int->Nat}:∀(l:List Int) (x:Int),x∈l->(∀y∈l,g y=g x->y=x)->(l.map g).idxOf (g x)=l.idxOf x
 |[],x,h,_=>by simp at h
 |a :: l,x,h,inj=>by
  rw[List.map_cons,List.idxOf_cons,List.idxOf_cons];by_cases e:a=x
  .subst e;simp
  .have c:(g a==g x)=false:=by simpa using λz=>e (inj a (by simp) z)
   have H:(a==x)=false:=by simpa using e
   rw[c,H];have:=idx_map l x ((List.mem_cons.mp h).resolve_left λz=>e z.symm) λy E=>inj y (List.mem_cons_of_mem _ E);simp only[cond_false];rw[this]
def jJ (t:List Fm) (R:Nat->Nat):Nat->Nat->List Nat
 |0,_=>[]
 |n+1,c=>if eO t c then[c] else(aw t R c).flatMap (jJ t R n)
section
variable {i j:Nat} {one other:Kd} {R:Nat->Nat} {φ:eR} {v:Int->Kd} {rk:Int->Nat}
theorem ni.told (h:ni t [(i,j)] R) (u:uT t) (al:dB t) (D:Den t i one) (J:Den t j other) (w:Wr φ v rk) (p:one.inst v=other.inst v) (mg:∀θ:Int->Kd,one.inst θ=other.inst θ->∀k:Kd,(k.inst v).inst θ=k.inst θ) (sR:∀n m,cY n one->cY m (v n)->∃c:Nat,t[c]?=some (.ax (some m))) {kd:Nat->Kd} (hk:∀U,Ck t R U->yy t R (λc=>(fr [] (U (R i))).idxOf c) kd):kd (R i)=gP (one.inst v):=by
 classical
 obtain⟨A,P⟩:=h.yL al D J p;obtain⟨Z,T⟩:=nN (ix:=λc=>c) P;have ap:=h.pA u T D J;let g:Int->Nat:=λm=>if z:∃c:Nat,t[c]?=some (.ax (some m)) then R z.choose else 0
 have X:∀{m:Int} {c:Nat},t[c]?=some (.ax (some m))->g m=R c:=λ{m c} e=>by have z:∃c:Nat,t[c]?=some (.ax (some m)):=#[c,e];show (if z:∃c:Nat,t[c]?=some (.ax (some m)) then R z.choose else 0)=_;rw[dif_pos z,u _ _ _ z.choose_spec e]
 have S:∀(n m c:Nat),A c < n->A c < m->jJ t R n c=jJ t R m c:=by
  intro n;induction n with
  |zero=>intro m c l;exact absurd l (Nat.not_lt_zero _)
  |succ n I=>
   intro m c l H;cases m with
   |zero=>exact absurd H (Nat.not_lt_zero _)
   |succ m=>
    show (if eO t c then[c] else(aw t R c).flatMap (jJ t R n))=(if eO t c then[c] else(aw t R c).flatMap (jJ t R m));cases e:t[c]? with
    |none=>simp[eO,aw,e]
    |some C=>
     cases C with
     |num=>simp[eO,aw,e]
     |ax o=>simp[eO,e]
     |two f a b=>have:=P c f a b e;simp only[eO,aw,e,Bool.false_eq_true,if_false,List.flatMap_cons,List.flatMap_nil,List.append_nil];rw[I m (R a) (by omega) (by omega),I m (R b) (by omega) (by omega)]
 let U:Nat->List Nat:=λc=>jJ t R (A c+1) c;have hU:Ck t R U:=λc=>by
  show (if eO t c then[c] else(aw t R c).flatMap (jJ t R (A c)))=_;cases e:t[c]? with
  |none=>simp[eO,aw,e]
  |some C=>
   cases C with
   |num=>simp[eO,aw,e]
   |ax o=>simp[eO,e]
   |two f a b=>have:=P c f a b e;simp only[eO,aw,e,Bool.false_eq_true,if_false,List.flatMap_cons,List.flatMap_nil,List.append_nil];rw[S (A c) (A (R a)+1) (R a) (by omega) (by omega),S (A c) (A (R b)+1) (R b) (by omega) (by omega)]
 have aA:∀(s c:Nat) (k:Kd),(k.inst v).size<=s->Den t c k->(∀n m,cY n k->cY m (v n)->∃c:Nat,t[c]?=some (.ax (some m)))->U (R c)=(bz (k.inst v)).map g:=by
  intro s;induction s with
  |zero=>intro c k hs;have:=Kd.size_pos (k.inst v);omega
  |succ s I=>
   intro c k hs d hT;obtain⟨y,dy,K⟩:=h.Dc D J p d;rw[hU (R c)];cases dy with
   |num e=>rw[K];simp[eO,aw,e,Kd.inst,bz]
   |@ax _ n e=>
    have hr:R (R c)=R c:=h.rf.idem c d.lt;have e1:Wk.pK t R Z n=.ax ((R c:Nat):Int):=by rw[pz u e,hr,T (R c) (h.rf.lt c d.lt),e]
    have E:(v n).inst (Wk.pK t R Z)=Wk.pK t R Z n:=mg _ ap (.ax n);have K:k.inst v=v n:=K;rw[e1] at E;cases B:v n with
    |num=>rw[B] at E;cases E
    |two f a b=>rw[B] at E;cases E
    |ax m=>
     rw[B] at E;have E:Wk.pK t R Z m=.ax ((R c:Nat):Int):=E;have H:cY m (k.inst v):=by rw[K,B];rfl
     obtain⟨n',Q,N⟩:=Kd.c9.mp H;obtain⟨G,M⟩:=hT n' m Q N;have am:=(List.getElem?_eq_some_iff.mp M).1;rw[pz u M,T (R G) (h.rf.lt G am)] at E;have:R G=R c:=by
      cases q:t[R G]? with
      |none=>rw[q] at E;cases E
      |some C=>
       rw[q] at E;cases C with
       |num=>cases E
       |two f a b=>cases E
       |ax o=>injection E with E;exact Int.ofNat_inj.mp E
     rw[K,B];simp[eO,e,bz,X M,this]
   |@two _ f a b x z e dx dz=>
    have K:k.inst v=.two f (x.inst v) (z.inst v):=K;rw[K] at hs;simp only[Kd.size] at hs;have sub:∀q:Kd,(∀m,cY m (q.inst v)->cY m (k.inst v))->∀n m,cY n q->cY m (v n)->∃c:Nat,t[c]?=some (.ax (some m)):=λq hq n m l H=>by obtain⟨n',Q,N⟩:=Kd.c9.mp (hq m (Kd.c9.mpr #[n,l,H]));exact hT n' m Q N
    simp only[eO,aw,e,Bool.false_eq_true,if_false,List.flatMap_cons,List.flatMap_nil,List.append_nil];rw[I a x (by omega) dx (sub x λm H=>by rw[K];exact .inl H),I b z (by omega) dz (sub z λm H=>by rw[K];exact .inr H),K];simp[bz]
 have an:=aA _ i one (Nat.le_refl _) D sR;have O:=hk U hU;have un:=h.pA u O D J;have e0:kd (R i)=(one.inst v).inst (Wk.pK t R kd):=by rw[mg _ un one];exact h.pK u O D
 have Y:∀m,cY m (one.inst v)->v m=.ax m/\∃c:Nat,t[c]?=some (.ax (some m))/\∃o,t[R c]?=some (.ax o):=λm H=>by
  obtain⟨n,l,N⟩:=Kd.c9.mp H;have vm:v m=.ax m:=w.rG m (w.free n m N);obtain⟨c,L⟩:=sR n m l N;refine#[vm,c,L,?_];obtain⟨y,dy,K⟩:=h.Dc D J p (Den.ax L);have K:v m=y.inst v:=K;rw[vm] at K;cases dy with
  |num e=>cases K
  |ax e=>exact#[_,e]
  |two e _ _=>cases K
 have ac:∀x∈bz (one.inst v),∀y∈bz (one.inst v),g x=g y->x=y:=λx hx y r e=>by obtain⟨vx,c,L,_⟩:=Y x (cZ.mp hx);obtain⟨vy,G,M,_⟩:=Y y (cZ.mp r);rw[X L,X M] at e;obtain⟨k1,q1,s1⟩:=h.Dc D J p (Den.ax L);obtain⟨k2,q2,s2⟩:=h.Dc D J p (Den.ax M);rw[e] at q1;cases q1.fn q2;have s:v x=v y:=s1.trans s2.symm;rw[vx,vy] at s;cases s;rfl
 have aF:fr [] (U (R i))=(dN (one.inst v).parts).map g:=by rw[an];have:=sV (g:=g) (bz (one.inst v)) [] (by simpa using ac);rw[List.map_nil] at this;rw[this];unfold dN;rw[jf]
 rw[e0];unfold gP;have as:∀k:Kd,(∀m,cY m k->cY m (one.inst v))->k.inst (Wk.pK t R kd)=k.fill (rank (dN (one.inst v).parts)):=by
  intro k;induction k with
  |num=>intro _;rfl
  |two f a b i1 i2=>intro hh;show Kd.two f _ _=Kd.two f _ _;rw[i1 λm H=>hh m (.inl H),i2 λm H=>hh m (.inr H)]
  |ax m=>
   intro hh;have H:=hh m rfl;obtain⟨vm,c,L,o,eo⟩:=Y m H;have mo:m∈dN (one.inst v).parts:=by unfold dN;rw[jf];exact(k9 _ _ _).mpr (.inr (cZ.mpr H))
   show Wk.pK t R kd m=(rank (dN (one.inst v).parts) m).getD (.ax m);have lc:=(List.getElem?_eq_some_iff.mp L).1;rw[pz u L,O (R c) (h.rf.lt c lc),eo];unfold rank;rw[if_pos mo];show Kd.ax (((fr [] (U (R i))).idxOf (R c):Nat):Int)=Kd.ax _;rw[aF,<-X L,idx_map _ m mo λy r e=>?_];have aC:y∈bz (one.inst v):=by unfold dN at r;rw[jf] at r;simpa using (k9 _ _ _).mp r
   exact ac y aC m (cZ.mpr H) e
 exact as _ λ_ z=>z
end
end
end Wk
namespace Wk
theorem filter_lt {p q:Int->Bool}:∀{l:List Int} {x:Int},(∀y,p y=true->q y=true)->x∈l->q x=true->p x=false->(l.filter p).length < (l.filter q).length:=by
 have v:∀{p q:Int->Bool} (l:List Int),(∀y,p y=true->q y=true)->(l.filter p).length<=(l.filter q).length:=by
  intro p q l h;induction l with
  |nil=>exact Nat.le_refl _
  |cons a l I=>
   rw[List.filter_cons,List.filter_cons];cases g:p a with
   |true=>rw[if_pos rfl,if_pos (h a g)];simp only[List.length_cons];omega
   |false=>
    rw[if_neg (by simp)];split
    .simp only[List.length_cons];omega
    .exact I
 intro l x h;induction l with
 |nil=>intro H;simp at H
 |cons a l I=>
  intro H j g;rw[List.filter_cons,List.filter_cons];by_cases e:a=x
  .subst e;rw[if_neg (by simp[g]),if_pos j];have:=v l h;simp only[List.length_cons];omega
  .have:=I ((List.mem_cons.mp H).resolve_left λz=>e z.symm) j g;cases b:p a with
   |true=>rw[if_pos rfl,if_pos (h a b)];simp only[List.length_cons];omega
   |false=>
    rw[if_neg (by simp)];split
    .simp only[List.length_cons];omega
    .exact this
section
variable {φ:eR} {v:Int->Kd} {d:Int->Nat} {T:Kd}
theorem Wr.small (w:Wr φ v d) (A:∀n k,φ n=some k->k∈T.parts):∃R,Wr φ v R/\∀n,R n<=(bz T).length:=by refine#[λn=>((bz T).filter λm=>decide (d m < d n)).length,#[w.rG,λn k e=>#[(w.pJ n k e).1,λm c=>?_]],λn=>List.length_filter_le _ _];have r:=(w.pJ n k e).2 m c;exact filter_lt (λy E=>by simp only[decide_eq_true_eq] at*;omega) (cZ.mpr (eF (A n k e) c)) (by simpa using r) (by simp)
theorem dD:∀{T k:Kd},k∈T.parts->k.deep<=T.deep
 | .num,k,h=>by simp[Kd.parts] at h;subst h;exact Nat.le_refl _
 | .ax m,k,h=>by simp[Kd.parts] at h;subst h;exact Nat.le_refl _
 | .two f a b,k,h=>by
  simp only[Kd.parts,List.mem_cons,List.mem_append] at h;rcases h with rfl|h|h
  .exact Nat.le_refl _
  .have:=dD h;simp only[Kd.deep];omega
  .have:=dD h;simp only[Kd.deep];omega
theorem fq {N:Nat}:∀{k:Kd},(∀m,cY m k->(v m).deep<=N)->(k.inst v).deep<=k.deep+N
 | .num,_=>by show 1<=1+N;omega
 | .ax n,h=>by have:=h n rfl;show (v n).deep<=1+N;omega
 | .two f a b,h=>by have c:=fq (k:=a) λm q=>h m (.inl q);have H:=fq (k:=b) λm q=>h m (.inr q);show (Kd.two f (a.inst v) (b.inst v)).deep<=_;simp only[Kd.deep];omega
theorem Wr.deep (w:Wr φ v d) (A:∀n k,φ n=some k->k∈T.parts):∀n,(v n).deep<=((bz T).length+1)*T.deep+1:=by
 obtain⟨R,J,a⟩:=w.small A;have y:∀(r:Nat) (n:Int),R n<=r->(v n).deep<=(r+1)*T.deep+1:=by
  intro r;induction r with
  |zero=>
   intro n f;cases e:φ n with
   |none=>rw[J.rG n e];show 1<=_;omega
   |some k=>
    obtain⟨t,E⟩:=J.pJ n k e;have:=fq (v:=v) (N:=0) (k:=k) λm h=>by have:=E m h;omega
    have:=dD (A n k e);rw[t];omega
  |succ r I=>
   intro n f;cases e:φ n with
   |none=>rw[J.rG n e];show 1<=_;omega
   |some k=>obtain⟨t,E⟩:=J.pJ n k e;have c:=fq (v:=v) (N:=(r+1)*T.deep+1) (k:=k) λm h=>I m (by have:=E m h;omega);have H:=dD (A n k e);rw[t,Nat.add_mul (r+1) 1 T.deep];omega
 exactλn=>y _ n (a n)
theorem Wr.sR (w:Wr φ v d) (A:∀n k,φ n=some k->k∈T.parts):∀n m,cY n T->cY m (v n)->cY m T:=by
 have K:∀(r:Nat) (n m:Int),d n < r->cY n T->cY m (v n)->cY m T:=by
  intro r;induction r with
  |zero=>intro n m f;exact absurd f (Nat.not_lt_zero _)
  |succ r I=>
   intro n m f c H;cases e:φ n with
   |none=>rw[w.rG n e] at H;cases H;exact c
   |some k=>obtain⟨t,E⟩:=w.pJ n k e;rw[t] at H;obtain⟨N,x,y⟩:=Kd.c9.mp H;exact I N m (by have:=E N x;omega) (eF (A n k e) x) y
 exactλn m=>K _ n m (Nat.lt_succ_self _)
end
theorem eZ:∀k:Kd,(bz k).length<=k.aO
 | .num=>Nat.zero_le _
 | .ax _=>Nat.le_refl _
 | .two f a b=>by have:=eZ a;have:=eZ b;simp only[bz,Kd.aO,List.length_append];omega
theorem gz:∀k:Kd,1<=k.aO
 | .num=>Nat.le_refl _
 | .ax _=>Nat.le_refl _
 | .two f a b=>by have:=gz a;simp only[Kd.aO];omega
theorem e9:∀k:Kd,k.deep<=k.aO
 | .num=>Nat.le_refl _
 | .ax _=>Nat.le_refl _
 | .two f a b=>by have:=e9 a;have:=e9 b;have:=gz a;have:=gz b;simp only[Kd.deep,Kd.aO];omega
theorem jg {k:Kd} {N:Nat} (h:k.aO ^ 3<=3 ^ N) (a:N<=42):k.size<=9565937:=by
 have c:k.aO ^ 3<=4782969 ^ 3:=Nat.le_trans h (Nat.le_trans (Nat.pow_le_pow_right (by decide) a) (by decide));have H:k.aO<=4782969:=Classical.byContradiction λz=>by have:4782969 ^ 3 < k.aO ^ 3:=Nat.pow_lt_pow_left (by omega) (by decide);omega
 have:=k.cR;omega
end Wk
namespace Wk
theorem Cv {t:List Fm} {R l:Nat->Nat} (P:∀(c:Nat) (f:Bool) (a b:Nat),t[c]?=some (.two f a b)->l (R a) < l c/\l (R b) < l c):∃U,Ck t R U:=by
 have S:∀(n m c:Nat),l c < n->l c < m->jJ t R n c=jJ t R m c:=by
  intro n;induction n with
  |zero=>intro m c H;exact absurd H (Nat.not_lt_zero _)
  |succ n I=>
   intro m c H h;cases m with
   |zero=>exact absurd h (Nat.not_lt_zero _)
   |succ m=>
    show (if eO t c then[c] else(aw t R c).flatMap (jJ t R n))=(if eO t c then[c] else(aw t R c).flatMap (jJ t R m));cases e:t[c]? with
    |none=>simp[eO,aw,e]
    |some d=>
     cases d with
     |num=>simp[eO,aw,e]
     |ax o=>simp[eO,e]
     |two f a b=>have:=P c f a b e;simp only[eO,aw,e,Bool.false_eq_true,if_false,List.flatMap_cons,List.flatMap_nil,List.append_nil];rw[I m (R a) (by omega) (by omega),I m (R b) (by omega) (by omega)]
 refine#[λc=>jJ t R (l c+1) c,λc=>?_];show (if eO t c then[c] else(aw t R c).flatMap (jJ t R (l c)))=_;cases e:t[c]? with
 |none=>simp[eO,aw,e]
 |some d=>
  cases d with
  |num=>simp[eO,aw,e]
  |ax o=>simp[eO,e]
  |two f a b=>have:=P c f a b e;simp only[eO,aw,e,Bool.false_eq_true,if_false,List.flatMap_cons,List.flatMap_nil,List.append_nil];rw[S (l c) (l (R a)+1) (R a) (by omega) (by omega),S (l c) (l (R b)+1) (R b) (by omega) (by omega)]
end Wk
namespace K1
open PySem L2 Wk
section
variable {P:Program} {w:World} {K:W.Frag} {mg:Str->Option Value} {base:Heap} {f aI aL aA aT pt:Addr} {fd dI dL dA dT:FuncData} {C:Addr} {tk:Tok}
theorem yM {S:Addr->Prop} {H d:Hp} {p:Addr} {D:Pos} {q:Str} {P:Array Value} (h:cV H p D q P) (k:Kx S H d) (j:∀b,S b->(∀P,H b≠some (.ke P))/\∀φ,H b≠some (.ext φ)):cV d p D q P:=#[k _ _ h.at_ λz=>(j _ z).1 _ h.at_,h.ok,h.known.imp id λ⟨c,a,b⟩=>#[c,a,k _ _ b λz=>(j _ z).2 _ b]]
def Kp (p:Addr) (H h:Hp):Prop:=∀b o,H b=some o->b≠p->h b=some o
inductive pC (pt:Addr) (vs:List V) (H:Hp) (Q:VK) (zz3:XK):Prop
 |mk (v1:_) (v2:_) (k1:_) (k2:_) (ps:_) (h1_:vs=[v1,v2]) (h2_:cP H v1 k1) (h3_:cP H v2 k2) (h4_:k1.size<=1000) (h5_:k2.size<=1000) (h6_:cV H pt gG.pos cQ ps) (h7_:(∀H',Kp pt H H'->(∃ps',cV H' pt gG.pos cQ ps')->C8 k1 k2->Q .dE H')) (h8_:(∀y k H',Kp pt H H'->(∃ps',cV H' pt gG.pos cQ ps')->cP H' y k->(∃θ:Int->Kd,k1.inst θ=k2.inst θ/\k1.inst θ=k)->(∀(φ:eR) (v:Int->Kd) (rk:Int->Nat),Wr φ v rk->k1.inst v=k2.inst v->(∀θ:Int->Kd,k1.inst θ=k2.inst θ->∀k:Kd,(k.inst v).inst θ=k.inst θ)->(∀n m,cY n k1->cY m (v n)->cY m k1\/cY m k2)->k=gP (k1.inst v))->Q y H')):pC pt vs H Q zz3
abbrev E1:List Str:=["one","other","table","known","left","right"]
theorem yN:a9 E1 ["one","other"] (ao iB):=#[rfl,rfl,rfl,by decide +kernel,rfl,by decide +kernel,by decide +kernel]
def AA (K:W.Frag) (C:PySem.Addr):TS:=aN (cI (mT (iS K (eC C (PySem.Str.ofString "linked_anew") (K1.pj C) [] E0 (af (2:Nat)) (ai (cK (ai (dZ (ai (af (4:Nat)) (ai (af (5:Nat)) av))) av)) av)))) (cT (tC V.dE)) cC) (cT (bj (eL K) (eC C (PySem.Str.ofString "told") (K1.pe C) [] E0 (af (2:Nat)) (ai (cK (ai (af (4:Nat)) av)) av)) (tC (V.int (0:Int)))))
def AB (K:W.Frag) (pt:PySem.Addr) (C:PySem.Addr):TS:=aN (bq (eC C (PySem.Str.ofString "laid") (K1.mh C pt) [V.int (1:Int)] E0 (af (2:Nat)) (ai (af (1:Nat)) (ai (af (3:Nat)) av))) (az (5:Nat))) (AA K C)
def AD (K:W.Frag) (pt:PySem.Addr) (C:PySem.Addr):TS:=aN (bq (eC C (PySem.Str.ofString "laid") (K1.mh C pt) [V.int (1:Int)] E0 (af (2:Nat)) (ai (af (0:Nat)) (ai (af (3:Nat)) av))) (az (4:Nat))) (AB K pt C)
def AE (K:W.Frag) (pt:PySem.Addr) (C:PySem.Addr):TS:=aN (bq xK (az (3:Nat))) (AD K pt C)
def AF (K:W.Frag) (pt:PySem.Addr) (C:PySem.Addr):TS:=aN (bq (Bk C (K1.pk C) [] E0 av) (az (2:Nat))) (AE K pt C)
theorem AG (F:gj K "made_alike" "made_alike" iB f fd) (N:i6 K C) (mC:mg "Nodes"=some (.ref C)) (MK:Mk K C aI) (GI:aU P w K mg base cM 1 aI dI ["self"] (pk C)) (bI:Binds K dI ["self"] []) (ML:Meth K C "laid" aL) (GL:aU P w K mg base cM 6 aL dL NL (mh C pt)) (bL:Binds K dL NL [.int 1 tk]) (MA:Meth K C "linked_anew" aA) (GA:aU P w K mg base cM 5 aA dA ["self","pairs"] (pj C)) (bA:Binds K dA ["self","pairs"] []) (MT:Meth K C "told" aT) (GT:aU P w K mg base cM 4 aT dT ["self","nodes"] (pe C)) (bT:Binds K dT ["self","nodes"] []):aU P w K mg base cM 7 f fd ["one","other"] (pC pt):=by
 refine F.ok (k:=6) yN (λvs H Q E h=>?_) (λbJ A' bC s H vs Q E hr h=>?_)
 .obtain⟨v1,v2,k1,k2,ps,rfl,_,_,_,_,_,_,_⟩:=h;rfl
 obtain⟨v1,v2,k1,k2,ps,rfl,bi,bn,bF,bH,aJ,qn,qs⟩:=h;have nd:=yN.nd;have dv:Vals [V.int 1] [Value.int 1 tk]:=.cons #[tk,rfl] .nil;refine#[AF K pt C,ae (ay (i:=2) nd rfl (Or.inl rfl) (xq MK GI (hr.mono (by decide)) rfl mC bI .nil bN)) (ae (ay (i:=3) nd rfl (Or.inl rfl) xM) (ae (ay (i:=4) nd rfl (Or.inl rfl) (cy (pv 2) N.cl ML GL hr bL dv bN (aa (pv 0) (aa (pv 3) ag)))) (ae (ay (i:=5) nd rfl (Or.inl rfl) (cy (pv 2) N.cl ML GL hr bL dv bN (aa (pv 1) (aa (pv 3) ag)))) (ae (cb (fY (cU (cy (pv 2) N.cl MA GA (hr.mono (by decide)) bA .nil bN (aa (ba (aa (cj (aa (pv 4) (aa (pv 5) ag))) ag)) ag)) (λ_=>rfl))) (aj (bc lA)) bw) (aj (bc (aB cf (cy (pv 2) N.cl MT GT (hr.mono (by decide)) bT .nil bN (aa (ba (aa (pv 4) ag)) ag)) ak (λ_ _=>rfl)))))))),?_];intro x O g bg bK;have S0:aq H (upd (upd H O (.own x)) x (.ins C O [])):=(aq.new bg).upd g;have aK:upd (upd H O (.own x)) x (.ins C O []) x=some (.ins C O []):=ab;generalize upd (upd H O (.own x)) x (.ins C O [])=H0 at S0 aK;refine#[x,O,rfl,aK,λA H1 u ed hk hN bs=>#[rfl,?_]];have S1:aq H H1:=λb o e=>hk b o (S0 b o e) λz=>by rw[z,g] at e;cases e
 have oS:∀b,SN A b->H b=none:=λb z=>S0.free (bs b z);have op:H A.p=none:=by rw[u];exact g
 intro D hD;have oD:H D=none:=S1.free hD;have S2:aq H1 (upd H1 D (.dT [])):=aq.new hD;have hT:TabAt C A D 0 [] (λi=>i) [] [] 1 [] (upd H1 D (.dT [])):=#[hN.same S2,#[[],rfl],Nat.le_refl _,ab];have S:=S1.trans S2;generalize upd H1 D (.dT [])=H2 at S2 hT S;have qL:∀b o,H b=some o->¬S5 A D b:=λb o e z=>by
  rcases z with (z|rfl)|rfl
  .rw[oS b z] at e;cases e
  .rw[oD] at e;cases e
  .rw[op] at e;cases e
 have bv:=cV.mono S aJ;refine#[_,rfl,A.p,A.dx,_,congrArg V.ref u.symm,hT.sN.ins,by unfold aE;rfl,_,rfl,_,rfl,A,D,0,[],(λi=>i),[],[],v1,k1,ps,1,by rw[u];rfl,bi.mono S.tk,by omega,hT,?_,λi _=>rfl,Nat.zero_le _,bv,λt1 i H3 a1 a2 a3 a4 a5 a6 a7 ⟨bo,a8⟩=>?_]
 .intro i f a b e;simp at e
 have K3:Kp pt H H3:=λb o e n=>a7 b o (S b o e) (qL b o e) n;have bf:Tk H H3:=λb xs e=>K3 b _ e (eP e aJ.at_ (by intro z;cases z));have bm:TabAt C A D 0 t1 (λi=>i) (List.replicate t1.length 1) [] 1 t1 H3:=#[by have:=a6.sN;simpa using this,#[[],by simp],Nat.zero_le _,a6.Aw];refine#[_,rfl,A.p,A.dx,_,congrArg V.ref u.symm,a6.sN.ins,by unfold aE;rfl,_,rfl,_,rfl,A,D,0,t1,(λi=>i),List.replicate t1.length 1,[],v2,k2,bo,1,by rw[u];rfl,bn.mono bf,by omega,bm,a3,λi _=>rfl,?_,a8,λr j H4 b1 b2 b3 b4 b5 b6 b7 b8=>?_]
 .simp at a2;omega
 have K4:Kp pt H H4:=λb o e n=>b7 b o (K3 b o e n) (qL b o e) n;have n6:cg C A r (λi=>i) (List.replicate r.length 1) [] H4:=by have:=b6.sN;obtain⟨mo,rfl⟩:=b1;rw[List.replicate_append_replicate] at this;simpa using this
 have l1:t1.length<=1000:=by simp at a2;omega
 have bE:r.length<=2000:=by omega
 refine#[_,rfl,A.p,A.dx,_,congrArg V.ref u.symm,n6.ins,by unfold aE;rfl,_,rfl,_,rfl,(by show 2<=sizeLine;decide),λT bd=>?_];have M:aq H4 (upd H4 T (.tup [.int (i:Nat),.int (j:Nat)])):=aq.new bd;have B:upd H4 T (.tup [.int (i:Nat),.int (j:Nat)]) T=some (.tup [.int (i:Nat),.int (j:Nat)]):=ab;generalize upd H4 T (.tup [.int (i:Nat),.int (j:Nat)])=H5 at M B ⊢;refine#[(by show 1<=sizeLine;decide),λlp aM=>?_];have an:aq H5 (upd H5 lp (.lst [.ref T])):=aq.new aM;have Z:upd H5 lp (.lst [.ref T]) lp=some (.lst [.ref T]):=ab;have n5:=n6.same M;have bl:¬SN A lp:=n5.nS aM;have G:=an _ _ B;have I:=M.trans an;have J:=n6.same I;generalize upd H5 lp (.lst [.ref T])=H6 at an Z G I J ⊢;have am:i < r.length:=by obtain⟨mo,rfl⟩:=b1;have:=a5.1.lt;simp;omega
 have aH:j < r.length:=b5.1.lt;refine#[A,r,(λi=>i),List.replicate r.length 1,[],lp,[.ref T],[(i,j)],by rw[u];rfl,J,b3,Z,bl,.cons #[T,[],rfl,G] .nil,λp hp=>by simp at hp;subst hp;exact#[am,aH],by omega,by simp,by simp[sizeLine_eq];omega,λbb l2 R' L aQ t a0 K7 N7 Lw hb hf=>?_];have d1:Den r i k1:=by obtain⟨mo,rfl⟩:=b1;exact a5.1.mono
 have d2:Den r j k2:=b5.1;have al:dB r:=b4 (a4 dB.nil);have un:uT r:=(b5.2.2 (a5.2.2 #[λi f a b _ e=>by simp at e,λ_ i j f e=>by simp at e])).2 rfl;have nK:∀b o,H b=some o->¬(SN A b\/b=A.p):=λb o e z=>qL b o e (by
  rcases z with z|z
  .exact .inl (.inl z)
  .exact .inr z)
 have aP:Kp pt H t:=λb o e n=>K7 b o (I b o (K4 b o e n)) (nK b o e);have Y:∃y,cV t pt gG.pos cQ y:=by
  obtain⟨y,h⟩:=b8;refine#[y,yM (cV.mono I h) K7 λb z=>?_];rcases z with z|rfl
  .obtain⟨xs,e⟩:=J.held z;rw[e];exact#[λ_ z=>(nomatch z),λ_ z=>(nomatch z)]
  .rw[J.ins];exact#[λ_ z=>(nomatch z),λ_ z=>(nomatch z)]
 refine#[bb,rfl,?_];cases bb with
 |false=>
  refine fM ?_;refine qn t aP Y λθ aC=>?_;rcases hf rfl with tn|⟨q,no⟩
  .exact tn.no d1 d2 aC
  .obtain⟨rk,ac⟩:=q.yL al d1 d2 aC;exact no rk (vq ac L 0)
 |true=>
  refine cA ?_;obtain⟨q,bG,pf⟩:=hb rfl;have R:∀x∈L,1<=x:=Lw.pos λx g=>by rw[List.eq_of_mem_replicate g];exact Nat.le_refl _
  have as:L.length=r.length:=by rw[Lw.len];simp
  have aF:=sP b3 q pf (λp hp=>by simp at hp;subst hp;exact#[am,aH]) (yz as R);refine#[_,rfl,A.p,A.dx,_,congrArg V.ref u.symm,N7.ins,by unfold aE;rfl,_,rfl,(by show 1<=sizeLine;decide),λln aO=>?_];have S8:aq t (upd t ln (.lst [.int (i:Nat)])):=aq.new aO;have X:upd t ln (.lst [.int (i:Nat)]) ln=some (.lst [.int (i:Nat)]):=ab;have aY:=N7.nS aO;have N8:=N7.same S8;generalize upd t ln (.lst [.int (i:Nat)])=H8 at S8 X N8 ⊢;refine#[{A with L2:=l2},r,R',L,aQ,ln,[i],by rw[u];rfl,N8,b3,X,aY,λx g=>by simp at g;subst g;exact am,by omega,by simp,R,aF,λl ws kd H9 hl K9 N9 aS ks ap=>?_];cases ks with
  |cons ky kn=>
  cases kn;refine#[l,_,0,_,rfl,rfl,bp.of aS,ar (j:=0) rfl,?_];have bk:∀b,¬SN A b->b≠l2->¬SN {A with L2:=l2} b:=λb n1 n2 z=>by
   rcases z with z|z|z|z
   .exact n1 (.inl z)
   .exact n2 z
   .exact n1 (.inr (.inr (.inl z)))
   .exact n1 (.inr (.inr (.inr z)))
  have be:Kp pt H H9:=λb o e n=>K9 b o (S8 b o (aP b o e n)) (bk b (λz=>nK b o e (.inl z)) λz=>by have:=I b o (K4 b o e n);rw[z,a0] at this;cases this)
  have bB:∃y,cV H9 pt gG.pos cQ y:=by obtain⟨y,h⟩:=Y;refine#[y,yM (cV.mono S8 h) K9 λb z=>?_];obtain⟨xs,e⟩:=N8.held z;rw[e];exact#[λ_ z=>(nomatch z),λ_ z=>(nomatch z)]
  obtain⟨rk,ac⟩:=aF;have aW:=me ac (yz as R) λc d hc hd=>by
   obtain⟨f',x',y',e,z⟩:=qM hd;have l:=b3.lt e;rcases z with rfl|rfl
   .exact q.rf.lt _ l.1
   .exact q.rf.lt _ l.2
  obtain⟨U,hU⟩:=Cv aW;have ax:=ap U hU;refine qs _ (kd (R' i)) H9 be bB ky #[pK r R' kd,q.pA un ax d1 d2,(q.pK un ax d1).symm] λφ v rk w ev aR sR=>?_;refine q.told un al d1 d2 w ev aR (λn m hn hm=>?_) λU hU=>?_
  .rcases sR n m hn hm with z|z
   .exact d1.blank z
   .exact d2.blank z
  .have:=ap U hU;simpa using this
end
section
variable {P:Program} {w:World} {K:W.Frag} {mg:Str->Option Value} {base:Heap} {f g:Addr} {fd gd:FuncData}
theorem qS:a9 ["_law_kind","_law_row","_law_todo","_law_part"] ["_law_kind"] (ao oK):=#[rfl,rfl,rfl,by decide +kernel,rfl,by decide +kernel,by decide +kernel]
inductive Bx (H:Hp) (k:Kd) (lo:Addr) (v:V) (m:Nat) (σ:St) (H1:Hp):Prop
 |mk (p:_) (os:_) (ws:_) (i:_) (lw:_) (h1:σ=[some v,some (.ref lo),some (.ref lw),p]) (h2:H lw=none) (h3:lw≠lo) (h4:m=k.parts.length - i) (h5:aq H H1) (h6:H1 lo=some (.lst os)) (h7:H1 lw=some (.lst ws)) (h8:Ks H1 os (k.parts.take i)) (h9:Ks H1 ws (mO [k] i).reverse):Bx H k lo v m σ H1
def vt (K:W.Frag):TS:=cI (bD (bj (CY K Bool.false) (bj (cn K) (af (3:Nat)) (tC (V.int (0:Int)))) (cK (ai (tC (V.str (PySem.Str.ofString "pair"))) (ai (tC (V.str (PySem.Str.ofString "to"))) av))))) (bq (bj uG (af (2:Nat)) (cK (ai (bj (cn K) (af (3:Nat)) (tC (V.int (2:Int)))) (ai (bj (cn K) (af (3:Nat)) (tC (V.int (1:Int)))) av)))) (az (2:Nat))) cC
def vw (K:W.Frag):TS:=aN (dk (ou K "list" cB (af (1:Nat)) (ai (af (3:Nat)) av))) (vt K)
def vz (K:W.Frag):TS:=aN (bq (iz K "list" iq (af (2:Nat))) (az (3:Nat))) (vw K)
def vB (K:W.Frag):TS:=aN (eQ (bD (bj (qi K) (af (2:Nat)) (cK av))) (vz K)) (cT (af (1:Nat)))
def vC (K:W.Frag):TS:=aN (bq (cK (ai (af (0:Nat)) av)) (az (2:Nat))) (vB K)
def vD (K:W.Frag):TS:=aN (bq (cK av) (az (1:Nat))) (vC K)
theorem vE (F:gj K "_law_inside" "_law_inside" oK f fd):aU P w K mg base cM 1 f fd ["_law_kind"] dU:=by
 refine F.ok qS (λvs H Q E h=>?_) (λaT A aP s H vs Q E hr h=>?_)
 .obtain⟨v,k,rfl,_,_,_⟩:=h;rfl
 obtain⟨v,k,rfl,hk,hB,q⟩:=h;have nd:=qS.nd;have hu:=fI hr;refine#[vD K,ae (ay (i:=1) nd rfl (Or.inl rfl) (ba ag)) (ae (ay (i:=2) nd rfl (Or.inl rfl) (ba (aa (pv 0) ag))) (ae (dm PassesOwn.never (aD (jy (Nat.lt_of_succ_lt hu)) (pv 2) (ba ag) (aX _)) (ae (ay (i:=3) nd rfl (Or.inl rfl) (dq PySem.F.plainAttrs_list PySem.F.slot_list_pop PySem.F.type_list_pop dr (pv 2))) (ae (cp (eD PySem.F.plainAttrs_list PySem.F.slot_list_append PySem.F.type_list_append bV (pv 1) (aa (pv 3) ag))) (aj (cb (aD ic (aB aG (pv 3) ak (λ_ _=>rfl)) (ba (aa aZ (aa aZ ag))) rfl) (aj (ay (i:=2) nd rfl (Or.inl rfl) (cD ox (pv 2) (ba (aa (aB aG (pv 3) ak (λ_ _=>rfl)) (aa (aB aG (pv 3) ak (λ_ _=>rfl)) ag)))))) bw))))) (aj (bc (pv 1))))),?_];refine#[Nat.zero_le _,λlo J=>?_];refine#[_,rfl,(by show 1<=sizeLine;decide),λas c=>?_];have S:as≠lo:=λz=>by rw[z,ab] at c;cases c
 have C:H as=none:=by rw[ah S] at c;exact c
 have aR:k.parts.length<=10000000:=by rw[Kd.cm];exact hB
 refine#[(Bx H k lo v),#[k.parts.length,none,[],[v],0,as,rfl,C,S,rfl,(aq.new J).upd C,?_,ab,.nil,.cons ?_ .nil],?_]
 .rw[ah S.symm,ab]
 .exact hk.mono (aq.tk ((aq.new J).upd C))
 rintro m σ g ⟨p,os,ws,i,L,rfl,C,e,rfl,hS,hO,hW,kO,kW⟩;have aS:os.length<=10000000:=by rw[Paired.length kO,List.length_take];omega
 have Z:ws.length<=10000000:=by rw[Paired.length kW,List.length_reverse];have:=fB [k] i;rw[cw] at this;omega
 refine#[_,rfl,Nat.zero_le _,λle B=>?_];have S1:aq H (upd g le (.lst [])):=hS.upd (hS.free B);have aJ:Tk g (upd g le (.lst [])):=Tk.new B;have U:upd g le (.lst []) lo=some (.lst os):=by rw[ah (au hO B)];exact hO
 have u:upd g le (.lst []) L=some (.lst ws):=by rw[ah (au hW B)];exact hW
 have am:=kO.mono aJ;have I:=kW.mono aJ;refine#[L,le,ws,rfl,rfl,bp.of u,bp.of ab,_,rfl,?_];generalize upd g le (.lst [])=g at S1 U u am I ⊢;cases hd:mO [k] i with
 |nil=>rw[hd] at I;cases I;refine cA #[_,rfl,q lo os g S1 J U ?_];have:=tY hd;rw[cw] at this;rwa [List.take_of_length_le this] at am
 |cons t r=>
  rw[hd,List.reverse_cons] at I;obtain⟨o,x,rfl,aM,kx⟩:=bt I;have Y:k.parts[i]?=some t:=by
   have h1:=fA [k] i;rw[cw,hd,fQ] at h1;have h2:(k.parts.drop i)[0]?=some t:=by rw[<-h1];rfl
   rwa [List.getElem?_drop] at h2
  have hi:i < k.parts.length:=(List.getElem?_eq_some_iff.mp Y).1;have he:(!(o++[x]).isEmpty)=true:=by simp
  rw[if_pos he];refine#[_,λ_ _ z=>z,?_];refine#[_,rfl,.inl #[rfl,_,bp.of u],L,o++[x],x,rfl,rfl,u,by simp,?_];rw[List.dropLast_concat];have an:Tk g (upd g L (.lst o)):=Tk.lst u;have ac:upd g L (.lst o) lo=some (.lst os):=by rw[ah e.symm];exact U
  refine#[_,rfl,.inl #[rfl,_,bp.of ac],_,rfl,lo,os,x,rfl,rfl,ac,bh (by omega),?_];have aH:Tk (upd g L (.lst o)) (upd (upd g L (.lst o)) lo (.lst (os++[x]))):=Tk.lst ac;have S2:aq H (upd (upd g L (.lst o)) lo (.lst (os++[x]))):=(S1.upd C).upd J;have aF:=kx.mono (an.trans aH);have aL:Ks (upd (upd g L (.lst o)) lo (.lst (os++[x]))) (os++[x]) (k.parts.take (i+1)):=by rw[List.take_add_one,Y];exact bZ (am.mono (an.trans aH)) (.cons aF .nil)
  have aK:=Ks.mono (an.trans aH) aM;have ap:upd (upd g L (.lst o)) lo (.lst (os++[x])) L=some (.lst o):=by rw[ah e,ab]
  have aQ:o.length+1<=10000000:=by rw[List.length_append] at Z;exact Z
  have aC:upd (upd g L (.lst o)) lo (.lst (os++[x])) lo=some (.lst (os++[x])):=ab;generalize upd (upd g L (.lst o)) lo (.lst (os++[x]))=H2 at S2 aF aL aK ap aC ⊢;obtain⟨px,xs,rfl,hx,rx⟩:=aF.shape;refine#[_,rfl,px,_,0,_,rfl,rfl,cx.of hx,ar (j:=0) rfl,(by show 2<=sizeLine;decide),λlc D=>?_];have S3:aq H (upd H2 lc (.lst [.str "pair",.str "to"])):=S2.upd (S2.free D);have T:Tk H2 (upd H2 lc (.lst [.str "pair",.str "to"])):=Tk.new D;have N:upd H2 lc (.lst [.str "pair",.str "to"]) lo=some (.lst (os++[.ref px])):=by rw[ah (au aC D)];exact aC
  have M:upd H2 lc (.lst [.str "pair",.str "to"]) L=some (.lst o):=by rw[ah (au ap D)];exact ap
  refine#[lc,_,rfl,.inl (bp.of ab),rfl,rfl,_,rfl,?_];have aA:=T _ _ hx;have aI:=rx.mono T;have O:=aL.mono T;have R:=aK.mono T;generalize upd H2 lc (.lst [.str "pair",.str "to"])=H3 at S3 N M aA aI O R ⊢;rw[sk];cases t with
  |num=>refine cA ?_;exact#[k.parts.length - (i+1),by omega,_,_,o,i+1,L,rfl,C,e,rfl,S3,N,M,O,by rw[eM hd];exact R]
  |ax n=>refine cA ?_;exact#[k.parts.length - (i+1),by omega,_,_,o,i+1,L,rfl,C,e,rfl,S3,N,M,O,by rw[eM hd];exact R]
  |two g' a b=>
   refine fM ?_;obtain⟨X,y,rfl,ka,kb⟩:=aI;refine#[_,rfl,_,rfl,px,_,2,y,rfl,rfl,cx.of aA,ar (j:=2) rfl,_,rfl,px,_,1,X,rfl,rfl,cx.of aA,ar (j:=1) rfl,(by show 2<=sizeLine;decide),λl2 d=>?_];have aO:upd H3 l2 (.lst [y,X]) L=some (.lst o):=by rw[ah (au M d)];exact M
   refine#[L,l2,o,[y,X],rfl,rfl,aO,ab,kL (by simp;omega),λl3 G=>?_];have S4:aq H (upd H3 l2 (.lst [y,X])):=S3.upd (S3.free d);have S5:aq H (upd (upd H3 l2 (.lst [y,X])) l3 (.lst (o++[y,X]))):=S4.upd (S4.free G);have l:Tk H3 (upd (upd H3 l2 (.lst [y,X])) l3 (.lst (o++[y,X]))):=(Tk.new d).trans (Tk.new G);have al:upd H3 l2 (.lst [y,X]) lo=some (.lst (os++[.ref px])):=by rw[ah (au N d)];exact N
   refine#[k.parts.length - (i+1),by omega,_,_,o++[y,X],i+1,l3,rfl,S4.free G,(au al G).symm,rfl,S5,by rw[ah (au al G)];exact al,ab,O.mono l,?_];rw[eM hd];show Ks _ _ (a :: b :: r).reverse;rw[List.reverse_cons,List.reverse_cons,List.append_assoc];exact bZ (R.mono l) (.cons (kb.mono l) (.cons (ka.mono l) .nil))
inductive fV (vs:List V) (H:Hp) (Q:VK) (zz3:XK):Prop
 |mk (v:_) (k:_) (d:_) (kvs:_) (φ:_) (h1_:vs=[v,.ref d]) (h2_:cP H v k) (h3_:k.size<=10000000) (h4_:H d=some (.dK kvs)) (h5_:oI H kvs φ) (h6_:∀v' H',aq H H'->cP H' v' (k.fill φ)->Q v' H'):fV vs H Q zz3
theorem qT:a9 ["_law_kind","_law_filling","_law_pile","_law_part","_law_one"] ["_law_kind","_law_filling"] (ao oM):=#[rfl,rfl,rfl,by decide +kernel,rfl,by decide +kernel,by decide +kernel]
inductive yO (H:Hp) (d:Addr) (k:Kd) (lp:Addr) (lr:Addr) (v:V) (ws:List V) (φ:eR) (i:Nat) (σ:St) (H3:Hp):Prop
 |mk (p:_) (o:_) (xs:_) (h1:σ=[some v,some (.ref d),some (.ref lp),p,o]) (h2:aq H H3) (h3:H3 lr=some (.lst ws)) (h4:H3 lp=some (.lst xs)) (h5:Ks H3 ws k.parts) (h6:Ks H3 xs ((mO [k] (k.parts.length - i)).map (Kd.fill φ)).reverse):yO H d k lp lr v ws φ i σ H3
def vF (K:W.Frag):TS:=aN (bq (iz K "list" iq (af (2:Nat))) (az (4:Nat))) (dk (ou K "list" cB (af (2:Nat)) (ai (dZ (ai (bj (cn K) (af (3:Nat)) (tC (V.int (0:Int)))) (ai (af (4:Nat)) (ai (iz K "list" iq (af (2:Nat))) av)))) av)))
def vG (K:W.Frag):TS:=cI (jr (bD (bj ki (bj (cn K) (af (3:Nat)) (tC (V.int (0:Int)))) (tC (V.str (PySem.Str.ofString "blank"))))) (tB (xH (bj (cn K) (af (3:Nat)) (tC (V.int (1:Int)))) (af (1:Nat))))) (dk (ou K "list" cB (af (2:Nat)) (ai (jU (af (1:Nat)) (bj (cn K) (af (3:Nat)) (tC (V.int (1:Int))))) av))) (dk (ou K "list" cB (af (2:Nat)) (ai (af (3:Nat)) av)))
def vH (K:W.Frag):TS:=cI (bD (bj (CY K Bool.false) (bj (cn K) (af (3:Nat)) (tC (V.int (0:Int)))) (cK (ai (tC (V.str (PySem.Str.ofString "pair"))) (ai (tC (V.str (PySem.Str.ofString "to"))) av))))) (vF K) (vG K)
def vI (K:W.Frag):TS:=aN (oh (zK K (ai (cO K1.dU [] E0 (ai (af (0:Nat)) av)) av)) (az (3:Nat)) (vH K)) (cT (bj (eL K) (af (2:Nat)) (tC (V.int (0:Int)))))
def vJ (K:W.Frag):TS:=aN (bq (cK av) (az (2:Nat))) (vI K)
theorem vK (F:gj K "_law_filled" "_law_filled" oM f fd) (G:aU P w K mg base cM 1 g gd ["_law_kind"] dU) (bG:Binds K gd ["_law_kind"] []) (kG:W.keepIn K (.ref g)=true) (mG:mg "_law_inside"=some (.ref g)) (mr:mg "reversed"=none):aU P w K mg base cM 2 f fd ["_law_kind","_law_filling"] fV:=by
 refine F.ok qT (λvs H Q E h=>?_) (λa6 A a3 s H vs Q E hr h=>?_)
 .obtain⟨v,k,d,C,c,rfl,_,_,_,_,_⟩:=h;rfl
 obtain⟨v,k,d,C,c,rfl,hk,hB,hd,kD,q⟩:=h;have nd:=qT.nd;have hu:=fI hr;refine#[vJ K,ae (ay (i:=2) nd rfl (Or.inl rfl) (ba ag)) (ae (gb PassesOwn.never rfl (oB rfl mr (aa (bU G hr rfl mG kG bG .nil bN (aa (pv 0) ag)) ag)) (dg (i:=3) nd rfl (Or.inl rfl)) (aj (cb (aD ic (aB aG (pv 3) ak (λ_ _=>rfl)) (ba (aa aZ (aa aZ ag))) rfl) (ae (ay (i:=4) nd rfl (Or.inl rfl) (dq PySem.F.plainAttrs_list PySem.F.slot_list_pop PySem.F.type_list_pop dr (pv 2))) (aj (cp (eD PySem.F.plainAttrs_list PySem.F.slot_list_append PySem.F.type_list_append bV (pv 2) (aa (cj (aa (aB aG (pv 3) ak (λ_ _=>rfl)) (aa (pv 4) (aa (dq PySem.F.plainAttrs_list PySem.F.slot_list_pop PySem.F.type_list_pop dr (pv 2)) ag)))) ag))))) (aj (cb (fc (aD dj (aB aG (pv 3) ak (λ_ _=>rfl)) aZ (aX _)) (eK (fX (oA hu (aB aG (pv 3) ak (λ_ _=>rfl)) (pv 1))))).pt (aj (cp (eD PySem.F.plainAttrs_list PySem.F.slot_list_append PySem.F.type_list_append bV (pv 2) (aa (gp hu (pv 1) (aB aG (pv 3) ak (λ_ _=>rfl)) (λ_ _=>rfl)) ag)))) (aj (cp (eD PySem.F.plainAttrs_list PySem.F.slot_list_append PySem.F.type_list_append bV (pv 2) (aa (pv 3) ag))))))))) (aj (bc (aB cf (pv 2) ak (λ_ _=>rfl))))),?_];refine#[Nat.zero_le _,λl B=>?_];have S1:aq H (upd H l (.lst [])):=aq.new B;refine#[_,rfl,v,k,rfl,hk.mono S1.tk,hB,λlr ws H2 S2 aA aI aL=>?_];refine#[lr,ws,rfl,bp.of aI,?_];have aQ:H2 l=some (.lst []):=S2 _ _ ab;have L:ws.length=k.parts.length:=Paired.length aL;have a5:k.parts.length<=10000000:=by rw[Kd.cm];exact hB
 have R:lr≠l:=λz=>by rw[z,ab] at aA;cases aA
 have a4:H lr=none:=S1.free aA;refine oC (yO H d k l lr v ws c) #[none,none,[],rfl,S1.trans S2,aI,aQ,aL,?_] (λi σ m hi ⟨_,_,_,_,_,h,_,_,_⟩=>bp.of h) (λi x σ m hi hx hP=>?_) (λσ m hP=>?_)
 .rw[Nat.sub_zero,oG (by rw[cw];exact Nat.le_refl _)];exact .nil
 .obtain⟨p,o,X,rfl,hS,hR,hL,kR,kX⟩:=hP;obtain⟨t,ht,kt⟩:=dw kR hx;rw[L] at hi ht;obtain⟨r,ac⟩:=oF (ts:=[k]) (n:=k.parts.length - 1 - i) (by rw[cw];exact ht);have ap:=eM ac;rw[show k.parts.length - 1 - i+1=k.parts.length - i by omega] at ap;have aH:k.parts.length - (i+1)=k.parts.length - 1 - i:=by omega
  rw[ap] at kX;have aT:X.length<=10000000:=by rw[Paired.length kX,List.length_reverse,List.length_map,<-ap];have:=fB [k] (k.parts.length - i);rw[cw] at this;omega
  obtain⟨px,ys,rfl,aJ,ry⟩:=kt.shape;refine#[_,rfl,px,_,0,_,rfl,rfl,cx.of aJ,ar (j:=0) rfl,(by show 2<=sizeLine;decide),λlc D=>?_];have S3:aq H (upd m lc (.lst [.str "pair",.str "to"])):=hS.upd (hS.free D);have T:Tk m (upd m lc (.lst [.str "pair",.str "to"])):=Tk.new D;have U:upd m lc (.lst [.str "pair",.str "to"]) lr=some (.lst ws):=by rw[ah (au hR D)];exact hR
  have O:upd m lc (.lst [.str "pair",.str "to"]) l=some (.lst X):=by rw[ah (au hL D)];exact hL
  refine#[lc,_,rfl,.inl (bp.of ab),rfl,rfl,_,rfl,?_];have Y:=T _ _ aJ;have an:=ry.mono T;have as:=kR.mono T;have S:=kX.mono T;have al:=kt.mono T;generalize upd m lc (.lst [.str "pair",.str "to"])=I at S3 U O Y an as S al ⊢;rw[sk];have Z:∀(y:V) (H5:Hp),aq I H5->cP H5 y (t.fill c)->kids t=[]->yO H d k l lr v ws c (i+1) [some v,some (.ref d),some (.ref l),some (.ref px),o] (upd H5 l (.lst (X++[y]))):=by intro y H5 S5 ky aP;have aC:Tk I (upd H5 l (.lst (X++[y]))):=S5.tk.trans (Tk.lst (S5 _ _ O));refine#[_,o,X++[y],rfl,(S3.trans S5).upd B,by rw[ah R];exact S5 _ _ U,ab,as.mono aC,?_];rw[aH,ac,List.map_cons,List.reverse_cons];rw[aP] at S;exact bZ (S.mono aC) (.cons (ky.mono (Tk.lst (S5 _ _ O))) .nil)
  cases t with
  |num=>refine cA ?_;refine#[_,rfl,px,_,0,_,rfl,rfl,cx.of Y,ar (j:=0) rfl,rfl,_,rfl,?_];refine bO (λz=>absurd z (by simp[iw];decide)) λ_=>?_;refine cA ?_;refine#[_,rfl,.inl #[rfl,_,bp.of O],_,rfl,l,X,_,rfl,rfl,O,bh (by omega),?_];exact Z _ I (aq.refl _) al rfl
  |ax n=>
   refine cA ?_;cases an;have aF:I d=some (.dK C):=S3 _ _ hd;have aY:oI I C c:=kD.mono S3.tk;refine#[_,rfl,px,_,0,_,rfl,rfl,cx.of Y,ar (j:=0) rfl,rfl,_,rfl,?_];refine bO (λ_=>?_) λz=>absurd (by simp[iw]) z;refine#[_,rfl,px,_,1,_,rfl,rfl,cx.of Y,ar (j:=1) rfl,_,rfl,d,_,rfl,d0.k (k:=Sum.inl n) aF,_,rfl,?_];rcases aY n with⟨e1,e2⟩|⟨y,u,e1,e2,ky⟩
   .rw[e1];refine cA ?_;refine#[_,rfl,.inl #[rfl,_,bp.of O],_,rfl,l,X,_,rfl,rfl,O,bh (by omega),?_];refine Z _ I (aq.refl _) ?_ rfl;show cP I _ ((c n).getD (.ax n));rw[e2];exact al
   .have e3:(cE C (Sum.inl n)).isSome=true:=by rw[e1];rfl
    rw[e3];refine fM ?_;refine#[_,rfl,.inl #[rfl,_,bp.of O],?_];refine#[_,rfl,_,rfl,px,_,1,_,rfl,rfl,cx.of Y,ar (j:=1) rfl,d,y,rfl,by rw[<-e1];exact d0.k (k:=Sum.inl n) aF,l,X,_,rfl,rfl,O,bh (by omega),?_];refine Z _ I (aq.refl _) ?_ rfl;show cP I _ ((c n).getD (.ax n));rw[e2];exact ky
  |two g' a b=>
   refine fM ?_;obtain⟨xa,xb,rfl,ka,kb⟩:=an;have aO:Ks I X ((r.map (Kd.fill c)).reverse++[b.fill c]++[a.fill c]):=by
    have e:((kids (Kd.two g' a b)++r).map (Kd.fill c)).reverse=(r.map (Kd.fill c)).reverse++[b.fill c]++[a.fill c]:=by simp[kids]
    rw[<-e];exact S
   obtain⟨a2,ya,rfl,a1,aM⟩:=bt aO;obtain⟨M,yb,rfl,aW,aR⟩:=bt a1;refine#[_,rfl,.inl #[rfl,_,bp.of O],l,_,ya,rfl,rfl,O,by simp,?_];rw[List.dropLast_concat];have am:upd I l (.lst (M++[yb])) l=some (.lst (M++[yb])):=ab;have aS:upd I l (.lst (M++[yb])) px=some (.tup [.str (tag g'),xa,xb]):=Tk.lst O _ _ Y;refine#[_,rfl,.inl #[rfl,_,bp.of am],?_];refine#[_,rfl,px,_,0,_,rfl,rfl,cx.of aS,ar (j:=0) rfl,_,rfl,_,rfl,.inl #[rfl,_,bp.of am],l,_,yb,rfl,rfl,am,by simp,?_];rw[List.dropLast_concat,iN];refine#[(by show 3<=sizeLine;decide),λtp J=>?_];have aK:upd (upd I l (.lst M)) tp (.tup [.str (tag g'),ya,yb]) l=some (.lst M):=by rw[ah (au ab J),ab]
   refine#[l,M,.ref tp,rfl,rfl,aK,bh (by simp at aT;omega),?_];have S5:aq H (upd I l (.lst M)):=S3.upd B;have S6:aq H (upd (upd I l (.lst M)) tp (.tup [.str (tag g'),ya,yb])):=S5.upd (S5.free J);have a0:tp≠l:=λz=>by rw[z,ab] at J;cases J
   have N:Tk I (upd (upd (upd I l (.lst M)) tp (.tup [.str (tag g'),ya,yb])) l (.lst (M++[.ref tp]))):=((Tk.lst O).trans (Tk.new J)).trans (Tk.lst aK);refine#[_,_,M++[.ref tp],rfl,S6.upd B,?_,ab,as.mono N,?_]
   .rw[ah R,ah (λz=>by rw[<-z,ah R,U] at J;cases J),ah R];exact U
   .rw[aH,ac,List.map_cons,List.reverse_cons];refine bZ (Ks.mono N aW) (.cons #[tp,ya,yb,rfl,by rw[ah a0,ab],aM.mono N,aR.mono N] .nil)
 .obtain⟨p,o,X,rfl,hS,hR,hL,kR,kX⟩:=hP;rw[L,Nat.sub_self] at kX;have kX:Ks m X [k.fill c]:=kX;cases kX with
  |cons kx kn=>cases kn;exact#[_,rfl,l,_,0,_,rfl,rfl,bp.of hL,ar (j:=0) rfl,q _ m hS kx]
end
section
variable {P:Program} {w:World} {K:W.Frag} {mg:Str->Option Value} {base:Heap} {f g:Addr} {d p:FuncData}
inductive nQ (vs:List V) (H:Hp) (Q:VK) (zz3:XK):Prop
 |mk (i:_) (h1_:vs=[.int i]) (h2_:∀(j:Int) H',j.natAbs < 10 ^ 59->aq H H'->Q (.int j) H'):nQ vs H Q zz3
theorem By:a9 ["_law_cell","_law_size"] ["_law_cell"] (ao Cf):=#[rfl,rfl,rfl,by decide +kernel,rfl,by decide +kernel,by decide +kernel]
theorem yP (i:Int) {s:Int} (j:s=1\/s= -1):(i%10 ^ (59:Int).toNat*s).natAbs < 10 ^ 59:=by
 have e:(10:Int) ^ (59:Int).toNat=100000000000000000000000000000000000000000000000000000000000:=by decide +kernel
 have E:(10:Nat) ^ 59=100000000000000000000000000000000000000000000000000000000000:=by decide +kernel
 rw[e,E];rcases j with rfl|rfl <;> omega
def Cw (K:W.Frag):TS:=aN (bq (bj (rI (λ(x j:Int)=>(0:Int) < j) λ(i j:Int)=>V.int (i%j)) (bj (rI pU λ(i j:Int)=>V.int (i / j)) (af (0:Nat)) (tC (V.int (2:Int)))) (bj (rI Dp λ(i j:Int)=>V.int (i ^ Int.toNat j)) (tC (V.int (10:Int))) (tC (V.int (59:Int))))) (az (1:Nat))) (cT (bj (rI zo λ(i j:Int)=>V.int (i*j)) (af (1:Nat)) (bj (eL K) (cK (ai (tC (V.int (1:Int))) (ai (Dk (rU λ(i:Int)=>V.int (-i)) (tC (V.int (1:Int)))) av))) (bj (rI (λ(x j:Int)=>(0:Int) < j) λ(i j:Int)=>V.int (i%j)) (af (0:Nat)) (tC (V.int (2:Int)))))))
theorem Cy (F:gj K "_law_any" "_law_any" Cf f d):aU P w K mg base cM 1 f d ["_law_cell"] nQ:=by
 refine F.ok By (λb H Q E h=>?_) (λC A o s H b Q E k h=>?_)
 .obtain⟨i,rfl,_⟩:=h;rfl
 obtain⟨i,rfl,q⟩:=h;have N:=By.nd;refine#[Cw K,ae (ay (i:=1) N rfl (Or.inl rfl) (cD fe (cD gc (pv 0) ak) (cD B1 ak ak))) (aj (bc (cD B0 (pv 1) (aB cf (ba (aa ak (aa (tL oj ak) ag))) (cD fe (pv 0) ak) (λ_ _=>rfl))))),?_];refine#[_,rfl,_,_,rfl,rfl,#[by decide,by decide],_,_,rfl,rfl,#[by decide,by decide,by decide],_,_,rfl,rfl,?_,?_]
 .show (0:Int) < 10 ^ (59:Int).toNat;decide +kernel
 refine#[_,rfl,_,rfl,(by show 2<=sizeLine;decide),λl c=>?_];refine#[_,rfl,_,_,rfl,rfl,(by show (0:Int) < 2;decide),?_];have a:i%2=0\/i%2=1:=by omega
 rcases a with e|e
 .refine#[l,_,_,.int 1,rfl,rfl,bp.of ab,?_,_,_,rfl,rfl,.inr #[by decide,by decide],q _ _ ?_ (aq.new c)]
  .rw[e];rfl
  .exact yP _ (Or.inl rfl)
 .refine#[l,_,_,.int (-1),rfl,rfl,bp.of ab,?_,_,_,rfl,rfl,.inr #[by decide,by decide],q _ _ ?_ (aq.new c)]
  .rw[e];rfl
  .exact yP _ (Or.inr rfl)
theorem mx (K:W.Frag) (n:String):W.kitOne K (.type n) (.type n)=some true:=by unfold W.kitOne;rw[if_pos (beq_self_eq_true _)]
inductive lb (vs:List V) (H:Hp) (Q:VK) (zz3:XK):Prop
 |mk (i:_) (h1_:vs=[.int i]) (h2_:Q (.bl true) H):lb vs H Q zz3
theorem AH:a9 ["_law_found"] ["_law_found"] (ao so):=#[rfl,rfl,rfl,by decide +kernel,rfl,by decide +kernel,by decide +kernel]
theorem yQ (F:gj K "_law_whole" "_law_whole" so f d) (M:mg "isinstance"=none) (a:mg "int"=none) (m:mg "bool"=none):aU P w K mg base cM 1 f d ["_law_found"] lb:=by
 refine F.ok AH (λb H Q E h=>?_) (λc A o s H b Q E k h=>?_)
 .obtain⟨i,rfl,_⟩:=h;rfl
 obtain⟨i,rfl,q⟩:=h;refine#[_,aj (bc (wW (bX iX rfl M PyProof.Rows.boot_isinstance (aa (pv 0) (aa (kg (v:=.ty "int") rfl a PyProof.Rows.boot_int rfl) ag))) (wV (BS (bX iX rfl M PyProof.Rows.boot_isinstance (aa (pv 0) (aa (kg (v:=.ty "bool") rfl m PyProof.Rows.boot_bool rfl) ag))))))),?_];refine#[_,rfl,.int i,"int",_,true,rfl,.int i,mx _ _,true,rfl,fM ?_];refine#[_,rfl,.int i,"bool",_,false,rfl,.int i,?_,false,rfl,q];rfl
end
def sumK (K:List Kd):Nat:=(K.map Kd.size).sum
theorem eG (K:List Kd) (k:Kd):sumK (K++[k])=sumK K+k.size:=by simp[sumK]
theorem gZ (K:List Kd):K.length<=sumK K:=by
 induction K with
 |nil=>exact Nat.le_refl _
 |cons k r I=>
  have:=Kd.size_pos k;have e:sumK (k :: r)=k.size+sumK r:=by simp[sumK]
  rw[e,List.length_cons];omega
theorem cX {c d:Type} {F:c->d->Prop}:∀{a:List c} {b:List d} {x:c},Paired F (a++[x]) b->∃B y,b=B++[y]/\Paired F a B/\F x y
 |[],_,x,.cons h .nil=>#[[],_,rfl,.nil,h]
 |a :: as,_,x,.cons h r=>by obtain⟨B,y,e,p,q⟩:=cX r;subst e;exact#[_ :: B,y,rfl,.cons h p,q]
section
variable {P:Program} {w:World} {K:W.Frag} {mg:Str->Option Value} {base:Heap} {f g:Addr} {fd gd:FuncData}
inductive g0 (K:W.Frag) (vs:List V) (H:Hp) (Q:VK) (zz3:XK):Prop
 |mk (a:Addr) (ns:List Int) (h1_:vs=[.ref a]) (h2_:bp K H a (ns.map V.int)) (h3_:ns.length<=1000) (h4_:∀v k H',aq H H'->cP H' v k->(k.ok/\k.rE)->k.size<=2*ns.length+1->Q v H'):g0 K vs H Q zz3
theorem qU:a9 ["_law_cells","_law_pile","_law_cell","_law_way","_law_one","_law_kind"] ["_law_cells"] (ao oJ):=#[rfl,rfl,rfl,by decide +kernel,rfl,by decide +kernel,by decide +kernel]
theorem Bz {i:Int} (h:i=0\/i=1):∃b:Bool,rX [V.str "pair",V.str "to"] i=some (.str (tag b)):=by
 rcases h with e|e
 .subst e;exact⟨false,rfl⟩
 .subst e;exact⟨true,rfl⟩
theorem BA {i j:Int} (d:0<=i) (c:i < 4) (D:0<=j) (h:j.natAbs < 10 ^ 59):∃m:Int,0<=m/\m.natAbs < 10 ^ 59/\rX [V.int 0,V.int 1,V.int 2,V.int j] i=some (.int m):=by
 have:i=0\/i=1\/i=2\/i=3:=by omega
 rcases this with e|e|e|e
 .subst e;exact⟨0,by omega,by decide +kernel,rfl⟩
 .subst e;exact⟨1,by omega,by decide +kernel,rfl⟩
 .subst e;exact⟨2,by omega,by decide +kernel,rfl⟩
 .subst e;exact⟨j,D,h,rfl⟩
inductive yR (H:Hp) (a:Addr) (lp:Addr) (i:Nat) (σ:St) (H1:Hp):Prop
 |mk (o:_) (w':_) (one:_) (kd:_) (xs:_) (ks:_) (h1:σ=[some (.ref a),some (.ref lp),o,w',one,kd]) (h2:aq H H1) (h3:H1 lp=some (.lst xs)) (h4:Ks H1 xs ks) (h5:(∀k∈ks,k.ok/\k.rE)) (h6:sumK ks<=i):yR H a lp i σ H1
inductive BB (H:Hp) (a:Addr) (lp:Addr) (ns:List Int) (m:Nat) (σ:St) (H2:Hp):Prop
 |mk (o:_) (w':_) (one:_) (kv:_) (xs:_) (ks:_) (k:_) (h1:σ=[some (.ref a),some (.ref lp),o,w',one,some kv]) (h2:m=xs.length) (h3:aq H H2) (h4:H2 lp=some (.lst xs)) (h5:Ks H2 xs ks) (h6:(∀k∈ks,k.ok/\k.rE)) (h7:cP H2 kv k) (h8:(k.ok/\k.rE)) (h9:k.size+sumK ks+ks.length<=2*ns.length+1):BB H a lp ns m σ H2
def vL (K:W.Frag):TS:=aN (eQ (bD (bj (qi K) (af (1:Nat)) (cK av))) (bq (dZ (ai (bj (eL K) (cK (ai (tC (V.str (PySem.Str.ofString "pair"))) (ai (tC (V.str (PySem.Str.ofString "to"))) av))) (bj (rI (λ(x j:Int)=>(0:Int) < j) λ(i j:Int)=>V.int (i%j)) (lH (aV K) (ai (af (1:Nat)) av)) (tC (V.int (2:Int))))) (ai (iz K "list" iq (af (1:Nat))) (ai (af (5:Nat)) av)))) (az (5:Nat)))) (cT (af (5:Nat)))
def vM (K:W.Frag):TS:=aN (bq (dZ (ai (tC (V.str (PySem.Str.ofString "number"))) av)) (az (5:Nat))) (vL K)
def vN (K:W.Frag):TS:=aN (bq (iz K "list" iq (af (1:Nat))) (az (4:Nat))) (dk (ou K "list" cB (af (1:Nat)) (ai (dZ (ai (bj (eL K) (cK (ai (tC (V.str (PySem.Str.ofString "pair"))) (ai (tC (V.str (PySem.Str.ofString "to"))) av))) (bj (mW λ(i j:Int)=>V.int (i - j)) (af (3:Nat)) (tC (V.int (2:Int))))) (ai (iz K "list" iq (af (1:Nat))) (ai (af (4:Nat)) av)))) av)))
def vO (K:W.Frag):TS:=cI (bD (bj ki (af (3:Nat)) (tC (V.int (1:Int))))) (dk (ou K "list" cB (af (1:Nat)) (ai (dZ (ai (tC (V.str (PySem.Str.ofString "number"))) av)) av))) (dk (ou K "list" cB (af (1:Nat)) (ai (dZ (ai (tC (V.str (PySem.Str.ofString "blank"))) (ai (bj (eL K) (cK (ai (tC (V.int (0:Int))) (ai (tC (V.int (1:Int))) (ai (tC (V.int (2:Int))) (ai (lH hG (ai (cO K1.nQ [] E0 (ai (bj (rI pU λ(i j:Int)=>V.int (i / j)) (af (2:Nat)) (tC (V.int (4:Int)))) av)) av)) av))))) (bj (rI (λ(x j:Int)=>(0:Int) < j) λ(i j:Int)=>V.int (i%j)) (bj (rI pU λ(i j:Int)=>V.int (i / j)) (af (2:Nat)) (tC (V.int (4:Int)))) (tC (V.int (4:Int))))) av))) av)))
def vP (K:W.Frag):TS:=cI (jr (bD (bj (mW λ(i j:Int)=>V.bl (Decidable.decide (j < i))) (af (3:Nat)) (tC (V.int (1:Int))))) (bD (bj (mW λ(i j:Int)=>V.bl (Decidable.decide (j < i))) (lH (aV K) (ai (af (1:Nat)) av)) (tC (V.int (1:Int)))))) (vN K) (vO K)
def vQ (K:W.Frag):TS:=aN (bq (bj (rI (λ(x j:Int)=>(0:Int) < j) λ(i j:Int)=>V.int (i%j)) (af (2:Nat)) (tC (V.int (4:Int)))) (az (3:Nat))) (vP K)
def vR (K:W.Frag):TS:=aN (oh (iQ K (af (0:Nat))) (az (2:Nat)) (vQ K)) (vM K)
def vS (K:W.Frag):TS:=aN (bq (cK av) (az (1:Nat))) (vR K)
theorem vT (F:gj K "_law_kind_by" "_law_kind_by" oJ f fd) (G:aU P w K mg base cM 1 g gd ["_law_cell"] nQ) (bG:Binds K gd ["_law_cell"] []) (kG:W.keepIn K (.ref g)=true) (mG:mg "_law_any"=some (.ref g)) (ml:mg "len"=none) (ma:mg "abs"=none):aU P w K mg base cM 2 f fd ["_law_cells"] (g0 K):=by
 refine F.ok qU (λvs H Q E h=>?_) (λbi A a8 s H vs Q E hr h=>?_)
 .obtain⟨a,ns,rfl,_,_,_⟩:=h;rfl
 obtain⟨a,ns,rfl,hA,hn,q⟩:=h;have nd:=qU.nd;have hu:=fI hr;refine#[vS K,ae (ay (i:=1) nd rfl (Or.inl rfl) (ba ag)) (ae (gb PassesOwn.never rfl (fj (pv 0)) (dg (i:=2) nd rfl (Or.inl rfl)) (ae (ay (i:=3) nd rfl (Or.inl rfl) (cD fe (pv 2) ak)) (aj (cb (PW.pt (fc (aD xi (pv 3) ak (aX _)) (eK (aD xi (bX br rfl ml PySem.boot_len (aa (pv 1) ag)) ak (aX _))))) (ae (ay (i:=4) nd rfl (Or.inl rfl) (dq PySem.F.plainAttrs_list PySem.F.slot_list_pop PySem.F.type_list_pop dr (pv 1))) (aj (cp (eD PySem.F.plainAttrs_list PySem.F.slot_list_append PySem.F.type_list_append bV (pv 1) (aa (cj (aa (aB cf (ba (aa aZ (aa aZ ag))) (cD xf (pv 3) ak) (λ_ _=>rfl)) (aa (dq PySem.F.plainAttrs_list PySem.F.slot_list_pop PySem.F.type_list_pop dr (pv 1)) (aa (pv 4) ag)))) ag))))) (aj (cb (aD dj (pv 3) ak (aX _)) (aj (cp (eD PySem.F.plainAttrs_list PySem.F.slot_list_append PySem.F.type_list_append bV (pv 1) (aa (cj (aa aZ ag)) ag)))) (aj (cp (eD PySem.F.plainAttrs_list PySem.F.slot_list_append PySem.F.type_list_append bV (pv 1) (aa (cj (aa aZ (aa (aB cf (ba (aa ak (aa ak (aa ak (aa (bX pW rfl ma PyProof.Rows.boot_abs (aa (bU G hr rfl mG kG bG .nil bN (aa (cD gc (pv 2) ak) ag)) ag)) ag))))) (cD fe (cD gc (pv 2) ak) ak) (λ_ _=>rfl)) ag))) ag)))))))))) (ae (ay (i:=5) nd rfl (Or.inl rfl) (cj (aa aZ ag))) (ae (dm PassesOwn.never (aD (jy (Nat.lt_of_succ_lt hu)) (pv 1) (ba ag) (aX _)) (aj (ay (i:=5) nd rfl (Or.inl rfl) (cj (aa (aB cf (ba (aa aZ (aa aZ ag))) (cD fe (bX br rfl ml PySem.boot_len (aa (pv 1) ag)) ak) (λ_ _=>rfl)) (aa (dq PySem.F.plainAttrs_list PySem.F.slot_list_pop PySem.F.type_list_pop dr (pv 1)) (aa (pv 5) ag))))))) (aj (bc (pv 5)))))),?_];refine#[Nat.zero_le _,λl ap=>?_];have S1:aq H (upd H l (.lst [])):=aq.new ap;have aW:(ns.map V.int).length=ns.length:=List.length_map ..;refine#[_,rfl,a,rfl,#[_,S1.seq hA],gI (xs:=ns.map V.int) (yR H a l) #[none,none,none,none,[],[],rfl,S1,ab,.nil,by simp,Nat.le_refl _] (λi σ d hi ⟨_,_,_,_,_,_,_,t,_,_,_,_⟩=>t.seq hA) (λi x σ d hx hP=>?_) (λσ d hP=>?_)]
 .obtain⟨o,w',aM,kd,X,ks,rfl,t,n,kX,v,aH⟩:=hP;have hi:i < ns.length:=by
   have:=(List.getElem?_eq_some_iff.mp hx).1;rwa [aW] at this
  obtain⟨c,rfl⟩:∃c,x=.int c:=by
   rw[List.getElem?_map] at hx;cases e:ns[i]? with
   |none=>rw[e] at hx;cases hx
   |some c=>rw[e] at hx;exact#[c,(Option.some.inj hx).symm]
  have a3:X.length<=1000:=by rw[Paired.length kX];have:=gZ ks;omega
  refine#[_,rfl,_,_,rfl,rfl,(by show (0:Int) < 4;decide),?_];refine#[_,rfl,_,_,rfl,rfl,_,rfl,?_];have bb:0<=c%4:=Int.emod_nonneg _ (by decide);have bg:c%4 < 4:=Int.emod_lt_of_pos _ (by decide);have U:∀(r:Hp) (y:V) (kx:Kd) (C:List V) (N:List Kd) (w2 aT:Option V),aq H r->r l=some (.lst C)->Ks r C N->cP r y kx->(kx.ok/\kx.rE)->(∀k∈N,k.ok/\k.rE)->sumK N+kx.size<=i+1->yR H a l (i+1) [some (V.ref a),some (.ref l),some (.int c),w2,aT,kd] (upd r l (.lst (C++[y]))):=by
   intro r y kx C N w2 aT S R aC ky a1 a0 hs;have tk:Tk r (upd r l (.lst (C++[y]))):=Tk.lst R;refine#[_,_,_,_,C++[y],N++[kx],rfl,S.upd ap,ab,bZ (aC.mono tk) (.cons (ky.mono tk) .nil),λk hk=>?_,by rw[eG];exact hs];rcases List.mem_append.mp hk with z|z
   .exact a0 k z
   .rw[List.mem_singleton.mp z];exact a1
  by_cases h1:1 < c%4
  .refine bO (λ_=>?_) λz=>absurd (by simpa using h1) z;refine#[_,rfl,l,X,rfl,.inl (bp.of n),_,_,rfl,rfl,_,rfl,?_];by_cases h2:(1:Int) < (X.length:Int)
   .refine bO (λ_=>?_) λz=>absurd (by simpa using h2) z;obtain⟨ac,y1,rfl⟩:∃ac y1,X=ac++[y1]:=#[X.dropLast,X.getLast (by intro z;rw[z] at h2;simp at h2),(List.dropLast_concat_getLast _).symm];obtain⟨u,Y,rfl⟩:∃u Y,ac=u++[Y]:=#[ac.dropLast,ac.getLast (by intro z;rw[z] at h2;simp at h2),(List.dropLast_concat_getLast _).symm];obtain⟨bf,k1,rfl,aQ,aF⟩:=cX kX;obtain⟨a5,k2,rfl,aC,a4⟩:=cX aQ;refine#[_,rfl,.inl #[rfl,_,bp.of n],l,_,y1,rfl,rfl,n,by simp,?_];rw[List.dropLast_concat];have am:upd d l (.lst (u++[Y])) l=some (.lst (u++[Y])):=ab;have a2:Tk d (upd d l (.lst (u++[Y]))):=Tk.lst n;have S:aq H (upd d l (.lst (u++[Y]))):=t.upd ap;refine#[_,rfl,.inl #[rfl,_,bp.of am],?_];refine#[(by show 2<=sizeLine;decide),λL D=>?_];obtain⟨b,hb⟩:=Bz (i:=c%4 - 2) (by omega);refine#[_,rfl,_,_,rfl,rfl,L,_,_,_,rfl,rfl,bp.of ab,hb,?_];have B:aq H (upd (upd d l (.lst (u++[Y]))) L (.lst [.str "pair",.str "to"])):=S.upd (S.free D);have as:Tk d (upd (upd d l (.lst (u++[Y]))) L (.lst [.str "pair",.str "to"])):=a2.trans (Tk.new D);have O:upd (upd d l (.lst (u++[Y]))) L (.lst [.str "pair",.str "to"]) l=some (.lst (u++[Y])):=by rw[ah (au am D)];exact am
    generalize upd (upd d l (.lst (u++[Y]))) L (.lst [.str "pair",.str "to"])=p at B as O ⊢;refine#[_,rfl,.inl #[rfl,_,bp.of O],l,_,Y,rfl,rfl,O,by simp,?_];rw[List.dropLast_concat];have an:upd p l (.lst u) l=some (.lst u):=ab;have I:Tk d (upd p l (.lst u)):=as.trans (Tk.lst O);have S4:aq H (upd p l (.lst u)):=B.upd ap;generalize upd p l (.lst u)=H4 at an I S4 ⊢;refine#[_,rfl,(by show 3<=sizeLine;decide),λT J=>?_];have M:upd H4 T (.tup [.str (tag b),Y,y1]) l=some (.lst u):=by rw[ah (au an J)];exact an
    have aI:Tk d (upd H4 T (.tup [.str (tag b),Y,y1])):=I.trans (Tk.new J);refine#[l,u,.ref T,rfl,rfl,M,bh (by simp at a3;omega),?_];rw[eG,eG] at aH;refine U _ (.ref T) (.two b k2 k1) u a5 _ _ (S4.upd (S4.free J)) M (Ks.mono aI aC) #[T,Y,y1,rfl,ab,a4.mono aI,aF.mono aI] #[#[(v k2 (by simp)).1,(v k1 (by simp)).1],#[(v k2 (by simp)).2,(v k1 (by simp)).2]] (λk hk=>v k (by simp[hk])) (by simp only[Kd.size];omega)
   .refine bO (λz=>absurd (by simpa using z) h2) λ_=>?_;refine#[_,rfl,rfl,_,rfl,?_];by_cases h3:c%4=1
    .refine bO (λ_=>?_) λz=>absurd (by simp[h3]) z;refine#[_,rfl,.inl #[rfl,_,bp.of n],(by show 1<=sizeLine;decide),λT J=>?_];have M:upd d T (.tup [.str "number"]) l=some (.lst X):=by rw[ah (au n J)];exact n
     refine#[l,X,.ref T,rfl,rfl,M,bh (by omega),?_];exact U _ (.ref T) .num X ks _ _ (t.upd (t.free J)) M (kX.mono (Tk.new J)) #[T,rfl,ab] #[trivial,trivial] v (by simp only[Kd.size];omega)
    .refine bO (λz=>absurd (by simpa using z) h3) λ_=>?_;refine#[_,rfl,.inl #[rfl,_,bp.of n],?_];refine#[_,rfl,_,_,rfl,rfl,#[by decide,by decide],c / 4,rfl,λj r a7 S=>?_];refine#[j,rfl,(by show 4<=sizeLine;decide),λl4 al=>?_];refine#[_,rfl,_,_,rfl,rfl,#[by decide,by decide],_,_,rfl,rfl,(by show (0:Int) < 4;decide),?_];obtain⟨m,aL,aJ,hm⟩:=BA (i:=c / 4%4) (j:=if j < 0 then -j else j) (Int.emod_nonneg _ (by decide)) (Int.emod_lt_of_pos _ (by decide)) (by split <;> omega) (by split <;> omega);refine#[l4,_,_,_,rfl,rfl,bp.of ab,hm,(by show 2<=sizeLine;decide),λT J=>?_];have R:r l=some (.lst X):=S _ _ n;have O:=(show upd r l4 (.lst [.int 0,.int 1,.int 2,.int (if j < 0 then -j else j)]) l=some (.lst X) by rw[ah (au R al)];exact R);have B:aq d (upd r l4 (.lst [.int 0,.int 1,.int 2,.int (if j < 0 then -j else j)])):=S.upd (S.free al);have S4:aq d (upd (upd r l4 (.lst [.int 0,.int 1,.int 2,.int (if j < 0 then -j else j)])) T (.tup [.str "blank",.int m])):=B.upd (B.free J);have M:upd (upd r l4 (.lst [.int 0,.int 1,.int 2,.int (if j < 0 then -j else j)])) T (.tup [.str "blank",.int m]) l=some (.lst X):=by rw[ah (au O J)];exact O
     refine#[l,X,.ref T,rfl,rfl,M,bh (by omega),?_];exact U _ (.ref T) (.ax m) X ks _ _ (t.trans S4) M (kX.mono S4.tk) #[T,rfl,ab] #[aL,aJ] v (by simp only[Kd.size];omega)
  .refine bO (λz=>absurd (by simpa using z) h1) λ_=>?_
   .refine cA ?_;refine#[_,rfl,rfl,_,rfl,?_];by_cases h3:c%4=1
    .refine bO (λ_=>?_) λz=>absurd (by simp[h3]) z;refine#[_,rfl,.inl #[rfl,_,bp.of n],(by show 1<=sizeLine;decide),λT J=>?_];have M:upd d T (.tup [.str "number"]) l=some (.lst X):=by rw[ah (au n J)];exact n
     refine#[l,X,.ref T,rfl,rfl,M,bh (by omega),?_];exact U _ (.ref T) .num X ks _ _ (t.upd (t.free J)) M (kX.mono (Tk.new J)) #[T,rfl,ab] #[trivial,trivial] v (by simp only[Kd.size];omega)
    .refine bO (λz=>absurd (by simpa using z) h3) λ_=>?_;refine#[_,rfl,.inl #[rfl,_,bp.of n],?_];refine#[_,rfl,_,_,rfl,rfl,#[by decide,by decide],c / 4,rfl,λj r a7 S=>?_];refine#[j,rfl,(by show 4<=sizeLine;decide),λl4 al=>?_];refine#[_,rfl,_,_,rfl,rfl,#[by decide,by decide],_,_,rfl,rfl,(by show (0:Int) < 4;decide),?_];obtain⟨m,aL,aJ,hm⟩:=BA (i:=c / 4%4) (j:=if j < 0 then -j else j) (Int.emod_nonneg _ (by decide)) (Int.emod_lt_of_pos _ (by decide)) (by split <;> omega) (by split <;> omega);refine#[l4,_,_,_,rfl,rfl,bp.of ab,hm,(by show 2<=sizeLine;decide),λT J=>?_];have R:r l=some (.lst X):=S _ _ n;have O:=(show upd r l4 (.lst [.int 0,.int 1,.int 2,.int (if j < 0 then -j else j)]) l=some (.lst X) by rw[ah (au R al)];exact R);have B:aq d (upd r l4 (.lst [.int 0,.int 1,.int 2,.int (if j < 0 then -j else j)])):=S.upd (S.free al);have S4:aq d (upd (upd r l4 (.lst [.int 0,.int 1,.int 2,.int (if j < 0 then -j else j)])) T (.tup [.str "blank",.int m])):=B.upd (B.free J);have M:upd (upd r l4 (.lst [.int 0,.int 1,.int 2,.int (if j < 0 then -j else j)])) T (.tup [.str "blank",.int m]) l=some (.lst X):=by rw[ah (au O J)];exact O
     refine#[l,X,.ref T,rfl,rfl,M,bh (by omega),?_];exact U _ (.ref T) (.ax m) X ks _ _ (t.trans S4) M (kX.mono S4.tk) #[T,rfl,ab] #[aL,aJ] v (by simp only[Kd.size];omega)
 .obtain⟨o,w',aM,kd,X,ks,rfl,t,n,kX,v,aH⟩:=hP;rw[aW] at aH;refine#[(by show 1<=sizeLine;decide),λtn aO=>?_];have am:upd d tn (.tup [.str "number"]) l=some (.lst X):=by rw[ah (au n aO)];exact n
  have be:=gZ ks;refine#[(BB H a l ns),#[X.length,o,w',aM,.ref tn,X,ks,.num,rfl,rfl,t.upd (t.free aO),am,kX.mono (Tk.new aO),v,#[tn,rfl,ab],#[trivial,trivial],by simp only[Kd.size];omega],?_];rintro m σ r ⟨o,w',aM,kv,X,ks,k,rfl,rfl,t,n,kX,v,kk,aP,aY⟩;refine#[_,rfl,Nat.zero_le _,λle aR=>?_];have S1:aq H (upd r le (.lst [])):=t.upd (t.free aR);have aS:Tk r (upd r le (.lst [])):=Tk.new aR;have Z:upd r le (.lst []) l=some (.lst X):=by rw[ah (au n aR)];exact n
  refine#[l,le,X,rfl,rfl,bp.of Z,bp.of ab,_,rfl,?_];have aA:=kX.mono aS;have aK:=kk.mono aS;generalize upd r le (.lst [])=p at S1 Z aA aK ⊢;rcases List.eq_nil_or_concat X with rfl|⟨C,y,rfl⟩
  .cases aA;exact cA #[_,rfl,q kv k p S1 aK aP (by simp[sumK] at aY;omega)]
  .rw[List.concat_eq_append] at Z aA ⊢;obtain⟨N,ky,rfl,aQ,aF⟩:=cX aA;have he:(!(C++[y]).isEmpty)=true:=by simp
   refine gF he ?_;refine#[_,λ_ _ z=>z,?_];refine#[(by show 2<=sizeLine;decide),λL D=>?_];have S:aq H (upd p L (.lst [.str "pair",.str "to"])):=S1.upd (S1.free D);have a6:Tk p (upd p L (.lst [.str "pair",.str "to"])):=Tk.new D;have R:upd p L (.lst [.str "pair",.str "to"]) l=some (.lst (C++[y])):=by rw[ah (au Z D)];exact Z
   obtain⟨b,hb⟩:=Bz (i:=(((C++[y]).length:Nat):Int)%2) (by omega);refine#[_,rfl,l,_,rfl,.inl (bp.of R),_,_,rfl,rfl,(by show (0:Int) < 2;decide),L,_,_,_,rfl,rfl,bp.of ab,hb,?_];refine#[_,rfl,.inl #[rfl,_,bp.of R],l,_,y,rfl,rfl,R,by simp,?_];rw[List.dropLast_concat];have as:Tk p (upd (upd p L (.lst [.str "pair",.str "to"])) l (.lst C)):=a6.trans (Tk.lst R);have B:aq H (upd (upd p L (.lst [.str "pair",.str "to"])) l (.lst C)):=S.upd ap;refine#[_,rfl,(by show 3<=sizeLine;decide),λT J=>?_];have an:upd (upd (upd p L (.lst [.str "pair",.str "to"])) l (.lst C)) T (.tup [.str (tag b),y,kv]) l=some (.lst C):=by rw[ah (au ab J),ab]
   have I:=as.trans (Tk.new (o:=.tup [.str (tag b),y,kv]) J);rw[eG,List.length_append] at aY;have bd:[ky].length=1:=rfl;refine#[C.length,by simp,_,_,_,.ref T,C,N,.two b ky k,rfl,rfl,B.upd (B.free J),an,Ks.mono I aQ,λk hk=>v k (by simp[hk]),#[T,y,kv,rfl,ab,aF.mono I,aK.mono I],#[#[(v ky (by simp)).1,aP.1],#[(v ky (by simp)).2,aP.2]],by simp only[Kd.size];omega]
end
def AI:Kd->Nat
 | .num=>1
 | .ax _=>2
 | .two _ _ _=>3
abbrev wN:List (Key×V):=[(Sum.inr "number",.int 1),(Sum.inr "blank",.int 2),(Sum.inr "pair",.int 3),(Sum.inr "to",.int 3)]
theorem yS (k:Kd):cE (dX [] wN) (Sum.inr (iw k))=some (.int (AI k)):=by
 cases k with
 |num=>show cE (dX [] wN) (Sum.inr "number")=some (.int 1);decide +kernel
 |ax n=>show cE (dX [] wN) (Sum.inr "blank")=some (.int 2);decide +kernel
 |two f a b=>
  cases f
  .show cE (dX [] wN) (Sum.inr "pair")=some (.int 3);decide +kernel
  .show cE (dX [] wN) (Sum.inr "to")=some (.int 3);decide +kernel
theorem nR {H:Hp} {k:Kd} {xs:List V} (h:Rest H k xs) (y:V):(y :: xs).length=AI k:=by
 cases k with
 |num=>cases h;rfl
 |ax n=>cases h;rfl
 |two f a b=>obtain⟨x,y,rfl,_⟩:=h;rfl
section
variable {P:Program} {w:World} {K:W.Frag} {mg:Str->Option Value} {base:Heap} {f g:Addr} {fd gd:FuncData}
inductive jh (vs:List V) (H:Hp) (Q:VK) (zz3:XK):Prop
 |mk (v:_) (k:_) (h1_:vs=[v]) (h2_:cP H v k) (h3_:k.ok) (h4_:k.size<=10000000) (h5_:∀H',aq H H'->Q (.bl true) H'):jh vs H Q zz3
theorem qV:a9 ["_law_found","_law_todo","_law_part","_law_sizes"] ["_law_found"] (ao oN):=#[rfl,rfl,rfl,by decide +kernel,rfl,by decide +kernel,by decide +kernel]
inductive BC (H:Hp) (k:Kd) (v:V) (m:Nat) (σ:St) (H1:Hp):Prop
 |mk (p:_) (z:_) (ws:_) (ks:_) (lw:_) (h1:σ=[some v,some (.ref lw),p,z]) (h2:H lw=none) (h3:m=sumK ks) (h4:aq H H1) (h5:H1 lw=some (.lst ws)) (h6:Ks H1 ws ks) (h7:(∀k∈ks,k.ok)) (h8:sumK ks<=10000000):BC H k v m σ H1
def vU (K:W.Frag):TS:=cI (bD (bj ki (lH (aV K) (ai (af (2:Nat)) av)) (tC (V.int (3:Int))))) (bq (bj uG (af (1:Nat)) (cK (ai (bj (cn K) (af (2:Nat)) (tC (V.int (1:Int)))) (ai (bj (cn K) (af (2:Nat)) (tC (V.int (2:Int)))) av)))) (az (1:Nat))) cC
def vV (K:W.Frag):TS:=aN (cI (jr (bD (bj ki (bj (cn K) (af (2:Nat)) (tC (V.int (0:Int)))) (tC (V.str (PySem.Str.ofString "blank"))))) (CT (mT (iS K (cO K1.lb [] E0 (ai (bj (cn K) (af (2:Nat)) (tC (V.int (1:Int)))) av)))) (bD (bj (mW λ(i j:Int)=>V.bl (Decidable.decide (i < j))) (bj (cn K) (af (2:Nat)) (tC (V.int (1:Int)))) (tC (V.int (0:Int))))))) (cT (tC (V.bl Bool.false))) cC) (vU K)
def vW (K:W.Frag):TS:=aN (cI (bD (bj CV (sf (af (3:Nat)) (bj (cn K) (af (2:Nat)) (tC (V.int (0:Int)))) (tC (V.int (0:Int)))) (lH (aV K) (ai (af (2:Nat)) av)))) (cT (tC (V.bl Bool.false))) cC) (vV K)
def vX (K:W.Frag):TS:=aN (bq (Bo [(tC (V.str (PySem.Str.ofString "number")),tC (V.int (1:Int))),(tC (V.str (PySem.Str.ofString "blank")),tC (V.int (2:Int))),(tC (V.str (PySem.Str.ofString "pair")),tC (V.int (3:Int))),(tC (V.str (PySem.Str.ofString "to")),tC (V.int (3:Int)))]) (az (3:Nat))) (vW K)
def vY (K:W.Frag):TS:=aN (cI (CT (mT (iS K (lH (zL K) (ai (af (2:Nat)) (ai (tC (V.ty "tuple")) av))))) (CT (bD (bj ki (lH (aV K) (ai (af (2:Nat)) av)) (tC (V.int (0:Int))))) (mT (iS K (lH (zL K) (ai (bj (cn K) (af (2:Nat)) (tC (V.int (0:Int)))) (ai (tC (V.ty "str")) av))))))) (cT (tC (V.bl Bool.false))) cC) (vX K)
def vZ (K:W.Frag):TS:=aN (bq (iz K "list" iq (af (1:Nat))) (az (2:Nat))) (vY K)
def v3 (K:W.Frag):TS:=aN (eQ (bD (bj (qi K) (af (1:Nat)) (cK av))) (vZ K)) (cT (tC (V.bl Bool.true)))
def v5 (K:W.Frag):TS:=aN (bq (cK (ai (af (0:Nat)) av)) (az (1:Nat))) (v3 K)
theorem v7 (F:gj K "_law_is_kind" "_law_is_kind" oN f fd) (G:aU P w K mg base cM 1 g gd ["_law_found"] lb) (bG:Binds K gd ["_law_found"] []) (kG:W.keepIn K (.ref g)=true) (mG:mg "_law_whole"=some (.ref g)) (ml:mg "len"=none) (mi:mg "isinstance"=none) (mt:mg "tuple"=none) (ms:mg "str"=none):aU P w K mg base cM 2 f fd ["_law_found"] jh:=by
 refine F.ok qV (λvs H Q E h=>?_) (λaI A aH s H vs Q E hr h=>?_)
 .obtain⟨v,k,rfl,_,_,_,_⟩:=h;rfl
 obtain⟨v,k,rfl,hk,bE,hB,q⟩:=h;have nd:=qV.nd;have hu:=fI hr;refine#[v5 K,ae (ay (i:=1) nd rfl (Or.inl rfl) (ba (aa (pv 0) ag))) (ae (dm PassesOwn.never (aD (jy (Nat.lt_of_succ_lt hu)) (pv 1) (ba ag) (aX _)) (ae (ay (i:=2) nd rfl (Or.inl rfl) (dq PySem.F.plainAttrs_list PySem.F.slot_list_pop PySem.F.type_list_pop dr (pv 1))) (ae (cb (PW.pt (pQ (fY (cU (bX iX rfl mi PyProof.Rows.boot_isinstance (aa (pv 2) (aa (kg (v:=.ty "tuple") rfl mt PyProof.Rows.boot_tuple rfl) ag))) (λ_=>rfl))) (pQ (aD dj (bX br rfl ml PySem.boot_len (aa (pv 2) ag)) ak (aX _)) (oa (fY (cU (bX iX rfl mi PyProof.Rows.boot_isinstance (aa (aB aG (pv 2) ak (λ_ _=>rfl)) (aa (kg (v:=.ty "str") rfl ms PyProof.Rows.boot_str rfl) ag))) (λ_=>rfl))))))) (aj (bc e7)) bw) (ae (ay (i:=3) nd rfl (Or.inl rfl) (zJ (iW aZ ak (iW aZ ak (iW aZ ak (iW aZ ak zI)))) rfl rfl (by simp) (by decide))) (ae (cb (aD pV (qh hu (pv 3) (aB aG (pv 2) ak (λ_ _=>rfl)) ak #[rfl,rfl,rfl,rfl]) (bX br rfl ml PySem.boot_len (aa (pv 2) ag)) (aX _)) (aj (bc e7)) bw) (ae (cb (PW.pt (fc (aD dj (aB aG (pv 2) ak (λ_ _=>rfl)) aZ (aX _)) (eK (PW.pt (pQ (fY (cU (bU G hr rfl mG kG bG .nil bN (aa (aB aG (pv 2) ak (λ_ _=>rfl)) ag)) (λ_=>rfl))) (oa (aD tQ (aB aG (pv 2) ak (λ_ _=>rfl)) ak (aX _)))))))) (aj (bc e7)) bw) (aj (cb (aD dj (bX br rfl ml PySem.boot_len (aa (pv 2) ag)) ak (aX _)) (aj (ay (i:=1) nd rfl (Or.inl rfl) (cD ox (pv 1) (ba (aa (aB aG (pv 2) ak (λ_ _=>rfl)) (aa (aB aG (pv 2) ak (λ_ _=>rfl)) ag)))))) bw)))))))) (aj (bc e7))),?_];refine#[_,rfl,(by show 1<=sizeLine;decide),λal C=>?_];have S0:aq H (upd H al (.lst [v])):=aq.new C;refine#[(BC H k v),#[sumK [k],none,none,[v],[k],al,rfl,C,rfl,S0,ab,.cons (hk.mono S0.tk) .nil,by simpa using bE,by simpa [sumK] using hB],?_];rintro m σ H1 ⟨p,z,ws,ks,L,rfl,e,rfl,hS,hW,kW,am,hZ⟩;have d:ws.length<=10000000:=by rw[Paired.length kW];exact Nat.le_trans (gZ ks) hZ
 refine#[_,rfl,Nat.zero_le _,λle B=>?_];have S1:aq H (upd H1 le (.lst [])):=hS.upd (hS.free B);have aC:Tk H1 (upd H1 le (.lst [])):=Tk.new B;have u:upd H1 le (.lst []) L=some (.lst ws):=by rw[ah (au hW B)];exact hW
 refine#[L,le,ws,rfl,rfl,bp.of u,bp.of ab,_,rfl,?_];have I:=kW.mono aC;generalize upd H1 le (.lst [])=H2 at S1 u I ⊢;rcases List.eq_nil_or_concat ws with rfl|⟨o,x,rfl⟩
 .exact cA (q H2 S1)
 .rw[List.concat_eq_append] at u I d ⊢;obtain⟨N,t,rfl,aF,kx⟩:=cX I;have he:(!(o++[x]).isEmpty)=true:=by simp
  refine gF he ?_;refine#[_,λ_ _ z=>z,?_];refine#[_,rfl,.inl #[rfl,_,bp.of u],L,o++[x],x,rfl,rfl,u,by simp,?_];rw[List.dropLast_concat];have an:Tk H2 (upd H2 L (.lst o)):=Tk.lst u;have S2:aq H (upd H2 L (.lst o)):=S1.upd e;have M:upd H2 L (.lst o) L=some (.lst o):=ab;have ap:=Ks.mono an aF;have as:=kx.mono an;generalize upd H2 L (.lst o)=H3 at S2 M ap as ⊢;obtain⟨c,xs,rfl,hx,rx⟩:=as.shape;refine#[_,rfl,.ref c,"tuple",_,true,rfl,.tup hx,mx _ _,true,rfl,cA ?_];refine#[_,rfl,c,_,rfl,.inr (cx.of hx),rfl,_,rfl,?_];refine bO (λz=>absurd z (by simp;omega)) λ_=>?_;refine#[_,rfl,c,_,0,_,rfl,rfl,cx.of hx,ar (j:=0) rfl,.str _,"str",_,true,rfl,.str _,mx _ _,true,rfl,cA ?_];intro ld D;refine#[ab,wN,rfl,by decide,?_];rw[iN];have S4:aq H (upd H3 ld (.dK (dX [] wN))):=S2.upd (S2.free D);have l:Tk H3 (upd H3 ld (.dK (dX [] wN))):=Tk.new D;have R:upd H3 ld (.dK (dX [] wN)) L=some (.lst o):=by rw[ah (au M D)];exact M
  have O:=l _ _ hx;have U:=rx.mono l;have S:=ap.mono l;have T:upd H3 ld (.dK (dX [] wN)) ld=some (.dK (dX [] wN)):=ab;generalize upd H3 ld (.dK (dX [] wN))=H4 at S4 R O U S T ⊢;refine#[_,rfl,ld,rfl,.inl #[_,.inl T],?_];refine#[_,rfl,c,_,0,_,rfl,rfl,cx.of O,ar (j:=0) rfl,some (.int (AI t)),by rw[<-yS];exact d0.k (k:=Sum.inr (iw t)) T,?_];refine#[_,rfl,c,_,rfl,.inr (cx.of O),rfl,_,rfl,?_];refine bO (λz=>absurd z (by rw[nR U];simp)) λ_=>?_;refine#[_,rfl,c,_,0,_,rfl,rfl,cx.of O,ar (j:=0) rfl,rfl,_,rfl,?_];have Z:t.ok:=am t (by simp);have Y:∀k∈N,k.ok:=λk hk=>am k (by simp[hk]);rw[eG] at hZ;cases t with
  |num=>refine bO (λz=>absurd z (by simp[iw];decide)) λ_=>?_;refine cA ?_;refine#[_,rfl,c,_,rfl,.inr (cx.of O),rfl,_,rfl,?_];refine bO (λz=>absurd z (by rw[nR U];simp[AI])) λ_=>?_;exact#[sumK N,by rw[eG];simp only[Kd.size];omega,_,_,o,N,L,rfl,e,rfl,S4,R,S,Y,by omega]
  |ax n=>refine bO (λ_=>?_) λz=>absurd (by simp[iw]) z;cases U;refine#[_,rfl,c,_,1,_,rfl,rfl,cx.of O,ar (j:=1) rfl,n,rfl,true,rfl,cA ?_];refine#[_,rfl,c,_,1,_,rfl,rfl,cx.of O,ar (j:=1) rfl,_,_,rfl,rfl,_,rfl,?_];have hn:0<=n:=Z;refine bO (λz=>absurd z (by simpa using hn)) λ_=>?_;refine#[_,rfl,c,_,rfl,.inr (cx.of O),rfl,_,rfl,?_];refine bO (λz=>absurd z (by simp)) λ_=>?_;exact#[sumK N,by rw[eG];simp only[Kd.size];omega,_,_,o,N,L,rfl,e,rfl,S4,R,S,Y,by omega]
  |two g' a b=>
   refine bO (λz=>absurd z (by simp[iw,gq])) λ_=>?_;refine cA ?_;refine#[_,rfl,c,_,rfl,.inr (cx.of O),rfl,_,rfl,?_];obtain⟨X,y,rfl,ka,kb⟩:=U;refine bO (λ_=>?_) λz=>absurd (by simp) z;refine#[_,rfl,_,rfl,c,_,1,X,rfl,rfl,cx.of O,ar (j:=1) rfl,_,rfl,c,_,2,y,rfl,rfl,cx.of O,ar (j:=2) rfl,(by show 2<=sizeLine;decide),λl2 r=>?_];have aA:upd H4 l2 (.lst [X,y]) L=some (.lst o):=by rw[ah (au R r)];exact R
   refine#[L,l2,o,[X,y],rfl,rfl,aA,ab,kL (by simp at d ⊢;omega),λl3 J=>?_];have S5:aq H (upd H4 l2 (.lst [X,y])):=S4.upd (S4.free r);have S6:aq H (upd (upd H4 l2 (.lst [X,y])) l3 (.lst (o++[X,y]))):=S5.upd (S5.free J);have ac:Tk H4 (upd (upd H4 l2 (.lst [X,y])) l3 (.lst (o++[X,y]))):=(Tk.new r).trans (Tk.new J);have e1:sumK (N++[a,b])=sumK N+a.size+b.size:=by simp[sumK];omega
   refine#[sumK (N++[a,b]),by rw[eG,e1];simp only[Kd.size];omega,_,_,o++[X,y],N++[a,b],l3,rfl,S5.free J,rfl,S6,ab,bZ (S.mono ac) (.cons (ka.mono ac) (.cons (kb.mono ac) .nil)),λk hk=>?_,by rw[e1];simp only[Kd.size] at hZ;omega];rcases List.mem_append.mp hk with z|z
   .exact Y k z
   .rcases List.mem_cons.mp z with z|z
    .rw[z];exact Z.1
    .rw[List.mem_singleton.mp z];exact Z.2
end
theorem pE {A:Around} {k:Nat} (h:dG k A) (a:180<=k):A.units+3000 < cLine:=by have:=h.un;omega
section
variable {P:Program} {w:World} {K:W.Frag} {mg:Str->Option Value} {base:Heap} {f g:Addr} {fd gd:FuncData}
inductive fF (vs:List V) (H:Hp) (Q:VK) (zz3:XK):Prop
 |mk (v1:_) (lk:_) (v2:_) (k1:_) (k2:_) (h1_:vs=[v1,.ref lk,v2]) (h2_:cP H v1 k1) (h3_:H lk=some (.lst [])) (h4_:cP H v2 k2) (h5_:k1.size<=50000) (h6_:k2.deep<=3000) (h7_:∀H',aq H H'->Q (.bl (fit k1 k2)) H'):fF vs H Q zz3
theorem my:a9 ["_law_wide","_law_kept","_law_kind","_law_filling","_law_todo","_law_here","_law_there"] ["_law_wide","_law_kept","_law_kind"] (ao jD):=#[rfl,rfl,rfl,by decide +kernel,rfl,by decide +kernel,by decide +kernel]
inductive yT (H:Hp) (k1:Kd) (k2:Kd) (ld:Addr) (lk:Addr) (v1:V) (v2:V) (m:Nat) (σ:St) (H1:Hp):Prop
 |mk (hh:_) (tt:_) (kvs:_) (ws:_) (ps:_) (φ:_) (lw:_) (h1:σ=[some v1,some (.ref lk),some v2,some (.ref ld),some (.ref lw),hh,tt]) (h2:H lw=none) (h3:m=eg ps) (h4:aq H H1) (h5:H1 ld=some (.dK kvs)) (h6:H1 lw=some (.lst ws)) (h7:Ps H1 ws ps.reverse) (h8:oI H1 kvs φ) (h9:mP φ ps=mP (λ_=>none) [(k1,k2)]) (h10:kvs.length+eg ps<=50000) (h11:(∀p∈ps,p.2.deep<=3000)) (h12:(∀n t,φ n=some t->t.deep<=3000)):yT H k1 k2 ld lk v1 v2 m σ H1
def qW (K:W.Frag):TS:=aN (cI (jr (tB (xH (bj (cn K) (af (5:Nat)) (tC (V.int (1:Int)))) (af (3:Nat)))) (bD (bj sj (jU (af (3:Nat)) (bj (cn K) (af (5:Nat)) (tC (V.int (1:Int))))) (af (6:Nat))))) (cT (tC (V.bl Bool.false))) cC) (iV (af (3:Nat)) (bj (cn K) (af (5:Nat)) (tC (V.int (1:Int)))) (af (6:Nat)))
def qX (K:W.Frag):TS:=cI (bD (bj ki (lH (aV K) (ai (af (5:Nat)) av)) (tC (V.int (3:Int))))) (bq (bj uG (af (4:Nat)) (cK (ai (dZ (ai (bj (cn K) (af (5:Nat)) (tC (V.int (1:Int)))) (ai (bj (cn K) (af (6:Nat)) (tC (V.int (1:Int)))) av))) (ai (dZ (ai (bj (cn K) (af (5:Nat)) (tC (V.int (2:Int)))) (ai (bj (cn K) (af (6:Nat)) (tC (V.int (2:Int)))) av))) av)))) (az (4:Nat))) cC
def qY (K:W.Frag):TS:=cI (bD (bj CV (bj (cn K) (af (5:Nat)) (tC (V.int (0:Int)))) (bj (cn K) (af (6:Nat)) (tC (V.int (0:Int)))))) (cT (tC (V.bl Bool.false))) (qX K)
def qZ (K:W.Frag):TS:=cI (bD (bj ki (bj (cn K) (af (5:Nat)) (tC (V.int (0:Int)))) (tC (V.str (PySem.Str.ofString "blank"))))) (qW K) (qY K)
def q0 (K:W.Frag):TS:=cI (jr (bD (bj ki (bj (cn K) (af (5:Nat)) (tC (V.int (0:Int)))) (tC (V.str (PySem.Str.ofString "blank"))))) (bD (bj (CY K Bool.false) (bj (cn K) (af (5:Nat)) (tC (V.int (1:Int)))) (af (1:Nat))))) wY (qZ K)
def q9 (K:W.Frag):TS:=aN (bq (iz K "list" iq (af (4:Nat))) (zl K (2:Nat) (ny (az (5:Nat)) (ny (az (6:Nat)) BV)))) (q0 K)
def rb (K:W.Frag):TS:=aN (eQ (bD (bj (qi K) (af (4:Nat)) (cK av))) (q9 K)) (cT (tC (V.bl Bool.true)))
def rj (K:W.Frag):TS:=aN (bq (cK (ai (dZ (ai (af (0:Nat)) (ai (af (2:Nat)) av))) av)) (az (4:Nat))) (rb K)
def rl (K:W.Frag):TS:=aN (bq jx (az (3:Nat))) (rj K)
theorem rm (F:gj K "_law_instance" "_law_instance" jD f fd) (ml:mg "len"=none):aU P w K mg base cM 200 f fd ["_law_wide","_law_kept","_law_kind"] fF:=by
 refine F.ok (k:=199) my (λvs H Q E h=>?_) (λbi A bf s H vs Q E hr h=>?_)
 .obtain⟨v1,lk,v2,k1,k2,rfl,_,_,_,_,_,_⟩:=h;rfl
 obtain⟨v1,lk,v2,k1,k2,rfl,h1,a0,h2,bd,a4,q⟩:=h;have nd:=my.nd;have hu:=fI hr;have a8:=pE hr (by decide);refine#[rl K,ae (ay (i:=3) nd rfl (Or.inl rfl) gM) (ae (ay (i:=4) nd rfl (Or.inl rfl) (ba (aa (cj (aa (pv 0) (aa (pv 2) ag))) ag))) (ae (dm PassesOwn.never (aD (jy (Nat.lt_of_succ_lt hu)) (pv 4) (ba ag) (aX _)) (ae (lB (dq PySem.F.plainAttrs_list PySem.F.slot_list_pop PySem.F.type_list_pop dr (pv 4)) (wZ rfl (iP (dg (i:=5) nd rfl (Or.inl rfl)) (iP (dg (i:=6) nd rfl (Or.inl rfl)) tK)))) (aj (cb (PW.pt (fc (aD dj (aB aG (pv 5) ak (λ_ _=>rfl)) aZ (aX _)) (eK (aD ic (aB aG (pv 5) ak (λ_ _=>rfl)) (pv 1) rfl)))) uw (aj (cb (aD dj (aB aG (pv 5) ak (λ_ _=>rfl)) aZ (aX _)) (ae (cb (PW.pt (fc (fX (oA hu (aB aG (pv 5) ak (λ_ _=>rfl)) (pv 3))) (eK (aD (lQ a8) (gp hu (pv 3) (aB aG (pv 5) ak (λ_ _=>rfl)) (λ_ _=>rfl)) (pv 6) (aX _))))) (aj (bc e7)) bw) (aj (fJ hu (pv 3) (aB aG (pv 5) ak (λ_ _=>rfl)) (pv 6) rfl))) (aj (cb (aD pV (aB aG (pv 5) ak (λ_ _=>rfl)) (aB aG (pv 6) ak (λ_ _=>rfl)) (aX _)) (aj (bc e7)) (aj (cb (aD dj (bX br rfl ml PySem.boot_len (aa (pv 5) ag)) ak (aX _)) (aj (ay (i:=4) nd rfl (Or.inl rfl) (cD ox (pv 4) (ba (aa (cj (aa (aB aG (pv 5) ak (λ_ _=>rfl)) (aa (aB aG (pv 6) ak (λ_ _=>rfl)) ag))) (aa (cj (aa (aB aG (pv 5) ak (λ_ _=>rfl)) (aa (aB aG (pv 6) ak (λ_ _=>rfl)) ag))) ag)))))) bw)))))))))) (aj (bc e7)))),?_];intro ld aP;refine#[_,rfl,_,rfl,(by show 2<=sizeLine;decide),λlp aF=>?_];refine#[(by show 1<=sizeLine;decide),λM D=>?_];have S1:aq H (upd H ld (.dK [])):=aq.new aP;have a7:H lp=none:=S1.free aF;have S:aq H (upd (upd H ld (.dK [])) lp (.tup [v1,v2])):=S1.upd a7;have C:H M=none:=S.free D;have aS:ld≠lp:=λz=>by rw[<-z,ab] at aF;cases aF
 have aY:lp≠M:=λz=>by rw[<-z,ab] at D;cases D
 have Y:ld≠M:=λz=>by rw[<-z,ah aS,ab] at D;cases D
 have S3:aq H (upd (upd (upd H ld (.dK [])) lp (.tup [v1,v2])) M (.lst [.ref lp])):=S.upd C;refine#[(yT H k1 k2 ld lk v1 v2),#[eg [(k1,k2)],none,none,[],[.ref lp],[(k1,k2)],λ_=>none,M,rfl,C,rfl,S3,by rw[ah Y,ah aS,ab],ab,.cons #[lp,v1,v2,rfl,by rw[ah aY,ab],h1.mono S3.tk,h2.mono S3.tk] .nil,oI.nil _,rfl,by simpa [eg] using bd,by simpa using a4,λ_ _ z=>by cases z],?_];rintro m σ g ⟨hh,tt,l,ws,ps,r,L,rfl,C,rfl,hS,hD,hW,kW,kD,R,hZ,hP,Z⟩;have aT:ws.length<=50000:=by rw[Paired.length kW,List.length_reverse];have:=iZ ps;omega
 refine#[_,rfl,Nat.zero_le _,λle B=>?_];have S1:aq H (upd g le (.lst [])):=hS.upd (hS.free B);have aK:Tk g (upd g le (.lst [])):=Tk.new B;have al:upd g le (.lst []) ld=some (.dK l):=by rw[ah (au hD B)];exact hD
 have u:upd g le (.lst []) L=some (.lst ws):=by rw[ah (au hW B)];exact hW
 refine#[L,le,ws,rfl,rfl,bp.of u,bp.of ab,_,rfl,?_];have I:=kW.mono aK;have aL:=kD.mono aK;generalize upd g le (.lst [])=g at S1 al u I aL ⊢;cases ps with
 |nil=>cases I;refine cA ?_;have:=q g S1;unfold fit at this;rw[<-R] at this;exact this
 |cons p rest=>
  obtain⟨a,c⟩:=p;rw[List.reverse_cons] at I;obtain⟨o,x,rfl,aW,kx⟩:=bt I;have he:(!(o++[x]).isEmpty)=true:=by simp
  refine gF he ?_;refine#[_,λ_ _ z=>z,?_];refine#[_,rfl,.inl #[rfl,_,bp.of u],L,o++[x],x,rfl,rfl,u,by simp,?_];rw[List.dropLast_concat];have an:Tk g (upd g L (.lst o)):=Tk.lst u;have S:aq H (upd g L (.lst o)):=S1.upd C;have Y:ld≠L:=eP al u (by intro z;cases z);have O:=Ps.mono an aW;have N:=aL.mono an;have ac:=Ce.mono an kx;have U:upd g L (.lst o) L=some (.lst o):=ab;have G:upd g L (.lst o) ld=some (.dK l):=by rw[ah Y];exact al
  have bg:o.length+1<=50000:=by rw[List.length_append] at aT;exact aT
  generalize upd g L (.lst o)=b at S O N ac U G ⊢;have aO:c.deep<=3000:=hP (a,c) List.mem_cons_self;have aA:∀p∈rest,p.2.deep<=3000:=λp hp=>hP p (List.mem_cons_of_mem _ hp);obtain⟨px,xa,xc,rfl,hx,ka,kc⟩:=ac;refine#[px,_,rfl,cx.of hx,rfl,xa,[xc],rfl,xc,[],rfl,rfl,?_];obtain⟨J,as,rfl,d,ra⟩:=ka.shape;have be:b lk=some (.lst []):=S _ _ a0;refine#[_,rfl,J,_,0,_,rfl,rfl,cx.of d,ar (j:=0) rfl,rfl,_,rfl,?_];by_cases hb:iw a="blank"
  .refine bO (λ_=>?_) λz=>absurd (by simp[hb]) z;obtain⟨n,rfl⟩:=fR.mp hb;cases ra;refine#[_,rfl,J,_,1,_,rfl,rfl,cx.of d,ar (j:=1) rfl,_,rfl,lk,[],rfl,.inl (bp.of be),rfl,rfl,_,rfl,?_];refine cA ?_;refine#[_,rfl,J,_,0,_,rfl,rfl,cx.of d,ar (j:=0) rfl,rfl,_,rfl,?_];refine bO (λ_=>?_) λz=>absurd (by simp[iw]) z;refine#[_,rfl,J,_,1,_,rfl,rfl,cx.of d,ar (j:=1) rfl,_,rfl,ld,_,rfl,d0.k (k:=Sum.inl n) G,_,rfl,?_];have am:=eE l (Sum.inl n) xc;have put:mP r ((Kd.ax n,c) :: rest)=mP (Wk.put r n c) rest->∃m',m' < eg ((Kd.ax n,c) :: rest)/\yT H k1 k2 ld lk v1 v2 m' [some v1,some (V.ref lk),some v2,some (.ref ld),some (.ref L),some (V.ref J),some xc] (upd b ld (.dK (putK l (Sum.inl n) xc))):=by
    intro em;rw[em] at R;have aH:Tk b (upd b ld (.dK (putK l (Sum.inl n) xc))):=Tk.CZ G;refine#[eg rest,by simp only[eg,Kd.size];omega,_,_,putK l (Sum.inl n) xc,o,rest,Wk.put r n c,L,rfl,C,rfl,S.upd aP,ab,by rw[ah Y.symm];exact U,O.mono aH,(N.mono aH).put n (kc.mono aH),R,by simp only[eg,Kd.size] at hZ;omega,aA,λm t z=>?_];unfold Wk.put at z;split at z
    .cases z;exact aO
    .exact Z m t z
   rcases N n with⟨e1,e2⟩|⟨y,t,e1,e2,ky⟩
   .rw[e1];refine cA ?_;refine cA ?_;refine#[_,rfl,_,rfl,_,rfl,J,_,1,_,rfl,rfl,cx.of d,ar (j:=1) rfl,ld,_,rfl,gE.k (k:=Sum.inl n) G (bh (by omega)),?_];exact put (by simp[mP,Wk.mt,e2])
   .have e3:(cE l (Sum.inl n)).isSome=true:=by rw[e1];rfl
    rw[e3];refine fM ?_;refine#[_,rfl,_,rfl,J,_,1,_,rfl,rfl,cx.of d,ar (j:=1) rfl,ld,y,rfl,by rw[<-e1];exact d0.k (k:=Sum.inl n) G,?_];refine#[_,rfl,t,c,ky,kc,Z n t e2,_,rfl,?_];by_cases ht:t=c
    .refine bO (λz=>absurd z (by simp[ht])) λ_=>?_;refine#[_,rfl,_,rfl,_,rfl,J,_,1,_,rfl,rfl,cx.of d,ar (j:=1) rfl,ld,_,rfl,gE.k (k:=Sum.inl n) G (bh (by omega)),?_];refine put ?_;have ep:Wk.put r n c=r:=xX (by rw[<-ht];exact e2);rw[ep];simp[mP,Wk.mt,e2,ht]
    .refine bO (λ_=>?_) λz=>absurd (by simp[ht]) z;have em:mP r ((Kd.ax n,c) :: rest)=none:=by simp[mP,Wk.mt,e2,ht]
     have:=q b S;unfold fit at this;rw[<-R,em] at this;exact this
  .refine bO (λz=>absurd z (by simp[hb])) λ_=>?_;refine cA ?_;refine#[_,rfl,J,_,0,_,rfl,rfl,cx.of d,ar (j:=0) rfl,rfl,_,rfl,?_];refine bO (λz=>absurd z (by simp[hb])) λ_=>?_;obtain⟨pc,cs,rfl,hc,rc⟩:=kc.shape;refine#[_,rfl,J,_,0,_,rfl,rfl,cx.of d,ar (j:=0) rfl,_,rfl,pc,_,0,_,rfl,rfl,cx.of hc,ar (j:=0) rfl,rfl,_,rfl,?_];by_cases hh:iw a=iw c
   .refine bO (λz=>absurd z (by simp[hh])) λ_=>?_;refine#[_,rfl,J,_,rfl,.inr (cx.of d),rfl,_,rfl,?_];rcases qq hh with⟨rfl,rfl⟩|⟨n,m,rfl,rfl⟩|⟨g',a1,a2,c1,c2,rfl,rfl⟩
    .cases ra;refine bO (λz=>absurd z (by simp)) λ_=>?_;have em:mP r ((Kd.num,Kd.num) :: rest)=mP r rest:=by simp[mP,Wk.mt]
     rw[em] at R;exact#[eg rest,by simp only[eg,Kd.size];omega,_,_,l,o,rest,r,L,rfl,C,rfl,S,G,U,O,N,R,by simp only[eg] at hZ;omega,aA,Z]
    .exact absurd rfl hb
    .obtain⟨x1,x2,rfl,ac,bb⟩:=ra;obtain⟨y1,y2,rfl,a3,a6⟩:=rc;refine bO (λ_=>?_) λz=>absurd (by simp) z;refine#[_,rfl,?_];refine#[_,rfl,J,_,1,_,rfl,rfl,cx.of d,ar (j:=1) rfl,_,rfl,pc,_,1,_,rfl,rfl,cx.of hc,ar (j:=1) rfl,(by show 2<=sizeLine;decide),λv aJ=>?_];have aC:Tk b (upd b v (.tup [x1,y1])):=Tk.new aJ;have S3:aq b (upd b v (.tup [x1,y1])):=aq.new aJ;have X:upd b v (.tup [x1,y1]) v=some (.tup [x1,y1]):=ab;generalize upd b v (.tup [x1,y1])=H3 at aC S3 X ⊢;refine#[_,rfl,J,_,2,_,rfl,rfl,cx.of (aC _ _ d),ar (j:=2) rfl,_,rfl,pc,_,2,_,rfl,rfl,cx.of (aC _ _ hc),ar (j:=2) rfl,(by show 2<=sizeLine;decide),λT aI=>?_];have S4:aq b (upd H3 T (.tup [x2,y2])):=S3.upd (S3.free aI);have aR:upd H3 T (.tup [x2,y2]) v=some (.tup [x1,y1]):=by rw[ah (au X aI)];exact X
     have aQ:upd H3 T (.tup [x2,y2]) T=some (.tup [x2,y2]):=ab;generalize upd H3 T (.tup [x2,y2])=H4 at S4 aR aQ ⊢;refine#[(by show 2<=sizeLine;decide),λl2 am=>?_];have S5:aq b (upd H4 l2 (.lst [.ref v,.ref T])):=S4.upd (S4.free am);have a5:upd H4 l2 (.lst [.ref v,.ref T]) L=some (.lst o):=S5 _ _ U;refine#[L,l2,o,[.ref v,.ref T],rfl,rfl,a5,ab,kL (by simp;omega),λl3 ap=>?_];have S6:aq b (upd (upd H4 l2 (.lst [.ref v,.ref T])) l3 (.lst (o++[.ref v,.ref T]))):=S5.upd (S5.free ap);have aM:Tk H4 (upd (upd H4 l2 (.lst [.ref v,.ref T])) l3 (.lst (o++[.ref v,.ref T]))):=(Tk.new am).trans (Tk.new ap);rw[zP] at R;refine#[eg ((a2,c2) :: (a1,c1) :: rest),by simp only[eg,Kd.size];omega,_,_,l,o++[.ref v,.ref T],(a2,c2) :: (a1,c1) :: rest,r,l3,rfl,(S.trans S5).free ap,rfl,S.trans S6,S6 _ _ G,ab,?_,N.mono S6.tk,R,by simp only[eg,Kd.size] at hZ ⊢;omega,?_,Z]
     .rw[List.reverse_cons,List.reverse_cons,List.append_assoc];exact bZ (O.mono S6.tk) (.cons #[v,x1,y1,rfl,aM _ _ aR,ac.mono S6.tk,a3.mono S6.tk] (.cons #[T,x2,y2,rfl,aM _ _ aQ,bb.mono S6.tk,a6.mono S6.tk] .nil))
     .simp only[Kd.deep] at aO;intro p hp;rcases List.mem_cons.mp hp with e|hp
      .subst e;show c2.deep<=_;omega
      .rcases List.mem_cons.mp hp with e|hp
       .subst e;show c1.deep<=_;omega
       .exact aA p hp
   .refine bO (λ_=>?_) λz=>absurd (by simp[hh]) z;have em:mP r ((a,c) :: rest)=none:=by
     cases a with
     |num=>cases c <;> first|exact absurd rfl hh|simp[mP,Wk.mt]
     |ax n=>exact absurd rfl hb
     |two g' a1 a2=>
      cases c with
      |num=>simp[mP,Wk.mt]
      |ax m=>simp[mP,Wk.mt]
      |two g2 c1 c2=>have:g'≠g2:=λz=>hh (by rw[z];rfl);simp[mP,Wk.mt,this]
    have:=q b S;unfold fit at this;rw[<-R,em] at this;exact this
end
theorem yU {os:List Int} {n:Int} (h:n∉os):Wk.put (rank os) n (.ax (os.length:Nat))=rank (os++[n]):=by
 funext m
 rw[uO os n m h];rfl
theorem v8 (P:List Kd) (p:List Kd) (j:Nat) {t:Kd} (h:p[j]?=some t):dN (P++p.take (j+1))=seen (dN (P++p.take j)) t:=by rw[List.take_add_one,h,<-List.append_assoc];exact uN _ _
theorem nU (K:List Kd) (i:Nat) {k:Kd} (h:K[i]?=some k):flat (K.take (i+1))=flat (K.take i)++k.parts:=by rw[List.take_add_one,h,qo];show _++flat [k]=_;rw[cw]
theorem ji (K:List Kd) (i:Nat):(flat (K.take i)).length<=(flat K).length:=by
 have e:flat K=flat (K.take i)++flat (K.drop i):=by rw[<-qo,List.take_append_drop]
 rw[e,List.length_append];omega
section
variable {P:Program} {w:World} {K:W.Frag} {mg:Str->Option Value} {base:Heap} {f g e:Addr} {fd gd ed:FuncData}
inductive ip (vs:List V) (H:Hp) (Q:VK) (zz3:XK):Prop
 |mk (l:_) (ws:_) (ks:_) (h1_:vs=[.ref l]) (h2_:H l=some (.lst ws)) (h3_:Ks H ws ks) (h4_:(flat ks).length<=10000000) (h5_:∀r ys H',aq H H'->H' r=some (.lst ys)->Ks H' ys (ks.map λk=>k.fill (rank (dN (flat ks))))->Q (.ref r) H'):ip vs H Q zz3
theorem nW:a9 ["_law_kinds","_law_filling","_law_kind","_law_part"] ["_law_kinds"] (ao fD):=#[rfl,rfl,rfl,by decide +kernel,rfl,by decide +kernel,by decide +kernel]
def yV (s:Stmt):Scope:=match s with
 | .FunctionDef _ _ b _ _ _ _ _ _ _=>match b.getLast? with
  |some (.Return (some (.ListComp _ _ sc _)) _)=>sc
  |_=>{kind:=.function,names:=[],isGenerator:=false,isCoroutine:=false}
 |_=>{kind:=.function,names:=[],isGenerator:=false,isCoroutine:=false}
inductive BD (H:Hp) (ks:List Kd) (l:Addr) (ld:Addr) (i:Nat) (σ:St) (H1:Hp):Prop
 |mk (kd:_) (pt:_) (kvs:_) (h1:σ=[some (.ref l),some (.ref ld),kd,pt]) (h2:aq H H1) (h3:H1 ld=some (.dK kvs)) (h4:oI H1 kvs (rank (dN (flat (ks.take i))))) (h5:kvs.length=(dN (flat (ks.take i))).length):BD H ks l ld i σ H1
inductive yW (H:Hp) (i:Nat) (k:Kd) (ks:List Kd) (l:Addr) (ld:Addr) (lr:Addr) (x:V) (zs:List V) (j:Nat) (σ:St) (H3:Hp):Prop
 |mk (pt:_) (kvs:_) (h1:σ=[some (.ref l),some (.ref ld),some x,pt]) (h2:aq H H3) (h3:H3 lr=some (.lst zs)) (h4:Ks H3 zs k.parts) (h5:H3 ld=some (.dK kvs)) (h6:oI H3 kvs (rank (dN (flat (ks.take i)++k.parts.take j)))) (h7:kvs.length=(dN (flat (ks.take i)++k.parts.take j)).length):yW H i k ks l ld lr x zs j σ H3
def sW (K:W.Frag):TS:=cI (jr (bD (bj ki (bj (cn K) (af (3:Nat)) (tC (V.int (0:Int)))) (tC (V.str (PySem.Str.ofString "blank"))))) (tB (km (bj (cn K) (af (3:Nat)) (tC (V.int (1:Int)))) (af (1:Nat))))) (iV (af (1:Nat)) (bj (cn K) (af (3:Nat)) (tC (V.int (1:Int)))) (dZ (ai (tC (V.str (PySem.Str.ofString "blank"))) (ai (lH iA (ai (af (1:Nat)) av)) av)))) cC
def sX (K:W.Frag):TS:=oh (iQ K (cO K1.dU [] E0 (ai (af (2:Nat)) av))) (az (3:Nat)) (sW K)
def sY (K:W.Frag):TS:=aN (oh (iQ K (af (0:Nat))) (az (2:Nat)) (sX K)) (cT (lP (iQ K (af (0:Nat))) (cO K1.fV [] E0 (ai (af (0:Nat)) (ai (af (1:Nat)) av))) [(1:Nat)]))
def sZ (K:W.Frag):TS:=aN (bq jx (az (1:Nat))) (sY K)
theorem tj (F:gj K "_law_counted" "_law_counted" fD f fd) (G:aU P w K mg base cM 1 g gd ["_law_kind"] dU) (bG:Binds K gd ["_law_kind"] []) (kG:W.keepIn K (.ref g)=true) (mG:mg "_law_inside"=some (.ref g)) (J:aU P w K mg base cM 2 e ed ["_law_kind","_law_filling"] fV) (bJ:Binds K ed ["_law_kind","_law_filling"] []) (kJ:W.keepIn K (.ref e)=true) (mJ:mg "_law_filled"=some (.ref e)) (ml:mg "len"=none):aU P w K mg base cM 3 f fd ["_law_kinds"] ip:=by
 refine F.ok (k:=2) nW (λvs H Q E h=>?_) (λaJ A o s H vs Q E hr h=>?_)
 .obtain⟨l,r,B,rfl,_,_,_,_⟩:=h;rfl
 obtain⟨l,r,B,rfl,hl,kW,hB,q⟩:=h;have nd:=nW.nd;have hu:=fI hr;have aO:=hr.mono (show 1<=2 by decide);have C:cz (fw cM P w K mg base ["_law_kinds","_law_filling","_law_kind","_law_part"] "_law_counted" (ao fD) f aJ A o s H E).mV "_law_kind" ["_law_filling"] [1] (yV fD) [("_law_filling",s.heap.objs.size+1)]:=by
  refine#[rfl,by decide +kernel,by decide +kernel,rfl,by decide +kernel,rfl,λy hy=>?_,λy c h=>h,λi y h=>?_,rfl]
  .have aA:∀kd,((relabel (yV fD) (fw cM P w K mg base ["_law_kinds","_law_filling","_law_kind","_law_part"] "_law_counted" (ao fD) f aJ A o s H E).mV.env).names.lookup y=some kd)->(kd=.cell\/kd=.free)->y="_law_filling":=λkd h d=>by
    have hm:=PySem.mem_of_lookup h;have aH:(y,kd)∈[((".0":Str),NameKind.local),("_law_kind",.local),("_law_filled",.globalImplicit),("_law_filling",.cell)]:=hm;simp only[List.mem_cons,List.not_mem_nil,or_false,Prod.mk.injEq] at aH;rcases aH with⟨_,z⟩|⟨_,z⟩|⟨_,z⟩|⟨z,_⟩
    .rcases d with d|d <;> (rw[d] at z;cases z)
    .rcases d with d|d <;> (rw[d] at z;cases z)
    .rcases d with d|d <;> (rw[d] at z;cases z)
    .exact z
   have e:y="_law_filling":=by
    rcases hy with hy|hy
    .exact aA _ hy (.inl rfl)
    .exact aA _ hy (.inr rfl)
   subst e;exact#[_,rfl]
  .match i,h with
   |0,h=>cases (Option.some.inj h);exact⟨1,rfl,rfl,Or.inr (Or.inl rfl),.inl rfl,.inl rfl⟩
 refine#[sZ K,ae (ay (i:=1) nd rfl (Or.inr rfl) gM) (ae (gb PassesOwn.never rfl (fj (pv 0)) (dg (i:=2) nd rfl (Or.inl rfl)) (aj (gb PassesOwn.never rfl (fj (bU G aO rfl mG kG bG .nil bN (aa (pv 2) ag))) (dg (i:=3) nd rfl (Or.inl rfl)) (aj (cb (PW.pt (fc (aD dj (aB aG (pv 3) ak (λ_ _=>rfl)) aZ (aX _)) (eK (fX (jw hu (aB aG (pv 3) ak (λ_ _=>rfl)) (pv 1)))))) (aj (fJ hu (pv 1) (aB aG (pv 3) ak (λ_ _=>rfl)) (cj (aa aZ (aa (bX uL rfl ml PySem.boot_len (aa (pv 1) ag)) ag))) rfl)) bw))))) (aj (bc (kB C rfl (fj (pv 0)) (λC' fp s' H'=>bU J hr rfl mJ kJ bJ .nil bN (aa (pv 0) (aa (pv 1) ag))))))),?_];intro ld aF;have S0:aq H (upd H ld (.dK [])):=aq.new aF;have aK:r.length=B.length:=Paired.length kW;refine#[_,rfl,l,rfl,#[_,bp.of (S0 _ _ hl)],gI (xs:=r) (BD H B l ld) #[none,none,[],rfl,S0,ab,λn=>.inl #[rfl,rfl],rfl] (λi σ H1 hi ⟨_,_,_,_,I,_,_,_⟩=>bp.of (I _ _ hl)) (λi x σ H1 hx hP=>?_) (λσ H1 hP=>?_)]
 .obtain⟨kd,pt,v,rfl,I,hD,kD,L⟩:=hP;obtain⟨k,d,kx⟩:=dw kW hx;have aM:=kx.mono I.tk;have aC:=nU B i d;have aW:(flat (B.take i)).length+k.parts.length<=10000000:=by
   have:=ji B (i+1);rw[aC,List.length_append] at this;omega
  refine#[_,rfl,x,k,rfl,aM,by rw[<-Kd.cm];omega,λlr zs H2 S2 aT ap kz=>?_];refine#[lr,rfl,#[_,bp.of ap],gI (xs:=zs) (yW H i k B l ld lr x zs) #[pt,v,rfl,I.trans S2,ap,kz,S2 _ _ hD,?_,?_] (λj σ p hj ⟨_,_,_,_,h,_,_,_,_⟩=>bp.of h) (λj y σ p hy hP=>?_) (λσ p hP=>?_)]
  .rw[List.take_zero,List.append_nil];exact kD.mono S2.tk
  .rw[List.take_zero,List.append_nil];exact L
  .obtain⟨pt,v,rfl,X,hR,kR,N,S,O⟩:=hP;obtain⟨t,ht,kt⟩:=dw kR hy;have ho:=v8 (flat (B.take i)) k.parts j ht;obtain⟨px,ys,rfl,ac,ry⟩:=kt.shape;have aS:v.length<=10000000:=by
    rw[O];have:=qp (flat (B.take i)++k.parts.take j);rw[List.length_append,List.length_take] at this;omega
   refine#[_,rfl,px,_,0,_,rfl,rfl,cx.of ac,ar (j:=0) rfl,rfl,_,rfl,?_];have mR:(∀n,t≠.ax n)->yW H i k B l ld lr x zs (j+1) [some (V.ref l),some (.ref ld),some x,some (V.ref px)] p:=by
    intro hn;have e:seen (dN (flat (B.take i)++k.parts.take j)) t=dN (flat (B.take i)++k.parts.take j):=by
     cases t with
     |num=>rfl
     |ax n=>exact absurd rfl (hn n)
     |two _ _ _=>rfl
    exact#[_,v,rfl,X,hR,kR,N,by rw[ho,e];exact S,by rw[ho,e];exact O]
   cases t with
   |num=>refine bO (λz=>absurd z (by simp[iw];decide)) λ_=>?_;exact cA (mR λn z=>by cases z)
   |two g' a b=>refine bO (λz=>absurd z (by simp[iw,gq])) λ_=>?_;exact cA (mR λn z=>by cases z)
   |ax n=>
    refine bO (λ_=>?_) λz=>absurd (by simp[iw]) z;cases ry;refine#[_,rfl,px,_,1,_,rfl,rfl,cx.of ac,ar (j:=1) rfl,_,rfl,ld,_,rfl,d0.k (k:=Sum.inl n) N,_,rfl,?_];rcases S n with⟨e1,e2⟩|⟨y',u,e1,e2,ky⟩
    .have hn:n∉dN (flat (B.take i)++k.parts.take j):=jA.mp e2;rw[e1];refine fM ?_;refine#[_,rfl,ld,v,rfl,N,(by show 2<=sizeLine;decide),λtp aL=>?_];have S4:aq p (upd p tp (.tup [.str "blank",.int v.length])):=aq.new aL;have R:=S4 _ _ N;have kb:cP (upd p tp (.tup [.str "blank",.int v.length])) (.ref tp) (.ax (v.length:Nat)):=#[tp,rfl,ab];have T:=S4 _ _ ac;refine#[_,rfl,_,rfl,px,_,1,_,rfl,rfl,cx.of T,ar (j:=1) rfl,ld,_,rfl,gE.k (k:=Sum.inl n) R (bh (by omega)),?_];generalize upd p tp (.tup [.str "blank",.int v.length])=H4 at S4 R kb T ⊢;have an:Tk H4 (upd H4 ld (.dK (putK v (Sum.inl n) (.ref tp)))):=Tk.CZ R;have aQ:lr≠ld:=eP (S4 _ _ hR) R (by intro z;cases z);have e3:seen (dN (flat (B.take i)++k.parts.take j)) (.ax n)=dN (flat (B.take i)++k.parts.take j)++[n]:=by simp only[seen,if_neg hn]
     refine#[_,putK v (Sum.inl n) (.ref tp),rfl,(X.trans S4).upd aF,by rw[ah aQ];exact S4 _ _ hR,(kR.mono S4.tk).mono an,ab,?_,?_]
     .rw[ho,e3,<-yU hn,<-O];exact((S.mono S4.tk).put n kb).mono an
     .rw[ho,e3,iU _ e1,List.length_append,List.length_append,O];rfl
    .have e4:(cE v (Sum.inl n)).isSome=true:=by rw[e1];rfl
     rw[e4];refine cA ?_;have hn:n∈dN (flat (B.take i)++k.parts.take j):=by refine Classical.byContradiction λz=>?_;rw[jA.mpr z] at e2;cases e2
     have e3:seen (dN (flat (B.take i)++k.parts.take j)) (.ax n)=dN (flat (B.take i)++k.parts.take j):=by simp only[seen,if_pos hn]
     refine#[_,v,rfl,X,hR,kR,N,?_,?_]
     .rw[ho,e3];exact S
     .rw[ho,e3];exact O
  .obtain⟨pt,v,rfl,X,hR,kR,N,S,O⟩:=hP;rw[Paired.length kz,List.take_length,<-aC] at S O;exact#[_,_,v,rfl,X,N,S,O]
 .obtain⟨kd,pt,v,rfl,I,hD,kD,L⟩:=hP;rw[aK,List.take_length] at kD L;refine#[_,rfl,l,rfl,#[_,bp.of (I _ _ hl)],λD M=>?_];have S1:aq H (upd H1 D (.lst [])):=I.upd (I.free M);refine#[(λi m ys H2=>m=r.length - i/\i<=r.length/\aq H H2/\aq H1 H2/\H2 D=some (.lst ys)/\Ks H2 ys ((B.take i).map λk=>k.fill (rank (dN (flat B))))),#[r.length,rfl,Nat.zero_le _,S1,aq.new M,ab,.nil],?_];rintro i m ys H2 ⟨rfl,hi,U,Z,al,kY⟩;refine#[al,?_];by_cases as:i < r.length
  .have am:r[i]?=some r[i]:=List.getElem?_eq_getElem as;obtain⟨k,d,kx⟩:=dw kW am;have aR:ys.length<=10000000:=by
    rw[Paired.length kY,List.length_map,List.length_take];have:=jV B;omega
   refine .inr #[#[r,_,bp.of (U _ _ hl),am],bh (by omega),λx p Y=>?_];obtain⟨rfl,Y⟩:=Y;have aI:=Y r (bp.of (U _ _ hl));rw[am] at aI;cases (Option.some.inj aI);have aP:k.size<=10000000:=by have h1:=ji B (i+1);rw[nU B i d,List.length_append,Kd.cm] at h1;omega
   refine#[_,rfl,_,rfl,_,k,ld,v,rank (dN (flat B)),rfl,kx.mono U.tk,aP,Z _ _ hD,kD.mono Z.tk,λv' H4 S4 kv=>?_];have R:=S4 _ _ al;refine#[R,r.length - (i+1),by omega,rfl,as,(U.trans S4).upd (I.free M),(Z.trans S4).upd M,ab,?_];have tk:Tk H4 (upd H4 D (.lst (ys++[v']))):=Tk.lst R;rw[List.take_add_one,d,List.map_append];exact bZ ((kY.mono S4.tk).mono tk) (.cons (kv.mono tk) .nil)
  .refine .inl #[#[r,bp.of (U _ _ hl),by omega],?_];refine q D ys H2 U al ?_;have e:i=B.length:=by omega
   rw[e,List.take_length] at kY;exact kY
end
end K1
namespace Wk
inductive rn (φ:eR):Nat->Kd->Kd->Prop where
 |stop {k:Kd}:(∀n,k=.ax n->φ n=none)->rn φ 0 k k
 |go {m:Nat} {n:Int} {k k':Kd}:φ n=some k->rn φ m k k'->rn φ (m+1) (.ax n) k'
theorem eA.n {φ:eR} {k K:Kd} (h:eA φ k K):∃m,rn φ m k K:=by
 induction h with
 |stop q=>exact⟨0,.stop q⟩
 |go e _ I=>obtain⟨m,I⟩:=I;exact#[m+1,.go e I]
end Wk
namespace K1
open PySem L2 Wk
section
variable {P:Program} {w:World} {K:W.Frag} {mg:Str->Option Value} {base:Heap} {f g:Addr} {fd gd:FuncData}
inductive g6 (vs:List V) (H:Hp) (Q:VK) (zz3:XK):Prop
 |mk (v:_) (k:_) (k':_) (d:_) (kvs:_) (φ:_) (h1_:vs=[v,.ref d]) (h2_:cP H v k) (h3_:H d=some (.dK kvs)) (h4_:oI H kvs φ) (h5_:eA φ k k') (h6_:∀v',cP H v' k'->Q v' H):g6 vs H Q zz3
theorem rp:a9 ["_law_kind","_law_filling"] ["_law_kind","_law_filling"] (ao oO):=#[rfl,rfl,rfl,by decide +kernel,rfl,by decide +kernel,by decide +kernel]
inductive BE (H:Hp) (d:Addr) (k':Kd) (φ:eR) (m:Nat) (σ:St) (H1:Hp):Prop
 |mk (x:_) (kk:_) (h1:σ=[some x,some (.ref d)]) (h2:H1=H) (h3:cP H x kk) (h4:rn φ m kk k'):BE H d k' φ m σ H1
def v9 (K:W.Frag):TS:=aN (eQ (jr (bD (bj ki (bj (cn K) (af (0:Nat)) (tC (V.int (0:Int)))) (tC (V.str (PySem.Str.ofString "blank"))))) (tB (xH (bj (cn K) (af (0:Nat)) (tC (V.int (1:Int)))) (af (1:Nat))))) (bq (jU (af (1:Nat)) (bj (cn K) (af (0:Nat)) (tC (V.int (1:Int))))) (az (0:Nat)))) (cT (af (0:Nat)))
theorem wa (F:gj K "_law_headed" "_law_headed" oO f fd):aU P w K mg base cM 1 f fd ["_law_kind","_law_filling"] g6:=by
 refine F.ok rp (λb H Q E h=>?_) (λc A o s H b Q E D h=>?_)
 .obtain⟨v,k,T,d,I,L,rfl,_,_,_,_,_⟩:=h;rfl
 obtain⟨v,k,T,d,I,L,rfl,a,p,Y,M,q⟩:=h;have N:=rp.nd;have G:=fI D;obtain⟨Z,C⟩:=M.n;refine#[v9 K,ae (dm PassesOwn.never (PW.pt (fc (aD dj (aB aG (pv 0) ak (λ_ _=>rfl)) aZ (aX _)) (eK (fX (oA G (aB aG (pv 0) ak (λ_ _=>rfl)) (pv 1)))))) (aj (ay (i:=0) N rfl (Or.inl rfl) (gp G (pv 1) (aB aG (pv 0) ak (λ_ _=>rfl)) (λ_ _=>rfl))))) (aj (bc (pv 0))),?_];refine#[(BE H d T L),#[Z,v,k,rfl,rfl,a,C],?_];rintro m σ H1 ⟨x,S,rfl,rfl,O,r⟩;obtain⟨J,ys,rfl,X,R⟩:=O.shape;refine#[_,rfl,J,_,0,_,rfl,rfl,cx.of X,ar (j:=0) rfl,rfl,_,rfl,?_];by_cases g:iw S="blank"
 .refine bO (λ_=>?_) λz=>absurd (by simp[g]) z;obtain⟨n,rfl⟩:=fR.mp g;cases R;refine#[_,rfl,J,_,1,_,rfl,rfl,cx.of X,ar (j:=1) rfl,_,rfl,d,_,rfl,d0.k (k:=Sum.inl n) p,_,rfl,?_];rcases Y n with⟨t,l⟩|⟨y,u,t,l,U⟩
  .rw[t];refine cA ?_;cases r with
   |stop _=>exact#[_,rfl,q _ O]
   |go e _=>rw[l] at e;cases e
  .have B:(cE I (Sum.inl n)).isSome=true:=by rw[t];rfl
   rw[B];refine fM ?_;cases r with
   |stop z=>have:=z n rfl;rw[l] at this;cases this
   |go e r=>rw[l] at e;cases e;refine#[_,λ_ _ z=>z,?_];exact#[_,rfl,_,rfl,J,_,1,_,rfl,rfl,cx.of X,ar (j:=1) rfl,d,y,rfl,by rw[<-t];exact d0.k (k:=Sum.inl n) p,_,Nat.lt_succ_self _,y,_,rfl,rfl,U,r]
 .refine bO (λz=>absurd (by simpa using z) g) λ_=>?_;refine cA ?_;cases r with
  |stop _=>exact#[_,rfl,q _ O]
  |go e _=>exact absurd rfl g
end
section
variable {P:Program} {w:World} {K:W.Frag} {mg:Str->Option Value} {base:Heap} {f g:Addr} {fd gd:FuncData}
inductive iM (vs:List V) (H:Hp) (Q:VK) (zz3:XK):Prop
 |mk (v:_) (k:_) (d:_) (kvs:_) (φ:_) (vv:Int->Kd) (rk:Int->Nat) (h1_:vs=[v,.ref d]) (h2_:cP H v k) (h3_:H d=some (.dK kvs)) (h4_:oI H kvs φ) (h5_:Wr φ vv rk) (h6_:(k.inst vv).size<=10000000) (h7_:(k.inst vv).deep<=3000) (h8_:∀v' H',aq H H'->cP H' v' (k.inst vv)->Q v' H'):iM vs H Q zz3
theorem yX:a9 ["_law_kind","_law_filling","_law_going","_law_made"] ["_law_kind","_law_filling"] (ao x4):=#[rfl,rfl,rfl,by decide +kernel,rfl,by decide +kernel,by decide +kernel]
theorem gA (v:Int->Kd):∀k:Kd,k.deep<=(k.inst v).deep
 | .num=>Nat.le_refl _
 | .ax n=>by show 1<=(v n).deep;cases v n <;> simp only[Kd.deep] <;> omega
 | .two f a b=>by have:=gA v a;have:=gA v b;show _<=(Kd.two f (a.inst v) (b.inst v)).deep;simp only[Kd.deep];omega
inductive BF (H:Hp) (d:Addr) (k:Kd) (rk:Int->Nat) (vv:Int->Kd) (φ:eR) (m:Nat) (σ:St) (H1:Hp):Prop
 |mk (x:_) (kk:_) (b:_) (mm:_) (h1:σ=[some x,some (.ref d),some (.bl b),mm]) (h2:aq H H1) (h3:cP H1 x kk) (h4:kk.inst vv=k.inst vv) (h5:(b=true->m=j9 φ rk kk+1)) (h6:(b=false->m=0/\kk=k.inst vv)):BF H d k rk vv φ m σ H1
def AJ:TS:=aN (bq (bj sj (af (3:Nat)) (af (0:Nat))) (az (2:Nat))) (bq (af (3:Nat)) (az (0:Nat)))
def AK:TS:=aN (bq (cO K1.fV [] E0 (ai (af (0:Nat)) (ai (af (1:Nat)) av))) (az (3:Nat))) AJ
def AL (K:W.Frag):TS:=aN (eQ (iS K (af (2:Nat))) AK) (cT (af (0:Nat)))
def AM (K:W.Frag):TS:=aN (bq (tC (V.bl Bool.true)) (az (2:Nat))) (AL K)
theorem AN (F:gj K "_law_full" "_law_full" x4 f fd) (G:aU P w K mg base cM 2 g gd ["_law_kind","_law_filling"] fV) (L:Binds K gd ["_law_kind","_law_filling"] []) (kG:W.keepIn K (.ref g)=true) (mG:mg "_law_filled"=some (.ref g)):aU P w K mg base cM 200 f fd ["_law_kind","_law_filling"] iM:=by
 refine F.ok (k:=199) yX (λvs H Q E h=>?_) (λC A o s H vs Q E p h=>?_)
 .obtain⟨v,k,d,r,t,D,l,rfl,_,_,_,_,_,_,_⟩:=h;rfl
 obtain⟨v,k,d,r,t,D,l,rfl,a,j,Y,M,hB,T,q⟩:=h;have N:=yX.nd;have hu:=fI p;have R:=pE p (by decide);have I:=p.mono (show 2<=199 by decide);refine#[AM K,ae (ay (i:=2) N rfl (Or.inl rfl) e7) (ae (dm PassesOwn.never (cU (pv 2) (λ_=>rfl)) (ae (ay (i:=3) N rfl (Or.inl rfl) (bU G I rfl mG kG L .nil bN (aa (pv 0) (aa (pv 1) ag)))) (ae (ay (i:=2) N rfl (Or.inl rfl) (zp (lQ R) (pv 3) (pv 0) (aX _))) (aj (ay (i:=0) N rfl (Or.inl rfl) (pv 3)))))) (aj (bc (pv 0)))),?_];refine#[(BF H d k l D t),#[j9 t l k+1,v,k,true,none,rfl,aq.refl _,a,rfl,λ_=>rfl,λz=>by cases z],?_];rintro m σ H1 ⟨x,u,b,mm,rfl,n,O,J,c,B⟩;refine#[_,rfl,b,rfl,?_];cases b with
 |false=>refine cA ?_;obtain⟨_,e⟩:=B rfl;exact#[_,rfl,q _ _ n (by rw[<-e];exact O)]
 |true=>
  refine fM ?_;have hm:=c rfl;have X:(u.fill t).inst D=k.inst D:=by rw[M.jI,J]
  have sz:u.size<=10000000:=by have:=ij D u;rw[J] at this;omega
  have Z:(u.fill t).deep<=3000:=by have:=gA D (u.fill t);rw[X] at this;omega
  refine#[_,λ_ _ z=>z,?_];refine#[_,rfl,_,rfl,x,u,d,r,t,rfl,O,sz,n _ _ j,Y.mono n.tk,λy H2 S U=>?_];refine#[_,rfl,_,rfl,u.fill t,u,U,O.mono S.tk,Z,?_];refine#[_,rfl,?_];by_cases e:u.fill t=u
  .refine⟨0,by omega,y,u,false,some y,by simp[e],n.trans S,by rw[<-e];exact U,J,λz=>(nomatch z),λ_=>#[rfl,by rw[<-J];exact(M.fix u e).symm]⟩
  .have hf:j9 t l u≠0:=λz=>e (mw u z);have hn:=M.sU u;refine#[j9 t l (u.fill t)+1,by omega,y,u.fill t,true,some y,by simp[e],n.trans S,U,X,λ_=>rfl,λz=>(nomatch z)]
end
end K1
namespace L2
open PySem PySem.Spec PyProof.Rows Wk
section
variable {X:Cx}
inductive Cz (K:W.Frag) (x:V) (y:V) (H:Hp) (Q:VK):Prop
 |mk (k:_) (l:_) (ws:_) (ks:_) (h1_:cP H x k) (h2_:y=.ref l) (h3_:bp K H l ws) (h4_:Ks H ws ks) (h5_:(∀j∈ks,j.deep<=2900)) (h6_:Q (.bl (decide (k∈ks))) H):Cz K x y H Q
open Classical in
theorem CA (d:X.A.units+3000 < cLine):lC X (compareOp .In) (Cz X.K):=by
 intro L s o H x y v u Q I R A h;obtain⟨k,l,w,K,O,rfl,c,M,g,q⟩:=h;cases A;obtain⟨p,n,rfl,_⟩:=O.ref;cases R;obtain⟨i,r,P,f⟩:=I.list c;let e:Value->Bool:=λz=>decide (∃a j,z=.ref a/\cP H (.ref a) j/\j=k);have U:∀z∈i,∃a j,z=Value.ref a/\cP H (.ref a) j/\j∈K:=by
  have C:∀{w:List V} {i:List Value} {K:List Kd},Vals w i->Ks H w K->∀z∈i,∃a j,z=Value.ref a/\cP H (.ref a) j/\j∈K:=by
   intro w i K r;induction r generalizing K with
   |nil=>intro _ z f;simp at f
   |cons R _ m=>
    intro M z f;cases M with
    |cons J M=>
     rcases List.mem_cons.mp f with rfl|f
     .obtain⟨a,_,rfl,_⟩:=J.ref;cases R;exact#[a,_,rfl,J,List.mem_cons_self]
     .obtain⟨a,j,t,E,B⟩:=m M z f;exact#[a,j,t,E,List.mem_cons_of_mem _ B]
  exact C r M
 have S:∀{w:List V} {i:List Value} {K:List Kd},Vals w i->Ks H w K->∀j∈K,∃a,Value.ref a∈i/\cP H (.ref a) j:=by
  intro w i K r;induction r generalizing K with
  |nil=>intro M j D;cases M;simp at D
  |cons R _ m=>
   intro M j D;cases M with
   |cons J M=>
    rcases List.mem_cons.mp D with rfl|D
    .obtain⟨a,_,rfl,_⟩:=J.ref;cases R;exact#[a,List.mem_cons_self,J]
    .obtain⟨a,t,E⟩:=m M j D;exact#[a,List.mem_cons_of_mem _ t,E]
 refine SeqAt.in_listAt e P.isList (λz T=>?_) #[.bl _,H,I,rfl,?_]
 .obtain⟨a,j,rfl,J,D⟩:=U z (by simpa using T);have Y:e (.ref a)=decide (j=k):=by
   show decide _=decide _
   congr 1
   refine propext #[λZ=>?_,λz=>#[a,j,rfl,J,z]];obtain⟨G,N,t,E,B⟩:=Z;cases t;rw[J.inj E];exact B
  rw[Y];by_cases z:a=p
  .subst z;rw[decide_eq_true (J.inj O)];exact SeqAt.EqAt.same _
  .refine SeqAt.EqAt.of_refs z (Bq I.bE j k J O ?_).1;have:=g j D;show X.A.units+1+j.deep < cLine;omega
 .have:i.toArray.any e=decide (k∈K):=by
   rw[show i.toArray.any e=i.any e by simp];by_cases b:k∈K
   .rw[decide_eq_true b,List.any_eq_true];obtain⟨a,t,E⟩:=S r M k b;exact#[_,t,by simp only[e,decide_eq_true_eq];exact#[a,k,rfl,E,rfl]]
   .rw[decide_eq_false b,List.any_eq_false];intro z T h;obtain⟨a,j,rfl,J,D⟩:=U z T;simp only[e,decide_eq_true_eq] at h;obtain⟨G,N,t,E,B⟩:=h;cases t;rw[<-J.inj E] at B;exact b (by rw[<-B];exact D)
  rw[this];simpa using q
end
open PySem PySem.Spec PyProof.Rows
theorem tm:typeLookup (.type "list_reverseiterator") "__len__"=pure none:=by rw[typeLookup_type,builtinLookup_eq_fast];kernel_rfl
theorem yY:typeLookup (.type "list_reverseiterator") "__length_hint__"=pure (some (.builtin "list_reverseiterator.__length_hint__")):=by rw[typeLookup_type,builtinLookup_eq_fast];kernel_rfl
section
variable {P:Program} {w:World} {A:Around} {E:Value->Shared->Prop} {s:Shared}
theorem tq {z l:Addr} {xs:Array Value} {Q:Value->Shared->Prop} (a:A.handled=none) (m:l≠z) (hz:s.heap.IsRevIter z l ((xs.size:Int) - 1)) (h:s.heap.IsList l xs) (hn:xs.size<=sizeLine) (q:∀h' tk j c,(∀b o,b≠z->s.heap.get? b=some o->h'.get? b=some o)->h'.get? s.heap.objs.size=some {cls:=.type "list",dict:=none,data:=.seq j c,slots:=[].toArray}->ItemsOf (λi v=>xs[xs.size - 1 - i]?=some v) j xs.size->Q (.ref s.heap.objs.size) {s with heap:=h',toks:=tk}):wpAny (model P w) A (call (.type "list") [.ref z]) Q E s:=by
 refine callType_codes (Q₁:=λO S=>O=.ref s.heap.objs.size/\S={s with heap:=s.heap.push {cls:=.type "list",data:=.seq [].toArray}}) F.called_list (F.typeCall_list_1 _) F.entry_list_init (code_list_new _ #[rfl,rfl]) λO S x=>?_;obtain⟨rfl,rfl⟩:=x;have p:(s.heap.push {cls:=.type "list",data:=.seq [].toArray}).get? s.heap.objs.size=some {cls:=.type "list",data:=.seq [].toArray}:=Heap.get?_push_size _ rfl;have up:∀c o,s.heap.get? c=some o->(s.heap.push {cls:=.type "list",data:=.seq [].toArray}).get? c=some o:=λc o e=>Heap.get?_push_of_some _ e;have L:z < s.heap.objs.size:=by obtain⟨o,e,_⟩:=hz;exact Heap.lt_size e
 have I:l < s.heap.objs.size:=by obtain⟨o,e,_⟩:=h;exact Heap.lt_size e
 refine#[#[_,p,rfl],F.args_list_init_2 _ _,?_];have ns:Builtin.List.listSameRef (.ref s.heap.objs.size) (.ref z)=false:=by simp[Builtin.List.listSameRef,Nat.ne_of_gt L]
 show wpAny _ A.in1.in1 (do let u <-Builtin.List.listItems (.ref s.heap.objs.size);Builtin.List.listUpdate (.ref s.heap.objs.size) (λ_=>[].toArray);letGo u.toList.reverse;Builtin.List.listExtendWith (.ref s.heap.objs.size) (.ref z) .none) _ _ _;refine wpAny_bind ?_;unfold Builtin.List.listItems;refine wpAny_bind (wpAny_seqItems p rfl (wpAny_pure ?_));show wpAny _ _ (updateSeq s.heap.objs.size (λ_=>[].toArray) >>=_) _ _ _;refine wpAny_bind (wpAny_updateSeq p rfl ?_);have C:=Heap.get?_update_self (Obj.mapSeq (λ_=>([].toArray:Array Value))) p rfl;refine wpAny_bind (wpAny_letGo ?_);generalize y:(s.heap.push {cls:=.type "list",data:=.seq [].toArray}).update s.heap.objs.size (Obj.mapSeq (λ_=>([].toArray:Array Value)))=H at C ⊢;have U:∀c o,c≠s.heap.objs.size->s.heap.get? c=some o->H.get? c=some o:=λc o n e=>by rw[<-y];exact(Heap.get?_update_other _ _ (Ne.symm n)).trans (up c o e)
 have Z:H.IsRevIter z l ((xs.size:Int) - 1):=by obtain⟨o,e,r⟩:=hz;exact#[o,U _ _ (Nat.ne_of_lt L) e,r]
 have l2:H.IsList l xs:=h.at λo e=>U _ o (Nat.ne_of_lt I) e;have T:(#[H,s.gens,s.drawn,s.toks,s.os]:Shared).TypeIs (.ref z) "list_reverseiterator":=Z.typeIs;have W:=(Walks.listRev (prog:=P) (w:=w) (A:=A.in1.in1) a z l m xs).toS;unfold Builtin.List.listExtendWith;refine wpAny_bind (wpAny_typeOf T ?_);rw[if_neg (by rw[ns];decide)];refine wpAny_bind (wpAny_pyIter_revIter Z ?_);refine wpAny_bind (wpAny_holding ?_);unfold Builtin.List.listLengthHint;refine wpAny_bind (wpAny_specialOf T tm ?_);show wpAny _ _ (specialOf (Value.ref z) (Str.ofString "__length_hint__") >>=_) _ _ _;refine wpAny_bind (wpAny_specialOf T yY ?_)
 (generalize fL:("list_reverseiterator.__length_hint__":String)=M;(fail_if_success (clear fL M));wp_delta;rw[show splitId M=some ("list_reverseiterator","__length_hint__") from by subst fL;decide +kernel];subst fL)
 refine wpAny_bind (wpAny_isInstance (b:=true) T (by rw[isSubtype_type];kernel_rfl) ?_);refine wpAny_pure ?_;rw[if_neg (by decide)];refine wpAny_pure #[plainId_quiet F.plain_extend_loop _,codeAny_extend_loopS (A:=A.in1) W hn s.heap.objs.size (by simp;exact#[Nat.ne_of_gt L,Nat.ne_of_gt I]) _ xs.size 0 _ _ _ rfl (Nat.zero_le _) #[Nat.zero_le _,by simpa using Z,l2] C (ItemsOf.nil _) λs' Y G g R N=>?_];obtain⟨h',k,D,X,J⟩:=s';have t:k=s.gens:=g.gens;have f:D=s.drawn:=g.drawn;have B:J=s.os:=g.os;subst t f B;refine#[rfl,q h' X Y G (λb o d e=>?_) R N];have K:b≠s.heap.objs.size:=Nat.ne_of_lt (Heap.lt_size e);exact g.heap b o (by simp;exact#[K,d]) (U b o K e)
end
section
variable {X:Cx} {a:Expr} {ta:TA} {p1 p2 pos1 pos2:Pos}
inductive BG (K:W.Frag) (Q:VK) (vs:List V) (H1:Hp):Prop
 |mk (l:_) (xs:_) (h1_:vs=[.ref l]) (h2_:bp K H1 l xs) (h3_:∀r,H1 r=none->Q (.ref r) (upd H1 r (.lst xs.reverse))):BG K Q vs H1
def DW (K:W.Frag) (ta:TA):TE:=λa H Q=>ta a H (BG K Q)
theorem AO (m:X.calm=true) (J:Gl X "list") (L:X.mg "list"=none) (Z:Gl X "reversed") (U:X.mg "reversed"=none) (t:PA X [a] ta) (hs:starEach [a] X.env=[(false,eval a X.env)]:=by rfl)
  (K:starEach [.Call (.Name "reversed" p2) [a] [] pos2] X.env=[(false,eval (.Call (.Name "reversed" p2) [a] [] pos2) X.env)]:=by rfl):
  PE X (.Call (.Name "list" p1) [.Call (.Name "reversed" p2) [a] [] pos2] [] pos1) (DW X.K ta):=by
 intro P s w H Q I h;have Y:=I.ok.hd m;refine wpAny_Call_Name_kw (ft I J L PyProof.Rows.boot_list ?_);refine PyProof.Rows.callWith_type1 ?_ K rfl;rw[K];show wpAny _ _ (spliced [(false,eval (.Call (.Name "reversed" p2) [a] [] pos2) X.env)]) _ _ _;refine Calls.spliced_cons (Call_ (ft I Z U boot_reversed (PyProof.Rows.callWith_type1 (cL (t pos2 P s w H _ I h) λus S zq=>?_) hs rfl)));obtain⟨vs,H1,B,r1,q1⟩:=zq;obtain⟨l,v,e,hq,q⟩:=q1;subst e;cases r1 with
 |cons r rr=>
  cases rr;cases r;obtain⟨u,R,p,f⟩:=B.list hq;have k:=p.isList;have ll:l < S.heap.objs.size:=by obtain⟨o,e,_⟩:=k;exact Heap.lt_size e
  refine call_reversed_list k ?_;refine Calls.spliced_nil ?_;have D:=R.length;have O:(S.heap.push (revObj l ((u.toArray.size:Int) - 1))).objs.size=S.heap.objs.size+1:=Heap.size_push ..;refine tq (s:={S with heap:=S.heap.push (revObj l ((u.toArray.size:Int) - 1))}) (xs:=u.toArray) Y (Nat.ne_of_lt ll) #[_,Heap.get?_push_size _ rfl,rfl,rfl] (k.push _) (by rw[List.size_toArray,<-D];exact f) λn T A c j C N=>?_;have up:∀b o,S.heap.get? b=some o->n.get? b=some o:=λb o e=>j b o (Nat.ne_of_lt (Heap.lt_size e)) (Heap.get?_push_of_some _ e);have g:Vals v.reverse A.toList:=by
   have E:A.toList=u.reverse:=by
    apply List.ext_getElem?;intro i;have ac:A.size=u.length:=by have:=N.1;simpa using this
    by_cases z:i < u.length
    .have g:A[i]?=some (A[i]'(by omega)):=Array.getElem?_eq_getElem (by omega);have:=N.2 i _ g;rw[List.getElem?_reverse z,Array.getElem?_toList,g,<-this];simp
    .rw[List.getElem?_eq_none_iff.mpr (by rw[Array.length_toList];omega),List.getElem?_eq_none_iff.mpr (by rw[List.length_reverse];omega)]
   rw[E];have G:∀{a:List V} {b:List Value},Vals a b->Vals a.reverse b.reverse:=by
    intro a b h;induction h with
    |nil=>exact .nil
    |cons x y ih=>rw[List.reverse_cons,List.reverse_cons];exact ih.append (.cons x .nil)
   exact G R
  have ok:∀b,b=(S.heap.push (revObj l ((u.toArray.size:Int) - 1))).objs.size->EP X P w Q (.ref b) {S with heap:=n,toks:=T}:=λb d=>by
   have M:S.heap.objs.size<=b:=by rw[d,O];exact Nat.le_succ _
   exact#[.ref b,_,B.laid (o:=.lst v.reverse) (t':=T) up M (show cv X.prog X.w _ n b (.lst _) from#[by simpa using f,A.toList,c,g,by rw[d];simpa using C]),rfl,q _ (B.bE.fresh M)]
  exact ok _ rfl
end
end L2
namespace K1
open PySem L2 Wk
section
variable {P:Program} {w:World} {K:W.Frag} {mg:Str->Option Value} {base:Heap} {f gh gf gi:Addr} {fd dh df di:FuncData}
inductive jj (vs:List V) (H:Hp) (Q:VK) (zz3:XK):Prop
 |mk (lp:_) (x:_) (one:_) (other:_) (h1_:vs=[.ref lp]) (h2_:H lp=some (.lst [x])) (h3_:Ce H x (one,other)) (h4_:(top2 one other).aO<=42) (h5_:(∀H',aq H H'->C8 one other->Q .dE H')) (h6_:(∀d kvs φ H',aq H H'->H' d=some (.dK kvs)->oI H' kvs φ->c7 one other φ []->Q (.ref d) H')):jj vs H Q zz3
abbrev E2:List Str:=["_law_pairs","_law_filling","_law_todo","_law_one","_law_other","_law_here","_law_there"]
theorem rq:a9 E2 ["_law_pairs"] (ao oP):=#[rfl,rfl,rfl,by decide +kernel,rfl,by decide +kernel,by decide +kernel]
theorem eI {x:Int}:∀{k:Kd},Kd.ax x∈k.parts↔cY x k
 | .num=>by simp[Kd.parts,cY]
 | .ax n=>by simp[Kd.parts,cY];exact eq_comm
 | .two f a b=>by simp[Kd.parts,cY,eI (k:=a),eI (k:=b)]
inductive uj (H:Hp) (ld:Addr) (lp:Addr) (one:Kd) (other:Kd) (m:Nat) (σ:St) (H1:Hp):Prop
 |mk (o1:_) (o2:_) (hh:_) (tt:_) (kvs:_) (ws:_) (ps:_) (φ:_) (lw:_) (h1:σ=[some (.ref lp),some (.ref ld),some (.ref lw),o1,o2,hh,tt]) (h2:H lw=none) (h3:aq H H1) (h4:H1 ld=some (.dK kvs)) (h5:H1 lw=some (.lst ws)) (h6:Ps H1 ws ps.reverse) (h7:oI H1 kvs φ) (h8:c7 one other φ ps) (h9:Dn one other m φ ps) (h10:kvs.length+C9 (top2 one other) φ<=(bz (top2 one other)).length):uj H ld lp one other m σ H1
def wb (K:W.Frag):TS:=aN (cI (bD (bj (Cz K) (af (5:Nat)) (cO K1.dU [] E0 (ai (cO K1.iM [] E0 (ai (af (6:Nat)) (ai (af (1:Nat)) av))) av)))) (cT (tC V.dE)) cC) (iV (af (1:Nat)) (bj (cn K) (af (5:Nat)) (tC (V.int (1:Int)))) (af (6:Nat)))
def wc (K:W.Frag):TS:=cI (bD (bj ki (lH (aV K) (ai (af (5:Nat)) av)) (tC (V.int (3:Int))))) (bq (bj uG (af (2:Nat)) (cK (ai (dZ (ai (bj (cn K) (af (5:Nat)) (tC (V.int (2:Int)))) (ai (bj (cn K) (af (6:Nat)) (tC (V.int (2:Int)))) av))) (ai (dZ (ai (bj (cn K) (af (5:Nat)) (tC (V.int (1:Int)))) (ai (bj (cn K) (af (6:Nat)) (tC (V.int (1:Int)))) av))) av)))) (az (2:Nat))) cC
def wd (K:W.Frag):TS:=cI (bD (bj CV (bj (cn K) (af (5:Nat)) (tC (V.int (0:Int)))) (bj (cn K) (af (6:Nat)) (tC (V.int (0:Int)))))) (cT (tC V.dE)) (wc K)
def we (K:W.Frag):TS:=cI (jr (bD (bj ki (bj (cn K) (af (5:Nat)) (tC (V.int (0:Int)))) (tC (V.str (PySem.Str.ofString "blank"))))) (bD (bj sj (af (5:Nat)) (af (6:Nat))))) (wb K) (wd K)
def wj (K:W.Frag):TS:=aN (cI (jr (bD (bj ki (bj (cn K) (af (6:Nat)) (tC (V.int (0:Int)))) (tC (V.str (PySem.Str.ofString "blank"))))) (bD (bj CV (bj (cn K) (af (5:Nat)) (tC (V.int (0:Int)))) (tC (V.str (PySem.Str.ofString "blank")))))) (Dj (5:Nat) (6:Nat) (ai (af (6:Nat)) (ai (af (5:Nat)) av))) cC) (we K)
def wk (K:W.Frag):TS:=aN (bq (cO K1.g6 [] E0 (ai (af (4:Nat)) (ai (af (1:Nat)) av))) (az (6:Nat))) (wj K)
def wm (K:W.Frag):TS:=aN (bq (cO K1.g6 [] E0 (ai (af (3:Nat)) (ai (af (1:Nat)) av))) (az (5:Nat))) (wk K)
def wo (K:W.Frag):TS:=aN (bq (iz K "list" iq (af (2:Nat))) (zl K (2:Nat) (ny (az (3:Nat)) (ny (az (4:Nat)) BV)))) (wm K)
def wq (K:W.Frag):TS:=aN (eQ (bD (bj (qi K) (af (2:Nat)) (cK av))) (wo K)) (cT (af (1:Nat)))
def wt (K:W.Frag):TS:=aN (bq (DW K (ai (af (0:Nat)) av)) (az (2:Nat))) (wq K)
def tw (K:W.Frag):TS:=aN (bq jx (az (1:Nat))) (wt K)
theorem wu (F:gj K "_law_solved" "_law_solved" oP f fd) (ml:mg "len"=none) (bv:mg "list"=none) (mr:mg "reversed"=none) (G1:aU P w K mg base cM 1 gh dh ["_law_kind","_law_filling"] g6) (b1:Binds K dh ["_law_kind","_law_filling"] []) (k1:W.keepIn K (.ref gh)=true) (m1:mg "_law_headed"=some (.ref gh)) (G2:aU P w K mg base cM 200 gf df ["_law_kind","_law_filling"] iM) (b2:Binds K df ["_law_kind","_law_filling"] []) (k2:W.keepIn K (.ref gf)=true) (m2:mg "_law_full"=some (.ref gf)) (G3:aU P w K mg base cM 1 gi di ["_law_kind"] dU) (b3:Binds K di ["_law_kind"] []) (k3:W.keepIn K (.ref gi)=true) (m3:mg "_law_inside"=some (.ref gi)):aU P w K mg base cM 201 f fd ["_law_pairs"] jj:=by
 refine F.ok (k:=200) rq (λvs H Q E h=>?_) (λbR A bL s H vs Q E hr h=>?_)
 .obtain⟨lp,x,O,G,rfl,_,_,_,_,_⟩:=h;rfl
 obtain⟨lp,x,O,G,rfl,bH,hx,hN,qn,qs⟩:=h;have nd:=rq.nd;have hu:=fI hr;have bm:=pE hr (by decide);have aY:=hr.mono (show 1<=200 by decide);refine#[tw K,ae (ay (i:=1) nd rfl (Or.inl rfl) gM) (ae (ay (i:=2) nd rfl (Or.inl rfl) (AO rfl rfl bv rfl mr (aa (pv 0) ag))) (ae (dm PassesOwn.never (aD (jy (Nat.lt_of_succ_lt hu)) (pv 2) (ba ag) (aX _)) (ae (lB (dq PySem.F.plainAttrs_list PySem.F.slot_list_pop PySem.F.type_list_pop dr (pv 2)) (wZ rfl (iP (dg (i:=3) nd rfl (Or.inl rfl)) (iP (dg (i:=4) nd rfl (Or.inl rfl)) tK)))) (ae (ay (i:=5) nd rfl (Or.inl rfl) (bU G1 aY rfl m1 k1 b1 .nil bN (aa (pv 3) (aa (pv 1) ag)))) (ae (ay (i:=6) nd rfl (Or.inl rfl) (bU G1 aY rfl m1 k1 b1 .nil bN (aa (pv 4) (aa (pv 1) ag)))) (ae (cb (PW.pt (fc (aD dj (aB aG (pv 6) ak (λ_ _=>rfl)) aZ (aX _)) (eK (aD pV (aB aG (pv 5) ak (λ_ _=>rfl)) aZ (aX _))))) (aj (BW (i:=5) (j:=6) rfl nd rfl rfl (by decide) rfl rfl (aa (pv 6) (aa (pv 5) ag)) rfl)) bw) (aj (cb (PW.pt (fc (aD dj (aB aG (pv 5) ak (λ_ _=>rfl)) aZ (aX _)) (eK (aD (lQ bm) (pv 5) (pv 6) (aX _))))) (ae (cb (aD (CA bm) (pv 5) (bU G3 aY rfl m3 k3 b3 .nil bN (aa (bU G2 hr rfl m2 k2 b2 .nil bN (aa (pv 6) (aa (pv 1) ag))) ag)) rfl) (aj (bc lA)) bw) (aj (fJ hu (pv 1) (aB aG (pv 5) ak (λ_ _=>rfl)) (pv 6) rfl))) (aj (cb (aD pV (aB aG (pv 5) ak (λ_ _=>rfl)) (aB aG (pv 6) ak (λ_ _=>rfl)) (aX _)) (aj (bc lA)) (aj (cb (aD dj (bX br rfl ml PySem.boot_len (aa (pv 5) ag)) ak (aX _)) (aj (ay (i:=2) nd rfl (Or.inl rfl) (cD ox (pv 2) (ba (aa (cj (aa (aB aG (pv 5) ak (λ_ _=>rfl)) (aa (aB aG (pv 6) ak (λ_ _=>rfl)) ag))) (aa (cj (aa (aB aG (pv 5) ak (λ_ _=>rfl)) (aa (aB aG (pv 6) ak (λ_ _=>rfl)) ag))) ag)))))) bw))))))))))) (aj (bc (pv 1))))),?_];intro ld a8;have S1:aq H (upd H ld (.dK [])):=aq.new a8;refine#[_,rfl,lp,[x],rfl,bp.of (S1 _ _ bH),λaH aK=>?_];have C:H aH=none:=S1.free aK;have bK:ld≠aH:=λz=>by rw[<-z,ab] at aK;cases aK
 have S2:aq H (upd (upd H ld (.dK [])) aH (.lst [x].reverse)):=S1.upd C;obtain⟨m0,bA⟩:=c7.DU O G;have bM:(bz (top2 O G)).length<=42:=Nat.le_trans (eZ _) hN;have bJ:(top2 O G).deep<=42:=Nat.le_trans (e9 _) hN;have bS:(top2 O G).size<=84:=by have:=(top2 O G).cR;omega
 refine#[(uj H ld lp O G),#[m0,none,none,none,none,[],[x],[(O,G)],λ_=>none,aH,rfl,C,S2,by rw[ah bK,ab],ab,.cons (hx.mono S2.tk) .nil,oI.nil _,c7.start O G,bA,by simp only[List.length_nil,Nat.zero_add];exact List.length_filter_le _ _],?_];rintro m σ H1 ⟨o1,o2,hh,tt,a,ws,ps,φ,L,rfl,C,hS,hD,hW,kW,kD,I,dn,hK⟩;refine#[_,rfl,Nat.zero_le _,λle aJ=>?_];have S1:aq H (upd H1 le (.lst [])):=hS.upd (hS.free aJ);have a5:Tk H1 (upd H1 le (.lst [])):=Tk.new aJ;have aC:upd H1 le (.lst []) ld=some (.dK a):=by rw[ah (au hD aJ)];exact hD
 have ac:upd H1 le (.lst []) L=some (.lst ws):=by rw[ah (au hW aJ)];exact hW
 refine#[L,le,ws,rfl,rfl,bp.of ac,bp.of ab,_,rfl,?_];have aA:=kW.mono a5;have aL:=kD.mono a5;generalize upd H1 le (.lst [])=H1 at S1 aC ac aA aL ⊢;cases ps with
 |nil=>cases aA;refine cA ?_;exact#[_,rfl,qs ld a φ H1 S1 aC aL I]
 |cons pq r=>
  obtain⟨p,q⟩:=pq;rw[List.reverse_cons] at aA;obtain⟨o,y,rfl,bo,ky⟩:=bt aA;have he:(!(o++[y]).isEmpty)=true:=by simp
  refine gF he ?_;refine#[_,λ_ _ z=>z,?_];refine#[_,rfl,.inl #[rfl,_,bp.of ac],L,o++[y],y,rfl,rfl,ac,by simp,?_];rw[List.dropLast_concat];have aM:Tk H1 (upd H1 L (.lst o)):=Tk.lst ac;have S2:aq H (upd H1 L (.lst o)):=S1.upd C;have be:ld≠L:=eP aC ac (by intro z;cases z);have as:=Ps.mono aM bo;have J:=aL.mono aM;have a0:=Ce.mono aM ky;have aF:upd H1 L (.lst o) L=some (.lst o):=ab;have D:upd H1 L (.lst o) ld=some (.dK a):=by rw[ah be];exact aC
  generalize upd H1 L (.lst o)=H2 at S2 as J a0 aF D ⊢;obtain⟨py,ya,yb,rfl,hy,kp,kq⟩:=a0;refine#[py,_,rfl,cx.of hy,rfl,ya,[yb],rfl,yb,[],rfl,rfl,?_];have al:=I.sR;have bQ:o.length<=100:=by have e:=Paired.length as;rw[List.length_reverse] at e;have:=al.2.2;simp only[List.length_cons] at this;omega
  obtain⟨v,rk,h,t,wr,aW,aT,nh,nt,ch,ct,s1,s2,s3,s4,s5⟩:=I.step;cases m with
  |zero=>cases (show (p,q) :: r=[] from dn)
  |succ m=>
  obtain⟨n1,n2,n3,n4⟩:=dn h t aW aT;have hT:h∈(top2 O G).parts:=aW.sR (al.2.1 _ List.mem_cons_self).1 al.1;have tT:t∈(top2 O G).parts:=aT.sR (al.2.1 _ List.mem_cons_self).2 al.1;refine#[_,rfl,_,rfl,ya,p,h,ld,a,φ,rfl,kp,D,J,aW,λyh kh=>?_];refine#[_,rfl,_,rfl,yb,q,t,ld,a,φ,rfl,kq,D,J,aT,λyt kt=>?_];obtain⟨ph,xh,rfl,R,rh⟩:=kh.shape;obtain⟨pt,xt,rfl,Y,rt⟩:=kt.shape;have aQ:∀b:Kd,b∈(top2 O G).parts->(b.inst v).aO ^ 3<=3 ^ (top2 O G).aO->(b.inst v).size<=10000000/\(b.inst v).deep<=2900:=λb hb hc=>by refine#[Nat.le_trans (jg hc hN) (by decide),?_];have h1:=fq (v:=v) (k:=b) (N:=((bz (top2 O G)).length+1)*(top2 O G).deep+1) λm' _=>wr.deep al.1 m';have h2:=dD hb;have h3:((bz (top2 O G)).length+1)*(top2 O G).deep<=43*42:=Nat.mul_le_mul (by omega) bJ;omega
  have Z:∀(x:Int) (b:Kd) (pb:Addr) (H3:Hp) (s5 s6:Option V),aq H2 H3->cP H3 (.ref pb) b->cY x (top2 O G)->φ x=none->c7 O G (Wk.put φ x b) r->Dn O G m (Wk.put φ x b) r->∃m',m' < m+1/\uj H ld lp O G m' [some (V.ref lp),some (.ref ld),some (.ref L),some ya,some yb,s5,s6] (upd H3 ld (.dK (putK a (Sum.inl x) (.ref pb)))):=by intro x b pb H3 s5 s6 B kb bI nx u bB;have bG:=B _ _ D;have T:Tk H3 (upd H3 ld (.dK (putK a (Sum.inl x) (.ref pb)))):=Tk.CZ bG;have hl:=eE a (Sum.inl x) (V.ref pb);have bP:=uh (k:=b) bI nx;exact#[m,Nat.lt_succ_self _,_,_,_,_,putK a (Sum.inl x) (.ref pb),o,r,Wk.put φ x b,L,rfl,C,(S2.trans B).upd a8,ab,by rw[ah be.symm];exact B _ _ aF,as.mono (B.tk.trans T),(J.mono (B.tk.trans T)).put x (kb.mono T),u,bB,by omega]
  have bb:∀(s5 s6:Option V),c7 O G φ r->∃m',m' < m+1/\uj H ld lp O G m' [some (V.ref lp),some (.ref ld),some (.ref L),some ya,some yb,s5,s6] H2:=λs5 s6 u=>
   ⟨m,Nat.lt_succ_self _,_,_,_,_,a,o,r,φ,L,rfl,C,S2,D,aF,as,J,u,n1 u,hK⟩
  refine#[_,rfl,pt,_,0,_,rfl,rfl,cx.of Y,ar (j:=0) rfl,rfl,_,rfl,?_];by_cases aI:iw t="blank"
  .refine bO (λ_=>?_) λz=>absurd (by simp[aI]) z;obtain⟨x,rfl⟩:=fR.mp aI;refine#[_,rfl,ph,_,0,_,rfl,rfl,cx.of R,ar (j:=0) rfl,rfl,_,rfl,?_];by_cases U:iw h="blank"
   .refine bO (λz=>absurd z (by simp[U])) λ_=>?_;obtain⟨n,rfl⟩:=fR.mp U;cases rh;cases rt;refine#[_,rfl,ph,_,0,_,rfl,rfl,cx.of R,ar (j:=0) rfl,rfl,_,rfl,?_];refine bO (λ_=>?_) λz=>absurd (by simp[iw]) z;refine#[_,rfl,_,rfl,.ax n,.ax x,kh,kt,by show 1<=3000;decide,_,rfl,?_];by_cases aR:n=x
    .subst aR;refine bO (λz=>absurd z (by simp)) λ_=>?_;refine#[_,rfl,ph,_,0,_,rfl,rfl,cx.of R,ar (j:=0) rfl,_,rfl,pt,_,0,_,rfl,rfl,cx.of Y,ar (j:=0) rfl,rfl,_,rfl,?_];refine bO (λz=>absurd z (by simp[iw])) λ_=>?_;refine#[_,rfl,ph,_,rfl,.inr (cx.of R),rfl,_,rfl,?_];refine bO (λz=>absurd z (by simp)) λ_=>?_;exact bb _ _ (s3 rfl)
    .have ne:(Kd.ax x)≠.ax n:=λz=>by cases z;exact aR rfl
     refine bO (λ_=>?_) λz=>absurd (by simp[aR]) z;have bg:=aQ (Kd.ax x) tT ct;refine#[_,rfl,_,rfl,_,rfl,.ref pt,(Kd.ax x),ld,a,φ,v,rk,rfl,kt,D,J,wr,bg.1,Nat.le_trans bg.2 (by decide),λyf H3 B kf=>?_];refine#[yf,(Kd.ax x).inst v,rfl,kf,bg.1,λlr wl H4 S4 bi an kl=>?_];have S:=B.trans S4;refine#[.ax n,lr,wl,((Kd.ax x).inst v).parts,kh.mono S.tk,rfl,bp.of an,kl,λj hj=>Nat.le_trans (dD hj) bg.2,_,rfl,?_];by_cases M:cY n ((Kd.ax x).inst v)
     .refine bO (λ_=>?_) λz=>absurd (by simp[eI,M]) z;exact qn _ (S2.trans S) ((s1 n rfl ne).1 M)
     .refine bO (λz=>absurd z (by simp[eI,M])) λ_=>?_;have u:=(s1 n rfl ne).2 M;have bd:a.length<=1000:=by omega
      refine#[_,rfl,_,rfl,_,rfl,ph,_,1,_,rfl,rfl,cx.of (S _ _ R),ar (j:=1) rfl,ld,_,rfl,gE.k (k:=Sum.inl n) (S _ _ D) (bh (by omega)),?_];exact Z n (Kd.ax x) pt H4 _ _ S (kt.mono S.tk) (eF hT rfl) (nh n rfl) u (n2 n rfl (nh n rfl) u)
   .refine bO (λ_=>?_) λz=>absurd (by simp[U]) z;have ne:h≠.ax x:=λz=>U (by rw[z];rfl);cases rt;refine#[_,rfl,_,rfl,_,_,rfl,?_];refine#[_,rfl,pt,_,0,_,rfl,rfl,cx.of Y,ar (j:=0) rfl,rfl,_,rfl,?_];refine bO (λ_=>?_) λz=>absurd (by simp[iw]) z;refine#[_,rfl,_,rfl,.ax x,h,kt,kh,by show 1<=3000;decide,_,rfl,?_];refine bO (λ_=>?_) λz=>absurd (by simp;exactλz=>ne z.symm) z;have bg:=aQ h hT ch;refine#[_,rfl,_,rfl,_,rfl,.ref ph,h,ld,a,φ,v,rk,rfl,kh,D,J,wr,bg.1,Nat.le_trans bg.2 (by decide),λyf H3 B kf=>?_];refine#[yf,h.inst v,rfl,kf,bg.1,λlr wl H4 S4 bi an kl=>?_];have S:=B.trans S4;refine#[.ax x,lr,wl,(h.inst v).parts,kt.mono S.tk,rfl,bp.of an,kl,λj hj=>Nat.le_trans (dD hj) bg.2,_,rfl,?_];by_cases M:cY x (h.inst v)
    .refine bO (λ_=>?_) λz=>absurd (by simp[eI,M]) z;exact qn _ (S2.trans S) ((s2 x rfl ne).1 M)
    .refine bO (λz=>absurd z (by simp[eI,M])) λ_=>?_;have u:=(s2 x rfl ne).2 M;have bd:a.length<=1000:=by omega
     refine#[_,rfl,_,rfl,_,rfl,pt,_,1,_,rfl,rfl,cx.of (S _ _ Y),ar (j:=1) rfl,ld,_,rfl,gE.k (k:=Sum.inl x) (S _ _ D) (bh (by omega)),?_];exact Z x h ph H4 _ _ S (kh.mono S.tk) (eF tT rfl) (nt x rfl) u (n3 x rfl (nt x rfl) u)
  .refine bO (λz=>absurd (by simpa using z) aI) λ_=>?_;have ap:∀x,t≠.ax x:=λx z=>aI (by rw[z];rfl);refine#[_,rfl,ph,_,0,_,rfl,rfl,cx.of R,ar (j:=0) rfl,rfl,_,rfl,?_];by_cases U:iw h="blank"
   .obtain⟨n,rfl⟩:=fR.mp U;cases rh;refine bO (λ_=>?_) λz=>absurd (by simp[iw]) z;refine#[_,rfl,_,rfl,.ax n,t,kh,kt,by show 1<=3000;decide,_,rfl,?_];refine bO (λ_=>?_) λz=>absurd (by simp;exactλz=>ap n z.symm) z;have bg:=aQ t tT ct;refine#[_,rfl,_,rfl,_,rfl,.ref pt,t,ld,a,φ,v,rk,rfl,kt,D,J,wr,bg.1,Nat.le_trans bg.2 (by decide),λyf H3 B kf=>?_];refine#[yf,t.inst v,rfl,kf,bg.1,λlr wl H4 S4 bi an kl=>?_];have S:=B.trans S4;refine#[.ax n,lr,wl,(t.inst v).parts,kh.mono S.tk,rfl,bp.of an,kl,λj hj=>Nat.le_trans (dD hj) bg.2,_,rfl,?_];by_cases M:cY n (t.inst v)
    .refine bO (λ_=>?_) λz=>absurd (by simp[eI,M]) z;exact qn _ (S2.trans S) ((s1 n rfl (ap n)).1 M)
    .refine bO (λz=>absurd z (by simp[eI,M])) λ_=>?_;have u:=(s1 n rfl (ap n)).2 M;have bd:a.length<=1000:=by omega
     refine#[_,rfl,_,rfl,_,rfl,ph,_,1,_,rfl,rfl,cx.of (S _ _ R),ar (j:=1) rfl,ld,_,rfl,gE.k (k:=Sum.inl n) (S _ _ D) (bh (by omega)),?_];exact Z n t pt H4 _ _ S (kt.mono S.tk) (eF hT rfl) (nh n rfl) u (n2 n rfl (nh n rfl) u)
   .refine bO (λz=>absurd (by simpa using z) U) λ_=>?_;refine cA ?_;have bk:∀x,h≠.ax x:=λx z=>U (by rw[z];rfl);refine#[_,rfl,ph,_,0,_,rfl,rfl,cx.of R,ar (j:=0) rfl,_,rfl,pt,_,0,_,rfl,rfl,cx.of Y,ar (j:=0) rfl,rfl,_,rfl,?_];by_cases hs:iw h=iw t
    .refine bO (λz=>absurd z (by simp[hs])) λ_=>?_;refine#[_,rfl,ph,_,rfl,.inr (cx.of R),rfl,_,rfl,?_];rcases qq hs with⟨rfl,rfl⟩|⟨n,_,rfl,_⟩|⟨g,c1,c2,e1,e2,rfl,rfl⟩
     .cases rh;refine bO (λz=>absurd z (by simp)) λ_=>?_;exact bb _ _ (s3 rfl)
     .exact absurd rfl (bk n)
     .obtain⟨a1,a2,rfl,bF,bs⟩:=rh;obtain⟨am,X,rfl,bn,bE⟩:=rt;refine bO (λ_=>?_) λz=>absurd (by simp) z;have u:=s4 g c1 c2 e1 e2 rfl rfl;refine#[_,rfl,?_];refine#[_,rfl,ph,_,2,_,rfl,rfl,cx.of R,ar (j:=2) rfl,_,rfl,pt,_,2,_,rfl,rfl,cx.of Y,ar (j:=2) rfl,(by show 2<=sizeLine;decide),λl a4=>?_];have T:Tk H2 (upd H2 l (.tup [a2,X])):=Tk.new a4;have B:aq H2 (upd H2 l (.tup [a2,X])):=aq.new a4;have aS:upd H2 l (.tup [a2,X]) l=some (.tup [a2,X]):=ab;generalize upd H2 l (.tup [a2,X])=H3 at T B aS ⊢;refine#[_,rfl,ph,_,1,_,rfl,rfl,cx.of (T _ _ R),ar (j:=1) rfl,_,rfl,pt,_,1,_,rfl,rfl,cx.of (T _ _ Y),ar (j:=1) rfl,(by show 2<=sizeLine;decide),λt2 a3=>?_];have S4:aq H2 (upd H3 t2 (.tup [a1,am])):=B.upd (B.free a3);have bl:upd H3 t2 (.tup [a1,am]) l=some (.tup [a2,X]):=by rw[ah (au aS a3)];exact aS
      have bf:upd H3 t2 (.tup [a1,am]) t2=some (.tup [a1,am]):=ab;generalize upd H3 t2 (.tup [a1,am])=H4 at S4 bl bf ⊢;refine#[(by show 2<=sizeLine;decide),λl2 a6=>?_];have S5:aq H2 (upd H4 l2 (.lst [.ref l,.ref t2])):=S4.upd (S4.free a6);have bC:upd H4 l2 (.lst [.ref l,.ref t2]) L=some (.lst o):=S5 _ _ aF;refine#[L,l2,o,[.ref l,.ref t2],rfl,rfl,bC,ab,kL (by simp;omega),λl3 aP=>?_];have S6:aq H2 (upd (upd H4 l2 (.lst [.ref l,.ref t2])) l3 (.lst (o++[.ref l,.ref t2]))):=S5.upd (S5.free aP);have a7:Tk H4 (upd (upd H4 l2 (.lst [.ref l,.ref t2])) l3 (.lst (o++[.ref l,.ref t2]))):=(Tk.new a6).trans (Tk.new aP);refine#[m,Nat.lt_succ_self _,_,_,_,_,a,o++[.ref l,.ref t2],(c1,e1) :: (c2,e2) :: r,φ,l3,rfl,(S2.trans S5).free aP,S2.trans S6,S6 _ _ D,ab,?_,J.mono S6.tk,u,n4 g c1 c2 e1 e2 rfl rfl u,hK];rw[List.reverse_cons,List.reverse_cons,List.append_assoc];exact bZ (as.mono S6.tk) (.cons #[l,a2,X,rfl,a7 _ _ bl,bs.mono S6.tk,bE.mono S6.tk] (.cons #[t2,a1,am,rfl,a7 _ _ bf,bF.mono S6.tk,bn.mono S6.tk] .nil))
    .refine bO (λ_=>?_) λz=>absurd (by simp[hs]) z;refine qn _ S2 (s5 ?_);cases h with
     |num=>cases t with
      |num=>exact hs rfl
      |ax n=>exact ap n rfl
      |two g c d=>trivial
     |ax n=>exact absurd rfl (bk n)
     |two f' a' b'=>cases t with
      |num=>trivial
      |ax n=>exact ap n rfl
      |two g c d=>exactλz=>hs (by rw[z];rfl)
end
end K1
namespace L2
open PySem PySem.Spec PyProof.Rows
def EB (lo:Int) (n:Nat):It:=#[λi _=>i < n,λi H x h=>h=H/\x=.int (lo - i),λi _=>n<=i]
theorem rA {P:Program} {w:World} {K:PySem.W.Frag} {O:Expr} (it:Addr) (lo:Int) (n:Nat):Turn P w K O (EB lo n) [it] it (λi h=>IsRangeIter h it (lo+(i:Nat)*(-1)) ((n:Int) - (i:Nat)) (-1)) where
 mem:=by simp
 obj:=λi h st b hb=>by
  have e:b=it:=by simpa using hb
  subst e;exact⟨_,st,λv z=>by have z':Data.fields _=Data.cell v:=z;cases z'⟩
 keep:=λi h h' st k=>k it (by simp) _ st
 item:=by intro X hP hw hK hc i pins s σ H E I hf st hg;subst hP hw hK;obtain⟨f0,f1,f2,f3,f4,f5⟩:=hf it (by simp);have W:=Walks.range (prog:=X.prog) (w:=X.w) (I.ok.hd hc) it lo (-1) n;refine W.item i s _ _ hg st λv h' tk hv st' kk=>?_;obtain⟨t,rfl⟩:=hv;have I1:Inv X pins σ H {s with heap:=h',toks:=tk}:=I.turned (λb o hb e=>kk b o (by simpa using hb) e) f0 f1 f3 f4 f5;refine#[_,rfl,w4 (s:={s with heap:=h',toks:=tk}) (n:="range_iterator") st' rfl rfl (by decide) #[.int (lo - i),H,I1,#[t,?_],#[rfl,rfl],st',λb hb=>(hf b hb).1]];rw[show lo+(i:Int)*(-1)=lo - i by omega]
 done:=by intro X hP hw hK hc i pins s σ H E I hf st hg;subst hP hw hK;obtain⟨f0,f1,f2,f3,f4,f5⟩:=hf it (by simp);exact wpAny_pyNext_range_end (I.ok.hd hc) st (by have:n<=i:=hg;omega) λh' eb=>#[rfl,I.turned (t':=s.toks) (λb o hb e=>eb b o hb e) f0 f1 f3 f4 f5]
 self:=λ_ _ _ _ _ st h=>wpAny_pyIter_rangeiter st h
section
variable {X:Cx} {O:Expr}
inductive yZ (R:It->Hp->Prop) (vs:List V) (H1:Hp):Prop
 |mk (i:Int) (n:Nat) (h1_:vs=[.int i,.int (-1),.int (-1)]) (h2_:Builtin.Range.small i (-1) (-1)=true) (h3_:Builtin.Range.rangeSize i (-1) (-1)=(n:Int)) (h4_:R (EB i n) H1):yZ R vs H1
def BH (t:TA):TI:=λa H R=>t a H (yZ R)
theorem wx {a b c:Expr} {K:TA} {p D:Pos} (C:Gl X "range") (k:X.mg "range"=none) (l:PA X [a,b,c] K) (j:starEach [a,b,c] X.env=[(false,eval a X.env),(false,eval b X.env),(false,eval c X.env)]:=by rfl) (m:starEach [b,c] X.env=[(false,eval b X.env),(false,eval c X.env)]:=by rfl):
  PI X O (.Call (.Name "range" p) [a,b,c] [] D) (BH K):=by
 intro P s w H R I h;refine Call_ (ft I C k boot_range (PyProof.Rows.callWith_type1 (cL (l D P s w H _ I h) λu S z=>?_) (by rw[j,m]) (by rw[m];rfl)));obtain⟨v,g,x,y,Q⟩:=z;obtain⟨i,n,e,N,B,q⟩:=Q;subst e;cases y with
 |cons r J=>
  cases J with
  |cons G J=>
   cases J with
   |cons M J=>
    cases J;obtain⟨t,rfl⟩:=r;obtain⟨T,rfl⟩:=G;obtain⟨L,rfl⟩:=M;refine call_range_3 (by decide) ?_ (Or.inl (PyProof.noPylong_small (by decide)));refine wpAny_pyIter_range (IsRange.new ..) N ?_;have A:Inv X P w g {S with heap:=S.heap.push {cls:=.type "range",data:=.fields [.int i t,.int (-1) T,.int (-1) L].toArray},toks:=S.toks}:=x.kept λb o e=>Heap.get?_push_of_some _ e;refine#[(S.heap.push {cls:=.type "range",data:=.fields [.int i t,.int (-1) T,.int (-1) L].toArray}).objs.size,[(S.heap.push {cls:=.type "range",data:=.fields [.int i t,.int (-1) T,.int (-1) L].toArray}).objs.size],_,_,g,rfl,A.kept (t':=S.toks) λb o e=>Heap.get?_push_of_some _ e,rA _ i n,?_,λb d=>?_,q]
    .have f:i+((0:Nat):Int)*(-1)=i:=by simp
     have E:((n:Nat):Int) - ((0:Nat):Int)=Builtin.Range.rangeSize i (-1) (-1):=by rw[B];simp
     show IsRangeIter _ _ (i+((0:Nat):Int)*(-1)) ((n:Int) - ((0:Nat):Int)) (-1);rw[f,E];exact Heap.get?_push_size _ rfl
    .have e:b=(S.heap.push {cls:=.type "range",data:=.fields [.int i t,.int (-1) T,.int (-1) L].toArray}).objs.size:=by simpa using d
     subst e;exact A.BX (Nat.le_refl _) (A.bE.fresh (Nat.le_refl _))
end
theorem tD {lo:Int} {n:Nat} {g:TG} {t:TS} {D:Ends} {a:St} {H:Hp} (Pv:Nat->St->Hp->Prop) (d:Pv 0 a H) (j:∀i a H,i < n->Pv i a H->g (.int (lo - i)) a H λk b=>t (D.lp (Pv (i+1))) k b) (h:∀a H,Pv n a H->D.nx a H):pT g t D a (EB lo n) H:=by
 refine#[λi m a H=>m=n - i/\i<=n/\Pv i a H,#[n,by simp,Nat.zero_le _,d],?_];rintro i m a H ⟨rfl,o,p⟩;by_cases f:i < n
 .refine .inr #[f,Pv (i+1),λl c L=>#[n - (i+1),by omega,rfl,f,L],λx c y=>?_];obtain⟨e,y⟩:=y;subst e y;exact j i a _ f p
 .have e:i=n:=by omega
  subst e;exact .inl #[Nat.le_refl _,h a H p]
end L2
namespace Wk
def fL (c:Nat->Bool) (first:Int):Nat->Kd->Kd
 |i,.num=>if c i then .ax (first+i) else .num
 |i,.ax _=>if c i then .ax (first+i) else .num
 |i,.two f a b=>if c i then .ax (first+i) else .two f (fL c first (i+1) a) (fL c first (i+1+a.size) b)
def mD (c:Nat->Bool) (first:Int):Nat->List Kd->List Kd
 |_,[]=>[]
 |i,t :: r=>fL c first i t :: mD c first (i+t.size) r
theorem y3 (c:Nat->Bool) (first:Int) (i:Nat) (f:Bool) (a b:Kd) (r:List Kd):mD c first (i+1) (kids (.two f a b)++r)=fL c first (i+1) a :: fL c first (i+1+a.size) b :: mD c first (i+(Kd.two f a b).size) r:=by
 show fL c first (i+1) a :: fL c first (i+1+a.size) b :: mD c first (i+1+a.size+b.size) r=_
 rw[show i+1+a.size+b.size=i+(Kd.two f a b).size by simp only[Kd.size];omega]
theorem fG (c:Nat->Bool) (first:Int):∀(k:Kd) (i:Nat),(fL c first i k).aO<=k.aO
 | .num,i=>by unfold fL;split <;> exact Nat.le_refl _
 | .ax _,i=>by unfold fL;split <;> exact Nat.le_refl _
 | .two f a b,i=>by
  have:=fG c first a (i+1)
  have:=fG c first b (i+1+a.size)
  have:=gz a;unfold fL;split
  .show 1<=a.aO+b.aO;omega
  .show (fL c first (i+1) a).aO+(fL c first (i+1+a.size) b).aO<=a.aO+b.aO;omega
def jK (first:Int):Nat->Kd->Nat->Option Kd
 |i,k,j=>if j=i then some (fL (λ_=>false) first i k) else match k with
  | .two _ a b=>if j < i+1+a.size then jK first (i+1) a j else jK first (i+1+a.size) b j
  |_=>none
theorem jL (first:Int) (i:Nat) (k:Kd):jK first i k i=some (fL (λ_=>false) first i k):=by cases k <;> simp[jK]
theorem jk {c:Nat->Bool} {first:Int} {θ:Int->Kd}:∀(k:Kd) (i:Nat),(∀j,i<=j->j < i+k.size->∀t,jK 0 i k j=some t->θ (first+j)=t)->(fL c first i k).inst θ=fL (λ_=>false) 0 i k
 | .num,i,h=>by
  have:=h i (Nat.le_refl _) (by simp[Kd.size]) _ (jL 0 i .num);unfold fL;split
  .show θ (first+i)=_;rw[this];rfl
  .rfl
 | .ax n,i,h=>by
  have:=h i (Nat.le_refl _) (by simp[Kd.size]) _ (jL 0 i (.ax n));unfold fL;split
  .show θ (first+i)=_;rw[this];rfl
  .rfl
 | .two f a b,i,h=>by
  have m:(Kd.two f a b).size=a.size+b.size+1:=rfl;have p:=h i (Nat.le_refl _) (by omega) _ (jL 0 i (.two f a b));have l:=jk (c:=c) (first:=first) (θ:=θ) a (i+1) λj o L t e=>h j (by omega) (by omega) t (by unfold jK;rw[if_neg (by omega)];show (if j < i+1+a.size then jK 0 (i+1) a j else jK 0 (i+1+a.size) b j)=_;rw[if_pos (by omega)];exact e)
  have d:=jk (c:=c) (first:=first) (θ:=θ) b (i+1+a.size) λj o L t e=>h j (by omega) (by omega) t (by unfold jK;rw[if_neg (by omega)];show (if j < i+1+a.size then jK 0 (i+1) a j else jK 0 (i+1+a.size) b j)=_;rw[if_neg (by omega)];exact e)
  by_cases H:c i=true
  .have g:fL c first i (.two f a b)=.ax (first+i):=by simp[fL,H]
   rw[g];show θ (first+i)=_;rw[p]
  .have g:fL c first i (.two f a b)=.two f (fL c first (i+1) a) (fL c first (i+1+a.size) b):=by simp[fL,H]
   have E:fL (λ_=>false) 0 i (.two f a b)=.two f (fL (λ_=>false) 0 (i+1) a) (fL (λ_=>false) 0 (i+1+a.size) b):=by simp[fL]
   rw[g,E];show Kd.two f _ _=_;rw[l,d]
theorem y4 (c G:Nat->Bool) (k:Kd) (a:k.size<=100):∃b:Int->Kd,(fL c 0 0 k).inst b=fL (λ_=>false) 0 0 k/\(fL G 100 0 k).inst b=fL (λ_=>false) 0 0 k:=by
 refine#[λn=>((if n < 100 then jK 0 0 k n.toNat else jK 0 0 k (n - 100).toNat).getD .num),jk k 0 λj _ l t e=>?_,jk k 0 λj _ l t e=>?_]
 .show ((if (0+(j:Int)) < 100 then _ else _:Option Kd)).getD _=t;rw[if_pos (by omega),show (0+(j:Int)).toNat=j by omega,e];rfl
 .show ((if (100+(j:Int)) < 100 then _ else _:Option Kd)).getD _=t;rw[if_neg (by omega),show (100+(j:Int) - 100).toNat=j by omega,e];rfl
end Wk
namespace Wk
def AQ (c:Nat->Bool) (first:Int) (i:Nat):Kd->Kd
 | .two f a b=>.two f (fL c first (i+1) a) (fL c first (i+1+a.size) b)
 |t=>t
def EN:Kd->Kd
 | .ax _=>.num
 |t=>t
theorem CB (c:Nat->Bool) (first:Int) (i:Nat) (t:Kd):fL c first i t=if c i then .ax (first+i) else EN (AQ c first i t):=by cases t <;> rfl
theorem jY (c:Nat->Bool) (first:Int):∀(l:List Kd) (i:Nat),(mD c first i l).length=l.length
 |[],_=>rfl
 |t :: r,i=>by show (mD c first (i+t.size) r).length+1=_;rw[jY c first r];rfl
theorem tE {x:Int}:∀{k:Kd},Kd.ax x∈k.parts↔cY x k
 | .num=>by simp[Kd.parts,cY]
 | .ax n=>by simp[Kd.parts,cY];exact eq_comm
 | .two f a b=>by simp[Kd.parts,cY,tE (k:=a),tE (k:=b)]
theorem jM (θ:Int->Kd):∀k:Kd,k.fill (λn=>some (θ n))=k.inst θ
 | .num=>rfl
 | .ax _=>rfl
 | .two f a b=>by show Kd.two f (a.fill _) (b.fill _)=Kd.two f (a.inst θ) (b.inst θ);rw[jM θ a,jM θ b]
theorem rB {w k:Kd} (θ:Int->Kd) (h:w.inst θ=k):fit w k=true:=(zV w k).mpr #[λn=>some (θ n),by rw[jM];exact h]
theorem mE {k:Kd} {n:Int} (h:cY n k):n∈dN k.parts:=zN (tE.mpr h)
theorem g7 {φ:eR}:∀{k:Kd},(∀n,cY n k->∃u,φ n=some u/\u.ok)->(k.fill φ).ok
 | .num,_=>trivial
 | .ax n,h=>by obtain⟨u,e,o⟩:=h n rfl;show ((φ n).getD (.ax n)).ok;rw[e];exact o
 | .two f a b,h=>#[g7 (k:=a) λn q=>h n (.inl q),g7 (k:=b) λn q=>h n (.inr q)]
theorem pF {os:List Int} {n:Int} (h:n∈os):rank os n=some (.ax (os.idxOf n:Nat)):=if_pos h
theorem pG (k:Kd):(gP k).ok:=g7 λ_ q=>#[_,pF (mE q),zO (pF (mE q))]
theorem jN (θ:Int->Kd) (os:List Int):∀t:Kd,(∀n,cY n t->n∈os)->(t.fill (rank os)).inst (λj=>θ (os.getD j.toNat 0))=t.inst θ
 | .num,_=>rfl
 | .ax n,h=>by have m:=h n rfl;show ((rank os n).getD (.ax n)).inst _=θ n;rw[pF m];show θ (os.getD ((os.idxOf n:Nat):Int).toNat 0)=θ n;have c:os.idxOf n < os.length:=List.idxOf_lt_length_iff.mpr m;rw[Int.toNat_natCast,List.getD_eq_getElem?_getD,List.getElem?_eq_getElem c,List.getElem_idxOf c];rfl
 | .two f a b,h=>by show Kd.two f _ _=Kd.two f _ _;rw[jN θ os a λn q=>h n (.inl q),jN θ os b λn q=>h n (.inr q)]
theorem tG (θ:Int->Kd) (k:Kd):∃e:Int->Kd,(gP k).inst e=k.inst θ:=#[_,jN θ (dN k.parts) k λ_ q=>mE q]
end Wk
namespace L2
open PySem PySem.Spec PyProof.Rows
inductive mL (t:TS) (D:Ends) (σ:St) (H:Hp):Prop
 |mk (N:St->Hp->Prop) (h1_:t {D with nx:=N} σ H) (h2_:∀σ' H',N σ' H'->D.nx σ' H'):mL t D σ H
theorem jl {X:Cx} {st:Stmt} {t:TS} (h:PS X st t):PS X st (mL t):=by
 intro P s a H D I q;obtain⟨N,c,b⟩:=q;refine cL (h P s a H _ I c) λf w q=>?_;cases f with
 |next=>obtain⟨e,d,i,p⟩:=q;exact#[e,d,i,b e d p]
 |brk=>exact q
 |cont=>exact q
 |ret u=>exact q
end L2
namespace K1
open PySem L2 Wk
section
variable {P:Program} {w:World} {K:W.Frag} {mg:Str->Option Value} {base:Heap} {f g:Addr} {fd gd:FuncData}
theorem tH (n:Nat) (c:1<=n) (h:n<=1000):Builtin.Range.small ((n:Int) - 1) (-1) (-1)=true/\Builtin.Range.rangeSize ((n:Int) - 1) (-1) (-1)=(n:Int):=by
 have e:Builtin.Range.rangeSize ((n:Int) - 1) (-1) (-1)=(n:Int):=by unfold Builtin.Range.rangeSize;rw[if_neg (by omega),if_pos (by omega)];simp
 refine#[?_,e];unfold Builtin.Range.small;rw[e];simp only[Builtin.Range.rangeFitsLong,Bool.and_eq_true,Bool.or_eq_true,decide_eq_true_eq];refine#[#[#[#[#[by omega,by omega],by decide],by decide],#[by omega,by omega]],.inr (by decide)]
def kT (n:List Int) (k:Nat):Bool:=decide (0 < k)&&!n.isEmpty&&decide (n.getD (k%n.length) 0%4=1)
theorem AR {n:List Int} {k:Nat} (d:0 < k) (l:n≠[]) (c:n.getD (k%n.length) 0%4=1):kT n k=true:=by
 cases n with
 |nil=>exact absurd rfl l
 |cons x r=>unfold kT;rw[decide_eq_true d,decide_eq_true c];rfl
theorem AS {n:List Int} {k:Nat} (c:¬n.getD (k%n.length) 0%4=1):¬kT n k=true:=by unfold kT;rw[decide_eq_false c,Bool.and_false];exact Bool.false_ne_true
inductive fW (K:W.Frag) (vs:List V) (H:Hp) (Q:VK) (zz3:XK):Prop
 |mk (v:_) (k:_) (la:_) (ns:_) (first:Int) (h1_:vs=[v,.ref la,.int first]) (h2_:cP H v k) (h3_:k.size<=1000) (h4_:bp K H la (ns.map V.int)) (h5_:ns.length<=1000) (h6_:∀v' H',aq H H'->cP H' v' (fL (kT ns) first 0 k)->Q v' H'):fW K vs H Q zz3
abbrev E3:List Str:=["_law_kind","_law_cells","_law_first","_law_pile","_law_row","_law_k","_law_part","_law_one"]
theorem rC:a9 E3 ["_law_kind","_law_cells","_law_first"] (ao oQ):=#[rfl,rfl,rfl,by decide +kernel,rfl,by decide +kernel,by decide +kernel]
inductive BI (H:Hp) (first:Int) (k:Kd) (la:Addr) (lp:Addr) (lr:Addr) (ns:List Int) (v:V) (ws:List V) (i:Nat) (σ:St) (H3:Hp):Prop
 |mk (o5:_) (o6:_) (o7:_) (xs:_) (h1:σ=[some v,some (.ref la),some (.int first),some (.ref lp),some (.ref lr),o5,o6,o7]) (h2:aq H H3) (h3:H3 lr=some (.lst ws)) (h4:H3 lp=some (.lst xs)) (h5:Ks H3 ws k.parts) (h6:Ks H3 xs (mD (kT ns) first (k.parts.length - i) (mO [k] (k.parts.length - i))).reverse):BI H first k la lp lr ns v ws i σ H3
def wy (K:W.Frag):TS:=aN (mL (cI (jr (bD (bj (mW λ(i j:Int)=>V.bl (Decidable.decide (j < i))) (af (5:Nat)) (tC (V.int (0:Int))))) (jr (bD (bj (qi K) (af (1:Nat)) (cK av))) (bD (bj ki (bj (rI (λ(x j:Int)=>(0:Int) < j) λ(i j:Int)=>V.int (i%j)) (bj (eL K) (af (1:Nat)) (bj (rI (λ(x j:Int)=>(0:Int) < j) λ(i j:Int)=>V.int (i%j)) (af (5:Nat)) (lH (aV K) (ai (af (1:Nat)) av)))) (tC (V.int (4:Int)))) (tC (V.int (1:Int))))))) (bq (dZ (ai (tC (V.str (PySem.Str.ofString "blank"))) (ai (bj (mW λ(i j:Int)=>V.int (i+j)) (af (2:Nat)) (af (5:Nat))) av))) (az (6:Nat))) cC)) (dk (ou K "list" cB (af (3:Nat)) (ai (af (6:Nat)) av)))
def wz (K:W.Frag):TS:=aN (mL (cI (bD (bj ki (bj (cn K) (af (6:Nat)) (tC (V.int (0:Int)))) (tC (V.str (PySem.Str.ofString "blank"))))) (bq (dZ (ai (tC (V.str (PySem.Str.ofString "number"))) av)) (az (6:Nat))) cC)) (wy K)
def wA (K:W.Frag):TS:=aN (bq (iz K "list" iq (af (3:Nat))) (az (7:Nat))) (bq (dZ (ai (bj (cn K) (af (6:Nat)) (tC (V.int (0:Int)))) (ai (af (7:Nat)) (ai (iz K "list" iq (af (3:Nat))) av)))) (az (6:Nat)))
def wB (K:W.Frag):TS:=aN (mL (cI (bD (bj (CY K Bool.false) (bj (cn K) (af (6:Nat)) (tC (V.int (0:Int)))) (cK (ai (tC (V.str (PySem.Str.ofString "pair"))) (ai (tC (V.str (PySem.Str.ofString "to"))) av))))) (wA K) cC)) (wz K)
def wC (K:W.Frag):TS:=aN (bq (bj (eL K) (af (4:Nat)) (af (5:Nat))) (az (6:Nat))) (wB K)
def wD (K:W.Frag):TS:=aN (oh (BH (ai (bj (mW λ(i j:Int)=>V.int (i - j)) (lH (aV K) (ai (af (4:Nat)) av)) (tC (V.int (1:Int)))) (ai (Dk (rU λ(i:Int)=>V.int (-i)) (tC (V.int (1:Int)))) (ai (Dk (rU λ(i:Int)=>V.int (-i)) (tC (V.int (1:Int)))) av)))) (az (5:Nat)) (wC K)) (cT (bj (eL K) (af (3:Nat)) (tC (V.int (0:Int)))))
def wF (K:W.Frag):TS:=aN (bq (cO K1.dU [] E0 (ai (af (0:Nat)) av)) (az (4:Nat))) (wD K)
def wG (K:W.Frag):TS:=aN (bq (cK av) (az (3:Nat))) (wF K)
theorem wH (F:gj K "_law_hidden" "_law_hidden" oQ f fd) (G:aU P w K mg base cM 1 g gd ["_law_kind"] dU) (bG:Binds K gd ["_law_kind"] []) (kG:W.keepIn K (.ref g)=true) (mG:mg "_law_inside"=some (.ref g)) (ml:mg "len"=none) (mr:mg "range"=none):aU P w K mg base cM 2 f fd ["_law_kind","_law_cells","_law_first"] (fW K):=by
 refine F.ok rC (λvs H Q E h=>?_) (λbg A bb s H vs Q E hr h=>?_)
 .obtain⟨v,k,la,c,first,rfl,_,_,_,_,_⟩:=h;rfl
 obtain⟨v,k,la,c,first,rfl,hk,hB,aK,hn,q⟩:=h;have nd:=rC.nd;have hu:=fI hr;refine#[wG K,ae (ay (i:=3) nd rfl (Or.inl rfl) (ba ag)) (ae (ay (i:=4) nd rfl (Or.inl rfl) (bU G hr rfl mG kG bG .nil bN (aa (pv 0) ag))) (ae (gb PassesOwn.never rfl (wx rfl mr (aa (cD xf (bX br rfl ml PySem.boot_len (aa (pv 4) ag)) ak) (aa (tL oj ak) (aa (tL oj ak) ag)))) (dg (i:=5) nd rfl (Or.inl rfl)) (ae (ay (i:=6) nd rfl (Or.inl rfl) (aB cf (pv 4) (pv 5) (λ_ _=>rfl))) (ae (jl (cb (aD ic (aB aG (pv 6) ak (λ_ _=>rfl)) (ba (aa aZ (aa aZ ag))) rfl) (ae (ay (i:=7) nd rfl (Or.inl rfl) (dq PySem.F.plainAttrs_list PySem.F.slot_list_pop PySem.F.type_list_pop dr (pv 3))) (aj (ay (i:=6) nd rfl (Or.inl rfl) (cj (aa (aB aG (pv 6) ak (λ_ _=>rfl)) (aa (pv 7) (aa (dq PySem.F.plainAttrs_list PySem.F.slot_list_pop PySem.F.type_list_pop dr (pv 3)) ag))))))) bw)) (ae (jl (cb (aD dj (aB aG (pv 6) ak (λ_ _=>rfl)) aZ (aX _)) (aj (ay (i:=6) nd rfl (Or.inl rfl) (cj (aa aZ ag)))) bw)) (ae (jl (cb (PW.pt (fc (aD xi (pv 5) ak (aX _)) (fc (aD (jy (Nat.lt_of_succ_lt hu)) (pv 1) (ba ag) (aX _)) (eK (aD dj (cD fe (aB cf (pv 1) (cD fe (pv 5) (bX br rfl ml PySem.boot_len (aa (pv 1) ag))) (λ_ _=>rfl)) ak) ak (aX _)))))) (aj (ay (i:=6) nd rfl (Or.inl rfl) (cj (aa aZ (aa (cD rM (pv 2) (pv 5)) ag))))) bw)) (aj (cp (eD PySem.F.plainAttrs_list PySem.F.slot_list_append PySem.F.type_list_append bV (pv 3) (aa (pv 6) ag))))))))) (aj (bc (aB cf (pv 3) ak (λ_ _=>rfl)))))),?_];refine#[Nat.zero_le _,λl aJ=>?_];have S1:aq H (upd H l (.lst [])):=aq.new aJ;refine#[_,rfl,v,k,rfl,hk.mono S1.tk,by omega,λL d H2 S2 aL aP aW=>?_];have a2:H2 l=some (.lst []):=S2 _ _ ab;have aY:d.length=k.parts.length:=Paired.length aW;have bf:k.parts.length=k.size:=Kd.cm k;have a8:=k.size_pos;have R:L≠l:=λz=>by rw[z,ab] at aL;cases aL
 have bd:H L=none:=S1.free aL;have rd:=tH k.parts.length (by omega) (by omega);rw[<-aY] at rd;refine#[_,rfl,L,_,rfl,.inl (bp.of aP),_,_,rfl,rfl,_,rfl,_,rfl,_,d.length,rfl,rd.1,rd.2,tD (BI H first k la l L c v d) #[none,none,none,[],rfl,S1.trans S2,aP,a2,aW,?_] (λi σ H3 hi hP=>?_) (λσ H3 hP=>?_)]
 .rw[Nat.sub_zero,oG (by rw[cw];exact Nat.le_refl _)];exact .nil
 .obtain⟨o5,o6,o7,xs,rfl,hS,hR,hL,kR,kX⟩:=hP;have aS:k.parts.length - 1 - i < d.length:=by omega
  obtain⟨x,hx⟩:∃x,d[k.parts.length - 1 - i]?=some x:=#[_,List.getElem?_eq_getElem aS];obtain⟨t,ht,kt⟩:=dw kR hx;obtain⟨r,al⟩:=oF (ts:=[k]) (n:=k.parts.length - 1 - i) (by rw[cw];exact ht);have aI:=eM al;rw[show k.parts.length - 1 - i+1=k.parts.length - i by omega] at aI;have aO:k.parts.length - (i+1)=k.parts.length - 1 - i:=by omega
  rw[aI,show k.parts.length - i=k.parts.length - 1 - i+1 by omega] at kX;have ei:((d.length:Int) - 1 - (i:Int))=((k.parts.length - 1 - i:Nat):Int):=by omega
  rw[ei];generalize k.parts.length - 1 - i=S at hx ht al aI aO kX aS ⊢;obtain⟨px,ys,rfl,am,ry⟩:=kt.shape;refine#[_,rfl,_,rfl,L,d,S,_,rfl,rfl,bp.of hR,ar (j:=S) hx,?_];have a6:(t :: r).length<=k.parts.length:=by have:=fB [k] S;rw[al,cw] at this;omega
  refine#[λσ p=>∃x o C,σ=[some v,some (.ref la),some (.int first),some (.ref l),some (.ref L),some (.int (S:Nat)),some x,o]/\aq H p/\p L=some (.lst d)/\p l=some (.lst C)/\Ks p d k.parts/\Ks p C (mD (kT c) first (S+t.size) r).reverse/\cP p x (AQ (kT c) first S t),?_,?_]
  .refine#[_,rfl,px,_,0,_,rfl,rfl,cx.of am,ar (j:=0) rfl,(by show 2<=sizeLine;decide),λlc an=>?_];have S3:aq H (upd H3 lc (.lst [.str "pair",.str "to"])):=hS.upd (hS.free an);have ac:Tk H3 (upd H3 lc (.lst [.str "pair",.str "to"])):=Tk.new an;have U:upd H3 lc (.lst [.str "pair",.str "to"]) L=some (.lst d):=by rw[ah (au hR an)];exact hR
   have m:upd H3 lc (.lst [.str "pair",.str "to"]) l=some (.lst xs):=by rw[ah (au hL an)];exact hL
   refine#[lc,_,rfl,.inl (bp.of ab),rfl,rfl,_,rfl,?_];have aT:=ac _ _ am;have aR:=ry.mono ac;have as:=kR.mono ac;have I:=kX.mono ac;have aH:=kt.mono ac;generalize upd H3 lc (.lst [.str "pair",.str "to"])=H4 at S3 U m aT aR as I aH ⊢;rw[sk];cases t with
   |num=>exact cA #[_,_,xs,rfl,S3,U,m,as,I,aH]
   |ax n=>exact cA #[_,_,xs,rfl,S3,U,m,as,I,aH]
   |two g' a b=>
    refine fM ?_;obtain⟨xa,xb,rfl,ka,kb⟩:=aR;rw[y3,List.reverse_cons,List.reverse_cons] at I;obtain⟨a7,ya,rfl,y,a1⟩:=bt I;obtain⟨X,yb,rfl,D,a3⟩:=bt y;refine#[_,rfl,.inl #[rfl,_,bp.of m],l,_,ya,rfl,rfl,m,by simp,?_];rw[List.dropLast_concat];have aQ:upd H4 l (.lst (X++[yb])) l=some (.lst (X++[yb])):=ab;have a4:upd H4 l (.lst (X++[yb])) px=some (.tup [.str (tag g'),xa,xb]):=Tk.lst m _ _ aT;refine#[_,rfl,px,_,0,_,rfl,rfl,cx.of a4,ar (j:=0) rfl,_,rfl,_,rfl,.inl #[rfl,_,bp.of aQ],l,_,yb,rfl,rfl,aQ,by simp,?_];rw[List.dropLast_concat,iN];refine#[(by show 3<=sizeLine;decide),λtp J=>?_];have M:upd (upd H4 l (.lst X)) tp (.tup [.str (tag g'),ya,yb]) l=some (.lst X):=by rw[ah (au ab J),ab]
    have S5:aq H (upd H4 l (.lst X)):=S3.upd aJ;have N:Tk H4 (upd (upd H4 l (.lst X)) tp (.tup [.str (tag g'),ya,yb])):=(Tk.lst m).trans (Tk.new J);refine#[_,_,X,rfl,S5.upd (S5.free J),?_,M,as.mono N,Ks.mono N D,#[tp,ya,yb,rfl,ab,a1.mono N,a3.mono N]];rw[ah (λz=>by rw[<-z,ah R,U] at J;cases J),ah R];exact U
  rintro σ p ⟨x,o,C,rfl,S5,B,M,T,y,O⟩;refine#[λσ p=>∃x o C,σ=[some v,some (.ref la),some (.int first),some (.ref l),some (.ref L),some (.int (S:Nat)),some x,o]/\aq H p/\p L=some (.lst d)/\p l=some (.lst C)/\Ks p d k.parts/\Ks p C (mD (kT c) first (S+t.size) r).reverse/\cP p x (EN (AQ (kT c) first S t)),?_,?_]
  .generalize AQ (kT c) first S t=u at O ⊢
   obtain⟨px,ys,rfl,am,ry⟩:=O.shape;refine#[_,rfl,px,_,0,_,rfl,rfl,cx.of am,ar (j:=0) rfl,rfl,_,rfl,?_];cases u with
   |num=>exact bO (λz=>absurd z (by simp[iw];decide)) λ_=>#[_,o,C,rfl,S5,B,M,T,y,O]
   |ax n=>refine bO (λ_=>?_) λz=>absurd (by simp[iw]) z;refine#[(by show 1<=sizeLine;decide),λtp J=>?_];exact#[_,o,C,rfl,S5.upd (S5.free J),by rw[ah (au B J)];exact B,by rw[ah (au M J)];exact M,T.mono (Tk.new J),y.mono (Tk.new J),#[tp,rfl,ab]]
   |two g' a b=>exact bO (λz=>absurd z (by cases g' <;> simp[iw,tag] <;> decide)) λ_=>#[_,o,C,rfl,S5,B,M,T,y,O]
  clear O S5 B M T y;rintro σ p ⟨x,o,C,rfl,S5,B,M,T,y,O⟩;refine#[λσ p=>∃x o C,σ=[some v,some (.ref la),some (.int first),some (.ref l),some (.ref L),some (.int (S:Nat)),some x,o]/\aq H p/\p L=some (.lst d)/\p l=some (.lst C)/\Ks p d k.parts/\Ks p C (mD (kT c) first (S+t.size) r).reverse/\cP p x (fL (kT c) first S t),?_,?_]
  .rw[CB];refine#[_,rfl,_,_,rfl,rfl,_,rfl,?_];by_cases h0:0 < S
   .refine bO (λ_=>?_) λz=>absurd (by simpa using h0) z;refine#[_,rfl,Nat.zero_le _,λle aC=>?_];have S6:aq H (upd p le (.lst [])):=S5.upd (S5.free aC);have N:Tk p (upd p le (.lst [])):=Tk.new aC;refine#[la,le,_,rfl,rfl,S6.seq aK,bp.of ab,_,rfl,?_];have Z:upd p le (.lst []) L=some (.lst d):=by rw[ah (au B aC)];exact B
    have Y:upd p le (.lst []) l=some (.lst C):=by rw[ah (au M aC)];exact M
    have ap:=T.mono N;have D:=y.mono N;have aM:=O.mono N;generalize upd p le (.lst [])=H6 at S6 Z Y ap D aM ⊢;by_cases aA:c=[]
    .subst aA;refine cA (cA ?_);rw[if_neg (by simp[kT])];exact#[_,o,C,rfl,S6,Z,Y,ap,D,aM]
    .have a5:0 < c.length:=List.length_pos_iff.mpr aA;have he:(!(c.map V.int).isEmpty)=true:=by simp[aA]
     refine gF he ?_;have hm:S%c.length < c.length:=Nat.mod_lt _ a5;have ea:(c.map V.int)[S%c.length]?=some (.int (c.getD (S%c.length) 0)):=by rw[List.getElem?_map,List.getElem?_eq_getElem hm,List.getD_eq_getElem?_getD,List.getElem?_eq_getElem hm];rfl
     have ei:((S:Nat):Int)%(((c.map V.int).length:Nat):Int)=((S%c.length:Nat):Int):=by rw[List.length_map];exact(Int.natCast_emod S c.length).symm
     refine#[_,rfl,_,rfl,_,rfl,la,_,rfl,.inl (S6.seq aK),_,_,rfl,rfl,by rw[List.length_map];omega,?_];have a0:rX (c.map V.int) (((S:Nat):Int)%(((c.map V.int).length:Nat):Int))=some (.int (c.getD (S%c.length) 0)):=by rw[ei];exact ar ea
     refine#[la,_,_,_,rfl,rfl,S6.seq aK,a0,_,_,rfl,rfl,(by show (0:Int) < 4;decide),rfl,_,rfl,?_];by_cases h1:c.getD (S%c.length) 0%4=1
     .refine bO (λ_=>?_) λz=>absurd (by show decide (V.int (c.getD (S%c.length) 0%4)=V.int 1)=true;rw[h1];rfl) z;rw[if_pos (AR h0 aA h1)];refine#[_,rfl,_,rfl,_,_,rfl,rfl,(by show 2<=sizeLine;decide),λtp J=>?_];exact#[_,o,C,rfl,S6.upd (S6.free J),by rw[ah (au Z J)];exact Z,by rw[ah (au Y J)];exact Y,ap.mono (Tk.new J),D.mono (Tk.new J),#[tp,rfl,ab]]
     .refine bO (λz=>absurd (by simpa using z) h1) λ_=>?_;rw[if_neg (AS h1)];exact#[_,o,C,rfl,S6,Z,Y,ap,D,aM]
   .refine bO (λz=>absurd (by simpa using z) h0) λ_=>?_;refine cA ?_;rw[if_neg (by simp[kT,h0])];exact#[_,o,C,rfl,S5,B,M,T,y,O]
  clear O S5 B M T y;rintro σ p ⟨x,o,C,rfl,S5,B,M,T,y,O⟩;have be:C.length<=1000:=by have e:=Paired.length y;rw[List.length_reverse,jY] at e;simp only[List.length_cons] at a6;omega
  refine#[_,rfl,.inl #[rfl,_,bp.of M],_,rfl,l,C,_,rfl,rfl,M,bh (by omega),?_];have aF:Tk p (upd p l (.lst (C++[x]))):=Tk.lst M;refine#[_,_,_,C++[x],rfl,S5.upd aJ,by rw[ah R];exact B,ab,T.mono aF,?_];rw[aO,al];show Ks _ _ (fL (kT c) first S t :: mD (kT c) first (S+t.size) r).reverse;rw[List.reverse_cons];exact bZ (y.mono aF) (.cons (O.mono aF) .nil)
 .obtain⟨o5,o6,o7,xs,rfl,hS,hR,hL,kR,kX⟩:=hP;rw[aY,Nat.sub_self] at kX;cases kX with
  |cons O kn=>cases kn;exact#[_,rfl,l,_,0,_,rfl,rfl,bp.of hL,ar (j:=0) rfl,q _ _ hS O]
end
end K1
namespace L2
open PySem PySem.Spec PyProof.Rows
def CC (x m:Str) (K:W.Frag):List (Addr×Addr):=match W.nsIn K mainGlobals x with
 |some (some (.ref C))=>match W.findIn K (.ref C) m with
  |some (some (.ref f))=>match K.lookup f with
   |some ⟨_,_,.func fd,_⟩=>match fd.code with
    | .ref c=>match K.lookup c with
     |some ⟨_,_,.fields b,_⟩=>match (b[11]?:Option Value) with
      |some (.ref P)=>[(c,P)]
      |_=>[]
     |_=>[]
    |_=>[]
   |_=>[]
  |_=>[]
 |_=>[]
theorem uk {K:W.Frag} {x m:Str} {C f c P:Addr} {o O:Value} {A d:Option Addr} {v:FuncData} {s Q:Array (Option Value)} {vs:Array Value} (a:W.nsIn K mainGlobals x=some (some (.ref C))) (b:W.findIn K (.ref C) m=some (some (.ref f))) (l:K.lookup f=some #[o,A,.func v,s]) (h:v.code=.ref c) (L:K.lookup c=some #[O,d,.fields vs,Q]) (g:(vs[11]?:Option Value)=some (.ref P)):CC x m K=[(c,P)]:=by unfold CC;simp only[a,b,l,h,L,g]
theorem y6 {l:W.OpenLaw} {n k:Nat} {q:Program} {L:List Str} {B:(Str->Option Value)->Heap->Prop} {z:World->Heap->Prop} {d:DefRec} {K:Params->W.Frag} {CX:xm} {sp:W.Frag->Sp} {x:Str} {tabs:W.Frag->List (Addr×Addr)} (g:l.most=some n) (P:n<=sizeLine) (y:d.params.defaults=[]) (i:dG k callerA) (X:∀(w:World) (h:Heap),z w h->(K w.params).In h) (A:∀(w:World) (h:Heap),z w h->(K w.params).In h->W.TabsAt (tabs (K w.params)) h) (U:∀w:World,W.noTabs (K w.params)=true) (F:∀(w:World) (mg:Str->Option Value) (t:Addr) (h:Heap),(K w.params).In h->h.Ns mainGlobals mg->mg d.name=some (.ref t)->∃r:FuncData,(∀(s:Shared) (u:Value),BindsTo s r #[[u],[]] [(x,u)])/\∀base:Heap,(K w.params).In base->base.Ns mainGlobals mg->(∀q∈tabs (K w.params),W.CodeHd base q.1 q.2)->BMain mg base->aU l.prog w (K w.params) mg base CX k t r [x] (sp (K w.params))) (T:∀(K:W.Frag) (H:Hp) (a:Addr) (N:List Int),N.length<=n->xT (tabs K) H->bp K H a (N.map V.int)->sp K [.ref a] H (λv _=>v=.bl true) λ_ _ _=>False) (R:∀(H:Hp) (s:Shared) (e:Value) (s':Shared),CX [] H s (λ_ _ _=>False) e s'->False):W.WalkO q L B z l.row.toRowW d [] (λf b=>PySem.call f b):=by refine EG.qa g y λw E S mg mb t o pm D doc a b N G Y ho hd p I Q J m C=>?_;have M:=X w _ Y;obtain⟨r,c,Z⟩:=F w mg t _ M G.T.g I;exact uM M G.T.g G.T.b G.T.builtins G.T.nolimit C (A w _ Y M) (U w) #[G.T.bmain] Q J (Nat.le_trans m P) i Z c (λH O j=>T (K w.params) H a N m O j) λH e s'=>R H S e s'
end L2
namespace K1
open PySem L2 Wk
theorem AU:kT []=λ_=>false:=by
 funext k
 simp[kT]
theorem jm (n:List Int) (lo o:Option Int):∃m:List Int,ff (n.map V.int) lo o=m.map V.int/\m.length<=n.length:=by
 refine#[(n.drop (HT.eJ (n.map V.int).length 0 lo)).take (HT.eJ (n.map V.int).length (n.map V.int).length o - HT.eJ (n.map V.int).length 0 lo),?_,?_]
 .unfold ff;rw[List.map_take,List.map_drop]
 .rw[List.length_take,List.length_drop];omega
theorem BJ (n:List Int) (lo o:Option Int):∃m:List Int,ff (ff (n.map V.int) lo o) none (some 20)=m.map V.int/\m.length<=20:=by obtain⟨N,t,_⟩:=jm n lo o;rw[t];obtain⟨m,e,_⟩:=jm N none (some 20);refine#[m,e,?_];have h:=congrArg List.length e;rw[List.length_map] at h;rw[<-h];unfold ff;rw[List.length_take];have:HT.eJ (N.map V.int).length (N.map V.int).length (some 20)=min 20 (N.map V.int).length:=HT.zv _ _ 20;rw[this];omega
abbrev g8 (n:List Int):Int:=((n.map V.int).length:Int) / 2
theorem y8 {a:Type} {xs:List a} {i:Int} (d:0<=i) (c:i < xs.length):∃x,rX xs i=some x/\x∈xs:=by
 obtain⟨j,rfl⟩:=Int.eq_ofNat_of_zero_le d;have D:j < xs.length:=by omega
 exact#[xs[j],ar (List.getElem?_eq_getElem D),List.getElem_mem D]
section
variable {P:Program} {w:World} {K:W.Frag} {mg:Str->Option Value} {base:Heap} {f aA aK aY aH aS aM aQ aF aC aI pt c:Addr} {fd dA dK dY dH dS dM dQ dF dC dI:FuncData}
inductive wI (K:W.Frag) (vs:List V) (H:Hp) (Q:VK) (zz3:XK):Prop
 |mk (a:Addr) (ns:List Int) (j:Nat) (h1_:vs=[.ref a,.int j]) (h2_:bp K H a (ns.map V.int)) (h3_:Q (.int (ns.getD j 0)) H):wI K vs H Q zz3
theorem EC:a9 ["_law_script","_law_k"] ["_law_script","_law_k"] (ao Ep):=#[rfl,rfl,rfl,by decide +kernel,rfl,by decide +kernel,by decide +kernel]
def DX (K:W.Frag):TS:=aN (cI (bD (bj (mW λ(i j:Int)=>V.bl (Decidable.decide (i < j))) (af (1:Nat)) (lH (aV K) (ai (af (0:Nat)) av)))) (cT (bj (eL K) (af (0:Nat)) (af (1:Nat)))) cC) (cT (tC (V.int (0:Int))))
theorem DY (F:gj K "_law_at" "_law_at" Ep f fd) (m:mg "len"=none):aU P w K mg base cM 1 f fd ["_law_script","_law_k"] (wI K):=by
 refine F.ok EC (λb H Q E h=>?_) (λc A o s H b Q E k h=>?_)
 .obtain⟨a,n,j,rfl,_,_⟩:=h;rfl
 obtain⟨a,n,j,rfl,d,q⟩:=h;refine#[DX K,ae (cb (aD tQ (pv 1) (bX br rfl m PySem.boot_len (aa (pv 0) ag)) (aX _)) (aj (bc (aB cf (pv 0) (pv 1) (λ_ _=>rfl)))) bw) (aj (bc ak)),?_];refine#[_,rfl,_,rfl,a,_,rfl,.inl d,_,_,rfl,rfl,_,rfl,?_];by_cases D:j < n.length
 .refine bO (λ_=>?_) λz=>absurd (by simpa using D) z;have e:(n.map V.int)[j]?=some (.int (n.getD j 0)):=by
   rw[List.getElem?_map,List.getD_eq_getElem?_getD,List.getElem?_eq_getElem D];rfl
  exact#[_,rfl,_,rfl,a,_,_,_,rfl,rfl,d,ar e,q]
 .refine bO (λz=>absurd (by simpa using z) D) λ_=>?_;have e:n.getD j 0=0:=by rw[List.getD_eq_getElem?_getD,List.getElem?_eq_none (by omega)];rfl
  rw[e] at q;exact q
abbrev E4:List Str:=["_law_script","_law_half","_law_one","_law_other","_law_aim","_law_cell","_law_blank","_law_deep","_law_filling","_law_found","_law_due"]
def jo (K:W.Frag):List (Addr×Addr):=CC "Nodes" "laid" K
inductive um (K:W.Frag) (vs:List V) (H:Hp) (Q:VK) (zz3:XK):Prop
 |mk (a:Addr) (ns:List Int) (h1_:vs=[.ref a]) (h2_:bp K H a (ns.map V.int)) (h3_:ns.length<=63) (h4_:(∀q∈jo K,H q.2=some (.ke [].toArray))) (h5_:∀H',Q (.bl true) H'):um K vs H Q zz3
theorem BK:a9 E4 ["_law_script"] (ao uQ):=#[rfl,rfl,rfl,by decide +kernel,rfl,by decide +kernel,by decide +kernel]
def AV (H:Hp) (v:V) (m r:Kd):Prop:=v=.dE\/∃J,cP H v J/\J.size<=100/\∃a:Int->Kd,m.inst a=J/\r.inst a=J
theorem DZ {i:Int} (d:0<=i) (h:i < 3):∃b,rX [V.str "pair",V.str "pair",V.str "to"] i=some (.str (tag b)):=by
 have:i=0\/i=1\/i=2:=by omega
 rcases this with rfl|rfl|rfl
 .exact#[false,rfl]
 .exact#[false,rfl]
 .exact#[true,rfl]
def CD (K:W.Frag):TS:=aN (cI (jr (tB (Be (af (4:Nat)))) (mT (iS K (cO K1.fF [] E0 (ai (af (9:Nat)) (ai (cK av) (ai (af (4:Nat)) av))))))) (cT (tC (V.bl Bool.false))) cC) (cT (cO K1.fF [] E0 (ai (dZ (ai (tC (V.str (PySem.Str.ofString "pair"))) (ai (af (2:Nat)) (ai (af (3:Nat)) av)))) (ai (cK av) (ai (dZ (ai (tC (V.str (PySem.Str.ofString "pair"))) (ai (af (9:Nat)) (ai (af (9:Nat)) av)))) av)))))
def CF (K:W.Frag):TS:=aN (cI (CT (bD (bj sj (af (10:Nat)) (cO K1.iM [] E0 (ai (af (3:Nat)) (ai (af (8:Nat)) av))))) (bD (bj sj (af (9:Nat)) (bj (eL K) (cO K1.ip [] E0 (ai (cK (ai (af (10:Nat)) av)) av)) (tC (V.int (0:Int))))))) (cT (tC (V.bl Bool.false))) cC) (CD K)
def CG (K:W.Frag):TS:=aN (bq (cO K1.iM [] E0 (ai (af (2:Nat)) (ai (af (8:Nat)) av))) (az (10:Nat))) (CF K)
def CH (K:W.Frag):TS:=aN (cI (mT (iS K (cO K1.jh [] E0 (ai (af (9:Nat)) av)))) (cT (tC (V.bl Bool.false))) cC) (CG K)
def CI (K:W.Frag):TS:=aN (cI (tB (zk (af (8:Nat)))) (cT (Bf (zk (af (9:Nat))) (zk (af (4:Nat))))) cC) (CH K)
def CJ (K:W.Frag) (pt:PySem.Addr):TS:=aN (bq (cO (K1.pC pt) [] E0 (ai (af (2:Nat)) (ai (af (3:Nat)) av))) (az (9:Nat))) (CI K)
def CK (K:W.Frag) (pt:PySem.Addr):TS:=aN (bq (cO K1.jj [] E0 (ai (cK (ai (dZ (ai (af (2:Nat)) (ai (af (3:Nat)) av))) av)) av)) (az (8:Nat))) (CJ K pt)
def CL (K:W.Frag):TS:=aN (bq (dZ (ai (tC (V.str (PySem.Str.ofString "pair"))) (ai (af (6:Nat)) (ai (dZ (ai (tC (V.str (PySem.Str.ofString "number"))) av)) av)))) (az (2:Nat))) (bq (dZ (ai (bj (eL K) (cK (ai (tC (V.str (PySem.Str.ofString "pair"))) (ai (tC (V.str (PySem.Str.ofString "pair"))) (ai (tC (V.str (PySem.Str.ofString "to"))) av)))) (bj (rI (λ(x j:Int)=>(0:Int) < j) λ(i j:Int)=>V.int (i%j)) (bj (rI pU λ(i j:Int)=>V.int (i / j)) (af (5:Nat)) (tC (V.int (4:Int)))) (tC (V.int (3:Int))))) (ai (af (7:Nat)) (ai (dZ (ai (tC (V.str (PySem.Str.ofString "number"))) av)) av)))) (az (3:Nat)))
def CM (K:W.Frag):TS:=aN (bq (dZ (ai (tC (V.str (PySem.Str.ofString "to"))) (ai (dZ (ai (tC (V.str (PySem.Str.ofString "number"))) av)) (ai (dZ (ai (tC (V.str (PySem.Str.ofString "pair"))) (ai (bj (eL K) (cK (ai (af (6:Nat)) (ai (dZ (ai (tC (V.str (PySem.Str.ofString "blank"))) (ai (tC (V.int (2:Int))) av))) av))) (bj (rI (λ(x j:Int)=>(0:Int) < j) λ(i j:Int)=>V.int (i%j)) (bj (rI pU λ(i j:Int)=>V.int (i / j)) (af (5:Nat)) (tC (V.int (2:Int)))) (tC (V.int (2:Int))))) (ai (af (3:Nat)) av)))) av)))) (az (7:Nat))) (CL K)
def CP (K:W.Frag):TS:=aN (bq (dZ (ai (tC (V.str (PySem.Str.ofString "blank"))) (ai (bj (eL K) (cK (ai (tC (V.int (1:Int))) (ai (bj (mW λ(i j:Int)=>V.int (i+j)) (tC (V.int (3:Int))) (lH hG (ai (cO K1.nQ [] E0 (ai (bj (rI pU λ(i j:Int)=>V.int (i / j)) (af (5:Nat)) (tC (V.int (12:Int)))) av)) av))) av))) (bj (rI (λ(x j:Int)=>(0:Int) < j) λ(i j:Int)=>V.int (i%j)) (af (5:Nat)) (tC (V.int (2:Int))))) av))) (az (6:Nat))) (CM K)
def AW (K:W.Frag):TS:=aN (bq (cO (K1.wI K) [] E0 (ai (af (0:Nat)) (ai (tC (V.int (1:Int))) av))) (az (5:Nat))) (CP K)
def AX (K:W.Frag) (pt:PySem.Addr):TS:=aN (mL (cI (bD (bj ki (bj (rI (λ(x j:Int)=>(0:Int) < j) λ(i j:Int)=>V.int (i%j)) (cO (K1.wI K) [] E0 (ai (af (0:Nat)) (ai (tC (V.int (0:Int))) av))) (tC (V.int (4:Int)))) (tC (V.int (2:Int))))) (AW K) cC)) (CK K pt)
def AY (K:W.Frag):TS:=aN (bq (cO (K1.fW K) [] E0 (ai (af (3:Nat)) (ai (zw (pZ K) (af (0:Nat)) (gJ (tC (V.int (1:Int)))) (gJ (af (1:Nat)))) (ai (tC (V.int (0:Int))) av)))) (az (2:Nat))) (bq (cO (K1.fW K) [] E0 (ai (af (3:Nat)) (ai (zw (pZ K) (af (0:Nat)) (gJ (af (1:Nat))) gg) (ai (tC (V.int (100:Int))) av)))) (az (3:Nat)))
def AZ (K:W.Frag):TS:=aN (bq (cO (K1.fW K) [] E0 (ai (af (3:Nat)) (ai (cK av) (ai (tC (V.int (0:Int))) av)))) (az (4:Nat))) (AY K)
def A0 (K:W.Frag) (pt:PySem.Addr):TS:=aN (mL (cI (bD (bj ki (bj (rI (λ(x j:Int)=>(0:Int) < j) λ(i j:Int)=>V.int (i%j)) (cO (K1.wI K) [] E0 (ai (af (0:Nat)) (ai (tC (V.int (0:Int))) av))) (tC (V.int (2:Int)))) (tC (V.int (1:Int))))) (AZ K) cC)) (AX K pt)
def A1 (K:W.Frag) (pt:PySem.Addr):TS:=aN (bq (tC V.dE) (az (4:Nat))) (A0 K pt)
def A2 (K:W.Frag) (pt:PySem.Addr):TS:=aN (bq (cO (K1.g0 K) [] E0 (ai (zw (pZ K) (zw (pZ K) (af (0:Nat)) (gJ (af (1:Nat))) gg) gg (gJ (tC (V.int (20:Int))))) av)) (az (3:Nat))) (A1 K pt)
def A3 (K:W.Frag) (pt:PySem.Addr):TS:=aN (bq (cO (K1.g0 K) [] E0 (ai (zw (pZ K) (zw (pZ K) (af (0:Nat)) (gJ (tC (V.int (1:Int)))) (gJ (af (1:Nat)))) gg (gJ (tC (V.int (20:Int))))) av)) (az (2:Nat))) (A2 K pt)
def A4 (K:W.Frag) (pt:PySem.Addr):TS:=aN (bq (bj (rI pU λ(i j:Int)=>V.int (i / j)) (lH (aV K) (ai (af (0:Nat)) av)) (tC (V.int (2:Int)))) (az (1:Nat))) (A3 K pt)
theorem CQ (F:gj K "law" "law" uQ f fd) (ht:jo K=[(c,pt)]) (GK:aU P w K mg base cM 2 aK dK ["_law_cells"] (g0 K)) (bK:Binds K dK ["_law_cells"] []) (kK:W.keepIn K (.ref aK)=true) (mK:mg "_law_kind_by"=some (.ref aK)) (GA:aU P w K mg base cM 1 aA dA ["_law_script","_law_k"] (wI K)) (bA:Binds K dA ["_law_script","_law_k"] []) (kA:W.keepIn K (.ref aA)=true) (mA:mg "_law_at"=some (.ref aA)) (GH:aU P w K mg base cM 2 aH dH ["_law_kind","_law_cells","_law_first"] (fW K)) (bH:Binds K dH ["_law_kind","_law_cells","_law_first"] []) (kH:W.keepIn K (.ref aH)=true) (mH:mg "_law_hidden"=some (.ref aH)) (GY:aU P w K mg base cM 1 aY dY ["_law_cell"] nQ) (bY:Binds K dY ["_law_cell"] []) (kY:W.keepIn K (.ref aY)=true) (mY:mg "_law_any"=some (.ref aY)) (GS:aU P w K mg base cM 201 aS dS ["_law_pairs"] jj) (bS:Binds K dS ["_law_pairs"] []) (kS:W.keepIn K (.ref aS)=true) (mS:mg "_law_solved"=some (.ref aS)) (GM:aU P w K mg base cM 7 aM dM ["one","other"] (pC pt)) (bM:Binds K dM ["one","other"] []) (kM:W.keepIn K (.ref aM)=true) (mM:mg "made_alike"=some (.ref aM)) (GQ:aU P w K mg base cM 2 aQ dQ ["_law_found"] jh) (bQ:Binds K dQ ["_law_found"] []) (kQ:W.keepIn K (.ref aQ)=true) (mQ:mg "_law_is_kind"=some (.ref aQ)) (GF:aU P w K mg base cM 200 aF dF ["_law_kind","_law_filling"] iM) (bF:Binds K dF ["_law_kind","_law_filling"] []) (kF:W.keepIn K (.ref aF)=true) (mF:mg "_law_full"=some (.ref aF)) (GC:aU P w K mg base cM 3 aC dC ["_law_kinds"] ip) (bC:Binds K dC ["_law_kinds"] []) (kC:W.keepIn K (.ref aC)=true) (mC:mg "_law_counted"=some (.ref aC)) (GI:aU P w K mg base cM 200 aI dI ["_law_wide","_law_kept","_law_kind"] fF) (bI:Binds K dI ["_law_wide","_law_kept","_law_kind"] []) (kI:W.keepIn K (.ref aI)=true) (mI:mg "_law_instance"=some (.ref aI)) (ml:mg "len"=none) (ma:mg "abs"=none):aU P w K mg base cM 202 f fd ["_law_script"] (um K):=by
 refine F.ok (k:=201) BK (λvs H Q E h=>?_) (λex A eX s H vs Q E hr h=>?_)
 .obtain⟨a,o,rfl,_,_,_,_⟩:=h;rfl
 obtain⟨a,o,rfl,hA,hn,b4,q⟩:=h;have u:=BK.nd;have hu:=fI hr;have an:=pE hr (by decide);have bb:=hr.mono (show 1<=201 by decide);have al:=hr.mono (show 2<=201 by decide);have ee:=hr.mono (show 3<=201 by decide);have ea:=hr.mono (show 7<=201 by decide);have a7:=hr.mono (show 200<=201 by decide);have a4:cV H pt gG.pos cQ [].toArray:=#[b4 (c,pt) (by rw[ht];simp),trivial,.inl rfl];refine#[A4 K pt,ae (ay (i:=1) u rfl (Or.inl rfl) (cD gc (bX br rfl ml PySem.boot_len (aa (pv 0) ag)) ak)) (ae (ay (i:=2) u rfl (Or.inl rfl) (bU GK al rfl mK kK bK .nil bN (aa (e8 hX (e8 hX (pv 0) (eY ak) (eY (pv 1))) hV (eY ak)) ag))) (ae (ay (i:=3) u rfl (Or.inl rfl) (bU GK al rfl mK kK bK .nil bN (aa (e8 hX (e8 hX (pv 0) (eY (pv 1)) hV) hV (eY ak)) ag))) (ae (ay (i:=4) u rfl (Or.inl rfl) lA) (ae (jl (cb (aD dj (cD fe (bU GA bb rfl mA kA bA .nil bN (aa (pv 0) (aa ak ag))) ak) ak (aX _)) (ae (ay (i:=4) u rfl (Or.inl rfl) (bU GH al rfl mH kH bH .nil bN (aa (pv 3) (aa (ba ag) (aa ak ag))))) (ae (ay (i:=2) u rfl (Or.inl rfl) (bU GH al rfl mH kH bH .nil bN (aa (pv 3) (aa (e8 hX (pv 0) (eY ak) (eY (pv 1))) (aa ak ag))))) (aj (ay (i:=3) u rfl (Or.inl rfl) (bU GH al rfl mH kH bH .nil bN (aa (pv 3) (aa (e8 hX (pv 0) (eY (pv 1)) hV) (aa ak ag)))))))) bw)) (ae (jl (cb (aD dj (cD fe (bU GA bb rfl mA kA bA .nil bN (aa (pv 0) (aa ak ag))) ak) ak (aX _)) (ae (ay (i:=5) u rfl (Or.inl rfl) (bU GA bb rfl mA kA bA .nil bN (aa (pv 0) (aa ak ag)))) (ae (ay (i:=6) u rfl (Or.inl rfl) (cj (aa aZ (aa (aB cf (ba (aa ak (aa (cD rM ak (bX pW rfl ma PyProof.Rows.boot_abs (aa (bU GY bb rfl mY kY bY .nil bN (aa (cD gc (pv 5) ak) ag)) ag))) ag))) (cD fe (pv 5) ak) (λ_ _=>rfl)) ag)))) (ae (ay (i:=7) u rfl (Or.inl rfl) (cj (aa aZ (aa (cj (aa aZ ag)) (aa (cj (aa aZ (aa (aB cf (ba (aa (pv 6) (aa (cj (aa aZ (aa ak ag))) ag))) (cD fe (cD gc (pv 5) ak) ak) (λ_ _=>rfl)) (aa (pv 3) ag)))) ag))))) (ae (ay (i:=2) u rfl (Or.inl rfl) (cj (aa aZ (aa (pv 6) (aa (cj (aa aZ ag)) ag))))) (aj (ay (i:=3) u rfl (Or.inl rfl) (cj (aa (aB cf (ba (aa aZ (aa aZ (aa aZ ag)))) (cD fe (cD gc (pv 5) ak) ak) (λ_ _=>rfl)) (aa (pv 7) (aa (cj (aa aZ ag)) ag)))))))))) bw)) (ae (ay (i:=8) u rfl (Or.inl rfl) (bU GS hr rfl mS kS bS .nil bN (aa (ba (aa (cj (aa (pv 2) (aa (pv 3) ag))) ag)) ag))) (ae (ay (i:=9) u rfl (Or.inl rfl) (bU GM ea rfl mM kM bM .nil bN (aa (pv 2) (aa (pv 3) ag)))) (ae (cb (fX (rJ (pv 8))) (aj (bc (wW (rK (rJ (pv 9))) (wV (rK (rJ (pv 4))))))) bw) (ae (cb (fY (cU (bU GQ al rfl mQ kQ bQ .nil bN (aa (pv 9) ag)) (λ_=>rfl))) (aj (bc e7)) bw) (ae (ay (i:=10) u rfl (Or.inl rfl) (bU GF a7 rfl mF kF bF .nil bN (aa (pv 2) (aa (pv 8) ag)))) (ae (cb (PW.pt (pQ (aD (lQ an) (pv 10) (bU GF a7 rfl mF kF bF .nil bN (aa (pv 3) (aa (pv 8) ag))) (aX _)) (oa (aD (lQ an) (pv 9) (aB cf (bU GC ee rfl mC kC bC .nil bN (aa (ba (aa (pv 10) ag)) ag)) ak (λ_ _=>rfl)) (aX _))))) (aj (bc e7)) bw) (ae (cb (PW.pt (fc (fX (tJ (pv 4))) (eK (fY (cU (bU GI a7 rfl mI kI bI .nil bN (aa (pv 9) (aa (ba ag) (aa (pv 4) ag)))) (λ_=>rfl)))))) (aj (bc e7)) bw) (aj (bc (bU GI a7 rfl mI kI bI .nil bN (aa (cj (aa aZ (aa (pv 2) (aa (pv 3) ag)))) (aa (ba ag) (aa (cj (aa aZ (aa (pv 9) (aa (pv 9) ag)))) ag)))))))))))))))))),?_];refine#[_,rfl,a,_,rfl,.inl hA,_,_,rfl,rfl,#[by decide,by decide],?_];obtain⟨m1,e1,l1⟩:=BJ o (some 1) (some (g8 o));refine#[_,rfl,_,rfl,_,rfl,_,rfl,a,_,rfl,hA,λp1 bl=>?_];refine#[_,rfl,p1,_,rfl,bp.of ab,λp2 cr=>?_];refine#[p2,m1,rfl,bp.of (ab.trans (congrArg (λl=>some (HO.lst l)) e1)),by omega,λG t H1 S1 R _ ec=>?_];have Sb:aq H H1:=((aq.new bl).upd ((aq.new bl).free cr)).trans S1;clear bl cr S1;obtain⟨m2,e2,l2⟩:=BJ o (some (g8 o)) none;refine#[_,rfl,_,rfl,_,rfl,a,_,rfl,Sb.seq hA,λp3 bg=>?_];refine#[_,rfl,p3,_,rfl,bp.of ab,λp4 dv=>?_];refine#[p4,m2,rfl,bp.of (ab.trans (congrArg (λl=>some (HO.lst l)) e2)),by omega,λC B H2 S2 O _ dV=>?_];have Sd:aq H1 H2:=((aq.new bg).upd ((aq.new bg).free dv)).trans S2;have dJ:=R.mono Sd.tk;have Se:=Sb.trans Sd;clear bg dv S2 Sd R Sb e1 e2;have a5:t.aO<=21:=by have:=t.cR;omega
 have am:B.aO<=21:=by have:=B.cR;omega
 have eo:B.size<=41:=by omega
 refine#[λσ H3=>∃G C J t B,σ=[some (.ref a),some (.int (g8 o)),some G,some C,some J,none,none,none,none,none,none]/\aq H H3/\cP H3 G t/\cP H3 C B/\t.aO<=21/\B.aO<=21/\(J=.dE\/o.getD 0 0%2=1)/\AV H3 J t B,?_,?_]
 .refine#[_,rfl,a,o,0,rfl,Se.seq hA,_,_,rfl,rfl,(by show (0:Int) < 2;decide),rfl,_,rfl,?_];refine bO (λho=>?_) λ_=>#[G,C,.dE,t,B,rfl,Se,dJ,O,a5,am,.inl rfl,.inl rfl];have ho:o.getD 0 0%2=1:=by simpa using ho
  refine#[_,rfl,Nat.zero_le _,λl0 c0=>?_];have S3:aq H2 (upd H2 l0 (.lst [])):=aq.new c0;refine#[C,B,l0,[],0,rfl,O.mono S3.tk,by omega,bp.of ab,by simp,λJ p S4 bf=>?_];rw[AU] at bf;have bB:=S3.trans S4;have Sf:=Se.trans bB;have bn:=O.mono bB.tk;clear c0 S3 S4 bB;obtain⟨m3,e3,l3⟩:=jm o (some 1) (some (g8 o));refine#[_,rfl,_,rfl,_,rfl,_,rfl,_,rfl,a,_,rfl,Sf.seq hA,λp5 ch=>?_];have S5:aq p (upd p p5 (.lst (ff (o.map V.int) (some 1) (some (g8 o))))):=aq.new ch;refine#[C,B,p5,m3,0,rfl,bn.mono S5.tk,by omega,bp.of (ab.trans (congrArg (λl=>some (HO.lst l)) e3)),by omega,λw1 H6 S6 d3=>?_];have a3:=S5.trans S6;have Sg:=Sf.trans a3;have aT:=bn.mono a3.tk;have ef:=bf.mono a3.tk;clear ch S5 S6 a3 bf bn Sf;obtain⟨m4,e4,l4⟩:=jm o (some (g8 o)) none;refine#[_,rfl,_,rfl,_,rfl,_,rfl,a,_,rfl,Sg.seq hA,λp7 dR=>?_];have S7:aq H6 (upd H6 p7 (.lst (ff (o.map V.int) (some (g8 o)) none))):=aq.new dR;refine#[C,B,p7,m4,100,rfl,aT.mono S7.tk,by omega,bp.of (ab.trans (congrArg (λl=>some (HO.lst l)) e4)),by omega,λw2 H8 S8 d8=>?_];have bm:=S7.trans S8;refine#[w1,w2,J,_,_,rfl,Sg.trans bm,d3.mono bm.tk,d8,Nat.le_trans (fG _ _ _ _) am,Nat.le_trans (fG _ _ _ _) am,.inr ho,.inr #[_,ef.mono bm.tk,?_,y4 _ _ B (by omega)]];have h1:=fG (λ_=>false) 0 B 0;have h2:=(fL (λ_=>false) 0 0 B).cR;omega
 clear dJ O a5 am ec dV eo Se;rintro σ H3 ⟨G,C,J,t,B,rfl,Se,R,O,a5,am,c3,ac⟩;refine#[λσ p=>∃G C J o5 o6 o7 t B,σ=[some (.ref a),some (.int (g8 o)),some G,some C,some J,o5,o6,o7,none,none,none]/\aq H p/\cP p G t/\cP p C B/\(top2 t B).aO<=42/\AV p J t B,?_,?_]
 .refine#[_,rfl,a,o,0,rfl,Se.seq hA,_,_,rfl,rfl,(by show (0:Int) < 4;decide),rfl,_,rfl,?_];refine bO (λho=>?_) λ_=>#[G,C,J,_,_,_,t,B,rfl,Se,R,O,(by show t.aO+B.aO<=42;omega),ac];have ho:o.getD 0 0%4=2:=by simpa using ho
  have be:J=.dE:=by
   rcases c3 with z|z
   .exact z
   .omega
  subst be;refine#[_,rfl,a,o,1,rfl,Se.seq hA,?_];generalize o.getD 1 0=Y;refine#[_,rfl,_,_,rfl,rfl,#[by decide,by decide],Y / 12,rfl,λj p eT S4=>?_];refine#[j,rfl,_,_,rfl,rfl,(by show 2<=sizeLine;decide),λl4 bT=>?_];obtain⟨x,hx,a0⟩:=y8 (xs:=[V.int 1,.int (3+(if j < 0 then -j else j))]) (i:=Y%2) (Int.emod_nonneg _ (by decide)) (Int.emod_lt_of_pos _ (by decide));obtain⟨b,rfl⟩:∃b,x=.int b:=by
   rcases List.mem_cons.mp a0 with rfl|a0
   .exact#[_,rfl]
   .exact#[_,List.mem_singleton.mp a0]
  refine#[_,rfl,_,_,rfl,rfl,(by show (0:Int) < 2;decide),l4,_,_,_,rfl,rfl,bp.of ab,hx,(by show 2<=sizeLine;decide),λtb es=>?_];have S5:aq p (upd p l4 (.lst [.int 1,.int (3+(if j < 0 then -j else j))])):=aq.new bT;have S6:aq p (upd (upd p l4 (.lst [.int 1,.int (3+(if j < 0 then -j else j))])) tb (.tup [.str "blank",.int b])):=S5.trans (aq.new es);have bi:cP (upd (upd p l4 (.lst [.int 1,.int (3+(if j < 0 then -j else j))])) tb (.tup [.str "blank",.int b])) (.ref tb) (.ax b):=#[tb,rfl,ab];have aT:=O.mono (S4.trans S6).tk;have ce:=S4.trans S6;generalize upd (upd p l4 (.lst [.int 1,.int (3+(if j < 0 then -j else j))])) tb (.tup [.str "blank",.int b])=H6 at S6 bi aT ce ⊢;clear S5 S6 bT hx a0 S4;refine#[(by show 1<=sizeLine;decide),λt1 ep=>?_];have S7:aq H6 (upd H6 t1 (.tup [.str "number"])):=aq.new ep;have da:cP (upd H6 t1 (.tup [.str "number"])) (.ref t1) .num:=#[t1,rfl,ab];generalize upd H6 t1 (.tup [.str "number"])=H7 at S7 da ⊢;refine#[_,rfl,(by show 2<=sizeLine;decide),λt2 ei=>?_];have S8:aq H7 (upd H7 t2 (.tup [.str "blank",.int 2])):=aq.new ei;have co:cP (upd H7 t2 (.tup [.str "blank",.int 2])) (.ref t2) (.ax 2):=#[t2,rfl,ab];generalize upd H7 t2 (.tup [.str "blank",.int 2])=H8 at S8 co ⊢;refine#[(by show 2<=sizeLine;decide),λl5 d5=>?_];have S9:aq H8 (upd H8 l5 (.lst [.ref tb,.ref t2])):=aq.new d5;have b8:upd H8 l5 (.lst [.ref tb,.ref t2]) l5=some (.lst [.ref tb,.ref t2]):=ab;have aJ:=(S7.trans S8).trans S9;have cs:=S9;have c1:=S8.trans S9;generalize upd H8 l5 (.lst [.ref tb,.ref t2])=H9 at S9 b8 aJ c1 cs ⊢;obtain⟨y,ky,hy⟩:∃y,(∃n,cP H9 y (.ax n))/\rX [V.ref tb,V.ref t2] (Y / 2%2)=some y:=by
   have:Y / 2%2=0\/Y / 2%2=1:=by omega
   rcases this with z|z <;> rw[z]
   .exact#[_,#[b,bi.mono aJ.tk],rfl]
   .exact#[_,⟨2,co.mono cs.tk⟩,rfl]
  obtain⟨n,ky⟩:=ky;refine#[_,rfl,_,_,rfl,rfl,#[by decide,by decide],_,_,rfl,rfl,(by show (0:Int) < 2;decide),l5,_,_,_,rfl,rfl,bp.of b8,hy,?_];refine#[_,rfl,(by show 3<=sizeLine;decide),λt3 et=>?_];have Sa:aq H9 (upd H9 t3 (.tup [.str "pair",y,C])):=aq.new et;have ct:cP (upd H9 t3 (.tup [.str "pair",y,C])) (.ref t3) (.two false (.ax n) B):=#[t3,y,C,rfl,ab,ky.mono Sa.tk,aT.mono (aJ.trans Sa).tk];have dx:=da.mono (c1.trans Sa).tk;have cl:=bi.mono (aJ.trans Sa).tk;have b3:=ce.trans (aJ.trans Sa);generalize upd H9 t3 (.tup [.str "pair",y,C])=Ha at Sa ct dx cl b3 ⊢;refine#[(by show 3<=sizeLine;decide),λt4 d7=>?_];have Sb:aq Ha (upd Ha t4 (.tup [.str "to",.ref t1,.ref t3])):=aq.new d7;have b1:cP (upd Ha t4 (.tup [.str "to",.ref t1,.ref t3])) (.ref t4) (.two true .num (.two false (.ax n) B)):=#[t4,_,_,rfl,ab,dx.mono Sb.tk,ct.mono Sb.tk];have c2:=cl.mono Sb.tk;have b7:=b3.trans Sb;generalize upd Ha t4 (.tup [.str "to",.ref t1,.ref t3])=Hb at Sb b1 c2 b7 ⊢;refine#[_,rfl,(by show 1<=sizeLine;decide),λt5 eb=>?_];have Sc:aq Hb (upd Hb t5 (.tup [.str "number"])):=aq.new eb;have db:cP (upd Hb t5 (.tup [.str "number"])) (.ref t5) .num:=#[t5,rfl,ab];have ci:=c2.mono Sc.tk;have cG:=b1.mono Sc.tk;have bW:=b7.trans Sc;generalize upd Hb t5 (.tup [.str "number"])=Hc at Sc db ci cG bW ⊢;refine#[(by show 3<=sizeLine;decide),λt6 dT=>?_];have Sd:aq Hc (upd Hc t6 (.tup [.str "pair",.ref tb,.ref t5])):=aq.new dT;have dp:cP (upd Hc t6 (.tup [.str "pair",.ref tb,.ref t5])) (.ref t6) (.two false (.ax b) .num):=#[t6,_,_,rfl,ab,ci.mono Sd.tk,db.mono Sd.tk];have cc:=cG.mono Sd.tk;have dz:=bW.trans Sd;generalize upd Hc t6 (.tup [.str "pair",.ref tb,.ref t5])=Hd at Sd dp cc dz ⊢;refine#[(by show 3<=sizeLine;decide),λl7 em=>?_];obtain⟨g,hg⟩:=DZ (i:=Y / 4%3) (Int.emod_nonneg _ (by decide)) (Int.emod_lt_of_pos _ (by decide));refine#[_,rfl,_,_,rfl,rfl,#[by decide,by decide],_,_,rfl,rfl,(by show (0:Int) < 3;decide),l7,_,_,_,rfl,rfl,bp.of ab,hg,?_];have Sf:aq Hd (upd Hd l7 (.lst [.str "pair",.str "pair",.str "to"])):=aq.new em;have b0:=dp.mono Sf.tk;have dh:=cc.mono Sf.tk;have ds:=dz.trans Sf;generalize upd Hd l7 (.lst [.str "pair",.str "pair",.str "to"])=Hf at Sf b0 dh ds ⊢;refine#[_,rfl,(by show 1<=sizeLine;decide),λt8 d1=>?_];have Sg:aq Hf (upd Hf t8 (.tup [.str "number"])):=aq.new d1;have b9:cP (upd Hf t8 (.tup [.str "number"])) (.ref t8) .num:=#[t8,rfl,ab];have dO:=b0.mono Sg.tk;have c4:=dh.mono Sg.tk;have df:=ds.trans Sg;generalize upd Hf t8 (.tup [.str "number"])=Hg at Sg b9 dO c4 df ⊢;refine#[(by show 3<=sizeLine;decide),λt9 d2=>?_];have Sh:aq Hg (upd Hg t9 (.tup [.str (tag g),.ref t4,.ref t8])):=aq.new d2;refine#[_,_,_,_,_,_,_,.two g (.two true .num (.two false (.ax n) B)) .num,rfl,Se.trans (df.trans Sh),dO.mono Sh.tk,#[t9,_,_,rfl,ab,c4.mono Sh.tk,b9.mono Sh.tk],?_,.inl rfl];show 1+1+(1+(1+B.aO)+1)<=42;omega
 clear R O a5 am c3 ac Se;rintro σ p ⟨G,C,J,o5,o6,o7,t,B,rfl,Se,R,O,lv,ac⟩;have ez:t.aO+B.aO<=42:=lv;have s1:t.size<=84:=by have:=t.cR;omega
 have s2:B.size<=84:=by have:=B.cR;omega
 refine#[_,rfl,_,rfl,(by show 2<=sizeLine;decide),λtp b2=>?_];have S5:aq p (upd p tp (.tup [G,C])):=aq.new b2;have bd:upd p tp (.tup [G,C]) tp=some (.tup [G,C]):=ab;generalize upd p tp (.tup [G,C])=H5 at S5 bd ⊢;refine#[(by show 1<=sizeLine;decide),λlp b5=>?_];have S6:aq H5 (upd H5 lp (.lst [.ref tp])):=aq.new b5;have ap:=S5.trans S6;refine#[lp,.ref tp,t,B,rfl,ab,#[tp,G,C,rfl,S6 _ _ bd,R.mono ap.tk,O.mono ap.tk],lv,λH7 S7 no=>?_,λd bJ φ H7 S7 hd kD I=>?_]
 .have L:=ap.trans S7;refine#[_,rfl,_,rfl,G,C,t,B,[].toArray,rfl,R.mono L.tk,O.mono L.tk,by omega,by omega,cV.mono (Se.trans L) a4,λH8 _ _ _=>?_,λy k H8 _ _ _ bk _=>?_]
  .refine#[_,rfl,_,rfl,?_];refine fM ?_;have be:J=.dE:=by
    rcases ac with z|⟨ka,_,_,θ,z1,z2⟩
    .exact z
    .exact absurd (z1.trans z2.symm) (no θ)
   subst be;exact#[_,rfl,_,rfl,fM #[_,rfl,q _]]
  .obtain⟨θ,h1,_⟩:=bk;exact absurd h1 (no θ)
 have L:=ap.trans S7;have bL:=R.mono L.tk;have bP:=O.mono L.tk;obtain⟨D,rk,wr,ev,d4,dc⟩:=I.done;have dy:=I.sR;refine#[_,rfl,_,rfl,G,C,t,B,[].toArray,rfl,bL,bP,by omega,by omega,cV.mono (Se.trans L) a4,λH8 _ _ no=>absurd ev (no D),λy k H8 K8 ed ky bk hk=>?_];have ek:k=gP (t.inst D):=hk φ D rk wr ev (λθ h=>(dc θ h).2) λn m h1 h2=>wr.sR dy.1 n m (.inl h1) h2;have bo:H7 pt=some (.ke [].toArray):=(Se.trans L) _ _ a4.at_;have aW:Tk H7 H8:=λb xs e=>K8 b _ e (eP e bo (by intro z;cases z));have dP:H8 d=some (.dK bJ):=K8 _ _ hd (eP hd bo (by intro z;cases z));have b6:=kD.mono aW;have di:=bL.mono aW;have ca:=bP.mono aW;have eq:AV H8 J t B:=by
  rcases ac with z|⟨ka,z0,z1,z2⟩
  .exact .inl z
  .exact .inr #[ka,(z0.mono L.tk).mono aW,z1,z2]
 clear R O bL bP kD hd bo K8 ed ac S7 ap L S6 S5 bd b2 b5 a4 b4;have e6:(t.inst D).size<=9565937:=jg d4 lv;have e5:(bz (top2 t B)).length<=42:=Nat.le_trans (eZ _) lv;have eu:(top2 t B).deep<=42:=Nat.le_trans (e9 _) lv;have e0:(t.inst D).deep<=2900:=by have h1:=fq (v:=D) (k:=t) (N:=((bz (top2 t B)).length+1)*(top2 t B).deep+1) λm' _=>wr.deep dy.1 m';have h2:t.deep<=t.aO:=e9 t;have h3:((bz (top2 t B)).length+1)*(top2 t B).deep<=43*42:=Nat.mul_le_mul (by omega) eu;omega
 have eB:(gP (t.inst D)).size=(t.inst D).size/\(gP (t.inst D)).deep=(t.inst D).deep:=fC _ _;refine#[_,rfl,_,rfl,cA ?_];refine#[_,rfl,y,k,rfl,ky,by rw[ek];exact pG _,by rw[ek];omega,λH9 S9=>#[true,rfl,cA ?_]];refine#[_,rfl,_,rfl,G,t,d,bJ,φ,D,rk,rfl,di.mono S9.tk,S9 _ _ dP,b6.mono S9.tk,wr,by omega,by omega,λz1 Ha Sa cd=>?_];have aR:=S9.trans Sa;refine#[_,rfl,_,rfl,_,rfl,C,B,d,bJ,φ,D,rk,rfl,ca.mono aR.tk,aR _ _ dP,b6.mono aR.tk,wr,by rw[<-ev];omega,by rw[<-ev];omega,λz2 Hb Sb dn=>?_];rw[<-ev] at dn;refine#[t.inst D,t.inst D,cd.mono Sb.tk,dn,by omega,_,rfl,?_];refine bO (λz=>absurd z (by simp)) λ_=>?_;refine#[_,rfl,_,rfl,(by show 1<=sizeLine;decide),λl1 er=>?_];have Sc:aq Hb (upd Hb l1 (.lst [z1])):=aq.new er;refine#[l1,[z1],[t.inst D],rfl,ab,.cons ((cd.mono Sb.tk).mono Sc.tk) .nil,by rw[cw,Kd.cm];omega,λr ys Hd Sd dW bv=>?_];have bv:Ks Hd ys [gP (t.inst D)]:=by
  have e:gP (t.inst D)=(t.inst D).fill (rank (dN (flat [t.inst D]))):=by rw[cw];rfl
  rw[e];exact bv
 have a6:=(aR.trans Sb).trans (Sc.trans Sd);have as:=ky.mono a6.tk;have bG:=di.mono a6.tk;have bs:=ca.mono a6.tk;have d9:AV Hd J t B:=by
  rcases eq with z|⟨ka,z0,z1,z2⟩
  .exact .inl z
  .exact .inr #[ka,z0.mono a6.tk,z1,z2]
 cases bv with
 |cons kz kn=>
 cases kn;refine#[r,_,0,_,rfl,rfl,bp.of dW,ar (j:=0) rfl,k,gP (t.inst D),as,kz,by rw[ek];omega,_,rfl,?_];refine bO (λz=>absurd z (by simp[ek])) λ_=>?_;have ey:∀M,aq Hd M->∃(_:Unit),cP M y k/\cP M G t/\cP M C B:=λM S=>#[(),as.mono S.tk,bG.mono S.tk,bs.mono S.tk];obtain⟨θ,t1,t2⟩:=bk;have dL:fit (.two false t B) (.two false k k)=true:=rB θ (by show Kd.two false (t.inst θ) (B.inst θ)=_;rw[<-t1,t2]);have cm:(Kd.two false k k).deep<=3000:=by simp only[Kd.deep];rw[ek];omega
 have c9:(Kd.two false t B).size<=50000:=by simp only[Kd.size];omega
 refine#[_,rfl,?_];rcases d9 with rfl|⟨ka,dd,eH,a8,a1,a2⟩
 .refine#[_,rfl,cA (cA ?_)];refine#[_,rfl,_,rfl,(by show 3<=sizeLine;decide),λu1 bR=>?_];have T:aq Hd (upd Hd u1 (.tup [.str "pair",G,C])):=aq.new bR;have aL:cP (upd Hd u1 (.tup [.str "pair",G,C])) (.ref u1) (.two false t B):=#[u1,_,_,rfl,ab,bG.mono T.tk,bs.mono T.tk];generalize upd Hd u1 (.tup [.str "pair",G,C])=M at T aL ⊢;refine#[Nat.zero_le _,λu2 bE=>?_];have U:aq M (upd M u2 (.lst [])):=aq.new bE;have Z:upd M u2 (.lst []) u2=some (.lst []):=ab;generalize upd M u2 (.lst [])=Hf at U Z ⊢;refine#[_,rfl,_,rfl,(by show 3<=sizeLine;decide),λu3 an=>?_];have X:aq Hf (upd Hf u3 (.tup [.str "pair",y,y])):=aq.new an;have aP:=as.mono ((T.trans U).trans X).tk;refine#[_,u2,_,.two false t B,.two false k k,rfl,aL.mono (U.trans X).tk,X _ _ Z,#[u3,_,_,rfl,ab,aP,aP],c9,cm,λH' _=>?_];rw[dL];exact q H'
 .obtain⟨pa,ya,rfl,_,_⟩:=dd.shape;refine#[_,rfl,fM ?_];have ew:(t.inst D).inst a8=ka:=by rw[(dc a8 (a1.trans a2.symm)).2 t];exact a1
  obtain⟨ψ,ej⟩:=tG a8 (t.inst D);have eh:fit k ka=true:=by rw[ek];exact rB ψ (ej.trans ew)
  have el:k.size<=50000:=by have:=ij a8 (t.inst D);rw[ew] at this;rw[ek];omega
  have eJ:=Kd.oE ka;refine#[_,rfl,Nat.zero_le _,λu0 d6=>?_];have S0:aq Hd (upd Hd u0 (.lst [])):=aq.new d6;refine#[_,rfl,_,u0,_,k,ka,rfl,as.mono S0.tk,ab,dd.mono S0.tk,el,by omega,λHq Sq=>#[_,rfl,?_]];rw[eh];refine cA ?_;have SS:=S0.trans Sq;refine#[_,rfl,_,rfl,(by show 3<=sizeLine;decide),λu1 bR=>?_];have T:aq Hq (upd Hq u1 (.tup [.str "pair",G,C])):=aq.new bR;have aL:cP (upd Hq u1 (.tup [.str "pair",G,C])) (.ref u1) (.two false t B):=#[u1,_,_,rfl,ab,bG.mono (SS.trans T).tk,bs.mono (SS.trans T).tk];generalize upd Hq u1 (.tup [.str "pair",G,C])=M at T aL ⊢;refine#[Nat.zero_le _,λu2 bE=>?_];have U:aq M (upd M u2 (.lst [])):=aq.new bE;have Z:upd M u2 (.lst []) u2=some (.lst []):=ab;generalize upd M u2 (.lst [])=Hf at U Z ⊢;refine#[_,rfl,_,rfl,(by show 3<=sizeLine;decide),λu3 an=>?_];have X:aq Hf (upd Hf u3 (.tup [.str "pair",y,y])):=aq.new an;have aP:=as.mono ((SS.trans (T.trans U)).trans X).tk;refine#[_,u2,_,.two false t B,.two false k k,rfl,aL.mono (U.trans X).tk,X _ _ Z,#[u3,_,_,rfl,ab,aP,aP],c9,cm,λH' _=>?_];rw[dL];exact q H'
end
theorem uo {c:Type} {us:List c} {n:Nat} (h:us.length=n+1):∃a r,us=a :: r/\r.length=n:=by
 cases us with
 |nil=>cases h
 |cons a r=>exact#[a,r,rfl,Nat.succ.inj h]
theorem D0 {c:Type} {us:List c} (h:us.length=1):∃a,us=[a]:=by obtain⟨a,r,rfl,H⟩:=uo h;obtain rfl:=List.eq_nil_of_length_eq_zero H;exact#[a,rfl]
theorem A5 {c:Type} {us:List c} (h:us.length=2):∃a b,us=[a,b]:=by obtain⟨a,r,rfl,H⟩:=uo h;obtain⟨b,rfl⟩:=D0 H;exact#[a,b,rfl]
theorem y9 {d:Type} {us:List d} (h:us.length=3):∃a b c,us=[a,b,c]:=by obtain⟨a,r,rfl,H⟩:=uo h;obtain⟨b,c,rfl⟩:=A5 H;exact#[a,b,c,rfl]
theorem D1 {e:Type} {us:List e} (h:us.length=4):∃a b c d,us=[a,b,c,d]:=by obtain⟨a,r,rfl,H⟩:=uo h;obtain⟨b,c,d,rfl⟩:=y9 H;exact#[a,b,c,d,rfl]
section
variable {K:W.Frag} {g T:Addr} {y k xd:Option Addr} {sl B:Array (Option Value)} {z kV t m ct i x:Value} {u:Tok} {w:Nat}
theorem A6 (_:K.lookup g=some #[z,y,.func (W.fnOf "added" "Nodes.added" (ck de) (bx de) (ao de) (.ref T) kV t m k i ct),sl]) (d:K.lookup T=some #[x,xd,.seq [.int 1 u].toArray w,B]):Binds K (W.fnOf "added" "Nodes.added" (ck de) (bx de) (ao de) (.ref T) kV t m k i ct) ["self","form","level"] []:=by intro s U X h;rw[List.append_nil] at h;obtain⟨a,b,c,rfl⟩:=y9 h;exact BindsTo.of_defaults (T:=T) rfl (X _ _ d) rfl rfl rfl
theorem A7 (_:K.lookup g=some #[z,y,.func (W.fnOf "added" "Nodes.added" (ck de) (bx de) (ao de) (.ref T) kV t m k i ct),sl]) (d:K.lookup T=some #[x,xd,.seq [.int 1 u].toArray w,B]):Binds K (W.fnOf "added" "Nodes.added" (ck de) (bx de) (ao de) (.ref T) kV t m k i ct) ["self","form","level"] [.int 1 u]:=by
 intro s U X c;have e:U.length=2:=by rw[List.length_append] at c;exact Nat.add_right_cancel c
 obtain⟨a,b,rfl⟩:=A5 e;exact BindsTo.of_defaults (T:=T) rfl (X _ _ d) rfl rfl rfl
theorem A8 (_:K.lookup g=some #[z,y,.func (W.fnOf "laid" "Nodes.laid" (ck c8) (bx c8) (ao c8) (.ref T) kV t m k i ct),sl]) (d:K.lookup T=some #[x,xd,.seq [.int 1 u].toArray w,B]):Binds K (W.fnOf "laid" "Nodes.laid" (ck c8) (bx c8) (ao c8) (.ref T) kV t m k i ct) NL []:=by intro s U X h;rw[List.append_nil] at h;obtain⟨a,b,c,e,rfl⟩:=D1 h;exact BindsTo.of_defaults (T:=T) rfl (X _ _ d) rfl rfl rfl
theorem A9 (_:K.lookup g=some #[z,y,.func (W.fnOf "laid" "Nodes.laid" (ck c8) (bx c8) (ao c8) (.ref T) kV t m k i ct),sl]) (d:K.lookup T=some #[x,xd,.seq [.int 1 u].toArray w,B]):Binds K (W.fnOf "laid" "Nodes.laid" (ck c8) (bx c8) (ao c8) (.ref T) kV t m k i ct) NL [.int 1 u]:=by
 intro s U X h;have e:U.length=3:=by rw[List.length_append] at h;exact Nat.add_right_cancel h
 obtain⟨a,b,c,rfl⟩:=y9 e;exact BindsTo.of_defaults (T:=T) rfl (X _ _ d) rfl rfl rfl
theorem Ba (_:K.lookup g=some #[z,y,.func (W.fnOf "parts_first" "Nodes.parts_first" (ck nL) (bx nL) (ao nL) (.ref T) kV t m k i ct),sl]) (d:K.lookup T=some #[x,xd,.seq [.int 0 u].toArray w,B]):Binds K (W.fnOf "parts_first" "Nodes.parts_first" (ck nL) (bx nL) (ao nL) (.ref T) kV t m k i ct) ["self","nodes","bound"] []:=by intro s U X h;rw[List.append_nil] at h;obtain⟨a,b,c,rfl⟩:=y9 h;exact BindsTo.of_defaults (T:=T) rfl (X _ _ d) rfl rfl rfl
theorem Bb (_:K.lookup g=some #[z,y,.func (W.fnOf "parts_first" "Nodes.parts_first" (ck nL) (bx nL) (ao nL) (.ref T) kV t m k i ct),sl]) (d:K.lookup T=some #[x,xd,.seq [.int 0 u].toArray w,B]):Binds K (W.fnOf "parts_first" "Nodes.parts_first" (ck nL) (bx nL) (ao nL) (.ref T) kV t m k i ct) ["self","nodes","bound"] [.int 0 u]:=by
 intro s U X c;have e:U.length=2:=by rw[List.length_append] at c;exact Nat.add_right_cancel c
 obtain⟨a,b,rfl⟩:=A5 e;exact BindsTo.of_defaults (T:=T) rfl (X _ _ d) rfl rfl rfl
end
theorem za {K:W.Frag} {h:Heap} {C g c p:Addr} {d e:Value} {O o:Option Addr} {f:FuncData} {s S:Array (Option Value)} {v:Array Value} (X:K.In h) (A:W.nsIn K mainGlobals "Nodes"=some (some (.ref C))) (b:W.findIn K (.ref C) "laid"=some (some (.ref g))) (L:K.lookup g=some #[d,O,.func f,s]) (H:f.code=.ref c) (le:K.lookup c=some #[e,o,.fields v,S]) (a:(v[11]?:Option Value)=some (.ref p)) (E:W.codeHdIn K c p=true) (T:h.get? p=some (W.tabObj [].toArray)):W.TabsAt (jo K) h:=by
 have l:jo K=[(c,p)]:=by unfold jo;exact uk A b L H le a
 rw[l];intro q j;simp only[List.mem_cons,List.not_mem_nil,or_false] at j;subst j;exact#[W.codeHd_of_K X E,T]
structure FF (K:W.Frag) (x:Str) (st:Stmt) (f:Addr) (fd:FuncData):Prop where
 a:W.nsIn K mainGlobals x=some (some (.ref f))
 F:gj K x x st f fd
structure MF (K:W.Frag) (C:Addr) (m q:Str) (st:Stmt) (f:Addr) (fd:FuncData):Prop where
 a:W.findIn K (.ref C) m=some (some (.ref f))
 i:W.isFn K (.ref f)=true
 F:gj K m q st f fd
theorem MF.m {K:W.Frag} {C f:Addr} {m q:Str} {st:Stmt} {fd:FuncData} (p:MF K C m q st f fd):Meth K C m f:=#[p.a,p.i,p.F.kp]
section
variable {K:W.Frag} {x q:Str} {st:Stmt} {f:Addr} {fd:FuncData}
theorem zf {p:Str} (F:gj K x q st f fd) (h:∀(kV doc P:Value) (m:Option Addr) (C l a:Value),bindArgs (W.fnOf x q (ck st) (bx st) (ao st) .none kV doc P m C l) #[[a],[]]=pure [(p,a)]):Binds K fd [p] []:=F.binds λkV doc P m C l u c=>by obtain⟨a,rfl⟩:=D0 c;exact h kV doc P m C l a
theorem zb {p t:Str} (F:gj K x q st f fd) (h:∀(kV doc P:Value) (m:Option Addr) (C l a b:Value),bindArgs (W.fnOf x q (ck st) (bx st) (ao st) .none kV doc P m C l) #[[a,b],[]]=pure [(p,a),(t,b)]):Binds K fd [p,t] []:=F.binds λkV doc P m C l u c=>by obtain⟨a,b,rfl⟩:=A5 c;exact h kV doc P m C l a b
theorem D9 {p t r:Str} (F:gj K x q st f fd) (h:∀(kV doc P:Value) (m:Option Addr) (C l a b c:Value),bindArgs (W.fnOf x q (ck st) (bx st) (ao st) .none kV doc P m C l) #[[a,b,c],[]]=pure [(p,a),(t,b),(r,c)]):Binds K fd [p,t,r] []:=F.binds λkV doc P m C l u H=>by obtain⟨a,b,c,rfl⟩:=y9 H;exact h kV doc P m C l a b c
theorem E5 {p t r s:Str} (F:gj K x q st f fd) (h:∀(kV doc P:Value) (m:Option Addr) (C l a b c d:Value),bindArgs (W.fnOf x q (ck st) (bx st) (ao st) .none kV doc P m C l) #[[a,b,c,d],[]]=pure [(p,a),(t,b),(r,c),(s,d)]):Binds K fd [p,t,r,s] []:=F.binds λkV doc P m C l u H=>by obtain⟨a,b,c,d,rfl⟩:=D1 H;exact h kV doc P m C l a b c d
end
theorem all_mk {l:W.OpenLaw} {w:World} {K:W.Frag} {h:Heap} {mg:Str->Option Value} {fa f1 f2 f3 f4 f5 f6 f7 f8 f9 bE eo dE bP dH ci bI dR aO d c bC cG dS ex ej be bv g eb c2 pt aA ax t C:Addr} {d1 d2 d3 d4 d5 d6 d7 d8 d9 a6 cr et bk eq bF eX ca ea ee bM es cc a5 ed dW eu:FuncData} (X:K.In h) (G:h.Ns mainGlobals mg) (a3:mg "law"=some (.ref fa)) (p1:FF K "parts" sm f1 d1) (p2:FF K "built" jB f2 d2) (p3:FF K "made_alike" iB f3 d3) (p4:FF K "_law_whole" so f4 d4) (p5:FF K "_law_at" Ep f5 d5) (p6:FF K "_law_kind_by" oJ f6 d6) (p7:FF K "_law_inside" oK f7 d7) (p8:FF K "_law_filled" oM f8 d8) (p9:FF K "_law_counted" fD f9 d9) (as:FF K "_law_is_kind" oN bE a6) (al:FF K "_law_instance" jD eo cr) (ap:FF K "_law_headed" oO dE et) (b:FF K "_law_full" x4 bP bk) (ac:FF K "_law_solved" oP dH eq) (am:FF K "_law_hidden" oQ ci bF) (a:FF K "_law_any" Cf bI eX) (p:FF K "law" uQ dR ca) (aW:W.nsIn K mainGlobals "Nodes"=some (some (.ref C))) (H:i6 K C) (dF:W.makesIn K C=true) (c0:W.keepIn K (.ref C)=true) (i:MF K C "__init__" "Nodes.__init__" xZ aO ea) {eH em:Option Addr} {dp:Array (Option Value)} {e5 e0 bG e2 bs:Value} {z:Value} (dv:W.findIn K (.ref C) "added"=some (some (.ref d))) (x:K.lookup d=some #[e5,eH,.func (W.fnOf "added" "Nodes.added" (ck de) (bx de) (ao de) (.ref aA) e0 bG e2 em z bs),dp]) (bT:W.codeIn K z "Nodes.added"=true) (ev:W.isFn K (.ref d)=true) (bn:W.keepIn K (.ref d)=true) {a7 eJ:Option Addr} {ep:Array (Option Value)} {a8 dI cl cm ei:Value} (aL:W.findIn K (.ref C) "laid"=some (some (.ref c))) (L:K.lookup c=some #[a8,a7,.func (W.fnOf "laid" "Nodes.laid" (ck c8) (bx c8) (ao c8) (.ref ax) dI cl cm eJ (.ref c2) ei),ep]) (bf:W.codeIn K (.ref c2) "Nodes.laid"=true) (dC:W.isFn K (.ref c)=true) (ek:W.keepIn K (.ref c)=true) (j:MF K C "laid_part" "Nodes.laid_part" jC bC ee) (P:MF K C "root" "Nodes.root" ym cG bM) (f:MF K C "within" "Nodes.within" oX dS es) (m:MF K C "linked" "Nodes.linked" oY ex cc) (y:MF K C "joined" "Nodes.joined" oZ ej a5) (aC:MF K C "linked_anew" "Nodes.linked_anew" yn be ed) (aF:MF K C "sound" "Nodes.sound" l6 bv dW) {di dh:Option Addr} {db:Array (Option Value)} {dL dn dY ce ef:Value} {A:Value} (S:W.findIn K (.ref C) "parts_first"=some (some (.ref g))) (o:K.lookup g=some #[dL,di,.func (W.fnOf "parts_first" "Nodes.parts_first" (ck nL) (bx nL) (ao nL) (.ref t) dn dY ce dh A ef),db]) (c4:W.codeIn K A "Nodes.parts_first"=true) (Z:W.isFn K (.ref g)=true) (D:W.keepIn K (.ref g)=true) (u:MF K C "told" "Nodes.told" l8 eb eu) {a1:Tok} {eT:Nat} {a0:Value} {e6:Option Addr} {bb:Array (Option Value)} (U:K.lookup aA=some #[a0,e6,.seq [.int 1 a1].toArray eT,bb]) {aY:Tok} {bg:Nat} {r:Value} {dx:Option Addr} {co:Array (Option Value)} (Q:K.lookup ax=some #[r,dx,.seq [.int 1 aY].toArray bg,co]) {aM:Tok} {bQ:Nat} {E:Value} {a2:Option Addr} {bA:Array (Option Value)} (Y:K.lookup t=some #[E,a2,.seq [.int 0 aM].toArray bQ,bA]) {dA:Value} {e4:Option Addr} {aQ:Array Value} {ez:Array (Option Value)} (le:K.lookup c2=some #[dA,e4,.fields aQ,ez]) (cs:(aQ[11]?:Option Value)=some (.ref pt)) (z1:W.nsIn K mainGlobals "len"=some none) (z2:W.nsIn K mainGlobals "range"=some none) (z3:W.nsIn K mainGlobals "isinstance"=some none) (z4:W.nsIn K mainGlobals "int"=some none) (z5:W.nsIn K mainGlobals "bool"=some none) (z6:W.nsIn K mainGlobals "tuple"=some none) (z7:W.nsIn K mainGlobals "str"=some none) (z8:W.nsIn K mainGlobals "abs"=some none) (z9:W.nsIn K mainGlobals "list"=some none) (ew:W.nsIn K mainGlobals "zip"=some none) (dT:W.nsIn K mainGlobals "reversed"=some none):∃fd:FuncData,(∀(s:Shared) (v:Value),BindsTo s fd #[[v],[]] [("_law_script",v)])/\∀base:Heap,K.In base->base.Ns mainGlobals mg->(∀q∈jo K,W.CodeHd base q.1 q.2)->BMain mg base->aU l.prog w K mg base cM 202 fa fd ["_law_script"] (um K):=by
 have e:=a3.symm.trans (W.mg_of X G p.a);cases e;have fo:=p.F;obtain⟨_,_,kV,dc,pm,an,cd,ct,_,rfl,_,_⟩:=p.F.ex;have n:=W.mg_none_of X G z1;have R:=W.mg_none_of X G z2;have I:=W.mg_none_of X G z3;have bJ:=W.mg_none_of X G z4;have bW:=W.mg_none_of X G z5;have M:=W.mg_none_of X G z6;have bB:=W.mg_none_of X G z7;have T:=W.mg_none_of X G z8;have k:=W.mg_none_of X G z9;have ey:=W.mg_none_of X G ew;have N:=W.mg_none_of X G dT;have m1:=W.mg_of X G p1.a;have m2:=W.mg_of X G p2.a;have m3:=W.mg_of X G p3.a;have m4:=W.mg_of X G p4.a;have m5:=W.mg_of X G p5.a;have m6:=W.mg_of X G p6.a;have m7:=W.mg_of X G p7.a;have m8:=W.mg_of X G p8.a;have m9:=W.mg_of X G p9.a;have dz:=W.mg_of X G as.a;have bi:=W.mg_of X G al.a;have bo:=W.mg_of X G ap.a;have aH:=W.mg_of X G b.a;have dd:=W.mg_of X G ac.a;have dK:=W.mg_of X G am.a;have aK:=W.mg_of X G a.a;have fl:=W.mg_of X G p.a;have b1:Binds K _ ["kind"] []:=zf p1.F λ_ _ _ _ _ _ _=>rfl;have b2:Binds K _ ["kind","make"] []:=zb p2.F λ_ _ _ _ _ _ _ _=>rfl;have b3:Binds K _ ["one","other"] []:=zb p3.F λ_ _ _ _ _ _ _ _=>rfl;have b4:Binds K _ ["_law_found"] []:=zf p4.F λ_ _ _ _ _ _ _=>rfl;have b5:Binds K _ ["_law_script","_law_k"] []:=zb p5.F λ_ _ _ _ _ _ _ _=>rfl;have b6:Binds K _ ["_law_cells"] []:=zf p6.F λ_ _ _ _ _ _ _=>rfl;have b7:Binds K _ ["_law_kind"] []:=zf p7.F λ_ _ _ _ _ _ _=>rfl;have b8:Binds K _ ["_law_kind","_law_filling"] []:=zb p8.F λ_ _ _ _ _ _ _ _=>rfl;have b9:Binds K _ ["_law_kinds"] []:=zf p9.F λ_ _ _ _ _ _ _=>rfl;have dJ:Binds K _ ["_law_found"] []:=zf as.F λ_ _ _ _ _ _ _=>rfl;have c1:Binds K _ ["_law_wide","_law_kept","_law_kind"] []:=D9 al.F λ_ _ _ _ _ _ _ _ _=>rfl;have bd:Binds K _ ["_law_kind","_law_filling"] []:=zb ap.F λ_ _ _ _ _ _ _ _=>rfl;have aP:Binds K _ ["_law_kind","_law_filling"] []:=zb b.F λ_ _ _ _ _ _ _ _=>rfl;have b0:Binds K _ ["_law_pairs"] []:=zf ac.F λ_ _ _ _ _ _ _=>rfl;have bR:Binds K _ ["_law_kind","_law_cells","_law_first"] []:=D9 am.F λ_ _ _ _ _ _ _ _ _=>rfl;have aJ:Binds K _ ["_law_cell"] []:=zf a.F λ_ _ _ _ _ _ _=>rfl;have fb:Binds K _ ["_law_script"] []:=zf p.F λ_ _ _ _ _ _ _=>rfl;refine#[W.fnOf "law" "law" (ck uQ) (bx uQ) (ao uQ) .none kV dc pm an cd ct,λs v=>.of_eq rfl,λbase XB GB bY dQ=>?_];have ht:jo K=[(c2,pt)]:=by unfold jo;exact uk aW aL L rfl le cs
 have dP:=bY (c2,pt) (by rw[ht];simp);have mN:=W.mg_of X G aW;have KN:Mk K C aO:=#[dF,i.a,i.i,c0];have O1:aU l.prog w K mg base _ _ _ _ _ _:=yg p1.F n;have B:Binds K _ ["self","node"] []:=zb P.F λ_ _ _ _ _ _ _ _=>rfl;have O:aU l.prog w K mg base _ _ _ _ _ _:=Ae P.F H;have aS:Binds K _ ["self","node"] []:=zb f.F λ_ _ _ _ _ _ _ _=>rfl;have aT:aU l.prog w K mg base _ _ _ _ _ _:=uY f.F H n P.m O B;have c9:Binds K _ ["self","gone","root"] []:=D9 y.F λ_ _ _ _ _ _ _ _ _=>rfl;have bl:aU l.prog w K mg base _ _ _ _ _ _:=u6 y.F H;have er:Binds K _ ["self","one","other"] []:=D9 m.F λ_ _ _ _ _ _ _ _ _=>rfl;have el:aU l.prog w K mg base _ _ _ _ _ _:=vj m.F H k ey P.m O B y.m bl c9;have ds:nc K "parts_first" "Nodes.parts_first" nL g _ (.ref t):=#[_,_,_,_,_,_,_,_,_,rfl,o,c4];have fn:Binds K _ ["self","nodes","bound"] []:=Ba o Y;have E:Binds K _ ["self","nodes","bound"] [.int 0 aM]:=Bb o Y;have J:aU l.prog w K mg base _ _ _ _ _ _:=DS ds H N P.m O B f.m aT aS;have da:Binds K _ ["self","nodes"] []:=zb u.F λ_ _ _ _ _ _ _ _=>rfl;have c3:aU l.prog w K mg base _ _ _ _ _ _:=Am u.F H M P.m O B f.m aT aS #[S,Z,D] J E;have ec:Binds K _ ["self","pairs"] []:=zb aF.F λ_ _ _ _ _ _ _ _=>rfl;have df:aU l.prog w K mg base _ _ _ _ _ _:=yB aF.F H #[S,Z,D] J E;have e1:Binds K _ ["self","pairs"] []:=zb aC.F λ_ _ _ _ _ _ _ _=>rfl;have bL:aU l.prog w K mg base _ _ _ _ _ _:=Aq aC.F H n k R m.m el er aF.m df ec;have eh:Binds K _ ["self"] []:=zf i.F λ_ _ _ _ _ _ _=>rfl;have bH:aU l.prog w K mg base _ _ _ _ _ _:=Av i.F H;have ch:nc K "added" "Nodes.added" de d _ (.ref aA):=#[_,_,_,_,_,_,_,_,_,rfl,x,bT];have dM:Binds K _ ["self","form","level"] []:=A6 x U;have a0:Binds K _ ["self","form","level"] [.int 1 a1]:=A7 x U;have bK:aU l.prog w K mg base _ _ _ _ _ _:=yI ch H n;have dV:Binds K _ ["self","part","known","level"] []:=E5 j.F λ_ _ _ _ _ _ _ _ _ _=>rfl;have dy:aU l.prog w K mg base _ _ _ _ _ _:=qK j.F H #[dv,ev,bn] bK dM;have bm:nc K "laid" "Nodes.laid" c8 c _ (.ref ax):=#[_,_,_,_,_,_,_,_,_,rfl,L,bf];have fm:Binds K _ K1.NL []:=A8 L Q;have r:Binds K _ K1.NL [.int 1 aY]:=A9 L Q;have cR:aU l.prog w K mg base _ _ _ _ _ _:=Ay bm rfl dP dQ H j.m dy dV O1 b1 p1.F.kp m1 p2.F b2 m2 N n;have O3:aU l.prog w K mg base _ _ _ _ _ _:=AG (pt:=pt) p3.F H mN KN bH eh #[aL,dC,ek] cR r aC.m bL e1 u.m c3 da;have O7:aU l.prog w K mg base _ _ _ _ _ _:=vE p7.F;have O8:aU l.prog w K mg base _ _ _ _ _ _:=vK p8.F O7 b7 p7.F.kp m7 N;have aR:aU l.prog w K mg base _ _ _ _ _ _:=Cy a.F;have O4:aU l.prog w K mg base _ _ _ _ _ _:=yQ p4.F I bJ bW;have O6:aU l.prog w K mg base _ _ _ _ _ _:=vT p6.F aR aJ a.F.kp aK n T;have eB:aU l.prog w K mg base _ _ _ _ _ _:=v7 as.F O4 b4 p4.F.kp m4 n I M bB;have dO:aU l.prog w K mg base _ _ _ _ _ _:=rm al.F n;have O9:aU l.prog w K mg base _ _ _ _ _ _:=tj p9.F O7 b7 p7.F.kp m7 O8 b8 p8.F.kp m8 n;have bS:aU l.prog w K mg base _ _ _ _ _ _:=wa ap.F;have aI:aU l.prog w K mg base _ _ _ _ _ _:=AN b.F O8 b8 p8.F.kp m8;have e3:aU l.prog w K mg base _ _ _ _ _ _:=wu ac.F n k N bS bd ap.F.kp bo aI aP b.F.kp aH O7 b7 p7.F.kp m7;have a4:aU l.prog w K mg base _ _ _ _ _ _:=wH am.F O7 b7 p7.F.kp m7 n R;have O5:aU l.prog w K mg base _ _ _ _ _ _:=DY p5.F n;exact CQ p.F ht O6 b6 p6.F.kp m6 O5 b5 p5.F.kp m5 a4 bR am.F.kp dK aR aJ a.F.kp aK e3 b0 ac.F.kp dd O3 b3 p3.F.kp m3 eB dJ as.F.kp dz aI aP b.F.kp aH O9 b9 p9.F.kp m9 dO c1 al.F.kp bi n T
end K1
end
open PySem PySem.W PyProof.Rows
set_option hygiene false
def vw : Program := view PySem.Challenge.pw_widekind_k02_whole_made_alike [0, 2, 3, 5, 7, 9, 10, 11, 12, 13, 14, 15, 16, 17, 18, 19, 20, 21, 22]
local macro_rules
| `(tactic| o_head $H) => `(tactic| (
  refine holds_open (q := vw) (loose := []) (N := 2868)
    (Xt := fun s => xlAt vw [] s && recOk (RowW.records (OpenRow.toRowW (OpenLaw.row PySem.Challenge.rw_widekind_k02_whole_made_alike))) s)
    (XP := XL vw []) (YP := Hook.says $H)
    (Ya := Hook.val $H) (Yf := Hook.obs $H)
    ?hl (Hook.of $H) (Hook.keeps $H)
    (fun s e => xl_of s (Bool.and_eq_true_iff.mp e).1) XL.keeps
    (by rfl) (by rfl) (by rfl)
    (fun s e => recFacts_of (Bool.and_eq_true_iff.mp e).2) (by rfl)
    (by first | assumption | decide +kernel) (by decide +kernel)
    ⟨rfl, rfl, rfl, rfl, rfl, by decide +kernel⟩ ?hw ?hc
  case hl => intro w; kernel_rfl))
set_option Elab.async false
set_option maxRecDepth 100000 in
set_option maxHeartbeats 0 in
theorem PySem.Challenge.cw_widekind_k02_whole_made_alike_holds : PySem.Challenge.rw_widekind_k02_whole_made_alike.Holds := by
  w_on; o_law; k_head; (case hw => w_witness2)
  k_fill
  refine L2.y6 (l := PySem.Challenge.rw_widekind_k02_whole_made_alike) (n := 63) (k := 202) (x := "_law_script") (CX := L2.cM) (sp := K1.um) (tabs := K1.jo) rfl (by decide) rfl ⟨rfl, by decide, by decide⟩ (fun w h Y => PySem.W.km_in_of Y) ?tT ?tN ?tF ?tS ?tC
  case tT =>
    intro w h Y KX
    have hT8 := PySem.W.km_tabs_of Y
    refine' K1.za KX ?q1 ?q2 ?q3 ?q4 ?q5 ?q6 ?q7 ?q8
    (case q1 => k_is)
    (case q2 => k_is)
    (case q3 => k_is)
    (case q4 => rfl)
    (case q5 => k_is)
    (case q6 => rfl)
    (case q7 => kernel_rfl)
    (case q8 => exact hT8 _ (by decide))
  case tN => intro w; rfl
  case tF =>
    intro w mg fa h KX G hmg
    refine' K1.all_mk KX G hmg ?p1 ?p2 ?p3 ?p4 ?p5 ?p6 ?p7 ?p8 ?p9 ?p10 ?p11 ?p12 ?p13 ?p14 ?p15 ?p16 ?p17 ?aCN ?HN ?vN1 ?vN2 ?pNm0 ?aNm1 ?lNm1 ?cNm1 ?iNm1 ?kNm1 ?aNm2 ?lNm2 ?cNm2 ?iNm2 ?kNm2 ?pNm3 ?pNm4 ?pNm5 ?pNm6 ?pNm7 ?pNm8 ?pNm9 ?aNm10 ?lNm10 ?cNm10 ?iNm10 ?kNm10 ?pNm11 ?dNm1 ?dNm2 ?dNm10 ?lcode2 ?hve ?z1 ?z2 ?z3 ?z4 ?z5 ?z6 ?z7 ?z8 ?z9 ?z10 ?z11
    (case p1 | p2 | p3 | p4 | p5 | p6 | p7 | p8 | p9 | p10 | p11 | p12 | p13 | p14 | p15 | p16 | p17 => exact ⟨by k_is, L2.oy (by k_is) (by k_is) (by k_is)⟩)
    (case aCN => k_is)
    (case HN => refine ⟨⟨?_, ?_, ?_, ?_⟩, ?_, ?_, ?_, ?_⟩ <;> first | k_is | (unfold L2.fu; k_is))
    (case vN1 | vN2 => k_is)
    (case pNm0 => exact ⟨by k_is, by k_is, L2.oy (by k_is) (by k_is) (by k_is)⟩)
    (case aNm1 | lNm1 | cNm1 | iNm1 | kNm1 | aNm2 | lNm2 | cNm2 | iNm2 | kNm2 => k_is)
    (case pNm3 | pNm4 | pNm5 | pNm6 | pNm7 | pNm8 | pNm9 => exact ⟨by k_is, by k_is, L2.oy (by k_is) (by k_is) (by k_is)⟩)
    (case aNm10 | lNm10 | cNm10 | iNm10 | kNm10 => k_is)
    (case pNm11 => exact ⟨by k_is, by k_is, L2.oy (by k_is) (by k_is) (by k_is)⟩)
    (case dNm1 | dNm2 | dNm10 | lcode2 => k_is)
    (case hve => rfl)
    (case z1 | z2 | z3 | z4 | z5 | z6 | z7 | z8 | z9 | z10 | z11 => k_is)
  case tS => exact fun K H a ns hl hO hS => ⟨a, ns, rfl, hS, hl, hO.tabs, fun _ => rfl⟩
  case tC => exact fun _ _ _ _ z => z
