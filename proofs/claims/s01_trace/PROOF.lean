import PyProof.Rows.All
import Wide.All
import OpenK.AllK
import Wide.FinOn
import PyProof.EqAt
import PyProof.EqKinds
import PyProof.TupleCall
import KE.BitLaws
import Open.SpecLaws
import KE.OsHead
import KE.OsGo
import PySem.Challenge.RW_enclosedrays_s01_trace
set_option Elab.async false
set_option linter.all false
set_option maxRecDepth 100000
set_option maxHeartbeats 2000000
open PySem.W(Frag nsIn keepIn fnOf findIn)
theorem d_{p:Prop}(h:p:=by decide):p:=h
theorem o_{p:Prop}(h:p:=by omega):p:=h
section
namespace Fx
open PySem
def zj(P:Addr->Prop)(h:Heap)(e:Addr)(cls:Value)(dx:Option Addr):Prop :=
 ∃oe vs,h.get? e=some oe/\oe.cls=cls/\oe.dict=dx/\oe.data=.fields vs/\5<vs.size/\¬P e /\
  (vs[1]?=some .none\/∃T oT ts,vs[1]?=some (.ref T)/\T≠e/\¬P T/\h.get? T=some oT/\oT.data=.fields ts/\3<ts.size)
structure Nt(fs:List Addr)(P:Addr->Prop)(h h':Heap):Prop where
 keep:∀b o,h.get? b=some o->b∉fs->P b->h'.get? b=some o
 slot:∀b o,h.get? b=some o->b∈fs->∃sl,h'.get? b=some {o with slots:=sl}
 there:∀b o,h.get? b=some o->∃o',h'.get? b=some o'
 sz:h.objs.size<=h'.objs.size
theorem Nt.refl{fs:List Addr}{P:Addr->Prop}{h:Heap}:Nt fs P h h:=⟨λ_ _ e _ _=>e,λ_ o e _=>⟨o.slots,e⟩,λ_ o e=>⟨o,e⟩,Nat.le_refl _⟩
theorem Nt.trans{fs:List Addr}{P:Addr->Prop}{h h1 h2:Heap}(x:Nt fs P h h1)(y:Nt fs P h1 h2):Nt fs P h h2 :=
 ⟨λb o e n p=>y.keep b o (x.keep b o e n p) n p,λb o e m=>by
  obtain⟨s1,e1⟩:=x.slot b o e m;obtain⟨s2,e2⟩:=y.slot b _ e1 m;exact⟨s2,e2⟩,λb o e=>by
  obtain⟨o1,e1⟩:=x.there b o e;exact y.there b o1 e1,Nat.le_trans x.sz y.sz⟩
theorem p0(o:Obj)(f:Array Value->Array Value):(o.mapFields f).dict=o.dict:=by
 obtain⟨c,d,dt,sl⟩:=o;cases dt <;> rfl
theorem lD{fs:List Addr}{P:Addr->Prop}{h:Heap}{a:Addr}{o:Obj}{vs:Array Value}(f:Array Value->Array Value)(ho:h.get? a=some o)(hd:o.data=.fields vs)(hn:¬P a)(hf:a∉fs) :
  Nt fs P h (h.update a (Obj.mapFields f)):=by
 have U6:∀b,b≠a->(h.update a (Obj.mapFields f)).get? b=h.get? b:=λb q=>Heap.get?_update_other h _ (Ne.symm q);refine⟨λb u e n p=>?_,λb u e m=>⟨u.slots,?_⟩,λb u e=>?_,Nat.le_of_eq (Heap.size_after_update ..).symm⟩
 ·rw[U6 b λq=>hn (q ▸ p)];exact e
 ·rw[U6 b λq=>hf (q ▸ m)];exact e
 ·by_cases q:b=a
  ·rw[q];exact⟨_,Heap.get?_update_self _ ho (Obj.isFreed_of_fields (Obj.data_mapFields hd f))⟩
  ·rw[U6 b q];exact⟨u,e⟩
theorem DJ{fs:List Addr}{P:Addr->Prop}{h:Heap}(o:Obj):Nt fs P h (h.push o) :=
 ⟨λb u e _ _=>Heap.get?_push_of_some o e,λb u e _=>⟨u.slots,Heap.get?_push_of_some o e⟩,λb u e=>⟨u,Heap.get?_push_of_some o e⟩,by rw[Heap.size_push];exact Nat.le_succ _⟩
theorem zk{fs:List Addr}{P:Addr->Prop}{h h':Heap}(x:Heap.SlotsOnly fs h h'):Nt fs P h h' :=
 ⟨λb o e n _=>by rw[x.2.1 b n];exact e,λb o e _=>x.2.2 b o e,λb o e=>by
  obtain⟨sl,q⟩:=x.2.2 b o e;exact⟨_,q⟩,Nat.le_of_eq x.1.symm⟩
section
variable{M:Model}{A:Around}{E:Value->Shared->Prop}{s:Shared}{P:Addr->Prop}{e L:Addr}{cls:Value}{dx:Option Addr}{env:Env}{ai:List Env}{base:Heap}{Q:Unit->Shared->Prop}
theorem zl{head:Value}{U7:Bool}(rV:A.frames=some (env::ai))(hl:s.heap.FunFrames base (env::ai))(hf:env.frame=some L)(hP:∀b,P b->b<s.heap.objs.size)
  {oe:Obj}{vs:Array Value}(he:s.heap.get? e=some oe)(hd:oe.data=.fields vs)(hz:5<vs.size)(hn:¬P e)
  (hQ:∀h',Nt ((env::ai).filterMap (·.frame)) P s.heap h'->zj P h' e oe.cls oe.dict->Q () {s with heap:=h'}) :
  wpAny M A (do let a<-frameOf env;let pl<-entryPlaceOf L U7;let b<-EntryCells.newEntry head a .none (rawInt L) .none pl;setField (.ref e) 1 b) Q E s:=by
 have Ru:e∉(env::ai).filterMap (·.frame):=λhm=>by
  obtain⟨_,o,ho,E5⟩:=hl.mem hm;rw[he] at ho;cases ho;exact E5 vs hd
 refine wpAny_bind (wpAny_frameOf_fun rV hl hf λh1 x1=>?_);refine wpAny_bind (wpAny_entryPlaceOf λpl d9=>?_);unfold EntryCells.newEntry newFields;refine wpAny_bind (wpAny_newObj_type ?_ (d9.sizeOk5 _ _ _ _ _));generalize DK:({cls:=.type "traceback",dict:=none,data:=.fields ([head,.ref L,.none,rawInt L,.none]++(if pl.isEmpty then List.replicate 6 Value.none else pl)).toArray}:Obj)=ob;have e1:h1.get? e=some oe:=(x1.2.1 e Ru).trans he;have e2:=Heap.get?_push_of_some (h:=h1) ob e1;refine wpAny_setField e2 hd o_ ?_;have nT:h1.objs.size≠e:=Nat.ne_of_gt (Heap.lt_size e1);have d3:=Obj.data_mapFields hd (·.setIfInBounds 1 (Value.ref h1.objs.size));have e3:=Heap.get?_update_self (Obj.mapFields (·.setIfInBounds 1 (Value.ref h1.objs.size))) e2 (Obj.isFreed_of_fields d3);have hT:(h1.push ob).get? h1.objs.size=some ob:=Heap.get?_push_size h1 (by rw[<-DK];rfl);have U8:=(Heap.get?_update_other (h1.push ob) (Obj.mapFields (·.setIfInBounds 1 (Value.ref h1.objs.size))) (Ne.symm nT)).trans hT;refine hQ _ (((zk x1).trans (DJ ob)).trans (lD _ e2 hd hn Ru)) ⟨_,_,e3,Obj.cls_mapFields _ _,p0 _ _,d3,by rw[Array.size_setIfInBounds];exact hz,hn,.inr ⟨h1.objs.size,ob,_,?_,nT,λp=>?_,U8,by rw[<-DK],?_⟩⟩
 ·simp only[Array.getElem?_setIfInBounds];simp [show 1<vs.size by omega]
 ·have q:=hP _ p;rw[x1.1] at q;exact absurd q (Nat.lt_irrefl _)
 ·simp only[List.size_toArray,List.length_append,List.length_cons,List.length_nil];omega
theorem DL(rV:A.frames=some (env::ai))(hl:s.heap.FunFrames base (env::ai))(hf:env.frame=some L)(hP:∀b,P b->b<s.heap.objs.size)(F:zj P s.heap e cls dx)
  (hQ:∀h',Nt ((env::ai).filterMap (·.frame)) P s.heap h'->zj P h' e cls dx->Q () {s with heap:=h'}):wpAny M A (noteFrame (.ref e) env) Q E s:=by
 have F0:=F;obtain⟨oe,vs,he,hc,hx,hd,hz,hn,tr⟩:=F;subst hc;subst hx;unfold noteFrame;simp only[hf];rcases tr with h1 |⟨T,oT,ts,h1,Nw,KI,hT,zm,Ny⟩
 ·refine wpAny_bind (wpAny_field he hd h1 ?_);rw[if_neg d_];exact zl rV hl hf hP he hd hz hn hQ
 ·refine wpAny_bind (wpAny_field he hd h1 ?_);rw[if_pos (show (Value.ref T != Value.none)=true by simp)];obtain⟨fl,h3⟩:∃fl,ts[3]?=some fl:=⟨_,Array.getElem?_eq_getElem Ny⟩
  refine wpAny_bind (wpAny_field hT zm h3 ?_)
  by_cases q:(fl == rawInt L)=true
  ·rw[if_pos q];exact wpAny_pure (hQ s.heap Nt.refl F0)
  ·rw[if_neg q];have U9:T∉(env::ai).filterMap (·.frame):=λhm=>by
    obtain⟨_,o,ho,E5⟩:=hl.mem hm;rw[hT] at ho;cases ho;exact E5 ts zm
   refine wpAny_bind (wpAny_setField hT zm Ny ?_);have N1:Nt ((env::ai).filterMap (·.frame)) P s.heap _:=lD (·.setIfInBounds 3 Value.none) hT zm KI U9;have Rw:(s.heap.update T (Obj.mapFields (·.setIfInBounds 3 Value.none))).get? e=some oe:=(Heap.get?_update_other _ _ Nw).trans he;refine zl (base:=base) rV (hl.of_keeps λb o hb E5=>⟨o,?_,rfl⟩) hf (λb p=>?_) Rw hd hz hn λh' N' F'=>hQ h' (N1.trans N') F'
   ·rw[Heap.get?_update_other _ _ λz=>E5 ts (by rw[z,hb] at hT;cases hT;exact zm)];exact hb
   ·rw[Heap.size_after_update];exact hP b p
theorem qe{fs:List Addr}(hl:∀b∈fs,∃o,s.heap.get? b=some o/\∀vs,o.data≠.fields vs)(F:zj P s.heap e cls dx)(fr:Option Addr)
  (hQ:∀h',Nt fs P s.heap h'->zj P h' e cls dx->Q () {s with heap:=h'}):wpAny M A (setFlight (.ref e) fr) Q E s:=by
 have F0:=F;obtain⟨oe,vs,he,hc,hx,hd,hz,hn,tr⟩:=F;unfold setFlight;rcases tr with h1 |⟨T,oT,ts,h1,Nw,KI,hT,zm,Ny⟩
 ·refine wpAny_bind (wpAny_field he hd h1 ?_);rw[if_neg d_];exact wpAny_pure (hQ s.heap Nt.refl F0)
 ·refine wpAny_bind (wpAny_field he hd h1 ?_);rw[if_pos (show (Value.ref T != Value.none)=true by simp)];refine wpAny_setField hT zm Ny (hQ _ (lD _ hT zm KI λm=>?_) ⟨oe,vs,(Heap.get?_update_other _ _ Nw).trans he,hc,hx,hd,hz,hn,.inr ⟨T,_,_,h1,Nw,KI,Heap.get?_update_self _ hT (Obj.isFreed_of_fields (Obj.data_mapFields zm _)),Obj.data_mapFields zm _,by rw[Array.size_setIfInBounds];exact Ny⟩⟩);obtain⟨o,ho,E5⟩:=hl T m;rw[hT] at ho;cases ho;exact E5 ts zm
theorem qf(hl:s.heap.FunFrames base ai):∀b∈ai.filterMap (·.frame),∃o,s.heap.get? b=some o/\∀vs,o.data≠.fields vs:=λ_ m=>(hl.mem m).2
theorem Nt.frames{fs:List Addr}{h h':Heap}(x:Nt fs P h h')(hs:∀b∈ai.filterMap (·.frame),b∈fs)(hl:h.FunFrames base ai):h'.FunFrames base ai:=by
 induction ai with
 |nil=>trivial
 |cons env r ih =>
  obtain⟨hk,⟨L,o,hf,hn,ho,hd⟩,hr⟩:=hl;have m:L∈(env::r).filterMap (·.frame):=by
   rw[List.filterMap_cons,hf];exact List.mem_cons_self
  obtain⟨sl,q⟩:=x.slot L o ho (hs L m);refine⟨hk,⟨L,_,hf,hn,q,hd⟩,ih (λb hb=>hs b ?_) hr⟩;rw[List.filterMap_cons,hf];exact List.mem_cons_of_mem _ hb
theorem Hn(rV:A.frames=some (env::ai))(hl:s.heap.FunFrames base (env::ai))(hf:env.frame=some L)(hP:∀b,P b->b<s.heap.objs.size)(F:zj P s.heap e cls dx)
  (hQ:∀h',Nt ((env::ai).filterMap (·.frame)) P s.heap h'->zj P h' e cls dx->Q () {s with heap:=h'}):wpAny M A (leaving env (.ref e)) Q E s:=by
 unfold leaving;refine wpAny_bind (DL rV hl hf hP F λh1 N1 F1=>?_);have fl:=N1.frames (base:=base) (λb hb=>hb) hl;exact qe (s:={s with heap:=h1}) (fs:=(env::ai).filterMap (·.frame)) (qf fl) F1 _ λh2 N2 F2=>hQ h2 (N1.trans N2) F2
end
end Fx
end
section
namespace L2
open PySem PySem.Spec PyProof.Rows
abbrev fo:=Sum Int Str
def vS:fo->Value->Bool
 |.inl k,v=>Value.isInt k v
 |.inr x,v=>Value.isStrOf x v
def Va(w:World):fo->Int
 |.inl k=>hashInt k
 |.inr x=>hashStr w x
theorem eC:∀{k:fo} {v:Value},vS k v=true->(∃i t,k=Sum.inl i/\v=Value.int i t)\/(∃x t,k=Sum.inr x/\v=Value.str x t)
 |.inl i,v,h=>by
  obtain⟨t,e⟩:=Value.isInt_shape (k:=i) (v:=v) h;exact .inl ⟨i,t,rfl,e⟩
 |.inr x,v,h=>by
  obtain⟨t,e⟩:=Value.isStrOf_shape (x:=x) (v:=v) h;exact .inr ⟨x,t,rfl,e⟩
theorem E6(i:Int)(t:Tok):vS (.inl i) (.int i t)=true:=by simp [vS,Value.isInt]
theorem E7(x:Str)(t:Tok):vS (.inr x) (.str x t)=true:=by simp [vS,Value.isStrOf]
theorem Ol(a b:Int):decide ((Sum.inl a:fo)=Sum.inl b)=(a == b):=by
 by_cases e:a=b
 ·subst e;simp
 ·have h:¬(Sum.inl a:fo)=Sum.inl b:=λq=>e (Sum.inl.inj q);rw[decide_eq_false h];exact(beq_eq_false_iff_ne.mpr e).symm
theorem Om(a b:Str):decide ((Sum.inr a:fo)=Sum.inr b)=decide (a=b):=by
 by_cases e:a=b
 ·subst e;simp
 ·have h:¬(Sum.inr a:fo)=Sum.inr b:=λq=>e (Sum.inr.inj q);rw[decide_eq_false h,decide_eq_false e]
theorem Oo(a:Int)(b:Str):decide ((Sum.inl a:fo)=Sum.inr b)=false:=decide_eq_false (λq=>nomatch q)
theorem Op(a:Str)(b:Int):decide ((Sum.inr a:fo)=Sum.inl b)=false:=decide_eq_false (λq=>nomatch q)
def f6(prog:Program)(w:World):PySem.KeyKind prog w fo where
 is:=vS
 hash:=Va w
 inj:=λv a b ha hb=>by
  rcases eC ha with ⟨i,t,rfl,rfl⟩ |⟨x,t,rfl,rfl⟩
  ·rcases eC hb with ⟨j,u,rfl,e⟩ |⟨y,u,rfl,e⟩
   ·injection e with e1 _;rw[e1]
   ·exact nomatch e
  ·rcases eC hb with ⟨j,u,rfl,e⟩ |⟨y,u,rfl,e⟩
   ·exact nomatch e
   ·injection e with e1 _;rw[e1]
 byValue:=λk v h=>by
  rcases eC h with ⟨i,t,rfl,rfl⟩ |⟨x,t,rfl,rfl⟩ <;> rfl
 pyHash:=λhv h=>by
  rcases eC hv with ⟨i,t,rfl,rfl⟩ |⟨x,t,rfl,rfl⟩
  ·exact wpAny_pyHash_int h
  ·exact wpAny_pyHash_str h
 eqBool:=λhu hv h=>by
  rcases eC hu with ⟨i,t,rfl,rfl⟩ |⟨x,t,rfl,rfl⟩
  ·rcases eC hv with ⟨j,u,rfl,rfl⟩ |⟨y,u,rfl,rfl⟩
   ·rw[Ol] at h;exact wpAny_eqBool_int h
   ·rw[Oo] at h;exact SeqAt.EqAt.int_str i t y u _ _ _ _ h
  ·rcases eC hv with ⟨j,u,rfl,rfl⟩ |⟨y,u,rfl,rfl⟩
   ·rw[Op] at h;exact SeqAt.EqAt.str_int x t j u _ _ _ _ h
   ·rw[Om] at h;exact wpAny_eqBool_str h
 «strs»:=λk x t v h=>by
  rcases eC h with ⟨i,u,rfl,e⟩ |⟨y,u,rfl,e⟩
  ·exact nomatch e
  ·injection e with e1 _
   subst e1;cases v <;> rfl
theorem zn(prog:Program)(w:World)(i:Int)(t:Tok):(f6 prog w).is (.inl i) (.int i t)=true:=E6 i t
theorem zo(prog:Program)(w:World)(x:Str)(t:Tok):(f6 prog w).is (.inr x) (.str x t)=true:=E7 x t
end L2
namespace L2
open PySem PySem.Spec PyProof.Rows
inductive V where
 |dH |bl (b:Bool) |int (i:Int) |str (x:Str) |Bt (b:Array UInt8) |rW (b:UInt64) |ref (a:Addr) |ty (n:String)
 deriving DecidableEq
def cz:V->Value->Prop
 |.dH,u=>u=Value.none
 |.bl b,u=>u=Value.bool b
 |.int i,u=>∃t,u=Value.int i t
 |.str x,u=>∃t,u=Value.str x t
 |.Bt b,u=>∃t,u=Value.bytes b t
 |.rW b,u=>∃t,u=Value.float b t
 |.ref a,u=>u=Value.ref a
 |.ty n,u=>u=Value.type n
abbrev cC:List V->List Value->Prop:=Paired cz
theorem cC.length{xs:List V}{us:List Value}(r:cC xs us):xs.length=us.length:=Paired.length r
theorem cC.get:∀{xs:List V} {us:List Value} {i:Nat} {x:V},cC xs us->xs[i]?=some x->∃u,us[i]?=some u/\cz x u
 |_,_,_,_,.nil,e=>by simp at e
 |_,_,0,_,.cons r _,e=>by simp at e;subst e;exact⟨_,rfl,r⟩
 |_,_,i+1,x,.cons _ t,e=>by
  obtain⟨u,h1,h2⟩:=cC.get (i:=i) (x:=x) t (by simpa using e);exact⟨u,by simpa using h1,h2⟩
theorem cC.append:∀{xs ys:List V} {us ws:List Value},cC xs us->cC ys ws->cC (xs++ys) (us++ws)
 |_,_,_,_,.nil,s=>s
 |_,_,_,_,.cons r t,s=>.cons r (cC.append t s)
theorem cC.take:∀{xs:List V} {us:List Value} (n:Nat),cC xs us->cC (xs.take n) (us.take n)
 |_,_,0,_=>.nil
 |_,_,_+1,.nil=>.nil
 |_,_,n+1,.cons r t=>.cons r (cC.take n t)
theorem cC.drop:∀{xs:List V} {us:List Value} (n:Nat),cC xs us->cC (xs.drop n) (us.drop n)
 |_,_,0,r=>r
 |_,_,_+1,.nil=>.nil
 |_,_,n+1,.cons _ t=>cC.drop n t
def jy:Option V->Option Value->Prop
 |some v,some u=>cz v u
 |none,none=>True
 |_,_=>False
def KV{κ:Type}:List (κ×V)->List (κ×Value)->Prop:=Paired λ(p:κ×V) (q:κ×Value)=>p.1=q.1/\cz p.2 q.2
def kV:fo->V
 |.inl i=>.int i
 |.inr x=>.str x
inductive HO where
 |de (xs:List V)
 |iQ (xs:List V)
 |dK (a4:List (fo×V)) |dT (a4:List (List fo×V))
 |set (S:Int->Bool) (n:Nat)
 |g9 (C dx:Addr) (fs:List (Str×V))
 |own (x:Addr)
 |xd (fs:List (Str×V))
 |Ur (f x:Addr)
 |Us (lo hi:Int)
 |sX (o:Obj) (u:HO)
 |KJ (ps:Array Value)
 |ext (φ:Heap->Prop)
abbrev Hp:=Addr->Option HO
def dE(H:Hp)(a:Addr)(o:HO):Hp:=λb=>if b=a then some o else H b
theorem aC{H:Hp}{a:Addr}{o:HO}:dE H a o a=some o:=by unfold dE;rw[if_pos rfl]
theorem aB{H:Hp}{a b:Addr}{o:HO}(h:b≠a):dE H a o b=H b:=by unfold dE;rw[if_neg h]
theorem KL{H:Hp}{a:Addr}{o u:HO}:dE (dE H a o) a u=dE H a u:=by
 funext b;unfold dE;split <;> rfl
theorem sZ{H:Hp}{a b:Addr}{o u:HO}(h:H a=some o)(h':H b=some u)(d:o≠u):a≠b:=by
 intro e;subst e;rw[h] at h';exact d (Option.some.inj h')
theorem bJ{H:Hp}{a b:Addr}{o:HO}(h:H a=some o)(h':H b=none):a≠b:=by
 intro e;subst e;rw[h] at h';cases h'
section
variable(P:Program)(w:World)
def cB(H:Hp)(h:Heap)(a:Addr):HO->Prop
 |.de xs=>xs.length<=sizeLine/\∃(cp:List Value) (n:Nat),cC xs cp/\h.get? a=some {cls:=.type "list",data:=.seq cp.toArray n}
 |.iQ xs=>xs.length<=sizeLine/\∃cp:List Value,cC xs cp/\IsTup h a cp.toArray
 |.dK a4=>a4.length<=sizeLine/\(a == sysModules)=false/\∃vs,KV a4 vs/\h.DictOf (f6 P w) a vs
 |.dT a4=>a4.length<=sizeLine/\(a == sysModules)=false/\∃xs:List (List fo×Addr×Value),
   Paired (λ(p:List fo×V) (q:List fo×Addr×Value)=>p.1=q.1/\H q.2.1=some (.iQ (p.1.map kV))/\cz p.2 q.2.2) a4 xs /\
   ∃o es ep,h.get? a=some o/\o.ExactDict/\o.data=.dict es ep/\es.toList=xs.map (entryOfKey (tupleKind (f6 P w)))/\(xs.map (·.1)).Nodup
 |.set S n=>h.SetOf (intKind P w) a S n
 |.g9 C dx fs=>H dx=some (.own a)/\fs.length<=1000/\dx≠a/\h.get? a=some (PySem.W.instObj C dx) /\
   ∃mA,h.Ns1 dx mA/\(∀f,jy (fs.lookup f) (mA f))/\PySem.Within mA (fs.map (·.1))
 |.own _=>∃o,h.get? a=some o
 |.xd fs=>∃mA,h.Ns1 a mA/\∀f,jy (fs.lookup f) (mA f)
 |.Us lo hi=>∃t u v,h.get? a=some {cls:=.type "range",data:=.fields #[.int lo t,.int hi u,.int 1 v]}
 |.sX o u=>h.get? a=some o/\cB H h a u
 |.KJ ps=>h.get? a=some {cls:=.none,data:=.fields ps}
 |.Ur f x=>h.get? a=some (PySem.W.methodObj (.ref f) (.ref x))
 |.ext φ=>φ h/\(∃o,h.get? a=some o)/\∀h1 h2:Heap,φ h1->(∀o,h1.get? a=some o->h2.get? a=some o)->φ h2
def jz(H:Hp)(h:Heap):Prop:=∀a o,H a=some o->cB P w H h a o
end
section
variable{P:Program}{w:World}{H H':Hp}{h h':Heap}{a:Addr}{o:HO}
theorem cB.lt(x:cB P w H h a o):a<h.objs.size:=by
 cases o with
 |de xs=>obtain⟨_,_,_,_,e⟩:=x;exact Heap.lt_size e
 |iQ xs=>obtain⟨_,_,_,p⟩:=x;exact p.lt
 |dK a4=>obtain⟨_,_,_,_,o,_,_,e,_⟩:=x;exact Heap.lt_size e
 |dT a4=>obtain⟨_,_,_,_,o,_,_,e,_⟩:=x;exact Heap.lt_size e
 |set S n=>obtain⟨o,_,_,_,e,_⟩:=x;exact Heap.lt_size e
 |g9 C dx fs=>obtain⟨_,_,_,e,_⟩:=x;exact Heap.lt_size e
 |own y=>obtain⟨_,e⟩:=x;exact Heap.lt_size e
 |xd fs=>obtain⟨_,⟨_,_,_,e,_⟩,_⟩:=x;exact Heap.lt_size e
 |Us lo hi=>obtain⟨_,_,_,e⟩:=x;exact Heap.lt_size e
 |sX ob u=>obtain⟨e,_⟩:=x;exact Heap.lt_size e
 |KJ ps=>exact Heap.lt_size (show h.get? a=some _ from x)
 |Ur f y=>exact Heap.lt_size (show h.get? a=some _ from x)
 |ext φ=>obtain⟨_,⟨_,e⟩,_⟩:=x;exact Heap.lt_size e
theorem Paired.KN{α β:Type}{F G:α->β->Prop}:∀{l₁:List α} {l₂:List β},Paired F l₁ l₂->(∀a b,F a b->G a b)->Paired G l₁ l₂
 |_,_,.nil,_=>.nil
 |_,_,.cons r t,f=>.cons (f _ _ r) (Paired.KN t f)
theorem cB.rN(x:cB P w H h a o)(k:∀b u,(b=a\/H b=some (.own a))->h.get? b=some u->h'.get? b=some u)
  (ho:∀b,H b=some (.own a)->H' b=some (.own a))(ht:∀b xs,H b=some (.iQ xs)->H' b=some (.iQ xs)):cB P w H' h' a o:=by
 induction o with
 |de xs=>obtain⟨z,cp,n,r,e⟩:=x;exact⟨z,cp,n,r,k _ _ (.inl rfl) e⟩
 |iQ xs=>obtain⟨z,cp,r,ob,e,c⟩:=x;exact⟨z,cp,r,ob,k _ _ (.inl rfl) e,c⟩
 |dK a4=>obtain⟨z,y,vs,r,ob,es,ep,e,c⟩:=x;exact⟨z,y,vs,r,ob,es,ep,k _ _ (.inl rfl) e,c⟩
 |dT a4 =>
  obtain⟨z,y,xs,r,ob,es,ep,e,c⟩:=x;exact⟨z,y,xs,Paired.KN r λp q z=>⟨z.1,ht _ _ z.2.1,z.2.2⟩,ob,es,ep,k _ _ (.inl rfl) e,c⟩
 |set S n=>obtain⟨ob,es,ep,t,e,c⟩:=x;exact⟨ob,es,ep,t,k _ _ (.inl rfl) e,c⟩
 |g9 C dx fs =>
  obtain⟨d,z,ne,e,mA,⟨od,es,ep,e2,c⟩,r⟩:=x;exact⟨ho _ d,z,ne,k _ _ (.inl rfl) e,mA,⟨od,es,ep,k _ _ (.inr d) e2,c⟩,r⟩
 |own y=>obtain⟨ob,e⟩:=x;exact⟨ob,k _ _ (.inl rfl) e⟩
 |xd fs=>obtain⟨mA,⟨od,es,ep,e,c⟩,r⟩:=x;exact⟨mA,⟨od,es,ep,k _ _ (.inl rfl) e,c⟩,r⟩
 |Us lo hi=>obtain⟨t,u,v,e⟩:=x;exact⟨t,u,v,k _ _ (.inl rfl) e⟩
 |sX ob u ih=>obtain⟨e,q⟩:=x;exact⟨k _ _ (.inl rfl) e,ih q⟩
 |KJ ps =>
  have e:h.get? a=some {cls:=.none,data:=.fields ps}:=x;show h'.get? a=some {cls:=.none,data:=.fields ps};exact k a _ (.inl rfl) e
 |Ur f y =>
  have e:h.get? a=some (PySem.W.methodObj (.ref f) (.ref y)):=x;show h'.get? a=some (PySem.W.methodObj (.ref f) (.ref y));exact k a _ (.inl rfl) e
 |ext φ=>obtain⟨p,⟨o,e⟩,st⟩:=x;exact⟨st _ _ p λo q=>k _ _ (.inl rfl) q,⟨o,k _ _ (.inl rfl) e⟩,st⟩
theorem jz.lt(x:jz P w H h)(e:H a=some o):a<h.objs.size:=(x a o e).lt
theorem jz.fresh(x:jz P w H h)(e:h.objs.size<=a):H a=none:=by
 cases q:H a with
 |none=>rfl
 |some u=>exact absurd (Nat.lt_of_lt_of_le (x.lt q) e) (Nat.lt_irrefl _)
theorem jz.jd(x:jz P w H h)(k:∀b u,h.get? b=some u->h'.get? b=some u):jz P w H h':=λa o e =>
 (x a o e).rN (λb u _ q=>k b u q) (λ_ q=>q) λ_ _ q=>q
theorem jz.qg(x:jz P w H h)(k:∀b u,h.get? b=some u->h'.get? b=some u)(hp:h.objs.size<=a)(new:cB P w (dE H a o) h' a o):jz P w (dE H a o) h':=λb u e=>by
 have hn:=x.fresh hp
 by_cases hb:b=a
 ·subst hb;rw[aC] at e;cases e;exact new
 ·rw[aB hb] at e;exact(x b u e).rN (λc v _ q=>k c v q) (λc q=>by rw[aB (bJ q hn)];exact q) λc xs q=>by rw[aB (bJ q hn)];exact q
end
def Rd(H:Hp)(a:Addr)(u:HO):Prop:=H a=some u\/∃o,H a=some (.sX o u)
theorem Rd.ok{P:Program}{w:World}{H:Hp}{h:Heap}{a:Addr}{u:HO}(r:Rd H a u)(x:jz P w H h):cB P w H h a u:=by
 rcases r with r |⟨o,r⟩
 ·exact x a u r
 ·obtain⟨_,q⟩:=x a _ r;exact q
def Rx:Option HO->Prop
 |some (.de _)=>True
 |some (.dK _)=>True
 |some (.dT _)=>True
 |some (.set _ _)=>True
 |some (.g9 _ _ _)=>True
 |some (.ext _)=>True
 |_=>False
section
variable{P:Program}{w:World}{H:Hp}{h h':Heap}{x e:Addr}{o':HO}
theorem jz.lE(ok:jz P w H h)(mu:Rx (H x))(he:e=x\/H e=some (.own x))(k:∀b u,b≠e->h.get? b=some u->h'.get? b=some u)(QU:∃u,h'.get? e=some u)
  (new:cB P w (dE H x o') h' x o'):jz P w (dE H x o') h':=λb u q=>by
 have Ry:∀c y,H c=some (.own y)->c≠x:=λc y r z=>by subst z;rw[r] at mu;exact mu
 have Vb:∀c xs,H c=some (.iQ xs)->c≠x:=λc xs r z=>by subst z;rw[r] at mu;exact mu
 by_cases hb:b=x
 ·subst hb;rw[aC] at q;cases q;exact new
 ·rw[aB hb] at q
  by_cases KO:b=e
  ·have q':H b=some (.own x):=by
    rcases he with z |z
    ·exact absurd (KO.trans z) hb
    ·rw[KO];exact z
   rw[q] at q';cases q';obtain⟨v,hv⟩:=QU;exact⟨v,by rw[KO];exact hv⟩
  ·refine(ok b u q).rN (λc v hc r=>k c v ?_ r) (λc r=>by rw[aB (Ry c b r)];exact r) λc xs r=>by rw[aB (Vb c xs r)];exact r
   rcases hc with rfl |hc
   ·exact KO
   ·rintro rfl;rcases he with z |z
    ·exact Ry c b hc z
    ·rw[hc] at z;cases z;exact hb rfl
end
structure Un(fs ex:List Addr)(H H':Hp)(h h':Heap):Prop where
 keep:∀b o,h.get? b=some o->H b=none->b∉fs->b∉ex->h'.get? b=some o
 slot:∀b o,h.get? b=some o->H b=none->b∈fs->b∉ex->∃sl,h'.get? b=some {o with slots:=sl}
 free:∀b o,h.get? b=some o->H b=none->b∉ex->H' b=none
 there:∀b o,h.get? b=some o->b∉ex->∃o',h'.get? b=some o'
 oj:∀b xs,H b=some (.iQ xs)->H' b=some (.iQ xs)
 ni:∀b o u,H b=some (.sX o u)->H' b=some (.sX o u)
 om:∀b ps,H b=some (.KJ ps)->∃more,H' b=some (.KJ (ps++more))
section
variable{fs Ho ex ex':List Addr}{H H1 H2:Hp}{h h1 h2 h':Heap}{a x e:Addr}{o:HO}
theorem Un.any(u:Un fs ex H H1 h h1){b:Addr}{ob:Obj}(q:h.get? b=some ob)(n:H b=none)(hx:b∉ex):∃sl,h1.get? b=some {ob with slots:=sl}:=by
 by_cases hb:b∈fs
 ·exact u.slot b ob q n hb hx
 ·exact⟨ob.slots,u.keep b ob q n hb hx⟩
theorem Un.jd(k:∀b u,h.get? b=some u->h'.get? b=some u):Un fs ex H H h h' :=
 ⟨λb ob q _ _ _=>k b ob q,λb ob q _ _ _=>⟨ob.slots,k b ob q⟩,λ_ _ _ n _=>n,λb ob q _=>⟨ob,k b ob q⟩,λ_ _ q=>q,λ_ _ _ q=>q,λ_ ps q=>⟨#[],by rw[q];simp⟩⟩
theorem Un.refl:Un fs ex H H h h:=Un.jd λ_ _ q=>q
theorem Un.qg(k:∀b u,h.get? b=some u->h'.get? b=some u)(hp:h.objs.size<=a)(hn:H a=none):Un fs ex H (dE H a o) h h' where
 keep:=λb u q _ _ _=>k b u q
 slot:=λb u q _ _ _=>⟨u.slots,k b u q⟩
 free:=λb u q n _=>by rw[aB (Nat.ne_of_lt (Nat.lt_of_lt_of_le (Heap.lt_size q) hp))];exact n
 there:=λb u q _=>⟨u,k b u q⟩
 oj:=λb xs q=>by rw[aB (bJ q hn)];exact q
 ni:=λb u xs q=>by rw[aB (bJ q hn)];exact q
 om:=λb ps q=>⟨#[],by rw[aB (bJ q hn),q];simp⟩
theorem Un.lE(mu:Rx (H x))(he:e=x\/H e=some (.own x))(k:∀b u,b≠e->h.get? b=some u->h'.get? b=some u)(QU:∃u,h'.get? e=some u):Un fs ex H (dE H x o) h h':=by
 have hx:∀b,H b=none->b≠x:=λb n z=>by subst z;rw[n] at mu;exact mu
 have hb:∀b,H b=none->b≠e:=λb n z=>by
  subst z;rcases he with r |r
  ·exact hx b n r
  ·rw[n] at r;cases r
 have hm:∀b u,H b=some u->¬Rx (some u)->b≠x:=λb u q nm z=>by subst z;rw[q] at mu;exact nm mu
 refine⟨λb u q n _ _=>k b u (hb b n) q,λb u q n _ _=>⟨u.slots,k b u (hb b n) q⟩,λb u q n _=>by rw[aB (hx b n)];exact n,λb u q _=>?_,
  λb xs q=>by rw[aB (hm b _ q λz=>z)];exact q,λb u xs q=>by rw[aB (hm b _ q λz=>z)];exact q,λb ps q=>⟨#[],by rw[aB (hm b _ q λz=>z),q];simp⟩⟩
 by_cases KO:b=e
 ·subst KO;exact QU
 ·exact⟨u,k b u KO q⟩
end
def Ut(h:Heap)(H:Hp):List Addr:=(List.range h.objs.size).filter λa=>(H a).isSome
def tf(h:Heap)(H:Hp):Heap:=PySem.W.hideAll h (Ut h H)
theorem E8(h:Heap)(H:Hp):(tf h H).objs.size=h.objs.size:=PySem.W.hideAll_size _ _
theorem tj{h:Heap}{H:Hp}{b:Addr}{o:Obj}(e:h.get? b=some o)(n:H b=none):(tf h H).get? b=some o :=
 PySem.W.hideAll_get _ e λhm=>by
  have q:(H b).isSome=true:=(List.mem_filter.mp hm).2;rw[n] at q;simp at q
theorem KP{h:Heap}{H:Hp}{b:Addr}{o:Obj}(e:(tf h H).get? b=some o):h.get? b=some o/\H b=none:=by
 have e':h.get? b=some o:=PySem.W.of_hideAll (Ut h H) e;refine⟨e',?_⟩;cases q:H b with
 |none=>rfl
 |some x =>
  have hm:b∈Ut h H:=List.mem_filter.mpr ⟨List.mem_range.mpr (Heap.lt_size e'),by simp [q]⟩;have z:(tf h H).get? b=none:=PySem.W.hideAll_none (Ut h H) hm;rw[z] at e;cases e
end L2
namespace L2
open PySem PySem.Spec PyProof.Rows
structure Mod(K:Frag)(mg:Str->Option Value)(base:Heap):Prop where
 Oq:K.In base
 mK:base.Ns mainGlobals mg
 E9:∃mb,base.Ns builtinsNs mb/\∀x:Str,x≠"__name__"->mb x=bootBuiltins x
 nolimit:base.NoLimit
structure Cx where
 prog:Program
 w:World
 K:Frag
 mg:Str->Option Value
 base:Heap
 A:Around
 N:List Str
 tq:Shared
 Rz:Hp
 env:Env
 ai:List Env
 stack:List Env
 ex:List Addr
 fn:Str->Bool
 gB:Bool
 pn:List (Addr×Obj)
 xe:Value->Shared->Prop
def tu(l:List Env):List Addr:=l.filterMap (·.frame)
abbrev Cx.fs(X:Cx):List Addr:=tu X.ai
def uZ(sc:Scope)(x:Str):Prop:=sc.names.lookup x=some .local\/sc.names.lookup x=some .cell\/sc.names.lookup x=some .free
def DN(sc:Scope)(x:Str):Prop:=sc.names.lookup x=some .local\/sc.names.lookup x=some .cell
def RA(env:Env)(h:Heap)(m:Str->Option Value)(x:Str)(u:Value):Prop :=
 (env.kindOf x=some .local/\m x=some u)\/((env.kindOf x=some .cell\/env.kindOf x=some .free)/\∃c,env.cells.lookup x=some c/\h.IsCell c (some u))
structure Cx.Ok(X:Cx):Prop where
 mod:Mod X.K X.mg X.base
 kind:X.env.scope.kind=.function
 mK:X.env.globals=mainGlobals
 E9:X.env.builtins=builtinsNs
 above:X.tq.heap.objs.size<=X.env.locals
 inj:∀x y c,X.env.cells.lookup x=some c->X.env.cells.lookup y=some c->x=y
 has:∀x,(X.env.kindOf x=some .cell\/X.env.kindOf x=some .free)->∃c,X.env.cells.lookup x=some c
 Hq:∀x c,X.fn x=true->X.env.cells.lookup x=some c->X.tq.heap.objs.size<=c
 hd:X.gB=true->X.A.handled=none
 frames:X.A.frames=some X.stack
 Hr:X.stack=X.ai\/(X.stack=X.env::X.ai/\X.env.frame=some X.env.locals)
 Ky:∀b∈X.ex,b≠X.env.locals/\∀x c,X.env.cells.lookup x=some c->c≠b
 bs:∀b o,X.base.get? b=some o->X.tq.heap.get? b=some o/\X.Rz b=none
 BC:X.base.objs.size<=X.tq.heap.objs.size
 mL:∀b o,X.base.get? b=some o->b∉X.ex
 tw:∀b∈X.ex,b∉X.fs
 lu:X.tq.heap.FunFrames X.base X.ai
 Fa:∀b∈X.fs,X.Rz b=none
structure Inv(X:Cx)(pins:List (Addr×Obj))(σ:List (Option V))(H:Hp)(s:Shared):Prop where
 ok:X.Ok
 os:s.os=X.tq.os
 fF:AllBare s.gens
 base:Un X.fs X.ex X.Rz H X.tq.heap s.heap
 loc:∃m,s.heap.Ns X.env.locals m/\∀(i:Nat) (x:Str) (v:V),X.N[i]?=some x->σ[i]?=some (some v)->uZ X.env.scope x->∃u,cz v u/\RA X.env s.heap m x u
 cell:∀x c,X.env.cells.lookup x=some c->∃v,s.heap.IsCell c v
 free:H X.env.locals=none
 fT:∀x c,X.env.cells.lookup x=some c->H c=none
 fw:∀p∈X.pn++pins,s.heap.get? p.1=some p.2/\H p.1=none/\p.1≠X.env.locals/\p.1∉X.fs/\∀v,p.2.data≠.cell v
 hok:jz X.prog X.w H s.heap
 len:σ.length=X.N.length
section
variable{X:Cx}{pins:List (Addr×Obj)}{σ:List (Option V)}{H H':Hp}{s:Shared}{h':Heap}
theorem Cx.Ok.Vc(ok:X.Ok){b:Addr}{o:Obj}(e:X.base.get? b=some o):b∉X.fs:=λhb=>by
 have:=(ok.lu.mem hb).1;rw[e] at this;cases this
theorem Inv.bs(I:Inv X pins σ H s):∀b o,X.base.get? b=some o->s.heap.get? b=some o/\H b=none:=λb o e =>
 ⟨I.base.keep b o (I.ok.bs b o e).1 (I.ok.bs b o e).2 (I.ok.Vc e) (I.ok.mL b o e),I.base.free b o (I.ok.bs b o e).1 (I.ok.bs b o e).2 (I.ok.mL b o e)⟩
theorem Inv.bk(I:Inv X pins σ H s):∀b o,X.base.get? b=some o->s.heap.get? b=some o:=λb o e=>(I.bs b o e).1
theorem Inv.mod(I:Inv X pins σ H s):Mod X.K X.mg X.base:=I.ok.mod
theorem Inv.je(I:Inv X pins σ H s):X.K.In s.heap:=I.ok.mod.Oq.keeps I.bk
theorem Inv.nolimit(I:Inv X pins σ H s):s.heap.NoLimit:=I.ok.mod.nolimit.keeps I.bk
theorem Inv.lt(I:Inv X pins σ H s):X.env.locals<s.heap.objs.size:=let ⟨_,hn,_⟩:=I.loc;hn.lt
theorem Inv.sz(I:Inv X pins σ H s):X.tq.heap.objs.size<=s.heap.objs.size:=Nat.le_trans I.ok.above (Nat.le_of_lt I.lt)
theorem Inv.Vd(I:Inv X pins σ H s){a:Addr}(h:s.heap.objs.size<=a):a∉X.fs:=λhb=>by
 obtain⟨_,o,ho,_⟩:=I.ok.lu.mem hb;exact absurd (Nat.lt_of_lt_of_le (Heap.lt_size ho) (Nat.le_trans I.sz h)) (Nat.lt_irrefl _)
theorem Inv.KQ(I:Inv X pins σ H s):∀x c,X.env.cells.lookup x=some c->c≠X.env.locals:=λx c e z=>by
 obtain⟨v,o,ho,hd⟩:=I.cell x c e;obtain⟨m,⟨o',es,ep,Bu,DO,_⟩,_⟩:=I.loc;rw[z,Bu] at ho;cases ho;rw[DO] at hd;cases hd
theorem Inv.lu(I:Inv X pins σ H s):s.heap.FunFrames X.base X.ai:=by
 have all:∀(l:List Env),(∀b∈tu l,b∈X.fs)->X.tq.heap.FunFrames X.base l->s.heap.FunFrames X.base l:=by
  intro l
  induction l with
  |nil=>intro _ _;trivial
  |cons env r ih =>
   intro hs hl;obtain⟨hk,⟨L,o,hf,hn,ho,hd⟩,hr⟩:=hl;have hL:L∈X.fs:=hs L (by unfold tu;rw[List.filterMap_cons,hf];exact List.mem_cons_self);obtain⟨sl,e⟩:=I.base.slot L o ho (I.ok.Fa L hL) hL λz=>I.ok.tw L z hL;exact⟨hk,⟨L,_,hf,hn,e,hd⟩,ih (λb hb=>hs b (by unfold tu;rw[List.filterMap_cons,hf];exact List.mem_cons_of_mem _ hb)) hr⟩
 exact all X.ai (λ_ hb=>hb) I.ok.lu
theorem Inv.stack(I:Inv X pins σ H s):s.heap.FunFrames X.base X.stack:=by
 rcases I.ok.Hr with e |⟨e,hf⟩
 ·rw[e];exact I.lu
 ·rw[e];obtain⟨m,hn,_⟩:=I.loc;refine .cons (by rw[I.ok.kind];decide) hf hn ?_ I.lu;exact Heap.get?_none_of_le (Nat.le_trans I.ok.BC I.ok.above)
theorem Inv.xz(I:Inv X pins σ H s):∀b∈tu X.stack,b∈X.env.locals::X.fs:=λb hb=>by
 rcases I.ok.Hr with e |⟨e,hf⟩
 ·rw[e] at hb;exact List.mem_cons_of_mem _ hb
 ·rw[e] at hb;unfold tu at hb;rw[List.filterMap_cons,hf] at hb;exact hb
theorem Inv.oq(I:Inv X pins σ H s):∀b∈tu X.stack,H b=none:=λb hb=>by
 rcases List.mem_cons.mp (I.xz b hb) with e |hb
 ·rw[e];exact I.free
 ·obtain⟨_,o,ho,_⟩:=I.ok.lu.mem hb;exact I.base.free b o ho (I.ok.Fa b hb) λz=>I.ok.tw b z hb
theorem Inv.step{g':Array GenState}{t':Nat}{d':Drawn}{ch:List Addr}(I:Inv X pins σ H s)
  (Kz:∀b∈ch,(b∈X.ex\/X.tq.heap.objs.size<=b)/\b≠X.env.locals/\(∀x c,X.env.cells.lookup x=some c->c≠b)/\∀p∈X.pn++pins,p.1≠b)
  (keep:∀b o,b≠X.env.locals->b∉X.fs->b∉ch->s.heap.get? b=some o->H b=none->h'.get? b=some o)
  (slot:∀b o,b≠X.env.locals->b∈X.fs->b∉ch->s.heap.get? b=some o->H b=none->∃sl,h'.get? b=some {o with slots:=sl})(free:∀b o,b∉ch->s.heap.get? b=some o->H b=none->H' b=none)
  (there:∀b o,b∉ch->s.heap.get? b=some o->∃o',h'.get? b=some o')
  (oj:∀b xs,H b=some (.iQ xs)->H' b=some (.iQ xs))(ni:∀b o u,H b=some (.sX o u)->H' b=some (.sX o u))(om:∀b ps,H b=some (.KJ ps)->∃more,H' b=some (.KJ (ps++more)))
  (ns:∀m,s.heap.Ns X.env.locals m->h'.Ns X.env.locals m)(hok:jz X.prog X.w H' h')(hg:AllBare g') :
  Inv X pins σ H' {s with heap:=h',gens:=g',drawn:=d',toks:=t'}:=by
 have QV:∀b o,X.tq.heap.get? b=some o->b≠X.env.locals:=λb o e=>Nat.ne_of_lt (Nat.lt_of_lt_of_le (Heap.lt_size e) I.ok.above);have Ot:∀b o,X.tq.heap.get? b=some o->b∉X.ex->b∉ch:=λb o e hx hb=>by
  rcases(Kz b hb).1 with z |z
  ·exact hx z
  ·exact absurd (Nat.lt_of_lt_of_le (Heap.lt_size e) z) (Nat.lt_irrefl _)
 have cellK:∀x c,X.env.cells.lookup x=some c->∀v,s.heap.IsCell c v->h'.IsCell c v:=λx c e v ⟨o,ho,hd⟩=>by
  have RB:c∉ch:=λz=>(Kz c z).2.2.1 x c e rfl
  by_cases hc:c∈X.fs
  ·obtain⟨sl,q⟩:=slot c o (I.KQ x c e) hc RB ho (I.fT x c e);exact⟨_,q,hd⟩
  ·exact⟨o,keep c o (I.KQ x c e) hc RB ho (I.fT x c e),hd⟩
 refine⟨I.ok,I.os,hg,⟨λb o e n hb hx=>?_,λb o e n hb hx=>?_,λb o e n hx=>?_,λb o e hx=>?_,λb xs e=>oj b xs (I.base.oj b xs e),λb o xs e=>ni b o xs (I.base.ni b o xs e),λb ps e=>?_⟩,?_,λx c e=>?_,?_,λx c e=>?_,λp hp=>?_,hok,I.len⟩
 ·exact keep b o (QV b o e) hb (Ot b o e hx) (I.base.keep b o e n hb hx) (I.base.free b o e n hx)
 ·obtain⟨sl,e1⟩:=I.base.slot b o e n hb hx;obtain⟨Zd,e2⟩:=slot b _ (QV b o e) hb (Ot b o e hx) e1 (I.base.free b o e n hx);exact⟨Zd,e2⟩
 ·obtain⟨o',e1⟩:=I.base.there b o e hx;exact free b o' (Ot b o e hx) e1 (I.base.free b o e n hx)
 ·obtain⟨o',e1⟩:=I.base.there b o e hx;exact there b o' (Ot b o e hx) e1
 ·obtain⟨m1,e1⟩:=I.base.om b ps e;obtain⟨m2,e2⟩:=om b _ e1;exact⟨m1++m2,by rw[e2,Array.append_assoc]⟩
 ·obtain⟨m,hn,hl⟩:=I.loc;refine⟨m,ns m hn,λi x v e1 e2 e3=>?_⟩;obtain⟨u,r,l⟩:=hl i x v e1 e2 e3;refine⟨u,r,?_⟩;rcases l with l |⟨k,c,e,z⟩
  ·exact .inl l
  ·exact .inr ⟨k,c,e,cellK x c e _ z⟩
 ·obtain⟨v,z⟩:=I.cell x c e;exact⟨v,cellK x c e v z⟩
 ·obtain⟨m,⟨o,_,_,ho,_⟩,_⟩:=I.loc;exact free _ o (λz=>(Kz _ z).2.1 rfl) ho I.free
 ·obtain⟨v,o,ho,hd⟩:=I.cell x c e;exact free c o (λz=>(Kz c z).2.2.1 x c e rfl) ho (I.fT x c e)
 ·obtain⟨e,n,ne,nf,d⟩:=I.fw p hp;have RB:p.1∉ch:=λz=>(Kz p.1 z).2.2.2 p hp rfl;exact⟨keep p.1 p.2 ne nf RB e n,free p.1 p.2 RB e n,ne,nf,d⟩
theorem Inv.un{t':Nat}(I:Inv X pins σ H s)(u:Un X.fs [] H H' s.heap h')(hok:jz X.prog X.w H' h'):Inv X pins σ H' {s with heap:=h',toks:=t'}:=by
 obtain⟨m,⟨o,es,ep,ho,r⟩,_⟩:=id I.loc;obtain⟨sl,hL⟩:=u.any ho I.free (by simp);exact I.step (g':=s.gens) (d':=s.drawn) (ch:=[]) (λ_ z=>nomatch z) (λb o _ hb _ e n=>u.keep b o e n hb (by simp)) (λb o _ hb _ e n=>u.slot b o e n hb (by simp)) (λb o _ e n=>u.free b o e n (by simp)) (λb o _ e=>u.there b o e (by simp)) u.oj u.ni u.om (λm' hm=>by
  obtain⟨o',Uu,Ve,Bu,r'⟩:=hm;rw[ho] at Bu;cases Bu;exact⟨_,Uu,Ve,hL,r'⟩) hok I.fF
theorem Inv.call{g':Array GenState}{t':Nat}{d':Drawn}{ch:List Addr}(I:Inv X pins σ H s)(u:Un (tu X.stack) ch H H' s.heap h')(hok:jz X.prog X.w H' h')(hg:AllBare g')
  (Kz:∀b∈ch,(b∈X.ex\/X.tq.heap.objs.size<=b)/\b≠X.env.locals/\(∀x c,X.env.cells.lookup x=some c->c≠b)/\∀p∈X.pn++pins,p.1≠b) :
  Inv X pins σ H' {s with heap:=h',gens:=g',drawn:=d',toks:=t'}:=by
 obtain⟨m,⟨o,es,ep,ho,r⟩,_⟩:=id I.loc;obtain⟨sl,hL⟩:=u.any ho I.free λz=>(Kz _ z).2.1 rfl;exact I.step (ch:=ch) Kz (λb o hL hb hc e n=>u.keep b o e n (λz=>(List.mem_cons.mp (I.xz b z)).elim hL hb) hc) (λb o _ _ hc e n=>u.any e n hc) (λb o hc e n=>u.free b o e n hc) (λb o hc e=>u.there b o e hc) u.oj u.ni u.om (λm' hm=>by
  obtain⟨o',Uu,Ve,Bu,r'⟩:=hm;rw[ho] at Bu;cases Bu;exact⟨_,Uu,Ve,hL,r'⟩) hok hg
theorem Inv.jf{t':Nat}{it:Addr}(I:Inv X pins σ H s)(k:∀b o,b≠it->s.heap.get? b=some o->h'.get? b=some o)(hn:H it=none)(hL:it≠X.env.locals)
  (h1:it∈X.ex\/X.tq.heap.objs.size<=it)(h2:∀x c,X.env.cells.lookup x=some c->c≠it)(h3:∀p∈X.pn++pins,p.1≠it):Inv X pins σ H {s with heap:=h',toks:=t'}:=by
 have XN:∀b u,H b=some u->b≠it:=λb u e z=>by rw[z,hn] at e;cases e
 refine I.step (g':=s.gens) (d':=s.drawn) (ch:=[it]) (λb hb=>?_) (λb o _ _ hc e _=>k b o (λz=>hc (by simp [z])) e) (λb o _ _ hc e _=>⟨o.slots,k b o (λz=>hc (by simp [z])) e⟩) (λ_ _ _ _ n=>n)
  (λb o hc e=>⟨o,k b o (λz=>hc (by simp [z])) e⟩) (λ_ _ e=>e) (λ_ _ _ e=>e) (λb ps e=>⟨#[],by rw[e];simp⟩) (λm hm=>?_) (λb u e=>?_) I.fF
 ·have e:b=it:=by simpa using hb
  subst e;exact⟨h1,hL,h2,h3⟩
 ·obtain⟨o,es,ep,ho,r⟩:=hm;exact⟨o,es,ep,k _ o (Ne.symm hL) ho,r⟩
 ·refine(I.hok b u e).rN (λc v hc q=>k c v ?_ q) (λ_ q=>q) λ_ _ q=>q;rcases hc with z |z
  ·rw[z];exact XN b u e
  ·exact XN c _ z
theorem Inv.tok(I:Inv X pins σ H s)(t:Nat):Inv X pins σ H {s with toks:=t}:=I.un (h':=s.heap) (t':=t) Un.refl I.hok
theorem Inv.jd{t':Nat}(I:Inv X pins σ H s)(k:∀b u,s.heap.get? b=some u->h'.get? b=some u):Inv X pins σ H {s with heap:=h',toks:=t'}:=I.un (Un.jd k) (I.hok.jd k)
theorem Inv.qg{a:Addr}{o:HO}{t':Nat}(I:Inv X pins σ H s)(k:∀b u,s.heap.get? b=some u->h'.get? b=some u)(hp:s.heap.objs.size<=a)(new:cB X.prog X.w (dE H a o) h' a o) :
  Inv X pins σ (dE H a o) {s with heap:=h',toks:=t'}:=I.un (Un.qg k hp (I.hok.fresh hp)) (I.hok.qg k hp new)
theorem Inv.lE{x e:Addr}{o:HO}{t':Nat}(I:Inv X pins σ H s)(mu:Rx (H x))(he:e=x\/H e=some (.own x))(k:∀b u,b≠e->s.heap.get? b=some u->h'.get? b=some u)(QU:∃u,h'.get? e=some u)
  (new:cB X.prog X.w (dE H x o) h' x o):Inv X pins σ (dE H x o) {s with heap:=h',toks:=t'}:=I.un (Un.lE mu he k QU) (I.hok.lE mu he k QU new)
theorem Inv.RC{σ':List (Option V)}(I:Inv X pins σ H s)(hl:σ'.length=σ.length)(w:∀(i:Nat) v,σ'[i]?=some (some v)->σ[i]?=some (some v)):Inv X pins σ' H s :=
 ⟨I.ok,I.os,I.fF,I.base,let ⟨m,hn,Fc⟩:=I.loc;⟨m,hn,λi x v e1 e2 e3=>Fc i x v e1 (w i v e2) e3⟩,I.cell,I.free,I.fT,I.fw,I.hok,hl.trans I.len⟩
theorem Inv.oA{vT:List (Addr×Obj)}(I:Inv X pins σ H s)(h:∀p∈vT,s.heap.get? p.1=some p.2/\H p.1=none/\p.1≠X.env.locals/\p.1∉X.fs/\∀v,p.2.data≠.cell v):Inv X vT σ H s :=
 ⟨I.ok,I.os,I.fF,I.base,I.loc,I.cell,I.free,I.fT,λp hp=>(List.mem_append.mp hp).elim (λz=>I.fw p (List.mem_append_left _ z)) (h p),I.hok,I.len⟩
theorem oB{N:List Str}(hN:N.Nodup){i j:Nat}{x:Str}(a:N[i]?=some x)(b:N[j]?=some x):i=j:=by
 obtain⟨h1,e1⟩:=List.getElem?_eq_some_iff.mp a;obtain⟨h2,e2⟩:=List.getElem?_eq_some_iff.mp b;exact(List.getElem_inj hN).mp (e1.trans e2.symm)
theorem Fd{M:Model}{A:Around}{E:Value->Shared->Prop}{i:Nat}{x:Str}{v:V}{u:Value}{Q:Unit->Shared->Prop}(I:Inv X pins σ H s)(hN:X.N.Nodup)(hi:X.N[i]?=some x)(hx:DN X.env.scope x)(r:cz v u)
  (h:∀s',Inv X pins (σ.set i (some v)) H s'->(∃a,Heap.SameBut a s.heap s'.heap/\(a=X.env.locals\/X.env.cells.lookup x=some a))->Q () s')(hf:X.fn x=true\/X.env.scope.names.lookup x=some .local:=by first |exact .inl rfl |exact .inr rfl |assumption):wpAny M A (storeName X.env x u) Q E s:=by
 obtain⟨m,hn,hl⟩:=id I.loc;have Ou:(X.env.scope.kind == .class || (X.env.scope.kind == .module && X.env.locals != X.env.globals))=false:=by rw[I.ok.kind];rfl
 have hiσ:i<σ.length:=by rw[I.len];exact(List.getElem?_eq_some_iff.mp hi).1
 have KQ:=I.KQ;have tracked:∀{a:Addr} {h':Heap},(∃o,s.heap.get? a=some o/\H a=none)->Heap.SameBut a s.heap h'->jz X.prog X.w H h':=λ{a h'} ha hs b ob e=>by
  obtain⟨_,_,vU⟩:=ha;refine(I.hok b ob e).rN (λc w' hc q=>(hs.2 c ?_).trans q) (λ_ q=>q) λ_ _ q=>q;rintro rfl;rcases hc with rfl |hc
  ·rw[vU] at e;cases e
  ·rw[vU] at hc;cases hc
 rcases hx with hk |hk
 ·refine wpAny_storeName_local hk hn (λh' Fe hs=>?_) Ou;obtain⟨oL,_,_,Ze,_⟩:=id hn;refine h _ ⟨I.ok,I.os,I.fF,⟨λb o e n hb hx=>?_,λb o e n hb hx=>?_,I.base.free,λb o e hx=>?_,I.base.oj,I.base.ni,I.base.om⟩,⟨_,Fe,λj y v' e1 e2 e3=>?_⟩,λy c e=>?_,I.free,I.fT,λp hp=>?_,tracked ⟨oL,Ze,I.free⟩ hs,by simpa using I.len⟩ ⟨_,hs,.inl rfl⟩
  ·exact(hs.2 b (Nat.ne_of_lt (Nat.lt_of_lt_of_le (Heap.lt_size e) I.ok.above))).trans (I.base.keep b o e n hb hx)
  ·obtain⟨sl,e1⟩:=I.base.slot b o e n hb hx;exact⟨sl,(hs.2 b (Nat.ne_of_lt (Nat.lt_of_lt_of_le (Heap.lt_size e) I.ok.above))).trans e1⟩
  ·obtain⟨o',e1⟩:=I.base.there b o e hx;exact⟨o',(hs.2 b (Nat.ne_of_lt (Nat.lt_of_lt_of_le (Heap.lt_size e) I.ok.above))).trans e1⟩
  ·by_cases hj:j=i
   ·subst hj;rw[hi] at e1;cases e1;rw[List.getElem?_set_self hiσ] at e2;cases e2;exact⟨u,r,.inl ⟨hk,by simp⟩⟩
   ·rw[List.getElem?_set_ne (Ne.symm hj)] at e2;obtain⟨u',r',q⟩:=hl j y v' e1 e2 e3;refine⟨u',r',?_⟩;rcases q with ⟨k,e⟩ |⟨k,c,e,z⟩
    ·refine .inl ⟨k,?_⟩;have:y≠x:=λe=>hj (oB hN e1 (e ▸ hi));simp [this,e]
    ·exact .inr ⟨k,c,e,z.sameBut hs (KQ y c e)⟩
  ·obtain⟨w',z⟩:=I.cell y c e;exact⟨w',z.sameBut hs (KQ y c e)⟩
  ·obtain⟨e,n,ne,nf,d⟩:=I.fw p hp;exact⟨(hs.2 p.1 ne).trans e,n,ne,nf,d⟩
 ·have Vf:X.fn x=true:=by
   rcases hf with z |z
   ·exact z
   ·rw[z] at hk;cases hk
  obtain⟨c,hc⟩:=I.ok.has x (.inl hk);obtain⟨w',z⟩:=I.cell x c hc;refine wpAny_storeName_cell I.ok.kind hk hc z (λh' RD hs=>?_);obtain⟨oc,XO,Vg⟩:=id z;refine h {s with heap:=h'} ⟨I.ok,I.os,I.fF,⟨λb o e n hb hx=>?_,λb o e n hb hx=>?_,I.base.free,λb o e hx=>?_,I.base.oj,I.base.ni,I.base.om⟩,⟨m,hn.sameBut hs (Ne.symm (KQ x c hc)),λj y v' e1 e2 e3=>?_⟩,λy c' e=>?_,I.free,I.fT,λp hp=>?_,tracked ⟨oc,XO,I.fT x c hc⟩ hs,by simpa using I.len⟩ ⟨c,hs,.inr hc⟩
  ·exact(hs.2 b (Nat.ne_of_lt (Nat.lt_of_lt_of_le (Heap.lt_size e) (I.ok.Hq x c Vf hc)))).trans (I.base.keep b o e n hb hx)
  ·obtain⟨sl,e1⟩:=I.base.slot b o e n hb hx;exact⟨sl,(hs.2 b (Nat.ne_of_lt (Nat.lt_of_lt_of_le (Heap.lt_size e) (I.ok.Hq x c Vf hc)))).trans e1⟩
  ·obtain⟨o',e1⟩:=I.base.there b o e hx;exact⟨o',(hs.2 b (Nat.ne_of_lt (Nat.lt_of_lt_of_le (Heap.lt_size e) (I.ok.Hq x c Vf hc)))).trans e1⟩
  ·by_cases hj:j=i
   ·subst hj;rw[hi] at e1;cases e1;rw[List.getElem?_set_self hiσ] at e2;cases e2;exact⟨u,r,.inr ⟨.inl hk,c,hc,RD⟩⟩
   ·rw[List.getElem?_set_ne (Ne.symm hj)] at e2;obtain⟨u',r',q⟩:=hl j y v' e1 e2 e3;refine⟨u',r',?_⟩;rcases q with q |⟨k,c',e,z'⟩
    ·exact .inl q
    ·refine .inr ⟨k,c',e,z'.sameBut hs ?_⟩;rintro rfl;exact hj (oB hN e1 (I.ok.inj _ _ _ e hc ▸ hi))
  ·by_cases QW:c'=c
   ·subst QW;exact⟨_,RD⟩
   ·obtain⟨w2,z2⟩:=I.cell y c' e;exact⟨w2,z2.sameBut hs QW⟩
  ·obtain⟨e,n,ne,nf,d⟩:=I.fw p hp;refine⟨(hs.2 p.1 ?_).trans e,n,ne,nf,d⟩;intro q;rw[q,XO] at e;have q':oc=p.2:=Option.some.inj e;exact d w' (by rw[<-q'];exact Vg)
theorem lF{M:Model}{A:Around}{E:Value->Shared->Prop}{i:Nat}{x:Str}{v:V}{u:Value}{Q:Unit->Shared->Prop}(I:Inv X pins σ H s)(hN:X.N.Nodup)(hi:X.N[i]?=some x)(hx:DN X.env.scope x)(r:cz v u)
  (h:∀s',Inv X pins (σ.set i (some v)) H s'->Q () s')(hf:X.fn x=true\/X.env.scope.names.lookup x=some .local:=by first |exact .inl rfl |exact .inr rfl |assumption):wpAny M A (storeName X.env x u) Q E s :=
 Fd I hN hi hx r (λs' I' _=>h s' I') hf
theorem Inv.zp{s':Shared}{ch:List Addr}(I:Inv X pins σ H s)(ho:s'.os=s.os)(u:Un (tu X.stack) ch H H' s.heap s'.heap)(hok:jz X.prog X.w H' s'.heap)(hg:AllBare s'.gens)
  (Kz:∀b∈ch,(b∈X.ex\/X.tq.heap.objs.size<=b)/\b≠X.env.locals/\(∀x c,X.env.cells.lookup x=some c->c≠b)/\∀p∈X.pn++pins,p.1≠b):Inv X pins σ H' s':=by
 obtain⟨h',g',d',t',o'⟩:=s';have e:o'=s.os:=ho;subst e;exact I.call (g':=g') (t':=t') (d':=d') u hok hg Kz
end
abbrev XK:=Value->Option Addr->Hp->Prop
abbrev St:=List (Option V)
abbrev VK:=V->Hp->Prop
abbrev TE:=St->Hp->VK->Prop
abbrev TT:=St->Hp->(Bool->Hp->Prop)->Prop
abbrev TA:=St->Hp->(List V->Hp->Prop)->Prop
structure cT where
 nx:St->Hp->Prop
 rt:VK
 bk:St->Hp->Prop:=λ_ _=>False
 ct:St->Hp->Prop:=λ_ _=>False
abbrev TS:=cT->St->Hp->Prop
def EP(X:Cx)(pins:List (Addr×Obj))(σ:St)(Q:VK)(u:Value)(s':Shared):Prop:=∃v H',Inv X pins σ H' s'/\cz v u/\Q v H'
def TP(X:Cx)(pins:List (Addr×Obj))(σ:St)(Q:Bool->Hp->Prop)(b:Bool)(s':Shared):Prop:=∃H',Inv X pins σ H' s'/\Q b H'
def AP(X:Cx)(pins:List (Addr×Obj))(σ:St)(Q:List V->Hp->Prop)(us:List Value)(s':Shared):Prop:=∃vs H',Inv X pins σ H' s'/\cC vs us/\Q vs H'
def SP(X:Cx)(pins:List (Addr×Obj))(D:cT)(f:Flow)(s':Shared):Prop :=
 match f with
 |.next=>∃σ' H',Inv X pins σ' H' s'/\D.nx σ' H'
 |.brk=>∃σ' H',Inv X pins σ' H' s'/\D.bk σ' H'
 |.cont=>∃σ' H',Inv X pins σ' H' s'/\D.ct σ' H'
 |.ret u=>∃v σ' H',Inv X pins σ' H' s'/\cz v u/\D.rt v H'
def PE(X:Cx)(e:Expr)(t:TE):Prop :=
 ∀(pins:List (Addr×Obj)) (s:Shared) (σ:St) (H:Hp) (Q:VK),Inv X pins σ H s->t σ H Q->wpAny (model X.prog X.w) X.A (eval e X.env) (EP X pins σ Q) X.xe s
def PT(X:Cx)(e:Expr)(t:TT):Prop :=
 ∀(pins:List (Addr×Obj)) (s:Shared) (σ:St) (H:Hp) (Q:Bool->Hp->Prop),Inv X pins σ H s->t σ H Q->wpAny (model X.prog X.w) X.A (isTrue e X.env (eval e X.env)) (TP X pins σ Q) X.xe s
def PW(X:Cx)(e:Expr)(t:TT):Prop :=
 ∀(ap:Sem Value) (pins:List (Addr×Obj)) (s:Shared) (σ:St) (H:Hp) (Q:Bool->Hp->Prop),Inv X pins σ H s->t σ H Q->wpAny (model X.prog X.w) X.A (isTrue e X.env ap) (TP X pins σ Q) X.xe s
theorem PW.pt{X:Cx}{e:Expr}{t:TT}(h:PW X e t):PT X e t:=h _
def PA(X:Cx)(es:List Expr)(t:TA):Prop :=
 ∀(pos:Pos) (pins:List (Addr×Obj)) (s:Shared) (σ:St) (H:Hp) (Q:List V->Hp->Prop),Inv X pins σ H s->t σ H Q->wpAny (model X.prog X.w) X.A (spliced (backTo pos (starEach es X.env))) (AP X pins σ Q) X.xe s
def PS(X:Cx)(st:Stmt)(t:TS):Prop :=
 ∀(pins:List (Addr×Obj)) (s:Shared) (σ:St) (H:Hp) (D:cT),Inv X pins σ H s->t D σ H->wpAny (model X.prog X.w) X.A (exec st X.env) (SP X pins D) X.xe s
def vV(X:Cx)(st:List Stmt)(t:TS):Prop :=
 ∀(pins:List (Addr×Obj)) (s:Shared) (σ:St) (H:Hp) (D:cT),Inv X pins σ H s->t D σ H->wpAny (model X.prog X.w) X.A (execs st X.env) (SP X pins D) X.xe s
theorem dB{α:Type}{t:Sem α}{Q Q':α->Shared->Prop}{M:Model}{A:Around}{E:Value->Shared->Prop}{s:Shared}(h:wpAny M A t Q E s)(hQ:∀a s,Q a s->Q' a s):wpAny M A t Q' E s:=wpAny_mono h hQ λ_ _ x=>x
end L2
namespace L2
open PySem PySem.Spec PyProof.Rows
section
variable{X:Cx}
def BD(i:Nat):TE:=λσ H Q=>∃v,σ[i]?=some (some v)/\Q v H
def tC(v:V):TE:=λ_ H Q=>Q v H
theorem gC{i:Nat}{x:Str}{pos:Pos}(hN:X.N[i]?=some x)(hv:uZ X.env.scope x)(hd:(x == ("__debug__":Str))=false:=by decide)(lA:(x == ("__classdict__":Str))=false:=by decide):PE X (.Name x pos) (BD i):=by
 intro pins s σ H Q I h;obtain⟨v,e,h⟩:=h;obtain⟨m,hn,hl⟩:=I.loc;obtain⟨u,r,l⟩:=hl i x v hN e hv;have fin:EP X pins σ Q u s:=⟨v,H,I,r,h⟩
 rcases l with ⟨hk,hm⟩ |⟨hk,c,hc,DP⟩
 ·exact wpAny_Name (wpAny_loadName_local I.ok.kind hk hn hm fin) hd
 ·rcases hk with hk |hk
  ·exact wpAny_Name (wpAny_loadName_cell I.ok.kind hk hc DP fin) hd
  ·exact wpAny_Name (wpAny_loadName_free I.ok.kind hk hc DP fin lA) hd
theorem Ov{i j pos}:PE X (.Constant (.int i) j pos) (tC (.int i)):=λ_ _ _ H _ I h=>wpAny_Constant_int ⟨.int i,H,I.tok _,⟨_,rfl⟩,h⟩
theorem RE{b j pos}:PE X (.Constant (.bool b) j pos) (tC (.bl b)):=λ_ _ _ H _ I h=>Constant_bool ⟨.bl b,H,I,rfl,h⟩
theorem Ht{j pos}:PE X (.Constant .none j pos) (tC .dH):=λ_ _ _ H _ I h=>Constant_none ⟨.dH,H,I,rfl,h⟩
theorem Ow{x j pos}:PE X (.Constant (.str x) j pos) (tC (.str x)):=λ_ _ _ H _ I h=>Calls.Constant_str ⟨.str x,H,I.tok _,⟨_,rfl⟩,h⟩
def Gl(X:Cx)(x:Str):Prop:=X.env.kindOf x=some .globalImplicit
theorem kL{E:Value->Shared->Prop}{pins:List (Addr×Obj)}{s:Shared}{σ:St}{H:Hp}{x:Str}{u:Value}{pos:Pos}{Q:Value->Shared->Prop}(I:Inv X pins σ H s)(hg:Gl X x)(hm:X.mg x=some u)(h:Q u s)
  (hd:(x == ("__debug__":Str))=false:=by decide):wpAny (model X.prog X.w) X.A (eval (.Name x pos) X.env) Q E s :=
 Calls.Name_function_global I.ok.kind hg (Calls.loadGlobal_global (by rw[I.ok.mK];exact I.mod.mK.keeps I.bk) hm h) hd
theorem xA{E:Value->Shared->Prop}{pins:List (Addr×Obj)}{s:Shared}{σ:St}{H:Hp}{x:Str}{u:Value}{pos:Pos}{Q:Value->Shared->Prop}(I:Inv X pins σ H s)(hg:Gl X x)(hm:X.mg x=none)(hv:bootBuiltins x=some u)(h:Q u s)
  (hn:x≠"__name__":=by decide)(hd:(x == ("__debug__":Str))=false:=by decide):wpAny (model X.prog X.w) X.A (eval (.Name x pos) X.env) Q E s:=by
 obtain⟨mb,h1,h2⟩:=I.mod.E9;exact Calls.Name_function_global I.ok.kind hg (Calls.loadGlobal_builtin (by rw[I.ok.mK];exact I.mod.mK.keeps I.bk) hm (by rw[I.ok.E9];exact h1.keeps I.bk) ((h2 x hn).trans hv) h) hd
theorem rY{x:Str}{v:V}{u:Value}{pos:Pos}(hg:Gl X x)(hm:X.mg x=some u)(r:cz v u)(hd:(x == ("__debug__":Str))=false:=by decide):PE X (.Name x pos) (tC v) :=
 λ_ _ _ H _ I h=>kL I hg hm ⟨v,H,I,r,h⟩ hd
variable{a b:Expr}{ta tb:TE}{pos:Pos}
def PC(X:Cx)(op:CmpOp)(a b:Expr)(t:TE):Prop :=
 ∀(pins:List (Addr×Obj)) (s:Shared) (σ:St) (H:Hp) (Q:VK),Inv X pins σ H s->t σ H Q ->
  wpAny (model X.prog X.w) X.A (eval a X.env) (λv s₁=>wpAny (model X.prog X.w) X.A (eval b X.env) (λu s₂=>wpAny (model X.prog X.w) X.A (compareOp op v u) (EP X pins σ Q) X.xe s₂) X.xe s₁) X.xe s
def tB(t:TE):TT:=λσ H Q=>t σ H λx H1=>∃c,x=.bl c/\Q c H1
theorem Hu{op:CmpOp}{t:TE}(h:PC X op a b t)(h1:behindInMarks op b=false:=by first |exact RF _ d_ d_ |rfl):PT X (.Compare a [op] [b] pos) (tB t):=by
 intro pins s σ H Q I hw;refine wpAny_isTrue_Compare1 (dB (h pins s σ H _ I hw) λv s1 h1=>dB h1 λu s2 h2=>dB h2 λc s3 ⟨x,H1,I1,r1,q1⟩=>?_) h1;obtain⟨d,rfl,q⟩:=q1;cases r1;exact wpAny_truthy_bool ⟨H1,I1,q⟩
theorem Ox{e:Expr}{t:TE}(h:PE X e t)(he:∀ap,isTrue e X.env ap=(do let v<-ap;standAt e.pos;holding [v] (truthy v)):=by intro _;rfl):PT X e (tB t):=by
 intro pins s σ H Q I hw;refine isTrue_plain (dB (h pins s σ H _ I hw) λv s1 ⟨x,H1,I1,r1,q1⟩=>?_) (he _);obtain⟨d,rfl,q⟩:=q1;cases r1;exact wpAny_truthy_bool ⟨H1,I1,q⟩
variable{tA Uv:TT}{rest:List Expr}
def Vh(t u:TT):TT:=λσ H Q=>t σ H λc H1=>if c=true then u σ H1 Q else Q false H1
def Zf(t u:TT):TT:=λσ H Q=>t σ H λc H1=>if c=true then Q true H1 else u σ H1 Q
def Vj(t:TT):TT:=λσ H Q=>t σ H λc H1=>Q (!c) H1
theorem KR(ha:PT X a tA):PW X (.BoolOp .And [a] pos) tA:=by
 intro wh pins s σ H Q I h;refine isTrue_and (dB (ha pins s σ H Q I h) λc s1 e=>?_);cases c with
 |true=>exact isTrue_and_nil e
 |false=>exact e
theorem Hw(ha:PT X a tA):PW X (.BoolOp .Or [a] pos) tA:=by
 intro wh pins s σ H Q I h;refine isTrue_or (dB (ha pins s σ H Q I h) λc s1 e=>?_);cases c with
 |false=>exact isTrue_or_nil e
 |true=>exact e
theorem Oy(ha:PT X a tA)(hb:PW X (.BoolOp .And (b::rest) pos) Uv):PW X (.BoolOp .And (a::b::rest) pos) (Vh tA Uv):=by
 intro wh pins s σ H Q I h;refine isTrue_and (dB (ha pins s σ H _ I h) λc s1 ⟨H1,I1,q1⟩=>?_);cases c with
 |true=>exact hb wh pins s1 σ H1 Q I1 q1
 |false=>exact⟨H1,I1,q1⟩
theorem Hx(ha:PT X a tA)(hb:PW X (.BoolOp .Or (b::rest) pos) Uv):PW X (.BoolOp .Or (a::b::rest) pos) (Zf tA Uv):=by
 intro wh pins s σ H Q I h;refine isTrue_or (dB (ha pins s σ H _ I h) λc s1 ⟨H1,I1,q1⟩=>?_);cases c with
 |true=>exact⟨H1,I1,q1⟩
 |false=>exact hb wh pins s1 σ H1 Q I1 q1
theorem Oz(ha:PT X a tA):PT X (.UnaryOp .Not a pos) (Vj tA):=by
 intro pins s σ H Q I h;exact isTrue_not (ha pins s σ H (λc H1=>Q (!c) H1) I h)
def RG(ta tb:TE):TE:=λσ H Q=>ta σ H λx H1=>∃c,x=.bl c/\if c=true then tb σ H1 Q else Q (.bl false) H1
def Vk(ta tb:TE):TE:=λσ H Q=>ta σ H λx H1=>∃c,x=.bl c/\if c=true then Q (.bl true) H1 else tb σ H1 Q
def RH(ta:TE):TE:=λσ H Q=>ta σ H λx H1=>∃c,x=.bl c/\Q (.bl (!c)) H1
theorem OA{op}{t:TE}(h:PE X a t):PE X (.BoolOp op [a] pos) t:=λpins s σ H Q I hw=>BoolOp_one (h pins s σ H Q I hw)
theorem OB(ha:PE X a ta)(hb:PE X (.BoolOp .And (b::rest) pos) tb):PE X (.BoolOp .And (a::b::rest) pos) (RG ta tb):=by
 intro pins s σ H Q I h;refine BoolOp_and (dB (ha pins s σ H _ I h) λv s1 ⟨x,H1,I1,r1,q1⟩=>?_);obtain⟨c,rfl,q1⟩:=q1;cases r1;refine wpAny_truthy_bool ?_;cases c with
 |true=>exact hb pins s1 σ H1 Q I1 q1
 |false=>exact⟨.bl false,H1,I1,rfl,q1⟩
theorem Nz(ha:PE X a ta)(hb:PE X (.BoolOp .Or (b::rest) pos) tb):PE X (.BoolOp .Or (a::b::rest) pos) (Vk ta tb):=by
 intro pins s σ H Q I h;refine BoolOp_or (dB (ha pins s σ H _ I h) λv s1 ⟨x,H1,I1,r1,q1⟩=>?_);obtain⟨c,rfl,q1⟩:=q1;cases r1;refine wpAny_truthy_bool ?_;cases c with
 |false=>exact hb pins s1 σ H1 Q I1 q1
 |true=>exact⟨.bl true,H1,I1,rfl,q1⟩
theorem OC(ha:PE X a ta):PE X (.UnaryOp .Not a pos) (RH ta):=by
 intro pins s σ H Q I h;refine UnaryOp_ (dB (ha pins s σ H _ I h) λv s1 ⟨x,H1,I1,r1,q1⟩=>?_);obtain⟨c,rfl,q1⟩:=q1;cases r1;exact not_of (wpAny_truthy_bool ⟨.bl (!c),H1,I1,rfl,q1⟩)
def Zg(t:TT)(ta tb:TE):TE:=λσ H Q=>t σ H λc H1=>if c=true then ta σ H1 Q else tb σ H1 Q
theorem tD{c:Expr}(hc:PT X c tA)(ha:PE X a ta)(hb:PE X b tb):PE X (.IfExp c a b pos) (Zg tA ta tb):=by
 intro pins s σ H Q I h;refine wpAny_IfExp (dB (hc pins s σ H _ I h) λd s1 ⟨H1,I1,q1⟩=>?_);cases d with
 |true=>exact ha pins s1 σ H1 Q I1 q1
 |false=>exact hb pins s1 σ H1 Q I1 q1
end
end L2
namespace L2
open PySem PySem.Spec PyProof.Rows
def nZ(K:Frag)(H:Hp)(a:Addr)(xs:List V):Prop :=
 Rd H a (.de xs) \/
  ∃(o:Obj) (cp:Array Value) (n:Nat),K.lookup a=some o/\o.cls=.type "list"/\o.dict=none/\o.data=.seq cp n/\cp.size<=sizeLine/\cC xs cp.toList
def rZ(K:Frag)(H:Hp)(a:Addr)(xs:List V):Prop :=
 Rd H a (.iQ xs) \/
  ∃(o:Obj) (cp:Array Value) (n:Nat),K.lookup a=some o/\o.cls=.type "tuple"/\o.data=.seq cp n/\cp.size<=sizeLine/\cC xs cp.toList
def Vl:Value->Option V
 |.none=>some .dH
 |.bool b=>some (.bl b)
 |.int i _=>some (.int i)
 |.str x _=>some (.str x)
 |.bytes b _=>some (.Bt b)
 |.float b _=>some (.rW b)
 |.ref a=>some (.ref a)
 |.type n=>some (.ty n)
 |_=>none
theorem cz.Uw{x:V}{u:Value}(r:cz x u):Vl u=some x:=by
 cases x with
 |dH=>cases r;rfl
 |bl _=>cases r;rfl
 |int _=>obtain⟨t,rfl⟩:=r;rfl
 |str _=>obtain⟨t,rfl⟩:=r;rfl
 |Bt _=>obtain⟨t,rfl⟩:=r;rfl
 |rW _=>obtain⟨t,rfl⟩:=r;rfl
 |ref _=>cases r;rfl
 |ty _=>cases r;rfl
theorem cz.inj{x y:V}{u:Value}(r:cz x u)(q:cz y u):x=y:=Option.some.inj (r.Uw.symm.trans q.Uw)
theorem cC.inj:∀{xs ys:List V} {us:List Value},cC xs us->cC ys us->xs=ys
 |_,_,_,.nil,.nil=>rfl
 |_,_,_,.cons r t,.cons r' t'=>by rw[r.inj r',cC.inj t t']
section
variable{X:Cx}{pins:List (Addr×Obj)}{σ:St}{H:Hp}{s:Shared}{a:Addr}{xs ys:List V}
theorem nZ.of{K:Frag}(h:H a=some (.de xs)):nZ K H a xs:=.inl (.inl h)
theorem rZ.of{K:Frag}(h:H a=some (.iQ xs)):rZ K H a xs:=.inl (.inl h)
theorem Inv.list(I:Inv X pins σ H s)(h:nZ X.K H a xs):∃cp:List Value,cC xs cp/\PlainL s.heap a cp.toArray/\xs.length<=sizeLine:=by
 rcases h with h |⟨o,cp,n,hk,hc,hd,hs,hz,r⟩
 ·obtain⟨z,cp,n,r,e⟩:=h.ok I.hok;exact⟨cp,r,⟨_,n,e,rfl,rfl,rfl⟩,z⟩
 ·refine⟨cp.toList,r,⟨o,n,I.je a o hk,hc,hd,by simpa using hs⟩,?_⟩;have e:=r.length;simp only[Array.length_toList] at e;omega
theorem Inv.tuple(I:Inv X pins σ H s)(h:rZ X.K H a xs):∃cp:List Value,cC xs cp/\IsTup s.heap a cp.toArray/\xs.length<=sizeLine:=by
 rcases h with h |⟨o,cp,n,hk,hc,hs,hz,r⟩
 ·obtain⟨z,cp,r,p⟩:=h.ok I.hok;exact⟨cp,r,p,z⟩
 ·refine⟨cp.toList,r,⟨o,I.je a o hk,hc,n,by simpa using hs⟩,?_⟩;have e:=r.length;simp only[Array.length_toList] at e;omega
theorem Inv.Hy(I:Inv X pins σ H s)(h:nZ X.K H a xs)(h':nZ X.K H a ys):xs=ys:=by
 obtain⟨cp,r,⟨o,n,e,_,_,d⟩,_⟩:=I.list h;obtain⟨xB,r',⟨o',n',e',_,_,d'⟩,_⟩:=I.list h';rw[e] at e';cases e';rw[d] at d';injection d' with d1 _
 have:cp=xB:=by simpa using congrArg Array.toList d1
 subst this;exact r.inj r'
theorem Inv.Ff(I:Inv X pins σ H s)(h:rZ X.K H a xs)(h':rZ X.K H a ys):xs=ys:=by
 obtain⟨cp,r,⟨o,e,_,n,d⟩,_⟩:=I.tuple h;obtain⟨xB,r',⟨o',e',_,n',d'⟩,_⟩:=I.tuple h';rw[e] at e';cases e';rw[d] at d';injection d' with d1 _
 have:cp=xB:=by simpa using congrArg Array.toList d1
 subst this;exact r.inj r'
end
abbrev Cx.u9(X:Cx)(E:Value->Shared->Prop):Cx:={X with xe:=E}
abbrev Cx.NA(X:Cx):Cx:=X.u9 λ_ _=>False
theorem Cx.Ok.u9{X:Cx}(ok:X.Ok)(E:Value->Shared->Prop):(X.u9 E).Ok :=
 ⟨ok.mod,ok.kind,ok.mK,ok.E9,ok.above,ok.inj,ok.has,ok.Hq,ok.hd,ok.frames,ok.Hr,ok.Ky,ok.bs,ok.BC,ok.mL,ok.tw,ok.lu,ok.Fa⟩
theorem Cx.Ok.lG{X:Cx}{E:Value->Shared->Prop}(ok:(X.u9 E).Ok):X.Ok :=
 ⟨ok.mod,ok.kind,ok.mK,ok.E9,ok.above,ok.inj,ok.has,ok.Hq,ok.hd,ok.frames,ok.Hr,ok.Ky,ok.bs,ok.BC,ok.mL,ok.tw,ok.lu,ok.Fa⟩
section
variable{X:Cx}{pins:List (Addr×Obj)}{σ:St}{H:Hp}{s:Shared}{E:Value->Shared->Prop}
theorem Inv.u9(I:Inv X pins σ H s)(E:Value->Shared->Prop):Inv (X.u9 E) pins σ H s:=⟨I.ok.u9 E,I.os,I.fF,I.base,I.loc,I.cell,I.free,I.fT,I.fw,I.hok,I.len⟩
theorem Inv.lG(I:Inv (X.u9 E) pins σ H s):Inv X pins σ H s:=⟨I.ok.lG,I.os,I.fF,I.base,I.loc,I.cell,I.free,I.fT,I.fw,I.hok,I.len⟩
theorem SP.lG{D:cT}{f:Flow}{s':Shared}(h:SP (X.u9 E) pins D f s'):SP X pins D f s':=by
 cases f with
 |next=>obtain⟨σ',H',I,q⟩:=h;exact⟨σ',H',I.lG,q⟩
 |brk=>obtain⟨σ',H',I,q⟩:=h;exact⟨σ',H',I.lG,q⟩
 |cont=>obtain⟨σ',H',I,q⟩:=h;exact⟨σ',H',I.lG,q⟩
 |ret u=>obtain⟨v,σ',H',I,r,q⟩:=h;exact⟨v,σ',H',I.lG,r,q⟩
theorem vV.NA{st:List Stmt}{t:TS}(h:vV X.NA st t):vV X st t:=λpins s σ H D I hw =>
 wpAny_mono (h pins s σ H D (I.u9 _) hw) (λ_ _ q=>q.lG) λ_ _ z=>False.elim z
end
section
variable{X:Cx}{st:Stmt}{rest:List Stmt}{t u:TS}{e:Expr}{te:TE}{pos:Pos}
def RI:TS:=λD σ H=>D.nx σ H
def Vm(t u:TS):TS:=λD σ H=>t {D with nx:=u D} σ H
theorem KS:vV X [] RI:=λ_ _ σ H _ I h=>wpAny_execs_nil ⟨σ,H,I,h⟩
theorem Hz(h1:PS X st t)(h2:vV X rest u):vV X (st::rest) (Vm t u):=by
 intro pins s σ H D I h;refine wpAny_execs_cons (dB (h1 pins s σ H {D with nx:=u D} I h) λf s1 q=>?_);cases f with
 |next =>
  obtain⟨σ',H',I',q⟩:=q;exact h2 pins s1 σ' H' D I' q
 |ret v=>exact q
 |brk=>exact q
 |cont=>exact q
def OD:TS:=λD σ H=>D.bk σ H
theorem HA:PS X (.Break pos) OD:=λ_ _ σ H _ I h=>wpAny_Break ⟨σ,H,I,h⟩
theorem Inv.quiet{pins:List (Addr×Obj)}{σ:St}{H:Hp}{s:Shared}(I:Inv X pins σ H s):interactive X.env=false:=by simp [interactive,I.ok.kind]
def RJ(te:TE):TS:=λD σ H=>te σ H λ_ H1=>D.nx σ H1
theorem KU(he:PE X e te)(hs:swapsWith e none pos.line X.env=pure false:=by rfl):PS X (.Expr e pos) (RJ te):=by
 intro pins s σ H D I h;exact wpAny_Expr_any (dB (he pins s σ H _ I h) λv s1 ⟨x,H1,I1,r1,q1⟩=>⟨σ,H1,I1,q1⟩) I.quiet hs
def Vn(te:TE):TS:=λD σ H=>te σ H D.rt
theorem OE(he:PE X e te):PS X (.Return (some e) pos) (Vn te):=by
 intro pins s σ H D I h;exact wpAny_Return_some (dB (he pins s σ H _ I h) λv s1 ⟨x,H1,I1,r1,q1⟩=>⟨x,σ,H1,I1,r1,q1⟩)
def RM:TS:=λD _ H=>D.rt .dH H
theorem KW:PS X (.Return none pos) RM:=λ_ _ σ H _ I h=>wpAny_Return_none ⟨.dH,σ,H,I,rfl,h⟩
def Vo(c:TT)(t u:TS):TS:=λD σ H=>c σ H λb H1=>if b=true then t D σ H1 else u D σ H1
theorem RN{c:Expr}{a b:List Stmt}{tc:TT}(hc:PT X c tc)(ha:vV X a t)(hb:vV X b u):PS X (.If c a b pos) (Vo tc t u):=by
 intro pins s σ H D I h;refine wpAny_If (dB (hc pins s σ H _ I h) λd s1 ⟨H1,I1,q1⟩=>?_);cases d with
 |true=>exact ha pins s1 σ H1 D I1 q1
 |false=>exact hb pins s1 σ H1 D I1 q1
end
abbrev TG:=V->St->Hp->(St->Hp->Prop)->Prop
def PG(X:Cx)(target:Expr)(t:TG):Prop :=
 ∀(pins:List (Addr×Obj)) (s:Shared) (σ:St) (H:Hp) (v:V) (u:Value) (Q:St->Hp->Prop),Inv X pins σ H s->cz v u->t v σ H Q ->
  wpAny (model X.prog X.w) X.A (assign target X.env u) (λ_ s'=>∃σ' H',Inv X pins σ' H' s'/\Q σ' H') X.xe s
abbrev Ux:=V->V->Hp->VK->Prop
def XQ(X:Cx)(op:Operator)(t:Ux):Prop :=
 ∀(pins:List (Addr×Obj)) (s:Shared) (σ:St) (H:Hp) (x y:V) (v u:Value) (Q:VK),Inv X pins σ H s->cz x v->cz y u->t x y H Q ->
  wpAny (model X.prog X.w) X.A (inplaceOp op v u) (EP X pins σ Q) X.xe s
section
variable{X:Cx}{pos:Pos}
def zr(i:Nat):TG:=λv σ H Q=>Q (σ.set i (some v)) H
theorem kM{i:Nat}{x:Str}(hN:X.N.Nodup)(hi:X.N[i]?=some x)(hx:DN X.env.scope x)(hf:X.fn x=true\/X.env.scope.names.lookup x=some .local:=by first |exact .inl rfl |exact .inr rfl |assumption):PG X (.Name x pos) (zr i):=by
 intro pins s σ H v u Q I r h;exact wpAny_assign_Name (lF I hN hi hx r (λs' I'=>⟨_,H,I',h⟩) hf)
def Vp(te:TE)(g:TG):TS:=λD σ H=>te σ H λx H1=>g x σ H1 D.nx
theorem qh{i:Nat}{x:Str}{e:Expr}{te:TE}{pos':Pos}(hN:X.N.Nodup)(hi:X.N[i]?=some x)(hx:DN X.env.scope x)(he:PE X e te)(hs:swapsWith e (some (.Name x pos')) pos.line X.env=pure false:=by rfl)(hf:X.fn x=true\/X.env.scope.names.lookup x=some .local:=by first |exact .inl rfl |exact .inr rfl |assumption) :
  PS X (.Assign [.Name x pos'] e pos) (Vp te (zr i)):=by
 intro pins s σ H D I h;refine wpAny_Assign_Name (dB (he pins s σ H _ I h) λv s1 ⟨y,H1,I1,r1,q1⟩=>?_) hs;exact lF I1 hN hi hx r1 (λs2 I2=>⟨_,H1,I2,q1⟩) hf
def Vq(i:Nat)(te:TE)(ti:Ux):TS:=λD σ H=>∃x,σ[i]?=some (some x)/\te σ H λy H1=>ti x y H1 λz H2=>D.nx (σ.set i (some z)) H2
theorem OF{i:Nat}{x:Str}{e:Expr}{te:TE}{op:Operator}{ti:Ux}{pos':Pos}(hN:X.N.Nodup)(hi:X.N[i]?=some x)(hx:DN X.env.scope x)(he:PE X e te)(ho:XQ X op ti)(hf:X.fn x=true\/X.env.scope.names.lookup x=some .local:=by first |exact .inl rfl |exact .inr rfl |assumption) :
  PS X (.AugAssign (.Name x pos') op e pos) (Vq i te ti):=by
 intro pins s σ H D I h;obtain⟨v,e1,h⟩:=h;obtain⟨m,hn,hl⟩:=I.loc;have Zh:uZ X.env.scope x:=by rcases hx with k |k;exact .inl k;exact .inr (.inl k)
 obtain⟨u,r,l⟩:=hl i x v hi e1 Zh;refine wpAny_AugAssign_Name ?_;have go:wpAny (model X.prog X.w) X.A (eval e X.env) (λw s₂=>wpAny (model X.prog X.w) X.A (inplaceOp op u w) (λr s₃=>wpAny (model X.prog X.w) X.A (storeName X.env x r) (λ_=>SP X pins D .next) X.xe s₃) X.xe s₂) X.xe s:=by
  refine dB (he pins s σ H _ I h) λw s1 ⟨y,H1,I1,r1,q1⟩=>?_;refine dB (ho pins s1 σ H1 v y u w _ I1 r r1 q1) λz s2 ⟨zv,H2,I2,r2,q2⟩=>?_;exact lF I2 hN hi hx r2 (λs3 I3=>⟨_,H2,I3,q2⟩) hf
 rcases l with ⟨hk,hm⟩ |⟨hk,c,hc,DP⟩
 ·exact wpAny_loadName_local I.ok.kind hk hn hm go
 ·rcases hk with hk |hk
  ·exact wpAny_loadName_cell I.ok.kind hk hc DP go
  ·rcases hx with k |k
   ·have:X.env.scope.names.lookup x=some .free:=hk;rw[k] at this;cases this
   ·have:X.env.scope.names.lookup x=some .free:=hk;rw[k] at this;cases this
def Zi(f:Int->Int->Int):Ux:=λx y H Q=>∃i j,x=.int i/\y=.int j/\Q (.int (f i j)) H
theorem OG:XQ X .Add (Zi λi j=>i+j):=by
 intro pins s σ H x y v u Q I r1 r2 h;obtain⟨i,j,e1,e2,q⟩:=h;subst e1;subst e2;obtain⟨t,rfl⟩:=r1;obtain⟨t',rfl⟩:=r2;exact iadd_int ⟨.int _,H,I.tok _,⟨_,rfl⟩,q⟩
end
section
variable{X:Cx}{pos:Pos}
def OH(c:TT)(tb:TS):TS:=λD σ H=>∃W:Nat->St->Hp->Prop,(∃m,W m σ H)/\∀m σ H,W m σ H ->
 c σ H λb H1=>if b=true then ∃N:St->Hp->Prop,(∀σ' H',N σ' H'->∃m',m'<m/\W m' σ' H')/\tb {D with nx:=N,ct:=N,bk:=D.nx} σ H1 else D.nx σ H1
theorem HB{c:Expr}{body:List Stmt}{tc:TT}{tb:TS}(hp:PassesOwn (model X.prog X.w) X.A X.env X.xe)(hc:PT X c tc)(hb:vV X body tb):PS X (.While c body [] pos) (OH tc tb):=by
 intro pins s σ H D I h;obtain⟨W,⟨m0,w0⟩,turn⟩:=h;refine wpAny_While (codeAny_whileLoop (λn s'=>∃σ' H',Inv X pins σ' H' s'/\W n σ' H') ?_ m0 ⟨σ,H,I,w0⟩);rintro n s1 ⟨σ1,H1,I1,w1⟩;refine wpAny_passesOwn hp (dB (hc pins s1 σ1 H1 _ I1 (turn n σ1 H1 w1)) λb s2 ⟨H2,I2,q2⟩=>?_);cases b with
 |true =>
  obtain⟨N,hN,q2⟩:=q2;rw[if_pos rfl];refine wpAny_passesOwn hp (dB (hb pins s2 σ1 H2 _ I2 q2) λf s3 q3=>?_);cases f with
  |next =>
   obtain⟨σ3,H3,I3,n3⟩:=q3;obtain⟨m',hm,w3⟩:=hN σ3 H3 n3;exact⟨m',hm,σ3,H3,I3,w3⟩
  |cont =>
   obtain⟨σ3,H3,I3,n3⟩:=q3;obtain⟨m',hm,w3⟩:=hN σ3 H3 n3;exact⟨m',hm,σ3,H3,I3,w3⟩
  |brk=>exact q3
  |ret v=>exact q3
 |false =>
  rw[if_neg Bool.false_ne_true];exact wpAny_execs_nil ⟨σ1,H2,I2,q2⟩
end
structure It where
 go:Nat->Hp->Prop
 QX:Nat->Hp->V->Hp->Prop
 gj:Nat->Hp->Prop
def tE(X:Cx)(pins:List (Addr×Obj))(H:Hp)(b:Addr):Prop :=
 H b=none/\b≠X.env.locals/\b∉X.fs/\(b∈X.ex\/X.tq.heap.objs.size<=b)/\(∀x c,X.env.cells.lookup x=some c->c≠b)/\∀p∈X.pn++pins,p.1≠b
theorem Inv.Fg{X:Cx}{pins:List (Addr×Obj)}{σ:St}{H H':Hp}{s:Shared}{b:Addr}(I:Inv X pins σ H s)(hb:s.heap.objs.size<=b)(hn:H' b=none):tE X pins H' b:=by
 refine⟨hn,Nat.ne_of_gt (Nat.lt_of_lt_of_le I.lt hb),I.Vd hb,.inr (Nat.le_trans I.sz hb),λx c e z=>?_,λp hp z=>?_⟩
 ·obtain⟨v,q⟩:=I.cell x c e;exact absurd (Nat.lt_of_lt_of_le q.lt (by rw[z];exact hb)) (Nat.lt_irrefl _)
 ·exact absurd (Nat.lt_of_lt_of_le (Heap.lt_size (I.fw p hp).1) (by rw[z];exact hb)) (Nat.lt_irrefl _)
structure qj(P:Program)(w:World)(K:Frag)(tg:Expr)(J:It)(fp:List Addr)(it:Addr)(tn:Nat->Heap->Prop):Prop where
 mem:it∈fp
 obj:∀i h,tn i h->∀b∈fp,∃o,h.get? b=some o/\∀v,o.data≠.cell v
 keep:∀i h h',tn i h->(∀b∈fp,∀o,h.get? b=some o->h'.get? b=some o)->tn i h'
 item:∀(X:Cx),X.prog=P->X.w=w->X.K=K->X.gB=true->∀(i:Nat) (pins:List (Addr×Obj)) (s:Shared) (σ:St) (H:Hp) (E:Value->Shared->Prop),Inv X pins σ H s->(∀b∈fp,tE X pins H b)->tn i s.heap->J.go i H ->
  wpAny (model P w) X.A (pyNext (.ref it)) (λr s1=>∃u,r=some u /\
   wpAny (model P w) X.A (letOwnedTupleGo tg (.ref it) u) (λ_ s2=>∃x H',Inv X pins σ H' s2/\cz x u/\J.QX i H x H'/\tn (i+1) s2.heap/\∀b∈fp,H' b=none) E s1) E s
 done:∀(X:Cx),X.prog=P->X.w=w->X.K=K->X.gB=true->∀(i:Nat) (pins:List (Addr×Obj)) (s:Shared) (σ:St) (H:Hp) (E:Value->Shared->Prop),Inv X pins σ H s->(∀b∈fp,tE X pins H b)->tn i s.heap->J.gj i H ->
  wpAny (model P w) X.A (pyNext (.ref it)) (λr s1=>r=none/\Inv X pins σ H s1) E s
 self:∀(A:Around) (i:Nat) (s:Shared) (Q:Value->Shared->Prop) (E:Value->Shared->Prop),tn i s.heap->Q (.ref it) s->wpAny (model P w) A (pyIter (.ref it)) Q E s
abbrev TI:=St->Hp->(It->Hp->Prop)->Prop
def Vr(X:Cx)(pins:List (Addr×Obj))(σ:St)(tg:Expr)(R:It->Hp->Prop)(Vs:Value)(s2:Shared):Prop :=
 ∃(it:Addr) (fp:List Addr) (tn:Nat->Heap->Prop) (J:It) (H':Hp),Vs=.ref it/\Inv X pins σ H' s2/\qj X.prog X.w X.K tg J fp it tn/\tn 0 s2.heap/\(∀b∈fp,tE X pins H' b)/\R J H'
def PI(X:Cx)(tg iter:Expr)(wi:TI):Prop :=
 ∀(pins:List (Addr×Obj)) (s:Shared) (σ:St) (H:Hp) (R:It->Hp->Prop),Inv X pins σ H s->wi σ H R ->
  wpAny (model X.prog X.w) X.A (eval iter X.env) (λv s1=>wpAny (model X.prog X.w) X.A (pyIter v) (Vr X pins σ tg R) X.xe s1) X.xe s
theorem DQ{M:Model}{A:Around}{E:Value->Shared->Prop}{s:Shared}{tg:Expr}{it:Addr}{u:Value}{o:Obj}{n:String}{vs:Array Value}{Q:Unit->Shared->Prop}(ho:s.heap.get? it=some o)(hc:o.cls=.type n)(hd:o.data=.fields vs)
    (hn:["enumerate","zip","dict_itemiterator","dict_reverseitemiterator","odict_iterator","itertools.zip_longest","itertools.pairwise"].contains n=false)(hQ:Q () s):wpAny M A (letOwnedTupleGo tg (.ref it) u) Q E s:=by
  unfold letOwnedTupleGo;cases tg <;> first
    | exact wpAny_pure hQ
    | (cases u <;> first
        | exact wpAny_pure hQ
        | (refine wpAny_bind (wpAny_load ho ?_)
           rw[hc,hd];show wpAny M A (if (["enumerate","zip","dict_itemiterator","dict_reverseitemiterator","odict_iterator","itertools.zip_longest","itertools.pairwise"].contains n && vs[0]? == some (rawInt _))=true then _ else _) Q E s;rw[if_neg (by intro h;rw[hn,Bool.false_and] at h;cases h)];exact wpAny_pure hQ))
def RO(K:Frag)(a:Addr):It :=
 ⟨λi H=>∃xs x,nZ K H a xs/\xs[i]?=some x,λi H x H'=>H'=H/\∀xs,nZ K H a xs->xs[i]?=some x,λi H=>∃xs,nZ K H a xs/\xs.length<=i⟩
def RQ(K:Frag)(a:Addr):It :=
 ⟨λi H=>∃xs x,rZ K H a xs/\xs[i]?=some x,λi H x H'=>H'=H/\∀xs,rZ K H a xs->xs[i]?=some x,λi H=>∃xs,rZ K H a xs/\xs.length<=i⟩
def QY(lo:Int)(n:Nat):It:=⟨λi _=>i<n,λi H x H'=>H'=H/\x=.int (lo+i),λi _=>n<=i⟩
theorem Fh{P:Program}{w:World}{K:Frag}{tg:Expr}(a it:Addr):qj P w K tg (RO K a) [it] it (λi h=>h.IsListIter it a i) where
 mem:=by simp
 obj:=λi h st b hb=>by
  have e:b=it:=by simpa using hb
  subst e;obtain⟨o,e,c,d⟩:=st;exact⟨o,e,λv z=>by rw[d] at z;cases z⟩
 keep:=λi h h' st k=>st.at λo e=>k it (by simp) o e
 item:=by
  intro X hP hw hK hc i pins s σ H E I hf st hg;subst hP hw hK;obtain⟨xs,x,hq,hx⟩:=hg;obtain⟨cp,rv,p,hz⟩:=I.list hq;obtain⟨u,hu,ru⟩:=rv.get hx;obtain⟨f0,f1,f2,f3,f4,f5⟩:=hf it (by simp);refine wpAny_pyNext_list_item st p.isList (x:=u) (by simpa using hu) λh' HC sb=>?_;have I1:Inv X pins σ H {s with heap:=h'}:=I.jf (t':=s.toks) (λb o hb e=>(sb.2 b hb).trans e) f0 f1 f3 f4 f5;obtain⟨o,e,c,d⟩:=id HC;exact⟨u,rfl,DQ (s:={s with heap:=h'}) e c d d_ ⟨x,H,I1,ru,⟨rfl,λys hy=>by rw[I.Hy hy hq];exact hx⟩,HC,λb hb=>(hf b hb).1⟩⟩
 done:=by
  intro X hP hw hK hc i pins s σ H E I hf st hg;subst hP hw hK;obtain⟨xs,hq,hx⟩:=hg;obtain⟨cp,rv,p,hz⟩:=I.list hq;obtain⟨f0,f1,f2,f3,f4,f5⟩:=hf it (by simp);have hl:=rv.length;exact wpAny_pyNext_list_end (I.ok.hd hc) st p.isList (by simp;omega) λh' eb=>⟨rfl,I.jf (t':=s.toks) (λb o hb e=>eb b o hb e) f0 f1 f3 f4 f5⟩
 self:=λ_ _ _ _ _ st h=>wpAny_pyIter_listiter st h
theorem BE{P:Program}{w:World}{K:Frag}{tg:Expr}(a it:Addr):qj P w K tg (RQ K a) [it] it (λi h=>h.IsTupleIter it a i) where
 mem:=by simp
 obj:=λi h st b hb=>by
  have e:b=it:=by simpa using hb
  subst e;obtain⟨o,e,c,d⟩:=st;exact⟨o,e,λv z=>by rw[d] at z;cases z⟩
 keep:=λi h h' st k=>st.at λo e=>k it (by simp) o e
 item:=by
  intro X hP hw hK hc i pins s σ H E I hf st hg;subst hP hw hK;obtain⟨xs,x,hq,hx⟩:=hg;obtain⟨cp,rv,p,hz⟩:=I.tuple hq;obtain⟨u,hu,ru⟩:=rv.get hx;obtain⟨f0,f1,f2,f3,f4,f5⟩:=hf it (by simp);refine wpAny_pyNext_tuple_item st (show s.heap.IsTuple a cp.toArray from p) (x:=u) (by simpa using hu) λh' HC sb=>?_;have I1:Inv X pins σ H {s with heap:=h'}:=I.jf (t':=s.toks) (λb o hb e=>(sb.2 b hb).trans e) f0 f1 f3 f4 f5;obtain⟨o,e,c,d⟩:=id HC;exact⟨u,rfl,DQ (s:={s with heap:=h'}) e c d d_ ⟨x,H,I1,ru,⟨rfl,λys hy=>by rw[I.Ff hy hq];exact hx⟩,HC,λb hb=>(hf b hb).1⟩⟩
 done:=by
  intro X hP hw hK hc i pins s σ H E I hf st hg;subst hP hw hK;obtain⟨xs,hq,hx⟩:=hg;obtain⟨cp,rv,p,hz⟩:=I.tuple hq;obtain⟨f0,f1,f2,f3,f4,f5⟩:=hf it (by simp);have hl:=rv.length;exact wpAny_pyNext_tuple_end (I.ok.hd hc) st (show s.heap.IsTuple a cp.toArray from p) (by simp;omega) λh' eb=>⟨rfl,I.jf (t':=s.toks) (λb o hb e=>eb b o hb e) f0 f1 f3 f4 f5⟩
 self:=λ_ _ _ _ _ st h=>wpAny_pyIter_tupleiter st h
theorem BF{P:Program}{w:World}{K:Frag}{tg:Expr}(it:Addr)(lo:Int)(n:Nat):qj P w K tg (QY lo n) [it] it (λi h=>IsRangeIter h it (lo+(i:Nat)*1) ((n:Int) - (i:Nat)) 1) where
 mem:=by simp
 obj:=λi h st b hb=>by
  have e:b=it:=by simpa using hb
  subst e;exact⟨_,st,λv z=>by
   have z':Data.fields _=Data.cell v:=z;cases z'⟩
 keep:=λi h h' st k=>k it (by simp) _ st
 item:=by
  intro X hP hw hK hc i pins s σ H E I hf st hg;subst hP hw hK;obtain⟨f0,f1,f2,f3,f4,f5⟩:=hf it (by simp);have W:=Walks.range (prog:=X.prog) (w:=X.w) (I.ok.hd hc) it lo 1 n;refine W.item i s _ _ hg st λv h' tk hv HC kk=>?_;obtain⟨t,rfl⟩:=hv;have I1:Inv X pins σ H {s with heap:=h',toks:=tk}:=I.jf (λb o hb e=>kk b o (by simpa using hb) e) f0 f1 f3 f4 f5;refine⟨_,rfl,DQ (s:={s with heap:=h',toks:=tk}) (n:="range_iterator") HC rfl rfl d_ ⟨.int (lo+i),H,I1,⟨t,?_⟩,⟨rfl,rfl⟩,HC,λb hb=>(hf b hb).1⟩⟩;rw[Int.mul_one]
 done:=by
  intro X hP hw hK hc i pins s σ H E I hf st hg;subst hP hw hK;obtain⟨f0,f1,f2,f3,f4,f5⟩:=hf it (by simp);exact wpAny_pyNext_range_end (I.ok.hd hc) st (by have:n<=i:=hg;omega) λh' eb=>⟨rfl,I.jf (t':=s.toks) (λb o hb e=>eb b o hb e) f0 f1 f3 f4 f5⟩
 self:=λ_ _ _ _ _ st h=>wpAny_pyIter_rangeiter st h
end L2
namespace L2
open PySem PySem.Spec PyProof.Rows
section
variable{X:Cx}{tg:Expr}
def NB(K:Frag)(tl:TE):TI:=λσ H R=>tl σ H λx H1=>∃a,x=.ref a/\(∃xs,nZ K H1 a xs)/\R (RO K a) H1
def RR(K:Frag)(tl:TE):TI:=λσ H R=>tl σ H λx H1=>∃a,x=.ref a/\(∃xs,rZ K H1 a xs)/\R (RQ K a) H1
theorem DR{l:Expr}{tl:TE}(hl:PE X l tl):PI X tg l (NB X.K tl):=by
 intro pins s σ H R I h;refine dB (hl pins s σ H _ I h) λv s1 ⟨x,H1,I1,r1,q1⟩=>?_;obtain⟨a,e,⟨xs,hq⟩,q⟩:=q1;subst e;cases r1;obtain⟨cp,rv,p,hz⟩:=I1.list hq;refine wpAny_pyIter_list p.isList ?_;refine⟨s1.heap.objs.size,[s1.heap.objs.size],_,_,H1,rfl,I1.jd (t':=s1.toks) λb o e=>Heap.get?_push_of_some _ e,Fh a _,⟨_,Heap.get?_push_size _ rfl,rfl,rfl⟩,λb hb=>?_,q⟩;have e:b=s1.heap.objs.size:=by simpa using hb
 subst e;exact I1.Fg (Nat.le_refl _) (I1.hok.fresh (Nat.le_refl _))
theorem HD{l:Expr}{tl:TE}(hl:PE X l tl):PI X tg l (RR X.K tl):=by
 intro pins s σ H R I h;refine dB (hl pins s σ H _ I h) λv s1 ⟨x,H1,I1,r1,q1⟩=>?_;obtain⟨a,e,⟨xs,hq⟩,q⟩:=q1;subst e;cases r1;obtain⟨cp,rv,p,hz⟩:=I1.tuple hq;refine wpAny_pyIter_tuple (show s1.heap.IsTuple a cp.toArray from p) ?_;refine⟨s1.heap.objs.size,[s1.heap.objs.size],_,_,H1,rfl,I1.jd (t':=s1.toks) λb o e=>Heap.get?_push_of_some _ e,BE a _,⟨_,Heap.get?_push_size _ rfl,rfl,rfl⟩,λb hb=>?_,q⟩;have e:b=s1.heap.objs.size:=by simpa using hb
 subst e;exact I1.Fg (Nat.le_refl _) (I1.hok.fresh (Nat.le_refl _))
theorem HE{pins:List (Addr×Obj)}{σ:St}{H:Hp}{s:Shared}{R:It->Hp->Prop}{E:Value->Shared->Prop}{lo hi:Int}{t u v:Tok}{tk:Nat}(I:Inv X pins σ H s)(h1:-(2^62)<=lo)(h2:lo<2^62)(h3:-(2^62)<=hi)(h4:hi<2^62)
  (q:R (QY lo (hi - lo).toNat) H):wpAny (model X.prog X.w) X.A (pyIter (.ref s.heap.objs.size)) (Vr X pins σ tg R) E {s with heap:=s.heap.push {cls:=.type "range",data:=.fields #[.int lo t,.int hi u,.int 1 v]},toks:=tk}:=by
 refine wpAny_pyIter_range (IsRange.new ..) (small_one h1 h2 h3 h4) ?_;have I1:Inv X pins σ H {s with heap:=s.heap.push {cls:=.type "range",data:=.fields #[.int lo t,.int hi u,.int 1 v]},toks:=tk}:=I.jd λb o e=>Heap.get?_push_of_some _ e;refine⟨(s.heap.push {cls:=.type "range",data:=.fields #[.int lo t,.int hi u,.int 1 v]}).objs.size,[(s.heap.push {cls:=.type "range",data:=.fields #[.int lo t,.int hi u,.int 1 v]}).objs.size],_,_,H,rfl,
  I1.jd (t':=tk) λb o e=>Heap.get?_push_of_some _ e,BF _ lo (hi - lo).toNat,?_,λb hb=>?_,q⟩
 ·have e1:lo+((0:Nat):Int)*1=lo:=by simp
  have e2:(((hi - lo).toNat:Nat):Int) - ((0:Nat):Int)=Builtin.Range.rangeSize lo hi 1:=by rw[rangeSize_one];split <;> omega
  show IsRangeIter _ _ (lo+((0:Nat):Int)*1) ((((hi - lo).toNat:Nat):Int) - ((0:Nat):Int)) 1;rw[e1,e2];exact Heap.get?_push_size _ rfl
 ·have e:b=(s.heap.push {cls:=.type "range",data:=.fields #[.int lo t,.int hi u,.int 1 v]}).objs.size:=by simpa using hb
  subst e;exact I1.Fg (Nat.le_refl _) (I1.hok.fresh (Nat.le_refl _))
def RU(ta:TA):TI:=λσ H R=>ta σ H λvs H1=>∃i j:Int,vs=[.int i,.int j]/\(-(2^62)<=i/\i<2^62/\-(2^62)<=j/\j<2^62)/\R (QY i (j - i).toNat) H1
theorem Fj{a b:Expr}{ta:TA}{p pos:Pos}(hg:Gl X "range")(hm:X.mg "range"=none)(ha:PA X [a,b] ta)(hs:starEach [a,b] X.env=[(false,eval a X.env),(false,eval b X.env)]:=by rfl)(Hl:starEach [b] X.env=[(false,eval b X.env)]:=by rfl) :
  PI X tg (.Call (.Name "range" p) [a,b] [] pos) (RU ta):=by
 intro pins s σ H R I h;refine Call_ (xA I hg hm boot_range (PyProof.Rows.callWith_type1 (dB (ha pos pins s σ H _ I h) λus s1 ⟨vs,H1,I1,r1,q1⟩=>?_) (by rw[hs,Hl]) (by rw[Hl];rfl)));obtain⟨i,j,e,⟨q1,q2,q3,q4⟩,q⟩:=q1;subst e;cases r1 with
 |cons r rr =>
  cases rr with
  |cons r' rr =>
   cases rr;obtain⟨t,rfl⟩:=r;obtain⟨t',rfl⟩:=r';exact call_range_2 (HE I1 q1 q2 q3 q4 q)
def Vt(wi:TI)(g:TG)(tb:TS):TS:=λD σ H=>wi σ H λJ H1=>∃W:Nat->Nat->St->Hp->Prop,(∃m,W 0 m σ H1)/\∀i m σ H,W i m σ H ->
 (J.gj i H/\D.nx σ H)\/(J.go i H/\∃N:St->Hp->Prop,(∀σ' H',N σ' H'->∃m',m'<m/\W (i+1) m' σ' H')/\∀x H',J.QX i H x H'->g x σ H' λσ2 H2=>tb {D with nx:=N,ct:=N,bk:=D.nx} σ2 H2)
def nj(fp:List Addr)(h:Heap):List (Addr×Obj):=fp.filterMap λb=>(h.get? b).map λo=>(b,o)
theorem kN{fp:List Addr}{h:Heap}{b:Addr}{o:Obj}(hb:b∈fp)(e:h.get? b=some o):(b,o)∈nj fp h:=List.mem_filterMap.mpr ⟨b,hb,by rw[e];rfl⟩
theorem Fk{fp:List Addr}{h:Heap}{p:Addr×Obj}(hp:p∈nj fp h):p.1∈fp/\h.get? p.1=some p.2:=by
 obtain⟨b,hb,e⟩:=List.mem_filterMap.mp hp;cases q:h.get? b with
 |none=>rw[q] at e;cases e
 |some o =>
  rw[q] at e;have e':(b,o)=p:=Option.some.inj e;subst e';exact⟨hb,q⟩
theorem Inv.jT{pins:List (Addr×Obj)}{σ:St}{H:Hp}{s:Shared}{fp:List Addr}(I:Inv X pins σ H s)(hf:∀b∈fp,tE X pins H b)(ho:∀b∈fp,∃o,s.heap.get? b=some o/\∀v,o.data≠.cell v):Inv X (pins++nj fp s.heap) σ H s :=
 I.oA λp hp=>(List.mem_append.mp hp).elim (λz=>I.fw p (List.mem_append_right _ z)) λz=>by
  obtain⟨hb,e⟩:=Fk z;obtain⟨f0,f1,f2,_⟩:=hf p.1 hb;obtain⟨o,e',d⟩:=ho p.1 hb;rw[e] at e';cases e';exact⟨e,f0,f1,f2,d⟩
theorem Inv.oC{pins pl:List (Addr×Obj)}{σ:St}{H:Hp}{s:Shared}(I:Inv X (pins++pl) σ H s):Inv X pins σ H s:=I.oA λp hp=>I.fw p (List.mem_append_right _ (List.mem_append_left _ hp))
theorem xC{iter:Expr}{body:List Stmt}{wi:TI}{g:TG}{tb:TS}{pos:Pos}(hp:PassesOwn (model X.prog X.w) X.A X.env X.xe)(hc:X.gB=true)(hi:PI X tg iter wi)(hg:PG X tg g)(hb:vV X body tb)
  (hs:∀x,foldedSetIterable iter X.env x=pure x:=by intro _;rfl):PS X (.For tg iter body [] pos) (Vt wi g tb):=by
 intro pins s σ H D I h;refine wpAny_For (dB (hi pins s σ H _ I h) λv s1 h1=>dB h1 λVs s2 h2=>?_) hs;obtain⟨it,fp,tn,J,H2,e,I2,T,Uy,f2,W,⟨m0,w0⟩,turn⟩:=h2;subst e;have BG:∀{H':Hp},(∀b∈fp,H' b=none)->∀b∈fp,tE X pins H' b:=λhn b hb=>⟨hn b hb,(f2 b hb).2⟩
 refine codeAny_forLoop_any (λn s'=>∃i σ' H',Inv X pins σ' H' s'/\tn i s'.heap/\(∀b∈fp,H' b=none)/\W i n σ' H') ?_ m0 ⟨0,σ,H2,I2,Uy,λb hb=>(f2 b hb).1,w0⟩;rintro n s3 ⟨i,σ3,H3,I3,Uz,XS,w3⟩;rcases turn i n σ3 H3 w3 with ⟨gj,qn⟩ |⟨go,N,hN,step⟩
 ·refine wpAny_passesOwn hp (dB (T.done X rfl rfl rfl hc i pins s3 σ3 H3 X.xe I3 (BG XS) Uz gj) λr s4 ⟨hr,I4⟩=>?_);subst hr;exact wpAny_execs_nil ⟨σ3,H3,I4,qn⟩
 ·refine wpAny_passesOwn hp (dB (T.item X rfl rfl rfl hc i pins s3 σ3 H3 X.xe I3 (BG XS) Uz go) λr s4 ⟨u,hr,h4⟩=>?_);subst hr;refine wpAny_passesOwn hp (dB h4 λ_ s5 ⟨x,H5,I5,r5,y5,QZ,Zj⟩=>?_);have Zk:=I5.jT (BG Zj) (T.obj _ _ QZ);refine wpAny_passesOwn hp (dB (hg _ s5 σ3 H5 x u _ Zk r5 (step x H5 y5)) λ_ s6 ⟨σ6,H6,I6,q6⟩=>?_);refine wpAny_passesOwn hp (dB (hb _ s6 σ6 H6 _ I6 q6) λf s7 q7=>?_);have again:∀{σ7:St} {H7:Hp},Inv X (pins++nj fp s5.heap) σ7 H7 s7->N σ7 H7->∃m,m<n/\∃i σ' H',Inv X pins σ' H' s7/\tn i s7.heap/\(∀b∈fp,H' b=none)/\W i m σ' H':=λ{σ7 H7} I7 n7=>by
   obtain⟨m',hm,w7⟩:=hN σ7 H7 n7;refine⟨m',hm,i+1,σ7,H7,I7.oC,T.keep _ _ _ QZ λb hb o e=>(I7.fw (b,o) (List.mem_append_right _ (List.mem_append_right _ (kN hb e)))).1,λb hb=>?_,w7⟩;obtain⟨o,e,d⟩:=T.obj _ _ QZ b hb;exact(I7.fw (b,o) (List.mem_append_right _ (List.mem_append_right _ (kN hb e)))).2.1
  cases f with
  |next=>obtain⟨σ7,H7,I7,n7⟩:=q7;exact again I7 n7
  |cont=>obtain⟨σ7,H7,I7,n7⟩:=q7;exact again I7 n7
  |brk=>obtain⟨σ7,H7,I7,q7⟩:=q7;exact⟨σ7,H7,I7.oC,q7⟩
  |ret v=>obtain⟨x7,σ7,H7,I7,r7,q7⟩:=q7;exact⟨x7,σ7,H7,I7.oC,r7,q7⟩
end
theorem HF{K:Frag}{a:Addr}{xs:List V}{g:TG}{tb:TS}{D:cT}{σ:St}{H:Hp}(Pv:Nat->St->Hp->Prop)(h0:Pv 0 σ H)(hl:∀i σ H,i<=xs.length->Pv i σ H->nZ K H a xs)
  (hs:∀i x σ H,xs[i]?=some x->Pv i σ H->g x σ H λσ2 H2=>tb {D with nx:=Pv (i+1),ct:=Pv (i+1),bk:=D.nx} σ2 H2)(hd:∀σ H,Pv xs.length σ H->D.nx σ H) :
  ∃W:Nat->Nat->St->Hp->Prop,(∃m,W 0 m σ H)/\∀i m σ H,W i m σ H ->
   ((RO K a).gj i H/\D.nx σ H)\/((RO K a).go i H/\∃N:St->Hp->Prop,(∀σ' H',N σ' H'->∃m',m'<m/\W (i+1) m' σ' H')/\∀x H',(RO K a).QX i H x H'->g x σ H' λσ2 H2=>tb {D with nx:=N,ct:=N,bk:=D.nx} σ2 H2):=by
 refine⟨λi m σ H=>m=xs.length - i/\i<=xs.length/\Pv i σ H,⟨xs.length,by simp,Nat.zero_le _,h0⟩,?_⟩;rintro i m σ H ⟨rfl,hi,p⟩;have q:=hl i σ H hi p
 by_cases fS:i<xs.length
 ·refine .inr ⟨⟨xs,xs[i],q,by simp [fS]⟩,Pv (i+1),λσ' H' p'=>⟨xs.length - (i+1),by omega,rfl,fS,p'⟩,λx H' y=>?_⟩;obtain⟨e,y⟩:=y;subst e;exact hs i x σ _ (y xs q) p
 ·have e:i=xs.length:=by omega
  subst e;exact .inl ⟨⟨xs,q,Nat.le_refl _⟩,hd σ H p⟩
theorem KY{K:Frag}{a:Addr}{xs:List V}{g:TG}{tb:TS}{D:cT}{σ:St}{H:Hp}(Pv:Nat->St->Hp->Prop)(h0:Pv 0 σ H)(hl:∀i σ H,i<=xs.length->Pv i σ H->rZ K H a xs)
  (hs:∀i x σ H,xs[i]?=some x->Pv i σ H->g x σ H λσ2 H2=>tb {D with nx:=Pv (i+1),ct:=Pv (i+1),bk:=D.nx} σ2 H2)(hd:∀σ H,Pv xs.length σ H->D.nx σ H) :
  ∃W:Nat->Nat->St->Hp->Prop,(∃m,W 0 m σ H)/\∀i m σ H,W i m σ H ->
   ((RQ K a).gj i H/\D.nx σ H)\/((RQ K a).go i H/\∃N:St->Hp->Prop,(∀σ' H',N σ' H'->∃m',m'<m/\W (i+1) m' σ' H')/\∀x H',(RQ K a).QX i H x H'->g x σ H' λσ2 H2=>tb {D with nx:=N,ct:=N,bk:=D.nx} σ2 H2):=by
 refine⟨λi m σ H=>m=xs.length - i/\i<=xs.length/\Pv i σ H,⟨xs.length,by simp,Nat.zero_le _,h0⟩,?_⟩;rintro i m σ H ⟨rfl,hi,p⟩;have q:=hl i σ H hi p
 by_cases fS:i<xs.length
 ·refine .inr ⟨⟨xs,xs[i],q,by simp [fS]⟩,Pv (i+1),λσ' H' p'=>⟨xs.length - (i+1),by omega,rfl,fS,p'⟩,λx H' y=>?_⟩;obtain⟨e,y⟩:=y;subst e;exact hs i x σ _ (y xs q) p
 ·have e:i=xs.length:=by omega
  subst e;exact .inl ⟨⟨xs,q,Nat.le_refl _⟩,hd σ H p⟩
theorem Fl{lo:Int}{n:Nat}{g:TG}{tb:TS}{D:cT}{σ:St}{H:Hp}(Pv:Nat->St->Hp->Prop)(h0:Pv 0 σ H)
  (hs:∀i σ H,i<n->Pv i σ H->g (.int (lo+i)) σ H λσ2 H2=>tb {D with nx:=Pv (i+1),ct:=Pv (i+1),bk:=D.nx} σ2 H2)(hd:∀σ H,Pv n σ H->D.nx σ H) :
  ∃W:Nat->Nat->St->Hp->Prop,(∃m,W 0 m σ H)/\∀i m σ H,W i m σ H ->
   ((QY lo n).gj i H/\D.nx σ H)\/((QY lo n).go i H/\∃N:St->Hp->Prop,(∀σ' H',N σ' H'->∃m',m'<m/\W (i+1) m' σ' H')/\∀x H',(QY lo n).QX i H x H'->g x σ H' λσ2 H2=>tb {D with nx:=N,ct:=N,bk:=D.nx} σ2 H2):=by
 refine⟨λi m σ H=>m=n - i/\i<=n/\Pv i σ H,⟨n,by simp,Nat.zero_le _,h0⟩,?_⟩;rintro i m σ H ⟨rfl,hi,p⟩
 by_cases fS:i<n
 ·refine .inr ⟨fS,Pv (i+1),λσ' H' p'=>⟨n - (i+1),by omega,rfl,fS,p'⟩,λx H' y=>?_⟩;obtain⟨e,y⟩:=y;subst e y;exact hs i σ _ fS p
 ·have e:i=n:=by omega
  subst e;exact .inl ⟨Nat.le_refl _,hd σ H p⟩
end L2
namespace L2
open PySem PySem.Spec PyProof.Rows
abbrev R2:=V->V->Hp->VK->Prop
def mi(X:Cx)(f:Value->Value->Sem Value)(r:R2):Prop :=
 ∀(pins:List (Addr×Obj)) (s:Shared) (σ:St) (H:Hp) (x y:V) (v u:Value) (Q:VK),Inv X pins σ H s->cz x v->cz y u->r x y H Q ->
  wpAny (model X.prog X.w) X.A (f v u) (EP X pins σ Q) X.xe s
def Vu(X:Cx)(f:Value->Sem Value)(r:V->Hp->VK->Prop):Prop :=
 ∀(pins:List (Addr×Obj)) (s:Shared) (σ:St) (H:Hp) (x:V) (v:Value) (Q:VK),Inv X pins σ H s->cz x v->r x H Q ->
  wpAny (model X.prog X.w) X.A (f v) (EP X pins σ Q) X.xe s
def lh(X:Cx)(f:Value)(r:List V->Hp->VK->Prop):Prop :=
 ∀(pins:List (Addr×Obj)) (s:Shared) (σ:St) (H:Hp) (xs:List V) (us:List Value) (Q:VK),Inv X pins σ H s->cC xs us->r xs H Q ->
  wpAny (model X.prog X.w) X.A (call f us) (EP X pins σ Q) X.xe s
def UA(r:R2)(ta tb:TE):TE:=λσ H Q=>ta σ H λx H1=>tb σ H1 λy H2=>r x y H2 Q
def Zl(r:V->Hp->VK->Prop)(ta:TE):TE:=λσ H Q=>ta σ H λx H1=>r x H1 Q
def rI(C:Int->Int->Prop)(g:Int->Int->V):R2:=λx y H Q=>∃i j,x=.int i/\y=.int j/\C i j/\Q (g i j) H
def Fm(g:Int->Int->V):R2:=λx y H Q=>∃i j,x=.int i/\y=.int j/\Q (g i j) H
def rU(g:Int->V):V->Hp->VK->Prop:=λx H Q=>∃i,x=.int i/\Q (g i) H
section
variable{X:Cx}{a b c:Expr}{ta tb tc:TE}{pos:Pos}
theorem OI(ha:PE X a ta)(hb:PE X b tb){pins:List (Addr×Obj)}{s:Shared}{σ:St}{H:Hp}{R:V->V->Hp->Prop}(I:Inv X pins σ H s)
  (h:ta σ H λx H1=>tb σ H1 λy H2=>R x y H2){Q:Value->Shared->Prop}{f:Value->Value->Sem Value}
  (hf:∀v u s2 x y H2,Inv X pins σ H2 s2->cz x v->cz y u->R x y H2->wpAny (model X.prog X.w) X.A (f v u) Q X.xe s2) :
  wpAny (model X.prog X.w) X.A (eval a X.env) (λv s₁=>wpAny (model X.prog X.w) X.A (eval b X.env) (λu s₂=>wpAny (model X.prog X.w) X.A (f v u) Q X.xe s₂) X.xe s₁) X.xe s:=by
 refine dB (ha pins s σ H _ I h) λv s1 ⟨x,H1,I1,r1,q1⟩=>?_;refine dB (hb pins s1 σ H1 _ I1 q1) λu s2 ⟨y,H2,I2,r2,q2⟩=>?_;exact hf v u s2 x y H2 I2 r1 r2 q2
theorem zt{op:Operator}{r:R2}(ho:mi X (binaryOp op) r)(ha:PE X a ta)(hb:PE X b tb):PE X (.BinOp a op b pos) (UA r ta tb):=by
 intro pins s σ H Q I h;exact wpAny_BinOp (OI ha hb I h λv u s2 x y H2 I2 rx ry q=>ho pins s2 σ H2 x y v u Q I2 rx ry q)
theorem RV{op:UnaryOp}{r:V->Hp->VK->Prop}(ho:Vu X (unaryOp op) r)(ha:PE X a ta):PE X (.UnaryOp op a pos) (Zl r ta):=by
 intro pins s σ H Q I h;exact UnaryOp_ (dB (ha pins s σ H _ I h) λv s1 ⟨x,H1,I1,r1,q1⟩=>ho pins s1 σ H1 x v Q I1 r1 q1)
theorem UB{f:Value->Value->Sem Value}{C:Int->Int->Prop}{g:Int->Int->Int}
  (rule:∀(i j:Int) (t u:Tok) (s:Shared) (Q:Value->Shared->Prop) (E:Value->Shared->Prop),C i j->Q (.int (g i j) s.toks) {s with toks:=s.toks+1}->wpAny (model X.prog X.w) X.A (f (.int i t) (.int j u)) Q E s) :
  mi X f (rI C λi j=>.int (g i j)):=by
 intro pins s σ H x y v u Q I rx ry h;obtain⟨i,j,rfl,rfl,hc,q⟩:=h;obtain⟨t,rfl⟩:=rx;obtain⟨t',rfl⟩:=ry;exact rule i j t t' s _ _ hc ⟨.int (g i j),H,I.tok _,⟨_,rfl⟩,q⟩
theorem RW{f:Value->Value->Sem Value}{g:Int->Int->Int}
  (rule:∀(i j:Int) (t u:Tok) (s:Shared) (Q:Value->Shared->Prop) (E:Value->Shared->Prop),Q (.int (g i j) s.toks) {s with toks:=s.toks+1}->wpAny (model X.prog X.w) X.A (f (.int i t) (.int j u)) Q E s) :
  mi X f (Fm λi j=>.int (g i j)):=by
 intro pins s σ H x y v u Q I rx ry h;obtain⟨i,j,rfl,rfl,q⟩:=h;obtain⟨t,rfl⟩:=rx;obtain⟨t',rfl⟩:=ry;exact rule i j t t' s _ _ ⟨.int (g i j),H,I.tok _,⟨_,rfl⟩,q⟩
theorem KZ{f:Value->Value->Sem Value}{g:Int->Int->Bool}
  (rule:∀(i j:Int) (t u:Tok) (s:Shared) (Q:Value->Shared->Prop) (E:Value->Shared->Prop),Q (.bool (g i j)) s->wpAny (model X.prog X.w) X.A (f (.int i t) (.int j u)) Q E s) :
  mi X f (Fm λi j=>.bl (g i j)):=by
 intro pins s σ H x y v u Q I rx ry h;obtain⟨i,j,rfl,rfl,q⟩:=h;obtain⟨t,rfl⟩:=rx;obtain⟨t',rfl⟩:=ry;exact rule i j t t' s _ _ ⟨.bl (g i j),H,I,rfl,q⟩
def OJ(i j:Int):Prop:=(-(2^64)<i/\i<2^64)\/(-(2^64)<j/\j<2^64)
theorem OJ.ok{i j:Int}(h:OJ i j):IntMulOk i j:=by
 rcases h with ⟨h1,h2⟩ |⟨h1,h2⟩
 ·exact .of_left (intBits_le_64 h1 h2)
 ·exact .of_right (intBits_le_64 h1 h2)
theorem ff:mi X (binaryOp .Add) (Fm λi j=>.int (i+j)):=RW λ_ _ _ _ _ _ _ q=>add_int q
theorem tF:mi X (binaryOp .Sub) (Fm λi j=>.int (i - j)):=RW λ_ _ _ _ _ _ _ q=>sub_int q
theorem HG:mi X (binaryOp .Mult) (rI OJ λi j=>.int (i*j)):=UB λ_ _ _ _ _ _ _ hc q=>mul_int q hc.ok
theorem K0:mi X (binaryOp .Mod) (rI (λ_ j=>j≠0) λi j=>.int (i.fmod j)):=UB λ_ _ _ _ _ _ _ hc q=>mod_int' hc q
theorem Zm{f:Value->Sem Value}{g:Int->Int}
  (rule:∀(i:Int) (t:Tok) (s:Shared) (Q:Value->Shared->Prop) (E:Value->Shared->Prop),Q (.int (g i) s.toks) {s with toks:=s.toks+1}->wpAny (model X.prog X.w) X.A (f (.int i t)) Q E s) :
  Vu X f (rU λi=>.int (g i)):=by
 intro pins s σ H x v Q I rx h;obtain⟨i,rfl,q⟩:=h;obtain⟨t,rfl⟩:=rx;exact rule i t s _ _ ⟨.int (g i),H,I.tok _,⟨_,rfl⟩,q⟩
theorem OK:Vu X (unaryOp .USub) (rU λi=>.int (-i)):=Zm λ_ _ _ _ _ q=>neg_int q
end
def BH:V->V->Bool
 |.dH,.dH=>true |.dH,.int _=>true |.int _,.dH=>true |.dH,.bl _=>true |.bl _,.dH=>true |.dH,.str _=>true |.str _,.dH=>true
 |.int _,.int _=>true |.bl _,.bl _=>true |.str _,.str _=>true |.Bt _,.Bt _=>true
 |.int _,.str _=>true |.str _,.int _=>true |.bl _,.str _=>true |.str _,.bl _=>true
 |_,_=>false
def Zn:R2:=λx y H Q=>BH x y=true/\Q (.bl (decide (x=y))) H
def Zo:R2:=λx y H Q=>BH x y=true/\Q (.bl (!decide (x=y))) H
theorem DS{i j:Int}:decide (V.int i=V.int j)=(i == j):=by
 rw[Bool.eq_iff_iff];simp
theorem HI{i j:Bool}:decide (V.bl i=V.bl j)=(i == j):=by
 rw[Bool.eq_iff_iff];simp
theorem r0{i j:Str}:decide (V.str i=V.str j)=(i == j):=by
 rw[Bool.eq_iff_iff];simp
theorem DT{i j:Array UInt8}:decide (V.Bt i=V.Bt j)=(i.toList == j.toList):=by
 rw[Bool.eq_iff_iff];cases i;cases j;simp
section
variable{X:Cx}{a b c:Expr}{ta tb tc:TE}{pos:Pos}
theorem cG{pins:List (Addr×Obj)}{σ:St}{H:Hp}{s:Shared}{Q:VK}{k k':Bool}(I:Inv X pins σ H s)(q:Q (.bl k) H)(e:k=k'):EP X pins σ Q (.bool k') s:=by
 subst e;exact⟨.bl k,H,I,rfl,q⟩
theorem NC:mi X (compareOp .Eq) Zn:=by
 intro pins s σ H x y v u Q I rx ry h;obtain⟨hs,q⟩:=h;cases x with
 |dH =>
  cases rx;cases y with
  |dH=>cases ry;exact PySem.EqNone.eq_none_none (cG I q (by simp))
  |bl j=>cases ry;exact PySem.EqNone.eq_none_bool (cG I q (by simp))
  |int j=>obtain⟨t',rfl⟩:=ry;exact PySem.EqNone.eq_none_int (cG I q (by simp))
  |str j=>obtain⟨t',rfl⟩:=ry;exact PySem.EqNone.eq_none_str (cG I q (by simp))
  |_=>exact absurd (show false=true from hs) Bool.false_ne_true
 |bl i =>
  cases rx;cases y with
  |dH=>cases ry;exact PySem.EqNone.eq_bool_none (cG I q (by simp))
  |bl j=>cases ry;exact eq_bool (cG I q HI)
  |str j=>obtain⟨t',rfl⟩:=ry;exact PySem.EqMixed.eq_bool_str (cG I q (by simp))
  |_=>exact absurd (show false=true from hs) Bool.false_ne_true
 |int i =>
  obtain⟨t,rfl⟩:=rx;cases y with
  |dH=>cases ry;exact PySem.EqNone.eq_int_none (cG I q (by simp))
  |int j=>obtain⟨t',rfl⟩:=ry;exact eq_int (cG I q DS)
  |str j=>obtain⟨t',rfl⟩:=ry;exact PySem.EqMixed.eq_int_str (cG I q (by simp))
  |_=>exact absurd (show false=true from hs) Bool.false_ne_true
 |str i =>
  obtain⟨t,rfl⟩:=rx;cases y with
  |dH=>cases ry;exact PySem.EqNone.eq_str_none (cG I q (by simp))
  |bl j=>cases ry;exact PySem.EqMixed.eq_str_bool (cG I q (by simp))
  |int j=>obtain⟨t',rfl⟩:=ry;exact PySem.EqMixed.eq_str_int (cG I q (by simp))
  |str j=>obtain⟨t',rfl⟩:=ry;exact eq_str (cG I q r0)
  |_=>exact absurd (show false=true from hs) Bool.false_ne_true
 |Bt i =>
  obtain⟨t,rfl⟩:=rx;cases y with
  |Bt j=>obtain⟨t',rfl⟩:=ry;exact PySem.W.eq_bytes (cG I q DT)
  |_=>exact absurd (show false=true from hs) Bool.false_ne_true
 |_=>cases y <;> exact absurd (show false=true from hs) Bool.false_ne_true
theorem RX:mi X (compareOp .NotEq) Zo:=by
 intro pins s σ H x y v u Q I rx ry h;obtain⟨hs,q⟩:=h;cases x with
 |dH =>
  cases rx;cases y with
  |dH=>cases ry;exact PySem.EqNone.ne_none_none (cG I q (by simp))
  |bl j=>cases ry;exact PySem.EqNone.ne_none_bool (cG I q (by simp))
  |int j=>obtain⟨t',rfl⟩:=ry;exact PySem.EqNone.ne_none_int (cG I q (by simp))
  |str j=>obtain⟨t',rfl⟩:=ry;exact PySem.EqNone.ne_none_str (cG I q (by simp))
  |_=>exact absurd (show false=true from hs) Bool.false_ne_true
 |bl i =>
  cases rx;cases y with
  |dH=>cases ry;exact PySem.EqNone.ne_bool_none (cG I q (by simp))
  |bl j=>cases ry;exact ne_bool (cG I q (congrArg not HI))
  |str j=>obtain⟨t',rfl⟩:=ry;exact PySem.EqMixed.ne_bool_str (cG I q (by simp))
  |_=>exact absurd (show false=true from hs) Bool.false_ne_true
 |int i =>
  obtain⟨t,rfl⟩:=rx;cases y with
  |dH=>cases ry;exact PySem.EqNone.ne_int_none (cG I q (by simp))
  |int j=>obtain⟨t',rfl⟩:=ry;exact ne_int (cG I q (congrArg not DS))
  |str j=>obtain⟨t',rfl⟩:=ry;exact PySem.EqMixed.ne_int_str (cG I q (by simp))
  |_=>exact absurd (show false=true from hs) Bool.false_ne_true
 |str i =>
  obtain⟨t,rfl⟩:=rx;cases y with
  |dH=>cases ry;exact PySem.EqNone.ne_str_none (cG I q (by simp))
  |bl j=>cases ry;exact PySem.EqMixed.ne_str_bool (cG I q (by simp))
  |int j=>obtain⟨t',rfl⟩:=ry;exact PySem.EqMixed.ne_str_int (cG I q (by simp))
  |str j=>obtain⟨t',rfl⟩:=ry;exact ne_str (cG I q (congrArg not r0))
  |_=>exact absurd (show false=true from hs) Bool.false_ne_true
 |Bt i =>
  obtain⟨t,rfl⟩:=rx;cases y with
  |Bt j=>obtain⟨t',rfl⟩:=ry;exact PySem.W.ne_bytes (cG I q (congrArg not DT))
  |_=>exact absurd (show false=true from hs) Bool.false_ne_true
 |_=>cases y <;> exact absurd (show false=true from hs) Bool.false_ne_true
theorem ka:mi X (compareOp .Lt) (Fm λi j=>.bl (decide (i<j))):=KZ λ_ _ _ _ _ _ _ q=>lt_int q
theorem lj:mi X (compareOp .LtE) (Fm λi j=>.bl (decide (i<=j))):=KZ λ_ _ _ _ _ _ _ q=>le_int q
theorem re:mi X (compareOp .Gt) (Fm λi j=>.bl (decide (j<i))):=KZ λ_ _ _ _ _ _ _ q=>gt_int q
theorem RZ:mi X (compareOp .GtE) (Fm λi j=>.bl (decide (j<=i))):=KZ λ_ _ _ _ _ _ _ q=>ge_int q
theorem OL:mi X (compareOp .Is) (λx y H Q=>y=.dH/\Q (.bl (decide (x=.dH))) H):=by
 intro pins s σ H x y v u Q I rx ry h;obtain⟨rfl,q⟩:=h;cases ry;refine is_none_gen (cG I q ?_);cases x <;> first
  |(cases rx;rfl)
  |(obtain⟨t,rfl⟩:=rx;rfl)
theorem nq(b:Expr){op:CmpOp}(h:op≠.In:=by decide)(h2:op≠.NotIn:=by decide):behindInMarks op b=false:=by
 have e1:(op == CmpOp.In)=false:=by cases op <;> first |rfl |exact absurd rfl h
 have e2:(op == CmpOp.NotIn)=false:=by cases op <;> first |rfl |exact absurd rfl h2
 cases b <;> simp [behindInMarks,e1,e2]
theorem DU{op:CmpOp}{r:R2}(ho:mi X (compareOp op) r)(ha:PE X a ta)(hb:PE X b tb)(hm:behindInMarks op b=false):PE X (.Compare a [op] [b] pos) (UA r ta tb):=by
 intro pins s σ H Q I h;exact wpAny_Compare1 (OI ha hb I h λv u s2 x y H2 I2 rx ry q=>ho pins s2 σ H2 x y v u Q I2 rx ry q) hm
def R8(t:TE):TT:=λσ H Q=>t σ H λx H'=>∃k,x=.bl k/\Q k H'
theorem kO{op:CmpOp}{r:R2}(ho:mi X (compareOp op) r)(ha:PE X a ta)(hb:PE X b tb)(hm:behindInMarks op b=false):PT X (.Compare a [op] [b] pos) (R8 (UA r ta tb)):=by
 intro pins s σ H Q I h;refine wpAny_isTrue_Compare1 (dB (ha pins s σ H _ I h) λv s1 ⟨x,H1,I1,r1,q1⟩=>dB (hb pins s1 σ H1 _ I1 q1) λu s2 ⟨y,H2,I2,r2,q2⟩ =>
  dB (ho pins s2 σ H2 x y v u _ I2 r1 r2 q2) λc s3 ⟨z,H3,I3,r3,k,e,q3⟩=>?_) hm
 subst e;cases r3;exact wpAny_truthy_bool ⟨H3,I3,q3⟩
def OM(r r':R2)(ta tb tc:TE):TE:=λσ H Q=>ta σ H λx H1=>tb σ H1 λy H2=>r x y H2 λz H3=>∃k,z=.bl k /\
 (if k=true then tc σ H3 λw' H4=>r' y w' H4 Q else Q (.bl false) H3)
theorem HJ{op ON:CmpOp}{r r':R2}(ho:mi X (compareOp op) r)(Bu:mi X (compareOp ON) r')(ha:PE X a ta)(hb:PE X b tb)(hc:PE X c tc)
  (hm:lastMarks [op,ON] [b,c]=false:=by with_unfolding_all rfl):PE X (.Compare a [op,ON] [b,c] pos) (OM r r' ta tb tc):=by
 intro pins s σ H Q I h;refine Compare_chain (dB (ha pins s σ H _ I h) λv s1 ⟨x,H1,I1,r1,q1⟩=>chain_link (dB (hb pins s1 σ H1 _ I1 q1) λu s2 ⟨y,H2,I2,r2,q2⟩ =>
  dB (ho pins s2 σ H2 x y v u _ I2 r1 r2 q2) λd s3 ⟨z,H3,I3,r3,k,e,q3⟩=>?_)) hm
 subst e;cases r3;refine wpAny_truthy_bool ?_;cases k with
 |false=>exact ite_ff ⟨.bl false,H3,I3,rfl,q3⟩
 |true=>exact ite_tt (chain_last (dB (hc pins s3 σ H3 _ I3 q3) λw' s4 ⟨z',H4,I4,r4,q4⟩=>Bu pins s4 σ H4 y z' u w' Q I4 r2 r4 q4))
theorem BI:(sizeLine:Nat)<2^63:=by rw[sizeLine_eq];decide
theorem mR{x:V}{us:List Value}(r:cC [x] us):∃u,us=[u]/\cz x u:=by
 cases r with
 |cons r1 r2=>cases r2;exact⟨_,rfl,r1⟩
theorem ND{x y:V}{us:List Value}(r:cC [x,y] us):∃u w',us=[u,w']/\cz x u/\cz y w':=by
 cases r with
 |cons r1 r2 =>
  cases r2 with
  |cons r3 r4=>cases r4;exact⟨_,_,rfl,r1,r3⟩
theorem HK:lh X (.builtin "abs") (λxs H Q=>∃i,xs=[.int i]/\Q (.int (if i<0 then -i else i)) H):=by
 intro pins s σ H xs us Q I r h;obtain⟨i,rfl,q⟩:=h;obtain⟨u,rfl,t,rfl⟩:=mR r;exact call_abs_int λu tk=>⟨.int (if i<0 then -i else i),H,I.tok _,⟨_,rfl⟩,q⟩
theorem Fn(hc:X.gB=true):lh X (.builtin "max") (λxs H Q=>∃i j,xs=[.int i,.int j]/\Q (.int (if j > i then j else i)) H):=by
 intro pins s σ H xs us Q I r h;obtain⟨i,j,rfl,q⟩:=h;obtain⟨u,w',rfl,⟨t,rfl⟩,⟨t',rfl⟩⟩:=ND r;refine max_two_ints (I.ok.hd hc) λh' tk k=>⟨_,H,I.jd k,?_,q⟩
 by_cases hj:j > i
 ·rw[if_pos hj,if_pos hj];exact⟨_,rfl⟩
 ·rw[if_neg hj,if_neg hj];exact⟨_,rfl⟩
theorem zu:lh X (.builtin "ord") (λxs H Q=>∃x,xs=[.str x]/\x.length=1/\Q (.int (x.cps.getD 0 0:Nat)) H):=by
 intro pins s σ H xs us Q I r h;obtain⟨x,rfl,hz,q⟩:=h;obtain⟨u,rfl,t,rfl⟩:=mR r;exact ord_of_one hz ⟨.int _,H,I.tok _,⟨_,rfl⟩,q⟩
end
end L2
namespace L2
open PySem PySem.Spec PyProof.Rows
structure BJ(h:Heap)(x dx C:Addr)(mA:Str->Option Value):Prop where
 obj:h.get? x=some (PySem.W.instObj C dx)
 ns:h.Ns1 dx mA
 ne:dx≠x
theorem Fo{h:Heap}{dx:Addr}{mA:Str->Option Value}(n:h.Ns1 dx mA):∃od,h.get? dx=some od/\∀name,PySem.W.lookIn name od=some (mA name):=by
 obtain⟨o,es,ep,ho,hd,hk,_,hm⟩:=n;refine⟨o,ho,λname=>?_⟩;have e:=hm name;unfold nsFind findBy at e;rw[<-Array.find?_toList] at e;unfold PySem.W.lookIn;rw[hd];dsimp only;split
 ·rename_i y q;rw[q] at e;exact congrArg some e
 ·rename_i q;rw[q] at e;have a:es.toList.any (·.refKey)=false:=by
   rw[List.any_eq_false];intro y hy;obtain⟨z,t,Vv⟩:=hk y (Array.mem_toList_iff.mp hy);simp [DictEntry.refKey,Vv]
  have a':¬es.toList.any (·.refKey)=true:=by rw[a];exact Bool.false_ne_true
  rw[if_neg a'];exact congrArg some e
theorem BJ.Fp{h:Heap}{x dx C:Addr}{mA:Str->Option Value}(I:BJ h x dx C mA):∃od,PySem.W.InstAt h x (PySem.W.instObj C dx) C (some od)/\∀name,PySem.W.lookIn name od=some (mA name) :=
 let ⟨od,ho,hl⟩:=Fo I.ns
 ⟨od,⟨I.obj,rfl,rfl,ho⟩,hl⟩
section
variable{prog:Program}{w:World}{A:Around}{E:Value->Shared->Prop}{s:Shared}{K:Frag}{x dx C f:Addr}{mA:Str->Option Value}{name:Str}{v:Value}
theorem DV{expr:Bool}{Q:Value->Shared->Prop}(X:K.In s.heap)(I:BJ s.heap x dx C mA)(hg:PySem.W.plainGet K C name=true)(hh:PySem.W.hasDictIn K C=true)
  (ha:findIn K (.ref C) name=some none)(hv:mA name=some v)(Zp:PySem.W.handedIn v=true)(h:Q v {s with toks:=s.toks+1}) :
  wpAny (model prog w) A (getAttr (.ref x) name expr) Q E s:=by
 obtain⟨od,J,hl⟩:=I.Fp;exact PySem.W.get_value X J (PySem.W.plainGet_of hg).1 (PySem.W.findObj_own hh ha rfl (by rw[hl,hv])) Zp h
theorem HL{pl:Sem Bool}{Q:Value×List Value->Shared->Prop}(X:K.In s.heap)(I:BJ s.heap x dx C mA)(hg:PySem.W.plainGet K C name=true)
  (hf:findIn K (.ref C) name=some (some (.ref f)))(ht:PySem.W.isFn K (.ref f)=true)(hv:mA name=none)(h:Q (.ref f,[.ref x]) s) :
  wpAny (model prog w) A (getMethod (.ref x) name pl) Q E s:=by
 obtain⟨od,J,hl⟩:=I.Fp;exact PySem.W.method_fn X J (PySem.W.plainGet_of hg).1 (PySem.W.plainGet_of hg).2 hf (beq_iff_eq.mp ht) (by show (PySem.W.lookIn name od).map (·.isSome)=some false;rw[hl,hv];rfl) h
theorem K1{ns:List Str}{Q:Unit->Shared->Prop}(X:K.In s.heap)(I:BJ s.heap x dx C mA)
  (hs:findIn K (.ref C) "__setattr__"=some (some (.builtin "object.__setattr__")))(hp:PySem.W.plainOver K C=true)(ht:PySem.W.takerIn K C name=some none)(hh:PySem.W.hasDictIn K C=true)
  (hw:PySem.Within mA ns)(hsz:ns.length<=sizeLine)
  (h:∀h',BJ h' x dx C (λy=>if y=name then some v else mA y)->Heap.SameBut dx s.heap h'->Q () {s with heap:=h',toks:=s.toks+2}) :
  wpAny (model prog w) A (setAttr (.ref x) name v) Q E s:=by
 obtain⟨od,J,hl⟩:=I.Fp;refine PySem.W.set_plain X J hs (PySem.W.osa_open (s:={s with toks:=s.toks+1}) (r:=none) X J hp ht λb=>?_);obtain⟨cd,hc,DO⟩:=PySem.W.any_some hh;have hx:s.heap.get? x=some ⟨.ref C,some dx,.plain,#[]⟩:=I.obj;refine wpAny_bind (wpAny_pure (wpAny_bind (wpAny_bind (wpAny_loadPart hx (wpAny_bind (PySem.W.Looks.here (s:={s with toks:=s.toks+1}) (PySem.W.looks_clsIn X hc) ?_))))));rw[DO];refine wpAny_pure (a:=some dx) (wpAny_bind (wpAny_pure (wpAny_bind ?_)));refine wpAny_nsSet1 (s:={s with toks:=s.toks+1}) I.ns λh' K2 Hl=>?_;obtain⟨oD,XT,XU,R9,Sa,Sb⟩:=K2.count (PySem.Within.cons name v hw);refine wpAny_bind (wpAny_lookBehind R9 (by rw[Sa];exact pastItsLine_dict (Nat.le_trans Sb (by rw[List.length_cons];omega))) ?_);exact wpAny_pure (h _ ⟨(Hl.2 _ (Ne.symm I.ne)).trans I.obj,K2,I.ne⟩ Hl)
theorem HM{R:Result->Shared->Prop}{vs:List Value}{kw:List (Str×Value)}(X:K.In s.heap)(hm:PySem.W.makesIn K C=true)
  (hi:findIn K (.ref C) "__init__"=some (some (.ref f)))(hf:PySem.W.typeIn K (.ref f)=some (.type "function"))
  (h:codeAny (model prog w) (A.under (.builtin "type.__call__" ⟨.ref C::vs,kw⟩)) (.call (.ref f) ⟨.ref (s.heap.objs.size+1)::vs,kw⟩) (PySem.W.InitBack (s.heap.objs.size+1) R)
   {s with heap:=(s.heap.push PySem.W.emptyDict).push (PySem.W.instObj C s.heap.objs.size)}) :
  codeAny (model prog w) A (.call (.ref C) ⟨vs,kw⟩) R s:=by
 obtain⟨hh,g,d,t,os⟩:=s;exact PySem.W.make_core (PySem.W.makes_of X hm) (PySem.W.looks_findIn X hi) (λself=>PySem.W.bind_fn X self hf) (.inl rfl) h
end
def gk(f:Str)(v:V):List (Str×V)->List (Str×V)
 |[]=>[(f,v)]
 |(g,x)::r=>if g=f then (g,v)::r else (g,x)::gk f v r
theorem df(f g:Str)(v:V):∀fs:List (Str×V),(gk f v fs).lookup g=if g=f then some v else fs.lookup g
 |[]=>by
  show List.lookup g [(f,v)]=_
  by_cases h:g=f
  ·have hb:(g == f)=true:=beq_iff_eq.mpr h;simp only[List.lookup,hb,if_pos h]
  ·have hb:(g == f)=false:=beq_eq_false_iff_ne.mpr h;simp only[List.lookup,hb,if_neg h]
 |(k,x)::r=>by
  have ih:=df f g v r;rw[show gk f v ((k,x)::r)=(if k=f then (k,v)::r else (k,x)::gk f v r) from rfl]
  by_cases hk:k=f
  ·rw[if_pos hk]
   by_cases h:g=k
   ·have hb:(g == k)=true:=beq_iff_eq.mpr h;simp only[List.lookup,hb,if_pos (h.trans hk)]
   ·have hb:(g == k)=false:=beq_eq_false_iff_ne.mpr h;simp only[List.lookup,hb,if_neg (λe:g=f=>h (e.trans hk.symm))]
  ·rw[if_neg hk]
   by_cases h:g=k
   ·have hb:(g == k)=true:=beq_iff_eq.mpr h;simp only[List.lookup,hb,if_neg (λe:g=f=>hk (h.symm.trans e))]
   ·have hb:(g == k)=false:=beq_eq_false_iff_ne.mpr h;simp only[List.lookup,hb];exact ih
theorem kb(f:Str)(v:V):∀fs:List (Str×V),f∈(gk f v fs).map (·.1)/\∀g,g∈fs.map (·.1)->g∈(gk f v fs).map (·.1)
 |[]=>⟨by simp [gk],λg h=>by simp at h⟩
 |(k,x)::r=>by
  obtain⟨i1,i2⟩:=kb f v r;rw[show gk f v ((k,x)::r)=(if k=f then (k,v)::r else (k,x)::gk f v r) from rfl]
  by_cases hk:k=f
  ·rw[if_pos hk];subst hk;exact⟨by simp,λg h=>by simpa using h⟩
  ·rw[if_neg hk];refine⟨?_,λg h=>?_⟩
   ·rw[List.map_cons];exact List.mem_cons_of_mem _ i1
   ·rw[List.map_cons] at h ⊢;rcases List.mem_cons.mp h with e |e
    ·exact List.mem_cons.mpr (.inl e)
    ·exact List.mem_cons_of_mem _ (i2 g e)
theorem fU(f:Str)(v:V):∀fs:List (Str×V),(gk f v fs).length<=fs.length+1
 |[]=>by simp [gk]
 |(k,x)::r=>by
  have ih:=fU f v r;rw[show gk f v ((k,x)::r)=(if k=f then (k,v)::r else (k,x)::gk f v r) from rfl]
  by_cases hk:k=f
  ·rw[if_pos hk,List.length_cons,List.length_cons];omega
  ·rw[if_neg hk,List.length_cons,List.length_cons];omega
theorem jy.oE{v:V}{o:Option Value}(r:jy (some v) o):∃u,o=some u/\cz v u:=by
 cases o with
 |none=>exact(show False from r).elim
 |some u=>exact⟨u,rfl,r⟩
theorem jy.K4{o:Option Value}(r:jy none o):o=none:=by
 cases o with
 |none=>rfl
 |some u=>exact(show False from r).elim
theorem qk{v:V}{u:Value}(r:cz v u):PySem.W.handedIn u=true:=by
 cases v with
 |dH=>cases (show u=Value.none from r);rfl
 |bl b=>cases (show u=Value.bool b from r);rfl
 |int i=>obtain⟨t,e⟩:=(show ∃t,u=Value.int i t from r);cases e;rfl
 |str x=>obtain⟨t,e⟩:=(show ∃t,u=Value.str x t from r);cases e;rfl
 |Bt b=>obtain⟨t,e⟩:=(show ∃t,u=Value.bytes b t from r);cases e;rfl
 |rW b=>obtain⟨t,e⟩:=(show ∃t,u=Value.float b t from r);cases e;rfl
 |ref a=>cases (show u=Value.ref a from r);rfl
 |ty n=>cases (show u=Value.type n from r);rfl
section
variable{P:Program}{w:World}{H H':Hp}{h h':Heap}{a C dx:Addr}{fs Ho:List (Str×V)}
theorem sf(hok:jz P w H h)(e:H a=some (.g9 C dx fs)):∃mA,BJ h a dx C mA/\(∀f,jy (fs.lookup f) (mA f))/\PySem.Within mA (fs.map (·.1))/\fs.length<=1000/\H dx=some (.own a):=by
 obtain⟨d,z,ne,ob,mA,n,r,q⟩:=(show cB P w H h a (.g9 C dx fs) from hok a _ e)
 exact⟨mA,⟨ob,n,ne⟩,r,q,z,d⟩
end
structure ve(K:Frag)(C:Addr):Prop where
 pg:PySem.W.plainGet K C Str.empty=true
 hd:PySem.W.hasDictIn K C=true
 po:PySem.W.plainOver K C=true
 sa:findIn K (.ref C) "__setattr__"=some (some (.builtin "object.__setattr__"))
theorem ve.get{K:Frag}{C:Addr}(c:ve K C)(f:Str):PySem.W.plainGet K C f=true:=c.pg
def gr(K:Frag)(C:Addr)(f:Str):Prop:=findIn K (.ref C) f=some none
theorem gr.Sc{K:Frag}{C:Addr}{f:Str}(n:gr K C f):PySem.W.takerIn K C f=some none:=by
 unfold PySem.W.takerIn;rw[show findIn K (.ref C) f=some none from n];rfl
structure zw(K:Frag)(C:Addr)(m:Str)(f:Addr):Prop where
 at_:findIn K (.ref C) m=some (some (.ref f))
 fn:PySem.W.isFn K (.ref f)=true
 kp:keepIn K (.ref f)=true
section
variable{X:Cx}{pins:List (Addr×Obj)}{σ:St}{H:Hp}{s:Shared}{a C dx:Addr}{fs:List (Str×V)}{f:Str}{v:V}{A:Around}{E:Value->Shared->Prop}
theorem BK{b:Bool}{Q:Value->Shared->Prop}(I:Inv X pins σ H s)(e:H a=some (.g9 C dx fs))(c:ve X.K C)(n:gr X.K C f)(l:fs.lookup f=some v)
  (h:∀u s',Inv X pins σ H s'->cz v u->Q u s'):wpAny (model X.prog X.w) A (getAttr (.ref a) f b) Q E s:=by
 obtain⟨mA,O,r,_,_,_⟩:=sf I.hok e;obtain⟨u,hu,ru⟩:=jy.oE (v:=v) (o:=mA f) (by rw[<-l];exact r f);exact DV I.je O (c.get f) c.hd n hu (qk ru) (h u _ (I.tok _) ru)
theorem tG{m:Str}{g:Addr}{pl:Sem Bool}{Q:Value×List Value->Shared->Prop}(I:Inv X pins σ H s)(e:H a=some (.g9 C dx fs))(c:ve X.K C)(k:zw X.K C m g)(l:fs.lookup m=none)
  (h:Q (.ref g,[.ref a]) s):wpAny (model X.prog X.w) A (getMethod (.ref a) m pl) Q E s:=by
 obtain⟨mA,O,r,_,_,_⟩:=sf I.hok e;have hn:mA m=none:=jy.K4 (by rw[<-l];exact r m);exact HL I.je O (c.get m) k.at_ k.fn hn h
theorem BL{y:V}{u:Value}{Q:Unit->Shared->Prop}(I:Inv X pins σ H s)(e:H a=some (.g9 C dx fs))(c:ve X.K C)(n:gr X.K C f)(hl:fs.length<1000)(ry:cz y u)
  (h:∀s',Inv X pins σ (dE H a (.g9 C dx (gk f y fs))) s'->Q () s'):wpAny (model X.prog X.w) A (setAttr (.ref a) f u) Q E s:=by
 obtain⟨mA,O,r,wi,_,ho⟩:=sf I.hok e;have hz:(fs.map (·.1)).length<=sizeLine:=by rw[List.length_map,sizeLine_eq];omega
 refine K1 I.je O c.sa c.po n.Sc c.hd wi hz λh' O' sb=>h _ ?_;have hd:∃o,h'.get? dx=some o:=let ⟨o,_,_,e',_⟩:=O'.ns;⟨o,e'⟩;refine I.lE (x:=a) (e:=dx) (by rw[e];exact True.intro) (.inr ho) (λb q hb z=>(sb.2 b hb).trans z) hd ?_;refine⟨by rw[aB O.ne];exact ho,?_,O.ne,O'.obj,_,O'.ns,λg=>?_,λg hg=>?_⟩
 ·have:=fU f y fs;omega
 ·show jy ((gk f y fs).lookup g) (if g=f then some u else mA g);rw[df]
  by_cases q:g=f
  ·rw[if_pos q,if_pos q];exact ry
  ·rw[if_neg q,if_neg q];exact r g
 ·by_cases q:g=f
  ·rw[q];exact(kb f y fs).1
  ·refine(kb f y fs).2 g (wi g λz=>hg ?_);show (if g=f then some u else mA g)=none;rw[if_neg q];exact z
theorem Inv.K5(I:Inv X pins σ H s):Inv X pins σ (dE (dE H s.heap.objs.size (.own (s.heap.objs.size+1))) (s.heap.objs.size+1) (.g9 C s.heap.objs.size []))
  {s with heap:=(s.heap.push PySem.W.emptyDict).push (PySem.W.instObj C s.heap.objs.size)}:=by
 have e1:(s.heap.push PySem.W.emptyDict).get? s.heap.objs.size=some PySem.W.emptyDict:=Heap.get?_push_size s.heap rfl;have e2:((s.heap.push PySem.W.emptyDict).push (PySem.W.instObj C s.heap.objs.size)).get? (s.heap.objs.size+1)=some (PySem.W.instObj C s.heap.objs.size):=by
  have:=Heap.get?_push_size (s.heap.push PySem.W.emptyDict) (o:=PySem.W.instObj C s.heap.objs.size) rfl;rwa [Heap.size_push] at this
 have e3:(s.heap.push PySem.W.emptyDict).Ns s.heap.objs.size (λ_=>none):=⟨PySem.W.emptyDict,#[],_,e1,rfl,(λe he=>absurd he (by simp)),λ_=>rfl⟩
 have I1:=I.qg (a:=s.heap.objs.size) (o:=.own (s.heap.objs.size+1)) (h':=s.heap.push PySem.W.emptyDict) (t':=s.toks) (λb u q=>Heap.get?_push_of_some _ q) (Nat.le_refl _) ⟨_,e1⟩;refine I1.qg (a:=s.heap.objs.size+1) (o:=.g9 C s.heap.objs.size []) (t':=s.toks) (λb u q=>Heap.get?_push_of_some _ q) (Nat.le_of_eq (Heap.size_push _ _)) ?_;have ne:s.heap.objs.size≠s.heap.objs.size+1:=Nat.ne_of_lt (Nat.lt_succ_self _);refine⟨by rw[aB ne,aC],Nat.zero_le _,ne,e2,λ_=>none,(Heap.Ns1.of_empty e3).at λo q=>Heap.get?_push_of_some _ q,λ_=>True.intro,λy hy=>absurd rfl hy⟩
theorem xD{prog:Program}{w:World}{env:Env}{e:Expr}{f:Str}{pos:Pos}{s:Shared}{Q:Value->Shared->Prop}(hb:attributeBase e f env (eval e env)=eval e env)
  (h:wpAny (model prog w) A (eval e env) (λo s₁=>wpAny (model prog w) A (getAttr o f true) Q E s₁) E s):wpAny (model prog w) A (eval (.Attribute e f pos) env) Q E s :=
 Attribute_any_ h (by rw[arm_eval_Attribute,hb])
end
def Vw(K:Frag)(ta:TE)(f:Str):TE:=λσ H Q=>ta σ H λx H1=>∃a C dx fs v,x=.ref a/\H1 a=some (.g9 C dx fs)/\ve K C/\gr K C f/\fs.lookup f=some v/\Q v H1
def Vx(K:Frag)(ta tv:TE)(f:Str):TS:=λD σ H=>tv σ H λy H1=>ta σ H1 λx H2=>∃a C dx fs,x=.ref a/\H2 a=some (.g9 C dx fs)/\ve K C/\gr K C f/\fs.length<1000 /\
 D.nx σ (dE H2 a (.g9 C dx (gk f y fs)))
section
variable{X:Cx}{o e value:Expr}{f:Str}{pos pos' Vy:Pos}{ta tv:TE}
theorem OO(he:PE X e ta)(hb:attributeBase e f X.env (eval e X.env)=eval e X.env):PE X (.Attribute e f pos) (Vw X.K ta f):=by
 intro pins s σ H Q I h;refine xD hb (dB (he pins s σ H _ I h) λu s1 ⟨x,H1,I1,rx,a,C,dx,fs,v,ex,ea,c,n,l,q⟩=>?_);subst ex;obtain rfl:u=Value.ref a:=rx;exact BK I1 ea c n l λu' s2 I2 ru=>⟨v,H1,I2,ru,q⟩
theorem BM(ha:PE X o ta)(hv:PE X value tv)(hs:swapsWith value (some (.Attribute o f pos')) pos.line X.env=pure false):PS X (.Assign [.Attribute o f pos'] value pos) (Vx X.K ta tv f):=by
 intro pins s σ H D I h;refine plainObj_wpAny_Assign_Attribute (dB (hv pins s σ H _ I h) λu s1 ⟨y,H1,I1,ry,q⟩=>dB (ha pins s1 σ H1 _ I1 q) λov s2 ⟨x,H2,I2,rx,a,C,dx,fs,ex,ea,c,n,l,q2⟩=>?_) hs;subst ex;obtain rfl:ov=Value.ref a:=rx;exact BL I2 ea c n l ry λs3 I3=>⟨σ,_,I3,q2⟩
end
section
variable{X:Cx}{pins:List (Addr×Obj)}{σ:St}{H:Hp}{s:Shared}{A:Around}{E:Value->Shared->Prop}{Q:Value->Shared->Prop}{c:Value}{b:Bool}
end
end L2
namespace L2
open PySem PySem.Spec PyProof.Rows
structure cx(k:Nat)(A:Around):Prop where
 hd:A.handled=none
 dp:A.depth+3*k+5<recursionLimit
 un:A.units+16*k+200<cLine
theorem cx.aw{j k:Nat}{A:Around}(r:cx k A)(h:j<=k):cx j A:=⟨r.hd,by have:=r.dp;omega,by have:=r.un;omega⟩
theorem cx.deeper{k:Nat}{A:Around}(r:cx (k+1) A)(env:Env):cx k (A.deeper env) :=
 ⟨r.hd,by have:=r.dp;show A.depth+1+3*k+5<_;omega,by have:=r.un;show A.units+3+16*k+200<_;omega⟩
theorem BN{A:Around}{C:Addr}{us:List Value}{kw:List (Str×Value)}:(A.under (.builtin "type.__call__" ⟨.ref C::us,kw⟩)).depth=A.depth+1:=by
 first |rfl |simp [Around.under,Code.weight,Code.isCreation,Code.isGuard,Code.isCaller,Code.frames,Code.isFrame,guardIds]
theorem BO{A:Around}{C:Addr}{us:List Value}{kw:List (Str×Value)}:(A.under (.builtin "type.__call__" ⟨.ref C::us,kw⟩)).units=A.units+1:=by
 first |rfl |simp [Around.under,Code.cUnits,Code.frames,Code.isFrame]
theorem cx.HN{k:Nat}{A:Around}(r:cx (k+1) A)(C:Addr)(us:List Value)(kw:List (Str×Value)):cx k (A.under (.builtin "type.__call__" ⟨.ref C::us,kw⟩)) :=
 ⟨r.hd,by have:=r.dp;rw[BN];omega,by have:=r.un;rw[BO];omega⟩
theorem cx.depth{k:Nat}{A:Around}(r:cx k A):A.depth<recursionLimit:=by have:=r.dp;omega
def HP:TA:=λ_ H Q=>Q [] H
def zx(ta:TE)(tr:TA):TA:=λσ H Q=>ta σ H λx H1=>tr σ H1 λxs H2=>Q (x::xs) H2
section
variable{X:Cx}{e:Expr}{es:List Expr}{te:TE}{t:TA}{pos:Pos}
theorem cV:PA X [] HP:=λ_ _ _ _ H Q I h=>Calls.spliced_nil ⟨[],H,I,.nil,h⟩
theorem bI(ha:PE X e te)(hr:PA X es t)(hs:starEach (e::es) X.env=(false,eval e X.env)::starEach es X.env:=by rfl):PA X (e::es) (zx te t):=by
 intro pos pins s σ H Q I h;rw[hs];show wpAny _ _ (spliced ((false,eval e X.env)::backTo pos (starEach es X.env))) _ _ s;refine Calls.spliced_cons (dB (ha pins s σ H _ I h) λu s1 ⟨x,H1,I1,r1,q1⟩=>?_);exact dB (hr pos pins s1 σ H1 _ I1 q1) λus s2 ⟨xs,H2,I2,r2,q2⟩=>⟨x::xs,H2,I2,.cons r1 r2,q2⟩
def Vz(t:TA):TE:=λσ H Q=>t σ H λxs H1=>xs.length<=sizeLine/\∀p,H1 p=none->Q (.ref p) (dE H1 p (.iQ xs))
def VA(t:TA):TE:=λσ H Q=>t σ H λxs H1=>xs.length<=sizeLine/\∀p,H1 p=none->Q (.ref p) (dE H1 p (.de xs))
theorem OP{x1}(h:PA X es t):PE X (.Tuple es x1 pos) (Vz t):=by
 intro pins s σ H Q I hq;refine wpAny_Tuple_spliced (dB (h pos pins s σ H _ I hq) λus s1 ⟨xs,H1,I1,r,z,q⟩=>⟨by rw[<-r.length];exact z,?_⟩);have hf:H1 s1.heap.objs.size=none:=I1.hok.fresh (Nat.le_refl _);refine⟨.ref s1.heap.objs.size,dE H1 s1.heap.objs.size (.iQ xs),I1.qg (t':=s1.toks) (λb u e=>Heap.get?_push_of_some _ e) (Nat.le_refl _) ?_,rfl,q _ hf⟩;exact⟨z,us,r,⟨_,Heap.get?_push_size _ rfl,rfl,_,rfl⟩⟩
theorem xE(h:PA X es t):PE X (.List es pos) (VA t):=by
 intro pins s σ H Q I hq;refine wpAny_List_spliced (dB (h pos pins s σ H _ I hq) λus s1 ⟨xs,H1,I1,r,z,q⟩=>⟨by rw[<-r.length];exact z,?_⟩);have hf:H1 s1.heap.objs.size=none:=I1.hok.fresh (Nat.le_refl _);refine⟨.ref s1.heap.objs.size,dE H1 s1.heap.objs.size (.de xs),I1.qg (t':=s1.toks) (λb u e=>Heap.get?_push_of_some _ e) (Nat.le_refl _) ?_,rfl,q _ hf⟩;exact⟨z,us,0,r,Heap.get?_push_size _ rfl⟩
end
abbrev Sp:=List V->Hp->VK->XK->Prop
abbrev K6:=List Env->Hp->Shared->XK->Value->Shared->Prop
structure BP(P:Program)(w:World)(K:Frag)(mg:Str->Option Value)(base:Heap)(A:Around)(ai:List Env)(s:Shared)(H:Hp):Prop where
 frames:A.frames=some ai
 mod:Mod K mg base
 bs:∀b o,base.get? b=some o->s.heap.get? b=some o/\H b=none
 BC:base.objs.size<=s.heap.objs.size
 lu:s.heap.FunFrames base ai
 Fa:∀b∈tu ai,H b=none
 hok:jz P w H s.heap
 fF:AllBare s.gens
def CE(ai:List Env)(P:Program)(w:World)(H:Hp)(s:Shared)(Q:VK)(u:Value)(s':Shared):Prop :=
 ∃v H',s'.os=s.os/\AllBare s'.gens/\Un (tu ai) [] H H' s.heap s'.heap/\jz P w H' s'.heap/\cz v u/\Q v H'
def CR(CX:K6)(ai:List Env)(P:Program)(w:World)(H:Hp)(s:Shared)(Q:VK)(E:XK)(r:Result)(s':Shared):Prop :=
 match r with
 |.ok (.ret u)=>CE ai P w H s Q u s'
 |.ok _=>False
 |.error e=>CX ai H s E e s'
structure g5(P:Program)(w:World)(K:Frag)(mg:Str->Option Value)(base:Heap)(CX:K6)(k:Nat)(f:Addr)(fd:FuncData)(ps:List Str)(sp:Sp):Prop where
 len:∀vs H Q E,sp vs H Q E->vs.length=ps.length
 run:∀(A:Around) (ai:List Env) (s:Shared) (H:Hp) (args:Args) (us:List Value) (vs:List V) (Q:VK) (E:XK),cx k A->BP P w K mg base A ai s H->BindsTo s fd args (ps.zip us)->cC vs us->sp vs H Q E ->
  codeAny (model P w) A (.call (.ref f) args) (CR CX ai P w H s Q E) s
theorem BP.HN{P:Program}{w:World}{K:Frag}{mg:Str->Option Value}{base:Heap}{A:Around}{ai:List Env}{s:Shared}{H:Hp}(e:BP P w K mg base A ai s H)(C:Addr)(us:List Value)(kw:List (Str×Value)) :
  BP P w K mg base (A.under (.builtin "type.__call__" ⟨.ref C::us,kw⟩)) ai s H:=⟨by first |exact e.frames |(simpa [Around.under,Code.envs,Code.isFrame,pushEnvs] using e.frames),e.mod,e.bs,e.BC,e.lu,e.Fa,e.hok,e.fF⟩
section
variable{X:Cx}{pins:List (Addr×Obj)}{σ:St}{H:Hp}{s s':Shared}
theorem Inv.K7(I:Inv X pins σ H s):BP X.prog X.w X.K X.mg X.base X.A X.stack s H :=
 ⟨I.ok.frames,I.ok.mod,I.bs,Nat.le_trans I.ok.BC I.sz,I.stack,I.oq,I.hok,I.fF⟩
theorem Inv.after{Q:VK}{u:Value}(I:Inv X pins σ H s)(h:CE X.stack X.prog X.w H s Q u s'):EP X pins σ Q u s':=by
 obtain⟨v,H',os,fF,un,hok,r,q⟩:=h;obtain⟨hh,g,d,t,Zq⟩:=s';obtain rfl:Zq=s.os:=os;exact⟨v,H',I.call (h':=hh) (g':=g) (d':=d) (t':=t) (ch:=[]) un hok fF (λb z=>absurd z (by simp)),r,q⟩
end
def HQ(sp:Sp)(pV:List V)(E:XK)(t:TA):TE:=λσ H Q=>t σ H λvs H1=>sp (vs++pV) H1 Q E
def NE(C:Addr)(m:Str)(sp:Sp)(pV:List V)(E:XK)(ta:TE)(t:TA):TE:=λσ H Q=>ta σ H λx H1=>∃a dx fs,x=.ref a/\H1 a=some (.g9 C dx fs)/\fs.lookup m=none /\
 t σ H1 λvs H2=>sp (x::(vs++pV)) H2 Q E
def Sd(C:Addr)(sp:Sp)(pV:List V)(E:XK)(t:TA):TE:=λσ H Q=>t σ H λvs H1=>∀x dx,H1 x=none->H1 dx=none->dx≠x ->
 sp (.ref x::(vs++pV)) (dE (dE H1 dx (.own x)) x (.g9 C dx [])) (λv H2=>v=.dH/\Q (.ref x) H2) E
def fG(K:Frag)(fd:FuncData)(ps:List Str)(ds:List Value):Prop :=
 ∀(s:Shared) (us:List Value),K.In s.heap->(us++ds).length=ps.length->BindsTo s fd ⟨us,[]⟩ (ps.zip (us++ds))
theorem fG.all{K:Frag}{fd:FuncData}{ps:List Str}(h:∀us:List Value,us.length=ps.length->bindArgs fd ⟨us,[]⟩=pure (ps.zip us)):fG K fd ps []:=λs us _ hl=>by
 rw[List.append_nil] at hl ⊢;exact .of_eq (h us hl)
def kP(CX:K6)(X:Cx)(E:XK):Prop:=∀(pins:List (Addr×Obj)) (σ:St) (H:Hp) (s:Shared) (e:Value) (s':Shared),Inv X pins σ H s->CX X.stack H s E e s'->X.xe e s'
section
variable{X:Cx}{CX:K6}{k:Nat}{f C:Addr}{fd:FuncData}{ps:List Str}{sp:Sp}{pV:List V}{ds:List Value}{E:XK}{x m:Str}{p pos apos:Pos}{e o:Expr}{es:List Expr}{ta:TE}{t:TA}
theorem BQ{pins:List (Addr×Obj)}{σ:St}{H:Hp}{s:Shared}{Q:VK}{us:List Value}{vs:List V}(F:g5 X.prog X.w X.K X.mg X.base CX k f fd ps sp)(hr:cx k X.A)(hb:fG X.K fd ps ds)(hd:cC pV ds)(hx:kP CX X E)
  (I:Inv X pins σ H s)(r:cC vs us)(h:sp (vs++pV) H Q E):wpAny (model X.prog X.w) X.A (call (.ref f) us) (EP X pins σ Q) X.xe s:=by
 have r2:cC (vs++pV) (us++ds):=r.append hd;have hl:(us++ds).length=ps.length:=by rw[<-r2.length];exact F.len _ _ _ _ h
 refine wpAny_call (codeAny_mono (F.run X.A X.stack s H ⟨us,[]⟩ (us++ds) (vs++pV) Q E hr I.K7 (hb s us I.je hl) r2 h) λr s' hq=>?_);cases r with
 |error e=>exact hx pins σ H s e s' I hq
 |ok fl =>
  cases fl with
  |ret u=>exact I.after hq
  |next=>exact False.elim hq
  |brk=>exact False.elim hq
  |cont=>exact False.elim hq
theorem jB(F:g5 X.prog X.w X.K X.mg X.base CX k f fd ps sp)(hr:cx k X.A)(hg:Gl X x)(hm:X.mg x=some (.ref f))(hk:keepIn X.K (.ref f)=true)(hb:fG X.K fd ps ds)(hd:cC pV ds)(hx:kP CX X E)
  (ha:PA X (e::es) t)(kf:(x == ("__debug__":Str))=false:=by decide)(he:starEach (e::es) X.env=(false,eval e X.env)::starEach es X.env:=by rfl)(d9:(backTo pos (starEach es X.env)).any (·.1)=false:=by rfl) :
  PE X (.Call (.Name x p) (e::es) [] pos) (HQ sp pV E t):=by
 intro pins s σ H Q I h;refine wpAny_Call_Name_kw (kL I hg hm ?_ kf);refine PySem.W.callWith_K (h₀:=X.base) I.ok.mod.Oq hk (dB (ha pos pins s σ H _ I h) λus s1 ⟨vs,H1,I1,r,q⟩=>⟨I1.je,?_⟩) he d9;exact BQ F hr hb hd hx I1 r q
theorem K8{pl:Sem Bool}(he:PE X o ta)(c:ve X.K C)(hm:zw X.K C m f)(F:g5 X.prog X.w X.K X.mg X.base CX k f fd ps sp)(hr:cx k X.A)(hb:fG X.K fd ps ds)(hd:cC pV ds)(hx:kP CX X E)(ha:PA X (e::es) t)
  (j9:starEach (e::es) X.env=(false,eval e X.env)::starEach es X.env:=by rfl)(d9:(backTo pos (starEach es X.env)).any (·.1)=false:=by rfl)
  (ht:eval (.Call (.Attribute o m apos) (e::es) [] pos) X.env=(do
   let ov<-eval o X.env
   standAt apos.atName
   let (f,first)<-holding [ov] (getMethod ov m pl)
   callWith pos f first (backTo pos (starEach (e::es) X.env)) (backToKw pos (keywordEach [] X.env))):=by rfl) :
  PE X (.Call (.Attribute o m apos) (e::es) [] pos) (NE C m sp pV E ta t):=by
 intro pins s σ H Q I h;refine PySem.W.methodCall_KW (pl:=pl) (dB (he pins s σ H _ I h) λu s1 ⟨x,H1,I1,rx,a,dx,fs,ex,ea,l,q⟩=>?_) ht;subst ex;obtain rfl:u=Value.ref a:=rx;refine tG I1 ea c hm l ?_;refine PySem.W.callWith_K (first:=[.ref a]) (h₀:=X.base) I.ok.mod.Oq hm.kp (dB (ha pos pins s1 σ H1 _ I1 q) λus s2 ⟨vs,H2,I2,r,q2⟩=>⟨I2.je,?_⟩) j9 d9;exact BQ (us:=.ref a::us) (vs:=.ref a::vs) F hr hb hd hx I2 (.cons rfl r) q2
theorem HR{pl:Sem Bool}(he:PE X o ta)(c:ve X.K C)(hm:zw X.K C m f)(F:g5 X.prog X.w X.K X.mg X.base CX k f fd ps sp)(hr:cx k X.A)(hb:fG X.K fd ps ds)(hd:cC pV ds)(hx:kP CX X E)
  (ht:eval (.Call (.Attribute o m apos) [] [] pos) X.env=(do
   let ov<-eval o X.env
   standAt apos.atName
   let (f,first)<-holding [ov] (getMethod ov m pl)
   callWith pos f first (backTo pos (starEach [] X.env)) (backToKw pos (keywordEach [] X.env))):=by rfl) :
  PE X (.Call (.Attribute o m apos) [] [] pos) (NE C m sp pV E ta HP):=by
 intro pins s σ H Q I h;refine PySem.W.methodCall_KW (pl:=pl) (dB (he pins s σ H _ I h) λu s1 ⟨x,H1,I1,rx,a,dx,fs,ex,ea,l,q⟩=>?_) ht;subst ex;obtain rfl:u=Value.ref a:=rx;refine tG I1 ea c hm l ?_;exact PySem.W.callWith_K0 (first:=[.ref a]) I1.je hm.kp (BQ (us:=[.ref a]) (vs:=[.ref a]) F hr hb hd hx I1 (.cons rfl .nil) q)
structure Mk(K:Frag)(C f:Addr):Prop where
 oF:PySem.W.makesIn K C=true
 init:findIn K (.ref C) "__init__"=some (some (.ref f))
 fn:PySem.W.isFn K (.ref f)=true
 kp:keepIn K (.ref C)=true
theorem HS{pins:List (Addr×Obj)}{σ:St}{H:Hp}{s:Shared}{Q:VK}{us:List Value}{vs:List V}(M:Mk X.K C f)(F:g5 X.prog X.w X.K X.mg X.base CX k f fd ps sp)(hr:cx (k+1) X.A)(hb:fG X.K fd ps ds)(hd:cC pV ds)
  (hx:kP CX X E)(I:Inv X pins σ H s)(r:cC vs us)
  (h:∀x dx,H x=none->H dx=none->dx≠x->sp (.ref x::(vs++pV)) (dE (dE H dx (.own x)) x (.g9 C dx [])) (λv H2=>v=.dH/\Q (.ref x) H2) E) :
  wpAny (model X.prog X.w) X.A (call (.ref C) us) (EP X pins σ Q) X.xe s:=by
 have hq:=h (s.heap.objs.size+1) s.heap.objs.size (I.hok.fresh (Nat.le_succ _)) (I.hok.fresh (Nat.le_refl _)) (Nat.ne_of_lt (Nat.lt_succ_self _));have I2:=Inv.K5 (C:=C) I;have r2:cC (V.ref (s.heap.objs.size+1)::(vs++pV)) (Value.ref (s.heap.objs.size+1)::(us++ds)):=.cons rfl (r.append hd);have hl:(Value.ref (s.heap.objs.size+1)::us++ds).length=ps.length:=by
  have e:=r2.length;rw[F.len _ _ _ _ hq] at e;exact e.symm
 refine wpAny_call (HM (f:=f) I.je M.oF M.init (beq_iff_eq.mp M.fn) (codeAny_mono (F.run _ X.stack _ _ ⟨Value.ref (s.heap.objs.size+1)::us,[]⟩ (Value.ref (s.heap.objs.size+1)::(us++ds)) _ _ E (hr.HN C us [])
  (I2.K7.HN C us []) (hb _ (Value.ref (s.heap.objs.size+1)::us) I2.je hl) r2 hq) λr s' u0=>?_))
 cases r with
 |error e=>exact hx pins σ _ _ e s' I2 u0
 |ok fl =>
  cases fl with
  |ret u =>
   obtain⟨v,H',I3,rv,ev,q3⟩:=I2.after u0;subst ev;exact⟨rv,⟨V.ref (s.heap.objs.size+1),H',I3,rfl,q3⟩⟩
  |next=>exact False.elim u0
  |brk=>exact False.elim u0
  |cont=>exact False.elim u0
theorem si(M:Mk X.K C f)(F:g5 X.prog X.w X.K X.mg X.base CX k f fd ps sp)(hr:cx (k+1) X.A)(hg:Gl X x)(hm:X.mg x=some (.ref C))(hb:fG X.K fd ps ds)(hd:cC pV ds)(hx:kP CX X E)
  (ha:PA X (e::es) t)(kf:(x == ("__debug__":Str))=false:=by decide)(he:starEach (e::es) X.env=(false,eval e X.env)::starEach es X.env:=by rfl)(d9:(backTo pos (starEach es X.env)).any (·.1)=false:=by rfl) :
  PE X (.Call (.Name x p) (e::es) [] pos) (Sd C sp pV E t):=by
 intro pins s σ H Q I h;refine wpAny_Call_Name_kw (kL I hg hm ?_ kf);refine PySem.W.callWith_K (h₀:=X.base) I.ok.mod.Oq M.kp (dB (ha pos pins s σ H _ I h) λus s1 ⟨vs,H1,I1,r,q⟩=>⟨I1.je,?_⟩) he d9;exact HS M F hr hb hd hx I1 r q
end
section
variable{X:Cx}{CX:K6}{k:Nat}{f C:Addr}{fd:FuncData}{ps ks:List Str}{sp:Sp}{E:XK}{x m:Str}{p pos apos Zr:Pos}{e o:Expr}{es:List Expr}{kws:List Keyword}{te ta:TE}{t tk:TA}{nm:Option Str}
variable{g:List Value->List Value->List Value}{gV:List V->List V->List V}
end
structure dQ(N P:List Str)(sc:Scope):Prop where
 kind:sc.kind=.function
 co:sc.isCoroutine=false
 Zs:sc.isGenerator=false
 nd:N.Nodup
 pre:N.take P.length=P
 XV:∀x∈P,sc.names.lookup x=some .local\/sc.names.lookup x=some .cell
 OQ:∀y∈sc.names,y.2≠.free
theorem vW{kindOf:Str->Option NameKind}{x:Str}:∀{lH:List (Str×Value)} {m:Str->Option Value},(∀v,(x,v)∉lH)->bindL kindOf lH m x=m x
 |[],_,_=>rfl
 |(n,v)::r,m,h=>by
  unfold bindL;rw[vW λw hw=>h w (List.mem_cons_of_mem _ hw)];split
  ·have:x≠n:=by rintro rfl;exact h v List.mem_cons_self
   simp [this]
  ·rfl
theorem vX{kindOf:Str->Option NameKind}{x:Str}:∀{lH:List (Str×Value)} {m:Str->Option Value},(∀v,(x,v)∉lH)->bindC kindOf lH m x=m x
 |[],_,_=>rfl
 |(n,v)::r,m,h=>by
  unfold bindC;rw[vX λw hw=>h w (List.mem_cons_of_mem _ hw)];split
  ·rfl
  ·have:x≠n:=by rintro rfl;exact h v List.mem_cons_self
   simp [this]
theorem vY{kindOf:Str->Option NameKind}{x:Str}{v:Value}:∀{P:List Str} {vs:List Value} {i:Nat} {m:Str->Option Value},P.Nodup->P[i]?=some x->vs[i]?=some v->kindOf x=some .local ->
  bindL kindOf (P.zip vs) m x=some v
 |[],_,_,_,_,h,_,_=>by simp at h
 |_::_,[],_,_,_,_,h,_=>by simp at h
 |p::P,w::vs,0,m,nd,h1,h2,hk=>by
  simp at h1 h2;subst h1;subst h2;show bindL kindOf ((p,w)::P.zip vs) m p=_;unfold bindL;rw[vW λv hv=>(List.nodup_cons.mp nd).1 (List.of_mem_zip hv).1,if_pos hk];simp
 |p::P,w::vs,i+1,m,nd,h1,h2,hk=>by
  show bindL kindOf ((p,w)::P.zip vs) m x=_;unfold bindL;exact vY (i:=i) (List.nodup_cons.mp nd).2 (by simpa using h1) (by simpa using h2) hk
theorem vZ{kindOf:Str->Option NameKind}{x:Str}{v:Value}:∀{P:List Str} {vs:List Value} {i:Nat} {m:Str->Option Value},P.Nodup->P[i]?=some x->vs[i]?=some v->kindOf x≠some .local ->
  bindC kindOf (P.zip vs) m x=some v
 |[],_,_,_,_,h,_,_=>by simp at h
 |_::_,[],_,_,_,_,h,_=>by simp at h
 |p::P,w::vs,0,m,nd,h1,h2,hk=>by
  simp at h1 h2;subst h1;subst h2;show bindC kindOf ((p,w)::P.zip vs) m p=_;unfold bindC;rw[vX λv hv=>(List.nodup_cons.mp nd).1 (List.of_mem_zip hv).1,if_neg hk];simp
 |p::P,w::vs,i+1,m,nd,h1,h2,hk=>by
  show bindC kindOf ((p,w)::P.zip vs) m x=_;unfold bindC;exact vZ (i:=i) (List.nodup_cons.mp nd).2 (by simpa using h1) (by simpa using h2) hk
def start(N:List Str)(vs:List V):St:=vs.map some++List.replicate (N.length - vs.length) none
def BR(CX:K6)(P:Program)(w:World)(K:Frag)(mg:Str->Option Value)(base:Heap)(N:List Str)(qual:Str)(scope:Scope)(f:Addr)(cd:Value)(A:Around)(ai:List Env)(s:Shared)(H:Hp)(E:XK):Cx where
 prog:=P
 w:=w
 K:=K
 mg:=mg
 base:=base
 A:=A.deeper (envOfC qual scope s.heap.objs.size f cd)
 N:=N
 tq:=s
 Rz:=H
 env:=envOfC qual scope s.heap.objs.size f cd
 ai:=ai
 stack:=envOfC qual scope s.heap.objs.size f cd::ai
 ex:=[]
 gB:=true
 fn:=λ_=>true
 pn:=[]
 xe:=λe s'=>wpAny (model P w) (A.deeper (envOfC qual scope s.heap.objs.size f cd)) (leaving (envOfC qual scope s.heap.objs.size f cd) e) (λ_ VB=>CX ai H s E e VB) (λe' VB=>CX ai H s E e' VB) s'
theorem zy{sc:Scope}{n:Nat}{x:Str}(h:sc.names.lookup x=some .cell):∃c,(cellsFrom n sc.names []).lookup x=some c:=by
 have q:=PySem.W.cellsFrom_some sc.names n [] (.inl h);exact Option.isSome_iff_exists.mp q
theorem Fq{CX:K6}{P:Program}{w:World}{K:Frag}{mg:Str->Option Value}{base:Heap}{N ps:List Str}{qual:Str}{scope:Scope}{f:Addr}{cd:Value}{A:Around}{ai:List Env}{s s1:Shared}{H:Hp}{E:XK}{us:List Value}{vs:List V}
  (S:dQ N ps scope)(hd:A.handled=none)(e0:BP P w K mg base A ai s H)(hl:vs.length=ps.length)(r:cC vs us)
  (x:InCallC s s.heap.objs.size (bindL (envOfC qual scope s.heap.objs.size f cd).kindOf (ps.zip us) λ_=>none) (cellsFrom (s.heap.objs.size+1) scope.names []) (bindC (envOfC qual scope s.heap.objs.size f cd).kindOf (ps.zip us) λ_=>none) s1) :
  Inv (BR CX P w K mg base N qual scope f cd A ai s H E) [] (start N vs) H s1:=by
 have d9:ps.length<=N.length:=by have:=congrArg List.length S.pre;rw[List.length_take] at this;omega
 obtain⟨h1,tk,rfl,hk⟩:=x.done;have OR:∀b:Addr,b∉(BR CX P w K mg base N qual scope f cd A ai s H E).ex:=λb z=>absurd (show b∈([]:List Addr) from z) (by simp);refine⟨⟨e0.mod,S.kind,rfl,rfl,Nat.le_refl _,λy z c h1 h2=>?_,λy hy=>?_,λy c _ h=>?_,λ_=>hd,Around.frames_deeper e0.frames,.inr ⟨rfl,rfl⟩,λb z=>absurd z (OR b),e0.bs,e0.BC,λb _ _=>OR b,λb z=>absurd z (OR b),e0.lu,e0.Fa⟩,
  rfl,e0.fF,Un.jd hk,⟨_,x.toInCall.ns,λi y v h1 h2 h3=>?_⟩,λy c h=>⟨_,x.cell y c h⟩,e0.hok.fresh (Nat.le_refl _),λy c h=>?_,λp hp=>absurd (show p∈([]:List (Addr×Obj)) from hp) (by simp),e0.hok.jd hk,?_⟩
 ·exact name_of_addr x.apart (PySem.mem_of_lookup h1) (PySem.mem_of_lookup h2)
 ·have hy:scope.names.lookup y=some .cell\/scope.names.lookup y=some .free:=hy;rcases hy with hy |hy
  ·exact zy hy
  ·exact absurd rfl (S.OQ _ (PySem.mem_of_lookup hy))
 ·exact Nat.le_of_lt (x.above y c (PySem.mem_of_lookup h))
 ·have hi:i<vs.length:=by
   unfold start at h2
   by_cases hi:i<vs.length
   ·exact hi
   ·rw[List.getElem?_append_right (by simpa using hi)] at h2;rw[List.getElem?_replicate] at h2;split at h2 <;> cases h2
  have ha:vs[i]?=some v:=by
   unfold start at h2;rw[List.getElem?_append_left (by simpa using hi),List.getElem?_map] at h2;cases e:vs[i]? with
   |none=>rw[e] at h2;cases h2
   |some a=>rw[e] at h2;cases h2;rfl
  obtain⟨u,hu,rv⟩:=r.get ha;have hp:ps[i]?=some y:=by
   rw[<-S.pre,List.getElem?_take_of_lt o_];exact h1
  have XW:ps.Nodup:=by rw[<-S.pre];exact S.nd.sublist (List.take_sublist _ _)
  refine⟨u,rv,?_⟩;rcases S.XV y (List.mem_of_getElem? hp) with k |k
  ·exact .inl ⟨k,vY XW hp hu k⟩
  ·obtain⟨c,e⟩:=zy (n:=s.heap.objs.size+1) k;refine .inr ⟨.inl k,c,e,?_⟩;have q:=x.cell y c e;rw[vZ XW hp hu (by show scope.names.lookup y≠_;rw[k];decide)] at q;exact q
 ·exact e0.hok.fresh (Nat.le_of_lt (x.above y c (PySem.mem_of_lookup h)))
 ·unfold start;show _=N.length;rw[List.length_append,List.length_map,List.length_replicate];omega
theorem NH{CX:K6}{P:Program}{w:World}{K:Frag}{mg:Str->Option Value}{base:Heap}{k:Nat}{f:Addr}{name qual:Str}{params:Arguments}{body:List Stmt}{scope:Scope}{dV kV doc pm bL ct oc:Value}{an od:Option Addr}
  {tH:Array (Option Value)}{N ps:List Str}{sp:Sp}(lk:K.lookup f=some ⟨oc,od,.func (fnOf name qual params body scope dV kV doc pm an bL ct),tH⟩)(lA:PySem.W.codeIn K bL qual=true)(S:dQ N ps scope)
  (len:∀vs H Q E,sp vs H Q E->vs.length=ps.length)
  (jg:∀(A:Around) (ai:List Env) (s:Shared) (H:Hp) (vs:List V) (Q:VK) (E:XK),cx k (A.deeper (envOfC qual scope s.heap.objs.size f bL))->sp vs H Q E ->
   ∃t,vV (BR CX P w K mg base N qual scope f bL A ai s H E) body t/\t {nx:=λ_ H'=>Q .dH H',rt:=Q} (start N vs) H) :
  g5 P w K mg base CX (k+1) f (fnOf name qual params body scope dV kV doc pm an bL ct) ps sp:=by
 refine⟨len,λA ai s H args us vs Q E hr e0 hb r pW=>?_⟩;have hl:=len _ _ _ _ pW;have KX:K.In s.heap:=e0.mod.Oq.keeps λb o e=>(e0.bs b o e).1;have pX:s.heap.NoLimit:=e0.mod.nolimit.keeps λb o e=>(e0.bs b o e).1;have gD:∀y∈ps.zip us,scope.names.lookup y.1=some .local\/(scope.names.lookup y.1=some .cell/\((cellsFrom (s.heap.objs.size+1) scope.names []).lookup y.1).isSome=true):=λ⟨n,v⟩ hy=>by
  rcases S.XV n (List.of_mem_zip hy).1 with q |q
  ·exact .inl q
  ·exact .inr ⟨q,PySem.W.cellsFrom_some _ _ _ (.inl q)⟩
 refine codeAny_call_function hr.depth (KX _ _ lk) rfl S.co S.Zs rfl (PySem.W.codeRec_of KX lA) (hb _ _ _ _ ?_);refine wpAny_newFunctionEnv_cells S.kind gD λenv he s1 x=>?_;subst he;refine⟨pX.keeps x.toInCall.keep,codeAny_func ?_⟩;obtain⟨t,ht,hq⟩:=jg A ai s H vs Q E (hr.deeper _) pW;have I:Inv (BR CX P w K mg base N qual scope f bL A ai s H E) [] (start N vs) H s1:=Fq S hr.hd e0 hl r x;refine wpAny_mono (ht [] s1 (start N vs) H _ I hq) (λfl s' hs=>?_) λe s' hs=>hs;have fin:∀{σ':St} {H':Hp} {v:V} {u:Value},Inv (BR CX P w K mg base N qual scope f bL A ai s H E) [] σ' H' s'->cz v u->Q v H'->CE ai P w H s Q u s' :=
  λ{σ' H' v u} J rv q=>⟨v,H',J.os,J.fF,J.base,J.hok,rv,q⟩
 cases fl with
 |ret u =>
  obtain⟨v,σ',H',J,rv,q⟩:=hs;exact fin J rv q
 |next =>
  obtain⟨σ',H',J,q⟩:=hs;exact fin (v:=V.dH) (u:=Value.none) J rfl q
 |brk =>
  obtain⟨_,_,_,q⟩:=hs;exact False.elim q
 |cont =>
  obtain⟨_,_,_,q⟩:=hs;exact False.elim q
end L2
namespace L2
open PySem PySem.Spec PyProof.Rows
section
variable{X:Cx}{x:Str}{p pos:Pos}{e:Expr}{es:List Expr}{t:TA}{id T:String}{r:List V->Hp->VK->Prop}
def VC(r:List V->Hp->VK->Prop)(t:TA):TE:=λσ H Q=>t σ H λvs H1=>r vs H1 Q
theorem gm(hc:lh X (.builtin id) r)(hg:Gl X x)(hm:X.mg x=none)(hv:bootBuiltins x=some (.builtin id))(ha:PA X (e::es) t)(hn:x≠"__name__":=by decide)(kf:(x == ("__debug__":Str))=false:=by decide)
  (he:starEach (e::es) X.env=(false,eval e X.env)::starEach es X.env:=by rfl)(d9:(backTo pos (starEach es X.env)).any (·.1)=false:=by rfl):PE X (.Call (.Name x p) (e::es) [] pos) (VC r t):=by
 intro pins s σ H Q I h;refine wpAny_Call_Name_kw (xA I hg hm hv ?_ hn kf);exact PyProof.Rows.callWith_builtin1 (dB (ha pos pins s σ H _ I h) λus s1 ⟨vs,H1,I1,r1,q1⟩=>hc pins s1 σ H1 vs us Q I1 r1 q1) he d9
theorem v8(hc:lh X (.type T) r)(hg:Gl X x)(hm:X.mg x=none)(hv:bootBuiltins x=some (.type T))(ha:PA X (e::es) t)(hn:x≠"__name__":=by decide)(kf:(x == ("__debug__":Str))=false:=by decide)
  (he:starEach (e::es) X.env=(false,eval e X.env)::starEach es X.env:=by rfl)(d9:(backTo pos (starEach es X.env)).any (·.1)=false:=by rfl):PE X (.Call (.Name x p) (e::es) [] pos) (VC r t):=by
 intro pins s σ H Q I h;refine wpAny_Call_Name_kw (xA I hg hm hv ?_ hn kf);exact PyProof.Rows.callWith_type1 (dB (ha pos pins s σ H _ I h) λus s1 ⟨vs,H1,I1,r1,q1⟩=>hc pins s1 σ H1 vs us Q I1 r1 q1) he d9
end
end L2
namespace HT
open PySem PyProof.Rows
section
open PySem.SeqAt
open PySem.AutoSeq1 (wpAny_loadPart')
open PySem.MeetsSeq PySem.MeetsSeq2 PySem.MeetsSeq3
end
section
variable{prog:Program}{w:World}{A:Around}{E:Value->Shared->Prop}{s:Shared}
def Bv(n d:Nat):Option Int->Nat
 |none=>d
 |some v=>if v<0 then (v+(n:Int)).toNat else min v.toNat n
theorem DW(n d k:Nat):Bv n d (some (k:Int))=min k n:=by
 show (if (k:Int)<0 then ((k:Int)+(n:Int)).toNat else min (k:Int).toNat n)=min k n;rw[if_neg o_,Int.toNat_natCast]
end
end HT
namespace L2
open PySem PySem.Spec PyProof.Rows
abbrev TO:=St->Hp->(Option Int->Hp->Prop)->Prop
def PO(X:Cx)(e:Option Expr)(t:TO):Prop :=
 ∀(pins:List (Addr×Obj)) (s:Shared) (σ:St) (H:Hp) (Q:Option Int->Hp->Prop),Inv X pins σ H s->t σ H Q ->
  wpAny (model X.prog X.w) X.A (evalPart e X.env) (λu s'=>∃o H',Inv X pins σ H' s'/\IsPart u o/\Q o H') X.xe s
def Se(t:TE):TO:=λσ H Q=>t σ H λx H1=>∃i,x=.int i/\Q (some i) H1
theorem tI{ns:List Int}:∀{us:List Value},cC (ns.map V.int) us->IntsAre us ns:=by
 induction ns with
 |nil=>intro us r;rw[List.map_nil] at r;cases r;exact .nil
 |cons n ns ih =>
  intro us r;rw[List.map_cons] at r;cases r with
  |cons r1 r2 =>
   obtain⟨t,e⟩:=r1;subst e;exact .cons n t (ih r2)
section
variable{X:Cx}{e:Expr}{te:TE}{lo hi:Option Expr}{tl th:TO}{pos p2:Pos}
theorem DX(h:PE X e te):PO X (some e) (Se te):=by
 intro pins s σ H Q I hw;rw[evalPart_some];refine dB (h pins s σ H _ I hw) λu s1 ⟨x,H1,I1,r1,q1⟩=>?_;obtain⟨i,rfl,q⟩:=q1;obtain⟨t,rfl⟩:=r1;exact⟨some i,H1,I1,.int i t,q⟩
def XX(X:Cx)(r:V->Option Int->Option Int->Hp->VK->Prop):Prop :=
 ∀(pins:List (Addr×Obj)) (s:Shared) (σ:St) (H:Hp) (x:V) (v vl vu:Value) (lo hi:Option Int) (sl:Addr) (Q:VK),Inv X pins σ H s->cz x v->s.heap.IsSliceOf sl vl vu .none->IsPart vl lo->IsPart vu hi->r x lo hi H Q ->
  ∃T id,typeLookup (.type T) "__getitem__"=pure (some (.builtin id))/\s.TypeIs v T/\wpAny (model X.prog X.w) X.A (getItem v (.ref sl)) (EP X pins σ Q) X.xe s
def Zt(r:V->Option Int->Option Int->Hp->VK->Prop)(te:TE)(tl th:TO):TE:=λσ H Q=>te σ H λx H1=>tl σ H1 λl H2=>th σ H2 λu H3=>r x l u H3 Q
theorem HU{r:V->Option Int->Option Int->Hp->VK->Prop}(hr:XX X r)(he:PE X e te)(hl:PO X lo tl)(hu:PO X hi th):PE X (.Subscript e (.Slice lo hi none p2) pos) (Zt r te tl th):=by
 intro pins s σ H Q I h;refine Subscript_ (dB (he pins s σ H _ I h) λv s1 ⟨x,H1,I1,r1,q1⟩=>?_);refine wpAny_Slice (dB (hl pins s1 σ H1 _ I1 q1) λvl s2 ⟨l,H2,I2,pl,q2⟩=>dB (hu pins s2 σ H2 _ I2 q2) λvu s3 ⟨u,H3,I3,pu,q3⟩=>?_);rw[evalPart_none];refine wpAny_pure ?_;have I4:Inv X pins σ H3 {s3 with heap:=s3.heap.push {cls:=.type "slice",data:=.fields #[vl,vu,.none]}}:=I3.jd (t':=s3.toks) λb ob q=>Heap.get?_push_of_some _ q;obtain⟨T,id,hT,ht,hg⟩:=hr pins {s3 with heap:=s3.heap.push {cls:=.type "slice",data:=.fields #[vl,vu,.none]}} σ H3 x v vl vu l u s3.heap.objs.size Q I4 r1 (Heap.IsSliceOf.new ..) pl pu q3;show wpAny (model X.prog X.w) X.A (subscriptTail e (.Slice lo hi none p2) v (.ref s3.heap.objs.size)) (EP X pins σ Q) X.xe {s3 with heap:=s3.heap.push {cls:=.type "slice",data:=.fields #[vl,vu,.none]}};exact tail_any (ops:=[.ref s3.heap.objs.size,v]) ht hT hg (by with_unfolding_all rfl)
def HV(xs:List V)(lo hi:Option Int):List V:=(xs.drop (HT.Bv xs.length 0 lo)).take (HT.Bv xs.length xs.length hi - HT.Bv xs.length 0 lo)
theorem zz(xs:List V)(lo hi:Option Int):(HV xs lo hi).length<=xs.length:=by
 unfold HV;rw[List.length_take,List.length_drop];omega
end
end L2
namespace L2
open PySem PySem.Spec PyProof.Rows
def Q0(n:Nat)(i:Int):Option Nat:=if 0<=i then (if i<n then some i.toNat else none) else if -(n:Int)<=i then some (i+n).toNat else none
def Q1{α:Type}(xs:List α)(i:Int):Option α:=(Q0 xs.length i).bind λj=>xs[j]?
theorem K9{n:Nat}{i:Int}{j:Nat}(h:Q0 n i=some j):seqIndex? i n=some j/\j<n/\-(n:Int)<=i/\i<n:=by
 unfold Q0 at h
 by_cases h0:0<=i
 ·rw[if_pos h0] at h
  by_cases h1:i<n
  ·rw[if_pos h1] at h;have e:i.toNat=j:=Option.some.inj h;exact⟨by rw[seqIndex_of h0 h1,e],by omega,by omega,h1⟩
  ·rw[if_neg h1] at h;cases h
 ·rw[if_neg h0] at h
  by_cases h1:-(n:Int)<=i
  ·rw[if_pos h1] at h;have e:(i+n).toNat=j:=Option.some.inj h;exact⟨by rw[seqIndex_neg o_ h1,e],by omega,h1,by omega⟩
  ·rw[if_neg h1] at h;cases h
theorem DY{α:Type}{xs:List α}{i:Int}{v:α}(h:Q1 xs i=some v):∃j,seqIndex? i xs.length=some j/\xs[j]?=some v/\j<xs.length/\-(xs.length:Int)<=i/\i<xs.length:=by
 unfold Q1 at h;cases e:Q0 xs.length i with
 |none=>rw[e] at h;cases h
 |some j =>
  rw[e] at h;obtain⟨h1,h2,h3,h4⟩:=K9 e;exact⟨j,h1,h,h2,h3,h4⟩
theorem xH{α:Type}{xs:List α}{j:Nat}{v:α}(h:xs[j]?=some v):Q1 xs (j:Int)=some v:=by
 have hj:j<xs.length:=(List.getElem?_eq_some_iff.mp h).1;have e:Q0 xs.length (j:Int)=some j:=by
  unfold Q0;rw[if_pos o_,if_pos o_];simp
 unfold Q1;rw[e];exact h
def sj(b:Expr):Prop:=∀o i,subscripted b false o i=operate [o,i] (getItem o i)
def VD(X:Cx)(r:R2):Prop :=
 ∀(value slice:Expr) (pins:List (Addr×Obj)) (s:Shared) (σ:St) (H:Hp) (x y:V) (v u:Value) (Q:VK),Inv X pins σ H s->cz x v->cz y u->r x y H Q ->
  subscripted slice false v u=operate [v,u] (getItem v u)->wpAny (model X.prog X.w) X.A (subscriptTail value slice v u) (EP X pins σ Q) X.xe s
def VE(X:Cx)(id:String)(r:V->List V->Hp->VK->Prop):Prop :=
 ∀(pins:List (Addr×Obj)) (s:Shared) (σ:St) (H:Hp) (x:V) (xs:List V) (v:Value) (us:List Value) (Q:VK),Inv X pins σ H s->cz x v->cC xs us->r x xs H Q ->
  wpAny (model X.prog X.w) X.A (call (.builtin id) (v::us)) (EP X pins σ Q) X.xe s
section
variable{X:Cx}{a b:Expr}{ta tb:TE}{pos:Pos}
theorem HW{r:R2}(hr:VD X r)(ha:PE X a ta)(hb:PE X b tb)(hs:sj b):PE X (.Subscript a b pos) (UA r ta tb):=by
 intro pins s σ H Q I h;exact Subscript_ (OI ha hb I h λv u s2 x y H2 I2 rx ry q=>hr a b pins s2 σ H2 x y v u Q I2 rx ry q (hs _ _))
def VF(K:Frag):R2:=λx y H Q=>∃p xs i v,x=.ref p/\y=.int i/\nZ K H p xs/\Q1 xs i=some v/\Q v H
def VG(K:Frag):R2:=λx y H Q=>∃p xs i v,x=.ref p/\y=.int i/\rZ K H p xs/\Q1 xs i=some v/\Q v H
theorem DZ:VD X (VF X.K):=by
 intro value slice pins s σ H x y v u Q I rx ry h hs;obtain⟨p,xs,i,z,rfl,rfl,hq,he,q⟩:=h;cases rx;obtain⟨t,rfl⟩:=ry;obtain⟨cp,r,pl,hz⟩:=I.list hq;obtain⟨j,h1,h2,h3,h4,h5⟩:=DY he;obtain⟨w,ew,La⟩:=r.get h2;have hl:=r.length;have hn:=BI;have fin:EP X pins σ Q w s:=⟨z,H,I,La,q⟩
 by_cases h0:0<=i
 ·have hj:i.toNat=j:=by
   rw[seqIndex_of h0 h5] at h1;exact Option.some.inj h1
  exact item_listR pl.isList h0 o_ (by rw[hj];simpa using ew) fin hs
 ·have hj:(i+(cp.toArray.size:Int)).toNat=j:=by
   rw[seqIndex_neg o_ h4] at h1;rw[List.size_toArray,<-hl];exact Option.some.inj h1
  exact subscriptTail_builtinR (x:=w) pl.isList.typeIs slot_list_getitem.lookup
   (wpAny_getItem_list_neg (Q:=λr s'=>r=w/\EP X pins σ Q r s') pl.isList o_ (by rw[List.size_toArray] <;> omega) o_ (by rw[hj];simpa using ew) ⟨rfl,fin⟩) hs
theorem OS:VD X (VG X.K):=by
 intro value slice pins s σ H x y v u Q I rx ry h hs;obtain⟨p,xs,i,z,rfl,rfl,hq,he,q⟩:=h;cases rx;obtain⟨t,rfl⟩:=ry;obtain⟨cp,r,pl,hz⟩:=I.tuple hq;obtain⟨j,h1,h2,h3,h4,h5⟩:=DY he;obtain⟨w,ew,La⟩:=r.get h2;have hl:=r.length;have hn:=BI;have fin:EP X pins σ Q w s:=⟨z,H,I,La,q⟩
 exact subscriptTail_builtinR (x:=w) pl.typeIs slot_tuple_getitem.lookup
  (getItem_tuple (j:=j) (Q:=λr s'=>r=w/\EP X pins σ Q r s') pl o_ o_ (by rw[List.size_toArray,<-hl];exact h1) (by simpa using ew) ⟨rfl,fin⟩) hs
theorem xI(lo hi:Option Int)(n:Nat):(sliceBounds lo hi none n).1=((HT.Bv n 0 lo:Nat):Int)/\(sliceBounds lo hi none n).2.1=((HT.Bv n n hi:Nat):Int)/\(sliceBounds lo hi none n).2.2=1:=by
 refine⟨?_,?_,rfl⟩
 ·cases lo with
  |none=>simp [sliceBounds,HT.Bv]
  |some i =>
   simp only[sliceBounds,HT.Bv,Option.getD_none,show (1:Int) > 0 by decide,if_true]
   by_cases h:i<0
   ·simp only[h,if_true] <;> omega
   ·simp only[h,if_false] <;> omega
 ·cases hi with
  |none=>simp [sliceBounds,HT.Bv]
  |some i =>
   simp only[sliceBounds,HT.Bv,Option.getD_none,show (1:Int) > 0 by decide,if_true]
   by_cases h:i<0
   ·simp only[h,if_true] <;> omega
   ·simp only[h,if_false] <;> omega
theorem vh(cp:List Value)(lo hi:Option Int):slicePick cp.toArray lo hi none=((cp.drop (HT.Bv cp.length 0 lo)).take (HT.Bv cp.length cp.length hi - HT.Bv cp.length 0 lo)).toArray:=by
 obtain⟨h1,h2,h3⟩:=xI lo hi cp.toArray.size;unfold slicePick;rw[h1,h2,h3];simp only[sliceRange_one,pick_run,List.size_toArray] <;> rfl
def VH(K:Frag):V->Option Int->Option Int->Hp->VK->Prop:=λx lo hi H Q=>∃a xs,x=.ref a/\nZ K H a xs/\∀p,H p=none->Q (.ref p) (dE H p (.de (HV xs lo hi)))
theorem Lb:XX X (VH X.K):=by
 intro pins s σ H x v vl vu lo hi sl Q I rx hs pl pu h;obtain⟨a,xs,rfl,hx,q⟩:=h;cases rx;obtain⟨cp,r,ht,hz⟩:=I.list hx;have hlen:=r.length;refine⟨"list",_,slot_list_getitem.lookup,ht.isList.typeIs,?_⟩;refine wpAny_getItem_list_slice ht.isList hs pl pu .none (by simp) ?_ (by rw[List.size_toArray] <;> omega);rw[vh,<-hlen];refine⟨.ref s.heap.objs.size,_,I.qg (t':=s.toks) (o:=.de (HV xs lo hi)) (λb ob q=>Heap.get?_push_of_some _ q) (Nat.le_refl _) ?_,rfl,q _ (I.hok.fresh (Nat.le_refl _))⟩;exact⟨Nat.le_trans (zz xs lo hi) hz,_,0,(r.drop (HT.Bv xs.length 0 lo)).take (HT.Bv xs.length xs.length hi - HT.Bv xs.length 0 lo),Heap.get?_push_size _ rfl⟩
def kh:V->Bool
 |.dH=>true
 |.bl _=>true
 |.int _=>true
 |.str _=>true
 |_=>false
def NI:V->V->Bool
 |.dH,.dH=>true
 |.bl a,.bl b=>a == b
 |.bl a,.int b=>(if a then 1 else 0) == b
 |.int a,.bl b=>a == (if b then 1 else 0)
 |.int a,.int b=>a == b
 |.str a,.str b=>a == b
 |_,_=>false
theorem OT{A:Around}{s:Shared}{y x:V}{u v:Value}(ry:cz y u)(rx:cz x v)(fy:kh y=true)(fx:kh x=true):SeqAt.EqAt A s u v (NI y x):=by
 cases y with
 |dH =>
  cases ry;cases x with
  |dH=>cases rx;exact SeqAt.EqAt.same _
  |bl b=>cases rx;exact SeqAt.EqAt.none_bool b
  |int b=>obtain⟨t,rfl⟩:=rx;exact SeqAt.EqAt.none_int b t
  |str b=>obtain⟨t,rfl⟩:=rx;exact SeqAt.EqAt.none_str b t
  |_=>exact absurd (show false=true from fx) Bool.false_ne_true
 |bl a =>
  cases ry;cases x with
  |dH=>cases rx;exact SeqAt.EqAt.bool_none a
  |bl b=>cases rx;exact SeqAt.EqAt.bool_bool a b
  |int b=>obtain⟨t,rfl⟩:=rx;exact SeqAt.EqAt.bool_int a b t
  |str b=>obtain⟨t,rfl⟩:=rx;exact SeqAt.EqAt.bool_str a b t
  |_=>exact absurd (show false=true from fx) Bool.false_ne_true
 |int a =>
  obtain⟨t',rfl⟩:=ry;cases x with
  |dH=>cases rx;exact SeqAt.EqAt.int_none a t'
  |bl b=>cases rx;exact SeqAt.EqAt.int_bool a t' b
  |int b=>obtain⟨t,rfl⟩:=rx;exact SeqAt.EqAt.int_int a t' b t
  |str b=>obtain⟨t,rfl⟩:=rx;exact SeqAt.EqAt.int_str a t' b t
  |_=>exact absurd (show false=true from fx) Bool.false_ne_true
 |str a =>
  obtain⟨t',rfl⟩:=ry;cases x with
  |dH=>cases rx;exact SeqAt.EqAt.str_none a t'
  |bl b=>cases rx;exact SeqAt.EqAt.str_bool a t' b
  |int b=>obtain⟨t,rfl⟩:=rx;exact SeqAt.EqAt.str_int a t' b t
  |str b=>obtain⟨t,rfl⟩:=rx;exact SeqAt.EqAt.str_str a t' b t
  |_=>exact absurd (show false=true from fx) Bool.false_ne_true
 |_=>exact absurd (show false=true from fy) Bool.false_ne_true
def BS(x:V)(u:Value):Bool:=match u with
 |.none=>NI .dH x
 |.bool b=>NI (.bl b) x
 |.int i _=>NI (.int i) x
 |.str z _=>NI (.str z) x
 |_=>false
theorem HX{x y:V}{u:Value}(r:cz y u)(f:kh y=true):BS x u=NI y x:=by
 cases y with
 |dH=>cases r;rfl
 |bl b=>cases r;rfl
 |int i=>obtain⟨t,rfl⟩:=r;rfl
 |str z=>obtain⟨t,rfl⟩:=r;rfl
 |_=>exact absurd (show false=true from f) Bool.false_ne_true
theorem oG{x:V}:∀{xs:List V} {us:List Value},cC xs us->xs.all kh=true->us.any (BS x)=xs.any λy=>NI y x
 |_,_,.nil,_=>rfl
 |y::xs,u::us,.cons r t,f=>by
  rw[List.all_cons,Bool.and_eq_true] at f;rw[List.any_cons,List.any_cons,HX r f.1,oG t f.2]
theorem lI{A:Around}{s:Shared}{x:V}{v:Value}(rx:cz x v)(fx:kh x=true):∀{xs:List V} {us:List Value},cC xs us->xs.all kh=true->∀u∈us,SeqAt.EqAt A s u v (BS x u)
 |_,_,.nil,_=>λu hu=>by cases hu
 |y::xs,u::us,.cons r t,f=>λu' hu=>by
  rw[List.all_cons,Bool.and_eq_true] at f;rcases List.mem_cons.mp hu with rfl |hu
  ·rw[HX r f.1];exact OT r rx f.1 fx
  ·exact lI rx fx t f.2 u' hu
def NJ(x:V)(xs:List V):Bool:=xs.any λy=>NI y x
def XY(K:Frag)(neg:Bool):R2:=λx y H Q=>∃p xs,y=.ref p/\(nZ K H p xs\/rZ K H p xs)/\kh x=true/\xs.all kh=true/\Q (.bl (if neg then !NJ x xs else NJ x xs)) H
theorem Fs:mi X (compareOp .In) (XY X.K false):=by
 intro pins s σ H x y v u Q I rx ry h;obtain⟨p,xs,rfl,hq,fx,fs,q⟩:=h;cases ry;rcases hq with hq |hq
 ·obtain⟨cp,r,pl,hz⟩:=I.list hq;refine SeqAt.in_listAt (BS x) pl.isList (λw hw=>lI rx fx r fs w (by simpa using hw)) ⟨.bl _,H,I,rfl,?_⟩;rw[show cp.toArray.any (BS x)=cp.any (BS x) by simp,oG r fs];exact q
 ·obtain⟨cp,r,pl,hz⟩:=I.tuple hq;refine SeqAt.in_tupleAt (BS x) pl (λw hw=>lI rx fx r fs w (by simpa using hw)) ⟨.bl _,H,I,rfl,?_⟩;rw[show cp.toArray.any (BS x)=cp.any (BS x) by simp,oG r fs];exact q
theorem xJ:mi X (compareOp .NotIn) (XY X.K true):=by
 intro pins s σ H x y v u Q I rx ry h;obtain⟨p,xs,rfl,hq,fx,fs,q⟩:=h;cases ry;rcases hq with hq |hq
 ·obtain⟨cp,r,pl,hz⟩:=I.list hq;refine SeqAt.notIn_listAt (BS x) pl.isList (λw hw=>lI rx fx r fs w (by simpa using hw)) ⟨.bl _,H,I,rfl,?_⟩;rw[show cp.toArray.any (BS x)=cp.any (BS x) by simp,oG r fs];exact q
 ·obtain⟨cp,r,pl,hz⟩:=I.tuple hq;refine SeqAt.notIn_tupleAt (BS x) pl (λw hw=>lI rx fx r fs w (by simpa using hw)) ⟨.bl _,H,I,rfl,?_⟩;rw[show cp.toArray.any (BS x)=cp.any (BS x) by simp,oG r fs];exact q
theorem oH:lh X (.builtin "len") (λxs H Q=>∃p ys,xs=[.ref p]/\(nZ X.K H p ys\/rZ X.K H p ys)/\Q (.int ys.length) H):=by
 intro pins s σ H xs us Q I r h;obtain⟨p,ys,rfl,hq,q⟩:=h;obtain⟨u,rfl,rx⟩:=mR r;cases rx;have hn:=BI;rcases hq with hq |hq
 ·obtain⟨cp,r',pl,hz⟩:=I.list hq;have hlen:=r'.length;exact Calls.call_len_list pl.isList (by simp only[List.size_toArray] <;> omega) ⟨.int ys.length,H,I.tok _,⟨s.toks+1,by rw[List.size_toArray,hlen]⟩,q⟩
 ·obtain⟨cp,r',pl,hz⟩:=I.tuple hq;have hlen:=r'.length;exact len_tuple pl (by simp only[List.size_toArray] <;> omega) ⟨.int ys.length,H,I.tok _,⟨s.toks+1,by rw[List.size_toArray,hlen]⟩,q⟩
theorem vj:lh X (.type "tuple") (λxs H Q=>∃p ys,xs=[.ref p]/\((nZ X.K H p ys/\∀l,H l=none->Q (.ref l) (dE H l (.iQ ys)))\/(rZ X.K H p ys/\Q (.ref p) H))):=by
 intro pins s σ H xs us Q I r h;obtain⟨p,ys,rfl,h⟩:=h;obtain⟨u,rfl,rx⟩:=mR r;cases rx;rcases h with ⟨hq,q⟩ |⟨hq,q⟩
 ·obtain⟨cp,r',pl,hz⟩:=I.list hq;have hlen:=r'.length;refine call_tuple_list pl.isList (λh' kp=>?_) (by simp only[List.size_toArray] <;> omega);have I1:Inv X pins σ H {s with heap:=h'}:=I.jd (t':=s.toks) kp;have I2:Inv X pins σ (dE H h'.objs.size (.iQ ys)) {s with heap:=h'.push {cls:=.type "tuple",data:=.seq cp.toArray}} :=
   I1.qg (t':=s.toks) (λb o e=>Heap.get?_push_of_some _ e) (Nat.le_refl _) (show cB X.prog X.w _ _ _ (.iQ ys) from ⟨hz,cp,r',IsTup.new _ _⟩)
  exact⟨.ref h'.objs.size,_,I2,rfl,q _ (I1.hok.fresh (Nat.le_refl _))⟩
 ·obtain⟨cp,r',pl,hz⟩:=I.tuple hq;exact call_tuple_same pl ⟨.ref p,H,I,rfl,q⟩
def XZ(K:Frag)(T:String)(x:V)(H:Hp):Prop:=match x with
 |.str _=>T="str"
 |.int _=>T="int"
 |.ref p=>(T="list"/\∃xs,nZ K H p xs)\/(T="tuple"/\∃o,K.lookup p=some o/\o.cls=.type "tuple"/\o.dict=none) \/
   (T="dict"/\((∃a4,H p=some (.dK a4))\/∃a4,H p=some (.dT a4)))\/(T="set"/\∃S n,H p=some (.set S n))
 |_=>False
theorem OU{pins:List (Addr×Obj)}{σ:St}{H:Hp}{s:Shared}{T:String}{x:V}{v:Value}(I:Inv X pins σ H s)(r:cz x v)(ty:XZ X.K T x H) :
  s.TypeIs v T/\∀a,v=.ref a->∃ob,s.heap.get? a=some ob/\ob.dict=none:=by
 cases x with
 |str z =>
  obtain⟨t,rfl⟩:=r;cases (show T="str" from ty);exact⟨typeIs_str s z t,λ_ e=>nomatch e⟩
 |int i =>
  obtain⟨t,rfl⟩:=r;cases (show T="int" from ty);exact⟨typeIs_int s i t,λ_ e=>nomatch e⟩
 |ref p =>
  cases r;rcases ty with ⟨rfl,xs,hq⟩ |⟨rfl,o,hk,hc,hd⟩ |⟨rfl,hk⟩ |⟨rfl,S,n,hk⟩
  ·obtain⟨cp,_,pl,_⟩:=I.list hq;refine⟨pl.isList.typeIs,λa e=>?_⟩;cases e;obtain⟨o,n,e,c,hd,_⟩:=pl;exact⟨o,e,hd⟩
  ·refine⟨⟨o,I.je p o hk,hc⟩,λa e=>?_⟩;cases e;exact⟨o,I.je _ o hk,hd⟩
  ·have z:∃o,s.heap.get? p=some o/\o.ExactDict:=by
    rcases hk with ⟨a4,hk⟩ |⟨a4,hk⟩
    ·obtain⟨_,_,_,_,o,_,_,e,ex,_⟩:=I.hok p _ hk;exact⟨o,e,ex⟩
    ·obtain⟨_,_,_,_,o,_,_,e,ex,_⟩:=I.hok p _ hk;exact⟨o,e,ex⟩
   obtain⟨o,e,ex⟩:=z;refine⟨⟨o,e,ex.1⟩,λa e2=>?_⟩;cases e2;exact⟨o,e,ex.2.1⟩
  ·obtain⟨o,_,_,_,e,ex,_⟩:=I.hok p _ hk;refine⟨⟨o,e,ex.1⟩,λa e2=>?_⟩;cases e2;exact⟨o,e,ex.2.1⟩
 |_=>exact False.elim ty
def Zu(K:Frag)(T:String)(r:V->List V->Hp->VK->Prop)(to:TE)(t:TA):TE:=λσ H Q=>to σ H λx H1=>XZ K T x H1/\t σ H1 λxs H2=>r x xs H2 Q
variable{o e:Expr}{es:List Expr}{to:TE}{t:TA}{name:Str}{apos gE:Pos}{T id:String}{r:V->List V->Hp->VK->Prop}
theorem HY(pa:PlainAttrs T)(slot:Slot T name id)(Q2:typeOf (.builtin id)=pure (.type "method_descriptor"))(hm:VE X id r)(ho:PE X o to)(ha:PA X (e::es) t)
  (jC:attributeBase o name X.env (eval o X.env)=eval o X.env:=by rfl)
  (VI:((backTo gE (starEach (e::es) X.env)).all (λx=>!x.1) && (backToKw gE (keywordEach [] X.env)).all (λx=>x.1.isSome)
   && decide ((e::es).length+([]:List Keyword).length+(if ([]:List Keyword).isEmpty then 0 else 1)<30))=true:=by rfl)
  (jD:(apos.endLine == gE.line)=true:=by rfl) (hs:starEach (e::es) X.env=(false,eval e X.env)::starEach es X.env:=by rfl) (OV:(backTo gE (starEach es X.env)).any (·.1)=false:=by rfl) :
  PE X (.Call (.Attribute o name apos) (e::es) [] gE) (Zu X.K T r to t):=by
 intro pins s σ H Q I h;refine wpAny_Call_method_late jC VI jD rfl (dB (ho pins s σ H _ I h) λv s1 ⟨x,H1,I1,r1,ty,q1⟩=>?_);obtain⟨h1,h2⟩:=OU I1 r1 ty;refine⟨T,id,pa,slot,Q2,h1,h2,?_⟩;have hA:=ha gE pins s1 σ H1 _ I1 q1;rw[hs] at hA ⊢;refine Calls.callWith_builtin (by show (false || (backTo gE (starEach es X.env)).any (·.1))=false;rw[OV] <;> rfl) (Calls.evalArgs_plain ?_);exact dB hA λus s2 ⟨vs,H2,I2,r2,q2⟩=>hm pins s2 σ H2 x vs v us Q I2 r1 r2 q2
end
end L2
namespace L2
open PySem PySem.Spec PyProof.Rows
def X1(X:Cx)(id:String)(r:V->List V->Hp->VK->Prop):Prop :=
 ∀(pins:List (Addr×Obj)) (s:Shared) (σ:St) (H:Hp) (x:V) (xs:List V) (v:Value) (us:List Value) (Q:VK),Inv X pins σ H s->cz x v->cC xs us->r x xs H Q ->
  wpAny (model X.prog X.w) X.A (call (.builtin id) (v::us)) (EP X pins σ Q) X.xe s
theorem cC.one:∀{x:V} {us:List Value},cC [x] us->∃u,us=[u]/\cz x u
 |_,_,.cons r .nil=>⟨_,rfl,r⟩
section
variable{X:Cx}{pins:List (Addr×Obj)}{σ:St}{H:Hp}{s:Shared}{l b:Addr}{xs ys zs:List V}
theorem Inv.Sf{cp xB:List Value}{n:Nat}{f:Array Value->Array Value}{t':Nat}(I:Inv X pins σ H s)(hH:H l=some (.de xs))
  (e:s.heap.get? l=some {cls:=.type "list",data:=.seq cp.toArray n})(hf:f cp.toArray=xB.toArray)(hv:cC ys xB)(hz:ys.length<=sizeLine) :
  Inv X pins σ (dE H l (.de ys)) {s with heap:=s.heap.update l (Obj.mapSeq f),toks:=t'}:=by
 have q:=PySem.IsL.update e f;rw[hf] at q;refine I.lE (x:=l) (e:=l) (by rw[hH];exact trivial) (.inl rfl) (λb' u hb hu=>(Heap.get?_update_other s.heap (Obj.mapSeq f) (Ne.symm hb)).trans hu) ⟨_,q⟩ ?_;exact⟨hz,xB,_,hv,q⟩
theorem Inv.VJ{cp:List Value}{t':Nat}(I:Inv X pins σ H s)(hv:cC ys cp)(hz:ys.length<=sizeLine) :
  Inv X pins σ (dE H s.heap.objs.size (.de ys)) {s with heap:=s.heap.push {cls:=.type "list",data:=.seq cp.toArray},toks:=t'} :=
 I.qg (λ_ _ q=>Heap.get?_push_of_some _ q) (Nat.le_refl _) ⟨hz,cp,0,hv,Heap.get?_push_size _ rfl⟩
theorem Inv.fresh(I:Inv X pins σ H s):H s.heap.objs.size=none:=I.hok.fresh (Nat.le_refl _)
theorem Inv.HZ(I:Inv X pins σ H s)(hH:H l=some (.de xs)):xs.length<=sizeLine/\∃(cp:List Value) (n:Nat),cC xs cp/\xs.length=cp.length/\s.heap.get? l=some {cls:=.type "list",data:=.seq cp.toArray n}:=by
 obtain⟨z,cp,n,r,e⟩:=I.hok l _ hH;exact⟨z,cp,n,r,r.length,e⟩
theorem Ia{n:Nat}(h:n<=sizeLine):Builtin.List.listTooLong n=false:=by
 unfold Builtin.List.listTooLong;exact decide_eq_false o_
end
section
variable{X:Cx}
def Lc:V->List V->Hp->VK->Prop:=λx vs H Q=>∃l xs y,x=.ref l/\vs=[y]/\H l=some (.de xs)/\xs.length<sizeLine/\Q .dH (dE H l (.de (xs++[y])))
theorem Ft:X1 X "list.append" Lc:=by
 intro pins s σ H x vs v us Q I rx rv h;obtain⟨l,xs,y,rfl,rfl,hH,hz,q⟩:=h;cases rx;obtain⟨u,rfl,ru⟩:=rv.one;obtain⟨z,cp,n,r,hl,e⟩:=I.HZ hH;refine call_meets F.slot_list_append ⟨_,e,rfl⟩ F.entry_list_append (F.args_list_append_2 _ _) (PySem.list_append l cp.toArray n u (by rw[List.size_toArray];omega)) ⟨e,?_⟩;refine⟨.dH,_,I.Sf (xB:=cp++[u]) hH e (by simp) (r.append (.cons ru .nil)) ?_,rfl,q⟩;rw[List.length_append,List.length_singleton];omega
def Ld:V->List V->Hp->VK->Prop:=λx vs H Q=>∃l b xs zs,x=.ref l/\vs=[.ref b]/\H l=some (.de xs)/\H b=some (.de zs)/\xs.length+zs.length<=sizeLine/\Q .dH (dE H l (.de (xs++zs)))
theorem v9:X1 X "list.extend" Ld:=by
 intro pins s σ H x vs v us Q I rx rv h;obtain⟨l,b,xs,zs,rfl,rfl,hH,hB,hz,q⟩:=h;cases rx;obtain⟨u,rfl,ru⟩:=rv.one;cases ru;obtain⟨z,cp,n,r,hl,e⟩:=I.HZ hH;obtain⟨z2,BU,n2,r2,OW,e2⟩:=I.HZ hB;have hsz:cp.toArray.size+BU.toArray.size<=sizeLine:=by rw[List.size_toArray,List.size_toArray];omega
 have Sg:¬(!cp.toArray.isEmpty && Builtin.List.listTooLong (cp.toArray.size+BU.toArray.size))=true:=by
  rw[Ia hsz,Bool.and_false];exact Bool.false_ne_true
 refine call_meets F.slot_list_extend ⟨_,e,rfl⟩ F.entry_list_extend (F.args_list_extend_2 _ _)
  (AutoSeq1.list_extend_list_list_0 l cp.toArray n b BU.toArray n2 Sg (by rw[List.size_toArray];omega) o_) ⟨e,e2,?_⟩
 refine⟨.dH,_,I.Sf (xB:=cp++BU) hH e (by simp) (r.append r2) ?_,rfl,q⟩;rw[List.length_append];omega
def VL:R2:=λx y H Q=>∃l b xs zs,x=.ref l/\y=.ref b/\H l=some (.de xs)/\H b=some (.de zs)/\xs.length+zs.length<=sizeLine/\∀p,H p=none->Q (.ref p) (dE H p (.de (xs++zs)))
theorem lJ:mi X (binaryOp .Add) VL:=by
 intro pins s σ H x y v u Q I rx ry h;obtain⟨l,b,xs,zs,rfl,rfl,hH,hB,hz,q⟩:=h;cases rx;cases ry;obtain⟨z,cp,n,r,hl,e⟩:=I.HZ hH;obtain⟨z2,BU,n2,r2,OW,e2⟩:=I.HZ hB;refine PySem.P.add_list e e2 ?_ (by rw[List.size_toArray,List.size_toArray];omega);have ea:cp.toArray++BU.toArray=(cp++BU).toArray:=by simp
 rw[ea];exact⟨.ref _,_,I.VJ (t':=s.toks) (r.append r2) (by rw[List.length_append];omega),rfl,q _ I.fresh⟩
end
section
variable{prog:Program}{w:World}{A:Around}{E:Value->Shared->Prop}{s:Shared}
end
section
variable{X:Cx}
end
end L2
namespace L2
open PySem PySem.Spec PyProof.Rows
section
variable{prog:Program}{w:World}{A:Around}{E:Value->Shared->Prop}{s:Shared}{l:Addr}{cp:List Value}{ns:List Int}{Q:Value->Shared->Prop}
end
section
variable{X:Cx}
end
section
variable{X:Cx}
end
section
variable{X:Cx}
end
section
variable{X:Cx}
end
mutual
inductive Dp(K:Frag)(H:Hp):V->PyData->Prop
 |dH:Dp K H .dH .none
 |bl (b:Bool):Dp K H (.bl b) (.bool b)
 |int (i:Int):Dp K H (.int i) (.int i)
 |str (x:Str):Dp K H (.str x) (.str x)
 |de {a:Addr} {xs:List V} {ds:List PyData}:nZ K H a xs->tJ K H xs ds->Dp K H (.ref a) (.list ds)
 |iQ {a:Addr} {xs:List V} {ds:List PyData}:rZ K H a xs->tJ K H xs ds->Dp K H (.ref a) (.tuple ds)
inductive tJ(K:Frag)(H:Hp):List V->List PyData->Prop
 |nil:tJ K H [] []
 |cons {v:V} {vs:List V} {d:PyData} {ds:List PyData}:Dp K H v d->tJ K H vs ds->tJ K H (v::vs) (d::ds)
end
section
variable{X:Cx}{pins:List (Addr×Obj)}{σ:St}{H:Hp}{s:Shared}
mutual
theorem Dp.wa(I:Inv X pins σ H s):∀(d:PyData) (v:V) (u:Value),Dp X.K H v d->cz v u->∃as,Reads s.heap u d as
 |.none,_,_,h,r=>by
  cases h;cases r;exact⟨_,Reads.none⟩
 |.bool b,_,_,h,r=>by
  cases h;cases r;exact⟨_,Reads.bool b⟩
 |.int i,_,_,h,r=>by
  cases h;obtain⟨t,rfl⟩:=r;exact⟨_,Reads.int i t⟩
 |.str x,_,_,h,r=>by
  cases h;obtain⟨t,rfl⟩:=r;exact⟨_,Reads.str x t⟩
 |.list ds,_,_,h,r=>by
  cases h with
  |de hs ha =>
   cases r;obtain⟨cp,rv,⟨o,n,ho,hc,_,hd⟩,_⟩:=I.list hs;obtain⟨as,hr⟩:=Dp.jh I ds _ cp ha rv;exact⟨_,Reads.list ho hc hd hr⟩
 |.tuple ds,_,_,h,r=>by
  cases h with
  |iQ hs ha =>
   cases r;obtain⟨cp,rv,⟨o,ho,hc,n,hd⟩,_⟩:=I.tuple hs;obtain⟨as,hr⟩:=Dp.jh I ds _ cp ha rv;exact⟨_,Reads.tuple ho hc hd hr⟩
 |.dict _,_,_,h,_=>by cases h
theorem Dp.jh(I:Inv X pins σ H s):∀(ds:List PyData) (vs:List V) (us:List Value),tJ X.K H vs ds->cC vs us->∃as,ReadsAll s.heap us ds as
 |[],_,_,h,r=>by
  cases h;cases r;exact⟨_,ReadsAll.nil⟩
 |d::ds,_,_,h,r=>by
  cases h with
  |cons h1 h2 =>
   cases r with
   |cons r1 r2 =>
    obtain⟨as,q1⟩:=Dp.wa I d _ _ h1 r1;obtain⟨bs,q2⟩:=Dp.jh I ds _ _ h2 r2;exact⟨_,ReadsAll.cons q1 q2⟩
end
end
section
variable{X:Cx}
def VM(K:Frag):R2:=λx y H Q=>∃d e,Dp K H x d/\Dp K H y e/\SeqAt.shaped d=true/\SeqAt.shaped e=true/\Q (.bl (PyData.eqv d e)) H
theorem OX(hu:X.A.units+64<cLine):mi X (compareOp .Eq) (VM X.K):=by
 intro pins s σ H x y v u Q I rx ry h;obtain⟨d,e,hd,he,sd,se,q⟩:=h;obtain⟨as,r1⟩:=Dp.wa I d x v hd rx;obtain⟨bs,r2⟩:=Dp.wa I e y u he ry;exact SeqAt.compareEq_shaped r1 r2 sd se hu ⟨.bl _,H,I,rfl,q⟩
end
end L2
namespace L2
open PySem PySem.Spec PyProof.Rows
abbrev Ib(h:Heap)(c:Addr)(v:Option Value):Prop:=h.IsCell c v
def VN(scope sc:Scope):Scope :=
 {scope with names:=scope.names.map λ(n,k)=>if (k == .free && sc.kind == .function && sc.names.lookup n == some .cell) then (n,.cell) else (n,k)}
def c8(cells:List (Str×Addr)):List (Str×NameKind)->List (Str×Addr)->List (Str×Addr)
 |[],acc=>acc
 |(n,k)::r,acc=>if k == .free then c8 cells r ((n,(cells.lookup n).getD 0)::acc) else c8 cells r acc
theorem oJ(env:Env)(f:Str×NameKind->List (Str×Addr)->Sem (ForInStep (List (Str×Addr))))
  (hf:∀n k c,f (n,k) c=if k == .free then (do let a<-cellOf env n;pure (.yield ((n,a)::c))) else pure (.yield c)) :
  ∀(names:List (Str×NameKind)) (acc:List (Str×Addr)),(∀y∈names,y.2=.free->∃c,env.cells.lookup y.1=some c)->forIn names acc f=pure (c8 env.cells names acc)
 |[],acc,_=>by rw[List.forIn_nil];rfl
 |(n,k)::r,acc,h=>by
  rw[List.forIn_cons,hf];have ih:=λacc=>oJ env f hf r acc λy hy=>h y (List.mem_cons_of_mem _ hy);unfold c8
  by_cases hk:(k == NameKind.free)=true
  ·rw[if_pos hk,if_pos hk];obtain⟨c,hc⟩:=h (n,k) List.mem_cons_self (by simpa using hk);have e:cellOf env n=pure c:=by unfold cellOf;rw[hc]
   rw[e];have e2:(env.cells.lookup n).getD 0=c:=by rw[hc];rfl
   rw[e2];exact ih _
  ·rw[if_neg hk,if_neg hk];exact ih _
theorem BV{scope:Scope}{env:Env}(h:∀y∈scope.names,y.2=.free->∃c,env.cells.lookup y.1=some c):closureFor scope env=pure (c8 env.cells scope.names []):=by
 simp only[closureFor];rw[oJ env _ (λn k c=>rfl) scope.names [] h];rfl
theorem nt{α:Type}:∀{l:List (Str×α)} {n:Str} {c:α},(n,c)∈l->∃c',l.lookup n=some c'
 |(k,v)::r,n,c,h=>by
  rw[List.lookup_cons];cases hb:n == k with
  |true=>exact⟨_,rfl⟩
  |false =>
   rcases List.mem_cons.mp h with e |h
   ·cases e;simp at hb
   ·exact nt h
theorem jE{cells:List (Str×Addr)}:∀{names:List (Str×NameKind)} {acc:List (Str×Addr)} {n:Str} {c:Addr},(n,c)∈c8 cells names acc->(n,c)∈acc\/((n,.free)∈names/\c=(cells.lookup n).getD 0)
 |[],_,_,_,h=>.inl h
 |(m,k)::r,acc,n,c,h=>by
  unfold c8 at h;split at h
  ·rename_i hk;have hk:k=.free:=by simpa using hk
   rcases jE h with h |⟨h1,h2⟩
   ·rcases List.mem_cons.mp h with e |h
    ·cases e;exact .inr ⟨hk ▸ List.mem_cons_self,rfl⟩
    ·exact .inl h
   ·exact .inr ⟨List.mem_cons_of_mem _ h1,h2⟩
  ·rcases jE h with h |⟨h1,h2⟩
   ·exact .inl h
   ·exact .inr ⟨List.mem_cons_of_mem _ h1,h2⟩
theorem lK{cells:List (Str×Addr)}:∀{names:List (Str×NameKind)} {acc:List (Str×Addr)} {p:Str×Addr},p∈acc->p∈c8 cells names acc
 |[],_,_,h=>h
 |(m,k)::r,acc,p,h=>by
  unfold c8;split
  ·exact lK (List.mem_cons_of_mem _ h)
  ·exact lK h
theorem lL{cells:List (Str×Addr)}:∀{names:List (Str×NameKind)} {acc:List (Str×Addr)} {n:Str},(n,.free)∈names->(n,(cells.lookup n).getD 0)∈c8 cells names acc
 |(m,k)::r,acc,n,h=>by
  unfold c8;rcases List.mem_cons.mp h with e |h
  ·cases e;exact lK List.mem_cons_self
  ·split
   ·exact lL h
   ·exact lL h
theorem ki:∀{names:List (Str×NameKind)} {h:Heap} {acc:List (Str×Addr)} {x:Str} {c:Addr},(x,c)∈cellsFrom h.objs.size names acc ->
  (x,c)∈acc\/((x,.cell)∈names/\h.objs.size<=c/\Ib (pushCells h names) c none)
 |[],_,_,_,_,h=>.inl h
 |(n,k)::r,h,acc,x,c,hm=>by
  unfold cellsFrom at hm;unfold pushCells;split at hm
  ·rename_i hk;rw[if_pos hk];have hk:k=.cell:=by simpa using hk
   rw[<-Heap.size_push h {cls:=.type "cell",data:=.cell none}] at hm;rcases ki hm with hm |⟨h1,h2,h3⟩
   ·rcases List.mem_cons.mp hm with e |hm
    ·cases e;exact .inr ⟨hk ▸ List.mem_cons_self,Nat.le_refl _,_,pushCells_keeps r _ _ _ (Heap.get?_push_size _ rfl),rfl⟩
    ·exact .inl hm
   ·rw[Heap.size_push] at h2;exact .inr ⟨List.mem_cons_of_mem _ h1,Nat.le_of_succ_le h2,h3⟩
  ·rename_i hk;rw[if_neg hk];rcases ki hm with hm |⟨h1,h2,h3⟩
   ·exact .inl hm
   ·exact .inr ⟨List.mem_cons_of_mem _ h1,h2,h3⟩
theorem mj:∀{names:List (Str×NameKind)} {n:Nat} {acc:List (Str×Addr)} {p:Str×Addr},p∈acc->p∈cellsFrom n names acc
 |[],_,_,_,h=>h
 |(m,k)::r,n,acc,p,h=>by
  unfold cellsFrom;split
  ·exact mj (List.mem_cons_of_mem _ h)
  ·exact mj h
theorem ql:∀{names:List (Str×NameKind)} {n:Nat} {acc:List (Str×Addr)} {x:Str},(x,.cell)∈names->∃c,(x,c)∈cellsFrom n names acc
 |(m,k)::r,n,acc,x,h=>by
  unfold cellsFrom;rcases List.mem_cons.mp h with e |h
  ·cases e;exact⟨n,mj List.mem_cons_self⟩
  ·split
   ·exact ql h
   ·exact ql h
theorem qm:∀{names:List (Str×NameKind)} {h:Heap} {acc:List (Str×Addr)} {x y:Str} {c:Addr},(∀p∈acc,p.2<h.objs.size)->(∀x y c,(x,c)∈acc->(y,c)∈acc->x=y) ->
  (x,c)∈cellsFrom h.objs.size names acc->(y,c)∈cellsFrom h.objs.size names acc->x=y
 |[],_,_,_,_,_,_,hi,h1,h2=>hi _ _ _ h1 h2
 |(n,k)::r,h,acc,x,y,c,hl,hi,h1,h2=>by
  unfold cellsFrom at h1 h2;split at h1
  ·rename_i hk;rw[if_pos hk] at h2;rw[<-Heap.size_push h {cls:=.type "cell",data:=.cell none}] at h1 h2;refine qm (h:=h.push _) (λp hp=>?_) (λx y c a b=>?_) h1 h2
   ·rw[Heap.size_push];rcases List.mem_cons.mp hp with rfl |hp
    ·exact Nat.lt_succ_self _
    ·exact Nat.lt_succ_of_lt (hl p hp)
   ·rcases List.mem_cons.mp a with e |a <;> rcases List.mem_cons.mp b with e' |b
    ·cases e;cases e';rfl
    ·cases e;exact absurd (hl _ b) (Nat.lt_irrefl _)
    ·cases e';exact absurd (hl _ a) (Nat.lt_irrefl _)
    ·exact hi _ _ _ a b
  ·rename_i hk;rw[if_neg hk] at h2;exact qm hl hi h1 h2
theorem zA{M:Model}{A:Around}{E:Value->Shared->Prop}{s:Shared}{scope:Scope}{globals:Addr}{closure:List (Str×Addr)}{qual:Str}{func:Option Addr}{code:Value}{around:Env}{builtins:Addr}{Q:Env->Shared->Prop}
  (h:Q (newEnv scope s.heap.objs.size globals (cellsFrom (s.heap.objs.size+1) scope.names closure) qual func code (some around) builtins)
   {s with heap:=pushCells (s.heap.push {cls:=.type "dict",data:=.dict #[]}) scope.names}) :
  wpAny M A (newFunctionEnv scope globals closure [] qual func code (some around) builtins) Q E s:=by
 simp only[newFunctionEnv,Option.isSome_some,if_true];refine wpAny_bind (wpAny_alloc ?_);refine wpAny_bind (wpAny_layCells _ (λn k c=>rfl) scope.names closure _ _ ?_);rw[show ({s with heap:=s.heap.push {cls:=.type "dict",data:=.dict #[]}}:Shared).heap.objs.size=s.heap.objs.size+1 from Heap.size_push ..];rw[List.forIn_nil];exact wpAny_bind (wpAny_pure (wpAny_pure h))
theorem lM{sc:Scope}:∀{names:List (Str×NameKind)} {x:Str} {k:NameKind},
  (names.map λ(n,k)=>if (k == NameKind.free && sc.kind == .function && sc.names.lookup n == some .cell) then (n,NameKind.cell) else (n,k)).lookup x=some k ->
  ∃k',names.lookup x=some k'/\(k=k'\/(k'=.free/\k=.cell))
 |[],_,_,h=>by simp at h
 |(n,k₀)::r,x,k,h=>by
  have ih:=@lM sc r x k;have h':List.lookup x ((if (k₀ == NameKind.free && sc.kind == .function && sc.names.lookup n == some .cell)=true then (n,NameKind.cell) else (n,k₀))::(r.map _))=some k:=h;cases hx:x == n with
  |true =>
   simp only[List.lookup_cons,hx]
   by_cases hc:(k₀ == NameKind.free && sc.kind == .function && sc.names.lookup n == some .cell)=true
   ·rw[if_pos hc] at h';simp only[List.lookup_cons,hx] at h';cases h';simp only[Bool.and_eq_true,beq_iff_eq] at hc;exact⟨k₀,rfl,.inr ⟨hc.1.1,rfl⟩⟩
   ·rw[if_neg hc] at h';simp only[List.lookup_cons,hx] at h';cases h';exact⟨_,rfl,.inl rfl⟩
  |false =>
   simp only[List.lookup_cons,hx]
   by_cases hc:(k₀ == NameKind.free && sc.kind == .function && sc.names.lookup n == some .cell)=true
   ·rw[if_pos hc] at h';simp only[List.lookup_cons,hx] at h';exact ih h'
   ·rw[if_neg hc] at h';simp only[List.lookup_cons,hx] at h';exact ih h'
structure mS(N:List Str)(sc scope:Scope)(own:List (Str×Nat)):Prop where
 kind:scope.kind=.function
 OY:∀y∈scope.names,scope.names.lookup y.1=some y.2
 ix:∀p∈own,N[p.2]?=some p.1
 free:∀y∈scope.names,y.2=.free->sc.names.lookup y.1=some .cell\/sc.names.lookup y.1=some .free
 own:∀y∈scope.names,y.2=.local\/y.2=.cell->y.1∈own.map (·.1)\/y.1∉N
def nu(σ:St):List Nat->St
 |[]=>σ
 |v::vs=>(nu σ vs).set v none
theorem lN(σ:St):∀vs:List Nat,(nu σ vs).length=σ.length
 |[]=>rfl
 |v::vs=>by unfold nu;rw[List.length_set,lN σ vs]
theorem qo{σ:St}{i:Nat}{x:V}:∀{vs:List Nat},(nu σ vs)[i]?=some (some x)->σ[i]?=some (some x)/\i∉vs
 |[],h=>⟨h,by simp⟩
 |v::vs,h=>by
  unfold nu at h
  by_cases hi:v=i
  ·subst hi
   by_cases hv:v<(nu σ vs).length
   ·rw[List.getElem?_set_self hv] at h;cases h
   ·rw[List.getElem?_eq_none (by simpa using hv)] at h;cases h
  ·rw[List.getElem?_set_ne hi] at h;obtain⟨h1,h2⟩:=qo h;exact⟨h1,by simp only[List.mem_cons,not_or];exact⟨λe=>hi e.symm,h2⟩⟩
abbrev Cx.zB(X:Cx)(s:Shared)(H:Hp)(scope:Scope)(gs:Env)(fp:List Addr):Cx:={X with tq:=s,Rz:=H,env:=gs,ai:=X.stack,ex:=fp,fn:=λx=>scope.names.lookup x == some .cell,pn:=[],xe:=λ_ _=>False}
section
variable{X:Cx}{pins:List (Addr×Obj)}{σ:St}{H:Hp}{s:Shared}
theorem zC{scope:Scope}{own:List (Str×Nat)}{fp:List Addr}(I:Inv X pins σ H s)(ok:mS X.N X.env.scope scope own)(hN:X.N.Nodup)(Q3:∀b∈fp,tE X pins H b/\b<s.heap.objs.size) :
  Inv (X.zB s H scope (compEnvC scope (cellsFrom (s.heap.objs.size+1) scope.names (c8 X.env.cells scope.names [])) s.heap.objs.size X.env) fp) [] (nu σ (own.map (·.2))) H {s with heap:=pushCells (s.heap.push {cls:=.type "dict",data:=.dict #[]}) scope.names}:=by
 have vU:∀y∈scope.names,y.2=.free->∃c,X.env.cells.lookup y.1=some c:=λy hy e=>by
  rcases ok.free y hy e with k |k
  ·exact I.ok.has _ (.inl k)
  ·exact I.ok.has _ (.inr k)
 generalize zD:compEnvC scope (cellsFrom (s.heap.objs.size+1) scope.names (c8 X.env.cells scope.names [])) s.heap.objs.size X.env=gs;have kp:∀b o,s.heap.get? b=some o->(pushCells (s.heap.push {cls:=.type "dict",data:=.dict #[]}) scope.names).get? b=some o:=λb o e=>pushCells_keeps _ _ _ _ (Heap.get?_push_of_some _ e);have hL:gs.locals=s.heap.objs.size:=by rw[<-zD];rfl
 have Le:gs.cells=cellsFrom (s.heap.objs.size+1) scope.names (c8 X.env.cells scope.names []):=by rw[<-zD];rfl
 have VO:gs.scope=VN scope X.env.scope:=by rw[<-zD];rfl
 rw[<-Heap.size_push s.heap {cls:=.type "dict",data:=.dict #[]}] at Le;have cm:∀{y c},(y,c)∈c8 X.env.cells scope.names []->X.env.cells.lookup y=some c/\c<s.heap.objs.size:=λ{y c} hm=>by
  rcases jE hm with hm |⟨h1,rfl⟩
  ·cases hm
  ·obtain⟨c,hc⟩:=vU _ h1 rfl;rw[hc];obtain⟨w,z⟩:=I.cell _ _ hc;exact⟨rfl,z.lt⟩
 have mem:∀{y c},gs.cells.lookup y=some c->(X.env.cells.lookup y=some c/\c<s.heap.objs.size)\/(s.heap.objs.size+1<=c/\Ib (pushCells (s.heap.push {cls:=.type "dict",data:=.dict #[]}) scope.names) c none):=λ{y c} e=>by
  rw[Le] at e;rcases ki (PySem.mem_of_lookup e) with hm |⟨_,h2,h3⟩
  ·exact .inl (cm hm)
  ·rw[Heap.size_push] at h2;exact .inr ⟨h2,h3⟩
 have Fp:∀{y},scope.names.lookup y=some .free->∃c,gs.cells.lookup y=some c/\X.env.cells.lookup y=some c:=λ{y} hl=>by
  have hy:(y,NameKind.free)∈scope.names:=PySem.mem_of_lookup hl;obtain⟨c',e'⟩:=nt (mj (names:=scope.names) (n:=(s.heap.push {cls:=.type "dict",data:=.dict #[]}).objs.size) (lL (cells:=X.env.cells) (acc:=[]) hy));rw[<-Le] at e';refine⟨c',e',?_⟩;rw[Le] at e';rcases ki (PySem.mem_of_lookup e') with hm |⟨h1,_,_⟩
  ·exact(cm hm).1
  ·have:=ok.OY _ h1;rw[hl] at this;cases this
 have Zv:(X.zB s H scope gs fp).Ok:=by
  refine⟨I.ok.mod,by show gs.scope.kind=_;rw[VO];exact ok.kind,by show gs.globals=_;rw[<-zD];exact I.ok.mK,by show gs.builtins=_;rw[<-zD];exact I.ok.E9,by show s.heap.objs.size<=gs.locals;rw[hL];exact Nat.le_refl _,
   λy z c e1 e2=>?_,λy hy=>?_,λy c z e=>?_,I.ok.hd,I.ok.frames,.inl rfl,λb hb=>⟨?_,λy c e z=>?_⟩,I.bs,Nat.le_trans I.ok.BC I.sz,λb o e hb=>?_,λb hb z=>?_,I.stack,I.oq⟩
  ·have e1:gs.cells.lookup y=some c:=e1;have e2:gs.cells.lookup z=some c:=e2;rw[Le] at e1 e2;refine qm (λp hp=>?_) (λy z c a b=>I.ok.inj y z c (cm a).1 (cm b).1) (PySem.mem_of_lookup e1) (PySem.mem_of_lookup e2);rw[Heap.size_push];exact Nat.lt_succ_of_lt (cm (y:=p.1) (c:=p.2) hp).2
  ·show ∃c,gs.cells.lookup y=some c;have key:∀k,gs.kindOf y=some k->(k=.cell\/k=.free)->∃c,gs.cells.lookup y=some c:=λk hk Lf=>by
    unfold Env.kindOf at hk;rw[VO] at hk;obtain⟨k',e,r⟩:=lM hk;have:k'=.cell\/k'=.free:=by
     rcases r with rfl |⟨rfl,_⟩
     ·exact Lf
     ·exact .inr rfl
    rcases this with rfl |rfl
    ·obtain⟨c,hm⟩:=ql (n:=(s.heap.push {cls:=.type "dict",data:=.dict #[]}).objs.size) (acc:=c8 X.env.cells scope.names []) (PySem.mem_of_lookup e);obtain⟨c',e'⟩:=nt hm;exact⟨c',by rw[Le];exact e'⟩
    ·obtain⟨c,h1,_⟩:=Fp e;exact⟨c,h1⟩
   rcases hy with hy |hy
   ·exact key _ hy (.inl rfl)
   ·exact key _ hy (.inr rfl)
  ·have z:(scope.names.lookup y == some NameKind.cell)=true:=z;have z:scope.names.lookup y=some .cell:=by simpa using z
   have e:gs.cells.lookup y=some c:=e;rw[Le] at e;rcases ki (PySem.mem_of_lookup e) with hm |⟨_,h2,_⟩
   ·rcases jE hm with hm |⟨h1,_⟩
    ·cases hm
    ·have q:=ok.OY _ h1;rw[z] at q;cases q
   ·rw[Heap.size_push] at h2;exact Nat.le_of_succ_le h2
  ·show b≠gs.locals;rw[hL];exact Nat.ne_of_lt (Q3 b hb).2
  ·have e:gs.cells.lookup y=some c:=e;rcases mem e with ⟨h1,_⟩ |⟨h1,_⟩
   ·exact(Q3 b hb).1.2.2.2.2.1 y c h1 z
   ·have h2:s.heap.objs.size+1<=b:=by rw[<-z];exact h1
    exact absurd (Nat.lt_of_lt_of_le (Q3 b hb).2 (Nat.le_of_succ_le h2)) (Nat.lt_irrefl _)
  ·rcases(Q3 b hb).1.2.2.2.1 with z |z
   ·exact I.ok.mL b o e z
   ·exact absurd (Nat.lt_of_lt_of_le (Heap.lt_size e) (Nat.le_trans I.ok.BC z)) (Nat.lt_irrefl _)
  ·rcases List.mem_cons.mp (I.xz b z) with z |z
   ·exact(Q3 b hb).1.2.1 z
   ·exact(Q3 b hb).1.2.2.1 z
 refine⟨Zv,rfl,I.fF,Un.jd kp,⟨λ_=>none,?_,λi y av e1 e2 e3=>?_⟩,λy c e=>?_,?_,λy c e=>?_,λp hp=>?_,I.hok.jd kp,by rw[lN];exact I.len⟩
 ·show Heap.Ns _ gs.locals _;rw[hL];exact Heap.Ns.keeps (Heap.Ns.new ..) λb o e=>pushCells_keeps _ _ _ _ e
 ·obtain⟨e2,vq⟩:=qo e2;have rV:scope.names.lookup y=some .free/\(gs.kindOf y=some .cell\/gs.kindOf y=some .free):=by
   have key:∀k,gs.scope.names.lookup y=some k->k=.local\/k=.cell\/k=.free->scope.names.lookup y=some .free/\(gs.kindOf y=some .cell\/gs.kindOf y=some .free):=λk hk Lf=>by
    have X2:=hk;rw[VO] at hk;obtain⟨k',e,r⟩:=lM hk;have no:¬(k'=.local\/k'=.cell):=λhh=>by
     rcases ok.own _ (PySem.mem_of_lookup e) hh with e' |e'
     ·obtain⟨p,hp,Zw⟩:=List.mem_map.mp e';have e3:=ok.ix p hp;have:p.1=y:=Zw;rw[this] at e3;exact vq (List.mem_map.mpr ⟨p,hp,oB hN e3 e1⟩)
     ·exact e' (List.mem_of_getElem? e1)
    rcases r with rfl |⟨rfl,rfl⟩
    ·rcases Lf with rfl |rfl |rfl
     ·exact absurd (.inl rfl) no
     ·exact absurd (.inr rfl) no
     ·exact⟨e,.inr X2⟩
    ·exact⟨e,.inl X2⟩
   have e3:uZ gs.scope y:=e3;rcases e3 with e3 |e3 |e3
   ·exact key _ e3 (.inl rfl)
   ·exact key _ e3 (.inr (.inl rfl))
   ·exact key _ e3 (.inr (.inr rfl))
  obtain⟨m,hn,hl⟩:=I.loc;have VP:uZ X.env.scope y:=(ok.free _ (PySem.mem_of_lookup rV.1) rfl).elim (λk=>.inr (.inl k)) (λk=>.inr (.inr k));obtain⟨w,r,q⟩:=hl i y av e1 e2 VP;refine⟨w,r,.inr ⟨rV.2,?_⟩⟩;obtain⟨c,h1,h2⟩:=Fp rV.1;rcases q with ⟨k,_⟩ |⟨_,c',e',z⟩
  ·have k:X.env.scope.names.lookup y=some .local:=k;rcases ok.free _ (PySem.mem_of_lookup rV.1) rfl with k' |k' <;> rw[show X.env.scope.names.lookup y=_ from k'] at k <;> cases k
  ·rw[h2] at e';cases e';exact⟨c,h1,z.keeps kp⟩
 ·have e:gs.cells.lookup y=some c:=e;rcases mem e with ⟨h1,_⟩ |⟨_,z⟩
  ·obtain⟨w,z⟩:=I.cell y c h1;exact⟨w,z.keeps kp⟩
  ·exact⟨_,z⟩
 ·show H gs.locals=none;rw[hL];exact I.hok.fresh (Nat.le_refl _)
 ·have e:gs.cells.lookup y=some c:=e;rcases mem e with ⟨h1,_⟩ |⟨h1,_⟩
  ·exact I.fT y c h1
  ·exact I.hok.fresh (Nat.le_of_succ_le h1)
 ·exact absurd (show p∈([]:List (Addr×Obj))++[] from hp) (by simp)
theorem OZ{E:Value->Shared->Prop}{D:Addr}{xs:List V}{y:V}{v:Value}{Q:Value->Shared->Prop}(I:Inv X pins σ H s)(hD:H D=some (.de xs))(hz:xs.length<sizeLine)(r:cz y v)
  (h:∀s',Inv X pins σ (dE H D (.de (xs++[y]))) s'->Q .none s'):wpAny (model X.prog X.w) X.A (call (.builtin "list.append") [.ref D,v]) Q E s:=by
 obtain⟨BW,cp,n,ri,e⟩:=I.hok D _ hD;have hl:=ri.length;refine append_at (hsz:=by rw[List.size_toArray];omega) e λh' sb Bu=>?_;refine h {s with heap:=h'} (I.lE (t':=s.toks) (by rw[hD];trivial) (.inl rfl) (λb u hb q=>(sb.2 b hb).trans q) ⟨_,Bu⟩ ⟨by rw[List.length_append];exact hz,cp++[v],n+1,ri.append (.cons r .nil),?_⟩);rw[Bu];simp
def Fu:TT:=λ_ H Q=>Q true H
end
theorem Lg{α:Type}{t:Sem α}{Q Q':α->Shared->Prop}{M:Model}{A:Around}{E:Value->Shared->Prop}{s:Shared}(h:wpAny M A t Q (λ_ _=>False) s)(hQ:∀a s,Q a s->Q' a s):wpAny M A t Q' E s:=wpAny_mono h hQ λ_ _ z=>False.elim z
theorem xK{prog:Program}{w:World}{A:Around}{R:Result->Shared->Prop}{s:Shared}{elt target iter:Expr}{ifs:List Expr}{scope:Scope}{pos:Pos}{it acc:Value}{env:Env}(I:Nat->Shared->Prop)
  (turn:∀n s,I n s->wpAny (model prog w) A (pyNext it) (λr s₁=>match r with
   |none=>R (.ok .next) s₁
   |some v=>wpAny (model prog w) A (letOwnedTupleGo target it v) (λ_ s₁'=>wpAny (model prog w) A (assign target env v) (λ_ s₂ =>
     wpAny (model prog w) A (forIn ifs true λc r=>if r=true then do let ok<-isTrue c env (eval c env);pure (ForInStep.yield ok) else pure (ForInStep.yield r)) (λok s₃ =>
      if ok=true then wpAny (model prog w) A (eval elt env) (λx s₄ =>
       wpAny (model prog w) A (call (.builtin "list.append") [acc,x]) (λ_ s₅=>∃m,m<n/\I m s₅) (notedBy (model prog w) A env λe s'=>R (.error e) s') s₄) (notedBy (model prog w) A env λe s'=>R (.error e) s') s₃
      else ∃m,m<n/\I m s₃) (notedBy (model prog w) A env λe s'=>R (.error e) s') s₂) (notedBy (model prog w) A env λe s'=>R (.error e) s') s₁') (notedBy (model prog w) A env λe s'=>R (.error e) s') s₁) (notedBy (model prog w) A env λe s'=>R (.error e) s') s)
  (n:Nat) (h:I n s) :
  codeAny (model prog w) A (.compLoop (.ListComp elt [⟨target,iter,ifs,0⟩] scope pos) 0 it acc env) R s:=by
 refine codeAny_loop rfl I (λn s hI=>?_) n h;show wpAny _ A ((compTurn (.ListComp elt [⟨target,iter,ifs,0⟩] scope pos) 0 it acc env).onRaise (λx=>do noteFrame x env;theTreesLotGoes x)) _ _ s;refine wpAny_noted ?_;rw[compTurn_list];refine wpAny_bind (wpAny_standAt (wpAny_bind (wpAny_mono (turn n s hI) (λr s₁ h₁=>?_) λ_ _ h'=>h')));cases r with
 |none=>exact wpAny_pure h₁
 |some v =>
  refine wpAny_bind (wpAny_mono h₁ (λ_ s₁' h₁'=>?_) λ_ _ h'=>h');refine wpAny_bind (wpAny_mono h₁' (λ_ s₂ h₂=>wpAny_bind (wpAny_mono h₂ (λok s₃ h₃=>?_) λ_ _ h'=>h')) λ_ _ h'=>h');cases ok with
  |false=>exact wpAny_pure ⟨rfl,h₃⟩
  |true =>
   exact wpAny_bind (wpAny_bind (wpAny_mono h₃ (λx s₄ h₄=>wpAny_bind (wpAny_mono h₄ (λ_ s₅ h₅=>wpAny_pure (wpAny_pure ⟨rfl,h₅⟩)) λ_ _ h'=>h')) λ_ _ h'=>h'))
section
variable{X:Cx}
def X3(wi:TI)(g:TG)(tt:TT)(te:TE)(vs:List Nat):TE:=λσ H Q=>wi σ H λJ H1=>∀D,H1 D=none->∃W:Nat->Nat->Hp->Prop,(∃m,W 0 m (dE H1 D (.de [])))/\∀i m H,W i m H ->
 (J.gj i H/\Q (.ref D) H)\/(J.go i H/\∃Nx:Hp->Prop,(∀H',Nx H'->∃m',m'<m/\W (i+1) m' H')/\∀x H',J.QX i H x H'->g x (nu σ vs) H' λσ2 H2=>nu σ2 vs=nu σ vs/\tt σ2 H2 λb H3 =>
  if b=true then te σ2 H3 λy H4=>∃acc,H4 D=some (.de acc)/\acc.length<sizeLine/\Nx (dE H4 D (.de (acc++[y]))) else Nx H3)
end
end L2
namespace L2
open PySem PySem.Spec PyProof.Rows
section
variable{prog:Program}{w:World}{A:Around}{R:Result->Shared->Prop}{s:Shared}{elt t0 i0 t1 i1:Expr}{Zx Zy:List Expr}{scope:Scope}{pos:Pos}{it acc:Value}{env:Env}
end
section
variable{X:Cx}
end
end L2
namespace L2
open PySem PySem.Spec PyProof.Rows
section
variable{κ:Type}[DecidableEq κ]
def gn(a4:List (κ×V))(k:κ):Option V:=(a4.find? λkv=>decide (kv.1=k)).map (·.2)
def qr(a4:List (κ×V))(k:κ)(v:V):List (κ×V) :=
 if (a4.any λkv=>decide (kv.1=k))=true then a4.map (λkv=>if kv.1=k then (kv.1,v) else kv) else a4++[(k,v)]
theorem tK{p:κ×V}{r:List (κ×V)}{k:κ}(e:p.1=k):gn (p::r) k=some p.2:=by simp [gn,List.find?_cons,e]
theorem tL{p:κ×V}{r:List (κ×V)}{k:κ}(e:¬p.1=k):gn (p::r) k=gn r k:=by simp [gn,List.find?_cons,e]
theorem zE(k:κ):∀a4:List (κ×V),(a4.any λkv=>decide (kv.1=k))=(gn a4 k).isSome
 |[]=>rfl
 |p::r=>by
  rw[List.any_cons]
  by_cases e:p.1=k
  ·simp only[tK e,decide_eq_true e,Bool.true_or,Option.isSome_some]
  ·rw[tL e,decide_eq_false e,Bool.false_or];exact zE k r
theorem rf(a4:List (κ×V))(k:κ)(v:V):(qr a4 k v).length<=a4.length+1:=by
 unfold qr;split
 ·rw[List.length_map];omega
 ·rw[List.length_append,List.length_cons,List.length_nil];omega
theorem jy.kj{o:Option V}{u:Option Value}(r:jy o u):o.isSome=u.isSome:=by
 cases o with
 |none=>cases u with
  |none=>rfl
  |some _=>exact(show False from r).elim
 |some _=>cases u with
  |none=>exact(show False from r).elim
  |some _=>rfl
theorem KV.val{a4:List (κ×V)}{vs:List (κ×Value)}(r:KV a4 vs)(k:κ):jy (gn a4 k) (valueAt vs k):=by
 unfold KV at r
 induction r with
 |nil=>exact True.intro
 | @cons p q ps qs h t ih =>
  obtain⟨h1,h2⟩:=h
  by_cases e:p.1=k
  ·have e':q.1=k:=h1.symm.trans e;have b:valueAt (q::qs) k=some q.2:=by simp [valueAt,List.find?_cons,e']
   rw[tK e,b];exact h2
  ·have e':¬q.1=k:=λz=>e (h1.trans z);have b:valueAt (q::qs) k=valueAt qs k:=by simp [valueAt,List.find?_cons,e']
   rw[tL e,b];exact ih
theorem KV.any{a4:List (κ×V)}{vs:List (κ×Value)}(r:KV a4 vs)(k:κ):(a4.any λkv=>decide (kv.1=k))=vs.any λkv=>decide (kv.1=k):=by
 unfold KV at r
 induction r with
 |nil=>rfl
 |cons h t ih=>rw[List.any_cons,List.any_cons,ih,h.1]
theorem KV.O0{a4:List (κ×V)}{vs:List (κ×Value)}(r:KV a4 vs)(k:κ){y:V}{u:Value}(ry:cz y u) :
  KV (a4.map λkv=>if kv.1=k then (kv.1,y) else kv) (vs.map λkv=>if kv.1=k then (kv.1,u) else kv):=by
 unfold KV at r ⊢
 induction r with
 |nil=>exact .nil
 | @cons p q ps qs h t ih =>
  rw[List.map_cons,List.map_cons];refine .cons ?_ ih;obtain⟨h1,h2⟩:=h
  by_cases e:p.1=k
  ·rw[if_pos e,if_pos (h1.symm.trans e)];exact⟨h1,ry⟩
  ·rw[if_neg e,if_neg (λz=>e (h1.trans z))];exact⟨h1,h2⟩
theorem KV.VQ{a4:List (κ×V)}{vs:List (κ×Value)}(r:KV a4 vs)(k:κ){y:V}{u:Value}(ry:cz y u):KV (qr a4 k y) (stored vs k u):=by
 unfold qr stored;rw[r.any k]
 by_cases e:(vs.any λkv=>decide (kv.1=k))=true
 ·rw[if_pos e,if_pos e];exact r.O0 k ry
 ·rw[if_neg e,if_neg e];exact Paired.snoc r ⟨rfl,ry⟩
theorem KV.length{a4:List (κ×V)}{vs:List (κ×Value)}(r:KV a4 vs):a4.length=vs.length:=Paired.length r
end
theorem zF{P:Program}{w:World}{k:fo}{u:Value}(r:cz (kV k) u):(f6 P w).is k u=true:=by
 cases k with
 |inl i=>obtain⟨t,e⟩:=(show ∃t,u=Value.int i t from r);subst e;exact zn P w i t
 |inr x=>obtain⟨t,e⟩:=(show ∃t,u=Value.str x t from r);subst e;exact zo P w x t
theorem wb{P:Program}{w:World}:∀{ks:List fo} {us:List Value},cC (ks.map kV) us->ItemsAre (f6 P w) ks us
 |[],_,r=>by rw[List.map_nil] at r;cases r;exact .nil
 |k::ks,_,r=>by
  rw[List.map_cons] at r;cases r with
  |cons h t=>exact .cons (zF h) (wb t)
abbrev KT(H:Hp):List (List fo×V)->List (List fo×Addr×Value)->Prop:=Paired λp q=>p.1=q.1/\H q.2.1=some (.iQ (p.1.map kV))/\cz p.2 q.2.2
theorem KT.val{H:Hp}{a4:List (List fo×V)}{xs:List (List fo×Addr×Value)}(r:KT H a4 xs)(k:List fo):jy (gn a4 k) ((atKey xs k).map (·.2)):=by
 induction r with
 |nil=>exact True.intro
 | @cons p q ps qs h t ih =>
  obtain⟨h1,_,h2⟩:=h
  by_cases e:p.1=k
  ·have e':q.1=k:=h1.symm.trans e;have b:atKey (q::qs) k=some q.2:=by simp [atKey,List.find?_cons,e']
   rw[tK e,b];exact h2
  ·have e':¬q.1=k:=λz=>e (h1.trans z);have b:atKey (q::qs) k=atKey qs k:=by simp [atKey,List.find?_cons,e']
   rw[tL e,b];exact ih
theorem KT.O0{H:Hp}{a4:List (List fo×V)}{xs:List (List fo×Addr×Value)}(r:KT H a4 xs)(k:List fo){y:V}{u:Value}(ry:cz y u) :
  KT H (a4.map λkv=>if kv.1=k then (kv.1,y) else kv) (xs.map (putAt k u)):=by
 induction r with
 |nil=>exact .nil
 | @cons p q ps qs h t ih =>
  rw[List.map_cons,List.map_cons];refine .cons ?_ ih;obtain⟨h1,h2,h3⟩:=h;unfold putAt
  by_cases e:p.1=k
  ·rw[if_pos e,if_pos (h1.symm.trans e)];exact⟨h1,h2,ry⟩
  ·rw[if_neg e,if_neg (λz=>e (h1.trans z))];exact⟨h1,h2,h3⟩
theorem KT.VQ{H:Hp}{a4:List (List fo×V)}{xs:List (List fo×Addr×Value)}(r:KT H a4 xs)(k:List fo){b:Addr}{y:V}{u:Value}(hb:H b=some (.iQ (k.map kV)))(ry:cz y u) :
  KT H (qr a4 k y) (storedH xs k b u):=by
 have e:(a4.any λkv=>decide (kv.1=k))=(atKey xs k).isSome:=by
  rw[zE,(r.val k).kj,Option.isSome_map]
 unfold qr storedH;rw[e]
 by_cases q:(atKey xs k).isSome=true
 ·rw[if_pos q,if_pos q];exact r.O0 k ry
 ·rw[if_neg q,if_neg q];exact Paired.snoc r ⟨rfl,hb,ry⟩
theorem KT.keeps{H H':Hp}{a4:List (List fo×V)}{xs:List (List fo×Addr×Value)}(r:KT H a4 xs)(ht:∀b ys,H b=some (.iQ ys)->H' b=some (.iQ ys)):KT H' a4 xs :=
 Paired.KN r λ_ _ z=>⟨z.1,ht _ _ z.2.1,z.2.2⟩
section
variable{P:Program}{w:World}{H:Hp}{h:Heap}{a:Addr}
theorem NK{u:HO}(ok:jz P w H h)(e:Rd H a u):cB P w H h a u:=e.ok ok
theorem zG{a4:List (fo×V)}(ok:jz P w H h)(e:Rd H a (.dK a4)):a4.length<=sizeLine/\(a == sysModules)=false/\∃vs,KV a4 vs/\h.DictOf (f6 P w) a vs :=
 show cB P w H h a (.dK a4) from NK ok e
theorem Si{a4:List (fo×V)}(ok:jz P w H h)(e:H a=some (.dK a4)):a4.length<=sizeLine/\(a == sysModules)=false/\∃vs,KV a4 vs/\h.DictOf (f6 P w) a vs:=zG ok (.inl e)
theorem tM{ks:List fo}(ok:jz P w H h)(e:H a=some (.iQ (ks.map kV))):(tupleKind (f6 P w)).is h ks a:=by
 obtain⟨_,cp,r,o,h1,h2,n,h3⟩:=(show cB P w H h a (.iQ (ks.map kV)) from ok a _ e)
 exact⟨o,cp.toArray,n,h1,h2,h3,by simpa using wb r⟩
theorem zH{a4:List (List fo×V)}(ok:jz P w H h)(e:Rd H a (.dT a4)):a4.length<=sizeLine/\(a == sysModules)=false /\
  ∃xs,KT H a4 xs/\h.DictOfH (tupleKind (f6 P w)) a xs:=by
 obtain⟨z,y,xs,r,o,es,ep,h1,h2,h3,h4,h5⟩:=(show cB P w H h a (.dT a4) from NK ok e)
 refine⟨z,y,xs,r,o,es,ep,h1,h2,h3,h4,λx hx=>?_,h5⟩;have all:∀{l:List (List fo×V)} {m:List (List fo×Addr×Value)},KT H l m->∀x∈m,(tupleKind (f6 P w)).is h x.1 x.2.1:=by
  intro l m q
  induction q with
  |nil=>intro x hx;exact nomatch hx
  | @cons p q ps qs hq t ih =>
   intro x hx;rcases List.mem_cons.mp hx with e |hx
   ·subst e;exact tM ok (by rw[<-hq.1];exact hq.2.1)
   ·exact ih x hx
 exact all r x hx
theorem Ic{a4:List (List fo×V)}(ok:jz P w H h)(e:H a=some (.dT a4)):a4.length<=sizeLine/\(a == sysModules)=false /\
  ∃xs,KT H a4 xs/\h.DictOfH (tupleKind (f6 P w)) a xs:=zH ok (.inl e)
end
def rO(H:Hp)(a:Addr)(y:V)(r:Option V):Prop :=
 (∃a4 k,Rd H a (.dK a4)/\y=kV k/\r=gn a4 k)\/∃a4 k b,Rd H a (.dT a4)/\y=.ref b/\H b=some (.iQ (k.map kV))/\r=gn a4 k
def Fv(H:Hp)(a:Addr)(y v:V)(H':Hp):Prop :=
 (∃a4 k,H a=some (.dK a4)/\y=kV k/\a4.length<sizeLine/\H'=dE H a (.dK (qr a4 k v))) \/
 ∃a4 k b,H a=some (.dT a4)/\y=.ref b/\H b=some (.iQ (k.map kV))/\a4.length<sizeLine/\H'=dE H a (.dT (qr a4 k v))
theorem rO.t{H:Hp}{a b:Addr}{a4:List (List fo×V)}{k:List fo}(e:H a=some (.dT a4))(eb:H b=some (.iQ (k.map kV))):rO H a (.ref b) (gn a4 k):=.inr ⟨a4,k,b,.inl e,rfl,eb,rfl⟩
theorem Fv.t{H:Hp}{a b:Addr}{a4:List (List fo×V)}{k:List fo}{v:V}(e:H a=some (.dT a4))(eb:H b=some (.iQ (k.map kV)))(hl:a4.length<sizeLine) :
  Fv H a (.ref b) v (dE H a (.dT (qr a4 k v))):=.inr ⟨a4,k,b,e,rfl,eb,hl,rfl⟩
section
variable{X:Cx}{pins:List (Addr×Obj)}{σ:St}{H:Hp}{s:Shared}{a:Addr}{y v:V}{u r:Value}{o:Option V}{A:Around}{E:Value->Shared->Prop}
theorem Inv.X4(I:Inv X pins σ H s):sysModules<s.heap.objs.size:=by
 have h:mainGlobals<s.heap.objs.size:=(I.mod.mK.keeps I.bk).lt;exact Nat.lt_trans d_ h
theorem Fw{Q:Value->Shared->Prop}(hu:A.units+1<cLine)(I:Inv X pins σ H s)(g:rO H a y (some v))(ry:cz y u)(h:∀w' s',Inv X pins σ H s'->cz v w'->Q w' s') :
  wpAny (model X.prog X.w) A (getItem (.ref a) u) Q E s:=by
 rcases g with ⟨a4,k,e,ey,l⟩ |⟨a4,k,b,e,ey,eb,l⟩
 ·subst ey;obtain⟨z,hd,vs,vr,dd⟩:=zG I.hok e;obtain⟨w',hw,La⟩:=jy.oE (v:=v) (o:=valueAt vs k) (by rw[l];exact vr.val k);exact wpAny_getItem_of (zF ry) dd.mapOf hw (h w' _ (I.tok _) La)
 ·subst ey;cases (show u=Value.ref b from ry);obtain⟨z,hd,xs,vr,dd⟩:=zH I.hok e;obtain⟨w',hw,La⟩:=jy.oE (v:=v) (o:=(atKey xs k).map (·.2)) (by rw[l];exact vr.val k);obtain⟨p,hp,UC⟩:=Option.map_eq_some_iff.mp hw;refine wpAny_getItem_heap (tupleKind_room_in1 hu) (tM I.hok eb) dd hp ?_;rw[UC];exact h w' _ (I.tok _) La
theorem VR{Q:Value->Shared->Prop}(hu:A.units+1<cLine)(I:Inv X pins σ H s)(g:rO H a y o)(ry:cz y u)(h:∀s',Inv X pins σ H s'->Q (.bool o.isSome) s') :
  wpAny (model X.prog X.w) A (compareOp .In u (.ref a)) Q E s:=by
 rcases g with ⟨a4,k,e,ey,l⟩ |⟨a4,k,b,e,ey,eb,l⟩
 ·subst ey;obtain⟨z,hd,vs,vr,dd⟩:=zG I.hok e;refine wpAny_in_of (zF ry) hd dd.mapOf ?_;rw[<-(vr.val k).kj,<-l];exact h _ (I.tok _)
 ·subst ey;cases (show u=Value.ref b from ry);obtain⟨z,hd,xs,vr,dd⟩:=zH I.hok e;refine wpAny_in_heap (tupleKind_room_in1 hu) (tM I.hok eb) hd dd ?_;have q:=(vr.val k).kj;rw[Option.isSome_map] at q;rw[<-q,<-l];exact h _ (I.tok _)
theorem Lh{Q:Value->Shared->Prop}(hu:A.units+1<cLine)(I:Inv X pins σ H s)(g:rO H a y o)(ry:cz y u)(h:∀s',Inv X pins σ H s'->Q (.bool (!o.isSome)) s') :
  wpAny (model X.prog X.w) A (compareOp .NotIn u (.ref a)) Q E s:=by
 rcases g with ⟨a4,k,e,ey,l⟩ |⟨a4,k,b,e,ey,eb,l⟩
 ·subst ey;obtain⟨z,hd,vs,vr,dd⟩:=zG I.hok e;refine wpAny_notIn_of (zF ry) hd dd.mapOf ?_;rw[<-(vr.val k).kj,<-l];exact h _ (I.tok _)
 ·subst ey;cases (show u=Value.ref b from ry);obtain⟨z,hd,xs,vr,dd⟩:=zH I.hok e;refine wpAny_notIn_heap (tupleKind_room_in1 hu) (tM I.hok eb) hd dd ?_;have q:=(vr.val k).kj;rw[Option.isSome_map] at q;rw[<-q,<-l];exact h _ (I.tok _)
theorem D0{h':Heap}{t':Nat}{ob:HO}(I:Inv X pins σ H s)(mu:Rx (H a))(hs:Heap.SameBut a s.heap h')(he:∃q,h'.get? a=some q)(new:cB X.prog X.w (dE H a ob) h' a ob) :
  Inv X pins σ (dE H a ob) {s with heap:=h',toks:=t'} :=
 I.lE (x:=a) (e:=a) mu (.inl rfl) (λb q hb z=>(hs.2 b hb).trans z) he new
theorem O1{P:Program}{w:World}{H':Hp}{h':Heap}{a4:List (fo×V)}{vs:List (fo×Value)}(z:a4.length<=sizeLine)(hd:(a == sysModules)=false)(vr:KV a4 vs)(dd:h'.DictOf (f6 P w) a vs) :
  cB P w H' h' a (.dK a4):=⟨z,hd,vs,vr,dd⟩
theorem Fy{H':Hp}{Q:Unit->Shared->Prop}(hu:A.units+1<cLine)(I:Inv X pins σ H s)(g:Fv H a y v H')(ry:cz y u)(rv:cz v r)(h:∀s',Inv X pins σ H' s'->Q () s') :
  wpAny (model X.prog X.w) A (setItem (.ref a) u r) Q E s:=by
 rcases g with ⟨a4,k,e,ey,l,eH⟩ |⟨a4,k,b,e,ey,eb,l,eH⟩
 ·subst ey eH;obtain⟨z,hd,vs,vr,dd⟩:=Si I.hok e;have hz:vs.length<=sizeLine:=by rw[<-vr.length];exact z
  have hl:(qr a4 k v).length<=sizeLine:=by have:=rf a4 k v;omega
  refine wpAny_setItem_pairs (hsz:=hz) (zF ry) dd λh' Sj hs=>h _ ?_;have he:∃q,h'.get? a=some q:=let ⟨q,_,_,hq,_⟩:=Sj;⟨q,hq⟩;exact D0 I (by rw[e];exact True.intro) hs he (O1 hl hd (vr.VQ k rv) Sj)
 ·subst ey eH;cases (show u=Value.ref b from ry);obtain⟨z,hd,xs,vr,dd⟩:=Ic I.hok e;have hz:xs.length<=sizeLine:=by rw[<-Paired.length vr];exact z
  have hl:(qr a4 k v).length<=sizeLine:=by have:=rf a4 k v;omega
  refine wpAny_setItem_heap (hsz:=hz) (tupleKind_room_in1 hu) (tM I.hok eb) dd λh' Sj hs=>h _ ?_;obtain⟨q,es,ep,hq,h2,h3,h4,_,h5⟩:=Sj;refine D0 I (by rw[e];exact True.intro) hs ⟨q,hq⟩ ⟨hl,hd,_,(vr.VQ k eb rv).keeps λc ys ec=>?_,q,es,ep,hq,h2,h3,h4,h5⟩;rw[aB (sZ ec e (λz=>nomatch z))];exact ec
end
section
variable{X:Cx}{pins:List (Addr×Obj)}{σ:St}{H:Hp}{s:Shared}{a:Addr}{a4:List (fo×V)}{k:fo}{u:Value}{A:Around}{E:Value->Shared->Prop}
end
def O2(i:Expr):Prop:=∀ov iv,subscripted i false ov iv=operate [ov,iv] (getItem ov iv)
theorem Lj{prog:Program}{w:World}{A:Around}{E:Value->Shared->Prop}{s:Shared}{env:Env}{value slice:Expr}{pos:Pos}{T id:String}{Q:Value->Shared->Prop}
  (hl:typeLookup (.type T) "__getitem__"=pure (some (.builtin id)))(hs:O2 slice)
  (h:wpAny (model prog w) A (eval value env) (λo s₁=>wpAny (model prog w) A (eval slice env) (λi s₂=>s₂.TypeIs o T/\wpAny (model prog w) A (getItem o i) Q E s₂) E s₁) E s) :
  wpAny (model prog w) A (eval (.Subscript value slice pos) env) Q E s:=by
 refine Subscript_ (wpAny_mono h (λo s₁ h₁=>wpAny_mono h₁ (λi s₂ h₂=>?_) λ_ _ x=>x) λ_ _ x=>x);obtain⟨hT,h₂⟩:=h₂;unfold subscriptTail;refine wpAny_bind ?_;rw[getitemInPython_of_ne hT.not_modules];refine wpAny_bind (wpAny_specialOf hT hl ?_);have fin:wpAny (model prog w) A (subscripted slice false o i) (λr s₃=>wpAny (model prog w) A (letTemporaryGo value o r>>=λ_=>pure r) Q E s₃) E s₂:=by
  rw[hs o i];exact wpAny_operating (wpAny_mono h₂ (λr s₃ h₃=>wpAny_bind (wpAny_letTemporaryGo (wpAny_pure h₃))) λ_ _ x=>x)
 first
  |exact wpAny_pure (wpAny_bind fin)
  |exact wpAny_bind (wpAny_pure (wpAny_bind fin))
  |exact wpAny_bind fin
theorem zI{X:Cx}{pins:List (Addr×Obj)}{σ:St}{H:Hp}{s:Shared}{a:Addr}{y:V}{o:Option V}(I:Inv X pins σ H s)(g:rO H a y o):s.TypeIs (.ref a) "dict":=by
 rcases g with ⟨a4,k,e,_,_⟩ |⟨a4,k,b,e,_,_,_⟩
 ·obtain⟨_,_,vs,_,dd⟩:=zG I.hok e;exact dd.typeIs
 ·obtain⟨_,_,xs,_,dd⟩:=zH I.hok e;exact dd.typeIs
def Sk(td ty:TE):TE:=λσ H Q=>td σ H λx H1=>ty σ H1 λy H2=>∃a v,x=.ref a/\rO H2 a y (some v)/\Q v H2
def VS(ty td:TE):TE:=λσ H Q=>ty σ H λy H1=>td σ H1 λx H2=>∃a o,x=.ref a/\rO H2 a y o/\Q (.bl o.isSome) H2
def Lk(ty td:TE):TE:=λσ H Q=>ty σ H λy H1=>td σ H1 λx H2=>∃a o,x=.ref a/\rO H2 a y o/\Q (.bl (!o.isSome)) H2
def Sl(td ty tv:TE):TS:=λD σ H=>tv σ H λv H1=>td σ H1 λx H2=>ty σ H2 λy H3=>∃a H4,x=.ref a/\Fv H3 a y v H4/\D.nx σ H4
section
variable{X:Cx}{o i e value:Expr}{pos pos' Vy:Pos}{td ty tv:TE}
theorem Ll(hu:X.A.units+1<cLine)(ho:PE X o td)(hi:PE X i ty)(hs:O2 i):PE X (.Subscript o i pos) (Sk td ty):=by
 intro pins s σ H Q I h;refine Lj PySem.F.slot_dict_getitem.lookup hs (dB (ho pins s σ H _ I h) λu s1 ⟨x,H1,I1,rx,q1⟩=>dB (hi pins s1 σ H1 _ I1 q1) λiv s2 ⟨y,H2,I2,ry,a,v,ex,g,q2⟩=>?_);subst ex;obtain rfl:u=Value.ref a:=rx;exact⟨zI I2 g,Fw hu I2 g ry λw' s3 I3 La=>⟨v,H2,I3,La,q2⟩⟩
theorem O3(hu:X.A.units+1<cLine)(hi:PE X i ty)(ho:PE X o td):PC X .In i o (VS ty td):=by
 intro pins s σ H Q I h;refine dB (hi pins s σ H _ I h) λiv s1 ⟨y,H1,I1,ry,q1⟩=>dB (ho pins s1 σ H1 _ I1 q1) λu s2 ⟨x,H2,I2,rx,a,ov,ex,g,q2⟩=>?_;subst ex;obtain rfl:u=Value.ref a:=rx;exact VR hu I2 g ry λs3 I3=>⟨.bl ov.isSome,H2,I3,rfl,q2⟩
theorem Fz(hu:X.A.units+1<cLine)(hi:PE X i ty)(ho:PE X o td):PC X .NotIn i o (Lk ty td):=by
 intro pins s σ H Q I h;refine dB (hi pins s σ H _ I h) λiv s1 ⟨y,H1,I1,ry,q1⟩=>dB (ho pins s1 σ H1 _ I1 q1) λu s2 ⟨x,H2,I2,rx,a,ov,ex,g,q2⟩=>?_;subst ex;obtain rfl:u=Value.ref a:=rx;exact Lh hu I2 g ry λs3 I3=>⟨.bl (!ov.isSome),H2,I3,rfl,q2⟩
theorem D1(hu:X.A.units+1<cLine)(ho:PE X o td)(hi:PE X i ty)(hv:PE X value tv)(hs:swapsWith value (some (.Subscript o i pos')) pos.line X.env=pure false) :
  PS X (.Assign [.Subscript o i pos'] value pos) (Sl td ty tv):=by
 intro pins s σ H D I h;refine wpAny_Assign_Subscript (dB (hv pins s σ H _ I h) λr s1 ⟨v,H1,I1,rv,q1⟩=>dB (ho pins s1 σ H1 _ I1 q1) λu s2 ⟨x,H2,I2,rx,q2⟩=>dB (hi pins s2 σ H2 _ I2 q2) λiv s3 ⟨y,H3,I3,ry,a,H4,ex,g,q3⟩=>?_) hs;subst ex;obtain rfl:u=Value.ref a:=rx;exact Fy hu I3 g ry rv λs4 I4=>⟨σ,H4,I4,q3⟩
end
theorem Ie{P:Program}{w:World}{H:Hp}(h:Heap)(hb:sysModules<h.objs.size):cB P w H (h.push {cls:=.type "dict",data:=.dict #[]}) h.objs.size (.dT []) :=
 ⟨Nat.zero_le _,beq_eq_false_iff_ne.mpr (Ne.symm (Nat.ne_of_lt hb)),[],.nil,_,#[],0,Heap.get?_push_size _ rfl,⟨rfl,rfl,rfl⟩,rfl,rfl,List.nodup_nil⟩
def O4:TE:=λ_ H Q=>∀p,H p=none->Q (.ref p) (dE H p (.dT []))
section
variable{X:Cx}{pos:Pos}
theorem zJ:PE X (.Dict [] [] pos) O4:=λpins s σ H Q I h =>
 wpAny_Dict_empty ⟨.ref s.heap.objs.size,_,I.qg (a:=s.heap.objs.size) (o:=.dT []) (t':=s.toks) (λ_ _ q=>Heap.get?_push_of_some _ q) (Nat.le_refl _) (Ie s.heap I.X4),rfl,h _ (I.hok.fresh (Nat.le_refl _))⟩
end
section
variable{X:Cx}{pins:List (Addr×Obj)}{σ:St}{H:Hp}{s:Shared}{a:Addr}{y d:V}{u r:Value}{o:Option V}{A:Around}{E:Value->Shared->Prop}
end
section
variable{X:Cx}{o e f:Expr}{apos gE:Pos}{td ty tx:TE}
end
section
variable{X:Cx}{pins:List (Addr×Obj)}{σ:St}{H:Hp}{s:Shared}{a:Addr}{a4:List (fo×V)}{A:Around}{E:Value->Shared->Prop}
end
section
variable{X:Cx}{pins:List (Addr×Obj)}{σ:St}{H:Hp}{s:Shared}{a:Addr}{y:V}{u:Value}{A:Around}{E:Value->Shared->Prop}
end
end L2
namespace L2
open PySem PySem.Spec PyProof.Rows
section
variable{prog:Program}{w:World}{A:Around}{E:Value->Shared->Prop}
end
section
variable{X:Cx}
end
end L2
namespace L2
open PySem PySem.Spec PyProof.Rows
section
variable{X:Cx}{pins:List (Addr×Obj)}{σ:St}{H:Hp}{s:Shared}{h':Heap}
end
section
variable{X:Cx}
theorem Ig{tg:Expr}{pins:List (Addr×Obj)}{σ:St}{H:Hp}{s:Shared}{R:It->Hp->Prop}{J:It}{tn:Nat->Heap->Prop}{tk:Nat}(I:Inv X pins σ H s)(o:Obj)
  (T:qj X.prog X.w X.K tg J [s.heap.objs.size] s.heap.objs.size tn)(st:tn 0 (s.heap.push o))(q:R J H):Vr X pins σ tg R (.ref s.heap.objs.size) {s with heap:=s.heap.push o,toks:=tk}:=by
 refine⟨s.heap.objs.size,[s.heap.objs.size],tn,J,H,rfl,I.jd λb ob e=>Heap.get?_push_of_some _ e,T,st,λb hb=>?_,q⟩;have e:b=s.heap.objs.size:=by simpa using hb
 subst e;exact I.Fg (Nat.le_refl _) (I.hok.fresh (Nat.le_refl _))
end
section
variable{X:Cx}{tg:Expr}
end
section
variable{X:Cx}{tg:Expr}
end
def X5(x:Str):It:=⟨λi _=>i<x.cps.size,λi H v H'=>H'=H/\∃c,x.cps[i]?=some c/\v=.str ⟨#[c]⟩,λi _=>x.cps.size<=i⟩
theorem zK{P:Program}{w:World}{K:Frag}{tg:Expr}(it:Addr)(x:Str)(t:Tok)(ty:String)(Q2:ty="str_ascii_iterator"\/ty="str_iterator") :
  qj P w K tg (X5 x) [it] it (λi h=>h.IsStrIter it ty x t i) where
 mem:=by simp
 obj:=λi h st b hb=>by
  have e:b=it:=by simpa using hb
  subst e;obtain⟨o,e,c,d⟩:=st;exact⟨o,e,λv z=>by rw[d] at z;cases z⟩
 keep:=λi h h' st k=>let ⟨o,ho,r⟩:=st;⟨o,k it (by simp) o ho,r⟩
 item:=by
  intro X hP hw hK hc i pins s σ H E I hf st hg;subst hP hw hK;obtain⟨f0,f1,f2,f3,f4,f5⟩:=hf it (by simp);have W:Walks X.prog X.w X.A it [it] [it] x.cps.size (SignAt x) (λi h=>h.IsStrIter it ty x t i):=by
   rcases Q2 with e |e
   ·rw[e];exact Walks.strAscii (I.ok.hd hc) it x t
   ·rw[e];exact Walks.strWide (I.ok.hd hc) it x t
  have KA:["enumerate","zip","dict_itemiterator","dict_reverseitemiterator","odict_iterator","itertools.zip_longest","itertools.pairwise"].contains ty=false:=by
   rcases Q2 with e |e
   ·rw[e];decide
   ·rw[e];decide
  refine W.item i s _ _ hg st λv h' tk hv HC kk=>?_;obtain⟨c,u,Zz,rfl⟩:=hv;have I1:Inv X pins σ H {s with heap:=h',toks:=tk}:=I.jf (λb o hb e=>kk b o (by simpa using hb) e) f0 f1 f3 f4 f5;obtain⟨oi,e,cc,dd⟩:=id HC;exact⟨_,rfl,DQ (s:={s with heap:=h',toks:=tk}) e cc dd KA ⟨.str ⟨#[c]⟩,H,I1,⟨u,rfl⟩,⟨rfl,c,Zz,rfl⟩,HC,λb hb=>(hf b hb).1⟩⟩
 done:=by
  intro X hP hw hK hc i pins s σ H E I hf st hg;subst hP hw hK;obtain⟨f0,f1,f2,f3,f4,f5⟩:=hf it (by simp);have hx:x.cps[i]?=none:=Array.getElem?_eq_none hg;rcases Q2 with e |e
  ·rw[e] at st;exact wpAny_pyNext_ascii_end (I.ok.hd hc) st hx λh' eb=>⟨rfl,I.jf (t':=s.toks) (λb o hb e=>eb b o hb e) f0 f1 f3 f4 f5⟩
  ·rw[e] at st;exact wpAny_pyNext_wide_end (I.ok.hd hc) st hx λh' eb=>⟨rfl,I.jf (t':=s.toks) (λb o hb e=>eb b o hb e) f0 f1 f3 f4 f5⟩
 self:=λA i s Q E st h=>by
  rcases Q2 with e |e
  ·rw[e] at st;exact wpAny_pyIter_striter_ascii st h
  ·rw[e] at st;exact wpAny_pyIter_striter_wide st h
def Sm(te:TE):TI:=λσ H R=>te σ H λv H1=>∃x,v=.str x/\R (X5 x) H1
theorem Ih{X:Cx}{tg e:Expr}{te:TE}(he:PE X e te):PI X tg e (Sm te):=by
 intro pins s σ H R I h;refine dB (he pins s σ H _ I h) λv s1 ⟨y,H1,I1,r1,x,ex,q⟩=>?_;subst ex;obtain⟨t,rfl⟩:=r1;cases ha:x.cps.all (·<128)
 ·exact wpAny_pyIter_wide ha (Ig (tk:=s1.toks) I1 _ (zK _ x t "str_iterator" (.inr rfl)) ⟨_,Heap.get?_push_size _ rfl,rfl,rfl⟩ q)
 ·exact wpAny_pyIter_ascii ha (Ig (tk:=s1.toks) I1 _ (zK _ x t "str_ascii_iterator" (.inl rfl)) ⟨_,Heap.get?_push_size _ rfl,rfl,rfl⟩ q)
section
variable{prog:Program}{w:World}{A:Around}{E:Value->Shared->Prop}{s:Shared}
end
section
variable{X:Cx}{pins:List (Addr×Obj)}{σ:St}{H:Hp}{s:Shared}{d:Addr}{o:Obj}
end
section
variable{P:Program}{w:World}{K:Frag}{tg:Expr}{d:Addr}{o:Obj}{es:Array DictEntry}{ep:Nat}
end
section
variable{X:Cx}{tg e:Expr}{td:TE}{apos gE:Pos}
end
end L2
section
namespace VT
open PySem PyProof.Rows
end VT
end
section
namespace TL
open PySem PySem.Builtin PySem.Builtin.Str PySem.StrLaws
abbrev tl(x:Str):List Nat:=x.cps.toList
theorem we(x y:Str):tl (x++y)=tl x++tl y:=by
 show (x++y).cps.toList=_;rw[Str.cps_append,Array.toList_append]
def zL(S:List Nat):List (List Nat)->List Nat
 |[]=>[]
 |[p]=>p
 |p::q::r=>p++(S++zL S (q::r))
theorem D2(y:Str):∀kl:List Str,tl (Str.join y kl)=zL (tl y) (kl.map tl)
 |[]=>rfl
 |[_]=>rfl
 |x::z::r=>by
  show tl (x++y++Str.join y (z::r))=tl x++(tl y++zL (tl y) ((z::r).map tl));rw[we,we,D2 y (z::r),List.append_assoc]
theorem Lm(y:Str)(kl:List Str):Txt.join y kl=Str.join y kl:=glued_eq_join y kl
end TL
end
namespace L2
open PySem PySem.Spec PyProof.Rows
theorem kQ:∀{ys:List Str} {us:List Value},cC (ys.map V.str) us->StrsAre us ys
 |[],_,.nil=>.nil
 |y::ys,_,.cons r t=>by
  obtain⟨k,rfl⟩:=r;exact .cons y k (kQ t)
section
variable{X:Cx}{pins:List (Addr×Obj)}{σ:St}{H:Hp}{s:Shared}{Q:VK}
end
section
variable{X:Cx}
theorem Lo:VE X "str.join" (λx xs H Q=>∃a p,∃ys:List Str,x=.str a/\xs=[.ref p]/\(nZ X.K H p (ys.map V.str)\/rZ X.K H p (ys.map V.str)) /\
  (ys.map (·.length)).sum+ys.length*a.length<=16777216/\Q (.str (Txt.join a ys)) H):=by
 intro pins s σ H x xs v us Q I rx rs h;obtain⟨a,p,ys,rfl,rfl,hp,hz,h⟩:=h;obtain⟨t,rfl⟩:=rx;cases rs with
 |cons r1 rs =>
  cases rs;cases r1;rcases hp with hp |hp
  ·obtain⟨cp,r,⟨o,n,ho,hc,_,hd⟩,_⟩:=I.list hp;exact PyProof.Rows.join_list (items:=cp.toArray) ⟨o,ho,hc,n,hd⟩ (by rw[List.toList_toArray];exact kQ r) hz λt' k=>⟨.str _,H,I.tok k,⟨t',rfl⟩,h⟩
  ·obtain⟨cp,r,ht,_⟩:=I.tuple hp;exact PyProof.Rows.join_tuple (items:=cp.toArray) ht (by rw[List.toList_toArray];exact kQ r) hz λt' k=>⟨.str _,H,I.tok k,⟨t',rfl⟩,h⟩
end
section
variable{X:Cx}{o e:Expr}{to te:TE}
def X6(r:V->List V->Hp->VK->Prop)(to te:TE):TE:=λσ H Q=>to σ H λx H1=>(∃a,x=.str a)/\te σ H1 λy H2=>r x [y] H2 Q
theorem Sn{id:String}{name:Str}{apos pos:Pos}{r:V->List V->Hp->VK->Prop}(slot:Slot "str" name id)(ty:typeOf (.builtin id)=pure (.type "method_descriptor"))(rule:VE X id r)(ho:PE X o to)(he:PE X e te)
  (hs:starEach [e] X.env=[(false,eval e X.env)]:=by rfl)(jC:attributeBase o name X.env (eval o X.env)=eval o X.env:=by rfl)(jD:(apos.endLine == pos.line)=true:=by rfl) :
  PE X (.Call (.Attribute o name apos) [e] [] pos) (X6 r to te):=by
 intro pins s σ H Q I h;refine PySem.Call_method1 jC hs jD (dB (ho pins s σ H _ I h) λv s1 ⟨x,H1,I1,r1,q1⟩=>?_);obtain⟨⟨a,rfl⟩,q1⟩:=q1;obtain⟨t,rfl⟩:=_root_.id r1;refine⟨"str",_,F.plainAttrs_str,slot,ty,typeIs_str _ _ _,(λ_ e=>nomatch e),Calls.callWith_builtin rfl (Calls.evalArgs_plain (Calls.spliced_cons ?_))⟩;exact dB (he pins s1 σ H1 _ I1 q1) λu s2 ⟨y,H2,I2,r2,q2⟩=>Calls.spliced_nil (rule pins s2 σ H2 _ [y] _ [u] Q I2 r1 (.cons r2 .nil) q2)
theorem Lp{apos pos:Pos}(ho:PE X o to)(he:PE X e te)(hs:starEach [e] X.env=[(false,eval e X.env)]:=by rfl)(jC:attributeBase o "join" X.env (eval o X.env)=eval o X.env:=by rfl)(jD:(apos.endLine == pos.line)=true:=by rfl) :
  PE X (.Call (.Attribute o "join" apos) [e] [] pos) (X6 (λx xs H Q=>∃a p,∃ys:List Str,x=.str a/\xs=[.ref p]/\(nZ X.K H p (ys.map V.str)\/rZ X.K H p (ys.map V.str)) /\
   (ys.map (·.length)).sum+ys.length*a.length<=16777216/\Q (.str (Txt.join a ys)) H) to te) :=
 Sn F.slot_str_join F.type_str_join Lo ho he hs jC jD
end
end L2
namespace L2
open PySem PySem.Spec PyProof.Rows
section
variable{X:Cx}
end
end L2
namespace ZA
open PySem PySem.W PySem.Calls PyProof.Rows
section
variable{prog:Program}{w:World}{A:Around}{E:Value->Shared->Prop}{s:Shared}{K:Frag}
end
end ZA
namespace L2
open PySem PySem.Spec PyProof.Rows
end L2
namespace L2
open PySem PySem.Spec PyProof.Rows
end L2
namespace L2
open PySem PySem.Spec PyProof.Rows
def fQ(s:Stmt)(j:Nat):Stmt:=match s with
 |.ClassDef _ _ _ body _ _ _ _ _ _ _=>body.getD j (.Pass ⟨0,0,0,0⟩)
 |_=>.Pass ⟨0,0,0,0⟩
def fz(s:Stmt):Arguments:=match s with
 |.FunctionDef _ a _ _ _ _ _ _ _ _=>a
 |_=>{posonlyargs:=[],args:=[],vararg:=none,kwonlyargs:=[],kw_defaults:=[],kwarg:=none,defaults:=[]}
def cq(s:Stmt):List Stmt:=match s with
 |.FunctionDef _ _ b _ _ _ _ _ _ _=>b
 |_=>[]
def ax(s:Stmt):Scope:=match s with
 |.FunctionDef _ _ _ _ _ _ sc _ _ _=>sc
 |_=>{kind:=.function,names:=[],isGenerator:=false,isCoroutine:=false}
abbrev E0:XK:=λ_ _ _=>False
structure rg(K:Frag)(x qual:Str)(st:Stmt)(f:Addr)(fd:FuncData):Prop where
 ex:∃(oc:Value) (od:Option Addr) (kV doc pm:Value) (an:Option Addr) (bL ct:Value) (tH:Array (Option Value)),
  fd=fnOf x qual (fz st) (cq st) (ax st) .none kV doc pm an bL ct/\K.lookup f=some ⟨oc,od,.func fd,tH⟩/\PySem.W.codeIn K bL qual=true
 kp:keepIn K (.ref f)=true
section
variable{P:Program}{w:World}{K:Frag}{mg:Str->Option Value}{base:Heap}
theorem rg.lH{x qual:Str}{st:Stmt}{f:Addr}{fd:FuncData}{ps:List Str}(F:rg K x qual st f fd)
  (h:∀(kV doc pm:Value) (an:Option Addr) (bL ct:Value) (us:List Value),us.length=ps.length->bindArgs (fnOf x qual (fz st) (cq st) (ax st) .none kV doc pm an bL ct) ⟨us,[]⟩=pure (ps.zip us)):fG K fd ps []:=by
 obtain⟨oc,od,kV,doc,pm,an,bL,ct,tH,rfl,lk,lA⟩:=F.ex;exact .all (h kV doc pm an bL ct)
theorem jU{x qual:Str}{st:Stmt}{f:Addr}{oc:Value}{od an:Option Addr}{tH:Array (Option Value)}{kV doc pm bL ct:Value}(l:K.lookup f=some ⟨oc,od,.func (fnOf x qual (fz st) (cq st) (ax st) .none kV doc pm an bL ct),tH⟩)
  (c:PySem.W.codeIn K bL qual=true)(k:keepIn K (.ref f)=true):rg K x qual st f (fnOf x qual (fz st) (cq st) (ax st) .none kV doc pm an bL ct):=⟨⟨oc,od,kV,doc,pm,an,bL,ct,tH,rfl,l,c⟩,k⟩
end
section
variable{X:Cx}
theorem pv(i:Nat){x:Str}{pos:Pos}(hN:X.N[i]?=some x:=by rfl)(hv:uZ X.env.scope x:=by first |exact Or.inl rfl |exact Or.inr (Or.inl rfl) |exact Or.inr (Or.inr rfl))(hd:(x == ("__debug__":Str))=false:=by decide)
  (lA:(x == ("__classdict__":Str))=false:=by decide):PE X (.Name x pos) (BD i):=gC hN hv hd lA
end
def aM(H H':Hp):Prop:=∀b o,H b=some o->H' b=some o
theorem aM.trans{H H1 H2:Hp}(a:aM H H1)(b:aM H1 H2):aM H H2:=λc o h=>b c o (a c o h)
theorem aM.seq{K:Frag}{H H':Hp}{a:Addr}{xs:List V}(e:aM H H')(h:nZ K H a xs):nZ K H' a xs:=by
 rcases h with (h |⟨o,h⟩) |h
 ·exact .inl (.inl (e _ _ h))
 ·exact .inl (.inr ⟨o,e _ _ h⟩)
 ·exact .inr h
section
variable{κ:Type}[DecidableEq κ]
end
theorem aM.K5{H H1:Hp}{x dx C:Addr}(nx:H x=Option.none)(nd:H dx=Option.none)(k:∀b o,(dE (dE H dx (.own x)) x (.g9 C dx [])) b=some o->b≠x->H1 b=some o):aM H H1:=λb o e =>
 k b o (by rw[aB (bJ e nx),aB (bJ e nd)];exact e) (bJ e nx)
end L2
end
section
section
namespace L2
open PySem PySem.Spec PyProof.Rows
open PySem.W (WData Codec OpenSpec Well WellAll ReadsW ReadsAllW)
mutual
inductive Dw(K:Frag)(H:Hp):V->WData->Prop
 |dH:Dw K H .dH .none
 |bl (b:Bool):Dw K H (.bl b) (.bool b)
 |int (i:Int):Dw K H (.int i) (.int i)
 |str (x:Str):Dw K H (.str x) (.str x)
 |Bt (b:Array UInt8):Dw K H (.Bt b) (.bytes b.toList)
 |de {a:Addr} {xs:List V} {ds:List WData}:nZ K H a xs->km K H xs ds->Dw K H (.ref a) (.list ds)
 |iQ {a:Addr} {xs:List V} {ds:List WData}:rZ K H a xs->km K H xs ds->Dw K H (.ref a) (.tuple ds)
inductive km(K:Frag)(H:Hp):List V->List WData->Prop
 |nil:km K H [] []
 |cons {v:V} {vs:List V} {d:WData} {ds:List WData}:Dw K H v d->km K H vs ds->km K H (v::vs) (d::ds)
end
theorem D3{K:Frag}{H:Hp}:∀ns:List Int,km K H (ns.map V.int) (ns.map WData.int)
 |[]=>.nil
 |n::r=>.cons (.int n) (D3 r)
theorem D4{K:Frag}{H:Hp}:∀(ns:List Int) (xs:List V),km K H xs (ns.map WData.int)->xs=ns.map V.int
 |[],xs,h=>by
  cases h;rfl
 |n::r,xs,h=>by
  cases h with
  |cons h1 h2 =>
   cases h1;rw[D4 r _ h2] <;> rfl
section
variable{P:Program}{w:World}{K:Frag}{H:Hp}{h:Heap}{R:PySem.W.WRecords}{cl:Str->Option Addr}
theorem O5{a:Addr}{xs:List V}(hok:jz P w H h)(KX:K.In h)(q:nZ K H a xs):∃(cp:List Value) (o:Obj) (n:Nat),cC xs cp/\h.get? a=some o/\o.cls=.type "list"/\o.data=.seq cp.toArray n:=by
 rcases q with q |⟨o,cp,n,e,hc,_,hd,_,hv⟩
 ·obtain⟨_,cp,n,hv,e⟩:=(show cB P w H h a (.de xs) from q.ok hok)
  exact⟨cp,_,n,hv,e,rfl,rfl⟩
 ·exact⟨cp.toList,o,n,hv,KX _ _ e,hc,by simp [hd]⟩
theorem O6{a:Addr}{xs:List V}(hok:jz P w H h)(KX:K.In h)(q:rZ K H a xs):∃(cp:List Value) (o:Obj) (n:Nat),cC xs cp/\h.get? a=some o/\o.cls=.type "tuple"/\o.data=.seq cp.toArray n:=by
 rcases q with q |⟨o,cp,n,e,hc,hd,_,hv⟩
 ·obtain⟨_,cp,hv,o,e,hc,n,hd⟩:=(show cB P w H h a (.iQ xs) from q.ok hok)
  exact⟨cp,o,n,hv,e,hc,hd⟩
 ·exact⟨cp.toList,o,n,hv,KX _ _ e,hc,by simp [hd]⟩
mutual
theorem Dw.wa(hok:jz P w H h)(KX:K.In h):∀(d:WData) (v:V) (u:Value),Dw K H v d->cz v u->∃as,ReadsW R cl h u d as
 |.none,_,_,x,r=>by
  cases x;cases r;exact⟨_,ReadsW.none⟩
 |.bool b,_,_,x,r=>by
  cases x;cases r;exact⟨_,ReadsW.bool b⟩
 |.int i,_,_,x,r=>by
  cases x;obtain⟨t,rfl⟩:=r;exact⟨_,ReadsW.int i t⟩
 |.str s,_,_,x,r=>by
  cases x;obtain⟨t,rfl⟩:=r;exact⟨_,ReadsW.str s t⟩
 |.bytes b,_,_,x,r=>by
  cases x;obtain⟨t,rfl⟩:=r;exact⟨_,ReadsW.bytes _ t⟩
 |.list ds,_,_,x,r=>by
  cases x with
  |de hs ha =>
   cases r;obtain⟨cp,o,n,rv,ho,hc,hd⟩:=O5 hok KX hs;obtain⟨as,hr⟩:=Dw.jh hok KX ds _ cp ha rv;exact⟨_,ReadsW.list ho hc hd hr⟩
 |.tuple ds,_,_,x,r=>by
  cases x with
  |iQ hs ha =>
   cases r;obtain⟨cp,o,n,rv,ho,hc,hd⟩:=O6 hok KX hs;obtain⟨as,hr⟩:=Dw.jh hok KX ds _ cp ha rv;exact⟨_,ReadsW.tuple ho hc hd hr⟩
 |.float _,_,_,x,_=>by cases x
 |.dict _,_,_,x,_=>by cases x
 |.bytearray _,_,_,x,_=>by cases x
 |.set _,_,_,x,_=>by cases x
 |.frozenset _,_,_,x,_=>by cases x
 |.obj _ _,_,_,x,_=>by cases x
theorem Dw.jh(hok:jz P w H h)(KX:K.In h):∀(ds:List WData) (vs:List V) (us:List Value),km K H vs ds->cC vs us->∃as,ReadsAllW R cl h us ds as
 |[],_,_,x,r=>by
  cases x;cases r;exact⟨_,ReadsAllW.nil⟩
 |d::ds,_,_,x,r=>by
  cases x with
  |cons h1 h2 =>
   cases r with
   |cons r1 r2 =>
    obtain⟨as,q1⟩:=Dw.wa hok KX d _ _ h1 r1;obtain⟨bs,q2⟩:=Dw.jh hok KX ds _ _ h2 r2;exact⟨_,ReadsAllW.cons q1 q2⟩
end
end
mutual
def D5:WData->Bool
 |.none=>true
 |.bool _=>true
 |.int _=>true
 |.str _=>true
 |.bytes _=>true
 |.list xs=>rP xs
 |.tuple xs=>rP xs
 |_=>false
def rP:List WData->Bool
 |[]=>true
 |x::r=>D5 x && rP r
end
theorem zM{α:Type}{f:α->WData}(h:∀a,D5 (f a)=true):∀l:List α,rP (l.map f)=true
 |[]=>rfl
 |x::r=>by
  show (D5 (f x) && rP (r.map f))=true;rw[h x,zM h r] <;> rfl
theorem lO:∀(c:Codec) (a:c.denote),D5 (c.enc a)=true
 |.unit,_=>rfl
 |.bool,_=>rfl
 |.int _ _,_=>rfl
 |.nat _ _,_=>rfl
 |.u8,_=>rfl
 |.bytes _ _,_=>rfl
 |.text _ _ _ _,_=>rfl
 |.list _ _ c,a=>zM (λx=>lO c x) a
 |.pair c d,a=>by
  show (D5 (c.enc a.1) && (D5 (d.enc a.2) && true))=true;rw[lO c a.1,lO d a.2] <;> rfl
 |.triple c d e,a=>by
  show (D5 (c.enc a.1) && (D5 (d.enc a.2.1) && (D5 (e.enc a.2.2) && true)))=true;rw[lO c a.1,lO d a.2.1,lO e a.2.2] <;> rfl
 |.option c,none=>rfl
 |.option c,some x=>lO c x
theorem wf:∀(cs:List Codec) (a:Codec.denoteAll cs),rP (Codec.encAll cs a)=true
 |[],_=>rfl
 |c::cs,a=>by
  show (D5 (c.enc a.1) && rP (Codec.encAll cs a.2))=true;rw[lO c a.1,wf cs a.2] <;> rfl
theorem nv:∀{xs:List WData} {d:WData},d∈xs->d.weight<=WData.weightAll xs
 |[],d,h=>absurd h (by simp)
 |x::r,d,h=>by
  show d.weight<=x.weight+1+WData.weightAll r;rcases List.mem_cons.mp h with e |m
  ·rw[e];omega
  ·have z:=nv m;omega
def toV:Value->V
 |.none=>.dH
 |.bool b=>.bl b
 |.int i _=>.int i
 |.str x _=>.str x
 |.bytes b _=>.Bt b
 |.ref a=>.ref a
 |_=>.dH
def FA(A:List Addr):Value->Prop
 |.none=>True
 |.bool _=>True
 |.int _ _=>True
 |.str _ _=>True
 |.bytes _ _=>True
 |.ref a=>a∈A
 |_=>False
theorem FA.aw{A B:List Addr}(h:∀a∈A,a∈B):∀{u:Value},FA A u->FA B u:=λ{u} x=>by
 cases u with
 |ref a=>exact h a x
 |none=>trivial
 |bool b=>trivial
 |int i t=>trivial
 |str s t=>trivial
 |bytes b t=>trivial
 |_=>exact False.elim x
theorem Ii{A:List Addr}{u:Value}(x:FA A u):cz (toV u) u:=by
 cases u with
 |ref a=>rfl
 |none=>rfl
 |bool b=>rfl
 |int i t=>exact⟨t,rfl⟩
 |str s t=>exact⟨t,rfl⟩
 |bytes b t=>exact⟨t,rfl⟩
 |_=>exact False.elim x
theorem kn{A:List Addr}:∀{vs:List Value},(∀u∈vs,FA A u)->cC (vs.map toV) vs
 |[],_=>.nil
 |u::r,h=>.cons (Ii (h u (List.mem_cons_self ..))) (kn λx hx=>h x (List.mem_cons_of_mem _ hx))
def ll(h:Heap)(A:List Addr)(a:Addr):Prop:=∃vs:List Value,vs.length<=sizeLine/\(∀u∈vs,FA A u) /\
 (h.get? a=some {cls:=.type "list",data:=.seq vs.toArray}\/h.get? a=some {cls:=.type "tuple",data:=.seq vs.toArray})
theorem ll.aw{h:Heap}{A B:List Addr}{a:Addr}(k:∀a∈A,a∈B)(x:ll h A a):ll h B a:=by
 obtain⟨vs,h1,h2,h3⟩:=x;exact⟨vs,h1,λu hu=>(h2 u hu).aw k,h3⟩
theorem jF{P:Params}{h:Heap}:∀{vs:List Value} {ds:List WData},WellAll P h vs ds->vs.length=ds.length
 |_,_,.nil=>rfl
 |_,_,.cons _ b=>by
  show _+1=_+1;rw[jF b]
theorem wg{P:Params}{h:Heap}{v:Value}{ds:List WData}(x:Well P h v (.list ds)):∃(a:Addr) (vs:List Value),v=.ref a/\h.get? a=some {cls:=.type "list",data:=.seq vs.toArray}/\WellAll P h vs ds:=by
 cases x with
 |list ho qw=>exact⟨_,_,rfl,ho,qw⟩
theorem tN{P:Params}{h:Heap}{v:Value}{ds:List WData}(x:Well P h v (.tuple ds)):∃(a:Addr) (vs:List Value),v=.ref a/\h.get? a=some {cls:=.type "tuple",data:=.seq vs.toArray}/\WellAll P h vs ds:=by
 cases x with
 |tuple ho qw=>exact⟨_,_,rfl,ho,qw⟩
theorem wj{P:Params}{h:Heap}{us:List Value}{d:WData}{ds:List WData}(x:WellAll P h us (d::ds)):∃(v:Value) (vs:List Value),us=v::vs/\Well P h v d/\WellAll P h vs ds:=by
 cases x with
 |cons a b=>exact⟨_,_,rfl,a,b⟩
theorem D6{n:Nat}(h:n<=1048576):n<=sizeLine:=Nat.le_trans h d_
section
variable{P:Params}{h:Heap}
mutual
theorem Ij:∀(d:WData) (v:Value),Well P h v d->D5 d=true->d.weight<=1048576->∃A:List Addr,FA A v/\∀a∈A,ll h A a
 |.none,_,x,_,_=>by
  cases x;exact⟨[],trivial,λa m=>absurd m (by simp)⟩
 |.bool b,_,x,_,_=>by
  cases x;exact⟨[],trivial,λa m=>absurd m (by simp)⟩
 |.int i,_,x,_,_=>by
  cases x;exact⟨[],trivial,λa m=>absurd m (by simp)⟩
 |.str s,_,x,_,_=>by
  cases x;exact⟨[],trivial,λa m=>absurd m (by simp)⟩
 |.bytes b,_,x,_,_=>by
  cases x;exact⟨[],trivial,λa m=>absurd m (by simp)⟩
 |.list ds,_,x,p,z=>by
  obtain⟨a,vs,rfl,ho,qw⟩:=wg x;have z2:WData.weightAll ds<=1048576:=z;obtain⟨A,h1,h2⟩:=oK ds _ qw p λd hd=>Nat.le_trans (nv hd) z2;have k:∀b∈A,b∈a::A:=λb hb=>List.mem_cons_of_mem _ hb;refine⟨a::A,List.mem_cons_self ..,λb hb=>?_⟩;rcases List.mem_cons.mp hb with e |m
  ·rw[e];exact⟨vs,D6 (by rw[jF qw];exact Nat.le_trans (PySem.W.length_le_weightAllW ds) z2),λu hu=>(h1 u hu).aw k,.inl ho⟩
  ·exact(h2 b m).aw k
 |.tuple ds,_,x,p,z=>by
  obtain⟨a,vs,rfl,ho,qw⟩:=tN x;have z2:WData.weightAll ds<=1048576:=z;obtain⟨A,h1,h2⟩:=oK ds _ qw p λd hd=>Nat.le_trans (nv hd) z2;have k:∀b∈A,b∈a::A:=λb hb=>List.mem_cons_of_mem _ hb;refine⟨a::A,List.mem_cons_self ..,λb hb=>?_⟩;rcases List.mem_cons.mp hb with e |m
  ·rw[e];exact⟨vs,D6 (by rw[jF qw];exact Nat.le_trans (PySem.W.length_le_weightAllW ds) z2),λu hu=>(h1 u hu).aw k,.inr ho⟩
  ·exact(h2 b m).aw k
 |.float _,_,_,p,_=>Bool.noConfusion (show false=true from p)
 |.dict _,_,_,p,_=>Bool.noConfusion (show false=true from p)
 |.bytearray _,_,_,p,_=>Bool.noConfusion (show false=true from p)
 |.set _,_,_,p,_=>Bool.noConfusion (show false=true from p)
 |.frozenset _,_,_,p,_=>Bool.noConfusion (show false=true from p)
 |.obj _ _,_,_,p,_=>Bool.noConfusion (show false=true from p)
theorem oK:∀(ds:List WData) (vs:List Value),WellAll P h vs ds->rP ds=true->(∀d∈ds,d.weight<=1048576)->∃A:List Addr,(∀u∈vs,FA A u)/\∀a∈A,ll h A a
 |[],_,x,_,_=>by
  cases x;exact⟨[],λu m=>absurd m (by simp),λa m=>absurd m (by simp)⟩
 |d::ds,_,x,p,z=>by
  obtain⟨v,vs,rfl,x1,x2⟩:=wj x;have q:D5 d=true/\rP ds=true:=Bool.and_eq_true_iff.mp p;obtain⟨A,a1,a2⟩:=Ij d v x1 q.1 (z d (List.mem_cons_self ..));obtain⟨B,b1,b2⟩:=oK ds vs x2 q.2 λe he=>z e (List.mem_cons_of_mem _ he);have kA:∀b∈A,b∈A++B:=λb hb=>List.mem_append.mpr (.inl hb);have kB:∀b∈B,b∈A++B:=λb hb=>List.mem_append.mpr (.inr hb);refine⟨A++B,λu hu=>?_,λb hb=>?_⟩
  ·rcases List.mem_cons.mp hu with e |m
   ·rw[e];exact a1.aw kA
   ·exact(b1 u m).aw kB
  ·rcases List.mem_append.mp hb with m |m
   ·exact(a2 b m).aw kA
   ·exact(b2 b m).aw kB
end
end
def Lq(o:Obj):Option HO:=match o.data with
 |.seq vs _=>if (o.cls == Value.type "list")=true then some (.sX o (.de (vs.toList.map toV))) else some (.sX o (.iQ (vs.toList.map toV)))
 |_=>none
def ji(K:Frag)(h:Heap)(A:List Addr):Hp:=λb=>if b∈A then (if (K.lookup b).isNone=true then (h.get? b).bind Lq else none) else none
def zN(H:Hp):Prop:=∀b,H b=none\/∃o u,H b=some (.sX o u)
theorem zO(vs:List Value):Lq {cls:=.type "list",data:=.seq vs.toArray}=some (.sX {cls:=.type "list",data:=.seq vs.toArray} (.de (vs.map toV))):=by
 show (if (Value.type "list" == Value.type "list")=true then some (HO.sX {cls:=.type "list",data:=.seq vs.toArray} (.de (vs.toArray.toList.map toV))) else some (HO.sX {cls:=.type "list",data:=.seq vs.toArray} (.iQ (vs.toArray.toList.map toV))))=_;rw[if_pos (beq_self_eq_true _)]
theorem zP(vs:List Value):Lq {cls:=.type "tuple",data:=.seq vs.toArray}=some (.sX {cls:=.type "tuple",data:=.seq vs.toArray} (.iQ (vs.map toV))):=by
 show (if (Value.type "tuple" == Value.type "list")=true then some (HO.sX {cls:=.type "tuple",data:=.seq vs.toArray} (.de (vs.toArray.toList.map toV))) else some (HO.sX {cls:=.type "tuple",data:=.seq vs.toArray} (.iQ (vs.toArray.toList.map toV))))=_;rw[if_neg d_]
section
variable{P:Program}{w:World}{K:Frag}{h:Heap}{A:List Addr}
theorem so{b:Addr}{o:Obj}(hb:b∈A)(hk:K.lookup b=none)(e:h.get? b=some o):ji K h A b=Lq o:=by
 unfold ji;rw[if_pos hb,hk,if_pos (show (none:Option Obj).isNone=true from rfl),e] <;> rfl
theorem Lr{b:Addr}{u:HO}(q:ji K h A b=some u):b∈A/\K.lookup b=none:=by
 unfold ji at q
 by_cases hb:b∈A
 ·rw[if_pos hb] at q;cases hk:K.lookup b with
  |none=>exact⟨hb,rfl⟩
  |some o =>
   rw[hk,if_neg (by simp)] at q;cases q
 ·rw[if_neg hb] at q;cases q
theorem oM(ar:∀a∈A,ll h A a){b:Addr}{u:HO}(q:ji K h A b=some u):K.lookup b=none/\∃vs:List Value,vs.length<=sizeLine/\(∀u∈vs,FA A u) /\
    ((h.get? b=some {cls:=.type "list",data:=.seq vs.toArray}/\u=.sX {cls:=.type "list",data:=.seq vs.toArray} (.de (vs.map toV))) \/
     (h.get? b=some {cls:=.type "tuple",data:=.seq vs.toArray}/\u=.sX {cls:=.type "tuple",data:=.seq vs.toArray} (.iQ (vs.map toV)))):=by
  obtain⟨hb,hk⟩:=Lr q;obtain⟨vs,h1,h2,h3⟩:=ar b hb;refine⟨hk,vs,h1,h2,?_⟩;rcases h3 with e | e
  · rw[so hb hk e,zO] at q
    exact .inl ⟨e,(Option.some.inj q).symm⟩
  · rw[so hb hk e,zP] at q
    exact .inr ⟨e,(Option.some.inj q).symm⟩
theorem FC(ar:∀a∈A,ll h A a):zN (ji K h A):=λb=>by
 cases q:ji K h A b with
 |none=>exact .inl rfl
 |some u =>
  obtain⟨_,vs,_,_,⟨_,e⟩ |⟨_,e⟩⟩:=oM ar q
  ·exact .inr ⟨_,_,by rw[e]⟩
  ·exact .inr ⟨_,_,by rw[e]⟩
theorem Ls(ar:∀a∈A,ll h A a):jz P w (ji K h A) h:=λb u q=>by
 obtain⟨_,vs,h1,h2,⟨e,rfl⟩ |⟨e,rfl⟩⟩:=oM ar q
 ·exact⟨e,by rw[List.length_map];exact h1,vs,_,kn h2,e⟩
 ·exact⟨e,by rw[List.length_map];exact h1,vs,kn h2,_,e,rfl,_,rfl⟩
theorem sr{c c':Value}{vs us:List Value}(e:(some {cls:=c,data:=.seq vs.toArray}:Option Obj)=some {cls:=c',data:=.seq us.toArray}):c=c'/\vs=us:=by
 have e1:=Option.some.inj e;have e2:c=c':=congrArg Obj.cls e1;have e3:Data.seq vs.toArray=Data.seq us.toArray:=congrArg Obj.data e1;injection e3 with e4
 refine⟨e2,?_⟩;have e5:=congrArg Array.toList e4;simpa using e5
theorem VU(KX:K.In h)(ar:∀a∈A,ll h A a){a:Addr}{vs:List Value}(ha:a∈A)(e:h.get? a=some {cls:=.type "list",data:=.seq vs.toArray}):(∀u∈vs,FA A u)/\nZ K (ji K h A) a (vs.map toV):=by
 obtain⟨us,h1,h2,h3⟩:=ar a ha;have hu:us=vs:=by
  rcases h3 with q |q
  ·rw[e] at q;exact(sr q).2.symm
  ·rw[e] at q;exact absurd (Value.type.inj (sr q).1) d_
 subst hu;refine⟨h2,?_⟩;cases hk:K.lookup a with
 |none=>exact .inl (.inr ⟨_,by rw[so ha hk e,zO]⟩)
 |some o =>
  have e2:=KX a o hk;rw[e] at e2;obtain rfl:=Option.some.inj e2;exact .inr ⟨_,us.toArray,_,hk,rfl,rfl,rfl,by rw[List.size_toArray];exact h1,by simpa using kn h2⟩
theorem VV(KX:K.In h)(ar:∀a∈A,ll h A a){a:Addr}{vs:List Value}(ha:a∈A)(e:h.get? a=some {cls:=.type "tuple",data:=.seq vs.toArray}):(∀u∈vs,FA A u)/\rZ K (ji K h A) a (vs.map toV):=by
 obtain⟨us,h1,h2,h3⟩:=ar a ha;have hu:us=vs:=by
  rcases h3 with q |q
  ·rw[e] at q;exact absurd (Value.type.inj (sr q).1) d_
  ·rw[e] at q;exact(sr q).2.symm
 subst hu;refine⟨h2,?_⟩;cases hk:K.lookup a with
 |none=>exact .inl (.inr ⟨_,by rw[so ha hk e,zP]⟩)
 |some o =>
  have e2:=KX a o hk;rw[e] at e2;obtain rfl:=Option.some.inj e2;exact .inr ⟨_,us.toArray,_,hk,rfl,rfl,by rw[List.size_toArray];exact h1,by simpa using kn h2⟩
mutual
theorem O7{Pm:Params}(KX:K.In h)(ar:∀a∈A,ll h A a):∀(d:WData) (v:Value),Well Pm h v d->D5 d=true->FA A v->Dw K (ji K h A) (toV v) d
 |.none,_,x,_,_=>by
  cases x;exact .dH
 |.bool b,_,x,_,_=>by
  cases x;exact .bl b
 |.int i,_,x,_,_=>by
  cases x;exact .int i
 |.str s,_,x,_,_=>by
  cases x;exact .str s
 |.bytes b,_,x,_,_=>by
  cases x;have z:=Dw.Bt (K:=K) (H:=ji K h A) b.toArray;exact z
 |.list ds,_,x,p,hu=>by
  obtain⟨a,vs,rfl,ho,qw⟩:=wg x;obtain⟨h2,hs⟩:=VU KX ar hu ho;exact .de hs (xL KX ar ds _ qw p h2)
 |.tuple ds,_,x,p,hu=>by
  obtain⟨a,vs,rfl,ho,qw⟩:=tN x;obtain⟨h2,hs⟩:=VV KX ar hu ho;exact .iQ hs (xL KX ar ds _ qw p h2)
 |.float _,_,_,p,_=>Bool.noConfusion (show false=true from p)
 |.dict _,_,_,p,_=>Bool.noConfusion (show false=true from p)
 |.bytearray _,_,_,p,_=>Bool.noConfusion (show false=true from p)
 |.set _,_,_,p,_=>Bool.noConfusion (show false=true from p)
 |.frozenset _,_,_,p,_=>Bool.noConfusion (show false=true from p)
 |.obj _ _,_,_,p,_=>Bool.noConfusion (show false=true from p)
theorem xL{Pm:Params}(KX:K.In h)(ar:∀a∈A,ll h A a):∀(ds:List WData) (vs:List Value),WellAll Pm h vs ds->rP ds=true->(∀u∈vs,FA A u)->km K (ji K h A) (vs.map toV) ds
 |[],_,x,_,_=>by
  cases x;exact .nil
 |d::ds,_,x,p,hu=>by
  obtain⟨v,vs,rfl,x1,x2⟩:=wj x;have q:D5 d=true/\rP ds=true:=Bool.and_eq_true_iff.mp p;exact .cons (O7 KX ar d v x1 q.1 (hu _ (List.mem_cons_self ..))) (xL KX ar ds vs x2 q.2 λu m=>hu u (List.mem_cons_of_mem _ m))
end
end
theorem tO{ds:List WData}(h:WData.layableAll ds=true):∀d∈ds,d.weight<=1048576:=λd hd =>
 (PySem.W.layableW_iff.mp (List.all_eq_true.mp h d hd)).2.2
theorem tP:∀(cs:List Codec) (a:Codec.denoteAll cs),(Codec.encAll cs a).length=cs.length
 |[],_=>rfl
 |c::cs,a=>by
  show (Codec.encAll cs a.2).length+1=cs.length+1;rw[tP cs a.2]
end L2
end
end
section
namespace L2
open PySem PySem.Spec PyProof.Rows
def lv(ea C:Addr)(dx:Option Addr):HO:=.ext λh=>∃oe vs,h.get? ea=some oe/\oe.cls=.ref C/\oe.dict=dx/\oe.data=.fields vs/\5<vs.size
theorem lv.ok{P:Program}{w:World}{H:Hp}{h:Heap}{ea C:Addr}{dx:Option Addr}(q:∃oe vs,h.get? ea=some oe/\oe.cls=.ref C/\oe.dict=dx/\oe.data=.fields vs/\5<vs.size):cB P w H h ea (lv ea C dx):=by
 refine⟨q,?_,?_⟩
 ·obtain⟨oe,_,e,_⟩:=q;exact⟨oe,e⟩
 ·rintro h1 h2 ⟨oe,vs,e,r⟩ k;exact⟨oe,vs,k _ e,r⟩
def dR(g:Heap)(b:Addr):Prop:=∃o,g.get? b=some o
theorem dR.lt{g:Heap}{b:Addr}(h:dR g b):b<g.objs.size:=let ⟨_,e⟩:=h;Heap.lt_size e
def Pn(n0:Nat)(H:Hp)(ea:Addr):Addr->Prop:=λb=>b≠ea/\(b<n0\/∃u,H b=some u)
structure Bw(g0:Heap)(n0:Nat)(H:Hp)(h:Heap)(ea C:Addr)(dx:Option Addr):Prop where
 new:¬dR g0 ea
 at_:H ea=some (lv ea C dx)
 on:Fx.zj (Pn n0 H ea) h ea (.ref C) dx
theorem Bw.down{g0 g1:Heap}{n0:Nat}{H:Hp}{h:Heap}{ea C:Addr}{dx:Option Addr}(F:Bw g1 n0 H h ea C dx)(hn:∀b,dR g0 b->dR g1 b):Bw g0 n0 H h ea C dx:=⟨λz=>F.new (hn _ z),F.at_,F.on⟩
theorem Pn.lt{P:Program}{w:World}{n0:Nat}{H:Hp}{h:Heap}{ea:Addr}(ok:jz P w H h)(hn:n0<=h.objs.size):∀b,Pn n0 H ea b->b<h.objs.size:=λb p=>by
 rcases p.2 with z |⟨u,z⟩
 ·exact Nat.lt_of_lt_of_le z hn
 ·exact ok.lt z
theorem Un.D7{fs Ho:List Addr}{H0 H:Hp}{h0 h h' g0:Heap}{n0:Nat}{ea:Addr}(u:Un fs [] H0 H h0 h)(N:Fx.Nt Ho (Pn n0 H ea) h h')(hn:∀b,dR h0 b->dR g0 b)(hz:∀b,dR g0 b->b<n0)(he:¬dR g0 ea)(hf:∀b∈Ho,b∈fs\/¬dR h0 b):Un fs [] H0 H h0 h':=by
 have pn:∀b o,h0.get? b=some o->Pn n0 H ea b:=λb o e=>⟨λz=>he (by rw[<-z];exact hn b ⟨o,e⟩),.inl (hz b (hn b ⟨o,e⟩))⟩
 refine⟨λb o e n hb hx=>?_,λb o e n hb hx=>?_,u.free,λb o e hx=>?_,u.oj,u.ni,u.om⟩
 ·refine N.keep b o (u.keep b o e n hb hx) (λm=>?_) (pn b o e);rcases hf b m with z |z
  ·exact hb z
  ·exact z ⟨o,e⟩
 ·obtain⟨sl,q⟩:=u.slot b o e n hb hx
  by_cases m:b∈Ho
  ·obtain⟨X7,q2⟩:=N.slot b _ q m;exact⟨X7,q2⟩
  ·exact⟨sl,N.keep b _ q m (pn b o e)⟩
 ·obtain⟨o1,q⟩:=u.there b o e hx;exact N.there b o1 q
theorem jz.D7{P:Program}{w:World}{Ho:List Addr}{H:Hp}{h h' g0:Heap}{n0:Nat}{ea C:Addr}{dx:Option Addr}(ok:jz P w H h)(N:Fx.Nt Ho (Pn n0 H ea) h h')(hf:∀b∈Ho,H b=none)(F:Bw g0 n0 H h' ea C dx):jz P w H h':=λb u e=>by
 by_cases q:b=ea
 ·subst q;rw[F.at_] at e;cases e;obtain⟨oe,vs,he,hc,hx,hd,hz,_⟩:=F.on;exact lv.ok ⟨oe,vs,he,hc,hx,hd,hz⟩
 ·have kp:∀c v,H c=some v->c≠ea->∀o,h.get? c=some o->h'.get? c=some o:=λc v hc ne o z=>N.keep c o z (λm=>by rw[hf c m] at hc;cases hc) ⟨ne,.inr ⟨v,hc⟩⟩;refine(ok b u e).rN (λc v hc z=>?_) (λ_ z=>z) λ_ _ z=>z;rcases hc with rfl |hc
  ·exact kp c u e q v z
  ·exact kp c _ hc (sZ hc F.at_ (by intro y;cases y)) v z
def rh(P:Program)(w:World):K6:=λai H s E e s'=>∃(ea C:Addr) (dx:Option Addr) (H':Hp) (n0:Nat),e=.ref ea/\s'.os=s.os/\AllBare s'.gens/\Un (tu ai) [] H H' s.heap s'.heap/\jz P w H' s'.heap /\
 (∀b,dR s.heap b->b<n0)/\n0<=s'.heap.objs.size/\Bw s.heap n0 H' s'.heap ea C dx/\E (.ref C) dx H'
structure ko(X:Cx)(g0:Heap)(n0:Nat)(h:Heap):Prop where
 O8:∀b,dR g0 b->dR h b
 lt:∀b,dR g0 b->b<n0
 sz:n0<=h.objs.size
 FD:∀b,dR X.tq.heap b->b∉X.ex->dR g0 b
 loc:dR g0 X.env.locals
 pn:∀p∈X.pn,dR g0 p.1
 ex:∀b∈X.ex,dR g0 b
 NL:∀x c,X.env.cells.lookup x=some c->dR g0 c
def iF(X:Cx)(E:XK):Prop:=∀(pins:List (Addr×Obj)) (σ:St) (H:Hp) (s:Shared) (ea C:Addr) (dx:Option Addr) (g0:Heap) (n0:Nat),Inv X pins σ H s->ko X g0 n0 s.heap->Bw g0 n0 H s.heap ea C dx->E (.ref C) dx H->X.xe (.ref ea) s
theorem iF.never{X:Cx}:iF X E0:=λ_ _ _ _ _ _ _ _ _ _ _ _ q=>q.elim
theorem Inv.zQ{X:Cx}{pins:List (Addr×Obj)}{σ:St}{H:Hp}{s:Shared}{h:Heap}{n0:Nat}(I:Inv X pins σ H s)(hex:∀b∈X.ex,dR s.heap b)(hh:∀b,dR s.heap b->dR h b)(hl:∀b,dR s.heap b->b<n0)(hz:n0<=h.objs.size):ko X s.heap n0 h:=by
 refine⟨hh,hl,hz,λb ⟨o,e⟩ hx=>I.base.there b o e hx,?_,λp hp=>⟨_,(I.fw p (List.mem_append_left _ hp)).1⟩,hex,λx c e=>?_⟩
 ·obtain⟨m,⟨o,_,_,ho,_⟩,_⟩:=I.loc;exact⟨o,ho⟩
 ·obtain⟨v,o,q,_⟩:=I.cell x c e;exact⟨o,q⟩
theorem mL{X:Cx}{h:Heap}(hex:X.ex=[]):∀b∈X.ex,dR h b:=λb hb=>by rw[hex] at hb;cases hb
theorem iF.passes{X:Cx}{E:XK}(T:iF X E)(hex:X.ex=[]):kP (rh X.prog X.w) X E:=by
 intro pins σ H s e s' I h;obtain⟨ea,C,dx,H',n0,rfl,os,fF,un,hok,hl,hz,F,q⟩:=h;have I2:Inv X pins σ H' s':=I.zp (ch:=[]) os un hok fF (λb z=>absurd z (by simp));exact T pins σ H' s' ea C dx s.heap n0 I2 (I.zQ (mL hex) (λb ⟨o,z⟩=>un.there b o z (by simp)) hl hz) F q
theorem Ik{P:Program}{w:World}{K:Frag}{mg:Str->Option Value}{base:Heap}{N:List Str}{qual:Str}{scope:Scope}{f:Addr}{cd:Value}{A:Around}{ai:List Env}{s:Shared}{H:Hp}{E:XK} :
  iF (BR (rh P w) P w K mg base N qual scope f cd A ai s H E) E:=by
 intro pins σ H1 s1 ea C dx g0 n0 I S F q;have rV:=I.ok.frames;have j9:=I.stack;show wpAny _ _ (leaving _ (.ref ea)) _ _ _;have ZB:Un (tu ai) [] H H1 s.heap s1.heap:=I.base;have FD:∀b,dR s.heap b->dR g0 b:=λb z=>S.FD b z (by intro y;cases y);refine Fx.Hn (base:=base) rV j9 rfl (Pn.lt I.hok S.sz) F.on λh' N' F'=>?_;have F2:Bw g0 n0 H1 h' ea C dx:=⟨F.new,F.at_,F'⟩
 refine⟨ea,C,dx,H1,n0,rfl,I.os,I.fF,ZB.D7 N' FD S.lt F.new λb m=>?_,I.hok.D7 N' (λb m=>I.oq b m) F2,λb z=>S.lt b (FD b z),Nat.le_trans S.sz N'.sz,F2.down FD,q⟩;have m':b∈(envOfC qual scope s.heap.objs.size f cd::ai).filterMap (·.frame):=m;rw[List.filterMap_cons] at m';rcases List.mem_cons.mp m' with z |z
 ·exact .inr λy=>absurd (dR.lt y) (by rw[z];exact Nat.lt_irrefl _)
 ·exact .inl z
theorem Inv.Lu{X:Cx}{pins:List (Addr×Obj)}{σ:St}{H:Hp}{s:Shared}{h' g0:Heap}{n0:Nat}{ea C:Addr}{dx:Option Addr}(I:Inv X pins σ H s)(S:ko X g0 n0 s.heap)(hp:∀p∈pins,dR g0 p.1)(vq:¬dR g0 ea)
  (N:Fx.Nt (tu X.stack) (Pn n0 H ea) s.heap h')(F:Bw g0 n0 H h' ea C dx):Inv X pins σ H {s with heap:=h'}:=by
 have fS:X.tq.heap.objs.size<=n0:=Nat.le_trans I.ok.above (Nat.le_of_lt (S.lt _ S.loc));have su:∀p∈X.pn++pins,p.1<n0:=λp hq=>(List.mem_append.mp hq).elim (λz=>S.lt _ (S.pn p z)) λz=>S.lt _ (hp p z);have me:∀b,b∈(List.range s.heap.objs.size).filter (λb=>decide (n0<=b))↔b<s.heap.objs.size/\n0<=b:=λb=>by
  rw[List.mem_filter,List.mem_range,decide_eq_true_iff]
 have lo:∀b o,b∉(List.range s.heap.objs.size).filter (λb=>decide (n0<=b))->s.heap.get? b=some o->b<n0:=λb o hb e=>by
  rcases Nat.lt_or_ge b n0 with z |z
  ·exact z
  ·exact absurd ((me b).mpr ⟨Heap.lt_size e,z⟩) hb
 have pe:∀b,H b=none->b<n0->Pn n0 H ea b:=λb hb z=>⟨λy=>(by rw[y,F.at_] at hb;cases hb),.inl z⟩
 refine I.step (g':=s.gens) (t':=s.toks) (d':=s.drawn) (ch:=(List.range s.heap.objs.size).filter (λb=>decide (n0<=b))) (λb hb=>?_) (λb o h1 h2 h3 e n=>?_) (λb o h1 h2 h3 e n=>?_) (λb o _ _ n=>n) (λb o _ e=>N.there b o e)
  (λ_ _ z=>z) (λ_ _ _ z=>z) (λb ps z=>⟨#[],by rw[z];simp⟩) (λm hm=>?_) (I.hok.D7 N (λb m=>I.oq b m) F) I.fF
 ·have z:=((me b).mp hb).2;exact⟨.inr (Nat.le_trans fS z),λy=>absurd (S.lt _ S.loc) (Nat.not_lt.mpr (by rw[<-y];exact z)),λx c e y=>absurd (S.lt _ (S.NL x c e)) (Nat.not_lt.mpr (by rw[y];exact z)),λp hq y=>absurd (su p hq) (Nat.not_lt.mpr (by rw[y];exact z))⟩
 ·exact N.keep b o e (λm=>(List.mem_cons.mp (I.xz b m)).elim h1 h2) (pe b n (lo b o h3 e))
 ·by_cases m:b∈tu X.stack
  ·exact N.slot b o e m
  ·exact⟨o.slots,N.keep b o e m (pe b n (lo b o h3 e))⟩
 ·obtain⟨o,es,ep,ho,r⟩:=hm
  by_cases m':X.env.locals∈tu X.stack
  ·obtain⟨sl,q⟩:=N.slot _ o ho m';exact⟨_,es,ep,q,r⟩
  ·exact⟨o,es,ep,N.keep _ o ho m' (pe _ I.free (S.lt _ S.loc)),r⟩
end L2
end
section
namespace Fx
open PySem PySem.W PySem.Calls PyProof.Rows Builtin Builtin.ObjectAttr
abbrev UD:List Value:=[.type "Exception",.type "BaseException",.type "object"]
abbrev Il(nm q:Str)(C N:Addr)(bs:List Value)(sn:List Str)(sub:List Value)(ab:Bool)(col:Option Bool)(dd:Option Addr)(k0 k1 k2 k3 k5:Option Value):Obj :=
 excClassObj nm q C N bs UD true sn sub ab col dd k0 k1 k2 k3 k5 "Exception.__new__"
section
variable{M:Model}{prog:Program}{w:World}{A:Around}{E:Value->Shared->Prop}{h:Heap}{g:Array GenState}{d:Drawn}{t:Nat}{os:OsState}{env:Env}
variable{nm q:Str}{C N x:Addr}{bs:List Value}{sn:List Str}{sub:List Value}{ab:Bool}{col:Option Bool}{dd:Option Addr}{k0 k1 k2 k3 k5:Option Value}{mN mA:Str->Option Value}{name:Str}{v:Value}{o:Obj}{vs:Array Value}
theorem tQ{s:Shared}{y:Sem Value}{Q:Flow->Shared->Prop}(hh:A.handled=none)
  (hy:wpAny M A y (λu s1=>∃e oe vs,u=.ref e/\s1.heap.get? C=some (Il nm q C N bs sn sub ab col dd k0 k1 k2 k3 k5)/\s1.heap.get? e=some oe/\oe.cls=.ref C/\oe.data=.fields vs/\vs[1]?=some .none/\E (.ref e) s1) E s) :
  wpAny M A (raiseStmt env (some y) none) Q E s:=by
 have VW:(Value.ref C::UD).contains (.type "BaseException")=true:=by rw[List.contains_cons];simp
 unfold raiseStmt;refine wpAny_bind (wpAny_mono hy (λu s1 h1=>?_) λ_ _ z=>z);obtain⟨e,oe,vs,rfl,hC,he,hc,hd,h1,hE⟩:=h1;obtain⟨hp,g,d,tk,os⟩:=s1
 repeat (first |(with_reducible refine wpAny_loadPart_at he ?_;rw[hc]) |with_reducible refine wpAny_loadPart_at hC ?_ |(with_reducible refine wpAny_isSubtype_exc hC ?_;rw[VW]) |with_reducible refine wpAny_field he hd h1 ?_ |wp_step)
 exact wpAny_raiseNew_none hh hE
theorem FE{C2:Addr}{ZC q2:Str}{N2:Addr}{ZD:List Value}{ZE:List Str}{VX:List Value}{ZF:Bool}{VY:Option Bool}{ZG:Option Addr}{j0 j1 j2 j3 j5:Option Value}{e:Addr}{Q:Bool->Shared->Prop}
  (hC:h.get? C=some (Il nm q C N bs sn sub ab col dd k0 k1 k2 k3 k5))(X8:h.get? C2=some (Il ZC q2 C2 N2 ZD ZE VX ZF VY ZG j0 j1 j2 j3 j5))(he:h.get? e=some o)(hc:o.cls=.ref C)
  (hq:Q (decide (C=C2)) ⟨h,g,d,t,os⟩):wpAny M A (excMatches (.ref e) (.ref C2)) Q E ⟨h,g,d,t,os⟩:=by
 have VW:(Value.ref C2::UD).contains (.type "BaseException")=true:=by rw[List.contains_cons];simp
 have ZH:(Value.ref C::UD).contains (.ref C2)=decide (C=C2):=by
  by_cases z:C=C2
  ·subst z;simp
  ·rw[decide_eq_false z];simp [Ne.symm z]
 have f:=tc_notTuple;unfold excMatches
 repeat (first |(with_reducible refine wpAny_loadPart_at he ?_;rw[hc]) |with_reducible refine wpAny_loadPart_at X8 ?_ |with_reducible refine wpAny_loadPart_at hC ?_ |(with_reducible refine wpAny_isSubtype_exc X8 ?_;rw[VW]) |wp_step)
 refine wpAny_isSubtype_exc hC ?_;rw[ZH];cases z:decide (C=C2) <;> (rw[z] at hq;wp_walk;exact hq)
end
end Fx
end
section
namespace Fx
open PySem PySem.W PySem.Calls PyProof.Rows Builtin Builtin.ObjectAttr
section
variable{M:Model}{prog:Program}{w:World}{A:Around}{E:Value->Shared->Prop}{h:Heap}{g:Array GenState}{d:Drawn}{t:Nat}{os:OsState}{env:Env}
variable{B sa owner newId Im:String}{bm:List Value}{nm q:Str}{C N x:Addr}{bs:List Value}{sn:List Str}{sub:List Value}{ab:Bool}{col:Option Bool}{dd:Option Addr}{k0 k1 k2 k3 k5:Option Value}{mN mA:Str->Option Value}{name:Str}{v:Value}{o:Obj}{vs:Array Value}
theorem zR{Q:Unit->Shared->Prop}(SF:StoreFacts B bm sa owner)(hC:h.get? C=some (excClassObj nm q C N bs bm true sn sub ab col dd k0 k1 k2 k3 k5 newId))(hn:h.Ns N mN)(Bx:mN "__setattr__"=none)(So:mN name=none)(hB:typeLookup (.type B) name=pure none)
  (hx:h.get? x=some o)(hc:o.cls=.ref C)(hd:o.data=.fields vs)(VZ:o.dict=none)
  (hq:∀h' O9,h'.get? x=some {o with dict:=some h.objs.size}->h'.Ns1 h.objs.size (λy=>if y=name then some v else none)->(∀b ob,b≠x->h.get? b=some ob->h'.get? b=some ob)->Q () ⟨h',g,d,O9,os⟩) :
  wpAny (model prog w) A (setAttr (.ref x) name v) Q E ⟨h,g,d,t,os⟩:=by
 have f3:=SF.slot.bind (.ref x);have Io:=SF.passes (.ref x);unfold setAttr callSpecial? specialOf
 repeat (any_goals (first |assumption |(with_reducible refine wpAny_loadPart_at hx ?_;rw[hc]) |(with_reducible refine wpAny_typeLookup_exc hC hn SF.mro SF.slot.lookup ?_;rw[Bx]) |wp_step))
 refine codeAny_call_builtin SF.slot.plain SF.entry (wpAny_check_sa SF hC hx hc ?_);unfold Builtin.«object.__setattr__»
 repeat (first |rw[refuse_eq] |(rw[refuseLoop_ref,Io]) |(with_reducible refine wpAny_loadPart_at hx ?_;rw[hc]) |with_reducible refine wpAny_mroOf_exc hC ?_ |(with_reducible refine wpAny_typeLookup_exc hC hn SF.mro hB ?_;rw[So]) |wp_step)
 rw[VZ,if_neg (by simp [typeHasDict]),hd];have Sq:(h.push {cls:=.type "dict",data:=.dict #[]}).get? x=some o:=Heap.get?_push_of_some _ hx;have Q4:x≠h.objs.size:=Nat.ne_of_lt (Heap.lt_size hx);refine wpAny_bind (wpAny_alloc' ?_);refine wpAny_bind (wpAny_update' Sq ?_);refine wpAny_pure ?_;generalize hu:(h.push {cls:=.type "dict",data:=.dict #[]}).update x (λo=>{cls:=o.cls,dict:=some h.objs.size,data:=o.data,slots:=o.slots})=h2;have ZI:h2.get? h.objs.size=some {cls:=.type "dict",data:=.dict #[]}:=by
  rw[<-hu];exact(Heap.get?_update_ne _ _ _ _ Q4.symm).trans (Heap.get?_push_at rfl rfl)
 have ZJ:h2.Ns h.objs.size (λ_=>none):=⟨_,#[],_,ZI,rfl,λe he=>absurd he (by simp),λ_=>rfl⟩
 have V0:h2.get? x=some {o with dict:=some h.objs.size}:=by
  rw[<-hu];refine Heap.get?_update_self _ Sq ?_;have rV:=(Heap.get?_some_iff.mp hx).2;obtain⟨oc,od,ZK,tH⟩:=o;cases ZK <;> first |rfl |exact rV
 have zS:∀b ob,b≠x->h.get? b=some ob->h2.get? b=some ob:=λb ob hb hg=>by
  rw[<-hu];exact(Heap.get?_update_ne _ _ _ _ hb).trans (Heap.get?_push_of_some _ hg)
 show wpAny _ _ (storeInDict h.objs.size (.str name _) name v) _ _ _;unfold storeInDict newKeyGuard;refine wpAny_bind (wpAny_pure (wpAny_bind (wpAny_nsSet1 (Heap.Ns1.of_empty ZJ) λh' Fe hs=>?_)));obtain⟨oD,XT,XU,R9,Sa,Sb⟩:=Fe.count (Within.cons name v Within.nil);refine wpAny_bind (wpAny_lookBehind R9 (by rw[Sa];exact pastItsLine_dict (Nat.le_trans Sb (by rw[List.length_cons,List.length_nil,sizeLine_eq];omega))) ?_)
 wp_walk
 exact hq h' _ ((hs.2 x Q4).trans V0) Fe λb ob hb hg=>(hs.2 b (Nat.ne_of_lt (Heap.lt_size hg))).trans (zS b ob hb hg)
theorem BX{Q:Unit->Shared->Prop}{ns:List Str}{dx:Addr}(SF:StoreFacts B bm sa owner)(hC:h.get? C=some (excClassObj nm q C N bs bm true sn sub ab col dd k0 k1 k2 k3 k5 newId))(hn:h.Ns N mN)(Bx:mN "__setattr__"=none)(So:mN name=none)(hB:typeLookup (.type B) name=pure none)
  (hx:h.get? x=some o)(hc:o.cls=.ref C)(hd:o.data=.fields vs)(zT:o.dict=some dx)(vq:dx≠x)(hm:h.Ns1 dx mA)(hw:Within mA ns)(hsz:ns.length<=sizeLine)
  (hq:∀h' O9,h'.Ns1 dx (λy=>if y=name then some v else mA y)->(∀b ob,b≠dx->h.get? b=some ob->h'.get? b=some ob)->Q () ⟨h',g,d,O9,os⟩) :
  wpAny (model prog w) A (setAttr (.ref x) name v) Q E ⟨h,g,d,t,os⟩:=by
 have f3:=SF.slot.bind (.ref x);have Io:=SF.passes (.ref x);unfold setAttr callSpecial? specialOf
 repeat (any_goals (first |assumption |(with_reducible refine wpAny_loadPart_at hx ?_;rw[hc]) |(with_reducible refine wpAny_typeLookup_exc hC hn SF.mro SF.slot.lookup ?_;rw[Bx]) |wp_step))
 refine codeAny_call_builtin SF.slot.plain SF.entry (wpAny_check_sa SF hC hx hc ?_);unfold Builtin.«object.__setattr__»
 repeat (first |rw[refuse_eq] |(rw[refuseLoop_ref,Io]) |(with_reducible refine wpAny_loadPart_at hx ?_;rw[hc]) |with_reducible refine wpAny_mroOf_exc hC ?_ |(with_reducible refine wpAny_typeLookup_exc hC hn SF.mro hB ?_;rw[So]) |wp_step)
 rw[zT];refine wpAny_pure ?_;show wpAny _ _ (storeInDict dx (.str name _) name v) _ _ _;unfold storeInDict newKeyGuard;refine wpAny_bind (wpAny_pure (wpAny_bind (wpAny_nsSet1 hm λh' Fe hs=>?_)));obtain⟨oD,XT,XU,R9,Sa,Sb⟩:=Fe.count (Within.cons name v hw);refine wpAny_bind (wpAny_lookBehind R9 (by rw[Sa];exact pastItsLine_dict (Nat.le_trans Sb (by rw[List.length_cons];omega))) ?_)
 wp_walk
 exact hq h' _ Fe λb ob hb hg=>(hs.2 b hb).trans hg
theorem Ip{rem:List Value}{s:Shared}{Q:Unit->Shared->Prop}(hq:Q () s):wpAny M A (letGo rem []) Q E s:=by
 induction rem with
 |nil=>exact wpAny_pure hq
 |cons a r ih=>exact wpAny_bind (wpAny_holding (wpAny_point ih))
theorem Pb{s:Shared}{i:Nat}{u a0:Value}{Q:Unit->Shared->Prop}(hx:s.heap.get? x=some o)(hd:o.data=.fields vs)(h0:vs[i]?=some a0)
  (hq:Q () {s with heap:=s.heap.update x (Obj.mapFields (·.setIfInBounds i u))}):wpAny M A (Builtin.BaseException.bexcPut (.ref x) i u []) Q E s:=by
 unfold Builtin.BaseException.bexcPut;refine wpAny_bind (wpAny_field hx hd h0 (wpAny_bind (wpAny_setField hx hd (Array.getElem?_eq_some_iff.mp h0).1 ?_)));cases a0 <;> first |exact Ip hq |exact wpAny_pure hq
theorem FF{R:Result->Shared->Prop}{a0:Value}(F:ExcBaseFacts B newId Im bm)(hC:h.get? C=some (excClassObj nm q C N bs bm true sn sub ab col dd k0 k1 k2 k3 k5 newId))(hx:h.get? x=some o)(hc:o.cls=.ref C)(hd:o.data=.fields vs)(h0:vs[0]?=some a0)
  (hq:R (.ok (.ret .none)) ⟨(h.push {cls:=.type "tuple",data:=.seq ([]:List Value).toArray}).update x (Obj.mapFields (·.setIfInBounds 0 (.ref h.objs.size))),g,d,t,os⟩) :
  codeAny (model prog w) A (.call (.builtin Im) ⟨[.ref x],[]⟩) R ⟨h,g,d,t,os⟩:=by
 refine codeAny_call_builtin F.init.plain F.initEntry (wpAny_check_init_subT (rest:=[]) F .base hC hx hc ?_);unfold Builtin.«BaseException.__init__»;have Sq:=Heap.get?_push_of_some (h:=h) {cls:=.type "tuple",data:=.seq ([]:List Value).toArray} hx
 repeat (any_goals (first |assumption |with_reducible refine Pb (s:=⟨_,_,_,_,_⟩) Sq hd h0 ?_ |wp_step))
theorem Iq{expr:Bool}{dx:Addr}{Q:Value->Shared->Prop}(FB:ExcAttrBase B bm)(hC:h.get? C=some (excClassObj nm q C N bs bm true sn sub ab col dd k0 k1 k2 k3 k5 newId))(hn:h.Ns N mN)
  (ZL:mN "__getattribute__"=none)(ZM:mN "__getattr__"=none)(So:mN name=none)(hB:typeLookup (.type B) name=pure none)
  (hx:h.get? x=some o)(hc:o.cls=.ref C)(hd:o.data=.fields vs)(zT:o.dict=some dx)(hm:h.Ns1 dx mA)(hv:mA name=some v)(hh:handedIn v=true)(hq:Q v ⟨h,g,d,t+1,os⟩) :
  wpAny (model prog w) A (getAttr (.ref x) name expr) Q E ⟨h,g,d,t,os⟩:=by
 have f3:=FB.ga.bind (.ref x);have hx0:(expr && onTheHeap (Value.builtin "BaseException.__getattribute__"))=false:=by cases expr <;> rfl
 have V0:(Value.builtin "BaseException.__getattribute__" == Value.builtin "object.__getattribute__")=false:=by decide +kernel
 have Sq:(onTheHeap (Value.ref C) && Value.builtin "BaseException.__getattribute__" == Value.builtin "object.__getattribute__")=false:=by rw[V0];rfl
 unfold getAttr getAttrBy
 repeat (any_goals (first |assumption |(with_reducible refine wpAny_loadPart_at hx ?_;rw[hc]) |(with_reducible refine wpAny_typeLookup_exc hC hn FB.mro FB.ga.lookup ?_;rw[ZL]) |(with_reducible refine wpAny_typeLookup_exc hC hn FB.mro FB.noGetattr ?_;rw[ZM]) |wp_step))
 refine codeAny_call_builtin FB.ga.plain F.entry_bexc_ga (wpAny_check_ga_own FB hC .base hx hc ?_);unfold Builtin.«object.__getattribute__»
 repeat (any_goals (first |assumption |(with_reducible refine wpAny_loadPart_at hx ?_;rw[hc]) |(with_reducible refine wpAny_typeLookup_exc hC hn FB.mro hB ?_;rw[So]) |wp_step))
 rw[hd];show wpAny _ _ (instanceDict x false) _ _ _;unfold instanceDict;refine wpAny_bind (wpAny_loadPart_at hx ?_);rw[hc];dsimp only;refine wpAny_bind ?_;unfold classData;refine wpAny_bind (wpAny_load hC (wpAny_pure ?_));dsimp only;rw[zT];refine wpAny_pure (a:=some dx) ?_;unfold inDict;refine wpAny_nsGet hm.ns ?_;rw[hv];refine wpAny_bind (wpAny_rule (wpAny_pure (wpAny_pure ?_)));show wpAny _ _ (handedOut v) _ _ _;rw[handedOut_of hh];exact wpAny_pure hq
end
end Fx
end
section
namespace L2
open PySem PySem.Spec PyProof.Rows
theorem jz.sv{P:Program}{w:World}{H:Hp}{h:Heap}{a:Addr}(x:jz P w H h)(e:h.get? a=none):H a=none:=by
 cases q:H a with
 |none=>rfl
 |some u =>
  exfalso;have z:=x a u q;have key:∃o,h.get? a=some o:=by
   cases u with
   |de xs=>obtain⟨_,_,_,_,e⟩:=z;exact⟨_,e⟩
   |iQ xs=>obtain⟨_,_,_,ob,e,_⟩:=z;exact⟨_,e⟩
   |dK a4=>obtain⟨_,_,_,_,o,_,_,e,_⟩:=z;exact⟨_,e⟩
   |dT a4=>obtain⟨_,_,_,_,o,_,_,e,_⟩:=z;exact⟨_,e⟩
   |set S n=>obtain⟨o,_,_,_,e,_⟩:=z;exact⟨_,e⟩
   |g9 C dx fs=>obtain⟨_,_,_,e,_⟩:=z;exact⟨_,e⟩
   |own y=>obtain⟨o,e⟩:=z;exact⟨_,e⟩
   |xd fs=>obtain⟨_,⟨_,_,_,e,_⟩,_⟩:=z;exact⟨_,e⟩
   |Us lo hi=>obtain⟨_,_,_,e⟩:=z;exact⟨_,e⟩
   |sX ob u=>obtain⟨e,_⟩:=z;exact⟨_,e⟩
   |KJ ps=>exact⟨_,z⟩
   |Ur f y=>exact⟨_,z⟩
   |ext φ=>obtain⟨_,⟨o,e⟩,_⟩:=z;exact⟨_,e⟩
  obtain⟨o,q⟩:=key;rw[e] at q;cases q
theorem jz.zU{P:Program}{w:World}{H:Hp}{h h':Heap}{a:Addr}{o:HO}(x:jz P w H h)(k:∀b u,h.get? b=some u->h'.get? b=some u)(hn:H a=none)(new:cB P w (dE H a o) h' a o):jz P w (dE H a o) h':=λb u e=>by
 by_cases hb:b=a
 ·subst hb;rw[aC] at e;cases e;exact new
 ·rw[aB hb] at e;exact(x b u e).rN (λc v _ q=>k c v q) (λc q=>by rw[aB (bJ q hn)];exact q) λc xs q=>by rw[aB (bJ q hn)];exact q
theorem Un.zU{fs ex:List Addr}{H:Hp}{h h':Heap}{a:Addr}{o:HO}(k:∀b u,h.get? b=some u->h'.get? b=some u)(hp:h.get? a=none)(hn:H a=none):Un fs ex H (dE H a o) h h' where
 keep:=λb u q _ _ _=>k b u q
 slot:=λb u q _ _ _=>⟨u.slots,k b u q⟩
 free:=λb u q n _=>by rw[aB (λz=>by rw[z,hp] at q;cases q)];exact n
 there:=λb u q _=>⟨u,k b u q⟩
 oj:=λb xs q=>by rw[aB (bJ q hn)];exact q
 ni:=λb u xs q=>by rw[aB (bJ q hn)];exact q
 om:=λb ps q=>⟨#[],by rw[aB (bJ q hn),q];simp⟩
theorem Inv.zU{X:Cx}{pins:List (Addr×Obj)}{σ:St}{H:Hp}{s:Shared}{h':Heap}{a:Addr}{o:HO}{t':Nat}(I:Inv X pins σ H s)(k:∀b u,s.heap.get? b=some u->h'.get? b=some u)(hp:s.heap.get? a=none)(new:cB X.prog X.w (dE H a o) h' a o) :
  Inv X pins σ (dE H a o) {s with heap:=h',toks:=t'}:=I.un (Un.zU k hp (I.hok.sv hp)) (I.hok.zU k (I.hok.sv hp) new)
def hJ(ea C:Addr)(dx:Option Addr):HO:=.ext λh=>∃oe vs a0,h.get? ea=some oe/\oe.cls=.ref C/\oe.dict=dx/\oe.data=.fields vs/\5<vs.size/\vs[1]?=some .none/\vs[0]?=some a0
theorem hJ.ok{P:Program}{w:World}{H:Hp}{h:Heap}{ea C:Addr}{dx:Option Addr}(q:∃oe vs a0,h.get? ea=some oe/\oe.cls=.ref C/\oe.dict=dx/\oe.data=.fields vs/\5<vs.size/\vs[1]?=some .none/\vs[0]?=some a0):cB P w H h ea (hJ ea C dx):=by
 refine⟨q,?_,?_⟩
 ·obtain⟨oe,_,_,e,_⟩:=q;exact⟨oe,e⟩
 ·rintro h1 h2 ⟨oe,vs,a0,e,r⟩ k;exact⟨oe,vs,a0,k _ e,r⟩
def zd(dx:Addr)(fs:List (Str×V)):HO:=.ext λh=>∃mA,h.Ns1 dx mA/\(∀f,jy (fs.lookup f) (mA f))/\PySem.Within mA (fs.map (·.1))/\fs.length<=1000
theorem zd.ok{P:Program}{w:World}{H:Hp}{h:Heap}{dx:Addr}{fs:List (Str×V)}(q:∃mA,h.Ns1 dx mA/\(∀f,jy (fs.lookup f) (mA f))/\PySem.Within mA (fs.map (·.1))/\fs.length<=1000):cB P w H h dx (zd dx fs):=by
 refine⟨q,?_,?_⟩
 ·obtain⟨mA,⟨o,_,_,e,_⟩,_⟩:=q;exact⟨o,e⟩
 ·rintro h1 h2 ⟨mA,⟨o,es,ep,e,r1⟩,r⟩ k;exact⟨mA,⟨o,es,ep,k _ e,r1⟩,r⟩
structure XC(K:Frag)(C N:Addr):Prop where
 obj:∃nm q bs sn sub ab col dd k0 k1 k2 k3 k5,K.lookup C=some (Fx.Il nm q C N bs sn sub ab col dd k0 k1 k2 k3 k5)
 ok:PySem.W.nsOkIn K N=true
 sa:nsIn K N "__setattr__"=some none
 ga:nsIn K N "__getattribute__"=some none
 gt:nsIn K N "__getattr__"=some none
 kp:keepIn K (.ref C)=true
theorem XC.ns{K:Frag}{C N:Addr}(T:XC K C N){h:Heap}(X:K.In h):h.Ns N (h.nsMap N):=.of_isNs (PySem.W.isNs_of_in X T.ok)
theorem XC.no{K:Frag}{C N:Addr}(T:XC K C N){h:Heap}(X:K.In h){f:Str}(e:nsIn K N f=some none):h.nsMap N f=none:=PySem.W.nsMap_none_of_in X T.ok e
structure XA(K:Frag)(N:Addr)(f:Str):Prop where
 own:nsIn K N f=some none
 up:typeLookup (.type "Exception") f=pure none
section
variable{X:Cx}{pins:List (Addr×Obj)}{σ:St}{H:Hp}{s:Shared}{ea C N:Addr}{dx:Option Addr}
theorem Inv.D8{h':Heap}{vs:List Value}(I:Inv X pins σ H s)(m:Heap.MadeExcOf s.heap h' ea (.ref C) vs):Inv X pins σ (dE H ea (hJ ea C none)) {s with heap:=h'}:=by
 refine I.zU (t':=s.toks) m.keeps m.new (hJ.ok ?_);obtain⟨t,e,_⟩:=m.there;exact⟨_,_,_,e,rfl,rfl,rfl,by simp,rfl,rfl⟩
theorem Inv.Ir(I:Inv X pins σ H s)(e:H ea=some (hJ ea C dx)):Inv X pins σ (dE H ea (lv ea C dx)) s/\∃oe vs,s.heap.get? ea=some oe/\oe.cls=.ref C/\oe.dict=dx/\oe.data=.fields vs/\5<vs.size/\vs[1]?=some .none:=by
 obtain⟨⟨oe,vs,a0,h1,h2,h3,h4,h5,h6,_⟩,_⟩:=I.hok ea _ e;refine⟨?_,oe,vs,h1,h2,h3,h4,h5,h6⟩;exact I.lE (h':=s.heap) (t':=s.toks) (x:=ea) (e:=ea) (by rw[e];exact True.intro) (.inl rfl) (λb u _ q=>q) ⟨oe,h1⟩ (lv.ok ⟨oe,vs,h1,h2,h3,h4,h5⟩)
theorem Inv.Iu{E:XK}{g0:Heap}{n0:Nat}(T:iF X E)(I:Inv X pins σ H s)(S:ko X g0 n0 s.heap)(hn:¬dR g0 ea)(e:H ea=some (hJ ea C dx))(q:E (.ref C) dx (dE H ea (lv ea C dx))):X.xe (.ref ea) s:=by
 obtain⟨I2,oe,vs,h1,h2,h3,h4,h5,h6⟩:=I.Ir e;exact T pins σ _ s ea C dx g0 n0 I2 S ⟨hn,aC,oe,vs,h1,h2,h3,h4,h5,λp=>p.1 rfl,.inl h6⟩ q
end
section
variable{X:Cx}{x:Str}{np gE pos:Pos}{C N:Addr}{E:XK}
def Lv(C:Addr)(E:XK):TS:=λ_ _ H=>∀ea,H ea=none->E (.ref C) none (dE H ea (lv ea C none))
theorem FG(hx:iF X E)(hc:X.gB=true)(hg:Gl X x)(hm:X.mg x=some (.ref C))(T:XC X.K C N)(hi:nsIn X.K N "__init__"=some none)(hex:X.ex=[]:=by rfl)(hd:(x == ("__debug__":Str))=false:=by decide) :
  PS X (.Raise (some (.Call (.Name x np) [] [] gE)) none pos) (Lv C E):=by
 intro pins s σ H D I h;obtain⟨nm,q,bs,sn,sub,ab,col,dd,k0,k1,k2,k3,k5,lk⟩:=T.obj;rw[arm_exec_Raise];refine wpAny_bind (wpAny_standAt (Fx.tQ (C:=C) (nm:=nm) (q:=q) (N:=N) (bs:=bs) (sn:=sn) (sub:=sub) (ab:=ab) (col:=col) (dd:=dd) (k0:=k0) (k1:=k1) (k2:=k2) (k3:=k3) (k5:=k5) (I.ok.hd hc) ?_));refine wpAny_bind (wpAny_mono (Q:=λu s1=>∃h' ea,u=Value.ref ea/\s1={s with heap:=h'}/\Heap.MadeExcOf s.heap h' ea (.ref C) []) (E:=X.xe) ?_ (λu s1 z=>wpAny_bind (wpAny_standAt (wpAny_pure ?_))) λ_ _ z=>z)
 ·refine wpAny_Call_Name_kw (kL I hg hm ?_ hd);refine PySem.W.callWith_K0 I.je T.kp ?_;obtain⟨hh,g,d,t,os⟩:=s;exact PySem.wpAny_call_exc_sub PySem.F.excBase_Exception (I.je _ _ lk) (T.ns I.je) (T.no I.je hi) (λh' e m=>⟨h',e,rfl,rfl,m⟩) (Nat.zero_le _)
 ·obtain⟨h',ea,rfl,rfl,m⟩:=z;have I1:=I.D8 m;have ex:=aC (H:=H) (a:=ea) (o:=hJ ea C none);obtain⟨_,oe,vs,e1,e2,_,e4,_,e6⟩:=I1.Ir ex;refine⟨ea,oe,vs,rfl,I1.je _ _ lk,e1,e2,e4,e6,I1.Iu (n0:=min s.heap.objs.size h'.objs.size) hx (I.zQ (mL hex) (λb ⟨o,z⟩=>⟨o,m.keeps b o z⟩) (λb ⟨o,z⟩=>Nat.lt_min.mpr ⟨Heap.lt_size z,Heap.lt_size (m.keeps b o z)⟩) (Nat.min_le_right _ _)) (λ⟨o,z⟩=>by rw[m.new] at z;cases z) ex ?_⟩;rw[KL];exact h ea (I.hok.sv m.new)
def Lw(C:Addr)(sp:Sp)(E:XK)(t:TA):TS:=λ_ σ H=>t σ H λvs H1=>∀ea,H1 ea=none->sp (.ref ea::vs) (dE H1 ea (hJ ea C none)) (λv H2=>v=.dH/\∃dx,H2 ea=some (hJ ea C dx)/\E (.ref C) dx (dE H2 ea (lv ea C dx))) E0
theorem FH{k:Nat}{fI:Addr}{fd:FuncData}{ps:List Str}{sp:Sp}{e:Expr}{es:List Expr}{t:TA}(hx:iF X E)(hc:X.gB=true)(hg:Gl X x)(hm:X.mg x=some (.ref C))(T:XC X.K C N)(hi:nsIn X.K N "__init__"=some (some (.ref fI)))
  (hf:PySem.W.isFn X.K (.ref fI)=true)(F:g5 X.prog X.w X.K X.mg X.base (rh X.prog X.w) k fI fd ps sp)(hr:cx (k+1) X.A)(hb:fG X.K fd ps [])(ha:PA X (e::es) t)(Sr:ps.length<=1000:=by decide)(hex:X.ex=[]:=by rfl)(hd:(x == ("__debug__":Str))=false:=by decide)
  (he:starEach (e::es) X.env=(false,eval e X.env)::starEach es X.env:=by rfl)(d9:(backTo gE (starEach es X.env)).any (·.1)=false:=by rfl) :
  PS X (.Raise (some (.Call (.Name x np) (e::es) [] gE)) none pos) (Lw C sp E t):=by
 intro pins s σ H D I h;obtain⟨nm,q,bs,sn,sub,ab,col,dd,k0,k1,k2,k3,k5,lk⟩:=T.obj;rw[arm_exec_Raise];refine wpAny_bind (wpAny_standAt (Fx.tQ (C:=C) (nm:=nm) (q:=q) (N:=N) (bs:=bs) (sn:=sn) (sub:=sub) (ab:=ab) (col:=col) (dd:=dd) (k0:=k0) (k1:=k1) (k2:=k2) (k3:=k3) (k5:=k5) (I.ok.hd hc) ?_));refine wpAny_bind (wpAny_mono (Q:=λu s1=>∃ea H2 dx g0 n0,u=Value.ref ea/\Inv X pins σ H2 s1/\ko X g0 n0 s1.heap/\¬dR g0 ea/\H2 ea=some (hJ ea C dx)/\E (.ref C) dx (dE H2 ea (lv ea C dx))) (E:=X.xe) ?_ (λu s1 z=>wpAny_bind (wpAny_standAt (wpAny_pure ?_))) λ_ _ z=>z)
 ·refine wpAny_Call_Name_kw (kL I hg hm ?_ hd);refine PySem.W.callWith_K (h₀:=X.base) I.ok.mod.Oq T.kp (dB (ha gE pins s σ H _ I h) λus s1 ⟨vs,H1,I1,r,q1⟩=>⟨I1.je,?_⟩) he d9;have ZN:s1.heap.nsMap N "__init__"=some (.ref fI):=by
   obtain⟨o,Uu,ep,ho,Q5,_,ZO⟩:=T.ns I1.je;unfold nsIn at hi;split at hi
   ·rename_i c d2 es2 n2 sl q2;have z:=I1.je _ _ q2;rw[ho] at z;cases z;cases Q5;split at hi
    ·rename_i en ZP;rw[<-ZO];unfold nsFind findBy;rw[<-Array.find?_toList,ZP];exact congrArg some (Option.some.inj (Option.some.inj hi))
    ·exact absurd hi (by split <;> simp)
   ·cases hi
  obtain⟨oI,ZQ,ZR⟩:=Option.map_eq_some_iff.mp (show (X.K.lookup fI).map (·.cls)=some (.type "function") from beq_iff_eq.mp hf);have hlen:us.length<=sizeLine:=by
   have hl:=F.len _ _ _ _ (q1 s1.heap.objs.size (I1.hok.fresh (Nat.le_refl _)));have h2:(vs.length+1)=ps.length:=hl;rw[<-r.length,sizeLine_eq];omega
  obtain⟨hh,g,d,tk,os⟩:=s1;refine PySem.wpAny_call_exc_init PySem.F.excBase_Exception (I1.je _ _ lk) (T.ns I1.je) ZN (I1.je _ _ ZQ) ZR (λh' ea m=>?_) hlen;have I2:=I1.D8 m;have hq:=q1 ea (I1.hok.sv m.new);have r2:cC (V.ref ea::vs) (Value.ref ea::us):=.cons rfl r;have hl:(Value.ref ea::us++[]).length=ps.length:=by
   rw[List.append_nil,<-r2.length];exact F.len _ _ _ _ hq
  have bt:=hb _ (Value.ref ea::us) I2.je hl;rw[List.append_nil] at bt;refine wpAny_call (codeAny_mono (F.run _ X.stack _ _ ⟨Value.ref ea::us,[]⟩ (Value.ref ea::us) _ _ E0 (hr.HN C us []) (I2.K7.HN C us []) bt r2 hq) λrr s' u0=>?_);cases rr with
  |error e =>
   obtain⟨_,_,_,_,_,_,_,_,_,_,_,_,_,z⟩:=u0;exact z.elim
  |ok fl =>
   cases fl with
   |ret u =>
    obtain⟨v,H3,I3,rv,ev,dx,Q6,qE⟩:=I2.after u0;subst ev;have live:∀b,dR hh b->dR s'.heap b:=λb ⟨o,z⟩=>by
     obtain⟨v',H',_,_,un,_⟩:=u0;exact un.there b o (m.keeps b o z) (by simp)
    exact⟨rv,ea,H3,dx,_,min hh.objs.size s'.heap.objs.size,rfl,I3,I1.zQ (mL hex) live (λb z=>Nat.lt_min.mpr ⟨z.lt,(live b z).lt⟩) (Nat.min_le_right _ _),λ⟨o,z⟩=>(by rw[m.new] at z;cases z),Q6,qE⟩
   |next=>exact False.elim u0
   |brk=>exact False.elim u0
   |cont=>exact False.elim u0
 ·obtain⟨ea,H2,dx,g0,n0,rfl,I1,S,nl,ex,qE⟩:=z;obtain⟨_,oe,vs,e1,e2,_,e4,_,e6⟩:=I1.Ir ex;exact⟨ea,oe,vs,rfl,I1.je _ _ lk,e1,e2,e4,e6,I1.Iu hx S nl ex qE⟩
end
end L2
end
section
namespace Fx
open PySem PySem.W PySem.Calls PyProof.Rows
theorem FI(K:Frag):findCls K (.type "Exception") (.type "type") (PySem.Str.ofString "__init__")=some (.val (.builtin "Exception.__init__")):=by kernel_rfl
theorem FJ{prog:Program}{w:World}{A:Around}{E:Value->Shared->Prop}{s:Shared}{K:Frag}{pl:Sem Bool}{Q:Value×List Value->Shared->Prop}(X:K.In s.heap)
  (h:Q (.builtin "Exception.__init__",[]) {s with toks:=s.toks+1}):wpAny (model prog w) A (getMethod (.type "Exception") (PySem.Str.ofString "__init__") pl) Q E s:=by
 have Ss:opaqueClassAbove (.type "Exception")=pure none:=by unfold opaqueClassAbove;dsimp only;rw[show Manifest.isStub "Exception"=false by decide +kernel];rfl
 have ht:typeOf (.type "Exception")=pure (.type "type"):=by first |rfl |kernel_rfl
 have L0:Looks (model prog w) s.heap (typeOf (.type "Exception")) (.type "type"):=Looks.of_pure ht;have hg:findIn K (.type "type") "__getattribute__"=some (some (.builtin "type.__getattribute__")):=by kernel_rfl
 unfold getMethod specialOf;refine wpAny_bind (wpAny_bind (L0.here ((looks_findIn X hg).here ?_)));dsimp only;rw[if_pos (show (Manifest.canonical "type.__getattribute__" != "object.__getattribute__")=true by decide +kernel)];refine wpAny_bind (wpAny_mono (Q:=λv=>Q (v,[])) (E:=E) ?_ (λ_ _ z=>wpAny_pure z) λ_ _ z=>z);refine cls_open X (Looks.of_pure Ss) L0 hg (looks_hook X (r:=none) (by rfl)) (by show subIn K _ _=_;rfl) (FI K) ?_;show wpAny _ _ (ret (.builtin "Exception.__init__")) _ _ _;refine wpAny_pure ?_;show wpAny _ _ (handedOut (.builtin "Exception.__init__")) _ _ _;rw[handedOut_of (by decide +kernel)];exact wpAny_pure h
end Fx
namespace L2
open PySem PySem.Spec PyProof.Rows
section
variable{X:Cx}{pins:List (Addr×Obj)}{σ:St}{H:Hp}{s:Shared}{ea C N:Addr}{dx:Option Addr}
def Pc(K:Frag)(t:TA):TE:=λσ H Q=>t σ H λvs H1=>∃ea C N dx,vs=[.ref ea]/\H1 ea=some (hJ ea C dx)/\XC K C N/\Q .dH H1
theorem Inv.Lx{R:Result->Shared->Prop}{A:Around}(I:Inv X pins σ H s)(e:H ea=some (hJ ea C dx))(T:XC X.K C N)(h:∀s',Inv X pins σ H s'->R (.ok (.ret .none)) s') :
  codeAny (model X.prog X.w) A (.call (.builtin "Exception.__init__") ⟨[.ref ea],[]⟩) R s:=by
 obtain⟨nm,q,bs,sn,sub,ab,col,dd,k0,k1,k2,k3,k5,lk⟩:=T.obj;obtain⟨⟨oe,vs,a0,h1,h2,h3,h4,h5,h6,h7⟩,_⟩:=I.hok ea _ e;obtain⟨hh,g,d,t,os⟩:=s;refine Fx.FF PySem.F.excBase_Exception (I.je _ _ lk) h1 h2 h4 h7 (h _ ?_);have hp:=Heap.get?_push_of_some (h:=hh) {cls:=.type "tuple",data:=.seq ([]:List Value).toArray} h1;have hd2:=Obj.data_mapFields h4 (·.setIfInBounds 0 (.ref hh.objs.size));have hu:=Heap.get?_update_self (Obj.mapFields (·.setIfInBounds 0 (.ref hh.objs.size))) hp (Obj.isFreed_of_fields hd2);have I2:=I.lE (t':=t) (x:=ea) (e:=ea) (o:=hJ ea C dx) (h':=(hh.push {cls:=.type "tuple",data:=.seq ([]:List Value).toArray}).update ea (Obj.mapFields (·.setIfInBounds 0 (.ref hh.objs.size)))) (by rw[e];exact True.intro) (.inl rfl)
  (λb u hb z=>(Heap.get?_update_other _ _ (Ne.symm hb)).trans (Heap.get?_push_of_some _ z)) ⟨_,hu⟩ (hJ.ok ⟨_,_,_,hu,(Obj.cls_mapFields _ _).trans h2,(Fx.p0 _ _).trans h3,hd2,by rw[Array.size_setIfInBounds];exact h5,by rw[Array.getElem?_setIfInBounds_ne d_];exact h6,by rw[Array.getElem?_setIfInBounds_self_of_lt o_]⟩)
 have eH:dE H ea (hJ ea C dx)=H:=by
  funext b;unfold dE
  by_cases z:b=ea
  ·rw[if_pos z,z];exact e.symm
  ·rw[if_neg z]
 rw[eH] at I2;exact I2
theorem zV{np apos pos:Pos}{e:Expr}{t:TA}{pl:Sem Bool}(hg:Gl X "Exception")(hm:X.mg "Exception"=none)(ha:PA X [e] t)(j9:starEach [e] X.env=(false,eval e X.env)::starEach [] X.env:=by rfl)
  (d9:(backTo pos (starEach [] X.env)).any (·.1)=false:=by rfl)
  (ht:eval (.Call (.Attribute (.Name "Exception" np) "__init__" apos) [e] [] pos) X.env=(do
   let ov<-eval (.Name "Exception" np) X.env
   standAt apos.atName
   let (f,first)<-holding [ov] (getMethod ov "__init__" pl)
   callWith pos f first (backTo pos (starEach [e] X.env)) (backToKw pos (keywordEach [] X.env))):=by rfl) :
  PE X (.Call (.Attribute (.Name "Exception" np) "__init__" apos) [e] [] pos) (Pc X.K t):=by
 intro pins s σ H Q I h;refine PySem.W.methodCall_KW (pl:=pl) (xA I hg hm (show bootBuiltins "Exception"=some (.type "Exception") by kernel_rfl) ?_) ht;refine Fx.FJ I.je ?_;refine PyProof.Rows.callWith_builtin1 (dB (ha pos pins _ σ H _ (I.tok _) h) λus s1 ⟨vs,H1,I1,r1,q1⟩=>?_) j9 d9;obtain⟨ea,C,N,dx,rfl,e1,T,q2⟩:=q1;obtain⟨u,rfl,ru⟩:=mR r1;obtain rfl:u=Value.ref ea:=ru;exact wpAny_call (I1.Lx e1 T λs' I'=>⟨.dH,H1,I',rfl,q2⟩)
def Pd(K:Frag)(ta tv:TE)(f:Str):TS:=λD σ H=>tv σ H λy H1=>ta σ H1 λx H2=>∃ea C N,x=.ref ea/\H2 ea=some (hJ ea C none)/\XC K C N/\XA K N f /\
 ∀dx,H2 dx=none->D.nx σ (dE (dE H2 dx (zd dx [(f,y)])) ea (hJ ea C (some dx)))
def Su(K:Frag)(ta tv:TE)(f:Str):TS:=λD σ H=>tv σ H λy H1=>ta σ H1 λx H2=>∃ea C N dx fs,x=.ref ea/\H2 ea=some (hJ ea C (some dx))/\XC K C N/\XA K N f/\H2 dx=some (zd dx fs)/\fs.length<1000/\dx≠ea /\
 D.nx σ (dE H2 dx (zd dx (gk f y fs)))
theorem Iw{f:Str}{y:V}{u:Value}{A:Around}{E:Value->Shared->Prop}{Q:Unit->Shared->Prop}(I:Inv X pins σ H s)(e:H ea=some (hJ ea C none))(T:XC X.K C N)(n:XA X.K N f)(ry:cz y u)
  (h:∀dx s',H dx=none->Inv X pins σ (dE (dE H dx (zd dx [(f,y)])) ea (hJ ea C (some dx))) s'->Q () s'):wpAny (model X.prog X.w) A (setAttr (.ref ea) f u) Q E s:=by
 obtain⟨nm,q,bs,sn,sub,ab,col,dd,k0,k1,k2,k3,k5,lk⟩:=T.obj;obtain⟨⟨oe,vs,a0,h1,h2,h3,h4,h5,h6,h7⟩,_⟩:=I.hok ea _ e;obtain⟨hh,g,d,t,os⟩:=s;refine Fx.zR PySem.F.store_Exception (I.je _ _ lk) (T.ns I.je) (T.no I.je T.sa) (T.no I.je n.own) n.up h1 h2 h4 h3 λh' O9 g1 g2 g3=>?_;have hn:H hh.objs.size=none:=I.hok.fresh (Nat.le_refl _);have ne:ea≠hh.objs.size:=Nat.ne_of_lt (Heap.lt_size h1);refine h hh.objs.size _ hn ?_;have vq:∀b u,b≠ea->hh.get? b=some u->h'.get? b=some u:=λb u hb z=>g3 b u hb z;have V1:cB X.prog X.w (dE (dE H hh.objs.size (zd hh.objs.size [(f,y)])) ea (hJ ea C (some hh.objs.size))) h' ea (hJ ea C (some hh.objs.size)):=hJ.ok ⟨_,vs,a0,g1,h2,rfl,h4,h5,h6,h7⟩;refine I.un (t':=O9) (H':=dE (dE H hh.objs.size (zd hh.objs.size [(f,y)])) ea (hJ ea C (some hh.objs.size))) ?_ ?_
 ·refine⟨λb o z n _ _=>g3 b o (λw=>by rw[w,e] at n;cases n) z,λb o z n _ _=>⟨o.slots,g3 b o (λw=>by rw[w,e] at n;cases n) z⟩,λb o z n _=>?_,λb o z _=>?_,λb xs z=>?_,λb o u z=>?_,λb ps z=>⟨#[],?_⟩⟩
  ·rw[aB (λw=>by rw[w,e] at n;cases n),aB (Nat.ne_of_lt (Heap.lt_size z))];exact n
  ·by_cases w:b=ea
   ·rw[w];exact⟨_,g1⟩
   ·exact⟨o,g3 b o w z⟩
  ·rw[aB (sZ z e (by intro y;cases y)),aB (bJ z hn)];exact z
  ·rw[aB (sZ z e (by intro y;cases y)),aB (bJ z hn)];exact z
  ·rw[aB (sZ z e (by intro y;cases y)),aB (bJ z hn),z];simp
 ·intro b u z
  by_cases w:b=ea
  ·subst w;rw[aC] at z;cases z;exact V1
  ·rw[aB w] at z
   by_cases w2:b=hh.objs.size
   ·subst w2;rw[aC] at z;cases z;refine zd.ok ⟨_,g2,λg'=>?_,λg' ZS=>?_,by simp⟩
    ·show jy (List.lookup g' [(f,y)]) (if g'=f then some u else none)
     by_cases z:g'=f
     ·rw[if_pos z,z];simp [List.lookup];exact ry
     ·rw[if_neg z];have:(g' == f)=false:=beq_eq_false_iff_ne.mpr z;simp only[List.lookup,this];trivial
    ·have:g'=f:=by
      by_cases z:g'=f
      ·exact z
      ·exact absurd (show (if g'=f then some u else none)=none from if_neg z) ZS
     rw[this];simp
   ·rw[aB w2] at z;refine(I.hok b u z).rN (λc v hc q=>g3 c v (λy=>?_) q) (λc q=>?_) λc xs q=>?_
    ·rcases hc with y2 |y2
     ·exact w (y2.symm.trans y)
     ·rw[y,e] at y2;cases y2
    ·rw[aB (sZ q e (by intro y;cases y)),aB (bJ q hn)];exact q
    ·rw[aB (sZ q e (by intro y;cases y)),aB (bJ q hn)];exact q
theorem Ly{f:Str}{y:V}{u:Value}{d:Addr}{fs:List (Str×V)}{A:Around}{E:Value->Shared->Prop}{Q:Unit->Shared->Prop}(I:Inv X pins σ H s)(e:H ea=some (hJ ea C (some d)))(T:XC X.K C N)(n:XA X.K N f)(ed:H d=some (zd d fs))(hl:fs.length<1000)(vq:d≠ea)(ry:cz y u)
  (h:∀s',Inv X pins σ (dE H d (zd d (gk f y fs))) s'->Q () s'):wpAny (model X.prog X.w) A (setAttr (.ref ea) f u) Q E s:=by
 obtain⟨nm,q,bs,sn,sub,ab,col,dd,k0,k1,k2,k3,k5,lk⟩:=T.obj;obtain⟨⟨oe,vs,a0,h1,h2,h3,h4,h5,h6,h7⟩,_⟩:=I.hok ea _ e;obtain⟨⟨mA,hm,r,wi,_⟩,_⟩:=I.hok d _ ed;obtain⟨hh,g,dr,t,os⟩:=s;refine Fx.BX PySem.F.store_Exception (I.je _ _ lk) (T.ns I.je) (T.no I.je T.sa) (T.no I.je n.own) n.up h1 h2 h4 h3 vq hm wi (by rw[List.length_map,sizeLine_eq];omega) λh' O9 g1 g2=>h _ ?_;have hd:∃o,h'.get? d=some o:=let ⟨o,_,_,e',_⟩:=g1;⟨o,e'⟩;refine I.lE (t':=O9) (x:=d) (e:=d) (by rw[ed];exact True.intro) (.inl rfl) g2 hd (zd.ok ⟨_,g1,λg'=>?_,λg' hg=>?_,?_⟩)
 ·show jy ((gk f y fs).lookup g') (if g'=f then some u else mA g');rw[df]
  by_cases z:g'=f
  ·rw[if_pos z,if_pos z];exact ry
  ·rw[if_neg z,if_neg z];exact r g'
 ·by_cases z:g'=f
  ·rw[z];exact(kb f y fs).1
  ·refine(kb f y fs).2 g' (wi g' λw=>hg ?_);show (if g'=f then some u else mA g')=none;rw[if_neg z];exact w
 ·have:=fU f y fs;omega
theorem Lz{f:Str}{v:V}{d:Addr}{fs:List (Str×V)}{b:Bool}{A:Around}{E:Value->Shared->Prop}{Q:Value->Shared->Prop}(I:Inv X pins σ H s)(e:H ea=some (lv ea C (some d)))(T:XC X.K C N)(n:XA X.K N f)(ed:H d=some (zd d fs))(l:fs.lookup f=some v)
  (h:∀u s',Inv X pins σ H s'->cz v u->Q u s'):wpAny (model X.prog X.w) A (getAttr (.ref ea) f b) Q E s:=by
 obtain⟨nm,q,bs,sn,sub,ab,col,dd,k0,k1,k2,k3,k5,lk⟩:=T.obj;obtain⟨⟨oe,vs,h1,h2,h3,h4,h5⟩,_⟩:=I.hok ea _ e;obtain⟨⟨mA,hm,r,wi,_⟩,_⟩:=I.hok d _ ed;obtain⟨u,hu,ru⟩:=jy.oE (v:=v) (o:=mA f) (by rw[<-l];exact r f);have I2:=I.tok (s.toks+1);obtain⟨hh,g,dr,t,os⟩:=s;exact Fx.Iq PySem.F.attrBase_Exception (I.je _ _ lk) (T.ns I.je) (T.no I.je T.ga) (T.no I.je T.gt) (T.no I.je n.own) n.up h1 h2 h4 h3 hm hu (qk ru) (h u _ I2 ru)
def Sv(K:Frag)(ta:TE)(f:Str):TE:=λσ H Q=>ta σ H λx H1=>∃ea C N dx fs v,x=.ref ea/\H1 ea=some (lv ea C (some dx))/\XC K C N/\XA K N f/\H1 dx=some (zd dx fs)/\fs.lookup f=some v/\Q v H1
theorem LA{e:Expr}{f:Str}{pos:Pos}{ta:TE}(he:PE X e ta)(hb:attributeBase e f X.env (eval e X.env)=eval e X.env):PE X (.Attribute e f pos) (Sv X.K ta f):=by
 intro pins s σ H Q I h;refine xD hb (dB (he pins s σ H _ I h) λu s1 ⟨x,H1,I1,rx,ea,C,N,dx,fs,v,ex,e1,T,n,ed,l,q⟩=>?_);subst ex;obtain rfl:u=Value.ref ea:=rx;exact Lz I1 e1 T n ed l λu' s2 I2 ru=>⟨v,H1,I2,ru,q⟩
theorem zW{o value:Expr}{f:Str}{pos pos':Pos}{ta tv:TE}(ha:PE X o ta)(hv:PE X value tv)(hs:swapsWith value (some (.Attribute o f pos')) pos.line X.env=pure false):PS X (.Assign [.Attribute o f pos'] value pos) (Pd X.K ta tv f):=by
 intro pins s σ H D I h;refine plainObj_wpAny_Assign_Attribute (dB (hv pins s σ H _ I h) λu s1 ⟨y,H1,I1,ry,q⟩=>dB (ha pins s1 σ H1 _ I1 q) λov s2 ⟨x,H2,I2,rx,ea,C,N,ex,e1,T,n,q2⟩=>?_) hs;subst ex;obtain rfl:ov=Value.ref ea:=rx;exact Iw I2 e1 T n ry λdx s3 hn I3=>⟨σ,_,I3,q2 dx hn⟩
theorem LB{o value:Expr}{f:Str}{pos pos':Pos}{ta tv:TE}(ha:PE X o ta)(hv:PE X value tv)(hs:swapsWith value (some (.Attribute o f pos')) pos.line X.env=pure false):PS X (.Assign [.Attribute o f pos'] value pos) (Su X.K ta tv f):=by
 intro pins s σ H D I h;refine plainObj_wpAny_Assign_Attribute (dB (hv pins s σ H _ I h) λu s1 ⟨y,H1,I1,ry,q⟩=>dB (ha pins s1 σ H1 _ I1 q) λov s2 ⟨x,H2,I2,rx,ea,C,N,dx,fs,ex,e1,T,n,ed,hl,vq,q2⟩=>?_) hs;subst ex;obtain rfl:ov=Value.ref ea:=rx;exact Ly I2 e1 T n ed hl vq ry λs3 I3=>⟨σ,_,I3,q2⟩
end
abbrev Cx.lP(X:Cx)(e:Value):Cx:={X with A:=X.A.mark (some e),gB:=false,xe:=λ_ _=>False}
abbrev Cx.tr(X:Cx)(pn:List (Addr×Obj))(E:Value->Shared->Prop):Cx:={X with pn:=X.pn++pn,xe:=E}
section
variable{X:Cx}{pins pn:List (Addr×Obj)}{σ:St}{H:Hp}{s:Shared}{e:Value}{E:Value->Shared->Prop}
theorem Inv.mark(I:Inv X pins σ H s)(e:Value):Inv (X.lP e) pins σ H s :=
 ⟨⟨I.ok.mod,I.ok.kind,I.ok.mK,I.ok.E9,I.ok.above,I.ok.inj,I.ok.has,I.ok.Hq,(λz=>by cases z),I.ok.frames,I.ok.Hr,I.ok.Ky,I.ok.bs,I.ok.BC,I.ok.mL,I.ok.tw,I.ok.lu,I.ok.Fa⟩,I.os,I.fF,I.base,I.loc,I.cell,I.free,I.fT,I.fw,I.hok,I.len⟩
theorem Inv.jV(ok:X.Ok)(I:Inv (X.lP e) pins σ H s):Inv X pins σ H s:=⟨ok,I.os,I.fF,I.base,I.loc,I.cell,I.free,I.fT,I.fw,I.hok,I.len⟩
theorem Inv.tr(I:Inv X pins σ H s)(E:Value->Shared->Prop):Inv (X.tr pins E) [] σ H s :=
 ⟨⟨I.ok.mod,I.ok.kind,I.ok.mK,I.ok.E9,I.ok.above,I.ok.inj,I.ok.has,I.ok.Hq,I.ok.hd,I.ok.frames,I.ok.Hr,I.ok.Ky,I.ok.bs,I.ok.BC,I.ok.mL,I.ok.tw,I.ok.lu,I.ok.Fa⟩,I.os,I.fF,I.base,I.loc,I.cell,I.free,I.fT,λp hp=>I.fw p (by simpa using hp),I.hok,I.len⟩
theorem Inv.tR(ok:X.Ok)(I:Inv (X.tr pn E) pins σ H s):Inv X pn σ H s :=
 ⟨ok,I.os,I.fF,I.base,I.loc,I.cell,I.free,I.fT,λp hp=>I.fw p (List.mem_append_left _ hp),I.hok,I.len⟩
theorem SP.jV{D:cT}{f:Flow}(ok:X.Ok)(h:SP (X.lP e) pins D f s):SP X pins D f s:=by
 cases f with
 |next=>obtain⟨σ',H',I,q⟩:=h;exact⟨σ',H',I.jV ok,q⟩
 |brk=>obtain⟨σ',H',I,q⟩:=h;exact⟨σ',H',I.jV ok,q⟩
 |cont=>obtain⟨σ',H',I,q⟩:=h;exact⟨σ',H',I.jV ok,q⟩
 |ret u=>obtain⟨v,σ',H',I,r,q⟩:=h;exact⟨v,σ',H',I.jV ok,r,q⟩
theorem SP.tR{D:cT}{f:Flow}(ok:X.Ok)(h:SP (X.tr pn E) [] D f s):SP X pn D f s:=by
 cases f with
 |next=>obtain⟨σ',H',I,q⟩:=h;exact⟨σ',H',I.tR ok,q⟩
 |brk=>obtain⟨σ',H',I,q⟩:=h;exact⟨σ',H',I.tR ok,q⟩
 |cont=>obtain⟨σ',H',I,q⟩:=h;exact⟨σ',H',I.tR ok,q⟩
 |ret u=>obtain⟨v,σ',H',I,r,q⟩:=h;exact⟨v,σ',H',I.tR ok,r,q⟩
theorem Inv.LC{σ':St}{h':Heap}{m':Str->Option Value}{t':Nat}(I:Inv X pins σ H s)(Fe:h'.Ns X.env.locals m')(hs:Heap.SameBut X.env.locals s.heap h')
  (hl:∀(i:Nat) (x:Str) (v:V),X.N[i]?=some x->σ'[i]?=some (some v)->uZ X.env.scope x->∃u,cz v u/\RA X.env h' m' x u)(hlen:σ'.length=σ.length):Inv X pins σ' H {s with heap:=h',toks:=t'}:=by
 have QV:∀b o,X.tq.heap.get? b=some o->b≠X.env.locals:=λb o e=>Nat.ne_of_lt (Nat.lt_of_lt_of_le (Heap.lt_size e) I.ok.above);refine⟨I.ok,I.os,I.fF,⟨λb o e n hb hx=>?_,λb o e n hb hx=>?_,I.base.free,λb o e hx=>?_,I.base.oj,I.base.ni,I.base.om⟩,⟨m',Fe,hl⟩,λx c e=>?_,I.free,I.fT,λp hp=>?_,λb ob e=>?_,hlen.trans I.len⟩
 ·exact(hs.2 b (QV b o e)).trans (I.base.keep b o e n hb hx)
 ·obtain⟨sl,e1⟩:=I.base.slot b o e n hb hx;exact⟨sl,(hs.2 b (QV b o e)).trans e1⟩
 ·obtain⟨o',e1⟩:=I.base.there b o e hx;exact⟨o',(hs.2 b (QV b o e)).trans e1⟩
 ·obtain⟨w',z⟩:=I.cell x c e;exact⟨w',z.sameBut hs (I.KQ x c e)⟩
 ·obtain⟨e,n,ne,nf,d⟩:=I.fw p hp;exact⟨(hs.2 p.1 ne).trans e,n,ne,nf,d⟩
 ·refine(I.hok b ob e).rN (λc w' hc q=>(hs.2 c ?_).trans q) (λ_ q=>q) λ_ _ q=>q;rintro rfl;rcases hc with z |z
  ·rw[<-z,I.free] at e;cases e
  ·rw[I.free] at z;cases z
theorem FK{M:Model}{A:Around}{E:Value->Shared->Prop}{i:Nat}{n:Str}{pos:Pos}{Q:Unit->Shared->Prop}(I:Inv X pins σ H s)(hN:X.N.Nodup)(hi:X.N[i]?=some n)(hk:X.env.scope.names.lookup n=some .local)
  (h:∀s',Inv X pins (σ.set i none) H s'->Q () s'):wpAny M A (do bindName X.env n .none;unbindBehindTheSuite X.env n pos) Q E s:=by
 have Ou:(X.env.scope.kind == .class || (X.env.scope.kind == .module && X.env.locals != X.env.globals))=false:=by rw[I.ok.kind];rfl
 have hiσ:i<σ.length:=by rw[I.len];exact(List.getElem?_eq_some_iff.mp hi).1
 refine wpAny_bind (wpAny_bindName (lF (v:=.dH) (u:=.none) I hN hi (.inl hk) rfl (λs1 I1=>?_) (.inr hk)));obtain⟨m,hn,hl⟩:=I1.loc;obtain⟨u,ru,lk⟩:=hl i n .dH hi (by rw[List.getElem?_set_self hiσ]) (.inl hk);have hv:m n=some u:=by
  rcases lk with ⟨_,z⟩ |⟨z,_⟩
  ·exact z
  ·exfalso;have Lf:X.env.kindOf n=some .local:=hk;rw[Lf] at z;rcases z with z |z <;> cases z
 unfold unbindBehindTheSuite;refine wpAny_onRaise (wpAny_unbindName_local hk hn hv Ou λh2 w K2 Hl=>h {s1 with heap:=h2} ?_);refine I1.LC (t':=s1.toks) K2 Hl (λj y v' e1 e2 e3=>?_) (by simp);have hj:j≠i:=λz=>by
  rw[z,List.getElem?_set_self hiσ] at e2;cases e2
 rw[List.getElem?_set_ne (Ne.symm hj)] at e2;obtain⟨u',r',q⟩:=hl j y v' e1 (by rw[List.getElem?_set_ne (Ne.symm hj)];exact e2) e3;refine⟨u',r',?_⟩;have ny:y≠n:=λz=>hj (oB hN e1 (z ▸ hi));rcases q with ⟨k,z⟩ |⟨k,c,z,w2⟩
 ·exact .inl ⟨k,by simp [ny,z]⟩
 ·exact .inr ⟨k,c,z,w2.sameBut Hl (I1.KQ y c z)⟩
end
abbrev TH:=Addr->Option Addr->Addr->cT->St->Hp->Prop
def NM(X:Cx)(hs:List ExceptHandler)(th:TH):Prop:=∀(pins:List (Addr×Obj)) (s:Shared) (σ:St) (H:Hp) (D:cT) (ea C N:Addr) (dx:Option Addr) (g0:Heap) (n0:Nat),Inv X pins σ H s->ko X g0 n0 s.heap->(∀p∈pins,dR g0 p.1) ->
 Bw g0 n0 H s.heap ea C dx->XC X.K C N->th C dx ea D σ H->wpAny (model X.prog X.w) X.A (handleBy (.ref ea) X.env hs) (SP X pins D) X.xe s
theorem BY{X:Cx}:NM X [] (λ_ _ _ _ _ _=>False):=λ_ _ _ _ _ _ _ _ _ _ _ _ _ _ _ _ z=>z.elim
theorem Inv.BZ{X:Cx}{pins:List (Addr×Obj)}{σ:St}{H:Hp}{s:Shared}{g0:Heap}{n0:Nat}{ea C:Addr}{dx:Option Addr}{A:Around}{E:Value->Shared->Prop}{Q:Unit->Shared->Prop}{fr:Option Addr}(I:Inv X pins σ H s)(S:ko X g0 n0 s.heap)(hp:∀p∈pins,dR g0 p.1)
  (F:Bw g0 n0 H s.heap ea C dx)(h:∀h',Inv X pins σ H {s with heap:=h'}->ko X g0 n0 h'->Bw g0 n0 H h' ea C dx->Q () {s with heap:=h'}):wpAny (model X.prog X.w) A (setFlight (.ref ea) fr) Q E s:=by
 refine Fx.qe (fs:=tu X.stack) (Fx.qf I.stack) F.on fr λh' N F'=>?_;have F2:Bw g0 n0 H h' ea C dx:=⟨F.new,F.at_,F'⟩
 exact h h' (I.Lu S hp F.new N F2) ⟨λb z=>let ⟨o,e⟩:=S.O8 b z;N.there b o e,S.lt,Nat.le_trans S.sz N.sz,S.FD,S.loc,S.pn,S.ex,S.NL⟩ F2
section
variable{X:Cx}{x n:Str}{np pos:Pos}{C1 N1:Addr}{b0:Stmt}{oN:List Stmt}{rest:List ExceptHandler}{ts:TS}{th:TH}
theorem D9{pins:List (Addr×Obj)}{s:Shared}{σ:St}{H:Hp}{ea C N:Addr}{dx:Option Addr}{g0:Heap}{n0:Nat}{R:Result->Shared->Prop}(hg:Gl X x)(hm:X.mg x=some (.ref C1))(T1:XC X.K C1 N1)(hd:(x == ("__debug__":Str))=false)
  (I:Inv X pins σ H s)(F:Bw g0 n0 H s.heap ea C dx)(T:XC X.K C N)(h:R (.ok (if decide (C=C1)=true then .brk else .next)) s) :
  codeAny (model X.prog X.w) (X.A.mark (some (.ref ea))) (.handlers (.ref ea) [.ExceptHandler (some (.Name x np)) none [] pos] X.env) R s:=by
 obtain⟨nm,q,bs,sn,sub,ab,col,dd,k0,k1,k2,k3,k5,lk⟩:=T.obj;obtain⟨X9,q',bs',sn',ZT,ab',ZU,Sj,k0',k1',k2',k3',k5',ZV⟩:=T1.obj;obtain⟨oe,vs,he,hc,_⟩:=F.on;have I2:=I.mark (.ref ea);refine codeAny_handlers_test (kL (X:=X.lP (.ref ea)) I2 hg hm ?_ hd);obtain⟨hh,g,d,t,os⟩:=s;exact Fx.FE (I.je _ _ lk) (I.je _ _ ZV) he hc h
def Sw(C1:Addr)(ts:TS)(th:TH):TH:=λC dx ea D σ H=>if C=C1 then ts D σ H else th C dx ea D σ H
theorem Ea(hg:Gl X x)(hm:X.mg x=some (.ref C1))(T1:XC X.K C1 N1)(V2:∀e,vV (X.lP e) (b0::oN) ts)(hr:NM X rest th)(hd:(x == ("__debug__":Str))=false:=by decide) :
  NM X (.ExceptHandler (some (.Name x np)) none (b0::oN) pos::rest) (Sw C1 ts th):=by
 intro pins s σ H D ea C N dx g0 n0 I S hp F T h;refine wpAny_handleBy_cons (D9 hg hm T1 hd I F T ?_) (by intro z;cases z)
 by_cases c:C=C1
 ·rw[decide_eq_true c,if_pos rfl];have h':ts D σ H:=by
   have h2:(if C=C1 then ts D σ H else th C dx ea D σ H):=h;rw[if_pos c] at h2;exact h2
  refine codeAny_handlers_suite (I.BZ S hp F λh1 I1 S1 F1=>?_);exact wpAny_mono (V2 (.ref ea) pins _ σ H D (I1.mark _) h') (λf s2 q=>q.jV I.ok) λ_ _ z=>False.elim z
 ·rw[decide_eq_false c,if_neg d_];have h':th C dx ea D σ H:=by
   have h2:(if C=C1 then ts D σ H else th C dx ea D σ H):=h;rw[if_neg c] at h2;exact h2
  exact hr pins s σ H D ea C N dx g0 n0 I S hp F T h'
def cT.Ec(D:cT)(i:Nat):cT:={nx:=λσ H=>D.nx (σ.set i none) H,rt:=D.rt,bk:=λσ H=>D.bk (σ.set i none) H,ct:=λσ H=>D.ct (σ.set i none) H}
def LD(C1:Addr)(i:Nat)(ts:TS)(th:TH):TH:=λC dx ea D σ H=>if C=C1 then ts (D.Ec i) (σ.set i (some (.ref ea))) H else th C dx ea D σ H
theorem qA{i:Nat}(hg:Gl X x)(hm:X.mg x=some (.ref C1))(T1:XC X.K C1 N1)(hN:X.N.Nodup)(hi:X.N[i]?=some n)(hk:X.env.scope.names.lookup n=some .local)(V2:∀e,vV (X.lP e) (b0::oN) ts)(hr:NM X rest th)(hd:(x == ("__debug__":Str))=false:=by decide) :
  NM X (.ExceptHandler (some (.Name x np)) (some n) (b0::oN) pos::rest) (LD C1 i ts th):=by
 intro pins s σ H D ea C N dx g0 n0 I S hp F T h;refine wpAny_handleBy_cons (D9 hg hm T1 hd I F T ?_) (by intro z;cases z)
 by_cases c:C=C1
 ·rw[decide_eq_true c,if_pos rfl];have h':ts (D.Ec i) (σ.set i (some (.ref ea))) H:=by
   have h2:(if C=C1 then ts (D.Ec i) (σ.set i (some (.ref ea))) H else th C dx ea D σ H):=h;rw[if_pos c] at h2;exact h2
  refine codeAny_handlers_suite_as (I.BZ S hp F λh1 I1 S1 F1=>?_);refine lF (v:=.ref ea) I1 hN hi (.inl hk) rfl (λs2 I2=>?_) (.inr hk);refine wpAny_mono (V2 (.ref ea) pins _ _ H _ (I2.mark _) h') (λf s3 q=>?_) λ_ _ z=>False.elim z;have fin:∀{σ':St} {H':Hp},Inv X pins σ' H' s3->(∀s4,Inv X pins (σ'.set i none) H' s4->SP X pins D f s4)->wpAny (model X.prog X.w) X.A (do bindName X.env n .none;unbindBehindTheSuite X.env n pos) (λ_ s4=>SP X pins D f s4) X.xe s3:=λI3 k=>FK I3 hN hi hk k;cases f with
  |next=>obtain⟨σ',H',J,q⟩:=q;exact fin (J.jV I.ok) λs4 I4=>⟨_,_,I4,q⟩
  |brk=>obtain⟨σ',H',J,q⟩:=q;exact fin (J.jV I.ok) λs4 I4=>⟨_,_,I4,q⟩
  |cont=>obtain⟨σ',H',J,q⟩:=q;exact fin (J.jV I.ok) λs4 I4=>⟨_,_,I4,q⟩
  |ret u=>obtain⟨v,σ',H',J,r,q⟩:=q;exact fin (J.jV I.ok) λs4 I4=>⟨v,_,_,I4,r,q⟩
 ·rw[decide_eq_false c,if_neg d_];have h':th C dx ea D σ H:=by
   have h2:(if C=C1 then ts (D.Ec i) (σ.set i (some (.ref ea))) H else th C dx ea D σ H):=h;rw[if_neg c] at h2;exact h2
  exact hr pins s σ H D ea C N dx g0 n0 I S hp F T h'
end
def B0(X:Cx)(Z:St->Prop)(E:XK):Prop:=∀(pins:List (Addr×Obj)) (σ:St) (H:Hp) (s:Shared) (ea C:Addr) (dx:Option Addr) (g0:Heap) (n0:Nat),Z σ->Inv X pins σ H s->ko X g0 n0 s.heap->Bw g0 n0 H s.heap ea C dx->E (.ref C) dx H->X.xe (.ref ea) s
theorem B0.B3{X:Cx}{E:XK}(T:B0 X (λ_=>True) E):iF X E:=λpins σ H s ea C dx g0 n0 I S F q=>T pins σ H s ea C dx g0 n0 trivial I S F q
def V3(K:Frag)(Eb:XK)(σh:St->St)(tb:St->TS)(th:TH):TS:=λD σ H =>
 (∀C dx H',Eb (.ref C) dx H'->∃N,XC K C N/\∀ea,H' ea=some (lv ea C dx)->th C dx ea D (σh σ) H')/\tb σ D σ H
theorem Ix{X:Cx}{body:List Stmt}{h0:ExceptHandler}{hs:List ExceptHandler}{pos:Pos}{Eb:XK}{Z:St->St->Prop}{σh:St->St}{tb:St->TS}{th:TH}(zX:X.stack=X.env::X.ai/\X.env.frame=some X.env.locals)(hex:X.ex=[])
  (hz:∀σ σ',Z σ σ'->σ'.length=X.N.length->(σh σ).length=σ'.length/\∀(i:Nat) (v:V),(σh σ)[i]?=some (some v)->σ'[i]?=some (some v))
  (hb:∀(pn:List (Addr×Obj)) (xe:Value->Shared->Prop) (σ:St),B0 (X.tr pn xe) (Z σ) Eb->PassesOwn (model X.prog X.w) X.A X.env xe->vV (X.tr pn xe) body (tb σ))(hh:NM X (h0::hs) th) :
  PS X (.Try body (h0::hs) [] [] pos) (V3 X.K Eb σh tb th):=by
 intro pins s σ H D I h;obtain⟨he,Sx⟩:=h;refine wpAny_Try_except ?_;have B3:B0 (X.tr pins λe s1=>wpAny (model X.prog X.w) X.A (noteFrame e X.env) (λ_ s2=>wpAny (model X.prog X.w) X.A (setFlight e none) (λ_ s3=>wpAny (model X.prog X.w) X.A (handleBy e X.env (h0::hs)) (SP X pins D) X.xe s3) X.xe s2) X.xe s1) (Z σ) Eb:=by
  intro vT σ' H' s' ea C dx g0 n0 z I' S F q;have I2:Inv X pins σ' H' s':=I'.tR I.ok;obtain⟨Pe,OW⟩:=hz σ σ' z I2.len;have I3:Inv X pins (σh σ) H' s':=I2.RC Pe OW;have S2:ko X g0 n0 s'.heap:=⟨S.O8,S.lt,S.sz,S.FD,S.loc,λp hp=>S.pn p (List.mem_append_left _ hp),S.ex,S.NL⟩
  have hp:∀p∈pins,dR g0 p.1:=λp hq=>S.pn p (List.mem_append_right _ hq);obtain⟨N,T,ZW⟩:=he C dx H' q;show wpAny _ _ (noteFrame (.ref ea) X.env) _ _ _;have rV:X.A.frames=some (X.env::X.ai):=by rw[I.ok.frames,zX.1]
  have j9:=I3.stack;rw[zX.1] at j9;refine Fx.DL (base:=X.base) rV j9 zX.2 (Pn.lt I3.hok S2.sz) F.on λh1 N1 F1=>?_;have UE:Fx.Nt (tu X.stack) (Pn n0 H' ea) s'.heap h1:=by rw[zX.1];exact N1
  have F2:Bw g0 n0 H' h1 ea C dx:=⟨F.new,F.at_,F1⟩
  have I4:=I3.Lu S2 hp F.new UE F2;have S4:ko X g0 n0 h1:=⟨λb y=>let ⟨o,e⟩:=S2.O8 b y;N1.there b o e,S2.lt,Nat.le_trans S2.sz N1.sz,S2.FD,S2.loc,S2.pn,S2.ex,S2.NL⟩
  refine I4.BZ S4 hp F2 λh2 I5 S5 F5=>?_;exact hh pins _ (σh σ) H' D ea C N dx g0 n0 I5 S5 hp F5 T (ZW ea F.at_)
 refine wpAny_mono (hb pins _ σ B3 PassesOwn.looking [] s σ H D (I.tr _) Sx) (λf s1 q=>?_) λe s1 q=>q;cases f with
 |next =>
  obtain⟨σ',H',J,q⟩:=q;exact wpAny_execs_nil ⟨σ',H',J.tR I.ok,q⟩
 |brk=>exact SP.tR I.ok q
 |cont=>exact SP.tR I.ok q
 |ret u=>exact SP.tR I.ok q
section
variable{P:Program}{w:World}{K:Frag}{mg:Str->Option Value}{base:Heap}
abbrev lw(P:Program)(w:World)(K:Frag)(mg:Str->Option Value)(base:Heap)(N:List Str)(qual:Str)(scope:Scope)(f:Addr)(cd:Value)(A:Around)(ai:List Env)(s:Shared)(H:Hp)(E:XK):Cx :=
 BR (rh P w) P w K mg base N qual scope f cd A ai s H E
theorem rg.Q7{x qual:Str}{st:Stmt}{f:Addr}{fd:FuncData}{N ps:List Str}{k:Nat}{sp:Sp}(F:rg K x qual st f fd)(S:dQ N ps (ax st))(len:∀vs H Q E,sp vs H Q E->vs.length=ps.length)
  (jg:∀(bL:Value) (A:Around) (ai:List Env) (s:Shared) (H:Hp) (vs:List V) (Q:VK) (E:XK) (X:Cx),X=lw P w K mg base N qual (ax st) f bL A ai s H E->cx k X.A->iF X E->PassesOwn (model P w) X.A X.env X.xe->sp vs H Q E ->
   ∃t,vV X (cq st) t/\t {nx:=λ_ H'=>Q .dH H',rt:=Q} (start N vs) H):g5 P w K mg base (rh P w) (k+1) f fd ps sp:=by
 obtain⟨oc,od,kV,doc,pm,an,bL,ct,tH,rfl,lk,lA⟩:=F.ex;exact NH lk lA S len λA ai s H vs Q E hr pW=>jg bL A ai s H vs Q E _ rfl hr Ik PassesOwn.leaving pW
theorem rg.KC{x qual:Str}{st:Stmt}{f:Addr}{fd:FuncData}{N ps:List Str}{k:Nat}{sp:Sp}(F:rg K x qual st f fd)(S:dQ N ps (ax st))(len:∀vs H Q E,sp vs H Q E->vs.length=ps.length)
  (jg:∀(bL:Value) (A:Around) (ai:List Env) (s:Shared) (H:Hp) (vs:List V) (Q:VK) (E:XK),cx k (A.deeper (envOfC qual (ax st) s.heap.objs.size f bL))->sp vs H Q E ->
   ∃t,vV (lw P w K mg base N qual (ax st) f bL A ai s H E).NA (cq st) t/\t {nx:=λ_ H'=>Q .dH H',rt:=Q} (start N vs) H):g5 P w K mg base (rh P w) (k+1) f fd ps sp:=by
 obtain⟨oc,od,kV,doc,pm,an,bL,ct,tH,rfl,lk,lA⟩:=F.ex;refine NH lk lA S len λA ai s H vs Q E hr pW=>?_;obtain⟨t,h,q⟩:=jg bL A ai s H vs Q E hr pW;exact⟨t,h.NA,q⟩
end
theorem zY{X:Cx}{P:Program}{w:World}:kP (rh P w) X E0:=λ_ _ _ _ _ _ _ h=>by
 obtain⟨_,_,_,_,_,_,_,_,_,_,_,_,_,z⟩:=h;exact z.elim
def Pf(Z:St->Prop)(sp:Sp)(pV:List V)(E:XK)(t:TA):TE:=λσ H Q=>Z σ/\t σ H λvs H1=>sp (vs++pV) H1 Q E
theorem zZ{X:Cx}{k:Nat}{f:Addr}{fd:FuncData}{ps:List Str}{sp:Sp}{pV:List V}{ds:List Value}{E:XK}{Z:St->Prop}{x:Str}{p pos:Pos}{e:Expr}{es:List Expr}{t:TA}
  (F:g5 X.prog X.w X.K X.mg X.base (rh X.prog X.w) k f fd ps sp)(hr:cx k X.A)(hg:Gl X x)(hm:X.mg x=some (.ref f))(hk:keepIn X.K (.ref f)=true)(hb:fG X.K fd ps ds)(hd:cC pV ds)(hx:B0 X Z E)(hex:X.ex=[])
  (ha:PA X (e::es) t)(kf:(x == ("__debug__":Str))=false:=by decide)(he:starEach (e::es) X.env=(false,eval e X.env)::starEach es X.env:=by rfl)(d9:(backTo pos (starEach es X.env)).any (·.1)=false:=by rfl) :
  PE X (.Call (.Name x p) (e::es) [] pos) (Pf Z sp pV E t):=by
 intro pins s σ H Q I h;obtain⟨hz,h⟩:=h;refine wpAny_Call_Name_kw (kL I hg hm ?_ kf);refine PySem.W.callWith_K (h₀:=X.base) I.ok.mod.Oq hk (dB (ha pos pins s σ H _ I h) λus s1 ⟨vs,H1,I1,r,q⟩=>⟨I1.je,?_⟩) he d9;have r2:cC (vs++pV) (us++ds):=r.append hd;have hl:(us++ds).length=ps.length:=by rw[<-r2.length];exact F.len _ _ _ _ q
 refine wpAny_call (codeAny_mono (F.run X.A X.stack s1 H1 ⟨us,[]⟩ (us++ds) (vs++pV) Q E hr I1.K7 (hb s1 us I1.je hl) r2 q) λrr s' hq=>?_);cases rr with
 |error e =>
  obtain⟨ea,C,dx,H',n0,rfl,os,fF,un,hok,fS,hsz,F',q'⟩:=hq;have I2:Inv X pins σ H' s':=I1.zp (ch:=[]) os un hok fF (λb z=>absurd z (by simp));exact hx pins σ H' s' ea C dx s1.heap n0 hz I2 (I1.zQ (mL hex) (λb ⟨o,z⟩=>un.there b o z (by simp)) fS hsz) F' q'
 |ok fl =>
  cases fl with
  |ret u=>exact I1.after hq
  |next=>exact False.elim hq
  |brk=>exact False.elim hq
  |cont=>exact False.elim hq
def NO(i j:Int):Prop:=∃m n:Nat,i.natAbs<2^m/\j.natAbs<2^n/\m+n<=134217728
section
variable{X:Cx}
theorem cF:mi X (binaryOp .Mult) (rI NO λi j=>.int (i*j)):=UB λ_ _ _ _ _ _ _ hc q=>by
 obtain⟨m,n,h1,h2,h3⟩:=hc;exact PyProof.Rows.mul_int q (IntMulOk.of_le (intBits_le_iff.mpr h1) (intBits_le_iff.mpr h2) h3)
structure Bs(h:Heap):Prop where
 seer:h.NoSeer
 Ph:h.NoDigits
theorem gF(S:Bs X.base)(ht:X.prog.given.tree=none)(j9:X.stack=X.env::X.ai)(hd:X.A.depth+100<recursionLimit)(hg:X.env.scope.isGenerator=false:=by rfl)(ZX:X.env.scope.isCoroutine=false:=by rfl) :
  mi X (binaryOp .FloorDiv) (rI (λ_ j=>j≠0) λi j=>.int (i.fdiv j)):=by
 intro pins s σ H x y v u Q I rx ry h;obtain⟨i,j,rfl,rfl,hc,q⟩:=h;obtain⟨t,rfl⟩:=rx;obtain⟨t',rfl⟩:=ry;refine floordiv_int hc ⟨.int (i.fdiv j),H,I.tok _,⟨_,rfl⟩,q⟩ (.inr (PylongRoom.of I.nolimit hd ?_));exact SeerAt.of (env:=X.env) (l:=X.ai) (S.seer.keeps I.bk) ht (by rw[I.ok.frames,j9]) hg ZX I.ok.E9 I.ok.mK
def NP(i j:Int):Prop:=0<=j/\∃m:Nat,i.natAbs<2^m/\(m:Int)+j<=2^27
theorem xM:mi X (binaryOp .LShift) (rI NP λi j=>.int (i*2^j.toNat)):=UB λi j _ _ _ _ _ hc q=>by
 obtain⟨h0,m,h1,h2⟩:=hc;exact PyProof.Rows.lshift_int h0 (by have:=intBits_le_iff.mpr h1;omega) q
theorem FL(hc:X.gB=true):lh X (.builtin "min") (λxs H Q=>∃(l:Addr) (ns:List Int),xs=[.ref l]/\nZ X.K H l (ns.map V.int)/\0<ns.length/\∀M,M∈ns->(∀a∈ns,M<=a)->Q (.int M) H):=by
 intro pins s σ H xs us Q I r h;obtain⟨l,ns,rfl,hq,hn,q⟩:=h;obtain⟨u,rfl,rx⟩:=mR r;cases rx;obtain⟨cp,r',pl,hz⟩:=I.list hq;have hi:=tI r';have hl:=pl.isList;obtain⟨xs,e⟩:=hi.allInts.items;have Bx:ns=xs.toList.map (·.1):=by
  rw[<-hi.numsOf,<-nums_intItems,<-e]
 have hsz:0<xs.size:=by
  have h3:=hn;rw[Bx,List.length_map,Array.length_toList] at h3;exact h3
 rw[e] at hl;refine min_intList (I.ok.hd hc) hl hsz λv h' tk hv hk=>?_;obtain⟨t,rfl⟩:=intItems_at hv;obtain⟨h1,h2⟩:=argBest_lt (numAt xs) (xs.size - 1);refine⟨.int _,H,I.jd hk,⟨t,rfl⟩,q _ ?_ λa ha=>?_⟩
 ·rw[Bx,numAt_eq];exact getD_mem (by rw[List.length_map,Array.length_toList];omega)
 ·rw[Bx] at ha;obtain⟨j,hj,rfl⟩:=mem_getD ha;rw[List.length_map,Array.length_toList] at hj;rw[<-numAt_eq];exact h2 j o_
theorem FM(hc:X.gB=true):lh X (.builtin "max") (λxs H Q=>∃(l:Addr) (ns:List Int),xs=[.ref l]/\nZ X.K H l (ns.map V.int)/\0<ns.length/\∀M,M∈ns->(∀a∈ns,a<=M)->Q (.int M) H):=by
 intro pins s σ H xs us Q I r h;obtain⟨l,ns,rfl,hq,hn,q⟩:=h;obtain⟨u,rfl,rx⟩:=mR r;cases rx;obtain⟨cp,r',pl,hz⟩:=I.list hq;have hi:=tI r';have hl:=pl.isList;obtain⟨xs,e⟩:=hi.allInts.items;have Bx:ns=xs.toList.map (·.1):=by
  rw[<-hi.numsOf,<-nums_intItems,<-e]
 have hsz:0<xs.size:=by
  have h3:=hn;rw[Bx,List.length_map,Array.length_toList] at h3;exact h3
 rw[e] at hl;refine max_intList (I.ok.hd hc) hl hsz λv h' tk hv hk=>?_;obtain⟨t,rfl⟩:=intItems_at hv;obtain⟨h1,h2⟩:=argBest_gt (numAt xs) (xs.size - 1);refine⟨.int _,H,I.jd hk,⟨t,rfl⟩,q _ ?_ λa ha=>?_⟩
 ·rw[Bx,numAt_eq];exact getD_mem (by rw[List.length_map,Array.length_toList];omega)
 ·rw[Bx] at ha;obtain⟨j,hj,rfl⟩:=mem_getD ha;rw[List.length_map,Array.length_toList] at hj;rw[<-numAt_eq];exact h2 j o_
theorem FN(hc:X.gB=true):lh X (.builtin "max") (λxs H Q=>∃(l:Addr) (i j:Int),xs=[.ref l]/\rZ X.K H l [.int i,.int j]/\Q (.int (if j > i then j else i)) H):=by
 intro pins s σ H xs us Q I r h;obtain⟨l,i,j,rfl,hq,q⟩:=h;obtain⟨u,rfl,rx⟩:=mR r;cases rx;obtain⟨cp,r',hT,hz⟩:=I.tuple hq;obtain⟨u,w',rfl,⟨t,rfl⟩,⟨t',rfl⟩⟩:=ND r';have hT:s.heap.IsTuple l (intItems #[(i,t),(j,t')]):=by
  have e:intItems #[(i,t),(j,t')]=[Value.int i t,Value.int j t'].toArray:=by simp [intItems]
  rw[e];exact hT
 refine call_max_walk (wpAny_pyIter_tuple hT ?_);have hl:l<s.heap.objs.size:=by obtain⟨o,e,_⟩:=hT;exact Heap.lt_size e
 refine⟨_,[_,l],[_],_,_,_,_,rfl,Walks.tuple (A:=X.A.in1) (I.ok.hd hc) _ l (Nat.ne_of_lt hl) (intItems #[(i,t),(j,t')]),
  ⟨⟨_,Heap.get?_push_size _ rfl,rfl,rfl⟩,hT.push _⟩,λc hc=>?_,by simp [intItems],CmpOf.ints_gt (numAt #[(i,t),(j,t')]) (λ_ _=>intItems_at),λv h' tk hP hk=>?_⟩
 ·show c<(s.heap.push _).objs.size;rw[Heap.size_push];rcases List.mem_cons.mp hc with rfl |hc
  ·exact Nat.lt_succ_self _
  ·rcases List.mem_cons.mp hc with rfl |hc
   ·exact Nat.lt_succ_of_lt hl
   ·cases hc
 ·have hold:∀c o,s.heap.get? c=some o->h'.get? c=some o:=λc o e=>by
   refine hk c o (λhm=>?_) (Heap.get?_push_of_some _ e);rcases List.mem_cons.mp hm with e1 |hm
   ·have:=Heap.lt_size e;rw[e1] at this;exact Nat.lt_irrefl _ this
   ·cases hm
  refine⟨_,H,I.jd hold,?_,q⟩;have UF:(intItems #[(i,t),(j,t')])[argBest (λx y=>decide (numAt #[(i,t),(j,t')] x > numAt #[(i,t),(j,t')] y)) 1]?=some v:=by
   have V4:(intItems #[(i,t),(j,t')]).size - 1=1:=by simp [intItems]
   rw[<-V4];exact hP
  by_cases UG:j > i
  ·have e:argBest (λx y=>decide (numAt #[(i,t),(j,t')] x > numAt #[(i,t),(j,t')] y)) 1=1:=by simp [argBest,numAt,UG]
   rw[e] at UF;rw[if_pos UG];exact⟨t',by simpa [intItems] using UF.symm⟩
  ·have e:argBest (λx y=>decide (numAt #[(i,t),(j,t')] x > numAt #[(i,t),(j,t')] y)) 1=0:=by simp [argBest,numAt,UG]
   rw[e] at UF;rw[if_neg UG];exact⟨t,by simpa [intItems] using UF.symm⟩
theorem vA(S:Bs X.base)(hc:X.gB=true):lh X (.type "str") (λxs H Q=>∃i:Int,xs=[.int i]/\i.natAbs<2^4096/\Q (.str (toString i)) H):=by
 intro pins s σ H xs us Q I r h;obtain⟨i,rfl,hz,q⟩:=h;obtain⟨u,rfl,t,rfl⟩:=mR r;have hb:(2:Nat)^4096<=10^4300:=Nat.le_trans (Nat.pow_le_pow_left (by decide:2<=10) 4096) (Nat.pow_le_pow_right d_ d_);refine str_of_int_or (I.ok.hd hc) (S.Ph.keeps I.bk) (λ_=>⟨.str _,H,I.tok _,⟨_,rfl⟩,q⟩) λh2=>absurd h2 o_
def Sy(to:TE):TE:=λσ H Q=>to σ H λx H1=>∃i:Int,x=.int i/\Q (.int (Builtin.Int.intBits i:Nat)) H1
theorem LF{o:Expr}{to:TE}{apos gE:Pos}(ho:PE X o to)(jC:attributeBase o "bit_length" X.env (eval o X.env)=eval o X.env:=by rfl)(jD:(apos.endLine == gE.line)=true:=by rfl) :
  PE X (.Call (.Attribute o "bit_length" apos) [] [] gE) (Sy to):=by
 intro pins s σ H Q I h;refine wpAny_Call_method0_late jC jD (dB (ho pins s σ H _ I h) λv s1 ⟨x,H1,I1,r1,i,hi,q1⟩=>?_);subst hi;obtain⟨t,rfl⟩:=r1;exact⟨"int","int.bit_length",F.plainAttrs_int,F.slot_int_bit_length,F.type_int_bit_length,typeIs_int _ _ _,(λ_ e=>nomatch e),Calls.callWith_builtin rfl (PySem.evalArgs_none (PyProof.Rows.call_int_bit_length ⟨.int _,H1,I1.tok _,⟨_,rfl⟩,q1⟩))⟩
def ZY(z:Str)(ta tb:TE):TE:=λσ H Q=>ta σ H λx H1=>∃i:Str,x=.str i/\i.length+z.length<=sizeLine/\tb σ H1 λy H2=>∃j:Str,y=.str j/\i.length+z.length+j.length<=sizeLine/\Q (.str (i++z++j)) H2
theorem Iy(x:Str):Str.empty++x=x:=by
 show Str.mk (#[]++x.cps)=x;rw[Array.empty_append]
theorem Sz{a b:Expr}{ta tb:TE}{z:Str}{k:Nat}{p1 p2 p3 pos:Pos}(ha:PE X a ta)(hb:PE X b tb) :
  PE X (.JoinedStr [.FormattedValue a (-1) none p1,.Constant (.str z) k p2,.FormattedValue b (-1) none p3] pos) (ZY z ta tb):=by
 intro pins s σ H Q I h;refine JoinedStr_many (joinParts_cons ?_);refine FormattedValue_plain (dB (ha pins s σ H _ I h) λv s1 ⟨x,H1,I1,r1,i,hi,hz,q1⟩=>?_);subst hi;obtain⟨t,rfl⟩:=r1;refine formatField_str (λt' tk=>?_) o_;refine⟨by rw[Iy];omega,?_⟩;rw[Iy];refine joinParts_cons (Calls.Constant_str ?_);refine⟨by rw[strLen_append];omega,?_⟩;refine joinParts_cons (FormattedValue_plain (dB (hb pins _ σ H1 _ ((I1.tok tk).tok _) q1) λv s2 ⟨y,H2,I2,r2,j,hj,Yb,q2⟩=>?_));subst hj;obtain⟨t2,rfl⟩:=r2;refine formatField_str (λt3 ZZ=>?_) o_;have hl:(i++z++j).length<=sizeLine:=by rw[strLen_append,strLen_append];omega
 refine⟨hl,joinParts_nil ⟨.str _,H2,(I2.tok ZZ).tok _,⟨_,rfl⟩,q2⟩ hl⟩
end
section
variable{X:Cx}{σ:St}{H:Hp}
def Ev(X:Cx)(e:Expr):TE:=λσ H Q=>∀(pins:List (Addr×Obj)) (s:Shared),Inv X pins σ H s->wpAny (model X.prog X.w) X.A (eval e X.env) (EP X pins σ Q) X.xe s
def Te(X:Cx)(e:Expr):TT:=λσ H Q=>∀(pins:List (Addr×Obj)) (s:Shared),Inv X pins σ H s->wpAny (model X.prog X.w) X.A (isTrue e X.env (eval e X.env)) (TP X pins σ Q) X.xe s
def Ar(X:Cx)(es:List Expr):TA:=λσ H Q=>∀(pos:Pos) (pins:List (Addr×Obj)) (s:Shared),Inv X pins σ H s->wpAny (model X.prog X.w) X.A (spliced (backTo pos (starEach es X.env))) (AP X pins σ Q) X.xe s
def Do(X:Cx)(ss:List Stmt):TS:=λD σ H=>∀(pins:List (Addr×Obj)) (s:Shared),Inv X pins σ H s->wpAny (model X.prog X.w) X.A (execs ss X.env) (SP X pins D) X.xe s
def jk(X:Cx)(st:Stmt):TS:=λD σ H=>∀(pins:List (Addr×Obj)) (s:Shared),Inv X pins σ H s->wpAny (model X.prog X.w) X.A (exec st X.env) (SP X pins D) X.xe s
theorem pE{e:Expr}:PE X e (Ev X e):=λpins s _ _ _ I h=>h pins s I
theorem pT{e:Expr}:PT X e (Te X e):=λpins s _ _ _ I h=>h pins s I
theorem pA{es:List Expr}:PA X es (Ar X es):=λpos pins s _ _ _ I h=>h pos pins s I
theorem pD{ss:List Stmt}:vV X ss (Do X ss):=λpins s _ _ _ I h=>h pins s I
theorem Z0{st:Stmt}:PS X st (jk X st):=λpins s _ _ _ I h=>h pins s I
theorem PE.ev{e:Expr}{t:TE}{Q:VK}(h:PE X e t)(q:t σ H Q):Ev X e σ H Q:=λpins s I=>h pins s σ H Q I q
theorem PT.te{e:Expr}{t:TT}{Q:Bool->Hp->Prop}(h:PT X e t)(q:t σ H Q):Te X e σ H Q:=λpins s I=>h pins s σ H Q I q
theorem PA.ar{es:List Expr}{t:TA}{Q:List V->Hp->Prop}(h:PA X es t)(q:t σ H Q):Ar X es σ H Q:=λpos pins s I=>h pos pins s σ H Q I q
theorem vV.do{ss:List Stmt}{t:TS}{D:cT}(h:vV X ss t)(q:t D σ H):Do X ss D σ H:=λpins s I=>h pins s σ H D I q
theorem PS.do{st:Stmt}{t:TS}{D:cT}(h:PS X st t)(q:t D σ H):jk X st D σ H:=λpins s I=>h pins s σ H D I q
theorem Ev.aw{e:Expr}{Q Q':VK}(h:Ev X e σ H Q)(k:∀v H',Q v H'->Q' v H'):Ev X e σ H Q':=λpins s I=>dB (h pins s I) λ_ _ ⟨v,H',I',r,q⟩=>⟨v,H',I',r,k v H' q⟩
theorem Te.aw{e:Expr}{Q Q':Bool->Hp->Prop}(h:Te X e σ H Q)(k:∀v H',Q v H'->Q' v H'):Te X e σ H Q':=λpins s I=>dB (h pins s I) λ_ _ ⟨H',I',q⟩=>⟨H',I',k _ H' q⟩
theorem Ar.aw{es:List Expr}{Q Q':List V->Hp->Prop}(h:Ar X es σ H Q)(k:∀v H',Q v H'->Q' v H'):Ar X es σ H Q':=λpos pins s I=>dB (h pos pins s I) λ_ _ ⟨v,H',I',r,q⟩=>⟨v,H',I',r,k v H' q⟩
theorem aJ{D:cT}(h:D.nx σ H):Do X [] D σ H:=KS.do h
theorem af{st:Stmt}{rest:List Stmt}{D:cT}(h:jk X st {D with nx:=Do X rest D} σ H):Do X (st::rest) D σ H:=(Hz Z0 pD).do h
theorem kR{e:Expr}{pos:Pos}{D:cT}(h:Ev X e σ H D.rt):jk X (.Return (some e) pos) D σ H:=(OE pE).do h
theorem NQ{c:Expr}{a b:List Stmt}{pos:Pos}{D:cT}(h:Te X c σ H λk H1=>if k=true then Do X a D σ H1 else Do X b D σ H1):jk X (.If c a b pos) D σ H:=(RN pT pD pD).do h
theorem eD{e:Expr}{pos:Pos}{D:cT}(h:Ev X e σ H λ_ H1=>D.nx σ H1)(hs:swapsWith e none pos.line X.env=pure false:=by rfl):jk X (.Expr e pos) D σ H:=(KU pE hs).do h
abbrev Rv:=V->Hp->Prop
def Mon(R:Rv):Prop:=∀v H H',aM H H'->R v H->R v H'
theorem sm{H:Hp}:aM H H:=λ_ _ h=>h
abbrev Vi(x:V):Rv:=λv _=>v=x
theorem Vi.ak(x:V):Mon (Vi x):=λ_ _ _ _ h=>h
def Yd(X:Cx)(σ:St)(H:Hp)(e:Expr)(R:Rv):Prop:=∀H1,aM H H1->Ev X e σ H1 λv H2=>aM H1 H2/\R v H2
theorem Yd.ev{e:Expr}{R:Rv}{Q:VK}(h:Yd X σ H e R)(k:∀v H',aM H H'->R v H'->Q v H'):Ev X e σ H Q:=(h H sm).aw λv H' ⟨s,r⟩=>k v H' s r
theorem Yd.au{e:Expr}{R:Rv}{H':Hp}(h:Yd X σ H e R)(s:aM H H'):Yd X σ H' e R:=λH1 s1=>h H1 (s.trans s1)
theorem Yd.imp{e:Expr}{R R':Rv}(h:Yd X σ H e R)(k:∀v H',R v H'->R' v H'):Yd X σ H e R':=λH1 s1=>(h H1 s1).aw λv H2 ⟨s,r⟩=>⟨s,k v H2 r⟩
theorem ae(i:Nat){v:V}{R:Rv}{x:Str}{pos:Pos}(hs:σ[i]?=some (some v))(hR:R v H)(hm:Mon R)(hN:X.N[i]?=some x:=by rfl)(hv:uZ X.env.scope x:=by first |exact Or.inl rfl |exact Or.inr (Or.inl rfl) |exact Or.inr (Or.inr rfl))(hd:(x == ("__debug__":Str))=false:=by decide)
  (lA:(x == ("__classdict__":Str))=false:=by decide):Yd X σ H (.Name x pos) R:=λH1 s1=>(gC hN hv hd lA).ev ⟨v,hs,sm,hm _ _ _ s1 hR⟩
theorem aH{i:Int}{j:Nat}{pos:Pos}:Yd X σ H (.Constant (.int i) j pos) (Vi (.int i)):=λ_ _=>Ov.ev ⟨sm,rfl⟩
theorem a8{i:Str}{j:Nat}{pos:Pos}:Yd X σ H (.Constant (.str i) j pos) (Vi (.str i)):=λ_ _=>Ow.ev ⟨sm,rfl⟩
theorem tS{j:Nat}{pos:Pos}:Yd X σ H (.Constant .none j pos) (Vi .dH):=λ_ _=>Ht.ev ⟨sm,rfl⟩
theorem LG{x:Str}{v:V}{u:Value}{pos:Pos}(hg:Gl X x)(hm:X.mg x=some u)(r:cz v u)(hd:(x == ("__debug__":Str))=false:=by decide):Yd X σ H (.Name x pos) (Vi v):=λ_ _=>(rY hg hm r hd).ev ⟨sm,rfl⟩
theorem cN{op:Operator}{C:Int->Int->Prop}{g:Int->Int->V}{a b:Expr}{i j:Int}{pos:Pos}(ho:mi X (binaryOp op) (rI C g))(ha:Yd X σ H a (Vi (.int i)))(hb:Yd X σ H b (Vi (.int j)))(hc:C i j):Yd X σ H (.BinOp a op b pos) (Vi (g i j)):=λH1 s1 =>
 (zt ho pE pE).ev ((ha H1 s1).aw λx H2 ⟨s2,e2⟩=>(hb H2 (s1.trans s2)).aw λy H3 ⟨s3,e3⟩=>⟨i,j,e2,e3,hc,s2.trans s3,rfl⟩)
theorem dw{op:Operator}{g:Int->Int->V}{a b:Expr}{i j:Int}{pos:Pos}(ho:mi X (binaryOp op) (Fm g))(ha:Yd X σ H a (Vi (.int i)))(hb:Yd X σ H b (Vi (.int j))):Yd X σ H (.BinOp a op b pos) (Vi (g i j)):=λH1 s1 =>
 (zt ho pE pE).ev ((ha H1 s1).aw λx H2 ⟨s2,e2⟩=>(hb H2 (s1.trans s2)).aw λy H3 ⟨s3,e3⟩=>⟨i,j,e2,e3,s2.trans s3,rfl⟩)
theorem jW{a:Expr}{i:Int}{pos:Pos}(ha:Yd X σ H a (Vi (.int i))):Yd X σ H (.UnaryOp .USub a pos) (Vi (.int (-i))):=λH1 s1 =>
 (RV OK pE).ev ((ha H1 s1).aw λx H2 ⟨s2,e2⟩=>⟨i,e2,s2,rfl⟩)
def gu(K:Frag)(R:Rv)(f:Str)(Rf:Rv):Prop:=∀v H,R v H->∃p C dx fs y,v=.ref p/\H p=some (.g9 C dx fs)/\ve K C/\gr K C f/\fs.lookup f=some y/\Rf y H
theorem aj{e:Expr}{f:Str}{R Rf:Rv}{pos:Pos}(hf:gu X.K R f Rf)(he:Yd X σ H e R)(hb:attributeBase e f X.env (eval e X.env)=eval e X.env:=by rfl):Yd X σ H (.Attribute e f pos) Rf:=λH1 s1 =>
 (OO pE hb).ev ((he H1 s1).aw λx H2 ⟨s2,r2⟩=>let ⟨p,C,dx,fs,y,e1,e2,c,n,l,q⟩:=hf x H2 r2;⟨p,C,dx,fs,y,e1,e2,c,n,l,s2,q⟩)
def iE:List Rv->List V->Hp->Prop
 |[],[],_=>True
 |R::Rs,v::vs,H=>R v H/\iE Rs vs H
 |_,_,_=>False
theorem iE.len:∀{Rs:List Rv} {vs:List V} {H:Hp},iE Rs vs H->vs.length=Rs.length
 |[],[],_,_=>rfl
 |_::_,_::_,_,h=>congrArg (·+1) (iE.len h.2)
 |[],_::_,_,h=>h.elim
 |_::_,[],_,h=>h.elim
def jl:List Rv->Prop
 |[]=>True
 |R::Rs=>Mon R/\jl Rs
theorem iE.au:∀{Rs:List Rv} {vs:List V} {H H':Hp},jl Rs->aM H H'->iE Rs vs H->iE Rs vs H'
 |[],[],_,_,_,_,_=>trivial
 |_::_,_::_,_,_,m,s,h=>⟨m.1 _ _ _ s h.1,iE.au m.2 s h.2⟩
 |[],_::_,_,_,_,_,h=>h.elim
 |_::_,[],_,_,_,_,h=>h.elim
def Ya(X:Cx)(σ:St)(H:Hp)(es:List Expr)(Rs:List Rv):Prop:=∀H1,aM H H1->Ar X es σ H1 λvs H2=>aM H1 H2/\iE Rs vs H2
theorem ag:Ya X σ H [] []:=λ_ _=>cV.ar ⟨sm,trivial⟩
theorem aa{e:Expr}{es:List Expr}{R:Rv}{Rs:List Rv}(he:Yd X σ H e R)(hm:Mon R)(hr:Ya X σ H es Rs)(hs:starEach (e::es) X.env=(false,eval e X.env)::starEach es X.env:=by rfl):Ya X σ H (e::es) (R::Rs):=λH1 s1 =>
 (bI pE pA hs).ar ((he H1 s1).aw λx H2 ⟨s2,r2⟩=>(hr H2 (s1.trans s2)).aw λxs H3 ⟨s3,r3⟩=>⟨s2.trans s3,hm _ _ _ s3 r2,r3⟩)
abbrev Ex:=Value->Option Addr->Hp->Prop
def pY(Rs:List Rv)(o:Except Ex Rv):Sp:=λvs H Q E=>iE Rs vs H/\match o with
 |.ok R=>∀v H',aM H H'->R v H'->Q v H'
 |.error x=>∀c d H',aM H H'->x c d H'->E c d H'
abbrev jx(Rs:List Rv)(R:Rv):Sp:=pY Rs (.ok R)
theorem pY.len{Rs:List Rv}{o:Except Ex Rv}{ps:List Str}(h:Rs.length=ps.length):∀vs H Q E,pY Rs o vs H Q E->vs.length=ps.length:=λ_ _ _ _ q=>q.1.len.trans h
theorem LH{k:Nat}{f:Addr}{fd:FuncData}{ps:List Str}{Rs:List Rv}{R:Rv}{P:Program}{w:World}{x:Str}{p pos:Pos}{e:Expr}{es:List Expr}(F:g5 X.prog X.w X.K X.mg X.base (rh P w) k f fd ps (jx Rs R))(hr:cx k X.A)(hg:Gl X x)(hm:X.mg x=some (.ref f))(hk:keepIn X.K (.ref f)=true)(hb:fG X.K fd ps [])
  (ha:Ya X σ H (e::es) Rs)(kf:(x == ("__debug__":Str))=false:=by decide)(he:starEach (e::es) X.env=(false,eval e X.env)::starEach es X.env:=by rfl)(d9:(backTo pos (starEach es X.env)).any (·.1)=false:=by rfl) :
  Yd X σ H (.Call (.Name x p) (e::es) [] pos) R:=λH1 s1 =>
 (jB F hr hg hm hk hb .nil zY pA kf he d9).ev ((ha H1 s1).aw λvs H2 ⟨s2,r2⟩=>by
  rw[List.append_nil];exact⟨r2,λv H' s3 r3=>⟨s2.trans s3,r3⟩⟩)
end
end L2
end
section
namespace L2
theorem v_{v}:Mon (Vi v):=Vi.ak v
end L2
namespace L2
open PySem PySem.Spec PyProof.Rows
open PySem.W (WData Codec OpenSpec Well WellAll ReadsW ReadsAllW)
theorem B4{P:Program}{w:World}{K:Frag}{mg mb:Str->Option Value}{k:Nat}{fa:Addr}{fd:FuncData}{ps:List Str}{sp:Sp}{s₁:Shared}{vals:List Value}{ds:List WData}{R:PySem.W.WRecords}{cl:Str->Option Addr}{d0:WData}
  (KX:K.In s₁.heap)(Bx:s₁.heap.Ns mainGlobals mg)(hb:s₁.heap.Ns builtinsNs mb)(Z1:∀x:Str,x≠"__name__"->mb x=bootBuiltins x)(V5:s₁.heap.NoLimit)(Z2:Bs s₁.heap)(hg:s₁.gens=#[])
  (SA:WellAll w.params s₁.heap vals ds)(d9:rP ds=true)(Z3:∀d∈ds,d.weight<=1048576)(hr:cx k callerA)
  (F:∀base:Heap,K.In base->base.Ns mainGlobals mg->Bs base->g5 P w K mg base (rh P w) k fa fd ps sp)(SD:∀(s:Shared) (us:List Value),us.length=ps.length->BindsTo s fd ⟨us,[]⟩ (ps.zip us))(hlen:ds.length=ps.length)
  (pW:∀(H:Hp) (xs:List V),zN H->km K H xs ds->sp xs H (λv H'=>Dw K H' v d0) λ_ _ _=>False) :
  codeAny (model P w) callerA (.call (.ref fa) ⟨vals,[]⟩) (λr s'=>∃u as,r=.ok (.ret u)/\ReadsW R cl s'.heap u d0 as/\OldK s₁.heap s'.heap/\s'.os=s₁.os/\AllBare s'.gens) s₁:=by
 obtain⟨A,ho,ar⟩:=oK ds vals SA d9 Z3;have Yc:∀{b:Addr} {o:Obj},s₁.heap.get? b=some o->o.cls=.type "module"->ji K s₁.heap A b=none:=λ{b o} e c=>by
  cases q:ji K s₁.heap A b with
  |none=>rfl
  |some u =>
   obtain⟨_,vs,_,_,⟨e2,_⟩ |⟨e2,_⟩⟩:=oM ar q
   ·rw[e2] at e;cases e;exact absurd (Value.type.inj c) d_
   ·rw[e2] at e;cases e;exact absurd (Value.type.inj c) d_
 have OR:∀{b:Addr} {o:Obj} {es:Array DictEntry} {ep:Nat},s₁.heap.get? b=some o->o.data=.dict es ep->ji K s₁.heap A b=none:=λ{b o es ep} e d=>by
  cases q:ji K s₁.heap A b with
  |none=>rfl
  |some u =>
   obtain⟨_,vs,_,_,⟨e2,_⟩ |⟨e2,_⟩⟩:=oM ar q
   ·rw[e2] at e;cases e;have d':Data.seq vs.toArray _=Data.dict es ep:=d;cases d'
   ·rw[e2] at e;cases e;have d':Data.seq vs.toArray _=Data.dict es ep:=d;cases d'
 have jC:Bs (tf s₁.heap (ji K s₁.heap A)):=by
  have KD:∀{b:Addr} {m:Str->Option Value},s₁.heap.Ns b m->(tf s₁.heap (ji K s₁.heap A)).Ns b m:=λ{b m} ⟨o,es,ep,e,d,r⟩=>⟨o,es,ep,tj e (OR e d),d,r⟩
  obtain⟨⟨⟨mc,n1,n2,n3⟩,⟨mm,n4,n5⟩,⟨Z4,n6,n7⟩,⟨Z5,bm,ob,n8,n9,na,nb,nc⟩⟩,⟨md,m1,m2⟩⟩:=Z2;exact⟨⟨⟨mc,KD n1,n2,n3⟩,⟨mm,KD n4,n5⟩,⟨Z4,KD n6,n7⟩,⟨Z5,bm,ob,KD n8,n9,tj na (Yc na nb),nb,nc⟩⟩,⟨md,KD m1,m2⟩⟩
 have hO:zN (ji K s₁.heap A):=FC ar;have hok:jz P w (ji K s₁.heap A) s₁.heap:=Ls ar;have hS:=xL KX ar ds vals SA d9 ho;have hV:=kn ho;have hK:∀b u,ji K s₁.heap A b=some u->K.lookup b=none:=λb u q=>(oM ar q).1;clear Yc;generalize ji K s₁.heap A=H at hO hok hS hK OR jC;have Ed:∀{b:Addr} {o:Obj},s₁.heap.get? b=some o->H b=none->(tf s₁.heap H).get? b=some o:=λe n=>tj e n;have KD:∀{b:Addr} {m:Str->Option Value},s₁.heap.Ns b m->(tf s₁.heap H).Ns b m:=λ{b m} ⟨o,es,ep,e,d,r⟩=>⟨o,es,ep,Ed e (OR e d),d,r⟩
 have nK:∀b o,K.lookup b=some o->H b=none:=λb o e=>by
  cases q:H b with
  |none=>rfl
  |some u =>
   rw[hK b u q] at e;cases e
 have Ye:K.In (tf s₁.heap H):=λb o e=>Ed (KX b o e) (nK b o e);have hM:Mod K mg (tf s₁.heap H):=⟨Ye,KD Bx,⟨mb,KD hb,Z1⟩,let ⟨mc,h1,h2⟩:=V5;⟨mc,KD h1,h2⟩⟩
 have e0:BP P w K mg (tf s₁.heap H) callerA [] s₁ H:=⟨rfl,hM,λb o e=>KP e,Nat.le_of_eq (E8 _ _),trivial,λb hb=>absurd (show b∈([]:List Addr) from hb) (by simp),hok,.of_eq hg⟩
 have hl:vals.length=ps.length:=by rw[jF SA];exact hlen
 refine codeAny_mono ((F _ Ye (KD Bx) jC).run callerA [] s₁ H ⟨vals,[]⟩ vals (vals.map toV) _ _ hr e0 (SD s₁ vals hl) hV (pW H _ hO hS)) λr s' x=>?_;cases r with
 |error e =>
  obtain⟨_,_,_,_,_,_,_,_,_,_,_,_,_,z⟩:=x;exact z.elim
 |ok fl =>
  cases fl with
  |next=>exact False.elim x
  |brk=>exact False.elim x
  |cont=>exact False.elim x
  |ret u =>
   obtain⟨v,H',os,fF,un,SE,r',q⟩:=x;have jd:∀b o,s₁.heap.get? b=some o->s'.heap.get? b=some o:=λb o e=>by
    cases q2:H b with
    |none=>exact un.keep b o e q2 (by intro z;exact absurd (show b∈([]:List Addr) from z) (by simp)) (by simp)
    |some u2 =>
     rcases hO b with z |⟨ob,u3,z⟩
     ·rw[q2] at z;cases z
     ·have z2:=un.ni b ob _ z;obtain⟨e1,_⟩:=hok b _ z;obtain⟨e2,_⟩:=SE b _ z2;rw[e] at e1;cases e1;exact e2
   have Z6:K.In s'.heap:=λb o e=>jd b o (KX b o e);obtain⟨as,Q8⟩:=Dw.wa (R:=R) (cl:=cl) SE Z6 d0 v u q r';exact⟨u,as,rfl,Q8,OldK.of_keep jd,os,fF⟩
theorem B5{r:OpenSpec}{k:Nat}{q:Program}{loose:List Str}{XP:(Str->Option Value)->Heap->Prop}{YP:World->Heap->Prop}{d:DefRec}{K:Params->Frag}{ps:List Str}{sp:World->Sp}
  (Iz:r.wellSaid=true)(Yf:d.params.defaults=[])(hlen:r.args.length=ps.length)(hr:cx k callerA)(himp:importsNone q=true)
  (hY:∀(w:World) (h:Heap),YP w h->(K w.params).In h)
  (F:∀(w:World) (mg:Str->Option Value) (fa:Addr) (h:Heap),YP w h->(K w.params).In h->h.Ns mainGlobals mg->mg d.name=some (.ref fa) ->
   ∃fd:FuncData,(∀(s:Shared) (us:List Value),us.length=ps.length->BindsTo s fd ⟨us,[]⟩ (ps.zip us)) /\
    ∀base:Heap,(K w.params).In base->base.Ns mainGlobals mg->Bs base->g5 r.prog w (K w.params) mg base (rh r.prog w) k fa fd ps (sp w))
  (pW:∀(w:World) (H:Hp) (xs:List V) (a:Codec.denoteAll r.args),zN H->Codec.withinAll r.args a=true->Codec.app r.args r.asked a=true->km (K w.params) H xs (Codec.encAll r.args a) ->
   sp w xs H (λv H'=>Dw (K w.params) H' v (r.ret.enc (Codec.app r.args r.f a))) λ_ _ _=>False) :
  PySem.W.WalkOS q loose XP YP r d [] (λf vs=>PySem.call f vs):=by
 intro w tq s₁ mg mb G Y fa o pm cd doc dV kV ho hd lA hD hmg hg args vals as hpre V6 Q8 SA hlo;obtain⟨a,e1,e2⟩:=PySem.W.os_pre_some hpre;obtain⟨e3,UH⟩:=Codec.encAll_of_decAll r.args args a e1;subst e3;have KX:=hY w _ Y;obtain⟨fd,hb,hF⟩:=F w mg fa _ Y KX G.T.g hmg;refine PySem.W.enter_call (codeAny_mono (B4 (R:=[]) (cl:=classAt tq.heap) (d0:=r.ret.enc (Codec.app r.args r.f a)) KX G.T.g G.T.b G.T.builtins G.T.nolimit ⟨G.T.seer himp,G.T.nodigits⟩ hg SA (wf _ _) (tO V6) hr hF hb (by rw[tP];exact hlen)
  (λH xs hO hS=>pW w H xs a hO UH e2 hS)) λr' s' hq=>?_)
 obtain⟨u,Z7,rfl,h1,h2,h3,h4⟩:=hq;exact⟨.inl ⟨u,_,Z7,rfl,λ_=>rfl,h1,(OpenSpec.post_iff Iz UH _ _).mpr rfl,λz=>Bool.noConfusion (show false=true from z)⟩,h2,h3,h4⟩
def fA(K:Frag)(mg:Str->Option Value)(x:Str)(st:Stmt)(ps:List Str):Prop:=∃f fd,rg K x x st f fd/\mg x=some (.ref f)/\fG K fd ps []
def fq(P:Program)(w:World)(K:Frag)(mg:Str->Option Value)(base:Heap)(x:Str)(k:Nat)(ps:List Str)(sp:Sp):Prop :=
 ∃f fd,g5 P w K mg base (rh P w) k f fd ps sp/\mg x=some (.ref f)/\keepIn K (.ref f)=true/\fG K fd ps []
def fL:List Str->List V->List (Str×V)->List (Str×V)
 |n::ns,y::ys,fs=>fL ns ys (gk n y fs)
 |_,_,fs=>fs
structure jG(K:Frag)(mg:Str->Option Value)(x:Str)(st:Stmt)(names:List Str)(C:Addr):Prop where
 cl:ve K C
 no:∀n∈names,gr K C n
 mg:mg x=some (.ref C)
 init:∃f fd q,Mk K C f/\rg K "__init__" q st f fd/\fG K fd ("self"::names) []
def IA(C:Addr)(names:List Str):Sp:=λvs H Q _=>∃p dx ys,vs=.ref p::ys/\ys.length=names.length/\H p=some (.g9 C dx []) /\
 ∀H',H' p=some (.g9 C dx (fL names ys []))->(∀b o,H b=some o->b≠p->H' b=some o)->Q .dH H'
def lm(P:Program)(w:World)(K:Frag)(mg:Str->Option Value)(base:Heap)(x:Str)(names:List Str)(C:Addr):Prop :=
 ∃f fd,Mk K C f/\g5 P w K mg base (rh P w) 1 f fd ("self"::names) (IA C names)/\fG K fd ("self"::names) []/\mg x=some (.ref C)
section
variable{P:Program}{w:World}{K:Frag}{mg:Str->Option Value}{base:Heap}
theorem fA.Pj{x:Str}{st:Stmt}{ps:List Str}{k:Nat}{sp:Sp}(S:fA K mg x st ps)(h:∀f fd,rg K x x st f fd->g5 P w K mg base (rh P w) k f fd ps sp):fq P w K mg base x k ps sp :=
 let ⟨f,fd,F,m,b⟩:=S;⟨f,fd,h f fd F,m,F.kp,b⟩
theorem jG.oF{x:Str}{st:Stmt}{names:List Str}{C:Addr}(R:jG K mg x st names C)(h:∀q f fd,rg K "__init__" q st f fd->g5 P w K mg base (rh P w) 1 f fd ("self"::names) (IA C names)):lm P w K mg base x names C :=
 let ⟨f,fd,q,m,F,b⟩:=R.init;⟨f,fd,m,h q f fd F,b,R.mg⟩
theorem fA.pure{x:Str}{st:Stmt}{N ps:List Str}{k:Nat}{Rs:List Rv}{R:Rv}(S:fA K mg x st ps)(sc:dQ N ps (ax st))(hl:Rs.length=ps.length)
  (jg:∀(f:Addr) (bL:Value) (A:Around) (ai:List Env) (s:Shared) (H:Hp) (vs:List V) (X:Cx),X=(lw P w K mg base N x (ax st) f bL A ai s H λ_ _ _=>True).NA->cx k X.A->X.N.Nodup->iE Rs vs H ->
   Do X (cq st) {nx:=λ_ H'=>aM H H'/\R .dH H',rt:=λv H'=>aM H H'/\R v H'} (start N vs) H):fq P w K mg base x (k+1) ps (jx Rs R) :=
 S.Pj λf fd F=>F.KC sc (pY.len hl) λbL A ai s H vs Q E hr ⟨ha,hq⟩=>by
  refine⟨_,pD,λpins s1 I=>?_⟩;have h:=jg f bL A ai s H vs _ rfl hr sc.nd ha pins s1;have I':Inv (lw P w K mg base N x (ax st) f bL A ai s H λ_ _ _=>True).NA pins (start N vs) H s1:=⟨⟨I.ok.mod,I.ok.kind,I.ok.mK,I.ok.E9,I.ok.above,I.ok.inj,I.ok.has,I.ok.Hq,I.ok.hd,I.ok.frames,I.ok.Hr,I.ok.Ky,I.ok.bs,I.ok.BC,I.ok.mL,I.ok.tw,I.ok.lu,I.ok.Fa⟩,I.os,I.fF,I.base,I.loc,I.cell,I.free,I.fT,I.fw,I.hok,I.len⟩
  refine dB (h I') λfl s2 q=>?_;have mM:∀{σ' H'},Inv (lw P w K mg base N x (ax st) f bL A ai s H λ_ _ _=>True).NA pins σ' H' s2->Inv (lw P w K mg base N x (ax st) f bL A ai s H E).NA pins σ' H' s2:=λ{σ' H'} I=>⟨⟨I.ok.mod,I.ok.kind,I.ok.mK,I.ok.E9,I.ok.above,I.ok.inj,I.ok.has,I.ok.Hq,I.ok.hd,I.ok.frames,I.ok.Hr,I.ok.Ky,I.ok.bs,I.ok.BC,I.ok.mL,I.ok.tw,I.ok.lu,I.ok.Fa⟩,I.os,I.fF,I.base,I.loc,I.cell,I.free,I.fT,I.fw,I.hok,I.len⟩
  cases fl with
  |next =>
   obtain⟨σ',H',I2,V7,r⟩:=q;exact⟨σ',H',mM I2,hq _ _ V7 r⟩
  |brk=>obtain⟨σ',H',I2,z⟩:=q;exact z.elim
  |cont=>obtain⟨σ',H',I2,z⟩:=q;exact z.elim
  |ret u =>
   obtain⟨v,σ',H',I2,rv,V7,r⟩:=q;exact⟨v,σ',H',mM I2,rv,hq _ _ V7 r⟩
end
section
variable{X:Cx}{σ:St}{H:Hp}
theorem ah{j k:Nat}{ps:List Str}{Rs:List Rv}{R:Rv}{x:Str}{p pos:Pos}{e:Expr}{es:List Expr}(F:fq X.prog X.w X.K X.mg X.base x k ps (jx Rs R))(hr:cx j X.A)(hg:Gl X x)
  (ha:Ya X σ H (e::es) Rs)(jX:k<=j:=by decide)(kf:(x == ("__debug__":Str))=false:=by decide)(he:starEach (e::es) X.env=(false,eval e X.env)::starEach es X.env:=by rfl)(d9:(backTo pos (starEach es X.env)).any (·.1)=false:=by rfl) :
  Yd X σ H (.Call (.Name x p) (e::es) [] pos) R:=let ⟨_,_,h,m,kp,b⟩:=F;LH h (hr.aw jX) hg m kp b ha kf he d9
theorem Ee{j:Nat}{names:List Str}{C:Addr}{Rs:List Rv}{R:Rv}{x:Str}{p pos:Pos}{e:Expr}{es:List Expr}(F:lm X.prog X.w X.K X.mg X.base x names C)(hr:cx j X.A)(hg:Gl X x)
  (ha:Ya X σ H (e::es) Rs)(hM:jl Rs)(hl:Rs.length=names.length)(hR:∀p dx ys H,iE Rs ys H->H p=some (.g9 C dx (fL names ys []))->R (.ref p) H)(jX:2<=j:=by decide)
  (kf:(x == ("__debug__":Str))=false:=by decide)(he:starEach (e::es) X.env=(false,eval e X.env)::starEach es X.env:=by rfl)(d9:(backTo pos (starEach es X.env)).any (·.1)=false:=by rfl) :
  Yd X σ H (.Call (.Name x p) (e::es) [] pos) R:=λH1 s1=>by
 obtain⟨f,fd,mk,h,b,m⟩:=F;refine(si mk h (hr.aw jX) hg m b .nil zY pA kf he d9).ev ((ha H1 s1).aw λvs H2 ⟨s2,r2⟩=>?_);intro y dx ny nd ne;rw[List.append_nil];refine⟨y,dx,vs,rfl,r2.len.trans hl,aC,λH' e1 k1=>⟨rfl,?_⟩⟩;have s3:=aM.K5 ny nd k1;exact⟨s2.trans s3,hR _ _ _ _ (r2.au hM s3) e1⟩
theorem cK{i j:Nat}{f x y:Str}{p1 p2 p3 pos:Pos}{D:cT}{p C dx:Addr}{fs:List (Str×V)}{v:V}(hs:σ[j]?=some (some (.ref p)))(hv:σ[i]?=some (some v))(hp:H p=some (.g9 C dx fs))(c:ve X.K C)(n:gr X.K C f)(l:fs.length<1000)
  (q:D.nx σ (dE H p (.g9 C dx (gk f v fs))))(hN:X.N[j]?=some x:=by rfl)(Z8:X.N[i]?=some y:=by rfl)
  (Z9:uZ X.env.scope x:=by first |exact Or.inl rfl |exact Or.inr (Or.inl rfl) |exact Or.inr (Or.inr rfl))(V8:uZ X.env.scope y:=by first |exact Or.inl rfl |exact Or.inr (Or.inl rfl) |exact Or.inr (Or.inr rfl))
  (V9:(x == ("__debug__":Str))=false:=by decide)(Wa:(x == ("__classdict__":Str))=false:=by decide)(hd2:(y == ("__debug__":Str))=false:=by decide)(UI:(y == ("__classdict__":Str))=false:=by decide)
  (Pk:swapsWith (.Name y p2) (some (.Attribute (.Name x p1) f p3)) pos.line X.env=pure false:=by rfl) :
  jk X (.Assign [.Attribute (.Name x p1) f p3] (.Name y p2) pos) D σ H :=
 (BM (gC hN Z9 V9 Wa) (gC Z8 V8 hd2 UI) Pk).do ⟨v,hv,.ref p,hs,p,C,dx,fs,rfl,hp,c,n,l,q⟩
end
theorem oh{fs:List (Str×V)}{f:Str}{v:V}{k:Nat}(h:fs.length<k):(gk f v fs).length<k+1:=by have:=fU f v fs;omega
section
variable{X:Cx}{σ:St}{H:Hp}{a b c:Expr}{pos:Pos}
theorem B6{op:CmpOp}{g:Int->Int->Bool}{i j:Int}(ho:mi X (compareOp op) (Fm λi j=>.bl (g i j)))(ha:Yd X σ H a (Vi (.int i)))(hb:Yd X σ H b (Vi (.int j)))(hm:behindInMarks op b=false:=by exact nq _):Yd X σ H (.Compare a [op] [b] pos) (Vi (.bl (g i j))):=λH1 s1 =>
 (DU ho pE pE hm).ev ((ha H1 s1).aw λx H2 ⟨s2,e2⟩=>(hb H2 (s1.trans s2)).aw λy H3 ⟨s3,e3⟩=>⟨i,j,e2,e3,s2.trans s3,rfl⟩)
theorem wk{x y:V}(ha:Yd X σ H a (Vi x))(hb:Yd X σ H b (Vi y))(hs:BH x y=true):Yd X σ H (.Compare a [.Eq] [b] pos) (Vi (.bl (decide (x=y)))):=λH1 s1 =>
 (DU NC pE pE (nq _)).ev ((ha H1 s1).aw λ_ H2 ⟨s2,e2⟩=>(hb H2 (s1.trans s2)).aw λ_ H3 ⟨s3,e3⟩=>by
  subst e2 e3;exact⟨hs,s2.trans s3,rfl⟩)
theorem oP{op ON:CmpOp}{g g':Int->Int->Bool}{i j k:Int}(ho:mi X (compareOp op) (Fm λi j=>.bl (g i j)))(Bu:mi X (compareOp ON) (Fm λi j=>.bl (g' i j)))(ha:Yd X σ H a (Vi (.int i)))(hb:Yd X σ H b (Vi (.int j)))(hc:Yd X σ H c (Vi (.int k)))
  (hm:lastMarks [op,ON] [b,c]=false:=by with_unfolding_all rfl):Yd X σ H (.Compare a [op,ON] [b,c] pos) (Vi (.bl (g i j && g' j k))):=λH1 s1 =>
 (HJ ho Bu pE pE pE hm).ev ((ha H1 s1).aw λx H2 ⟨s2,e2⟩=>(hb H2 (s1.trans s2)).aw λy H3 ⟨s3,e3⟩=>⟨i,j,e2,e3,_,rfl,by
  cases hg:g i j with
  |true=>exact(hc H3 ((s1.trans s2).trans s3)).aw λz H4 ⟨s4,e4⟩=>⟨j,k,e3,e4,(s2.trans s3).trans s4,by rw[Bool.true_and]⟩
  |false=>exact⟨s2.trans s3,by rw[Bool.false_and]⟩⟩)
def Yt(X:Cx)(σ:St)(H:Hp)(e:Expr)(k:Bool):Prop:=∀H1,aM H H1->Te X e σ H1 λd H2=>aM H1 H2/\d=k
theorem Yt.run{k:Bool}{Q:Bool->Hp->Prop}(h:Yt X σ H a k)(q:∀H',aM H H'->Q k H'):Te X a σ H Q:=(h H sm).aw λd H' ⟨s,e⟩=>by subst e;exact q H' s
theorem dI{op:CmpOp}{g:Int->Int->Bool}{i j:Int}(ho:mi X (compareOp op) (Fm λi j=>.bl (g i j)))(ha:Yd X σ H a (Vi (.int i)))(hb:Yd X σ H b (Vi (.int j)))(hm:behindInMarks op b=false:=by exact nq _):Yt X σ H (.Compare a [op] [b] pos) (g i j):=λH1 s1 =>
 (kO ho pE pE hm).te ((ha H1 s1).aw λx H2 ⟨s2,e2⟩=>(hb H2 (s1.trans s2)).aw λy H3 ⟨s3,e3⟩=>⟨i,j,e2,e3,_,rfl,s2.trans s3,rfl⟩)
theorem dJ{x y:V}(ha:Yd X σ H a (Vi x))(hb:Yd X σ H b (Vi y))(hs:BH x y=true):Yt X σ H (.Compare a [.Eq] [b] pos) (decide (x=y)):=λH1 s1 =>
 (kO NC pE pE (nq _)).te ((ha H1 s1).aw λ_ H2 ⟨s2,e2⟩=>(hb H2 (s1.trans s2)).aw λ_ H3 ⟨s3,e3⟩=>by
  subst e2 e3;exact⟨hs,_,rfl,s2.trans s3,rfl⟩)
theorem rk{x y:V}(ha:Yd X σ H a (Vi x))(hb:Yd X σ H b (Vi y))(hs:BH x y=true):Yt X σ H (.Compare a [.NotEq] [b] pos) (!decide (x=y)):=λH1 s1 =>
 (kO RX pE pE (nq _)).te ((ha H1 s1).aw λ_ H2 ⟨s2,e2⟩=>(hb H2 (s1.trans s2)).aw λ_ H3 ⟨s3,e3⟩=>by
  subst e2 e3;exact⟨hs,_,rfl,s2.trans s3,rfl⟩)
theorem IB{x:V}{j:Nat}{p2:Pos}(ha:Yd X σ H a (Vi x)):Yt X σ H (.Compare a [.Is] [.Constant .none j p2] pos) (decide (x=.dH)):=λH1 s1 =>
 (kO OL pE pE (nq _)).te ((ha H1 s1).aw λ_ H2 ⟨s2,e2⟩=>Ht.ev (by
  subst e2;exact⟨rfl,_,rfl,s2,rfl⟩))
theorem gf{k:Bool}(h:Yd X σ H a (Vi (.bl k)))(he:∀ap,isTrue a X.env ap=(do let v<-ap;standAt a.pos;holding [v] (truthy v)):=by intro _;rfl):Yt X σ H a k:=λH1 s1 =>
 (Ox pE he).te ((h H1 s1).aw λx H2 ⟨s2,e2⟩=>by subst e2;exact⟨_,rfl,s2,rfl⟩)
theorem IC{k:Bool}(h:Yt X σ H a k):Yt X σ H (.UnaryOp .Not a pos) (!k):=λH1 s1=>(Oz pT).te ((h H1 s1).aw λd H2 ⟨s2,e⟩=>⟨s2,by rw[e]⟩)
theorem qB{k l:Bool}(ha:Yt X σ H a k)(hb:k=true->Yt X σ H b l):Yt X σ H (.BoolOp .And [a,b] pos) (k && l):=λH1 s1 =>
 (Oy pT (KR pT)).pt.te ((ha H1 s1).aw λd H2 ⟨s2,e⟩=>by
  subst e;cases d with
  |true=>exact(hb rfl H2 (s1.trans s2)).aw λd' H3 ⟨s3,e3⟩=>⟨s2.trans s3,by rw[e3,Bool.true_and]⟩
  |false=>exact⟨s2,by rw[Bool.false_and]⟩)
theorem wm{k l:Bool}(ha:Yt X σ H a k)(hb:k=false->Yt X σ H b l):Yt X σ H (.BoolOp .Or [a,b] pos) (k || l):=λH1 s1 =>
 (Hx pT (Hw pT)).pt.te ((ha H1 s1).aw λd H2 ⟨s2,e⟩=>by
  subst e;cases d with
  |false=>exact(hb rfl H2 (s1.trans s2)).aw λd' H3 ⟨s3,e3⟩=>⟨s2.trans s3,by rw[e3,Bool.false_or]⟩
  |true=>exact⟨s2,by rw[Bool.true_or]⟩)
theorem tT{k:Bool}{R:Rv}(hc:Yt X σ H c k)(ha:k=true->Yd X σ H a R)(hb:k=false->Yd X σ H b R):Yd X σ H (.IfExp c a b pos) R:=λH1 s1 =>
 (tD pT pE pE).ev ((hc H1 s1).aw λd H2 ⟨s2,e⟩=>by
  subst e;cases d with
  |true=>exact(ha rfl H2 (s1.trans s2)).aw λv H3 ⟨s3,r⟩=>⟨s2.trans s3,r⟩
  |false=>exact(hb rfl H2 (s1.trans s2)).aw λv H3 ⟨s3,r⟩=>⟨s2.trans s3,r⟩)
theorem aE{R:Rv}{D:cT}(h:Yd X σ H a R)(k:∀v H',aM H H'->R v H'->D.rt v H'):jk X (.Return (some a) pos) D σ H:=kR (h.ev k)
theorem cn{k:Bool}{t e:List Stmt}{D:cT}(hc:Yt X σ H c k)(h1:k=true->∀H',aM H H'->Do X t D σ H')(h2:k=false->∀H',aM H H'->Do X e D σ H'):jk X (.If c t e pos) D σ H:=NQ ((hc H sm).aw λd H' ⟨s,q⟩=>by
 subst q;cases d with
 |true=>exact h1 rfl H' s
 |false=>exact h2 rfl H' s)
theorem aD{R:Rv}{D:cT}{i:Nat}{x:Str}{pos':Pos}(h:Yd X σ H a R)(k:∀v H',aM H H'->R v H'->D.nx (σ.set i (some v)) H')(hN:X.N.Nodup)(hi:X.N[i]?=some x:=by rfl)(hx:DN X.env.scope x:=by exact Or.inl rfl)
  (hs:swapsWith a (some (.Name x pos')) pos.line X.env=pure false:=by rfl)(hf:X.fn x=true\/X.env.scope.names.lookup x=some .local:=by first |exact .inl rfl |exact .inr rfl):jk X (.Assign [.Name x pos'] a pos) D σ H:=(qh hN hi hx pE hs hf).do (h.ev k)
theorem gG{p:Addr}{o:HO}(h:H p=none):aM H (dE H p o):=λb u e=>by rw[aB (bJ e h)];exact e
def z0(Rs:List Rv):Rv:=λv H=>∃p vs,v=.ref p/\H p=some (.de vs)/\iE Rs vs H
def SG(Rs:List Rv):Rv:=λv H=>∃p vs,v=.ref p/\H p=some (.iQ vs)/\iE Rs vs H
theorem kS{es:List Expr}{Rs:List Rv}(h:Ya X σ H es Rs)(hM:jl Rs)(hl:Rs.length<=1000):Yd X σ H (.List es pos) (z0 Rs):=λH1 s1 =>
 (xE pA).ev ((h H1 s1).aw λvs H2 ⟨s2,r⟩=>⟨by rw[r.len];exact Nat.le_trans hl d_,λp hp=>⟨s2.trans (gG hp),p,vs,rfl,aC,r.au hM (gG hp)⟩⟩)
theorem ID{es:List Expr}{x1:Nat}{Rs:List Rv}(h:Ya X σ H es Rs)(hM:jl Rs)(hl:Rs.length<=1000):Yd X σ H (.Tuple es x1 pos) (SG Rs):=λH1 s1 =>
 (OP pA).ev ((h H1 s1).aw λvs H2 ⟨s2,r⟩=>⟨by rw[r.len];exact Nat.le_trans hl d_,λp hp=>⟨s2.trans (gG hp),p,vs,rfl,aC,r.au hM (gG hp)⟩⟩)
theorem Mon.tp{Rs:List Rv}(m:jl Rs):Mon (SG Rs):=λ_ _ _ s ⟨p,vs,e,h,r⟩=>⟨p,vs,e,s _ _ h,r.au m s⟩
theorem Mon.ls{Rs:List Rv}(m:jl Rs):Mon (z0 Rs):=λ_ _ _ s ⟨p,vs,e,h,r⟩=>⟨p,vs,e,s _ _ h,r.au m s⟩
theorem tU:∀{ns:List Int} {vs:List V},iE (ns.map λn=>Vi (.int n)) vs H->vs=ns.map V.int
 |[],[],_=>rfl
 |n::ns,v::vs,h=>by rw[tU (ns:=ns) h.2,show v=.int n from h.1];rfl
 |[],_::_,h=>h.elim
 |_::_,[],h=>h.elim
theorem kq:∀ns:List Int,jl (ns.map λn=>Vi (.int n))
 |[]=>trivial
 |n::ns=>⟨Vi.ak _,kq ns⟩
theorem IE{e:Expr}{p:Pos}(ns:List Int){M:Int}(hc:X.gB=true)(hg:Gl X "min")(hm:X.mg "min"=none)(h:Yd X σ H e (z0 (ns.map λn=>Vi (.int n))))(h0:0<ns.length)(hM:∀m,m∈ns->(∀a∈ns,m<=a)->m=M)
  (he:starEach [e] X.env=(false,eval e X.env)::starEach [] X.env:=by rfl)(d9:(backTo pos (starEach [] X.env)).any (·.1)=false:=by rfl):Yd X σ H (.Call (.Name "min" p) [e] [] pos) (Vi (.int M)):=λH1 s1 =>
 (gm (FL hc) hg hm (by decide +kernel) (bI pE cV he) d_ d_ he d9).ev ((h H1 s1).aw λv H2 ⟨s2,l,vs,e1,e2,e3⟩=>⟨l,ns,by rw[e1],.of (by rw[<-tU e3];exact e2),h0,λm h1 h2=>⟨s2,by rw[hM m h1 h2]⟩⟩)
theorem IF{e:Expr}{p:Pos}(ns:List Int){M:Int}(hc:X.gB=true)(hg:Gl X "max")(hm:X.mg "max"=none)(h:Yd X σ H e (z0 (ns.map λn=>Vi (.int n))))(h0:0<ns.length)(hM:∀m,m∈ns->(∀a∈ns,a<=m)->m=M)
  (he:starEach [e] X.env=(false,eval e X.env)::starEach [] X.env:=by rfl)(d9:(backTo pos (starEach [] X.env)).any (·.1)=false:=by rfl):Yd X σ H (.Call (.Name "max" p) [e] [] pos) (Vi (.int M)):=λH1 s1 =>
 (gm (FM hc) hg hm (by decide +kernel) (bI pE cV he) d_ d_ he d9).ev ((h H1 s1).aw λv H2 ⟨s2,l,vs,e1,e2,e3⟩=>⟨l,ns,by rw[e1],.of (by rw[<-tU e3];exact e2),h0,λm h1 h2=>⟨s2,by rw[hM m h1 h2]⟩⟩)
theorem iq{body:List Stmt}{D:cT}(hp:PassesOwn (model X.prog X.w) X.A X.env X.xe)(W:Nat->St->Hp->Prop)(m0:Nat)(h0:W m0 σ H)
  (hs:∀m σ H,W m σ H->Te X c σ H λk H1=>if k=true then Do X body {D with nx:=λσ' H'=>∃m',m'<m/\W m' σ' H',ct:=λσ' H'=>∃m',m'<m/\W m' σ' H',bk:=D.nx} σ H1 else D.nx σ H1):jk X (.While c body [] pos) D σ H :=
 (HB hp pT pD).do ⟨W,⟨m0,h0⟩,λm σ H h=>(hs m σ H h).aw λk H1 q=>by
  cases k with
  |true=>exact⟨_,λ_ _ z=>z,q⟩
  |false=>exact q⟩
theorem xO{apos:Pos}{i:Int}(h:Yd X σ H a (Vi (.int i)))(jC:attributeBase a "bit_length" X.env (eval a X.env)=eval a X.env:=by rfl)(jD:(apos.endLine == pos.line)=true:=by rfl):Yd X σ H (.Call (.Attribute a "bit_length" apos) [] [] pos) (Vi (.int (Builtin.Int.intBits i:Nat))):=λH1 s1 =>
 (LF pE jC jD).ev ((h H1 s1).aw λv H2 ⟨s2,e⟩=>⟨i,e,s2,rfl⟩)
theorem Yd.to{x y:V}(h:Yd X σ H a (Vi x))(e:x=y):Yd X σ H a (Vi y):=e ▸ h
theorem cx.LI{k:Nat}{A:Around}(r:cx k A)(h:32<=k):A.depth+100<recursionLimit:=by have:=r.dp;omega
end
theorem iH{f:Str}:∀{ns:List Str} {ys:List V} {fs:List (Str×V)},f∉ns->(fL ns ys fs).lookup f=fs.lookup f
 |[],_,_,_=>by rw[fL] <;> simp
 |n::ns,[],_,_=>by rw[fL] <;> simp
 |n::ns,y::ys,fs,h=>by
  rw[fL,iH λz=>h (List.mem_cons_of_mem _ z),df,if_neg λz=>h (by rw[z];exact List.mem_cons_self ..)]
theorem fV{f:Str}{y:V}:∀{ns:List Str} {ys:List V} {fs:List (Str×V)} {i:Nat},ns.Nodup->ns[i]?=some f->ys[i]?=some y->(fL ns ys fs).lookup f=some y
 |[],_,_,i,_,h,_=>by simp at h
 |n::ns,[],_,i,_,_,h=>by simp at h
 |n::ns,y0::ys,fs,0,nd,h,h2=>by
  have e:n=f:=Option.some.inj h;have e2:y0=y:=Option.some.inj h2;subst e e2;rw[fL,iH (List.nodup_cons.mp nd).1,df,if_pos rfl]
 |n::ns,y0::ys,fs,i+1,nd,h,h2=>by
  rw[fL];exact fV (List.nodup_cons.mp nd).2 (by simpa using h) (by simpa using h2)
theorem iE.at_:∀{Rs:List Rv} {vs:List V} {H:Hp} {i:Nat} {R:Rv},iE Rs vs H->Rs[i]?=some R->∃v,vs[i]?=some v/\R v H
 |[],[],_,i,_,_,h=>by simp at h
 |R0::Rs,v::vs,H,0,R,h,e=>by
  have e:R0=R:=Option.some.inj e;subst e;exact⟨v,rfl,h.1⟩
 |_::Rs,_::vs,H,i+1,R,h,e=>by
  obtain⟨v,h1,h2⟩:=iE.at_ h.2 (by simpa using e);exact⟨v,by simpa using h1,h2⟩
 |[],_::_,_,_,_,h,_=>h.elim
 |_::_,[],_,_,_,h,_=>h.elim
def dG(C:Addr)(names:List Str)(Rs:List Rv):Rv:=λv H=>∃p dx ys,v=.ref p/\H p=some (.g9 C dx (fL names ys []))/\iE Rs ys H
theorem dG.ak{C:Addr}{names:List Str}{Rs:List Rv}(m:jl Rs):Mon (dG C names Rs):=λ_ _ _ s ⟨p,dx,ys,e,h,a⟩=>⟨p,dx,ys,e,s _ _ h,a.au m s⟩
theorem dG.has{K:Frag}{C:Addr}{names:List Str}{Rs:List Rv}(cl:ve K C)(no:∀n∈names,gr K C n)(nd:names.Nodup)(i:Nat){f:Str}{R:Rv}(hn:names[i]?=some f)(hR:Rs[i]?=some R):gu K (dG C names Rs) f R:=λv H ⟨p,dx,ys,e,h,a⟩ =>
 let ⟨y,h1,h2⟩:=a.at_ hR;⟨p,C,dx,_,y,e,h,cl,no f (List.mem_of_getElem? hn),fV nd hn h1,h2⟩
section
variable{X:Cx}{σ:St}{H:Hp}
theorem eL{j:Nat}{names:List Str}{C:Addr}{Rs:List Rv}{x:Str}{p pos:Pos}{e:Expr}{es:List Expr}(F:lm X.prog X.w X.K X.mg X.base x names C)(hr:cx j X.A)(hg:Gl X x)
  (ha:Ya X σ H (e::es) Rs)(hM:jl Rs)(hl:Rs.length=names.length)(jX:2<=j:=by decide)
  (kf:(x == ("__debug__":Str))=false:=by decide)(he:starEach (e::es) X.env=(false,eval e X.env)::starEach es X.env:=by rfl)(d9:(backTo pos (starEach es X.env)).any (·.1)=false:=by rfl) :
  Yd X σ H (.Call (.Name x p) (e::es) [] pos) (dG C names Rs):=Ee F hr hg ha hM hl (λp dx ys _ h1 h2=>⟨p,dx,ys,rfl,h2,h1⟩) jX kf he d9
end
def z3(o:Except Ex Rv)(H:Hp)(Q:VK)(E:XK):Prop:=match o with
 |.ok R=>∀v H',aM H H'->R v H'->Q v H'
 |.error x=>∀c d H',aM H H'->x c d H'->E c d H'
theorem z3.au{o:Except Ex Rv}{H H':Hp}{Q:VK}{E:XK}(h:z3 o H Q E)(s:aM H H'):z3 o H' Q E:=by
 cases o with
 |ok R=>exact λv H2 s2 r=>h v H2 (s.trans s2) r
 |error x=>exact λc d H2 s2 r=>h c d H2 (s.trans s2) r
def lQ(X:Cx)(E:XK)(σ:St)(H:Hp)(e:Expr)(x:Ex):Prop:=∀H1,aM H H1->∀Q,(∀c d H2,aM H1 H2->x c d H2->E c d H2)->Ev X e σ H1 Q
def wn(X:Cx)(E:XK)(σ:St)(H:Hp)(es:List Expr)(x:Ex):Prop:=∀H1,aM H H1->∀Q,(∀c d H2,aM H1 H2->x c d H2->E c d H2)->Ar X es σ H1 Q
section
variable{X:Cx}{σ:St}{H:Hp}{E:XK}
theorem oQ{e:Expr}{es:List Expr}{x:Ex}(h:lQ X E σ H e x)(hs:starEach (e::es) X.env=(false,eval e X.env)::starEach es X.env:=by rfl):wn X E σ H (e::es) x:=λH1 s1 Q q=>(bI pE pA hs).ar (h H1 s1 _ q)
theorem xP{e:Expr}{es:List Expr}{x:Ex}{R:Rv}(he:Yd X σ H e R)(h:wn X E σ H es x)(hs:starEach (e::es) X.env=(false,eval e X.env)::starEach es X.env:=by rfl):wn X E σ H (e::es) x:=λH1 s1 Q q =>
 (bI pE pA hs).ar ((he H1 s1).aw λv H2 ⟨s2,_⟩=>h H2 (s1.trans s2) _ λc d H3 s3=>q c d H3 (s2.trans s3))
theorem wo{j k:Nat}{ps:List Str}{sp:Sp}{x:Str}{p pos:Pos}{e:Expr}{es:List Expr}{xx:Ex}(F:fq X.prog X.w X.K X.mg X.base x k ps sp)(hT:iF X E)(hr:cx j X.A)(hg:Gl X x)(ha:wn X E σ H (e::es) xx)(jX:k<=j:=by decide)(hex:X.ex=[]:=by rfl)
  (kf:(x == ("__debug__":Str))=false:=by decide)(he:starEach (e::es) X.env=(false,eval e X.env)::starEach es X.env:=by rfl)(d9:(backTo pos (starEach es X.env)).any (·.1)=false:=by rfl):lQ X E σ H (.Call (.Name x p) (e::es) [] pos) xx:=λH1 s1 Q q=>by
 obtain⟨_,_,h,m,kp,b⟩:=F;exact(jB h (hr.aw jX) hg m kp b .nil (hT.passes hex) pA kf he d9).ev (ha H1 s1 _ q)
theorem FO{j:Nat}{names:List Str}{C:Addr}{x:Str}{p pos:Pos}{e:Expr}{es:List Expr}{xx:Ex}(F:lm X.prog X.w X.K X.mg X.base x names C)(hr:cx j X.A)(hg:Gl X x)(ha:wn X E σ H (e::es) xx)(jX:2<=j:=by decide)
  (kf:(x == ("__debug__":Str))=false:=by decide)(he:starEach (e::es) X.env=(false,eval e X.env)::starEach es X.env:=by rfl)(d9:(backTo pos (starEach es X.env)).any (·.1)=false:=by rfl):lQ X E σ H (.Call (.Name x p) (e::es) [] pos) xx:=λH1 s1 Q q=>by
 obtain⟨_,_,mk,h,b,m⟩:=F;exact(si mk h (hr.aw jX) hg m b .nil zY pA kf he d9).ev (ha H1 s1 _ q)
theorem jH{j k:Nat}{ps:List Str}{Rs:List Rv}{o:Except Ex Rv}{R:Rv}{x:Str}{p pos:Pos}{e:Expr}{es:List Expr}(F:fq X.prog X.w X.K X.mg X.base x k ps (pY Rs o))(ho:o=.ok R)(hr:cx j X.A)(hg:Gl X x)
  (ha:Ya X σ H (e::es) Rs)(jX:k<=j:=by decide)(kf:(x == ("__debug__":Str))=false:=by decide)(he:starEach (e::es) X.env=(false,eval e X.env)::starEach es X.env:=by rfl)(d9:(backTo pos (starEach es X.env)).any (·.1)=false:=by rfl) :
  Yd X σ H (.Call (.Name x p) (e::es) [] pos) R:=by
 subst ho;exact ah F hr hg ha jX kf he d9
theorem dS{j k:Nat}{ps:List Str}{Rs:List Rv}{o:Except Ex Rv}{x:Str}{p pos:Pos}{e:Expr}{es:List Expr}{xx:Ex}(F:fq X.prog X.w X.K X.mg X.base x k ps (pY Rs o))(ho:o=.error xx)(hT:iF X E)(hr:cx j X.A)(hg:Gl X x)
  (ha:Ya X σ H (e::es) Rs)(jX:k<=j:=by decide)(hex:X.ex=[]:=by rfl)(kf:(x == ("__debug__":Str))=false:=by decide)(he:starEach (e::es) X.env=(false,eval e X.env)::starEach es X.env:=by rfl)(d9:(backTo pos (starEach es X.env)).any (·.1)=false:=by rfl) :
  lQ X E σ H (.Call (.Name x p) (e::es) [] pos) xx:=λH1 s1 Q q=>by
 subst ho;obtain⟨_,_,h,m,kp,b⟩:=F;refine(jB h (hr.aw jX) hg m kp b .nil (hT.passes hex) pA kf he d9).ev ((ha H1 s1).aw λvs H2 ⟨s2,r2⟩=>?_);rw[List.append_nil];exact⟨r2,λc d H' s3 r3=>q c d H' (s2.trans s3) r3⟩
theorem lQ.ev{e:Expr}{x:Ex}{Q:VK}(h:lQ X E σ H e x)(q:∀c d H2,aM H H2->x c d H2->E c d H2):Ev X e σ H Q:=h H sm Q q
theorem dh{e:Expr}{x:Ex}{pos:Pos}{D:cT}(h:lQ X E σ H e x)(q:∀c d H2,aM H H2->x c d H2->E c d H2):jk X (.Return (some e) pos) D σ H:=kR (h.ev q)
theorem iR{e:Expr}{x:Ex}{pos:Pos}{D:cT}(h:lQ X E σ H e x)(q:∀c d H2,aM H H2->x c d H2->E c d H2)(hs:swapsWith e none pos.line X.env=pure false:=by rfl):jk X (.Expr e pos) D σ H:=eD (h.ev q) hs
theorem lR{e:Expr}{xx:Ex}{pos pos':Pos}{D:cT}{i:Nat}{x:Str}(h:lQ X E σ H e xx)(q:∀c d H2,aM H H2->xx c d H2->E c d H2)(hN:X.N.Nodup)(hi:X.N[i]?=some x:=by rfl)(hx:DN X.env.scope x:=by exact Or.inl rfl)
  (hs:swapsWith e (some (.Name x pos')) pos.line X.env=pure false:=by rfl)(hf:X.fn x=true\/X.env.scope.names.lookup x=some .local:=by first |exact .inl rfl |exact .inr rfl):jk X (.Assign [.Name x pos'] e pos) D σ H:=(qh hN hi hx pE hs hf).do (h.ev q)
theorem oR{e:Expr}{R:Rv}{pos:Pos}{D:cT}(h:Yd X σ H e R)(k:∀H',aM H H'->D.nx σ H')(hs:swapsWith e none pos.line X.env=pure false:=by rfl):jk X (.Expr e pos) D σ H:=eD (h.ev λ_ H' s _=>k H' s) hs
theorem jk.next{st:Stmt}{D:cT}{nx:St->Hp->Prop}(h:jk X st {D with nx:=nx} σ H)(k:∀σ' H',nx σ' H'->D.nx σ' H'):jk X st D σ H:=λpins s I=>dB (h pins s I) λf s' q=>by
 cases f with
 |next=>obtain⟨σ',H',I',z⟩:=q;exact⟨σ',H',I',k _ _ z⟩
 |brk=>exact q
 |cont=>exact q
 |ret u=>exact q
theorem LJ{st:Stmt}{rest:List Stmt}{D:cT}(Pw:Hp->Prop)(h:jk X st {D with nx:=λσ' H'=>σ'=σ/\Pw H'} σ H)(hr:∀H',Pw H'->Do X rest D σ H'):Do X (st::rest) D σ H :=
 af (jk.next (D:={D with nx:=Do X rest D}) h λσ' H' ⟨e,p⟩=>by rw[e];exact hr H' p)
end
def Ef(C:Addr)(names:List Str):Sp:=λvs H Q _=>∃ea ys,vs=.ref ea::ys/\ys.length=names.length/\H ea=some (hJ ea C none) /\
 ∀H' dx,H dx=none->H' ea=some (hJ ea C (some dx))->H' dx=some (zd dx (fL names ys []))->(∀b o,H b=some o->b≠ea->H' b=some o)->Q .dH H'
def IG(P:Program)(w:World)(K:Frag)(mg:Str->Option Value)(base:Heap)(x:Str)(names:List Str)(C N:Addr):Prop :=
 XC K C N/\mg x=some (.ref C)/\∃f fd,nsIn K N "__init__"=some (some (.ref f))/\PySem.W.isFn K (.ref f)=true/\g5 P w K mg base (rh P w) 1 f fd ("self"::names) (Ef C names)/\fG K fd ("self"::names) []
def B7(C:Addr)(names:List Str)(Rs:List Rv):Ex:=λc d H=>c=.ref C/\∃dx ys,d=some dx/\H dx=some (zd dx (fL names ys []))/\iE Rs ys H
def IH(C:Addr):Ex:=λc d _=>c=.ref C/\d=none
section
variable{X:Cx}{σ:St}{H:Hp}{E:XK}
theorem fH{j:Nat}{x:Str}{names:List Str}{C N:Addr}{Rs:List Rv}{e:Expr}{es:List Expr}{D:cT}{np gE pos:Pos}(F:IG X.prog X.w X.K X.mg X.base x names C N)(hT:iF X E)(hc:X.gB=true)(hr:cx j X.A)(hg:Gl X x)(ha:Ya X σ H (e::es) Rs)(hM:jl Rs)(hl:Rs.length=names.length)
  (q:∀c d H2,aM H H2->B7 C names Rs c d H2->E c d H2)(hn:names.length<1000:=by decide)(jX:2<=j:=by decide)(hex:X.ex=[]:=by rfl)(hd:(x == ("__debug__":Str))=false:=by decide)
  (he:starEach (e::es) X.env=(false,eval e X.env)::starEach es X.env:=by rfl)(d9:(backTo gE (starEach es X.env)).any (·.1)=false:=by rfl):jk X (.Raise (some (.Call (.Name x np) (e::es) [] gE)) none pos) D σ H:=by
 obtain⟨xc,hm,f,fd,hi,hf,F,hb⟩:=F;refine(FH hT hc hg hm xc hi hf F (hr.aw jX) hb pA (by simp only[List.length_cons];omega) hex hd he d9).do ((ha H sm).aw λvs H1 ⟨s1,r1⟩=>?_)
 intro ea he;refine⟨ea,vs,rfl,r1.len.trans hl,aC,λH' dx zT h1 h2 k=>⟨rfl,some dx,h1,?_⟩⟩;have ne:dx≠ea:=λz=>by rw[z,aC] at zT;cases zT
 have s2:aM H1 (dE H' ea (lv ea C (some dx))):=λb o e=>by
  have nb:b≠ea:=bJ e he;rw[aB nb];exact k b o (by rw[aB nb];exact e) nb
 refine q _ _ _ (s1.trans s2) ⟨rfl,dx,vs,rfl,?_,r1.au hM s2⟩;rw[aB ne];exact h2
theorem ml{x:Str}{C N:Addr}{D:cT}{np gE pos:Pos}(xc:XC X.K C N)(hi:nsIn X.K N "__init__"=some none)(hm:X.mg x=some (.ref C))(hT:iF X E)(hc:X.gB=true)(hg:Gl X x)(q:∀c d H2,aM H H2->IH C c d H2->E c d H2)
  (hex:X.ex=[]:=by rfl)(hd:(x == ("__debug__":Str))=false:=by decide):jk X (.Raise (some (.Call (.Name x np) [] [] gE)) none pos) D σ H :=
 (FG hT hc hg hm xc hi hex hd).do λea he=>q _ _ _ (gG he) ⟨rfl,rfl⟩
end
section
variable{P:Program}{w:World}{K:Frag}{mg:Str->Option Value}{base:Heap}
theorem fA.any{x:Str}{st:Stmt}{ps:List Str}(S:fA K mg x st ps):fq P w K mg base x 0 ps (λ_ _ _ _=>False):=S.Pj λf fd F=>⟨λ_ _ _ _ h=>h.elim,λ_ _ _ _ _ _ _ _ _ _ _ _ _ h=>h.elim⟩
theorem fA.xQ{x:Str}{st:Stmt}{N ps:List Str}{k:Nat}{Rs:List Rv}{o:Except Ex Rv}(S:fA K mg x st ps)(sc:dQ N ps (ax st))(hl:Rs.length=ps.length)
  (jg:∀(f:Addr) (bL:Value) (A:Around) (ai:List Env) (s:Shared) (H:Hp) (vs:List V) (Q:VK) (E:XK) (X:Cx),X=lw P w K mg base N x (ax st) f bL A ai s H E->cx k X.A->X.N.Nodup->iF X E->PassesOwn (model P w) X.A X.env X.xe->iE Rs vs H->z3 o H Q E ->
   Do X (cq st) {nx:=λ_ H'=>Q .dH H',rt:=Q} (start N vs) H):fq P w K mg base x (k+1) ps (pY Rs o) :=
 S.Pj λf fd F=>F.Q7 sc (pY.len hl) λbL A ai s H vs Q E X e hr hT hp ⟨ha,hq⟩=>⟨_,pD,jg f bL A ai s H vs Q E X e hr (by rw[e];exact sc.nd) hT hp ha (by cases o <;> exact hq)⟩
end
section
variable{X:Cx}{σ:St}{H:Hp}{a b:Expr}{pos:Pos}
theorem qC{Rs:List Rv}{R:Rv}{k:Nat}(ha:Yd X σ H a (z0 Rs))(hm:jl Rs)(hb:Yd X σ H b (Vi (.int k)))(hR:Rs[k]?=some R)(hs:sj b:=by intro _ _;rfl):Yd X σ H (.Subscript a b pos) R:=λH1 s1 =>
 (HW DZ pE pE hs).ev ((ha H1 s1).aw λx H2 ⟨s2,p,vs,e1,e2,e3⟩=>(hb H2 (s1.trans s2)).aw λy H3 ⟨s3,e4⟩ =>
  let ⟨v,h1,h2⟩:=(e3.au hm s3).at_ hR;⟨p,vs,k,v,e1,e4,.of (s3 _ _ e2),xH h1,s2.trans s3,h2⟩)
theorem nw{Rs:List Rv}{R:Rv}{k:Nat}(ha:Yd X σ H a (SG Rs))(hm:jl Rs)(hb:Yd X σ H b (Vi (.int k)))(hR:Rs[k]?=some R)(hs:sj b:=by intro _ _;rfl):Yd X σ H (.Subscript a b pos) R:=λH1 s1 =>
 (HW OS pE pE hs).ev ((ha H1 s1).aw λx H2 ⟨s2,p,vs,e1,e2,e3⟩=>(hb H2 (s1.trans s2)).aw λy H3 ⟨s3,e4⟩ =>
  let ⟨v,h1,h2⟩:=(e3.au hm s3).at_ hR;⟨p,vs,k,v,e1,e4,.of (s3 _ _ e2),xH h1,s2.trans s3,h2⟩)
def Tx(K:Frag)(b:List UInt8):Rv:=λv H=>∃p,v=.ref p/\nZ K H p (b.map λc=>V.int (c.toNat:Int))
theorem Tx.ak{K:Frag}{b:List UInt8}:Mon (Tx K b):=λ_ _ _ s ⟨p,e,h⟩=>⟨p,e,s.seq h⟩
theorem gg{t:List UInt8}{k:Nat}{c:UInt8}(ha:Yd X σ H a (Tx X.K t))(hb:Yd X σ H b (Vi (.int k)))(hR:t[k]?=some c)(hs:sj b:=by intro _ _;rfl):Yd X σ H (.Subscript a b pos) (Vi (.int (c.toNat:Int))):=λH1 s1 =>
 (HW DZ pE pE hs).ev ((ha H1 s1).aw λx H2 ⟨s2,p,e1,e2⟩=>(hb H2 (s1.trans s2)).aw λy H3 ⟨s3,e4⟩ =>
  ⟨p,_,k,_,e1,e4,s3.seq e2,xH (v:=V.int (c.toNat:Int)) (by rw[List.getElem?_map,hR];rfl),s2.trans s3,rfl⟩)
theorem eE{t:List UInt8}{p:Pos}(hg:Gl X "len")(hm:X.mg "len"=none)(ha:Yd X σ H a (Tx X.K t))(he:starEach [a] X.env=(false,eval a X.env)::starEach [] X.env:=by rfl)(d9:(backTo pos (starEach [] X.env)).any (·.1)=false:=by rfl) :
  Yd X σ H (.Call (.Name "len" p) [a] [] pos) (Vi (.int (t.length:Nat))):=λH1 s1 =>
 (gm oH hg hm PySem.boot_len (bI pE cV he) d_ d_ he d9).ev ((ha H1 s1).aw λv H2 ⟨s2,p,e1,e2⟩=>⟨p,_,by rw[e1],.inl e2,s2,by rw[List.length_map]⟩)
theorem oS{D:cT}{i:Nat}{x:Str}{pos':Pos}{k l:Int}(hs:σ[i]?=some (some (.int k)))(h:Yd X σ H a (Vi (.int l)))(q:∀H',aM H H'->D.nx (σ.set i (some (.int (k+l)))) H')(hN:X.N.Nodup)(hi:X.N[i]?=some x:=by rfl)(hx:DN X.env.scope x:=by exact Or.inl rfl)
  (hf:X.fn x=true\/X.env.scope.names.lookup x=some .local:=by first |exact .inl rfl |exact .inr rfl):jk X (.AugAssign (.Name x pos') .Add a pos) D σ H :=
 (OF hN hi hx pE OG hf).do ⟨_,hs,h.ev λv H' s e=>⟨k,l,rfl,e,q H' s⟩⟩
theorem z4{D:cT}{i:Nat}{x:Str}{pos' p2 p3:Pos}{body:List Stmt}{lo hi:Nat}(hp:PassesOwn (model X.prog X.w) X.A X.env X.xe)(hc:X.gB=true)(hg:Gl X "range")(hm:X.mg "range"=none)(ha:Yd X σ H a (Vi (.int lo)))(hb:Yd X σ H b (Vi (.int hi)))(hh:hi<2^61)(hl:lo<=hi)
  (Pv:Nat->St->Hp->Prop)(h0:∀H',aM H H'->Pv 0 σ H')(hs:∀j σ' H',lo+j<hi->Pv j σ' H'->Do X body {D with nx:=Pv (j+1),ct:=Pv (j+1),bk:=D.nx} (σ'.set i (some (.int (lo+j:Nat)))) H')(hd:∀σ' H',Pv (hi - lo) σ' H'->D.nx σ' H')
  (hN:X.N.Nodup)(SH:X.N[i]?=some x:=by rfl)(hx:DN X.env.scope x:=by exact Or.inl rfl)(hf:X.fn x=true\/X.env.scope.names.lookup x=some .local:=by first |exact .inl rfl |exact .inr rfl)
  (s1:starEach [a,b] X.env=[(false,eval a X.env),(false,eval b X.env)]:=by rfl)(s2:starEach [b] X.env=[(false,eval b X.env)]:=by rfl)(s3:starEach [a,b] X.env=(false,eval a X.env)::starEach [b] X.env:=by rfl)(s4:starEach [b] X.env=(false,eval b X.env)::starEach [] X.env:=by rfl)
  (II:∀z,foldedSetIterable (.Call (.Name "range" p2) [a,b] [] p3) X.env z=pure z:=by intro _;rfl):jk X (.For (.Name x pos') (.Call (.Name "range" p2) [a,b] [] p3) body [] pos) D σ H:=by
 refine(xC hp hc (Fj hg hm (bI pE (bI pE cV s4) s3) s1 s2) (kM (i:=i) hN SH hx hf) pD II).do ((ha H sm).aw λv H1 ⟨q1,e1⟩=>(hb H1 q1).aw λu H2 ⟨q2,e2⟩=>?_)
 subst e1 e2;refine⟨lo,hi,rfl,⟨by omega,by omega,by omega,by omega⟩,?_⟩;have en:(((hi:Nat):Int) - (lo:Nat)).toNat=hi - lo:=by omega
 rw[en];refine Fl Pv (h0 _ (q1.trans q2)) (λj σ' H' hj hP=>?_) hd;have:=hs j σ' H' o_ hP;rwa [Int.natCast_add] at this
theorem ii{st:Stmt}{rest:List Stmt}{D:cT}(SI:St->Hp->Prop)(h:jk X st {D with nx:=SI} σ H)(hr:∀σ' H',SI σ' H'->Do X rest D σ' H'):Do X (st::rest) D σ H:=af (jk.next (D:={D with nx:=Do X rest D}) h hr)
theorem lS{R1:Rv}:∀{vs:List V},iE [R1] vs H->∃v1,vs=[v1]/\R1 v1 H
 |[v1],h=>⟨v1,rfl,h.1⟩
 |[],h=>h.elim
 |_::_::_,h=>h.2.elim
theorem lT{R1 R2:Rv}:∀{vs:List V},iE [R1,R2] vs H->∃v1 v2,vs=[v1,v2]/\R1 v1 H/\R2 v2 H
 |v1::vs,h=>let ⟨v2,e,r⟩:=lS h.2;⟨v1,v2,by rw[e],h.1,r⟩
 |[],h=>h.elim
theorem IJ{R1 R2 R3:Rv}:∀{vs:List V},iE [R1,R2,R3] vs H->∃v1 v2 v3,vs=[v1,v2,v3]/\R1 v1 H/\R2 v2 H/\R3 v3 H
 |v1::vs,h=>let ⟨v2,v3,e,r⟩:=lT h.2;⟨v1,v2,v3,by rw[e],h.1,r⟩
 |[],h=>h.elim
theorem LK{R1 R2 R3 R4:Rv}:∀{vs:List V},iE [R1,R2,R3,R4] vs H->∃v1 v2 v3 v4,vs=[v1,v2,v3,v4]/\R1 v1 H/\R2 v2 H/\R3 v3 H/\R4 v4 H
 |v1::vs,h=>let ⟨v2,v3,v4,e,r⟩:=IJ h.2;⟨v1,v2,v3,v4,by rw[e],h.1,r⟩
 |[],h=>h.elim
theorem Pl{p:Pos}{i:Int}{y:V}(hg:Gl X "abs")(hm:X.mg "abs"=none)(ha:Yd X σ H a (Vi (.int i)))(e:V.int (if i<0 then -i else i)=y)(he:starEach [a] X.env=(false,eval a X.env)::starEach [] X.env:=by rfl)(d9:(backTo pos (starEach [] X.env)).any (·.1)=false:=by rfl) :
  Yd X σ H (.Call (.Name "abs" p) [a] [] pos) (Vi y):=λH1 s1 =>
 (gm HK hg hm (by decide +kernel) (bI pE cV he) d_ d_ he d9).ev ((ha H1 s1).aw λv H2 ⟨s2,e1⟩=>⟨i,by rw[e1],s2,e⟩)
end
section
variable{X:Cx}{σ:St}{H:Hp}{a b:Expr}{pos:Pos}
theorem LL{p:Pos}{i j:Int}(hc:X.gB=true)(hg:Gl X "max")(hm:X.mg "max"=none)(ha:Yd X σ H a (SG [Vi (.int i),Vi (.int j)]))(he:starEach [a] X.env=(false,eval a X.env)::starEach [] X.env:=by rfl)(d9:(backTo pos (starEach [] X.env)).any (·.1)=false:=by rfl) :
  Yd X σ H (.Call (.Name "max" p) [a] [] pos) (Vi (.int (max i j))):=λH1 s1 =>
 (gm (FN hc) hg hm (by decide +kernel) (bI pE cV he) d_ d_ he d9).ev ((ha H1 s1).aw λv H2 ⟨s2,q,vs,e1,e2,e3⟩=>by
  obtain⟨v1,v2,rfl,rfl,rfl⟩:=lT e3;exact⟨q,i,j,by rw[e1],.of e2,s2,by show V.int _=V.int _;congr 1;split <;> omega⟩)
theorem LM{p:Pos}{i j:Int}(hc:X.gB=true)(hg:Gl X "max")(hm:X.mg "max"=none)(ha:Yd X σ H a (Vi (.int i)))(hb:Yd X σ H b (Vi (.int j)))(s1:starEach [a,b] X.env=(false,eval a X.env)::starEach [b] X.env:=by rfl)(s2:starEach [b] X.env=(false,eval b X.env)::starEach [] X.env:=by rfl)(d9:(backTo pos (starEach [b] X.env)).any (·.1)=false:=by rfl) :
  Yd X σ H (.Call (.Name "max" p) [a,b] [] pos) (Vi (.int (max i j))):=λH1 q1 =>
 (gm (Fn hc) hg hm (by decide +kernel) (bI pE (bI pE cV s2) s1) d_ d_ s1 d9).ev ((ha H1 q1).aw λv H2 ⟨q2,e2⟩=>(hb H2 (q1.trans q2)).aw λu H3 ⟨q3,e3⟩=>by
  subst e2 e3;exact⟨i,j,rfl,q2.trans q3,by show V.int _=V.int _;congr 1;split <;> omega⟩)
theorem Eg{p:Pos}{i:Int}(S:Bs X.base)(hc:X.gB=true)(hg:Gl X "str")(hm:X.mg "str"=none)(ha:Yd X σ H a (Vi (.int i)))(hz:i.natAbs<2^4096)(he:starEach [a] X.env=(false,eval a X.env)::starEach [] X.env:=by rfl)(d9:(backTo pos (starEach [] X.env)).any (·.1)=false:=by rfl) :
  Yd X σ H (.Call (.Name "str" p) [a] [] pos) (Vi (.str (toString i))):=λH1 s1 =>
 (v8 (vA S hc) hg hm (by decide +kernel) (bI pE cV he) d_ d_ he d9).ev ((ha H1 s1).aw λv H2 ⟨s2,e1⟩=>⟨i,by rw[e1],hz,s2,rfl⟩)
theorem SJ{i j z:Str}{k:Nat}{p1 p2 p3:Pos}(ha:Yd X σ H a (Vi (.str i)))(hb:Yd X σ H b (Vi (.str j)))(hl:i.length+z.length+j.length<=sizeLine):Yd X σ H (.JoinedStr [.FormattedValue a (-1) none p1,.Constant (.str z) k p2,.FormattedValue b (-1) none p3] pos) (Vi (.str (i++z++j))):=λH1 s1 =>
 (Sz pE pE).ev ((ha H1 s1).aw λv H2 ⟨s2,e2⟩=>⟨i,e2,by omega,(hb H2 (s1.trans s2)).aw λu H3 ⟨s3,e3⟩=>⟨j,e3,hl,s2.trans s3,rfl⟩⟩)
end
section
variable{X:Cx}{σ:St}{H:Hp}{a b:Expr}{pos:Pos}{E:XK}
theorem z5{es:List Expr}{x:Ex}(h:wn X E σ H es x):lQ X E σ H (.List es pos) x:=λH1 s1 Q q=>(xE pA).ev (h H1 s1 _ q)
theorem oU{op:Operator}{r:R2}{x:Ex}(ho:mi X (binaryOp op) r)(h:lQ X E σ H a x):lQ X E σ H (.BinOp a op b pos) x:=λH1 s1 Q q=>(zt ho pE pE).ev (h H1 s1 _ q)
theorem tV{op:Operator}{r:R2}{R:Rv}{x:Ex}(ho:mi X (binaryOp op) r)(ha:Yd X σ H a R)(h:lQ X E σ H b x):lQ X E σ H (.BinOp a op b pos) x:=λH1 s1 Q q =>
 (zt ho pE pE).ev ((ha H1 s1).aw λv H2 ⟨s2,_⟩=>h H2 (s1.trans s2) _ λc d H3 s3=>q c d H3 (s2.trans s3))
def oV(vs:List V):Rv:=λv H=>∃p,v=.ref p/\H p=some (.de vs)
theorem oV.ak{vs:List V}:Mon (oV vs):=λ_ _ _ s ⟨p,e,h⟩=>⟨p,e,s _ _ h⟩
theorem oV.Po{Rs:List Rv}{vs:List V}{v:V}(h:z0 Rs v H)(e:∀us,iE Rs us H->us=vs):oV vs v H:=let ⟨p,us,e1,e2,e3⟩:=h;⟨p,e1,by rw[<-e us e3];exact e2⟩
theorem tW{xs ys:List V}(ha:Yd X σ H a (oV xs))(hb:Yd X σ H b (oV ys))(hl:xs.length+ys.length<=sizeLine):Yd X σ H (.BinOp a .Add b pos) (oV (xs++ys)):=λH1 s1 =>
 (zt lJ pE pE).ev ((ha H1 s1).aw λv H2 ⟨s2,p,e1,e2⟩=>(hb H2 (s1.trans s2)).aw λu H3 ⟨s3,p',e3,e4⟩ =>
  ⟨p,p',xs,ys,e1,e3,s3 _ _ e2,e4,hl,λl Fc=>⟨(s2.trans s3).trans (gG Fc),l,rfl,aC⟩⟩)
end
section
variable{X:Cx}{σ:St}{H:Hp}{a b c:Expr}{rest:List Expr}{pos:Pos}
theorem tX{op:PySem.BoolOp}{R:Rv}(h:Yd X σ H a R):Yd X σ H (.BoolOp op [a] pos) R:=λH1 s1=>(OA pE).ev (h H1 s1)
theorem tY{k l:Bool}(ha:Yd X σ H a (Vi (.bl k)))(hb:Yd X σ H (.BoolOp .Or (b::rest) pos) (Vi (.bl l))):Yd X σ H (.BoolOp .Or (a::b::rest) pos) (Vi (.bl (k || l))):=λH1 s1 =>
 (Nz pE pE).ev ((ha H1 s1).aw λv H2 ⟨s2,e2⟩=>⟨k,e2,by
  cases k with
  |true=>exact⟨s2,by rw[Bool.true_or]⟩
  |false=>exact(hb H2 (s1.trans s2)).aw λu H3 ⟨s3,e3⟩=>⟨s2.trans s3,by rw[Bool.false_or];exact e3⟩⟩)
theorem LN{k:Bool}(ha:Yd X σ H a (Vi (.bl k))):Yd X σ H (.UnaryOp .Not a pos) (Vi (.bl (!k))):=λH1 s1=>(OC pE).ev ((ha H1 s1).aw λv H2 ⟨s2,e2⟩=>⟨k,e2,s2,rfl⟩)
theorem Pp(ha:Yd X σ H a (Vi (.bl true))):Yd X σ H (.BoolOp .Or (a::b::rest) pos) (Vi (.bl true)):=λH1 s1=>(Nz pE pE).ev ((ha H1 s1).aw λv H2 ⟨s2,e2⟩=>⟨true,e2,s2,rfl⟩)
theorem xR{k l:Bool}(ha:Yd X σ H a (Vi (.bl k)))(hb:k=true->Yd X σ H (.BoolOp .And (b::rest) pos) (Vi (.bl l))):Yd X σ H (.BoolOp .And (a::b::rest) pos) (Vi (.bl (k && l))):=λH1 s1 =>
 (OB pE pE).ev ((ha H1 s1).aw λv H2 ⟨s2,e2⟩=>⟨k,e2,by
  cases k with
  |false=>exact⟨s2,by rw[Bool.false_and]⟩
  |true=>exact(hb rfl H2 (s1.trans s2)).aw λu H3 ⟨s3,e3⟩=>⟨s2.trans s3,by rw[Bool.true_and];exact e3⟩⟩)
end
section
variable{X:Cx}{σ:St}{H:Hp}{pos:Pos}
end
def gH(vs:List V):Rv:=λv H=>∃p,v=.ref p/\H p=some (.iQ vs)
theorem gH.ak{vs:List V}:Mon (gH vs):=λ_ _ _ s ⟨p,e,h⟩=>⟨p,e,s _ _ h⟩
theorem xS{K:Frag}{H:Hp}:∀ns:List Int,tJ K H (ns.map V.int) (ns.map PyData.int)
 |[]=>.nil
 |n::r=>.cons (.int n) (xS r)
theorem tZ(ns:List Int):SeqAt.shaped (.tuple (ns.map PyData.int))=true:=by
 have h1:∀ns:List Int,PyData.canLayAll0 (ns.map PyData.int)=true:=λns=>by
  induction ns with
  |nil=>simp [PyData.canLayAll0]
  |cons n r ih=>simp [PyData.canLayAll0,PyData.canLay0,ih]
 have h2:∀ns:List Int,PyData.depthAll (ns.map PyData.int)<=1:=λns=>by
  induction ns with
  |nil=>simp [PyData.depthAll]
  |cons n r ih=>simp only[List.map_cons,PyData.depthAll,PyData.depth];omega
 have h3:PyData.depth (.tuple (ns.map PyData.int))<=64:=by have:=h2 ns;simp only[PyData.depth];omega
 show (PyData.canLay0 (.tuple (ns.map PyData.int)) && decide (PyData.depth (.tuple (ns.map PyData.int))<=64))=true;rw[Bool.and_eq_true];exact⟨by simp only[PyData.canLay0];exact h1 ns,decide_eq_true h3⟩
theorem z6:∀ns ms:List Int,PyData.eqvAll (ns.map PyData.int) (ms.map PyData.int)=decide (ns=ms)
 |[],[]=>by simp [PyData.eqvAll]
 |[],_::_=>by simp [PyData.eqvAll]
 |_::_,[]=>by simp [PyData.eqvAll]
 |n::r,k::q=>by
  simp only[List.map_cons,PyData.eqvAll,PyData.eqv,z6 r q]
  by_cases h:n=k <;> simp [h]
section
variable{X:Cx}{σ:St}{H:Hp}{a b c:Expr}{pos:Pos}
theorem Pq{ns ms:List Int}(hu:X.A.units+64<cLine)(ha:Yd X σ H a (gH (ns.map V.int)))(hb:Yd X σ H b (gH (ms.map V.int))):Yt X σ H (.Compare a [.Eq] [b] pos) (decide (ns=ms)):=λH1 s1 =>
 (kO (OX hu) pE pE (nq _)).te ((ha H1 s1).aw λv H2 ⟨s2,p,e1,e2⟩=>(hb H2 (s1.trans s2)).aw λu H3 ⟨s3,q,e3,e4⟩=>by
  subst e1 e3;refine⟨_,_,.iQ (.of (s3 _ _ e2)) (xS ns),.iQ (.of e4) (xS ms),tZ ns,tZ ms,_,rfl,s2.trans s3,?_⟩;show PyData.eqvAll _ _=_;exact z6 ns ms)
theorem FP{t:List UInt8}{i j:Nat}{p2:Pos}(ht:Yd X σ H a (Tx X.K t))(hb:Yd X σ H b (Vi (.int i)))(hc:Yd X σ H c (Vi (.int j)))(UJ:i<=j)(hj:j<=t.length) :
  Yd X σ H (.Subscript a (.Slice (some b) (some c) none p2) pos) (oV (((t.drop i).take (j - i)).map λc=>V.int (c.toNat:Int))):=λH1 s1 =>
 (HU Lb pE (DX pE) (DX pE)).ev ((ht H1 s1).aw λv H2 ⟨s2,p,e1,e2⟩=>(hb H2 (s1.trans s2)).aw λu H3 ⟨s3,e3⟩=>⟨i,e3,(hc H3 ((s1.trans s2).trans s3)).aw λu' H4 ⟨s4,e4⟩=>⟨j,e4,p,_,e1,s4.seq (s3.seq e2),λl hl =>
  ⟨((s2.trans s3).trans s4).trans (gG hl),l,rfl,by
   rw[aC];congr 2;unfold HV;rw[HT.DW,HT.DW,List.length_map,Nat.min_eq_left hj,Nat.min_eq_left (Nat.le_trans UJ hj),<-List.map_drop,<-List.map_take]⟩⟩⟩)
theorem wp{p:Pos}{vs:List V}(hg:Gl X "tuple")(hm:X.mg "tuple"=none)(ha:Yd X σ H a (oV vs))(he:starEach [a] X.env=(false,eval a X.env)::starEach [] X.env:=by rfl)(d9:(backTo pos (starEach [] X.env)).any (·.1)=false:=by rfl) :
  Yd X σ H (.Call (.Name "tuple" p) [a] [] pos) (gH vs):=λH1 s1 =>
 (v8 vj hg hm (by decide +kernel) (bI pE cV he) d_ d_ he d9).ev ((ha H1 s1).aw λv H2 ⟨s2,p,e1,e2⟩=>⟨p,vs,by rw[e1],.inl ⟨.of e2,λl hl=>⟨s2.trans (gG hl),l,rfl,aC⟩⟩⟩)
theorem LO{D:cT}{i:Nat}{x y:Str}{pos' p2:Pos}{body:List Stmt}{q:Addr}{xs:List V}(hp:PassesOwn (model X.prog X.w) X.A X.env X.xe)(hc:X.gB=true)(hg:Gl X y)(hm:X.mg y=some (.ref q))(sq:∀H,rZ X.K H q xs)
  (Pv:Nat->St->Hp->Prop)(h0:Pv 0 σ H)(hs:∀j v σ' H',xs[j]?=some v->Pv j σ' H'->Do X body {D with nx:=Pv (j+1),ct:=Pv (j+1),bk:=D.nx} (σ'.set i (some v)) H')(hd:∀σ' H',Pv xs.length σ' H'->D.nx σ' H')
  (hN:X.N.Nodup)(SH:X.N[i]?=some x:=by rfl)(hx:DN X.env.scope x:=by exact Or.inl rfl)(hf:X.fn x=true\/X.env.scope.names.lookup x=some .local:=by first |exact .inl rfl |exact .inr rfl)
  (II:∀z,foldedSetIterable (.Name y p2) X.env z=pure z:=by intro _;rfl)(kf:(y == ("__debug__":Str))=false:=by decide):jk X (.For (.Name x pos') (.Name y p2) body [] pos) D σ H :=
 (xC hp hc (HD (rY hg hm (v:=.ref q) rfl kf)) (kM (i:=i) hN SH hx hf) pD II).do ⟨q,rfl,⟨xs,sq H⟩,KY (xs:=xs) Pv h0 (λ_ _ H' _ _=>sq H') hs hd⟩
end
def join(H M:Hp):Hp:=λb=>match M b with
 |some o=>some o
 |none=>H b
def Dj(H M:Hp):Prop:=∀b o,M b=some o->H b=none
theorem bR{H M:Hp}{b:Addr}{o:HO}(e:M b=some o):join H M b=some o:=by unfold join;rw[e]
theorem dU{H M:Hp}{b:Addr}(e:M b=none):join H M b=H b:=by unfold join;rw[e]
theorem cW{H M:Hp}(dj:Dj H M){b:Addr}{o:HO}(e:H b=some o):join H M b=some o:=by
 cases q:M b with
 |none=>rw[dU q];exact e
 |some u=>have:=dj b u q;rw[e] at this;cases this
theorem Dj.SK{H M:Hp}(dj:Dj H M){b:Addr}{o:HO}(e:H b=some o):M b=none:=by
 cases q:M b with
 |none=>rfl
 |some u=>have:=dj b u q;rw[e] at this;cases this
theorem cI{H M:Hp}{b:Addr}(e:join H M b=none):M b=none/\H b=none:=by
 cases q:M b with
 |none=>exact⟨rfl,by rw[dU q] at e;exact e⟩
 |some u=>rw[bR q] at e;cases e
theorem eO{H M:Hp}{b:Addr}{o:HO}(e:join H M b=some o):M b=some o\/(M b=none/\H b=some o):=by
 cases q:M b with
 |none=>exact .inr ⟨rfl,by rw[dU q] at e;exact e⟩
 |some u=>rw[bR q] at e;exact .inl e
theorem ci{H M:Hp}(dj:Dj H M):aM H (join H M):=λ_ _ e=>cW dj e
def mO(H M:Hp):Hp:=λb=>match M b with
 |some _=>none
 |none=>H b
theorem lU{H M:Hp}{b:Addr}(e:M b=none):mO H M b=H b:=by unfold mO;rw[e]
theorem t5{H M:Hp}{b:Addr}{o:HO}(e:M b=some o):mO H M b=none:=by unfold mO;rw[e]
theorem Pr(H M:Hp):Dj (mO H M) M:=λb o e=>t5 e
theorem IK{H M:Hp}(s:aM M H):join (mO H M) M=H:=by
 funext b;cases q:M b with
 |none=>rw[dU q,lU q]
 |some u=>rw[bR q];exact(s b u q).symm
theorem FQ{H M:Hp}:aM M (join H M):=λb o e=>bR e
theorem di{H H' M:Hp}(dj:Dj H M)(s:aM (join H M) H'):H'=join (mO H' M) M/\Dj (mO H' M) M/\aM H (mO H' M) :=
 ⟨(IK λb o e=>s b o (bR e)).symm,Pr _ _,λb o e=>by rw[lU (dj.SK e)];exact s b o (cW dj e)⟩
def Wb:HO->Prop
 |.de _=>True
 |.dT _=>True
 |.g9 _ _ _=>True
 |.own _=>True
 |_=>False
structure MOk(M:Hp)(ms:List Addr):Prop where
 NR:∀b o,M b=some o->b∈ms
 UK:∀b o,M b=some o->Wb o
 own:∀b a,M b=some (.own a)->∃C fs,M a=some (.g9 C b fs)
 g9:∀a C dx fs,M a=some (.g9 C dx fs)->M dx=some (.own a)
def Cx.fw(X:Cx)(pm:List (Addr×Obj)):Cx:={X with pn:=pm++X.pn}
theorem Cx.Ok.fw{X:Cx}(ok:X.Ok)(pm:List (Addr×Obj)):(X.fw pm).Ok:=⟨ok.mod,ok.kind,ok.mK,ok.E9,ok.above,ok.inj,ok.has,ok.Hq,ok.hd,ok.frames,ok.Hr,ok.Ky,ok.bs,ok.BC,ok.mL,ok.tw,ok.lu,ok.Fa⟩
theorem Cx.Ok.NS{X:Cx}{pm:List (Addr×Obj)}(ok:(X.fw pm).Ok):X.Ok:=⟨ok.mod,ok.kind,ok.mK,ok.E9,ok.above,ok.inj,ok.has,ok.Hq,ok.hd,ok.frames,ok.Hr,ok.Ky,ok.bs,ok.BC,ok.mL,ok.tw,ok.lu,ok.Fa⟩
section
variable{X:Cx}{pins:List (Addr×Obj)}{σ:St}{H M:Hp}{s:Shared}{ms:List Addr}
theorem cB.SM{P:Program}{w:World}{H1 H2:Hp}{h h':Heap}{a:Addr}{o:HO}(x:cB P w H1 h a o)(hp:Wb o)(k:∀u,h.get? a=some u->h'.get? a=some u)(kd:∀C dx fs u,o=.g9 C dx fs->h.get? dx=some u->h'.get? dx=some u)
  (ho:∀C dx fs,o=.g9 C dx fs->H2 dx=some (.own a))(ht:∀b xs,H1 b=some (.iQ xs)->H2 b=some (.iQ xs)):cB P w H2 h' a o:=by
 cases o with
 |de xs=>obtain⟨z,cp,n,r,e⟩:=x;exact⟨z,cp,n,r,k _ e⟩
 |dT a4 =>
  obtain⟨z,y,xs,r,ob,es,ep,e,c⟩:=x;exact⟨z,y,xs,Paired.KN r λp q z=>⟨z.1,ht _ _ z.2.1,z.2.2⟩,ob,es,ep,k _ e,c⟩
 |g9 C dx fs =>
  obtain⟨d,z,ne,e,mA,⟨od,es,ep,e2,c⟩,r⟩:=x;exact⟨ho _ _ _ rfl,z,ne,k _ e,mA,⟨od,es,ep,kd _ _ _ _ rfl e2,c⟩,r⟩
 |own y=>obtain⟨ob,e⟩:=x;exact⟨ob,k _ e⟩
 |_=>exact hp.elim
theorem cB.Ps{P:Program}{w:World}{H1:Hp}{h:Heap}{a:Addr}{o:HO}(x:cB P w H1 h a o)(hp:Wb o)(hn:∀y,o≠.own y):∃ob,h.get? a=some ob/\∀v,ob.data≠.cell v:=by
 cases o with
 |de xs=>obtain⟨z,cp,n,r,e⟩:=x;exact⟨_,e,λv z=>by cases z⟩
 |dT a4=>obtain⟨z,y,xs,r,ob,es,ep,e,c,d,_⟩:=x;exact⟨ob,e,λv z=>by rw[d] at z;cases z⟩
 |g9 C dx fs=>obtain⟨d,z,ne,e,_⟩:=x;exact⟨_,e,λv z=>by cases z⟩
 |own y=>exact absurd rfl (hn y)
 |_=>exact hp.elim
structure kr(X:Cx)(M H:Hp)(pm:List (Addr×Obj)):Prop where
 NR:∀b o,M b=some o->∃ob,(b,ob)∈pm
 mM:∀(pins:List (Addr×Obj)) (σ:St) (H':Hp) (s:Shared),(∀p∈pins,M p.1=none)->aM H H'->Inv (X.fw pm) pins σ H' s->Dj H' M/\Inv X pins σ (join H' M) s
theorem Inv.SN(I:Inv X pins σ (join H M) s)(dj:Dj H M)(mo:MOk M ms):∃pm,kr X M H pm/\Inv (X.fw pm) pins σ H s/\∀p∈pins,M p.1=none:=by
 have objs:∀b o,M b=some o->∃ob,s.heap.get? b=some ob/\∀v,ob.data≠.cell v:=λb o e=>by
  have x:=I.hok b o (bR e);cases o with
  |own a =>
   obtain⟨C,fs,hi⟩:=mo.own b a e;obtain⟨d,z,ne,e1,mA,⟨od,es,ep,e2,d2,_⟩,r⟩:=(show cB X.prog X.w (join H M) s.heap a (.g9 C b fs) from I.hok a _ (bR hi))
   exact⟨od,e2,λv z=>by rw[d2] at z;cases z⟩
  |_=>exact x.Ps (mo.UK b _ e) (λy z=>by cases z)
 have UL:∀b ob,(b,ob)∈ms.filterMap (λb=>match M b,s.heap.get? b with |some _,some ob=>some (b,ob) |_,_=>none)↔(∃o,M b=some o)/\s.heap.get? b=some ob:=λb ob=>by
  rw[List.mem_filterMap]
  constructor
  ·rintro⟨c,hc,e⟩;cases q:M c with
   |none=>rw[q] at e;cases e
   |some o =>
    cases q2:s.heap.get? c with
    |none=>rw[q,q2] at e;cases e
    |some o2 =>
     rw[q,q2] at e;cases e;exact⟨⟨o,q⟩,q2⟩
  ·rintro⟨⟨o,q⟩,q2⟩;exact⟨b,mo.NR b o q,by rw[q,q2]⟩
 generalize ms.filterMap (λb=>match M b,s.heap.get? b with |some _,some ob=>some (b,ob) |_,_=>none)=pm at UL;have sX:∀b o,M b=some o->b∉X.fs:=λb o e z=>by
  have hb:b∈tu X.stack:=by
   rcases I.ok.Hr with y |⟨y,_⟩
   ·rw[y];exact z
   ·rw[y];unfold tu;rw[List.filterMap_cons];split
    ·exact z
    ·exact List.mem_cons_of_mem _ z
  have:=I.oq b hb;rw[bR e] at this;cases this
 have plain:∀b o,M b=some o->(∀xs,o≠.iQ xs)/\(∀x u,o≠.sX x u)/\∀ps,o≠.KJ ps:=λb o e=>by
  have:=mo.UK b o e;refine⟨λxs z=>?_,λx u z=>?_,λps z=>?_⟩ <;> (rw[z] at this;exact this)
 refine⟨pm,⟨λb o e=>?_,λvT σ' H' s' hp sh I'=>?_⟩,?_,λp hp=>(cI (I.fw p (List.mem_append_right _ hp)).2.1).1⟩
 ·obtain⟨ob,q,_⟩:=objs b o e;exact⟨ob,(UL b ob).mpr ⟨⟨o,e⟩,q⟩⟩
 ·have jT:∀b o u,M b=some o->s.heap.get? b=some u->s'.heap.get? b=some u/\H' b=none:=λb o u e q=>by
   have h:=I'.fw (b,u) (List.mem_append_left _ (show (b,u)∈pm++X.pn from List.mem_append_left _ ((UL b u).mpr ⟨⟨o,e⟩,q⟩)));exact⟨h.1,h.2.1⟩
  have Eh:Dj H' M:=λb o e=>let ⟨ob,q,_⟩:=objs b o e;(jT b o ob e q).2;refine⟨Eh,⟨I'.ok.NS,I'.os,I'.fF,⟨I'.base.keep,I'.base.slot,λb o e n x=>?_,I'.base.there,λb xs e=>cW Eh (I'.base.oj b xs e),λb o u e=>cW Eh (I'.base.ni b o u e),λb ps e=>let ⟨m,z⟩:=I'.base.om b ps e;⟨m,cW Eh z⟩⟩,I'.loc,I'.cell,?_,λx c e=>?_,λp hq=>?_,λa o e=>?_,I'.len⟩⟩
  ·have h1:=(cI (I.base.free b o e n x)).1;rw[dU h1];exact I'.base.free b o e n x
  ·rw[dU (cI I.free).1];exact I'.free
  ·rw[dU (cI (I.fT x c e)).1];exact I'.fT x c e
  ·have h:=I'.fw p (by
    rcases List.mem_append.mp hq with z |z
    ·exact List.mem_append_left _ (List.mem_append_right _ z)
    ·exact List.mem_append_right _ z)
   have hn:M p.1=none:=by
    rcases List.mem_append.mp hq with z |z
    ·exact(cI (I.fw p (List.mem_append_left _ z)).2.1).1
    ·exact hp p z
   exact⟨h.1,by rw[dU hn];exact h.2.1,h.2.2⟩
  ·rcases eO e with q |⟨_,q⟩
   ·have x:cB X.prog X.w (join H M) s.heap a o:=I.hok a o (bR q);refine x.SM (mo.UK a o q) (λu z=>(jT a o u q z).1) (λC dx fs u z y=>?_) (λC dx fs z=>?_) λb xs z=>?_
    ·rw[z] at q;exact(jT dx _ u (mo.g9 _ _ _ _ q) y).1
    ·rw[z] at q;exact bR (mo.g9 _ _ _ _ q)
    ·rcases eO z with y |⟨_,y⟩
     ·exact absurd rfl ((plain b _ y).1 xs)
     ·exact cW Eh (sh b _ y)
   ·exact(show cB X.prog X.w H' s'.heap a o from I'.hok a o q).rN (λ_ _ _ z=>z) (λb z=>cW Eh z) λb xs z=>cW Eh z
 ·refine⟨I.ok.fw pm,I.os,I.fF,⟨I.base.keep,I.base.slot,λb o e n x=>(cI (I.base.free b o e n x)).2,I.base.there,λb xs e=>?_,λb o u e=>?_,λb ps e=>?_⟩,I.loc,I.cell,(cI I.free).2,λx c e=>(cI (I.fT x c e)).2,λp hq=>?_,λa o e=>?_,I.len⟩
  ·rcases eO (I.base.oj b xs e) with y |⟨_,y⟩
   ·exact absurd rfl ((plain b _ y).1 xs)
   ·exact y
  ·rcases eO (I.base.ni b o u e) with y |⟨_,y⟩
   ·exact absurd rfl ((plain b _ y).2.1 o u)
   ·exact y
  ·obtain⟨m,z⟩:=I.base.om b ps e;rcases eO z with y |⟨_,y⟩
   ·exact absurd rfl ((plain b _ y).2.2 _)
   ·exact⟨m,y⟩
  ·have u0:p∈pm\/p∈X.pn++pins:=by
    rcases List.mem_append.mp hq with z |z
    ·rcases List.mem_append.mp (show p∈pm++X.pn from z) with y |y
     ·exact .inl y
     ·exact .inr (List.mem_append_left _ y)
    ·exact .inr (List.mem_append_right _ z)
   rcases u0 with z |z
   ·obtain⟨b,ob⟩:=p;obtain⟨⟨o,q⟩,q2⟩:=(UL b ob).mp z;refine⟨q2,dj b o q,λy=>?_,sX b o q,?_⟩
    ·have:=I.free;rw[<-(show b=X.env.locals from y),bR q] at this;cases this
    ·obtain⟨ob',q3,nc⟩:=objs b o q;rw[q2] at q3;cases q3;exact nc
   ·have h:=I.fw p z;exact⟨h.1,(cI h.2.1).2,h.2.2⟩
  ·refine(show cB X.prog X.w (join H M) s.heap a o from I.hok a o (cW dj e)).rN (λ_ _ _ z=>z) (λb z=>?_) λb xs z=>?_
   ·rcases eO z with y |⟨_,y⟩
    ·obtain⟨C,fs,hi⟩:=mo.own b a y;have:=dj a _ hi;rw[e] at this;cases this
    ·exact y
   ·rcases eO z with y |⟨_,y⟩
    ·exact absurd rfl ((plain b _ y).1 xs)
    ·exact y
end
section
variable{X:Cx}{σ:St}{H M:Hp}{ms:List Addr}
theorem Ev.frame{e:Expr}{Q:VK}(mo:MOk M ms)(dj:Dj H M)(h:∀pm,kr X M H pm->Ev (X.fw pm) e σ H λv H1=>aM H H1/\Q v H1):Ev X e σ (join H M) λv H2=>∃H1,H2=join H1 M/\Dj H1 M/\aM H H1/\Q v H1:=λpins s I=>by
 obtain⟨pm,P,I1,hp⟩:=I.SN dj mo;refine dB (h pm P pins s I1) λu s' ⟨v,H1,I2,r,sm,q⟩=>?_;obtain⟨ir,I3⟩:=P.mM pins σ H1 s' hp sm I2;exact⟨v,_,I3,r,H1,rfl,ir,sm,q⟩
theorem Te.frame{e:Expr}{Q:Bool->Hp->Prop}(mo:MOk M ms)(dj:Dj H M)(h:∀pm,kr X M H pm->Te (X.fw pm) e σ H λv H1=>aM H H1/\Q v H1):Te X e σ (join H M) λv H2=>∃H1,H2=join H1 M/\Dj H1 M/\aM H H1/\Q v H1:=λpins s I=>by
 obtain⟨pm,P,I1,hp⟩:=I.SN dj mo;refine dB (h pm P pins s I1) λu s' ⟨H1,I2,sm,q⟩=>?_;obtain⟨ir,I3⟩:=P.mM pins σ H1 s' hp sm I2;exact⟨_,I3,H1,rfl,ir,sm,q⟩
theorem Ar.frame{es:List Expr}{Q:List V->Hp->Prop}(mo:MOk M ms)(dj:Dj H M)(h:∀pm,kr X M H pm->Ar (X.fw pm) es σ H λv H1=>aM H H1/\Q v H1):Ar X es σ (join H M) λv H2=>∃H1,H2=join H1 M/\Dj H1 M/\aM H H1/\Q v H1:=λpos pins s I=>by
 obtain⟨pm,P,I1,hp⟩:=I.SN dj mo;refine dB (h pm P pos pins s I1) λu s' ⟨v,H1,I2,r,sm,q⟩=>?_;obtain⟨ir,I3⟩:=P.mM pins σ H1 s' hp sm I2;exact⟨v,_,I3,r,H1,rfl,ir,sm,q⟩
theorem jk.frame{st:Stmt}{D:cT}(mo:MOk M ms)(dj:Dj H M)
  (h:∀pm,kr X M H pm->jk (X.fw pm) st {nx:=λσ' H1=>aM H H1/\D.nx σ' (join H1 M),rt:=λv H1=>aM H H1/\D.rt v (join H1 M),bk:=λσ' H1=>aM H H1/\D.bk σ' (join H1 M),ct:=λσ' H1=>aM H H1/\D.ct σ' (join H1 M)} σ H):jk X st D σ (join H M):=λpins s I=>by
 obtain⟨pm,P,I1,hp⟩:=I.SN dj mo;refine dB (h pm P pins s I1) λf s' q=>?_;cases f with
 |next=>obtain⟨σ',H1,I2,sm,q⟩:=q;exact⟨σ',_,(P.mM pins σ' H1 s' hp sm I2).2,q⟩
 |brk=>obtain⟨σ',H1,I2,sm,q⟩:=q;exact⟨σ',_,(P.mM pins σ' H1 s' hp sm I2).2,q⟩
 |cont=>obtain⟨σ',H1,I2,sm,q⟩:=q;exact⟨σ',_,(P.mM pins σ' H1 s' hp sm I2).2,q⟩
 |ret u=>obtain⟨v,σ',H1,I2,r,sm,q⟩:=q;exact⟨v,σ',_,(P.mM pins σ' H1 s' hp sm I2).2,r,q⟩
theorem iF.fw{E:XK}{pm:List (Addr×Obj)}(T:iF X E)(P:kr X M H pm):iF (X.fw pm) (λc d H'=>aM H H'/\(Dj H' M->E c d (join H' M))):=λpins σ' H' s ea C dx g0 n0 I S F ⟨sm,q⟩=>by
 have I0:Inv (X.fw pm) [] σ' H' s:=I.oA λp hp=>absurd hp (by simp);obtain⟨dj,I1⟩:=P.mM [] σ' H' s (λp hp=>absurd hp (by simp)) sm I0;refine T [] σ' (join H' M) s ea C dx g0 n0 I1 ⟨S.O8,S.lt,S.sz,S.FD,S.loc,λp hp=>S.pn p (List.mem_append_right _ hp),S.ex,S.NL⟩ ⟨F.new,cW dj F.at_,?_⟩ (q dj);have e:Pn n0 (join H' M) ea=Pn n0 H' ea:=by
  funext b;refine propext ⟨λ⟨h1,h2⟩=>⟨h1,?_⟩,λ⟨h1,h2⟩=>⟨h1,?_⟩⟩
  ·rcases h2 with z |⟨u,z⟩
   ·exact .inl z
   ·rcases eO z with y |⟨_,y⟩
    ·obtain⟨ob,DK⟩:=P.NR b u y;exact .inl (S.lt b (S.pn (b,ob) (List.mem_append_left _ DK)))
    ·exact .inr ⟨u,y⟩
  ·rcases h2 with z |⟨u,z⟩
   ·exact .inl z
   ·exact .inr ⟨u,cW dj z⟩
 rw[e];exact F.on
theorem sw(i:Nat){f x:Str}{R:Rv}{pm:List (Addr×Obj)}{r C dx:Addr}{fs:List (Str×V)}{v:V}{pos p2:Pos}(P:kr X M H pm)(hs:σ[i]?=some (some (.ref r)))(hM:M r=some (.g9 C dx fs))(c:ve X.K C)(n:gr X.K C f)(l:fs.lookup f=some v)(hR:R v H)(hm:Mon R)
  (hN:X.N[i]?=some x:=by rfl)(hv:uZ X.env.scope x:=by first |exact Or.inl rfl |exact Or.inr (Or.inl rfl) |exact Or.inr (Or.inr rfl))(hd:(x == ("__debug__":Str))=false:=by decide)
  (lA:(x == ("__classdict__":Str))=false:=by decide)(hb:attributeBase (.Name x p2) f X.env (eval (.Name x p2) X.env)=eval (.Name x p2) X.env:=by rfl):Yd (X.fw pm) σ H (.Attribute (.Name x p2) f pos) R:=λH1 s1 pins s I=>by
 refine xD hb (dB ((gC (X:=X.fw pm) (i:=i) (x:=x) (pos:=p2) hN hv hd lA) pins s σ H1 (λy H2=>y=.ref r/\H2=H1) I ⟨_,hs,rfl,rfl⟩) λu s2 ⟨y,H2,I2,ry,e1,e2⟩=>?_);subst e1 e2;obtain rfl:u=Value.ref r:=ry;have I0:Inv (X.fw pm) [] σ H2 s2:=I2.oA λp hp=>absurd hp (by simp);obtain⟨dj,I1⟩:=P.mM [] σ H2 s2 (λp hp=>absurd hp (by simp)) s1 I0;obtain⟨mA,O,q,_,_,_⟩:=sf I1.hok (bR hM);obtain⟨u,hu,ru⟩:=jy.oE (v:=v) (o:=mA f) (by rw[<-l];exact q f);exact DV (A:=X.A) I1.je O (c.get f) c.hd n hu (qk ru) ⟨v,H2,I2.tok _,ru,sm,hm _ _ _ s1 hR⟩
end
abbrev IL:List Str:=["text","token"]
def rd(C r dx:Addr)(xv tv:V):Hp:=dE (dE (λ_=>none) dx (.own r)) r (.g9 C dx (fL IL [xv,tv] []))
theorem oW{C r dx:Addr}{xv tv:V}:rd C r dx xv tv r=some (.g9 C dx (fL IL [xv,tv] [])):=aC
theorem wq{C r dx:Addr}{xv tv:V}(ne:dx≠r):rd C r dx xv tv dx=some (.own r):=by unfold rd;rw[aB ne];exact aC
theorem IM{C r dx b:Addr}{xv tv:V}(h1:b≠r)(h2:b≠dx):rd C r dx xv tv b=none:=by unfold rd;rw[aB h1,aB h2]
theorem t6{C r dx b:Addr}{xv tv:V}{o:HO}(h:rd C r dx xv tv b=some o):b=r\/b=dx:=by
 by_cases h1:b=r
 ·exact .inl h1
 ·by_cases h2:b=dx
  ·exact .inr h2
  ·rw[IM h1 h2] at h;cases h
theorem bT{C r dx:Addr}{xv tv:V}(ne:dx≠r):MOk (rd C r dx xv tv) [r,dx]:=by
 refine⟨λb o h=>?_,λb o h=>?_,λb a h=>?_,λa C' Wc fs h=>?_⟩
 ·rcases t6 h with rfl |rfl <;> simp
 ·rcases t6 h with rfl |rfl
  ·rw[oW] at h;cases h;trivial
  ·rw[wq ne] at h;cases h;trivial
 ·rcases t6 h with rfl |rfl
  ·rw[oW] at h;cases h
  ·rw[wq ne] at h;cases h;exact⟨_,_,oW⟩
 ·rcases t6 h with rfl |rfl
  ·rw[oW] at h;cases h;exact wq ne
  ·rw[wq ne] at h;cases h
theorem SO{C r dx:Addr}{xv tv wr:V}{H:Hp}(ne:dx≠r)(dj:Dj H (rd C r dx xv tv)):Dj H (rd C r dx xv wr):=λb o h=>by
 rcases t6 h with rfl |rfl
 ·exact dj _ _ oW
 ·exact dj _ _ (wq ne)
theorem Pt{C r dx:Addr}{xv tv wr:V}{H:Hp}:dE (join H (rd C r dx xv tv)) r (.g9 C dx (gk "token" wr (fL IL [xv,tv] [])))=join H (rd C r dx xv wr):=by
 have ne:¬(("text":Str)=("token":Str)):=by decide
 have e:gk "token" wr (fL IL [xv,tv] [])=fL IL [xv,wr] []:=by
  simp [fL,gk,ne]
 rw[e];funext b
 by_cases h:b=r
 ·subst h;rw[aC,bR oW]
 ·rw[aB h];unfold join rd;rw[aB h,aB h]
theorem NT{C r dx:Addr}{xv tv:V}:(fL IL [xv,tv] []).lookup ("token":Str)=some tv:=fV (i:=1) d_ rfl rfl
theorem NU{C r dx:Addr}{xv tv:V}:(fL IL [xv,tv] []).lookup ("text":Str)=some xv:=fV (i:=0) d_ rfl rfl
theorem Ei{m:Str}{xv tv:V}(h1:m≠"text")(h2:m≠"token"):(fL IL [xv,tv] []).lookup m=none:=by
 have:=iH (f:=m) (ns:=IL) (ys:=[xv,tv]) (fs:=[]) (by simp [h1,h2]);rw[this];rfl
structure ze where
 C:Addr
 tx:Rv
 tok:Nat->Rv
structure ze.Ok(S:ze):Prop where
 tx:Mon S.tx
 tok:∀i,Mon (S.tok i)
structure On(S:ze)(r dx:Addr)(xv:V)(i:Nat)(tv:V)(H:Hp):Prop where
 ne:dx≠r
 dj:Dj H (rd S.C r dx xv tv)
 tx:S.tx xv H
 tok:S.tok i tv H
theorem On.au{S:ze}{r dx:Addr}{xv:V}{i:Nat}{tv:V}{H H1:Hp}(o:On S r dx xv i tv H)(ok:S.Ok)(s:aM H H1)(dj:Dj H1 (rd S.C r dx xv tv)):On S r dx xv i tv H1:=⟨o.ne,dj,ok.tx _ _ _ s o.tx,ok.tok i _ _ _ s o.tok⟩
def ln(S:ze)(r dx:Addr)(xv:V)(o:Except Ex (Rv×Nat))(H:Hp)(Q:VK)(E:XK):Prop:=match o with
 |.ok (R,j)=>∀v H1 tv,aM H H1->On S r dx xv j tv H1->R v H1->Q v (join H1 (rd S.C r dx xv tv))
 |.error x=>∀c d H1,aM H H1->x c d H1->E c d H1
theorem ln.au{S:ze}{r dx:Addr}{xv:V}{o:Except Ex (Rv×Nat)}{H H':Hp}{Q:VK}{E:XK}(h:ln S r dx xv o H Q E)(s:aM H H'):ln S r dx xv o H' Q E:=by
 cases o with
 |ok y=>exact λv H1 tv s1=>h v H1 tv (s.trans s1)
 |error x=>exact λc d H1 s1=>h c d H1 (s.trans s1)
def sx(S:ze)(i:Nat)(Rs:List Rv)(o:Except Ex (Rv×Nat)):Sp:=λvs H Q E=>∃r dx xv tv ws H0,vs=.ref r::ws/\H=join H0 (rd S.C r dx xv tv)/\On S r dx xv i tv H0/\iE Rs ws H0/\ln S r dx xv o H0 Q E
theorem sx.len{S:ze}{i:Nat}{Rs:List Rv}{o:Except Ex (Rv×Nat)}{ps:List Str}(h:Rs.length+1=ps.length):∀vs H Q E,sx S i Rs o vs H Q E->vs.length=ps.length:=λvs H Q E ⟨r,dx,xv,tv,ws,H0,e,_,_,ha,_⟩=>by rw[e,List.length_cons,ha.len];exact h
theorem B7.ak{C:Addr}{names:List Str}{Rs:List Rv}{c:Value}{d:Option Addr}{H H':Hp}(m:jl Rs)(s:aM H H')(h:B7 C names Rs c d H):B7 C names Rs c d H':=let ⟨e,dx,ys,e1,e2,e3⟩:=h;⟨e,dx,ys,e1,s _ _ e2,e3.au m s⟩
section
variable{X:Cx}{σ:St}{H M:Hp}{E:XK}{S:ze}{r dx:Addr}{xv tv:V}{i:Nat}{ms:List Addr}
theorem nz{a:Expr}{R:Rv}{D:cT}{k:Nat}{x:Str}{pos pos':Pos}(mo:MOk M ms)(dj:Dj H M)(h:∀pm,kr X M H pm->Yd (X.fw pm) σ H a R)(q:∀v H1,aM H H1->Dj H1 M->R v H1->D.nx (σ.set k (some v)) (join H1 M))(hN:X.N.Nodup)(hi:X.N[k]?=some x:=by rfl)(hx:DN X.env.scope x:=by exact Or.inl rfl)
  (hs:swapsWith a (some (.Name x pos')) pos.line X.env=pure false:=by rfl)(hf:X.fn x=true\/X.env.scope.names.lookup x=some .local:=by first |exact .inl rfl |exact .inr rfl):jk X (.Assign [.Name x pos'] a pos) D σ (join H M) :=
 (qh hN hi hx pE hs hf).do ((Ev.frame mo dj λpm P=>h pm P H sm).aw λv H2 ⟨H1,e,ir,s1,r⟩=>by rw[e];exact q v H1 s1 ir r)
theorem hX{a:Expr}{R:Rv}{D:cT}{pos:Pos}(mo:MOk M ms)(dj:Dj H M)(h:∀pm,kr X M H pm->Yd (X.fw pm) σ H a R)(q:∀v H1,aM H H1->Dj H1 M->R v H1->D.rt v (join H1 M)):jk X (.Return (some a) pos) D σ (join H M) :=
 kR ((Ev.frame mo dj λpm P=>h pm P H sm).aw λv H2 ⟨H1,e,ir,s1,r⟩=>by rw[e];exact q v H1 s1 ir r)
theorem iu{c:Expr}{k:Bool}{t e:List Stmt}{D:cT}{pos:Pos}(mo:MOk M ms)(dj:Dj H M)(h:∀pm,kr X M H pm->Yt (X.fw pm) σ H c k)(h1:k=true->∀H1,aM H H1->Dj H1 M->Do X t D σ (join H1 M))(h2:k=false->∀H1,aM H H1->Dj H1 M->Do X e D σ (join H1 M)):jk X (.If c t e pos) D σ (join H M) :=
 NQ ((Te.frame mo dj λpm P=>h pm P H sm).aw λd H2 ⟨H1,e1,ir,s1,q⟩=>by
  subst q;rw[e1];cases d with
  |true=>exact h1 rfl H1 s1 ir
  |false=>exact h2 rfl H1 s1 ir)
theorem gI{j:Nat}{x:Str}{names:List Str}{C N:Addr}{Rs:List Rv}{e:Expr}{es:List Expr}{D:cT}{np gE pos:Pos}(mo:MOk M ms)(dj:Dj H M)(F:IG X.prog X.w X.K X.mg X.base x names C N)(hT:iF X E)(hc:X.gB=true)(hr:cx j X.A)(hg:Gl X x)(ha:∀pm,kr X M H pm->Ya (X.fw pm) σ H (e::es) Rs)(hM:jl Rs)(hl:Rs.length=names.length)
  (q:∀c d H2,aM H H2->B7 C names Rs c d H2->E c d H2)(hn:names.length<1000:=by decide)(jX:2<=j:=by decide)(hex:X.ex=[]:=by rfl)(hd:(x == ("__debug__":Str))=false:=by decide)
  (he:starEach (e::es) X.env=(false,eval e X.env)::starEach es X.env:=by rfl)(d9:(backTo gE (starEach es X.env)).any (·.1)=false:=by rfl):jk X (.Raise (some (.Call (.Name x np) (e::es) [] gE)) none pos) D σ (join H M) :=
 jk.frame mo dj λpm P=>fH (X:=X.fw pm) (E:=λc d H'=>aM H H'/\(Dj H' M->E c d (join H' M))) F (hT.fw P) hc hr hg (ha pm P) hM hl (λc d H2 s2 r2=>⟨s2,λlx=>q c d (join H2 M) (s2.trans (ci lx)) (B7.ak hM (ci lx) r2)⟩) hn jX hex hd he d9
theorem wt{e:Expr}{es:List Expr}{Rs:List Rv}(o:On S r dx xv i tv H)(ha:∀pm,kr X (rd S.C r dx xv tv) H pm->Ya (X.fw pm) σ H (e::es) Rs) :
  Ar X (e::es) σ (join H (rd S.C r dx xv tv)) λvs H2=>∃H1,H2=join H1 (rd S.C r dx xv tv)/\Dj H1 (rd S.C r dx xv tv)/\aM H H1/\iE Rs vs H1:=Ar.frame (bT o.ne) o.dj λpm P=>ha pm P H sm
theorem iw{j k:Nat}{ps:List Str}{Rs:List Rv}{oo:Except Ex (Rv×Nat)}{x:Str}{p pos:Pos}{e:Expr}{es:List Expr}{Q:VK}(ok:S.Ok)(o:On S r dx xv i tv H)(F:fq X.prog X.w X.K X.mg X.base x k ps (sx S i Rs oo))(hT:iF X E)(hr:cx j X.A)(hg:Gl X x)
  (ha:∀pm,kr X (rd S.C r dx xv tv) H pm->Ya (X.fw pm) σ H (e::es) (Vi (.ref r)::Rs))(h:ln S r dx xv oo H Q E)(jX:k<=j:=by decide)(hex:X.ex=[]:=by rfl)
  (kf:(x == ("__debug__":Str))=false:=by decide)(he:starEach (e::es) X.env=(false,eval e X.env)::starEach es X.env:=by rfl)(d9:(backTo pos (starEach es X.env)).any (·.1)=false:=by rfl) :
  Ev X (.Call (.Name x p) (e::es) [] pos) σ (join H (rd S.C r dx xv tv)) Q:=by
 obtain⟨_,_,f,m,kp,b⟩:=F;refine(jB f (hr.aw jX) hg m kp b .nil (hT.passes hex) pA kf he d9).ev ((wt o ha).aw λvs H2 ⟨H1,e1,ir,s1,a1⟩=>?_);rw[List.append_nil]
 match vs,a1 with
 |v::ws,⟨ev,a2⟩ =>
  have ev:v=.ref r:=ev;subst ev;exact⟨r,dx,xv,tv,ws,H1,rfl,e1,o.au ok s1 ir,a2,h.au s1⟩
def Pu(P:Program)(w:World)(K:Frag)(mg:Str->Option Value)(base:Heap)(C:Addr)(m:Str)(k:Nat)(ps:List Str)(sp:Sp):Prop:=∃f fd,zw K C m f/\g5 P w K mg base (rh P w) k f fd ps sp/\fG K fd ps []
theorem jm{j k:Nat}{ps:List Str}{Rs:List Rv}{oo:Except Ex (Rv×Nat)}{n:Nat}{x m:Str}{p apos pos:Pos}{e:Expr}{es:List Expr}{Q:VK}{pl:Sem Bool}(ok:S.Ok)(o:On S r dx xv i tv H)(c:ve X.K S.C)(F:Pu X.prog X.w X.K X.mg X.base S.C m k ps (sx S i Rs oo))(hT:iF X E)(hr:cx j X.A)
  (hs:σ[n]?=some (some (.ref r)))(ha:∀pm,kr X (rd S.C r dx xv tv) H pm->Ya (X.fw pm) σ H (e::es) Rs)(h:ln S r dx xv oo H Q E)(Q9:m≠"text":=by decide)(IN:m≠"token":=by decide)(jX:k<=j:=by decide)(hex:X.ex=[]:=by rfl)
  (hN:X.N[n]?=some x:=by rfl)(hv:uZ X.env.scope x:=by first |exact Or.inl rfl |exact Or.inr (Or.inl rfl) |exact Or.inr (Or.inr rfl))(hd:(x == ("__debug__":Str))=false:=by decide)(lA:(x == ("__classdict__":Str))=false:=by decide)
  (j9:starEach (e::es) X.env=(false,eval e X.env)::starEach es X.env:=by rfl)(d9:(backTo pos (starEach es X.env)).any (·.1)=false:=by rfl)
  (ht:eval (.Call (.Attribute (.Name x p) m apos) (e::es) [] pos) X.env=(do
   let ov<-eval (.Name x p) X.env
   standAt apos.atName
   let (f,first)<-holding [ov] (getMethod ov m pl)
   callWith pos f first (backTo pos (starEach (e::es) X.env)) (backToKw pos (keywordEach [] X.env))):=by rfl) :
  Ev X (.Call (.Attribute (.Name x p) m apos) (e::es) [] pos) σ (join H (rd S.C r dx xv tv)) Q:=by
 obtain⟨_,_,mm,f,b⟩:=F;refine(K8 (pl:=pl) (gC (i:=n) hN hv hd lA) c mm f (hr.aw jX) b .nil (hT.passes hex) pA j9 d9 ht).ev ⟨_,hs,r,dx,_,rfl,bR oW,Ei Q9 IN,(wt o ha).aw λvs H2 ⟨H1,e1,ir,s1,a1⟩=>?_⟩;rw[List.append_nil];exact⟨r,dx,xv,tv,vs,H1,rfl,e1,o.au ok s1 ir,a1,h.au s1⟩
theorem wu{j k:Nat}{ps:List Str}{oo:Except Ex (Rv×Nat)}{n:Nat}{x m:Str}{p apos pos:Pos}{Q:VK}{pl:Sem Bool}(ok:S.Ok)(o:On S r dx xv i tv H)(c:ve X.K S.C)(F:Pu X.prog X.w X.K X.mg X.base S.C m k ps (sx S i [] oo))(hT:iF X E)(hr:cx j X.A)
  (hs:σ[n]?=some (some (.ref r)))(h:ln S r dx xv oo H Q E)(Q9:m≠"text":=by decide)(IN:m≠"token":=by decide)(jX:k<=j:=by decide)(hex:X.ex=[]:=by rfl)
  (hN:X.N[n]?=some x:=by rfl)(hv:uZ X.env.scope x:=by first |exact Or.inl rfl |exact Or.inr (Or.inl rfl) |exact Or.inr (Or.inr rfl))(hd:(x == ("__debug__":Str))=false:=by decide)(lA:(x == ("__classdict__":Str))=false:=by decide)
  (ht:eval (.Call (.Attribute (.Name x p) m apos) [] [] pos) X.env=(do
   let ov<-eval (.Name x p) X.env
   standAt apos.atName
   let (f,first)<-holding [ov] (getMethod ov m pl)
   callWith pos f first (backTo pos (starEach [] X.env)) (backToKw pos (keywordEach [] X.env))):=by rfl) :
  Ev X (.Call (.Attribute (.Name x p) m apos) [] [] pos) σ (join H (rd S.C r dx xv tv)) Q:=by
 obtain⟨_,_,mm,f,b⟩:=F;exact(HR (pl:=pl) (gC (i:=n) hN hv hd lA) c mm f (hr.aw jX) b .nil (hT.passes hex) ht).ev ⟨_,hs,r,dx,_,rfl,bR oW,Ei Q9 IN,r,dx,xv,tv,[],H,rfl,rfl,o,trivial,h⟩
theorem kT{a:Expr}{D:cT}{k:Nat}{x:Str}{pos pos':Pos}{H:Hp}(h:Ev X a σ H λv H1=>D.nx (σ.set k (some v)) H1)(hN:X.N.Nodup)(hi:X.N[k]?=some x:=by rfl)(hx:DN X.env.scope x:=by exact Or.inl rfl)
  (hs:swapsWith a (some (.Name x pos')) pos.line X.env=pure false:=by rfl)(hf:X.fn x=true\/X.env.scope.names.lookup x=some .local:=by first |exact .inl rfl |exact .inr rfl):jk X (.Assign [.Name x pos'] a pos) D σ H:=(qh hN hi hx pE hs hf).do h
theorem dL{n:Nat}{f x:Str}{Rf:Rv}{pm:List (Addr×Obj)}{pos p1 p2:Pos}(ok:S.Ok)(o:On S r dx xv i tv H)(P:kr X (rd S.C r dx xv tv) H pm)(c:ve X.K S.C)(na:gr X.K S.C "token")(hf:gu X.K (S.tok i) f Rf)(hs:σ[n]?=some (some (.ref r)))
  (hN:X.N[n]?=some x:=by rfl)(hv:uZ X.env.scope x:=by first |exact Or.inl rfl |exact Or.inr (Or.inl rfl) |exact Or.inr (Or.inr rfl))(hd:(x == ("__debug__":Str))=false:=by decide)
  (lA:(x == ("__classdict__":Str))=false:=by decide)(hb:attributeBase (.Name x p2) "token" X.env (eval (.Name x p2) X.env)=eval (.Name x p2) X.env:=by rfl)(hb2:attributeBase (.Attribute (.Name x p2) "token" p1) f X.env (eval (.Attribute (.Name x p2) "token" p1) X.env)=eval (.Attribute (.Name x p2) "token" p1) X.env:=by rfl) :
  Yd (X.fw pm) σ H (.Attribute (.Attribute (.Name x p2) "token" p1) f pos) Rf:=aj hf (sw n P hs oW c na (NT (C:=S.C) (r:=r) (dx:=dx)) o.tok (ok.tok i) hN hv hd lA hb) hb2
end
end L2
end
section
namespace Fx
open PySem
section
variable{M:Model}{A:Around}{E:Value->Shared->Prop}{s:Shared}{P:Addr->Prop}{e L:Addr}{cls:Value}{dx:Option Addr}{env:Env}{ai:List Env}{base:Heap}{Q:Unit->Shared->Prop}
def Ra(h:Heap)(e:Addr):Prop:=∃oe vs T,h.get? e=some oe/\oe.data=.fields vs/\vs[1]?=some (.ref T)
theorem wv{head:Value}{U7:Bool}(rV:A.frames=some (env::ai))(hl:s.heap.FunFrames base (env::ai))(hf:env.frame=some L)(hP:∀b,P b->b<s.heap.objs.size)
  {oe:Obj}{vs:Array Value}(he:s.heap.get? e=some oe)(hd:oe.data=.fields vs)(hz:5<vs.size)(hn:¬P e)
  (hQ:∀h',Nt ((env::ai).filterMap (·.frame)) P s.heap h'->zj P h' e oe.cls oe.dict->Ra h' e->Q () {s with heap:=h'}) :
  wpAny M A (do let a<-frameOf env;let pl<-entryPlaceOf L U7;let b<-EntryCells.newEntry head a .none (rawInt L) .none pl;setField (.ref e) 1 b) Q E s:=by
 have Ru:e∉(env::ai).filterMap (·.frame):=λhm=>by
  obtain⟨_,o,ho,E5⟩:=hl.mem hm;rw[he] at ho;cases ho;exact E5 vs hd
 refine wpAny_bind (wpAny_frameOf_fun rV hl hf λh1 x1=>?_);refine wpAny_bind (wpAny_entryPlaceOf λpl d9=>?_);unfold EntryCells.newEntry newFields;refine wpAny_bind (wpAny_newObj_type ?_ (d9.sizeOk5 _ _ _ _ _));generalize DK:({cls:=.type "traceback",dict:=none,data:=.fields ([head,.ref L,.none,rawInt L,.none]++(if pl.isEmpty then List.replicate 6 Value.none else pl)).toArray}:Obj)=ob;have e1:h1.get? e=some oe:=(x1.2.1 e Ru).trans he;have e2:=Heap.get?_push_of_some (h:=h1) ob e1;refine wpAny_setField e2 hd o_ ?_;have nT:h1.objs.size≠e:=Nat.ne_of_gt (Heap.lt_size e1);have d3:=Obj.data_mapFields hd (·.setIfInBounds 1 (Value.ref h1.objs.size));have e3:=Heap.get?_update_self (Obj.mapFields (·.setIfInBounds 1 (Value.ref h1.objs.size))) e2 (Obj.isFreed_of_fields d3);have hT:(h1.push ob).get? h1.objs.size=some ob:=Heap.get?_push_size h1 (by rw[<-DK];rfl);have U8:=(Heap.get?_update_other (h1.push ob) (Obj.mapFields (·.setIfInBounds 1 (Value.ref h1.objs.size))) (Ne.symm nT)).trans hT;have f1:(vs.setIfInBounds 1 (Value.ref h1.objs.size))[1]?=some (.ref h1.objs.size):=by
  simp only[Array.getElem?_setIfInBounds];simp [show 1<vs.size by omega]
 refine hQ _ (((zk x1).trans (DJ ob)).trans (lD _ e2 hd hn Ru)) ⟨_,_,e3,Obj.cls_mapFields _ _,p0 _ _,d3,by rw[Array.size_setIfInBounds];exact hz,hn,.inr ⟨h1.objs.size,ob,_,f1,nT,λp=>?_,U8,by rw[<-DK],?_⟩⟩ ⟨_,_,_,e3,d3,f1⟩
 ·have q:=hP _ p;rw[x1.1] at q;exact absurd q (Nat.lt_irrefl _)
 ·simp only[List.size_toArray,List.length_append,List.length_cons,List.length_nil];omega
theorem IP(rV:A.frames=some (env::ai))(hl:s.heap.FunFrames base (env::ai))(hf:env.frame=some L)(hP:∀b,P b->b<s.heap.objs.size)(F:zj P s.heap e cls dx)
  (hQ:∀h',Nt ((env::ai).filterMap (·.frame)) P s.heap h'->zj P h' e cls dx->Ra h' e->Q () {s with heap:=h'}):wpAny M A (noteFrame (.ref e) env) Q E s:=by
 have F0:=F;obtain⟨oe,vs,he,hc,hx,hd,hz,hn,tr⟩:=F;subst hc;subst hx;unfold noteFrame;simp only[hf];rcases tr with h1 |⟨T,oT,ts,h1,Nw,KI,hT,zm,Ny⟩
 ·refine wpAny_bind (wpAny_field he hd h1 ?_);rw[if_neg d_];exact wv rV hl hf hP he hd hz hn hQ
 ·refine wpAny_bind (wpAny_field he hd h1 ?_);rw[if_pos (show (Value.ref T != Value.none)=true by simp)];obtain⟨fl,h3⟩:∃fl,ts[3]?=some fl:=⟨_,Array.getElem?_eq_getElem Ny⟩
  refine wpAny_bind (wpAny_field hT zm h3 ?_)
  by_cases q:(fl == rawInt L)=true
  ·rw[if_pos q];exact wpAny_pure (hQ s.heap Nt.refl F0 ⟨oe,vs,T,he,hd,h1⟩)
  ·rw[if_neg q];have U9:T∉(env::ai).filterMap (·.frame):=λhm=>by
    obtain⟨_,o,ho,E5⟩:=hl.mem hm;rw[hT] at ho;cases ho;exact E5 ts zm
   refine wpAny_bind (wpAny_setField hT zm Ny ?_);have N1:Nt ((env::ai).filterMap (·.frame)) P s.heap _:=lD (·.setIfInBounds 3 Value.none) hT zm KI U9;have Rw:(s.heap.update T (Obj.mapFields (·.setIfInBounds 3 Value.none))).get? e=some oe:=(Heap.get?_update_other _ _ Nw).trans he;refine wv (base:=base) rV (hl.of_keeps λb o hb E5=>⟨o,?_,rfl⟩) hf (λb p=>?_) Rw hd hz hn λh' N' F' T'=>hQ h' (N1.trans N') F' T'
   ·rw[Heap.get?_update_other _ _ λz=>E5 ts (by rw[z,hb] at hT;cases hT;exact zm)];exact hb
   ·rw[Heap.size_after_update];exact hP b p
theorem LP{α:Type}{Wd:String}{fs:List Addr}{Qa:α->Shared->Prop}(hl:∀b∈fs,∃o,s.heap.get? b=some o/\∀vs,o.data≠.fields vs)(F:zj P s.heap e cls dx)(N:Ra s.heap e)
  (hQ:∀h',Nt fs P s.heap h'->zj P h' e cls dx->E (.ref e) {s with heap:=h'}):wpAny M A (passOn Wd (.ref e) env:Sem α) Qa E s:=by
 obtain⟨oe,vs,T,he,hd,h1⟩:=N;unfold passOn;refine wpAny_bind (wpAny_field he hd h1 ?_);rw[if_neg (show ¬(Value.ref T == Value.none)=true by simp)];exact wpAny_bind (qe hl F _ λh' N' F'=>wpAny_throw (hQ h' N' F'))
theorem zj.We{C:Addr}{h h':Heap}(F:zj P h e cls dx)(sb:Heap.SameBut C h h')(hC:P C):zj P h' e cls dx:=by
 obtain⟨oe,vs,he,hc,hx,hd,hz,hn,tr⟩:=F;refine⟨oe,vs,(sb.2 e λz=>hn (z ▸ hC)).trans he,hc,hx,hd,hz,hn,?_⟩;rcases tr with h1 |⟨T,oT,ts,h1,Nw,KI,hT,r⟩
 ·exact .inl h1
 ·exact .inr ⟨T,oT,ts,h1,Nw,KI,(sb.2 T λz=>KI (z ▸ hC)).trans hT,r⟩
theorem Ra.We{C:Addr}{h h':Heap}(N:Ra h e)(sb:Heap.SameBut C h h')(ne:e≠C):Ra h' e:=let ⟨oe,vs,T,he,r⟩:=N;⟨oe,vs,T,(sb.2 e ne).trans he,r⟩
end
end Fx
namespace L2
open PySem PySem.Spec PyProof.Rows
section
variable{X:Cx}
theorem IQ{E:XK}{pins pn:List (Addr×Obj)}{σ:St}{H3:Hp}{s3:Shared}{scope:Scope}{ce:Env}{fp:List Addr}{use:Option (Value->Sem Unit)}{Qf:Value->Shared->Prop}{acc:Value}(T:iF X E)(j9:X.stack=X.env::X.ai/\X.env.frame=some X.env.locals)(hex:X.ex=[])
  (I3:Inv X pins σ H3 s3)(hC:ce.locals=s3.heap.objs.size)(rV:ce.frame=X.env.frame)(f3:∀b∈fp,tE X pins H3 b/\b<s3.heap.objs.size) :
  iF ((X.zB s3 H3 scope ce fp).tr pn (notedBy (model X.prog X.w) X.A ce λe s'=>compPost (model X.prog X.w) X.A X.xe use Qf acc s3.heap.objs.size (.error e) s')) E:=by
 intro vT σ' H s ea Cc dx g0 n0 I S F q;have I7:Inv X pins σ H s:=I3.zp (ch:=fp) I.os I.base I.hok I.fF λb hb=>⟨(f3 b hb).1.2.2.2.1,(f3 b hb).1.2.1,(f3 b hb).1.2.2.2.2.1,(f3 b hb).1.2.2.2.2.2⟩
 have live:∀b,dR s3.heap b->dR g0 b:=λb z=>by
  by_cases hb:b∈fp
  ·exact S.ex b hb
  ·exact S.FD b z hb
 have hp:∀p∈pins,dR s3.heap p.1:=λp hq=>⟨_,(I3.fw p (List.mem_append_right _ hq)).1⟩
 have S2:ko X s3.heap n0 s.heap:=by
  refine⟨λb z=>S.O8 b (live b z),λb z=>S.lt b (live b z),S.sz,λb ⟨o,e⟩ hx=>I3.base.there b o e hx,?_,λp hq=>⟨_,(I3.fw p (List.mem_append_left _ hq)).1⟩,λb hb=>(by rw[hex] at hb;cases hb),λx c e=>?_⟩
  ·obtain⟨m,⟨o,_,_,ho,_⟩,_⟩:=I3.loc;exact⟨o,ho⟩
  ·obtain⟨v,o,z,_⟩:=I3.cell x c e;exact⟨o,z⟩
 have F0:Bw s3.heap n0 H s.heap ea Cc dx:=F.down live;have nC:H s3.heap.objs.size=none:=by
  have z:H ce.locals=none:=I.free;rwa [hC] at z
 have lC:dR g0 s3.heap.objs.size:=by
  have z:dR g0 ce.locals:=S.loc;rwa [hC] at z
 have Ot:ea≠s3.heap.objs.size:=λz=>F.new (by rw[z];exact lC);have pC:Pn n0 H ea s3.heap.objs.size:=⟨λz=>Ot z.symm,.inl (S.lt _ lC)⟩
 have frC:s3.heap.objs.size∉tu X.stack:=λz=>by
  obtain⟨_,o,ho,_⟩:=I3.stack.mem z;exact absurd (Heap.lt_size ho) (Nat.lt_irrefl _)
 show wpAny _ _ (noteFrame (.ref ea) ce) _ _ _;have en:noteFrame (.ref ea) ce=noteFrame (.ref ea) X.env:=by unfold noteFrame PySem.frameOf;rw[rV]
 rw[en];have Wf:X.A.frames=some (X.env::X.ai):=by rw[I3.ok.frames,j9.1]
 have SQ:=I7.stack;rw[j9.1] at SQ;refine Fx.IP (base:=X.base) Wf SQ j9.2 (Pn.lt I7.hok S2.sz) F.on λh1 N1 F1 T1=>?_;have UE:Fx.Nt (tu X.stack) (Pn n0 H ea) s.heap h1:=by rw[j9.1];exact N1
 have I8:=I7.Lu S2 hp F0.new UE ⟨F0.new,F.at_,F1⟩;obtain⟨m,hn,_⟩:=I.loc;have hn:s.heap.Ns ce.locals m:=hn;rw[hC] at hn;obtain⟨o,es,ep,ho,r⟩:=hn;refine⟨m,⟨o,es,ep,UE.keep _ o ho frC pC,r⟩,λh2 sb gs Le=>?_⟩;obtain⟨_,f1,f2,f3',f4,f5⟩:=I3.Fg (H':=H) (Nat.le_refl _) nC;have I9:Inv X pins σ H {s with heap:=h2}:=I8.jf (t':=s.toks) (λb o hb e=>(sb.2 b hb).trans e) nC f1 f3' f4 f5;have alive:∀b,dR s3.heap b->dR h2 b:=λb z=>by
  obtain⟨o,e⟩:=S2.O8 b z;obtain⟨o',e'⟩:=N1.there b o e;exact⟨o',(sb.2 b (Nat.ne_of_lt (dR.lt z))).trans e'⟩
 have hsz:n0<=h2.objs.size:=by
  have z:=sb.1;have y:n0<=h1.objs.size:=Nat.le_trans S2.sz N1.sz
  first
   |exact Nat.le_trans y (Nat.le_of_eq z)
   |exact Nat.le_trans y (Nat.le_of_eq z.symm)
   |exact Nat.le_trans y z
 have S9:ko X s3.heap n0 h2:=⟨alive,S2.lt,hsz,S2.FD,S2.loc,S2.pn,S2.ex,S2.NL⟩
 have F9:Fx.zj (Pn n0 H ea) h2 ea (.ref Cc) dx:=F1.We sb pC;refine Fx.LP (s:={s with heap:=h2}) (fs:=tu X.stack) (Fx.qf I9.stack) F9 (T1.We sb Ot) λh3 N3 F3=>?_;have Wg:=I9.Lu S9 hp F0.new N3 ⟨F0.new,F.at_,F3⟩;exact T pins σ H _ ea Cc dx s3.heap n0 Wg ⟨λb z=>let ⟨o,e⟩:=alive b z;N3.there b o e,S2.lt,Nat.le_trans hsz N3.sz,S2.FD,S2.loc,S2.pn,S2.ex,S2.NL⟩ ⟨F0.new,F.at_,F3⟩ q
abbrev Cx.z7(X:Cx)(s:Shared)(H:Hp)(scope:Scope)(C:Addr)(cl:List (Str×Addr))(fp:List Addr)(pn:List (Addr×Obj))(xe:Value->Shared->Prop):Cx:=(X.zB s H scope (compEnvC scope cl C X.env) fp).tr pn xe
theorem IR{E:XK}{pins:List (Addr×Obj)}{s:Shared}{σ:St}{H:Hp}{Q:VK}{elt tg iter:Expr}{scope:Scope}{own:List (Str×Nat)}{pos pos':Pos}{wi:TI}{g:TG}{te:TE}{use:Option (Value->Sem Unit)}{Qf:Value->Shared->Prop}
  (T0:iF X E)(j9:X.stack=X.env::X.ai/\X.env.frame=some X.env.locals)(hex:X.ex=[])(hc:X.gB=true)(hN:X.N.Nodup)(I:Inv X pins σ H s)(hi:PI X tg iter wi)(ok:mS X.N X.env.scope scope own)
  (hg:∀(s:Shared) (H:Hp) (C:Addr) (cl:List (Str×Addr)) (fp:List Addr),PG (X.zB s H scope (compEnvC scope cl C X.env) fp) tg g)
  (he:∀(s:Shared) (H:Hp) (C:Addr) (cl:List (Str×Addr)) (fp:List Addr) (pn:List (Addr×Obj)) (xe:Value->Shared->Prop),(∀b∈fp,∃o,(b,o)∈pn)->iF (X.z7 s H scope C cl fp pn xe) E->PE (X.z7 s H scope C cl fp pn xe) elt te)(hs:∀x,foldedSetIterable iter X.env x=pure x)
  (h:X3 wi g Fu te (own.map (·.2)) σ H Q)
  (hRR:∀D C s' m H',Inv X pins σ H' s'->Q (.ref D) H'->s'.heap.Ns C m->tE X pins H' C->compPost (model X.prog X.w) X.A X.xe use Qf (.ref D) C (.ok .next) s') :
  wpAny (model X.prog X.w) X.A (comprehension (.ListComp elt [⟨tg,iter,[],0⟩] scope pos) scope X.env pos' (newList []) false (eval iter X.env) use) Qf X.xe s:=by
 have vU:∀y∈scope.names,y.2=.free->∃c,X.env.cells.lookup y.1=some c:=λy hy e=>by
  rcases ok.free y hy e with k |k
  ·exact I.ok.has _ (.inl k)
  ·exact I.ok.has _ (.inr k)
 refine wpAny_comprehension_free (use:=use) rfl hs (BV vU) ok.kind (λy hy e=>by rw[ok.OY y hy,e])
  (dB (hi pins s σ H _ I h) λxv s1 hx=>dB hx λVs s2 h2=>?_)
 obtain⟨it,fp,tn,J,H2,e,I2,T,Uy,f2,q⟩:=h2;subst e;refine wpAny_newObj_type (zA ?_) (by show 0<=sizeLine;decide);generalize hD:s2.heap.objs.size=D;have hDn:H2 D=none:=I2.hok.fresh (Nat.le_of_eq hD);obtain⟨W,⟨m0,w0⟩,turn⟩:=q D hDn;generalize Rb:({s2 with heap:=s2.heap.push {cls:=.type "list",data:=.seq ([]:List Value).toArray}}:Shared)=s3;have I3:Inv X pins σ (dE H2 D (.de [])) s3:=by
  rw[<-Rb];refine I2.qg (t':=s2.toks) (λb o e=>Heap.get?_push_of_some _ e) (Nat.le_of_eq hD) ⟨Nat.zero_le _,[],0,.nil,?_⟩;rw[<-hD];exact Heap.get?_push_size _ rfl
 have h3:s3.heap=s2.heap.push {cls:=.type "list",data:=.seq ([]:List Value).toArray}:=by rw[<-Rb]
 have sz:∀b∈fp,b<s2.heap.objs.size:=λb hb=>by
  obtain⟨o,e,_⟩:=T.obj _ _ Uy b hb;exact Heap.lt_size e
 have f3:∀b∈fp,tE X pins (dE H2 D (.de [])) b/\b<s3.heap.objs.size:=λb hb=>by
  have fS:=sz b hb;refine⟨⟨?_,(f2 b hb).2⟩,by rw[h3,Heap.size_push];exact Nat.lt_succ_of_lt fS⟩;rw[aB (by rw[<-hD];exact Nat.ne_of_lt fS)];exact(f2 b hb).1
 have Uz:tn 0 s3.heap:=T.keep _ _ _ Uy λb _ o e=>by rw[h3];exact Heap.get?_push_of_some _ e
 have I4:=zC I3 ok hN f3;have pg:=hg s3 (dE H2 D (.de [])) s3.heap.objs.size (cellsFrom (s3.heap.objs.size+1) scope.names (c8 X.env.cells scope.names [])) fp;have pe:=he s3 (dE H2 D (.de [])) s3.heap.objs.size (cellsFrom (s3.heap.objs.size+1) scope.names (c8 X.env.cells scope.names [])) fp;have B3:=λpn=>IQ (pn:=pn) (use:=use) (Qf:=Qf) (acc:=.ref D) (scope:=scope) (ce:=compEnvC scope (cellsFrom (s3.heap.objs.size+1) scope.names (c8 X.env.cells scope.names [])) s3.heap.objs.size X.env) T0 j9 hex I3 rfl rfl f3;show codeAny _ _ (.compStart (.ListComp elt [⟨tg,iter,[],0⟩] scope pos) 0 (.ref it) (.ref D) (compEnvC scope (cellsFrom (s3.heap.objs.size+1) scope.names (c8 X.env.cells scope.names [])) s3.heap.objs.size X.env)) (compPost (model X.prog X.w) X.A X.xe use Qf (.ref D) s3.heap.objs.size) {s3 with heap:=pushCells (s3.heap.push {cls:=.type "dict",data:=.dict #[]}) scope.names};have Yg:∀b∈fp,(dE H2 D (.de [])) b=none:=λb hb=>(f3 b hb).1.1;unfold Cx.z7 at pe;generalize hce:compEnvC scope (cellsFrom (s3.heap.objs.size+1) scope.names (c8 X.env.cells scope.names [])) s3.heap.objs.size X.env=ce at I4 pg pe B3 ⊢;have cL:ce.locals=s3.heap.objs.size:=by subst hce;rfl
 generalize hH3:dE H2 D (.de [])=H3 at I3 I4 pg pe B3 w0 Yg f3;generalize hs4:({s3 with heap:=pushCells (s3.heap.push {cls:=.type "dict",data:=.dict #[]}) scope.names}:Shared)=s4 at I4 ⊢;have Yh:tn 0 s4.heap:=T.keep _ _ _ Uz λb _ o e=>by rw[<-hs4];exact pushCells_keeps _ _ _ _ (Heap.get?_push_of_some _ e)
 have BG:∀{σ':St} {H':Hp} {s':Shared},Inv (X.zB s3 H3 scope ce fp) [] σ' H' s'->(∀b∈fp,H' b=none)->∀b∈fp,tE (X.zB s3 H3 scope ce fp) [] H' b:=λ{σ' H' s'} I' hn b hb =>
  ⟨hn b hb,(I'.ok.Ky b hb).1,I'.ok.tw b hb,.inl hb,λx c e=>(I'.ok.Ky b hb).2 x c e,λp hp=>absurd (show p∈([]:List (Addr×Obj))++[] from hp) (by simp)⟩
 have loop:codeAny (model X.prog X.w) X.A (.compLoop (.ListComp elt [⟨tg,iter,[],0⟩] scope pos) 0 (.ref it) (.ref D) ce) (compPost (model X.prog X.w) X.A X.xe use Qf (.ref D) s3.heap.objs.size) s4:=by
  refine xK (λn s'=>∃i H',Inv (X.zB s3 H3 scope ce fp) [] (nu σ (own.map (·.2))) H' s'/\tn i s'.heap/\(∀b∈fp,H' b=none)/\W i n H') ?_ m0 ⟨0,H3,I4,Yh,Yg,w0⟩;rintro n s5 ⟨i,H5,I5,QZ,n5,w5⟩;rcases turn i n H5 w5 with ⟨gj,qq⟩ |⟨go,Nx,hNx,step⟩
  ·have td:=T.done (X.zB s3 H3 scope ce fp) rfl rfl rfl hc i [] s5 _ H5 (λ_ _=>False) I5 (BG I5 n5) QZ gj;refine Lg td λr s6 ⟨hr,I6⟩=>?_;subst hr;have I7:Inv X pins σ H5 s6:=I3.zp (ch:=fp) I6.os I6.base I6.hok I6.fF λb hb=>⟨(f3 b hb).1.2.2.2.1,(f3 b hb).1.2.1,(f3 b hb).1.2.2.2.2.1,(f3 b hb).1.2.2.2.2.2⟩
   have nC:H5 s3.heap.objs.size=none:=by
    have z:H5 ce.locals=none:=I6.free;rw[cL] at z;exact z
   obtain⟨m,hn,_⟩:=I6.loc;have hn:s6.heap.Ns ce.locals m:=hn;rw[cL] at hn;exact hRR D s3.heap.objs.size s6 m H5 I7 qq hn (I3.Fg (Nat.le_refl _) nC)
  ·have ti:=T.item (X.zB s3 H3 scope ce fp) rfl rfl rfl hc i [] s5 _ H5 (λ_ _=>False) I5 (BG I5 n5) QZ go;refine Lg ti λr s6 ⟨u,hr,h6⟩=>?_;subst hr;refine Lg h6 λ_ s7 ⟨x,H7,I7,r7,y7,UM,n7⟩=>?_;have I7':=I7.jT (BG I7 n7) (T.obj _ _ UM);refine Lg (pg _ s7 _ H7 x u _ I7' r7 (step x H7 y7)) λ_ s8 ⟨σ8,H8,I8,Yi,q8⟩=>?_;refine wpAny_tests_nil ?_;have q9:=q8;unfold Fu at q9;simp only[if_true] at q9 ⊢;have fin:∀{s':Shared} {H':Hp},Inv (X.zB s3 H3 scope ce fp) ([]++nj fp s7.heap) σ8 H' s'->Nx H'->∃m,m<n/\∃i H',Inv (X.zB s3 H3 scope ce fp) [] (nu σ (own.map (·.2))) H' s'/\tn i s'.heap/\(∀b∈fp,H' b=none)/\W i m H':=λ{s' H'} I' nx=>by
    obtain⟨m',hm,w'⟩:=hNx H' nx;have SR:∀b∈fp,∀o,s7.heap.get? b=some o->s'.heap.get? b=some o/\H' b=none:=λb hb o e =>
     let z:=I'.fw (b,o) (List.mem_append_right _ (List.mem_append_right _ (kN hb e)))
     ⟨z.1,z.2.1⟩
    have hl:(nu σ (own.map (·.2))).length=σ8.length:=by rw[<-Yi,lN]
    refine⟨m',hm,i+1,H',(I'.oC (pins:=[])).RC hl (λj v e=>?_),T.keep _ _ _ UM λb hb o e=>(SR b hb o e).1,λb hb=>?_,w'⟩
    ·rw[<-Yi] at e;exact(qo e).1
    ·obtain⟨o,e,_⟩:=T.obj _ _ UM b hb;exact(SR b hb o e).2
   have pe':=pe (nj fp s7.heap) _ (λb hb=>let ⟨o,e,_⟩:=T.obj _ _ UM b hb;⟨o,kN hb e⟩) (B3 (nj fp s7.heap));have okb:=I8.ok;refine dB (pe' [] s8 σ8 H8 _ (I8.tr _) q9) λz zf ⟨yv,SS,Wg,Wh,acc,Wi,Wj,nx⟩=>?_;exact OZ (X:=X.zB s3 H3 scope ce fp) (Wg.tR okb) Wi Wj Wh λSU I11=>fin I11 nx
 exact codeAny_compStart_list loop (T.self X.A 0 _ _ _ Yh loop)
theorem B8{E:XK}{elt tg iter:Expr}{scope:Scope}{own:List (Str×Nat)}{pos:Pos}{wi:TI}{g:TG}{te:TE}(T0:iF X E)(j9:X.stack=X.env::X.ai/\X.env.frame=some X.env.locals)(hex:X.ex=[])(hc:X.gB=true)(hN:X.N.Nodup)(hi:PI X tg iter wi)(ok:mS X.N X.env.scope scope own)
  (hg:∀(s:Shared) (H:Hp) (C:Addr) (cl:List (Str×Addr)) (fp:List Addr),PG (X.zB s H scope (compEnvC scope cl C X.env) fp) tg g)
  (he:∀(s:Shared) (H:Hp) (C:Addr) (cl:List (Str×Addr)) (fp:List Addr) (pn:List (Addr×Obj)) (xe:Value->Shared->Prop),(∀b∈fp,∃o,(b,o)∈pn)->iF (X.z7 s H scope C cl fp pn xe) E->PE (X.z7 s H scope C cl fp pn xe) elt te)(hs:∀x,foldedSetIterable iter X.env x=pure x:=by intro _;rfl) :
  PE X (.ListComp elt [⟨tg,iter,[],0⟩] scope pos) (X3 wi g Fu te (own.map (·.2))):=by
 intro pins s σ H Q I h;rw[eval_ListComp];refine IR T0 j9 hex hc hN I hi ok hg he hs h λD C s' m H' I' q hn f=>⟨m,hn,λh'' sb=>?_⟩
 obtain⟨f0,f1,f2,f3,f4,f5⟩:=f;exact⟨.ref D,H',I'.jf (t':=s'.toks) (λb o hb e=>(sb.2 b hb).trans e) f0 f1 f3 f4 f5,rfl,q⟩
end
def Exs(X:Cx):Prop:=∀b∈X.ex,∃o,(b,o)∈X.pn
theorem iF.Ej{X:Cx}{E:XK}(T:iF X E)(hex:Exs X):kP (rh X.prog X.w) X E:=by
 intro pins σ H s e s' I h;obtain⟨ea,C,dx,H',n0,rfl,os,fF,un,hok,hl,hz,F,q⟩:=h;have I2:Inv X pins σ H' s':=I.zp (ch:=[]) os un hok fF (λb z=>absurd z (by simp));exact T pins σ H' s' ea C dx s.heap n0 I2 (I.zQ (λb hb=>let ⟨o,z⟩:=hex b hb;⟨o,(I.fw (b,o) (List.mem_append_left _ z)).1⟩) (λb ⟨o,z⟩=>un.there b o z (by simp)) hl hz) F q
def Px(x:Ex):Prop:=∀c d H H',aM H H'->x c d H->x c d H'
theorem B7.Wk{C:Addr}{names:List Str}{Rs:List Rv}(m:jl Rs):Px (B7 C names Rs):=λ_ _ _ _ s h=>B7.ak m s h
section
variable{X:Cx}{σ:St}{H M:Hp}{E:XK}{S:ze}{r dx:Addr}{xv tv:V}{i:Nat}{ms:List Addr}
abbrev EM(E:XK)(H M:Hp):XK:=λc d H'=>aM H H'/\(Dj H' M->E c d (join H' M))
theorem Ek{e:Expr}{x:Ex}{Q:VK}(mo:MOk M ms)(dj:Dj H M)(hm:Px x)(h:∀pm,kr X M H pm->lQ (X.fw pm) (EM E H M) σ H e x)(q:∀c d H2,aM H H2->x c d H2->E c d H2):Ev X e σ (join H M) Q :=
 (Ev.frame (Q:=λ_ _=>False) mo dj λpm P=>(h pm P) H sm _ (λc d H2 s r=>⟨s,λlx=>q c d _ (s.trans (ci lx)) (hm c d _ _ (ci lx) r)⟩)).aw λ_ _ ⟨_,_,_,_,z⟩=>z.elim
theorem ww{e:Expr}{R:Rv}{Q:VK}(mo:MOk M ms)(dj:Dj H M)(h:∀pm,kr X M H pm->Yd (X.fw pm) σ H e R)(q:∀v H1,aM H H1->Dj H1 M->R v H1->Q v (join H1 M)):Ev X e σ (join H M) Q :=
 (Ev.frame mo dj λpm P=>h pm P H sm).aw λv H2 ⟨H1,e,ir,s1,r⟩=>by rw[e];exact q v H1 s1 ir r
theorem LQ{e:Expr}{D:cT}{n:Nat}{x:Str}{p1 p2 pos:Pos}(ne:dx≠r)(c:ve X.K S.C)(na:gr X.K S.C "token")(hs:σ[n]?=some (some (.ref r)))
  (h:Ev X e σ (join H (rd S.C r dx xv tv)) λv H2=>∃H1,H2=join H1 (rd S.C r dx xv tv)/\D.nx σ (join H1 (rd S.C r dx xv v)))
  (hN:X.N[n]?=some x:=by rfl)(hv:uZ X.env.scope x:=by first |exact Or.inl rfl |exact Or.inr (Or.inl rfl) |exact Or.inr (Or.inr rfl))(hd:(x == ("__debug__":Str))=false:=by decide)(lA:(x == ("__classdict__":Str))=false:=by decide)
  (Pk:swapsWith e (some (.Attribute (.Name x p1) "token" p2)) pos.line X.env=pure false:=by rfl):jk X (.Assign [.Attribute (.Name x p1) "token" p2] e pos) D σ (join H (rd S.C r dx xv tv)) :=
 (BM (gC (i:=n) hN hv hd lA) pE Pk).do (h.aw λv H2 ⟨H1,e1,q⟩=>by
  subst e1;have hl:(fL IL [xv,tv] []).length<1000:=by
   have h1:=fU ("text":Str) xv [];have h2:=fU ("token":Str) tv (gk ("text":Str) xv []);show (gk ("token":Str) tv (gk ("text":Str) xv [])).length<1000;rw[List.length_nil] at h1;omega
  exact⟨.ref r,hs,r,S.C,dx,fL IL [xv,tv] [],rfl,bR oW,c,na,hl,by rw[Pt];exact q⟩)
end
section
variable{P:Program}{w:World}{K:Frag}{mg:Str->Option Value}{base:Heap}
theorem rg.FR{x q:Str}{st:Stmt}{f:Addr}{fd:FuncData}{N ps:List Str}{k:Nat}{Rs:List Rv}{S:ze}{i:Nat}{o:Except Ex (Rv×Nat)}(F:rg K x q st f fd)(sc:dQ N ps (ax st))(hl:Rs.length+1=ps.length)
  (jg:∀(bL:Value) (A:Around) (ai:List Env) (s:Shared) (H0 H:Hp) (Q:VK) (E:XK) (X:Cx),X=lw P w K mg base N q (ax st) f bL A ai s H0 E->cx k X.A->X.N.Nodup->iF X E->PassesOwn (model P w) X.A X.env X.xe ->
   ∀(r dx:Addr) (xv tv:V) (ws:List V),On S r dx xv i tv H->iE Rs ws H->ln S r dx xv o H Q E->Do X (cq st) {nx:=λ_ H'=>Q .dH H',rt:=Q} (start N (.ref r::ws)) (join H (rd S.C r dx xv tv))):g5 P w K mg base (rh P w) (k+1) f fd ps (sx S i Rs o) :=
 F.Q7 sc (sx.len hl) λbL A ai s H vs Q E X e hr hT hp h=>by
  obtain⟨r,dx,xv,tv,ws,H0,rfl,e1,on,ha,hq⟩:=h;refine⟨_,pD,?_⟩;rw[e1];exact jg bL A ai s H H0 Q E X e hr (by rw[e];exact sc.nd) hT hp r dx xv tv ws on ha hq
theorem fA.FR{x:Str}{st:Stmt}{N ps:List Str}{k:Nat}{Rs:List Rv}{S:ze}{i:Nat}{o:Except Ex (Rv×Nat)}(C:fA K mg x st ps)(sc:dQ N ps (ax st))(hl:Rs.length+1=ps.length)
  (jg:∀(f:Addr) (bL:Value) (A:Around) (ai:List Env) (s:Shared) (H0 H:Hp) (Q:VK) (E:XK) (X:Cx),X=lw P w K mg base N x (ax st) f bL A ai s H0 E->cx k X.A->X.N.Nodup->iF X E->PassesOwn (model P w) X.A X.env X.xe ->
   ∀(r dx:Addr) (xv tv:V) (ws:List V),On S r dx xv i tv H->iE Rs ws H->ln S r dx xv o H Q E->Do X (cq st) {nx:=λ_ H'=>Q .dH H',rt:=Q} (start N (.ref r::ws)) (join H (rd S.C r dx xv tv))):fq P w K mg base x (k+1) ps (sx S i Rs o) :=
 C.Pj λf fd F=>F.FR sc hl (jg f)
end
def rn(a4:List (List fo×V)):Rv:=λv H=>∃p,v=.ref p/\H p=some (.dT a4)
theorem rn.ak{a4:List (List fo×V)}:Mon (rn a4):=λ_ _ _ s ⟨p,e,h⟩=>⟨p,e,s _ _ h⟩
theorem FS{X:Cx}:lh X (.builtin "len") (λxs H Q=>∃a a4,xs=[V.ref a]/\H a=some (.dT a4)/\Q (.int a4.length) H):=by
 intro pins s σ H xs us Q I r h;obtain⟨a,a4,rfl,ha,q⟩:=h;obtain⟨u,rfl,ru⟩:=mR r;cases ru;obtain⟨z,hd,xs,vr,o,es,ep,ho,hc,Wl,hk,_,_⟩:=Ic I.hok ha;have hT:s.TypeIs (.ref a) "dict":=by
  obtain⟨_,_,_,_,dd⟩:=Ic I.hok ha;exact dd.typeIs
 have hlen:es.size=a4.length:=by
  have h1:es.toList.length=xs.length:=by rw[hk,List.length_map]
  have h2:a4.length=xs.length:=vr.length;rw[h2,<-h1,Array.length_toList]
 have hm:MeetsIn X.prog X.w (Builtin.«dict.__len__» ⟨[.ref a],[]⟩) (λ_ R s'=>s'.heap.get? a=some o/\R (.ok (.ret (.int a4.length s'.toks))) {s' with toks:=s'.toks+1}) :=
  .of_wp λA R s' ⟨Bu,h⟩=>by
   show wpAny _ _ (dictSize a>>=_) _ _ s';unfold dictSize;refine wpAny_bind (wpAny_bind (wpAny_dictEntries Bu Wl (wpAny_pure ?_)));show wpAny _ _ (Builtin.Dict.pendingCount a>>=_) _ _ s';refine wpAny_bind (wpAny_pendingCount_other hd ?_);refine wpAny_ret_mkInt ?_;rw[Nat.add_zero,hlen];exact h
 have aan:(a4.length:Int)<2^63:=by rw[sizeLine_eq] at z;omega
 refine Calls.call_function_entry kind_len plain_len entry_len (args_len1 _) ?_;unfold Builtin.«len»;refine wpAny_bind (m:=oneArg "len" _) (wpAny_pure ?_);refine wpAny_bind (m:=callSpecial? (.ref a) (Str.ofString "__len__")) (wpAny_callSpecial?_slot (name:=Str.ofString "__len__") hT F.slot_dict_len
  (call_meetsIn F.slot_dict_len hT F.entry_dict_len (F.args_dict_len_1 _) hm ⟨ho,?_⟩))
 show wpAny _ _ _ _ _ {s with toks:=s.toks+1};refine wpAny_bind (wpAny_holding (wpAny_pure ?_));refine wpAny_bind (wpAny_letGo ?_);show wpAny _ _ (if ((a4.length:Nat):Int)<0 then _ else _) _ _ _;rw[if_neg o_];show wpAny _ _ (if ((a4.length:Nat):Int) ≥ 2^63 then _ else _) _ _ _;rw[if_neg o_];exact wpAny_bind (wpAny_mkInt (wpAny_pure ⟨_,rfl,⟨.int a4.length,H,(I.tok _).tok _,⟨_,rfl⟩,q⟩⟩))
section
variable{X:Cx}{σ:St}{H:Hp}{a b:Expr}{pos:Pos}
theorem El{a4:List (List fo×V)}{p:Pos}(hg:Gl X "len")(hm:X.mg "len"=none)(ha:Yd X σ H a (rn a4))(he:starEach [a] X.env=(false,eval a X.env)::starEach [] X.env:=by rfl)(d9:(backTo pos (starEach [] X.env)).any (·.1)=false:=by rfl) :
  Yd X σ H (.Call (.Name "len" p) [a] [] pos) (Vi (.int (a4.length:Nat))):=λH1 s1 =>
 (gm FS hg hm PySem.boot_len (bI pE cV he) d_ d_ he d9).ev ((ha H1 s1).aw λv H2 ⟨s2,p,e1,e2⟩=>⟨p,_,by rw[e1],e2,s2,rfl⟩)
theorem Py{a4:List (List fo×V)}{k:List fo}(hu:X.A.units+1<cLine)(ha:Yd X σ H a (gH (k.map kV)))(hb:Yd X σ H b (rn a4))(h1:behindInMarks .In b=false:=by rfl):Yt X σ H (.Compare a [.In] [b] pos) (gn a4 k).isSome:=λH1 s1 =>
 (Hu (O3 hu pE pE) h1).te ((ha H1 s1).aw λv H2 ⟨s2,p,e1,e2⟩=>(hb H2 (s1.trans s2)).aw λu H3 ⟨s3,q,e3,e4⟩=>⟨q,_,e3,by rw[e1];exact rO.t e4 (s3 _ _ e2),_,rfl,s2.trans s3,rfl⟩)
theorem FT{a4:List (List fo×V)}{k:List fo}(hu:X.A.units+1<cLine)(ha:Yd X σ H a (gH (k.map kV)))(hb:Yd X σ H b (rn a4))(h1:behindInMarks .NotIn b=false:=by rfl):Yt X σ H (.Compare a [.NotIn] [b] pos) (!(gn a4 k).isSome):=λH1 s1 =>
 (Hu (Fz hu pE pE) h1).te ((ha H1 s1).aw λv H2 ⟨s2,p,e1,e2⟩=>(hb H2 (s1.trans s2)).aw λu H3 ⟨s3,q,e3,e4⟩=>⟨q,_,e3,by rw[e1];exact rO.t e4 (s3 _ _ e2),_,rfl,s2.trans s3,rfl⟩)
theorem LR{a4:List (List fo×V)}{k:List fo}{v:V}{R:Rv}(hu:X.A.units+1<cLine)(ha:Yd X σ H a (rn a4))(hb:Yd X σ H b (gH (k.map kV)))(hv:gn a4 k=some v)(hR:R v H)(hm:Mon R)(hs:O2 b:=by intro _ _;rfl):Yd X σ H (.Subscript a b pos) R:=λH1 s1 =>
 (Ll hu pE pE hs).ev ((ha H1 s1).aw λu H2 ⟨s2,q,e3,e4⟩=>(hb H2 (s1.trans s2)).aw λy H3 ⟨s3,p,e1,e2⟩=>⟨q,v,e3,by rw[e1,<-hv];exact rO.t (s3 _ _ e4) e2,s2.trans s3,hm _ _ _ ((s1.trans s2).trans s3) hR⟩)
theorem FU{x:V}{xs:List V}(ha:Yd X σ H a (Vi x))(hb:Yd X σ H b (gH xs))(hx:kh x=true)(Q4:xs.all kh=true)(hm:behindInMarks .NotIn b=false:=by rfl):Yt X σ H (.Compare a [.NotIn] [b] pos) (!NJ x xs):=λH1 s1 =>
 (kO xJ pE pE hm).te ((ha H1 s1).aw λv H2 ⟨s2,e2⟩=>(hb H2 (s1.trans s2)).aw λu H3 ⟨s3,q,e3,e4⟩=>by
  subst e2;exact⟨q,xs,e3,.inr (.of e4),hx,Q4,_,rfl,s2.trans s3,rfl⟩)
theorem IS:∀{vs us:List V} {H:Hp},iE (vs.map Vi) us H->us=vs
 |[],[],_,_=>rfl
 |v::vs,u::us,_,h=>by rw[show u=v from h.1,IS (vs:=vs) h.2]
 |[],_::_,_,h=>h.elim
 |_::_,[],_,h=>h.elim
theorem Em:∀vs:List V,jl (vs.map Vi)
 |[]=>trivial
 |v::vs=>⟨Vi.ak v,Em vs⟩
theorem cO{es:List Expr}{x1:Nat}{vs:List V}(h:Ya X σ H es (vs.map Vi))(hl:vs.length<=1000):Yd X σ H (.Tuple es x1 pos) (gH vs) :=
 Yd.imp (ID h (Em vs) (by rw[List.length_map];exact hl)) λv H' ⟨p,us,e1,e2,e3⟩=>⟨p,e1,by rw[e2,IS e3]⟩
end
def SV:HO->Prop
 |.de _=>True
 |.g9 _ _ _=>True
 |.own _=>True
 |_=>False
structure LS(M:Hp)(ms:List Addr):Prop extends MOk M ms where
 Pz:∀b o,M b=some o->SV o
structure LU(X:Cx)(M:Hp)(pm:List (Addr×Obj)):Prop where
 NR:∀b o,M b=some o->∃ob,(b,ob)∈pm
 mM:∀(pins:List (Addr×Obj)) (σ:St) (H':Hp) (s:Shared),(∀p∈pins,M p.1=none)->Inv (X.fw pm) pins σ H' s->Dj H' M/\Inv X pins σ (join H' M) s
section
variable{X:Cx}{pins:List (Addr×Obj)}{σ:St}{H M:Hp}{s:Shared}{ms:List Addr}
theorem cB.SW{P:Program}{w:World}{H1 H2:Hp}{h h':Heap}{a:Addr}{o:HO}(x:cB P w H1 h a o)(hp:SV o)(k:∀u,h.get? a=some u->h'.get? a=some u)(kd:∀C dx fs u,o=.g9 C dx fs->h.get? dx=some u->h'.get? dx=some u)
  (ho:∀C dx fs,o=.g9 C dx fs->H2 dx=some (.own a)):cB P w H2 h' a o:=by
 cases o with
 |de xs=>obtain⟨z,cp,n,r,e⟩:=x;exact⟨z,cp,n,r,k _ e⟩
 |g9 C dx fs =>
  obtain⟨d,z,ne,e,mA,⟨od,es,ep,e2,c⟩,r⟩:=x;exact⟨ho _ _ _ rfl,z,ne,k _ e,mA,⟨od,es,ep,kd _ _ _ _ rfl e2,c⟩,r⟩
 |own y=>obtain⟨ob,e⟩:=x;exact⟨ob,k _ e⟩
 |_=>exact hp.elim
theorem Inv.SX(I:Inv X pins σ (join H M) s)(dj:Dj H M)(mo:LS M ms):∃pm,LU X M pm/\Inv (X.fw pm) pins σ H s/\∀p∈pins,M p.1=none:=by
 obtain⟨pm,P,I1,hp⟩:=I.SN dj mo.toMOk;have objs:∀b o,M b=some o->∃ob,s.heap.get? b=some ob:=λb o e=>by
  have x:cB X.prog X.w (join H M) s.heap b o:=I.hok b o (bR e);have:=x.lt;cases o with
  |de xs=>obtain⟨z,cp,n,r,e⟩:=x;exact⟨_,e⟩
  |g9 C dx fs=>obtain⟨d,z,ne,e,_⟩:=x;exact⟨_,e⟩
  |own y=>obtain⟨ob,e⟩:=x;exact⟨_,e⟩
  |_=>exact(mo.Pz b _ e).elim
 have Wm:∀b o,M b=some o->∃ob,(b,ob)∈pm/\s.heap.get? b=some ob:=λb o e=>by
  obtain⟨ob,DK⟩:=P.NR b o e;exact⟨ob,DK,(I1.fw (b,ob) (List.mem_append_left _ (List.mem_append_left _ DK))).1⟩
 refine⟨pm,⟨P.NR,λvT σ' H' s' Rc I'=>?_⟩,I1,hp⟩;have jT:∀b o u,M b=some o->s.heap.get? b=some u->s'.heap.get? b=some u/\H' b=none:=λb o u e q=>by
  obtain⟨ob,DK,q2⟩:=Wm b o e;rw[q] at q2;cases q2;have h:=I'.fw (b,u) (List.mem_append_left _ (List.mem_append_left _ DK));exact⟨h.1,h.2.1⟩
 have Eh:Dj H' M:=λb o e=>let ⟨ob,q⟩:=objs b o e;(jT b o ob e q).2;refine⟨Eh,⟨I'.ok.NS,I'.os,I'.fF,⟨I'.base.keep,I'.base.slot,λb o e n x=>?_,I'.base.there,λb xs e=>cW Eh (I'.base.oj b xs e),λb o u e=>cW Eh (I'.base.ni b o u e),λb ps e=>let ⟨m,z⟩:=I'.base.om b ps e;⟨m,cW Eh z⟩⟩,I'.loc,I'.cell,?_,λx c e=>?_,λp hq=>?_,λa o e=>?_,I'.len⟩⟩
 ·have h1:=(cI (I.base.free b o e n x)).1;rw[dU h1];exact I'.base.free b o e n x
 ·rw[dU (cI I.free).1];exact I'.free
 ·rw[dU (cI (I.fT x c e)).1];exact I'.fT x c e
 ·have h:=I'.fw p (by
   rcases List.mem_append.mp hq with z |z
   ·exact List.mem_append_left _ (List.mem_append_right _ z)
   ·exact List.mem_append_right _ z)
  have hn:M p.1=none:=by
   rcases List.mem_append.mp hq with z |z
   ·exact(cI (I.fw p (List.mem_append_left _ z)).2.1).1
   ·exact Rc p z
  exact⟨h.1,by rw[dU hn];exact h.2.1,h.2.2⟩
 ·rcases eO e with q |⟨_,q⟩
  ·have x:cB X.prog X.w (join H M) s.heap a o:=I.hok a o (bR q);refine x.SW (mo.Pz a o q) (λu z=>(jT a o u q z).1) (λC dx fs u z y=>?_) (λC dx fs z=>?_)
   ·rw[z] at q;exact(jT dx _ u (mo.g9 _ _ _ _ q) y).1
   ·rw[z] at q;exact bR (mo.g9 _ _ _ _ q)
  ·exact(show cB X.prog X.w H' s'.heap a o from I'.hok a o q).rN (λ_ _ _ z=>z) (λb z=>cW Eh z) λb xs z=>cW Eh z
theorem Ev.B9{e:Expr}{Q:VK}(mo:LS M ms)(dj:Dj H M)(h:∀pm,LU X M pm->Ev (X.fw pm) e σ H Q):Ev X e σ (join H M) λv H2=>∃H1,H2=join H1 M/\Dj H1 M/\Q v H1:=λpins s I=>by
 obtain⟨pm,P,I1,hp⟩:=I.SX dj mo;refine dB (h pm P pins s I1) λu s' ⟨v,H1,I2,r,q⟩=>?_;obtain⟨ir,I3⟩:=P.mM pins σ H1 s' hp I2;exact⟨v,_,I3,r,H1,rfl,ir,q⟩
theorem Te.B9{e:Expr}{Q:Bool->Hp->Prop}(mo:LS M ms)(dj:Dj H M)(h:∀pm,LU X M pm->Te (X.fw pm) e σ H Q):Te X e σ (join H M) λv H2=>∃H1,H2=join H1 M/\Dj H1 M/\Q v H1:=λpins s I=>by
 obtain⟨pm,P,I1,hp⟩:=I.SX dj mo;refine dB (h pm P pins s I1) λu s' ⟨H1,I2,q⟩=>?_;obtain⟨ir,I3⟩:=P.mM pins σ H1 s' hp I2;exact⟨_,I3,H1,rfl,ir,q⟩
theorem iF.Wn{E:XK}{pm:List (Addr×Obj)}(T:iF X E)(P:LU X M pm):iF (X.fw pm) (λc d H'=>Dj H' M->E c d (join H' M)):=λpins σ' H' s ea C dx g0 n0 I S F q=>by
 have I0:Inv (X.fw pm) [] σ' H' s:=I.oA λp hp=>absurd hp (by simp);obtain⟨dj,I1⟩:=P.mM [] σ' H' s (λp hp=>absurd hp (by simp)) I0;refine T [] σ' (join H' M) s ea C dx g0 n0 I1 ⟨S.O8,S.lt,S.sz,S.FD,S.loc,λp hp=>S.pn p (List.mem_append_right _ hp),S.ex,S.NL⟩ ⟨F.new,cW dj F.at_,?_⟩ (q dj);have e:Pn n0 (join H' M) ea=Pn n0 H' ea:=by
  funext b;refine propext ⟨λ⟨h1,h2⟩=>⟨h1,?_⟩,λ⟨h1,h2⟩=>⟨h1,?_⟩⟩
  ·rcases h2 with z |⟨u,z⟩
   ·exact .inl z
   ·rcases eO z with y |⟨_,y⟩
    ·obtain⟨ob,DK⟩:=P.NR b u y;exact .inl (S.lt b (S.pn (b,ob) (List.mem_append_left _ DK)))
    ·exact .inr ⟨u,y⟩
  ·rcases h2 with z |⟨u,z⟩
   ·exact .inl z
   ·exact .inr ⟨u,cW dj z⟩
 rw[e];exact F.on
end
section
variable{X:Cx}{σ:St}{H:Hp}{D:cT}
theorem LV{body:List Stmt}{h0:ExceptHandler}{hs:List ExceptHandler}{pos:Pos}{Eb:XK}{th:TH}(zX:X.stack=X.env::X.ai/\X.env.frame=some X.env.locals)(hex:X.ex=[])
  (hb:∀(pn:List (Addr×Obj)) (xe:Value->Shared->Prop),iF (X.tr pn xe) Eb->PassesOwn (model X.prog X.w) X.A X.env xe->Do (X.tr pn xe) body D σ H)(hh:NM X (h0::hs) th)
  (he:∀C dx H',Eb (.ref C) dx H'->∃N,XC X.K C N/\∀ea,H' ea=some (lv ea C dx)->th C dx ea D (List.replicate X.N.length none) H'):jk X (.Try body (h0::hs) [] [] pos) D σ H :=
 (Ix (Eb:=Eb) (Z:=λσ σ'=>True) (σh:=λσ'=>List.replicate X.N.length none) (tb:=λ_ D' σ' H'=>∀(pn:List (Addr×Obj)) (xe:Value->Shared->Prop),iF (X.tr pn xe) Eb->PassesOwn (model X.prog X.w) X.A X.env xe->Do (X.tr pn xe) body D' σ' H') (th:=th) zX hex
  (λσ σ' _ hl=>⟨by rw[List.length_replicate,hl],λi v e=>by rw[List.getElem?_replicate] at e;split at e <;> cases e⟩)
  (λpn xe σ' T P pins s σ'' H' D' I h=>h pn xe T.B3 P pins s I) hh).do ⟨he,hb⟩
theorem En{body:List Stmt}{h0:ExceptHandler}{hs:List ExceptHandler}{pos:Pos}{Eb:XK}{th:TH}(zX:X.stack=X.env::X.ai/\X.env.frame=some X.env.locals)(hex:X.ex=[])
  (hb:∀(pn:List (Addr×Obj)) (xe:Value->Shared->Prop),B0 (X.tr pn xe) (λσ'=>σ'=σ) Eb->Do (X.tr pn xe) body D σ H)(hh:NM X (h0::hs) th)
  (he:∀C dx H',Eb (.ref C) dx H'->∃N,XC X.K C N/\∀ea,H' ea=some (lv ea C dx)->th C dx ea D σ H'):jk X (.Try body (h0::hs) [] [] pos) D σ H :=
 (Ix (Eb:=Eb) (Z:=λσ σ'=>σ'=σ) (σh:=λσ'=>σ') (tb:=λσ0 D' σ' H'=>∀(pn:List (Addr×Obj)) (xe:Value->Shared->Prop),B0 (X.tr pn xe) (λσ''=>σ''=σ0) Eb->Do (X.tr pn xe) body D' σ' H') (th:=th) zX hex
  (λσ σ' e hl=>by rw[e];exact⟨rfl,λ_ _ z=>z⟩)
  (λpn xe σ' T P pins s σ'' H' D' I h=>h pn xe T pins s I) hh).do ⟨he,hb⟩
theorem IT{pos:Pos}(h:D.bk σ H):jk X (.Break pos) D σ H:=HA.do h
def tSu(X:Cx)(oN:List Stmt):TS:=λD σ H=>∀e,Do (X.lP e) oN D σ H
theorem SY{oN:List Stmt}:∀e,vV (X.lP e) oN (tSu X oN):=λe pins s σ H D I h=>h e pins s I
theorem Eo{i:Nat}{x f:Str}{ea C N dx:Addr}{fs:List (Str×V)}{v:V}{Q:VK}{p pos:Pos}(hs:σ[i]?=some (some (.ref ea)))(h1:H ea=some (lv ea C (some dx)))(xc:XC X.K C N)(xa:XA X.K N f)(h2:H dx=some (zd dx fs))(h3:fs.lookup f=some v)(q:Q v H)
  (hN:X.N[i]?=some x:=by rfl)(hv:uZ X.env.scope x:=by first |exact Or.inl rfl |exact Or.inr (Or.inl rfl) |exact Or.inr (Or.inr rfl))(hd:(x == ("__debug__":Str))=false:=by decide)(lA:(x == ("__classdict__":Str))=false:=by decide)
  (hb:attributeBase (.Name x p) f X.env (eval (.Name x p) X.env)=eval (.Name x p) X.env:=by rfl):Ev X (.Attribute (.Name x p) f pos) σ H Q :=
 (LA (gC (i:=i) hN hv hd lA) hb).ev ⟨.ref ea,hs,ea,C,N,dx,fs,v,rfl,h1,xc,xa,h2,h3,q⟩
theorem Ep{i:Nat}{x f:Str}{ea C N dx:Addr}{fs:List (Str×V)}{v:V}{p pos:Pos}(hs:σ[i]?=some (some (.ref ea)))(h1:H ea=some (lv ea C (some dx)))(xc:XC X.K C N)(xa:XA X.K N f)(h2:H dx=some (zd dx fs))(h3:fs.lookup f=some v)
  (hN:X.N[i]?=some x:=by rfl)(hv:uZ X.env.scope x:=by first |exact Or.inl rfl |exact Or.inr (Or.inl rfl) |exact Or.inr (Or.inr rfl))(hd:(x == ("__debug__":Str))=false:=by decide)(lA:(x == ("__classdict__":Str))=false:=by decide)
  (hb:attributeBase (.Name x p) f X.env (eval (.Name x p) X.env)=eval (.Name x p) X.env:=by rfl):Yd X σ H (.Attribute (.Name x p) f pos) (Vi v):=λH1 s1=>Eo (i:=i) hs (s1 _ _ h1) xc xa (s1 _ _ h2) h3 ⟨sm,rfl⟩ hN hv hd lA hb
theorem PB{a b c:Expr}{pos:Pos}{k l m:Bool}(ha:Yt X σ H a k)(hb:k=false->Yt X σ H b l)(hc:k=false->l=false->Yt X σ H c m):Yt X σ H (.BoolOp .Or [a,b,c] pos) (k || (l || m)):=λH1 s1 =>
 (Hx pT (Hx pT (Hw pT))).pt.te ((ha H1 s1).aw λd H2 ⟨s2,e⟩=>by
  subst e;cases d with
  |true=>exact⟨s2,by rw[Bool.true_or]⟩
  |false =>
   refine(hb rfl H2 (s1.trans s2)).aw λd' H3 ⟨s3,e3⟩=>?_;subst e3;cases d' with
   |true=>exact⟨s2.trans s3,rfl⟩
   |false=>exact(hc rfl rfl H3 ((s1.trans s2).trans s3)).aw λd'' H4 ⟨s4,e4⟩=>⟨(s2.trans s3).trans s4,by rw[e4];rfl⟩)
end
section
variable{P:Program}{w:World}{K:Frag}{mg:Str->Option Value}{base:Heap}
theorem rg.xQ{x q:Str}{st:Stmt}{f:Addr}{fd:FuncData}{N ps:List Str}{k:Nat}{Rs:List Rv}{o:Except Ex Rv}(F:rg K x q st f fd)(sc:dQ N ps (ax st))(hl:Rs.length=ps.length)
  (jg:∀(bL:Value) (A:Around) (ai:List Env) (s:Shared) (H:Hp) (vs:List V) (Q:VK) (E:XK) (X:Cx),X=lw P w K mg base N q (ax st) f bL A ai s H E->cx k X.A->X.N.Nodup->iF X E->PassesOwn (model P w) X.A X.env X.xe->iE Rs vs H->z3 o H Q E ->
   Do X (cq st) {nx:=λ_ H'=>Q .dH H',rt:=Q} (start N vs) H):g5 P w K mg base (rh P w) (k+1) f fd ps (pY Rs o) :=
 F.Q7 sc (pY.len hl) λbL A ai s H vs Q E X e hr hT hp ⟨ha,hq⟩=>⟨_,pD,jg bL A ai s H vs Q E X e hr (by rw[e];exact sc.nd) hT hp ha (by cases o <;> exact hq)⟩
end
section
variable{X:Cx}{σ:St}{H:Hp}{pos:Pos}
theorem wx{iter:Expr}{i:Nat}{x:Str}{scope:Scope}{z:Str}{p1 p2 p3 p4:Pos}(hc:X.gB=true)(hN:X.N.Nodup)(hi:X.N[i]?=some x)(ok:mS X.N X.env.scope scope [(x,i)])(hm:X.mg "ord"=none)(he:Yd X σ H iter (Vi (.str z)))(hz:z.cps.size<sizeLine)(hlen:i<σ.length)
  (hl:∀cl C,(compEnvC scope cl C X.env).scope.names.lookup x=some .local:=by intro _ _;rfl)(S0:∀cl C,(compEnvC scope cl C X.env).kindOf "ord"=some .globalImplicit:=by intro _ _;rfl)(hd:(x == ("__debug__":Str))=false:=by decide)(lA:(x == ("__classdict__":Str))=false:=by decide)
  (j9:∀cl C,starEach [Expr.Name x p2] (compEnvC scope cl C X.env)=(false,eval (.Name x p2) (compEnvC scope cl C X.env))::starEach [] (compEnvC scope cl C X.env):=by intro _ _;rfl)
  (d9:∀cl C,(backTo p3 (starEach [] (compEnvC scope cl C X.env))).any (·.1)=false:=by intro _ _;rfl)(II:∀v,foldedSetIterable iter X.env v=pure v:=by intro _;rfl)(Wo:X.stack=X.env::X.ai/\X.env.frame=some X.env.locals:=by exact⟨rfl,rfl⟩)(Hl:X.ex=[]:=by rfl) :
  Yd X σ H (.ListComp (.Call (.Name "ord" p1) [.Name x p2] [] p3) [⟨.Name x p4,iter,[],0⟩] scope pos) (oV (z.cps.toList.map λc=>V.int (c:Nat))):=λH1 s1=>by
 refine(B8 (wi:=Sm (Ev X iter)) (g:=zr i) (te:=VC (λxs H Q=>∃x,xs=[V.str x]/\x.length=1/\Q (.int (x.cps.getD 0 0:Nat)) H) (zx (BD i) HP)) (own:=[(x,i)]) iF.never Wo Hl hc hN (Ih pE) ok
  (λs H C cl fp=>kM (X:=X.zB s H scope (compEnvC scope cl C X.env) fp) hN hi (.inl (hl cl C)) (.inr (hl cl C)))
  (λs H C cl fp pn xe _ _=>gm (X:=X.z7 s H scope C cl fp pn xe) zu (S0 cl C) hm (by decide +kernel) (bI (gC hi (.inl (hl cl C)) hd lA) cV (j9 cl C)) d_ d_ (j9 cl C) (d9 cl C)) II).ev ?_
 refine(he H1 s1).aw λv H2 ⟨s2,e2⟩=>⟨z,e2,λD hD=>?_⟩
 refine⟨λk m H'=>m=z.cps.size - k/\k<=z.cps.size/\aM H2 H'/\H' D=some (.de ((z.cps.toList.take k).map λc=>V.int (c:Nat))),⟨z.cps.size,rfl,Nat.zero_le _,gG hD,aC⟩,?_⟩;rintro k m H3 ⟨rfl,hk,s3,h3⟩
 by_cases fS:k<z.cps.size
 ·refine .inr ⟨fS,λH'=>aM H2 H'/\H' D=some (.de ((z.cps.toList.take (k+1)).map λc=>V.int (c:Nat))),λH' ⟨a,b⟩=>⟨z.cps.size - (k+1),by omega,rfl,fS,a,b⟩,?_⟩;rintro v H' ⟨rfl,c,QW,rfl⟩;have hw:(nu σ ([(x,i)].map (·.2)))=σ.set i none:=rfl;refine⟨?_,?_⟩
  ·show ((σ.set i none).set i (some _)).set i none=σ.set i none;rw[List.set_set,List.set_set]
  ·unfold Fu;dsimp only;rw[if_pos rfl];refine⟨.str ⟨#[c]⟩,?_,⟨#[c]⟩,rfl,rfl,_,h3,?_,?_,?_⟩
   ·show ((σ.set i none).set i (some _))[i]?=_;rw[List.set_set,List.getElem?_set_self hlen]
   ·rw[List.length_map,List.length_take,Array.length_toList];exact Nat.lt_of_le_of_lt (Nat.min_le_right _ _) hz
   ·intro b o e;have nb:b≠D:=λq=>by rw[q,hD] at e;cases e
    rw[aB nb];exact s3 b o e
   ·rw[aC];congr 2;have e:z.cps.toList[k]?=some c:=by rw[Array.getElem?_toList];exact QW
    have et:z.cps.toList.take (k+1)=z.cps.toList.take k++[c]:=by rw[List.take_add_one,e];rfl
    rw[et,List.map_append];rfl
 ·refine .inl ⟨by show z.cps.size<=k;omega,s2.trans s3,D,rfl,?_⟩;rw[h3,List.take_of_length_le (by rw[Array.length_toList];omega)]
end
end L2
end
section
namespace My
open Ln
structure be where
 aW:Int
 aA:Int
 size:Int
 deriving DecidableEq
def be.iv(a:be):Iv:=⟨(a.aW:Rat) / (a.size:Rat),(a.aA:Rat) / (a.size:Rat)⟩
structure be.Ok(a:be):Prop where
 pos:0<a.size
 le:a.aW<=a.aA
def number(top Ca:Int):be:=⟨top,top,Ca⟩
def ap(v:Int):be:=⟨v,v,1⟩
def aV(a:be):Bool:=decide (a.aW<=0) && decide (0<=a.aA)
def br(a:be):be:=⟨-a.aA,-a.aW,a.size⟩
def cy(a b:be):be :=
 if a.size=b.size then ⟨a.aW+b.aW,a.aA+b.aA,a.size⟩
 else ⟨a.aW*b.size+b.aW*a.size,a.aA*b.size+b.aA*a.size,a.size*b.size⟩
def dM(a b:be):be:=cy a (br b)
def xT(a b c d:Int):Int:=min (min (min a b) c) d
def xU(a b c d:Int):Int:=max (max (max a b) c) d
def aO(a b:be):be :=
 ⟨xT (a.aW*b.aW) (a.aW*b.aA) (a.aA*b.aW) (a.aA*b.aA),xU (a.aW*b.aW) (a.aW*b.aA) (a.aA*b.aW) (a.aA*b.aA),a.size*b.size⟩
def ao(a:be):be :=
 ⟨if aV a=true then 0 else min (a.aW*a.aW) (a.aA*a.aA),max (a.aW*a.aW) (a.aA*a.aA),a.size*a.size⟩
def c9(a b:be):be:=aO a ⟨b.size*b.aW,b.size*b.aA,b.aW*b.aA⟩
def bZ(a:be)(s:Int):be:=if s=1 then a else br a
def kU(top Ca:Int)(a:be):Bool:=decide (a.aW*Ca<top*a.size)
def cu(t b:Int):Int:=t.fdiv b
def cQ(t b:Int):Int:=-((-t).fdiv b)
def outward(a:be)(p:Nat):be:=⟨cu (a.aW*2^p) a.size,cQ (a.aA*2^p) a.size,2^p⟩
def aq(v:Int):Int:=(rootNat v.toNat (Nat.log2 v.toNat / 2+1) 0:Nat)
def dO(v:Int):Int:=if aq v*aq v=v then aq v else aq v+1
def gJ(a:be)(p:Nat):be :=
 ⟨aq (cu (a.aW*(2^p*2^p)) a.size),dO (cQ (a.aA*(2^p*2^p)) a.size),2^p⟩
theorem ro{x y:Int}(h0:0<=x)(h:x<=y):x*x<=y*y:=Int.mul_le_mul h h h0 o_
theorem Cd{a b s:Rat}(hs:0<s):a / s<=b / s↔a<=b:=by
 rw[Rat.div_def,Rat.div_def];exact⟨λh=>Rat.le_of_mul_le_mul_right h (Rat.inv_pos.mpr hs),λh=>Rat.mul_le_mul_of_nonneg_right h (Rat.le_of_lt (Rat.inv_pos.mpr hs))⟩
theorem LW{a b:Int}:(a:Rat)<=(b:Rat)↔a<=b:=by exact_mod_cast Iff.rfl
theorem IU{a:Int}(h:0<a):(0:Rat)<(a:Rat):=by exact_mod_cast h
theorem du{a:Int}(h:a≠0):(a:Rat)≠0:=by exact_mod_cast h
theorem f7{a b s:Int}(hs:0<s):(a:Rat) / s<=(b:Rat) / s↔a<=b:=(Cd (IU hs)).trans LW
theorem xV{a b s:Int}(hs:0<s):(a:Rat) / s<(b:Rat) / s↔a<b:=by
 have h:=f7 (a:=b) (b:=a) hs
 constructor
 ·intro q;have:¬b<=a:=λz=>absurd (h.mpr z) (Rat.not_le.mpr q);omega
 ·intro q;exact Rat.not_le.mp λz=>absurd (h.mp z) o_
theorem db{a s:Int}(hs:0<s):(0:Rat)<=(a:Rat) / s↔0<=a:=by
 have:=f7 (a:=0) (b:=a) hs;simpa [Rat.div_def] using this
theorem gK{a s:Int}(hs:0<s):(a:Rat) / s<=0↔a<=0:=by
 have:=f7 (a:=a) (b:=0) hs;simpa [Rat.div_def] using this
theorem oX{a s:Int}(hs:0<s):(a:Rat) / s<0↔a<0:=by
 have:=xV (a:=a) (b:=0) hs;simpa [Rat.div_def] using this
theorem oY{a s:Int}(hs:0<s):(0:Rat)<(a:Rat) / s↔0<a:=by
 have:=xV (a:=0) (b:=a) hs;simpa [Rat.div_def] using this
theorem jn{a b s t:Int}(hs:0<s)(ht:0<t):(a:Rat) / s*((b:Rat) / t)=((a*b:Int):Rat) / ((s*t:Int):Rat):=by
 have h1:=du (a:=s) o_;have h2:=du (a:=t) o_;rw[Rat.intCast_mul,Rat.intCast_mul]
 grind
theorem IV{a b s t:Int}(hs:0<s)(ht:0<t):(a:Rat) / s+(b:Rat) / t=((a*t+b*s:Int):Rat) / ((s*t:Int):Rat):=by
 have h1:=du (a:=s) o_;have h2:=du (a:=t) o_;rw[Rat.intCast_mul,Rat.intCast_add,Rat.intCast_mul,Rat.intCast_mul]
 grind
theorem z8{a s:Int}:-((a:Rat) / s)=((-a:Int):Rat) / s:=by
 rw[Rat.intCast_neg]
 grind
theorem Ce{a b s:Int}(hs:0<s):least ((a:Rat) / s) ((b:Rat) / s)=((min a b:Int):Rat) / s:=by
 unfold least
 by_cases h:a<=b
 ·rw[if_pos ((f7 hs).mpr h),Int.min_eq_left h]
 ·rw[if_neg λz=>h ((f7 hs).mp z),Int.min_eq_right o_]
theorem wy{a b s:Int}(hs:0<s):most ((a:Rat) / s) ((b:Rat) / s)=((max a b:Int):Rat) / s:=by
 unfold most
 by_cases h:a<=b
 ·rw[if_pos ((f7 hs).mpr h),Int.max_eq_right h]
 ·rw[if_neg λz=>h ((f7 hs).mp z),Int.max_eq_left o_]
theorem wz(t b:Int):(number t b).iv=point ((t:Rat) / b):=rfl
theorem IW(v:Int):(ap v).iv=point (v:Rat):=by
 unfold ap be.iv point;simp [Rat.div_def]
 grind
theorem t7(a:be):(br a).iv=ineg a.iv:=by
 unfold br be.iv ineg;simp only[z8]
theorem gL{a b:be}(ha:0<a.size)(hb:0<b.size):(cy a b).iv=iadd a.iv b.iv:=by
 unfold cy
 by_cases h:a.size=b.size
 ·rw[if_pos h];unfold be.iv iadd;simp only[<-h,Rat.intCast_add];have h1:=du (a:=a.size) o_;congr 1 <;> grind
 ·rw[if_neg h];unfold be.iv iadd;simp only[IV ha hb]
theorem t8{a b:be}(ha:0<a.size)(hb:0<b.size):(dM a b).iv=isub a.iv b.iv:=by
 unfold dM isub;rw[gL ha (show 0<(br b).size from hb),t7]
theorem LX(a b c d:Int):xT a b c d=min (min a b) (min c d):=by unfold xT;omega
theorem LY(a b c d:Int):xU a b c d=max (max a b) (max c d):=by unfold xU;omega
theorem ck{a b:be}(ha:0<a.size)(hb:0<b.size):(aO a b).iv=imul a.iv b.iv:=by
 have hs:0<a.size*b.size:=Int.mul_pos ha hb;unfold aO be.iv imul;simp only[jn ha hb,Ce hs,wy hs,LX,LY]
theorem dX{a:be}(h:a.Ok):(ao a).iv=isquare a.iv:=by
 have hs:0<a.size*a.size:=Int.mul_pos h.pos h.pos;have hle:=h.le;unfold isquare;show Iv.mk _ _=_
 by_cases h0:0<=a.aW
 ·rw[if_pos (show (0:Rat)<=a.iv.lo from (db h.pos).mpr h0)];show _=Iv.mk ((a.aW:Rat) / a.size*((a.aW:Rat) / a.size)) ((a.aA:Rat) / a.size*((a.aA:Rat) / a.size));rw[jn h.pos h.pos,jn h.pos h.pos];have e2:max (a.aW*a.aW) (a.aA*a.aA)=a.aA*a.aA:=Int.max_eq_right (Int.mul_le_mul hle hle h0 o_);have e1:(if aV a=true then 0 else min (a.aW*a.aW) (a.aA*a.aA))=a.aW*a.aW:=by
   by_cases z:aV a=true
   ·rw[if_pos z];unfold aV at z;simp at z;have:a.aW=0:=by omega
    rw[this];rfl
   ·rw[if_neg z];exact Int.min_eq_left (Int.mul_le_mul hle hle h0 o_)
  show Iv.mk (((if aV a=true then 0 else min (a.aW*a.aW) (a.aA*a.aA):Int):Rat) / _) (((max (a.aW*a.aW) (a.aA*a.aA):Int):Rat) / _)=_;rw[e1,e2];rfl
 ·rw[if_neg (show ¬(0:Rat)<=a.iv.lo from λz=>h0 ((db h.pos).mp z))]
  by_cases h1:a.aA<=0
  ·rw[if_pos (show a.iv.hi<=0 from (gK h.pos).mpr h1)];show _=Iv.mk ((a.aA:Rat) / a.size*((a.aA:Rat) / a.size)) ((a.aW:Rat) / a.size*((a.aW:Rat) / a.size));rw[jn h.pos h.pos,jn h.pos h.pos];have m:a.aA*a.aA<=a.aW*a.aW:=by
    have:=ro (x:=-a.aA) (y:=-a.aW) o_ o_;rwa [Int.neg_mul_neg,Int.neg_mul_neg] at this
   have e2:max (a.aW*a.aW) (a.aA*a.aA)=a.aW*a.aW:=Int.max_eq_left m;have e1:(if aV a=true then 0 else min (a.aW*a.aW) (a.aA*a.aA))=a.aA*a.aA:=by
    by_cases z:aV a=true
    ·rw[if_pos z];unfold aV at z;simp at z;have:a.aA=0:=by omega
     rw[this];rfl
    ·rw[if_neg z];exact Int.min_eq_right m
   show Iv.mk (((if aV a=true then 0 else min (a.aW*a.aW) (a.aA*a.aA):Int):Rat) / _) (((max (a.aW*a.aW) (a.aA*a.aA):Int):Rat) / _)=_;rw[e1,e2];rfl
  ·rw[if_neg (show ¬a.iv.hi<=0 from λz=>h1 ((gK h.pos).mp z))];have z:aV a=true:=by unfold aV;simp;omega
   show Iv.mk (((if aV a=true then 0 else min (a.aW*a.aW) (a.aA*a.aA):Int):Rat) / _) (((max (a.aW*a.aW) (a.aA*a.aA):Int):Rat) / _)=Iv.mk 0 (most ((a.aW:Rat) / a.size*((a.aW:Rat) / a.size)) ((a.aA:Rat) / a.size*((a.aA:Rat) / a.size)));rw[if_pos z,jn h.pos h.pos,jn h.pos h.pos,wy hs];congr 1;simp [Rat.div_def]
theorem iZ{a:be}(h:a.Ok):a.iv.apart=!aV a:=by
 have hle:=h.le;have h1:=oY (a:=a.aW) h.pos;have h2:=oX (a:=a.aA) h.pos;unfold Iv.apart aV;show (decide ((0:Rat)<(a.aW:Rat) / a.size) || decide ((a.aA:Rat) / a.size<0))=_;rw[Bool.eq_iff_iff];simp only[Bool.or_eq_true,decide_eq_true_eq,Bool.not_eq_true',Bool.and_eq_false_iff,decide_eq_false_iff_not,h1,h2];omega
theorem z9{a s:Int}(hs:0<s)(ha:a≠0):(1:Rat) / ((a:Rat) / s)=(s:Rat) / a:=by
 have h1:=du ha;have h2:=du (a:=s) o_
 grind
theorem Aa{b:be}(h:b.Ok)(hz:aV b=false):0<b.aW*b.aA:=by
 have hle:=h.le;unfold aV at hz;rw[Bool.and_eq_false_iff] at hz;simp only[decide_eq_false_iff_not] at hz;rcases hz with z |z
 ·exact Int.mul_pos o_ o_
 ·have:=Int.mul_pos (a:=-b.aW) (b:=-b.aA) o_ o_;rwa [Int.neg_mul_neg] at this
theorem LZ{b:be}(h:b.Ok)(hz:aV b=false):b.aW≠0/\b.aA≠0:=by
 have hle:=h.le;unfold aV at hz;rw[Bool.and_eq_false_iff] at hz;simp only[decide_eq_false_iff_not] at hz;omega
theorem kW{a b:be}(ha:0<a.size)(hb:b.Ok)(hz:aV b=false):(c9 a b).iv=idiv a.iv b.iv:=by
 have hp:=Aa hb hz;obtain⟨n1,n2⟩:=LZ hb hz;unfold c9 idiv;rw[ck ha hp];congr 1;show Iv.mk (((b.size*b.aW:Int):Rat) / ((b.aW*b.aA:Int):Rat)) (((b.size*b.aA:Int):Rat) / ((b.aW*b.aA:Int):Rat))=Iv.mk (1 / ((b.aA:Rat) / b.size)) (1 / ((b.aW:Rat) / b.size));have h1:=du n1;have h2:=du n2;have h3:=du (a:=b.size) (by have:=hb.pos;omega);rw[z9 hb.pos n1,z9 hb.pos n2];simp only[Rat.intCast_mul];congr 1 <;> grind
theorem xW(p:Nat):two (p:Int)=(((2:Int)^p:Int):Rat):=by
 unfold two;rw[if_pos o_];simp
theorem dk(p:Nat):(0:Int)<2^p:=Int.pow_pos d_
theorem nA{a s:Int}(hs:0<s):((a:Rat) / s).floor=a.fdiv s:=by
 rw[Int.fdiv_eq_ediv_of_nonneg a o_];have key:∀z:Int,z<=((a:Rat) / s).floor↔z<=a / s:=λz=>by
  rw[Rat.le_floor_iff,Int.le_ediv_iff_mul_le hs];have e:(z:Rat)=((z*s:Int):Rat) / s:=by
   have:=du (a:=s) o_;rw[Rat.intCast_mul]
   grind
  rw[e,f7 hs]
 have h1:=(key _).mp (Int.le_refl _);have h2:=(key _).mpr (Int.le_refl _);omega
theorem nB{a s k:Int}:(a:Rat) / s*(k:Rat)=((a*k:Int):Rat) / s:=by
 rw[Rat.intCast_mul]
 grind
theorem bP{a:be}(ha:0<a.size)(p:Nat):(outward a p).iv=Ln.outward p a.iv:=by
 unfold outward Ln.outward be.iv cu cQ;simp only[xW,nB,z8,nA ha];simp only[Rat.intCast_neg]
theorem kX(v:Nat):∀(k r:Nat),r*r<=v->v<(r+2^k)*(r+2^k)->rootNat v k r*rootNat v k r<=v/\v<(rootNat v k r+1)*(rootNat v k r+1)
 |0,r,h1,h2=>⟨h1,by simpa [rootNat] using h2⟩
 |k+1,r,h1,h2=>by
  unfold rootNat
  by_cases h:(r+2^k)*(r+2^k)<=v
  ·rw[if_pos h];exact kX v k (r+2^k) h (by rw[Nat.add_assoc,<-Nat.two_mul,<-Nat.pow_succ'];exact h2)
  ·rw[if_neg h];exact kX v k r h1 o_
theorem Cf(v:Nat):v<(0+2^(Nat.log2 v / 2+1))*(0+2^(Nat.log2 v / 2+1)):=by
 rw[Nat.zero_add,<-Nat.pow_add];rcases Nat.eq_zero_or_pos v with rfl |hv
 ·exact Nat.pow_pos d_
 ·have h:=Nat.lt_log2_self (n:=v);exact Nat.lt_of_lt_of_le h (Nat.pow_le_pow_right d_ o_)
theorem mT(v:Nat):rootNat v (Nat.log2 v / 2+1) 0*rootNat v (Nat.log2 v / 2+1) 0<=v/\v<(rootNat v (Nat.log2 v / 2+1) 0+1)*(rootNat v (Nat.log2 v / 2+1) 0+1) :=
 kX v _ 0 (Nat.zero_le _) (Cf v)
theorem bH(v:Int):0<=aq v:=Int.natCast_nonneg _
theorem fB{v:Int}(h:0<=v):aq v*aq v<=v:=by
 have:=(mT v.toNat).1;unfold aq;have e:v=((v.toNat:Nat):Int):=by omega
 conv=>rhs;rw[e]
 exact_mod_cast this
theorem f8{v:Int}(h:0<=v):v<(aq v+1)*(aq v+1):=by
 have:=(mT v.toNat).2;unfold aq;have e:v=((v.toNat:Nat):Int):=by omega
 conv=>lhs;rw[e]
 exact_mod_cast this
theorem xY{v r:Int}(hr:0<=r)(h1:r*r<=v)(h2:v<(r+1)*(r+1)):r=aq v:=by
 have hv:0<=v:=Int.le_trans (Int.mul_nonneg hr hr) h1;have a1:=fB hv;have a2:=f8 hv;have a0:=bH v;generalize aq v=q at *;have l1:r<=q:=by
  rcases Int.lt_or_le q r with z |z
  ·have:=ro (x:=q+1) (y:=r) o_ o_;omega
  ·exact z
 have l2:q<=r:=by
  rcases Int.lt_or_le r q with z |z
  ·have:=ro (x:=r+1) (y:=q) o_ o_;omega
  ·exact z
 omega
theorem xZ{r:Int}(hr:0<=r):aq (r*r)=r:=(xY hr (Int.le_refl _) (by grind)).symm
theorem lV{v w:Int}(h:0<=v)(hw:v<=w):aq v<=aq w:=by
 have a1:=fB h;have b2:=f8 (Int.le_trans h hw);have a0:=bH v;have b0:=bH w;generalize aq v=q at *;generalize aq w=r at *;rcases Int.lt_or_le r q with z |z
 ·have:=ro (x:=r+1) (y:=q) o_ o_;omega
 ·exact z
theorem jo{v:Int}(h:0<=v):aq v<=v:=by
 have a1:=fB h;have a0:=bH v;generalize aq v=q at *;rcases Int.lt_or_le 0 q with z |z
 ·have:=Int.mul_le_mul (a:=1) (b:=q) (c:=q) (d:=q) o_ o_ o_ o_;omega
 ·omega
theorem jI{a s:Int}(hs:0<s):a.fdiv s=a / s:=Int.fdiv_eq_ediv_of_nonneg a o_
theorem dP{a s:Int}(hs:0<s):cu a s=a / s:=jI hs
theorem ij{a s:Int}(hs:0<s):cQ a s=-((-a) / s):=by unfold cQ;rw[jI hs]
theorem rq{a s:Int}(hs:0<s)(ha:0<=a):0<=cQ a s:=by
 rw[ij hs];have:=Int.ediv_le_ediv hs (show -a<=0 by omega);simp at this;omega
theorem mU{a b s:Int}(hs:0<s)(h:a<=b):cu a s<=cQ b s:=by
 rw[ij hs,dP hs];have h1:=Int.ediv_mul_le a (b:=s) o_;have h2:=Int.ediv_mul_le (-b) (b:=s) o_;have h3:(a / s+(-b) / s)*s<=0:=by rw[Int.add_mul];omega
 have h4:a / s+(-b) / s<=0:=by
  rcases Int.lt_or_le 0 (a / s+(-b) / s) with z |z
  ·exact absurd (Int.mul_pos z hs) o_
  ·exact z
 omega
theorem FV{N s:Int}(hs:0<s)(hN:0<=N):((rootUp ((N:Rat) / s):Nat):Int)=dO (cQ N s):=by
 have hfl:=nA (a:=N) hs;have Q8:((rootDown ((N:Rat) / s):Nat):Int)=aq (N / s):=by
  unfold rootDown aq;rw[hfl,jI hs]
 have Yj:0<=N / s:=Int.ediv_nonneg hN o_;have f1:=fB Yj;have f2:=f8 Yj;have f0:=bH (N / s);have aaq:=Int.emod_add_mul_ediv N s;have Yk:=Int.emod_nonneg N (b:=s) o_;have Q9:=Int.emod_lt_of_pos N hs;have NV:(((rootDown ((N:Rat) / s)*rootDown ((N:Rat) / s):Nat):Rat)=(N:Rat) / s)↔(aq (N / s)*aq (N / s))*s=N:=by
  rw[<-Q8];generalize rootDown ((N:Rat) / s)=r;have vq:=du (a:=s) o_
  constructor
  ·intro h;have:(((r:Int)*(r:Int)*s:Int):Rat)=(N:Rat):=by
    rw[Rat.intCast_mul,Rat.intCast_mul];have e:((r*r:Nat):Rat)=((r:Int):Rat)*((r:Int):Rat):=by
     rw[Rat.natCast_mul];rfl
    rw[e] at h;rw[h]
    grind
   exact_mod_cast this
  ·intro h;have e:((r*r:Nat):Rat)=((r:Int):Rat)*((r:Int):Rat):=by
    rw[Rat.natCast_mul];rfl
   rw[e,<-h,Rat.intCast_mul,Rat.intCast_mul]
   grind
 have hup:((rootUp ((N:Rat) / s):Nat):Int)=if (aq (N / s)*aq (N / s))*s=N then aq (N / s) else aq (N / s)+1:=by
  unfold rootUp
  by_cases c:(aq (N / s)*aq (N / s))*s=N
  ·rw[if_pos (NV.mpr c),if_pos c,Q8]
  ·rw[if_neg λz=>c (NV.mp z),if_neg c,<-Q8];exact Int.natCast_add _ _
 rw[hup,ij hs]
 by_cases hd:N % s=0
 ·have e1:N=s*(N / s):=by omega
  have e2:-((-N) / s)=N / s:=by
   rw[Int.neg_ediv_of_dvd (Int.dvd_of_emod_eq_zero hd)];omega
  rw[e2];unfold dO;have iff:(aq (N / s)*aq (N / s))*s=N↔aq (N / s)*aq (N / s)=N / s:=by
   constructor
   ·intro h;rw[Int.mul_comm] at h;exact Int.eq_of_mul_eq_mul_left (by omega:s≠0) (h.trans e1)
   ·intro h;rw[h,Int.mul_comm];exact e1.symm
  by_cases c:aq (N / s)*aq (N / s)=N / s
  ·rw[if_pos c,if_pos (iff.mpr c)]
  ·rw[if_neg c,if_neg λz=>c (iff.mp z)]
 ·have nc:¬(aq (N / s)*aq (N / s))*s=N:=λz=>hd (by rw[<-z];exact Int.mul_emod_left _ _);rw[if_neg nc];have e2:-((-N) / s)=N / s+1:=by
   have:(-N) / s=-(N / s) - 1:=by
    rw[Int.ediv_eq_iff_of_pos hs]
    grind
   omega
  rw[e2];generalize N / s=n at *;have g1:=fB (v:=n+1) o_;have g2:=f8 (v:=n+1) o_;have g0:=bH (n+1);unfold dO;generalize aq (n+1)=q at *;generalize aq n=r at *;have lq:q<=r+1:=by
   rcases Int.lt_or_le (r+1) q with z |z
   ·have h3:=ro (x:=r+2) (y:=q) o_ o_;have h4:(r+1)*(r+1)+2*r+3=(r+2)*(r+2):=by grind
    omega
   ·exact z
  by_cases c:q*q=n+1
  ·rw[if_pos c];rcases Int.lt_or_le r q with z |z
   ·omega
   ·have:=Int.mul_le_mul z z o_ o_;omega
  ·rw[if_neg c];have lr:q<=r:=by
    rcases Int.lt_or_le r q with z |z
    ·have e:q=r+1:=by omega
     subst e;omega
    ·exact z
   have rl:r<=q:=by
    rcases Int.lt_or_le q r with z |z
    ·have:=ro (x:=q+1) (y:=r) o_ o_;omega
    ·exact z
   omega
theorem x0{a:be}(h:a.Ok)(h0:0<=a.aW)(p:Nat):(gJ a p).iv=Ln.iroot p a.iv:=by
 have hle:=h.le;have e2:two (2*(p:Int))=(((2:Int)^p*2^p:Int):Rat):=by
  have e:(2*(p:Int))=((p+p:Nat):Int):=by omega
  rw[e,xW,Int.pow_add]
 have su:(0:Int)<2^p*2^p:=Int.mul_pos (dk p) (dk p);unfold gJ Ln.iroot;show Iv.mk _ _=Iv.mk _ _;have el:((rootDown (a.iv.lo*two (2*(p:Int))):Nat):Int)=aq (cu (a.aW*(2^p*2^p)) a.size):=by
  show ((rootDown ((a.aW:Rat) / a.size*two (2*(p:Int))):Nat):Int)=_;rw[e2,nB];unfold rootDown aq cu;rw[nA h.pos]
 have eh:((rootUp (a.iv.hi*two (2*(p:Int))):Nat):Int)=dO (cQ (a.aA*(2^p*2^p)) a.size):=by
  show ((rootUp ((a.aA:Rat) / a.size*two (2*(p:Int))):Nat):Int)=_;rw[e2,nB];exact FV h.pos (Int.mul_nonneg o_ o_)
 rw[<-el,<-eh,xW];rfl
theorem qD{t b:Int}(h:0<b):(number t b).Ok:=⟨h,Int.le_refl _⟩
theorem cZ(v:Int):(ap v).Ok:=⟨(by decide:(0:Int)<1),Int.le_refl _⟩
theorem nE{a:be}(h:a.Ok):(br a).Ok:=⟨h.pos,by have:=h.le;show -a.aA<=-a.aW;omega⟩
theorem bU{a b:be}(ha:a.Ok)(hb:b.Ok):(cy a b).Ok:=by
 have h1:=ha.le;have h2:=hb.le;unfold cy
 by_cases h:a.size=b.size
 ·rw[if_pos h];exact⟨ha.pos,by show a.aW+b.aW<=a.aA+b.aA;omega⟩
 ·rw[if_neg h];refine⟨Int.mul_pos ha.pos hb.pos,?_⟩;have q1:=Int.mul_le_mul_of_nonneg_right h1 (Int.le_of_lt hb.pos);have q2:=Int.mul_le_mul_of_nonneg_right h2 (Int.le_of_lt ha.pos);show a.aW*b.size+b.aW*a.size<=a.aA*b.size+b.aA*a.size;omega
theorem gM{a b:be}(ha:a.Ok)(hb:b.Ok):(dM a b).Ok:=bU ha (nE hb)
theorem ay{a b:be}(ha:0<a.size)(hb:0<b.size):(aO a b).Ok:=by
 refine⟨Int.mul_pos ha hb,?_⟩;show xT _ _ _ _<=xU _ _ _ _;unfold xT xU;omega
theorem kt(x:Int):0<=x*x:=by
 rcases Int.le_total 0 x with h |h
 ·exact Int.mul_nonneg h h
 ·have:=Int.mul_nonneg (a:=-x) (b:=-x) o_ o_;rwa [Int.neg_mul_neg] at this
theorem a5{a:be}(ha:0<a.size):(ao a).Ok:=by
 refine⟨Int.mul_pos ha ha,?_⟩;have h1:=kt a.aW;have h2:=kt a.aA;show (if aV a=true then 0 else min (a.aW*a.aW) (a.aA*a.aA))<=max (a.aW*a.aW) (a.aA*a.aA);split <;> omega
theorem ik{a:be}:0<=(ao a).aW:=by
 have h1:=kt a.aW;have h2:=kt a.aA;show 0<=(if aV a=true then 0 else min (a.aW*a.aW) (a.aA*a.aA));split <;> omega
theorem fc{a b:be}(ha:0<a.size)(hb:b.Ok)(hz:aV b=false):(c9 a b).Ok:=ay ha (Aa hb hz)
theorem i9{a:be}(h:a.Ok)(s:Int):(bZ a s).Ok:=by
 unfold bZ;split
 ·exact h
 ·exact nE h
theorem aQ{a:be}(h:a.Ok)(p:Nat):(outward a p).Ok :=
 ⟨dk p,mU h.pos (Int.mul_le_mul_of_nonneg_right h.le (Int.le_of_lt (dk p)))⟩
theorem Ab(v:Int):aq v<=dO v:=by
 unfold dO;split <;> omega
theorem kY{a:be}(h:a.Ok)(h0:0<=a.aW)(p:Nat):(gJ a p).Ok:=by
 refine⟨dk p,?_⟩;have su:(0:Int)<=2^p*2^p:=Int.le_of_lt (Int.mul_pos (dk p) (dk p));have h1:0<=cu (a.aW*(2^p*2^p)) a.size:=by
  rw[dP h.pos];exact Int.ediv_nonneg (Int.mul_nonneg h0 su) (Int.le_of_lt h.pos)
 exact Int.le_trans (lV h1 (mU h.pos (Int.mul_le_mul_of_nonneg_right h.le su))) (Ab _)
structure Bd(n:Nat)(a:be):Prop where
 aW:a.aW.natAbs<2^n
 aA:a.aA.natAbs<2^n
 size:a.size.natAbs<2^n
theorem Bd.aw{n m:Nat}{a:be}(h:Bd n a)(hm:n<=m):Bd m a :=
 have q:2^n<=2^m:=Nat.pow_le_pow_right d_ hm
 ⟨Nat.lt_of_lt_of_le h.aW q,Nat.lt_of_lt_of_le h.aA q,Nat.lt_of_lt_of_le h.size q⟩
theorem cr{n m:Nat}{x y:Int}(hx:x.natAbs<2^n)(hy:y.natAbs<2^m):(x*y).natAbs<2^(n+m):=by
 rw[Int.natAbs_mul,Nat.pow_add];exact Nat.mul_lt_mul'' hx hy
theorem Er{n m:Nat}{x y:Int}(hx:x.natAbs<2^n)(hy:y.natAbs<2^m):(x+y).natAbs<2^(n+m+1):=by
 have h1:2^n<=2^(n+m):=Nat.pow_le_pow_right d_ o_;have h2:2^m<=2^(n+m):=Nat.pow_le_pow_right d_ o_;rw[Nat.pow_succ];omega
theorem sC{x y:Int}{k:Nat}(hx:x.natAbs<k)(hy:y.natAbs<k):(min x y).natAbs<k:=by
 rcases Int.le_total x y with h |h
 ·rw[Int.min_eq_left h];exact hx
 ·rw[Int.min_eq_right h];exact hy
theorem sD{x y:Int}{k:Nat}(hx:x.natAbs<k)(hy:y.natAbs<k):(max x y).natAbs<k:=by
 rcases Int.le_total x y with h |h
 ·rw[Int.max_eq_right h];exact hy
 ·rw[Int.max_eq_left h];exact hx
theorem gN{v:Int}{n:Nat}(h:v.natAbs<2^n)(hn:1<=n):Bd n (ap v) :=
 ⟨h,h,Nat.lt_of_lt_of_le (by decide:(1:Int).natAbs<2^1) (Nat.pow_le_pow_right d_ hn)⟩
theorem gO{n:Nat}{a:be}(h:Bd n a):Bd n (br a):=⟨by show (-a.aA).natAbs<_;rw[Int.natAbs_neg];exact h.aA,by show (-a.aW).natAbs<_;rw[Int.natAbs_neg];exact h.aW,h.size⟩
theorem cP{n m:Nat}{a b:be}(ha:Bd n a)(hb:Bd m b):Bd (n+m+1) (cy a b):=by
 unfold cy
 by_cases h:a.size=b.size
 ·rw[if_pos h];exact⟨Er ha.aW hb.aW,Er ha.aA hb.aA,(ha.aw o_).size⟩
 ·rw[if_neg h];have e:∀{x y:Int},x.natAbs<2^(n+m)->y.natAbs<2^(n+m)->(x+y).natAbs<2^(n+m+1):=λ{x y} h1 h2=>by rw[Nat.pow_succ];omega
  exact⟨e (cr ha.aW hb.size) (by rw[Nat.add_comm];exact cr hb.aW ha.size),e (cr ha.aA hb.size) (by rw[Nat.add_comm];exact cr hb.aA ha.size),
   Nat.lt_of_lt_of_le (cr ha.size hb.size) (Nat.pow_le_pow_right d_ o_)⟩
theorem iy{n m:Nat}{a b:be}(ha:Bd n a)(hb:Bd m b):Bd (n+m+1) (dM a b):=cP ha (gO hb)
theorem aU{n m:Nat}{a b:be}(ha:Bd n a)(hb:Bd m b):Bd (n+m) (aO a b) :=
  ⟨sC (sC (sC (cr ha.aW hb.aW) (cr ha.aW hb.aA)) (cr ha.aA hb.aW)) (cr ha.aA hb.aA),
   sD (sD (sD (cr ha.aW hb.aW) (cr ha.aW hb.aA)) (cr ha.aA hb.aW)) (cr ha.aA hb.aA),cr ha.size hb.size⟩
theorem a7{n:Nat}{a:be}(ha:Bd n a):Bd (n+n) (ao a):=by
 refine⟨?_,sD (cr ha.aW ha.aW) (cr ha.aA ha.aA),cr ha.size ha.size⟩;show (if aV a=true then 0 else min (a.aW*a.aW) (a.aA*a.aA)).natAbs<_;split
 ·exact Nat.pow_pos d_
 ·exact sC (cr ha.aW ha.aW) (cr ha.aA ha.aA)
theorem jJ{n m:Nat}{a b:be}(ha:Bd n a)(hb:Bd m b):Bd (n+(m+m)) (c9 a b) :=
 aU ha ⟨cr hb.size hb.aW,cr hb.size hb.aA,cr hb.aW hb.aA⟩
theorem mq{n:Nat}{a:be}(h:Bd n a)(s:Int):Bd n (bZ a s):=by
 unfold bZ;split
 ·exact h
 ·exact gO h
theorem Ac{x s:Int}(hs:0<s):(x / s).natAbs<=x.natAbs:=by
 rcases Int.le_total 0 x with h |h
 ·have h1:=Int.ediv_nonneg h (Int.le_of_lt hs);have h2:=Int.ediv_le_self s h;omega
 ·have h1:x / s<=0:=by
   have:=Int.ediv_le_ediv hs h;simpa using this
  have h2:x<=x / s:=by
   rw[Int.le_ediv_iff_mul_le hs];have:x*s<=x*1:=Int.mul_le_mul_of_nonpos_left h o_;omega
  omega
theorem Es(p:Nat):((2:Int)^p).natAbs=2^p:=by rw[Int.natAbs_pow];rfl
theorem fW(p:Nat):((2:Int)^p).natAbs<2^(p+1):=by rw[Es];exact Nat.pow_lt_pow_right d_ o_
theorem kZ{n:Nat}{x:Int}(p:Nat)(hx:x.natAbs<2^n):(x*2^p).natAbs<2^(n+p):=by
 rw[Int.natAbs_mul,Es,Nat.pow_add];exact Nat.mul_lt_mul_of_pos_right hx (Nat.pow_pos d_)
theorem jp{n:Nat}{x s:Int}(hs:0<s)(h:x.natAbs<n):(cu x s).natAbs<n:=by
 rw[dP hs];exact Nat.lt_of_le_of_lt (Ac hs) h
theorem jY{n:Nat}{x s:Int}(hs:0<s)(h:x.natAbs<n):(cQ x s).natAbs<n:=by
 rw[ij hs,Int.natAbs_neg];exact Nat.lt_of_le_of_lt (Ac hs) (by rw[Int.natAbs_neg];exact h)
theorem bQ{n:Nat}{a:be}(hs:0<a.size)(h:Bd n a)(p:Nat):Bd (n+p+1) (outward a p):=by
 have q:2^(n+p)<=2^(n+p+1):=Nat.pow_le_pow_right d_ o_;exact⟨jp hs (Nat.lt_of_lt_of_le (kZ p h.aW) q),jY hs (Nat.lt_of_lt_of_le (kZ p h.aA) q),
  Nat.lt_of_lt_of_le (fW p) (Nat.pow_le_pow_right d_ o_)⟩
theorem ya{n:Nat}{a:be}(h:a.Ok)(h0:0<=a.aW)(hb:Bd n a)(p:Nat):Bd (n+p+p+1) (gJ a p):=by
 have hle:=h.le;have su:(0:Int)<=2^p*2^p:=Int.le_of_lt (Int.mul_pos (dk p) (dk p));have b1:∀{x:Int},x.natAbs<2^n->(x*(2^p*2^p)).natAbs<2^(n+p+p):=λ{x} hx=>by
  rw[<-Int.mul_assoc];exact kZ p (kZ p hx)
 have h1:0<=cu (a.aW*(2^p*2^p)) a.size:=by
  rw[dP h.pos];exact Int.ediv_nonneg (Int.mul_nonneg h0 su) (Int.le_of_lt h.pos)
 have h2:0<=cQ (a.aA*(2^p*2^p)) a.size:=rq h.pos (Int.mul_nonneg o_ su);have e1:=jp h.pos (b1 hb.aW);have e2:=jY h.pos (b1 hb.aA);have f1:=jo h1;have f2:=jo h2;have g1:=bH (cu (a.aW*(2^p*2^p)) a.size);have g2:=bH (cQ (a.aA*(2^p*2^p)) a.size);have q:2^(n+p+p+1)=2^(n+p+p)*2:=Nat.pow_succ ..
 have qp:0<2^(n+p+p):=Nat.pow_pos d_;refine⟨?_,?_,?_⟩
 ·show (aq _).natAbs<_;omega
 ·show (dO _).natAbs<_;unfold dO;split <;> omega
 ·exact Nat.lt_of_lt_of_le (fW p) (Nat.pow_le_pow_right d_ o_)
theorem Et(a b:Rat):imul (point a) (point b)=point (a*b):=by
 unfold imul point least most;simp
theorem L1(a b:Rat):iadd (point a) (point b)=point (a+b):=rfl
theorem PD(a:Rat):ineg (point a)=point (-a):=rfl
theorem FW(a:Rat):isquare (point a)=point (a*a):=by
 unfold isquare point most
 by_cases h:0<=a
 ·simp [h]
 ·have h':a<=0:=by
   rcases Rat.le_total (a:=0) (b:=a) with q |q
   ·exact absurd q h
   ·exact q
  simp [h,h']
structure bK(a:be)(q:Rat):Prop where
 ok:a.Ok
 eq:a.iv=point q
theorem bK.ap(v:Int):bK (ap v) (v:Rat):=⟨cZ v,IW v⟩
theorem bK.neg{a:be}{q:Rat}(h:bK a q):bK (br a) (-q):=⟨nE h.ok,by rw[t7,h.eq,PD]⟩
theorem bK.add{a b:be}{q r:Rat}(h:bK a q)(k:bK b r):bK (cy a b) (q+r):=⟨bU h.ok k.ok,by rw[gL h.ok.pos k.ok.pos,h.eq,k.eq,L1]⟩
theorem bK.mul{a b:be}{q r:Rat}(h:bK a q)(k:bK b r):bK (aO a b) (q*r):=⟨ay h.ok.pos k.ok.pos,by rw[ck h.ok.pos k.ok.pos,h.eq,k.eq,Et]⟩
theorem bK.sq{a:be}{q:Rat}(h:bK a q):bK (ao a) (q*q):=⟨a5 h.ok.pos,by rw[dX h.ok,h.eq,FW]⟩
theorem bK.sub{a b:be}{q r:Rat}(h:bK a q)(k:bK b r):bK (dM a b) (q - r):=by
 have:=h.add k.neg;rw[<-Rat.sub_eq_add_neg] at this;exact this
theorem bK.lo{a:be}{q:Rat}(h:bK a q):(a.aW:Rat) / a.size=q:=congrArg Iv.lo h.eq
theorem bK.hi{a:be}{q:Rat}(h:bK a q):(a.aA:Rat) / a.size=q:=congrArg Iv.hi h.eq
theorem bK.Ad{a:be}{q:Rat}(h:bK a q):a.aA=a.aW:=by
 have e:=h.lo.trans h.hi.symm;have h1:=(f7 (a:=a.aA) (b:=a.aW) h.ok.pos).mp (by rw[e];exact Rat.le_refl);have h2:=h.ok.le;omega
theorem bK.oZ{a:be}{q:Rat}(h:bK a q):a.aW=0↔q=0:=by
 rw[<-h.lo];have h1:=gK (a:=a.aW) h.ok.pos;have h2:=db (a:=a.aW) h.ok.pos
 constructor
 ·intro z;rw[z];simp [Rat.div_def]
 ·intro z;have:=h1.mp (by rw[z];exact Rat.le_refl);have:=h2.mp (by rw[z];exact Rat.le_refl);omega
theorem bK.IX{a:be}{q:Rat}(h:bK a q)(hq:q≠0):aV a=false:=by
 have h1:a.aW≠0:=λz=>hq (h.oZ.mp z);have h2:=h.Ad;unfold aV;rw[h2,Bool.and_eq_false_iff];simp only[decide_eq_false_iff_not];omega
theorem L3(a b:Rat):idiv (point a) (point b)=point (a / b):=by
 unfold idiv;rw[show Iv.mk (1 / (point b).hi) (1 / (point b).lo)=point (1 / b) from rfl,Et];congr 1;rw[Rat.div_def,Rat.div_def,Rat.one_mul]
theorem bK.div{a b:be}{q r:Rat}(h:bK a q)(k:bK b r)(hr:r≠0):bK (c9 a b) (q / r) :=
 ⟨fc h.ok.pos k.ok (k.IX hr),by rw[kW h.ok.pos k.ok (k.IX hr),h.eq,k.eq,L3]⟩
theorem IY{a:be}(h:a.Ok):a.iv.lo<=a.iv.hi:=(f7 h.pos).mpr h.le
theorem t9{a:Iv}(h:a.lo<=a.hi):itimes 1 a=a:=by
 unfold itimes imul point least most;simp [h]
theorem Cg{a:Iv}(h:a.lo<=a.hi):itimes (-1) a=ineg a:=by
 unfold itimes imul point least most ineg;simp only[Rat.neg_mul,Rat.one_mul]
 by_cases e:a.lo=a.hi
 ·simp [e]
 ·have h2:¬(-a.lo<=-a.hi):=λz=>e (Rat.le_antisymm h (Rat.neg_le_neg_iff.mp z));simp [h2]
def Hm(s:Int):Rat:=if s=1 then 1 else -1
theorem qF{a:be}(h:a.Ok)(s:Int):(bZ a s).iv=itimes (Hm s) a.iv:=by
 unfold bZ Hm
 by_cases e:s=1
 ·rw[if_pos e,if_pos e,t9 (IY h)]
 ·rw[if_neg e,if_neg e,Cg (IY h),t7]
theorem iI{a:be}(h:a.Ok):a.iv.lo<=0↔a.aW<=0:=gK h.pos
theorem qG{a:be}(h:a.Ok):a.iv.hi<0↔a.aA<0:=oX h.pos
theorem NW{a:be}(h:a.Ok):a.iv.hi<=0↔a.aA<=0:=gK h.pos
structure bC where
 x:be
 y:be
 z:be
def bC.ku(a:bC):IVec:=⟨a.x.iv,a.y.iv,a.z.iv⟩
structure bC.Ok(a:bC):Prop where
 x:a.x.Ok
 y:a.y.Ok
 z:a.z.Ok
structure h9(n:Nat)(a:bC):Prop where
 x:Bd n a.x
 y:Bd n a.y
 z:Bd n a.z
theorem h9.aw{n m:Nat}{a:bC}(h:h9 n a)(hm:n<=m):h9 m a:=⟨h.x.aw hm,h.y.aw hm,h.z.aw hm⟩
structure mr where
 curve:be
 conic:be
structure gP(sh:mr)(c k:Rat):Prop where
 c:bK sh.curve c
 k:bK sh.conic k
structure IZ(n m:Nat)(sh:mr):Prop where
 c:Bd n sh.curve
 k:Bd m sh.conic
def gQ(x y z:be):be:=cy (cy x y) z
def bY(a b:bC)(p:Nat):be:=outward (gQ (aO a.x b.x) (aO a.y b.y) (aO a.z b.z)) p
def cv(a:bC)(t:be)(b:bC)(p:Nat):bC:=⟨outward (cy a.x (aO t b.x)) p,outward (cy a.y (aO t b.y)) p,outward (cy a.z (aO t b.z)) p⟩
def cR(a:bC)(t:be):bC:=⟨aO t a.x,aO t a.y,aO t a.z⟩
def ft(a:bC)(p:Nat):bC:=⟨outward a.x p,outward a.y p,outward a.z p⟩
def cw(a:bC)(sh:mr):be:=gQ (ao a.x) (ao a.y) (aO (cy (ap 1) sh.conic) (ao a.z))
def cD(sh:mr)(a:bC)(p:Nat):bC :=
 ft ⟨aO (br sh.curve) a.x,aO (br sh.curve) a.y,cy (ap 1) (aO (br (aO sh.curve (cy (ap 1) sh.conic))) a.z)⟩ p
def bW(a:bC)(p:Nat):be:=outward (gQ (ao a.x) (ao a.y) (ao a.z)) p
theorem iS{x y z:be}(hx:x.Ok)(hy:y.Ok)(hz:z.Ok):(gQ x y z).Ok:=bU (bU hx hy) hz
theorem yb{x y z:be}(hx:x.Ok)(hy:y.Ok)(hz:z.Ok):(gQ x y z).iv=iadd (iadd x.iv y.iv) z.iv:=by
 unfold gQ;rw[gL (bU hx hy).pos hz.pos,gL hx.pos hy.pos]
theorem k4{n m k:Nat}{x y z:be}(hx:Bd n x)(hy:Bd m y)(hz:Bd k z):Bd (n+m+1+k+1) (gQ x y z):=cP (cP hx hy) hz
theorem lW{a b:bC}(ha:a.Ok)(hb:b.Ok)(p:Nat):(bY a b p).Ok :=
 aQ (iS (ay ha.x.pos hb.x.pos) (ay ha.y.pos hb.y.pos) (ay ha.z.pos hb.z.pos)) p
theorem ua{a b:bC}(ha:a.Ok)(hb:b.Ok)(p:Nat):(bY a b p).iv=Ln.outward p (idot a.ku b.ku):=by
 have q:=iS (ay ha.x.pos hb.x.pos) (ay ha.y.pos hb.y.pos) (ay ha.z.pos hb.z.pos);unfold bY;rw[bP q.pos,yb (ay ha.x.pos hb.x.pos) (ay ha.y.pos hb.y.pos) (ay ha.z.pos hb.z.pos),ck ha.x.pos hb.x.pos,ck ha.y.pos hb.y.pos,ck ha.z.pos hb.z.pos];rfl
theorem Ae{n m:Nat}{a b:bC}(ha:a.Ok)(hb:b.Ok)(ba:h9 n a)(bb:h9 m b)(p:Nat):Bd (3*(n+m)+p+3) (bY a b p):=by
 have q:=iS (ay ha.x.pos hb.x.pos) (ay ha.y.pos hb.y.pos) (ay ha.z.pos hb.z.pos);exact(bQ q.pos (k4 (aU ba.x bb.x) (aU ba.y bb.y) (aU ba.z bb.z)) p).aw o_
theorem kx{a b:bC}{t:be}(ha:a.Ok)(ht:t.Ok)(hb:b.Ok)(p:Nat):(cv a t b p).Ok :=
 ⟨aQ (bU ha.x (ay ht.pos hb.x.pos)) p,aQ (bU ha.y (ay ht.pos hb.y.pos)) p,aQ (bU ha.z (ay ht.pos hb.z.pos)) p⟩
theorem qH{a b:bC}{t:be}(ha:a.Ok)(ht:t.Ok)(hb:b.Ok)(p:Nat):(cv a t b p).ku=ialong p a.ku t.iv b.ku:=by
 have one:∀{u v:be},u.Ok->v.Ok->(outward (cy u (aO t v)) p).iv=Ln.outward p (iadd u.iv (imul t.iv v.iv)):=λ{u v} hu hv=>by
  rw[bP (bU hu (ay ht.pos hv.pos)).pos,gL hu.pos (ay ht.pos hv.pos).pos,ck ht.pos hv.pos]
 show IVec.mk _ _ _=_;rw[show (cv a t b p).x=outward (cy a.x (aO t b.x)) p from rfl,show (cv a t b p).y=outward (cy a.y (aO t b.y)) p from rfl,show (cv a t b p).z=outward (cy a.z (aO t b.z)) p from rfl,
  one ha.x hb.x,one ha.y hb.y,one ha.z hb.z]
 rfl
theorem wA{n m k:Nat}{a b:bC}{t:be}(ha:a.Ok)(ht:t.Ok)(hb:b.Ok)(ba:h9 n a)(bt:Bd m t)(bb:h9 k b)(p:Nat):h9 (n+m+k+p+2) (cv a t b p) :=
  ⟨(bQ (bU ha.x (ay ht.pos hb.x.pos)).pos (cP ba.x (aU bt bb.x)) p).aw o_,(bQ (bU ha.y (ay ht.pos hb.y.pos)).pos (cP ba.y (aU bt bb.y)) p).aw o_,
   (bQ (bU ha.z (ay ht.pos hb.z.pos)).pos (cP ba.z (aU bt bb.z)) p).aw o_⟩
theorem iT{a:bC}{t:be}(ha:a.Ok)(ht:t.Ok):(cR a t).Ok:=⟨ay ht.pos ha.x.pos,ay ht.pos ha.y.pos,ay ht.pos ha.z.pos⟩
theorem o0{a:bC}{t:be}{q:Rat}(ha:a.Ok)(ht:bK t q):(cR a t).ku=⟨itimes q a.ku.x,itimes q a.ku.y,itimes q a.ku.z⟩:=by
 show IVec.mk (aO t a.x).iv (aO t a.y).iv (aO t a.z).iv=_;rw[ck ht.ok.pos ha.x.pos,ck ht.ok.pos ha.y.pos,ck ht.ok.pos ha.z.pos,ht.eq];rfl
theorem pd{n m:Nat}{a:bC}{t:be}(ba:h9 n a)(bt:Bd m t):h9 (m+n) (cR a t):=⟨aU bt ba.x,aU bt ba.y,aU bt ba.z⟩
theorem ub{a:bC}(ha:a.Ok)(p:Nat):(ft a p).Ok:=⟨aQ ha.x p,aQ ha.y p,aQ ha.z p⟩
theorem uc{a:bC}(ha:a.Ok)(p:Nat):(ft a p).ku=out3 p a.ku:=by
 show IVec.mk (outward a.x p).iv (outward a.y p).iv (outward a.z p).iv=_;rw[bP ha.x.pos,bP ha.y.pos,bP ha.z.pos];rfl
theorem Ch{n:Nat}{a:bC}(ha:a.Ok)(ba:h9 n a)(p:Nat):h9 (n+p+1) (ft a p):=⟨bQ ha.x.pos ba.x p,bQ ha.y.pos ba.y p,bQ ha.z.pos ba.z p⟩
theorem gR:bK (ap 1) 1:=bK.ap 1
theorem fM:Bd 1 (ap 1):=gN d_ d_
theorem gS{a:bC}{sh:mr}{c k:Rat}(ha:a.Ok)(hs:gP sh c k):(cw a sh).Ok :=
 iS (a5 ha.x.pos) (a5 ha.y.pos) (ay (gR.add hs.k).ok.pos (a5 ha.z.pos).pos)
theorem Af{a:bC}{sh:mr}{c k:Rat}(ha:a.Ok)(hs:gP sh c k):(cw a sh).iv=squares a.ku (1+k):=by
 unfold cw;rw[yb (a5 ha.x.pos) (a5 ha.y.pos) (ay (gR.add hs.k).ok.pos (a5 ha.z.pos).pos),dX ha.x,dX ha.y,ck (gR.add hs.k).ok.pos (a5 ha.z.pos).pos,dX ha.z,(gR.add hs.k).eq];rfl
theorem ky{n m k:Nat}{a:bC}{sh:mr}(ba:h9 n a)(bs:IZ m k sh):Bd (6*n+k+4) (cw a sh) :=
 (k4 (a7 ba.x) (a7 ba.y) (aU (cP fM bs.k) (a7 ba.z))).aw o_
theorem iU{sh:mr}{c k:Rat}(hs:gP sh c k):bK (br sh.curve) (-c)/\bK (br (aO sh.curve (cy (ap 1) sh.conic))) (-(c*(1+k))):=⟨hs.c.neg,(hs.c.mul (gR.add hs.k)).neg⟩
theorem ja{a:bC}{sh:mr}{c k:Rat}(ha:a.Ok)(hs:gP sh c k)(p:Nat):(cD sh a p).Ok:=by
 obtain⟨h1,h2⟩:=iU hs;exact ub ⟨ay h1.ok.pos ha.x.pos,ay h1.ok.pos ha.y.pos,bU (cZ 1) (ay h2.ok.pos ha.z.pos)⟩ p
theorem wB{a:bC}{sh:mr}{e:Elem}(ha:a.Ok)(hs:gP sh e.curve e.conic)(p:Nat):(cD sh a p).ku=iacross p e a.ku:=by
 obtain⟨h1,h2⟩:=iU hs;unfold cD;rw[uc ⟨ay h1.ok.pos ha.x.pos,ay h1.ok.pos ha.y.pos,bU (cZ 1) (ay h2.ok.pos ha.z.pos)⟩ p];show out3 p ⟨(aO (br sh.curve) a.x).iv,(aO (br sh.curve) a.y).iv,(cy (ap 1) (aO (br (aO sh.curve (cy (ap 1) sh.conic))) a.z)).iv⟩=_;rw[ck h1.ok.pos ha.x.pos,ck h1.ok.pos ha.y.pos,gL (cZ 1).pos (ay h2.ok.pos ha.z.pos).pos,ck h2.ok.pos ha.z.pos,h1.eq,h2.eq,gR.eq];rfl
theorem qI{n m k:Nat}{a:bC}{sh:mr}{c q:Rat}(ha:a.Ok)(hs:gP sh c q)(ba:h9 n a)(bs:IZ m k sh)(p:Nat):h9 (n+m+k+p+5) (cD sh a p):=by
 obtain⟨h1,h2⟩:=iU hs;refine(Ch ⟨ay h1.ok.pos ha.x.pos,ay h1.ok.pos ha.y.pos,bU (cZ 1) (ay h2.ok.pos ha.z.pos)⟩ (n:=n+m+k+4) ⟨?_,?_,?_⟩ p).aw o_
 ·exact(aU (gO bs.c) ba.x).aw o_
 ·exact(aU (gO bs.c) ba.y).aw o_
 ·exact(cP fM (aU (gO (aU bs.c (cP fM bs.k))) ba.z)).aw o_
theorem jZ{a:bC}(ha:a.Ok)(p:Nat):(bW a p).Ok:=aQ (iS (a5 ha.x.pos) (a5 ha.y.pos) (a5 ha.z.pos)) p
theorem Ja{a:be}(h:a.Ok):(isquare a.iv).lo<=(isquare a.iv).hi:=by rw[<-dX h];exact IY (a5 h.pos)
theorem mV{a:bC}(ha:a.Ok)(p:Nat):(bW a p).iv=Ln.outward p (squares a.ku 1):=by
 unfold bW;rw[bP (iS (a5 ha.x.pos) (a5 ha.y.pos) (a5 ha.z.pos)).pos,yb (a5 ha.x.pos) (a5 ha.y.pos) (a5 ha.z.pos),dX ha.x,dX ha.y,dX ha.z];show _=Ln.outward p (iadd (iadd (isquare a.x.iv) (isquare a.y.iv)) (itimes 1 (isquare a.z.iv)));rw[t9 (Ja ha.z)]
theorem vB{n:Nat}{a:bC}(ha:a.Ok)(ba:h9 n a)(p:Nat):Bd (6*n+p+3) (bW a p) :=
 (bQ (iS (a5 ha.x.pos) (a5 ha.y.pos) (a5 ha.z.pos)).pos (k4 (a7 ba.x) (a7 ba.y) (a7 ba.z)) p).aw o_
def k6(a:be)(PF:Int):Except Int Unit:=if a.aA<0 then .error PF else if a.aW<=0 then .error 4 else .ok ()
theorem pf{a:be}{k:Int}(h:a.aA<0):k6 a k=.error k:=if_pos h
theorem mv{a:be}{k:Int}(h:¬a.aA<0)(h2:a.aW<=0):k6 a k=.error 4:=(if_neg h).trans (if_pos h2)
theorem sE{a:be}{k:Int}(h:¬a.aA<0)(h2:¬a.aW<=0):k6 a k=.ok ():=(if_neg h).trans (if_neg h2)
def PH{α β:Type}(R:α->β->Prop):Except Int α->Except Ending β->Prop
 |.ok a,.ok b=>R a b
 |.error k,.error w=>k=(LensE.endNum w:Int)
 |_,_=>False
def jq(pt way:bC)(sh:mr)(sign:Int)(p:Nat):Except Int be :=
 let off:=outward (dM (aO (ap 2) pt.z) (aO sh.curve (cw pt sh))) p
 let ca:=bY (cD sh pt p) way p
 let spread:=outward (cw way sh) p
 let cg:=outward (cy (ao ca) (aO (aO sh.curve off) spread)) p
 match k6 cg 1 with
 |.error k=>.error k
 |.ok _ =>
  match (if sh.curve.aW=0 then k6 (bZ ca sign) 1 else .ok ()) with
  |.error k=>.error k
  |.ok _ =>
   let other:=bZ (gJ cg p) sign
   let both:=outward (cy ca other) p
   if aV both=false then .ok (outward (c9 (br off) both) p)
   else if sh.curve.aW=0\/aV spread=true then .error 4
   else .ok (outward (c9 (dM ca other) (aO sh.curve spread)) p)
theorem ph{c q:be}{r:Rat}(hc:bK c r)(hr:r≠0)(hq:q.Ok)(hz:aV q=false):aV (aO c q)=false:=by
 have hc0:c.aW≠0:=λz=>hr (hc.oZ.mp z);have e:=hc.Ad;have hle:=hq.le;unfold aV at hz ⊢;rw[Bool.and_eq_false_iff] at hz ⊢;simp only[decide_eq_false_iff_not] at hz ⊢;show ¬xT (c.aW*q.aW) (c.aW*q.aA) (c.aA*q.aW) (c.aA*q.aA)<=0\/¬0<=xU (c.aW*q.aW) (c.aW*q.aA) (c.aA*q.aW) (c.aA*q.aA);rw[e];unfold xT xU;rcases Int.lt_or_gt_of_ne hc0 with h1 |h1 <;> rcases hz with h2 |h2
 ·have a1:=Int.mul_neg_of_neg_of_pos h1 (show 0<q.aW by omega);have a2:=Int.mul_neg_of_neg_of_pos h1 (show 0<q.aA by omega)
  right;omega
 ·have a1:=Int.mul_pos_of_neg_of_neg h1 (show q.aW<0 by omega);have a2:=Int.mul_pos_of_neg_of_neg h1 (show q.aA<0 by omega)
  left;omega
 ·have a1:=Int.mul_pos h1 (show 0<q.aW by omega);have a2:=Int.mul_pos h1 (show 0<q.aA by omega)
  left;omega
 ·have a1:=Int.mul_neg_of_pos_of_neg h1 (show q.aW<0 by omega);have a2:=Int.mul_neg_of_pos_of_neg h1 (show q.aA<0 by omega)
  right;omega
section
variable{pt way:bC}{sh:mr}{e:Elem}{p:Nat}
theorem PJ(hp:pt.Ok)(hs:gP sh e.curve e.conic):(outward (dM (aO (ap 2) pt.z) (aO sh.curve (cw pt sh))) p).Ok /\
  (outward (dM (aO (ap 2) pt.z) (aO sh.curve (cw pt sh))) p).iv=Ln.outward p (isub (itimes 2 pt.ku.z) (itimes e.curve (squares pt.ku (1+e.conic)))):=by
 have h1:=ay (cZ 2).pos hp.z.pos;have h2:=ay hs.c.ok.pos (gS hp hs).pos;refine⟨aQ (gM h1 h2) p,?_⟩;rw[bP (gM h1 h2).pos,t8 h1.pos h2.pos,ck (cZ 2).pos hp.z.pos,ck hs.c.ok.pos (gS hp hs).pos,Af hp hs,hs.c.eq,(bK.ap 2).eq];rfl
theorem FX(hw:way.Ok)(hs:gP sh e.curve e.conic):(outward (cw way sh) p).Ok/\(outward (cw way sh) p).iv=Ln.outward p (squares way.ku (1+e.conic)):=by
 refine⟨aQ (gS hw hs) p,?_⟩;rw[bP (gS hw hs).pos,Af hw hs]
theorem Jb{ca off spread:be}(hs:gP sh e.curve e.conic)(h1:ca.Ok)(h2:off.Ok)(h3:spread.Ok):(outward (cy (ao ca) (aO (aO sh.curve off) spread)) p).Ok /\
  (outward (cy (ao ca) (aO (aO sh.curve off) spread)) p).iv=Ln.outward p (iadd (isquare ca.iv) (imul (itimes e.curve off.iv) spread.iv)):=by
 have a1:=ay hs.c.ok.pos h2.pos;have a2:=ay a1.pos h3.pos;refine⟨aQ (bU (a5 h1.pos) a2) p,?_⟩;rw[bP (bU (a5 h1.pos) a2).pos,gL (a5 h1.pos).pos a2.pos,dX h1,ck a1.pos h3.pos,ck hs.c.ok.pos h2.pos,hs.c.eq];rfl
end
theorem Ag{pt way:bC}{sh:mr}{e:Elem}(sign:Int)(p:Nat)(hp:pt.Ok)(hw:way.Ok)(hs:gP sh e.curve e.conic) :
  PH (λt u=>t.Ok/\t.iv=u) (jq pt way sh sign p) (meetsAt p (Hm sign) e pt.ku way.ku):=by
 have hA:=ja hp hs p;have eA:=wB (e:=e) hp hs p;have hG:=lW hA hw p;have eG:=ua hA hw p;rw[eA] at eG;obtain⟨hS,eS⟩:=PJ (p:=p) hp hs;obtain⟨hQ,eQ⟩:=FX (p:=p) hw hs;obtain⟨hR,eR⟩:=Jb (p:=p) hs hG hS hQ;unfold jq meetsAt;simp only[<-eS,<-eG,<-eQ,<-eR];generalize outward (dM (aO (ap 2) pt.z) (aO sh.curve (cw pt sh))) p=off at *;generalize bY (cD sh pt p) way p=ca at *;generalize outward (cw way sh) p=spread at *;generalize outward (cy (ao ca) (aO (aO sh.curve off) spread)) p=cg at *
 by_cases c1:cg.aA<0
 ·rw[pf c1,if_pos ((qG hR).mpr c1)];rfl
 rw[if_neg (show ¬cg.iv.hi<0 from λz=>c1 ((qG hR).mp z))]
 by_cases c2:cg.aW<=0
 ·rw[mv c1 c2,if_pos ((iI hR).mpr c2)];rfl
 rw[sE c1 c2,if_neg (show ¬cg.iv.lo<=0 from λz=>c2 ((iI hR).mp z))];dsimp only;have sG:=i9 hG sign;have esl:=qF hG sign;have hz:=hs.c.oZ;have hW:=i9 (kY hR o_ p) sign;have eW:=qF (kY hR o_ p) sign;rw[x0 hR o_ p] at eW;have hH:=aQ (bU hG hW) p;have eH:=bP (bU hG hW).pos p;rw[gL hG.pos hW.pos] at eH;simp only[<-esl,<-eW,<-eH];generalize bZ ca sign=sl at *;generalize bZ (gJ cg p) sign=other at *
 by_cases c0:e.curve=0
 ·have S3:=hz.mpr c0;rw[if_pos S3]
  by_cases c3:sl.aA<0
  ·rw[pf c3,if_pos (show e.curve=0/\sl.iv.hi<0 from ⟨c0,(qG sG).mpr c3⟩)];rfl
  rw[if_neg (show ¬(e.curve=0/\sl.iv.hi<0) from λz=>c3 ((qG sG).mp z.2))]
  by_cases c4:sl.aW<=0
  ·rw[mv c3 c4,if_pos (show e.curve=0/\sl.iv.lo<=0 from ⟨c0,(iI sG).mpr c4⟩)];rfl
  rw[sE c3 c4,if_neg (show ¬(e.curve=0/\sl.iv.lo<=0) from λz=>c4 ((iI sG).mp z.2))];dsimp only
  by_cases c5:aV (outward (cy ca other) p)=false
  ·rw[if_pos c5,if_pos (by rw[iZ hH,c5];rfl)];have hn:=nE hS;refine⟨aQ (fc hn.pos hH c5) p,?_⟩;rw[bP (fc hn.pos hH c5).pos,kW hn.pos hH c5,t7]
  ·rw[if_neg c5,if_neg (show ¬(outward (cy ca other) p).iv.apart=true by rw[iZ hH];simp at c5;rw[c5];decide),if_pos (show sh.curve.aW=0\/aV spread=true from .inl S3),if_neg (show ¬(e.curve≠0/\spread.iv.apart=true) from λz=>z.1 c0)];rfl
 ·have S3:¬sh.curve.aW=0:=λz=>c0 (hz.mp z);rw[if_neg S3,if_neg (show ¬(e.curve=0/\sl.iv.hi<0) from λz=>c0 z.1),if_neg (show ¬(e.curve=0/\sl.iv.lo<=0) from λz=>c0 z.1)];dsimp only
  by_cases c5:aV (outward (cy ca other) p)=false
  ·rw[if_pos c5,if_pos (by rw[iZ hH,c5];rfl)];have hn:=nE hS;refine⟨aQ (fc hn.pos hH c5) p,?_⟩;rw[bP (fc hn.pos hH c5).pos,kW hn.pos hH c5,t7]
  ·rw[if_neg c5,if_neg (show ¬(outward (cy ca other) p).iv.apart=true by rw[iZ hH];simp at c5;rw[c5];decide)]
   by_cases c6:aV spread=true
   ·rw[if_pos (show sh.curve.aW=0\/aV spread=true from .inr c6),if_neg (show ¬(e.curve≠0/\spread.iv.apart=true) from λz=>by rw[iZ hQ,c6] at z;exact absurd z.2 d_)];rfl
   ·have Yl:aV spread=false:=by simpa using c6
    rw[if_neg (show ¬(sh.curve.aW=0\/aV spread=true) from λz=>z.elim S3 c6),if_pos (show e.curve≠0/\spread.iv.apart=true from ⟨c0,by rw[iZ hQ,Yl];rfl⟩)];have hm:=gM hG hW;have ht:=ay hs.c.ok.pos hQ.pos;have hn:=ph hs.c c0 hQ Yl;refine⟨aQ (fc hm.pos ht hn) p,?_⟩;rw[bP (fc hm.pos ht hn).pos,kW hm.pos ht hn,t8 hG.pos hW.pos,ck hs.c.ok.pos hQ.pos,hs.c.eq];rfl
inductive mW where
 |surface (glass:List be)
 |mirror
 |gj
structure cJ where
 kind:mW
 gap:be
 sh:mr
 mX:Option be
structure a9 where
 point:bC
 way:bC
 index:be
 sign:Int
def ia(l:a9)(q:cJ)(p:Nat):bC:=⟨l.point.x,l.point.y,outward (cy l.point.z (br (bZ q.gap l.sign))) p⟩
def gp(l:a9)(q:cJ)(p:Nat):Except Int bC :=
 match jq (ia l q p) l.way q.sh l.sign p with
 |.error k=>.error k
 |.ok t=>.ok (cv (ia l q p) t l.way p)
def f9(pt:bC)(mX:Option be)(p:Nat):Except Int Unit :=
 match mX with
 |none=>.ok ()
 |some c =>
  if kU (outward (cy (ao pt.x) (ao pt.y)) p).aW (outward (cy (ao pt.x) (ao pt.y)) p).size (ao c)=true then .error 2
  else if kU (outward (cy (ao pt.x) (ao pt.y)) p).aA (outward (cy (ao pt.x) (ao pt.y)) p).size (ao c)=true then .error 4
  else .ok ()
def jr(way cM:bC)(size:be)(p:Nat):bC:=cv way (outward (c9 (aO (ap (-2)) (bY cM way p)) size) p) cM p
def ib(l:a9)(cM:bC)(size index:be)(p:Nat):be :=
 outward (cy (aO (ao l.index) (ao (bY cM l.way p))) (aO (dM (ao index) (ao l.index)) size)) p
def yc(l:a9)(cM:bC)(size index:be)(p:Nat):bC :=
 cv (cR l.way l.index) (outward (c9 (dM (bZ (gJ (ib l cM size index p) p) l.sign) (aO l.index (bY cM l.way p))) size) p) cM p
def vC(l:a9)(cM:bC)(size index:be)(p:Nat):Except Int bC :=
 match k6 (ib l cM size index p) 3 with
 |.error k=>.error k
 |.ok _=>.ok (ft (cR (yc l cM size index p) (c9 (ap 1) index)) p)
def pi(l:a9)(q:cJ)(line p:Nat)(pt:bC):Except Int a9 :=
 if (cD q.sh pt p).z.aA<=0 then .error 1 else if (cD q.sh pt p).z.aW<=0 then .error 4 else
 match f9 pt q.mX p with
 |.error k=>.error k
 |.ok _ =>
  match q.kind with
  |.gj=>.ok ⟨pt,l.way,l.index,l.sign⟩
  |.mirror=>if (bW (cD q.sh pt p) p).aW<=0 then .error 4 else .ok ⟨pt,jr l.way (cD q.sh pt p) (bW (cD q.sh pt p) p) p,l.index,-l.sign⟩
  |.surface g=>if (bW (cD q.sh pt p) p).aW<=0 then .error 4 else
   match vC l (cD q.sh pt p) (bW (cD q.sh pt p) p) (g.getD line (ap 1)) p with
   |.error k=>.error k
   |.ok w=>.ok ⟨pt,w,g.getD line (ap 1),l.sign⟩
@[irreducible] def cj (l:a9) (q:cJ) (line p:Nat):Except Int a9 :=
 match gp l q p with
 |.error k=>.error k
 |.ok pt=>pi l q line p pt
def eT(line p:Nat):List cJ->a9->List a9×Int
 |[],_=>([],0)
 |q::r,l=>match cj l q line p with
  |.error k=>([],k)
  |.ok l'=>(l'::(eT line p r l').1,(eT line p r l').2)
def cA(x y u v index:be)(p:Nat):a9 :=
 let w:=gJ (outward (gQ (ap 1) (ao u) (ao v)) p) p
 let z:=outward (c9 (ap 1) w) p
 ⟨⟨x,y,ap 0⟩,⟨outward (aO u z) p,outward (aO v z) p,z⟩,index,1⟩
structure jK(l:a9)(b:Beam):Prop where
 pt:l.point.Ok
 way:l.way.Ok
 Ym:l.point.ku=b.at_
 FY:l.way.ku=b.way
structure At(s:System_)(line i:Nat)(l:a9):Prop where
 sg:l.sign=1\/l.sign=-1
 sign:Hm l.sign=s.sign i
 ix:bK l.index (s.glassIndex (s.medium i) line)
 one:1<=s.glassIndex (s.medium i) line
def Jc:Option be->Option Rat->Prop
 |none,none=>True
 |some c,some r=>bK c r
 |_,_=>False
def PK(s:System_)(line:Nat):mW->Kind->Prop
 |.surface g,.surface m=>bK (g.getD line (ap 1)) (s.glassIndex m line)/\1<=s.glassIndex m line
 |.mirror,.mirror=>True
 |.gj,.halt_=>True
 |_,_=>False
structure ud(s:System_)(line:Nat)(q:cJ)(e:Elem):Prop where
 gap:bK q.gap e.gap
 sh:gP q.sh e.curve e.conic
 pX:Jc q.mX e.clear
 kind:PK s line q.kind e.kind
theorem L4(s:System_)(i:Nat):s.sign i=1\/s.sign i=-1:=by
 unfold System_.sign;split
 ·exact .inl rfl
 ·exact .inr rfl
theorem ue{s:System_}{line i:Nat}(h:1<=s.glassIndex (s.medium i) line):size (s.index line i)=s.glassIndex (s.medium i) line:=by
 unfold System_.index size;have h0:(0:Rat)<s.glassIndex (s.medium i) line:=by grind
 rcases L4 s i with e |e
 ·rw[e,Rat.one_mul,if_neg]
  grind
 ·rw[e,Rat.neg_mul,Rat.one_mul,if_pos]
  ·grind
  ·grind
theorem L5{g:be}{r:Rat}(h:bK g r)(k:Int):bK (bZ g k) (Hm k*r):=by
 unfold bZ Hm
 by_cases e:k=1
 ·rw[if_pos e,if_pos e,Rat.one_mul];exact h
 ·rw[if_neg e,if_neg e,Rat.neg_mul,Rat.one_mul];exact h.neg
theorem uf{pt:bC}{pX:Option be}{e:Elem}(p:Nat)(hp:pt.Ok)(hl:Jc pX e.clear) :
  match passesAt p e pt.ku with
  |none=>f9 pt pX p=.ok ()
  |some w=>f9 pt pX p=.error (LensE.endNum w:Int):=by
 unfold passesAt f9;cases hc:e.clear with
 |none =>
  rw[hc] at hl;cases pX with
  |none=>rfl
  |some c=>exact hl.elim
 |some r =>
  rw[hc] at hl;cases pX with
  |none=>exact hl.elim
  |some c =>
   have h:bK c r:=hl;have h2:=h.sq;have o1:=bU (a5 hp.x.pos) (a5 hp.y.pos);have hU:=aQ o1 p;have eU:=bP o1.pos p;rw[gL (a5 hp.x.pos).pos (a5 hp.y.pos).pos,dX hp.x,dX hp.y] at eU;dsimp only;rw[show Ln.outward p (iadd (isquare pt.ku.x) (isquare pt.ku.y))=_ from eU.symm];generalize outward (cy (ao pt.x) (ao pt.y)) p=U at *;have key:∀t:Int,(r*r<(t:Rat) / U.size)↔kU t U.size (ao c)=true:=λt=>by
    unfold kU;rw[decide_eq_true_eq,<-h2.lo];have p1:=hU.pos;have p2:=h2.ok.pos;have e1:((ao c).aW:Rat) / (ao c).size=(((ao c).aW*U.size:Int):Rat) / ((U.size*(ao c).size:Int):Rat):=by
     have n1:=du (a:=U.size) o_;have n2:=du (a:=(ao c).size) o_;rw[Rat.intCast_mul,Rat.intCast_mul]
     grind
    have e2:(t:Rat) / U.size=((t*(ao c).size:Int):Rat) / ((U.size*(ao c).size:Int):Rat):=by
     have n1:=du (a:=U.size) o_;have n2:=du (a:=(ao c).size) o_;rw[Rat.intCast_mul,Rat.intCast_mul]
     grind
    rw[e1,e2,xV (Int.mul_pos p1 p2)]
   by_cases c1:r*r<U.iv.lo
   ·rw[if_pos c1,if_pos ((key U.aW).mp c1)];rfl
   ·rw[if_neg c1,if_neg λz=>c1 ((key U.aW).mpr z)]
    by_cases c2:r*r<U.iv.hi
    ·rw[if_pos c2,if_pos ((key U.aA).mp c2)];rfl
    ·rw[if_neg c2,if_neg λz=>c2 ((key U.aA).mpr z)]
theorem gy{a:be}(h:¬a.aW<=0):aV a=false:=by
 unfold aV;rw[decide_eq_false h];rfl
theorem Ah{way cM:bC}{size:be}(p:Nat)(hw:way.Ok)(ha:cM.Ok)(hs:size.Ok)(hz:¬size.aW<=0):(jr way cM size p).Ok /\
  (jr way cM size p).ku=ialong p way.ku (Ln.outward p (idiv (itimes (-2) (Ln.outward p (idot cM.ku way.ku))) size.iv)) cM.ku:=by
 have hM:=lW ha hw p;have eM:=ua ha hw p;have h1:=ay (cZ (-2)).pos hM.pos;have hn:=gy hz;have h2:=fc h1.pos hs hn;have h3:=aQ h2 p;refine⟨kx hw h3 ha p,?_⟩;unfold jr;rw[qH hw h3 ha p,bP h2.pos,kW h1.pos hs hn,ck (cZ (-2)).pos hM.pos,eM,(bK.ap (-2)).eq];rfl
theorem FZ{l:a9}{cM:bC}{sz index:be}{n m:Rat}(p:Nat)(hw:l.way.Ok)(hn:bK l.index n)(hm:bK index m)(h1:1<=m)(ha:cM.Ok)(hs:sz=bW cM p)(hz:¬sz.aW<=0) :
  PH (λt u=>t.Ok/\t.ku=u) (vC l cM sz index p) (bentAt p (Hm l.sign) n m false cM.ku l.way.ku):=by
 have hS:sz.Ok:=by rw[hs];exact jZ ha p
 have eS:sz.iv=Ln.outward p (squares cM.ku 1):=by rw[hs];exact mV ha p
 have hM:=lW ha hw p;have eM:=ua ha hw p;have q1:=hn.sq;have q2:=hm.sq.sub q1;have a1:=ay q1.ok.pos (a5 hM.pos).pos;have a2:=ay q2.ok.pos hS.pos;have hB:=aQ (bU a1 a2) p;have eB:(ib l cM sz index p).iv=Ln.outward p (iadd (itimes (n*n) (isquare (bY cM l.way p).iv)) (itimes (m*m - n*n) sz.iv)):=by
  unfold ib;rw[bP (bU a1 a2).pos,gL a1.pos a2.pos,ck q1.ok.pos (a5 hM.pos).pos,ck q2.ok.pos hS.pos,dX hM,q1.eq,q2.eq];rfl
 unfold vC bentAt yc;simp only[<-eS,<-eM,<-eB];have Rg:(ib l cM sz index p).Ok:=hB;generalize ib l cM sz index p=cg at *;generalize bY cM l.way p=along at *;rw[if_neg (show ¬sz.iv.lo<=0 from λz=>hz ((iI hS).mp z)),if_neg (show ¬false=true by decide)]
 by_cases c1:cg.aA<0
 ·rw[pf c1,if_pos ((qG Rg).mpr c1)];rfl
 rw[if_neg (show ¬cg.iv.hi<0 from λz=>c1 ((qG Rg).mp z))]
 by_cases c2:cg.aW<=0
 ·rw[mv c1 c2,if_pos ((iI Rg).mpr c2)];rfl
 rw[sE c1 c2,if_neg (show ¬cg.iv.lo<=0 from λz=>c2 ((iI Rg).mp z))];dsimp only;have hR:=kY Rg o_ p;have hW:=i9 hR l.sign;have eW:=qF hR l.sign;rw[x0 Rg o_ p] at eW;have t1:=ay hn.ok.pos hM.pos;have hT:=gM hW t1;have BW:=gy hz;have h2:=fc hT.pos hS BW;have h3:=aQ h2 p;have j9:=iT hw hn.ok;have hF:=kx j9 h3 ha p;have Yk:m≠0:=by grind
 have hinv:=gR.div hm Yk;have Ci:=iT hF hinv.ok;refine⟨ub Ci p,?_⟩;rw[uc Ci p,o0 hF hinv,qH j9 h3 ha p,bP h2.pos,kW hT.pos hS BW,t8 hW.pos t1.pos,ck hn.ok.pos hM.pos,eW,o0 hw hn,hn.eq];rfl
theorem L6{s:System_}{i:Nat}{e:Elem}(h:s.elems[i]?=some e):s.elem i=e:=by
 unfold System_.elem;rw[List.getD_eq_getElem?_getD,h];rfl
theorem yd{s:System_}{i:Nat}{e:Elem}(h:s.elems[i]?=some e):s.mirrors (i+1)=s.mirrors i+(if e.kind=.mirror then 1 else 0):=by
 unfold System_.mirrors;rw[List.take_add_one,h,List.filter_append,List.length_append];congr 1;show (List.filter _ [e]).length=_
 by_cases c:e.kind=.mirror
 ·rw[if_pos c,List.filter_cons,if_pos (by simp [c])];rfl
 ·rw[if_neg c,List.filter_cons,if_neg (by simp [c])];rfl
theorem F4{s:System_}{i:Nat}{e:Elem}(h:s.elems[i]?=some e):s.sign (i+1)=if e.kind=.mirror then -(s.sign i) else s.sign i:=by
 unfold System_.sign;rw[yd h]
 by_cases c:e.kind=.mirror
 ·rw[if_pos c,if_pos c]
  by_cases z:s.mirrors i % 2=0
  ·rw[if_pos z,if_neg o_]
  ·rw[if_neg z,if_pos o_,Rat.neg_neg]
 ·rw[if_neg c,if_neg c,Nat.add_zero]
theorem L7{k:Int}(h:k=1\/k=-1):Hm (-k)=-(Hm k):=by
 unfold Hm;rcases h with rfl |rfl
 ·simp
 ·simp
theorem lX{s:System_}{line i p:Nat}{l:a9}{q:cJ}{b:Beam}{e:Elem}(he:s.elems[i]?=some e)(hq:ud s line q e)(hl:jK l b)(ha:At s line i l) :
  PH (λl' b'=>jK l' b'/\At s line (i+1) l') (cj l q line p) (beamStep p s line i b):=by
 have ee:=L6 he;have hg:s.gap i=s.sign i*e.gap:=by unfold System_.gap;rw[ee]
 have n1:=(L5 hq.gap l.sign).neg;rw[ha.sign,<-hg] at n1;have o1:=bU hl.pt.z n1.ok;have hN:(ia l q p).Ok:=⟨hl.pt.x,hl.pt.y,aQ o1 p⟩
 have eN:(ia l q p).ku=⟨b.at_.x,b.at_.y,Ln.outward p (iadd b.at_.z (point (-(s.gap i))))⟩:=by
  show IVec.mk l.point.x.iv l.point.y.iv (outward (cy l.point.z (br (bZ q.gap l.sign))) p).iv=_;rw[bP o1.pos,gL hl.pt.z.pos n1.ok.pos,n1.eq,<-hl.Ym];rfl
 have hf:=Ag (e:=e) l.sign p hN hl.way hq.sh;rw[eN,hl.FY,ha.sign] at hf;unfold cj gp beamStep;simp only[ee];generalize hM:meetsAt p (s.sign i) e ⟨b.at_.x,b.at_.y,Ln.outward p (iadd b.at_.z (point (-(s.gap i))))⟩ b.way=M at *;generalize jq (ia l q p) l.way q.sh l.sign p=F at *;cases F with
 |error k =>
  cases M with
  |error w=>exact hf
  |ok t=>exact hf.elim
 |ok t =>
  cases M with
  |error w=>exact hf.elim
  |ok T =>
   obtain⟨ht,rfl⟩:=hf;dsimp only;have hP:=kx hN ht hl.way p;have eP:=qH hN ht hl.way p;rw[eN,hl.FY] at eP;rw[<-eP];generalize cv (ia l q p) t l.way p=pt at *;have hA:=ja hP hq.sh p;have eA:=wB (e:=e) hP hq.sh p;rw[<-eA];unfold pi;generalize ug:cD q.sh pt p=A at *
   by_cases c1:A.z.aA<=0
   ·rw[if_pos c1,if_pos (show A.ku.z.hi<=0 from (NW hA.z).mpr c1)];rfl
   rw[if_neg c1,if_neg (show ¬A.ku.z.hi<=0 from λz=>c1 ((NW hA.z).mp z))]
   by_cases c2:A.z.aW<=0
   ·rw[if_pos c2,if_pos (show A.ku.z.lo<=0 from (iI hA.z).mpr c2)];rfl
   rw[if_neg c2,if_neg (show ¬A.ku.z.lo<=0 from λz=>c2 ((iI hA.z).mp z))];have hL:=uf (e:=e) p hP hq.pX;cases S6:passesAt p e pt.ku with
   |some w =>
    rw[S6] at hL;rw[hL];rfl
   |none =>
    rw[S6] at hL;rw[hL];dsimp only;have hV:=jZ hA p;have eV:=mV hA p;have gD:=hq.kind;have ss:=F4 he;have vD:s.medium (i+1)=match e.kind with |.surface g=>g |_=>s.medium i:=by
     show (match (s.elem i).kind with |.surface g=>g |_=>s.medium i)=_;rw[ee]
    have PL:=ue (line:=line) ha.one;cases hk:e.kind with
    |halt_ =>
     rw[hk] at gD vD ss;cases Jd:q.kind with
     |surface g=>rw[Jd] at gD;exact gD.elim
     |mirror=>rw[Jd] at gD;exact gD.elim
     |gj =>
      dsimp only;refine⟨⟨hP,hl.way,rfl,hl.FY⟩,ha.sg,?_,?_,?_⟩
      ·rw[ss];exact ha.sign
      ·rw[vD];exact ha.ix
      ·rw[vD];exact ha.one
    |mirror =>
     rw[hk] at gD vD ss;cases Jd:q.kind with
     |surface g=>rw[Jd] at gD;exact gD.elim
     |gj=>rw[Jd] at gD;exact gD.elim
     |mirror =>
      dsimp only;unfold bentAt;simp only[<-eV]
      by_cases c3:(bW A p).aW<=0
      ·rw[if_pos c3,if_pos (show (bW A p).iv.lo<=0 from (iI hV).mpr c3)];rfl
      rw[if_neg c3,if_neg (show ¬(bW A p).iv.lo<=0 from λz=>c3 ((iI hV).mp z)),if_pos True.intro];dsimp only;obtain⟨m1,m2⟩:=Ah p hl.way hA hV c3;rw[hl.FY] at m2;refine⟨⟨hP,m1,rfl,m2⟩,?_,?_,?_,?_⟩
      ·show -l.sign=1\/-l.sign=-1;have:=ha.sg;omega
      ·show Hm (-l.sign)=_;rw[ss,if_pos rfl,L7 ha.sg,ha.sign]
      ·rw[vD];exact ha.ix
      ·rw[vD];exact ha.one
    |surface m =>
     rw[hk] at gD vD ss;cases Jd:q.kind with
     |mirror=>rw[Jd] at gD;exact gD.elim
     |gj=>rw[Jd] at gD;exact gD.elim
     |surface g =>
      rw[Jd] at gD;obtain⟨g1,g2⟩:=(show bK (g.getD line (ap 1)) (s.glassIndex m line)/\1<=s.glassIndex m line from gD)
      have L8:1<=s.glassIndex (s.medium (i+1)) line:=by rw[vD];exact g2
      have Wp:=ue (line:=line) L8;dsimp only;rw[PL,Wp,vD];dsimp only
      by_cases c3:(bW A p).aW<=0
      ·rw[if_pos c3];unfold bentAt;simp only[<-eV];rw[if_pos (show (bW A p).iv.lo<=0 from (iI hV).mpr c3)];rfl
      rw[if_neg c3];have hb:=FZ (l:=l) (index:=g.getD line (ap 1)) p hl.way ha.ix g1 g2 hA rfl c3;rw[hl.FY,ha.sign] at hb;generalize vC l A (bW A p) (g.getD line (ap 1)) p=BB at *;generalize bentAt p (s.sign i) (s.glassIndex (s.medium i) line) (s.glassIndex m line) false A.ku b.way=CC at *;cases BB with
      |error k =>
       cases CC with
       |error w=>exact hb
       |ok t=>exact hb.elim
      |ok w1 =>
       cases CC with
       |error w=>exact hb.elim
       |ok t =>
        obtain⟨b1,b2⟩:=hb;dsimp only;refine⟨⟨hP,b1,rfl,b2⟩,ha.sg,?_,?_,L8⟩
        ·rw[ss];exact ha.sign
        ·rw[vD];exact g1
structure Wq(s:System_)(line p:Nat)(k i:Nat)(qs:List cJ)(l:a9)(b:Beam):Prop where
 Ad:(eT line p qs l).2=(LensE.endNum (beams p s line k i b).2:Int)
 len:(eT line p qs l).1.length=(beams p s line k i b).1.length
 Je:∀(j:Nat) (l':a9) (b':Beam),(eT line p qs l).1[j]?=some l'->(beams p s line k i b).1[j]?=some b'->jK l' b'/\At s line (i+j+1) l'
theorem Ai{s:System_}{line p:Nat}(qs:List cJ):∀(i:Nat) (l:a9) (b:Beam),(∀(j:Nat) (q:cJ),qs[j]?=some q->∃e,s.elems[i+j]?=some e/\ud s line q e)->jK l b->At s line i l ->
  Wq s line p qs.length i qs l b:=by
 induction qs with
 |nil =>
  intro i l b _ _ _;have e1:eT line p [] l=([],0):=by
   rw[eT]
  have e2:beams p s line 0 i b=([],.through):=by rw[beams]
  refine⟨?_,?_,?_⟩
  ·rw[e1,show ([]:List cJ).length=0 from rfl,e2];rfl
  ·rw[e1,show ([]:List cJ).length=0 from rfl,e2];rfl
  ·intro j l' b' h;rw[e1] at h;simp at h
 |cons q qs ih =>
  intro i l b hq hl ha;have Cj:(q::qs).length=qs.length+1:=List.length_cons;obtain⟨e,he,hqe⟩:=hq 0 q rfl;have hs:=lX (p:=p) he hqe hl ha;have e1:eT line p (q::qs) l=match cj l q line p with
   |.error k=>([],k)
   |.ok l'=>(l'::(eT line p qs l').1,(eT line p qs l').2):=by
   rw[eT]
  have e2:beams p s line (qs.length+1) i b=match beamStep p s line i b with
   |.error w=>([],w)
   |.ok c=>(c::(beams p s line qs.length (i+1) c).1,(beams p s line qs.length (i+1) c).2):=by
   rw[beams];cases beamStep p s line i b <;> rfl
  generalize cj l q line p=F at *;generalize beamStep p s line i b=M at *;cases F with
  |error z =>
   cases M with
   |error w =>
    refine⟨?_,?_,?_⟩
    ·rw[e1,Cj,e2];exact hs
    ·rw[e1,Cj,e2];rfl
    ·intro j l' b' h;rw[e1] at h;simp at h
   |ok t=>exact hs.elim
  |ok l1 =>
   cases M with
   |error w=>exact hs.elim
   |ok b1 =>
    obtain⟨h1,h2⟩:=hs;have T:=ih (i+1) l1 b1 (λj q' hj=>by
     obtain⟨e',Wr,Rc⟩:=hq (j+1) q' (by simpa using hj);exact⟨e',by rw[show i+1+j=i+(j+1) by omega];exact Wr,Rc⟩) h1 h2
    refine⟨?_,?_,?_⟩
    ·rw[e1,Cj,e2];exact T.Ad
    ·rw[e1,Cj,e2];show (l1::(eT line p qs l1).1).length=(b1::(beams p s line qs.length (i+1) b1).1).length;rw[List.length_cons,List.length_cons,T.len]
    ·intro j l' b' hj hb;rw[e1] at hj;rw[Cj,e2] at hb;cases j with
     |zero =>
      have e1:l1=l':=by simpa using hj
      have e2:b1=b':=by simpa using hb
      subst e1 e2;exact⟨h1,h2⟩
     |succ j =>
      have:=T.Je j l' b' (by simpa using hj) (by simpa using hb);rw[show i+(j+1)+1=i+1+j+1 by omega];exact this
theorem rz{a:be}(h:a.Ok)(hl:a.size<=a.aW)(p:Nat):(outward a p).size<=(outward a p).aW:=by
 show 2^p<=cu (a.aW*2^p) a.size;rw[dP h.pos,Int.le_ediv_iff_mul_le h.pos,Int.mul_comm];exact Int.mul_le_mul_of_nonneg_right hl (Int.le_of_lt (dk p))
theorem Aj{a:be}(h:a.Ok)(hl:a.size<=a.aW)(p:Nat):0<(gJ a p).aW:=by
 have su:(0:Int)<2^p*2^p:=Int.mul_pos (dk p) (dk p);have h1:2^p*2^p<=cu (a.aW*(2^p*2^p)) a.size:=by
  rw[dP h.pos,Int.le_ediv_iff_mul_le h.pos,Int.mul_comm];exact Int.mul_le_mul_of_nonneg_right hl (Int.le_of_lt su)
 have h2:=lV (Int.le_of_lt su) h1;rw[xZ (Int.le_of_lt (dk p))] at h2;have:=dk p;show 0<aq _;omega
theorem uh{x y u v n:be}{qx qy qu qv:Rat}(p:Nat)(hx:bK x qx)(hy:bK y qy)(hu:bK u qu)(hv:bK v qv):jK (cA x y u v n p) (beamFrom p qx qy qu qv):=by
 have h3:bK (gQ (ap 1) (ao u) (ao v)) (1+qu*qu+qv*qv):=(gR.add hu.sq).add hv.sq;have L8:(gQ (ap 1) (ao u) (ao v)).size<=(gQ (ap 1) (ao u) (ao v)).aW:=by
  have e:=h3.lo;have hp:=h3.ok.pos;have g1:(1:Rat)<=1+qu*qu+qv*qv:=by
   have a1:=(db hu.sq.ok.pos).mpr (ik (a:=u));have a2:=(db hv.sq.ok.pos).mpr (ik (a:=v));rw[hu.sq.lo] at a1;rw[hv.sq.lo] at a2
   grind
  rw[<-e] at g1;generalize gQ (ap 1) (ao u) (ao v)=Z at *;have e1:(1:Rat)=(Z.size:Rat) / Z.size:=by
   have:=du (a:=Z.size) o_
   grind
  rw[e1] at g1;exact(f7 hp).mp g1
 have hO:=aQ h3.ok p;have S7:=rz h3.ok L8 p;have NY:0<=(outward (gQ (ap 1) (ao u) (ao v)) p).aW:=Int.le_trans (Int.le_of_lt hO.pos) S7;have hw:=kY hO NY p;have hw0:=Aj hO S7 p;have Yn:=gy (a:=gJ (outward (gQ (ap 1) (ao u) (ao v)) p) p) o_;have Yo:=fc (cZ 1).pos hw Yn;have hz:=aQ Yo p;have ez:(outward (c9 (ap 1) (gJ (outward (gQ (ap 1) (ao u) (ao v)) p) p)) p).iv=Ln.outward p (idiv (point 1) (iroot p (Ln.outward p (point (1+qu*qu+qv*qv))))):=by
  rw[bP Yo.pos,kW (cZ 1).pos hw Yn,x0 hO NY,bP h3.ok.pos,h3.eq,gR.eq]
 have h0:bK (ap 0) 0:=bK.ap 0;have t1:=ay hu.ok.pos hz.pos;have t2:=ay hv.ok.pos hz.pos;refine⟨⟨hx.ok,hy.ok,h0.ok⟩,⟨aQ t1 p,aQ t2 p,hz⟩,?_,?_⟩
 ·show IVec.mk x.iv y.iv (ap 0).iv=_;rw[hx.eq,hy.eq,h0.eq];rfl
 ·show IVec.mk (outward (aO u _) p).iv (outward (aO v _) p).iv (outward (c9 (ap 1) _) p).iv=_;rw[bP t1.pos,bP t2.pos,ck hu.ok.pos hz.pos,ck hv.ok.pos hz.pos,hu.eq,hv.eq,ez];rfl
def am(b:Bytes)(i:Nat):Nat:=i+((b.drop i).takeWhile Num.isDigit).length
def a6(b:Bytes)(i j:Nat):Nat:=Num.number ((b.drop i).take (j - i))
def dC(b:Bytes)(i m j:Nat):be:=number ((a6 b i m*10^(j - (m+1))+a6 b (m+1) j:Nat):Int) ((10^(j - (m+1)):Nat):Int)
def aZ(t d:Int):Int×Int:=(t / (Int.gcd t d:Int),d / (Int.gcd t d:Int))
theorem mw{t d:Int}(hd:0<d):aZ t d=(((t:Rat) / (d:Rat)).num,(((t:Rat) / (d:Rat)).den:Int)):=by
 rw[<-Rat.divInt_eq_div,Rat.num_divInt,Rat.den_divInt,if_neg o_,Int.sign_eq_one_of_pos hd,Int.one_mul,Int.gcd_comm d t];unfold aZ;congr 1;rw[Int.natCast_ediv];congr 1;omega
def cE(b:Bytes)(i:Nat):Option be :=
 let m:=am b i
 if m=i then none
 else if m=b.length then some (number (a6 b i m) 1)
 else
  let j:=am b (m+1)
  if j=m+1\/j<b.length then none
  else if b[m]?=some 46 then some (dC b i m j)
  else if b[m]?≠some 47\/a6 b (m+1) j=0 then none
  else some (number (a6 b i m) (a6 b (m+1) j))
def az(b:Bytes):Option be :=
 if b.length=0\/512<b.length then none
 else match cE b (if b[0]?=some 45 then 1 else 0) with
  |none=>none
  |some v =>
   let t:=aZ v.aW v.size
   if 10^18<=max t.1 t.2 then none
   else some (number (if b[0]?=some 45 then -t.1 else t.1) t.2)
theorem cb{p:UInt8->Bool}(l:Bytes):(l.takeWhile p).length<=l.length:=(List.takeWhile_prefix p).length_le
theorem ui{p:UInt8->Bool}(l:Bytes):l.take (l.takeWhile p).length=l.takeWhile p:=(List.prefix_iff_eq_take.mp (List.takeWhile_prefix p)).symm
theorem fX(b:Bytes)(i:Nat):a6 b i (am b i)=Num.number ((b.drop i).takeWhile Num.isDigit):=by
 unfold a6 am;rw[Nat.add_sub_cancel_left,ui]
theorem gT(b:Bytes){i:Nat}(h:i<=b.length):am b i<=b.length:=by
 unfold am;have:=cb (p:=Num.isDigit) (b.drop i);rw[List.length_drop] at this;omega
theorem j4(a b:Bytes):Num.number (a++b)=Num.number a*10^b.length+Num.number b:=by
 unfold Num.number;have key:∀(l:Bytes) (n:Nat),l.foldl (λ(n:Nat) (c:UInt8)=>10*n+(c.toNat - 48)) n=n*10^l.length+l.foldl (λ(n:Nat) (c:UInt8)=>10*n+(c.toNat - 48)) 0:=by
  intro l
  induction l with
  |nil=>intro n;simp
  |cons c r ih =>
   intro n;rw[List.foldl_cons,List.foldl_cons,ih,ih (10*0+(c.toNat - 48)),List.length_cons,Nat.pow_succ]
   grind
 rw[List.foldl_append,key]
theorem F6{p:Nat}{s:Bytes}(h:s.takeWhile Num.isDigit=[]):Num.partAt p s=.error p:=by
 unfold Num.partAt;dsimp only;rw[if_pos h]
section
variable{p:Nat}{s a t:Bytes}(ha:s.takeWhile Num.isDigit=a)(h0:a≠[])(hl:¬Num.DIGITS<a.length)
include ha h0 hl
theorem Jf(hr:s.drop a.length=[]):Num.partAt p s=.ok (((Num.number a:Nat):Rat),[]):=by
 unfold Num.partAt;simp only[ha];rw[if_neg h0,if_neg hl,hr]
theorem Ck(hr:s.drop a.length=46::t):Num.partAt p s=if t.takeWhile Num.isDigit=[] then .error (p+a.length+1)
  else if Num.DIGITS<(t.takeWhile Num.isDigit).length then .error (p+a.length+1+Num.DIGITS)
  else .ok (((Num.number (a++t.takeWhile Num.isDigit):Nat):Rat) / ((10^(t.takeWhile Num.isDigit).length:Nat):Rat),t.drop (t.takeWhile Num.isDigit).length):=by
 unfold Num.partAt;simp only[ha];rw[if_neg h0,if_neg hl,hr];rfl
theorem Ak(hr:s.drop a.length=47::t):Num.partAt p s=if t.takeWhile Num.isDigit=[] then .error (p+a.length+1)
  else if Num.DIGITS<(t.takeWhile Num.isDigit).length then .error (p+a.length+1+Num.DIGITS)
  else if Num.number (t.takeWhile Num.isDigit)=0 then .error (p+a.length+1)
  else .ok (((Num.number a:Nat):Rat) / ((Num.number (t.takeWhile Num.isDigit):Nat):Rat),t.drop (t.takeWhile Num.isDigit).length):=by
 unfold Num.partAt;simp only[ha];rw[if_neg h0,if_neg hl,hr];rfl
theorem Cm{c:UInt8}(hr:s.drop a.length=c::t)(PM:c≠46)(h47:c≠47):Num.partAt p s=.ok (((Num.number a:Nat):Rat),c::t):=by
 unfold Num.partAt;simp only[ha];rw[if_neg h0,if_neg hl,hr];split
 ·rename_i hh;injection hh with a1 _
  exact absurd a1 PM
 ·rename_i hh;injection hh with a1 _
  exact absurd a1 h47
 ·rfl
end
theorem qJ(b:Bytes)(i:Nat)(hi:i<=b.length)(hb:b.length<=512) :
  match cE b i with
  |some v=>v.aW=v.aA/\0<=v.aW/\0<v.size/\∃q,Num.partAt i (b.drop i)=.ok (q,[])/\q=(v.aW:Rat) / (v.size:Rat)
  |none=>∀q,Num.partAt i (b.drop i)≠.ok (q,[]):=by
 have ha:=cb (p:=Num.isDigit) (b.drop i);rw[List.length_drop] at ha;have Yp:(((b.drop i).takeWhile Num.isDigit=[])↔am b i=i):=by
  unfold am;rw[<-List.length_eq_zero_iff];omega
 unfold cE;dsimp only
 by_cases h0:am b i=i
 ·rw[if_pos h0];dsimp only;rw[F6 (Yp.mpr h0)];intro q z;cases z
 have n0:(b.drop i).takeWhile Num.isDigit≠[]:=λz=>h0 (Yp.mp z);have nl:¬Num.DIGITS<((b.drop i).takeWhile Num.isDigit).length:=by unfold Num.DIGITS;omega
 have hr:(b.drop i).drop ((b.drop i).takeWhile Num.isDigit).length=b.drop (am b i):=by
  rw[List.drop_drop];rfl
 have e2:=fX b i;rw[if_neg h0]
 by_cases h1:am b i=b.length
 ·rw[if_pos h1,Jf rfl n0 nl (by rw[hr,h1];exact List.drop_length)];refine⟨rfl,Int.natCast_nonneg _,(by decide:(0:Int)<1),_,rfl,?_⟩;show _=((a6 b i (am b i):Nat):Rat) / ((1:Int):Rat);rw[e2];have:((1:Int):Rat)=1:=rfl;rw[this]
  grind
 rw[if_neg h1];have hm:am b i<b.length:=by
  have:=gT b hi;omega
 have hdm:b.drop (am b i)=b[am b i]::b.drop (am b i+1):=List.drop_eq_getElem_cons hm;have hg:b[am b i]?=some b[am b i]:=List.getElem?_eq_getElem hm;rw[hdm] at hr;rw[hg];generalize S8:am b i=m at *;have ht:=cb (p:=Num.isDigit) (b.drop (m+1));rw[List.length_drop] at ht;have Jg:(((b.drop (m+1)).takeWhile Num.isDigit=[])↔am b (m+1)=m+1):=by
  unfold am;rw[<-List.length_eq_zero_iff];omega
 have UN:(b.drop (m+1)).drop ((b.drop (m+1)).takeWhile Num.isDigit).length=b.drop (am b (m+1)):=by
  rw[List.drop_drop];rfl
 have L9:(b.drop (am b (m+1))=[])↔¬am b (m+1)<b.length:=by
  rw[List.drop_eq_nil_iff];omega
 have Ma:¬Num.DIGITS<((b.drop (m+1)).takeWhile Num.isDigit).length:=by unfold Num.DIGITS;omega
 have ek:am b (m+1) - (m+1)=((b.drop (m+1)).takeWhile Num.isDigit).length:=by unfold am;omega
 by_cases UO:b[m]=46
 ·rw[UO] at hr;rw[UO,Ck rfl n0 nl hr]
  by_cases hj:am b (m+1)=m+1\/am b (m+1)<b.length
  ·rw[if_pos hj];intro q z
   by_cases hz:am b (m+1)=m+1
   ·rw[if_pos (Jg.mpr hz)] at z;cases z
   ·rw[if_neg (λy=>hz (Jg.mp y)),if_neg Ma,UN] at z;have z2:=(Prod.mk.inj (Except.ok.inj z)).2;exact(L9.mp z2) (hj.resolve_left hz)
  ·rw[if_neg hj,if_pos rfl];have Ws:¬am b (m+1)=m+1:=λy=>hj (.inl y);have zg:¬am b (m+1)<b.length:=λy=>hj (.inr y);rw[if_neg (λy=>Ws (Jg.mp y)),if_neg Ma,UN,L9.mpr zg];refine⟨rfl,Int.natCast_nonneg _,?_,_,rfl,?_⟩
   ·show (0:Int)<((10^_:Nat):Int);exact_mod_cast Nat.pow_pos d_
   ·show _=(((a6 b i m*10^(am b (m+1) - (m+1))+a6 b (m+1) (am b (m+1)):Nat):Int):Rat) / (((10^(am b (m+1) - (m+1)):Nat):Int):Rat);rw[fX b (m+1),ek,j4,e2];rfl
 ·have Wt:¬some b[m]=some (46:UInt8):=λz=>UO (Option.some.inj z)
  by_cases UP:b[m]=47
  ·rw[UP] at hr;rw[UP,Ak rfl n0 nl hr]
   by_cases hj:am b (m+1)=m+1\/am b (m+1)<b.length
   ·rw[if_pos hj];intro q z
    by_cases hz:am b (m+1)=m+1
    ·rw[if_pos (Jg.mpr hz)] at z;cases z
    ·rw[if_neg (λy=>hz (Jg.mp y)),if_neg Ma] at z;split at z
     ·cases z
     ·rw[UN] at z;have z2:=(Prod.mk.inj (Except.ok.inj z)).2;exact(L9.mp z2) (hj.resolve_left hz)
   ·rw[if_neg hj,if_neg d_];have Ws:¬am b (m+1)=m+1:=λy=>hj (.inl y);have zg:¬am b (m+1)<b.length:=λy=>hj (.inr y);rw[if_neg (λy=>Ws (Jg.mp y)),if_neg Ma,fX b (m+1),UN,L9.mpr zg]
    by_cases hq:Num.number ((b.drop (m+1)).takeWhile Num.isDigit)=0
    ·rw[if_pos (.inr hq),if_pos hq];intro q z;cases z
    ·rw[if_neg (by simp [hq]),if_neg hq];refine⟨rfl,Int.natCast_nonneg _,?_,_,rfl,?_⟩
     ·show (0:Int)<((Num.number _:Nat):Int);exact_mod_cast Nat.pos_of_ne_zero hq
     ·show _=(((a6 b i m:Nat):Int):Rat) / (((Num.number ((b.drop (m+1)).takeWhile Num.isDigit):Nat):Int):Rat);rw[e2];rfl
  ·have Wu:¬some b[m]=some (47:UInt8):=λz=>UP (Option.some.inj z);rw[Cm rfl n0 nl hr UO UP];have no:∀q,(Except.ok (((Num.number ((b.drop i).takeWhile Num.isDigit):Nat):Rat),b[m]::b.drop (m+1)):Except Nat (Rat×Bytes))≠.ok (q,[]):=by
    intro q z;have z2:=(Prod.mk.inj (Except.ok.inj z)).2;cases z2
   by_cases hj:am b (m+1)=m+1\/am b (m+1)<b.length
   ·rw[if_pos hj];exact no
   ·rw[if_neg hj,if_neg Wt,if_pos (.inl Wu)];exact no
theorem neg_num(q:Rat):(-q).num=-q.num:=Rat.neg_num ..
theorem neg_den(q:Rat):(-q).den=q.den:=Rat.neg_den ..
theorem iz(b:Bytes):match az b with
  |some v=>bK v ((v.aW:Rat) / (v.size:Rat))/\LensE.numOf b=some ((v.aW:Rat) / (v.size:Rat))/\v.aW.natAbs<10^18/\v.size.natAbs<10^18
  |none=>LensE.numOf b=none:=by
 unfold az
 by_cases h0:b.length=0\/512<b.length
 ·rw[if_pos h0];show (if Num.LONG<b.length then none else _)=_;rcases h0 with h |h
  ·rw[List.length_eq_zero_iff.mp h];rfl
  ·rw[if_pos (show Num.LONG<b.length from h)]
 rw[if_neg h0];have hl:b.length<=512:=by omega
 have vq:0<b.length:=by omega
 have eN:LensE.numOf b=match Num.readNum b with
   |.ok q=>if Num.fits q=true then some q else none
   |.error _=>none:=by
  show (if Num.LONG<b.length then none else _)=_;rw[if_neg (show ¬Num.LONG<b.length by unfold Num.LONG;omega)];cases Num.readNum b <;> rfl
 rw[eN];obtain⟨c,r,rfl⟩:∃c r,b=c::r:=by
  cases b with
  |nil=>simp at vq
  |cons c r=>exact⟨c,r,rfl⟩
 have sg:∀v q,(v:be).aW=v.aA->0<=v.aW->0<v.size->q=(v.aW:Rat) / (v.size:Rat)->(if (10:Int)^18<=max (aZ v.aW v.size).1 (aZ v.aW v.size).2 then Num.fits q=false else Num.fits q=true) /\
   aZ v.aW v.size=(q.num,(q.den:Int))/\0<=q.num:=by
  intro v q _ h1 h2 hq;have e:=mw (t:=v.aW) h2;rw[<-hq] at e;have hn:0<=q.num:=by
   rw[Rat.num_nonneg,hq];exact(db h2).mpr h1
  refine⟨?_,e,hn⟩;rw[e];unfold Num.fits
  by_cases hh:(10:Int)^18<=max q.num q.den
  ·rw[if_pos hh,Bool.and_eq_false_iff];simp only[decide_eq_false_iff_not];omega
  ·rw[if_neg hh,Bool.and_eq_true];simp only[decide_eq_true_eq];omega
 by_cases hc:c=45
 ·subst hc;have hp:=qJ (45::r) 1 (by simp) hl;rw[List.drop_one,List.tail_cons] at hp;rw[show ((45:UInt8)::r)[0]?=some 45 from rfl,if_pos rfl];have eR:Num.readNum (45::r)=match Num.partAt 1 r with
    |.ok x=>if x.2=[] then .ok (-x.1) else .error ((45::r).length - x.2.length)
    |.error k=>.error k:=by
   show (match (Num.partAt (0+1) r).map λ(x:Rat×Bytes)=>(-x.1,x.2) with
    |.error k=>(Except.error k:Except Nat Rat)
    |.ok x=>if x.2=[] then Except.ok x.1 else Except.error ((45::r).length - x.2.length))=_
   rw[Nat.zero_add];cases Num.partAt 1 r <;> rfl
  cases hu:cE (45::r) 1 with
  |none =>
   rw[hu] at hp;dsimp only at hp ⊢;rw[eR];cases su:Num.partAt 1 r with
   |error k=>rfl
   |ok x =>
    obtain⟨q,t⟩:=x;have:t≠[]:=λz=>hp q (by rw[su,z]);dsimp only;rw[if_neg this]
  |some v =>
   rw[hu] at hp;obtain⟨p1,p2,p3,q,p4,p5⟩:=hp;obtain⟨s1,s2,s3⟩:=sg v q p1 p2 p3 p5;have eQ:Num.readNum (45::r)=.ok (-q):=by
    rw[eR,p4];rfl
   rw[eQ];have ef:Num.fits (-q)=Num.fits q:=by
    unfold Num.fits;rw[neg_num,neg_den,Int.natAbs_neg]
   dsimp only;rw[ef]
   by_cases hh:(10:Int)^18<=max (aZ v.aW v.size).1 (aZ v.aW v.size).2
   ·rw[if_pos hh] at s1;rw[if_pos hh,s1];rfl
   ·rw[if_neg hh] at s1;rw[if_neg hh,s1,if_pos rfl,if_pos rfl,s2];dsimp only;have e1:((-q.num:Int):Rat) / ((q.den:Int):Rat)=-q:=by
     rw[Rat.intCast_neg];have:=Rat.mkRat_self q;rw[Rat.mkRat_eq_div] at this;have e3:((q.den:Int):Rat)=(q.den:Rat):=rfl;rw[e3]
     grind
    have PN:(0:Int)<q.den:=by exact_mod_cast q.den_pos
    refine⟨⟨qD PN,wz _ _⟩,?_,?_,?_⟩
    ·show some (-q)=some (((-q.num:Int):Rat) / ((q.den:Int):Rat));rw[e1]
    ·show (-q.num).natAbs<_;rw[s2] at hh;dsimp only at hh;omega
    ·show ((q.den:Int)).natAbs<_;rw[s2] at hh;dsimp only at hh;omega
 ·have hp:=qJ (c::r) 0 (Nat.zero_le _) hl;rw[List.drop_zero] at hp;have RD:¬(c::r)[0]?=some 45:=λz=>hc (Option.some.inj z);rw[if_neg RD];have eS:Num.signedAt 0 (c::r)=Num.partAt 0 (c::r):=by
   unfold Num.signedAt;split
   ·rename_i hh;injection hh with a1 _
    exact absurd a1 hc
   ·rfl
  have eR:Num.readNum (c::r)=match Num.partAt 0 (c::r) with
    |.ok x=>if x.2=[] then .ok x.1 else .error ((c::r).length - x.2.length)
    |.error k=>.error k:=by
   unfold Num.readNum;rw[eS];cases Num.partAt 0 (c::r) <;> rfl
  cases hu:cE (c::r) 0 with
  |none =>
   rw[hu] at hp;dsimp only at hp ⊢;rw[eR];cases su:Num.partAt 0 (c::r) with
   |error k=>rfl
   |ok x =>
    obtain⟨q,t⟩:=x;have:t≠[]:=λz=>hp q (by rw[su,z]);dsimp only;rw[if_neg this]
  |some v =>
   rw[hu] at hp;obtain⟨p1,p2,p3,q,p4,p5⟩:=hp;obtain⟨s1,s2,s3⟩:=sg v q p1 p2 p3 p5;have eQ:Num.readNum (c::r)=.ok q:=by
    rw[eR,p4];rfl
   rw[eQ];dsimp only
   by_cases hh:(10:Int)^18<=max (aZ v.aW v.size).1 (aZ v.aW v.size).2
   ·rw[if_pos hh] at s1;rw[if_pos hh,s1];rfl
   ·rw[if_neg hh] at s1;rw[if_neg hh,s1,if_pos rfl,s2,if_neg RD];dsimp only;have e1:((q.num:Int):Rat) / ((q.den:Int):Rat)=q:=by
     have:=Rat.mkRat_self q;rw[Rat.mkRat_eq_div] at this;exact this
    have PN:(0:Int)<q.den:=by exact_mod_cast q.den_pos
    refine⟨⟨qD PN,wz _ _⟩,?_,?_,?_⟩
    ·show some q=some (((q.num:Int):Rat) / ((q.den:Int):Rat));rw[e1]
    ·show (q.num).natAbs<_;rw[s2] at hh;dsimp only at hh;omega
    ·show ((q.den:Int)).natAbs<_;rw[s2] at hh;dsimp only at hh;omega
theorem Al{d:Nat}(h:d<10):(UInt8.ofNat (48+d)).toNat=48+d:=by
 rw[UInt8.toNat_ofNat'];omega
theorem mY{d:Nat}(h:d<10):(Nat.digitChar d).toNat=48+d:=by
 match d,h with
 |0,_=>rfl
 |1,_=>rfl
 |2,_=>rfl
 |3,_=>rfl
 |4,_=>rfl
 |5,_=>rfl
 |6,_=>rfl
 |7,_=>rfl
 |8,_=>rfl
 |9,_=>rfl
theorem lY:∀(k n:Nat),0<k->n<2^k->(Num.digitsIn k n).map UInt8.toNat=(Nat.toDigits 10 n).map Char.toNat
 |0,n,h,_=>absurd h d_
 |k+1,n,_,h=>by
  show ((if n<10 then [] else Num.digitsIn k (n / 10))++[UInt8.ofNat (48+n % 10)]).map UInt8.toNat=_;rw[Nat.toDigits_eq_if d_];have hm:n % 10<10:=Nat.mod_lt _ d_
  by_cases c:n<10
  ·rw[if_pos c,if_pos c];show [(UInt8.ofNat (48+n % 10)).toNat]=[(Nat.digitChar n).toNat]
   rw[Al hm,mY c,Nat.mod_eq_of_lt c]
  ·rw[if_neg c,if_neg c,List.map_append,List.map_append];rw[Nat.pow_succ] at h;have hk:0<k:=by
    rcases Nat.eq_zero_or_pos k with z |z
    ·subst z;simp at h;omega
    ·exact z
   rw[lY k (n / 10) hk o_];show _++[(UInt8.ofNat (48+n % 10)).toNat]=_++[(Nat.digitChar (n % 10)).toNat];rw[Al hm,mY hm]
theorem mZ(n:Nat):(Num.decimal n).map UInt8.toNat=(Nat.toDigits 10 n).map Char.toNat :=
 lY _ n (Nat.succ_pos _) (by
  rcases Nat.eq_zero_or_pos n with z |z
  ·subst z;decide
  ·exact Nat.lt_log2_self)
def fg(i:Int):List Nat:=(toString i).toList.map Char.toNat
theorem jL(i:Int):fg i=(if i<0 then [45] else [])++(Nat.toDigits 10 i.natAbs).map Char.toNat:=by
 unfold fg;show (Int.repr i).toList.map Char.toNat=_;cases i with
 |ofNat n =>
  rw[if_neg (show ¬Int.ofNat n<0 from Int.not_lt.mpr (Int.natCast_nonneg n))];show (Nat.repr n).toList.map Char.toNat=_;rw[Nat.toList_repr];rfl
 |negSucc n =>
  rw[if_pos o_];show ("-"++Nat.repr (n+1)).toList.map Char.toNat=_;rw[String.toList_append,Nat.toList_repr,List.map_append];rfl
def fC(t d:Int):List Nat:=if d=1 then fg t else fg t++47::fg d
theorem rA(q:Rat):(Num.exactText q).map UInt8.toNat=fC q.num q.den:=by
 unfold Num.exactText fC;have hn:(q<0)↔q.num<0:=by
  have:=Rat.num_nonneg (q:=q)
  constructor
  ·intro z;exact Int.not_le.mp λy=>absurd z (Rat.not_lt.mpr (this.mp y))
  ·intro z;exact Rat.not_le.mp λy=>absurd z (Int.not_lt.mpr (this.mpr y))
 have e1:((if q<0 then ascii "-" else []):Bytes).map UInt8.toNat=if q.num<0 then [45] else []:=by
  by_cases c:q.num<0
  ·rw[if_pos (hn.mpr c),if_pos c];rfl
  ·rw[if_neg (λz=>c (hn.mp z)),if_neg c];rfl
 have en:fg q.num=((if q<0 then ascii "-" else []):Bytes).map UInt8.toNat++(Num.decimal q.num.natAbs).map UInt8.toNat:=by
  rw[jL,e1,mZ]
 by_cases hd:q.den=1
 ·have DO:((q.den:Nat):Int)=1:=by exact_mod_cast hd
  rw[if_pos hd,if_pos DO,List.append_nil,List.map_append,en]
 ·have DO:¬((q.den:Nat):Int)=1:=by exact_mod_cast hd
  have ed:fg ((q.den:Nat):Int)=(Num.decimal q.den).map UInt8.toNat:=by
   rw[jL,if_neg o_,List.nil_append,mZ];rfl
  rw[if_neg hd,if_neg DO,en,ed,List.map_append,List.map_append,List.map_append,List.append_assoc];rfl
def dY:List (List Nat)->List Nat
 |[]=>[]
 |[x]=>x
 |x::r=>x++32::dY r
theorem uj:∀l:List Rat,(Num.listText l).map UInt8.toNat=dY (l.map λq=>fC q.num q.den)
 |[]=>rfl
 |[q]=>rA q
 |q::r::l=>by
  show (Num.exactText q++32::Num.listText (r::l)).map UInt8.toNat=fC q.num q.den++32::dY ((r::l).map λq=>fC q.num q.den);rw[List.map_append,rA,List.map_cons,uj (r::l)];rfl
theorem Eu{n k:Nat}:n<2^k↔(if n=0 then 0 else Nat.log2 n+1)<=k:=by
 by_cases h:n=0
 ·rw[if_pos h,h]
  constructor
  ·intro _;exact Nat.zero_le _
  ·intro _;exact Nat.pow_pos d_
 ·rw[if_neg h,Nat.succ_le_iff,Nat.log2_lt h]
theorem pj(q:Rat):Num.tellable q=true↔q.num.natAbs<2^4096/\q.den<2^4096:=by
 unfold Num.tellable;rw[Bool.and_eq_true,decide_eq_true_iff,decide_eq_true_iff]
theorem wC{a:be}(h:0<a.size):aZ a.aW a.size=(a.iv.lo.num,(a.iv.lo.den:Int))/\aZ a.aA a.size=(a.iv.hi.num,(a.iv.hi.den:Int)):=⟨mw h,mw h⟩
theorem ye{n:Nat}(h:(Nat.toDigits 10 n).map Char.toNat=[49]):n=1:=by
 have e:Nat.toDigits 10 n=['1']:=by
  cases hh:Nat.toDigits 10 n with
  |nil =>
   rw[hh] at h;cases h
  |cons c r =>
   rw[hh] at h;have hr:r=[]:=List.map_eq_nil_iff.mp (List.cons.inj h).2;have h1:c.toNat=49:=(List.cons.inj h).1;subst hr;have:c='1':=Char.ext (by
    apply UInt32.toNat.inj;exact h1)
   rw[this]
 have z:=Nat.ofDigitChars_toDigits (b:=10) (n:=n) d_ d_;rw[e] at z;exact z.symm
theorem yf{d:Int}(h:0<d):fg d=[49]↔d=1:=by
 constructor
 ·intro q;rw[jL,if_neg o_,List.nil_append] at q;have:=ye q;omega
 ·intro q;subst q;rfl
theorem yg{n k:Nat}(hk:0<k)(h:n<10^k):(Nat.toDigits 10 n).length<=k:=(Nat.length_toDigits_le_iff d_ hk).mpr h
theorem yh{i:Int}{k:Nat}(hk:0<k)(h:i.natAbs<10^k):(fg i).length<=k+1:=by
 rw[jL,List.length_append,List.length_map];have:=yg hk h;split <;> simp <;> omega
def gU(v g:Int):Int:=(g+v / g) / 2
theorem wD{v g:Int}(hv:0<=v)(hg:0<g):aq v<=gU v g:=by
 have h1:=fB hv;have h0:=bH v;generalize aq v=r at *;rcases Int.lt_or_le (gU v g) r with c |c
 ·exfalso;unfold gU at c;have h2:g+v / g<2*r:=by omega
  have h3:v / g<2*r - g:=by omega
  have h4:v<(2*r - g)*g:=by
   rcases Int.lt_or_le v ((2*r - g)*g) with z |z
   ·exact z
   ·have:=(Int.le_ediv_iff_mul_le hg).mpr z;omega
  have h5:(2*r - g)*g<=r*r:=by
   have:0<=(r - g)*(r - g):=kt _;have e:(r - g)*(r - g)=r*r - (2*r - g)*g:=by grind
   omega
  omega
 ·exact c
theorem Co{v g:Int}(hv:0<=v)(hg:0<g)(hr:aq v<=g)(h:g<=gU v g):g=aq v:=by
 unfold gU at h;have h1:g<=v / g:=by omega
 have h2:g*g<=v:=(Int.le_ediv_iff_mul_le hg).mp h1;have h3:=f8 hv;have h0:=bH v;generalize aq v=r at *;rcases Int.lt_or_le r g with c |c
 ·have:=ro (x:=r+1) (y:=g) o_ o_;omega
 ·omega
theorem Cq{v g:Int}(hv:0<v)(hg:0<g):0<gU v g:=by
 have h:=wD (Int.le_of_lt hv) hg;have h3:=f8 (Int.le_of_lt hv);have h0:=bH v;rcases Int.lt_or_le 0 (aq v) with c |c
 ·omega
 ·have:aq v=0:=by omega
  rw[this] at h3;omega
def iJ(n:Nat):Nat:=if n=0 then 0 else Nat.log2 n+1
theorem F7(n:Nat):n<2^iJ n:=Eu.mpr (Nat.le_refl _)
def jM(v:Int):Int:=2^((iJ v.natAbs+1) / 2)
theorem wE(v:Int):0<jM v:=dk _
theorem Jh{v:Int}(hv:0<=v):aq v<=jM v:=by
 have h1:=fB hv;have h0:=bH v;have h2:v<jM v*jM v:=by
  have a:=F7 v.natAbs;have b:2^iJ v.natAbs<=2^((iJ v.natAbs+1) / 2+(iJ v.natAbs+1) / 2):=Nat.pow_le_pow_right d_ o_;have c:v.natAbs<2^((iJ v.natAbs+1) / 2)*2^((iJ v.natAbs+1) / 2):=by rw[<-Nat.pow_add];omega
  have d:jM v*jM v=((2^((iJ v.natAbs+1) / 2)*2^((iJ v.natAbs+1) / 2):Nat):Int):=by
   unfold jM
   push_cast
   rfl
  rw[d];omega
 have hp:=wE v;generalize aq v=r at *;rcases Int.lt_or_le (jM v) r with c |c
 ·have:=ro (x:=jM v) (y:=r) o_ o_;omega
 ·exact c
theorem my:∀(f:Nat) (b:Bytes),Text.blanks f b<=b.length
 |0,_=>Nat.zero_le _
 |f+1,[]=>Nat.zero_le _
 |f+1,c::r=>by
  unfold Text.blanks;dsimp only;have h1:=cb (p:=λ(x:UInt8)=>x != 10) r;have h2:=my f (r.drop (r.takeWhile λ(x:UInt8)=>x != 10).length);have h3:=my f r;rw[List.length_drop] at h2;rw[List.length_cons];split
  ·omega
  ·split
   ·omega
   ·exact Nat.zero_le _
theorem jN:∀(f g:Nat) (b:Bytes),b.length<f->b.length<g->Text.blanks f b=Text.blanks g b
 |0,_,_,h,_=>absurd h (Nat.not_lt_zero _)
 |_+1,0,_,_,h=>absurd h (Nat.not_lt_zero _)
 |f+1,g+1,[],_,_=>rfl
 |f+1,g+1,c::r,hf,hg=>by
  rw[List.length_cons] at hf hg;have h1:=cb (p:=λ(x:UInt8)=>x != 10) r;have e1:=jN f g (r.drop (r.takeWhile λ(x:UInt8)=>x != 10).length) (by rw[List.length_drop];omega) (by rw[List.length_drop];omega);have e2:=jN f g r o_ o_;unfold Text.blanks;dsimp only;rw[e1,e2]
def bl(b:Bytes):Nat:=Text.blanks (b.length+1) b
theorem Ji(b:Bytes):bl b<=b.length:=my _ b
theorem PP:bl []=0:=rfl
theorem yi(c:UInt8)(r:Bytes):bl (c::r)=if c=35 then 1+(r.takeWhile λ(x:UInt8)=>x != 10).length+bl (r.drop (r.takeWhile λ(x:UInt8)=>x != 10).length)
  else if c=32\/c=9\/c=10\/c=13 then 1+bl r else 0:=by
 have h1:=cb (p:=λ(x:UInt8)=>x != 10) r;unfold bl;rw[Text.blanks.eq_def];dsimp only;rw[jN (c::r).length _ r (by simp) (Nat.lt_succ_self _),jN (c::r).length _ (r.drop (r.takeWhile λ(x:UInt8)=>x != 10).length) (by rw[List.length_drop,List.length_cons];omega) (Nat.lt_succ_self _)]
def bA(b:Bytes)(i:Nat):Text.Lex×Nat :=
 let k:=i+bl (b.drop i)
 (⟨k,(Text.tokenIn (b.drop k)).1⟩,k+(Text.tokenIn (b.drop k)).2)
theorem PQ{α:Type}{c:Prop}[Decidable c](x y:α):(if c then x else y)=y\/(if c then x else y)=x:=by
 by_cases h:c
 ·exact .inr (if_pos h)
 ·exact .inl (if_neg h)
def Mb(b:Bytes):Nat :=
 (b.takeWhile Text.isDigit).length+(if ((b.drop (b.takeWhile Text.isDigit).length).head? == some 46)=true then 1+(if ((b.drop (b.takeWhile Text.isDigit).length).head? == some 46)=true then ((b.drop (b.takeWhile Text.isDigit).length).drop 1).takeWhile Text.isDigit else []).length else 0)
theorem k7(b:Bytes):Text.numberIn b=(.broken,0)\/∃n k p,Text.numberIn b=(.num n k p,Mb b):=by
 unfold Text.numberIn Mb;exact(PQ _ _).imp id λh=>⟨_,_,_,h⟩
theorem Mc(b:Bytes):Mb b<=b.length:=by
 unfold Mb;have h2:=cb (p:=Text.isDigit) b;have h3:=cb (p:=Text.isDigit) ((b.drop (b.takeWhile Text.isDigit).length).drop 1);rw[List.length_drop,List.length_drop] at h3
 by_cases hp:((b.drop (b.takeWhile Text.isDigit).length).head? == some 46)=true
 ·rw[if_pos hp,if_pos hp];have vq:b.drop (b.takeWhile Text.isDigit).length≠[]:=by
   intro z;rw[z] at hp;exact absurd hp d_
  have h4:=List.length_pos_iff.mpr vq;rw[List.length_drop] at h4;omega
 ·rw[if_neg hp];omega
theorem qK(b:Bytes):(Text.tokenIn b).2<=b.length:=by
 unfold Text.tokenIn;cases b with
 |nil=>exact Nat.le_refl _
 |cons c r =>
  dsimp only;have h1:=cb (p:=λ(x:UInt8)=>Text.isLetter x || Text.isDigit x) (c::r)
  by_cases q1:Text.isLetter c=true
  ·rw[if_pos q1];split
   ·exact Nat.zero_le _
   ·split <;> exact h1
  ·rw[if_neg q1]
   by_cases q2:Text.isDigit c=true
   ·rw[if_pos q2];rcases k7 (c::r) with h |⟨n,k,p,h⟩
    ·rw[h];exact Nat.zero_le _
    ·rw[h];exact Mc _
   ·rw[if_neg q2];split
    ·show 1<=_;simp
    ·exact Nat.zero_le _
theorem F8(b:Bytes):(Text.tokenIn b).1=.end_\/(Text.tokenIn b).1=.broken\/0<(Text.tokenIn b).2:=by
 unfold Text.tokenIn;cases b with
 |nil=>exact .inl rfl
 |cons c r =>
  dsimp only
  by_cases h1:Text.isLetter c=true
  ·rw[if_pos h1];have hp:0<((c::r).takeWhile λ(x:UInt8)=>Text.isLetter x || Text.isDigit x).length:=by
    rw[List.takeWhile_cons,if_pos (by rw[h1];rfl)];exact Nat.succ_pos _
   split
   ·exact .inr (.inl rfl)
   ·split <;> exact .inr (.inr hp)
  ·rw[if_neg h1]
   by_cases h2:Text.isDigit c=true
   ·rw[if_pos h2];have hp:0<((c::r).takeWhile Text.isDigit).length:=by
     rw[List.takeWhile_cons,if_pos h2];exact Nat.succ_pos _
    rcases k7 (c::r) with h |⟨n,k,p,h⟩
    ·rw[h];exact .inr (.inl rfl)
    ·rw[h];exact .inr (.inr (Nat.lt_of_lt_of_le hp (Nat.le_add_right _ _)))
   ·rw[if_neg h2];split
    ·exact .inr (.inr (show 0<1 by decide))
    ·exact .inr (.inl rfl)
theorem uk:∀(f g i:Nat) (b:Bytes),b.length<f->b.length<g->Text.lexes f i b=Text.lexes g i b
 |0,_,_,_,h,_=>absurd h (Nat.not_lt_zero _)
 |_+1,0,_,_,_,h=>absurd h (Nat.not_lt_zero _)
 |f+1,g+1,i,b,hf,hg=>by
  have h1:=my (b.length+1) b;have h2:=qK (b.drop (Text.blanks (b.length+1) b));rw[List.length_drop] at h2;unfold Text.lexes;dsimp only;congr 1;rcases F8 (b.drop (Text.blanks (b.length+1) b)) with h |h |h
  ·rw[h]
  ·rw[h]
  ·have e:=uk f g (i+Text.blanks (b.length+1) b+(Text.tokenIn (b.drop (Text.blanks (b.length+1) b))).2) ((b.drop (Text.blanks (b.length+1) b)).drop (Text.tokenIn (b.drop (Text.blanks (b.length+1) b))).2)
    (by rw[List.length_drop,List.length_drop];omega) (by rw[List.length_drop,List.length_drop];omega)
   rw[e]
def toks(b:Bytes)(i:Nat):List Text.Lex:=Text.lexes ((b.drop i).length+2) i (b.drop i)
theorem wF(b:Bytes)(i:Nat)(hi:i<=b.length):toks b i=(bA b i).1::(match (bA b i).1.tok with
  |.end_=>[]
  |.broken=>[]
  |_=>toks b (bA b i).2):=by
 have h1:=Ji (b.drop i);rw[List.length_drop] at h1;have h2:=qK (b.drop (i+bl (b.drop i)));rw[List.length_drop] at h2;have ek:(b.drop i).drop (bl (b.drop i))=b.drop (i+bl (b.drop i)):=by rw[List.drop_drop]
 unfold toks;rw[Text.lexes.eq_def];dsimp only;show (⟨i+bl (b.drop i),(Text.tokenIn ((b.drop i).drop (bl (b.drop i)))).1⟩:Text.Lex)::_=_;rw[ek];have ed:((b.drop (i+bl (b.drop i))).drop (Text.tokenIn (b.drop (i+bl (b.drop i)))).2)=b.drop (bA b i).2:=by
  rw[List.drop_drop];rfl
 have el:(bA b i).1=⟨i+bl (b.drop i),(Text.tokenIn (b.drop (i+bl (b.drop i)))).1⟩:=rfl;rw[el];congr 1;show (match (Text.tokenIn ((b.drop i).drop (bl (b.drop i)))).1 with
   |.end_=>[]
   |.broken=>[]
   |_=>Text.lexes ((b.drop i).length+1) (i+bl (b.drop i)+(Text.tokenIn ((b.drop i).drop (bl (b.drop i)))).2) (((b.drop i).drop (bl (b.drop i))).drop (Text.tokenIn ((b.drop i).drop (bl (b.drop i)))).2))=_
 rw[ek,ed];have ef:∀j,j=i+bl (b.drop i)+(Text.tokenIn (b.drop (i+bl (b.drop i)))).2->Text.lexes ((b.drop i).length+1) j (b.drop (bA b i).2)=toks b (bA b i).2:=by
  intro j hj;unfold toks;rw[hj];exact uk _ _ _ _ (by
   show (b.drop (i+bl (b.drop i)+(Text.tokenIn (b.drop (i+bl (b.drop i)))).2)).length<_;rw[List.length_drop,List.length_drop];omega) o_
 rw[ef _ rfl];cases (Text.tokenIn (b.drop (i+bl (b.drop i)))).1 <;> rfl
theorem pk(b:Bytes){i:Nat}(hi:i<=b.length):i<=(bA b i).1.at_/\(bA b i).1.at_<=(bA b i).2/\(bA b i).2<=b.length:=by
 have h1:=Ji (b.drop i);rw[List.length_drop] at h1;have h2:=qK (b.drop (i+bl (b.drop i)));rw[List.length_drop] at h2;unfold bA;dsimp only;omega
section
variable{x:Text.Lex}{r:List Text.Lex}
theorem jO(h:x.tok≠.broken):Text.peek (x::r)=.ok (x,x::r):=by
 show (if x.tok=.broken then Text.halt 1 x.at_ else pure x:Text.P Text.Lex) (x::r)=_;rw[if_neg h];rfl
theorem Am(h:x.tok=.broken):Text.peek (x::r)=.error (1,x.at_):=by
 show (if x.tok=.broken then Text.halt 1 x.at_ else pure x:Text.P Text.Lex) (x::r)=_;rw[if_pos h];rfl
theorem bj{α β:Type}(m:Text.P α)(k:α->Text.P β)(l:List Text.Lex):(m>>=k) l=match m l with
  |.ok y=>k y.1 y.2
  |.error e=>.error e:=by
 show (Except.bind (m l) λy=>k y.1 y.2)=_;cases m l <;> rfl
theorem j6{k p:Nat}{l:List Text.Lex}:Text.need true k p l=.ok ((),l):=rfl
theorem js{k p:Nat}{l:List Text.Lex}:Text.need false k p l=.error (k,p):=rfl
theorem kz(w:String)(h:x.tok≠.broken):Text.word w (x::r)=if x.tok=.word (ascii w) then .ok (x.at_,r) else .error (2,x.at_):=by
 unfold Text.word;rw[bj,jO h];dsimp only;rw[bj]
 by_cases c:x.tok=.word (ascii w)
 ·rw[show (x.tok == Text.Tok.word (ascii w))=true from beq_iff_eq.mpr c,j6,if_pos c];rfl
 ·rw[show (x.tok == Text.Tok.word (ascii w))=false from beq_eq_false_iff_ne.mpr c,js,if_neg c]
theorem ul(m:UInt8)(h:x.tok≠.broken):Text.mark m (x::r)=if x.tok=.mark m then .ok (x.at_,r) else .error (2,x.at_):=by
 unfold Text.mark;rw[bj,jO h];dsimp only;rw[bj]
 by_cases c:x.tok=.mark m
 ·rw[show (x.tok == Text.Tok.mark m)=true from beq_iff_eq.mpr c,j6,if_pos c];rfl
 ·rw[show (x.tok == Text.Tok.mark m)=false from beq_eq_false_iff_ne.mpr c,js,if_neg c]
theorem Jj(h:x.tok≠.broken):Text.name (x::r)=match x.tok with
  |.name b=>.ok ((x.at_,b),r)
  |_=>.error (2,x.at_):=by
 unfold Text.name;rw[bj,jO h];dsimp only;cases x.tok <;> rfl
theorem um(m:UInt8)(h:x.tok≠.broken):Text.isMarkNext m (x::r)=.ok (x.tok == .mark m,x::r):=by
 unfold Text.isMarkNext;rw[bj,jO h];rfl
theorem Cr(w:String)(h:x.tok≠.broken):Text.isWordNext w (x::r)=.ok (x.tok == .word (ascii w),x::r):=by
 unfold Text.isWordNext;rw[bj,jO h];rfl
end
def tk(b:Bytes)(i:Nat):Text.Tok:=(bA b i).1.tok
def pl(b:Bytes)(i:Nat):Nat:=(bA b i).1.at_
def mP(b:Bytes)(i:Nat):Except Text.Fault Nat:=if tk b (bA b i).2=.broken then .error (1,pl b (bA b i).2) else .ok (bA b i).2
structure rQ(b:Bytes)(i:Nat):Prop where
 le:i<=b.length
 on:tk b i≠.broken
theorem nF{b:Bytes}{i j:Nat}(h:rQ b i)(e:mP b i=.ok j):rQ b j/\j=(bA b i).2:=by
 unfold mP at e;split at e
 ·cases e
 ·cases e;exact⟨⟨(pk b h.le).2.2,by assumption⟩,rfl⟩
def eg{α:Type}(y:Except Text.Fault (α×List Text.Lex)):Except Text.Fault (α×List Text.Lex):=match y with
 |.error e=>.error e
 |.ok (a,l)=>match l with
  |[]=>.ok (a,[])
  |x::r=>if x.tok=.broken then .error (1,x.at_) else .ok (a,x::r)
theorem cS{b:Bytes}{i:Nat}(h:i<=b.length):∃r,toks b i=(bA b i).1::r:=⟨_,wF b i h⟩
theorem dZ{b:Bytes}{i:Nat}(h:rQ b i)(he:tk b i≠.end_):toks b i=(bA b i).1::toks b (bA b i).2:=by
 rw[wF b i h.le];have h1:=h.on;unfold tk at h1 he;cases e:(bA b i).1.tok with
 |end_=>exact absurd e he
 |broken=>exact absurd e h1
 |_=>rfl
theorem yj{α:Type}{b:Bytes}{i:Nat}(h:rQ b i)(a:α):eg (.ok (a,toks b (bA b i).2))=match mP b i with
  |.error e=>.error e
  |.ok j=>.ok (a,toks b j):=by
 obtain⟨r,e⟩:=cS (pk b h.le).2.2;unfold mP eg;rw[e];dsimp only
 by_cases c:tk b (bA b i).2=.broken
 ·rw[if_pos c,if_pos (show (bA b (bA b i).2).1.tok=.broken from c)];rfl
 ·rw[if_neg c,if_neg (show ¬(bA b (bA b i).2).1.tok=.broken from c)];dsimp only;rw[e]
theorem Ew{α:Type}{b:Bytes}{i:Nat}(h:rQ b i)(a:α):eg (.ok (a,toks b i))=.ok (a,toks b i):=by
 obtain⟨r,e⟩:=cS h.le;rw[e];show (if (bA b i).1.tok=.broken then _ else _)=_;rw[if_neg (show ¬(bA b i).1.tok=.broken from h.on)]
abbrev Rl{α β:Type}(b:Bytes)(R:α->β->Prop)(m:Except Text.Fault (α×Nat))(y:Except Text.Fault (β×List Text.Lex)):Prop:=match m with
 |.error e=>eg y=.error e
 |.ok (a,j)=>rQ b j/\∃c,R a c/\eg y=.ok (c,toks b j)
def dW{α β:Type}(b:Bytes)(R:α->β->Prop)(m:Nat->Except Text.Fault (α×Nat))(g:Text.P β):Prop :=
 ∀i,rQ b i->Rl b R (m i) (g (toks b i))
def Looks{β:Type}(g:Text.P β):Prop:=∀(x:Text.Lex) (r:List Text.Lex),x.tok=.broken->g (x::r)=.error (1,x.at_)
theorem Looks.bind{α β:Type}{g:Text.P α}{k:α->Text.P β}(h:Looks g):Looks (g>>=k):=λx r e=>by
 rw[bj,h x r e]
theorem eX:Looks Text.peek:=λ_ _ e=>Am e
theorem k8(w:String):Looks (Text.word w):=eX.bind
theorem k9(c:UInt8):Looks (Text.mark c):=eX.bind
theorem nG:Looks Text.name:=eX.bind
theorem pq(c:UInt8):Looks (Text.isMarkNext c):=eX.bind
theorem iV(w:String):Looks (Text.isWordNext w):=eX.bind
theorem iW:Looks Text.number:=eX.bind
theorem lZ:Looks Text.value:=(pq 45).bind
theorem Ga{α β γ δ:Type}{b:Bytes}{R:α->β->Prop}{S:γ->δ->Prop}{m:Nat->Except Text.Fault (α×Nat)}{g:Text.P β}{n:α->Nat->Except Text.Fault (γ×Nat)}{k:β->Text.P δ}
  (h:dW b R m g)(hk:∀a c,R a c->dW b S (n a) (k c))(hl:∀c,Looks (k c)):dW b S (λi=>match m i with |.error e=>.error e |.ok (a,j)=>n a j) (g>>=k):=by
 intro i hi;have h1:=h i hi;rw[bj];dsimp only;cases e:m i with
 |error f =>
  rw[e] at h1;dsimp only at h1 ⊢;cases q:g (toks b i) with
  |error f' =>
   rw[q] at h1;exact congrArg Except.error (Except.error.inj (show (Except.error f':Except Text.Fault (β×List Text.Lex))=.error f from h1))
  |ok y =>
   obtain⟨c,l⟩:=y;rw[q] at h1;dsimp only;cases l with
   |nil=>cases h1
   |cons x r =>
    have h2:(if x.tok=.broken then (.error (1,x.at_):Except Text.Fault (β×List Text.Lex)) else .ok (c,x::r))=.error f:=h1
    by_cases z:x.tok=.broken
    ·rw[if_pos z] at h2;rw[hl c x r z];exact congrArg Except.error (Except.error.inj h2)
    ·rw[if_neg z] at h2;cases h2
 |ok y =>
  obtain⟨a,j⟩:=y;rw[e] at h1;obtain⟨hj,c,rc,h2⟩:=h1;cases q:g (toks b i) with
  |error f =>
   rw[q] at h2;cases h2
  |ok y =>
   obtain⟨c',l⟩:=y;rw[q] at h2;have h3:c'=c/\l=toks b j:=by
    cases l with
    |nil =>
     have:=Except.ok.inj h2;exact⟨(Prod.mk.inj this).1,(Prod.mk.inj this).2⟩
    |cons x r =>
     have h2:(if x.tok=.broken then (.error (1,x.at_):Except Text.Fault (β×List Text.Lex)) else .ok (c',x::r))=.ok (c,toks b j):=h2
     by_cases z:x.tok=.broken
     ·rw[if_pos z] at h2;cases h2
     ·rw[if_neg z] at h2;have:=Except.ok.inj h2;exact⟨(Prod.mk.inj this).1,(Prod.mk.inj this).2⟩
   obtain⟨rfl,rfl⟩:=h3;exact hk a c' rc j hj
theorem An{α β γ δ:Type}{b:Bytes}{R:α->β->Prop}{S:γ->δ->Prop}{m:Nat->Except Text.Fault (α×Nat)}{g:Text.P β}(f:α->γ)(f':β->δ)(h:dW b R m g)(hs:∀a c,R a c->S (f a) (f' c)) :
  dW b S (λi=>match m i with |.error e=>.error e |.ok (a,j)=>.ok (f a,j)) (g>>=λc=>pure (f' c)):=by
 intro i hi;have h1:=h i hi;rw[bj];have PR:∀y:Except Text.Fault (β×List Text.Lex),eg (match y with |.ok z=>(pure (f' z.1):Text.P δ) z.2 |.error e=>.error e)=match eg y with
   |.error e=>.error e
   |.ok z=>.ok (f' z.1,z.2):=by
  intro y;cases y with
  |error e=>rfl
  |ok z =>
   obtain⟨c,l⟩:=z;cases l with
   |nil=>rfl
   |cons x r =>
    show (if x.tok=.broken then _ else _)=(match (if x.tok=.broken then _ else _:Except Text.Fault (β×List Text.Lex)) with
     |.error e=>.error e
     |.ok z=>.ok (f' z.1,z.2):Except Text.Fault (δ×List Text.Lex))
    by_cases z:x.tok=.broken
    ·rw[if_pos z,if_pos z]
    ·rw[if_neg z,if_neg z]
 unfold Rl;rw[PR];dsimp only;cases e:m i with
 |error f0 =>
  rw[e] at h1;dsimp only at h1 ⊢;rw[h1]
 |ok y =>
  obtain⟨a,j⟩:=y;rw[e] at h1;obtain⟨hj,c,rc,h2⟩:=h1;exact⟨hj,f' c,hs a c rc,by rw[h2]⟩
def dA(b:Bytes)(t:Text.Tok)(i:Nat):Except Text.Fault (Unit×Nat):=if tk b i=t then (match mP b i with |.error e=>.error e |.ok j=>.ok ((),j)) else .error (2,pl b i)
theorem wG{b:Bytes}{t:Text.Tok}(ht:t≠.end_){g:Text.P Nat}(hg:∀(x:Text.Lex) (r:List Text.Lex),x.tok≠.broken->g (x::r)=if x.tok=t then .ok (x.at_,r) else .error (2,x.at_)) :
  dW b (λ_ _=>True) (dA b t) g:=by
 intro i hi;unfold Rl dA
 by_cases c:tk b i=t
 ·rw[if_pos c];have e:=dZ hi (by rw[c];exact ht);have e2:g (toks b i)=.ok (pl b i,toks b (bA b i).2):=by
   rw[e,hg _ _ hi.on,if_pos (show (bA b i).1.tok=t from c)];rfl
  rw[e2,yj hi];cases q:mP b i with
  |error f=>rfl
  |ok j=>exact⟨(nF hi q).1,_,trivial,rfl⟩
 ·rw[if_neg c];obtain⟨r,e⟩:=cS hi.le;dsimp only;rw[e,hg _ _ hi.on,if_neg (show ¬(bA b i).1.tok=t from c)];rfl
theorem mz(b:Bytes)(w:String):dW b (λ_ _=>True) (dA b (.word (ascii w))) (Text.word w):=wG (by intro z;cases z) λ_ _ h=>kz w h
theorem qL(b:Bytes)(c:UInt8):dW b (λ_ _=>True) (dA b (.mark c)) (Text.mark c):=wG (by intro z;cases z) λ_ _ h=>ul c h
theorem sJ{α β γ:Type}(m:Text.P α)(k:α->Text.P β)(h:β->Text.P γ):(m>>=k>>=h)=m>>=λa=>k a>>=h:=by
 funext l;rw[bj,bj,bj];cases m l with
 |error e=>rfl
 |ok y =>
  dsimp only;rw[bj]
theorem wH{α β:Type}(m:Text.P α)(p:α->Bool)(c:Nat)(q:α->Nat)(K:α->Text.P β) :
  (m>>=λn=>Text.need (p n) c (q n)>>=λ_=>K n)=((m>>=λn=>Text.need (p n) c (q n)>>=λ_=>pure n)>>=K):=by
 funext l;rw[bj,bj,bj];cases m l with
 |error e=>rfl
 |ok y =>
  dsimp only;rw[bj,bj];cases p y.1 <;> rfl
def nH{α:Type}(b:Bytes)(f:Text.Tok->Option α)(ok:α->Bool)(c:Nat)(i:Nat):Except Text.Fault (α×Nat):=match f (tk b i) with
 |none=>.error (2,pl b i)
 |some a=>if ok a=true then (match mP b i with |.error e=>.error e |.ok j=>.ok (a,j)) else .error (c,pl b i)
theorem Jk{α:Type}{b:Bytes}{f:Text.Tok->Option α}{ok:α->Bool}{c:Nat}{g:Text.P (Nat×α)}(hf:f .end_=none)
  (hg:∀(x:Text.Lex) (r:List Text.Lex),x.tok≠.broken->g (x::r)=match f x.tok with |none=>.error (2,x.at_) |some a=>.ok ((x.at_,a),r)) :
  dW b (λa y=>y.2=a) (nH b f ok c) (g>>=λy=>Text.need (ok y.2) c y.1>>=λ_=>pure y):=by
 intro i hi;unfold Rl nH;rw[bj];obtain⟨r,e⟩:=cS hi.le;cases q:f (tk b i) with
 |none =>
  dsimp only;rw[e,hg _ _ hi.on,show f (bA b i).1.tok=none from q];rfl
 |some a =>
  have he:tk b i≠.end_:=λz=>by rw[z,hf] at q;cases q
  have e2:=dZ hi he;dsimp only;rw[e2,hg _ _ hi.on,show f (bA b i).1.tok=some a from q];dsimp only;rw[bj]
  by_cases z:ok a=true
  ·rw[if_pos z,z,j6];dsimp only;show match (match mP b i with |.error e=>.error e |.ok j=>.ok (a,j):Except Text.Fault (α×Nat)) with
    |.error e=>eg (.ok (((bA b i).1.at_,a),toks b (bA b i).2))=.error e
    |.ok (a',j)=>rQ b j/\∃c,c.2=a'/\eg (.ok (((bA b i).1.at_,a),toks b (bA b i).2))=.ok (c,toks b j)
   rw[yj hi];cases q2:mP b i with
   |error f'=>rfl
   |ok j=>exact⟨(nF hi q2).1,_,rfl,rfl⟩
  ·have z':ok a=false:=by simpa using z
   rw[if_neg z,z',js];rfl
def gv:Text.Tok->Option Bytes
 |.name b=>some b
 |_=>none
theorem qM(x:Text.Lex)(r:List Text.Lex)(h:x.tok≠.broken):Text.name (x::r)=match gv x.tok with |none=>.error (2,x.at_) |some a=>.ok ((x.at_,a),r):=by
 rw[Jj h];cases x.tok <;> rfl
theorem wI{b:Bytes}(ok:Bytes->Bool)(c:Nat):dW b (λa y=>y.2=a) (nH b gv ok c) (Text.name>>=λy=>Text.need (ok y.2) c y.1>>=λ_=>pure y):=Jk rfl λx r h=>by
 rw[qM x r h];cases gv x.tok <;> rfl
def ic(n k:Nat):be:=number (n:Int) ((10^k:Nat):Int)
def g8(b:Bytes)(i:Nat):Except Text.Fault (be×Nat):=match tk b i with
 |.num n k true=>(match mP b i with |.error e=>.error e |.ok j=>.ok (ic n k,j))
 |.num n _ false=>(match mP b i with
  |.error e=>.error e
  |.ok j=>if tk b j=.mark 47 then (match mP b j with
    |.error e=>.error e
    |.ok j2=>match tk b j2 with
     |.num q _ false=>if q=0 then .error (6,pl b j2) else (match mP b j2 with |.error e=>.error e |.ok j3=>.ok (c9 (ap n) (ap q),j3))
     |_=>.error (2,pl b j2))
   else .ok (ap n,j))
 |_=>.error (2,pl b i)
theorem Ao(n k:Nat):bK (ic n k) ((n:Rat) / ((10^k:Nat):Rat)):=⟨qD (by exact_mod_cast Nat.pow_pos d_),rfl⟩
theorem kC(n:Nat):bK (ap n) (n:Rat):=bK.ap n
theorem qN{α β:Type}{b:Bytes}{R:α->β->Prop}{i:Nat}{a:α}{c:β}{g:Except Text.Fault (β×List Text.Lex)}(h:rQ b i)(hg:g=.ok (c,toks b (bA b i).2))(hr:R a c) :
  Rl b R (match mP b i with |.error e=>.error e |.ok j=>.ok (a,j):Except Text.Fault (α×Nat)) g:=by
 unfold Rl;rw[hg,yj h];cases q:mP b i with
 |error f=>rfl
 |ok j=>exact⟨(nF h q).1,c,hr,rfl⟩
theorem pr{β:Type}{b:Bytes}{i:Nat}{g:Text.P β}{e:Text.Fault}(h:rQ b i)(hl:Looks g)(q:mP b i=.error e):g (toks b (bA b i).2)=.error e:=by
 obtain⟨r,e2⟩:=cS (pk b h.le).2.2;unfold mP at q;split at q
 ·cases q;rw[e2,hl _ _ (by assumption)];rfl
 ·cases q
theorem jP(b:Bytes):dW b bK (g8 b) Text.number:=by
 intro i hi;obtain⟨r,e⟩:=cS hi.le;have e0:Text.number (toks b i)=(match tk b i with
   |.num n k true=>(do Text.pass;pure ((n:Rat) / (10^k:Nat)):Text.P Rat)
   |.num n _ false=>(do
    Text.pass
    if (<-Text.isMarkNext 47)=true then do
     Text.pass
     let y<-Text.peek
     match y.tok with
     |.num q _ false=>do
      Text.pass
      Text.need (q != 0) 6 y.at_
      pure ((n:Rat) / (q:Rat))
     |_=>Text.halt 2 y.at_
    else pure (n:Rat):Text.P Rat)
   |_=>Text.halt 2 (pl b i)) (toks b i):=by
  unfold Text.number;rw[bj,e,jO hi.on];rfl
 unfold Rl g8;have Ta:∀t:Text.Tok,(∀n k p,t≠.num n k p)->tk b i=t->Text.number (toks b i)=.error (2,pl b i):=λt ht q=>by
  rw[e0,q];cases t with
  |num n k p=>exact absurd rfl (ht n k p)
  |_=>rfl
 cases q:tk b i with
 |num n k p =>
  have e2:=dZ hi (by rw[q];intro z;cases z);cases p with
  |true =>
   dsimp only;refine qN hi ?_ (Ao n k);rw[e0,q,e2];rfl
  |false =>
   dsimp only;have e3:Text.number (toks b i)=(do
     if (<-Text.isMarkNext 47)=true then do
      Text.pass
      let y<-Text.peek
      match y.tok with
      |.num q _ false=>do
       Text.pass
       Text.need (q != 0) 6 y.at_
       pure ((n:Rat) / (q:Rat))
      |_=>Text.halt 2 y.at_
     else pure (n:Rat):Text.P Rat) (toks b (bA b i).2):=by
    rw[e0,q,e2];rfl
   cases qa:mP b i with
   |error f =>
    dsimp only;rw[e3,pr hi (Looks.bind (pq 47)) qa];rfl
   |ok j =>
    obtain⟨hj,ej⟩:=nF hi qa;rw[<-ej,bj] at e3;obtain⟨rj,ejc⟩:=cS hj.le;have e4:Text.isMarkNext 47 (toks b j)=.ok (tk b j == .mark 47,toks b j):=by rw[ejc];exact um 47 hj.on
    rw[e4] at e3;dsimp only at e3 ⊢
    by_cases c:tk b j=.mark 47
    ·rw[if_pos c];rw[show (tk b j == Text.Tok.mark 47)=true from beq_iff_eq.mpr c,if_pos rfl] at e3;have e5:=dZ hj (by rw[c];intro z;cases z);have e6:Text.number (toks b i)=(do
       let y<-Text.peek
       match y.tok with
       |.num q _ false=>do
        Text.pass
        Text.need (q != 0) 6 y.at_
        pure ((n:Rat) / (q:Rat))
       |_=>Text.halt 2 y.at_:Text.P Rat) (toks b (bA b j).2):=by
      rw[e3,e5];rfl
     cases qb:mP b j with
     |error f =>
      dsimp only;rw[e6,pr hj (Looks.bind eX) qb];rfl
     |ok j2 =>
      obtain⟨zg,ej2⟩:=nF hj qb;rw[<-ej2,bj] at e6;obtain⟨r2,e2c⟩:=cS zg.le;have e7:Text.peek (toks b j2)=.ok ((bA b j2).1,toks b j2):=by rw[e2c];exact jO zg.on
      rw[e7] at e6;dsimp only at e6 ⊢;have e8:Text.number (toks b i)=(match tk b j2 with
        |.num q _ false=>(do
         Text.pass
         Text.need (q != 0) 6 (pl b j2)
         pure ((n:Rat) / (q:Rat)):Text.P Rat)
        |_=>Text.halt 2 (pl b j2)) (toks b j2):=e6
      cases qt:tk b j2 with
      |num d k2 p2 =>
       cases p2 with
       |true =>
        dsimp only;rw[e8,qt];rfl
       |false =>
        have e9:=dZ zg (by rw[qt];intro z;cases z);dsimp only;have Yq:Text.number (toks b i)=(do
          Text.need (d != 0) 6 (pl b j2)
          pure ((n:Rat) / (d:Rat)):Text.P Rat) (toks b (bA b j2).2):=by
         rw[e8,qt,e9];rfl
        by_cases z:d=0
        ·rw[if_pos z];dsimp only;rw[Yq,z];rfl
        ·rw[if_neg z];refine qN zg ?_ ((kC n).div (kC d) (by exact_mod_cast z));rw[Yq,show (d != 0)=true by simp [z]];rfl
      |_ =>
       dsimp only;rw[e8,qt];rfl
    ·rw[if_neg c];rw[show (tk b j == Text.Tok.mark 47)=false from beq_eq_false_iff_ne.mpr c,if_neg d_] at e3;refine⟨hj,_,kC n,?_⟩;rw[e3];exact Ew hj _
 |_ =>
  dsimp only;rw[Ta _ (by intro n k p z;cases z) q];rfl
def gw(b:Bytes)(i:Nat):Except Text.Fault (be×Nat):=if tk b i=.mark 45 then (match mP b i with
  |.error e=>.error e
  |.ok j=>match g8 b j with |.error e=>.error e |.ok (v,j2)=>.ok (br v,j2))
 else g8 b i
theorem Cs(b:Bytes):dW b bK (gw b) Text.value:=by
 intro i hi;obtain⟨r,e⟩:=cS hi.le;have e4:Text.isMarkNext 45 (toks b i)=.ok (tk b i == .mark 45,toks b i):=by rw[e];exact um 45 hi.on
 have e3:Text.value (toks b i)=(if (tk b i == .mark 45)=true then do
   Text.pass
   let q<-Text.number
   pure (-q)
  else Text.number:Text.P Rat) (toks b i):=by
  unfold Text.value;rw[bj,e4]
 unfold Rl gw
 by_cases c:tk b i=.mark 45
 ·rw[if_pos c];rw[show (tk b i == Text.Tok.mark 45)=true from beq_iff_eq.mpr c,if_pos rfl] at e3;have e2:=dZ hi (by rw[c];intro z;cases z);have e5:Text.value (toks b i)=(Text.number>>=λq=>pure (-q)) (toks b (bA b i).2):=by
   rw[e3,e2];rfl
  cases qa:mP b i with
  |error f =>
   dsimp only;rw[e5,pr hi (Looks.bind iW) qa];rfl
  |ok j =>
   obtain⟨hj,ej⟩:=nF hi qa;rw[<-ej] at e5;dsimp only;rw[e5];have h:=An br (λq=>-q) (jP b) (λ_ _ h=>h.neg) j hj;dsimp only at h;cases qn:g8 b j with
   |error f =>
    rw[qn] at h;exact h
   |ok y =>
    rw[qn] at h;exact h
 ·rw[if_neg c];rw[show (tk b i == Text.Tok.mark 45)=false from beq_eq_false_iff_ne.mpr c,if_neg d_] at e3;have:=jP b i hi;rw[e3];exact this
def bd{α γ:Type}(m:Except Text.Fault (α×Nat))(k:α->Nat->Except Text.Fault (γ×Nat)):Except Text.Fault (γ×Nat):=match m with
 |.error e=>.error e
 |.ok y=>k y.1 y.2
def l4{α:Type}(b:Bytes)(i:Nat)(a:α):Except Text.Fault (α×Nat):=match mP b i with
 |.error e=>.error e
 |.ok j=>.ok (a,j)
theorem fe{α β γ δ:Type}{b:Bytes}{R:α->β->Prop}{S:γ->δ->Prop}{m:Nat->Except Text.Fault (α×Nat)}{g:Text.P β}{n:α->Nat->Except Text.Fault (γ×Nat)}{k:β->Text.P δ}
  (h:dW b R m g)(hk:∀a c,R a c->dW b S (n a) (k c))(hl:∀c,Looks (k c)):dW b S (λi=>bd (m i) n) (g>>=k):=by
 intro i hi;have q:=Ga h hk hl i hi;dsimp only at q ⊢;unfold bd;cases e:m i with
 |error f =>
  rw[e] at q;exact q
 |ok y =>
  rw[e] at q;exact q
theorem jQ{α β γ δ:Type}{b:Bytes}{R:α->β->Prop}{S:γ->δ->Prop}{m:Nat->Except Text.Fault (α×Nat)}{g:Text.P β}(f:α->γ)(f':β->δ)(h:dW b R m g)(hs:∀a c,R a c->S (f a) (f' c)) :
  dW b S (λi=>bd (m i) λa j=>.ok (f a,j)) (g>>=λc=>pure (f' c)):=by
 intro i hi;have q:=An f f' h hs i hi;dsimp only at q ⊢;unfold bd;cases e:m i with
 |error f =>
  rw[e] at q;exact q
 |ok y =>
  rw[e] at q;exact q
theorem uo{α β:Type}{b:Bytes}{R:α->β->Prop}{i:Nat}{a:α}{c:β}{g:Except Text.Fault (β×List Text.Lex)}(h:rQ b i)(hg:g=.ok (c,toks b (bA b i).2))(hr:R a c) :
  Rl b R (l4 b i a) g:=by
 have q:=qN (R:=R) h hg hr;unfold l4;exact q
theorem dW.imp{α β:Type}{b:Bytes}{R S:α->β->Prop}{m:Nat->Except Text.Fault (α×Nat)}{g:Text.P β}(h:dW b R m g)(k:∀a c,R a c->S a c):dW b S m g:=by
 intro i hi;have q:=h i hi;cases e:m i with
 |error f =>
  rw[e] at q;exact q
 |ok y =>
  rw[e] at q;obtain⟨h1,c,h2,h3⟩:=q;exact⟨h1,c,k _ _ h2,h3⟩
theorem dW.eq{α β:Type}{b:Bytes}{R:α->β->Prop}{m m':Nat->Except Text.Fault (α×Nat)}{g g':Text.P β}(h:dW b R m g)(e1:m'=m)(e2:g'=g):dW b R m' g':=by
 rw[e1,e2];exact h
def uq(b:Bytes)(c:UInt8)(ok:Bool)(k:Nat)(i:Nat):Except Text.Fault (Unit×Nat) :=
 if tk b i=.mark c then (if ok=true then l4 b i () else .error (k,pl b i)) else .error (2,pl b i)
theorem wJ{b:Bytes}(c:UInt8)(ok:Bool)(k:Nat):dW b (λ_ _=>ok=true) (uq b c ok k) (Text.mark c>>=λe=>Text.need ok k e>>=λ_=>pure ()):=by
 intro i hi;unfold uq;rw[bj];obtain⟨r,e⟩:=cS hi.le
 by_cases q:tk b i=.mark c
 ·have e2:=dZ hi (by rw[q];intro z;cases z);have e3:Text.mark c (toks b i)=.ok (pl b i,toks b (bA b i).2):=by
   rw[e2,ul c hi.on,if_pos (show (bA b i).1.tok=.mark c from q)];rfl
  rw[if_pos q,e3];dsimp only;rw[bj];cases ok with
  |true =>
   rw[if_pos rfl,j6];exact uo hi rfl rfl
  |false =>
   rw[if_neg d_,js];rfl
 ·have e3:Text.mark c (toks b i)=.error (2,pl b i):=by
   rw[e,ul c hi.on,if_neg (show ¬(bA b i).1.tok=.mark c from q)];rfl
  rw[if_neg q,e3];rfl
structure NZ(v:be)(q:Rat):Prop where
 n:bK v q
 one:1<=q
theorem yk{v:be}{q:Rat}(h:bK v q):1<=q↔¬v.aW<v.size:=by
 rw[<-h.lo];have hp:=h.ok.pos;have e1:(1:Rat)=(v.size:Rat) / v.size:=by
  have:=du (a:=v.size) o_
  grind
 rw[e1,f7 hp];omega
theorem Md{v:be}{q:Rat}(h:bK v q):0<q↔0<v.aW:=by
 rw[<-h.lo];exact oY h.ok.pos
def gh(b:Bytes)(c:UInt8)(i:Nat):Except Text.Fault (be×Nat):=bd (g8 b i) λv j=>bd (uq b c (decide (¬v.aW<v.size)) 6 j) λ_ j2=>.ok (v,j2)
theorem nJ(b:Bytes)(c:UInt8):dW b NZ (gh b c) (Text.index c):=by
 have e0:Text.index c=Text.number>>=λq=>(Text.mark c>>=λe=>Text.need (decide (1<=q)) 6 e>>=λ_=>pure ())>>=λ_=>pure q:=by
  unfold Text.index;congr 1;funext q;rw[sJ];congr 1;funext e;rw[sJ];rfl
 rw[e0];refine fe (jP b) (λv q hv=>?_) λq=>(Looks.bind (k9 c)).bind;have e1:decide (1<=q)=decide (¬v.aW<v.size):=decide_eq_decide.mpr (yk hv);rw[e1];exact jQ (λ_=>v) (λ_=>q) (wJ c _ 6) λ_ _ h=>⟨hv,(yk hv).mpr (of_decide_eq_true h)⟩
abbrev bG:=Bytes×List be
structure mB(g:bG)(s:Glass):Prop where
 name:g.1=s.name
 idx:∃a b c qa qb qc,g.2=[a,b,c]/\s.index=[qa,qb,qc]/\NZ a qa/\NZ b qb/\NZ c qc
inductive dF{α β:Type}(R:α->β->Prop):List α->List β->Prop
 |nil:dF R [] []
 |cons {a:α} {c:β} {l:List α} {m:List β}:R a c->dF R l m->dF R (a::l) (c::m)
theorem dF.len{α β:Type}{R:α->β->Prop}{l:List α}{m:List β}(h:dF R l m):l.length=m.length:=by
 induction h with
 |nil=>rfl
 |cons _ _ ih=>rw[List.length_cons,List.length_cons,ih]
theorem dF.snoc{α β:Type}{R:α->β->Prop}{l:List α}{m:List β}{a:α}{c:β}(h:dF R l m)(hr:R a c):dF R (l++[a]) (m++[c]):=by
 induction h with
 |nil=>exact .cons hr .nil
 |cons q _ ih=>exact .cons q ih
theorem dF.get{α β:Type}{R:α->β->Prop}{l:List α}{m:List β}(h:dF R l m):∀(i:Nat) (a:α),l[i]?=some a->∃c,m[i]?=some c/\R a c:=by
 induction h with
 |nil=>intro i a e;simp at e
 |cons q _ ih =>
  intro i a e;cases i with
  |zero =>
   have:_=a:=Option.some.inj e;subst this;exact⟨_,rfl,q⟩
  |succ i=>exact ih i a e
theorem Jl{l:List bG}{m:List Glass}(h:dF mB l m):l.map (·.1)=m.map λ(x:Glass)=>x.name:=by
 induction h with
 |nil=>rfl
 |cons q _ ih=>rw[List.map_cons,List.map_cons,ih,q.name]
def ie(b:Bytes)(l:List bG)(i:Nat):Except Text.Fault (bG×Nat) :=
 if l.length<64 then
  bd (dA b (.word (ascii "glass")) i) λ_ i1=>bd (nH b gv (λn=>decide (n∉l.map (·.1))) 3 i1) λn i2=>bd (dA b (.mark 58) i2) λ_ i3 =>
   bd (gh b 44 i3) λx i4=>bd (gh b 44 i4) λy i5=>bd (gh b 59 i5) λz i6=>.ok ((n,[x,y,z]),i6)
 else .error (5,pl b i)
theorem l5(c:UInt8):Looks (Text.index c):=iW.bind
theorem PU{m:List Glass}{n:Bytes}:(m.all λ(g:Glass)=>g.name != n)=decide (n∉m.map λ(x:Glass)=>x.name):=by
 rw[Bool.eq_iff_iff,List.all_eq_true,decide_eq_true_iff,List.mem_map]
 constructor
 ·rintro h ⟨g,hg,e⟩;have:=h g hg;rw[e] at this;simp at this
 ·intro h g hg;simp only[bne_iff_ne,ne_eq];intro e;exact h ⟨g,hg,e⟩
theorem la(m:List Glass):Text.glass m=Text.word "glass">>=λw=>Text.need (decide (m.length<64)) 5 w>>=λ_ =>
  (Text.name>>=λy=>Text.need (decide (y.2∉m.map λ(x:Glass)=>x.name)) 3 y.1>>=λ_=>pure y)>>=λn=>Text.mark 58>>=λ_ =>
   Text.index 44>>=λa=>Text.index 44>>=λb=>Text.index 59>>=λc=>pure ⟨n.2,[a,b,c]⟩:=by
 unfold Text.glass;congr 1;funext w;show (Text.need (decide (m.length<64)) 5 w>>=_)=_;congr 1;funext _;rw[<-wH];congr 1;funext y;rw[PU]
theorem Ct{b:Bytes}{l:List bG}{m:List Glass}(h:dF mB l m)(i:Nat)(hi:rQ b i)(hw:tk b i=.word (ascii "glass")) :
  Rl b mB (ie b l i) (Text.glass m (toks b i)):=by
 have e2:=dZ hi (by rw[hw];intro z;cases z);have ew:Text.word "glass" (toks b i)=.ok (pl b i,toks b (bA b i).2):=by
  rw[e2,kz "glass" hi.on,if_pos (show (bA b i).1.tok=_ from hw)];rfl
 unfold ie
 by_cases hl:l.length<64
 ·rw[if_pos hl];have hm:m.length<64:=by rw[<-h.len];exact hl
  have eg1:Text.glass m (toks b i)=(Text.word "glass">>=λ_=>(Text.name>>=λy=>Text.need (decide (y.2∉m.map λ(x:Glass)=>x.name)) 3 y.1>>=λ_=>pure y)>>=λn=>Text.mark 58>>=λ_ =>
    Text.index 44>>=λa=>Text.index 44>>=λb=>Text.index 59>>=λc=>pure ⟨n.2,[a,b,c]⟩) (toks b i):=by
   rw[la,bj,bj,ew];dsimp only;rw[bj,decide_eq_true hm,j6]
  rw[eg1];have D:dW b mB (λi=>bd (dA b (.word (ascii "glass")) i) λ_ i1=>bd (nH b gv (λn=>decide (n∉l.map (·.1))) 3 i1) λn i2=>bd (dA b (.mark 58) i2) λ_ i3 =>
    bd (gh b 44 i3) λx i4=>bd (gh b 44 i4) λy i5=>bd (gh b 59 i5) λz i6=>.ok ((n,[x,y,z]),i6))
   (Text.word "glass">>=λ_=>(Text.name>>=λy=>Text.need (decide (y.2∉m.map λ(x:Glass)=>x.name)) 3 y.1>>=λ_=>pure y)>>=λn=>Text.mark 58>>=λ_ =>
    Text.index 44>>=λa=>Text.index 44>>=λb=>Text.index 59>>=λc=>pure ⟨n.2,[a,b,c]⟩):=by
   rw[Jl h];refine fe (mz b "glass") (λ_ _ _=>?_) (λ_=>(Looks.bind (Looks.bind nG)));refine fe (wI (λn=>decide (n∉m.map λ(x:Glass)=>x.name)) 3) (λn y hy=>?_) λ_=>(k9 58).bind;refine fe (qL b 58) (λ_ _ _=>?_) λ_=>(l5 44).bind;refine fe (nJ b 44) (λx qx hx=>?_) λ_=>(l5 44).bind;refine fe (nJ b 44) (λy' qy hy'=>?_) λ_=>(l5 59).bind;exact jQ (λz=>((n,[x,y',z]):bG)) (λc=>(⟨y.2,[qx,qy,c]⟩:Glass)) (nJ b 59) λz qz hz=>⟨hy.symm,x,y',z,qx,qy,qz,rfl,rfl,hx,hy',hz⟩
  exact D i hi
 ·rw[if_neg hl];have hm:¬m.length<64:=by rw[<-h.len];exact hl
  show eg _=_;rw[la,bj,ew];dsimp only;rw[bj,decide_eq_false hm,js];rfl
def Me(c:be)(sign:Int)(p:Nat)(off ca spread cg:be):Except Int be :=
 match k6 cg 1 with
 |.error k=>.error k
 |.ok _ =>
  match (if c.aW=0 then k6 (bZ ca sign) 1 else .ok ()) with
  |.error k=>.error k
  |.ok _ =>
   if aV (outward (cy ca (bZ (gJ cg p) sign)) p)=false then .ok (outward (c9 (br off) (outward (cy ca (bZ (gJ cg p) sign)) p)) p)
   else if c.aW=0\/aV spread=true then .error 4
   else .ok (outward (c9 (dM ca (bZ (gJ cg p) sign)) (aO c spread)) p)
def wK(pt:bC)(sh:mr)(p:Nat):be:=outward (dM (aO (ap 2) pt.z) (aO sh.curve (cw pt sh))) p
def mC(pt way:bC)(sh:mr)(p:Nat):be:=bY (cD sh pt p) way p
def kD(way:bC)(sh:mr)(p:Nat):be:=outward (cw way sh) p
def pw(c off ca spread:be)(p:Nat):be:=outward (cy (ao ca) (aO (aO c off) spread)) p
theorem wL(pt way:bC)(sh:mr)(sign:Int)(p:Nat):jq pt way sh sign p =
  Me sh.curve sign p (wK pt sh p) (mC pt way sh p) (kD way sh p) (pw sh.curve (wK pt sh p) (mC pt way sh p) (kD way sh p) p):=rfl
theorem yl:Bd 2 (ap 2):=gN d_ d_
section
variable{pt way:bC}{sh:mr}{cc qq:Rat}{p:Nat}
theorem Ap(op:pt.Ok)(hs:gP sh cc qq)(bp:h9 7500 pt)(bs:IZ 2000 2000 sh)(hp:p<=256):(wK pt sh p).Ok/\Bd 57000 (wK pt sh p):=by
 have o1:=gM (ay (cZ 2).pos op.z.pos) (ay hs.c.ok.pos (gS op hs).pos);have b1:=iy (aU yl bp.z) (aU bs.c (ky bp bs));exact⟨aQ o1 p,(bQ o1.pos b1 p).aw o_⟩
theorem ur(op:pt.Ok)(ow:way.Ok)(hs:gP sh cc qq)(bp:h9 7500 pt)(bw:h9 5000 way)(bs:IZ 2000 2000 sh)(hp:p<=256):(mC pt way sh p).Ok/\Bd 51000 (mC pt way sh p) :=
 ⟨lW (ja op hs p) ow p,(Ae (ja op hs p) ow (qI op hs bp bs p) bw p).aw o_⟩
theorem rB(ow:way.Ok)(hs:gP sh cc qq)(bw:h9 5000 way)(bs:IZ 2000 2000 sh)(hp:p<=256):(kD way sh p).Ok/\Bd 33000 (kD way sh p) :=
 ⟨aQ (gS ow hs) p,(bQ (gS ow hs).pos (ky bw bs) p).aw o_⟩
theorem ut{c off ca spread:be}(oc:c.Ok)(o1:off.Ok)(o2:ca.Ok)(o3:spread.Ok)(bc:Bd 2000 c)(b1:Bd 57000 off)(b2:Bd 51000 ca)(b3:Bd 33000 spread)(hp:p<=256):(pw c off ca spread p).Ok/\Bd 195000 (pw c off ca spread p):=by
 have o:=bU (a5 o2.pos) (ay (ay oc.pos o1.pos).pos o3.pos);exact⟨aQ o p,(bQ o.pos (cP (a7 b2) (aU (aU bc b1) b3)) p).aw o_⟩
theorem uu{a:be}{k:Int}{u:Unit}(h:k6 a k=.ok u):0<a.aW:=by
 unfold k6 at h;split at h
 ·cases h
 ·split at h
  ·cases h
  ·omega
theorem uv{cg:be}(sign:Int)(oi:cg.Ok)(hi:0<cg.aW)(bi:Bd 195000 cg)(hp:p<=256):(bZ (gJ cg p) sign).Ok/\Bd 196000 (bZ (gJ cg p) sign) :=
 ⟨i9 (kY oi o_ p) sign,mq ((ya oi o_ bi p).aw o_) sign⟩
theorem wM{ca other:be}(o2:ca.Ok)(oo:other.Ok)(b2:Bd 51000 ca)(bo:Bd 196000 other)(hp:p<=256):(outward (cy ca other) p).Ok/\Bd 248000 (outward (cy ca other) p) :=
 ⟨aQ (bU o2 oo) p,(bQ (bU o2 oo).pos (cP b2 bo) p).aw o_⟩
theorem wN{off both:be}(o1:off.Ok)(ob:both.Ok)(hz:aV both=false)(b1:Bd 57000 off)(bb:Bd 248000 both)(hp:p<=256):(c9 (br off) both).Ok/\Bd 553000 (c9 (br off) both)/\(outward (c9 (br off) both) p).Ok/\Bd 554000 (outward (c9 (br off) both) p):=by
 have o:=fc (nE o1).pos ob hz;have b:=jJ (gO b1) bb;exact⟨o,b.aw o_,aQ o p,(bQ o.pos b p).aw o_⟩
theorem wO{c ca other spread:be}{r:Rat}(hc:bK c r)(hr:c.aW≠0)(o2:ca.Ok)(oo:other.Ok)(o3:spread.Ok)(hz:aV spread=false)(bc:Bd 2000 c)(b2:Bd 51000 ca)(bo:Bd 196000 other)(b3:Bd 33000 spread)(hp:p<=256) :
  (c9 (dM ca other) (aO c spread)).Ok/\Bd 553000 (c9 (dM ca other) (aO c spread))/\(outward (c9 (dM ca other) (aO c spread)) p).Ok/\Bd 554000 (outward (c9 (dM ca other) (aO c spread)) p):=by
 have Yb:=ph hc (λz=>hr (hc.oZ.mpr z)) o3 hz;have o:=fc (gM o2 oo).pos (ay hc.ok.pos o3.pos) Yb;have b:=jJ (iy b2 bo) (aU bc b3);exact⟨o,b.aw o_,aQ o p,(bQ o.pos b p).aw o_⟩
theorem Gb{c off ca spread cg:be}{r:Rat}{sign:Int}{t:be}(hc:bK c r)(o1:off.Ok)(o2:ca.Ok)(o3:spread.Ok)(oi:cg.Ok)(bc:Bd 2000 c)(b1:Bd 57000 off)(b2:Bd 51000 ca)(b3:Bd 33000 spread)(bi:Bd 195000 cg)(hp:p<=256)
  (h:Me c sign p off ca spread cg=.ok t):t.Ok/\Bd 554000 t:=by
 unfold Me at h;cases h1:k6 cg 1 with
 |error k=>rw[h1] at h;cases h
 |ok u =>
  rw[h1] at h;have hi:=uu h1;obtain⟨oo,bo⟩:=uv sign oi hi bi hp;obtain⟨ob,bb⟩:=wM o2 oo b2 bo hp;cases h2:(if c.aW=0 then k6 (bZ ca sign) 1 else .ok ()) with
  |error k=>rw[h2] at h;cases h
  |ok u =>
   rw[h2] at h;dsimp only at h;split at h
   ·rename_i hz;cases h;exact(wN o1 ob hz b1 bb hp).2.2
   ·split at h
    ·cases h
    ·rename_i hz;cases h;have BW:=not_or.mp hz;exact(wO hc BW.1 o2 oo o3 (by simpa using BW.2) bc b2 bo b3 hp).2.2
theorem rC{sign:Int}{t:be}(op:pt.Ok)(ow:way.Ok)(hs:gP sh cc qq)(bp:h9 7500 pt)(bw:h9 5000 way)(bs:IZ 2000 2000 sh)(hp:p<=256)(h:jq pt way sh sign p=.ok t):t.Ok/\Bd 554000 t:=by
 rw[wL] at h;obtain⟨o1,b1⟩:=Ap op hs bp bs hp;obtain⟨o2,b2⟩:=ur op ow hs bp bw bs hp;obtain⟨o3,b3⟩:=rB ow hs bw bs hp;obtain⟨oi,bi⟩:=ut hs.c.ok o1 o2 o3 bs.c b1 b2 b3 hp;exact Gb hs.c o1 o2 o3 oi bs.c b1 b2 b3 bi hp h
end
structure ym(l:a9):Prop where
 op:l.point.Ok
 ow:l.way.Ok
 bp:h9 5000 l.point
 bw:h9 5000 l.way
 oi:l.index.Ok
 bi:Bd 2000 l.index
structure Aq(q:cJ):Prop where
 og:q.gap.Ok
 bg:Bd 2000 q.gap
 hs:∃cc qq,gP q.sh cc qq
 bs:IZ 2000 2000 q.sh
 pX:∀c,q.mX=some c->c.Ok/\Bd 2000 c
 glass:∀g,q.kind=.surface g->∀i∈g,i.Ok/\Bd 2000 i/\aV i=false
section
variable{l:a9}{q:cJ}{p:Nat}
theorem wP(L:ym l)(F:Aq q)(hp:p<=256):(cy l.point.z (br (bZ q.gap l.sign))).Ok/\Bd 7001 (cy l.point.z (br (bZ q.gap l.sign)))/\(ia l q p).Ok/\h9 7500 (ia l q p):=by
 have o:=bU L.op.z (nE (i9 F.og l.sign));have b:=cP L.bp.z (gO (mq F.bg l.sign));exact⟨o,b.aw o_,⟨L.op.x,L.op.y,aQ o p⟩,⟨L.bp.x.aw o_,L.bp.y.aw o_,(bQ o.pos b p).aw o_⟩⟩
theorem Jm{pt:bC}(L:ym l)(F:Aq q)(hp:p<=256)(h:gp l q p=.ok pt):pt.Ok/\h9 567000 pt:=by
 obtain⟨_,_,o,b⟩:=wP L F hp;obtain⟨cc,qq,hs⟩:=F.hs;unfold gp at h;cases e:jq (ia l q p) l.way q.sh l.sign p with
 |error k=>rw[e] at h;cases h
 |ok t =>
  rw[e] at h;cases h;obtain⟨ot,bt⟩:=rC o L.ow hs b L.bw F.bs hp e;exact⟨kx o ot L.ow p,(wA o ot L.ow b bt L.bw p).aw o_⟩
theorem Jn{pt:bC}(F:Aq q)(hp:p<=256)(o:pt.Ok)(b:h9 567000 pt):(cD q.sh pt p).Ok/\h9 572000 (cD q.sh pt p):=by
 obtain⟨cc,qq,hs⟩:=F.hs;exact⟨ja o hs p,(qI o hs b F.bs p).aw o_⟩
theorem size_fits{ac:bC}(hp:p<=256)(o:ac.Ok)(b:h9 572000 ac):(bW ac p).Ok/\Bd 3433000 (bW ac p):=⟨jZ o p,(vB o b p).aw o_⟩
theorem uw{ac way:bC}(hp:p<=256)(o:ac.Ok)(b:h9 572000 ac)(ow:way.Ok)(bw:h9 5000 way):(bY ac way p).Ok/\Bd 1732000 (bY ac way p):=⟨lW o ow p,(Ae o ow b bw p).aw o_⟩
theorem Gc{pt:bC}(hp:p<=256)(o:pt.Ok)(b:h9 567000 pt):(cy (ao pt.x) (ao pt.y)).Ok/\Bd 2268001 (cy (ao pt.x) (ao pt.y))/\(outward (cy (ao pt.x) (ao pt.y)) p).Ok/\Bd 2269000 (outward (cy (ao pt.x) (ao pt.y)) p):=by
 have o1:=bU (a5 o.x.pos) (a5 o.y.pos);have b1:=cP (a7 b.x) (a7 b.y);exact⟨o1,b1.aw o_,aQ o1 p,(bQ o1.pos b1 p).aw o_⟩
theorem yn:Bd 2 (ap (-2)):=gN d_ d_
theorem Cu{al size:be}(hp:p<=256)(oa:al.Ok)(os:size.Ok)(hz:aV size=false)(ba:Bd 1732000 al)(bs:Bd 3433000 size):(c9 (aO (ap (-2)) al) size).Ok/\Bd 8598002 (c9 (aO (ap (-2)) al) size)/\(outward (c9 (aO (ap (-2)) al) size) p).Ok/\Bd 8599000 (outward (c9 (aO (ap (-2)) al) size) p):=by
 have o:=fc (ay (cZ (-2)).pos oa.pos).pos os hz;have b:=jJ (aU yn ba) bs;exact⟨o,b.aw o_,aQ o p,(bQ o.pos b p).aw o_⟩
theorem Jo{ix al size Rh:be}(hp:p<=256)(o1:ix.Ok)(o2:al.Ok)(o3:size.Ok)(o4:Rh.Ok)(b1:Bd 2000 ix)(b2:Bd 1732000 al)(b3:Bd 3433000 size)(b4:Bd 2000 Rh) :
  (cy (aO (ao ix) (ao al)) (aO (dM (ao Rh) (ao ix)) size)).Ok/\Bd 6909002 (cy (aO (ao ix) (ao al)) (aO (dM (ao Rh) (ao ix)) size)) /\
  (outward (cy (aO (ao ix) (ao al)) (aO (dM (ao Rh) (ao ix)) size)) p).Ok/\Bd 6910000 (outward (cy (aO (ao ix) (ao al)) (aO (dM (ao Rh) (ao ix)) size)) p):=by
 have o:=bU (ay (a5 o1.pos).pos (a5 o2.pos).pos) (ay (gM (a5 o4.pos) (a5 o1.pos)).pos o3.pos);have b:=cP (aU (a7 b1) (a7 b2)) (aU (iy (a7 b4) (a7 b1)) b3);exact⟨o,b.aw o_,aQ o p,(bQ o.pos b p).aw o_⟩
theorem Ge{cg ix al:be}(sign:Int)(hp:p<=256)(oi:cg.Ok)(hi:0<cg.aW)(bi:Bd 6910000 cg)(o1:ix.Ok)(o2:al.Ok)(b1:Bd 2000 ix)(b2:Bd 1732000 al) :
  Bd 6911000 (bZ (gJ cg p) sign)/\(dM (bZ (gJ cg p) sign) (aO ix al)).Ok/\Bd 8645001 (dM (bZ (gJ cg p) sign) (aO ix al)):=by
 have o:=i9 (kY oi o_ p) sign;have b:Bd 6911000 (bZ (gJ cg p) sign):=mq ((ya oi o_ bi p).aw o_) sign;exact⟨b,gM o (ay o1.pos o2.pos),(iy b (aU b1 b2)).aw o_⟩
theorem Jp{turn size:be}(hp:p<=256)(ot:turn.Ok)(os:size.Ok)(hz:aV size=false)(bt:Bd 8645001 turn)(bs:Bd 3433000 size):(c9 turn size).Ok/\Bd 15511001 (c9 turn size)/\(outward (c9 turn size) p).Ok/\Bd 15512000 (outward (c9 turn size) p):=by
 have o:=fc ot.pos os hz;have b:=jJ bt bs;exact⟨o,b.aw o_,aQ o p,(bQ o.pos b p).aw o_⟩
theorem Gf{way ac:bC}{ix sh:be}(hp:p<=256)(ow:way.Ok)(oa:ac.Ok)(oi:ix.Ok)(os:sh.Ok)(bw:h9 5000 way)(ba:h9 572000 ac)(bi:Bd 2000 ix)(bs:Bd 15512000 sh) :
  (cR way ix).Ok/\h9 7000 (cR way ix)/\(cv (cR way ix) sh ac p).Ok/\h9 16092000 (cv (cR way ix) sh ac p):=by
 have o:=iT ow oi;have b:=pd bw bi;exact⟨o,⟨b.x.aw o_,b.y.aw o_,b.z.aw o_⟩,kx o os oa p,(wA o os oa b bs ba p).aw o_⟩
theorem Gg{way:bC}{ix:be}(ow:way.Ok)(oi:ix.Ok)(hz:aV ix=false)(bw:h9 16092000 way)(bi:Bd 2000 ix):(c9 (ap 1) ix).Ok/\Bd 4001 (c9 (ap 1) ix)/\(cR way (c9 (ap 1) ix)).Ok/\h9 16096001 (cR way (c9 (ap 1) ix)):=by
 have o:=fc (cZ 1).pos oi hz;have b:=jJ fM bi;have b2:=pd bw b;exact⟨o,b.aw o_,iT ow o,⟨b2.x.aw o_,b2.y.aw o_,b2.z.aw o_⟩⟩
end
def Mf(u v:be)(p:Nat):be:=gJ (outward (gQ (ap 1) (ao u) (ao v)) p) p
theorem Jq{u v:be}{qu qv:Rat}(hu:bK u qu)(hv:bK v qv):(gQ (ap 1) (ao u) (ao v)).Ok/\(gQ (ap 1) (ao u) (ao v)).size<=(gQ (ap 1) (ao u) (ao v)).aW:=by
 have h3:bK (gQ (ap 1) (ao u) (ao v)) (1+qu*qu+qv*qv):=(gR.add hu.sq).add hv.sq;refine⟨h3.ok,?_⟩;have e:=h3.lo;have hp:=h3.ok.pos;have g1:(1:Rat)<=1+qu*qu+qv*qv:=by
  have a1:=(db hu.sq.ok.pos).mpr (ik (a:=u));have a2:=(db hv.sq.ok.pos).mpr (ik (a:=v));rw[hu.sq.lo] at a1;rw[hv.sq.lo] at a2
  grind
 rw[<-e] at g1;generalize gQ (ap 1) (ao u) (ao v)=Z at *;have e1:(1:Rat)=(Z.size:Rat) / Z.size:=by
  have:=du (a:=Z.size) o_
  grind
 rw[e1] at g1;exact(f7 hp).mp g1
theorem Ey{u v:be}{qu qv:Rat}{p:Nat}(hu:bK u qu)(hv:bK v qv)(bu:Bd 100 u)(bv:Bd 100 v)(hp:p<=256) :
  (outward (gQ (ap 1) (ao u) (ao v)) p).Ok/\0<=(outward (gQ (ap 1) (ao u) (ao v)) p).aW/\Bd 660 (outward (gQ (ap 1) (ao u) (ao v)) p) /\
  (Mf u v p).Ok/\aV (Mf u v p)=false/\Bd 1200 (Mf u v p):=by
 obtain⟨o,h1⟩:=Jq hu hv;have b:=k4 fM (a7 bu) (a7 bv);have hO:=aQ o p;have S7:=rz o h1 p;have NY:0<=(outward (gQ (ap 1) (ao u) (ao v)) p).aW:=Int.le_trans (Int.le_of_lt hO.pos) S7;have bO:Bd 660 (outward (gQ (ap 1) (ao u) (ao v)) p):=(bQ o.pos b p).aw o_;have hw0:=Aj hO S7 p;exact⟨hO,NY,bO,kY hO NY p,gy (a:=Mf u v p) (by show ¬(gJ _ p).aW<=0;omega),(ya hO NY bO p).aw o_⟩
theorem Ez{w:be}{p:Nat}(o:w.Ok)(hz:aV w=false)(b:Bd 1200 w)(hp:p<=256):(c9 (ap 1) w).Ok/\Bd 2401 (c9 (ap 1) w)/\(outward (c9 (ap 1) w) p).Ok/\Bd 2700 (outward (c9 (ap 1) w) p):=by
 have o1:=fc (cZ 1).pos o hz;have b1:=jJ fM b;exact⟨o1,b1.aw o_,aQ o1 p,(bQ o1.pos b1 p).aw o_⟩
theorem sM{u z:be}{p:Nat}(ou:u.Ok)(oz:z.Ok)(bu:Bd 100 u)(bz:Bd 2700 z)(hp:p<=256):(aO u z).Ok/\Bd 2800 (aO u z)/\(outward (aO u z) p).Ok/\Bd 5000 (outward (aO u z) p):=by
 have o:=ay ou.pos oz.pos;have b:=aU bu bz;exact⟨o,b,aQ o p,(bQ o.pos b p).aw o_⟩
theorem Jr(x y u v index:be)(p:Nat):cA x y u v index p=⟨⟨x,y,ap 0⟩,⟨outward (aO u (outward (c9 (ap 1) (Mf u v p)) p)) p,outward (aO v (outward (c9 (ap 1) (Mf u v p)) p)) p,outward (c9 (ap 1) (Mf u v p)) p⟩,index,1⟩:=rfl
theorem Cv{x y u v index:be}{qx qy qu qv:Rat}{p:Nat}(hx:bK x qx)(hy:bK y qy)(hu:bK u qu)(hv:bK v qv)(bx:Bd 100 x)(Gh:Bd 100 y)(bu:Bd 100 u)(bv:Bd 100 v)(oi:index.Ok)(bi:Bd 2000 index)(hp:p<=256):ym (cA x y u v index p):=by
 obtain⟨_,_,_,ow,hz,bw⟩:=Ey hu hv bu bv hp;obtain⟨_,_,oz,bz⟩:=Ez ow hz bw hp;obtain⟨_,_,o1,b1⟩:=sM hu.ok oz bu bz hp;obtain⟨_,_,o2,b2⟩:=sM hv.ok oz bv bz hp;exact⟨⟨hx.ok,hy.ok,cZ 0⟩,⟨o1,o2,oz⟩,⟨bx.aw o_,Gh.aw o_,(gN (n:=1) d_ d_).aw o_⟩,⟨b1,b2,bz.aw o_⟩,oi,bi⟩
theorem gb{b:Bytes}{j:Nat}{c:UInt8}(h:b[j]?=some c):b.drop j=c::b.drop (j+1):=by
 obtain⟨hj,e⟩:=List.getElem?_eq_some_iff.mp h;rw[List.drop_eq_getElem_cons hj,e]
theorem yo{b:Bytes}{j:Nat}{c:UInt8}(h:b[j]?=some c)(hc:Num.isDigit c=true):am b (j+1)=am b j:=by
 unfold am;rw[gb h,List.takeWhile_cons,if_pos hc,List.length_cons];omega
theorem yp{b:Bytes}{j:Nat}{c:UInt8}(h:b[j]?=some c)(hc:Num.isDigit c=false):am b j=j:=by
 unfold am;rw[gb h,List.takeWhile_cons,if_neg (by rw[hc];exact Bool.false_ne_true)];rfl
theorem Cy{b:Bytes}{j:Nat}(h:b.length<=j):am b j=j:=by
 unfold am;rw[List.drop_eq_nil_of_le h];rfl
theorem EA(b:Bytes)(j:Nat):j<=am b j:=Nat.le_add_right _ _
theorem l7{b:Bytes}:∀(n i k:Nat),n=am b i - i->i<=k->k<am b i->∃c,b[k]?=some c/\Num.isDigit c=true
 |0,i,k,hn,h1,h2=>by omega
 |n+1,i,k,hn,h1,h2=>by
  have fS:i<b.length:=by
   rcases Nat.lt_or_ge i b.length with z |z
   ·exact z
   ·rw[Cy z] at hn;omega
  obtain⟨c,hc⟩:∃c,b[i]?=some c:=⟨_,List.getElem?_eq_getElem fS⟩
  cases hd:Num.isDigit c with
  |false=>rw[yp hc hd] at hn;omega
  |true =>
   rcases Nat.eq_or_lt_of_le h1 with z |z
   ·exact⟨c,by rw[<-z];exact hc,hd⟩
   ·have e:=yo hc hd;exact l7 n (i+1) k (by rw[e];omega) z (by rw[e];exact h2)
theorem Js(b:Bytes)(i:Nat):a6 b i i=0:=by
 unfold a6;rw[Nat.sub_self,List.take_zero];rfl
theorem EB{b:Bytes}{i j:Nat}{c:UInt8}(UJ:i<=j)(h:b[j]?=some c):a6 b i (j+1)=a6 b i j*10+(c.toNat - 48):=by
 unfold a6;have e:(b.drop i).take (j+1 - i)=(b.drop i).take (j - i)++[c]:=by
  rw[show j+1 - i=j - i+1 by omega,List.take_add_one,List.getElem?_drop,show i+(j - i)=j by omega,h];rfl
 rw[e,j4];unfold Num.number;simp
theorem N0{b:Bytes}{i j:Nat}(h:∀k,i<=k->k<j->∃c,b[k]?=some c/\Num.isDigit c=true):∀n,i+n<=j->a6 b i (i+n)<10^n
 |0,_=>by rw[Nat.add_zero,Js];decide
 |n+1,hn=>by
  obtain⟨c,hc,hd⟩:=h (i+n) o_ o_;have ih:=N0 h n o_;rw[show i+(n+1)=i+n+1 by omega,EB o_ hc,Nat.pow_succ];have:c.toNat<=57:=by
   unfold Num.isDigit at hd;simp at hd;exact hd.2
  omega
theorem Jt(n:Nat):10^n<2^(4*n+1):=by
 have:10^n<=16^n:=Nat.pow_le_pow_left d_ n;rw[show 16=2^4 by rfl,<-Nat.pow_mul] at this;exact Nat.lt_of_le_of_lt this (Nat.pow_lt_pow_right d_ o_)
theorem Mg{c:UInt8}(h:Num.isDigit c=true):48<=c.toNat/\c.toNat<=57:=by
 unfold Num.isDigit at h;simpa using h
theorem Ju{t d:Int}(hd:0<d):(0:Int)<Int.gcd t d/\t.fdiv (Int.gcd t d:Int)=(aZ t d).1/\d.fdiv (Int.gcd t d:Int)=(aZ t d).2:=by
 have hg:(0:Int)<Int.gcd t d:=by
  have:=Int.gcd_pos_of_ne_zero_right t (b:=d) o_;omega
 exact⟨hg,Int.fdiv_eq_ediv_of_nonneg _ o_,Int.fdiv_eq_ediv_of_nonneg _ o_⟩
theorem Cz(c:UInt8):((decide (65<=c.toNat) && decide (c.toNat<=90)) || ((decide (97<=c.toNat) && decide (c.toNat<=122)) || decide (c.toNat=95)))=Text.isLetter c:=by
 unfold Text.isLetter;have h1:(c == 95)=decide (c.toNat=95):=by
  rw[Bool.eq_iff_iff];simp only[beq_iff_eq,decide_eq_true_eq];exact⟨λe=>by rw[e];rfl,λe=>UInt8.toNat_inj.mp e⟩
 rw[h1];simp only[UInt8.le_iff_toNat_le];rw[Bool.eq_iff_iff];simp only[Bool.or_eq_true,Bool.and_eq_true,decide_eq_true_eq];simp;omega
theorem l8(c:UInt8):Text.isDigit c=Num.isDigit c:=by
 unfold Text.isDigit Num.isDigit;simp only[UInt8.le_iff_toNat_le];rfl
def bX(b:Bytes)(i:Nat):Nat:=i+((b.drop i).takeWhile λ(x:UInt8)=>x != 10).length
theorem EC{b:Bytes}{j:Nat}{c:UInt8}(h:b[j]?=some c)(hc:c≠10):bX b (j+1)=bX b j:=by
 unfold bX;rw[gb h,List.takeWhile_cons,if_pos (by simpa using hc),List.length_cons];omega
theorem Mh{b:Bytes}{j:Nat}{c:UInt8}(h:b[j]?=some c)(hc:c=10):bX b j=j:=by
 unfold bX;rw[gb h,List.takeWhile_cons,if_neg (by simp [hc])];rfl
theorem PV{b:Bytes}{j:Nat}(h:b.length<=j):bX b j=j:=by
 unfold bX;rw[List.drop_eq_nil_of_le h];rfl
theorem Tb(b:Bytes){i:Nat}(h:i<=b.length):bX b i<=b.length:=by
 unfold bX;have:=cb (p:=λ(x:UInt8)=>x != 10) (b.drop i);rw[List.length_drop] at this;omega
def bE(b:Bytes)(i:Nat):Nat:=i+bl (b.drop i)
theorem PX{b:Bytes}{j:Nat}(h:b.length<=j):bE b j=j:=by
 unfold bE;rw[List.drop_eq_nil_of_le h,PP];rfl
theorem Mi{b:Bytes}{j:Nat}{c:UInt8}(h:b[j]?=some c)(hc:c=35):j<bX b j/\bE b (bX b j)=bE b j:=by
 have e1:bX b j=j+1+((b.drop (j+1)).takeWhile λ(x:UInt8)=>x != 10).length:=by
  rw[<-EC h (by rw[hc];decide)];rfl
 refine⟨by omega,?_⟩;unfold bE;rw[gb h,yi,if_pos hc,e1,List.drop_drop];omega
theorem Jv{b:Bytes}{j:Nat}{c:UInt8}(h:b[j]?=some c)(hc:c≠35)(hb:c=32\/c=9\/c=10\/c=13):bE b (j+1)=bE b j:=by
 unfold bE;rw[gb h,yi,if_neg hc,if_pos hb];omega
theorem Mj{b:Bytes}{j:Nat}{c:UInt8}(h:b[j]?=some c)(hc:c≠35)(hb:¬(c=32\/c=9\/c=10\/c=13)):bE b j=j:=by
 unfold bE;rw[gb h,yi,if_neg hc,if_neg hb];rfl
theorem ux:∀(l:Bytes) (n:Nat),(∀c∈l,c.toNat<=57)->l.foldl (λ(n:Nat) (c:UInt8)=>10*n+(c.toNat - 48)) n<(n+1)*10^l.length
 |[],n,_=>by rw[List.foldl_nil,List.length_nil];omega
 |c::l,n,h=>by
  have h2:=h c List.mem_cons_self;have h1:=ux l (10*n+(c.toNat - 48)) λc' hc=>h c' (List.mem_cons_of_mem _ hc);rw[List.foldl_cons,List.length_cons,Nat.pow_succ];refine Nat.lt_of_lt_of_le h1 ?_;rw[Nat.mul_comm (10^l.length) 10,<-Nat.mul_assoc];exact Nat.mul_le_mul_right _ o_
theorem Gi(l:Bytes)(h:∀c∈l,c.toNat<=57):Num.number l<10^l.length:=by
 have:=ux l 0 h;rw[Nat.zero_add,Nat.one_mul] at this;exact this
theorem Jw{p:UInt8->Bool}:∀{l:Bytes} {c:UInt8},c∈l.takeWhile p->p c=true:=by
 intro l
 induction l with
 |nil=>intro c h;cases h
 |cons a l ih =>
  intro c h;rw[List.takeWhile_cons] at h;cases e:p a with
  |false=>rw[e] at h;simp at h
  |true =>
   rw[e,if_pos rfl] at h;rcases List.mem_cons.mp h with z |z
   ·rw[z];exact e
   ·exact ih z
theorem N4{c:UInt8}(h:Text.isDigit c=true):c.toNat<=57:=by
 unfold Text.isDigit at h;simp at h;exact UInt8.le_iff_toNat_le.mp h.2
theorem Gj{b:Bytes}{n k:Nat}{p:Bool}(h:(Text.numberIn b).1=.num n k p):n<10^18/\k<=18:=by
 unfold Text.numberIn at h;dsimp only at h;generalize ha:b.takeWhile Text.isDigit=a at h;generalize hz:(if ((List.drop a.length b).head? == some 46)=true then ((b.drop a.length).drop 1).takeWhile Text.isDigit else [])=z at h;generalize (a.length+(if ((List.drop a.length b).head? == some 46)=true then 1+z.length else 0))=nn at h;have h57:∀c∈a++z,c.toNat<=57:=by
  intro c hc;rcases List.mem_append.mp hc with q |q
  ·exact N4 (Jw (ha ▸ q))
  ·split at hz
   ·exact N4 (Jw (hz ▸ q))
   ·rw[<-hz] at q;cases q
 split at h
 ·rename_i q;have q2:a.length+z.length<=18:=q.2.1;injection h with h1 h2 h3
  have q3:=Gi (a++z) h57;rw[List.length_append] at q3;have q4:10^(a.length+z.length)<=10^18:=Nat.pow_le_pow_right d_ q2;have q5:Text.natural (a++z)=Num.number (a++z):=rfl;omega
 ·cases h
theorem Gk{b:Bytes}{n k:Nat}{p:Bool}(h:(Text.tokenIn b).1=.num n k p):n<10^18/\k<=18:=by
 unfold Text.tokenIn at h;split at h
 ·cases h
 ·split at h
  ·dsimp only at h;split at h
   ·cases h
   ·split at h <;> cases h
  ·split at h
   ·exact Gj h
   ·split at h <;> cases h
theorem px{b:Bytes}{i n k:Nat}{p:Bool}(h:tk b i=.num n k p):n<10^18/\k<=18:=Gk h
theorem uy{n:Nat}(h:n<10^18):Bd 60 (ap (n:Int)):=gN (by
 have:(10:Nat)^18<2^60:=by decide
 rw[Int.natAbs_natCast];omega) d_
theorem mD{b:Bytes}{i j:Nat}{v:be}(h:g8 b i=.ok (v,j)):Bd 180 v:=by
 unfold g8 at h;cases q:tk b i with
 |num n k p =>
  rw[q] at h;obtain⟨h1,h2⟩:=px q;cases p with
  |true =>
   dsimp only at h;split at h
   ·cases h
   ·cases h;have h3:10^k<=10^18:=Nat.pow_le_pow_right d_ h2;have h4:(10:Nat)^18<2^180:=by decide
    exact⟨by show ((n:Nat):Int).natAbs<_;rw[Int.natAbs_natCast];omega,by show ((n:Nat):Int).natAbs<_;rw[Int.natAbs_natCast];omega,by show ((10^k:Nat):Int).natAbs<_;rw[Int.natAbs_natCast];omega⟩
  |false =>
   dsimp only at h;split at h
   ·cases h
   ·rename_i j1 _;split at h
    ·split at h
     ·cases h
     ·rename_i j2 _;split at h
      ·rename_i d k2 q2;split at h
       ·cases h
       ·split at h
        ·cases h
        ·cases h;exact(jJ (uy h1) (uy (px q2).1)).aw d_
      ·cases h
    ·cases h;exact(uy h1).aw d_
 |_ =>
  rw[q] at h;cases h
structure Gm(v:be)(q:Rat):Prop where
 n:bK v q
 bd:Bd 180 v
theorem dW.and{α β:Type}{b:Bytes}{R S:α->β->Prop}{m:Nat->Except Text.Fault (α×Nat)}{g:Text.P β}(h:dW b R m g)(k:∀i a j c,m i=.ok (a,j)->R a c->S a c):dW b S m g:=by
 intro i hi;have q:=h i hi;cases e:m i with
 |error f =>
  rw[e] at q;exact q
 |ok y =>
  rw[e] at q;obtain⟨h1,c,h2,h3⟩:=q;exact⟨h1,c,k i _ _ _ e h2,h3⟩
theorem wQ(b:Bytes):dW b Gm (g8 b) Text.number:=(jP b).and λ_ _ _ _ e h=>⟨h,mD e⟩
theorem qO(b:Bytes):dW b Gm (gw b) Text.value:=(Cs b).and λi a j c e h=>⟨h,by
 unfold gw at e;split at e
 ·split at e
  ·cases e
  ·split at e
   ·cases e
   ·cases e;rename_i q;exact gO (mD q)
 ·exact mD e⟩
abbrev wd(w:String):Text.Tok:=.word (ascii w)
theorem dF.imp{α β:Type}{R S:α->β->Prop}{l:List α}{m:List β}(h:dF R l m)(k:∀a c,R a c->S a c):dF S l m:=by
 induction h with
 |nil=>exact .nil
 |cons q _ ih=>exact .cons (k _ _ q) ih
theorem wR{b:Bytes}{i:Nat}(h:rQ b i)(w:String):Text.isWordNext w (toks b i)=.ok (tk b i == wd w,toks b i):=by
 obtain⟨r,e⟩:=cS h.le;rw[e];exact Cr w h.on
theorem yq{b:Bytes}{i:Nat}(h:rQ b i):Text.peek (toks b i)=.ok ((bA b i).1,toks b i):=by
 obtain⟨r,e⟩:=cS h.le;rw[e];exact jO h.on
theorem yr{b:Bytes}{i:Nat}(h:rQ b i)(he:tk b i≠.end_):Text.pass (toks b i)=.ok ((),toks b (bA b i).2):=by
 rw[dZ h he];rfl
theorem py{α β:Type}{b:Bytes}{R:α->β->Prop}{m:Nat->Except Text.Fault (α×Nat)}{g:Text.P β}{i:Nat}(hi:rQ b i)(he:tk b i≠.end_)(h:dW b R m g)(hl:Looks g) :
  Rl b R (bd (l4 b i ()) λ_ j=>m j) ((Text.pass>>=λ_=>g) (toks b i)):=by
 rw[bj,yr hi he];dsimp only;unfold bd l4;cases q:mP b i with
 |error f =>
  dsimp only;rw[pr hi hl q];rfl
 |ok j =>
  obtain⟨hj,ej⟩:=nF hi q;dsimp only;rw[<-ej];exact h j hj
theorem Jx{α β:Type}{b:Bytes}{R:α->β->Prop}{i:Nat}{a:α}{c:β}(hi:rQ b i)(he:tk b i≠.end_)(h:R a c):Rl b R (l4 b i a) ((Text.pass>>=λ_=>(pure c:Text.P β)) (toks b i)):=by
 refine uo hi ?_ h;rw[bj,yr hi he];rfl
theorem yt{α β:Type}{b:Bytes}{R:α->β->Prop}{i:Nat}{a:α}{c:β}(hi:rQ b i)(h:R a c):Rl b R (.ok (a,i)) ((pure c:Text.P β) (toks b i)):=⟨hi,c,h,Ew hi c⟩
theorem N5{t u:Text.Tok}(h:t=u):(t == u)=true:=beq_iff_eq.mpr h
theorem Tc{t u:Text.Tok}(h:t≠u):(t == u)=false:=beq_eq_false_iff_ne.mpr h
theorem As{α β:Type}{b:Bytes}{R:α->β->Prop}{w:String}{m:Except Text.Fault (α×Nat)}{g g':Text.P β}{i:Nat}(hi:rQ b i)
  (h1:tk b i=wd w->Rl b R m (g (toks b i)))(h2:tk b i≠wd w->Rl b R m (g' (toks b i))):Rl b R m ((Text.isWordNext w>>=λc=>if c=true then g else g') (toks b i)):=by
 rw[bj,wR hi w];dsimp only
 by_cases c:tk b i=wd w
 ·rw[N5 c,if_pos rfl];exact h1 c
 ·rw[Tc c,if_neg d_];exact h2 c
theorem gW{b:Bytes}{i:Nat}{w:Bytes}(h:tk b i=.word w):tk b i≠.end_:=by rw[h];intro z;cases z
def Jy(l:List bG)(m:List Glass):Prop:=dF (λg s=>mB g s/\∀x∈g.2,Bd 180 x) l m
theorem Jy.is{l:List bG}{m:List Glass}(h:Jy l m):dF mB l m:=dF.imp h λ_ _ z=>z.1
def fD(l:List bG)(n:Bytes):List be:=((l.find? λg=>g.1 == n).map (·.2)).getD []
structure yu(m:List Glass)(x:List be)(k:Nat):Prop where
 on:∃g,m[k]?=some g/\∃a b c qa qb qc,x=[a,b,c]/\g.index=[qa,qb,qc]/\NZ a qa/\NZ b qb/\NZ c qc
 bd:∀v∈x,Bd 180 v
theorem Tf{l:List bG}{m:List Glass}(h:Jy l m)(n:Bytes):(n∈l.map (·.1)/\∃k,(m.map λ(g:Glass)=>g.name).idxOf? n=some k/\yu m (fD l n) k)\/(n∉l.map (·.1)/\(m.map λ(g:Glass)=>g.name).idxOf? n=none):=by
 unfold Jy at h
 induction h with
 |nil=>exact .inr ⟨by simp,rfl⟩
 | @cons g s l m q Yr ih =>
  obtain⟨⟨q1,q2⟩,q3⟩:=q
  by_cases c:g.1=n
  ·refine .inl ⟨by rw[List.map_cons,c];exact List.mem_cons_self,0,?_,?_⟩
   ·rw[List.map_cons,List.idxOf?_cons,if_pos (by rw[<-q1,c];exact beq_self_eq_true n)]
   ·have e:fD (g::l) n=g.2:=by
     unfold fD;rw[List.find?_cons_of_pos (by rw[c];exact beq_self_eq_true n)];rfl
    rw[e];exact⟨⟨s,rfl,q2⟩,q3⟩
  ·have e:fD (g::l) n=fD l n:=by
    unfold fD;rw[List.find?_cons_of_neg (by simpa using c)]
   rcases ih with ⟨i1,k,i2,i3⟩ |⟨i1,i2⟩
   ·refine .inl ⟨by rw[List.map_cons];exact List.mem_cons_of_mem _ i1,k+1,?_,?_⟩
    ·rw[List.map_cons,List.idxOf?_cons,if_neg (by rw[<-q1];simpa using c),i2];rfl
    ·rw[e];exact⟨i3.on,i3.bd⟩
   ·refine .inr ⟨?_,?_⟩
    ·rw[List.map_cons,List.mem_cons];rintro(z |z)
     ·exact c z.symm
     ·exact i1 z
    ·rw[List.map_cons,List.idxOf?_cons,if_neg (by rw[<-q1];simpa using c),i2];rfl
def lb(b:Bytes)(l:List bG)(i:Nat):Except Text.Fault (List be×Nat):=bd (nH b gv (λn=>decide (n∈l.map (·.1))) 4 i) λn j=>.ok (fD l n,j)
theorem uz{b:Bytes}{l:List bG}{m:List Glass}(h:Jy l m):dW b (yu m) (lb b l) (Text.glassNamed m):=by
 intro i hi;unfold Text.glassNamed lb nH;rw[bj];obtain⟨r,e⟩:=cS hi.le;cases q:gv (tk b i) with
 |none =>
  dsimp only;rw[e,qM _ _ hi.on,show gv (bA b i).1.tok=none from q];rfl
 |some n =>
  have he:tk b i≠.end_:=λz=>by rw[z] at q;cases q
  rw[dZ hi he,qM _ _ hi.on,show gv (bA b i).1.tok=some n from q];dsimp only;rcases Tf h n with ⟨i1,k,i2,i3⟩ |⟨i1,i2⟩
  ·rw[if_pos (decide_eq_true i1),i2];dsimp only;have:=uo (R:=yu m) (a:=fD l n) (g:=.ok (k,toks b (bA b i).2)) hi rfl i3;unfold l4 at this;unfold bd;cases q2:mP b i with
   |error f=>rw[q2] at this;exact this
   |ok j=>rw[q2] at this;exact this
  ·rw[if_neg (by rw[decide_eq_false i1];decide),i2];rfl
def uA(b:Bytes)(i:Nat):Except Text.Fault (be×Nat) :=
 if tk b i=wd "flat" then l4 b i (ap 0) else if tk b i=wd "curve" then bd (l4 b i ()) λ_ j=>gw b j
 else if tk b i=wd "radius" then bd (l4 b i ()) λ_ j=>bd (gw b j) λv j2 =>
  if tk b j2=wd "conic"\/tk b j2=wd "clear"\/tk b j2=.mark 59 then (if v.aW=0 then .error (6,pl b j2) else .ok (c9 (ap 1) v,j2)) else .error (2,pl b j2)
 else .error (2,pl b i)
structure Ys(v:be)(q:Rat):Prop where
 n:bK v q
 bd:Bd 400 v
theorem Au{v:be}{q:Rat}(h:bK v q):v.aW=0↔q=0:=by
 rw[<-h.lo];have hp:=du (a:=v.size) (by have:=h.ok.pos;omega)
 constructor
 ·intro z;rw[z];show ((0:Int):Rat) / _=0
  grind
 ·intro z;have:(v.aW:Rat)=0:=by grind
  exact_mod_cast this
theorem Ml{b:Bytes}{i:Nat}(hi:rQ b i){w:String}{β:Type}{k:Nat->Text.P β}:(Text.word w>>=k) (toks b i)=if tk b i=wd w then k (pl b i) (toks b (bA b i).2) else .error (2,pl b i):=by
 rw[bj];obtain⟨r,e⟩:=cS hi.le
 by_cases c:tk b i=wd w
 ·rw[dZ hi (gW c),kz w hi.on,if_pos (show (bA b i).1.tok=wd w from c),if_pos c];rfl
 ·rw[e,kz w hi.on,if_neg (show ¬(bA b i).1.tok=wd w from c),if_neg c];rfl
def sN(r:Rat):Text.P Rat:=do
 let x<-Text.peek
 Text.need (x.tok == .word (ascii "conic") || (x.tok == .word (ascii "clear") || x.tok == .mark 59)) 2 x.at_
 Text.need (r != 0) 6 x.at_
 pure (1 / r)
def yw:Text.P Rat:=do
  if (<-Text.isWordNext "flat")=true then do Text.pass;pure 0
  else if (<-Text.isWordNext "curve")=true then do Text.pass;Text.value
  else do
   let _<-Text.word "radius"
   let r<-Text.value
   sN r
theorem Av:Looks yw:=(iV "flat").bind
theorem yx{b:Bytes}{v:be}{q:Rat}(h:Gm v q):dW b Ys (λj2=>if tk b j2=wd "conic"\/tk b j2=wd "clear"\/tk b j2=.mark 59 then (if v.aW=0 then .error (6,pl b j2) else .ok (c9 (ap 1) v,j2)) else .error (2,pl b j2)) (sN q):=by
 intro i hi;unfold sN;rw[bj,yq hi];dsimp only;rw[bj];have e1:((bA b i).1.tok == Text.Tok.word (ascii "conic") || ((bA b i).1.tok == Text.Tok.word (ascii "clear") || (bA b i).1.tok == Text.Tok.mark 59))=decide (tk b i=wd "conic"\/tk b i=wd "clear"\/tk b i=.mark 59):=by
  rw[Bool.eq_iff_iff];simp only[Bool.or_eq_true,beq_iff_eq,decide_eq_true_eq];rfl
 rw[e1]
 by_cases c:tk b i=wd "conic"\/tk b i=wd "clear"\/tk b i=.mark 59
 ·rw[decide_eq_true c,j6,if_pos c];dsimp only;rw[bj]
  by_cases z:v.aW=0
  ·rw[if_pos z,show (q != 0)=false by rw[(Au h.n).mp z];rfl];rfl
  ·have zq:q≠0:=λy=>z ((Au h.n).mpr y);rw[if_neg z,show (q != 0)=true by simpa using zq,j6];exact yt hi ⟨gR.div h.n zq,(jJ fM h.bd).aw d_⟩
 ·rw[decide_eq_false c,js,if_neg c];rfl
theorem vE(q:Rat):Looks (sN q):=eX.bind
theorem CA(b:Bytes):dW b Ys (uA b) yw:=by
 intro i hi;unfold uA yw;refine As hi (λc=>?_) λc=>?_
 ·rw[if_pos c];exact Jx hi (gW c) ⟨bK.ap 0,(gN (n:=1) d_ d_).aw d_⟩
 ·rw[if_neg c];refine As hi (λc2=>?_) λc2=>?_
  ·rw[if_pos c2];exact py hi (gW c2) ((qO b).imp λ_ _ h=>⟨h.n,h.bd.aw d_⟩) lZ
  ·rw[if_neg c2,Ml hi]
   by_cases c3:tk b i=wd "radius"
   ·rw[if_pos c3,if_pos c3];have:=py hi (gW c3) (fe (qO b) (λv q h=>yx h) λq=>vE q) lZ.bind;rw[bj,yr hi (gW c3)] at this;exact this
   ·rw[if_neg c3,if_neg c3];rfl
def lc(b:Bytes)(i:Nat):Except Text.Fault (mr×Nat):=bd (uA b i) λc j =>
 if tk b j=wd "conic" then bd (l4 b j ()) λ_ j2=>bd (gw b j2) λk j3=>.ok (⟨c,k⟩,j3) else .ok (⟨c,ap 0⟩,j)
structure Yu(s:mr)(y:Rat×Rat):Prop where
 is:gP s y.1 y.2
 bd:IZ 400 400 s
theorem Jz:Text.shape=yw>>=λc=>(Text.isWordNext "conic">>=λz=>if z=true then (Text.pass>>=λ_=>Text.value>>=λk=>pure (c,k)) else pure (c,0)):=rfl
theorem uB(b:Bytes):dW b Yu (lc b) Text.shape:=by
 rw[Jz];refine fe (CA b) (λc q h=>?_) λ_=>(iV "conic").bind;intro i hi;refine As hi (λz=>?_) λz=>?_ <;> dsimp only
 ·rw[if_pos z];exact py hi (gW z) (jQ (λk=>(⟨c,k⟩:mr)) (λk=>(q,k)) (qO b) λk r hk=>⟨⟨h.n,hk.n⟩,h.bd,hk.bd.aw d_⟩) lZ.bind
 ·rw[if_neg z];exact yt hi ⟨⟨h.n,bK.ap 0⟩,h.bd,(gN (n:=1) d_ d_).aw d_⟩
def yy(b:Bytes)(i:Nat):Except Text.Fault (Option be×Nat):=if tk b i=wd "clear" then bd (l4 b i ()) λ_ j=>bd (g8 b j) λv j2 =>
  if tk b j2=.mark 59 then (if v.aW=0 then .error (6,pl b j2) else .ok (some v,j2)) else .error (2,pl b j2)
 else .ok (none,i)
def iK(b:Bytes)(i:Nat):Except Text.Fault (Option be×Nat):=bd (yy b i) λpX j=>bd (dA b (.mark 59) j) λ_ j2=>.ok (pX,j2)
structure Wv(l:Option be)(r:Option Rat):Prop where
 is:Jc l r
 bd:∀c,l=some c->c.Ok/\Bd 180 c
theorem l9:Looks Text.clearEnd:=(iV "clear").bind
theorem pz{α β γ:Type}(m:Except Text.Fault (α×Nat))(k:α->Nat->Except Text.Fault (β×Nat))(h:β->Nat->Except Text.Fault (γ×Nat)):bd (bd m k) h=bd m λa j=>bd (k a j) h:=by
 cases m <;> rfl
theorem eZ{α γ:Type}(a:α)(i:Nat)(k:α->Nat->Except Text.Fault (γ×Nat)):bd (.ok (a,i)) k=k a i:=rfl
theorem JA:Text.clearEnd=(Text.isWordNext "clear">>=λz=>if z=true then (Text.pass>>=λ_=>Text.number>>=λq=>(Text.mark 59>>=λe=>Text.need (decide (0<q)) 6 e>>=λ_=>pure ())>>=λ_=>pure (some q)) else (Text.mark 59>>=λ_=>pure none)):=by
 unfold Text.clearEnd;congr 1;funext z
 by_cases c:z=true
 ·rw[if_pos c,if_pos c];congr 1;funext _;congr 1;funext q;rw[sJ];congr 1;funext e;rw[sJ];rfl
 ·rw[if_neg c,if_neg c]
theorem Mm{b:Bytes}{i j:Nat}{v:be}(h:g8 b i=.ok (v,j)):0<=v.aW:=by
 unfold g8 at h;cases q:tk b i with
 |num n k p =>
  rw[q] at h;cases p with
  |true =>
   dsimp only at h;split at h
   ·cases h
   ·cases h;exact Int.natCast_nonneg n
  |false =>
   dsimp only at h;split at h
   ·cases h
   ·split at h
    ·split at h
     ·cases h
     ·split at h
      ·rename_i d k2 q2;split at h
       ·cases h
       ·rename_i hd;split at h
        ·cases h
        ·cases h;have h1:bK (c9 (ap (n:Int)) (ap (d:Int))) ((n:Rat) / (d:Rat)):=(kC n).div (kC d) (by exact_mod_cast hd);refine(db h1.ok.pos).mp ?_;rw[h1.lo];exact(db (show (0:Int)<(d:Int) by omega)).mpr (Int.natCast_nonneg n)
      ·cases h
    ·cases h;exact Int.natCast_nonneg n
 |_ =>
  rw[q] at h;cases h
theorem nM(b:Bytes):dW b Wv (iK b) Text.clearEnd:=by
 rw[JA];intro i hi;unfold iK yy;refine As hi (λz=>?_) λz=>?_
 ·rw[if_pos z,pz];have D:dW b Wv (λj=>bd (g8 b j) λv j2=>bd (uq b 59 (decide (v.aW≠0)) 6 j2) λ_ j3=>.ok (some v,j3)) (Text.number>>=λq=>(Text.mark 59>>=λe=>Text.need (decide (0<q)) 6 e>>=λ_=>pure ())>>=λ_=>pure (some q)):=by
   refine fe ((wQ b).and (S:=λv q=>Gm v q/\0<=v.aW) λ_ _ _ _ e h=>⟨h,Mm e⟩) (λv q hv=>?_) λq=>(Looks.bind (k9 59)).bind;have e1:decide (0<q)=decide (v.aW≠0):=decide_eq_decide.mpr (by
    rw[Md hv.1.n];have:=hv.2;omega)
   rw[e1];exact jQ (λ_=>some v) (λ_=>some q) (wJ 59 _ 6) λ_ _ h=>⟨hv.1.n,λc e=>by cases e;exact⟨hv.1.n.ok,hv.1.bd⟩⟩
  have:=py hi (gW z) D iW.bind;have e2:∀j:Nat,(bd (bd (g8 b j) λv j2=>if tk b j2=.mark 59 then (if v.aW=0 then .error (6,pl b j2) else .ok (some v,j2)) else .error (2,pl b j2)) λpX j=>bd (dA b (.mark 59) j) λ_ j2=>.ok (pX,j2):Except Text.Fault (Option be×Nat))=bd (g8 b j) λv j2=>bd (uq b 59 (decide (v.aW≠0)) 6 j2) λ_ j3=>.ok (some v,j3):=by
   intro j;rw[pz];congr 1;funext v j2;unfold uq dA
   by_cases c:tk b j2=.mark 59
   ·rw[if_pos c,if_pos c]
    by_cases y:v.aW=0
    ·rw[if_pos y,if_neg (by simpa using y)];rfl
    ·rw[if_neg y,if_pos (by simpa using y),eZ,if_pos c];rfl
   ·rw[if_neg c,if_neg c];rfl
  simp only[e2];exact this
 ·rw[if_neg z,eZ];exact jQ (λ_=>none) (λ_=>none) (qL b 59) (λ_ _ _=>⟨trivial,λc e=>by cases e⟩) i hi
def Ww(m:List Glass):mW->Kind->Prop
 |.surface g,.surface k=>yu m g k
 |.mirror,.mirror=>True
 |.gj,.halt_=>True
 |_,_=>False
abbrev bB:=Bytes×cJ
structure yz(m:List Glass)(q:bB)(e:Elem):Prop where
 name:q.1=e.name
 gap:Gm q.2.gap e.gap
 sh:Yu q.2.sh (e.curve,e.conic)
 pX:Wv q.2.mX e.clear
 kind:Ww m q.2.kind e.kind
def pB(b:Bytes)(l:List bG)(n:Bytes)(g:be)(k:Text.Tok)(i:Nat):Except Text.Fault (bB×Nat) :=
 if k=wd "surface" then bd (dA b (wd "into") i) λ_ i5=>bd (lb b l i5) λx i6=>bd (lc b i6) λs i7=>bd (iK b i7) λc i8=>.ok ((n,⟨.surface x,g,s,c⟩),i8)
 else if k=wd "mirror" then bd (lc b i) λs i7=>bd (iK b i7) λc i8=>.ok ((n,⟨.mirror,g,s,c⟩),i8)
 else bd (iK b i) λc i8=>.ok ((n,⟨.gj,g,⟨ap 0,ap 0⟩,c⟩),i8)
def m4(b:Bytes)(l:List bG)(ns:List Bytes)(i:Nat):Except Text.Fault (bB×Nat) :=
 if tk b i=wd "surface"\/tk b i=wd "mirror"\/tk b i=wd "stop" then
  if ns.length<64 then bd (l4 b i ()) λ_ i1=>bd (nH b gv (λn=>decide (n∉ns)) 3 i1) λn i2=>bd (dA b (wd "after") i2) λ_ i3=>bd (g8 b i3) λg i4=>pB b l n g (tk b i) i4
  else .error (5,pl b i)
 else .error (2,pl b i)
def wS(m:List Glass)(n:Bytes)(g:Rat)(k:Text.Tok):Text.P Elem :=
 if k=wd "surface" then do
  let _<-Text.word "into"
  let x<-Text.glassNamed m
  let s<-Text.shape
  let c<-Text.clearEnd
  pure ⟨n,g,.surface x,s.1,s.2,c⟩
 else if k=wd "mirror" then do
  let s<-Text.shape
  let c<-Text.clearEnd
  pure ⟨n,g,.mirror,s.1,s.2,c⟩
 else do
  let c<-Text.clearEnd
  pure ⟨n,g,.halt_,0,0,c⟩
theorem rD:Looks Text.shape:=Av.bind
theorem CD(m:List Glass)(n:Bytes)(g:Rat)(k:Text.Tok):Looks (wS m n g k):=by
 unfold wS;split
 ·exact(k8 "into").bind
 ·split
  ·exact rD.bind
  ·exact l9.bind
theorem rE(m:List Glass):Looks (Text.glassNamed m):=nG.bind
theorem Gn{b:Bytes}{l:List bG}{m:List Glass}(h:Jy l m){n:Bytes}{g:be}{q:Rat}(hg:Gm g q)(k:Text.Tok):dW b (yz m) (pB b l n g k) (wS m n q k):=by
 unfold wS
 by_cases c1:k=wd "surface"
 ·rw[if_pos c1];refine dW.eq (m:=λi=>bd (dA b (wd "into") i) λ_ i5=>bd (lb b l i5) λx i6=>bd (lc b i6) λs i7=>bd (iK b i7) λc i8=>.ok ((n,⟨.surface x,g,s,c⟩),i8)) ?_ (by funext i;unfold pB;rw[if_pos c1]) rfl;refine fe (mz b "into") (λ_ _ _=>?_) λ_=>(rE m).bind;refine fe (uz h) (λx k' hx=>?_) λ_=>rD.bind;refine fe (uB b) (λs s' hs=>?_) λ_=>l9.bind;exact jQ (λc=>((n,⟨.surface x,g,s,c⟩):bB)) (λc=>(⟨n,q,.surface k',s'.1,s'.2,c⟩:Elem)) (nM b) λc c' hc=>⟨rfl,hg,hs,hc,hx⟩
 ·rw[if_neg c1]
  by_cases c2:k=wd "mirror"
  ·rw[if_pos c2];refine dW.eq (m:=λi=>bd (lc b i) λs i7=>bd (iK b i7) λc i8=>.ok ((n,⟨.mirror,g,s,c⟩),i8)) ?_ (by funext i;unfold pB;rw[if_neg c1,if_pos c2]) rfl;refine fe (uB b) (λs s' hs=>?_) λ_=>l9.bind;exact jQ (λc=>((n,⟨.mirror,g,s,c⟩):bB)) (λc=>(⟨n,q,.mirror,s'.1,s'.2,c⟩:Elem)) (nM b) λc c' hc=>⟨rfl,hg,hs,hc,trivial⟩
  ·rw[if_neg c2];refine dW.eq (m:=λi=>bd (iK b i) λc i8=>.ok ((n,⟨.gj,g,⟨ap 0,ap 0⟩,c⟩),i8)) ?_ (by funext i;unfold pB;rw[if_neg c1,if_neg c2]) rfl;exact jQ (λc=>((n,⟨.gj,g,⟨ap 0,ap 0⟩,c⟩):bB)) (λc=>(⟨n,q,.halt_,0,0,c⟩:Elem)) (nM b) λc c' hc=>⟨rfl,hg,⟨⟨bK.ap 0,bK.ap 0⟩,(gN (n:=1) d_ d_).aw d_,(gN (n:=1) d_ d_).aw d_⟩,hc,trivial⟩
theorem Mn{m:List Elem}{n:Bytes}:(m.all λ(g:Elem)=>g.name != n)=decide (n∉m.map λ(x:Elem)=>x.name):=by
 rw[Bool.eq_iff_iff,List.all_eq_true,decide_eq_true_iff,List.mem_map]
 constructor
 ·rintro h ⟨g,hg,e⟩;have:=h g hg;rw[e] at this;simp at this
 ·intro h g hg;simp only[bne_iff_ne,ne_eq];intro e;exact h ⟨g,hg,e⟩
theorem PY{m:List Glass}{l:List bB}{es:List Elem}(h:dF (yz m) l es):l.map (·.1)=es.map λ(x:Elem)=>x.name:=by
 induction h with
 |nil=>rfl
 |cons q _ ih=>rw[List.map_cons,List.map_cons,ih,q.name]
theorem ED(m:List Glass)(es:List Elem):Text.elem m es=Text.peek>>=λx=>Text.need (x.tok == .word (ascii "surface") || (x.tok == .word (ascii "mirror") || x.tok == .word (ascii "stop"))) 2 x.at_>>=λ_ =>
  Text.need (decide (es.length<ELEMS)) 5 x.at_>>=λ_=>Text.pass>>=λ_=>(Text.name>>=λy=>Text.need (decide (y.2∉es.map λ(x:Elem)=>x.name)) 3 y.1>>=λ_=>pure y)>>=λn=>Text.word "after">>=λ_=>Text.number>>=λg=>wS m n.2 g x.tok:=by
 unfold Text.elem wS;congr 1;funext x;congr 1;funext _;congr 1;funext _;congr 1;funext _;rw[<-wH];congr 1;funext y;rw[Mn]
theorem Go{b:Bytes}{l:List bG}{m:List Glass}(h:Jy l m){ps:List bB}{es:List Elem}(he:dF (yz m) ps es):dW b (yz m) (m4 b l (ps.map (·.1))) (Text.elem m es):=by
 intro i hi;rw[ED,bj,yq hi];dsimp only;rw[bj];have e1:((bA b i).1.tok == Text.Tok.word (ascii "surface") || ((bA b i).1.tok == Text.Tok.word (ascii "mirror") || (bA b i).1.tok == Text.Tok.word (ascii "stop")))=decide (tk b i=wd "surface"\/tk b i=wd "mirror"\/tk b i=wd "stop"):=by
  rw[Bool.eq_iff_iff];simp only[Bool.or_eq_true,beq_iff_eq,decide_eq_true_eq];rfl
 rw[e1];unfold m4
 by_cases c:tk b i=wd "surface"\/tk b i=wd "mirror"\/tk b i=wd "stop"
 ·rw[decide_eq_true c,j6,if_pos c];dsimp only;rw[bj];have vq:tk b i≠.end_:=by
   rcases c with c |c |c <;> exact gW c
  rw[List.length_map,he.len]
  by_cases z:es.length<64
  ·rw[show decide (es.length<ELEMS)=true from decide_eq_true z,j6,if_pos z];dsimp only;refine py hi vq ?_ (Looks.bind (Looks.bind nG));rw[PY he];refine fe (wI (λn=>decide (n∉es.map λ(x:Elem)=>x.name)) 3) (λn y hy=>?_) λ_=>(k8 "after").bind;refine fe (mz b "after") (λ_ _ _=>?_) λ_=>iW.bind;refine fe (wQ b) (λg q hg=>?_) λq=>CD _ _ _ _;rw[hy];exact Gn h hg _
  ·rw[show decide (es.length<ELEMS)=false from decide_eq_false z,js,if_neg z];rfl
 ·rw[decide_eq_false c,js,if_neg c];rfl
def fh(b:Bytes):Nat->List bG->Nat->Except Text.Fault (List bG×Nat)
 |0,l,i=>.ok (l,i)
 |f+1,l,i=>if tk b i=wd "glass" then bd (ie b l i) λg j=>fh b f (l++[g]) j else .ok (l,i)
theorem Gp{b:Bytes}{l:List bG}{i j:Nat}{g:bG}(h:ie b l i=.ok (g,j)):∀x∈g.2,Bd 180 x:=by
 have ix:∀{c:UInt8} {i j:Nat} {v:be},gh b c i=.ok (v,j)->Bd 180 v:=λ{c i j v} e=>by
  unfold gh bd at e;split at e
  ·cases e
  ·rename_i y q;dsimp only at e;split at e
   ·cases e
   ·cases e;exact mD q
 unfold ie bd at h;split at h
 ·split at h
  ·cases h
  ·try dsimp only at h
   split at h
   ·cases h
   ·try dsimp only at h
    split at h
    ·cases h
    ·try dsimp only at h
     split at h
     ·cases h
     ·rename_i y1 q1
      try dsimp only at h
      split at h
      ·cases h
      ·rename_i y2 q2
       try dsimp only at h
       split at h
       ·cases h
       ·rename_i y3 q3;cases h;intro x hx;simp only[List.mem_cons,List.not_mem_nil,or_false] at hx;rcases hx with rfl |rfl |rfl
        ·exact ix q1
        ·exact ix q2
        ·exact ix q3
 ·cases h
theorem Aw(m:List Glass):Looks (Text.glass m):=(k8 "glass").bind
theorem uC{b:Bytes}{l:List bG}{i j:Nat}{g:bG}(h:ie b l i=.ok (g,j)):l.length<64:=by
 unfold ie at h;split at h
 ·assumption
 ·cases h
theorem pF{b:Bytes}:∀(f:Nat) {l:List bG} {m:List Glass},Jy l m->l.length<=64->65<=l.length+f->dW b Jy (fh b f l) (Text.glasses f m)
 |0,l,m,h,hl,hf=>by omega
 |f+1,l,m,h,hl,hf=>by
  intro i hi;unfold fh Text.glasses;refine As hi (λc=>?_) λc=>?_
  ·rw[if_pos c,bj];have hg:=Ct h.is i hi c;unfold bd;cases q:ie b l i with
   |error e =>
    rw[q] at hg;dsimp only at hg ⊢;cases y:Text.glass m (toks b i) with
    |error e' =>
     rw[y] at hg;exact congrArg Except.error (Except.error.inj (show (Except.error e':Except Text.Fault (Glass×List Text.Lex))=.error e from hg))
    |ok z =>
     obtain⟨g,r⟩:=z;rw[y] at hg;dsimp only;cases r with
     |nil=>cases hg
     |cons x r =>
      have h2:(if x.tok=.broken then (.error (1,x.at_):Except Text.Fault (Glass×List Text.Lex)) else .ok (g,x::r))=.error e:=hg
      by_cases z:x.tok=.broken
      ·rw[if_pos z] at h2;have Tg:Looks (Text.glasses f (m++[g])):=by
        cases f with
        |zero =>
         exfalso;have h3:l.length=64:=by omega
         have h4:m.length=64:=by rw[<-dF.len h];exact h3
         have e2:=dZ hi (gW c);have ew:Text.word "glass" (toks b i)=.ok (pl b i,toks b (bA b i).2):=by
          rw[e2,kz "glass" hi.on,if_pos (show (bA b i).1.tok=_ from c)];rfl
         rw[la,bj,ew] at y;dsimp only at y;rw[bj,show decide (m.length<64)=false from decide_eq_false o_,js] at y;cases y
        |succ f =>
         unfold Text.glasses;exact(iV "glass").bind
       rw[Tg x r z];exact congrArg Except.error (Except.error.inj h2)
      ·rw[if_neg z] at h2;cases h2
   |ok y =>
    obtain⟨g,j⟩:=y;have hlen:=uC q;have Sx:=Gp q;rw[q] at hg;obtain⟨hj,s,hs,h2⟩:=hg;dsimp only;cases y:Text.glass m (toks b i) with
    |error e' =>
     rw[y] at h2;cases h2
    |ok z =>
     obtain⟨c',r⟩:=z;rw[y] at h2;have h3:c'=s/\r=toks b j:=by
      cases r with
      |nil =>
       have:=Except.ok.inj h2;exact⟨(Prod.mk.inj this).1,(Prod.mk.inj this).2⟩
      |cons x r =>
       have h2:(if x.tok=.broken then (.error (1,x.at_):Except Text.Fault (Glass×List Text.Lex)) else .ok (c',x::r))=.ok (s,toks b j):=h2
       by_cases z:x.tok=.broken
       ·rw[if_pos z] at h2;cases h2
       ·rw[if_neg z] at h2;have:=Except.ok.inj h2;exact⟨(Prod.mk.inj this).1,(Prod.mk.inj this).2⟩
     obtain⟨rfl,rfl⟩:=h3;dsimp only;exact pF f (dF.snoc h ⟨hs,Sx⟩) (by rw[List.length_append,List.length_singleton];omega) (by rw[List.length_append,List.length_singleton];omega) j hj
  ·rw[if_neg c];exact yt hi h
abbrev Th{α β:Type}(b:Bytes)(R:α->β->Prop)(m:Except Text.Fault (α×Nat))(y:Except Text.Fault (β×List Text.Lex)):Prop:=match m with
 |.error e=>y=.error e
 |.ok (a,j)=>rQ b j/\∃c,R a c/\y=.ok (c,toks b j)
def EE{α β:Type}(b:Bytes)(R:α->β->Prop)(m:Nat->Except Text.Fault (α×Nat))(g:Text.P β):Prop:=∀i,rQ b i->Th b R (m i) (g (toks b i))
theorem JB{α β γ δ:Type}{b:Bytes}{R:α->β->Prop}{S:γ->δ->Prop}{m:Except Text.Fault (α×Nat)}{y:Except Text.Fault (β×List Text.Lex)}{n:α->Nat->Except Text.Fault (γ×Nat)}{k:β->Text.P δ}
  (h:Rl b R m y)(hk:∀a j c,m=.ok (a,j)->rQ b j->R a c->Th b S (n a j) (k c (toks b j)))(hl:∀c r,y=.ok (c,r)->Looks (k c)):Th b S (bd m n) (match (generalizing:=false) y with |.ok z=>k z.1 z.2 |.error e=>.error e):=by
 cases m with
 |error f =>
  have h1:eg y=.error f:=h;show _=Except.error f;cases y with
  |error f' =>
   dsimp only;exact congrArg Except.error (Except.error.inj (show (Except.error f':Except Text.Fault (β×List Text.Lex))=.error f from h1))
  |ok y =>
   obtain⟨c,l⟩:=y;dsimp only;cases l with
   |nil=>cases h1
   |cons x r =>
    have h2:(if x.tok=.broken then (.error (1,x.at_):Except Text.Fault (β×List Text.Lex)) else .ok (c,x::r))=.error f:=h1
    by_cases z:x.tok=.broken
    ·rw[if_pos z] at h2;rw[hl c _ rfl x r z];exact congrArg Except.error (Except.error.inj h2)
    ·rw[if_neg z] at h2;cases h2
 |ok q =>
  obtain⟨a,j⟩:=q;obtain⟨hj,c,rc,h2⟩:=h;show Th b S (n a j) _;cases y with
  |error f=>cases h2
  |ok y =>
   obtain⟨c',l⟩:=y;have h3:c'=c/\l=toks b j:=by
    cases l with
    |nil =>
     have:=Except.ok.inj h2;exact⟨(Prod.mk.inj this).1,(Prod.mk.inj this).2⟩
    |cons x r =>
     have h2:(if x.tok=.broken then (.error (1,x.at_):Except Text.Fault (β×List Text.Lex)) else .ok (c',x::r))=.ok (c,toks b j):=h2
     by_cases z:x.tok=.broken
     ·rw[if_pos z] at h2;cases h2
     ·rw[if_neg z] at h2;have:=Except.ok.inj h2;exact⟨(Prod.mk.inj this).1,(Prod.mk.inj this).2⟩
   obtain⟨rfl,rfl⟩:=h3;exact hk a j c' rfl hj rc
theorem pG{α β γ δ:Type}{b:Bytes}{R:α->β->Prop}{S:γ->δ->Prop}{m:Nat->Except Text.Fault (α×Nat)}{g:Text.P β}{n:α->Nat->Except Text.Fault (γ×Nat)}{k:β->Text.P δ}
  (h:dW b R m g)(hk:∀a c,R a c->EE b S (n a) (k c))(hl:∀c,Looks (k c)):EE b S (λi=>bd (m i) n) (g>>=k):=by
 intro i hi;rw[bj];exact JB (h i hi) (λa j c _ hj r=>hk a c r j hj) λc _ _=>hl c
def fN(b:Bytes)(l:List bG):Nat->List bB->Nat->Except Text.Fault (List bB×Nat)
 |0,ps,i=>.ok (ps,i)
 |f+1,ps,i=>if tk b i=.end_ then .ok (ps,i) else bd (m4 b l (ps.map (·.1)) i) λq j=>fN b l f (ps++[q]) j
theorem qP{b:Bytes}{l:List bG}{ns:List Bytes}{i j:Nat}{g:bB}(h:m4 b l ns i=.ok (g,j)):ns.length<64:=by
 unfold m4 at h;split at h
 ·split at h
  ·assumption
  ·cases h
 ·cases h
theorem JC{m:List Glass}{es:List Elem}{y:List Text.Lex}{z:Elem×List Text.Lex}(h:Text.elem m es y=.ok z):es.length<64:=by
 by_cases c:es.length<64
 ·exact c
 ·exfalso;rw[ED,bj] at h;cases q:Text.peek y with
  |error e=>rw[q] at h;cases h
  |ok x =>
   rw[q] at h;dsimp only at h;rw[bj] at h;cases d:(x.1.tok == Text.Tok.word (ascii "surface") || (x.1.tok == Text.Tok.word (ascii "mirror") || x.1.tok == Text.Tok.word (ascii "stop"))) with
   |false=>rw[d,js] at h;cases h
   |true =>
    rw[d,j6] at h;dsimp only at h;rw[bj,show decide (es.length<ELEMS)=false from decide_eq_false c,js] at h;cases h
theorem uD{b:Bytes}{l:List bG}{m:List Glass}(h:Jy l m):∀(f:Nat) {ps:List bB} {es:List Elem},dF (yz m) ps es->ps.length<=64->65<=ps.length+f->EE b (dF (yz m)) (fN b l f ps) (Text.elems m f es)
 |0,ps,es,_,hl,hf=>by omega
 |f+1,ps,es,he,hl,hf=>by
  intro i hi;unfold fN Text.elems;rw[bj,yq hi];dsimp only
  by_cases c:tk b i=.end_
  ·rw[if_pos c,if_pos (show (bA b i).1.tok=.end_ from c)];exact⟨hi,es,he,rfl⟩
  ·rw[if_neg c,if_neg (show ¬(bA b i).1.tok=.end_ from c),bj];refine JB (k:=λe=>Text.elems m f (es++[e])) (Go h he i hi) (λq j e hq hj r=>?_) λe r hr=>?_
   ·have:=qP hq;rw[List.length_map] at this;exact uD h f (dF.snoc he r) (by rw[List.length_append,List.length_singleton];omega) (by rw[List.length_append,List.length_singleton];omega) j hj
   ·have:=JC hr;have Sr:ps.length=es.length:=dF.len he;cases f with
    |zero=>omega
    |succ f =>
     unfold Text.elems;exact eX.bind
def gX(b:Bytes):Except Text.Fault (List be×List bB) :=
 if tk b 0=.broken then .error (1,pl b 0) else if tk b 0=wd "glass" then
  match (bd (fh b 65539 [] 0) λl i1=>bd (dA b (wd "start") i1) λ_ i2=>bd (lb b l i2) λx i3=>bd (dA b (.mark 59) i3) λ_ i4=>bd (fN b l 65538 [] i4) λps i5=>.ok ((x,ps),i5):Except Text.Fault ((List be×List bB)×Nat)) with
  |.error e=>.error e
  |.ok y=>.ok y.1
 else .error (2,pl b 0)
structure N6(y:List be×List bB)(s:System_):Prop where
 UQ:yu s.glasses y.1 s.start
 kl:dF (yz s.glasses) y.2 s.elems
def Ax(l:List Glass):Text.P System_:=do
 let _<-Text.word "start"
 let m<-Text.glassNamed l
 let _<-Text.mark 59
 let es<-Text.elems l Text.FUEL []
 pure ⟨l,m,es⟩
theorem Ay(l:List Glass)(es:List Elem):Looks (Text.elems l Text.FUEL es):=by
 show Looks (Text.elems l (65537+1) es);unfold Text.elems;exact eX.bind
theorem Gq{b:Bytes}{l:List bG}{m:List Glass}(h:Jy l m):EE b N6 (λi1=>bd (dA b (wd "start") i1) λ_ i2=>bd (lb b l i2) λx i3=>bd (dA b (.mark 59) i3) λ_ i4=>bd (fN b l 65538 [] i4) λps i5=>.ok ((x,ps),i5)) (Ax m):=by
 unfold Ax;refine pG (mz b "start") (λ_ _ _=>?_) λ_=>(rE m).bind;refine pG (uz h) (λx k hx=>?_) λ_=>(k9 59).bind;refine pG (qL b 59) (λ_ _ _=>?_) λ_=>(Ay m []).bind;intro i hi;have:=uD h 65538 (b:=b) (dF.nil) (Nat.zero_le _) d_ i hi;rw[bj];dsimp only;unfold bd;cases q:fN b l 65538 [] i with
 |error e =>
  rw[q] at this;have t:Text.elems m Text.FUEL [] (toks b i)=.error e:=this;rw[t]
 |ok y =>
  obtain⟨ps,j⟩:=y;rw[q] at this;obtain⟨hj,es,he,t⟩:=this;have t:Text.elems m Text.FUEL [] (toks b i)=.ok (es,toks b j):=t;rw[t];exact⟨hj,_,⟨hx,he⟩,rfl⟩
theorem yA(f:Nat)(l:List Glass):Text.glasses (f+1) l=(Text.isWordNext "glass">>=λc=>if c=true then (Text.glass l>>=λg=>Text.glasses f (l++[g])) else pure l):=by
 rw[Text.glasses]
theorem wT:Text.system=Text.glass []>>=λg=>Text.glasses Text.FUEL [g]>>=λl=>Ax l:=rfl
theorem yB(b:Bytes):match gX b with
  |.error e=>Text.read b=.error e
  |.ok y=>∃s,N6 y s/\Text.read b=.ok s:=by
 have e0:Text.read b=(Text.system (toks b 0)).map λ(x:System_×List Text.Lex)=>x.1:=rfl;rw[e0];unfold gX
 by_cases c:tk b 0=.broken
 ·rw[if_pos c];obtain⟨r,e⟩:=cS (b:=b) (Nat.zero_le _);have hl:Looks Text.system:=(Aw []).bind;dsimp only;rw[e,hl _ _ c];rfl
 ·rw[if_neg c];have hi:rQ b 0:=⟨Nat.zero_le _,c⟩
  by_cases z:tk b 0=wd "glass"
  ·rw[if_pos z];have e1:Text.system (toks b 0)=(Text.glasses 65539 []>>=λl=>Ax l) (toks b 0):=by
    rw[wT,bj,bj,yA,bj,wR hi,N5 z];dsimp only;rw[if_pos rfl,bj];cases Text.glass [] (toks b 0) with
    |error e=>rfl
    |ok y =>
     dsimp only;rw[bj];rfl
   have D:=pG (pF (b:=b) 65539 (l:=[]) (m:=[]) .nil d_ d_) (λl m Yr=>Gq Yr) (λm=>(k8 "start").bind) 0 hi;rw[e1];generalize hy:(Text.glasses 65539 []>>=λl=>Ax l) (toks b 0)=Y at *;unfold Th at D;dsimp only at D;cases q:(bd (fh b 65539 [] 0) λl i1=>bd (dA b (wd "start") i1) λ_ i2=>bd (lb b l i2) λx i3=>bd (dA b (.mark 59) i3) λ_ i4=>bd (fN b l 65538 [] i4) λps i5=>.ok ((x,ps),i5):Except Text.Fault ((List be×List bB)×Nat)) with
   |error e =>
    rw[q] at D;dsimp only at D ⊢;rw[D];rfl
   |ok y =>
    obtain⟨y,j⟩:=y;rw[q] at D;obtain⟨_,s,hs,e⟩:=D;exact⟨s,hs,by rw[e];rfl⟩
  ·rw[if_neg z];dsimp only;have:Text.system (toks b 0)=.error (2,pl b 0):=by
    obtain⟨r,e⟩:=cS (b:=b) (Nat.zero_le _);rw[wT,bj,la,bj,e,kz "glass" hi.on,if_neg (show ¬(bA b 0).1.tok=_ from z)];rfl
   rw[this];rfl
abbrev Tm:=Int×Int
def u4(u:Tm):Prop:=u.1.natAbs<2^4096/\u.2.natAbs<2^4096
instance(u:Tm):Decidable (u4 u):=inferInstanceAs (Decidable (_/\_))
def gY(a:be):List Tm:=[aZ a.aW a.size,aZ a.aA a.size]
def jA(t:bC):List Tm:=gY t.x++gY t.y++gY t.z
def cX(l:a9):List Tm:=jA l.point++jA l.way
def CH(l:a9):Prop:=∀u∈cX l,u4 u
instance(l:a9):Decidable (CH l):=inferInstanceAs (Decidable (∀u∈cX l,u4 u))
def JD(u:Tm):List Nat:=fC u.1 u.2
def gq(line p:Nat):List cJ->a9->Option (List a9×Int)
 |[],_=>some ([],0)
 |q::r,l=>match cj l q line p with
  |.error k=>some ([],k)
  |.ok l'=>if CH l' then (match gq line p r l' with
    |none=>none
    |some y=>some (l'::y.1,y.2)) else none
theorem rF(line p:Nat):∀(qs:List cJ) (l:a9),gq line p qs l=if ∀l'∈(eT line p qs l).1,CH l' then some (eT line p qs l) else none
 |[],l=>by
  rw[gq,eT,if_pos];intro l' h;cases h
 |q::r,l=>by
  rw[gq,eT];cases e:cj l q line p with
  |error k =>
   dsimp only;rw[if_pos];intro l' h;cases h
  |ok l' =>
   dsimp only;rw[rF line p r l']
   by_cases c:CH l'
   ·rw[if_pos c]
    by_cases d:∀Tj∈(eT line p r l').1,CH Tj
    ·rw[if_pos d,if_pos];intro Tj h;rcases List.mem_cons.mp h with z |z
     ·rw[z];exact c
     ·exact d Tj z
    ·rw[if_neg d,if_neg];exact λz=>d λTj h=>z Tj (List.mem_cons_of_mem _ h)
   ·rw[if_neg c,if_neg];exact λz=>c (z l' List.mem_cons_self)
theorem Az{t d:Int}{p:Nat}(hd:d=2^p)(hp:p<=256)(h:(aZ t d).1.natAbs<2^4096):t.natAbs<2^5000:=by
 unfold aZ at h;dsimp only at h;have hg:(Int.gcd t d:Int)∣t:=Int.gcd_dvd_left t d;have KE:Int.gcd t d∣d.natAbs:=by
  have:=Int.gcd_dvd_right t d;exact Int.ofNat_dvd_left.mp this
 have VZ:d.natAbs=2^p:=by
  rw[hd,Int.natAbs_pow];rfl
 rw[VZ] at KE;have hle:=Nat.le_of_dvd (Nat.pow_pos d_) KE;have e:t.natAbs=(t / (Int.gcd t d:Int)).natAbs*Int.gcd t d:=by
  have h1:=Int.ediv_mul_cancel hg;have h2:=congrArg Int.natAbs h1;rw[Int.natAbs_mul,Int.natAbs_natCast] at h2;exact h2.symm
 rw[e];have q1:(t / (Int.gcd t d:Int)).natAbs*Int.gcd t d<=2^4096*2^p:=Nat.mul_le_mul (Nat.le_of_lt h) hle;have q2:2^4096*2^p<2^5000:=by
  rw[<-Nat.pow_add];exact Nat.pow_lt_pow_right d_ o_
 omega
theorem uE{a:be}{p:Nat}(hd:a.size=2^p)(hp:p<=256)(h:∀u∈gY a,u4 u):Bd 5000 a:=by
 refine⟨Az hd hp (h _ (by unfold gY;simp)).1,?_,?_⟩
 ·have:=(h (aZ a.aA a.size) (by unfold gY;simp)).1;exact Az hd hp this
 ·rw[hd,Int.natAbs_pow];exact Nat.pow_lt_pow_right d_ o_
structure Tk(p:Nat)(t:bC):Prop where
 x:t.x.size=2^p
 y:t.y.size=2^p
 z:t.z.size=2^p
theorem AA{t:bC}{p:Nat}(hd:Tk p t)(hp:p<=256)(h:∀u∈jA t,u4 u):h9 5000 t :=
 ⟨uE hd.x hp λu hu=>h u (by unfold jA;simp [hu]),uE hd.y hp λu hu=>h u (by unfold jA;simp [hu]),uE hd.z hp λu hu=>h u (by unfold jA;simp [hu])⟩
theorem wU(a:bC)(t:be)(b:bC)(p:Nat):Tk p (cv a t b p):=⟨rfl,rfl,rfl⟩
theorem CJ(a:bC)(p:Nat):Tk p (ft a p):=⟨rfl,rfl,rfl⟩
structure PZ(l:a9)(q:cJ)(line p:Nat)(l':a9):Prop where
 pt:Tk p l'.point
 way:l'.way=l.way\/Tk p l'.way
 ix:l'.index=l.index\/∃g,q.kind=.surface g/\l'.index=g.getD line (ap 1)
theorem Gr{l:a9}{q:cJ}{line p:Nat}{l':a9}(h:cj l q line p=.ok l'):PZ l q line p l':=by
 unfold cj at h;unfold gp at h;split at h
 ·cases h
 ·rename_i pt hm;split at hm
  ·cases hm
  ·cases hm;have S:=wU (ia l q p) (by assumption) l.way p;generalize cv (ia l q p) _ l.way p=pt at *;unfold pi at h;split at h
   ·cases h
   ·split at h
    ·cases h
    ·split at h
     ·cases h
     ·split at h
      ·cases h;exact⟨S,.inl rfl,.inl rfl⟩
      ·split at h
       ·cases h
       ·cases h;exact⟨S,.inr (wU _ _ _ _),.inl rfl⟩
      ·rename_i g hk;split at h
       ·cases h
       ·split at h
        ·cases h
        ·rename_i w hb;cases h;unfold vC at hb;split at hb
         ·cases hb
         ·cases hb;exact⟨S,.inr (CJ _ _),.inr ⟨g,hk,rfl⟩⟩
theorem CM{l:a9}{q:cJ}{line p:Nat}{l':a9}(L:ym l)(F:Aq q)(hg:∀g,q.kind=.surface g->line<g.length)(hp:p<=256)(h:cj l q line p=.ok l')(op:l'.point.Ok)(ow:l'.way.Ok)(ok:CH l'):ym l':=by
 obtain⟨h1,h2,h3⟩:=Gr h;refine⟨op,ow,AA h1 hp λu hu=>ok u (by unfold cX;exact List.mem_append_left _ hu),?_,?_,?_⟩
 ·rcases h2 with z |z
  ·rw[z];exact L.bw
  ·exact AA z hp λu hu=>ok u (by unfold cX;exact List.mem_append_right _ hu)
 ·rcases h3 with z |⟨g,k,z⟩
  ·rw[z];exact L.oi
  ·rw[z];have hl:=hg g k;rw[List.getD_eq_getElem?_getD,List.getElem?_eq_getElem hl,Option.getD_some];exact(F.glass g k _ (List.getElem_mem hl)).1
 ·rcases h3 with z |⟨g,k,z⟩
  ·rw[z];exact L.bi
  ·rw[z];have hl:=hg g k;rw[List.getD_eq_getElem?_getD,List.getElem?_eq_getElem hl,Option.getD_some];exact(F.glass g k _ (List.getElem_mem hl)).2.1
theorem nN{v:be}{q:Rat}(h:NZ v q):aV v=false:=by
 have:=(yk h.n).mp h.one;have:=h.n.ok.pos;exact gy o_
theorem yC{m:List Glass}{x:List be}{k:Nat}(h:yu m x k):x.length=3/\∀v∈x,v.Ok/\Bd 2000 v/\aV v=false:=by
 obtain⟨⟨g,hg,a,b,c,qa,qb,qc,rfl,_,ha,hb,hc⟩,Sx⟩:=h;refine⟨rfl,λv hv=>?_⟩;have h1:=Sx v hv;simp only[List.mem_cons,List.not_mem_nil,or_false] at hv;rcases hv with rfl |rfl |rfl
 ·exact⟨ha.n.ok,h1.aw d_,nN ha⟩
 ·exact⟨hb.n.ok,h1.aw d_,nN hb⟩
 ·exact⟨hc.n.ok,h1.aw d_,nN hc⟩
theorem EF{s:System_}{x:List be}{k line:Nat}(h:yu s.glasses x k)(hl:line<=2):bK (x.getD line (ap 1)) (s.glassIndex k line)/\1<=s.glassIndex k line:=by
 obtain⟨⟨g,hg,a,b,c,qa,qb,qc,rfl,e,ha,hb,hc⟩,_⟩:=h;have e1:s.glassIndex k line=[qa,qb,qc].getD line 1:=by
  unfold System_.glassIndex;rw[show (s.glasses.map λ(x:Glass)=>x.index).getD k []=g.index by rw[List.getD_eq_getElem?_getD,List.getElem?_map,hg];rfl,e]
 rw[e1]
 match line,hl with
 |0,_=>exact⟨ha.n,ha.one⟩
 |1,_=>exact⟨hb.n,hb.one⟩
 |2,_=>exact⟨hc.n,hc.one⟩
theorem EG{s:System_}{q:bB}{e:Elem}{line:Nat}(h:yz s.glasses q e)(hl:line<=2):ud s line q.2 e:=by
 refine⟨h.gap.n,h.sh.is,h.pX.is,?_⟩;have hk:=h.kind;cases e1:q.2.kind with
 |surface g =>
  rw[e1] at hk;cases e2:e.kind with
  |surface k =>
   rw[e2] at hk;exact EF hk hl
  |_=>rw[e2] at hk;exact hk.elim
 |mirror =>
  rw[e1] at hk;cases e2:e.kind with
  |mirror=>trivial
  |_=>rw[e2] at hk;exact hk.elim
 |gj =>
  rw[e1] at hk;cases e2:e.kind with
  |halt_=>trivial
  |_=>rw[e2] at hk;exact hk.elim
theorem Gs{m:List Glass}{q:bB}{e:Elem}(h:yz m q e):Aq q.2/\∀g,q.2.kind=.surface g->g.length=3:=by
 have hk:∀g,q.2.kind=.surface g->∃k,yu m g k:=λg z=>by
  have hk:=h.kind;rw[z] at hk;cases e2:e.kind with
  |surface k=>rw[e2] at hk;exact⟨k,hk⟩
  |_=>rw[e2] at hk;exact hk.elim
 refine⟨⟨h.gap.n.ok,h.gap.bd.aw d_,⟨_,_,h.sh.is⟩,⟨h.sh.bd.c.aw d_,h.sh.bd.k.aw d_⟩,λc z=>⟨(h.pX.bd c z).1,(h.pX.bd c z).2.aw d_⟩,λg z i hi=>?_⟩,λg z=>?_⟩
 ·obtain⟨k,hk⟩:=hk g z;exact(yC hk).2 i hi
 ·obtain⟨k,hk⟩:=hk g z;exact(yC hk).1
def fE(ls:List a9):List Nat:=dY ((ls.flatMap cX).map JD)
def iL(line p:Nat)(t x y u v:Bytes):List Int :=
 if 2<line\/256<p\/65536<t.length then [-1] else
 match az x,az y,az u,az v with
 |some a,some b,some c,some d=>(match gX t with
  |.error e=>[-3,(e.2:Int),(e.1:Int)]
  |.ok s=>match gq line p (s.2.map (·.2)) (cA a b c d (s.1.getD line (ap 1)) p) with
   |none=>[-6]
   |some y=>[((fE y.1).length:Int),(y.1.length:Int),y.2]++(fE y.1).map λ(c:Nat)=>(c:Int))
 |_,_,_,_=>[-1]
theorem AB{l:a9}{b:Beam}(h:jK l b):cX l=(LensE.beamNums b).map λ(q:Rat)=>((q.num,(q.den:Int)):Tm):=by
 have e1:∀{a:be},a.Ok->gY a=[((a.iv.lo.num,(a.iv.lo.den:Int)):Tm),(a.iv.hi.num,(a.iv.hi.den:Int))]:=λ{a} ha=>by
  unfold gY;rw[(wC ha.pos).1,(wC ha.pos).2]
 unfold LensE.beamNums;rw[<-h.Ym,<-h.FY];unfold cX jA;rw[e1 h.pt.x,e1 h.pt.y,e1 h.pt.z,e1 h.way.x,e1 h.way.y,e1 h.way.z];rfl
theorem wV:∀(ls:List a9) (bs:List Beam),ls.length=bs.length->(∀(j:Nat) (l:a9) (b:Beam),ls[j]?=some l->bs[j]?=some b->jK l b)->ls.flatMap cX=(bs.flatMap LensE.beamNums).map λ(q:Rat)=>((q.num,(q.den:Int)):Tm)
 |[],[],_,_=>rfl
 |[],_::_,h,_=>by cases h
 |_::_,[],h,_=>by cases h
 |l::ls,b::bs,h,k=>by
  rw[List.flatMap_cons,List.flatMap_cons,List.map_append,AB (k 0 l b rfl rfl),wV ls bs (Nat.succ.inj h) λj l' b' h1 h2=>k (j+1) l' b' h1 h2]
theorem Mo{ls:List a9}{qs:List Rat}(h:ls.flatMap cX=qs.map λ(q:Rat)=>((q.num,(q.den:Int)):Tm)):(∀l∈ls,CH l)↔qs.all Num.tellable=true:=by
 have e:(∀l∈ls,CH l)↔∀u∈ls.flatMap cX,u4 u:=by
  constructor
  ·intro z u hu;obtain⟨l,hl,hu⟩:=List.mem_flatMap.mp hu;exact z l hl u hu
  ·intro z l hl u hu;exact z u (List.mem_flatMap.mpr ⟨l,hl,hu⟩)
 rw[e,h,List.all_eq_true]
 constructor
 ·intro z q hq;have:=z _ (List.mem_map.mpr ⟨q,hq,rfl⟩);exact(pj q).mpr ⟨this.1,by have:=this.2;rwa [Int.natAbs_natCast] at this⟩
 ·intro z u hu;obtain⟨q,hq,rfl⟩:=List.mem_map.mp hu;have:=(pj q).mp (z q hq);exact⟨this.1,by show (((q.den:Nat):Int)).natAbs<_;rw[Int.natAbs_natCast];exact this.2⟩
theorem JE{ls:List a9}{qs:List Rat}(h:ls.flatMap cX=qs.map λ(q:Rat)=>((q.num,(q.den:Int)):Tm)):fE ls=(Num.listText qs).map UInt8.toNat:=by
 unfold fE;rw[h,uj,List.map_map];rfl
theorem AC{s:System_}{x:List be}{line:Nat}{a b c d:be}{p:Nat}(h:yu s.glasses x s.start)(hl:line<=2):At s line 0 (cA a b c d (x.getD line (ap 1)) p):=by
 obtain⟨h1,h2⟩:=EF h hl;refine⟨.inl rfl,?_,h1,h2⟩;show Hm 1=s.sign 0;rfl
theorem iX{a:LensE.From}(h:LensE.numOf a.x=none\/LensE.numOf a.y=none\/LensE.numOf a.u=none\/LensE.numOf a.v=none):LensE.beginOf a=none:=by
 unfold LensE.beginOf;rcases h with h |h |h |h
 ·rw[h]
 ·rw[h];cases LensE.numOf a.x <;> rfl
 ·rw[h];cases LensE.numOf a.x <;> cases LensE.numOf a.y <;> rfl
 ·rw[h];cases LensE.numOf a.x <;> cases LensE.numOf a.y <;> cases LensE.numOf a.u <;> rfl
theorem yD(line p:Nat)(t x y u v:Bytes):LensENeutral.shown (LensE.answer (.trace t line ⟨x,y,u,v⟩ p))=iL line p t x y u v:=by
 have hx:=iz x;have hy:=iz y;have hu:=iz u;have hv:=iz v;have kE:LensE.beginOf ⟨x,y,u,v⟩=none->LensENeutral.shown (LensE.answer (.trace t line ⟨x,y,u,v⟩ p))=[-1]:=λz=>by
  unfold LensE.answer;dsimp only;rw[z];rfl
 have wW:∀{b:LensE.Begin},LensE.beginOf ⟨x,y,u,v⟩=some b->LensENeutral.shown (LensE.answer (.trace t line ⟨x,y,u,v⟩ p))=LensENeutral.shown (if LINES<=line\/LensE.FINE<p then LensE.number (-1) else LensE.withSystem t λs =>
   if ((traced p s line b.x b.y b.u b.v).1.flatMap LensE.beamNums).all Num.tellable=false then LensE.number (-6) else ⟨((Num.listText ((traced p s line b.x b.y b.u b.v).1.flatMap LensE.beamNums)).length:Int),[((traced p s line b.x b.y b.u b.v).1.length:Int),(LensE.endNum (traced p s line b.x b.y b.u b.v).2:Int)],Num.listText ((traced p s line b.x b.y b.u b.v).1.flatMap LensE.beamNums)⟩):=λ{b} z=>by
  conv=>lhs;unfold LensE.answer
  dsimp only;rw[z]
 unfold iL
 by_cases c0:2<line\/256<p\/65536<t.length
 ·rw[if_pos c0];cases e:LensE.beginOf ⟨x,y,u,v⟩ with
  |none=>exact kE e
  |some b =>
   rw[wW e]
   by_cases c1:LINES<=line\/LensE.FINE<p
   ·rw[if_pos c1];rfl
   ·rw[if_neg c1];unfold LensE.withSystem;have c2:LensE.BYTES<t.length:=by
     unfold LINES LensE.FINE at c1;unfold LensE.BYTES;omega
    rw[if_pos c2];rfl
 rw[if_neg c0];have cl:line<=2:=by omega
 cases ex:az x with
 |none =>
  rw[ex] at hx;exact kE (iX (.inl hx))
 |some a =>
 cases ey:az y with
 |none =>
  rw[ey] at hy;exact kE (iX (.inr (.inl hy)))
 |some b =>
 cases eu:az u with
 |none =>
  rw[eu] at hu;exact kE (iX (.inr (.inr (.inl hu))))
 |some c =>
 cases ev:az v with
 |none =>
  rw[ev] at hv;exact kE (iX (.inr (.inr (.inr hv))))
 |some d =>
 rw[ex] at hx;rw[ey] at hy;rw[eu] at hu;rw[ev] at hv;obtain⟨x1,x2,_⟩:=hx;obtain⟨y1,y2,_⟩:=hy;obtain⟨u1,u2,_⟩:=hu;obtain⟨v1,v2,_⟩:=hv;generalize (a.aW:Rat) / (a.size:Rat)=qx at *;generalize (b.aW:Rat) / (b.size:Rat)=qy at *;generalize (c.aW:Rat) / (c.size:Rat)=qu at *;generalize (d.aW:Rat) / (d.size:Rat)=qv at *;have eb:LensE.beginOf ⟨x,y,u,v⟩=some ⟨qx,qy,qu,qv⟩:=by
  unfold LensE.beginOf;dsimp only;rw[x2,y2,u2,v2]
 rw[wW eb,if_neg (by unfold LINES LensE.FINE;omega)];unfold LensE.withSystem;rw[if_neg (by unfold LensE.BYTES;omega)];dsimp only;have R:=yB t;cases es:gX t with
 |error e =>
  rw[es] at R;have R:Text.read t=.error e:=R;rw[R];rfl
 |ok s =>
  rw[es] at R;obtain⟨S,hS,R⟩:=R;rw[R];dsimp only;have P0:∀(j:Nat) (q:cJ),(s.2.map (·.2))[j]?=some q->∃e,S.elems[0+j]?=some e/\ud S line q e:=λj q hq=>by
   rw[List.getElem?_map] at hq;cases z:s.2[j]? with
   |none=>rw[z] at hq;cases hq
   |some q' =>
    rw[z] at hq;have:q'.2=q:=Option.some.inj hq;subst this;obtain⟨e,he,hr⟩:=dF.get hS.kl j q' z;exact⟨e,by rw[Nat.zero_add];exact he,EG hr cl⟩
  have T:=Ai (s:=S) (line:=line) (p:=p) (s.2.map (·.2)) 0 (cA a b c d (s.1.getD line (ap 1)) p) (beamFrom p qx qy qu qv) P0 (uh p x1 y1 u1 v1) (AC hS.UQ cl);have Cj:(s.2.map (·.2)).length=S.count:=by
   rw[List.length_map];exact dF.len hS.kl
  rw[Cj] at T;have et:traced p S line qx qy qu qv=beams p S line S.count 0 (beamFrom p qx qy qu qv):=rfl;rw[et];generalize beams p S line S.count 0 (beamFrom p qx qy qu qv)=B at *;have Ad:=T.Ad;have len:=T.len;have Je:=T.Je;rw[rF];rw[show beams p S line S.count 0 (beamFrom p qx qy qu qv)=B by assumption] at Ad len Je;generalize eT line p (s.2.map (·.2)) (cA a b c d (s.1.getD line (ap 1)) p)=F at *;have flat:=wV F.1 B.1 len λj l b' h1 h2=>(Je j l b' h1 h2).1;have ok:=Mo flat
  by_cases z:(B.1.flatMap LensE.beamNums).all Num.tellable=true
  ·rw[if_neg (by rw[z];decide),if_pos (ok.mpr z)];dsimp only;rw[JE flat,List.length_map,Ad,len,List.map_map];rfl
  ·rw[if_pos (by simpa using z),if_neg λy=>z (ok.mp y)];rfl
structure AD(S:System_)(line p:Nat)(qs:List cJ)(l:a9):Prop where
 on:∃i b,(∀(j:Nat) (q:cJ),qs[j]?=some q->∃e,S.elems[i+j]?=some e/\ud S line q e)/\jK l b/\At S line i l
 fit:ym l
 kl:∀q∈qs,Aq q/\∀g,q.kind=.surface g->line<g.length
theorem CO{S:System_}{line p:Nat}{q:cJ}{qs:List cJ}{l l':a9}(h:AD S line p (q::qs) l)(hp:p<=256)(e:cj l q line p=.ok l')(ok:CH l'):AD S line p qs l':=by
 obtain⟨⟨i,b,h1,h2,h3⟩,hf,hq⟩:=h;obtain⟨el,he,JF⟩:=h1 0 q rfl;rw[Nat.add_zero] at he;have B:=lX (p:=p) he JF h2 h3;rw[e] at B;cases y:beamStep p S line i b with
 |error w=>rw[y] at B;exact B.elim
 |ok b' =>
  rw[y] at B;obtain⟨B1,B2⟩:=B;refine⟨⟨i+1,b',λj q' hj=>?_,B1,B2⟩,?_,λq' u0=>hq q' (List.mem_cons_of_mem _ u0)⟩
  ·obtain⟨e',Wr,Rc⟩:=h1 (j+1) q' hj;exact⟨e',by rw[<-Wr];congr 1;omega,Rc⟩
  ·obtain⟨q1,q2⟩:=hq q List.mem_cons_self;exact CM hf q1 q2 hp e B1.pt B1.way ok
theorem Gu{v:be}(h:v.aW.natAbs<10^18)(h2:v.size.natAbs<10^18)(e:v.aW=v.aA):Bd 100 v:=by
 have:(10:Nat)^18<2^100:=by decide
 exact⟨by omega,by rw[<-e];omega,by omega⟩
theorem Gv{b:Bytes}{v:be}(h:az b=some v):v.aW=v.aA:=by
 unfold az at h;split at h
 ·cases h
 ·split at h
  ·cases h
  ·dsimp only at h;split at h
   ·cases h
   ·cases h;rfl
theorem gz{b:Bytes}{v:be}(h:az b=some v):∃q,bK v q/\Bd 100 v:=by
 have s:=iz b;rw[h] at s;obtain⟨h1,_,h3,h4⟩:=s;exact⟨_,h1,Gu h3 h4 (Gv h)⟩
theorem AE{t x y u v:Bytes}{s:List be×List bB}{a b c d:be}{line p:Nat}(hs:gX t=.ok s)(hl:line<=2)(hp:p<=256)(hx:az x=some a)(hy:az y=some b)(hu:az u=some c)(hv:az v=some d) :
  ∃S,AD S line p (s.2.map (·.2)) (cA a b c d (s.1.getD line (ap 1)) p):=by
 have R:=yB t;rw[hs] at R;obtain⟨S,hS,_⟩:=R;obtain⟨qx,x1,x2⟩:=gz hx;obtain⟨qy,y1,y2⟩:=gz hy;obtain⟨qu,u1,u2⟩:=gz hu;obtain⟨qv,v1,v2⟩:=gz hv;obtain⟨m1,m2⟩:=yC hS.UQ;have fS:line<s.1.length:=by omega
 have m3:=m2 _ (List.getElem_mem fS);have eg:s.1.getD line (ap 1)=s.1[line]:=by rw[List.getD_eq_getElem?_getD,List.getElem?_eq_getElem fS,Option.getD_some]
 refine⟨S,⟨⟨0,beamFrom p qx qy qu qv,λj q hq=>?_,uh p x1 y1 u1 v1,AC hS.UQ hl⟩,?_,λq hq=>?_⟩⟩
 ·rw[List.getElem?_map] at hq;cases z:s.2[j]? with
  |none=>rw[z] at hq;cases hq
  |some q' =>
   rw[z] at hq;have:q'.2=q:=Option.some.inj hq;subst this;obtain⟨e,he,hr⟩:=dF.get hS.kl j q' z;exact⟨e,by rw[Nat.zero_add];exact he,EG hr hl⟩
 ·rw[eg];exact Cv x1 y1 u1 v1 x2 y2 u2 v2 m3.1 m3.2.1 hp
 ·obtain⟨q',u0,rfl⟩:=List.mem_map.mp hq;obtain⟨j,hj⟩:=List.mem_iff_getElem?.mp u0;obtain⟨e,_,hr⟩:=dF.get hS.kl j q' hj;obtain⟨f1,f2⟩:=Gs hr;exact⟨f1,λg z=>by rw[f2 g z];omega⟩
theorem wX{b:Bytes}{l:List bG}:∀(f:Nat) {ps:List bB} {i j:Nat} {qs:List bB},ps.length<=64->fN b l f ps i=.ok (qs,j)->qs.length<=64
 |0,ps,i,j,qs,h,e=>by
  unfold fN at e;cases e;exact h
 |f+1,ps,i,j,qs,h,e=>by
  unfold fN at e;split at e
  ·cases e;exact h
  ·unfold bd at e;split at e
   ·cases e
   ·rename_i y q;obtain⟨q',j'⟩:=y;have:=qP q;rw[List.length_map] at this;exact wX f (by rw[List.length_append,List.length_singleton];omega) e
theorem CQ{t:Bytes}{s:List be×List bB}(h:gX t=.ok s):s.2.length<=64/\s.1.length=3:=by
 have R:=yB t;rw[h] at R;obtain⟨S,hS,_⟩:=R;refine⟨?_,(yC hS.UQ).1⟩;unfold gX at h;split at h
 ·cases h
 ·split at h
  ·split at h
   ·cases h
   ·rename_i y q;cases h;unfold bd at q;split at q
    ·cases q
    ·try dsimp only at q
     split at q
     ·cases q
     ·try dsimp only at q
      split at q
      ·cases q
      ·try dsimp only at q
       split at q
       ·cases q
       ·try dsimp only at q
        split at q
        ·cases q
        ·rename_i z hz;cases q;exact wX 65538 (Nat.zero_le _) hz
  ·cases h
theorem dn{α γ:Type}(b:Bytes)(i:Nat)(a:α)(k:α->Nat->Except Text.Fault (γ×Nat)):bd (l4 b i a) k=match mP b i with
  |.error e=>.error e
  |.ok j=>k a j:=by
 unfold bd l4;cases mP b i <;> rfl
theorem JG{b:Bytes}{i:Nat}(h:∀n k p,tk b i≠.num n k p):g8 b i=.error (2,pl b i):=by
 unfold g8;cases q:tk b i with
 |num n k p=>exact absurd q (h n k p)
 |_=>rfl
theorem EH{b:Bytes}{i n k:Nat}(h:tk b i=.num n k true):g8 b i=bd (l4 b i ()) λ_ j=>.ok (ic n k,j):=by
 rw[dn];unfold g8;rw[h]
 try rfl
def Gw(b:Bytes)(n:Nat)(j2:Nat):Except Text.Fault (be×Nat):=match tk b j2 with
 |.num q _ false=>if q=0 then .error (6,pl b j2) else bd (l4 b j2 ()) λ_ j3=>.ok (c9 (ap n) (ap q),j3)
 |_=>.error (2,pl b j2)
theorem JH{b:Bytes}{n j:Nat}(h:∀d k,tk b j≠.num d k false):Gw b n j=.error (2,pl b j):=by
 unfold Gw;split
 ·rename_i d k e;exact absurd e (h d k)
 ·rfl
theorem Mp{b:Bytes}{n j d k:Nat}(h:tk b j=.num d k false):Gw b n j=if d=0 then .error (6,pl b j) else bd (l4 b j ()) λ_ j3=>.ok (c9 (ap n) (ap d),j3):=by
 unfold Gw;rw[h]
theorem yE{b:Bytes}{i n k:Nat}(h:tk b i=.num n k false):g8 b i=bd (l4 b i ()) λ_ j=>if tk b j=.mark 47 then bd (l4 b j ()) λ_ j2=>Gw b n j2 else .ok (ap n,j):=by
 rw[dn];unfold g8;rw[h];dsimp only;cases mP b i with
 |error e=>rfl
 |ok j =>
  dsimp only
  by_cases c:tk b j=.mark 47
  ·rw[if_pos c,if_pos c,dn];cases mP b j with
   |error e=>rfl
   |ok j2 =>
    dsimp only;unfold Gw;cases q:tk b j2 with
    |num d k2 p2 =>
     cases p2 with
     |true=>rfl
     |false =>
      dsimp only
      by_cases z:d=0
      ·rw[if_pos z,if_pos z]
      ·rw[if_neg z,if_neg z,dn]
       try rfl
    |_=>rfl
  ·rw[if_neg c,if_neg c]
theorem Gx(b:Bytes)(i:Nat):gw b i=if tk b i=.mark 45 then bd (l4 b i ()) λ_ j=>bd (g8 b j) λv j2=>.ok (br v,j2) else g8 b i:=by
 unfold gw
 by_cases c:tk b i=.mark 45
 ·rw[if_pos c,if_pos c,dn];cases mP b i with
  |error e=>rfl
  |ok j =>
   dsimp only;unfold bd;cases g8 b j <;> rfl
 ·rw[if_neg c,if_neg c]
def qQ(b:Bytes)(cs:List UInt8)(i:Nat):Except Text.Fault (List be×Nat):=cs.foldl (λm c=>bd m λxs j=>bd (gh b c j) λx j2=>.ok (xs++[x],j2)) (.ok ([],i))
theorem JI(b:Bytes)(cs:List UInt8)(c:UInt8)(i:Nat):qQ b (cs++[c]) i=bd (qQ b cs i) λxs j=>bd (gh b c j) λx j2=>.ok (xs++[x],j2):=by
 unfold qQ;rw[List.foldl_append];rfl
theorem Mq{b:Bytes}{cs:List UInt8}{i:Nat}{e:Text.Fault}(h:qQ b cs i=.error e):∀ds:List UInt8,qQ b (cs++ds) i=.error e:=by
 intro ds;unfold qQ at h ⊢;rw[List.foldl_append,h]
 induction ds with
 |nil=>rfl
 |cons d ds ih =>
  rw[List.foldl_cons];exact ih
theorem CU(b:Bytes)(l:List bG)(i:Nat):ie b l i=if l.length<64 then
  bd (dA b (.word (ascii "glass")) i) λ_ i1=>bd (nH b gv (λn=>decide (n∉l.map (·.1))) 3 i1) λn i2=>bd (dA b (.mark 58) i2) λ_ i3=>bd (qQ b [44,44,59] i3) λxs i6=>.ok ((n,xs),i6)
  else .error (5,pl b i):=by
 unfold ie;congr 1;congr 1;funext _ i1;congr 1;funext n i2;congr 1;funext _ i3;unfold qQ;simp only[List.foldl_cons,List.foldl_nil,eZ,List.nil_append,pz,List.cons_append]
def ly:List Bytes->Option (List be)
 |[]=>some []
 |b::r=>match az b with
  |none=>none
  |some v=>match ly r with
   |none=>none
   |some vs=>some (v::vs)
theorem wY(b:Bytes):∀l:List Bytes,ly (l++[b])=match ly l with
  |none=>none
  |some xs=>match az b with
   |none=>none
   |some v=>some (xs++[v])
 |[]=>by
  show (match az b with |none=>none |some v=>some [v])=match az b with |none=>none |some v=>some ([]++[v])
  cases az b <;> rfl
 |c::l=>by
  rw[List.cons_append,ly,wY b l,ly];cases az c with
  |none=>rfl
  |some v =>
   dsimp only;cases ly l with
   |none=>rfl
   |some xs =>
    dsimp only;cases az b <;> rfl
theorem wZ{r:List Bytes}:∀{l:List Bytes},ly l=none->ly (l++r)=none
 |[],h=>by cases h
 |c::l,h=>by
  rw[List.cons_append,ly];rw[ly] at h;cases e:az c with
  |none=>rfl
  |some v =>
   rw[e] at h;dsimp only at h ⊢;cases e2:ly l with
   |none=>rw[wZ (l:=l) e2]
   |some xs=>rw[e2] at h;cases h
theorem N7(x y u v:Bytes):ly [x,y,u,v]=match az x,az y,az u,az v with
  |some a,some b,some c,some d=>some [a,b,c,d]
  |_,_,_,_=>none:=by
 simp only[ly];cases az x <;> cases az y <;> cases az u <;> cases az v <;> rfl
def uF(line p n:Nat)(bs:List Bytes):Option (List be):=if 2<line\/256<p\/65536<n then none else ly bs
def JJ(line p:Nat)(t:Bytes)(a b c d:be):List Int:=match gX t with
 |.error e=>[-3,(e.2:Int),(e.1:Int)]
 |.ok s=>match gq line p (s.2.map (·.2)) (cA a b c d (s.1.getD line (ap 1)) p) with
  |none=>[-6]
  |some y=>[((fE y.1).length:Int),(y.1.length:Int),y.2]++(fE y.1).map λ(c:Nat)=>(c:Int)
theorem CV{line p:Nat}{t x y u v:Bytes}(h:uF line p t.length [x,y,u,v]=none):iL line p t x y u v=[-1]:=by
 unfold uF at h;unfold iL
 by_cases c:2<line\/256<p\/65536<t.length
 ·rw[if_pos c]
 ·rw[if_neg c] at h ⊢;rw[N7] at h;cases ex:az x <;> cases ey:az y <;> cases eu:az u <;> cases ev:az v <;> rw[ex,ey,eu,ev] at h <;> first |rfl |cases h
theorem CW{line p:Nat}{t x y u v:Bytes}{l:List be}(h:uF line p t.length [x,y,u,v]=some l):∃a b c d,l=[a,b,c,d]/\az x=some a/\az y=some b/\az u=some c/\az v=some d/\line<=2/\p<=256/\iL line p t x y u v=JJ line p t a b c d:=by
 unfold uF at h;unfold iL JJ
 by_cases c:2<line\/256<p\/65536<t.length
 ·rw[if_pos c] at h;cases h
 ·rw[if_neg c] at h ⊢;rw[N7] at h;cases ex:az x with
  |none=>rw[ex] at h;cases h
  |some a =>
  cases ey:az y with
  |none=>rw[ex,ey] at h;cases h
  |some b =>
  cases eu:az u with
  |none=>rw[ex,ey,eu] at h;cases h
  |some cc =>
  cases ev:az v with
  |none=>rw[ex,ey,eu,ev] at h;cases h
  |some d =>
  rw[ex,ey,eu,ev] at h;cases h;exact⟨a,b,cc,d,rfl,rfl,rfl,rfl,rfl,by omega,by omega,rfl⟩
end My
end
section
namespace Pg
open PySem PySem.Spec PyProof.Rows L2
def top(i:Nat):Stmt:=PySem.Challenge.pw_enclosedrays_s01_trace.main.body.getD i (.Pass ⟨0,0,0,0⟩)
abbrev nI:List Str:=["low","high","size"]
def Iv(C:Addr)(a:My.be):Rv:=λv H=>∃p dx,v=.ref p/\H p=some (.g9 C dx (fL nI [.int a.aW,.int a.aA,.int a.size] []))
theorem Iv.ak{C:Addr}{a:My.be}:Mon (Iv C a):=λ_ _ _ s ⟨p,dx,e,h⟩=>⟨p,dx,e,s _ _ h⟩
abbrev sI:Stmt:=fQ (top 1) 0
section
variable{P:Program}{w:World}{K:Frag}{mg:Str->Option Value}{base:Heap}{C:Addr}{a b:My.be}
theorem Iv.aW(R:jG K mg "Interval" sI nI C):gu K (Iv C a) "low" (Vi (.int a.aW)):=λv H ⟨p,dx,e,h⟩=>⟨p,C,dx,_,_,e,h,R.cl,R.no _ d_,by unfold fL fL fL fL;rw[df,if_neg d_,df,if_neg d_,df,if_pos rfl],rfl⟩
theorem Iv.aA(R:jG K mg "Interval" sI nI C):gu K (Iv C a) "high" (Vi (.int a.aA)):=λv H ⟨p,dx,e,h⟩=>⟨p,C,dx,_,_,e,h,R.cl,R.no _ d_,by unfold fL fL fL fL;rw[df,if_neg d_,df,if_pos rfl],rfl⟩
theorem Iv.size(R:jG K mg "Interval" sI nI C):gu K (Iv C a) "size" (Vi (.int a.size)):=λv H ⟨p,dx,e,h⟩=>⟨p,C,dx,_,_,e,h,R.cl,R.no _ d_,by unfold fL fL fL fL;rw[df,if_pos rfl],rfl⟩
theorem scI:dQ ["self","low","high","size"] ["self","low","high","size"] (ax sI):=⟨rfl,rfl,rfl,by decide +kernel,rfl,by decide +kernel,by decide +kernel⟩
theorem Wx(R:jG K mg "Interval" sI nI C):lm P w K mg base "Interval" nI C:=R.oF λq f fd F=>by
 refine F.KC scI (λvs H Q E h=>?_) (λbL A ai s H vs Q E hr h=>?_)
 ·obtain⟨p,dx,ys,rfl,hl,_⟩:=h;exact congrArg (·+1) hl
 ·obtain⟨p,dx,ys,rfl,hl,hp,k⟩:=h
  match ys,hl with
  |[y0,y1,y2],_ =>
  refine⟨_,pD,?_⟩;refine af (cK (i:=1) (j:=0) rfl rfl hp R.cl (R.no _ d_) d_ ?_);refine af (cK (i:=2) (j:=0) rfl rfl aC R.cl (R.no _ d_) (oh d_) ?_);refine af (cK (i:=3) (j:=0) rfl rfl aC R.cl (R.no _ d_) (oh (oh d_)) ?_);refine aJ (k _ aC λb o e hb=>?_);rw[aB hb,aB hb,aB hb];exact e
theorem m5{j:Nat}{X:Cx}{σ:L2.St}{H:Hp}{e1 e2 e3:Expr}{l h s:Int}{p pos:Pos}(R:jG X.K X.mg "Interval" sI nI C)(hr:cx j X.A)(h1:Yd X σ H e1 (Vi (.int l)))(h2:Yd X σ H e2 (Vi (.int h)))(h3:Yd X σ H e3 (Vi (.int s)))(hg:Gl X "Interval":=by rfl)(jX:2<=j:=by decide)
  (s1:starEach [e1,e2,e3] X.env=(false,eval e1 X.env)::starEach [e2,e3] X.env:=by rfl)(s2:starEach [e2,e3] X.env=(false,eval e2 X.env)::starEach [e3] X.env:=by rfl)(s3:starEach [e3] X.env=(false,eval e3 X.env)::starEach [] X.env:=by rfl)
  (d9:(backTo pos (starEach [e2,e3] X.env)).any (·.1)=false:=by rfl):Yd X σ H (.Call (.Name "Interval" p) [e1,e2,e3] [] pos) (Iv C ⟨l,h,s⟩) :=
 Ee (Wx R) hr hg (aa h1 v_ (aa h2 v_ (aa h3 v_ ag s3) s2) s1) ⟨Vi.ak _,Vi.ak _,Vi.ak _,trivial⟩ rfl (λp dx ys H ha hp=>by
  match ys,ha with
  |[y0,y1,y2],⟨e0,e1,e2,_⟩ =>
   subst e0 e1 e2;exact⟨p,dx,rfl,hp⟩) jX d_ s1 d9
end
structure Ti(K:Frag)(mg:Str->Option Value)(C:Addr):Prop where
 R:jG K mg "Interval" sI nI C
 number:fA K mg "number" (top 2) ["top","bottom"]
 ap:fA K mg "whole" (top 3) ["value"]
 aV:fA K mg "has_zero" (top 4) ["a"]
 br:fA K mg "negative" (top 5) ["a"]
 cy:fA K mg "plus" (top 6) ["a","b"]
 dM:fA K mg "minus" (top 7) ["a","b"]
 aO:fA K mg "times" (top 8) ["a","b"]
 ao:fA K mg "square" (top 9) ["a"]
 c9:fA K mg "over" (top 10) ["a","b"]
 bZ:fA K mg "signed" (top 11) ["a","sign"]
 kU:fA K mg "is_above" (top 12) ["top","bottom","a"]
 cu:fA K mg "floor_share" (top 13) ["top","bottom"]
 cQ:fA K mg "ceiling_share" (top 14) ["top","bottom"]
 outward:fA K mg "outward" (top 15) ["a","p"]
 aq:fA K mg "floor_root" (top 16) ["value"]
 dO:fA K mg "ceiling_root" (top 17) ["value"]
 gJ:fA K mg "root" (top 18) ["a","p"]
 mn:mg "min"=none
 mx:mg "max"=none
section
variable{P:Program}{w:World}{K:Frag}{mg:Str->Option Value}{base:Heap}{C:Addr}
theorem fR{p:Prop}(h:p:=by exact⟨rfl,rfl,rfl,by decide +kernel,rfl,by decide +kernel,by decide +kernel⟩):p:=h
theorem lf(T:Ti K mg C)(t b:Int):fq P w K mg base "number" 3 ["top","bottom"] (jx [Vi (.int t),Vi (.int b)] (Iv C (My.number t b))):=by
 refine T.number.pure (N:=["top","bottom"]) fR rfl λf bL A ai s H vs X e hr nd ha=>?_;subst e
 match vs,ha with
 |[_,_],⟨rfl,rfl,_⟩ =>
 exact af (aE (m5 T.R hr (ae 0 rfl rfl v_) (ae 0 rfl rfl v_) (ae 1 rfl rfl v_)) λv H' s r=>⟨s,r⟩)
theorem c7(T:Ti K mg C)(t:Int):fq P w K mg base "whole" 3 ["value"] (jx [Vi (.int t)] (Iv C (My.ap t))):=by
 refine T.ap.pure (N:=["value"]) fR rfl λf bL A ai s H vs X e hr nd ha=>?_;subst e
 match vs,ha with
 |[_],⟨rfl,_⟩ =>
 exact af (aE (m5 T.R hr (ae 0 rfl rfl v_) (ae 0 rfl rfl v_) aH) λv H' s r=>⟨s,r⟩)
theorem ma(T:Ti K mg C)(a:My.be):fq P w K mg base "has_zero" 3 ["a"] (jx [Iv C a] (Vi (.bl (My.aV a)))):=by
 refine T.aV.pure (N:=["a"]) fR rfl λf bL A ai s H vs X e hr nd ha=>?_;subst e
 match vs,ha with
 |[_],⟨ha,_⟩ =>
 exact af (aE (oP lj lj (aj (Iv.aW T.R) (ae 0 rfl ha Iv.ak)) aH (aj (Iv.aA T.R) (ae 0 rfl ha Iv.ak))) λv H' s r=>⟨s,r⟩)
theorem eF(T:Ti K mg C)(a:My.be):fq P w K mg base "negative" 3 ["a"] (jx [Iv C a] (Iv C (My.br a))):=by
 refine T.br.pure (N:=["a"]) fR rfl λf bL A ai s H vs X e hr nd ha=>?_;subst e
 match vs,ha with
 |[_],⟨ha,_⟩ =>
 exact af (aE (m5 T.R hr (jW (aj (Iv.aA T.R) (ae 0 rfl ha Iv.ak))) (jW (aj (Iv.aW T.R) (ae 0 rfl ha Iv.ak))) (aj (Iv.size T.R) (ae 0 rfl ha Iv.ak))) λv H' s r=>⟨s,r⟩)
abbrev vI{X:Cx}{σ:L2.St}{H:Hp}{C:Addr}{a:My.be}{v:V}{x:Str}{pos:Pos}(i:Nat)(h:Iv C a v H)(hs:σ[i]?=some (some v):=by rfl)(hN:X.N[i]?=some x:=by rfl)(hv:uZ X.env.scope x:=by first |exact Or.inl rfl |exact Or.inr (Or.inl rfl) |exact Or.inr (Or.inr rfl))(hd:(x == ("__debug__":Str))=false:=by decide)
  (lA:(x == ("__classdict__":Str))=false:=by decide):Yd X σ H (.Name x pos) (Iv C a):=ae i hs h Iv.ak hN hv hd lA
theorem iM{n m:Nat}{i j:Int}(hi:i.natAbs<2^n)(hj:j.natAbs<2^m)(h:n+m<=134217728):NO i j:=⟨n,m,hi,hj,h⟩
theorem eI(T:Ti K mg C){a b:My.be}{n m:Nat}(ba:My.Bd n a)(bb:My.Bd m b)(By:n+m<=134217728):fq P w K mg base "plus" 3 ["a","b"] (jx [Iv C a,Iv C b] (Iv C (My.cy a b))):=by
 refine T.cy.pure (N:=["a","b"]) fR rfl λf bL A ai s H vs X e hr nd ha=>?_;subst e
 match vs,ha with
 |[_,_],⟨ha,hb,_⟩ =>
 have Yv:m+n<=134217728:=by omega
 refine af (cn (dJ (aj (Iv.size T.R) (vI 0 ha)) (aj (Iv.size T.R) (vI 1 hb)) rfl) (λh H' s1=>?_) (λh H' s1=>aJ ?_))
 ·have h:=of_decide_eq_true h;injection h with h
  refine af (aE ((m5 T.R hr (dw ff (aj (Iv.aW T.R) (vI 0 ha)) (aj (Iv.aW T.R) (vI 1 hb))) (dw ff (aj (Iv.aA T.R) (vI 0 ha)) (aj (Iv.aA T.R) (vI 1 hb))) (aj (Iv.size T.R) (vI 0 ha))).au s1) λv H' s r=>⟨s1.trans s,?_⟩);unfold My.cy;rw[if_pos h];exact r
 ·have h:¬a.size=b.size:=λz=>absurd h (by rw[z];simp);refine af (aE ((m5 T.R hr
   (dw ff (cN cF (aj (Iv.aW T.R) (vI 0 ha)) (aj (Iv.size T.R) (vI 1 hb)) (iM ba.aW bb.size By)) (cN cF (aj (Iv.aW T.R) (vI 1 hb)) (aj (Iv.size T.R) (vI 0 ha)) (iM bb.aW ba.size Yv)))
   (dw ff (cN cF (aj (Iv.aA T.R) (vI 0 ha)) (aj (Iv.size T.R) (vI 1 hb)) (iM ba.aA bb.size By)) (cN cF (aj (Iv.aA T.R) (vI 1 hb)) (aj (Iv.size T.R) (vI 0 ha)) (iM bb.aA ba.size Yv)))
   (cN cF (aj (Iv.size T.R) (vI 0 ha)) (aj (Iv.size T.R) (vI 1 hb)) (iM ba.size bb.size By))).au s1) λv H' s r=>⟨s1.trans s,?_⟩)
  unfold My.cy;rw[if_neg h];exact r
theorem mE(T:Ti K mg C){a b:My.be}{n m:Nat}(ba:My.Bd n a)(bb:My.Bd m b)(By:n+m<=134217728):fq P w K mg base "minus" 4 ["a","b"] (jx [Iv C a,Iv C b] (Iv C (My.dM a b))):=by
 refine T.dM.pure (N:=["a","b"]) fR rfl λf bL A ai s H vs X e hr nd ha=>?_;subst e
 match vs,ha with
 |[_,_],⟨ha,hb,_⟩ =>
 exact af (aE (ah (eI T ba (My.gO bb) By) hr rfl (aa (vI 0 ha) Iv.ak (aa (ah (eF T b) hr rfl (aa (vI 1 hb) Iv.ak ag)) Iv.ak ag))) λv H' s r=>⟨s,r⟩)
theorem P2{a b c d M:Int}(h1:M∈[a,b,c,d])(h2:∀x∈[a,b,c,d],M<=x):M=My.xT a b c d:=by
 simp only[List.mem_cons,List.not_mem_nil,or_false,forall_eq_or_imp,forall_eq] at h1 h2;unfold My.xT;omega
theorem Tl{a b c d M:Int}(h1:M∈[a,b,c,d])(h2:∀x∈[a,b,c,d],x<=M):M=My.xU a b c d:=by
 simp only[List.mem_cons,List.not_mem_nil,or_false,forall_eq_or_imp,forall_eq] at h1 h2;unfold My.xU;omega
theorem bM(T:Ti K mg C){a b:My.be}{n m:Nat}(ba:My.Bd n a)(bb:My.Bd m b)(By:n+m<=134217728):fq P w K mg base "times" 3 ["a","b"] (jx [Iv C a,Iv C b] (Iv C (My.aO a b))):=by
 refine T.aO.pure (N:=["a","b","products"]) fR rfl λf bL A ai s H vs X e hr nd ha=>?_;subst e
 match vs,ha with
 |[_,_],⟨ha,hb,_⟩ =>
 refine af (aD (i:=2) (kS (aa (cN cF (aj (Iv.aW T.R) (vI 0 ha)) (aj (Iv.aW T.R) (vI 1 hb)) (iM ba.aW bb.aW By)) v_ (aa (cN cF (aj (Iv.aW T.R) (vI 0 ha)) (aj (Iv.aA T.R) (vI 1 hb)) (iM ba.aW bb.aA By)) v_
  (aa (cN cF (aj (Iv.aA T.R) (vI 0 ha)) (aj (Iv.aW T.R) (vI 1 hb)) (iM ba.aA bb.aW By)) v_ (aa (cN cF (aj (Iv.aA T.R) (vI 0 ha)) (aj (Iv.aA T.R) (vI 1 hb)) (iM ba.aA bb.aA By)) v_ ag)))) ⟨Vi.ak _,Vi.ak _,Vi.ak _,Vi.ak _,trivial⟩ (by show 4<=1000;decide))
  (λl H1 s1 hl=>?_) nd)
 exact af (aE (R:=Iv C (My.aO a b)) (m5 T.R hr
  (IE [_,_,_,_] rfl rfl T.mn (ae 2 rfl hl (Mon.ls (kq [_,_,_,_]))) (by show 0<4;decide) (λm h1 h2=>P2 h1 h2))
  (IF [_,_,_,_] rfl rfl T.mx (ae 2 rfl hl (Mon.ls (kq [_,_,_,_]))) (by show 0<4;decide) (λm h1 h2=>Tl h1 h2))
  (cN cF (aj (Iv.size T.R) ((vI 0 ha).au s1)) (aj (Iv.size T.R) ((vI 1 hb).au s1)) (iM ba.size bb.size By))) λv H' s r=>⟨s1.trans s,r⟩)
theorem P4{a b M:Int}(h1:M∈[a,b])(h2:∀x∈[a,b],M<=x):M=min a b:=by
 simp only[List.mem_cons,List.not_mem_nil,or_false,forall_eq_or_imp,forall_eq] at h1 h2;omega
theorem To{a b M:Int}(h1:M∈[a,b])(h2:∀x∈[a,b],x<=M):M=max a b:=by
 simp only[List.mem_cons,List.not_mem_nil,or_false,forall_eq_or_imp,forall_eq] at h1 h2;omega
theorem cH(T:Ti K mg C){a:My.be}{n:Nat}(ba:My.Bd n a)(P5:n+n<=134217728):fq P w K mg base "square" 4 ["a"] (jx [Iv C a] (Iv C (My.ao a))):=by
 refine T.ao.pure (N:=["a","ends"]) fR rfl λf bL A ai s H vs X e hr nd ha=>?_;subst e
 match vs,ha with
 |[_],⟨ha,_⟩ =>
 refine af (aD (i:=1) (kS (aa (cN cF (aj (Iv.aW T.R) (vI 0 ha)) (aj (Iv.aW T.R) (vI 0 ha)) (iM ba.aW ba.aW P5)) v_ (aa (cN cF (aj (Iv.aA T.R) (vI 0 ha)) (aj (Iv.aA T.R) (vI 0 ha)) (iM ba.aA ba.aA P5)) v_ ag)) ⟨Vi.ak _,Vi.ak _,trivial⟩ (by show 2<=1000;decide))
  (λl H1 s1 hl=>?_) nd)
 have N8:=Iv.ak _ _ _ s1 ha;refine af (aE (R:=Iv C (My.ao a)) (m5 T.R hr
  (tT (gf (ah (ma T a) hr rfl (aa (vI 0 N8) Iv.ak ag))) (λh=>aH.to ?_) (λh=>IE [a.aW*a.aW,a.aA*a.aA] rfl rfl T.mn (ae 1 rfl hl (Mon.ls (kq [_,_]))) (by show 0<2;decide) (λm h1 h2=>?_)))
  (IF [a.aW*a.aW,a.aA*a.aA] rfl rfl T.mx (ae 1 rfl hl (Mon.ls (kq [_,_]))) (by show 0<2;decide) (λm h1 h2=>To h1 h2))
  (cN cF (aj (Iv.size T.R) (vI 0 N8)) (aj (Iv.size T.R) (vI 0 N8)) (iM ba.size ba.size P5))) λv H' s r=>⟨s1.trans s,r⟩)
 ·rw[if_pos h]
 ·rw[if_neg (by rw[h];exact Bool.false_ne_true)];exact P4 h1 h2
theorem iA(T:Ti K mg C){a b:My.be}{n m:Nat}(ba:My.Bd n a)(bb:My.Bd m b)(h:n+(m+m)<=134217728):fq P w K mg base "over" 4 ["a","b"] (jx [Iv C a,Iv C b] (Iv C (My.c9 a b))):=by
 refine T.c9.pure (N:=["a","b"]) fR rfl λf bL A ai s H vs X e hr nd ha=>?_;subst e
 match vs,ha with
 |[_,_],⟨ha,hb,_⟩ =>
 have S8:m+m<=134217728:=by omega
 exact af (aE (ah (bM T ba (b:=⟨b.size*b.aW,b.size*b.aA,b.aW*b.aA⟩) ⟨My.cr bb.size bb.aW,My.cr bb.size bb.aA,My.cr bb.aW bb.aA⟩ h) hr rfl (aa (vI 0 ha) Iv.ak
  (aa (m5 T.R hr (cN cF (aj (Iv.size T.R) (vI 1 hb)) (aj (Iv.aW T.R) (vI 1 hb)) (iM bb.size bb.aW S8)) (cN cF (aj (Iv.size T.R) (vI 1 hb)) (aj (Iv.aA T.R) (vI 1 hb)) (iM bb.size bb.aA S8)) (cN cF (aj (Iv.aW T.R) (vI 1 hb)) (aj (Iv.aA T.R) (vI 1 hb)) (iM bb.aW bb.aA S8))) Iv.ak ag))) λv H' s r=>⟨s,r⟩)
theorem jt(T:Ti K mg C)(a:My.be)(k:Int):fq P w K mg base "signed" 4 ["a","sign"] (jx [Iv C a,Vi (.int k)] (Iv C (My.bZ a k))):=by
 refine T.bZ.pure (N:=["a","sign"]) fR rfl λf bL A ai s H vs X e hr nd ha=>?_;subst e
 match vs,ha with
 |[_,_],⟨ha,rfl,_⟩ =>
 refine af (aE (R:=Iv C (My.bZ a k)) (tT (dJ (ae 1 rfl rfl v_) aH rfl) (λh=>?_) (λh=>?_)) λv H' s r=>⟨s,r⟩)
 ·have h:=of_decide_eq_true h;injection h with h
  rw[show My.bZ a k=a from if_pos h];exact vI 0 ha
 ·have h:¬k=1:=λz=>absurd h (by rw[z];simp);rw[show My.bZ a k=My.br a from if_neg h];exact ah (eF T a) hr rfl (aa (vI 0 ha) Iv.ak ag)
theorem rG(T:Ti K mg C){t b:Int}{a:My.be}{n m:Nat}(bt:t.natAbs<2^n)(bb:b.natAbs<2^n)(ba:My.Bd m a)(h:n+m<=134217728):fq P w K mg base "is_above" 3 ["top","bottom","a"] (jx [Vi (.int t),Vi (.int b),Iv C a] (Vi (.bl (My.kU t b a)))):=by
 refine T.kU.pure (N:=["top","bottom","a"]) fR rfl λf bL A ai s H vs X e hr nd ha=>?_;subst e
 match vs,ha with
 |[_,_,_],⟨rfl,rfl,ha,_⟩ =>
 exact af (aE (B6 re (cN cF (ae 0 rfl rfl v_) (aj (Iv.size T.R) (vI 2 ha)) (iM bt ba.size h)) (cN cF (aj (Iv.aW T.R) (vI 2 ha)) (ae 1 rfl rfl v_) (iM ba.aW bb o_))) λv H' s r=>⟨s,r⟩)
structure pH(P:Program)(base:Heap):Prop where
 bs:Bs base
 tree:P.given.tree=none
theorem mf(G:pH P base)(T:Ti K mg C){t b:Int}(hb:b≠0):fq P w K mg base "floor_share" 33 ["top","bottom"] (jx [Vi (.int t),Vi (.int b)] (Vi (.int (My.cu t b)))):=by
 refine T.cu.pure (N:=["top","bottom"]) fR rfl λf bL A ai s H vs X e hr nd ha=>?_;subst e
 match vs,ha with
 |[_,_],⟨rfl,rfl,_⟩ =>
 exact af (aE (cN (gF G.bs G.tree rfl (hr.LI d_)) (ae 0 rfl rfl v_) (ae 1 rfl rfl v_) hb) λv H' s r=>⟨s,r⟩)
theorem m6(G:pH P base)(T:Ti K mg C){t b:Int}(hb:b≠0):fq P w K mg base "ceiling_share" 33 ["top","bottom"] (jx [Vi (.int t),Vi (.int b)] (Vi (.int (My.cQ t b)))):=by
 refine T.cQ.pure (N:=["top","bottom"]) fR rfl λf bL A ai s H vs X e hr nd ha=>?_;subst e
 match vs,ha with
 |[_,_],⟨rfl,rfl,_⟩ =>
 exact af (aE (jW (cN (gF G.bs G.tree rfl (hr.LI d_)) (jW (ae 0 rfl rfl v_)) (ae 1 rfl rfl v_) hb)) λv H' s r=>⟨s,r⟩)
theorem EI(p:Nat):V.int (1*2^((p:Int)).toNat)=V.int (2^p):=by rw[Int.one_mul,Int.toNat_natCast]
theorem JK{p:Nat}(h:p<=1000000):NP 1 (p:Int):=⟨by omega,1,by decide,by omega⟩
theorem bD(G:pH P base)(T:Ti K mg C){a:My.be}{n p:Nat}(ba:My.Bd n a)(hs:0<a.size)(hp:p<=256)(h:n<=134217000):fq P w K mg base "outward" 34 ["a","p"] (jx [Iv C a,Vi (.int p)] (Iv C (My.outward a p))):=by
 refine T.outward.pure (N:=["a","p","scale"]) fR rfl λf bL A ai s H vs X e hr nd ha=>?_;subst e
 match vs,ha with
 |[_,_],⟨ha,rfl,_⟩ =>
 refine af (aD (i:=2) ((cN xM aH (ae 1 rfl rfl v_) (JK o_)).to (EI p)) (λl H1 s1 hl=>?_) nd);subst hl;have N8:=Iv.ak _ _ _ s1 ha;have Tp:a.size≠0:=by omega
 exact af (aE (m5 T.R hr
  (ah (mf G T Tp) hr rfl (aa (cN cF (aj (Iv.aW T.R) (vI 0 N8)) (ae 2 rfl rfl v_) (iM ba.aW (My.fW p) o_)) v_ (aa (aj (Iv.size T.R) (vI 0 N8)) v_ ag)))
  (ah (m6 G T Tp) hr rfl (aa (cN cF (aj (Iv.aA T.R) (vI 0 N8)) (ae 2 rfl rfl v_) (iM ba.aA (My.fW p) o_)) v_ (aa (aj (Iv.size T.R) (vI 0 N8)) v_ ag)))
  (ae 2 rfl rfl v_)) λv H' s r=>⟨s1.trans s,r⟩)
end
section
variable{P:Program}{w:World}{K:Frag}{mg:Str->Option Value}{base:Heap}{C:Addr}
theorem EJ(v:Int):Builtin.Int.intBits v=My.iJ v.natAbs:=by
 unfold Builtin.Int.intBits My.iJ
 by_cases h:v=0
 ·subst h;rfl
 ·rw[if_neg (by simpa using h),if_neg o_]
theorem JL(v:Int):V.int (1*2^(((((Builtin.Int.intBits v:Nat):Int)+1).fdiv 2).toNat))=V.int (My.jM v):=by
 unfold My.jM;rw[Int.one_mul,EJ,Int.fdiv_eq_ediv_of_nonneg _ d_];congr 2
theorem w4{v g:Int}(hg:0<g):V.int ((g+v.fdiv g).fdiv 2)=V.int (My.gU v g):=by
 unfold My.gU;rw[Int.fdiv_eq_ediv_of_nonneg _ d_,My.jI hg]
theorem Gy{v:Int}{n:Nat}(h:v.natAbs<2^n):My.iJ v.natAbs<=n:=My.Eu.mp h
theorem m7(G:pH P base)(T:Ti K mg C){v:Int}{n:Nat}(h0:0<=v)(bv:v.natAbs<2^n)(hn:n<=134217000):fq P w K mg base "floor_root" 33 ["value"] (jx [Vi (.int v)] (Vi (.int (My.aq v)))):=by
 refine T.aq.pure (N:=["value","guess","lesser"]) fR rfl λf bL A ai s H vs X e hr nd ha=>?_;subst e
 match vs,ha with
 |[_],⟨rfl,_⟩ =>
 refine af (cn (dJ (ae 0 rfl rfl v_) aH rfl) (λh H1 s1=>?_) (λh H1 s1=>aJ ?_))
 ·have h:=of_decide_eq_true h;injection h with h
  subst h;exact af (aE (aH.to (by rfl)) λv H' s r=>⟨s1.trans s,r⟩)
 ·have vq:v≠0:=λz=>absurd h (by rw[z];simp);have Mr:0<v:=by omega
  have bl:=Gy bv;refine af (aD (i:=1) (R:=Vi (.int (My.jM v))) ((cN xM aH (cN (gF G.bs G.tree rfl (hr.LI d_)) (dw ff (xO (ae 0 rfl rfl v_)) aH) aH d_) ?_).to (JL v)) (λl H2 s2 hl=>?_) nd)
  ·refine⟨?_,1,by decide,?_⟩
   ·rw[Int.fdiv_eq_ediv_of_nonneg _ d_];omega
   ·rw[Int.fdiv_eq_ediv_of_nonneg _ d_,EJ];omega
  subst hl;have hg:=My.wE v;refine af (aD (i:=2) (R:=Vi (.int (My.gU v (My.jM v)))) ((cN (gF G.bs G.tree rfl (hr.LI d_)) (dw ff (ae 1 rfl rfl v_) (cN (gF G.bs G.tree rfl (hr.LI d_)) (ae 0 rfl rfl v_) (ae 1 rfl rfl v_) o_)) aH d_).to (w4 hg)) (λl H3 s3 hl=>?_) nd);subst hl;refine af (iq PassesOwn.never (λm σ H'=>∃g:Int,σ=[some (.int v),some (.int g),some (.int (My.gU v g))]/\0<g/\My.aq v<=g/\m=g.toNat/\aM H H') _ ⟨My.jM v,rfl,hg,My.Jh h0,rfl,(s1.trans s2).trans s3⟩ ?_);rintro m σ H4 ⟨g,rfl,hg,Ms,rfl,s4⟩;refine Yt.run (dI ka (ae 2 rfl rfl v_) (ae 1 rfl rfl v_)) λH5 s5=>?_
  by_cases fS:My.gU v g<g
  ·rw[decide_eq_true fS,if_pos rfl];have Fe:=My.Cq Mr hg;refine af (aD (i:=1) (ae 2 rfl rfl v_) (λl H6 s6 hl=>?_) nd);subst hl;refine af (aD (i:=2) (R:=Vi (.int (My.gU v (My.gU v g)))) ((cN (gF G.bs G.tree rfl (hr.LI d_)) (dw ff (ae 1 rfl rfl v_) (cN (gF G.bs G.tree rfl (hr.LI d_)) (ae 0 rfl rfl v_) (ae 1 rfl rfl v_) o_)) aH d_).to (w4 Fe)) (λl H7 s7 hl=>?_) nd);subst hl;exact aJ ⟨_,by omega,My.gU v g,rfl,Fe,My.wD h0 hg,rfl,((s4.trans s5).trans s6).trans s7⟩
  ·rw[decide_eq_false fS,if_neg Bool.false_ne_true];have he:=My.Co h0 hg Ms o_;exact af (aE (ae 1 rfl rfl v_) λv' H' s r=>⟨(s4.trans s5).trans s,by rw[<-he];exact r⟩)
theorem yF(G:pH P base)(T:Ti K mg C){v:Int}{n:Nat}(h0:0<=v)(bv:v.natAbs<2^n)(hn:n<=60000000):fq P w K mg base "ceiling_root" 34 ["value"] (jx [Vi (.int v)] (Vi (.int (My.dO v)))):=by
 refine T.dO.pure (N:=["value","below"]) fR rfl λf bL A ai s H vs X e hr nd ha=>?_;subst e
 match vs,ha with
 |[_],⟨rfl,_⟩ =>
 refine af (aD (i:=1) (ah (m7 G T h0 bv o_) hr rfl (aa (ae 0 rfl rfl v_) v_ ag)) (λl H1 s1 hl=>?_) nd);subst hl;have hb:(My.aq v).natAbs<2^n:=by have:=My.jo h0;have:=My.bH v;omega
 refine af (aE (R:=Vi (.int (My.dO v))) (tT (dJ (cN cF (ae 1 rfl rfl v_) (ae 1 rfl rfl v_) (iM hb hb o_)) (ae 0 rfl rfl v_) rfl) (λh=>?_) (λh=>?_)) λv H' s r=>⟨s1.trans s,r⟩)
 ·have h:=of_decide_eq_true h;injection h with h
  exact(ae 1 rfl rfl v_).to (by rw[show My.dO v=My.aq v from if_pos h])
 ·have h:¬My.aq v*My.aq v=v:=λz=>absurd h (by rw[z];simp);exact(dw ff (ae 1 rfl rfl v_) aH).to (by rw[show My.dO v=My.aq v+1 from if_neg h])
theorem uG(G:pH P base)(T:Ti K mg C){a:My.be}{n p:Nat}(ok:a.Ok)(h0:0<=a.aW)(ba:My.Bd n a)(hp:p<=256)(hn:n<=50000000):fq P w K mg base "root" 35 ["a","p"] (jx [Iv C a,Vi (.int p)] (Iv C (My.gJ a p))):=by
 refine T.gJ.pure (N:=["a","p","scale","squared","low","high"]) fR rfl λf bL A ai s H vs X e hr nd ha=>?_;subst e
 match vs,ha with
 |[_,_],⟨ha,rfl,_⟩ =>
 have hs:=ok.pos;have Tp:a.size≠0:=by omega
 have hq:(0:Int)<=2^p*2^p:=Int.le_of_lt (Int.mul_pos (My.dk p) (My.dk p));have bq:((2:Int)^p*2^p).natAbs<2^(p+1+(p+1)):=My.cr (My.fW p) (My.fW p);have hh:0<=a.aA:=Int.le_trans h0 ok.le;have bl:=My.cr ba.aW bq;have bh:=My.cr ba.aA bq;refine af (aD (i:=2) ((cN xM aH (ae 1 rfl rfl v_) (JK o_)).to (EI p)) (λl H1 s1 hl=>?_) nd);subst hl;refine af (aD (i:=3) (cN cF (ae 2 rfl rfl v_) (ae 2 rfl rfl v_) (iM (My.fW p) (My.fW p) o_)) (λl H2 s2 hl=>?_) nd);subst hl;have Wy:=Iv.ak _ _ _ (s1.trans s2) ha;refine af (aD (i:=4) (ah (m7 G T (v:=My.cu (a.aW*(2^p*2^p)) a.size) ?_ (My.jp hs bl) o_) hr rfl
  (aa (ah (mf G T Tp) hr rfl (aa (cN cF (aj (Iv.aW T.R) (vI 0 Wy)) (ae 3 rfl rfl v_) (iM ba.aW bq o_)) v_ (aa (aj (Iv.size T.R) (vI 0 Wy)) v_ ag))) v_ ag)) (λl H3 s3 hl=>?_) nd)
 ·rw[My.dP hs];exact Int.ediv_nonneg (Int.mul_nonneg h0 hq) (Int.le_of_lt hs)
 subst hl;have Yw:=Iv.ak _ _ _ s3 Wy;refine af (aD (i:=5) (ah (yF G T (v:=My.cQ (a.aA*(2^p*2^p)) a.size) (My.rq hs (Int.mul_nonneg hh hq)) (My.jY hs bh) o_) hr rfl
  (aa (ah (m6 G T Tp) hr rfl (aa (cN cF (aj (Iv.aA T.R) (vI 0 Yw)) (ae 3 rfl rfl v_) (iM ba.aA bq o_)) v_ (aa (aj (Iv.size T.R) (vI 0 Yw)) v_ ag))) v_ ag)) (λl H4 s4 hl=>?_) nd)
 subst hl;exact af (aE (m5 T.R hr (ae 4 rfl rfl v_) (ae 5 rfl rfl v_) (ae 2 rfl rfl v_)) λv H' s r=>⟨(((s1.trans s2).trans s3).trans s4).trans s,r⟩)
end
section
variable{P:Program}{w:World}{K:Frag}{mg:Str->Option Value}{base:Heap}{C:Addr}
abbrev nT:List Str:=["x","y","z"]
abbrev sT:Stmt:=fQ (top 46) 0
theorem scT:dQ ["self","x","y","z"] ["self","x","y","z"] (ax sT):=⟨rfl,rfl,rfl,by decide +kernel,rfl,by decide +kernel,by decide +kernel⟩
theorem CZ(R:jG K mg "Triple" sT nT C):lm P w K mg base "Triple" nT C:=R.oF λq f fd F=>by
 refine F.KC scT (λvs H Q E h=>?_) (λbL A ai s H vs Q E hr h=>?_)
 ·obtain⟨p,dx,ys,rfl,hl,_⟩:=h;exact congrArg (·+1) hl
 ·obtain⟨p,dx,ys,rfl,hl,hp,k⟩:=h
  match ys,hl with
  |[y0,y1,y2],_ =>
  refine⟨_,pD,?_⟩;refine af (cK (i:=1) (j:=0) rfl rfl hp R.cl (R.no _ d_) d_ ?_);refine af (cK (i:=2) (j:=0) rfl rfl aC R.cl (R.no _ d_) (oh d_) ?_);refine af (cK (i:=3) (j:=0) rfl rfl aC R.cl (R.no _ d_) (oh (oh d_)) ?_);refine aJ (k _ aC λb o e hb=>?_);rw[aB hb,aB hb,aB hb];exact e
abbrev nL:List Str:=["point","way","index","sign"]
abbrev sL:Stmt:=fQ (top 47) 0
theorem scL:dQ ["self","point","way","index","sign"] ["self","point","way","index","sign"] (ax sL):=⟨rfl,rfl,rfl,by decide +kernel,rfl,by decide +kernel,by decide +kernel⟩
theorem JM(R:jG K mg "Light" sL nL C):lm P w K mg base "Light" nL C:=R.oF λq f fd F=>by
 refine F.KC scL (λvs H Q E h=>?_) (λbL A ai s H vs Q E hr h=>?_)
 ·obtain⟨p,dx,ys,rfl,hl,_⟩:=h;exact congrArg (·+1) hl
 ·obtain⟨p,dx,ys,rfl,hl,hp,k⟩:=h
  match ys,hl with
  |[y0,y1,y2,y3],_ =>
  refine⟨_,pD,?_⟩;refine af (cK (i:=1) (j:=0) rfl rfl hp R.cl (R.no _ d_) d_ ?_);refine af (cK (i:=2) (j:=0) rfl rfl aC R.cl (R.no _ d_) (oh d_) ?_);refine af (cK (i:=3) (j:=0) rfl rfl aC R.cl (R.no _ d_) (oh (oh d_)) ?_);refine af (cK (i:=4) (j:=0) rfl rfl aC R.cl (R.no _ d_) (oh (oh (oh d_))) ?_);refine aJ (k _ aC λb o e hb=>?_);rw[aB hb,aB hb,aB hb,aB hb];exact e
abbrev nS:List Str:=["curve","conic"]
abbrev sS:Stmt:=fQ (top 92) 0
theorem scS:dQ ["self","curve","conic"] ["self","curve","conic"] (ax sS):=⟨rfl,rfl,rfl,by decide +kernel,rfl,by decide +kernel,by decide +kernel⟩
theorem Mt(R:jG K mg "Shape" sS nS C):lm P w K mg base "Shape" nS C:=R.oF λq f fd F=>by
 refine F.KC scS (λvs H Q E h=>?_) (λbL A ai s H vs Q E hr h=>?_)
 ·obtain⟨p,dx,ys,rfl,hl,_⟩:=h;exact congrArg (·+1) hl
 ·obtain⟨p,dx,ys,rfl,hl,hp,k⟩:=h
  match ys,hl with
  |[y0,y1],_ =>
  refine⟨_,pD,?_⟩;refine af (cK (i:=1) (j:=0) rfl rfl hp R.cl (R.no _ d_) d_ ?_);refine af (cK (i:=2) (j:=0) rfl rfl aC R.cl (R.no _ d_) (oh d_) ?_);refine aJ (k _ aC λb o e hb=>?_);rw[aB hb,aB hb];exact e
abbrev nP:List Str:=["kind","gap","glass","shape","limit"]
abbrev sP:Stmt:=fQ (top 93) 0
theorem scP:dQ ["self","kind","gap","glass","shape","limit"] ["self","kind","gap","glass","shape","limit"] (ax sP):=⟨rfl,rfl,rfl,by decide +kernel,rfl,by decide +kernel,by decide +kernel⟩
theorem Wz(R:jG K mg "Part" sP nP C):lm P w K mg base "Part" nP C:=R.oF λq f fd F=>by
 refine F.KC scP (λvs H Q E h=>?_) (λbL A ai s H vs Q E hr h=>?_)
 ·obtain⟨p,dx,ys,rfl,hl,_⟩:=h;exact congrArg (·+1) hl
 ·obtain⟨p,dx,ys,rfl,hl,hp,k⟩:=h
  match ys,hl with
  |[y0,y1,y2,y3,y4],_ =>
  refine⟨_,pD,?_⟩;refine af (cK (i:=1) (j:=0) rfl rfl hp R.cl (R.no _ d_) d_ ?_);refine af (cK (i:=2) (j:=0) rfl rfl aC R.cl (R.no _ d_) (oh d_) ?_);refine af (cK (i:=3) (j:=0) rfl rfl aC R.cl (R.no _ d_) (oh (oh d_)) ?_);refine af (cK (i:=4) (j:=0) rfl rfl aC R.cl (R.no _ d_) (oh (oh (oh d_))) ?_);refine af (cK (i:=5) (j:=0) rfl rfl aC R.cl (R.no _ d_) (oh (oh (oh (oh d_)))) ?_);refine aJ (k _ aC λb o e hb=>?_);rw[aB hb,aB hb,aB hb,aB hb,aB hb];exact e
abbrev nK:List Str:=["kind","place","behind","value"]
abbrev sK:Stmt:=fQ (top 74) 0
theorem scK:dQ ["self","kind","place","behind","value"] ["self","kind","place","behind","value"] (ax sK):=⟨rfl,rfl,rfl,by decide +kernel,rfl,by decide +kernel,by decide +kernel⟩
theorem Gz(R:jG K mg "Token" sK nK C):lm P w K mg base "Token" nK C:=R.oF λq f fd F=>by
 refine F.KC scK (λvs H Q E h=>?_) (λbL A ai s H vs Q E hr h=>?_)
 ·obtain⟨p,dx,ys,rfl,hl,_⟩:=h;exact congrArg (·+1) hl
 ·obtain⟨p,dx,ys,rfl,hl,hp,k⟩:=h
  match ys,hl with
  |[y0,y1,y2,y3],_ =>
  refine⟨_,pD,?_⟩;refine af (cK (i:=1) (j:=0) rfl rfl hp R.cl (R.no _ d_) d_ ?_);refine af (cK (i:=2) (j:=0) rfl rfl aC R.cl (R.no _ d_) (oh d_) ?_);refine af (cK (i:=3) (j:=0) rfl rfl aC R.cl (R.no _ d_) (oh (oh d_)) ?_);refine af (cK (i:=4) (j:=0) rfl rfl aC R.cl (R.no _ d_) (oh (oh (oh d_))) ?_);refine aJ (k _ aC λb o e hb=>?_);rw[aB hb,aB hb,aB hb,aB hb];exact e
abbrev nY:List Str:=["medium","parts"]
abbrev sY:Stmt:=fQ (top 94) 0
theorem scY:dQ ["self","medium","parts"] ["self","medium","parts"] (ax sY):=⟨rfl,rfl,rfl,by decide +kernel,rfl,by decide +kernel,by decide +kernel⟩
theorem WA(R:jG K mg "System" sY nY C):lm P w K mg base "System" nY C:=R.oF λq f fd F=>by
 refine F.KC scY (λvs H Q E h=>?_) (λbL A ai s H vs Q E hr h=>?_)
 ·obtain⟨p,dx,ys,rfl,hl,_⟩:=h;exact congrArg (·+1) hl
 ·obtain⟨p,dx,ys,rfl,hl,hp,k⟩:=h
  match ys,hl with
  |[y0,y1],_ =>
  refine⟨_,pD,?_⟩;refine af (cK (i:=1) (j:=0) rfl rfl hp R.cl (R.no _ d_) d_ ?_);refine af (cK (i:=2) (j:=0) rfl rfl aC R.cl (R.no _ d_) (oh d_) ?_);refine aJ (k _ aC λb o e hb=>?_);rw[aB hb,aB hb];exact e
end
abbrev bC(CT CI:Addr)(t:My.bC):Rv:=dG CT nT [Iv CI t.x,Iv CI t.y,Iv CI t.z]
theorem bC.ak{CT CI:Addr}{t:My.bC}:Mon (bC CT CI t):=dG.ak ⟨Iv.ak,Iv.ak,Iv.ak,trivial⟩
abbrev Sh(CS CI:Addr)(s:My.mr):Rv:=dG CS nS [Iv CI s.curve,Iv CI s.conic]
theorem Sh.ak{CS CI:Addr}{t:My.mr}:Mon (Sh CS CI t):=dG.ak ⟨Iv.ak,Iv.ak,trivial⟩
theorem mo{R:Rv}(h:Mon R:=by first |exact Iv.ak |exact Vi.ak _ |exact bC.ak |exact Li.ak |exact Pa.ak |exact qR.ak |exact iO.ak |exact dG.ak ⟨Iv.ak,Iv.ak,trivial⟩ |exact Sh.ak):Mon R:=h
def nO(mg:Str->Option Value)(x:Str)(i:Int):Prop:=∃t,mg x=some (.int i t)
theorem bV{X:Cx}{σ:L2.St}{H:Hp}{x:Str}{i:Int}{pos:Pos}(h:nO X.mg x i)(hg:Gl X x)(hd:(x == ("__debug__":Str))=false:=by decide):Yd X σ H (.Name x pos) (Vi (.int i)):=let ⟨_,h⟩:=h;LG hg h ⟨_,rfl⟩ hd
structure Tr(K:Frag)(mg:Str->Option Value)(CI CT CL CS CP:Addr):Prop where
 T:Ti K mg CI
 RT:jG K mg "Triple" sT nT CT
 RL:jG K mg "Light" sL nL CL
 RS:jG K mg "Shape" sS nS CS
 RP:jG K mg "Part" sP nP CP
 gQ:fA K mg "sum_of_three" (top 48) ["x","y","z"]
 cg:fA K mg "inner_product" (top 49) ["a","b","p"]
 JN:fA K mg "outward_sum" (top 50) ["a","share","b","p"]
 cR:fA K mg "stretched" (top 51) ["a","share"]
 Mu:fA K mg "outward_each" (top 52) ["a","p"]
 conic:fA K mg "conic_square" (top 53) ["a","shape"]
 cM:fA K mg "what_stands_across" (top 54) ["shape","point","p"]
 bW:fA K mg "size_across" (top 55) ["across","p"]
 k6:fA K mg "go_on_above_zero" (top 56) ["a","ending"]
 jq:fA K mg "how_far" (top 57) ["point","way","shape","sign","p"]
 gp:fA K mg "met_point" (top 58) ["light","part","p"]
 f9:fA K mg "pass_limit" (top 59) ["point","limit","p"]
 jr:fA K mg "mirrored" (top 60) ["way","across","size","p"]
 vC:fA K mg "bent" (top 61) ["light","across","size","index","p"]
 cA:fA K mg "start_light" (top 62) ["start","index","p"]
 cj:fA K mg "behind_part" (top 63) ["light","part","line","p"]
 through:nO mg "THROUGH" 0
 misses:nO mg "MISSES" 1
 blocked:nO mg "BLOCKED" 2
 uH:nO mg "THROWN_BACK" 3
 left:nO mg "LEFT_UNDECIDED" 4
section
variable{P:Program}{w:World}{K:Frag}{mg:Str->Option Value}{base:Heap}{CI CT CL CS CP:Addr}
theorem bC.hx{t:My.bC}(R:jG K mg "Triple" sT nT CT):gu K (bC CT CI t) "x" (Iv CI t.x):=dG.has R.cl R.no d_ 0 rfl rfl
theorem bC.hy{t:My.bC}(R:jG K mg "Triple" sT nT CT):gu K (bC CT CI t) "y" (Iv CI t.y):=dG.has R.cl R.no d_ 1 rfl rfl
theorem bC.hz{t:My.bC}(R:jG K mg "Triple" sT nT CT):gu K (bC CT CI t) "z" (Iv CI t.z):=dG.has R.cl R.no d_ 2 rfl rfl
theorem Sh.hc{t:My.mr}(R:jG K mg "Shape" sS nS CS):gu K (Sh CS CI t) "curve" (Iv CI t.curve):=dG.has R.cl R.no d_ 0 rfl rfl
theorem Sh.hk{t:My.mr}(R:jG K mg "Shape" sS nS CS):gu K (Sh CS CI t) "conic" (Iv CI t.conic):=dG.has R.cl R.no d_ 1 rfl rfl
theorem pI(T:Tr K mg CI CT CL CS CP){x y z:My.be}{n m k:Nat}(bx:My.Bd n x)(Gh:My.Bd m y)(bz:My.Bd k z)(h:n+m+1+k<=134217728):fq P w K mg base "sum_of_three" 4 ["x","y","z"] (jx [Iv CI x,Iv CI y,Iv CI z] (Iv CI (My.gQ x y z))):=by
 refine T.gQ.pure (N:=["x","y","z"]) fR rfl λf bL A ai s H vs X e hr nd ha=>?_;subst e
 match vs,ha with
 |[_,_,_],⟨h1,h2,h3,_⟩ =>
 exact af (aE (ah (eI T.T (My.cP bx Gh) bz h) hr rfl (aa (ah (eI T.T bx Gh o_) hr rfl (aa (vI 0 h1) mo (aa (vI 1 h2) mo ag))) mo (aa (vI 2 h3) mo ag))) λv H' s r=>⟨s,r⟩)
theorem qS(G:pH P base)(T:Tr K mg CI CT CL CS CP){a b:My.bC}{n m p:Nat}(oa:a.Ok)(ob:b.Ok)(ba:My.h9 n a)(bb:My.h9 m b)(hp:p<=256)(h:3*(n+m)+3<=134217000):fq P w K mg base "inner_product" 35 ["a","b","p"] (jx [bC CT CI a,bC CT CI b,Vi (.int p)] (Iv CI (My.bY a b p))):=by
 refine T.cg.pure (N:=["a","b","p"]) fR rfl λf bL A ai s H vs X e hr nd ha=>?_;subst e
 match vs,ha with
 |[_,_,_],⟨h1,h2,rfl,_⟩ =>
 have bx:=My.aU ba.x bb.x;have Gh:=My.aU ba.y bb.y
 have bz:=My.aU ba.z bb.z;have ox:=My.ay oa.x.pos ob.x.pos;have oy:=My.ay oa.y.pos ob.y.pos;have oz:=My.ay oa.z.pos ob.z.pos;exact af (aE (ah (bD G T.T (My.k4 bx Gh bz) (My.iS ox oy oz).pos hp o_) hr rfl
  (aa (ah (pI T bx Gh bz o_) hr rfl
   (aa (ah (bM T.T ba.x bb.x o_) hr rfl (aa (aj (bC.hx T.RT) (ae 0 rfl h1 mo)) mo (aa (aj (bC.hx T.RT) (ae 1 rfl h2 mo)) mo ag))) mo (aa (ah (bM T.T ba.y bb.y o_) hr rfl (aa (aj (bC.hy T.RT) (ae 0 rfl h1 mo)) mo (aa (aj (bC.hy T.RT) (ae 1 rfl h2 mo)) mo ag))) mo (aa (ah (bM T.T ba.z bb.z o_) hr rfl (aa (aj (bC.hz T.RT) (ae 0 rfl h1 mo)) mo (aa (aj (bC.hz T.RT) (ae 1 rfl h2 mo)) mo ag))) mo ag)))) mo (aa (ae 2 rfl rfl mo) mo ag))) λv H' s r=>⟨s,r⟩)
theorem nQ(G:pH P base)(T:Tr K mg CI CT CL CS CP){a b:My.bC}{t:My.be}{n m k p:Nat}(oa:a.Ok)(ot:t.Ok)(ob:b.Ok)(ba:My.h9 n a)(bt:My.Bd m t)(bb:My.h9 k b)(hp:p<=256)(h:n+m+k+1<=134217000) :
  fq P w K mg base "outward_sum" 35 ["a","share","b","p"] (jx [bC CT CI a,Iv CI t,bC CT CI b,Vi (.int p)] (bC CT CI (My.cv a t b p))):=by
 refine T.JN.pure (N:=["a","share","b","p"]) fR rfl λf bL A ai s H vs X e hr nd ha=>?_;subst e
 match vs,ha with
 |[_,_,_,_],⟨h1,h2,h3,rfl,_⟩ =>
 have bx:=My.aU bt bb.x;have Gh:=My.aU bt bb.y
 have bz:=My.aU bt bb.z;have ox:=My.ay ot.pos ob.x.pos;have oy:=My.ay ot.pos ob.y.pos;have oz:=My.ay ot.pos ob.z.pos;exact af (aE (R:=bC CT CI (My.cv a t b p)) (eL (CZ T.RT) hr rfl
  (aa (ah (bD G T.T (My.cP ba.x bx) (My.bU oa.x ox).pos hp o_) hr rfl (aa (ah (eI T.T ba.x bx o_) hr rfl (aa (aj (bC.hx T.RT) (ae 0 rfl h1 mo)) mo (aa (ah (bM T.T bt bb.x o_) hr rfl (aa (vI 1 h2) mo (aa (aj (bC.hx T.RT) (ae 2 rfl h3 mo)) mo ag))) mo ag))) mo (aa (ae 3 rfl rfl mo) mo ag))) mo (aa (ah (bD G T.T (My.cP ba.y Gh) (My.bU oa.y oy).pos hp o_) hr rfl (aa (ah (eI T.T ba.y Gh o_) hr rfl (aa (aj (bC.hy T.RT) (ae 0 rfl h1 mo)) mo (aa (ah (bM T.T bt bb.y o_) hr rfl (aa (vI 1 h2) mo (aa (aj (bC.hy T.RT) (ae 2 rfl h3 mo)) mo ag))) mo ag))) mo (aa (ae 3 rfl rfl mo) mo ag))) mo (aa (ah (bD G T.T (My.cP ba.z bz) (My.bU oa.z oz).pos hp o_) hr rfl (aa (ah (eI T.T ba.z bz o_) hr rfl (aa (aj (bC.hz T.RT) (ae 0 rfl h1 mo)) mo (aa (ah (bM T.T bt bb.z o_) hr rfl (aa (vI 1 h2) mo (aa (aj (bC.hz T.RT) (ae 2 rfl h3 mo)) mo ag))) mo ag))) mo (aa (ae 3 rfl rfl mo) mo ag))) mo ag)))
  ⟨mo,mo,mo,trivial⟩ rfl) λv H' s r=>⟨s,r⟩)
theorem m8(T:Tr K mg CI CT CL CS CP){a:My.bC}{t:My.be}{n m:Nat}(ba:My.h9 n a)(bt:My.Bd m t)(h:m+n<=134217728) :
  fq P w K mg base "stretched" 4 ["a","share"] (jx [bC CT CI a,Iv CI t] (bC CT CI (My.cR a t))):=by
 refine T.cR.pure (N:=["a","share"]) fR rfl λf bL A ai s H vs X e hr nd ha=>?_;subst e
 match vs,ha with
 |[_,_],⟨h1,h2,_⟩ =>
 exact af (aE (R:=bC CT CI (My.cR a t)) (eL (CZ T.RT) hr rfl
  (aa (ah (bM T.T bt ba.x h) hr rfl (aa (vI 1 h2) mo (aa (aj (bC.hx T.RT) (ae 0 rfl h1 mo)) mo ag))) mo (aa (ah (bM T.T bt ba.y h) hr rfl (aa (vI 1 h2) mo (aa (aj (bC.hy T.RT) (ae 0 rfl h1 mo)) mo ag))) mo (aa (ah (bM T.T bt ba.z h) hr rfl (aa (vI 1 h2) mo (aa (aj (bC.hz T.RT) (ae 0 rfl h1 mo)) mo ag))) mo ag)))
  ⟨mo,mo,mo,trivial⟩ rfl) λv H' s r=>⟨s,r⟩)
theorem rH(G:pH P base)(T:Tr K mg CI CT CL CS CP){a:My.bC}{n p:Nat}(oa:a.Ok)(ba:My.h9 n a)(hp:p<=256)(h:n<=134217000) :
  fq P w K mg base "outward_each" 35 ["a","p"] (jx [bC CT CI a,Vi (.int p)] (bC CT CI (My.ft a p))):=by
 refine T.Mu.pure (N:=["a","p"]) fR rfl λf bL A ai s H vs X e hr nd ha=>?_;subst e
 match vs,ha with
 |[_,_],⟨h1,rfl,_⟩ =>
 exact af (aE (R:=bC CT CI (My.ft a p)) (eL (CZ T.RT) hr rfl
  (aa (ah (bD G T.T ba.x oa.x.pos hp h) hr rfl (aa (aj (bC.hx T.RT) (ae 0 rfl h1 mo)) mo (aa (ae 1 rfl rfl mo) mo ag))) mo (aa (ah (bD G T.T ba.y oa.y.pos hp h) hr rfl (aa (aj (bC.hy T.RT) (ae 0 rfl h1 mo)) mo (aa (ae 1 rfl rfl mo) mo ag))) mo (aa (ah (bD G T.T ba.z oa.z.pos hp h) hr rfl (aa (aj (bC.hz T.RT) (ae 0 rfl h1 mo)) mo (aa (ae 1 rfl rfl mo) mo ag))) mo ag)))
  ⟨mo,mo,mo,trivial⟩ rfl) λv H' s r=>⟨s,r⟩)
theorem w6(T:Tr K mg CI CT CL CS CP){a:My.bC}{sh:My.mr}{n m k:Nat}(ba:My.h9 n a)(bs:My.IZ m k sh)(h:6*n+k+10<=134217000) :
  fq P w K mg base "conic_square" 5 ["a","shape"] (jx [bC CT CI a,Sh CS CI sh] (Iv CI (My.cw a sh))):=by
 refine T.conic.pure (N:=["a","shape"]) fR rfl λf bL A ai s H vs X e hr nd ha=>?_;subst e
 match vs,ha with
 |[_,_],⟨h1,h2,_⟩ =>
 have b1:=My.cP My.fM bs.k;have bz:=My.a7 ba.z;exact af (aE (ah (pI T (My.a7 ba.x) (My.a7 ba.y) (My.aU b1 bz) o_) hr rfl
  (aa (ah (cH T.T ba.x o_) hr rfl (aa (aj (bC.hx T.RT) (ae 0 rfl h1 mo)) mo ag)) mo (aa (ah (cH T.T ba.y o_) hr rfl (aa (aj (bC.hy T.RT) (ae 0 rfl h1 mo)) mo ag)) mo (aa (ah (bM T.T b1 bz o_) hr rfl (aa (ah (eI T.T My.fM bs.k o_) hr rfl (aa (ah (c7 T.T 1) hr rfl (aa aH mo ag)) mo (aa (aj (Sh.hk T.RS) (ae 1 rfl h2 mo)) mo ag))) mo (aa (ah (cH T.T ba.z o_) hr rfl (aa (aj (bC.hz T.RT) (ae 0 rfl h1 mo)) mo ag)) mo ag))) mo ag))))
  λv H' s r=>⟨s,r⟩)
theorem uI(G:pH P base)(T:Tr K mg CI CT CL CS CP){a:My.bC}{sh:My.mr}{c q:Rat}{n m k p:Nat}(oa:a.Ok)(hs:My.gP sh c q)(ba:My.h9 n a)(bs:My.IZ m k sh)(hp:p<=256)(h:n+m+k+10<=134217000) :
  fq P w K mg base "what_stands_across" 36 ["shape","point","p"] (jx [Sh CS CI sh,bC CT CI a,Vi (.int p)] (bC CT CI (My.cD sh a p))):=by
 refine T.cM.pure (N:=["shape","point","p","flatter","deeper"]) fR rfl λf bL A ai s H vs X e hr nd ha=>?_;subst e
 match vs,ha with
 |[_,_,_],⟨h1,h2,rfl,_⟩ =>
 have b1:=My.cP My.fM bs.k;have bd:=My.gO (My.aU bs.c b1);have bf:=My.gO bs.c;obtain⟨nf,nd'⟩:=My.iU hs;refine af (aD (i:=3) (ah (eF T.T sh.curve) hr rfl (aa (aj (Sh.hc T.RS) (ae 0 rfl h1 mo)) mo ag)) (λl H1 s1 hl=>?_) nd);have UR:=Sh.ak _ _ _ s1 h1;refine af (aD (i:=4) (ah (eF T.T (My.aO sh.curve (My.cy (My.ap 1) sh.conic))) hr rfl (aa (ah (bM T.T bs.c b1 o_) hr rfl (aa (aj (Sh.hc T.RS) (ae 0 rfl UR mo)) mo (aa (ah (eI T.T My.fM bs.k o_) hr rfl (aa (ah (c7 T.T 1) hr rfl (aa aH mo ag)) mo (aa (aj (Sh.hk T.RS) (ae 0 rfl UR mo)) mo ag))) mo ag))) mo ag)) (λl2 H2 s2 OW=>?_) nd);have WC:=bC.ak _ _ _ (s1.trans s2) h2;have Fc:=Iv.ak _ _ _ s2 hl;have bz:=My.cP My.fM (My.aU bd ba.z);have bt:My.h9 (n+m+k+4) ⟨My.aO (My.br sh.curve) a.x,My.aO (My.br sh.curve) a.y,My.cy (My.ap 1) (My.aO (My.br (My.aO sh.curve (My.cy (My.ap 1) sh.conic))) a.z)⟩ :=
  ⟨(My.aU bf ba.x).aw o_,(My.aU bf ba.y).aw o_,bz.aw o_⟩
 have ot:My.bC.Ok ⟨My.aO (My.br sh.curve) a.x,My.aO (My.br sh.curve) a.y,My.cy (My.ap 1) (My.aO (My.br (My.aO sh.curve (My.cy (My.ap 1) sh.conic))) a.z)⟩ :=
  ⟨My.ay nf.ok.pos oa.x.pos,My.ay nf.ok.pos oa.y.pos,My.bU (My.cZ 1) (My.ay nd'.ok.pos oa.z.pos)⟩
 exact af (aE (R:=bC CT CI (My.cD sh a p)) (ah (rH G T ot bt hp o_) hr rfl
  (aa (eL (CZ T.RT) hr rfl (aa (ah (bM T.T bf ba.x o_) hr rfl (aa (vI 3 Fc) mo (aa (aj (bC.hx T.RT) (ae 1 rfl WC mo)) mo ag))) mo (aa (ah (bM T.T bf ba.y o_) hr rfl (aa (vI 3 Fc) mo (aa (aj (bC.hy T.RT) (ae 1 rfl WC mo)) mo ag))) mo (aa (ah (eI T.T My.fM (My.aU bd ba.z) o_) hr rfl (aa (ah (c7 T.T 1) hr rfl (aa aH mo ag)) mo (aa (ah (bM T.T bd ba.z o_) hr rfl (aa (vI 4 OW) mo (aa (aj (bC.hz T.RT) (ae 1 rfl WC mo)) mo ag))) mo ag))) mo ag))) ⟨mo,mo,mo,trivial⟩ rfl) mo (aa (ae 2 rfl rfl mo) mo ag)))
  λv H' s r=>⟨(s1.trans s2).trans s,r⟩)
theorem uJ(G:pH P base)(T:Tr K mg CI CT CL CS CP){a:My.bC}{n p:Nat}(oa:a.Ok)(ba:My.h9 n a)(hp:p<=256)(h:6*n+3<=134217000) :
  fq P w K mg base "size_across" 35 ["across","p"] (jx [bC CT CI a,Vi (.int p)] (Iv CI (My.bW a p))):=by
 refine T.bW.pure (N:=["across","p"]) fR rfl λf bL A ai s H vs X e hr nd ha=>?_;subst e
 match vs,ha with
 |[_,_],⟨h1,rfl,_⟩ =>
 have bx:=My.a7 ba.x;have Gh:=My.a7 ba.y
 have bz:=My.a7 ba.z;exact af (aE (ah (bD G T.T (My.k4 bx Gh bz) (My.iS (My.a5 oa.x.pos) (My.a5 oa.y.pos) (My.a5 oa.z.pos)).pos hp o_) hr rfl
  (aa (ah (pI T bx Gh bz o_) hr rfl (aa (ah (cH T.T ba.x o_) hr rfl (aa (aj (bC.hx T.RT) (ae 0 rfl h1 mo)) mo ag)) mo (aa (ah (cH T.T ba.y o_) hr rfl (aa (aj (bC.hy T.RT) (ae 0 rfl h1 mo)) mo ag)) mo (aa (ah (cH T.T ba.z o_) hr rfl (aa (aj (bC.hz T.RT) (ae 0 rfl h1 mo)) mo ag)) mo ag)))) mo (aa (ae 1 rfl rfl mo) mo ag)))
  λv H' s r=>⟨s,r⟩)
end
structure XR(K:Frag)(mg:Str->Option Value)(x:Str)(st:Stmt)(names:List Str)(C N:Addr):Prop where
 xc:XC K C N
 at_:mg x=some (.ref C)
 Yx:mg "Exception"=none
 xa:∀n∈names,XA K N n
 init:∃f fd q,nsIn K N "__init__"=some (some (.ref f))/\PySem.W.isFn K (.ref f)=true/\rg K "__init__" q st f fd/\fG K fd ("self"::names) []
abbrev w8:List Str:=["ending"]
abbrev EK:Stmt:=fQ (top 23) 0
abbrev qT:List Str:=["place","kind"]
abbrev C0:Stmt:=fQ (top 21) 0
section
variable{P:Program}{w:World}{K:Frag}{mg:Str->Option Value}{base:Heap}{C N:Addr}
theorem XR.Tq{x:Str}{st:Stmt}{names:List Str}(R:XR K mg x st names C N)(h:∀q f fd,rg K "__init__" q st f fd->g5 P w K mg base (rh P w) 1 f fd ("self"::names) (Ef C names)):IG P w K mg base x names C N :=
 let ⟨f,fd,q,i,g,F,b⟩:=R.init;⟨R.xc,R.at_,f,fd,i,g,h q f fd F,b⟩
theorem P6:dQ ["self","ending"] ["self","ending"] (ax EK):=fR
theorem gA(R:XR K mg "Lost" EK w8 C N):IG P w K mg base "Lost" w8 C N:=R.Tq λq f fd F=>by
 refine F.KC P6 (λvs H Q E h=>?_) (λbL A ai s H vs Q E hr h=>?_)
 ·obtain⟨ea,ys,rfl,hl,_⟩:=h;exact congrArg (·+1) hl
 ·obtain⟨ea,ys,rfl,hl,he,k⟩:=h
  match ys,hl with
  |[y0],_ =>
  refine⟨_,pD,?_⟩;refine af (eD (PE.ev (zV (by rfl) R.Yx (bI (pv 0) cV)) ⟨_,rfl,ea,C,N,none,rfl,he,R.xc,?_⟩));refine af ((zW (pv 0) (pv 1) rfl).do ⟨_,rfl,_,rfl,ea,C,N,rfl,he,R.xc,R.xa _ d_,λdx zT=>?_⟩);have ne:dx≠ea:=λz=>by rw[z,he] at zT;cases zT
  refine aJ (k _ dx zT aC (by rw[aB ne];exact aC) λb o e hb=>?_);rw[aB hb,aB (bJ e zT)];exact e
theorem Mv:dQ ["self","place","kind"] ["self","place","kind"] (ax C0):=fR
theorem dz(R:XR K mg "TextFault" C0 qT C N):IG P w K mg base "TextFault" qT C N:=R.Tq λq f fd F=>by
 refine F.KC Mv (λvs H Q E h=>?_) (λbL A ai s H vs Q E hr h=>?_)
 ·obtain⟨ea,ys,rfl,hl,_⟩:=h;exact congrArg (·+1) hl
 ·obtain⟨ea,ys,rfl,hl,he,k⟩:=h
  match ys,hl with
  |[y0,y1],_ =>
  refine⟨_,pD,?_⟩;refine af (eD (PE.ev (zV (by rfl) R.Yx (bI (pv 0) cV)) ⟨_,rfl,ea,C,N,none,rfl,he,R.xc,?_⟩));refine af ((zW (pv 0) (pv 1) rfl).do ⟨_,rfl,_,rfl,ea,C,N,rfl,he,R.xc,R.xa _ d_,λdx zT=>?_⟩);have ne:dx≠ea:=λz=>by rw[z,he] at zT;cases zT
  refine af ((LB (pv 0) (pv 2) rfl).do ⟨_,rfl,_,rfl,ea,C,N,dx,_,rfl,aC,R.xc,R.xa _ d_,by rw[aB ne];exact aC,by show 1<1000;decide,ne,?_⟩);refine aJ (k _ dx zT (by rw[aB ne.symm];exact aC) aC λb o e hb=>?_);rw[aB (bJ e zT),aB hb,aB (bJ e zT)];exact e
end
def C4{α:Type}(CX:Addr)(R:α->Rv):Except Int α->Except Ex Rv
 |.ok a=>.ok (R a)
 |.error k=>.error (B7 CX w8 [Vi (.int k)])
structure Tz(K:Frag)(mg:Str->Option Value)(CI CT CL CS CP CX NX:Addr):Prop extends Tr K mg CI CT CL CS CP where
 X:XR K mg "Lost" EK w8 CX NX
section
variable{P:Program}{w:World}{K:Frag}{mg:Str->Option Value}{base:Heap}{CI CT CL CS CP CX NX:Addr}
theorem kF(T:Tz K mg CI CT CL CS CP CX NX)(a:My.be)(k:Int):fq P w K mg base "go_on_above_zero" 4 ["a","ending"] (pY [Iv CI a,Vi (.int k)] (C4 CX (λ_=>Vi .dH) (My.k6 a k))):=by
 refine T.k6.xQ (N:=["a","ending"]) fR rfl λf bL A ai s H vs Q E X e hr nd hT hp ha hq=>?_;subst e
 match vs,ha with
 |[_,_],⟨h1,rfl,_⟩ =>
 refine af (cn (dI ka (aj (Iv.aA T.T.R) (vI 0 h1)) aH) (λh H1 s1=>?_) (λh H1 s1=>aJ ?_))
 ·rw[My.pf (of_decide_eq_true h)] at hq;exact af (fH (gA T.X) hT rfl hr rfl (aa (ae 1 rfl rfl mo) mo ag) ⟨mo,trivial⟩ rfl (hq.au s1))
 have h:=of_decide_eq_false h;have UR:=Iv.ak _ _ _ s1 h1;refine af (cn (dI lj (aj (Iv.aW T.T.R) (vI 0 UR)) aH) (λh2 H2 s2=>?_) (λh2 H2 s2=>aJ ?_))
 ·rw[My.mv h (of_decide_eq_true h2)] at hq;exact af (fH (gA T.X) hT rfl hr rfl (aa (bV T.left rfl) mo ag) ⟨mo,trivial⟩ rfl (hq.au (s1.trans s2)))
 ·rw[My.sE h (of_decide_eq_false h2)] at hq;exact aJ (hq _ _ (s1.trans s2) rfl)
theorem C5(G:pH P base)(T:Tz K mg CI CT CL CS CP CX NX){pt way:My.bC}{sh:My.mr}{cc qq:Rat}{p:Nat}(sign:Int)(op:pt.Ok)(ow:way.Ok)(hs:My.gP sh cc qq)(bp:My.h9 7500 pt)(bw:My.h9 5000 way)(bs:My.IZ 2000 2000 sh)(hp:p<=256) :
  fq P w K mg base "how_far" 38 ["point","way","shape","sign","p"] (pY [bC CT CI pt,bC CT CI way,Sh CS CI sh,Vi (.int sign),Vi (.int p)] (C4 CX (Iv CI) (My.jq pt way sh sign p))):=by
 refine T.jq.xQ (N:=["point","way","shape","sign","p","c","off","slant","spread","inner","other","both"]) fR rfl λf bL A ai s H vs Q E X e hr nd hT C6 ha hq=>?_;subst e
 match vs,ha with
 |[_,_,_,_,_],⟨h1,h2,h3,rfl,rfl,_⟩ =>
 rw[My.wL] at hq;refine af (aD (i:=5) (aj (Sh.hc T.RS) (ae 2 rfl h3 mo)) (λvc H1 s1 hc=>?_) nd);have US:=bC.ak _ _ _ s1 h1;have Yy:=bC.ak _ _ _ s1 h2;have WD:=Sh.ak _ _ _ s1 h3;refine af (aD (i:=6) (R:=Iv CI (My.wK pt sh p)) (ah (bD G T.T (My.iy (My.aU My.yl bp.z) (My.aU bs.c (My.ky bp bs))) (My.gM (My.ay (My.cZ 2).pos op.z.pos) (My.ay hs.c.ok.pos (My.gS op hs).pos)).pos hp o_) hr rfl
  (aa (ah (mE T.T (My.aU My.yl bp.z) (My.aU bs.c (My.ky bp bs)) o_) hr rfl (aa (ah (bM T.T My.yl bp.z o_) hr rfl (aa (ah (c7 T.T 2) hr rfl (aa aH mo ag)) mo (aa (aj (bC.hz T.RT) (ae 0 rfl US mo)) mo ag))) mo (aa (ah (bM T.T bs.c (My.ky bp bs) o_) hr rfl (aa (vI 5 hc) mo (aa (ah (w6 T.toTr bp bs o_) hr rfl (aa (ae 0 rfl US mo) mo (aa (ae 2 rfl WD mo) mo ag))) mo ag))) mo ag))) mo (aa (ae 4 rfl rfl mo) mo ag))) (λaaN H2 s2 pJ=>?_) nd)
 have Yz:=bC.ak _ _ _ s2 US;have WE:=bC.ak _ _ _ s2 Yy;have WF:=Sh.ak _ _ _ s2 WD;refine af (aD (i:=7) (R:=Iv CI (My.mC pt way sh p)) (ah (qS G T.toTr (My.ja op hs p) ow (My.qI op hs bp bs p) bw hp o_) hr rfl (aa (ah (uI G T.toTr op hs bp bs hp o_) hr rfl (aa (ae 2 rfl WF mo) mo (aa (ae 0 rfl Yz mo) mo (aa (ae 4 rfl rfl mo) mo ag)))) mo (aa (ae 1 rfl WE mo) mo (aa (ae 4 rfl rfl mo) mo ag)))) (λvsl H3 s3 sG=>?_) nd);have YA:=bC.ak _ _ _ s3 WE;have YB:=Sh.ak _ _ _ s3 WF;refine af (aD (i:=8) (R:=Iv CI (My.kD way sh p)) (ah (bD G T.T (My.ky bw bs) (My.gS ow hs).pos hp o_) hr rfl (aa (ah (w6 T.toTr bw bs o_) hr rfl (aa (ae 1 rfl YA mo) mo (aa (ae 2 rfl YB mo) mo ag))) mo (aa (ae 4 rfl rfl mo) mo ag))) (λvsp H4 s4 pW=>?_) nd);obtain⟨o1,b1⟩:=My.Ap op hs bp bs hp;obtain⟨o2,b2⟩:=My.ur op ow hs bp bw bs hp;obtain⟨o3,b3⟩:=My.rB ow hs bw bs hp;have N9:=((s1.trans s2).trans s3).trans s4;have hc:=Iv.ak _ _ _ ((s2.trans s3).trans s4) hc;have pJ:=Iv.ak _ _ _ (s3.trans s4) pJ;have sG:=Iv.ak _ _ _ s4 sG;have oc:=hs.c.ok;have bc:=bs.c;have nc:=hs.c;generalize My.wK pt sh p=off at *;generalize My.mC pt way sh p=ca at *;generalize My.kD way sh p=spread at *;generalize sh.curve=c at *;refine af (aD (i:=9) (R:=Iv CI (My.pw c off ca spread p)) (ah (bD G T.T (My.cP (My.a7 b2) (My.aU (My.aU bc b1) b3)) (My.bU (My.a5 o2.pos) (My.ay (My.ay oc.pos o1.pos).pos o3.pos)).pos hp o_) hr rfl
  (aa (ah (eI T.T (My.a7 b2) (My.aU (My.aU bc b1) b3) o_) hr rfl (aa (ah (cH T.T b2 o_) hr rfl (aa (vI 7 sG) mo ag)) mo (aa (ah (bM T.T (My.aU bc b1) b3 o_) hr rfl (aa (ah (bM T.T bc b1 o_) hr rfl (aa (vI 5 hc) mo (aa (vI 6 pJ) mo ag))) mo (aa (vI 8 pW) mo ag))) mo ag))) mo (aa (ae 4 rfl rfl mo) mo ag))) (λvin H5 s5 GA=>?_) nd)
 obtain⟨oi,bi⟩:=My.ut oc o1 o2 o3 bc b1 b2 b3 hp;have hc:=Iv.ak _ _ _ s5 hc;have pJ:=Iv.ak _ _ _ s5 pJ;have sG:=Iv.ak _ _ _ s5 sG;have pW:=Iv.ak _ _ _ s5 pW;have hq:=hq.au (N9.trans s5);generalize My.pw c off ca spread p=cg at *;clear s1 s2 s3 s4 s5 N9 h1 h2 h3 US Yy WD Yz WE WF YA YB;unfold My.Me at hq;cases hg:My.k6 cg 1 with
 |error k =>
  rw[hg] at hq;exact af (iR (dS (kF T cg 1) (by rw[hg];rfl) hT hr rfl (aa (vI 9 GA) mo (aa (bV T.misses rfl) mo ag))) hq)
 |ok u =>
  rw[hg] at hq;refine af (oR (jH (kF T cg 1) (by rw[hg];rfl) hr rfl (aa (vI 9 GA) mo (aa (bV T.misses rfl) mo ag))) λH6 s6=>?_);have hi:=My.uu hg;have hc:=Iv.ak _ _ _ s6 hc;have pJ:=Iv.ak _ _ _ s6 pJ;have sG:=Iv.ak _ _ _ s6 sG;have pW:=Iv.ak _ _ _ s6 pW;have GA:=Iv.ak _ _ _ s6 GA;have hq:=hq.au s6;refine LJ (λH'=>aM H6 H'/\(if c.aW=0 then My.k6 (My.bZ ca sign) 1 else .ok ())=.ok ()) (cn (dJ (aj (Iv.aW T.T.R) (vI 5 hc)) aH rfl) (λh H7 s7=>?_) (λh H7 s7=>aJ ⟨rfl,s7,?_⟩)) ?_
  ·have h:=of_decide_eq_true h;injection h with h
   rw[if_pos h] at hq ⊢;cases KE:My.k6 (My.bZ ca sign) 1 with
   |error k =>
    rw[KE] at hq;exact af (iR ((dS (kF T (My.bZ ca sign) 1) (by rw[KE];rfl) hT hr rfl (aa (ah (jt T.T ca sign) hr rfl (aa (vI 7 (Iv.ak _ _ _ s7 sG)) mo (aa (ae 3 rfl rfl mo) mo ag))) mo (aa (bV T.misses rfl) mo ag)))) (hq.au s7))
   |ok u =>
    exact af (oR (jH (kF T (My.bZ ca sign) 1) (by rw[KE];rfl) hr rfl (aa (ah (jt T.T ca sign) hr rfl (aa (vI 7 (Iv.ak _ _ _ s7 sG)) mo (aa (ae 3 rfl rfl mo) mo ag))) mo (aa (bV T.misses rfl) mo ag))) λH8 s8=>aJ ⟨rfl,s7.trans s8,rfl⟩)
  ·exact if_neg λz=>absurd h (by rw[z];simp)
  rintro H7 ⟨s7,KE⟩;rw[KE] at hq;dsimp only at hq;have hc:=Iv.ak _ _ _ s7 hc;have pJ:=Iv.ak _ _ _ s7 pJ;have sG:=Iv.ak _ _ _ s7 sG;have pW:=Iv.ak _ _ _ s7 pW;have GA:=Iv.ak _ _ _ s7 GA;have hq:=hq.au s7;obtain⟨oo,bo⟩:=My.uv sign oi hi bi hp;refine af (aD (i:=10) (ah (jt T.T (My.gJ cg p) sign) hr rfl (aa (ah (uG G T.T oi o_ bi hp o_) hr rfl (aa (vI 9 GA) mo (aa (ae 4 rfl rfl mo) mo ag))) mo (aa (ae 3 rfl rfl mo) mo ag))) (λvo H8 s8 ho=>?_) nd);generalize My.bZ (My.gJ cg p) sign=other at *;have hc:=Iv.ak _ _ _ s8 hc;have pJ:=Iv.ak _ _ _ s8 pJ;have sG:=Iv.ak _ _ _ s8 sG;have pW:=Iv.ak _ _ _ s8 pW;have hq:=hq.au s8;refine af (aD (i:=11) (ah (bD G T.T (My.cP b2 bo) (My.bU o2 oo).pos hp o_) hr rfl (aa (ah (eI T.T b2 bo o_) hr rfl (aa (vI 7 sG) mo (aa (vI 10 ho) mo ag))) mo (aa (ae 4 rfl rfl mo) mo ag))) (λvb H9 s9 hb=>?_) nd);obtain⟨ob,bb⟩:=My.wM o2 oo b2 bo hp;generalize My.outward (My.cy ca other) p=both at *;have hc:=Iv.ak _ _ _ s9 hc;have pJ:=Iv.ak _ _ _ s9 pJ;have sG:=Iv.ak _ _ _ s9 sG;have pW:=Iv.ak _ _ _ s9 pW;have ho:=Iv.ak _ _ _ s9 ho;have hq:=hq.au s9;refine af (cn (IC (gf (ah (ma T.T both) hr rfl (aa (vI 11 hb) mo ag)))) (λh SS zf=>?_) (λh SS zf=>aJ ?_))
  ·have hz:My.aV both=false:=by simpa using h
   rw[if_pos hz] at hq;obtain⟨Po,bf1,_⟩:=My.wN o1 ob hz b1 bb hp;exact af (aE (Yd.au (ah (bD G T.T bf1 Po.pos hp o_) hr rfl (aa (ah (iA T.T (My.gO b1) bb o_) hr rfl (aa (ah (eF T.T off) hr rfl (aa (vI 6 pJ) mo ag)) mo (aa (vI 11 hb) mo ag))) mo (aa (ae 4 rfl rfl mo) mo ag))) zf) (hq.au zf))
  have hz:¬My.aV both=false:=by simpa using h
  rw[if_neg hz] at hq;have hq:=hq.au zf;have hc:=Iv.ak _ _ _ zf hc;have sG:=Iv.ak _ _ _ zf sG;have pW:=Iv.ak _ _ _ zf pW;have ho:=Iv.ak _ _ _ zf ho;refine af (cn (wm (dJ (aj (Iv.aW T.T.R) (vI 5 hc)) aH rfl) (λ_=>gf (ah (ma T.T spread) hr rfl (aa (vI 8 pW) mo ag)))) (λh H11 SU=>?_) (λh H11 SU=>aJ ?_))
  ·have h':c.aW=0\/My.aV spread=true:=by
    rcases Bool.or_eq_true _ _ |>.mp h with h |h
    ·have h:=of_decide_eq_true h;injection h with h
     exact .inl h
    ·exact .inr h
   rw[if_pos h'] at hq;exact af (fH (gA T.X) hT rfl hr rfl (aa (bV T.left rfl) mo ag) ⟨mo,trivial⟩ rfl (hq.au SU))
  ·have h':¬(c.aW=0\/My.aV spread=true):=by
    rintro(z |z)
    ·rw[z] at h;simp at h
    ·rw[z] at h;simp at h
   rw[if_neg h'] at hq;have BW:=not_or.mp h';obtain⟨of2,bf2,_⟩:=My.wO nc BW.1 o2 oo o3 (by simpa using BW.2) bc b2 bo b3 hp;exact af (aE (Yd.au (ah (bD G T.T bf2 of2.pos hp o_) hr rfl (aa (ah (iA T.T (My.iy b2 bo) (My.aU bc b3) o_) hr rfl (aa (ah (mE T.T b2 bo o_) hr rfl (aa (vI 7 sG) mo (aa (vI 10 ho) mo ag))) mo (aa (ah (bM T.T bc b3 o_) hr rfl (aa (vI 5 hc) mo (aa (vI 8 pW) mo ag))) mo ag))) mo (aa (ae 4 rfl rfl mo) mo ag))) SU) (hq.au SU))
end
abbrev Li(CL CT CI:Addr)(l:My.a9):Rv:=dG CL nL [bC CT CI l.point,bC CT CI l.way,Iv CI l.index,Vi (.int l.sign)]
theorem Li.ak{CL CT CI:Addr}{l:My.a9}:Mon (Li CL CT CI l):=dG.ak ⟨bC.ak,bC.ak,Iv.ak,Vi.ak _,trivial⟩
def AF:My.mW->V
 |.surface _=>.str "surface"
 |.mirror=>.str "mirror"
 |.gj=>.str "stop"
def iO(CI:Addr):My.mW->Rv
 |.surface g=>z0 (g.map (Iv CI))
 |.mirror=>Vi .dH
 |.gj=>Vi .dH
def qR(CI:Addr):Option My.be->Rv
 |none=>Vi .dH
 |some c=>Iv CI c
theorem yG{CI:Addr}:∀g:List My.be,jl (g.map (Iv CI))
 |[]=>trivial
 |_::g=>⟨Iv.ak,yG g⟩
theorem iO.ak{CI:Addr}:∀{k:My.mW},Mon (iO CI k)
 |.surface g=>Mon.ls (yG g)
 |.mirror=>Vi.ak _
 |.gj=>Vi.ak _
theorem qR.ak{CI:Addr}:∀{k:Option My.be},Mon (qR CI k)
 |none=>Vi.ak _
 |some c=>Iv.ak
abbrev Pa(CP CS CI:Addr)(q:My.cJ):Rv:=dG CP nP [Vi (AF q.kind),Iv CI q.gap,iO CI q.kind,Sh CS CI q.sh,qR CI q.mX]
theorem Pa.ak{CP CS CI:Addr}{q:My.cJ}:Mon (Pa CP CS CI q):=dG.ak ⟨Vi.ak _,Iv.ak,iO.ak,Sh.ak,qR.ak,trivial⟩
section
variable{P:Program}{w:World}{K:Frag}{mg:Str->Option Value}{base:Heap}{CI CT CL CS CP CX NX:Addr}
theorem Li.hp{l:My.a9}(R:jG K mg "Light" sL nL CL):gu K (Li CL CT CI l) "point" (bC CT CI l.point):=dG.has R.cl R.no d_ 0 rfl rfl
theorem Li.hw{l:My.a9}(R:jG K mg "Light" sL nL CL):gu K (Li CL CT CI l) "way" (bC CT CI l.way):=dG.has R.cl R.no d_ 1 rfl rfl
theorem Li.hi{l:My.a9}(R:jG K mg "Light" sL nL CL):gu K (Li CL CT CI l) "index" (Iv CI l.index):=dG.has R.cl R.no d_ 2 rfl rfl
theorem Li.hs{l:My.a9}(R:jG K mg "Light" sL nL CL):gu K (Li CL CT CI l) "sign" (Vi (.int l.sign)):=dG.has R.cl R.no d_ 3 rfl rfl
theorem Pa.hk{q:My.cJ}(R:jG K mg "Part" sP nP CP):gu K (Pa CP CS CI q) "kind" (Vi (AF q.kind)):=dG.has R.cl R.no d_ 0 rfl rfl
theorem Pa.hg{q:My.cJ}(R:jG K mg "Part" sP nP CP):gu K (Pa CP CS CI q) "gap" (Iv CI q.gap):=dG.has R.cl R.no d_ 1 rfl rfl
theorem Pa.vF{q:My.cJ}(R:jG K mg "Part" sP nP CP):gu K (Pa CP CS CI q) "glass" (iO CI q.kind):=dG.has R.cl R.no d_ 2 rfl rfl
theorem Pa.hs{q:My.cJ}(R:jG K mg "Part" sP nP CP):gu K (Pa CP CS CI q) "shape" (Sh CS CI q.sh):=dG.has R.cl R.no d_ 3 rfl rfl
theorem Pa.hl{q:My.cJ}(R:jG K mg "Part" sP nP CP):gu K (Pa CP CS CI q) "limit" (qR CI q.mX):=dG.has R.cl R.no d_ 4 rfl rfl
theorem Mw(G:pH P base)(T:Tz K mg CI CT CL CS CP CX NX){l:My.a9}{q:My.cJ}{p:Nat}(L:My.ym l)(F:My.Aq q)(hp:p<=256) :
  fq P w K mg base "met_point" 39 ["light","part","p"] (pY [Li CL CT CI l,Pa CP CS CI q,Vi (.int p)] (C4 CX (bC CT CI) (My.gp l q p))):=by
 refine T.gp.xQ (N:=["light","part","p","gap","near"]) fR rfl λf bL A ai s H vs Q E X e hr nd hT C6 ha hq=>?_;subst e
 match vs,ha with
 |[_,_,_],⟨h1,h2,rfl,_⟩ =>
 refine af (aD (i:=3) (ah (jt T.T q.gap l.sign) hr rfl (aa (aj (Pa.hg T.RP) (ae 1 rfl h2 Pa.ak)) mo (aa (aj (Li.hs T.RL) (ae 0 rfl h1 Li.ak)) mo ag))) (λvg H1 s1 hg=>?_) nd);obtain⟨o,b,on,bn⟩:=My.wP L F hp;have h1:=Li.ak _ _ _ s1 h1;have h2:=Pa.ak _ _ _ s1 h2;have hq:=hq.au s1;refine af (aD (i:=4) (R:=bC CT CI (My.ia l q p)) (eL (CZ T.RT) hr rfl (aa (aj (bC.hx (t:=l.point) T.RT) (aj (Li.hp T.RL) (ae 0 rfl h1 Li.ak))) mo (aa (aj (bC.hy (t:=l.point) T.RT) (aj (Li.hp T.RL) (ae 0 rfl h1 Li.ak))) mo (aa (ah (bD G T.T b o.pos hp o_) hr rfl (aa (ah (eI T.T L.bp.z (My.gO (My.mq F.bg l.sign)) o_) hr rfl (aa (aj (bC.hz T.RT) (aj (Li.hp T.RL) (ae 0 rfl h1 Li.ak))) mo (aa (ah (eF T.T (My.bZ q.gap l.sign)) hr rfl (aa (vI 3 hg) mo ag)) mo ag))) mo (aa (ae 2 rfl rfl mo) mo ag))) mo ag))) ⟨mo,mo,mo,trivial⟩ rfl) (λvn H2 s2 hn=>?_) nd);have h1:=Li.ak _ _ _ s2 h1;have h2:=Pa.ak _ _ _ s2 h2;have hq:=hq.au s2;obtain⟨cc,qq,hs⟩:=F.hs;unfold My.gp at hq;generalize My.ia l q p=near at *;have C:=C5 (P:=P) (w:=w) (base:=base) G T l.sign on L.ow hs bn L.bw F.bs hp;cases e:My.jq near l.way q.sh l.sign p with
 |error k =>
  rw[e] at hq C;exact af (dh (wo T.JN.any hT hr rfl
   (xP (ae 4 rfl hn bC.ak) (oQ (dS C rfl hT hr rfl (aa (ae 4 rfl hn mo) mo (aa (aj (Li.hw T.RL) (ae 0 rfl h1 Li.ak)) mo (aa (aj (Pa.hs T.RP) (ae 1 rfl h2 Pa.ak)) mo (aa (aj (Li.hs T.RL) (ae 0 rfl h1 Li.ak)) mo (aa (ae 2 rfl rfl mo) mo ag))))))))) hq)
 |ok t =>
  rw[e] at hq C;obtain⟨ot,bt⟩:=My.rC on L.ow hs bn L.bw F.bs hp e;exact af (aE (ah (nQ G T.toTr on ot L.ow bn bt L.bw hp o_) hr rfl (aa (ae 4 rfl hn mo) mo (aa (jH C rfl hr rfl (aa (ae 4 rfl hn mo) mo (aa (aj (Li.hw T.RL) (ae 0 rfl h1 Li.ak)) mo (aa (aj (Pa.hs T.RP) (ae 1 rfl h2 Pa.ak)) mo (aa (aj (Li.hs T.RL) (ae 0 rfl h1 Li.ak)) mo (aa (ae 2 rfl rfl mo) mo ag)))))) mo (aa (aj (Li.hw T.RL) (ae 0 rfl h1 Li.ak)) mo (aa (ae 2 rfl rfl mo) mo ag))))) hq)
theorem Mx{X:Cx}{σ:L2.St}{H:Hp}{pos:Pos}{D:cT}(h:D.rt .dH H):jk X (.Return none pos) D σ H:=PS.do KW h
theorem GB(G:pH P base)(T:Tz K mg CI CT CL CS CP CX NX){pt:My.bC}{p:Nat}(pX:Option My.be)(o:pt.Ok)(b:My.h9 567000 pt)(hl:∀c,pX=some c->c.Ok/\My.Bd 2000 c)(hp:p<=256) :
  fq P w K mg base "pass_limit" 36 ["point","limit","p"] (pY [bC CT CI pt,qR CI pX,Vi (.int p)] (C4 CX (λ_=>Vi .dH) (My.f9 pt pX p))):=by
 refine T.f9.xQ (N:=["point","limit","p","most","away"]) fR rfl λf bL A ai s H vs Q E X e hr nd hT C6 ha hq=>?_;subst e
 match vs,ha with
 |[_,v1,_],⟨h1,h2,rfl,_⟩ =>
 cases pX with
 |none =>
  obtain rfl:v1=.dH:=h2;refine af (cn (IB (ae 1 rfl rfl mo)) (λh H1 s1=>af (Mx (hq _ _ s1 rfl))) (λh H1 s1=>absurd h (by simp)))
 |some c =>
  obtain⟨oc,bc⟩:=hl c rfl;obtain⟨pc,dc,rfl,hc⟩:=id h2;have h2:Iv CI c (.ref pc) H:=h2;refine af (cn (IB (ae 1 rfl rfl mo)) (λh H1 s1=>absurd h (by simp)) (λh H1 s1=>aJ ?_));have h1:=bC.ak _ _ _ s1 h1;have h2:=Iv.ak _ _ _ s1 h2;have hq:=hq.au s1;refine af (aD (i:=3) (ah (cH T.T bc o_) hr rfl (aa (vI 1 h2) mo ag)) (λvm H2 s2 hm=>?_) nd);have h1:=bC.ak _ _ _ s2 h1;have hq:=hq.au s2;obtain⟨oa,ba,ow,bw⟩:=My.Gc hp o b;refine af (aD (i:=4) (ah (bD G T.T ba oa.pos hp o_) hr rfl (aa (ah (eI T.T (My.a7 b.x) (My.a7 b.y) o_) hr rfl (aa (ah (cH T.T b.x o_) hr rfl (aa (aj (bC.hx T.RT) (ae 0 rfl h1 mo)) mo ag)) mo (aa (ah (cH T.T b.y o_) hr rfl (aa (aj (bC.hy T.RT) (ae 0 rfl h1 mo)) mo ag)) mo ag))) mo (aa (ae 2 rfl rfl mo) mo ag))) (λva H3 s3 hv=>?_) nd);have hm:=Iv.ak _ _ _ s3 hm;have hq:=hq.au s3;have bm:=My.a7 bc;unfold My.f9 at hq;dsimp only at hq;generalize My.outward (My.cy (My.ao pt.x) (My.ao pt.y)) p=away at *;generalize My.ao c=most at *;refine af (cn (gf (ah (rG T.T bw.aW bw.size bm o_) hr rfl (aa (aj (Iv.aW T.T.R) (vI 4 hv)) mo (aa (aj (Iv.size T.T.R) (vI 4 hv)) mo (aa (vI 3 hm) mo ag))))) (λh H4 s4=>?_) (λh H4 s4=>aJ ?_))
  ·rw[if_pos h] at hq;exact af (fH (gA T.X) hT rfl hr rfl (aa (bV T.blocked rfl) mo ag) ⟨mo,trivial⟩ rfl (hq.au s4))
  rw[if_neg (by rw[h];exact Bool.false_ne_true)] at hq;have hv:=Iv.ak _ _ _ s4 hv;have hm:=Iv.ak _ _ _ s4 hm;have hq:=hq.au s4;refine af (cn (gf (ah (rG T.T bw.aA bw.size bm o_) hr rfl (aa (aj (Iv.aA T.T.R) (vI 4 hv)) mo (aa (aj (Iv.size T.T.R) (vI 4 hv)) mo (aa (vI 3 hm) mo ag))))) (λh2 H5 s5=>?_) (λh2 H5 s5=>aJ ?_))
  ·rw[if_pos h2] at hq;exact af (fH (gA T.X) hT rfl hr rfl (aa (bV T.left rfl) mo ag) ⟨mo,trivial⟩ rfl (hq.au s5))
  ·rw[if_neg (by rw[h2];exact Bool.false_ne_true)] at hq;exact aJ (hq _ _ s5 rfl)
theorem yH(G:pH P base)(T:Tz K mg CI CT CL CS CP CX NX){way ac:My.bC}{size:My.be}{p:Nat}(ow:way.Ok)(bw:My.h9 5000 way)(oa:ac.Ok)(ba:My.h9 572000 ac)(os:size.Ok)(hz:My.aV size=false)(bs:My.Bd 3433000 size)(hp:p<=256) :
  fq P w K mg base "mirrored" 37 ["way","across","size","p"] (jx [bC CT CI way,bC CT CI ac,Iv CI size,Vi (.int p)] (bC CT CI (My.jr way ac size p))):=by
 refine T.jr.pure (N:=["way","across","size","p","share"]) fR rfl λf bL A ai s H vs X e hr nd ha=>?_;subst e
 match vs,ha with
 |[_,_,_,_],⟨h1,h2,h3,rfl,_⟩ =>
 obtain⟨ol,bl⟩:=My.uw hp oa ba ow bw;obtain⟨o1,b1,o2,b2⟩:=My.Cu hp ol os hz bl bs;refine af (aD (i:=4) (ah (bD G T.T b1 o1.pos hp o_) hr rfl (aa (ah (iA T.T (My.aU My.yn bl) bs o_) hr rfl (aa (ah (bM T.T My.yn bl o_) hr rfl (aa (ah (c7 T.T (-2)) hr rfl (aa (jW aH) mo ag)) mo (aa (ah (qS G T.toTr oa ow ba bw hp o_) hr rfl (aa (ae 1 rfl h2 mo) mo (aa (ae 0 rfl h1 mo) mo (aa (ae 3 rfl rfl mo) mo ag)))) mo ag))) mo (aa (vI 2 h3) mo ag))) mo (aa (ae 3 rfl rfl mo) mo ag))) (λvs H1 s1 hs=>?_) nd);have h1:=bC.ak _ _ _ s1 h1;have h2:=bC.ak _ _ _ s1 h2;exact af (aE (ah (nQ G T.toTr ow o2 oa bw b2 ba hp o_) hr rfl (aa (ae 0 rfl h1 mo) mo (aa (vI 4 hs) mo (aa (ae 1 rfl h2 mo) mo (aa (ae 3 rfl rfl mo) mo ag))))) λv H' s r=>⟨s1.trans s,r⟩)
theorem JO(G:pH P base)(T:Tz K mg CI CT CL CS CP CX NX){l:My.a9}{ac:My.bC}{size index:My.be}{p:Nat}(L:My.ym l)(oa:ac.Ok)(ba:My.h9 572000 ac)(os:size.Ok)(hz:My.aV size=false)(bs:My.Bd 3433000 size)(oi:index.Ok)(bi:My.Bd 2000 index)(WG:My.aV index=false)(hp:p<=256) :
  fq P w K mg base "bent" 38 ["light","across","size","index","p"] (pY [Li CL CT CI l,bC CT CI ac,Iv CI size,Iv CI index,Vi (.int p)] (C4 CX (bC CT CI) (My.vC l ac size index p))):=by
 refine T.vC.xQ (N:=["light","across","size","index","p","before","along","inner","turn","share","way"]) fR rfl λf bL A ai s H vs Q E X e hr nd hT C6 ha hq=>?_;subst e
 match vs,ha with
 |[_,_,_,_,_],⟨h1,h2,h3,h4,rfl,_⟩ =>
 refine af (aD (i:=5) (ah (cH T.T L.bi o_) hr rfl (aa (aj (Li.hi T.RL) (ae 0 rfl h1 mo)) mo ag)) (λvb H1 s1 hb=>?_) nd);have h1:=Li.ak _ _ _ s1 h1;have h2:=bC.ak _ _ _ s1 h2;obtain⟨ol,bl⟩:=My.uw hp oa ba L.ow L.bw;refine af (aD (i:=6) (ah (qS G T.toTr oa L.ow ba L.bw hp o_) hr rfl (aa (ae 1 rfl h2 mo) mo (aa (aj (Li.hw T.RL) (ae 0 rfl h1 mo)) mo (aa (ae 4 rfl rfl mo) mo ag)))) (λva H2 s2 Ri=>?_) nd);have h1:=Li.ak _ _ _ s2 h1;have h2:=bC.ak _ _ _ s2 h2;have h3:=Iv.ak _ _ _ (s1.trans s2) h3;have h4:=Iv.ak _ _ _ (s1.trans s2) h4;have hb:=Iv.ak _ _ _ s2 hb;have hq:=hq.au (s1.trans s2);obtain⟨o1,b1,YC,YD⟩:=My.Jo hp L.oi ol os oi L.bi bl bs bi;unfold My.vC My.yc My.ib at hq;generalize My.bY ac l.way p=along at *;refine af (aD (i:=7) (ah (bD G T.T b1 o1.pos hp o_) hr rfl (aa (ah (eI T.T (My.aU (My.a7 L.bi) (My.a7 bl)) (My.aU (My.iy (My.a7 bi) (My.a7 L.bi)) bs) o_) hr rfl
  (aa (ah (bM T.T (My.a7 L.bi) (My.a7 bl) o_) hr rfl (aa (vI 5 hb) mo (aa (ah (cH T.T bl o_) hr rfl (aa (vI 6 Ri) mo ag)) mo ag))) mo (aa (ah (bM T.T (My.iy (My.a7 bi) (My.a7 L.bi)) bs o_) hr rfl (aa (ah (mE T.T (My.a7 bi) (My.a7 L.bi) o_) hr rfl (aa (ah (cH T.T bi o_) hr rfl (aa (vI 3 h4) mo ag)) mo (aa (vI 5 hb) mo ag))) mo (aa (vI 2 h3) mo ag))) mo ag))) mo (aa (ae 4 rfl rfl mo) mo ag))) (λvin H3 s3 GA=>?_) nd)
 have h1:=Li.ak _ _ _ s3 h1;have h2:=bC.ak _ _ _ s3 h2;have h3:=Iv.ak _ _ _ s3 h3;have h4:=Iv.ak _ _ _ s3 h4;have Ri:=Iv.ak _ _ _ s3 Ri;have hq:=hq.au s3;generalize My.outward (My.cy (My.aO (My.ao l.index) (My.ao along)) (My.aO (My.dM (My.ao index) (My.ao l.index)) size)) p=cg at *;cases hg:My.k6 cg 3 with
 |error k =>
  rw[hg] at hq;exact af (iR (dS (kF T cg 3) (by rw[hg];rfl) hT hr rfl (aa (vI 7 GA) mo (aa (bV T.uH rfl) mo ag))) hq)
 |ok u =>
  rw[hg] at hq;dsimp only at hq;refine af (oR (jH (kF T cg 3) (by rw[hg];rfl) hr rfl (aa (vI 7 GA) mo (aa (bV T.uH rfl) mo ag))) λH4 s4=>?_);have hi:=My.uu hg;have h1:=Li.ak _ _ _ s4 h1;have h2:=bC.ak _ _ _ s4 h2;have h3:=Iv.ak _ _ _ s4 h3;have h4:=Iv.ak _ _ _ s4 h4;have Ri:=Iv.ak _ _ _ s4 Ri;have GA:=Iv.ak _ _ _ s4 GA;have hq:=hq.au s4;obtain⟨bro,ot,bt⟩:=My.Ge l.sign hp YC hi YD L.oi ol L.bi bl;refine af (aD (i:=8) (ah (mE T.T bro (My.aU L.bi bl) o_) hr rfl (aa (ah (jt T.T (My.gJ cg p) l.sign) hr rfl (aa (ah (uG G T.T YC o_ YD hp o_) hr rfl (aa (vI 7 GA) mo (aa (ae 4 rfl rfl mo) mo ag))) mo (aa (aj (Li.hs T.RL) (ae 0 rfl h1 mo)) mo ag))) mo (aa (ah (bM T.T L.bi bl o_) hr rfl (aa (aj (Li.hi T.RL) (ae 0 rfl h1 mo)) mo (aa (vI 6 Ri) mo ag))) mo ag))) (λvt H5 s5 ht=>?_) nd);have h1:=Li.ak _ _ _ s5 h1;have h2:=bC.ak _ _ _ s5 h2;have h3:=Iv.ak _ _ _ s5 h3;have h4:=Iv.ak _ _ _ s5 h4;have hq:=hq.au s5;generalize My.dM (My.bZ (My.gJ cg p) l.sign) (My.aO l.index along)=turn at *;obtain⟨o5,b5,YE,YF⟩:=My.Jp hp ot os hz bt bs;refine af (aD (i:=9) (ah (bD G T.T b5 o5.pos hp o_) hr rfl (aa (ah (iA T.T bt bs o_) hr rfl (aa (vI 8 ht) mo (aa (vI 2 h3) mo ag))) mo (aa (ae 4 rfl rfl mo) mo ag))) (λWH H6 s6 WI=>?_) nd);have h1:=Li.ak _ _ _ s6 h1;have h2:=bC.ak _ _ _ s6 h2;have h4:=Iv.ak _ _ _ s6 h4;have hq:=hq.au s6;generalize My.outward (My.c9 turn size) p=share at *;obtain⟨o6,b6,o7,b7⟩:=My.Gf hp L.ow oa L.oi YE L.bw ba L.bi YF;refine af (aD (i:=10) (ah (nQ G T.toTr o6 YE oa b6 YF ba hp o_) hr rfl (aa (ah (m8 T.toTr L.bw L.bi o_) hr rfl (aa (aj (Li.hw T.RL) (ae 0 rfl h1 mo)) mo (aa (aj (Li.hi T.RL) (ae 0 rfl h1 mo)) mo ag))) mo (aa (vI 9 WI) mo (aa (ae 1 rfl h2 mo) mo (aa (ae 4 rfl rfl mo) mo ag))))) (λvw H7 s7 hw=>?_) nd);have h4:=Iv.ak _ _ _ s7 h4;have hq:=hq.au s7;generalize My.cv (My.cR l.way l.index) share ac p=way at *;obtain⟨o8,b8,o9,b9⟩:=My.Gg o7 oi WG b7 bi;exact af (aE (ah (rH G T.toTr o9 b9 hp o_) hr rfl (aa (ah (m8 T.toTr b7 b8 o_) hr rfl (aa (ae 10 rfl hw mo) mo (aa (ah (iA T.T My.fM bi o_) hr rfl (aa (ah (c7 T.T 1) hr rfl (aa aH mo ag)) mo (aa (vI 3 h4) mo ag))) mo ag))) mo (aa (ae 4 rfl rfl mo) mo ag))) hq)
end
section
variable{P:Program}{w:World}{K:Frag}{mg:Str->Option Value}{base:Heap}{CI CT CL CS CP CX NX:Addr}
theorem r0{x y:Str}:decide (V.str x=V.str y)=decide (x=y):=by
 by_cases h:x=y
 ·rw[h];simp
 ·rw[decide_eq_false h,decide_eq_false λz=>h (V.str.inj z)]
theorem C7(G:pH P base)(T:Tz K mg CI CT CL CS CP CX NX){l:My.a9}{q:My.cJ}{line p:Nat}(L:My.ym l)(F:My.Aq q)(hg:∀g,q.kind=.surface g->line<g.length)(hp:p<=256) :
  fq P w K mg base "behind_part" 40 ["light","part","line","p"] (pY [Li CL CT CI l,Pa CP CS CI q,Vi (.int line),Vi (.int p)] (C4 CX (Li CL CT CI) (My.cj l q line p))):=by
 refine T.cj.xQ (N:=["light","part","line","p","point","across","size","index"]) fR rfl λf bL A ai s H vs Q E X e hr nd hT C6 ha hq=>?_;subst e
 match vs,ha with
 |[_,_,_,_],⟨h1,h2,rfl,rfl,_⟩ =>
 unfold My.cj at hq;have C:=Mw (P:=P) (w:=w) (base:=base) G T L F hp;cases em:My.gp l q p with
 |error k =>
  rw[em] at hq C;exact af (lR (i:=4) (dS C rfl hT hr rfl (aa (ae 0 rfl h1 mo) mo (aa (ae 1 rfl h2 mo) mo (aa (ae 3 rfl rfl mo) mo ag)))) hq nd)
 |ok pt =>
 rw[em] at hq C;dsimp only at hq;obtain⟨op,bp⟩:=My.Jm L F hp em;refine af (aD (i:=4) (jH C rfl hr rfl (aa (ae 0 rfl h1 mo) mo (aa (ae 1 rfl h2 mo) mo (aa (ae 3 rfl rfl mo) mo ag)))) (λvp H1 s1 m9=>?_) nd);have h1:=Li.ak _ _ _ s1 h1;have h2:=Pa.ak _ _ _ s1 h2;have hq:=hq.au s1;obtain⟨cc,qq,hs⟩:=F.hs;obtain⟨oa,ba⟩:=My.Jn F hp op bp;refine af (aD (i:=5) (ah (uI G T.toTr op hs bp F.bs hp o_) hr rfl (aa (aj (Pa.hs T.RP) (ae 1 rfl h2 mo)) mo (aa (ae 4 rfl m9 mo) mo (aa (ae 3 rfl rfl mo) mo ag)))) (λva H2 s2 ug=>?_) nd);have h1:=Li.ak _ _ _ s2 h1;have h2:=Pa.ak _ _ _ s2 h2;have m9:=bC.ak _ _ _ s2 m9;have hq:=hq.au s2;unfold My.pi at hq;generalize My.cD q.sh pt p=ac at *;refine af (cn (dI lj (aj (Iv.aA T.T.R) (aj (bC.hz T.RT) (ae 5 rfl ug mo))) aH) (λh H3 s3=>?_) (λh H3 s3=>aJ ?_))
 ·rw[if_pos (of_decide_eq_true h)] at hq;exact af (fH (gA T.X) hT rfl hr rfl (aa (bV T.misses rfl) mo ag) ⟨mo,trivial⟩ rfl (hq.au s3))
 rw[if_neg (of_decide_eq_false h)] at hq;have h1:=Li.ak _ _ _ s3 h1;have h2:=Pa.ak _ _ _ s3 h2;have m9:=bC.ak _ _ _ s3 m9;have ug:=bC.ak _ _ _ s3 ug;have hq:=hq.au s3;refine af (cn (dI lj (aj (Iv.aW T.T.R) (aj (bC.hz T.RT) (ae 5 rfl ug mo))) aH) (λh H4 s4=>?_) (λh H4 s4=>aJ ?_))
 ·rw[if_pos (of_decide_eq_true h)] at hq;exact af (fH (gA T.X) hT rfl hr rfl (aa (bV T.left rfl) mo ag) ⟨mo,trivial⟩ rfl (hq.au s4))
 rw[if_neg (of_decide_eq_false h)] at hq;have h1:=Li.ak _ _ _ s4 h1;have h2:=Pa.ak _ _ _ s4 h2;have m9:=bC.ak _ _ _ s4 m9;have ug:=bC.ak _ _ _ s4 ug;have hq:=hq.au s4;have Cl:=GB (P:=P) (w:=w) (base:=base) G T q.mX op bp F.pX hp;cases el:My.f9 pt q.mX p with
 |error k =>
  rw[el] at hq Cl;exact af (iR (dS Cl rfl hT hr rfl (aa (ae 4 rfl m9 mo) mo (aa (aj (Pa.hl T.RP) (ae 1 rfl h2 mo)) mo (aa (ae 3 rfl rfl mo) mo ag)))) hq)
 |ok u =>
 rw[el] at hq Cl;dsimp only at hq;refine af (oR (jH Cl rfl hr rfl (aa (ae 4 rfl m9 mo) mo (aa (aj (Pa.hl T.RP) (ae 1 rfl h2 mo)) mo (aa (ae 3 rfl rfl mo) mo ag)))) λH5 s5=>?_);have h1:=Li.ak _ _ _ s5 h1;have h2:=Pa.ak _ _ _ s5 h2;have m9:=bC.ak _ _ _ s5 m9;have ug:=bC.ak _ _ _ s5 ug;have hq:=hq.au s5;have sk:BH (AF q.kind) (.str "stop")=true:=by cases q.kind <;> rfl
 have sk2:BH (AF q.kind) (.str "mirror")=true:=by cases q.kind <;> rfl
 refine af (cn (dJ (aj (Pa.hk T.RP) (ae 1 rfl h2 mo)) a8 sk) (λh H6 s6=>?_) (λh H6 s6=>aJ ?_))
 ·have ek:q.kind=.gj:=by
   have h:=of_decide_eq_true h;cases ek:q.kind with
   |gj=>rfl
   |mirror=>rw[ek] at h;exact absurd (V.str.inj h) d_
   |surface g=>rw[ek] at h;exact absurd (V.str.inj h) d_
  rw[ek] at hq;dsimp only at hq;exact af (aE (Yd.au (eL (JM T.RL) hr rfl (aa (ae 4 rfl m9 mo) mo (aa (aj (Li.hw T.RL) (ae 0 rfl h1 mo)) mo (aa (aj (Li.hi T.RL) (ae 0 rfl h1 mo)) mo (aa (aj (Li.hs T.RL) (ae 0 rfl h1 mo)) mo ag)))) ⟨mo,mo,mo,mo,trivial⟩ rfl) s6) (hq.au s6))
 have nk:q.kind≠.gj:=λz=>by rw[z] at h;exact absurd h d_
 have h1:=Li.ak _ _ _ s6 h1;have h2:=Pa.ak _ _ _ s6 h2;have m9:=bC.ak _ _ _ s6 m9;have ug:=bC.ak _ _ _ s6 ug;have hq:=hq.au s6;obtain⟨os,bs⟩:=My.size_fits hp oa ba;refine af (aD (i:=6) (ah (uJ G T.toTr oa ba hp o_) hr rfl (aa (ae 5 rfl ug mo) mo (aa (ae 3 rfl rfl mo) mo ag))) (λvsz H7 s7 hsz=>?_) nd);have h1:=Li.ak _ _ _ s7 h1;have h2:=Pa.ak _ _ _ s7 h2;have m9:=bC.ak _ _ _ s7 m9;have ug:=bC.ak _ _ _ s7 ug;have hq:=hq.au s7;generalize My.bW ac p=size at *;refine af (cn (dI lj (aj (Iv.aW T.T.R) (vI 6 hsz)) aH) (λh8 H8 s8=>?_) (λh8 H8 s8=>aJ ?_))
 ·have h8:=of_decide_eq_true h8;have hq:z3 (C4 CX (Li CL CT CI) (.error 4)) H7 Q E:=by
   cases ek:q.kind with
   |gj=>exact absurd ek nk
   |mirror=>rw[ek] at hq;dsimp only at hq;rw[if_pos h8] at hq;exact hq
   |surface g=>rw[ek] at hq;dsimp only at hq;rw[if_pos h8] at hq;exact hq
  exact af (fH (gA T.X) hT rfl hr rfl (aa (bV T.left rfl) mo ag) ⟨mo,trivial⟩ rfl (hq.au s8))
 have h8:=of_decide_eq_false h8;have hz:=My.gy h8;have h1:=Li.ak _ _ _ s8 h1;have h2:=Pa.ak _ _ _ s8 h2;have m9:=bC.ak _ _ _ s8 m9;have ug:=bC.ak _ _ _ s8 ug;have hsz:=Iv.ak _ _ _ s8 hsz;have hq:=hq.au s8;refine af (cn (dJ (aj (Pa.hk T.RP) (ae 1 rfl h2 mo)) a8 sk2) (λh H9 s9=>?_) (λh H9 s9=>aJ ?_))
 ·have ek:q.kind=.mirror:=by
   have h:=of_decide_eq_true h;cases ek:q.kind with
   |mirror=>rfl
   |gj=>rw[ek] at h;exact absurd (V.str.inj h) d_
   |surface g=>rw[ek] at h;exact absurd (V.str.inj h) d_
  rw[ek] at hq;dsimp only at hq;rw[if_neg h8] at hq;exact af (aE (Yd.au (eL (JM T.RL) hr rfl (aa (ae 4 rfl m9 mo) mo (aa (ah (yH G T L.ow L.bw oa ba os hz bs hp) hr rfl (aa (aj (Li.hw T.RL) (ae 0 rfl h1 mo)) mo (aa (ae 5 rfl ug mo) mo (aa (vI 6 hsz) mo (aa (ae 3 rfl rfl mo) mo ag))))) mo (aa (aj (Li.hi T.RL) (ae 0 rfl h1 mo)) mo (aa (jW (aj (Li.hs T.RL) (ae 0 rfl h1 mo))) mo ag)))) ⟨mo,mo,mo,mo,trivial⟩ rfl) s9) (hq.au s9))
 have nk2:q.kind≠.mirror:=λz=>by rw[z] at h;exact absurd h d_
 have h1:=Li.ak _ _ _ s9 h1;have h2:=Pa.ak _ _ _ s9 h2;have m9:=bC.ak _ _ _ s9 m9;have ug:=bC.ak _ _ _ s9 ug;have hsz:=Iv.ak _ _ _ s9 hsz;have hq:=hq.au s9;cases ek:q.kind with
 |gj=>exact absurd ek nk
 |mirror=>exact absurd ek nk2
 |surface g =>
 rw[ek] at hq;dsimp only at hq;rw[if_neg h8] at hq;have fS:=hg g ek;have eg:g[line]?=some (g.getD line (My.ap 1)):=by rw[List.getD_eq_getElem?_getD,List.getElem?_eq_getElem fS];rfl
 have WJ:g.getD line (My.ap 1)∈g:=List.mem_of_getElem? eg;obtain⟨oi,bi,WG⟩:=F.glass g ek _ WJ;have er:(g.map (Iv CI))[line]?=some (Iv CI (g.getD line (My.ap 1))):=by rw[List.getElem?_map,eg];rfl
 generalize g.getD line (My.ap 1)=index at *;have vF:=Pa.vF (K:=K) (mg:=mg) (CS:=CS) (CI:=CI) (q:=q) T.RP;rw[ek] at vF;refine af (aD (i:=7) (R:=Iv CI index) (qC (aj vF (ae 1 rfl h2 mo)) (yG g) (ae 2 rfl rfl mo) er) (λvi SS zf PL=>?_) nd);have h1:=Li.ak _ _ _ zf h1;have m9:=bC.ak _ _ _ zf m9;have ug:=bC.ak _ _ _ zf ug;have hsz:=Iv.ak _ _ _ zf hsz;have hq:=hq.au zf;have Cb:=JO (P:=P) (w:=w) (base:=base) G T L oa ba os hz bs oi bi WG hp;cases eb:My.vC l ac size index p with
 |error k =>
  rw[eb] at hq Cb;exact af (dh (FO (JM T.RL) hr rfl (xP (ae 4 rfl m9 bC.ak) (oQ (dS Cb rfl hT hr rfl (aa (ae 0 rfl h1 mo) mo (aa (ae 5 rfl ug mo) mo (aa (vI 6 hsz) mo (aa (vI 7 PL) mo (aa (ae 3 rfl rfl mo) mo ag))))))))) hq)
 |ok w' =>
  rw[eb] at hq Cb;exact af (aE (eL (JM T.RL) hr rfl (aa (ae 4 rfl m9 mo) mo (aa (jH Cb rfl hr rfl (aa (ae 0 rfl h1 mo) mo (aa (ae 5 rfl ug mo) mo (aa (vI 6 hsz) mo (aa (vI 7 PL) mo (aa (ae 3 rfl rfl mo) mo ag)))))) mo (aa (vI 7 PL) mo (aa (aj (Li.hs T.RL) (ae 0 rfl h1 mo)) mo ag)))) ⟨mo,mo,mo,mo,trivial⟩ rfl) hq)
end
section
variable{P:Program}{w:World}{K:Frag}{mg:Str->Option Value}{base:Heap}{CI CT CL CS CP CX NX:Addr}
abbrev JP(CI:Addr)(x y u v:My.be):Rv:=z0 [Iv CI x,Iv CI y,Iv CI u,Iv CI v]
theorem JP.ak{x y u v:My.be}:Mon (JP CI x y u v):=Mon.ls ⟨Iv.ak,Iv.ak,Iv.ak,Iv.ak,trivial⟩
theorem GC(G:pH P base)(T:Tz K mg CI CT CL CS CP CX NX){x y u v index:My.be}{qu qv:Rat}{p:Nat}(hu:My.bK u qu)(hv:My.bK v qv)(bu:My.Bd 100 u)(bv:My.Bd 100 v)(hp:p<=256) :
  fq P w K mg base "start_light" 37 ["start","index","p"] (jx [JP CI x y u v,Iv CI index,Vi (.int p)] (Li CL CT CI (My.cA x y u v index p))):=by
 refine T.cA.pure (N:=["start","index","p","u","v","w","z","way"]) fR rfl λf bL A ai s H vs X e hr nd ha=>?_;subst e
 match vs,ha with
 |[_,_,_],⟨h1,h2,rfl,_⟩ =>
 rw[My.Jr];refine af (aD (i:=3) (R:=Iv CI u) (qC (Rs:=[Iv CI x,Iv CI y,Iv CI u,Iv CI v]) (k:=2) (ae 0 rfl h1 JP.ak) ⟨Iv.ak,Iv.ak,Iv.ak,Iv.ak,trivial⟩ aH rfl) (λvu H1 s1 Rj=>?_) nd);have h1:=JP.ak _ _ _ s1 h1;refine af (aD (i:=4) (R:=Iv CI v) (qC (Rs:=[Iv CI x,Iv CI y,Iv CI u,Iv CI v]) (k:=3) (ae 0 rfl h1 JP.ak) ⟨Iv.ak,Iv.ak,Iv.ak,Iv.ak,trivial⟩ aH rfl) (λvv H2 s2 UT=>?_) nd);have Rj:=Iv.ak _ _ _ s2 Rj;obtain⟨oO,NY,bO,ow,hz,bw⟩:=My.Ey hu hv bu bv hp;obtain⟨o3,_⟩:=My.Jq hu hv;refine af (aD (i:=5) (R:=Iv CI (My.Mf u v p)) (ah (uG G T.T oO NY bO hp o_) hr rfl (aa (ah (bD G T.T (My.k4 My.fM (My.a7 bu) (My.a7 bv)) o3.pos hp o_) hr rfl (aa (ah (pI T.toTr My.fM (My.a7 bu) (My.a7 bv) o_) hr rfl (aa (ah (c7 T.T 1) hr rfl (aa aH mo ag)) mo (aa (ah (cH T.T bu o_) hr rfl (aa (vI 3 Rj) mo ag)) mo (aa (ah (cH T.T bv o_) hr rfl (aa (vI 4 UT) mo ag)) mo ag)))) mo (aa (ae 2 rfl rfl mo) mo ag))) mo (aa (ae 2 rfl rfl mo) mo ag))) (λvw H3 s3 hvw=>?_) nd);generalize My.Mf u v p=w' at *;obtain⟨o4,b4,oz,bz⟩:=My.Ez ow hz bw hp;refine af (aD (i:=6) (ah (bD G T.T b4 o4.pos hp o_) hr rfl (aa (ah (iA T.T My.fM bw o_) hr rfl (aa (ah (c7 T.T 1) hr rfl (aa aH mo ag)) mo (aa (vI 5 hvw) mo ag))) mo (aa (ae 2 rfl rfl mo) mo ag))) (λvz H4 s4 WK=>?_) nd);generalize My.outward (My.c9 (My.ap 1) w') p=z at *;have Rj:=Iv.ak _ _ _ (s3.trans s4) Rj;have UT:=Iv.ak _ _ _ (s3.trans s4) UT;obtain⟨o5,b5,_⟩:=My.sM hu.ok oz bu bz hp;obtain⟨o6,b6,_⟩:=My.sM hv.ok oz bv bz hp;refine af (aD (i:=7) (R:=bC CT CI ⟨My.outward (My.aO u z) p,My.outward (My.aO v z) p,z⟩) (eL (CZ T.RT) hr rfl (aa (ah (bD G T.T b5 o5.pos hp o_) hr rfl (aa (ah (bM T.T bu bz o_) hr rfl (aa (vI 3 Rj) mo (aa (vI 6 WK) mo ag))) mo (aa (ae 2 rfl rfl mo) mo ag))) mo (aa (ah (bD G T.T b6 o6.pos hp o_) hr rfl (aa (ah (bM T.T bv bz o_) hr rfl (aa (vI 4 UT) mo (aa (vI 6 WK) mo ag))) mo (aa (ae 2 rfl rfl mo) mo ag))) mo (aa (vI 6 WK) mo ag))) ⟨mo,mo,mo,trivial⟩ rfl) (λvy H5 s5 V8=>?_) nd);have h1:=JP.ak _ _ _ (((s2.trans s3).trans s4).trans s5) h1;have h2:=Iv.ak _ _ _ ((((s1.trans s2).trans s3).trans s4).trans s5) h2;refine af (aE (R:=Li CL CT CI ⟨⟨x,y,My.ap 0⟩,⟨My.outward (My.aO u z) p,My.outward (My.aO v z) p,z⟩,index,1⟩) (eL (JM T.RL) hr rfl (aa (eL (CZ T.RT) hr rfl (aa (R:=Iv CI x) (qC (Rs:=[Iv CI x,Iv CI y,Iv CI u,Iv CI v]) (k:=0) (ae 0 rfl h1 JP.ak) ⟨Iv.ak,Iv.ak,Iv.ak,Iv.ak,trivial⟩ aH rfl) mo (aa (R:=Iv CI y) (qC (Rs:=[Iv CI x,Iv CI y,Iv CI u,Iv CI v]) (k:=1) (ae 0 rfl h1 JP.ak) ⟨Iv.ak,Iv.ak,Iv.ak,Iv.ak,trivial⟩ aH rfl) mo (aa (ah (c7 T.T 0) hr rfl (aa aH mo ag)) mo ag))) ⟨mo,mo,mo,trivial⟩ rfl) mo (aa (ae 7 rfl V8 mo) mo (aa (vI 1 h2) mo (aa aH mo ag)))) ⟨mo,mo,mo,mo,trivial⟩ rfl) λv H' s r=>⟨((((s1.trans s2).trans s3).trans s4).trans s5).trans s,r⟩)
end
structure X0(K:Frag)(mg:Str->Option Value)(x:Str)(C N:Addr):Prop where
 xc:XC K C N
 at_:mg x=some (.ref C)
 init:nsIn K N "__init__"=some none
structure Tn(K:Frag)(mg:Str->Option Value)(CI CN NN CG NG:Addr):Prop where
 T:Ti K mg CI
 fJ:X0 K mg "NotTaken" CN NN
 kG:X0 K mg "TooGreat" CG NG
 isDigit:fA K mg "is_digit" (top 31) ["byte"]
 am:fA K mg "digits_end" (top 32) ["text","place"]
 a6:fA K mg "digits_value" (top 33) ["text","place","behind"]
 dC:fA K mg "pointed_value" (top 34) ["text","place","point","behind"]
 vG:fA K mg "common_measure" (top 35) ["a","b"]
 aZ:fA K mg "least_terms" (top 36) ["top","bottom"]
 cE:fA K mg "unsigned_value" (top 37) ["text","place"]
 az:fA K mg "handed_over" (top 38) ["text"]
 exactText:fA K mg "exact_text" (top 39) ["top","bottom"]
 point:nO mg "POINT" 46
 P7:nO mg "STROKE" 47
 dM:nO mg "MINUS" 45
 Mz:nO mg "LONGEST_HANDED_OVER" 512
 below:nO mg "HANDED_OVER_BELOW" 1000000000000000000
 told:nO mg "TOLD_BITS" 4096
 len:mg "len"=none
 range:mg "range"=none
 Uw:mg "abs"=none
 str:mg "str"=none
section
variable{P:Program}{w:World}{K:Frag}{mg:Str->Option Value}{base:Heap}{CI CN NN CG NG:Addr}
theorem jR(T:Tn K mg CI CN NN CG NG)(c:UInt8):fq P w K mg base "is_digit" 1 ["byte"] (jx [Vi (.int (c.toNat:Int))] (Vi (.bl (Ln.Num.isDigit c)))):=by
 refine T.isDigit.pure (N:=["byte"]) fR rfl λf bL A ai s H vs X e hr nd ha=>?_;subst e
 match vs,ha with
 |[_],⟨rfl,_⟩ =>
 refine af (aE ((oP lj lj aH (ae 0 rfl rfl mo) aH).to ?_) λv H' s r=>⟨s,r⟩);unfold Ln.Num.isDigit;congr 2
 ·exact decide_eq_decide.mpr o_
 ·exact decide_eq_decide.mpr o_
theorem il(T:Tn K mg CI CN NN CG NG)(b:List UInt8)(i:Nat)(hi:i<=b.length):fq P w K mg base "digits_end" 2 ["text","place"] (jx [Tx K b,Vi (.int i)] (Vi (.int (My.am b i:Nat)))):=by
 refine T.am.pure (N:=["text","place"]) fR rfl λf bL A ai s H vs X e hr nd ha=>?_;subst e;obtain⟨vt,_,rfl,ht,rfl⟩:=lT ha;refine ii (λσ H'=>σ=[some vt,some (.int (My.am b i:Nat))]/\aM H H') (iq PassesOwn.never (λm σ H'=>∃j:Nat,σ=[some vt,some (.int j)]/\aM H H'/\j<=b.length/\My.am b j=My.am b i/\m=b.length - j) _ ⟨i,rfl,sm,hi,rfl,rfl⟩ ?_) ?_
 ·rintro m σ H1 ⟨j,rfl,s1,hj,hd,rfl⟩;have sO:=Tx.ak _ _ _ s1 ht
  by_cases fS:j<b.length
  ·obtain⟨c,hc⟩:∃c,b[j]?=some c:=⟨_,List.getElem?_eq_getElem fS⟩
   refine Yt.run (qB (dI ka (ae 1 rfl rfl mo) (eE rfl T.len (ae 0 rfl sO Tx.ak))) (λ_=>gf (ah (jR T c) hr rfl (aa (gg (ae 0 rfl sO Tx.ak) (ae 1 rfl rfl mo) hc) mo ag)))) λH2 s2=>?_;rw[decide_eq_true (by omega:((j:Nat):Int)<(b.length:Nat)),Bool.true_and];cases Bz:Ln.Num.isDigit c with
   |true =>
    rw[if_pos rfl];refine af (oS (i:=1) rfl aH (λH3 s3=>aJ ⟨b.length - (j+1),by omega,j+1,rfl,(s1.trans s2).trans s3,fS,?_,rfl⟩) nd);rw[My.yo hc Bz,hd]
   |false =>
    rw[if_neg Bool.false_ne_true];exact⟨by rw[<-hd,My.yp hc Bz],s1.trans s2⟩
  ·refine Yt.run (qB (l:=false) (dI ka (ae 1 rfl rfl mo) (eE rfl T.len (ae 0 rfl sO Tx.ak))) (λh=>absurd (of_decide_eq_true h) o_)) λH2 s2=>?_;rw[Bool.and_false,if_neg Bool.false_ne_true];exact⟨by rw[<-hd,My.Cy o_],s1.trans s2⟩
 ·rintro σ H2 ⟨rfl,s2⟩;exact af (aE (R:=Vi (.int (My.am b i:Nat))) (ae 1 rfl rfl mo) λv H' s r=>⟨s2.trans s,r⟩)
theorem d8(T:Tn K mg CI CN NN CG NG)(b:List UInt8)(i j:Nat)(UJ:i<=j)(hj:j<2^60)(hd:∀k,i<=k->k<j->∃c,b[k]?=some c/\Ln.Num.isDigit c=true):fq P w K mg base "digits_value" 1 ["text","place","behind"] (jx [Tx K b,Vi (.int i),Vi (.int j)] (Vi (.int (My.a6 b i j:Nat)))):=by
 refine T.a6.pure (N:=["text","place","behind","value","k"]) fR rfl λf bL A ai s H vs X e hr nd ha=>?_;subst e;obtain⟨vt,_,_,rfl,ht,rfl,rfl⟩:=IJ ha;refine af (aD (i:=3) aH (λv0 H1 s1 h0=>?_) nd);subst h0;refine af (z4 (i:=4) (lo:=i) (hi:=j) PassesOwn.never rfl rfl T.range (ae 1 rfl rfl mo) (ae 2 rfl rfl mo) o_ UJ (λn σ H'=>aM H H'/\∃vk,σ=[some vt,some (.int i),some (.int j),some (.int (My.a6 b i (i+n):Nat)),vk]) (λH2 s2=>⟨s1.trans s2,none,by rw[Nat.add_zero,My.Js];rfl⟩) ?_ ?_ nd)
 ·rintro n σ H2 hn ⟨s2,vk,rfl⟩;obtain⟨c,hc,hdc⟩:=hd (i+n) o_ hn;obtain⟨aaX,aaY⟩:=My.Mg hdc;have mF:=Tx.ak _ _ _ s2 ht;refine af (aD (i:=3) (R:=Vi (.int (My.a6 b i (i+(n+1)):Nat))) ((dw tF (dw ff (cN HG (ae 3 rfl rfl mo) aH (.inr ⟨by decide,by decide⟩)) (gg (ae 0 rfl mF Tx.ak) (ae 4 rfl rfl mo) hc)) aH).to ?_) (λv3 H3 s3 h3=>?_) nd)
  ·rw[show i+(n+1)=i+n+1 by omega,My.EB o_ hc];congr 1;omega
  subst h3;exact aJ ⟨s2.trans s3,_,rfl⟩
 ·rintro σ H2 ⟨s2,vk,rfl⟩;rw[show i+(j - i)=j by omega];exact af (aE (R:=Vi (.int (My.a6 b i j:Nat))) (ae 3 rfl rfl mo) λv H' s r=>⟨s2.trans s,r⟩)
end
section
variable{P:Program}{w:World}{K:Frag}{mg:Str->Option Value}{base:Heap}{CI CN NN CG NG:Addr}
theorem C8{n k:Nat}(h:n<10^k):((n:Nat):Int).natAbs<2^(4*k+1):=by
 rw[Int.natAbs_natCast];exact Nat.lt_trans h (My.Jt k)
theorem rJ(T:Tn K mg CI CN NN CG NG)(b:List UInt8)(i m j:Nat)(him:i<=m)(WL:m+1<=j)(hj:j<2^60)(h1:∀k,i<=k->k<m->∃c,b[k]?=some c/\Ln.Num.isDigit c=true)(h2:∀k,m+1<=k->k<j->∃c,b[k]?=some c/\Ln.Num.isDigit c=true)
  (l1:m - i<=600)(l2:j - (m+1)<=600):fq P w K mg base "pointed_value" 4 ["text","place","point","behind"] (jx [Tx K b,Vi (.int i),Vi (.int m),Vi (.int j)] (Iv CI (My.dC b i m j))):=by
 refine T.dC.pure (N:=["text","place","point","behind","bottom","k","top"]) fR rfl λf bL A ai s H vs X e hr nd ha=>?_;subst e;obtain⟨vt,_,_,_,rfl,ht,rfl,rfl,rfl⟩:=LK ha;refine af (aD (i:=4) aH (λv0 H1 s1 h0=>?_) nd);subst h0;refine ii (λσ H'=>aM H H'/\∃vk,σ=[some vt,some (.int i),some (.int m),some (.int j),some (.int ((10^(j - (m+1)):Nat):Int)),vk,none]) (z4 (i:=5) (lo:=m+1) (hi:=j) PassesOwn.never rfl rfl T.range ((dw ff (ae 2 rfl rfl mo) aH).to (by rfl)) (ae 3 rfl rfl mo) o_ WL
  (λn σ H'=>aM H H'/\∃vk,σ=[some vt,some (.int i),some (.int m),some (.int j),some (.int ((10^n:Nat):Int)),vk,none]) (λH2 s2=>⟨s1.trans s2,none,rfl⟩) ?_ (λσ H' h=>h) nd) ?_
 ·rintro n σ H2 hn ⟨s2,vk,rfl⟩;refine af (aD (i:=4) (R:=Vi (.int ((10^(n+1):Nat):Int))) ((cN HG (ae 4 rfl rfl mo) aH (.inr ⟨by decide,by decide⟩)).to ?_) (λv3 H3 s3 h3=>?_) nd)
  ·rw[Nat.pow_succ];rfl
  subst h3;exact aJ ⟨s2.trans s3,_,rfl⟩
 ·rintro σ H2 ⟨s2,vk,rfl⟩;have mF:=Tx.ak _ _ _ s2 ht;have d1:=My.N0 h1 (m - i) o_;rw[show i+(m - i)=m by omega] at d1;have b1:=C8 d1;have b2:(((10^(j - (m+1)):Nat):Int)).natAbs<2^(4*(j - (m+1))+1):=by rw[Int.natAbs_natCast];exact My.Jt _
  refine af (aD (i:=6) (R:=Vi (.int ((My.a6 b i m*10^(j - (m+1))+My.a6 b (m+1) j:Nat):Int))) (Yd.to (dw ff (cN cF (ah (d8 T b i m him o_ h1) hr rfl (aa (ae 0 rfl mF Tx.ak) Tx.ak (aa (ae 1 rfl rfl mo) mo (aa (ae 2 rfl rfl mo) mo ag)))) (ae 4 rfl rfl mo) (iM b1 b2 o_))
   (ah (d8 T b (m+1) j WL hj h2) hr rfl (aa (ae 0 rfl mF Tx.ak) Tx.ak (aa ((dw ff (ae 2 rfl rfl mo) aH).to (by rfl)) mo (aa (ae 3 rfl rfl mo) mo ag))))) (by rfl)) (λv3 H3 s3 h3=>?_) nd)
  subst h3;exact af (aE (R:=Iv CI (My.dC b i m j)) (ah (lf T.T _ _) hr rfl (aa (ae 6 rfl rfl mo) mo (aa (ae 4 rfl rfl mo) mo ag))) λv H' s r=>⟨(s2.trans s3).trans s,r⟩)
theorem AG(T:Tn K mg CI CN NN CG NG)(x y:Nat):fq P w K mg base "common_measure" 1 ["a","b"] (jx [Vi (.int x),Vi (.int y)] (Vi (.int (Nat.gcd x y:Nat)))):=by
 refine T.vG.pure (N:=["a","b","rest"]) fR rfl λf bL A ai s H vs X e hr nd ha=>?_;subst e;obtain⟨_,_,rfl,rfl,rfl⟩:=lT ha;refine ii (λσ H'=>aM H H'/\∃vk,σ=[some (.int (Nat.gcd x y:Nat)),some (.int (0:Nat)),vk]) (iq PassesOwn.never (λm σ H'=>∃(p q:Nat) (vk:Option V),σ=[some (.int p),some (.int q),vk]/\aM H H'/\Nat.gcd p q=Nat.gcd x y/\m=q) _ ⟨x,y,none,rfl,sm,rfl,rfl⟩ ?_) ?_
 ·rintro m σ H1 ⟨p,q,vk,rfl,s1,hg,rfl⟩;refine Yt.run (rk (ae 1 rfl rfl mo) aH rfl) λH2 s2=>?_
  by_cases hq:m=0
  ·subst hq;rw[show (!decide (V.int ((0:Nat):Int)=V.int 0))=false by decide,if_neg Bool.false_ne_true];rw[Nat.gcd_zero_right] at hg;subst hg;exact⟨s1.trans s2,vk,rfl⟩
  ·have vq:((m:Nat):Int)≠0:=by omega
   rw[show (!decide (V.int ((m:Nat):Int)=V.int 0))=true by
    rw[decide_eq_false λz=>vq (V.int.inj z)];rfl,if_pos rfl]
   refine af (aD (i:=2) (R:=Vi (.int ((p % m:Nat):Int))) ((cN K0 (ae 0 rfl rfl mo) (ae 1 rfl rfl mo) vq).to ?_) (λv3 H3 s3 h3=>?_) nd)
   ·rw[Int.fmod_eq_emod_of_nonneg _ o_];rfl
   subst h3;refine af (aD (i:=0) (ae 1 rfl rfl v_) (λv4 H4 s4 h4=>?_) nd);subst h4;refine af (aD (i:=1) (ae 2 rfl rfl v_) (λv5 H5 s5 h5=>?_) nd);subst h5;refine aJ ⟨p % m,Nat.mod_lt _ o_,m,p % m,_,rfl,(((s1.trans s2).trans s3).trans s4).trans s5,?_,rfl⟩;rw[<-hg,Nat.gcd_comm p m,Nat.gcd_rec m p,Nat.gcd_comm]
 ·rintro σ H2 ⟨s2,vk,rfl⟩;exact af (aE (ae 0 rfl rfl v_) λv H' s r=>⟨s2.trans s,r⟩)
abbrev C9(x y:Int):Rv:=SG [Vi (.int x),Vi (.int y)]
theorem C9.ak{x y:Int}:Mon (C9 x y):=Mon.tp ⟨Vi.ak _,Vi.ak _,trivial⟩
theorem w9(G:pH P base)(T:Tn K mg CI CN NN CG NG)(t d:Int)(hd:0<d):fq P w K mg base "least_terms" 33 ["top","bottom"] (jx [Vi (.int t),Vi (.int d)] (C9 (My.aZ t d).1 (My.aZ t d).2)):=by
 refine T.aZ.pure (N:=["top","bottom","measure"]) fR rfl λf bL A ai s H vs X e hr nd ha=>?_;subst e;obtain⟨_,_,rfl,rfl,rfl⟩:=lT ha;obtain⟨hg,e1,e2⟩:=My.Ju (t:=t) hd;have WM:V.int (if t<0 then -t else t)=V.int ((t.natAbs:Nat):Int):=by congr 1;split <;> omega
 have edd:V.int d=V.int ((d.natAbs:Nat):Int):=by congr 1;omega
 refine af (aD (i:=2) (R:=Vi (.int (Int.gcd t d:Nat))) (ah (AG T t.natAbs d.natAbs) hr rfl (aa (Pl rfl T.Uw (ae 0 rfl rfl mo) WM) mo (aa ((ae 1 rfl rfl mo).to edd) mo ag))) (λv3 H3 s3 h3=>?_) nd);subst h3;exact af (aE (R:=C9 (My.aZ t d).1 (My.aZ t d).2) (ID (aa ((cN (gF G.bs G.tree rfl (hr.LI d_)) (ae 0 rfl rfl mo) (ae 2 rfl rfl mo) o_).to (by rw[e1])) mo (aa ((cN (gF G.bs G.tree rfl (hr.LI d_)) (ae 1 rfl rfl mo) (ae 2 rfl rfl mo) o_).to (by rw[e2])) mo ag)) ⟨mo,mo,trivial⟩ (by show 2<=1000;decide)) λv H' s r=>⟨s3.trans s,r⟩)
end
section
variable{P:Program}{w:World}{K:Frag}{mg:Str->Option Value}{base:Heap}{CI CN NN CG NG:Addr}
def MA(CI CN:Addr):Option My.be->Except Ex Rv
 |some v=>.ok (Iv CI v)
 |none=>.error (IH CN)
theorem eJ{m n:Nat}:decide (V.int (m:Int)=V.int (n:Int))=decide (m=n):=by
 by_cases h:m=n
 ·rw[h];simp
 ·rw[decide_eq_false h,decide_eq_false λz=>h (by have:=V.int.inj z;omega)]
theorem im{b:List UInt8}{m:Nat}{c d:UInt8}(h:b[m]?=some c):decide (V.int (c.toNat:Int)=V.int (d.toNat:Int))=decide (b[m]?=some d):=by
 rw[h]
 by_cases e:c=d
 ·rw[e];simp
 ·rw[decide_eq_false λz=>e (Option.some.inj z),decide_eq_false λz=>e (UInt8.toNat_inj.mp (by have:=V.int.inj z;omega))]
theorem yI(T:Tn K mg CI CN NN CG NG)(b:List UInt8)(i:Nat)(hi:i<=b.length)(hb:b.length<=512):fq P w K mg base "unsigned_value" 5 ["text","place"] (pY [Tx K b,Vi (.int i)] (MA CI CN (My.cE b i))):=by
 refine T.cE.xQ (N:=["text","place","middle","behind","bottom"]) fR rfl λf bL A ai s H vs Q E X e hr nd hT C6 ha hq=>?_;subst e;obtain⟨vt,_,rfl,ht,rfl⟩:=lT ha;have raise:∀{σ:L2.St} {H':Hp} {D:cT} {np gE pos:Pos},aM H H'->My.cE b i=none->jk (lw P w K mg base ["text","place","middle","behind","bottom"] "unsigned_value" (ax (top 37)) f bL A ai s H E) (.Raise (some (.Call (.Name "NotTaken" np) [] [] gE)) none pos) D σ H':=λs' e=>by
  rw[e] at hq;exact ml T.fJ.xc T.fJ.init T.fJ.at_ hT rfl rfl (hq.au s')
 have hm:=My.gT b hi;have Ms:=My.EA b i;have dg:=λk h1 h2=>My.l7 (b:=b) _ i k rfl h1 h2;refine af (aD (i:=2) (ah (il T b i hi) hr rfl (aa (ae 0 rfl ht Tx.ak) Tx.ak (aa (ae 1 rfl rfl mo) mo ag))) (λv1 H1 s1 h1=>?_) nd);subst h1;have xb:=hq.au s1;have sO:=Tx.ak _ _ _ s1 ht;unfold My.cE at xb raise;dsimp only at xb raise;generalize My.am b i=m at *;refine af (cn (dJ (ae 2 rfl rfl v_) (ae 1 rfl rfl v_) rfl) (λh H2 s2=>af (raise (s1.trans s2) ?_)) (λh H2 s2=>aJ ?_))
 ·rw[eJ] at h;rw[if_pos (of_decide_eq_true h)]
 rw[eJ] at h;have vq:=of_decide_eq_false h;rw[if_neg vq] at xb raise;have mF:=Tx.ak _ _ _ s2 sO;have rK:=xb.au s2;refine af (cn (dJ (ae 2 rfl rfl v_) (eE rfl T.len (ae 0 rfl mF Tx.ak)) rfl) (λh H3 s3=>?_) (λh H3 s3=>aJ ?_))
 ·rw[eJ] at h;rw[if_pos (of_decide_eq_true h)] at rK;have xf:=Tx.ak _ _ _ s3 mF;exact af (aE (ah (lf T.T _ 1) hr rfl (aa (ah (d8 T b i m Ms o_ dg) hr rfl (aa (ae 0 rfl xf Tx.ak) Tx.ak (aa (ae 1 rfl rfl mo) mo (aa (ae 2 rfl rfl mo) mo ag)))) mo (aa aH mo ag))) (rK.au s3))
 rw[eJ] at h;have hml:=of_decide_eq_false h;rw[if_neg hml] at rK raise;have xf:=Tx.ak _ _ _ s3 mF;have AH:=rK.au s3;have fS:m<b.length:=by omega
 have IN:=My.gT b (i:=m+1) fS;have MB:=My.EA b (m+1);have UU:=λk h1 h2=>My.l7 (b:=b) _ (m+1) k rfl h1 h2;obtain⟨c,hc⟩:∃c,b[m]?=some c:=⟨_,List.getElem?_eq_getElem fS⟩
 refine af (aD (i:=3) (ah (il T b (m+1) fS) hr rfl (aa (ae 0 rfl xf Tx.ak) Tx.ak (aa (Yd.to (dw ff (ae 2 rfl rfl mo) aH) (by rfl)) mo ag))) (λv4 H4 s4 h4=>?_) nd);subst h4;have MC:=Tx.ak _ _ _ s4 xf;have sQ:=AH.au s4;have xi:=((s1.trans s2).trans s3).trans s4;generalize My.am b (m+1)=j at *;refine af (cn (wm (dJ (ae 3 rfl rfl v_) (Yd.to (y:=.int ((m+1:Nat):Int)) (dw ff (ae 2 rfl rfl mo) aH) (by rfl)) rfl) (λ_=>dI ka (ae 3 rfl rfl v_) (eE rfl T.len (ae 0 rfl MC Tx.ak)))) (λh H5 s5=>af (raise (xi.trans s5) ?_)) (λh H5 s5=>aJ ?_))
 ·rw[eJ] at h;refine if_pos ?_;rcases Bool.or_eq_true _ _ |>.mp h with h |h
  ·exact .inl (of_decide_eq_true h)
  ·exact .inr (by have:=of_decide_eq_true h;omega)
 rw[eJ] at h;have WN:¬(j=m+1\/j<b.length):=by
  rintro(z |z)
  ·rw[decide_eq_true z] at h;cases h
  ·rw[decide_eq_true (by omega:((j:Nat):Int)<(b.length:Nat)),Bool.or_true] at h;cases h
 rw[if_neg WN] at sQ raise;have P8:=Tx.ak _ _ _ s5 MC;have Rk:=sQ.au s5;refine af (cn (dJ (gg (ae 0 rfl P8 Tx.ak) (ae 2 rfl rfl mo) hc) (bV T.point rfl) rfl) (λh H6 s6=>?_) (λh H6 s6=>aJ ?_))
 ·rw[show V.int 46=V.int (((46:UInt8).toNat:Nat):Int) from rfl,im hc] at h;rw[if_pos (of_decide_eq_true h)] at Rk;have P9:=Tx.ak _ _ _ s6 P8;exact af (aE (ah (rJ T b i m j Ms MB o_ dg UU o_ o_) hr rfl (aa (ae 0 rfl P9 Tx.ak) Tx.ak (aa (ae 1 rfl rfl mo) mo (aa (ae 2 rfl rfl mo) mo (aa (ae 3 rfl rfl mo) mo ag))))) (Rk.au s6))
 rw[show V.int 46=V.int (((46:UInt8).toNat:Nat):Int) from rfl,im hc] at h;rw[if_neg (of_decide_eq_false h)] at Rk raise;have P9:=Tx.ak _ _ _ s6 P8;have Oa:=Rk.au s6;refine af (aD (i:=4) (ah (d8 T b (m+1) j MB o_ UU) hr rfl (aa (ae 0 rfl P9 Tx.ak) Tx.ak (aa (Yd.to (dw ff (ae 2 rfl rfl mo) aH) (by rfl)) mo (aa (ae 3 rfl rfl mo) mo ag)))) (λv7 H7 s7 h7=>?_) nd);subst h7;have Ts:=Tx.ak _ _ _ s7 P9;have Qb:=Oa.au s7;have Ob:=((xi.trans s5).trans s6).trans s7;generalize My.a6 b (m+1) j=bot at *;refine af (cn (wm (rk (gg (ae 0 rfl Ts Tx.ak) (ae 2 rfl rfl mo) hc) (bV T.P7 rfl) rfl) (λ_=>dJ (ae 4 rfl rfl v_) (Yd.to (y:=.int ((0:Nat):Int)) aH (by rfl)) rfl)) (λh H8 s8=>af (raise (Ob.trans s8) ?_)) (λh H8 s8=>aJ ?_))
 ·rw[show V.int 47=V.int (((47:UInt8).toNat:Nat):Int) from rfl,im hc,eJ] at h;refine if_pos ?_;rcases Bool.or_eq_true _ _ |>.mp h with h |h
  ·exact .inl (by simpa using h)
  ·exact .inr (of_decide_eq_true h)
 rw[show V.int 47=V.int (((47:UInt8).toNat:Nat):Int) from rfl,im hc,eJ] at h;have WO:¬(b[m]?≠some 47\/bot=0):=by
  rintro(z |z)
  ·rw[decide_eq_false z] at h;cases h
  ·rw[decide_eq_true z,Bool.or_true] at h;cases h
 rw[if_neg WO] at Qb;have Tu:=Tx.ak _ _ _ s8 Ts;exact af (aE (ah (lf T.T _ _) hr rfl (aa (ah (d8 T b i m Ms o_ dg) hr rfl (aa (ae 0 rfl Tu Tx.ak) Tx.ak (aa (ae 1 rfl rfl mo) mo (aa (ae 2 rfl rfl mo) mo ag)))) mo (aa (ae 4 rfl rfl mo) mo ag))) (Qb.au s8))
end
section
variable{P:Program}{w:World}{K:Frag}{mg:Str->Option Value}{base:Heap}{CI CN NN CG NG:Addr}
theorem Db(G:pH P base)(T:Tn K mg CI CN NN CG NG)(b:List UInt8):fq P w K mg base "handed_over" 34 ["text"] (pY [Tx K b] (MA CI CN (My.az b))):=by
 refine T.az.xQ (N:=["text","below_zero","value","terms"]) fR rfl λf bL A ai s H vs Q E X e hr nd hT C6 ha hq=>?_;subst e;obtain⟨vt,rfl,ht⟩:=lS ha;have raise:∀{σ:L2.St} {H':Hp} {D:cT} {np gE pos:Pos},aM H H'->My.az b=none->jk (lw P w K mg base ["text","below_zero","value","terms"] "handed_over" (ax (top 38)) f bL A ai s H E) (.Raise (some (.Call (.Name "NotTaken" np) [] [] gE)) none pos) D σ H':=λs' e=>by
  rw[e] at hq;exact ml T.fJ.xc T.fJ.init T.fJ.at_ hT rfl rfl (hq.au s')
 unfold My.az at hq raise;dsimp only at hq raise;refine af (cn (wm (dJ (eE rfl T.len (ae 0 rfl ht Tx.ak)) (Yd.to (y:=.int ((0:Nat):Int)) aH (by rfl)) rfl) (λ_=>dI re (eE rfl T.len (ae 0 rfl ht Tx.ak)) (bV T.Mz rfl))) (λh H1 s1=>af (raise s1 ?_)) (λh H1 s1=>aJ ?_))
 ·rw[eJ] at h;refine if_pos ?_;rcases Bool.or_eq_true _ _ |>.mp h with h |h
  ·exact .inl (of_decide_eq_true h)
  ·exact .inr (by have:=of_decide_eq_true h;omega)
 rw[eJ] at h;have WN:¬(b.length=0\/512<b.length):=by
  rintro(z |z)
  ·rw[decide_eq_true z] at h;cases h
  ·rw[decide_eq_true (by omega:(512:Int)<(b.length:Nat)),Bool.or_true] at h;cases h
 rw[if_neg WN] at hq raise;have hb0:0<b.length:=by omega
 have YG:b.length<=512:=by omega
 obtain⟨c,hc⟩:∃c,b[0]?=some c:=⟨_,List.getElem?_eq_getElem hb0⟩
 have sO:=Tx.ak _ _ _ s1 ht;have xb:=hq.au s1;refine af (aD (i:=1) (R:=Vi (.bl (decide (b[0]?=some 45)))) (Yd.to (wk (gg (k:=0) (ae 0 rfl sO Tx.ak) aH hc) (bV T.dM rfl) rfl) (congrArg V.bl (im (d:=45) hc))) (λv2 H2 s2 h2=>?_) nd);subst h2;have mF:=Tx.ak _ _ _ s2 sO;have rK:=xb.au s2;have nU:=s1.trans s2;have YH:(if b[0]?=some 45 then 1 else 0)<=b.length:=by split <;> omega
 have arg:∀{X:Cx} {σ:L2.St} {p1 p2 p3 p4:Pos} {j1 j2:Nat} {x:Str},Yt X σ H2 (.Name x p1) (decide (b[0]?=some 45))->Yd X σ H2 (.IfExp (.Name x p1) (.Constant (.int 1) j1 p2) (.Constant (.int 0) j2 p3) p4) (Vi (.int ((if b[0]?=some 45 then 1 else 0:Nat):Int))):=λh =>
  tT h (λe=>Yd.to aH (by rw[if_pos (of_decide_eq_true e)];rfl)) (λe=>Yd.to aH (by rw[if_neg (of_decide_eq_false e)];rfl))
 have C:=yI (P:=P) (w:=w) (base:=base) T b _ YH YG;have ps:=My.qJ b _ YH YG;cases eu:My.cE b (if b[0]?=some 45 then 1 else 0) with
 |none =>
  rw[eu] at rK C;exact af (lR (i:=2) (dS C rfl hT hr rfl (aa (ae 0 rfl mF Tx.ak) Tx.ak (aa (arg (gf (ae 1 rfl rfl v_))) v_ ag))) rK nd)
 |some u =>
 rw[eu] at rK C ps raise;dsimp only at rK ps raise;obtain⟨_,_,hsz,_⟩:=ps;refine af (aD (i:=2) (jH C rfl hr rfl (aa (ae 0 rfl mF Tx.ak) Tx.ak (aa (arg (gf (ae 1 rfl rfl v_))) v_ ag))) (λv3 H3 s3 h3=>?_) nd);have AH:=rK.au s3;refine af (aD (i:=3) (ah (w9 G T u.aW u.size hsz) hr rfl (aa (aj (Iv.aW T.T.R) (vI 2 h3)) mo (aa (aj (Iv.size T.T.R) (vI 2 h3)) mo ag))) (λv4 H4 s4 h4=>?_) nd);have sQ:=AH.au s4;have xi:=(nU.trans s3).trans s4;generalize My.aZ u.aW u.size=t at *;refine af (cn (dI RZ (LL rfl rfl T.T.mx (ae 3 rfl h4 C9.ak)) (bV T.below rfl)) (λh H5 s5=>af (raise (xi.trans s5) ?_)) (λh H5 s5=>aJ ?_))
 ·exact if_pos (of_decide_eq_true h)
 have e18:(10:Int)^18=1000000000000000000:=by decide
 rw[if_neg (show ¬(10:Int)^18<=max t.1 t.2 from λz=>of_decide_eq_false h (by rw[e18] at z;exact z))] at sQ;have h5:=C9.ak _ _ _ s5 h4;have m2:jl [Vi (.int t.1),Vi (.int t.2)]:=⟨Vi.ak _,Vi.ak _,trivial⟩
 refine af (aE (ah (lf T.T (if b[0]?=some 45 then -t.1 else t.1) t.2) hr rfl (aa (tT (gf (ae 1 rfl rfl v_)) (λe=>Yd.to (jW (i:=t.1) (nw (k:=0) (ae 3 rfl h5 C9.ak) m2 aH rfl)) (by rw[if_pos (of_decide_eq_true e)])) (λe=>Yd.to (x:=.int t.1) (nw (k:=0) (ae 3 rfl h5 C9.ak) m2 aH rfl) (by rw[if_neg (of_decide_eq_false e)]))) v_
  (aa (R:=Vi (.int t.2)) (nw (k:=1) (ae 3 rfl h5 C9.ak) m2 aH rfl) v_ ag))) (sQ.au s5))
end
section
variable{P:Program}{w:World}{K:Frag}{mg:Str->Option Value}{base:Heap}{CI CN NN CG NG:Addr}
theorem nV(i:Int):(Str.ofString (toString i)).cps.toList=My.fg i:=by
 rw[Str.ofString_eq_toList];unfold My.fg;rfl
theorem Qc(x:Str):x.length=x.cps.toList.length:=by
 show x.cps.size=_;simp
theorem JQ{d:Int}(h:0<d):(Str.ofString (toString d)=("1":Str))↔d=1:=by
 constructor
 ·intro e;refine(My.yf h).mp ?_;rw[<-nV,e];rfl
 ·intro e;subst e;rfl
theorem pK{i:Int}(h:i.natAbs<2^4096):(Str.ofString (toString i)).length<=4097:=by
 rw[Qc,nV];exact My.yh d_ (Nat.lt_of_lt_of_le h (Nat.pow_le_pow_left d_ _))
def MD(t d:Int):Str:=if d=1 then toString t else Str.ofString (toString t)++("/":Str)++Str.ofString (toString d)
def ME(CG:Addr)(t:Int×Int):Except Ex Rv:=if t.1.natAbs<2^4096/\t.2.natAbs<2^4096 then .ok (Vi (.str (MD t.1 t.2))) else .error (IH CG)
theorem xj(G:pH P base)(T:Tn K mg CI CN NN CG NG)(t d:Int)(hd:0<d):fq P w K mg base "exact_text" 34 ["top","bottom"] (pY [Vi (.int t),Vi (.int d)] (ME CG (My.aZ t d))):=by
 refine T.exactText.xQ (N:=["top","bottom","terms","above","below"]) fR rfl λf bL A ai s H vs Q E X e hr nd hT C6 ha hq=>?_;subst e;obtain⟨_,_,rfl,rfl,rfl⟩:=lT ha;have Mr:0<(My.aZ t d).2:=by
  rw[My.mw hd];have:=Rat.den_pos ((t:Rat) / (d:Rat));show (0:Int)<((((t:Rat) / (d:Rat)).den:Nat):Int);omega
 refine af (aD (i:=2) (ah (w9 G T t d hd) hr rfl (aa (ae 0 rfl rfl mo) mo (aa (ae 1 rfl rfl mo) mo ag))) (λv1 H1 s1 h1=>?_) nd);have xb:=hq.au s1;generalize My.aZ t d=u at *;obtain⟨t1,t2⟩:=u;dsimp only at *;have m2:jl [Vi (.int t1),Vi (.int t2)]:=⟨Vi.ak _,Vi.ak _,trivial⟩
 refine af (cn (dI re (LM rfl rfl T.T.mx (xO (i:=t1) (nw (k:=0) (ae 2 rfl h1 C9.ak) m2 aH rfl)) (xO (i:=t2) (nw (k:=1) (ae 2 rfl h1 C9.ak) m2 aH rfl))) (bV T.told rfl)) (λh H2 s2=>?_) (λh H2 s2=>aJ ?_))
 ·have h:=of_decide_eq_true h;have hn:¬(t1.natAbs<2^4096/\t2.natAbs<2^4096):=by
   rintro⟨z1,z2⟩;have w1:=intBits_le_iff.mpr z1;have w2:=intBits_le_iff.mpr z2;omega
  unfold ME at xb;rw[if_neg hn] at xb;exact af (ml T.kG.xc T.kG.init T.kG.at_ hT rfl rfl (xb.au s2))
 have h:=of_decide_eq_false h;have z1:t1.natAbs<2^4096:=intBits_le_iff.mp o_;have z2:t2.natAbs<2^4096:=intBits_le_iff.mp o_;unfold ME at xb;rw[if_pos ⟨z1,z2⟩] at xb;have rK:=xb.au s2;have h2:=C9.ak _ _ _ s2 h1;refine af (aD (i:=3) (Eg (i:=t1) G.bs rfl rfl T.str (nw (k:=0) (ae 2 rfl h2 C9.ak) m2 aH rfl) z1) (λv3 H3 s3 h3=>?_) nd);subst h3;have h3:=C9.ak _ _ _ s3 h2;refine af (aD (i:=4) (Eg (i:=t2) G.bs rfl rfl T.str (nw (k:=1) (ae 2 rfl h3 C9.ak) m2 aH rfl) z2) (λv4 H4 s4 h4=>?_) nd);subst h4;have sQ:=(rK.au s3).au s4;have l1:=pK z1;have l2:=pK z2;refine af (aE (R:=Vi (.str (MD t1 t2))) (tT (dJ (ae 4 rfl rfl v_) a8 rfl) (λh=>Yd.to (ae 3 rfl rfl v_) ?_) (λh=>Yd.to (SJ (ae 3 rfl rfl v_) (ae 4 rfl rfl v_) ?_) ?_)) sQ)
 ·have h:=V.str.inj (of_decide_eq_true h);unfold MD;rw[if_pos ((JQ Mr).mp h)]
 ·have:(Str.length "/")=1:=rfl;have hz:10000<=sizeLine:=by decide
  omega
 ·have h:=of_decide_eq_false h;unfold MD;rw[if_neg λz=>h (congrArg V.str ((JQ Mr).mpr z))]
end
structure Td(K:Frag)(mg:Str->Option Value)(CI CT CL CS CP CX NX CN NN CG NG:Addr):Prop where
 Z:Tz K mg CI CT CL CS CP CX NX
 N:Tn K mg CI CN NN CG NG
 JR:fA K mg "ends_told" (top 111) ["a"]
 Dc:fA K mg "triple_told" (top 112) ["a"]
 GD:fA K mg "bytes_told" (top 113) ["texts"]
 yJ:fA K mg "numbers_taken" (top 114) ["line","p","t","numbers"]
 eT:fA K mg "follow_and_tell" (top 115) ["system","line","p","start"]
 trace:fA K mg "trace" (top 116) ["line","p","t","x","y","u","v"]
 JS:nO mg "LAST_LINE" 2
 Qd:nO mg "FINEST" 256
 AI:nO mg "LONGEST_TEXT" 65536
def EL(u v:Int×Int):Option (List V):=if (u.1.natAbs<2^4096/\u.2.natAbs<2^4096)/\(v.1.natAbs<2^4096/\v.2.natAbs<2^4096) then some [.str (MD u.1 u.2),.str (MD v.1 v.2)] else none
def lp(a:My.be):Option (List V):=EL (My.aZ a.aW a.size) (My.aZ a.aA a.size)
def EN(t:My.bC):Option (List V):=match lp t.x,lp t.y,lp t.z with
 |some x,some y,some z=>some (x++y++z)
 |_,_,_=>none
def Tv(CG:Addr):Option (List V)->Except Ex Rv
 |some vs=>.ok (oV vs)
 |none=>.error (IH CG)
section
variable{P:Program}{w:World}{K:Frag}{mg:Str->Option Value}{base:Heap}{CI CT CL CS CP CX NX CN NN CG NG:Addr}
theorem uK(G:pH P base)(T:Td K mg CI CT CL CS CP CX NX CN NN CG NG)(a:My.be)(h:0<a.size):fq P w K mg base "ends_told" 35 ["a"] (pY [Iv CI a] (Tv CG (lp a))):=by
 refine T.JR.xQ (N:=["a"]) fR rfl λf bL A ai s H vs Q E X e hr nd hT C6 uL hq=>?_;subst e;obtain⟨va,rfl,ha⟩:=lS uL;have C1:=xj (P:=P) (w:=w) (base:=base) G T.N a.aW a.size h;have C2:=xj (P:=P) (w:=w) (base:=base) G T.N a.aA a.size h;unfold lp at hq;generalize My.aZ a.aW a.size=u at *;generalize My.aZ a.aA a.size=v at *;unfold EL at hq;unfold ME at C1 C2
 by_cases z1:u.1.natAbs<2^4096/\u.2.natAbs<2^4096
 ·rw[if_pos z1] at C1
  by_cases z2:v.1.natAbs<2^4096/\v.2.natAbs<2^4096
  ·rw[if_pos z2] at C2;rw[if_pos ⟨z1,z2⟩] at hq;refine af (aE (kS (aa (ah C1 hr rfl (aa (aj (Iv.aW T.N.T.R) (vI 0 ha)) mo (aa (aj (Iv.size T.N.T.R) (vI 0 ha)) mo ag))) mo (aa (ah C2 hr rfl (aa (aj (Iv.aA T.N.T.R) (vI 0 ha)) mo (aa (aj (Iv.size T.N.T.R) (vI 0 ha)) mo ag))) mo ag)) ⟨mo,mo,trivial⟩ (by show 2<=1000;decide)) λv' H' s' r=>hq v' H' s' (oV.Po r λus hu=>?_));obtain⟨v1,v2,rfl,rfl,rfl⟩:=lT hu;rfl
  ·rw[if_neg z2] at C2;rw[if_neg λz=>z2 z.2] at hq;exact af (dh (z5 (xP (ah C1 hr rfl (aa (aj (Iv.aW T.N.T.R) (vI 0 ha)) mo (aa (aj (Iv.size T.N.T.R) (vI 0 ha)) mo ag))) (oQ (dS C2 rfl hT hr rfl (aa (aj (Iv.aA T.N.T.R) (vI 0 ha)) mo (aa (aj (Iv.size T.N.T.R) (vI 0 ha)) mo ag)))))) hq)
 ·rw[if_neg z1] at C1;rw[if_neg λz=>z1 z.1] at hq;exact af (dh (z5 (oQ (dS C1 rfl hT hr rfl (aa (aj (Iv.aW T.N.T.R) (vI 0 ha)) mo (aa (aj (Iv.size T.N.T.R) (vI 0 ha)) mo ag))))) hq)
theorem qU{a:My.be}{vs:List V}(h:lp a=some vs):vs.length=2:=by
 unfold lp EL at h;split at h
 ·cases h;rfl
 ·cases h
theorem uM(G:pH P base)(T:Td K mg CI CT CL CS CP CX NX CN NN CG NG)(t:My.bC)(ok:t.Ok):fq P w K mg base "triple_told" 36 ["a"] (pY [bC CT CI t] (Tv CG (EN t))):=by
 refine T.Dc.xQ (N:=["a"]) fR rfl λf bL A ai s H vs Q E X e hr nd hT C6 uL hq=>?_;subst e;obtain⟨va,rfl,ha⟩:=lS uL;have C1:=uK (P:=P) (w:=w) (base:=base) G T t.x ok.x.pos;have C2:=uK (P:=P) (w:=w) (base:=base) G T t.y ok.y.pos;have C3:=uK (P:=P) (w:=w) (base:=base) G T t.z ok.z.pos;unfold EN at hq;have X4:6<=sizeLine:=by decide
 cases e1:lp t.x with
 |none =>
  rw[e1] at hq C1;exact af (dh (oU lJ (oU lJ (dS C1 rfl hT hr rfl (aa (aj (bC.hx T.Z.RT) (ae 0 rfl ha mo)) mo ag)))) hq)
 |some x =>
 have l1:=qU e1;cases e2:lp t.y with
 |none =>
  rw[e1,e2] at hq;rw[e1] at C1;rw[e2] at C2;exact af (dh (oU lJ (tV lJ (ah C1 hr rfl (aa (aj (bC.hx T.Z.RT) (ae 0 rfl ha mo)) mo ag)) (dS C2 rfl hT hr rfl (aa (aj (bC.hy T.Z.RT) (ae 0 rfl ha mo)) mo ag)))) hq)
 |some y =>
 have l2:=qU e2;cases e3:lp t.z with
 |none =>
  rw[e1,e2,e3] at hq;rw[e1] at C1;rw[e2] at C2;rw[e3] at C3;exact af (dh (tV lJ (tW (ah C1 hr rfl (aa (aj (bC.hx T.Z.RT) (ae 0 rfl ha mo)) mo ag)) (ah C2 hr rfl (aa (aj (bC.hy T.Z.RT) (ae 0 rfl ha mo)) mo ag)) o_) (dS C3 rfl hT hr rfl (aa (aj (bC.hz T.Z.RT) (ae 0 rfl ha mo)) mo ag))) hq)
 |some z =>
 have l3:=qU e3;rw[e1,e2,e3] at hq;rw[e1] at C1;rw[e2] at C2;rw[e3] at C3;exact af (aE (tW (tW (ah C1 hr rfl (aa (aj (bC.hx T.Z.RT) (ae 0 rfl ha mo)) mo ag)) (ah C2 hr rfl (aa (aj (bC.hy T.Z.RT) (ae 0 rfl ha mo)) mo ag)) o_) (ah C3 hr rfl (aa (aj (bC.hz T.Z.RT) (ae 0 rfl ha mo)) mo ag)) (by rw[List.length_append];omega)) hq)
end
def MF(K:Frag)(mg:Str->Option Value)(x:Str)(xs:List V):Prop:=∃a,mg x=some (.ref a)/\∀H,rZ K H a xs
structure Tt(K:Frag)(mg:Str->Option Value)(CI CN NN CG NG CF NF CK:Addr):Prop where
 N:Tn K mg CI CN NN CG NG
 gZ:XR K mg "TextFault" C0 qT CF NF
 RK:jG K mg "Token" sK nK CK
 Dd:fA K mg "begins_name" (top 75) ["byte"]
 JT:fA K mg "is_of_name" (top 76) ["byte"]
 bX:fA K mg "comment_end" (top 77) ["text","place"]
 De:fA K mg "skip_blanks" (top 78) ["text","place"]
 MG:fA K mg "bytes_of" (top 79) ["word"]
 Df:fA K mg "name_or_word" (top 80) ["text","place"]
 eY:fA K mg "may_end_number" (top 81) ["text","behind"]
 AJ:fA K mg "number_token" (top 82) ["text","place"]
 scan:fA K mg "scan" (top 83) ["text","place"]
 words:MF K mg "WORDS" ((["after","clear","conic","curve","flat","glass","into","mirror","radius","start","stop","surface"]:List Str).map λx=>V.str x)
 Tw:∃t,mg "MARKS"=some (.str ":,;/-" t)
 blanks:MF K mg "BLANKS" [.int 9,.int 10,.int 13,.int 32]
 JU:nO mg "LINE_FEED" 10
 hash:nO mg "HASH" 35
 GF:nO mg "UNDERLINE" 95
 AK:nO mg "LONGEST_NAME" 32
 Dg:nO mg "MOST_DIGITS" 18
 yK:nO mg "NO_TOKEN" 1
 MH:mg "ord"=none
 tuple:mg "tuple"=none
section
variable{P:Program}{w:World}{K:Frag}{mg:Str->Option Value}{base:Heap}{CI CN NN CG NG CF NF CK:Addr}
theorem uN(T:Tt K mg CI CN NN CG NG CF NF CK)(c:UInt8):fq P w K mg base "begins_name" 1 ["byte"] (jx [Vi (.int (c.toNat:Int))] (Vi (.bl (Ln.Text.isLetter c)))):=by
 refine T.Dd.pure (N:=["byte"]) fR rfl λf bL A ai s H vs X e hr nd uL=>?_;subst e;obtain⟨_,rfl,rfl⟩:=lS uL;refine af (aE (Yd.to (tY (oP lj lj aH (ae 0 rfl rfl v_) aH) (tY (oP lj lj aH (ae 0 rfl rfl v_) aH) (tX (wk (ae 0 rfl rfl v_) (bV T.GF rfl) rfl)))) ?_) λv H' s r=>⟨s,r⟩);rw[<-My.Cz];congr 1;have e1:decide ((65:Int)<=(c.toNat:Int))=decide (65<=c.toNat):=decide_eq_decide.mpr o_;have e2:decide ((c.toNat:Int)<=(90:Int))=decide (c.toNat<=90):=decide_eq_decide.mpr o_;have e3:decide ((97:Int)<=(c.toNat:Int))=decide (97<=c.toNat):=decide_eq_decide.mpr o_;have e4:decide ((c.toNat:Int)<=(122:Int))=decide (c.toNat<=122):=decide_eq_decide.mpr o_;have e5:decide (V.int (c.toNat:Int)=V.int 95)=decide (c.toNat=95):=eJ (n:=95);rw[<-e1,<-e2,<-e3,<-e4,<-e5]
theorem uO(T:Tt K mg CI CN NN CG NG CF NF CK)(c:UInt8):fq P w K mg base "is_of_name" 2 ["byte"] (jx [Vi (.int (c.toNat:Int))] (Vi (.bl (Ln.Text.isLetter c || Ln.Text.isDigit c)))):=by
 refine T.JT.pure (N:=["byte"]) fR rfl λf bL A ai s H vs X e hr nd uL=>?_;subst e;obtain⟨_,rfl,rfl⟩:=lS uL;rw[My.l8];exact af (aE (tY (ah (uN T c) hr rfl (aa (ae 0 rfl rfl v_) v_ ag)) (tX (ah (jR T.N c) hr rfl (aa (ae 0 rfl rfl v_) v_ ag)))) λv H' s r=>⟨s,r⟩)
theorem uP(T:Tt K mg CI CN NN CG NG CF NF CK)(b:List UInt8)(i:Nat)(hi:i<=b.length):fq P w K mg base "comment_end" 2 ["text","place"] (jx [Tx K b,Vi (.int i)] (Vi (.int (My.bX b i:Nat)))):=by
 refine T.bX.pure (N:=["text","place"]) fR rfl λf bL A ai s H vs X e hr nd uL=>?_;subst e;obtain⟨vt,_,rfl,ht,rfl⟩:=lT uL;refine ii (λσ H'=>σ=[some vt,some (.int (My.bX b i:Nat))]/\aM H H') (iq PassesOwn.never (λm σ H'=>∃j:Nat,σ=[some vt,some (.int j)]/\aM H H'/\j<=b.length/\My.bX b j=My.bX b i/\m=b.length - j) _ ⟨i,rfl,sm,hi,rfl,rfl⟩ ?_) ?_
 ·rintro m σ H1 ⟨j,rfl,s1,hj,hd,rfl⟩;have sO:=Tx.ak _ _ _ s1 ht
  by_cases fS:j<b.length
  ·obtain⟨c,hc⟩:∃c,b[j]?=some c:=⟨_,List.getElem?_eq_getElem fS⟩
   refine Yt.run (qB (dI ka (ae 1 rfl rfl mo) (eE rfl T.N.len (ae 0 rfl sO Tx.ak))) (λ_=>rk (gg (ae 0 rfl sO Tx.ak) (ae 1 rfl rfl mo) hc) (bV T.JU rfl) rfl)) λH2 s2=>?_;rw[decide_eq_true (by omega:((j:Nat):Int)<(b.length:Nat)),Bool.true_and,show V.int 10=V.int (((10:UInt8).toNat:Nat):Int) from rfl,im hc,hc]
   by_cases Bz:c=10
   ·rw[show (!decide (some c=some (10:UInt8)))=false by rw[Bz];rfl,if_neg Bool.false_ne_true];exact⟨by rw[<-hd,My.Mh hc Bz],s1.trans s2⟩
   ·rw[show (!decide (some c=some (10:UInt8)))=true by rw[decide_eq_false λz=>Bz (Option.some.inj z)];rfl,if_pos rfl];refine af (oS (i:=1) rfl aH (λH3 s3=>aJ ⟨b.length - (j+1),by omega,j+1,rfl,(s1.trans s2).trans s3,fS,?_,rfl⟩) nd);rw[My.EC hc Bz,hd]
  ·refine Yt.run (qB (l:=false) (dI ka (ae 1 rfl rfl mo) (eE rfl T.N.len (ae 0 rfl sO Tx.ak))) (λh=>absurd (of_decide_eq_true h) o_)) λH2 s2=>?_;rw[Bool.and_false,if_neg Bool.false_ne_true];exact⟨by rw[<-hd,My.PV o_],s1.trans s2⟩
 ·rintro σ H2 ⟨rfl,s2⟩;exact af (aE (R:=Vi (.int (My.bX b i:Nat))) (ae 1 rfl rfl mo) λv H' s r=>⟨s2.trans s,r⟩)
end
section
variable{P:Program}{w:World}{K:Frag}{mg:Str->Option Value}{base:Heap}{CI CN NN CG NG CF NF CK:Addr}
theorem Qe{X:Cx}{σ:L2.St}{H:Hp}{a:Expr}{x:V}{xs:List V}{y:Str}{p pos:Pos}(h:MF X.K X.mg y xs)(ha:Yd X σ H a (Vi x))(hg:Gl X y)(hx:kh x=true)(Q4:xs.all kh=true)(hm:behindInMarks .In (.Name y p)=false:=by rfl)(hd:(y == ("__debug__":Str))=false:=by decide) :
  Yt X σ H (.Compare a [.In] [.Name y p] pos) (NJ x xs):=λH1 s1=>by
 obtain⟨q,e,sq⟩:=h;refine(kO Fs pE pE hm).te ((ha H1 s1).aw λv H2 ⟨s2,e2⟩=>(rY hg e (v:=.ref q) rfl hd).ev ?_);subst e2;exact⟨q,xs,rfl,.inr (sq H2),hx,Q4,_,rfl,s2,rfl⟩
theorem AL(c:UInt8):NJ (.int (c.toNat:Int)) [.int 9,.int 10,.int 13,.int 32]=decide (c=32\/c=9\/c=10\/c=13):=by
 have h:∀n:Nat,n<256->NJ (.int (n:Int)) [.int 9,.int 10,.int 13,.int 32]=decide (n=32\/n=9\/n=10\/n=13):=by decide +kernel
 rw[h c.toNat c.toNat_lt];refine decide_eq_decide.mpr ?_;have k:∀d:UInt8,c=d↔c.toNat=d.toNat:=λd=>UInt8.toNat_inj.symm;rw[k 32,k 9,k 10,k 13];exact Iff.rfl
theorem JV(T:Tt K mg CI CN NN CG NG CF NF CK)(b:List UInt8)(i:Nat)(hi:i<=b.length):fq P w K mg base "skip_blanks" 3 ["text","place"] (jx [Tx K b,Vi (.int i)] (Vi (.int (My.bE b i:Nat)))):=by
 refine T.De.pure (N:=["text","place"]) fR rfl λf bL A ai s H vs X e hr nd uL=>?_;subst e;obtain⟨vt,_,rfl,ht,rfl⟩:=lT uL;refine ii (λσ H'=>σ=[some vt,some (.int (My.bE b i:Nat))]/\aM H H') (iq PassesOwn.never (λm σ H'=>∃j:Nat,σ=[some vt,some (.int j)]/\aM H H'/\j<=b.length/\My.bE b j=My.bE b i/\m=b.length - j) _ ⟨i,rfl,sm,hi,rfl,rfl⟩ ?_) ?_
 ·rintro m σ H1 ⟨j,rfl,s1,hj,hd,rfl⟩;have sO:=Tx.ak _ _ _ s1 ht;refine Yt.run (dI ka (ae 1 rfl rfl mo) (eE rfl T.N.len (ae 0 rfl sO Tx.ak))) λH2 s2=>?_
  by_cases fS:j<b.length
  ·obtain⟨c,hc⟩:∃c,b[j]?=some c:=⟨_,List.getElem?_eq_getElem fS⟩
   rw[decide_eq_true (by omega:((j:Nat):Int)<(b.length:Nat)),if_pos rfl];have mF:=Tx.ak _ _ _ s2 sO;refine af (cn (dJ (gg (ae 0 rfl mF Tx.ak) (ae 1 rfl rfl mo) hc) (bV T.hash rfl) rfl) (λh H3 s3=>?_) (λh H3 s3=>?_))
   ·rw[show V.int 35=V.int (((35:UInt8).toNat:Nat):Int) from rfl,im hc,hc] at h;have ec:c=35:=Option.some.inj (of_decide_eq_true h);obtain⟨h1,h2⟩:=My.Mi hc ec;have hle:=My.Tb b hj;have xf:=Tx.ak _ _ _ s3 mF;refine af (aD (i:=1) (ah (uP T b j hj) hr rfl (aa (ae 0 rfl xf Tx.ak) Tx.ak (aa (ae 1 rfl rfl mo) mo ag))) (λv4 H4 s4 h4=>?_) nd);subst h4;exact aJ (aJ ⟨b.length - My.bX b j,by omega,My.bX b j,rfl,((s1.trans s2).trans s3).trans s4,hle,by rw[h2,hd],rfl⟩)
   ·rw[show V.int 35=V.int (((35:UInt8).toNat:Nat):Int) from rfl,im hc,hc] at h;have ec:c≠35:=λz=>of_decide_eq_false h (by rw[z]);have xf:=Tx.ak _ _ _ s3 mF;refine af (cn (Qe T.blanks (gg (ae 0 rfl xf Tx.ak) (ae 1 rfl rfl mo) hc) rfl rfl rfl) (λh H4 s4=>?_) (λh H4 s4=>?_))
    ·rw[AL] at h;refine af (oS (i:=1) rfl aH (λH5 s5=>aJ (aJ (aJ ⟨b.length - (j+1),by omega,j+1,rfl,(((s1.trans s2).trans s3).trans s4).trans s5,fS,?_,rfl⟩))) nd);rw[My.Jv hc ec (of_decide_eq_true h),hd]
    ·rw[AL] at h;exact af (aE (R:=Vi (.int j)) (ae 1 rfl rfl mo) λv H' s r=>⟨(((s1.trans s2).trans s3).trans s4).trans s,by rw[<-hd,My.Mj hc ec (of_decide_eq_false h)];exact r⟩)
  ·rw[decide_eq_false (by omega:¬((j:Nat):Int)<(b.length:Nat)),if_neg Bool.false_ne_true];exact⟨by rw[<-hd,My.PX o_],s1.trans s2⟩
 ·rintro σ H2 ⟨rfl,s2⟩;exact af (aE (R:=Vi (.int (My.bE b i:Nat))) (ae 1 rfl rfl mo) λv H' s r=>⟨s2.trans s,r⟩)
def eY(b:List UInt8)(j:Nat):Bool:=match b[j]? with
 |none=>true
 |some c=>!((Ln.Text.isLetter c || Ln.Text.isDigit c) || decide (c=46))
theorem Dh(T:Tt K mg CI CN NN CG NG CF NF CK)(b:List UInt8)(j:Nat)(hj:j<=b.length):fq P w K mg base "may_end_number" 3 ["text","behind"] (jx [Tx K b,Vi (.int j)] (Vi (.bl (eY b j)))):=by
 refine T.eY.pure (N:=["text","behind"]) fR rfl λf bL A ai s H vs X e hr nd uL=>?_;subst e;obtain⟨vt,_,rfl,ht,rfl⟩:=lT uL
 by_cases fS:j<b.length
 ·obtain⟨c,hc⟩:∃c,b[j]?=some c:=⟨_,List.getElem?_eq_getElem fS⟩
  have e46:decide (V.int (c.toNat:Int)=V.int 46)=decide (c=46):=by
   rw[show V.int 46=V.int (((46:UInt8).toNat:Nat):Int) from rfl,im hc,hc];exact decide_eq_decide.mpr ⟨Option.some.inj,congrArg some⟩
  refine af (aE (R:=Vi (.bl (eY b j))) (Yd.to (tY (wk (ae 1 rfl rfl v_) (eE rfl T.N.len (ae 0 rfl ht Tx.ak)) rfl) (tX (LN (tY (ah (uO T c) hr rfl (aa (gg (ae 0 rfl ht Tx.ak) (ae 1 rfl rfl mo) hc) v_ ag)) (tX (wk (gg (ae 0 rfl ht Tx.ak) (ae 1 rfl rfl mo) hc) (bV T.N.point rfl) rfl)))))) ?_) λv H' s r=>⟨s,r⟩);unfold eY;rw[eJ,decide_eq_false (by omega:¬j=b.length),Bool.false_or,e46,hc]
 ·have hc:b[j]?=none:=List.getElem?_eq_none o_;have ej:j=b.length:=by omega
  refine af (aE (R:=Vi (.bl (eY b j))) (Yd.to (Pp (Yd.to (wk (ae 1 rfl rfl v_) (eE rfl T.N.len (ae 0 rfl ht Tx.ak)) rfl) (by rw[eJ,decide_eq_true ej]))) ?_) λv H' s r=>⟨s,r⟩);unfold eY;rw[hc]
end
def bF(b:List UInt8)(m:Nat):Bool:=decide (m+1<b.length) && (decide (b[m]?=some 46) && (match b[m+1]? with |some c=>Ln.Num.isDigit c |none=>false))
def lg(b:List UInt8)(i:Nat):Nat:=if bF b (My.am b i)=true then My.am b (My.am b i+1) else My.am b i
def pL(b:List UInt8)(i:Nat):Bool:=decide ((if bF b (My.am b i)=true then lg b i - i - 1 else lg b i - i)<=18) && eY b (lg b i)
abbrev qV(CK:Addr)(kind:Str)(place behind:Nat)(R:Rv):Rv:=dG CK nK [Vi (.str kind),Vi (.int place),Vi (.int behind),R]
def JW(CK CI:Addr)(b:List UInt8)(i:Nat):Rv :=
 if bF b (My.am b i)=true then qV CK "pointed" i (lg b i) (Iv CI (My.dC b i (My.am b i) (lg b i)))
 else qV CK "whole" i (lg b i) (Iv CI (My.ap (My.a6 b i (lg b i):Nat)))
def pM(CF:Addr)(ok:Bool)(R:Rv)(place kind:Nat):Except Ex Rv:=if ok=true then .ok R else .error (B7 CF qT [Vi (.int place),Vi (.int kind)])
section
variable{P:Program}{w:World}{K:Frag}{mg:Str->Option Value}{base:Heap}{CI CN NN CG NG CF NF CK:Addr}
theorem qW(T:Tt K mg CI CN NN CG NG CF NF CK)(b:List UInt8)(i:Nat)(hi:i<b.length)(hb:b.length<2^59):fq P w K mg base "number_token" 6 ["text","place"] (pY [Tx K b,Vi (.int i)] (pM CF (pL b i) (JW CK CI b i) i 1)):=by
 refine T.AJ.xQ (N:=["text","place","middle","behind","pointed","digits"]) fR rfl λf bL A ai s H vs Q E X e hr nd hT C6 uL hq=>?_;subst e;obtain⟨vt,_,rfl,ht,rfl⟩:=lT uL;have hm:=My.gT b (i:=i) o_;have Ms:=My.EA b i;have dg:=λk h1 h2=>My.l7 (b:=b) _ i k rfl h1 h2;refine af (aD (i:=2) (ah (il T.N b i o_) hr rfl (aa (ae 0 rfl ht Tx.ak) Tx.ak (aa (ae 1 rfl rfl mo) mo ag))) (λv1 H1 s1 h1=>?_) nd);subst h1;have sO:=Tx.ak _ _ _ s1 ht;refine af (aD (i:=3) (ae 2 rfl rfl v_) (λv2 H2 s2 h2=>?_) nd);subst h2;have mF:=Tx.ak _ _ _ s2 sO;have rK:=hq.au (s1.trans s2);have UU:=λk h1 h2=>My.l7 (b:=b) _ (My.am b i+1) k rfl h1 h2;have MB:=My.EA b (My.am b i+1);have IN:=λz=>My.gT b (i:=My.am b i+1) z;unfold pL JW lg at rK;generalize My.am b i=m at *;refine af (aD (i:=4) (R:=Vi (.bl (bF b m))) ?_ (λv3 H3 s3 h3=>?_) nd)
 ·by_cases fS:m+1<b.length
  ·obtain⟨c,hc⟩:∃c,b[m]?=some c:=⟨_,List.getElem?_eq_getElem o_⟩
   obtain⟨d,hd⟩:∃d,b[m+1]?=some d:=⟨_,List.getElem?_eq_getElem fS⟩
   refine Yd.to (xR (B6 ka (Yd.to (y:=.int ((m+1:Nat):Int)) (dw ff (ae 2 rfl rfl mo) aH) (by rfl)) (eE rfl T.N.len (ae 0 rfl mF Tx.ak))) (λ_=>xR (wk (gg (ae 0 rfl mF Tx.ak) (ae 2 rfl rfl mo) hc) (bV T.N.point rfl) rfl) (λ_=>tX (ah (jR T.N d) hr rfl (aa (gg (k:=m+1) (ae 0 rfl mF Tx.ak) (Yd.to (dw ff (ae 2 rfl rfl mo) aH) (by rfl)) hd) v_ ag))))) ?_;unfold bF;rw[hd,show V.int 46=V.int (((46:UInt8).toNat:Nat):Int) from rfl,im hc,decide_eq_true fS,decide_eq_true (by omega:((m+1:Nat):Int)<(b.length:Nat))]
  ·refine Yd.to (xR (l:=false) (B6 ka (Yd.to (y:=.int ((m+1:Nat):Int)) (dw ff (ae 2 rfl rfl mo) aH) (by rfl)) (eE rfl T.N.len (ae 0 rfl mF Tx.ak))) (λh=>absurd (of_decide_eq_true h) o_)) ?_;unfold bF;rw[decide_eq_false fS,Bool.and_false,Bool.false_and]
 subst h3;have xf:=Tx.ak _ _ _ s3 mF;have AH:=rK.au s3;have m9:bF b m=true->m+1<b.length:=λz=>by
  unfold bF at z;exact of_decide_eq_true (Bool.and_eq_true _ _ |>.mp z).1
 refine ii (λσ H'=>σ=[some vt,some (.int i),some (.int m),some (.int ((if bF b m=true then My.am b (m+1) else m:Nat):Int)),some (.bl (bF b m)),none]/\aM H3 H') (cn (gf (ae 4 rfl rfl v_)) (λh H4 s4=>?_) (λh H4 s4=>aJ ?_)) ?_
 ·have MC:=Tx.ak _ _ _ s4 xf;refine af (aD (i:=3) (ah (il T.N b (m+1) (by have:=m9 h;omega)) hr rfl (aa (ae 0 rfl MC Tx.ak) Tx.ak (aa (Yd.to (dw ff (ae 2 rfl rfl mo) aH) (by rfl)) mo ag))) (λv5 H5 s5 h5=>?_) nd);subst h5;exact aJ ⟨by rw[if_pos h];rfl,s4.trans s5⟩
 ·exact⟨by rw[if_neg (by rw[h];exact Bool.false_ne_true)];rfl,s4⟩
 rintro σ H5 ⟨rfl,s5⟩;have P8:=Tx.ak _ _ _ s5 xf;have Rk:=AH.au s5;have KO:m<=(if bF b m=true then My.am b (m+1) else m)/\(if bF b m=true then My.am b (m+1) else m)<=b.length/\(bF b m=true->m+1<=(if bF b m=true then My.am b (m+1) else m)):=by
  split
  ·rename_i h;have:=IN (by have:=m9 h;omega);exact⟨by omega,this,λ_=>MB⟩
  ·rename_i h;exact⟨Nat.le_refl _,hm,λz=>absurd z h⟩
 have dgE:bF b m=true->∀k,m+1<=k->k<(if bF b m=true then My.am b (m+1) else m)->∃c,b[k]?=some c/\Ln.Num.isDigit c=true:=λz k h1 h2=>UU k h1 (by rwa [if_pos z] at h2);have dgW:bF b m=false->(if bF b m=true then My.am b (m+1) else m)=m:=λz=>if_neg (by rw[z];exact Bool.false_ne_true);generalize (if bF b m=true then My.am b (m+1) else m)=j at *;obtain⟨WL,hjl,YI⟩:=KO;refine af (aD (i:=5) (R:=Vi (.int ((if bF b m=true then j - i - 1 else j - i:Nat):Int))) (tT (gf (ae 4 rfl rfl v_)) (λh=>Yd.to (dw tF (dw tF (ae 3 rfl rfl v_) (ae 1 rfl rfl v_)) aH) ?_) (λh=>Yd.to (dw tF (ae 3 rfl rfl v_) (ae 1 rfl rfl v_)) ?_)) (λv6 H6 s6 h6=>?_) nd)
 ·rw[if_pos h];have:=YI h;congr 1;omega
 ·rw[if_neg (by rw[h];exact Bool.false_ne_true)];congr 1;omega
 subst h6;have P9:=Tx.ak _ _ _ s6 P8;have Oa:=Rk.au s6;refine af (cn (wm (dI re (ae 5 rfl rfl v_) (bV T.Dg rfl)) (λ_=>IC (gf (ah (Dh T b j hjl) hr rfl (aa (ae 0 rfl P9 Tx.ak) Tx.ak (aa (ae 3 rfl rfl mo) mo ag)))))) (λh H7 s7=>?_) (λh H7 s7=>aJ ?_))
 ·have hn:¬(decide ((if bF b m=true then j - i - 1 else j - i)<=18) && eY b j)=true:=by
   intro z;obtain⟨z1,z2⟩:=Bool.and_eq_true _ _ |>.mp z
   have z1:=of_decide_eq_true z1;rw[z2,decide_eq_false o_] at h;cases h
  unfold pM at Oa;rw[if_neg hn] at Oa;exact af (fH (dz T.gZ) hT rfl hr rfl (aa (ae 1 rfl rfl mo) mo (aa (bV T.yK rfl) mo ag)) ⟨mo,mo,trivial⟩ rfl (Oa.au s7))
 have hy:(decide ((if bF b m=true then j - i - 1 else j - i)<=18) && eY b j)=true:=by
  obtain⟨z1,z2⟩:=Bool.or_eq_false_iff.mp h;have z1:=of_decide_eq_false z1;have z2:eY b j=true:=by simpa using z2
  rw[z2,decide_eq_true o_];rfl
 have h18:=of_decide_eq_true (Bool.and_eq_true _ _ |>.mp hy).1;unfold pM at Oa;rw[if_pos hy] at Oa;have Ts:=Tx.ak _ _ _ s7 P9;have Qb:=Oa.au s7;refine af (cn (gf (ae 4 rfl rfl v_)) (λh8 H8 s8=>?_) (λh8 H8 s8=>aJ ?_))
 ·rw[if_pos h8] at Qb h18;have:=YI h8;have Tu:=Tx.ak _ _ _ s8 Ts;exact af (aE (eL (Gz T.RK) hr rfl (aa a8 v_ (aa (ae 1 rfl rfl mo) mo (aa (ae 3 rfl rfl mo) mo (aa (ah (rJ T.N b i m j Ms this o_ dg (dgE h8) o_ o_) hr rfl (aa (ae 0 rfl Tu Tx.ak) Tx.ak (aa (ae 1 rfl rfl mo) mo (aa (ae 2 rfl rfl mo) mo (aa (ae 3 rfl rfl mo) mo ag))))) mo ag)))) ⟨Vi.ak _,Vi.ak _,Vi.ak _,Iv.ak,trivial⟩ rfl) (Qb.au s8))
 ·have ej:=dgW h8;rw[if_neg (by rw[h8];exact Bool.false_ne_true)] at Qb;have Tu:=Tx.ak _ _ _ s8 Ts;exact af (aE (eL (Gz T.RK) hr rfl (aa a8 v_ (aa (ae 1 rfl rfl mo) mo (aa (ae 3 rfl rfl mo) mo (aa (ah (c7 T.N.T _) hr rfl (aa (ah (d8 T.N b i j o_ o_ (λk h1 h2=>dg k h1 o_)) hr rfl (aa (ae 0 rfl Tu Tx.ak) Tx.ak (aa (ae 1 rfl rfl mo) mo (aa (ae 3 rfl rfl mo) mo ag)))) mo ag)) mo ag)))) ⟨Vi.ak _,Vi.ak _,Vi.ak _,Iv.ak,trivial⟩ rfl) (Qb.au s8))
end
section
variable{P:Program}{w:World}{K:Frag}{mg:Str->Option Value}{base:Heap}{CI CN NN CG NG CF NF CK:Addr}
theorem AM(T:Tt K mg CI CN NN CG NG CF NF CK)(z:Str)(hz:z.cps.size<sizeLine):fq P w K mg base "bytes_of" 1 ["word"] (jx [Vi (.str z)] (gH (z.cps.toList.map λc=>V.int (c:Nat)))):=by
 refine T.MG.pure (N:=["word","sign"]) fR rfl λf bL A ai s H vs X e hr nd uL=>?_;subst e;obtain⟨_,rfl,rfl⟩:=lS uL;exact af (aE (wp rfl T.tuple (wx (i:=1) (x:="sign") rfl nd rfl (show mS ["word","sign"] (ax (top 79)) _ [("sign",1)] from ⟨rfl,by decide +kernel,by decide +kernel,by decide +kernel,by decide +kernel⟩) T.MH (ae 0 rfl rfl v_) hz (by show 1<2;decide))) λv H' s r=>⟨s,r⟩)
end
section
variable{P:Program}{w:World}{K:Frag}{mg:Str->Option Value}{base:Heap}{CI CT CL CS CP CX NX CN NN CG NG:Addr}
theorem rL:∀l:List (List Nat),TL.zL [32] l=My.dY l
 |[]=>rfl
 |[_]=>rfl
 |x::y::r=>by
  rw[TL.zL,My.dY,rL (y::r)]
  ·rfl
  ·simp
theorem AN(ys:List Str):(Txt.join (" ":Str) ys).cps.toList=My.dY (ys.map λy=>y.cps.toList):=by
 rw[TL.Lm];have h:=TL.D2 (" ":Str) ys;rw[show TL.tl (" ":Str)=[32] from rfl] at h;rw[rL] at h;exact h
theorem j7:∀l:List (List Nat),(My.dY l).length<=(l.map List.length).sum+l.length
 |[]=>Nat.zero_le _
 |[x]=>by simp [My.dY]
 |x::y::r=>by
  rw[My.dY]
  ·have:=j7 (y::r);simp only[List.length_append,List.length_cons,List.map_cons,List.sum_cons] at this ⊢;omega
  ·simp
theorem MI{X:Cx}{σ:L2.St}{H:Hp}{a b:Expr}{apos pos:Pos}{z:Str}{ys:List Str}(ha:Yd X σ H a (Vi (.str z)))(hb:Yd X σ H b (oV (ys.map V.str)))(hl:(ys.map (·.length)).sum+ys.length*z.length<=16777216)
  (hs:starEach [b] X.env=[(false,eval b X.env)]:=by rfl)(jC:attributeBase a "join" X.env (eval a X.env)=eval a X.env:=by rfl)(jD:(apos.endLine == pos.line)=true:=by rfl):Yd X σ H (.Call (.Attribute a "join" apos) [b] [] pos) (Vi (.str (Txt.join z ys))):=λH1 s1 =>
 (Lp pE pE hs jC jD).ev ((ha H1 s1).aw λv H2 ⟨s2,e2⟩=>⟨⟨z,e2⟩,(hb H2 (s1.trans s2)).aw λu H3 ⟨s3,p,e3,e4⟩=>⟨z,p,ys,e2,by rw[e3],.inl (.of e4),hl,s2.trans s3,rfl⟩⟩)
theorem vH(T:Td K mg CI CT CL CS CP CX NX CN NN CG NG)(MH:mg "ord"=none)(ys:List Str)(hl:(ys.map (·.length)).sum+ys.length<16777216) :
  fq P w K mg base "bytes_told" 1 ["texts"] (jx [oV (ys.map V.str)] (oV ((My.dY (ys.map λy=>y.cps.toList)).map λc=>V.int (c:Nat)))):=by
 refine T.GD.pure (N:=["texts","sign"]) fR rfl λf bL A ai s H vs X e hr nd uL=>?_;subst e;obtain⟨vt,rfl,ht⟩:=lS uL;have e1:Str.length " "=1:=rfl;have hz:(Txt.join (" ":Str) ys).cps.size<sizeLine:=by
  rw[<-Array.length_toList,AN];have h:=j7 (ys.map λy=>y.cps.toList);rw[List.map_map,List.length_map] at h;have e:(ys.map (List.length ∘ λy=>y.cps.toList))=ys.map (·.length):=by
   refine List.map_congr_left λy _=>?_;show y.cps.toList.length=y.cps.size;simp
  rw[e] at h;have:sizeLine=16777216:=by decide
  omega
 rw[<-AN];exact af (aE (wx (i:=1) (x:="sign") rfl nd rfl (show mS ["texts","sign"] (ax (top 113)) _ [("sign",1)] from ⟨rfl,by decide +kernel,by decide +kernel,by decide +kernel,by decide +kernel⟩) MH (MI a8 (ae 0 rfl ht oV.ak) (by rw[e1];omega)) hz (by show 1<2;decide)) λv H' s r=>⟨s,r⟩)
end
def cY(b:List UInt8)(i:Nat):Nat:=i+((b.drop i).takeWhile λ(x:UInt8)=>Ln.Text.isLetter x || Ln.Text.isDigit x).length
theorem MJ{b:List UInt8}{j:Nat}{c:UInt8}(h:b[j]?=some c)(hc:(Ln.Text.isLetter c || Ln.Text.isDigit c)=true):cY b (j+1)=cY b j:=by
 unfold cY;rw[My.gb h,List.takeWhile_cons,if_pos hc,List.length_cons];omega
theorem MK{b:List UInt8}{j:Nat}{c:UInt8}(h:b[j]?=some c)(hc:(Ln.Text.isLetter c || Ln.Text.isDigit c)=false):cY b j=j:=by
 unfold cY;rw[My.gb h,List.takeWhile_cons,if_neg (by rw[hc];exact Bool.false_ne_true)];rfl
theorem Qg{b:List UInt8}{j:Nat}(h:b.length<=j):cY b j=j:=by
 unfold cY;rw[List.drop_eq_nil_of_le h];rfl
theorem TB(b:List UInt8){i:Nat}(h:i<=b.length):i<=cY b i/\cY b i<=b.length:=by
 unfold cY;have:=My.cb (p:=λ(x:UInt8)=>Ln.Text.isLetter x || Ln.Text.isDigit x) (b.drop i);rw[List.length_drop] at this;omega
def WS:List Str:=["after","clear","conic","curve","flat","glass","into","mirror","radius","start","stop","surface"]
def wc(z:Str):List Int:=z.cps.toList.map λ(c:Nat)=>((c:Nat):Int)
def nm(b:List UInt8)(i:Nat):List Int:=((b.drop i).take (cY b i - i)).map λc=>(c.toNat:Int)
def AO(CK:Addr)(b:List UInt8)(i:Nat):Rv:=match WS.find? λz=>decide (wc z=nm b i) with
 |some z=>qV CK z i (cY b i) (Vi .dH)
 |none=>qV CK "name" i (cY b i) (gH ((nm b i).map V.int))
section
variable{P:Program}{w:World}{K:Frag}{mg:Str->Option Value}{base:Heap}{CI CN NN CG NG CF NF CK:Addr}
theorem GG{α:Type}{p:α->Bool}:∀{l:List α} {j:Nat},(∀k x,k<j->l[k]?=some x->p x=false)->l.length<=j->l.find? p=none:=λ{l j} h hj=>by
 rw[List.find?_eq_none];intro x hx;obtain⟨k,hk,e⟩:=List.mem_iff_getElem.mp hx;rw[h k x o_ (by rw[List.getElem?_eq_getElem hk,e])];exact Bool.false_ne_true
theorem EO{α:Type}{p:α->Bool}:∀{l:List α} {j:Nat} {y:α},(∀k x,k<j->l[k]?=some x->p x=false)->l[j]?=some y->p y=true->l.find? p=some y
 |[],j,y,_,h,_=>by simp at h
 |a::l,0,y,_,h,hy=>by
  have e:a=y:=Option.some.inj h;subst e;rw[List.find?_cons,hy]
 |a::l,j+1,y,hk,h,hy=>by
  rw[List.find?_cons,hk 0 a o_ rfl];exact EO (l:=l) (j:=j) (λk x h1 h2=>hk (k+1) x o_ (by simpa using h2)) (by simpa using h) hy
theorem uQ(T:Tt K mg CI CN NN CG NG CF NF CK)(b:List UInt8)(i:Nat)(hi:i<=b.length):fq P w K mg base "name_or_word" 5 ["text","place"] (pY [Tx K b,Vi (.int i)] (pM CF (decide (cY b i - i<=32)) (AO CK b i) i 1)):=by
 refine T.Df.xQ (N:=["text","place","behind","name","word"]) fR rfl λf bL A ai s H vs Q E X e hr nd hT C6 uL hq=>?_;subst e;obtain⟨vt,_,rfl,ht,rfl⟩:=lT uL;have hu:=hr.un;obtain⟨WP,WQ⟩:=TB b hi;refine af (aD (i:=2) (ae 1 rfl rfl v_) (λv1 H1 s1 h1=>?_) nd);subst h1;refine ii (λσ H'=>σ=[some vt,some (.int i),some (.int (cY b i:Nat)),none,none]/\aM H H') (iq C6 (λm σ H'=>∃j:Nat,σ=[some vt,some (.int i),some (.int j),none,none]/\aM H H'/\j<=b.length/\cY b j=cY b i/\m=b.length - j) _ ⟨i,rfl,s1,hi,rfl,rfl⟩ ?_) ?_
 ·rintro m σ H2 ⟨j,rfl,s2,hj,hd,rfl⟩;have mF:=Tx.ak _ _ _ s2 ht
  by_cases fS:j<b.length
  ·obtain⟨c,hc⟩:∃c,b[j]?=some c:=⟨_,List.getElem?_eq_getElem fS⟩
   refine Yt.run (qB (dI ka (ae 2 rfl rfl mo) (eE rfl T.N.len (ae 0 rfl mF Tx.ak))) (λ_=>gf (ah (uO T c) hr rfl (aa (gg (ae 0 rfl mF Tx.ak) (ae 2 rfl rfl mo) hc) v_ ag)))) λH3 s3=>?_;rw[decide_eq_true (by omega:((j:Nat):Int)<(b.length:Nat)),Bool.true_and];cases Bz:(Ln.Text.isLetter c || Ln.Text.isDigit c) with
   |true =>
    rw[if_pos rfl];refine af (oS (i:=2) rfl aH (λH4 s4=>aJ ⟨b.length - (j+1),by omega,j+1,rfl,(s2.trans s3).trans s4,fS,?_,rfl⟩) nd);rw[MJ hc Bz,hd]
   |false =>
    rw[if_neg Bool.false_ne_true];exact⟨by rw[<-hd,MK hc Bz],s2.trans s3⟩
  ·refine Yt.run (qB (l:=false) (dI ka (ae 2 rfl rfl mo) (eE rfl T.N.len (ae 0 rfl mF Tx.ak))) (λh=>absurd (of_decide_eq_true h) o_)) λH3 s3=>?_;rw[Bool.and_false,if_neg Bool.false_ne_true];exact⟨by rw[<-hd,Qg o_],s2.trans s3⟩
 rintro σ H2 ⟨rfl,s2⟩;have rK:=hq.au s2;have mF:=Tx.ak _ _ _ s2 ht;unfold pM AO nm at rK;generalize cY b i=e at *;refine af (cn (dI re (Yd.to (y:=.int ((e - i:Nat):Int)) (dw tF (ae 2 rfl rfl v_) (ae 1 rfl rfl v_)) (by congr 1;omega)) (bV T.AK rfl)) (λh H3 s3=>?_) (λh H3 s3=>aJ ?_))
 ·have h:=of_decide_eq_true h;rw[decide_eq_false o_,if_neg Bool.false_ne_true] at rK;exact af (fH (dz T.gZ) hT rfl hr rfl (aa (ae 1 rfl rfl mo) mo (aa (bV T.yK rfl) mo ag)) ⟨mo,mo,trivial⟩ rfl (rK.au s3))
 have h:=of_decide_eq_false h;rw[decide_eq_true o_,if_pos rfl] at rK;have xf:=Tx.ak _ _ _ s3 mF;have AH:=rK.au s3;refine af (aD (i:=3) (wp rfl T.tuple (FP (ae 0 rfl xf Tx.ak) (ae 1 rfl rfl v_) (ae 2 rfl rfl v_) WP WQ)) (λv4 H4 s4 h4=>?_) nd);have en:(((b.drop i).take (e - i)).map λc=>V.int (c.toNat:Int))=((((b.drop i).take (e - i)).map λc=>(c.toNat:Int))).map V.int:=by rw[List.map_map];rfl
 rw[en] at h4;have sQ:=AH.au s4;generalize (((b.drop i).take (e - i)).map λc=>(c.toNat:Int))=YJ at *;obtain⟨qa,hmq,sq⟩:=T.words;have hsz:∀z∈WS,z.cps.size<sizeLine:=by decide +kernel
 refine ii (λσ H'=>(∃vw,σ=[some vt,some (.int i),some (.int e),some v4,vw])/\aM H4 H'/\∀k z,k<WS.length->WS[k]?=some z->decide (wc z=YJ)=false) (LO (i:=4) C6 rfl rfl hmq sq (λn σ H'=>(∃vw,σ=[some vt,some (.int i),some (.int e),some v4,vw])/\aM H4 H'/\∀k z,k<n->WS[k]?=some z->decide (wc z=YJ)=false) ⟨⟨none,rfl⟩,sm,λk z h=>absurd h o_⟩ ?_ (λσ H' hP=>hP) nd) ?_
 ·rintro n v σ H5 hv ⟨⟨vw,rfl⟩,s5,KA⟩;obtain⟨z,hz,rfl⟩:∃z,WS[n]?=some z/\v=V.str z:=by
   rw[List.getElem?_map] at hv;cases ez:WS[n]? with
   |none=>rw[show (["after","clear","conic","curve","flat","glass","into","mirror","radius","start","stop","surface"]:List Str)[n]?=none from ez] at hv;cases hv
   |some z=>rw[show (["after","clear","conic","curve","flat","glass","into","mirror","radius","start","stop","surface"]:List Str)[n]?=some z from ez] at hv;exact⟨z,rfl,(Option.some.inj hv).symm⟩
  have h5:=gH.ak _ _ _ s5 h4;have ew:(z.cps.toList.map λc=>V.int (c:Nat))=(wc z).map V.int:=by unfold wc;rw[List.map_map];rfl
  have C:=AM (P:=P) (w:=w) (base:=base) T z (hsz z (List.mem_of_getElem? hz));rw[ew] at C;refine af (cn (Pq o_ (ah C hr rfl (aa (ae 4 rfl rfl v_) v_ ag)) (ae 3 rfl h5 gH.ak)) (λh6 H6 s6=>?_) (λh6 H6 s6=>aJ (aJ ⟨⟨_,rfl⟩,s5.trans s6,λk z' hk BW=>?_⟩)))
  ·rw[EO KA hz h6] at sQ;exact af (aE (eL (Gz T.RK) hr rfl (aa (ae 4 rfl rfl v_) v_ (aa (ae 1 rfl rfl mo) mo (aa (ae 2 rfl rfl mo) mo (aa tS mo ag)))) ⟨Vi.ak _,Vi.ak _,Vi.ak _,Vi.ak _,trivial⟩ rfl) (sQ.au (s5.trans s6)))
  ·rcases Nat.lt_or_ge k n with q |q
   ·exact KA k z' q BW
   ·have:k=n:=by omega
    subst this;rw[hz] at BW;cases BW;exact h6
 ·rintro σ H5 ⟨⟨vw,rfl⟩,s5,KA⟩;have h5:=gH.ak _ _ _ s5 h4;rw[GG KA (Nat.le_refl _)] at sQ;exact af (aE (eL (Gz T.RK) hr rfl (aa a8 v_ (aa (ae 1 rfl rfl v_) v_ (aa (ae 2 rfl rfl v_) v_ (aa (ae 3 rfl h5 gH.ak) gH.ak ag)))) ⟨Vi.ak _,Vi.ak _,Vi.ak _,gH.ak,trivial⟩ rfl) (sQ.au s5))
end
theorem ML{X:Cx}{σ:L2.St}{H:Hp}{pos:Pos}{D:cT}{i:Nat}{x y:Str}{pos' p2:Pos}{body:List Stmt}{z:Str}{u:Value}(hp:PassesOwn (model X.prog X.w) X.A X.env X.xe)(hc:X.gB=true)(hg:Gl X y)(hm:X.mg y=some u)(hr:cz (.str z) u)
  (Pv:Nat->L2.St->Hp->Prop)(h0:Pv 0 σ H)(hs:∀j c σ' H',z.cps[j]?=some c->Pv j σ' H'->Do X body {D with nx:=Pv (j+1),ct:=Pv (j+1),bk:=D.nx} (σ'.set i (some (.str ⟨#[c]⟩))) H')(hd:∀σ' H',Pv z.cps.size σ' H'->D.nx σ' H')
  (hN:X.N.Nodup)(SH:X.N[i]?=some x:=by rfl)(hx:DN X.env.scope x:=by exact Or.inl rfl)(hf:X.fn x=true\/X.env.scope.names.lookup x=some .local:=by first |exact .inl rfl |exact .inr rfl)
  (II:∀v,foldedSetIterable (.Name y p2) X.env v=pure v:=by intro _;rfl)(kf:(y == ("__debug__":Str))=false:=by decide):jk X (.For (.Name x pos') (.Name y p2) body [] pos) D σ H:=by
 refine PS.do (xC hp hc (Ih (rY hg hm hr kf)) (kM (i:=i) hN SH hx hf) pD II) ⟨z,rfl,λk m σ' H'=>m=z.cps.size - k/\k<=z.cps.size/\Pv k σ' H',⟨z.cps.size,rfl,Nat.zero_le _,h0⟩,?_⟩
 rintro k m σ' H' ⟨rfl,hk,hP⟩
 by_cases fS:k<z.cps.size
 ·refine .inr ⟨fS,Pv (k+1),λσ2 H2 p=>⟨z.cps.size - (k+1),by omega,rfl,fS,p⟩,?_⟩;rintro v H2 ⟨rfl,c,QW,rfl⟩;exact hs k c σ' _ QW hP
 ·have e:k=z.cps.size:=by omega
  subst e;exact .inl ⟨Nat.le_refl _,hd _ _ hP⟩
def mh(CF CK CI:Addr)(b:List UInt8)(i:Nat):Except Ex Rv:=match b[My.bE b i]? with
 |none=>.ok (qV CK "end" (My.bE b i) (My.bE b i) (Vi .dH))
 |some c =>
  if Ln.Text.isLetter c=true then pM CF (decide (cY b (My.bE b i) - My.bE b i<=32)) (AO CK b (My.bE b i)) (My.bE b i) 1
  else if Ln.Num.isDigit c=true then pM CF (pL b (My.bE b i)) (JW CK CI b (My.bE b i)) (My.bE b i) 1
  else pM CF ((":,;/-":Str).cps.toList.any λm=>decide (m=c.toNat)) (qV CK ⟨#[c.toNat]⟩ (My.bE b i) (My.bE b i+1) (Vi .dH)) (My.bE b i) 1
section
variable{P:Program}{w:World}{K:Frag}{mg:Str->Option Value}{base:Heap}{CI CN NN CG NG CF NF CK:Addr}
theorem MM{X:Cx}{σ:L2.St}{H:Hp}{a:Expr}{p pos:Pos}{c:Nat}(hg:Gl X "ord")(hm:X.mg "ord"=none)(ha:Yd X σ H a (Vi (.str ⟨#[c]⟩)))(he:starEach [a] X.env=(false,eval a X.env)::starEach [] X.env:=by rfl)(d9:(backTo pos (starEach [] X.env)).any (·.1)=false:=by rfl) :
  Yd X σ H (.Call (.Name "ord" p) [a] [] pos) (Vi (.int (c:Nat))):=λH1 s1 =>
 PE.ev (gm zu hg hm (by decide +kernel) (bI pE cV he) d_ d_ he d9) ((ha H1 s1).aw λv H2 ⟨s2,e1⟩=>⟨⟨#[c]⟩,by rw[e1],rfl,s2,rfl⟩)
theorem AQ(T:Tt K mg CI CN NN CG NG CF NF CK)(b:List UInt8)(i:Nat)(hi:i<=b.length)(hb:b.length<2^59):fq P w K mg base "scan" 7 ["text","place"] (pY [Tx K b,Vi (.int i)] (mh CF CK CI b i)):=by
 refine T.scan.xQ (N:=["text","place","mark"]) fR rfl λf bL A ai s H vs Q E X e hr nd hT C6 uL hq=>?_;subst e;obtain⟨vt,_,rfl,ht,rfl⟩:=lT uL;have hk:My.bE b i<=b.length:=by
  unfold My.bE;have:=My.Ji (b.drop i);rw[List.length_drop] at this;omega
 refine af (aD (i:=1) (ah (JV T b i hi) hr rfl (aa (ae 0 rfl ht Tx.ak) Tx.ak (aa (ae 1 rfl rfl mo) mo ag))) (λv1 H1 s1 h1=>?_) nd);subst h1;have sO:=Tx.ak _ _ _ s1 ht;have xb:=hq.au s1;unfold mh at xb;generalize My.bE b i=k at *;refine af (cn (dJ (ae 1 rfl rfl v_) (eE rfl T.N.len (ae 0 rfl sO Tx.ak)) rfl) (λh H2 s2=>?_) (λh H2 s2=>aJ ?_))
 ·rw[eJ] at h;have h:=of_decide_eq_true h;rw[List.getElem?_eq_none o_] at xb;exact af (aE (eL (Gz T.RK) hr rfl (aa a8 v_ (aa (ae 1 rfl rfl mo) mo (aa (ae 1 rfl rfl mo) mo (aa tS mo ag)))) ⟨Vi.ak _,Vi.ak _,Vi.ak _,Vi.ak _,trivial⟩ rfl) (xb.au s2))
 rw[eJ] at h;have fS:k<b.length:=by have:=of_decide_eq_false h;omega
 obtain⟨c,hc⟩:∃c,b[k]?=some c:=⟨_,List.getElem?_eq_getElem fS⟩
 rw[hc] at xb;dsimp only at xb;have mF:=Tx.ak _ _ _ s2 sO;have rK:=xb.au s2;refine af (cn (gf (ah (uN T c) hr rfl (aa (gg (ae 0 rfl mF Tx.ak) (ae 1 rfl rfl mo) hc) v_ ag))) (λh H3 s3=>?_) (λh H3 s3=>aJ ?_))
 ·rw[if_pos h] at rK;have xf:=Tx.ak _ _ _ s3 mF;have C:=uQ (P:=P) (w:=w) (base:=base) T b k hk;have AH:=rK.au s3;cases eo:pM CF (decide (cY b k - k<=32)) (AO CK b k) k 1 with
  |ok R =>
   rw[eo] at AH C;exact af (aE (ah C hr rfl (aa (ae 0 rfl xf Tx.ak) Tx.ak (aa (ae 1 rfl rfl mo) mo ag))) AH)
  |error xx =>
   rw[eo] at AH C;exact af (dh (dS C rfl hT hr rfl (aa (ae 0 rfl xf Tx.ak) Tx.ak (aa (ae 1 rfl rfl mo) mo ag))) AH)
 rw[if_neg (by rw[h];exact Bool.false_ne_true)] at rK;have xf:=Tx.ak _ _ _ s3 mF;have AH:=rK.au s3;refine af (cn (gf (ah (jR T.N c) hr rfl (aa (gg (ae 0 rfl xf Tx.ak) (ae 1 rfl rfl mo) hc) v_ ag))) (λh H4 s4=>?_) (λh H4 s4=>aJ ?_))
 ·rw[if_pos h] at AH;have MC:=Tx.ak _ _ _ s4 xf;have C:=qW (P:=P) (w:=w) (base:=base) T b k fS hb;have sQ:=AH.au s4;cases eo:pM CF (pL b k) (JW CK CI b k) k 1 with
  |ok R =>
   rw[eo] at sQ C;exact af (aE (ah C hr rfl (aa (ae 0 rfl MC Tx.ak) Tx.ak (aa (ae 1 rfl rfl mo) mo ag))) sQ)
  |error xx =>
   rw[eo] at sQ C;exact af (dh (dS C rfl hT hr rfl (aa (ae 0 rfl MC Tx.ak) Tx.ak (aa (ae 1 rfl rfl mo) mo ag))) sQ)
 rw[if_neg (by rw[h];exact Bool.false_ne_true)] at AH;have MC:=Tx.ak _ _ _ s4 xf;have sQ:=AH.au s4;obtain⟨tm,hmk⟩:=T.Tw;refine ii (λσ H'=>(∃vw,σ=[some vt,some (.int k),vw])/\aM H4 H'/\∀n m,(":,;/-":Str).cps[n]?=some m->m≠c.toNat) (ML (i:=2) (z:=":,;/-") C6 rfl rfl hmk ⟨tm,rfl⟩ (λn σ H'=>(∃vw,σ=[some vt,some (.int k),vw])/\aM H4 H'/\∀n' m,n'<n->(":,;/-":Str).cps[n']?=some m->m≠c.toNat) ⟨⟨none,rfl⟩,sm,λn' m h=>absurd h o_⟩ ?_ (λσ H' hP=>⟨hP.1,hP.2.1,λn m e=>hP.2.2 n m (by obtain⟨z,_⟩:=Array.getElem?_eq_some_iff.mp e;exact z) e⟩) nd) ?_
 ·rintro n m σ H5 hm ⟨⟨vw,rfl⟩,s5,KA⟩;have P8:=Tx.ak _ _ _ s5 MC;refine af (cn (dJ (MM rfl T.MH (ae 2 rfl rfl v_)) (gg (ae 0 rfl P8 Tx.ak) (ae 1 rfl rfl mo) hc) rfl) (λh6 H6 s6=>?_) (λh6 H6 s6=>aJ (aJ ⟨⟨_,rfl⟩,s5.trans s6,λn' m' Fe WR=>?_⟩)))
  ·rw[eJ] at h6;have em:m=c.toNat:=of_decide_eq_true h6;subst em;have Qh:((":,;/-":Str).cps.toList.any λm=>decide (m=c.toNat))=true:=List.any_eq_true.mpr ⟨c.toNat,List.mem_of_getElem? (by rw[Array.getElem?_toList];exact hm),by simp⟩;unfold pM at sQ;rw[if_pos Qh] at sQ;exact af (aE (eL (Gz T.RK) hr rfl (aa (ae 2 rfl rfl v_) v_ (aa (ae 1 rfl rfl v_) v_ (aa (Yd.to (y:=.int ((k+1:Nat):Int)) (dw ff (ae 1 rfl rfl v_) aH) (by rfl)) v_ (aa tS mo ag)))) ⟨Vi.ak _,Vi.ak _,Vi.ak _,Vi.ak _,trivial⟩ rfl) (sQ.au (s5.trans s6)))
  ·rcases Nat.lt_or_ge n' n with q |q
   ·exact KA n' m' q WR
   ·have:n'=n:=by omega
    subst this;rw[hm] at WR;cases WR;rw[eJ] at h6;exact of_decide_eq_false h6
 ·rintro σ H5 ⟨⟨vw,rfl⟩,s5,KA⟩;have Qh:¬((":,;/-":Str).cps.toList.any λm=>decide (m=c.toNat))=true:=λz=>by
   obtain⟨m,hm,em⟩:=List.any_eq_true.mp z;obtain⟨n,hn⟩:=List.mem_iff_getElem?.mp hm;rw[Array.getElem?_toList] at hn;exact KA n m hn (of_decide_eq_true em)
  unfold pM at sQ;rw[if_neg Qh] at sQ;exact af (fH (dz T.gZ) hT rfl hr rfl (aa (ae 1 rfl rfl mo) mo (aa (bV T.yK rfl) mo ag)) ⟨mo,mo,trivial⟩ rfl (sQ.au s5))
end
def bS(b:List UInt8):Str:=⟨(b.map UInt8.toNat).toArray⟩
def cf:Ln.Text.Tok->Str
 |.word b=>bS b
 |.name _=>"name"
 |.num _ _ true=>"pointed"
 |.num _ _ false=>"whole"
 |.mark c=>⟨#[c.toNat]⟩
 |.end_=>"end"
 |.broken=>"end"
def Di(CI:Addr):Ln.Text.Tok->Rv
 |.name b=>gH (b.map λc=>V.int (c.toNat:Int))
 |.num n k true=>Iv CI (My.ic n k)
 |.num n _ false=>Iv CI (My.ap (n:Nat))
 |_=>Vi .dH
def ig(CK CI:Addr)(b:List UInt8)(i:Nat):Rv:=qV CK (cf (My.tk b i)) (My.pl b i) (My.bA b i).2 (Di CI (My.tk b i))
theorem MN{α:Type}(p:α->Bool)(l:List α):l.take (l.takeWhile p).length=l.takeWhile p:=by
 induction l with
 |nil=>rfl
 |cons a l ih =>
  rw[List.takeWhile_cons]
  by_cases h:p a=true
  ·rw[if_pos h,List.length_cons,List.take_succ_cons,ih]
  ·rw[if_neg h];rfl
theorem TC(b:List UInt8)(k:Nat):nm b k=((b.drop k).takeWhile λ(x:UInt8)=>Ln.Text.isLetter x || Ln.Text.isDigit x).map λc=>(c.toNat:Int):=by
 unfold nm cY;rw[Nat.add_sub_cancel_left,MN]
theorem EQ:∀{a b:List UInt8},(a.map λc=>(c.toNat:Int))=(b.map λc=>(c.toNat:Int))->a=b
 |[],[],_=>rfl
 |[],_::_,h=>by simp at h
 |_::_,[],h=>by simp at h
 |x::a,y::b,h=>by
  rw[List.map_cons,List.map_cons] at h;obtain⟨h1,h2⟩:=List.cons.inj h;rw[EQ h2,UInt8.toNat_inj.mp (by omega:x.toNat=y.toNat)]
def WB:List (List UInt8):=Ln.Text.WORDS
theorem TF:WS=WB.map bS:=by decide +kernel
theorem TJ(b:List UInt8):wc (bS b)=b.map λc=>(c.toNat:Int):=by
 unfold wc bS;rw[List.toList_toArray,List.map_map];rfl
theorem MO(w:List UInt8):(WS.find? λz=>decide (wc z=w.map λc=>(c.toNat:Int)))=if WB.contains w=true then some (bS w) else none:=by
 rw[TF];generalize WB=l
 induction l with
 |nil=>rfl
 |cons a l ih =>
  rw[List.map_cons,List.find?_cons,TJ]
  by_cases h:a=w
  ·subst h;simp
  ·rw[decide_eq_false λz=>h (EQ z)];dsimp only;rw[ih];have:(a::l).contains w=l.contains w:=by
    rw[List.contains_cons];have:(w == a)=false:=by simpa using λz=>h z.symm
    rw[this,Bool.false_or]
   rw[this]
def uR(CF CK CI:Addr)(b:List UInt8)(i:Nat):Except Ex Rv:=if My.tk b i=.broken then .error (B7 CF qT [Vi (.int (My.pl b i:Nat)),Vi (.int (1:Nat))]) else .ok (ig CK CI b i)
theorem JX{CF CK CI:Addr}{b:List UInt8}{i:Nat}(h:b[My.bE b i]?=none):mh CF CK CI b i=uR CF CK CI b i:=by
 have hd:b.drop (My.bE b i)=[]:=List.drop_eq_nil_of_le (List.getElem?_eq_none_iff.mp h);have e:My.bA b i=(⟨My.bE b i,.end_⟩,My.bE b i):=by
  show (Ln.Text.Lex.mk (My.bE b i) (Ln.Text.tokenIn (b.drop (My.bE b i))).1,My.bE b i+(Ln.Text.tokenIn (b.drop (My.bE b i))).2)=_;rw[hd];rfl
 unfold mh uR ig My.tk My.pl;rw[h,e,if_neg (by intro z;cases z)];rfl
theorem AR{CF CK CI:Addr}{b:List UInt8}{i:Nat}{c:UInt8}(h:b[My.bE b i]?=some c)(hl:Ln.Text.isLetter c=true):mh CF CK CI b i=uR CF CK CI b i:=by
 have hd:=My.gb h;have e:My.bA b i=(⟨My.bE b i,(Ln.Text.tokenIn (b.drop (My.bE b i))).1⟩,My.bE b i+(Ln.Text.tokenIn (b.drop (My.bE b i))).2):=rfl;have et:Ln.Text.tokenIn (b.drop (My.bE b i))=(if 32<((b.drop (My.bE b i)).takeWhile λ(x:UInt8)=>Ln.Text.isLetter x || Ln.Text.isDigit x).length then (.broken,0) else if WB.contains ((b.drop (My.bE b i)).takeWhile λ(x:UInt8)=>Ln.Text.isLetter x || Ln.Text.isDigit x)=true then (.word ((b.drop (My.bE b i)).takeWhile λ(x:UInt8)=>Ln.Text.isLetter x || Ln.Text.isDigit x),((b.drop (My.bE b i)).takeWhile λ(x:UInt8)=>Ln.Text.isLetter x || Ln.Text.isDigit x).length) else (.name ((b.drop (My.bE b i)).takeWhile λ(x:UInt8)=>Ln.Text.isLetter x || Ln.Text.isDigit x),((b.drop (My.bE b i)).takeWhile λ(x:UInt8)=>Ln.Text.isLetter x || Ln.Text.isDigit x).length)):=by
  rw[hd];show (if Ln.Text.isLetter c=true then _ else _)=_;rw[if_pos hl];rfl
 unfold mh uR ig My.tk My.pl;rw[h,e,et];dsimp only;rw[if_pos hl];unfold AO;rw[TC,MO];have en:cY b (My.bE b i)=My.bE b i+((b.drop (My.bE b i)).takeWhile λ(x:UInt8)=>Ln.Text.isLetter x || Ln.Text.isDigit x).length:=rfl;rw[en,Nat.add_sub_cancel_left];generalize ((b.drop (My.bE b i)).takeWhile λ(x:UInt8)=>Ln.Text.isLetter x || Ln.Text.isDigit x)=wd;unfold pM
 by_cases YK:32<wd.length
 ·rw[if_pos YK,decide_eq_false o_,if_neg Bool.false_ne_true,if_pos rfl]
 ·rw[if_neg YK,decide_eq_true o_,if_pos rfl]
  by_cases hw:WB.contains wd=true
  ·rw[if_pos hw,if_pos hw,if_neg (by intro z;cases z)];rfl
  ·rw[if_neg hw,if_neg hw,if_neg (by intro z;cases z)];show Except.ok (qV CK "name" _ _ (gH ((wd.map λc=>(c.toNat:Int)).map V.int)))=Except.ok (qV CK "name" _ _ (gH (wd.map λc=>V.int (c.toNat:Int))));rw[List.map_map];rfl
theorem JY(c:UInt8):((":,;/-":Str).cps.toList.any λm=>decide (m=c.toNat))=Ln.Text.isMark c:=by
 have h:∀n:Nat,n<256->((":,;/-":Str).cps.toList.any λm=>decide (m=n))=Ln.Text.isMark (UInt8.ofNat n):=by decide +kernel
 have:=h c.toNat c.toNat_lt;rw[UInt8.ofNat_toNat] at this;exact this
theorem GH{CF CK CI:Addr}{b:List UInt8}{i:Nat}{c:UInt8}(h:b[My.bE b i]?=some c)(hl:Ln.Text.isLetter c=false)(Bz:Ln.Num.isDigit c=false):mh CF CK CI b i=uR CF CK CI b i:=by
 have hd:=My.gb h;have e:My.bA b i=(⟨My.bE b i,(Ln.Text.tokenIn (b.drop (My.bE b i))).1⟩,My.bE b i+(Ln.Text.tokenIn (b.drop (My.bE b i))).2):=rfl;have Fc:¬Ln.Text.isLetter c=true:=by rw[hl];exact Bool.false_ne_true
 have DO:¬Ln.Num.isDigit c=true:=by rw[Bz];exact Bool.false_ne_true
 have et:Ln.Text.tokenIn (b.drop (My.bE b i))=(if Ln.Text.isMark c=true then (.mark c,1) else (.broken,0)):=by
  rw[hd];show (if Ln.Text.isLetter c=true then _ else if Ln.Text.isDigit c=true then _ else _)=_;rw[if_neg Fc,My.l8,if_neg DO]
 unfold mh uR ig My.tk My.pl;rw[h,e,et];dsimp only;rw[if_neg Fc,if_neg DO,JY];unfold pM
 by_cases hm:Ln.Text.isMark c=true
 ·rw[if_pos hm,if_pos hm,if_neg (by intro z;cases z)];rfl
 ·rw[if_neg hm,if_neg hm,if_pos rfl]
theorem AS(l:List UInt8):l.takeWhile Ln.Text.isDigit=l.takeWhile Ln.Num.isDigit:=by
 rw[show Ln.Text.isDigit=Ln.Num.isDigit from funext My.l8]
theorem xm(b:List UInt8)(m:Nat):(b.drop m).head?=b[m]?:=by rw[List.head?_drop]
theorem ER(b:List UInt8)(i:Nat){c:UInt8}(h:b[My.am b i]?=some c):Ln.Num.isDigit c=false:=by
 cases hd:Ln.Num.isDigit c with
 |false=>rfl
 |true =>
  exfalso;have key:∀n j,n=b.length - j->b[My.am b j]?=some c->False:=by
   intro n
   induction n with
   |zero =>
    intro j hn hj;rw[My.Cy o_,List.getElem?_eq_none o_] at hj;cases hj
   |succ n ih =>
    intro j hn hj;have fS:j<b.length:=by omega
    obtain⟨d,DO⟩:∃d,b[j]?=some d:=⟨_,List.getElem?_eq_getElem fS⟩
    cases Q5:Ln.Num.isDigit d with
    |false =>
     rw[My.yp DO Q5,DO] at hj;cases hj;rw[Q5] at hd;cases hd
    |true =>
     refine ih (j+1) o_ ?_;rw[My.yo DO Q5];exact hj
  exact key _ i rfl h
theorem ES{b:List UInt8}{j:Nat}(h:∀c,b[j]?=some c->Ln.Num.isDigit c=false):(!((b.drop j).head?.any λ(c:UInt8)=>Ln.Text.isLetter c || c == 46))=eY b j:=by
 rw[xm];unfold eY;cases e:b[j]? with
 |none=>rfl
 |some c =>
  show (!(Ln.Text.isLetter c || c == 46))=!((Ln.Text.isLetter c || Ln.Text.isDigit c) || decide (c=46));rw[My.l8,h c e,Bool.or_false];congr 2
theorem AT(b:List UInt8)(k:Nat)(a:List UInt8)(m:Nat)(z:List UInt8)(pt:Bool)(ha:(b.drop k).takeWhile Ln.Num.isDigit=a)(hm:m=k+a.length)(hp:(b[m]? == some 46)=pt)(hz:(if pt=true then (b.drop (m+1)).takeWhile Ln.Num.isDigit else [])=z) :
  Ln.Text.numberIn (b.drop k)=(if (!((b.drop (k+(a.length+(if pt=true then 1+z.length else 0)))).head?.any λ(c:UInt8)=>Ln.Text.isLetter c || c == 46))=true/\a.length+z.length<=18/\(pt=false\/z≠[]) then (.num (Ln.Num.number (a++z)) z.length pt,a.length+(if pt=true then 1+z.length else 0)) else (.broken,0)):=by
 unfold Ln.Text.numberIn;dsimp only;have WT:(b.drop k).drop a.length=b.drop m:=by rw[List.drop_drop,hm]
 have hh:((b.drop m).head? == some 46)=pt:=by rw[xm];exact hp
 have BW:(if pt=true then ((b.drop m).drop 1).takeWhile Ln.Text.isDigit else [])=z:=by rw[AS,List.drop_drop];exact hz
 rw[AS,ha,WT,hh,BW,List.drop_drop];rfl
theorem ET{b:List UInt8}{m:Nat}:bF b m=true↔b[m]?=some 46/\(b.drop (m+1)).takeWhile Ln.Num.isDigit≠[]:=by
 unfold bF;rw[Bool.and_eq_true,Bool.and_eq_true,decide_eq_true_eq,decide_eq_true_eq];cases e:b[m+1]? with
 |none =>
  have hd:b.drop (m+1)=[]:=List.drop_eq_nil_of_le (List.getElem?_eq_none_iff.mp e);rw[hd];simp
 |some d =>
  have fS:m+1<b.length:=(List.getElem?_eq_some_iff.mp e).1;rw[My.gb e,List.takeWhile_cons];dsimp only;cases Q5:Ln.Num.isDigit d <;> simp [fS]
theorem Dk{CF CK CI:Addr}{b:List UInt8}{i:Nat}{c:UInt8}(h:b[My.bE b i]?=some c)(hl:Ln.Text.isLetter c=false)(Bz:Ln.Num.isDigit c=true):mh CF CK CI b i=uR CF CK CI b i:=by
 have hd:=My.gb h;have Fc:¬Ln.Text.isLetter c=true:=by rw[hl];exact Bool.false_ne_true
 have e:My.bA b i=(⟨My.bE b i,(Ln.Text.tokenIn (b.drop (My.bE b i))).1⟩,My.bE b i+(Ln.Text.tokenIn (b.drop (My.bE b i))).2):=rfl;have et:Ln.Text.tokenIn (b.drop (My.bE b i))=Ln.Text.numberIn (b.drop (My.bE b i)):=by
  rw[hd];show (if Ln.Text.isLetter c=true then _ else if Ln.Text.isDigit c=true then _ else _)=_;rw[if_neg Fc,My.l8,if_pos Bz]
 unfold mh uR ig My.tk My.pl;rw[h,e,et];dsimp only;rw[if_neg Fc,if_pos Bz];clear e et hd h hl Bz Fc;generalize My.bE b i=k;unfold pL JW lg;have hm:My.am b k=k+((b.drop k).takeWhile Ln.Num.isDigit).length:=rfl;have hv:My.a6 b k (My.am b k)=Ln.Num.number ((b.drop k).takeWhile Ln.Num.isDigit):=My.fX b k;have YL:=λc hc=>ER b k (c:=c) hc;generalize ha:(b.drop k).takeWhile Ln.Num.isDigit=a at hm hv;generalize S8:My.am b k=m at hm hv YL
 by_cases PM:b[m]?=some 46
 ·have hp:(b[m]? == some 46)=true:=by simpa using PM
  have IN:My.am b (m+1)=m+1+((b.drop (m+1)).takeWhile Ln.Num.isDigit).length:=rfl;have WU:My.a6 b (m+1) (My.am b (m+1))=Ln.Num.number ((b.drop (m+1)).takeWhile Ln.Num.isDigit):=My.fX b (m+1);have WV:=λc hc=>ER b (m+1) (c:=c) hc;have m9:=ET (b:=b) (m:=m);generalize hz:(b.drop (m+1)).takeWhile Ln.Num.isDigit=z at IN WU m9;have nf:=AT b k a m z true ha hm hp (by rw[if_pos rfl];exact hz);simp only[if_true] at nf
  by_cases Jg:z=[]
  ·have Qi:bF b m=false:=by
    cases q:bF b m with
    |false=>rfl
    |true=>exact absurd Jg (m9.mp q).2
   have hme:eY b m=false:=by
    unfold eY;rw[PM];show (!(_ || decide ((46:UInt8)=46)))=false;rw[decide_eq_true rfl,Bool.or_true];rfl
   have eN:Ln.Text.numberIn (b.drop k)=(.broken,0):=by
    rw[nf];exact if_neg (by rintro⟨_,_,z1 |z1⟩;cases z1;exact z1 Jg)
   rw[Qi,eN];simp only[Bool.false_eq_true,if_false];rw[hme,Bool.and_false];rfl
  ·have Qi:bF b m=true:=m9.mpr ⟨PM,Jg⟩;have hj:k+(a.length+(1+z.length))=My.am b (m+1):=by omega
   have TK:My.am b (m+1) - k - 1=a.length+z.length:=by omega
   rw[hj,ES WV] at nf
   by_cases hok:eY b (My.am b (m+1))=true/\a.length+z.length<=18
   ·have eN:Ln.Text.numberIn (b.drop k)=(.num (Ln.Num.number (a++z)) z.length true,a.length+(1+z.length)):=by
     rw[nf];exact if_pos ⟨hok.1,hok.2,.inr Jg⟩
    rw[Qi,eN];simp only[if_true];rw[TK,hok.1,decide_eq_true hok.2];have ev:My.dC b k m (My.am b (m+1))=My.ic (Ln.Num.number (a++z)) z.length:=by
     unfold My.dC My.ic;rw[hv,WU,My.j4,IN,Nat.add_sub_cancel_left]
    show Except.ok (qV CK "pointed" k (My.am b (m+1)) (Iv CI (My.dC b k m (My.am b (m+1)))))=Except.ok (qV CK "pointed" k (k+(a.length+(1+z.length))) (Iv CI (My.ic (Ln.Num.number (a++z)) z.length)));rw[ev,hj]
   ·have eN:Ln.Text.numberIn (b.drop k)=(.broken,0):=by
     rw[nf];exact if_neg λq=>hok ⟨q.1,q.2.1⟩
    have ef:(decide (a.length+z.length<=18) && eY b (My.am b (m+1)))=false:=by
     cases q:(decide (a.length+z.length<=18) && eY b (My.am b (m+1))) with
     |false=>rfl
     |true=>exact absurd ⟨(Bool.and_eq_true _ _ |>.mp q).2,of_decide_eq_true (Bool.and_eq_true _ _ |>.mp q).1⟩ hok
    rw[Qi,eN];simp only[if_true];rw[TK,ef];rfl
 ·have hp:(b[m]? == some 46)=false:=by simpa using PM
  have Qi:bF b m=false:=by
   cases q:bF b m with
   |false=>rfl
   |true=>exact absurd (ET.mp q).1 PM
  have nf:=AT b k a m [] false ha hm hp (by rw[if_neg Bool.false_ne_true]);simp only[Bool.false_eq_true,if_false,List.length_nil,Nat.add_zero,List.append_nil] at nf;rw[<-hm,ES YL] at nf;have TK:m - k=a.length:=by omega
  by_cases hok:eY b m=true/\a.length<=18
  ·have eN:Ln.Text.numberIn (b.drop k)=(.num (Ln.Num.number a) 0 false,a.length):=by
    rw[nf];exact if_pos ⟨hok.1,hok.2,.inl trivial⟩
   rw[Qi,eN];simp only[Bool.false_eq_true,if_false];rw[TK,hok.1,decide_eq_true hok.2];show Except.ok (qV CK "whole" k m (Iv CI (My.ap (My.a6 b k m:Nat))))=Except.ok (qV CK "whole" k (k+a.length) (Iv CI (My.ap ((Ln.Num.number a:Nat):Int))));rw[hv,hm]
  ·have eN:Ln.Text.numberIn (b.drop k)=(.broken,0):=by
    rw[nf];exact if_neg λq=>hok ⟨q.1,q.2.1⟩
   have ef:(decide (a.length<=18) && eY b m)=false:=by
    cases q:(decide (a.length<=18) && eY b m) with
    |false=>rfl
    |true=>exact absurd ⟨(Bool.and_eq_true _ _ |>.mp q).2,of_decide_eq_true (Bool.and_eq_true _ _ |>.mp q).1⟩ hok
   rw[Qi,eN];simp only[Bool.false_eq_true,if_false];rw[TK,ef];rfl
theorem AU(CF CK CI:Addr)(b:List UInt8)(i:Nat):mh CF CK CI b i=uR CF CK CI b i:=by
 cases h:b[My.bE b i]? with
 |none=>exact JX h
 |some c =>
  cases hl:Ln.Text.isLetter c with
  |true=>exact AR h hl
  |false =>
   cases hd:Ln.Num.isDigit c with
   |true=>exact Dk h hl hd
   |false=>exact GH h hl hd
def Gd(t:Ln.Text.Tok):Prop:=∀w,t=.word w->w∈Ln.Text.WORDS
theorem eK(b:List UInt8)(i:Nat):Gd (My.tk b i):=by
 intro w h;have h':(Ln.Text.tokenIn (b.drop (i+My.bl (b.drop i)))).1=.word w:=h;generalize b.drop (i+My.bl (b.drop i))=d at h';unfold Ln.Text.tokenIn at h';split at h'
 ·cases h'
 ·split at h'
  ·dsimp only at h';split at h'
   ·cases h'
   ·split at h'
    ·rename_i hc;cases h';exact List.elem_iff.mp hc
    ·cases h'
  ·split at h'
   ·exfalso;rename_i c t _ _;rcases My.k7 (c::t) with e |⟨n,k,p,e⟩ <;> (rw[e] at h';cases h')
   ·split at h' <;> cases h'
abbrev wl:List String:=["after","clear","conic","curve","flat","glass","into","mirror","radius","start","stop","surface"]
theorem dv{t:Ln.Text.Tok}(hg:Gd t)(s:String)(hs:s∈wl):cf t=Str.ofString s↔t=My.wd s:=by
 have key:∀w∈Ln.Text.WORDS,∀s∈wl,(bS w=Str.ofString s↔w=Ln.ascii s):=by decide +kernel
 have k1:∀s∈wl,("name":Str)≠Str.ofString s/\("pointed":Str)≠Str.ofString s/\("whole":Str)≠Str.ofString s/\("end":Str)≠Str.ofString s/\(Str.ofString s).cps.size≠1:=by decide +kernel
 obtain⟨n1,n2,n3,n4,n5⟩:=k1 s hs;cases t with
 |word w =>
  refine(key w (hg w rfl) s hs).trans ⟨λz=>by rw[z],λz=>?_⟩;injection z
 |name b=>exact⟨λz=>absurd z n1,λz=>by cases z⟩
 |num n k p =>
  cases p
  ·exact⟨λz=>absurd z n3,λz=>by cases z⟩
  ·exact⟨λz=>absurd z n2,λz=>by cases z⟩
 |mark c=>exact⟨λz=>absurd (by rw[<-z];rfl) n5,λz=>by cases z⟩
 |end_=>exact⟨λz=>absurd z n4,λz=>by cases z⟩
 |broken=>exact⟨λz=>absurd z n4,λz=>by cases z⟩
theorem kd_mark{t:Ln.Text.Tok}(hg:Gd t)(m:UInt8):cf t=⟨#[m.toNat]⟩↔t=.mark m:=by
 have key:∀w∈Ln.Text.WORDS,(bS w).cps.size≠1:=by decide +kernel
 have sz:∀{s:Str},s=⟨#[m.toNat]⟩->s.cps.size=1:=λz=>by rw[z];rfl
 cases t with
 |word w=>exact⟨λz=>absurd (sz z) (key w (hg w rfl)),λz=>by cases z⟩
 |name b=>exact⟨λz=>absurd (sz z) (show ¬("name":Str).cps.size=1 by decide),λz=>by cases z⟩
 |num n k p =>
  cases p
  ·exact⟨λz=>absurd (sz z) (show ¬("whole":Str).cps.size=1 by decide),λz=>by cases z⟩
  ·exact⟨λz=>absurd (sz z) (show ¬("pointed":Str).cps.size=1 by decide),λz=>by cases z⟩
 |mark c =>
  refine⟨λz=>?_,λz=>?_⟩
  ·have z':(⟨#[c.toNat]⟩:Str)=⟨#[m.toNat]⟩:=z;injection z' with z'
   have:c.toNat=m.toNat:=by simpa using z'
   rw[UInt8.toNat_inj.mp this]
  ·injection z with z
   rw[z];rfl
 |end_=>exact⟨λz=>absurd (sz z) (show ¬("end":Str).cps.size=1 by decide),λz=>by cases z⟩
 |broken=>exact⟨λz=>absurd (sz z) (show ¬("end":Str).cps.size=1 by decide),λz=>by cases z⟩
theorem sR{t:Ln.Text.Tok}(hg:Gd t):cf t="name"↔∃n,t=.name n:=by
 have key:∀w∈Ln.Text.WORDS,bS w≠"name":=by decide +kernel
 cases t with
 |word w=>exact⟨λz=>absurd z (key w (hg w rfl)),λ⟨n,z⟩=>by cases z⟩
 |name b=>exact⟨λ_=>⟨b,rfl⟩,λ_=>rfl⟩
 |num n k p=>cases p <;> exact⟨λz=>absurd z (by first |exact(show ¬("whole":Str)="name" by decide) |exact(show ¬("pointed":Str)="name" by decide)),λ⟨n,z⟩=>by cases z⟩
 |mark c=>exact⟨λz=>absurd (congrArg (λs:Str=>s.cps.size) z) (show ¬(1:Nat)=("name":Str).cps.size by decide),λ⟨n,z⟩=>by cases z⟩
 |end_=>exact⟨λz=>absurd z (show ¬("end":Str)="name" by decide),λ⟨n,z⟩=>by cases z⟩
 |broken=>exact⟨λz=>absurd z (show ¬("end":Str)="name" by decide),λ⟨n,z⟩=>by cases z⟩
theorem pN{t:Ln.Text.Tok}(hg:Gd t):cf t="whole"↔∃n k,t=.num n k false:=by
 have key:∀w∈Ln.Text.WORDS,bS w≠"whole":=by decide +kernel
 cases t with
 |word w=>exact⟨λz=>absurd z (key w (hg w rfl)),λ⟨n,k,z⟩=>by cases z⟩
 |name b=>exact⟨λz=>absurd z (show ¬("name":Str)="whole" by decide),λ⟨n,k,z⟩=>by cases z⟩
 |num n k p =>
  cases p
  ·exact⟨λ_=>⟨n,k,rfl⟩,λ_=>rfl⟩
  ·exact⟨λz=>absurd z (by first |exact(show ¬("whole":Str)="whole" by decide) |exact(show ¬("pointed":Str)="whole" by decide)),λ⟨n,k,z⟩=>by cases z⟩
 |mark c=>exact⟨λz=>absurd (congrArg (λs:Str=>s.cps.size) z) (show ¬(1:Nat)=("whole":Str).cps.size by decide),λ⟨n,k,z⟩=>by cases z⟩
 |end_=>exact⟨λz=>absurd z (show ¬("end":Str)="whole" by decide),λ⟨n,k,z⟩=>by cases z⟩
 |broken=>exact⟨λz=>absurd z (show ¬("end":Str)="whole" by decide),λ⟨n,k,z⟩=>by cases z⟩
theorem uS{t:Ln.Text.Tok}(hg:Gd t):cf t="pointed"↔∃n k,t=.num n k true:=by
 have key:∀w∈Ln.Text.WORDS,bS w≠"pointed":=by decide +kernel
 cases t with
 |word w=>exact⟨λz=>absurd z (key w (hg w rfl)),λ⟨n,k,z⟩=>by cases z⟩
 |name b=>exact⟨λz=>absurd z (show ¬("name":Str)="pointed" by decide),λ⟨n,k,z⟩=>by cases z⟩
 |num n k p =>
  cases p
  ·exact⟨λz=>absurd z (by first |exact(show ¬("whole":Str)="pointed" by decide) |exact(show ¬("pointed":Str)="pointed" by decide)),λ⟨n,k,z⟩=>by cases z⟩
  ·exact⟨λ_=>⟨n,k,rfl⟩,λ_=>rfl⟩
 |mark c=>exact⟨λz=>absurd (congrArg (λs:Str=>s.cps.size) z) (show ¬(1:Nat)=("pointed":Str).cps.size by decide),λ⟨n,k,z⟩=>by cases z⟩
 |end_=>exact⟨λz=>absurd z (show ¬("end":Str)="pointed" by decide),λ⟨n,k,z⟩=>by cases z⟩
 |broken=>exact⟨λz=>absurd z (show ¬("end":Str)="pointed" by decide),λ⟨n,k,z⟩=>by cases z⟩
theorem Qj{t:Ln.Text.Tok}(hg:Gd t)(hb:t≠.broken):cf t="end"↔t=.end_:=by
 have key:∀w∈Ln.Text.WORDS,bS w≠"end":=by decide +kernel
 cases t with
 |word w=>exact⟨λz=>absurd z (key w (hg w rfl)),λz=>by cases z⟩
 |name b=>exact⟨λz=>absurd z (show ¬("name":Str)="end" by decide),λz=>by cases z⟩
 |num n k p=>cases p <;> exact⟨λz=>absurd z (by first |exact(show ¬("whole":Str)="end" by decide) |exact(show ¬("pointed":Str)="end" by decide)),λz=>by cases z⟩
 |mark c=>exact⟨λz=>absurd (congrArg (λs:Str=>s.cps.size) z) (show ¬(1:Nat)=("end":Str).cps.size by decide),λz=>by cases z⟩
 |end_=>exact⟨λ_=>rfl,λ_=>rfl⟩
 |broken=>exact absurd rfl hb
theorem yL(k:Str):∀ks:List Str,NJ (.str k) (ks.map V.str)=decide (k∈ks)
 |[]=>rfl
 |x::ks=>by
  have ih:=yL k ks;unfold NJ at ih ⊢;rw[List.map_cons,List.any_cons,ih];show ((x == k) || decide (k∈ks))=decide (k∈x::ks)
  by_cases h:x=k
  ·rw[h];simp
  ·rw[beq_eq_false_iff_ne.mpr h,Bool.false_or];refine decide_eq_decide.mpr ?_;rw[List.mem_cons];exact⟨.inr,λz=>z.elim (λy=>absurd y.symm h) id⟩
structure BA(K:Frag)(mg:Str->Option Value)(CI CN NN CG NG CF NF CK CS CP CR CY:Addr):Prop where
 T:Tt K mg CI CN NN CG NG CF NF CK
 RS:jG K mg "Shape" sS nS CS
 RP:jG K mg "Part" sP nP CP
 RY:jG K mg "System" sY nY CY
 fK:ve K CR
 Qk:gr K CR "text"
 iB:gr K CR "token"
 rmg:mg "Reader"=some (.ref CR)
 TM:∃f fd q,Mk K CR f/\rg K "__init__" q (fQ (top 95) 0) f fd/\fG K fd ["self","text"] []
 WW:∃f fd q,zw K CR "advance" f/\rg K "advance" q (fQ (top 95) 1) f fd/\fG K fd ["self"] []
 TN:∃f fd q,zw K CR "need" f/\rg K "need" q (fQ (top 95) 2) f fd/\fG K fd ["self","kinds"] []
 TQ:∃f fd q,zw K CR "take" f/\rg K "take" q (fQ (top 95) 3) f fd/\fG K fd ["self","kind"] []
 Dl:fA K mg "read_number" (top 96) ["reader"]
 GI:fA K mg "read_value" (top 97) ["reader"]
 AV:fA K mg "read_new_name" (top 98) ["reader","names"]
 GJ:fA K mg "read_known_glass" (top 99) ["reader","glasses"]
 GK:fA K mg "read_index" (top 100) ["reader","mark"]
 GL:fA K mg "read_glass" (top 101) ["reader","glasses"]
 GN:fA K mg "read_curve" (top 102) ["reader"]
 GO:fA K mg "read_shape" (top 103) ["reader"]
 GQ:fA K mg "read_clear" (top 104) ["reader"]
 JZ:fA K mg "read_part" (top 105) ["reader","glasses","names"]
 Dm:fA K mg "read_system" (top 106) ["text"]
 AW:nO mg "MOST_GLASSES" 64
 GR:nO mg "MOST_PARTS" 64
 Ql:nO mg "CANNOT_STAND" 2
 TR:nO mg "NAME_TWICE" 3
 MP:nO mg "NO_GLASS" 4
 EU:nO mg "TOO_MANY" 5
 UV:nO mg "BAD_NUMBER" 6
 YM:CI≠CR
 neS:CS≠CR
theorem Di.ak{CI:Addr}:∀{t:Ln.Text.Tok},Mon (Di CI t)
 |.name _=>gH.ak
 |.num _ _ true=>Iv.ak
 |.num _ _ false=>Iv.ak
 |.word _=>Vi.ak _
 |.mark _=>Vi.ak _
 |.end_=>Vi.ak _
 |.broken=>Vi.ak _
theorem ig.ak{CK CI:Addr}{b:List UInt8}{i:Nat}:Mon (ig CK CI b i):=dG.ak ⟨Vi.ak _,Vi.ak _,Vi.ak _,Di.ak,trivial⟩
abbrev rS(K:Frag)(CR CK CI:Addr)(b:List UInt8):ze:=⟨CR,Tx K b,λi v H=>ig CK CI b i v H/\My.rQ b i⟩
theorem rS.ok{K:Frag}{CR CK CI:Addr}{b:List UInt8}:(rS K CR CK CI b).Ok:=⟨Tx.ak,λi v H H' s h=>⟨ig.ak _ _ _ s h.1,h.2⟩⟩
abbrev rW(CF:Addr)(k p:Nat):Ex:=B7 CF qT [Vi (.int (p:Nat)),Vi (.int (k:Nat))]
theorem rW.ak{CF:Addr}{k p:Nat}:Px (rW CF k p):=B7.Wk ⟨Vi.ak _,Vi.ak _,trivial⟩
def j8{α:Type}(CF:Addr)(f:α->Rv)(m:Except Ln.Text.Fault (α×Nat)):Except Ex (Rv×Nat):=match m with
 |.error e=>.error (rW CF e.1 e.2)
 |.ok y=>.ok (f y.1,y.2)
section
variable{P:Program}{w:World}{K:Frag}{mg:Str->Option Value}{base:Heap}{CI CN NN CG NG CF NF CK CS CP CR CY:Addr}
theorem g4(R:jG K mg "Token" sK nK CK){b:List UInt8}{i:Nat}:gu K ((rS K CR CK CI b).tok i) "kind" (Vi (.str (cf (My.tk b i)))):=λv H h=>dG.has R.cl R.no d_ 0 rfl rfl v H h.1
theorem gc(R:jG K mg "Token" sK nK CK){b:List UInt8}{i:Nat}:gu K ((rS K CR CK CI b).tok i) "place" (Vi (.int (My.pl b i:Nat))):=λv H h=>dG.has R.cl R.no d_ 1 rfl rfl v H h.1
theorem uT(R:jG K mg "Token" sK nK CK){b:List UInt8}{i:Nat}:gu K ((rS K CR CK CI b).tok i) "behind" (Vi (.int ((My.bA b i).2:Nat))):=λv H h=>dG.has R.cl R.no d_ 2 rfl rfl v H h.1
theorem qX(R:jG K mg "Token" sK nK CK){b:List UInt8}{i:Nat}:gu K ((rS K CR CK CI b).tok i) "value" (Di CI (My.tk b i)):=λv H h=>dG.has R.cl R.no d_ 3 rfl rfl v H h.1
variable(T:BA K mg CI CN NN CG NG CF NF CK CS CP CR CY){b:List UInt8}(hb:b.length<2^59)(i:Nat)
include T hb in
theorem cU:Pu P w K mg base CR "advance" 8 ["self"] (sx (rS K CR CK CI b) i [] (j8 CF (λ_:Unit=>Vi .dH) (My.l4 b i ()))):=by
 obtain⟨f,fd,q,m,F,bi⟩:=T.WW;refine⟨f,fd,m,F.FR (N:=["self"]) fR rfl (λbL A ai s H0 H Q E X e hr nd hT hp r dx xv tv ws on ha hq=>?_),bi⟩;subst e;obtain rfl:ws=[]:=by
  cases ws with
  |nil=>rfl
  |cons _ _=>exact ha.elim
 obtain⟨tok,at_⟩:=on.tok;have hle:=(My.pk b at_.le).2.2;have C:=AQ (P:=P) (w:=w) (base:=base) T.T b (My.bA b i).2 hle hb;rw[AU] at C;refine af (LQ (n:=0) on.ne T.fK T.iB rfl ?_);unfold My.l4 My.mP at hq;unfold uR at C
 by_cases z:My.tk b (My.bA b i).2=.broken
 ·rw[if_pos z] at hq C;exact Ek (bT on.ne) on.dj rW.ak (λpm P=>dS C rfl (hT.fw P) hr rfl (aa (sw 0 P rfl oW T.fK T.Qk (NU (C:=CR) (r:=r) (dx:=dx)) on.tx Tx.ak) Tx.ak (aa (dL (n:=0) rS.ok on P T.fK T.iB (uT T.T.RK) rfl) v_ ag))) hq
 ·rw[if_neg z] at hq C;refine ww (bT on.ne) on.dj (λpm P=>jH C rfl hr rfl (aa (sw 0 P rfl oW T.fK T.Qk (NU (C:=CR) (r:=r) (dx:=dx)) on.tx Tx.ak) Tx.ak (aa (dL (n:=0) rS.ok on P T.fK T.iB (uT T.T.RK) rfl) v_ ag))) λv H1 s1 ir r1=>⟨H1,rfl,aJ ?_⟩
  exact hq .dH H1 v s1 ⟨on.ne,SO on.ne ir,Tx.ak _ _ _ s1 on.tx,r1,⟨hle,z⟩⟩ rfl
def kH(CF:Addr)(b:List UInt8)(i:Nat)(ks:List Str):Except Ex (Rv×Nat):=if cf (My.tk b i)∈ks then .ok (Vi .dH,i) else .error (rW CF 2 (My.pl b i))
include T in
theorem fY(ks:List Str):Pu P w K mg base CR "need" 4 ["self","kinds"] (sx (rS K CR CK CI b) i [gH (ks.map V.str)] (kH CF b i ks)):=by
 obtain⟨f,fd,q,m,F,bi⟩:=T.TN;refine⟨f,fd,m,F.FR (N:=["self","kinds"]) fR rfl (λbL A ai s H0 H Q E X e hr nd hT hp r dx xv tv ws on ha hq=>?_),bi⟩;subst e;obtain⟨vk,rfl,hk⟩:=lS ha;have fl:(ks.map V.str).all kh=true:=by
  rw[List.all_eq_true];intro x hx;obtain⟨y,_,rfl⟩:=List.mem_map.mp hx;rfl
 unfold kH at hq;refine af (iu (bT on.ne) on.dj (λpm P=>FU (dL (n:=0) rS.ok on P T.fK T.iB (g4 T.T.RK) rfl) (ae 1 rfl hk gH.ak) rfl fl) (λh H1 s1 ir=>?_) (λh H1 s1 ir=>aJ (aJ ?_)))
 ·rw[yL,Bool.not_eq_true',decide_eq_false_iff_not] at h;rw[if_neg h] at hq;have fO:=on.au rS.ok s1 ir;exact af (gI (bT on.ne) ir (dz T.T.gZ) hT rfl hr rfl (λpm P=>aa (dL (n:=0) rS.ok fO P T.fK T.iB (gc T.T.RK) rfl) v_ (aa (bV T.Ql rfl) v_ ag)) ⟨Vi.ak _,Vi.ak _,trivial⟩ rfl (hq.au s1))
 ·rw[yL,Bool.not_eq_false',decide_eq_true_iff] at h;rw[if_pos h] at hq;exact hq .dH H1 tv s1 (on.au rS.ok s1 ir) rfl
def kI(CF:Addr)(b:List UInt8)(i:Nat)(k:Str):Except Ex (Rv×Nat):=if cf (My.tk b i)=k then j8 CF (λ_:Unit=>Vi .dH) (My.l4 b i ()) else .error (rW CF 2 (My.pl b i))
include T hb in
theorem ju(k:Str):Pu P w K mg base CR "take" 10 ["self","kind"] (sx (rS K CR CK CI b) i [Vi (.str k)] (kI CF b i k)):=by
 obtain⟨f,fd,q,m,F,bi⟩:=T.TQ;refine⟨f,fd,m,F.FR (N:=["self","kind"]) fR rfl (λbL A ai s H0 H Q E X e hr nd hT hp r dx xv tv ws on ha hq=>?_),bi⟩;subst e;obtain⟨vk,rfl,hk⟩:=lS ha;have M1:=fY (P:=P) (w:=w) (base:=base) (b:=b) T i [k];have M2:=cU (P:=P) (w:=w) (base:=base) T hb i;unfold kI at hq;unfold kH at M1
 by_cases h:cf (My.tk b i)=k
 ·rw[if_pos h] at hq;rw[if_pos (List.mem_singleton.mpr h)] at M1;refine af (eD (jm (n:=0) rS.ok on T.fK M1 hT hr rfl (λpm P=>aa (cO (vs:=[.str k]) (aa (ae 1 rfl hk v_) v_ ag) (by show 1<=1000;decide)) gH.ak ag) (λv H1 pZ s1 fO _=>?_)));refine af (eD (wu (n:=0) rS.ok fO T.fK M2 hT hr rfl ?_));unfold j8 at hq ⊢;cases z:My.l4 b i () with
  |error e=>rw[z] at hq;exact hq.au s1
  |ok y=>rw[z] at hq;exact λv H2 J0 s2 io r2=>aJ (hq .dH H2 J0 (s1.trans s2) io rfl)
 ·rw[if_neg h] at hq;rw[if_neg λz=>h (List.mem_singleton.mp z)] at M1;exact af (eD (jm (n:=0) rS.ok on T.fK M1 hT hr rfl (λpm P=>aa (cO (vs:=[.str k]) (aa (ae 1 rfl hk v_) v_ ag) (by show 1<=1000;decide)) gH.ak ag) hq))
theorem mG(s:String)(hs:s∈wl):kI CF b i (Str.ofString s)=j8 CF (λ_:Unit=>Vi .dH) (My.dA b (My.wd s) i):=by
 unfold kI My.dA
 by_cases h:My.tk b i=My.wd s
 ·rw[if_pos ((dv (eK b i) s hs).mpr h),if_pos h];rfl
 ·rw[if_neg λz=>h ((dv (eK b i) s hs).mp z),if_neg h];rfl
theorem qY(c:UInt8):kI CF b i ⟨#[c.toNat]⟩=j8 CF (λ_:Unit=>Vi .dH) (My.dA b (.mark c) i):=by
 unfold kI My.dA
 by_cases h:My.tk b i=.mark c
 ·rw[if_pos ((kd_mark (eK b i) c).mpr h),if_pos h];rfl
 ·rw[if_neg λz=>h ((kd_mark (eK b i) c).mp z),if_neg h];rfl
end
section
variable{P:Program}{w:World}{K:Frag}{mg:Str->Option Value}{base:Heap}{CI CN NN CG NG CF NF CK CS CP CR CY:Addr}
theorem jv{X:Cx}{σ:L2.St}{H:Hp}{E:XK}{D:cT}{S:ze}{r dx:Addr}{xv tv:V}{b:List UInt8}{i j k n:Nat}{x:Str}{p apos pos pos':Pos}{rest:List Stmt}{ps:List Str}(on:On S r dx xv i tv H)(ok:S.Ok)(c:ve X.K S.C)(F:Pu X.prog X.w X.K X.mg X.base S.C "advance" k ps (sx S i [] (j8 CF (λ_:Unit=>Vi .dH) (My.l4 b i ()))))(hT:iF X E)(hr:cx j X.A)(hs:σ[n]?=some (some (.ref r)))
  (he:∀e,My.mP b i=.error e->∀c d H1,aM H H1->rW CF e.1 e.2 c d H1->E c d H1)(h:∀j,My.mP b i=.ok j->∀H1 pZ,aM H H1->On S r dx xv j pZ H1->Do X rest D σ (join H1 (rd S.C r dx xv pZ)))(jX:k<=j:=by decide)(hex:X.ex=[]:=by rfl)
  (hN:X.N[n]?=some x:=by rfl)(hv:uZ X.env.scope x:=by first |exact Or.inl rfl |exact Or.inr (Or.inl rfl) |exact Or.inr (Or.inr rfl))(hd:(x == ("__debug__":Str))=false:=by decide)(lA:(x == ("__classdict__":Str))=false:=by decide){pl:Sem Bool}
  (ht:eval (.Call (.Attribute (.Name x p) "advance" apos) [] [] pos) X.env=(do
   let ov<-eval (.Name x p) X.env
   standAt apos.atName
   let (f,first)<-holding [ov] (getMethod ov "advance" pl)
   callWith pos f first (backTo pos (starEach [] X.env)) (backToKw pos (keywordEach [] X.env))):=by rfl) (Pk:swapsWith (.Call (.Attribute (.Name x p) "advance" apos) [] [] pos) none pos'.line X.env=pure false:=by rfl) :
  Do X (.Expr (.Call (.Attribute (.Name x p) "advance" apos) [] [] pos) pos'::rest) D σ (join H (rd S.C r dx xv tv)):=by
 refine af (eD (wu (n:=n) ok on c F hT hr hs ?_ d_ d_ jX hex hN hv hd lA ht) Pk);unfold My.l4 j8;cases q:My.mP b i with
 |error e=>exact he e q
 |ok j'=>exact λv H1 pZ s1 fO _=>h j' q H1 pZ s1 fO
variable(T:BA K mg CI CN NN CG NG CF NF CK CS CP CR CY){b:List UInt8}(hb:b.length<2^59)(i:Nat)
theorem xn{t:Ln.Text.Tok}(hg:Gd t):cf t∈(["whole","pointed"]:List Str)↔∃n k p,t=.num n k p:=by
 rw[List.mem_cons,List.mem_cons]
 constructor
 ·rintro(z |z |z)
  ·obtain⟨n,k,e⟩:=(pN hg).mp z;exact⟨n,k,_,e⟩
  ·obtain⟨n,k,e⟩:=(uS hg).mp z;exact⟨n,k,_,e⟩
  ·cases z
 ·rintro⟨n,k,p,rfl⟩;cases p
  ·exact .inl rfl
  ·exact .inr (.inl rfl)
theorem fj{x y:Str}:decide (V.str x=V.str y)=decide (x=y):=r0
include T hb in
theorem fZ:fq P w K mg base "read_number" 12 ["reader"] (sx (rS K CR CK CI b) i [] (j8 CF (Iv CI) (My.g8 b i))):=by
 refine T.Dl.FR (N:=["reader","first","below"]) fR rfl λf bL A ai s H0 H Q E X e hr nd hT hp r dx xv tv ws on ha hq=>?_;subst e;obtain rfl:ws=[]:=by
  cases ws with
  |nil=>rfl
  |cons _ _=>exact ha.elim
 have M1:=fY (P:=P) (w:=w) (base:=base) (b:=b) T i ["whole","pointed"];unfold kH at M1;have gd:=eK b i
 by_cases hk:cf (My.tk b i)∈(["whole","pointed"]:List Str)
 rotate_left
 ·rw[if_neg hk] at M1;rw[My.JG λn k p z=>hk ((xn gd).mpr ⟨n,k,p,z⟩)] at hq;exact af (eD (jm (n:=0) rS.ok on T.fK M1 hT hr rfl (λpm P=>aa (cO (vs:=[.str "whole",.str "pointed"]) (aa a8 v_ (aa a8 v_ ag)) d_) gH.ak ag) hq))
 rw[if_pos hk] at M1;obtain⟨n,k,p,et⟩:=(xn gd).mp hk;refine af (eD (jm (n:=0) rS.ok on T.fK M1 hT hr rfl (λpm P=>aa (cO (vs:=[.str "whole",.str "pointed"]) (aa a8 v_ (aa a8 v_ ag)) d_) gH.ak ag) (λ_ H1 pZ s1 fO _=>?_)));refine af (nz (k:=1) (R:=ig CK CI b i) (bT fO.ne) fO.dj (λpm P=>sw 0 P rfl oW T.fK T.iB (NT (C:=CR) (r:=r) (dx:=dx)) fO.tok.1 ig.ak) (λvf H2 s2 lx hf2=>?_) nd);have io:=fO.au rS.ok s2 lx;have fk:gu K (ig CK CI b i) "kind" (Vi (.str (cf (My.tk b i)))):=dG.has T.T.RK.cl T.T.RK.no d_ 0 rfl rfl;have fv:gu K (ig CK CI b i) "value" (Di CI (My.tk b i)):=dG.has T.T.RK.cl T.T.RK.no d_ 3 rfl rfl;rw[et] at fv;refine jv (n:=0) io rS.ok T.fK (cU (P:=P) (w:=w) (base:=base) T hb i) hT hr rfl (λe he=>?_) (λj hj H3 J1 s3 jb=>?_)
 ·have:My.g8 b i=.error e:=by
   cases p
   ·rw[My.yE et,My.dn,he]
   ·rw[My.EH et,My.dn,he]
  rw[this] at hq;exact hq.au (s1.trans s2)
 have lB:=(s1.trans s2).trans s3;have WX:=ig.ak _ _ _ s3 hf2;refine af (iu (k:=decide (cf (My.tk b i)="pointed") || !decide (cf (My.tk b j)="/")) (bT jb.ne) jb.dj (λpm P=>wm (by rw[<-fj];exact dJ (aj fk (ae 1 rfl WX ig.ak)) a8 rfl) (λ_=>by rw[<-fj];exact rk (dL (n:=0) rS.ok jb P T.fK T.iB (g4 T.T.RK) rfl) a8 rfl)) (λh H4 s4 sU=>?_) (λh H4 s4 sU=>?_))
 ·have UW:=ig.ak _ _ _ s4 WX;have jw:=jb.au rS.ok s4 sU;cases p with
  |true =>
   rw[My.EH et,My.dn,hj] at hq;exact af (hX (bT jw.ne) jw.dj (λpm P=>aj fv (ae 1 rfl UW ig.ak)) λv H5 s5 xp r5=>hq v H5 J1 ((lB.trans s4).trans s5) (jw.au rS.ok s5 xp) r5)
  |false =>
   have h1:cf (My.tk b i)="whole":=(pN gd).mpr ⟨n,k,et⟩;rw[h1] at h;have h2:¬My.tk b j=.mark 47:=λz=>by
    rw[(kd_mark (eK b j) 47).mpr z] at h;exact absurd h d_
   rw[My.yE et,My.dn,hj] at hq;dsimp only at hq;rw[if_neg h2] at hq;exact af (hX (bT jw.ne) jw.dj (λpm P=>aj fv (ae 1 rfl UW ig.ak)) λv H5 s5 xp r5=>hq v H5 J1 ((lB.trans s4).trans s5) (jw.au rS.ok s5 xp) r5)
 ·have UW:=ig.ak _ _ _ s4 WX;have jw:=jb.au rS.ok s4 sU;rw[Bool.or_eq_false_iff,decide_eq_false_iff_not,Bool.not_eq_false',decide_eq_true_iff] at h;obtain⟨h1,h2⟩:=h;have ep:p=false:=by
   cases p with
   |false=>rfl
   |true=>exact absurd ((uS gd).mpr ⟨n,k,et⟩) h1
  subst ep;have h3:My.tk b j=.mark 47:=(kd_mark (eK b j) 47).mp h2;rw[My.yE et,My.dn,hj] at hq;dsimp only at hq;rw[if_pos h3,My.dn] at hq;refine aJ ?_;refine jv (n:=0) jw rS.ok T.fK (cU (P:=P) (w:=w) (base:=base) T hb j) hT hr rfl (λe he=>?_) (λj2 zg H5 Dn s5 iP=>?_)
  ·rw[he] at hq;exact hq.au (lB.trans s4)
  rw[zg] at hq;dsimp only at hq;have zh:=(lB.trans s4).trans s5;have hf5:=ig.ak _ _ _ s5 UW;have M5:=fY (P:=P) (w:=w) (base:=base) (b:=b) T j2 ["whole"];unfold kH at M5
  by_cases zS:cf (My.tk b j2)∈(["whole"]:List Str)
  rotate_left
  ·rw[if_neg zS] at M5;rw[My.JH λd k' z=>zS (List.mem_singleton.mpr ((pN (eK b j2)).mpr ⟨d,k',z⟩))] at hq;exact af (eD (jm (n:=0) rS.ok iP T.fK M5 hT hr rfl (λpm P=>aa (cO (vs:=[.str "whole"]) (aa a8 v_ ag) d_) gH.ak ag) (hq.au zh)))
  rw[if_pos zS] at M5;obtain⟨d,k2,WY⟩:=(pN (eK b j2)).mp (List.mem_singleton.mp zS);rw[My.Mp WY] at hq;refine af (eD (jm (n:=0) rS.ok iP T.fK M5 hT hr rfl (λpm P=>aa (cO (vs:=[.str "whole"]) (aa a8 v_ ag) d_) gH.ak ag) (λ_ H6 TU s6 u5 _=>?_)));have J0:gu K ((rS K CR CK CI b).tok j2) "value" (Iv CI (My.ap (d:Nat))):=by
   have:=qX (K:=K) (CR:=CR) (CI:=CI) T.T.RK (b:=b) (i:=j2);rw[WY] at this;exact this
  refine af (nz (k:=2) (R:=Iv CI (My.ap (d:Nat))) (bT u5.ne) u5.dj (λpm P=>dL (n:=0) rS.ok u5 P T.fK T.iB J0 rfl) (λvb H7 s7 WZ YN=>?_) nd);have J2:=u5.au rS.ok s7 WZ;have Ob:=(zh.trans s6).trans s7;have hf7:=ig.ak _ _ _ (s6.trans s7) hf5;refine af (iu (k:=decide (V.int (d:Nat)=V.int 0)) (bT J2.ne) J2.dj (λpm P=>dJ (aj (Iv.aW (a:=My.ap (d:Nat)) T.T.N.T.R) (ae 2 rfl YN Iv.ak)) aH rfl) (λh H8 s8 MQ=>?_) (λh H8 s8 MQ=>?_))
  ·have h:=V.int.inj (of_decide_eq_true h);rw[if_pos (by omega:d=0)] at hq;have GU:=J2.au rS.ok s8 MQ;exact af (gI (bT GU.ne) MQ (dz T.T.gZ) hT rfl hr rfl (λpm P=>aa (dL (n:=0) rS.ok GU P T.fK T.iB (gc T.T.RK) rfl) v_ (aa (bV T.UV rfl) v_ ag)) ⟨Vi.ak _,Vi.ak _,trivial⟩ rfl (hq.au (Ob.trans s8)))
  ·have h:¬d=0:=λz=>of_decide_eq_false h (by rw[z];rfl);rw[if_neg h,My.dn] at hq;have GU:=J2.au rS.ok s8 MQ;refine aJ ?_;refine jv (n:=0) GU rS.ok T.fK (cU (P:=P) (w:=w) (base:=base) T hb j2) hT hr rfl (λe he=>?_) (λj3 W0 H9 W1 s9 TV=>?_)
   ·rw[he] at hq;exact hq.au (Ob.trans s8)
   rw[W0] at hq;have hf9:=ig.ak _ _ _ (s8.trans s9) hf7;have hb9:=Iv.ak _ _ _ (s8.trans s9) YN;exact af (hX (bT TV.ne) TV.dj (λpm P=>ah (iA T.T.N.T (My.uy (My.px et).1) (My.uy (My.px WY).1) d_) hr rfl (aa (aj fv (ae 1 rfl hf9 ig.ak)) Iv.ak (aa (ae 2 rfl hb9 Iv.ak) Iv.ak ag))) λv SS zf W2 Wh=>hq v SS W1 (((Ob.trans s8).trans s9).trans zf) (TV.au rS.ok zf W2) Wh)
end
section
variable{P:Program}{w:World}{K:Frag}{mg:Str->Option Value}{base:Heap}{CI CN NN CG NG CF NF CK CS CP CR CY:Addr}
theorem ip{α:Type}{X:Cx}{σ:L2.St}{H:Hp}{E:XK}{D:cT}{S:ze}{r dx:Addr}{xv tv:V}{i j k n:Nat}{x fn:Str}{p pos pos' p2:Pos}{rest:List Stmt}{ps:List Str}{Rs:List Rv}{g:α->Rv}{m:Except Ln.Text.Fault (α×Nat)}{e:Expr}{es:List Expr}(on:On S r dx xv i tv H)(ok:S.Ok)(F:fq X.prog X.w X.K X.mg X.base fn k ps (sx S i Rs (j8 CF g m)))(hT:iF X E)(hr:cx j X.A)(hg:Gl X fn)
  (ha:∀pm,kr X (rd S.C r dx xv tv) H pm->Ya (X.fw pm) σ H (e::es) (Vi (.ref r)::Rs))
  (he:∀e,m=.error e->∀c d H1,aM H H1->rW CF e.1 e.2 c d H1->E c d H1)(h:∀a j,m=.ok (a,j)->∀v H1 pZ,aM H H1->On S r dx xv j pZ H1->g a v H1->Do X rest D (σ.set n (some v)) (join H1 (rd S.C r dx xv pZ)))(hN:X.N.Nodup)(jX:k<=j:=by decide)(hex:X.ex=[]:=by rfl)
  (hi:X.N[n]?=some x:=by rfl)(hx:DN X.env.scope x:=by exact Or.inl rfl)(hs:swapsWith (.Call (.Name fn p) (e::es) [] pos) (some (.Name x p2)) pos'.line X.env=pure false:=by rfl)(hf:X.fn x=true\/X.env.scope.names.lookup x=some .local:=by first |exact .inl rfl |exact .inr rfl)
  (kf:(fn == ("__debug__":Str))=false:=by decide)(j9:starEach (e::es) X.env=(false,eval e X.env)::starEach es X.env:=by rfl)(d9:(backTo pos (starEach es X.env)).any (·.1)=false:=by rfl) :
  Do X (.Assign [.Name x p2] (.Call (.Name fn p) (e::es) [] pos) pos'::rest) D σ (join H (rd S.C r dx xv tv)):=by
 refine af (kT (iw ok on F hT hr hg ha ?_ jX hex kf j9 d9) hN hi hx hs hf);unfold j8;cases q:m with
 |error e=>exact he e q
 |ok y=>exact λv H1 pZ s1 fO r1=>h y.1 y.2 q v H1 pZ s1 fO r1
theorem MR{α:Type}{X:Cx}{σ:L2.St}{H:Hp}{E:XK}{D:cT}{S:ze}{r dx:Addr}{xv tv:V}{i j k:Nat}{fn:Str}{p pos pos':Pos}{ps:List Str}{Rs:List Rv}{g:α->Rv}{m:Except Ln.Text.Fault (α×Nat)}{e:Expr}{es:List Expr}(on:On S r dx xv i tv H)(ok:S.Ok)(F:fq X.prog X.w X.K X.mg X.base fn k ps (sx S i Rs (j8 CF g m)))(hT:iF X E)(hr:cx j X.A)(hg:Gl X fn)
  (ha:∀pm,kr X (rd S.C r dx xv tv) H pm->Ya (X.fw pm) σ H (e::es) (Vi (.ref r)::Rs))(h:ln S r dx xv (j8 CF g m) H D.rt E)(jX:k<=j:=by decide)(hex:X.ex=[]:=by rfl)
  (kf:(fn == ("__debug__":Str))=false:=by decide)(j9:starEach (e::es) X.env=(false,eval e X.env)::starEach es X.env:=by rfl)(d9:(backTo pos (starEach es X.env)).any (·.1)=false:=by rfl) :
  jk X (.Return (some (.Call (.Name fn p) (e::es) [] pos)) pos') D σ (join H (rd S.C r dx xv tv)):=kR (iw ok on F hT hr hg ha h jX hex kf j9 d9)
theorem bN{X:Cx}{σ:L2.St}{H:Hp}{E:XK}{D:cT}{S:ze}{r dx:Addr}{xv tv:V}{i j k n:Nat}{x m:Str}{p apos pos pos':Pos}{rest:List Stmt}{ps:List Str}{Rs:List Rv}{oo:Except Ex (Rv×Nat)}{e:Expr}{es:List Expr}(on:On S r dx xv i tv H)(ok:S.Ok)(c:ve X.K S.C)(F:Pu X.prog X.w X.K X.mg X.base S.C m k ps (sx S i Rs oo))(hT:iF X E)(hr:cx j X.A)(hs:σ[n]?=some (some (.ref r)))
  (ha:∀pm,kr X (rd S.C r dx xv tv) H pm->Ya (X.fw pm) σ H (e::es) Rs)(h:ln S r dx xv oo H (λ_ H1=>Do X rest D σ H1) E)(Q9:m≠"text":=by decide)(IN:m≠"token":=by decide)(jX:k<=j:=by decide)(hex:X.ex=[]:=by rfl)
  (hN:X.N[n]?=some x:=by rfl)(hv:uZ X.env.scope x:=by first |exact Or.inl rfl |exact Or.inr (Or.inl rfl) |exact Or.inr (Or.inr rfl))(hd:(x == ("__debug__":Str))=false:=by decide)(lA:(x == ("__classdict__":Str))=false:=by decide)
  (j9:starEach (e::es) X.env=(false,eval e X.env)::starEach es X.env:=by rfl)(d9:(backTo pos (starEach es X.env)).any (·.1)=false:=by rfl){pl:Sem Bool}
  (ht:eval (.Call (.Attribute (.Name x p) m apos) (e::es) [] pos) X.env=(do
   let ov<-eval (.Name x p) X.env
   standAt apos.atName
   let (f,first)<-holding [ov] (getMethod ov m pl)
   callWith pos f first (backTo pos (starEach (e::es) X.env)) (backToKw pos (keywordEach [] X.env))):=by rfl) (Pk:swapsWith (.Call (.Attribute (.Name x p) m apos) (e::es) [] pos) none pos'.line X.env=pure false:=by rfl) :
  Do X (.Expr (.Call (.Attribute (.Name x p) m apos) (e::es) [] pos) pos'::rest) D σ (join H (rd S.C r dx xv tv)):=af (eD (jm (n:=n) ok on c F hT hr hs ha h Q9 IN jX hex hN hv hd lA j9 d9 ht) Pk)
theorem Iv.TW{a:My.be}{v xv tv:V}{H:Hp}{r dx:Addr}(ne:CI≠CR)(nd:dx≠r)(s:aM (rd CR r dx xv tv) H)(h:Iv CI a v H):Iv CI a v (mO H (rd CR r dx xv tv)):=by
 obtain⟨p,d,e,h⟩:=h;refine⟨p,d,e,?_⟩;have h1:p≠r:=λz=>by
  have q:=s _ _ (oW (C:=CR) (r:=r) (dx:=dx) (xv:=xv) (tv:=tv));rw[z,q] at h;injection h with h
  injection h with h
  exact ne h.symm
 have h2:p≠dx:=λz=>by
  have q:=s _ _ (wq (C:=CR) (r:=r) (dx:=dx) (xv:=xv) (tv:=tv) nd);rw[z,q] at h;cases h
 rw[lU (IM h1 h2)];exact h
theorem AX{X:Cx}{σ:L2.St}{S:ze}{r dx:Addr}{xv:V}{j k:Nat}{x:Str}{ps:List Str}{R R':Rv}{e:Expr}{Hf:Hp}{Q:VK}{p pos:Pos}(F:fq X.prog X.w X.K X.mg X.base x k ps (jx [R] R'))(hr:cx j X.A)(hg:Gl X x)(hm:Mon R)
  (ha:Ev X e σ Hf λv H2=>∃H1 tv,H2=join H1 (rd S.C r dx xv tv)/\Dj H1 (rd S.C r dx xv tv)/\R v H1/\∀u H3,aM H1 H3->Dj H3 (rd S.C r dx xv tv)->R' u H3->Q u (join H3 (rd S.C r dx xv tv)))
  (hh:∀u H tv,aM (rd S.C r dx xv tv) H->R' u H->R' u (mO H (rd S.C r dx xv tv)))(jX:k<=j:=by decide)(kf:(x == ("__debug__":Str))=false:=by decide)(he:starEach [e] X.env=(false,eval e X.env)::starEach [] X.env:=by rfl)(d9:(backTo pos (starEach [] X.env)).any (·.1)=false:=by rfl):Ev X (.Call (.Name x p) [e] [] pos) σ Hf Q:=by
 obtain⟨_,_,h,m,kp,b⟩:=F;refine(jB h (hr.aw jX) hg m kp b .nil zY (bI pE cV he) kf he d9).ev (ha.aw λv H2 ⟨H1,tv,e1,dj,r1,q⟩=>?_);subst e1;refine⟨⟨hm _ _ _ (ci dj) r1,trivial⟩,λu H3 s3 r3=>?_⟩;obtain⟨e3,mQ,s4⟩:=di dj s3;have:=q u _ s4 mQ (hh u H3 tv (FQ.trans s3) r3);rw[<-e3] at this;exact this
theorem AY{X:Cx}{σ:L2.St}{M:Hp->Prop}{C:Addr}{j:Nat}{x:Str}{n1 n2:Str}{R1 R2:Rv}{e1 e2:Expr}{Hf:Hp}{Q:VK}{p pos:Pos}(F:lm X.prog X.w X.K X.mg X.base x [n1,n2] C)(hr:cx j X.A)(hg:Gl X x)(m1:Mon R1)(m2:Mon R2)
  (ha:Ev X e1 σ Hf λv1 Ha=>Ev X e2 σ Ha λv2 Hb=>∃H2 M,Hb=join H2 M/\Dj H2 M/\R1 v1 H2/\R2 v2 H2/\∀u H3,aM H2 H3->Dj H3 M->dG C [n1,n2] [R1,R2] u H3->Q u (join H3 M))
  (jX:2<=j:=by decide)(kf:(x == ("__debug__":Str))=false:=by decide)(he:starEach [e1,e2] X.env=(false,eval e1 X.env)::starEach [e2] X.env:=by rfl)(Rw:starEach [e2] X.env=(false,eval e2 X.env)::starEach [] X.env:=by rfl)(d9:(backTo pos (starEach [e2] X.env)).any (·.1)=false:=by rfl):Ev X (.Call (.Name x p) [e1,e2] [] pos) σ Hf Q:=by
 obtain⟨f,fd,mk,h,b,m⟩:=F;refine(si mk h (hr.aw jX) hg m b .nil zY (bI pE (bI pE cV Rw) he) kf he d9).ev (ha.aw λv1 Ha q1=>q1.aw λv2 Hb ⟨H2,M,e,dj,r1,r2,q⟩=>?_);subst e;intro y dy ny nd ne;refine⟨y,dy,[v1,v2],rfl,rfl,aC,λH' e1 k1=>⟨rfl,?_⟩⟩;have s3:=aM.K5 ny nd k1;obtain⟨e3,mQ,s4⟩:=di dj s3;have:=q (.ref y) _ s4 mQ ⟨y,dy,[v1,v2],rfl,by rw[lU (cI ny).1];exact e1,m1 _ _ _ s4 r1,m2 _ _ _ s4 r2,trivial⟩;rw[<-e3] at this;exact this
variable(T:BA K mg CI CN NN CG NG CF NF CK CS CP CR CY){b:List UInt8}(hb:b.length<2^59)(i:Nat)
include T hb in
theorem ng:fq P w K mg base "read_value" 13 ["reader"] (sx (rS K CR CK CI b) i [] (j8 CF (Iv CI) (My.gw b i))):=by
 refine T.GI.FR (N:=["reader"]) fR rfl λf bL A ai s H0 H Q E X e hr nd hT hp r dx xv tv ws on ha hq=>?_;subst e;obtain rfl:ws=[]:=by
  cases ws with
  |nil=>rfl
  |cons _ _=>exact ha.elim
 rw[My.Gx] at hq;refine af (iu (k:=!decide (cf (My.tk b i)="-")) (bT on.ne) on.dj (λpm P=>by rw[<-fj];exact rk (dL (n:=0) rS.ok on P T.fK T.iB (g4 T.T.RK) rfl) a8 rfl) (λh H1 s1 ir=>?_) (λh H1 s1 ir=>?_))
 ·rw[Bool.not_eq_true',decide_eq_false_iff_not] at h;have h2:¬My.tk b i=.mark 45:=λz=>h ((kd_mark (eK b i) 45).mpr z);rw[if_neg h2] at hq;have fO:=on.au rS.ok s1 ir;exact af (MR fO rS.ok (fZ T hb i) hT hr rfl (λpm P=>aa (ae 0 rfl rfl v_) v_ ag) (hq.au s1))
 ·rw[Bool.not_eq_false',decide_eq_true_iff] at h;have h2:My.tk b i=.mark 45:=(kd_mark (eK b i) 45).mp h;rw[if_pos h2,My.dn] at hq;have fO:=on.au rS.ok s1 ir;refine aJ ?_;refine jv (n:=0) fO rS.ok T.fK (cU (P:=P) (w:=w) (base:=base) T hb i) hT hr rfl (λe he=>?_) (λj hj H2 J0 s2 io=>?_)
  ·rw[he] at hq;exact hq.au s1
  rw[hj] at hq;dsimp only at hq;have MS:=fZ (P:=P) (w:=w) (base:=base) T hb j;cases en:My.g8 b j with
  |error e =>
   rw[en] at hq MS;exact af (kR (AX (S:=rS K CR CK CI b) (r:=r) (dx:=dx) (xv:=xv) (eF T.T.N.T (My.ap 0)) hr rfl Iv.ak (iw rS.ok io MS hT hr rfl (λpm P=>aa (ae 0 rfl rfl v_) v_ ag) (hq.au (s1.trans s2))) λu H tv s h=>Iv.TW T.YM on.ne s h))
  |ok y =>
   obtain⟨a,j2⟩:=y;rw[en] at hq MS;refine af (kR (AX (S:=rS K CR CK CI b) (r:=r) (dx:=dx) (xv:=xv) (eF T.T.N.T a) hr rfl Iv.ak (iw rS.ok io MS hT hr rfl (λpm P=>aa (ae 0 rfl rfl v_) v_ ag) ?_) λu H tv s h=>Iv.TW T.YM on.ne s h));exact λv H3 J1 s3 jb r3=>⟨H3,J1,rfl,jb.dj,r3,λu H4 s4 sU r4=>hq u H4 J1 (((s1.trans s2).trans s3).trans s4) (jb.au rS.ok s4 sU) r4⟩
include T hb in
theorem pO{f:Addr}{fd:FuncData}(F:rg K "read_index" "read_index" (top 100) f fd)(c:UInt8):g5 P w K mg base (rh P w) 13 f fd ["reader","mark"] (sx (rS K CR CK CI b) i [Vi (.str ⟨#[c.toNat]⟩)] (j8 CF (Iv CI) (My.gh b c i))):=by
 refine F.FR (N:=["reader","mark","value"]) fR rfl λbL A ai s H0 H Q E X e hr nd hT hp r dx xv tv ws on ha hq=>?_;subst e;obtain⟨vm,rfl,hm⟩:=lS ha;unfold My.gh at hq;refine ip (n:=2) on rS.ok (fZ T hb i) hT hr rfl (λpm P=>aa (ae 0 rfl rfl v_) v_ ag) (λe he=>?_) (λa j hj v H1 pZ s1 fO r1=>?_) nd
 ·rw[he] at hq;exact hq
 rw[hj,My.eZ] at hq;unfold My.uq at hq;have M1:=fY (P:=P) (w:=w) (base:=base) (b:=b) T j [⟨#[c.toNat]⟩];unfold kH at M1
 by_cases hk:My.tk b j=.mark c
 ·have Lf:=(kd_mark (eK b j) c).mpr hk;rw[if_pos (List.mem_singleton.mpr Lf)] at M1;rw[if_pos hk] at hq;refine bN (n:=0) fO rS.ok T.fK M1 hT hr rfl (λpm P=>aa (cO (vs:=[.str ⟨#[c.toNat]⟩]) (aa (ae 1 rfl hm v_) v_ ag) (by show 1<=1000;decide)) gH.ak ag) (λ_ H2 J0 s2 io _=>?_);have r2:=Iv.ak _ _ _ s2 r1;refine af (iu (k:=decide (a.aW<a.size)) (bT io.ne) io.dj (λpm P=>dI ka (aj (Iv.aW T.T.N.T.R) (ae 2 rfl r2 Iv.ak)) (aj (Iv.size T.T.N.T.R) (ae 2 rfl r2 Iv.ak))) (λh H3 s3 mQ=>?_) (λh H3 s3 mQ=>?_))
  ·have h:=of_decide_eq_true h;rw[if_neg (by simpa using h)] at hq;have jb:=io.au rS.ok s3 mQ;exact af (gI (bT jb.ne) mQ (dz T.T.gZ) hT rfl hr rfl (λpm P=>aa (dL (n:=0) rS.ok jb P T.fK T.iB (gc T.T.RK) rfl) v_ (aa (bV T.UV rfl) v_ ag)) ⟨Vi.ak _,Vi.ak _,trivial⟩ rfl (hq.au ((s1.trans s2).trans s3)))
  ·have h:=of_decide_eq_false h;rw[if_pos (by simpa using h),My.dn] at hq;have jb:=io.au rS.ok s3 mQ;refine aJ ?_;refine jv (n:=0) jb rS.ok T.fK (cU (P:=P) (w:=w) (base:=base) T hb j) hT hr rfl (λe he=>?_) (λj3 W0 H4 xq s4 jw=>?_)
   ·rw[he] at hq;exact hq.au ((s1.trans s2).trans s3)
   rw[W0] at hq;have r4:=Iv.ak _ _ _ (s3.trans s4) r2;exact af (hX (bT jw.ne) jw.dj (λpm P=>ae 2 rfl r4 Iv.ak) λv H5 s5 xp r5=>hq v H5 xq ((((s1.trans s2).trans s3).trans s4).trans s5) (jw.au rS.ok s5 xp) r5)
 ·have Lf:¬cf (My.tk b j)=⟨#[c.toNat]⟩:=λz=>hk ((kd_mark (eK b j) c).mp z);rw[if_neg λz=>Lf (List.mem_singleton.mp z)] at M1;rw[if_neg hk] at hq;exact bN (n:=0) fO rS.ok T.fK M1 hT hr rfl (λpm P=>aa (cO (vs:=[.str ⟨#[c.toNat]⟩]) (aa (ae 1 rfl hm v_) v_ ag) (by show 1<=1000;decide)) gH.ak ag) (hq.au s1)
end
section
variable{P:Program}{w:World}{K:Frag}{mg:Str->Option Value}{base:Heap}{CI CN NN CG NG CF NF CK CS CP CR CY:Addr}
theorem YO{t:Ln.Text.Tok}(hg:Gd t)(a b c:String)(ha:a∈wl)(hb:b∈wl)(hc:c∈wl):cf t∈([Str.ofString a,Str.ofString b,Str.ofString c]:List Str)↔t=My.wd a\/t=My.wd b\/t=My.wd c:=by
 rw[List.mem_cons,List.mem_cons,List.mem_singleton,dv hg a ha,dv hg b hb,dv hg c hc]
theorem Qm{b:List UInt8}{i j:Nat}{v:My.be}(h:My.gw b i=.ok (v,j)):My.Bd 180 v:=by
 unfold My.gw at h;split at h
 ·split at h
  ·cases h
  ·split at h
   ·cases h
   ·rename_i q;cases h;exact My.gO (My.mD q)
 ·exact My.mD h
variable(T:BA K mg CI CN NN CG NG CF NF CK CS CP CR CY){b:List UInt8}(hb:b.length<2^59)(i:Nat)
include T hb in
theorem vJ:fq P w K mg base "read_curve" 14 ["reader"] (sx (rS K CR CK CI b) i [] (j8 CF (Iv CI) (My.uA b i))):=by
 refine T.GN.FR (N:=["reader","kind","value"]) fR rfl λf bL A ai s H0 H Q E X e hr nd hT hp r dx xv tv ws on ha hq=>?_;subst e;obtain rfl:ws=[]:=by
  cases ws with
  |nil=>rfl
  |cons _ _=>exact ha.elim
 have gd:=eK b i;have M1:=fY (P:=P) (w:=w) (base:=base) (b:=b) T i ["flat","curve","radius"];unfold kH at M1;have K3:=YO gd "flat" "curve" "radius" d_ d_ d_;unfold My.uA at hq
 by_cases hk:cf (My.tk b i)∈(["flat","curve","radius"]:List Str)
 rotate_left
 ·rw[if_neg hk] at M1;have zS:=λz=>hk (K3.mpr z);rw[if_neg λz=>zS (.inl z),if_neg λz=>zS (.inr (.inl z)),if_neg λz=>zS (.inr (.inr z))] at hq;exact bN (n:=0) on rS.ok T.fK M1 hT hr rfl (λpm P=>aa (cO (vs:=[.str "flat",.str "curve",.str "radius"]) (aa a8 v_ (aa a8 v_ (aa a8 v_ ag))) d_) gH.ak ag) hq
 rw[if_pos hk] at M1;have zS:=K3.mp hk;refine bN (n:=0) on rS.ok T.fK M1 hT hr rfl (λpm P=>aa (cO (vs:=[.str "flat",.str "curve",.str "radius"]) (aa a8 v_ (aa a8 v_ (aa a8 v_ ag))) d_) gH.ak ag) (λ_ H1 pZ s1 fO _=>?_);refine af (nz (k:=1) (bT fO.ne) fO.dj (λpm P=>dL (n:=0) rS.ok fO P T.fK T.iB (g4 T.T.RK) rfl) (λvk H2 s2 lx hv=>?_) nd);have hv:vk=.str (cf (My.tk b i)):=hv;subst hv;have io:=fO.au rS.ok s2 lx;have nU:=s1.trans s2;refine jv (n:=0) io rS.ok T.fK (cU (P:=P) (w:=w) (base:=base) T hb i) hT hr rfl (λe he=>?_) (λj hj H3 J1 s3 jb=>?_)
 ·have:(if My.tk b i=My.wd "flat" then My.l4 b i (My.ap 0) else if My.tk b i=My.wd "curve" then My.bd (My.l4 b i ()) λ_ j=>My.gw b j
    else if My.tk b i=My.wd "radius" then My.bd (My.l4 b i ()) λ_ j=>My.bd (My.gw b j) λv j2 =>
     if My.tk b j2=My.wd "conic"\/My.tk b j2=My.wd "clear"\/My.tk b j2=.mark 59 then (if v.aW=0 then .error (6,My.pl b j2) else .ok (My.c9 (My.ap 1) v,j2)) else .error (2,My.pl b j2)
    else .error (2,My.pl b i))=(.error e:Except Ln.Text.Fault (My.be×Nat)):=by
   by_cases c1:My.tk b i=My.wd "flat"
   ·rw[if_pos c1];unfold My.l4;rw[he]
   ·rw[if_neg c1]
    by_cases c2:My.tk b i=My.wd "curve"
    ·rw[if_pos c2,My.dn,he]
    ·rw[if_neg c2,if_pos ((zS.resolve_left c1).resolve_left c2),My.dn,he]
  rw[this] at hq;exact hq.au nU
 have lB:=nU.trans s3;refine af (iu (k:=decide (cf (My.tk b i)="flat")) (bT jb.ne) jb.dj (λpm P=>by rw[<-fj];exact dJ (ae 1 rfl rfl v_) a8 rfl) (λh H4 s4 sU=>?_) (λh H4 s4 sU=>?_))
 ·have c1:=(dv gd "flat" d_).mp (of_decide_eq_true h);rw[if_pos c1] at hq;unfold My.l4 at hq;rw[hj] at hq;have jw:=jb.au rS.ok s4 sU;exact af (hX (bT jw.ne) jw.dj (λpm P=>ah (c7 T.T.N.T 0) hr rfl (aa aH v_ ag)) λv H5 s5 xp r5=>hq v H5 J1 ((lB.trans s4).trans s5) (jw.au rS.ok s5 xp) r5)
 have c1:¬My.tk b i=My.wd "flat":=λz=>of_decide_eq_false h ((dv gd "flat" d_).mpr z);rw[if_neg c1] at hq;have jw:=jb.au rS.ok s4 sU;have xi:=lB.trans s4;refine aJ ?_;refine ip (n:=2) jw rS.ok (ng T hb j) hT hr rfl (λpm P=>aa (ae 0 rfl rfl v_) v_ ag) (λe he=>?_) (λa j2 zg v H5 Dn s5 iP r5=>?_) nd
 ·by_cases c2:My.tk b i=My.wd "curve"
  ·rw[if_pos c2,My.dn,hj] at hq;dsimp only at hq;rw[he] at hq;exact hq.au xi
  ·rw[if_neg c2,if_pos ((zS.resolve_left c1).resolve_left c2),My.dn,hj] at hq;dsimp only at hq;rw[he] at hq;exact hq.au xi
 have zh:=xi.trans s5;refine af (iu (k:=decide (cf (My.tk b i)="curve")) (bT iP.ne) iP.dj (λpm P=>by rw[<-fj];exact dJ (ae 1 rfl rfl v_) a8 rfl) (λh H6 s6 J3=>?_) (λh H6 s6 J3=>?_))
 ·have c2:=(dv gd "curve" d_).mp (of_decide_eq_true h);rw[if_pos c2,My.dn,hj] at hq;dsimp only at hq;rw[zg] at hq;have u5:=iP.au rS.ok s6 J3;have r6:=Iv.ak _ _ _ s6 r5;exact af (hX (bT u5.ne) u5.dj (λpm P=>ae 2 rfl r6 Iv.ak) λv H7 s7 WZ r7=>hq v H7 Dn ((zh.trans s6).trans s7) (u5.au rS.ok s7 WZ) r7)
 have c2:¬My.tk b i=My.wd "curve":=λz=>of_decide_eq_false h ((dv gd "curve" d_).mpr z);rw[if_neg c2,if_pos ((zS.resolve_left c1).resolve_left c2),My.dn,hj] at hq;dsimp only at hq;rw[zg,My.eZ] at hq;have u5:=iP.au rS.ok s6 J3;have r6:=Iv.ak _ _ _ s6 r5;have J4:=zh.trans s6;refine aJ ?_;have M2:=fY (P:=P) (w:=w) (base:=base) (b:=b) T j2 ["conic","clear",";"];unfold kH at M2;have KK:cf (My.tk b j2)∈(["conic","clear",";"]:List Str)↔(My.tk b j2=My.wd "conic"\/My.tk b j2=My.wd "clear"\/My.tk b j2=.mark 59):=by
  rw[List.mem_cons,List.mem_cons,List.mem_singleton];have e1:=dv (eK b j2) "conic" d_;have e2:=dv (eK b j2) "clear" d_;have e3:=kd_mark (eK b j2) 59;exact or_congr e1 (or_congr e2 e3)
 by_cases UX:cf (My.tk b j2)∈(["conic","clear",";"]:List Str)
 rotate_left
 ·rw[if_neg UX] at M2;rw[if_neg λz=>UX (KK.mpr z)] at hq;exact bN (n:=0) u5 rS.ok T.fK M2 hT hr rfl (λpm P=>aa (cO (vs:=[.str "conic",.str "clear",.str ";"]) (aa a8 v_ (aa a8 v_ (aa a8 v_ ag))) d_) gH.ak ag) (hq.au J4)
 rw[if_pos UX] at M2;rw[if_pos (KK.mp UX)] at hq;refine bN (n:=0) u5 rS.ok T.fK M2 hT hr rfl (λpm P=>aa (cO (vs:=[.str "conic",.str "clear",.str ";"]) (aa a8 v_ (aa a8 v_ (aa a8 v_ ag))) d_) gH.ak ag) (λ_ H7 Rm s7 J2 _=>?_);have r7:=Iv.ak _ _ _ s7 r6;have Ob:=J4.trans s7;refine af (iu (k:=decide (V.int a.aW=V.int 0)) (bT J2.ne) J2.dj (λpm P=>dJ (aj (Iv.aW T.T.N.T.R) (ae 2 rfl r7 Iv.ak)) aH rfl) (λh H8 s8 MQ=>?_) (λh H8 s8 MQ=>?_))
 ·have h:=V.int.inj (of_decide_eq_true h);rw[if_pos h] at hq;have GU:=J2.au rS.ok s8 MQ;exact af (gI (bT GU.ne) MQ (dz T.T.gZ) hT rfl hr rfl (λpm P=>aa (dL (n:=0) rS.ok GU P T.fK T.iB (gc T.T.RK) rfl) v_ (aa (bV T.UV rfl) v_ ag)) ⟨Vi.ak _,Vi.ak _,trivial⟩ rfl (hq.au (Ob.trans s8)))
 ·have h:¬a.aW=0:=λz=>of_decide_eq_false h (by rw[z]);rw[if_neg h] at hq;have GU:=J2.au rS.ok s8 MQ;have r8:=Iv.ak _ _ _ s8 r7;refine aJ ?_;exact af (hX (bT GU.ne) GU.dj (λpm P=>ah (iA T.T.N.T My.fM (Qm zg) d_) hr rfl (aa (ah (c7 T.T.N.T 1) hr rfl (aa aH v_ ag)) Iv.ak (aa (ae 2 rfl r8 Iv.ak) Iv.ak ag))) λv H9 s9 W3 r9=>hq v H9 Rm ((Ob.trans s8).trans s9) (GU.au rS.ok s9 W3) r9)
include T hb in
theorem nh:fq P w K mg base "read_shape" 15 ["reader"] (sx (rS K CR CK CI b) i [] (j8 CF (Sh CS CI) (My.lc b i))):=by
 refine T.GO.FR (N:=["reader","curve"]) fR rfl λf bL A ai s H0 H Q E X e hr nd hT hp r dx xv tv ws on ha hq=>?_;subst e;obtain rfl:ws=[]:=by
  cases ws with
  |nil=>rfl
  |cons _ _=>exact ha.elim
 unfold My.lc at hq;refine ip (n:=1) on rS.ok (vJ T hb i) hT hr rfl (λpm P=>aa (ae 0 rfl rfl v_) v_ ag) (λe he=>?_) (λc j hj vc H1 pZ s1 fO r1=>?_) nd
 ·rw[he] at hq;exact hq
 rw[hj,My.eZ] at hq;refine af (iu (k:=!decide (cf (My.tk b j)="conic")) (bT fO.ne) fO.dj (λpm P=>by rw[<-fj];exact rk (dL (n:=0) rS.ok fO P T.fK T.iB (g4 T.T.RK) rfl) a8 rfl) (λh H2 s2 lx=>?_) (λh H2 s2 lx=>?_))
 ·rw[Bool.not_eq_true',decide_eq_false_iff_not] at h;rw[if_neg λz=>h ((dv (eK b j) "conic" d_).mpr z)] at hq;have io:=fO.au rS.ok s2 lx;have r2:=Iv.ak _ _ _ s2 r1;exact af (hX (R:=Sh CS CI ⟨c,My.ap 0⟩) (bT io.ne) io.dj (λpm P=>eL (Mt T.RS) hr rfl (aa (ae 1 rfl r2 Iv.ak) Iv.ak (aa (ah (c7 T.T.N.T 0) hr rfl (aa aH v_ ag)) Iv.ak ag)) ⟨Iv.ak,Iv.ak,trivial⟩ rfl) λv H3 s3 mQ r3=>hq v H3 pZ ((s1.trans s2).trans s3) (io.au rS.ok s3 mQ) r3)
 ·rw[Bool.not_eq_false',decide_eq_true_iff] at h;rw[if_pos ((dv (eK b j) "conic" d_).mp h),My.dn] at hq;have io:=fO.au rS.ok s2 lx;have r2:=Iv.ak _ _ _ s2 r1;refine aJ ?_;refine jv (n:=0) io rS.ok T.fK (cU (P:=P) (w:=w) (base:=base) T hb j) hT hr rfl (λe he=>?_) (λj2 zg H3 J1 s3 jb=>?_)
  ·rw[he] at hq;exact hq.au (s1.trans s2)
  rw[zg] at hq;dsimp only at hq;have r3:=Iv.ak _ _ _ s3 r2;have lB:=(s1.trans s2).trans s3;have MS:=ng (P:=P) (w:=w) (base:=base) T hb j2;cases en:My.gw b j2 with
  |error e =>
   rw[en] at hq MS;exact af (kR (AY (M:=λ_=>True) (R1:=Iv CI c) (R2:=Iv CI c) (Mt T.RS) hr rfl Iv.ak Iv.ak (ww (bT jb.ne) jb.dj (λpm P=>ae 1 rfl r3 Iv.ak) λv1 H4 s4 sU r4 =>
    iw rS.ok (jb.au rS.ok s4 sU) MS hT hr rfl (λpm P=>aa (ae 0 rfl rfl v_) v_ ag) (hq.au (lB.trans s4)))))
  |ok y =>
   obtain⟨k,j3⟩:=y;rw[en] at hq MS;exact af (kR (AY (M:=λ_=>True) (R1:=Iv CI c) (R2:=Iv CI k) (Mt T.RS) hr rfl Iv.ak Iv.ak (ww (bT jb.ne) jb.dj (λpm P=>ae 1 rfl r3 Iv.ak) λv1 H4 s4 sU r4 =>
    iw rS.ok (jb.au rS.ok s4 sU) MS hT hr rfl (λpm P=>aa (ae 0 rfl rfl v_) v_ ag) λv H5 Dn s5 iP r5=>⟨H5,_,rfl,iP.dj,Iv.ak _ _ _ s5 r4,r5,λu H6 s6 J3 r6=>hq u H6 Dn (((lB.trans s4).trans s5).trans s6) (iP.au rS.ok s6 J3) r6⟩)))
include T hb in
theorem vK:fq P w K mg base "read_clear" 14 ["reader"] (sx (rS K CR CK CI b) i [] (j8 CF (qR CI) (My.yy b i))):=by
 refine T.GQ.FR (N:=["reader","limit"]) fR rfl λf bL A ai s H0 H Q E X e hr nd hT hp r dx xv tv ws on ha hq=>?_;subst e;obtain rfl:ws=[]:=by
  cases ws with
  |nil=>rfl
  |cons _ _=>exact ha.elim
 unfold My.yy at hq;refine af (iu (k:=!decide (cf (My.tk b i)="clear")) (bT on.ne) on.dj (λpm P=>by rw[<-fj];exact rk (dL (n:=0) rS.ok on P T.fK T.iB (g4 T.T.RK) rfl) a8 rfl) (λh H1 s1 ir=>?_) (λh H1 s1 ir=>?_))
 ·rw[Bool.not_eq_true',decide_eq_false_iff_not] at h;rw[if_neg λz=>h ((dv (eK b i) "clear" d_).mpr z)] at hq;have fO:=on.au rS.ok s1 ir;exact af (hX (bT fO.ne) fO.dj (λpm P=>tS) λv H2 s2 lx r2=>hq v H2 tv (s1.trans s2) (fO.au rS.ok s2 lx) r2)
 ·rw[Bool.not_eq_false',decide_eq_true_iff] at h;rw[if_pos ((dv (eK b i) "clear" d_).mp h),My.dn] at hq;have fO:=on.au rS.ok s1 ir;refine aJ ?_;refine jv (n:=0) fO rS.ok T.fK (cU (P:=P) (w:=w) (base:=base) T hb i) hT hr rfl (λe he=>?_) (λj hj H2 J0 s2 io=>?_)
  ·rw[he] at hq;exact hq.au s1
  rw[hj] at hq;dsimp only at hq;have nU:=s1.trans s2;refine ip (n:=1) io rS.ok (fZ T hb j) hT hr rfl (λpm P=>aa (ae 0 rfl rfl v_) v_ ag) (λe he=>?_) (λa j2 zg v H3 J1 s3 jb r3=>?_) nd
  ·rw[he] at hq;exact hq.au nU
  rw[zg,My.eZ] at hq;have lB:=nU.trans s3;have M1:=fY (P:=P) (w:=w) (base:=base) (b:=b) T j2 [";"];unfold kH at M1;have KK:cf (My.tk b j2)=(";":Str)↔My.tk b j2=.mark 59:=kd_mark (eK b j2) 59
  by_cases hk:My.tk b j2=.mark 59
  rotate_left
  ·rw[if_neg λz=>hk (KK.mp (List.mem_singleton.mp z))] at M1;rw[if_neg hk] at hq;exact bN (n:=0) jb rS.ok T.fK M1 hT hr rfl (λpm P=>aa (cO (vs:=[.str ";"]) (aa a8 v_ ag) d_) gH.ak ag) (hq.au lB)
  rw[if_pos (List.mem_singleton.mpr (KK.mpr hk))] at M1;rw[if_pos hk] at hq;refine bN (n:=0) jb rS.ok T.fK M1 hT hr rfl (λpm P=>aa (cO (vs:=[.str ";"]) (aa a8 v_ ag) d_) gH.ak ag) (λ_ H4 xq s4 jw _=>?_);have r4:=Iv.ak _ _ _ s4 r3;have xi:=lB.trans s4;refine af (iu (k:=decide (V.int a.aW=V.int 0)) (bT jw.ne) jw.dj (λpm P=>dJ (aj (Iv.aW T.T.N.T.R) (ae 1 rfl r4 Iv.ak)) aH rfl) (λh H5 s5 xp=>?_) (λh H5 s5 xp=>?_))
  ·have h:=V.int.inj (of_decide_eq_true h);rw[if_pos h] at hq;have iP:=jw.au rS.ok s5 xp;exact af (gI (bT iP.ne) xp (dz T.T.gZ) hT rfl hr rfl (λpm P=>aa (dL (n:=0) rS.ok iP P T.fK T.iB (gc T.T.RK) rfl) v_ (aa (bV T.UV rfl) v_ ag)) ⟨Vi.ak _,Vi.ak _,trivial⟩ rfl (hq.au (xi.trans s5)))
  ·have h:¬a.aW=0:=λz=>of_decide_eq_false h (by rw[z]);rw[if_neg h] at hq;have iP:=jw.au rS.ok s5 xp;have r5:=Iv.ak _ _ _ s5 r4;refine aJ ?_;exact af (hX (bT iP.ne) iP.dj (λpm P=>ae 1 rfl r5 Iv.ak) λv H6 s6 J3 r6=>hq v H6 xq ((xi.trans s5).trans s6) (iP.au rS.ok s6 J3) r6)
end
def DM(M:Hp):Prop:=∀b o,M b=some o->(∃a4,o=.dT a4)\/∃xs,o=.de xs
def DD(M:Hp):Prop:=∀b o,M b=some o->∃a4,o=.dT a4
def Nd(R:Rv):Prop:=∀v H M,DM M->aM M H->R v H->R v (mO H M)
def u6(R:Rv):Prop:=∀v H M,DD M->aM M H->R v H->R v (mO H M)
theorem DD.dm{M:Hp}(h:DD M):DM M:=λb o e=>.inl (h b o e)
theorem Nd.d{R:Rv}(h:Nd R):u6 R:=λv H M d s r=>h v H M d.dm s r
theorem J5{H M:Hp}{p:Addr}{o:HO}(d:DM M)(s:aM M H)(e:H p=some o)(h1:∀a4,o≠.dT a4)(h2:∀xs,o≠.de xs):mO H M p=some o:=by
 cases q:M p with
 |none=>rw[lU q];exact e
 |some u =>
  have z:=s p u q;rw[e] at z;cases z;rcases d p _ q with ⟨k,z⟩ |⟨k,z⟩
  ·exact absurd z (h1 k)
  ·exact absurd z (h2 k)
theorem J6{H M:Hp}{p:Addr}{o:HO}(d:DD M)(s:aM M H)(e:H p=some o)(h1:∀a4,o≠.dT a4):mO H M p=some o:=by
 cases q:M p with
 |none=>rw[lU q];exact e
 |some u =>
  have z:=s p u q;rw[e] at z;cases z;obtain⟨k,z⟩:=d p _ q;exact absurd z (h1 k)
theorem Nd.vi(x:V):Nd (Vi x):=λ_ _ _ _ _ h=>h
theorem Nd.iv{CI:Addr}{a:My.be}:Nd (Iv CI a):=λv H M d s ⟨p,dx,e,h⟩=>⟨p,dx,e,J5 d s h (λ_ z=>by cases z) λ_ z=>by cases z⟩
theorem Nd.tpv{vs:List V}:Nd (gH vs):=λv H M d s ⟨p,e,h⟩=>⟨p,e,J5 d s h (λ_ z=>by cases z) λ_ z=>by cases z⟩
def TX:List Rv->Prop
 |[]=>True
 |R::Rs=>Nd R/\TX Rs
def uU:List Rv->Prop
 |[]=>True
 |R::Rs=>u6 R/\uU Rs
theorem TX.Rn:∀{Rs:List Rv} {vs:List V} {H M:Hp},TX Rs->DM M->aM M H->iE Rs vs H->iE Rs vs (mO H M)
 |[],[],_,_,_,_,_,_=>trivial
 |_::_,_::_,_,_,n,d,s,h=>⟨n.1 _ _ _ d s h.1,TX.Rn n.2 d s h.2⟩
 |[],_::_,_,_,_,_,_,h=>h.elim
 |_::_,[],_,_,_,_,_,h=>h.elim
theorem uU.Rn:∀{Rs:List Rv} {vs:List V} {H M:Hp},uU Rs->DD M->aM M H->iE Rs vs H->iE Rs vs (mO H M)
 |[],[],_,_,_,_,_,_=>trivial
 |_::_,_::_,_,_,n,d,s,h=>⟨n.1 _ _ _ d s h.1,uU.Rn n.2 d s h.2⟩
 |[],_::_,_,_,_,_,_,h=>h.elim
 |_::_,[],_,_,_,_,_,h=>h.elim
theorem Nd.rec{C:Addr}{names:List Str}{Rs:List Rv}(n:TX Rs):Nd (dG C names Rs):=λv H M d s ⟨p,dx,ys,e,h,a⟩=>⟨p,dx,ys,e,J5 d s h (λ_ z=>by cases z) (λ_ z=>by cases z),n.Rn d s a⟩
theorem u6.rec{C:Addr}{names:List Str}{Rs:List Rv}(n:uU Rs):u6 (dG C names Rs):=λv H M d s ⟨p,dx,ys,e,h,a⟩=>⟨p,dx,ys,e,J6 d s h (λ_ z=>by cases z),n.Rn d s a⟩
theorem u6.ls{Rs:List Rv}(n:uU Rs):u6 (z0 Rs):=λv H M d s ⟨p,vs,e,h,a⟩=>⟨p,vs,e,J6 d s h (λ_ z=>by cases z),n.Rn d s a⟩
theorem uU.ivs{CI:Addr}:∀l:List My.be,uU (l.map (Iv CI))
 |[]=>trivial
 |_::l=>⟨Nd.iv.d,uU.ivs l⟩
theorem Nd.val{CI:Addr}:∀{t:Ln.Text.Tok},Nd (Di CI t)
 |.name _=>Nd.tpv
 |.num _ _ true=>Nd.iv
 |.num _ _ false=>Nd.iv
 |.word _=>Nd.vi _
 |.mark _=>Nd.vi _
 |.end_=>Nd.vi _
 |.broken=>Nd.vi _
theorem Nd.tok{CK CI:Addr}{b:List UInt8}{i:Nat}:Nd (ig CK CI b i):=Nd.rec ⟨Nd.vi _,Nd.vi _,Nd.vi _,Nd.val,trivial⟩
def nW(n:List UInt8):List fo:=n.map λc=>Sum.inl (c.toNat:Int)
theorem EV(n:List UInt8):(nW n).map kV=n.map λc=>V.int (c.toNat:Int):=by
 unfold nW;rw[List.map_map];rfl
theorem yM:∀{a b:List UInt8},nW a=nW b->a=b
 |[],[],_=>rfl
 |[],_::_,h=>by cases h
 |_::_,[],h=>by cases h
 |x::a,y::b,h=>by
  unfold nW at h;rw[List.map_cons,List.map_cons] at h;injection h with h1 h2
  injection h1 with h1
  have:x.toNat=y.toNat:=by exact_mod_cast h1
  rw[UInt8.toNat_inj.mp this,yM (a:=a) (b:=b) h2]
def sV(CI:Addr):List My.bG->List (List fo×V)->Hp->Prop
 |[],[],_=>True
 |g::l,kv::a4,H=>(kv.1=nW g.1/\z0 (g.2.map (Iv CI)) kv.2 H)/\sV CI l a4 H
 |_,_,_=>False
theorem iC{CI:Addr}:∀l:List My.be,jl (l.map (Iv CI))
 |[]=>trivial
 |_::l=>⟨Iv.ak,iC l⟩
theorem sV.ak{CI:Addr}:∀{l:List My.bG} {a4:List (List fo×V)} {H H':Hp},aM H H'->sV CI l a4 H->sV CI l a4 H'
 |[],[],_,_,_,_=>trivial
 |g::l,kv::a4,_,_,s,h=>⟨⟨h.1.1,Mon.ls (iC _) _ _ _ s h.1.2⟩,sV.ak s h.2⟩
 |[],_::_,_,_,_,h=>h.elim
 |_::_,[],_,_,_,h=>h.elim
theorem sV.len{CI:Addr}:∀{l:List My.bG} {a4:List (List fo×V)} {H:Hp},sV CI l a4 H->a4.length=l.length
 |[],[],_,_=>rfl
 |_::_,_::_,_,h=>congrArg (·+1) (sV.len h.2)
 |[],_::_,_,h=>h.elim
 |_::_,[],_,h=>h.elim
theorem sV.snoc{CI:Addr}{g:My.bG}{k:List fo}{v:V}:∀{l:List My.bG} {a4:List (List fo×V)} {H:Hp},sV CI l a4 H->k=nW g.1->z0 (g.2.map (Iv CI)) v H->sV CI (l++[g]) (a4++[(k,v)]) H
 |[],[],_,_,h1,h2=>⟨⟨h1,h2⟩,trivial⟩
 |_::_,_::_,_,h,h1,h2=>⟨h.1,sV.snoc h.2 h1 h2⟩
 |[],_::_,_,h,_,_=>h.elim
 |_::_,[],_,h,_,_=>h.elim
theorem jc{kv:List fo×V}{a4:List (List fo×V)}{k:List fo}:gn (kv::a4) k=if kv.1=k then some kv.2 else gn a4 k:=by
 unfold gn
 by_cases h:kv.1=k
 ·rw[if_pos h,List.find?_cons_of_pos (by simpa using h)];rfl
 ·rw[if_neg h,List.find?_cons_of_neg (by simpa using h)]
theorem sV.get{CI:Addr}{n:List UInt8}:∀{l:List My.bG} {a4:List (List fo×V)} {H:Hp},sV CI l a4 H->(n∈l.map (·.1)/\∃v,gn a4 (nW n)=some v/\z0 ((My.fD l n).map (Iv CI)) v H)\/(n∉l.map (·.1)/\gn a4 (nW n)=none)
 |[],[],_,_=>.inr ⟨by simp,rfl⟩
 |g::l,kv::a4,H,h=>by
  obtain⟨⟨h1,h2⟩,h3⟩:=h
  by_cases c:g.1=n
  ·refine .inl ⟨by rw[List.map_cons,c];exact List.mem_cons_self,kv.2,by rw[jc,if_pos (by rw[h1,c])],?_⟩;have e:My.fD (g::l) n=g.2:=by
    unfold My.fD;rw[List.find?_cons_of_pos (by rw[c];exact beq_self_eq_true n)];rfl
   rw[e];exact h2
  ·have ne:¬kv.1=nW n:=λz=>c (yM (h1.symm.trans z));have e:My.fD (g::l) n=My.fD l n:=by
    unfold My.fD;rw[List.find?_cons_of_neg (by simpa using c)]
   rcases sV.get (n:=n) h3 with ⟨q1,v,q2,q3⟩ |⟨q1,q2⟩
   ·exact .inl ⟨by rw[List.map_cons];exact List.mem_cons_of_mem _ q1,v,by rw[jc,if_neg ne];exact q2,by rw[e];exact q3⟩
   ·refine .inr ⟨?_,by rw[jc,if_neg ne];exact q2⟩;rw[List.map_cons,List.mem_cons];rintro(z |z)
    ·exact c z.symm
    ·exact q1 z
 |[],_::_,_,h=>h.elim
 |_::_,[],_,h=>h.elim
def Qn(ns:List (List UInt8))(a4:List (List fo×V)):Prop:=∀n,(gn a4 (nW n)).isSome=decide (n∈ns)
theorem sV.AZ{CI:Addr}{l:List My.bG}{a4:List (List fo×V)}{H:Hp}(h:sV CI l a4 H):Qn (l.map (·.1)) a4:=λn=>by
 rcases sV.get (n:=n) h with ⟨q1,v,q2,_⟩ |⟨q1,q2⟩
 ·rw[q2,decide_eq_true q1];rfl
 ·rw[q2,decide_eq_false q1];rfl
def Oc(n:List UInt8):Rv:=gH (n.map λc=>V.int (c.toNat:Int))
section
variable{P:Program}{w:World}{K:Frag}{mg:Str->Option Value}{base:Heap}{CI CN NN CG NG CF NF CK CS CP CR CY:Addr}
variable(T:BA K mg CI CN NN CG NG CF NF CK CS CP CR CY){b:List UInt8}(hb:b.length<2^59)(i:Nat)
theorem cx.units{k:Nat}{A:Around}(r:cx k A):A.units+1<cLine:=by have:=r.un;omega
theorem pP{b:List UInt8}{i c:Nat}{ok:List UInt8->Bool}(h:∀n,My.tk b i≠.name n):My.nH b My.gv ok c i=.error (2,My.pl b i):=by
 unfold My.nH;cases q:My.tk b i with
 |name n=>exact absurd q (h n)
 |_=>rfl
theorem mH{b:List UInt8}{i c:Nat}{n:List UInt8}{ok:List UInt8->Bool}(h:My.tk b i=.name n):My.nH b My.gv ok c i=if ok n=true then My.bd (My.l4 b i ()) λ_ j=>.ok (n,j) else .error (c,My.pl b i):=by
 rw[My.dn];unfold My.nH;rw[h];rfl
include T hb in
theorem rM{ns:List (List UInt8)}{a4:List (List fo×V)}(hk:Qn ns a4):fq P w K mg base "read_new_name" 12 ["reader","names"] (sx (rS K CR CK CI b) i [rn a4] (j8 CF Oc (My.nH b My.gv (λn=>decide (n∉ns)) 3 i))):=by
 refine T.AV.FR (N:=["reader","names","name"]) fR rfl λf bL A ai s H0 H Q E X e hr nd hT hp r dx xv tv ws on ha hq=>?_;subst e;obtain⟨vd,rfl,hd⟩:=lS ha;have gd:=eK b i;have M1:=fY (P:=P) (w:=w) (base:=base) (b:=b) T i ["name"];unfold kH at M1
 by_cases MT:cf (My.tk b i)="name"
 rotate_left
 ·rw[if_neg λz=>MT (List.mem_singleton.mp z)] at M1;rw[pP λn z=>MT ((sR gd).mpr ⟨n,z⟩)] at hq;exact bN (n:=0) on rS.ok T.fK M1 hT hr rfl (λpm P=>aa (cO (vs:=[.str "name"]) (aa a8 v_ ag) d_) gH.ak ag) hq
 rw[if_pos (List.mem_singleton.mpr MT)] at M1;obtain⟨n,et⟩:=(sR gd).mp MT;rw[mH et] at hq;refine bN (n:=0) on rS.ok T.fK M1 hT hr rfl (λpm P=>aa (cO (vs:=[.str "name"]) (aa a8 v_ ag) d_) gH.ak ag) (λ_ H1 pZ s1 fO _=>?_);have W4:gu K ((rS K CR CK CI b).tok i) "value" (Oc n):=by
  have:=qX (K:=K) (CR:=CR) (CI:=CI) T.T.RK (b:=b) (i:=i);rw[et] at this;exact this
 refine af (nz (k:=2) (R:=Oc n) (bT fO.ne) fO.dj (λpm P=>dL (n:=0) rS.ok fO P T.fK T.iB W4 rfl) (λvn H2 s2 lx K2=>?_) nd);have io:=fO.au rS.ok s2 lx;have nU:=s1.trans s2;have hd2:=rn.ak _ _ _ nU hd;have MU:gH ((nW n).map kV) vn H2:=by rw[EV];exact K2
 refine af (iu (k:=(gn a4 (nW n)).isSome) (bT io.ne) io.dj (λpm P=>Py (cx.units hr) (ae 2 rfl MU gH.ak) (ae 1 rfl hd2 rn.ak)) (λh H3 s3 mQ=>?_) (λh H3 s3 mQ=>?_))
 ·rw[hk n,decide_eq_true_iff] at h;rw[if_neg (by simpa using h)] at hq;have jb:=io.au rS.ok s3 mQ;exact af (gI (bT jb.ne) mQ (dz T.T.gZ) hT rfl hr rfl (λpm P=>aa (dL (n:=0) rS.ok jb P T.fK T.iB (gc T.T.RK) rfl) v_ (aa (bV T.TR rfl) v_ ag)) ⟨Vi.ak _,Vi.ak _,trivial⟩ rfl (hq.au (nU.trans s3)))
 ·rw[hk n,decide_eq_false_iff_not] at h;rw[if_pos (by simpa using h),My.dn] at hq;have jb:=io.au rS.ok s3 mQ;have lB:=nU.trans s3;refine aJ ?_;refine jv (n:=0) jb rS.ok T.fK (cU (P:=P) (w:=w) (base:=base) T hb i) hT hr rfl (λe he=>?_) (λj hj H4 xq s4 jw=>?_)
  ·rw[he] at hq;exact hq.au lB
  rw[hj] at hq;have W5:Oc n vn H4:=gH.ak _ _ _ (s3.trans s4) K2;exact af (hX (bT jw.ne) jw.dj (λpm P=>ae 2 rfl W5 gH.ak) λv H5 s5 xp r5=>hq v H5 xq ((lB.trans s4).trans s5) (jw.au rS.ok s5 xp) r5)
def A0(CI:Addr)(l:List My.bG):Rv:=λv H=>∃a4,rn a4 v H/\sV CI l a4 H
theorem A0.ak{CI:Addr}{l:List My.bG}:Mon (A0 CI l):=λ_ _ _ s ⟨a4,h1,h2⟩=>⟨a4,rn.ak _ _ _ s h1,h2.ak s⟩
def u7(CI:Addr)(x:List My.be):Rv:=z0 (x.map (Iv CI))
theorem u7.ak{CI:Addr}{x:List My.be}:Mon (u7 CI x):=Mon.ls (iC _)
include T hb in
theorem xr(l:List My.bG):fq P w K mg base "read_known_glass" 12 ["reader","glasses"] (sx (rS K CR CK CI b) i [A0 CI l] (j8 CF (u7 CI) (My.lb b l i))):=by
 refine T.GJ.FR (N:=["reader","glasses","name"]) fR rfl λf bL A ai s H0 H Q E X e hr nd hT hp r dx xv tv ws on ha hq=>?_;subst e;obtain⟨vd,rfl,a4,hd,vF⟩:=lS ha;have gd:=eK b i;have M1:=fY (P:=P) (w:=w) (base:=base) (b:=b) T i ["name"];unfold kH at M1;unfold My.lb at hq
 by_cases MT:cf (My.tk b i)="name"
 rotate_left
 ·rw[if_neg λz=>MT (List.mem_singleton.mp z)] at M1;rw[pP λn z=>MT ((sR gd).mpr ⟨n,z⟩)] at hq;exact bN (n:=0) on rS.ok T.fK M1 hT hr rfl (λpm P=>aa (cO (vs:=[.str "name"]) (aa a8 v_ ag) d_) gH.ak ag) hq
 rw[if_pos (List.mem_singleton.mpr MT)] at M1;obtain⟨n,et⟩:=(sR gd).mp MT;rw[mH et] at hq;refine bN (n:=0) on rS.ok T.fK M1 hT hr rfl (λpm P=>aa (cO (vs:=[.str "name"]) (aa a8 v_ ag) d_) gH.ak ag) (λ_ H1 pZ s1 fO _=>?_);have W4:gu K ((rS K CR CK CI b).tok i) "value" (Oc n):=by
  have:=qX (K:=K) (CR:=CR) (CI:=CI) T.T.RK (b:=b) (i:=i);rw[et] at this;exact this
 refine af (nz (k:=2) (R:=Oc n) (bT fO.ne) fO.dj (λpm P=>dL (n:=0) rS.ok fO P T.fK T.iB W4 rfl) (λvn H2 s2 lx K2=>?_) nd);have io:=fO.au rS.ok s2 lx;have nU:=s1.trans s2;have hd2:=rn.ak _ _ _ nU hd;have MU:gH ((nW n).map kV) vn H2:=by rw[EV];exact K2
 refine af (iu (k:=!(gn a4 (nW n)).isSome) (bT io.ne) io.dj (λpm P=>FT (cx.units hr) (ae 2 rfl MU gH.ak) (ae 1 rfl hd2 rn.ak)) (λh H3 s3 mQ=>?_) (λh H3 s3 mQ=>?_))
 ·rw[vF.AZ n,Bool.not_eq_true',decide_eq_false_iff_not] at h;rw[if_neg (by rw[decide_eq_false h];decide)] at hq;have jb:=io.au rS.ok s3 mQ;exact af (gI (bT jb.ne) mQ (dz T.T.gZ) hT rfl hr rfl (λpm P=>aa (dL (n:=0) rS.ok jb P T.fK T.iB (gc T.T.RK) rfl) v_ (aa (bV T.MP rfl) v_ ag)) ⟨Vi.ak _,Vi.ak _,trivial⟩ rfl (hq.au (nU.trans s3)))
 ·rw[vF.AZ n,Bool.not_eq_false',decide_eq_true_iff] at h;rw[if_pos (decide_eq_true h),My.pz,My.dn] at hq;have jb:=io.au rS.ok s3 mQ;have lB:=nU.trans s3;refine aJ ?_;refine jv (n:=0) jb rS.ok T.fK (cU (P:=P) (w:=w) (base:=base) T hb i) hT hr rfl (λe he=>?_) (λj hj H4 xq s4 jw=>?_)
  ·rw[he] at hq;exact hq.au lB
  rw[hj] at hq;have W5:gH ((nW n).map kV) vn H4:=gH.ak _ _ _ (s3.trans s4) MU;have Ro:=rn.ak _ _ _ (s3.trans s4) hd2;rcases sV.get (n:=n) (vF.ak (lB.trans s4)) with ⟨_,u,q2,q3⟩ |⟨q1,_⟩
  rotate_left
  ·exact absurd h q1
  exact af (hX (R:=u7 CI (My.fD l n)) (bT jw.ne) jw.dj (λpm P=>LR (cx.units hr) (ae 1 rfl Ro rn.ak) (ae 2 rfl W5 gH.ak) q2 q3 u7.ak) λv H5 s5 xp r5=>hq v H5 xq ((lB.trans s4).trans s5) (jw.au rS.ok s5 xp) r5)
end
def one(D:Addr)(o:HO):Hp:=dE (λ_=>none) D o
theorem dq{D:Addr}{o:HO}:one D o D=some o:=aC
theorem gx{D b:Addr}{o:HO}(h:b≠D):one D o b=none:=by unfold one;rw[aB h]
theorem iY{D b:Addr}{o u:HO}(h:one D o b=some u):b=D/\u=o:=by
 by_cases q:b=D
 ·subst q;rw[dq] at h;cases h;exact⟨rfl,rfl⟩
 ·rw[gx q] at h;cases h
theorem gi{H:Hp}{D:Addr}{o:HO}(h:H D=none):Dj H (one D o):=λb u e=>by
 obtain⟨rfl,_⟩:=iY e;exact h
theorem mI{H:Hp}{D:Addr}{o:HO}(h:H D=none):dE H D o=join H (one D o):=by
 funext b
 by_cases q:b=D
 ·subst q;rw[aC,bR dq]
 ·rw[aB q,dU (gx q)]
theorem pQ{H:Hp}{D:Addr}{o u:HO}:dE H D u=join (mO H (one D o)) (one D u):=by
 funext b
 by_cases q:b=D
 ·subst q;rw[aC,bR dq]
 ·rw[aB q,dU (gx q),lU (gx q)]
theorem kJ{H M:Hp}{D:Addr}{o:HO}(h:M D=none):dE (join H M) D o=join (dE H D o) M:=by
 funext b
 by_cases q:b=D
 ·subst q;rw[aC,dU h,aC]
 ·rw[aB q];cases z:M b with
  |none=>rw[dU z,dU z,aB q]
  |some u=>rw[bR z,bR z]
theorem iD{H:Hp}{D:Addr}{o:HO}(h:H D=some o):aM (one D o) H:=λb u e=>by
 obtain⟨rfl,rfl⟩:=iY e;exact h
theorem yN{D:Addr}{xs:List V}:DM (one D (.de xs)):=λb o e=>.inr ⟨xs,(iY e).2⟩
theorem EW{D:Addr}{a4:List (List fo×V)}:DD (one D (.dT a4)):=λb o e=>⟨a4,(iY e).2⟩
theorem iE.snoc:∀{Rs:List Rv} {vs:List V} {H:Hp} {R:Rv} {v:V},iE Rs vs H->R v H->iE (Rs++[R]) (vs++[v]) H
 |[],[],_,_,_,_,h=>⟨h,trivial⟩
 |_::_,_::_,_,_,_,a,h=>⟨a.1,iE.snoc a.2 h⟩
 |[],_::_,_,_,_,a,_=>a.elim
 |_::_,[],_,_,_,a,_=>a.elim
theorem mJ{H M N:Hp}(h1:Dj H N)(h2:∀b o,N b=some o->M b=none):Dj (join H M) N:=λb o e=>by rw[dU (h2 b o e)];exact h1 b o e
section
variable{P:Program}{w:World}{K:Frag}{mg:Str->Option Value}{base:Heap}{CI CN NN CG NG CF NF CK CS CP CR CY:Addr}
variable(T:BA K mg CI CN NN CG NG CF NF CK CS CP CR CY){b:List UInt8}(hb:b.length<2^59)
def TY(K:Frag)(CR CK CI CF:Addr)(b:List UInt8):Sp:=λvs H Q E=>∃(i:Nat) (c:UInt8),sx (rS K CR CK CI b) i [Vi (.str ⟨#[c.toNat]⟩)] (j8 CF (Iv CI) (My.gh b c i)) vs H Q E
include T hb in
theorem Qo:fq P w K mg base "read_index" 13 ["reader","mark"] (TY K CR CK CI CF b):=T.GK.Pj λf fd F =>
 ⟨λvs H Q E ⟨i,c,h⟩=>(pO (P:=P) (w:=w) (base:=base) T hb i F c).len vs H Q E h,λA ai s H args us vs Q E hr he W6 hv ⟨i,c,h⟩=>(pO (P:=P) (w:=w) (base:=base) T hb i F c).run A ai s H args us vs Q E hr he W6 hv h⟩
include T hb in
theorem J7{X:Cx}{σ:L2.St}{H:Hp}{E:XK}{Q:VK}{r dx:Addr}{xv tv:V}{i j:Nat}{scope:Scope}{p1 p2 p3 p4 p5 p6 p7 p8 p9 pos:Pos}{t1 t2 t3 t4:Nat}(hP:X.prog=P)(hw:X.w=w)(hK:X.K=K)(hmg:X.mg=mg)(hT:iF X E)(j9:X.stack=X.env::X.ai/\X.env.frame=some X.env.locals)(hex:X.ex=[])(hc:X.gB=true)(hN:X.N.Nodup)(hr:cx j X.A)(on:On (rS K CR CK CI b) r dx xv i tv H)
  (hs0:σ[0]?=some (some (.ref r)))(hlen:3<σ.length)(hN0:X.N[0]?=some ("reader":Str))(Q6:X.N[3]?=some ("mark":Str))(ok:mS X.N X.env.scope scope [("mark",3)])
  (hq:ln (rS K CR CK CI b) r dx xv (j8 CF (u7 CI) (My.qQ b [44,44,59] i)) H Q E)(jX:13<=j:=by decide)
  (hl:∀cl C,(compEnvC scope cl C X.env).scope.names.lookup ("mark":Str)=some .local:=by intro _ _;rfl)(W7:∀cl C,uZ (compEnvC scope cl C X.env).scope "reader":=by intro _ _;first |exact Or.inl rfl |exact Or.inr (Or.inl rfl) |exact Or.inr (Or.inr rfl))(S0:∀cl C,(compEnvC scope cl C X.env).kindOf "read_index"=some .globalImplicit:=by intro _ _;rfl)
  (TZ:∀cl C,starEach [Expr.Name "reader" p2,Expr.Name "mark" p3] (compEnvC scope cl C X.env)=(false,eval (.Name "reader" p2) (compEnvC scope cl C X.env))::starEach [Expr.Name "mark" p3] (compEnvC scope cl C X.env):=by intro _ _;rfl)
  (Ci:∀cl C,starEach [Expr.Name "mark" p3] (compEnvC scope cl C X.env)=(false,eval (.Name "mark" p3) (compEnvC scope cl C X.env))::starEach [] (compEnvC scope cl C X.env):=by intro _ _;rfl)
  (d9:∀cl C,(backTo p4 (starEach [Expr.Name "mark" p3] (compEnvC scope cl C X.env))).any (·.1)=false:=by intro _ _;rfl)
  (Wo:starEach [Expr.Constant (.str ",") t1 p7,.Constant (.str ",") t2 p8,.Constant (.str ";") t3 p9] X.env=(false,eval (.Constant (.str ",") t1 p7) X.env)::starEach [Expr.Constant (.str ",") t2 p8,.Constant (.str ";") t3 p9] X.env:=by rfl)
  (Hl:starEach [Expr.Constant (.str ",") t2 p8,.Constant (.str ";") t3 p9] X.env=(false,eval (.Constant (.str ",") t2 p8) X.env)::starEach [Expr.Constant (.str ";") t3 p9] X.env:=by rfl)
  (Rb:starEach [Expr.Constant (.str ";") t3 p9] X.env=(false,eval (.Constant (.str ";") t3 p9) X.env)::starEach [] X.env:=by rfl)
  (II:∀v,foldedSetIterable (.Tuple [.Constant (.str ",") t1 p7,.Constant (.str ",") t2 p8,.Constant (.str ";") t3 p9] t4 p6) X.env v=pure v:=by intro _;rfl) :
  Ev X (.ListComp (.Call (.Name "read_index" p1) [.Name "reader" p2,.Name "mark" p3] [] p4) [⟨.Name "mark" p5,.Tuple [.Constant (.str ",") t1 p7,.Constant (.str ",") t2 p8,.Constant (.str ";") t3 p9] t4 p6,[],0⟩] scope pos) σ (join H (rd CR r dx xv tv)) Q:=by
 subst hP hw hK hmg;obtain⟨f,fd,F,hm,kp,bi⟩:=Qo (P:=X.prog) (w:=X.w) (base:=X.base) T hb;refine(B8 (wi:=RR X.K (Ev X _)) (g:=zr 3) (te:=HQ (TY X.K CR CK CI CF b) [] E (zx (BD 0) (zx (BD 3) HP))) (own:=[("mark",3)]) hT j9 hex hc hN (HD pE) ok
  (λs H C cl fp=>kM (X:=X.zB s H scope (compEnvC scope cl C X.env) fp) hN Q6 (.inl (hl cl C)) (.inr (hl cl C)))
  (λs H C cl fp pn xe hx B3=>jB (X:=X.z7 s H scope C cl fp pn xe) F (hr.aw jX) (S0 cl C) hm kp bi .nil (B3.Ej λb hb=>let ⟨o,z⟩:=hx b hb;⟨o,List.mem_append_right _ z⟩) (bI (gC hN0 (W7 cl C) d_ d_) (bI (gC Q6 (.inl (hl cl C)) d_ d_) cV (Ci cl C)) (TZ cl C)) d_ (TZ cl C) (d9 cl C)) II).ev ?_
 refine ww (R:=gH [.str ",",.str ",",.str ";"]) (bT on.ne) on.dj (λpm P=>cO (aa a8 v_ (aa a8 v_ (aa a8 v_ ag Rb) Hl) Wo) d_) λv H1 s1 ir W8=>?_;obtain⟨a,rfl,ha⟩:=W8;have fO:=on.au rS.ok s1 ir;have sq:∀{Hk:Hp},aM H1 Hk->∀{M N:Hp},Dj Hk M->Dj (join Hk M) N->rZ X.K (join (join Hk M) N) a [.str ",",.str ",",.str ";"]:=λ{Hk} s {M N} d1 d2=>.of (cW d2 (cW d1 (s _ _ ha)));refine⟨a,rfl,⟨_,.of (cW ir ha)⟩,λD hD=>?_⟩;obtain⟨YQ,W9⟩:=cI hD;refine⟨λk m Hf=>m=3 - k/\k<=3/\∃Hk Od xs jj fP,My.qQ b (([44,44,59]:List UInt8).take k) i=.ok (xs,jj)/\Hf=join (join Hk (one D (.de fP))) (rd CR r dx xv Od)/\Dj Hk (one D (.de fP))/\aM H1 Hk/\On (rS X.K CR CK CI b) r dx xv jj Od (join Hk (one D (.de fP)))/\iE (xs.map (Iv CI)) fP Hk/\fP.length=k,⟨3,rfl,by omega,H1,tv,[],i,[],rfl,?_,gi W9,sm,?_,trivial,rfl⟩,?_⟩
 ·rw[kJ YQ,mI W9]
 ·have djD:Dj (join H1 (one D (.de []))) (rd CR r dx xv tv):=mJ ir λb o e=>gx λz=>by rw[z,YQ] at e;cases e
  exact fO.au rS.ok (ci (gi W9)) djD
 rintro k m Hf ⟨rfl,hk,Hk,Od,xs,jj,fP,es,rfl,qZ,sk,Xa,T2,GV⟩;have Qp:=sq sk qZ Xa.dj;rcases Nat.lt_or_ge k 3 with fS |Ms
 ·obtain⟨c,Wa,UI⟩:∃c:UInt8,(([44,44,59]:List UInt8).take (k+1)=([44,44,59]:List UInt8).take k++[c])/\([.str ",",.str ",",.str ";"]:List V)[k]?=some (.str ⟨#[c.toNat]⟩):=by
   match k,fS with
   |0,_=>exact⟨44,rfl,rfl⟩
   |1,_=>exact⟨44,rfl,rfl⟩
   |2,_=>exact⟨59,rfl,rfl⟩
  refine .inr ⟨⟨_,_,Qp,UI⟩,λH'=>3 - (k+1)<3 - k/\∃Hk Od xs jj fP,My.qQ b (([44,44,59]:List UInt8).take (k+1)) i=.ok (xs,jj)/\H'=join (join Hk (one D (.de fP))) (rd CR r dx xv Od)/\Dj Hk (one D (.de fP))/\aM H1 Hk/\On (rS X.K CR CK CI b) r dx xv jj Od (join Hk (one D (.de fP)))/\iE (xs.map (Iv CI)) fP Hk/\fP.length=k+1,λH' ⟨h1,h2⟩=>⟨_,h1,rfl,by omega,h2⟩,?_⟩;rintro x H' ⟨rfl,hx⟩;have hx:=hx _ Qp;rw[UI] at hx;obtain rfl:=Option.some.inj hx;refine⟨?_,?_⟩
  ·show ((σ.set 3 none).set 3 (some _)).set 3 none=σ.set 3 none;rw[List.set_set,List.set_set]
  unfold Fu;dsimp only;rw[if_pos rfl];have hwp:nu σ ([(("mark":Str),3)].map (·.2))=σ.set 3 none:=rfl;refine⟨.ref r,?_,.str ⟨#[c.toNat]⟩,?_,jj,c,r,dx,xv,Od,[.str ⟨#[c.toNat]⟩],_,rfl,rfl,Xa,⟨rfl,trivial⟩,?_⟩
  ·show ((σ.set 3 none).set 3 (some _))[0]?=_;rw[List.set_set,List.getElem?_set_ne d_];exact hs0
  ·show ((σ.set 3 none).set 3 (some _))[3]?=_;rw[List.set_set,List.getElem?_set_self hlen]
  have J8:My.qQ b (([44,44,59]:List UInt8).take (k+1)) i=My.bd (My.gh b c jj) λx j2=>.ok (xs++[x],j2):=by
   rw[Wa,My.JI,es,My.eZ]
  cases ei:My.gh b c jj with
  |error e =>
   rw[ei] at J8;have J9:=My.Mq (b:=b) (i:=i) (e:=e) J8 (([44,44,59]:List UInt8).drop (k+1));rw[List.take_append_drop] at J9;rw[J9] at hq;exact λc' d' H5 s5 x5=>hq c' d' H5 (s1.trans (sk.trans ((ci qZ).trans s5))) x5
  |ok y =>
   obtain⟨x',j'⟩:=y;rw[ei] at J8;intro v H5 Dn s5 iP r5;have Oe:H5 D=some (.de fP):=s5 _ _ (bR dq);refine⟨fP,cW iP.dj Oe,by rw[GV];exact Nat.lt_of_lt_of_le fS d_,by omega,mO H5 (one D (.de fP)),Dn,xs++[x'],j',fP++[v],J8,?_,gi (t5 dq),?_,?_,?_,by rw[List.length_append,GV];rfl⟩
   ·have:rd CR r dx xv Dn D=none:=iP.dj.SK Oe;rw[kJ this,pQ (o:=.de fP)]
   ·exact sk.trans (di qZ s5).2.2
   ·have dN:Dj (mO H5 (one D (.de fP))) (one D (.de (fP++[v]))):=gi (t5 dq);have sH:aM H1 (mO H5 (one D (.de fP))):=sk.trans (di qZ s5).2.2;have nD:∀b o,rd CR r dx xv Dn b=some o->b≠D:=λb o e z=>by
     have:=iP.dj b o e;rw[z,Oe] at this;cases this
    refine⟨iP.ne,mJ (λb o e=>?_) λb o e=>gx (nD b o e),Tx.ak _ _ _ (sH.trans (ci dN)) fO.tx,ig.ak _ _ _ (ci dN) (Nd.tok _ _ _ yN (iD Oe) iP.tok.1),iP.tok.2⟩;rw[lU (gx (nD b o e))];exact iP.dj b o e
   ·rw[List.map_append];exact iE.snoc (T2.au (iC _) (di qZ s5).2.2) (Nd.iv _ _ _ yN (iD Oe) r5)
 ·have Xb:k=3:=by omega
  subst Xb;rw[show ([44,44,59]:List UInt8).take 3=[44,44,59] from rfl] at es;rw[es] at hq;refine .inl ⟨⟨_,Qp,Nat.le_refl _⟩,?_⟩;exact hq (.ref D) _ Od (s1.trans (sk.trans (ci qZ))) Xa ⟨D,fP,rfl,bR dq,T2.au (iC _) (ci qZ)⟩
end
theorem A1{a4:List (List fo×V)}{k:List fo}{v:V}(h:gn a4 k=none):qr a4 k v=a4++[(k,v)]:=by
 unfold qr;rw[if_neg];intro z;rw[List.any_eq_true] at z;obtain⟨x,hx,e⟩:=z;unfold gn at h;have h:=Option.map_eq_none_iff.mp h;rw[List.find?_eq_none] at h;exact h x hx e
section
variable{P:Program}{w:World}{K:Frag}{mg:Str->Option Value}{base:Heap}{CI CN NN CG NG CF NF CK CS CP CR CY:Addr}
def Ka(K:Frag)(CR CK CI CF:Addr)(b:List UInt8)(l:List My.bG)(i:Nat)(r dx g:Addr)(xv:V)(H0:Hp)(Q:VK)(E:XK):Prop:=match My.ie b l i with
 |.error e=>∀c d H1,aM H0 H1->rW CF e.1 e.2 c d H1->E c d H1
 |.ok y=>∀H1 a4 tv,aM H0 H1->Dj H1 (one g (.dT a4))->On (rS K CR CK CI b) r dx xv y.2 tv (join H1 (one g (.dT a4)))->sV CI (l++[y.1]) a4 H1->Q .dH (join (join H1 (one g (.dT a4))) (rd CR r dx xv tv))
def spG(K:Frag)(CR CK CI CF:Addr)(b:List UInt8)(l:List My.bG)(i:Nat):Sp:=λvs H Q E=>∃r dx g xv tv a4 H0,vs=[.ref r,.ref g]/\H=join (join H0 (one g (.dT a4))) (rd CR r dx xv tv)/\Dj H0 (one g (.dT a4))/\Tx K b xv H0/\On (rS K CR CK CI b) r dx xv i tv (join H0 (one g (.dT a4)))/\sV CI l a4 H0/\Ka K CR CK CI CF b l i r dx g xv H0 Q E
variable(T:BA K mg CI CN NN CG NG CF NF CK CS CP CR CY){b:List UInt8}(hb:b.length<2^59)(i:Nat)
include T hb in
theorem vL{l:List My.bG}(hl:l.length<=64):fq P w K mg base "read_glass" 15 ["reader","glasses"] (spG K CR CK CI CF b l i):=by
 refine T.GL.Pj λf fd F=>F.Q7 (N:=["reader","glasses","name","mark"]) fR (λvs H Q E ⟨r,dx,g,xv,tv,a4,H0,e,_⟩=>by rw[e];rfl) λbL A ai s H vs Q E X e hr hT hp h=>⟨_,pD,?_⟩
 have nd:X.N.Nodup:=by rw[e];show (["reader","glasses","name","mark"]:List Str).Nodup;decide
 subst e;obtain⟨r,dx,g,xv,tv,a4,H0,rfl,rfl,Rp,Xc,on,vF,hq⟩:=h;have hlen:=vF.len;have hd:rn a4 (.ref g) (join H0 (one g (.dT a4))):=⟨g,rfl,bR dq⟩
 unfold Ka at hq;rw[My.CU] at hq;have s0:∀{H1:Hp},aM (join H0 (one g (.dT a4))) H1->aM H0 H1:=λs=>(ci Rp).trans s;refine af (iu (k:=decide (V.int (a4.length:Nat)=V.int 64)) (bT on.ne) on.dj (λpm P=>dJ (El rfl T.T.N.len (ae 1 rfl hd rn.ak)) (bV T.AW rfl) rfl) (λh H1 s1 ir=>?_) (λh H1 s1 ir=>?_))
 ·have h:=V.int.inj (of_decide_eq_true h);rw[if_neg o_] at hq;have fO:=on.au rS.ok s1 ir;exact af (gI (bT fO.ne) ir (dz T.T.gZ) hT rfl hr rfl (λpm P=>aa (dL (n:=0) rS.ok fO P T.fK T.iB (gc T.T.RK) rfl) v_ (aa (bV T.EU rfl) v_ ag)) ⟨Vi.ak _,Vi.ak _,trivial⟩ rfl (λc d H2 s2 x2=>hq c d H2 (s0 (s1.trans s2)) x2))
 have fS:l.length<64:=by
  have h:¬((a4.length:Nat):Int)=64:=λz=>of_decide_eq_false h (by rw[z]);omega
 rw[if_pos fS] at hq;have fO:=on.au rS.ok s1 ir;refine aJ ?_;have M1:=ju (P:=P) (w:=w) (base:=base) T hb i "glass";rw[show kI CF b i ("glass":Str)=_ from mG i "glass" d_] at M1;have eW:(My.wd "glass":Ln.Text.Tok)=.word (Ln.ascii "glass"):=rfl;rw[eW] at M1;cases e1:My.dA b (.word (Ln.ascii "glass")) i with
 |error e =>
  rw[e1] at hq M1;exact bN (n:=0) fO rS.ok T.fK M1 hT hr rfl (λpm P=>aa a8 v_ ag) (λc d H2 s2 x2=>hq c d H2 (s0 (s1.trans s2)) x2)
 |ok y =>
 obtain⟨_,i1⟩:=y;rw[e1] at M1;rw[e1,My.eZ] at hq;refine bN (n:=0) fO rS.ok T.fK M1 hT hr rfl (λpm P=>aa a8 v_ ag) (λ_ H2 J0 s2 io _=>?_);have nU:=s1.trans s2;have hd2:=rn.ak _ _ _ nU hd;refine ip (n:=2) io rS.ok (rM T hb i1 vF.AZ) hT hr rfl (λpm P=>aa (ae 0 rfl rfl v_) v_ (aa (ae 1 rfl hd2 rn.ak) rn.ak ag)) (λe he=>?_) (λn i2 hn vn H3 J1 s3 jb r3=>?_) nd
 ·rw[he] at hq;exact λc d H3 s3 x3=>hq c d H3 (s0 (nU.trans s3)) x3
 rw[hn,My.eZ] at hq;have lB:=nU.trans s3;have M2:=ju (P:=P) (w:=w) (base:=base) T hb i2 ":";rw[show kI CF b i2 (":":Str)=_ from qY i2 58] at M2;cases e2:My.dA b (.mark 58) i2 with
 |error e =>
  rw[e2] at hq M2;exact bN (n:=0) jb rS.ok T.fK M2 hT hr rfl (λpm P=>aa a8 v_ ag) (λc d H2 s2 x2=>hq c d H2 (s0 (lB.trans s2)) x2)
 |ok y =>
 obtain⟨_,i3⟩:=y;rw[e2] at M2;rw[e2,My.eZ] at hq;refine bN (n:=0) jb rS.ok T.fK M2 hT hr rfl (λpm P=>aa a8 v_ ag) (λ_ H4 xq s4 jw _=>?_);have xi:=lB.trans s4;have P5:n∉l.map (·.1):=by
  by_cases z:n∈l.map (·.1)
  ·exfalso;cases q:My.tk b i1 with
   |name n' =>
    rw[mH q] at hn;split at hn
    ·rename_i c;unfold My.bd My.l4 at hn;split at hn
     ·cases hn
     ·cases hn;exact of_decide_eq_true c z
    ·cases hn
   |_ =>
    rw[pP (λn z=>by rw[q] at z;cases z)] at hn;cases hn
  ·exact z
 refine af ((D1 (cx.units hr) (pv 1) (pv 2) pE rfl).do ?_);refine J7 T hb rfl rfl rfl rfl hT ⟨rfl,rfl⟩ rfl rfl nd hr jw rfl (by show 3<4;decide) rfl rfl (show mS ["reader","glasses","name","mark"] (ax (top 101)) _ [("mark",3)] from ⟨rfl,by decide +kernel,by decide +kernel,by decide +kernel,by decide +kernel⟩) ?_;cases e3:My.qQ b [44,44,59] i3 with
 |error e =>
  rw[e3] at hq;exact λc d H5 s5 x5=>hq c d H5 (s0 (xi.trans s5)) x5
 |ok y =>
 obtain⟨xs,i6⟩:=y;rw[e3,My.eZ] at hq;intro v H5 Dn s5 iP r5;have zh:=xi.trans s5;have Of:H5 g=some (.dT a4):=zh _ _ (bR dq);obtain⟨pn,rfl,Xd⟩:=(gH.ak _ _ _ (s4.trans s5) r3:Oc n vn H5)
 have Qq:H5 pn=some (.iQ ((nW n).map kV)):=by rw[EV];exact Xd
 refine⟨.ref g,rfl,.ref pn,rfl,g,_,rfl,Fv.t (k:=nW n) (cW iP.dj Of) (cW iP.dj Qq) (by rw[hlen];exact Nat.lt_of_le_of_lt hl d_),aJ ?_⟩;have Xe:gn a4 (nW n)=none:=by
  have:=vF.AZ n;rw[decide_eq_false P5] at this;cases q:gn a4 (nW n) with
  |none=>rfl
  |some _=>rw[q] at this;cases this
 have nR:rd CR r dx xv Dn g=none:=iP.dj.SK Of;rw[A1 Xe,kJ nR,pQ (o:=.dT a4)];have sH:=(di Rp zh).2.2;have dN:Dj (mO H5 (one g (.dT a4))) (one g (.dT (a4++[(nW n,v)]))):=gi (t5 dq);refine hq _ _ Dn sH dN ⟨iP.ne,mJ (λb o e=>?_) (λb o e=>gx λz=>by rw[z,nR] at e;cases e),Tx.ak _ _ _ (sH.trans (ci dN)) Xc,ig.ak _ _ _ (ci dN) (Nd.tok _ _ _ EW.dm (iD Of) iP.tok.1),iP.tok.2⟩ ?_
 ·rw[lU (gx λz=>by rw[z,nR] at e;cases e)];exact iP.dj b o e
 ·exact sV.snoc (vF.ak sH) rfl (u6.ls (uU.ivs xs) _ _ _ EW (iD Of) r5)
end
structure Kb(ns:List (List UInt8))(a4:List (List fo×V)):Prop where
 AZ:Qn ns a4
 len:a4.length=ns.length
theorem xu{k k':List fo}{v:V}:∀{a4:List (List fo×V)},gn (a4++[(k',v)]) k=match gn a4 k with
  |some u=>some u
  |none=>if k'=k then some v else none
 |[]=>by
  rw[List.nil_append,jc];rfl
 |kv::a4=>by
  rw[List.cons_append,jc,jc]
  by_cases h:kv.1=k
  ·rw[if_pos h,if_pos h]
  ·rw[if_neg h,if_neg h,xu]
theorem Kb.snoc{ns:List (List UInt8)}{a4:List (List fo×V)}{n:List UInt8}{v:V}(h:Kb ns a4):Kb (ns++[n]) (a4++[(nW n,v)]):=by
 refine⟨λm=>?_,by rw[List.length_append,List.length_append,h.len];rfl⟩;rw[xu];have:=h.AZ m;cases q:gn a4 (nW m) with
 |some u =>
  rw[q] at this;have hm:m∈ns:=of_decide_eq_true this.symm;rw[decide_eq_true (List.mem_append_left _ hm)];rfl
 |none =>
  rw[q] at this;have hm:m∉ns:=of_decide_eq_false this.symm;dsimp only
  by_cases c:n=m
  ·rw[if_pos (by rw[c]),decide_eq_true (List.mem_append_right _ (List.mem_singleton.mpr c.symm))];rfl
  ·rw[if_neg λz=>c (yM z),decide_eq_false]
   ·rfl
   ·intro z;rcases List.mem_append.mp z with z |z
    ·exact hm z
    ·exact c (List.mem_singleton.mp z).symm
theorem Kb.nil:Kb [] []:=⟨λn=>by simp [gn],rfl⟩
theorem u6.glass{CI:Addr}:∀{k:My.mW},u6 (iO CI k)
 |.surface g=>u6.ls (uU.ivs g)
 |.mirror=>(Nd.vi _).d
 |.gj=>(Nd.vi _).d
theorem u6.pX{CI:Addr}:∀{l:Option My.be},u6 (qR CI l)
 |none=>(Nd.vi _).d
 |some _=>Nd.iv.d
theorem u6.sh{CS CI:Addr}{s:My.mr}:u6 (Sh CS CI s):=u6.rec ⟨Nd.iv.d,Nd.iv.d,trivial⟩
theorem u6.pa{CP CS CI:Addr}{q:My.cJ}:u6 (Pa CP CS CI q):=u6.rec ⟨(Nd.vi _).d,Nd.iv.d,u6.glass,u6.sh,u6.pX,trivial⟩
section
variable{P:Program}{w:World}{K:Frag}{mg:Str->Option Value}{base:Heap}{CI CN NN CG NG CF NF CK CS CP CR CY:Addr}
def Kc(K:Frag)(CR CK CI CF CP CS:Addr)(b:List UInt8)(l:List My.bG)(ns:List (List UInt8))(i:Nat)(r dx n:Addr)(xv:V)(H0:Hp)(Q:VK)(E:XK):Prop:=match My.m4 b l ns i with
 |.error e=>∀c d H1,aM H0 H1->rW CF e.1 e.2 c d H1->E c d H1
 |.ok y=>∀v H1 a4 tv,aM H0 H1->Dj H1 (one n (.dT a4))->On (rS K CR CK CI b) r dx xv y.2 tv (join H1 (one n (.dT a4)))->Kb (ns++[y.1.1]) a4->Pa CP CS CI y.1.2 v H1->Q v (join (join H1 (one n (.dT a4))) (rd CR r dx xv tv))
def spQ(K:Frag)(CR CK CI CF CP CS:Addr)(b:List UInt8)(l:List My.bG)(ns:List (List UInt8))(i:Nat):Sp:=λvs H Q E=>∃r dx n xv tv vg a4 H0,vs=[.ref r,vg,.ref n]/\H=join (join H0 (one n (.dT a4))) (rd CR r dx xv tv)/\Dj H0 (one n (.dT a4))/\Tx K b xv H0/\On (rS K CR CK CI b) r dx xv i tv (join H0 (one n (.dT a4)))/\A0 CI l vg H0/\Kb ns a4/\Kc K CR CK CI CF CP CS b l ns i r dx n xv H0 Q E
variable(T:BA K mg CI CN NN CG NG CF NF CK CS CP CR CY){b:List UInt8}(hb:b.length<2^59)(i:Nat)
abbrev KG:List Str:=["reader","glasses","names","kind","name","gap","glass","shape","limit"]
def EX(K:Frag)(CR CK CI CF CP CS:Addr)(b:List UInt8)(kd:My.mW)(g:My.be)(sh:My.mr)(i:Nat)(r dx:Addr)(xv:V)(H0:Hp)(Q:VK)(E:XK):Prop:=match My.iK b i with
 |.error e=>∀c d H1,aM H0 H1->rW CF e.1 e.2 c d H1->E c d H1
 |.ok y=>∀v H1 tv,aM H0 H1->On (rS K CR CK CI b) r dx xv y.2 tv H1->Pa CP CS CI ⟨kd,g,sh,y.1⟩ v H1->Q v (join H1 (rd CR r dx xv tv))
include T hb in
theorem q0{f:Addr}{bL:Value}{A:Around}{ai:List Env}{s:Shared}{HH H:Hp}{Q:VK}{E:XK}{r dx:Addr}{xv tv vg vn Xf GW YR WH:V}{kd:My.mW}{gap:My.be}{sh:My.mr}(hr:cx 17 (lw P w K mg base KG "read_part" (ax (top 105)) f bL A ai s HH E).A)(nd:(KG:List Str).Nodup)(hT:iF (lw P w K mg base KG "read_part" (ax (top 105)) f bL A ai s HH E) E)
  (on:On (rS K CR CK CI b) r dx xv i tv H)(hg:Iv CI gap GW H)(vF:iO CI kd YR H)(WI:Sh CS CI sh WH H)(hq:EX K CR CK CI CF CP CS b kd gap sh i r dx xv H Q E) :
  Do (lw P w K mg base KG "read_part" (ax (top 105)) f bL A ai s HH E) ((cq (top 105)).drop 11) {nx:=λ_ H'=>Q .dH H',rt:=Q} [some (.ref r),some vg,some vn,some (AF kd),some Xf,some GW,some YR,some WH,none] (join H (rd CR r dx xv tv)):=by
 unfold EX My.iK at hq;refine ip (n:=8) on rS.ok (vK T hb i) hT hr rfl (λpm P=>aa (ae 0 rfl rfl v_) v_ ag) (λe he=>?_) (λpX j hj vl H1 pZ s1 fO r1=>?_) nd
 ·rw[he] at hq;exact hq
 rw[hj,My.eZ] at hq;have M2:=ju (P:=P) (w:=w) (base:=base) T hb j ";";rw[show kI CF b j (";":Str)=_ from qY j 59] at M2;cases e2:My.dA b (.mark 59) j with
 |error e =>
  rw[e2] at hq M2;exact bN (n:=0) fO rS.ok T.fK M2 hT hr rfl (λpm P=>aa a8 v_ ag) (λc d H2 s2 x2=>hq c d H2 (s1.trans s2) x2)
 |ok y =>
 obtain⟨_,i3⟩:=y;rw[e2] at M2;rw[e2,My.eZ] at hq;refine bN (n:=0) fO rS.ok T.fK M2 hT hr rfl (λpm P=>aa a8 v_ ag) (λ_ H2 J0 s2 io _=>?_);have nU:=s1.trans s2;have KE:=Iv.ak _ _ _ nU hg;have Xg:=iO.ak _ _ _ nU vF;have Xh:=Sh.ak _ _ _ nU WI;have r2:=qR.ak _ _ _ s2 r1;exact af (hX (R:=Pa CP CS CI ⟨kd,gap,sh,pX⟩) (bT io.ne) io.dj (λpm P=>eL (Wz T.RP) hr rfl (aa (ae 3 rfl rfl v_) v_ (aa (ae 5 rfl KE Iv.ak) Iv.ak (aa (ae 6 rfl Xg iO.ak) iO.ak (aa (ae 7 rfl Xh Sh.ak) Sh.ak (aa (ae 8 rfl r2 qR.ak) qR.ak ag))))) ⟨Vi.ak _,Iv.ak,iO.ak,Sh.ak,qR.ak,trivial⟩ rfl) λv H3 s3 mQ r3=>hq v H3 J0 (nU.trans s3) (io.au rS.ok s3 mQ) r3)
end
section
variable{P:Program}{w:World}{K:Frag}{mg:Str->Option Value}{base:Heap}{CI CN NN CG NG CF NF CK CS CP CR CY:Addr}
theorem MV{b:List UInt8}{i j c:Nat}{n:List UInt8}{ns:List (List UInt8)}(h:My.nH b My.gv (λn=>decide (n∉ns)) c i=.ok (n,j)):n∉ns:=by
 cases q:My.tk b i with
 |name n' =>
  rw[mH q] at h;split at h
  ·rename_i c;unfold My.bd My.l4 at h;split at h
   ·cases h
   ·cases h;exact of_decide_eq_true c
  ·cases h
 |_ =>
  rw[pP (λn z=>by rw[q] at z;cases z)] at h;cases h
variable(T:BA K mg CI CN NN CG NG CF NF CK CS CP CR CY){b:List UInt8}(hb:b.length<2^59)(i:Nat)
def kK(K:Frag)(CR CK CI CF CP CS:Addr)(b:List UInt8)(m:Except Ln.Text.Fault (My.bB×Nat))(r dx:Addr)(xv:V)(H0:Hp)(Q:VK)(E:XK):Prop:=match m with
 |.error e=>∀c d H1,aM H0 H1->rW CF e.1 e.2 c d H1->E c d H1
 |.ok y=>∀v H1 tv,aM H0 H1->On (rS K CR CK CI b) r dx xv y.2 tv H1->Pa CP CS CI y.1.2 v H1->Q v (join H1 (rd CR r dx xv tv))
theorem kK.au{m:Except Ln.Text.Fault (My.bB×Nat)}{b:List UInt8}{r dx:Addr}{xv:V}{H H':Hp}{Q:VK}{E:XK}(h:kK K CR CK CI CF CP CS b m r dx xv H Q E)(s:aM H H'):kK K CR CK CI CF CP CS b m r dx xv H' Q E:=by
 cases m with
 |ok y=>exact λv H1 tv s1=>h v H1 tv (s.trans s1)
 |error x=>exact λc d H1 s1=>h c d H1 (s.trans s1)
theorem nX{b:List UInt8}{nm:List UInt8}{kd:My.mW}{g:My.be}{sh:My.mr}{i:Nat}{r dx:Addr}{xv:V}{H:Hp}{Q:VK}{E:XK}(h:kK K CR CK CI CF CP CS b (My.bd (My.iK b i) λc i8=>.ok ((nm,⟨kd,g,sh,c⟩),i8)) r dx xv H Q E):EX K CR CK CI CF CP CS b kd g sh i r dx xv H Q E:=by
 unfold EX;cases q:My.iK b i with
 |error e=>rw[q] at h;exact h
 |ok y=>rw[q] at h;exact h
include T hb in
theorem GX{f:Addr}{bL:Value}{A:Around}{ai:List Env}{s:Shared}{HH H:Hp}{Q:VK}{E:XK}{r dx:Addr}{xv tv vg vn Xf GW:V}{l:List My.bG}{nm:List UInt8}{gap:My.be}{t:Ln.Text.Tok}(hr:cx 17 (lw P w K mg base KG "read_part" (ax (top 105)) f bL A ai s HH E).A)(nd:(KG:List Str).Nodup)(hT:iF (lw P w K mg base KG "read_part" (ax (top 105)) f bL A ai s HH E) E)
  (gd:Gd t)(ht:t=My.wd "surface"\/t=My.wd "mirror"\/t=My.wd "stop")(on:On (rS K CR CK CI b) r dx xv i tv H)(hg:Iv CI gap GW H)(vF:A0 CI l vg H)(hq:kK K CR CK CI CF CP CS b (My.pB b l nm gap t i) r dx xv H Q E) :
  Do (lw P w K mg base KG "read_part" (ax (top 105)) f bL A ai s HH E) ((cq (top 105)).drop 8) {nx:=λ_ H'=>Q .dH H',rt:=Q} [some (.ref r),some vg,some vn,some (.str (cf t)),some Xf,some GW,none,none,none] (join H (rd CR r dx xv tv)):=by
 have n12:(My.wd "mirror":Ln.Text.Tok)≠My.wd "surface":=by decide
 have n13:(My.wd "stop":Ln.Text.Tok)≠My.wd "surface":=by decide
 have n23:(My.wd "stop":Ln.Text.Tok)≠My.wd "mirror":=by decide
 refine af (nz (k:=6) (bT on.ne) on.dj (λpm P=>tS) (λv0 H1 s1 ir W7=>?_) nd);obtain rfl:v0=.dH:=W7;have fO:=on.au rS.ok s1 ir;unfold My.pB at hq
 by_cases c1:t=My.wd "surface"
 ·rw[if_pos c1] at hq;have T3:cf t="surface":=(dv gd "surface" d_).mpr c1;refine af (iu (k:=decide (cf t="surface")) (bT fO.ne) fO.dj (λpm P=>by rw[<-fj];exact dJ (ae 3 rfl rfl v_) a8 rfl) (λ_ H2 s2 lx=>?_) (λh=>absurd T3 (of_decide_eq_false h)));have io:=fO.au rS.ok s2 lx;have nU:=s1.trans s2;have M2:=ju (P:=P) (w:=w) (base:=base) T hb i "into";rw[show kI CF b i ("into":Str)=_ from mG i "into" d_] at M2;cases e2:My.dA b (My.wd "into") i with
  |error e =>
   rw[e2] at hq M2;exact bN (n:=0) io rS.ok T.fK M2 hT hr rfl (λpm P=>aa a8 v_ ag) (λc d H3 s3 x3=>hq c d H3 (nU.trans s3) x3)
  |ok y =>
  obtain⟨_,i5⟩:=y;rw[e2] at M2;rw[e2,My.eZ] at hq;refine bN (n:=0) io rS.ok T.fK M2 hT hr rfl (λpm P=>aa a8 v_ ag) (λ_ H3 J1 s3 jb _=>?_);have lB:=nU.trans s3;have Xi:=A0.ak _ _ _ lB vF;refine ip (n:=6) jb rS.ok (xr T hb i5 l) hT hr rfl (λpm P=>aa (ae 0 rfl rfl v_) v_ (aa (ae 1 rfl Xi A0.ak) A0.ak ag)) (λe he=>?_) (λx i6 hx vx H4 xq s4 jw r4=>?_) nd
  ·rw[he] at hq;exact λc d H4 s4 x4=>hq c d H4 (lB.trans s4) x4
  rw[hx,My.eZ] at hq;have xi:=lB.trans s4;refine aJ ?_;have Xj:=nh (P:=P) (w:=w) (base:=base) T hb i6;refine af (kT (k:=7) (PE.ev (tD pT pE pE) ((Te.frame (Q:=λd _=>d=decide (cf t="stop")) (bT jw.ne) jw.dj λpm P=>(show Yt (Cx.fw _ pm) _ H4 _ (decide (cf t="stop")) by rw[<-fj];exact dJ (ae 3 rfl rfl v_) a8 rfl) H4 sm).aw λd Hd ⟨H5,e5,xp,s5,q5⟩=>?_)) nd);have q5:d=decide (cf t="stop"):=q5;rw[T3] at q5;have ed:d=false:=by rw[q5];decide
  subst ed e5;have iP:=jw.au rS.ok s5 xp;have zh:=xi.trans s5;show Ev _ _ _ _ _;refine iw rS.ok iP Xj hT hr rfl (λpm P=>aa (ae 0 rfl rfl v_) v_ ag) ?_;cases e6:My.lc b i6 with
  |error e =>
   rw[e6] at hq;exact λc d H6 s6 x6=>hq c d H6 (zh.trans s6) x6
  |ok y =>
  obtain⟨sh,i7⟩:=y;rw[e6,My.eZ] at hq;intro v H6 TU s6 u5 r6;have J4:=zh.trans s6;rw[T3];exact q0 T hb i7 (kd:=.surface x) hr nd hT u5 (Iv.ak _ _ _ J4 hg) (u7.ak _ _ _ (s5.trans s6) r4) r6 (nX (hq.au J4))
 ·rw[if_neg c1] at hq;have T3:¬cf t="surface":=λz=>c1 ((dv gd "surface" d_).mp z);refine af (iu (k:=decide (cf t="surface")) (bT fO.ne) fO.dj (λpm P=>by rw[<-fj];exact dJ (ae 3 rfl rfl v_) a8 rfl) (λh=>absurd (of_decide_eq_true h) T3) (λ_ H2 s2 lx=>?_));have io:=fO.au rS.ok s2 lx;have nU:=s1.trans s2;refine aJ ?_;refine af (kT (k:=7) (PE.ev (tD pT pE pE) ((Te.frame (Q:=λd _=>d=decide (cf t="stop")) (bT io.ne) io.dj λpm P=>(show Yt (Cx.fw _ pm) _ H2 _ (decide (cf t="stop")) by rw[<-fj];exact dJ (ae 3 rfl rfl v_) a8 rfl) H2 sm).aw λd Hd ⟨H5,e5,xp,s5,q5⟩=>?_)) nd);have q5:d=decide (cf t="stop"):=q5;subst e5;have iP:=io.au rS.ok s5 xp;have zh:=nU.trans s5
  by_cases c2:t=My.wd "mirror"
  ·subst c2;rw[if_pos rfl] at hq;have ed:d=false:=by rw[q5];decide
   subst ed;show Ev _ _ _ _ _;have Xj:=nh (P:=P) (w:=w) (base:=base) T hb i;refine iw rS.ok iP Xj hT hr rfl (λpm P=>aa (ae 0 rfl rfl v_) v_ ag) ?_;cases e6:My.lc b i with
   |error e =>
    rw[e6] at hq;exact λc d H6 s6 x6=>hq c d H6 (zh.trans s6) x6
   |ok y =>
   obtain⟨sh,i7⟩:=y;rw[e6,My.eZ] at hq;intro v H6 TU s6 u5 r6;have J4:=zh.trans s6;exact q0 T hb i7 (kd:=.mirror) hr nd hT u5 (Iv.ak _ _ _ J4 hg) rfl r6 (nX (hq.au J4))
  ·rw[if_neg c2] at hq;have c3:t=My.wd "stop":=(ht.resolve_left c1).resolve_left c2;subst c3;have ed:d=true:=by rw[q5];decide
   subst ed;show Ev _ _ _ _ _;refine ww (R:=Sh CS CI ⟨My.ap 0,My.ap 0⟩) (bT iP.ne) iP.dj (λpm P=>eL (Mt T.RS) hr rfl (aa (ah (c7 T.T.N.T 0) hr rfl (aa aH v_ ag)) Iv.ak (aa (ah (c7 T.T.N.T 0) hr rfl (aa aH v_ ag)) Iv.ak ag)) ⟨Iv.ak,Iv.ak,trivial⟩ rfl) λv H6 s6 J3 r6=>?_;have J4:=zh.trans s6;exact q0 T hb i (kd:=.gj) hr nd hT (iP.au rS.ok s6 J3) (Iv.ak _ _ _ J4 hg) rfl r6 (nX (hq.au J4))
end
section
variable{P:Program}{w:World}{K:Frag}{mg:Str->Option Value}{base:Heap}{CI CN NN CG NG CF NF CK CS CP CR CY:Addr}
variable(T:BA K mg CI CN NN CG NG CF NF CK CS CP CR CY){b:List UInt8}(hb:b.length<2^59)(i:Nat)
include T hb in
theorem yO{l:List My.bG}{ns:List (List UInt8)}(Bx:ns.length<=64):fq P w K mg base "read_part" 18 ["reader","glasses","names"] (spQ K CR CK CI CF CP CS b l ns i):=by
 refine T.JZ.Pj λf fd F=>F.Q7 (N:=KG) fR (λvs H Q E ⟨r,dx,n,xv,tv,vg,a4,H0,e,_⟩=>by rw[e];rfl) λbL A ai s H vs Q E X e hr hT hp h=>⟨_,pD,?_⟩
 have nd:(KG:List Str).Nodup:=by decide
 subst e;obtain⟨r,dx,n,xv,tv,vg,a4,H0,rfl,rfl,Rp,Xc,on,Xk,By,hq⟩:=h;have hlen:=By.len;have hd:rn a4 (.ref n) (join H0 (one n (.dT a4))):=⟨n,rfl,bR dq⟩
 have s0:∀{H1:Hp},aM (join H0 (one n (.dT a4))) H1->aM H0 H1:=λs=>(ci Rp).trans s;have gd:=eK b i;have M1:=fY (P:=P) (w:=w) (base:=base) (b:=b) T i ["surface","mirror","stop"];unfold kH at M1;have K3:=YO gd "surface" "mirror" "stop" d_ d_ d_;unfold Kc My.m4 at hq
 by_cases hk:cf (My.tk b i)∈(["surface","mirror","stop"]:List Str)
 rotate_left
 ·rw[if_neg hk] at M1;rw[if_neg λz=>hk (K3.mpr z)] at hq;exact bN (n:=0) on rS.ok T.fK M1 hT hr rfl (λpm P=>aa (cO (vs:=[.str "surface",.str "mirror",.str "stop"]) (aa a8 v_ (aa a8 v_ (aa a8 v_ ag))) d_) gH.ak ag) (λc d H1 s1 x1=>hq c d H1 (s0 s1) x1)
 rw[if_pos hk] at M1;have zS:=K3.mp hk;rw[if_pos zS] at hq;refine bN (n:=0) on rS.ok T.fK M1 hT hr rfl (λpm P=>aa (cO (vs:=[.str "surface",.str "mirror",.str "stop"]) (aa a8 v_ (aa a8 v_ (aa a8 v_ ag))) d_) gH.ak ag) (λ_ H1 pZ s1 fO _=>?_);have V9:=rn.ak _ _ _ s1 hd;refine af (iu (k:=decide (V.int (a4.length:Nat)=V.int 64)) (bT fO.ne) fO.dj (λpm P=>dJ (El rfl T.T.N.len (ae 2 rfl V9 rn.ak)) (bV T.GR rfl) rfl) (λh H2 s2 lx=>?_) (λh H2 s2 lx=>?_))
 ·have h:=V.int.inj (of_decide_eq_true h);rw[if_neg o_] at hq;have io:=fO.au rS.ok s2 lx;exact af (gI (bT io.ne) lx (dz T.T.gZ) hT rfl hr rfl (λpm P=>aa (dL (n:=0) rS.ok io P T.fK T.iB (gc T.T.RK) rfl) v_ (aa (bV T.EU rfl) v_ ag)) ⟨Vi.ak _,Vi.ak _,trivial⟩ rfl (λc d H3 s3 x3=>hq c d H3 (s0 ((s1.trans s2).trans s3)) x3))
 have fS:ns.length<64:=by
  have h:¬((a4.length:Nat):Int)=64:=λz=>of_decide_eq_false h (by rw[z]);omega
 rw[if_pos fS,My.dn] at hq;have io:=fO.au rS.ok s2 lx;have nU:=s1.trans s2;refine aJ ?_;refine af (nz (k:=3) (bT io.ne) io.dj (λpm P=>dL (n:=0) rS.ok io P T.fK T.iB (g4 T.T.RK) rfl) (λvk H3 s3 mQ hv=>?_) nd);obtain rfl:vk=.str (cf (My.tk b i)):=hv;have jb:=io.au rS.ok s3 mQ;have lB:=nU.trans s3;refine jv (n:=0) jb rS.ok T.fK (cU (P:=P) (w:=w) (base:=base) T hb i) hT hr rfl (λe he=>?_) (λi1 hi1 H4 xq s4 jw=>?_)
 ·rw[he] at hq;exact λc d H4 s4 x4=>hq c d H4 (s0 (lB.trans s4)) x4
 rw[hi1] at hq;dsimp only at hq;have xi:=lB.trans s4;have Ro:=rn.ak _ _ _ xi hd;refine ip (n:=4) jw rS.ok (rM T hb i1 By.AZ) hT hr rfl (λpm P=>aa (ae 0 rfl rfl v_) v_ (aa (ae 2 rfl Ro rn.ak) rn.ak ag)) (λe he=>?_) (λnm i2 hn vn H5 Dn s5 iP r5=>?_) nd
 ·rw[he] at hq;exact λc d H5 s5 x5=>hq c d H5 (s0 (xi.trans s5)) x5
 rw[hn,My.eZ] at hq;have zh:=xi.trans s5;have P5:=MV hn;have Of:H5 n=some (.dT a4):=zh _ _ (bR dq);obtain⟨pn,rfl,Xd⟩:=(r5:Oc nm vn H5)
 have Qq:H5 pn=some (.iQ ((nW nm).map kV)):=by rw[EV];exact Xd
 have Xe:gn a4 (nW nm)=none:=by
  have:=By.AZ nm;rw[decide_eq_false P5] at this;cases q:gn a4 (nW nm) with
  |none=>rfl
  |some _=>rw[q] at this;cases this
 have nR:rd CR r dx xv Dn n=none:=iP.dj.SK Of;refine af ((D1 (cx.units hr) (pv 2) (pv 4) RE rfl).do ⟨.ref n,rfl,.ref pn,rfl,n,_,rfl,Fv.t (k:=nW nm) (cW iP.dj Of) (cW iP.dj Qq) (by rw[hlen];exact Nat.lt_of_le_of_lt Bx d_),?_⟩);rw[A1 Xe,kJ nR,pQ (o:=.dT a4)];have sH:aM H0 (mO H5 (one n (.dT a4))):=(di Rp zh).2.2;have dN:Dj (mO H5 (one n (.dT a4))) (one n (.dT (a4++[(nW nm,.bl true)]))):=gi (t5 dq);have X9:Kb (ns++[nm]) (a4++[(nW nm,.bl true)]):=By.snoc;have u5:On (rS K CR CK CI b) r dx xv i2 Dn (join (mO H5 (one n (.dT a4))) (one n (.dT (a4++[(nW nm,.bl true)])))):=by
  refine⟨iP.ne,mJ (λb o e=>?_) (λb o e=>gx λz=>by rw[z,nR] at e;cases e),Tx.ak _ _ _ (sH.trans (ci dN)) Xc,ig.ak _ _ _ (ci dN) (Nd.tok _ _ _ EW.dm (iD Of) iP.tok.1),iP.tok.2⟩;rw[lU (gx λz=>by rw[z,nR] at e;cases e)];exact iP.dj b o e
 generalize hHb:mO H5 (one n (.dT a4))=Hb at *;generalize hkv:a4++[(nW nm,V.bl true)]=Xl at *;have s6:∀{H1:Hp},aM (join Hb (one n (.dT Xl))) H1->aM H0 H1:=λs=>sH.trans ((ci dN).trans s);have M2:=ju (P:=P) (w:=w) (base:=base) T hb i2 "after";rw[show kI CF b i2 ("after":Str)=_ from mG i2 "after" d_] at M2;cases e2:My.dA b (My.wd "after") i2 with
 |error e =>
  rw[e2] at hq M2;exact bN (n:=0) u5 rS.ok T.fK M2 hT hr rfl (λpm P=>aa a8 v_ ag) (λc d H2 s2 x2=>hq c d H2 (s6 s2) x2)
 |ok y =>
 obtain⟨_,i3⟩:=y;rw[e2] at M2;rw[e2,My.eZ] at hq;refine bN (n:=0) u5 rS.ok T.fK M2 hT hr rfl (λpm P=>aa a8 v_ ag) (λ_ H7 Rm s7 J2 _=>?_);refine ip (n:=5) J2 rS.ok (fZ T hb i3) hT hr rfl (λpm P=>aa (ae 0 rfl rfl v_) v_ ag) (λe he=>?_) (λgap i4 hg GW H8 tv8 s8 GU r8=>?_) nd
 ·rw[he] at hq;exact λc d H8 s8 x8=>hq c d H8 (s6 (s7.trans s8)) x8
 rw[hg,My.eZ] at hq;have Xm:=s7.trans s8;refine GX T hb i4 (l:=l) (nm:=nm) (gap:=gap) (t:=My.tk b i) hr nd hT gd zS GU r8 (A0.ak _ _ _ (s6 Xm) Xk) ?_;unfold kK;cases er:My.pB b l nm gap (My.tk b i) i4 with
 |error e =>
  rw[er] at hq;exact λc d H9 s9 x9=>hq c d H9 (s6 (Xm.trans s9)) x9
 |ok y =>
 rw[er] at hq;intro v H9 W1 s9 TV r9;have YS:=Xm.trans s9;obtain⟨e9,W3,sH9⟩:=di dN YS;have e1:y.1.1=nm:=by
  unfold My.pB at er;split at er
  ·unfold My.bd at er;split at er
   ·cases er
   ·(try dsimp only at er)
    split at er
    ·cases er
    ·(try dsimp only at er)
     split at er
     ·cases er
     ·(try dsimp only at er)
      split at er
      ·cases er
      ·cases er;rfl
  ·split at er
   ·unfold My.bd at er;split at er
    ·cases er
    ·(try dsimp only at er)
     split at er
     ·cases er
     ·cases er;rfl
   ·unfold My.bd at er;split at er
    ·cases er
    ·cases er;rfl
 have:=hq v (mO H9 (one n (.dT Xl))) Xl W1 (sH.trans sH9) W3 (by rw[<-e9];exact TV) (by rw[e1];exact X9) (u6.pa _ _ _ EW (iD (YS _ _ (bR dq))) r9);rw[<-e9] at this;exact this
end
def Dq(C r dx:Addr)(fs:List (Str×V)):Hp:=dE (dE (λ_=>none) dx (.own r)) r (.g9 C dx fs)
theorem pR{C r dx:Addr}{fs:List (Str×V)}:Dq C r dx fs r=some (.g9 C dx fs):=aC
theorem ra{C r dx:Addr}{fs:List (Str×V)}(ne:dx≠r):Dq C r dx fs dx=some (.own r):=by unfold Dq;rw[aB ne];exact aC
theorem EY{C r dx b:Addr}{fs:List (Str×V)}(h1:b≠r)(h2:b≠dx):Dq C r dx fs b=none:=by unfold Dq;rw[aB h1,aB h2]
theorem pS{C r dx b:Addr}{fs:List (Str×V)}{o:HO}(h:Dq C r dx fs b=some o):b=r\/b=dx:=by
 by_cases h1:b=r
 ·exact .inl h1
 ·by_cases h2:b=dx
  ·exact .inr h2
  ·rw[EY h1 h2] at h;cases h
theorem Kd{C r dx:Addr}{fs:List (Str×V)}(ne:dx≠r):MOk (Dq C r dx fs) [r,dx]:=by
 refine⟨λb o h=>?_,λb o h=>?_,λb a h=>?_,λa C' Wc fs h=>?_⟩
 ·rcases pS h with rfl |rfl <;> simp
 ·rcases pS h with rfl |rfl
  ·rw[pR] at h;cases h;trivial
  ·rw[ra ne] at h;cases h;trivial
 ·rcases pS h with rfl |rfl
  ·rw[pR] at h;cases h
  ·rw[ra ne] at h;cases h;exact⟨_,_,pR⟩
 ·rcases pS h with rfl |rfl
  ·rw[pR] at h;cases h;exact ra ne
  ·rw[ra ne] at h;cases h
theorem EZ{C r dx:Addr}{fs Ho:List (Str×V)}{H:Hp}:dE (join H (Dq C r dx fs)) r (.g9 C dx Ho)=join H (Dq C r dx Ho):=by
 funext b
 by_cases h:b=r
 ·subst h;rw[aC,bR pR]
 ·rw[aB h];unfold join Dq;rw[aB h,aB h]
theorem MW{C r dx:Addr}{H:Hp}(ne:dx≠r)(h1:H r=none)(h2:H dx=none):dE (dE H dx (.own r)) r (.g9 C dx [])=join H (Dq C r dx []):=by
 funext b
 by_cases q1:b=r
 ·subst q1;rw[aC,bR pR]
 ·rw[aB q1]
  by_cases q2:b=dx
  ·subst q2;rw[aC,bR (ra ne)]
  ·rw[aB q2,dU (EY q1 q2)]
theorem Dr{C r dx:Addr}{fs:List (Str×V)}{H:Hp}(h1:H r=none)(h2:H dx=none):Dj H (Dq C r dx fs):=λb o h=>by
 rcases pS h with rfl |rfl
 ·exact h1
 ·exact h2
theorem Ke{C r dx:Addr}{xv tv:V}:Dq C r dx (gk "token" tv (gk "text" xv []))=rd C r dx xv tv:=rfl
section
variable{P:Program}{w:World}{K:Frag}{mg:Str->Option Value}{base:Heap}{CI CN NN CG NG CF NF CK CS CP CR CY:Addr}
def Kf(K:Frag)(CR CK CI CF:Addr)(b:List UInt8)(r dx:Addr)(xv:V)(H:Hp)(Q:VK)(E:XK):Prop :=
 if My.tk b 0=.broken then ∀c d H1,aM H H1->rW CF 1 (My.pl b 0) c d H1->E c d H1
 else ∀H1 tv,aM H H1->On (rS K CR CK CI b) r dx xv 0 tv H1->Q .dH (join H1 (rd CR r dx xv tv))
def spI(K:Frag)(CR CK CI CF:Addr)(b:List UInt8):Sp:=λvs Hf Q E=>∃r dx xv H,vs=[.ref r,xv]/\dx≠r/\H r=none/\H dx=none/\Hf=dE (dE H dx (.own r)) r (.g9 CR dx [])/\Tx K b xv H/\Kf K CR CK CI CF b r dx xv H Q E
variable(T:BA K mg CI CN NN CG NG CF NF CK CS CP CR CY){b:List UInt8}(hb:b.length<2^59)
include T hb in
theorem MX{f:Addr}{fd:FuncData}{q:Str}(F:rg K "__init__" q (fQ (top 95) 0) f fd):g5 P w K mg base (rh P w) 8 f fd ["self","text"] (spI K CR CK CI CF b):=by
 refine F.Q7 (N:=["self","text"]) fR (λvs H Q E ⟨r,dx,xv,H0,e,_⟩=>by rw[e];rfl) λbL A ai s Hf vs Q E X e hr hT hp h=>⟨_,pD,?_⟩
 subst e;obtain⟨r,dx,xv,H,rfl,ne,h1,h2,eH,tx,hq⟩:=h;rw[MW ne h1 h2] at eH;subst eH;have Rp:Dj H (Dq CR r dx []):=Dr h1 h2;refine af (cK (i:=1) (j:=0) rfl rfl (bR pR) T.fK T.Qk d_ ?_);rw[EZ];have ir:Dj H (Dq CR r dx (gk "text" xv [])):=Dr h1 h2;have C:=AQ (P:=P) (w:=w) (base:=base) T.T b 0 (Nat.zero_le _) hb;rw[AU] at C;unfold uR at C;unfold Kf at hq;have hl:(gk ("text":Str) xv []).length<1000:=by
  have h1:=fU ("text":Str) xv [];rw[List.length_nil] at h1;omega
 refine af ((BM (pv 0) pE rfl).do ?_)
 by_cases z:My.tk b 0=.broken
 ·rw[if_pos z] at hq C;exact Ek (Kd ne) ir rW.ak (λpm P=>dS C rfl (hT.fw P) hr rfl (aa (ae 1 rfl tx Tx.ak) Tx.ak (aa aH v_ ag))) hq
 ·rw[if_neg z] at hq C;refine ww (Kd ne) ir (λpm P=>jH C rfl hr rfl (aa (ae 1 rfl tx Tx.ak) Tx.ak (aa aH v_ ag))) λv H1 s1 lx r1=>?_;refine⟨.ref r,rfl,r,CR,dx,_,rfl,bR pR,T.fK,T.iB,hl,?_⟩;rw[EZ,Ke];refine aJ (hq H1 v s1 ⟨ne,?_,Tx.ak _ _ _ s1 tx,r1,Nat.zero_le _,z⟩);rw[<-Ke];exact Dr (lx _ _ pR) (lx _ _ (ra ne))
end
section
variable{P:Program}{w:World}{K:Frag}{mg:Str->Option Value}{base:Heap}{CI CN NN CG NG CF NF CK CS CP CR CY:Addr}
theorem E1{X:Cx}{σ:L2.St}{H:Hp}{Q:VK}{E:XK}{j k:Nat}{ps:List Str}{sp:Sp}{x:Str}{p pos:Pos}{e:Expr}{es:List Expr}(F:fq X.prog X.w X.K X.mg X.base x k ps sp)(hT:iF X E)(hr:cx j X.A)(hg:Gl X x)(ha:Ar X (e::es) σ H λvs H1=>sp vs H1 Q E)(jX:k<=j:=by decide)(hex:X.ex=[]:=by rfl)
  (kf:(x == ("__debug__":Str))=false:=by decide)(he:starEach (e::es) X.env=(false,eval e X.env)::starEach es X.env:=by rfl)(d9:(backTo pos (starEach es X.env)).any (·.1)=false:=by rfl):Ev X (.Call (.Name x p) (e::es) [] pos) σ H Q:=by
 obtain⟨_,_,f,m,kp,b⟩:=F;exact(jB f (hr.aw jX) hg m kp b .nil (hT.passes hex) pA kf he d9).ev (ha.aw λvs H1 q=>by rw[List.append_nil];exact q)
structure GS(K:Frag)(CR CK CI:Addr)(b:List UInt8)(Hs:Hp)(r dx g:Addr)(xv:V)(l:List My.bG)(i:Nat)(tv:V)(a4:List (List fo×V))(H:Hp):Prop where
 dj:Dj H (one g (.dT a4))
 on:On (rS K CR CK CI b) r dx xv i tv (join H (one g (.dT a4)))
 gl:sV CI l a4 H
 s:aM Hs H
 tx:Tx K b xv H
theorem GS.au{b:List UInt8}{Hs H H':Hp}{r dx g:Addr}{xv tv:V}{l:List My.bG}{i:Nat}{a4:List (List fo×V)}(h:GS K CR CK CI b Hs r dx g xv l i tv a4 H)(s:aM (join H (one g (.dT a4))) H')(dj:Dj H' (rd CR r dx xv tv)):∃H1,H'=join H1 (one g (.dT a4))/\GS K CR CK CI b Hs r dx g xv l i tv a4 H1:=by
 obtain⟨e,d,s1⟩:=di h.dj s;refine⟨_,e,d,?_,h.gl.ak s1,h.s.trans s1,Tx.ak _ _ _ s1 h.tx⟩;rw[<-e];exact h.on.au rS.ok s dj
variable(T:BA K mg CI CN NN CG NG CF NF CK CS CP CR CY){b:List UInt8}(hb:b.length<2^59)
abbrev Ds:List Str:=["text","reader","glasses","medium","names","parts"]
include T hb in
theorem GY{f:Addr}{bL:Value}{A:Around}{ai:List Env}{s:Shared}{HH Hs H:Hp}{E:XK}{D:cT}{r dx g:Addr}{xv tv:V}{a4:List (List fo×V)}{i:Nat}{fu:Nat}{l:List My.bG}(hr:cx 20 (lw P w K mg base Ds "read_system" (ax (top 106)) f bL A ai s HH E).A)(hT:iF (lw P w K mg base Ds "read_system" (ax (top 106)) f bL A ai s HH E) E)
  (hp:PassesOwn (model P w) (lw P w K mg base Ds "read_system" (ax (top 106)) f bL A ai s HH E).A (lw P w K mg base Ds "read_system" (ax (top 106)) f bL A ai s HH E).env (lw P w K mg base Ds "read_system" (ax (top 106)) f bL A ai s HH E).xe)
  (hg:GS K CR CK CI b Hs r dx g xv l i tv a4 H)(hl:l.length<=64)(hf:65<=l.length+fu)
  (he:∀e,My.fh b fu l i=.error e->∀c d H1,aM Hs H1->rW CF e.1 e.2 c d H1->E c d H1)
  (hq:∀l' i' rb wr H',My.fh b fu l i=.ok (l',i')->GS K CR CK CI b Hs r dx g xv l' i' wr rb H'->D.nx [some xv,some (.ref r),some (.ref g),none,none,none] (join (join H' (one g (.dT rb))) (rd CR r dx xv wr))) :
  jk (lw P w K mg base Ds "read_system" (ax (top 106)) f bL A ai s HH E) ((cq (top 106)).getD 3 (.Pass ⟨0,0,0,0⟩)) D [some xv,some (.ref r),some (.ref g),none,none,none] (join (join H (one g (.dT a4))) (rd CR r dx xv tv)):=by
 refine iq hp (λm σ Hf=>∃l' i' rb wr H',σ=[some xv,some (.ref r),some (.ref g),none,none,none]/\Hf=join (join H' (one g (.dT rb))) (rd CR r dx xv wr)/\GS K CR CK CI b Hs r dx g xv l' i' wr rb H'/\l'.length<=64/\65<=l'.length+m/\My.fh b m l' i'=My.fh b fu l i) fu ⟨l,i,a4,tv,H,rfl,rfl,hg,hl,hf,rfl⟩ ?_;rintro m σ Hf ⟨l1,i1,Og,pZ,H1,rfl,rfl,g1,Pe,Kg,e1⟩;refine(Te.frame (Q:=λd _=>d=decide (cf (My.tk b i1)="glass")) (bT g1.on.ne) g1.on.dj λpm P=>(show Yt (Cx.fw _ pm) _ (join H1 (one g (.dT Og))) _ (decide (cf (My.tk b i1)="glass")) by rw[<-fj];exact dJ (dL (n:=1) rS.ok g1.on P T.fK T.iB (g4 T.T.RK) rfl) a8 rfl) _ sm).aw λd Hd ⟨H2,e2,lx,s2,q2⟩=>?_;have q2:d=decide (cf (My.tk b i1)="glass"):=q2;subst e2;obtain⟨Rq,rfl,g2⟩:=g1.au s2 lx
 by_cases c:My.tk b i1=My.wd "glass"
 ·have ed:d=true:=by rw[q2,(dv (eK b i1) "glass" d_).mpr c];decide
  subst ed;rw[if_pos rfl]
  match m,Kg,e1 with
  |0,Kg,_=>omega
  |m+1,Kg,e1 =>
  have MY:My.fh b (m+1) l1 i1=My.bd (My.ie b l1 i1) λg' j=>My.fh b m (l1++[g']) j:=by
   rw[My.fh,if_pos c]
  refine af (eD (E1 (vL (P:=P) (w:=w) (base:=base) T hb i1 Pe) hT hr rfl ((Ar.frame (Q:=iE [Vi (.ref r),Vi (.ref g)]) (bT g2.on.ne) g2.on.dj λpm P=>(aa (ae 1 rfl rfl v_) v_ (aa (ae 2 rfl rfl v_) v_ ag)) _ sm).aw λvs Hv ⟨H3,e3,mQ,s3,a3⟩=>?_)));subst e3;obtain⟨UY,rfl,g3⟩:=g2.au s3 mQ;obtain⟨_,_,rfl,rfl,rfl⟩:=lT a3;refine⟨r,dx,g,xv,pZ,Og,UY,rfl,rfl,g3.dj,g3.tx,g3.on,g3.gl,?_⟩;unfold Ka;cases eg:My.ie b l1 i1 with
  |error e =>
   rw[eg] at MY;exact λc d H4 s4 x4=>he e (by rw[<-e1,MY];rfl) c d H4 (g3.s.trans s4) x4
  |ok y =>
   obtain⟨g',j⟩:=y;rw[eg,My.eZ] at MY;intro H4 KH xq s4 sU jw gl4;have UZ:=My.uC eg;exact aJ ⟨m,Nat.lt_succ_self m,l1++[g'],j,KH,xq,H4,rfl,rfl,⟨sU,jw,gl4,g3.s.trans s4,Tx.ak _ _ _ s4 g3.tx⟩,by rw[List.length_append,List.length_singleton];omega,by rw[List.length_append,List.length_singleton];omega,by rw[<-e1,MY]⟩
 ·have ed:d=false:=by rw[q2,decide_eq_false λz=>c ((dv (eK b i1) "glass" d_).mp z)]
  subst ed;rw[if_neg d_];refine hq l1 i1 Og pZ Rq ?_ g2;rw[<-e1]
  match m,Kg with
  |0,Kg=>omega
  |m+1,_=>rw[My.fh,if_neg c]
end
theorem A2{pp:Addr}{vs:List V}:LS (one pp (.de vs)) [pp] where
 NR:=λb o e=>by rw[(iY e).1];simp
 UK:=λb o e=>by rw[(iY e).2];trivial
 own:=λb a e=>by have:=(iY e).2;cases this
 g9:=λa C dx fs e=>by have:=(iY e).2;cases this
 Pz:=λb o e=>by rw[(iY e).2];trivial
theorem MZ{H:Hp}{pp:Addr}{o u:HO}:dE (join H (one pp o)) pp u=join H (one pp u):=by
 funext b
 by_cases q:b=pp
 ·subst q;rw[aC,bR dq]
 ·rw[aB q,dU (gx q),dU (gx q)]
theorem M0{H:Hp}{pp:Addr}{o u:HO}(h:Dj H (one pp o)):Dj H (one pp u):=gi (h _ _ dq)
section
variable{P:Program}{w:World}{K:Frag}{mg:Str->Option Value}{base:Heap}{CI CN NN CG NG CF NF CK CS CP CR CY:Addr}
def T4(CP CS CI:Addr)(q:My.bB):Rv:=Pa CP CS CI q.2
theorem jS{CP CS CI:Addr}:∀ps:List My.bB,jl (ps.map (T4 CP CS CI))
 |[]=>trivial
 |_::ps=>⟨Pa.ak,jS ps⟩
structure GP(K:Frag)(CR CK CI CP CS:Addr)(b:List UInt8)(Hs:Hp)(r dx n:Addr)(xv:V)(ps:List My.bB)(i:Nat)(tv:V)(a4:List (List fo×V))(vs:List V)(H:Hp):Prop where
 dj:Dj H (one n (.dT a4))
 on:On (rS K CR CK CI b) r dx xv i tv (join H (one n (.dT a4)))
 nm:Kb (ps.map (·.1)) a4
 ar:iE (ps.map (T4 CP CS CI)) vs H
 s:aM Hs H
 tx:Tx K b xv H
theorem GP.au{b:List UInt8}{Hs H H':Hp}{r dx n:Addr}{xv tv:V}{ps:List My.bB}{i:Nat}{a4:List (List fo×V)}{vs:List V}(h:GP K CR CK CI CP CS b Hs r dx n xv ps i tv a4 vs H)(s:aM (join H (one n (.dT a4))) H')(dj:Dj H' (rd CR r dx xv tv)):∃H1,H'=join H1 (one n (.dT a4))/\GP K CR CK CI CP CS b Hs r dx n xv ps i tv a4 vs H1:=by
 obtain⟨e,d,s1⟩:=di h.dj s;refine⟨_,e,d,?_,h.nm,h.ar.au (jS _) s1,h.s.trans s1,Tx.ak _ _ _ s1 h.tx⟩;rw[<-e];exact h.on.au rS.ok s dj
variable(T:BA K mg CI CN NN CG NG CF NF CK CS CP CR CY){b:List UInt8}(hb:b.length<2^59)
include T hb in
theorem GZ{f:Addr}{bL:Value}{A:Around}{ai:List Env}{s:Shared}{HH Hs H:Hp}{E:XK}{D:cT}{r dx n pp:Addr}{xv tv vg vm:V}{a4:List (List fo×V)}{vs:List V}{i:Nat}{fu:Nat}{l:List My.bG}{ps:List My.bB}(hr:cx 20 (lw P w K mg base Ds "read_system" (ax (top 106)) f bL A ai s HH E).A)(hT:iF (lw P w K mg base Ds "read_system" (ax (top 106)) f bL A ai s HH E) E)
  (hp:PassesOwn (model P w) (lw P w K mg base Ds "read_system" (ax (top 106)) f bL A ai s HH E).A (lw P w K mg base Ds "read_system" (ax (top 106)) f bL A ai s HH E).env (lw P w K mg base Ds "read_system" (ax (top 106)) f bL A ai s HH E).xe)
  (vF:A0 CI l vg Hs)(hg:GP K CR CK CI CP CS b Hs r dx n xv ps i tv a4 vs H)(hdp:Dj (join (join H (one n (.dT a4))) (rd CR r dx xv tv)) (one pp (.de vs)))(hl:ps.length<=64)(hf:65<=ps.length+fu)
  (he:∀e,My.fN b l fu ps i=.error e->∀c d H1,aM Hs H1->rW CF e.1 e.2 c d H1->E c d H1)
  (hq:∀Qr i' rb wr Qs H',My.fN b l fu ps i=.ok (Qr,i')->GP K CR CK CI CP CS b Hs r dx n xv Qr i' wr rb Qs H'->Dj (join (join H' (one n (.dT rb))) (rd CR r dx xv wr)) (one pp (.de Qs))->D.nx [some xv,some (.ref r),some vg,some vm,some (.ref n),some (.ref pp)] (join (join (join H' (one n (.dT rb))) (rd CR r dx xv wr)) (one pp (.de Qs)))) :
  jk (lw P w K mg base Ds "read_system" (ax (top 106)) f bL A ai s HH E) ((cq (top 106)).getD 9 (.Pass ⟨0,0,0,0⟩)) D [some xv,some (.ref r),some vg,some vm,some (.ref n),some (.ref pp)] (join (join (join H (one n (.dT a4))) (rd CR r dx xv tv)) (one pp (.de vs))):=by
 refine iq hp (λm σ Hf=>∃Qr i' rb wr Qs H',σ=[some xv,some (.ref r),some vg,some vm,some (.ref n),some (.ref pp)]/\Hf=join (join (join H' (one n (.dT rb))) (rd CR r dx xv wr)) (one pp (.de Qs))/\GP K CR CK CI CP CS b Hs r dx n xv Qr i' wr rb Qs H'/\Dj (join (join H' (one n (.dT rb))) (rd CR r dx xv wr)) (one pp (.de Qs))/\Qr.length<=64/\65<=Qr.length+m/\My.fN b l m Qr i'=My.fN b l fu ps i) fu ⟨ps,i,a4,tv,vs,H,rfl,rfl,hg,hdp,hl,hf,rfl⟩ ?_;rintro m σ Hf ⟨p1,i1,Og,pZ,T5,H1,rfl,rfl,g1,d1,Pe,Kg,e1⟩;refine(Te.B9 A2 d1 λpm1 P1=>(Te.frame (X:=Cx.fw (lw P w K mg base Ds "read_system" (ax (top 106)) f bL A ai s HH E) pm1) (Q:=λd _=>d=!decide (cf (My.tk b i1)="end")) (bT g1.on.ne) g1.on.dj λpm P=>(show Yt (Cx.fw _ pm) _ (join H1 (one n (.dT Og))) _ (!decide (cf (My.tk b i1)="end")) by rw[<-fj];exact rk (dL (n:=1) rS.ok g1.on P T.fK T.iB (g4 T.T.RK) rfl) a8 rfl) _ sm)).aw λd Hd ⟨Ha,ea,da,H2,e2,lx,s2,q2⟩=>?_;have q2:d=!decide (cf (My.tk b i1)="end"):=q2;subst ea e2;obtain⟨Rq,rfl,g2⟩:=g1.au s2 lx;have ke:=Qj (eK b i1) g1.on.tok.2.on
 by_cases c:My.tk b i1=.end_
 ·have ed:d=false:=by rw[q2,ke.mpr c];decide
  subst ed;rw[if_neg d_];refine hq p1 i1 Og pZ T5 Rq ?_ g2 da;rw[<-e1]
  match m,Kg with
  |0,Kg=>omega
  |m+1,_=>rw[My.fN,if_pos c]
 ·have ed:d=true:=by rw[q2,decide_eq_false λz=>c (ke.mp z)];rfl
  subst ed;rw[if_pos rfl]
  match m,Kg,e1 with
  |0,Kg,_=>omega
  |m+1,Kg,e1 =>
  have MY:My.fN b l (m+1) p1 i1=My.bd (My.m4 b l (p1.map (·.1)) i1) λq j=>My.fN b l m (p1++[q]) j:=by
   rw[My.fN,if_neg c]
  have hlv:T5.length=p1.length:=by rw[g2.ar.len,List.length_map]
  refine af (eD (PE.ev (HY PySem.F.plainAttrs_list PySem.F.slot_list_append PySem.F.type_list_append Ft (pv 5) (bI pE cV)) ⟨.ref pp,rfl,.inl ⟨rfl,T5,.of (bR dq)⟩,(Ev.B9 (Q:=λv H3=>∃q j KH xq H4,My.m4 b l (p1.map (·.1)) i1=.ok (q,j)/\H3=join (join H4 (one n (.dT KH))) (rd CR r dx xv xq)/\aM Rq H4/\Dj H4 (one n (.dT KH))/\On (rS K CR CK CI b) r dx xv j xq (join H4 (one n (.dT KH)))/\Kb (p1.map (·.1)++[q.1]) KH/\Pa CP CS CI q.2 v H4) A2 da λpm P1 =>
   E1 (X:=Cx.fw (lw P w K mg base Ds "read_system" (ax (top 106)) f bL A ai s HH E) pm) (yO (P:=P) (w:=w) (base:=base) T hb i1 (l:=l) (ns:=p1.map (·.1)) (by rw[List.length_map];exact Pe)) (hT.Wn P1) hr rfl ((Ar.frame (Q:=iE [Vi (.ref r),Vi vg,Vi (.ref n)]) (bT g2.on.ne) g2.on.dj λpm P=>(aa (ae 1 rfl rfl v_) v_ (aa (ae 2 rfl rfl v_) v_ (aa (ae 4 rfl rfl v_) v_ ag))) _ sm).aw λws Hv ⟨H3,e3,mQ,s3,a3⟩=>?_)).aw λv Hv ⟨H3,e3,mQ,q,j,KH,xq,H4,ep,e4,s4,sU,jw,Xn,Xo⟩=>?_⟩))
  ·subst e3;obtain⟨UY,rfl,g3⟩:=g2.au s3 mQ;obtain⟨w1,w2,w3,rfl,rfl,q2,rfl⟩:=IJ a3;have q2:w2=vg:=q2;have sH:aM Rq UY:=by
    obtain⟨e,d,s1⟩:=di g2.dj s3;intro b o e';have:=s1 b o e';rw[<-e] at *;have hb:one n (.dT Og) b=none:=g2.dj.SK e';rw[lU hb] at this;rw[dU hb] at this;exact this
   refine⟨r,dx,n,xv,pZ,w2,Og,UY,rfl,rfl,g3.dj,g3.tx,g3.on,by rw[q2];exact A0.ak _ _ _ g3.s vF,g3.nm,?_⟩;unfold Kc;cases eg:My.m4 b l (p1.map (·.1)) i1 with
   |error e =>
    rw[eg] at MY;exact λc d H4 s4 x4 sU=>he e (by rw[<-e1,MY];rfl) c d _ ((g3.s.trans s4).trans (ci sU)) (rW.ak _ _ _ _ (ci sU) x4)
   |ok y =>
    obtain⟨q,j⟩:=y;intro v H4 KH xq s4 sU jw Xn Xo;exact⟨q,j,KH,xq,H4,rfl,rfl,sH.trans s4,sU,jw,Xn,Xo⟩
  ·subst e3 e4;rw[ep,My.eZ] at MY;have YT:=My.qP ep;rw[List.length_map] at YT;refine⟨pp,T5,v,rfl,rfl,bR dq,by rw[hlv];exact Nat.lt_of_lt_of_le YT d_,aJ ⟨m,Nat.lt_succ_self m,p1++[q],j,KH,xq,T5++[v],H4,rfl,MZ,⟨sU,jw,?_,?_,g2.s.trans s4,Tx.ak _ _ _ s4 g2.tx⟩,M0 mQ,by rw[List.length_append,List.length_singleton];omega,by rw[List.length_append,List.length_singleton];omega,by rw[<-e1,MY]⟩⟩
   ·rw[List.map_append];exact Xn
   ·rw[List.map_append];exact iE.snoc (g2.ar.au (jS _) s4) Xo
end
section
variable{P:Program}{w:World}{K:Frag}{mg:Str->Option Value}{base:Heap}{CI CN NN CG NG CF NF CK CS CP CR CY:Addr}
def yP(CY CI CP CS:Addr)(y:List My.be×List My.bB):Rv:=dG CY nY [u7 CI y.1,z0 (y.2.map (T4 CP CS CI))]
theorem yP.ak{y:List My.be×List My.bB}:Mon (yP CY CI CP CS y):=dG.ak ⟨u7.ak,Mon.ls (jS _),trivial⟩
def Xp(CF CY CI CP CS:Addr)(m:Except Ln.Text.Fault (List My.be×List My.bB)):Except Ex Rv:=match m with
 |.error e=>.error (rW CF e.1 e.2)
 |.ok y=>.ok (yP CY CI CP CS y)
variable(T:BA K mg CI CN NN CG NG CF NF CK CS CP CR CY){b:List UInt8}(hb:b.length<2^59)
include T hb in
theorem uV:fq P w K mg base "read_system" 21 ["text"] (pY [Tx K b] (Xp CF CY CI CP CS (My.gX b))):=by
 refine T.Dm.xQ (N:=Ds) fR rfl λf bL A ai s H vs Q E X e hr nd hT hp ha hq=>?_;subst e;obtain⟨vt,rfl,tx⟩:=lS ha;obtain⟨fi,fdi,qi,mk,Fi,bi⟩:=T.TM;refine af (kT (k:=1) (PE.ev (si mk (MX (P:=P) (w:=w) (base:=base) T hb Fi) (hr.aw d_) rfl T.rmg bi .nil (hT.passes rfl) (bI (pv 0) cV)) ⟨vt,rfl,λr dx nr ndx ne=>?_⟩) nd);refine⟨r,dx,vt,H,rfl,ne,nr,ndx,rfl,tx,?_⟩;unfold Kf;unfold My.gX at hq
 by_cases z:My.tk b 0=.broken
 ·rw[if_pos z];rw[if_pos z] at hq;exact hq
 rw[if_neg z];rw[if_neg z] at hq;intro H1 pZ s1 fO;refine⟨rfl,?_⟩;refine af (kT (k:=2) (PE.ev zJ λg hg=>?_) nd);obtain⟨YU,Xq⟩:=cI hg;rw[kJ YU,mI Xq];have ir:Dj (join H1 (one g (.dT []))) (rd CR r dx vt pZ):=mJ fO.dj λb o e=>gx λy=>by rw[y,YU] at e;cases e
 have g1:GS K CR CK CI b H r dx g vt [] 0 pZ [] H1:=⟨gi Xq,fO.au rS.ok (ci (gi Xq)) ir,trivial,s1,fO.tx⟩
 have M1:=fY (P:=P) (w:=w) (base:=base) (b:=b) T 0 ["glass"];unfold kH at M1;have kg:cf (My.tk b 0)=("glass":Str)↔My.tk b 0=My.wd "glass":=dv (eK b 0) "glass" d_
 by_cases c:My.tk b 0=My.wd "glass"
 rotate_left
 ·rw[if_neg λy=>c (kg.mp (List.mem_singleton.mp y))] at M1;rw[if_neg c] at hq;exact bN (n:=1) g1.on rS.ok T.fK M1 hT hr rfl (λpm P=>aa (cO (vs:=[.str "glass"]) (aa a8 v_ ag) d_) gH.ak ag) (λc d H2 s2 x2=>hq c d H2 (s1.trans ((ci g1.dj).trans s2)) x2)
 rw[if_pos (List.mem_singleton.mpr (kg.mpr c))] at M1;rw[if_pos c] at hq;refine bN (n:=1) g1.on rS.ok T.fK M1 hT hr rfl (λpm P=>aa (cO (vs:=[.str "glass"]) (aa a8 v_ ag) d_) gH.ak ag) (λ_ H2 J0 s2 io _=>?_);obtain⟨e2,d2,YV⟩:=di g1.dj s2;have g2:GS K CR CK CI b H r dx g vt [] 0 J0 [] (mO H2 (one g (.dT []))):=⟨d2,by rw[<-e2];exact io,trivial,s1.trans YV,Tx.ak _ _ _ YV fO.tx⟩
 rw[e2];clear e2 s2;generalize mO H2 (one g (.dT []))=Rq at *;refine af (GY T hb (fu:=65539) hr hT hp g2 (Nat.zero_le _) d_ (λe he=>?_) (λl i a4 tv H3 vF g3=>?_))
 ·rw[he] at hq;exact hq
 rw[vF,My.eZ] at hq;have jb:=g3.on;have YW:aM H (join H3 (one g (.dT a4))):=g3.s.trans (ci g3.dj);have hd3:A0 CI l (.ref g) (join H3 (one g (.dT a4))):=⟨a4,⟨g,rfl,bR dq⟩,g3.gl.ak (ci g3.dj)⟩
 generalize join H3 (one g (.dT a4))=Hs at *;have M2:=ju (P:=P) (w:=w) (base:=base) T hb i "start";rw[show kI CF b i ("start":Str)=_ from mG i "start" d_] at M2;cases e4:My.dA b (My.wd "start") i with
 |error e =>
  rw[e4] at hq M2;exact bN (n:=1) jb rS.ok T.fK M2 hT hr rfl (λpm P=>aa a8 v_ ag) (λc d H4 s4 x4=>hq c d H4 (YW.trans s4) x4)
 |ok y =>
 obtain⟨_,i2⟩:=y;rw[e4] at M2;rw[e4,My.eZ] at hq;refine bN (n:=1) jb rS.ok T.fK M2 hT hr rfl (λpm P=>aa a8 v_ ag) (λ_ H4 xq s4 jw _=>?_);have T6:=YW.trans s4;have Ro:=A0.ak _ _ _ s4 hd3;refine ip (n:=3) jw rS.ok (xr T hb i2 l) hT hr rfl (λpm P=>aa (ae 1 rfl rfl v_) v_ (aa (ae 2 rfl Ro A0.ak) A0.ak ag)) (λe he=>?_) (λx i3 hx vx H5 Dn s5 iP r5=>?_) nd
 ·rw[he] at hq;exact λc d H5 s5 x5=>hq c d H5 (T6.trans s5) x5
 rw[hx,My.eZ] at hq;have YX:=T6.trans s5;have hd5:=A0.ak _ _ _ s5 Ro;have M3:=ju (P:=P) (w:=w) (base:=base) T hb i3 ";";rw[show kI CF b i3 (";":Str)=_ from qY i3 59] at M3;cases e6:My.dA b (.mark 59) i3 with
 |error e =>
  rw[e6] at hq M3;exact bN (n:=1) iP rS.ok T.fK M3 hT hr rfl (λpm P=>aa a8 v_ ag) (λc d H6 s6 x6=>hq c d H6 (YX.trans s6) x6)
 |ok y =>
 obtain⟨_,i4⟩:=y;rw[e6] at M3;rw[e6,My.eZ] at hq;refine bN (n:=1) iP rS.ok T.fK M3 hT hr rfl (λpm P=>aa a8 v_ ag) (λ_ H6 TU s6 u5 _=>?_);have YY:=YX.trans s6;have hd6:=A0.ak _ _ _ s6 hd5;have r6:=u7.ak _ _ _ s6 r5;refine af (kT (k:=4) (PE.ev zJ λn hn=>?_) nd);obtain⟨YZ,Xr⟩:=cI hn;rw[kJ YZ,mI Xr];have J3:Dj (join H6 (one n (.dT []))) (rd CR r dx vt TU):=mJ u5.dj λb o e=>gx λy=>by rw[y,YZ] at e;cases e
 have g6:GP K CR CK CI CP CS b H6 r dx n vt [] i4 TU [] [] H6:=⟨gi Xr,u5.au rS.ok (ci (gi Xr)) J3,Kb.nil,trivial,sm,u5.tx⟩
 refine af (kT (k:=5) (PE.ev (xE cV) ⟨Nat.zero_le _,λpp su=>?_⟩) nd);rw[mI su];refine af (GZ T hb (fu:=65538) (l:=l) hr hT hp hd6 g6 (gi su) (Nat.zero_le _) d_ (λe he=>?_) (λps i5 Xs Rm U0 H7 Sr g7 d7=>?_))
 ·rw[he] at hq;exact λc d H7 s7 x7=>hq c d H7 (YY.trans s7) x7
 rw[Sr,My.eZ] at hq;have sF:aM H7 (join (join (join H7 (one n (.dT Xs))) (rd CR r dx vt Rm)) (one pp (.de U0))):=(ci g7.dj).trans ((ci g7.on.dj).trans (ci d7));have hm:u7 CI x vx (join (join (join H7 (one n (.dT Xs))) (rd CR r dx vt Rm)) (one pp (.de U0))):=u7.ak _ _ _ (g7.s.trans sF) r6;have hpL:z0 (ps.map (T4 CP CS CI)) (.ref pp) (join (join (join H7 (one n (.dT Xs))) (rd CR r dx vt Rm)) (one pp (.de U0))):=⟨pp,U0,rfl,bR dq,g7.ar.au (jS _) sF⟩
 exact af (aE (eL (WA T.RY) hr rfl (aa (ae 3 rfl hm u7.ak) u7.ak (aa (ae 5 rfl hpL (Mon.ls (jS _))) (Mon.ls (jS _)) ag)) ⟨u7.ak,Mon.ls (jS _),trivial⟩ rfl) λv H8 s8 r8=>hq v H8 (YY.trans ((g7.s.trans sF).trans s8)) r8)
end
section
variable{P:Program}{w:World}{K:Frag}{mg:Str->Option Value}{base:Heap}{CI CT CL CS CP CX NX CN NN CG NG:Addr}
def Qt(CI CN:Addr):Option (List My.be)->Except Ex Rv
 |some xs=>.ok (u7 CI xs)
 |none=>.error (IH CN)
theorem Qu{X:Cx}{e:Expr}{α:Type}{t:α->TE}(h:∀a,PE X e (t a)):PE X e (λσ H Q=>∃a,t a σ H Q):=λpins s σ H Q I ⟨a,q⟩=>h a pins s σ H Q I q
theorem E2{Rs:List Rv}{vs:List V}{H:Hp}(h:iE Rs vs H){k:Nat}{v:V}(e:vs[k]?=some v):∃R,Rs[k]?=some R/\R v H:=by
 induction k generalizing Rs vs with
 |zero =>
  match Rs,vs,h with
  |R::Rs,u::vs,h =>
   have:u=v:=Option.some.inj e;subst this;exact⟨R,rfl,h.1⟩
  |[],[],_=>cases e
 |succ k ih =>
  match Rs,vs,h with
  |R::Rs,u::vs,h=>exact ih h.2 e
  |[],[],_=>cases e
variable(G:pH P base)(T:Td K mg CI CT CL CS CP CX NX CN NN CG NG)
include G T in
theorem Kh{X:Cx}{σ:L2.St}{H:Hp}{E:XK}{Q:VK}{j:Nat}{scope:Scope}{bs:List (List UInt8)}{vl:V}{p1 p2 p3 p4 p5 pos:Pos}(hP:X.prog=P)(hw:X.w=w)(hK:X.K=K)(hmg:X.mg=mg)(hB:X.base=base)(hT:iF X E)(j9:X.stack=X.env::X.ai/\X.env.frame=some X.env.locals)(hex:X.ex=[])(hc:X.gB=true)(hN:X.N.Nodup)(hr:cx j X.A)
  (Rb:σ[3]?=some (some vl))(hlen:4<σ.length)(Q6:X.N[3]?=some ("numbers":Str))(Y0:X.N[4]?=some ("text":Str))(ok:mS X.N X.env.scope scope [("text",4)])(UZ:bs.length<=1000)
  (hl:z0 (bs.map (Tx K)) vl H)(hq:z3 (Qt CI CN (My.ly bs)) H Q E)(jX:34<=j:=by decide)
  (GV:∀cl C,(compEnvC scope cl C X.env).scope.names.lookup ("text":Str)=some .local:=by intro _ _;rfl)(hv3:uZ X.env.scope "numbers":=by first |exact Or.inl rfl |exact Or.inr (Or.inl rfl) |exact Or.inr (Or.inr rfl))(S0:∀cl C,(compEnvC scope cl C X.env).kindOf "handed_over"=some .globalImplicit:=by intro _ _;rfl)
  (Ci:∀cl C,starEach [Expr.Name "text" p2] (compEnvC scope cl C X.env)=(false,eval (.Name "text" p2) (compEnvC scope cl C X.env))::starEach [] (compEnvC scope cl C X.env):=by intro _ _;rfl)
  (d9:∀cl C,(backTo p3 (starEach [] (compEnvC scope cl C X.env))).any (·.1)=false:=by intro _ _;rfl)
  (II:∀v,foldedSetIterable (.Name "numbers" p5) X.env v=pure v:=by intro _;rfl) :
  Ev X (.ListComp (.Call (.Name "handed_over" p1) [.Name "text" p2] [] p3) [⟨.Name "text" p4,.Name "numbers" p5,[],0⟩] scope pos) σ H Q:=by
 subst hP hw hK hmg hB;refine(B8 (wi:=NB X.K (BD 3)) (g:=zr 4) (te:=λσ H Q=>∃bt:List UInt8,HQ (pY [Tx X.K bt] (MA CI CN (My.az bt))) [] E (zx (BD 4) HP) σ H Q) (own:=[("text",4)]) hT j9 hex hc hN (DR (gC Q6 hv3 d_ d_)) ok
  (λs H C cl fp=>kM (X:=X.zB s H scope (compEnvC scope cl C X.env) fp) hN Y0 (.inl (GV cl C)) (.inr (GV cl C)))
  (λs H C cl fp pn xe hx B3=>Qu λbt=>by
   obtain⟨f,fd,F,hm,kp,bi⟩:=Db (P:=X.prog) (w:=X.w) (base:=X.base) G T.N bt;exact jB (X:=X.z7 s H scope C cl fp pn xe) F (hr.aw jX) (S0 cl C) hm kp bi .nil (B3.Ej λb hb=>let ⟨o,z⟩:=hx b hb;⟨o,List.mem_append_right _ z⟩) (bI (gC Y0 (.inl (GV cl C)) d_ d_) cV (Ci cl C)) d_ (Ci cl C) (d9 cl C)) II).ev ?_
 obtain⟨a,vs,rfl,ha,Y1⟩:=hl;have Y2:vs.length=bs.length:=by rw[Y1.len,List.length_map]
 have sq:∀{Hk:Hp},aM H Hk->∀{M:Hp},Dj Hk M->nZ X.K (join Hk M) a vs:=λ{Hk} s {M} d1=>.of (cW d1 (s _ _ ha));refine⟨.ref a,Rb,a,rfl,⟨vs,.of ha⟩,λD hD=>?_⟩;refine⟨λk m Hf=>m=bs.length - k/\k<=bs.length/\∃Hk xs fP,My.ly (bs.take k)=some xs/\Hf=join Hk (one D (.de fP))/\Dj Hk (one D (.de fP))/\aM H Hk/\iE (xs.map (Iv CI)) fP Hk/\fP.length=k,⟨bs.length,rfl,Nat.zero_le _,H,[],[],rfl,mI hD,gi hD,sm,trivial,rfl⟩,?_⟩;rintro k m Hf ⟨rfl,hk,Hk,xs,fP,es,rfl,qZ,sk,T2,T7⟩;have Qp:=sq sk qZ;rcases Nat.lt_or_ge k bs.length with fS |Ms
 ·have hv:vs[k]?=some (vs[k]'(by rw[Y2];exact fS)):=List.getElem?_eq_getElem _;obtain⟨R,hR,hRv⟩:=E2 Y1 hv;have Y3:bs[k]?=some bs[k]:=List.getElem?_eq_getElem fS;rw[List.getElem?_map,Y3] at hR;have hR':Tx X.K bs[k]=R:=Option.some.inj hR;subst hR';have htk:bs.take (k+1)=bs.take k++[bs[k]]:=by rw[List.take_add_one,Y3];rfl
  refine .inr ⟨⟨_,_,Qp,hv⟩,λH'=>bs.length - (k+1)<bs.length - k/\∃Hk xs fP,My.ly (bs.take (k+1))=some xs/\H'=join Hk (one D (.de fP))/\Dj Hk (one D (.de fP))/\aM H Hk/\iE (xs.map (Iv CI)) fP Hk/\fP.length=k+1,λH' ⟨h1,h2⟩=>⟨_,h1,rfl,by omega,h2⟩,?_⟩;rintro x H' ⟨rfl,hx⟩;have hx:=hx _ Qp;rw[hv] at hx;obtain rfl:=Option.some.inj hx;refine⟨?_,?_⟩
  ·show ((σ.set 4 none).set 4 (some _)).set 4 none=σ.set 4 none;rw[List.set_set,List.set_set]
  unfold Fu;dsimp only;rw[if_pos rfl];refine⟨bs[k],_,?_,⟨Tx.ak _ _ _ (sk.trans (ci qZ)) hRv,trivial⟩,?_⟩
  ·show ((σ.set 4 none).set 4 (some _))[4]?=_;rw[List.set_set,List.getElem?_set_self hlen]
  have J8:=My.wY bs[k] (bs.take k);rw[<-htk,es] at J8;dsimp only at J8;unfold MA;cases ei:My.az bs[k] with
  |none =>
   rw[ei] at J8;have J9:=My.wZ (r:=bs.drop (k+1)) J8;rw[List.take_append_drop] at J9;rw[J9] at hq;exact λc' d' H5 s5 x5=>hq c' d' H5 (sk.trans ((ci qZ).trans s5)) x5
  |some x' =>
   rw[ei] at J8;intro v H5 s5 r5;have Oe:H5 D=some (.de fP):=s5 _ _ (bR dq);refine⟨fP,Oe,by rw[T7];exact Nat.lt_of_lt_of_le fS (Nat.le_trans UZ d_),by omega,mO H5 (one D (.de fP)),xs++[x'],fP++[v],J8,pQ,gi (t5 dq),sk.trans (di qZ s5).2.2,?_,by rw[List.length_append,T7];rfl⟩;rw[List.map_append];exact iE.snoc (T2.au (iC _) (di qZ s5).2.2) (Nd.iv _ _ _ yN (iD Oe) r5)
 ·have Xb:k=bs.length:=by omega
  subst Xb;rw[List.take_length] at es;rw[es] at hq;refine .inl ⟨⟨_,Qp,by rw[Y2];exact Nat.le_refl _⟩,?_⟩;exact hq (.ref D) _ (sk.trans (ci qZ)) ⟨D,fP,rfl,bR dq,T2.au (iC _) (ci qZ)⟩
theorem sW:∀bs:List (List UInt8),jl (bs.map (Tx K))
 |[]=>trivial
 |_::bs=>⟨Tx.ak,sW bs⟩
def E3(CI CN:Addr)(line p n:Nat)(bs:List (List UInt8)):Except Ex Rv:=if 2<line\/256<p\/65536<n then .error (IH CN) else Qt CI CN (My.ly bs)
include G T in
theorem A3(line p:Nat)(t:List UInt8)(bs:List (List UInt8))(UZ:bs.length<=1000):fq P w K mg base "numbers_taken" 35 ["line","p","t","numbers"] (pY [Vi (.int line),Vi (.int p),Tx K t,z0 (bs.map (Tx K))] (E3 CI CN line p t.length bs)):=by
 refine T.yJ.xQ (N:=["line","p","t","numbers","text"]) fR rfl λf bL A ai s H vs Q E X e hr nd hT hp ha hq=>?_;subst e;obtain⟨_,_,vt,vl,rfl,rfl,rfl,ht,hl⟩:=LK ha;unfold E3 at hq;refine af (cn (k:=decide ((2:Int)<line) || (decide ((256:Int)<p) || decide ((65536:Int)<(t.length:Nat)))) (PB (dI re (ae 0 rfl rfl v_) (bV T.JS rfl)) (λ_=>dI re (ae 1 rfl rfl v_) (bV T.Qd rfl)) (λ_ _=>dI re (eE rfl T.N.len (ae 2 rfl ht Tx.ak)) (bV T.AI rfl))) (λh H1 s1=>?_) (λh H1 s1=>?_))
 ·have hc:2<line\/256<p\/65536<t.length:=by
   rw[Bool.or_eq_true,Bool.or_eq_true,decide_eq_true_iff,decide_eq_true_iff,decide_eq_true_iff] at h;omega
  rw[if_pos hc] at hq;exact af (ml T.N.fJ.xc T.N.fJ.init T.N.fJ.at_ hT rfl rfl (hq.au s1))
 ·have hc:¬(2<line\/256<p\/65536<t.length):=by
   rw[Bool.or_eq_false_iff,Bool.or_eq_false_iff,decide_eq_false_iff_not,decide_eq_false_iff_not,decide_eq_false_iff_not] at h;omega
  rw[if_neg hc] at hq;refine aJ ?_;exact af (kR (Kh G T rfl rfl rfl rfl rfl hT ⟨rfl,rfl⟩ rfl rfl nd hr rfl (by show 4<5;decide) rfl rfl (show mS ["line","p","t","numbers","text"] (ax (top 114)) _ [("text",4)] from ⟨rfl,by decide +kernel,by decide +kernel,by decide +kernel,by decide +kernel⟩) UZ (Mon.ls (sW _) _ _ _ s1 hl) (hq.au s1)))
end
def A4(u:My.Tm):Str:=MD u.1 u.2
def T8(u:My.Tm):V:=.str (A4 u)
theorem G0(t d:Int):(MD t d).cps.toList=My.fC t d:=by
 unfold MD My.fC
 by_cases h:d=1
 ·rw[if_pos h,if_pos h];exact nV t
 ·rw[if_neg h,if_neg h];have e:(Str.ofString (toString t)++("/":Str)++Str.ofString (toString d)).cps.toList=(Str.ofString (toString t)).cps.toList++(("/":Str).cps.toList++(Str.ofString (toString d)).cps.toList):=by
   show ((Str.ofString (toString t)).cps++("/":Str).cps++(Str.ofString (toString d)).cps).toList=_;simp
  rw[e,nV,nV];rfl
theorem xw(u:My.Tm):(A4 u).cps.toList=My.JD u:=G0 u.1 u.2
theorem M4{u:My.Tm}(h:My.u4 u):(A4 u).length<=8200:=by
 have e:(A4 u).length=(A4 u).cps.toList.length:=by rw[Array.length_toList];rfl
 have l1:(My.fg u.1).length<=4097:=by rw[<-nV,Array.length_toList];exact pK h.1
 have l2:(My.fg u.2).length<=4097:=by rw[<-nV,Array.length_toList];exact pK h.2
 rw[e,xw];unfold My.JD My.fC;split
 ·omega
 ·rw[List.length_append,List.length_cons];omega
theorem uW(a:My.be):lp a=if ∀u∈My.gY a,My.u4 u then some ((My.gY a).map T8) else none:=by
 unfold lp EL;have e:(∀u∈My.gY a,My.u4 u)↔((My.aZ a.aW a.size).1.natAbs<2^4096/\(My.aZ a.aW a.size).2.natAbs<2^4096)/\((My.aZ a.aA a.size).1.natAbs<2^4096/\(My.aZ a.aA a.size).2.natAbs<2^4096):=by
  unfold My.gY
  constructor
  ·intro h;exact⟨h _ (by simp),h _ (by simp)⟩
  ·rintro⟨h1,h2⟩ u hu;simp only[List.mem_cons,List.not_mem_nil,or_false] at hu;rcases hu with rfl |rfl
   ·exact h1
   ·exact h2
 by_cases h:∀u∈My.gY a,My.u4 u
 ·rw[if_pos h,if_pos (e.mp h)];rfl
 ·rw[if_neg h,if_neg λz=>h (e.mpr z)]
theorem Ki(t:My.bC):EN t=if ∀u∈My.jA t,My.u4 u then some ((My.jA t).map T8) else none:=by
 unfold EN;rw[uW,uW,uW]
 by_cases h:∀u∈My.jA t,My.u4 u
 ·have hx:∀u∈My.gY t.x,My.u4 u:=λu hu=>h u (by unfold My.jA;simp [hu]);have hy:∀u∈My.gY t.y,My.u4 u:=λu hu=>h u (by unfold My.jA;simp [hu]);have hz:∀u∈My.gY t.z,My.u4 u:=λu hu=>h u (by unfold My.jA;simp [hu]);rw[if_pos h,if_pos hx,if_pos hy,if_pos hz];unfold My.jA;rw[List.map_append,List.map_append]
 ·rw[if_neg h]
  by_cases hx:∀u∈My.gY t.x,My.u4 u
  ·by_cases hy:∀u∈My.gY t.y,My.u4 u
   ·by_cases hz:∀u∈My.gY t.z,My.u4 u
    ·exfalso;refine h λu hu=>?_;unfold My.jA at hu;rcases List.mem_append.mp hu with hu |hu
     ·rcases List.mem_append.mp hu with hu |hu
      ·exact hx u hu
      ·exact hy u hu
     ·exact hz u hu
    ·rw[if_pos hx,if_pos hy,if_neg hz]
   ·rw[if_pos hx,if_neg hy]
  ·rw[if_neg hx]
def dD(ls:List My.a9):List V:=(ls.flatMap My.cX).map T8
theorem Nd.Y4{CT CI:Addr}{t:My.bC}:Nd (bC CT CI t):=Nd.rec ⟨Nd.iv,Nd.iv,Nd.iv,trivial⟩
theorem Nd.li{CL CT CI:Addr}{l:My.a9}:Nd (Li CL CT CI l):=Nd.rec ⟨Nd.Y4,Nd.Y4,Nd.iv,Nd.vi _,trivial⟩
theorem Dt(l:My.a9):(My.cX l).length=12:=rfl
theorem pU:∀ls:List My.a9,(ls.flatMap My.cX).length=12*ls.length
 |[]=>rfl
 |l::ls=>by
  rw[List.flatMap_cons,List.length_append,pU ls,Dt,List.length_cons];omega
theorem Kj{α:Type}{f:α->Nat}{n:Nat}:∀{l:List α},(∀a∈l,f a<=n)->(l.map f).sum<=n*l.length
 |[],_=>by simp
 |a::l,h=>by
  have h1:=h a List.mem_cons_self;have h2:=Kj (f:=f) (n:=n) (l:=l) λb hb=>h b (List.mem_cons_of_mem _ hb);rw[List.map_cons,List.sum_cons,List.length_cons,Nat.mul_add,Nat.mul_one];omega
section
variable{P:Program}{w:World}{K:Frag}{mg:Str->Option Value}{base:Heap}{CI CT CL CS CP CX NX CN NN CG NG CY:Addr}
def Qv(y:List My.a9×Int):List V:=[.int ((My.fE y.1).length:Nat),.int (y.1.length:Nat),.int y.2]++(My.fE y.1).map λc=>V.int (c:Nat)
def Oh(CG:Addr):Option (List My.a9×Int)->Except Ex Rv
 |none=>.error (IH CG)
 |some y=>.ok (oV (Qv y))
abbrev M6:List Str:=["system","line","p","start","light","passed","ending","texts","part","lost","told"]
variable(G:pH P base)(T:Td K mg CI CT CL CS CP CX NX CN NN CG NG)
structure Kk(CI CT CL:Addr)(line p:Nat)(qs:List My.cJ)(l0:My.a9)(H1:Hp)(vs zi:V)(tp:Addr)(σ:L2.St)(Hf:Hp):Prop where
 on:∃ls e vl vp Hk,My.gq line p qs l0=some (ls,e)/\σ=[some vs,some (.int line),some (.int p),some zi,some vl,some (.int (ls.length:Nat)),some (.int e),some (.ref tp),vp,none,none]/\Hf=join Hk (one tp (.de (dD ls)))/\Dj Hk (one tp (.de (dD ls)))/\aM H1 Hk/\∀l∈ls,My.CH l
theorem M7{X:Cx}{σ:L2.St}{H:Hp}{a:Expr}{p pos:Pos}{xs:List V}{n:Nat}(hg:Gl X "len")(hm:X.mg "len"=none)(ha:Yd X σ H a (oV xs))(hn:xs.length=n)(he:starEach [a] X.env=(false,eval a X.env)::starEach [] X.env:=by rfl)(d9:(backTo pos (starEach [] X.env)).any (·.1)=false:=by rfl) :
  Yd X σ H (.Call (.Name "len" p) [a] [] pos) (Vi (.int (n:Nat))):=λH1 s1 =>
 (gm oH hg hm PySem.boot_len (bI pE cV he) d_ d_ he d9).ev ((ha H1 s1).aw λv H2 ⟨s2,p,e1,e2⟩=>⟨p,_,by rw[e1],.inl (.of e2),s2,by rw[hn]⟩)
include T in
theorem A5(MH:mg "ord"=none){f:Addr}{bL:Value}{A:Around}{ai:List Env}{s:Shared}{HH H1 Hf:Hp}{Q:VK}{E:XK}{line p:Nat}{qs:List My.cJ}{l0:My.a9}{vs zi:V}{tp:Addr}{σ:L2.St}(hr:cx 45 (lw P w K mg base M6 "follow_and_tell" (ax (top 115)) f bL A ai s HH E).A)(nd:(M6:List Str).Nodup)(Rr:qs.length<=64)
  (h:Kk CI CT CL line p qs l0 H1 vs zi tp σ Hf)(hq:z3 (Oh CG (My.gq line p qs l0)) H1 Q E) :
  Do (lw P w K mg base M6 "follow_and_tell" (ax (top 115)) f bL A ai s HH E) ((cq (top 115)).drop 5) {nx:=λ_ H'=>Q .dH H',rt:=Q} σ Hf:=by
 obtain⟨ls,e,vl,vp,Hk,et,rfl,rfl,qZ,sk,hok⟩:=h;rw[et] at hq;have hls:ls.length<=64:=by
  have:∀(qs:List My.cJ) (l0:My.a9) (ls:List My.a9) (e:Int),My.gq line p qs l0=some (ls,e)->ls.length<=qs.length:=by
   intro qs
   induction qs with
   |nil =>
    intro l0 ls e h;unfold My.gq at h;cases h;exact Nat.le_refl _
   |cons q qs ih =>
    intro l0 ls e h;unfold My.gq at h;split at h
    ·cases h;exact Nat.zero_le _
    ·split at h
     ·split at h
      ·cases h
      ·rename_i y hy;cases h;exact Nat.succ_le_succ (ih _ _ _ hy)
     ·cases h
  exact Nat.le_trans (this qs l0 ls e et) Rr
 have Qw:dD ls=((ls.flatMap My.cX).map A4).map V.str:=by
  unfold dD;rw[List.map_map];rfl
 have Y5:(((ls.flatMap My.cX).map A4).map (·.length)).sum+((ls.flatMap My.cX).map A4).length<16000000:=by
  have h1:=Kj (f:=λy:Str=>y.length) (n:=8200) (l:=(ls.flatMap My.cX).map A4) (λy hy=>by
   obtain⟨u,hu,rfl⟩:=List.mem_map.mp hy;obtain⟨l,hl,hu⟩:=List.mem_flatMap.mp hu;exact M4 (hok l hl u hu))
  rw[List.length_map,pU] at h1;rw[List.length_map,pU];omega
 have Xt:(((ls.flatMap My.cX).map A4).map (·.length)).sum+((ls.flatMap My.cX).map A4).length<16777216:=by omega
 have ht:oV (((ls.flatMap My.cX).map A4).map V.str) (.ref tp) (join Hk (one tp (.de (dD ls)))):=⟨tp,rfl,by rw[<-Qw];exact bR dq⟩
 have ec:My.dY (((ls.flatMap My.cX).map A4).map λy=>y.cps.toList)=My.fE ls:=by
  unfold My.fE;rw[List.map_map];congr 1;refine List.map_congr_left λu _=>?_;exact xw u
 have CB:=vH (P:=P) (w:=w) (base:=base) T MH ((ls.flatMap My.cX).map A4) Xt;rw[ec] at CB;have Le:(My.fE ls).length<16000000:=by
  have h1:=j7 (((ls.flatMap My.cX).map A4).map λy=>y.cps.toList);rw[ec,List.map_map,List.length_map] at h1;have e2:(((ls.flatMap My.cX).map A4).map (List.length ∘ λy=>y.cps.toList))=((ls.flatMap My.cX).map A4).map (·.length):=by
   refine List.map_congr_left λy _=>?_;show y.cps.toList.length=y.cps.size;simp
  rw[e2] at h1;omega
 refine af (aD (i:=10) (ah CB hr rfl (aa (ae 7 rfl ht oV.ak) oV.ak ag)) (λvt H2 s2 mF=>?_) nd);have hz:sizeLine=16777216:=by decide
 refine af (aE (tW (xs:=[.int ((My.fE ls).length:Nat),.int (ls.length:Nat),.int e]) (Yd.imp (kS (Rs:=[Vi (.int ((My.fE ls).length:Nat)),Vi (.int (ls.length:Nat)),Vi (.int e)]) (aa (M7 rfl T.N.len (ae 10 rfl mF oV.ak) (by rw[List.length_map])) v_ (aa (ae 5 rfl rfl v_) v_ (aa (ae 6 rfl rfl v_) v_ ag))) ⟨Vi.ak _,Vi.ak _,Vi.ak _,trivial⟩ (by show 3<=1000;decide)) λv H' r=>oV.Po r λus hu=>by obtain⟨v1,v2,v3,rfl,rfl,rfl,rfl⟩:=IJ hu;rfl) (ae 10 rfl mF oV.ak) (by rw[hz,List.length_map];show 3+_<=_;omega)) λv H3 s3 r3=>hq v H3 (sk.trans ((ci qZ).trans (s2.trans s3))) r3)
end
theorem xy{l:My.a9}:My.CH l↔(∀u∈My.jA l.point,My.u4 u)/\∀u∈My.jA l.way,My.u4 u:=by
 unfold My.CH My.cX
 constructor
 ·intro h;exact⟨λu hu=>h u (List.mem_append_left _ hu),λu hu=>h u (List.mem_append_right _ hu)⟩
 ·rintro⟨h1,h2⟩ u hu;rcases List.mem_append.mp hu with z |z
  ·exact h1 u z
  ·exact h2 u z
theorem A6(ls:List My.a9)(l:My.a9):dD (ls++[l])=dD ls++((My.jA l.point).map T8++(My.jA l.way).map T8):=by
 unfold dD;rw[List.flatMap_append,List.map_append,List.flatMap_singleton];unfold My.cX;rw[List.map_append]
theorem Du(ls:List My.a9):(dD ls).length=12*ls.length:=by
 unfold dD;rw[List.length_map,pU]
section
variable{P:Program}{w:World}{K:Frag}{mg:Str->Option Value}{base:Heap}{CI CT CL CS CP CX NX CN NN CG NG CY:Addr}
variable(G:pH P base)(T:Td K mg CI CT CL CS CP CX NX CN NN CG NG)
def qj(CI CT CL:Addr)(S:Ln.System_)(line p:Nat)(qs:List My.cJ)(l0:My.a9)(H1:Hp)(vs zi:V)(tp:Addr)(k:Nat)(σ:L2.St)(Hf:Hp):Prop:=∃ls l vl vp Hk,σ=[some vs,some (.int line),some (.int p),some zi,some vl,some (.int (k:Nat)),some (.int 0),some (.ref tp),vp,none,none]/\Hf=join Hk (one tp (.de (dD ls)))/\Dj Hk (one tp (.de (dD ls)))/\aM H1 Hk/\Li CL CT CI l vl Hk/\My.AD S line p (qs.drop k) l/\ls.length=k/\(∀l∈ls,My.CH l) /\
 My.gq line p qs l0=match My.gq line p (qs.drop k) l with
  |none=>none
  |some y=>some (ls++y.1,y.2)
include G T in
theorem A7{f:Addr}{bL:Value}{A:Around}{ai:List Env}{s:Shared}{HH H1 Hf:Hp}{E:XK}{D:cT}{S:Ln.System_}{line p k:Nat}{qs:List My.cJ}{q:My.cJ}{l0:My.a9}{vs zi x:V}{tp:Addr}{σ:L2.St}(hr:cx 45 (lw P w K mg base M6 "follow_and_tell" (ax (top 115)) f bL A ai s HH E).A)(nd:(M6:List Str).Nodup)(hT:iF (lw P w K mg base M6 "follow_and_tell" (ax (top 115)) f bL A ai s HH E) E)(Rr:qs.length<=64)(su:p<=256)
  (hq:qs[k]?=some q)(hx:Pa CP CS CI q x H1)(h:qj CI CT CL S line p qs l0 H1 vs zi tp k σ Hf)
  (he:My.gq line p qs l0=none->∀c d H',aM H1 H'->IH CG c d H'->E c d H') :
  Do (lw P w K mg base M6 "follow_and_tell" (ax (top 115)) f bL A ai s HH E) (match (cq (top 115)).getD 4 (.Pass ⟨0,0,0,0⟩) with |.For _ _ b _ _=>b |_=>[]) {D with nx:=qj CI CT CL S line p qs l0 H1 vs zi tp (k+1),ct:=qj CI CT CL S line p qs l0 H1 vs zi tp (k+1),bk:=Kk CI CT CL line p qs l0 H1 vs zi tp} (σ.set 8 (some x)) Hf:=by
 obtain⟨ls,l,vl,vp,Hk,rfl,rfl,qZ,sk,Y6,go,GV,hok,et⟩:=h;have hk:k<qs.length:=(List.getElem?_eq_some_iff.mp hq).1;have WT:qs.drop k=q::qs.drop (k+1):=by
  rw[List.drop_eq_getElem_cons hk];congr 1;rw[List.getElem?_eq_getElem hk] at hq;exact Option.some.inj hq
 rw[WT] at et go;obtain⟨QF,QG⟩:=go.kl q List.mem_cons_self;have CB:=C7 (P:=P) (w:=w) (base:=base) G T.Z (l:=l) (q:=q) (line:=line) (p:=p) go.fit QF QG su;have Y7:Pa CP CS CI q x (join Hk (one tp (.de (dD ls)))):=Pa.ak _ _ _ (sk.trans (ci qZ)) hx;have Y8:Li CL CT CI l vl (join Hk (one tp (.de (dD ls)))):=Li.ak _ _ _ (ci qZ) Y6;have U1:(join Hk (one tp (.de (dD ls)))) tp=some (.de (dD ls)):=bR dq;have tl:My.gq line p (q::qs.drop (k+1)) l=match My.cj l q line p with
   |.error e=>some ([],e)
   |.ok l'=>if My.CH l' then (match My.gq line p (qs.drop (k+1)) l' with
     |none=>none
     |some y=>some (l'::y.1,y.2)) else none:=by
  rw[My.gq]
  try (cases My.cj l q line p <;> rfl)
 rw[tl] at et;obtain⟨fb,fdb,Fb,mb,Y9,bb⟩:=CB;have hNi:(M6:List Str)[9]?=some ("lost":Str):=rfl;cases eb:My.cj l q line p with
 |error e =>
  rw[eb] at et Fb;dsimp only at et;refine af (En (Eb:=λc d H'=>aM (join Hk (one tp (.de (dD ls)))) H'/\B7 CX w8 [Vi (.int e)] c d H') ⟨rfl,rfl⟩ rfl (λpn xe hZ=>?_) (qA (i:=9) (C1:=CX) (N1:=NX) rfl T.Z.X.at_ T.Z.X.xc nd rfl rfl SY BY) (λC dx H' hE=>?_))
  ·exact af (PS.do (qh (i:=4) nd rfl (.inl rfl) (zZ Fb (hr.aw d_) rfl mb Y9 bb .nil hZ rfl (bI (pv 4) (bI (pv 8) (bI (pv 1) (bI (pv 2) cV))))) rfl) ⟨rfl,vl,rfl,x,rfl,_,rfl,_,rfl,⟨Y8,Y7,rfl,rfl,trivial⟩,λc d H' s' x'=>⟨s',x'⟩⟩)
  ·obtain⟨s',ec,Wc,ys,rfl,U2,Qw⟩:=hE;cases ec;obtain⟨v1,rfl,W8⟩:=lS Qw;obtain rfl:v1=.int e:=W8;refine⟨NX,T.Z.X.xc,λea Rt=>?_⟩;show (if CX=CX then _ else _);rw[if_pos rfl];intro ev;refine af (kT (k:=6) (Eo (i:=9) rfl Rt T.Z.X.xc (T.Z.X.xa _ d_) U2 (fV (i:=0) d_ rfl rfl) ?_) nd);refine af (IT ?_);obtain⟨e2,lx,s2⟩:=di qZ s';refine⟨ls,e,vl,some x,mO H' (one tp (.de (dD ls))),?_,?_,e2,lx,sk.trans s2,hok⟩
   ·rw[et,List.append_nil]
   ·rw[GV];rfl
 |ok l' =>
  rw[eb] at et Fb;dsimp only at et;refine af (En (Eb:=λ_ _ _=>False) ⟨rfl,rfl⟩ rfl (λpn xe hZ=>?_) (qA (i:=9) (C1:=CX) (N1:=NX) rfl T.Z.X.at_ T.Z.X.xc nd rfl rfl SY BY) (λC dx H' hE=>hE.elim));refine af (PS.do (qh (i:=4) nd rfl (.inl rfl) (zZ Fb (hr.aw d_) rfl mb Y9 bb .nil hZ rfl (bI (pv 4) (bI (pv 8) (bI (pv 1) (bI (pv 2) cV))))) rfl) ⟨rfl,vl,rfl,x,rfl,_,rfl,_,rfl,⟨Y8,Y7,rfl,rfl,trivial⟩,λv H2 s2 r2=>aJ ?_⟩);obtain⟨v2,WU,go2,Xu⟩:∃b:My.a9,b=l'/\l'.point.Ok/\l'.way.Ok:=by
   obtain⟨i,bm,h1,h2,h3⟩:=go.on;obtain⟨el,Za,JF⟩:=h1 0 q rfl;rw[Nat.add_zero] at Za;have B:=My.lX (p:=p) Za JF h2 h3;rw[eb] at B;cases y:Ln.beamStep p S line i bm with
   |error w=>rw[y] at B;exact B.elim
   |ok b'=>rw[y] at B;exact⟨l',rfl,B.1.pt,B.1.way⟩
  have Xv:H2 tp=some (.de (dD ls)):=s2 _ _ U1;refine af (oS (i:=5) (k:=(k:Nat)) (l:=1) rfl aH (λH3 s3=>?_) nd);have r3:=Li.ak _ _ _ s3 r2;have Qx:=s3 _ _ Xv;have Cp:=uM (P:=P) (w:=w) (base:=base) G T l'.point go2;have Cw:=uM (P:=P) (w:=w) (base:=base) G T l'.way Xu;rw[Ki] at Cp Cw;have sA:aM (join Hk (one tp (.de (dD ls)))) H3:=s2.trans s3
  by_cases ok:My.CH l'
  ·obtain⟨hP,hW⟩:=xy.mp ok;rw[if_pos hP] at Cp;rw[if_pos hW] at Cw;have lz:sizeLine=16777216:=by decide
   have l6:∀t:My.bC,(My.jA t).length=6:=λ_=>rfl;refine af (eD (PE.ev (HY PySem.F.plainAttrs_list PySem.F.slot_list_extend PySem.F.type_list_extend v9 (pv 7) (bI pE cV)) ⟨.ref tp,rfl,.inl ⟨rfl,dD ls,.of Qx⟩,Yd.ev (tW (ah Cp hr rfl (aa (aj (Li.hp T.Z.RL) (ae 4 rfl r3 Li.ak)) bC.ak ag)) (ah Cw hr rfl (aa (aj (Li.hw T.Z.RL) (ae 4 rfl r3 Li.ak)) bC.ak ag)) (by rw[List.length_map,List.length_map,l6,l6,lz];decide)) λv4 H4 s4 ⟨pb,e4,h4⟩=>?_⟩));have T9:=s4 _ _ Qx;refine⟨tp,pb,dD ls,_,rfl,by rw[e4],T9,h4,?_,aJ ?_⟩
   ·rw[List.length_append,List.length_map,List.length_map,l6,l6,Du,GV,lz];omega
   ·have sB:=(di qZ (sA.trans s4)).2.2;refine⟨ls++[l'],l',v,some x,mO H4 (one tp (.de (dD ls))),?_,?_,gi (t5 dq),sk.trans sB,Nd.li _ _ _ yN (iD T9) (Li.ak _ _ _ s4 r3),My.CO go su eb ok,by rw[List.length_append,GV];rfl,λl2 h2=>?_,?_⟩
    ·show [some vs,some (V.int line),some (V.int p),some zi,some v,some (V.int ((k:Int)+1)),some (V.int 0),some (V.ref tp),some x,none,none]=_;rw[Int.natCast_add];rfl
    ·rw[A6];exact pQ
    ·rcases List.mem_append.mp h2 with z |z
     ·exact hok l2 z
     ·rw[List.mem_singleton.mp z];exact ok
    ·rw[et,if_pos ok];cases My.gq line p (qs.drop (k+1)) l' with
     |none=>rfl
     |some y =>
      dsimp only;rw[List.append_assoc];rfl
  ·rw[if_neg ok] at et;have en:=he et;have hE:∀c d H',aM H3 H'->IH CG c d H'->E c d H':=λc d H' s' x'=>en c d H' (sk.trans ((ci qZ).trans (sA.trans s'))) x';refine af (eD (PE.ev (HY PySem.F.plainAttrs_list PySem.F.slot_list_extend PySem.F.type_list_extend v9 (pv 7) (bI pE cV)) ⟨.ref tp,rfl,.inl ⟨rfl,dD ls,.of Qx⟩,?_⟩))
   by_cases hP:∀u∈My.jA l'.point,My.u4 u
   ·have hW:¬∀u∈My.jA l'.way,My.u4 u:=λz=>ok (xy.mpr ⟨hP,z⟩);rw[if_pos hP] at Cp;rw[if_neg hW] at Cw;exact lQ.ev (tV lJ (ah Cp hr rfl (aa (aj (Li.hp T.Z.RL) (ae 4 rfl r3 Li.ak)) bC.ak ag)) (dS Cw rfl hT hr rfl (aa (aj (Li.hw T.Z.RL) (ae 4 rfl r3 Li.ak)) bC.ak ag))) hE
   ·rw[if_neg hP] at Cp;exact lQ.ev (oU lJ (dS Cp rfl hT hr rfl (aa (aj (Li.hp T.Z.RL) (ae 4 rfl r3 Li.ak)) bC.ak ag))) hE
end
section
variable{P:Program}{w:World}{K:Frag}{mg:Str->Option Value}{base:Heap}{CI CT CL CS CP CX NX CN NN CG NG CY:Addr}
variable(G:pH P base)(T:Td K mg CI CT CL CS CP CX NX CN NN CG NG)
include G T in
theorem Dv(RY:jG K mg "System" sY nY CY)(MH:mg "ord"=none)(B3:nO mg "THROUGH" 0){S:Ln.System_}{line p:Nat}{y:List My.be×List My.bB}{a b c d:My.be}{qc qd:Rat}(jD:line<y.1.length)(su:p<=256)(Sr:y.2.length<=64)(nc:My.bK c qc)(ndd:My.bK d qd)(bc:My.Bd 100 c)(bd:My.Bd 100 d)
  (go:My.AD S line p (y.2.map (·.2)) (My.cA a b c d (y.1.getD line (My.ap 1)) p)) :
  fq P w K mg base "follow_and_tell" 46 ["system","line","p","start"] (pY [yP CY CI CP CS y,Vi (.int line),Vi (.int p),u7 CI [a,b,c,d]] (Oh CG (My.gq line p (y.2.map (·.2)) (My.cA a b c d (y.1.getD line (My.ap 1)) p)))):=by
 refine T.eT.xQ (N:=M6) fR rfl λf bL A ai s H vs Q E X e hr nd hT hp ha hq=>?_;subst e;obtain⟨vs,_,_,zi,rfl,Xw,rfl,rfl,j9⟩:=LK ha;obtain⟨ps,Zb,ys,rfl,Ua,Qw⟩:=Xw;obtain⟨vm,vp,rfl,hvm,pa,Qy,rfl,S6,Xx⟩:=lT Qw;have Ub:dG CY nY [Vi vm,Vi (.ref pa)] (.ref ps) H:=⟨ps,Zb,[vm,.ref pa],rfl,Ua,rfl,rfl,trivial⟩
 have Uc:Mon (dG CY nY [Vi vm,Vi (.ref pa)]):=dG.ak ⟨Vi.ak _,Vi.ak _,trivial⟩;have hsM:yP CY CI CP CS y (.ref ps) H:=⟨ps,Zb,[vm,.ref pa],rfl,Ua,hvm,⟨pa,Qy,rfl,S6,Xx⟩,trivial⟩
 have fm:gu K (yP CY CI CP CS y) "medium" (u7 CI y.1):=dG.has RY.cl RY.no d_ 0 rfl rfl;have fp:gu K (dG CY nY [Vi vm,Vi (.ref pa)]) "parts" (Vi (.ref pa)):=dG.has RY.cl RY.no d_ 1 rfl rfl;have PL:(y.1.map (Iv CI))[line]?=some (Iv CI (y.1.getD line (My.ap 1))):=by
  rw[List.getElem?_map,List.getElem?_eq_getElem jD,List.getD_eq_getElem?_getD,List.getElem?_eq_getElem jD];rfl
 have CSt:=GC (P:=P) (w:=w) (base:=base) G T.Z (x:=a) (y:=b) (index:=y.1.getD line (My.ap 1)) nc ndd bc bd su;refine af (aD (i:=4) (ah CSt hr rfl (aa (ae 3 rfl j9 JP.ak) JP.ak (aa (qC (aj fm (ae 0 rfl hsM yP.ak)) (iC _) (ae 1 rfl rfl v_) PL) Iv.ak (aa (ae 2 rfl rfl v_) v_ ag)))) (λvl H1 s1 Pe=>?_) nd);refine af (aD (i:=5) aH (λv5 H2 s2 hv5=>?_) nd);obtain rfl:v5=.int 0:=hv5;refine af (aD (i:=6) (bV B3 rfl) (λv6 H3 s3 hv6=>?_) nd);obtain rfl:v6=.int 0:=hv6;have lB:=s1.trans (s2.trans s3);refine af (kT (k:=7) (PE.ev (xE cV) ⟨Nat.zero_le _,λtp U1=>?_⟩) nd);rw[mI U1];have mQ:Dj H3 (one tp (.de [])):=gi U1;generalize hl0:My.cA a b c d (y.1.getD line (My.ap 1)) p=l0 at *;generalize Rr:y.2.map (·.2)=qs at *;have Ud:qs.length<=64:=by rw[<-Rr,List.length_map];exact Sr
 have Xy:Qy.length=qs.length:=by rw[Xx.len,List.length_map,<-Rr,List.length_map]
 have Xz:H3 pa=some (.de Qy):=lB _ _ S6;refine ii (Kk CI CT CL line p qs l0 H3 (.ref ps) zi tp) ?_ (λσ Hf he=>A5 T MH hr nd Ud he (hq.au lB));have hsF:dG CY nY [Vi vm,Vi (.ref pa)] (.ref ps) (join H3 (one tp (.de []))):=Uc _ _ _ (lB.trans (ci mQ)) Ub;refine PS.do (xC hp rfl (DR pE) (kM (i:=8) nd rfl (.inl rfl)) pD) (Yd.ev (aj fp (ae 0 rfl hsF Uc)) λv4 H4 s4 hv4=>?_)
 obtain rfl:v4=.ref pa:=hv4;obtain⟨e4,sU,T6⟩:=di mQ s4;have T0:qj CI CT CL S line p qs l0 H3 (.ref ps) zi tp 0 [some (.ref ps),some (.int line),some (.int p),some zi,some vl,some (.int 0),some (.int 0),some (.ref tp),none,none,none] H4:=by
  refine⟨[],l0,vl,none,mO H4 (one tp (.de [])),rfl,e4,sU,T6,Li.ak _ _ _ (s2.trans (s3.trans T6)) Pe,go,rfl,λ_ h=>absurd h (by simp),?_⟩;rw[List.drop_zero];cases My.gq line p qs l0 with
  |none=>rfl
  |some y=>rfl
 have Zc:∀(k:Nat) (σ:L2.St) (H':Hp),k<=Qy.length->qj CI CT CL S line p qs l0 H3 (.ref ps) zi tp k σ H'->nZ K H' pa Qy:=λk σ H' _ ⟨ls,l,vl,vp,Hk,_,eH,qZ,sk,_⟩=>by
  rw[eH];exact .of (cW qZ (sk _ _ Xz))
 refine⟨pa,rfl,⟨Qy,Zc 0 _ _ (Nat.zero_le _) T0⟩,HF (xs:=Qy) (qj CI CT CL S line p qs l0 H3 (.ref ps) zi tp) T0 Zc (λk x σ H' hx ht=>?_) (λσ H' ht=>?_)⟩
 ·obtain⟨R,hR,hRx⟩:=E2 Xx hx;rw[List.getElem?_map] at hR;cases u0:y.2[k]? with
  |none=>rw[u0] at hR;cases hR
  |some q' =>
   rw[u0] at hR;have hR:T4 CP CS CI q'=R:=Option.some.inj hR;subst hR;have Jd:qs[k]?=some q'.2:=by rw[<-Rr,List.getElem?_map,u0];rfl
   exact A7 G T hr nd hT Ud su Jd (Pa.ak _ _ _ lB hRx) ht (λen c d H' s' x'=>by
    rw[en] at hq;exact hq c d H' (lB.trans s') x')
 ·obtain⟨ls,l,vl',vp',Hk,e1,e2,qZ,sk,Y6,go',GV,hok,et⟩:=ht;rw[Xy] at et GV e1;rw[List.drop_length] at et;refine⟨ls,0,vl',vp',Hk,?_,?_,e2,qZ,sk,hok⟩
  ·rw[et];show some (ls++[],(0:Int))=_;rw[List.append_nil]
  ·rw[e1,GV]
end
theorem G1(y:List My.a9×Int):([((My.fE y.1).length:Int),(y.1.length:Int),y.2]++(My.fE y.1).map λ(c:Nat)=>(c:Int)).map V.int=Qv y:=by
 unfold Qv;rw[List.map_append,List.map_map];rfl
section
variable{P:Program}{w:World}{K:Frag}{mg:Str->Option Value}{base:Heap}{CI CT CL CS CP CX NX CN NN CG NG CF NF CK CR CY:Addr}
theorem XB{R1 R2 R3 R4 R5 R6 R7:Rv}{H:Hp}:∀{vs:List V},iE [R1,R2,R3,R4,R5,R6,R7] vs H->∃v1 v2 v3 v4 v5 v6 v7,vs=[v1,v2,v3,v4,v5,v6,v7]/\R1 v1 H/\R2 v2 H/\R3 v3 H/\R4 v4 H/\R5 v5 H/\R6 v6 H/\R7 v7 H
 |v1::v2::v3::vs,h=>let ⟨v4,v5,v6,v7,e,r⟩:=LK h.2.2.2;⟨v1,v2,v3,v4,v5,v6,v7,by rw[e],h.1,h.2.1,h.2.2.1,r⟩
 |[],h=>h.elim
 |[_],h=>h.2.elim
 |[_,_],h=>h.2.2.elim
abbrev nTr:List Str:=["line","p","t","x","y","u","v","start","fault"]
variable(G:pH P base)(T:Td K mg CI CT CL CS CP CX NX CN NN CG NG)(Y:BA K mg CI CN NN CG NG CF NF CK CS CP CR CY)
include G T Y in
theorem A8{f:Addr}{fd:FuncData}(F:rg K "trace" "trace" (top 116) f fd)(B3:nO mg "THROUGH" 0)(n1:CF≠CN)(n2:CG≠CN)(n3:CG≠CF)(line p:Nat)(t x y u v:List UInt8)(hb:t.length<2^59):g5 P w K mg base (rh P w) 47 f fd ["line","p","t","x","y","u","v"] (jx [Vi (.int line),Vi (.int p),Tx K t,Tx K x,Tx K y,Tx K u,Tx K v] (oV ((My.iL line p t x y u v).map V.int))):=by
 refine F.xQ (N:=nTr) fR rfl λbL A ai s H vs Q E X e hr nd hT hp ha hq=>?_;subst e;obtain⟨_,_,vt,vx,vy,vu,vv,rfl,rfl,rfl,ht,hx,hy,hu,hv⟩:=XB ha;refine af (LV (Eb:=λc d H'=>aM H H'/\((IH CN c d H'/\My.iL line p t x y u v=[-1])\/(∃e:Ln.Text.Fault,rW CF e.1 e.2 c d H'/\My.iL line p t x y u v=[-3,(e.2:Int),(e.1:Int)])\/(IH CG c d H'/\My.iL line p t x y u v=[-6]))) ⟨rfl,rfl⟩ rfl (λpn xe U3 Rc=>?_)
  (Ea (C1:=CN) (N1:=NN) rfl T.N.fJ.at_ T.N.fJ.xc SY (qA (i:=8) (C1:=CF) (N1:=NF) rfl Y.T.gZ.at_ Y.T.gZ.xc nd rfl rfl SY (Ea (C1:=CG) (N1:=NG) rfl T.N.kG.at_ T.N.kG.xc SY BY))) (λC dx H' hE=>?_))
 ·have Cn:=A3 (P:=P) (w:=w) (base:=base) G T line p t [x,y,u,v] (by show 4<=1000;decide);have eo:E3 CI CN line p t.length [x,y,u,v]=Qt CI CN (My.uF line p t.length [x,y,u,v]):=by
   unfold E3 My.uF;split <;> rfl
  rw[eo] at Cn;cases ek:My.uF line p t.length [x,y,u,v] with
  |none =>
   rw[ek] at Cn;exact af (lR (i:=7) (dS Cn rfl U3 hr rfl (aa (ae 0 rfl rfl v_) v_ (aa (ae 1 rfl rfl v_) v_ (aa (ae 2 rfl ht Tx.ak) Tx.ak (aa (kS (Rs:=[Tx K x,Tx K y,Tx K u,Tx K v]) (aa (ae 3 rfl hx Tx.ak) Tx.ak (aa (ae 4 rfl hy Tx.ak) Tx.ak (aa (ae 5 rfl hu Tx.ak) Tx.ak (aa (ae 6 rfl hv Tx.ak) Tx.ak ag)))) ⟨Tx.ak,Tx.ak,Tx.ak,Tx.ak,trivial⟩ (by show 4<=1000;decide)) (Mon.ls (sW [x,y,u,v])) ag))))) (λc d H2 s2 x2=>⟨s2,.inl ⟨x2,My.CV ek⟩⟩) nd)
  |some l =>
  rw[ek] at Cn;obtain⟨a,b,c,d,rfl,ex,ey,eu,ev,OW,UC,M8⟩:=My.CW ek;refine af (aD (i:=7) (jH Cn rfl hr rfl (aa (ae 0 rfl rfl v_) v_ (aa (ae 1 rfl rfl v_) v_ (aa (ae 2 rfl ht Tx.ak) Tx.ak (aa (kS (Rs:=[Tx K x,Tx K y,Tx K u,Tx K v]) (aa (ae 3 rfl hx Tx.ak) Tx.ak (aa (ae 4 rfl hy Tx.ak) Tx.ak (aa (ae 5 rfl hu Tx.ak) Tx.ak (aa (ae 6 rfl hv Tx.ak) Tx.ak ag)))) ⟨Tx.ak,Tx.ak,Tx.ak,Tx.ak,trivial⟩ (by show 4<=1000;decide)) (Mon.ls (sW [x,y,u,v])) ag))))) (λzi H1 s1 j9=>?_) nd);have sO:=Tx.ak _ _ _ s1 ht;have Ue:=uV (P:=P) (w:=w) (base:=base) Y hb;unfold My.JJ at M8;cases es:My.gX t with
  |error e =>
   rw[es] at Ue M8;exact af (dh (wo (T.eT.any (P:=P) (w:=w) (base:=base)) U3 hr rfl (oQ (dS Ue rfl U3 hr rfl (aa (ae 2 rfl sO Tx.ak) Tx.ak ag)))) (λc d H2 s2 x2=>⟨s1.trans s2,.inr (.inl ⟨e,x2,M8⟩)⟩))
  |ok sy =>
  rw[es] at Ue M8;dsimp only at M8;obtain⟨qc,c1,c2⟩:=My.gz eu;obtain⟨qd,d1,d2⟩:=My.gz ev;obtain⟨S,go⟩:=My.AE es OW UC ex ey eu ev;obtain⟨sl1,X7⟩:=My.CQ es;have U4:=Dv (P:=P) (w:=w) (base:=base) G T Y.RY Y.T.MH B3 o_ UC sl1 c1 d1 c2 d2 go;cases et:My.gq line p (sy.2.map (·.2)) (My.cA a b c d (sy.1.getD line (My.ap 1)) p) with
  |none =>
   rw[et] at U4 M8;exact af (dh (dS U4 rfl U3 hr rfl (aa (jH Ue rfl hr rfl (aa (ae 2 rfl sO Tx.ak) Tx.ak ag)) yP.ak (aa (ae 0 rfl rfl v_) v_ (aa (ae 1 rfl rfl v_) v_ (aa (ae 7 rfl j9 u7.ak) u7.ak ag))))) (λc d H2 s2 x2=>⟨s1.trans s2,.inr (.inr ⟨x2,M8⟩)⟩))
  |some y' =>
   rw[et] at U4 M8;refine af (aE (jH U4 rfl hr rfl (aa (jH Ue rfl hr rfl (aa (ae 2 rfl sO Tx.ak) Tx.ak ag)) yP.ak (aa (ae 0 rfl rfl v_) v_ (aa (ae 1 rfl rfl v_) v_ (aa (ae 7 rfl j9 u7.ak) u7.ak ag))))) (λv2 H2 s2 r2=>hq v2 H2 (s1.trans s2) ?_));rw[M8,G1];exact r2
 ·obtain⟨s',h1 |⟨e,h2,et⟩ |h3⟩:=hE
  ·obtain⟨⟨ec,ed⟩,et⟩:=h1;cases ec;refine⟨NN,T.N.fJ.xc,λea Rt=>?_⟩;show (if CN=CN then _ else _);rw[if_pos rfl];intro ev;refine af (aE (kS (aa (jW aH) v_ ag) ⟨Vi.ak _,trivial⟩ (by show 1<=1000;decide)) λv2 H2 s2 r2=>hq v2 H2 (s'.trans s2) ?_);rw[et];exact oV.Po r2 λus hu=>by obtain⟨v1,rfl,rfl⟩:=lS hu;rfl
  ·obtain⟨ec,Wc,ys,rfl,U2,Qw⟩:=h2;cases ec;obtain⟨w1,w2,rfl,hw1,hw2⟩:=lT Qw;obtain rfl:w1=.int (e.2:Nat):=hw1;obtain rfl:w2=.int (e.1:Nat):=hw2;refine⟨NF,Y.T.gZ.xc,λea Rt=>?_⟩;show (if CF=CN then _ else (if CF=CF then _ else _));rw[if_neg n1,if_pos rfl];intro ev;refine af (aE (kS (aa (jW aH) v_ (aa (Ep (i:=8) rfl Rt Y.T.gZ.xc (Y.T.gZ.xa _ d_) U2 (fV (i:=0) d_ rfl rfl)) v_ (aa (Ep (i:=8) rfl Rt Y.T.gZ.xc (Y.T.gZ.xa _ d_) U2 (fV (i:=1) d_ rfl rfl)) v_ ag))) ⟨Vi.ak _,Vi.ak _,Vi.ak _,trivial⟩ (by show 3<=1000;decide)) λv2 H2 s2 r2=>hq v2 H2 (s'.trans s2) ?_);rw[et];exact oV.Po r2 λus hu=>by obtain⟨v1,v2,v3,rfl,rfl,rfl,rfl⟩:=IJ hu;rfl
  ·obtain⟨⟨ec,ed⟩,et⟩:=h3;cases ec;refine⟨NG,T.N.kG.xc,λea Rt=>?_⟩;show (if CG=CN then _ else (if CG=CF then _ else (if CG=CG then _ else _)));rw[if_neg n2,if_neg n3,if_pos rfl];intro ev;refine af (aE (kS (aa (jW aH) v_ ag) ⟨Vi.ak _,trivial⟩ (by show 1<=1000;decide)) λv2 H2 s2 r2=>hq v2 H2 (s'.trans s2) ?_);rw[et];exact oV.Po r2 λus hu=>by obtain⟨v1,rfl,rfl⟩:=lS hu;rfl
end
open PySem.W (WData)
section
variable{P:Program}{w:World}{K:Frag}{h:Heap}{mg:Str->Option Value}
theorem Qz(X:K.In h)(G:h.Ns mainGlobals mg){x:Str}{st:Stmt}{ps:List Str}{f:Addr}{oc:Value}{od an:Option Addr}{tH:Array (Option Value)}{kV doc pm bL ct:Value}(a:nsIn K mainGlobals x=some (some (.ref f)))(l:K.lookup f=some ⟨oc,od,.func (fnOf x x (fz st) (cq st) (ax st) .none kV doc pm an bL ct),tH⟩)
  (c:PySem.W.codeIn K bL x=true)(k:keepIn K (.ref f)=true)(b:∀(kV doc pm:Value) (an:Option Addr) (bL ct:Value) (us:List Value),us.length=ps.length->bindArgs (fnOf x x (fz st) (cq st) (ax st) .none kV doc pm an bL ct) ⟨us,[]⟩=pure (ps.zip us)):fA K mg x st ps :=
 ⟨f,_,jU l c k,PySem.W.mg_of X G a,(jU l c k).lH b⟩
theorem QA(X:K.In h)(G:h.Ns mainGlobals mg){x:Str}{i:Int}{t:Nat}(a:nsIn K mainGlobals x=some (some (.int i t))):nO mg x i:=⟨t,PySem.W.mg_of X G a⟩
theorem E4(X:K.In h)(G:h.Ns mainGlobals mg){x:Str}{xs:List V}{f:Addr}{od:Option Addr}{cp:Array Value}{n:Nat}{tH:Array (Option Value)}(a:nsIn K mainGlobals x=some (some (.ref f)))(l:K.lookup f=some ⟨.type "tuple",od,.seq cp n,tH⟩)(z:cp.size<=sizeLine)(v:cC xs cp.toList):MF K mg x xs :=
 ⟨f,PySem.W.mg_of X G a,λH=>.inr ⟨_,cp,n,l,rfl,rfl,z,v⟩⟩
theorem QB(X:K.In h)(G:h.Ns mainGlobals mg){x q:Str}{st:Stmt}{names:List Str}{C f:Addr}{oc:Value}{od an:Option Addr}{tH:Array (Option Value)}{kV doc pm bL ct:Value}(a:nsIn K mainGlobals x=some (some (.ref C)))
  (pg:PySem.W.plainGet K C Str.empty=true)(hd:PySem.W.hasDictIn K C=true)(po:PySem.W.plainOver K C=true)(sa:findIn K (.ref C) "__setattr__"=some (some (.builtin "object.__setattr__")))(mk:PySem.W.makesIn K C=true)(kc:keepIn K (.ref C)=true)
  (i:findIn K (.ref C) "__init__"=some (some (.ref f)))(fn:PySem.W.isFn K (.ref f)=true)(l:K.lookup f=some ⟨oc,od,.func (fnOf "__init__" q (fz st) (cq st) (ax st) .none kV doc pm an bL ct),tH⟩)(c:PySem.W.codeIn K bL q=true)(k:keepIn K (.ref f)=true)
  (no:∀n∈names,findIn K (.ref C) n=some none)
  (b:∀(kV doc pm:Value) (an:Option Addr) (bL ct:Value) (us:List Value),us.length=(("self":Str)::names).length->bindArgs (fnOf "__init__" q (fz st) (cq st) (ax st) .none kV doc pm an bL ct) ⟨us,[]⟩=pure ((("self":Str)::names).zip us)):jG K mg x st names C :=
 ⟨⟨pg,hd,po,sa⟩,no,PySem.W.mg_of X G a,f,_,q,⟨mk,i,fn,kc⟩,jU l c k,(jU l c k).lH b⟩
theorem M9{N:Addr}{c:Value}{d:Option Addr}{es:Array DictEntry}{ep:Nat}{sl:Array (Option Value)}(l:K.lookup N=some ⟨c,d,.dict es ep,sl⟩)(hh:(es.all λe=>match e.key with |.str _ _=>true |_=>false)=true):PySem.W.nsOkIn K N=true:=by
 unfold PySem.W.nsOkIn;rw[l];exact hh
theorem Uf{C N:Addr}{nm q:Str}{bs:List Value}{sn:List Str}{sub:List Value}{ab:Bool}{col:Option Bool}{dd:Option Addr}{k0 k1 k2 k3 k5:Option Value}{c:Value}{d:Option Addr}{es:Array DictEntry}{ep:Nat}{sl:Array (Option Value)}(o:K.lookup C=some (Fx.Il nm q C N bs sn sub ab col dd k0 k1 k2 k3 k5))(l:K.lookup N=some ⟨c,d,.dict es ep,sl⟩)(hh:(es.toList.all λe=>match e.key with |.str _ _=>true |_=>false)=true)
  (sa:nsIn K N "__setattr__"=some none)(ga:nsIn K N "__getattribute__"=some none)(gt:nsIn K N "__getattr__"=some none)(kp:keepIn K (.ref C)=true):XC K C N :=
 ⟨⟨_,_,_,_,_,_,_,_,_,_,_,_,_,o⟩,M9 l (Array.all_toList.symm.trans hh),sa,ga,gt,kp⟩
theorem Oi(X:K.In h)(G:h.Ns mainGlobals mg){x q:Str}{st:Stmt}{names:List Str}{C N f:Addr}{oc:Value}{od an:Option Addr}{tH:Array (Option Value)}{kV doc pm bL ct:Value}(xc:XC K C N)(a:nsIn K mainGlobals x=some (some (.ref C)))(e:nsIn K mainGlobals "Exception"=some none)(xa:∀n∈names,XA K N n)
  (i:nsIn K N "__init__"=some (some (.ref f)))(fn:PySem.W.isFn K (.ref f)=true)(l:K.lookup f=some ⟨oc,od,.func (fnOf "__init__" q (fz st) (cq st) (ax st) .none kV doc pm an bL ct),tH⟩)(c:PySem.W.codeIn K bL q=true)(k:keepIn K (.ref f)=true)
  (b:∀(kV doc pm:Value) (an:Option Addr) (bL ct:Value) (us:List Value),us.length=(("self":Str)::names).length->bindArgs (fnOf "__init__" q (fz st) (cq st) (ax st) .none kV doc pm an bL ct) ⟨us,[]⟩=pure ((("self":Str)::names).zip us)):XR K mg x st names C N :=
 ⟨xc,PySem.W.mg_of X G a,PySem.W.mg_none_of X G e,xa,f,_,q,i,fn,jU l c k,(jU l c k).lH b⟩
theorem Oj(X:K.In h)(G:h.Ns mainGlobals mg){x:Str}{C N:Addr}(xc:XC K C N)(a:nsIn K mainGlobals x=some (some (.ref C)))(i:nsIn K N "__init__"=some none):X0 K mg x C N:=⟨xc,PySem.W.mg_of X G a,i⟩
theorem Na{C f:Addr}{m q:Str}{st:Stmt}{ps:List Str}{oc:Value}{od an:Option Addr}{tH:Array (Option Value)}{kV doc pm bL ct:Value}(i:findIn K (.ref C) m=some (some (.ref f)))(fn:PySem.W.isFn K (.ref f)=true)(l:K.lookup f=some ⟨oc,od,.func (fnOf m q (fz st) (cq st) (ax st) .none kV doc pm an bL ct),tH⟩)(c:PySem.W.codeIn K bL q=true)(k:keepIn K (.ref f)=true)
  (b:∀(kV doc pm:Value) (an:Option Addr) (bL ct:Value) (us:List Value),us.length=ps.length->bindArgs (fnOf m q (fz st) (cq st) (ax st) .none kV doc pm an bL ct) ⟨us,[]⟩=pure (ps.zip us)):∃f fd q,zw K C m f/\rg K m q st f fd/\fG K fd ps [] :=
 ⟨f,_,q,⟨i,fn,k⟩,jU l c k,(jU l c k).lH b⟩
theorem Nb{C f:Addr}{q:Str}{st:Stmt}{ps:List Str}{oc:Value}{od an:Option Addr}{tH:Array (Option Value)}{kV doc pm bL ct:Value}(mk:PySem.W.makesIn K C=true)(kc:keepIn K (.ref C)=true)(i:findIn K (.ref C) "__init__"=some (some (.ref f)))(fn:PySem.W.isFn K (.ref f)=true)(l:K.lookup f=some ⟨oc,od,.func (fnOf "__init__" q (fz st) (cq st) (ax st) .none kV doc pm an bL ct),tH⟩)(c:PySem.W.codeIn K bL q=true)(k:keepIn K (.ref f)=true)
  (b:∀(kV doc pm:Value) (an:Option Addr) (bL ct:Value) (us:List Value),us.length=ps.length->bindArgs (fnOf "__init__" q (fz st) (cq st) (ax st) .none kV doc pm an bL ct) ⟨us,[]⟩=pure (ps.zip us)):∃f fd q,Mk K C f/\rg K "__init__" q st f fd/\fG K fd ps [] :=
 ⟨f,_,q,⟨mk,i,fn,kc⟩,jU l c k,(jU l c k).lH b⟩
def XD(K:Frag):Sp:=λvs H Q E=>∃(line p:Nat) (t x y u v:List UInt8),t.length<2^59/\jx [Vi (.int line),Vi (.int p),Tx K t,Tx K x,Tx K y,Tx K u,Tx K v] (oV ((My.iL line p t x y u v).map V.int)) vs H Q E
abbrev U5:List Str:=["line","p","t","x","y","u","v"]
theorem QC(ht:P.given.tree=none)(X:K.In h)(G:h.Ns mainGlobals mg){fa:Addr}(hfa:mg "trace"=some (.ref fa)){CI CT CL CS CP CX NX CN NN CG NG CF NF CK CR CY:Addr}
  (aI:nsIn K mainGlobals "Interval"=some (some (.ref CI)))(aT:nsIn K mainGlobals "Triple"=some (some (.ref CT)))(aL:nsIn K mainGlobals "Light"=some (some (.ref CL)))(aS:nsIn K mainGlobals "Shape"=some (some (.ref CS)))(aP:nsIn K mainGlobals "Part"=some (some (.ref CP)))
  (aK:nsIn K mainGlobals "Token"=some (some (.ref CK)))(aR:nsIn K mainGlobals "Reader"=some (some (.ref CR)))(aY:nsIn K mainGlobals "System"=some (some (.ref CY)))
  (aX:nsIn K mainGlobals "Lost"=some (some (.ref CX)))(aN:nsIn K mainGlobals "NotTaken"=some (some (.ref CN)))(aG:nsIn K mainGlobals "TooGreat"=some (some (.ref CG)))(aF:nsIn K mainGlobals "TextFault"=some (some (.ref CF)))
  (xX:XC K CX NX)(xN:XC K CN NN)(xG:XC K CG NG)(xF:XC K CF NF)
  (n1:CF≠CN)(n2:CG≠CN)(n3:CG≠CF)
  (ti:Ti K mg CI)(tr:Ti K mg CI->Tr K mg CI CT CL CS CP)(rX:XR K mg "Lost" EK w8 CX NX)(tn:Ti K mg CI->X0 K mg "NotTaken" CN NN->X0 K mg "TooGreat" CG NG->Tn K mg CI CN NN CG NG)(iN:nsIn K NN "__init__"=some none)(iG:nsIn K NG "__init__"=some none)
  (td:Tz K mg CI CT CL CS CP CX NX->Tn K mg CI CN NN CG NG->Td K mg CI CT CL CS CP CX NX CN NN CG NG)(tt:Tn K mg CI CN NN CG NG->Tt K mg CI CN NN CG NG CF NF CK)(ty:Tt K mg CI CN NN CG NG CF NF CK->jG K mg "Shape" sS nS CS->jG K mg "Part" sP nP CP->mg "Reader"=some (.ref CR)->BA K mg CI CN NN CG NG CF NF CK CS CP CR CY) :
  ∃fd:FuncData,(∀(s:Shared) (us:List Value),us.length=U5.length->BindsTo s fd ⟨us,[]⟩ (U5.zip us))/\∀base:Heap,K.In base->base.Ns mainGlobals mg->Bs base->g5 P w K mg base (rh P w) 47 fa fd U5 (XD K):=by
 have r:=tr ti;have z:Tz K mg CI CT CL CS CP CX NX:=⟨r,rX⟩
 have n:=tn ti (Oj X G xN aN iN) (Oj X G xG aG iG);have d:=td z n;have t:=tt n;have y:=ty t r.RS r.RP (PySem.W.mg_of X G aR);obtain⟨f,fd,F,hm,hb⟩:=d.trace;have e:=hfa.symm.trans hm;cases e;obtain⟨oc,od,kV,doc,pm,an,bL,ct,tH,rfl,lk,lA⟩:=F.ex;refine⟨fnOf "trace" "trace" (fz (top 116)) (cq (top 116)) (ax (top 116)) .none kV doc pm an bL ct,λs us hu=>match us,hu with |[_,_,_,_,_,_,_],_=>.of_eq rfl,λbase _ _ B=>?_⟩;have G':pH P base:=⟨B,ht⟩
 exact⟨λvs H Q E ⟨line,p,t',x,y',u,v,hl,h⟩=>(A8 (P:=P) (w:=w) (base:=base) G' d y F r.through n1 n2 n3 line p t' x y' u v hl).len vs H Q E h,λA ai s H args us vs Q E hr he W6 hv ⟨line,p,t',x,y',u,v,hl,h⟩=>(A8 (P:=P) (w:=w) (base:=base) G' d y F r.through n1 n2 n3 line p t' x y' u v hl).run A ai s H args us vs Q E hr he W6 hv h⟩
end
open PySem.W (Codec OpenSpec) in
theorem A9{r:OpenSpec}{k:Nat}{q:Program}{loose:List Str}{XP:(Str->Option Value)->Heap->Prop}{YP:World->Heap->Prop}{d:DefRec}{K:Params->Frag}{ps:List Str}{sp:Frag->Sp}
  (Iz:r.wellSaid=true)(Yf:d.params.defaults=[])(hlen:r.args.length=ps.length)(hr:cx k callerA)(himp:importsNone q=true)
  (hY:∀(w:World) (h:Heap),YP w h->(K w.params).In h)
  (F:∀(w:World) (mg:Str->Option Value) (fa:Addr) (h:Heap),YP w h->(K w.params).In h->h.Ns mainGlobals mg->mg d.name=some (.ref fa) ->
   ∃fd:FuncData,(∀(s:Shared) (us:List Value),us.length=ps.length->BindsTo s fd ⟨us,[]⟩ (ps.zip us)) /\
    ∀base:Heap,(K w.params).In base->base.Ns mainGlobals mg->Bs base->g5 r.prog w (K w.params) mg base (rh r.prog w) k fa fd ps (sp (K w.params)))
  (pW:∀(K:Frag) (H:Hp) (xs:List V) (a:Codec.denoteAll r.args),zN H->Codec.withinAll r.args a=true->Codec.app r.args r.asked a=true->km K H xs (Codec.encAll r.args a) ->
   sp K xs H (λv H'=>Dw K H' v (r.ret.enc (Codec.app r.args r.f a))) λ_ _ _=>False) :
  PySem.W.WalkOS q loose XP YP r d [] (λf vs=>PySem.call f vs) :=
 B5 (sp:=λw=>sp (K w.params)) Iz Yf hlen hr himp hY F λw H xs a h1 h2 h3 h4=>pW (K w.params) H xs a h1 h2 h3 h4
theorem G2{l:List Int}(h:∀z∈l,0<=z/\z<=255):(LensENeutral.text l).map (λ(c:UInt8)=>(c.toNat:Int))=l:=by
 unfold LensENeutral.text LensENeutral.nats;rw[List.map_map,List.map_map]
 conv=>rhs;rw[<-List.map_id l]
 refine List.map_congr_left λz hz=>?_;obtain⟨h1,h2⟩:=h z hz;show (((UInt8.ofNat z.toNat).toNat:Nat):Int)=z;rw[UInt8.toNat_ofNat'];omega
theorem Ba{K:Frag}{H:Hp}{v:V}{l:List Int}(h:∀z∈l,0<=z/\z<=255)(d:Dw K H v (.list (l.map WData.int))):Tx K (LensENeutral.text l) v H:=by
 cases d with
 |de hs ha =>
  have e:=L2.D4 l _ ha;subst e;refine⟨_,rfl,?_⟩;have e2:((LensENeutral.text l).map λc=>V.int (c.toNat:Int))=l.map V.int:=by
   conv=>rhs;rw[<-G2 h]
   rw[List.map_map];rfl
  rw[e2];exact hs
theorem G3(line p:Int)(t x y u v:List Int):PyWqbbbp.trace line p t x y u v=My.iL line.toNat p.toNat (LensENeutral.text t) (LensENeutral.text x) (LensENeutral.text y) (LensENeutral.text u) (LensENeutral.text v):=My.yD line.toNat p.toNat _ _ _ _ _
theorem Ug{K:Frag}{H:Hp}{xs:List V}{line p:Int}{t x y u v:List Int}(hl:0<=line)(hp:0<=p)(ht:∀z∈t,0<=z/\z<=255)(hx:∀z∈x,0<=z/\z<=255)(hy:∀z∈y,0<=z/\z<=255)(hu:∀z∈u,0<=z/\z<=255)(hv:∀z∈v,0<=z/\z<=255)(hlen:t.length<=70000)
  (d:km K H xs [.int line,.int p,.list (t.map WData.int),.list (x.map WData.int),.list (y.map WData.int),.list (u.map WData.int),.list (v.map WData.int)]) :
  XD K xs H (λv' H'=>Dw K H' v' (.list ((PyWqbbbp.trace line p t x y u v).map WData.int))) λ_ _ _=>False:=by
 cases d with |cons d1 d=>cases d with |cons d2 d=>cases d with |cons d3 d=>cases d with |cons d4 d=>cases d with |cons d5 d=>cases d with |cons d6 d=>cases d with |cons d7 d =>
 cases d;cases d1;cases d2;refine⟨line.toNat,p.toNat,LensENeutral.text t,LensENeutral.text x,LensENeutral.text y,LensENeutral.text u,LensENeutral.text v,?_,⟨?_,?_,Ba ht d3,Ba hx d4,Ba hy d5,Ba hu d6,Ba hv d7,trivial⟩,λv' H' _ ⟨q,e,hq⟩=>?_⟩
 ·unfold LensENeutral.text LensENeutral.nats;rw[List.length_map,List.length_map];omega
 ·show V.int line=V.int (line.toNat:Int);rw[Int.toNat_of_nonneg hl]
 ·show V.int p=V.int (p.toNat:Int);rw[Int.toNat_of_nonneg hp]
 ·rw[e,G3];exact .de (L2.nZ.of hq) (L2.D3 _)
end Pg
end
set_option Elab.async false
set_option linter.all false
namespace PySem.W.Fast
def tw526013997762081021:=0
def tw6238233659670734336:=0
def tw11972127082075713199:=0
def tw5919649434101156940:=0
def tw2590971936981962586:=0
def tw5466197880209444125:=0
def tw14777196937155497503:=0
def tw1116822968928067084:=0
def tw17937794715268937653:=0
def tw10164274963430946162:=0
def tw6682071824159223766:=0
def tw10464566790980091243:=0
def tw8753484634402609980:=0
def tw2440667656901627349:=0
def tw2595984665754033453:=0
def tw2742002525729121125:=0
def tw3870815187873789843:=0
def tw8034128990846351291:=0
def tw9032597284757634063:=0
def tw11186209115165078736:=0
def tw15298910912310318522:=0
def tw8295383236028619207:=0
def tw12126846659693913110:=0
def tw11158746838973652941:=0
def tw10758175143547707200:=0
def tw8442652538604175774:=0
def tw9738983342983145915:=0
def tw7469732683142859813:=0
def tw16973956234515410937:=0
def tw6496649899403604250:=0
def tw9268961860753615804:=0
def tw5722712851480018119:=0
def tw17046571096790803989:=0
def tw1058388063604274703:=0
def tw12884937357865803277:=0
def tw1979305320740641878:=0
def tw5193886050700727871:=0
def tw11907075678112032843:=0
def tw6449988602689212889:=0
def tw8433002060327568650:=0
def tw5087227119574758979:=0
def tw7734346256688277472:=0
def tw1428783167927782070:=0
def tw14029803639355900355:=0
def tw10812642970652577369:=0
def tw7058493511611275615:=0
def tw14237554397658238008:=0
def tw7946981703387717883:=0
def tw12605238798429667457:=0
def tw16388915749375513374:=0
def tw18311251414700310203:=0
def tw18045065137842697997:=0
def tw17031580979855877602:=0
def tw4467788653527389620:=0
def tw10298709795707016359:=0
def tw3017282712612158959:=0
def tw16535017238529639405:=0
def tw16192658488781411398:=0
def tw5943758165519310268:=0
def tw10695618529603929958:=0
def tw15773749381138705167:=0
def tw8976322197212080850:=0
def tw11533677185806175961:=0
def tw7454411338205885763:=0
def tw5225655793632357620:=0
def tw7003283271066711397:=0
def tw3512327289199136529:=0
def tw2194083301809169492:=0
def tw447098109246335363:=0
def tw8900444056068718357:=0
def tw5491607776819408639:=0
def tw13648034661477038075:=0
def tw17628168600481203452:=0
def tw7849015297389526777:=0
def tw18436864988356001674:=0
def tw17566725400283957741:=0
def tw14804274888888835878:=0
def tw17457448220540587501:=0
def tw1963890085888439822:=0
def tw7613184320444786286:=0
def tw12823452758517514880:=0
def tw1010947611726300551:=0
def tw1475182932321079288:=0
def tw12498995223933517936:=0
def tw4262672847737946435:=0
def tw952535064862559275:=0
def tw13897199611666619660:=0
def tw1677857838710679437:=0
def tw2094916893303018649:=0
def tw4508394885007950707:=0
def tw16404549450931673251:=0
def tw16667273030599161175:=0
def tw6981202325116607594:=0
def tw9826037889884918:=0
def tw3697838435412066850:=0
def tw15254155939305061964:=0
def tw11007795350906062505:=0
def tw4259214193065783455:=0
def tw871969683224789919:=0
def tw1649083614464617066:=0
def tw9185739259013547939:=0
def tw12948347071990084564:=0
def tw13855829312129976352:=0
def tw616400244965129719:=0
def tw16356259501713010532:=0
def tw1911209996526207481:=0
def tw8001577622901758353:=0
def tw1370742903487156367:=0
def tw11675650427535744327:=0
def tw17004785197968195583:=0
def tw11961111387388218661:=0
def tw17433901629289422748:=0
def tw2848579465117344835:=0
def tw11705831270899224741:=0
def tw18016826794571793679:=0
def tw532659218392057408:=0
def tw4844635712140857026:=0
def tw13853168810983065440:=0
def tw5662729525838061308:=0
def tw18111212469268955473:=0
def tw15355709059089967268:=0
def tw15882788828663614080:=0
def tw2267332044486623826:=0
def tw10759217556132285870:=0
def tw3212118871871955923:=0
def tw13095286986217763545:=0
def tw6401144792629823807:=0
def tw2787426026690264685:=0
def tw2884123124878795739:=0
def tw1846093454836084469:=0
def tw3331625096892642423:=0
def tw16576656782675017732:=0
def tw15958444867462223615:=0
def tw7293543664753602215:=0
def tw6249377486152274545:=0
def tw18393769530210088605:=0
def tw14685507575885981520:=0
def tw4494434947429390740:=0
def tw10235254247779703605:=0
def tw12490739567731147566:=0
def tw4659730668779623795:=0
def tw9537250555455237758:=0
def tw9114404066553130003:=0
def tw9694084332402271184:=0
def tw2110679973100783512:=0
def tw13965279801016973236:=0
def tw2598044563671586485:=0
def tw14870931800437131182:=0
def tw8321513353516421894:=0
def tw9663268173154124595:=0
end PySem.W.Fast
open PySem PySem.W PyProof.Rows
local macro_rules | `(tactic|sleep 1)=>`(tactic|(show findIn _ _ _=_;k_is))
set_option hygiene false in
local macro_rules | `(tactic|sleep 2)=>`(tactic|(refine' Pg.Qz KX G ?a ?l ?c ?k ?b;(case a=>k_is);(case l=>k_is);(case c=>k_is);(case k=>k_is)))
set_option hygiene false in
local macro_rules | `(tactic|sleep 3)=>`(tactic|(refine' Pg.Na ?i ?fn ?l ?c ?k ?b;(case i=>k_is);(case fn=>k_is);(case l=>k_is);(case c=>k_is);(case k=>k_is)))
set_option hygiene false in
local macro_rules | `(tactic|sleep 4)=>`(tactic|(refine' Pg.QB KX G ?a ?pg ?hd ?po ?sa ?mk ?kc ?i ?fn ?l ?c ?k ?no ?b;(case a=>k_is);(case pg=>k_is);(case hd=>k_is);(case po=>k_is);(case sa=>k_is);(case mk=>k_is);(case kc=>k_is);(case i=>k_is);(case fn=>k_is);(case l=>k_is);(case c=>k_is);(case k=>k_is)))
set_option hygiene false in
local macro_rules | `(tactic|sleep 5)=>`(tactic|(refine' Pg.Uf ?xo ?xl ?xh ?xs ?xg ?xt ?xk;(case xo=>k_is);(case xl=>k_is);(case xh=>rfl);(case xs=>k_is);(case xg=>k_is);(case xt=>k_is);(case xk=>k_is)))
set_option hygiene false in
local macro_rules | `(tactic|sleep 6)=>`(tactic|(refine' Pg.QA KX G ?a;(case a=>k_is)))
set_option hygiene false in
local macro_rules | `(tactic|sleep 7)=>`(tactic|(refine' PySem.W.mg_none_of KX G ?a;(case a=>k_is)))
local macro_rules | `(tactic|sleep 8)=>`(tactic|(refine List.forall_mem_cons.mpr ⟨?_,?_⟩;k_is))
local macro_rules | `(tactic|sleep 9)=>`(tactic|(sleep 8;sleep 8;exact λ_ h=>absurd h (List.not_mem_nil)))
local macro_rules | `(tactic|sleep 10)=>`(tactic|(sleep 8;sleep 8;sleep 8;exact λ_ h=>absurd h (List.not_mem_nil)))
local macro_rules | `(tactic|sleep 11)=>`(tactic|(sleep 8;sleep 8;sleep 8;sleep 8;exact λ_ h=>absurd h (List.not_mem_nil)))
local macro_rules | `(tactic|sleep 12)=>`(tactic|(sleep 8;sleep 8;sleep 8;sleep 8;sleep 8;exact λ_ h=>absurd h (List.not_mem_nil)))
local macro_rules | `(tactic|sleep 13)=>`(tactic|exact λ_ _ _ _ _ _ us hl=>match us,hl with |[_],_=>rfl)
local macro_rules | `(tactic|sleep 14)=>`(tactic|exact λ_ _ _ _ _ _ us hl=>match us,hl with |[_,_],_=>rfl)
local macro_rules | `(tactic|sleep 15)=>`(tactic|exact λ_ _ _ _ _ _ us hl=>match us,hl with |[_,_,_],_=>rfl)
local macro_rules | `(tactic|sleep 16)=>`(tactic|exact λ_ _ _ _ _ _ us hl=>match us,hl with |[_,_,_,_],_=>rfl)
local macro_rules | `(tactic|sleep 17)=>`(tactic|exact λ_ _ _ _ _ _ us hl=>match us,hl with |[_,_,_,_,_],_=>rfl)
local macro_rules | `(tactic|sleep 18)=>`(tactic|exact λ_ _ _ _ _ _ us hl=>match us,hl with |[_,_,_,_,_,_],_=>rfl)
local macro_rules | `(tactic|sleep 19)=>`(tactic|exact λ_ _ _ _ _ _ us hl=>match us,hl with |[_,_,_,_,_,_,_],_=>rfl)
local macro_rules | `(tactic|sleep 20)=>`(tactic|(rw[typeLookup_type,builtinLookup_eq_fast];kernel_rfl))
set_option maxRecDepth 100000 in
set_option maxHeartbeats 0 in
theorem PySem.Challenge.cw_enclosedrays_s01_trace_holds : PySem.Challenge.rw_enclosedrays_s01_trace.Holds := by
 w_on;k_headS;(case hw=>exact⟨[.int 0,.int 0,.list [],.list [],.list [],.list [],.list []],by decide +kernel,by decide +kernel⟩)
 k_fillS
 refine Pg.A9 (r:=PySem.Challenge.rw_enclosedrays_s01_trace) (k:=47) (ps:=Pg.U5) (sp:=Pg.XD) (by decide +kernel) rfl rfl ⟨rfl,by decide,by decide⟩ (by decide +kernel) (λw h Y=>PySem.W.kIn_of Y) ?F ?S
 case F =>
  intro w mg fa h Y KX G hmg;refine' Pg.QC rfl KX G hmg ?aI ?aT ?aL ?aS ?aP ?aK ?aR ?aY ?aX ?aN ?aG ?aF ?xX ?xN ?xG ?xF ?n1 ?n2 ?n3 ?ti ?tr ?rX ?tn ?iN ?iG ?td ?tt ?ty
  (case aI=>k_is)
  (case aT=>k_is)
  (case aL=>k_is)
  (case aS=>k_is)
  (case aP=>k_is)
  (case aK=>k_is)
  (case aR=>k_is)
  (case aY=>k_is)
  (case aX=>k_is)
  (case aN=>k_is)
  (case aG=>k_is)
  (case aF=>k_is)
  (case xX=>sleep 5)
  (case xN=>sleep 5)
  (case xG=>sleep 5)
  (case xF=>sleep 5)
  (case n1=>decide)
  (case n2=>decide)
  (case n3=>decide)
  (case iN=>k_is)
  (case iG=>k_is)
  (case ti=>(refine' ⟨?f_R,?Kl,?Nc,?G4,?Dx,?QD,?yQ,?Nf,?Km,?QE,?Kn,?G5,?yR,?Bb,?G6,?Bc,?Dy,?QH,?XE,?XF⟩;(case f_R=>(sleep 4;(case no=>sleep 10);(case b=>sleep 16)));(case Kl=>(sleep 2;case b=>sleep 14));(case Nc=>(sleep 2;case b=>sleep 13));(case G4=>(sleep 2;case b=>sleep 13));(case Dx=>(sleep 2;case b=>sleep 13));(case QD=>(sleep 2;case b=>sleep 14));(case yQ=>(sleep 2;case b=>sleep 14));(case Nf=>(sleep 2;case b=>sleep 14));(case Km=>(sleep 2;case b=>sleep 13));(case QE=>(sleep 2;case b=>sleep 14));(case Kn=>(sleep 2;case b=>sleep 14));(case G5=>(sleep 2;case b=>sleep 15));(case yR=>(sleep 2;case b=>sleep 14));(case Bb=>(sleep 2;case b=>sleep 14));(case G6=>(sleep 2;case b=>sleep 14));(case Bc=>(sleep 2;case b=>sleep 13));(case Dy=>(sleep 2;case b=>sleep 13));(case QH=>(sleep 2;case b=>sleep 14));(case XE=>sleep 7);(case XF=>sleep 7)))
  (case tr=>(intro ti;refine' ⟨?Uh,?XG,?XH,?QI,?QJ,?QK,?Ng,?Ko,?Be,?G7,?Nh,?Kp,?yS,?QL,?Kq,?Dz,?Bf,?DA,?QM,?yT,?yU,?G8,?Kr,?G9,?yV,?QN⟩;(case Uh=>assumption);(case XG=>(sleep 4;(case no=>sleep 10);(case b=>sleep 16)));(case XH=>(sleep 4;(case no=>sleep 11);(case b=>sleep 17)));(case QI=>(sleep 4;(case no=>sleep 9);(case b=>sleep 15)));(case QJ=>(sleep 4;(case no=>sleep 12);(case b=>sleep 18)));(case QK=>(sleep 2;case b=>sleep 15));(case Ng=>(sleep 2;case b=>sleep 15));(case Ko=>(sleep 2;case b=>sleep 16));(case Be=>(sleep 2;case b=>sleep 14));(case G7=>(sleep 2;case b=>sleep 14));(case Nh=>(sleep 2;case b=>sleep 14));(case Kp=>(sleep 2;case b=>sleep 15));(case yS=>(sleep 2;case b=>sleep 14));(case QL=>(sleep 2;case b=>sleep 14));(case Kq=>(sleep 2;case b=>sleep 17));(case Dz=>(sleep 2;case b=>sleep 15));(case Bf=>(sleep 2;case b=>sleep 15));(case DA=>(sleep 2;case b=>sleep 16));(case QM=>(sleep 2;case b=>sleep 17));(case yT=>(sleep 2;case b=>sleep 15));(case yU=>(sleep 2;case b=>sleep 16));(case G8=>sleep 6);(case Kr=>sleep 6);(case G9=>sleep 6);(case yV=>sleep 6);(case QN=>sleep 6)))
  (case rX=>(refine' Pg.Oi KX G ?x ?a ?e ?xa ?i ?fn ?l ?c ?k ?b;(case x=>sleep 5);(case a=>k_is);(case e=>k_is);(case xa=>(refine List.forall_mem_cons.mpr ⟨⟨?_,by sleep 20⟩,?_⟩;k_is;exact λ_ h=>absurd h (List.not_mem_nil)));(case i=>k_is);(case fn=>k_is);(case l=>k_is);(case c=>k_is);(case k=>k_is);(case b=>sleep 14)))
  (case tn=>(intro ti xN xG;refine' ⟨?Uh,?DB,?DC,?Hc,?Bg,?vM,?uX,?rR,?yW,?rT,?yX,?Bh,?Ni,?Ks,?yQ,?He,?Nj,?QO,?f_len,?Nk,?Ui,?Uj⟩;(case Uh=>assumption);(case DB=>assumption);(case DC=>assumption);(case Hc=>(sleep 2;case b=>sleep 13));(case Bg=>(sleep 2;case b=>sleep 14));(case vM=>(sleep 2;case b=>sleep 15));(case uX=>(sleep 2;case b=>sleep 16));(case rR=>(sleep 2;case b=>sleep 14));(case yW=>(sleep 2;case b=>sleep 14));(case rT=>(sleep 2;case b=>sleep 14));(case yX=>(sleep 2;case b=>sleep 13));(case Bh=>(sleep 2;case b=>sleep 14));(case Ni=>sleep 6);(case Ks=>sleep 6);(case yQ=>sleep 6);(case He=>sleep 6);(case Nj=>sleep 6);(case QO=>sleep 6);(case f_len=>sleep 7);(case Nk=>sleep 7);(case Ui=>sleep 7);(case Uj=>sleep 7)))
  (case td=>(intro tz tn;refine' ⟨?f_Z,?XI,?DE,?yY,?Bi,?uY,?Kt,?Nl,?DF,?Ku,?vN⟩;(case f_Z=>assumption);(case XI=>assumption);(case DE=>(sleep 2;case b=>sleep 13));(case yY=>(sleep 2;case b=>sleep 13));(case Bi=>(sleep 2;case b=>sleep 13));(case uY=>(sleep 2;case b=>sleep 16));(case Kt=>(sleep 2;case b=>sleep 16));(case Nl=>(sleep 2;case b=>sleep 19));(case DF=>sleep 6);(case Ku=>sleep 6);(case vN=>sleep 6)))
  (case tt=>(intro tn;refine' ⟨?XI,?Nm,?XJ,?yZ,?DG,?y6,?y8,?Hg,?y9,?Kv,?vO,?QP,?Nn,?No,?Kw,?DH,?QQ,?Bj,?vP,?za,?Hh,?Uk,?Np⟩;(case XI=>assumption);(case Nm=>(refine' Pg.Oi KX G ?x ?a ?e ?xa ?i ?fn ?l ?c ?k ?b;(case x=>sleep 5);(case a=>k_is);(case e=>k_is);(case xa=>(refine List.forall_mem_cons.mpr ⟨⟨?_,by sleep 20⟩,?_⟩;k_is;refine List.forall_mem_cons.mpr ⟨⟨?_,by sleep 20⟩,?_⟩;k_is;exact λ_ h=>absurd h (List.not_mem_nil)));(case i=>k_is);(case fn=>k_is);(case l=>k_is);(case c=>k_is);(case k=>k_is);(case b=>sleep 15)));(case XJ=>(sleep 4;(case no=>sleep 11);(case b=>sleep 17)));(case yZ=>(sleep 2;case b=>sleep 13));(case DG=>(sleep 2;case b=>sleep 13));(case y6=>(sleep 2;case b=>sleep 14));(case y8=>(sleep 2;case b=>sleep 14));(case Hg=>(sleep 2;case b=>sleep 13));(case y9=>(sleep 2;case b=>sleep 14));(case Kv=>(sleep 2;case b=>sleep 14));(case vO=>(sleep 2;case b=>sleep 14));(case QP=>(sleep 2;case b=>sleep 14));(case Nn=>(refine' Pg.E4 KX G ?a ?l ?z ?v;(case a=>k_is);(case l=>k_is);(case z=>exact Nat.le_of_ble_eq_true rfl);(case v=>repeat (first |exact .nil |refine .cons ⟨_,rfl⟩ ?_))));(case No=>(refine' ⟨_,(PySem.W.mg_of KX G ?a).trans ?e⟩;(case a=>k_is);(case e=>(first |rfl |exact congrArg (λs=>some (Value.str s _)) (by kernel_rfl)))));(case Kw=>(refine' Pg.E4 KX G ?a ?l ?z ?v;(case a=>k_is);(case l=>k_is);(case z=>exact Nat.le_of_ble_eq_true rfl);(case v=>repeat (first |exact .nil |refine .cons ⟨_,rfl⟩ ?_))));(case DH=>sleep 6);(case QQ=>sleep 6);(case Bj=>sleep 6);(case vP=>sleep 6);(case za=>sleep 6);(case Hh=>sleep 6);(case Uk=>sleep 7);(case Np=>sleep 7)))
  (case ty=>(intro tt rs rp rm;refine' ⟨?Uh,?QI,?QJ,?XM,?Ul,?QR,?QS,?Um,?Nq,?QT,?Nr,?Nu,?zb,?Bk,?vQ,?Bl,?Bm,?Bn,?Bo,?Bp,?Bq,?DI,?zc,?vR,?Br,?Kx,?Nv,?Hi,?Hj,?Uo,?Up,?Uq⟩;(case Uh=>assumption);(case QI=>assumption);(case QJ=>assumption);(case XM=>(sleep 4;(case no=>sleep 9);(case b=>sleep 15)));(case Ul=>(refine' ⟨?a,?b,?c,?d⟩;(case a=>k_is);(case b=>k_is);(case c=>k_is);(case d=>k_is)));(case QR=>sleep 1);(case QS=>sleep 1);(case Um=>assumption);(case Nq=>(refine' Pg.Nb ?mk ?kc ?i ?fn ?l ?c ?k ?b;(case mk=>k_is);(case kc=>k_is);(case i=>k_is);(case fn=>k_is);(case l=>k_is);(case c=>k_is);(case k=>k_is);(case b=>sleep 14)));(case QT=>(sleep 3;case b=>sleep 13));(case Nr=>(sleep 3;case b=>sleep 14));(case Nu=>(sleep 3;case b=>sleep 14));(case zb=>(sleep 2;case b=>sleep 13));(case Bk=>(sleep 2;case b=>sleep 13));(case vQ=>(sleep 2;case b=>sleep 14));(case Bl=>(sleep 2;case b=>sleep 14));(case Bm=>(sleep 2;case b=>sleep 14));(case Bn=>(sleep 2;case b=>sleep 14));(case Bo=>(sleep 2;case b=>sleep 13));(case Bp=>(sleep 2;case b=>sleep 13));(case Bq=>(sleep 2;case b=>sleep 13));(case DI=>(sleep 2;case b=>sleep 15));(case zc=>(sleep 2;case b=>sleep 13));(case vR=>sleep 6);(case Br=>sleep 6);(case Kx=>sleep 6);(case Nv=>sleep 6);(case Hi=>sleep 6);(case Hj=>sleep 6);(case Uo=>sleep 6);(case Up=>decide);(case Uq=>decide)))
 case S =>
  intro K H xs a hO UH abX hx;obtain⟨line,p,t,x,y,u,v,_⟩:=a;have q:(Codec.inInt 0 4294967295 line && (Codec.inInt 0 4294967295 p && ((Codec.inLen 0 70000 t && t.all (Codec.inInt 0 255)) && ((Codec.inLen 0 3000 x && x.all (Codec.inInt 0 255)) && ((Codec.inLen 0 3000 y && y.all (Codec.inInt 0 255)) && ((Codec.inLen 0 3000 u && u.all (Codec.inInt 0 255)) && ((Codec.inLen 0 3000 v && v.all (Codec.inInt 0 255)) && true)))))))=true:=UH;simp only[Bool.and_eq_true,List.all_eq_true] at q;obtain⟨q1,q2,⟨q3,q4⟩,⟨_,q5⟩,⟨_,q6⟩,⟨_,q7⟩,⟨_,q8⟩,_⟩:=q;exact Pg.Ug (Codec.inInt_iff.mp q1).1 (Codec.inInt_iff.mp q2).1 (λz hz=>Codec.inInt_iff.mp (q4 z hz)) (λz hz=>Codec.inInt_iff.mp (q5 z hz)) (λz hz=>Codec.inInt_iff.mp (q6 z hz)) (λz hz=>Codec.inInt_iff.mp (q7 z hz)) (λz hz=>Codec.inInt_iff.mp (q8 z hz)) (Codec.inNat_iff.mp q3).2 hx
