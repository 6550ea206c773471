import Derived.Test.YtglbanolhhjjiaaGreatDoorFo21
namespace Go.Proofs.YtglbanolhhjjiaaGreatDoor
open Go.Proofs.Tryz
open Go.RowKit
set_option linter.unusedVariables false
set_option maxRecDepth 100000
set_option maxHeartbeats 32000000
section
abbrev Pl:=ByteArray×Int
def ndL(id:Int)(es:List En):NdK:=⟨id,true,es.map (·.1),es.map (·.2),[],[]⟩
def ndI(id:Int)(us:List Pl):NdK:=⟨id,false,[],[],us.map (·.2),us.tail.map (·.1)⟩
def SRep(ns:List NdK):Tr->List Nat->List Pl->Prop
 | .leaf id es,P,vs=> ∃p:Nat,P=[p]/\vs=[(strOfNums [],(p:Int))]/\ns[p]?=some (ndL id es)
 | .node id ks,P,vs=> ∃(p:Nat)(us:List Pl)(G:List Nat),P=p::G/\vs=[(strOfNums [],(p:Int))]/\ns[p]?=some (ndI id us)/\SRep ns ks G us
 | .nil,P,vs=>P=[]/\vs=[]
 | .cons s t ks,P,vs=> ∃(v:Int)(us:List Pl)(G1 G2:List Nat),P=G1++G2/\vs=(s,v)::us/\SRep ns t G1 [(strOfNums [],v)]/\SRep ns ks G2 us
variable {ns ms:List NdK}
theorem SRep.keep:∀{t:Tr}{P:List Nat}{b:List Pl},SRep ns t P b->(∀p∈P,ms[p]?=ns[p]?)->SRep ms t P b
 | .leaf id es,P,b,h,a=>by
  rw[SRep]at h ⊢;obtain⟨p,rfl,c,d⟩:=h;exact⟨p,rfl,c,(a p vo).trans d⟩
 | .node id ks,P,b,h,a=>by
  rw[SRep]at h ⊢;obtain⟨p,us,G,rfl,c,d,f⟩:=h;exact⟨p,us,G,rfl,c,(a p vo).trans d,f.keep (fun q e=>a q (by simp[e]))⟩
 | .nil,P,b,h,a=>by rw[SRep]at h ⊢;exact h
 | .cons s t ks,P,b,h,a=>by
  rw[SRep]at h ⊢;obtain⟨v,us,g,i,rfl,c,d,f⟩:=h;exact⟨v,us,g,i,rfl,c,d.keep (fun q e=>a q (by simp[e])),f.keep (fun q e=>a q (by simp[e]))⟩
theorem SRep.lt:∀{t:Tr}{P:List Nat}{c:List Pl},SRep ns t P c->∀p∈P,p<ns.length
 | .leaf id es,P,c,h,q,a=>by
  rw[SRep]at h;obtain⟨p,rfl,e,b⟩:=h;simp at a;subst a;exact(wC.1 b).1
 | .node id ks,P,c,h,q,a=>by
  rw[SRep]at h;obtain⟨p,us,G,rfl,e,b,d⟩:=h;rcases w3.1 a with rfl|a
  ·exact(wC.1 b).1
  ·exact d.lt q a
 | .nil,P,c,h,q,a=>by rw[SRep]at h;rw[h.1]at a;cases a
 | .cons s t ks,P,c,h,q,a=>by
  rw[SRep]at h;obtain⟨v,us,f,g,rfl,e,b,d⟩:=h;rcases w6.1 a with a|a
  ·exact b.lt q a
  ·exact d.lt q a
theorem SRep.grow{t P a}(h:SRep ns t P a)(b:∀p,p<ns.length->ms[p]?=ns[p]?):SRep ms t P a:=h.keep (fun p c=>b p (h.lt p c))
theorem er{x L P a}:SRep ns (kds (x::L)) P a↔∃(v:Int)(us:List Pl)(b c:List Nat),P=b++c/\a=(x.1,v)::us/\SRep ns x.2 b [(strOfNums [],v)]/\SRep ns (kds L) c us:=by
 show SRep ns (.cons x.1 x.2 (kds L)) P a↔_;rw[SRep]
theorem gE{P a}:SRep ns (kds []) P a↔P=[]/\a=[]:=by
 show SRep ns .nil P a↔_;rw[SRep]
theorem SRep.sg:∀{L:List Kd}{P:List Nat}{us:List Pl},SRep ns (kds L) P us->us.map (·.1)=L.map (·.1)
 |[],P,us,h=>by rw[(gE.1 h).2];rfl
 |x::L,P,us,h=>by
  obtain⟨v,us,b,c,rfl,rfl,d,a⟩:=er.1 h;simp[a.sg]
theorem SRep.len{L P us}(h:SRep ns (kds L) P us):us.length=L.length:=by have:=C1 List.length h.sg;simpa using this
theorem SRep.sgs{L P us}(h:SRep ns (kds L) P us):us.tail.map (·.1)=sgs L:=by unfold Go.Proofs.YtglbanolhhjjiaaGreatDoor.sgs;rw[List.map_tail,h.sg,List.map_tail]
theorem SRep.cat{f d b}(g:SRep ns (kds f) d b):∀{e:List Kd}{c:List Nat}{a:List Pl},SRep ns (kds e) c a->SRep ns (kds (e++f)) (c++d) (a++b)
 |[],c,a,h=>by obtain⟨rfl,rfl⟩:=gE.1 h;exact g
 |x::L,c,a,h=>by
  obtain⟨v,us,i,j,rfl,rfl,k,l⟩:=er.1 h;exact er.2 ⟨v,us++b,i,j++d,vo,vo,k,SRep.cat g l⟩
theorem SRep.split{g}:∀{e:List Kd}{P:List Nat}{us:List Pl},SRep ns (kds (e++g)) P us->∃c d a b,P=c++d/\us=a++b/\a.length=e.length/\SRep ns (kds e) c a/\SRep ns (kds g) d b
 |[],P,us,h=>⟨[],P,[],us,rfl,rfl,rfl,gE.2 ⟨rfl,rfl⟩,h⟩
 |x::L,P,us,h=>by
  obtain⟨v,us,f,n,rfl,rfl,i,j⟩:=er.1 h;obtain⟨c,d,a,b,rfl,rfl,k,l,m⟩:=SRep.split j;exact⟨f++c,d,(x.1,v)::a,b,vo,vo,by simp[k],er.2 ⟨v,a,f,c,rfl,rfl,i,l⟩,m⟩
theorem SRep.at{L P us}(h:SRep ns (kds L) P us){p}(q:p<L.length):∃c G d v,P=c++(G++d)/\us=us.take p++((L.getD p t0).1,v)::us.drop (p+1)/\us.getD p (strOfNums [],0)=((L.getD p t0).1,v)/\
 SRep ns (kds (L.take p)) c (us.take p)/\SRep ns (L.getD p t0).2 G [(strOfNums [],v)]/\SRep ns (kds (L.drop (p+1))) d (us.drop (p+1)):=by
 rw[<-my t0 q]at h;obtain⟨c,d,a,r,rfl,rfl,k,l,m⟩:=SRep.split h;obtain⟨v,b,i,j,rfl,rfl,n,o⟩:=er.1 m;have e:a.length=p:=by rw[k,wR];omega
 have f:(a++((L.getD p t0).1,v)::b).take p=a:=by rw[<-e];simp
 have g:(a++((L.getD p t0).1,v)::b).drop (p+1)=b:=by rw[<-e];simp
 refine⟨c,i,j,v,rfl,by rw[f,g],?_,by rw[f];exact l,n,by rw[g];exact o⟩;rw[<-e];simp
theorem SRep.root{n t P a}(h:SRep ns t P a)(b:wf n t):∃(p:Nat)(G:List Nat),P=p::G/\a=[(strOfNums [],(p:Int))]:=by
 rcases aO b with⟨id,es,_,rfl⟩|⟨id,L,m,_,rfl⟩
 ·rw[SRep]at h;obtain⟨p,rfl,rfl,_⟩:=h;exact⟨p,[],rfl,rfl⟩
 ·rw[SRep]at h;obtain⟨p,us,G,rfl,rfl,_⟩:=h;exact⟨p,G,rfl,rfl⟩
theorem SRep.pgs:∀{t:Tr}{P:List Nat}{b:List Pl},SRep ns t P b->P.map (fun p=>(ns.getD p nd0).page)=ar t
 | .leaf id es,P,b,h=>by
  rw[SRep]at h;obtain⟨p,rfl,d,a⟩:=h;simp[ar,List.getD_eq_getElem?_getD,a,ndL]
 | .node id ks,P,b,h=>by
  rw[SRep]at h;obtain⟨p,us,G,rfl,d,a,c⟩:=h;have:=c.pgs;simp only[ws,this,ar];simp[List.getD_eq_getElem?_getD,a,ndI]
 | .nil,P,b,h=>by rw[SRep]at h;rw[h.1];rfl
 | .cons s t ks,P,b,h=>by
  rw[SRep]at h;obtain⟨v,us,e,f,rfl,d,a,c⟩:=h;rw[AF,a.pgs,c.pgs,ar]
theorem rH{a b:Type}(f:a->b):∀{l:List a},(l.map f).Nodup->l.Nodup
 |[],_=>y6
 |x::l,h=>by
  rw[ws,zz]at h;exact zz.2 ⟨fun hx=>h.1 (List.mem_map_of_mem hx),rH f h.2⟩
theorem SRep.nodup{t P b}(h:SRep ns t P b)(a:(ar t).Nodup):P.Nodup:=rH _ (by rw[h.pgs];exact a)
theorem xH{n}(f:∀t,wf n t->∀d:Int,Rep ns t true [d] []->∃P,SRep ns t P [(strOfNums [],d)]):∀{L:List Kd}{b:Bool}{a:List Int}{c:List ByteArray},(∀x∈L,wf n x.2)->Rep ns (kds L) b a c->∃P us,SRep ns (kds L) P us/\us.map (·.2)=a/\(if b=true then us.tail.map (·.1)else us.map (·.1))=c
 |[],b,a,c,_,h=>by
  have e:Rep ns .nil b a c:=h;rw[Rep]at e;obtain⟨rfl,rfl⟩:=e;exact⟨[],[],gE.2 ⟨rfl,rfl⟩,rfl,by cases b<;>rfl⟩
 |x::L,b,a,c,j,h=>by
  have e:Rep ns (.cons x.1 x.2 (kds L)) b a c:=h;rw[Rep]at e;obtain⟨d,v,l,rfl,rfl,m,o⟩:=e;obtain⟨g,q⟩:=f x.2 (j x vo) d m;obtain⟨i,us,r,s,u⟩:=xH f (fun y p=>j y (by simp[p])) o;refine⟨g++i,(x.1,d)::us,er.2 ⟨d,us,g,i,rfl,rfl,q,r⟩,by simp[s],?_⟩;have k:us.map (·.1)=l:=u;cases b<;>simp[k]
theorem FB:∀{n:Nat}{t:Tr},wf n t->∀d:Int,Rep ns t true [d] []->∃P,SRep ns t P [(strOfNums [],d)]:=by
 intro n;induction n with
 |zero=>
  intro t a d h;rcases aO a with⟨id,es,_,rfl⟩|⟨id,L,m,e,_⟩
  ·rw[Rep]at h;obtain⟨p,b,c⟩:=h;cases b;exact⟨[p],by rw[SRep];exact⟨p,rfl,rfl,c⟩⟩
  ·omega
 |succ n ih=>
  intro t a d h;rcases aO a with⟨id,es,e,_⟩|⟨id,L,m,e,rfl⟩
  ·omega
  ·rw[Rep]at h;obtain⟨p,kd,sg,b,c,g⟩:=h;cases b;obtain⟨P,us,i,j,f⟩:=xH (fun t a d h=>ih a d h) (bq.1 a).2.1 g;refine⟨p::P,?_⟩;rw[SRep];exact⟨p,us,P,rfl,rfl,by rw[c,ndI,j];simp only[if_true]at f;rw[f],i⟩
end
section
theorem im:∀es:List En,2*es.length<=lSz es
 |[]=>t6
 |e::es=>by rw[gz];have:=im es;simp[eSz];omega
theorem gQ:∀a:List ByteArray,5*a.length<=aH a
 |[]=>t6
 |e::es=>by rw[fW];have:=gQ es;simp[gSz];omega
theorem xI{a:Type}{l:List a}{j}(d)(h:j<l.length):l.take (j+1)=l.take j++[l.getD j d]:=by
 rw[x4 h,yc,wS h]
 rfl
theorem xJ(es j):lSz (es.take j)<=lSz es:=mv (List.take_sublist _ _)
theorem xK(es j):aH (es.take j)<=aH es:=om (List.take_sublist _ _)
theorem xL{es:List En}{j}(h:j<es.length):lSz (es.take (j+1))=lSz (es.take j)+eSz (es.getD j en0):=by rw[xI en0 h,kK];simp[lSz]
theorem xM{es:List ByteArray}{j}(h:j<es.length):aH (es.take (j+1))=aH (es.take j)+gSz (es.getD j (strOfNums [])):=by rw[xI (strOfNums []) h,iE];simp[aH]
def kSz(es:List En)(K:NdK):Nat:=lSz es+aH K.signs+(if K.leaf then 0 else 4)
theorem eF{a b:Type}(f:a->b)(l:List a)(j d):(l.map f).getD j (f d)=f (l.getD j d):=by
 simp only[yc,zP];cases l[j]?<;>rfl
variable {B0 g:Nat} {rest:List Value} {rt:Int} {w:World} {ns:List NdK} {nv:Nat->NdV} {na:Option Addr} {nc:Nat}
theorem mD(O:USt B0 g rest rt w ns nv na nc){p K}(Z:ns[p]?=some K)(es)(I:K.keys=es.map (·.1))(J:K.vals=es.map (·.2))(a5:lSz es<=1000000)(a2:aH K.signs<=1000000)(aB:ns.length<=1048576):
 Calls prog 162 #[.pointer (some ⟨g,0,none⟩),.int .i64 (p:Nat)] w fun e w'=>e= .returned (.int .i64 (kSz es K:Nat))/\Below w.1.size w w':=by
 obtain⟨b,rfl,o,ab,aS⟩:=O.cells Z;have X:w.cell? ⟨g,0,none⟩=some (.slice (some ⟨b,0,none⟩) ns.length nc):=O.blk.cell 0;have L:=bAl w (.cells (ndc (nv p) K).toArray 176);have ad:=aq w 176 (ndc (nv p) K).toArray;have U:=ab.below L;have ae:(prog.info? 176).map (·.size)=some (ndc (nv p) K).length:=aD;have a0:=im es;have a1:=gQ K.signs;go_enter func162,ntmps162;go_upto_region 2 with(first|(refine dG rfl 176 _ rfl b (p*6) rfl (ndc (nv p) K) _ o underlying176 rfl ae ?_)|(refine bt rfl 176 _ _ rfl w (ndc aF nd0).toArray (ndc (nv p) K).toArray 176 rfl rfl aD rfl (cy _ _) ?_))
 change Code.wp _ _ _ _ (w.alloc (.cells (ndc (nv p) K).toArray 176));generalize w.alloc (.cells (ndc (nv p) K).toArray 176)=F at*;have E:Blk F 176 w.1.size (ndc (nv p) K):=ad;have T:Hid (∀u,Below F.1.size F u->Blk u 176 w.1.size (ndc (nv p) K)/\RNd u (nv p) K):=fun u ac=>⟨E.below ac,U.below ac⟩;have Q:Hid _:=L;have D:Hid (K.keys=es.map (·.1)/\K.vals=es.map (·.2)):=⟨I,J⟩;have d:Hid (K.keys.length=es.length/\K.vals.length=es.length):=by show _/\_;rw[I,J];simp
 clear ad E U ab L o X O Z ae I J;go_wp2_with fail;go_loopw [6,7] (fun v x wr=> ∃j:Nat,x= .int .i64 (j:Nat)/\v= .int .i64 (lSz (es.take j):Nat)/\j<=es.length/\Below F.1.size F wr) (fun _ x _=>es.length-(intOf x).toNat)
 case atStart=>exact⟨0,rfl,rfl,wa _,t7⟩
 case round=>
  obtain⟨j,rfl,rfl,a4,c⟩:=hrel;obtain⟨P,z⟩:=aa wr;subst z;obtain⟨f,m⟩:=T.out P c;have W:P.cell? ⟨w.1.size,2,none⟩=some (.slice (nv p).ka es.length (nv p).kc):=by rw[<-d.out.1];exact f.cell 2
  have r:Hid _:=c;clear c;by_cases a:j<es.length
  ·have n:(j:Int)< (es.length:Int):=uA;have ak:P.cell? ⟨w.1.size,3,none⟩=some (.slice (nv p).va es.length (nv p).vc):=by rw[<-d.out.2];exact f.cell 3
   have M:=m.keys;have N:=m.vals;rw[d.out.1]at M;rw[d.out.2]at N;obtain⟨ag,aA,y,H⟩:=M.get a;obtain⟨aT,a6,Y,an⟩:=N.get a;rw[eh _ _ (by rw[d.out.1];exact a),D.out.1,show strOfNums []=en0.1 from rfl,eF]at H;rw[eh _ _ (by rw[d.out.2];exact a),D.out.2,show strOfNums []=en0.2 from rfl,eF]at an;rw[y]at W;rw[Y]at ak;have t:Hid _:=xL a;have l:=xJ es (j+1);rw[t.out]at l;have s:Hid (eSz (es.getD j en0)=2+(es.getD j en0).1.size+(es.getD j en0).2.size):=rfl;rw[s.out]at l;generalize (es.getD j en0).1=ap at*;generalize (es.getD j en0).2=aX at*;generalize lSz (es.take j)=S at*;clear M N y Y f m;go_wp2_with fail
   go_quiet (fail)
   go_wp2_with fail;go_roundw
   case rel=>exact⟨j+1,by go_num,by rw[t.out,s.out];go_num,uA,gx r.out _⟩
   case measure=>simp[intOf];omega
  ·have n:¬(j:Int)< (es.length:Int):=uA;have k:lSz (es.take j)=lSz es:=by rw[w5 uA]
   rw[k];clear f m k;go_wp2_with fail;clear W;go_loopw [6,8] (fun v x wr=> ∃j:Nat,x= .int .i64 (j:Nat)/\v= .int .i64 (lSz es+aH (K.signs.take j):Nat)/\j<=K.signs.length/\Below F.1.size F wr) (fun _ x _=>K.signs.length-(intOf x).toNat)
   case atStart=>exact⟨0,rfl,rfl,wa _,r.out⟩
   case round=>
    obtain⟨i,rfl,rfl,a3,c⟩:=hrel;obtain⟨B,z⟩:=aa wr;subst z;obtain⟨f,m⟩:=T.out B c;have am:B.cell? ⟨w.1.size,5,none⟩=some (.slice (nv p).sa K.signs.length (nv p).sc):=f.cell 5;have G:B.cell? ⟨w.1.size,1,none⟩=some (.bool K.leaf):=f.cell 1;have C:Hid _:=c;clear c r;by_cases a:i<K.signs.length
    ·have n:(i:Int)< (K.signs.length:Int):=uA;obtain⟨ag,aA,y,H⟩:=m.signs.get a;rw[eh _ _ a]at H;rw[y]at am;have t:Hid _:=xM a;have l:=xK K.signs (i+1);rw[t.out]at l;have s:Hid (gSz (K.signs.getD i (strOfNums []))=5+(K.signs.getD i (strOfNums [])).size):=rfl;rw[s.out]at l;generalize K.signs.getD i (strOfNums [])=ap at*;generalize aH (K.signs.take i)=S at*;generalize K.signs.length=V at*;clear y f m G;go_wp2_with fail;go_roundw
     case rel=>exact⟨i+1,by go_num,by rw[t.out,s.out];go_num,uA,C.out⟩
     case measure=>simp[intOf];omega
    ·have n:¬(i:Int)< (K.signs.length:Int):=uA;have k:aH (K.signs.take i)=aH K.signs:=by rw[w5 uA]
     rw[k];have A:Hid (kSz es K=lSz es+aH K.signs+(if K.leaf then 0 else 4)):=rfl;have R:Hid (Below w.1.size w B):=Q.out.trans (C.out.mono Q.out.size);clear f m k;cases q:K.leaf with
     |true=>
      rw[q]at G A;clear q;generalize K.signs.length=V at*;generalize aH K.signs=af at*;go_wp2_with fail;go_ret;rw[A.out];exact⟨by go_num,R.out⟩
     |false=>
      rw[q]at G A;clear q;generalize K.signs.length=V at*;generalize aH K.signs=af at*;go_wp2_with fail;go_ret;rw[A.out];exact⟨by go_num,R.out⟩
end
section
variable {B0 g:Nat} {rest:List Value} {rt:Int} {w w' w2:World} {ns:List NdK} {nv:Nat->NdV} {na:Option Addr} {nc:Nat}
def UQ(B0 g:Nat)(rest:List Value)(rt:Int)(na:Option Addr)(w w':World)(ms:List NdK):Prop:= ∃nv' na' nc',USt B0 g rest rt w' ms nv' na' nc'/\UFr g na w w'/\(na'=na\/∃k,na'=some ⟨k,0,none⟩/\w.1.size<=k)
theorem USt.uq{w0 a}(h:USt B0 g rest rt w ns nv na nc)(f:UFr g a w0 w)(b:na=a\/∃k,na=some ⟨k,0,none⟩/\w0.1.size<=k):UQ B0 g rest rt a w0 w ns:=⟨nv,na,nc,h,f,b⟩
theorem UQ.below{a w0}(h:UQ B0 g rest rt a w0 w ns)(b:Below w.1.size w w'):UQ B0 g rest rt a w0 w' ns:=by
 obtain⟨e,c,d,f,i,j⟩:=h;exact⟨e,c,d,f.below b,i.trans (OnlyS.ofBelow b),j⟩
theorem UQ.after{a b w0 w1}(h:UQ B0 g rest rt b w1 w ns)(f:UFr g a w0 w1)(c:b=a\/∃k,b=some ⟨k,0,none⟩/\w0.1.size<=k):UQ B0 g rest rt a w0 w ns:=by
 obtain⟨i,d,e,j,l,m⟩:=h;refine⟨i,d,e,j,f.step l c,?_⟩;rcases m with rfl|⟨k,rfl,hk⟩
 ·exact c
 ·exact v6 ⟨k,rfl,wg f.size hk⟩
theorem oU(w n):Below w.1.size w (w.drewN n):=⟨rfl,rfl,rfl,t6,fun _ _=>rfl⟩
theorem xO{na b a:Option Addr}{w w1:World}(c:b=na\/∃k,b=some ⟨k,0,none⟩/\w.1.size<=k)(d:a=b\/∃k,a=some ⟨k,0,none⟩/\w1.1.size<=k)(e:w.1.size<=w1.1.size):a=na\/∃k,a=some ⟨k,0,none⟩/\w.1.size<=k:=by
 rcases d with rfl|⟨k,rfl,hk⟩
 ·exact c
 ·exact v6 ⟨k,rfl,uA⟩
theorem iY{o:Oper}{c:Act}{d:Act->World->Prop}{E:Exit->Act->World->Prop}{b p:Nat}(j:USt B0 g rest rt w ns nv (some ⟨b,0,none⟩) nc){v:NdV}{K:NdK}(r:RNd w v K)(z:p<ns.length){x y:Operand}(t:o.op= .store 176 x y)(hx:c.eval x= .pointer (some ⟨b,p*6,none⟩))(B:c.eval y= .agg (ndc v K).toArray)
 (f:∀u,USt B0 g rest rt u (ns.set p K) (eA nv p v) (some ⟨b,0,none⟩) nc->OnlyB b w u->d c u)(q:o.dst=none:=by rfl):o.wp prog c w d E:=by
 obtain⟨a,i,D,C⟩:∃a,w.heap[b]?=some (.cells a 176 (0,0))/\a.size=nc*6/\ns.length<=nc:=by
  rcases j.nodes.2 with⟨e,_⟩|⟨F,k,l,e,I,f,m,G,n,H⟩
  ·cases e
  ·cases e;exact⟨_,f,n,m⟩
 have s:Blk w 176 b a.toList:=by unfold Blk;simpa using i
 have A:=tg (P:=prog) w b (p*6) 176 176 a.toList (ndc v K) s aD (by have:=Array.length_toList (xs:=a);have:(ndc v K).length=6:=rfl;omega) (eo _ _);unfold Oper.wp execOp;simp only[t,hx,B,Instr.storeAt,Instr.sureAddr,CT,C2,DI,A];show d (c.put o.dst undef) _;rw[q];exact f _ (j.store rfl r z i) (du w b _)
theorem bK{o:Oper}{a:Act}{c:Act->World->Prop}{q:Exit->Act->World->Prop}{t d k:Nat}{b cs:List Value}(f:Blk w t k b)(r:b.length=cs.length)(i:∀v∈cs,v.oneCell'=true)(m:(prog.info? d).map (·.size)=some cs.length){x y:Operand}(n:o.op= .store d x y)(hx:a.eval x= .pointer (some ⟨k,0,none⟩))(p:a.eval y= .agg cs.toArray)
 (l:∀u,Blk u t k cs->OnlyB k w u->c a u)(j:o.dst=none:=by rfl):o.wp prog a w c q:=by
 have g:=tg (P:=prog) w k 0 d t b cs f m uA i;have e:b.take 0++cs++b.drop (0+cs.length)=cs:=by rw[A0 uA];simp
 rw[e]at g;unfold Oper.wp execOp;simp only[n,hx,p,Instr.storeAt,Instr.sureAddr,CT,C2,DI,g];show c (a.put o.dst undef) _;rw[j];exact l _ (f.setRow cs) (du w k _)
theorem lj{b:Nat}{e s B:Nat}{n c:Nat}{xs:List Value}(h:w.ownsRow B e s (.slice (some ⟨b,0,none⟩) n c) n xs):w.heap[b]?=some (.cells ((match w.heap[b]? with|some (.cells cur _ _)=>cur|_=>#[])) e (0,0)):=by
 rcases h.2 with⟨a,_⟩|⟨i,d,f,a,_,g,_⟩
 ·cases a
 ·cases a;rw[g]
theorem rK{b}{e s B:Nat}{a n c xs}(h:w.ownsRow B e s (.slice a n c) n xs)(f:a≠some ⟨b,0,none⟩):(Value.slice a n c).ownBlock≠some b:=by
 intro e0;rcases h.2 with⟨d,_⟩|⟨j,g,i,d,_⟩
 ·rw[d]at e0;simp[Value.ownBlock]at e0
 ·rw[d]at e0;simp[Value.ownBlock]at e0;simp only[D5]at d;subst e0;exact f d.1
theorem ll(x)(a: -9223372036854775808<=x)(b:x<=9223372036854775807):IntKind.i64.wrap x=x:=by
 simp[IntKind.wrap,IntKind.bits,IntKind.signed];omega
theorem xQ(a b n c m d):prog.built 176 [(1,.bool true),(2,.slice a n c),(3,.slice b m d)]=some #[.int .i64 0,.bool true,.slice a n c,.slice b m d,.slice none 0 0,.slice none 0 0]:=vk
theorem xR(a b n c m d):prog.built 176 [(4,.slice a n c),(5,.slice b m d)]=some #[.int .i64 0,.bool false,.slice none 0 0,.slice none 0 0,.slice a n c,.slice b m d]:=vk
theorem oZ{P w t}{c:Operand->Value}{x b a o p v l h}(f:o.op= .slice t x b a none)(hx:c x=p)(e:b.map c=l)(d:a.map c=h)(g:(Instr.sliceAt t p l h none).run P w= .ok v w):(execOp c o).run P w= .ok (.value v) w:=by
 unfold execOp;simp only[f,hx,e,d,Option.map_none,CT,g,DI,C2]
theorem R1.cutFrom{t e bytes g}(T:ElT t e 1 g bytes){a n c xs}(h:R1 e w a n c xs){i}(f:i<=n):∃b d,(∀u,(Instr.sliceAt t (.slice a n c) (some (.int .i64 (i:Int))) none none).run prog u= .ok (.slice b (n-i) d) u)/\R1 e w b (n-i) d (xs.drop i):=⟨_,_,fun u=>tV T u a n c i f,h.drop f⟩
theorem lm{P:Program}{w:World}{d:Operand->Value}{o:Oper}{t:TypeId}{a:Array (Nat×Operand)}(c:o.op= .build t a){cs:Array Value}(b:P.built t (a.map fun(i,x)=>(i,d x)).toList=some cs):(execOp d o).run P w= .ok (.value (.agg cs)) w:=by
 unfold execOp;simp only[c,CT,run_build w t _ cs b,DI,C2]
end
section
theorem xS:∀(es:List En)(a j:Nat),j<=ctE a es->j<es.length->(a+lSz (es.take j)+eSz (es.getD j en0)<=240↔j<ctE a es)
 |[],a,j,_,h=>by simp at h
 |e::es,a,0,_,_=>by
  rw[ctE];simp only[List.take_zero,List.getD_cons_zero,lSz,wz,List.sum_nil,w9];split<;>omega
 |e::es,a,j+1,b,c=>by
  rw[ctE]at b ⊢;split at b
  ·rename_i d;rw[B4 d];have:=xS es (a+eSz e) j uA (by simpa using c);rw[BX,gz,B1];omega
  ·omega
variable {B0 g:Nat} {rest:List Value} {rt:Int} {w:World} {ns:List NdK} {nv:Nat->NdV} {na:Option Addr} {nc:Nat}
theorem FC(b4:USt B0 g rest rt w ns nv na nc){p id es}(a:ns[p]?=some (ndL id es))(eL:240<lSz es)(eW:lSz es<=1000000)(eC:ns.length<=1048575):
 Calls prog 163 #[.pointer (some ⟨g,0,none⟩),.int .i64 (p:Nat)] w fun e w'=>e= .returned (.tuple #[.int .i64 (ns.length:Nat),.string (es.getD (ctE 0 es) en0).1])/\UQ B0 g rest rt na w w' (ns.set p (ndL id (es.take (ctE 0 es)))++[ndL 0 (es.drop (ctE 0 es))]):=by
 have em:=im es;obtain⟨eV,_⟩:=ri es 0 uA uA;have ef:Hid (∀j,j<=ctE 0 es->(lSz (es.take j)+eSz (es.getD j en0)<=240↔j<ctE 0 es)):=fun j cS=>by have:=xS es 0 j cS uA;rwa [wE]at this
 generalize ctE 0 es=m at*;have b7:Hid _:=b4;obtain⟨b,rfl,aS,dF,dV⟩:=b4.cells a;have db:w.cell? ⟨g,0,none⟩=some (.slice (some ⟨b,0,none⟩) ns.length nc):=b4.blk.cell 0;have l:Hid ((ndL id es).keys.length=es.length/\(ndL id es).vals.length=es.length):=by show _/\_;simp[ndL]
 have an:Hid ((ndL id es).keys=es.map (·.1)/\(ndL id es).vals=es.map (·.2)):=⟨rfl,rfl⟩;generalize cf:ndL id es=K at*;have cW:=bAl w (.cells (ndc (nv p) K).toArray 176);have dX:=aq w 176 (ndc (nv p) K).toArray;have c7:=dF.below cW;have d8:(prog.info? 176).map (·.size)=some (ndc (nv p) K).length:=aD;have b6:Hid _:=cf;clear cf;go_enter func163,ntmps163;go_upto_region 2 with(first|(refine dG rfl 176 _ rfl b (p*6) rfl (ndc (nv p) K) _ aS underlying176 rfl d8 ?_)|(refine bt rfl 176 _ _ rfl w (ndc aF nd0).toArray (ndc (nv p) K).toArray 176 rfl rfl aD rfl (cy _ _) ?_))
 change Code.wp _ _ _ _ (w.alloc (.cells (ndc (nv p) K).toArray 176));generalize w.alloc (.cells (ndc (nv p) K).toArray 176)=c0 at*;have cm:Blk c0 176 w.1.size (ndc (nv p) K):=dX;have c6:Hid (∀u,Below c0.1.size c0 u->Blk u 176 w.1.size (ndc (nv p) K)/\RNd u (nv p) K):=fun u bX=>⟨cm.below bX,c7.below bX⟩;have c1:Hid _:=cW;clear dX cm c7 dF cW aS db b4 a d8;go_wp2_with fail;go_loopw [7,8] (fun x v wr=> ∃j:Nat,x= .int .i64 (j:Nat)/\v= .int .i64 (lSz (es.take j):Nat)/\j<=m/\Below c0.1.size c0 wr) (fun x _ _=>es.length-(intOf x).toNat)
 case atStart=>exact⟨0,rfl,rfl,wa _,t7⟩
 case round=>
  obtain⟨j,rfl,rfl,cS,bm⟩:=hrel;obtain⟨R,dW⟩:=aa wr;subst dW;obtain⟨cV,cX⟩:=c6.out R bm;have a1:R.cell? ⟨w.1.size,2,none⟩=some (.slice (nv p).ka es.length (nv p).kc):=by rw[<-l.out.1];exact cV.cell 2
  have r:R.cell? ⟨w.1.size,3,none⟩=some (.slice (nv p).va es.length (nv p).vc):=by rw[<-l.out.2];exact cV.cell 3
  have b5:Hid _:=bm;have q:j<es.length:=uA;have N:=cX.keys;have P:=cX.vals;rw[l.out.1]at N;rw[l.out.2]at P;obtain⟨eM,e3,a3,bW⟩:=N.get q;obtain⟨eN,e4,cM,dd⟩:=P.get q;rw[eh _ _ (by rw[l.out.1];exact q),an.out.1,show strOfNums []=en0.1 from rfl,eF]at bW;rw[eh _ _ (by rw[l.out.2];exact q),an.out.2,show strOfNums []=en0.2 from rfl,eF]at dd;rw[a3]at a1;rw[cM]at r;have c5:Hid _:=xL q;have bs:=xJ es (j+1);rw[c5.out]at bs;have bl:=ef.out j cS;have c2:Hid (eSz (es.getD j en0)=2+(es.getD j en0).1.size+(es.getD j en0).2.size):=rfl;rw[c2.out]at bs bl;have a7:Hid _:=(rfl:(es.getD j en0).1=(es.getD j en0).1);generalize cj:(es.getD j en0).1=cR at*;generalize (es.getD j en0).2=ek at*;generalize dI:lSz (es.take j)=S at*;have a7:Hid (j=m->(es.getD m en0).1=cR):=fun e=>by rw[<-e];exact cj
  clear N P cV cX bm cj dI;go_wp2_with fail
  go_quiet (fail)
  by_cases br:j<m
  ·have dP:=bl.2 br;clear bl;go_wp2_with fail
   go_quiet (fail)
   go_wp2_with fail;go_roundw
   case rel=>exact⟨j+1,by go_num,by rw[c5.out,c2.out];go_num,uA,gx b5.out _⟩
   case measure=>simp[intOf];omega
  ·have dP:¬(S:Int)+2+(cR.size:Int)+(ek.size:Int)<=240:=by have:=fun h=>br (bl.1 h);omega
   have dS:j=m:=uA;subst dS;clear bl br;go_wp2_with fail;have ch:=b5.out.trans (⟨rfl,rfl,rfl,t6,fun _ _=>rfl⟩:Below c0.1.size R (R.drewN nq).drew);obtain⟨bv,b3⟩:=c6.out _ ch;have bn:=c1.out.trans (ch.mono c1.out.size);rw[<-a3]at a1;rw[<-cM]at r;have b9:(R.drewN nq).drew.cell? ⟨w.1.size,2,none⟩=some (.slice (nv p).ka es.length (nv p).kc):=a1;have ca:(R.drewN nq).drew.cell? ⟨w.1.size,3,none⟩=some (.slice (nv p).va es.length (nv p).vc):=r;refine az (fun u=>u.cell? ⟨w.1.size,2,none⟩=some (.slice (nv p).ka es.length (nv p).kc)/\u.cell? ⟨w.1.size,3,none⟩=some (.slice (nv p).va es.length (nv p).vc)) (fun k=>decide (10<=k)) vk ?_;generalize (R.drewN nq).drew=cD at*;have cs:=vJ b9 ca;have N:=b3.keys;have P:=b3.vals;rw[l.out.1]at N;rw[l.out.2]at P;obtain⟨T,W,d9,a9⟩:=N.cutFrom bM (i:=j) uA;obtain⟨V,X,ea,ba⟩:=P.cutFrom bM (i:=j) uA;clear bW dd a1 r a3 cM bs dP;refine aj 0 cs ?_;refine aj 1 cs ?_;refine aj 2 cs ?_;refine aM 3 (.slice T (es.length-j) W) cs (fun u _=>oZ rfl rfl rfl rfl (d9 u)) ?_;refine aj 4 cs ?_;refine aj 5 cs ?_;refine aj 6 cs ?_;refine aM 7 (.slice V (es.length-j) X) cs (fun u _=>oZ rfl rfl rfl rfl (ea u)) ?_;refine aM 8 (.agg #[.int .i64 0,.bool true,.slice T (es.length-j) W,.slice V (es.length-j) X,.slice none 0 0,.slice none 0 0]) cs ?hb8 ?_
   case hb8=>exact fun u _=>lm rfl (by simp only[wB,ws,wz];exact xQ _ _ _ _ _ _)
   refine ah 9 fun n a=> ?_;go_wp2_with fail;have bC:=bAl cD (.cells (ndc aF nd0).toArray 176);have eb:=aq cD 176 (ndc aF nd0).toArray;have cb:=vJ (bC.cell (p:=⟨w.1.size,2,none⟩) bv.lt▸cs.1) (bC.cell (p:=⟨w.1.size,3,none⟩) bv.lt▸cs.2);refine ao a ?_ (fun _=>cb);clear a n cb;refine ah 10 fun n a=> ?_;have cP:ndc ⟨T,W,V,X,none,0,none,0⟩ (ndL 0 (es.drop j))=[.int .i64 0,.bool true,.slice T (es.length-j) W,.slice V (es.length-j) X,.slice none 0 0,.slice none 0 0]:=by simp[ndc,ndL]
   refine bK (cs:=[.int .i64 0,.bool true,.slice T (es.length-j) W,.slice V (es.length-j) X,.slice none 0 0,.slice none 0 0]) eb rfl (by rw[<-cP];exact eo _ _) aD rfl rfl rfl ?_;intro u9 b1 d3;refine aU a ?_;clear a n eb;rw[<-cP]at b1;have E:=bC.trans (d3.below t6 bC.size);have bZ:=bv.below E;have d4:=b3.below E;have d7:RNd u9 ⟨T,W,V,X,none,0,none,0⟩ (ndL 0 (es.drop j)):=by
    have dl:List.drop j (os K.keys)=os (ndL 0 (es.drop j)).keys:=by rw[an.out.1];simp[os,ndL,List.map_drop]
    have dp:List.drop j (os K.vals)=os (ndL 0 (es.drop j)).vals:=by rw[an.out.2];simp[os,ndL,List.map_drop]
    rw[dl]at a9;rw[dp]at ba;refine⟨?_,?_,gh _ _,gh _ _⟩
    ·rw[show(ndL 0 (es.drop j)).keys.length=es.length-j by simp[ndL]];exact a9.below E
    ·rw[show(ndL 0 (es.drop j)).vals.length=es.length-j by simp[ndL]];exact ba.below E
   have cv:=N.below E;have a0:=P.below E;have aB:=bn.trans (E.mono bn.size);have eB:=bv.lt;have eK:=b1.lt;have ap:=uv b1 (vJ d7 (vJ d4 aB));have am:Hid _:=bZ;have c9:u9.cell? ⟨w.1.size,2,none⟩=some (.slice (nv p).ka es.length (nv p).kc):=by rw[<-l.out.1];exact bZ.cell 2
   have dq:=bZ.free 2;clear N P d9 ea a9 ba b1 d3 E bZ d4 d7 bC bv b3 cs b9 ca cP;go_upto_region 9 with(refine iM bM cv (A2 q) rfl rfl rfl rfl ?_)
   intro ac r M;go_upto_region 9 with fail
   have I:=ax u9 w.1.size 2 (.slice ac j r);have s:=aw (t:=9) I am.out uB;have af:=aw (t:=3) I am.out uB;have aT:=Blk.set am.out 2 (.slice ac j r);have bx:=ap.out.1.only I uA;have B:=uv (aB.trans (I.below t6 aB.size)) (vJ bx (vJ (ap.out.2.1.keep s af) (ap.out.2.2.1.keep s af)));replace M:=M.keep s;replace a0:=a0.keep s;clear ap am aB s af I bx c9 dq cv;generalize u9.setCell ⟨w.1.size,2,none⟩ (.slice ac j r)=U at*;have da:U.cell? ⟨w.1.size,3,none⟩=some (.slice (nv p).va es.length (nv p).vc):=by rw[<-l.out.2];exact aT.cell 3
   have dr:=aT.free 3;have C:Hid _:=aT;clear aT;go_upto_region 10 with(refine iM bM a0 (A2 q) rfl rfl rfl rfl ?_)
   intro ad ae a5;go_upto_region 10 with fail
   have J:=ax U w.1.size 3 (.slice ad j ae);have y:=aw (t:=9) J C.out uB;have ag:=aw (t:=3) J C.out uB;have bu:=Blk.set C.out 3 (.slice ad j ae);have bz:=B.out.2.1.only J uA;have bb:=B.out.1.trans (J.below t6 B.out.1.size);have bF:=B.out.2.2.1.keep y ag;have aX:=B.out.2.2.2.keep y ag;replace M:=M.keep y;replace a5:=a5.keep y;clear B C y ag J da dr a0;generalize U.setCell ⟨w.1.size,3,none⟩ (.slice ad j ae)=cA at*;have d5:RNd cA ⟨ac,r,ad,ae,(nv p).da,(nv p).dc,(nv p).sa,(nv p).sc⟩ (ndL id (es.take j)):=by
    rw[<-b6.out]at aX M a5;have ex:(es.take j).length=j:=by rw[wR];omega
    refine⟨?_,?_,aX.kids,aX.signs⟩
    ·rw[show(ndL id (es.take j)).keys.length=j by simp[ndL];omega];have:List.take j (os (ndL id es).keys)=os (ndL id (es.take j)).keys:=by simp[os,ndL,List.map_take]
     rw[this]at M;exact M
    ·rw[show(ndL id (es.take j)).vals.length=j by simp[ndL];omega];have:List.take j (os (ndL id es).vals)=os (ndL id (es.take j)).vals:=by simp[os,ndL,List.map_take]
     rw[this]at a5;exact a5
   have dk:((ndc (nv p) K).set 2 (.slice ac j r)).set 3 (.slice ad j ae)=ndc ⟨ac,r,ad,ae,(nv p).da,(nv p).dc,(nv p).sa,(nv p).sc⟩ (ndL id (es.take j)):=by
    rw[<-b6.out];simp[ndc,ndL,Nat.min_eq_left (Nat.le_of_lt q)]
   rw[dk]at bu;generalize (⟨ac,r,ad,ae,(nv p).da,(nv p).dc,(nv p).sa,(nv p).sc⟩:NdV)=vL at*;generalize (⟨T,W,V,X,none,0,none,0⟩:NdV)=o at*;generalize ce:ndL id (es.take j)=ab at*;generalize bg:ndL 0 (es.drop j)=c at*;have G:c.keys.getD 0 (strOfNums [])=cR/\0<c.keys.length:=by
    rw[<-bg,<-a7.out trivial];refine⟨?_,?_⟩
    ·show((es.drop j).map (·.1)).getD 0 en0.1= _;rw[eF,ng,w9]
    ·simp only[ndL,y2,wi];omega
   have a8:Hid (ndL id (es.take j)=ab/\ndL 0 (es.drop j)=c):=⟨ce,bg⟩;clear M a5 aX dk ce bg;generalize cD.1.size=O at*;have ev:=(cE b7.out.nodes b (by simp[rb])).2;have aA:Hid (∀(u:World)(k:Nat)(v:NdV)(cL:NdK),Blk u 176 k (ndc v cL)->(Instr.loadAt 176 (.pointer (some ⟨k,0,none⟩))).run prog u= .ok (.agg (ndc v cL).toArray) u):=fun u k v cL bX=>by
    simp only[Instr.loadAt,Instr.sureAddr,CT,C2,Result.andThen];exact DX u k 176 176 (ndc v cL).toArray (0,0) _ bX underlying176 rfl aD
   have a2:=bDr cA;have bc:=bb.trans (a2.mono bb.size);have cl:=bu.below a2;have bA:=bz.below a2;have bE:=d5.below a2;have bP:=bF.below a2;have z:=b7.out.below bc;refine az (fun u=>u.cell? ⟨g,0,none⟩=some (.slice (some ⟨b,0,none⟩) ns.length nc)/\(Instr.loadAt 176 (.pointer (some ⟨w.1.size,0,none⟩))).run prog u= .ok (.agg (ndc vL ab).toArray) u) (fun k=>decide (7<=k)) vk ?_;clear a2 bu bz d5 bF bb;generalize cA.drew=cA at*;have cs:cA.cell? ⟨g,0,none⟩=some (.slice (some ⟨b,0,none⟩) ns.length nc)/\(Instr.loadAt 176 (.pointer (some ⟨w.1.size,0,none⟩))).run prog cA= .ok (.agg (ndc vL ab).toArray) cA:=⟨z.blk.cell 0,aA.out _ _ _ _ cl⟩;refine aj 0 cs ?_;refine aj 1 cs ?_;refine aj 2 cs ?_;refine aj 3 cs ?_;refine aj 4 cs ?_;refine aM 5 (.agg (ndc vL ab).toArray) cs ?hy5 ?_
   case hy5=>exact fun u bk=>bo (p:= .pointer (some ⟨w.1.size,0,none⟩)) rfl rfl bk.2
   refine aj 6 cs ?_;refine ah 7 fun n a=> ?_;refine iY z bE dV rfl rfl rfl ?_;intro cB bR L;refine aU a ?_;clear a n cs;have bB:=bA.only L uA;have ak:=bP.keep (cx L (lj z.nodes) uB) (cx L (lj z.nodes) uB);have cc:UFr g (some ⟨b,0,none⟩) w cB:=(OnlyS.ofBelow bc).trans ((OnlyS.ofB L).mono (fun k _ en=>v6 (by rw[en])));have ck:(ns.set p ab).length=ns.length:=BD;have c3:Hid _:=ck;have eq:(ns.set p ab).length<=1048575:=uA;have Z:Hid _:=cc;clear z L cl bA bE bP bc cc ck;generalize cg:ns.set p ab=f at*;generalize eA nv p vL=d1 at*;have c4:Hid _:=cg;clear cg;have cT:(some ⟨b,0,none⟩:Option Addr)≠some ⟨O,0,none⟩:=fun e=>by cases e;omega
   go_wp2_with fail;have bf:=bDr cB;have Q:=bR.below bf;have b0:=bB.below bf;have d6:=ak.below bf;refine az (fun u=>u.cell? ⟨g,0,none⟩=some (.slice (some ⟨b,0,none⟩) f.length nc)/\(Instr.loadAt 176 (.pointer (some ⟨O,0,none⟩))).run prog u= .ok (.agg (ndc o c).toArray) u) (fun k=>decide (8<=k)) vk ?_;generalize cB.drew=A at*;have cs:A.cell? ⟨g,0,none⟩=some (.slice (some ⟨b,0,none⟩) f.length nc)/\(Instr.loadAt 176 (.pointer (some ⟨O,0,none⟩))).run prog A= .ok (.agg (ndc o c).toArray) A:=⟨Q.blk.cell 0,aA.out _ _ _ _ b0⟩;have b2:=bAl A (.cells (ndc o c).toArray 176);have dc:(A.alloc (.cells (ndc o c).toArray 176)).cell? ⟨g,0,none⟩=some (.slice (some ⟨b,0,none⟩) f.length nc)/\(Instr.loadAt 176 (.pointer (some ⟨O,0,none⟩))).run prog (A.alloc (.cells (ndc o c).toArray 176))= .ok (.agg (ndc o c).toArray) (A.alloc (.cells (ndc o c).toArray 176)):=⟨(Q.below b2).blk.cell 0,aA.out _ _ _ _ (b0.below b2)⟩;have D:Hid _:=bf;have d:=uv Q (vJ d6 (b0.below b2));have dE:=Q.gB;clear bf Q d6 b0 b2;refine aj 0 cs ?_;refine aj 1 cs ?_;refine aj 2 cs ?_;refine aj 3 cs ?_;refine aj 4 cs ?_;refine aM 5 (.agg (ndc o c).toArray) cs ?hyp5 ?_
   case hyp5=>exact fun u bk=>bo (p:= .pointer (some ⟨O,0,none⟩)) rfl rfl bk.2
   refine ah 6 fun n a=> ?_;refine bU _ _ _ rfl (v:= .slice (some ⟨A.1.size,0,none⟩) 1 1) (w':=(A.alloc (.cells (ndc o c).toArray 176))) ?bsp ?_
   case bsp=>
    simp only[wB,ws,wz];exact fq eY uA (.agg (ndc o c).toArray) (ndc o c) rfl rfl A
   refine ao a ?_;clear a n;refine ah 7 fun n a=> ?_;refine gW _ _ eY rfl B0 (some ⟨b,0,none⟩) f.length nc (cd d1 f) rfl d.out.1.nodes (ndc o c) rfl (eo _ _) rfl uA uA dE ?_;intro a4 bd a6 d2 c8 F b8;have H:Blk a6 176 O (ndc o c):=(F.block O d.out.2.2.lt (rK d.out.1.nodes cT).symm).trans d.out.2.2;have bY:Blk a6 116 g _:=d.out.1.blk.keepT ((aV (bAl _ _)).trans (bD (bQ d.out.1.nodes (bAl _ _)) F uB));have bT:a6.cell? ⟨g,0,none⟩=some (.slice (some ⟨b,0,none⟩) f.length nc):=bY.cell 0;refine a.out _ _ (fun _=>⟨bT,aA.out _ _ _ _ H⟩) ?_;clear a n;have cz:=d.out.1.push d.out.2.1 d2 c8 F;have ds:=UFr.push (u:= .slice (some ⟨a4,0,none⟩) (f.length+1) bd) d.out.1 F;have cq:=ax a6 g 0 (.slice (some ⟨a4,0,none⟩) (f.length+1) bd);have cn:=H.only cq (fun e=>by have:=bY;rw[<-e]at this;unfold Blk at this H;rw[H]at this;cases this);have dD:=bY.free 0;have Y:=uv cz (vJ ds (vJ b8 cn));clear cz ds bY d2 c8 F b8 dc H cn cq;refine ah 8 fun n a=> ?_;go_wp2_with fail;refine ao a ?_;clear a n;refine ah 9 fun n a=> ?_;go_wp2_with fail;refine ao a ?_;clear a n;refine ah 10 fun n a=> ?_;go_wp2_with fail;refine aU a ?_;clear a n bT dD cs;have bS:=Y.out.1;have cr:=ak.keep ((aV D.out).trans (d.out.1.keepT Y.out.2.1 uB uB)) ((aV D.out).trans (d.out.1.keepT Y.out.2.1 uB uB));have cp:=Y.out.2.2.2;have ej:Hid (UQ B0 g rest rt (some ⟨b,0,none⟩) w (a6.setCell ⟨g,0,none⟩ (.slice (some ⟨a4,0,none⟩) (f.length+1) bd)) (f++[c])):=bS.uq (Z.out.trans ((OnlyS.ofBelow D.out).trans Y.out.2.1)) (by
    rcases Y.out.2.2.1 with e|e
    ·exact v7 e.symm
    ·refine v6 ⟨a4,rfl,?_⟩;have eU:=Z.out.size;have em:=D.out.size;omega)
   generalize a6.setCell ⟨g,0,none⟩ (.slice (some ⟨a4,0,none⟩) (f.length+1) bd)=cL at*;have bT:cL.cell? ⟨g,0,none⟩=some (.slice (some ⟨a4,0,none⟩) (f++[c]).length bd):=bS.blk.cell 0;rw[wb,yb]at bT;have a1:cL.cell? ⟨O,2,none⟩=some (.slice o.ka c.keys.length o.kc):=cp.cell 2;obtain⟨e1,e2,a3,bW⟩:=cr.keys.get G.2;rw[eh _ _ G.2,G.1,w9]at bW;rw[a3]at a1;have eR:(0:Int)< (c.keys.length:Int):=by have:=G.2;omega
   generalize c.keys.length=et at*;clear bS cr cp d Y D Z a3 ak bB bR G;go_wp2_with fail
   go_quiet (fail)
   go_wp2_with fail
   go_ret2
   rw[a7.out trivial,a8.out.1,a8.out.2,c4.out];rw[<-c3.out];exact⟨rfl,ej.out.below (oU _ _)⟩
end
