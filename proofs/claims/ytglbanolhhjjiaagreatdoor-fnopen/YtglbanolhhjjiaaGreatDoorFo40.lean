import Derived.Test.YtglbanolhhjjiaaGreatDoorFo39
import Derived.Test.YtglbanolhhjjiaaGreatDoorFo22
namespace Go.Proofs.YtglbanolhhjjiaaGreatDoor
open Go.Proofs.Tryz
open Go.RowKit
set_option linter.unusedVariables false
set_option maxRecDepth 100000
set_option maxHeartbeats 32000000
section
variable {B0 g:Nat} {rest:List Value} {rt:Int} {ns:List NdK} {nv:Nat->NdV} {na:Option Addr} {nc mb N:Nat}
theorem USt.onlyM{w w'}(h:USt B0 g rest rt w ns nv na nc){b fr}(c:OnlyB mb w w')(d:w.heap[mb]?=some (.cells b 4 fr)):USt B0 g rest rt w' ns nv na nc:=by
 have a:∀t,4≠t->KeepT t w w':=fun t f=>cx c d f;exact⟨h.blk.keepT (a _ uv),cw h.nodes (a _ uv),fun i e=>(h.each i e).keep (a _ uv) (a _ uv),wa h.gB c.size⟩
def PgU(B0 g:Nat)(rest:List Value)(rt:Int)(ns:List NdK)(nv:Nat->NdV)(na:Option Addr)(nc mb N:Nat)(t:Tr):Prop:= ∀(p:Int)(P:List Nat)(sn:List Int)(w:World),USt B0 g rest rt w ns nv na nc->Own1 4 0 w (some ⟨mb,0,none⟩) N N (mkB sn N)->SRep ns t P [(strOfNums [],p)]->(∀id∈ar t,0<id/\id< (N:Int))->
 Calls prog 106 #[.pointer (some ⟨g,0,none⟩),.int .i64 p,.slice (some ⟨mb,0,none⟩) N N] w fun e w'=>e= .returned (.tuple #[])/\OnlyB mb w w'/\Own1 4 0 w' (some ⟨mb,0,none⟩) N N (mkB (ar t++sn) N)
theorem yD(bn:ns.length<=1048576)(bv:N<=1048576)(q K)(aB:ns[q]?=some K)(L:List Kd)(bl:L.length<=1048576)(M:K.kids.length=L.length)(i:Nat)(bf:K.page=(i:Int))(bm:0<i)(o:i<N)(r:∀m,m<L.length->∃G,SRep ns (L.getD m t0).2 G [(strOfNums [],K.kids.getD m 0)])(ad:∀m,m<L.length->PgU B0 g rest rt ns nv na nc mb N (L.getD m t0).2)(I:∀m,m<L.length->∀id∈ar (L.getD m t0).2,0<id/\id< (N:Int))(sn w)(B:USt B0 g rest rt w ns nv na nc)(a0:Own1 4 0 w (some ⟨mb,0,none⟩) N N (mkB sn N)):
 Calls prog 106 #[.pointer (some ⟨g,0,none⟩),.int .i64 (q:Nat),.slice (some ⟨mb,0,none⟩) N N] w fun e w'=>e= .returned (.tuple #[])/\OnlyB mb w w'/\Own1 4 0 w' (some ⟨mb,0,none⟩) N N (mkB (ci L++((i:Int)::sn)) N):=by
 obtain⟨b,rfl,f,aS,bs⟩:=B.cells aB;have an:w.cell? ⟨g,0,none⟩=some (.slice (some ⟨b,0,none⟩) ns.length nc):=B.blk.cell 0;have y:=bAl w (.cells (ndc (nv q) K).toArray 176);have a2:=aq w 176 (ndc (nv q) K).toArray;have a5:(prog.info? 176).map (·.size)=some (ndc (nv q) K).length:=aD;have br:¬(q:Int)<0:=t7;go_enter func106,ntmps106;go_upto_region 2 with(first|(refine dG rfl 176 _ rfl b (q*6) rfl (ndc (nv q) K) _ f underlying176 rfl a5 ?_)|(refine bt rfl 176 _ _ rfl w (ndc aF nd0).toArray (ndc (nv q) K).toArray 176 rfl rfl aD rfl (cy _ _) ?_))
 change Code.wp _ _ _ _ (w.alloc (.cells (ndc (nv q) K).toArray 176));have ae:=aS.below y;have R:=B.below y;have u:=a0.below y;have bk:(w.alloc (.cells (ndc (nv q) K).toArray 176)).1.size=w.1.size+1:=by simp
 generalize w.alloc (.cells (ndc (nv q) K).toArray 176)=E at*;have s:Blk E 176 w.1.size (ndc (nv q) K):=a2;obtain⟨_,bb,n⟩:=u.blk;have v:=ax E mb i (.bool true);have a:∀t,4≠t->KeepT t E (E.setCell ⟨mb,i,none⟩ (.bool true)):=fun t W=>cx v n W;have X:=u.set i (.bool true);rw[iT _ _ _ o]at X;have S:=R.onlyM v n;have Q:=s.keepT (a _ uv);have af:=ae.keep (a _ uv) (a _ uv);have u2:OnlyB mb w (E.setCell ⟨mb,i,none⟩ (.bool true)):=(Below.onlyB y mb).trans v;have a8:E.cell? ⟨w.1.size,0,none⟩=some (.int .i64 (i:Nat)):=(s.cell 0).trans (by rw[<-bf];rfl);obtain⟨_,bc,_,_,_,P⟩:=u.at_ t7;cases bc;have a9:=(P i o).trans (CV some (go sn N i o));have bd:=u.free i;have k:=t6 S (vk X (vk Q (vk af u2)));have bu:w.1.size< (E.setCell ⟨mb,i,none⟩ (.bool true)).1.size:=by have:=v.size;omega
 clear a2 s ae aS y f an B aB a5 R u X S Q af u2 a v n P a0 bk;have ab:Hid _:=ad;have T:Hid _:=r;have ac:Hid _:=I;clear ad r I;go_upto_region 4 with fail
 generalize E.setCell ⟨mb,i,none⟩ (.bool true)=ak at*;clear a8 a9 bd;generalize J:K.kids=kd at*;have D:Hid (kd.length=L.length):=M;clear M;go_wp2_with fail;go_loopw [7] (fun x wr=> ∃j:Nat,x= .int .i64 (j:Nat)/\j<=kd.length/\OnlyB mb ak wr/\Own1 4 0 wr (some ⟨mb,0,none⟩) N N (mkB (ci (L.take j)++((i:Int)::sn)) N)) (fun x _=>kd.length-(intOf x).toNat)
 case atStart=>exact⟨0,rfl,v6 _,OnlyB.refl _ _,by simpa [ci]using k.out.2.1⟩
 case round=>
  obtain⟨j,rfl,bx,p,c⟩:=hrel;obtain⟨C,a1⟩:=aa wr;subst a1;obtain⟨_,ba,l⟩:=k.out.2.1.blk;have a:∀t,4≠t->KeepT t ak C:=fun t W=>cx p l W;have z:=k.out.1.onlyM p l;have a3:=k.out.2.2.1.keepT (a _ uv);have U:=k.out.2.2.2.1.keep (a _ uv) (a _ uv);have am:C.cell? ⟨w.1.size,4,none⟩=some (.slice (nv q).da kd.length (nv q).dc):=by rw[<-J];exact a3.cell 4
  have bg:Hid (OnlyB mb w C):=k.out.2.2.2.2.trans p;have a7:Hid _:=p;clear p a a3 l;by_cases O:j<kd.length
  ·have V:(j:Int)< (kd.length:Int):=t7;have d:j<L.length:=by have:=D.out;omega
   have Z:=U.kids;rw[J]at Z;obtain⟨bz,bA,H,ap⟩:=Z.get O;rw[H]at am;rw[cF kd j O]at ap;obtain⟨a6,F⟩:=T.out j d;have ag:=ab.out j d (kd.getD j 0) a6 _ C z c F (ac.out j d);have aA:Hid (mkB (ar (L.getD j t0).2++(ci (L.take j)++((i:Int)::sn))) N=mkB (ci (L.take (j+1))++((i:Int)::sn)) N):=mu N (fun x=>by
    have e:L.take (j+1)=L.take j++[L.getD j t0]:=by rw[A4];simp[List.getD,List.getElem?_eq_getElem d]
    rw[e];simp only[ci,List.flatMap_append,List.flatMap_cons,List.flatMap_nil,wC,w4];constructor
    ·rintro(h|h|h)
     ·exact vR (vJ h)
     ·exact vR (vR h)
     ·exact vJ h
    ·rintro((h|h)|h)
     ·exact vJ (vR h)
     ·exact vR h
     ·exact vJ (vJ h))
   generalize kd.getD j 0=bB at*;clear Z U z c H F;go_wp2_with fail;refine ag.mono ?_;rintro e bC ⟨rfl,a4,Y⟩;rw[aA.out]at Y;have A:=t6 a4 Y;clear ag a4 Y am ap;go_wp2_with fail;go_roundw
   case rel=>exact⟨j+1,by go_num,t7,a7.out.trans A.out.1,A.out.2⟩
   case measure=>simp[intOf];omega
  ·have aX:j=kd.length:=t7;have V:¬(j:Int)< (kd.length:Int):=t7;have aT:L.take j=L:=w3 (by have:=D.out;omega);rw[aT]at c;have A:Hid _:=c;clear c U z aT aX;go_wp2_with fail
   go_end0
   exact⟨rfl,bg.out,A.out⟩
theorem G0(i:ns.length<=1048576)(s:N<=1048576):∀(n:Nat)(t:Tr),wf n t->PgU B0 g rest rt ns nv na nc mb N t:=by
 intro n;induction n with
 |zero=>
  intro t f p P sn w o a c d;rcases aO f with⟨id,es,_,rfl⟩|⟨id,L,m,e,_⟩
  ·rw[SRep]at c;obtain⟨q,_,k,j⟩:=c;cases k;have B:=d id (by simp[ar]);have:=yD (mb:=mb) i s q _ j [] uB rfl id.toNat (by show id= _;omega) t7 t7 (fun m a=>by simp at a) (fun m a=>by simp at a) (fun m a=>by simp at a) sn w o a;rw[show((id.toNat:Nat):Int)=id by omega]at this;simpa [ar,ci]using this
  ·omega
 |succ n ih=>
  intro t f p P sn w o a c d;rcases aO f with⟨id,es,e,_⟩|⟨id,L,m,e,rfl⟩
  ·omega
  ·obtain⟨w0,w1,K,H⟩:=bq.1 f;have r:L.length<=1048576:=by
    rw[dm]at H;have:=gQ (sgs L);have:=gC L;omega
   rw[SRep]at c;obtain⟨q,us,G,_,k,j,u⟩:=c;cases k;have B:=d id (by simp[ar]);have z:∀m,m<L.length->∀x∈ar (L.getD m t0).2,0<x/\x< (N:Int):=fun m a x hx=>d x (by
    rw[ar,gF];exact z7 _ (eT.2 ⟨_,bO a,hx⟩))
   have l:∀m,m<L.length->∃G,SRep ns (L.getD m t0).2 G [(strOfNums [],(ndI id us).kids.getD m 0)]:=fun m a=>by
    obtain⟨I,A,J,v,_,_,y,_,F,_⟩:=u.at a;have:=eF (·.2) us m ((strOfNums [],0):Pl);rw[y]at this;exact⟨A,by rw[show(ndI id us).kids.getD m 0=v from this];exact F⟩
   have:=yD (mb:=mb) i s q _ j L r (by show(us.map (·.2)).length= _;rw[y0];exact u.len) id.toNat (by show id= _;omega) t7 t7 l (fun m a=>ih _ (w1 _ (bO a))) z sn w o a;rw[show((id.toNat:Nat):Int)=id by omega]at this;refine this.mono ?_;rintro e w' ⟨C,D,E⟩;refine⟨C,D,?_⟩;rw[mu (b:=ci L++(id::sn)) N (fun x=>by
    rw[ar,gF];simp only[zP,wS,w4];constructor
    ·rintro(h|h|h)
     ·exact vJ (vR h)
     ·exact vR h
     ·exact vJ (vJ h)
    ·rintro(h|h|h)
     ·exact vJ (vR h)
     ·exact vR h
     ·exact vJ (vJ h))]
   exact E
end
def wol(v:Int)(ls:List Int):List Int:=ls.filter fun x=> !(x==v)
theorem yE(v ls):(wol v ls).length<=ls.length:=List.length_filter_le _ _
theorem mF{ls:List Int}{j}(a:j<ls.length):ls.take (j+1)=ls.take j++[ls.getD j 0]:=by rw[A4];simp[List.getD,List.getElem?_eq_getElem a]
theorem G7(v){ls:List Int}{j}(a:j<ls.length):wol v (ls.take (j+1))=if(ls.getD j 0==v)=true then wol v (ls.take j)else wol v (ls.take j)++[ls.getD j 0]:=by
 unfold wol;rw[mF a,List.filter_append];cases h:(ls.getD j 0==v)with
 |true=>rw[B2 rfl,List.filter_cons_of_neg (by rw[h];decide)];simp
 |false=>rw[Ct uv,List.filter_cons_of_pos (by rw[h];decide)];simp
theorem G8(w a c ls v)(h:R1 3 w a ls.length c (on ls))(T:ls.length<=1048576):
 Calls prog 136 #[.slice a ls.length c,.int .i64 v] w fun e w'=> ∃A C,e= .returned (.slice A (wol v ls).length C)/\Below w.1.size w w'/\Own1 3 w.1.size w' A (wol v ls).length C (on (wol v ls)):=by
 have J:Hid (∀u,Below w.1.size w u->R1 3 u a ls.length c (on ls)):=fun u P=>h.below P;have I:=bAl w (.cells #[] 3);have t:=t6 I (fU 3 w.1.size w t1);clear h I;go_enter func136,ntmps136;go_upto_region 2 with fail
 generalize w.alloc (.cells #[] 3)=V at*;go_wp2_with fail;go_loopw [5,6] (fun s x wr=> ∃(j:Nat)(a:Option Addr)(c:Nat)(d:List Int),x= .int .i64 (j:Nat)/\j<=ls.length/\s= .slice a d.length c/\d=wol v (ls.take j)/\Below w.1.size w wr/\Own1 3 w.1.size wr a d.length c (on d)) (fun _ x _=>ls.length-(intOf x).toNat)
 case atStart=>exact⟨0,_,0,[],rfl,v6 _,rfl,rfl,t.out.1,t.out.2⟩
 case round=>
  obtain⟨j,o,p,d,rfl,S,rfl,m,f,r⟩:=hrel;obtain⟨Q,E⟩:=aa wr;subst E;have F:d.length<=1048576:=by rw[m];have:=yE v (ls.take j);rw[wP]at this;omega
  have k:Hid _:=m;have i:=t6 f r;have G:=f.size;clear m;by_cases l:j<ls.length
  ·have q:(j:Int)< (ls.length:Int):=t7;obtain⟨b,R,N,M⟩:=(J.out Q f).get l;subst N;rw[cF _ _ l]at M;have g:Hid _:=G7 v l;generalize ls.getD j 0=x at*;clear f r;cases n:(x==v)with
   |true=>
    rw[n]at g;go_wp2_with fail;go_roundw
    case rel=>exact⟨j+1,o,p,d,by go_num,t7,rfl,by rw[g.out,k.out];rfl,i.out.1,i.out.2⟩
    case measure=>simp[intOf];omega
   |false=>
    rw[n]at g;go_wp2_with (at_builtin;refine lN rfl _ _ co rfl w.1.size o d.length p (on d) rfl i.out.2 (.int .i64 x) rfl rfl F t7 G ?_);intro K L U H B O;have z:=t6 (i.out.1.trans B) H;clear H B O;go_wp2_with fail;go_roundw
    case rel=>exact⟨j+1,K,L,d++[x],by go_num,t7,uB,by rw[g.out,k.out];rfl,z.out.1,by rw[v7,<-fv];exact z.out.2⟩
    case measure=>simp[intOf];omega
  ·have q:¬(j:Int)< (ls.length:Int):=t7;have D:ls.take j=ls:=w3 t7;have y:Hid (d=wol v ls):=by show d= _;rw[k.out,D]
   clear f r D;go_wp2_with fail;go_ret;exact⟨o,p,by rw[<-y.out];rfl,i.out.1,by rw[<-y.out];exact i.out.2⟩
def onl(nw old:List Int):List Int:=old.filter fun x=> !nw.contains x
def idS(left old nw own:List Int):List Int:=own.reverse++((onl nw old).reverse++left.reverse)
theorem G9(a){ls:List Int}{j}(b:j<ls.length):onl a (ls.take (j+1))=if a.contains (ls.getD j 0)=true then onl a (ls.take j)else onl a (ls.take j)++[ls.getD j 0]:=by
 unfold onl;rw[mF b,List.filter_append];cases h:a.contains (ls.getD j 0)with
 |true=>rw[B2 rfl,List.filter_cons_of_neg (by rw[h];decide)];simp
 |false=>rw[Ct uv,List.filter_cons_of_pos (by rw[h];decide)];simp
theorem Ha(w ab ad af ac ae wc bb nb N b f B g)(Z:N<=1048576)(aT:R1 3 w ab b.length ac (on b))(aX:R1 3 w ad f.length ae (on f))(a0:R1 3 w af g.length wc (on g))(Y:Own1 4 bb w (some ⟨nb,0,none⟩) N N (mkB B N))(bg:∀x∈b,0<=x/\x< (N:Int))(bk:∀x∈f,0<=x/\x< (N:Int))(bl:∀x∈g,0<=x/\x< (N:Int))(br:b.length<=1048576)(bs:f.length<=1048576)(bu:g.length<=1048576):
 Calls prog 134 #[.slice ab b.length ac,.slice ad f.length ae,.slice (some ⟨nb,0,none⟩) N N,.slice af g.length wc,.int .i64 (N:Nat)] w fun e w'=> ∃a c,e= .returned (.slice a (mkd (idS b f B g) N).length c)/\Below w.1.size w w'/\Own1 3 w.1.size w' a (mkd (idS b f B g) N).length c (on (mkd (idS b f B g) N)):=by
 obtain⟨mb,I⟩:=aa w.1.size;have an:=jG N Z w;have K:=bAl w (.cells (madeCells #[.bool false] N) 4);have Q:=jH mb N Z w t7;rw[<-I]at an Q;have bn:nb<mb:=by rw[I];exact Y.lt rfl
 have a8:=aT.below K;have a9:=aX.below K;have ba:=a0.below K;have a6:=Y.below K;have W:=t6 K I;clear aT aX a0 Y K I;go_enter func134,ntmps134;go_upto_region 2 with fail
 generalize w.alloc (.cells (madeCells #[.bool false] N) 4)=ap at*;obtain⟨_,bf,S⟩:=Q.blk;have J:Hid (∀u,OnlyB mb ap u->R1 3 u ab b.length ac (on b)/\R1 3 u ad f.length ae (on f)/\R1 3 u af g.length wc (on g)/\∀p,p<N->u.cell? ⟨nb,p,none⟩=some (.bool (B.contains (p:Int)))):=fun u a3=>by
  have k:=cx (t:=3) a3 S uv;refine⟨a8.keep k,a9.keep k,ba.keep k,fun p a1=> ?_⟩;obtain⟨_,H,_,i,_,bm⟩:=a6.at_ t7;cases H;rw[C3 (w:=ap) (a:=⟨nb,p,none⟩) (a3.block nb i t7),bm p a1,go _ _ _ a1]
 have R:Hid _:=Q;clear a8 a9 ba a6 Q an S;go_wp2_with fail;go_loopw [12] (fun x wr=> ∃(j:Nat),x= .int .i64 (j:Nat)/\j<=b.length/\OnlyB mb ap wr/\Own1 4 mb wr (some ⟨mb,0,none⟩) N N (mkB ((b.take j).reverse++[]) N)) (fun x _=>b.length-(intOf x).toNat)
 case atStart=>exact⟨0,rfl,v6 _,OnlyB.refl _ _,R.out⟩
 case round=>
  obtain⟨j,rfl,a2,n,m⟩:=hrel;obtain⟨o,E⟩:=aa wr;subst E;have q:=t6 n m;by_cases i:j<b.length
  ·have z:(j:Int)< (b.length:Int):=t7;obtain⟨a4,a5,H,M⟩:=(J.out o n).1.get i;subst H;rw[cF _ _ i]at M;obtain⟨F,V⟩:=bg _ (bO (d:=0) i);have y:Hid _:=mF i;have r:=(J.out o n).2.2.2;generalize b.getD j 0=x at*;obtain⟨p,rfl⟩:=xP F;have l:p<N:=t7;obtain⟨_,O,_,_,_,v⟩:=m.at_ t7;cases O;obtain⟨C,aB⟩:∃C,o.cell? ⟨mb,p,none⟩=some (.bool C):=⟨_,(v p l).trans (CV some (go _ N p l))⟩;have P:=r p l;have aS:=m.free p;have A:=m.set p (.bool true);rw[iT _ _ _ l]at A;have G:=n.trans (ax o mb p (.bool true));have s:=t6 G A;clear n m v r A G;go_wp2_with fail;go_roundw
   case rel=>exact⟨j+1,by go_num,t7,s.out.1,by rw[y.out,List.reverse_append];exact s.out.2⟩
   case measure=>simp[intOf];omega
  ·have z:¬(j:Int)< (b.length:Int):=t7;have D:b.take j=b:=w3 t7;rw[D]at q;clear n m D;rw[wC]at q;have L:Hid _:=q.out;clear q R;go_wp2_with fail;go_loopw [13] (fun x wr=> ∃(j:Nat),x= .int .i64 (j:Nat)/\j<=f.length/\OnlyB mb ap wr/\Own1 4 mb wr (some ⟨mb,0,none⟩) N N (mkB ((onl B (f.take j)).reverse++b.reverse) N)) (fun x _=>f.length-(intOf x).toNat)
   case atStart=>exact⟨0,rfl,v6 _,L.out.1,L.out.2⟩
   case round=>
    obtain⟨j,rfl,a2,n,m⟩:=hrel;obtain⟨o,E⟩:=aa wr;subst E;have q:=t6 n m;by_cases i:j<f.length
    ·have z:(j:Int)< (f.length:Int):=t7;obtain⟨a4,a5,H,M⟩:=(J.out o n).2.1.get i;subst H;rw[cF _ _ i]at M;obtain⟨F,V⟩:=bk _ (bO (d:=0) i);have y:Hid _:=G9 B i;have r:=(J.out o n).2.2.2;generalize f.getD j 0=x at*;obtain⟨p,rfl⟩:=xP F;have l:p<N:=t7;obtain⟨_,O,_,_,_,v⟩:=m.at_ t7;cases O;obtain⟨C,aB⟩:∃C,o.cell? ⟨mb,p,none⟩=some (.bool C):=⟨_,(v p l).trans (CV some (go _ N p l))⟩;have P:=r p l;have aS:=m.free p;have A:=m.set p (.bool true);rw[iT _ _ _ l]at A;have G:=n.trans (ax o mb p (.bool true));have s:=t6 G A;clear n m v r A G;cases T:B.contains (p:Int)with
     |true=>
      rw[T]at P y;go_wp2_with fail;go_roundw
      case rel=>exact⟨j+1,by go_num,t7,q.out.1,by rw[y.out];exact q.out.2⟩
      case measure=>simp[intOf];omega
     |false=>
      rw[T]at P y;go_wp2_with fail;go_roundw
      case rel=>exact⟨j+1,by go_num,t7,s.out.1,by rw[y.out,Ct uv,List.reverse_append];exact s.out.2⟩
      case measure=>simp[intOf];omega
    ·have z:¬(j:Int)< (f.length:Int):=t7;have D:f.take j=f:=w3 t7;rw[D]at q;clear n m D;have ak:Hid _:=q.out;clear q L;go_wp2_with fail;go_loopw [14] (fun x wr=> ∃(j:Nat),x= .int .i64 (j:Nat)/\j<=g.length/\OnlyB mb ap wr/\Own1 4 mb wr (some ⟨mb,0,none⟩) N N (mkB ((g.take j).reverse++((onl B f).reverse++b.reverse)) N)) (fun x _=>g.length-(intOf x).toNat)
     case atStart=>exact⟨0,rfl,v6 _,ak.out.1,ak.out.2⟩
     case round=>
      obtain⟨j,rfl,a2,n,m⟩:=hrel;obtain⟨o,E⟩:=aa wr;subst E;have q:=t6 n m;by_cases i:j<g.length
      ·have z:(j:Int)< (g.length:Int):=t7;obtain⟨a4,a5,H,M⟩:=(J.out o n).2.2.1.get i;subst H;rw[cF _ _ i]at M;obtain⟨F,V⟩:=bl _ (bO (d:=0) i);have y:Hid _:=mF i;have r:=(J.out o n).2.2.2;generalize g.getD j 0=x at*;obtain⟨p,rfl⟩:=xP F;have l:p<N:=t7;obtain⟨_,O,_,_,_,v⟩:=m.at_ t7;cases O;obtain⟨C,aB⟩:∃C,o.cell? ⟨mb,p,none⟩=some (.bool C):=⟨_,(v p l).trans (CV some (go _ N p l))⟩;have P:=r p l;have aS:=m.free p;have A:=m.set p (.bool true);rw[iT _ _ _ l]at A;have G:=n.trans (ax o mb p (.bool true));have s:=t6 G A;clear n m v r A G;go_wp2_with fail;go_roundw
       case rel=>exact⟨j+1,by go_num,t7,s.out.1,by rw[y.out,List.reverse_append];exact s.out.2⟩
       case measure=>simp[intOf];omega
      ·have z:¬(j:Int)< (g.length:Int):=t7;have D:g.take j=g:=w3 t7;rw[D]at q;clear n m D;have U:Own1 4 mb o (some ⟨mb,0,none⟩) N N (mkB (idS b f B g) N):=q.out.2;have am:=og mb mb N (idS b f B g) o Z U;have X:Hid (Below w.1.size w o):=W.out.1.trans (q.out.1.below (by rw[W.out.2];exact t1) W.out.1.size);clear U q;go_wp2_with fail;refine am.mono ?_;rintro e bv ⟨bc,bd,rfl,aA,a7⟩;have ag:=t6 (X.out.trans (aA.mono X.out.size)) (a7.mono X.out.size);clear aA a7 am;go_wp2_with fail;go_ret;exact⟨bc,bd,rfl,ag.out.1,ag.out.2⟩
def pwO(id kind:Int)(body:List Int):List OpK:=pwL (kOf (bL id kind body.length)) id (page id kind body)
theorem jK(id b a):(pwO id b a).length<=4:=by rw[pwO,gV];exact tK _
theorem ly(id b a c l w)(h:Bs w a l.length c l)(k:l.length<=1048576):
 Calls prog 93 #[.int .i64 id,.int .i64 b,.slice a l.length c] w fun e w'=> ∃d f m,e= .returned (.tuple #[.slice d (pwO id b l).length f,.bool m])/\Below w.1.size w w'/\OOp w.1.size w' d f (pwO id b l):=by
 unfold pwO;rw[gV];cases g:bL id b l.length with
 |true=>
  refine(pK id b a _ c l w h g).mono ?_;rintro e w' ⟨d,f,rfl,i,j⟩;exact⟨d,f,true,rfl,i,j.rop⟩
 |false=>
  refine(tH id b a _ c w k g (page id b l)).mono ?_;rintro e w' ⟨d,f,rfl,i,j⟩;exact⟨d,f,false,rfl,i,j.rop⟩
def n4(ls:List Int):List Int:=ls.flatMap fun x=>num x 4
theorem yF(ls):(n4 ls).length=4*ls.length:=by
 unfold n4;induction ls with
 |nil=>rfl
 |cons x ls ih=>rw[List.flatMap_cons,v7,ew,ih,w6];omega
theorem Hb(ls):IsB (n4 ls):=by
 unfold n4;induction ls with
 |nil=>exact eX
 |cons x ls ih=>rw[List.flatMap_cons];exact dC (ec x 4) ih
def frO:List Int->List Int->List OpK
 |[],_=>[]
 |o::own,ids=>pwO o 4 (num (own.headD 0) 4++n4 (ids.take 59))++frO own (ids.drop 59)
theorem sd:∀a b:List Int,(frO a b).length<=4*a.length
 |[],_=>by simp[frO]
 |o::a,b=>by
  have:=sd a (b.drop 59);have:=jK o 4 (num (a.headD 0) 4++n4 (b.take 59));rw[frO,v7,w6];omega
theorem Hc(w bu q bv r d m)(b3:R1 3 w bu d.length bv (on d))(R:R1 3 w q m.length r (on m))(cP:∀x∈d,0<=x/\x<=1048576)(cR:∀x∈m,0<=x/\x<=1048576)(dd:d.length<=100000)(dk:m.length<=1048576):
 Calls prog 138 #[.slice bu d.length bv,.slice q m.length r] w fun e w'=> ∃a c,e= .returned (.slice a (frO d m).length c)/\Below w.1.size w w'/\OOp w.1.size w' a c (frO d m):=by
 have cg:=bAl w (.cells #[] 157);have bB:=t6 cg (mS w.1.size w t1);have bT:Hid (∀u,Below w.1.size w u->R1 3 u bu d.length bv (on d)):=fun u cW=>b3.below cW;have bR:Hid _:=R;have bS:Hid _:=sd d m;obtain⟨ac,J⟩:=aa (frO d m);rw[<-J]at bS ⊢;have bf:Hid _:=J;clear b3 R cg J;go_enter func138,ntmps138;go_upto_region 2 with fail
 generalize w.alloc (.cells #[] 157)=dq at*;go_wp2_with fail;go_loopw [1,5,6] (fun ad cX c0 wr=> ∃(j:Nat)(a:Option Addr)(c:Nat)(xs:List OpK)(q:Option Addr)(r:Nat)(is:List Int),c0= .int .i64 (j:Nat)/\j<=d.length/\cX= .slice a xs.length c/\ad= .slice q is.length r/\R1 3 w q is.length r (on is)/\(∀x∈is,x∈m)/\is.length<=m.length/\ac=xs++frO (d.drop j) is/\Below w.1.size w wr/\OOp w.1.size wr a c xs) (fun _ _ x _=>d.length-(intOf x).toNat)
 case atStart=>exact⟨0,_,0,[],q,r,m,rfl,v6 _,rfl,rfl,bR.out,fun _ h=>h,t1,bf.out,bB.out.1,bB.out.2⟩
 case round=>
  obtain⟨j,cl,cm,xs,q,r,is,rfl,db,rfl,rfl,R,K,V,G,M,br⟩:=hrel;obtain⟨v,H⟩:=aa wr;subst H;have c7:xs.length<=400000:=by have:=bS.out;rw[G,v7]at this;omega
  have s:=t6 M (vk br (vk R (vk K (vk V G))));by_cases Z:j<d.length
  ·have bn:(j:Int)< (d.length:Int):=t7;have b4:d.drop j=d.getD j 0::d.drop (j+1):=pj 0 Z;obtain⟨t,O⟩:=aa ((d.drop (j+1)).headD 0);have a4:0<=t/\t<=1048576:=by
    rw[O];cases cT:d.drop (j+1)with
    |nil=>simp
    |cons y g=>exact cP y (List.mem_of_mem_drop (i:=j+1) (by rw[cT];simp))
   have aX:Hid (frO (d.drop j) is=pwO (d.getD j 0) 4 (num t 4++n4 (is.take 59))++frO (d.drop (j+1)) (is.drop 59)):=by
    show _= _;rw[b4,frO,<-O]
   have aT:Hid _:=O;have aS:Hid _:=a4;clear b4 O a4 R K V G br;go_upto_if 23 with fail
   go_cut [7] (fun c1 aB=>c1= .int .i64 t/\aB=v)
   case first=>
    by_cases bk:j+1<d.length
    ·have b2:(j:Int)+1< (d.length:Int):=t7;obtain⟨b,Q,U,D⟩:=(bT.out v M).get bk;subst U;rw[cF _ _ bk]at D;have aA:d.getD (j+1) 0=t:=by rw[aT.out,pj 0 bk];rfl
     rw[aA]at D;clear aA;have b1:v.cell? ⟨b,Q+(j+1),none⟩=some (.int .i64 t):=D;have c5:((j:Int)+1).toNat=j+1:=t7;have c4:(0:Int)<=(j:Int)+1:=t7;go_wp2
     go_meet
     exact⟨rfl,rfl⟩
    ·have b2:¬(j:Int)+1< (d.length:Int):=t7;have aA:Hid (t=0):=by show t=0;rw[aT.out,AF t7];rfl
     go_wp2
     go_meet
     exact⟨by rw[aA.out],rfl⟩
   case rest=>
    obtain⟨rfl,b5⟩:=hcut;obtain rfl:=b5.symm;clear b5;have T:=i9 t 4 v aS.out.1 (by have:=aS.out.2;omega) t7;clear M;go_wp2_with fail;refine T.mono ?_;rintro e w1 ⟨cr,cA,rfl,bY,cb⟩;clear T;have bg:=s.out.1.size;have bC:=t6 bY cb;clear bY cb;go_upto_block 2 with fail
    go_cut [1,8,9] (fun ad bx _ aB=> ∃(q:Option Addr)(r:Nat)(f:List Int)(a:Option Addr)(c:Nat)(g:List Int),ad= .slice q f.length r/\bx= .slice a g.length c/\f=is.drop 59/\g=num t 4++n4 (is.take 59)/\R1 3 w q f.length r (on f)/\Below v.1.size v aB/\Own v.1.size aB a g.length c g)
    case first=>
     go_wp2_with fail;go_loopw [1,8,9] (fun ad bx bz wr=> ∃(k:Nat)(q:Option Addr)(r:Nat)(f:List Int)(a:Option Addr)(c:Nat)(g:List Int),bz= .int .i64 (k:Nat)/\k<=59/\ad= .slice q f.length r/\bx= .slice a g.length c/\f=is.drop k/\g=num t 4++n4 (is.take k)/\R1 3 w q f.length r (on f)/\Below v.1.size v wr/\Own v.1.size wr a g.length c g) (fun _ _ bz _=>59-(intOf bz).toNat)
     case atStart=>exact⟨0,q,r,is,cr,cA,num t 4,rfl,t7,rfl,by rw[ew],uB,by simp[n4],s.out.2.2.1,bC.out.1,by rw[ew];exact bC.out.2⟩
     case round=>
      obtain⟨k,bc,bd,f,af,an,g,rfl,dc,rfl,rfl,l,p,F,E,P⟩:=hrel;obtain⟨cj,H⟩:=aa wr;subst H;have X:f.length=is.length-k:=by rw[l,wb]
      have cV:f.length<=1048576:=by have:=s.out.2.2.2.2.1;omega
      have b6:g.length<=300:=by rw[p,v7,ew,yF,wP];omega
      have n:=t6 l (vk p (vk F (vk E P)));by_cases c3:k<59
      ·have bm:(k:Int)<59:=t7;by_cases W:0<f.length
       ·have bl:(0:Int)< (f.length:Int):=t7;obtain⟨cq,cz,ab,ch⟩:=R1.cutFrom co F (i:=1) t7;obtain⟨b,Q,U,D⟩:=(F.below (s.out.1.trans (E.mono bg))).get (i:=0) W;subst U;rw[cF _ _ W]at D;have hx:=cR (f.getD 0 0) (s.out.2.2.2.1 _ (List.mem_of_mem_drop (i:=k) (by rw[<-l];exact bO W)));have N:k<is.length:=t7;have ba:f.getD 0 0=is.getD k 0:=by rw[l];simp[List.getD_eq_getElem?_getD]
        have a8:Hid (is.drop (k+1)=f.drop 1/\n4 (is.take (k+1))=n4 (is.take k)++num (f.getD 0 0) 4):=by
         show _/\_;refine⟨by rw[l,w5],?_⟩;rw[mF N,ba];simp[n4]
        generalize f.getD 0 0=x at*;have b1:cj.cell? ⟨b,Q,none⟩=some (.int .i64 x):=D;have T:=i9 x 4 cj hx.1 t7 t7;have cS:Hid _:=ab;have bW:Hid _:=ch;have a0:=E.size;clear ab ch F l p P ba D X;go_wp2_with fail;refine T.mono ?_;rintro e bA ⟨ag,ap,rfl,ak,cc⟩;clear T;have a6:Own v.1.size bA af g.length an g:=n.out.2.2.2.2.below ak;have C:Bs bA ag 4 ap (num x 4):=cc.bs (ec x 4);have b7:v.1.size<=bA.1.size:=wa a0 ak.size;have cn:Hid _:=n.out.2.2.2.1.trans (ak.mono a0);clear ak cc E;go_wp2_with (at_builtin;refine eu rfl _ _ rfl v.1.size af g.length an g rfl a6 ag 4 ap (num x 4) rfl C t7 b7 ?_);intro cs cB dl ce bZ cL;have bE:=t6 (cn.out.trans bZ) ce;clear ce bZ cL a6 C;go_wp2_with (refine nh rfl rfl (cS.out _) ?_);obtain⟨ae,z⟩:=aa (g++num x 4);have I:ae.length=g.length+4:=by rw[z,v7,ew]
        have B:=t6 z I;obtain⟨ks,Y⟩:=aa (f.drop 1);have N:ks.length=f.length-1:=by rw[Y,wb]
        have L:=t6 Y N;clear z I Y N;go_wp2_with fail;go_roundw
        case rel=>exact⟨k+1,cq,cz,ks,cs,cB,ae,by go_num,t7,by rw[L.out.2],by rw[B.out.2],by rw[L.out.1,a8.out.1],by rw[B.out.1,a8.out.2,n.out.2.1,wi],by rw[L.out.2,L.out.1];have:=bW.out;rw[rc]at this;exact this,bE.out.1,by rw[B.out.2,B.out.1];exact bE.out.2⟩
        case measure=>simp[intOf];omega
       ·have bl:¬(0:Int)< (f.length:Int):=t7;have a2:f.length=0:=t7;have S:Hid (f=is.drop 59/\is.take k=is.take 59):=by
         show _/\_;have e0:f=[]:=y1 a2;refine⟨by rw[e0,AF t7],by rw[w3 t7,w3 t7]⟩
        clear a2 l p F P E X;go_wp2
        go_meet
        exact⟨bc,bd,f,af,an,g,rfl,rfl,S.out.1,by rw[n.out.2.1,S.out.2],n.out.2.2.1,n.out.2.2.2.1,n.out.2.2.2.2⟩
      ·have bm:¬(k:Int)<59:=t7;have a3:k=59:=t7;have S:Hid (f=is.drop 59/\is.take k=is.take 59):=by show _/\_;rw[<-a3];exact⟨l,rfl⟩
       clear a3 l p F P E X;go_wp2
       go_meet
       exact⟨bc,bd,f,af,an,g,rfl,rfl,S.out.1,by rw[n.out.2.1,S.out.2],n.out.2.2.1,n.out.2.2.2.1,n.out.2.2.2.2⟩
    case rest=>
     obtain⟨b9,ca,f,ag,ap,g,rfl,rfl,l,p,F,C,a5⟩:=hcut;obtain⟨ck,H⟩:=aa wc;subst H;have b6:g.length<=300:=by rw[p,v7,ew,yF,wP];omega
     have bb:IsB g:=by rw[p];exact dC (ec t 4) (Hb _)
     obtain⟨b,Q,U,D⟩:=(bT.out ck (s.out.1.trans (C.mono bg))).get Z;subst U;rw[cF _ _ Z]at D;generalize d.getD j 0=o at*;have bX:=ly o 4 ag ap g ck (a5.bs bb) t7;rw[<-p]at aX;have c6:=jK o 4 g;have A:=t6 l (vk F (vk (s.out.1.trans (C.mono bg)) (s.out.2.1.below C)));generalize pwO o 4 g=ps at*;clear l p F a5 C bb;go_wp2_with fail;refine bX.mono ?_;rintro e c2 ⟨c9,da,c8,rfl,am,cf⟩;clear bX D;have a1:=A.out.2.2.1.size;have a9:=A.out.2.2.2.below am;have a7:=cf.reads;have b8:w.1.size<=c2.1.size:=wa a1 am.size;have cp:Hid _:=A.out.2.2.1.trans (am.mono a1);clear am cf;go_wp2_with (at_builtin;refine mT a9 a7 t7 b8 rfl rfl rfl rfl ?_);intro cv cD dp bs cM b0;obtain⟨ae,z⟩:=aa (xs++ps);have I:ae.length=xs.length+ps.length:=by rw[z,v7]
     rw[<-z]at bs;have B:=t6 z I;have bF:=t6 (cp.out.trans b0) bs;clear z I bs cM b0 a9 a7;go_wp2_with fail;go_roundw
     case rel=>exact⟨j+1,cv,cD,ae,b9,ca,f,by go_num,t7,by rw[B.out.2],rfl,A.out.2.1,(fun x hx=>s.out.2.2.2.1 x (List.mem_of_mem_drop (i:=59) (by rw[<-A.out.1];exact hx))),(by have:=s.out.2.2.2.2.1;have:=CV List.length A.out.1;rw[wb]at this;omega),by rw[s.out.2.2.2.2.2,aX.out,B.out.1,A.out.1,wi],bF.out.1,bF.out.2⟩
     case measure=>simp[intOf];omega
  ·have bn:¬(j:Int)< (d.length:Int):=t7;have bP:Hid (xs=ac):=by show xs=ac;rw[G,AF t7,frO,wC]
   clear R K V G br M;go_wp2_with fail;go_ret;exact⟨cl,cm,by rw[<-bP.out];rfl,s.out.1,by rw[<-bP.out];exact s.out.2.1⟩
def txB(s:ByteArray):List Int:=(s.size:Int)::nb s
def lfB(es:List En):List Int:=es.flatMap fun e=>txB e.1++txB e.2
def iBd:Nat->List Pl->List Int
 |_,[]=>[]
 |0,x::us=>num x.2 4++iBd 1 us
 |k+1,x::us=>txB x.1++(num x.2 4++iBd (k+2) us)
def fI:Tr->Int
 | .leaf id _=>id
 | .node id _=>id
 |_=>0
def kdP(L:List Kd):List Pl:=L.map fun x=>(x.1,fI x.2)
def bdT:Tr->List Int
 | .leaf _ es=>lfB es
 | .node _ ks=>iBd 0 (kdP (aC ks))
 |_=>[]
theorem lz(s):(txB s).length=1+s.size:=by simp[txB,up];omega
theorem se{s}(h:s.size<=255):IsB (txB s):=pD t7 t7 (ut s)
theorem pm:∀es:List En,(lfB es).length=lSz es
 |[]=>rfl
 |e::es=>by
  have:=pm es;rw[gz];simp only[lfB,List.flatMap_cons,v7,lz]at*;simp only[eSz];omega
theorem sh:∀(a B:List Pl)(k:Nat),iBd k (a++B)=iBd k a++iBd (k+a.length) B
 |[],B,k=>by simp[iBd]
 |x::a,B,0=>by rw[zP,iBd,iBd,sh a B 1];simp[Nat.add_comm]
 |x::a,B,k+1=>by rw[zP,iBd,iBd,sh a B (k+2)];simp[Nat.add_comm,Nat.add_left_comm]
theorem Hd{us:List Pl}{j}(a:j<us.length)(d):iBd 0 (us.take (j+1))=(iBd 0 (us.take j)++(if j=0 then []else txB (us.getD j d).1))++num (us.getD j d).2 4:=by
 have e:us.take (j+1)=us.take j++[us.getD j d]:=by rw[A4];simp[List.getD,List.getElem?_eq_getElem a]
 have b:(us.take j).length=j:=by rw[wP];omega
 rw[e,sh,b,wB];cases j with
 |zero=>simp[iBd]
 |succ j=>simp[iBd]
theorem si:∀(us:List Pl)(k:Nat),(iBd k us).length<=4*us.length+aH (us.map (·.1))
 |[],k=>by simp[iBd]
 |x::us,0=>by
  have:=si us 1;rw[iBd,v7,ew,wg,fW,w6];simp only[gSz];omega
 |x::us,k+1=>by
  have:=si us (k+2);rw[iBd,v7,v7,lz,ew,wg,fW,w6];simp only[gSz];omega
theorem lA:ElT 56 5 1 (.int .u8 0) 1:=⟨underlying56,jM,rfl,t7⟩
theorem iH{w}{o:Oper}{a b d x s}(c:o.op= .convert 9 56 x)(hx:a.eval x= .string s)(h:b (a.put o.dst (.slice (some ⟨w.1.size,0,none⟩) s.size (grownCap w s.size 0 5))) (Go.Lib.bytesWorld w 5 s)):o.wp prog a w b d:=by
 unfold Oper.wp execOp;simp only[c,hx,CP,Bf,DB,C0];exact h
theorem Bs.grownN{w w' b a n c l r}(h:Bs w (some ⟨b,a,none⟩) n c l)(d:w.grownBy w' r)(m:r≠some b):Bs w' (some ⟨b,a,none⟩) n c l:=
 ⟨h.len_eq,h.le,h.le',h.nil,fun k=>by
  obtain⟨p,o,e,f,g⟩:=h.at_ k;cases e;exact⟨b,a,rfl,wE f d.size,fun i j=>by rw[C3 (w:=w) (d.block b f (fun e=>m e.symm))];exact g i j⟩,h.byte⟩
theorem lB{B b w a n c l}(h:Own B w a n c l)(d:w.1.size<=b):(Value.slice a n c).ownBlock≠some b:=fun e=>by
 have:=(B5 h b e).2;omega
section
variable {B0 g:Nat} {rest:List Value} {rt:Int} {w:World} {ns:List NdK} {nv:Nat->NdV} {na:Option Addr} {nc:Nat}
theorem USt.setRt(h:USt B0 g rest rt w ns nv na nc)(r):USt B0 g rest r (w.setCell ⟨g,1,none⟩ (.int .i64 r)) ns nv na nc:=by
 have o:=ax w g 1 (.int .i64 r);have k:∀t,t≠116->KeepT t w (w.setCell ⟨g,1,none⟩ (.int .i64 r)):=fun t b=>aw o h.blk (D7 b);exact⟨h.blk.set 1 (.int .i64 r),cw h.nodes (k _ uv),fun i a=>(h.each i a).keep (k _ uv) (k _ uv),wa h.gB o.size⟩
def ChP(B0 g:Nat)(rest:List Value)(na:Option Addr)(w:World)(ns:List NdK)(d:Nat)(r:OTr×Bool)(e:Ending)(w':World):Prop:=e= .returned (.bool r.2)/\∃(rt':Int)(ms:List NdK),UQ B0 g rest rt' na w w' ms/\UO ms rt' r.1/\ns.length<=ms.length/\ms.length<=ns.length+d
noncomputable def mG(ms:List NdK)(g:Nat)(u:World):Nat:=match u.cell? ⟨g,1,none⟩with|some (.int _ r)=>dep ms r|_=>0
theorem yG{ms u r n t P}(a:u.cell? ⟨g,1,none⟩=some (.int .i64 r))(h:wf n t)(s:SRep ms t P [(strOfNums [],r)]):mG ms g u=n:=by unfold mG;rw[a];exact GL h s
theorem He{n t ms}{p:Nat}{K}{es:List En}{P}(h:wf n t)(s:SRep ms t P [(strOfNums [],(p:Int))])(a:ms[p]?=some K)(c:K.kids.length≠1):dM n t=(n,t):=by
 rcases aO h with⟨id,es,rfl,rfl⟩|⟨id,L,m,rfl,rfl⟩
 ·rfl
 ·rw[SRep]at s;obtain⟨q,us,G,_,b,e,f⟩:=s;simp only[List.cons.injEq,Prod.mk.injEq,true_and,and_true]at b;have:q=p:=t7;subst this;rw[e]at a;cases a;rw[dM,ct];have d:=f.len;simp only[ndI,y0]at c;split
  ·simp at d;omega
  ·rfl
theorem Hf(cr:USt B0 g rest rt w ns nv na nc){n t}(cS:UO ns rt (some (n,t)))(cg:ns.length+n<=1048574)(k v)(S:eP k n t=true):
 Calls prog 98 #[.pointer (some ⟨g,0,none⟩),.agg (fH k v true)] w fun e w'=>ChP B0 g rest na w ns n (if bare (bN k n t)then none else some (dM n (bN k n t)),true) e w':=by
 obtain⟨Y,R⟩:=aa (if bare (bN k n t)then none else some (dM n (bN k n t)));rw[<-R];have ab:Hid _:=R;clear R;obtain⟨b0,P,bY,bm⟩:=cS;obtain⟨ae,U⟩:=aa (w.alloc (.cells (fH k v true) 161));have b3:Below w.1.size w ae:=by rw[U];exact bAl _ _
 have b2:Blk ae 161 w.1.size [.string k,.string v,.bool true]:=by rw[U];exact aq w _ _
 have cL:ae.cell? ⟨w.1.size,2,none⟩=some (.bool true):=b2.cell 2;have ac:Hid _:=cr;have A:=t6 b0 (vk bY bm);unfold fH at*;go_enter func98,ntmps98;go_upto_region 1 with fail
 change Code.wp _ _ _ _ (w.alloc (.cells #[.string k,.string v,.bool true] 161));rw[<-U];clear U cr;go_upto_region 2 with fail
 have O:=bDr ae;have bC:=b3.trans (O.mono b3.size);have y:=ac.out.below bC;have s:=b2.below O;refine az (fun u=>u.cell? ⟨g,1,none⟩=some (.int .i64 rt)/\u.cell? ⟨w.1.size,0,none⟩=some (.string k)) (fun k=>decide (7<=k)) uA ?_;clear O b2 cL b3;generalize ae.drew=cB at*;have cs:cB.cell? ⟨g,1,none⟩=some (.int .i64 rt)/\cB.cell? ⟨w.1.size,0,none⟩=some (.string k):=⟨y.blk.cell 1,s.cell 0⟩;have bx:=ye (k:=k) n t b0 cB ns nv na nc P rt y bY t7;rw[S]at bx;have a1:=t6 bC s;have cA:Hid _:=S;clear y s bC S b0 bY bm;refine aj 0 cs ?_;refine aj 1 cs ?_;refine aj 2 cs ?_;refine aj 3 cs ?_;refine aj 4 cs ?_;refine aj 5 cs ?_;refine aj 6 cs ?_;refine ah 7 fun l c=> ?_;go_wp2_with fail;refine bx.mono ?_;rintro e b9 ⟨rfl,bE⟩;clear bx;have a2:=t6 (a1.out.1.trans (bE.mono a1.out.1.size)) (a1.out.2.below bE);clear bE cs a1;go_wp2_with fail;refine ao c ?_ (fun h=>absurd h uv);clear c l;refine ah 8 fun l c=> ?_;go_wp2_with fail;refine aU c ?_ (fun h=>absurd h uv);clear c l;go_wp2_with fail;have O:=bDr b9;have bF:=a2.out.1.trans (O.mono a2.out.1.size);have aX:=ac.out.below bF;have cm:=a2.out.2.below O;refine az (fun u=>u.cell? ⟨g,1,none⟩=some (.int .i64 rt)/\u.cell? ⟨w.1.size,0,none⟩=some (.string k)) (fun k=>decide (7<=k)) uA ?_;clear O a2;generalize b9.drew=cD at*;have cs:cD.cell? ⟨g,1,none⟩=some (.int .i64 rt)/\cD.cell? ⟨w.1.size,0,none⟩=some (.string k):=⟨aX.blk.cell 1,cm.cell 0⟩;have b4:=Gy (k:=k) n t A.out.1 cD ns nv na nc P rt aX A.out.2.1 A.out.2.2 cg cA.out;have a9:Hid _:=bF;clear aX cm bF;refine aj 0 cs ?_;refine aj 1 cs ?_;refine aj 2 cs ?_;refine aj 3 cs ?_;refine aj 4 cs ?_;refine aj 5 cs ?_;refine aj 6 cs ?_;refine ah 7 fun l c=> ?_;go_wp2_with fail;refine b4.mono ?_;rintro e Z ⟨rfl,ms,P',cR,ck,bk,bf,bT,cf⟩;clear b4 cs;obtain⟨aA,c1,H,stZ,ce,bl⟩:=cR;obtain⟨p,K,es,I⟩:=bT.rt (yn (k:=k) A.out.1);have ch:=I.pl;have bs:=kM (k:=k) A.out.1;generalize cV:bN k n t=d at*;have J:=t6 bT (vk cf.1 (vk I (vk bs (vk ce bl))));obtain⟨b,rfl,a,_,cX⟩:=stZ.cells I.nd;subst ch;have a5:Z.cell? ⟨g,0,none⟩=some (.slice (some ⟨b,0,none⟩) ms.length H):=stZ.blk.cell 0;have N:Z.cell? ⟨g,1,none⟩=some (.int .i64 (p:Nat)):=stZ.blk.cell 1;have Q:=a 2 _ rfl;have cP:=a 4 _ rfl;have c0:=I.small;have bb:Hid _:=stZ;go_wp2_with fail;refine aU c ?_ (fun h=>absurd h uv);clear c l bT cf I bs ce bl a ck stZ;go_wp2_with fail
 go_quiet (fail)
 have C:=bb.out.below (oU Z nq);have bR:UFr g na w (Z.drewN nq):=((OnlyS.ofBelow a9.out).trans J.out.2.2.2.2.1).trans (OnlyS.ofBelow (oU Z nq));have am:=xO (vR rfl) J.out.2.2.2.2.2 a9.out.size;have V:=J.out.2.2.1;generalize Z.drewN nq=a4 at*;have bS:=C.blk.free 1;have T:a4.cell? ⟨g,1,none⟩=some (.int .i64 (p:Nat)):=C.blk.cell 1;cases o:bare d with
 |true=>
  obtain⟨bg,bd⟩:=V.bare.1 o;have b1:((K.keys.length:Int)+(K.kids.length:Int)==0)=true:=by rw[bg,bd];rfl
  have bA:Hid (UQ B0 g rest (-1) na w (a4.setCell ⟨g,1,none⟩ (.int .i64 (-1))) ms):=(C.setRt (-1)).uq (bR.trans ((OnlyS.ofB (ax a4 g 1 _)).mono (fun k _ bX=>vR bX))) am;have b5:Hid _:=o;clear bg bd V C o;go_wp2_with fail;go_ret;refine⟨rfl, -1,ms,bA.out,?_,bk,bf⟩;rw[ab.out,B2 b5.out]
  rfl
 |false=>
  have b1:((K.keys.length:Int)+(K.kids.length:Int)==0)=false:=by
   rw[D0];intro e;have:=V.bare.2 ⟨y1 t7,y1 t7⟩;rw[o]at this;cases this
  rw[b1];clear b1;have bz:Hid _:=C;have ba:=t6 bR am;have br:=J.out.2.2.2.1 o;have ad:=t6 br (vk J.out.1 J.out.2.1);have b7:Hid (Y=some (dM n d)):=by show Y= _;rw[ab.out,o];rfl
  clear C bR am V bS br o bb J ac A a5 N Q cP T;go_wp2_with fail;go_loopw [67] (fun x wr=> ∃(a7:Nat)(a0:Tr)(a3:List Nat)(r:Int),USt B0 g rest r wr ms aA (some ⟨b,0,none⟩) H/\OnlyB g a4 wr/\wf a7 a0/\SRep ms a0 a3 [(strOfNums [],r)]/\a3.Nodup/\dM a7 a0=dM n d) (fun _ wr=>mG ms g wr)
  case atStart=>exact⟨n,d,P',(p:Int),bz.out,OnlyB.refl _ _,ad.out.1,ad.out.2.1,ad.out.2.2,rfl⟩
  case round=>
   obtain⟨a7,a0,a3,r,z,a8,w1,D,X,W⟩:=hrel;obtain⟨j,cl⟩:=aa wr;subst cl;obtain⟨q,b8,cc,f⟩:=D.rt (vR w1);obtain rfl:=f.pl;obtain⟨_,cM,a,ag,cT⟩:=z.cells f.nd;cases cM;have a5:j.cell? ⟨g,0,none⟩=some (.slice (some ⟨b,0,none⟩) ms.length H):=z.blk.cell 0;have N:j.cell? ⟨g,1,none⟩=some (.int .i64 (q:Nat)):=z.blk.cell 1;have bP:=a 4 _ rfl;have bZ:=f.small;by_cases B:b8.kids.length=1
   ·obtain⟨id,m,x,rfl,rfl⟩:∃id m x,a7=m+1/\a0= .node id (kds [x]):=by
     rcases aO w1 with⟨id,es,rfl,rfl⟩|⟨id,L,m,rfl,rfl⟩
     ·exfalso;rw[SRep]at D;obtain⟨aB,_,Q,s⟩:=D;simp only[List.cons.injEq,Prod.mk.injEq,true_and,and_true]at Q;have:q=aB:=t7;subst this;have:=f.nd;rw[s]at this;cases this;simp[ndL]at B
     ·have bu:=D;rw[SRep]at bu;obtain⟨aB,us,G,_,Q,s,aS⟩:=bu;simp only[List.cons.injEq,Prod.mk.injEq,true_and,and_true]at Q;have:q=aB:=t7;subst this;have af:=f.nd;rw[s]at af;cases af;have ak:=aS.len;simp only[ndI,y0]at B
      match L,ak with
      |[x],_=>exact⟨id,m,x,rfl,rfl⟩
      |[],ak=>rw[AC]at ak;omega
      |_::_::_,ak=>simp only[w6]at ak;omega
    rw[SRep]at D;obtain⟨aB,us,G,rfl,Q,s,aS⟩:=D;simp only[List.cons.injEq,Prod.mk.injEq,true_and,and_true]at Q;have cj:q=aB:=t7;subst cj;have af:=f.nd;rw[s]at af;cases af;obtain⟨v2,c2,bv,c3,rfl,rfl,cp,cq⟩:=er.1 aS;obtain⟨rfl,rfl⟩:=gE.1 cq;obtain⟨an,ap,cb,ca⟩:=ag.kids.get (i:=0) (by simp[ndI]);have bc:j.cell? ⟨an,ap,none⟩=some (.int .i64 v2):=ca;rw[cb,B]at bP;have bW:Hid (mG ms g j=m+1):=yG (P:=q::(bv++[])) N w1 (by rw[SRep];exact⟨q,[(x.1,v2)],bv++[],rfl,rfl,s,aS⟩);have cv:=(bq.1 w1).2.1 x uB;have b6:Hid (dM m x.2=dM n d):=by
     show _= _;rw[<-W,dM,ct]
    have E:=t6 z (vk a8 (vk cv (vk cp (z6.1 (zd.1 X).2).1)));clear z a8 w1 cp cq aS X W f a ag B cv s cb ca bZ;go_wp2_with fail
    go_quiet (fail)
    go_wp2_with fail;have M:Below j.1.size j (j.drewN nq).drew:=⟨rfl,rfl,rfl,t1,fun _ _=>rfl⟩;refine az (fun u=>u.cell? ⟨g,0,none⟩=some (.slice (some ⟨b,0,none⟩) ms.length H)/\u.cell? ⟨g,1,none⟩=some (.int .i64 (q:Nat))/\u.cell? ⟨b,q*6+4,none⟩=some (.slice (some ⟨an,ap,none⟩) 1 (aA q).dc)/\u.cell? ⟨an,ap,none⟩=some (.int .i64 v2)) (fun k=>decide (16<=k)) uA ?_;have cs:=vk a5 (vk N (vk bP bc));have y:=E.out.1.below M;have cn:=E.out.2.1.trans (Below.onlyB M g);replace cs:(j.drewN nq).drew.cell? ⟨g,0,none⟩=some (.slice (some ⟨b,0,none⟩) ms.length H)/\(j.drewN nq).drew.cell? ⟨g,1,none⟩=some (.int .i64 (q:Nat))/\(j.drewN nq).drew.cell? ⟨b,q*6+4,none⟩=some (.slice (some ⟨an,ap,none⟩) 1 (aA q).dc)/\(j.drewN nq).drew.cell? ⟨an,ap,none⟩=some (.int .i64 v2):=cs;generalize (j.drewN nq).drew=bB at*;have bS:=y.blk.free 1;have aT:=y.setRt v2;have T:(bB.setCell ⟨g,1,none⟩ (.int .i64 v2)).cell? ⟨g,1,none⟩=some (.int .i64 v2):=aT.blk.cell 1;have a6:Hid (mG ms g (bB.setCell ⟨g,1,none⟩ (.int .i64 v2))=m):=yG T E.out.2.2.1 E.out.2.2.2.1;have F:=t6 aT (vk (cn.trans (ax bB g 1 (.int .i64 v2))) E.out.2.2);clear y cn aT T M a5 N bP bc;refine ay 0 cs ?_;refine ay 1 cs ?_;refine ay 2 cs ?_;refine ay 3 cs ?_;refine ay 4 cs ?_;refine ay 5 cs ?_;refine ay 6 cs ?_;refine ay 7 cs ?_;refine ay 8 cs ?_;refine ay 9 cs ?_;refine ay 10 cs ?_;refine ay 11 cs ?_;refine ay 12 cs ?_;refine ay 13 cs ?_;refine ah 14 fun l c=> ?_;go_wp2_with fail;refine ao c ?_;clear c l;refine ah 15 fun l c=> ?_;go_wp2_with fail;refine ao c ?_;clear c l;have N:=cs.2.1;refine ah 16 fun l c=> ?_;go_wp2_with fail;refine aU c ?_;clear c l cs bS N;go_wp2_with fail;go_roundw
    case rel=>exact⟨m,x.2,bv,v2,F.out.1,F.out.2.1,F.out.2.2.1,F.out.2.2.2.1,F.out.2.2.2.2,b6.out⟩
    case measure=>rw[bW.out,a6.out];omega
   ·have bn:=He (es:=cc) w1 D f.nd B;have cz:Hid (UO ms (q:Int) Y):=by
     show UO ms (q:Int) Y;rw[b7.out,<-W,bn];exact⟨w1,a3,D,X⟩
    have E:=t6 z a8;have cW:((b8.kids.length:Int)==1)=false:=by rw[D0];omega
    clear z a8 w1 D X W f a ag bn B;go_wp2_with fail
    go_quiet (fail)
    have M:=oU j nq;have bA:Hid (UQ B0 g rest (q:Int) na w (j.drewN nq) ms):=(E.out.1.below M).uq (ba.out.1.trans ((OnlyS.ofB (E.out.2.trans (Below.onlyB M g))).mono (fun k _ bX=>vR bX))) ba.out.2;clear M;go_wp2_with fail;go_ret;exact⟨rfl,q,ms,bA.out,cz.out,bk,bf⟩
end
