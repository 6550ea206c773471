import Derived.Test.YtglbanolhhjjiaaGreatDoorFo39
import Derived.Test.YtglbanolhhjjiaaGreatDoorFo22
namespace Go.Proofs.YtglbanolhhjjiaaGreatDoor
open Go.Proofs.Tryz
open Go.RowKit
set_option linter.unusedVariables false
set_option maxRecDepth 100000
set_option maxHeartbeats 32000000
section
variable {B0 g:Nat} {rest:List Value} {rt:Int} {ns:List NdK} {nv:Nat->NdV} {na:Option Addr} {nc mb N:Nat}
theorem USt.onlyM{w w'}(h:USt B0 g rest rt w ns nv na nc){b fr}(c:OnlyB mb w w')(d:w.heap[mb]?=some (.cells b 4 fr)):USt B0 g rest rt w' ns nv na nc:=by
 have a:∀t,4≠t->KeepT t w w':=fun t f=>cx c d f;exact⟨h.blk.keepT (a _ uB),cw h.nodes (a _ uB),fun i e=>(h.each i e).keep (a _ uB) (a _ uB),wg h.gB c.size⟩
def PgU(B0 g:Nat)(rest:List Value)(rt:Int)(ns:List NdK)(nv:Nat->NdV)(na:Option Addr)(nc mb N:Nat)(t:Tr):Prop:= ∀(p:Int)(P:List Nat)(sn:List Int)(w:World),USt B0 g rest rt w ns nv na nc->Own1 4 0 w (some ⟨mb,0,none⟩) N N (mkB sn N)->SRep ns t P [(strOfNums [],p)]->(∀id∈ar t,0<id/\id< (N:Int))->
 Calls prog 106 #[.pointer (some ⟨g,0,none⟩),.int .i64 p,.slice (some ⟨mb,0,none⟩) N N] w fun e w'=>e= .returned (.tuple #[])/\OnlyB mb w w'/\Own1 4 0 w' (some ⟨mb,0,none⟩) N N (mkB (ar t++sn) N)
theorem yD(bn:ns.length<=1048576)(bv:N<=1048576)(q K)(aB:ns[q]?=some K)(L:List Kd)(bl:L.length<=1048576)(M:K.kids.length=L.length)(i:Nat)(bf:K.page=(i:Int))(bm:0<i)(o:i<N)(r:∀m,m<L.length->∃G,SRep ns (L.getD m t0).2 G [(strOfNums [],K.kids.getD m 0)])(ad:∀m,m<L.length->PgU B0 g rest rt ns nv na nc mb N (L.getD m t0).2)(I:∀m,m<L.length->∀id∈ar (L.getD m t0).2,0<id/\id< (N:Int))(sn w)(B:USt B0 g rest rt w ns nv na nc)(a0:Own1 4 0 w (some ⟨mb,0,none⟩) N N (mkB sn N)):
 Calls prog 106 #[.pointer (some ⟨g,0,none⟩),.int .i64 (q:Nat),.slice (some ⟨mb,0,none⟩) N N] w fun e w'=>e= .returned (.tuple #[])/\OnlyB mb w w'/\Own1 4 0 w' (some ⟨mb,0,none⟩) N N (mkB (ci L++((i:Int)::sn)) N):=by
 obtain⟨b,rfl,f,aS,bs⟩:=B.cells aB;have an:w.cell? ⟨g,0,none⟩=some (.slice (some ⟨b,0,none⟩) ns.length nc):=B.blk.cell 0;have y:=bAl w (.cells (ndc (nv q) K).toArray 176);have a2:=aq w 176 (ndc (nv q) K).toArray;have a5:(prog.info? 176).map (·.size)=some (ndc (nv q) K).length:=aD;have br:¬(q:Int)<0:=uA;go_enter func106,ntmps106;go_upto_region 2 with(first|(refine dG rfl 176 _ rfl b (q*6) rfl (ndc (nv q) K) _ f underlying176 rfl a5 ?_)|(refine bt rfl 176 _ _ rfl w (ndc aF nd0).toArray (ndc (nv q) K).toArray 176 rfl rfl aD rfl (cy _ _) ?_))
 change Code.wp _ _ _ _ (w.alloc (.cells (ndc (nv q) K).toArray 176));have ae:=aS.below y;have R:=B.below y;have u:=a0.below y;have bk:(w.alloc (.cells (ndc (nv q) K).toArray 176)).1.size=w.1.size+1:=by simp
 generalize w.alloc (.cells (ndc (nv q) K).toArray 176)=E at*;have s:Blk E 176 w.1.size (ndc (nv q) K):=a2;obtain⟨_,bb,n⟩:=u.blk;have v:=ax E mb i (.bool true);have a:∀t,4≠t->KeepT t E (E.setCell ⟨mb,i,none⟩ (.bool true)):=fun t W=>cx v n W;have X:=u.set i (.bool true);rw[iT _ _ _ o]at X;have S:=R.onlyM v n;have Q:=s.keepT (a _ uB);have af:=ae.keep (a _ uB) (a _ uB);have u2:OnlyB mb w (E.setCell ⟨mb,i,none⟩ (.bool true)):=(Below.onlyB y mb).trans v;have a8:E.cell? ⟨w.1.size,0,none⟩=some (.int .i64 (i:Nat)):=(s.cell 0).trans (by rw[<-bf];rfl);obtain⟨_,bc,_,_,_,P⟩:=u.at_ uA;cases bc;have a9:=(P i o).trans (C1 some (go sn N i o));have bd:=u.free i;have k:=uv S (vJ X (vJ Q (vJ af u2)));have bu:w.1.size< (E.setCell ⟨mb,i,none⟩ (.bool true)).1.size:=by have:=v.size;omega
 clear a2 s ae aS y f an B aB a5 R u X S Q af u2 a v n P a0 bk;have ab:Hid _:=ad;have T:Hid _:=r;have ac:Hid _:=I;clear ad r I;go_upto_region 4 with fail
 generalize E.setCell ⟨mb,i,none⟩ (.bool true)=ak at*;clear a8 a9 bd;generalize J:K.kids=kd at*;have D:Hid (kd.length=L.length):=M;clear M;go_wp2_with fail;go_loopw [7] (fun x wr=> ∃j:Nat,x= .int .i64 (j:Nat)/\j<=kd.length/\OnlyB mb ak wr/\Own1 4 0 wr (some ⟨mb,0,none⟩) N N (mkB (ci (L.take j)++((i:Int)::sn)) N)) (fun x _=>kd.length-(intOf x).toNat)
 case atStart=>exact⟨0,rfl,wa _,OnlyB.refl _ _,by simpa [ci]using k.out.2.1⟩
 case round=>
  obtain⟨j,rfl,bx,p,c⟩:=hrel;obtain⟨C,a1⟩:=aa wr;subst a1;obtain⟨_,ba,l⟩:=k.out.2.1.blk;have a:∀t,4≠t->KeepT t ak C:=fun t W=>cx p l W;have z:=k.out.1.onlyM p l;have a3:=k.out.2.2.1.keepT (a _ uB);have U:=k.out.2.2.2.1.keep (a _ uB) (a _ uB);have am:C.cell? ⟨w.1.size,4,none⟩=some (.slice (nv q).da kd.length (nv q).dc):=by rw[<-J];exact a3.cell 4
  have bg:Hid (OnlyB mb w C):=k.out.2.2.2.2.trans p;have a7:Hid _:=p;clear p a a3 l;by_cases O:j<kd.length
  ·have V:(j:Int)< (kd.length:Int):=uA;have d:j<L.length:=by have:=D.out;omega
   have Z:=U.kids;rw[J]at Z;obtain⟨bz,bA,H,ap⟩:=Z.get O;rw[H]at am;rw[cF kd j O]at ap;obtain⟨a6,F⟩:=T.out j d;have ag:=ab.out j d (kd.getD j 0) a6 _ C z c F (ac.out j d);have aA:Hid (mkB (ar (L.getD j t0).2++(ci (L.take j)++((i:Int)::sn))) N=mkB (ci (L.take (j+1))++((i:Int)::sn)) N):=mu N (fun x=>by
    have e:L.take (j+1)=L.take j++[L.getD j t0]:=by rw[A6];simp[List.getD,List.getElem?_eq_getElem d]
    rw[e];simp only[ci,List.flatMap_append,List.flatMap_cons,List.flatMap_nil,wP,w6];constructor
    ·rintro(h|h|h)
     ·exact v7 (v6 h)
     ·exact v7 (v7 h)
     ·exact v6 h
    ·rintro((h|h)|h)
     ·exact v6 (v7 h)
     ·exact v7 h
     ·exact v6 (v6 h))
   generalize kd.getD j 0=bB at*;clear Z U z c H F;go_wp2_with fail;refine ag.mono ?_;rintro e bC ⟨rfl,a4,Y⟩;rw[aA.out]at Y;have A:=uv a4 Y;clear ag a4 Y am ap;go_wp2_with fail;go_roundw
   case rel=>exact⟨j+1,by go_num,uA,a7.out.trans A.out.1,A.out.2⟩
   case measure=>simp[intOf];omega
  ·have aX:j=kd.length:=uA;have V:¬(j:Int)< (kd.length:Int):=uA;have aT:L.take j=L:=w5 (by have:=D.out;omega);rw[aT]at c;have A:Hid _:=c;clear c U z aT aX;go_wp2_with fail
   go_end0
   exact⟨rfl,bg.out,A.out⟩
theorem G0(i:ns.length<=1048576)(s:N<=1048576):∀(n:Nat)(t:Tr),wf n t->PgU B0 g rest rt ns nv na nc mb N t:=by
 intro n;induction n with
 |zero=>
  intro t f p P sn w o a c d;rcases aO f with⟨id,es,_,rfl⟩|⟨id,L,m,e,_⟩
  ·rw[SRep]at c;obtain⟨q,_,k,j⟩:=c;cases k;have B:=d id (by simp[ar]);have:=yD (mb:=mb) i s q _ j [] vo rfl id.toNat (by show id= _;omega) uA uA (fun m a=>by simp at a) (fun m a=>by simp at a) (fun m a=>by simp at a) sn w o a;rw[show((id.toNat:Nat):Int)=id by omega]at this;simpa [ar,ci]using this
  ·omega
 |succ n ih=>
  intro t f p P sn w o a c d;rcases aO f with⟨id,es,e,_⟩|⟨id,L,m,e,rfl⟩
  ·omega
  ·obtain⟨w0,w1,K,H⟩:=bq.1 f;have r:L.length<=1048576:=by
    rw[dm]at H;have:=gQ (sgs L);have:=gC L;omega
   rw[SRep]at c;obtain⟨q,us,G,_,k,j,u⟩:=c;cases k;have B:=d id (by simp[ar]);have z:∀m,m<L.length->∀x∈ar (L.getD m t0).2,0<x/\x< (N:Int):=fun m a x hx=>d x (by
    rw[ar,gF];exact AC _ (eT.2 ⟨_,bO a,hx⟩))
   have l:∀m,m<L.length->∃G,SRep ns (L.getD m t0).2 G [(strOfNums [],(ndI id us).kids.getD m 0)]:=fun m a=>by
    obtain⟨I,A,J,v,_,_,y,_,F,_⟩:=u.at a;have:=eF (·.2) us m ((strOfNums [],0):Pl);rw[y]at this;exact⟨A,by rw[show(ndI id us).kids.getD m 0=v from this];exact F⟩
   have:=yD (mb:=mb) i s q _ j L r (by show(us.map (·.2)).length= _;rw[y2];exact u.len) id.toNat (by show id= _;omega) uA uA l (fun m a=>ih _ (w1 _ (bO a))) z sn w o a;rw[show((id.toNat:Nat):Int)=id by omega]at this;refine this.mono ?_;rintro e w' ⟨C,D,E⟩;refine⟨C,D,?_⟩;rw[mu (b:=ci L++(id::sn)) N (fun x=>by
    rw[ar,gF];simp only[z1,w3,w6];constructor
    ·rintro(h|h|h)
     ·exact v6 (v7 h)
     ·exact v7 h
     ·exact v6 (v6 h)
    ·rintro(h|h|h)
     ·exact v6 (v7 h)
     ·exact v7 h
     ·exact v6 (v6 h))]
   exact E
end
def wol(v:Int)(ls:List Int):List Int:=ls.filter fun x=> !(x==v)
theorem yE(v ls):(wol v ls).length<=ls.length:=List.length_filter_le _ _
theorem mF{ls:List Int}{j}(a:j<ls.length):ls.take (j+1)=ls.take j++[ls.getD j 0]:=by rw[A6];simp[List.getD,List.getElem?_eq_getElem a]
theorem G7(v){ls:List Int}{j}(a:j<ls.length):wol v (ls.take (j+1))=if(ls.getD j 0==v)=true then wol v (ls.take j)else wol v (ls.take j)++[ls.getD j 0]:=by
 unfold wol;rw[mF a,List.filter_append];cases h:(ls.getD j 0==v)with
 |true=>rw[B4 rfl,List.filter_cons_of_neg (by rw[h];decide)];simp
 |false=>rw[CH uB,List.filter_cons_of_pos (by rw[h];decide)];simp
theorem G8(w a c ls v)(h:R1 3 w a ls.length c (on ls))(T:ls.length<=1048576):
 Calls prog 136 #[.slice a ls.length c,.int .i64 v] w fun e w'=> ∃A C,e= .returned (.slice A (wol v ls).length C)/\Below w.1.size w w'/\Own1 3 w.1.size w' A (wol v ls).length C (on (wol v ls)):=by
 have J:Hid (∀u,Below w.1.size w u->R1 3 u a ls.length c (on ls)):=fun u P=>h.below P;have I:=bAl w (.cells #[] 3);have t:=uv I (fU 3 w.1.size w t6);clear h I;go_enter func136,ntmps136;go_upto_region 2 with fail
 generalize w.alloc (.cells #[] 3)=V at*;go_wp2_with fail;go_loopw [5,6] (fun s x wr=> ∃(j:Nat)(a:Option Addr)(c:Nat)(d:List Int),x= .int .i64 (j:Nat)/\j<=ls.length/\s= .slice a d.length c/\d=wol v (ls.take j)/\Below w.1.size w wr/\Own1 3 w.1.size wr a d.length c (on d)) (fun _ x _=>ls.length-(intOf x).toNat)
 case atStart=>exact⟨0,_,0,[],rfl,wa _,rfl,rfl,t.out.1,t.out.2⟩
 case round=>
  obtain⟨j,o,p,d,rfl,S,rfl,m,f,r⟩:=hrel;obtain⟨Q,E⟩:=aa wr;subst E;have F:d.length<=1048576:=by rw[m];have:=yE v (ls.take j);rw[wR]at this;omega
  have k:Hid _:=m;have i:=uv f r;have G:=f.size;clear m;by_cases l:j<ls.length
  ·have q:(j:Int)< (ls.length:Int):=uA;obtain⟨b,R,N,M⟩:=(J.out Q f).get l;subst N;rw[cF _ _ l]at M;have g:Hid _:=G7 v l;generalize ls.getD j 0=x at*;clear f r;cases n:(x==v)with
   |true=>
    rw[n]at g;go_wp2_with fail;go_roundw
    case rel=>exact⟨j+1,o,p,d,by go_num,uA,rfl,by rw[g.out,k.out];rfl,i.out.1,i.out.2⟩
    case measure=>simp[intOf];omega
   |false=>
    rw[n]at g;go_wp2_with (at_builtin;refine lN rfl _ _ co rfl w.1.size o d.length p (on d) rfl i.out.2 (.int .i64 x) rfl rfl F uA G ?_);intro K L U H B O;have z:=uv (i.out.1.trans B) H;clear H B O;go_wp2_with fail;go_roundw
    case rel=>exact⟨j+1,K,L,d++[x],by go_num,uA,vo,by rw[g.out,k.out];rfl,z.out.1,by rw[wb,<-fv];exact z.out.2⟩
    case measure=>simp[intOf];omega
  ·have q:¬(j:Int)< (ls.length:Int):=uA;have D:ls.take j=ls:=w5 uA;have y:Hid (d=wol v ls):=by show d= _;rw[k.out,D]
   clear f r D;go_wp2_with fail;go_ret;exact⟨o,p,by rw[<-y.out];rfl,i.out.1,by rw[<-y.out];exact i.out.2⟩
def onl(nw old:List Int):List Int:=old.filter fun x=> !nw.contains x
def idS(left old nw own:List Int):List Int:=own.reverse++((onl nw old).reverse++left.reverse)
theorem G9(a){ls:List Int}{j}(b:j<ls.length):onl a (ls.take (j+1))=if a.contains (ls.getD j 0)=true then onl a (ls.take j)else onl a (ls.take j)++[ls.getD j 0]:=by
 unfold onl;rw[mF b,List.filter_append];cases h:a.contains (ls.getD j 0)with
 |true=>rw[B4 rfl,List.filter_cons_of_neg (by rw[h];decide)];simp
 |false=>rw[CH uB,List.filter_cons_of_pos (by rw[h];decide)];simp
theorem Ha(w Z ac ae ab ad wc ba nb N b f A own)(Y:N<=1048576)(aS:R1 3 w Z b.length ab (on b))(aT:R1 3 w ac f.length ad (on f))(aX:R1 3 w ae own.length wc (on own))(X:Own1 4 ba w (some ⟨nb,0,none⟩) N N (mkB A N))(bf:∀x∈b,0<=x/\x< (N:Int))(bg:∀x∈f,0<=x/\x< (N:Int))(bk:∀x∈own,0<=x/\x< (N:Int))(bn:b.length<=1048576)(br:f.length<=1048576)(bs:own.length<=1048576):
 Calls prog 134 #[.slice Z b.length ab,.slice ac f.length ad,.slice (some ⟨nb,0,none⟩) N N,.slice ae own.length wc,.int .i64 (N:Nat)] w fun e w'=> ∃a c,e= .returned (.slice a (mkd (idS b f A own) N).length c)/\Below w.1.size w w'/\Own1 3 w.1.size w' a (mkd (idS b f A own) N).length c (on (mkd (idS b f A own) N)):=by
 obtain⟨mb,H⟩:=aa w.1.size;have am:=jG N Y w;have J:=bAl w (.cells (madeCells #[.bool false] N) 4);have P:=jH mb N Y w uA;rw[<-H]at am P;have bm:nb<mb:=by rw[H];exact X.lt rfl
 have a7:=aS.below J;have a8:=aT.below J;have a9:=aX.below J;have a5:=X.below J;have V:=uv J H;clear aS aT aX X J H;go_enter func134,ntmps134;go_upto_region 2 with fail
 generalize w.alloc (.cells (madeCells #[.bool false] N) 4)=an at*;obtain⟨_,bd,R⟩:=P.blk;have I:Hid (∀u,OnlyB mb an u->R1 3 u Z b.length ab (on b)/\R1 3 u ac f.length ad (on f)/\R1 3 u ae own.length wc (on own)/\∀o,o<N->u.cell? ⟨nb,o,none⟩=some (.bool (A.contains (o:Int)))):=fun u a2=>by
  have k:=cx (t:=3) a2 R uB;refine⟨a7.keep k,a8.keep k,a9.keep k,fun o a0=> ?_⟩;obtain⟨_,G,_,g,_,bl⟩:=a5.at_ uA;cases G;rw[C5 (w:=an) (a:=⟨nb,o,none⟩) (a2.block nb g uA),bl o a0,go _ _ _ a0]
 have Q:Hid _:=P;clear a7 a8 a9 a5 P am R;go_wp2_with fail;go_loopw [12] (fun x wr=> ∃(j:Nat),x= .int .i64 (j:Nat)/\j<=b.length/\OnlyB mb an wr/\Own1 4 mb wr (some ⟨mb,0,none⟩) N N (mkB ((b.take j).reverse++[]) N)) (fun x _=>b.length-(intOf x).toNat)
 case atStart=>exact⟨0,rfl,wa _,OnlyB.refl _ _,Q.out⟩
 case round=>
  obtain⟨j,rfl,a1,m,l⟩:=hrel;obtain⟨n,D⟩:=aa wr;subst D;have p:=uv m l;by_cases g:j<b.length
  ·have y:(j:Int)< (b.length:Int):=uA;obtain⟨a3,a4,G,L⟩:=(I.out n m).1.get g;subst G;rw[cF _ _ g]at L;obtain⟨E,U⟩:=bf _ (bO (d:=0) g);have v:Hid _:=mF g;have q:=(I.out n m).2.2.2;generalize b.getD j 0=x at*;obtain⟨o,rfl⟩:=x2 E;have i:o<N:=uA;obtain⟨_,M,_,_,_,s⟩:=l.at_ uA;cases M;obtain⟨B,aA⟩:∃B,n.cell? ⟨mb,o,none⟩=some (.bool B):=⟨_,(s o i).trans (C1 some (go _ N o i))⟩;have O:=q o i;have aB:=l.free o;have z:=l.set o (.bool true);rw[iT _ _ _ i]at z;have F:=m.trans (ax n mb o (.bool true));have r:=uv F z;clear m l s q z F;go_wp2_with fail;go_roundw
   case rel=>exact⟨j+1,by go_num,uA,r.out.1,by rw[v.out,List.reverse_append];exact r.out.2⟩
   case measure=>simp[intOf];omega
  ·have y:¬(j:Int)< (b.length:Int):=uA;have C:b.take j=b:=w5 uA;rw[C]at p;clear m l C;rw[wP]at p;have K:Hid _:=p.out;clear p Q;go_wp2_with fail;go_loopw [13] (fun x wr=> ∃(j:Nat),x= .int .i64 (j:Nat)/\j<=f.length/\OnlyB mb an wr/\Own1 4 mb wr (some ⟨mb,0,none⟩) N N (mkB ((onl A (f.take j)).reverse++b.reverse) N)) (fun x _=>f.length-(intOf x).toNat)
   case atStart=>exact⟨0,rfl,wa _,K.out.1,K.out.2⟩
   case round=>
    obtain⟨j,rfl,a1,m,l⟩:=hrel;obtain⟨n,D⟩:=aa wr;subst D;have p:=uv m l;by_cases g:j<f.length
    ·have y:(j:Int)< (f.length:Int):=uA;obtain⟨a3,a4,G,L⟩:=(I.out n m).2.1.get g;subst G;rw[cF _ _ g]at L;obtain⟨E,U⟩:=bg _ (bO (d:=0) g);have v:Hid _:=G9 A g;have q:=(I.out n m).2.2.2;generalize f.getD j 0=x at*;obtain⟨o,rfl⟩:=x2 E;have i:o<N:=uA;obtain⟨_,M,_,_,_,s⟩:=l.at_ uA;cases M;obtain⟨B,aA⟩:∃B,n.cell? ⟨mb,o,none⟩=some (.bool B):=⟨_,(s o i).trans (C1 some (go _ N o i))⟩;have O:=q o i;have aB:=l.free o;have z:=l.set o (.bool true);rw[iT _ _ _ i]at z;have F:=m.trans (ax n mb o (.bool true));have r:=uv F z;clear m l s q z F;cases S:A.contains (o:Int)with
     |true=>
      rw[S]at O v;go_wp2_with fail;go_roundw
      case rel=>exact⟨j+1,by go_num,uA,p.out.1,by rw[v.out];exact p.out.2⟩
      case measure=>simp[intOf];omega
     |false=>
      rw[S]at O v;go_wp2_with fail;go_roundw
      case rel=>exact⟨j+1,by go_num,uA,r.out.1,by rw[v.out,CH uB,List.reverse_append];exact r.out.2⟩
      case measure=>simp[intOf];omega
    ·have y:¬(j:Int)< (f.length:Int):=uA;have C:f.take j=f:=w5 uA;rw[C]at p;clear m l C;have ag:Hid _:=p.out;clear p K;go_wp2_with fail;go_loopw [14] (fun x wr=> ∃(j:Nat),x= .int .i64 (j:Nat)/\j<=own.length/\OnlyB mb an wr/\Own1 4 mb wr (some ⟨mb,0,none⟩) N N (mkB ((own.take j).reverse++((onl A f).reverse++b.reverse)) N)) (fun x _=>own.length-(intOf x).toNat)
     case atStart=>exact⟨0,rfl,wa _,ag.out.1,ag.out.2⟩
     case round=>
      obtain⟨j,rfl,a1,m,l⟩:=hrel;obtain⟨n,D⟩:=aa wr;subst D;have p:=uv m l;by_cases g:j<own.length
      ·have y:(j:Int)< (own.length:Int):=uA;obtain⟨a3,a4,G,L⟩:=(I.out n m).2.2.1.get g;subst G;rw[cF _ _ g]at L;obtain⟨E,U⟩:=bk _ (bO (d:=0) g);have v:Hid _:=mF g;have q:=(I.out n m).2.2.2;generalize own.getD j 0=x at*;obtain⟨o,rfl⟩:=x2 E;have i:o<N:=uA;obtain⟨_,M,_,_,_,s⟩:=l.at_ uA;cases M;obtain⟨B,aA⟩:∃B,n.cell? ⟨mb,o,none⟩=some (.bool B):=⟨_,(s o i).trans (C1 some (go _ N o i))⟩;have O:=q o i;have aB:=l.free o;have z:=l.set o (.bool true);rw[iT _ _ _ i]at z;have F:=m.trans (ax n mb o (.bool true));have r:=uv F z;clear m l s q z F;go_wp2_with fail;go_roundw
       case rel=>exact⟨j+1,by go_num,uA,r.out.1,by rw[v.out,List.reverse_append];exact r.out.2⟩
       case measure=>simp[intOf];omega
      ·have y:¬(j:Int)< (own.length:Int):=uA;have C:own.take j=own:=w5 uA;rw[C]at p;clear m l C;have T:Own1 4 mb n (some ⟨mb,0,none⟩) N N (mkB (idS b f A own) N):=p.out.2;have ak:=og mb mb N (idS b f A own) n Y T;have W:Hid (Below w.1.size w n):=V.out.1.trans (p.out.1.below (by rw[V.out.2];exact t6) V.out.1.size);clear T p;go_wp2_with fail;refine ak.mono ?_;rintro e bu ⟨bb,bc,rfl,ap,a6⟩;have af:=uv (W.out.trans (ap.mono W.out.size)) (a6.mono W.out.size);clear ap a6 ak;go_wp2_with fail;go_ret;exact⟨bb,bc,rfl,af.out.1,af.out.2⟩
def pwO(id kind:Int)(body:List Int):List OpK:=pwL (kOf (bL id kind body.length)) id (page id kind body)
theorem jK(id b a):(pwO id b a).length<=4:=by rw[pwO,gV];exact tK _
theorem ly(id b a c l w)(h:Bs w a l.length c l)(k:l.length<=1048576):
 Calls prog 93 #[.int .i64 id,.int .i64 b,.slice a l.length c] w fun e w'=> ∃d f m,e= .returned (.tuple #[.slice d (pwO id b l).length f,.bool m])/\Below w.1.size w w'/\OOp w.1.size w' d f (pwO id b l):=by
 unfold pwO;rw[gV];cases g:bL id b l.length with
 |true=>
  refine(pK id b a _ c l w h g).mono ?_;rintro e w' ⟨d,f,rfl,i,j⟩;exact⟨d,f,true,rfl,i,j.rop⟩
 |false=>
  refine(tH id b a _ c w k g (page id b l)).mono ?_;rintro e w' ⟨d,f,rfl,i,j⟩;exact⟨d,f,false,rfl,i,j.rop⟩
def n4(ls:List Int):List Int:=ls.flatMap fun x=>num x 4
theorem yF(ls):(n4 ls).length=4*ls.length:=by
 unfold n4;induction ls with
 |nil=>rfl
 |cons x ls ih=>rw[List.flatMap_cons,wb,ew,ih,w8];omega
theorem Hb(ls):IsB (n4 ls):=by
 unfold n4;induction ls with
 |nil=>exact eX
 |cons x ls ih=>rw[List.flatMap_cons];exact dC (ec x 4) ih
def frO:List Int->List Int->List OpK
 |[],_=>[]
 |o::own,ids=>pwO o 4 (num (own.headD 0) 4++n4 (ids.take 59))++frO own (ids.drop 59)
theorem sd:∀own a:List Int,(frO own a).length<=4*own.length
 |[],_=>by simp[frO]
 |o::own,a=>by
  have:=sd own (a.drop 59);have:=jK o 4 (num (own.headD 0) 4++n4 (a.take 59));rw[frO,wb,w8];omega
theorem Hc(w bs p bu q own l)(b2:R1 3 w bs own.length bu (on own))(Q:R1 3 w p l.length q (on l))(cM:∀x∈own,0<=x/\x<=1048576)(cP:∀x∈l,0<=x/\x<=1048576)(dc:own.length<=100000)(dd:l.length<=1048576):
 Calls prog 138 #[.slice bs own.length bu,.slice p l.length q] w fun e w'=> ∃a c,e= .returned (.slice a (frO own l).length c)/\Below w.1.size w w'/\OOp w.1.size w' a c (frO own l):=by
 have cf:=bAl w (.cells #[] 157);have bA:=uv cf (mS w.1.size w t6);have bS:Hid (∀u,Below w.1.size w u->R1 3 u bs own.length bu (on own)):=fun u cV=>b2.below cV;have bP:Hid _:=Q;have bR:Hid _:=sd own l;obtain⟨ab,I⟩:=aa (frO own l);rw[<-I]at bR ⊢;have bd:Hid _:=I;clear b2 Q cf I;go_enter func138,ntmps138;go_upto_region 2 with fail
 generalize w.alloc (.cells #[] 157)=dp at*;go_wp2_with fail;go_loopw [1,5,6] (fun ac cW cX wr=> ∃(j:Nat)(a:Option Addr)(c:Nat)(xs:List OpK)(p:Option Addr)(q:Nat)(is:List Int),cX= .int .i64 (j:Nat)/\j<=own.length/\cW= .slice a xs.length c/\ac= .slice p is.length q/\R1 3 w p is.length q (on is)/\(∀x∈is,x∈l)/\is.length<=l.length/\ab=xs++frO (own.drop j) is/\Below w.1.size w wr/\OOp w.1.size wr a c xs) (fun _ _ x _=>own.length-(intOf x).toNat)
 case atStart=>exact⟨0,_,0,[],p,q,l,rfl,wa _,rfl,rfl,bP.out,fun _ h=>h,t6,bd.out,bA.out.1,bA.out.2⟩
 case round=>
  obtain⟨j,ck,cl,xs,p,q,is,rfl,da,rfl,rfl,Q,J,U,F,L,bn⟩:=hrel;obtain⟨t,G⟩:=aa wr;subst G;have c6:xs.length<=400000:=by have:=bR.out;rw[F,wb]at this;omega
  have r:=uv L (vJ bn (vJ Q (vJ J (vJ U F))));by_cases Y:j<own.length
  ·have bm:(j:Int)< (own.length:Int):=uA;have b3:own.drop j=own.getD j 0::own.drop (j+1):=pj 0 Y;obtain⟨s,N⟩:=aa ((own.drop (j+1)).headD 0);have a3:0<=s/\s<=1048576:=by
    rw[N];cases cS:own.drop (j+1)with
    |nil=>simp
    |cons y f=>exact cM y (List.mem_of_mem_drop (i:=j+1) (by rw[cS];simp))
   have aT:Hid (frO (own.drop j) is=pwO (own.getD j 0) 4 (num s 4++n4 (is.take 59))++frO (own.drop (j+1)) (is.drop 59)):=by
    show _= _;rw[b3,frO,<-N]
   have aS:Hid _:=N;have aB:Hid _:=a3;clear b3 N a3 Q J U F bn;go_upto_if 23 with fail
   go_cut [7] (fun c0 aA=>c0= .int .i64 s/\aA=t)
   case first=>
    by_cases bg:j+1<own.length
    ·have b1:(j:Int)+1< (own.length:Int):=uA;obtain⟨b,P,T,C⟩:=(bS.out t L).get bg;subst T;rw[cF _ _ bg]at C;have ap:own.getD (j+1) 0=s:=by rw[aS.out,pj 0 bg];rfl
     rw[ap]at C;clear ap;have b0:t.cell? ⟨b,P+(j+1),none⟩=some (.int .i64 s):=C;have c4:((j:Int)+1).toNat=j+1:=uA;have c3:(0:Int)<=(j:Int)+1:=uA;go_wp2
     go_meet
     exact⟨rfl,rfl⟩
    ·have b1:¬(j:Int)+1< (own.length:Int):=uA;have ap:Hid (s=0):=by show s=0;rw[aS.out,A0 uA];rfl
     go_wp2
     go_meet
     exact⟨by rw[ap.out],rfl⟩
   case rest=>
    obtain⟨rfl,b4⟩:=hcut;obtain rfl:=b4.symm;clear b4;have S:=i9 s 4 t aB.out.1 (by have:=aB.out.2;omega) uA;clear L;go_wp2_with fail;refine S.mono ?_;rintro e w1 ⟨cq,cz,rfl,bX,ca⟩;clear S;have bf:=r.out.1.size;have bB:=uv bX ca;clear bX ca;go_upto_block 2 with fail
    go_cut [1,8,9] (fun ac bv _ aA=> ∃(p:Option Addr)(q:Nat)(d:List Int)(a:Option Addr)(c:Nat)(f:List Int),ac= .slice p d.length q/\bv= .slice a f.length c/\d=is.drop 59/\f=num s 4++n4 (is.take 59)/\R1 3 w p d.length q (on d)/\Below t.1.size t aA/\Own t.1.size aA a f.length c f)
    case first=>
     go_wp2_with fail;go_loopw [1,8,9] (fun ac bv bx wr=> ∃(k:Nat)(p:Option Addr)(q:Nat)(d:List Int)(a:Option Addr)(c:Nat)(f:List Int),bx= .int .i64 (k:Nat)/\k<=59/\ac= .slice p d.length q/\bv= .slice a f.length c/\d=is.drop k/\f=num s 4++n4 (is.take k)/\R1 3 w p d.length q (on d)/\Below t.1.size t wr/\Own t.1.size wr a f.length c f) (fun _ _ bx _=>59-(intOf bx).toNat)
     case atStart=>exact⟨0,p,q,is,cq,cz,num s 4,rfl,uA,rfl,by rw[ew],vo,by simp[n4],r.out.2.2.1,bB.out.1,by rw[ew];exact bB.out.2⟩
     case round=>
      obtain⟨k,bb,bc,d,ae,am,f,rfl,db,rfl,rfl,g,n,E,D,O⟩:=hrel;obtain⟨ch,G⟩:=aa wr;subst G;have W:d.length=is.length-k:=by rw[g,wi]
      have cT:d.length<=1048576:=by have:=r.out.2.2.2.2.1;omega
      have b5:f.length<=300:=by rw[n,wb,ew,yF,wR];omega
      have m:=uv g (vJ n (vJ E (vJ D O)));by_cases c2:k<59
      ·have bl:(k:Int)<59:=uA;by_cases V:0<d.length
       ·have bk:(0:Int)< (d.length:Int):=uA;obtain⟨cp,cv,Z,cg⟩:=R1.cutFrom co E (i:=1) uA;obtain⟨b,P,T,C⟩:=(E.below (r.out.1.trans (D.mono bf))).get (i:=0) V;subst T;rw[cF _ _ V]at C;have hx:=cP (d.getD 0 0) (r.out.2.2.2.1 _ (List.mem_of_mem_drop (i:=k) (by rw[<-g];exact bO V)));have M:k<is.length:=uA;have a9:d.getD 0 0=is.getD k 0:=by rw[g];simp[List.getD_eq_getElem?_getD]
        have a7:Hid (is.drop (k+1)=d.drop 1/\n4 (is.take (k+1))=n4 (is.take k)++num (d.getD 0 0) 4):=by
         show _/\_;refine⟨by rw[g,w7],?_⟩;rw[mF M,a9];simp[n4]
        generalize d.getD 0 0=x at*;have b0:ch.cell? ⟨b,P,none⟩=some (.int .i64 x):=C;have S:=i9 x 4 ch hx.1 uA uA;have cR:Hid _:=Z;have bT:Hid _:=cg;have aX:=D.size;clear Z cg E g n O a9 C W;go_wp2_with fail;refine S.mono ?_;rintro e bz ⟨af,an,rfl,ag,cb⟩;clear S;have a5:Own t.1.size bz ae f.length am f:=m.out.2.2.2.2.below ag;have B:Bs bz af 4 an (num x 4):=cb.bs (ec x 4);have b6:t.1.size<=bz.1.size:=wg aX ag.size;have cm:Hid _:=m.out.2.2.2.1.trans (ag.mono aX);clear ag cb D;go_wp2_with (at_builtin;refine eu rfl _ _ rfl t.1.size ae f.length am f rfl a5 af 4 an (num x 4) rfl B uA b6 ?_);intro cr cA dk cc bY cD;have bC:=uv (cm.out.trans bY) cc;clear cc bY cD a5 B;go_wp2_with (refine nh rfl rfl (cR.out _) ?_);obtain⟨ad,v⟩:=aa (f++num x 4);have H:ad.length=f.length+4:=by rw[v,wb,ew]
        have A:=uv v H;obtain⟨ks,X⟩:=aa (d.drop 1);have M:ks.length=d.length-1:=by rw[X,wi]
        have K:=uv X M;clear v H X M;go_wp2_with fail;go_roundw
        case rel=>exact⟨k+1,cp,cv,ks,cr,cA,ad,by go_num,uA,by rw[K.out.2],by rw[A.out.2],by rw[K.out.1,a7.out.1],by rw[A.out.1,a7.out.2,m.out.2.1,wv],by rw[K.out.2,K.out.1];have:=bT.out;rw[rc]at this;exact this,bC.out.1,by rw[A.out.2,A.out.1];exact bC.out.2⟩
        case measure=>simp[intOf];omega
       ·have bk:¬(0:Int)< (d.length:Int):=uA;have a1:d.length=0:=uA;have R:Hid (d=is.drop 59/\is.take k=is.take 59):=by
         show _/\_;have e0:d=[]:=y3 a1;refine⟨by rw[e0,A0 uA],by rw[w5 uA,w5 uA]⟩
        clear a1 g n E O D W;go_wp2
        go_meet
        exact⟨bb,bc,d,ae,am,f,rfl,rfl,R.out.1,by rw[m.out.2.1,R.out.2],m.out.2.2.1,m.out.2.2.2.1,m.out.2.2.2.2⟩
      ·have bl:¬(k:Int)<59:=uA;have a2:k=59:=uA;have R:Hid (d=is.drop 59/\is.take k=is.take 59):=by show _/\_;rw[<-a2];exact⟨g,rfl⟩
       clear a2 g n E O D W;go_wp2
       go_meet
       exact⟨bb,bc,d,ae,am,f,rfl,rfl,R.out.1,by rw[m.out.2.1,R.out.2],m.out.2.2.1,m.out.2.2.2.1,m.out.2.2.2.2⟩
    case rest=>
     obtain⟨b8,b9,d,af,an,f,rfl,rfl,g,n,E,B,a4⟩:=hcut;obtain⟨cj,G⟩:=aa wc;subst G;have b5:f.length<=300:=by rw[n,wb,ew,yF,wR];omega
     have ba:IsB f:=by rw[n];exact dC (ec s 4) (Hb _)
     obtain⟨b,P,T,C⟩:=(bS.out cj (r.out.1.trans (B.mono bf))).get Y;subst T;rw[cF _ _ Y]at C;generalize own.getD j 0=o at*;have bW:=ly o 4 af an f cj (a4.bs ba) uA;rw[<-n]at aT;have c5:=jK o 4 f;have z:=uv g (vJ E (vJ (r.out.1.trans (B.mono bf)) (r.out.2.1.below B)));generalize pwO o 4 f=ps at*;clear g n E a4 B ba;go_wp2_with fail;refine bW.mono ?_;rintro e c1 ⟨c8,c9,c7,rfl,ak,ce⟩;clear bW C;have a0:=z.out.2.2.1.size;have a8:=z.out.2.2.2.below ak;have a6:=ce.reads;have b7:w.1.size<=c1.1.size:=wg a0 ak.size;have cn:Hid _:=z.out.2.2.1.trans (ak.mono a0);clear ak ce;go_wp2_with (at_builtin;refine mT a8 a6 uA b7 rfl rfl rfl rfl ?_);intro cs cB dl br cL bZ;obtain⟨ad,v⟩:=aa (xs++ps);have H:ad.length=xs.length+ps.length:=by rw[v,wb]
     rw[<-v]at br;have A:=uv v H;have bE:=uv (cn.out.trans bZ) br;clear v H br cL bZ a8 a6;go_wp2_with fail;go_roundw
     case rel=>exact⟨j+1,cs,cB,ad,b8,b9,d,by go_num,uA,by rw[A.out.2],rfl,z.out.2.1,(fun x hx=>r.out.2.2.2.1 x (List.mem_of_mem_drop (i:=59) (by rw[<-z.out.1];exact hx))),(by have:=r.out.2.2.2.2.1;have:=C1 List.length z.out.1;rw[wi]at this;omega),by rw[r.out.2.2.2.2.2,aT.out,A.out.1,z.out.1,wv],bE.out.1,bE.out.2⟩
     case measure=>simp[intOf];omega
  ·have bm:¬(j:Int)< (own.length:Int):=uA;have bF:Hid (xs=ab):=by show xs=ab;rw[F,A0 uA,frO,wP]
   clear Q J U F bn L;go_wp2_with fail;go_ret;exact⟨ck,cl,by rw[<-bF.out];rfl,r.out.1,by rw[<-bF.out];exact r.out.2.1⟩
def txB(s:ByteArray):List Int:=(s.size:Int)::nb s
def lfB(es:List En):List Int:=es.flatMap fun e=>txB e.1++txB e.2
def iBd:Nat->List Pl->List Int
 |_,[]=>[]
 |0,x::us=>num x.2 4++iBd 1 us
 |k+1,x::us=>txB x.1++(num x.2 4++iBd (k+2) us)
def fI:Tr->Int
 | .leaf id _=>id
 | .node id _=>id
 |_=>0
def kdP(L:List Kd):List Pl:=L.map fun x=>(x.1,fI x.2)
def bdT:Tr->List Int
 | .leaf _ es=>lfB es
 | .node _ ks=>iBd 0 (kdP (aC ks))
 |_=>[]
theorem lz(s):(txB s).length=1+s.size:=by simp[txB,up];omega
theorem se{s}(h:s.size<=255):IsB (txB s):=pD uA uA (ut s)
theorem pm:∀es:List En,(lfB es).length=lSz es
 |[]=>rfl
 |e::es=>by
  have:=pm es;rw[gz];simp only[lfB,List.flatMap_cons,wb,lz]at*;simp only[eSz];omega
theorem sh:∀(a B:List Pl)(k:Nat),iBd k (a++B)=iBd k a++iBd (k+a.length) B
 |[],B,k=>by simp[iBd]
 |x::a,B,0=>by rw[z1,iBd,iBd,sh a B 1];simp[Nat.add_comm]
 |x::a,B,k+1=>by rw[z1,iBd,iBd,sh a B (k+2)];simp[Nat.add_comm,Nat.add_left_comm]
theorem Hd{us:List Pl}{j}(a:j<us.length)(d):iBd 0 (us.take (j+1))=(iBd 0 (us.take j)++(if j=0 then []else txB (us.getD j d).1))++num (us.getD j d).2 4:=by
 have e:us.take (j+1)=us.take j++[us.getD j d]:=by rw[A6];simp[List.getD,List.getElem?_eq_getElem a]
 have b:(us.take j).length=j:=by rw[wR];omega
 rw[e,sh,b,wE];cases j with
 |zero=>simp[iBd]
 |succ j=>simp[iBd]
theorem si:∀(us:List Pl)(k:Nat),(iBd k us).length<=4*us.length+aH (us.map (·.1))
 |[],k=>by simp[iBd]
 |x::us,0=>by
  have:=si us 1;rw[iBd,wb,ew,ws,fW,w8];simp only[gSz];omega
 |x::us,k+1=>by
  have:=si us (k+2);rw[iBd,wb,wb,lz,ew,ws,fW,w8];simp only[gSz];omega
theorem lA:ElT 56 5 1 (.int .u8 0) 1:=⟨underlying56,jM,rfl,uA⟩
theorem iH{w}{o:Oper}{a b d x s}(c:o.op= .convert 9 56 x)(hx:a.eval x= .string s)(h:b (a.put o.dst (.slice (some ⟨w.1.size,0,none⟩) s.size (grownCap w s.size 0 5))) (Go.Lib.bytesWorld w 5 s)):o.wp prog a w b d:=by
 unfold Oper.wp execOp;simp only[c,hx,CT,Bf,DI,C2];exact h
theorem Bs.grownN{w w' b a n c l r}(h:Bs w (some ⟨b,a,none⟩) n c l)(d:w.grownBy w' r)(m:r≠some b):Bs w' (some ⟨b,a,none⟩) n c l:=
 ⟨h.len_eq,h.le,h.le',h.nil,fun k=>by
  obtain⟨p,o,e,f,g⟩:=h.at_ k;cases e;exact⟨b,a,rfl,wQ f d.size,fun i j=>by rw[C5 (w:=w) (d.block b f (fun e=>m e.symm))];exact g i j⟩,h.byte⟩
theorem lB{B b w a n c l}(h:Own B w a n c l)(d:w.1.size<=b):(Value.slice a n c).ownBlock≠some b:=fun e=>by
 have:=(Ct h b e).2;omega
section
variable {B0 g:Nat} {rest:List Value} {rt:Int} {w:World} {ns:List NdK} {nv:Nat->NdV} {na:Option Addr} {nc:Nat}
theorem USt.setRt(h:USt B0 g rest rt w ns nv na nc)(r):USt B0 g rest r (w.setCell ⟨g,1,none⟩ (.int .i64 r)) ns nv na nc:=by
 have o:=ax w g 1 (.int .i64 r);have k:∀t,t≠116->KeepT t w (w.setCell ⟨g,1,none⟩ (.int .i64 r)):=fun t b=>aw o h.blk (ED b);exact⟨h.blk.set 1 (.int .i64 r),cw h.nodes (k _ uB),fun i a=>(h.each i a).keep (k _ uB) (k _ uB),wg h.gB o.size⟩
def ChP(B0 g:Nat)(rest:List Value)(na:Option Addr)(w:World)(ns:List NdK)(d:Nat)(r:OTr×Bool)(e:Ending)(w':World):Prop:=e= .returned (.bool r.2)/\∃(rt':Int)(ms:List NdK),UQ B0 g rest rt' na w w' ms/\UO ms rt' r.1/\ns.length<=ms.length/\ms.length<=ns.length+d
noncomputable def mG(ms:List NdK)(g:Nat)(u:World):Nat:=match u.cell? ⟨g,1,none⟩with|some (.int _ r)=>dep ms r|_=>0
theorem yG{ms u r n t P}(a:u.cell? ⟨g,1,none⟩=some (.int .i64 r))(h:wf n t)(s:SRep ms t P [(strOfNums [],r)]):mG ms g u=n:=by unfold mG;rw[a];exact GL h s
theorem He{n t ms}{p:Nat}{K}{es:List En}{P}(h:wf n t)(s:SRep ms t P [(strOfNums [],(p:Int))])(a:ms[p]?=some K)(c:K.kids.length≠1):dM n t=(n,t):=by
 rcases aO h with⟨id,es,rfl,rfl⟩|⟨id,L,m,rfl,rfl⟩
 ·rfl
 ·rw[SRep]at s;obtain⟨q,us,G,_,b,e,f⟩:=s;simp only[List.cons.injEq,Prod.mk.injEq,true_and,and_true]at b;have:q=p:=uA;subst this;rw[e]at a;cases a;rw[dM,ct];have d:=f.len;simp only[ndI,y2]at c;split
  ·simp at d;omega
  ·rfl
theorem Hf(cr:USt B0 g rest rt w ns nv na nc){n t}(cS:UO ns rt (some (n,t)))(cg:ns.length+n<=1048574)(k v)(S:eP k n t=true):
 Calls prog 98 #[.pointer (some ⟨g,0,none⟩),.agg (fH k v true)] w fun e w'=>ChP B0 g rest na w ns n (if bare (bN k n t)then none else some (dM n (bN k n t)),true) e w':=by
 obtain⟨Y,R⟩:=aa (if bare (bN k n t)then none else some (dM n (bN k n t)));rw[<-R];have ab:Hid _:=R;clear R;obtain⟨b0,P,bY,bm⟩:=cS;obtain⟨ae,U⟩:=aa (w.alloc (.cells (fH k v true) 161));have b3:Below w.1.size w ae:=by rw[U];exact bAl _ _
 have b2:Blk ae 161 w.1.size [.string k,.string v,.bool true]:=by rw[U];exact aq w _ _
 have cL:ae.cell? ⟨w.1.size,2,none⟩=some (.bool true):=b2.cell 2;have ac:Hid _:=cr;have A:=uv b0 (vJ bY bm);unfold fH at*;go_enter func98,ntmps98;go_upto_region 1 with fail
 change Code.wp _ _ _ _ (w.alloc (.cells #[.string k,.string v,.bool true] 161));rw[<-U];clear U cr;go_upto_region 2 with fail
 have O:=bDr ae;have bC:=b3.trans (O.mono b3.size);have y:=ac.out.below bC;have s:=b2.below O;refine az (fun u=>u.cell? ⟨g,1,none⟩=some (.int .i64 rt)/\u.cell? ⟨w.1.size,0,none⟩=some (.string k)) (fun k=>decide (7<=k)) vk ?_;clear O b2 cL b3;generalize ae.drew=cB at*;have cs:cB.cell? ⟨g,1,none⟩=some (.int .i64 rt)/\cB.cell? ⟨w.1.size,0,none⟩=some (.string k):=⟨y.blk.cell 1,s.cell 0⟩;have bx:=ye (k:=k) n t b0 cB ns nv na nc P rt y bY uA;rw[S]at bx;have a1:=uv bC s;have cA:Hid _:=S;clear y s bC S b0 bY bm;refine aj 0 cs ?_;refine aj 1 cs ?_;refine aj 2 cs ?_;refine aj 3 cs ?_;refine aj 4 cs ?_;refine aj 5 cs ?_;refine aj 6 cs ?_;refine ah 7 fun l c=> ?_;go_wp2_with fail;refine bx.mono ?_;rintro e b9 ⟨rfl,bE⟩;clear bx;have a2:=uv (a1.out.1.trans (bE.mono a1.out.1.size)) (a1.out.2.below bE);clear bE cs a1;go_wp2_with fail;refine ao c ?_ (fun h=>absurd h uB);clear c l;refine ah 8 fun l c=> ?_;go_wp2_with fail;refine aU c ?_ (fun h=>absurd h uB);clear c l;go_wp2_with fail;have O:=bDr b9;have bF:=a2.out.1.trans (O.mono a2.out.1.size);have aX:=ac.out.below bF;have cm:=a2.out.2.below O;refine az (fun u=>u.cell? ⟨g,1,none⟩=some (.int .i64 rt)/\u.cell? ⟨w.1.size,0,none⟩=some (.string k)) (fun k=>decide (7<=k)) vk ?_;clear O a2;generalize b9.drew=cD at*;have cs:cD.cell? ⟨g,1,none⟩=some (.int .i64 rt)/\cD.cell? ⟨w.1.size,0,none⟩=some (.string k):=⟨aX.blk.cell 1,cm.cell 0⟩;have b4:=Gy (k:=k) n t A.out.1 cD ns nv na nc P rt aX A.out.2.1 A.out.2.2 cg cA.out;have a9:Hid _:=bF;clear aX cm bF;refine aj 0 cs ?_;refine aj 1 cs ?_;refine aj 2 cs ?_;refine aj 3 cs ?_;refine aj 4 cs ?_;refine aj 5 cs ?_;refine aj 6 cs ?_;refine ah 7 fun l c=> ?_;go_wp2_with fail;refine b4.mono ?_;rintro e Z ⟨rfl,ms,P',cR,ck,bk,bf,bT,cf⟩;clear b4 cs;obtain⟨aA,c1,H,stZ,ce,bl⟩:=cR;obtain⟨p,K,es,I⟩:=bT.rt (yn (k:=k) A.out.1);have ch:=I.pl;have bs:=kM (k:=k) A.out.1;generalize cV:bN k n t=d at*;have J:=uv bT (vJ cf.1 (vJ I (vJ bs (vJ ce bl))));obtain⟨b,rfl,a,_,cX⟩:=stZ.cells I.nd;subst ch;have a5:Z.cell? ⟨g,0,none⟩=some (.slice (some ⟨b,0,none⟩) ms.length H):=stZ.blk.cell 0;have N:Z.cell? ⟨g,1,none⟩=some (.int .i64 (p:Nat)):=stZ.blk.cell 1;have Q:=a 2 _ rfl;have cP:=a 4 _ rfl;have c0:=I.small;have bb:Hid _:=stZ;go_wp2_with fail;refine aU c ?_ (fun h=>absurd h uB);clear c l bT cf I bs ce bl a ck stZ;go_wp2_with fail
 go_quiet (fail)
 have C:=bb.out.below (oU Z nq);have bR:UFr g na w (Z.drewN nq):=((OnlyS.ofBelow a9.out).trans J.out.2.2.2.2.1).trans (OnlyS.ofBelow (oU Z nq));have am:=xO (v7 rfl) J.out.2.2.2.2.2 a9.out.size;have V:=J.out.2.2.1;generalize Z.drewN nq=a4 at*;have bS:=C.blk.free 1;have T:a4.cell? ⟨g,1,none⟩=some (.int .i64 (p:Nat)):=C.blk.cell 1;cases o:bare d with
 |true=>
  obtain⟨bg,bd⟩:=V.bare.1 o;have b1:((K.keys.length:Int)+(K.kids.length:Int)==0)=true:=by rw[bg,bd];rfl
  have bA:Hid (UQ B0 g rest (-1) na w (a4.setCell ⟨g,1,none⟩ (.int .i64 (-1))) ms):=(C.setRt (-1)).uq (bR.trans ((OnlyS.ofB (ax a4 g 1 _)).mono (fun k _ bX=>v7 bX))) am;have b5:Hid _:=o;clear bg bd V C o;go_wp2_with fail;go_ret;refine⟨rfl, -1,ms,bA.out,?_,bk,bf⟩;rw[ab.out,B4 b5.out]
  rfl
 |false=>
  have b1:((K.keys.length:Int)+(K.kids.length:Int)==0)=false:=by
   rw[D2];intro e;have:=V.bare.2 ⟨y3 uA,y3 uA⟩;rw[o]at this;cases this
  rw[b1];clear b1;have bz:Hid _:=C;have ba:=uv bR am;have br:=J.out.2.2.2.1 o;have ad:=uv br (vJ J.out.1 J.out.2.1);have b7:Hid (Y=some (dM n d)):=by show Y= _;rw[ab.out,o];rfl
  clear C bR am V bS br o bb J ac A a5 N Q cP T;go_wp2_with fail;go_loopw [67] (fun x wr=> ∃(a7:Nat)(a0:Tr)(a3:List Nat)(r:Int),USt B0 g rest r wr ms aA (some ⟨b,0,none⟩) H/\OnlyB g a4 wr/\wf a7 a0/\SRep ms a0 a3 [(strOfNums [],r)]/\a3.Nodup/\dM a7 a0=dM n d) (fun _ wr=>mG ms g wr)
  case atStart=>exact⟨n,d,P',(p:Int),bz.out,OnlyB.refl _ _,ad.out.1,ad.out.2.1,ad.out.2.2,rfl⟩
  case round=>
   obtain⟨a7,a0,a3,r,z,a8,w1,D,X,W⟩:=hrel;obtain⟨j,cl⟩:=aa wr;subst cl;obtain⟨q,b8,cc,f⟩:=D.rt (v7 w1);obtain rfl:=f.pl;obtain⟨_,cM,a,ag,cT⟩:=z.cells f.nd;cases cM;have a5:j.cell? ⟨g,0,none⟩=some (.slice (some ⟨b,0,none⟩) ms.length H):=z.blk.cell 0;have N:j.cell? ⟨g,1,none⟩=some (.int .i64 (q:Nat)):=z.blk.cell 1;have bP:=a 4 _ rfl;have bZ:=f.small;by_cases B:b8.kids.length=1
   ·obtain⟨id,m,x,rfl,rfl⟩:∃id m x,a7=m+1/\a0= .node id (kds [x]):=by
     rcases aO w1 with⟨id,es,rfl,rfl⟩|⟨id,L,m,rfl,rfl⟩
     ·exfalso;rw[SRep]at D;obtain⟨aB,_,Q,s⟩:=D;simp only[List.cons.injEq,Prod.mk.injEq,true_and,and_true]at Q;have:q=aB:=uA;subst this;have:=f.nd;rw[s]at this;cases this;simp[ndL]at B
     ·have bu:=D;rw[SRep]at bu;obtain⟨aB,us,G,_,Q,s,aS⟩:=bu;simp only[List.cons.injEq,Prod.mk.injEq,true_and,and_true]at Q;have:q=aB:=uA;subst this;have af:=f.nd;rw[s]at af;cases af;have ak:=aS.len;simp only[ndI,y2]at B
      match L,ak with
      |[x],_=>exact⟨id,m,x,rfl,rfl⟩
      |[],ak=>rw[AO]at ak;omega
      |_::_::_,ak=>simp only[w8]at ak;omega
    rw[SRep]at D;obtain⟨aB,us,G,rfl,Q,s,aS⟩:=D;simp only[List.cons.injEq,Prod.mk.injEq,true_and,and_true]at Q;have cj:q=aB:=uA;subst cj;have af:=f.nd;rw[s]at af;cases af;obtain⟨v2,c2,bv,c3,rfl,rfl,cp,cq⟩:=er.1 aS;obtain⟨rfl,rfl⟩:=gE.1 cq;obtain⟨an,ap,cb,ca⟩:=ag.kids.get (i:=0) (by simp[ndI]);have bc:j.cell? ⟨an,ap,none⟩=some (.int .i64 v2):=ca;rw[cb,B]at bP;have bW:Hid (mG ms g j=m+1):=yG (P:=q::(bv++[])) N w1 (by rw[SRep];exact⟨q,[(x.1,v2)],bv++[],rfl,rfl,s,aS⟩);have cv:=(bq.1 w1).2.1 x vo;have b6:Hid (dM m x.2=dM n d):=by
     show _= _;rw[<-W,dM,ct]
    have E:=uv z (vJ a8 (vJ cv (vJ cp (z8.1 (zz.1 X).2).1)));clear z a8 w1 cp cq aS X W f a ag B cv s cb ca bZ;go_wp2_with fail
    go_quiet (fail)
    go_wp2_with fail;have M:Below j.1.size j (j.drewN nq).drew:=⟨rfl,rfl,rfl,t6,fun _ _=>rfl⟩;refine az (fun u=>u.cell? ⟨g,0,none⟩=some (.slice (some ⟨b,0,none⟩) ms.length H)/\u.cell? ⟨g,1,none⟩=some (.int .i64 (q:Nat))/\u.cell? ⟨b,q*6+4,none⟩=some (.slice (some ⟨an,ap,none⟩) 1 (aA q).dc)/\u.cell? ⟨an,ap,none⟩=some (.int .i64 v2)) (fun k=>decide (16<=k)) vk ?_;have cs:=vJ a5 (vJ N (vJ bP bc));have y:=E.out.1.below M;have cn:=E.out.2.1.trans (Below.onlyB M g);replace cs:(j.drewN nq).drew.cell? ⟨g,0,none⟩=some (.slice (some ⟨b,0,none⟩) ms.length H)/\(j.drewN nq).drew.cell? ⟨g,1,none⟩=some (.int .i64 (q:Nat))/\(j.drewN nq).drew.cell? ⟨b,q*6+4,none⟩=some (.slice (some ⟨an,ap,none⟩) 1 (aA q).dc)/\(j.drewN nq).drew.cell? ⟨an,ap,none⟩=some (.int .i64 v2):=cs;generalize (j.drewN nq).drew=bB at*;have bS:=y.blk.free 1;have aT:=y.setRt v2;have T:(bB.setCell ⟨g,1,none⟩ (.int .i64 v2)).cell? ⟨g,1,none⟩=some (.int .i64 v2):=aT.blk.cell 1;have a6:Hid (mG ms g (bB.setCell ⟨g,1,none⟩ (.int .i64 v2))=m):=yG T E.out.2.2.1 E.out.2.2.2.1;have F:=uv aT (vJ (cn.trans (ax bB g 1 (.int .i64 v2))) E.out.2.2);clear y cn aT T M a5 N bP bc;refine ay 0 cs ?_;refine ay 1 cs ?_;refine ay 2 cs ?_;refine ay 3 cs ?_;refine ay 4 cs ?_;refine ay 5 cs ?_;refine ay 6 cs ?_;refine ay 7 cs ?_;refine ay 8 cs ?_;refine ay 9 cs ?_;refine ay 10 cs ?_;refine ay 11 cs ?_;refine ay 12 cs ?_;refine ay 13 cs ?_;refine ah 14 fun l c=> ?_;go_wp2_with fail;refine ao c ?_;clear c l;refine ah 15 fun l c=> ?_;go_wp2_with fail;refine ao c ?_;clear c l;have N:=cs.2.1;refine ah 16 fun l c=> ?_;go_wp2_with fail;refine aU c ?_;clear c l cs bS N;go_wp2_with fail;go_roundw
    case rel=>exact⟨m,x.2,bv,v2,F.out.1,F.out.2.1,F.out.2.2.1,F.out.2.2.2.1,F.out.2.2.2.2,b6.out⟩
    case measure=>rw[bW.out,a6.out];omega
   ·have bn:=He (es:=cc) w1 D f.nd B;have cz:Hid (UO ms (q:Int) Y):=by
     show UO ms (q:Int) Y;rw[b7.out,<-W,bn];exact⟨w1,a3,D,X⟩
    have E:=uv z a8;have cW:((b8.kids.length:Int)==1)=false:=by rw[D2];omega
    clear z a8 w1 D X W f a ag bn B;go_wp2_with fail
    go_quiet (fail)
    have M:=oU j nq;have bA:Hid (UQ B0 g rest (q:Int) na w (j.drewN nq) ms):=(E.out.1.below M).uq (ba.out.1.trans ((OnlyS.ofB (E.out.2.trans (Below.onlyB M g))).mono (fun k _ bX=>v7 bX))) ba.out.2;clear M;go_wp2_with fail;go_ret;exact⟨rfl,q,ms,bA.out,cz.out,bk,bf⟩
end
