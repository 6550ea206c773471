import Derived.Test.YtglbanolhhjjiaaGreatDoorFo39
import Derived.Test.YtglbanolhhjjiaaGreatDoorFo22
namespace Go.Proofs.YtglbanolhhjjiaaGreatDoor
open Go.Proofs.Tryz
open Go.RowKit
set_option linter.unusedVariables false
set_option maxRecDepth 100000
set_option maxHeartbeats 32000000
section
variable {B0 g:Nat} {rest:List Value} {rt:Int} {ns:List NdK} {nv:Nat->NdV} {na:Option Addr} {nc mb N:Nat}
theorem USt.onlyM{w w'}(d:USt B0 g rest rt w ns nv na nc){b fr}(c:OnlyB mb w w')(e:w.heap[mb]?=some (.cells b 4 fr)):USt B0 g rest rt w' ns nv na nc:=by
 have a:∀t,4≠t->KeepT t w w':=fun t h=>cx c e h;exact⟨d.blk.keepT (a _ uv),cw d.nodes (a _ uv),fun i f=>(d.each i f).keep (a _ uv) (a _ uv),u9 d.gB c.size⟩
def PgU(B0 g:Nat)(rest:List Value)(rt:Int)(ns:List NdK)(nv:Nat->NdV)(na:Option Addr)(nc mb N:Nat)(t:Tr):Prop:= ∀(p:Int)(P:List Nat)(sn:List Int)(w:World),USt B0 g rest rt w ns nv na nc->Own1 4 0 w (some ⟨mb,0,none⟩) N N (mkB sn N)->SRep ns t P [(strOfNums [],p)]->(∀id∈ar t,0<id/\id< (N:Int))->
 Calls prog 106 #[.pointer (some ⟨g,0,none⟩),.int .i64 p,.slice (some ⟨mb,0,none⟩) N N] w fun e w'=>e= .returned (.tuple #[])/\OnlyB mb w w'/\Own1 4 0 w' (some ⟨mb,0,none⟩) N N (mkB (ar t++sn) N)
theorem yD(br:ns.length<=1048576)(bx:N<=1048576)(q K)(aB:ns[q]?=some K)(L:List Kd)(bm:L.length<=1048576)(M:K.kids.length=L.length)(i:Nat)(bg:K.page=(i:Int))(bn:0<i)(o:i<N)(r:∀m,m<L.length->∃G,SRep ns (L.getD m t0).2 G [(strOfNums [],K.kids.getD m 0)])(ad:∀m,m<L.length->PgU B0 g rest rt ns nv na nc mb N (L.getD m t0).2)(I:∀m,m<L.length->∀id∈ar (L.getD m t0).2,0<id/\id< (N:Int))(sn w)(B:USt B0 g rest rt w ns nv na nc)(a0:Own1 4 0 w (some ⟨mb,0,none⟩) N N (mkB sn N)):
 Calls prog 106 #[.pointer (some ⟨g,0,none⟩),.int .i64 (q:Nat),.slice (some ⟨mb,0,none⟩) N N] w fun e w'=>e= .returned (.tuple #[])/\OnlyB mb w w'/\Own1 4 0 w' (some ⟨mb,0,none⟩) N N (mkB (ci L++((i:Int)::sn)) N):=by
 obtain⟨b,rfl,f,aS,bu⟩:=B.cells aB;have an:w.cell? ⟨g,0,none⟩=some (.slice (some ⟨b,0,none⟩) ns.length nc):=B.blk.cell 0;have y:=bAl w (.cells (ndc (nv q) K).toArray 176);have a2:=aq w 176 (ndc (nv q) K).toArray;have a5:(prog.info? 176).map (·.size)=some (ndc (nv q) K).length:=aD;have bs:¬(q:Int)<0:=t7;go_enter func106,ntmps106;go_upto_region 2 with(first|(refine dG rfl 176 _ rfl b (q*6) rfl (ndc (nv q) K) _ f underlying176 rfl a5 ?_)|(refine bt rfl 176 _ _ rfl w (ndc aF nd0).toArray (ndc (nv q) K).toArray 176 rfl rfl aD rfl (cy _ _) ?_))
 change Code.wp _ _ _ _ (w.alloc (.cells (ndc (nv q) K).toArray 176));have ae:=aS.below y;have R:=B.below y;have u:=a0.below y;have bl:(w.alloc (.cells (ndc (nv q) K).toArray 176)).1.size=w.1.size+1:=by simp
 generalize w.alloc (.cells (ndc (nv q) K).toArray 176)=E at*;have s:Blk E 176 w.1.size (ndc (nv q) K):=a2;obtain⟨_,bc,n⟩:=u.blk;have v:=ax E mb i (.bool true);have a:∀t,4≠t->KeepT t E (E.setCell ⟨mb,i,none⟩ (.bool true)):=fun t W=>cx v n W;have X:=u.set i (.bool true);rw[iT _ _ _ o]at X;have S:=R.onlyM v n;have Q:=s.keepT (a _ uv);have af:=ae.keep (a _ uv) (a _ uv);have a6:OnlyB mb w (E.setCell ⟨mb,i,none⟩ (.bool true)):=(Below.onlyB y mb).trans v;have a9:E.cell? ⟨w.1.size,0,none⟩=some (.int .i64 (i:Nat)):=(s.cell 0).trans (by rw[<-bg];rfl);obtain⟨_,bd,_,_,_,P⟩:=u.at_ t7;cases bd;have ba:=(P i o).trans (B8 some (go sn N i o));have bf:=u.free i;have h:=t6 S (u2 X (u2 Q (u2 af a6)));have bv:w.1.size< (E.setCell ⟨mb,i,none⟩ (.bool true)).1.size:=by have:=v.size;omega
 clear a2 s ae aS y f an B aB a5 R u X S Q af a6 a v n P a0 bl;have ab:Hid _:=ad;have T:Hid _:=r;have ac:Hid _:=I;clear ad r I;go_upto_region 4 with fail
 generalize E.setCell ⟨mb,i,none⟩ (.bool true)=ak at*;clear a9 ba bf;generalize J:K.kids=kd at*;have D:Hid (kd.length=L.length):=M;clear M;go_wp2_with fail;go_loopw [7] (fun x wr=> ∃j:Nat,x= .int .i64 (j:Nat)/\j<=kd.length/\OnlyB mb ak wr/\Own1 4 0 wr (some ⟨mb,0,none⟩) N N (mkB (ci (L.take j)++((i:Int)::sn)) N)) (fun x _=>kd.length-(intOf x).toNat)
 case atStart=>exact⟨0,rfl,u6 _,OnlyB.refl _ _,by simpa [ci]using h.out.2.1⟩
 case round=>
  obtain⟨j,rfl,bz,p,c⟩:=hrel;obtain⟨C,a1⟩:=aa wr;subst a1;obtain⟨_,bb,l⟩:=h.out.2.1.blk;have a:∀t,4≠t->KeepT t ak C:=fun t W=>cx p l W;have z:=h.out.1.onlyM p l;have a3:=h.out.2.2.1.keepT (a _ uv);have U:=h.out.2.2.2.1.keep (a _ uv) (a _ uv);have am:C.cell? ⟨w.1.size,4,none⟩=some (.slice (nv q).da kd.length (nv q).dc):=by rw[<-J];exact a3.cell 4
  have bk:Hid (OnlyB mb w C):=h.out.2.2.2.2.trans p;have a8:Hid _:=p;clear p a a3 l;by_cases O:j<kd.length
  ·have V:(j:Int)< (kd.length:Int):=t7;have d:j<L.length:=by have:=D.out;omega
   have Z:=U.kids;rw[J]at Z;obtain⟨bA,bB,H,ap⟩:=Z.get O;rw[H]at am;rw[cF kd j O]at ap;obtain⟨a7,F⟩:=T.out j d;have ag:=ab.out j d (kd.getD j 0) a7 _ C z c F (ac.out j d);have aA:Hid (mkB (ar (L.getD j t0).2++(ci (L.take j)++((i:Int)::sn))) N=mkB (ci (L.take (j+1))++((i:Int)::sn)) N):=mu N (fun x=>by
    have e:L.take (j+1)=L.take j++[L.getD j t0]:=by rw[AC];simp[List.getD,List.getElem?_eq_getElem d]
    rw[e];simp only[ci,List.flatMap_append,List.flatMap_cons,List.flatMap_nil,wi,wE];constructor
    ·rintro(k|k|k)
     ·exact u5 (u4 k)
     ·exact u5 (u5 k)
     ·exact u4 k
    ·rintro((k|k)|k)
     ·exact u4 (u5 k)
     ·exact u5 k
     ·exact u4 (u4 k))
   generalize kd.getD j 0=bC at*;clear Z U z c H F;go_wp2_with fail;refine ag.mono ?_;rintro e bE ⟨rfl,a4,Y⟩;rw[aA.out]at Y;have A:=t6 a4 Y;clear ag a4 Y am ap;go_wp2_with fail;go_roundw
   case rel=>exact⟨j+1,by go_num,t7,a8.out.trans A.out.1,A.out.2⟩
   case measure=>simp[intOf];omega
  ·have aX:j=kd.length:=t7;have V:¬(j:Int)< (kd.length:Int):=t7;have aT:L.take j=L:=wC (by have:=D.out;omega);rw[aT]at c;have A:Hid _:=c;clear c U z aT aX;go_wp2_with fail
   go_end0
   exact⟨rfl,bk.out,A.out⟩
theorem G0(i:ns.length<=1048576)(s:N<=1048576):∀(n:Nat)(t:Tr),wf n t->PgU B0 g rest rt ns nv na nc mb N t:=by
 intro n;induction n with
 |zero=>
  intro t h p P sn w o a d f;rcases aO h with⟨id,es,_,rfl⟩|⟨id,L,m,e,_⟩
  ·rw[SRep]at d;obtain⟨q,_,k,j⟩:=d;cases k;have B:=f id (by simp[ar]);have:=yD (mb:=mb) i s q _ j [] uB rfl id.toNat (by show id= _;omega) t7 t7 (fun m a=>by simp at a) (fun m a=>by simp at a) (fun m a=>by simp at a) sn w o a;rw[show((id.toNat:Nat):Int)=id by omega]at this;simpa [ar,ci]using this
  ·omega
 |succ n ih=>
  intro t h p P sn w o a d f;rcases aO h with⟨id,es,e,_⟩|⟨id,L,m,e,rfl⟩
  ·omega
  ·obtain⟨w0,w1,K,H⟩:=bq.1 h;have r:L.length<=1048576:=by
    rw[dm]at H;have:=gQ (sgs L);have:=gC L;omega
   rw[SRep]at d;obtain⟨q,us,G,_,k,j,u⟩:=d;cases k;have B:=f id (by simp[ar]);have z:∀m,m<L.length->∀x∈ar (L.getD m t0).2,0<x/\x< (N:Int):=fun m a x hx=>f x (by
    rw[ar,gF];exact zs _ (eT.2 ⟨_,bO a,hx⟩))
   have l:∀m,m<L.length->∃G,SRep ns (L.getD m t0).2 G [(strOfNums [],(ndI id us).kids.getD m 0)]:=fun m a=>by
    obtain⟨I,A,J,v,_,_,y,_,F,_⟩:=u.at a;have:=eF (·.2) us m ((strOfNums [],0):Pl);rw[y]at this;exact⟨A,by rw[show(ndI id us).kids.getD m 0=v from this];exact F⟩
   have:=yD (mb:=mb) i s q _ j L r (by show(us.map (·.2)).length= _;rw[x7];exact u.len) id.toNat (by show id= _;omega) t7 t7 l (fun m a=>ih _ (w1 _ (bO a))) z sn w o a;rw[show((id.toNat:Nat):Int)=id by omega]at this;refine this.mono ?_;rintro e w' ⟨C,D,E⟩;refine⟨C,D,?_⟩;rw[mu (b:=ci L++(id::sn)) N (fun x=>by
    rw[ar,gF];simp only[y4,wA,wE];constructor
    ·rintro(c|c|c)
     ·exact u4 (u5 c)
     ·exact u5 c
     ·exact u4 (u4 c)
    ·rintro(c|c|c)
     ·exact u4 (u5 c)
     ·exact u5 c
     ·exact u4 (u4 c))]
   exact E
end
def wol(v:Int)(ls:List Int):List Int:=ls.filter fun x=> !(x==v)
theorem yE(v ls):(wol v ls).length<=ls.length:=List.length_filter_le _ _
theorem mF{ls:List Int}{j}(a:j<ls.length):ls.take (j+1)=ls.take j++[ls.getD j 0]:=by rw[AC];simp[List.getD,List.getElem?_eq_getElem a]
theorem G7(v){ls:List Int}{j}(a:j<ls.length):wol v (ls.take (j+1))=if(ls.getD j 0==v)=true then wol v (ls.take j)else wol v (ls.take j)++[ls.getD j 0]:=by
 unfold wol;rw[mF a,List.filter_append];cases b:(ls.getD j 0==v)with
 |true=>rw[BC rfl,List.filter_cons_of_neg (by rw[b];decide)];simp
 |false=>rw[BX uv,List.filter_cons_of_pos (by rw[b];decide)];simp
theorem G8(w a c ls v)(Q:R1 3 w a ls.length c (on ls))(T:ls.length<=1048576):
 Calls prog 136 #[.slice a ls.length c,.int .i64 v] w fun e w'=> ∃z B,e= .returned (.slice z (wol v ls).length B)/\Below w.1.size w w'/\Own1 3 w.1.size w' z (wol v ls).length B (on (wol v ls)):=by
 have I:Hid (∀u,Below w.1.size w u->R1 3 u a ls.length c (on ls)):=fun u O=>Q.below O;have H:=bAl w (.cells #[] 3);have r:=t6 H (fU 3 w.1.size w t1);clear Q H;go_enter func136,ntmps136;go_upto_region 2 with fail
 generalize w.alloc (.cells #[] 3)=V at*;go_wp2_with fail;go_loopw [5,6] (fun s x wr=> ∃(j:Nat)(a:Option Addr)(c:Nat)(d:List Int),x= .int .i64 (j:Nat)/\j<=ls.length/\s= .slice a d.length c/\d=wol v (ls.take j)/\Below w.1.size w wr/\Own1 3 w.1.size wr a d.length c (on d)) (fun _ x _=>ls.length-(intOf x).toNat)
 case atStart=>exact⟨0,_,0,[],rfl,u6 _,rfl,rfl,r.out.1,r.out.2⟩
 case round=>
  obtain⟨j,n,o,d,rfl,S,rfl,l,f,q⟩:=hrel;obtain⟨P,D⟩:=aa wr;subst D;have E:d.length<=1048576:=by rw[l];have:=yE v (ls.take j);rw[wv]at this;omega
  have i:Hid _:=l;have h:=t6 f q;have F:=f.size;clear l;by_cases k:j<ls.length
  ·have p:(j:Int)< (ls.length:Int):=t7;obtain⟨b,R,M,L⟩:=(I.out P f).get k;subst M;rw[cF _ _ k]at L;have g:Hid _:=G7 v k;generalize ls.getD j 0=x at*;clear f q;cases m:(x==v)with
   |true=>
    rw[m]at g;go_wp2_with fail;go_roundw
    case rel=>exact⟨j+1,n,o,d,by go_num,t7,rfl,by rw[g.out,i.out];rfl,h.out.1,h.out.2⟩
    case measure=>simp[intOf];omega
   |false=>
    rw[m]at g;go_wp2_with (at_builtin;refine lN rfl _ _ co rfl w.1.size n d.length o (on d) rfl h.out.2 (.int .i64 x) rfl rfl E t7 F ?_);intro J K U G A N;have y:=t6 (h.out.1.trans A) G;clear G A N;go_wp2_with fail;go_roundw
    case rel=>exact⟨j+1,J,K,d++[x],by go_num,t7,uB,by rw[g.out,i.out];rfl,y.out.1,by rw[u7,<-fv];exact y.out.2⟩
    case measure=>simp[intOf];omega
  ·have p:¬(j:Int)< (ls.length:Int):=t7;have C:ls.take j=ls:=wC t7;have t:Hid (d=wol v ls):=by show d= _;rw[i.out,C]
   clear f q C;go_wp2_with fail;go_ret;exact⟨n,o,by rw[<-t.out];rfl,h.out.1,by rw[<-t.out];exact h.out.2⟩
def onl(nw old:List Int):List Int:=old.filter fun x=> !nw.contains x
def idS(left old nw own:List Int):List Int:=own.reverse++((onl nw old).reverse++left.reverse)
theorem G9(a){ls:List Int}{j}(b:j<ls.length):onl a (ls.take (j+1))=if a.contains (ls.getD j 0)=true then onl a (ls.take j)else onl a (ls.take j)++[ls.getD j 0]:=by
 unfold onl;rw[mF b,List.filter_append];cases c:a.contains (ls.getD j 0)with
 |true=>rw[BC rfl,List.filter_cons_of_neg (by rw[c];decide)];simp
 |false=>rw[BX uv,List.filter_cons_of_pos (by rw[c];decide)];simp
theorem Ha(w Z ac ae ab ad wc ba nb N b f A g)(Y:N<=1048576)(aS:R1 3 w Z b.length ab (on b))(aT:R1 3 w ac f.length ad (on f))(aX:R1 3 w ae g.length wc (on g))(X:Own1 4 ba w (some ⟨nb,0,none⟩) N N (mkB A N))(bf:∀x∈b,0<=x/\x< (N:Int))(bg:∀x∈f,0<=x/\x< (N:Int))(bk:∀x∈g,0<=x/\x< (N:Int))(bn:b.length<=1048576)(br:f.length<=1048576)(bs:g.length<=1048576):
 Calls prog 134 #[.slice Z b.length ab,.slice ac f.length ad,.slice (some ⟨nb,0,none⟩) N N,.slice ae g.length wc,.int .i64 (N:Nat)] w fun e w'=> ∃a c,e= .returned (.slice a (mkd (idS b f A g) N).length c)/\Below w.1.size w w'/\Own1 3 w.1.size w' a (mkd (idS b f A g) N).length c (on (mkd (idS b f A g) N)):=by
 obtain⟨mb,H⟩:=aa w.1.size;have am:=jG N Y w;have J:=bAl w (.cells (madeCells #[.bool false] N) 4);have P:=jH mb N Y w t7;rw[<-H]at am P;have bm:nb<mb:=by rw[H];exact X.lt rfl
 have a7:=aS.below J;have a8:=aT.below J;have a9:=aX.below J;have a5:=X.below J;have V:=t6 J H;clear aS aT aX X J H;go_enter func134,ntmps134;go_upto_region 2 with fail
 generalize w.alloc (.cells (madeCells #[.bool false] N) 4)=an at*;obtain⟨_,bd,R⟩:=P.blk;have I:Hid (∀u,OnlyB mb an u->R1 3 u Z b.length ab (on b)/\R1 3 u ac f.length ad (on f)/\R1 3 u ae g.length wc (on g)/\∀o,o<N->u.cell? ⟨nb,o,none⟩=some (.bool (A.contains (o:Int)))):=fun u a2=>by
  have k:=cx (t:=3) a2 R uv;refine⟨a7.keep k,a8.keep k,a9.keep k,fun o a0=> ?_⟩;obtain⟨_,G,_,h,_,bl⟩:=a5.at_ t7;cases G;rw[CP (w:=an) (a:=⟨nb,o,none⟩) (a2.block nb h t7),bl o a0,go _ _ _ a0]
 have Q:Hid _:=P;clear a7 a8 a9 a5 P am R;go_wp2_with fail;go_loopw [12] (fun x wr=> ∃(j:Nat),x= .int .i64 (j:Nat)/\j<=b.length/\OnlyB mb an wr/\Own1 4 mb wr (some ⟨mb,0,none⟩) N N (mkB ((b.take j).reverse++[]) N)) (fun x _=>b.length-(intOf x).toNat)
 case atStart=>exact⟨0,rfl,u6 _,OnlyB.refl _ _,Q.out⟩
 case round=>
  obtain⟨j,rfl,a1,m,l⟩:=hrel;obtain⟨n,D⟩:=aa wr;subst D;have p:=t6 m l;by_cases h:j<b.length
  ·have y:(j:Int)< (b.length:Int):=t7;obtain⟨a3,a4,G,L⟩:=(I.out n m).1.get h;subst G;rw[cF _ _ h]at L;obtain⟨E,U⟩:=bf _ (bO (d:=0) h);have v:Hid _:=mF h;have q:=(I.out n m).2.2.2;generalize b.getD j 0=x at*;obtain⟨o,rfl⟩:=xb E;have i:o<N:=t7;obtain⟨_,M,_,_,_,s⟩:=l.at_ t7;cases M;obtain⟨B,aA⟩:∃B,n.cell? ⟨mb,o,none⟩=some (.bool B):=⟨_,(s o i).trans (B8 some (go _ N o i))⟩;have O:=q o i;have aB:=l.free o;have z:=l.set o (.bool true);rw[iT _ _ _ i]at z;have F:=m.trans (ax n mb o (.bool true));have r:=t6 F z;clear m l s q z F;go_wp2_with fail;go_roundw
   case rel=>exact⟨j+1,by go_num,t7,r.out.1,by rw[v.out,List.reverse_append];exact r.out.2⟩
   case measure=>simp[intOf];omega
  ·have y:¬(j:Int)< (b.length:Int):=t7;have C:b.take j=b:=wC t7;rw[C]at p;clear m l C;rw[wi]at p;have K:Hid _:=p.out;clear p Q;go_wp2_with fail;go_loopw [13] (fun x wr=> ∃(j:Nat),x= .int .i64 (j:Nat)/\j<=f.length/\OnlyB mb an wr/\Own1 4 mb wr (some ⟨mb,0,none⟩) N N (mkB ((onl A (f.take j)).reverse++b.reverse) N)) (fun x _=>f.length-(intOf x).toNat)
   case atStart=>exact⟨0,rfl,u6 _,K.out.1,K.out.2⟩
   case round=>
    obtain⟨j,rfl,a1,m,l⟩:=hrel;obtain⟨n,D⟩:=aa wr;subst D;have p:=t6 m l;by_cases h:j<f.length
    ·have y:(j:Int)< (f.length:Int):=t7;obtain⟨a3,a4,G,L⟩:=(I.out n m).2.1.get h;subst G;rw[cF _ _ h]at L;obtain⟨E,U⟩:=bg _ (bO (d:=0) h);have v:Hid _:=G9 A h;have q:=(I.out n m).2.2.2;generalize f.getD j 0=x at*;obtain⟨o,rfl⟩:=xb E;have i:o<N:=t7;obtain⟨_,M,_,_,_,s⟩:=l.at_ t7;cases M;obtain⟨B,aA⟩:∃B,n.cell? ⟨mb,o,none⟩=some (.bool B):=⟨_,(s o i).trans (B8 some (go _ N o i))⟩;have O:=q o i;have aB:=l.free o;have z:=l.set o (.bool true);rw[iT _ _ _ i]at z;have F:=m.trans (ax n mb o (.bool true));have r:=t6 F z;clear m l s q z F;cases S:A.contains (o:Int)with
     |true=>
      rw[S]at O v;go_wp2_with fail;go_roundw
      case rel=>exact⟨j+1,by go_num,t7,p.out.1,by rw[v.out];exact p.out.2⟩
      case measure=>simp[intOf];omega
     |false=>
      rw[S]at O v;go_wp2_with fail;go_roundw
      case rel=>exact⟨j+1,by go_num,t7,r.out.1,by rw[v.out,BX uv,List.reverse_append];exact r.out.2⟩
      case measure=>simp[intOf];omega
    ·have y:¬(j:Int)< (f.length:Int):=t7;have C:f.take j=f:=wC t7;rw[C]at p;clear m l C;have ag:Hid _:=p.out;clear p K;go_wp2_with fail;go_loopw [14] (fun x wr=> ∃(j:Nat),x= .int .i64 (j:Nat)/\j<=g.length/\OnlyB mb an wr/\Own1 4 mb wr (some ⟨mb,0,none⟩) N N (mkB ((g.take j).reverse++((onl A f).reverse++b.reverse)) N)) (fun x _=>g.length-(intOf x).toNat)
     case atStart=>exact⟨0,rfl,u6 _,ag.out.1,ag.out.2⟩
     case round=>
      obtain⟨j,rfl,a1,m,l⟩:=hrel;obtain⟨n,D⟩:=aa wr;subst D;have p:=t6 m l;by_cases h:j<g.length
      ·have y:(j:Int)< (g.length:Int):=t7;obtain⟨a3,a4,G,L⟩:=(I.out n m).2.2.1.get h;subst G;rw[cF _ _ h]at L;obtain⟨E,U⟩:=bk _ (bO (d:=0) h);have v:Hid _:=mF h;have q:=(I.out n m).2.2.2;generalize g.getD j 0=x at*;obtain⟨o,rfl⟩:=xb E;have i:o<N:=t7;obtain⟨_,M,_,_,_,s⟩:=l.at_ t7;cases M;obtain⟨B,aA⟩:∃B,n.cell? ⟨mb,o,none⟩=some (.bool B):=⟨_,(s o i).trans (B8 some (go _ N o i))⟩;have O:=q o i;have aB:=l.free o;have z:=l.set o (.bool true);rw[iT _ _ _ i]at z;have F:=m.trans (ax n mb o (.bool true));have r:=t6 F z;clear m l s q z F;go_wp2_with fail;go_roundw
       case rel=>exact⟨j+1,by go_num,t7,r.out.1,by rw[v.out,List.reverse_append];exact r.out.2⟩
       case measure=>simp[intOf];omega
      ·have y:¬(j:Int)< (g.length:Int):=t7;have C:g.take j=g:=wC t7;rw[C]at p;clear m l C;have T:Own1 4 mb n (some ⟨mb,0,none⟩) N N (mkB (idS b f A g) N):=p.out.2;have ak:=og mb mb N (idS b f A g) n Y T;have W:Hid (Below w.1.size w n):=V.out.1.trans (p.out.1.below (by rw[V.out.2];exact t1) V.out.1.size);clear T p;go_wp2_with fail;refine ak.mono ?_;rintro e bu ⟨bb,bc,rfl,ap,a6⟩;have af:=t6 (W.out.trans (ap.mono W.out.size)) (a6.mono W.out.size);clear ap a6 ak;go_wp2_with fail;go_ret;exact⟨bb,bc,rfl,af.out.1,af.out.2⟩
def pwO(id kind:Int)(body:List Int):List OpK:=pwL (kOf (bL id kind body.length)) id (page id kind body)
theorem jK(id b a):(pwO id b a).length<=4:=by rw[pwO,gV];exact tK _
theorem ly(id b a c l w)(m:Bs w a l.length c l)(j:l.length<=1048576):
 Calls prog 93 #[.int .i64 id,.int .i64 b,.slice a l.length c] w fun e w'=> ∃d f k,e= .returned (.tuple #[.slice d (pwO id b l).length f,.bool k])/\Below w.1.size w w'/\OOp w.1.size w' d f (pwO id b l):=by
 unfold pwO;rw[gV];cases g:bL id b l.length with
 |true=>
  refine(pK id b a _ c l w m g).mono ?_;rintro e w' ⟨d,f,rfl,h,i⟩;exact⟨d,f,true,rfl,h,i.rop⟩
 |false=>
  refine(tH id b a _ c w j g (page id b l)).mono ?_;rintro e w' ⟨d,f,rfl,h,i⟩;exact⟨d,f,false,rfl,h,i.rop⟩
def n4(ls:List Int):List Int:=ls.flatMap fun x=>num x 4
theorem yF(ls):(n4 ls).length=4*ls.length:=by
 unfold n4;induction ls with
 |nil=>rfl
 |cons x ls ih=>rw[List.flatMap_cons,u7,ew,ih,wQ];omega
theorem Hb(ls):IsB (n4 ls):=by
 unfold n4;induction ls with
 |nil=>exact eX
 |cons x ls ih=>rw[List.flatMap_cons];exact dC (ec x 4) ih
def frO:List Int->List Int->List OpK
 |[],_=>[]
 |o::own,ids=>pwO o 4 (num (own.headD 0) 4++n4 (ids.take 59))++frO own (ids.drop 59)
theorem sd:∀a b:List Int,(frO a b).length<=4*a.length
 |[],_=>by simp[frO]
 |o::a,b=>by
  have:=sd a (b.drop 59);have:=jK o 4 (num (a.headD 0) 4++n4 (b.take 59));rw[frO,u7,wQ];omega
theorem Hc(w bs p bu q d l)(b2:R1 3 w bs d.length bu (on d))(Q:R1 3 w p l.length q (on l))(cM:∀x∈d,0<=x/\x<=1048576)(cP:∀x∈l,0<=x/\x<=1048576)(dd:d.length<=100000)(dk:l.length<=1048576):
 Calls prog 138 #[.slice bs d.length bu,.slice p l.length q] w fun e w'=> ∃a c,e= .returned (.slice a (frO d l).length c)/\Below w.1.size w w'/\OOp w.1.size w' a c (frO d l):=by
 have cf:=bAl w (.cells #[] 157);have bA:=t6 cf (mS w.1.size w t1);have bS:Hid (∀u,Below w.1.size w u->R1 3 u bs d.length bu (on d)):=fun u cV=>b2.below cV;have bP:Hid _:=Q;have bR:Hid _:=sd d l;obtain⟨ab,I⟩:=aa (frO d l);rw[<-I]at bR ⊢;have bd:Hid _:=I;clear b2 Q cf I;go_enter func138,ntmps138;go_upto_region 2 with fail
 generalize w.alloc (.cells #[] 157)=dq at*;go_wp2_with fail;go_loopw [1,5,6] (fun ac cW cX wr=> ∃(j:Nat)(a:Option Addr)(c:Nat)(xs:List OpK)(p:Option Addr)(q:Nat)(is:List Int),cX= .int .i64 (j:Nat)/\j<=d.length/\cW= .slice a xs.length c/\ac= .slice p is.length q/\R1 3 w p is.length q (on is)/\(∀x∈is,x∈l)/\is.length<=l.length/\ab=xs++frO (d.drop j) is/\Below w.1.size w wr/\OOp w.1.size wr a c xs) (fun _ _ x _=>d.length-(intOf x).toNat)
 case atStart=>exact⟨0,_,0,[],p,q,l,rfl,u6 _,rfl,rfl,bP.out,fun _ da=>da,t1,bd.out,bA.out.1,bA.out.2⟩
 case round=>
  obtain⟨j,ck,cl,xs,p,q,is,rfl,db,rfl,rfl,Q,J,U,F,L,bn⟩:=hrel;obtain⟨t,G⟩:=aa wr;subst G;have c6:xs.length<=400000:=by have:=bR.out;rw[F,u7]at this;omega
  have r:=t6 L (u2 bn (u2 Q (u2 J (u2 U F))));by_cases Y:j<d.length
  ·have bm:(j:Int)< (d.length:Int):=t7;have b3:d.drop j=d.getD j 0::d.drop (j+1):=pj 0 Y;obtain⟨s,N⟩:=aa ((d.drop (j+1)).headD 0);have a3:0<=s/\s<=1048576:=by
    rw[N];cases cS:d.drop (j+1)with
    |nil=>simp
    |cons y g=>exact cM y (List.mem_of_mem_drop (i:=j+1) (by rw[cS];simp))
   have aT:Hid (frO (d.drop j) is=pwO (d.getD j 0) 4 (num s 4++n4 (is.take 59))++frO (d.drop (j+1)) (is.drop 59)):=by
    show _= _;rw[b3,frO,<-N]
   have aS:Hid _:=N;have aB:Hid _:=a3;clear b3 N a3 Q J U F bn;go_upto_if 23 with fail
   go_cut [7] (fun c0 aA=>c0= .int .i64 s/\aA=t)
   case first=>
    by_cases bg:j+1<d.length
    ·have b1:(j:Int)+1< (d.length:Int):=t7;obtain⟨b,P,T,C⟩:=(bS.out t L).get bg;subst T;rw[cF _ _ bg]at C;have ap:d.getD (j+1) 0=s:=by rw[aS.out,pj 0 bg];rfl
     rw[ap]at C;clear ap;have b0:t.cell? ⟨b,P+(j+1),none⟩=some (.int .i64 s):=C;have c4:((j:Int)+1).toNat=j+1:=t7;have c3:(0:Int)<=(j:Int)+1:=t7;go_wp2
     go_meet
     exact⟨rfl,rfl⟩
    ·have b1:¬(j:Int)+1< (d.length:Int):=t7;have ap:Hid (s=0):=by show s=0;rw[aS.out,zW t7];rfl
     go_wp2
     go_meet
     exact⟨by rw[ap.out],rfl⟩
   case rest=>
    obtain⟨rfl,b4⟩:=hcut;obtain rfl:=b4.symm;clear b4;have S:=i9 s 4 t aB.out.1 (by have:=aB.out.2;omega) t7;clear L;go_wp2_with fail;refine S.mono ?_;rintro e w1 ⟨cq,cz,rfl,bX,ca⟩;clear S;have bf:=r.out.1.size;have bB:=t6 bX ca;clear bX ca;go_upto_block 2 with fail
    go_cut [1,8,9] (fun ac bv _ aA=> ∃(p:Option Addr)(q:Nat)(f:List Int)(a:Option Addr)(c:Nat)(g:List Int),ac= .slice p f.length q/\bv= .slice a g.length c/\f=is.drop 59/\g=num s 4++n4 (is.take 59)/\R1 3 w p f.length q (on f)/\Below t.1.size t aA/\Own t.1.size aA a g.length c g)
    case first=>
     go_wp2_with fail;go_loopw [1,8,9] (fun ac bv bx wr=> ∃(k:Nat)(p:Option Addr)(q:Nat)(f:List Int)(a:Option Addr)(c:Nat)(g:List Int),bx= .int .i64 (k:Nat)/\k<=59/\ac= .slice p f.length q/\bv= .slice a g.length c/\f=is.drop k/\g=num s 4++n4 (is.take k)/\R1 3 w p f.length q (on f)/\Below t.1.size t wr/\Own t.1.size wr a g.length c g) (fun _ _ bx _=>59-(intOf bx).toNat)
     case atStart=>exact⟨0,p,q,is,cq,cz,num s 4,rfl,t7,rfl,by rw[ew],uB,by simp[n4],r.out.2.2.1,bB.out.1,by rw[ew];exact bB.out.2⟩
     case round=>
      obtain⟨k,bb,bc,f,ae,am,g,rfl,dc,rfl,rfl,h,n,E,D,O⟩:=hrel;obtain⟨ch,G⟩:=aa wr;subst G;have W:f.length=is.length-k:=by rw[h,vk]
      have cT:f.length<=1048576:=by have:=r.out.2.2.2.2.1;omega
      have b5:g.length<=300:=by rw[n,u7,ew,yF,wv];omega
      have m:=t6 h (u2 n (u2 E (u2 D O)));by_cases c2:k<59
      ·have bl:(k:Int)<59:=t7;by_cases V:0<f.length
       ·have bk:(0:Int)< (f.length:Int):=t7;obtain⟨cp,cv,Z,cg⟩:=R1.cutFrom co E (i:=1) t7;obtain⟨b,P,T,C⟩:=(E.below (r.out.1.trans (D.mono bf))).get (i:=0) V;subst T;rw[cF _ _ V]at C;have hx:=cP (f.getD 0 0) (r.out.2.2.2.1 _ (List.mem_of_mem_drop (i:=k) (by rw[<-h];exact bO V)));have M:k<is.length:=t7;have a9:f.getD 0 0=is.getD k 0:=by rw[h];simp[List.getD_eq_getElem?_getD]
        have a7:Hid (is.drop (k+1)=f.drop 1/\n4 (is.take (k+1))=n4 (is.take k)++num (f.getD 0 0) 4):=by
         show _/\_;refine⟨by rw[h,wP],?_⟩;rw[mF M,a9];simp[n4]
        generalize f.getD 0 0=x at*;have b0:ch.cell? ⟨b,P,none⟩=some (.int .i64 x):=C;have S:=i9 x 4 ch hx.1 t7 t7;have cR:Hid _:=Z;have bT:Hid _:=cg;have aX:=D.size;clear Z cg E h n O a9 C W;go_wp2_with fail;refine S.mono ?_;rintro e bz ⟨af,an,rfl,ag,cb⟩;clear S;have a5:Own t.1.size bz ae g.length am g:=m.out.2.2.2.2.below ag;have B:Bs bz af 4 an (num x 4):=cb.bs (ec x 4);have b6:t.1.size<=bz.1.size:=u9 aX ag.size;have cm:Hid _:=m.out.2.2.2.1.trans (ag.mono aX);clear ag cb D;go_wp2_with (at_builtin;refine eu rfl _ _ rfl t.1.size ae g.length am g rfl a5 af 4 an (num x 4) rfl B t7 b6 ?_);intro cr cA dl cc bY cD;have bC:=t6 (cm.out.trans bY) cc;clear cc bY cD a5 B;go_wp2_with (refine nh rfl rfl (cR.out _) ?_);obtain⟨ad,v⟩:=aa (g++num x 4);have H:ad.length=g.length+4:=by rw[v,u7,ew]
        have A:=t6 v H;obtain⟨ks,X⟩:=aa (f.drop 1);have M:ks.length=f.length-1:=by rw[X,vk]
        have K:=t6 X M;clear v H X M;go_wp2_with fail;go_roundw
        case rel=>exact⟨k+1,cp,cv,ks,cr,cA,ad,by go_num,t7,by rw[K.out.2],by rw[A.out.2],by rw[K.out.1,a7.out.1],by rw[A.out.1,a7.out.2,m.out.2.1,vJ],by rw[K.out.2,K.out.1];have:=bT.out;rw[rc]at this;exact this,bC.out.1,by rw[A.out.2,A.out.1];exact bC.out.2⟩
        case measure=>simp[intOf];omega
       ·have bk:¬(0:Int)< (f.length:Int):=t7;have a1:f.length=0:=t7;have R:Hid (f=is.drop 59/\is.take k=is.take 59):=by
         show _/\_;have e0:f=[]:=x8 a1;refine⟨by rw[e0,zW t7],by rw[wC t7,wC t7]⟩
        clear a1 h n E O D W;go_wp2
        go_meet
        exact⟨bb,bc,f,ae,am,g,rfl,rfl,R.out.1,by rw[m.out.2.1,R.out.2],m.out.2.2.1,m.out.2.2.2.1,m.out.2.2.2.2⟩
      ·have bl:¬(k:Int)<59:=t7;have a2:k=59:=t7;have R:Hid (f=is.drop 59/\is.take k=is.take 59):=by show _/\_;rw[<-a2];exact⟨h,rfl⟩
       clear a2 h n E O D W;go_wp2
       go_meet
       exact⟨bb,bc,f,ae,am,g,rfl,rfl,R.out.1,by rw[m.out.2.1,R.out.2],m.out.2.2.1,m.out.2.2.2.1,m.out.2.2.2.2⟩
    case rest=>
     obtain⟨b8,b9,f,af,an,g,rfl,rfl,h,n,E,B,a4⟩:=hcut;obtain⟨cj,G⟩:=aa wc;subst G;have b5:g.length<=300:=by rw[n,u7,ew,yF,wv];omega
     have ba:IsB g:=by rw[n];exact dC (ec s 4) (Hb _)
     obtain⟨b,P,T,C⟩:=(bS.out cj (r.out.1.trans (B.mono bf))).get Y;subst T;rw[cF _ _ Y]at C;generalize d.getD j 0=o at*;have bW:=ly o 4 af an g cj (a4.bs ba) t7;rw[<-n]at aT;have c5:=jK o 4 g;have z:=t6 h (u2 E (u2 (r.out.1.trans (B.mono bf)) (r.out.2.1.below B)));generalize pwO o 4 g=ps at*;clear h n E a4 B ba;go_wp2_with fail;refine bW.mono ?_;rintro e c1 ⟨c8,c9,c7,rfl,ak,ce⟩;clear bW C;have a0:=z.out.2.2.1.size;have a8:=z.out.2.2.2.below ak;have a6:=ce.reads;have b7:w.1.size<=c1.1.size:=u9 a0 ak.size;have cn:Hid _:=z.out.2.2.1.trans (ak.mono a0);clear ak ce;go_wp2_with (at_builtin;refine mT a8 a6 t7 b7 rfl rfl rfl rfl ?_);intro cs cB dp br cL bZ;obtain⟨ad,v⟩:=aa (xs++ps);have H:ad.length=xs.length+ps.length:=by rw[v,u7]
     rw[<-v]at br;have A:=t6 v H;have bE:=t6 (cn.out.trans bZ) br;clear v H br cL bZ a8 a6;go_wp2_with fail;go_roundw
     case rel=>exact⟨j+1,cs,cB,ad,b8,b9,f,by go_num,t7,by rw[A.out.2],rfl,z.out.2.1,(fun x hx=>r.out.2.2.2.1 x (List.mem_of_mem_drop (i:=59) (by rw[<-z.out.1];exact hx))),(by have:=r.out.2.2.2.2.1;have:=B8 List.length z.out.1;rw[vk]at this;omega),by rw[r.out.2.2.2.2.2,aT.out,A.out.1,z.out.1,vJ],bE.out.1,bE.out.2⟩
     case measure=>simp[intOf];omega
  ·have bm:¬(j:Int)< (d.length:Int):=t7;have bF:Hid (xs=ab):=by show xs=ab;rw[F,zW t7,frO,wi]
   clear Q J U F bn L;go_wp2_with fail;go_ret;exact⟨ck,cl,by rw[<-bF.out];rfl,r.out.1,by rw[<-bF.out];exact r.out.2.1⟩
def txB(s:ByteArray):List Int:=(s.size:Int)::nb s
def lfB(es:List En):List Int:=es.flatMap fun e=>txB e.1++txB e.2
def iBd:Nat->List Pl->List Int
 |_,[]=>[]
 |0,x::us=>num x.2 4++iBd 1 us
 |k+1,x::us=>txB x.1++(num x.2 4++iBd (k+2) us)
def fI:Tr->Int
 | .leaf id _=>id
 | .node id _=>id
 |_=>0
def kdP(L:List Kd):List Pl:=L.map fun x=>(x.1,fI x.2)
def bdT:Tr->List Int
 | .leaf _ es=>lfB es
 | .node _ ks=>iBd 0 (kdP (aC ks))
 |_=>[]
theorem lz(s):(txB s).length=1+s.size:=by simp[txB,up];omega
theorem se{s}(a:s.size<=255):IsB (txB s):=pD t7 t7 (ut s)
theorem pm:∀es:List En,(lfB es).length=lSz es
 |[]=>rfl
 |e::es=>by
  have:=pm es;rw[gz];simp only[lfB,List.flatMap_cons,u7,lz]at*;simp only[eSz];omega
theorem sh:∀(a B:List Pl)(k:Nat),iBd k (a++B)=iBd k a++iBd (k+a.length) B
 |[],B,k=>by simp[iBd]
 |x::a,B,0=>by rw[y4,iBd,iBd,sh a B 1];simp[Nat.add_comm]
 |x::a,B,k+1=>by rw[y4,iBd,iBd,sh a B (k+2)];simp[Nat.add_comm,Nat.add_left_comm]
theorem Hd{us:List Pl}{j}(a:j<us.length)(d):iBd 0 (us.take (j+1))=(iBd 0 (us.take j)++(if j=0 then []else txB (us.getD j d).1))++num (us.getD j d).2 4:=by
 have e:us.take (j+1)=us.take j++[us.getD j d]:=by rw[AC];simp[List.getD,List.getElem?_eq_getElem a]
 have b:(us.take j).length=j:=by rw[wv];omega
 rw[e,sh,b,wg];cases j with
 |zero=>simp[iBd]
 |succ j=>simp[iBd]
theorem si:∀(us:List Pl)(k:Nat),(iBd k us).length<=4*us.length+aH (us.map (·.1))
 |[],k=>by simp[iBd]
 |x::us,0=>by
  have:=si us 1;rw[iBd,u7,ew,vo,fW,wQ];simp only[gSz];omega
 |x::us,k+1=>by
  have:=si us (k+2);rw[iBd,u7,u7,lz,ew,vo,fW,wQ];simp only[gSz];omega
theorem lA:ElT 56 5 1 (.int .u8 0) 1:=⟨underlying56,jM,rfl,t7⟩
theorem iH{w}{o:Oper}{a b d x s}(c:o.op= .convert 9 56 x)(hx:a.eval x= .string s)(e:b (a.put o.dst (.slice (some ⟨w.1.size,0,none⟩) s.size (grownCap w s.size 0 5))) (Go.Lib.bytesWorld w 5 s)):o.wp prog a w b d:=by
 unfold Oper.wp execOp;simp only[c,hx,B3,Bf,C0,Ct];exact e
theorem Bs.grownN{w w' b a n c l r}(d:Bs w (some ⟨b,a,none⟩) n c l)(f:w.grownBy w' r)(m:r≠some b):Bs w' (some ⟨b,a,none⟩) n c l:=
 ⟨d.len_eq,d.le,d.le',d.nil,fun k=>by
  obtain⟨p,o,e,g,h⟩:=d.at_ k;cases e;exact⟨b,a,rfl,ws g f.size,fun i j=>by rw[CP (w:=w) (f.block b g (fun e=>m e.symm))];exact h i j⟩,d.byte⟩
theorem lB{B b w a n c l}(d:Own B w a n c l)(f:w.1.size<=b):(Value.slice a n c).ownBlock≠some b:=fun e=>by
 have:=(BS d b e).2;omega
section
variable {B0 g:Nat} {rest:List Value} {rt:Int} {w:World} {ns:List NdK} {nv:Nat->NdV} {na:Option Addr} {nc:Nat}
theorem USt.setRt(a:USt B0 g rest rt w ns nv na nc)(r):USt B0 g rest r (w.setCell ⟨g,1,none⟩ (.int .i64 r)) ns nv na nc:=by
 have o:=ax w g 1 (.int .i64 r);have k:∀t,t≠116->KeepT t w (w.setCell ⟨g,1,none⟩ (.int .i64 r)):=fun t c=>aw o a.blk (DX c);exact⟨a.blk.set 1 (.int .i64 r),cw a.nodes (k _ uv),fun i b=>(a.each i b).keep (k _ uv) (k _ uv),u9 a.gB o.size⟩
def ChP(B0 g:Nat)(rest:List Value)(na:Option Addr)(w:World)(ns:List NdK)(d:Nat)(r:OTr×Bool)(e:Ending)(w':World):Prop:=e= .returned (.bool r.2)/\∃(rt':Int)(ms:List NdK),UQ B0 g rest rt' na w w' ms/\UO ms rt' r.1/\ns.length<=ms.length/\ms.length<=ns.length+d
noncomputable def mG(ms:List NdK)(g:Nat)(u:World):Nat:=match u.cell? ⟨g,1,none⟩with|some (.int _ r)=>dep ms r|_=>0
theorem yG{ms u r n t P}(a:u.cell? ⟨g,1,none⟩=some (.int .i64 r))(b:wf n t)(s:SRep ms t P [(strOfNums [],r)]):mG ms g u=n:=by unfold mG;rw[a];exact GL b s
theorem He{n t ms}{p:Nat}{K}{es:List En}{P}(g:wf n t)(s:SRep ms t P [(strOfNums [],(p:Int))])(a:ms[p]?=some K)(c:K.kids.length≠1):dM n t=(n,t):=by
 rcases aO g with⟨id,es,rfl,rfl⟩|⟨id,L,m,rfl,rfl⟩
 ·rfl
 ·rw[SRep]at s;obtain⟨q,us,G,_,b,e,f⟩:=s;simp only[List.cons.injEq,Prod.mk.injEq,true_and,and_true]at b;have:q=p:=t7;subst this;rw[e]at a;cases a;rw[dM,ct];have d:=f.len;simp only[ndI,x7]at c;split
  ·simp at d;omega
  ·rfl
theorem Hf(cr:USt B0 g rest rt w ns nv na nc){n t}(cS:UO ns rt (some (n,t)))(cg:ns.length+n<=1048574)(k v)(R:eP k n t=true):
 Calls prog 98 #[.pointer (some ⟨g,0,none⟩),.agg (fH k v true)] w fun e w'=>ChP B0 g rest na w ns n (if bare (bN k n t)then none else some (dM n (bN k n t)),true) e w':=by
 obtain⟨X,Q⟩:=aa (if bare (bN k n t)then none else some (dM n (bN k n t)));rw[<-Q];have Y:Hid _:=Q;clear Q;obtain⟨bZ,P,bX,bl⟩:=cS;obtain⟨ad,T⟩:=aa (w.alloc (.cells (fH k v true) 161));have b2:Below w.1.size w ad:=by rw[T];exact bAl _ _
 have b1:Blk ad 161 w.1.size [.string k,.string v,.bool true]:=by rw[T];exact aq w _ _
 have cL:ad.cell? ⟨w.1.size,2,none⟩=some (.bool true):=b1.cell 2;have ab:Hid _:=cr;have z:=t6 bZ (u2 bX bl);unfold fH at*;go_enter func98,ntmps98;go_upto_region 1 with fail
 change Code.wp _ _ _ _ (w.alloc (.cells #[.string k,.string v,.bool true] 161));rw[<-T];clear T cr;go_upto_region 2 with fail
 have N:=bDr ad;have bB:=b2.trans (N.mono b2.size);have s:=ab.out.below bB;have o:=b1.below N;refine az (fun u=>u.cell? ⟨g,1,none⟩=some (.int .i64 rt)/\u.cell? ⟨w.1.size,0,none⟩=some (.string k)) (fun k=>decide (7<=k)) uA ?_;clear N b1 cL b2;generalize ad.drew=cB at*;have cs:cB.cell? ⟨g,1,none⟩=some (.int .i64 rt)/\cB.cell? ⟨w.1.size,0,none⟩=some (.string k):=⟨s.blk.cell 1,o.cell 0⟩;have bv:=ye (k:=k) n t bZ cB ns nv na nc P rt s bX t7;rw[R]at bv;have a0:=t6 bB o;have cA:Hid _:=R;clear s o bB R bZ bX bl;refine aj 0 cs ?_;refine aj 1 cs ?_;refine aj 2 cs ?_;refine aj 3 cs ?_;refine aj 4 cs ?_;refine aj 5 cs ?_;refine aj 6 cs ?_;refine ah 7 fun j c=> ?_;go_wp2_with fail;refine bv.mono ?_;rintro e b8 ⟨rfl,bC⟩;clear bv;have a1:=t6 (a0.out.1.trans (bC.mono a0.out.1.size)) (a0.out.2.below bC);clear bC cs a0;go_wp2_with fail;refine ao c ?_ (fun ce=>absurd ce uv);clear c j;refine ah 8 fun j c=> ?_;go_wp2_with fail;refine aU c ?_ (fun ce=>absurd ce uv);clear c j;go_wp2_with fail;have N:=bDr b8;have bE:=a1.out.1.trans (N.mono a1.out.1.size);have aT:=ab.out.below bE;have cm:=a1.out.2.below N;refine az (fun u=>u.cell? ⟨g,1,none⟩=some (.int .i64 rt)/\u.cell? ⟨w.1.size,0,none⟩=some (.string k)) (fun k=>decide (7<=k)) uA ?_;clear N a1;generalize b8.drew=cD at*;have cs:cD.cell? ⟨g,1,none⟩=some (.int .i64 rt)/\cD.cell? ⟨w.1.size,0,none⟩=some (.string k):=⟨aT.blk.cell 1,cm.cell 0⟩;have b3:=Gy (k:=k) n t z.out.1 cD ns nv na nc P rt aT z.out.2.1 z.out.2.2 cg cA.out;have a8:Hid _:=bE;clear aT cm bE;refine aj 0 cs ?_;refine aj 1 cs ?_;refine aj 2 cs ?_;refine aj 3 cs ?_;refine aj 4 cs ?_;refine aj 5 cs ?_;refine aj 6 cs ?_;refine ah 7 fun j c=> ?_;go_wp2_with fail;refine b3.mono ?_;rintro e Z ⟨rfl,ms,P',cR,ck,bg,bd,bS,cf⟩;clear b3 cs;obtain⟨ap,c1,F,stZ,cc,bk⟩:=cR;obtain⟨p,K,es,H⟩:=bS.rt (yn (k:=k) z.out.1);have ch:=H.pl;have br:=kM (k:=k) z.out.1;generalize cV:bN k n t=d at*;have I:=t6 bS (u2 cf.1 (u2 H (u2 br (u2 cc bk))));obtain⟨b,rfl,a,_,cX⟩:=stZ.cells H.nd;subst ch;have a4:Z.cell? ⟨g,0,none⟩=some (.slice (some ⟨b,0,none⟩) ms.length F):=stZ.blk.cell 0;have M:Z.cell? ⟨g,1,none⟩=some (.int .i64 (p:Nat)):=stZ.blk.cell 1;have O:=a 2 _ rfl;have cP:=a 4 _ rfl;have c0:=H.small;have ba:Hid _:=stZ;go_wp2_with fail;refine aU c ?_ (fun ce=>absurd ce uv);clear c j bS cf H br cc bk a ck stZ;go_wp2_with fail
 go_quiet (fail)
 have B:=ba.out.below (oU Z nq);have bP:UFr g na w (Z.drewN nq):=((OnlyS.ofBelow a8.out).trans I.out.2.2.2.2.1).trans (OnlyS.ofBelow (oU Z nq));have ak:=xO (u5 rfl) I.out.2.2.2.2.2 a8.out.size;have U:=I.out.2.2.1;generalize Z.drewN nq=a3 at*;have bR:=B.blk.free 1;have S:a3.cell? ⟨g,1,none⟩=some (.int .i64 (p:Nat)):=B.blk.cell 1;cases l:bare d with
 |true=>
  obtain⟨bf,bc⟩:=U.bare.1 l;have b0:((K.keys.length:Int)+(K.kids.length:Int)==0)=true:=by rw[bf,bc];rfl
  have bz:Hid (UQ B0 g rest (-1) na w (a3.setCell ⟨g,1,none⟩ (.int .i64 (-1))) ms):=(B.setRt (-1)).uq (bP.trans ((OnlyS.ofB (ax a3 g 1 _)).mono (fun k _ bW=>u5 bW))) ak;have b4:Hid _:=l;clear bf bc U B l;go_wp2_with fail;go_ret;refine⟨rfl, -1,ms,bz.out,?_,bg,bd⟩;rw[Y.out,BC b4.out]
  rfl
 |false=>
  have b0:((K.keys.length:Int)+(K.kids.length:Int)==0)=false:=by
   rw[C8];intro e;have:=U.bare.2 ⟨x8 t7,x8 t7⟩;rw[l]at this;cases this
  rw[b0];clear b0;have bx:Hid _:=B;have a9:=t6 bP ak;have bn:=I.out.2.2.2.1 l;have ac:=t6 bn (u2 I.out.1 I.out.2.1);have b6:Hid (X=some (dM n d)):=by show X= _;rw[Y.out,l];rfl
  clear B bP ak U bR bn l ba I ab z a4 M O cP S;go_wp2_with fail;go_loopw [67] (fun x wr=> ∃(a6:Nat)(aX:Tr)(a2:List Nat)(r:Int),USt B0 g rest r wr ms ap (some ⟨b,0,none⟩) F/\OnlyB g a3 wr/\wf a6 aX/\SRep ms aX a2 [(strOfNums [],r)]/\a2.Nodup/\dM a6 aX=dM n d) (fun _ wr=>mG ms g wr)
  case atStart=>exact⟨n,d,P',(p:Int),bx.out,OnlyB.refl _ _,ac.out.1,ac.out.2.1,ac.out.2.2,rfl⟩
  case round=>
   obtain⟨a6,aX,a2,r,y,a7,w1,C,W,V⟩:=hrel;obtain⟨h,cl⟩:=aa wr;subst cl;obtain⟨q,b7,cb,f⟩:=C.rt (u5 w1);obtain rfl:=f.pl;obtain⟨_,cM,a,af,cT⟩:=y.cells f.nd;cases cM;have a4:h.cell? ⟨g,0,none⟩=some (.slice (some ⟨b,0,none⟩) ms.length F):=y.blk.cell 0;have M:h.cell? ⟨g,1,none⟩=some (.int .i64 (q:Nat)):=y.blk.cell 1;have bF:=a 4 _ rfl;have bY:=f.small;by_cases A:b7.kids.length=1
   ·obtain⟨id,m,x,rfl,rfl⟩:∃id m x,a6=m+1/\aX= .node id (kds [x]):=by
     rcases aO w1 with⟨id,es,rfl,rfl⟩|⟨id,L,m,rfl,rfl⟩
     ·exfalso;rw[SRep]at C;obtain⟨aA,_,O,o⟩:=C;simp only[List.cons.injEq,Prod.mk.injEq,true_and,and_true]at O;have:q=aA:=t7;subst this;have:=f.nd;rw[o]at this;cases this;simp[ndL]at A
     ·have bs:=C;rw[SRep]at bs;obtain⟨aA,us,G,_,O,o,aB⟩:=bs;simp only[List.cons.injEq,Prod.mk.injEq,true_and,and_true]at O;have:q=aA:=t7;subst this;have ae:=f.nd;rw[o]at ae;cases ae;have ag:=aB.len;simp only[ndI,x7]at A
      match L,ag with
      |[x],_=>exact⟨id,m,x,rfl,rfl⟩
      |[],ag=>rw[zP]at ag;omega
      |_::_::_,ag=>simp only[wQ]at ag;omega
    rw[SRep]at C;obtain⟨aA,us,G,rfl,O,o,aB⟩:=C;simp only[List.cons.injEq,Prod.mk.injEq,true_and,and_true]at O;have cj:q=aA:=t7;subst cj;have ae:=f.nd;rw[o]at ae;cases ae;obtain⟨v2,c2,bu,c3,rfl,rfl,cp,cq⟩:=er.1 aB;obtain⟨rfl,rfl⟩:=gE.1 cq;obtain⟨am,an,ca,b9⟩:=af.kids.get (i:=0) (by simp[ndI]);have bb:h.cell? ⟨am,an,none⟩=some (.int .i64 v2):=b9;rw[ca,A]at bF;have bT:Hid (mG ms g h=m+1):=yG (P:=q::(bu++[])) M w1 (by rw[SRep];exact⟨q,[(x.1,v2)],bu++[],rfl,rfl,o,aB⟩);have cv:=(bq.1 w1).2.1 x uB;have b5:Hid (dM m x.2=dM n d):=by
     show _= _;rw[<-V,dM,ct]
    have D:=t6 y (u2 a7 (u2 cv (u2 cp (zd.1 (y1.1 W).2).1)));clear y a7 w1 cp cq aB W V f a af A cv o ca b9 bY;go_wp2_with fail
    go_quiet (fail)
    go_wp2_with fail;have J:Below h.1.size h (h.drewN nq).drew:=⟨rfl,rfl,rfl,t1,fun _ _=>rfl⟩;refine az (fun u=>u.cell? ⟨g,0,none⟩=some (.slice (some ⟨b,0,none⟩) ms.length F)/\u.cell? ⟨g,1,none⟩=some (.int .i64 (q:Nat))/\u.cell? ⟨b,q*6+4,none⟩=some (.slice (some ⟨am,an,none⟩) 1 (ap q).dc)/\u.cell? ⟨am,an,none⟩=some (.int .i64 v2)) (fun k=>decide (16<=k)) uA ?_;have cs:=u2 a4 (u2 M (u2 bF bb));have s:=D.out.1.below J;have cn:=D.out.2.1.trans (Below.onlyB J g);replace cs:(h.drewN nq).drew.cell? ⟨g,0,none⟩=some (.slice (some ⟨b,0,none⟩) ms.length F)/\(h.drewN nq).drew.cell? ⟨g,1,none⟩=some (.int .i64 (q:Nat))/\(h.drewN nq).drew.cell? ⟨b,q*6+4,none⟩=some (.slice (some ⟨am,an,none⟩) 1 (ap q).dc)/\(h.drewN nq).drew.cell? ⟨am,an,none⟩=some (.int .i64 v2):=cs;generalize (h.drewN nq).drew=bA at*;have bR:=s.blk.free 1;have aS:=s.setRt v2;have S:(bA.setCell ⟨g,1,none⟩ (.int .i64 v2)).cell? ⟨g,1,none⟩=some (.int .i64 v2):=aS.blk.cell 1;have a5:Hid (mG ms g (bA.setCell ⟨g,1,none⟩ (.int .i64 v2))=m):=yG S D.out.2.2.1 D.out.2.2.2.1;have E:=t6 aS (u2 (cn.trans (ax bA g 1 (.int .i64 v2))) D.out.2.2);clear s cn aS S J a4 M bF bb;refine ay 0 cs ?_;refine ay 1 cs ?_;refine ay 2 cs ?_;refine ay 3 cs ?_;refine ay 4 cs ?_;refine ay 5 cs ?_;refine ay 6 cs ?_;refine ay 7 cs ?_;refine ay 8 cs ?_;refine ay 9 cs ?_;refine ay 10 cs ?_;refine ay 11 cs ?_;refine ay 12 cs ?_;refine ay 13 cs ?_;refine ah 14 fun j c=> ?_;go_wp2_with fail;refine ao c ?_;clear c j;refine ah 15 fun j c=> ?_;go_wp2_with fail;refine ao c ?_;clear c j;have M:=cs.2.1;refine ah 16 fun j c=> ?_;go_wp2_with fail;refine aU c ?_;clear c j cs bR M;go_wp2_with fail;go_roundw
    case rel=>exact⟨m,x.2,bu,v2,E.out.1,E.out.2.1,E.out.2.2.1,E.out.2.2.2.1,E.out.2.2.2.2,b5.out⟩
    case measure=>rw[bT.out,a5.out];omega
   ·have bm:=He (es:=cb) w1 C f.nd A;have cz:Hid (UO ms (q:Int) X):=by
     show UO ms (q:Int) X;rw[b6.out,<-V,bm];exact⟨w1,a2,C,W⟩
    have D:=t6 y a7;have cW:((b7.kids.length:Int)==1)=false:=by rw[C8];omega
    clear y a7 w1 C W V f a af bm A;go_wp2_with fail
    go_quiet (fail)
    have J:=oU h nq;have bz:Hid (UQ B0 g rest (q:Int) na w (h.drewN nq) ms):=(D.out.1.below J).uq (a9.out.1.trans ((OnlyS.ofB (D.out.2.trans (Below.onlyB J g))).mono (fun k _ bW=>u5 bW))) a9.out.2;clear J;go_wp2_with fail;go_ret;exact⟨rfl,q,ms,bz.out,cz.out,bg,bd⟩
end
