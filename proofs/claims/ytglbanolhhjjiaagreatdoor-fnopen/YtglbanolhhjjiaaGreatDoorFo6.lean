import Derived.Test.YtglbanolhhjjiaaGreatDoorFo5
import Derived.Lib.ConvBytes
namespace Go.Proofs.YtglbanolhhjjiaaGreatDoor
open Go.Proofs.Tryz
open Go.RowKit Go.Maps
set_option linter.unusedVariables false
set_option maxRecDepth 100000
set_option maxHeartbeats 32000000
def sz(l:List Int):Int:=low (aJ l 10 2)
def kd(l:List Int):Int:=l.getD 8 0
def aY(l:List Int):List Int:=aJ l 16 (sz l).toNat
def cC(id:Int)(l:List Int):Prop:=l.length=256/\bL id (kd l) (sz l)=true/\page id (kd l) (aY l)=l
def nD(id:Int)(l:List Int):Prop:=l.length=256/\low (aJ l 4 4)=id/\bL id (kd l) (sz l)=true/\low (aJ l 0 4)=(crc (l.drop 4):Int)/\ed id (kd l) (sz l)=aJ l 4 12/\iP (l.drop (16+(sz l).toNat))=true
theorem nE{l}(h:IsB l)(i m):IsB (aJ l i m):=gR (j0 h i) m
theorem qp{l i m}(h:i+m<=l.length):(aJ l i m).length=m:=by unfold aJ;rw[wR,wi];omega
theorem qq{l}(h:IsB l):0<=sz l:=(gX (nE h 10 2)).1
theorem qr(l i m):l.drop i=aJ l i m++l.drop (i+m):=by
 unfold aJ;rw[<-w7];exact(A5 m (l.drop i)).symm
theorem A9{id l}(j:IsB l):cC id l↔nD id l:=by
 have E:=qq j;constructor
 ·rintro⟨k,b,w⟩;have v:=ja b;have a:(aY l).length=(sz l).toNat:=qp uA;have c:((aY l).length:Int)=sz l:=by rw[a];omega
  obtain⟨s,B,C,n,D⟩:=C3 b;generalize d:fg id (kd l) (aY l)=R;have z:R.length=252:=by rw[<-d];exact tB uA
  have o:IsB R:=by rw[<-d];exact pI (by rw[c];exact b) (nE j 16 _)
  have e0:l=num (crc R) 4++R:=by rw[<-d];exact w.symm
  have i:l.drop 4=R:=by
   have:(num (crc R) 4++R).drop 4=R:=by rw[List.drop_append_of_le_length (by simp[ew])];simp[List.drop_of_length_le,ew]
   rw[<-e0]at this;exact this
  have y:aJ l 0 4=num (crc R) 4:=by
   have:(num (crc R) 4++R).take 4=num (crc R) 4:=by rw[y0 (by simp[ew])];simp[List.take_of_length_le,ew]
   rw[<-e0]at this;simpa [aJ]using this
  have e:R=ed id (kd l) (sz l)++(aY l++List.replicate (240-(aY l).length) 0):=by rw[<-d];unfold fg;rw[c,wv]
  have g:aJ l 4 12=ed id (kd l) (sz l):=by
   unfold aJ;rw[i,e,y0 (by simp[mR])];exact w5 (by simp[mR])
  have r:aJ l 4 4=num id 4:=by
   have:aJ l 4 4=(aJ l 4 12).take 4:=by unfold aJ;rw[List.take_take];rfl
   rw[this,g];unfold ed;rw[wv,wv,y0 (by simp[ew])];exact w5 (by simp[ew])
  have p:=tu o;refine⟨k,?_,b,?_,g.symm,?_⟩
  ·rw[r];exact pV 4 id s (by have:(256:Int)^4=4294967296:=uB;omega)
  ·rw[y,i];exact pV 4 _ uA (by have:(256:Int)^4=4294967296:=uB;omega)
  ·have m:l.drop (16+(sz l).toNat)=List.replicate (240-(aY l).length) 0:=by
    have t:l.drop (16+(sz l).toNat)=R.drop (12+(sz l).toNat):=by rw[<-i,w7];congr 1;omega
    rw[t,e,<-wv];rw[show 12+(sz l).toNat=(ed id (kd l) (sz l)++aY l).length by rw[wb,mR,a]];exact List.drop_left
   rw[m];exact CR vo
 ·rintro⟨k,A,b,p,u,x⟩;have v:=ja b;have a:(aY l).length=(sz l).toNat:=qp uA;have c:((aY l).length:Int)=sz l:=by rw[a];omega
  have f:=C3 x;have d:fg id (kd l) (aY l)=l.drop 4:=by
   unfold fg;rw[c,u,wv,qr l 4 12,show 4+12=16 from rfl,qr l 16 (sz l).toNat];have q:(l.drop (16+(sz l).toNat)).length=240-(aY l).length:=by rw[wi,a];omega
   rw[q]at f;rw[f]
   rfl
  refine⟨k,b,?_⟩;unfold page;rw[d,<-p];have n:(aJ l 0 4).length=4:=qp uA;have:=tO (nE j 0 4);rw[n]at this;rw[this];have:=qr l 0 4;simp only[List.drop_zero,wE]at this;exact this.symm
noncomputable def gl(id:Int)(l:List Int):Bool:= @decide (cC id l) (Classical.propDecidable _)
noncomputable def gN(id:Int)(l:List Int):Int:=match gl id l with|true=>kd l|false=>0
noncomputable def dj(id:Int)(l:List Int):List Int:=match gl id l with|true=>aY l|false=>[]
theorem nF{id l}(h:cC id l):gl id l=true:= @decide_eq_true _ (Classical.propDecidable _) h
theorem jw{id l}(h:¬cC id l):gl id l=false:= @decide_eq_false _ (Classical.propDecidable _) h
theorem un{id l}(h:cC id l):gN id l=kd l:=by unfold gN;rw[nF h]
theorem lX{id l}(h:¬cC id l):gN id l=0:=by unfold gN;rw[jw h]
theorem lY{id l}(h:cC id l):dj id l=aY l:=by unfold dj;rw[nF h]
theorem jx{id l}(h:¬cC id l):dj id l=[]:=by unfold dj;rw[jw h]
theorem kh{B w w'}(h:Below B w.drew w'):Below B w w':=⟨h.os,h.tape,h.output,h.size,h.block⟩
theorem Ba(id a n c l w)(h:Bs w a n c l)(i:n≠256):
 Calls prog 139 #[.int .i64 id,.slice a n c] w fun e w'=> ∃d f,e= .returned (.tuple #[.int .i64 0,.slice d 0 f,.bool false])/\Below w.1.size w w'/\Own w.1.size w' d 0 f []:=by
 have g:=wg h.le h.le';unfold maxLen at g;have j:((n:Int) !=256)=true:=by simp;omega
 have b:Hid _:=eI w [] 0 rfl uA w.1.size t6;clear h i;go_enter func139,ntmps139;go_wp2;refine B3 (v:= .tuple #[.int .i64 0,.slice (some ⟨w.1.size,0,none⟩) 0 0,.bool false]) (by simp[results,results139,go_sem]) rfl ?_;exact⟨_,_,rfl,bAl _ _,b.out⟩
theorem Bb(id b g f l w)(h:Bs w (some ⟨b,g,none⟩) 256 f l):
 Calls prog 139 #[.int .i64 id,.slice (some ⟨b,g,none⟩) 256 f] w fun e w'=> ∃ak an,e= .returned (.tuple #[.int .i64 (gN id l),.slice ak (dj id l).length an,.bool (gl id l)])/\Below w.1.size w w'/\Own w.1.size w' ak (dj id l).length an (dj id l):=by
 have bb:256<=f:=h.le;have L:f<=maxLen:=h.le';have aB:=h.len_eq;have ag:Hid (Bs w (some ⟨b,g+10,none⟩) 2 (f-10) (aJ l 10 2)):=h.piece 10 2 uA _ uA uA;have aS:=qq h.byte;have G:=fun a n c v ba i=>lQ a n c (aJ l 10 2) v ba i;obtain⟨N,Z⟩:=x2 aS;have T:Hid (sz l=(N:Int)):=Z;have P:low (aJ l 10 2)=(N:Int):=Z;rw[P]at G;have ac:Hid _:=G;obtain⟨bz,bd,e,Q,aA⟩:=h.at_ uA;cases e;have X:=aA 8 uA;have bk:=h.byte 8;have O:Hid (l.getD 8 0=kd l):=rfl;have y:Hid (N<=240->Bs w (some ⟨b,g+16,none⟩) N (f-16) (aY l)):=fun i=>by
  have:=h.piece 16 N uA (f-16) uA uA;have e:aY l=(l.drop 16).take N:=by unfold aY aJ;rw[T.out];simp
  rw[e];exact this
 have a3:Hid _:=h;have x:=(B2 w.1.size w).alloc t6 (.cells #[] 5);have ad:Hid (Own w.1.size (w.alloc (.cells #[] 5)) (some ⟨w.1.size,0,none⟩) 0 0 []):=eI w [] 0 rfl uA w.1.size t6;have bB:(w.alloc (.cells #[] 5)).cell? ⟨b,g+8,none⟩=some (.int .u8 (l.getD 8 0)):=by rw[x.cell (p:=⟨b,g+8,none⟩) Q];exact X
 have U:Hid (∀v,Below w.1.size w v->v.cell? ⟨b,g+8,none⟩=some (.int .u8 (l.getD 8 0))):=fun v a7=>by rw[a7.cell (p:=⟨b,g+8,none⟩) Q];exact X
 unfold maxLen at L;generalize l.getD 8 0=k at*;have bl:IntKind.i64.wrap k=k:=by simp[IntKind.wrap,IntKind.bits,IntKind.signed];omega
 have bE:(12:Int)<=(f:Int):=uA;have bs:¬f=10:=uA;have bu:¬f=16:=uA;clear G Z P aS aA h X;go_enter func139,ntmps139;go_wp2_with fail;refine(ac.out _ _ _ _ (ag.out.below x) uA).mono ?_;rintro e w' ⟨rfl,rfl⟩;by_cases i:N<=240
 case neg=>
  have d:¬cC id l:=fun D=>by have:=ja D.2.1;rw[T.out]at this;omega
  have s:Hid _:=lX d;have J:Hid _:=jx d;have r:Hid _:=jw d;have bc:(240:Int)< (N:Int):=uA;clear d i;go_wp2;refine B3 (v:= .tuple #[.int .i64 0,.slice (some ⟨w.1.size,0,none⟩) 0 0,.bool false]) (by simp[results,results139,go_sem]) rfl ?_;rw[s.out,J.out,r.out];exact⟨_,_,rfl,x,ad.out⟩
 have bc:¬(240:Int)< (N:Int):=uA;obtain⟨M,bC⟩:=aa (16+N);have bg:IntKind.i64.wrap (16+(N:Int))=(M:Int):=by simp[IntKind.wrap,IntKind.bits,IntKind.signed];omega
 have bm:(16:Int)<=(M:Int):=uA;have bn:(M:Int)<=(f:Int):=uA;have br:M-16=N:=uA;go_wp2_with fail;generalize ap:w.alloc (.cells #[] 5)=bv at*;clear ap;go_region_with (first|(go_at_call 127;refine(zx id k _ _ _ (aY l) _ ?_ ?_).mono ?_;exact(y.out i).below x.drew;omega;rintro e bF ⟨bx,bA,rfl,o,H⟩;simp only[EB]at o H;replace o:=kh o;have B:=x.trans (o.mono x.size)))
 all_goals
  have R:((aY l).length:Int)=(N:Int):=by have:=(y.out i).len_eq;omega
  have E:cC id l↔bL id k (N:Int)=true/\gd id k (aY l)=l:=by
   unfold cC;rw[T.out,<-O.out];constructor
   ·rintro⟨_,C,K⟩;exact⟨C,by rw[pJ (by rw[R];exact C)];exact K⟩
   ·rintro⟨C,K⟩;exact⟨aB,C,by rw[pJ (by rw[R];exact C)]at K;exact K⟩
  have S:Hid _:=E;have aT:IsB (gd id k (aY l)):=zv (y.out i).byte;have A:=U.out _ B;have q:=ad.out.below (o);generalize gd id k (aY l)=J at*;clear E;cases F:bL id k (N:Int)with
  |false=>
   have d:¬cC id l:=fun D=>by have:=(S.out.1 D).1;rw[F]at this;cases this
   have s:Hid _:=lX d;have m:Hid _:=jx d;have r:Hid _:=jw d;have a0:Hid _:=B;have ae:Hid _:=q;clear d F o H A q;go_wp2;refine B3 (v:= .tuple #[.int .i64 0,.slice (some ⟨w.1.size,0,none⟩) 0 0,.bool false]) (by simp[results,results139,go_sem]) rfl ?_;rw[s.out,m.out,r.out];exact⟨_,_,rfl,a0.out,ae.out⟩
  |true=>
   go_wp2_with fail;refine(Aw _ _ _ _ _ _ J l _ (H.bs aT) (a3.out.below B)).mono ?_;rintro e aX ⟨rfl,am⟩;have t:=B.trans (am.mono B.size);have I:=q.below am;have a9:=U.out _ t;by_cases u:J=l
   ·rw[CR u];have j:cC id l:=S.out.2 ⟨F,u⟩;have s:Hid _:=un j;have m:Hid _:=lY j;have r:Hid _:=nF j;clear j F o H A q u I;go_wp2_with fail;go_region_with (first|(go_at_call 78;(try rw[show(16+(N:Int)).toNat-16=N from by omega]);refine(jV _ _ _ (aY l) _ ?_ ?_).mono ?_;exact(y.out i).below t.drew;omega;rintro e bf ⟨V,W,rfl,z,ab⟩;simp only[EB]at z ab;replace z:=kh z;have Y:=t.trans (z.mono t.size);have a8:=U.out _ Y))
    all_goals
     have a4:Hid ((aY l).length=N):=by have:=(y.out i).len_eq;exact this
     have a2:Hid _:=Y;have a5:Hid (Own aX.1.size bf V N W (aY l)):=ab;have a6:Hid (w.1.size<=aX.1.size):=t.size;clear Y ab z a8;go_wp2;refine B3 (v:= .tuple #[.int .i64 k,.slice V N W,.bool true]) (by simp[results,results139,go_sem]) rfl ?_;rw[s.out,m.out,r.out,<-O.out,a4.out];exact⟨V,W,rfl,a2.out,a5.out.mono a6.out⟩
   ·rw[CP u];have d:¬cC id l:=fun D=>u (S.out.1 D).2;have s:Hid _:=lX d;have m:Hid _:=jx d;have r:Hid _:=jw d;have a1:Hid _:=t;have af:Hid _:=I;clear d F o H A q u t I;go_wp2;refine B3 (v:= .tuple #[.int .i64 0,.slice (some ⟨w.1.size,0,none⟩) 0 0,.bool false]) (by simp[results,results139,go_sem]) rfl ?_;rw[s.out,m.out,r.out];exact⟨_,_,rfl,a1.out,af.out⟩
theorem Bc{id l}(h:IsB l):IsB (dj id l):=by
 by_cases a:cC id l
 ·rw[lY a];exact nE h 16 _
 ·rw[jx a];exact eX
theorem Bd(id l):(dj id l).length<=l.length:=by
 by_cases a:cC id l
 ·rw[lY a];unfold aY aJ;rw[wR,wi];omega
 ·rw[jx a];simp
theorem Be(id a n c l w)(h:Bs w a n c l):
 Calls prog 139 #[.int .i64 id,.slice a n c] w fun e w'=> ∃g i,e= .returned (.tuple #[.int .i64 (gN id l),.slice g (dj id l).length i,.bool (gl id l)])/\Below w.1.size w w'/\Own w.1.size w' g (dj id l).length i (dj id l):=by
 by_cases f:n=256
 ·subst f;obtain⟨b,j,rfl,_⟩:=h.at_ uA;exact Bb id b j c l w h
 ·have d:¬cC id l:=fun d=>f (by rw[<-h.len_eq];exact d.1);rw[lX d,jx d,jw d];exact Ba id a n c l w h f
def nb(s:ByteArray):List Int:=s.data.toList.map fun b=>(b.toNat:Int)
theorem up(s):(nb s).length=s.size:=by
 rw[nb,y2,Array.length_toList]
 rfl
theorem ur(s j):(nb s).getD j 0=((s.data.toList.getD j 0).toNat:Int):=by
 unfold nb;by_cases h:j<s.data.toList.length
 ·simp only[yc,zP,wS h]
  rfl
 ·simp only[yc,zP,x8 (Nat.not_lt.1 h)]
  rfl
theorem ut(s):IsB (nb s):=fun i=>by
 rw[ur];have:=(s.data.toList.getD i 0).toNat_lt;omega
theorem Bf(s w):(convert 9 56 (.string s)).run prog w= .ok (.slice (some ⟨w.1.size,0,none⟩) s.size (grownCap w s.size 0 5)) (Go.Lib.bytesWorld w 5 s):=
 Go.Lib.run_convert_string_bytes w _ _ 5 s D7 underlying56 D0
theorem iw(s w):Below w.1.size w (Go.Lib.bytesWorld w 5 s):=
 ⟨rfl,rfl,rfl,by rw[Go.Lib.bytesWorld_size];omega,fun k a=>Go.Lib.bytesWorld_at_old w _ s k a⟩
theorem Bg(s w):(Go.Lib.bytesWorld w 5 s).1.size=w.1.size+1:=Go.Lib.bytesWorld_size w _ s
theorem ix(s w)(h:s.size<=1048576):Bs (Go.Lib.bytesWorld w 5 s) (some ⟨w.1.size,0,none⟩) s.size (grownCap w s.size 0 5) (nb s):=
 ⟨up s,grownCap_ge _ _ _ _,grownCap_le_maxLen _ _ _ _ (by unfold maxLen;omega),fun e=>(by cases e),fun _=>⟨w.1.size,0,rfl,by rw[Bg];omega,fun i a=>by
  rw[show 0+i=i by omega,Go.Lib.bytesWorld_cell w _ s i a,ur]⟩,ut s⟩
theorem nG(a n c l w)(h:Bs w a n c l)(F:n<=7):
 Calls prog 108 #[.slice a n c] w fun e w'=>e= .returned (.int .i64 (low l))/\w'=w:=by
 have f:Hid (∀k,0<k->0<=low (l.drop k)/\low (l.drop k)<=281474976710656):=fun k E=>by
  have p:=gX (j0 h.byte k);have q:(l.drop k).length<=6:=by rw[wi,h.len_eq];omega
  have C:=nl _ q;exact⟨p.1,uA⟩
 have g:Hid (low (l.drop n)=0):=by
  have:l.drop n=[]:=by rw[zW,h.len_eq];exact t6
  show low (l.drop n)=0;rw[this];rfl
 go_enter func108,ntmps108;go_wp2
 go_loop [3,4] (fun v i=> ∃j:Nat,j<=n/\i= .int .i64 ((j:Int)-1)/\v= .int .i64 (low (l.drop j))) (fun _ i=>(intOf i+1).toNat)
 case atStart=>exact⟨n,t6,rfl,by rw[g.out]⟩
 case round=>
  obtain⟨j,D,rfl,rfl⟩:=hrel;by_cases B:0<j
  ·obtain⟨b,A,rfl,t,d⟩:=h.at_ uA;obtain⟨i,rfl⟩:∃i,j=i+1:=⟨j-1,uA⟩;have u:=d i uA;have s:=h.byte i;have m:Hid _:=mZ l i (by rw[h.len_eq];omega);have r:=f.out (i+1) uA;have o:((i+1:Nat):Int)-1=(i:Int):=uA;rw[o];have x:(0:Int)<=(i:Int):=uA;have z:(i:Int)< (n:Int):=uA;generalize low (l.drop (i+1))=G at*;generalize l.getD i 0=y at*;clear d h;go_wp2
   go_round
   case rel=>exact⟨i,uA,by go_num,by rw[m.out];congr 1;omega⟩
   case measure=>simp[intOf]
  ·have e:j=0:=uA;subst e;go_wp2;go_ret;exact⟨rfl,rfl⟩
theorem Bh(a b:Nat)(c:a<281474976710657)(d:b<256):bits .or .i64 ((a:Int)*256) (b:Int)=(a:Int)*256+b:=by
 rw[show(a:Int)*256=((a*256:Nat):Int)by omega,show((a*256:Nat):Int)+(b:Int)=((a*256+b:Nat):Int)by omega];have e:a*256|||b=a*256+b:=by
  have:=Nat.shiftLeft_add_eq_or_of_lt (i:=8) (b:=b) uA a;rw[Nat.shiftLeft_eq]at this;exact this.symm
 show IntKind.i64.wrap ((BitVec.ofInt 64 ((a*256:Nat):Int)|||BitVec.ofInt 64 (b:Int)).toNat:Int)= _;rw[BitVec.toNat_or,ofInt_u64 (a*256) uA,ofInt_u64 b uA,e];simp[IntKind.wrap,IntKind.bits,IntKind.signed];omega
theorem Bi(x y:Nat)(hx:x<72057594037927936)(c:y<256):bits .or .i64 (IntKind.i64.wrap ((x:Int)*256)) (y:Int)=IntKind.i64.wrap ((x:Int)*256+y):=by
 have e:x*256|||y=x*256+y:=by
  have:=Nat.shiftLeft_add_eq_or_of_lt (i:=8) (b:=y) uA x;rw[Nat.shiftLeft_eq]at this;exact this.symm
 have a:(BitVec.ofInt 64 (IntKind.i64.wrap ((x:Int)*256))).toNat=x*256:=by
  simp[IntKind.wrap,IntKind.bits,IntKind.signed,BitVec.toNat_ofInt];omega
 show IntKind.i64.wrap ((BitVec.ofInt 64 (IntKind.i64.wrap ((x:Int)*256))|||BitVec.ofInt 64 (y:Int)).toNat:Int)= _;rw[BitVec.toNat_or,a,ofInt_u64 y uA,e];congr 1
theorem Bj(a):IntKind.i64.wrap a=wrap64 a:=by
 unfold wrap64;simp[IntKind.wrap,IntKind.bits,IntKind.signed];omega
def iy(l:List Int):Int:=IntKind.i64.wrap (low (l.drop 1)*256+l.getD 0 0)
theorem Bk{l}(a:IsB l)(v:l.length=8):(l.getD 7 0=0->iy l=low (l.take 7))/\(l.getD 7 0≠0->iy l<1\/1000000000000<iy l):=by
 obtain⟨b,c,d,f,g,i,j,k,rfl⟩:∃b c d f g i j k,l=[b,c,d,f,g,i,j,k]:=by
  match l,v with
  |[b,c,d,f,g,i,j,k],_=>exact⟨b,c,d,f,g,i,j,k,rfl⟩
 have n:=a 0;have o:=a 1;have p:=a 2;have q:=a 3;have r:=a 4;have s:=a 5;have t:=a 6;have u:=a 7;simp at n o p q r s t u;have e:iy [b,c,d,f,g,i,j,k]=IntKind.i64.wrap ((c+256*(d+256*(f+256*(g+256*(i+256*(j+256*k))))))*256+b):=by simp[iy,low]
 rw[e];constructor
 ·intro m;simp at m;subst m;simp[low,IntKind.wrap,IntKind.bits,IntKind.signed];omega
 ·intro m;simp at m;simp[IntKind.wrap,IntKind.bits,IntKind.signed];omega
theorem Bl(m)(h:m<=7):(256:Int)^m<=72057594037927936:=by
 have k:∀m:Fin 8,(256:Int)^(m:Nat)<=72057594037927936:=uB;exact k ⟨m,uA⟩
theorem Bm(a c l w)(h:Bs w a 8 c l):
 Calls prog 121 #[.slice a 8 c] w fun e w'=>e= .returned (.int .i64 (iy l))/\w'=w:=by
 have z:Hid (∀k,0<k->0<=low (l.drop k)/\low (l.drop k)<72057594037927936):=fun k G=>by
  have t:=gX (j0 h.byte k);have q:(l.drop k).length<=7:=by rw[wi,h.len_eq];omega
  have F:=Bl _ q;exact⟨t.1,uA⟩
 have f:Hid (∀k,1<k->low (l.drop k)<281474976710656+1):=fun k G=>by
  have t:=gX (j0 h.byte k);have q:(l.drop k).length<=6:=by rw[wi,h.len_eq];omega
  have F:=nl _ q;omega
 have A:Hid (low (l.drop 8)=0):=by
  have:l.drop 8=[]:=by rw[zW,h.len_eq];exact t6
  show low (l.drop 8)=0;rw[this];rfl
 obtain⟨b,L,rfl,I,r⟩:=h.at_ uA;go_enter func121,ntmps121;go_wp2
 go_loop [3,4] (fun v i=> ∃j:Nat,j<=8/\i= .int .i64 ((j:Int)-1)/\(0<j->v= .int .i64 (low (l.drop j)))/\(j=0->v= .int .i64 (iy l))) (fun _ i=>(intOf i+1).toNat)
 case atStart=>exact⟨8,t6,rfl,fun _=>by rw[A.out],fun h=>by omega⟩
 case round=>
  obtain⟨j,N,rfl,s,g⟩:=hrel;by_cases E:0<j
  ·obtain rfl:=s E;obtain⟨i,rfl⟩:∃i,j=i+1:=⟨j-1,uA⟩;have u:=r i uA;have n:=h.byte i;have B:Hid _:=mZ l i (by rw[h.len_eq];omega);have m:=z.out (i+1) uA;have D:((i+1:Nat):Int)-1=(i:Int):=uA;rw[D];have J:(0:Int)<=(i:Int):=uA;have K:(i:Int)<8:=uA;by_cases o:i=0
   ·subst o;have C:Hid (iy l=IntKind.i64.wrap (low (l.drop 1)*256+l.getD 0 0)):=rfl;generalize low (l.drop (0+1))=M at*;generalize l.getD 0 0=y at*;obtain⟨x,rfl⟩:=x2 m.1;obtain⟨y,rfl⟩:=x2 n.1;have d:=Bi x y uA uA;rw[Bj ((x:Int)*256)]at d;have p:Hid _:=d;simp only[w9]at u;clear r h d s g f;go_wp2
    go_round
    case rel=>exact⟨0,uA,by go_num,fun h=>by omega,fun _=>by rw[C.out,p.out]⟩
    case measure=>simp[intOf]
   ·have H:=f.out (i+1) uA;generalize low (l.drop (i+1))=M at*;generalize l.getD i 0=y at*;obtain⟨x,rfl⟩:=x2 m.1;obtain⟨y,rfl⟩:=x2 n.1;have d:=Bh x y uA uA;clear r h;have p:Hid _:=d;clear d s g f;go_wp2
    go_round
    case rel=>exact⟨i,uA,by go_num,fun _=>by rw[B.out,p.out];congr 1;omega,fun h=>absurd h o⟩
    case measure=>simp[intOf]
  ·have e:j=0:=uA;subst e;obtain rfl:=g rfl;go_wp2;go_ret;exact⟨rfl,rfl⟩
def qt:List PanicEntry:=[{v:= .iface 221 (.agg #[]),recovered:=true}]
theorem Bo(v x w):(Instr.typeAssert (.iface 221 v) x 221 true).run prog w= .ok (.tuple #[v,.bool true]) w:=by
 simp[Instr.typeAssert,run_underlying underlying221 w]
theorem Bp(w):
 CallsD prog 143 #[] (.panicking bI) w fun e c w'=>e= .returned (.tuple #[])/\c= .panicking qt/\Below w.1.size w w':=by
 have d:=Bo (.agg #[]);refine callsD_of_wpS func143 rfl fun f cs b=> ?_;apply wpS_seq;apply wpS_region;simp[wpOpsS,go_sem,recoverD,b,ntmps143,Exit.thenS,bI];simp only[show Array.replicate 14 undef=#[undef,undef,undef,undef,undef,undef,undef,undef,undef,undef,undef,undef,undef,undef]from rfl,Bn,z7,BS];refine wpS_of_wp ?_;go_wp2;have a:=bAl w (.cells #[] 221);simp[bodyPostS,results,results143,qt];exact a
theorem Bq(w):
 CallsD prog 143 #[] .returning w fun e c w'=>e= .returned (.tuple #[])/\c= .returning/\w'=w:=by
 refine callsD_of_wpS func143 rfl fun a cs b=> ?_;apply wpS_seq;apply wpS_region;simp[wpOpsS,go_sem,recoverD,b,ntmps143,Exit.thenS];simp only[show Array.replicate 14 undef=#[undef,undef,undef,undef,undef,undef,undef,undef,undef,undef,undef,undef,undef,undef]from rfl,Bn,z7,BS];refine wpS_of_wp ?_;go_wp2;cases a
 simp_all [bodyPostS,results,results143]
theorem Br(f a w)(R:World->Prop)(c:∀w,(callFunc f a).run prog w= .ok (.enter f a) w)(h:Calls prog f a w fun e w'=>e= .returned (.tuple #[])/\R w'):
 Calls prog 112 #[.func (.func f) #[] a] w fun e w'=>e= .returned (.bool true)/\R w':=by
 go_enter_defers func112,ntmps112
 go_wp2_with fail;refine CC h ?_;rintro e w1 ⟨rfl,b⟩;go_wp2;refine leaves_cons (f:=143) (args:=#[]) vo (by simp[go_sem]) ?_;refine(Bq w1).mono ?_;rintro e d g ⟨rfl,rfl,rfl⟩;simp[Leaves,settle,results,results112,go_sem];exact b
theorem Bt(f a w)(R:World->Prop)(d:∀w,(callFunc f a).run prog w= .ok (.enter f a) w)(h:Calls prog f a w fun e w'=>e= .panicked bI/\R w'):
 Calls prog 112 #[.func (.func f) #[] a] w fun e w'=>e= .returned (.bool false)/\∃w1,R w1/\Below w1.1.size w1 w':=by
 go_enter_defers func112,ntmps112
 go_wp2_with fail;refine CC h ?_;rintro e w1 ⟨rfl,b⟩;go_wp2;refine leaves_cons (f:=143) (args:=#[]) vo (by simp[go_sem]) ?_;refine(Bp w1).mono ?_;rintro e g i ⟨rfl,rfl,c⟩;simp[Leaves,settle,results,results112,go_sem,qt];exact⟨w1,b,c⟩
def lZ(K:DK)(t:Int)(n:Nat):Bool:=decide (0<=t/\t<K.n/\n=64)
theorem qu(c b d pc)(K:DK)(t w)(j:K.n<=4096):
 Calls prog 119 #[.agg #[.slice c K.n d,.slice b K.m pc],.int .i64 t] w fun e w'=>e= .returned (.bool (decide (0<=t/\t<K.n)))/\Below w.1.size w w':=by
 have a:Hid _:=(B2 w.1.size w).alloc t6 (.cells #[.slice c K.n d,.slice b K.m pc] 35);by_cases g:0<=t
 ·by_cases i:t< (K.n:Int)
  ·rw[show decide (0<=t/\t< (K.n:Int))=true from CR ⟨g,i⟩];go_enter func119,ntmps119;go_wp2;go_ret;exact⟨rfl,a.out⟩
  ·rw[show decide (0<=t/\t< (K.n:Int))=false from CP uA];have f:decide (t< (K.n:Int))=false:=by simp;omega
   go_enter func119,ntmps119;go_wp2;go_ret;exact⟨rfl,a.out⟩
 ·rw[show decide (0<=t/\t< (K.n:Int))=false from CP uA];have f:decide (0<=t)=false:=by simp;omega
  go_enter func119,ntmps119;go_wp2;go_ret;exact⟨rfl,a.out⟩
theorem Bu(j i k pc K t a n c w)(p:n<=maxLen)(o:K.n<=4096):
 Calls prog 81 #[.agg #[.slice j K.n k,.slice i K.m pc],.int .i64 t,.slice a n c] w fun e w'=>e= .returned (.bool (lZ K t n))/\Below w.1.size w w':=by
 unfold maxLen at p;have q:=(B2 w.1.size w).alloc t6 (.cells #[.slice j K.n k,.slice i K.m pc] 35);have d:Hid _:=q;clear q;by_cases b:0<=t/\t< (K.n:Int)
 ·have l:Hid (decide (0<=t/\t< (K.n:Int))=true):=CR b;by_cases m:n=64
  ·rw[show lZ K t n=true from CR ⟨b.1,b.2,m⟩];have r:((n:Int)==64)=true:=by simp;omega
   clear b m;go_enter func81,ntmps81;go_wp2_with fail;refine(qu j i k pc K t _ o).mono ?_;rw[l.out];rintro e w1 ⟨rfl,f⟩;have g:=d.out.trans (f.mono d.out.size);go_wp2;go_ret;exact⟨rfl,g⟩
  ·rw[show lZ K t n=false from CP (fun h=>m h.2.2)];have r:((n:Int)==64)=false:=by simp;omega
   clear b m;go_enter func81,ntmps81;go_wp2_with fail;refine(qu j i k pc K t _ o).mono ?_;rw[l.out];rintro e w1 ⟨rfl,f⟩;have g:=d.out.trans (f.mono d.out.size);go_wp2;go_ret;exact⟨rfl,g⟩
 ·have l:Hid (decide (0<=t/\t< (K.n:Int))=false):=CP b;rw[show lZ K t n=false from CP (fun h=>b ⟨h.1,h.2.1⟩)];clear b;go_enter func81,ntmps81;go_wp2_with fail;refine(qu j i k pc K t _ o).mono ?_;rw[l.out];rintro e w1 ⟨rfl,f⟩;have g:=d.out.trans (f.mono d.out.size);go_wp2;go_ret;exact⟨rfl,g⟩
theorem uu(y u r pc an T x ap F U K w)(t:RRecs 0 w y K.n r zI an x ap K.S)(s:RRecs 1 w u K.m pc (aI K) T F U K.D):
 Calls prog 41 #[.agg #[.slice y K.n r,.slice u K.m pc]] w fun e w'=>e= .returned (.bool (aR K))/\Below w.1.size w w':=by
 have ak:=wg t.le t.le';have ag:=wg s.le s.le';unfold maxLen at ak ag;have v:=(B2 w.1.size w).alloc t6 (.cells #[.slice y K.n r,.slice u K.m pc] 35);have n:Hid _:=v;have m:Hid (∀(_:¬dOk K),aR K=false):=gk;have ab:Hid (∀(_:dOk K),aR K=true):=fj;by_cases ba:(K.n:Int)<1
 ·have d:Hid (aR K=false):=m.out (fun a=>by have:=a.1;omega);clear v;go_enter func41,ntmps41;go_wp2;go_ret;exact⟨by rw[d.out];rfl,n.out⟩
 ·by_cases bb:(4096:Int)< (K.n:Int)
  ·have d:Hid (aR K=false):=m.out (fun a=>by have:=a.1;omega);clear v;go_enter func41,ntmps41;go_wp2;go_ret;exact⟨by rw[d.out];rfl,n.out⟩
  ·by_cases bc:(5000:Int)< (K.m:Int)
   ·have d:Hid (aR K=false):=m.out (fun a=>by have:=a.1;omega);clear v;go_enter func41,ntmps41;go_wp2;go_ret;exact⟨by rw[d.out];rfl,n.out⟩
   ·have V:=t.below v;have S:=s.below v;clear v;have O:=fun i c=>(t.data i c).len_eq;have M:=fun i c=>(s.data i c).len_eq;have N:=fun i c=>wg (s.data i c).le (s.data i c).le';have P:=fun i c=>wg (t.data i c).le (t.data i c).le';have J:Hid _:=O;have I:Hid _:=M;have Y:Hid _:=N;have Z:Hid _:=P;clear O M N P t s;have a5:decide ((K.n:Int)<1)=false:=by simp;omega
    have a6:decide ((4096:Int)< (K.n:Int))=false:=by simp;omega
    have a7:decide ((5000:Int)< (K.m:Int))=false:=by simp;omega
    have a8:((K.n:Int))<=4096:=uA;have a9:((K.m:Int))<=5000:=uA;go_enter func41,ntmps41;go_wp2
    go_loop [4,26] (fun _ i=> ∃j:Nat,j<=K.n/\i= .int .i64 j/\∀k,k<j->x k=64) (fun _ i=>K.n-(intOf i).toNat)
    case atStart=>exact⟨0,wa _,rfl,fun k a=>absurd a uA⟩
    case round=>
     obtain⟨j,bf,rfl,E⟩:=hrel;have C:Hid _:=E;clear E;by_cases A:j<K.n
     ·obtain⟨b,g,rfl,ad,B⟩:=V.at_ uA;have k0:(w.alloc (.cells #[.slice (some ⟨b,g,none⟩) K.n r,.slice u K.m pc] 35)).cell? ⟨b,g+j,none⟩=some (.slice (an j) (x j) (ap j)):=by have:=(B j A).2;simpa using this
      have R:=Z.out j A;unfold maxLen at R;have ae:(0:Int)<=(j:Int):=uA;have af:(j:Int)< (K.n:Int):=uA;clear B V S;by_cases z:x j=64
      ·have l:((x j:Int) !=64)=false:=by simp;omega
       have W:Hid (x j=64):=z;clear z;go_wp2
       go_round
       case rel=>
        refine⟨j+1,uA,by go_num,fun k a=> ?_⟩;by_cases e:k=j
        ·subst e;exact W.out
        ·exact C.out k uA
       case measure=>simp[intOf];omega
      ·have l:((x j:Int) !=64)=true:=by simp;omega
       have d:Hid (aR K=false):=m.out (fun a=>z (by rw[<-J.out j A];exact a.2.1 j A));clear z;go_wp2;go_ret;exact⟨by rw[d.out];rfl,n.out⟩
     ·have e:j=K.n:=uA;have aT:Hid (j=K.n):=e;clear e V;have bd:decide ((j:Int)< (K.n:Int))=false:=by simp;omega
      go_wp2;go_loopw [6,37] (fun _ i wr=> ∃q:Nat,q<=K.m/\i= .int .i64 q/\Below (w.alloc (.cells #[.slice y K.n r,.slice u K.m pc] 35)).1.size (w.alloc (.cells #[.slice y K.n r,.slice u K.m pc] 35)) wr/\∀k,k<q->0<=K.At k/\K.At k<K.n/\F k=64) (fun _ i _=>K.m-(intOf i).toNat)
      case atStart=>exact⟨0,wa _,rfl,t7,fun k a=>absurd a uA⟩
      case round=>
       obtain⟨q,bg,rfl,l,L⟩:=hrel;have H:Hid _:=L;clear L;have a0:wr.cell? ⟨w.1.size,0,none⟩=some (.slice y K.n r):=by rw[l.cell (p:=⟨w.1.size,0,none⟩) vo];simp
       have a1:wr.cell? ⟨w.1.size,1,none⟩=some (.slice u K.m pc):=by rw[l.cell (p:=⟨w.1.size,1,none⟩) vo];simp
       have bk:w.1.size<wr.1.size:=by have:=l.size;simp at this;omega
       have aS:Hid (Below w.1.size w wr):=n.out.trans (l.mono n.out.size);have Q:Hid _:=l;have am:=S.below l;clear l;by_cases f:q<K.m
       ·obtain⟨b,g,rfl,ad,B⟩:=am.at_ uA;have k0:wr.cell? ⟨b,g+q*2,none⟩=some (.int .i64 (K.At q)):=(B q f).1 0 uA;have a2:wr.cell? ⟨b,g+q*2+1,none⟩=some (.slice (T q) (F q) (U q)):=(B q f).2;have R:=Y.out q f;have X:Hid _:=I.out q f;have ae:(0:Int)<=(q:Int):=uA;have af:(q:Int)< (K.m:Int):=uA;clear B S am;go_wp2_with fail;refine(Bu y (some ⟨b,g,none⟩) r pc K (K.At q) (T q) (F q) (U q) _ R uA).mono ?_;rintro e a3 ⟨rfl,ac⟩;have D:=(Q.out.alloc Q.out.size _).trans (ac.mono (wg Q.out.size vo));have aB:Hid (Below w.1.size w a3):=n.out.trans (D.mono n.out.size);have aA:Hid _:=D;clear ac D k0 a2 a0 a1;cases G:lZ K (K.At q) (F q)with
        |true=>
         have o:=C3 G;have aX:Hid _:=o;clear G o;go_wp2;go_roundw
         case rel=>
          refine⟨q+1,uA,by go_num,aA.out,fun k a=> ?_⟩;by_cases e:k=q
          ·subst e;exact aX.out
          ·exact H.out k uA
         case measure=>simp[intOf];omega
        |false=>
         have o:=of_decide_eq_false G;have d:Hid (aR K=false):=m.out (fun a=>o (by have:=a.2.2 q f;rw[X.out]at this;exact this));clear G o;go_wp2;go_ret;exact⟨by rw[d.out];rfl,aB.out⟩
       ·have a4:decide ((q:Int)< (K.m:Int))=false:=by simp;omega
        have d:Hid (aR K=true):=ab.out ⟨⟨uA,uA,uA⟩,fun i c=>by rw[J.out i c];exact C.out i (by have:=aT.out;omega),fun i c=>by have:=H.out i uA;rw[I.out i c];exact this⟩;go_wp2;go_ret;exact⟨by rw[d.out];rfl,aS.out⟩
theorem uw(d K w)(h:RDisk w d K):
 Calls prog 41 #[av d K] w fun e w'=>e= .returned (.bool (aR K))/\Below w.1.size w w':=uu d.sa d.pa d.sc d.pc d.sA d.pA d.sN d.sC d.pN d.pC K w h.safe h.pend
theorem qv:Keyed prog 3:=int_keyed C4
theorem ux(w):(zeroValue 3).run prog w= .ok (.int .i64 0) w:=vk
def dz(At:Nat->Int):Nat->DataW Unit
 |0=> .map []
 |j+1=>(dz At j).put (.int .i64 (At j)) (.lit (.int .i64 (j:Int)))
theorem qw(At):∀j,IsMap (dz At j)
 |0=>⟨[],rfl⟩
 |j+1=>(qw At j).put _ _
theorem uy(At t):∀j,Maps.has (dz At j) (.int .i64 t)=(dJ At t j).isSome
 |0=>rfl
 |j+1=>by
  show Maps.has ((dz At j).put _ _) _= _;by_cases e:At j=t
  ·subst e;rw[has_put_same (qw At j) (by exact trivial)];simp[dJ]
  ·rw[has_put_other (by intro h;apply e;cases h;rfl),uy At t j];simp[dJ,e]
theorem uz(At t):∀j i,dJ At t j=some i->(dz At j).atKey (.int .i64 t) (.lit (.int .i64 0))= .lit (.int .i64 (i:Int))
 |0,i,h=>by simp[dJ]at h
 |j+1,i,h=>by
  show((dz At j).put _ _).atKey _ _= _;simp only[dJ]at h;by_cases e:At j=t
  ·subst e;rw[B4 rfl]at h;cases h;rw[atKey_put_same (qw At j) (by exact trivial)]
  ·rw[CH e]at h;rw[atKey_put_other (by intro h;apply e;cases h;rfl)];exact uz At t j i h
def rZ:Value:= .agg #[.slice none 0 0,.slice none 0 0,.map none]
theorem uC(d K w)(h:RDisk w d K)(b:¬dOk K):
 Calls prog 71 #[av d K] w fun e w'=>e= .returned (.tuple #[rZ,.bool false])/\Below w.1.size w w':=by
 have c:Hid _:=((B2 w.1.size w).alloc t6 (.cells #[.slice d.sa K.n d.sc,.slice d.pa K.m d.pc] 35)).alloc vo (.cells #[.slice none 0 0,.slice none 0 0,.map none] 122);have f:Hid (aR K=false):=gk b;clear b;unfold av;go_enter func71,ntmps71;go_wp2_with fail;refine(uw d K _ (h.below c.out)).mono ?_;rw[f.out];rintro e w1 ⟨rfl,a⟩;have k0:w1.cell? ⟨w.1.size+1,0,none⟩=some (.slice none 0 0):=by rw[a.cell (p:=⟨w.1.size+1,0,none⟩) vo];simp
 have j:w1.cell? ⟨w.1.size+1,1,none⟩=some (.slice none 0 0):=by rw[a.cell (p:=⟨w.1.size+1,1,none⟩) vo];simp
 have k:w1.cell? ⟨w.1.size+1,2,none⟩=some (.map none):=by rw[a.cell (p:=⟨w.1.size+1,2,none⟩) vo];simp
 have l:w1.frozen? ⟨w.1.size+1,0,none⟩=false:=by rw[a.frozen (p:=⟨w.1.size+1,0,none⟩) vo];simp
 have f1:w1.frozen? ⟨w.1.size+1,1,none⟩=false:=by rw[a.frozen (p:=⟨w.1.size+1,1,none⟩) vo];simp
 have m:w1.frozen? ⟨w.1.size+1,2,none⟩=false:=by rw[a.frozen (p:=⟨w.1.size+1,2,none⟩) vo];simp
 have i:=c.out.trans (a.mono c.out.size);clear a;go_wp2;have g:=((i.setCell (p:=⟨w.1.size+1,0,none⟩) (x0 _) (.slice none 0 0)).setCell (p:=⟨w.1.size+1,1,none⟩) (x0 _) (.slice none 0 0)).setCell (p:=⟨w.1.size+1,2,none⟩) (x0 _) (.map none);exact B3 (v:= .tuple #[rZ,.bool false]) (by simp[results,results71,go_sem,k0,j,k,rZ]) rfl ⟨rfl,g⟩
theorem uD{t}(a:0<=t)(b:t<4096):keyOf prog 3 (.int .i64 t)=some (.int .i64 t):=keyOf_int_mk C4 (WalkArith.wf_i64 uA)
theorem uE(f c l pc ac J ae ad M L K w)(T:RRecs 0 w f K.n l zI ac ae ad K.S)(m:RRecs 1 w c K.m pc (aI K) J M L K.D)(z:dOk K):
 Calls prog 71 #[.agg #[.slice f K.n l,.slice c K.m pc]] w fun e w'=> ∃g,e= .returned (.tuple #[.agg #[.slice f K.n l,.slice c K.m pc,.map (some g)],.bool true])/\Below w.1.size w w'/\w'.ownsMap prog 3 (plainElem prog 3) g K.m (dz K.At K.m):=by
 obtain⟨⟨a1,a2,aX⟩,_,Y⟩:=id z;have a0:= @run_makeMap prog;have E:Hid _:=((B2 w.1.size w).alloc t6 (.cells #[.slice f K.n l,.slice c K.m pc] 35)).alloc vo (.cells #[.slice none 0 0,.slice none 0 0,.map none] 122);have ap:Hid (aR K=true):=fj z;have an:Hid _:=Y;clear Y z;go_enter func71,ntmps71;go_wp2_with fail;refine(uu f c l pc ac J ae ad M L K _ (T.below E.out) (m.below E.out)).mono ?_;rw[ap.out];rintro e w1 ⟨rfl,b⟩;have F:w1.cell? ⟨w.1.size,0,none⟩=some (.slice f K.n l):=by rw[b.cell (p:=⟨w.1.size,0,none⟩) (by simp;omega)];simp
 have s:w1.cell? ⟨w.1.size,1,none⟩=some (.slice c K.m pc):=by rw[b.cell (p:=⟨w.1.size,1,none⟩) (by simp;omega)];simp
 have k0:w1.cell? ⟨w.1.size+1,0,none⟩=some (.slice none 0 0):=by rw[b.cell (p:=⟨w.1.size+1,0,none⟩) vo];simp
 have r:w1.cell? ⟨w.1.size+1,1,none⟩=some (.slice none 0 0):=by rw[b.cell (p:=⟨w.1.size+1,1,none⟩) vo];simp
 have A:w1.cell? ⟨w.1.size+1,2,none⟩=some (.map none):=by rw[b.cell (p:=⟨w.1.size+1,2,none⟩) vo];simp
 have G:w1.frozen? ⟨w.1.size+1,0,none⟩=false:=by rw[b.frozen (p:=⟨w.1.size+1,0,none⟩) vo];simp
 have f1:w1.frozen? ⟨w.1.size+1,1,none⟩=false:=by rw[b.frozen (p:=⟨w.1.size+1,1,none⟩) vo];simp
 have H:w1.frozen? ⟨w.1.size+1,2,none⟩=false:=by rw[b.frozen (p:=⟨w.1.size+1,2,none⟩) vo];simp
 have X:=E.out.trans (b.mono E.out.size);have ag:w.1.size+1<w1.1.size:=by have:=b.size;simp at this;omega
 have W:Hid _:=(vJ (vJ F s) (vJ (vJ k0 (vJ r A)) (vJ G (vJ f1 H))));have C:Hid _:=X;have Z:(w1.alloc (.map #[] 0)).cell? ⟨w.1.size,1,none⟩=some (.slice c K.m pc):=by rw[((B2 w1.1.size w1).alloc t6 _).cell (p:=⟨w.1.size,1,none⟩) (by show w.1.size<_;omega)];exact s
 clear b k0 r A G f1 H X;go_wp2;go_loopw [5,6,15] (fun _ _ i wr=> ∃j:Nat,j<=K.m/\i= .int .i64 j/\Below w1.1.size w1 wr/\wr.ownsMap prog 3 (plainElem prog 3) w1.1.size j (dz K.At j)) (fun _ _ i _=>K.m-(intOf i).toNat)
 case atStart=>exact⟨0,wa _,rfl,bAl _ _,World.ownsMap_made _ _ _ _⟩
 case round=>
  obtain⟨j,a3,rfl,n,I⟩:=hrel;by_cases y:j<K.m
  ·obtain⟨q,d,rfl,u,x⟩:=m.at_ uA;have t:=an.out j y;have D:=C.out.trans (n.mono C.out.size);have k0:wr.cell? ⟨q,d+j*2,none⟩=some (.int .i64 (K.At j)):=by rw[D.cell (p:=⟨q,d+j*2,none⟩) u];exact(x j y).1 0 uA
   have r:wr.cell? ⟨q,d+j*2+1,none⟩=some (.slice (J j) (M j) (L j)):=by rw[D.cell (p:=⟨q,d+j*2+1,none⟩) u];exact(x j y).2
   have S:=uD t.1 (by have:=t.2.1;omega);have aS:(0:Int)<=(j:Int):=uA;have aT:(j:Int)< (K.m:Int):=uA;have Q:Hid _:=n;have R:Hid (wr.ownsMap prog 3 (plainElem prog 3) w1.1.size j (dz K.At j)):=I;clear x m T t n I F s Z;have O:=R.out.alloc (.cells #[.int .i64 (K.At j),.slice (J j) (M j) (L j)] 133);have U:Hid _:=O;clear O;go_wp2_with (first
    |(at_mapUpdate;refine wpList_mapUpdate_own _ rfl _ _ _ 120 rfl 3 3 qv underlying120 (plainElem prog 3) w1.1.size j _ rfl U.out (by unfold maxLen;omega) _ _ _ rfl rfl S (.lit (.int .i64 (j:Int))) [] (plainElem_int C4 (WalkArith.wf_i64 uA)) ?_;intro af P N)
    |go_in)
   have ak:Hid (Below w1.1.size w1 af):=(Q.out.alloc Q.out.size _).grown N (by have:=Q.out.size;simp;omega) (fun k aA=>by cases aA;exact t6);have V:Hid (af.ownsMap prog 3 (plainElem prog 3) w1.1.size (j+1) (dz K.At (j+1))):=P;clear P N;go_roundw
   case rel=>exact⟨j+1,uA,by go_num,ak.out,V.out⟩
   case measure=>simp[intOf];omega
  ·have e:j=K.m:=uA;obtain⟨⟨F,s⟩,⟨k0,r,A⟩,G,f1,H⟩:=W.out;have am:Hid (j=K.m):=e;have R:Hid (wr.ownsMap prog 3 (plainElem prog 3) w1.1.size j (dz K.At j)):=I;have o:∀p:Addr,p.block<w1.1.size->wr.cell? p=w1.cell? p:=fun p m=>n.cell m;have B:∀p:Addr,p.block<w1.1.size->wr.frozen? p=w1.frozen? p:=fun p m=>n.frozen m;have aB:w.1.size<w1.1.size:=uA;rw[<-o _ aB]at F s;rw[<-o _ ag]at k0 r A;rw[<-B _ ag]at G f1 H;have D:Hid (Below w.1.size w wr):=C.out.trans (n.mono C.out.size);clear o B e I n Z W T m;go_wp2;have q:=((D.out.setCell (p:=⟨w.1.size+1,0,none⟩) (x0 _) (.slice f K.n l)).setCell (p:=⟨w.1.size+1,1,none⟩) (x0 _) (.slice c K.m pc)).setCell (p:=⟨w.1.size+1,2,none⟩) (x0 _) (.map (some w1.1.size));have ab:=((R.out.setCell (a:=⟨w.1.size+1,0,none⟩) (by show w1.1.size≠w.1.size+1;omega) (.slice f K.n l)).setCell (a:=⟨w.1.size+1,1,none⟩) (by show w1.1.size≠w.1.size+1;omega) (.slice c K.m pc)).setCell (a:=⟨w.1.size+1,2,none⟩) (by show w1.1.size≠w.1.size+1;omega) (.map (some w1.1.size));rw[am.out]at ab;exact B3 (v:= .tuple #[.agg #[.slice f K.n l,.slice c K.m pc,.map (some w1.1.size)],.bool true]) (by simp[results,results71,go_sem,k0,r,A]) rfl ⟨_,rfl,q,ab⟩
theorem Bv(o n q pc C z E D B A K w)(x:RRecs 0 w o K.n q zI C E D K.S)(v:RRecs 1 w n K.m pc (aI K) z B A K.D)(I:dOk K)(g T)(J:T<K.n)(u:w.ownsMap prog 3 (plainElem prog 3) g K.m (dz K.At K.m)):
 Calls prog 152 #[.agg #[.slice o K.n q,.slice n K.m pc,.map (some g)],.int .i64 T] w fun e w'=>e= .returned (.slice (aP K.At z C K.m T) (aP K.At B E K.m T) (aP K.At A D K.m T))/\Below w.1.size w w':=by
 obtain⟨⟨Q,R,P⟩,_,H⟩:=I;have m:Hid _:=(B2 w.1.size w).alloc t6 (.cells #[.slice o K.n q,.slice n K.m pc,.map (some g)] 122);have G:Hid _:=u.alloc (.cells #[.slice o K.n q,.slice n K.m pc,.map (some g)] 122);have l:keyOf prog 3 (.int .i64 (T:Int))=some (.int .i64 (T:Int)):=uD uA uA;have O:(0:Int)<=(T:Int):=uA;have hi4:(T:Int)< (K.n:Int):=uA;have a:=uy K.At (T:Int) K.m;unfold aP;cases j:dJ K.At (T:Int) K.m with
 |some i=>
  rw[j]at a;have r:=uz K.At (T:Int) K.m i j;have L:=iv j;obtain⟨k,b,rfl,f,d⟩:=v.at_ uA;have y:w.cell? ⟨k,b+i*2+1,none⟩=some (.slice (z i) (B i) (A i)):=(d i L).2;rw[<-m.out.cell (p:=⟨k,b+i*2+1,none⟩) f]at y;have F:Hid _:=r;have s:Hid _:=a;have M:(0:Int)<=(i:Int):=uA;have N:(i:Int)< (K.m:Int):=uA;clear r a d v x u H j;simp only[];go_enter func152,ntmps152;go_wp2_with (first
   |(at_lookup;refine wpList_lookup_own_ok_int _ rfl _ _ 120 rfl 3 3 .i64 qv underlying120 C4 (ux _) g K.m (dz K.At K.m) rfl G.out _ _ rfl l ?_;intro c t _;rw[F.out]at t;cases t;rw[s.out];simp only[Option.isSome])
   |go_in)
  go_ret;exact⟨rfl,m.out⟩
 |none=>
  rw[j]at a;obtain⟨k,b,rfl,f,d⟩:=x.at_ uA;have y:w.cell? ⟨k,b+T,none⟩=some (.slice (C T) (E T) (D T)):=by have:=(d T J).2;simpa using this
  rw[<-m.out.cell (p:=⟨k,b+T,none⟩) f]at y;have s:Hid _:=a;clear a d v x u H j;simp only[];go_enter func152,ntmps152;go_wp2_with (first
   |(at_lookup;refine wpList_lookup_own_ok_int _ rfl _ _ 120 rfl 3 3 .i64 qv underlying120 C4 (ux _) g K.m (dz K.At K.m) rfl G.out _ _ rfl l ?_;intro c t _;rw[s.out];simp only[Option.isSome])
   |go_in)
  go_ret;exact⟨rfl,m.out⟩
structure IsRd(w:World)(g:Nat)(a:Option Addr)(n c:Nat)(l:List Int)(p:Nat):Prop where
 box:w.heap[g]?=some (.cells #[.slice a n c,.int .i64 (p:Nat)] 149 (0,0))
 bs:Bs w a n c l
 le:n<=1000
 at_:p<=n
theorem IsRd.lt{w g a n c l p}(h:IsRd w g a n c l p):g<w.1.size:=(wy.1 h.box).1
theorem IsRd.ne{w g a n c l p}(h:IsRd w g a n c l p)(j:0<n){b d}(e:a=some ⟨b,d,none⟩):b≠g:=by
 intro k;obtain⟨q,o,f,r,m⟩:=h.bs.at_ j;rw[e]at f;simp at f;obtain⟨rfl,rfl⟩:=f;subst k;have i:=m 0 j;rw[DC w b _ _ _ _ h.box]at i;rcases d with _|_|d<;>simp at i
theorem IsRd.only{w w' g a n c l p d}(h:IsRd w g a n c l p)(k:OnlyB g w w')(o:w'.heap[g]?=some (.cells #[.slice a n c,.int .i64 (d:Nat)] 149 (0,0)))(s:d<=n):IsRd w' g a n c l d:=
 ⟨o,⟨h.bs.len_eq,h.bs.le,h.bs.le',h.bs.nil,fun j=>by
  obtain⟨b,m,e,f,q⟩:=h.bs.at_ j;refine⟨b,m,e,wQ f k.size,fun i r=> ?_⟩;rw[<-q i r];exact C5 (k.block b f (h.ne j e)),h.bs.byte⟩,h.le,s⟩
theorem IsRd.below{w w' g a n c l p}(h:IsRd w g a n c l p)(b:Below w.1.size w w'):IsRd w' g a n c l p:=
 ⟨by rw[b.block g h.lt];exact h.box,h.bs.below b,h.le,h.at_⟩
theorem IsRd.drew{w g a n c l p}(h:IsRd w g a n c l p):IsRd w.drew g a n c l p:=h.below t7.drew
def rdP(n p:Nat):Nat:=if p<n then p+1 else p
theorem cZ(g a n c l p w)(h:IsRd w g a n c l p):
 Calls prog 53 #[.pointer (some ⟨g,0,none⟩)] w fun e w'=>e= .returned (.int .i64 (l.getD p 0))/\OnlyB g w w'/\IsRd w' g a n c l (rdP n p):=by
 have A:w.cell? ⟨g,0,none⟩=some (.slice a n c):=by rw[DC w g _ _ _ _ h.box];rfl
 have B:w.cell? ⟨g,1,none⟩=some (.int .i64 (p:Nat)):=by rw[DC w g _ _ _ _ h.box];rfl
 have f1:=frozen_of_row w g 1 _ _ h.box;have z:=h.le;have i:=h.bs.byte p;by_cases f:p<n
 ·obtain⟨b,m,rfl,D,j⟩:=h.bs.at_ uA;have u:=j p f;have v:(0:Int)<=(p:Int):=uA;have y:(p:Int)< (n:Int):=uA;have q:=heap_setCell_same w g 1 _ _ (.int .i64 ((p+1:Nat):Int)) h.box;have d:Hid (OnlyB g w (w.setCell ⟨g,1,none⟩ (.int .i64 ((p+1:Nat):Int)))/\IsRd (w.setCell ⟨g,1,none⟩ (.int .i64 ((p+1:Nat):Int))) g (some ⟨b,m,none⟩) n c l (rdP n p)):=by
   have o:OnlyB g w (w.setCell ⟨g,1,none⟩ (.int .i64 ((p+1:Nat):Int))):=⟨rfl,rfl,rfl,vo,fun k C r=>Below.heap_setCell _ _ _ _ r⟩;refine⟨o,?_⟩;have e:rdP n p=p+1:=by unfold rdP;rw[B4 f]
   rw[e];exact h.only o q uA
  generalize l.getD p 0=x at*;obtain⟨s,t⟩:=i;clear h j q;go_enter func53,ntmps53;go_wp2_with fail;go_region;go_wp2_with fail;go_region;go_wp2;go_ret;exact⟨rfl,d.out.1.drew.drew,d.out.2.drew.drew⟩
 ·have d:Hid (OnlyB g w w/\IsRd w g a n c l (rdP n p)):=by
   have e:rdP n p=p:=by unfold rdP;rw[CH f]
   rw[e];exact⟨OnlyB.refl _ _,h⟩
  have e0:l.getD p 0=0:=by
   have:=h.bs.len_eq;rw[yc,x8 uA];rfl
  rw[e0];clear h i e0;go_enter func53,ntmps53;go_wp2_with fail;go_region;go_wp2;go_ret;exact⟨rfl,d.out.1.drew,d.out.2.drew⟩
theorem Bw(a n c l w)(h:Bs w a n c l):
 Calls prog 52 #[.slice a n c] w fun e w'=> ∃g,e= .returned (.pointer (some ⟨g,0,none⟩))/\Below w.1.size w w'/\w.1.size<=g/\IsRd w' g a (min n 1000) c (l.take 1000) 0:=by
 have r:=wg h.le h.le';unfold maxLen at r;by_cases u:(1000:Int)< (n:Int)
 ·have e:min n 1000=1000:=uA;rw[e];obtain⟨b,d,rfl,t,m⟩:=h.at_ uA;have p:1000<=c:=by have:=h.le;omega
  have j:Bs w (some ⟨b,d,none⟩) 1000 c (l.take 1000):=by
   refine⟨by rw[wR,h.len_eq];omega,p,h.le',h.nil,fun _=>⟨b,d,rfl,t,fun i s=> ?_⟩,gR h.byte 1000⟩;rw[m i uA,yc,yc,List.getElem?_take_of_lt s]
  have y:=D6 w (.cells #[.slice (some ⟨b,d,none⟩) 1000 c,.int .i64 0] 149);have q:=(B2 w.1.size w).alloc t6 (.cells #[.slice (some ⟨b,d,none⟩) 1000 c,.int .i64 0] 149);have f:Hid (Below w.1.size w (w.alloc (.cells #[.slice (some ⟨b,d,none⟩) 1000 c,.int .i64 0] 149))/\w.1.size<=w.1.size/\IsRd (w.alloc (.cells #[.slice (some ⟨b,d,none⟩) 1000 c,.int .i64 0] 149)) w.1.size (some ⟨b,d,none⟩) 1000 c (l.take 1000) 0):=⟨q,t6,y,j.below q,t6,wa _⟩;have o:=h.le';unfold maxLen at o;clear h m j y q;go_enter func52,ntmps52;go_wp2;go_ret;exact⟨w.1.size,rfl,f.out⟩
 ·have e:min n 1000=n:=uA;have k:l.take 1000=l:=w5 (by rw[h.len_eq];omega);rw[e,k];have y:=D6 w (.cells #[.slice a n c,.int .i64 0] 149);have q:=(B2 w.1.size w).alloc t6 (.cells #[.slice a n c,.int .i64 0] 149);have f:Hid (Below w.1.size w (w.alloc (.cells #[.slice a n c,.int .i64 0] 149))/\w.1.size<=w.1.size/\IsRd (w.alloc (.cells #[.slice a n c,.int .i64 0] 149)) w.1.size a n c l 0):=⟨q,t6,y,h.below q,uA,wa _⟩;clear h y q k;go_enter func52,ntmps52;go_wp2;go_ret;exact⟨w.1.size,rfl,f.out⟩
