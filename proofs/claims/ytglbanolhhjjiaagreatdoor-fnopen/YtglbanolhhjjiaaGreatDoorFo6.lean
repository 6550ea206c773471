import Derived.Test.YtglbanolhhjjiaaGreatDoorFo5
import Derived.Lib.ConvBytes
namespace Go.Proofs.YtglbanolhhjjiaaGreatDoor
open Go.Proofs.Tryz
open Go.RowKit Go.Maps
set_option linter.unusedVariables false
set_option maxRecDepth 100000
set_option maxHeartbeats 32000000
def sz(l:List Int):Int:=low (aJ l 10 2)
def kd(l:List Int):Int:=l.getD 8 0
def aY(l:List Int):List Int:=aJ l 16 (sz l).toNat
def cC(id:Int)(l:List Int):Prop:=l.length=256/\bL id (kd l) (sz l)=true/\page id (kd l) (aY l)=l
def nD(id:Int)(l:List Int):Prop:=l.length=256/\low (aJ l 4 4)=id/\bL id (kd l) (sz l)=true/\low (aJ l 0 4)=(crc (l.drop 4):Int)/\ed id (kd l) (sz l)=aJ l 4 12/\iP (l.drop (16+(sz l).toNat))=true
theorem nE{l}(a:IsB l)(i m):IsB (aJ l i m):=gR (j0 a i) m
theorem qp{l i m}(a:i+m<=l.length):(aJ l i m).length=m:=by unfold aJ;rw[wv,vk];omega
theorem qq{l}(a:IsB l):0<=sz l:=(gX (nE a 10 2)).1
theorem qr(l i m):l.drop i=aJ l i m++l.drop (i+m):=by
 unfold aJ;rw[<-wP];exact(z8 m (l.drop i)).symm
theorem A9{id l}(i:IsB l):cC id l↔nD id l:=by
 have D:=qq i;constructor
 ·rintro⟨j,b,v⟩;have u:=ja b;have a:(aY l).length=(sz l).toNat:=qp t7;have c:((aY l).length:Int)=sz l:=by rw[a];omega
  obtain⟨r,A,B,m,C⟩:=CC b;generalize d:fg id (kd l) (aY l)=R;have y:R.length=252:=by rw[<-d];exact tB t7
  have n:IsB R:=by rw[<-d];exact pI (by rw[c];exact b) (nE i 16 _)
  have e0:l=num (crc R) 4++R:=by rw[<-d];exact v.symm
  have h:l.drop 4=R:=by
   have:(num (crc R) 4++R).drop 4=R:=by rw[List.drop_append_of_le_length (by simp[ew])];simp[List.drop_of_length_le,ew]
   rw[<-e0]at this;exact this
  have x:aJ l 0 4=num (crc R) 4:=by
   have:(num (crc R) 4++R).take 4=num (crc R) 4:=by rw[x5 (by simp[ew])];simp[List.take_of_length_le,ew]
   rw[<-e0]at this;simpa [aJ]using this
  have e:R=ed id (kd l) (sz l)++(aY l++List.replicate (240-(aY l).length) 0):=by rw[<-d];unfold fg;rw[c,vJ]
  have g:aJ l 4 12=ed id (kd l) (sz l):=by
   unfold aJ;rw[h,e,x5 (by simp[mR])];exact wC (by simp[mR])
  have q:aJ l 4 4=num id 4:=by
   have:aJ l 4 4=(aJ l 4 12).take 4:=by unfold aJ;rw[List.take_take];rfl
   rw[this,g];unfold ed;rw[vJ,vJ,x5 (by simp[ew])];exact wC (by simp[ew])
  have o:=tu n;refine⟨j,?_,b,?_,g.symm,?_⟩
  ·rw[q];exact pV 4 id r (by have:(256:Int)^4=4294967296:=uv;omega)
  ·rw[x,h];exact pV 4 _ t7 (by have:(256:Int)^4=4294967296:=uv;omega)
  ·have k:l.drop (16+(sz l).toNat)=List.replicate (240-(aY l).length) 0:=by
    have s:l.drop (16+(sz l).toNat)=R.drop (12+(sz l).toNat):=by rw[<-h,wP];congr 1;omega
    rw[s,e,<-vJ];rw[show 12+(sz l).toNat=(ed id (kd l) (sz l)++aY l).length by rw[u7,mR,a]];exact List.drop_left
   rw[k];exact B2 uB
 ·rintro⟨j,z,b,o,t,w⟩;have u:=ja b;have a:(aY l).length=(sz l).toNat:=qp t7;have c:((aY l).length:Int)=sz l:=by rw[a];omega
  have f:=CC w;have d:fg id (kd l) (aY l)=l.drop 4:=by
   unfold fg;rw[c,t,vJ,qr l 4 12,show 4+12=16 from rfl,qr l 16 (sz l).toNat];have p:(l.drop (16+(sz l).toNat)).length=240-(aY l).length:=by rw[vk,a];omega
   rw[p]at f;rw[f]
   rfl
  refine⟨j,b,?_⟩;unfold page;rw[d,<-o];have m:(aJ l 0 4).length=4:=qp t7;have:=tO (nE i 0 4);rw[m]at this;rw[this];have:=qr l 0 4;simp only[List.drop_zero,wg]at this;exact this.symm
noncomputable def gl(id:Int)(l:List Int):Bool:= @decide (cC id l) (Classical.propDecidable _)
noncomputable def gN(id:Int)(l:List Int):Int:=match gl id l with|true=>kd l|false=>0
noncomputable def dj(id:Int)(l:List Int):List Int:=match gl id l with|true=>aY l|false=>[]
theorem nF{id l}(a:cC id l):gl id l=true:= @decide_eq_true _ (Classical.propDecidable _) a
theorem jw{id l}(a:¬cC id l):gl id l=false:= @decide_eq_false _ (Classical.propDecidable _) a
theorem un{id l}(a:cC id l):gN id l=kd l:=by unfold gN;rw[nF a]
theorem lX{id l}(a:¬cC id l):gN id l=0:=by unfold gN;rw[jw a]
theorem lY{id l}(a:cC id l):dj id l=aY l:=by unfold dj;rw[nF a]
theorem jx{id l}(a:¬cC id l):dj id l=[]:=by unfold dj;rw[jw a]
theorem kh{B w w'}(a:Below B w.drew w'):Below B w w':=⟨a.os,a.tape,a.output,a.size,a.block⟩
theorem Ba(id a n c l w)(h:Bs w a n c l)(i:n≠256):
 Calls prog 139 #[.int .i64 id,.slice a n c] w fun e w'=> ∃d f,e= .returned (.tuple #[.int .i64 0,.slice d 0 f,.bool false])/\Below w.1.size w w'/\Own w.1.size w' d 0 f []:=by
 have g:=u9 h.le h.le';unfold maxLen at g;have j:((n:Int) !=256)=true:=by simp;omega
 have b:Hid _:=eI w [] 0 rfl t7 w.1.size t1;clear h i;go_enter func139,ntmps139;go_wp2;refine BB (v:= .tuple #[.int .i64 0,.slice (some ⟨w.1.size,0,none⟩) 0 0,.bool false]) (by simp[results,results139,go_sem]) rfl ?_;exact⟨_,_,rfl,bAl _ _,b.out⟩
theorem Bb(id b g f l w)(I:Bs w (some ⟨b,g,none⟩) 256 f l):
 Calls prog 139 #[.int .i64 id,.slice (some ⟨b,g,none⟩) 256 f] w fun e w'=> ∃ak an,e= .returned (.tuple #[.int .i64 (gN id l),.slice ak (dj id l).length an,.bool (gl id l)])/\Below w.1.size w w'/\Own w.1.size w' ak (dj id l).length an (dj id l):=by
 have bb:256<=f:=I.le;have L:f<=maxLen:=I.le';have aB:=I.len_eq;have ag:Hid (Bs w (some ⟨b,g+10,none⟩) 2 (f-10) (aJ l 10 2)):=I.piece 10 2 t7 _ t7 t7;have aS:=qq I.byte;have F:=fun a n c v ba h=>lQ a n c (aJ l 10 2) v ba h;obtain⟨N,Z⟩:=xb aS;have T:Hid (sz l=(N:Int)):=Z;have P:low (aJ l 10 2)=(N:Int):=Z;rw[P]at F;have ac:Hid _:=F;obtain⟨bz,bd,e,Q,aA⟩:=I.at_ t7;cases e;have X:=aA 8 t7;have bk:=I.byte 8;have O:Hid (l.getD 8 0=kd l):=rfl;have x:Hid (N<=240->Bs w (some ⟨b,g+16,none⟩) N (f-16) (aY l)):=fun h=>by
  have:=I.piece 16 N t7 (f-16) t7 t7;have e:aY l=(l.drop 16).take N:=by unfold aY aJ;rw[T.out];simp
  rw[e];exact this
 have a3:Hid _:=I;have u:=(Bn w.1.size w).alloc t1 (.cells #[] 5);have ad:Hid (Own w.1.size (w.alloc (.cells #[] 5)) (some ⟨w.1.size,0,none⟩) 0 0 []):=eI w [] 0 rfl t7 w.1.size t1;have bB:(w.alloc (.cells #[] 5)).cell? ⟨b,g+8,none⟩=some (.int .u8 (l.getD 8 0)):=by rw[u.cell (p:=⟨b,g+8,none⟩) Q];exact X
 have U:Hid (∀v,Below w.1.size w v->v.cell? ⟨b,g+8,none⟩=some (.int .u8 (l.getD 8 0))):=fun v a7=>by rw[a7.cell (p:=⟨b,g+8,none⟩) Q];exact X
 unfold maxLen at L;generalize l.getD 8 0=j at*;have bl:IntKind.i64.wrap j=j:=by simp[IntKind.wrap,IntKind.bits,IntKind.signed];omega
 have bE:(12:Int)<=(f:Int):=t7;have bs:¬f=10:=t7;have bu:¬f=16:=t7;clear F Z P aS aA I X;go_enter func139,ntmps139;go_wp2_with fail;refine(ac.out _ _ _ _ (ag.out.below u) t7).mono ?_;rintro e w' ⟨rfl,rfl⟩;by_cases h:N<=240
 case neg=>
  have d:¬cC id l:=fun C=>by have:=ja C.2.1;rw[T.out]at this;omega
  have r:Hid _:=lX d;have J:Hid _:=jx d;have q:Hid _:=jw d;have bc:(240:Int)< (N:Int):=t7;clear d h;go_wp2;refine BB (v:= .tuple #[.int .i64 0,.slice (some ⟨w.1.size,0,none⟩) 0 0,.bool false]) (by simp[results,results139,go_sem]) rfl ?_;rw[r.out,J.out,q.out];exact⟨_,_,rfl,u,ad.out⟩
 have bc:¬(240:Int)< (N:Int):=t7;obtain⟨M,bC⟩:=aa (16+N);have bg:IntKind.i64.wrap (16+(N:Int))=(M:Int):=by simp[IntKind.wrap,IntKind.bits,IntKind.signed];omega
 have bm:(16:Int)<=(M:Int):=t7;have bn:(M:Int)<=(f:Int):=t7;have br:M-16=N:=t7;go_wp2_with fail;generalize ap:w.alloc (.cells #[] 5)=bv at*;clear ap;go_region_with (first|(go_at_call 127;refine(zx id j _ _ _ (aY l) _ ?_ ?_).mono ?_;exact(x.out h).below u.drew;omega;rintro e bF ⟨bx,bA,rfl,m,G⟩;simp only[DR]at m G;replace m:=kh m;have A:=u.trans (m.mono u.size)))
 all_goals
  have R:((aY l).length:Int)=(N:Int):=by have:=(x.out h).len_eq;omega
  have D:cC id l↔bL id j (N:Int)=true/\gd id j (aY l)=l:=by
   unfold cC;rw[T.out,<-O.out];constructor
   ·rintro⟨_,B,K⟩;exact⟨B,by rw[pJ (by rw[R];exact B)];exact K⟩
   ·rintro⟨B,K⟩;exact⟨aB,B,by rw[pJ (by rw[R];exact B)]at K;exact K⟩
  have S:Hid _:=D;have aT:IsB (gd id j (aY l)):=zv (x.out h).byte;have z:=U.out _ A;have o:=ad.out.below (m);generalize gd id j (aY l)=J at*;clear D;cases E:bL id j (N:Int)with
  |false=>
   have d:¬cC id l:=fun C=>by have:=(S.out.1 C).1;rw[E]at this;cases this
   have r:Hid _:=lX d;have k:Hid _:=jx d;have q:Hid _:=jw d;have a0:Hid _:=A;have ae:Hid _:=o;clear d E m G z o;go_wp2;refine BB (v:= .tuple #[.int .i64 0,.slice (some ⟨w.1.size,0,none⟩) 0 0,.bool false]) (by simp[results,results139,go_sem]) rfl ?_;rw[r.out,k.out,q.out];exact⟨_,_,rfl,a0.out,ae.out⟩
  |true=>
   go_wp2_with fail;refine(Aw _ _ _ _ _ _ J l _ (G.bs aT) (a3.out.below A)).mono ?_;rintro e aX ⟨rfl,am⟩;have s:=A.trans (am.mono A.size);have H:=o.below am;have a9:=U.out _ s;by_cases t:J=l
   ·rw[B2 t];have i:cC id l:=S.out.2 ⟨E,t⟩;have r:Hid _:=un i;have k:Hid _:=lY i;have q:Hid _:=nF i;clear i E m G z o t H;go_wp2_with fail;go_region_with (first|(go_at_call 78;(try rw[show(16+(N:Int)).toNat-16=N from by omega]);refine(jV _ _ _ (aY l) _ ?_ ?_).mono ?_;exact(x.out h).below s.drew;omega;rintro e bf ⟨V,W,rfl,y,ab⟩;simp only[DR]at y ab;replace y:=kh y;have Y:=s.trans (y.mono s.size);have a8:=U.out _ Y))
    all_goals
     have a4:Hid ((aY l).length=N):=by have:=(x.out h).len_eq;exact this
     have a2:Hid _:=Y;have a5:Hid (Own aX.1.size bf V N W (aY l)):=ab;have a6:Hid (w.1.size<=aX.1.size):=s.size;clear Y ab y a8;go_wp2;refine BB (v:= .tuple #[.int .i64 j,.slice V N W,.bool true]) (by simp[results,results139,go_sem]) rfl ?_;rw[r.out,k.out,q.out,<-O.out,a4.out];exact⟨V,W,rfl,a2.out,a5.out.mono a6.out⟩
   ·rw[B1 t];have d:¬cC id l:=fun C=>t (S.out.1 C).2;have r:Hid _:=lX d;have k:Hid _:=jx d;have q:Hid _:=jw d;have a1:Hid _:=s;have af:Hid _:=H;clear d E m G z o t s H;go_wp2;refine BB (v:= .tuple #[.int .i64 0,.slice (some ⟨w.1.size,0,none⟩) 0 0,.bool false]) (by simp[results,results139,go_sem]) rfl ?_;rw[r.out,k.out,q.out];exact⟨_,_,rfl,a1.out,af.out⟩
theorem Bc{id l}(b:IsB l):IsB (dj id l):=by
 by_cases a:cC id l
 ·rw[lY a];exact nE b 16 _
 ·rw[jx a];exact eX
theorem Bd(id l):(dj id l).length<=l.length:=by
 by_cases a:cC id l
 ·rw[lY a];unfold aY aJ;rw[wv,vk];omega
 ·rw[jx a];simp
theorem Be(id a n c l w)(j:Bs w a n c l):
 Calls prog 139 #[.int .i64 id,.slice a n c] w fun e w'=> ∃g h,e= .returned (.tuple #[.int .i64 (gN id l),.slice g (dj id l).length h,.bool (gl id l)])/\Below w.1.size w w'/\Own w.1.size w' g (dj id l).length h (dj id l):=by
 by_cases f:n=256
 ·subst f;obtain⟨b,i,rfl,_⟩:=j.at_ t7;exact Bb id b i c l w j
 ·have d:¬cC id l:=fun d=>f (by rw[<-j.len_eq];exact d.1);rw[lX d,jx d,jw d];exact Ba id a n c l w j f
def nb(s:ByteArray):List Int:=s.data.toList.map fun b=>(b.toNat:Int)
theorem up(s):(nb s).length=s.size:=by
 rw[nb,x7,Array.length_toList]
 rfl
theorem ur(s j):(nb s).getD j 0=((s.data.toList.getD j 0).toNat:Int):=by
 unfold nb;by_cases a:j<s.data.toList.length
 ·simp only[x3,y2,wy a]
  rfl
 ·simp only[x3,y2,xN (Nat.not_lt.1 a)]
  rfl
theorem ut(s):IsB (nb s):=fun i=>by
 rw[ur];have:=(s.data.toList.getD i 0).toNat_lt;omega
theorem Bf(s w):(convert 9 56 (.string s)).run prog w= .ok (.slice (some ⟨w.1.size,0,none⟩) s.size (grownCap w s.size 0 5)) (Go.Lib.bytesWorld w 5 s):=
 Go.Lib.run_convert_string_bytes w _ _ 5 s DP underlying56 C4
theorem iw(s w):Below w.1.size w (Go.Lib.bytesWorld w 5 s):=
 ⟨rfl,rfl,rfl,by rw[Go.Lib.bytesWorld_size];omega,fun k a=>Go.Lib.bytesWorld_at_old w _ s k a⟩
theorem Bg(s w):(Go.Lib.bytesWorld w 5 s).1.size=w.1.size+1:=Go.Lib.bytesWorld_size w _ s
theorem ix(s w)(b:s.size<=1048576):Bs (Go.Lib.bytesWorld w 5 s) (some ⟨w.1.size,0,none⟩) s.size (grownCap w s.size 0 5) (nb s):=
 ⟨up s,grownCap_ge _ _ _ _,grownCap_le_maxLen _ _ _ _ (by unfold maxLen;omega),fun e=>(by cases e),fun _=>⟨w.1.size,0,rfl,by rw[Bg];omega,fun i a=>by
  rw[show 0+i=i by omega,Go.Lib.bytesWorld_cell w _ s i a,ur]⟩,ut s⟩
theorem nG(a n c l w)(d:Bs w a n c l)(F:n<=7):
 Calls prog 108 #[.slice a n c] w fun e w'=>e= .returned (.int .i64 (low l))/\w'=w:=by
 have g:Hid (∀k,0<k->0<=low (l.drop k)/\low (l.drop k)<=281474976710656):=fun k E=>by
  have p:=gX (j0 d.byte k);have q:(l.drop k).length<=6:=by rw[vk,d.len_eq];omega
  have C:=nl _ q;exact⟨p.1,t7⟩
 have h:Hid (low (l.drop n)=0):=by
  have:l.drop n=[]:=by rw[y3,d.len_eq];exact t1
  show low (l.drop n)=0;rw[this];rfl
 go_enter func108,ntmps108;go_wp2
 go_loop [3,4] (fun v i=> ∃j:Nat,j<=n/\i= .int .i64 ((j:Int)-1)/\v= .int .i64 (low (l.drop j))) (fun _ i=>(intOf i+1).toNat)
 case atStart=>exact⟨n,t1,rfl,by rw[h.out]⟩
 case round=>
  obtain⟨j,D,rfl,rfl⟩:=hrel;by_cases B:0<j
  ·obtain⟨b,A,rfl,t,f⟩:=d.at_ t7;obtain⟨i,rfl⟩:∃i,j=i+1:=⟨j-1,t7⟩;have u:=f i t7;have s:=d.byte i;have m:Hid _:=mZ l i (by rw[d.len_eq];omega);have r:=g.out (i+1) t7;have o:((i+1:Nat):Int)-1=(i:Int):=t7;rw[o];have x:(0:Int)<=(i:Int):=t7;have z:(i:Int)< (n:Int):=t7;generalize low (l.drop (i+1))=G at*;generalize l.getD i 0=y at*;clear f d;go_wp2
   go_round
   case rel=>exact⟨i,t7,by go_num,by rw[m.out];congr 1;omega⟩
   case measure=>simp[intOf]
  ·have e:j=0:=t7;subst e;go_wp2;go_ret;exact⟨rfl,rfl⟩
theorem Bh(a b:Nat)(c:a<281474976710657)(d:b<256):bits .or .i64 ((a:Int)*256) (b:Int)=(a:Int)*256+b:=by
 rw[show(a:Int)*256=((a*256:Nat):Int)by omega,show((a*256:Nat):Int)+(b:Int)=((a*256+b:Nat):Int)by omega];have e:a*256|||b=a*256+b:=by
  have:=Nat.shiftLeft_add_eq_or_of_lt (i:=8) (b:=b) t7 a;rw[Nat.shiftLeft_eq]at this;exact this.symm
 show IntKind.i64.wrap ((BitVec.ofInt 64 ((a*256:Nat):Int)|||BitVec.ofInt 64 (b:Int)).toNat:Int)= _;rw[BitVec.toNat_or,ofInt_u64 (a*256) t7,ofInt_u64 b t7,e];simp[IntKind.wrap,IntKind.bits,IntKind.signed];omega
theorem Bi(x y:Nat)(hx:x<72057594037927936)(c:y<256):bits .or .i64 (IntKind.i64.wrap ((x:Int)*256)) (y:Int)=IntKind.i64.wrap ((x:Int)*256+y):=by
 have e:x*256|||y=x*256+y:=by
  have:=Nat.shiftLeft_add_eq_or_of_lt (i:=8) (b:=y) t7 x;rw[Nat.shiftLeft_eq]at this;exact this.symm
 have a:(BitVec.ofInt 64 (IntKind.i64.wrap ((x:Int)*256))).toNat=x*256:=by
  simp[IntKind.wrap,IntKind.bits,IntKind.signed,BitVec.toNat_ofInt];omega
 show IntKind.i64.wrap ((BitVec.ofInt 64 (IntKind.i64.wrap ((x:Int)*256))|||BitVec.ofInt 64 (y:Int)).toNat:Int)= _;rw[BitVec.toNat_or,a,ofInt_u64 y t7,e];congr 1
theorem Bj(a):IntKind.i64.wrap a=wrap64 a:=by
 unfold wrap64;simp[IntKind.wrap,IntKind.bits,IntKind.signed];omega
def iy(l:List Int):Int:=IntKind.i64.wrap (low (l.drop 1)*256+l.getD 0 0)
theorem Bk{l}(a:IsB l)(u:l.length=8):(l.getD 7 0=0->iy l=low (l.take 7))/\(l.getD 7 0≠0->iy l<1\/1000000000000<iy l):=by
 obtain⟨b,c,d,f,g,h,i,j,rfl⟩:∃b c d f g h i j,l=[b,c,d,f,g,h,i,j]:=by
  match l,u with
  |[b,c,d,f,g,h,i,j],_=>exact⟨b,c,d,f,g,h,i,j,rfl⟩
 have m:=a 0;have n:=a 1;have o:=a 2;have p:=a 3;have q:=a 4;have r:=a 5;have s:=a 6;have t:=a 7;simp at m n o p q r s t;have e:iy [b,c,d,f,g,h,i,j]=IntKind.i64.wrap ((c+256*(d+256*(f+256*(g+256*(h+256*(i+256*j))))))*256+b):=by simp[iy,low]
 rw[e];constructor
 ·intro k;simp at k;subst k;simp[low,IntKind.wrap,IntKind.bits,IntKind.signed];omega
 ·intro k;simp at k;simp[IntKind.wrap,IntKind.bits,IntKind.signed];omega
theorem Bl(m)(a:m<=7):(256:Int)^m<=72057594037927936:=by
 have k:∀m:Fin 8,(256:Int)^(m:Nat)<=72057594037927936:=uv;exact k ⟨m,t7⟩
theorem Bm(a c l w)(d:Bs w a 8 c l):
 Calls prog 121 #[.slice a 8 c] w fun e w'=>e= .returned (.int .i64 (iy l))/\w'=w:=by
 have z:Hid (∀k,0<k->0<=low (l.drop k)/\low (l.drop k)<72057594037927936):=fun k G=>by
  have t:=gX (j0 d.byte k);have q:(l.drop k).length<=7:=by rw[vk,d.len_eq];omega
  have F:=Bl _ q;exact⟨t.1,t7⟩
 have g:Hid (∀k,1<k->low (l.drop k)<281474976710656+1):=fun k G=>by
  have t:=gX (j0 d.byte k);have q:(l.drop k).length<=6:=by rw[vk,d.len_eq];omega
  have F:=nl _ q;omega
 have A:Hid (low (l.drop 8)=0):=by
  have:l.drop 8=[]:=by rw[y3,d.len_eq];exact t1
  show low (l.drop 8)=0;rw[this];rfl
 obtain⟨b,L,rfl,I,r⟩:=d.at_ t7;go_enter func121,ntmps121;go_wp2
 go_loop [3,4] (fun v i=> ∃j:Nat,j<=8/\i= .int .i64 ((j:Int)-1)/\(0<j->v= .int .i64 (low (l.drop j)))/\(j=0->v= .int .i64 (iy l))) (fun _ i=>(intOf i+1).toNat)
 case atStart=>exact⟨8,t1,rfl,fun _=>by rw[A.out],fun d=>by omega⟩
 case round=>
  obtain⟨j,N,rfl,s,h⟩:=hrel;by_cases E:0<j
  ·obtain rfl:=s E;obtain⟨i,rfl⟩:∃i,j=i+1:=⟨j-1,t7⟩;have u:=r i t7;have n:=d.byte i;have B:Hid _:=mZ l i (by rw[d.len_eq];omega);have m:=z.out (i+1) t7;have D:((i+1:Nat):Int)-1=(i:Int):=t7;rw[D];have J:(0:Int)<=(i:Int):=t7;have K:(i:Int)<8:=t7;by_cases o:i=0
   ·subst o;have C:Hid (iy l=IntKind.i64.wrap (low (l.drop 1)*256+l.getD 0 0)):=rfl;generalize low (l.drop (0+1))=M at*;generalize l.getD 0 0=y at*;obtain⟨x,rfl⟩:=xb m.1;obtain⟨y,rfl⟩:=xb n.1;have f:=Bi x y t7 t7;rw[Bj ((x:Int)*256)]at f;have p:Hid _:=f;simp only[wR]at u;clear r d f s h g;go_wp2
    go_round
    case rel=>exact⟨0,t7,by go_num,fun d=>by omega,fun _=>by rw[C.out,p.out]⟩
    case measure=>simp[intOf]
   ·have H:=g.out (i+1) t7;generalize low (l.drop (i+1))=M at*;generalize l.getD i 0=y at*;obtain⟨x,rfl⟩:=xb m.1;obtain⟨y,rfl⟩:=xb n.1;have f:=Bh x y t7 t7;clear r d;have p:Hid _:=f;clear f s h g;go_wp2
    go_round
    case rel=>exact⟨i,t7,by go_num,fun _=>by rw[B.out,p.out];congr 1;omega,fun d=>absurd d o⟩
    case measure=>simp[intOf]
  ·have e:j=0:=t7;subst e;obtain rfl:=h rfl;go_wp2;go_ret;exact⟨rfl,rfl⟩
def qt:List PanicEntry:=[{v:= .iface 221 (.agg #[]),recovered:=true}]
theorem Bo(v x w):(Instr.typeAssert (.iface 221 v) x 221 true).run prog w= .ok (.tuple #[v,.bool true]) w:=by
 simp[Instr.typeAssert,run_underlying underlying221 w]
theorem Bp(w):
 CallsD prog 143 #[] (.panicking bI) w fun e c w'=>e= .returned (.tuple #[])/\c= .panicking qt/\Below w.1.size w w':=by
 have d:=Bo (.agg #[]);refine callsD_of_wpS func143 rfl fun f cs b=> ?_;apply wpS_seq;apply wpS_region;simp[wpOpsS,go_sem,recoverD,b,ntmps143,Exit.thenS,bI];simp only[show Array.replicate 14 undef=#[undef,undef,undef,undef,undef,undef,undef,undef,undef,undef,undef,undef,undef,undef]from rfl,AF,zb,A3];refine wpS_of_wp ?_;go_wp2;have a:=bAl w (.cells #[] 221);simp[bodyPostS,results,results143,qt];exact a
theorem Bq(w):
 CallsD prog 143 #[] .returning w fun e c w'=>e= .returned (.tuple #[])/\c= .returning/\w'=w:=by
 refine callsD_of_wpS func143 rfl fun a cs b=> ?_;apply wpS_seq;apply wpS_region;simp[wpOpsS,go_sem,recoverD,b,ntmps143,Exit.thenS];simp only[show Array.replicate 14 undef=#[undef,undef,undef,undef,undef,undef,undef,undef,undef,undef,undef,undef,undef,undef]from rfl,AF,zb,A3];refine wpS_of_wp ?_;go_wp2;cases a
 simp_all [bodyPostS,results,results143]
theorem Br(f a w)(R:World->Prop)(c:∀w,(callFunc f a).run prog w= .ok (.enter f a) w)(d:Calls prog f a w fun e w'=>e= .returned (.tuple #[])/\R w'):
 Calls prog 112 #[.func (.func f) #[] a] w fun e w'=>e= .returned (.bool true)/\R w':=by
 go_enter_defers func112,ntmps112
 go_wp2_with fail;refine BV d ?_;rintro e w1 ⟨rfl,b⟩;go_wp2;refine leaves_cons (f:=143) (args:=#[]) uB (by simp[go_sem]) ?_;refine(Bq w1).mono ?_;rintro e g h ⟨rfl,rfl,rfl⟩;simp[Leaves,settle,results,results112,go_sem];exact b
theorem Bt(f a w)(R:World->Prop)(d:∀w,(callFunc f a).run prog w= .ok (.enter f a) w)(g:Calls prog f a w fun e w'=>e= .panicked bI/\R w'):
 Calls prog 112 #[.func (.func f) #[] a] w fun e w'=>e= .returned (.bool false)/\∃w1,R w1/\Below w1.1.size w1 w':=by
 go_enter_defers func112,ntmps112
 go_wp2_with fail;refine BV g ?_;rintro e w1 ⟨rfl,b⟩;go_wp2;refine leaves_cons (f:=143) (args:=#[]) uB (by simp[go_sem]) ?_;refine(Bp w1).mono ?_;rintro e h i ⟨rfl,rfl,c⟩;simp[Leaves,settle,results,results112,go_sem,qt];exact⟨w1,b,c⟩
def lZ(K:DK)(t:Int)(n:Nat):Bool:=decide (0<=t/\t<K.n/\n=64)
theorem qu(c b d pc)(K:DK)(t w)(i:K.n<=4096):
 Calls prog 119 #[.agg #[.slice c K.n d,.slice b K.m pc],.int .i64 t] w fun e w'=>e= .returned (.bool (decide (0<=t/\t<K.n)))/\Below w.1.size w w':=by
 have a:Hid _:=(Bn w.1.size w).alloc t1 (.cells #[.slice c K.n d,.slice b K.m pc] 35);by_cases g:0<=t
 ·by_cases h:t< (K.n:Int)
  ·rw[show decide (0<=t/\t< (K.n:Int))=true from B2 ⟨g,h⟩];go_enter func119,ntmps119;go_wp2;go_ret;exact⟨rfl,a.out⟩
  ·rw[show decide (0<=t/\t< (K.n:Int))=false from B1 t7];have f:decide (t< (K.n:Int))=false:=by simp;omega
   go_enter func119,ntmps119;go_wp2;go_ret;exact⟨rfl,a.out⟩
 ·rw[show decide (0<=t/\t< (K.n:Int))=false from B1 t7];have f:decide (0<=t)=false:=by simp;omega
  go_enter func119,ntmps119;go_wp2;go_ret;exact⟨rfl,a.out⟩
theorem Bu(i h j pc K t a n c w)(o:n<=maxLen)(m:K.n<=4096):
 Calls prog 81 #[.agg #[.slice i K.n j,.slice h K.m pc],.int .i64 t,.slice a n c] w fun e w'=>e= .returned (.bool (lZ K t n))/\Below w.1.size w w':=by
 unfold maxLen at o;have p:=(Bn w.1.size w).alloc t1 (.cells #[.slice i K.n j,.slice h K.m pc] 35);have d:Hid _:=p;clear p;by_cases b:0<=t/\t< (K.n:Int)
 ·have k:Hid (decide (0<=t/\t< (K.n:Int))=true):=B2 b;by_cases l:n=64
  ·rw[show lZ K t n=true from B2 ⟨b.1,b.2,l⟩];have r:((n:Int)==64)=true:=by simp;omega
   clear b l;go_enter func81,ntmps81;go_wp2_with fail;refine(qu i h j pc K t _ m).mono ?_;rw[k.out];rintro e w1 ⟨rfl,f⟩;have g:=d.out.trans (f.mono d.out.size);go_wp2;go_ret;exact⟨rfl,g⟩
  ·rw[show lZ K t n=false from B1 (fun q=>l q.2.2)];have r:((n:Int)==64)=false:=by simp;omega
   clear b l;go_enter func81,ntmps81;go_wp2_with fail;refine(qu i h j pc K t _ m).mono ?_;rw[k.out];rintro e w1 ⟨rfl,f⟩;have g:=d.out.trans (f.mono d.out.size);go_wp2;go_ret;exact⟨rfl,g⟩
 ·have k:Hid (decide (0<=t/\t< (K.n:Int))=false):=B1 b;rw[show lZ K t n=false from B1 (fun q=>b ⟨q.1,q.2.1⟩)];clear b;go_enter func81,ntmps81;go_wp2_with fail;refine(qu i h j pc K t _ m).mono ?_;rw[k.out];rintro e w1 ⟨rfl,f⟩;have g:=d.out.trans (f.mono d.out.size);go_wp2;go_ret;exact⟨rfl,g⟩
theorem uu(x t o pc am S v an E T K w)(s:RRecs 0 w x K.n o zI am v an K.S)(r:RRecs 1 w t K.m pc (aI K) S E T K.D):
 Calls prog 41 #[.agg #[.slice x K.n o,.slice t K.m pc]] w fun e w'=>e= .returned (.bool (aR K))/\Below w.1.size w w':=by
 have ag:=u9 s.le s.le';have af:=u9 r.le r.le';unfold maxLen at ag af;have u:=(Bn w.1.size w).alloc t1 (.cells #[.slice x K.n o,.slice t K.m pc] 35);have m:Hid _:=u;have l:Hid (∀(_:¬dOk K),aR K=false):=gk;have Z:Hid (∀(_:dOk K),aR K=true):=fj;by_cases a9:(K.n:Int)<1
 ·have d:Hid (aR K=false):=l.out (fun a=>by have:=a.1;omega);clear u;go_enter func41,ntmps41;go_wp2;go_ret;exact⟨by rw[d.out];rfl,m.out⟩
 ·by_cases ba:(4096:Int)< (K.n:Int)
  ·have d:Hid (aR K=false):=l.out (fun a=>by have:=a.1;omega);clear u;go_enter func41,ntmps41;go_wp2;go_ret;exact⟨by rw[d.out];rfl,m.out⟩
  ·by_cases bb:(5000:Int)< (K.m:Int)
   ·have d:Hid (aR K=false):=l.out (fun a=>by have:=a.1;omega);clear u;go_enter func41,ntmps41;go_wp2;go_ret;exact⟨by rw[d.out];rfl,m.out⟩
   ·have U:=s.below u;have R:=r.below u;clear u;have N:=fun i c=>(s.data i c).len_eq;have L:=fun i c=>(r.data i c).len_eq;have M:=fun i c=>u9 (r.data i c).le (r.data i c).le';have O:=fun i c=>u9 (s.data i c).le (s.data i c).le';have I:Hid _:=N;have H:Hid _:=L;have X:Hid _:=M;have Y:Hid _:=O;clear N L M O s r;have a4:decide ((K.n:Int)<1)=false:=by simp;omega
    have a5:decide ((4096:Int)< (K.n:Int))=false:=by simp;omega
    have a6:decide ((5000:Int)< (K.m:Int))=false:=by simp;omega
    have a7:((K.n:Int))<=4096:=t7;have a8:((K.m:Int))<=5000:=t7;go_enter func41,ntmps41;go_wp2
    go_loop [4,26] (fun _ i=> ∃j:Nat,j<=K.n/\i= .int .i64 j/\∀k,k<j->v k=64) (fun _ i=>K.n-(intOf i).toNat)
    case atStart=>exact⟨0,u6 _,rfl,fun k a=>absurd a t7⟩
    case round=>
     obtain⟨j,bd,rfl,D⟩:=hrel;have B:Hid _:=D;clear D;by_cases z:j<K.n
     ·obtain⟨b,g,rfl,ac,A⟩:=U.at_ t7;have k0:(w.alloc (.cells #[.slice (some ⟨b,g,none⟩) K.n o,.slice t K.m pc] 35)).cell? ⟨b,g+j,none⟩=some (.slice (am j) (v j) (an j)):=by have:=(A j z).2;simpa using this
      have Q:=Y.out j z;unfold maxLen at Q;have ad:(0:Int)<=(j:Int):=t7;have ae:(j:Int)< (K.n:Int):=t7;clear A U R;by_cases y:v j=64
      ·have h:((v j:Int) !=64)=false:=by simp;omega
       have V:Hid (v j=64):=y;clear y;go_wp2
       go_round
       case rel=>
        refine⟨j+1,t7,by go_num,fun k a=> ?_⟩;by_cases e:k=j
        ·subst e;exact V.out
        ·exact B.out k t7
       case measure=>simp[intOf];omega
      ·have h:((v j:Int) !=64)=true:=by simp;omega
       have d:Hid (aR K=false):=l.out (fun a=>y (by rw[<-I.out j z];exact a.2.1 j z));clear y;go_wp2;go_ret;exact⟨by rw[d.out];rfl,m.out⟩
     ·have e:j=K.n:=t7;have aS:Hid (j=K.n):=e;clear e U;have bc:decide ((j:Int)< (K.n:Int))=false:=by simp;omega
      go_wp2;go_loopw [6,37] (fun _ i wr=> ∃q:Nat,q<=K.m/\i= .int .i64 q/\Below (w.alloc (.cells #[.slice x K.n o,.slice t K.m pc] 35)).1.size (w.alloc (.cells #[.slice x K.n o,.slice t K.m pc] 35)) wr/\∀k,k<q->0<=K.At k/\K.At k<K.n/\E k=64) (fun _ i _=>K.m-(intOf i).toNat)
      case atStart=>exact⟨0,u6 _,rfl,t2,fun k a=>absurd a t7⟩
      case round=>
       obtain⟨q,bf,rfl,h,J⟩:=hrel;have G:Hid _:=J;clear J;have aX:wr.cell? ⟨w.1.size,0,none⟩=some (.slice x K.n o):=by rw[h.cell (p:=⟨w.1.size,0,none⟩) uB];simp
       have a0:wr.cell? ⟨w.1.size,1,none⟩=some (.slice t K.m pc):=by rw[h.cell (p:=⟨w.1.size,1,none⟩) uB];simp
       have bg:w.1.size<wr.1.size:=by have:=h.size;simp at this;omega
       have aB:Hid (Below w.1.size w wr):=m.out.trans (h.mono m.out.size);have P:Hid _:=h;have ak:=R.below h;clear h;by_cases f:q<K.m
       ·obtain⟨b,g,rfl,ac,A⟩:=ak.at_ t7;have k0:wr.cell? ⟨b,g+q*2,none⟩=some (.int .i64 (K.At q)):=(A q f).1 0 t7;have a1:wr.cell? ⟨b,g+q*2+1,none⟩=some (.slice (S q) (E q) (T q)):=(A q f).2;have Q:=X.out q f;have W:Hid _:=H.out q f;have ad:(0:Int)<=(q:Int):=t7;have ae:(q:Int)< (K.m:Int):=t7;clear A R ak;go_wp2_with fail;refine(Bu x (some ⟨b,g,none⟩) o pc K (K.At q) (S q) (E q) (T q) _ Q t7).mono ?_;rintro e a2 ⟨rfl,ab⟩;have C:=(P.out.alloc P.out.size _).trans (ab.mono (u9 P.out.size uB));have aA:Hid (Below w.1.size w a2):=m.out.trans (C.mono m.out.size);have ap:Hid _:=C;clear ab C k0 a1 aX a0;cases F:lZ K (K.At q) (E q)with
        |true=>
         have n:=CC F;have aT:Hid _:=n;clear F n;go_wp2;go_roundw
         case rel=>
          refine⟨q+1,t7,by go_num,ap.out,fun k a=> ?_⟩;by_cases e:k=q
          ·subst e;exact aT.out
          ·exact G.out k t7
         case measure=>simp[intOf];omega
        |false=>
         have n:=of_decide_eq_false F;have d:Hid (aR K=false):=l.out (fun a=>n (by have:=a.2.2 q f;rw[W.out]at this;exact this));clear F n;go_wp2;go_ret;exact⟨by rw[d.out];rfl,aA.out⟩
       ·have a3:decide ((q:Int)< (K.m:Int))=false:=by simp;omega
        have d:Hid (aR K=true):=Z.out ⟨⟨t7,t7,t7⟩,fun i c=>by rw[I.out i c];exact B.out i (by have:=aS.out;omega),fun i c=>by have:=G.out i t7;rw[H.out i c];exact this⟩;go_wp2;go_ret;exact⟨by rw[d.out];rfl,aB.out⟩
theorem uw(d K w)(a:RDisk w d K):
 Calls prog 41 #[av d K] w fun e w'=>e= .returned (.bool (aR K))/\Below w.1.size w w':=uu d.sa d.pa d.sc d.pc d.sA d.pA d.sN d.sC d.pN d.pC K w a.safe a.pend
theorem qv:Keyed prog 3:=int_keyed CH
theorem ux(w):(zeroValue 3).run prog w= .ok (.int .i64 0) w:=uA
def dz(At:Nat->Int):Nat->DataW Unit
 |0=> .map []
 |j+1=>(dz At j).put (.int .i64 (At j)) (.lit (.int .i64 (j:Int)))
theorem qw(At):∀j,IsMap (dz At j)
 |0=>⟨[],rfl⟩
 |j+1=>(qw At j).put _ _
theorem uy(At t):∀j,Maps.has (dz At j) (.int .i64 t)=(dJ At t j).isSome
 |0=>rfl
 |j+1=>by
  show Maps.has ((dz At j).put _ _) _= _;by_cases e:At j=t
  ·subst e;rw[has_put_same (qw At j) (by exact trivial)];simp[dJ]
  ·rw[has_put_other (by intro a;apply e;cases a;rfl),uy At t j];simp[dJ,e]
theorem uz(At t):∀j i,dJ At t j=some i->(dz At j).atKey (.int .i64 t) (.lit (.int .i64 0))= .lit (.int .i64 (i:Int))
 |0,i,a=>by simp[dJ]at a
 |j+1,i,a=>by
  show((dz At j).put _ _).atKey _ _= _;simp only[dJ]at a;by_cases e:At j=t
  ·subst e;rw[BC rfl]at a;cases a;rw[atKey_put_same (qw At j) (by exact trivial)]
  ·rw[BX e]at a;rw[atKey_put_other (by intro a;apply e;cases a;rfl)];exact uz At t j i a
def rZ:Value:= .agg #[.slice none 0 0,.slice none 0 0,.map none]
theorem uC(d K w)(m:RDisk w d K)(b:¬dOk K):
 Calls prog 71 #[av d K] w fun e w'=>e= .returned (.tuple #[rZ,.bool false])/\Below w.1.size w w':=by
 have c:Hid _:=((Bn w.1.size w).alloc t1 (.cells #[.slice d.sa K.n d.sc,.slice d.pa K.m d.pc] 35)).alloc uB (.cells #[.slice none 0 0,.slice none 0 0,.map none] 122);have f:Hid (aR K=false):=gk b;clear b;unfold av;go_enter func71,ntmps71;go_wp2_with fail;refine(uw d K _ (m.below c.out)).mono ?_;rw[f.out];rintro e w1 ⟨rfl,a⟩;have k0:w1.cell? ⟨w.1.size+1,0,none⟩=some (.slice none 0 0):=by rw[a.cell (p:=⟨w.1.size+1,0,none⟩) uB];simp
 have i:w1.cell? ⟨w.1.size+1,1,none⟩=some (.slice none 0 0):=by rw[a.cell (p:=⟨w.1.size+1,1,none⟩) uB];simp
 have j:w1.cell? ⟨w.1.size+1,2,none⟩=some (.map none):=by rw[a.cell (p:=⟨w.1.size+1,2,none⟩) uB];simp
 have k:w1.frozen? ⟨w.1.size+1,0,none⟩=false:=by rw[a.frozen (p:=⟨w.1.size+1,0,none⟩) uB];simp
 have f1:w1.frozen? ⟨w.1.size+1,1,none⟩=false:=by rw[a.frozen (p:=⟨w.1.size+1,1,none⟩) uB];simp
 have l:w1.frozen? ⟨w.1.size+1,2,none⟩=false:=by rw[a.frozen (p:=⟨w.1.size+1,2,none⟩) uB];simp
 have h:=c.out.trans (a.mono c.out.size);clear a;go_wp2;have g:=((h.setCell (p:=⟨w.1.size+1,0,none⟩) (xa _) (.slice none 0 0)).setCell (p:=⟨w.1.size+1,1,none⟩) (xa _) (.slice none 0 0)).setCell (p:=⟨w.1.size+1,2,none⟩) (xa _) (.map none);exact BB (v:= .tuple #[rZ,.bool false]) (by simp[results,results71,go_sem,k0,i,j,rZ]) rfl ⟨rfl,g⟩
theorem uD{t}(a:0<=t)(b:t<4096):keyOf prog 3 (.int .i64 t)=some (.int .i64 t):=keyOf_int_mk CH (WalkArith.wf_i64 t7)
theorem uE(f c h pc ab I ad ac L J K w)(S:RRecs 0 w f K.n h zI ab ad ac K.S)(l:RRecs 1 w c K.m pc (aI K) I L J K.D)(y:dOk K):
 Calls prog 71 #[.agg #[.slice f K.n h,.slice c K.m pc]] w fun e w'=> ∃g,e= .returned (.tuple #[.agg #[.slice f K.n h,.slice c K.m pc,.map (some g)],.bool true])/\Below w.1.size w w'/\w'.ownsMap prog 3 (plainElem prog 3) g K.m (dz K.At K.m):=by
 obtain⟨⟨a0,a1,aT⟩,_,X⟩:=id y;have aX:= @run_makeMap prog;have D:Hid _:=((Bn w.1.size w).alloc t1 (.cells #[.slice f K.n h,.slice c K.m pc] 35)).alloc uB (.cells #[.slice none 0 0,.slice none 0 0,.map none] 122);have an:Hid (aR K=true):=fj y;have am:Hid _:=X;clear X y;go_enter func71,ntmps71;go_wp2_with fail;refine(uu f c h pc ab I ad ac L J K _ (S.below D.out) (l.below D.out)).mono ?_;rw[an.out];rintro e w1 ⟨rfl,b⟩;have E:w1.cell? ⟨w.1.size,0,none⟩=some (.slice f K.n h):=by rw[b.cell (p:=⟨w.1.size,0,none⟩) (by simp;omega)];simp
 have r:w1.cell? ⟨w.1.size,1,none⟩=some (.slice c K.m pc):=by rw[b.cell (p:=⟨w.1.size,1,none⟩) (by simp;omega)];simp
 have k0:w1.cell? ⟨w.1.size+1,0,none⟩=some (.slice none 0 0):=by rw[b.cell (p:=⟨w.1.size+1,0,none⟩) uB];simp
 have q:w1.cell? ⟨w.1.size+1,1,none⟩=some (.slice none 0 0):=by rw[b.cell (p:=⟨w.1.size+1,1,none⟩) uB];simp
 have z:w1.cell? ⟨w.1.size+1,2,none⟩=some (.map none):=by rw[b.cell (p:=⟨w.1.size+1,2,none⟩) uB];simp
 have F:w1.frozen? ⟨w.1.size+1,0,none⟩=false:=by rw[b.frozen (p:=⟨w.1.size+1,0,none⟩) uB];simp
 have f1:w1.frozen? ⟨w.1.size+1,1,none⟩=false:=by rw[b.frozen (p:=⟨w.1.size+1,1,none⟩) uB];simp
 have G:w1.frozen? ⟨w.1.size+1,2,none⟩=false:=by rw[b.frozen (p:=⟨w.1.size+1,2,none⟩) uB];simp
 have W:=D.out.trans (b.mono D.out.size);have af:w.1.size+1<w1.1.size:=by have:=b.size;simp at this;omega
 have V:Hid _:=(u2 (u2 E r) (u2 (u2 k0 (u2 q z)) (u2 F (u2 f1 G))));have B:Hid _:=W;have Y:(w1.alloc (.map #[] 0)).cell? ⟨w.1.size,1,none⟩=some (.slice c K.m pc):=by rw[((Bn w1.1.size w1).alloc t1 _).cell (p:=⟨w.1.size,1,none⟩) (by show w.1.size<_;omega)];exact r
 clear b k0 q z F f1 G W;go_wp2;go_loopw [5,6,15] (fun _ _ i wr=> ∃j:Nat,j<=K.m/\i= .int .i64 j/\Below w1.1.size w1 wr/\wr.ownsMap prog 3 (plainElem prog 3) w1.1.size j (dz K.At j)) (fun _ _ i _=>K.m-(intOf i).toNat)
 case atStart=>exact⟨0,u6 _,rfl,bAl _ _,World.ownsMap_made _ _ _ _⟩
 case round=>
  obtain⟨j,a2,rfl,m,H⟩:=hrel;by_cases x:j<K.m
  ·obtain⟨o,d,rfl,t,u⟩:=l.at_ t7;have s:=am.out j x;have C:=B.out.trans (m.mono B.out.size);have k0:wr.cell? ⟨o,d+j*2,none⟩=some (.int .i64 (K.At j)):=by rw[C.cell (p:=⟨o,d+j*2,none⟩) t];exact(u j x).1 0 t7
   have q:wr.cell? ⟨o,d+j*2+1,none⟩=some (.slice (I j) (L j) (J j)):=by rw[C.cell (p:=⟨o,d+j*2+1,none⟩) t];exact(u j x).2
   have R:=uD s.1 (by have:=s.2.1;omega);have aB:(0:Int)<=(j:Int):=t7;have aS:(j:Int)< (K.m:Int):=t7;have P:Hid _:=m;have Q:Hid (wr.ownsMap prog 3 (plainElem prog 3) w1.1.size j (dz K.At j)):=H;clear u l S s m H E r Y;have N:=Q.out.alloc (.cells #[.int .i64 (K.At j),.slice (I j) (L j) (J j)] 133);have T:Hid _:=N;clear N;go_wp2_with (first
    |(at_mapUpdate;refine wpList_mapUpdate_own _ rfl _ _ _ 120 rfl 3 3 qv underlying120 (plainElem prog 3) w1.1.size j _ rfl T.out (by unfold maxLen;omega) _ _ _ rfl rfl R (.lit (.int .i64 (j:Int))) [] (plainElem_int CH (WalkArith.wf_i64 t7)) ?_;intro ae O M)
    |go_in)
   have ag:Hid (Below w1.1.size w1 ae):=(P.out.alloc P.out.size _).grown M (by have:=P.out.size;simp;omega) (fun k ap=>by cases ap;exact t1);have U:Hid (ae.ownsMap prog 3 (plainElem prog 3) w1.1.size (j+1) (dz K.At (j+1))):=O;clear O M;go_roundw
   case rel=>exact⟨j+1,t7,by go_num,ag.out,U.out⟩
   case measure=>simp[intOf];omega
  ·have e:j=K.m:=t7;obtain⟨⟨E,r⟩,⟨k0,q,z⟩,F,f1,G⟩:=V.out;have ak:Hid (j=K.m):=e;have Q:Hid (wr.ownsMap prog 3 (plainElem prog 3) w1.1.size j (dz K.At j)):=H;have n:∀p:Addr,p.block<w1.1.size->wr.cell? p=w1.cell? p:=fun p l=>m.cell l;have A:∀p:Addr,p.block<w1.1.size->wr.frozen? p=w1.frozen? p:=fun p l=>m.frozen l;have aA:w.1.size<w1.1.size:=t7;rw[<-n _ aA]at E r;rw[<-n _ af]at k0 q z;rw[<-A _ af]at F f1 G;have C:Hid (Below w.1.size w wr):=B.out.trans (m.mono B.out.size);clear n A e H m Y V S l;go_wp2;have o:=((C.out.setCell (p:=⟨w.1.size+1,0,none⟩) (xa _) (.slice f K.n h)).setCell (p:=⟨w.1.size+1,1,none⟩) (xa _) (.slice c K.m pc)).setCell (p:=⟨w.1.size+1,2,none⟩) (xa _) (.map (some w1.1.size));have Z:=((Q.out.setCell (a:=⟨w.1.size+1,0,none⟩) (by show w1.1.size≠w.1.size+1;omega) (.slice f K.n h)).setCell (a:=⟨w.1.size+1,1,none⟩) (by show w1.1.size≠w.1.size+1;omega) (.slice c K.m pc)).setCell (a:=⟨w.1.size+1,2,none⟩) (by show w1.1.size≠w.1.size+1;omega) (.map (some w1.1.size));rw[ak.out]at Z;exact BB (v:= .tuple #[.agg #[.slice f K.n h,.slice c K.m pc,.map (some w1.1.size)],.bool true]) (by simp[results,results71,go_sem,k0,q,z]) rfl ⟨_,rfl,o,Z⟩
theorem Bv(n m o pc B y D C A z K w)(v:RRecs 0 w n K.n o zI B D C K.S)(u:RRecs 1 w m K.m pc (aI K) y A z K.D)(H:dOk K)(g T)(I:T<K.n)(t:w.ownsMap prog 3 (plainElem prog 3) g K.m (dz K.At K.m)):
 Calls prog 152 #[.agg #[.slice n K.n o,.slice m K.m pc,.map (some g)],.int .i64 T] w fun e w'=>e= .returned (.slice (aP K.At y B K.m T) (aP K.At A D K.m T) (aP K.At z C K.m T))/\Below w.1.size w w':=by
 obtain⟨⟨P,Q,O⟩,_,G⟩:=H;have l:Hid _:=(Bn w.1.size w).alloc t1 (.cells #[.slice n K.n o,.slice m K.m pc,.map (some g)] 122);have F:Hid _:=t.alloc (.cells #[.slice n K.n o,.slice m K.m pc,.map (some g)] 122);have k:keyOf prog 3 (.int .i64 (T:Int))=some (.int .i64 (T:Int)):=uD t7 t7;have N:(0:Int)<=(T:Int):=t7;have hi4:(T:Int)< (K.n:Int):=t7;have a:=uy K.At (T:Int) K.m;unfold aP;cases h:dJ K.At (T:Int) K.m with
 |some i=>
  rw[h]at a;have q:=uz K.At (T:Int) K.m i h;have J:=iv h;obtain⟨j,b,rfl,f,d⟩:=u.at_ t7;have x:w.cell? ⟨j,b+i*2+1,none⟩=some (.slice (y i) (A i) (z i)):=(d i J).2;rw[<-l.out.cell (p:=⟨j,b+i*2+1,none⟩) f]at x;have E:Hid _:=q;have r:Hid _:=a;have L:(0:Int)<=(i:Int):=t7;have M:(i:Int)< (K.m:Int):=t7;clear q a d u v t G h;simp only[];go_enter func152,ntmps152;go_wp2_with (first
   |(at_lookup;refine wpList_lookup_own_ok_int _ rfl _ _ 120 rfl 3 3 .i64 qv underlying120 CH (ux _) g K.m (dz K.At K.m) rfl F.out _ _ rfl k ?_;intro c s _;rw[E.out]at s;cases s;rw[r.out];simp only[Option.isSome])
   |go_in)
  go_ret;exact⟨rfl,l.out⟩
 |none=>
  rw[h]at a;obtain⟨j,b,rfl,f,d⟩:=v.at_ t7;have x:w.cell? ⟨j,b+T,none⟩=some (.slice (B T) (D T) (C T)):=by have:=(d T I).2;simpa using this
  rw[<-l.out.cell (p:=⟨j,b+T,none⟩) f]at x;have r:Hid _:=a;clear a d u v t G h;simp only[];go_enter func152,ntmps152;go_wp2_with (first
   |(at_lookup;refine wpList_lookup_own_ok_int _ rfl _ _ 120 rfl 3 3 .i64 qv underlying120 CH (ux _) g K.m (dz K.At K.m) rfl F.out _ _ rfl k ?_;intro c s _;rw[r.out];simp only[Option.isSome])
   |go_in)
  go_ret;exact⟨rfl,l.out⟩
structure IsRd(w:World)(g:Nat)(a:Option Addr)(n c:Nat)(l:List Int)(p:Nat):Prop where
 box:w.heap[g]?=some (.cells #[.slice a n c,.int .i64 (p:Nat)] 149 (0,0))
 bs:Bs w a n c l
 le:n<=1000
 at_:p<=n
theorem IsRd.lt{w g a n c l p}(b:IsRd w g a n c l p):g<w.1.size:=(vR.1 b.box).1
theorem IsRd.ne{w g a n c l p}(o:IsRd w g a n c l p)(i:0<n){b d}(e:a=some ⟨b,d,none⟩):b≠g:=by
 intro j;obtain⟨q,m,f,r,k⟩:=o.bs.at_ i;rw[e]at f;simp at f;obtain⟨rfl,rfl⟩:=f;subst j;have h:=k 0 i;rw[CV w b _ _ _ _ o.box]at h;rcases d with _|_|d<;>simp at h
theorem IsRd.only{w w' g a n c l p f}(d:IsRd w g a n c l p)(k:OnlyB g w w')(o:w'.heap[g]?=some (.cells #[.slice a n c,.int .i64 (f:Nat)] 149 (0,0)))(s:f<=n):IsRd w' g a n c l f:=
 ⟨o,⟨d.bs.len_eq,d.bs.le,d.bs.le',d.bs.nil,fun j=>by
  obtain⟨b,m,e,h,q⟩:=d.bs.at_ j;refine⟨b,m,e,ws h k.size,fun i r=> ?_⟩;rw[<-q i r];exact CP (k.block b h (d.ne j e)),d.bs.byte⟩,d.le,s⟩
theorem IsRd.below{w w' g a n c l p}(b:IsRd w g a n c l p)(d:Below w.1.size w w'):IsRd w' g a n c l p:=
 ⟨by rw[d.block g b.lt];exact b.box,b.bs.below d,b.le,b.at_⟩
theorem IsRd.drew{w g a n c l p}(b:IsRd w g a n c l p):IsRd w.drew g a n c l p:=b.below t2.drew
def rdP(n p:Nat):Nat:=if p<n then p+1 else p
theorem cZ(g a n c l p w)(f:IsRd w g a n c l p):
 Calls prog 53 #[.pointer (some ⟨g,0,none⟩)] w fun e w'=>e= .returned (.int .i64 (l.getD p 0))/\OnlyB g w w'/\IsRd w' g a n c l (rdP n p):=by
 have A:w.cell? ⟨g,0,none⟩=some (.slice a n c):=by rw[CV w g _ _ _ _ f.box];rfl
 have B:w.cell? ⟨g,1,none⟩=some (.int .i64 (p:Nat)):=by rw[CV w g _ _ _ _ f.box];rfl
 have f1:=frozen_of_row w g 1 _ _ f.box;have z:=f.le;have i:=f.bs.byte p;by_cases h:p<n
 ·obtain⟨b,m,rfl,D,j⟩:=f.bs.at_ t7;have u:=j p h;have v:(0:Int)<=(p:Int):=t7;have y:(p:Int)< (n:Int):=t7;have q:=heap_setCell_same w g 1 _ _ (.int .i64 ((p+1:Nat):Int)) f.box;have d:Hid (OnlyB g w (w.setCell ⟨g,1,none⟩ (.int .i64 ((p+1:Nat):Int)))/\IsRd (w.setCell ⟨g,1,none⟩ (.int .i64 ((p+1:Nat):Int))) g (some ⟨b,m,none⟩) n c l (rdP n p)):=by
   have o:OnlyB g w (w.setCell ⟨g,1,none⟩ (.int .i64 ((p+1:Nat):Int))):=⟨rfl,rfl,rfl,uB,fun k C r=>Below.heap_setCell _ _ _ _ r⟩;refine⟨o,?_⟩;have e:rdP n p=p+1:=by unfold rdP;rw[BC h]
   rw[e];exact f.only o q t7
  generalize l.getD p 0=x at*;obtain⟨s,t⟩:=i;clear f j q;go_enter func53,ntmps53;go_wp2_with fail;go_region;go_wp2_with fail;go_region;go_wp2;go_ret;exact⟨rfl,d.out.1.drew.drew,d.out.2.drew.drew⟩
 ·have d:Hid (OnlyB g w w/\IsRd w g a n c l (rdP n p)):=by
   have e:rdP n p=p:=by unfold rdP;rw[BX h]
   rw[e];exact⟨OnlyB.refl _ _,f⟩
  have e0:l.getD p 0=0:=by
   have:=f.bs.len_eq;rw[x3,xN t7];rfl
  rw[e0];clear f i e0;go_enter func53,ntmps53;go_wp2_with fail;go_region;go_wp2;go_ret;exact⟨rfl,d.out.1.drew,d.out.2.drew⟩
theorem Bw(a n c l w)(f:Bs w a n c l):
 Calls prog 52 #[.slice a n c] w fun e w'=> ∃g,e= .returned (.pointer (some ⟨g,0,none⟩))/\Below w.1.size w w'/\w.1.size<=g/\IsRd w' g a (min n 1000) c (l.take 1000) 0:=by
 have r:=u9 f.le f.le';unfold maxLen at r;by_cases u:(1000:Int)< (n:Int)
 ·have e:min n 1000=1000:=t7;rw[e];obtain⟨b,d,rfl,t,m⟩:=f.at_ t7;have p:1000<=c:=by have:=f.le;omega
  have j:Bs w (some ⟨b,d,none⟩) 1000 c (l.take 1000):=by
   refine⟨by rw[wv,f.len_eq];omega,p,f.le',f.nil,fun _=>⟨b,d,rfl,t,fun i s=> ?_⟩,gR f.byte 1000⟩;rw[m i t7,x3,x3,List.getElem?_take_of_lt s]
  have y:=DI w (.cells #[.slice (some ⟨b,d,none⟩) 1000 c,.int .i64 0] 149);have q:=(Bn w.1.size w).alloc t1 (.cells #[.slice (some ⟨b,d,none⟩) 1000 c,.int .i64 0] 149);have h:Hid (Below w.1.size w (w.alloc (.cells #[.slice (some ⟨b,d,none⟩) 1000 c,.int .i64 0] 149))/\w.1.size<=w.1.size/\IsRd (w.alloc (.cells #[.slice (some ⟨b,d,none⟩) 1000 c,.int .i64 0] 149)) w.1.size (some ⟨b,d,none⟩) 1000 c (l.take 1000) 0):=⟨q,t1,y,j.below q,t1,u6 _⟩;have o:=f.le';unfold maxLen at o;clear f m j y q;go_enter func52,ntmps52;go_wp2;go_ret;exact⟨w.1.size,rfl,h.out⟩
 ·have e:min n 1000=n:=t7;have k:l.take 1000=l:=wC (by rw[f.len_eq];omega);rw[e,k];have y:=DI w (.cells #[.slice a n c,.int .i64 0] 149);have q:=(Bn w.1.size w).alloc t1 (.cells #[.slice a n c,.int .i64 0] 149);have h:Hid (Below w.1.size w (w.alloc (.cells #[.slice a n c,.int .i64 0] 149))/\w.1.size<=w.1.size/\IsRd (w.alloc (.cells #[.slice a n c,.int .i64 0] 149)) w.1.size a n c l 0):=⟨q,t1,y,f.below q,t7,u6 _⟩;clear f y q k;go_enter func52,ntmps52;go_wp2;go_ret;exact⟨w.1.size,rfl,h.out⟩
