import Derived.Test.YtnohmedccbogkaaGreatDoorCo6
namespace Go.Proofs.YtnohmedccbogkaaGreatDoor
open Go.Proofs.Tryz
open Go.RowKit
set_option linter.unusedVariables false
set_option maxRecDepth 100000
set_option maxHeartbeats 32000000
theorem Ix{l o a w K C B}(q:o.guard=none)(d s)(y:o.op= .call {callee:= .builtin .copy,args:=#[d,s],argTypes:=#[70,70]})(g off c f)(t:a.eval d= .slice (some ⟨g,off,none⟩) c f)(m e k)(z:a.eval s= .slice (some m) e k)(b)(A:TypeId)(u:Blk w A g b)(cs)(x:cs.length=Nat.min e c)(p:∀j v,cs[j]?=some v->w.cell? (m.add j)=some v)(n:off+cs.length<=b.length)(r:∀v∈cs,v.oneCell'=true)(h:K (a.put o.dst (goInt cs.length)) (w.setRow g (b.take off++cs++b.drop (off+cs.length)).toArray)):
 if Region.wanted o (yielded l a.tmps)=true then Oper.wp prog o a w K C else B:=by
 rw[qb (show Region.wanted o (yielded l a.tmps)=true by simp[Region.wanted,q])];have i:=run_copy_row (P:=prog) w 70 70 o.type 5 g off c f m e k b.toArray A cs rC vT u x p (by simpa using n) r;unfold Oper.wp;rw[k5]at h i;simp[execOp,y,resolve,invoke,builtin,t,z,i,Result.andThen];exact h
theorem Iy(b r:Nat)(hr:r<64)(w):(Instr.sliceAt 313 (.pointer (some ⟨b,8,none⟩)) (some (.int .i64 (r:Int))) none none).run prog w= .ok (.slice (some ⟨b,8+r,none⟩) (64-r) (64-r)) w:=by
 have a:prog.arrayLen 313=64:=kO;have c:prog.elem 313=5:=kO;have f:prog.underlying 313=some (.array (prog.arrayLen 313) (prog.elem 313)):=by rw[a,c];exact underlying313
 rw[run_sliceAt_array_l w 313 _ f .i64 (r:Int) kH (by rw[a];omega),a,c];obtain⟨i,e,g,d,h⟩:=sk i7;simp[sizeOf,typeInfo,e,d,slicedAt,Result.andThen,Addr.add_lit];omega
theorem yh{w b M x a s r q}(f:M.length=s)(e:s%64=r)(d:x.length=q)(g:a.length=64)(c:a.take r=M.drop (64*(s/64)))(i:r+q<64)(h:IsH w b (cW M (s/64)) (eE a r x) (s+q)):HSt w b (M++x):=by
 subst f e d;obtain⟨g1,g2⟩:=Fu M x a g c i;refine⟨eE a (M.length%64) x,?_,g2⟩;rw[g1,kY];exact h
theorem yi{w b M x a s r q}(g:M.length=s)(f:s%64=r)(d:x.length=q)(i:a.length=64)(c:a.take r=M.drop (64*(s/64)))(j:r+q=64)(h:IsH w b (kj (cW M (s/64)) (eE a r x)) (eE a r x) (s+q)):HSt w b (M++x):=by
 subst g f d;obtain⟨g1,g2,e⟩:=Fv M x a i c j;refine⟨eE a (M.length%64) x,?_,?_⟩
 ·rw[g1,kY];exact h
 ·rw[g2,e];simp
theorem mT(b m a n c l w)(T:Tabs w)(H:HSt w b m)(h:Bs w a n c l)(J:0<n->∀g off,a=some ⟨g,off,none⟩->g≠b)(bP:m.length+n<=1099511627776):
 Calls prog 199 #[.pointer (some ⟨b,0,none⟩),.slice a n c] w fun e w'=>e= .returned (.tuple #[])/\OnlyB b w w'/\HSt w' b (m++l):=by
 have bN:=h.len_eq;have bw:=h.le;have bp:=h.byte;obtain⟨k,off,ad⟩:∃k off,0<n->a=some ⟨k,off,none⟩/\k≠b/\k<w.1.size/\∀i,i<n->w.cell? ⟨k,off+i,none⟩=some (.int .u8 (l.getD i 0)):=by
  by_cases an:0<n
  ·obtain⟨g,off,e,ap,ar⟩:=h.at_ an;exact⟨g,off,fun _=>⟨e,J an g off e,ap,ar⟩⟩
  ·exact⟨0,0,fun h=>absurd h an⟩
 obtain⟨ch0,V,_⟩:=H;have B:=V.ne1;have C:=V.ne2;have a2:HSt w b m:=⟨ch0,V,by assumption⟩;have X:=kG ad (kR T a2);clear ad T a2 V J h;go_enter func199,ntmps199;go_wp2;go_loopw [1] (fun o wr=> ∃i ai,i<=n/\o= .slice ai (n-i) (c-i)/\(i<n->ai=some ⟨k,off+i,none⟩)/\OnlyB b w wr/\HSt wr b (m++l.take i)) (fun o _=>jh o)
 case atStart=>exact⟨0,a,kX _,rfl,fun h=>(X.out.1 h).1,OnlyB.refl _ _,by simpa using X.out.2.2⟩
 case round=>
  obtain⟨i,ai,bH,rfl,bb,Z,p,y,t⟩:=hrel;by_cases bc:i<n
  ·obtain rfl:=bb bc;have bx:0<n-i:=kH;have Q:(m++l.take i).length=m.length+i:=by simp;omega
   obtain⟨M,aw⟩:∃M,M=m++l.take i:=⟨_,rfl⟩;rw[<-aw]at y t Q;have A:=y.len;have cs:=y.blk.cell 72;rw[oD _ _ _ A]at cs;have bR:M.length<=1099511627776:=kH;have a4:=kG Q aw;clear Q aw;generalize ba:M.length=s at*;have W:Hid _:=ba;clear ba;have bl:((s:Int)).tmod 64=((s%64:Nat):Int):=by rw[Int.tmod_eq_emod_of_nonneg kH];omega
   have hr:s%64<64:=m8 _ kH;generalize a9:s%64=r at*;have bf:=Iy b r hr;have K:Hid _:=a9;clear a9;go_wp2_with fail;refine ay (fun v=>v.cell? ⟨b,72,none⟩=some (.int .i64 (s:Nat))) (fun j=>decide (10<=j)) kO ?_;refine aa 0 cs ?_;refine aa 1 cs ?_;refine aa 2 cs ?_;refine aa 3 cs ?_;refine aa 4 cs ?_;refine aa 5 cs ?_;refine aa 6 cs ?_;refine aa 7 cs ?_;refine aa 8 cs ?_;refine aa 9 cs ?_;obtain⟨q,L⟩:∃q,q=Nat.min (n-i) (64-r):=⟨_,rfl⟩;have ae:q<=n-i:=by rw[L];exact Nat.min_le_left _ _
   have af:q<=64-r:=by rw[L];exact Nat.min_le_right _ _
   have bd:0<q:=by rw[L];exact Nat.lt_min.2 ⟨kH,kH⟩
   have be:q=n-i\/q=64-r:=by rw[L];show min (n-i) (64-r)= _\/min (n-i) (64-r)= _;omega
   have a5:Hid _:=L;clear L;obtain⟨x,D⟩:∃x,x=(l.drop i).take q:=⟨_,rfl⟩;have u:x.length=q:=by rw[D];simp;omega
   have ag:IsB x:=by rw[D];exact dR (fun j=>by have:=bp (i+j);simpa [List.getD,List.getElem?_drop]using this) q
   have R:∀j v,(ob x)[j]?=some v->wr.cell? ⟨k,off+i+j,none⟩=some v:=fun j v S=>by
    have bs:j<q:=by have:=(lb.1 S).1;rw[au]at this;omega
    obtain⟨_,J,aO,bq⟩:=X.out.1 kH;rw[de? x j kH]at S;rw[r8 (a:=⟨k,off+i+j,none⟩) (Z.block k aO J),oK,bq (i+j) kH,<-S,D];simp[List.getD,List.getElem?_drop,bs]
   clear be;have a7:Hid (l.take i++x=l.take (i+q)):=by
    show _= _;rw[D,List.take_add]
   refine aT 10 kO rfl (fun ah P=> ?_);refine Ix rfl _ _ rfl b (8+r) (64-r) (64-r) rfl ⟨k,off+i,none⟩ (n-i) (c-i) rfl (hx (cW M (s/64)) p s) 315 ?_ (ob x) ?_ ?_ ?_ ?_ ?_
   ·exact y.blk
   ·rw[au,u];exact a5.out
   ·intro j v S;rw[sj];exact R j v S
   ·rw[au,u];have:(hx (cW M (s/64)) p s).length=73:=by simp[hx,ow,ob,R8.list,A]
    omega
   ·exact ev x
   rw[au,u];have am:=Fs (cW M (s/64)) p s r x A kH;rw[u]at am;rw[am];have ab:=Blk.setRow (w:=wr.drew) y.blk (hx (cW M (s/64)) (eE p r x) s);have bg:OnlyB b w (wr.drew.setRow b (hx (cW M (s/64)) (eE p r x) s).toArray):=Z.drew.trans (aN _ b _);clear am R cs;generalize wr.drew.setRow b (hx (cW M (s/64)) (eE p r x) s).toArray=Y at*;refine al P ?_;clear P ah;refine aT 11 kO rfl (fun ah P=> ?_);go_simp;refine al P ?_;clear P ah;refine ax ?_;have I:(eE p r x).length=64:=by rw[vZ _ _ _ kH];exact A
   have bi:=ab.cell 72;rw[oD _ _ _ I]at bi;have bF:=ab.free 72;have U:Blk (Y.setCell ⟨b,72,none⟩ (.int .i64 ((s:Int)+(q:Int)))) 315 b (hx (cW M (s/64)) (eE p r x) (s+q))/\OnlyB b w (Y.setCell ⟨b,72,none⟩ (.int .i64 ((s:Int)+(q:Int))))/\(Y.setCell ⟨b,72,none⟩ (.int .i64 ((s:Int)+(q:Int)))).cell? ⟨b,72,none⟩=some (.int .i64 ((s:Int)+(q:Int))):=by
    have e:(s:Int)+(q:Int)=((s+q:Nat):Int):=kH;rw[e];have O:=ab.set 72 (.int .i64 ((s+q:Nat):Int));rw[Ft _ _ _ _ I]at O;exact⟨O,bg.trans (aB Y b 72 (.int .i64 ((s+q:Nat):Int))),by rw[O.cell,oD _ _ _ I]⟩
   obtain⟨O,bh,bE⟩:=U;have d:=kG O (kR bh (kR I (Fr (r:=r) y.byte ag)));have bz:(q:Int)<=((n-i:Nat):Int):=kH;have bt:(0:Int)<=(q:Int):=kH;have f:=kG ae (kR af (kR bd u));have z:Hid _:=y;have ac:=X.out.2.1.only d.out.2.1 B C;have a6:Hid _:=ac;have E:Hid (∀(F:Option Addr)(a0 ak:Nat)(w':World),a0=n-(i+q)->ak=c-(i+q)->OnlyB b w w'->HSt w' b (M++x)->(i+q<n->F=some ⟨k,off+(i+q),none⟩)->∃N a8,N<=n/\Value.slice F a0 ak= .slice a8 (n-N) (c-N)/\(N<n->a8=some ⟨k,off+N,none⟩)/\OnlyB b w w'/\HSt w' b (m++l.take N)):=fun F a0 ak w' bj bk ap ar bn=>
    ⟨i+q,F,by have:=f.out.1;omega,by rw[bj,bk],bn,ap,by rw[<-a7.out,<-k5,<-a4.out.2];exact ar⟩
   clear ab bg O bh ae af D u ag ac y Z bf bl A;by_cases G:r+q=64
   ·have bu:(((s:Int)+(q:Int))%64==0)=true:=by
     have:=K.out;simp;omega
    by_cases aH:c-i=q
    ·go_wp2_with fail;refine(xD b (s+q) (cW M (s/64)) (eE p r x) _ a6.out ⟨d.out.1,d.out.2.2.1,d.out.2.2.2,z.out.ok,B,C⟩).mono ?_;rintro e bv ⟨rfl,a1,aX⟩;go_wp2;go_roundw
     case rel=>exact E.out _ _ _ _ kH kH (d.out.2.1.trans a1) (yi W.out K.out f.out.2.2.2 z.out.len t G aX) (fun h=>absurd h kH)
     case measure=>simp[jh];have:=f.out.1;omega
    ·go_wp2_with fail;refine(xD b (s+q) (cW M (s/64)) (eE p r x) _ a6.out ⟨d.out.1,d.out.2.2.1,d.out.2.2.2,z.out.ok,B,C⟩).mono ?_;rintro e bv ⟨rfl,a1,aX⟩;go_wp2;go_roundw
     case rel=>exact E.out _ _ _ _ kH kH (d.out.2.1.trans a1) (yi W.out K.out f.out.2.2.2 z.out.len t G aX) (fun h=>by rw[oK])
     case measure=>simp[jh];have:=f.out.1;omega
   ·have bu:(((s:Int)+(q:Int))%64==0)=false:=by
     have:=K.out;have:=f.out.2.1;have:=f.out.2.2.1;simp;omega
    by_cases aH:c-i=q
    ·go_wp2;go_roundw
     case rel=>exact E.out _ _ _ _ kH kH d.out.2.1 (yh W.out K.out f.out.2.2.2 z.out.len t (by have:=f.out.2.1;omega) ⟨d.out.1,d.out.2.2.1,d.out.2.2.2,z.out.ok,B,C⟩) (fun h=>absurd h kH)
     case measure=>simp[jh];have:=f.out.1;omega
    ·go_wp2;go_roundw
     case rel=>exact E.out _ _ _ _ kH kH d.out.2.1 (yh W.out K.out f.out.2.2.2 z.out.len t (by have:=f.out.2.1;omega) ⟨d.out.1,d.out.2.2.1,d.out.2.2.2,z.out.ok,B,C⟩) (fun h=>by rw[oK])
     case measure=>simp[jh];have:=f.out.1;omega
  ·have e:i=n:=kH;subst e;go_wp2
   go_end0
   have a3:HSt wr b (m++l.take i):=⟨p,y,t⟩;rw[mm kH]at a3;exact⟨rfl,Z,a3⟩
theorem HSt.lt{w b m}(h:HSt w b m):b<w.1.size:=by
 obtain⟨c,a,_⟩:=h;exact a.blk.lt
theorem HSt.cell{w b m}(h:HSt w b m):w.cell? ⟨b,72,none⟩=some (.int .i64 (m.length:Int)):=by
 obtain⟨c,a,_⟩:=h;rw[a.blk.cell,oD _ _ _ a.len]
theorem HSt.ne{w b m}(h:HSt w b m):b≠1/\b≠3:=by
 obtain⟨c,a,_⟩:=h;exact⟨a.ne1,a.ne2⟩
def tg(b:Nat)(w:World):Nat:=(intOf ((w.cell? ⟨b,72,none⟩).getD undef)).toNat
theorem HSt.size{w b m}(h:HSt w b m):tg b w=m.length:=by
 unfold tg;rw[h.cell];simp[intOf]
def jq(v:R8)(j:Nat):List Int:=(v.list.take j).flatMap fP
theorem yj(v):jq v 0=[]:=by simp[jq]
theorem Iz(v):jq v 8=v.bytes:=rfl
theorem yk(v j)(h:j<8):jq v j++bW (v.list.getD j 0) 4=jq v (j+1):=by
 have h':j<v.list.length:=h;rw[oz];unfold jq;have e:v.list.take (j+1)=v.list.take j++[v.list.getD j 0]:=by
  rw[n6 h'];simp[List.getD,h']
 rw[e,pv];simp
theorem IA(v j)(h:j<=8):IsB (jq v j):=by
 induction j with
 |zero=>rw[yj];exact ir
 |succ j ih=>rw[<-yk v j kH];exact cY (ih kH) (iG _ _)
theorem IB(a n c)(b:32<=n)(w):(Instr.arrayAt 32 (.slice a n c)).run prog w= .ok (.pointer a) w:=by
 simp[Instr.arrayAt,Sem.run_bind,run_underlying underlying32 w,Nat.not_lt.2 b]
theorem yl(b m w)(T:Tabs w)(H:HSt w b m)(b8:m.length<=549755813888):
 Calls prog 200 #[.pointer (some ⟨b,0,none⟩)] w fun e w'=>e= .returned (hA (dj m))/\OnlyB b w w':=by
 have bS:=H.lt;have l:=H.ne;have k0:=ao w 32 (ob (List.replicate 32 0)).toArray;have K:=bAl w (.cells (ob (List.replicate 32 0)).toArray 32);go_enter func200,ntmps200;go_upto_region 1 with fail
 change Code.wp _ _ _ _ (w.alloc (.cells (ob (List.replicate 32 0)).toArray 32));generalize w.alloc (.cells (ob (List.replicate 32 0)).toArray 32)=bf at*;have X:=H.below K;have aw:=T.below K;have bk:=X.cell;have b4:=k0.lt;have W:=ry bf.1.size none 0 0 [] (8*m.length) 8 bf (gR _ _) kE kH kH;rw[show((8*m.length:Nat):Int)=(m.length:Int)*8 by omega]at W;generalize a4:m.length=s at*;have J:Hid _:=a4;have G:=kG k0 (kR K (kR X aw));clear a4 k0 K X aw H T;go_wp2_with fail;refine W.mono ?_;rintro e w1 ⟨aO,bl,rfl,y,D⟩;rw[ld,m7]at D;have ak:=G.out.2.2.1.below y;have ad:=G.out.2.2.2.below y;have b3:=y.size;have I:=kG D y;clear W D y bk;go_wp2_with fail;refine(mT b m _ 1 1 [128] _ (ad.below (bAl _ _)) (ak.below (bAl _ _)) (cZ w1 128 kH kH) (fun _ g off e=>by cases e;omega) (by rw[J.out];omega)).mono ?_;rintro e bg ⟨rfl,E,Y⟩;have aH:=(ad.below (kF.alloc kE (.cells #[Value.int .u8 128] 5))).only E l.1 l.2;have b2:w1.1.size<=bg.1.size:=by have:=E.size;simp at this;omega
 have ap:=E.own (rc I.out.1 _) (fun e=>by have:=(qX I.out.1 b e).1;omega);have R:=(Below.onlyB (I.out.2.alloc I.out.2.size _) b).trans E;rw[<-vM]at Y;have f:=kG Y (kR aH (kR ap R));clear ad ak aH ap R E Y;go_wp2;go_loopw [16] (fun p wr=> ∃k,k<=fQ s/\HSt wr b (fi m k)/\OnlyB b bg wr) (fun _ wr=>s+1+fQ s-tg b wr)
 case atStart=>exact⟨0,kX _,f.out.1,OnlyB.refl _ _⟩
 case round=>
  obtain⟨k,bv,n,d⟩:=hrel;have a1:=n.cell;have r:(fi m k).length=s+1+k:=by rw[<-J.out];simp[fi];omega
  rw[r]at a1;have ag:=rv s;have ba:fQ s<64:=m8 _ kH;by_cases h:k<fQ s
  ·have bx:((s:Int)+1+(k:Int))%64 !=56:=by
    have:(s+1+k)%64≠56:=by unfold fQ at h;omega
    simp;omega
   have x:=f.out.2.1.only d l.1 l.2;have bY:=n.lt;have O:=n.size;clear ag;go_wp2_with fail;refine(mT b (fi m k) _ 1 1 [0] _ (x.below (bAl _ _)) (n.below (bAl _ _)) (cZ wr 0 kH kH) (fun _ g off e=>by cases e;omega) (by rw[r];omega)).mono ?_;rintro e b9 ⟨rfl,bc,Z⟩;rw[vN]at Z;have N:=d.trans ((Below.onlyB ((p4 wr.1.size wr).alloc kE _) b).trans bc);have P:=Z.size;have af:(fi m (k+1)).length=s+1+(k+1):=by rw[<-J.out];simp[fi];omega
   rw[af]at P;rw[r]at O;clear bc d n x;go_wp2;go_roundw
   case rel=>exact⟨k+1,kH,Z,N⟩
   case measure=>rw[P,O];omega
  ·have B:k=fQ s:=kH;have bx:(((s:Int)+1+(k:Int))%64 !=56)=false:=by
    have:(s+1+k)%64=56:=by rw[B];exact ag
    simp;omega
   have x:=f.out.2.1.only d l.1 l.2;have ar:=d.own f.out.2.2.1 (fun e=>by have:=(qX f.out.2.2.1 b e).1;omega);have an:Hid _:=B;have bw:k<64:=kH;have S:=f.out.2.2.2.trans d;have a7:∀g off,aO=some ⟨g,off,none⟩->g≠b:=fun g off bp bq=>by
    have:=(qX f.out.2.2.1 b (by rw[bp,bq];rfl)).1;omega
   clear ag ba h B bv;go_wp2_with fail;refine(mT b (fi m k) aO 8 bl (bW (8*s) 8) wr x n (ar.bs (iG _ _)) (fun _=>a7) (by rw[r];omega)).mono ?_;rintro e u ⟨rfl,N,am⟩;have bs:fi m k++bW (8*s) 8=fA m:=by rw[an.out,<-J.out,vO]
   rw[bs]at am;obtain⟨bN,ac,_⟩:=am;have a5:dj m=(cW (fA m) ((fA m).length/64)).bytes:=rfl;have a8:=ac.ok;have Q:∀j ah,(ow (cW (fA m) ((fA m).length/64)).list)[j]?=some ah->u.cell? ⟨b,0+j,none⟩=some ah:=fun j ah C=>by
    have M:j<8:=(lb.1 C).1;rw[ld,ac.blk.cell,vS _ _ _ j M,<-C];exact(iH? (cW (fA m) ((fA m).length/64)).list j M).symm
   have U:=S.trans N;have ab:=kG a5 U;generalize cW (fA m) ((fA m).length/64)=V at*;clear a5 U N S ac ar n x d a1;go_upto_region 7 with fail
   go_wp2_with (refine dm rfl 312 _ rfl b 0 rfl (ow V.list) _ Q underlying312 rfl lI ?_);clear Q;go_loopw [4,32] (fun o i wr=> ∃j a c,j<=8/\i= .int .i64 (j:Nat)/\o= .slice a (4*j) c/\Below u.1.size u wr/\Own u.1.size wr a (4*j) c (jq V j)) (fun _ i _=>8-(intOf i).toNat)
   case atStart=>exact⟨0,none,0,kX _,rfl,rfl,kF,by rw[yj];exact gR _ _⟩
   case round=>
    obtain⟨j,aX,ae,M,rfl,rfl,A,d⟩:=hrel;by_cases h:j<8
    ·have b7:=fun w=>
      oE w 312 311 8 (ow V.list) j _ underlying312 _ underlying311 rfl rH h (iH? V.list j h)
     have b6:=a8.at j;have a2:=yk V j h;have bh:Hid _:=a2;have ai:=ry u.1.size aX (4*j) ae (jq V j) (V.list.getD j 0) 4 wr d A.size kH kH;clear a2;generalize V.list.getD j 0=cb at*;go_wp2_with fail;refine ai.mono ?_;rintro e ca ⟨bi,bn,rfl,a0,bd⟩;rw[bh.out]at bd;have bj:=A.trans a0;clear ai d A a0;go_wp2;go_roundw
     case rel=>exact⟨j+1,bi,bn,kH,by go_num,by rw[Nat.mul_add],bj,by rw[Nat.mul_add];exact bd⟩
     case measure=>simp[intOf];omega
    ·have e:j=8:=kH;subst e;have a3:=IA V 8 kE;rw[Iz]at d a3;obtain⟨L,rfl,b0,b1⟩:∃g,aX=some ⟨g,0,none⟩/\u.1.size<=g/\g<wr.1.size:=by
      rcases d.2 with⟨_,b5⟩|⟨g,bH,bP,e,bt,bu,_⟩
      ·omega
      ·cases e;exact⟨g,rfl,bt,(k6.1 bu).1⟩
     have z:V.bytes.length=32:=by have:=d.len;omega
     have a6:∀j ah,(ob V.bytes)[j]?=some ah->wr.cell? ⟨L,0+j,none⟩=some ah:=fun j ah C=>by
      have M:j<32:=by have:=(lb.1 C).1;rw[au]at this;omega
      rw[ld,sD d j kH];exact C
     have bb:=(G.out.1.only ab.out.2 kH).below A;have be:(prog.info? 32).map (·.size)=some (ob V.bytes).toArray.size:=by rw[aE,z];exact aJ
     have bF:(prog.info? 32).map (·.size)=some (ob V.bytes).length:=by rw[au,z];exact aJ
     have bz:=bb.setRow (ob V.bytes);have F:=aN wr w.1.size (ob V.bytes).toArray;have bE:OnlyB b w (wr.setRow w.1.size (ob V.bytes).toArray):=by
      have t:=((Below.onlyB G.out.2.1 b).trans ab.out.2).trans (Below.onlyB A b);exact⟨F.os.trans t.os,F.tape.trans t.tape,F.output.trans t.output,k2 t.size F.size,fun q a9 l=>(F.block q (lk a9 t.size) kH).trans (t.block q a9 l)⟩
     have bR:∀w,(Instr.arrayAt 32 (.slice (some ⟨L,0,none⟩) 32 ae)).run prog w= .ok (.pointer (some ⟨L,0,none⟩)) w:=fun w=>IB _ 32 ae kE w;go_upto_region 12 with fail
     go_wp2_with (first|(refine dm rfl 32 _ rfl L 0 rfl (ob V.bytes) _ a6 qa rfl bF ?_)|(refine qB rfl 32 _ _ rfl w.1.size (ob V.bytes).toArray rfl rfl 32 _ bb be ?o1 (bQ _) ?_))
     case o1=>rw[aE,aE,z];rfl
     refine p6 (v:=hA V.bytes) ?_ rfl ⟨by rw[ab.out.1],bE⟩;exact r3 results200 _ _ w.1.size 32 (ob V.bytes).toArray (0,0) _ rfl bz qa rfl be
theorem ym:∀(l:List Nat)(j:Nat),j<4*l.length->(l.flatMap fP).getD j 0=(fP (l.getD (j/4) 0)).getD (j%4) 0
 |[],j,h=>by simp at h
 |x::xs,j,h=>by
  rw[List.flatMap_cons];by_cases a:j<4
  ·rw[Nat.div_eq_of_lt a,Nat.mod_eq_of_lt a];simp[List.getD,List.getElem?_append_left (show j< (fP x).length from a)]
  ·have b:j/4=(j-4)/4+1:=kH;have c:j%4=(j-4)%4:=kH;have d:(fP x).length=4:=rfl;rw[b,c,List.getD_cons_succ,<-ym xs (j-4) (by simp at h;omega)];simp[List.getD,List.getElem?_append_right (show(fP x).length<=j by omega),d]
theorem tj(v:R8)(j)(h:j<32):v.bytes.getD j 0=(fP (v.list.getD (j/4) 0)).getD (j%4) 0:=ym v.list j h
def yn:Value->Nat
 | .slice _ n _=>n
 |_=>0
theorem yo(a n c l w)(h:Bs w a n c l)(b7:n<=1048576):
 Calls prog 166 #[.slice a n c] w fun e w'=>e= .returned (hA (dj l))/\Below w.1.size w w':=by
 have b6:=h.len_eq;go_enter func166,ntmps166;have k0:=ao w 32 (ob (List.replicate 32 0)).toArray;have am:=bAl w (.cells (ob (List.replicate 32 0)).toArray 32);go_wp2_with fail;change Calls _ _ _ (w.alloc (.cells (ob (List.replicate 32 0)).toArray 32)) _;generalize w.alloc (.cells (ob (List.replicate 32 0)).toArray 32)=s at*;have ar:=h.below am;have Q:=kG ar (kR k0 am);refine(uF a n c l s ar b7).mono ?_;rintro e w1 ⟨bu,bF,rfl,S,U⟩;clear h ar k0 am;go_wp2_with (at_builtin;refine db rfl _ _ rfl s.1.size bu n bF l rfl ?own _ 1 1 [128] rfl ?bs ?len ?B ?_)
 case own=>exact rc U _
 case bs=>exact cZ w1 128 kH kH
 case len=>omega
 case B=>have:=S.size;simp;omega
 intro bv bH cn bh a4 _;have Y:=(S.alloc S.size _).trans a4;clear U S a4;go_wp2;go_loopw [3] (fun o wr=> ∃k a c,k<=fQ n/\o= .slice a (n+1+k) c/\Below s.1.size s wr/\Own s.1.size wr a (n+1+k) c (fi l k)) (fun o _=>n+1+fQ n-yn o)
 case atStart=>exact⟨0,bv,bH,kX _,rfl,Y,by rw[vM];exact bh⟩
 case round=>
  clear bh Y;obtain⟨k,a3,a8,y,rfl,d,m⟩:=hrel;have aO:=rv n;have be:fQ n<64:=m8 _ kH;by_cases L:k<fQ n
  ·have bd:(((n+1+k:Nat):Int)%64 !=56)=true:=by
    have:(n+1+k)%64≠56:=by unfold fQ at L;omega
    simp;omega
   clear aO;go_wp2_with (at_builtin;refine db rfl _ _ rfl s.1.size a3 (n+1+k) a8 (fi l k) rfl ?own _ 1 1 [0] rfl ?bs ?len ?B ?_)
   case own=>exact rc m _
   case bs=>exact cZ wr 0 kH kH
   case len=>omega
   case B=>have:=d.size;simp;omega
   intro bw bN co bi a5 _;have H:=(d.alloc d.size _).trans a5;rw[vN]at bi;clear m d a5;go_wp2;go_roundw
   case rel=>exact⟨k+1,bw,bN,kH,rfl,H,bi⟩
   case measure=>simp[yn];omega
  ·have K:k=fQ n:=kH;have bd:(((n+1+k:Nat):Int)%64 !=56)=false:=by
    have:(n+1+k)%64=56:=by rw[K];exact aO
    simp;omega
   have bp:Hid _:=K;have b5:k<64:=kH;clear aO be L K y;have C:=oA (8*n) 8 wr kH kH;rw[show((8*n:Nat):Int)=8*(n:Int)by omega]at C;have b0:=Q.out.1.byte;go_wp2_with fail;refine C.mono ?_;rintro e cp ⟨ci,rfl,H,bj⟩;have ai:=m.below H;have F:=d.trans (H.mono d.size);clear C m d H;go_wp2_with (at_builtin;refine db rfl _ _ rfl s.1.size a3 (n+1+k) a8 (fi l k) rfl ai _ 8 8 (bW (8*n) 8) rfl (bj.bs (iG _ _)) ?len ?B ?_)
   case len=>omega
   case B=>exact F.size
   intro cd ce P V a6 _;have Z:=F.trans a6;have an:fi l k++bW (8*n) 8=fA l:=by rw[bp.out,<-b6,vO]
   rw[an]at V;have b1:=V.len;have bb:=Eu l;have ae:IsB (fA l):=by rw[<-an];exact cY (Fa b0 _) (iG _ _)
   clear an ai bj F a6 bd;generalize ad:fA l=M at*;have ck:n+1+k+8<=1050000:=kH;generalize n+1+k+8=N at*;have bk:=V.bs ae;have E:=kG Z bk;clear V Z bk;go_wp2;go_loopw [4,5] (fun o i wr=> ∃q g c,64*q<=N/\i= .int .i64 ((64*q:Nat):Int)/\o= .slice (some ⟨g,0,none⟩) 8 c/\Below P.1.size P wr/\OwnI P.1.size wr (some ⟨g,0,none⟩) 8 c (rI (cW M q))) (fun _ i _=>N-(intOf i).toNat)
   case atStart=>
    refine⟨0,_,_,kX _,rfl,rfl,bAl _ _,?_⟩;exact mF P _ (rI iw) 8 rfl rfl kH _ kE
   case round=>
    obtain⟨q,g,bP,cl,rfl,rfl,d,m⟩:=hrel;by_cases L:64*q<N
    ·have bc:64*q+64<=N:=kH;obtain⟨b,off,rfl,aH⟩:=(E.out.2.below d).part (64*q) (64*q+64) kH bc;have b3:=E.out.2.le;rw[show 64*q+64-64*q=64 by omega]at aH;have a2:=Hv P.1.size g bP (cW M q) _ _ (blk M q) wr (vH M q) m aH;have cb:(64*q:Int)< (N:Int):=kH;clear aH;go_wp2_with fail;refine a2.mono ?_;rintro e W ⟨ap,a9,rfl,z,O⟩;have bx:=d.trans (z.mono d.size);have b9:=O.mono d.size;clear a2 z O m d;go_wp2;go_roundw
     case rel=>exact⟨q+1,ap,a9,kH,by go_num,rfl,bx,b9⟩
     case measure=>simp[intOf];omega
    ·have b2:=vH M q;have bq:Hid (dj l=(cW M q).bytes):=by
      show _= _;rw[dj,ad,show M.length/64=q by omega]
     have G:=E.out.1.trans (d.mono E.out.1.size);have ah:g<wr.1.size:=by
      obtain⟨ch,bS,_,bY⟩:=m.addr kH;cases bS;exact bY
     have ag:∀j,j<8->wr.cell? ⟨g,j,none⟩=some (.int .i64 ((cW M q).list.getD j 0:Nat)):=fun j x=>by rw[m.cell j x,xB _ j x]
     generalize cW M q=r at*;have bf:=Q.out.2.1.below G;have f:=kG G (kR bf (kR ag ah));clear G bf ag ah m d E ad bb ae b1;go_upto_region 10 with fail
     go_wp2_with (refine aL rfl 32 _ _ rfl _ _ (ob (List.replicate 32 0)).toArray _ rfl rfl ?sz ?sz2 ?all ?_)
     case sz=>rw[aE];exact aJ
     case sz2=>rfl
     case all=>exact bQ _
     have u:r.bytes.length=32:=by simp[R8.bytes,R8.list,fP]
     have I:=tj r;have af:IsB r.bytes:=by
      intro j;by_cases x:j<32
      ·rw[tj r j x,<-oz];exact iG _ _ _
      ·simp[List.getD,u,x]
     have bg:=ao wr 32 (ob (List.replicate 32 0)).toArray;have D:=bAl wr (.cells (ob (List.replicate 32 0)).toArray 32);change Code.wp _ _ _ _ (wr.alloc (.cells (ob (List.replicate 32 0)).toArray 32));generalize wr.alloc (.cells (ob (List.replicate 32 0)).toArray 32)=bt at*;have ab:∀v:World,OnlyB wr.1.size bt v->∀j,j<8->v.cell? ⟨g,j,none⟩=some (.int .i64 (r.list.getD j 0:Nat)):=fun v T j x=>by
      rw[r8 (a:=⟨g,j,none⟩) (T.block g (lk f.out.2.2.2 D.size) (Nat.ne_of_lt f.out.2.2.2)),D.cell (p:=⟨g,j,none⟩) f.out.2.2.2];exact f.out.2.2.1 j x
     have ac:∀v:World,OnlyB wr.1.size bt v->Blk v 32 w.1.size (ob (List.replicate 32 0))/\Below s.1.size s v:=fun v T=>
      ⟨(f.out.2.1.below D).only T (Nat.ne_of_lt f.out.2.1.lt),(f.out.1.trans (D.mono f.out.1.size)).trans (T.below f.out.1.size (k2 f.out.1.size D.size))⟩
     generalize wr.1.size=t at*;have R:=kG bg (kR I (kR af (kR ab ac)));clear bg D I af ab ac;go_loopw [7] (fun i bn=> ∃j,j<=32/\i= .int .i64 (j:Nat)/\OnlyB t bt bn/\Blk bn 32 t (ob (gE r.bytes j))) (fun i _=>32-(intOf i).toNat)
     case atStart=>exact⟨0,kX _,rfl,OnlyB.refl _ _,by rw[uo,u];exact R.out.1⟩
     case round=>
      obtain⟨j,x,rfl,A,y⟩:=hrel;by_cases aw:j<32
      ·have bR:=R.out.2.2.2.1 wr A (j/4) kH;have ba:=R.out.2.1 j aw;have hx:=b2.at (j/4);have a7:wr.cell? ⟨t,j,none⟩=some (.int .u8 ((gE r.bytes j).getD j 0)):=by rw[y.cell];exact de? _ j (by rw[un _ _ kH];omega)
       have cm:((j:Int)/4)<8:=kH;have b4:(j:Int)<32:=kH;generalize r.list.getD (j/4) 0=cc at*;have C:=oA cc 4 wr kH kH;go_wp2_with fail;refine C.mono ?_;rintro e W ⟨ap,rfl,z,O⟩;have J:=y.below z;have ak:=A.trans (Below.onlyB z t);have cg:=J.free j;have a9:W.cell? ⟨t,j,none⟩= _:=(z.cell (p:=⟨t,j,none⟩) y.lt).trans a7;have cf:W.cell? ⟨ap,j%4,none⟩=some (.int .u8 (r.bytes.getD j 0)):=by
        rw[sD O (j%4) kH,de? _ _ (by rw[km];omega),ba,oz]
       have a1:=J.set j (.int .u8 (r.bytes.getD j 0));rw[qA,uq _ _ kH]at a1;have bl:=ak.trans (aB W t j (.int .u8 (r.bytes.getD j 0)));have X:=kG a1 bl;generalize r.bytes.getD j 0=cq at*;clear a1 bl C bR a7 y A J ak O z ba;go_wp2;go_roundw
       case rel=>exact⟨j+1,kH,by go_num,X.out.2,X.out.1⟩
       case measure=>simp[intOf];omega
      ·have e:j=32:=kH;subst e;rw[up _ _ u.symm]at y;obtain⟨aX,bE⟩:=R.out.2.2.2.2 wr A;have a0:(prog.info? 32).map (·.size)=some (ob r.bytes).toArray.size:=by rw[aE,u];exact aJ
       have b8:=aX.setRow (ob r.bytes);have ca:=aN wr w.1.size (ob r.bytes).toArray;go_upto_region 15 with fail
       go_wp2_with (first|(refine qi rfl 32 _ rfl t rfl 32 (ob r.bytes).toArray (0,0) _ y qa rfl a0 ?_)|(refine qB rfl 32 _ _ rfl w.1.size (ob r.bytes).toArray rfl rfl 32 _ aX a0 ?o1 (bQ _) ?_))
       case o1=>rw[show(ob r.bytes).length=32 by rw[au,u]];rfl
       have bz:=
        (Q.out.2.2.trans (bE.mono Q.out.2.2.size)).trans (ca.below kE (Nat.le_of_lt aX.lt))
       refine p6 (v:=hA r.bytes) ?_ rfl ⟨by rw[bq.out],bz⟩;exact r3 results166 _ _ w.1.size 32 (ob r.bytes).toArray (0,0) _ rfl b8 qa rfl a0
