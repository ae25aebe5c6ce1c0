import Derived.Test.YthcmenajdcbnnaaGreatDoorAtTyPl
import Derived.StillTailTactics
import Derived.Deep.RegionLaw
import Derived.Test.YthcmenajdcbnnaaGreatDoorAtParFits
set_option linter.unusedSimpArgs false
set_option linter.unusedVariables false
set_option maxRecDepth 100000
set_option maxHeartbeats 99000000
/- Whether statements end: E3, of package types and of the document's answer to it. -/
namespace Go.Proofs.YthcmenajdcbnnaaGreatDoor
open Lib (hid)
open Go.RowKit
theorem Oe{p:Prop}(h:p:=by
 go_quiet ((go_at_call 53;exact Calls.quiet_of_same (zt (i.out _) false rfl)))
 go_wp2;go_ret;exact⟨rfl,_,rfl⟩):p:=h
abbrev stV(k ty:Int)(s:ByteArray)(v3 a b:Value):Value:=.agg #[.int .i64 k,.int .i64 ty,.string s,v3,a,b]
theorem endless_any(B:Nat)(ty:Int)(name:ByteArray)(args:List Ex)(q:args.length=1)(thn:List St)(m:Nat)(hok:stsOK thn m=true)(v3 x:Value)(A5:Option Addr)(n5 c5:Nat)(w:World)(E:B<=w.heap.size)(j:xL B w v3 args)(k:SlS B w x thn)(r:Bool)(u:(trueE args && !jM thn)=r):
 Calls Tryz.prog 111 #[stV 5 ty name v3 x (.slice A5 n5 c5)] w fun e w'=>e=.returned (.bool r)/\Below w.heap.size w w':=by
 obtain⟨a,rfl⟩:=List.length_eq_one_iff.1 q;obtain⟨N,D,rfl,_⟩:=j.form;obtain⟨A4,c4,rfl,_⟩:=k.form;obtain⟨c,G,d,H,C⟩:=a;obtain⟨g,o,v',rfl,O,I,J,K,L,M,_⟩:=j.cells (i:=0) rfl;rw[show o+0*5=o by omega]at I J K L M;obtain⟨b,hb⟩:∃b,jM thn=b:=⟨_,rfl⟩
 have v:(decide (c=2) && decide (d=1) && !b)=r:=by rw[<-u,trueE,hb]
 have h:=hid v;have z:=hid hb;have A:=hid hok;have y:=hid (k.below ((Below.refl B w).alloc E (kG 5 ty name (.slice (some ⟨g,o,none⟩) 1 D) (.slice A4 thn.length c4) (.slice A5 n5 c5))) Zr);have P:g<w.heap.size:=I7
 have t:([Ex.mk c G d H C]:List Ex).length=1:=rfl;rw[t];clear u v hb hok j k t q;by_cases l:c=2
 .subst l
  by_cases p:d=1
  .subst p
   go_enter Tryz.func111,Tryz.ntmps111;go_wp2_with (go_at_call 137;(with_reducible refine((breaks_all m).call A.out z.out I9 y.out).mono ?_);rintro e Q ⟨rfl,F⟩);go_ret;exact⟨zC (by rw[<-h.out];simp),(Zb.alloc Zr _).trans (F.mono Ia)⟩
  .have n1:(d == 1)=false:=by simp[p]
   go_enter Tryz.func111,Tryz.ntmps111;go_wp2_with (fail);go_ret;exact⟨zC (by rw[<-h.out];simp[p]),Zb.alloc Zr _⟩
 .have n2:(c == 2)=false:=by simp[l]
  go_enter Tryz.func111,Tryz.ntmps111;go_wp2_with (fail);go_ret;exact⟨zC (by rw[<-h.out];simp[l]),Zb.alloc Zr _⟩
theorem formS_while{ty:Int}{name:ByteArray}{a b c:Nat}{e:Bool}(d:zr 5 ty name a b c e=true):a=1:=by
 simp[zr]at d;exact d.1.2
theorem ends_step(m:Nat)(ih:∀m',m'+1=m->EnC 90 m'):EnC 90 m:=by
 intro B l b v w hok hb hB hl;obtain⟨A,c,rfl,hn⟩:=hl.form;have HL:=hid hl;have Q:=hid hb;have W:=hid hok;have HI:=hid ih;clear hl hb hok ih;go_enter Tryz.func90,Tryz.ntmps90;go_wp2_with (fail)
 go_loopw [7] (fun iv wr=>∃j:Nat,j<=l.length/\iv=.int .i64 j/\endSs (l.take j)=false/\Below w.heap.size w wr) (fun iv _=>l.length-(intOf iv).toNat)
 case atStart=>exact⟨0,Nat.zero_le _,rfl,by rw[List.take_zero,endSs],Below.refl _ _⟩
 case round=>
  obtain⟨j,hj,rfl,N,t⟩:=hrel;have K:=hid N;have d:=hid t;have O:=t.size;clear N;by_cases Z:j<l.length
  .obtain⟨⟨k,ty,name,args,thn,els⟩,S⟩:∃e,l[j]? =some e:=⟨_,List.getElem?_eq_getElem Z⟩
   obtain⟨g,o,v3,v4,v5,rfl,hg,h0,h1,h2,h3,h4,h5,hs,I,J⟩:=(HL.out.below (t.mono hB) Zr).cells S;obtain⟨P,R,rfl,_⟩:=hs.form;obtain⟨A4,c4,rfl,_⟩:=I.form;obtain⟨A5,c5,rfl,_⟩:=J.form;have z:=hid S;have ao:g<wr.heap.size:=I7
   have q:=stsOK_el W.out S;rw[kH]at q;simp only[Bool.and_eq_true,decide_eq_true_eq]at q;obtain⟨m',rfl⟩:∃m',m=m'+1:=⟨m-1,I7⟩
   rw[Nat.add_sub_cancel]at q;have C:=hid (HI.out m' rfl);have D:=hid q.1.2;have V:=hid q.2;have U:=hid q.1.1.1.2;have r:Below B wr (wr.alloc (kG k ty name (.slice P args.length R) (.slice A4 thn.length c4) (.slice A5 els.length c5))):=Zb.alloc I7 _;have X:=hid (hs.below r Zr);have E:=hid (I.below r Zr);have Y:=hid (J.below r Zr);obtain⟨b1,u⟩:∃b,endSs thn=b:=⟨_,rfl⟩
   obtain⟨b2,x⟩:∃b,endSs els=b:=⟨_,rfl⟩
   obtain⟨b3,y⟩:∃b,(trueE args && !jM thn)=b:=⟨_,rfl⟩
   have T:=hid u;have H2:=hid x;have H3:=hid y;clear S hs I J q r u x y t;have i:=hid (show endS (.mk k ty name args thn els)=(decide (k=8) || (decide (k=4) && (b1 && b2)) || (decide (k=5) && b3))by rw[endS,T.out,H2.out,H3.out]);by_cases H:k=8
   .subst H
    go_wp2_with (fail);go_ret;exact⟨zC Qu,d.out.alloc O _⟩
   .have n8:(k == 8)=false:=by simp[H]
    by_cases F:k=4
    .subst F
     cases b1
     .go_wp2_with (go_at_call 90;(with_reducible refine(C.out.call D.out T.out I9 E.out).mono ?_);rintro e w2 ⟨rfl,a⟩;have h:=(Below.refl wr.heap.size wr).alloc Zr (kG 4 ty name (.slice P args.length R) (.slice A4 thn.length c4) (.slice A5 els.length c5)) |>.trans (a.mono Ia);have p:=hid h;clear a h)
      go_roundw
      case rel=>exact⟨j+1,I7,by go_num,QF,d.out.trans (p.out.mono I7)⟩
      case measure=>simp[intOf];omega
     .cases b2
      all_goals
       go_wp2_with (first
        | (go_at_call 90;(with_reducible refine(C.out.call D.out T.out I9 E.out).mono ?_);rintro e w2 ⟨rfl,a⟩;have h:=(Below.refl wr.heap.size wr).alloc Zr (kG 4 ty name (.slice P args.length R) (.slice A4 thn.length c4) (.slice A5 els.length c5)) |>.trans (a.mono Ia);obtain⟨am,an⟩:=qK a;have ap:wr.heap.size<w2.heap.size:=Qe;have L:=hid (Y.out.below (a.mono I9) Zr);have p:=hid h;clear a h)
        | (go_at_call 90;(with_reducible refine(C.out.call V.out H2.out I7 L.out).mono ?_);rintro e w3 ⟨rfl,M⟩))
      .go_roundw
       case rel=>exact⟨j+1,I7,by go_num,QF,d.out.trans ((p.out.trans (M.mono I7)).mono I7)⟩
       case measure=>simp[intOf];omega
      .go_ret
       exact⟨zC Qu,d.out.trans ((p.out.trans (M.mono I7)).mono I7)⟩
    .have n4:(k == 4)=false:=by simp[F]
     by_cases G:k=5
     .subst G
      cases b3
      all_goals
       go_wp2_with (go_at_call 111;(with_reducible refine(endless_any B ty name args (formS_while U.out) thn m' D.out _ _ _ _ _ _ I9 X.out E.out _ H3.out).mono ?_);rintro e w2 ⟨rfl,a⟩;have h:=(Below.refl wr.heap.size wr).alloc Zr (kG 5 ty name (.slice P args.length R) (.slice A4 thn.length c4) (.slice A5 els.length c5)) |>.trans (a.mono Ia);have p:=hid h;clear a h)
      .go_roundw
       case rel=>exact⟨j+1,I7,by go_num,QF,d.out.trans (p.out.mono I7)⟩
       case measure=>simp[intOf];omega
      .go_ret
       exact⟨zC Qu,d.out.trans (p.out.mono I7)⟩
     .have n5:(k == 5)=false:=by simp[G]
      go_wp2_with (fail);go_roundw
      case rel=>exact⟨j+1,I7,by go_num,by rw[vq z.out,K.out,i.out];simp[H,F,G],d.out.alloc O _⟩
      case measure=>simp[intOf];omega
  .go_wp2_with (fail)
   go_ret;exact⟨zC (by rw[<-Q.out,<-K.out,List.take_of_length_le I7]),d.out⟩
theorem ends_all:∀m,EnC 90 m
 | 0=>ends_step 0 fun _ a=>I7
 | m+1=>ends_step (m+1) fun m' a=>by
   obtain rfl:m'=m:=I7
   exact ends_all m'
def jP(p:Pr)(vars:List Pa)(ft k ty:Int)(name:ByteArray)(args:List Ex)(loop:Bool):Int:=
 if k=1 then kE p vars args ty
 else if k=2 then(match kI vars name with|none=>50|some t=>kE p vars args t)
 else if k=3 then(if(zb p.arrays name).isSome then kE p vars args 1 else 50)
 else if k=4\/k=5 then kE p vars args 2
 else if k=8 then kE p vars args ft
 else if k=9 then kE p vars args 1
 else if k=10 then(qx p vars (args.getD 0 jz)).2
 else if loop then 0 else 53
theorem qL{w:World}{g:Nat}{b c d e c4 c5:Value}{T:TypeId}(a:w.heap[g]? =some (.cells #[b,c,d,e,c4,c5] T (0,0))):w.cell? ⟨g,0,none⟩=some b/\w.cell? ⟨g,1,none⟩=some c/\w.cell? ⟨g,2,none⟩=some d/\w.cell? ⟨g,3,none⟩=some e/\w.cell? ⟨g,4,none⟩=some c4/\w.cell? ⟨g,5,none⟩=some c5:=
 ⟨(Lib.cell_of_heap a 0).trans rfl,(Lib.cell_of_heap a 1).trans rfl,(Lib.cell_of_heap a 2).trans rfl,(Lib.cell_of_heap a 3).trans rfl,(Lib.cell_of_heap a 4).trans rfl,(Lib.cell_of_heap a 5).trans rfl⟩
set_option linter.unusedSectionVars false
section
variable (B C b:Nat) (p:Pr) (vars:List Pa) (ty:Int) (name:ByteArray) (args:List Ex) (loop:Bool) (A4:Option Addr) (n4 c4:Nat) (A5:Option Addr) (n5 c5:Nat) (r:Int) (v3 v0 v1 v:Value) (gv n:Int) (w:World)
variable (hE:Env B C p vars v0 v1 v w) (hb:w.heap[b]? =some (ckO v0 v1 gv n)) (hl:xL B w v3 args) (hok:qC args 100=true) (hp:Few p)
include hE hb hl hok hp in
theorem stmt_let(d:jP p vars gv 1 ty name args loop=r):Calls Tryz.prog 109 #[.pointer (some ⟨b,0,none⟩),stV 1 ty name v3 (.slice A4 n4 c4) (.slice A5 n5 c5),v,.bool loop] w fun e w'=>e=.returned (.int .i64 r)/\Below w.heap.size w w':=by
 have m:=hid (show kE p vars args ty=r by rw[<-d];simp[jP]);obtain⟨x,K,y,L,q,rfl,rfl,rfl⟩:=hE.form;obtain⟨g,t,rfl,_⟩:=hl.form;have c:=zB hb;have a:Below w.heap.size w (w.alloc (kG 1 ty name (.slice g args.length t) (.slice A4 n4 c4) (.slice A5 n5 c5))):=Zb.alloc Zr _;have o:=hid a;have i:=hid (hE.below a);have D:=hid (hE.below a.drew);have h:=hid ((a.block b c).trans hb);have z:=hid ((a.drew.block b c).trans hb);have j:=hid (hl.below (a.mono hE.hB) Zr);have E:=hid (hl.below (a.drew.mono hE.hB) Zr);have k:=hid hok;have l:=hid hp;have A:=hid hE;obtain⟨⟨F,G,H,I⟩,J⟩:=zR hb;clear hE hb hl hok hp d a;go_enter Tryz.func109,Tryz.ntmps109;go_wp2_with (go_at_call 134;(with_reducible refine(xW B C b p vars args _ _ _ _ _ _ gv n _ i.out h.out j.out k.out l.out m.out).mono ?_);rintro e M ⟨rfl,u⟩);go_ret;exact⟨rfl,o.out.trans (u.mono Ic)⟩
include hE hb hl hok hp in
theorem stmt_if(d:jP p vars gv 4 ty name args loop=r):Calls Tryz.prog 109 #[.pointer (some ⟨b,0,none⟩),stV 4 ty name v3 (.slice A4 n4 c4) (.slice A5 n5 c5),v,.bool loop] w fun e w'=>e=.returned (.int .i64 r)/\Below w.heap.size w w':=by
 have m:=hid (show kE p vars args 2=r by rw[<-d];simp[jP]);obtain⟨x,K,y,L,q,rfl,rfl,rfl⟩:=hE.form;obtain⟨g,t,rfl,_⟩:=hl.form;have c:=zB hb;have a:Below w.heap.size w (w.alloc (kG 4 ty name (.slice g args.length t) (.slice A4 n4 c4) (.slice A5 n5 c5))):=Zb.alloc Zr _;have o:=hid a;have i:=hid (hE.below a);have D:=hid (hE.below a.drew);have h:=hid ((a.block b c).trans hb);have z:=hid ((a.drew.block b c).trans hb);have j:=hid (hl.below (a.mono hE.hB) Zr);have E:=hid (hl.below (a.drew.mono hE.hB) Zr);have k:=hid hok;have l:=hid hp;have A:=hid hE;obtain⟨⟨F,G,H,I⟩,J⟩:=zR hb;clear hE hb hl hok hp d a;go_enter Tryz.func109,Tryz.ntmps109;go_wp2_with (go_at_call 134;(with_reducible refine(xW B C b p vars args _ _ _ _ _ _ gv n _ i.out h.out j.out k.out l.out m.out).mono ?_);rintro e M ⟨rfl,u⟩);go_ret;exact⟨rfl,o.out.trans (u.mono Ic)⟩
include hE hb hl hok hp in
theorem stmt_while(d:jP p vars gv 5 ty name args loop=r):Calls Tryz.prog 109 #[.pointer (some ⟨b,0,none⟩),stV 5 ty name v3 (.slice A4 n4 c4) (.slice A5 n5 c5),v,.bool loop] w fun e w'=>e=.returned (.int .i64 r)/\Below w.heap.size w w':=by
 have m:=hid (show kE p vars args 2=r by rw[<-d];simp[jP]);obtain⟨x,K,y,L,q,rfl,rfl,rfl⟩:=hE.form;obtain⟨g,t,rfl,_⟩:=hl.form;have c:=zB hb;have a:Below w.heap.size w (w.alloc (kG 5 ty name (.slice g args.length t) (.slice A4 n4 c4) (.slice A5 n5 c5))):=Zb.alloc Zr _;have o:=hid a;have i:=hid (hE.below a);have D:=hid (hE.below a.drew);have h:=hid ((a.block b c).trans hb);have z:=hid ((a.drew.block b c).trans hb);have j:=hid (hl.below (a.mono hE.hB) Zr);have E:=hid (hl.below (a.drew.mono hE.hB) Zr);have k:=hid hok;have l:=hid hp;have A:=hid hE;obtain⟨⟨F,G,H,I⟩,J⟩:=zR hb;clear hE hb hl hok hp d a;go_enter Tryz.func109,Tryz.ntmps109;go_wp2_with (go_at_call 134;(with_reducible refine(xW B C b p vars args _ _ _ _ _ _ gv n _ i.out h.out j.out k.out l.out m.out).mono ?_);rintro e M ⟨rfl,u⟩);go_ret;exact⟨rfl,o.out.trans (u.mono Ic)⟩
include hE hb hl hok hp in
theorem stmt_print(d:jP p vars gv 9 ty name args loop=r):Calls Tryz.prog 109 #[.pointer (some ⟨b,0,none⟩),stV 9 ty name v3 (.slice A4 n4 c4) (.slice A5 n5 c5),v,.bool loop] w fun e w'=>e=.returned (.int .i64 r)/\Below w.heap.size w w':=by
 have m:=hid (show kE p vars args 1=r by rw[<-d];simp[jP]);obtain⟨x,K,y,L,q,rfl,rfl,rfl⟩:=hE.form;obtain⟨g,t,rfl,_⟩:=hl.form;have c:=zB hb;have a:Below w.heap.size w (w.alloc (kG 9 ty name (.slice g args.length t) (.slice A4 n4 c4) (.slice A5 n5 c5))):=Zb.alloc Zr _;have o:=hid a;have i:=hid (hE.below a);have D:=hid (hE.below a.drew);have h:=hid ((a.block b c).trans hb);have z:=hid ((a.drew.block b c).trans hb);have j:=hid (hl.below (a.mono hE.hB) Zr);have E:=hid (hl.below (a.drew.mono hE.hB) Zr);have k:=hid hok;have l:=hid hp;have A:=hid hE;obtain⟨⟨F,G,H,I⟩,J⟩:=zR hb;clear hE hb hl hok hp d a;go_enter Tryz.func109,Tryz.ntmps109;go_wp2_with (go_at_call 134;(with_reducible refine(xW B C b p vars args _ _ _ _ _ _ gv n _ i.out h.out j.out k.out l.out m.out).mono ?_);rintro e M ⟨rfl,u⟩);go_ret;exact⟨rfl,o.out.trans (u.mono Ic)⟩
include hE hb hl hok hp in
theorem stmt_return(k:jP p vars gv 8 ty name args loop=r):Calls Tryz.prog 109 #[.pointer (some ⟨b,0,none⟩),stV 8 ty name v3 (.slice A4 n4 c4) (.slice A5 n5 c5),v,.bool loop] w fun e w'=>e=.returned (.int .i64 r)/\Below w.heap.size w w':=by
 have y:=hid (show kE p vars args gv=r by rw[<-k];simp[jP]);obtain⟨E,P,F,Q,q,rfl,rfl,rfl⟩:=hE.form;obtain⟨c,d,rfl,_⟩:=hl.form;have h:=zB hb;have a:Below w.heap.size w (w.alloc (kG 8 ty name (.slice c args.length d) (.slice A4 n4 c4) (.slice A5 n5 c5))):=Zb.alloc Zr _;have j:=hid a;have I:=hid (hE.below a);have m:=hid (hE.below a.drew);have G:=hid ((a.block b h).trans hb);have l:=hid ((a.drew.block b h).trans hb);have J:=hid (hl.below (a.mono hE.hB) Zr);have o:=hid (hl.below (a.drew.mono hE.hB) Zr);have t:=hid hok;have u:=hid hp;have H:=hid hE;obtain⟨⟨K,L,M,N⟩,O⟩:=zR hb;clear hE hb hl hok hp k a;go_enter Tryz.func109,Tryz.ntmps109;go_wp2_with (fail)
 go_region_held3 (fun w'=>w'.cell? ⟨b,2,none⟩=some (.int .i64 gv)/\w'.cell? ⟨w.heap.size,3,none⟩=some (.slice c args.length d))
  (first
    | (go_split_ands;refine⟨?_,?_⟩ <;>(first|(rw[D];assumption)|(rw[A];simp;done)))
    | go_keep)
  (first
    | (go_at_call 134
       (refine(xW B C b p vars args _ _ _ _ _ _ gv n (w:=(w.alloc (kG 8 ty name (.slice c args.length d) (.slice A4 n4 c4) (.slice A5 n5 c5))).drew) m.out l.out o.out t.out u.out y.out).mono ?_)
       rintro e i ⟨rfl,g⟩;have D:∀x,i.cell? ⟨b,x,none⟩=w.cell? ⟨b,x,none⟩:=fun x=>(j.out.trans (Zb.drew.trans (g.mono Im))).cell (p:=⟨b,x,none⟩) h
       have A:∀x,i.cell? ⟨w.heap.size,x,none⟩=(w.alloc (kG 8 ty name (.slice c args.length d) (.slice A4 n4 c4) (.slice A5 n5 c5))).cell? ⟨w.heap.size,x,none⟩:=fun x=>g.cell (p:=⟨w.heap.size,x,none⟩) IR
       have z:=hid (show Below w.heap.size w i from j.out.trans (Zb.drew.trans (g.mono Im)))
       clear g))
 go_wp2_with (fail);go_ret;exact⟨rfl,z.out⟩
include hE hb hl hok hp in
theorem stmt_set_no(d:kI vars name=none)(h:jP p vars gv 2 ty name args loop=r):Calls Tryz.prog 109 #[.pointer (some ⟨b,0,none⟩),stV 2 ty name v3 (.slice A4 n4 c4) (.slice A5 n5 c5),v,.bool loop] w fun e w'=>e=.returned (.int .i64 r)/\Below w.heap.size w w':=by
 have k:=hid (show(50 :Int)=r by rw[<-h];simp[jP,d]);have l:=hid ((xV name vars).symm.trans d);clear d;obtain⟨u,M,x,N,q,rfl,rfl,rfl⟩:=hE.form;obtain⟨i,o,rfl,_⟩:=hl.form;have g:=zB hb;have a:Below w.heap.size w (w.alloc (kG 2 ty name (.slice i args.length o) (.slice A4 n4 c4) (.slice A5 n5 c5))):=Zb.alloc Zr _;have m:=hid a;have j:=hid (hE.below a);have B:=hid (hE.below a.drew);have y:=hid ((a.block b g).trans hb);have z:=hid ((a.drew.block b g).trans hb);have D:=hid (hl.below (a.mono hE.hB) Zr);have E:=hid (hl.below (a.drew.mono hE.hB) Zr);have F:=hid hok;have G:=hid hp;have A:=hid hE;obtain⟨⟨H,I,J,K⟩,L⟩:=zR hb;clear hE hb hl hok hp h a;go_enter Tryz.func109,Tryz.ntmps109
 go_wp2_with (go_at_call 110;(with_reducible refine(kC _ C _ _ _ _ name Zr (Fin.nil _ _) j.out.hs).mono ?_);rintro e w9 ⟨c,rfl⟩
              have t:e=.returned (.pointer none):=by
               rw[l.out]at c;exact c
              clear c
              subst t)
 go_ret;exact⟨jY k.out,m.out⟩
include hE hb hl hok hp in
theorem stmt_set(t:Int)(l:kI vars name=some t)(u:jP p vars gv 2 ty name args loop=r):Calls Tryz.prog 109 #[.pointer (some ⟨b,0,none⟩),stV 2 ty name v3 (.slice A4 n4 c4) (.slice A5 n5 c5),v,.bool loop] w fun e w'=>e=.returned (.int .i64 r)/\Below w.heap.size w w':=by
 have G:=hid (show kE p vars args t=r by rw[<-u];simp[jP,l]);have H:=hid ((xV name vars).symm.trans l);clear l;obtain⟨O,Y,P,Z,q,rfl,rfl,rfl⟩:=hE.form;obtain⟨c,d,rfl,_⟩:=hl.form;have j:=zB hb;have a:Below w.heap.size w (w.alloc (kG 2 ty name (.slice c args.length d) (.slice A4 n4 c4) (.slice A5 n5 c5))):=Zb.alloc Zr _;have m:=hid a;have z:=hid (hE.below a);have A:=hid (hE.below a.drew);have Q:=hid ((a.block b j).trans hb);have y:=hid ((a.drew.block b j).trans hb);have S:=hid (hl.below (a.mono hE.hB) Zr);have D:=hid (hl.below (a.drew.mono hE.hB) Zr);have E:=hid hok;have F:=hid hp;have R:=hid hE;obtain⟨⟨T,U,V,W⟩,X⟩:=zR hb;clear hE hb hl hok hp u a;go_enter Tryz.func109,Tryz.ntmps109
 go_wp2_with (go_at_call 110;(with_reducible refine(kC _ C _ _ _ _ name Zr (Fin.nil _ _) z.out.hs).mono ?_);rintro e w9 ⟨k,rfl⟩
              have J:∃g,e=.returned (.pointer (some ⟨g,0,none⟩))/\g<(w.alloc (kG 2 ty name (.slice c args.length d) (.slice A4 n4 c4) (.slice A5 n5 c5))).heap.size/\(w.alloc (kG 2 ty name (.slice c args.length d) (.slice A4 n4 c4) (.slice A5 n5 c5))).cell? ⟨g,1,none⟩=some (.int .i64 t):=by
               rw[H.out]at k;exact k
              clear k
              obtain⟨g,rfl,L,aa⟩:=J)
 go_region_held3 (fun w'=>w'.cell? ⟨g,1,none⟩=some (.int .i64 t)/\w'.cell? ⟨w.heap.size,3,none⟩=some (.slice c args.length d))
  (first
    | (go_split_ands;refine⟨?_,?_⟩ <;>(first|(rw[N];assumption)|(rw[M];simp;done)|(rw[K];assumption)))
    | go_keep)
  (first
    | (go_at_call 134
       (refine(xW B C b p vars args _ _ _ _ _ _ gv n (w:=(w.alloc (kG 2 ty name (.slice c args.length d) (.slice A4 n4 c4) (.slice A5 n5 c5))).drew) A.out y.out D.out E.out F.out G.out).mono ?_)
       rintro e i ⟨rfl,h⟩;have N:∀x,i.cell? ⟨b,x,none⟩=w.cell? ⟨b,x,none⟩:=fun x=>(m.out.trans (Zb.drew.trans (h.mono Im))).cell (p:=⟨b,x,none⟩) j
       have M:∀x,i.cell? ⟨w.heap.size,x,none⟩=(w.alloc (kG 2 ty name (.slice c args.length d) (.slice A4 n4 c4) (.slice A5 n5 c5))).cell? ⟨w.heap.size,x,none⟩:=fun x=>h.cell (p:=⟨w.heap.size,x,none⟩) IR
       have I:=hid (show Below w.heap.size w i from m.out.trans (Zb.drew.trans (h.mono Im)));have K:∀o,i.cell? ⟨g,o,none⟩=(w.alloc (kG 2 ty name (.slice c args.length d) (.slice A4 n4 c4) (.slice A5 n5 c5))).cell? ⟨g,o,none⟩:=fun o=>h.cell (p:=⟨g,o,none⟩) L
       clear h))
 go_wp2_with (fail);go_ret;exact⟨rfl,I.out⟩
include hE hb hl hok hp in
theorem stmt_put_no(j:zb p.arrays name=none)(m:jP p vars gv 3 ty name args loop=r):Calls Tryz.prog 109 #[.pointer (some ⟨b,0,none⟩),stV 3 ty name v3 (.slice A4 n4 c4) (.slice A5 n5 c5),v,.bool loop] w fun e w'=>e=.returned (.int .i64 r)/\Below w.heap.size w w':=by
 have y:=hid (show(50 :Int)=r by rw[<-m];simp[jP,j]);have u:=hid (show optI (zb p.arrays name)= -1 by rw[j];rfl);clear j;obtain⟨o,A,t,C,q,rfl,rfl,rfl⟩:=hE.form;obtain⟨d,h,rfl,_⟩:=hl.form;have i:=zB hb;have a:Below w.heap.size w (w.alloc (kG 3 ty name (.slice d args.length h) (.slice A4 n4 c4) (.slice A5 n5 c5))):=Zb.alloc Zr _;have l:=hid a;have I:=hid (hE.below a);have g:=hid (hE.below a.drew);have F:=hid ((a.block b i).trans hb);have G:=hid ((a.drew.block b i).trans hb);have J:=hid (hl.below (a.mono hE.hB) Zr);have K:=hid (hl.below (a.drew.mono hE.hB) Zr);have L:=hid hok;have M:=hid hp;have H:=hid hE;obtain⟨⟨N,O,P,Q⟩,R⟩:=zR hb;clear hE hb hl hok hp m a;go_enter Tryz.func109,Tryz.ntmps109;go_wp2_with (fail)
 go_region_held3 (fun w'=>w'.cell? ⟨b,0,none⟩=some (.slice o p.arrays.length A)/\w'.cell? ⟨b,1,none⟩=some (.slice t p.funcs.length C)/\w'.cell? ⟨w.heap.size,2,none⟩=some (.string name))
  (first
    | (go_split_ands;refine⟨?_,?_,?_⟩ <;>(first|(rw[E];assumption)|(rw[D];simp;done)))
    | go_keep)
  (first
    | (go_at_call 135
       (refine(array_is B p name _ u.out _ _ (w:=(w.alloc (kG 3 ty name (.slice d args.length h) (.slice A4 n4 c4) (.slice A5 n5 c5))).drew) g.out.hB g.out.ha g.out.hf).mono ?_)
       rintro e k ⟨rfl,c⟩;have E:∀x,k.cell? ⟨b,x,none⟩=w.cell? ⟨b,x,none⟩:=fun x=>(l.out.trans (Zb.drew.trans (c.mono Im))).cell (p:=⟨b,x,none⟩) i
       have D:∀x,k.cell? ⟨w.heap.size,x,none⟩=(w.alloc (kG 3 ty name (.slice d args.length h) (.slice A4 n4 c4) (.slice A5 n5 c5))).cell? ⟨w.heap.size,x,none⟩:=fun x=>c.cell (p:=⟨w.heap.size,x,none⟩) IR
       have z:=hid (show Below w.heap.size w k from l.out.trans (Zb.drew.trans (c.mono Im)))
       clear c))
 go_wp2_with (fail);go_ret;exact⟨jY y.out,z.out⟩
include hE hb hl hok hp in
theorem stmt_put(k:Nat)(o:zb p.arrays name=some k)(y:jP p vars gv 3 ty name args loop=r):Calls Tryz.prog 109 #[.pointer (some ⟨b,0,none⟩),stV 3 ty name v3 (.slice A4 n4 c4) (.slice A5 n5 c5),v,.bool loop] w fun e w'=>e=.returned (.int .i64 r)/\Below w.heap.size w w':=by
 have L:=hid (show kE p vars args 1=r by rw[<-y];simp[jP,o]);have G:=hid (show optI (zb p.arrays name)=(k:Int)by rw[o];rfl);clear o;obtain⟨z,N,A,O,q,rfl,rfl,rfl⟩:=hE.form;obtain⟨g,h,rfl,_⟩:=hl.form;have i:=zB hb;have a:Below w.heap.size w (w.alloc (kG 3 ty name (.slice g args.length h) (.slice A4 n4 c4) (.slice A5 n5 c5))):=Zb.alloc Zr _;have m:=hid a;have S:=hid (hE.below a);have l:=hid (hE.below a.drew);have D:=hid ((a.block b i).trans hb);have R:=hid ((a.drew.block b i).trans hb);have H:=hid (hl.below (a.mono hE.hB) Zr);have T:=hid (hl.below (a.drew.mono hE.hB) Zr);have J:=hid hok;have K:=hid hp;have t:=hid hE;obtain⟨⟨U,V,W,X⟩,Y⟩:=zR hb;clear hE hb hl hok hp y a;go_enter Tryz.func109,Tryz.ntmps109;go_wp2_with (fail)
 go_region_held3 (fun w'=>w'.cell? ⟨b,0,none⟩=some (.slice z p.arrays.length N)/\w'.cell? ⟨b,1,none⟩=some (.slice A p.funcs.length O)/\w'.cell? ⟨w.heap.size,2,none⟩=some (.string name))
  (first
    | (go_split_ands;refine⟨?_,?_,?_⟩ <;>(first|(rw[Q];assumption)|(rw[u];simp;done)))
    | go_keep)
  (first
    | (go_at_call 135
       (refine(array_is B p name _ G.out _ _ (w:=(w.alloc (kG 3 ty name (.slice g args.length h) (.slice A4 n4 c4) (.slice A5 n5 c5))).drew) l.out.hB l.out.ha l.out.hf).mono ?_)
       rintro e c ⟨rfl,d⟩;have Q:∀x,c.cell? ⟨b,x,none⟩=w.cell? ⟨b,x,none⟩:=fun x=>(m.out.trans (Zb.drew.trans (d.mono Im))).cell (p:=⟨b,x,none⟩) i
       have u:∀x,c.cell? ⟨w.heap.size,x,none⟩=(w.alloc (kG 3 ty name (.slice g args.length h) (.slice A4 n4 c4) (.slice A5 n5 c5))).cell? ⟨w.heap.size,x,none⟩:=fun x=>d.cell (p:=⟨w.heap.size,x,none⟩) IR
       have j:=hid (show Below w.heap.size w c from m.out.trans (Zb.drew.trans (d.mono Im)));have M:=hid (show Below w.heap.size ((w.alloc (kG 3 ty name (.slice g args.length h) (.slice A4 n4 c4) (.slice A5 n5 c5))).drew) c from d.mono Im);have Z:c.cell? ⟨w.heap.size,3,none⟩=some (.slice g args.length h):=by rw[u];simp
       have aa:w.heap.size<c.heap.size:=Ur
       clear d))
 have F:=hid (t.out.below j.out);have E:=hid ((j.out.block b i).trans ((m.out.block b i).symm.trans D.out));have I:=hid (H.out.below ((Zb.drew.trans (show Below w.heap.size _ c from M.out)).mono t.out.hB) Zr);go_wp2_with (go_at_call 134;(with_reducible refine(xW B C b p vars args _ _ _ _ _ _ gv n _ F.out E.out I.out J.out K.out L.out).mono ?_);rintro e ab ⟨rfl,P⟩);go_ret;exact⟨rfl,j.out.trans (P.mono j.out.size)⟩
include hE hb hl hok hp in
theorem stmt_do(W:args.length=1)(I:jP p vars gv 10 ty name args loop=r):Calls Tryz.prog 109 #[.pointer (some ⟨b,0,none⟩),stV 10 ty name v3 (.slice A4 n4 c4) (.slice A5 n5 c5),v,.bool loop] w fun e w'=>e=.returned (.int .i64 r)/\Below w.heap.size w w':=by
 obtain⟨⟨h,j,i,k,as'⟩,l⟩:∃e,args[0]? =some e:=⟨_,List.getElem?_eq_getElem I7⟩
 obtain⟨⟨t,f⟩,A⟩:∃r,qx p vars (.mk h j i k as')=r:=⟨_,rfl⟩
 have H:args.getD 0 jz=.mk h j i k as':=by
  rw[List.getD_eq_getElem?_getD,l];rfl
 have au:0<args.length:=I7
 have S:=hid A;have P:=hid (ue hok l);have D:=hid l;have R:=hid (show f=r by rw[<-I];rw[jP,if_neg I8,if_neg I8,if_neg I8,if_neg I8,if_neg I8,if_neg I8,if_pos rfl,H,A]);clear W H A l;obtain⟨J,U,K,V,q,rfl,rfl,rfl⟩:=hE.form;obtain⟨L,c,rfl,_⟩:=hl.form;have y:=zB hb;have a:Below w.heap.size w (w.alloc (kG 10 ty name (.slice L args.length c) (.slice A4 n4 c4) (.slice A5 n5 c5))):=Zb.alloc Zr _;have F:=hid a;have ai:=hid (hE.below a);have N:=hid (hE.below a.drew);have ag:=hid ((a.block b y).trans hb);have ah:=hid ((a.drew.block b y).trans hb);have E:=hid (hl.below (a.mono hE.hB) Zr);have aj:=hid (hl.below (a.drew.mono hE.hB) Zr);have ak:=hid hok;have Q:=hid hp;have M:=hid hE;obtain⟨⟨al,am,an,ao⟩,ap⟩:=zR hb;clear hE hb hl hok hp I a;go_enter Tryz.func109,Tryz.ntmps109;obtain⟨g,o,v',rfl,aq,aa,ab,ad,ae,af,z⟩:=E.out.cells D.out;obtain⟨C,G,rfl,_⟩:=z.form;rw[show o+0*5=o by omega]at aa ab ad ae af;have ar:g<w.heap.size:=by have:=M.out.hB;omega
 have O:=hid (show ExV B (w.alloc (kG 10 ty name (.slice (some ⟨g,o,none⟩) args.length c) (.slice A4 n4 c4) (.slice A5 n5 c5))).drew (.mk h j i k as') (.agg #[.int .i64 h,.int .i64 j,.int .i64 i,.string k,.slice C as'.length G])from⟨_,rfl,E.out.range D.out,z.below Zb.drew Zr⟩);clear z;go_wp2_with (fail)
 go_region_held3 (fun w'=>w'.cell? ⟨b,0,none⟩=some (.slice J p.arrays.length U)/\w'.cell? ⟨b,1,none⟩=some (.slice K p.funcs.length V)/\w'.cell? ⟨w.heap.size,3,none⟩=some (.slice (some ⟨g,o,none⟩) args.length c)/\w'.cell? ⟨g,o,none⟩=some (.int .i64 h)/\w'.cell? ⟨g,o+1,none⟩=some (.int .i64 j)/\w'.cell? ⟨g,o+2,none⟩=some (.int .i64 i)/\w'.cell? ⟨g,o+3,none⟩=some (.string k)/\w'.cell? ⟨g,o+4,none⟩=some (.slice C as'.length G))
  (first
    | (go_split_ands;refine⟨?_,?_,?_,?_,?_,?_,?_,?_⟩ <;>(first|(rw[Z];assumption)|(rw[Y];simp;done)|(rw[X];assumption)))
    | go_keep)
  (first
    | (go_at_call 136
       (refine((yc 100).call (w:=(w.alloc (kG 10 ty name (.slice (some ⟨g,o,none⟩) args.length c) (.slice A4 n4 c4) (.slice A5 n5 c5))).drew) P.out Q.out S.out N.out O.out).mono ?_)
       rintro e u ⟨rfl,d⟩;have Z:∀x,u.cell? ⟨b,x,none⟩=w.cell? ⟨b,x,none⟩:=fun x=>(F.out.trans (Zb.drew.trans (d.mono Im))).cell (p:=⟨b,x,none⟩) y
       have Y:∀x,u.cell? ⟨w.heap.size,x,none⟩=(w.alloc (kG 10 ty name (.slice (some ⟨g,o,none⟩) args.length c) (.slice A4 n4 c4) (.slice A5 n5 c5))).cell? ⟨w.heap.size,x,none⟩:=fun x=>d.cell (p:=⟨w.heap.size,x,none⟩) IR
       have T:=hid (show Below w.heap.size w u from F.out.trans (Zb.drew.trans (d.mono Im)));have X:∀m,u.cell? ⟨g,m,none⟩=(w.alloc (kG 10 ty name (.slice (some ⟨g,o,none⟩) args.length c) (.slice A4 n4 c4) (.slice A5 n5 c5))).cell? ⟨g,m,none⟩:=fun m=>d.cell (p:=⟨g,m,none⟩) (by show g<(w.alloc _).heap.size;rw[zA];omega)
       clear d))
 go_wp2_with (fail);go_ret;exact⟨jY R.out,T.out⟩
include hE hb hl hok hp in
theorem stmt_break(d:jP p vars gv 6 ty name args loop=r):Calls Tryz.prog 109 #[.pointer (some ⟨b,0,none⟩),stV 6 ty name v3 (.slice A4 n4 c4) (.slice A5 n5 c5),v,.bool loop] w fun e w'=>e=.returned (.int .i64 r)/\Below w.heap.size w w':=by
 cases loop
 all_goals
  have h:=hid (show jP p vars gv 6 ty name args _=r by exact d);obtain⟨k,H,l,I,q,rfl,rfl,rfl⟩:=hE.form;obtain⟨g,j,rfl,_⟩:=hl.form;have c:=zB hb;have a:Below w.heap.size w (w.alloc (kG 6 ty name (.slice g args.length j) (.slice A4 n4 c4) (.slice A5 n5 c5))):=Zb.alloc Zr _;have i:=hid a;have u:=hid (hE.below a);have x:=hid (hE.below a.drew);have m:=hid ((a.block b c).trans hb);have o:=hid ((a.drew.block b c).trans hb);have y:=hid (hl.below (a.mono hE.hB) Zr);have z:=hid (hl.below (a.drew.mono hE.hB) Zr);have A:=hid hok;have B:=hid hp;have t:=hid hE;obtain⟨⟨C,D,E,F⟩,G⟩:=zR hb;clear hE hb hl hok hp d a;go_enter Tryz.func109,Tryz.ntmps109;go_wp2_with (fail);go_ret;exact⟨jY (by rw[<-h.out];simp[jP]),i.out⟩
include hE hb hl hok hp in
theorem stmt_cont(d:jP p vars gv 7 ty name args loop=r):Calls Tryz.prog 109 #[.pointer (some ⟨b,0,none⟩),stV 7 ty name v3 (.slice A4 n4 c4) (.slice A5 n5 c5),v,.bool loop] w fun e w'=>e=.returned (.int .i64 r)/\Below w.heap.size w w':=by
 cases loop
 all_goals
  have h:=hid (show jP p vars gv 7 ty name args _=r by exact d);obtain⟨k,H,l,I,q,rfl,rfl,rfl⟩:=hE.form;obtain⟨g,j,rfl,_⟩:=hl.form;have c:=zB hb;have a:Below w.heap.size w (w.alloc (kG 7 ty name (.slice g args.length j) (.slice A4 n4 c4) (.slice A5 n5 c5))):=Zb.alloc Zr _;have i:=hid a;have u:=hid (hE.below a);have x:=hid (hE.below a.drew);have m:=hid ((a.block b c).trans hb);have o:=hid ((a.drew.block b c).trans hb);have y:=hid (hl.below (a.mono hE.hB) Zr);have z:=hid (hl.below (a.drew.mono hE.hB) Zr);have A:=hid hok;have B:=hid hp;have t:=hid hE;obtain⟨⟨C,D,E,F⟩,G⟩:=zR hb;clear hE hb hl hok hp d a;go_enter Tryz.func109,Tryz.ntmps109;go_wp2_with (fail);go_ret;exact⟨jY (by rw[<-h.out];simp[jP]),i.out⟩
theorem jQ(k:Int)(h:Bool)(c:zr k ty name args.length n4 n5 h=true)(a:jP p vars gv k ty name args loop=r)(hE:Env B C p vars v0 v1 v w)(hb:w.heap[b]? =some (ckO v0 v1 gv n))(hl:xL B w v3 args)(hok:qC args 100=true)(hp:Few p):
 Calls Tryz.prog 109 #[.pointer (some ⟨b,0,none⟩),stV k ty name v3 (.slice A4 n4 c4) (.slice A5 n5 c5),v,.bool loop] w fun e w'=>e=.returned (.int .i64 r)/\Below w.heap.size w w':=by
 have g:k=1\/k=2\/k=3\/k=4\/k=5\/k=6\/k=7\/k=8\/k=9\/k=10:=by
  by_cases d:k=1\/k=2\/k=3\/k=4\/k=5\/k=6\/k=7\/k=8\/k=9\/k=10
  .exact d
  .exfalso
   unfold zr at c;rw[if_neg I7,if_neg I7,if_neg I7,if_neg I7,if_neg I7,if_neg I7,if_neg I7,if_neg I7]at c;cases c
 rcases g with rfl|rfl|rfl|rfl|rfl|rfl|rfl|rfl|rfl|rfl
 .exact stmt_let B C b p vars ty name args loop A4 n4 c4 A5 n5 c5 r v3 v0 v1 v gv n w hE hb hl hok hp a
 .cases hv:kI vars name with
  | none=>exact stmt_set_no B C b p vars ty name args loop A4 n4 c4 A5 n5 c5 r v3 v0 v1 v gv n w hE hb hl hok hp hv a
  | some t=>exact stmt_set B C b p vars ty name args loop A4 n4 c4 A5 n5 c5 r v3 v0 v1 v gv n w hE hb hl hok hp t hv a
 .cases hv:zb p.arrays name with
  | none=>exact stmt_put_no B C b p vars ty name args loop A4 n4 c4 A5 n5 c5 r v3 v0 v1 v gv n w hE hb hl hok hp hv a
  | some t=>exact stmt_put B C b p vars ty name args loop A4 n4 c4 A5 n5 c5 r v3 v0 v1 v gv n w hE hb hl hok hp t hv a
 .exact stmt_if B C b p vars ty name args loop A4 n4 c4 A5 n5 c5 r v3 v0 v1 v gv n w hE hb hl hok hp a
 .exact stmt_while B C b p vars ty name args loop A4 n4 c4 A5 n5 c5 r v3 v0 v1 v gv n w hE hb hl hok hp a
 .exact stmt_break B C b p vars ty name args loop A4 n4 c4 A5 n5 c5 r v3 v0 v1 v gv n w hE hb hl hok hp a
 .exact stmt_cont B C b p vars ty name args loop A4 n4 c4 A5 n5 c5 r v3 v0 v1 v gv n w hE hb hl hok hp a
 .exact stmt_return B C b p vars ty name args loop A4 n4 c4 A5 n5 c5 r v3 v0 v1 v gv n w hE hb hl hok hp a
 .exact stmt_print B C b p vars ty name args loop A4 n4 c4 A5 n5 c5 r v3 v0 v1 v gv n w hE hb hl hok hp a
 .exact stmt_do B C b p vars ty name args loop A4 n4 c4 A5 n5 c5 r v3 v0 v1 v gv n w hE hb hl hok hp (by simp[zr]at c;omega) a
end
def Is(w:World)(g:Nat)(t:TypeId)(a:Array Value):Prop:=w.heap[g]? =some (.cells a t (0,0))
theorem Is.cell{w:World}{g:Nat}{t:TypeId}{a:Array Value}(b:Is w g t a)(i:Nat):w.cell? ⟨g,i,none⟩=a[i]?:=cell_of_row w g i a t (0,0) b
theorem Is.frozen{w:World}{g:Nat}{t:TypeId}{b:Array Value}(a:Is w g t b)(i:Nat):w.frozen? ⟨g,i,none⟩=false:=by
 unfold Is at a;simp[World.frozen?,a]
theorem Is.lt{w:World}{g:Nat}{t:TypeId}{a:Array Value}(b:Is w g t a):g<w.heap.size:=(Array.getElem?_eq_some_iff.1 b).1
theorem Is.below{w w':World}{g:Nat}{t:TypeId}{cs:Array Value}{B:Nat}(a:Is w g t cs)(hb:Below B w w')(b:g<B):Is w' g t cs:=(hb.block g b).trans a
theorem Is.set{w:World}{g:Nat}{t:TypeId}{a:Array Value}(b:Is w g t a)(i:Nat)(u:Value):Is (w.setCell ⟨g,i,none⟩ u) g t (a.setIfInBounds i u):=by
 unfold Is at b ⊢;simp[World.setCell,Array.getElem?_modify,b]
section
variable {a w:World} {g:Nat}
end
def qk(a:List Tok):List Value:=a.flatMap fun t=>[.int .i64 t.kind,.string ⟨t.text.toArray⟩,.int .i64 (t.line:Int)]
theorem tokCells_snoc(a:List Tok)(t:Tok):qk (a++[t])=qk a++[.int .i64 t.kind,.string ⟨t.text.toArray⟩,.int .i64 (t.line:Int)]:=by simp[qk]
def vF(w:World)(B:Nat)(v:Value)(a:List Tok):Prop:=w.ownsRow B 57 3 v a.length (qk a)
theorem zm{w w':World}{B:Nat}{e:TypeId}{size n:Nat}{v:Value}{xs:List Value}(a:w.ownsRow B e size v n xs)(l:∀k,v.ownBlock=some k->w'.heap[k]? =w.heap[k]?):w'.ownsRow B e size v n xs:=by
 refine⟨a.1,?_⟩;rcases a.2 with d|⟨g,b,c,rfl,h,i,j⟩
 .exact .inl d
 .exact .inr ⟨g,b,c,rfl,h,(l g rfl).trans i,j⟩
theorem qP{w:World}{B:Nat}{e:TypeId}{size n:Nat}{v:Value}{h:List Value}(b:w.ownsRow B e size v n h):∀k,v.ownBlock=some k->k<w.heap.size/\B<=k:=by
 intro k a;rcases b.2 with⟨rfl,_⟩|⟨g,i,j,rfl,c,d,_⟩
 .cases a
 .injection a with a
  subst a;exact⟨(Array.getElem?_eq_some_iff.1 d).1,c⟩
theorem zU{w:World}{B:Nat}{e:TypeId}{size n:Nat}{v:Value}{h:List Value}(d:w.ownsRow B e size v n h):∃a c,v=.slice a n c:=by
 rcases d.2 with⟨rfl,rfl⟩|⟨g,b,i,rfl,_⟩
 .exact⟨none,0,rfl⟩
 .exact⟨_,b,rfl⟩
theorem vu{w:World}{B:Nat}{e t:TypeId}{size n:Nat}{v:Value}{j:List Value}{g:Nat}{c:Array Value}(d:w.ownsRow B e size v n j)(h:Is w g t c)(i:e≠t):v.ownBlock≠some g:=by
 rcases d.2 with⟨rfl,_⟩|⟨m,k,l,rfl,o,a,_⟩
 .simp[Value.ownBlock]
 .intro b
  injection b with b;subst b;rw[h]at a;injection a with a;injection a with _ a;exact i a.symm
theorem qR{w w':World}{B C:Nat}{e:TypeId}{size n:Nat}{v:Value}{xs:List Value}(a:w.ownsRow B e size v n xs)(hb:Below C w w')(b:w.heap.size<=C):w'.ownsRow B e size v n xs:=
 zm a fun k c=>hb.block k (Nat.lt_of_lt_of_le (qP a k c).1 b)
theorem tok_info:(Tryz.prog.info? 57).map (fun i=>(i.zero,i.size,i.bytes))=some (some (.agg #[.int .i64 0,.string ⟨#[]⟩,.int .i64 0]),3,32):=by kernel_rfl
def hole(b:Nat)(w:World):World:={ w with heap:=w.heap.setIfInBounds b (.cells #[] 0 (0,0)) }
theorem hole_size(b:Nat)(w:World):(hole b w).heap.size=w.heap.size:=by simp[hole]
theorem hole_at{b k:Nat}(w:World)(a:k≠b):(hole b w).heap[k]? =w.heap[k]?:=by
 simp only[hole,Array.getElem?_setIfInBounds];rw[if_neg (fun e=>a e.symm)]
theorem hole_b{b:Nat}(w:World):(hole b w).heap[b]? =if b<w.heap.size then some (.cells #[] 0 (0,0))else none:=by
 simp only[hole,Array.getElem?_setIfInBounds,if_true]
def OffB(b B:Nat)(w w':World):Prop:=Below B (hole b w) (hole b w')
theorem OffB.mk'{b B:Nat}{w w':World}(a:w'.os=w.os)(c:w'.tape=w.tape)(d:w'.output=w.output)(g:w.heap.size<=w'.heap.size)(hb:b<w.heap.size)(h:∀k,k<B->k≠b->w'.heap[k]? =w.heap[k]?):OffB b B w w':=by
 refine⟨a,c,d,by rw[hole_size,hole_size];exact g,fun k i=>?_⟩;by_cases e:k=b
 .subst e
  rw[hole_b,hole_b,if_pos hb,if_pos I7]
 .rw[hole_at w' e,hole_at w e]
  exact h k i e
theorem OffB.refl(b B:Nat)(w:World):OffB b B w w:=Below.refl _ _
theorem OffB.trans{b B:Nat}{w w' w2:World}(a:OffB b B w w')(g:OffB b B w' w2):OffB b B w w2:=Below.trans a g
theorem OffB.mono{b B a:Nat}{w w':World}(c:OffB b B w w')(d:a<=B):OffB b a w w':=Below.mono c d
theorem OffB.size{b B:Nat}{w w':World}(a:OffB b B w w'):w.heap.size<=w'.heap.size:=by have:=Below.size a;rw[hole_size,hole_size]at this;exact this
theorem OffB.block{b B k:Nat}{w w':World}(a:OffB b B w w')(c:k<B)(hb:k≠b):w'.heap[k]? =w.heap[k]?:=by have:=Below.block a k c;rw[hole_at w hb,hole_at w' hb]at this;exact this
theorem OffB.cell{b B k o:Nat}{w w':World}(a:OffB b B w w')(c:k<B)(hb:k≠b):w'.cell? ⟨k,o,none⟩=w.cell? ⟨k,o,none⟩:=World.cell?_of_block (w:=w) (a.block c hb)
theorem OffB.of_below{b B:Nat}{w w':World}(a:Below B w w')(hb:b<w.heap.size):OffB b B w w':=OffB.mk' a.os a.tape a.output a.size hb fun k c _=>a.block k c
theorem OffB.drewN{b B:Nat}{w w':World}(a:OffB b B w w')(n:Nat):OffB b B w (w'.drewN n):=Below.trans a ⟨rfl,rfl,rfl,Nat.le_refl _,fun _ _=>rfl⟩
theorem OffB.alloc{b B:Nat}{w w':World}(a:OffB b B w w')(hb:b<w'.heap.size)(c:B<=w'.heap.size)(o:Obj):OffB b B w (w'.alloc o):=
 a.trans (OffB.of_below ((Below.refl B w').alloc c o) hb)
theorem OffB.setb{b B:Nat}{w w':World}(a:OffB b B w w')(hb:b<w'.heap.size)(i:Nat)(u:Value):OffB b B w (w'.setCell ⟨b,i,none⟩ u):=
 a.trans (OffB.mk' rfl rfl rfl Id hb fun k _ c=>Below.heap_setCell w' _ u k c)
theorem OffB.setCell{b B g:Nat}{w w':World}(a:OffB b B w w')(hb:b<w'.heap.size)(c:B<=g)(i:Nat)(u:Value):OffB b B w (w'.setCell ⟨g,i,none⟩ u):=
 a.trans (OffB.mk' rfl rfl rfl Id hb fun k d _=>Below.heap_setCell w' _ u k (by show k≠g;omega))
def TokH(b:Nat)(V:Value)(all:List Tok)(w:World):Prop:=
 ∃(g c:Nat),V=.slice (some ⟨g,0,none⟩) all.length c/\g≠b/\g<w.heap.size/\(∀(j:Nat) u,(qk all)[j]? =some u->w.cell? ⟨g,j,none⟩=some u)/\all.length<=1000000/\∀t∈all,t.kind=0->kT t.text=true/\(⟨t.text.toArray⟩:ByteArray).size<=281474976710656
theorem TokH.off{b:Nat}{V:Value}{all:List Tok}{w w':World}(e:TokH b V all w)(d:OffB b w.heap.size w w'):TokH b V all w':=by
 obtain⟨g,c,l,hb,a,h,hl,i⟩:=e;exact⟨g,c,l,hb,Nat.lt_of_lt_of_le a d.size,fun j u k=>(d.cell a hb).trans (h j u k),hl,i⟩
def zW(b:Nat)(V:Value)(all r:List Tok)(a dp:Bool)(w:World):Prop:=
 Is w b 54 #[V,.int .i64 ((all.length-r.length:Nat):Int),.bool a,.bool dp]/\TokH b V all w/\r <:+all/\zk r
theorem zW.lt{b:Nat}{V:Value}{all r:List Tok}{a dp:Bool}{w:World}(c:zW b V all r a dp w):b<w.heap.size:=c.1.lt
theorem zW.cells{b:Nat}{V:Value}{all r:List Tok}{c dp:Bool}{w:World}(a:zW b V all r c dp w):
 w.cell? ⟨b,0,none⟩=some V/\w.cell? ⟨b,1,none⟩=some (.int .i64 ((all.length-r.length:Nat):Int))/\w.cell? ⟨b,2,none⟩=some (.bool c)/\w.cell? ⟨b,3,none⟩=some (.bool dp):=
 ⟨(a.1.cell 0).trans rfl,(a.1.cell 1).trans rfl,(a.1.cell 2).trans rfl,(a.1.cell 3).trans rfl⟩
theorem suffix_at{all r:List Tok}(a:r <:+all){t:Tok}{q:List Tok}(e:r=t::q):all[all.length-r.length]? =some t:=by
 obtain⟨p,rfl⟩:=a;subst e;rw[List.length_append,Nat.add_sub_cancel,List.getElem?_append_right Zr,Nat.sub_self];rfl
theorem tok_cells(b:List Tok)(k:Nat)(t:Tok)(c:b[k]? =some t):(qk b)[k*3]? =some (.int .i64 t.kind)/\(qk b)[k*3+1]? =some (.string ⟨t.text.toArray⟩)/\(qk b)[k*3+2]? =some (.int .i64 (t.line:Int)):=by
 induction b generalizing k with
 | nil=>simp at c
 | cons a r i=>
   have e:qk (a::r)=.int .i64 a.kind :: .string ⟨a.text.toArray⟩ :: .int .i64 (a.line:Int)::qk r:=by simp[qk]
   rw[e];cases k with
   | zero=>
     simp at c;subst c;exact⟨rfl,rfl,rfl⟩
   | succ k=>
     obtain⟨d,g,h⟩:=i k Il;rw[show(k+1)*3=k*3+1+1+1 by omega];exact⟨d,g,h⟩
theorem zW.tok{b:Nat}{V:Value}{all r:List Tok}{d dp:Bool}{w:World}(e:zW b V all r d dp w):∃(g c k:Nat) (t:Tok) (q:List Tok),V=.slice (some ⟨g,0,none⟩) all.length c/\r=t::q/\k=all.length-r.length/\k<all.length/\all.length<=1000000/\
 w.cell? ⟨b,0,none⟩=some (.slice (some ⟨g,0,none⟩) all.length c)/\w.cell? ⟨b,1,none⟩=some (.int .i64 (k:Int))/\w.cell? ⟨b,2,none⟩=some (.bool d)/\w.cell? ⟨b,3,none⟩=some (.bool dp)/\
 w.cell? ⟨g,k*3,none⟩=some (.int .i64 t.kind)/\w.cell? ⟨g,k*3+1,none⟩=some (.string ⟨t.text.toArray⟩)/\w.cell? ⟨g,k*3+2,none⟩=some (.int .i64 (t.line:Int)):=by
 obtain⟨j,l,m,o⟩:=e.cells;obtain⟨_,⟨g,c,i,_,_,a,hl,_⟩,y,x⟩:=e;obtain⟨t,q,rfl⟩:=List.exists_cons_of_ne_nil x.ne;have h:=suffix_at y rfl;obtain⟨p,u,v⟩:=tok_cells all _ t h;refine⟨g,c,_,t,q,i,rfl,rfl,?_,hl,i ▸ j,l,m,o,a _ _ p,a _ _ u,a _ _ v⟩;exact(List.getElem?_eq_some_iff.1 h).1
def PR.un{α:Type}(x:PR α):PR Unit:=x.bind fun _ r=>.ok () r
def zl{α:Type}:PR α->Bool
 | .ok _ _=>false
 | _=>true
def zS{α:Type}(s:List UInt8):PR α->Bool
 | .ok _ r=>ze s r
 | _=>false
def jI(b:Nat)(V:Value)(all:List Tok)(x:PR Unit)(w:World):Prop:=
 match x with
 | .ok _ r=>zW b V all r false false w
 | .bad r=>zW b V all r true false w
 | .deep r=>zW b V all r false true w
 | .out=>False
def qy{α:Type}(x:PR α)(P:α->Prop):Prop:=
 match x with
 | .ok a _=>P a
 | .bad _=>∃a,P a
 | .deep _=>∃a,P a
 | .out=>True
theorem zW.off{b:Nat}{V:Value}{all r:List Tok}{c dp:Bool}{w w':World}(a:zW b V all r c dp w)(hb:Below w.heap.size w w'):zW b V all r c dp w':=
 ⟨a.1.below hb a.1.lt,a.2.1.off (OffB.of_below hb a.lt),a.2.2⟩
theorem jI.below{b:Nat}{V:Value}{all:List Tok}{x:PR Unit}{w w':World}(c:jI b V all x w)(hb:Below w.heap.size w w'):jI b V all x w':=by
 cases x with
 | ok a r=>exact zW.off c hb
 | bad r=>exact zW.off c hb
 | deep r=>exact zW.off c hb
 | out=>exact c
theorem jI.lt{b:Nat}{V:Value}{all:List Tok}{x:PR Unit}{w:World}(c:jI b V all x w):b<w.heap.size:=by
 cases x with
 | ok a r=>exact zW.lt c
 | bad r=>exact zW.lt c
 | deep r=>exact zW.lt c
 | out=>exact absurd c id
theorem jI.drewN{b:Nat}{V:Value}{all:List Tok}{x:PR Unit}{w:World}(a:jI b V all x w)(n:Nat):jI b V all x (w.drewN n):=a.below (xk Zb n)
theorem jI.box{b:Nat}{V:Value}{all:List Tok}{x:PR Unit}{w:World}(d:jI b V all x w):∃r c dp,zW b V all r c dp w/\zl x=(c || dp)/\(x=.ok () r/\c=false/\dp=false\/x=.bad r/\c=true/\dp=false\/x=.deep r/\c=false/\dp=true):=by
 cases x with
 | ok a r=>exact⟨r,false,false,d,rfl,.inl ⟨rfl,rfl,rfl⟩⟩
 | bad r=>exact⟨r,true,false,d,rfl,.inr (.inl ⟨rfl,rfl,rfl⟩)⟩
 | deep r=>exact⟨r,false,true,d,rfl,.inr (.inr ⟨rfl,rfl,rfl⟩)⟩
 | out=>exact absurd d id
theorem over_any{b:Nat}{V:Value}{all:List Tok}{x:PR Unit}{w:World}(a:jI b V all x w):Calls Tryz.prog 53 #[.pointer (some ⟨b,0,none⟩)] w fun e w'=>e=.returned (.bool (zl x))/\w'=w:=by
 obtain⟨r,d,dp,hp,c,_⟩:=a.box;obtain⟨_,_,g,h⟩:=hp.cells;rw[c];clear a hp c;cases d
 all_goals
  go_enter Tryz.func53,Tryz.ntmps53;go_wp2;go_ret;exact⟨Ia,rfl⟩
theorem zt{b:Nat}{V:Value}{all:List Tok}{x:PR Unit}{w:World}(a:jI b V all x w)(v:Bool)(c:zl x=v):Calls Tryz.prog 53 #[.pointer (some ⟨b,0,none⟩)] w fun e w'=>e=.returned (.bool v)/\w'=w:=c ▸ over_any a
theorem isS_head(s:List UInt8)(t:Tok)(r:List Tok):ze s (t::r)=(decide (t.kind=2) && t.text == s):=rfl
theorem text_eq(t:List UInt8)(s:ByteArray):(t == s.data.toList)=((⟨t.toArray⟩:ByteArray).toList == s.toList):=by rw[Lib.toList_data,Lib.toList_data]
theorem is_live{b:Nat}{V:Value}{all r:List Tok}{w:World}(h:zW b V all r false false w)(s:ByteArray)(v:Bool)(a:ze s.data.toList r=v):
 Calls Tryz.prog 81 #[.pointer (some ⟨b,0,none⟩),.string s] w fun e w'=>e=.returned (.bool v)/\∃m,w'=w.drewN m:=by
 have l:∀m,jI b V all (.ok () r) (w.drewN m):=fun m=>jI.drewN (x:=.ok () r) h m
 obtain⟨g,c,k,t,q,rfl,rfl,o,D,hl,y,z,A,B,p,u,E⟩:=h.tok;have i:=hid l;clear h o l;have C:(k:Int)<all.length:=I7
 rw[isS_head,text_eq]at a;obtain⟨T,j⟩:∃T:ByteArray,T=⟨t.text.toArray⟩:=⟨_,rfl⟩
 rw[<-j]at a u;clear j;cases hk2:decide (t.kind=2)with
 | true=>
   have d:t.kind=2:=of_decide_eq_true hk2;rw[d]at p;rw[hk2,Bool.true_and]at a;clear hk2 d;go_enter Tryz.func81,Tryz.ntmps81;go_wp2
   exact Oe
 | false=>
   have d:(t.kind == 2)=false:=by simpa using hk2
   rw[hk2,Bool.false_and]at a;subst a;clear hk2;go_enter Tryz.func81,Tryz.ntmps81;go_wp2
   exact Oe
theorem is_over{b:Nat}{V:Value}{all:List Tok}{x:PR Unit}{w:World}(a:jI b V all x w)(d:zl x=true)(s:ByteArray):
 Calls Tryz.prog 81 #[.pointer (some ⟨b,0,none⟩),.string s] w fun e w'=>e=.returned (.bool false)/\∃m,w'=w.drewN m:=by
 have h:∀m,jI b V all x (w.drewN m):=fun m=>a.drewN m
 obtain⟨r,o,dp,hp,_,_⟩:=a.box;obtain⟨g,c,k,t,q,rfl,rfl,l,A,hl,p,u,v,y,B,C,D⟩:=hp.tok;have j:=hid h;have i:=hid d;clear a l h hp d;have z:(k:Int)<all.length:=I7
 go_enter Tryz.func81,Tryz.ntmps81;go_wp2
 go_quiet ((go_at_call 53;exact Calls.quiet_of_same (zt (j.out _) true i.out)))
 go_wp2;go_ret;exact⟨rfl,_,rfl⟩
theorem is_is{b:Nat}{V:Value}{all:List Tok}{x:PR Unit}{w:World}(c:jI b V all x w)(s:ByteArray)(v:Bool)(d:zS s.data.toList x=v):
 Calls Tryz.prog 81 #[.pointer (some ⟨b,0,none⟩),.string s] w fun e w'=>e=.returned (.bool v)/\∃m,w'=w.drewN m:=by
 subst d;cases x with
 | ok a r=>exact is_live c s _ rfl
 | bad r=>exact is_over c rfl s
 | deep r=>exact is_over c rfl s
 | out=>exact absurd c id
theorem vw{s:List UInt8}{x:PR Unit}(b:zS s x=true):∃r,x=.ok () r/\ze s r=true:=by
 cases x with
 | ok a r=>exact⟨r,rfl,b⟩
 | bad r=>cases b
 | deep r=>cases b
 | out=>cases b
theorem sub_tail{n k:Nat}(a:k+1<=n):((n-(k+1):Nat):Int)+1=((n-k:Nat):Int):=I7
theorem suffix_len{a r:List Tok}(b:r <:+a):r.length<=a.length:=b.length_le
theorem zW.next{b:Nat}{V:Value}{all r:List Tok}{w:World}(a:zW b V all r false false w)(c:uO r≠3):zW b V all r.tail false false (w.setCell ⟨b,1,none⟩ (.int .i64 (((all.length-r.length:Nat):Int)+1))):=by
 have d:=a.lt;have g:=jN a.2.2.2;have e:=suffix_len a.2.2.1;refine⟨?_,a.2.1.off ((OffB.refl b _ w).setb d 1 _),(List.tail_suffix r).trans a.2.2.1,a.2.2.2.tail c⟩;have:=a.1.set 1 (.int .i64 (((all.length-r.length:Nat):Int)+1));rw[show r.length=r.tail.length+1 by omega,sub_tail I7]at this ⊢;exact this
def qd(b:Nat)(V:Value)(all:List Tok)(w:World)(x:PR Unit)(w':World):Prop:=jI b V all x w'/\OffB b w.heap.size w w'
theorem qd.st{b:Nat}{V:Value}{all:List Tok}{w w':World}{x:PR Unit}(a:qd b V all w x w'):jI b V all x w':=a.1
theorem qd.off{b:Nat}{V:Value}{all:List Tok}{w w':World}{x:PR Unit}(a:qd b V all w x w'):OffB b w.heap.size w w':=a.2
theorem zi{b:Nat}{V:Value}{all:List Tok}{x:PR Unit}{w:World}(a:jI b V all x w)(s:ByteArray)(i:zS s.data.toList x=true):
 Calls Tryz.prog 56 #[.pointer (some ⟨b,0,none⟩),.string s] w fun e w'=>e=.returned (.bool true)/\qd b V all w (x.bind fun _ r=>.ok () r.tail) w':=by
 obtain⟨r,rfl,l⟩:=vw i;have d:∀n,zW b V all r.tail false false ((w.drewN n).setCell ⟨b,1,none⟩ (.int .i64 (((all.length-r.length:Nat):Int)+1))):=fun n=>zW.next (w:=w.drewN n) (jI.drewN (x:=.ok () r) a n) (by rw[(vM l).1];decide)
 have h:∀n,OffB b w.heap.size w ((w.drewN n).setCell ⟨b,1,none⟩ (.int .i64 (((all.length-r.length:Nat):Int)+1))):=fun n=>((OffB.refl b _ w).drewN n).setb (jI.drewN (x:=.ok () r) a n).lt 1 _
 obtain⟨g,c,k,t,q,rfl,rfl,j,B,hl,u,v,y,z,C,D,E⟩:=(show zW b V all r false false w from a).tok;have f1:=(show zW b _ all _ false false w from a).1.frozen 1;rw[<-j]at d h;have o:Hid (∀n,qd b (.slice (some ⟨g,0,none⟩) all.length c) all w (.ok () q) ((w.drewN n).setCell ⟨b,1,none⟩ (.int .i64 ((k:Int)+1)))):=fun n=>⟨d n,h n⟩
 have H:=hid a;have p:=hid i;have A:(k:Int)<all.length:=I7
 clear a i j d h l;go_enter Tryz.func56,Tryz.ntmps56;go_wp2_with (go_at_call 81;(with_reducible refine(is_is H.out s true p.out).mono ?_);rintro e F ⟨rfl,m,rfl⟩);go_ret;exact⟨rfl,o.out m⟩
theorem take_no{b:Nat}{V:Value}{all:List Tok}{x:PR Unit}{w:World}(a:jI b V all x w)(s:ByteArray)(c:zS s.data.toList x=false):
 Calls Tryz.prog 56 #[.pointer (some ⟨b,0,none⟩),.string s] w fun e w'=>e=.returned (.bool false)/\∃m,w'=w.drewN m:=by
 have H:=hid a;have d:=hid c;clear a c;go_enter Tryz.func56,Tryz.ntmps56;go_wp2_with (go_at_call 81;(with_reducible refine(is_is H.out s false d.out).mono ?_);rintro e g ⟨rfl,m,rfl⟩);go_ret;exact⟨rfl,m,rfl⟩
theorem zD{b:Nat}{V:Value}{all:List Tok}{x:PR Unit}{w:World}(a:jI b V all x w)(s:ByteArray)(g:zS s.data.toList x=false):
 Calls Tryz.prog 56 #[.pointer (some ⟨b,0,none⟩),.string s] w fun e w'=>e=.returned (.bool false)/\qd b V all w x w':=
 (take_no a s g).mono fun _ _ ⟨c,m,d⟩=>⟨c,d ▸ ⟨a.drewN m,(OffB.refl b _ w).drewN m⟩⟩
theorem zW.spoil{b:Nat}{V:Value}{all r:List Tok}{c:Bool}{w:World}(a:zW b V all r c false w):zW b V all r true false (w.setCell ⟨b,2,none⟩ (.bool true)):=
 ⟨a.1.set 2 (.bool true),a.2.1.off ((OffB.refl b _ w).setb a.lt 2 _),a.2.2⟩
theorem spoil_did{b:Nat}{V:Value}{all r:List Tok}{a:Bool}{w:World}(d:zW b V all r a false w)(m:Nat):qd b V all w (.bad r) ((w.drewN m).setCell ⟨b,2,none⟩ (.bool true)):=by
 have c:zW b V all r a false (w.drewN m):=d.off (xk Zb m);exact⟨c.spoil,((OffB.refl b _ w).drewN m).setb c.lt 2 _⟩
theorem zY{b:Nat}{V:Value}{all:List Tok}{x:PR Unit}{w:World}(c:jI b V all x w)(s:ByteArray):
 Calls Tryz.prog 58 #[.pointer (some ⟨b,0,none⟩),.string s] w fun e w'=>e=.returned (.tuple #[])/\qd b V all w (x.bind fun _ r=>zN s.data.toList r) w':=by
 cases hv:zS s.data.toList x with
 | true=>
   obtain⟨r,rfl,i⟩:=vw hv;have a:zN s.data.toList r=.ok () r.tail:=by unfold zN;rw[if_pos i]
   rw[show((PR.ok () r).bind fun _ r=>zN s.data.toList r)=.ok () r.tail from a];have H:=hid c;have d:=hid hv;clear c hv i a;go_enter Tryz.func58,Tryz.ntmps58;go_wp2_with (go_at_call 56;(with_reducible refine(zi H.out s d.out).mono ?_);rintro e j ⟨rfl,o⟩)
   go_end0
   exact⟨rfl,o⟩
 | false=>
   obtain⟨r,q,dp,hp,p,h⟩:=c.box
   have a:(x.bind fun _ r=>zN s.data.toList r)=if dp then .deep r else .bad r:=by
    rcases h with⟨rfl,rfl,rfl⟩|⟨rfl,rfl,rfl⟩|⟨rfl,rfl,rfl⟩
    .show zN s.data.toList r=_
     unfold zN;rw[if_neg (by rw[show ze s.data.toList r=false from hv];decide)];rfl
    .rfl
    .rfl
   rw[a];obtain⟨_,_,t,u⟩:=hp.cells;have v:=hp.1.frozen 2;have H:=hid c;have d:=hid hv;have k:=hid hp;have l:=hid h;clear c hv hp h p a;cases dp with
   | true=>
     go_enter Tryz.func58,Tryz.ntmps58;go_wp2_with (go_at_call 56;(with_reducible refine(take_no H.out s d.out).mono ?_);rintro e j ⟨rfl,m,rfl⟩)
     go_end0
     refine⟨rfl,?_,(OffB.refl b _ w).drewN m⟩;rcases l.out with⟨_,_,g⟩|⟨_,_,g⟩|⟨rfl,_,_⟩
     .cases g
     .cases g
     .exact H.out.drewN m
   | false=>
     go_enter Tryz.func58,Tryz.ntmps58;go_wp2_with (go_at_call 56;(with_reducible refine(take_no H.out s d.out).mono ?_);rintro e j ⟨rfl,m,rfl⟩)
     go_end0
     exact⟨rfl,spoil_did k.out m⟩
def qM(b:Nat)(V:Value)(all:List Tok)(w:World){α:Type}(x:PR α)(F:World->α->Value->Prop)(e:Ending)(w':World):Prop:=
 ∃v,e=.returned v/\qd b V all w x.un w'/\qy x fun a=>F w' a v
def StrV(_:World)(a:ByteArray)(v:Value):Prop:=v=.string a
def IntV(_:World)(a:Int)(v:Value):Prop:=v=.int .i64 a
theorem text_over{b:Nat}{V:Value}{all:List Tok}{x:PR Unit}{w:World}(a:jI b V all x w)(c:zl x=true)(k:Int):
 Calls Tryz.prog 55 #[.pointer (some ⟨b,0,none⟩),.int .i64 k] w fun e w'=>e=.returned (.string ⟨#[]⟩)/\qd b V all w x w':=by
 have H:=hid a;have d:=hid c;clear a c;go_enter Tryz.func55,Tryz.ntmps55;go_wp2_with (go_at_call 53;(with_reducible refine(zt H.out true d.out).mono ?_);rintro e g ⟨rfl,rfl⟩);go_ret;exact⟨rfl,H.out,OffB.refl _ _ _⟩
theorem box_more{b:Nat}{V:Value}{all:List Tok}{x:PR Unit}{w a:World}(c:qd b V all w x a)(d:w.heap.size<=a.heap.size)(o:Obj):qd b V all w x (a.alloc o).drew:=by
 have hb:Below a.heap.size a (a.alloc o).drew:=(Zb.alloc Zr o).drew;exact⟨c.1.below hb,c.2.trans ((OffB.of_below hb c.1.lt).mono d)⟩
theorem box_next{b:Nat}{V:Value}{all r:List Tok}{w:World}(a:zW b V all r false false w)(c:uO r≠3)(o:Obj):qd b V all w (.ok () r.tail) (((w.setCell ⟨b,1,none⟩ (.int .i64 (((all.length-r.length:Nat):Int)+1))).alloc o).drew):=
 box_more (x:=.ok () r.tail) ⟨a.next c,(OffB.refl b _ w).setb a.lt 1 _⟩ Ia o
theorem box_spoil{b:Nat}{V:Value}{all r:List Tok}{w:World}(a:zW b V all r false false w)(o:Obj):qd b V all w (.bad r) (((w.setCell ⟨b,2,none⟩ (.bool true)).alloc o).drew):=
 box_more (x:=.bad r) ⟨a.spoil,(OffB.refl b _ w).setb a.lt 2 _⟩ Ia o
theorem qd.drewN{b:Nat}{V:Value}{all:List Tok}{x:PR Unit}{w w1:World}{m:Nat}(a:qd b V all (w.drewN m) x w1):qd b V all w x w1:=⟨a.1,((OffB.refl b _ w).drewN m).trans a.2⟩
theorem text_live{b:Nat}{V:Value}{all r:List Tok}{w:World}(a:zW b V all r false false w)(k:Int)(v:k≠3):
 Calls Tryz.prog 55 #[.pointer (some ⟨b,0,none⟩),.int .i64 k] w (qM b V all w (want k r) StrV):=by
 have h:=fun(u:uO r≠3) o=>box_next a u o
 have j:=fun o=>box_spoil a o
 have F:=a.lt;have f1:=a.1.frozen 1;have D:=a.1.frozen 2;have i:=hid (show jI b V all (.ok () r) w from a);obtain⟨g,c,p,t,q,rfl,rfl,hp,G,hl,y,z,A,B,I,J,K⟩:=a.tok;rw[<-hp]at h;have E:(p:Int)<all.length:=I7
 have H:0<w.heap.size:=I7
 have m:=hid j;clear a hp j;cases hk2:decide (t.kind=k)with
 | true=>
   obtain rfl:t.kind=k:=of_decide_eq_true hk2;have l:=hid (h v);have d:want t.kind (t::q)=.ok ⟨t.text.toArray⟩ q:=by unfold want;rw[if_pos (show uO (t::q)=t.kind from rfl)];rfl
   rw[d];clear hk2 h d;go_enter Tryz.func55,Tryz.ntmps55;go_wp2_with (go_at_call 53;(with_reducible refine(zt i.out false rfl).mono ?_);rintro e x ⟨rfl,rfl⟩)
   go_region_held3 (fun w'=>w'.cell? ⟨b,0,none⟩=some (.slice (some ⟨g,0,none⟩) all.length c)/\w'.cell? ⟨b,1,none⟩=some (.int .i64 p)/\w'.cell? ⟨g,p*3,none⟩=some (.int .i64 t.kind)/\w'.cell? ⟨g,p*3+1,none⟩=some (.string ⟨t.text.toArray⟩)/\w'.cell? ⟨g,p*3+2,none⟩=some (.int .i64 (t.line:Int))/\0<w'.heap.size)
    (first|go_keep|(go_split_ands;refine⟨?_,?_,?_,?_,?_,?_⟩ <;> assumption))
    (fail)
   go_wp2_with (fail);go_ret;exact⟨_,rfl,l.out _,rfl⟩
 | false=>
   have C:(t.kind != k)=true:=by simpa using hk2
   have d:want k (t::q)=.bad (t::q):=by unfold want;rw[if_neg (show ¬uO (t::q)=k from of_decide_eq_false hk2)]
   rw[d];clear hk2 h d;go_enter Tryz.func55,Tryz.ntmps55;go_wp2_with (go_at_call 53;(with_reducible refine(zt i.out false rfl).mono ?_);rintro e x ⟨rfl,rfl⟩)
   go_region_held3 (fun w'=>w'.cell? ⟨b,0,none⟩=some (.slice (some ⟨g,0,none⟩) all.length c)/\w'.cell? ⟨b,1,none⟩=some (.int .i64 p)/\w'.cell? ⟨g,p*3,none⟩=some (.int .i64 t.kind)/\w'.cell? ⟨g,p*3+1,none⟩=some (.string ⟨t.text.toArray⟩)/\w'.cell? ⟨g,p*3+2,none⟩=some (.int .i64 (t.line:Int))/\0<w'.heap.size)
    (first|go_keep|(go_split_ands;refine⟨?_,?_,?_,?_,?_,?_⟩ <;> assumption))
    (fail)
   go_wp2_with (fail);go_ret;exact⟨_,rfl,m.out _,⟨_,rfl⟩⟩
theorem uo{b:Nat}{V:Value}{all r:List Tok}{w:World}(c:jI b V all (.ok () r) w)(k:Int)(i:k≠3)(h:uO r=k)(s:ByteArray)(j:s=⟨(hdT r).toArray⟩):
 Calls Tryz.prog 55 #[.pointer (some ⟨b,0,none⟩),.int .i64 k] w fun e w'=>e=.returned (.string s)/\qd b V all w (.ok () r.tail) w':=by
 subst j;have a:want k r=.ok ⟨(hdT r).toArray⟩ r.tail:=by unfold want;rw[if_pos h]
 refine(text_live c k i).mono fun e w' hp=>?_
 rw[a]at hp;obtain⟨v,g,d,l⟩:=hp;exact⟨by rw[g,show v=.string ⟨(hdT r).toArray⟩from l],d⟩
theorem text_no{b:Nat}{V:Value}{all r:List Tok}{w:World}(d:jI b V all (.ok () r) w)(k:Int)(j:k≠3)(i:uO r≠k):
 Calls Tryz.prog 55 #[.pointer (some ⟨b,0,none⟩),.int .i64 k] w fun e w'=>∃s,e=.returned (.string s)/\qd b V all w (.bad r) w':=by
 have c:want k r=.bad r:=by unfold want;rw[if_neg i]
 refine(text_live d k j).mono fun e w' hp=>?_
 rw[c]at hp;obtain⟨v,h,g,a,l⟩:=hp;exact⟨a,by rw[h,show v=.string a from l],g⟩
theorem vP{b:Nat}{V:Value}{all:List Tok}{x:PR Unit}{w:World}(d:jI b V all x w):
 Calls Tryz.prog 54 #[.pointer (some ⟨b,0,none⟩)] w (qM b V all w (x.bind fun _ r=>pTy r) IntV):=by
 cases hv:zS sInt x with
 | true=>
   obtain⟨r,rfl,l⟩:=vw hv;have c:pTy r=.ok 1 r.tail:=by unfold pTy;rw[if_pos l]
   rw[show((PR.ok () r).bind fun _ r=>pTy r)=.ok 1 r.tail from c];have H:=hid d;have g:=hid hv;clear d hv l c;go_enter Tryz.func54,Tryz.ntmps54;go_wp2_with (go_at_call 56;(with_reducible refine(zi H.out _ g.out).mono ?_);rintro e o ⟨rfl,h⟩);go_ret;exact⟨_,rfl,h,rfl⟩
 | false=>
   have c:(x.bind fun _ r=>pTy r)=x.bind fun _ r=>(zN kZ r).bind fun _ r=>.ok 2 r:=by
    cases x with
    | ok a r=>
      show pTy r=(zN kZ r).bind _;unfold pTy;rw[if_neg (by rw[show ze sInt r=false from hv];decide)]
    | _=>rfl
   have j:(x.bind fun _ r=>(zN kZ r).bind fun _ r=>PR.ok (2 :Int) r).un=x.bind fun _ r=>zN kZ r:=by
    cases x with
    | ok a r=>show((zN kZ r).bind _).un=zN kZ r;unfold zN;split <;> rfl
    | _=>rfl
   have k:qy (x.bind fun _ r=>(zN kZ r).bind fun _ r=>PR.ok (2 :Int) r) fun a=>IntV w a (.int .i64 2):=by
    cases x with
    | ok a r=>show qy ((zN kZ r).bind _) _;unfold zN;split;exact rfl;exact⟨2,rfl⟩
    | bad r=>exact⟨2,rfl⟩
    | deep r=>exact⟨2,rfl⟩
    | out=>trivial
   rw[c];have H:=hid d;have g:=hid hv;have i:=hid (And.intro j k);clear d hv c j k;go_enter Tryz.func54,Tryz.ntmps54
   go_wp2_with (first
    | (go_at_call 56;(with_reducible refine(take_no H.out _ g.out).mono ?_);rintro e o ⟨rfl,m,rfl⟩)
    | (go_at_call 58;(with_reducible refine(zY (H.out.drewN m) _).mono ?_);rintro e p ⟨rfl,h⟩))
   go_ret;refine⟨_,rfl,?_,i.out.2⟩;rw[i.out.1];exact h.drewN
end Go.Proofs.YthcmenajdcbnnaaGreatDoor
