import Derived.Test.YtfghofifjnbicaaGreatDoorAhZed
import Derived.Test.YtfghofifjnbicaaGreatDoorAhParNums
set_option linter.unusedSimpArgs false
set_option linter.unusedVariables false
set_option maxRecDepth 100000
/- The document's comparison of trees: true where both are the same tree. -/
namespace Go.Proofs.YtfghofifjnbicaaGreatDoor
open Lib (hid)
open Go.RowKit
theorem ex_size {l:List Ex} {i:Nat} {k op n:Int} {s:ByteArray} {args:List Ex} (h:l[i]? =some (.mk k op n s args)):SizeOf.sizeOf args<SizeOf.sizeOf l:=by
 have h1:=List.sizeOf_lt_of_mem (List.mem_of_getElem? h);have h2:SizeOf.sizeOf args<SizeOf.sizeOf (Ex.mk k op n s args):=by rw[Ex.mk.sizeOf_spec];omega
 omega
def SxC (N:Nat):Prop:=∀ (l:List Ex),SizeOf.sizeOf l<N→∀ (B:Nat) (A A':Option Addr) (cap cap':Nat) (w:World),qw B w (.slice A l.length cap) l→qw B w (.slice A' l.length cap') l→
 Calls Tryz.prog 60 #[.slice A l.length cap,.slice A' l.length cap'] w fun e w'=>e=.returned (.bool true)∧∃ m,w'=w.drewN m
theorem SxC.call {N:Nat} (h:SxC N) {l:List Ex} (hl:SizeOf.sizeOf l<N) {B:Nat} {A A':Option Addr} {cap cap':Nat} {w:World} (h1:qw B w (.slice A l.length cap) l) (h2:qw B w (.slice A' l.length cap') l):
 Calls Tryz.prog 60 #[.slice A l.length cap,.slice A' l.length cap'] w fun e w'=>e=.returned (.bool true)∧∃ m,w'=w.drewN m:=h l hl B A A' cap cap' w h1 h2
theorem qw.drewN {B:Nat} {w:World} {v:Value} {l:List Ex} (h:qw B w v l) (n:Nat):qw B (w.drewN n) v l:=h.below (ql Zb n) Zr
set_option maxHeartbeats 1600000 in
theorem same_exprs:∀ N,SxC N
 | 0=>fun l h=>absurd h (by omega)
 | N+1=>by
   intro l hl B A A' cap cap' w h1 h2;have IH:=hid (same_exprs N);have HL:=hid hl;have H1:=hid h1;have H2:=hid h2;have hlen:l.length≤281474976710656:=by obtain⟨_,_,_,h⟩:=h1.form;exact h
   clear hl h1 h2;go_enter Tryz.func60,Tryz.ntmps60;go_wp2
   go_loopw [5] (fun iv wr=>∃ i:Nat,i≤l.length∧iv=.int .i64 i∧∃ m,wr=w.drewN m) (fun iv _=>l.length-(intOf iv).toNat)
   case atStart=>exact⟨0,Nat.zero_le _,rfl,0,rfl⟩
   case round=>
    obtain⟨i,hi,rfl,m,hm⟩:=hrel;have HM:=hid hm;have HW1:=hid (show qw B wr (.slice A l.length cap) l from hm ▸ H1.out.drewN m);have HW2:=hid (show qw B wr (.slice A' l.length cap') l from hm ▸ H2.out.drewN m);clear hm;by_cases hlt:i<l.length
    · obtain⟨⟨k,op,n,s,args⟩,he⟩:∃ e,l[i]? =some e:=⟨_,List.getElem?_eq_getElem hlt⟩
      obtain⟨g,o,v,rfl,hg,a0,a1,a2,a3,a4,hs⟩:=HW1.out.cells he;obtain⟨g',o',v',rfl,hg',b0,b1,b2,b3,b4,hs'⟩:=HW2.out.cells he;obtain⟨A1,c1,rfl,_⟩:=hs.form;obtain⟨A2,c2,rfl,_⟩:=hs'.form;have HS:=hid hs;have HS':=hid hs';have HZ:=hid (show SizeOf.sizeOf args<N by have:=ex_size he;have:=HL.out;omega);clear he hs hs';have hlt2:(i:Int)<l.length:=by omega
      have hi0:(0 :Int)≤i:=by omega
      go_wp2
      go_quiet (first
       | (go_at_call 60;exact Calls.quiet_of (IH.out.call HZ.out (HS.out.drewN _) (HS'.out.drewN _))))
      go_wp2;go_roundw
      case rel=>exact⟨i+1,by omega,by go_num,m+nq,by rw[HM.out,World.drewN_drewN]⟩
      case measure=>simp[intOf];omega
    · go_wp2
      go_ret;exact⟨rfl,m,HM.out⟩
theorem st_size {l:List St} {i:Nat} {k ty:Int} {s:ByteArray} {args:List Ex} {thn els:List St} (h:l[i]? =some (.mk k ty s args thn els)):SizeOf.sizeOf thn<SizeOf.sizeOf l∧SizeOf.sizeOf els<SizeOf.sizeOf l:=by
 have h1:=List.sizeOf_lt_of_mem (List.mem_of_getElem? h);rw[St.mk.sizeOf_spec]at h1;omega
theorem sexprs_any {l:List Ex} {B:Nat} {A A':Option Addr} {cap cap':Nat} {w:World} (h1:qw B w (.slice A l.length cap) l) (h2:qw B w (.slice A' l.length cap') l):
 Calls Tryz.prog 60 #[.slice A l.length cap,.slice A' l.length cap'] w fun e w'=>e=.returned (.bool true)∧Below w.heap.size w w':=
 (same_exprs (SizeOf.sizeOf l+1) l (by omega) B A A' cap cap' w h1 h2).mono fun e w' ⟨he,m,hm⟩=>⟨he,hm ▸ ql Zb m⟩
def SsC (N:Nat):Prop:=∀ (l:List St),SizeOf.sizeOf l<N→∀ (B:Nat) (A A':Option Addr) (cap cap':Nat) (w:World),B≤w.heap.size→SlS B w (.slice A l.length cap) l→SlS B w (.slice A' l.length cap') l→
 Calls Tryz.prog 25 #[.slice A l.length cap,.slice A' l.length cap'] w fun e w'=>e=.returned (.bool true)∧Below w.heap.size w w'
theorem SsC.call {N:Nat} (h:SsC N) {l:List St} (hl:SizeOf.sizeOf l<N) {B:Nat} {A A':Option Addr} {cap cap':Nat} {w:World} (hB:B≤w.heap.size) (h1:SlS B w (.slice A l.length cap) l) (h2:SlS B w (.slice A' l.length cap') l):
 Calls Tryz.prog 25 #[.slice A l.length cap,.slice A' l.length cap'] w fun e w'=>e=.returned (.bool true)∧Below w.heap.size w w':=h l hl B A A' cap cap' w hB h1 h2
def zAq (wr:World) (p q:Nat) (x0 x1 x2 x3 x4 x5 y3 y4 y5:Value) (W:World):Prop:=
 W.heap[p]? =some (.cells #[x0,x1,x2,x3,x4,x5] 88 (0,0))∧W.heap[q]? =some (.cells #[x0,x1,x2,y3,y4,y5] 88 (0,0))∧Below wr.heap.size wr W
theorem zAq.step {wr W W':World} {p q:Nat} {x0 x1 x2 x3 x4 x5 y3 y4 y5:Value} (h:zAq wr p q x0 x1 x2 x3 x4 x5 y3 y4 y5 W) (hb:Below W.heap.size W W'):zAq wr p q x0 x1 x2 x3 x4 x5 y3 y4 y5 W':=
 ⟨(hb.block _ (Array.getElem?_eq_some_iff.1 h.1).1).trans h.1,(hb.block _ (Array.getElem?_eq_some_iff.1 h.2.1).1).trans h.2.1,h.2.2.trans (hb.mono h.2.2.size)⟩
theorem zAq.bel {wr W:World} {p q:Nat} {x0 x1 x2 x3 x4 x5 y3 y4 y5:Value} (h:zAq wr p q x0 x1 x2 x3 x4 x5 y3 y4 y5 W):Below wr.heap.size wr W:=h.2.2
theorem zAq.up {wr:World} {x0 x1 x2 x3 x4 x5 y3 y4 y5:Value}:zAq wr wr.heap.size (wr.heap.size+1) x0 x1 x2 x3 x4 x5 y3 y4 y5 ((wr.alloc (.cells #[x0,x1,x2,x3,x4,x5] 88)).alloc (.cells #[x0,x1,x2,y3,y4,y5] 88)).drew:=by
 have hb:Below wr.heap.size wr ((wr.alloc (.cells #[x0,x1,x2,x3,x4,x5] 88)).alloc (.cells #[x0,x1,x2,y3,y4,y5] 88)):=(Zb.alloc Zr _).alloc (by rw[zA];omega) _;refine⟨zc (heap_alloc_new wr _) _,?_,hb.drew⟩;have:=heap_alloc_new (wr.alloc (.cells #[x0,x1,x2,x3,x4,x5] 88)) (.cells #[x0,x1,x2,y3,y4,y5] 88);rw[zA]at this;exact this
theorem zAq.down {wr:World} {x0 x1 x2 x3 x4 x5 y3 y4 y5:Value}:zAq wr (wr.heap.size+1) wr.heap.size x0 x1 x2 x3 x4 x5 y3 y4 y5 ((wr.alloc (.cells #[x0,x1,x2,y3,y4,y5] 88)).alloc (.cells #[x0,x1,x2,x3,x4,x5] 88)).drew:=by
 obtain⟨h1,h2,h3⟩:=zAq.up (wr:=wr) (x0:=x0) (x1:=x1) (x2:=x2) (x3:=y3) (x4:=y4) (x5:=y5) (y3:=x3) (y4:=x4) (y5:=x5);exact⟨h2,h1,h3⟩
theorem zAq.cells {wr W:World} {p q:Nat} {x0 x1 x2 x3 x4 x5 y3 y4 y5:Value} (h:zAq wr p q x0 x1 x2 x3 x4 x5 y3 y4 y5 W):
 (W.cell? ⟨p,0,none⟩=some x0∧W.cell? ⟨p,1,none⟩=some x1∧W.cell? ⟨p,2,none⟩=some x2∧W.cell? ⟨p,3,none⟩=some x3∧W.cell? ⟨p,4,none⟩=some x4∧W.cell? ⟨p,5,none⟩=some x5)∧
 (W.cell? ⟨q,0,none⟩=some x0∧W.cell? ⟨q,1,none⟩=some x1∧W.cell? ⟨q,2,none⟩=some x2∧W.cell? ⟨q,3,none⟩=some y3∧W.cell? ⟨q,4,none⟩=some y4∧W.cell? ⟨q,5,none⟩=some y5):=⟨(zO h.1).1,(zO h.2.1).1⟩
set_option maxHeartbeats 1600000 in
theorem same_stmts:∀ N,SsC N
 | 0=>fun l h=>absurd h (by omega)
 | N+1=>by
   intro l hl B A A' cap cap' w hB h1 h2;have IH:=hid (same_stmts N);have HL:=hid hl;have H1:=hid h1;have H2:=hid h2;have hlen:l.length≤281474976710656:=by obtain⟨_,_,_,h⟩:=h1.form;exact h
   clear hl h1 h2;go_enter Tryz.func25,Tryz.ntmps25;go_wp2
   go_loopw [5] (fun iv wr=>∃ i:Nat,i≤l.length∧iv=.int .i64 i∧Below w.heap.size w wr) (fun iv _=>l.length-(intOf iv).toNat)
   case atStart=>exact⟨0,Nat.zero_le _,rfl,Below.refl _ _⟩
   case round=>
    obtain⟨i,hi,rfl,hbw⟩:=hrel;have HBW:=hid hbw;have hsz:=hbw.size;by_cases hlt:i<l.length
    · obtain⟨⟨k,ty,s,args,thn,els⟩,he⟩:∃ e,l[i]? =some e:=⟨_,List.getElem?_eq_getElem hlt⟩
      obtain⟨g,o,v3,v4,v5,rfl,hg,a0,a1,a2,a3,a4,a5,x3,x4,x5⟩:=(H1.out.below (hbw.mono hB) Zr).cells he;obtain⟨g',o',u3,u4,u5,rfl,hg',b0,b1,b2,b3,b4,b5,y3,y4,y5⟩:=(H2.out.below (hbw.mono hB) Zr).cells he;obtain⟨A3,c3,rfl,_⟩:=x3.form;obtain⟨A4,c4,rfl,_⟩:=x4.form;obtain⟨A5,c5,rfl,_⟩:=x5.form;obtain⟨D3,d3,rfl,_⟩:=y3.form;obtain⟨D4,d4,rfl,_⟩:=y4.form;obtain⟨D5,d5,rfl,_⟩:=y5.form;have X3:=hid x3;have X4:=hid x4;have X5:=hid x5;have Y3:=hid y3;have Y4:=hid y4;have Y5:=hid y5;have HZ:=hid (show SizeOf.sizeOf thn<N∧SizeOf.sizeOf els<N by have:=st_size he;have:=HL.out;omega);clear he x3 x4 x5 y3 y4 y5 hbw;have hlt2:(i:Int)<l.length:=by omega
      have hi0:(0 :Int)≤i:=by omega
      have n1:wr.heap.size≠g:=by omega
      have n2:wr.heap.size≠g':=by omega
      have n3:wr.heap.size+1≠g:=by omega
      have n4:wr.heap.size+1≠g':=by omega
      have n5:g<wr.heap.size:=by omega
      have n6:g'<wr.heap.size:=by omega
      go_wp2
      go_region_held3 (fun w'=>w'.cell? ⟨g,o+i * 6,none⟩=some (.int .i64 k)∧w'.cell? ⟨g,o+i * 6+1,none⟩=some (.int .i64 ty)∧w'.cell? ⟨g,o+i * 6+2,none⟩=some (.string s)∧w'.cell? ⟨g,o+i * 6+3,none⟩=some (.slice A3 args.length c3)∧w'.cell? ⟨g,o+i * 6+4,none⟩=some (.slice A4 thn.length c4)∧w'.cell? ⟨g,o+i * 6+5,none⟩=some (.slice A5 els.length c5)∧
       w'.cell? ⟨g',o'+i * 6,none⟩=some (.int .i64 k)∧w'.cell? ⟨g',o'+i * 6+1,none⟩=some (.int .i64 ty)∧w'.cell? ⟨g',o'+i * 6+2,none⟩=some (.string s)∧w'.cell? ⟨g',o'+i * 6+3,none⟩=some (.slice D3 args.length d3)∧w'.cell? ⟨g',o'+i * 6+4,none⟩=some (.slice D4 thn.length d4)∧w'.cell? ⟨g',o'+i * 6+5,none⟩=some (.slice D5 els.length d5))
       (go_keep)
       (fail)
      · have HP:=hid (zAq.up (wr:=wr) (x0:=.int .i64 k) (x1:=.int .i64 ty) (x2:=.string s) (x3:=.slice A3 args.length c3) (x4:=.slice A4 thn.length c4) (x5:=.slice A5 els.length c5) (y3:=.slice D3 args.length d3) (y4:=.slice D4 thn.length d4) (y5:=.slice D5 els.length d5))
        obtain⟨W1,hW1⟩:∃ W1,W1=((wr.alloc (.cells #[.int .i64 k,.int .i64 ty,.string s,.slice A3 args.length c3,.slice A4 thn.length c4,.slice A5 els.length c5] 88)).alloc (.cells #[.int .i64 k,.int .i64 ty,.string s,.slice D3 args.length d3,.slice D4 thn.length d4,.slice D5 els.length d5] 88)).drew:=⟨_,rfl⟩
        rw[←hW1]at HP ⊢;clear hW1;obtain⟨⟨p0,p1,p2,p3,p4,p5⟩,q0,q1,q2,q3,q4,q5⟩:=HP.out.cells;have hs1:=HP.out.bel.size;clear a0 a1 a2 a3 a4 a5 b0 b1 b2 b3 b4 b5
        go_wp2_with (first
         | (go_at_call 60;(with_reducible refine(sexprs_any (X3.out.below (HP.out.bel.mono (by omega)) Zr) (Y3.out.below (HP.out.bel.mono (by omega)) Zr)).mono ?_);rintro e w2 ⟨rfl,hb⟩
            replace HP:=hid (HP.out.step hb);obtain⟨⟨p0,p1,p2,p3,p4,p5⟩,q0,q1,q2,q3,q4,q5⟩:=HP.out.cells;have hs2:=HP.out.bel.size
            clear hb)
         | (go_at_call 25;(with_reducible refine(IH.out.call HZ.out.1 (by omega) (X4.out.below (HP.out.bel.mono (by omega)) Zr) (Y4.out.below (HP.out.bel.mono (by omega)) Zr)).mono ?_);rintro e w3 ⟨rfl,hb⟩
            replace HP:=hid (HP.out.step hb);obtain⟨⟨p0,p1,p2,p3,p4,p5⟩,q0,q1,q2,q3,q4,q5⟩:=HP.out.cells;have hs3:=HP.out.bel.size
            clear hb)
         | (go_at_call 25;(with_reducible refine(IH.out.call HZ.out.2 (by omega) (X5.out.below (HP.out.bel.mono (by omega)) Zr) (Y5.out.below (HP.out.bel.mono (by omega)) Zr)).mono ?_);rintro e w4 ⟨rfl,hb⟩
            replace HP:=hid (HP.out.step hb)
            clear hb))
        go_roundw
        case rel=>exact⟨i+1,by omega,by go_num,HBW.out.trans (HP.out.bel.mono (by omega))⟩
        case measure=>simp[intOf];omega
      · have HP:=hid (zAq.down (wr:=wr) (x0:=.int .i64 k) (x1:=.int .i64 ty) (x2:=.string s) (x3:=.slice A3 args.length c3) (x4:=.slice A4 thn.length c4) (x5:=.slice A5 els.length c5) (y3:=.slice D3 args.length d3) (y4:=.slice D4 thn.length d4) (y5:=.slice D5 els.length d5))
        obtain⟨W1,hW1⟩:∃ W1,W1=((wr.alloc (.cells #[.int .i64 k,.int .i64 ty,.string s,.slice D3 args.length d3,.slice D4 thn.length d4,.slice D5 els.length d5] 88)).alloc (.cells #[.int .i64 k,.int .i64 ty,.string s,.slice A3 args.length c3,.slice A4 thn.length c4,.slice A5 els.length c5] 88)).drew:=⟨_,rfl⟩
        rw[←hW1]at HP ⊢;clear hW1;obtain⟨⟨p0,p1,p2,p3,p4,p5⟩,q0,q1,q2,q3,q4,q5⟩:=HP.out.cells;have hs1:=HP.out.bel.size;clear a0 a1 a2 a3 a4 a5 b0 b1 b2 b3 b4 b5
        go_wp2_with (first
         | (go_at_call 60;(with_reducible refine(sexprs_any (X3.out.below (HP.out.bel.mono (by omega)) Zr) (Y3.out.below (HP.out.bel.mono (by omega)) Zr)).mono ?_);rintro e w2 ⟨rfl,hb⟩
            replace HP:=hid (HP.out.step hb);obtain⟨⟨p0,p1,p2,p3,p4,p5⟩,q0,q1,q2,q3,q4,q5⟩:=HP.out.cells;have hs2:=HP.out.bel.size
            clear hb)
         | (go_at_call 25;(with_reducible refine(IH.out.call HZ.out.1 (by omega) (X4.out.below (HP.out.bel.mono (by omega)) Zr) (Y4.out.below (HP.out.bel.mono (by omega)) Zr)).mono ?_);rintro e w3 ⟨rfl,hb⟩
            replace HP:=hid (HP.out.step hb);obtain⟨⟨p0,p1,p2,p3,p4,p5⟩,q0,q1,q2,q3,q4,q5⟩:=HP.out.cells;have hs3:=HP.out.bel.size
            clear hb)
         | (go_at_call 25;(with_reducible refine(IH.out.call HZ.out.2 (by omega) (X5.out.below (HP.out.bel.mono (by omega)) Zr) (Y5.out.below (HP.out.bel.mono (by omega)) Zr)).mono ?_);rintro e w4 ⟨rfl,hb⟩
            replace HP:=hid (HP.out.step hb)
            clear hb))
        go_roundw
        case rel=>exact⟨i+1,by omega,by go_num,HBW.out.trans (HP.out.bel.mono (by omega))⟩
        case measure=>simp[intOf];omega
    · go_wp2
      go_ret;exact⟨rfl,HBW.out⟩
theorem sstmts_any {l:List St} {B:Nat} {A A':Option Addr} {cap cap':Nat} {w:World} (hB:B≤w.heap.size) (h1:SlS B w (.slice A l.length cap) l) (h2:SlS B w (.slice A' l.length cap') l):
 Calls Tryz.prog 25 #[.slice A l.length cap,.slice A' l.length cap'] w fun e w'=>e=.returned (.bool true)∧Below w.heap.size w w':=
 same_stmts (SizeOf.sizeOf l+1) l (by omega) B A A' cap cap' w hB h1 h2
def Two (w:World) (a0 a1 b0 b1:Value) (W:World):Prop:=
 W.heap[w.heap.size]? =some (.cells #[a0,a1] 26 (0,0))∧W.heap[w.heap.size+1]? =some (.cells #[b0,b1] 26 (0,0))∧Below w.heap.size w W
theorem Two.start (w:World) (a0 a1 b0 b1:Value):Two w a0 a1 b0 b1 ((w.alloc (.cells #[a0,a1] 26)).alloc (.cells #[b0,b1] 26)):=by
 refine⟨zc (heap_alloc_new w _) _,?_,(Zb.alloc Zr _).alloc (by rw[zA];omega) _⟩;have:=heap_alloc_new (w.alloc (.cells #[a0,a1] 26)) (.cells #[b0,b1] 26);rw[zA]at this;exact this
theorem Two.step {w W W':World} {a0 a1 b0 b1:Value} (h:Two w a0 a1 b0 b1 W) (hb:Below W.heap.size W W'):Two w a0 a1 b0 b1 W':=
 ⟨(hb.block _ (Array.getElem?_eq_some_iff.1 h.1).1).trans h.1,(hb.block _ (Array.getElem?_eq_some_iff.1 h.2.1).1).trans h.2.1,h.2.2.trans (hb.mono h.2.2.size)⟩
theorem Two.bel {w W:World} {a0 a1 b0 b1:Value} (h:Two w a0 a1 b0 b1 W):Below w.heap.size w W:=h.2.2
theorem Two.lt {w W:World} {a0 a1 b0 b1:Value} (h:Two w a0 a1 b0 b1 W):w.heap.size+1<W.heap.size:=(Array.getElem?_eq_some_iff.1 h.2.1).1
theorem Two.cells {w W:World} {a0 a1 b0 b1:Value} (h:Two w a0 a1 b0 b1 W):(W.cell? ⟨w.heap.size,0,none⟩=some a0∧W.cell? ⟨w.heap.size,1,none⟩=some a1)∧(W.cell? ⟨w.heap.size+1,0,none⟩=some b0∧W.cell? ⟨w.heap.size+1,1,none⟩=some b1):=⟨(j8 h.1).1,(j8 h.2.1).1⟩
def xJ (wr:World) (p q:Nat) (x0 x1 x2 x3 y2 y3:Value) (W:World):Prop:=
 W.heap[p]? =some (.cells #[x0,x1,x2,x3] 45 (0,0))∧W.heap[q]? =some (.cells #[x0,x1,y2,y3] 45 (0,0))∧Below wr.heap.size wr W
theorem xJ.step {wr W W':World} {p q:Nat} {x0 x1 x2 x3 y2 y3:Value} (h:xJ wr p q x0 x1 x2 x3 y2 y3 W) (hb:Below W.heap.size W W'):xJ wr p q x0 x1 x2 x3 y2 y3 W':=
 ⟨(hb.block _ (Array.getElem?_eq_some_iff.1 h.1).1).trans h.1,(hb.block _ (Array.getElem?_eq_some_iff.1 h.2.1).1).trans h.2.1,h.2.2.trans (hb.mono h.2.2.size)⟩
theorem xJ.bel {wr W:World} {p q:Nat} {x0 x1 x2 x3 y2 y3:Value} (h:xJ wr p q x0 x1 x2 x3 y2 y3 W):Below wr.heap.size wr W:=h.2.2
theorem xJ.up {wr:World} {x0 x1 x2 x3 y2 y3:Value}:xJ wr wr.heap.size (wr.heap.size+1) x0 x1 x2 x3 y2 y3 ((wr.alloc (.cells #[x0,x1,x2,x3] 45)).alloc (.cells #[x0,x1,y2,y3] 45)).drew:=by
 have hb:Below wr.heap.size wr ((wr.alloc (.cells #[x0,x1,x2,x3] 45)).alloc (.cells #[x0,x1,y2,y3] 45)):=(Zb.alloc Zr _).alloc (by rw[zA];omega) _;refine⟨zc (heap_alloc_new wr _) _,?_,hb.drew⟩;have:=heap_alloc_new (wr.alloc (.cells #[x0,x1,x2,x3] 45)) (.cells #[x0,x1,y2,y3] 45);rw[zA]at this;exact this
theorem xJ.down {wr:World} {x0 x1 x2 x3 y2 y3:Value}:xJ wr (wr.heap.size+1) wr.heap.size x0 x1 x2 x3 y2 y3 ((wr.alloc (.cells #[x0,x1,y2,y3] 45)).alloc (.cells #[x0,x1,x2,x3] 45)).drew:=by
 obtain⟨h1,h2,h3⟩:=xJ.up (wr:=wr) (x0:=x0) (x1:=x1) (x2:=y2) (x3:=y3) (y2:=x2) (y3:=x3);exact⟨h2,h1,h3⟩
theorem xJ.cells {wr W:World} {p q:Nat} {x0 x1 x2 x3 y2 y3:Value} (h:xJ wr p q x0 x1 x2 x3 y2 y3 W):
 (W.cell? ⟨p,0,none⟩=some x0∧W.cell? ⟨p,1,none⟩=some x1∧W.cell? ⟨p,2,none⟩=some x2∧W.cell? ⟨p,3,none⟩=some x3)∧
 (W.cell? ⟨q,0,none⟩=some x0∧W.cell? ⟨q,1,none⟩=some x1∧W.cell? ⟨q,2,none⟩=some y2∧W.cell? ⟨q,3,none⟩=some y3):=⟨(xm h.1).1,(xm h.2.1).1⟩
set_option maxHeartbeats 3200000 in
theorem same_any (p:Pr) (B:Nat) (v0 v1 u0 u1:Value) (w:World) (hB:B≤w.heap.size) (h0:SlA B w v0 p.arrays) (h1:SlF B w v1 p.funcs) (g0:SlA B w u0 p.arrays) (g1:SlF B w u1 p.funcs):
 Calls Tryz.prog 11 #[.agg #[v0,v1],.agg #[u0,u1]] w fun e w'=>e=.returned (.bool true)∧Below w.heap.size w w':=by
 obtain⟨A0,c0,rfl,hn0⟩:=h0.form;obtain⟨A1,c1,rfl,hn1⟩:=h1.form;obtain⟨D0,d0,rfl,_⟩:=g0.form;obtain⟨D1,d1,rfl,_⟩:=g1.form;have H0:=hid h0;have H1:=hid h1;have G0:=hid g0;have G1:=hid g1;have HT:=hid (Two.start w (.slice A0 p.arrays.length c0) (.slice A1 p.funcs.length c1) (.slice D0 p.arrays.length d0) (.slice D1 p.funcs.length d1));clear h0 h1 g0 g1;go_enter Tryz.func11,Tryz.ntmps11;go_wp2
 go_loopw [5] (fun iv wr=>∃ i:Nat,i≤p.arrays.length∧iv=.int .i64 i∧Two w (.slice A0 p.arrays.length c0) (.slice A1 p.funcs.length c1) (.slice D0 p.arrays.length d0) (.slice D1 p.funcs.length d1) wr) (fun iv _=>p.arrays.length-(intOf iv).toNat)
 case atStart=>exact⟨0,Nat.zero_le _,rfl,HT.out⟩
 case round=>
  obtain⟨i,hi,rfl,hT⟩:=hrel;replace HT:=hid hT;have hw:=hT.lt;obtain⟨⟨p0,p1⟩,q0,q1⟩:=hT.cells;clear hT;by_cases hlt:i<p.arrays.length
  · obtain⟨a,he⟩:∃ e,p.arrays[i]? =some e:=⟨_,List.getElem?_eq_getElem hlt⟩
    obtain⟨g,o,rfl,hg,a0,a1⟩:=(H0.out.below (HT.out.bel.mono hB) Zr).cells he;obtain⟨g',o',rfl,hg',b0,b1⟩:=(G0.out.below (HT.out.bel.mono hB) Zr).cells he;clear he;have hlt2:(i:Int)<p.arrays.length:=by omega
    have hi0:(0 :Int)≤i:=by omega
    go_wp2
    go_quiet (fail)
    go_wp2;go_roundw
    case rel=>exact⟨i+1,by omega,by go_num,HT.out.step (ql Zb nq)⟩
    case measure=>simp[intOf];omega
  · go_wp2
    clear p0 p1 q0 q1;obtain⟨W0,rfl⟩:∃ W0,W0=wr:=⟨_,rfl⟩
    go_loopw [6] (fun iv wr=>∃ i:Nat,i≤p.funcs.length∧iv=.int .i64 i∧Two w (.slice A0 p.arrays.length c0) (.slice A1 p.funcs.length c1) (.slice D0 p.arrays.length d0) (.slice D1 p.funcs.length d1) wr) (fun iv _=>p.funcs.length-(intOf iv).toNat)
    case atStart=>exact⟨0,Nat.zero_le _,rfl,HT.out⟩
    case round=>
    obtain⟨wr2,hwr2⟩:∃ W,W=wr:=⟨_,rfl⟩
    obtain⟨i,hi,rfl,hT⟩:=hrel;subst hwr2;replace HT:=hid hT;have hw:=hT.lt;have hbs:=hT.bel.size;obtain⟨⟨p0,p1⟩,q0,q1⟩:=hT.cells;clear hT;by_cases hlt:i<p.funcs.length
    · obtain⟨f,he⟩:∃ e,p.funcs[i]? =some e:=⟨_,List.getElem?_eq_getElem hlt⟩
      obtain⟨g,o,v3,v4,rfl,hg,a0,a1,a2,a3,h3,h4⟩:=(H1.out.below (HT.out.bel.mono hB) Zr).cells he;obtain⟨g',o',u3,u4,rfl,hg',b0,b1,b2,b3,k3,k4⟩:=(G1.out.below (HT.out.bel.mono hB) Zr).cells he;obtain⟨A3,c3,rfl,_⟩:=h3.form;obtain⟨A4,c4,rfl,_⟩:=h4.form;obtain⟨D3,d3,rfl,_⟩:=k3.form;obtain⟨D4,d4,rfl,_⟩:=k4.form;have X3:=hid h3;have X4:=hid h4;have Y3:=hid k3;have Y4:=hid k4;clear he h3 h4 k3 k4;have hlt2:(i:Int)<p.funcs.length:=by omega
      have hi0:(0 :Int)≤i:=by omega
      have n1:wr2.heap.size≠g:=by omega
      have n2:wr2.heap.size≠g':=by omega
      have n3:wr2.heap.size+1≠g:=by omega
      have n4:wr2.heap.size+1≠g':=by omega
      have m1:wr2.heap.size≠w.heap.size:=by omega
      have m2:wr2.heap.size≠w.heap.size+1:=by omega
      have m3:wr2.heap.size+1≠w.heap.size:=by omega
      have m4:wr2.heap.size+1≠w.heap.size+1:=by omega
      have n5:g<wr2.heap.size:=by omega
      have n6:g'<wr2.heap.size:=by omega
      go_wp2
      go_region_held3 (fun w'=>w'.cell? ⟨w.heap.size,1,none⟩=some (.slice (some ⟨g,o,none⟩) p.funcs.length c1)∧w'.cell? ⟨w.heap.size+1,1,none⟩=some (.slice (some ⟨g',o',none⟩) p.funcs.length d1)∧w'.cell? ⟨g,o+i * 4,none⟩=some (.string f.name)∧w'.cell? ⟨g,o+i * 4+1,none⟩=some (.int .i64 f.type)∧w'.cell? ⟨g,o+i * 4+2,none⟩=some (.slice A3 f.params.length c3)∧w'.cell? ⟨g,o+i * 4+3,none⟩=some (.slice A4 f.body.length c4)∧
       w'.cell? ⟨g',o'+i * 4,none⟩=some (.string f.name)∧w'.cell? ⟨g',o'+i * 4+1,none⟩=some (.int .i64 f.type)∧w'.cell? ⟨g',o'+i * 4+2,none⟩=some (.slice D3 f.params.length d3)∧w'.cell? ⟨g',o'+i * 4+3,none⟩=some (.slice D4 f.body.length d4))
       (go_keep)
       (fail)
      · have HP:=hid (xJ.up (wr:=wr2) (x0:=.string f.name) (x1:=.int .i64 f.type) (x2:=.slice A3 f.params.length c3) (x3:=.slice A4 f.body.length c4) (y2:=.slice D3 f.params.length d3) (y3:=.slice D4 f.body.length d4))
        obtain⟨W1,hW1⟩:∃ W1,W1=((wr2.alloc (.cells #[.string f.name,.int .i64 f.type,.slice A3 f.params.length c3,.slice A4 f.body.length c4] 45)).alloc (.cells #[.string f.name,.int .i64 f.type,.slice D3 f.params.length d3,.slice D4 f.body.length d4] 45)).drew:=⟨_,rfl⟩
        rw[←hW1]at HP ⊢;clear hW1;obtain⟨⟨x0,x1,x2,x3⟩,y0,y1,y2,y3⟩:=HP.out.cells;have hs1:=HP.out.bel.size;clear a0 a1 a2 a3 b0 b1 b2 b3 p0 p1 q0 q1
        go_wp2_with (first
         | (go_at_call 25;(with_reducible refine(sstmts_any (B:=B) (by omega) (X4.out.below (HP.out.bel.mono (by omega)) Zr) (Y4.out.below (HP.out.bel.mono (by omega)) Zr)).mono ?_);rintro e w3 ⟨rfl,hb⟩
            replace HP:=hid (HP.out.step hb)
            clear hb))
        obtain⟨w3',rfl⟩:∃ W0,W0=w3:=⟨_,rfl⟩
        go_loopw [9] (fun kv wr3=>∃ k:Nat,k≤f.params.length∧kv=.int .i64 k∧xJ wr2 wr2.heap.size (wr2.heap.size+1) (.string f.name) (.int .i64 f.type) (.slice A3 f.params.length c3) (.slice A4 f.body.length c4) (.slice D3 f.params.length d3) (.slice D4 f.body.length d4) wr3) (fun kv _=>f.params.length-(intOf kv).toNat)
        case atStart=>exact⟨0,Nat.zero_le _,rfl,HP.out⟩
        case round=>
         obtain⟨k,hk,rfl,hP⟩:=hrel;replace HP:=hid hP;clear hP;obtain⟨⟨x0,x1,x2,x3⟩,y0,y1,y2,y3⟩:=HP.out.cells;have hs3:=HP.out.bel.size;by_cases hlt3:k<f.params.length
         · obtain⟨x,he3⟩:∃ e,f.params[k]? =some e:=⟨_,List.getElem?_eq_getElem hlt3⟩
           obtain⟨g3,o3,rfl,hg3,s0,s1⟩:=(X3.out.below (HP.out.bel.mono (by omega)) Zr).cells he3;obtain⟨g4,o4,rfl,hg4,t0,t1⟩:=(Y3.out.below (HP.out.bel.mono (by omega)) Zr).cells he3;clear he3;have hlt4:(k:Int)<f.params.length:=by omega
           have hk0:(0 :Int)≤k:=by omega
           go_wp2
           go_quiet (fail)
           go_wp2;go_roundw
           case rel=>exact⟨k+1,by omega,by go_num,HP.out.step (ql Zb nq)⟩
           case measure=>simp[intOf];omega
         · go_wp2
           go_roundw
           case rel=>exact⟨i+1,by omega,by go_num,HT.out.step HP.out.bel⟩
           case measure=>simp[intOf];omega
      · have HP:=hid (xJ.down (wr:=wr2) (x0:=.string f.name) (x1:=.int .i64 f.type) (x2:=.slice A3 f.params.length c3) (x3:=.slice A4 f.body.length c4) (y2:=.slice D3 f.params.length d3) (y3:=.slice D4 f.body.length d4))
        obtain⟨W1,hW1⟩:∃ W1,W1=((wr2.alloc (.cells #[.string f.name,.int .i64 f.type,.slice D3 f.params.length d3,.slice D4 f.body.length d4] 45)).alloc (.cells #[.string f.name,.int .i64 f.type,.slice A3 f.params.length c3,.slice A4 f.body.length c4] 45)).drew:=⟨_,rfl⟩
        rw[←hW1]at HP ⊢;clear hW1;obtain⟨⟨x0,x1,x2,x3⟩,y0,y1,y2,y3⟩:=HP.out.cells;have hs1:=HP.out.bel.size;clear a0 a1 a2 a3 b0 b1 b2 b3 p0 p1 q0 q1
        go_wp2_with (first
         | (go_at_call 25;(with_reducible refine(sstmts_any (B:=B) (by omega) (X4.out.below (HP.out.bel.mono (by omega)) Zr) (Y4.out.below (HP.out.bel.mono (by omega)) Zr)).mono ?_);rintro e w3 ⟨rfl,hb⟩
            replace HP:=hid (HP.out.step hb)
            clear hb))
        obtain⟨w3',rfl⟩:∃ W0,W0=w3:=⟨_,rfl⟩
        go_loopw [9] (fun kv wr3=>∃ k:Nat,k≤f.params.length∧kv=.int .i64 k∧xJ wr2 (wr2.heap.size+1) wr2.heap.size (.string f.name) (.int .i64 f.type) (.slice A3 f.params.length c3) (.slice A4 f.body.length c4) (.slice D3 f.params.length d3) (.slice D4 f.body.length d4) wr3) (fun kv _=>f.params.length-(intOf kv).toNat)
        case atStart=>exact⟨0,Nat.zero_le _,rfl,HP.out⟩
        case round=>
         obtain⟨k,hk,rfl,hP⟩:=hrel;replace HP:=hid hP;clear hP;obtain⟨⟨x0,x1,x2,x3⟩,y0,y1,y2,y3⟩:=HP.out.cells;have hs3:=HP.out.bel.size;by_cases hlt3:k<f.params.length
         · obtain⟨x,he3⟩:∃ e,f.params[k]? =some e:=⟨_,List.getElem?_eq_getElem hlt3⟩
           obtain⟨g3,o3,rfl,hg3,s0,s1⟩:=(X3.out.below (HP.out.bel.mono (by omega)) Zr).cells he3;obtain⟨g4,o4,rfl,hg4,t0,t1⟩:=(Y3.out.below (HP.out.bel.mono (by omega)) Zr).cells he3;clear he3;have hlt4:(k:Int)<f.params.length:=by omega
           have hk0:(0 :Int)≤k:=by omega
           go_wp2
           go_quiet (fail)
           go_wp2;go_roundw
           case rel=>exact⟨k+1,by omega,by go_num,HP.out.step (ql Zb nq)⟩
           case measure=>simp[intOf];omega
         · go_wp2
           go_roundw
           case rel=>exact⟨i+1,by omega,by go_num,HT.out.step HP.out.bel⟩
           case measure=>simp[intOf];omega
    · go_wp2
      go_ret;exact⟨rfl,HT.out.bel⟩
end Go.Proofs.YtfghofifjnbicaaGreatDoor
