import Derived.Test.YtfghofifjnbicaaGreatDoorAhZed
import Derived.Test.YtfghofifjnbicaaGreatDoorAhTyOw
set_option linter.unusedSimpArgs false
set_option linter.unusedVariables false
set_option maxRecDepth 100000
/- The document's parser: which operator stands here. -/
namespace Go.Proofs.YtfghofifjnbicaaGreatDoor
open Lib (hid)
open Go.RowKit
def xh (a:Int):Nat→List Int
 | 0=>[]
 | m+1=>a :: xh (a+1) m
theorem twos_range:twos=xh 1 19:=by decide
theorem ones_range:ones=xh 20 9:=by decide
def opIs (lev:Int) (l:List Tok) (op:Int):Bool:=decide (kS op=lev) && z6 (sgT op) l
theorem opFrom_cons (lev:Int) (l:List Tok) (a:Int) (r:List Int):xa lev l (a :: r)=if opIs lev l a=true then a else xa lev l r:=by
 rw[xa];unfold opIs;simp only[Bool.and_eq_true,decide_eq_true_eq]
theorem opFrom_hit {lev:Int} {l:List Tok} {k:Int} (hk:opIs lev l k=true):∀ (m:Nat) (a:Int),a≤k→k<a+m→(∀ j,a≤j→j<k→opIs lev l j=false)→xa lev l (xh a m)=k
 | 0,a,h1,h2,_=>by omega
 | m+1,a,h1,h2,h=>by
   rw[xh,opFrom_cons];by_cases e:a=k
   · subst e
     rw[if_pos hk]
   · rw[h a (Int.le_refl _) (by omega),if_neg (by decide)]
     exact opFrom_hit hk m (a+1) (by omega) (by omega) fun j h3=>h j (by omega)
theorem opFrom_none {lev:Int} {l:List Tok}:∀ (m:Nat) (a:Int),(∀ j,a≤j→j<a+m→opIs lev l j=false)→xa lev l (xh a m)=0
 | 0,a,_=>rfl
 | m+1,a,h=>by
   rw[xh,opFrom_cons,h a (Int.le_refl _) (by omega),if_neg (by decide)];exact opFrom_none m (a+1) fun j h3 h4=>h j (by omega) (by omega)
theorem unFrom_hit {l:List Tok} {k:Int} (hk:z6 (sgT k) l=true):∀ (m:Nat) (a:Int),a≤k→k<a+m→(∀ j,a≤j→j<k→z6 (sgT j) l=false)→yC l (xh a m)=k
 | 0,a,h1,h2,_=>by omega
 | m+1,a,h1,h2,h=>by
   rw[xh,yC];by_cases e:a=k
   · subst e
     rw[if_pos hk]
   · rw[h a (Int.le_refl _) (by omega),if_neg (by decide)]
     exact unFrom_hit hk m (a+1) (by omega) (by omega) fun j h3=>h j (by omega)
theorem unFrom_none {l:List Tok}:∀ (m:Nat) (a:Int),(∀ j,a≤j→j<a+m→z6 (sgT j) l=false)→yC l (xh a m)=0
 | 0,a,_=>rfl
 | m+1,a,h=>by
   rw[xh,yC,h a (Int.le_refl _) (by omega),if_neg (by decide)];exact unFrom_none m (a+1) fun j h3 h4=>h j (by omega) (by omega)
def opX (lev:Int) (x:PR Unit):Int:=match x with | .ok _ r=>opAt lev r | _=>0
def uG (lev:Int) (x:PR Unit) (op:Int):Bool:=decide (kS op=lev) && zP (sgT op) x
theorem opX_hit {lev k:Int} {x:PR Unit} (h1:1≤k) (h2:k≤19) (hk:uG lev x k=true) (h:∀ j,1≤j→j<k→uG lev x j=false):opX lev x=k:=by
 cases x with
 | ok a r=>
   show xa lev r twos=k;rw[twos_range];exact opFrom_hit hk 19 1 h1 (by omega) h
 | _=>simp[uG,zP]at hk
theorem opX_none {lev:Int} {x:PR Unit} (h:∀ j,1≤j→j<20→uG lev x j=false):opX lev x=0:=by
 cases x with
 | ok a r=>
   show xa lev r twos=0;rw[twos_range];exact opFrom_none 19 1 h
 | _=>rfl
theorem rlevel_is (op l:Int) (h:kS op=l) (w:World):Calls Tryz.prog 86 #[.int .i64 op] w fun e w'=>e=.returned (.int .i64 l)∧w=w':=h ▸ rlevel_any op w
theorem kK {b:Nat} {V:Value} {all:List Tok} {x:PR Unit} {w:World} (op:Int) (s:ByteArray) (h:kG op=s) (hs:qx b V all x w):Calls Tryz.prog 118 #[.int .i64 op] w fun e w'=>e=.returned (.string s)∧qY b V all w x w':=by
 subst h;exact(rsign_any op w).mono fun _ _ ⟨he,hb⟩=>⟨he,hs.below hb,OffB.of_below hb hs.lt⟩
theorem qo {b:Nat} {V:Value} {all:List Tok} {x:PR Unit} {w:World} (h:qx b V all x w) (s:ByteArray) (v:Bool) (hv:zP s.data.toList x=v):
 Calls Tryz.prog 67 #[.pointer (some ⟨b,0,none⟩),.string s] w fun e w'=>e=.returned (.bool v)∧qY b V all w x w':=
 (is_is h s v hv).mono fun _ _ ⟨he,m,hm⟩=>⟨he,hm ▸ ⟨h.drewN m,(OffB.refl b _ w).drewN m⟩⟩
theorem op_any {b:Nat} {V:Value} {all:List Tok} {x:PR Unit} {w:World} (h:qx b V all x w) (lev:Int) (o:Int) (ho:opX lev x=o):
 Calls Tryz.prog 112 #[.pointer (some ⟨b,0,none⟩),.int .i64 lev] w fun e w'=>e=.returned (.int .i64 o)∧qY b V all w x w':=by
 have HD:=hid (show qY b V all w x w from⟨h,OffB.refl _ _ _⟩);have HO:=hid ho;clear h ho;go_enter Tryz.func112,Tryz.ntmps112;go_wp2
 go_loopw [5] (fun i wr=>∃ k:Int,i=.int .i64 k∧1≤k∧k≤20∧(∀ j,1≤j→j<k→uG lev x j=false)∧qY b V all w x wr) (fun i _=>(20-intOf i).toNat)
 case atStart=>exact⟨1,rfl,by omega,by omega,fun j h1 h2=>by omega,HD.out⟩
 case round=>
  obtain⟨k,rfl,hk1,hk2,hno,hD⟩:=hrel;have HN:=hid hno;replace HD:=hid hD;clear hno hD;by_cases hlt:k≤19
  · obtain⟨l,hl⟩:∃ l,kS k=l:=⟨_,rfl⟩
    obtain⟨s,hs⟩:∃ s,kG k=s:=⟨_,rfl⟩
    have HL:=hid hl;have HS:=hid hs;by_cases hll:l=lev
    · subst hll
      cases hv:zP s.data.toList x with
      | true=>
        have hok:opX l x=k:=opX_hit hk1 hlt (by unfold uG sgT;rw[hs,hv,decide_eq_true hl];rfl) HN.out;have HV:=hid hv;have HK:=hid (hok.symm.trans HO.out);clear hl hs hv hok
        go_wp2_with (first
         | (go_at_call 86;(with_reducible refine(rlevel_is k l HL.out _).mono ?_);rintro e w1 ⟨rfl,rfl⟩)
         | (go_at_call 118;(with_reducible refine(kK k s HS.out HD.out.st).mono ?_);rintro e w2 ⟨rfl,hD⟩;replace HD:=hid (HD.out.after hD);clear hD)
         | (go_at_call 67;(with_reducible refine(qo HD.out.st s true HV.out).mono ?_);rintro e w3 ⟨rfl,hD⟩;replace HD:=hid (HD.out.after hD);clear hD))
        go_ret;exact⟨zk HK.out,HD.out⟩
      | false=>
        have hno2:∀ j,1≤j→j<k+1→uG l x j=false:=fun j h1 h2=>by
         by_cases e:j=k
         · subst e
           unfold uG sgT;rw[hs,hv,Bool.and_false]
         · exact HN.out j h1 (by omega)
        replace HN:=hid hno2;have HV:=hid hv;clear hl hs hv hno2
        go_wp2_with (first
         | (go_at_call 86;(with_reducible refine(rlevel_is k l HL.out _).mono ?_);rintro e w1 ⟨rfl,rfl⟩)
         | (go_at_call 118;(with_reducible refine(kK k s HS.out HD.out.st).mono ?_);rintro e w2 ⟨rfl,hD⟩;replace HD:=hid (HD.out.after hD);clear hD)
         | (go_at_call 67;(with_reducible refine(qo HD.out.st s false HV.out).mono ?_);rintro e w3 ⟨rfl,hD⟩;replace HD:=hid (HD.out.after hD);clear hD))
        go_roundw
        case rel=>exact⟨k+1,rfl,by omega,by omega,HN.out,HD.out⟩
        case measure=>simp[intOf];omega
    · have hll2:(l == lev)=false:=by simpa using hll
      have hno2:∀ j,1≤j→j<k+1→uG lev x j=false:=fun j h1 h2=>by
       by_cases e:j=k
       · subst e
         unfold uG;rw[hl,decide_eq_false hll,Bool.false_and]
       · exact HN.out j h1 (by omega)
      replace HN:=hid hno2;clear hl hs hno2 hll
      go_wp2_with (first
       | (go_at_call 86;(with_reducible refine(rlevel_is k l HL.out _).mono ?_);rintro e w1 ⟨rfl,rfl⟩))
      go_roundw
      case rel=>exact⟨k+1,rfl,by omega,by omega,HN.out,HD.out⟩
      case measure=>simp[intOf];omega
  · obtain rfl:k=20:=by omega
    go_wp2;go_ret;exact⟨zk (by rw[←HO.out,opX_none HN.out]),HD.out⟩
def CP (b:Nat) (V:Value) (all:List Tok) (n:Nat) (d:Int):Prop:=∀ (w:World) (x:PR Unit),qx b V all x w→zG (x.bind fun _ r=>pP n d r)→
 Calls Tryz.prog 119 #[.pointer (some ⟨b,0,none⟩),.int .i64 d] w (qF b V all w (x.bind fun _ r=>pP n d r) (jc w.heap.size))
theorem CP.call {b:Nat} {V:Value} {all:List Tok} {n:Nat} {d:Int} (h:CP b V all n d) {w:World} {x:PR Unit} (hs:qx b V all x w) (he:zG (x.bind fun _ r=>pP n d r)):
 Calls Tryz.prog 119 #[.pointer (some ⟨b,0,none⟩),.int .i64 d] w (qF b V all w (x.bind fun _ r=>pP n d r) (jc w.heap.size)):=h w x hs he
def CU (b:Nat) (V:Value) (all:List Tok) (n:Nat) (d:Int):Prop:=∀ (w:World) (x:PR Unit),qx b V all x w→zG (x.bind fun _ r=>pU n d r)→
 Calls Tryz.prog 111 #[.pointer (some ⟨b,0,none⟩),.int .i64 d] w (qF b V all w (x.bind fun _ r=>pU n d r) (jc w.heap.size))
theorem CU.call {b:Nat} {V:Value} {all:List Tok} {n:Nat} {d:Int} (h:CU b V all n d) {w:World} {x:PR Unit} (hs:qx b V all x w) (he:zG (x.bind fun _ r=>pU n d r)):
 Calls Tryz.prog 111 #[.pointer (some ⟨b,0,none⟩),.int .i64 d] w (qF b V all w (x.bind fun _ r=>pU n d r) (jc w.heap.size)):=h w x hs he
theorem isAt_over {x:PR Unit} (ho:zg x=true) (s:List UInt8):zP s x=false:=by
 cases x with
 | ok u r=>cases ho
 | _=>rfl
theorem us {α:Type} {b:Nat} {V:Value} {all:List Tok} {w W:World} {x:PR Unit} (ho:zg x=true) {f:List Tok→PR α} {F:World→α→Value→Prop} {v:Value} (hD:qY b V all w x W) (a:α) (ha:F W a v):qF b V all w (x.bind fun _ r=>f r) F (.returned v) W:=by
 cases x with
 | ok u r=>cases ho
 | bad r=>exact⟨v,rfl,hD,a,ha⟩
 | deep r=>exact⟨v,rfl,hD,a,ha⟩
 | out=>exact absurd hD.st id
theorem prim_any {b:Nat} {V:Value} {all:List Tok} {n:Nat} {d:Int} (hE:∀ m,m≤n→CE b V all m 1 (d+1)) (hA:∀ m,m≤n→CA b V all m (d+1)) (hd:0≤d∧d≤1000):CP b V all (n+1) d:=by
 intro w x h hn;cases ho:zg x with
 | true=>exact(yS h ho d).mono fun e w' ⟨he,hD⟩=>he ▸ us ho hD ex0 (uO _ _)
 | false=>
   cases x with
   | ok u r=>
     have hp:zS b V all r false false w:=h;have hn':zG (pP (n+1) d r):=hn;show Calls _ _ _ _ (qF b V all w (pP (n+1) d r) _);cases h1:z6 [40] r with
     | true=>exact prim_paren (hE n Zr) hp hd h1 hn'
     | false=>
       cases h2:z6 uD r with
       | true=>exact prim_true hp hd h1 h2
       | false=>
         cases h3:z6 y8 r with
         | true=>exact prim_false hp hd h1 h2 h3
         | false=>
           cases h4:z6 sRead r with
           | true=>exact prim_read hp hd h1 h2 h3 h4
           | false=>
             by_cases h5:yn r=0
             · exact prim_num hp hd h1 h2 h3 h4 h5
             · by_cases h6:yn r=1
               · cases h7:z6 [40] r.tail with
                 | true=>
                   cases n with
                   | zero=>
                     rw[pP,h1,h2,h3,h4,if_neg (by decide),if_neg (by decide),if_neg (by decide),if_neg (by decide),if_neg h5]at hn';unfold qP at hn';rw[if_pos h6]at hn';simp only[PR.bind]at hn';rw[pN]at hn';exact absurd hn' id
                   | succ n=>exact prim_call (hA n (by omega)) hp hd h1 h2 h3 h4 h6 h7 hn'
                 | false=>
                   cases h8:z6 [91] r.tail with
                   | true=>
                     cases n with
                     | zero=>
                       rw[pP,h1,h2,h3,h4,if_neg (by decide),if_neg (by decide),if_neg (by decide),if_neg (by decide),if_neg h5]at hn';unfold qP at hn';rw[if_pos h6]at hn';simp only[PR.bind]at hn';rw[pN]at hn';exact absurd hn' id
                     | succ n=>exact prim_index (hE n (by omega)) hp hd h1 h2 h3 h4 h6 h7 h8 hn'
                   | false=>exact prim_name hp hd h1 h2 h3 h4 h6 h7 h8 hn'
               · exact prim_bad hp hd h1 h2 h3 h4 h5 h6
   | bad r=>cases ho
   | deep r=>cases ho
   | out=>exact absurd h id
theorem zS.deepen {b:Nat} {V:Value} {all r:List Tok} {dp:Bool} {w:World} (h:zS b V all r false dp w):zS b V all r false true (w.setCell ⟨b,3,none⟩ (.bool true)):=
 ⟨h.1.set 3 (.bool true),h.2.1.off ((OffB.refl b _ w).setb h.lt 3 _),h.2.2⟩
theorem unary_none {b:Nat} {V:Value} {all:List Tok} {x:PR Unit} {w:World} {d:Int} (h:qx b V all x w) (hd:0≤d∧d≤1000) (ho:zg x=true) (hd2:d≤100):
 Calls Tryz.prog 111 #[.pointer (some ⟨b,0,none⟩),.int .i64 d] w fun e w'=>e=.returned ex0V∧qY b V all w x w':=by
 have HC:=hid (jS.start h);have HO:=hid ho;have hdd:¬ 100<d:=by omega
 clear h ho;go_enter Tryz.func111,Tryz.ntmps111;go_wp2
 go_loopw [5] (fun i wr=>∃ k:Int,i=.int .i64 k∧20≤k∧k≤29∧jS b V all w x wr) (fun i _=>(29-intOf i).toNat)
 case atStart=>exact⟨20,rfl,by omega,by omega,HC.out⟩
 case round=>
  obtain⟨k,rfl,hk1,hk2,hC⟩:=hrel;replace HC:=hid hC;clear hC;by_cases hlt:k≤28
  · obtain⟨s,hs⟩:∃ s,kG k=s:=⟨_,rfl⟩
    have HS:=hid hs;have HV:=hid (isAt_over HO.out s.data.toList);clear hs
    go_wp2_with (first
     | (go_at_call 118;(with_reducible refine(kK k s HS.out HC.out.st).mono ?_);rintro e w2 ⟨rfl,hD⟩;replace HC:=hid (HC.out.step hD);clear hD)
     | (go_at_call 42;(with_reducible refine(zF HC.out.st s HV.out).mono ?_);rintro e w3 ⟨rfl,hD⟩;replace HC:=hid (HC.out.step hD);clear hD))
    go_roundw
    case rel=>exact⟨k+1,rfl,by omega,by omega,HC.out⟩
    case measure=>simp[intOf];omega
  · obtain rfl:k=29:=by omega
    go_wp2_with (go_at_call 119;(with_reducible refine(yS HC.out.st HO.out d).mono ?_);rintro e w2 ⟨rfl,hD⟩;replace HC:=hid (HC.out.step hD);clear hD;obtain⟨⟨c0,c1,c2,c3,c4⟩,fz⟩:=HC.out.own);obtain⟨f0,f1,f2,f3,f4⟩:=HC.out.read (.int .i64 0) (.int .i64 0) (.int .i64 0) (.string ⟨#[]⟩) (.slice none 0 0);refine bodyPost_ret (v:=ex0V) (by simp[results,Tryz.results111,go_sem,f0,f1,f2,f3,f4]) rfl ?_;exact⟨rfl,HC.out.did.writ HC.out.2.2.1 Zr HC.out.ne _ _ _ _ _⟩
theorem unary_bad {b:Nat} {V:Value} {all r:List Tok} {x:PR Unit} {w:World} {d:Int} (hx:x=.bad r) (h:qx b V all x w) (hd:0≤d∧d≤1000) (ho:zg x=true) (hd2:100<d):
 Calls Tryz.prog 111 #[.pointer (some ⟨b,0,none⟩),.int .i64 d] w fun e w'=>e=.returned ex0V∧qY b V all w x w':=by
 have HC:=hid (jS.start h);have HO:=hid ho
 have b2:w.cell? ⟨b,2,none⟩=some (.bool true):=by
  rw[hx]at h;exact(zS.cells (show zS b V all r true false w from h)).2.2.1
 have hlt:=h.lt;clear h ho hx;go_enter Tryz.func111,Tryz.ntmps111;go_wp2
 go_loopw [5] (fun i wr=>∃ k:Int,i=.int .i64 k∧20≤k∧k≤29∧jS b V all w x wr) (fun i _=>(29-intOf i).toNat)
 case atStart=>exact⟨20,rfl,by omega,by omega,HC.out⟩
 case round=>
  obtain⟨k,rfl,hk1,hk2,hC⟩:=hrel;replace HC:=hid hC;clear hC;by_cases hlt:k≤28
  · obtain⟨s,hs⟩:∃ s,kG k=s:=⟨_,rfl⟩
    have HS:=hid hs;have HV:=hid (isAt_over HO.out s.data.toList);clear hs
    go_wp2_with (first
     | (go_at_call 118;(with_reducible refine(kK k s HS.out HC.out.st).mono ?_);rintro e w2 ⟨rfl,hD⟩;replace HC:=hid (HC.out.step hD);clear hD)
     | (go_at_call 42;(with_reducible refine(zF HC.out.st s HV.out).mono ?_);rintro e w3 ⟨rfl,hD⟩;replace HC:=hid (HC.out.step hD);clear hD))
    go_roundw
    case rel=>exact⟨k+1,rfl,by omega,by omega,HC.out⟩
    case measure=>simp[intOf];omega
  · obtain rfl:k=29:=by omega
    go_wp2_with (go_at_call 119;(with_reducible refine(yS HC.out.st HO.out d).mono ?_);rintro e w2 ⟨rfl,hD⟩;replace HC:=hid (HC.out.step hD);clear hD;obtain⟨⟨c0,c1,c2,c3,c4⟩,fz⟩:=HC.out.own);obtain⟨f0,f1,f2,f3,f4⟩:=HC.out.read (.int .i64 0) (.int .i64 0) (.int .i64 0) (.string ⟨#[]⟩) (.slice none 0 0);refine bodyPost_ret (v:=ex0V) (by simp[results,Tryz.results111,go_sem,f0,f1,f2,f3,f4]) rfl ?_;exact⟨rfl,HC.out.did.writ HC.out.2.2.1 Zr HC.out.ne _ _ _ _ _⟩
theorem jS.deepen {b:Nat} {V:Value} {all r:List Tok} {dp:Bool} {w:World} (h:zS b V all r false dp w):jS b V all w (.deep r) ((w.alloc xI).setCell ⟨b,3,none⟩ (.bool true))∧jS b V all w (.deep r) ((w.setCell ⟨b,3,none⟩ (.bool true)).alloc xI):=by
 have hst:∃ x,qx b V all x w∧zS b V all r false dp w:=by
  cases dp with
  | false=>exact⟨.ok () r,h,h⟩
  | true=>exact⟨.deep r,h,h⟩
 obtain⟨x,hx,_⟩:=hst;have h1:=jS.start hx;have hp:zS b V all r false dp (w.alloc xI):=h.off (Zb.alloc Zr _);refine⟨h1.step ⟨hp.deepen,(OffB.refl b _ _).setb hp.lt 3 _⟩,?_⟩;have hd:qY b V all w (.deep r) (w.setCell ⟨b,3,none⟩ (.bool true)):=⟨h.deepen,(OffB.refl b _ _).setb h.lt 3 _⟩
 refine⟨hd.alloc _,?_,h.2.1,h.lt⟩;have:=heap_alloc_new (w.setCell ⟨b,3,none⟩ (.bool true)) xI;rw[ji]at this;exact this
theorem uR {b:Nat} {V:Value} {all r:List Tok} {dp:Bool} {w:World} {d:Int} (h:zS b V all r false dp w) (hd:0≤d∧d≤1000) (hd2:100<d):
 Calls Tryz.prog 111 #[.pointer (some ⟨b,0,none⟩),.int .i64 d] w fun e w'=>e=.returned ex0V∧qY b V all w (.deep r) w':=by
 have HC0:=hid (jS.deepen h);obtain⟨_,_,b2,b3⟩:=h.cells;have f3:=h.1.frozen 3;have hlt:=h.lt;obtain⟨x,hx⟩:∃ x:PR Unit,x=.deep r:=⟨_,rfl⟩
 have HX:=hid hx;have HO:=hid (show zg x=true by rw[hx];rfl);rw[←hx];rw[←hx]at HC0;clear h hx;go_enter Tryz.func111,Tryz.ntmps111;go_wp2;clear b2 b3 f3
 go_loopw [5] (fun i wr=>∃ k:Int,i=.int .i64 k∧20≤k∧k≤29∧jS b V all w x wr) (fun i _=>(29-intOf i).toNat)
 case atStart=>exact⟨20,rfl,by omega,by omega,by first | exact HC0.out.1 | exact HC0.out.2⟩
 case round=>
  obtain⟨k,rfl,hk1,hk2,hC⟩:=hrel;have HC:=hid hC;clear hC;by_cases hlt:k≤28
  · obtain⟨s,hs⟩:∃ s,kG k=s:=⟨_,rfl⟩
    have HS:=hid hs;have HV:=hid (isAt_over HO.out s.data.toList);clear hs
    go_wp2_with (first
     | (go_at_call 118;(with_reducible refine(kK k s HS.out HC.out.st).mono ?_);rintro e w2 ⟨rfl,hD⟩;replace HC:=hid (HC.out.step hD);clear hD)
     | (go_at_call 42;(with_reducible refine(zF HC.out.st s HV.out).mono ?_);rintro e w3 ⟨rfl,hD⟩;replace HC:=hid (HC.out.step hD);clear hD))
    go_roundw
    case rel=>exact⟨k+1,rfl,by omega,by omega,HC.out⟩
    case measure=>simp[intOf];omega
  · obtain rfl:k=29:=by omega
    go_wp2_with (go_at_call 119;(with_reducible refine(yS HC.out.st HO.out d).mono ?_);rintro e w2 ⟨rfl,hD⟩;replace HC:=hid (HC.out.step hD);clear hD;obtain⟨⟨c0,c1,c2,c3,c4⟩,fz⟩:=HC.out.own);obtain⟨f0,f1,f2,f3,f4⟩:=HC.out.read (.int .i64 0) (.int .i64 0) (.int .i64 0) (.string ⟨#[]⟩) (.slice none 0 0);refine bodyPost_ret (v:=ex0V) (by simp[results,Tryz.results111,go_sem,f0,f1,f2,f3,f4]) rfl ?_;exact⟨rfl,HC.out.did.writ HC.out.2.2.1 Zr HC.out.ne _ _ _ _ _⟩
theorem unAt_hit {k:Int} {r:List Tok} (h1:20≤k) (h2:k≤28) (hk:z6 (sgT k) r=true) (h:∀ j,20≤j→j<k→z6 (sgT j) r=false):unAt r=k:=by
 show yC r ones=k;rw[ones_range];exact unFrom_hit hk 9 20 h1 (by omega) h
theorem unAt_none {r:List Tok} (h:∀ j,20≤j→j<29→z6 (sgT j) r=false):unAt r=0:=by
 show yC r ones=0;rw[ones_range];exact unFrom_none 9 20 h
theorem qK {W:World} {g:Nat} {c0 c1 c2 c3 c4:Value} {T:TypeId} (h:W.heap[g]? =some (.cells #[c0,c1,c2,c3,c4] T (0,0))):
 (W.cell? ⟨g,0,none⟩=some c0∧W.cell? ⟨g,1,none⟩=some c1∧W.cell? ⟨g,2,none⟩=some c2∧W.cell? ⟨g,3,none⟩=some c3∧W.cell? ⟨g,4,none⟩=some c4)∧∀ o,W.frozen? ⟨g,o,none⟩=false:=by
 refine⟨⟨(Lib.cell_of_heap h 0).trans rfl,(Lib.cell_of_heap h 1).trans rfl,(Lib.cell_of_heap h 2).trans rfl,(Lib.cell_of_heap h 3).trans rfl,(Lib.cell_of_heap h 4).trans rfl⟩,fun o=>?_⟩;simp[World.frozen?,h]
theorem uS {w:World} {g k:Nat} (hk:k≠g) (c0 c1 c2 c3 c4:Value):(writ w g c0 c1 c2 c3 c4).heap[k]? =w.heap[k]?:=by
 unfold writ;rw[Below.heap_setCell _ _ _ _ (by show k≠g;exact hk),Below.heap_setCell _ _ _ _ (by show k≠g;exact hk),Below.heap_setCell _ _ _ _ (by show k≠g;exact hk),Below.heap_setCell _ _ _ _ (by show k≠g;exact hk),Below.heap_setCell _ _ _ _ (by show k≠g;exact hk)]
theorem jS.writ2 {b g:Nat} {V:Value} {all:List Tok} {w W:World} {x:PR Unit} (h:jS b V all w x W) (hg:w.heap.size<g) (c0 c1 c2 c3 c4:Value):jS b V all w x (writ W g c0 c1 c2 c3 c4):=
 ⟨h.1.writ h.2.2.1 (by omega) (by have:=h.2.2.2;omega) _ _ _ _ _,(uS (by omega) _ _ _ _ _).trans h.2.1,h.2.2⟩
abbrev nest (W:World) (g:Nat) (c0 c1 c2 c3 c4:Value):World:=((((W.setCell ⟨g,0,none⟩ c0).setCell ⟨g,1,none⟩ c1).setCell ⟨g,2,none⟩ c2).setCell ⟨g,3,none⟩ c3).setCell ⟨g,4,none⟩ c4
theorem jS.nest {b g:Nat} {V:Value} {all:List Tok} {w W:World} {x:PR Unit} (h:jS b V all w x W) (hg:w.heap.size<g) (c0 c1 c2 c3 c4:Value):jS b V all w x (nest W g c0 c1 c2 c3 c4):=h.writ2 hg c0 c1 c2 c3 c4
theorem unary_live {b:Nat} {V:Value} {all r:List Tok} {w:World} {n:Nat} {d:Int} (hE:CE b V all n 1 (d+1)) (hU:CU b V all n (d+1)) (hP:CP b V all n d) (h:zS b V all r false false w) (hd:0≤d∧d≤100) (hn:zG (pU (n+1) d r)):
 Calls Tryz.prog 111 #[.pointer (some ⟨b,0,none⟩),.int .i64 d] w (qF b V all w (pU (n+1) d r) (jc w.heap.size)):=by
 obtain⟨hd0,hd1⟩:=hd;have HC:=hid (jS.start (x:=.ok () r) h);have hdd:¬ 100<d:=by omega
 have HE:=hid hE;have HU:=hid hU;have HP:=hid hP;have HN:=hid hn;clear h hE hU hP hn;go_enter Tryz.func111,Tryz.ntmps111;go_wp2
 go_loopw [5] (fun i wr=>∃ k:Int,i=.int .i64 k∧20≤k∧k≤29∧(∀ j,20≤j→j<k→z6 (sgT j) r=false)∧jS b V all w (.ok () r) wr) (fun i _=>(29-intOf i).toNat)
 case atStart=>exact⟨20,rfl,by omega,by omega,fun j h1 h2=>by omega,HC.out⟩
 case round=>
  obtain⟨k,rfl,hk1,hk2,hno,hC⟩:=hrel;replace HC:=hid hC;have HNO:=hid hno;clear hC hno;by_cases hlt:k≤28
  · obtain⟨s,hs⟩:∃ s,kG k=s:=⟨_,rfl⟩
    have HS:=hid hs;cases hv:zP s.data.toList (PR.ok () r) with
    | false=>
      have hno2:∀ j,20≤j→j<k+1→z6 (sgT j) r=false:=fun j h1 h2=>by
       by_cases e:j=k
       · subst e
         unfold sgT;rw[hs];exact hv
       · exact HNO.out j h1 (by omega)
      replace HNO:=hid hno2;have HV:=hid hv;clear hs hv hno2
      go_wp2_with (first
       | (go_at_call 118;(with_reducible refine(kK k s HS.out HC.out.st).mono ?_);rintro e w2 ⟨rfl,hD⟩;replace HC:=hid (HC.out.step hD);clear hD)
       | (go_at_call 42;(with_reducible refine(zF HC.out.st s HV.out).mono ?_);rintro e w3 ⟨rfl,hD⟩;replace HC:=hid (HC.out.step hD);clear hD))
      go_roundw
      case rel=>exact⟨k+1,rfl,by omega,by omega,HNO.out,HC.out⟩
      case measure=>simp[intOf];omega
    | true=>
      have hun:unAt r=k:=unAt_hit hk1 hlt (by unfold sgT;rw[hs];exact hv) HNO.out;have hk0:¬ k=0:=by omega
      have HV:=hid hv;by_cases h23:23≤k
      · have ex:pU (n+1) d r=(zL [40] r.tail).bind fun _ r=>(pE n 1 (d+1) r).bind fun e r=>(zL [41] r).bind fun _ r=>.ok (.mk 4 k 0 bE [e]) r:=by rw[pU,if_neg (by omega),hun,if_neg hk0,if_pos h23]
        have hN2:=HN.out;rw[←zR]at ex;rw[ex]at hN2;have EX:=hid ex;replace HN:=hid (show zG ((zL [40] r.tail).bind fun _ r=>pE n 1 (d+1) r) from zo hN2);clear hs hv hun ex hN2 HNO
        go_wp2_with (first
         | (go_at_call 118;(with_reducible refine(kK k s HS.out HC.out.st).mono ?_);rintro e w2 ⟨rfl,hD⟩;replace HC:=hid (HC.out.step hD);clear hD)
         | (go_at_call 42;(with_reducible refine(zb HC.out.st s HV.out).mono ?_);rintro e w3 ⟨rfl,hD⟩
            replace HC:=hid (show jS b V all w (.ok () r.tail) w3 from HC.out.step hD)
            clear hD)
         | (go_at_call 44;(with_reducible refine(zW HC.out.st ⟨#[40]⟩).mono ?_);rintro e w4 ⟨rfl,hD⟩
            replace HC:=hid (show jS b V all w (zL [40] r.tail) w4 from HC.out.step hD);have hz4:=HC.out.size;have hb4:=HC.out.st.lt;have hne4:w4.heap.size≠b:=by omega
            clear hD)
         | (go_at_call 97;(with_reducible refine(HE.out.call (HC.out.alloc xI).st HN.out).mono ?_);rintro e w5 ⟨v,rfl,hD,hG⟩
            obtain⟨k1,k2,k3,k4,k5,k6,k7,rfl⟩:=qS hG HN.out;have HG:=hid hG;have hr5:=qW hD.off (k:=w4.heap.size) (by simp) hne4 (heap_alloc_new w4 xI);have HR:=hid hr5;obtain⟨⟨p0,p1,p2,p3,p4⟩,pz⟩:=qK hr5;replace HC:=hid ((HC.out.alloc xI).step hD)
            clear hD hG hr5)
         | (go_at_call 44;(with_reducible refine(zW (HC.out.nest hz4 (.int .i64 k1) (.int .i64 k2) (.int .i64 k3) (.string k4) (.slice k5 k6 k7)).st ⟨#[41]⟩).mono ?_);rintro e w6 ⟨rfl,hD⟩
            have hz5:w4.heap.size<w5.heap.size:=(Array.getElem?_eq_some_iff.1 HR.out).1;have hr6:=qW hD.off (k:=w4.heap.size) (by simp;exact hz5) hne4 (uf HR.out _ _ _ _ _);have HK:=hid ((zD.writ (L:=(w4.alloc xI).heap.size) (w:=w5) (g:=w4.heap.size) (by simp) (.int .i64 k1) (.int .i64 k2) (.int .i64 k3) (.string k4) (.slice k5 k6 k7)).trans (zD.did hD (by simp;omega)));obtain⟨⟨s0,s1,s2,s3,s4⟩,sz⟩:=qK hr6;replace HC:=hid ((HC.out.writ2 hz4 (.int .i64 k1) (.int .i64 k2) (.int .i64 k3) (.string k4) (.slice k5 k6 k7)).step hD);obtain⟨⟨c0,c1,c2,c3,c4⟩,fz⟩:=HC.out.own;have hz6:=HC.out.size
            clear hD hr6))
        obtain⟨f0,f1,f2,f3,f4⟩:=HC.out.reada (.cells #[.int .i64 k1,.int .i64 k2,.int .i64 k3,.string k4,.slice k5 k6 k7] 116) (.int .i64 4) (.int .i64 k) (.int .i64 0) (.string ⟨#[]⟩) (.slice (some ⟨w6.heap.size,0,none⟩) 1 1);refine bodyPost_ret (v:=.agg #[.int .i64 4,.int .i64 k,.int .i64 0,.string ⟨#[]⟩,.slice (some ⟨w6.heap.size,0,none⟩) 1 1]) (by simp[results,Tryz.results111,go_sem,f0,f1,f2,f3,f4]) rfl ?_;rw[EX.out];refine HC.out.fina ?_ ((HG.out.imp fun a ha=>(show jc w.heap.size ((writ w6 w.heap.size _ _ _ _ _).alloc _) (.mk 4 k 0 bE [a]) _ from⟨_,rfl,⟨by show (_:Int)≤0;decide,by show (0 :Int)≤_;decide⟩,yF ((jc.keep ha HK.out Zr).writ (by simp;omega) _ _ _ _ _) Zr (by rw[kJ];omega) (kJ _ _ _ _ _ _ _).symm⟩)).bind (fun a r _ ha=>xe ha) fun a ha=>⟨_,ha⟩);rw[qr];simp only[jz];rw[←bind_un]
      · have ex:pU (n+1) d r=(pU n (d+1) r.tail).bind fun e r=>.ok (.mk 4 k 0 bE [e]) r:=by rw[pU,if_neg (by omega),hun,if_neg hk0,if_neg h23]
        have hN2:=HN.out;rw[ex]at hN2;have EX:=hid ex;replace HN:=hid (show zG ((PR.ok () r.tail).bind fun _ r=>pU n (d+1) r) from zo hN2);clear hs hv hun ex hN2 HNO
        go_wp2_with (first
         | (go_at_call 118;(with_reducible refine(kK k s HS.out HC.out.st).mono ?_);rintro e w2 ⟨rfl,hD⟩;replace HC:=hid (HC.out.step hD);clear hD)
         | (go_at_call 42;(with_reducible refine(zb HC.out.st s HV.out).mono ?_);rintro e w4 ⟨rfl,hD⟩
            replace HC:=hid (show jS b V all w (.ok () r.tail) w4 from HC.out.step hD);have hz4:=HC.out.size;have hb4:=HC.out.st.lt;have hne4:w4.heap.size≠b:=by omega
            clear hD)
         | (go_at_call 111;(with_reducible refine(HU.out.call (HC.out.alloc xI).st HN.out).mono ?_);rintro e w5 ⟨v,rfl,hD,hG⟩
            obtain⟨k1,k2,k3,k4,k5,k6,k7,rfl⟩:=qS hG HN.out;have HG:=hid hG;have hr5:=qW hD.off (k:=w4.heap.size) (by simp) hne4 (heap_alloc_new w4 xI);have HR:=hid hr5;obtain⟨⟨p0,p1,p2,p3,p4⟩,pz⟩:=qK hr5;replace HC:=hid ((HC.out.alloc xI).step hD);obtain⟨⟨c0,c1,c2,c3,c4⟩,fz⟩:=HC.out.own;have hz5:=HC.out.size
            clear hD hG hr5))
        have HC2:=hid (HC.out.writ2 hz4 (.int .i64 k1) (.int .i64 k2) (.int .i64 k3) (.string k4) (.slice k5 k6 k7));obtain⟨f0,f1,f2,f3,f4⟩:=HC2.out.reada (.cells #[.int .i64 k1,.int .i64 k2,.int .i64 k3,.string k4,.slice k5 k6 k7] 116) (.int .i64 4) (.int .i64 k) (.int .i64 0) (.string ⟨#[]⟩) (.slice (some ⟨w5.heap.size,0,none⟩) 1 1);unfold writ at f0 f1 f2 f3 f4;refine bodyPost_ret (v:=.agg #[.int .i64 4,.int .i64 k,.int .i64 0,.string ⟨#[]⟩,.slice (some ⟨w5.heap.size,0,none⟩) 1 1]) (by simp[results,Tryz.results111,go_sem,f0,f1,f2,f3,f4]) rfl ?_;rw[EX.out];have hz:(writ (writ w5 w4.heap.size (.int .i64 k1) (.int .i64 k2) (.int .i64 k3) (.string k4) (.slice k5 k6 k7)) w.heap.size (.int .i64 4) (.int .i64 k) (.int .i64 0) (.string ⟨#[]⟩) (.slice (some ⟨w5.heap.size,0,none⟩) 1 1)).heap.size=w5.heap.size:=by rw[kJ,kJ]
        refine HC2.out.fina (by rw[qr];rfl) (qn.bind HG.out (fun a r _ ha=>?_) fun a ha=>⟨.mk 4 k 0 bE [a],?_⟩)
        all_goals exact⟨_,rfl,⟨by show (_:Int)≤0;decide,by show (0 :Int)≤_;decide⟩,yF ((jc.keep ha (zD.writ (by simp) _ _ _ _ _) Zr).writ (by simp;omega) _ _ _ _ _) Zr (by rw[hz];omega) hz.symm⟩
  · obtain rfl:k=29:=by omega
    have hun:unAt r=0:=unAt_none HNO.out;have ex:pU (n+1) d r=pP n d r:=by rw[pU,if_neg (by omega),hun,if_pos rfl]
    have EX:=hid ex;have hN2:=HN.out;rw[ex]at hN2;replace HN:=hid (show zG ((PR.ok () r).bind fun _ r=>pP n d r) from hN2);clear hun ex hN2 HNO
    go_wp2_with (first
     | (go_at_call 119;(with_reducible refine(HP.out.call HC.out.st HN.out).mono ?_);rintro e w2 ⟨v,rfl,hD,hG⟩
        obtain⟨k1,k2,k3,k4,k5,k6,k7,rfl⟩:=qS hG HN.out;have hz1:=HC.out.size;have HG:=hid hG;replace HC:=hid (HC.out.step hD);clear hD hG
        obtain⟨⟨c0,c1,c2,c3,c4⟩,fz⟩:=HC.out.own))
    obtain⟨f0,f1,f2,f3,f4⟩:=HC.out.read (.int .i64 k1) (.int .i64 k2) (.int .i64 k3) (.string k4) (.slice k5 k6 k7);refine bodyPost_ret (v:=.agg #[.int .i64 k1,.int .i64 k2,.int .i64 k3,.string k4,.slice k5 k6 k7]) (by simp[results,Tryz.results111,go_sem,f0,f1,f2,f3,f4]) rfl ?_;rw[EX.out];exact HC.out.fin (X:=pP n d r) rfl (HG.out.imp fun a ha=>jc.writ ha hz1 _ _ _ _ _)
theorem unary_any {b:Nat} {V:Value} {all:List Tok} {n:Nat} {d:Int} (hE:d≤100→CE b V all n 1 (d+1)) (hU:d≤100→CU b V all n (d+1)) (hP:d≤100→CP b V all n d) (hd:0≤d∧d≤1000):CU b V all (n+1) d:=by
 intro w x h hn;by_cases hd2:d≤100
 · cases ho:zg x with
   | true=>exact(unary_none h hd ho hd2).mono fun e w' ⟨he,hD⟩=>he ▸ us ho hD ex0 (uO _ _)
   | false=>
     cases x with
     | ok u r=>exact unary_live (hE hd2) (hU hd2) (hP hd2) h ⟨hd.1,hd2⟩ hn
     | bad r=>cases ho
     | deep r=>cases ho
     | out=>exact absurd h id
 · have hd3:100<d:=by omega
   cases x with
   | ok u r=>
     have ex:pU (n+1) d r=.deep r:=by rw[pU,if_pos hd3]
     show Calls _ _ _ _ (qF b V all w (pU (n+1) d r) _);rw[ex];exact(uR (dp:=false) h hd hd3).mono fun e w' ⟨he,hD⟩=>⟨_,he,hD,ex0,uO _ _⟩
   | bad r=>exact(unary_bad (r:=r) rfl h hd rfl hd3).mono fun e w' ⟨he,hD⟩=>⟨_,he,hD,ex0,uO _ _⟩
   | deep r=>exact(uR (dp:=true) h hd hd3).mono fun e w' ⟨he,hD⟩=>⟨_,he,hD,ex0,uO _ _⟩
   | out=>exact absurd h id
end Go.Proofs.YtfghofifjnbicaaGreatDoor
