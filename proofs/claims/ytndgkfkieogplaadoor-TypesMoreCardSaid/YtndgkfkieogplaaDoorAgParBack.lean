import Derived.Test.YtndgkfkieogplaaDoorAgParMath
set_option linter.unusedSimpArgs false
set_option linter.unusedVariables false
set_option maxRecDepth 100000
/- The tokens of a tree, and that they are parsed to it: no Go, no program. -/
namespace Go.Proofs.YtndgkfkieogplaaDoor
open Lib (hid)
open Go.RowKit
def Ev {α:Type} (f:Nat→PR α) (x:PR α):Prop:=∃ N,∀ n,N≤n→f n=x
theorem Ev.now {α:Type} {f:Nat→PR α} {x:PR α} (h:∀ n,f n=x):Ev f x:=⟨0,fun n _=>h n⟩
theorem Ev.succ {α:Type} {f:Nat→PR α} {x:PR α} (h:Ev (fun n=>f (n+1)) x):Ev f x:=by
 obtain⟨N,h⟩:=h
 refine⟨N+1,fun n hn=>?_⟩
 obtain⟨k,rfl⟩:∃ k,n=k+1:=⟨n-1,by omega⟩
 exact h k (by omega)
theorem Ev.bind {α β:Type} {f:Nat→PR α} {a:α} {r:List Tok} {g:Nat→α→List Tok→PR β} {x:PR β} (h:Ev f (.ok a r)) (k:Ev (fun n=>g n a r) x):Ev (fun n=>(f n).bind (g n)) x:=by
 obtain⟨N,h⟩:=h
 obtain⟨M,k⟩:=k
 refine⟨N+M,fun n hn=>?_⟩
 show (f n).bind (g n)=x
 rw[h n (by omega)]
 exact k n (by omega)
theorem Ev.congr {α:Type} {f g:Nat→PR α} {x:PR α} (h:Ev g x) (e:∀ n,f n=g n):Ev f x:=by
 obtain⟨N,h⟩:=h
 exact⟨N,fun n hn=>(e n).trans (h n hn)⟩
def sg (t:List UInt8):Tok:=⟨2,t,0⟩
def uH (t:ByteArray):Tok:=⟨1,t.data.toList,0⟩
def nuK (n:Int):Tok:=⟨0,Lib.itoa n,0⟩
def parK (lev:Int) (c:Int × Int × List Tok):List Tok:=if c.1=5∧z7 c.2.1<lev then sg [40] :: (c.2.2++[sg [41]]) else c.2.2
def qn:List (List Tok)→List Tok
 | []=>[]
 | [x]=>x
 | x :: y :: r=>x++sg [44] :: qn (y :: r)
def kidK (cs:List (Int × Int × List Tok)) (i:Nat):Int × Int × List Tok:=cs.getD i (0,0,[])
def nodeK (k op n:Int) (name:ByteArray) (cs:List (Int × Int × List Tok)):List Tok:=
 if k=1 then [nuK n]
 else if k=2 then [sg (boolT (decide (n=1)))]
 else if k=3 then [uH name]
 else if k=4 then (if 23≤op then sg (yC op) :: sg [40] :: ((kidK cs 0).2.2++[sg [41]]) else sg (yC op) :: parK 11 (kidK cs 0))
 else if k=5 then parK (z7 op) (kidK cs 0)++sg (yC op) :: parK (z7 op+1) (kidK cs 1)
 else if k=6 then uH name :: sg [91] :: ((kidK cs 0).2.2++[sg [93]])
 else if k=7 then uH name :: sg [40] :: (qn (cs.map (·.2.2))++[sg [41]])
 else [sg uZ,sg [40],sg [41]]
mutual
def kD:Ex→List Tok
 | .mk k op n name args=>nodeK k op n name (ue args)
def ue:List Ex→List (Int × Int × List Tok)
 | []=>[]
 | e :: r=>(e.kind,e.op,kD e) :: ue r
end
def opK (lev:Int) (e:Ex):List Tok:=parK lev (e.kind,e.op,kD e)
mutual
def exN:Ex→Bool
 | .mk _ _ n _ args=>decide (n≤9223372036854775807) && xg args
def xg:List Ex→Bool
 | []=>true
 | e :: r=>exN e && xg r
end
theorem uI (k op n:Int) (name:ByteArray) (args:List Ex):exN (.mk k op n name args)=(decide (n≤9223372036854775807) && xg args):=by rw[exN]
theorem jx:xg []=true:=by rw[xg]
theorem jB (e:Ex) (r:List Ex):xg (e :: r)=(exN e && xg r):=by rw[xg]
theorem yO (k op n:Int) (name:ByteArray) (args:List Ex):kD (.mk k op n name args)=nodeK k op n name (ue args):=by rw[kD]
theorem exKs_nil:ue []=[]:=by rw[ue]
theorem kd (e:Ex) (r:List Ex):ue (e :: r)=(e.kind,e.op,kD e) :: ue r:=by rw[ue]
theorem ve (l:List Ex):ue l=l.map fun e=>(e.kind,e.op,kD e):=by
 induction l with
 | nil=>rw[ue];rfl
 | cons e r ih=>rw[ue,ih];rfl
theorem xW (s:List UInt8) (t:Tok) (r:List Tok):z9 s (t :: r)=(decide (t.kind=2) && t.text == s):=rfl
theorem opFrom_hd (lev:Int) (t:Tok) (r:List Tok):∀ ops,jI lev (t :: r) ops=jI lev [t] ops
 | []=>rfl
 | op :: q=>by rw[jI,jI,xW,xW,opFrom_hd lev t r q]
theorem unFrom_hd (t:Tok) (r:List Tok):∀ ops,qy (t :: r) ops=qy [t] ops
 | []=>rfl
 | op :: q=>by rw[qy,qy,xW,xW,unFrom_hd t r q]
theorem opAt_hd (lev:Int) (t:Tok) (r:List Tok):opAt lev (t :: r)=opAt lev [t]:=opFrom_hd lev t r um
theorem unAt_hd (t:Tok) (r:List Tok):vP (t :: r)=vP [t]:=unFrom_hd t r ones
theorem jc {s:List UInt8} {t:Tok} {r:List Tok} (h:t.kind≠2):z9 s (t :: r)=false:=by rw[xW];simp[h]
theorem unFrom_not {t:Tok} {r:List Tok} (h:t.kind≠2):∀ ops,qy (t :: r) ops=0
 | []=>rfl
 | op :: q=>by rw[qy,jc h,if_neg (by simp),unFrom_not h q]
theorem qB (s t:List UInt8) (r:List Tok):z9 s (sg t :: r)=(t == s):=by rw[xW];simp[sg]
def levels:List Int:=[1,2,3,4,5,6,7,8,9,10]
theorem two_cases {op:Int} (h:0<z7 op):op ∈ um:=by
 unfold z7 at h
 split at h
 · rename_i hc
   obtain rfl | rfl | rfl | rfl | rfl | rfl | rfl | rfl | rfl | rfl | rfl | rfl | rfl | rfl | rfl | rfl | rfl | rfl | rfl | rfl | rfl | rfl | rfl | rfl | rfl | rfl | rfl | rfl:op=1∨op=2∨op=3∨op=4∨op=5∨op=6∨op=7∨op=8∨op=9∨op=10∨op=11∨op=12∨op=13∨op=14∨op=15∨op=16∨op=17∨op=18∨op=19∨op=20∨op=21∨op=22∨op=23∨op=24∨op=25∨op=26∨op=27∨op=28:=by omega
   all_goals first | decide | exact absurd h (by decide)
 · omega
theorem one_cases {op:Int} (h:20≤op∧op≤28):op ∈ ones:=by
 obtain rfl | rfl | rfl | rfl | rfl | rfl | rfl | rfl | rfl:op=20∨op=21∨op=22∨op=23∨op=24∨op=25∨op=26∨op=27∨op=28:=by omega
 all_goals decide
theorem lev_cases {l:Int} (h1:1≤l) (h2:l≤10):l ∈ levels:=by
 obtain rfl | rfl | rfl | rfl | rfl | rfl | rfl | rfl | rfl | rfl:l=1∨l=2∨l=3∨l=4∨l=5∨l=6∨l=7∨l=8∨l=9∨l=10:=by omega
 all_goals decide
theorem two_at:∀ op ∈ um,∀ lev ∈ levels,opAt lev [sg (yC op)]=if z7 op=lev then op else 0:=by decide+kernel
theorem two_lvl:∀ op ∈ um,1≤z7 op∧z7 op≤10:=by decide+kernel
theorem two_ne:∀ op ∈ um,op≠0:=by decide
theorem two_nob:∀ op ∈ um,z9 [40] [sg (yC op)]=false∧z9 [91] [sg (yC op)]=false:=by decide+kernel
theorem one_at:∀ op ∈ ones,vP [sg (yC op)]=op:=by decide+kernel
def Low (lev:Int) (r:List Tok):Prop:=(∀ l,lev≤l→1≤l→l≤10→opAt l r=0)∧z9 [40] r=false∧z9 [91] r=false
theorem Low.mono {a b:Int} {r:List Tok} (h:Low a r) (hab:a≤b):Low b r:=⟨fun l h1=>h.1 l (by omega),h.2⟩
theorem low_two {op:Int} (h:op ∈ um) (r:List Tok):Low (z7 op+1) (sg (yC op) :: r):=by
 refine⟨fun l h1 h2 h3=>?_,?_⟩
 · rw[opAt_hd,two_at op h l (lev_cases h2 h3),if_neg (by omega)]
 · rw[xW,xW]
   exact two_nob op h
theorem low_all {t:Tok} (h:(levels.all fun l=>opAt l [t] == 0)=true) (h1:z9 [40] [t]=false) (h2:z9 [91] [t]=false) (lev:Int) (r:List Tok):Low lev (t :: r):=by
 refine⟨fun l _ h3 h4=>?_,by rw[xW]at h1 ⊢;exact h1,by rw[xW]at h2 ⊢;exact h2⟩
 rw[opAt_hd]
 have:=List.all_eq_true.1 h l (lev_cases h3 h4)
 simpa using this
theorem low_cl (lev:Int) (r:List Tok):Low lev (sg [41] :: r):=low_all (by decide+kernel) (by decide+kernel) (by decide+kernel) lev r
theorem low_sq (lev:Int) (r:List Tok):Low lev (sg [93] :: r):=low_all (by decide+kernel) (by decide+kernel) (by decide+kernel) lev r
theorem low_co (lev:Int) (r:List Tok):Low lev (sg [44] :: r):=low_all (by decide+kernel) (by decide+kernel) (by decide+kernel) lev r
theorem low_se (lev:Int) (r:List Tok):Low lev (sg [59] :: r):=low_all (by decide+kernel) (by decide+kernel) (by decide+kernel) lev r
theorem qW {s:List UInt8} (r:List Tok):zI s (sg s :: r)=.ok () r:=by unfold zI;rw[qB];simp
def PA (e:Ex) (m:Nat) (lev:Int):Prop:=∀ (d:Int) (rest:List Tok),1≤d→(d+m≤101∨(e.kind=5∧lev≤z7 e.op∧d+m≤102))→Low lev rest→Ev (fun n=>pE n lev d (opK lev e++rest)) (.ok e rest)
def PB (e:Ex) (m:Nat) (lev:Int):Prop:=∀ (d:Int) (rest:List Tok) (x:PR Ex),1≤d→(d+m≤101∨(e.kind=5∧lev≤z7 e.op∧d+m≤102))→Low (lev+1) rest→Ev (fun n=>pL n lev d e rest) x→Ev (fun n=>pE n lev d (opK lev e++rest)) x
def Pex (e:Ex):Prop:=∀ m,xU e m=true→exN e=true→(∀ lev,1≤lev→lev≤11→PA e m lev)∧(∀ lev,1≤lev→lev≤10→PB e m lev)
theorem pa_of_pb {e:Ex} {m:Nat} {lev:Int} (h1:1≤lev) (h2:lev≤10) (h:PB e m lev):PA e m lev:=by
 intro d rest hd hm hl
 refine h d rest _ hd hm (hl.mono (by omega)) (Ev.succ (Ev.now fun n=>?_))
 show pL (n+1) lev d e rest=_
 rw[pL,if_pos (hl.1 lev (Int.le_refl _) h1 h2)]
theorem pb_down {e:Ex} {m:Nat} {lev:Int} (h1:1≤lev) (h2:lev≤10) (he:opK lev e=opK (lev+1) e) (hq:∀ d:Int,(d+m≤101∨(e.kind=5∧lev≤z7 e.op∧d+m≤102))→(d+m≤101∨(e.kind=5∧lev+1≤z7 e.op∧d+m≤102))) (h:PA e m (lev+1)):PB e m lev:=by
 intro d rest x hd hm hl hx
 refine Ev.succ ?_
 refine Ev.congr (g:=fun n=>(pE n (lev+1) d (opK (lev+1) e++rest)).bind fun a r=>pL n lev d a r) ?_ (fun n=>?_)
 · exact Ev.bind (h d rest hd (hq d hm) hl) hx
 · show pE (n+1) lev d (opK lev e++rest)=_
   rw[pE,if_neg (by omega),he]
theorem pex_of11 {e:Ex} {m:Nat} (top:Int) (ht1:1≤top) (ht:top≤11) (hA:PA e m top) (he:∀ lev,1≤lev→lev<top→opK lev e=opK (lev+1) e) (hq:∀ (lev d:Int),lev<top→(d+m≤101∨(e.kind=5∧lev≤z7 e.op∧d+m≤102))→(d+m≤101∨(e.kind=5∧lev+1≤z7 e.op∧d+m≤102))):
 ∀ (k:Nat),(∀ lev,top-k≤lev→1≤lev→lev≤top→PA e m lev)∧(∀ lev,top-k≤lev→1≤lev→lev<top→PB e m lev)
 | 0=>⟨fun lev a b c=>by obtain rfl:lev=top:=by omega
                         exact hA,fun lev a b c=>by omega⟩
 | k+1=>by
   obtain⟨i1,i2⟩:=pex_of11 top ht1 ht hA he hq k
   have hb:∀ lev,top-(k+1 :Nat)≤lev→1≤lev→lev<top→PB e m lev:=fun lev a b c=>
    pb_down b (by omega) (he lev b c) (fun d=>hq lev d c) (i1 (lev+1) (by omega) (by omega) (by omega))
   refine⟨fun lev a b c=>?_,hb⟩
   by_cases h:lev=top
   · subst h
     exact hA
   · exact pa_of_pb b (by omega) (hb lev a b (by omega))
theorem yf {e:Ex} (hk:e.kind≠5) (h:∀ m,xU e m=true→exN e=true→∀ (d:Int) (rest:List Tok),1≤d→d+m≤101→Low 11 rest→Ev (fun n=>pU n d (kD e++rest)) (.ok e rest)):Pex e:=by
 intro m hm hN
 have ho:∀ lev,opK lev e=kD e:=fun lev=>by unfold opK parK;rw[if_neg (fun hc=>hk hc.1)]
 have h11:PA e m 11:=by
  intro d rest hd hmm hl
  refine Ev.succ (Ev.congr (h m hm hN d rest hd (by rcases hmm with h1 | ⟨h1,_⟩;exact h1;exact absurd h1 hk) hl) fun n=>?_)
  show pE (n+1) 11 d (opK 11 e++rest)=_
  rw[pE,if_pos (by decide),ho]
 have hh:=pex_of11 11 (by decide) (by decide) h11 (fun lev _ _=>by rw[ho,ho]) (fun lev d _ hc=>by
  rcases hc with h1 | ⟨h1,_⟩
  · exact .inl h1
  · exact absurd h1 hk) 11
 exact⟨fun lev a b=>hh.1 lev (by omega) a b,fun lev a b=>hh.2 lev (by omega) a (by omega)⟩
theorem pL_op {lev:Int} {op:Int} (h:op ∈ um) (hl:z7 op=lev) (n:Nat) (d:Int) (a:Ex) (r:List Tok):pL (n+1) lev d a (sg (yC op) :: r)=(pE n (lev+1) d r).bind fun b r=>pL n lev d (.mk 5 op 0 bE [a,b]) r:=by
 have hv:=two_lvl op h
 have e:opAt lev (sg (yC op) :: r)=op:=by rw[opAt_hd,two_at op h lev (by rw[←hl];exact lev_cases hv.1 hv.2),if_pos hl]
 rw[pL,e,if_neg (two_ne op h)]
 rfl
theorem pU_prim {t:Tok} (r:List Tok) (h:vP [t]=0) (n:Nat) {d:Int} (hd:d≤100):pU (n+1) d (t :: r)=pP n d (t :: r):=by rw[pU,if_neg (by omega),unAt_hd,if_pos h]
theorem pex_two (op n:Int) (name:ByteArray) (a b:Ex) (ha:Pex a) (hb:Pex b):Pex (.mk 5 op n name [a,b]):=by
 intro m hm hN
 rw[qY]at hm
 rw[uI,jB,jB,jx]at hN
 simp only[Bool.and_eq_true,decide_eq_true_eq]at hm hN
 obtain⟨⟨hm1,hf⟩,hs⟩:=hm
 obtain⟨_,hNa,hNb,_⟩:=hN
 rw[qD,qD,kb]at hs
 simp only[Bool.and_eq_true,and_true]at hs
 have hf':0<z7 op∧n=0∧name=bE:=by
  unfold z6 at hf
  simp only[show ¬ (5 :Int)=1 by decide,show ¬ (5 :Int)=2 by decide,show ¬ (5 :Int)=3 by decide,show ¬ (5 :Int)=4 by decide,if_false,if_true,Bool.and_eq_true,decide_eq_true_eq,eB]at hf
  refine⟨hf.1.1.1,hf.1.1.2,?_⟩
  have h0:=hf.1.2
  obtain⟨⟨l⟩⟩:=name
  have:l=[]:=List.eq_nil_of_length_eq_zero h0
  rw[this]
  rfl
 obtain⟨hl0,rfl,rfl⟩:=hf'
 have ht:=two_cases hl0
 have hv:=two_lvl op ht
 obtain⟨aA,aB⟩:=ha (m-1) hs.1 hNa
 obtain⟨bA,bB⟩:=hb (m-1) hs.2 hNb
 have hK:kD (.mk 5 op 0 bE [a,b])=opK (z7 op) a++sg (yC op) :: opK (z7 op+1) b:=by
  rw[yO,kd,kd,exKs_nil]
  rfl
 have hin:∀ lev,lev≤z7 op→opK lev (.mk 5 op 0 bE [a,b])=kD (.mk 5 op 0 bE [a,b]):=fun lev h=>by
  show parK lev (5,op,_)=_
  unfold parK
  rw[if_neg (fun hc=>by have:z7 op<lev:=hc.2;omega)]
 have hout:∀ lev,z7 op<lev→opK lev (.mk 5 op 0 bE [a,b])=sg [40] :: (kD (.mk 5 op 0 bE [a,b])++[sg [41]]):=fun lev h=>by
  show parK lev (5,op,_)=_
  unfold parK
  rw[if_pos ⟨rfl,h⟩]
 have hB:PB (.mk 5 op 0 bE [a,b]) m (z7 op):=by
  intro d rest x hd hmm hl hx
  have hdm:d+m≤102:=by rcases hmm with h | h <;> omega
  rw[hin _ (Int.le_refl _),hK,List.append_assoc,List.cons_append]
  refine aB _ hv.1 hv.2 d _ _ hd (.inl (by omega)) (low_two ht _) ?_
  refine Ev.succ (Ev.congr (g:=fun n=>(pE n (z7 op+1) d (opK (z7 op+1) b++rest)).bind fun b r=>pL n (z7 op) d (.mk 5 op 0 bE [a,b]) r) ?_ fun n=>pL_op ht rfl n d a _)
  exact Ev.bind (bA _ (by omega) (by omega) d rest hd (.inl (by omega)) hl) hx
 have hlow:=pex_of11 (e:=.mk 5 op 0 bE [a,b]) (m:=m) (z7 op) hv.1 (by omega) (pa_of_pb hv.1 hv.2 hB) (fun lev _ h=>by rw[hin lev (by omega),hin (lev+1) (by omega)]) (fun lev d h hc=>by
  rcases hc with h1 | ⟨_,_,h1⟩
  · exact .inl h1
  · exact .inr ⟨rfl,by show lev+1≤z7 op;omega,h1⟩) 11
 have h11:PA (.mk 5 op 0 bE [a,b]) m 11:=by
  intro d rest hd hmm hl
  have hdm:d+m≤101:=by
   rcases hmm with h | ⟨_,h,_⟩
   · exact h
   · have:(11 :Int)≤z7 op:=h
     omega
  rw[hout 11 (by omega),List.cons_append,List.append_assoc]
  refine Ev.succ (Ev.congr (g:=fun n=>pU n d (sg [40] :: (kD (.mk 5 op 0 bE [a,b])++([sg [41]]++rest)))) ?_ fun n=>?_)
  · refine Ev.succ (Ev.succ ?_)
    refine Ev.congr (g:=fun n=>(pE n 1 (d+1) (kD (.mk 5 op 0 bE [a,b])++([sg [41]]++rest))).bind fun e r=>(zI [41] r).bind fun _ r=>.ok e r) ?_ fun n=>?_
    · refine Ev.bind (a:=.mk 5 op 0 bE [a,b]) (r:=sg [41] :: rest) ?_ (Ev.now fun n=>?_)
      · have:=hlow.1 1 (by omega) (by omega) (by omega) (d+1) (sg [41] :: rest) (by omega) (.inr ⟨rfl,hv.1,by omega⟩) (low_cl 1 rest)
        rw[hin 1 hv.1]at this
        exact this
      · rw[qW]
        rfl
    · show pU (n+1+1) d _=_
      rw[pU_prim _ (by decide+kernel) _ (by omega),pP,if_pos (by rw[qB];rfl)]
      rfl
  · show pE (n+1) 11 d _=_
    rw[pE,if_pos (by decide)]
 have hhigh:∀ (k:Nat),(∀ lev,11-(k:Int)≤lev→z7 op<lev→lev≤11→PA (.mk 5 op 0 bE [a,b]) m lev)∧(∀ lev,11-(k:Int)≤lev→z7 op<lev→lev≤10→PB (.mk 5 op 0 bE [a,b]) m lev):=by
  intro k
  induction k with
  | zero=>exact⟨fun lev p q r=>by obtain rfl:lev=11:=by omega
                                  exact h11,fun lev p q r=>by omega⟩
  | succ k ih=>
    have hb:∀ lev,11-((k+1 :Nat):Int)≤lev→z7 op<lev→lev≤10→PB (.mk 5 op 0 bE [a,b]) m lev:=fun lev p q r=>
     pb_down (by omega) r (by rw[hout lev q,hout (lev+1) (by omega)]) (fun d hc=>by
      rcases hc with h1 | ⟨_,h2,_⟩
      · exact .inl h1
      · have:lev≤z7 op:=h2
        omega) (ih.1 (lev+1) (by omega) (by omega) (by omega))
    refine⟨fun lev p q r=>?_,hb⟩
    by_cases h:lev=11
    · subst h
      exact h11
    · exact pa_of_pb (by omega) (by omega) (hb lev p q (by omega))
 refine⟨fun lev p q=>?_,fun lev p q=>?_⟩
 · by_cases h:lev≤z7 op
   · exact hlow.1 lev (by omega) p h
   · exact(hhigh 11).1 lev (by omega) (by omega) q
 · by_cases h:lev<z7 op
   · exact hlow.2 lev (by omega) p h
   · by_cases h2:lev=z7 op
     · subst h2
       exact hB
     · exact(hhigh 11).2 lev (by omega) (by omega) q
theorem eB_eq {s:ByteArray} (h:eB s=true):s=bE:=by
 obtain⟨⟨l⟩⟩:=s
 have h0:(⟨⟨l⟩⟩:ByteArray).size=0:=by simpa[eB] using h
 have:l=[]:=List.eq_nil_of_length_eq_zero h0
 rw[this]
 rfl
theorem ba_eq (s:ByteArray):(⟨s.data.toList.toArray⟩:ByteArray)=s:=by
 obtain⟨⟨l⟩⟩:=s
 rfl
theorem uJ (s:ByteArray) (r:List Tok):zy 1 (uH s :: r)=.ok s r:=by
 unfold zy
 rw[if_pos (show yQ (uH s :: r)=1 from rfl)]
 show PR.ok (⟨s.data.toList.toArray⟩:ByteArray) r=_
 rw[ba_eq]
theorem dig_val {k:Nat} (h:k<10):(UInt8.ofNat (48+k)).toNat=48+k:=by
 rw[UInt8.toNat_ofNat']
 omega
theorem decV_digits (u:Nat):jH 0 (Lib.decDigits u)=u:=by
 induction u using Nat.strongRecOn with
 | ind u ih=>
   rw[Lib.decDigits]
   split
   · rename_i h
     rw[decV_cons,vY,dig_val h]
     omega
   · rename_i h
     rw[vZ,ih (u / 10) (by omega),dig_val (by omega)]
     omega
theorem digits_itoa (n:Int) (h:0≤n):(jH 0 (Lib.itoa n):Int)=n:=by
 obtain⟨u,rfl⟩:=Int.eq_ofNat_of_zero_le h
 rw[Lib.itoa_nonneg,decV_digits]
theorem formK_num {op n:Int} {name:ByteArray} {len:Nat} (h:z6 1 op n name len=true):0≤n∧op=0∧name=bE∧len=0:=by
 simp only[z6,if_true,Bool.and_eq_true,decide_eq_true_eq]at h
 exact⟨h.1.1.1,h.1.1.2,eB_eq h.1.2,h.2⟩
theorem ur {op n:Int} {name:ByteArray} {len:Nat} (h:z6 2 op n name len=true):(n=0∨n=1)∧op=0∧name=bE∧len=0:=by
 simp only[z6,show ¬ (2 :Int)=1 by decide,if_false,if_true,Bool.and_eq_true,decide_eq_true_eq]at h
 exact⟨h.1.1.1,h.1.1.2,eB_eq h.1.2,h.2⟩
theorem formE_var {op n:Int} {name:ByteArray} {len:Nat} (h:z6 3 op n name len=true):ud name=true∧op=0∧n=0∧len=0:=by
 simp only[z6,show ¬ (3 :Int)=1 by decide,show ¬ (3 :Int)=2 by decide,if_false,if_true,Bool.and_eq_true,decide_eq_true_eq]at h
 exact⟨h.1.1.1,h.1.1.2,h.1.2,h.2⟩
theorem formK_one {op n:Int} {name:ByteArray} {len:Nat} (h:z6 4 op n name len=true):(20≤op∧op≤28)∧n=0∧name=bE∧len=1:=by
 simp only[z6,show ¬ (4 :Int)=1 by decide,show ¬ (4 :Int)=2 by decide,show ¬ (4 :Int)=3 by decide,if_false,if_true,Bool.and_eq_true,decide_eq_true_eq]at h
 exact⟨h.1.1.1,h.1.1.2,eB_eq h.1.2,h.2⟩
theorem formK_two {op n:Int} {name:ByteArray} {len:Nat} (h:z6 5 op n name len=true):0<z7 op∧n=0∧name=bE∧len=2:=by
 simp only[z6,show ¬ (5 :Int)=1 by decide,show ¬ (5 :Int)=2 by decide,show ¬ (5 :Int)=3 by decide,show ¬ (5 :Int)=4 by decide,if_false,if_true,Bool.and_eq_true,decide_eq_true_eq]at h
 exact⟨h.1.1.1,h.1.1.2,eB_eq h.1.2,h.2⟩
theorem ut {op n:Int} {name:ByteArray} {len:Nat} (h:z6 6 op n name len=true):ud name=true∧op=0∧n=0∧len=1:=by
 simp only[z6,show ¬ (6 :Int)=1 by decide,show ¬ (6 :Int)=2 by decide,show ¬ (6 :Int)=3 by decide,show ¬ (6 :Int)=4 by decide,show ¬ (6 :Int)=5 by decide,if_false,if_true,Bool.and_eq_true,decide_eq_true_eq]at h
 exact⟨h.1.1.1,h.1.1.2,h.1.2,h.2⟩
theorem formE_call {op n:Int} {name:ByteArray} {len:Nat} (h:z6 7 op n name len=true):ud name=true∧op=0∧n=0∧len≤8:=by
 simp only[z6,show ¬ (7 :Int)=1 by decide,show ¬ (7 :Int)=2 by decide,show ¬ (7 :Int)=3 by decide,show ¬ (7 :Int)=4 by decide,show ¬ (7 :Int)=5 by decide,show ¬ (7 :Int)=6 by decide,if_false,if_true,Bool.and_eq_true,decide_eq_true_eq]at h
 exact⟨h.1.1.1,h.1.1.2,h.1.2,h.2⟩
theorem formE_read {op n:Int} {name:ByteArray} {len:Nat} (h:z6 8 op n name len=true):op=0∧n=0∧name=bE∧len=0:=by
 simp only[z6,show ¬ (8 :Int)=1 by decide,show ¬ (8 :Int)=2 by decide,show ¬ (8 :Int)=3 by decide,show ¬ (8 :Int)=4 by decide,show ¬ (8 :Int)=5 by decide,show ¬ (8 :Int)=6 by decide,show ¬ (8 :Int)=7 by decide,if_false,if_true,Bool.and_eq_true,decide_eq_true_eq]at h
 exact⟨h.1.1.1,h.1.1.2,eB_eq h.1.2,h.2⟩
theorem formK_kind {k op n:Int} {name:ByteArray} {len:Nat} (h:z6 k op n name len=true):k=1∨k=2∨k=3∨k=4∨k=5∨k=6∨k=7∨k=8:=by
 unfold z6 at h
 by_cases h1:k=1
 · exact .inl h1
 by_cases h2:k=2
 · exact .inr (.inl h2)
 by_cases h3:k=3
 · exact .inr (.inr (.inl h3))
 by_cases h4:k=4
 · exact .inr (.inr (.inr (.inl h4)))
 by_cases h5:k=5
 · exact .inr (.inr (.inr (.inr (.inl h5))))
 by_cases h6:k=6
 · exact .inr (.inr (.inr (.inr (.inr (.inl h6)))))
 by_cases h7:k=7
 · exact .inr (.inr (.inr (.inr (.inr (.inr (.inl h7))))))
 by_cases h8:k=8
 · exact .inr (.inr (.inr (.inr (.inr (.inr (.inr h8))))))
 rw[if_neg h1,if_neg h2,if_neg h3,if_neg h4,if_neg h5,if_neg h6,if_neg h7,if_neg h8]at h
 cases h
theorem uK {e:Ex} {t:Tok} {r rest:List Tok} {d:Int} (hd:d≤100) (h0:vP [t]=0) (h:Ev (fun n=>pP (n+1) d (t :: r)) (.ok e rest)):Ev (fun n=>pU n d (t :: r)) (.ok e rest):=
 Ev.succ (Ev.congr (Ev.succ h) fun n=>pU_prim r h0 n hd)
theorem unAt_not {t:Tok} (h:t.kind≠2):vP [t]=0:=unFrom_not h ones
theorem pP_name (n:Nat) (d:Int) (s:ByteArray) (r:List Tok):pP (n+1) d (uH s :: r)=pN n d s r:=by
 have hk:(uH s).kind≠2:=by show (1 :Int)≠2;decide
 rw[pP,jc hk,jc hk,jc hk,jc hk,if_neg (by simp),if_neg (by simp),if_neg (by simp),if_neg (by simp),if_neg (by show ¬ (1 :Int)=0;decide),uJ]
 rfl
theorem pex_num (op n:Int) (name:ByteArray) (args:List Ex):Pex (.mk 1 op n name args):=by
 refine yf (by show (1 :Int)≠5;decide) fun m hm hN d rest hd hdm hl=>?_
 rw[qY]at hm
 rw[uI]at hN
 simp only[Bool.and_eq_true,decide_eq_true_eq]at hm hN
 obtain⟨h0,rfl,rfl,hlen⟩:=formK_num hm.1.2
 obtain rfl:args=[]:=List.eq_nil_of_length_eq_zero hlen
 have hK:kD (.mk 1 0 n bE [])=[nuK n]:=by rw[yO];rfl
 rw[hK,List.cons_append]
 have hk:(nuK n).kind≠2:=by show (0 :Int)≠2;decide
 refine uK (by omega) (unAt_not hk) (Ev.now fun q=>?_)
 rw[pP,jc hk,jc hk,jc hk,jc hk,if_neg (by simp),if_neg (by simp),if_neg (by simp),if_neg (by simp),if_pos (by rfl)]
 show PR.ok (Ex.mk 1 0 (jH 0 (Lib.itoa n)) bE []) rest=_
 rw[digits_itoa n h0]
theorem pex_truth (op n:Int) (name:ByteArray) (args:List Ex):Pex (.mk 2 op n name args):=by
 refine yf (by show (2 :Int)≠5;decide) fun m hm hN d rest hd hdm hl=>?_
 rw[qY]at hm
 simp only[Bool.and_eq_true,decide_eq_true_eq]at hm
 obtain⟨h0,rfl,rfl,hlen⟩:=ur hm.1.2
 obtain rfl:args=[]:=List.eq_nil_of_length_eq_zero hlen
 have hK:kD (.mk 2 0 n bE [])=[sg (boolT (decide (n=1)))]:=by rw[yO];rfl
 rw[hK,List.cons_append]
 rcases h0 with rfl | rfl
 · refine uK (by omega) (by decide+kernel) (Ev.now fun q=>?_)
   rw[pP,qB,qB,qB,if_neg (by decide),if_neg (by decide),if_pos (by decide)]
   rfl
 · refine uK (by omega) (by decide+kernel) (Ev.now fun q=>?_)
   rw[pP,qB,qB,if_neg (by decide),if_pos (by decide)]
   rfl
theorem pex_read (op n:Int) (name:ByteArray) (args:List Ex):Pex (.mk 8 op n name args):=by
 refine yf (by show (8 :Int)≠5;decide) fun m hm hN d rest hd hdm hl=>?_
 rw[qY]at hm
 simp only[Bool.and_eq_true,decide_eq_true_eq]at hm
 obtain⟨rfl,rfl,rfl,hlen⟩:=formE_read hm.1.2
 obtain rfl:args=[]:=List.eq_nil_of_length_eq_zero hlen
 have hK:kD (.mk 8 0 0 bE [])=[sg uZ,sg [40],sg [41]]:=by rw[yO];rfl
 rw[hK,List.cons_append]
 refine uK (by omega) (by decide+kernel) (Ev.now fun q=>?_)
 rw[pP,qB,qB,qB,qB,if_neg (by decide),if_neg (by decide),if_neg (by decide),if_pos (by decide)]
 show (zI [40] (sg [40] :: sg [41] :: rest)).bind _=_
 rw[qW]
 dsimp only[PR.bind]
 rw[qW]
theorem pex_var (op n:Int) (name:ByteArray) (args:List Ex):Pex (.mk 3 op n name args):=by
 refine yf (by show (3 :Int)≠5;decide) fun m hm hN d rest hd hdm hl=>?_
 rw[qY]at hm
 simp only[Bool.and_eq_true,decide_eq_true_eq]at hm
 obtain⟨_,rfl,rfl,hlen⟩:=formE_var hm.1.2
 obtain rfl:args=[]:=List.eq_nil_of_length_eq_zero hlen
 have hK:kD (.mk 3 0 0 name [])=[uH name]:=by rw[yO];rfl
 rw[hK,List.cons_append]
 refine uK (by omega) (unAt_not (by show (1 :Int)≠2;decide)) (Ev.succ (Ev.now fun q=>?_))
 show pP (q+1+1) d (uH name :: rest)=_
 rw[pP_name,pN,hl.2.1,hl.2.2,if_neg (by simp),if_neg (by simp)]
theorem pex_top {e:Ex} (h:Pex e) {m:Nat} (hm:xU e m=true) (hN:exN e=true) {d:Int} (hd:1≤d) (hdm:d+m≤101) {rest:List Tok} (hl:Low 1 rest):Ev (fun n=>pE n 1 d (kD e++rest)) (.ok e rest):=by
 have:=(h m hm hN).1 1 (by decide) (by decide) d rest hd (.inl hdm) hl
 have ho:opK 1 e=kD e:=by
  unfold opK parK
  obtain⟨k,op,n,name,args⟩:=e
  rw[if_neg]
  rintro⟨hk,hlv⟩
  obtain rfl:k=5:=hk
  rw[qY]at hm
  simp only[Bool.and_eq_true,decide_eq_true_eq]at hm
  have:=(formK_two hm.1.2).1
  have h2:z7 op<1:=hlv
  omega
 rw[ho]at this
 exact this
theorem pex_one (op n:Int) (name:ByteArray) (a:Ex) (ha:Pex a):Pex (.mk 4 op n name [a]):=by
 refine yf (by show (4 :Int)≠5;decide) fun m hm hN d rest hd hdm hl=>?_
 rw[qY,qD,kb]at hm
 rw[uI,jB,jx]at hN
 simp only[Bool.and_eq_true,decide_eq_true_eq,and_true]at hm hN
 obtain⟨ho,rfl,rfl,hlen⟩:=formK_one hm.1.2
 have hc:=one_cases ho
 have hu:∀ r,vP (sg (yC op) :: r)=op:=fun r=>by rw[unAt_hd,one_at op hc]
 by_cases h23:23≤op
 · have hK:kD (.mk 4 op 0 bE [a])=sg (yC op) :: sg [40] :: (kD a++[sg [41]]):=by
    rw[yO,kd,exKs_nil]
    show (if 23≤op then _ else _)=_
    rw[if_pos h23]
    rfl
   rw[hK,List.cons_append,List.cons_append,List.append_assoc]
   refine Ev.succ (Ev.congr (g:=fun q=>(pE q 1 (d+1) (kD a++([sg [41]]++rest))).bind fun e r=>(zI [41] r).bind fun _ r=>.ok (.mk 4 op 0 bE [e]) r) ?_ fun q=>?_)
   · refine Ev.bind (a:=a) (r:=sg [41] :: rest) (pex_top ha hm.2 hN.2 (by omega) (by omega) (low_cl 1 rest)) (Ev.now fun q=>?_)
     rw[qW]
     rfl
   · show pU (q+1) d _=_
     rw[pU,if_neg (by omega),hu,if_neg (by omega),if_pos h23]
     show (zI [40] (sg [40] :: _)).bind _=_
     rw[qW]
     rfl
 · have hK:kD (.mk 4 op 0 bE [a])=sg (yC op) :: opK 11 a:=by
    rw[yO,kd,exKs_nil]
    show (if 23≤op then _ else _)=_
    rw[if_neg h23]
    rfl
   rw[hK,List.cons_append]
   refine Ev.succ (Ev.congr (g:=fun q=>(pU q (d+1) (opK 11 a++rest)).bind fun e r=>.ok (.mk 4 op 0 bE [e]) r) ?_ fun q=>?_)
   · refine Ev.bind (a:=a) (r:=rest) ?_ (Ev.now fun q=>rfl)
     obtain⟨N,hA⟩:=(ha (m-1) hm.2 hN.2).1 11 (by decide) (by decide) (d+1) rest (by omega) (.inl (by omega)) hl
     refine⟨N,fun q hq=>?_⟩
     have:=hA (q+1) (by omega)
     dsimp only at this
     rw[pE,if_pos (by decide)]at this
     exact this
   · show pU (q+1) d _=_
     rw[pU,if_neg (by omega),hu,if_neg (by omega),if_neg h23]
     rfl
theorem pex_index (op n:Int) (name:ByteArray) (a:Ex) (ha:Pex a):Pex (.mk 6 op n name [a]):=by
 refine yf (by show (6 :Int)≠5;decide) fun m hm hN d rest hd hdm hl=>?_
 rw[qY,qD,kb]at hm
 rw[uI,jB,jx]at hN
 simp only[Bool.and_eq_true,decide_eq_true_eq,and_true]at hm hN
 obtain⟨_,rfl,rfl,hlen⟩:=ut hm.1.2
 have hK:kD (.mk 6 0 0 name [a])=uH name :: sg [91] :: (kD a++[sg [93]]):=by
  rw[yO,kd,exKs_nil]
  rfl
 rw[hK,List.cons_append,List.cons_append,List.append_assoc]
 refine uK (by omega) (unAt_not (by show (1 :Int)≠2;decide)) (Ev.succ (Ev.congr (g:=fun q=>(pE q 1 (d+1) (kD a++([sg [93]]++rest))).bind fun e r=>(zI [93] r).bind fun _ r=>.ok (.mk 6 0 0 name [e]) r) ?_ fun q=>?_))
 · refine Ev.bind (a:=a) (r:=sg [93] :: rest) (pex_top ha hm.2 hN.2 (by omega) (by omega) (low_sq 1 rest)) (Ev.now fun q=>?_)
   rw[qW]
   rfl
 · rw[pP_name,pN,qB,if_neg (by decide),qB,if_pos (by decide)]
   rfl
theorem pAL_back:∀ (l:List Ex) (e:Ex) (acc:List Ex),(∀ x ∈ e :: l,Pex x)→∀ (m:Nat),zo (e :: l) m=true→xg (e :: l)=true→∀ (d:Int) (rest:List Tok),1≤d→d+m≤101→
 Ev (fun n=>yq n d acc (qn ((e :: l).map kD)++sg [41] :: rest)) (.ok (acc++e :: l) rest)
 | [],e,acc,hP,m,hm,hN,d,rest,hd,hdm=>by
   rw[qD,kb,Bool.and_true]at hm
   rw[jB,jx,Bool.and_true]at hN
   show Ev (fun n=>yq n d acc (kD e++sg [41] :: rest)) _
   refine Ev.succ (Ev.congr (g:=fun n=>(pE n 1 d (kD e++sg [41] :: rest)).bind fun e r=>if z9 [44] r=true then yq n d (acc++[e]) r.tail else (zI [41] r).bind fun _ r=>.ok (acc++[e]) r) ?_ fun n=>?_)
   · refine Ev.bind (pex_top (hP e (List.mem_cons_self ..)) hm hN hd hdm (low_cl 1 rest)) (Ev.now fun n=>?_)
     rw[qB,if_neg (by decide),qW]
     rfl
   · show yq (n+1) d acc _=_
     rw[yq]
 | f :: l,e,acc,hP,m,hm,hN,d,rest,hd,hdm=>by
   rw[qD,Bool.and_eq_true]at hm
   rw[jB,Bool.and_eq_true]at hN
   have e1:qn ((e :: f :: l).map kD)++sg [41] :: rest=kD e++sg [44] :: (qn ((f :: l).map kD)++sg [41] :: rest):=by
    show (kD e++sg [44] :: qn ((f :: l).map kD))++_=_
    rw[List.append_assoc,List.cons_append]
   rw[e1]
   refine Ev.succ (Ev.congr (g:=fun n=>(pE n 1 d (kD e++sg [44] :: (qn ((f :: l).map kD)++sg [41] :: rest))).bind fun e r=>if z9 [44] r=true then yq n d (acc++[e]) r.tail else (zI [41] r).bind fun _ r=>.ok (acc++[e]) r) ?_ fun n=>?_)
   · refine Ev.bind (pex_top (hP e (List.mem_cons_self ..)) hm.1 hN.1 hd hdm (low_co 1 _)) ?_
     refine Ev.congr (g:=fun n=>yq n d (acc++[e]) (qn ((f :: l).map kD)++sg [41] :: rest)) ?_ fun n=>?_
     · have:=pAL_back l f (acc++[e]) (fun x hx=>hP x (List.mem_cons_of_mem _ hx)) m hm.2 hN.2 d rest hd hdm
       rw[List.append_assoc]at this
       exact this
     · rw[qB,if_pos (by decide)]
       rfl
   · show yq (n+1) d acc _=_
     rw[yq]
def HdP (l:List Tok):Prop:=∃ t r,l=t :: r∧z9 [41] [t]=false
theorem parK_hd (lev:Int) (c:Int × Int × List Tok) (h:HdP c.2.2):HdP (parK lev c):=by
 unfold parK
 split
 · exact⟨_,_,rfl,by decide+kernel⟩
 · exact h
theorem one_hd:∀ op ∈ ones,z9 [41] [sg (yC op)]=false:=by decide+kernel
mutual
theorem exK_hd:∀ (e:Ex) (m:Nat),xU e m=true→HdP (kD e)
 | .mk k op n name args,m,hm=>by
   rw[qY]at hm
   simp only[Bool.and_eq_true,decide_eq_true_eq]at hm
   have hf:=hm.1.2
   have hs:=hm.2
   rw[yO]
   obtain rfl | rfl | rfl | rfl | rfl | rfl | rfl | rfl:=formK_kind hf
   · exact⟨_,_,rfl,jc (by show (0 :Int)≠2;decide)⟩
   · obtain⟨h0,_⟩:=ur hf
     rcases h0 with rfl | rfl
     · exact⟨_,_,rfl,by decide+kernel⟩
     · exact⟨_,_,rfl,by decide+kernel⟩
   · exact⟨_,_,rfl,jc (by show (1 :Int)≠2;decide)⟩
   · obtain⟨ho,_⟩:=formK_one hf
     show HdP (if 23≤op then _ else _)
     split
     · exact⟨_,_,rfl,one_hd op (one_cases ho)⟩
     · exact⟨_,_,rfl,one_hd op (one_cases ho)⟩
   · have h2:=(formK_two hf).2.2.2
     match args,h2,hs with
     | [a,b],_,hs=>
       rw[qD,Bool.and_eq_true]at hs
       have ha:=exK_hd a (m-1) hs.1
       show HdP (parK (z7 op) (kidK (ue [a,b]) 0)++_)
       have hp:HdP (parK (z7 op) (kidK (ue [a,b]) 0)):=parK_hd _ _ (by rw[kd];exact ha)
       obtain⟨t,r,e,h⟩:=hp
       rw[e]
       exact⟨t,_,rfl,h⟩
   · exact⟨_,_,rfl,jc (by show (1 :Int)≠2;decide)⟩
   · exact⟨_,_,rfl,jc (by show (1 :Int)≠2;decide)⟩
   · exact⟨_,_,rfl,by decide+kernel⟩
end
theorem pA_back (l:List Ex) (hP:∀ x ∈ l,Pex x) (m:Nat) (hm:zo l m=true) (hN:xg l=true) (d:Int) (rest:List Tok) (hd:1≤d) (hdm:d+m≤101):
 Ev (fun n=>pA n d (qn (l.map kD)++sg [41] :: rest)) (.ok l rest):=by
 cases l with
 | nil=>
   refine Ev.succ (Ev.now fun n=>?_)
   show pA (n+1) d (sg [41] :: rest)=_
   rw[pA,qB,if_pos (by decide)]
   rfl
 | cons e l=>
   have h0:xU e m=true:=by rw[qD,Bool.and_eq_true]at hm;exact hm.1
   obtain⟨t,r,he,hh⟩:=exK_hd e m h0
   refine Ev.succ (Ev.congr (pAL_back l e [] hP m hm hN d rest hd hdm) fun n=>?_)
   show pA (n+1) d _=_
   have hj:∃ q,qn ((e :: l).map kD)++sg [41] :: rest=t :: q:=by
    cases l with
    | nil=>exact⟨r++sg [41] :: rest,by show kD e++_=_;rw[he];rfl⟩
    | cons f l=>exact⟨_,by show (kD e++_)++_=_;rw[he];rfl⟩
   obtain⟨q,hq⟩:=hj
   rw[hq,pA,xW,if_neg]
   intro hc
   rw[xW]at hh
   rw[hh]at hc
   cases hc
theorem pex_call (op n:Int) (name:ByteArray) (args:List Ex) (hP:∀ x ∈ args,Pex x):Pex (.mk 7 op n name args):=by
 refine yf (by show (7 :Int)≠5;decide) fun m hm hN d rest hd hdm hl=>?_
 rw[qY]at hm
 rw[uI]at hN
 simp only[Bool.and_eq_true,decide_eq_true_eq]at hm hN
 obtain⟨_,rfl,rfl,hlen⟩:=formE_call hm.1.2
 have hK:kD (.mk 7 0 0 name args)=uH name :: sg [40] :: (qn (args.map kD)++[sg [41]]):=by
  rw[yO,ve]
  show uH name :: sg [40] :: (qn ((args.map fun e=>(e.kind,e.op,kD e)).map (·.2.2))++[sg [41]])=_
  rw[List.map_map]
  rfl
 rw[hK,List.cons_append,List.cons_append,List.append_assoc]
 refine uK (by omega) (unAt_not (by show (1 :Int)≠2;decide)) (Ev.succ (Ev.congr (g:=fun q=>(pA q (d+1) (qn (args.map kD)++([sg [41]]++rest))).bind fun es r=>.ok (.mk 7 0 0 name es) r) ?_ fun q=>?_))
 · exact Ev.bind (pA_back args hP (m-1) hm.2 hN.2 (d+1) rest (by omega) (by omega)) (Ev.now fun q=>rfl)
 · rw[pP_name,pN,qB,if_pos (by decide)]
   rfl
mutual
theorem pex_all:∀ (e:Ex),Pex e
 | .mk k op n name args=>by
   have hall:=pexs_all args
   intro m hm hN
   have hm':=hm
   rw[qY]at hm'
   simp only[Bool.and_eq_true,decide_eq_true_eq]at hm'
   have hf:=hm'.1.2
   obtain rfl | rfl | rfl | rfl | rfl | rfl | rfl | rfl:=formK_kind hf
   · exact pex_num op n name args m hm hN
   · exact pex_truth op n name args m hm hN
   · exact pex_var op n name args m hm hN
   · have h2:=(formK_one hf).2.2.2
     match args,h2,hall,hm,hN with
     | [a],_,hall,hm,hN=>exact pex_one op n name a (hall a (by simp)) m hm hN
   · have h2:=(formK_two hf).2.2.2
     match args,h2,hall,hm,hN with
     | [a,b],_,hall,hm,hN=>exact pex_two op n name a b (hall a (by simp)) (hall b (by simp)) m hm hN
   · have h2:=(ut hf).2.2.2
     match args,h2,hall,hm,hN with
     | [a],_,hall,hm,hN=>exact pex_index op n name a (hall a (by simp)) m hm hN
   · exact pex_call op n name args hall m hm hN
   · exact pex_read op n name args m hm hN
theorem pexs_all:∀ (l:List Ex),∀ x ∈ l,Pex x
 | []=>fun x h=>by simp at h
 | e :: r=>List.forall_mem_cons.2 ⟨pex_all e,pexs_all r⟩
end
theorem jW {α β:Type} (a:α) (r:List Tok) (f:α→List Tok→PR β):(PR.ok a r).bind f=f a r:=rfl
theorem semi_ok {α:Type} (a:α) (r:List Tok):q9 (.ok a (sg [59] :: r))=.ok a r:=by
 unfold q9
 rw[jW,qW]
 rfl
def yg (args:List Ex) (i:Nat):List Tok:=(kidK (ue args) i).2.2
def elK (e:List Tok) (b:Bool):List Tok:=if b then [] else sg yD :: sg [123] :: (e++[sg [125]])
mutual
def stK:St→List Tok
 | .mk k ty name args thn els=>
   if k=1 then sg (tyT ty) :: uH name :: sg [61] :: (yg args 0++[sg [59]])
   else if k=2 then uH name :: sg [61] :: (yg args 0++[sg [59]])
   else if k=3 then uH name :: sg [91] :: (yg args 0++sg [93] :: sg [61] :: (yg args 1++[sg [59]]))
   else if k=4 then sg sIf :: sg [40] :: (yg args 0++sg [41] :: sg [123] :: (kI thn++sg [125] :: elK (kI els) (decide (els.length=0))))
   else if k=5 then sg kH :: sg [40] :: (yg args 0++sg [41] :: sg [123] :: (kI thn++[sg [125]]))
   else if k=6 then [sg xd,sg [59]]
   else if k=7 then [sg u6,sg [59]]
   else if k=8 then sg sRet :: (yg args 0++[sg [59]])
   else if k=9 then sg yN :: sg [40] :: (yg args 0++[sg [41],sg [59]])
   else yg args 0++[sg [59]]
def kI:List St→List Tok
 | []=>[]
 | s :: r=>stK s++kI r
end
mutual
def stN:St→Bool
 | .mk _ _ _ args thn els=>xg args && xh thn && xh els
def xh:List St→Bool
 | []=>true
 | s :: r=>stN s && xh r
end
theorem stN_mk (k ty:Int) (name:ByteArray) (args:List Ex) (thn els:List St):stN (.mk k ty name args thn els)=(xg args && xh thn && xh els):=by rw[stN]
theorem qK:xh []=true:=by rw[xh]
theorem vg (s:St) (r:List St):xh (s :: r)=(stN s && xh r):=by rw[xh]
theorem stsK_nil:kI []=[]:=by rw[kI]
theorem stsK_cons (s:St) (r:List St):kI (s :: r)=stK s++kI r:=by rw[kI]
theorem qj (e:Ex) (r:List Ex):yg (e :: r) 0=kD e:=by
 unfold yg
 rw[kd]
 rfl
theorem argK_two (a e:Ex) (r:List Ex):yg (a :: e :: r) 1=kD e:=by
 unfold yg
 rw[kd,kd]
 rfl
theorem uu {k ty:Int} {name:ByteArray} {a b c:Nat} {d:Bool} (h:zX k ty name a b c d=true):k=1∨k=2∨k=3∨k=4∨k=5∨k=6∨k=7∨k=8∨k=9∨k=10:=by
 unfold zX at h
 by_cases h1:k=1
 · exact .inl h1
 by_cases h2:k=2
 · exact .inr (.inl h2)
 by_cases h3:k=3
 · exact .inr (.inr (.inl h3))
 by_cases h4:k=4
 · exact .inr (.inr (.inr (.inl h4)))
 by_cases h5:k=5
 · exact .inr (.inr (.inr (.inr (.inl h5))))
 by_cases h6:k=6
 · exact .inr (.inr (.inr (.inr (.inr (.inl h6)))))
 by_cases h7:k=7
 · exact .inr (.inr (.inr (.inr (.inr (.inr (.inl h7))))))
 by_cases h8:k=8
 · exact .inr (.inr (.inr (.inr (.inr (.inr (.inr (.inl h8)))))))
 by_cases h9:k=9
 · exact .inr (.inr (.inr (.inr (.inr (.inr (.inr (.inr (.inl h9))))))))
 by_cases h10:k=10
 · exact .inr (.inr (.inr (.inr (.inr (.inr (.inr (.inr (.inr h10))))))))
 rw[if_neg h1,if_neg h2,if_neg h3,if_neg h4,if_neg h5,if_neg (by omega),if_neg (by omega),if_neg h10]at h
 cases h
theorem formS_1 {ty:Int} {name:ByteArray} {a b c:Nat} {d:Bool} (h:zX 1 ty name a b c d=true):v8 ty=true∧ud name=true∧a=1∧b=0∧c=0:=by
 simp only[zX,if_true,Bool.and_eq_true,decide_eq_true_eq]at h
 exact⟨h.1.1.1.1,h.1.1.1.2,h.1.1.2,h.1.2,h.2⟩
theorem formS_2 {ty:Int} {name:ByteArray} {a b c:Nat} {d:Bool} (h:zX 2 ty name a b c d=true):ty=0∧ud name=true∧a=1∧b=0∧c=0:=by
 simp only[zX,show ¬ (2 :Int)=1 by decide,if_false,if_true,Bool.and_eq_true,decide_eq_true_eq]at h
 exact⟨h.1.1.1.1,h.1.1.1.2,h.1.1.2,h.1.2,h.2⟩
theorem formS_3 {ty:Int} {name:ByteArray} {a b c:Nat} {d:Bool} (h:zX 3 ty name a b c d=true):ty=0∧ud name=true∧a=2∧b=0∧c=0:=by
 simp only[zX,show ¬ (3 :Int)=1 by decide,show ¬ (3 :Int)=2 by decide,if_false,if_true,Bool.and_eq_true,decide_eq_true_eq]at h
 exact⟨h.1.1.1.1,h.1.1.1.2,h.1.1.2,h.1.2,h.2⟩
theorem formS_4 {ty:Int} {name:ByteArray} {a b c:Nat} {d:Bool} (h:zX 4 ty name a b c d=true):ty=0∧name=bE∧a=1:=by
 simp only[zX,show ¬ (4 :Int)=1 by decide,show ¬ (4 :Int)=2 by decide,show ¬ (4 :Int)=3 by decide,if_false,if_true,Bool.and_eq_true,decide_eq_true_eq]at h
 exact⟨h.1.1,eB_eq h.1.2,h.2⟩
theorem formS_5 {ty:Int} {name:ByteArray} {a b c:Nat} {d:Bool} (h:zX 5 ty name a b c d=true):ty=0∧name=bE∧a=1∧c=0:=by
 simp only[zX,show ¬ (5 :Int)=1 by decide,show ¬ (5 :Int)=2 by decide,show ¬ (5 :Int)=3 by decide,show ¬ (5 :Int)=4 by decide,if_false,if_true,Bool.and_eq_true,decide_eq_true_eq]at h
 exact⟨h.1.1.1,eB_eq h.1.1.2,h.1.2,h.2⟩
theorem formS_67 {k ty:Int} {name:ByteArray} {a b c:Nat} {d:Bool} (hk:k=6∨k=7) (h:zX k ty name a b c d=true):ty=0∧name=bE∧a=0∧b=0∧c=0:=by
 unfold zX at h
 rw[if_neg (by omega),if_neg (by omega),if_neg (by omega),if_neg (by omega),if_neg (by omega),if_pos hk]at h
 simp only[Bool.and_eq_true,decide_eq_true_eq]at h
 exact⟨h.1.1.1.1,eB_eq h.1.1.1.2,h.1.1.2,h.1.2,h.2⟩
theorem formS_89 {k ty:Int} {name:ByteArray} {a b c:Nat} {d:Bool} (hk:k=8∨k=9) (h:zX k ty name a b c d=true):ty=0∧name=bE∧a=1∧b=0∧c=0:=by
 unfold zX at h
 rw[if_neg (by omega),if_neg (by omega),if_neg (by omega),if_neg (by omega),if_neg (by omega),if_neg (by omega),if_pos hk]at h
 simp only[Bool.and_eq_true,decide_eq_true_eq]at h
 exact⟨h.1.1.1.1,eB_eq h.1.1.1.2,h.1.1.2,h.1.2,h.2⟩
theorem formS_10 {ty:Int} {name:ByteArray} {a b c:Nat} {d:Bool} (h:zX 10 ty name a b c d=true):ty=0∧name=bE∧a=1∧b=0∧c=0∧d=true:=by
 unfold zX at h
 rw[if_neg (by omega),if_neg (by omega),if_neg (by omega),if_neg (by omega),if_neg (by omega),if_neg (by omega),if_neg (by omega),if_pos (by rfl)]at h
 simp only[Bool.and_eq_true,decide_eq_true_eq]at h
 exact⟨h.1.1.1.1.1,eB_eq h.1.1.1.1.2,h.1.1.1.2,h.1.1.2,h.1.2,h.2⟩
theorem x9 {α:Type} {l:List α} (h:l.length=0):l=[]:=List.eq_nil_of_length_eq_zero h
theorem len1 {α:Type} {l:List α} (h:l.length=1):∃ a,l=[a]:=by
 match l,h with
 | [a],_=>exact⟨a,rfl⟩
theorem len2 {α:Type} {l:List α} (h:l.length=2):∃ a b,l=[a,b]:=by
 match l,h with
 | [a,b],_=>exact⟨a,b,rfl⟩
theorem tyT_sg {t:Int} (h:v8 t=true):(t=1∧tyT t=x8)∨(t=2∧tyT t=jf):=by
 have h':t=1∨t=2:=by simpa[v8] using h
 rcases h' with rfl | rfl
 · exact .inl ⟨rfl,by decide⟩
 · exact .inr ⟨rfl,by decide⟩
theorem uv {t:Int} (h:v8 t=true) (r:List Tok):yt (sg (tyT t) :: r)=.ok t r:=by
 unfold yt
 rcases tyT_sg h with⟨rfl,e⟩ | ⟨rfl,e⟩
 · rw[e,qB,if_pos (by decide)]
   rfl
 · rw[e,qB,if_neg (by decide),qW]
   rfl
def SHd (l:List Tok):Prop:=∃ t r,l=t :: r∧z9 [125] [t]=false∧z9 yD [t]=false
theorem shd_sg {s:List UInt8} {r:List Tok} (h:(s == [125])=false) (h2:(s == yD)=false):SHd (sg s :: r):=⟨_,_,rfl,by rw[qB,h],by rw[qB,h2]⟩
theorem shd_nm {s:ByteArray} {r:List Tok}:SHd (uH s :: r):=⟨_,_,rfl,jc (by show (1 :Int)≠2;decide),jc (by show (1 :Int)≠2;decide)⟩
theorem shd_ty {t:Int} (h:v8 t=true) {r:List Tok}:SHd (sg (tyT t) :: r):=by
 rcases tyT_sg h with⟨_,e⟩ | ⟨_,e⟩ <;> rw[e] <;> exact shd_sg (by decide) (by decide)
theorem call_form {args:List Ex} {m:Nat} (h1:args.length=1) (hc:uY args=true) (hm:zo args m=true):∃ nm es,args=[.mk 7 0 0 nm es]∧zo es (m-1)=true:=by
 obtain⟨e,rfl⟩:=len1 h1
 obtain⟨k,op,n,nm,es⟩:=e
 obtain rfl:k=7:=of_decide_eq_true hc
 rw[qD,qY]at hm
 simp only[Bool.and_eq_true,decide_eq_true_eq]at hm
 obtain⟨_,rfl,rfl,_⟩:=formE_call hm.1.1.2
 exact⟨nm,es,rfl,hm.1.2⟩
theorem call_K (nm:ByteArray) (es:List Ex):kD (.mk 7 0 0 nm es)=uH nm :: sg [40] :: (qn (es.map kD)++[sg [41]]):=by
 rw[yO,ve]
 show uH nm :: sg [40] :: (qn ((es.map fun e=>(e.kind,e.op,kD e)).map (·.2.2))++[sg [41]])=_
 rw[List.map_map]
 rfl
theorem stK_hd (s:St) (m:Nat) (h:stOK s m=true):SHd (stK s):=by
 obtain⟨k,ty,name,args,thn,els⟩:=s
 rw[kL]at h
 simp only[Bool.and_eq_true,decide_eq_true_eq]at h
 obtain⟨⟨⟨⟨hm,hf⟩,ha⟩,ht⟩,he⟩:=h
 rw[stK]
 obtain rfl | rfl | rfl | rfl | rfl | rfl | rfl | rfl | rfl | rfl:=uu hf
 · exact shd_ty (formS_1 hf).1
 · exact shd_nm
 · exact shd_nm
 · exact shd_sg (by decide) (by decide)
 · exact shd_sg (by decide) (by decide)
 · exact shd_sg (by decide) (by decide)
 · exact shd_sg (by decide) (by decide)
 · exact shd_sg (by decide) (by decide)
 · exact shd_sg (by decide) (by decide)
 · obtain⟨rfl,rfl,h1,_,_,hc⟩:=formS_10 hf
   obtain⟨nm,es,rfl,_⟩:=call_form h1 hc ha
   show SHd (yg _ 0++_)
   rw[qj,call_K]
   exact shd_nm
theorem vh {e:Ex} (hm:xU e 100=true) (hN:exN e=true) {rest:List Tok} (hl:Low 1 rest):Ev (fun n=>pE n 1 1 (kD e++rest)) (.ok e rest):=pex_top (pex_all e) hm hN (by decide) (by decide) hl
theorem yY {α:Type} {f:Nat→PR α} {a:α} {r:List Tok} (h:Ev f (.ok a (sg [59] :: r))):Ev (fun n=>q9 (f n)) (.ok a r):=by
 obtain⟨N,h⟩:=h
 refine⟨N,fun n hn=>?_⟩
 show q9 (f n)=_
 rw[h n hn,semi_ok]
theorem pI_back {e:Ex} (hm:xU e 100=true) (hN:exN e=true) (rest:List Tok):Ev (fun n=>pI n (sg [40] :: (kD e++sg [41] :: rest))) (.ok e rest):=by
 refine Ev.congr (g:=fun n=>(pE n 1 1 (kD e++sg [41] :: rest)).bind fun e r=>(zI [41] r).bind fun _ r=>.ok e r) ?_ fun n=>?_
 · refine Ev.bind (vh hm hN (low_cl 1 rest)) (Ev.now fun n=>?_)
   rw[qW]
   rfl
 · unfold pI
   rw[qW]
   rfl
theorem ex_one {e:Ex} {m:Nat} (h:zo [e] m=true):xU e m=true:=by rw[qD,Bool.and_eq_true]at h;exact h.1
theorem yx {e:Ex} (h:xg [e]=true):exN e=true:=by rw[jB,Bool.and_eq_true]at h;exact h.1
theorem pS_word (n:Nat) {d:Int} (hd:d≤100) (t:List UInt8) (r:List Tok) (h1:(t == x8)=false) (h2:(t == jf)=false):pS (n+1) d (sg t :: r)=
 (if t=sIf then (pI n r).bind fun e r=>(pB n (d+1) r).bind fun t r=>vV n d e t r
 else if t=kH then (pI n r).bind fun e r=>(pB n (d+1) r).bind fun t r=>.ok (.mk 5 0 bE [e] t []) r
 else if t=xd then q9 (.ok (.mk 6 0 bE [] [] []) r)
 else if t=u6 then q9 (.ok (.mk 7 0 bE [] [] []) r)
 else if t=sRet then q9 ((pE n 1 1 r).bind fun e r=>.ok (.mk 8 0 bE [e] [] []) r)
 else if t=yN then q9 ((pI n r).bind fun e r=>.ok (.mk 9 0 bE [e] [] []) r)
 else q9 (pNm n (sg t :: r))):=by
 rw[pS,if_neg (by omega),qB,qB,h1,h2,if_neg (by simp)]
 simp only[qB,beq_iff_eq,List.tail_cons]
theorem pS_name (n:Nat) {d:Int} (hd:d≤100) (s:ByteArray) (r:List Tok):pS (n+1) d (uH s :: r)=q9 (pNm n (uH s :: r)):=by
 have hk:(uH s).kind≠2:=by show (1 :Int)≠2;decide
 rw[pS,if_neg (by omega)]
 simp only[jc hk,if_neg Bool.false_ne_true,or_self]
theorem pNm_set (n:Nat) (s:ByteArray) (t:List UInt8) (r:List Tok):pNm n (uH s :: sg t :: r)=
 (if t=[40] then (pA n 2 r).bind fun es r=>.ok (.mk 10 0 bE [.mk 7 0 0 s es] [] []) r
 else if t=[91] then (pE n 1 1 r).bind fun e r=>(zI [93] r).bind fun _ r=>(zI [61] r).bind fun _ r=>(pE n 1 1 r).bind fun f r=>.ok (.mk 3 0 s [e,f] [] []) r
 else (zI [61] (sg t :: r)).bind fun _ r=>(pE n 1 1 r).bind fun e r=>.ok (.mk 2 0 s [e] [] []) r):=by
 unfold pNm
 rw[uJ]
 show (if z9 [40] (sg t :: r)=true then _ else _)=_
 simp only[qB,beq_iff_eq,List.tail_cons]
mutual
theorem st_back:∀ (s:St) (m:Nat),stOK s m=true→stN s=true→∀ (d:Int) (rest:List Tok),1≤d→d+m≤101→z9 yD rest=false→Ev (fun n=>pS n d (stK s++rest)) (.ok s rest)
 | .mk k ty name args thn els,m,h,hN,d,rest,hd,hdm,hel=>by
   rw[kL]at h
   rw[stN_mk]at hN
   simp only[Bool.and_eq_true,decide_eq_true_eq]at h hN
   obtain⟨⟨⟨⟨hm,hf⟩,ha⟩,ht⟩,he⟩:=h
   obtain⟨⟨hNa,hNt⟩,hNe⟩:=hN
   have iT:=sts_back thn (m-1) ht hNt
   have iE:=sts_back els (m-1) he hNe
   rw[stK]
   obtain rfl | rfl | rfl | rfl | rfl | rfl | rfl | rfl | rfl | rfl:=uu hf
   · obtain⟨hty,_,h1,h2,h3⟩:=formS_1 hf
     obtain⟨e,rfl⟩:=len1 h1
     obtain rfl:=x9 h2
     obtain rfl:=x9 h3
     show Ev (fun n=>pS n d ((sg (tyT ty) :: uH name :: sg [61] :: (yg [e] 0++[sg [59]]))++rest)) _
     rw[qj,List.cons_append,List.cons_append,List.cons_append,List.append_assoc]
     refine Ev.succ (Ev.congr (g:=fun n=>q9 ((pE n 1 1 (kD e++([sg [59]]++rest))).bind fun e r=>.ok (.mk 1 ty name [e] [] []) r)) ?_ fun n=>?_)
     · exact yY (Ev.bind (vh (ex_one ha) (yx hNa) (low_se 1 rest)) (Ev.now fun n=>rfl))
     · show pS (n+1) d _=_
       rw[pS,if_neg (by omega),if_pos (by rw[qB,qB];rcases tyT_sg hty with⟨_,e⟩ | ⟨_,e⟩ <;> rw[e] <;> decide),uv hty]
       rw[jW,uJ,jW,qW,jW]
   · obtain⟨rfl,_,h1,h2,h3⟩:=formS_2 hf
     obtain⟨e,rfl⟩:=len1 h1
     obtain rfl:=x9 h2
     obtain rfl:=x9 h3
     show Ev (fun n=>pS n d ((uH name :: sg [61] :: (yg [e] 0++[sg [59]]))++rest)) _
     rw[qj,List.cons_append,List.cons_append,List.append_assoc]
     refine Ev.succ (Ev.congr (g:=fun n=>q9 ((pE n 1 1 (kD e++([sg [59]]++rest))).bind fun e r=>.ok (.mk 2 0 name [e] [] []) r)) ?_ fun n=>?_)
     · exact yY (Ev.bind (vh (ex_one ha) (yx hNa) (low_se 1 rest)) (Ev.now fun n=>rfl))
     · show pS (n+1) d _=_
       rw[pS_name n (by omega),pNm_set,if_neg (by decide),if_neg (by decide),qW]
       rfl
   · obtain⟨rfl,_,h1,h2,h3⟩:=formS_3 hf
     obtain⟨a,b,rfl⟩:=len2 h1
     obtain rfl:=x9 h2
     obtain rfl:=x9 h3
     rw[qD,Bool.and_eq_true]at ha
     rw[jB,Bool.and_eq_true]at hNa
     show Ev (fun n=>pS n d ((uH name :: sg [91] :: (yg [a,b] 0++sg [93] :: sg [61] :: (yg [a,b] 1++[sg [59]])))++rest)) _
     rw[qj,argK_two,List.cons_append,List.cons_append,List.append_assoc,List.cons_append,List.cons_append,List.append_assoc]
     refine Ev.succ (Ev.congr (g:=fun n=>q9 ((pE n 1 1 (kD a++sg [93] :: sg [61] :: (kD b++([sg [59]]++rest)))).bind fun e r=>(zI [93] r).bind fun _ r=>(zI [61] r).bind fun _ r=>(pE n 1 1 r).bind fun f r=>.ok (.mk 3 0 name [e,f] [] []) r)) ?_ fun n=>?_)
     · refine yY (Ev.bind (vh ha.1 hNa.1 (low_sq 1 _)) ?_)
       refine Ev.congr (g:=fun n=>(pE n 1 1 (kD b++([sg [59]]++rest))).bind fun f r=>.ok (.mk 3 0 name [a,f] [] []) r) (Ev.bind (vh (ex_one ha.2) (yx hNa.2) (low_se 1 rest)) (Ev.now fun n=>rfl)) fun n=>?_
       rw[qW]
       dsimp only[PR.bind]
       rw[qW]
     · show pS (n+1) d _=_
       rw[pS_name n (by omega),pNm_set,if_neg (by decide),if_pos (by rfl)]
   · obtain⟨rfl,rfl,h1⟩:=formS_4 hf
     obtain⟨e,rfl⟩:=len1 h1
     show Ev (fun n=>pS n d ((sg sIf :: sg [40] :: (yg [e] 0++sg [41] :: sg [123] :: (kI thn++sg [125] :: elK (kI els) (decide (els.length=0)))))++rest)) _
     rw[qj,List.cons_append,List.cons_append,List.append_assoc,List.cons_append,List.cons_append,List.append_assoc,List.cons_append]
     refine Ev.succ (Ev.congr (g:=fun n=>(pI n (sg [40] :: (kD e++sg [41] :: sg [123] :: (kI thn++sg [125] :: (elK (kI els) (decide (els.length=0))++rest))))).bind fun e r=>(pB n (d+1) r).bind fun t r=>vV n d e t r) ?_ fun n=>?_)
     · refine Ev.bind (pI_back (ex_one ha) (yx hNa) _) (Ev.bind (a:=thn) (r:=elK (kI els) (decide (els.length=0))++rest) ?_ ?_)
       · refine Ev.succ (Ev.congr (iT (d+1) [] _ (by omega) (by omega)) fun n=>?_)
         show pB (n+1) (d+1) _=_
         rw[pB,qW]
         rfl
       · cases els with
         | nil=>
           refine Ev.succ (Ev.now fun n=>?_)
           show vV (n+1) d e thn (elK (kI []) (decide (([]:List St).length=0))++rest)=_
           show vV (n+1) d e thn rest=_
           rw[vV,hel,if_neg (by simp)]
         | cons s r=>
           have hK:elK (kI (s :: r)) (decide ((s :: r).length=0))++rest=sg yD :: sg [123] :: (kI (s :: r)++sg [125] :: rest):=by
            unfold elK
            rw[if_neg (by simp),List.cons_append,List.cons_append,List.append_assoc]
            rfl
           rw[hK]
           refine Ev.succ (Ev.congr (g:=fun n=>(pB n (d+1) (sg [123] :: (kI (s :: r)++sg [125] :: rest))).bind fun u r=>.ok (.mk 4 0 bE [e] thn u) r) ?_ fun n=>?_)
           · refine Ev.bind (a:=s :: r) (r:=rest) ?_ (Ev.now fun n=>rfl)
             refine Ev.succ (Ev.congr (iE (d+1) [] _ (by omega) (by omega)) fun n=>?_)
             show pB (n+1) (d+1) _=_
             rw[pB,qW]
             rfl
           · show vV (n+1) d e thn _=_
             rw[vV,qB,if_pos (by decide)]
             rfl
     · show pS (n+1) d _=_
       rw[pS_word n (by omega) _ _ (by decide) (by decide),if_pos rfl]
   · obtain⟨rfl,rfl,h1,h3⟩:=formS_5 hf
     obtain⟨e,rfl⟩:=len1 h1
     obtain rfl:=x9 h3
     show Ev (fun n=>pS n d ((sg kH :: sg [40] :: (yg [e] 0++sg [41] :: sg [123] :: (kI thn++[sg [125]])))++rest)) _
     rw[qj,List.cons_append,List.cons_append,List.append_assoc,List.cons_append,List.cons_append,List.append_assoc]
     refine Ev.succ (Ev.congr (g:=fun n=>(pI n (sg [40] :: (kD e++sg [41] :: sg [123] :: (kI thn++([sg [125]]++rest))))).bind fun e r=>(pB n (d+1) r).bind fun t r=>.ok (.mk 5 0 bE [e] t []) r) ?_ fun n=>?_)
     · refine Ev.bind (pI_back (ex_one ha) (yx hNa) _) (Ev.bind (a:=thn) (r:=rest) ?_ (Ev.now fun n=>rfl))
       refine Ev.succ (Ev.congr (iT (d+1) [] _ (by omega) (by omega)) fun n=>?_)
       show pB (n+1) (d+1) _=_
       rw[pB,qW]
       rfl
     · show pS (n+1) d _=_
       rw[pS_word n (by omega) _ _ (by decide) (by decide),if_neg (by decide),if_pos rfl]
   · obtain⟨rfl,rfl,h1,h2,h3⟩:=formS_67 (.inl rfl) hf
     obtain rfl:=x9 h1
     obtain rfl:=x9 h2
     obtain rfl:=x9 h3
     refine Ev.succ (Ev.now fun n=>?_)
     show pS (n+1) d (sg xd :: sg [59] :: rest)=_
     rw[pS_word n (by omega) _ _ (by decide) (by decide),if_neg (by decide),if_neg (by decide),if_pos rfl,semi_ok]
   · obtain⟨rfl,rfl,h1,h2,h3⟩:=formS_67 (.inr rfl) hf
     obtain rfl:=x9 h1
     obtain rfl:=x9 h2
     obtain rfl:=x9 h3
     refine Ev.succ (Ev.now fun n=>?_)
     show pS (n+1) d (sg u6 :: sg [59] :: rest)=_
     rw[pS_word n (by omega) _ _ (by decide) (by decide),if_neg (by decide),if_neg (by decide),if_neg (by decide),if_pos rfl,semi_ok]
   · obtain⟨rfl,rfl,h1,h2,h3⟩:=formS_89 (.inl rfl) hf
     obtain⟨e,rfl⟩:=len1 h1
     obtain rfl:=x9 h2
     obtain rfl:=x9 h3
     show Ev (fun n=>pS n d ((sg sRet :: (yg [e] 0++[sg [59]]))++rest)) _
     rw[qj,List.cons_append,List.append_assoc]
     refine Ev.succ (Ev.congr (g:=fun n=>q9 ((pE n 1 1 (kD e++([sg [59]]++rest))).bind fun e r=>.ok (.mk 8 0 bE [e] [] []) r)) ?_ fun n=>?_)
     · exact yY (Ev.bind (vh (ex_one ha) (yx hNa) (low_se 1 rest)) (Ev.now fun n=>rfl))
     · show pS (n+1) d _=_
       rw[pS_word n (by omega) _ _ (by decide) (by decide),if_neg (by decide),if_neg (by decide),if_neg (by decide),if_neg (by decide),if_pos rfl]
   · obtain⟨rfl,rfl,h1,h2,h3⟩:=formS_89 (.inr rfl) hf
     obtain⟨e,rfl⟩:=len1 h1
     obtain rfl:=x9 h2
     obtain rfl:=x9 h3
     show Ev (fun n=>pS n d ((sg yN :: sg [40] :: (yg [e] 0++[sg [41],sg [59]]))++rest)) _
     rw[qj,List.cons_append,List.cons_append,List.append_assoc]
     refine Ev.succ (Ev.congr (g:=fun n=>q9 ((pI n (sg [40] :: (kD e++sg [41] :: sg [59] :: rest))).bind fun e r=>.ok (.mk 9 0 bE [e] [] []) r)) ?_ fun n=>?_)
     · exact yY (Ev.bind (pI_back (ex_one ha) (yx hNa) _) (Ev.now fun n=>rfl))
     · show pS (n+1) d _=_
       rw[pS_word n (by omega) _ _ (by decide) (by decide),if_neg (by decide),if_neg (by decide),if_neg (by decide),if_neg (by decide),if_neg (by decide),if_pos rfl]
       rfl
   · obtain⟨rfl,rfl,h1,h2,h3,hc⟩:=formS_10 hf
     obtain rfl:=x9 h2
     obtain rfl:=x9 h3
     obtain⟨nm,es,rfl,hes⟩:=call_form h1 hc ha
     have hNs:xg es=true:=by
      have:=yx hNa
      rw[uI,Bool.and_eq_true]at this
      exact this.2
     show Ev (fun n=>pS n d ((yg [.mk 7 0 0 nm es] 0++[sg [59]])++rest)) _
     rw[qj,call_K,List.cons_append,List.cons_append,List.cons_append,List.cons_append,List.append_assoc,List.append_assoc]
     refine Ev.succ (Ev.congr (g:=fun n=>q9 ((pA n 2 (qn (es.map kD)++([sg [41]]++([sg [59]]++rest)))).bind fun es r=>.ok (.mk 10 0 bE [.mk 7 0 0 nm es] [] []) r)) ?_ fun n=>?_)
     · exact yY (Ev.bind (pA_back es (pexs_all es) (100-1) hes hNs 2 _ (by decide) (by decide)) (Ev.now fun n=>rfl))
     · show pS (n+1) d _=_
       rw[pS_name n (by omega),pNm_set,if_pos rfl]
theorem sts_back:∀ (l:List St) (m:Nat),zj l m=true→xh l=true→∀ (d:Int) (acc:List St) (rest:List Tok),1≤d→d+m≤101→Ev (fun n=>yd n d acc (kI l++sg [125] :: rest)) (.ok (acc++l) rest)
 | [],m,h,hN,d,acc,rest,hd,hdm=>by
   rw[stsK_nil]
   refine Ev.succ (Ev.now fun n=>?_)
   show yd (n+1) d acc (sg [125] :: rest)=_
   rw[yd,qB,if_pos (by decide),List.append_nil]
   rfl
 | s :: r,m,h,hN,d,acc,rest,hd,hdm=>by
   rw[kR,Bool.and_eq_true]at h
   rw[vg,Bool.and_eq_true]at hN
   rw[stsK_cons,List.append_assoc]
   have hhd:=stK_hd s m h.1
   have hel:z9 yD (kI r++sg [125] :: rest)=false:=by
    cases r with
    | nil=>
      rw[stsK_nil]
      show z9 yD (sg [125] :: rest)=false
      rw[qB]
      decide
    | cons s2 r2=>
      have h2:=h.2
      rw[kR,Bool.and_eq_true]at h2
      obtain⟨t,q,he,_,h3⟩:=stK_hd s2 m h2.1
      rw[stsK_cons,he]
      show z9 yD (t :: _)=false
      rw[xW]at h3 ⊢
      exact h3
   refine Ev.succ (Ev.congr (g:=fun n=>(pS n d (stK s++(kI r++sg [125] :: rest))).bind fun s r=>yd n d (acc++[s]) r) ?_ fun n=>?_)
   · refine Ev.bind (st_back s m h.1 hN.1 d _ hd hdm hel) ?_
     have:=sts_back r m h.2 hN.2 d (acc++[s]) rest hd hdm
     rw[List.append_assoc]at this
     exact this
   · show yd (n+1) d acc _=_
     obtain⟨t,q,he,h3,_⟩:=hhd
     rw[he,List.cons_append,yd,if_neg]
     rw[xW]at h3 ⊢
     rw[h3]
     decide
end
def paK (x:Pa):List Tok:=[sg (tyT x.type),uH x.name]
def fuK (f:Fu):List Tok:=sg (tyT f.type) :: uH f.name :: sg [40] :: (qn (f.params.map paK)++sg [41] :: sg [123] :: (kI f.body++[sg [125]]))
def arK (a:Ar):List Tok:=[sg x8,uH a.name,sg [91],nuK a.size,sg [93],sg [59]]
def prK (p:Pr):List Tok:=(p.arrays.map arK).flatten++(p.funcs.map fuK).flatten
def prN (p:Pr):Bool:=p.funcs.all fun f=>xh f.body
theorem pPL_back:∀ (l:List Pa) (x:Pa) (acc:List Pa),(x :: l).all yM=true→∀ (rest:List Tok),Ev (fun n=>yr n acc (qn ((x :: l).map paK)++sg [41] :: rest)) (.ok (acc++x :: l) rest)
 | [],x,acc,h,rest=>by
   simp only[List.all_cons,List.all_nil,Bool.and_true,yM,Bool.and_eq_true]at h
   refine Ev.succ (Ev.now fun n=>?_)
   show yr (n+1) acc (sg (tyT x.type) :: uH x.name :: sg [41] :: rest)=_
   rw[yr,uv h.2]
   rw[jW,uJ,jW]
   rw[qB,if_neg (by decide),qW]
   rfl
 | y :: l,x,acc,h,rest=>by
   rw[List.all_cons,Bool.and_eq_true]at h
   have hx:=h.1
   simp only[yM,Bool.and_eq_true]at hx
   refine Ev.succ (Ev.congr (g:=fun n=>yr n (acc++[x]) (qn ((y :: l).map paK)++sg [41] :: rest)) ?_ fun n=>?_)
   · have:=pPL_back l y (acc++[x]) h.2 rest
     rw[List.append_assoc]at this
     exact this
   · show yr (n+1) acc (sg (tyT x.type) :: uH x.name :: sg [44] :: (qn ((y :: l).map paK)++sg [41] :: rest))=_
     rw[yr,uv hx.2]
     rw[jW,uJ,jW]
     rw[qB,if_pos (by decide)]
     rfl
theorem pPs_back (l:List Pa) (h:l.all yM=true) (rest:List Tok):Ev (fun n=>pPs n (sg [40] :: (qn (l.map paK)++sg [41] :: rest))) (.ok l rest):=by
 cases l with
 | nil=>
   refine Ev.now fun n=>?_
   show pPs n (sg [40] :: sg [41] :: rest)=_
   unfold pPs
   rw[qW,jW,qB,if_pos (by decide)]
   rfl
 | cons x l=>
   refine Ev.congr (pPL_back l x [] h rest) fun n=>?_
   unfold pPs
   rw[qW]
   have hx:yM x=true:=by rw[List.all_cons,Bool.and_eq_true]at h;exact h.1
   simp only[yM,Bool.and_eq_true]at hx
   have hh:z9 [41] (qn ((x :: l).map paK)++sg [41] :: rest)=false:=by
    have:∃ q,qn ((x :: l).map paK)++sg [41] :: rest=sg (tyT x.type) :: q:=by
     cases l with
     | nil=>exact⟨_,rfl⟩
     | cons y l=>exact⟨_,rfl⟩
    obtain⟨q,e⟩:=this
    rw[e,qB]
    rcases tyT_sg hx.2 with⟨_,e⟩ | ⟨_,e⟩ <;> rw[e] <;> decide
   rw[jW,hh,if_neg (by simp)]
theorem pFn_back (f:Fu) (h:xc f=true) (hN:xh f.body=true) (rest:List Tok):Ev (fun n=>uh n f.type f.name (sg [40] :: (qn (f.params.map paK)++sg [41] :: sg [123] :: (kI f.body++sg [125] :: rest)))) (.ok f rest):=by
 simp only[xc,Bool.and_eq_true,decide_eq_true_eq]at h
 refine Ev.congr (g:=fun n=>(pPs n (sg [40] :: (qn (f.params.map paK)++sg [41] :: sg [123] :: (kI f.body++sg [125] :: rest)))).bind fun ps r=>(pB n 1 r).bind fun b r=>.ok ⟨f.name,f.type,ps,b⟩ r) ?_ fun n=>rfl
 refine Ev.bind (pPs_back f.params h.1.2 _) (Ev.bind (a:=f.body) (r:=rest) ?_ (Ev.now fun n=>rfl))
 refine Ev.succ (Ev.congr (sts_back f.body 100 h.2 hN 1 [] rest (by decide) (by decide)) fun n=>?_)
 show pB (n+1) 1 _=_
 rw[pB,qW]
 rfl
theorem ty_not3 (t:List UInt8) (r:List Tok):¬ yQ (sg t :: r)=3:=by show ¬ (2 :Int)=3;decide
theorem pPr_funcs:∀ (l:List Fu) (p:Pr),l.all xc=true→(l.all fun f=>xh f.body)=true→∀ (e:Tok),e.kind=3→Ev (fun n=>jg n p ((l.map fuK).flatten++[e])) (.ok ⟨p.arrays,p.funcs++l⟩ [e])
 | [],p,h,hN,e,he=>by
   refine Ev.succ (Ev.now fun n=>?_)
   show jg (n+1) p [e]=_
   rw[jg,if_pos (show yQ [e]=3 from he),List.append_nil]
 | f :: l,p,h,hN,e,he=>by
   rw[List.all_cons,Bool.and_eq_true]at h hN
   have hf:=h.1
   simp only[xc,Bool.and_eq_true,decide_eq_true_eq]at hf
   have e1:((f :: l).map fuK).flatten++[e]=sg (tyT f.type) :: uH f.name :: sg [40] :: (qn (f.params.map paK)++sg [41] :: sg [123] :: (kI f.body++sg [125] :: ((l.map fuK).flatten++[e]))):=by
    show (fuK f++(l.map fuK).flatten)++[e]=_
    unfold fuK
    simp
   rw[e1]
   refine Ev.succ (Ev.congr (g:=fun n=>(uh n f.type f.name (sg [40] :: (qn (f.params.map paK)++sg [41] :: sg [123] :: (kI f.body++sg [125] :: ((l.map fuK).flatten++[e]))))).bind fun f r=>jg n ⟨p.arrays,p.funcs++[f]⟩ r) ?_ fun n=>?_)
   · refine Ev.bind (pFn_back f h.1 hN.1 _) ?_
     have:=pPr_funcs l ⟨p.arrays,p.funcs++[f]⟩ h.2 hN.2 e he
     simp only[List.append_assoc]at this
     exact this
   · show jg (n+1) p _=_
     rw[jg,if_neg (ty_not3 _ _),uv hf.1.1.1.2]
     rw[jW,uJ,jW]
     rw[if_neg (fun hc=>by have:=hc.2.2;rw[qB]at this;revert this;decide)]
theorem pPr_arrays:∀ (l:List Ar) (ar:List Ar) (fs:List Fu),l.all yc=true→fs.all xc=true→(fs.all fun f=>xh f.body)=true→∀ (e:Tok),e.kind=3→Ev (fun n=>jg n ⟨ar,[]⟩ ((l.map arK).flatten++((fs.map fuK).flatten++[e]))) (.ok ⟨ar++l,fs⟩ [e])
 | [],ar,fs,h,hf,hN,e,he=>by
   have:=pPr_funcs fs ⟨ar,[]⟩ hf hN e he
   rw[List.append_nil]
   exact this
 | a :: l,ar,fs,h,hf,hN,e,he=>by
   rw[List.all_cons,Bool.and_eq_true]at h
   have ha:=h.1
   simp only[yc,Bool.and_eq_true,decide_eq_true_eq]at ha
   refine Ev.succ (Ev.congr (g:=fun n=>jg n ⟨ar++[a],[]⟩ ((l.map arK).flatten++((fs.map fuK).flatten++[e]))) ?_ fun n=>?_)
   · have:=pPr_arrays l (ar++[a]) fs h.2 hf hN e he
     rw[List.append_assoc]at this
     exact this
   · show jg (n+1) ⟨ar,[]⟩ (sg x8 :: uH a.name :: sg [91] :: nuK a.size :: sg [93] :: sg [59] :: ((l.map arK).flatten++((fs.map fuK).flatten++[e])))=_
     have hty:yt (sg x8 :: uH a.name :: sg [91] :: nuK a.size :: sg [93] :: sg [59] :: ((l.map arK).flatten++((fs.map fuK).flatten++[e])))=.ok 1 (uH a.name :: sg [91] :: nuK a.size :: sg [93] :: sg [59] :: ((l.map arK).flatten++((fs.map fuK).flatten++[e]))):=uv (t:=1) (by decide) _
     rw[jg,if_neg (ty_not3 _ _),hty]
     rw[jW,uJ,jW]
     rw[if_pos ⟨rfl,rfl,by rw[qB];decide⟩]
     have hA:∀ r,vc a.name (nuK a.size :: sg [93] :: sg [59] :: r)=.ok a r:=fun r=>by
      unfold vc zy
      rw[if_pos (show yQ (nuK a.size :: sg [93] :: sg [59] :: r)=0 from rfl),jW]
      show (zI [93] (sg [93] :: sg [59] :: r)).bind _=_
      rw[qW,jW,qW,jW]
      show PR.ok (Ar.mk a.name (jH 0 (Lib.itoa a.size):Int)) r=_
      rw[digits_itoa a.size (by omega)]
     show (vc a.name (nuK a.size :: sg [93] :: sg [59] :: _)).bind _=_
     rw[hA]
     rfl
theorem prog_back (p:Pr) (h:prOK p=true) (hN:prN p=true) (e:Tok) (he:e.kind=3):Ev (fun n=>jg n ⟨[],[]⟩ (prK p++[e])) (.ok p [e]):=by
 simp only[prOK,Bool.and_eq_true]at h
 have:=pPr_arrays p.arrays [] p.funcs h.1 h.2 hN e he
 unfold prK
 rw[List.append_assoc]
 exact this
end Go.Proofs.YtndgkfkieogplaaDoor
