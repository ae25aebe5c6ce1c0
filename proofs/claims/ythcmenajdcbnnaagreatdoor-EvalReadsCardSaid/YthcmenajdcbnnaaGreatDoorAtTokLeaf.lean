import Derived.Test.YthcmenajdcbnnaaGreatDoorAtTokMath
import Derived.Test.YthcmenajdcbnnaaGreatDoorShelf
import Derived.WalkSpells
import Derived.WalkLawsBesides
import Derived.Lib.Walk
import Derived.Deep.Light
import Derived.Lib.SmallJoins
set_option linter.unusedSimpArgs false
set_option linter.unusedVariables false
set_option maxRecDepth 100000
/- The contracts of the small functions of the layer token and of the document's answer: letters, digits, words, names, spans. -/
namespace Go.Proofs.YthcmenajdcbnnaaGreatDoor
open Lib (hid)
open Go.RowKit
theorem O8{p:Prop}(h:p:=by
 clear a b;go_enter Tryz.func106,Tryz.ntmps106;go_wp2;go_ret;exact⟨rfl,rfl⟩):p:=h
theorem O9{p:Prop}(h:p:=by
 clear a b;go_enter Tryz.func50,Tryz.ntmps50;go_wp2;go_ret;exact⟨rfl,rfl⟩):p:=h
theorem jY{k:IntKind}{a b:Int}(c:a=b):Ending.returned (.int k a)=.returned (.int k b):=by rw[c]
theorem zC{a b:Bool}(c:a=b):Ending.returned (.bool a)=.returned (.bool b):=by rw[c]
theorem letter_any(c:Int)(w:World):Calls Tryz.prog 151 #[.int .i32 c] w fun e w'=>e=.returned (.bool (vI c))/\w=w':=by
 go_enter Tryz.func151,Tryz.ntmps151;go_wp2
 all_goals go_ret
 all_goals refine⟨zC ?_,rfl⟩
 all_goals go_light
 all_goals(unfold vI;rw[Bool.eq_iff_iff];simp;omega)
theorem rletter_any(c:Int)(w:World):Calls Tryz.prog 47 #[.int .u8 c] w fun e w'=>e=.returned (.bool (vI c))/\w=w':=by
 go_enter Tryz.func47,Tryz.ntmps47;go_wp2
 all_goals go_ret
 all_goals refine⟨zC ?_,rfl⟩
 all_goals go_light
 all_goals(unfold vI;rw[Bool.eq_iff_iff];simp;omega)
theorem digit_any(c:Int)(w:World):Calls Tryz.prog 129 #[.int .i32 c] w fun e w'=>e=.returned (.bool (ua c))/\w=w':=by
 go_enter Tryz.func129,Tryz.ntmps129;go_wp2
 all_goals go_ret
 all_goals refine⟨zC ?_,rfl⟩
 all_goals go_light
 all_goals(unfold ua;rw[Bool.eq_iff_iff];simp;omega)
theorem rdigit_any(c:Int)(w:World):Calls Tryz.prog 48 #[.int .u8 c] w fun e w'=>e=.returned (.bool (ua c))/\w=w':=by
 go_enter Tryz.func48,Tryz.ntmps48;go_wp2
 all_goals go_ret
 all_goals refine⟨zC ?_,rfl⟩
 all_goals go_light
 all_goals(unfold ua;rw[Bool.eq_iff_iff];simp;omega)
theorem word_any(s:ByteArray)(w:World):Calls Tryz.prog 131 #[.string s] w fun e w'=>e=.returned (.bool (xC s.data.toList))/\w=w':=by
 rw[<-Lib.toList_data];go_enter Tryz.func131,Tryz.ntmps131;go_wp2
 all_goals go_ret
 all_goals refine⟨zC ?_,rfl⟩
 all_goals go_light
 all_goals simp_all [xC,words]
theorem rword_any(s:ByteArray)(w:World):Calls Tryz.prog 49 #[.string s] w fun e w'=>e=.returned (.bool (xC s.data.toList))/\w=w':=by
 rw[<-Lib.toList_data];go_enter Tryz.func49,Tryz.ntmps49;go_wp2
 all_goals go_ret
 all_goals refine⟨zC ?_,rfl⟩
 all_goals go_light
 all_goals simp_all [xC,words]
theorem below_iter{B:Nat}{a w:World}(b:Below B a w)(c:B<=w.heap.size)(s:ByteArray)(pos:Nat):Below B a (w.iter s pos):=b.alloc c _
theorem yo(s:ByteArray)(pos:Nat)(a:pos<s.size):s.data.toList[pos]? =some s[pos]:=by
 rw[Array.getElem?_toList];exact Array.getElem?_eq_getElem a
theorem all_step{s:ByteArray}{pos:Nat}(g:pos<s.size)(c:∀(j:Nat) b,j<pos->s.data.toList[j]? =some b->qO b=true)(d:qO s[pos]=true):
 ∀(j:Nat) b,j<pos+1->s.data.toList[j]? =some b->qO b=true:=by
 intro j b h a;by_cases e:j=pos
 .subst e
  rw[yo s j g]at a;injection a with a;exact a ▸ d
 .exact c j b I7 a
theorem span_done{s:ByteArray}{pos:Nat}(d:pos<=s.size)(e:∀(j:Nat) b,j<pos->s.data.toList[j]? =some b->qO b=true)(g:∀d:pos<s.size,qO s[pos]=false):
 kU s.data.toList=pos:=
 span_len qO _ pos d e (fun b a=>by
  have c:pos<s.size:=(List.getElem?_eq_some_iff.1 a).1;rw[yo s pos c]at a;injection a with a
  exact a ▸ g c)
theorem span_any(s:ByteArray)(w:World):Calls Tryz.prog 130 #[.string s] w fun e w'=>e=.returned (.int .i64 (kU s.data.toList))/\Below w.heap.size w w':=by
 have x:s.data.toList.length=s.size:=rfl;go_enter Tryz.func130,Tryz.ntmps130;go_wp2
 go_loopw [3] (fun _ w'=>∃pos:Nat,w'=w.iter s pos/\pos<=s.size/\∀(j:Nat) b,j<pos->s.data.toList[j]? =some b->qO b=true) (fun _ w'=>s.size-w'.iterPos w.heap.size)
 case atStart=>exact⟨0,rfl,Nat.zero_le _,fun j b r=>absurd r I7⟩
 case round=>
  obtain⟨pos,rfl,o,k⟩:=hrel;have g:=hid k;clear k;by_cases a:pos<s.size
  .have l:∀d,(Instr.next (.pointer (some ⟨w.heap.size,0,none⟩)) true d).run Tryz.prog (w.iter s pos)=_:=fun d=>run_next_any w s pos d a
   by_cases c:qO s[pos]=true
   .have i:=isAln_low _ c
    rw[decode_ascii s pos a i]at l
    have m:vI (s[pos].toNat:Int)=true\/ua (s[pos].toNat:Int)=true:=by
     rw[zAe,zAf];simpa[qO]using c
    have p:=hid m;have h:=hid c;clear m c;go_wp2_with (first|(go_at_call 151;(with_reducible refine(letter_any _ _).mono ?_);rintro e w' ⟨rfl,rfl⟩)|(go_at_call 129;(with_reducible refine(digit_any _ _).mono ?_);rintro e w' ⟨rfl,rfl⟩))
    all_goals first
     | (go_roundw
        case rel=>exact⟨pos+1,rfl,a,all_step a g.out h.out⟩
        case measure=>simp;omega)
     | (exfalso;have:=p.out;simp_all;done)
   .have h:=hid c
    have t:vI ((Utf8.decode s pos).1 :Int)=false/\ua ((Utf8.decode s pos).1 :Int)=false:=by
     by_cases i:s[pos].toNat<128
     .rw[decode_ascii s pos a i]
      show vI (s[pos].toNat:Int)=false/\ua (s[pos].toNat:Int)=false;rw[zAe,zAf];simpa[qO]using c
     .have:=(decode_high s pos a I7).1
      exact⟨letZ_high _ I7,digZ_high _ I7⟩
    obtain⟨u,v⟩:=t;clear c;go_wp2_with (first|(go_at_call 151;(with_reducible refine(letter_any _ _).mono ?_);rintro e w' ⟨rfl,rfl⟩)|(go_at_call 129;(with_reducible refine(digit_any _ _).mono ?_);rintro e w' ⟨rfl,rfl⟩));go_ret;refine⟨jY ?_,below_iter Zb Zr _ _⟩;rw[span_done o g.out (fun _=>by simpa using h.out)]
  .have l:∀d,(Instr.next (.pointer (some ⟨w.heap.size,0,none⟩)) true d).run Tryz.prog (w.iter s pos)=_:=fun d=>run_next_end w s pos d a
   go_wp2;go_ret;refine⟨jY ?_,below_iter Zb Zr _ _⟩;have e:pos=s.size:=I7
   subst e;rw[span_done o g.out (fun q=>absurd q a)]
theorem head_eq(s:ByteArray)(b:0<s.size):s.data.toList.headD 0=s[0]:=by
 have:=yo s 0 b;cases hl:s.data.toList with
 | nil=>rw[hl]at this;cases this
 | cons a t=>rw[hl]at this;simpa using this
theorem xj(s:ByteArray)(a:s.size=0):s.data.toList=[]:=List.eq_nil_of_length_eq_zero a
theorem jS(s:ByteArray)(a:0<s.size):s.data.toList≠[]:=fun e=>by have:s.data.toList.length=s.size:=rfl;rw[e]at this;simp at this;omega
theorem name_nil(s:ByteArray)(w:World)(b:s.size=0):Calls Tryz.prog 106 #[.string s] w fun e w'=>e=.returned (.bool false)/\w=w':=by
 have a:=xj s b;have c:s.toList.isEmpty=true:=by rw[Lib.toList_data,a];rfl
 have d:s.toList=[]:=by rw[Lib.toList_data,a]
 exact O8
theorem name_long(s:ByteArray)(w:World)(b:20<s.size):Calls Tryz.prog 106 #[.string s] w fun e w'=>e=.returned (.bool false)/\w=w':=by
 have a:=jS s I7;have d:s.toList.isEmpty=false:=Uo
 have c:decide ((20 :Int)<s.size)=true:=I9
 exact O8
theorem digit_is(c:Int)(b:Bool)(a:ua c=b)(w:World):Calls Tryz.prog 129 #[.int .i32 c] w fun e w'=>e=.returned (.bool b)/\w=w':=a ▸ digit_any c w
theorem span_is(s:ByteArray)(n:Nat)(a:kU s.data.toList=n)(w:World):Calls Tryz.prog 130 #[.string s] w fun e w'=>e=.returned (.int .i64 n)/\Below w.heap.size w w':=a ▸ span_any s w
theorem word_is(s:ByteArray)(b:Bool)(a:xC s.data.toList=b)(w:World):Calls Tryz.prog 131 #[.string s] w fun e w'=>e=.returned (.bool b)/\w=w':=a ▸ word_any s w
theorem name_short(s:ByteArray)(w:World)(m:0<s.size)(o:s.size<=20)(a:Bool)(n:Nat)(b:Bool)(c:ua (wrap32 (s[0].toNat:Int))=a)(d:kU s.data.toList=n)(g:xC s.data.toList=b):
 Calls Tryz.prog 106 #[.string s] w fun e w'=>e=.returned (.bool ((!a) && decide (n=s.size) && !b))/\Below w.heap.size w w':=by
 have h:=jS s m;have q:s.toList.isEmpty=false:=Up
 have p:decide ((20 :Int)<s.size)=false:=I9
 have i:=hid c;have j:=hid d;have k:=hid g;clear h c d g;cases a
 all_goals
  go_enter Tryz.func106,Tryz.ntmps106;go_wp2_with (first|(go_at_call 129;(with_reducible refine(digit_is _ _ i.out _).mono ?_);rintro e w' ⟨rfl,rfl⟩)|(go_at_call 130;(with_reducible refine(span_is _ _ j.out _).mono ?_);rintro e r ⟨rfl,l⟩)|(go_at_call 131;(with_reducible refine(word_is _ _ k.out _).mono ?_);rintro e w' ⟨rfl,rfl⟩))
 all_goals go_ret
 all_goals first
  | (refine⟨zC ?_,l⟩;simp;intros;omega)
  | (refine⟨zC ?_,Below.refl _ _⟩;simp;done)
theorem name_any(s:ByteArray)(w:World):Calls Tryz.prog 106 #[.string s] w fun e w'=>e=.returned (.bool (kQ s.data.toList))/\Below w.heap.size w w':=by
 have g:s.data.toList.length=s.size:=rfl;by_cases c:s.size=0
 .rw[xj s c,nameB_nil]
  exact(name_nil s w c).mono fun e w' ⟨a,k⟩=>⟨a,k ▸ Below.refl _ _⟩
 by_cases d:20<s.size
 .rw[nameB_long _ I7]
  exact(name_long s w d).mono fun e w' ⟨a,k⟩=>⟨a,k ▸ Below.refl _ _⟩
 .have b:0<s.size:=by omega
  rw[nameB_eq _ (jS s b) I7,head_eq s b,<-zAf];refine name_short s w b I7 _ _ _ ?_ rfl rfl;rw[IntWalk.wrap32_in _ (by have:=s[0].toNat_lt;omega)]
theorem xk{B:Nat}{a w:World}(b:Below B a w)(n:Nat):Below B a (w.drewN n):=⟨b.os,b.tape,b.output,b.size,b.block⟩
theorem name_is(s:ByteArray)(b:Bool)(a:kQ s.data.toList=b)(w:World):Calls Tryz.prog 106 #[.string s] w fun e w'=>e=.returned (.bool b)/\Below w.heap.size w w':=a ▸ name_any s w
section
variable {P:Program}
end
theorem qq(c:Int)(b:Bool)(a:vI c=b)(w:World):Calls Tryz.prog 47 #[.int .u8 c] w fun e w'=>e=.returned (.bool b)/\w=w':=a ▸ rletter_any c w
theorem rdigit_is(c:Int)(b:Bool)(a:ua c=b)(w:World):Calls Tryz.prog 48 #[.int .u8 c] w fun e w'=>e=.returned (.bool b)/\w=w':=a ▸ rdigit_any c w
theorem kb(s:ByteArray)(b:Bool)(a:xC s.data.toList=b)(w:World):Calls Tryz.prog 49 #[.string s] w fun e w'=>e=.returned (.bool b)/\w=w':=a ▸ rword_any s w
theorem all_alls{p:UInt8->Bool}{s:ByteArray}(c:∀(j:Nat) b,j<s.size->s.data.toList[j]? =some b->p b=true):s.data.toList.all p=true:=
 List.all_eq_true.2 fun b d=>by
  obtain⟨j,a⟩:=List.mem_iff_getElem?.1 d;exact c j b (by have:=(List.getElem?_eq_some_iff.1 a).1;rwa [<-Lib.size_eq]at this) a
theorem all_none{p:UInt8->Bool}{s:ByteArray}{k:Nat}(c:k<s.size)(a:p s[k]=false):s.data.toList.all p=false:=by
 rw[Bool.eq_false_iff];intro b;rw[List.all_eq_true.1 b s[k] (List.mem_iff_getElem?.2 ⟨k,yo s k c⟩)]at a;cases a
theorem all_step'{p:UInt8->Bool}{s:ByteArray}{pos:Nat}(g:pos<s.size)(c:∀(j:Nat) b,j<pos->s.data.toList[j]? =some b->p b=true)(d:p s[pos]=true):
 ∀(j:Nat) b,j<pos+1->s.data.toList[j]? =some b->p b=true:=by
 intro j b h a;by_cases e:j=pos
 .subst e
  rw[yo s j g]at a;injection a with a;exact a ▸ d
 .exact c j b I7 a
theorem rname_nil(s:ByteArray)(w:World)(b:s.size=0):Calls Tryz.prog 50 #[.string s] w fun e w'=>e=.returned (.bool false)/\w=w':=by
 have a:=xj s b;have c:s.toList.isEmpty=true:=by rw[Lib.toList_data,a];rfl
 have d:s.toList=[]:=by rw[Lib.toList_data,a]
 exact O9
theorem rname_long(s:ByteArray)(w:World)(b:20<s.size):Calls Tryz.prog 50 #[.string s] w fun e w'=>e=.returned (.bool false)/\w=w':=by
 have a:=jS s I7;have d:s.toList.isEmpty=false:=Uo
 have c:decide ((20 :Int)<s.size)=true:=I9
 exact O9
theorem rname_head(s:ByteArray)(w:World)(k:0<s.size)(l:s.size<=20)(a b:Bool)(c:vI (s[0].toNat:Int)=a)(d:xC s.data.toList=b)(j:a=false\/b=true):
 Calls Tryz.prog 50 #[.string s] w fun e w'=>e=.returned (.bool false)/\w=w':=by
 have g:=jS s k;have o:s.toList.isEmpty=false:=by rw[Lib.toList_data];simpa using g
 have m:decide ((20 :Int)<s.size)=false:=I9
 have h:=hid c;have i:=hid d;clear g c d;cases a <;> cases b <;> simp at j
 all_goals
  go_enter Tryz.func50,Tryz.ntmps50;go_wp2_with (first|(go_at_call 47;(with_reducible refine(qq _ _ h.out _).mono ?_);rintro e w' ⟨rfl,rfl⟩)|(go_at_call 49;(with_reducible refine(kb _ _ i.out _).mono ?_);rintro e w' ⟨rfl,rfl⟩));go_ret;exact⟨rfl,rfl⟩
theorem rname_loop(s:ByteArray)(w:World)(B:0<s.size)(C:s.size<=20)(o:vI (s[0].toNat:Int)=true)(p:xC s.data.toList=false)(b:Bool)(r:s.data.toList.all qO=b):
 Calls Tryz.prog 50 #[.string s] w fun e w'=>e=.returned (.bool b)/\w=w':=by
 have u:=jS s B;have E:s.toList.isEmpty=false:=by rw[Lib.toList_data];simpa using u
 have D:decide ((20 :Int)<s.size)=false:=I9
 have v:=hid o;have x:=hid p;have g:=hid r;clear u o p r;go_enter Tryz.func50,Tryz.ntmps50;go_wp2_with (first|(go_at_call 47;(with_reducible refine(qq _ _ v.out _).mono ?_);rintro e w' ⟨rfl,rfl⟩)|(go_at_call 49;(with_reducible refine(kb _ _ x.out _).mono ?_);rintro e w' ⟨rfl,rfl⟩))
 go_loop [3] (fun i=>∃k:Nat,k<=s.size/\i=.int .i64 k/\∀(j:Nat) b,j<k->s.data.toList[j]? =some b->qO b=true) (fun i=>s.size-(intOf i).toNat)
 case atStart=>exact⟨0,Nat.zero_le _,rfl,fun j b A=>absurd A I7⟩
 case round=>
  obtain⟨k,F,rfl,q⟩:=hrel;have d:=hid q;clear q;by_cases t:k<s.size
  .obtain⟨l,a⟩:∃b,vI (s[k].toNat:Int)=b:=⟨_,rfl⟩
   obtain⟨m,c⟩:∃b,ua (s[k].toNat:Int)=b:=⟨_,rfl⟩
   have h:Hid (qO s[k]=(l || m)):=by unfold Hid qO;rw[<-a,<-c,zAe,zAf]
   have y:=hid a;have z:=hid c;clear a c;cases l <;> cases m
   all_goals
    go_wp2_with (first|(go_at_call 47;(with_reducible refine(qq _ _ y.out _).mono ?_);rintro e w' ⟨rfl,rfl⟩)|(go_at_call 48;(with_reducible refine(rdigit_is _ _ z.out _).mono ?_);rintro e w' ⟨rfl,rfl⟩))
   .go_ret
    exact⟨zC ((all_none t h.out).symm.trans g.out),rfl⟩
   all_goals
    go_round
    case rel=>exact⟨k+1,I7,by go_num,all_step' t d.out h.out⟩
    case measure=>simp[intOf];omega
  .have e:k=s.size:=by omega
   subst e;go_wp2;go_ret;exact⟨zC ((all_alls d.out).symm.trans g.out),rfl⟩
theorem rname_any(s:ByteArray)(w:World):Calls Tryz.prog 50 #[.string s] w fun e w'=>e=.returned (.bool (kQ s.data.toList))/\w=w':=by
 by_cases c:s.size=0
 .rw[xj s c,nameB_nil]
  exact rname_nil s w c
 by_cases d:20<s.size
 .rw[nameB_long _ (by rw[<-Lib.size_eq];exact d)]
  exact rname_long s w d
 .have a:0<s.size:=by omega
  have i:kQ s.data.toList=(vI (s[0].toNat:Int) && s.data.toList.all qO && !xC s.data.toList):=by
   unfold kQ;rw[head_eq s a,<-zAe];have g:s.data.toList.isEmpty=false:=by simpa using jS s a
   have h:s.data.toList.length<=20:=by rw[<-Lib.size_eq];omega
   rw[g,decide_eq_true h];rfl
  rw[i];cases h1:vI (s[0].toNat:Int)with
  | false=>exact rname_head s w a I7 _ _ h1 rfl (.inl rfl)
  | true=>
    cases h2:xC s.data.toList with
    | true=>exact(rname_head s w a I7 _ _ h1 h2 (.inr rfl)).mono fun e w' ⟨b,k⟩=>⟨by simp[b],k⟩
    | false=>exact(rname_loop s w a I7 h1 h2 _ rfl).mono fun e w' ⟨b,k⟩=>⟨by simp[b],k⟩
theorem rname_is(s:ByteArray)(b:Bool)(a:kQ s.data.toList=b)(w:World):Calls Tryz.prog 50 #[.string s] w fun e w'=>e=.returned (.bool b)/\w=w':=a ▸ rname_any s w
theorem zAk{s:ByteArray}{k:Nat}(a:k<s.size):s.data.toList.take (k+1)=s.data.toList.take k++[s[k]]:=by
 rw[List.take_add_one,yo s k a];rfl
theorem decV_take_le(l:List UInt8)(k:Nat):jj 0 (l.take k)<=jj 0 l:=by
 have e:jj 0 l=jj (jj 0 (l.take k)) (l.drop k):=by rw[<-decV_app,List.take_append_drop]
 rw[e];exact decV_ge _ _
theorem vh(s:ByteArray)(k:Nat)(a:k<s.size)(c:Int)(b:(s[k].toNat:Int)=c)(w:World):(Instr.index 9 (.string s) (.int .i64 k)).run Tryz.prog w=.ok (.int .u8 c) w:=by
 subst b;have d:(0 :Int)<=(k:Int):=I7
 simp[Instr.index,run_underlying Tryz.underlying9,asIntOf,go_sem,a]
theorem byte_index0(s:ByteArray)(a:0<s.size)(c:Int)(b:(s[0].toNat:Int)=c)(w:World):(Instr.index 9 (.string s) (.int .i64 0)).run Tryz.prog w=.ok (.int .u8 c) w:=vh s 0 a c b w
def ValPost(l:List UInt8)(w:World)(e:Ending)(w':World):Prop:=∃r,e=.returned (.int .i64 r)/\decide (0<=r)=kT l/\w=w'
theorem dig_at{s:ByteArray}{k:Nat}(a:k<s.size)(b:s.data.toList.all jv=true):48<=s[k].toNat/\s[k].toNat<=57:=by
 have:=List.all_eq_true.1 b s[k] (List.mem_iff_getElem?.2 ⟨k,yo s k a⟩);simpa[jv]using this
theorem numB_over(s:ByteArray)(k m:Nat)(a:k<s.size)(e:m=jj 0 (s.data.toList.take k))(c:Int)(h:(s[k].toNat:Int)=c)(g:48<=c)(i:(9223372036854775807-(c-48)) / 10<(m:Int)):kT s.data.toList=false:=by
 have b:=decV_take_le s.data.toList (k+1);rw[zAk a,zAd,<-e]at b;have d:¬jj 0 s.data.toList<9223372036854775808:=I7
 unfold kT;rw[decide_eq_false d,Bool.and_false]
theorem numB_one(s:ByteArray)(d:0<s.size)(g:s.data.toList.all jv=true)(i:jj 0 s.data.toList<9223372036854775808):kT s.data.toList=(decide (s.size=1) || decide (s[0].toNat≠48)):=by
 unfold kT;have c:s.data.toList.isEmpty=false:=by simpa using jS s d
 rw[g,decide_eq_true i,c];have h:=head_eq s d;have j:s.size=s.data.toList.length:=rfl;rw[<-h,j];generalize s.data.toList=l at *;cases l with
 | nil=>simp at c
 | cons a t=>
   simp only[List.headD_cons,List.length_cons];rw[Bool.eq_iff_iff];cases t with
   | nil=>
     simp;by_cases e:a=48
     .exact .inl e
     .exact .inr e
   | cons b r=>
     simp[<-UInt8.toNat_inj];exact decide_eq_true_iff.symm
theorem rvalue_any(s:ByteArray)(w:World)(h:0<s.size)(G:s.size<=281474976710656)(p:s.data.toList.all jv=true):
 Calls Tryz.prog 57 #[.string s] w (ValPost s.data.toList w):=by
 have r:=jS s h;have E:s.toList.isEmpty=false:=by rw[Lib.toList_data];simpa using r
 have l:=hid p;clear r p;go_enter Tryz.func57,Tryz.ntmps57;go_wp2
 go_loop [3,4,5] (fun n i _=>∃(k m:Nat),k<=s.size/\i=.int .i64 k/\n=.int .i64 m/\m=jj 0 (s.data.toList.take k)/\m<9223372036854775808) (fun _ i _=>s.size-(intOf i).toNat)
 case atStart=>exact⟨0,0,Nat.zero_le _,rfl,rfl,by rw[List.take_zero,uY],I7⟩
 case round=>
  obtain⟨k,m,F,rfl,rfl,q,v⟩:=hrel;have d:=hid q;clear q;by_cases b:k<s.size
  .obtain⟨c,a⟩:∃c:Int,(s[k].toNat:Int)=c:=⟨_,rfl⟩
   have y:=vh s k b c a;have j:=hid a;have x:=dig_at b l.out;have u:48<=c:=I7
   have D:c<=57:=I7
   clear a x;by_cases A:(9223372036854775807-(c-48)) / 10<(m:Int)
   .go_wp2
    go_ret;exact⟨-1,rfl,by rw[numB_over s k m b d.out c j.out u A];rfl,rfl⟩
   .go_wp2
    have B:=j.out;have z:((m*10+(s[k].toNat-48):Nat):Int)=(m:Int)*10+(c-48):=I7
    go_round
    case rel=>exact⟨k+1,m*10+(s[k].toNat-48),I7,by go_num,by rw[z],by rw[zAk b,zAd,<-d.out],I7⟩
    case measure=>simp[intOf];omega
  .have e:k=s.size:=by omega
   subst e
   have t:Hid (m=jj 0 s.data.toList):=by
    unfold Hid;rw[d.out,List.take_of_length_le Uj]
   obtain⟨c,a⟩:∃c:Int,(s[0].toNat:Int)=c:=⟨_,rfl⟩
   have y:=byte_index0 s h c a
   have g:Hid (kT s.data.toList=(decide (s.size=1) || decide (c≠48))):=by
    unfold Hid;rw[numB_one s h l.out (by rw[<-t.out];exact v)];congr 1;rw[Bool.eq_iff_iff];simp;omega
   clear a;by_cases C:1<s.size
   .by_cases o:c=48
    .subst o
     go_wp2;go_ret;refine⟨-1,rfl,?_,rfl⟩;rw[g.out,decide_eq_false (show ¬s.size=1 by omega)];rfl
    .go_wp2
     go_ret;refine⟨m,rfl,?_,rfl⟩;rw[g.out,decide_eq_true o,Bool.or_true];simp
   .go_wp2
    go_ret;refine⟨m,rfl,?_,rfl⟩;rw[g.out,decide_eq_true (show s.size=1 by omega),Bool.true_or];simp
theorem numB_digits{s:ByteArray}(a:s.data.toList.all jv=false):kT s.data.toList=false:=by
 unfold kT;rw[a];simp
theorem rnumber_all(s:ByteArray)(w:World)(x:0<s.size)(y:s.size<=281474976710656)(b:Bool)(m:kT s.data.toList=b):
 Calls Tryz.prog 51 #[.string s] w fun e w'=>e=.returned (.bool b)/\w=w':=by
 have d:=hid m;clear m;go_enter Tryz.func51,Tryz.ntmps51;go_wp2
 go_loop [3] (fun i=>∃k:Nat,k<=s.size/\i=.int .i64 k/\∀(j:Nat) b,j<k->s.data.toList[j]? =some b->jv b=true) (fun i=>s.size-(intOf i).toNat)
 case atStart=>exact⟨0,Nat.zero_le _,rfl,fun j b v=>absurd v I7⟩
 case round=>
  obtain⟨k,z,rfl,l⟩:=hrel;have c:=hid l;clear l;by_cases o:k<s.size
  .obtain⟨h,a⟩:∃b,ua (s[k].toNat:Int)=b:=⟨_,rfl⟩
   have g:Hid (jv s[k]=h):=by unfold Hid;rw[<-a,zAf]
   have q:=hid a;clear a;cases h
   all_goals
    go_wp2_with (go_at_call 48;(with_reducible refine(rdigit_is _ _ q.out _).mono ?_);rintro e w' ⟨rfl,rfl⟩)
   .go_ret
    exact⟨zC ((numB_digits (all_none o g.out)).symm.trans d.out),rfl⟩
   .go_round
    case rel=>exact⟨k+1,I7,by go_num,all_step' o c.out g.out⟩
    case measure=>simp[intOf];omega
  .have e:k=s.size:=by omega
   subst e;have t:=hid (all_alls c.out);go_wp2_with (go_at_call 57;(with_reducible refine(rvalue_any _ _ x y t.out).mono ?_);rintro e w' ⟨r,rfl,p,rfl⟩;have u:=hid p;clear p);go_ret;exact⟨zC (u.out.trans d.out),rfl⟩
end Go.Proofs.YthcmenajdcbnnaaGreatDoor
