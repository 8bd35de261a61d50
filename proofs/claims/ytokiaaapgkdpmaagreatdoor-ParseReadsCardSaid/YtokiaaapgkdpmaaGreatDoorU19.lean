/- Parts: PaT, PrM. Conditions: each theorem's own. -/
import Derived.Test.YtokiaaapgkdpmaaGreatDoorU12
namespace Go.Proofs.YtokiaaapgkdpmaaGreatDoor
set_option linter.unusedVariables false
set_option linter.unusedSimpArgs false
set_option maxRecDepth 100000
set_option maxHeartbeats 40000000
section
open Go.RowKit Go.Sort
section
variable {w:World}{b:Nat}{A:Option Addr}{n c:Nat}{all r:List Tk}{bad:Bool}{m:Nat}
theorem pp_any{α:Type}{F:Nat}{args:Array Value}{g:PR α}{V:α→World→Ending→Prop}{X:Ending→Prop}(H:Calls Tryz.prog F args w (PPost w b A n c all (startP bad r g) V X)):
 Calls Tryz.prog F args w fun e w'=>∃ bd r1,PSt w' b A n c all r1 bd∧Below w.heap.size (bl b w) (bl b w')∧(bd=false∧bad=false∧(∃ a,g=.ok a r1∧V a w' e)∨bd=true∧startP bad r g=.bad r1∧X e):=
 H.mono fun e w' k=>by
  cases hg:startP bad r g with
  | ok u r1=>
   rw[hg] at k;obtain⟨k1,k2,k3⟩:=k
   have hb:bad=false:=by cases bad with
    | true=>cases hg
    | false=>rfl
   subst hb;exact⟨false,r1,k2,k1,.inl ⟨rfl,rfl,u,hg,k3⟩⟩
  | bad r1=>
   rw[hg] at k;obtain⟨k1,k2,k3⟩:=k;exact⟨true,r1,k2,k1,.inr ⟨rfl,rfl,k3⟩⟩
theorem st_any{α β:Type}{r0 r1:List Tk}{b0 bd:Bool}{g0:PR β}{x:PR α}{cont:α→List Tk→PR β}{Y:α→Prop}(h:b0=false∧g0=x.bind cont∨b0=true∧g0=.bad r0)
 (k:bd=false∧b0=false∧(∃ a,x=.ok a r1∧Y a)∨bd=true∧startP b0 r0 x=.bad r1):bd=false∧(∃ a,Y a∧g0=cont a r1)∨bd=true∧g0=.bad r1:=by
 rcases k with⟨rfl,rfl,a,rfl,hy⟩|⟨rfl,k⟩
 · obtain⟨_,h1⟩:=h.resolve_right (by rintro ⟨h,_⟩;cases h);exact .inl ⟨rfl,a,hy,h1⟩
 · refine .inr ⟨rfl,?_⟩;rcases h with⟨rfl,h1⟩|⟨rfl,h1⟩
   · have k2:x=.bad r1:=k;rw[h1,k2];rfl
   · have k2:(PR.bad r0:PR α)=.bad r1:=k;injection k2 with k2;rw[h1,k2]
theorem nameAny_(h:PSt w b A n c all r bad):Calls Tryz.prog 62 #[.pointer (some ⟨b,0,none⟩)] w fun e w' =>
 ∃ s bd r1,e=.returned (.string s)∧PSt w' b A n c all r1 bd∧Below w.heap.size (bl b w) (bl b w')∧(bd=false∧bad=false∧(∃ a,nameP r=.ok a r1∧s=ofB a)∨bd=true∧startP bad r (nameP r)=.bad r1):=
 (pp_any (prName h)).mono fun e w' ⟨bd,r1,k1,k2,k3⟩=>by
  rcases k3 with⟨h1,h2,a,h3,h4⟩|⟨h1,h2,s,h3⟩
  · exact⟨_,bd,r1,h4,k1,k2,.inl ⟨h1,h2,a,h3,rfl⟩⟩
  · exact⟨s,bd,r1,h3,k1,k2,.inr ⟨h1,h2⟩⟩
theorem armAny_(h:PSt w b A n c all r bad):Calls Tryz.prog 64 #[.pointer (some ⟨b,0,none⟩)] w fun e w' =>
 ∃ s bd r1,e=.returned (.string s)∧PSt w' b A n c all r1 bd∧Below w.heap.size (bl b w) (bl b w')∧(bd=false∧bad=false∧(∃ a,armP r=.ok a r1∧s=ofB a)∨bd=true∧startP bad r (armP r)=.bad r1):=
 (pp_any (prArm h)).mono fun e w' ⟨bd,r1,k1,k2,k3⟩=>by
  rcases k3 with⟨h1,h2,a,h3,h4⟩|⟨h1,h2,s,h3⟩
  · exact⟨_,bd,r1,h4,k1,k2,.inl ⟨h1,h2,a,h3,rfl⟩⟩
  · exact⟨s,bd,r1,h3,k1,k2,.inr ⟨h1,h2⟩⟩
theorem needAny_(s:ByteArray)(h:PSt w b A n c all r bad):Calls Tryz.prog 65 #[.pointer (some ⟨b,0,none⟩),.string s] w fun e w' =>
 e=.returned (.tuple #[])∧∃ bd r1,PSt w' b A n c all r1 bd∧Below w.heap.size (bl b w) (bl b w')∧(bd=false∧bad=false∧(∃ u,needP s.data.toList r=.ok u r1∧True)∨bd=true∧startP bad r (needP s.data.toList r)=.bad r1):=
 (pp_any (prNeed s h)).mono fun e w' ⟨bd,r1,k1,k2,k3⟩=>by
  rcases k3 with⟨h1,h2,a,h3,h4⟩|⟨h1,h2,h3⟩
  · exact⟨h4,bd,r1,k1,k2,.inl ⟨h1,h2,a,h3,trivial⟩⟩
  · exact⟨h3,bd,r1,k1,k2,.inr ⟨h1,h2⟩⟩
def WhenA(w:World)(b:Nat)(A:Option Addr)(n c:Nat)(all:List Tk)(g:PR (List UInt8 × List UInt8))(e:Ending)(w':World):Prop:=
 ∃ s t bd r1,e=.returned (.tuple #[.string s,.string t])∧PSt w' b A n c all r1 bd∧Below w.heap.size (bl b w) (bl b w')∧(bd=false∧(∃ z,g=.ok z r1∧s=ofB z.1∧t=ofB z.2)∨bd=true∧g=.bad r1)
theorem WhenA.post{g:PR (List UInt8 × List UInt8)}{e:Ending}{w':World}(h:WhenA w b A n c all g e w'):
 PPost w b A n c all g (fun z _ e=>e=.returned (.tuple #[.string (ofB z.1),.string (ofB z.2)])) (fun e=>∃ s t,e=.returned (.tuple #[.string s,.string t])) e w':=by
 obtain⟨s,t,bd,r1,he,h1,h2,h3⟩:=h;rcases h3 with⟨rfl,z,rfl,rfl,rfl⟩|⟨rfl,rfl⟩
 · exact⟨h2,h1,he⟩
 · exact⟨h2,h1,s,t,he⟩
theorem when_not(h:PSt w b A n c all r false)(h1:isP notL r=true):Calls Tryz.prog 33 #[.pointer (some ⟨b,0,none⟩)] w (WhenA w b A n c all (whenP r)):=by
 have HG:=Hd (show whenP r=(nameP r.tail).bind fun n r=>.ok (n,falseL) r from by simp only[whenP,h1,if_true])
 go_enter Tryz.func33,Tryz.ntmps33
 have HP0:=Hd h;have HB0:=Hd (bl_of (b:=b) (Below.refl w.heap.size w));clear h
 go_wp2_with fail
 refine(take_yes ⟨#[110,111,116]⟩ HP0.out h1).mono ?_;rintro x w1 ⟨rfl,hP,hB⟩;have HP1:=Hd hP;have HB1:=Hd (kb_trans HB0.out hB);clear hP hB h1
 go_wp2_with fail
 refine(nameAny_ HP1.out).mono ?_;rintro x w2 ⟨sn,bd2,r2,rfl,hP,hB,hT⟩;have HP2:=Hd hP;have HB2:=Hd (kb_trans HB1.out hB);have HT2:=Hd hT;clear hP hB hT
 go_wp2_with fail
 refine bodyPost_ret (v:=.tuple #[.string sn,.string ⟨#[102,97,108,115,101]⟩]) (by simp[results,Tryz.results33,go_sem]) rfl ⟨_,_,_,_,rfl,HP2.out,HB2.out,?_⟩;rcases st_any (.inl ⟨rfl,HG.out⟩) (HT2.out.imp (fun⟨a,_,c⟩=>⟨a,rfl,c⟩) id) with⟨h1,a,h2,h3⟩ | h1
 · exact .inl ⟨h1,_,h3,h2,rfl⟩
 · exact .inr h1
theorem when_tail{r0 r5 r6 r7 r8:List Tk}{bd5 bd6 bd7 bd8:Bool}{sa sn:ByteArray}{g:PR (List UInt8 × List UInt8)}(hg:g=(armP r0).bind fun a r=>(needP [40] r).bind fun _ r=>(nameP r).bind fun n r=>(needP [41] r).bind fun _ r=>.ok (n,a) r)
 (h5:bd5=false∧True∧(∃ a,armP r0=.ok a r5∧sa=ofB a)∨bd5=true∧startP false r0 (armP r0)=.bad r5) (h6:bd6=false∧bd5=false∧(∃ u,needP [40] r5=.ok u r6∧True)∨bd6=true∧startP bd5 r5 (needP [40] r5)=.bad r6)
 (h7:bd7=false∧bd6=false∧(∃ a,nameP r6=.ok a r7∧sn=ofB a)∨bd7=true∧startP bd6 r6 (nameP r6)=.bad r7) (h8:bd8=false∧bd7=false∧(∃ u,needP [41] r7=.ok u r8∧True)∨bd8=true∧startP bd7 r7 (needP [41] r7)=.bad r8):
 bd8=false∧(∃ z,g=.ok z r8∧sn=ofB z.1∧sa=ofB z.2)∨bd8=true∧g=.bad r8:=by
 rcases st_any (.inl ⟨rfl,hg⟩) (h5.imp (fun⟨a,_,c⟩=>⟨a,rfl,c⟩) id) with⟨rfl,a,ha,e5⟩|⟨rfl,e5⟩
 · rcases st_any (.inl ⟨rfl,e5⟩) h6 with⟨rfl,_,_,e6⟩|⟨rfl,e6⟩
   · rcases st_any (.inl ⟨rfl,e6⟩) h7 with⟨rfl,m,hm,e7⟩|⟨rfl,e7⟩
     · rcases st_any (.inl ⟨rfl,e7⟩) h8 with⟨rfl,_,_,e8⟩ | e8
       · exact .inl ⟨rfl,_,e8,hm,ha⟩
       · exact .inr e8
     · exact .inr ((st_any (cont:=fun(_:Unit) r=>PR.bad r) (.inr ⟨rfl,e7⟩) h8).resolve_left (by rintro ⟨rfl,_⟩;rcases h8 with⟨_,h,_⟩|⟨h,_⟩ <;> cases h))
   · have k7:=(st_any (cont:=fun(_:List UInt8) r=>PR.bad r) (.inr ⟨rfl,e6⟩) h7).resolve_left (by rintro ⟨rfl,_⟩;rcases h7 with⟨_,h,_⟩|⟨h,_⟩ <;> cases h);obtain⟨rfl,e7⟩:=k7;exact .inr ((st_any (cont:=fun(_:Unit) r=>PR.bad r) (.inr ⟨rfl,e7⟩) h8).resolve_left (by rintro ⟨rfl,_⟩;rcases h8 with⟨_,h,_⟩|⟨h,_⟩ <;> cases h))
 · have k6:=(st_any (cont:=fun(_:Unit) r=>PR.bad r) (.inr ⟨rfl,e5⟩) h6).resolve_left (by rintro ⟨rfl,_⟩;rcases h6 with⟨_,h,_⟩|⟨h,_⟩ <;> cases h);obtain⟨rfl,e6⟩:=k6;have k7:=(st_any (cont:=fun(_:List UInt8) r=>PR.bad r) (.inr ⟨rfl,e6⟩) h7).resolve_left (by rintro ⟨rfl,_⟩;rcases h7 with⟨_,h,_⟩|⟨h,_⟩ <;> cases h);obtain⟨rfl,e7⟩:=k7;exact .inr ((st_any (cont:=fun(_:Unit) r=>PR.bad r) (.inr ⟨rfl,e7⟩) h8).resolve_left (by rintro ⟨rfl,_⟩;rcases h8 with⟨_,h,_⟩|⟨h,_⟩ <;> cases h))
theorem when_yes(h:PSt w b A n c all r false)(h1:isP notL r=false):Calls Tryz.prog 33 #[.pointer (some ⟨b,0,none⟩)] w (WhenA w b A n c all (whenP r)):=by
 obtain⟨t,r',rfl⟩:=h.fin.cons_;have HW:=Hd (show whenP (t::r')=if headK (t::r')=2∨isP trueL (t::r')=true∨isP falseL (t::r')=true then(armP (t::r')).bind fun a r=>(needP [40] r).bind fun _ r=>(nameP r).bind fun n r=>(needP [41] r).bind fun _ r=>.ok (n,a) r else(nameP (t::r')).bind fun n r=>.ok (n,trueL) r from by simp only[whenP,h1,Bool.false_eq_true,if_false]);have HK:=Hd (show headK (t::r')=t.k from rfl);generalize hg:whenP (t::r')=g at *;clear hg
 cases h2:(t.k==2) with
 | true=>
  have HG:=Hd (HW.out.trans (if_pos (.inl (by simpa [headK] using h2))))
  go_enter Tryz.func33,Tryz.ntmps33
  have HP0:=Hd h;have HB0:=Hd (bl_of (b:=b) (Below.refl w.heap.size w));clear h
  go_wp2_with fail
  refine(take_no ⟨#[110,111,116]⟩ HP0.out (show(!false && isP _ _)=false by rw[Bool.not_false,Bool.true_and];exact h1)).mono ?_;rintro x w1 ⟨rfl,hP,hB⟩;have HP1:=Hd hP;have HB1:=Hd (kb_trans HB0.out hB);clear hP hB;obtain⟨t2,r2,b0,off,i,j,e2,HTF⟩:=HP1.out.tokF;injection e2 with e2 e3;subst e2 e3;have HT:=Hd HTF;obtain rfl:=HTF.a;have q0:=HTF.q0;have q1:=HTF.q1;have hbl:=HTF.lb;have hb0:=HTF.l0;have hmx:=HTF.mx;have hi:=HTF.lt;have t0:=HTF.t0;have t1:=HTF.t1;have t2:=HTF.t2;have t3:=HTF.t3;have hi0:(0:Int)≤(i:Int):=by omega
  have hi1:(i:Int)<(n:Int):=by omega
  clear HTF;generalize ofB t.s=ts at *;generalize t.k=k at *;generalize t.n=tn at *;generalize t.a=ta at *
  go_upto_region 4 with(fail)
  go_region
  generalize hw2:(w1.alloc _).drew=w2;obtain⟨hb2,hg2,u0,u1,u2⟩:=tok_box hw2;have HP2:=Hd (HT.out.st w2 hb2);have HB2:=Hd (kb_trans HB1.out (bl_of hb2));clear hw2 hb2 q0 q1 t0 t1 t2 t3
  go_wp2_with fail
  refine(armAny_ HP2.out).mono ?_;rintro x w5 ⟨sa,bd5,r5,rfl,hP,hB,hT⟩;have HP5:=Hd hP;have HB5:=Hd (kb_trans HB2.out hB);have HT5:=Hd hT;clear hP hB hT
  go_wp2_with fail
  refine(needAny_ ⟨#[40]⟩ HP5.out).mono ?_;rintro x w6 ⟨rfl,bd6,r6,hP,hB,hT⟩;have HP6:=Hd hP;have HB6:=Hd (kb_trans HB5.out hB);have HT6:=Hd hT;clear hP hB hT
  go_wp2_with fail
  refine(nameAny_ HP6.out).mono ?_;rintro x w7 ⟨sn,bd7,r7,rfl,hP,hB,hT⟩;have HP7:=Hd hP;have HB7:=Hd (kb_trans HB6.out hB);have HT7:=Hd hT;clear hP hB hT
  go_wp2_with fail
  refine(needAny_ ⟨#[41]⟩ HP7.out).mono ?_;rintro x w8 ⟨rfl,bd8,r8,hP,hB,hT⟩;have HP8:=Hd hP;have HB8:=Hd (kb_trans HB7.out hB);have HT8:=Hd hT;clear hP hB hT
  go_wp2_with fail
  refine bodyPost_ret (v:=.tuple #[.string sn,.string sa]) (by simp[results,Tryz.results33,go_sem]) rfl ⟨_,_,_,_,rfl,HP8.out,HB8.out,?_⟩;exact when_tail HG.out HT5.out HT6.out HT7.out HT8.out
 | false=>
  cases h3:isP trueL (t::r') with
  | true=>
   have HG:=Hd (HW.out.trans (if_pos (.inr (.inl h3))));have H3:=Hd h3
   go_enter Tryz.func33,Tryz.ntmps33
   have HP0:=Hd h;have HB0:=Hd (bl_of (b:=b) (Below.refl w.heap.size w));clear h
   go_wp2_with fail
   refine(take_no ⟨#[110,111,116]⟩ HP0.out (show(!false && isP _ _)=false by rw[Bool.not_false,Bool.true_and];exact h1)).mono ?_;rintro x w1 ⟨rfl,hP,hB⟩;have HP1:=Hd hP;have HB1:=Hd (kb_trans HB0.out hB);clear hP hB;obtain⟨t2,r2,b0,off,i,j,e2,HTF⟩:=HP1.out.tokF;injection e2 with e2 e3;subst e2 e3;have HT:=Hd HTF;obtain rfl:=HTF.a;have q0:=HTF.q0;have q1:=HTF.q1;have hbl:=HTF.lb;have hb0:=HTF.l0;have hmx:=HTF.mx;have hi:=HTF.lt;have t0:=HTF.t0;have t1:=HTF.t1;have t2:=HTF.t2;have t3:=HTF.t3;have hi0:(0:Int)≤(i:Int):=by omega
   have hi1:(i:Int)<(n:Int):=by omega
   clear HTF;generalize ofB t.s=ts at *;generalize t.k=k at *;generalize t.n=tn at *;generalize t.a=ta at *
   go_upto_region 4 with(fail)
   go_region
   generalize hw2:(w1.alloc _).drew=w2;obtain⟨hb2,hg2,u0,u1,u2⟩:=tok_box hw2;have HP2:=Hd (HT.out.st w2 hb2);have HB2:=Hd (kb_trans HB1.out (bl_of hb2));clear hw2 hb2 q0 q1 t0 t1 t2 t3
   go_wp2_with fail
   refine(prIs ⟨#[116,114,117,101]⟩ HP2.out).mono ?_;rintro x w3 ⟨rfl,hB⟩;have HP3:=Hd (HP2.out.below hB);have HB3:=Hd (kb_trans HB2.out (bl_of hB));clear hB;rw[show(!false && isP [116,114,117,101] (t::r'))=true by rw[Bool.not_false,Bool.true_and];exact H3.out]
   go_wp2_with fail
   refine(armAny_ HP3.out).mono ?_;rintro x w5 ⟨sa,bd5,r5,rfl,hP,hB,hT⟩;have HP5:=Hd hP;have HB5:=Hd (kb_trans HB3.out hB);have HT5:=Hd hT;clear hP hB hT
   go_wp2_with fail
   refine(needAny_ ⟨#[40]⟩ HP5.out).mono ?_;rintro x w6 ⟨rfl,bd6,r6,hP,hB,hT⟩;have HP6:=Hd hP;have HB6:=Hd (kb_trans HB5.out hB);have HT6:=Hd hT;clear hP hB hT
   go_wp2_with fail
   refine(nameAny_ HP6.out).mono ?_;rintro x w7 ⟨sn,bd7,r7,rfl,hP,hB,hT⟩;have HP7:=Hd hP;have HB7:=Hd (kb_trans HB6.out hB);have HT7:=Hd hT;clear hP hB hT
   go_wp2_with fail
   refine(needAny_ ⟨#[41]⟩ HP7.out).mono ?_;rintro x w8 ⟨rfl,bd8,r8,hP,hB,hT⟩;have HP8:=Hd hP;have HB8:=Hd (kb_trans HB7.out hB);have HT8:=Hd hT;clear hP hB hT
   go_wp2_with fail
   refine bodyPost_ret (v:=.tuple #[.string sn,.string sa]) (by simp[results,Tryz.results33,go_sem]) rfl ⟨_,_,_,_,rfl,HP8.out,HB8.out,?_⟩;exact when_tail HG.out HT5.out HT6.out HT7.out HT8.out
  | false=>
   cases h4:isP falseL (t::r') with
   | true=>
    have HG:=Hd (HW.out.trans (if_pos (.inr (.inr h4))));have H3:=Hd h3;have H4:=Hd h4
    go_enter Tryz.func33,Tryz.ntmps33
    have HP0:=Hd h;have HB0:=Hd (bl_of (b:=b) (Below.refl w.heap.size w));clear h
    go_wp2_with fail
    refine(take_no ⟨#[110,111,116]⟩ HP0.out (show(!false && isP _ _)=false by rw[Bool.not_false,Bool.true_and];exact h1)).mono ?_;rintro x w1 ⟨rfl,hP,hB⟩;have HP1:=Hd hP;have HB1:=Hd (kb_trans HB0.out hB);clear hP hB;obtain⟨t2,r2,b0,off,i,j,e2,HTF⟩:=HP1.out.tokF;injection e2 with e2 e3;subst e2 e3;have HT:=Hd HTF;obtain rfl:=HTF.a;have q0:=HTF.q0;have q1:=HTF.q1;have hbl:=HTF.lb;have hb0:=HTF.l0;have hmx:=HTF.mx;have hi:=HTF.lt;have t0:=HTF.t0;have t1:=HTF.t1;have t2:=HTF.t2;have t3:=HTF.t3;have hi0:(0:Int)≤(i:Int):=by omega
    have hi1:(i:Int)<(n:Int):=by omega
    clear HTF;generalize ofB t.s=ts at *;generalize t.k=k at *;generalize t.n=tn at *;generalize t.a=ta at *
    go_upto_region 4 with(fail)
    go_region
    generalize hw2:(w1.alloc _).drew=w2;obtain⟨hb2,hg2,u0,u1,u2⟩:=tok_box hw2;have HP2:=Hd (HT.out.st w2 hb2);have HB2:=Hd (kb_trans HB1.out (bl_of hb2));clear hw2 hb2 q0 q1 t0 t1 t2 t3
    go_wp2_with fail
    refine(prIs ⟨#[116,114,117,101]⟩ HP2.out).mono ?_;rintro x w3 ⟨rfl,hB⟩;have HP3:=Hd (HP2.out.below hB);have HB3:=Hd (kb_trans HB2.out (bl_of hB));clear hB;rw[show(!false && isP [116,114,117,101] (t::r'))=false by rw[Bool.not_false,Bool.true_and];exact H3.out]
    go_wp2_with fail
    refine(prIs ⟨#[102,97,108,115,101]⟩ HP3.out).mono ?_;rintro x w4 ⟨rfl,hB⟩;have HP4:=Hd (HP3.out.below hB);have HB4:=Hd (kb_trans HB3.out (bl_of hB));clear hB;rw[show(!false && isP [102,97,108,115,101] (t::r'))=true by rw[Bool.not_false,Bool.true_and];exact H4.out]
    go_wp2_with fail
    refine(armAny_ HP4.out).mono ?_;rintro x w5 ⟨sa,bd5,r5,rfl,hP,hB,hT⟩;have HP5:=Hd hP;have HB5:=Hd (kb_trans HB4.out hB);have HT5:=Hd hT;clear hP hB hT
    go_wp2_with fail
    refine(needAny_ ⟨#[40]⟩ HP5.out).mono ?_;rintro x w6 ⟨rfl,bd6,r6,hP,hB,hT⟩;have HP6:=Hd hP;have HB6:=Hd (kb_trans HB5.out hB);have HT6:=Hd hT;clear hP hB hT
    go_wp2_with fail
    refine(nameAny_ HP6.out).mono ?_;rintro x w7 ⟨sn,bd7,r7,rfl,hP,hB,hT⟩;have HP7:=Hd hP;have HB7:=Hd (kb_trans HB6.out hB);have HT7:=Hd hT;clear hP hB hT
    go_wp2_with fail
    refine(needAny_ ⟨#[41]⟩ HP7.out).mono ?_;rintro x w8 ⟨rfl,bd8,r8,hP,hB,hT⟩;have HP8:=Hd hP;have HB8:=Hd (kb_trans HB7.out hB);have HT8:=Hd hT;clear hP hB hT
    go_wp2_with fail
    refine bodyPost_ret (v:=.tuple #[.string sn,.string sa]) (by simp[results,Tryz.results33,go_sem]) rfl ⟨_,_,_,_,rfl,HP8.out,HB8.out,?_⟩;exact when_tail HG.out HT5.out HT6.out HT7.out HT8.out
   | false=>
    have HG:=Hd (HW.out.trans (if_neg (by rintro (h | h | h);exact absurd h (by simpa [headK] using h2);exact absurd (h3.symm.trans h) (by decide);exact absurd (h4.symm.trans h) (by decide))));have H3:=Hd h3;have H4:=Hd h4
    go_enter Tryz.func33,Tryz.ntmps33
    have HP0:=Hd h;have HB0:=Hd (bl_of (b:=b) (Below.refl w.heap.size w));clear h
    go_wp2_with fail
    refine(take_no ⟨#[110,111,116]⟩ HP0.out (show(!false && isP _ _)=false by rw[Bool.not_false,Bool.true_and];exact h1)).mono ?_;rintro x w1 ⟨rfl,hP,hB⟩;have HP1:=Hd hP;have HB1:=Hd (kb_trans HB0.out hB);clear hP hB;obtain⟨t2,r2,b0,off,i,j,e2,HTF⟩:=HP1.out.tokF;injection e2 with e2 e3;subst e2 e3;have HT:=Hd HTF;obtain rfl:=HTF.a;have q0:=HTF.q0;have q1:=HTF.q1;have hbl:=HTF.lb;have hb0:=HTF.l0;have hmx:=HTF.mx;have hi:=HTF.lt;have t0:=HTF.t0;have t1:=HTF.t1;have t2:=HTF.t2;have t3:=HTF.t3;have hi0:(0:Int)≤(i:Int):=by omega
    have hi1:(i:Int)<(n:Int):=by omega
    clear HTF;generalize ofB t.s=ts at *;generalize t.k=k at *;generalize t.n=tn at *;generalize t.a=ta at *
    go_upto_region 4 with(fail)
    go_region
    generalize hw2:(w1.alloc _).drew=w2;obtain⟨hb2,hg2,u0,u1,u2⟩:=tok_box hw2;have HP2:=Hd (HT.out.st w2 hb2);have HB2:=Hd (kb_trans HB1.out (bl_of hb2));clear hw2 hb2 q0 q1 t0 t1 t2 t3
    go_wp2_with fail
    refine(prIs ⟨#[116,114,117,101]⟩ HP2.out).mono ?_;rintro x w3 ⟨rfl,hB⟩;have HP3:=Hd (HP2.out.below hB);have HB3:=Hd (kb_trans HB2.out (bl_of hB));clear hB;rw[show(!false && isP [116,114,117,101] (t::r'))=false by rw[Bool.not_false,Bool.true_and];exact H3.out]
    go_wp2_with fail
    refine(prIs ⟨#[102,97,108,115,101]⟩ HP3.out).mono ?_;rintro x w4 ⟨rfl,hB⟩;have HP4:=Hd (HP3.out.below hB);have HB4:=Hd (kb_trans HB3.out (bl_of hB));clear hB;rw[show(!false && isP [102,97,108,115,101] (t::r'))=false by rw[Bool.not_false,Bool.true_and];exact H4.out]
    go_wp2_with fail
    refine(nameAny_ HP4.out).mono ?_;rintro x w5 ⟨sn,bd5,r5,rfl,hP,hB,hT⟩;have HP5:=Hd hP;have HB5:=Hd (kb_trans HB4.out hB);have HT5:=Hd hT;clear hP hB hT
    go_wp2_with fail
    refine bodyPost_ret (v:=.tuple #[.string sn,.string ⟨#[116,114,117,101]⟩]) (by simp[results,Tryz.results33,go_sem]) rfl ⟨_,_,_,_,rfl,HP5.out,HB5.out,?_⟩;rcases st_any (.inl ⟨rfl,HG.out⟩) (HT5.out.imp (fun⟨a,_,c⟩=>⟨a,rfl,c⟩) id) with⟨h1,a,h2,h3⟩ | h1
    · exact .inl ⟨h1,_,h3,h2,rfl⟩
    · exact .inr h1
theorem prWhen(h:PSt w b A n c all r false):
 Calls Tryz.prog 33 #[.pointer (some ⟨b,0,none⟩)] w (PPost w b A n c all (whenP r) (fun z _ e=>e=.returned (.tuple #[.string (ofB z.1),.string (ofB z.2)])) (fun e=>∃ s t,e=.returned (.tuple #[.string s,.string t]))):=by
 cases h1:isP notL r with
 | true=>exact(when_not h h1).mono fun e w' k=>k.post
 | false=>exact(when_yes h h1).mono fun e w' k=>k.post
end
end
section
inductive Lv where
 | arrow | fby | or | and | cmp | sum | prod | un | post | atom | behind | brk
inductive Fr where
 | m (l:Lv)
 | sign (s:List UInt8)
 | made (x:Ex) (f:Nat)
 | right (s:List UInt8) (k:Int) (o:Lv)
 | left (ops:List (Int × List UInt8)) (side:Lv)
 | once (ops:List (Int × List UInt8)) (side:Lv)
 | list (shut:List UInt8) (ev:Bool) (x:Ex) (f:Nat)
 | more (x:Ex) (f:Nat)
def mk0(k:Int):Ex:=.mk k 0 ByteArray.empty 0 [] []
def mkOp(k op:Int):Ex:=.mk k 0 ByteArray.empty op [] []
def withSubs:Ex→List Ex→Ex
 | .mk k n s op a _,l=>.mk k n s op a l
def setN1:Ex→Ex
 | .mk k _ s op a l=>.mk k 1 s op a l
def addArm:Ex→List UInt8→Ex
 | .mk k n s op a l,b=>.mk k n s op (a++[ofB b]) l
abbrev Out:=PR (List Fr × List Ex × Nat)
def madeS(x:Ex)(f:Nat)(ps:List Ex)(sz:Nat):List Ex:=ps.take f++[if sz+1≤60 then withSubs x (ps.drop f) else x]
def madeO(x:Ex)(f:Nat)(ps:List Ex)(sz:Nat)(r:List Tk):Out:=.ok ([],madeS x f ps sz,sz+1) r
def everyO(x:Ex)(f:Nat)(ps:List Ex)(sz:Nat)(r:List Tk):Out:=
 if isP everyL r=true then .ok ([.m .post,.made (setN1 x) f],ps,sz) r.tail else .ok ([.made x f],ps,sz) r
def armO1(x:Ex)(f:Nat)(ps:List Ex)(sz:Nat)(r:List Tk):Out:=
 (armP r).bind fun a r=>(needP [45,62] r).bind fun _ r=>.ok ([.m .arrow,.sign [41],.more (addArm x a) f],ps,sz) r
def armO(x:Ex)(f:Nat)(ps:List Ex)(sz:Nat)(r:List Tk):Out:=(needP [40] r).bind fun _ r=>armO1 x f ps sz r
def thenO(ev:Bool)(x:Ex)(f:Nat)(ps:List Ex)(sz:Nat)(r:List Tk):Out:=if ev=true then everyO x f ps sz r else madeO x f ps sz r
def opsUn:List (Int × List UInt8):=[(1,[45]),(2,notL)]
def isNameP:List Tk→Bool
 | t::_=>t.k==1 && !wordB t.s
 | []=>false
def callO(s:List UInt8)(ps:List Ex)(sz:Nat)(r:List Tk):Out:=
 if isP [41] r=true then everyO (.mk 13 0 (ofB s) 0 [] []) ps.length ps sz r.tail
 else .ok ([.m .arrow,.list [41] true (.mk 13 0 (ofB s) 0 [] []) ps.length],ps,sz) r
def namedO(ps:List Ex)(sz:Nat)(r:List Tk):Out:=
 (nameP r).bind fun s r=>if isP [40] r=true then callO s ps sz r.tail else madeO (.mk 3 0 (ofB s) 0 [] []) ps.length ps sz r
def mergeO(ps:List Ex)(sz:Nat)(r:List Tk):Out:=(nameP r).bind fun s r=>armO (.mk 12 0 (ofB s) 0 [] []) ps.length ps sz r
def singleO(ps:List Ex)(sz:Nat)(r:List Tk):Out:=match plainP r with
 | some z=>madeO z.1 ps.length ps sz z.2
 | none=>.bad r
def atomO(ps:List Ex)(sz:Nat)(r:List Tk):Out:=
 if isP [40] r=true then .ok ([.m .arrow,.m .brk],ps,sz) r.tail
 else if isP [91] r=true then .ok ([.m .arrow,.list [93] false (mk0 14) ps.length],ps,sz) r.tail
 else if isP ifL r=true then .ok ([.m .arrow,.sign thenL,.m .arrow,.sign elseL,.m .arrow,.made (mk0 7) ps.length],ps,sz) r.tail
 else if isP mergeL r=true then mergeO ps sz r.tail
 else if isNameP r=true then namedO ps sz r
 else singleO ps sz r
def whenE(z:List UInt8 × List UInt8):Ex:=.mk 11 0 (ofB z.1) 0 [ofB z.2] []
def behindO(ps:List Ex)(sz:Nat)(r:List Tk):Out:=
 if isP [91] r=true then .ok ([.m .arrow,.sign [93],.made (mk0 15) (ps.length-1),.m .behind],ps,sz) r.tail
 else if isP whenL r=true then(whenP r.tail).bind fun z r=>.ok ([.made (whenE z) (ps.length-1),.m .behind],ps,sz) r
 else .ok ([],ps,sz) r
def brkO(ps:List Ex)(sz:Nat)(r:List Tk):Out:=
 if isP withL r=true then .ok ([.sign [91],.m .arrow,.sign [93],.sign [61],.m .arrow,.made (mk0 16) (ps.length-1),.sign [41]],ps,sz) r.tail
 else .ok ([.sign [41]],ps,sz) r
def unO(ps:List Ex)(sz:Nat)(r:List Tk):Out:=
 if signP opsUn r≠0 then .ok ([.m .un,.made (mkOp 5 (signP opsUn r)) ps.length],ps,sz) r.tail
 else if isP preL r=true then .ok ([.m .un,.made (mk0 10) ps.length],ps,sz) r.tail
 else .ok ([.m .post],ps,sz) r
def lvO:Lv→List Ex→Nat→List Tk→Out
 | .arrow,ps,sz,r=>.ok ([.m .fby,.right arrL 9 .arrow],ps,sz) r
 | .fby,ps,sz,r=>.ok ([.m .or,.right fbyL 8 .fby],ps,sz) r
 | .or,ps,sz,r=>.ok ([.m .and,.left opsOr .and],ps,sz) r
 | .and,ps,sz,r=>.ok ([.m .cmp,.left opsAnd .cmp],ps,sz) r
 | .cmp,ps,sz,r=>.ok ([.m .sum,.once opsCmp .sum],ps,sz) r
 | .sum,ps,sz,r=>.ok ([.m .prod,.left opsSum .prod],ps,sz) r
 | .prod,ps,sz,r=>.ok ([.m .un,.left opsProd .un],ps,sz) r
 | .un,ps,sz,r=>unO ps sz r
 | .post,ps,sz,r=>.ok ([.m .atom,.m .behind],ps,sz) r
 | .atom,ps,sz,r=>atomO ps sz r
 | .behind,ps,sz,r=>behindO ps sz r
 | .brk,ps,sz,r=>brkO ps sz r
def stepF:Fr→List Ex→Nat→List Tk→Out
 | .m l,ps,sz,r=>lvO l ps sz r
 | .sign s,ps,sz,r=>(needP s r).bind fun _ r=>.ok ([],ps,sz) r
 | .made x f,ps,sz,r=>madeO x f ps sz r
 | .right s k o,ps,sz,r=>if isP s r=true then .ok ([.m o,.made (mk0 k) (ps.length-1)],ps,sz) r.tail else .ok ([],ps,sz) r
 | .left ops side,ps,sz,r=>if signP ops r≠0 then .ok ([.m side,.made (mkOp 6 (signP ops r)) (ps.length-1),.left ops side],ps,sz) r.tail else .ok ([],ps,sz) r
 | .once ops side,ps,sz,r=>if signP ops r≠0 then .ok ([.m side,.made (mkOp 6 (signP ops r)) (ps.length-1)],ps,sz) r.tail else .ok ([],ps,sz) r
 | .list shut ev x f,ps,sz,r=>if isP [44] r=true then .ok ([.m .arrow,.list shut ev x f],ps,sz) r.tail else(needP shut r).bind fun _ r=>thenO ev x f ps sz r
 | .more x f,ps,sz,r=>if isP [40] r=true then armO x f ps sz r else madeO x f ps sz r
def Ends:Nat→List Fr→List Ex→Nat→List Tk→(PR (List Ex × Nat)→Prop)→Prop
 | 0,fs,ps,sz,r,res=>fs=[]∧res (.ok (ps,sz) r)
 | k+1,[],ps,sz,r,res=>False
 | k+1,f::fs,ps,sz,r,res=>match stepF f ps sz r with
  | .ok z r'=>Ends k (z.1++fs) z.2.1 z.2.2 r' res
  | .bad q=>res (.bad q)
def EndM(fs:List Fr)(ps:List Ex)(sz:Nat)(r:List Tk)(res:PR (List Ex × Nat)→Prop):Prop:=∃ k,Ends k fs ps sz r res
def EndO(o:Out)(fs:List Fr)(res:PR (List Ex × Nat)→Prop):Prop:=match o with
 | .ok z r=>EndM (z.1++fs) z.2.1 z.2.2 r res
 | .bad q=>res (.bad q)
theorem endM_nil{ps:List Ex}{sz:Nat}{r:List Tk}{res:PR (List Ex × Nat)→Prop}(h:res (.ok (ps,sz) r)):EndM [] ps sz r res:=⟨0,rfl,h⟩
theorem endM_step{f:Fr}{fs:List Fr}{ps:List Ex}{sz:Nat}{r:List Tk}{res:PR (List Ex × Nat)→Prop}(h:EndO (stepF f ps sz r) fs res):EndM (f::fs) ps sz r res:=by
 unfold EndO at h
 cases hs:stepF f ps sz r with
 | ok z q=>
  rw[hs] at h;obtain⟨k,hk⟩:=h;exact⟨k+1,by simp only[Ends,hs];exact hk⟩
 | bad q=>
  rw[hs] at h;exact⟨1,by simp only[Ends,hs];exact h⟩
theorem endM_next{f:Fr}{fs new:List Fr}{ps ps2:List Ex}{sz sz2:Nat}{r r2:List Tk}{res:PR (List Ex × Nat)→Prop}(hs:stepF f ps sz r=.ok (new,ps2,sz2) r2)(h:EndM (new++fs) ps2 sz2 r2 res):EndM (f::fs) ps sz r res:=
 endM_step (by rw[hs];exact h)
def RdsM(new:List Fr)(g:Psr)(m:Nat):Prop:=∀ (fs:List Fr) (ps:List Ex) (sz:Nat) (r:List Tk) (res:PR (List Ex × Nat)→Prop),EndR r→r.length≤m →
 (∀ x r1,g r=.ok x r1→EndR r1→r1.length<r.length→∀ x1 sz1,sz1=sz+sizeX x→(sz1≤60→x1=x)→EndM fs (ps++[x1]) sz1 r1 res) →
 (∀ r1,g r=.bad r1→res (.bad r1))→EndM (new++fs) ps sz r res
theorem isP_end{s:List UInt8}{r:List Tk}(h:EndR r)(hi:isP s r=true):EndR r.tail∧r.tail.length+1=r.length:=by
 obtain⟨t,r',rfl,hs,hk⟩:=isP_cons hi;exact⟨h.tail (by omega),rfl⟩
theorem need_end{s:List UInt8}{r r1:List Tk}{u:Unit}(h:EndR r)(hn:needP s r=.ok u r1):EndR r1∧r1.length+1=r.length:=by
 unfold needP at hn
 split at hn
 · rename_i hi
   injection hn with _ hn;subst hn;exact isP_end h hi
 · cases hn
theorem name_end{s:List UInt8}{r r1:List Tk}(h:EndR r)(hn:nameP r=.ok s r1):EndR r1∧r1.length+1=r.length:=by
 match r,h,hn with
 | t::r',h,hn=>
  simp only[nameP] at hn
  split at hn
  · rename_i hk
    injection hn with _ hn;subst hn;exact⟨h.tail (by omega),rfl⟩
  · cases hn
 | [],h,hn=>cases hn
theorem arm_end{s:List UInt8}{r r1:List Tk}(h:EndR r)(hn:armP r=.ok s r1):EndR r1∧r1.length+1=r.length:=by
 unfold armP at hn
 split at hn
 · rename_i hi
   injection hn with _ hn;subst hn;exact isP_end h hi
 · split at hn
   · rename_i hi
     injection hn with _ hn;subst hn;exact isP_end h hi
   · match r,h,hn with
     | t::r',h,hn=>
      simp only at hn
      split at hn
      · injection hn with _ hn;subst hn;exact⟨h.tail (by omega),rfl⟩
      · cases hn
     | [],h,hn=>cases hn
theorem bind_okP{α β:Type}{x:PR α}{f:α→List Tk→PR β}{y:β}{r:List Tk}(h:x.bind f=.ok y r):∃ a r0,x=.ok a r0∧f a r0=.ok y r:=by
 cases x with
 | ok a r0=>exact⟨a,r0,rfl,h⟩
 | bad r0=>cases h
theorem when_end{z:List UInt8 × List UInt8}{r r1:List Tk}(h:EndR r)(hn:whenP r=.ok z r1):EndR r1∧r1.length<r.length:=by
 unfold whenP at hn
 split at hn
 · rename_i hi
   obtain⟨n,r2,hn2,he⟩:=bind_okP hn;injection he with _ he;subst he;have h1:=isP_end h hi;have h2:=name_end h1.1 hn2;exact⟨h2.1,by omega⟩
 · split at hn
   · obtain⟨a,r2,ha,hn⟩:=bind_okP hn;obtain⟨u,r3,hu,hn⟩:=bind_okP hn;obtain⟨n,r4,hn2,hn⟩:=bind_okP hn;obtain⟨v,r5,hv,hn⟩:=bind_okP hn;injection hn with _ hn;subst hn;have h1:=arm_end h ha;have h2:=need_end h1.1 hu;have h3:=name_end h2.1 hn2;have h4:=need_end h3.1 hv;exact⟨h4.1,by omega⟩
   · obtain⟨n,r2,hn2,he⟩:=bind_okP hn;injection he with _ he;subst he;have h2:=name_end h hn2;exact⟨h2.1,by omega⟩
theorem plain_end{z:Ex × List Tk}{r:List Tk}(h:EndR r)(hn:plainP r=some z):EndR z.2∧z.2.length+1=r.length∧z.1.subs=[]∧sizeX z.1=1:=by
 match r,h,hn with
 | t::r',h,hn=>
  simp only[plainP] at hn
  split at hn
  · injection hn with hn;subst hn;exact⟨h.tail (by omega),rfl,rfl,rfl⟩
  · split at hn
    · injection hn with hn;subst hn;exact⟨h.tail (by omega),rfl,rfl,rfl⟩
    · split at hn
      · injection hn with hn;subst hn;exact⟨h.tail (by omega),rfl,rfl,rfl⟩
      · split at hn
        · injection hn with hn;subst hn;exact⟨h.tail (by omega),rfl,rfl,rfl⟩
        · split at hn
          · injection hn with hn;subst hn;exact⟨h.tail (by omega),rfl,rfl,rfl⟩
          · cases hn
 | [],h,hn=>cases hn
theorem sign_isP{r:List Tk}:∀ {ops:List (Int × List UInt8)},signP ops r≠0→∃ s,isP s r=true
 | [],h=>absurd rfl h
 | z::l,h=>by
  simp only[signP] at h
  split at h
  · rename_i hi;exact⟨_,hi⟩
  · exact sign_isP h
theorem sign_end{ops:List (Int × List UInt8)}{r:List Tk}(h:EndR r)(hs:signP ops r≠0):EndR r.tail∧r.tail.length+1=r.length:=by
 obtain⟨s,hi⟩:=sign_isP hs;exact isP_end h hi
theorem madeS_app(x:Ex)(ps l:List Ex)(sz:Nat):madeS x ps.length (ps++l) sz=ps++[if sz+1≤60 then withSubs x l else x]:=by
 unfold madeS;rw[List.take_left,List.drop_left]
theorem endM_made{x:Ex}{ps l:List Ex}{sz:Nat}{r:List Tk}{fs:List Fr}{res:PR (List Ex × Nat)→Prop}(h:EndM fs (ps++[if sz+1≤60 then withSubs x l else x]) (sz+1) r res):EndM (.made x ps.length::fs) (ps++l) sz r res:=
 endM_next (new:=[]) (by simp only[stepF,madeO];rw[madeS_app]) h
theorem sizes_one(x:Ex):sizesX [x]=sizeX x:=by simp[sizesX]
theorem sizes_two(x y:Ex):sizesX [x,y]=sizeX x+sizeX y:=by simp[sizesX]
theorem sizes_three(x y z:Ex):sizesX [x,y,z]=sizeX x+sizeX y+sizeX z:=by simp[sizesX];omega
theorem sizeX_mk(k n:Int)(s:ByteArray)(op:Int)(a:List ByteArray)(l:List Ex):sizeX (.mk k n s op a l)=1+sizesX l:=by simp[sizeX]
section
variable {m:Nat}
theorem reads_right{side o:Lv}{gs go:Psr}{s:List UInt8}{k:Int}(HS:RdsM [.m side] gs (m+1))(HO:RdsM [.m o] go m):
 RdsM [.m side,.right s k o] (fun r=>(gs r).bind fun e r=>if isP s r=true then(go r.tail).bind fun y r=>.ok (Ex.mk k 0 ByteArray.empty 0 [] [e,y]) r else .ok e r) (m+1):=by
 intro fs ps sz r res hr hm hok hbad;refine HS (.right s k o::fs) ps sz r res hr hm ?_ ?_
 · intro e r1 he hr1 hlt e1 sz1 hsz hE
   by_cases hi:isP s r1=true
   · have h1:=isP_end hr1 hi;refine endM_next (new:=[.m o,.made (mk0 k) ps.length]) (ps2:=ps++[e1]) (sz2:=sz1) (r2:=r1.tail) (by simp[stepF,hi]) ?_;refine HO (.made (mk0 k) ps.length::fs) (ps++[e1]) sz1 r1.tail res h1.1 (by omega) ?_ ?_
     · intro y r2 hy hr2 hlt2 y1 sz2 hsz2 hY;rw[List.append_assoc];refine endM_made (hok (Ex.mk k 0 ByteArray.empty 0 [] [e,y]) r2 (by simp[he,hi,hy]) hr2 (by omega) _ _ (by rw[sizeX_mk,sizes_two];omega) fun h=>?_);rw[if_pos h,hE (by have:=size_pos y;omega),hY (by omega)];rfl
     · intro r2 hy;exact hbad r2 (by simp[he,hi,hy])
   · refine endM_next (new:=[]) (ps2:=ps++[e1]) (sz2:=sz1) (r2:=r1) (by simp[stepF,hi]) ?_;exact hok e r1 (by simp[he,hi]) hr1 hlt e1 sz1 hsz hE
 · intro r1 he;exact hbad r1 (by simp[he])
theorem ends_left{side:Lv}{gs:Psr}{ops:List (Int × List UInt8)}(HS:RdsM [.m side] gs m):∀ (f:Nat) (fs:List Fr) (ps:List Ex) (sz:Nat) (e e1:Ex) (r:List Tk) (res:PR (List Ex × Nat)→Prop),EndR r→r.length<f→r.length≤m →
 (sz≤60→e1=e) →
 (∀ x r1,chainP gs ops f e r=.ok x r1→EndR r1→r1.length≤r.length→∀ x1 sz1,sz1+sizeX e=sz+sizeX x→sz≤sz1→(sz1≤60→x1=x)→EndM fs (ps++[x1]) sz1 r1 res) →
 (∀ r1,chainP gs ops f e r=.bad r1→res (.bad r1))→EndM (.left ops side::fs) (ps++[e1]) sz r res
 | 0,fs,ps,sz,e,e1,r,res,hr,hf,hm,hE,hok,hbad=>absurd hf (by omega)
 | f+1,fs,ps,sz,e,e1,r,res,hr,hf,hm,hE,hok,hbad=>by
  by_cases hi:signP ops r=0
  · refine endM_next (new:=[]) (ps2:=ps++[e1]) (sz2:=sz) (r2:=r) (by simp[stepF,hi]) ?_;exact hok e r (by simp[chainP,hi]) hr (Nat.le_refl _) e1 sz rfl (Nat.le_refl _) hE
  · have h1:=sign_end hr hi;refine endM_next (new:=[.m side,.made (mkOp 6 (signP ops r)) ps.length,.left ops side]) (ps2:=ps++[e1]) (sz2:=sz) (r2:=r.tail) (by simp[stepF,hi]) ?_;refine HS (.made (mkOp 6 (signP ops r)) ps.length::.left ops side::fs) (ps++[e1]) sz r.tail res h1.1 (by omega) ?_ ?_
    · intro y r2 hy hr2 hlt2 y1 sz2 hsz2 hY;rw[List.append_assoc];refine endM_made ?_;refine ends_left HS f fs ps (sz2+1) (binX (signP ops r) e y) _ r2 res hr2 (by omega) (by omega) (fun h=>?_) ?_ ?_
      · rw[if_pos h,hE (by omega),hY (by omega)];rfl
      · intro x r3 hx hr3 hle x1 sz3 hsz3 hs hX;refine hok x r3 (by simp[chainP,hi,hy,hx]) hr3 (by omega) x1 sz3 ?_ (by omega) hX;unfold binX at hsz3;rw[sizeX_mk,sizes_two] at hsz3;omega
      · intro r3 hx;exact hbad r3 (by simp[chainP,hi,hy,hx])
    · intro r2 hy;exact hbad r2 (by simp[chainP,hi,hy])
theorem reads_left{side:Lv}{gs:Psr}{ops:List (Int × List UInt8)}(HS:RdsM [.m side] gs m):
 RdsM [.m side,.left ops side] (fun r=>(gs r).bind fun e r=>chainP gs ops (r.length+1) e r) m:=by
 intro fs ps sz r res hr hm hok hbad;refine HS (.left ops side::fs) ps sz r res hr hm ?_ ?_
 · intro e r1 he hr1 hlt e1 sz1 hsz hE;refine ends_left HS (r1.length+1) fs ps sz1 e e1 r1 res hr1 (by omega) (by omega) hE ?_ ?_
   · intro x r2 hx hr2 hle x1 sz2 hsz2 hs hX;exact hok x r2 (by simp[he,hx]) hr2 (by omega) x1 sz2 (by omega) hX
   · intro r2 hx;exact hbad r2 (by simp[he,hx])
 · intro r1 he;exact hbad r1 (by simp[he])
theorem reads_once{side:Lv}{gs:Psr}{ops:List (Int × List UInt8)}(HS:RdsM [.m side] gs m):
 RdsM [.m side,.once ops side] (fun r=>(gs r).bind fun e r=>chainP gs ops 1 e r) m:=by
 intro fs ps sz r res hr hm hok hbad;refine HS (.once ops side::fs) ps sz r res hr hm ?_ ?_
 · intro e r1 he hr1 hlt e1 sz1 hsz hE
   by_cases hi:signP ops r1=0
   · refine endM_next (new:=[]) (ps2:=ps++[e1]) (sz2:=sz1) (r2:=r1) (by simp[stepF,hi]) ?_;exact hok e r1 (by simp[he,chainP,hi]) hr1 (by omega) e1 sz1 hsz hE
   · have h1:=sign_end hr1 hi;refine endM_next (new:=[.m side,.made (mkOp 6 (signP ops r1)) ps.length]) (ps2:=ps++[e1]) (sz2:=sz1) (r2:=r1.tail) (by simp[stepF,hi]) ?_;refine HS (.made (mkOp 6 (signP ops r1)) ps.length::fs) (ps++[e1]) sz1 r1.tail res h1.1 (by omega) ?_ ?_
     · intro y r2 hy hr2 hlt2 y1 sz2 hsz2 hY;rw[List.append_assoc];refine endM_made (hok (binX (signP ops r1) e y) r2 (by simp[he,chainP,hi,hy]) hr2 (by omega) _ _ (by unfold binX;rw[sizeX_mk,sizes_two];omega) fun h=>?_);rw[if_pos h,hE (by have:=size_pos y;omega),hY (by omega)];rfl
     · intro r2 hy;exact hbad r2 (by simp[he,chainP,hi,hy])
 · intro r1 he;exact hbad r1 (by simp[he])
end
end
end Go.Proofs.YtokiaaapgkdpmaaGreatDoor
