/- A part of the proof. Conditions: each theorem's own. -/
import Derived.Test.YtagkcjpoipcpkaaGreatDoorF06
namespace Go.Proofs.YtagkcjpoipcpkaaGreatDoor
set_option linter.unusedVariables false
set_option linter.unusedSimpArgs false
set_option maxRecDepth 100000
set_option maxHeartbeats 40000000
section
open Go.Shelf
def bJt:Go.Shelf.Ren:=⟨fun|174=>140|247=>185|245=>186|287=>212|279=>213|280=>214|281=>215|282=>216|321=>238|322=>239|316=>240|171=>242|205=>241|243=>256|246=>268|283=>277|284=>278|285=>279|286=>280|129=>287|317=>286|318=>288|319=>289|320=>290|337=>295|338=>296|n=>n,fun|9=>9|3=>3|2=>2|75=>49|85=>190|4=>4|167=>242|5=>5|53=>214|175=>243|46=>241|168=>245|37=>237|0=>0|210=>268|21=>21|127=>276|145=>279|143=>277|171=>283|173=>286|212=>291|51=>263|20=>20|213=>292|232=>296|233=>297|80=>120|n=>n,fun|15=>3|16=>4|17=>5|18=>6|19=>7|n=>n⟩
theorem aW8:Go.Proofs.LaysC.n174 Tryz.prog bJt:={
 mixed:=by kernel_rfl
 f129:=Tryz.func287.trans (congrArg some aE)
 f171:=Tryz.func242.trans (congrArg some aE)
 f174:=Tryz.func140.trans (congrArg some aE)
 f205:=Tryz.func241.trans (congrArg some aE)
 f243:=Tryz.func256.trans (congrArg some aE)
 f245:=Tryz.func186.trans (congrArg some aE)
 f246:=Tryz.func268.trans (congrArg some aE)
 f247:=Tryz.func185.trans (congrArg some aE)
 f279:=Tryz.func213.trans (congrArg some aE)
 f280:=Tryz.func214.trans (congrArg some aE)
 f281:=Tryz.func215.trans (congrArg some aE)
 f282:=Tryz.func216.trans (congrArg some aE)
 f283:=Tryz.func277.trans (congrArg some aE)
 f284:=Tryz.func278.trans (congrArg some aE)
 f285:=Tryz.func279.trans (congrArg some aE)
 f286:=Tryz.func280.trans (congrArg some aE)
 f287:=Tryz.func212.trans (congrArg some aE)
 f316:=Tryz.func240.trans (congrArg some aE)
 f317:=Tryz.func286.trans (congrArg some aE)
 f318:=Tryz.func288.trans (congrArg some aE)
 f319:=Tryz.func289.trans (congrArg some aE)
 f320:=Tryz.func290.trans (congrArg some aE)
 f321:=Tryz.func238.trans (congrArg some aE)
 f322:=Tryz.func239.trans (congrArg some aE)
 f337:=Tryz.func295.trans (congrArg some aE)
 f338:=Tryz.func296.trans (congrArg some aE)
 t0:=Tryz.underlying0
 a0:=Tryz.isAgg0
 z0:=Tryz.sizeOf0
 v0:=Tryz.zeroValue0
 t2:=Tryz.underlying2
 a2:=Tryz.isAgg2
 z2:=Tryz.sizeOf2
 v2:=Tryz.zeroValue2
 t3:=Tryz.underlying3
 a3:=Tryz.isAgg3
 z3:=Tryz.sizeOf3
 v3:=Tryz.zeroValue3
 t4:=Tryz.underlying4
 a4:=Tryz.isAgg4
 z4:=Tryz.sizeOf4
 v4:=Tryz.zeroValue4
 t5:=Tryz.underlying5
 a5:=Tryz.isAgg5
 z5:=Tryz.sizeOf5
 v5:=Tryz.zeroValue5
 t9:=Tryz.underlying9
 a9:=Tryz.isAgg9
 z9:=Tryz.sizeOf9
 v9:=Tryz.zeroValue9
 t20:=Tryz.underlying20
 a20:=Tryz.isAgg20
 z20:=Tryz.sizeOf20
 v20:=Tryz.zeroValue20
 t21:=Tryz.underlying21
 a21:=Tryz.isAgg21
 z21:=Tryz.sizeOf21
 v21:=Tryz.zeroValue21
 t37:=Tryz.underlying237
 a37:=Tryz.isAgg237
 z37:=Tryz.sizeOf237
 v37:=Tryz.zeroValue237
 t46:=Tryz.underlying241
 a46:=Tryz.isAgg241
 z46:=Tryz.sizeOf241
 v46:=Tryz.zeroValue241
 t51:=Tryz.underlying263
 a51:=Tryz.isAgg263
 z51:=Tryz.sizeOf263
 v51:=Tryz.zeroValue263
 t53:=Tryz.underlying214
 a53:=Tryz.isAgg214
 z53:=Tryz.sizeOf214
 v53:=Tryz.zeroValue214
 t75:=Tryz.underlying49
 a75:=Tryz.isAgg49
 z75:=Tryz.sizeOf49
 v75:=Tryz.zeroValue49
 t85:=Tryz.underlying190
 a85:=Tryz.isAgg190
 z85:=Tryz.sizeOf190
 v85:=Tryz.zeroValue190
 t127:=Tryz.underlying276
 a127:=Tryz.isAgg276
 z127:=Tryz.sizeOf276
 v127:=Tryz.zeroValue276
 t143:=Tryz.underlying277
 a143:=Tryz.isAgg277
 z143:=Tryz.sizeOf277
 v143:=Tryz.zeroValue277
 t145:=Tryz.underlying279
 a145:=Tryz.isAgg279
 z145:=Tryz.sizeOf279
 v145:=Tryz.zeroValue279
 t167:=Tryz.underlying242
 a167:=Tryz.isAgg242
 z167:=Tryz.sizeOf242
 v167:=Tryz.zeroValue242
 t168:=Tryz.underlying245
 a168:=Tryz.isAgg245
 z168:=Tryz.sizeOf245
 v168:=Tryz.zeroValue245
 t171:=Tryz.underlying283
 a171:=Tryz.isAgg283
 z171:=Tryz.sizeOf283
 v171:=Tryz.zeroValue283
 t173:=Tryz.underlying286
 a173:=Tryz.isAgg286
 z173:=Tryz.sizeOf286
 v173:=Tryz.zeroValue286
 t175:=Tryz.underlying243
 a175:=Tryz.isAgg243
 z175:=Tryz.sizeOf243
 v175:=Tryz.zeroValue243
 t210:=Tryz.underlying268
 a210:=Tryz.isAgg268
 z210:=Tryz.sizeOf268
 v210:=Tryz.zeroValue268
 t212:=Tryz.underlying291
 a212:=Tryz.isAgg291
 z212:=Tryz.sizeOf291
 v212:=Tryz.zeroValue291
 t213:=Tryz.underlying292
 a213:=Tryz.isAgg292
 z213:=Tryz.sizeOf292
 t232:=Tryz.underlying296
 a232:=Tryz.isAgg296
 z232:=Tryz.sizeOf296
 v232:=Tryz.zeroValue296
 t233:=Tryz.underlying297
 a233:=Tryz.isAgg297
 z233:=Tryz.sizeOf297
 v233:=Tryz.zeroValue297
 g15:=by kernel_rfl
 g16:=by kernel_rfl
 g17:=by kernel_rfl
 g18:=by kernel_rfl
 g19:=by kernel_rfl
 t80:=Tryz.underlying120
 a80:=Tryz.isAgg120
 z80:=Tryz.sizeOf120
 v80:=Tryz.zeroValue120
 i0:=by kernel_rfl
 i2:=by kernel_rfl
 i3:=by kernel_rfl
 i4:=by kernel_rfl
 i5:=by kernel_rfl
 i9:=by kernel_rfl
 i20:=by kernel_rfl
 i21:=by kernel_rfl
 i37:=by kernel_rfl
 i46:=by kernel_rfl
 i51:=by kernel_rfl
 i53:=by kernel_rfl
 i75:=by kernel_rfl
 i80:=by kernel_rfl
 i85:=by kernel_rfl
 i127:=by kernel_rfl
 i143:=by kernel_rfl
 i145:=by kernel_rfl
 i167:=by kernel_rfl
 i168:=by kernel_rfl
 i171:=by kernel_rfl
 i173:=by kernel_rfl
 i175:=by kernel_rfl
 i210:=by kernel_rfl
 i212:=by kernel_rfl
 i232:=by kernel_rfl
 i233:=by kernel_rfl
 m15:=by kernel_rfl
 m16:=by kernel_rfl
 m17:=by kernel_rfl
 m18:=by kernel_rfl
 m19:=by kernel_rfl
 c0:=by kernel_rfl
 c2:=by kernel_rfl
 c3:=by kernel_rfl
 c4:=by kernel_rfl
 c5:=by kernel_rfl
 c9:=by kernel_rfl
 c20:=by kernel_rfl
 c21:=by kernel_rfl
 c37:=by kernel_rfl
 c46:=by kernel_rfl
 c51:=by kernel_rfl
 c53:=by kernel_rfl
 c75:=by kernel_rfl
 c80:=by kernel_rfl
 c85:=by kernel_rfl
 c127:=by kernel_rfl
 c143:=by kernel_rfl
 c145:=by kernel_rfl
 c167:=by kernel_rfl
 c168:=by kernel_rfl
 c171:=by kernel_rfl
 c173:=by kernel_rfl
 c175:=by kernel_rfl
 c210:=by kernel_rfl
 c212:=by kernel_rfl
 c213:=by kernel_rfl
 c232:=by kernel_rfl
 c233:=by kernel_rfl }
def bKh:Go.Shelf.Ren:=⟨fun|144=>75|143=>135|219=>183|217=>208|225=>209|224=>210|267=>211|266=>236|314=>237|n=>n,fun|9=>9|4=>4|3=>3|5=>5|46=>241|146=>264|51=>263|n=>n,fun|1=>2|n=>n⟩
theorem bWr:Go.Proofs.Lays.n144 Tryz.prog bKh:={
 mixed:=by kernel_rfl
 f143:=Tryz.func135.trans (congrArg some aE)
 f144:=Tryz.func75.trans (congrArg some aE)
 f217:=Tryz.func208.trans (congrArg some aE)
 f219:=Tryz.func183.trans (congrArg some aE)
 f224:=Tryz.func210.trans (congrArg some aE)
 f225:=Tryz.func209.trans (congrArg some aE)
 f266:=Tryz.func236.trans (congrArg some aE)
 f267:=Tryz.func211.trans (congrArg some aE)
 f314:=Tryz.func237.trans (congrArg some aE)
 t3:=Tryz.underlying3
 a3:=Tryz.isAgg3
 z3:=Tryz.sizeOf3
 v3:=Tryz.zeroValue3
 t4:=Tryz.underlying4
 a4:=Tryz.isAgg4
 z4:=Tryz.sizeOf4
 v4:=Tryz.zeroValue4
 t5:=Tryz.underlying5
 a5:=Tryz.isAgg5
 z5:=Tryz.sizeOf5
 v5:=Tryz.zeroValue5
 t9:=Tryz.underlying9
 a9:=Tryz.isAgg9
 z9:=Tryz.sizeOf9
 v9:=Tryz.zeroValue9
 t46:=Tryz.underlying241
 a46:=Tryz.isAgg241
 z46:=Tryz.sizeOf241
 v46:=Tryz.zeroValue241
 t51:=Tryz.underlying263
 a51:=Tryz.isAgg263
 z51:=Tryz.sizeOf263
 v51:=Tryz.zeroValue263
 t146:=Tryz.underlying264
 a146:=Tryz.isAgg264
 z146:=Tryz.sizeOf264
 v146:=Tryz.zeroValue264
 g1:=by kernel_rfl }
def bL0:Go.Shelf.Ren:=⟨fun|99=>73|206=>133|n=>n,fun|9=>9|4=>4|3=>3|n=>n,fun|n=>n⟩
theorem cAa:Go.Proofs.Lays.n99 Tryz.prog bL0:={
 mixed:=by kernel_rfl
 f99:=Tryz.func73.trans (congrArg some aE)
 f206:=Tryz.func133.trans (congrArg some aE)
 t3:=Tryz.underlying3
 a3:=Tryz.isAgg3
 z3:=Tryz.sizeOf3
 v3:=Tryz.zeroValue3
 t4:=Tryz.underlying4
 a4:=Tryz.isAgg4
 z4:=Tryz.sizeOf4
 v4:=Tryz.zeroValue4
 t9:=Tryz.underlying9
 a9:=Tryz.isAgg9
 z9:=Tryz.sizeOf9
 v9:=Tryz.zeroValue9 }
open Go.RowKit
def aCo:String:=(Rows.readProgramsRow.laid.getD 6 default).1
def aCp:String:=(Rows.readProgramsRow.laid.getD 4 default).1
def aZ(l:LU):ByteArray:=⟨l.toArray⟩
theorem aBy(l:LU):(aZ l).data.toList=l:=rfl
theorem aW9(l:LU):(aZ l).size=l.length:=rfl
theorem wG{b:BA}{l:LU}(h:b.data.toList=l):b=aZ l:=by
 subst h;rfl
def aAl:Array Value:=(iD.map fun m=>Value.string (aZ m)).toArray
def iV(w:World):Prop:=(∃tp p,w.var? Tryz.prog aCp=some #[.iface tp p])/\w.var? Tryz.prog aCo=some aAl
theorem aLq:Tryz.prog.globalNamed aCp=some 4:=aE
theorem aG7:Tryz.prog.globalNamed aCo=some 1:=aE
theorem bA1{w:World}{n:String}{g:Nat}{cs:AV}(hg:Tryz.prog.globalNamed n=some g)(h:w.var? Tryz.prog n=some cs):g<w.heap.size:=by
 unfold World.var? at h;simp only[hg,Option.bind_some]at h;rcases Nat.lt_or_ge g w.heap.size with h1|h1;· exact h1
 . rw[Array.getElem?_eq_none h1]at h;cases h
theorem iV.below{w w':World}(h:iV w)(hb:Below w.heap.size w w'):iV w':=by
 obtain⟨⟨tp,p,h1⟩,h2⟩:=h;exact⟨⟨tp,p,var?_below hb aLq (bA1 aLq h1) h1⟩,var?_below hb aG7 (bA1 aG7 h2) h2⟩
theorem iV.marks{w:World}(h:iV w):∃t fr,w.heap[(1:Nat)]?=some (.cells aAl t fr):=by
 have h2:=h.2;unfold World.var? at h2;simp only[aG7,Option.bind_some]at h2;split at h2
 . rename_i cs t fr e;injection h2 with h2;subst h2;exact⟨_,_,e⟩
 . cases h2
theorem aMm(s p:BA)(w:World):Calls Tryz.prog 73 #[.string s,.string p] w fun e w'=>e=.returned (.bool (p.data.toList.isPrefixOf s.data.toList))/\w=w':=
 (Any.strings_HasPrefix cAa s p w).mono fun e w' ⟨he,hw⟩=>⟨he,hw.symm⟩
theorem cAb(s:BA)(c:UInt8)(w:World):Calls Tryz.prog 75 #[.string s,.string ⟨#[c]⟩] w fun e w'=>e=.returned (.bool (decide (0<=Lib.indexByte s.data.toList c)))/\w=w':=
 (Any.strings_Contains_one bWr s c w).mono fun e w' ⟨he,hw⟩=>⟨he,hw.symm⟩
theorem aLm(s:BA)(w:World)(h0:s.data.toList≠[])(hd:∀c∈s.data.toList,cC (c.toNat:Int)=true)(hs:s.size<=281474976710656)(hm:jH s.data.toList<=9223372036854775807):
 Calls Tryz.prog 140 #[.string s,.int .i64 10,.int .i64 64] w fun e w'=>e=.returned (.tuple #[.int .i64 (jH s.data.toList:Int),.nilIface])/\Below w.heap.size w w':=
 (Any.strconv_ParseInt_10_at64_ok aW8 s aA _ (by rw [aSh h0 hd,if_neg aA]) w).mono fun e w' ⟨he,hw⟩=>⟨he,by
  rcases hw with rfl|⟨t,rfl⟩;· exact Yg _ _
  . exact Lib.bytesWorld_below _ _ _⟩
theorem bKi(s:BA)(w:World)(h0:s.data.toList≠[])(hd:∀c∈s.data.toList,cC (c.toNat:Int)=true)(hs:s.size<=281474976710656)(hm:9223372036854775807<jH s.data.toList)(hv:iV w):
 Calls Tryz.prog 140 #[.string s,.int .i64 10,.int .i64 64] w fun e w'=>(∃z N,e=.returned (.tuple #[.int .i64 z,.iface 245 (.pointer (some ⟨N,0,none⟩))]))/\Below w.heap.size w w':=by
 obtain⟨⟨tp,p,h1⟩,_⟩:=hv;exact(Any.strconv_ParseInt_10_at64_range_var aW8 s hs (by rw[aSh h0 hd,if_pos hm]) tp p w h1).mono fun e w' ⟨N,he,_,_,hw⟩=>⟨⟨_,N,he⟩,hw⟩
end
end Go.Proofs.YtagkcjpoipcpkaaGreatDoor
