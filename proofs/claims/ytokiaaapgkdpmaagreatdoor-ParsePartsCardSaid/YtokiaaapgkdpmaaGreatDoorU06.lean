/- Parts of the proof: LxS. Conditions: each theorem's own. -/
import Derived.Shelf.Strconv.ParseIntEmpty
import Derived.Shelf.LaysM
import Derived.Shelf.Strconv.Clone
import Derived.Shelf.Strconv.SyntaxError
import Derived.Shelf.LaysC
import Derived.Shelf.Strconv.ToError
import Derived.Shelf.Strconv.Lower
import Derived.Shelf.Strconv.ParseUint10
import Derived.Shelf.Strconv.ParseUint10Empty
import Derived.Shelf.Strconv.ParseUint10Any
import Derived.Shelf.Strconv.ParseInt10
import Derived.Shelf.Strconv.RangeError
import Derived.Shelf.Strconv.ToErrorRange
import Derived.Shelf.Strconv.ParseUintEmpty
import Derived.Shelf.Strconv.ParseUint10b64
import Derived.Shelf.Strconv.ParseUint10b32
import Derived.Shelf.Strconv.ParseUint10b16
import Derived.Shelf.Strconv.ParseUint10b8
import Derived.Shelf.Strconv.ParseUint10At
import Derived.Shelf.Strconv.ParseInt10At64
import Derived.Shelf.Strconv.ParseInt10At32
import Derived.Shelf.Strconv.ParseInt10At16
import Derived.Shelf.Strconv.ParseInt10At8
import Derived.Shelf.Strconv.ParseInt10All
import Derived.Shelf.Strconv.ParseIntPublic10
import Derived.Shelf.Strconv.ErrVarParseInt
import Derived.Shelf.Strings.Search1
import Derived.Shelf.Strings.Search2
import Derived.Shelf.Strings.Search3
import Derived.Shelf.Strings.Cut
import Derived.Shelf.Strings.Shaped
import Derived.Shelf.Strings.Prefix
import Derived.Lib.SmallJoins
import Derived.WalkSmall
import Derived.LaidSub
import Derived.LaidLaws
import Derived.ChangeArms
import Derived.Test.YtokiaaapgkdpmaaGreatDoorU05
namespace Go.Proofs.YtokiaaapgkdpmaaGreatDoor
set_option linter.unusedVariables false
set_option linter.unusedSimpArgs false
set_option maxRecDepth 100000
set_option maxHeartbeats 40000000
section
open Go.Shelf
def laysC174_ren:Go.Shelf.Ren:=⟨fun | 174=>112 | 247=>130 | 245=>131 | 287=>146 | 279=>147 | 280=>148 | 281=>149 | 282=>150 | 321=>159 | 322=>160 | 316=>161 | 171=>163 | 205=>162 | 243=>167 | 246=>170 | 283=>173 | 284=>174 | 285=>175 | 286=>176 | 129=>181 | 317=>180 | 318=>182 | 319=>183 | 320=>184 | 337=>196 | 338=>197 | n=>n,fun | 9=>9 | 3=>3 | 2=>2 | 75=>109 | 85=>110 | 4=>4 | 167=>130 | 5=>5 | 53=>94 | 175=>131 | 46=>129 | 168=>133 | 37=>120 | 0=>0 | 210=>144 | 21=>21 | 127=>146 | 145=>149 | 143=>147 | 171=>151 | 173=>154 | 212=>157 | 51=>139 | 20=>20 | 213=>158 | 232=>168 | 233=>169 | 80=>84 | n=>n,fun | 15=>2 | 16=>3 | 17=>4 | 18=>5 | 19=>6 | n=>n⟩
theorem laysC174:Go.Proofs.LaysC.n174 Tryz.prog laysC174_ren:={
 mixed:=by kernel_rfl
 f129:=Tryz.func181.trans (congrArg some (by kernel_rfl))
 f171:=Tryz.func163.trans (congrArg some (by kernel_rfl))
 f174:=Tryz.func112.trans (congrArg some (by kernel_rfl))
 f205:=Tryz.func162.trans (congrArg some (by kernel_rfl))
 f243:=Tryz.func167.trans (congrArg some (by kernel_rfl))
 f245:=Tryz.func131.trans (congrArg some (by kernel_rfl))
 f246:=Tryz.func170.trans (congrArg some (by kernel_rfl))
 f247:=Tryz.func130.trans (congrArg some (by kernel_rfl))
 f279:=Tryz.func147.trans (congrArg some (by kernel_rfl))
 f280:=Tryz.func148.trans (congrArg some (by kernel_rfl))
 f281:=Tryz.func149.trans (congrArg some (by kernel_rfl))
 f282:=Tryz.func150.trans (congrArg some (by kernel_rfl))
 f283:=Tryz.func173.trans (congrArg some (by kernel_rfl))
 f284:=Tryz.func174.trans (congrArg some (by kernel_rfl))
 f285:=Tryz.func175.trans (congrArg some (by kernel_rfl))
 f286:=Tryz.func176.trans (congrArg some (by kernel_rfl))
 f287:=Tryz.func146.trans (congrArg some (by kernel_rfl))
 f316:=Tryz.func161.trans (congrArg some (by kernel_rfl))
 f317:=Tryz.func180.trans (congrArg some (by kernel_rfl))
 f318:=Tryz.func182.trans (congrArg some (by kernel_rfl))
 f319:=Tryz.func183.trans (congrArg some (by kernel_rfl))
 f320:=Tryz.func184.trans (congrArg some (by kernel_rfl))
 f321:=Tryz.func159.trans (congrArg some (by kernel_rfl))
 f322:=Tryz.func160.trans (congrArg some (by kernel_rfl))
 f337:=Tryz.func196.trans (congrArg some (by kernel_rfl))
 f338:=Tryz.func197.trans (congrArg some (by kernel_rfl))
 t0:=Tryz.underlying0
 a0:=Tryz.isAgg0
 z0:=Tryz.sizeOf0
 v0:=Tryz.zeroValue0
 t2:=Tryz.underlying2
 a2:=Tryz.isAgg2
 z2:=Tryz.sizeOf2
 v2:=Tryz.zeroValue2
 t3:=Tryz.underlying3
 a3:=Tryz.isAgg3
 z3:=Tryz.sizeOf3
 v3:=Tryz.zeroValue3
 t4:=Tryz.underlying4
 a4:=Tryz.isAgg4
 z4:=Tryz.sizeOf4
 v4:=Tryz.zeroValue4
 t5:=Tryz.underlying5
 a5:=Tryz.isAgg5
 z5:=Tryz.sizeOf5
 v5:=Tryz.zeroValue5
 t9:=Tryz.underlying9
 a9:=Tryz.isAgg9
 z9:=Tryz.sizeOf9
 v9:=Tryz.zeroValue9
 t20:=Tryz.underlying20
 a20:=Tryz.isAgg20
 z20:=Tryz.sizeOf20
 v20:=Tryz.zeroValue20
 t21:=Tryz.underlying21
 a21:=Tryz.isAgg21
 z21:=Tryz.sizeOf21
 v21:=Tryz.zeroValue21
 t37:=Tryz.underlying120
 a37:=Tryz.isAgg120
 z37:=Tryz.sizeOf120
 v37:=Tryz.zeroValue120
 t46:=Tryz.underlying129
 a46:=Tryz.isAgg129
 z46:=Tryz.sizeOf129
 v46:=Tryz.zeroValue129
 t51:=Tryz.underlying139
 a51:=Tryz.isAgg139
 z51:=Tryz.sizeOf139
 v51:=Tryz.zeroValue139
 t53:=Tryz.underlying94
 a53:=Tryz.isAgg94
 z53:=Tryz.sizeOf94
 v53:=Tryz.zeroValue94
 t75:=Tryz.underlying109
 a75:=Tryz.isAgg109
 z75:=Tryz.sizeOf109
 v75:=Tryz.zeroValue109
 t85:=Tryz.underlying110
 a85:=Tryz.isAgg110
 z85:=Tryz.sizeOf110
 v85:=Tryz.zeroValue110
 t127:=Tryz.underlying146
 a127:=Tryz.isAgg146
 z127:=Tryz.sizeOf146
 v127:=Tryz.zeroValue146
 t143:=Tryz.underlying147
 a143:=Tryz.isAgg147
 z143:=Tryz.sizeOf147
 v143:=Tryz.zeroValue147
 t145:=Tryz.underlying149
 a145:=Tryz.isAgg149
 z145:=Tryz.sizeOf149
 v145:=Tryz.zeroValue149
 t167:=Tryz.underlying130
 a167:=Tryz.isAgg130
 z167:=Tryz.sizeOf130
 v167:=Tryz.zeroValue130
 t168:=Tryz.underlying133
 a168:=Tryz.isAgg133
 z168:=Tryz.sizeOf133
 v168:=Tryz.zeroValue133
 t171:=Tryz.underlying151
 a171:=Tryz.isAgg151
 z171:=Tryz.sizeOf151
 v171:=Tryz.zeroValue151
 t173:=Tryz.underlying154
 a173:=Tryz.isAgg154
 z173:=Tryz.sizeOf154
 v173:=Tryz.zeroValue154
 t175:=Tryz.underlying131
 a175:=Tryz.isAgg131
 z175:=Tryz.sizeOf131
 v175:=Tryz.zeroValue131
 t210:=Tryz.underlying144
 a210:=Tryz.isAgg144
 z210:=Tryz.sizeOf144
 v210:=Tryz.zeroValue144
 t212:=Tryz.underlying157
 a212:=Tryz.isAgg157
 z212:=Tryz.sizeOf157
 v212:=Tryz.zeroValue157
 t213:=Tryz.underlying158
 a213:=Tryz.isAgg158
 z213:=Tryz.sizeOf158
 t232:=Tryz.underlying168
 a232:=Tryz.isAgg168
 z232:=Tryz.sizeOf168
 v232:=Tryz.zeroValue168
 t233:=Tryz.underlying169
 a233:=Tryz.isAgg169
 z233:=Tryz.sizeOf169
 v233:=Tryz.zeroValue169
 g15:=by kernel_rfl
 g16:=by kernel_rfl
 g17:=by kernel_rfl
 g18:=by kernel_rfl
 g19:=by kernel_rfl
 t80:=Tryz.underlying84
 a80:=Tryz.isAgg84
 z80:=Tryz.sizeOf84
 v80:=Tryz.zeroValue84
 i0:=by kernel_rfl
 i2:=by kernel_rfl
 i3:=by kernel_rfl
 i4:=by kernel_rfl
 i5:=by kernel_rfl
 i9:=by kernel_rfl
 i20:=by kernel_rfl
 i21:=by kernel_rfl
 i37:=by kernel_rfl
 i46:=by kernel_rfl
 i51:=by kernel_rfl
 i53:=by kernel_rfl
 i75:=by kernel_rfl
 i80:=by kernel_rfl
 i85:=by kernel_rfl
 i127:=by kernel_rfl
 i143:=by kernel_rfl
 i145:=by kernel_rfl
 i167:=by kernel_rfl
 i168:=by kernel_rfl
 i171:=by kernel_rfl
 i173:=by kernel_rfl
 i175:=by kernel_rfl
 i210:=by kernel_rfl
 i212:=by kernel_rfl
 i232:=by kernel_rfl
 i233:=by kernel_rfl
 m15:=by kernel_rfl
 m16:=by kernel_rfl
 m17:=by kernel_rfl
 m18:=by kernel_rfl
 m19:=by kernel_rfl
 c0:=by kernel_rfl
 c2:=by kernel_rfl
 c3:=by kernel_rfl
 c4:=by kernel_rfl
 c5:=by kernel_rfl
 c9:=by kernel_rfl
 c20:=by kernel_rfl
 c21:=by kernel_rfl
 c37:=by kernel_rfl
 c46:=by kernel_rfl
 c51:=by kernel_rfl
 c53:=by kernel_rfl
 c75:=by kernel_rfl
 c80:=by kernel_rfl
 c85:=by kernel_rfl
 c127:=by kernel_rfl
 c143:=by kernel_rfl
 c145:=by kernel_rfl
 c167:=by kernel_rfl
 c168:=by kernel_rfl
 c171:=by kernel_rfl
 c173:=by kernel_rfl
 c175:=by kernel_rfl
 c210:=by kernel_rfl
 c212:=by kernel_rfl
 c213:=by kernel_rfl
 c232:=by kernel_rfl
 c233:=by kernel_rfl }
def lays144_ren:Go.Shelf.Ren:=⟨fun | 144=>78 | 143=>106 | 219=>126 | 217=>141 | 225=>142 | 224=>143 | 267=>144 | 266=>156 | 314=>157 | n=>n,fun | 9=>9 | 4=>4 | 3=>3 | 5=>5 | 46=>129 | 146=>140 | 51=>139 | n=>n,fun | 1=>1 | n=>n⟩
theorem lays144:Go.Proofs.Lays.n144 Tryz.prog lays144_ren:={
 mixed:=by kernel_rfl
 f143:=Tryz.func106.trans (congrArg some (by kernel_rfl))
 f144:=Tryz.func78.trans (congrArg some (by kernel_rfl))
 f217:=Tryz.func141.trans (congrArg some (by kernel_rfl))
 f219:=Tryz.func126.trans (congrArg some (by kernel_rfl))
 f224:=Tryz.func143.trans (congrArg some (by kernel_rfl))
 f225:=Tryz.func142.trans (congrArg some (by kernel_rfl))
 f266:=Tryz.func156.trans (congrArg some (by kernel_rfl))
 f267:=Tryz.func144.trans (congrArg some (by kernel_rfl))
 f314:=Tryz.func157.trans (congrArg some (by kernel_rfl))
 t3:=Tryz.underlying3
 a3:=Tryz.isAgg3
 z3:=Tryz.sizeOf3
 v3:=Tryz.zeroValue3
 t4:=Tryz.underlying4
 a4:=Tryz.isAgg4
 z4:=Tryz.sizeOf4
 v4:=Tryz.zeroValue4
 t5:=Tryz.underlying5
 a5:=Tryz.isAgg5
 z5:=Tryz.sizeOf5
 v5:=Tryz.zeroValue5
 t9:=Tryz.underlying9
 a9:=Tryz.isAgg9
 z9:=Tryz.sizeOf9
 v9:=Tryz.zeroValue9
 t46:=Tryz.underlying129
 a46:=Tryz.isAgg129
 z46:=Tryz.sizeOf129
 v46:=Tryz.zeroValue129
 t51:=Tryz.underlying139
 a51:=Tryz.isAgg139
 z51:=Tryz.sizeOf139
 v51:=Tryz.zeroValue139
 t146:=Tryz.underlying140
 a146:=Tryz.isAgg140
 z146:=Tryz.sizeOf140
 v146:=Tryz.zeroValue140
 g1:=by kernel_rfl }
def lays99_ren:Go.Shelf.Ren:=⟨fun | 99=>76 | 206=>104 | n=>n,fun | 9=>9 | 4=>4 | 3=>3 | n=>n,fun | n=>n⟩
theorem lays99:Go.Proofs.Lays.n99 Tryz.prog lays99_ren:={
 mixed:=by kernel_rfl
 f99:=Tryz.func76.trans (congrArg some (by kernel_rfl))
 f206:=Tryz.func104.trans (congrArg some (by kernel_rfl))
 t3:=Tryz.underlying3
 a3:=Tryz.isAgg3
 z3:=Tryz.sizeOf3
 v3:=Tryz.zeroValue3
 t4:=Tryz.underlying4
 a4:=Tryz.isAgg4
 z4:=Tryz.sizeOf4
 v4:=Tryz.zeroValue4
 t9:=Tryz.underlying9
 a9:=Tryz.isAgg9
 z9:=Tryz.sizeOf9
 v9:=Tryz.zeroValue9 }
open Go.RowKit
def marksN:String:=(Rows.parseReadsRow.laid.getD 5 default).1
def rangeN:String:=(Rows.parseReadsRow.laid.getD 3 default).1
def ofL(l:List UInt8):ByteArray:=⟨l.toArray⟩
theorem ofL_list(l:List UInt8):(ofL l).data.toList=l:=rfl
theorem ofL_size(l:List UInt8):(ofL l).size=l.length:=rfl
theorem eq_ofL{b:ByteArray}{l:List UInt8}(h:b.data.toList=l):b=ofL l:=by
 subst h;rfl
def marksA:Array Value:=(marksL.map fun m=>Value.string (ofL m)).toArray
def Vars(w:World):Prop:=(∃ tp p,w.var? Tryz.prog rangeN=some #[.iface tp p])∧w.var? Tryz.prog marksN=some marksA
theorem range_named:Tryz.prog.globalNamed rangeN=some 3:=by kernel_rfl
theorem marks_named:Tryz.prog.globalNamed marksN=some 0:=by kernel_rfl
theorem var_lt{w:World}{n:String}{g:Nat}{cs:Array Value}(hg:Tryz.prog.globalNamed n=some g) (h:w.var? Tryz.prog n=some cs):g<w.heap.size:=by
 unfold World.var? at h;simp only [hg,Option.bind_some] at h;rcases Nat.lt_or_ge g w.heap.size with h1 | h1
 · exact h1
 · rw [Array.getElem?_eq_none h1] at h;cases h
theorem Vars.below{w w':World}(h:Vars w) (hb:Below w.heap.size w w'):Vars w':=by
 obtain⟨⟨tp,p,h1⟩,h2⟩:=h;exact⟨⟨tp,p,var?_below hb range_named (var_lt range_named h1) h1⟩,var?_below hb marks_named (var_lt marks_named h2) h2⟩
theorem Vars.marks{w:World}(h:Vars w):∃ t fr,w.heap[(0:Nat)]?=some (.cells marksA t fr):=by
 have h2:=h.2;unfold World.var? at h2;simp only [marks_named,Option.bind_some] at h2
 split at h2
 · rename_i cs t fr e
   injection h2 with h2;subst h2;exact⟨_,_,e⟩
 · cases h2
theorem libPrefix(s p:ByteArray) (w:World):Calls Tryz.prog 76 #[.string s,.string p] w fun e w'=>e=.returned (.bool (p.data.toList.isPrefixOf s.data.toList))∧w=w' :=
 (Any.strings_HasPrefix lays99 s p w).mono fun e w' ⟨he,hw⟩=>⟨he,hw.symm⟩
theorem libHas(s:ByteArray) (c:UInt8) (w:World):Calls Tryz.prog 78 #[.string s,.string ⟨#[c]⟩] w fun e w'=>e=.returned (.bool (decide (0≤Lib.indexByte s.data.toList c)))∧w=w' :=
 (Any.strings_Contains_one lays144 s c w).mono fun e w' ⟨he,hw⟩=>⟨he,hw.symm⟩
theorem libParse_yes(s:ByteArray) (w:World) (h0:s.data.toList≠[]) (hd:∀ c∈s.data.toList,digitB (c.toNat:Int)=true) (hs:s.size≤281474976710656) (hm:decV s.data.toList≤9223372036854775807):
 Calls Tryz.prog 112 #[.string s,.int .i64 10,.int .i64 64] w fun e w'=>e=.returned (.tuple #[.int .i64 (decV s.data.toList:Int),.nilIface])∧Below w.heap.size w w' :=
 (Any.strconv_ParseInt_10_at64_ok laysC174 s (by omega) _ (by rw [parse_digits h0 hd,if_neg (by omega)]) w).mono fun e w' ⟨he,hw⟩=>⟨he,by
  rcases hw with rfl | ⟨t,rfl⟩
  · exact Below.refl _ _
  · exact Lib.bytesWorld_below _ _ _⟩
theorem libParse_no(s:ByteArray) (w:World) (h0:s.data.toList≠[]) (hd:∀ c∈s.data.toList,digitB (c.toNat:Int)=true) (hs:s.size≤281474976710656) (hm:9223372036854775807<decV s.data.toList) (hv:Vars w):
 Calls Tryz.prog 112 #[.string s,.int .i64 10,.int .i64 64] w fun e w'=>(∃ z N,e=.returned (.tuple #[.int .i64 z,.iface 133 (.pointer (some ⟨N,0,none⟩))]))∧Below w.heap.size w w':=by
 obtain⟨⟨tp,p,h1⟩,_⟩:=hv;exact(Any.strconv_ParseInt_10_at64_range_var laysC174 s hs (by rw [parse_digits h0 hd,if_pos hm]) tp p w h1).mono fun e w' ⟨N,he,_,_,hw⟩=>⟨⟨_,N,he⟩,hw⟩
end
end Go.Proofs.YtokiaaapgkdpmaaGreatDoor
