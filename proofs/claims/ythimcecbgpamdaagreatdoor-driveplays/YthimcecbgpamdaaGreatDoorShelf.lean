import Derived.Shelf.Strings.Trim
import Derived.Shelf.Small.Bits
import Derived.Shelf.Small.Strs
import Derived.Shelf.Small.Wraps
import Derived.Shelf.Strconv.Itoa0
import Derived.Shelf.Strconv.Itoa1
import Derived.Shelf.LaysM
import Derived.Shelf.Strconv.Itoa2
import Derived.Shelf.Strconv.Itoa3
import Derived.Shelf.Strconv.Itoa4
import Derived.Shelf.Strings.Search1
import Derived.Shelf.Strings.Search2
import Derived.Shelf.Strings.Search3
import Derived.Shelf.Strings.Cut
import Derived.Shelf.Strings.Count
import Derived.Shelf.Strings.Shaped
import Derived.Shelf.Strings.Prefix
import Derived.Shelf.Strings.Split
import Derived.Shelf.Strings.SplitShaped
import Derived.Ground.SlgmProg
import Derived.Shelf.SortM.Plain
import Derived.Shelf.SortM.SortNone
import Derived.Shelf.SlGeneric
import Derived.Test.YthimcecbgpamdaaGreatDoorProg
namespace Go.Proofs
open Go.Shelf
section
open Tryz
theorem kS{α:Type _}{x:Option α}{a b:α}(h:x=some a)(e:a=b:=by kernel_rfl):x=some b:=h.trans (congrArg some e)
theorem kD{p:Prop}(h:p:=by decide):p:=h
theorem kK{p:Prop}(h:p:=by kernel_rfl):p:=h
def Tryz.sortInts_ren:Ren:=⟨fun|5=>273|8=>292|7=>291|19=>311|20=>175|10=>302|11=>303|12=>304|13=>305|14=>306|15=>307|16=>308|17=>309|18=>310|30=>316|31=>317|32=>318|33=>319|34=>320|35=>321|40=>323|n=>n,fun|23=>72|25=>3|3=>3|32=>86|22=>72|0=>0|44=>168|46=>83|4=>4|36=>325|35=>324|41=>134|5=>5|9=>9|53=>331|57=>334|63=>336|64=>337|n=>n,fun|n=>n⟩
theorem Tryz.sortInts:SlLaysM.n5 Tryz.prog Tryz.sortInts_ren:=⟨kK,⟨f273.name,kD,kS func273⟩,⟨f291.name,kD,kS func291⟩,kS func292,⟨f302.name,kD,kS func302⟩,⟨f303.name,kD,kS func303⟩,⟨f304.name,kD,kS func304⟩,⟨f305.name,kD,kS func305⟩,⟨f306.name,kD,kS func306⟩,⟨f307.name,kD,kS func307⟩,⟨f308.name,kD,kS func308⟩,⟨f309.name,kD,kS func309⟩,⟨f310.name,kD,kS func310⟩,kS func311,kS func175,⟨f316.name,kD,kS func316⟩,kS func317,kS func318,⟨f319.name,kD,kS func319⟩,⟨f320.name,kD,kS func320⟩,⟨f321.name,kD,kS func321⟩,⟨f323.name,kD,kS func323⟩,underlying0,isAgg0,sizeOf0,zeroValue0,underlying3,isAgg3,sizeOf3,zeroValue3,underlying4,isAgg4,sizeOf4,zeroValue4,underlying5,isAgg5,sizeOf5,zeroValue5,underlying9,isAgg9,sizeOf9,zeroValue9,underlying72,isAgg72,sizeOf72,zeroValue72,underlying72,isAgg72,sizeOf72,zeroValue72,underlying3,isAgg3,sizeOf3,zeroValue3,underlying86,isAgg86,sizeOf86,zeroValue86,underlying324,isAgg324,sizeOf324,zeroValue324,underlying325,isAgg325,sizeOf325,zeroValue325,underlying134,isAgg134,sizeOf134,zeroValue134,underlying168,isAgg168,sizeOf168,zeroValue168,underlying83,isAgg83,sizeOf83,zeroValue83,underlying331,isAgg331,sizeOf331,zeroValue331,underlying334,isAgg334,sizeOf334,zeroValue334,underlying336,isAgg336,sizeOf336,zeroValue336,underlying337,isAgg337,sizeOf337,zeroValue337⟩
def Tryz.lays160_ren:Ren:=⟨fun|160=>234|232=>261|231=>260|227=>262|234=>264|233=>263|236=>266|235=>265|228=>285|271=>287|151=>286|197=>137|120=>301|152=>300|260=>194|137=>314|119=>315|224=>197|225=>196|217=>195|266=>229|n=>n,fun|9=>9|4=>4|3=>3|5=>5|117=>296|116=>295|0=>0|124=>299|21=>21|105=>193|46=>86|119=>272|139=>275|138=>274|n=>n,fun|3=>2|4=>3|n=>n⟩
theorem Tryz.lays160:Lays.n160 Tryz.prog Tryz.lays160_ren:=⟨kK,kS func315,kS func301,kS func314,kS func286,kS func300,kS func234,kS func137,kS func195,kS func197,kS func196,kS func262,kS func285,kS func260,kS func261,kS func263,kS func264,kS func265,kS func266,kS func194,kS func229,kS func287,underlying0,isAgg0,sizeOf0,zeroValue0,underlying3,isAgg3,sizeOf3,zeroValue3,underlying4,isAgg4,sizeOf4,zeroValue4,underlying5,isAgg5,sizeOf5,zeroValue5,underlying9,isAgg9,sizeOf9,zeroValue9,underlying21,isAgg21,sizeOf21,zeroValue21,underlying86,isAgg86,sizeOf86,zeroValue86,underlying193,isAgg193,sizeOf193,zeroValue193,underlying295,isAgg295,sizeOf295,underlying296,isAgg296,sizeOf296,zeroValue296,underlying272,isAgg272,sizeOf272,underlying299,isAgg299,sizeOf299,zeroValue299,underlying274,isAgg274,sizeOf274,zeroValue274,underlying275,isAgg275,sizeOf275,zeroValue275,kK,kK⟩
open Go.RowKit in
theorem Tryz.strings_Trim_one(s:ByteArray)(c:UInt8)(hc:c.toNat<128)(w:World)(hs:s.size<=9223372036854775807):Calls Tryz.prog 234 #[.string s,.string ⟨#[c]⟩] w λe w'=>e=.returned (.string ⟨(Lib.trimB s.data.toList c).toArray⟩)/\(w'=w\/w'=w.drew):=Any.strings_Trim_one Tryz.lays160 s c hc w hs
def Tryz.lays103_ren:Ren:=⟨fun|103=>199|210=>231|206=>259|n=>n,fun|9=>9|4=>4|24=>236|3=>3|n=>n,fun|n=>n⟩
theorem Tryz.lays103:Lays.n103 Tryz.prog Tryz.lays103_ren:=⟨kK,kS func199,kS func259,kS func231,underlying3,isAgg3,sizeOf3,zeroValue3,underlying4,isAgg4,sizeOf4,zeroValue4,underlying9,isAgg9,sizeOf9,zeroValue9,underlying236,isAgg236,sizeOf236,zeroValue236⟩
open Go.RowKit in
theorem Tryz.strings_CutPrefix(s p:ByteArray)(w:World):Calls Tryz.prog 199 #[.string s,.string p] w λe w'=>e=.returned (.tuple #[.string ⟨(Lib.trimPrefix s.data.toList p.data.toList).toArray⟩,.bool (Lib.hasPrefix s.data.toList p.data.toList)])/\w'=w:=Any.strings_CutPrefix Tryz.lays103 s p w
def Tryz.lays283_ren:Ren:=⟨fun|283=>115|n=>n,fun|3=>3|9=>9|4=>4|n=>n,fun|n=>n⟩
theorem Tryz.lays283:Lays.n283 Tryz.prog Tryz.lays283_ren:=⟨kK,kS func115,underlying3,isAgg3,sizeOf3,zeroValue3,underlying4,isAgg4,sizeOf4,zeroValue4,underlying9,isAgg9,sizeOf9,zeroValue9⟩
open Go.Lib in
theorem Tryz.internal_strconv_small(i:Nat)(h:i<100)(w:World):Calls Tryz.prog 115 #[.int .i64 i] w λe w'=>e=.returned (.string ⟨(Lib.decDigits i).toArray⟩)/\w'=w:=Any.internal_strconv_small Tryz.lays283 i h w
def Tryz.laysM284_ren:Ren:=⟨fun|284=>116|129=>175|317=>174|318=>176|n=>n,fun|53=>83|3=>3|212=>221|0=>0|4=>4|46=>86|5=>5|9=>9|n=>n,fun|17=>0|n=>n⟩
set_option maxRecDepth 100000 in
theorem Tryz.laysM284:LaysM.n284 Tryz.prog Tryz.laysM284_ren:={mixed:=kK,f129:=kS func175,f284:=kS func116,f317:=kS func174,f318:=kS func176,t0:=underlying0,a0:=isAgg0,z0:=sizeOf0,v0:=zeroValue0,t3:=underlying3,a3:=isAgg3,z3:=sizeOf3,v3:=zeroValue3,t4:=underlying4,a4:=isAgg4,z4:=sizeOf4,v4:=zeroValue4,t5:=underlying5,a5:=isAgg5,z5:=sizeOf5,v5:=zeroValue5,t9:=underlying9,a9:=isAgg9,z9:=sizeOf9,v9:=zeroValue9,t46:=underlying86,a46:=isAgg86,z46:=sizeOf86,v46:=zeroValue86,t53:=underlying83,a53:=isAgg83,z53:=sizeOf83,v53:=zeroValue83,t212:=underlying221,a212:=isAgg221,z212:=sizeOf221,v212:=zeroValue221,g17:=kK,i0:=kK,i3:=kK,i4:=kK,i5:=kK,i9:=kK,i46:=kK,i53:=kK,i212:=kK,m17:=kK}
open Go.Lib in
theorem Tryz.internal_strconv_numDigits (u : Nat) (h1 : 1 ≤ u) (h2 : u < 18446744073709551616) (w : World) (htab : Lib.TabIs Tryz.prog w "internal/strconv.uint64pow10" .u64 Lib.pow10Tab):Calls Tryz.prog 116 #[.int .u64 u] w λe w'=>e=.returned (.int .i64 (Lib.nDigits u))/\w'=w:=Any.internal_strconv_numDigits Tryz.laysM284 u h1 h2 w htab
def Tryz.lays285_ren:Ren:=⟨fun|285=>117|n=>n,fun|37=>65|53=>83|3=>3|4=>4|51=>168|9=>9|5=>5|0=>0|n=>n,fun|n=>n⟩
theorem Tryz.lays285:Lays.n285 Tryz.prog Tryz.lays285_ren:=⟨kK,kS func117,underlying0,isAgg0,sizeOf0,zeroValue0,underlying3,isAgg3,sizeOf3,zeroValue3,underlying4,isAgg4,sizeOf4,zeroValue4,underlying5,isAgg5,sizeOf5,zeroValue5,underlying9,isAgg9,sizeOf9,zeroValue9,underlying65,isAgg65,sizeOf65,zeroValue65,underlying168,isAgg168,sizeOf168,zeroValue168,underlying83,isAgg83,sizeOf83,zeroValue83⟩
open Go.RowKit Go.Sort Go.Lib in
theorem Tryz.internal_strconv_formatBase10(blk off cap:Nat)(u:Nat)(d:Array UInt8)(w:World)(hH:Holds (fun (b:UInt8)=>Value.int .u8 (b.toNat:Int)) w blk off d)(hu:u<10 ^ d.size)(hu64:u<18446744073709551616)(hsz:d.size<4611686018427387904):Calls Tryz.prog 117 #[.slice (some ⟨blk,off,none⟩) d.size cap,.int .u64 u] w λe w' =>
      e=.returned (.tuple #[])/\∃ (n v':Nat) (dk:Array UInt8),w'=(putRow (fun (b:UInt8)=>Value.int .u8 (b.toNat:Int)) w blk off dk).drewN n/\FmtInv d.size u 0 v' dk:=Any.internal_strconv_formatBase10 Tryz.lays285 blk off cap u d w hH hu hu64 hsz
def Tryz.laysM171_ren:Ren:=⟨fun|171=>17|243=>45|246=>85|283=>115|284=>116|285=>117|286=>118|129=>175|317=>174|318=>176|319=>177|320=>178|337=>215|338=>216|n=>n,fun|3=>3|9=>9|2=>2|4=>4|171=>171|0=>0|53=>83|37=>65|5=>5|173=>174|212=>221|51=>168|20=>20|213=>222|46=>86|232=>281|233=>282|n=>n,fun|17=>0|18=>4|19=>5|n=>n⟩
set_option maxRecDepth 100000 in
theorem Tryz.laysM171:LaysM.n171 Tryz.prog Tryz.laysM171_ren:={mixed:=kK,f129:=kS func175,f171:=kS func17,f243:=kS func45,f246:=kS func85,f283:=kS func115,f284:=kS func116,f285:=kS func117,f286:=kS func118,f317:=kS func174,f318:=kS func176,f319:=kS func177,f320:=kS func178,f337:=kS func215,f338:=kS func216,t0:=underlying0,a0:=isAgg0,z0:=sizeOf0,v0:=zeroValue0,t2:=underlying2,a2:=isAgg2,z2:=sizeOf2,v2:=zeroValue2,t3:=underlying3,a3:=isAgg3,z3:=sizeOf3,v3:=zeroValue3,t4:=underlying4,a4:=isAgg4,z4:=sizeOf4,v4:=zeroValue4,t5:=underlying5,a5:=isAgg5,z5:=sizeOf5,v5:=zeroValue5,t9:=underlying9,a9:=isAgg9,z9:=sizeOf9,v9:=zeroValue9,t20:=underlying20,a20:=isAgg20,z20:=sizeOf20,v20:=zeroValue20,t37:=underlying65,a37:=isAgg65,z37:=sizeOf65,v37:=zeroValue65,t46:=underlying86,a46:=isAgg86,z46:=sizeOf86,v46:=zeroValue86,t51:=underlying168,a51:=isAgg168,z51:=sizeOf168,v51:=zeroValue168,t53:=underlying83,a53:=isAgg83,z53:=sizeOf83,v53:=zeroValue83,t171:=underlying171,a171:=isAgg171,z171:=sizeOf171,v171:=zeroValue171,t173:=underlying174,a173:=isAgg174,z173:=sizeOf174,v173:=zeroValue174,t212:=underlying221,a212:=isAgg221,z212:=sizeOf221,v212:=zeroValue221,t213:=underlying222,a213:=isAgg222,z213:=sizeOf222,t232:=underlying281,a232:=isAgg281,z232:=sizeOf281,v232:=zeroValue281,t233:=underlying282,a233:=isAgg282,z233:=sizeOf282,v233:=zeroValue282,g17:=kK,g18:=kK,g19:=kK,i0:=kK,i2:=kK,i3:=kK,i4:=kK,i5:=kK,i9:=kK,i20:=kK,i37:=kK,i46:=kK,i51:=kK,i53:=kK,i171:=kK,i173:=kK,i212:=kK,i232:=kK,i233:=kK,m17:=kK,m18:=kK,m19:=kK}
open Go.RowKit Go.Sort Go.Lib in
theorem Tryz.strconv_Itoa (n : Int) (h0 : -9223372036854775808 ≤ n) (h1 : n ≤ 9223372036854775807) (w : World) (htab : Lib.TabIs Tryz.prog w "internal/strconv.uint64pow10" .u64 Lib.pow10Tab):Calls Tryz.prog 17 #[.int .i64 n] w λe w'=>e=.returned (.string ⟨(Lib.itoa n).toArray⟩)/\∃ k os,w'=grow (w.drewN k) os:=Any.strconv_Itoa Tryz.laysM171 n h0 h1 w htab
def Tryz.lays145_ren:Ren:=⟨fun|145=>200|220=>232|219=>139|217=>195|225=>196|224=>197|267=>198|266=>229|314=>230|n=>n,fun|9=>9|4=>4|59=>238|3=>3|5=>5|46=>86|146=>276|51=>168|n=>n,fun|1=>1|n=>n⟩
theorem Tryz.lays145:Lays.n145 Tryz.prog Tryz.lays145_ren:=⟨kK,kS func200,kS func195,kS func139,kS func232,kS func197,kS func196,kS func229,kS func198,kS func230,underlying3,isAgg3,sizeOf3,zeroValue3,underlying4,isAgg4,sizeOf4,zeroValue4,underlying5,isAgg5,sizeOf5,zeroValue5,underlying9,isAgg9,sizeOf9,zeroValue9,underlying86,isAgg86,sizeOf86,zeroValue86,underlying168,isAgg168,sizeOf168,zeroValue168,underlying238,isAgg238,sizeOf238,zeroValue238,underlying276,isAgg276,sizeOf276,zeroValue276,kK⟩
open Go.RowKit Go.Lib in
theorem Tryz.strings_Cut(s sep:ByteArray)(m:Int)(w:World)(hs:s.size<4294967281)(hm:w.cell? ⟨1,0,none⟩=some (.int .i64 m)):Calls Tryz.prog 200 #[.string s,.string sep] w λe w'=>e=.returned (.tuple #[.string ⟨(Lib.cut s.data.toList sep.data.toList).1.toArray⟩,.string ⟨(Lib.cut s.data.toList sep.data.toList).2.1.toArray⟩,.bool (Lib.cut s.data.toList sep.data.toList).2.2])/\∃ n,w'=w.drewN n:=Any.strings_Cut Tryz.lays145 s sep m w hs hm
def Tryz.lays146_ren:Ren:=⟨fun|146=>13|221=>37|268=>77|138=>78|143=>79|195=>136|197=>137|218=>138|219=>139|260=>194|217=>195|225=>196|224=>197|267=>198|266=>229|314=>230|n=>n,fun|9=>9|31=>59|3=>3|4=>4|0=>0|105=>193|21=>21|5=>5|46=>86|119=>272|139=>275|138=>274|146=>276|51=>168|n=>n,fun|1=>1|3=>2|4=>3|n=>n⟩
theorem Tryz.lays146:Lays.n146 Tryz.prog Tryz.lays146_ren:=⟨kK,kS func78,kS func79,kS func13,kS func136,kS func137,kS func195,kS func138,kS func139,kS func37,kS func197,kS func196,kS func194,kS func229,kS func198,kS func77,kS func230,underlying0,isAgg0,sizeOf0,zeroValue0,underlying3,isAgg3,sizeOf3,zeroValue3,underlying4,isAgg4,sizeOf4,zeroValue4,underlying5,isAgg5,sizeOf5,zeroValue5,underlying9,isAgg9,sizeOf9,zeroValue9,underlying21,isAgg21,sizeOf21,zeroValue21,underlying59,isAgg59,sizeOf59,zeroValue59,underlying86,isAgg86,sizeOf86,zeroValue86,underlying168,isAgg168,sizeOf168,zeroValue168,underlying193,isAgg193,sizeOf193,zeroValue193,underlying272,isAgg272,sizeOf272,underlying274,isAgg274,sizeOf274,zeroValue274,underlying275,isAgg275,sizeOf275,zeroValue275,underlying276,isAgg276,sizeOf276,zeroValue276,kK,kK,kK⟩
open Go.RowKit Go.Lib in
theorem Tryz.strings_Split(s sep:ByteArray)(m:Int)(w:World)(hs:s.size<4294967281)(hm:w.cell? ⟨1,0,none⟩=some (.int .i64 m))(h1:1<=sep.size):Calls Tryz.prog 13 #[.string s,.string sep] w λe w' =>
      e=.returned (.slice (some ⟨w.heap.size,0,none⟩) (Lib.countB s sep + 1) (Lib.countB s sep + 1))/\w'=w.alloc (.cells ((Lib.splitB sep 0 (Lib.countB s sep) s).map Value.string).toArray 9):=Any.strings_Split Tryz.lays146 (by kernel_rfl) s sep m w hs hm h1
end
end Go.Proofs
