/- The library's contracts at this dump. -/
import Derived.Test.YtbebfliimjjohabGreatDoorMAl0
import Derived.Shelf.Strings.OnBuilder
import Derived.Shelf.Small.Wraps
import Derived.Shelf.Strings.BuilderK
import Derived.Shelf.Strconv.Itoa3
import Derived.Shelf.Strconv.ErrVarAll
import Derived.Shelf.Strings.Shaped
import Derived.Shelf.Sort.Plain
import Derived.Shelf.Bits.Mul64
import Derived.Shelf.Strings.FieldsFuncGrows
import Derived.Shelf.Slices.In.SortNone
import Derived.Shelf.SlIter.Nil
import Derived.Shelf.SortM.Plain
import Derived.Shelf.SortM.SortNone
import Derived.Test.YtbebfliimjjohabGreatDoorRows
set_option linter.all false
set_option maxRecDepth 100000
set_option maxHeartbeats 8000000
namespace Go.Proofs
open Go.Shelf
def Tryz.a4:Ren:=⟨fun|169=>51|n=>n,fun|70=>95|9=>9|0=>0|72=>97|37=>61|127=>175|3=>3|5=>5|n=>n,fun|n=>n⟩
theorem Tryz.b7:Lays.n169 Tryz.prog Tryz.a4:=by constructor<;>intros<;>first|kernel_rfl|decide|(constructor<;>intros<;>first|kernel_rfl|decide)
theorem Tryz.aw:Builder.Extra Tryz.prog Tryz.a4:=by constructor<;>intros<;>first|kernel_rfl|decide|(constructor<;>intros<;>first|kernel_rfl|decide)
def Tryz.a3:Ren:=⟨fun|156=>148|165=>203|166=>48|169=>51|240=>100|241=>243|276=>158|277=>269|n=>n,fun|31=>55|9=>9|3=>3|4=>4|0=>0|20=>20|72=>97|76=>48|70=>95|37=>61|75=>47|127=>175|164=>179|5=>5|80=>104|n=>n,fun|n=>n⟩
theorem Tryz.bu:Lays.n156 Tryz.prog Tryz.a3:=by constructor<;>intros<;>first|kernel_rfl|decide|(constructor<;>intros<;>first|kernel_rfl|decide)
theorem Tryz.ac:Builder.Extra Tryz.prog Tryz.a3:=by constructor<;>intros<;>first|kernel_rfl|decide|(constructor<;>intros<;>first|kernel_rfl|decide)
open Go.RowKit in
theorem Tryz.ae (a:Option Addr) (c:Nat) (sep:ByteArray) (w:World) :
  Calls Tryz.prog 148 #[.slice a 0 c,.string sep] w fun e w'=>e=.returned (.string ⟨#[]⟩)∧w'=w:=Any.strings_Join_none Tryz.bu Tryz.ac a c sep w
open Go.RowKit in
theorem Tryz.aq (bk o c:Nat) (xs:List ByteArray) {sep:ByteArray} (w:World) (hcells:∀ (j:Nat) x,xs[j]?=some x→cC w (aA bk (o+j)) (.string x)) (hbk:bk < w.heap.size) (hN:xs.length≤140737488355328) (hcap:xs.length≤c) (hlen:(Lib.join (xs.map (·.data.toList)) sep.data.toList).length≤140737488355328) :
  Calls Tryz.prog 148 #[.slice (some (aA bk o)) xs.length c,.string sep] w fun e w'=>e=.returned (.string ⟨(Lib.join (xs.map (·.data.toList)) sep.data.toList).toArray⟩)∧Below w.heap.size w w':=Any.strings_Join Tryz.bu Tryz.ac bk o c xs sep w hcells hbk hN hcap hlen
def Tryz.bd:Ren:=⟨fun|121=>151|214=>207|n=>n,fun|4=>4|9=>9|n=>n,fun|n=>n⟩
theorem Tryz.b5:Lays.n121 Tryz.prog Tryz.bd:=by constructor<;>intros<;>first|kernel_rfl|decide|(constructor<;>intros<;>first|kernel_rfl|decide)
open Go.RowKit in
theorem Tryz.an (b:Bool) (w:World) :
  Calls Tryz.prog 151 #[.bool b] w fun e w'=>e=.returned (.string ⟨(Lib.formatBool b).toArray⟩)∧w'=w:=Any.strconv_FormatBool Tryz.b5 b w
open Go.RowKit in
theorem Tryz.ag {B b:Nat} {l:List UInt8} {w:World} (h:Lib.IsBuilderF 97 5 B b (Lib.byteCells l) w) (hBw:B≤w.heap.size) :
  Calls Tryz.prog 51 #[.pointer (some (aA b 0))] w fun e w'=>e=.returned (.string ⟨l.toArray⟩)∧(Lib.IsBuilderF 97 5 B b (Lib.byteCells l) w'∧Below B w w'∧Lib.OthersKept 5 (some b) w w'):=Any.Builder_String_any_k Tryz.b7 Tryz.aw B b l w h hBw
def Tryz.a9:Ren:=⟨fun|171=>78|243=>143|246=>201|283=>238|284=>239|285=>240|286=>241|129=>263|317=>262|318=>264|319=>265|320=>266|337=>284|338=>285|n=>n,fun|3=>3|9=>9|2=>2|4=>4|171=>317|0=>0|53=>110|37=>61|5=>5|173=>320|212=>340|51=>113|20=>20|213=>341|46=>67|232=>364|233=>365|n=>n,fun|17=>4|18=>5|19=>6|n=>n⟩
theorem Tryz.b2:Go.Proofs.LaysM.n171 Tryz.prog Tryz.a9:=by constructor<;>intros<;>first|kernel_rfl|decide|(constructor<;>intros<;>first|kernel_rfl|decide)
open Go.RowKit Go.Sort Go.Lib in
theorem Tryz.af (n : Int) (h0 : -9223372036854775808 ≤ n) (h1 : n ≤ 9223372036854775807) {w : World} (htab : Lib.TabIs Tryz.prog w "internal/strconv.uint64pow10" .u64 Lib.pow10Tab) :
  Calls Tryz.prog 78 #[iI n] w fun e w'=>e=.returned (.string ⟨(Lib.itoa n).toArray⟩)∧∃ k os,w'=grow (w.drewN k) os:=Any.strconv_Itoa Tryz.b2 n h0 h1 w htab
def Tryz.bf:Ren:=⟨fun|171=>78|243=>143|246=>201|283=>238|284=>239|285=>240|286=>241|129=>263|317=>262|318=>264|319=>265|320=>266|337=>284|338=>285|n=>n,fun|3=>3|9=>9|2=>2|4=>4|171=>317|0=>0|53=>110|37=>61|5=>5|173=>320|212=>340|51=>113|20=>20|213=>341|46=>67|232=>364|233=>365|n=>n,fun|17=>4|18=>5|19=>6|n=>n⟩
theorem Tryz.b8:Lays.n171 Tryz.prog Tryz.bf:=by constructor<;>intros<;>first|kernel_rfl|decide|(constructor<;>intros<;>first|kernel_rfl|decide)
open Go.RowKit Go.Sort Go.Lib in
theorem Tryz.ao {i:Nat} (hi:i < 100) (w:World) :
  Calls Tryz.prog 78 #[iI i] w fun e w'=>e=.returned (.string ⟨(Lib.decDigits i).toArray⟩)∧w'=w:=Any.strconv_Itoa_small Tryz.b8 i hi w
def Tryz.a8:Ren:=⟨fun|172=>242|244=>267|245=>268|247=>286|279=>287|280=>288|281=>289|282=>290|287=>297|316=>298|171=>78|205=>299|321=>301|322=>302|243=>143|246=>201|283=>238|284=>239|285=>240|286=>241|129=>263|317=>262|318=>264|319=>265|320=>266|337=>284|338=>285|n=>n,fun|9=>9|3=>3|75=>47|76=>48|4=>4|5=>5|167=>354|37=>61|0=>0|85=>355|2=>2|168=>357|53=>110|175=>366|46=>67|210=>369|127=>175|145=>377|143=>375|21=>21|171=>317|173=>320|212=>340|51=>113|20=>20|213=>341|232=>364|233=>365|80=>104|n=>n,fun|15=>7|16=>8|17=>4|18=>5|19=>6|n=>n⟩
theorem Tryz.a5:Go.Proofs.LaysC.n172 Tryz.prog Tryz.a8:=by constructor<;>intros<;>first|kernel_rfl|decide|(constructor<;>intros<;>first|kernel_rfl|decide|(constructor<;>intros<;>first|kernel_rfl|decide))
open Go.RowKit in
theorem Tryz.a6 (s:ByteArray) (hmax:s.size≤9223372036854775806) {v:Int} (h:Lib.atoiAll s.data.toList=.ok v) (w:World) :
  Calls Tryz.prog 242 #[.string s] w fun e w'=>e=.returned (.tuple #[iI v,.nilIface])∧(w'=w ∨ ∃ t,w'=Lib.bytesWorld w 5 t):=Any.strconv_Atoi_ok Tryz.a5 s hmax v h w
open Go.RowKit in
theorem Tryz.ai (s:ByteArray) (hlim:s.size≤281474976710656) (h:Lib.atoiAll s.data.toList=.«syntax») {ev:Value} {w:World} (hv:cC w (aA 7 0) ev) (hev:ev=.nilIface ∨ ∃ te pe,ev=.iface te pe) :
  Calls Tryz.prog 242 #[.string s] w fun e w'=>∃ N,e=.returned (.tuple #[iI (0),.iface 357 (.pointer (some (aA N 0)))])∧w.heap.size≤N∧w'.heap[N]?=some (.cells #[.string ⟨#[65,116,111,105]⟩,.string s,ev] 369 (0,0))∧Below w.heap.size w w':=Any.strconv_Atoi_syntax Tryz.a5 s hlim h ev w hv hev
open Go.RowKit in
theorem Tryz.al (s:ByteArray) (hlim:s.size≤281474976710656) (h:Lib.atoiAll s.data.toList=.range) {ev:Value} {w:World} (hv:cC w (aA 8 0) ev) (hev:ev=.nilIface ∨ ∃ te pe,ev=.iface te pe) :
  Calls Tryz.prog 242 #[.string s] w fun e w'=>∃ N,e=.returned (.tuple #[iI (Lib.atoiSat s.data.toList),.iface 357 (.pointer (some (aA N 0)))])∧w.heap.size≤N∧w'.heap[N]?=some (.cells #[.string ⟨#[65,116,111,105]⟩,.string s,ev] 369 (0,0))∧Below w.heap.size w w':=Any.strconv_Atoi_range Tryz.a5 s hlim h ev w hv hev
def Tryz.be:Ren:=⟨fun|143=>156|219=>210|217=>247|225=>248|224=>249|267=>250|266=>280|314=>281|n=>n,fun|9=>9|3=>3|4=>4|5=>5|46=>67|146=>211|51=>113|n=>n,fun|1=>3|n=>n⟩
theorem Tryz.b6:Lays.n143 Tryz.prog Tryz.be:=by constructor<;>intros<;>first|kernel_rfl|decide|(constructor<;>intros<;>first|kernel_rfl|decide)
open Go.RowKit Go.Lib in
theorem Tryz.aU (s:ByteArray) (c:UInt8) (w:World) :
  Calls Tryz.prog 156 #[.string s,.string ⟨#[c]⟩] w fun e w'=>e=.returned (iI (Lib.indexByte s.data.toList c))∧w'=w:=Any.strings_Index_one Tryz.b6 s c w
def Tryz.bc:Ren:=⟨fun|102=>47|209=>99|207=>157|n=>n,fun|9=>9|4=>4|3=>3|n=>n,fun|n=>n⟩
theorem Tryz.b4:Lays.n102 Tryz.prog Tryz.bc:=by constructor<;>intros<;>first|kernel_rfl|decide|(constructor<;>intros<;>first|kernel_rfl|decide)
open Go.RowKit Go.Lib in
theorem Tryz.av (s p:ByteArray) (w:World) (hs:s.size≤9223372036854775807) :
  Calls Tryz.prog 47 #[.string s,.string p] w fun e w'=>e=.returned (.string ⟨(Lib.trimSuffix s.data.toList p.data.toList).toArray⟩)∧w'=w:=Any.strings_TrimSuffix Tryz.b4 s p w hs
def Tryz.bk:Ren:=⟨fun|229=>102|n=>n,fun|9=>9|40=>173|31=>55|152=>238|3=>3|0=>0|4=>4|21=>21|154=>240|n=>n,fun|n=>n⟩
theorem Tryz.ca:Lays.n229 Tryz.prog Tryz.bk:=by constructor<;>intros<;>first|kernel_rfl|decide|(constructor<;>intros<;>first|kernel_rfl|decide)
open Go.RowKit Go.Lib in
theorem Tryz.ap {g:Nat} (lb:Array Value) (eg:∀ args w,(callFunc g args).run Tryz.prog w=.ok (.enter g args) w) (p:Nat→Bool) {s:ByteArray} (w:World) (hs:s.size≤4294967296) (hp:PredAt Tryz.prog g lb encR p w) :
  Calls Tryz.prog 102 #[.string s,.func (.func g) #[] lb] w fun e w'=>∃ A,e=.returned (.slice (some (aA A 0)) (Lib.goFieldsP p s).length (Lib.goFieldsP p s).length)∧w.heap.size≤A ∧
   w'.ownsRow w.heap.size 9 1 (.slice (some (aA A 0)) (Lib.goFieldsP p s).length (Lib.goFieldsP p s).length) (Lib.goFieldsP p s).length ((Lib.goFieldsP p s).map Value.string)∧Below w.heap.size w w':=Any.strings_FieldsFunc Tryz.ca g lb eg p s w hs hp (by kernel_rfl) (by kernel_rfl)
def Tryz.a2:Ren:=⟨fun|7=>150|10=>206|n=>n,fun|23=>166|26=>9|3=>169|28=>99|0=>0|27=>98|33=>233|4=>4|n=>n,fun|n=>n⟩
theorem Tryz.bs:Go.Proofs.SlLaysZ.n7 Tryz.prog Tryz.a2:=by constructor<;>intros<;>first|kernel_rfl|decide|exact ⟨Tryz.f150.name,by decide,Tryz.func150.trans (cr some (by kernel_rfl))⟩|exact ⟨Tryz.f206.name,by decide,Tryz.func206.trans (cr some (by kernel_rfl))⟩
def Tryz.ah:Ren:=⟨fun|6=>149|8=>204|9=>205|11=>244|13=>246|12=>245|23=>279|24=>263|14=>270|15=>271|16=>272|17=>273|18=>274|19=>275|20=>276|21=>277|22=>278|25=>291|26=>292|27=>293|28=>294|29=>295|30=>296|31=>300|n=>n,fun|26=>9|28=>99|24=>55|0=>0|3=>3|37=>67|48=>113|50=>110|4=>4|40=>346|39=>345|45=>284|5=>5|9=>9|51=>360|55=>274|57=>371|58=>372|33=>233|n=>n,fun|n=>n⟩
theorem Tryz.b1:Go.Proofs.SlLaysZ.n6 Tryz.prog Tryz.ah:=by constructor<;>intros<;>first|kernel_rfl|decide|exact ⟨Tryz.f149.name,by decide,Tryz.func149.trans (cr some (by kernel_rfl))⟩|exact ⟨Tryz.f204.name,by decide,Tryz.func204.trans (cr some (by kernel_rfl))⟩|exact ⟨Tryz.f244.name,by decide,Tryz.func244.trans (cr some (by kernel_rfl))⟩
def Tryz.bl:Ren:=⟨fun|6=>205|8=>246|9=>245|19=>279|20=>263|21=>270|22=>271|23=>272|24=>273|25=>274|26=>275|27=>276|28=>277|29=>278|36=>291|31=>292|32=>293|37=>294|38=>295|39=>296|41=>300|n=>n,fun|27=>55|29=>9|3=>3|32=>67|26=>55|0=>0|44=>113|46=>110|4=>4|36=>346|35=>345|41=>284|5=>5|9=>9|53=>360|57=>274|63=>371|64=>372|n=>n,fun|n=>n⟩
theorem Tryz.b0:Go.Proofs.SlLaysM.n6 Tryz.prog Tryz.bl:=by constructor<;>intros<;>first|kernel_rfl|decide|exact ⟨Tryz.f205.name,by decide,Tryz.func205.trans (cr some (by kernel_rfl))⟩|exact ⟨Tryz.f245.name,by decide,Tryz.func245.trans (cr some (by kernel_rfl))⟩|exact ⟨Tryz.f270.name,by decide,Tryz.func270.trans (cr some (by kernel_rfl))⟩|exact ⟨Tryz.f271.name,by decide,Tryz.func271.trans (cr some (by kernel_rfl))⟩|exact ⟨Tryz.f272.name,by decide,Tryz.func272.trans (cr some (by kernel_rfl))⟩|exact ⟨Tryz.f273.name,by decide,Tryz.func273.trans (cr some (by kernel_rfl))⟩|exact ⟨Tryz.f274.name,by decide,Tryz.func274.trans (cr some (by kernel_rfl))⟩|exact ⟨Tryz.f275.name,by decide,Tryz.func275.trans (cr some (by kernel_rfl))⟩|exact ⟨Tryz.f276.name,by decide,Tryz.func276.trans (cr some (by kernel_rfl))⟩|exact ⟨Tryz.f277.name,by decide,Tryz.func277.trans (cr some (by kernel_rfl))⟩|exact ⟨Tryz.f278.name,by decide,Tryz.func278.trans (cr some (by kernel_rfl))⟩|exact ⟨Tryz.f291.name,by decide,Tryz.func291.trans (cr some (by kernel_rfl))⟩|exact ⟨Tryz.f294.name,by decide,Tryz.func294.trans (cr some (by kernel_rfl))⟩|exact ⟨Tryz.f295.name,by decide,Tryz.func295.trans (cr some (by kernel_rfl))⟩|exact ⟨Tryz.f296.name,by decide,Tryz.func296.trans (cr some (by kernel_rfl))⟩|exact ⟨Tryz.f300.name,by decide,Tryz.func300.trans (cr some (by kernel_rfl))⟩
end Go.Proofs
