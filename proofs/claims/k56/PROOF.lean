import PyProof.Rows.All
import Wide.All
import OpenK.KSplit
import OpenK.KNot
import OpenK.KApp
import KE.KPop
import KE.KListMore
import KE.RegKMod
import KE.KDictOf
import KE.KDictMeth
import KE.KEqSeq
import KE.KSlice
import KE.GnPush
import KE.KSorted
import KE.KJoinElse
import KE.RegTryLedger
import KE.KTops
import KE.RegKSuper
import KE.KSort
import KE.KDictLoop
import KE.RegLcTurns
import KE.RegLcAnyAll
import KE.KCat
import KE.KTemps
import KE.KTup
import KE.KxMul
import KE.KxSplit
import KE.KxIndex
import KE.KxText
import KE.KCells
import KE.KPassesOwn
import KE.RegKIsNot
import KE.KTempsTwo
import KE.KSetInts
import KE.KSortedL
import KE.KxBytes
import KE.KClos
import KE.KNestStore
import KE.KOwnIter
import KE.KStopIter
import KE.RegKBase
import KE.KDictOne
import KE.RegKMathG
import KE.KDictAny
import KE.RegKCallOwn
import KE.KSliceW
import KE.KxDecode
import KE.RegKMathGB
import KE.KLam
import KE.KDictBranch
import KE.KTree
import KE.KTreeB
import KE.KNestM
import KE.KDflt
import KE.KOwnIterCall
import KE.KSortedM
import KE.KTurns
import KE.KEqText
import KE.KxLen
import KE.RegKMathGC
import KE.KIsClose
import KE.KEqDict
import KE.KDisp
import KE.KDictAnyGet
import KE.KDictObj
import KE.KSetIn
import KE.KRevSl
import KE.KEqDeep
import KE.KAnyBase
import KE.KBoundM
import KE.KWhile
import KE.KRevIter
import KE.KCount
import KE.KTreeR
import KE.KxStill
import KE.KFinally
import KE.KTopLam
import KE.KWithOwn
import KE.KCases
import KE.KOpsOwn
import KE.KDictNew
import KE.KDictList
import KE.KDictIter
import KE.RegKUnpackStar
import KE.KSortAsk
import KE.KWhileD
import KE.KLcTest
import KE.KSumEnd
import KE.KPopAny
import KE.KGrown
import KE.KItemAt
import KE.KTextLit
import KE.KTupDict
import KE.KFmtOwn
import KE.KUnrMore
import KE.KMinKey
import KE.KTurnsDict
import KE.KExtendNil
import KE.KMethU
import KE.BytesMul
import KE.KCompFold
import KE.KDictSum
import KE.KDictName
import KE.KDictSym
import KE.KTurnsAny
import KE.KDictAnyTail
import KE.RegKStar
import KE.RegKParD
import KE.RegKTupTruth
import KE.RegKTupSum
import KE.KCallJoin
import KE.KMethJoin
import KE.KPathRangeEnd
import KE.KStateW
import KE.RegKParC
import KE.KxWritten
import KE.KxAdd
import KE.KxAffix
import KE.KxField
import KE.RegKIsAll
import KE.RegKMatchCls
import KE.KLcPair
import KE.RegKTryDeep
import KE.KJoinL
import KE.RegKNeg
import KE.KxPercentT
import KE.KBytesCut
import KE.KCellOne
import KE.KCompIf
import KE.KMenu
import KE.KxFormat
import KE.KTypeName
import KE.KCompText
import KE.BytesMulAny
import KE.KDictSymLen
import KE.KSortTup
import KE.KPairAssign
import KE.KTypeOf
import KE.KFinEnd
import KE.KMulAny
import KE.KBytesMenu
import KE.KTextDict
import KE.KPathShort
import KE.KSplitRange
import KE.KKinds
import KE.KxPart
import KE.KRangeItem
import KE.KDictLetter
import KE.KRangeNest
import KE.KSetAt
import KE.KWords
import KE.KxTruthy
import KE.KPairRows
import KE.KBytesMore
import KE.RegKStateDown
import KE.KItemsList
import KE.KRangePlain
import KE.KStateGiven
import KE.KBitsMul
import KE.KTextTable
import KE.KForList
import KE.KIdxIf
import KE.KAssignIn
import KE.KFirstTurn
import KE.KOwnRange
import KE.KLooksOwn
import KE.KDictWord
import KE.KStrOpen
import KE.KTurnsGround
import KE.KListEnd
import KE.KSearch
import KE.KFinFacts
import KE.RegKTryOn
import KE.KCenter
import KE.KStrWords
import KE.KStateTextK
import KE.KBools
import KE.KStateWGiven
import KE.KData
import KE.KCallTup
import KE.KTreeD
import KE.KTreeF
import KE.KEndWord
import KE.KStateBytes
import KE.KRangeEnd
import KE.KOf
import KE.KRepItem
import KE.KListLetter
import KE.KSliceSign
import KE.KCallBy
import KE.KToBytes
import KE.KPathText
import KE.KMinBuiltin
import KE.KFromBytes
import KE.KEqDat
import KE.KBytesUnr
import KE.KIsBytes
import KE.KCallRec
import KE.KEndW
import KE.RegLGe
import KE.RegLGeC
import Wide.FinOn
import Wide.FinOn
import Lean
import PyProof.EqAt
import PyProof.EqKinds
import PyProof.TupleCall
import PyProof.StrLawsRepr
import Open.Tops
import PySem.Challenge.RW_wakefew_k56_moved_and_put_off
theorem PySem.W.Fast.tw13089500736524491784 : True := trivial
theorem PySem.W.Fast.tw932839701382126404 : True := trivial
theorem PySem.W.Fast.tw3631656871647319896 : True := trivial
theorem PySem.W.Fast.tw387439790479957101 : True := trivial
theorem PySem.W.Fast.tw1025760287752684455 : True := trivial
theorem PySem.W.Fast.tw3516064617377766656 : True := trivial
theorem PySem.W.Fast.tw8867054461721091255 : True := trivial
theorem PySem.W.Fast.tw3218005775330375077 : True := trivial
theorem PySem.W.Fast.tw16379888610442495015 : True := trivial
theorem PySem.W.Fast.tw6730799606346601095 : True := trivial
theorem PySem.W.Fast.tw6439467606708576868 : True := trivial
theorem PySem.W.Fast.tw17707832003820305728 : True := trivial
theorem PySem.W.Fast.tw3700239575073459453 : True := trivial
theorem PySem.W.Fast.tw90803057024536643 : True := trivial
theorem PySem.W.Fast.tw943801932925859899 : True := trivial
theorem PySem.W.Fast.tw10470767135354783277 : True := trivial
theorem PySem.W.Fast.tw12482416048793413929 : True := trivial
theorem PySem.W.Fast.tw11482921538907906311 : True := trivial
theorem PySem.W.Fast.tw8064930512264004242 : True := trivial
theorem PySem.W.Fast.tw10721362489393800544 : True := trivial
theorem PySem.W.Fast.tw14892598091806800005 : True := trivial
theorem PySem.W.Fast.tw9586351824191611436 : True := trivial
theorem PySem.W.Fast.tw471977470053299304 : True := trivial
theorem PySem.W.Fast.tw1316087986286152420 : True := trivial
theorem PySem.W.Fast.tw4545706679782124219 : True := trivial
theorem PySem.W.Fast.tw6666559043179924279 : True := trivial
theorem PySem.W.Fast.tw981223384771073339 : True := trivial
theorem PySem.W.Fast.tw13506077134798917149 : True := trivial
theorem PySem.W.Fast.tw7580145462626200972 : True := trivial
theorem PySem.W.Fast.tw753945940515399995 : True := trivial
theorem PySem.W.Fast.tw7543438125037254646 : True := trivial
theorem PySem.W.Fast.tw2294418403102800241 : True := trivial
theorem PySem.W.Fast.tw5665416448403834472 : True := trivial
theorem PySem.W.Fast.tw7581923477882359491 : True := trivial
theorem PySem.W.Fast.tw16004516940456041683 : True := trivial
theorem PySem.W.Fast.tw2185501696125617402 : True := trivial
theorem PySem.W.Fast.tw2933093065390587649 : True := trivial
theorem PySem.W.Fast.tw14819080291411099926 : True := trivial
theorem PySem.W.Fast.tw3026621974035347941 : True := trivial
theorem PySem.W.Fast.tw7608669079472480322 : True := trivial
theorem PySem.W.Fast.tw7347646299108533977 : True := trivial
theorem PySem.W.Fast.tw15081236047687262128 : True := trivial
theorem PySem.W.Fast.tw2822231583121631232 : True := trivial
theorem PySem.W.Fast.tw9325732242189897795 : True := trivial
theorem PySem.W.Fast.tw7118287117881191995 : True := trivial
theorem PySem.W.Fast.tw6030172380048908837 : True := trivial
theorem PySem.W.Fast.tw11599782932045988894 : True := trivial
theorem PySem.W.Fast.tw14407044084701244284 : True := trivial
theorem PySem.W.Fast.tw13661213922799828492 : True := trivial
theorem PySem.W.Fast.tw330155496319486698 : True := trivial
theorem PySem.W.Fast.tw15892224895309441451 : True := trivial
theorem PySem.W.Fast.tw16385583269392354423 : True := trivial
theorem PySem.W.Fast.tw2980426699859973445 : True := trivial
theorem PySem.W.Fast.tw2794473791459032557 : True := trivial
theorem PySem.W.Fast.tw17032099095617713375 : True := trivial
theorem PySem.W.Fast.tw14253553031324457403 : True := trivial
theorem PySem.W.Fast.tw17786680949362927507 : True := trivial
theorem PySem.W.Fast.tw7335138855193807098 : True := trivial
theorem PySem.W.Fast.tw2612333837937074943 : True := trivial
theorem PySem.W.Fast.tw13755408982076200669 : True := trivial
theorem PySem.W.Fast.tw809850839145068621 : True := trivial
theorem PySem.W.Fast.tw11607787467894122695 : True := trivial
theorem PySem.W.Fast.tw10848011416125090953 : True := trivial
theorem PySem.W.Fast.tw1965450791366853502 : True := trivial
theorem PySem.W.Fast.tw5771095720852586221 : True := trivial
theorem PySem.W.Fast.tw6112215248588426838 : True := trivial
theorem PySem.W.Fast.tw5771212635227818586 : True := trivial
theorem PySem.W.Fast.tw16093653414049546652 : True := trivial
theorem PySem.W.Fast.tw855730746249038353 : True := trivial
theorem PySem.W.Fast.tw3353767071951380034 : True := trivial
theorem PySem.W.Fast.tw16774796116395802487 : True := trivial
theorem PySem.W.Fast.tw668532748945746099 : True := trivial
theorem PySem.W.Fast.tw13554275593581921259 : True := trivial
theorem PySem.W.Fast.tw10409986649079015688 : True := trivial
theorem PySem.W.Fast.tw62836327816556747 : True := trivial
theorem PySem.W.Fast.tw2044002623108650808 : True := trivial
theorem PySem.W.Fast.tw14362563580960605921 : True := trivial
theorem PySem.W.Fast.tw13320976621430207736 : True := trivial
theorem PySem.W.Fast.tw4918430437565292852 : True := trivial
theorem PySem.W.Fast.tw16114838954672009220 : True := trivial
theorem PySem.W.Fast.tw4630701116536035187 : True := trivial
theorem PySem.W.Fast.tw16559655183086133750 : True := trivial
theorem PySem.W.Fast.tw6914374587234257311 : True := trivial
theorem PySem.W.Fast.tw15780751172238540915 : True := trivial
theorem PySem.W.Fast.tw5033419791708155152 : True := trivial
theorem PySem.W.Fast.tw2560717606541366124 : True := trivial
theorem PySem.W.Fast.tw16756865982451161484 : True := trivial
theorem PySem.W.Fast.tw3638351932773456767 : True := trivial
theorem PySem.W.Fast.tw14448676985275196306 : True := trivial
theorem PySem.W.Fast.tw12238792519942966742 : True := trivial
theorem PySem.W.Fast.tw14947457668237752282 : True := trivial
theorem PySem.W.Fast.tw10533029409156384213 : True := trivial
theorem PySem.W.Fast.tw10530222579774268994 : True := trivial
theorem PySem.W.Fast.tw2269513273914215736 : True := trivial
theorem PySem.W.Fast.tw11668394020979418466 : True := trivial
theorem PySem.W.Fast.tw4462040801977109988 : True := trivial
theorem PySem.W.Fast.tw17043358873854988142 : True := trivial
theorem PySem.W.Fast.tw5575129259032151492 : True := trivial
theorem PySem.W.Fast.tw2983508501658982437 : True := trivial
theorem PySem.W.Fast.tw6968123214355550982 : True := trivial
theorem PySem.W.Fast.tw1351866352697404703 : True := trivial
theorem PySem.W.Fast.tw14960208021732247765 : True := trivial
theorem PySem.W.Fast.tw13205173867919175854 : True := trivial
theorem PySem.W.Fast.tw4152223762509475540 : True := trivial
theorem PySem.W.Fast.tw5076983522129390379 : True := trivial
theorem PySem.W.Fast.tw17724810785330866772 : True := trivial
theorem PySem.W.Fast.tw4713770215593136329 : True := trivial
theorem PySem.W.Fast.tw6352127428727035463 : True := trivial
theorem PySem.W.Fast.tw11682708176890378666 : True := trivial
theorem PySem.W.Fast.tw17018168221887167637 : True := trivial
theorem PySem.W.Fast.tw4982629793449342482 : True := trivial
theorem PySem.W.Fast.tw14179209121697479999 : True := trivial
theorem PySem.W.Fast.tw11515404147918621443 : True := trivial
theorem PySem.W.Fast.tw7551268745164000144 : True := trivial
theorem PySem.W.Fast.tw898931117918844111 : True := trivial
theorem PySem.W.Fast.tw15622253401126034603 : True := trivial
theorem PySem.W.Fast.tw2224941501088099913 : True := trivial
theorem PySem.W.Fast.tw8145313388581822439 : True := trivial
theorem PySem.W.Fast.tw1307544393353837674 : True := trivial
theorem PySem.W.Fast.tw2026872144773375673 : True := trivial
theorem PySem.W.Fast.tw3933744386620080926 : True := trivial
theorem PySem.W.Fast.tw2623927778843870023 : True := trivial
theorem PySem.W.Fast.tw9577221689991544876 : True := trivial
theorem PySem.W.Fast.tw433449533723322577 : True := trivial
theorem PySem.W.Fast.tw14208932221901324654 : True := trivial
theorem PySem.W.Fast.tw17541699821980762875 : True := trivial
theorem PySem.W.Fast.tw1114561581924216115 : True := trivial
theorem PySem.W.Fast.tw1548444880273572568 : True := trivial
theorem PySem.W.Fast.tw18065106961395382479 : True := trivial
theorem PySem.W.Fast.tw13894562543531906869 : True := trivial
theorem PySem.W.Fast.tw10378377848550777389 : True := trivial
theorem PySem.W.Fast.tw13863275188779912233 : True := trivial
theorem PySem.W.Fast.tw14186620728668035735 : True := trivial
theorem PySem.W.Fast.tw10957919114242736565 : True := trivial
theorem PySem.W.Fast.tw942239780059260061 : True := trivial
theorem PySem.W.Fast.tw4067287244234547202 : True := trivial
theorem PySem.W.Fast.tw4787447486151793575 : True := trivial
theorem PySem.W.Fast.tw12023147755975169914 : True := trivial
theorem PySem.W.Fast.tw5724933523608034882 : True := trivial
theorem PySem.W.Fast.tw17502250379256256937 : True := trivial
theorem PySem.W.Fast.tw14547823246214129815 : True := trivial
theorem PySem.W.Fast.tw323491724137473077 : True := trivial
theorem PySem.W.Fast.tw12256802874688354277 : True := trivial
theorem PySem.W.Fast.tw9860095916339946349 : True := trivial
theorem PySem.W.Fast.tw12453310530279658291 : True := trivial
theorem PySem.W.Fast.tw10799911599589049796 : True := trivial
theorem PySem.W.Fast.tw1529230855629777992 : True := trivial
theorem PySem.W.Fast.tw4150862449315904471 : True := trivial
theorem PySem.W.Fast.tw7366042042178159057 : True := trivial
theorem PySem.W.Fast.tw5384274166274354063 : True := trivial
theorem PySem.W.Fast.tw6506493429124946284 : True := trivial
theorem PySem.W.Fast.tw15717551191377990858 : True := trivial
theorem PySem.W.Fast.tw16950844257568816438 : True := trivial
theorem PySem.W.Fast.tw18419171657143160329 : True := trivial
theorem PySem.W.Fast.tw1838905730755346362 : True := trivial
theorem PySem.W.Fast.tw12581023948866842235 : True := trivial
theorem PySem.W.Fast.tw11053985291032285432 : True := trivial
theorem PySem.W.Fast.tw7246681406443794207 : True := trivial
theorem PySem.W.Fast.tw10127615276258628667 : True := trivial
theorem PySem.W.Fast.tw11062581722043071050 : True := trivial
theorem PySem.W.Fast.tw17650569037895707892 : True := trivial
theorem PySem.W.Fast.tw9323840765438941882 : True := trivial
theorem PySem.W.Fast.tw7737460710696549043 : True := trivial
theorem PySem.W.Fast.tw13846639770094639213 : True := trivial
theorem PySem.W.Fast.tw8250587114451185271 : True := trivial
theorem PySem.W.Fast.tw5520722181852339307 : True := trivial
theorem PySem.W.Fast.tw17980413922038177542 : True := trivial
theorem PySem.W.Fast.tw17481259431192756183 : True := trivial
theorem PySem.W.Fast.tw6887835844759592171 : True := trivial
theorem PySem.W.Fast.tw16421654988069275277 : True := trivial
theorem PySem.W.Fast.tw17040603281211611296 : True := trivial
theorem PySem.W.Fast.tw16527890719277846640 : True := trivial
theorem PySem.W.Fast.tw10847577878848587585 : True := trivial
theorem PySem.W.Fast.tw3248270715775855410 : True := trivial
theorem PySem.W.Fast.tw3095633698341346423 : True := trivial
theorem PySem.W.Fast.tw17679180860544370518 : True := trivial
theorem PySem.W.Fast.tw236450233076264010 : True := trivial
theorem PySem.W.Fast.tw8966572942651858950 : True := trivial
theorem PySem.W.Fast.tw6892566116449040923 : True := trivial
theorem PySem.W.Fast.tw14981889246304208723 : True := trivial
theorem PySem.W.Fast.tw3906183799011596798 : True := trivial
theorem PySem.W.Fast.tw11238097518834155331 : True := trivial
theorem PySem.W.Fast.tw2680656977759394848 : True := trivial
theorem PySem.W.Fast.tw17688859579747994795 : True := trivial
set_option Elab.async false in
set_option maxRecDepth 100000 in
set_option maxHeartbeats 0 in
open_shared Top for PySem.Challenge.pw_wakefew_k56_moved_and_put_off leaving 1
set_option Elab.async false in
set_option maxRecDepth 100000 in
set_option maxHeartbeats 0 in
open_top Hd for PySem.Challenge.rw_wakefew_k56_moved_and_put_off
set_option compiler.extract_closed false
set_option Elab.async false
set_option linter.all false
set_option maxRecDepth 100000
namespace L2
open PySem PySem.Spec PyProof.Rows
abbrev Key := Sum Int Str
def Ek : Key -> Value -> Bool
 | .inl k, v => Value.isInt k v
 | .inr x, v => Value.isStrOf x v
def abg (w : World) : Key -> Int
 | .inl k => hashInt k
 | .inr x => hashStr w x
theorem cq : ∀ {k : Key} {v : Value}, Ek k v = true -> (∃ i t, k = Sum.inl i /\ v = Value.int i t) \/ (∃ x t, k = Sum.inr x /\ v = Value.str x t)
 | .inl i, v, h => by
   obtain ⟨t, e⟩ := Value.isInt_shape (k := i) (v := v) h
   exact .inl ⟨i, t, rfl, e⟩
 | .inr x, v, h => by
   obtain ⟨t, e⟩ := Value.isStrOf_shape (x := x) (v := v) h
   exact .inr ⟨x, t, rfl, e⟩
theorem M7 (i : Int) (t : Tok) : Ek (.inl i) (.int i t) = true := by simp [Ek, Value.isInt]
theorem Ms (x : Str) (t : Tok) : Ek (.inr x) (.str x t) = true := by simp [Ek, Value.isStrOf]
theorem Xb (a b : Int) : decide ((Sum.inl a : Key) = Sum.inl b) = (a == b) := by
 by_cases e : a = b
 . subst e; simp
 . have h : ¬ (Sum.inl a : Key) = Sum.inl b := fun q => e (Sum.inl.inj q)
   rw [decide_eq_false h]
   exact (beq_eq_false_iff_ne.mpr e).symm
theorem Vu (a b : Str) : decide ((Sum.inr a : Key) = Sum.inr b) = decide (a = b) := by
 by_cases e : a = b
 . subst e; simp
 . have h : ¬ (Sum.inr a : Key) = Sum.inr b := fun q => e (Sum.inr.inj q)
   rw [decide_eq_false h, decide_eq_false e]
theorem VG (a : Int) (b : Str) : decide ((Sum.inl a : Key) = Sum.inr b) = false := decide_eq_false (fun q => nomatch q)
theorem Wu (a : Str) (b : Int) : decide ((Sum.inr a : Key) = Sum.inl b) = false := decide_eq_false (fun q => nomatch q)
def aU (prog : Program) (w : World) : PySem.KeyKind prog w Key where
 is := Ek
 hash := abg w
 inj := fun v a b ha hb => by
  rcases cq ha with ⟨i, t, rfl, rfl⟩ | ⟨x, t, rfl, rfl⟩
  . rcases cq hb with ⟨j, u, rfl, e⟩ | ⟨y, u, rfl, e⟩
    . injection e with e1 _; rw [e1]
    . exact nomatch e
  . rcases cq hb with ⟨j, u, rfl, e⟩ | ⟨y, u, rfl, e⟩
    . exact nomatch e
    . injection e with e1 _; rw [e1]
 byValue := fun k v h => by
  rcases cq h with ⟨i, t, rfl, rfl⟩ | ⟨x, t, rfl, rfl⟩ <;> rfl
 pyHash := fun hv h => by
  rcases cq hv with ⟨i, t, rfl, rfl⟩ | ⟨x, t, rfl, rfl⟩
  . exact wpAny_pyHash_int h
  . exact wpAny_pyHash_str h
 eqBool := fun hu hv h => by
  rcases cq hu with ⟨i, t, rfl, rfl⟩ | ⟨x, t, rfl, rfl⟩
  . rcases cq hv with ⟨j, u, rfl, rfl⟩ | ⟨y, u, rfl, rfl⟩
    . rw [Xb] at h; exact wpAny_eqBool_int h
    . rw [VG] at h; exact SeqAt.EqAt.int_str i t y u _ _ _ _ h
  . rcases cq hv with ⟨j, u, rfl, rfl⟩ | ⟨y, u, rfl, rfl⟩
    . rw [Wu] at h; exact SeqAt.EqAt.str_int x t j u _ _ _ _ h
    . rw [Vu] at h; exact wpAny_eqBool_str h
 «strs» := fun k x t v h => by
  rcases cq h with ⟨i, u, rfl, e⟩ | ⟨y, u, rfl, e⟩
  . exact nomatch e
  . injection e with e1 _
    subst e1
    cases v <;> rfl
theorem Im (prog : Program) (w : World) (i : Int) (t : Tok) : (aU prog w).is (.inl i) (.int i t) = true := M7 i t
theorem IA (prog : Program) (w : World) (x : Str) (t : Tok) : (aU prog w).is (.inr x) (.str x t) = true := Ms x t
inductive V where
 | aT | bl (b : Bool) | int (i : Int) | str (x : Str) | Lz (b : Array UInt8) | WL (b : UInt64) | ref (a : Addr) | ty (n : String)
 deriving DecidableEq
def RelV : V -> Value -> Prop
 | .aT, u => u = Value.none
 | .bl b, u => u = Value.bool b
 | .int i, u => ∃ t, u = Value.int i t
 | .str x, u => ∃ t, u = Value.str x t
 | .Lz b, u => ∃ t, u = Value.bytes b t
 | .WL b, u => ∃ t, u = Value.float b t
 | .ref a, u => u = Value.ref a
 | .ty n, u => u = Value.type n
abbrev Vals : List V -> List Value -> Prop := Paired RelV
theorem Vals.length {xs : List V} {us : List Value} (r : Vals xs us) : xs.length = us.length := Paired.length r
theorem Vals.get : ∀ {xs : List V} {us : List Value} {i : Nat} {x : V}, Vals xs us -> xs[i]? = some x -> ∃ u, us[i]? = some u /\ RelV x u
 | _, _, _, _, .nil, e => by simp at e
 | _, _, 0, _, .cons r _, e => by simp at e; subst e; exact ⟨_, rfl, r⟩
 | _, _, i + 1, x, .cons _ t, e => by
   obtain ⟨u, h1, h2⟩ := Vals.get (i := i) (x := x) t (by simpa using e)
   exact ⟨u, by simpa using h1, h2⟩
theorem Vals.append : ∀ {xs ys : List V} {us ws : List Value}, Vals xs us -> Vals ys ws -> Vals (xs ++ ys) (us ++ ws)
 | _, _, _, _, .nil, s => s
 | _, _, _, _, .cons r t, s => .cons r (Vals.append t s)
def pS : Option V -> Option Value -> Prop
 | some v, some u => RelV v u
 | none, none => True
 | _, _ => False
def KV {κ : Type} : List (κ × V) -> List (κ × Value) -> Prop := Paired fun (p : κ × V) (q : κ × Value) => p.1 = q.1 /\ RelV p.2 q.2
def kV : Key -> V
 | .inl i => .int i
 | .inr x => .str x
inductive HO where
 | lst (xs : List V)
 | tup (xs : List V)
 | dK (kvs : List (Key × V)) | dT (kvs : List (List Key × V))
 | set (S : Int -> Bool) (n : Nat)
 | ins (C dx : Addr) (fs : List (Str × V))
 | own (x : Addr)
 | xd (fs : List (Str × V))
 | met (f x : Addr)
 | rng (lo hi : Int)
 | uJ (o : Obj) (u : HO)
 | Wm (ps : Array Value)
 | ext (φ : Heap -> Prop)
abbrev Hp := Addr -> Option HO
def upd (H : Hp) (a : Addr) (o : HO) : Hp := fun b => if b = a then some o else H b
theorem au {H : Hp} {a : Addr} {o : HO} : upd H a o a = some o := by unfold upd; rw [if_pos rfl]
theorem av {H : Hp} {a b : Addr} {o : HO} (h : b ≠ a) : upd H a o b = H b := by unfold upd; rw [if_neg h]
theorem ll {H : Hp} {a : Addr} {o u : HO} : upd (upd H a o) a u = upd H a u := by
 funext b; unfold upd; split <;> rfl
theorem jC {H : Hp} {a b : Addr} {o u : HO} (h : H a = some o) (h' : H b = some u) (d : o ≠ u) : a ≠ b := by
 intro e; subst e; rw [h] at h'; exact d (Option.some.inj h')
theorem aB {H : Hp} {a b : Addr} {o : HO} (h : H a = some o) (h' : H b = none) : a ≠ b := by
 intro e; subst e; rw [h] at h'; cases h'
section
variable (P : Program) (w : World)
def cH (H : Hp) (h : Heap) (a : Addr) : HO -> Prop
 | .lst xs => xs.length <= sizeLine /\ ∃ (b4 : List Value) (n : Nat), Vals xs b4 /\ h.get? a = some { cls := .type "list", data := .seq b4.toArray n }
 | .tup xs => xs.length <= sizeLine /\ ∃ b4 : List Value, Vals xs b4 /\ IsTup h a b4.toArray
 | .dK kvs => kvs.length <= sizeLine /\ (a == sysModules) = false /\ ∃ vs, KV kvs vs /\ h.DictOf (aU P w) a vs
 | .dT kvs => kvs.length <= sizeLine /\ (a == sysModules) = false /\ ∃ xs : List (List Key × Addr × Value),
  Paired (fun (p : List Key × V) (q : List Key × Addr × Value) => p.1 = q.1 /\ H q.2.1 = some (.tup (p.1.map kV)) /\ RelV p.2 q.2.2) kvs xs /\
  ∃ o es ep, h.get? a = some o /\ o.ExactDict /\ o.data = .dict es ep /\ es.toList = xs.map (entryOfKey (tupleKind (aU P w))) /\ (xs.map (·.1)).Nodup
 | .set S n => h.SetOf (intKind P w) a S n
 | .ins C dx fs => H dx = some (.own a) /\ fs.length <= 1000 /\ dx ≠ a /\ h.get? a = some (PySem.W.instObj C dx) /\
  ∃ mA, h.Ns1 dx mA /\ (∀ f, pS (fs.lookup f) (mA f)) /\ PySem.Within mA (fs.map (·.1))
 | .own _ => ∃ o, h.get? a = some o
 | .xd fs => ∃ mA, h.Ns1 a mA /\ ∀ f, pS (fs.lookup f) (mA f)
 | .rng lo hi => ∃ t u v, h.get? a = some { cls := .type "range", data := .fields #[.int lo t, .int hi u, .int 1 v] }
 | .uJ o u => h.get? a = some o /\ cH H h a u
 | .Wm ps => h.get? a = some { cls := .none, data := .fields ps }
 | .met f x => h.get? a = some (PySem.W.methodObj (.ref f) (.ref x))
 | .ext φ => φ h /\ (∃ o, h.get? a = some o) /\ ∀ h1 h2 : Heap, φ h1 -> (∀ o, h1.get? a = some o -> h2.get? a = some o) -> φ h2
def pQ (H : Hp) (h : Heap) : Prop := ∀ a o, H a = some o -> cH P w H h a o
end
section
variable {P : Program} {w : World} {H H' : Hp} {h h' : Heap} {a : Addr} {o : HO}
theorem cH.lt (x : cH P w H h a o) : a < h.objs.size := by
 cases o with
 | lst xs => obtain ⟨_, _, _, _, e⟩ := x; exact Heap.lt_size e
 | tup xs => obtain ⟨_, _, _, p⟩ := x; exact p.lt
 | dK kvs => obtain ⟨_, _, _, _, o, _, _, e, _⟩ := x; exact Heap.lt_size e
 | dT kvs => obtain ⟨_, _, _, _, o, _, _, e, _⟩ := x; exact Heap.lt_size e
 | set S n => obtain ⟨o, _, _, _, e, _⟩ := x; exact Heap.lt_size e
 | ins C dx fs => obtain ⟨_, _, _, e, _⟩ := x; exact Heap.lt_size e
 | own y => obtain ⟨_, e⟩ := x; exact Heap.lt_size e
 | xd fs => obtain ⟨_, ⟨_, _, _, e, _⟩, _⟩ := x; exact Heap.lt_size e
 | rng lo hi => obtain ⟨_, _, _, e⟩ := x; exact Heap.lt_size e
 | uJ ob u => obtain ⟨e, _⟩ := x; exact Heap.lt_size e
 | Wm ps => exact Heap.lt_size (show h.get? a = some _ from x)
 | met f y => exact Heap.lt_size (show h.get? a = some _ from x)
 | ext φ => obtain ⟨_, ⟨_, e⟩, _⟩ := x; exact Heap.lt_size e
theorem Paired.Vm {α β : Type} {F G : α -> β -> Prop} : ∀ {l₁ : List α} {l₂ : List β}, Paired F l₁ l₂ -> (∀ a b, F a b -> G a b) -> Paired G l₁ l₂
 | _, _, .nil, _ => .nil
 | _, _, .cons r t, f => .cons (f _ _ r) (Paired.Vm t f)
theorem cH.Hj (x : cH P w H h a o) (k : ∀ b u, (b = a \/ H b = some (.own a)) -> h.get? b = some u -> h'.get? b = some u)
 (ho : ∀ b, H b = some (.own a) -> H' b = some (.own a)) (ht : ∀ b xs, H b = some (.tup xs) -> H' b = some (.tup xs)) : cH P w H' h' a o := by
 induction o with
 | lst xs => obtain ⟨z, b4, n, r, e⟩ := x; exact ⟨z, b4, n, r, k _ _ (.inl rfl) e⟩
 | tup xs => obtain ⟨z, b4, r, ob, e, c⟩ := x; exact ⟨z, b4, r, ob, k _ _ (.inl rfl) e, c⟩
 | dK kvs => obtain ⟨z, y, vs, r, ob, es, ep, e, c⟩ := x; exact ⟨z, y, vs, r, ob, es, ep, k _ _ (.inl rfl) e, c⟩
 | dT kvs =>
   obtain ⟨z, y, xs, r, ob, es, ep, e, c⟩ := x
   exact ⟨z, y, xs, Paired.Vm r fun p q z => ⟨z.1, ht _ _ z.2.1, z.2.2⟩, ob, es, ep, k _ _ (.inl rfl) e, c⟩
 | set S n => obtain ⟨ob, es, ep, t, e, c⟩ := x; exact ⟨ob, es, ep, t, k _ _ (.inl rfl) e, c⟩
 | ins C dx fs =>
   obtain ⟨d, z, ne, e, mA, ⟨od, es, ep, e2, c⟩, r⟩ := x
   exact ⟨ho _ d, z, ne, k _ _ (.inl rfl) e, mA, ⟨od, es, ep, k _ _ (.inr d) e2, c⟩, r⟩
 | own y => obtain ⟨ob, e⟩ := x; exact ⟨ob, k _ _ (.inl rfl) e⟩
 | xd fs => obtain ⟨mA, ⟨od, es, ep, e, c⟩, r⟩ := x; exact ⟨mA, ⟨od, es, ep, k _ _ (.inl rfl) e, c⟩, r⟩
 | rng lo hi => obtain ⟨t, u, v, e⟩ := x; exact ⟨t, u, v, k _ _ (.inl rfl) e⟩
 | uJ ob u ih => obtain ⟨e, q⟩ := x; exact ⟨k _ _ (.inl rfl) e, ih q⟩
 | Wm ps =>
   have e : h.get? a = some { cls := .none, data := .fields ps } := x
   show h'.get? a = some { cls := .none, data := .fields ps }
   exact k a _ (.inl rfl) e
 | met f y =>
   have e : h.get? a = some (PySem.W.methodObj (.ref f) (.ref y)) := x
   show h'.get? a = some (PySem.W.methodObj (.ref f) (.ref y))
   exact k a _ (.inl rfl) e
 | ext φ => obtain ⟨p, ⟨o, e⟩, st⟩ := x; exact ⟨st _ _ p fun o q => k _ _ (.inl rfl) q, ⟨o, k _ _ (.inl rfl) e⟩, st⟩
theorem pQ.lt (x : pQ P w H h) (e : H a = some o) : a < h.objs.size := (x a o e).lt
theorem pQ.fresh (x : pQ P w H h) (e : h.objs.size <= a) : H a = none := by
 cases q : H a with
 | none => rfl
 | some u => exact absurd (Nat.lt_of_lt_of_le (x.lt q) e) (Nat.lt_irrefl _)
theorem pQ.kept (x : pQ P w H h) (k : ∀ b u, h.get? b = some u -> h'.get? b = some u) : pQ P w H h' := fun a o e =>
 (x a o e).Hj (fun b u _ q => k b u q) (fun _ q => q) fun _ _ q => q
theorem pQ.laid (x : pQ P w H h) (k : ∀ b u, h.get? b = some u -> h'.get? b = some u) (hp : h.objs.size <= a) (new : cH P w (upd H a o) h' a o) : pQ P w (upd H a o) h' := fun b u e => by
 have hn := x.fresh hp
 by_cases hb : b = a
 . subst hb; rw [au] at e; cases e; exact new
 . rw [av hb] at e
   exact (x b u e).Hj (fun c v _ q => k c v q) (fun c q => by rw [av (aB q hn)]; exact q) fun c xs q => by rw [av (aB q hn)]; exact q
end
def Rd (H : Hp) (a : Addr) (u : HO) : Prop := H a = some u \/ ∃ o, H a = some (.uJ o u)
theorem Rd.of {H : Hp} {a : Addr} {u : HO} (h : H a = some u) : Rd H a u := .inl h
theorem Rd.ok {P : Program} {w : World} {H : Hp} {h : Heap} {a : Addr} {u : HO} (r : Rd H a u) (x : pQ P w H h) : cH P w H h a u := by
 rcases r with r | ⟨o, r⟩
 . exact x a u r
 . obtain ⟨_, q⟩ := x a _ r
   exact q
def Za : Option HO -> Prop
 | some (.lst _) => True
 | some (.dK _) => True
 | some (.dT _) => True
 | some (.set _ _) => True
 | some (.ins _ _ _) => True
 | some (.ext _) => True
 | _ => False
section
variable {P : Program} {w : World} {H : Hp} {h h' : Heap} {x e : Addr} {o' : HO}
theorem pQ.write (ok : pQ P w H h) (mu : Za (H x)) (he : e = x \/ H e = some (.own x)) (k : ∀ b u, b ≠ e -> h.get? b = some u -> h'.get? b = some u) (XX : ∃ u, h'.get? e = some u)
 (new : cH P w (upd H x o') h' x o') : pQ P w (upd H x o') h' := fun b u q => by
 have Yn : ∀ c y, H c = some (.own y) -> c ≠ x := fun c y r z => by subst z; rw [r] at mu; exact mu
 have acv : ∀ c xs, H c = some (.tup xs) -> c ≠ x := fun c xs r z => by subst z; rw [r] at mu; exact mu
 by_cases hb : b = x
 . subst hb; rw [au] at q; cases q; exact new
 . rw [av hb] at q
   by_cases U9 : b = e
   . have q' : H b = some (.own x) := by
      rcases he with z | z
      . exact absurd (U9.trans z) hb
      . rw [U9]; exact z
     rw [q] at q'; cases q'
     obtain ⟨v, hv⟩ := XX
     exact ⟨v, by rw [U9]; exact hv⟩
   . refine (ok b u q).Hj (fun c v hc r => k c v ?_ r) (fun c r => by rw [av (Yn c b r)]; exact r) fun c xs r => by rw [av (acv c xs r)]; exact r
     rcases hc with rfl | hc
     . exact U9
     . rintro rfl
       rcases he with z | z
       . exact Yn c b hc z
       . rw [hc] at z; cases z; exact hb rfl
end
structure Un (fs ex : List Addr) (H H' : Hp) (h h' : Heap) : Prop where
 keep : ∀ b o, h.get? b = some o -> H b = none -> b ∉ fs -> b ∉ ex -> h'.get? b = some o
 slot : ∀ b o, h.get? b = some o -> H b = none -> b ∈ fs -> b ∉ ex -> ∃ sl, h'.get? b = some { o with slots := sl }
 free : ∀ b o, h.get? b = some o -> H b = none -> b ∉ ex -> H' b = none
 there : ∀ b o, h.get? b = some o -> b ∉ ex -> ∃ o', h'.get? b = some o'
 zC : ∀ b xs, H b = some (.tup xs) -> H' b = some (.tup xs)
 wO : ∀ b o u, H b = some (.uJ o u) -> H' b = some (.uJ o u)
 Ds : ∀ b ps, H b = some (.Wm ps) -> ∃ more, H' b = some (.Wm (ps ++ more))
section
variable {fs fs' ex ex' : List Addr} {H H1 H2 : Hp} {h h1 h2 h' : Heap} {a x e : Addr} {o : HO}
theorem Un.any (u : Un fs ex H H1 h h1) {b : Addr} {ob : Obj} (q : h.get? b = some ob) (n : H b = none) (hx : b ∉ ex) : ∃ sl, h1.get? b = some { ob with slots := sl } := by
 by_cases hb : b ∈ fs
 . exact u.slot b ob q n hb hx
 . exact ⟨ob.slots, u.keep b ob q n hb hx⟩
theorem Un.kept (k : ∀ b u, h.get? b = some u -> h'.get? b = some u) : Un fs ex H H h h' :=
 ⟨fun b ob q _ _ _ => k b ob q, fun b ob q _ _ _ => ⟨ob.slots, k b ob q⟩, fun _ _ _ n _ => n, fun b ob q _ => ⟨ob, k b ob q⟩, fun _ _ q => q, fun _ _ _ q => q, fun _ ps q => ⟨#[], by rw [q]; simp⟩⟩
theorem Un.refl : Un fs ex H H h h := Un.kept fun _ _ q => q
theorem Un.laid (k : ∀ b u, h.get? b = some u -> h'.get? b = some u) (hp : h.objs.size <= a) (hn : H a = none) : Un fs ex H (upd H a o) h h' where
 keep := fun b u q _ _ _ => k b u q
 slot := fun b u q _ _ _ => ⟨u.slots, k b u q⟩
 free := fun b u q n _ => by rw [av (Nat.ne_of_lt (Nat.lt_of_lt_of_le (Heap.lt_size q) hp))]; exact n
 there := fun b u q _ => ⟨u, k b u q⟩
 zC := fun b xs q => by rw [av (aB q hn)]; exact q
 wO := fun b u xs q => by rw [av (aB q hn)]; exact q
 Ds := fun b ps q => ⟨#[], by rw [av (aB q hn), q]; simp⟩
theorem Un.write (mu : Za (H x)) (he : e = x \/ H e = some (.own x)) (k : ∀ b u, b ≠ e -> h.get? b = some u -> h'.get? b = some u) (XX : ∃ u, h'.get? e = some u) : Un fs ex H (upd H x o) h h' := by
 have hx : ∀ b, H b = none -> b ≠ x := fun b n z => by subst z; rw [n] at mu; exact mu
 have hb : ∀ b, H b = none -> b ≠ e := fun b n z => by
  subst z
  rcases he with r | r
  . exact hx b n r
  . rw [n] at r; cases r
 have hm : ∀ b u, H b = some u -> ¬ Za (some u) -> b ≠ x := fun b u q nm z => by subst z; rw [q] at mu; exact nm mu
 refine ⟨fun b u q n _ _ => k b u (hb b n) q, fun b u q n _ _ => ⟨u.slots, k b u (hb b n) q⟩, fun b u q n _ => by rw [av (hx b n)]; exact n, fun b u q _ => ?_,
  fun b xs q => by rw [av (hm b _ q fun z => z)]; exact q, fun b u xs q => by rw [av (hm b _ q fun z => z)]; exact q, fun b ps q => ⟨#[], by rw [av (hm b _ q fun z => z), q]; simp⟩⟩
 by_cases U9 : b = e
 . subst U9; exact XX
 . exact ⟨u, k b u U9 q⟩
end
def trk (h : Heap) (H : Hp) : List Addr := (List.range h.objs.size).filter fun a => (H a).isSome
def GO (h : Heap) (H : Hp) : Heap := PySem.W.hideAll h (trk h H)
theorem L5 (h : Heap) (H : Hp) : (GO h H).objs.size = h.objs.size := PySem.W.hideAll_size _ _
theorem P7 {h : Heap} {H : Hp} {b : Addr} {o : Obj} (e : h.get? b = some o) (n : H b = none) : (GO h H).get? b = some o :=
 PySem.W.hideAll_get _ e fun hm => by
  have q : (H b).isSome = true := (List.mem_filter.mp hm).2
  rw [n] at q; simp at q
theorem Rq {h : Heap} {H : Hp} {b : Addr} {o : Obj} (e : (GO h H).get? b = some o) : h.get? b = some o /\ H b = none := by
 have e' : h.get? b = some o := PySem.W.of_hideAll (trk h H) e
 refine ⟨e', ?_⟩
 cases q : H b with
 | none => rfl
 | some x =>
   have hm : b ∈ trk h H := List.mem_filter.mpr ⟨List.mem_range.mpr (Heap.lt_size e'), by simp [q]⟩
   have z : (GO h H).get? b = none := PySem.W.hideAll_none (trk h H) hm
   rw [z] at e; cases e
def Rw (g h : Heap) (L : Addr) : List (Addr × Obj) := (List.range h.objs.size).filterMap fun a => if a = L \/ (g.get? a).isSome = true then none else (h.get? a).map fun o => (a, o)
def rest (g h : Heap) (L d : Addr) : List (Addr × Obj) := (Rw g h L).filter fun p => decide (p.1 ≠ d)
structure Mod (K : PySem.W.Frag) (mg : Str -> Option Value) (base : Heap) : Prop where
 XQ : K.In base
 glob : base.Ns mainGlobals mg
 blt : ∃ mb, base.Ns builtinsNs mb /\ ∀ x : Str, x ≠ "__name__" -> mb x = bootBuiltins x
 nolimit : base.NoLimit
structure Cx where
 prog : Program
 w : World
 K : PySem.W.Frag
 mg : Str -> Option Value
 base : Heap
 A : Around
 N : List Str
 hE : Shared
 JO : Hp
 env : Env
 outer : List Env
 stack : List Env
 ex : List Addr
 fn : Str -> Bool
 calm : Bool
 pn : List (Addr × Obj)
 xe : Value -> Shared -> Prop
def HC (l : List Env) : List Addr := l.filterMap (·.frame)
abbrev Cx.fs (X : Cx) : List Addr := HC X.outer
def Vis (sc : Scope) (x : Str) : Prop := sc.names.lookup x = some .local \/ sc.names.lookup x = some .cell \/ sc.names.lookup x = some .free
def Loc (sc : Scope) (x : Str) : Prop := sc.names.lookup x = some .local \/ sc.names.lookup x = some .cell
def Look (env : Env) (h : Heap) (m : Str -> Option Value) (x : Str) (u : Value) : Prop :=
 (env.kindOf x = some .local /\ m x = some u) \/ ((env.kindOf x = some .cell \/ env.kindOf x = some .free) /\ ∃ c, env.cells.lookup x = some c /\ h.IsCell c (some u))
structure Cx.Ok (X : Cx) : Prop where
 mod : Mod X.K X.mg X.base
 kind : X.env.scope.kind = .function
 glob : X.env.globals = mainGlobals
 blt : X.env.builtins = builtinsNs
 above : X.hE.heap.objs.size <= X.env.locals
 inj : ∀ x y c, X.env.cells.lookup x = some c -> X.env.cells.lookup y = some c -> x = y
 has : ∀ x, (X.env.kindOf x = some .cell \/ X.env.kindOf x = some .free) -> ∃ c, X.env.cells.lookup x = some c
 X7 : ∀ x c, X.fn x = true -> X.env.cells.lookup x = some c -> X.hE.heap.objs.size <= c
 hd : X.calm = true -> X.A.handled = none
 frames : X.A.frames = some X.stack
 stk : X.stack = X.outer \/ (X.stack = X.env :: X.outer /\ X.env.frame = some X.env.locals)
 Yr : ∀ b ∈ X.ex, b ≠ X.env.locals /\ ∀ x c, X.env.cells.lookup x = some c -> c ≠ b
 bs : ∀ b o, X.base.get? b = some o -> X.hE.heap.get? b = some o /\ X.JO b = none
 Py : X.base.objs.size <= X.hE.heap.objs.size
 Mz : ∀ b o, X.base.get? b = some o -> b ∉ X.ex
 L1 : ∀ b ∈ X.ex, b ∉ X.fs
 BU : X.hE.heap.FunFrames X.base X.outer
 UD : ∀ b ∈ X.fs, X.JO b = none
structure Inv (X : Cx) (pins : List (Addr × Obj)) (σ : List (Option V)) (H : Hp) (s : Shared) : Prop where
 ok : X.Ok
 os : s.os = X.hE.os
 bare : AllBare s.gens
 base : Un X.fs X.ex X.JO H X.hE.heap s.heap
 loc : ∃ m, s.heap.Ns X.env.locals m /\ ∀ (i : Nat) (x : Str) (v : V), X.N[i]? = some x -> σ[i]? = some (some v) -> Vis X.env.scope x -> ∃ u, RelV v u /\ Look X.env s.heap m x u
 cell : ∀ x c, X.env.cells.lookup x = some c -> ∃ v, s.heap.IsCell c v
 free : H X.env.locals = none
 mG : ∀ x c, X.env.cells.lookup x = some c -> H c = none
 pin : ∀ p ∈ X.pn ++ pins, s.heap.get? p.1 = some p.2 /\ H p.1 = none /\ p.1 ≠ X.env.locals /\ p.1 ∉ X.fs /\ ∀ v, p.2.data ≠ .cell v
 bA : pQ X.prog X.w H s.heap
 len : σ.length = X.N.length
section
variable {X : Cx} {pins : List (Addr × Obj)} {σ : List (Option V)} {H H' : Hp} {s : Shared} {h' : Heap}
theorem Cx.Ok.abG (ok : X.Ok) {b : Addr} {o : Obj} (e : X.base.get? b = some o) : b ∉ X.fs := fun hb => by
 have := (ok.BU.mem hb).1
 rw [e] at this; cases this
theorem Inv.bs (I : Inv X pins σ H s) : ∀ b o, X.base.get? b = some o -> s.heap.get? b = some o /\ H b = none := fun b o e =>
 ⟨I.base.keep b o (I.ok.bs b o e).1 (I.ok.bs b o e).2 (I.ok.abG e) (I.ok.Mz b o e), I.base.free b o (I.ok.bs b o e).1 (I.ok.bs b o e).2 (I.ok.Mz b o e)⟩
theorem Inv.bk (I : Inv X pins σ H s) : ∀ b o, X.base.get? b = some o -> s.heap.get? b = some o := fun b o e => (I.bs b o e).1
theorem Inv.mod (I : Inv X pins σ H s) : Mod X.K X.mg X.base := I.ok.mod
theorem Inv.AB (I : Inv X pins σ H s) : X.K.In s.heap := I.ok.mod.XQ.keeps I.bk
theorem Inv.fr (I : Inv X pins σ H s) : ∃ m, Fr X.base X.env.locals s.heap m :=
 let ⟨m, hn, _⟩ := I.loc
 ⟨m, hn, I.bk, Nat.le_trans I.ok.Py I.ok.above⟩
theorem Inv.lt (I : Inv X pins σ H s) : X.env.locals < s.heap.objs.size := let ⟨_, hn, _⟩ := I.loc; hn.lt
theorem Inv.sz (I : Inv X pins σ H s) : X.hE.heap.objs.size <= s.heap.objs.size := Nat.le_trans I.ok.above (Nat.le_of_lt I.lt)
theorem Inv.aa0 (I : Inv X pins σ H s) {a : Addr} (h : s.heap.objs.size <= a) : a ∉ X.fs := fun hb => by
 obtain ⟨_, o, ho, _⟩ := I.ok.BU.mem hb
 exact absurd (Nat.lt_of_lt_of_le (Heap.lt_size ho) (Nat.le_trans I.sz h)) (Nat.lt_irrefl _)
theorem Inv.VX (I : Inv X pins σ H s) : ∀ x c, X.env.cells.lookup x = some c -> c ≠ X.env.locals := fun x c e z => by
 obtain ⟨v, o, ho, hd⟩ := I.cell x c e
 obtain ⟨m, ⟨o', es, ep, R8, Fi, _⟩, _⟩ := I.loc
 rw [z, R8] at ho; cases ho; rw [Fi] at hd; cases hd
theorem Inv.BU (I : Inv X pins σ H s) : s.heap.FunFrames X.base X.outer := by
 have all : ∀ (l : List Env), (∀ b ∈ HC l, b ∈ X.fs) -> X.hE.heap.FunFrames X.base l -> s.heap.FunFrames X.base l := by
  intro l
  induction l with
  | nil => intro _ _; trivial
  | cons env r ih =>
    intro hs hl
    obtain ⟨hk, ⟨L, o, hf, hn, ho, hd⟩, hr⟩ := hl
    have hL : L ∈ X.fs := hs L (by unfold HC; rw [List.filterMap_cons, hf]; exact List.mem_cons_self)
    obtain ⟨sl, e⟩ := I.base.slot L o ho (I.ok.UD L hL) hL fun z => I.ok.L1 L z hL
    exact ⟨hk, ⟨L, _, hf, hn, e, hd⟩, ih (fun b hb => hs b (by unfold HC; rw [List.filterMap_cons, hf]; exact List.mem_cons_of_mem _ hb)) hr⟩
 exact all X.outer (fun _ hb => hb) I.ok.BU
theorem Inv.stack (I : Inv X pins σ H s) : s.heap.FunFrames X.base X.stack := by
 rcases I.ok.stk with e | ⟨e, hf⟩
 . rw [e]; exact I.BU
 . rw [e]
   obtain ⟨m, hn, _⟩ := I.loc
   refine .cons (by rw [I.ok.kind]; decide) hf hn ?_ I.BU
   exact Heap.get?_none_of_le (Nat.le_trans I.ok.Py I.ok.above)
theorem Inv.JN (I : Inv X pins σ H s) : ∀ b ∈ HC X.stack, b ∈ X.env.locals :: X.fs := fun b hb => by
 rcases I.ok.stk with e | ⟨e, hf⟩
 . rw [e] at hb; exact List.mem_cons_of_mem _ hb
 . rw [e] at hb
   unfold HC at hb
   rw [List.filterMap_cons, hf] at hb
   exact hb
theorem Inv.LI (I : Inv X pins σ H s) : ∀ b ∈ HC X.stack, H b = none := fun b hb => by
 rcases List.mem_cons.mp (I.JN b hb) with e | hb
 . rw [e]; exact I.free
 . obtain ⟨_, o, ho, _⟩ := I.ok.BU.mem hb
   exact I.base.free b o ho (I.ok.UD b hb) fun z => I.ok.L1 b z hb
theorem Inv.step {g' : Array GenState} {t' : Nat} {d' : Drawn} {ch : List Addr} (I : Inv X pins σ H s)
 (QQ : ∀ b ∈ ch, (b ∈ X.ex \/ X.hE.heap.objs.size <= b) /\ b ≠ X.env.locals /\ (∀ x c, X.env.cells.lookup x = some c -> c ≠ b) /\ ∀ p ∈ X.pn ++ pins, p.1 ≠ b)
 (keep : ∀ b o, b ≠ X.env.locals -> b ∉ X.fs -> b ∉ ch -> s.heap.get? b = some o -> H b = none -> h'.get? b = some o)
 (slot : ∀ b o, b ≠ X.env.locals -> b ∈ X.fs -> b ∉ ch -> s.heap.get? b = some o -> H b = none -> ∃ sl, h'.get? b = some { o with slots := sl }) (free : ∀ b o, b ∉ ch -> s.heap.get? b = some o -> H b = none -> H' b = none)
 (there : ∀ b o, b ∉ ch -> s.heap.get? b = some o -> ∃ o', h'.get? b = some o')
 (zC : ∀ b xs, H b = some (.tup xs) -> H' b = some (.tup xs)) (wO : ∀ b o u, H b = some (.uJ o u) -> H' b = some (.uJ o u)) (Ds : ∀ b ps, H b = some (.Wm ps) -> ∃ more, H' b = some (.Wm (ps ++ more)))
 (ns : ∀ m, s.heap.Ns X.env.locals m -> h'.Ns X.env.locals m) (bA : pQ X.prog X.w H' h') (hg : AllBare g') :
 Inv X pins σ H' { s with heap := h', gens := g', drawn := d', toks := t' } := by
 have neL : ∀ b o, X.hE.heap.get? b = some o -> b ≠ X.env.locals := fun b o e => Nat.ne_of_lt (Nat.lt_of_lt_of_le (Heap.lt_size e) I.ok.above)
 have neC : ∀ b o, X.hE.heap.get? b = some o -> b ∉ X.ex -> b ∉ ch := fun b o e hx hb => by
  rcases (QQ b hb).1 with z | z
  . exact hx z
  . exact absurd (Nat.lt_of_lt_of_le (Heap.lt_size e) z) (Nat.lt_irrefl _)
 have cellK : ∀ x c, X.env.cells.lookup x = some c -> ∀ v, s.heap.IsCell c v -> h'.IsCell c v := fun x c e v ⟨o, ho, hd⟩ => by
  have Ym : c ∉ ch := fun z => (QQ c z).2.2.1 x c e rfl
  by_cases hc : c ∈ X.fs
  . obtain ⟨sl, q⟩ := slot c o (I.VX x c e) hc Ym ho (I.mG x c e)
    exact ⟨_, q, hd⟩
  . exact ⟨o, keep c o (I.VX x c e) hc Ym ho (I.mG x c e), hd⟩
 refine ⟨I.ok, I.os, hg, ⟨fun b o e n hb hx => ?_, fun b o e n hb hx => ?_, fun b o e n hx => ?_, fun b o e hx => ?_, fun b xs e => zC b xs (I.base.zC b xs e), fun b o xs e => wO b o xs (I.base.wO b o xs e), fun b ps e => ?_⟩, ?_, fun x c e => ?_, ?_, fun x c e => ?_, fun p hp => ?_, bA, I.len⟩
 . exact keep b o (neL b o e) hb (neC b o e hx) (I.base.keep b o e n hb hx) (I.base.free b o e n hx)
 . obtain ⟨sl, e1⟩ := I.base.slot b o e n hb hx
   obtain ⟨sl', e2⟩ := slot b _ (neL b o e) hb (neC b o e hx) e1 (I.base.free b o e n hx)
   exact ⟨sl', e2⟩
 . obtain ⟨o', e1⟩ := I.base.there b o e hx
   exact free b o' (neC b o e hx) e1 (I.base.free b o e n hx)
 . obtain ⟨o', e1⟩ := I.base.there b o e hx
   exact there b o' (neC b o e hx) e1
 . obtain ⟨m1, e1⟩ := I.base.Ds b ps e
   obtain ⟨m2, e2⟩ := Ds b _ e1
   exact ⟨m1 ++ m2, by rw [e2, Array.append_assoc]⟩
 . obtain ⟨m, hn, hl⟩ := I.loc
   refine ⟨m, ns m hn, fun i x v e1 e2 e3 => ?_⟩
   obtain ⟨u, r, l⟩ := hl i x v e1 e2 e3
   refine ⟨u, r, ?_⟩
   rcases l with l | ⟨k, c, e, z⟩
   . exact .inl l
   . exact .inr ⟨k, c, e, cellK x c e _ z⟩
 . obtain ⟨v, z⟩ := I.cell x c e
   exact ⟨v, cellK x c e v z⟩
 . obtain ⟨m, ⟨o, _, _, ho, _⟩, _⟩ := I.loc
   exact free _ o (fun z => (QQ _ z).2.1 rfl) ho I.free
 . obtain ⟨v, o, ho, hd⟩ := I.cell x c e
   exact free c o (fun z => (QQ c z).2.2.1 x c e rfl) ho (I.mG x c e)
 . obtain ⟨e, n, ne, nf, d⟩ := I.pin p hp
   have Ym : p.1 ∉ ch := fun z => (QQ p.1 z).2.2.2 p hp rfl
   exact ⟨keep p.1 p.2 ne nf Ym e n, free p.1 p.2 Ym e n, ne, nf, d⟩
theorem Inv.un {t' : Nat} (I : Inv X pins σ H s) (u : Un X.fs [] H H' s.heap h') (bA : pQ X.prog X.w H' h') : Inv X pins σ H' { s with heap := h', toks := t' } := by
 obtain ⟨m, ⟨o, es, ep, ho, r⟩, _⟩ := id I.loc
 obtain ⟨sl, hL⟩ := u.any ho I.free (by simp)
 exact I.step (g' := s.gens) (d' := s.drawn) (ch := []) (fun _ z => nomatch z) (fun b o _ hb _ e n => u.keep b o e n hb (by simp)) (fun b o _ hb _ e n => u.slot b o e n hb (by simp)) (fun b o _ e n => u.free b o e n (by simp)) (fun b o _ e => u.there b o e (by simp)) u.zC u.wO u.Ds (fun m' hm => by
  obtain ⟨o', es', ep', R8, r'⟩ := hm
  rw [ho] at R8; cases R8
  exact ⟨_, es', ep', hL, r'⟩) bA I.bare
theorem Inv.call {g' : Array GenState} {t' : Nat} {d' : Drawn} {ch : List Addr} (I : Inv X pins σ H s) (u : Un (HC X.stack) ch H H' s.heap h') (bA : pQ X.prog X.w H' h') (hg : AllBare g')
 (QQ : ∀ b ∈ ch, (b ∈ X.ex \/ X.hE.heap.objs.size <= b) /\ b ≠ X.env.locals /\ (∀ x c, X.env.cells.lookup x = some c -> c ≠ b) /\ ∀ p ∈ X.pn ++ pins, p.1 ≠ b) :
 Inv X pins σ H' { s with heap := h', gens := g', drawn := d', toks := t' } := by
 obtain ⟨m, ⟨o, es, ep, ho, r⟩, _⟩ := id I.loc
 obtain ⟨sl, hL⟩ := u.any ho I.free fun z => (QQ _ z).2.1 rfl
 exact I.step (ch := ch) QQ (fun b o hL hb hc e n => u.keep b o e n (fun z => (List.mem_cons.mp (I.JN b z)).elim hL hb) hc) (fun b o _ _ hc e n => u.any e n hc) (fun b o hc e n => u.free b o e n hc) (fun b o hc e => u.there b o e hc) u.zC u.wO u.Ds (fun m' hm => by
  obtain ⟨o', es', ep', R8, r'⟩ := hm
  rw [ho] at R8; cases R8
  exact ⟨_, es', ep', hL, r'⟩) bA hg
theorem Inv.turned {t' : Nat} {it : Addr} (I : Inv X pins σ H s) (k : ∀ b o, b ≠ it -> s.heap.get? b = some o -> h'.get? b = some o) (hn : H it = none) (hL : it ≠ X.env.locals)
 (h1 : it ∈ X.ex \/ X.hE.heap.objs.size <= it) (h2 : ∀ x c, X.env.cells.lookup x = some c -> c ≠ it) (h3 : ∀ p ∈ X.pn ++ pins, p.1 ≠ it) : Inv X pins σ H { s with heap := h', toks := t' } := by
 have nit : ∀ b u, H b = some u -> b ≠ it := fun b u e z => by rw [z, hn] at e; cases e
 refine I.step (g' := s.gens) (d' := s.drawn) (ch := [it]) (fun b hb => ?_) (fun b o _ _ hc e _ => k b o (fun z => hc (by simp [z])) e) (fun b o _ _ hc e _ => ⟨o.slots, k b o (fun z => hc (by simp [z])) e⟩) (fun _ _ _ _ n => n)
  (fun b o hc e => ⟨o, k b o (fun z => hc (by simp [z])) e⟩) (fun _ _ e => e) (fun _ _ _ e => e) (fun b ps e => ⟨#[], by rw [e]; simp⟩) (fun m hm => ?_) (fun b u e => ?_) I.bare
 . have e : b = it := by simpa using hb
   subst e
   exact ⟨h1, hL, h2, h3⟩
 . obtain ⟨o, es, ep, ho, r⟩ := hm
   exact ⟨o, es, ep, k _ o (Ne.symm hL) ho, r⟩
 . refine (I.bA b u e).Hj (fun c v hc q => k c v ?_ q) (fun _ q => q) fun _ _ q => q
   rcases hc with z | z
   . rw [z]; exact nit b u e
   . exact nit c _ z
theorem Inv.tok (I : Inv X pins σ H s) (t : Nat) : Inv X pins σ H { s with toks := t } := I.un (h' := s.heap) (t' := t) Un.refl I.bA
theorem Inv.kept {t' : Nat} (I : Inv X pins σ H s) (k : ∀ b u, s.heap.get? b = some u -> h'.get? b = some u) : Inv X pins σ H { s with heap := h', toks := t' } := I.un (Un.kept k) (I.bA.kept k)
theorem Inv.laid {a : Addr} {o : HO} {t' : Nat} (I : Inv X pins σ H s) (k : ∀ b u, s.heap.get? b = some u -> h'.get? b = some u) (hp : s.heap.objs.size <= a) (new : cH X.prog X.w (upd H a o) h' a o) :
 Inv X pins σ (upd H a o) { s with heap := h', toks := t' } := I.un (Un.laid k hp (I.bA.fresh hp)) (I.bA.laid k hp new)
theorem Inv.write {x e : Addr} {o : HO} {t' : Nat} (I : Inv X pins σ H s) (mu : Za (H x)) (he : e = x \/ H e = some (.own x)) (k : ∀ b u, b ≠ e -> s.heap.get? b = some u -> h'.get? b = some u) (XX : ∃ u, h'.get? e = some u)
 (new : cH X.prog X.w (upd H x o) h' x o) : Inv X pins σ (upd H x o) { s with heap := h', toks := t' } := I.un (Un.write mu he k XX) (I.bA.write mu he k XX new)
theorem Inv.weak {σ' : List (Option V)} (I : Inv X pins σ H s) (hl : σ'.length = σ.length) (w : ∀ (i : Nat) v, σ'[i]? = some (some v) -> σ[i]? = some (some v)) : Inv X pins σ' H s :=
 ⟨I.ok, I.os, I.bare, I.base, let ⟨m, hn, Oc⟩ := I.loc; ⟨m, hn, fun i x v e1 e2 e3 => Oc i x v e1 (w i v e2) e3⟩, I.cell, I.free, I.mG, I.pin, I.bA, hl.trans I.len⟩
theorem Inv.zZ {UT : List (Addr × Obj)} (I : Inv X pins σ H s) (h : ∀ p ∈ UT, s.heap.get? p.1 = some p.2 /\ H p.1 = none /\ p.1 ≠ X.env.locals /\ p.1 ∉ X.fs /\ ∀ v, p.2.data ≠ .cell v) : Inv X UT σ H s :=
 ⟨I.ok, I.os, I.bare, I.base, I.loc, I.cell, I.free, I.mG, fun p hp => (List.mem_append.mp hp).elim (fun z => I.pin p (List.mem_append_left _ z)) (h p), I.bA, I.len⟩
theorem HG {N : List Str} (hN : N.Nodup) {i j : Nat} {x : Str} (a : N[i]? = some x) (b : N[j]? = some x) : i = j := by
 obtain ⟨h1, e1⟩ := List.getElem?_eq_some_iff.mp a
 obtain ⟨h2, e2⟩ := List.getElem?_eq_some_iff.mp b
 exact (List.getElem_inj hN).mp (e1.trans e2.symm)
theorem F7 {M : Model} {A : Around} {E : Value -> Shared -> Prop} {i : Nat} {x : Str} {v : V} {u : Value} {Q : Unit -> Shared -> Prop} (I : Inv X pins σ H s) (hN : X.N.Nodup) (hi : X.N[i]? = some x) (hx : Loc X.env.scope x) (r : RelV v u)
 (h : ∀ s', Inv X pins (σ.set i (some v)) H s' -> (∃ a, Heap.SameBut a s.heap s'.heap /\ (a = X.env.locals \/ X.env.cells.lookup x = some a)) -> Q () s') (hf : X.fn x = true \/ X.env.scope.names.lookup x = some .local := by first | exact .inl rfl | exact .inr rfl | assumption) : wpAny M A (storeName X.env x u) Q E s := by
 obtain ⟨m, hn, hl⟩ := id I.loc
 have abf : (X.env.scope.kind == .class || (X.env.scope.kind == .module && X.env.locals != X.env.globals)) = false := by rw [I.ok.kind]; rfl
 have YV : i < σ.length := by rw [I.len]; exact (List.getElem?_eq_some_iff.mp hi).1
 have VX := I.VX
 have tracked : ∀ {a : Addr} {h' : Heap}, (∃ o, s.heap.get? a = some o /\ H a = none) -> Heap.SameBut a s.heap h' -> pQ X.prog X.w H h' := fun {a h'} ha hs b ob e => by
  obtain ⟨_, _, Uq⟩ := ha
  refine (I.bA b ob e).Hj (fun c w' hc q => (hs.2 c ?_).trans q) (fun _ q => q) fun _ _ q => q
  rintro rfl
  rcases hc with rfl | hc
  . rw [Uq] at e; cases e
  . rw [Uq] at hc; cases hc
 rcases hx with hk | hk
 . refine wpAny_storeName_local hk hn (fun h' hn' hs => ?_) abf
   obtain ⟨oL, _, _, QX, _⟩ := id hn
   refine h _ ⟨I.ok, I.os, I.bare, ⟨fun b o e n hb hx => ?_, fun b o e n hb hx => ?_, I.base.free, fun b o e hx => ?_, I.base.zC, I.base.wO, I.base.Ds⟩, ⟨_, hn', fun j y v' e1 e2 e3 => ?_⟩, fun y c e => ?_, I.free, I.mG, fun p hp => ?_, tracked ⟨oL, QX, I.free⟩ hs, by simpa using I.len⟩ ⟨_, hs, .inl rfl⟩
   . exact (hs.2 b (Nat.ne_of_lt (Nat.lt_of_lt_of_le (Heap.lt_size e) I.ok.above))).trans (I.base.keep b o e n hb hx)
   . obtain ⟨sl, e1⟩ := I.base.slot b o e n hb hx
     exact ⟨sl, (hs.2 b (Nat.ne_of_lt (Nat.lt_of_lt_of_le (Heap.lt_size e) I.ok.above))).trans e1⟩
   . obtain ⟨o', e1⟩ := I.base.there b o e hx
     exact ⟨o', (hs.2 b (Nat.ne_of_lt (Nat.lt_of_lt_of_le (Heap.lt_size e) I.ok.above))).trans e1⟩
   . by_cases hj : j = i
     . subst hj
       rw [hi] at e1; cases e1
       rw [List.getElem?_set_self YV] at e2
       cases e2
       exact ⟨u, r, .inl ⟨hk, by simp⟩⟩
     . rw [List.getElem?_set_ne (Ne.symm hj)] at e2
       obtain ⟨u', r', q⟩ := hl j y v' e1 e2 e3
       refine ⟨u', r', ?_⟩
       rcases q with ⟨k, e⟩ | ⟨k, c, e, z⟩
       . refine .inl ⟨k, ?_⟩
         have : y ≠ x := fun e => hj (HG hN e1 (e ▸ hi))
         simp [this, e]
       . exact .inr ⟨k, c, e, z.sameBut hs (VX y c e)⟩
   . obtain ⟨w', z⟩ := I.cell y c e
     exact ⟨w', z.sameBut hs (VX y c e)⟩
   . obtain ⟨e, n, ne, nf, d⟩ := I.pin p hp
     exact ⟨(hs.2 p.1 ne).trans e, n, ne, nf, d⟩
 . have UW : X.fn x = true := by
    rcases hf with z | z
    . exact z
    . rw [z] at hk; cases hk
   obtain ⟨c, hc⟩ := I.ok.has x (.inl hk)
   obtain ⟨w', z⟩ := I.cell x c hc
   refine wpAny_storeName_cell I.ok.kind hk hc z (fun h' QT hs => ?_)
   obtain ⟨oc, hoc, abH⟩ := id z
   refine h { s with heap := h' } ⟨I.ok, I.os, I.bare, ⟨fun b o e n hb hx => ?_, fun b o e n hb hx => ?_, I.base.free, fun b o e hx => ?_, I.base.zC, I.base.wO, I.base.Ds⟩, ⟨m, hn.sameBut hs (Ne.symm (VX x c hc)), fun j y v' e1 e2 e3 => ?_⟩, fun y c' e => ?_, I.free, I.mG, fun p hp => ?_, tracked ⟨oc, hoc, I.mG x c hc⟩ hs, by simpa using I.len⟩ ⟨c, hs, .inr hc⟩
   . exact (hs.2 b (Nat.ne_of_lt (Nat.lt_of_lt_of_le (Heap.lt_size e) (I.ok.X7 x c UW hc)))).trans (I.base.keep b o e n hb hx)
   . obtain ⟨sl, e1⟩ := I.base.slot b o e n hb hx
     exact ⟨sl, (hs.2 b (Nat.ne_of_lt (Nat.lt_of_lt_of_le (Heap.lt_size e) (I.ok.X7 x c UW hc)))).trans e1⟩
   . obtain ⟨o', e1⟩ := I.base.there b o e hx
     exact ⟨o', (hs.2 b (Nat.ne_of_lt (Nat.lt_of_lt_of_le (Heap.lt_size e) (I.ok.X7 x c UW hc)))).trans e1⟩
   . by_cases hj : j = i
     . subst hj
       rw [hi] at e1; cases e1
       rw [List.getElem?_set_self YV] at e2
       cases e2
       exact ⟨u, r, .inr ⟨.inl hk, c, hc, QT⟩⟩
     . rw [List.getElem?_set_ne (Ne.symm hj)] at e2
       obtain ⟨u', r', q⟩ := hl j y v' e1 e2 e3
       refine ⟨u', r', ?_⟩
       rcases q with q | ⟨k, c', e, z'⟩
       . exact .inl q
       . refine .inr ⟨k, c', e, z'.sameBut hs ?_⟩
         rintro rfl
         exact hj (HG hN e1 (I.ok.inj _ _ _ e hc ▸ hi))
   . by_cases hcc : c' = c
     . subst hcc; exact ⟨_, QT⟩
     . obtain ⟨w2, z2⟩ := I.cell y c' e
       exact ⟨w2, z2.sameBut hs hcc⟩
   . obtain ⟨e, n, ne, nf, d⟩ := I.pin p hp
     refine ⟨(hs.2 p.1 ?_).trans e, n, ne, nf, d⟩
     intro q
     rw [q, hoc] at e
     have q' : oc = p.2 := Option.some.inj e
     exact d w' (by rw [<- q']; exact abH)
theorem HS {M : Model} {A : Around} {E : Value -> Shared -> Prop} {i : Nat} {x : Str} {v : V} {u : Value} {Q : Unit -> Shared -> Prop} (I : Inv X pins σ H s) (hN : X.N.Nodup) (hi : X.N[i]? = some x) (hx : Loc X.env.scope x) (r : RelV v u)
 (h : ∀ s', Inv X pins (σ.set i (some v)) H s' -> Q () s') (hf : X.fn x = true \/ X.env.scope.names.lookup x = some .local := by first | exact .inl rfl | exact .inr rfl | assumption) : wpAny M A (storeName X.env x u) Q E s :=
 F7 I hN hi hx r (fun s' I' _ => h s' I') hf
theorem Inv.ZV {s' : Shared} {ch : List Addr} (I : Inv X pins σ H s) (ho : s'.os = s.os) (u : Un (HC X.stack) ch H H' s.heap s'.heap) (bA : pQ X.prog X.w H' s'.heap) (hg : AllBare s'.gens)
 (QQ : ∀ b ∈ ch, (b ∈ X.ex \/ X.hE.heap.objs.size <= b) /\ b ≠ X.env.locals /\ (∀ x c, X.env.cells.lookup x = some c -> c ≠ b) /\ ∀ p ∈ X.pn ++ pins, p.1 ≠ b) : Inv X pins σ H' s' := by
 obtain ⟨h', g', d', t', o'⟩ := s'
 have e : o' = s.os := ho
 subst e
 exact I.call (g' := g') (t' := t') (d' := d') u bA hg QQ
end
abbrev XK := Value -> Option Addr -> Hp -> Prop
abbrev St := List (Option V)
abbrev VK := V -> Hp -> Prop
abbrev TE := St -> Hp -> VK -> Prop
abbrev TT := St -> Hp -> (Bool -> Hp -> Prop) -> Prop
abbrev TA := St -> Hp -> (List V -> Hp -> Prop) -> Prop
structure Ends where
 nx : St -> Hp -> Prop
 rt : VK
 bk : St -> Hp -> Prop := fun _ _ => False
 ct : St -> Hp -> Prop := fun _ _ => False
abbrev TS := Ends -> St -> Hp -> Prop
def EP (X : Cx) (pins : List (Addr × Obj)) (σ : St) (Q : VK) (u : Value) (s' : Shared) : Prop := ∃ v H', Inv X pins σ H' s' /\ RelV v u /\ Q v H'
def TP (X : Cx) (pins : List (Addr × Obj)) (σ : St) (Q : Bool -> Hp -> Prop) (b : Bool) (s' : Shared) : Prop := ∃ H', Inv X pins σ H' s' /\ Q b H'
def AP (X : Cx) (pins : List (Addr × Obj)) (σ : St) (Q : List V -> Hp -> Prop) (us : List Value) (s' : Shared) : Prop := ∃ vs H', Inv X pins σ H' s' /\ Vals vs us /\ Q vs H'
def SP (X : Cx) (pins : List (Addr × Obj)) (D : Ends) (f : Flow) (s' : Shared) : Prop :=
 match f with
 | .next => ∃ σ' H', Inv X pins σ' H' s' /\ D.nx σ' H'
 | .brk => ∃ σ' H', Inv X pins σ' H' s' /\ D.bk σ' H'
 | .cont => ∃ σ' H', Inv X pins σ' H' s' /\ D.ct σ' H'
 | .ret u => ∃ v σ' H', Inv X pins σ' H' s' /\ RelV v u /\ D.rt v H'
def PE (X : Cx) (e : Expr) (t : TE) : Prop :=
 ∀ (pins : List (Addr × Obj)) (s : Shared) (σ : St) (H : Hp) (Q : VK), Inv X pins σ H s -> t σ H Q -> wpAny (model X.prog X.w) X.A (eval e X.env) (EP X pins σ Q) X.xe s
def PT (X : Cx) (e : Expr) (t : TT) : Prop :=
 ∀ (pins : List (Addr × Obj)) (s : Shared) (σ : St) (H : Hp) (Q : Bool -> Hp -> Prop), Inv X pins σ H s -> t σ H Q -> wpAny (model X.prog X.w) X.A (isTrue e X.env (eval e X.env)) (TP X pins σ Q) X.xe s
def PW (X : Cx) (e : Expr) (t : TT) : Prop :=
 ∀ (whole : Sem Value) (pins : List (Addr × Obj)) (s : Shared) (σ : St) (H : Hp) (Q : Bool -> Hp -> Prop), Inv X pins σ H s -> t σ H Q -> wpAny (model X.prog X.w) X.A (isTrue e X.env whole) (TP X pins σ Q) X.xe s
theorem PW.pt {X : Cx} {e : Expr} {t : TT} (h : PW X e t) : PT X e t := h _
def PA (X : Cx) (es : List Expr) (t : TA) : Prop :=
 ∀ (pos : Pos) (pins : List (Addr × Obj)) (s : Shared) (σ : St) (H : Hp) (Q : List V -> Hp -> Prop), Inv X pins σ H s -> t σ H Q -> wpAny (model X.prog X.w) X.A (spliced (backTo pos (starEach es X.env))) (AP X pins σ Q) X.xe s
def PS (X : Cx) (st : Stmt) (t : TS) : Prop :=
 ∀ (pins : List (Addr × Obj)) (s : Shared) (σ : St) (H : Hp) (D : Ends), Inv X pins σ H s -> t D σ H -> wpAny (model X.prog X.w) X.A (exec st X.env) (SP X pins D) X.xe s
def Jf (X : Cx) (st : List Stmt) (t : TS) : Prop :=
 ∀ (pins : List (Addr × Obj)) (s : Shared) (σ : St) (H : Hp) (D : Ends), Inv X pins σ H s -> t D σ H -> wpAny (model X.prog X.w) X.A (execs st X.env) (SP X pins D) X.xe s
theorem dj {α : Type} {t : Sem α} {Q Q' : α -> Shared -> Prop} {M : Model} {A : Around} {E : Value -> Shared -> Prop} {s : Shared} (h : wpAny M A t Q E s) (hQ : ∀ a s, Q a s -> Q' a s) : wpAny M A t Q' E s := wpAny_mono h hQ fun _ _ x => x
section
variable {X : Cx}
def Xl (i : Nat) : TE := fun σ H Q => ∃ v, σ[i]? = some (some v) /\ Q v H
def tC (v : V) : TE := fun _ H Q => Q v H
theorem U6 {i : Nat} {x : Str} {pos : Pos} (hN : X.N[i]? = some x) (hv : Vis X.env.scope x) (hd : (x == ("__debug__" : Str)) = false := by decide) (NN : (x == ("__classdict__" : Str)) = false := by decide) : PE X (.Name x pos) (Xl i) := by
 intro pins s σ H Q I h
 obtain ⟨v, e, h⟩ := h
 obtain ⟨m, hn, hl⟩ := I.loc
 obtain ⟨u, r, l⟩ := hl i x v hN e hv
 have fin : EP X pins σ Q u s := ⟨v, H, I, r, h⟩
 rcases l with ⟨hk, hm⟩ | ⟨hk, c, hc, F2⟩
 . exact wpAny_Name (wpAny_loadName_local I.ok.kind hk hn hm fin) hd
 . rcases hk with hk | hk
   . exact wpAny_Name (wpAny_loadName_cell I.ok.kind hk hc F2 fin) hd
   . exact wpAny_Name (wpAny_loadName_free I.ok.kind hk hc F2 fin NN) hd
theorem af {i j pos} : PE X (.Constant (.int i) j pos) (tC (.int i)) := fun _ _ _ H _ I h => wpAny_Constant_int ⟨.int i, H, I.tok _, ⟨_, rfl⟩, h⟩
theorem CY {b j pos} : PE X (.Constant (.bool b) j pos) (tC (.bl b)) := fun _ _ _ H _ I h => Constant_bool ⟨.bl b, H, I, rfl, h⟩
theorem cK {j pos} : PE X (.Constant .none j pos) (tC .aT) := fun _ _ _ H _ I h => Constant_none ⟨.aT, H, I, rfl, h⟩
theorem iF {x j pos} : PE X (.Constant (.str x) j pos) (tC (.str x)) := fun _ _ _ H _ I h => Calls.Constant_str ⟨.str x, H, I.tok _, ⟨_, rfl⟩, h⟩
def Gl (X : Cx) (x : Str) : Prop := X.env.kindOf x = some .globalImplicit
theorem DK {E : Value -> Shared -> Prop} {pins : List (Addr × Obj)} {s : Shared} {σ : St} {H : Hp} {x : Str} {u : Value} {pos : Pos} {Q : Value -> Shared -> Prop} (I : Inv X pins σ H s) (hg : Gl X x) (hm : X.mg x = some u) (h : Q u s)
 (hd : (x == ("__debug__" : Str)) = false := by decide) : wpAny (model X.prog X.w) X.A (eval (.Name x pos) X.env) Q E s :=
 Calls.Name_function_global I.ok.kind hg (Calls.loadGlobal_global (by rw [I.ok.glob]; exact I.mod.glob.keeps I.bk) hm h) hd
theorem BD {E : Value -> Shared -> Prop} {pins : List (Addr × Obj)} {s : Shared} {σ : St} {H : Hp} {x : Str} {u : Value} {pos : Pos} {Q : Value -> Shared -> Prop} (I : Inv X pins σ H s) (hg : Gl X x) (hm : X.mg x = none) (hv : bootBuiltins x = some u) (h : Q u s)
 (hn : x ≠ "__name__" := by decide) (hd : (x == ("__debug__" : Str)) = false := by decide) : wpAny (model X.prog X.w) X.A (eval (.Name x pos) X.env) Q E s := by
 obtain ⟨mb, h1, h2⟩ := I.mod.blt
 exact Calls.Name_function_global I.ok.kind hg (Calls.loadGlobal_builtin (by rw [I.ok.glob]; exact I.mod.glob.keeps I.bk) hm (by rw [I.ok.blt]; exact h1.keeps I.bk) ((h2 x hn).trans hv) h) hd
theorem pV {x : Str} {v : V} {u : Value} {pos : Pos} (hg : Gl X x) (hm : X.mg x = none) (hv : bootBuiltins x = some u) (r : RelV v u) (hn : x ≠ "__name__" := by decide) (hd : (x == ("__debug__" : Str)) = false := by decide) : PE X (.Name x pos) (tC v) :=
 fun _ _ _ H _ I h => BD I hg hm hv ⟨v, H, I, r, h⟩ hn hd
variable {a b : Expr} {ta tb : TE} {pos : Pos}
def PC (X : Cx) (op : CmpOp) (a b : Expr) (t : TE) : Prop :=
 ∀ (pins : List (Addr × Obj)) (s : Shared) (σ : St) (H : Hp) (Q : VK), Inv X pins σ H s -> t σ H Q ->
   wpAny (model X.prog X.w) X.A (eval a X.env) (fun v s₁ => wpAny (model X.prog X.w) X.A (eval b X.env) (fun u s₂ => wpAny (model X.prog X.w) X.A (compareOp op v u) (EP X pins σ Q) X.xe s₂) X.xe s₁) X.xe s
def tB (t : TE) : TT := fun σ H Q => t σ H fun x H1 => ∃ c, x = .bl c /\ Q c H1
theorem GY {op : CmpOp} {t : TE} (h : PC X op a b t) (h1 : behindInMarks op b = false := by first | exact ZL _ (by decide) (by decide) | rfl) : PT X (.Compare a [op] [b] pos) (tB t) := by
 intro pins s σ H Q I hw
 refine wpAny_isTrue_Compare1 (dj (h pins s σ H _ I hw) fun v s1 h1 => dj h1 fun u s2 h2 => dj h2 fun c s3 ⟨x, H1, I1, r1, q1⟩ => ?_) h1
 obtain ⟨d, rfl, q⟩ := q1
 cases r1
 exact wpAny_truthy_bool ⟨H1, I1, q⟩
variable {tA tB' : TT} {rest : List Expr}
def Yf (t u : TT) : TT := fun σ H Q => t σ H fun c H1 => if c = true then u σ H1 Q else Q false H1
def tOr (t u : TT) : TT := fun σ H Q => t σ H fun c H1 => if c = true then Q true H1 else u σ H1 Q
def Yj (t : TT) : TT := fun σ H Q => t σ H fun c H1 => Q (!c) H1
theorem DL (ha : PT X a tA) : PW X (.BoolOp .And [a] pos) tA := by
 intro wh pins s σ H Q I h
 refine isTrue_and (dj (ha pins s σ H Q I h) fun c s1 e => ?_)
 cases c with
 | true => exact isTrue_and_nil e
 | false => exact e
theorem Ho (ha : PT X a tA) : PW X (.BoolOp .Or [a] pos) tA := by
 intro wh pins s σ H Q I h
 refine isTrue_or (dj (ha pins s σ H Q I h) fun c s1 e => ?_)
 cases c with
 | false => exact isTrue_or_nil e
 | true => exact e
theorem He (ha : PT X a tA) (hb : PW X (.BoolOp .And (b :: rest) pos) tB') : PW X (.BoolOp .And (a :: b :: rest) pos) (Yf tA tB') := by
 intro wh pins s σ H Q I h
 refine isTrue_and (dj (ha pins s σ H _ I h) fun c s1 ⟨H1, I1, q1⟩ => ?_)
 cases c with
 | true => exact hb wh pins s1 σ H1 Q I1 q1
 | false => exact ⟨H1, I1, q1⟩
theorem KZ (ha : PT X a tA) (hb : PW X (.BoolOp .Or (b :: rest) pos) tB') : PW X (.BoolOp .Or (a :: b :: rest) pos) (tOr tA tB') := by
 intro wh pins s σ H Q I h
 refine isTrue_or (dj (ha pins s σ H _ I h) fun c s1 ⟨H1, I1, q1⟩ => ?_)
 cases c with
 | true => exact ⟨H1, I1, q1⟩
 | false => exact hb wh pins s1 σ H1 Q I1 q1
theorem qd (ha : PT X a tA) : PT X (.UnaryOp .Not a pos) (Yj tA) := by
 intro pins s σ H Q I h
 exact isTrue_not (ha pins s σ H (fun c H1 => Q (!c) H1) I h)
def Uv (ta tb : TE) : TE := fun σ H Q => ta σ H fun x H1 => ∃ c, x = .bl c /\ if c = true then tb σ H1 Q else Q (.bl false) H1
def Yu (ta tb : TE) : TE := fun σ H Q => ta σ H fun x H1 => ∃ c, x = .bl c /\ if c = true then Q (.bl true) H1 else tb σ H1 Q
def U0 (ta : TE) : TE := fun σ H Q => ta σ H fun x H1 => ∃ c, x = .bl c /\ Q (.bl (!c)) H1
theorem Hg {op} {t : TE} (h : PE X a t) : PE X (.BoolOp op [a] pos) t := fun pins s σ H Q I hw => BoolOp_one (h pins s σ H Q I hw)
theorem Kl (ha : PE X a ta) (hb : PE X (.BoolOp .And (b :: rest) pos) tb) : PE X (.BoolOp .And (a :: b :: rest) pos) (Uv ta tb) := by
 intro pins s σ H Q I h
 refine BoolOp_and (dj (ha pins s σ H _ I h) fun v s1 ⟨x, H1, I1, r1, q1⟩ => ?_)
 obtain ⟨c, rfl, q1⟩ := q1
 cases r1
 refine wpAny_truthy_bool ?_
 cases c with
 | true => exact hb pins s1 σ H1 Q I1 q1
 | false => exact ⟨.bl false, H1, I1, rfl, q1⟩
theorem ZS (ha : PE X a ta) (hb : PE X (.BoolOp .Or (b :: rest) pos) tb) : PE X (.BoolOp .Or (a :: b :: rest) pos) (Yu ta tb) := by
 intro pins s σ H Q I h
 refine BoolOp_or (dj (ha pins s σ H _ I h) fun v s1 ⟨x, H1, I1, r1, q1⟩ => ?_)
 obtain ⟨c, rfl, q1⟩ := q1
 cases r1
 refine wpAny_truthy_bool ?_
 cases c with
 | false => exact hb pins s1 σ H1 Q I1 q1
 | true => exact ⟨.bl true, H1, I1, rfl, q1⟩
theorem O4 (ha : PE X a ta) : PE X (.UnaryOp .Not a pos) (U0 ta) := by
 intro pins s σ H Q I h
 refine UnaryOp_ (dj (ha pins s σ H _ I h) fun v s1 ⟨x, H1, I1, r1, q1⟩ => ?_)
 obtain ⟨c, rfl, q1⟩ := q1
 cases r1
 exact not_of (wpAny_truthy_bool ⟨.bl (!c), H1, I1, rfl, q1⟩)
def tIf (t : TT) (ta tb : TE) : TE := fun σ H Q => t σ H fun c H1 => if c = true then ta σ H1 Q else tb σ H1 Q
theorem D7 {c : Expr} (hc : PT X c tA) (ha : PE X a ta) (hb : PE X b tb) : PE X (.IfExp c a b pos) (tIf tA ta tb) := by
 intro pins s σ H Q I h
 refine wpAny_IfExp (dj (hc pins s σ H _ I h) fun d s1 ⟨H1, I1, q1⟩ => ?_)
 cases d with
 | true => exact ha pins s1 σ H1 Q I1 q1
 | false => exact hb pins s1 σ H1 Q I1 q1
end
def i9 (K : PySem.W.Frag) (H : Hp) (a : Addr) (xs : List V) : Prop :=
 Rd H a (.lst xs) \/
  ∃ (o : Obj) (b4 : Array Value) (n : Nat), K.lookup a = some o /\ o.cls = .type "list" /\ o.dict = none /\ o.data = .seq b4 n /\ b4.size <= sizeLine /\ Vals xs b4.toList
def Fp (K : PySem.W.Frag) (H : Hp) (a : Addr) (xs : List V) : Prop :=
 Rd H a (.tup xs) \/
  ∃ (o : Obj) (b4 : Array Value) (n : Nat), K.lookup a = some o /\ o.cls = .type "tuple" /\ o.data = .seq b4 n /\ b4.size <= sizeLine /\ Vals xs b4.toList
def abt : Value -> Option V
 | .none => some .aT
 | .bool b => some (.bl b)
 | .int i _ => some (.int i)
 | .str x _ => some (.str x)
 | .bytes b _ => some (.Lz b)
 | .float b _ => some (.WL b)
 | .ref a => some (.ref a)
 | .type n => some (.ty n)
 | _ => none
theorem RelV.abs {x : V} {u : Value} (r : RelV x u) : abt u = some x := by
 cases x with
 | aT => cases r; rfl
 | bl _ => cases r; rfl
 | int _ => obtain ⟨t, rfl⟩ := r; rfl
 | str _ => obtain ⟨t, rfl⟩ := r; rfl
 | Lz _ => obtain ⟨t, rfl⟩ := r; rfl
 | WL _ => obtain ⟨t, rfl⟩ := r; rfl
 | ref _ => cases r; rfl
 | ty _ => cases r; rfl
theorem RelV.inj {x y : V} {u : Value} (r : RelV x u) (q : RelV y u) : x = y := Option.some.inj (r.abs.symm.trans q.abs)
theorem Vals.inj : ∀ {xs ys : List V} {us : List Value}, Vals xs us -> Vals ys us -> xs = ys
 | _, _, _, .nil, .nil => rfl
 | _, _, _, .cons r t, .cons r' t' => by rw [r.inj r', Vals.inj t t']
section
variable {X : Cx} {pins : List (Addr × Obj)} {σ : St} {H : Hp} {s : Shared} {a : Addr} {xs ys : List V}
theorem i9.of {K : PySem.W.Frag} (h : H a = some (.lst xs)) : i9 K H a xs := .inl (.inl h)
theorem Fp.of {K : PySem.W.Frag} (h : H a = some (.tup xs)) : Fp K H a xs := .inl (.inl h)
theorem Inv.list (I : Inv X pins σ H s) (h : i9 X.K H a xs) : ∃ b4 : List Value, Vals xs b4 /\ PlainL s.heap a b4.toArray /\ xs.length <= sizeLine := by
 rcases h with h | ⟨o, b4, n, hk, hc, hd, hs, hz, r⟩
 . obtain ⟨z, b4, n, r, e⟩ := h.ok I.bA
   exact ⟨b4, r, ⟨_, n, e, rfl, rfl, rfl⟩, z⟩
 . refine ⟨b4.toList, r, ⟨o, n, I.AB a o hk, hc, hd, by simpa using hs⟩, ?_⟩
   have e := r.length
   simp only [Array.length_toList] at e
   omega
theorem Inv.tuple (I : Inv X pins σ H s) (h : Fp X.K H a xs) : ∃ b4 : List Value, Vals xs b4 /\ IsTup s.heap a b4.toArray /\ xs.length <= sizeLine := by
 rcases h with h | ⟨o, b4, n, hk, hc, hs, hz, r⟩
 . obtain ⟨z, b4, r, p⟩ := h.ok I.bA
   exact ⟨b4, r, p, z⟩
 . refine ⟨b4.toList, r, ⟨o, I.AB a o hk, hc, n, by simpa using hs⟩, ?_⟩
   have e := r.length
   simp only [Array.length_toList] at e
   omega
theorem Inv.Pz (I : Inv X pins σ H s) (h : i9 X.K H a xs) (h' : i9 X.K H a ys) : xs = ys := by
 obtain ⟨b4, r, ⟨o, n, e, _, _, d⟩, _⟩ := I.list h
 obtain ⟨its', r', ⟨o', n', e', _, _, d'⟩, _⟩ := I.list h'
 rw [e] at e'; cases e'
 rw [d] at d'
 injection d' with d1 _
 have : b4 = its' := by simpa using congrArg Array.toList d1
 subst this
 exact r.inj r'
theorem Inv.Nq (I : Inv X pins σ H s) (h : Fp X.K H a xs) (h' : Fp X.K H a ys) : xs = ys := by
 obtain ⟨b4, r, ⟨o, e, _, n, d⟩, _⟩ := I.tuple h
 obtain ⟨its', r', ⟨o', e', _, n', d'⟩, _⟩ := I.tuple h'
 rw [e] at e'; cases e'
 rw [d] at d'
 injection d' with d1 _
 have : b4 = its' := by simpa using congrArg Array.toList d1
 subst this
 exact r.inj r'
end
abbrev Cx.Fu (X : Cx) (E : Value -> Shared -> Prop) : Cx := { X with xe := E }
abbrev Cx.nox (X : Cx) : Cx := X.Fu fun _ _ => False
theorem Cx.Ok.Fu {X : Cx} (ok : X.Ok) (E : Value -> Shared -> Prop) : (X.Fu E).Ok :=
 ⟨ok.mod, ok.kind, ok.glob, ok.blt, ok.above, ok.inj, ok.has, ok.X7, ok.hd, ok.frames, ok.stk, ok.Yr, ok.bs, ok.Py, ok.Mz, ok.L1, ok.BU, ok.UD⟩
theorem Cx.Ok.vU {X : Cx} {E : Value -> Shared -> Prop} (ok : (X.Fu E).Ok) : X.Ok :=
 ⟨ok.mod, ok.kind, ok.glob, ok.blt, ok.above, ok.inj, ok.has, ok.X7, ok.hd, ok.frames, ok.stk, ok.Yr, ok.bs, ok.Py, ok.Mz, ok.L1, ok.BU, ok.UD⟩
section
variable {X : Cx} {pins : List (Addr × Obj)} {σ : St} {H : Hp} {s : Shared} {E : Value -> Shared -> Prop}
theorem Inv.Fu (I : Inv X pins σ H s) (E : Value -> Shared -> Prop) : Inv (X.Fu E) pins σ H s := ⟨I.ok.Fu E, I.os, I.bare, I.base, I.loc, I.cell, I.free, I.mG, I.pin, I.bA, I.len⟩
theorem Inv.vU (I : Inv (X.Fu E) pins σ H s) : Inv X pins σ H s := ⟨I.ok.vU, I.os, I.bare, I.base, I.loc, I.cell, I.free, I.mG, I.pin, I.bA, I.len⟩
theorem SP.vU {D : Ends} {f : Flow} {s' : Shared} (h : SP (X.Fu E) pins D f s') : SP X pins D f s' := by
 cases f with
 | next => obtain ⟨σ', H', I, q⟩ := h; exact ⟨σ', H', I.vU, q⟩
 | brk => obtain ⟨σ', H', I, q⟩ := h; exact ⟨σ', H', I.vU, q⟩
 | cont => obtain ⟨σ', H', I, q⟩ := h; exact ⟨σ', H', I.vU, q⟩
 | ret u => obtain ⟨v, σ', H', I, r, q⟩ := h; exact ⟨v, σ', H', I.vU, r, q⟩
theorem Jf.nox {st : List Stmt} {t : TS} (h : Jf X.nox st t) : Jf X st t := fun pins s σ H D I hw =>
 wpAny_mono (h pins s σ H D (I.Fu _) hw) (fun _ _ q => q.vU) fun _ _ z => False.elim z
end
section
variable {X : Cx} {st : Stmt} {rest : List Stmt} {t u : TS} {e : Expr} {te : TE} {pos : Pos}
def Qj : TS := fun D σ H => D.nx σ H
theorem aH : Jf X [] Qj := fun _ _ σ H _ I h => wpAny_execs_nil ⟨σ, H, I, h⟩
theorem ai (h1 : PS X st t) : Jf X [st] t := by
 intro pins s σ H D I h
 refine wpAny_execs_cons (dj (h1 pins s σ H D I h) fun f s1 q => ?_)
 cases f with
 | next => exact wpAny_execs_nil q
 | ret v => exact q
 | brk => exact q
 | cont => exact q
theorem Lj : PS X (.Pass pos) Qj := fun _ _ σ H _ I h => wpAny_Pass ⟨σ, H, I, h⟩
theorem Inv.quiet {pins : List (Addr × Obj)} {σ : St} {H : Hp} {s : Shared} (I : Inv X pins σ H s) : interactive X.env = false := by simp [interactive, I.ok.kind]
def UJ (te : TE) : TS := fun D σ H => te σ H fun _ H1 => D.nx σ H1
theorem aO (he : PE X e te) (hs : swapsWith e none pos.line X.env = pure false := by rfl) : PS X (.Expr e pos) (UJ te) := by
 intro pins s σ H D I h
 exact wpAny_Expr_any (dj (he pins s σ H _ I h) fun v s1 ⟨x, H1, I1, r1, q1⟩ => ⟨σ, H1, I1, q1⟩) I.quiet hs
def Z7 (te : TE) : TS := fun D σ H => te σ H D.rt
theorem aA (he : PE X e te) : PS X (.Return (some e) pos) (Z7 te) := by
 intro pins s σ H D I h
 exact wpAny_Return_some (dj (he pins s σ H _ I h) fun v s1 ⟨x, H1, I1, r1, q1⟩ => ⟨x, σ, H1, I1, r1, q1⟩)
def Zb (c : TT) (t u : TS) : TS := fun D σ H => c σ H fun b H1 => if b = true then t D σ H1 else u D σ H1
theorem bM {c : Expr} {a b : List Stmt} {tc : TT} (hc : PT X c tc) (ha : Jf X a t) (hb : Jf X b u) : PS X (.If c a b pos) (Zb tc t u) := by
 intro pins s σ H D I h
 refine wpAny_If (dj (hc pins s σ H _ I h) fun d s1 ⟨H1, I1, q1⟩ => ?_)
 cases d with
 | true => exact ha pins s1 σ H1 D I1 q1
 | false => exact hb pins s1 σ H1 D I1 q1
def V2 : TS := fun _ _ _ => False
theorem b8 : PS X st V2 := fun _ _ _ _ _ _ h => h.elim
end
abbrev TG := V -> St -> Hp -> (St -> Hp -> Prop) -> Prop
abbrev N1 := List V -> St -> Hp -> (St -> Hp -> Prop) -> Prop
def PG (X : Cx) (target : Expr) (t : TG) : Prop :=
 ∀ (pins : List (Addr × Obj)) (s : Shared) (σ : St) (H : Hp) (v : V) (u : Value) (Q : St -> Hp -> Prop), Inv X pins σ H s -> RelV v u -> t v σ H Q ->
   wpAny (model X.prog X.w) X.A (assign target X.env u) (fun _ s' => ∃ σ' H', Inv X pins σ' H' s' /\ Q σ' H') X.xe s
def ZR (X : Cx) (ts : List Expr) (t : N1) : Prop :=
 ∀ (pins : List (Addr × Obj)) (s : Shared) (σ : St) (H : Hp) (vs : List V) (us : List Value) (Q : St -> Hp -> Prop), Inv X pins σ H s -> Vals vs us -> t vs σ H Q ->
   wpAny (model X.prog X.w) X.A (assignInOrder ((assignEach ts X.env).map (·.2)) us) (fun _ s' => ∃ σ' H', Inv X pins σ' H' s' /\ Q σ' H') X.xe s
section
variable {X : Cx} {pos : Pos}
def iT (i : Nat) : TG := fun v σ H Q => Q (σ.set i (some v)) H
theorem bq {i : Nat} {x : Str} (hN : X.N.Nodup) (hi : X.N[i]? = some x) (hx : Loc X.env.scope x) (hf : X.fn x = true \/ X.env.scope.names.lookup x = some .local := by first | exact .inl rfl | exact .inr rfl | assumption) : PG X (.Name x pos) (iT i) := by
 intro pins s σ H v u Q I r h
 exact wpAny_assign_Name (HS I hN hi hx r (fun s' I' => ⟨_, H, I', h⟩) hf)
def MF : N1 := fun vs σ H Q => vs = [] /\ Q σ H
def tU (t : TG) (u : N1) : N1 := fun vs σ H Q => ∃ v r, vs = v :: r /\ t v σ H fun σ' H' => u r σ' H' Q
theorem zJ : ZR X [] MF := by
 intro pins s σ H vs us Q I r h
 obtain ⟨e, h⟩ := h
 subst e
 cases r
 exact assignInOrder_nil ⟨σ, H, I, h⟩
theorem ef {e : Expr} {es : List Expr} {t : TG} {u : N1} (h1 : PG X e t) (h2 : ZR X es u)
 (hs : (assignEach (e :: es) X.env).map (·.2) = assign e X.env :: (assignEach es X.env).map (·.2) := by rfl) : ZR X (e :: es) (tU t u) := by
 intro pins s σ H vs us Q I r h
 obtain ⟨v, vr, e1, h⟩ := h
 subst e1
 cases r with
 | cons r rr =>
   rw [hs]
   refine assignInOrder_cons (dj (h1 pins s σ H _ _ _ I r h) fun _ s1 ⟨σ1, H1, I1, q1⟩ => ?_)
   exact h2 pins s1 σ1 H1 _ _ Q I1 rr q1
def Kz (K : PySem.W.Frag) (n : Nat) (t : N1) : TG := fun v σ H Q => ∃ a xs, v = .ref a /\ Fp K H a xs /\ xs.length = n /\ t xs σ H Q
theorem Hv {es : List Expr} {k : Nat} {t : N1} {n : Nat} (hc : X.calm = true) (h : ZR X es t)
 (hn : (assignEach es X.env).length = n := by rfl) (AO : (assignEach es X.env).findIdx? (·.1) = none := by rfl) : PG X (.Tuple es k pos) (Kz X.K n t) := by
 intro pins s σ H v u Q I r hw
 obtain ⟨a, xs, e1, hq, hl, hw⟩ := hw
 subst e1
 cases r
 obtain ⟨b4, rv, ht, hz⟩ := I.tuple hq
 refine assign_Tuple_tuple (I.ok.hd hc) ht (by simp [hn, <- hl, rv.length]) AO fun h' hx => ?_
 have I1 : Inv X pins σ H { s with heap := h' } := I.kept (t' := s.toks) fun b o e => hx b o (Nat.ne_of_lt (Heap.lt_size e)) e
 exact h pins _ σ H xs _ Q I1 (by simpa using rv) hw
def Mg (te : TE) (g : TG) : TS := fun D σ H => te σ H fun x H1 => g x σ H1 D.nx
theorem Qq {tg e : Expr} {te : TE} {g : TG} (he : PE X e te) (hg : PG X tg g) (hs : swapsWithSole [tg] e pos.line X.env = pure false := by rfl) (hw : swappedStores [tg] e X.env = pure none := by rfl)
 (h1 : (assignEach [tg] X.env).map (·.2) = [assign tg X.env] := by rfl) : PS X (.Assign [tg] e pos) (Mg te g) := by
 intro pins s σ H D I h
 refine wpAny_Assign_stores (dj (he pins s σ H _ I h) fun v s1 ⟨x, H1, I1, r1, q1⟩ => ?_) hs hw
 rw [h1]
 exact dj (hg pins s1 σ H1 x v _ I1 r1 q1) fun _ s2 q => q
theorem aI {i : Nat} {x : Str} {e : Expr} {te : TE} {pos' : Pos} (hN : X.N.Nodup) (hi : X.N[i]? = some x) (hx : Loc X.env.scope x) (he : PE X e te) (hs : swapsWith e (some (.Name x pos')) pos.line X.env = pure false := by rfl) (hf : X.fn x = true \/ X.env.scope.names.lookup x = some .local := by first | exact .inl rfl | exact .inr rfl | assumption) :
 PS X (.Assign [.Name x pos'] e pos) (Mg te (iT i)) := by
 intro pins s σ H D I h
 refine wpAny_Assign_Name (dj (he pins s σ H _ I h) fun v s1 ⟨y, H1, I1, r1, q1⟩ => ?_) hs
 exact HS I1 hN hi hx r1 (fun s2 I2 => ⟨_, H1, I2, q1⟩) hf
end
section
variable {X : Cx} {pos : Pos}
def N0 (c : TT) (tb : TS) : TS := fun D σ H => ∃ W : Nat -> St -> Hp -> Prop, (∃ m, W m σ H) /\ ∀ m σ H, W m σ H ->
 c σ H fun b H1 => if b = true then ∃ N : St -> Hp -> Prop, (∀ σ' H', N σ' H' -> ∃ m', m' < m /\ W m' σ' H') /\ tb { D with nx := N, ct := N, bk := D.nx } σ H1 else D.nx σ H1
theorem IK {c : Expr} {body : List Stmt} {tc : TT} {tb : TS} (hp : PassesOwn (model X.prog X.w) X.A X.env X.xe) (hc : PT X c tc) (hb : Jf X body tb) : PS X (.While c body [] pos) (N0 tc tb) := by
 intro pins s σ H D I h
 obtain ⟨W, ⟨m0, w0⟩, turn⟩ := h
 refine wpAny_While (codeAny_whileLoop (fun n s' => ∃ σ' H', Inv X pins σ' H' s' /\ W n σ' H') ?_ m0 ⟨σ, H, I, w0⟩)
 rintro n s1 ⟨σ1, H1, I1, w1⟩
 refine wpAny_passesOwn hp (dj (hc pins s1 σ1 H1 _ I1 (turn n σ1 H1 w1)) fun b s2 ⟨H2, I2, q2⟩ => ?_)
 cases b with
 | true =>
   obtain ⟨N, hN, q2⟩ := q2
   rw [if_pos rfl]
   refine wpAny_passesOwn hp (dj (hb pins s2 σ1 H2 _ I2 q2) fun f s3 q3 => ?_)
   cases f with
   | next =>
     obtain ⟨σ3, H3, I3, n3⟩ := q3
     obtain ⟨m', hm, w3⟩ := hN σ3 H3 n3
     exact ⟨m', hm, σ3, H3, I3, w3⟩
   | cont =>
     obtain ⟨σ3, H3, I3, n3⟩ := q3
     obtain ⟨m', hm, w3⟩ := hN σ3 H3 n3
     exact ⟨m', hm, σ3, H3, I3, w3⟩
   | brk => exact q3
   | ret v => exact q3
 | false =>
   rw [if_neg Bool.false_ne_true]
   exact wpAny_execs_nil ⟨σ1, H2, I2, q2⟩
end
structure It where
 go : Nat -> Hp -> Prop
 Q0 : Nat -> Hp -> V -> Hp -> Prop
 stop : Nat -> Hp -> Prop
def zg (X : Cx) (pins : List (Addr × Obj)) (H : Hp) (b : Addr) : Prop :=
 H b = none /\ b ≠ X.env.locals /\ b ∉ X.fs /\ (b ∈ X.ex \/ X.hE.heap.objs.size <= b) /\ (∀ x c, X.env.cells.lookup x = some c -> c ≠ b) /\ ∀ p ∈ X.pn ++ pins, p.1 ≠ b
theorem Inv.Jv {X : Cx} {pins : List (Addr × Obj)} {σ : St} {H H' : Hp} {s : Shared} {b : Addr} (I : Inv X pins σ H s) (hb : s.heap.objs.size <= b) (hn : H' b = none) : zg X pins H' b := by
 refine ⟨hn, Nat.ne_of_gt (Nat.lt_of_lt_of_le I.lt hb), I.aa0 hb, .inr (Nat.le_trans I.sz hb), fun x c e z => ?_, fun p hp z => ?_⟩
 . obtain ⟨v, q⟩ := I.cell x c e
   exact absurd (Nat.lt_of_lt_of_le q.lt (by rw [z]; exact hb)) (Nat.lt_irrefl _)
 . exact absurd (Nat.lt_of_lt_of_le (Heap.lt_size (I.pin p hp).1) (by rw [z]; exact hb)) (Nat.lt_irrefl _)
structure Turn (P : Program) (w : World) (K : PySem.W.Frag) (tg : Expr) (J : It) (fp : List Addr) (it : Addr) (tn : Nat -> Heap -> Prop) : Prop where
 mem : it ∈ fp
 obj : ∀ i h, tn i h -> ∀ b ∈ fp, ∃ o, h.get? b = some o /\ ∀ v, o.data ≠ .cell v
 keep : ∀ i h h', tn i h -> (∀ b ∈ fp, ∀ o, h.get? b = some o -> h'.get? b = some o) -> tn i h'
 item : ∀ (X : Cx), X.prog = P -> X.w = w -> X.K = K -> X.calm = true -> ∀ (i : Nat) (pins : List (Addr × Obj)) (s : Shared) (σ : St) (H : Hp) (E : Value -> Shared -> Prop), Inv X pins σ H s -> (∀ b ∈ fp, zg X pins H b) -> tn i s.heap -> J.go i H ->
  wpAny (model P w) X.A (pyNext (.ref it)) (fun r s1 => ∃ u, r = some u /\
   wpAny (model P w) X.A (letOwnedTupleGo tg (.ref it) u) (fun _ s2 => ∃ x H', Inv X pins σ H' s2 /\ RelV x u /\ J.Q0 i H x H' /\ tn (i + 1) s2.heap /\ ∀ b ∈ fp, H' b = none) E s1) E s
 done : ∀ (X : Cx), X.prog = P -> X.w = w -> X.K = K -> X.calm = true -> ∀ (i : Nat) (pins : List (Addr × Obj)) (s : Shared) (σ : St) (H : Hp) (E : Value -> Shared -> Prop), Inv X pins σ H s -> (∀ b ∈ fp, zg X pins H b) -> tn i s.heap -> J.stop i H ->
  wpAny (model P w) X.A (pyNext (.ref it)) (fun r s1 => r = none /\ Inv X pins σ H s1) E s
 self : ∀ (A : Around) (i : Nat) (s : Shared) (Q : Value -> Shared -> Prop) (E : Value -> Shared -> Prop), tn i s.heap -> Q (.ref it) s -> wpAny (model P w) A (pyIter (.ref it)) Q E s
abbrev TI := St -> Hp -> (It -> Hp -> Prop) -> Prop
def PIE (X : Cx) (pins : List (Addr × Obj)) (σ : St) (tg : Expr) (R : It -> Hp -> Prop) (itv : Value) (s2 : Shared) : Prop :=
 ∃ (it : Addr) (fp : List Addr) (tn : Nat -> Heap -> Prop) (J : It) (H' : Hp), itv = .ref it /\ Inv X pins σ H' s2 /\ Turn X.prog X.w X.K tg J fp it tn /\ tn 0 s2.heap /\ (∀ b ∈ fp, zg X pins H' b) /\ R J H'
def PI (X : Cx) (tg iter : Expr) (wi : TI) : Prop :=
 ∀ (pins : List (Addr × Obj)) (s : Shared) (σ : St) (H : Hp) (R : It -> Hp -> Prop), Inv X pins σ H s -> wi σ H R ->
   wpAny (model X.prog X.w) X.A (eval iter X.env) (fun v s1 => wpAny (model X.prog X.w) X.A (pyIter v) (PIE X pins σ tg R) X.xe s1) X.xe s
theorem Og {M : Model} {A : Around} {E : Value -> Shared -> Prop} {s : Shared} {tg : Expr} {it : Addr} {u : Value} {o : Obj} {n : String} {vs : Array Value} {Q : Unit -> Shared -> Prop} (ho : s.heap.get? it = some o) (hc : o.cls = .type n) (hd : o.data = .fields vs)
 (hn : ["enumerate", "zip", "dict_itemiterator", "dict_reverseitemiterator", "odict_iterator", "itertools.zip_longest", "itertools.pairwise"].contains n = false) (hQ : Q () s) : wpAny M A (letOwnedTupleGo tg (.ref it) u) Q E s := by
 unfold letOwnedTupleGo
 cases tg <;> first
  | exact wpAny_pure hQ
  | (cases u <;> first
   | exact wpAny_pure hQ
   | (refine wpAny_bind (wpAny_load ho ?_)
      rw [hc, hd]
      show wpAny M A (if (["enumerate", "zip", "dict_itemiterator", "dict_reverseitemiterator", "odict_iterator", "itertools.zip_longest", "itertools.pairwise"].contains n && vs[0]? == some (rawInt _)) = true then _ else _) Q E s
      rw [if_neg (by intro h; rw [hn, Bool.false_and] at h; cases h)]
      exact wpAny_pure hQ))
def Om (K : PySem.W.Frag) (a : Addr) : It :=
 ⟨fun i H => ∃ xs x, i9 K H a xs /\ xs[i]? = some x, fun i H x H' => H' = H /\ ∀ xs, i9 K H a xs -> xs[i]? = some x, fun i H => ∃ xs, i9 K H a xs /\ xs.length <= i⟩
def UE (K : PySem.W.Frag) (a : Addr) : It :=
 ⟨fun i H => ∃ xs x, Fp K H a xs /\ xs[i]? = some x, fun i H x H' => H' = H /\ ∀ xs, Fp K H a xs -> xs[i]? = some x, fun i H => ∃ xs, Fp K H a xs /\ xs.length <= i⟩
def NM (lo : Int) (n : Nat) : It := ⟨fun i _ => i < n, fun i H x H' => H' = H /\ x = .int (lo + i), fun i _ => n <= i⟩
theorem L0 {P : Program} {w : World} {K : PySem.W.Frag} {tg : Expr} (a it : Addr) : Turn P w K tg (Om K a) [it] it (fun i h => h.IsListIter it a i) where
 mem := by simp
 obj := fun i h st b hb => by
  have e : b = it := by simpa using hb
  subst e
  obtain ⟨o, e, c, d⟩ := st
  exact ⟨o, e, fun v z => by rw [d] at z; cases z⟩
 keep := fun i h h' st k => st.at fun o e => k it (by simp) o e
 item := by
  intro X hP hw hK hc i pins s σ H E I hf st hg
  subst hP hw hK
  obtain ⟨xs, x, hq, hx⟩ := hg
  obtain ⟨b4, rv, p, hz⟩ := I.list hq
  obtain ⟨u, hu, ru⟩ := rv.get hx
  obtain ⟨f0, f1, f2, f3, f4, f5⟩ := hf it (by simp)
  refine wpAny_pyNext_list_item st p.isList (x := u) (by simpa using hu) fun h' Jb sb => ?_
  have I1 : Inv X pins σ H { s with heap := h' } := I.turned (t' := s.toks) (fun b o hb e => (sb.2 b hb).trans e) f0 f1 f3 f4 f5
  obtain ⟨o, e, c, d⟩ := id Jb
  exact ⟨u, rfl, Og (s := { s with heap := h' }) e c d (by decide) ⟨x, H, I1, ru, ⟨rfl, fun ys hy => by rw [I.Pz hy hq]; exact hx⟩, Jb, fun b hb => (hf b hb).1⟩⟩
 done := by
  intro X hP hw hK hc i pins s σ H E I hf st hg
  subst hP hw hK
  obtain ⟨xs, hq, hx⟩ := hg
  obtain ⟨b4, rv, p, hz⟩ := I.list hq
  obtain ⟨f0, f1, f2, f3, f4, f5⟩ := hf it (by simp)
  have hl := rv.length
  exact wpAny_pyNext_list_end (I.ok.hd hc) st p.isList (by simp; omega) fun h' eb => ⟨rfl, I.turned (t' := s.toks) (fun b o hb e => eb b o hb e) f0 f1 f3 f4 f5⟩
 self := fun _ _ _ _ _ st h => wpAny_pyIter_listiter st h
theorem JD {P : Program} {w : World} {K : PySem.W.Frag} {tg : Expr} (a it : Addr) : Turn P w K tg (UE K a) [it] it (fun i h => h.IsTupleIter it a i) where
 mem := by simp
 obj := fun i h st b hb => by
  have e : b = it := by simpa using hb
  subst e
  obtain ⟨o, e, c, d⟩ := st
  exact ⟨o, e, fun v z => by rw [d] at z; cases z⟩
 keep := fun i h h' st k => st.at fun o e => k it (by simp) o e
 item := by
  intro X hP hw hK hc i pins s σ H E I hf st hg
  subst hP hw hK
  obtain ⟨xs, x, hq, hx⟩ := hg
  obtain ⟨b4, rv, p, hz⟩ := I.tuple hq
  obtain ⟨u, hu, ru⟩ := rv.get hx
  obtain ⟨f0, f1, f2, f3, f4, f5⟩ := hf it (by simp)
  refine wpAny_pyNext_tuple_item st (show s.heap.IsTuple a b4.toArray from p) (x := u) (by simpa using hu) fun h' Jb sb => ?_
  have I1 : Inv X pins σ H { s with heap := h' } := I.turned (t' := s.toks) (fun b o hb e => (sb.2 b hb).trans e) f0 f1 f3 f4 f5
  obtain ⟨o, e, c, d⟩ := id Jb
  exact ⟨u, rfl, Og (s := { s with heap := h' }) e c d (by decide) ⟨x, H, I1, ru, ⟨rfl, fun ys hy => by rw [I.Nq hy hq]; exact hx⟩, Jb, fun b hb => (hf b hb).1⟩⟩
 done := by
  intro X hP hw hK hc i pins s σ H E I hf st hg
  subst hP hw hK
  obtain ⟨xs, hq, hx⟩ := hg
  obtain ⟨b4, rv, p, hz⟩ := I.tuple hq
  obtain ⟨f0, f1, f2, f3, f4, f5⟩ := hf it (by simp)
  have hl := rv.length
  exact wpAny_pyNext_tuple_end (I.ok.hd hc) st (show s.heap.IsTuple a b4.toArray from p) (by simp; omega) fun h' eb => ⟨rfl, I.turned (t' := s.toks) (fun b o hb e => eb b o hb e) f0 f1 f3 f4 f5⟩
 self := fun _ _ _ _ _ st h => wpAny_pyIter_tupleiter st h
theorem JS {P : Program} {w : World} {K : PySem.W.Frag} {tg : Expr} (it : Addr) (lo : Int) (n : Nat) : Turn P w K tg (NM lo n) [it] it (fun i h => IsRangeIter h it (lo + (i : Nat) * 1) ((n : Int) - (i : Nat)) 1) where
 mem := by simp
 obj := fun i h st b hb => by
  have e : b = it := by simpa using hb
  subst e
  exact ⟨_, st, fun v z => by
   have z' : Data.fields _ = Data.cell v := z
   cases z'⟩
 keep := fun i h h' st k => k it (by simp) _ st
 item := by
  intro X hP hw hK hc i pins s σ H E I hf st hg
  subst hP hw hK
  obtain ⟨f0, f1, f2, f3, f4, f5⟩ := hf it (by simp)
  have W := Walks.range (prog := X.prog) (w := X.w) (I.ok.hd hc) it lo 1 n
  refine W.item i s _ _ hg st fun v h' tk hv Jb kk => ?_
  obtain ⟨t, rfl⟩ := hv
  have I1 : Inv X pins σ H { s with heap := h', toks := tk } := I.turned (fun b o hb e => kk b o (by simpa using hb) e) f0 f1 f3 f4 f5
  refine ⟨_, rfl, Og (s := { s with heap := h', toks := tk }) (n := "range_iterator") Jb rfl rfl (by decide) ⟨.int (lo + i), H, I1, ⟨t, ?_⟩, ⟨rfl, rfl⟩, Jb, fun b hb => (hf b hb).1⟩⟩
  rw [Int.mul_one]
 done := by
  intro X hP hw hK hc i pins s σ H E I hf st hg
  subst hP hw hK
  obtain ⟨f0, f1, f2, f3, f4, f5⟩ := hf it (by simp)
  exact wpAny_pyNext_range_end (I.ok.hd hc) st (by have : n <= i := hg; omega) fun h' eb => ⟨rfl, I.turned (t' := s.toks) (fun b o hb e => eb b o hb e) f0 f1 f3 f4 f5⟩
 self := fun _ _ _ _ _ st h => wpAny_pyIter_rangeiter st h
section
variable {X : Cx} {tg : Expr}
def Pw (K : PySem.W.Frag) (tl : TE) : TI := fun σ H R => tl σ H fun x H1 => ∃ a, x = .ref a /\ (∃ xs, i9 K H1 a xs) /\ R (Om K a) H1
def Z2 (K : PySem.W.Frag) (tl : TE) : TI := fun σ H R => tl σ H fun x H1 => ∃ a, x = .ref a /\ (∃ xs, Fp K H1 a xs) /\ R (UE K a) H1
theorem fE {l : Expr} {tl : TE} (hl : PE X l tl) : PI X tg l (Pw X.K tl) := by
 intro pins s σ H R I h
 refine dj (hl pins s σ H _ I h) fun v s1 ⟨x, H1, I1, r1, q1⟩ => ?_
 obtain ⟨a, e, ⟨xs, hq⟩, q⟩ := q1
 subst e
 cases r1
 obtain ⟨b4, rv, p, hz⟩ := I1.list hq
 refine wpAny_pyIter_list p.isList ?_
 refine ⟨s1.heap.objs.size, [s1.heap.objs.size], _, _, H1, rfl, I1.kept (t' := s1.toks) fun b o e => Heap.get?_push_of_some _ e, L0 a _, ⟨_, Heap.get?_push_size _ rfl, rfl, rfl⟩, fun b hb => ?_, q⟩
 have e : b = s1.heap.objs.size := by simpa using hb
 subst e
 exact I1.Jv (Nat.le_refl _) (I1.bA.fresh (Nat.le_refl _))
theorem Wg {l : Expr} {tl : TE} (hl : PE X l tl) : PI X tg l (Z2 X.K tl) := by
 intro pins s σ H R I h
 refine dj (hl pins s σ H _ I h) fun v s1 ⟨x, H1, I1, r1, q1⟩ => ?_
 obtain ⟨a, e, ⟨xs, hq⟩, q⟩ := q1
 subst e
 cases r1
 obtain ⟨b4, rv, p, hz⟩ := I1.tuple hq
 refine wpAny_pyIter_tuple (show s1.heap.IsTuple a b4.toArray from p) ?_
 refine ⟨s1.heap.objs.size, [s1.heap.objs.size], _, _, H1, rfl, I1.kept (t' := s1.toks) fun b o e => Heap.get?_push_of_some _ e, JD a _, ⟨_, Heap.get?_push_size _ rfl, rfl, rfl⟩, fun b hb => ?_, q⟩
 have e : b = s1.heap.objs.size := by simpa using hb
 subst e
 exact I1.Jv (Nat.le_refl _) (I1.bA.fresh (Nat.le_refl _))
theorem HI {pins : List (Addr × Obj)} {σ : St} {H : Hp} {s : Shared} {R : It -> Hp -> Prop} {E : Value -> Shared -> Prop} {lo hi : Int} {t u v : Tok} {tk : Nat} (I : Inv X pins σ H s) (h1 : -(2 ^ 62) <= lo) (h2 : lo < 2 ^ 62) (h3 : -(2 ^ 62) <= hi) (h4 : hi < 2 ^ 62)
 (q : R (NM lo (hi - lo).toNat) H) : wpAny (model X.prog X.w) X.A (pyIter (.ref s.heap.objs.size)) (PIE X pins σ tg R) E { s with heap := s.heap.push { cls := .type "range", data := .fields #[.int lo t, .int hi u, .int 1 v] }, toks := tk } := by
 refine wpAny_pyIter_range (IsRange.new ..) (small_one h1 h2 h3 h4) ?_
 have I1 : Inv X pins σ H { s with heap := s.heap.push { cls := .type "range", data := .fields #[.int lo t, .int hi u, .int 1 v] }, toks := tk } := I.kept fun b o e => Heap.get?_push_of_some _ e
 refine ⟨(s.heap.push { cls := .type "range", data := .fields #[.int lo t, .int hi u, .int 1 v] }).objs.size, [(s.heap.push { cls := .type "range", data := .fields #[.int lo t, .int hi u, .int 1 v] }).objs.size], _, _, H, rfl,
  I1.kept (t' := tk) fun b o e => Heap.get?_push_of_some _ e, JS _ lo (hi - lo).toNat, ?_, fun b hb => ?_, q⟩
 . have e1 : lo + ((0 : Nat) : Int) * 1 = lo := by simp
   have e2 : (((hi - lo).toNat : Nat) : Int) - ((0 : Nat) : Int) = Builtin.Range.rangeSize lo hi 1 := by rw [rangeSize_one]; split <;> omega
   show IsRangeIter _ _ (lo + ((0 : Nat) : Int) * 1) ((((hi - lo).toNat : Nat) : Int) - ((0 : Nat) : Int)) 1
   rw [e1, e2]
   exact Heap.get?_push_size _ rfl
 . have e : b = (s.heap.push { cls := .type "range", data := .fields #[.int lo t, .int hi u, .int 1 v] }).objs.size := by simpa using hb
   subst e
   exact I1.Jv (Nat.le_refl _) (I1.bA.fresh (Nat.le_refl _))
def UK (ta : TA) : TI := fun σ H R => ta σ H fun vs H1 => ∃ j : Int, vs = [.int j] /\ -(2 ^ 62) <= j /\ j < 2 ^ 62 /\ R (NM 0 j.toNat) H1
def Uw (ta : TA) : TI := fun σ H R => ta σ H fun vs H1 => ∃ i j : Int, vs = [.int i, .int j] /\ (-(2 ^ 62) <= i /\ i < 2 ^ 62 /\ -(2 ^ 62) <= j /\ j < 2 ^ 62) /\ R (NM i (j - i).toNat) H1
theorem MJ {a : Expr} {ta : TA} {p pos : Pos} (hg : Gl X "range") (hm : X.mg "range" = none) (ha : PA X [a] ta) (hs : starEach [a] X.env = [(false, eval a X.env)] := by rfl) : PI X tg (.Call (.Name "range" p) [a] [] pos) (UK ta) := by
 intro pins s σ H R I h
 refine Call_ (BD I hg hm boot_range (PyProof.Rows.callWith_type1 (dj (ha pos pins s σ H _ I h) fun us s1 ⟨vs, H1, I1, r1, q1⟩ => ?_) hs rfl))
 obtain ⟨j, e, q1, q2, q⟩ := q1
 subst e
 cases r1 with
 | cons r rr =>
   cases rr
   obtain ⟨t, rfl⟩ := r
   exact call_range_1 (HI I1 (by omega) (by omega) q1 q2 (by simpa using q))
theorem MG {a b : Expr} {ta : TA} {p pos : Pos} (hg : Gl X "range") (hm : X.mg "range" = none) (ha : PA X [a, b] ta) (hs : starEach [a, b] X.env = [(false, eval a X.env), (false, eval b X.env)] := by rfl) (Nv : starEach [b] X.env = [(false, eval b X.env)] := by rfl) :
 PI X tg (.Call (.Name "range" p) [a, b] [] pos) (Uw ta) := by
 intro pins s σ H R I h
 refine Call_ (BD I hg hm boot_range (PyProof.Rows.callWith_type1 (dj (ha pos pins s σ H _ I h) fun us s1 ⟨vs, H1, I1, r1, q1⟩ => ?_) (by rw [hs, Nv]) (by rw [Nv]; rfl)))
 obtain ⟨i, j, e, ⟨q1, q2, q3, q4⟩, q⟩ := q1
 subst e
 cases r1 with
 | cons r rr =>
   cases rr with
   | cons r' rr =>
     cases rr
     obtain ⟨t, rfl⟩ := r
     obtain ⟨t', rfl⟩ := r'
     exact call_range_2 (HI I1 q1 q2 q3 q4 q)
def Sx (wi : TI) (g : TG) (tb : TS) : TS := fun D σ H => wi σ H fun J H1 => ∃ W : Nat -> Nat -> St -> Hp -> Prop, (∃ m, W 0 m σ H1) /\ ∀ i m σ H, W i m σ H ->
 (J.stop i H /\ D.nx σ H) \/ (J.go i H /\ ∃ N : St -> Hp -> Prop, (∀ σ' H', N σ' H' -> ∃ m', m' < m /\ W (i + 1) m' σ' H') /\ ∀ x H', J.Q0 i H x H' -> g x σ H' fun σ2 H2 => tb { D with nx := N, ct := N, bk := D.nx } σ2 H2)
def DS (fp : List Addr) (h : Heap) : List (Addr × Obj) := fp.filterMap fun b => (h.get? b).map fun o => (b, o)
theorem pR {fp : List Addr} {h : Heap} {b : Addr} {o : Obj} (hb : b ∈ fp) (e : h.get? b = some o) : (b, o) ∈ DS fp h := List.mem_filterMap.mpr ⟨b, hb, by rw [e]; rfl⟩
theorem Nt {fp : List Addr} {h : Heap} {p : Addr × Obj} (hp : p ∈ DS fp h) : p.1 ∈ fp /\ h.get? p.1 = some p.2 := by
 obtain ⟨b, hb, e⟩ := List.mem_filterMap.mp hp
 cases q : h.get? b with
 | none => rw [q] at e; cases e
 | some o =>
   rw [q] at e
   have e' : (b, o) = p := Option.some.inj e
   subst e'
   exact ⟨hb, q⟩
theorem Inv.pinned {pins : List (Addr × Obj)} {σ : St} {H : Hp} {s : Shared} {fp : List Addr} (I : Inv X pins σ H s) (hf : ∀ b ∈ fp, zg X pins H b) (ho : ∀ b ∈ fp, ∃ o, s.heap.get? b = some o /\ ∀ v, o.data ≠ .cell v) : Inv X (pins ++ DS fp s.heap) σ H s :=
 I.zZ fun p hp => (List.mem_append.mp hp).elim (fun z => I.pin p (List.mem_append_right _ z)) fun z => by
  obtain ⟨hb, e⟩ := Nt z
  obtain ⟨f0, f1, f2, _⟩ := hf p.1 hb
  obtain ⟨o, e', d⟩ := ho p.1 hb
  rw [e] at e'; cases e'
  exact ⟨e, f0, f1, f2, d⟩
theorem Inv.D8 {pins pl : List (Addr × Obj)} {σ : St} {H : Hp} {s : Shared} (I : Inv X (pins ++ pl) σ H s) : Inv X pins σ H s := I.zZ fun p hp => I.pin p (List.mem_append_right _ (List.mem_append_left _ hp))
theorem zh {iter : Expr} {body : List Stmt} {wi : TI} {g : TG} {tb : TS} {pos : Pos} (hp : PassesOwn (model X.prog X.w) X.A X.env X.xe) (hc : X.calm = true) (hi : PI X tg iter wi) (hg : PG X tg g) (hb : Jf X body tb)
 (hs : ∀ x, foldedSetIterable iter X.env x = pure x := by intro _; rfl) : PS X (.For tg iter body [] pos) (Sx wi g tb) := by
 intro pins s σ H D I h
 refine wpAny_For (dj (hi pins s σ H _ I h) fun v s1 h1 => dj h1 fun itv s2 h2 => ?_) hs
 obtain ⟨it, fp, tn, J, H2, e, I2, T, st2, f2, W, ⟨m0, w0⟩, turn⟩ := h2
 subst e
 have stat : ∀ {H' : Hp}, (∀ b ∈ fp, H' b = none) -> ∀ b ∈ fp, zg X pins H' b := fun hn b hb => ⟨hn b hb, (f2 b hb).2⟩
 refine codeAny_forLoop_any (fun n s' => ∃ i σ' H', Inv X pins σ' H' s' /\ tn i s'.heap /\ (∀ b ∈ fp, H' b = none) /\ W i n σ' H') ?_ m0 ⟨0, σ, H2, I2, st2, fun b hb => (f2 b hb).1, w0⟩
 rintro n s3 ⟨i, σ3, H3, I3, Z6, Bx, w3⟩
 rcases turn i n σ3 H3 w3 with ⟨stop, qn⟩ | ⟨go, N, hN, step⟩
 . refine wpAny_passesOwn hp (dj (T.done X rfl rfl rfl hc i pins s3 σ3 H3 X.xe I3 (stat Bx) Z6 stop) fun r s4 ⟨hr, I4⟩ => ?_)
   subst hr
   exact wpAny_execs_nil ⟨σ3, H3, I4, qn⟩
 . refine wpAny_passesOwn hp (dj (T.item X rfl rfl rfl hc i pins s3 σ3 H3 X.xe I3 (stat Bx) Z6 go) fun r s4 ⟨u, hr, h4⟩ => ?_)
   subst hr
   refine wpAny_passesOwn hp (dj h4 fun _ s5 ⟨x, H5, I5, r5, y5, Wy, Vh⟩ => ?_)
   have I5' := I5.pinned (stat Vh) (T.obj _ _ Wy)
   refine wpAny_passesOwn hp (dj (hg _ s5 σ3 H5 x u _ I5' r5 (step x H5 y5)) fun _ s6 ⟨σ6, H6, I6, q6⟩ => ?_)
   refine wpAny_passesOwn hp (dj (hb _ s6 σ6 H6 _ I6 q6) fun f s7 q7 => ?_)
   have again : ∀ {σ7 : St} {H7 : Hp}, Inv X (pins ++ DS fp s5.heap) σ7 H7 s7 -> N σ7 H7 -> ∃ m, m < n /\ ∃ i σ' H', Inv X pins σ' H' s7 /\ tn i s7.heap /\ (∀ b ∈ fp, H' b = none) /\ W i m σ' H' := fun {σ7 H7} I7 n7 => by
    obtain ⟨m', hm, w7⟩ := hN σ7 H7 n7
    refine ⟨m', hm, i + 1, σ7, H7, I7.D8, T.keep _ _ _ Wy fun b hb o e => (I7.pin (b, o) (List.mem_append_right _ (List.mem_append_right _ (pR hb e)))).1, fun b hb => ?_, w7⟩
    obtain ⟨o, e, d⟩ := T.obj _ _ Wy b hb
    exact (I7.pin (b, o) (List.mem_append_right _ (List.mem_append_right _ (pR hb e)))).2.1
   cases f with
   | next => obtain ⟨σ7, H7, I7, n7⟩ := q7; exact again I7 n7
   | cont => obtain ⟨σ7, H7, I7, n7⟩ := q7; exact again I7 n7
   | brk => obtain ⟨σ7, H7, I7, q7⟩ := q7; exact ⟨σ7, H7, I7.D8, q7⟩
   | ret v => obtain ⟨x7, σ7, H7, I7, r7, q7⟩ := q7; exact ⟨x7, σ7, H7, I7.D8, r7, q7⟩
end
theorem OU {K : PySem.W.Frag} {a : Addr} {xs : List V} {g : TG} {tb : TS} {D : Ends} {σ : St} {H : Hp} (Pv : Nat -> St -> Hp -> Prop) (h0 : Pv 0 σ H) (hl : ∀ i σ H, i <= xs.length -> Pv i σ H -> i9 K H a xs)
 (hs : ∀ i x σ H, xs[i]? = some x -> Pv i σ H -> g x σ H fun σ2 H2 => tb { D with nx := Pv (i + 1), ct := Pv (i + 1), bk := D.nx } σ2 H2) (hd : ∀ σ H, Pv xs.length σ H -> D.nx σ H) :
 ∃ W : Nat -> Nat -> St -> Hp -> Prop, (∃ m, W 0 m σ H) /\ ∀ i m σ H, W i m σ H ->
   ((Om K a).stop i H /\ D.nx σ H) \/ ((Om K a).go i H /\ ∃ N : St -> Hp -> Prop, (∀ σ' H', N σ' H' -> ∃ m', m' < m /\ W (i + 1) m' σ' H') /\ ∀ x H', (Om K a).Q0 i H x H' -> g x σ H' fun σ2 H2 => tb { D with nx := N, ct := N, bk := D.nx } σ2 H2) := by
 refine ⟨fun i m σ H => m = xs.length - i /\ i <= xs.length /\ Pv i σ H, ⟨xs.length, by simp, Nat.zero_le _, h0⟩, ?_⟩
 rintro i m σ H ⟨rfl, hi, p⟩
 have q := hl i σ H hi p
 by_cases wL : i < xs.length
 . refine .inr ⟨⟨xs, xs[i], q, by simp [wL]⟩, Pv (i + 1), fun σ' H' p' => ⟨xs.length - (i + 1), by omega, rfl, wL, p'⟩, fun x H' y => ?_⟩
   obtain ⟨e, y⟩ := y
   subst e
   exact hs i x σ _ (y xs q) p
 . have e : i = xs.length := by omega
   subst e
   exact .inl ⟨⟨xs, q, Nat.le_refl _⟩, hd σ H p⟩
theorem Rm {K : PySem.W.Frag} {a : Addr} {xs : List V} {g : TG} {tb : TS} {D : Ends} {σ : St} {H : Hp} (Pv : Nat -> St -> Hp -> Prop) (h0 : Pv 0 σ H) (hl : ∀ i σ H, i <= xs.length -> Pv i σ H -> Fp K H a xs)
 (hs : ∀ i x σ H, xs[i]? = some x -> Pv i σ H -> g x σ H fun σ2 H2 => tb { D with nx := Pv (i + 1), ct := Pv (i + 1), bk := D.nx } σ2 H2) (hd : ∀ σ H, Pv xs.length σ H -> D.nx σ H) :
 ∃ W : Nat -> Nat -> St -> Hp -> Prop, (∃ m, W 0 m σ H) /\ ∀ i m σ H, W i m σ H ->
   ((UE K a).stop i H /\ D.nx σ H) \/ ((UE K a).go i H /\ ∃ N : St -> Hp -> Prop, (∀ σ' H', N σ' H' -> ∃ m', m' < m /\ W (i + 1) m' σ' H') /\ ∀ x H', (UE K a).Q0 i H x H' -> g x σ H' fun σ2 H2 => tb { D with nx := N, ct := N, bk := D.nx } σ2 H2) := by
 refine ⟨fun i m σ H => m = xs.length - i /\ i <= xs.length /\ Pv i σ H, ⟨xs.length, by simp, Nat.zero_le _, h0⟩, ?_⟩
 rintro i m σ H ⟨rfl, hi, p⟩
 have q := hl i σ H hi p
 by_cases wL : i < xs.length
 . refine .inr ⟨⟨xs, xs[i], q, by simp [wL]⟩, Pv (i + 1), fun σ' H' p' => ⟨xs.length - (i + 1), by omega, rfl, wL, p'⟩, fun x H' y => ?_⟩
   obtain ⟨e, y⟩ := y
   subst e
   exact hs i x σ _ (y xs q) p
 . have e : i = xs.length := by omega
   subst e
   exact .inl ⟨⟨xs, q, Nat.le_refl _⟩, hd σ H p⟩
theorem ND {lo : Int} {n : Nat} {g : TG} {tb : TS} {D : Ends} {σ : St} {H : Hp} (Pv : Nat -> St -> Hp -> Prop) (h0 : Pv 0 σ H)
 (hs : ∀ i σ H, i < n -> Pv i σ H -> g (.int (lo + i)) σ H fun σ2 H2 => tb { D with nx := Pv (i + 1), ct := Pv (i + 1), bk := D.nx } σ2 H2) (hd : ∀ σ H, Pv n σ H -> D.nx σ H) :
 ∃ W : Nat -> Nat -> St -> Hp -> Prop, (∃ m, W 0 m σ H) /\ ∀ i m σ H, W i m σ H ->
   ((NM lo n).stop i H /\ D.nx σ H) \/ ((NM lo n).go i H /\ ∃ N : St -> Hp -> Prop, (∀ σ' H', N σ' H' -> ∃ m', m' < m /\ W (i + 1) m' σ' H') /\ ∀ x H', (NM lo n).Q0 i H x H' -> g x σ H' fun σ2 H2 => tb { D with nx := N, ct := N, bk := D.nx } σ2 H2) := by
 refine ⟨fun i m σ H => m = n - i /\ i <= n /\ Pv i σ H, ⟨n, by simp, Nat.zero_le _, h0⟩, ?_⟩
 rintro i m σ H ⟨rfl, hi, p⟩
 by_cases wL : i < n
 . refine .inr ⟨wL, Pv (i + 1), fun σ' H' p' => ⟨n - (i + 1), by omega, rfl, wL, p'⟩, fun x H' y => ?_⟩
   obtain ⟨e, y⟩ := y
   subst e y
   exact hs i σ _ wL p
 . have e : i = n := by omega
   subst e
   exact .inl ⟨Nat.le_refl _, hd σ H p⟩
abbrev R2 := V -> V -> Hp -> VK -> Prop
def Bw (X : Cx) (f : Value -> Value -> Sem Value) (r : R2) : Prop :=
 ∀ (pins : List (Addr × Obj)) (s : Shared) (σ : St) (H : Hp) (x y : V) (v u : Value) (Q : VK), Inv X pins σ H s -> RelV x v -> RelV y u -> r x y H Q ->
   wpAny (model X.prog X.w) X.A (f v u) (EP X pins σ Q) X.xe s
def iS (X : Cx) (f : Value) (r : List V -> Hp -> VK -> Prop) : Prop :=
 ∀ (pins : List (Addr × Obj)) (s : Shared) (σ : St) (H : Hp) (xs : List V) (us : List Value) (Q : VK), Inv X pins σ H s -> Vals xs us -> r xs H Q ->
   wpAny (model X.prog X.w) X.A (call f us) (EP X pins σ Q) X.xe s
def acy (X : Cx) (r : V -> Hp -> (Bool -> Hp -> Prop) -> Prop) : Prop :=
 ∀ (pins : List (Addr × Obj)) (s : Shared) (σ : St) (H : Hp) (x : V) (v : Value) (Q : Bool -> Hp -> Prop), Inv X pins σ H s -> RelV x v -> r x H Q ->
   wpAny (model X.prog X.w) X.A (truthy v) (TP X pins σ Q) X.xe s
def Zw (r : R2) (ta tb : TE) : TE := fun σ H Q => ta σ H fun x H1 => tb σ H1 fun y H2 => r x y H2 Q
def rI (C : Int -> Int -> Prop) (g : Int -> Int -> V) : R2 := fun x y H Q => ∃ i j, x = .int i /\ y = .int j /\ C i j /\ Q (g i j) H
def T4 (g : Int -> Int -> V) : R2 := fun x y H Q => ∃ i j, x = .int i /\ y = .int j /\ Q (g i j) H
section
variable {X : Cx} {a b c : Expr} {ta tb tc : TE} {pos : Pos}
theorem WK (ha : PE X a ta) (hb : PE X b tb) {pins : List (Addr × Obj)} {s : Shared} {σ : St} {H : Hp} {R : V -> V -> Hp -> Prop} (I : Inv X pins σ H s)
 (h : ta σ H fun x H1 => tb σ H1 fun y H2 => R x y H2) {Q : Value -> Shared -> Prop} {f : Value -> Value -> Sem Value}
 (hf : ∀ v u s2 x y H2, Inv X pins σ H2 s2 -> RelV x v -> RelV y u -> R x y H2 -> wpAny (model X.prog X.w) X.A (f v u) Q X.xe s2) :
 wpAny (model X.prog X.w) X.A (eval a X.env) (fun v s₁ => wpAny (model X.prog X.w) X.A (eval b X.env) (fun u s₂ => wpAny (model X.prog X.w) X.A (f v u) Q X.xe s₂) X.xe s₁) X.xe s := by
 refine dj (ha pins s σ H _ I h) fun v s1 ⟨x, H1, I1, r1, q1⟩ => ?_
 refine dj (hb pins s1 σ H1 _ I1 q1) fun u s2 ⟨y, H2, I2, r2, q2⟩ => ?_
 exact hf v u s2 x y H2 I2 r1 r2 q2
theorem aw {op : Operator} {r : R2} (ho : Bw X (binaryOp op) r) (ha : PE X a ta) (hb : PE X b tb) : PE X (.BinOp a op b pos) (Zw r ta tb) := by
 intro pins s σ H Q I h
 exact wpAny_BinOp (WK ha hb I h fun v u s2 x y H2 I2 rx ry q => ho pins s2 σ H2 x y v u Q I2 rx ry q)
theorem opI {f : Value -> Value -> Sem Value} {C : Int -> Int -> Prop} {g : Int -> Int -> Int}
 (rule : ∀ (i j : Int) (t u : Tok) (s : Shared) (Q : Value -> Shared -> Prop) (E : Value -> Shared -> Prop), C i j -> Q (.int (g i j) s.toks) { s with toks := s.toks + 1 } -> wpAny (model X.prog X.w) X.A (f (.int i t) (.int j u)) Q E s) :
 Bw X f (rI C fun i j => .int (g i j)) := by
 intro pins s σ H x y v u Q I rx ry h
 obtain ⟨i, j, rfl, rfl, hc, q⟩ := h
 obtain ⟨t, rfl⟩ := rx
 obtain ⟨t', rfl⟩ := ry
 exact rule i j t t' s _ _ hc ⟨.int (g i j), H, I.tok _, ⟨_, rfl⟩, q⟩
theorem YC {f : Value -> Value -> Sem Value} {g : Int -> Int -> Int}
 (rule : ∀ (i j : Int) (t u : Tok) (s : Shared) (Q : Value -> Shared -> Prop) (E : Value -> Shared -> Prop), Q (.int (g i j) s.toks) { s with toks := s.toks + 1 } -> wpAny (model X.prog X.w) X.A (f (.int i t) (.int j u)) Q E s) :
 Bw X f (T4 fun i j => .int (g i j)) := by
 intro pins s σ H x y v u Q I rx ry h
 obtain ⟨i, j, rfl, rfl, q⟩ := h
 obtain ⟨t, rfl⟩ := rx
 obtain ⟨t', rfl⟩ := ry
 exact rule i j t t' s _ _ ⟨.int (g i j), H, I.tok _, ⟨_, rfl⟩, q⟩
theorem RH {f : Value -> Value -> Sem Value} {g : Int -> Int -> Bool}
 (rule : ∀ (i j : Int) (t u : Tok) (s : Shared) (Q : Value -> Shared -> Prop) (E : Value -> Shared -> Prop), Q (.bool (g i j)) s -> wpAny (model X.prog X.w) X.A (f (.int i t) (.int j u)) Q E s) :
 Bw X f (T4 fun i j => .bl (g i j)) := by
 intro pins s σ H x y v u Q I rx ry h
 obtain ⟨i, j, rfl, rfl, q⟩ := h
 obtain ⟨t, rfl⟩ := rx
 obtain ⟨t', rfl⟩ := ry
 exact rule i j t t' s _ _ ⟨.bl (g i j), H, I, rfl, q⟩
def WC (i j : Int) : Prop := 0 <= j /\ j <= 1000000 /\ i.natAbs < 2 ^ 64
theorem bo : Bw X (binaryOp .Add) (T4 fun i j => .int (i + j)) := YC fun _ _ _ _ _ _ _ q => add_int q
theorem dR : Bw X (binaryOp .Sub) (T4 fun i j => .int (i - j)) := YC fun _ _ _ _ _ _ _ q => sub_int q
theorem Xv : Bw X (binaryOp .Mod) (rI (fun _ j => 0 < j) fun i j => .int (i % j)) := opI fun i j _ _ _ _ _ hc q => by
 have h1 : (0 : Int) < j := hc
 exact mod_int' (by omega) (by rw [Int.fmod_eq_emod_of_nonneg i (by omega)]; exact q)
theorem qb : Bw X (binaryOp .Pow) (rI WC fun i j => .int (i ^ j.toNat)) := opI fun _ _ _ _ _ _ _ hc q => pow_int_small hc.1 hc.2.1 hc.2.2 q
end
def SV : V -> V -> Bool
 | .aT, .aT => true | .aT, .int _ => true | .int _, .aT => true | .aT, .bl _ => true | .bl _, .aT => true | .aT, .str _ => true | .str _, .aT => true
 | .int _, .int _ => true | .bl _, .bl _ => true | .str _, .str _ => true | .Lz _, .Lz _ => true
 | .int _, .str _ => true | .str _, .int _ => true | .bl _, .str _ => true | .str _, .bl _ => true
 | _, _ => false
def rEq : R2 := fun x y H Q => SV x y = true /\ Q (.bl (decide (x = y))) H
def rNe : R2 := fun x y H Q => SV x y = true /\ Q (.bl (!decide (x = y))) H
theorem Ly {i j : Int} : decide (V.int i = V.int j) = (i == j) := by
 rw [Bool.eq_iff_iff]
 simp
theorem Pt {i j : Bool} : decide (V.bl i = V.bl j) = (i == j) := by
 rw [Bool.eq_iff_iff]
 simp
theorem Lg {i j : Str} : decide (V.str i = V.str j) = (i == j) := by
 rw [Bool.eq_iff_iff]
 simp
theorem Lh {i j : Array UInt8} : decide (V.Lz i = V.Lz j) = (i.toList == j.toList) := by
 rw [Bool.eq_iff_iff]
 cases i
 cases j
 simp
section
variable {X : Cx} {a b c : Expr} {ta tb tc : TE} {pos : Pos}
theorem aY {pins : List (Addr × Obj)} {σ : St} {H : Hp} {s : Shared} {Q : VK} {k k' : Bool} (I : Inv X pins σ H s) (q : Q (.bl k) H) (e : k = k') : EP X pins σ Q (.bool k') s := by
 subst e
 exact ⟨.bl k, H, I, rfl, q⟩
theorem YS : Bw X (compareOp .Eq) rEq := by
 intro pins s σ H x y v u Q I rx ry h
 obtain ⟨hs, q⟩ := h
 cases x with
 | aT =>
   cases rx
   cases y with
   | aT => cases ry; exact PySem.EqNone.eq_none_none (aY I q (by simp))
   | bl j => cases ry; exact PySem.EqNone.eq_none_bool (aY I q (by simp))
   | int j => obtain ⟨t', rfl⟩ := ry; exact PySem.EqNone.eq_none_int (aY I q (by simp))
   | str j => obtain ⟨t', rfl⟩ := ry; exact PySem.EqNone.eq_none_str (aY I q (by simp))
   | _ => exact absurd (show false = true from hs) Bool.false_ne_true
 | bl i =>
   cases rx
   cases y with
   | aT => cases ry; exact PySem.EqNone.eq_bool_none (aY I q (by simp))
   | bl j => cases ry; exact eq_bool (aY I q Pt)
   | str j => obtain ⟨t', rfl⟩ := ry; exact PySem.EqMixed.eq_bool_str (aY I q (by simp))
   | _ => exact absurd (show false = true from hs) Bool.false_ne_true
 | int i =>
   obtain ⟨t, rfl⟩ := rx
   cases y with
   | aT => cases ry; exact PySem.EqNone.eq_int_none (aY I q (by simp))
   | int j => obtain ⟨t', rfl⟩ := ry; exact eq_int (aY I q Ly)
   | str j => obtain ⟨t', rfl⟩ := ry; exact PySem.EqMixed.eq_int_str (aY I q (by simp))
   | _ => exact absurd (show false = true from hs) Bool.false_ne_true
 | str i =>
   obtain ⟨t, rfl⟩ := rx
   cases y with
   | aT => cases ry; exact PySem.EqNone.eq_str_none (aY I q (by simp))
   | bl j => cases ry; exact PySem.EqMixed.eq_str_bool (aY I q (by simp))
   | int j => obtain ⟨t', rfl⟩ := ry; exact PySem.EqMixed.eq_str_int (aY I q (by simp))
   | str j => obtain ⟨t', rfl⟩ := ry; exact eq_str (aY I q Lg)
   | _ => exact absurd (show false = true from hs) Bool.false_ne_true
 | Lz i =>
   obtain ⟨t, rfl⟩ := rx
   cases y with
   | Lz j => obtain ⟨t', rfl⟩ := ry; exact PySem.W.eq_bytes (aY I q Lh)
   | _ => exact absurd (show false = true from hs) Bool.false_ne_true
 | _ => cases y <;> exact absurd (show false = true from hs) Bool.false_ne_true
theorem Ze : Bw X (compareOp .NotEq) rNe := by
 intro pins s σ H x y v u Q I rx ry h
 obtain ⟨hs, q⟩ := h
 cases x with
 | aT =>
   cases rx
   cases y with
   | aT => cases ry; exact PySem.EqNone.ne_none_none (aY I q (by simp))
   | bl j => cases ry; exact PySem.EqNone.ne_none_bool (aY I q (by simp))
   | int j => obtain ⟨t', rfl⟩ := ry; exact PySem.EqNone.ne_none_int (aY I q (by simp))
   | str j => obtain ⟨t', rfl⟩ := ry; exact PySem.EqNone.ne_none_str (aY I q (by simp))
   | _ => exact absurd (show false = true from hs) Bool.false_ne_true
 | bl i =>
   cases rx
   cases y with
   | aT => cases ry; exact PySem.EqNone.ne_bool_none (aY I q (by simp))
   | bl j => cases ry; exact ne_bool (aY I q (congrArg not Pt))
   | str j => obtain ⟨t', rfl⟩ := ry; exact PySem.EqMixed.ne_bool_str (aY I q (by simp))
   | _ => exact absurd (show false = true from hs) Bool.false_ne_true
 | int i =>
   obtain ⟨t, rfl⟩ := rx
   cases y with
   | aT => cases ry; exact PySem.EqNone.ne_int_none (aY I q (by simp))
   | int j => obtain ⟨t', rfl⟩ := ry; exact ne_int (aY I q (congrArg not Ly))
   | str j => obtain ⟨t', rfl⟩ := ry; exact PySem.EqMixed.ne_int_str (aY I q (by simp))
   | _ => exact absurd (show false = true from hs) Bool.false_ne_true
 | str i =>
   obtain ⟨t, rfl⟩ := rx
   cases y with
   | aT => cases ry; exact PySem.EqNone.ne_str_none (aY I q (by simp))
   | bl j => cases ry; exact PySem.EqMixed.ne_str_bool (aY I q (by simp))
   | int j => obtain ⟨t', rfl⟩ := ry; exact PySem.EqMixed.ne_str_int (aY I q (by simp))
   | str j => obtain ⟨t', rfl⟩ := ry; exact ne_str (aY I q (congrArg not Lg))
   | _ => exact absurd (show false = true from hs) Bool.false_ne_true
 | Lz i =>
   obtain ⟨t, rfl⟩ := rx
   cases y with
   | Lz j => obtain ⟨t', rfl⟩ := ry; exact PySem.W.ne_bytes (aY I q (congrArg not Lh))
   | _ => exact absurd (show false = true from hs) Bool.false_ne_true
 | _ => cases y <;> exact absurd (show false = true from hs) Bool.false_ne_true
theorem C5 : Bw X (compareOp .Lt) (T4 fun i j => .bl (decide (i < j))) := RH fun _ _ _ _ _ _ _ q => lt_int q
theorem Ot : Bw X (compareOp .LtE) (T4 fun i j => .bl (decide (i <= j))) := RH fun _ _ _ _ _ _ _ q => le_int q
theorem Qi : Bw X (compareOp .Gt) (T4 fun i j => .bl (decide (j < i))) := RH fun _ _ _ _ _ _ _ q => gt_int q
theorem P8 : Bw X (compareOp .GtE) (T4 fun i j => .bl (decide (j <= i))) := RH fun _ _ _ _ _ _ _ q => ge_int q
theorem Ec : Bw X (compareOp .Is) (fun x y H Q => y = .aT /\ Q (.bl (decide (x = .aT))) H) := by
 intro pins s σ H x y v u Q I rx ry h
 obtain ⟨rfl, q⟩ := h
 cases ry
 refine is_none_gen (aY I q ?_)
 cases x <;> first
  | (cases rx; rfl)
  | (obtain ⟨t, rfl⟩ := rx; rfl)
theorem pT : Bw X (compareOp .IsNot) (fun x y H Q => y = .aT /\ Q (.bl (!decide (x = .aT))) H) := by
 intro pins s σ H x y v u Q I rx ry h
 obtain ⟨rfl, q⟩ := h
 cases ry
 refine isnot_none_gen (aY I q ?_)
 cases x <;> first
  | (cases rx; rfl)
  | (obtain ⟨t, rfl⟩ := rx; rfl)
theorem aN (b : Expr) {op : CmpOp} (h : op ≠ .In := by decide) (h2 : op ≠ .NotIn := by decide) : behindInMarks op b = false := by
 have e1 : (op == CmpOp.In) = false := by cases op <;> first | rfl | exact absurd rfl h
 have e2 : (op == CmpOp.NotIn) = false := by cases op <;> first | rfl | exact absurd rfl h2
 cases b <;> simp [behindInMarks, e1, e2]
theorem wK {op : CmpOp} {r : R2} (ho : Bw X (compareOp op) r) (ha : PE X a ta) (hb : PE X b tb) (hm : behindInMarks op b = false) : PE X (.Compare a [op] [b] pos) (Zw r ta tb) := by
 intro pins s σ H Q I h
 exact wpAny_Compare1 (WK ha hb I h fun v u s2 x y H2 I2 rx ry q => ho pins s2 σ H2 x y v u Q I2 rx ry q) hm
def U2 (t : TE) : TT := fun σ H Q => t σ H fun x H' => ∃ k, x = .bl k /\ Q k H'
theorem aL {op : CmpOp} {r : R2} (ho : Bw X (compareOp op) r) (ha : PE X a ta) (hb : PE X b tb) (hm : behindInMarks op b = false) : PT X (.Compare a [op] [b] pos) (U2 (Zw r ta tb)) := by
 intro pins s σ H Q I h
 refine wpAny_isTrue_Compare1 (dj (ha pins s σ H _ I h) fun v s1 ⟨x, H1, I1, r1, q1⟩ => dj (hb pins s1 σ H1 _ I1 q1) fun u s2 ⟨y, H2, I2, r2, q2⟩ =>
  dj (ho pins s2 σ H2 x y v u _ I2 r1 r2 q2) fun c s3 ⟨z, H3, I3, r3, k, e, q3⟩ => ?_) hm
 subst e
 cases r3
 exact wpAny_truthy_bool ⟨H3, I3, q3⟩
def QJ (K : PySem.W.Frag) (x : V) (H : Hp) (k : Bool) : Prop :=
 match x with
 | .aT => k = false
 | .bl b => k = b
 | .int i => k = (i != 0)
 | .str y => y.length <= sizeLine /\ k = ((y.length : Int) != 0)
 | .Lz y => y.size <= sizeLine /\ k = ((y.size : Int) != 0)
 | .ref p => (∃ xs, i9 K H p xs /\ k = !xs.isEmpty) \/ (∃ xs, Fp K H p xs /\ k = !xs.isEmpty) \/ ∃ kvs, H p = some (.dK kvs) /\ k = !kvs.isEmpty
 | _ => False
theorem Ji {κ : Type} {kvs : List (κ × V)} {vs : List (κ × Value)} (r : KV kvs vs) : (!vs.isEmpty) = !kvs.isEmpty := by
 cases r <;> rfl
theorem EZ {xs : List V} {b4 : List Value} (r : Vals xs b4) : (!b4.toArray.isEmpty) = !xs.isEmpty := by
 cases r <;> simp
theorem CB : (sizeLine : Nat) < 2 ^ 63 := by rw [sizeLine_eq]; decide
theorem XF : acy X (fun x H Q => ∃ k, QJ X.K x H k /\ Q k H) := by
 intro pins s σ H x v Q I rx h
 obtain ⟨k, e, q⟩ := h
 have hl := CB
 have hs : sizeLine = 16777216 := sizeLine_eq
 cases x with
 | aT =>
   cases rx
   have e' : k = false := e
   subst e'
   exact truthy_none ⟨H, I, q⟩
 | bl b =>
   cases rx
   have e' : k = b := e
   subst e'
   exact wpAny_truthy_bool ⟨H, I, q⟩
 | int i =>
   obtain ⟨t, rfl⟩ := rx
   have e' : k = (i != 0) := e
   subst e'
   exact PySem.P.truthy_int ⟨H, I, q⟩
 | str y =>
   obtain ⟨t, rfl⟩ := rx
   obtain ⟨hy, e'⟩ : y.length <= sizeLine /\ k = ((y.length : Int) != 0) := e
   subst e'
   exact PySem.P.truthy_str (by omega) ⟨H, I.tok _, q⟩
 | Lz y =>
   obtain ⟨t, rfl⟩ := rx
   obtain ⟨hy, e'⟩ : y.size <= sizeLine /\ k = ((y.size : Int) != 0) := e
   subst e'
   exact PySem.W.truthy_bytes (by omega) ⟨H, I.tok _, q⟩
 | ref p =>
   cases rx
   have e' : (∃ xs, i9 X.K H p xs /\ k = !xs.isEmpty) \/ (∃ xs, Fp X.K H p xs /\ k = !xs.isEmpty) \/ ∃ kvs, H p = some (.dK kvs) /\ k = !kvs.isEmpty := e
   rcases e' with ⟨xs, hx, e'⟩ | ⟨xs, hx, e'⟩ | ⟨kvs, hx, e'⟩
   . subst e'
     obtain ⟨b4, r, pl, hz⟩ := I.list hx
     have hlen := r.length
     exact wpAny_truthy_list pl.isList (by simp only [List.size_toArray]; omega) ⟨H, I.tok _, by rw [EZ r]; exact q⟩
   . subst e'
     obtain ⟨b4, r, pl, hz⟩ := I.tuple hx
     have hlen := r.length
     exact truthy_tuple pl (by simp only [List.size_toArray]; omega) ⟨H, I.tok _, by rw [EZ r]; exact q⟩
   . subst e'
     obtain ⟨hz, hS, vs, r, m⟩ : kvs.length <= sizeLine /\ (p == sysModules) = false /\ ∃ vs, KV kvs vs /\ s.heap.DictOf (aU X.prog X.w) p vs := I.bA p _ hx
     have hlen : kvs.length = vs.length := Paired.length r
     exact wpAny_truthy_dict hS m (by omega) ⟨H, I.tok _, by rw [Ji r]; exact q⟩
 | _ => exact (show False from e).elim
theorem cE (ha : PE X a ta) (he : ∀ whole, isTrue a X.env whole = (do let v <- whole; standAt a.pos; holding [v] (truthy v))) :
 PT X a (fun σ H Q => ta σ H fun x H' => ∃ k, QJ X.K x H' k /\ Q k H') := by
 intro pins s σ H Q I h
 exact isTrue_plain (dj (ha pins s σ H _ I h) fun v s1 ⟨x, H1, I1, r1, q1⟩ => XF pins s1 σ H1 x v Q I1 r1 q1) (he _)
theorem JU : Bw X (binaryOp .Add) (fun x y H Q => ∃ i j, x = .str i /\ y = .str j /\ i.length + j.length <= sizeLine /\ Q (.str (i ++ j)) H) := by
 intro pins s σ H x y v u Q I rx ry h
 obtain ⟨i, j, rfl, rfl, hz, q⟩ := h
 obtain ⟨t, rfl⟩ := rx
 obtain ⟨t', rfl⟩ := ry
 exact add_str (fun t' tk => ⟨.str (i ++ j), H, I.tok _, ⟨_, rfl⟩, q⟩) hz
theorem vals1 {x : V} {us : List Value} (r : Vals [x] us) : ∃ u, us = [u] /\ RelV x u := by
 cases r with
 | cons r1 r2 => cases r2; exact ⟨_, rfl, r1⟩
theorem vals2 {x y : V} {us : List Value} (r : Vals [x, y] us) : ∃ u w', us = [u, w'] /\ RelV x u /\ RelV y w' := by
 cases r with
 | cons r1 r2 =>
   cases r2 with
   | cons r3 r4 => cases r4; exact ⟨_, _, rfl, r1, r3⟩
theorem L6 (hc : X.calm = true) : iS X (.builtin "max") (fun xs H Q => ∃ i j, xs = [.int i, .int j] /\ Q (.int (if j > i then j else i)) H) := by
 intro pins s σ H xs us Q I r h
 obtain ⟨i, j, rfl, q⟩ := h
 obtain ⟨u, w', rfl, ⟨t, rfl⟩, ⟨t', rfl⟩⟩ := vals2 r
 refine max_two_ints (I.ok.hd hc) fun h' tk k => ⟨_, H, I.kept k, ?_, q⟩
 by_cases hj : j > i
 . rw [if_pos hj, if_pos hj]; exact ⟨_, rfl⟩
 . rw [if_neg hj, if_neg hj]; exact ⟨_, rfl⟩
theorem M5 (hc : X.calm = true) : iS X (.builtin "min") (fun xs H Q => ∃ i j, xs = [.int i, .int j] /\ Q (.int (if j < i then j else i)) H) := by
 intro pins s σ H xs us Q I r h
 obtain ⟨i, j, rfl, q⟩ := h
 obtain ⟨u, w', rfl, ⟨t, rfl⟩, ⟨t', rfl⟩⟩ := vals2 r
 refine min_two_ints (I.ok.hd hc) fun h' tk k => ⟨_, H, I.kept k, ?_, q⟩
 by_cases hj : j < i
 . rw [if_pos hj, if_pos hj]; exact ⟨_, rfl⟩
 . rw [if_neg hj, if_neg hj]; exact ⟨_, rfl⟩
theorem Ga : iS X (.type "int") (fun xs H Q => (∃ i, xs = [.int i] /\ Q (.int i) H) \/ ∃ k, xs = [.bl k] /\ Q (.int (if k then 1 else 0)) H) := by
 intro pins s σ H xs us Q I r h
 rcases h with ⟨i, rfl, q⟩ | ⟨k, rfl, q⟩
 . obtain ⟨u, rfl, t, rfl⟩ := vals1 r
   exact call_int_int ⟨.int i, H, I, ⟨_, rfl⟩, q⟩
 . obtain ⟨u, rfl, r1⟩ := vals1 r
   cases r1
   exact call_int_bool ⟨.int (if k then 1 else 0), H, I.tok _, ⟨_, rfl⟩, q⟩
end
structure Ko (h : Heap) (x dx C : Addr) (mA : Str -> Option Value) : Prop where
 obj : h.get? x = some (PySem.W.instObj C dx)
 ns : h.Ns1 dx mA
 ne : dx ≠ x
theorem MP {h : Heap} {dx : Addr} {mA : Str -> Option Value} (n : h.Ns1 dx mA) : ∃ od, h.get? dx = some od /\ ∀ name, PySem.W.lookIn name od = some (mA name) := by
 obtain ⟨o, es, ep, ho, hd, hk, _, hm⟩ := n
 refine ⟨o, ho, fun name => ?_⟩
 have e := hm name
 unfold nsFind findBy at e
 rw [<- Array.find?_toList] at e
 unfold PySem.W.lookIn
 rw [hd]
 dsimp only
 split
 . rename_i y q
   rw [q] at e
   exact congrArg some e
 . rename_i q
   rw [q] at e
   have a : es.toList.any (·.refKey) = false := by
    rw [List.any_eq_false]
    intro y hy
    obtain ⟨z, t, acB⟩ := hk y (Array.mem_toList_iff.mp hy)
    simp [DictEntry.refKey, acB]
   have a' : ¬ es.toList.any (·.refKey) = true := by rw [a]; exact Bool.false_ne_true
   rw [if_neg a']
   exact congrArg some e
theorem Ko.look {h : Heap} {x dx C : Addr} {mA : Str -> Option Value} (I : Ko h x dx C mA) : ∃ od, PySem.W.InstAt h x (PySem.W.instObj C dx) C (some od) /\ ∀ name, PySem.W.lookIn name od = some (mA name) :=
 let ⟨od, ho, hl⟩ := MP I.ns
 ⟨od, ⟨I.obj, rfl, rfl, ho⟩, hl⟩
section
variable {prog : Program} {w : World} {A : Around} {E : Value -> Shared -> Prop} {s : Shared} {K : PySem.W.Frag} {x dx C f : Addr} {mA : Str -> Option Value} {name : Str} {v : Value}
theorem get_map {expr : Bool} {Q : Value -> Shared -> Prop} (X : K.In s.heap) (I : Ko s.heap x dx C mA) (hg : PySem.W.plainGet K C name = true) (hh : PySem.W.hasDictIn K C = true)
 (ha : PySem.W.findIn K (.ref C) name = some none) (hv : mA name = some v) (hv' : PySem.W.handedIn v = true) (h : Q v { s with toks := s.toks + 1 }) :
 wpAny (model prog w) A (getAttr (.ref x) name expr) Q E s := by
 obtain ⟨od, J, hl⟩ := I.look
 exact PySem.W.get_value X J (PySem.W.plainGet_of hg).1 (PySem.W.findObj_own hh ha rfl (by rw [hl, hv])) hv' h
theorem Pu {pl : Sem Bool} {Q : Value × List Value -> Shared -> Prop} (X : K.In s.heap) (I : Ko s.heap x dx C mA) (hg : PySem.W.plainGet K C name = true)
 (hf : PySem.W.findIn K (.ref C) name = some (some (.ref f))) (ht : PySem.W.isFn K (.ref f) = true) (hv : mA name = none) (h : Q (.ref f, [.ref x]) s) :
 wpAny (model prog w) A (getMethod (.ref x) name pl) Q E s := by
 obtain ⟨od, J, hl⟩ := I.look
 exact PySem.W.method_fn X J (PySem.W.plainGet_of hg).1 (PySem.W.plainGet_of hg).2 hf (beq_iff_eq.mp ht) (by show (PySem.W.lookIn name od).map (·.isSome) = some false; rw [hl, hv]; rfl) h
theorem Ri {ns : List Str} {Q : Unit -> Shared -> Prop} (X : K.In s.heap) (I : Ko s.heap x dx C mA)
 (hs : PySem.W.findIn K (.ref C) "__setattr__" = some (some (.builtin "object.__setattr__"))) (hp : PySem.W.plainOver K C = true) (ht : PySem.W.takerIn K C name = some none) (hh : PySem.W.hasDictIn K C = true)
 (hw : PySem.Within mA ns) (hsz : ns.length <= sizeLine)
 (h : ∀ h', Ko h' x dx C (fun y => if y = name then some v else mA y) -> Heap.SameBut dx s.heap h' -> Q () { s with heap := h', toks := s.toks + 2 }) :
 wpAny (model prog w) A (setAttr (.ref x) name v) Q E s := by
 obtain ⟨od, J, hl⟩ := I.look
 refine PySem.W.set_plain X J hs (PySem.W.osa_open (s := { s with toks := s.toks + 1 }) (r := none) X J hp ht fun b => ?_)
 obtain ⟨cd, hc, Fi⟩ := PySem.W.any_some hh
 have hx : s.heap.get? x = some ⟨.ref C, some dx, .plain, #[]⟩ := I.obj
 refine wpAny_bind (wpAny_pure (wpAny_bind (wpAny_bind (wpAny_loadPart hx (wpAny_bind (PySem.W.Looks.here (s := { s with toks := s.toks + 1 }) (PySem.W.looks_clsIn X hc) ?_))))))
 rw [Fi]
 refine wpAny_pure (a := some dx) (wpAny_bind (wpAny_pure (wpAny_bind ?_)))
 refine wpAny_nsSet1 (s := { s with toks := s.toks + 1 }) I.ns fun h' Ct Nv => ?_
 obtain ⟨oD, esD, epD, hoD, hdD, hcD⟩ := Ct.count (PySem.Within.cons name v hw)
 refine wpAny_bind (wpAny_lookBehind hoD (by rw [hdD]; exact pastItsLine_dict (Nat.le_trans hcD (by rw [List.length_cons]; omega))) ?_)
 exact wpAny_pure (h _ ⟨(Nv.2 _ (Ne.symm I.ne)).trans I.obj, Ct, I.ne⟩ Nv)
theorem P4 {R : Result -> Shared -> Prop} {vs : List Value} {kw : List (Str × Value)} (X : K.In s.heap) (hm : PySem.W.makesIn K C = true)
 (hi : PySem.W.findIn K (.ref C) "__init__" = some (some (.ref f))) (hf : PySem.W.typeIn K (.ref f) = some (.type "function"))
 (h : codeAny (model prog w) (A.under (.builtin "type.__call__" ⟨.ref C :: vs, kw⟩)) (.call (.ref f) ⟨.ref (s.heap.objs.size + 1) :: vs, kw⟩) (PySem.W.InitBack (s.heap.objs.size + 1) R)
  { s with heap := (s.heap.push PySem.W.emptyDict).push (PySem.W.instObj C s.heap.objs.size) }) :
 codeAny (model prog w) A (.call (.ref C) ⟨vs, kw⟩) R s := by
 obtain ⟨hh, g, d, t, os⟩ := s
 exact PySem.W.make_core (PySem.W.makes_of X hm) (PySem.W.looks_findIn X hi) (fun self => PySem.W.bind_fn X self hf) (.inl rfl) h
end
def pe (f : Str) (v : V) : List (Str × V) -> List (Str × V)
 | [] => [(f, v)]
 | (g, x) :: r => if g = f then (g, v) :: r else (g, x) :: pe f v r
theorem CO (f g : Str) (v : V) : ∀ fs : List (Str × V), (pe f v fs).lookup g = if g = f then some v else fs.lookup g
 | [] => by
   show List.lookup g [(f, v)] = _
   by_cases h : g = f
   . have hb : (g == f) = true := beq_iff_eq.mpr h
     simp only [List.lookup, hb, if_pos h]
   . have hb : (g == f) = false := beq_eq_false_iff_ne.mpr h
     simp only [List.lookup, hb, if_neg h]
 | (k, x) :: r => by
   have ih := CO f g v r
   rw [show pe f v ((k, x) :: r) = (if k = f then (k, v) :: r else (k, x) :: pe f v r) from rfl]
   by_cases hk : k = f
   . rw [if_pos hk]
     by_cases h : g = k
     . have hb : (g == k) = true := beq_iff_eq.mpr h
       simp only [List.lookup, hb, if_pos (h.trans hk)]
     . have hb : (g == k) = false := beq_eq_false_iff_ne.mpr h
       simp only [List.lookup, hb, if_neg (fun e : g = f => h (e.trans hk.symm))]
   . rw [if_neg hk]
     by_cases h : g = k
     . have hb : (g == k) = true := beq_iff_eq.mpr h
       simp only [List.lookup, hb, if_neg (fun e : g = f => hk (h.symm.trans e))]
     . have hb : (g == k) = false := beq_eq_false_iff_ne.mpr h
       simp only [List.lookup, hb]
       exact ih
theorem Cd (f : Str) (v : V) : ∀ fs : List (Str × V), f ∈ (pe f v fs).map (·.1) /\ ∀ g, g ∈ fs.map (·.1) -> g ∈ (pe f v fs).map (·.1)
 | [] => ⟨by simp [pe], fun g h => by simp at h⟩
 | (k, x) :: r => by
   obtain ⟨i1, i2⟩ := Cd f v r
   rw [show pe f v ((k, x) :: r) = (if k = f then (k, v) :: r else (k, x) :: pe f v r) from rfl]
   by_cases hk : k = f
   . rw [if_pos hk]
     subst hk
     exact ⟨by simp, fun g h => by simpa using h⟩
   . rw [if_neg hk]
     refine ⟨?_, fun g h => ?_⟩
     . rw [List.map_cons]
       exact List.mem_cons_of_mem _ i1
     . rw [List.map_cons] at h ⊢
       rcases List.mem_cons.mp h with e | e
       . exact List.mem_cons.mpr (.inl e)
       . exact List.mem_cons_of_mem _ (i2 g e)
theorem CH (f : Str) (v : V) : ∀ fs : List (Str × V), (pe f v fs).length <= fs.length + 1
 | [] => by simp [pe]
 | (k, x) :: r => by
   have ih := CH f v r
   rw [show pe f v ((k, x) :: r) = (if k = f then (k, v) :: r else (k, x) :: pe f v r) from rfl]
   by_cases hk : k = f
   . rw [if_pos hk, List.length_cons, List.length_cons]; omega
   . rw [if_neg hk, List.length_cons, List.length_cons]; omega
theorem pS.some_of {v : V} {o : Option Value} (r : pS (some v) o) : ∃ u, o = some u /\ RelV v u := by
 cases o with
 | none => exact (show False from r).elim
 | some u => exact ⟨u, rfl, r⟩
theorem pS.none_of {o : Option Value} (r : pS none o) : o = none := by
 cases o with
 | none => rfl
 | some u => exact (show False from r).elim
theorem MH {v : V} {u : Value} (r : RelV v u) : PySem.W.handedIn u = true := by
 cases v with
 | aT => cases (show u = Value.none from r); rfl
 | bl b => cases (show u = Value.bool b from r); rfl
 | int i => obtain ⟨t, e⟩ := (show ∃ t, u = Value.int i t from r); cases e; rfl
 | str x => obtain ⟨t, e⟩ := (show ∃ t, u = Value.str x t from r); cases e; rfl
 | Lz b => obtain ⟨t, e⟩ := (show ∃ t, u = Value.bytes b t from r); cases e; rfl
 | WL b => obtain ⟨t, e⟩ := (show ∃ t, u = Value.float b t from r); cases e; rfl
 | ref a => cases (show u = Value.ref a from r); rfl
 | ty n => cases (show u = Value.type n from r); rfl
section
variable {P : Program} {w : World} {H H' : Hp} {h h' : Heap} {a C dx : Addr} {fs fs' : List (Str × V)}
theorem DP (bA : pQ P w H h) (e : H a = some (.ins C dx fs)) : ∃ mA, Ko h a dx C mA /\ (∀ f, pS (fs.lookup f) (mA f)) /\ PySem.Within mA (fs.map (·.1)) /\ fs.length <= 1000 /\ H dx = some (.own a) := by
 obtain ⟨d, z, ne, ob, mA, n, r, q⟩ := (show cH P w H h a (.ins C dx fs) from bA a _ e)
 exact ⟨mA, ⟨ob, n, ne⟩, r, q, z, d⟩
end
structure zk (K : PySem.W.Frag) (C : Addr) : Prop where
 pg : PySem.W.plainGet K C Str.empty = true
 hd : PySem.W.hasDictIn K C = true
 po : PySem.W.plainOver K C = true
 sa : PySem.W.findIn K (.ref C) "__setattr__" = some (some (.builtin "object.__setattr__"))
theorem zk.get {K : PySem.W.Frag} {C : Addr} (c : zk K C) (f : Str) : PySem.W.plainGet K C f = true := c.pg
def aJ (K : PySem.W.Frag) (C : Addr) (f : Str) : Prop := PySem.W.findIn K (.ref C) f = some none
theorem aJ.Ys {K : PySem.W.Frag} {C : Addr} {f : Str} (n : aJ K C f) : PySem.W.takerIn K C f = some none := by
 unfold PySem.W.takerIn
 rw [show PySem.W.findIn K (.ref C) f = some none from n]
 rfl
structure Con (K : PySem.W.Frag) (C : Addr) (f : Str) (v : V) (u : Value) : Prop where
 at_ : PySem.W.findIn K (.ref C) f = some (some u)
 rel : RelV v u
 get : PySem.W.specialIn K u "__get__" = some none
 cp : PySem.W.copiedNames.contains f = false
structure Meth (K : PySem.W.Frag) (C : Addr) (m : Str) (f : Addr) : Prop where
 at_ : PySem.W.findIn K (.ref C) m = some (some (.ref f))
 fn : PySem.W.isFn K (.ref f) = true
 kp : PySem.W.keepIn K (.ref f) = true
section
variable {X : Cx} {pins : List (Addr × Obj)} {σ : St} {H : Hp} {s : Shared} {a C dx : Addr} {fs : List (Str × V)} {f : Str} {v : V} {A : Around} {E : Value -> Shared -> Prop}
theorem Jt {b : Bool} {Q : Value -> Shared -> Prop} (I : Inv X pins σ H s) (e : H a = some (.ins C dx fs)) (c : zk X.K C) (n : aJ X.K C f) (l : fs.lookup f = some v)
 (h : ∀ u s', Inv X pins σ H s' -> RelV v u -> Q u s') : wpAny (model X.prog X.w) A (getAttr (.ref a) f b) Q E s := by
 obtain ⟨mA, O, r, _, _, _⟩ := DP I.bA e
 obtain ⟨u, hu, ru⟩ := pS.some_of (v := v) (o := mA f) (by rw [<- l]; exact r f)
 exact get_map I.AB O (c.get f) c.hd n hu (MH ru) (h u _ (I.tok _) ru)
theorem Ey {m : Str} {g : Addr} {pl : Sem Bool} {Q : Value × List Value -> Shared -> Prop} (I : Inv X pins σ H s) (e : H a = some (.ins C dx fs)) (c : zk X.K C) (k : Meth X.K C m g) (l : fs.lookup m = none)
 (h : Q (.ref g, [.ref a]) s) : wpAny (model X.prog X.w) A (getMethod (.ref a) m pl) Q E s := by
 obtain ⟨mA, O, r, _, _, _⟩ := DP I.bA e
 have hn : mA m = none := pS.none_of (by rw [<- l]; exact r m)
 exact Pu I.AB O (c.get m) k.at_ k.fn hn h
theorem JM {y : V} {u : Value} {Q : Unit -> Shared -> Prop} (I : Inv X pins σ H s) (e : H a = some (.ins C dx fs)) (c : zk X.K C) (n : aJ X.K C f) (hl : fs.length < 1000) (ry : RelV y u)
 (h : ∀ s', Inv X pins σ (upd H a (.ins C dx (pe f y fs))) s' -> Q () s') : wpAny (model X.prog X.w) A (setAttr (.ref a) f u) Q E s := by
 obtain ⟨mA, O, r, wi, _, ho⟩ := DP I.bA e
 have hz : (fs.map (·.1)).length <= sizeLine := by rw [List.length_map, sizeLine_eq]; omega
 refine Ri I.AB O c.sa c.po n.Ys c.hd wi hz fun h' O' sb => h _ ?_
 have hd : ∃ o, h'.get? dx = some o := let ⟨o, _, _, e', _⟩ := O'.ns; ⟨o, e'⟩
 refine I.write (x := a) (e := dx) (by rw [e]; exact True.intro) (.inr ho) (fun b q hb z => (sb.2 b hb).trans z) hd ?_
 refine ⟨by rw [av O.ne]; exact ho, ?_, O.ne, O'.obj, _, O'.ns, fun g => ?_, fun g hg => ?_⟩
 . have := CH f y fs; omega
 . show pS ((pe f y fs).lookup g) (if g = f then some u else mA g)
   rw [CO]
   by_cases q : g = f
   . rw [if_pos q, if_pos q]; exact ry
   . rw [if_neg q, if_neg q]; exact r g
 . by_cases q : g = f
   . rw [q]; exact (Cd f y fs).1
   . refine (Cd f y fs).2 g (wi g fun z => hg ?_)
     show (if g = f then some u else mA g) = none
     rw [if_neg q]; exact z
theorem Inv.made (I : Inv X pins σ H s) : Inv X pins σ (upd (upd H s.heap.objs.size (.own (s.heap.objs.size + 1))) (s.heap.objs.size + 1) (.ins C s.heap.objs.size []))
 { s with heap := (s.heap.push PySem.W.emptyDict).push (PySem.W.instObj C s.heap.objs.size) } := by
 have e1 : (s.heap.push PySem.W.emptyDict).get? s.heap.objs.size = some PySem.W.emptyDict := Heap.get?_push_size s.heap rfl
 have e2 : ((s.heap.push PySem.W.emptyDict).push (PySem.W.instObj C s.heap.objs.size)).get? (s.heap.objs.size + 1) = some (PySem.W.instObj C s.heap.objs.size) := by
  have := Heap.get?_push_size (s.heap.push PySem.W.emptyDict) (o := PySem.W.instObj C s.heap.objs.size) rfl
  rwa [Heap.size_push] at this
 have e3 : (s.heap.push PySem.W.emptyDict).Ns s.heap.objs.size (fun _ => none) := ⟨PySem.W.emptyDict, #[], _, e1, rfl, (fun e he => absurd he (by simp)), fun _ => rfl⟩
 have I1 := I.laid (a := s.heap.objs.size) (o := .own (s.heap.objs.size + 1)) (h' := s.heap.push PySem.W.emptyDict) (t' := s.toks) (fun b u q => Heap.get?_push_of_some _ q) (Nat.le_refl _) ⟨_, e1⟩
 refine I1.laid (a := s.heap.objs.size + 1) (o := .ins C s.heap.objs.size []) (t' := s.toks) (fun b u q => Heap.get?_push_of_some _ q) (Nat.le_of_eq (Heap.size_push _ _)) ?_
 have ne : s.heap.objs.size ≠ s.heap.objs.size + 1 := Nat.ne_of_lt (Nat.lt_succ_self _)
 refine ⟨by rw [av ne, au], Nat.zero_le _, ne, e2, fun _ => none, (Heap.Ns1.of_empty e3).at fun o q => Heap.get?_push_of_some _ q, fun _ => True.intro, fun y hy => absurd rfl hy⟩
theorem TH {prog : Program} {w : World} {env : Env} {e : Expr} {f : Str} {pos : Pos} {s : Shared} {Q : Value -> Shared -> Prop} (hb : attributeBase e f env (eval e env) = eval e env)
 (h : wpAny (model prog w) A (eval e env) (fun o s₁ => wpAny (model prog w) A (getAttr o f true) Q E s₁) E s) : wpAny (model prog w) A (eval (.Attribute e f pos) env) Q E s :=
 Attribute_any_ h (by rw [arm_eval_Attribute, hb])
end
def Wi (K : PySem.W.Frag) (ta : TE) (f : Str) : TE := fun σ H Q => ta σ H fun x H1 => ∃ a C dx fs v, x = .ref a /\ H1 a = some (.ins C dx fs) /\ zk K C /\ aJ K C f /\ fs.lookup f = some v /\ Q v H1
def Yx (K : PySem.W.Frag) (ta tv : TE) (f : Str) : TS := fun D σ H => tv σ H fun y H1 => ta σ H1 fun x H2 => ∃ a C dx fs, x = .ref a /\ H2 a = some (.ins C dx fs) /\ zk K C /\ aJ K C f /\ fs.length < 1000 /\
 D.nx σ (upd H2 a (.ins C dx (pe f y fs)))
section
variable {X : Cx} {o e value : Expr} {f : Str} {pos pos' VV : Pos} {ta tv : TE}
theorem ay (he : PE X e ta) (hb : attributeBase e f X.env (eval e X.env) = eval e X.env) : PE X (.Attribute e f pos) (Wi X.K ta f) := by
 intro pins s σ H Q I h
 refine TH hb (dj (he pins s σ H _ I h) fun u s1 ⟨x, H1, I1, rx, a, C, dx, fs, v, ex, ea, c, n, l, q⟩ => ?_)
 subst ex
 obtain rfl : u = Value.ref a := rx
 exact Jt I1 ea c n l fun u' s2 I2 ru => ⟨v, H1, I2, ru, q⟩
theorem aX (ha : PE X o ta) (hv : PE X value tv) (hs : swapsWith value (some (.Attribute o f pos')) pos.line X.env = pure false) : PS X (.Assign [.Attribute o f pos'] value pos) (Yx X.K ta tv f) := by
 intro pins s σ H D I h
 refine plainObj_wpAny_Assign_Attribute (dj (hv pins s σ H _ I h) fun u s1 ⟨y, H1, I1, ry, q⟩ => dj (ha pins s1 σ H1 _ I1 q) fun ov s2 ⟨x, H2, I2, rx, a, C, dx, fs, ex, ea, c, n, l, q2⟩ => ?_) hs
 subst ex
 obtain rfl : ov = Value.ref a := rx
 exact JM I2 ea c n l ry fun s3 I3 => ⟨σ, _, I3, q2⟩
end
section
variable {X : Cx} {pins : List (Addr × Obj)} {σ : St} {H : Hp} {s : Shared} {A : Around} {E : Value -> Shared -> Prop} {Q : Value -> Shared -> Prop} {c : Value} {b : Bool}
inductive Aj (K : PySem.W.Frag) (H : Hp) : V -> Value -> Prop where
 | aT : Aj K H .aT (.type "NoneType")
 | bl (x : Bool) : Aj K H (.bl x) (.type "bool")
 | int (i : Int) : Aj K H (.int i) (.type "int")
 | str (x : Str) : Aj K H (.str x) (.type "str")
 | WL (x : UInt64) : Aj K H (.WL x) (.type "float")
 | lst {a : Addr} {xs : List V} (e : H a = some (.lst xs)) : Aj K H (.ref a) (.type "list")
 | uJ {a : Addr} {o : Obj} {xs : List V} (e : H a = some (.uJ o (.lst xs))) : Aj K H (.ref a) (.type "list")
 | tup {a : Addr} {xs : List V} (e : H a = some (.tup xs)) : Aj K H (.ref a) (.type "tuple")
 | dK {a : Addr} {kvs : List (Key × V)} (e : H a = some (.dK kvs)) : Aj K H (.ref a) (.type "dict")
 | dT {a : Addr} {kvs : List (List Key × V)} (e : H a = some (.dT kvs)) : Aj K H (.ref a) (.type "dict")
 | ins {a C dx : Addr} {fs : List (Str × V)} (e : H a = some (.ins C dx fs)) (cl : zk K C) (ha : PySem.W.findIn K (.ref C) "__class__" = some (some (.builtin "object.__class__")))
  (hn : PySem.W.specialIn K (.builtin "object.__class__") "__get__" = some (some (.builtin "getset_descriptor.__get__"))) (QN : PySem.W.takesIn K (.builtin "object.__class__") = some true)
  (hm : PySem.W.mroIn K C (.type "object") = some true) : Aj K H (.ref a) (.ref C)
theorem NF {x : V} {u t : Value} (I : Inv X pins σ H s) (rx : RelV x u) (ty : Aj X.K H x t) (e : PySem.W.kitOne X.K t c = some b) (h : ∀ tk, Q (.bool b) { s with toks := tk }) :
 wpAny (model X.prog X.w) A (call (.builtin "isinstance") [u, c]) Q E s := by
 cases ty with
 | aT => cases (show u = Value.none from rx); exact PySem.W.kia_one PySem.W.kitx_none I.AB True.intro e (fun z => nomatch z) h
 | bl y => cases (show u = Value.bool y from rx); exact PySem.W.kia_one PySem.W.kitx_bool I.AB True.intro e (fun z => nomatch z) h
 | int i => obtain ⟨t, q⟩ := (show ∃ t, u = Value.int i t from rx); cases q; exact PySem.W.kia_one PySem.W.kitx_int I.AB True.intro e (fun z => nomatch z) h
 | str y => obtain ⟨t, q⟩ := (show ∃ t, u = Value.str y t from rx); cases q; exact PySem.W.kia_one PySem.W.kitx_str I.AB True.intro e (fun z => nomatch z) h
 | WL y => obtain ⟨t, q⟩ := (show ∃ t, u = Value.float y t from rx); cases q; exact PySem.W.kia_one PySem.W.kitx_float I.AB True.intro e (fun z => nomatch z) h
 | @lst a xs ea =>
   cases (show u = Value.ref a from rx)
   obtain ⟨_, _, n, _, h1⟩ := (show cH X.prog X.w H s.heap a (.lst xs) from I.bA a _ ea)
   exact PySem.W.kia_one PySem.W.kitx_list I.AB ⟨_, h1, rfl⟩ e (fun z => nomatch z) h
 | @uJ a ob xs ea =>
   cases (show u = Value.ref a from rx)
   obtain ⟨_, _, _, n, _, h1⟩ := (show cH X.prog X.w H s.heap a (.uJ ob (.lst xs)) from I.bA a _ ea)
   exact PySem.W.kia_one PySem.W.kitx_list I.AB ⟨_, h1, rfl⟩ e (fun z => nomatch z) h
 | @tup a xs ea =>
   cases (show u = Value.ref a from rx)
   obtain ⟨_, _, _, p⟩ := (show cH X.prog X.w H s.heap a (.tup xs) from I.bA a _ ea)
   obtain ⟨o, h1, h2, _⟩ := p
   exact PySem.W.kia_one PySem.W.kitx_tuple I.AB ⟨o, h1, h2⟩ e (fun z => nomatch z) h
 | @dK a kvs ea =>
   cases (show u = Value.ref a from rx)
   obtain ⟨_, _, vs, _, p⟩ := (show cH X.prog X.w H s.heap a (.dK kvs) from I.bA a _ ea)
   obtain ⟨o, es, ep, h1, h2, _⟩ := p
   exact PySem.W.kia_one PySem.W.kitx_dict I.AB ⟨o, h1, h2.1⟩ e (fun z => nomatch z) h
 | @dT a kvs ea =>
   cases (show u = Value.ref a from rx)
   obtain ⟨_, _, xs, _, o, es, ep, h1, h2, _⟩ := (show cH X.prog X.w H s.heap a (.dT kvs) from I.bA a _ ea)
   exact PySem.W.kia_one PySem.W.kitx_dict I.AB ⟨o, h1, h2.1⟩ e (fun z => nomatch z) h
 | @ins a C dx fs ea cl ha hn QN hm =>
   cases (show u = Value.ref a from rx)
   obtain ⟨mA, O, _⟩ := DP I.bA ea
   obtain ⟨od, J, _⟩ := O.look
   exact PySem.W.kia_one (PySem.W.kitx_own (cl.get _) cl.hd ha hn QN hm) I.AB J e (fun z => nomatch z) h
end
structure c9 (k : Nat) (A : Around) : Prop where
 hd : A.handled = none
 dp : A.depth + 3 * k + 5 < recursionLimit
 un : A.units + 16 * k + 200 < cLine
theorem c9.mono {j k : Nat} {A : Around} (r : c9 k A) (h : j <= k) : c9 j A := ⟨r.hd, by have := r.dp; omega, by have := r.un; omega⟩
theorem c9.deeper {k : Nat} {A : Around} (r : c9 (k + 1) A) (env : Env) : c9 k (A.deeper env) :=
 ⟨r.hd, by have := r.dp; show A.depth + 1 + 3 * k + 5 < _; omega, by have := r.un; show A.units + 3 + 16 * k + 200 < _; omega⟩
theorem JE {A : Around} {C : Addr} {us : List Value} {kw : List (Str × Value)} : (A.under (.builtin "type.__call__" ⟨.ref C :: us, kw⟩)).depth = A.depth + 1 := by
 first | rfl | simp [Around.under, Code.weight, Code.isCreation, Code.isGuard, Code.isCaller, Code.frames, Code.isFrame, guardIds]
theorem Jr {A : Around} {C : Addr} {us : List Value} {kw : List (Str × Value)} : (A.under (.builtin "type.__call__" ⟨.ref C :: us, kw⟩)).units = A.units + 1 := by
 first | rfl | simp [Around.under, Code.cUnits, Code.frames, Code.isFrame]
theorem c9.make {k : Nat} {A : Around} (r : c9 (k + 1) A) (C : Addr) (us : List Value) (kw : List (Str × Value)) : c9 k (A.under (.builtin "type.__call__" ⟨.ref C :: us, kw⟩)) :=
 ⟨r.hd, by have := r.dp; rw [JE]; omega, by have := r.un; rw [Jr]; omega⟩
theorem c9.depth {k : Nat} {A : Around} (r : c9 k A) : A.depth < recursionLimit := by have := r.dp; omega
theorem c9.units {k : Nat} {A : Around} (r : c9 k A) : A.units + 64 < cLine := by have := r.un; omega
def Kf : TA := fun _ H Q => Q [] H
def UY (ta : TE) (tr : TA) : TA := fun σ H Q => ta σ H fun x H1 => tr σ H1 fun xs H2 => Q (x :: xs) H2
section
variable {X : Cx} {e : Expr} {es : List Expr} {te : TE} {t : TA} {pos : Pos}
theorem aj : PA X [] Kf := fun _ _ _ _ H Q I h => Calls.spliced_nil ⟨[], H, I, .nil, h⟩
theorem ae (ha : PE X e te) (hr : PA X es t) (hs : starEach (e :: es) X.env = (false, eval e X.env) :: starEach es X.env := by rfl) : PA X (e :: es) (UY te t) := by
 intro pos pins s σ H Q I h
 rw [hs]
 show wpAny _ _ (spliced ((false, eval e X.env) :: backTo pos (starEach es X.env))) _ _ s
 refine Calls.spliced_cons (dj (ha pins s σ H _ I h) fun u s1 ⟨x, H1, I1, r1, q1⟩ => ?_)
 exact dj (hr pos pins s1 σ H1 _ I1 q1) fun us s2 ⟨xs, H2, I2, r2, q2⟩ => ⟨x :: xs, H2, I2, .cons r1 r2, q2⟩
def abZ (t : TA) : TE := fun σ H Q => t σ H fun xs H1 => xs.length <= sizeLine /\ ∀ p, H1 p = none -> Q (.ref p) (upd H1 p (.tup xs))
def abq (t : TA) : TE := fun σ H Q => t σ H fun xs H1 => xs.length <= sizeLine /\ ∀ p, H1 p = none -> Q (.ref p) (upd H1 p (.lst xs))
theorem Vw {x1} (h : PA X es t) : PE X (.Tuple es x1 pos) (abZ t) := by
 intro pins s σ H Q I hq
 refine wpAny_Tuple_spliced (dj (h pos pins s σ H _ I hq) fun us s1 ⟨xs, H1, I1, r, z, q⟩ => ⟨by rw [<- r.length]; exact z, ?_⟩)
 have hf : H1 s1.heap.objs.size = none := I1.bA.fresh (Nat.le_refl _)
 refine ⟨.ref s1.heap.objs.size, upd H1 s1.heap.objs.size (.tup xs), I1.laid (t' := s1.toks) (fun b u e => Heap.get?_push_of_some _ e) (Nat.le_refl _) ?_, rfl, q _ hf⟩
 exact ⟨z, us, r, ⟨_, Heap.get?_push_size _ rfl, rfl, _, rfl⟩⟩
theorem V5 (h : PA X es t) : PE X (.List es pos) (abq t) := by
 intro pins s σ H Q I hq
 refine wpAny_List_spliced (dj (h pos pins s σ H _ I hq) fun us s1 ⟨xs, H1, I1, r, z, q⟩ => ⟨by rw [<- r.length]; exact z, ?_⟩)
 have hf : H1 s1.heap.objs.size = none := I1.bA.fresh (Nat.le_refl _)
 refine ⟨.ref s1.heap.objs.size, upd H1 s1.heap.objs.size (.lst xs), I1.laid (t' := s1.toks) (fun b u e => Heap.get?_push_of_some _ e) (Nat.le_refl _) ?_, rfl, q _ hf⟩
 exact ⟨z, us, 0, r, Heap.get?_push_size _ rfl⟩
end
abbrev Sp := List V -> Hp -> VK -> XK -> Prop
abbrev GH := List Env -> Hp -> Shared -> XK -> Value -> Shared -> Prop
structure Jm (P : Program) (w : World) (K : PySem.W.Frag) (mg : Str -> Option Value) (base : Heap) (A : Around) (outer : List Env) (s : Shared) (H : Hp) : Prop where
 frames : A.frames = some outer
 mod : Mod K mg base
 bs : ∀ b o, base.get? b = some o -> s.heap.get? b = some o /\ H b = none
 Py : base.objs.size <= s.heap.objs.size
 BU : s.heap.FunFrames base outer
 UD : ∀ b ∈ HC outer, H b = none
 bA : pQ P w H s.heap
 bare : AllBare s.gens
def CE (outer : List Env) (P : Program) (w : World) (H : Hp) (s : Shared) (Q : VK) (u : Value) (s' : Shared) : Prop :=
 ∃ v H', s'.os = s.os /\ AllBare s'.gens /\ Un (HC outer) [] H H' s.heap s'.heap /\ pQ P w H' s'.heap /\ RelV v u /\ Q v H'
def CR (CX : GH) (outer : List Env) (P : Program) (w : World) (H : Hp) (s : Shared) (Q : VK) (E : XK) (r : Result) (s' : Shared) : Prop :=
 match r with
 | .ok (.ret u) => CE outer P w H s Q u s'
 | .ok _ => False
 | .error e => CX outer H s E e s'
structure aK (P : Program) (w : World) (K : PySem.W.Frag) (mg : Str -> Option Value) (base : Heap) (CX : GH) (k : Nat) (f : Addr) (fd : FuncData) (ps : List Str) (sp : Sp) : Prop where
 len : ∀ vs H Q E, sp vs H Q E -> vs.length = ps.length
 run : ∀ (A : Around) (outer : List Env) (s : Shared) (H : Hp) (args : Args) (us : List Value) (vs : List V) (Q : VK) (E : XK), c9 k A -> Jm P w K mg base A outer s H -> BindsTo s fd args (ps.zip us) -> Vals vs us -> sp vs H Q E ->
  codeAny (model P w) A (.call (.ref f) args) (CR CX outer P w H s Q E) s
theorem aK.mono {P : Program} {w : World} {K : PySem.W.Frag} {mg : Str -> Option Value} {base : Heap} {CX : GH} {j k : Nat} {f : Addr} {fd : FuncData} {ps : List Str} {sp : Sp} (F : aK P w K mg base CX j f fd ps sp) (h : j <= k) :
 aK P w K mg base CX k f fd ps sp := ⟨F.len, fun A outer s H args us vs Q E hr => F.run A outer s H args us vs Q E (hr.mono h)⟩
theorem Jm.make {P : Program} {w : World} {K : PySem.W.Frag} {mg : Str -> Option Value} {base : Heap} {A : Around} {outer : List Env} {s : Shared} {H : Hp} (e : Jm P w K mg base A outer s H) (C : Addr) (us : List Value) (kw : List (Str × Value)) :
 Jm P w K mg base (A.under (.builtin "type.__call__" ⟨.ref C :: us, kw⟩)) outer s H := ⟨by first | exact e.frames | (simpa [Around.under, Code.envs, Code.isFrame, pushEnvs] using e.frames), e.mod, e.bs, e.Py, e.BU, e.UD, e.bA, e.bare⟩
section
variable {X : Cx} {pins : List (Addr × Obj)} {σ : St} {H : Hp} {s s' : Shared}
theorem Inv.Y5 (I : Inv X pins σ H s) : Jm X.prog X.w X.K X.mg X.base X.A X.stack s H :=
 ⟨I.ok.frames, I.ok.mod, I.bs, Nat.le_trans I.ok.Py I.sz, I.stack, I.LI, I.bA, I.bare⟩
theorem Inv.after {Q : VK} {u : Value} (I : Inv X pins σ H s) (h : CE X.stack X.prog X.w H s Q u s') : EP X pins σ Q u s' := by
 obtain ⟨v, H', os, bare, un, bA, r, q⟩ := h
 obtain ⟨hh, g, d, t, os'⟩ := s'
 obtain rfl : os' = s.os := os
 exact ⟨v, H', I.call (h' := hh) (g' := g) (d' := d) (t' := t) (ch := []) un bA bare (fun b z => absurd z (by simp)), r, q⟩
end
def F9 (sp : Sp) (c3 : List V) (E : XK) (t : TA) : TE := fun σ H Q => t σ H fun vs H1 => sp (vs ++ c3) H1 Q E
def FR (C : Addr) (m : Str) (sp : Sp) (c3 : List V) (E : XK) (ta : TE) (t : TA) : TE := fun σ H Q => ta σ H fun x H1 => ∃ a dx fs, x = .ref a /\ H1 a = some (.ins C dx fs) /\ fs.lookup m = none /\
 t σ H1 fun vs H2 => sp (x :: (vs ++ c3)) H2 Q E
def HN (C : Addr) (sp : Sp) (c3 : List V) (E : XK) (t : TA) : TE := fun σ H Q => t σ H fun vs H1 => ∀ x dx, H1 x = none -> H1 dx = none -> dx ≠ x ->
 sp (.ref x :: (vs ++ c3)) (upd (upd H1 dx (.own x)) x (.ins C dx [])) (fun v H2 => v = .aT /\ Q (.ref x) H2) E
def Binds (K : PySem.W.Frag) (fd : FuncData) (ps : List Str) (ds : List Value) : Prop :=
 ∀ (s : Shared) (us : List Value), K.In s.heap -> (us ++ ds).length = ps.length -> BindsTo s fd ⟨us, []⟩ (ps.zip (us ++ ds))
theorem Binds.all {K : PySem.W.Frag} {fd : FuncData} {ps : List Str} (h : ∀ us : List Value, us.length = ps.length -> bindArgs fd ⟨us, []⟩ = pure (ps.zip us)) : Binds K fd ps [] := fun s us _ hl => by
 rw [List.append_nil] at hl ⊢
 exact .of_eq (h us hl)
def Passes (CX : GH) (X : Cx) (E : XK) : Prop := ∀ (pins : List (Addr × Obj)) (σ : St) (H : Hp) (s : Shared) (e : Value) (s' : Shared), Inv X pins σ H s -> CX X.stack H s E e s' -> X.xe e s'
section
variable {X : Cx} {CX : GH} {k : Nat} {f C : Addr} {fd : FuncData} {ps : List Str} {sp : Sp} {c3 : List V} {ds : List Value} {E : XK} {x m : Str} {p pos apos : Pos} {e o : Expr} {es : List Expr} {ta : TE} {t : TA}
theorem Ht {pins : List (Addr × Obj)} {σ : St} {H : Hp} {s : Shared} {Q : VK} {us : List Value} {vs : List V} (F : aK X.prog X.w X.K X.mg X.base CX k f fd ps sp) (hr : c9 k X.A) (hb : Binds X.K fd ps ds) (hd : Vals c3 ds) (hx : Passes CX X E)
 (I : Inv X pins σ H s) (r : Vals vs us) (h : sp (vs ++ c3) H Q E) : wpAny (model X.prog X.w) X.A (call (.ref f) us) (EP X pins σ Q) X.xe s := by
 have r2 : Vals (vs ++ c3) (us ++ ds) := r.append hd
 have hl : (us ++ ds).length = ps.length := by rw [<- r2.length]; exact F.len _ _ _ _ h
 refine wpAny_call (codeAny_mono (F.run X.A X.stack s H ⟨us, []⟩ (us ++ ds) (vs ++ c3) Q E hr I.Y5 (hb s us I.AB hl) r2 h) fun r s' hq => ?_)
 cases r with
 | error e => exact hx pins σ H s e s' I hq
 | ok fl =>
   cases fl with
   | ret u => exact I.after hq
   | next => exact False.elim hq
   | brk => exact False.elim hq
   | cont => exact False.elim hq
theorem R9 (F : aK X.prog X.w X.K X.mg X.base CX k f fd ps sp) (hr : c9 k X.A) (hg : Gl X x) (hm : X.mg x = some (.ref f)) (hk : PySem.W.keepIn X.K (.ref f) = true) (hb : Binds X.K fd ps ds) (hd : Vals c3 ds) (hx : Passes CX X E)
 (ha : PA X (e :: es) t) (zp : (x == ("__debug__" : Str)) = false := by decide) (he : starEach (e :: es) X.env = (false, eval e X.env) :: starEach es X.env := by rfl) (Bv : (backTo pos (starEach es X.env)).any (·.1) = false := by rfl) :
 PE X (.Call (.Name x p) (e :: es) [] pos) (F9 sp c3 E t) := by
 intro pins s σ H Q I h
 refine wpAny_Call_Name_kw (DK I hg hm ?_ zp)
 refine PySem.W.callWith_K (h₀ := X.base) I.ok.mod.XQ hk (dj (ha pos pins s σ H _ I h) fun us s1 ⟨vs, H1, I1, r, q⟩ => ⟨I1.AB, ?_⟩) he Bv
 exact Ht F hr hb hd hx I1 r q
theorem QZ {pl : Sem Bool} (he : PE X o ta) (c : zk X.K C) (hm : Meth X.K C m f) (F : aK X.prog X.w X.K X.mg X.base CX k f fd ps sp) (hr : c9 k X.A) (hb : Binds X.K fd ps ds) (hd : Vals c3 ds) (hx : Passes CX X E) (ha : PA X (e :: es) t)
 (AO : starEach (e :: es) X.env = (false, eval e X.env) :: starEach es X.env := by rfl) (Bv : (backTo pos (starEach es X.env)).any (·.1) = false := by rfl)
 (ht : eval (.Call (.Attribute o m apos) (e :: es) [] pos) X.env = (do
  let ov <- eval o X.env
  standAt apos.atName
  let (f, first) <- holding [ov] (getMethod ov m pl)
  callWith pos f first (backTo pos (starEach (e :: es) X.env)) (backToKw pos (keywordEach [] X.env))) := by rfl) :
 PE X (.Call (.Attribute o m apos) (e :: es) [] pos) (FR C m sp c3 E ta t) := by
 intro pins s σ H Q I h
 refine PySem.W.methodCall_KW (pl := pl) (dj (he pins s σ H _ I h) fun u s1 ⟨x, H1, I1, rx, a, dx, fs, ex, ea, l, q⟩ => ?_) ht
 subst ex
 obtain rfl : u = Value.ref a := rx
 refine Ey I1 ea c hm l ?_
 refine PySem.W.callWith_K (first := [.ref a]) (h₀ := X.base) I.ok.mod.XQ hm.kp (dj (ha pos pins s1 σ H1 _ I1 q) fun us s2 ⟨vs, H2, I2, r, q2⟩ => ⟨I2.AB, ?_⟩) AO Bv
 exact Ht (us := .ref a :: us) (vs := .ref a :: vs) F hr hb hd hx I2 (.cons rfl r) q2
theorem OS {pl : Sem Bool} (he : PE X o ta) (c : zk X.K C) (hm : Meth X.K C m f) (F : aK X.prog X.w X.K X.mg X.base CX k f fd ps sp) (hr : c9 k X.A) (hb : Binds X.K fd ps ds) (hd : Vals c3 ds) (hx : Passes CX X E)
 (ht : eval (.Call (.Attribute o m apos) [] [] pos) X.env = (do
  let ov <- eval o X.env
  standAt apos.atName
  let (f, first) <- holding [ov] (getMethod ov m pl)
  callWith pos f first (backTo pos (starEach [] X.env)) (backToKw pos (keywordEach [] X.env))) := by rfl) :
 PE X (.Call (.Attribute o m apos) [] [] pos) (FR C m sp c3 E ta Kf) := by
 intro pins s σ H Q I h
 refine PySem.W.methodCall_KW (pl := pl) (dj (he pins s σ H _ I h) fun u s1 ⟨x, H1, I1, rx, a, dx, fs, ex, ea, l, q⟩ => ?_) ht
 subst ex
 obtain rfl : u = Value.ref a := rx
 refine Ey I1 ea c hm l ?_
 exact PySem.W.callWith_K0 (first := [.ref a]) I1.AB hm.kp (Ht (us := [.ref a]) (vs := [.ref a]) F hr hb hd hx I1 (.cons rfl .nil) q)
structure Mk (K : PySem.W.Frag) (C f : Addr) : Prop where
 makes : PySem.W.makesIn K C = true
 init : PySem.W.findIn K (.ref C) "__init__" = some (some (.ref f))
 fn : PySem.W.isFn K (.ref f) = true
 kp : PySem.W.keepIn K (.ref C) = true
theorem HU {pins : List (Addr × Obj)} {σ : St} {H : Hp} {s : Shared} {Q : VK} {us : List Value} {vs : List V} (M : Mk X.K C f) (F : aK X.prog X.w X.K X.mg X.base CX k f fd ps sp) (hr : c9 (k + 1) X.A) (hb : Binds X.K fd ps ds) (hd : Vals c3 ds)
 (hx : Passes CX X E) (I : Inv X pins σ H s) (r : Vals vs us)
 (h : ∀ x dx, H x = none -> H dx = none -> dx ≠ x -> sp (.ref x :: (vs ++ c3)) (upd (upd H dx (.own x)) x (.ins C dx [])) (fun v H2 => v = .aT /\ Q (.ref x) H2) E) :
 wpAny (model X.prog X.w) X.A (call (.ref C) us) (EP X pins σ Q) X.xe s := by
 have hq := h (s.heap.objs.size + 1) s.heap.objs.size (I.bA.fresh (Nat.le_succ _)) (I.bA.fresh (Nat.le_refl _)) (Nat.ne_of_lt (Nat.lt_succ_self _))
 have I2 := Inv.made (C := C) I
 have r2 : Vals (V.ref (s.heap.objs.size + 1) :: (vs ++ c3)) (Value.ref (s.heap.objs.size + 1) :: (us ++ ds)) := .cons rfl (r.append hd)
 have hl : (Value.ref (s.heap.objs.size + 1) :: us ++ ds).length = ps.length := by
  have e := r2.length
  rw [F.len _ _ _ _ hq] at e
  exact e.symm
 refine wpAny_call (P4 (f := f) I.AB M.makes M.init (beq_iff_eq.mp M.fn) (codeAny_mono (F.run _ X.stack _ _ ⟨Value.ref (s.heap.objs.size + 1) :: us, []⟩ (Value.ref (s.heap.objs.size + 1) :: (us ++ ds)) _ _ E (hr.make C us [])
  (I2.Y5.make C us []) (hb _ (Value.ref (s.heap.objs.size + 1) :: us) I2.AB hl) r2 hq) fun r s' Vs => ?_))
 cases r with
 | error e => exact hx pins σ _ _ e s' I2 Vs
 | ok fl =>
   cases fl with
   | ret u =>
     obtain ⟨v, H', I3, rv, ev, q3⟩ := I2.after Vs
     subst ev
     exact ⟨rv, ⟨V.ref (s.heap.objs.size + 1), H', I3, rfl, q3⟩⟩
   | next => exact False.elim Vs
   | brk => exact False.elim Vs
   | cont => exact False.elim Vs
theorem Ta (M : Mk X.K C f) (F : aK X.prog X.w X.K X.mg X.base CX k f fd ps sp) (hr : c9 (k + 1) X.A) (hg : Gl X x) (hm : X.mg x = some (.ref C)) (hb : Binds X.K fd ps ds) (hd : Vals c3 ds) (hx : Passes CX X E)
 (ha : PA X (e :: es) t) (zp : (x == ("__debug__" : Str)) = false := by decide) (he : starEach (e :: es) X.env = (false, eval e X.env) :: starEach es X.env := by rfl) (Bv : (backTo pos (starEach es X.env)).any (·.1) = false := by rfl) :
 PE X (.Call (.Name x p) (e :: es) [] pos) (HN C sp c3 E t) := by
 intro pins s σ H Q I h
 refine wpAny_Call_Name_kw (DK I hg hm ?_ zp)
 refine PySem.W.callWith_K (h₀ := X.base) I.ok.mod.XQ M.kp (dj (ha pos pins s σ H _ I h) fun us s1 ⟨vs, H1, I1, r, q⟩ => ⟨I1.AB, ?_⟩) he Bv
 exact HU M F hr hb hd hx I1 r q
theorem Qe (M : Mk X.K C f) (F : aK X.prog X.w X.K X.mg X.base CX k f fd ps sp) (hr : c9 (k + 1) X.A) (hg : Gl X x) (hm : X.mg x = some (.ref C)) (hb : Binds X.K fd ps ds) (hd : Vals c3 ds) (hx : Passes CX X E)
 (zp : (x == ("__debug__" : Str)) = false := by decide) : PE X (.Call (.Name x p) [] [] pos) (HN C sp c3 E Kf) := by
 intro pins s σ H Q I h
 refine wpAny_Call_Name_kw (DK I hg hm ?_ zp)
 exact PySem.W.callWith_K0 I.AB M.kp (HU (us := []) M F hr hb hd hx I .nil h)
end
section
variable {X : Cx} {CX : GH} {k : Nat} {f C : Addr} {fd : FuncData} {ps ks : List Str} {sp : Sp} {E : XK} {x m : Str} {p pos apos acA : Pos} {e o : Expr} {es : List Expr} {kws : List Keyword} {te ta : TE} {t tk : TA} {nm : Option Str}
structure abl (K : PySem.W.Frag) (fd : FuncData) (ps ks : List Str) (g : List Value -> List Value -> List Value) (gV : List V -> List V -> List V) : Prop where
 to : ∀ (s : Shared) (us ws : List Value), K.In s.heap -> (g us ws).length = ps.length -> BindsTo s fd ⟨us, ks.zip ws⟩ (ps.zip (g us ws))
 rel : ∀ {vs : List V} {us : List Value} {zs : List V} {ws : List Value}, Vals vs us -> Vals zs ws -> Vals (gV vs zs) (g us ws)
variable {g : List Value -> List Value -> List Value} {gV : List V -> List V -> List V}
end
structure aq (N P : List Str) (sc : Scope) : Prop where
 kind : sc.kind = .function
 co : sc.isCoroutine = false
 gen : sc.isGenerator = false
 nd : N.Nodup
 pre : N.take P.length = P
 par : ∀ x ∈ P, sc.names.lookup x = some .local \/ sc.names.lookup x = some .cell
 Wb : ∀ y ∈ sc.names, y.2 ≠ .free
theorem FE {kindOf : Str -> Option NameKind} {x : Str} : ∀ {binds : List (Str × Value)} {m : Str -> Option Value}, (∀ v, (x, v) ∉ binds) -> bindL kindOf binds m x = m x
 | [], _, _ => rfl
 | (n, v) :: r, m, h => by
   unfold bindL
   rw [FE fun w hw => h w (List.mem_cons_of_mem _ hw)]
   split
   . have : x ≠ n := by rintro rfl; exact h v List.mem_cons_self
     simp [this]
   . rfl
theorem FQ {kindOf : Str -> Option NameKind} {x : Str} : ∀ {binds : List (Str × Value)} {m : Str -> Option Value}, (∀ v, (x, v) ∉ binds) -> bindC kindOf binds m x = m x
 | [], _, _ => rfl
 | (n, v) :: r, m, h => by
   unfold bindC
   rw [FQ fun w hw => h w (List.mem_cons_of_mem _ hw)]
   split
   . rfl
   . have : x ≠ n := by rintro rfl; exact h v List.mem_cons_self
     simp [this]
theorem FK {kindOf : Str -> Option NameKind} {x : Str} {v : Value} : ∀ {P : List Str} {vs : List Value} {i : Nat} {m : Str -> Option Value}, P.Nodup -> P[i]? = some x -> vs[i]? = some v -> kindOf x = some .local ->
 bindL kindOf (P.zip vs) m x = some v
 | [], _, _, _, _, h, _, _ => by simp at h
 | _ :: _, [], _, _, _, _, h, _ => by simp at h
 | p :: P, w :: vs, 0, m, nd, h1, h2, hk => by
   simp at h1 h2; subst h1; subst h2
   show bindL kindOf ((p, w) :: P.zip vs) m p = _
   unfold bindL
   rw [FE fun v hv => (List.nodup_cons.mp nd).1 (List.of_mem_zip hv).1, if_pos hk]
   simp
 | p :: P, w :: vs, i + 1, m, nd, h1, h2, hk => by
   show bindL kindOf ((p, w) :: P.zip vs) m x = _
   unfold bindL
   exact FK (i := i) (List.nodup_cons.mp nd).2 (by simpa using h1) (by simpa using h2) hk
theorem FL {kindOf : Str -> Option NameKind} {x : Str} {v : Value} : ∀ {P : List Str} {vs : List Value} {i : Nat} {m : Str -> Option Value}, P.Nodup -> P[i]? = some x -> vs[i]? = some v -> kindOf x ≠ some .local ->
 bindC kindOf (P.zip vs) m x = some v
 | [], _, _, _, _, h, _, _ => by simp at h
 | _ :: _, [], _, _, _, _, h, _ => by simp at h
 | p :: P, w :: vs, 0, m, nd, h1, h2, hk => by
   simp at h1 h2; subst h1; subst h2
   show bindC kindOf ((p, w) :: P.zip vs) m p = _
   unfold bindC
   rw [FQ fun v hv => (List.nodup_cons.mp nd).1 (List.of_mem_zip hv).1, if_neg hk]
   simp
 | p :: P, w :: vs, i + 1, m, nd, h1, h2, hk => by
   show bindC kindOf ((p, w) :: P.zip vs) m x = _
   unfold bindC
   exact FL (i := i) (List.nodup_cons.mp nd).2 (by simpa using h1) (by simpa using h2) hk
def start (N : List Str) (vs : List V) : St := vs.map some ++ List.replicate (N.length - vs.length) none
def Md (CX : GH) (P : Program) (w : World) (K : PySem.W.Frag) (mg : Str -> Option Value) (base : Heap) (N : List Str) (qual : Str) (scope : Scope) (f : Addr) (cd : Value) (A : Around) (outer : List Env) (s : Shared) (H : Hp) (E : XK) : Cx where
 prog := P
 w := w
 K := K
 mg := mg
 base := base
 A := A.deeper (envOfC qual scope s.heap.objs.size f cd)
 N := N
 hE := s
 JO := H
 env := envOfC qual scope s.heap.objs.size f cd
 outer := outer
 stack := envOfC qual scope s.heap.objs.size f cd :: outer
 ex := []
 calm := true
 fn := fun _ => true
 pn := []
 xe := fun e s' => wpAny (model P w) (A.deeper (envOfC qual scope s.heap.objs.size f cd)) («leaving» (envOfC qual scope s.heap.objs.size f cd) e) (fun _ s'' => CX outer H s E e s'') (fun e' s'' => CX outer H s E e' s'') s'
theorem Iy {sc : Scope} {n : Nat} {x : Str} (h : sc.names.lookup x = some .cell) : ∃ c, (cellsFrom n sc.names []).lookup x = some c := by
 have q := PySem.W.cellsFrom_some sc.names n [] (.inl h)
 exact Option.isSome_iff_exists.mp q
theorem Nb {CX : GH} {P : Program} {w : World} {K : PySem.W.Frag} {mg : Str -> Option Value} {base : Heap} {N ps : List Str} {qual : Str} {scope : Scope} {f : Addr} {cd : Value} {A : Around} {outer : List Env} {s s1 : Shared} {H : Hp} {E : XK} {us : List Value} {vs : List V}
 (S : aq N ps scope) (hd : A.handled = none) (e0 : Jm P w K mg base A outer s H) (hl : vs.length = ps.length) (r : Vals vs us)
 (x : InCallC s s.heap.objs.size (bindL (envOfC qual scope s.heap.objs.size f cd).kindOf (ps.zip us) fun _ => none) (cellsFrom (s.heap.objs.size + 1) scope.names []) (bindC (envOfC qual scope s.heap.objs.size f cd).kindOf (ps.zip us) fun _ => none) s1) :
 Inv (Md CX P w K mg base N qual scope f cd A outer s H E) [] (start N vs) H s1 := by
 have Bv : ps.length <= N.length := by have := congrArg List.length S.pre; rw [List.length_take] at this; omega
 obtain ⟨h1, tk, rfl, hk⟩ := x.done
 have ZU : ∀ b : Addr, b ∉ (Md CX P w K mg base N qual scope f cd A outer s H E).ex := fun b z => absurd (show b ∈ ([] : List Addr) from z) (by simp)
 refine ⟨⟨e0.mod, S.kind, rfl, rfl, Nat.le_refl _, fun y z c h1 h2 => ?_, fun y hy => ?_, fun y c _ h => ?_, fun _ => hd, Around.frames_deeper e0.frames, .inr ⟨rfl, rfl⟩, fun b z => absurd z (ZU b), e0.bs, e0.Py, fun b _ _ => ZU b, fun b z => absurd z (ZU b), e0.BU, e0.UD⟩,
  rfl, e0.bare, Un.kept hk, ⟨_, x.toInCall.ns, fun i y v h1 h2 h3 => ?_⟩, fun y c h => ⟨_, x.cell y c h⟩, e0.bA.fresh (Nat.le_refl _), fun y c h => ?_, fun p hp => absurd (show p ∈ ([] : List (Addr × Obj)) from hp) (by simp), e0.bA.kept hk, ?_⟩
 . exact name_of_addr x.apart (PySem.mem_of_lookup h1) (PySem.mem_of_lookup h2)
 . have hy : scope.names.lookup y = some .cell \/ scope.names.lookup y = some .free := hy
   rcases hy with hy | hy
   . exact Iy hy
   . exact absurd rfl (S.Wb _ (PySem.mem_of_lookup hy))
 . exact Nat.le_of_lt (x.above y c (PySem.mem_of_lookup h))
 . have hi : i < vs.length := by
    unfold start at h2
    by_cases hi : i < vs.length
    . exact hi
    . rw [List.getElem?_append_right (by simpa using hi)] at h2
      rw [List.getElem?_replicate] at h2
      split at h2 <;> cases h2
   have ha : vs[i]? = some v := by
    unfold start at h2
    rw [List.getElem?_append_left (by simpa using hi), List.getElem?_map] at h2
    cases e : vs[i]? with
    | none => rw [e] at h2; cases h2
    | some a => rw [e] at h2; cases h2; rfl
   obtain ⟨u, hu, rv⟩ := r.get ha
   have hp : ps[i]? = some y := by
    rw [<- S.pre, List.getElem?_take_of_lt (by omega)]; exact h1
   have ndP : ps.Nodup := by rw [<- S.pre]; exact S.nd.sublist (List.take_sublist _ _)
   refine ⟨u, rv, ?_⟩
   rcases S.par y (List.mem_of_getElem? hp) with k | k
   . exact .inl ⟨k, FK ndP hp hu k⟩
   . obtain ⟨c, e⟩ := Iy (n := s.heap.objs.size + 1) k
     refine .inr ⟨.inl k, c, e, ?_⟩
     have q := x.cell y c e
     rw [FL ndP hp hu (by show scope.names.lookup y ≠ _; rw [k]; decide)] at q
     exact q
 . exact e0.bA.fresh (Nat.le_of_lt (x.above y c (PySem.mem_of_lookup h)))
 . unfold start
   show _ = N.length
   rw [List.length_append, List.length_map, List.length_replicate]
   omega
theorem Zt {CX : GH} {P : Program} {w : World} {K : PySem.W.Frag} {mg : Str -> Option Value} {base : Heap} {k : Nat} {f : Addr} {name qual : Str} {params : Arguments} {body : List Stmt} {scope : Scope} {dV kV doc pm cJ ct oc : Value} {an od : Option Addr}
 {QG : Array (Option Value)} {N ps : List Str} {sp : Sp} (lk : K.lookup f = some ⟨oc, od, .func (PySem.W.fnOf name qual params body scope dV kV doc pm an cJ ct), QG⟩) (NN : PySem.W.codeIn K cJ qual = true) (S : aq N ps scope)
 (len : ∀ vs H Q E, sp vs H Q E -> vs.length = ps.length)
 (NW : ∀ (A : Around) (outer : List Env) (s : Shared) (H : Hp) (vs : List V) (Q : VK) (E : XK), c9 k (A.deeper (envOfC qual scope s.heap.objs.size f cJ)) -> sp vs H Q E ->
  ∃ t, Jf (Md CX P w K mg base N qual scope f cJ A outer s H E) body t /\ t { nx := fun _ H' => Q .aT H', rt := Q } (start N vs) H) :
 aK P w K mg base CX (k + 1) f (PySem.W.fnOf name qual params body scope dV kV doc pm an cJ ct) ps sp := by
 refine ⟨len, fun A outer s H args us vs Q E hr e0 hb r QP => ?_⟩
 have hl := len _ _ _ _ QP
 have KX : K.In s.heap := e0.mod.XQ.keeps fun b o e => (e0.bs b o e).1
 have lim : s.heap.NoLimit := e0.mod.nolimit.keeps fun b o e => (e0.bs b o e).1
 have Y2 : ∀ y ∈ ps.zip us, scope.names.lookup y.1 = some .local \/ (scope.names.lookup y.1 = some .cell /\ ((cellsFrom (s.heap.objs.size + 1) scope.names []).lookup y.1).isSome = true) := fun ⟨n, v⟩ hy => by
  rcases S.par n (List.of_mem_zip hy).1 with q | q
  . exact .inl q
  . exact .inr ⟨q, PySem.W.cellsFrom_some _ _ _ (.inl q)⟩
 refine codeAny_call_function hr.depth (KX _ _ lk) rfl S.co S.gen rfl (PySem.W.codeRec_of KX NN) (hb _ _ _ _ ?_)
 refine wpAny_newFunctionEnv_cells S.kind Y2 fun env he s1 x => ?_
 subst he
 refine ⟨lim.keeps x.toInCall.keep, codeAny_func ?_⟩
 obtain ⟨t, ht, hq⟩ := NW A outer s H vs Q E (hr.deeper _) QP
 have I : Inv (Md CX P w K mg base N qual scope f cJ A outer s H E) [] (start N vs) H s1 := Nb S hr.hd e0 hl r x
 refine wpAny_mono (ht [] s1 (start N vs) H _ I hq) (fun fl s' hs => ?_) fun e s' hs => hs
 have fin : ∀ {σ' : St} {H' : Hp} {v : V} {u : Value}, Inv (Md CX P w K mg base N qual scope f cJ A outer s H E) [] σ' H' s' -> RelV v u -> Q v H' -> CE outer P w H s Q u s' :=
  fun {σ' H' v u} J rv q => ⟨v, H', J.os, J.bare, J.base, J.bA, rv, q⟩
 cases fl with
 | ret u =>
   obtain ⟨v, σ', H', J, rv, q⟩ := hs
   exact fin J rv q
 | next =>
   obtain ⟨σ', H', J, q⟩ := hs
   exact fin (v := V.aT) (u := Value.none) J rfl q
 | brk =>
   obtain ⟨_, _, _, q⟩ := hs
   exact False.elim q
 | cont =>
   obtain ⟨_, _, _, q⟩ := hs
   exact False.elim q
section
variable {X : Cx} {x : Str} {p pos : Pos} {e : Expr} {es : List Expr} {t : TA} {id T : String} {r : List V -> Hp -> VK -> Prop}
def tCB (r : List V -> Hp -> VK -> Prop) (t : TA) : TE := fun σ H Q => t σ H fun vs H1 => r vs H1 Q
theorem bw (hc : iS X (.builtin id) r) (hg : Gl X x) (hm : X.mg x = none) (hv : bootBuiltins x = some (.builtin id)) (ha : PA X (e :: es) t) (hn : x ≠ "__name__" := by decide) (zp : (x == ("__debug__" : Str)) = false := by decide)
 (he : starEach (e :: es) X.env = (false, eval e X.env) :: starEach es X.env := by rfl) (Bv : (backTo pos (starEach es X.env)).any (·.1) = false := by rfl) : PE X (.Call (.Name x p) (e :: es) [] pos) (tCB r t) := by
 intro pins s σ H Q I h
 refine wpAny_Call_Name_kw (BD I hg hm hv ?_ hn zp)
 exact PyProof.Rows.callWith_builtin1 (dj (ha pos pins s σ H _ I h) fun us s1 ⟨vs, H1, I1, r1, q1⟩ => hc pins s1 σ H1 vs us Q I1 r1 q1) he Bv
theorem B3 (hc : iS X (.type T) r) (hg : Gl X x) (hm : X.mg x = none) (hv : bootBuiltins x = some (.type T)) (ha : PA X (e :: es) t) (hn : x ≠ "__name__" := by decide) (zp : (x == ("__debug__" : Str)) = false := by decide)
 (he : starEach (e :: es) X.env = (false, eval e X.env) :: starEach es X.env := by rfl) (Bv : (backTo pos (starEach es X.env)).any (·.1) = false := by rfl) : PE X (.Call (.Name x p) (e :: es) [] pos) (tCB r t) := by
 intro pins s σ H Q I h
 refine wpAny_Call_Name_kw (BD I hg hm hv ?_ hn zp)
 exact PyProof.Rows.callWith_type1 (dj (ha pos pins s σ H _ I h) fun us s1 ⟨vs, H1, I1, r1, q1⟩ => hc pins s1 σ H1 vs us Q I1 r1 q1) he Bv
end
end L2
namespace HT
open PySem PyProof.Rows
section
open PySem.SeqAt
open PySem.AutoSeq1 (wpAny_loadPart')
open PySem.MeetsSeq PySem.MeetsSeq2 PySem.MeetsSeq3
end
section
variable {prog : Program} {w : World} {A : Around} {E : Value -> Shared -> Prop} {s : Shared}
end
end HT
namespace L2
open PySem PySem.Spec PyProof.Rows
abbrev TO := St -> Hp -> (Option Int -> Hp -> Prop) -> Prop
section
variable {X : Cx} {e : Expr} {te : TE} {lo hi : Option Expr} {tl th : TO} {pos p2 : Pos}
end
def VN (n : Nat) (i : Int) : Option Nat := if 0 <= i then (if i < n then some i.toNat else none) else if -(n : Int) <= i then some (i + n).toNat else none
def Hx {α : Type} (xs : List α) (i : Int) : Option α := (VN xs.length i).bind fun j => xs[j]?
theorem Rp {n : Nat} {i : Int} {j : Nat} (h : VN n i = some j) : seqIndex? i n = some j /\ j < n /\ -(n : Int) <= i /\ i < n := by
 unfold VN at h
 by_cases h0 : 0 <= i
 . rw [if_pos h0] at h
   by_cases h1 : i < n
   . rw [if_pos h1] at h
     have e : i.toNat = j := Option.some.inj h
     exact ⟨by rw [seqIndex_of h0 h1, e], by omega, by omega, h1⟩
   . rw [if_neg h1] at h; cases h
 . rw [if_neg h0] at h
   by_cases h1 : -(n : Int) <= i
   . rw [if_pos h1] at h
     have e : (i + n).toNat = j := Option.some.inj h
     exact ⟨by rw [seqIndex_neg (by omega) h1, e], by omega, h1, by omega⟩
   . rw [if_neg h1] at h; cases h
theorem Hh {α : Type} {xs : List α} {i : Int} {v : α} (h : Hx xs i = some v) : ∃ j, seqIndex? i xs.length = some j /\ xs[j]? = some v /\ j < xs.length /\ -(xs.length : Int) <= i /\ i < xs.length := by
 unfold Hx at h
 cases e : VN xs.length i with
 | none => rw [e] at h; cases h
 | some j =>
   rw [e] at h
   obtain ⟨h1, h2, h3, h4⟩ := Rp e
   exact ⟨j, h1, h, h2, h3, h4⟩
theorem Hu {α : Type} {xs : List α} {j : Nat} {v : α} (h : xs[j]? = some v) : Hx xs (j : Int) = some v := by
 have hj : j < xs.length := (List.getElem?_eq_some_iff.mp h).1
 have e : VN xs.length (j : Int) = some j := by
  unfold VN
  rw [if_pos (by omega), if_pos (by omega)]; simp
 unfold Hx; rw [e]; exact h
def Sq (b : Expr) : Prop := ∀ o i, subscripted b false o i = operate [o, i] (getItem o i)
def NK (X : Cx) (r : R2) : Prop :=
 ∀ (value slice : Expr) (pins : List (Addr × Obj)) (s : Shared) (σ : St) (H : Hp) (x y : V) (v u : Value) (Q : VK), Inv X pins σ H s -> RelV x v -> RelV y u -> r x y H Q ->
   subscripted slice false v u = operate [v, u] (getItem v u) -> wpAny (model X.prog X.w) X.A (subscriptTail value slice v u) (EP X pins σ Q) X.xe s
def MtR (X : Cx) (id : String) (r : V -> List V -> Hp -> VK -> Prop) : Prop :=
 ∀ (pins : List (Addr × Obj)) (s : Shared) (σ : St) (H : Hp) (x : V) (xs : List V) (v : Value) (us : List Value) (Q : VK), Inv X pins σ H s -> RelV x v -> Vals xs us -> r x xs H Q ->
   wpAny (model X.prog X.w) X.A (call (.builtin id) (v :: us)) (EP X pins σ Q) X.xe s
section
variable {X : Cx} {a b : Expr} {ta tb : TE} {pos : Pos}
theorem NK.or {r r' : R2} (h : NK X r) (h' : NK X r') : NK X (fun x y H Q => r x y H Q \/ r' x y H Q) := by
 intro value slice pins s σ H x y v u Q I rx ry q hs
 rcases q with q | q
 . exact h value slice pins s σ H x y v u Q I rx ry q hs
 . exact h' value slice pins s σ H x y v u Q I rx ry q hs
theorem aP {r : R2} (hr : NK X r) (ha : PE X a ta) (hb : PE X b tb) (hs : Sq b) : PE X (.Subscript a b pos) (Zw r ta tb) := by
 intro pins s σ H Q I h
 exact Subscript_ (WK ha hb I h fun v u s2 x y H2 I2 rx ry q => hr a b pins s2 σ H2 x y v u Q I2 rx ry q (hs _ _))
def WZ (K : PySem.W.Frag) : R2 := fun x y H Q => ∃ p xs i v, x = .ref p /\ y = .int i /\ i9 K H p xs /\ Hx xs i = some v /\ Q v H
def ZN (K : PySem.W.Frag) : R2 := fun x y H Q => ∃ p xs i v, x = .ref p /\ y = .int i /\ Fp K H p xs /\ Hx xs i = some v /\ Q v H
def VM : R2 := fun x y H Q => ∃ z i c, x = .str z /\ y = .int i /\ z.length <= sizeLine /\ Hx z.cps.toList i = some c /\ Q (.str ⟨#[c]⟩) H
theorem Lr : NK X (WZ X.K) := by
 intro value slice pins s σ H x y v u Q I rx ry h hs
 obtain ⟨p, xs, i, z, rfl, rfl, hq, he, q⟩ := h
 cases rx
 obtain ⟨t, rfl⟩ := ry
 obtain ⟨b4, r, pl, hz⟩ := I.list hq
 obtain ⟨j, h1, h2, h3, h4, h5⟩ := Hh he
 obtain ⟨w, ew, Nu⟩ := r.get h2
 have hl := r.length
 have hn := CB
 have fin : EP X pins σ Q w s := ⟨z, H, I, Nu, q⟩
 by_cases h0 : 0 <= i
 . have hj : i.toNat = j := by
    rw [seqIndex_of h0 h5] at h1
    exact Option.some.inj h1
   exact item_listR pl.isList h0 (by omega) (by rw [hj]; simpa using ew) fin hs
 . have hj : (i + (b4.toArray.size : Int)).toNat = j := by
    rw [seqIndex_neg (by omega) h4] at h1
    rw [List.size_toArray, <- hl]
    exact Option.some.inj h1
   exact subscriptTail_builtinR (x := w) pl.isList.typeIs slot_list_getitem.lookup
    (wpAny_getItem_list_neg (Q := fun r s' => r = w /\ EP X pins σ Q r s') pl.isList (by omega) (by rw [List.size_toArray] <;> omega) (by omega) (by rw [hj]; simpa using ew) ⟨rfl, fin⟩) hs
theorem W5 : NK X (ZN X.K) := by
 intro value slice pins s σ H x y v u Q I rx ry h hs
 obtain ⟨p, xs, i, z, rfl, rfl, hq, he, q⟩ := h
 cases rx
 obtain ⟨t, rfl⟩ := ry
 obtain ⟨b4, r, pl, hz⟩ := I.tuple hq
 obtain ⟨j, h1, h2, h3, h4, h5⟩ := Hh he
 obtain ⟨w, ew, Nu⟩ := r.get h2
 have hl := r.length
 have hn := CB
 have fin : EP X pins σ Q w s := ⟨z, H, I, Nu, q⟩
 exact subscriptTail_builtinR (x := w) pl.typeIs slot_tuple_getitem.lookup
  (getItem_tuple (j := j) (Q := fun r s' => r = w /\ EP X pins σ Q r s') pl (by omega) (by omega) (by rw [List.size_toArray, <- hl]; exact h1) (by simpa using ew) ⟨rfl, fin⟩) hs
theorem Ws : NK X VM := by
 intro value slice pins s σ H x y v u Q I rx ry h hs
 obtain ⟨z, i, c, rfl, rfl, hz, he, q⟩ := h
 obtain ⟨t, rfl⟩ := rx
 obtain ⟨t', rfl⟩ := ry
 obtain ⟨j, h1, h2, h3, h4, h5⟩ := Hh he
 have hl : z.cps.toList.length = z.length := by simp [Str.length]
 rw [hl] at h1 h4 h5
 have hn := CB
 exact tail_any (typeIs_str s z t) slot_str_getitem.lookup (getItem_str (c := c) (by
  have e1 : decide (i < -(2 ^ 63 : Int)) = false := decide_eq_false (by omega)
  have e2 : decide (i ≥ 2 ^ 63) = false := decide_eq_false (by omega)
  rw [e1, e2, Bool.or_false]) (by rw [h1]; simpa using h2) ⟨.str ⟨#[c]⟩, H, I.tok _, ⟨_, rfl⟩, q⟩) hs
def rIx (K : PySem.W.Frag) : R2 := fun x y H Q => WZ K x y H Q \/ ZN K x y H Q \/ VM x y H Q
theorem Ww : NK X (rIx X.K) := Lr.or (W5.or Ws)
theorem p9 : iS X (.builtin "len") (fun xs H Q => ∃ p ys, xs = [.ref p] /\ (i9 X.K H p ys \/ Fp X.K H p ys) /\ Q (.int ys.length) H) := by
 intro pins s σ H xs us Q I r h
 obtain ⟨p, ys, rfl, hq, q⟩ := h
 obtain ⟨u, rfl, rx⟩ := vals1 r
 cases rx
 have hn := CB
 rcases hq with hq | hq
 . obtain ⟨b4, r', pl, hz⟩ := I.list hq
   have hlen := r'.length
   exact Calls.call_len_list pl.isList (by simp only [List.size_toArray] <;> omega) ⟨.int ys.length, H, I.tok _, ⟨s.toks + 1, by rw [List.size_toArray, hlen]⟩, q⟩
 . obtain ⟨b4, r', pl, hz⟩ := I.tuple hq
   have hlen := r'.length
   exact len_tuple pl (by simp only [List.size_toArray] <;> omega) ⟨.int ys.length, H, I.tok _, ⟨s.toks + 1, by rw [List.size_toArray, hlen]⟩, q⟩
theorem Hq : iS X (.builtin "len") (fun xs H Q => ∃ z, xs = [.str z] /\ z.length <= sizeLine /\ Q (.int z.length) H) := by
 intro pins s σ H xs us Q I r h
 obtain ⟨z, rfl, hz, q⟩ := h
 obtain ⟨u, rfl, t, rfl⟩ := vals1 r
 have hn := CB
 exact len_str (by omega) ⟨.int z.length, H, I.tok _, ⟨_, rfl⟩, q⟩
def X0 (K : PySem.W.Frag) (T : String) (x : V) (H : Hp) : Prop := match x with
 | .str _ => T = "str"
 | .int _ => T = "int"
 | .ref p => (T = "list" /\ ∃ xs, i9 K H p xs) \/ (T = "tuple" /\ ∃ o, K.lookup p = some o /\ o.cls = .type "tuple" /\ o.dict = none) \/
  (T = "dict" /\ ((∃ kvs, H p = some (.dK kvs)) \/ ∃ kvs, H p = some (.dT kvs))) \/ (T = "set" /\ ∃ S n, H p = some (.set S n))
 | _ => False
theorem J2 {pins : List (Addr × Obj)} {σ : St} {H : Hp} {s : Shared} {T : String} {x : V} {v : Value} (I : Inv X pins σ H s) (r : RelV x v) (ty : X0 X.K T x H) :
 s.TypeIs v T /\ ∀ a, v = .ref a -> ∃ ob, s.heap.get? a = some ob /\ ob.dict = none := by
 cases x with
 | str z =>
   obtain ⟨t, rfl⟩ := r
   cases (show T = "str" from ty)
   exact ⟨typeIs_str s z t, fun _ e => nomatch e⟩
 | int i =>
   obtain ⟨t, rfl⟩ := r
   cases (show T = "int" from ty)
   exact ⟨typeIs_int s i t, fun _ e => nomatch e⟩
 | ref p =>
   cases r
   rcases ty with ⟨rfl, xs, hq⟩ | ⟨rfl, o, hk, hc, hd⟩ | ⟨rfl, hk⟩ | ⟨rfl, S, n, hk⟩
   . obtain ⟨b4, _, pl, _⟩ := I.list hq
     refine ⟨pl.isList.typeIs, fun a e => ?_⟩
     cases e
     obtain ⟨o, n, e, c, hd, _⟩ := pl
     exact ⟨o, e, hd⟩
   . refine ⟨⟨o, I.AB p o hk, hc⟩, fun a e => ?_⟩
     cases e
     exact ⟨o, I.AB _ o hk, hd⟩
   . have z : ∃ o, s.heap.get? p = some o /\ o.ExactDict := by
      rcases hk with ⟨kvs, hk⟩ | ⟨kvs, hk⟩
      . obtain ⟨_, _, _, _, o, _, _, e, ex, _⟩ := I.bA p _ hk
        exact ⟨o, e, ex⟩
      . obtain ⟨_, _, _, _, o, _, _, e, ex, _⟩ := I.bA p _ hk
        exact ⟨o, e, ex⟩
     obtain ⟨o, e, ex⟩ := z
     refine ⟨⟨o, e, ex.1⟩, fun a e2 => ?_⟩
     cases e2
     exact ⟨o, e, ex.2.1⟩
   . obtain ⟨o, _, _, _, e, ex, _⟩ := I.bA p _ hk
     refine ⟨⟨o, e, ex.1⟩, fun a e2 => ?_⟩
     cases e2
     exact ⟨o, e, ex.2.1⟩
 | _ => exact False.elim ty
def tBM (K : PySem.W.Frag) (T : String) (r : V -> List V -> Hp -> VK -> Prop) (to : TE) (t : TA) : TE := fun σ H Q => to σ H fun x H1 => X0 K T x H1 /\ t σ H1 fun xs H2 => r x xs H2 Q
variable {o e : Expr} {es : List Expr} {to : TE} {t : TA} {name : Str} {apos fU : Pos} {T id : String} {r : V -> List V -> Hp -> VK -> Prop}
theorem Il (pa : PlainAttrs T) (slot : Slot T name id) (hty : typeOf (.builtin id) = pure (.type "method_descriptor")) (hm : MtR X id r) (ho : PE X o to) (ha : PA X (e :: es) t)
 (IT : attributeBase o name X.env (eval o X.env) = eval o X.env := by rfl)
 (abR : ((backTo fU (starEach (e :: es) X.env)).all (fun x => !x.1) && (backToKw fU (keywordEach [] X.env)).all (fun x => x.1.isSome)
  && decide ((e :: es).length + ([] : List Keyword).length + (if ([] : List Keyword).isEmpty then 0 else 1) < 30)) = true := by rfl)
 (hline : (apos.endLine == fU.line) = true := by rfl) (hs : starEach (e :: es) X.env = (false, eval e X.env) :: starEach es X.env := by rfl) (WD : (backTo fU (starEach es X.env)).any (·.1) = false := by rfl) :
 PE X (.Call (.Attribute o name apos) (e :: es) [] fU) (tBM X.K T r to t) := by
 intro pins s σ H Q I h
 refine wpAny_Call_method_late IT abR hline rfl (dj (ho pins s σ H _ I h) fun v s1 ⟨x, H1, I1, r1, ty, q1⟩ => ?_)
 obtain ⟨h1, h2⟩ := J2 I1 r1 ty
 refine ⟨T, id, pa, slot, hty, h1, h2, ?_⟩
 have hA := ha fU pins s1 σ H1 _ I1 q1
 rw [hs] at hA ⊢
 refine Calls.callWith_builtin (by show (false || (backTo fU (starEach es X.env)).any (·.1)) = false; rw [WD] <;> rfl) (Calls.evalArgs_plain ?_)
 exact dj hA fun us s2 ⟨vs, H2, I2, r2, q2⟩ => hm pins s2 σ H2 x vs v us Q I2 r1 r2 q2
end
def MtM (X : Cx) (id : String) (r : V -> List V -> Hp -> VK -> Prop) : Prop :=
 ∀ (pins : List (Addr × Obj)) (s : Shared) (σ : St) (H : Hp) (x : V) (xs : List V) (v : Value) (us : List Value) (Q : VK), Inv X pins σ H s -> RelV x v -> Vals xs us -> r x xs H Q ->
   wpAny (model X.prog X.w) X.A (call (.builtin id) (v :: us)) (EP X pins σ Q) X.xe s
theorem Vals.one : ∀ {x : V} {us : List Value}, Vals [x] us -> ∃ u, us = [u] /\ RelV x u
 | _, _, .cons r .nil => ⟨_, rfl, r⟩
section
variable {X : Cx} {pins : List (Addr × Obj)} {σ : St} {H : Hp} {s : Shared} {l b : Addr} {xs ys zs : List V}
theorem Inv.acW {b4 its' : List Value} {n : Nat} {f : Array Value -> Array Value} {t' : Nat} (I : Inv X pins σ H s) (hH : H l = some (.lst xs))
 (e : s.heap.get? l = some { cls := .type "list", data := .seq b4.toArray n }) (hf : f b4.toArray = its'.toArray) (hv : Vals ys its') (hz : ys.length <= sizeLine) :
 Inv X pins σ (upd H l (.lst ys)) { s with heap := s.heap.update l (Obj.mapSeq f), toks := t' } := by
 have q := PySem.IsL.update e f
 rw [hf] at q
 refine I.write (x := l) (e := l) (by rw [hH]; exact trivial) (.inl rfl) (fun b' u hb hu => (Heap.get?_update_other s.heap (Obj.mapSeq f) (Ne.symm hb)).trans hu) ⟨_, q⟩ ?_
 exact ⟨hz, its', _, hv, q⟩
theorem Inv.ab4 {b4 : List Value} {t' : Nat} (I : Inv X pins σ H s) (hv : Vals ys b4) (hz : ys.length <= sizeLine) :
 Inv X pins σ (upd H s.heap.objs.size (.lst ys)) { s with heap := s.heap.push { cls := .type "list", data := .seq b4.toArray }, toks := t' } :=
 I.laid (fun _ _ q => Heap.get?_push_of_some _ q) (Nat.le_refl _) ⟨hz, b4, 0, hv, Heap.get?_push_size _ rfl⟩
theorem Inv.fresh (I : Inv X pins σ H s) : H s.heap.objs.size = none := I.bA.fresh (Nat.le_refl _)
theorem Inv.RM (I : Inv X pins σ H s) (hH : H l = some (.lst xs)) : xs.length <= sizeLine /\ ∃ (b4 : List Value) (n : Nat), Vals xs b4 /\ xs.length = b4.length /\ s.heap.get? l = some { cls := .type "list", data := .seq b4.toArray n } := by
 obtain ⟨z, b4, n, r, e⟩ := I.bA l _ hH
 exact ⟨z, b4, n, r, r.length, e⟩
theorem N4 {n : Nat} (h : n <= sizeLine) : Builtin.List.listTooLong n = false := by
 unfold Builtin.List.listTooLong
 exact decide_eq_false (by omega)
end
section
variable {X : Cx}
def KN : V -> List V -> Hp -> VK -> Prop := fun x vs H Q => ∃ l b xs zs, x = .ref l /\ vs = [.ref b] /\ H l = some (.lst xs) /\ H b = some (.lst zs) /\ xs.length + zs.length <= sizeLine /\ Q .aT (upd H l (.lst (xs ++ zs)))
theorem Mr : MtM X "list.extend" KN := by
 intro pins s σ H x vs v us Q I rx rv h
 obtain ⟨l, b, xs, zs, rfl, rfl, hH, hB, hz, q⟩ := h
 cases rx
 obtain ⟨u, rfl, ru⟩ := rv.one
 cases ru
 obtain ⟨z, b4, n, r, hl, e⟩ := I.RM hH
 obtain ⟨z2, JY, n2, r2, hl2, e2⟩ := I.RM hB
 have hsz : b4.toArray.size + JY.toArray.size <= sizeLine := by rw [List.size_toArray, List.size_toArray]; omega
 have Y8 : ¬ (!b4.toArray.isEmpty && Builtin.List.listTooLong (b4.toArray.size + JY.toArray.size)) = true := by
  rw [N4 hsz, Bool.and_false]
  exact Bool.false_ne_true
 refine call_meets F.slot_list_extend ⟨_, e, rfl⟩ F.entry_list_extend (F.args_list_extend_2 _ _)
  (AutoSeq1.list_extend_list_list_0 l b4.toArray n b JY.toArray n2 Y8 (by rw [List.size_toArray]; omega) (by omega)) ⟨e, e2, ?_⟩
 refine ⟨.aT, _, I.acW (its' := b4 ++ JY) hH e (by simp) (r.append r2) ?_, rfl, q⟩
 rw [List.length_append]
 omega
def Y7 : R2 := fun x y H Q => ∃ l b xs zs, x = .ref l /\ y = .ref b /\ H l = some (.lst xs) /\ H b = some (.lst zs) /\ xs.length + zs.length <= sizeLine /\ ∀ p, H p = none -> Q (.ref p) (upd H p (.lst (xs ++ zs)))
theorem VC : Bw X (binaryOp .Add) Y7 := by
 intro pins s σ H x y v u Q I rx ry h
 obtain ⟨l, b, xs, zs, rfl, rfl, hH, hB, hz, q⟩ := h
 cases rx
 cases ry
 obtain ⟨z, b4, n, r, hl, e⟩ := I.RM hH
 obtain ⟨z2, JY, n2, r2, hl2, e2⟩ := I.RM hB
 refine PySem.P.add_list e e2 ?_ (by rw [List.size_toArray, List.size_toArray]; omega)
 have ea : b4.toArray ++ JY.toArray = (b4 ++ JY).toArray := by simp
 rw [ea]
 exact ⟨.ref _, _, I.ab4 (t' := s.toks) (r.append r2) (by rw [List.length_append]; omega), rfl, q _ I.fresh⟩
end
section
variable {prog : Program} {w : World} {A : Around} {E : Value -> Shared -> Prop} {s : Shared}
set_option maxRecDepth 100000 in
end
section
variable {X : Cx}
end
section
variable {κ : Type} [DecidableEq κ]
def nr (kvs : List (κ × V)) (k : κ) : Option V := (kvs.find? fun kv => decide (kv.1 = k)).map (·.2)
def putK (kvs : List (κ × V)) (k : κ) (v : V) : List (κ × V) :=
 if (kvs.any fun kv => decide (kv.1 = k)) = true then kvs.map (fun kv => if kv.1 = k then (kv.1, v) else kv) else kvs ++ [(k, v)]
def qp (kvs : List (κ × V)) (k : κ) : List (κ × V) := kvs.filter fun kv => decide (kv.1 ≠ k)
theorem tF {p : κ × V} {r : List (κ × V)} {k : κ} (e : p.1 = k) : nr (p :: r) k = some p.2 := by simp [nr, List.find?_cons, e]
theorem nW {p : κ × V} {r : List (κ × V)} {k : κ} (e : ¬ p.1 = k) : nr (p :: r) k = nr r k := by simp [nr, List.find?_cons, e]
theorem Eb (k : κ) : ∀ kvs : List (κ × V), (kvs.any fun kv => decide (kv.1 = k)) = (nr kvs k).isSome
 | [] => rfl
 | p :: r => by
   rw [List.any_cons]
   by_cases e : p.1 = k
   . simp only [tF e, decide_eq_true e, Bool.true_or, Option.isSome_some]
   . rw [nW e, decide_eq_false e, Bool.false_or]; exact Eb k r
theorem C3 (kvs : List (κ × V)) (k : κ) (v : V) : (putK kvs k v).length <= kvs.length + 1 := by
 unfold putK
 split
 . rw [List.length_map]; omega
 . rw [List.length_append, List.length_cons, List.length_nil]; omega
theorem pS.nF {o : Option V} {u : Option Value} (r : pS o u) : o.isSome = u.isSome := by
 cases o with
 | none => cases u with
   | none => rfl
   | some _ => exact (show False from r).elim
 | some _ => cases u with
   | none => exact (show False from r).elim
   | some _ => rfl
theorem pS.getD {o : Option V} {u : Option Value} {d : V} {d' : Value} (r : pS o u) (rd : RelV d d') : RelV (o.getD d) (u.getD d') := by
 cases o with
 | none => cases u with
   | none => exact rd
   | some _ => exact (show False from r).elim
 | some _ => cases u with
   | none => exact (show False from r).elim
   | some _ => exact r
theorem KV.val {kvs : List (κ × V)} {vs : List (κ × Value)} (r : KV kvs vs) (k : κ) : pS (nr kvs k) (valueAt vs k) := by
 unfold KV at r
 induction r with
 | nil => exact True.intro
 | @cons p q ps qs h t ih =>
   obtain ⟨h1, h2⟩ := h
   by_cases e : p.1 = k
   . have e' : q.1 = k := h1.symm.trans e
     have b : valueAt (q :: qs) k = some q.2 := by simp [valueAt, List.find?_cons, e']
     rw [tF e, b]; exact h2
   . have e' : ¬ q.1 = k := fun z => e (h1.trans z)
     have b : valueAt (q :: qs) k = valueAt qs k := by simp [valueAt, List.find?_cons, e']
     rw [nW e, b]; exact ih
theorem KV.any {kvs : List (κ × V)} {vs : List (κ × Value)} (r : KV kvs vs) (k : κ) : (kvs.any fun kv => decide (kv.1 = k)) = vs.any fun kv => decide (kv.1 = k) := by
 unfold KV at r
 induction r with
 | nil => rfl
 | cons h t ih => rw [List.any_cons, List.any_cons, ih, h.1]
theorem KV.repl {kvs : List (κ × V)} {vs : List (κ × Value)} (r : KV kvs vs) (k : κ) {y : V} {u : Value} (ry : RelV y u) :
 KV (kvs.map fun kv => if kv.1 = k then (kv.1, y) else kv) (vs.map fun kv => if kv.1 = k then (kv.1, u) else kv) := by
 unfold KV at r ⊢
 induction r with
 | nil => exact .nil
 | @cons p q ps qs h t ih =>
   rw [List.map_cons, List.map_cons]
   refine .cons ?_ ih
   obtain ⟨h1, h2⟩ := h
   by_cases e : p.1 = k
   . rw [if_pos e, if_pos (h1.symm.trans e)]; exact ⟨h1, ry⟩
   . rw [if_neg e, if_neg (fun z => e (h1.trans z))]; exact ⟨h1, h2⟩
theorem KV.put {kvs : List (κ × V)} {vs : List (κ × Value)} (r : KV kvs vs) (k : κ) {y : V} {u : Value} (ry : RelV y u) : KV (putK kvs k y) (stored vs k u) := by
 unfold putK stored
 rw [r.any k]
 by_cases e : (vs.any fun kv => decide (kv.1 = k)) = true
 . rw [if_pos e, if_pos e]; exact r.repl k ry
 . rw [if_neg e, if_neg e]; exact Paired.snoc r ⟨rfl, ry⟩
theorem KV.drop {kvs : List (κ × V)} {vs : List (κ × Value)} (r : KV kvs vs) (k : κ) : KV (qp kvs k) (without vs k) := by
 unfold KV at r ⊢
 unfold qp without
 induction r with
 | nil => exact .nil
 | @cons p q ps qs h t ih =>
   obtain ⟨h1, h2⟩ := h
   rw [List.filter_cons, List.filter_cons]
   by_cases e : p.1 = k
   . have a : ¬ decide (p.1 ≠ k) = true := by simp [e]
     have b : ¬ decide (q.1 ≠ k) = true := by simp [h1.symm.trans e]
     rw [if_neg a, if_neg b]; exact ih
   . have e' : ¬ q.1 = k := fun z => e (h1.trans z)
     have a : decide (p.1 ≠ k) = true := by simp [e]
     have b : decide (q.1 ≠ k) = true := by simp [e']
     rw [if_pos a, if_pos b]; exact .cons ⟨h1, h2⟩ ih
theorem KV.length {kvs : List (κ × V)} {vs : List (κ × Value)} (r : KV kvs vs) : kvs.length = vs.length := Paired.length r
theorem NR (kvs : List (κ × V)) (k : κ) : (qp kvs k).length <= kvs.length := List.length_filter_le _ _
end
theorem EF {P : Program} {w : World} {k : Key} {u : Value} (r : RelV (kV k) u) : (aU P w).is k u = true := by
 cases k with
 | inl i => obtain ⟨t, e⟩ := (show ∃ t, u = Value.int i t from r); subst e; exact Im P w i t
 | inr x => obtain ⟨t, e⟩ := (show ∃ t, u = Value.str x t from r); subst e; exact IA P w x t
theorem FU {P : Program} {w : World} : ∀ {ks : List Key} {us : List Value}, Vals (ks.map kV) us -> ItemsAre (aU P w) ks us
 | [], _, r => by rw [List.map_nil] at r; cases r; exact .nil
 | k :: ks, _, r => by
   rw [List.map_cons] at r
   cases r with
   | cons h t => exact .cons (EF h) (FU t)
abbrev KT (H : Hp) : List (List Key × V) -> List (List Key × Addr × Value) -> Prop := Paired fun p q => p.1 = q.1 /\ H q.2.1 = some (.tup (p.1.map kV)) /\ RelV p.2 q.2.2
theorem KT.val {H : Hp} {kvs : List (List Key × V)} {xs : List (List Key × Addr × Value)} (r : KT H kvs xs) (k : List Key) : pS (nr kvs k) ((atKey xs k).map (·.2)) := by
 induction r with
 | nil => exact True.intro
 | @cons p q ps qs h t ih =>
   obtain ⟨h1, _, h2⟩ := h
   by_cases e : p.1 = k
   . have e' : q.1 = k := h1.symm.trans e
     have b : atKey (q :: qs) k = some q.2 := by simp [atKey, List.find?_cons, e']
     rw [tF e, b]; exact h2
   . have e' : ¬ q.1 = k := fun z => e (h1.trans z)
     have b : atKey (q :: qs) k = atKey qs k := by simp [atKey, List.find?_cons, e']
     rw [nW e, b]; exact ih
theorem KT.repl {H : Hp} {kvs : List (List Key × V)} {xs : List (List Key × Addr × Value)} (r : KT H kvs xs) (k : List Key) {y : V} {u : Value} (ry : RelV y u) :
 KT H (kvs.map fun kv => if kv.1 = k then (kv.1, y) else kv) (xs.map (putAt k u)) := by
 induction r with
 | nil => exact .nil
 | @cons p q ps qs h t ih =>
   rw [List.map_cons, List.map_cons]
   refine .cons ?_ ih
   obtain ⟨h1, h2, h3⟩ := h
   unfold putAt
   by_cases e : p.1 = k
   . rw [if_pos e, if_pos (h1.symm.trans e)]; exact ⟨h1, h2, ry⟩
   . rw [if_neg e, if_neg (fun z => e (h1.trans z))]; exact ⟨h1, h2, h3⟩
theorem KT.put {H : Hp} {kvs : List (List Key × V)} {xs : List (List Key × Addr × Value)} (r : KT H kvs xs) (k : List Key) {b : Addr} {y : V} {u : Value} (hb : H b = some (.tup (k.map kV))) (ry : RelV y u) :
 KT H (putK kvs k y) (storedH xs k b u) := by
 have e : (kvs.any fun kv => decide (kv.1 = k)) = (atKey xs k).isSome := by
  rw [Eb, (r.val k).nF, Option.isSome_map]
 unfold putK storedH
 rw [e]
 by_cases q : (atKey xs k).isSome = true
 . rw [if_pos q, if_pos q]; exact r.repl k ry
 . rw [if_neg q, if_neg q]; exact Paired.snoc r ⟨rfl, hb, ry⟩
theorem KT.keeps {H H' : Hp} {kvs : List (List Key × V)} {xs : List (List Key × Addr × Value)} (r : KT H kvs xs) (ht : ∀ b ys, H b = some (.tup ys) -> H' b = some (.tup ys)) : KT H' kvs xs :=
 Paired.Vm r fun _ _ z => ⟨z.1, ht _ _ z.2.1, z.2.2⟩
section
variable {P : Program} {w : World} {H : Hp} {h : Heap} {a : Addr}
theorem Ud {u : HO} (ok : pQ P w H h) (e : Rd H a u) : cH P w H h a u := e.ok ok
theorem E4 {kvs : List (Key × V)} (ok : pQ P w H h) (e : Rd H a (.dK kvs)) : kvs.length <= sizeLine /\ (a == sysModules) = false /\ ∃ vs, KV kvs vs /\ h.DictOf (aU P w) a vs :=
 show cH P w H h a (.dK kvs) from Ud ok e
theorem UB {kvs : List (Key × V)} (ok : pQ P w H h) (e : H a = some (.dK kvs)) : kvs.length <= sizeLine /\ (a == sysModules) = false /\ ∃ vs, KV kvs vs /\ h.DictOf (aU P w) a vs := E4 ok (.inl e)
theorem B1 {ks : List Key} (ok : pQ P w H h) (e : H a = some (.tup (ks.map kV))) : (tupleKind (aU P w)).is h ks a := by
 obtain ⟨_, b4, r, o, h1, h2, n, h3⟩ := (show cH P w H h a (.tup (ks.map kV)) from ok a _ e)
 exact ⟨o, b4.toArray, n, h1, h2, h3, by simpa using FU r⟩
theorem DZ {kvs : List (List Key × V)} (ok : pQ P w H h) (e : Rd H a (.dT kvs)) : kvs.length <= sizeLine /\ (a == sysModules) = false /\
 ∃ xs, KT H kvs xs /\ h.DictOfH (tupleKind (aU P w)) a xs := by
 obtain ⟨z, y, xs, r, o, es, ep, h1, h2, h3, h4, h5⟩ := (show cH P w H h a (.dT kvs) from Ud ok e)
 refine ⟨z, y, xs, r, o, es, ep, h1, h2, h3, h4, fun x hx => ?_, h5⟩
 have all : ∀ {l : List (List Key × V)} {m : List (List Key × Addr × Value)}, KT H l m -> ∀ x ∈ m, (tupleKind (aU P w)).is h x.1 x.2.1 := by
  intro l m q
  induction q with
  | nil => intro x hx; exact nomatch hx
  | @cons p q ps qs hq t ih =>
    intro x hx
    rcases List.mem_cons.mp hx with e | hx
    . subst e
      exact B1 ok (by rw [<- hq.1]; exact hq.2.1)
    . exact ih x hx
 exact all r x hx
theorem Y6 {kvs : List (List Key × V)} (ok : pQ P w H h) (e : H a = some (.dT kvs)) : kvs.length <= sizeLine /\ (a == sysModules) = false /\
 ∃ xs, KT H kvs xs /\ h.DictOfH (tupleKind (aU P w)) a xs := DZ ok (.inl e)
end
def hJ (H : Hp) (a : Addr) (y : V) (r : Option V) : Prop :=
 (∃ kvs k, Rd H a (.dK kvs) /\ y = kV k /\ r = nr kvs k) \/ ∃ kvs k b, Rd H a (.dT kvs) /\ y = .ref b /\ H b = some (.tup (k.map kV)) /\ r = nr kvs k
def GB (H : Hp) (a : Addr) (y v : V) (H' : Hp) : Prop :=
 (∃ kvs k, H a = some (.dK kvs) /\ y = kV k /\ kvs.length < sizeLine /\ H' = upd H a (.dK (putK kvs k v))) \/
 ∃ kvs k b, H a = some (.dT kvs) /\ y = .ref b /\ H b = some (.tup (k.map kV)) /\ kvs.length < sizeLine /\ H' = upd H a (.dT (putK kvs k v))
theorem hJ.k {H : Hp} {a : Addr} {kvs : List (Key × V)} {k : Key} (e : H a = some (.dK kvs)) : hJ H a (kV k) (nr kvs k) := .inl ⟨kvs, k, .inl e, rfl, rfl⟩
theorem GB.k {H : Hp} {a : Addr} {kvs : List (Key × V)} {k : Key} {v : V} (e : H a = some (.dK kvs)) (hl : kvs.length < sizeLine) : GB H a (kV k) v (upd H a (.dK (putK kvs k v))) := .inl ⟨kvs, k, e, rfl, hl, rfl⟩
section
variable {X : Cx} {pins : List (Addr × Obj)} {σ : St} {H : Hp} {s : Shared} {a : Addr} {y v : V} {u r : Value} {o : Option V} {A : Around} {E : Value -> Shared -> Prop}
theorem Inv.big (I : Inv X pins σ H s) : sysModules < s.heap.objs.size := by
 have h : mainGlobals < s.heap.objs.size := (I.mod.glob.keeps I.bk).lt
 exact Nat.lt_trans (by decide) h
theorem Mm {Q : Value -> Shared -> Prop} (hu : A.units + 1 < cLine) (I : Inv X pins σ H s) (g : hJ H a y (some v)) (ry : RelV y u) (h : ∀ w' s', Inv X pins σ H s' -> RelV v w' -> Q w' s') :
 wpAny (model X.prog X.w) A (getItem (.ref a) u) Q E s := by
 rcases g with ⟨kvs, k, e, ey, l⟩ | ⟨kvs, k, b, e, ey, eb, l⟩
 . subst ey
   obtain ⟨z, hd, vs, rel, dd⟩ := E4 I.bA e
   obtain ⟨w', hw, Nu⟩ := pS.some_of (v := v) (o := valueAt vs k) (by rw [l]; exact rel.val k)
   exact wpAny_getItem_of (EF ry) dd.mapOf hw (h w' _ (I.tok _) Nu)
 . subst ey
   cases (show u = Value.ref b from ry)
   obtain ⟨z, hd, xs, rel, dd⟩ := DZ I.bA e
   obtain ⟨w', hw, Nu⟩ := pS.some_of (v := v) (o := (atKey xs k).map (·.2)) (by rw [l]; exact rel.val k)
   obtain ⟨p, hp, UN⟩ := Option.map_eq_some_iff.mp hw
   refine wpAny_getItem_heap (tupleKind_room_in1 hu) (B1 I.bA eb) dd hp ?_
   rw [UN]
   exact h w' _ (I.tok _) Nu
theorem aaY {Q : Value -> Shared -> Prop} (hu : A.units + 1 < cLine) (I : Inv X pins σ H s) (g : hJ H a y o) (ry : RelV y u) (h : ∀ s', Inv X pins σ H s' -> Q (.bool o.isSome) s') :
 wpAny (model X.prog X.w) A (compareOp .In u (.ref a)) Q E s := by
 rcases g with ⟨kvs, k, e, ey, l⟩ | ⟨kvs, k, b, e, ey, eb, l⟩
 . subst ey
   obtain ⟨z, hd, vs, rel, dd⟩ := E4 I.bA e
   refine wpAny_in_of (EF ry) hd dd.mapOf ?_
   rw [<- (rel.val k).nF, <- l]
   exact h _ (I.tok _)
 . subst ey
   cases (show u = Value.ref b from ry)
   obtain ⟨z, hd, xs, rel, dd⟩ := DZ I.bA e
   refine wpAny_in_heap (tupleKind_room_in1 hu) (B1 I.bA eb) hd dd ?_
   have q := (rel.val k).nF
   rw [Option.isSome_map] at q
   rw [<- q, <- l]
   exact h _ (I.tok _)
theorem S8 {Q : Value -> Shared -> Prop} (hu : A.units + 1 < cLine) (I : Inv X pins σ H s) (g : hJ H a y o) (ry : RelV y u) (h : ∀ s', Inv X pins σ H s' -> Q (.bool (!o.isSome)) s') :
 wpAny (model X.prog X.w) A (compareOp .NotIn u (.ref a)) Q E s := by
 rcases g with ⟨kvs, k, e, ey, l⟩ | ⟨kvs, k, b, e, ey, eb, l⟩
 . subst ey
   obtain ⟨z, hd, vs, rel, dd⟩ := E4 I.bA e
   refine wpAny_notIn_of (EF ry) hd dd.mapOf ?_
   rw [<- (rel.val k).nF, <- l]
   exact h _ (I.tok _)
 . subst ey
   cases (show u = Value.ref b from ry)
   obtain ⟨z, hd, xs, rel, dd⟩ := DZ I.bA e
   refine wpAny_notIn_heap (tupleKind_room_in1 hu) (B1 I.bA eb) hd dd ?_
   have q := (rel.val k).nF
   rw [Option.isSome_map] at q
   rw [<- q, <- l]
   exact h _ (I.tok _)
theorem Hk {h' : Heap} {t' : Nat} {ob : HO} (I : Inv X pins σ H s) (mu : Za (H a)) (hs : Heap.SameBut a s.heap h') (he : ∃ q, h'.get? a = some q) (new : cH X.prog X.w (upd H a ob) h' a ob) :
 Inv X pins σ (upd H a ob) { s with heap := h', toks := t' } :=
 I.write (x := a) (e := a) mu (.inl rfl) (fun b q hb z => (hs.2 b hb).trans z) he new
theorem Qy {P : Program} {w : World} {H' : Hp} {h' : Heap} {kvs : List (Key × V)} {vs : List (Key × Value)} (z : kvs.length <= sizeLine) (hd : (a == sysModules) = false) (rel : KV kvs vs) (dd : h'.DictOf (aU P w) a vs) :
 cH P w H' h' a (.dK kvs) := ⟨z, hd, vs, rel, dd⟩
theorem Mu {H' : Hp} {Q : Unit -> Shared -> Prop} (hu : A.units + 1 < cLine) (I : Inv X pins σ H s) (g : GB H a y v H') (ry : RelV y u) (rv : RelV v r) (h : ∀ s', Inv X pins σ H' s' -> Q () s') :
 wpAny (model X.prog X.w) A (setItem (.ref a) u r) Q E s := by
 rcases g with ⟨kvs, k, e, ey, l, eH⟩ | ⟨kvs, k, b, e, ey, eb, l, eH⟩
 . subst ey eH
   obtain ⟨z, hd, vs, rel, dd⟩ := UB I.bA e
   have hz : vs.length <= sizeLine := by rw [<- rel.length]; exact z
   have hl : (putK kvs k v).length <= sizeLine := by have := C3 kvs k v; omega
   refine wpAny_setItem_pairs (hsz := hz) (EF ry) dd fun h' Xd hs => h _ ?_
   have he : ∃ q, h'.get? a = some q := let ⟨q, _, _, hq, _⟩ := Xd; ⟨q, hq⟩
   exact Hk I (by rw [e]; exact True.intro) hs he (Qy hl hd (rel.put k rv) Xd)
 . subst ey eH
   cases (show u = Value.ref b from ry)
   obtain ⟨z, hd, xs, rel, dd⟩ := Y6 I.bA e
   have hz : xs.length <= sizeLine := by rw [<- Paired.length rel]; exact z
   have hl : (putK kvs k v).length <= sizeLine := by have := C3 kvs k v; omega
   refine wpAny_setItem_heap (hsz := hz) (tupleKind_room_in1 hu) (B1 I.bA eb) dd fun h' Xd hs => h _ ?_
   obtain ⟨q, es, ep, hq, h2, h3, h4, _, h5⟩ := Xd
   refine Hk I (by rw [e]; exact True.intro) hs ⟨q, hq⟩ ⟨hl, hd, _, (rel.put k eb rv).keeps fun c ys ec => ?_, q, es, ep, hq, h2, h3, h4, h5⟩
   rw [av (jC ec e (fun z => nomatch z))]
   exact ec
end
section
variable {X : Cx} {pins : List (Addr × Obj)} {σ : St} {H : Hp} {s : Shared} {a : Addr} {kvs : List (Key × V)} {k : Key} {u : Value} {A : Around} {E : Value -> Shared -> Prop}
theorem YT {v : V} {more : List Value} {Q : Value -> Shared -> Prop} (I : Inv X pins σ H s) (e : H a = some (.dK kvs)) (ry : RelV (kV k) u) (l : nr kvs k = some v) (hm : more = [] \/ ∃ x, more = [x])
 (h : ∀ w' s', Inv X pins σ (upd H a (.dK (qp kvs k))) s' -> RelV v w' -> Q w' s') : wpAny (model X.prog X.w) A (call (.builtin "dict.pop") (.ref a :: u :: more)) Q E s := by
 obtain ⟨z, hd, vs, rel, dd⟩ := UB I.bA e
 obtain ⟨w', hw, Nu⟩ := pS.some_of (v := v) (o := valueAt vs k) (by rw [<- l]; exact rel.val k)
 have hp : (keyPart u).isSome = true := by
  cases k with
  | inl i => obtain ⟨t, q⟩ := (show ∃ t, u = Value.int i t from ry); subst q; rfl
  | inr x => obtain ⟨t, q⟩ := (show ∃ t, u = Value.str x t from ry); subst q; rfl
 have ha : argsOk "dict.pop" ⟨.ref a :: u :: more, []⟩ := by
  rcases hm with q | ⟨x, q⟩
  . subst q; exact PySem.F.args_dict_pop_2 _ _
  . subst q; exact PySem.F.args_dict_pop_3 _ _ _
 refine call_meetsIn PySem.F.slot_dict_pop dd.typeIs PySem.F.entry_dict_pop ha (meets_dict_pop_there (aU X.prog X.w) a (EF ry) more hm hp)
  ⟨vs, w', dd, by rw [<- rel.length]; exact z, hw, fun h' Xd hs => h w' _ ?_ Nu⟩
 have he : ∃ q, h'.get? a = some q := let ⟨q, _, _, hq, _⟩ := Xd; ⟨q, hq⟩
 exact Hk I (by rw [e]; exact True.intro) hs he (Qy (Nat.le_trans (NR kvs k) z) hd (rel.drop k) Xd)
end
def Zj (i : Expr) : Prop := ∀ ov iv, subscripted i false ov iv = operate [ov, iv] (getItem ov iv)
theorem Rl {prog : Program} {w : World} {A : Around} {E : Value -> Shared -> Prop} {s : Shared} {env : Env} {value slice : Expr} {pos : Pos} {T id : String} {Q : Value -> Shared -> Prop}
 (hl : typeLookup (.type T) "__getitem__" = pure (some (.builtin id))) (hs : Zj slice)
 (h : wpAny (model prog w) A (eval value env) (fun o s₁ => wpAny (model prog w) A (eval slice env) (fun i s₂ => s₂.TypeIs o T /\ wpAny (model prog w) A (getItem o i) Q E s₂) E s₁) E s) :
 wpAny (model prog w) A (eval (.Subscript value slice pos) env) Q E s := by
 refine Subscript_ (wpAny_mono h (fun o s₁ h₁ => wpAny_mono h₁ (fun i s₂ h₂ => ?_) fun _ _ x => x) fun _ _ x => x)
 obtain ⟨hT, h₂⟩ := h₂
 unfold subscriptTail
 refine wpAny_bind ?_
 rw [getitemInPython_of_ne hT.not_modules]
 refine wpAny_bind (wpAny_specialOf hT hl ?_)
 have fin : wpAny (model prog w) A (subscripted slice false o i) (fun r s₃ => wpAny (model prog w) A (letTemporaryGo value o r >>= fun _ => pure r) Q E s₃) E s₂ := by
  rw [hs o i]
  exact wpAny_operating (wpAny_mono h₂ (fun r s₃ h₃ => wpAny_bind (wpAny_letTemporaryGo (wpAny_pure h₃))) fun _ _ x => x)
 first
  | exact wpAny_pure (wpAny_bind fin)
  | exact wpAny_bind (wpAny_pure (wpAny_bind fin))
  | exact wpAny_bind fin
theorem Ir {X : Cx} {pins : List (Addr × Obj)} {σ : St} {H : Hp} {s : Shared} {a : Addr} {y : V} {o : Option V} (I : Inv X pins σ H s) (g : hJ H a y o) : s.TypeIs (.ref a) "dict" := by
 rcases g with ⟨kvs, k, e, _, _⟩ | ⟨kvs, k, b, e, _, _, _⟩
 . obtain ⟨_, _, vs, _, dd⟩ := E4 I.bA e
   exact dd.typeIs
 . obtain ⟨_, _, xs, _, dd⟩ := DZ I.bA e
   exact dd.typeIs
def UZ (td ty : TE) : TE := fun σ H Q => td σ H fun x H1 => ty σ H1 fun y H2 => ∃ a v, x = .ref a /\ hJ H2 a y (some v) /\ Q v H2
def YM (ty td : TE) : TE := fun σ H Q => ty σ H fun y H1 => td σ H1 fun x H2 => ∃ a o, x = .ref a /\ hJ H2 a y o /\ Q (.bl o.isSome) H2
def KQ (ty td : TE) : TE := fun σ H Q => ty σ H fun y H1 => td σ H1 fun x H2 => ∃ a o, x = .ref a /\ hJ H2 a y o /\ Q (.bl (!o.isSome)) H2
def UO (td ty tv : TE) : TS := fun D σ H => tv σ H fun v H1 => td σ H1 fun x H2 => ty σ H2 fun y H3 => ∃ a H4, x = .ref a /\ GB H3 a y v H4 /\ D.nx σ H4
section
variable {X : Cx} {o i e value : Expr} {pos pos' VV : Pos} {td ty tv : TE}
theorem DJ (hu : X.A.units + 1 < cLine) (ho : PE X o td) (hi : PE X i ty) (hs : Zj i) : PE X (.Subscript o i pos) (UZ td ty) := by
 intro pins s σ H Q I h
 refine Rl PySem.F.slot_dict_getitem.lookup hs (dj (ho pins s σ H _ I h) fun u s1 ⟨x, H1, I1, rx, q1⟩ => dj (hi pins s1 σ H1 _ I1 q1) fun iv s2 ⟨y, H2, I2, ry, a, v, ex, g, q2⟩ => ?_)
 subst ex
 obtain rfl : u = Value.ref a := rx
 exact ⟨Ir I2 g, Mm hu I2 g ry fun w' s3 I3 Nu => ⟨v, H2, I3, Nu, q2⟩⟩
theorem PU (hu : X.A.units + 1 < cLine) (hi : PE X i ty) (ho : PE X o td) : PC X .In i o (YM ty td) := by
 intro pins s σ H Q I h
 refine dj (hi pins s σ H _ I h) fun iv s1 ⟨y, H1, I1, ry, q1⟩ => dj (ho pins s1 σ H1 _ I1 q1) fun u s2 ⟨x, H2, I2, rx, a, ov, ex, g, q2⟩ => ?_
 subst ex
 obtain rfl : u = Value.ref a := rx
 exact aaY hu I2 g ry fun s3 I3 => ⟨.bl ov.isSome, H2, I3, rfl, q2⟩
theorem Gg (hu : X.A.units + 1 < cLine) (hi : PE X i ty) (ho : PE X o td) : PC X .NotIn i o (KQ ty td) := by
 intro pins s σ H Q I h
 refine dj (hi pins s σ H _ I h) fun iv s1 ⟨y, H1, I1, ry, q1⟩ => dj (ho pins s1 σ H1 _ I1 q1) fun u s2 ⟨x, H2, I2, rx, a, ov, ex, g, q2⟩ => ?_
 subst ex
 obtain rfl : u = Value.ref a := rx
 exact S8 hu I2 g ry fun s3 I3 => ⟨.bl (!ov.isSome), H2, I3, rfl, q2⟩
theorem DI (hu : X.A.units + 1 < cLine) (ho : PE X o td) (hi : PE X i ty) (hv : PE X value tv) (hs : swapsWith value (some (.Subscript o i pos')) pos.line X.env = pure false) :
 PS X (.Assign [.Subscript o i pos'] value pos) (UO td ty tv) := by
 intro pins s σ H D I h
 refine wpAny_Assign_Subscript (dj (hv pins s σ H _ I h) fun r s1 ⟨v, H1, I1, rv, q1⟩ => dj (ho pins s1 σ H1 _ I1 q1) fun u s2 ⟨x, H2, I2, rx, q2⟩ => dj (hi pins s2 σ H2 _ I2 q2) fun iv s3 ⟨y, H3, I3, ry, a, H4, ex, g, q3⟩ => ?_) hs
 subst ex
 obtain rfl : u = Value.ref a := rx
 exact Mu hu I3 g ry rv fun s4 I4 => ⟨σ, H4, I4, q3⟩
end
theorem Ol {P : Program} {w : World} {H : Hp} (h : Heap) (hb : sysModules < h.objs.size) : cH P w H (h.push { cls := .type "dict", data := .dict #[] }) h.objs.size (.dK []) :=
 ⟨Nat.zero_le _, beq_eq_false_iff_ne.mpr (Ne.symm (Nat.ne_of_lt hb)), [], .nil, Heap.DictOf.new h⟩
def N7 : TE := fun _ H Q => ∀ p, H p = none -> Q (.ref p) (upd H p (.dK []))
section
variable {X : Cx} {pos : Pos}
theorem tf : PE X (.Dict [] [] pos) N7 := fun pins s σ H Q I h =>
 wpAny_Dict_empty ⟨.ref s.heap.objs.size, _, I.laid (a := s.heap.objs.size) (o := .dK []) (t' := s.toks) (fun _ _ q => Heap.get?_push_of_some _ q) (Nat.le_refl _) (Ol s.heap I.big), rfl, h _ (I.bA.fresh (Nat.le_refl _))⟩
end
structure M1 (X : Cx) (o : Expr) (m : Str) (apos : Pos) (e : Expr) (fU : Pos) : Prop where
 base : attributeBase o m X.env (eval o X.env) = eval o X.env
 few : ((backTo fU (starEach [e] X.env)).all (fun x => !x.1) && (backToKw fU (keywordEach [] X.env)).all (fun x => x.1.isSome)
  && decide (([e] : List Expr).length + ([] : List Keyword).length + (if ([] : List Keyword).isEmpty then 0 else 1) < 30)) = true
 line : (apos.endLine == fU.line) = true
 trees : backTo fU (starEach [e] X.env) = [(false, eval e X.env)]
structure M2 (X : Cx) (o : Expr) (m : Str) (apos : Pos) (e f : Expr) (fU : Pos) : Prop where
 base : attributeBase o m X.env (eval o X.env) = eval o X.env
 few : ((backTo fU (starEach [e, f] X.env)).all (fun x => !x.1) && (backToKw fU (keywordEach [] X.env)).all (fun x => x.1.isSome)
  && decide (([e, f] : List Expr).length + ([] : List Keyword).length + (if ([] : List Keyword).isEmpty then 0 else 1) < 30)) = true
 line : (apos.endLine == fU.line) = true
 trees : backTo fU (starEach [e, f] X.env) = [(false, eval e X.env), (false, eval f X.env)]
def IsD (H : Hp) (a : Addr) : Prop := (∃ kvs, Rd H a (.dK kvs)) \/ ∃ kvs, Rd H a (.dT kvs)
theorem Wl {X : Cx} {pins : List (Addr × Obj)} {σ : St} {H : Hp} {s : Shared} {a : Addr} (I : Inv X pins σ H s) (d : IsD H a) :
 s.TypeIs (.ref a) "dict" /\ (∀ b, Value.ref a = .ref b -> ∃ ob, s.heap.get? b = some ob /\ ob.dict = none) /\ (a == sysModules) = false := by
 rcases d with ⟨kvs, e⟩ | ⟨kvs, e⟩
 . obtain ⟨_, hd, vs, _, dd⟩ := E4 I.bA e
   refine ⟨dd.typeIs, fun b q => ?_, hd⟩
   cases q
   obtain ⟨ob, _, _, h1, h2, _⟩ := dd
   exact ⟨ob, h1, h2.2.1⟩
 . obtain ⟨_, hd, xs, _, dd⟩ := DZ I.bA e
   refine ⟨dd.typeIs, fun b q => ?_, hd⟩
   cases q
   obtain ⟨ob, _, _, h1, h2, _⟩ := dd
   exact ⟨ob, h1, h2.2.1⟩
section
variable {X : Cx} {pins : List (Addr × Obj)} {σ : St} {H : Hp} {s : Shared} {a : Addr} {y d : V} {u r : Value} {o : Option V} {A : Around} {E : Value -> Shared -> Prop}
theorem WT {Q : Value -> Shared -> Prop} (hu : A.units + 1 < cLine) (I : Inv X pins σ H s) (g : hJ H a y o) (ry : RelV y u) (h : ∀ w' s', Inv X pins σ H s' -> RelV (o.getD .aT) w' -> Q w' s') :
 wpAny (model X.prog X.w) A (call (.builtin "dict.get") [.ref a, u]) Q E s := by
 rcases g with ⟨kvs, k, e, ey, l⟩ | ⟨kvs, k, b, e, ey, eb, l⟩
 . subst ey
   obtain ⟨z, hd, vs, rel, dd⟩ := E4 I.bA e
   refine call_meetsIn PySem.F.slot_dict_get dd.typeIs PySem.F.entry_dict_get (PySem.F.args_dict_get_2 _ _) (meets_dict_get (aU X.prog X.w) a (EF ry) hd) ⟨_, dd.mapOf, h _ _ (I.tok _) ?_⟩
   rw [l]
   exact (rel.val k).getD rfl
 . subst ey
   cases (show u = Value.ref b from ry)
   obtain ⟨z, hd, xs, rel, dd⟩ := DZ I.bA e
   refine call_meetsIn PySem.F.slot_dict_get dd.typeIs PySem.F.entry_dict_get (PySem.F.args_dict_get_2 _ _) (meetsH_dict_get (tupleKind (aU X.prog X.w)) a b hd) ⟨tupleKind_room_in1 hu, k, xs, B1 I.bA eb, dd, h _ _ (I.tok _) ?_⟩
   rw [l]
   exact (rel.val k).getD rfl
end
def Qm (td ty : TE) : TE := fun σ H Q => td σ H fun x H1 => ∃ a, x = .ref a /\ IsD H1 a /\ ty σ H1 fun y H2 => ∃ o, hJ H2 a y o /\ Q (o.getD .aT) H2
section
variable {X : Cx} {o e f : Expr} {apos fU : Pos} {td ty tx : TE}
theorem Qh (hu : X.A.units + 1 < cLine) (ho : PE X o td) (he : PE X e ty) (m : M1 X o "get" apos e fU) : PE X (.Call (.Attribute o "get" apos) [e] [] fU) (Qm td ty) := by
 intro pins s σ H Q I h
 refine wpAny_Call_method m.base m.few m.line PySem.F.plainAttrs_dict PySem.F.slot_dict_get PySem.F.type_dict_get (dj (ho pins s σ H _ I h) fun u s1 ⟨x, H1, I1, rx, a, ex, d, q1⟩ => ?_)
 subst ex
 obtain rfl : u = Value.ref a := rx
 obtain ⟨t1, t2, _⟩ := Wl I1 d
 refine ⟨t1, t2, ?_⟩
 rw [m.trees]
 refine Calls.callWith_builtin rfl (Calls.evalArgs_plain (Calls.spliced_cons (dj (he pins s1 σ H1 _ I1 q1) fun iv s2 ⟨y, H2, I2, ry, ov, g, q2⟩ => Calls.spliced_nil ?_)))
 exact WT hu I2 g ry fun w' s3 I3 Nu => ⟨_, H2, I3, Nu, q2⟩
end
section
variable {X : Cx} {pins : List (Addr × Obj)} {σ : St} {H : Hp} {s : Shared} {a : Addr} {kvs : List (Key × V)} {A : Around} {E : Value -> Shared -> Prop}
end
section
variable {X : Cx} {pins : List (Addr × Obj)} {σ : St} {H : Hp} {s : Shared} {a : Addr} {y : V} {u : Value} {A : Around} {E : Value -> Shared -> Prop}
end
end L2
namespace Att
open PySem PySem.W PySem.Calls PyProof.Rows
theorem Dz {P : Params} {h : Heap} : ∀ (ns : List Int) (vs : List Value), WellAll P h vs (ns.map WData.int) -> IntsAre vs ns := by
 intro ns
 induction ns with
 | nil =>
   intro vs w
   rw [List.map_nil] at w
   cases w
   exact .nil
 | cons n ns ih =>
   intro vs w
   rw [List.map_cons] at w
   cases w with
   | cons a b =>
     cases a
     exact .cons _ _ (ih _ b)
theorem Nx {l : OpenLaw} {n : Nat} (hn : l.most = some n) {P : Params} {h : Heap} {args : List WData} {vals : List Value}
 (R4 : l.row.toRowW.claim.pre args = true) (hwl : WellAll P h vals args) :
 ∃ a vs ns, vals = [Value.ref a] /\ args = [WData.list (ns.map WData.int)] /\ h.get? a = some { cls := .type "list", data := .seq vs.toArray } /\ IntsAre vs ns /\ ns.length <= n := by
 have hsh : WShape.hasAll [] args [.list .int] = true := (pre_splitW R4).1
 have hc : l.pre.holds [] { args := args } = true := (pre_splitW R4).2
 obtain ⟨d, r, rfl, h1, h2⟩ := hasAllW_cons hsh
 obtain rfl := hasAllW_nil h2
 obtain ⟨xs, rfl, h3⟩ := hasW_list h1
 obtain ⟨ns, rfl⟩ := items_int h3
 have hlen : ns.length <= n := by
  unfold OpenLaw.pre at hc
  have h4 : (WTm.not (.lt (.lit (.int (n : Int))) (.len (.arg 0)))).holds [] { args := [.list (ns.map .int)] } = true := by
   have h4 := (holds_andW hc).1
   rw [hn] at h4
   exact h4
  have h5 := condW_of h4 (w_not (w_lt w_lit (w_len_list (w_arg rfl))))
  rw [List.length_map] at h5
  refine Nat.le_of_not_lt fun q => ?_
  have q' : (n : Int) < ((ns.length : Nat) : Int) := by omega
  first
   | (rw [decide_eq_true q'] at h5; exact absurd h5 (by decide))
   | (simp at h5; omega)
 cases hwl with
 | cons w1 w2 =>
   cases w2
   cases w1 with
   | list ho acF => exact ⟨_, _, ns, rfl, rfl, ho, Dz ns _ acF, hlen⟩
theorem Mi (l : OpenLaw) (args : List WData) : l.row.toRowW.claim.post args (.bool true) args = true :=
 postW_of (r := l.row.toRowW) (X := (true == true))
  (show WShape.has [] (.bool true) .bool = true by first | rfl | decide | simp [WShape.has, WShape.arms, WShape.armsAll])
  (show (WTm.eq .res (.lit (.bool true))).value [] { args := args, res := some (.bool true), after := args } = some (.bool (true == true)) from w_eq_bool (w_res rfl) w_lit) rfl
theorem HZ {l : OpenLaw} {n : Nat} {q : Program} {loose : List Str} {XP : (Str -> Option Value) -> Heap -> Prop} {YP : World -> Heap -> Prop} {d : DefRec}
 (hn : l.most = some n) (Yy : d.params.defaults = [])
 (call : ∀ (w : World) (hE s₁ : Shared) (mg mb : Str -> Option Value) (fa : Addr) (o : Obj) (pm cd doc : Value) (a : Addr) (vs : List Value) (ns : List Int),
  Ground q loose [] XP w hE mg mb s₁.heap -> YP w s₁.heap ->
  s₁.heap.get? fa = some o -> o.data = .func (docDef d.name d.params d.body d.scope pm cd doc) -> s₁.heap.CodeRec cd d.name -> mg d.name = some (.ref fa) ->
  s₁.heap.get? a = some { cls := .type "list", data := .seq vs.toArray } -> IntsAre vs ns -> ns.length <= n -> s₁.gens = #[] ->
  codeAny (model l.prog w) callerA (.call (.ref fa) ⟨[.ref a], []⟩) (fun r s' => r = .ok (.ret (.bool true)) /\ OldK s₁.heap s'.heap /\ s'.os = s₁.os /\ AllBare s'.gens) s₁) :
 WalkO q loose XP YP l.row.toRowW d [] (fun f vs => PySem.call f vs) := by
 intro w hE s₁ mg mb G Y fa o pm cd doc dV kV ho hd NN hD ZW hg args vals as R4 afT hrd hwl hlo
 obtain rfl : dV = .none := Dflts.none hD Yy
 obtain rfl : kV = .none := Dflts.noKw hD
 obtain ⟨a, vs, ns, rfl, rfl, Vz, hints, hlen⟩ := Nx hn R4 hwl
 refine enter_call (codeAny_mono (call w hE s₁ mg mb fa o pm cd doc a vs ns G Y ho (fd_plain hd) NN ZW Vz hints hlen hg) fun r s' hq => ?_)
 obtain ⟨rfl, h2, h3, h4⟩ := hq
 exact ⟨.inl ⟨.bool true, .bool true, [], rfl, fun _ => rfl, .bool true, Mi l _, fun _ => ⟨List.Pairwise.nil, fun _ hm => (nomatch hm)⟩⟩, h2, h3, h4⟩
section
variable {prog : Program} {w : World} {A : Around} {E : Value -> Shared -> Prop} {s : Shared} {K : Frag}
end
end Att
namespace L2
open PySem PySem.Spec PyProof.Rows
theorem FP : ∀ {vs : List Value} {ns : List Int}, IntsAre vs ns -> Vals (ns.map V.int) vs
 | _, _, .nil => .nil
 | _, _, .cons n t h => .cons ⟨t, rfl⟩ (FP h)
def Tz (H : Hp) : Prop := ∀ b, H b = none \/ ∃ o xs, H b = some (.uJ o (.lst xs))
theorem O3 {P : Program} {w : World} {K : PySem.W.Frag} {mg mb : Str -> Option Value} {CX : GH} {k : Nat} {fa a : Addr} {fd : FuncData} {x : Str} {sp : Sp} {s₁ : Shared} {vs : List Value} {ns : List Int}
 (KX : K.In s₁.heap) (hns : s₁.heap.Ns mainGlobals mg) (hb : s₁.heap.Ns builtinsNs mb) (hbb : ∀ x : Str, x ≠ "__name__" -> mb x = bootBuiltins x) (acJ : s₁.heap.NoLimit) (hg : s₁.gens = #[])
 (ha : s₁.heap.get? a = some { cls := .type "list", data := .seq vs.toArray }) (hi : IntsAre vs ns) (hl : ns.length <= sizeLine) (hr : c9 k callerA)
 (F : ∀ base : Heap, K.In base -> base.Ns mainGlobals mg -> aK P w K mg base CX k fa fd [x] sp) (Yb : ∀ (s : Shared) (u : Value), BindsTo s fd ⟨[u], []⟩ [(x, u)])
 (QP : ∀ H : Hp, Tz H -> i9 K H a (ns.map V.int) -> sp [.ref a] H (fun v _ => v = .bl true) fun _ _ _ => False)
 (YJ : ∀ H e s', CX [] H s₁ (fun _ _ _ => False) e s' -> False) :
 codeAny (model P w) callerA (.call (.ref fa) ⟨[.ref a], []⟩) (fun r s' => r = .ok (.ret (.bool true)) /\ OldK s₁.heap s'.heap /\ s'.os = s₁.os /\ AllBare s'.gens) s₁ := by
 have rv := FP hi
 have abA := hi.length
 have core : ∀ H : Hp, Tz H -> i9 K H a (ns.map V.int) -> pQ P w H s₁.heap -> (∀ b, H b ≠ none -> b = a) -> (H a ≠ none -> K.lookup a = none) ->
  codeAny (model P w) callerA (.call (.ref fa) ⟨[.ref a], []⟩) (fun r s' => r = .ok (.ret (.bool true)) /\ OldK s₁.heap s'.heap /\ s'.os = s₁.os /\ AllBare s'.gens) s₁ := by
  intro H hO hS bA hA hK
  have Le : ∀ {b : Addr} {o : Obj}, s₁.heap.get? b = some o -> H b = none -> (GO s₁.heap H).get? b = some o := fun e n => P7 e n
  have ZU : ∀ {b : Addr} {o : Obj} {es : Array DictEntry} {ep : Nat}, s₁.heap.get? b = some o -> o.data = .dict es ep -> H b = none := fun {b o es ep} e d => by
   cases q : H b with
   | none => rfl
   | some u =>
     have e' : b = a := hA b (by rw [q]; simp)
     subst e'
     rw [ha] at e; cases e
     have d' : Data.seq vs.toArray _ = Data.dict es ep := d
     cases d'
  have nsK : ∀ {b : Addr} {m : Str -> Option Value}, s₁.heap.Ns b m -> (GO s₁.heap H).Ns b m := fun {b m} ⟨o, es, ep, e, d, r⟩ => ⟨o, es, ep, Le e (ZU e d), d, r⟩
  have hKb : K.In (GO s₁.heap H) := fun b o e => Le (KX b o e) (by
   cases q : H b with
   | none => rfl
   | some u =>
     have e' : b = a := hA b (by rw [q]; simp)
     subst e'
     rw [hK (by rw [q]; simp)] at e; cases e)
  have hM : Mod K mg (GO s₁.heap H) := ⟨hKb, nsK hns, ⟨mb, nsK hb, hbb⟩, let ⟨mc, h1, h2⟩ := acJ; ⟨mc, nsK h1, h2⟩⟩
  have e0 : Jm P w K mg (GO s₁.heap H) callerA [] s₁ H := ⟨rfl, hM, fun b o e => Rq e, Nat.le_of_eq (L5 _ _), trivial, fun b hb => absurd (show b ∈ ([] : List Addr) from hb) (by simp), bA, .of_eq hg⟩
  refine codeAny_mono ((F _ hKb (nsK hns)).run callerA [] s₁ H ⟨[.ref a], []⟩ [.ref a] [.ref a] _ _ hr e0 (Yb s₁ (.ref a)) (.cons rfl .nil) (QP H hO hS)) fun r s' h => ?_
  cases r with
  | error e => exact (YJ H e s' h).elim
  | ok fl =>
    cases fl with
    | next => exact False.elim h
    | brk => exact False.elim h
    | cont => exact False.elim h
    | ret u =>
      obtain ⟨v, H', os, bare, un, acd, r', q⟩ := h
      have q' : v = .bl true := q
      subst q'
      obtain rfl : u = Value.bool true := r'
      refine ⟨rfl, OldK.of_keep fun b o e => ?_, os, bare⟩
      cases q : H b with
      | none => exact un.keep b o e q (by intro z; exact absurd (show b ∈ ([] : List Addr) from z) (by simp)) (by simp)
      | some u =>
        rcases hO b with z | ⟨ob, xs, z⟩
        . rw [q] at z; cases z
        . have z2 := un.wO b ob _ z
          obtain ⟨e1, _⟩ := bA b _ z
          obtain ⟨e2, _⟩ := acd b _ z2
          rw [e] at e1; cases e1
          exact e2
 cases hk : K.lookup a with
 | some o =>
   have e := KX a o hk
   rw [ha] at e
   cases e
   refine core (fun _ => none) (fun _ => .inl rfl) (.inr ⟨_, vs.toArray, _, hk, rfl, rfl, rfl, by rw [List.size_toArray, abA]; exact hl, by simpa using rv⟩) (fun b u z => by have z' : (none : Option HO) = some u := z; cases z') (fun b z => absurd rfl z) fun z => absurd rfl z
 | none =>
   refine core (fun b => if b = a then some (.uJ { cls := .type "list", data := .seq vs.toArray } (.lst (ns.map V.int))) else none) (fun b => ?_) (.inl (.inr ⟨{ cls := .type "list", data := .seq vs.toArray }, if_pos rfl⟩)) (fun b u z => ?_) (fun b z => ?_) fun _ => hk
   . by_cases hb : b = a
     . exact .inr ⟨_, _, if_pos hb⟩
     . exact .inl (if_neg hb)
   . by_cases hb : b = a
     . have z' := (if_pos hb).symm.trans z
       cases z'
       subst hb
       exact ⟨ha, by rw [List.length_map]; exact hl, vs, _, rv, ha⟩
     . have z' := (if_neg hb).symm.trans z
       cases z'
   . by_cases hb : b = a
     . exact hb
     . exact absurd (if_neg hb) z
abbrev KOf {K : PySem.W.Frag} {h : Heap} (_ : K.In h) : PySem.W.Frag := K
theorem Ss {l : PySem.W.OpenLaw} {n k : Nat} {q : Program} {loose : List Str} {XP : (Str -> Option Value) -> Heap -> Prop} {YP : World -> Heap -> Prop} {d : DefRec} {K : Params -> PySem.W.Frag} {CX : World -> GH} {sp : World -> Sp} {x : Str}
 (hn : l.most = some n) (Ct : n <= sizeLine) (Yy : d.params.defaults = []) (hr : c9 k callerA)
 (hY : ∀ (w : World) (h : Heap), YP w h -> (K w.params).In h)
 (F : ∀ (w : World) (mg : Str -> Option Value) (fa : Addr) (h : Heap), (K w.params).In h -> h.Ns mainGlobals mg -> mg d.name = some (.ref fa) ->
  ∃ fd : FuncData, (∀ (s : Shared) (u : Value), BindsTo s fd ⟨[u], []⟩ [(x, u)]) /\
    ∀ base : Heap, (K w.params).In base -> base.Ns mainGlobals mg -> aK l.prog w (K w.params) mg base (CX w) k fa fd [x] (sp w))
 (QP : ∀ (w : World) (H : Hp) (a : Addr) (ns : List Int), ns.length <= n -> Tz H -> i9 (K w.params) H a (ns.map V.int) -> sp w [.ref a] H (fun v _ => v = .bl true) fun _ _ _ => False)
 (YJ : ∀ (w : World) (H : Hp) (s : Shared) (e : Value) (s' : Shared), CX w [] H s (fun _ _ _ => False) e s' -> False) :
 PySem.W.WalkO q loose XP YP l.row.toRowW d [] (fun f vs => PySem.call f vs) := by
 refine Att.HZ hn Yy fun w hE s₁ mg mb fa o pm cd doc a vs ns G Y ho hd NN ZW Vz hints hlen hg => ?_
 have KX := hY w _ Y
 obtain ⟨fd, hb, hF⟩ := F w mg fa _ KX G.T.g ZW
 exact O3 KX G.T.g G.T.b G.T.builtins G.T.nolimit hg Vz hints (Nat.le_trans hlen Ct) hr hF hb (fun H hO hS => QP w H a ns hlen hO hS) fun H e s' => YJ w H s₁ e s'
theorem QC {l : PySem.W.OpenLaw} {n k : Nat} {q : Program} {loose : List Str} {XP : (Str -> Option Value) -> Heap -> Prop} {YP : World -> Heap -> Prop} {d : DefRec} {K : Params -> PySem.W.Frag} {CX : GH} {sp : PySem.W.Frag -> Sp} {x : Str}
 (hn : l.most = some n) (Ct : n <= sizeLine) (Yy : d.params.defaults = []) (hr : c9 k callerA)
 (hY : ∀ (w : World) (h : Heap), YP w h -> (K w.params).In h)
 (F : ∀ (w : World) (mg : Str -> Option Value) (fa : Addr) (h : Heap), (K w.params).In h -> h.Ns mainGlobals mg -> mg d.name = some (.ref fa) ->
  ∃ fd : FuncData, (∀ (s : Shared) (u : Value), BindsTo s fd ⟨[u], []⟩ [(x, u)]) /\
    ∀ base : Heap, (K w.params).In base -> base.Ns mainGlobals mg -> aK l.prog w (K w.params) mg base CX k fa fd [x] (sp (K w.params)))
 (QP : ∀ (K : PySem.W.Frag) (H : Hp) (a : Addr) (ns : List Int), ns.length <= n -> Tz H -> i9 K H a (ns.map V.int) -> sp K [.ref a] H (fun v _ => v = .bl true) fun _ _ _ => False)
 (YJ : ∀ (H : Hp) (s : Shared) (e : Value) (s' : Shared), CX [] H s (fun _ _ _ => False) e s' -> False) :
 PySem.W.WalkO q loose XP YP l.row.toRowW d [] (fun f vs => PySem.call f vs) :=
 Ss (K := K) (CX := fun _ => CX) (sp := fun w => sp (K w.params)) hn Ct Yy hr hY F (fun w H a ns h1 h2 h3 => QP (K w.params) H a ns h1 h2 h3) fun _ H s e s' => YJ H s e s'
def inClass (s : Stmt) (j : Nat) : Stmt := match s with
 | .ClassDef _ _ _ body _ _ _ _ _ _ _ => body.getD j (.Pass ⟨0, 0, 0, 0⟩)
 | _ => .Pass ⟨0, 0, 0, 0⟩
def Ak (s : Stmt) : Arguments := match s with
 | .FunctionDef _ a _ _ _ _ _ _ _ _ => a
 | _ => { posonlyargs := [], args := [], vararg := none, kwonlyargs := [], kw_defaults := [], kwarg := none, defaults := [] }
def wH (s : Stmt) : List Stmt := match s with
 | .FunctionDef _ _ b _ _ _ _ _ _ _ => b
 | _ => []
def ak (s : Stmt) : Scope := match s with
 | .FunctionDef _ _ _ _ _ _ sc _ _ _ => sc
 | _ => { kind := .function, names := [], isGenerator := false, isCoroutine := false }
abbrev eS : GH := fun _ _ _ _ _ _ => False
abbrev E0 : XK := fun _ _ _ => False
theorem FX {X : Cx} : Passes eS X E0 := fun _ _ _ _ _ _ _ h => h.elim
structure Fun (K : PySem.W.Frag) (x qual : Str) (st : Stmt) (f : Addr) (fd : FuncData) : Prop where
 ex : ∃ (oc : Value) (od : Option Addr) (kV doc pm : Value) (an : Option Addr) (cJ ct : Value) (QG : Array (Option Value)),
  fd = PySem.W.fnOf x qual (Ak st) (wH st) (ak st) .none kV doc pm an cJ ct /\ K.lookup f = some ⟨oc, od, .func fd, QG⟩ /\ PySem.W.codeIn K cJ qual = true
 kp : PySem.W.keepIn K (.ref f) = true
section
variable {P : Program} {w : World} {K : PySem.W.Frag} {mg : Str -> Option Value} {base : Heap}
end
theorem oB {A : Around} {k : Nat} (hr : c9 k A) : A.units + 1 < cLine := Nat.lt_of_le_of_lt (Nat.add_le_add_left (by decide : 1 <= 64) _) hr.units
section
variable {X : Cx}
theorem pv (i : Nat) {x : Str} {pos : Pos} (hN : X.N[i]? = some x := by rfl) (hv : Vis X.env.scope x := by first | exact Or.inl rfl | exact Or.inr (Or.inl rfl) | exact Or.inr (Or.inr rfl)) (hd : (x == ("__debug__" : Str)) = false := by decide)
 (NN : (x == ("__classdict__" : Str)) = false := by decide) : PE X (.Name x pos) (Xl i) := U6 hN hv hd NN
end
theorem aa9 {A B : Prop} (h : B) : if false = true then A else B := by
 rw [if_neg Bool.false_ne_true]
 exact h
theorem acX {A B : Prop} (h : A) : if true = true then A else B := by
 rw [if_pos rfl]
 exact h
def ax (H H' : Hp) : Prop := ∀ b o, H b = some o -> H' b = some o
theorem ax.refl (H : Hp) : ax H H := fun _ _ h => h
theorem ax.trans {H H1 H2 : Hp} (a : ax H H1) (b : ax H1 H2) : ax H H2 := fun c o h => b c o (a c o h)
theorem ax.seq {K : PySem.W.Frag} {H H' : Hp} {a : Addr} {xs : List V} (e : ax H H') (h : i9 K H a xs) : i9 K H' a xs := by
 rcases h with (h | ⟨o, h⟩) | h
 . exact .inl (.inl (e _ _ h))
 . exact .inl (.inr ⟨o, e _ _ h⟩)
 . exact .inr h
section
variable {κ : Type} [DecidableEq κ]
end
section
variable {X : Cx}
def K3 (i j : Int) : Prop := i.natAbs < 2 ^ 2000 /\ j.natAbs < 2 ^ 2000
theorem K3.ok {i j : Int} (h : K3 i j) : IntMulOk i j := by
 have h1 : Builtin.Int.intBits i <= 2000 := PyProof.Rows.intBits_le h.1
 have h2 : Builtin.Int.intBits j <= 2000 := PyProof.Rows.intBits_le h.2
 have h3 : Builtin.Int.intTooBig ((Builtin.Int.intBits i + Builtin.Int.intBits j : Nat) : Int) = false := by
  unfold Builtin.Int.intTooBig
  have : (bitsLine : Nat) = 134217728 := rfl
  refine decide_eq_false ?_
  omega
 unfold IntMulOk
 have h4 : Builtin.Int.intTooBig (Builtin.Int.intBits i + Builtin.Int.intBits j) = false := by
  have e : ((Builtin.Int.intBits i : Int) + (Builtin.Int.intBits j : Int)) = ((Builtin.Int.intBits i + Builtin.Int.intBits j : Nat) : Int) := by omega
  rw [e]; exact h3
 rw [h4]
 simp
theorem wJ : Bw X (binaryOp .Mult) (rI K3 fun i j => .int (i * j)) := opI fun _ _ _ _ _ _ _ hc q => mul_int q hc.ok
def Uz (_ j : Int) : Prop := 0 < j /\ j.natAbs < 2 ^ 2000
theorem b9 : Bw X (binaryOp .FloorDiv) (rI Uz fun i j => .int (i / j)) := opI fun i j _ _ _ _ _ hc q => by
 have e : i.fdiv j = i / j := Int.fdiv_eq_ediv_of_nonneg _ (Int.le_of_lt hc.1)
 have hl : j.natAbs.log2 < 9000 := by
  have h0 : j.natAbs ≠ 0 := by have := hc.1; omega
  have h2 : j.natAbs.log2 < 2000 := (Nat.log2_lt h0).mpr hc.2
  omega
 refine floordiv_int (by have := hc.1; omega) ?_ (.inl (PyProof.noPylong_of_log2 hl))
 rw [e]; exact q
inductive VR : V -> Value -> Prop where
 | ty (n : String) : VR (.ty n) (.type n)
 | ref (C : Addr) : VR (.ref C) (.ref C)
def JA (K : PySem.W.Frag) : List V -> Hp -> VK -> Prop := fun xs H Q => ∃ x c cv t b, xs = [x, c] /\ VR c cv /\ Aj K H x t /\ PySem.W.kitOne K t cv = some b /\ Q (.bl b) H
theorem kr : iS X (.builtin "isinstance") (JA X.K) := by
 intro pins s σ H xs us Q I r h
 obtain ⟨x, c, cv, t, b, rfl, hc, ty, e, q⟩ := h
 obtain ⟨u, w', rfl, r1, r2⟩ := vals2 r
 have ew : w' = cv := by cases hc <;> exact r2
 subst ew
 exact NF I r1 ty e fun tk => ⟨.bl b, H, I.tok tk, rfl, q⟩
structure Iu (K : PySem.W.Frag) (C : Addr) (m : Str) (f : Addr) : Prop where
 ga : PySem.W.specialIn K (.ref C) "__getattribute__" = some (some (.builtin "type.__getattribute__"))
 rd : PySem.W.readsIn K C (.type "type") = true
 fd : PySem.W.findCls K (.ref C) (.type "type") m = some (.val (.ref f))
 kp : PySem.W.keepIn K (.ref f) = true
theorem Tj {CX : GH} {k : Nat} {f C : Addr} {fd : FuncData} {ps : List Str} {sp : Sp} {c3 : List V} {ds : List Value} {E : XK} {x m : Str} {p pos apos : Pos} {e : Expr} {es : List Expr} {t : TA} {pl : Sem Bool}
 (hg : Gl X x) (hm : X.mg x = some (.ref C)) (B : Iu X.K C m f) (F : aK X.prog X.w X.K X.mg X.base CX k f fd ps sp) (hr : c9 k X.A) (hb : Binds X.K fd ps ds) (hd : Vals c3 ds) (hx : Passes CX X E) (ha : PA X (e :: es) t)
 (zp : (x == ("__debug__" : Str)) = false := by decide)
 (AO : starEach (e :: es) X.env = (false, eval e X.env) :: starEach es X.env := by rfl) (Bv : (backTo pos (starEach es X.env)).any (·.1) = false := by rfl)
 (ht : eval (.Call (.Attribute (.Name x p) m apos) (e :: es) [] pos) X.env = (do
  let ov <- eval (.Name x p) X.env
  standAt apos.atName
  let (f, first) <- holding [ov] (getMethod ov m pl)
  callWith pos f first (backTo pos (starEach (e :: es) X.env)) (backToKw pos (keywordEach [] X.env))) := by rfl) :
 PE X (.Call (.Attribute (.Name x p) m apos) (e :: es) [] pos) (F9 sp c3 E t) := by
 intro pins s σ H Q I h
 refine PySem.W.methodCall_KW (pl := pl) (DK I hg hm ?_ zp) ht
 refine PySem.W.method_cls I.AB B.ga ?_
 refine PySem.W.cls_value I.AB B.rd B.fd rfl ?_
 have I' : Inv X pins σ H { s with toks := s.toks + 1 } := I.tok _
 refine PySem.W.callWith_K (first := []) (h₀ := X.base) I.ok.mod.XQ B.kp (dj (ha pos pins _ σ H _ I' h) fun us s2 ⟨vs, H2, I2, r, q2⟩ => ⟨I2.AB, ?_⟩) AO Bv
 exact Ht F hr hb hd hx I2 r q2
end
mutual
inductive wy (K : PySem.W.Frag) (H : Hp) : V -> PyData -> Prop where
 | aT : wy K H .aT .none
 | bl (b : Bool) : wy K H (.bl b) (.bool b)
 | int (i : Int) : wy K H (.int i) (.int i)
 | str (x : Str) : wy K H (.str x) (.str x)
 | tup {a : Addr} {xs : List V} {ds : List PyData} (h : Fp K H a xs) (r : gQ K H xs ds) : wy K H (.ref a) (.tuple ds)
 | lst {a : Addr} {xs : List V} {ds : List PyData} (h : i9 K H a xs) (r : gQ K H xs ds) : wy K H (.ref a) (.list ds)
inductive gQ (K : PySem.W.Frag) (H : Hp) : List V -> List PyData -> Prop where
 | nil : gQ K H [] []
 | cons {x : V} {d : PyData} {xs : List V} {ds : List PyData} (h : wy K H x d) (r : gQ K H xs ds) : gQ K H (x :: xs) (d :: ds)
end
theorem Fp.keeps {K : PySem.W.Frag} {H H' : Hp} {a : Addr} {xs : List V} (e : ax H H') (h : Fp K H a xs) : Fp K H' a xs := by
 rcases h with (h | ⟨o, h⟩) | h
 . exact .inl (.inl (e _ _ h))
 . exact .inl (.inr ⟨o, e _ _ h⟩)
 . exact .inr h
mutual
theorem wy.keeps {K : PySem.W.Frag} {H H' : Hp} (e : ax H H') : ∀ {v : V} {d : PyData}, wy K H v d -> wy K H' v d
 | _, _, .aT => .aT
 | _, _, .bl b => .bl b
 | _, _, .int i => .int i
 | _, _, .str x => .str x
 | _, _, .tup h r => .tup (Fp.keeps e h) (gQ.keeps e r)
 | _, _, .lst h r => .lst (ax.seq e h) (gQ.keeps e r)
theorem gQ.keeps {K : PySem.W.Frag} {H H' : Hp} (e : ax H H') : ∀ {vs : List V} {ds : List PyData}, gQ K H vs ds -> gQ K H' vs ds
 | _, _, .nil => .nil
 | _, _, .cons h r => .cons (wy.keeps e h) (gQ.keeps e r)
end
section
variable {X : Cx} {pins : List (Addr × Obj)} {σ : St} {H : Hp} {s : Shared}
mutual
theorem wy.reads (I : Inv X pins σ H s) : ∀ {v : V} {d : PyData} {u : Value}, wy X.K H v d -> RelV v u -> ∃ as, Reads s.heap u d as
 | _, _, _, .aT, r => by cases r; exact ⟨_, .none⟩
 | _, _, _, .bl b, r => by cases r; exact ⟨_, .bool b⟩
 | _, _, _, .int i, r => by obtain ⟨t, rfl⟩ := r; exact ⟨_, .int i t⟩
 | _, _, _, .str x, r => by obtain ⟨t, rfl⟩ := r; exact ⟨_, .str x t⟩
 | _, _, _, .tup h q, r => by
   cases r
   obtain ⟨b4, rv, ⟨o, h1, h2, n, h3⟩, _⟩ := I.tuple h
   obtain ⟨as, ra⟩ := gQ.reads I q rv
   exact ⟨_, .tuple h1 h2 h3 (by simpa using ra)⟩
 | _, _, _, .lst h q, r => by
   cases r
   obtain ⟨b4, rv, ⟨o, n, h1, h2, _, h3⟩, _⟩ := I.list h
   obtain ⟨as, ra⟩ := gQ.reads I q rv
   exact ⟨_, .list h1 h2 h3 (by simpa using ra)⟩
theorem gQ.reads (I : Inv X pins σ H s) : ∀ {vs : List V} {ds : List PyData} {us : List Value}, gQ X.K H vs ds -> Vals vs us -> ∃ as, ReadsAll s.heap us ds as
 | _, _, _, .nil, r => by cases r; exact ⟨_, .nil⟩
 | _, _, _, .cons h q, r => by
   cases r with
   | cons r1 r2 =>
     obtain ⟨as, ra⟩ := wy.reads I h r1
     obtain ⟨bs, rb⟩ := gQ.reads I q r2
     exact ⟨_, .cons ra rb⟩
end
end
section
variable {X : Cx}
def YR (K : PySem.W.Frag) (f : Bool -> Bool) : R2 := fun x y H Q => ∃ d e, wy K H x d /\ wy K H y e /\ d.canLay0 = true /\ e.canLay0 = true /\ d.depth <= 8 /\ Q (.bl (f (PyData.eqv d e))) H
theorem XD (hu : X.A.units + 8 < cLine) : Bw X (compareOp .Eq) (YR X.K id) := by
 intro pins s σ H x y v u Q I rx ry h
 obtain ⟨d, e, hd, he, c1, c2, hn, q⟩ := h
 obtain ⟨as, ra⟩ := hd.reads I rx
 obtain ⟨bs, rb⟩ := he.reads I ry
 exact SeqAt.compareEq_reads ra rb c1 c2 (by have := Nat.min_le_left d.depth e.depth; omega) ⟨.bl _, H, I, rfl, q⟩
theorem Wh (hu : X.A.units + 8 < cLine) : Bw X (compareOp .NotEq) (YR X.K not) := by
 intro pins s σ H x y v u Q I rx ry h
 obtain ⟨d, e, hd, he, c1, c2, hn, q⟩ := h
 obtain ⟨as, ra⟩ := hd.reads I rx
 obtain ⟨bs, rb⟩ := he.reads I ry
 exact SeqAt.compareNe_reads ra rb c1 c2 (by have := Nat.min_le_left d.depth e.depth; omega) ⟨.bl _, H, I, rfl, q⟩
end
structure dr (P : Program) (w : World) (K : PySem.W.Frag) (mg : Str -> Option Value) (base : Heap) (k : Nat) (f : Addr) (ps : List Str) (c3 : List V) (sp : Sp) : Prop where
 ex : ∃ (fd : FuncData) (ds : List Value), aK P w K mg base eS k f fd ps sp /\ Binds K fd ps ds /\ Vals c3 ds
section
variable {X : Cx} {k : Nat} {f C : Addr} {ps : List Str} {sp : Sp} {c3 : List V} {x m : Str} {p pos apos : Pos} {e o : Expr} {es : List Expr} {ta : TE} {t : TA}
theorem R6 (c : dr X.prog X.w X.K X.mg X.base k f ps c3 sp) (hr : c9 k X.A) (hg : Gl X x) (hm : X.mg x = some (.ref f)) (hk : PySem.W.keepIn X.K (.ref f) = true)
 (ha : PA X (e :: es) t) (zp : (x == ("__debug__" : Str)) = false := by decide) (he : starEach (e :: es) X.env = (false, eval e X.env) :: starEach es X.env := by rfl) (Bv : (backTo pos (starEach es X.env)).any (·.1) = false := by rfl) :
 PE X (.Call (.Name x p) (e :: es) [] pos) (F9 sp c3 E0 t) := by
 obtain ⟨fd, ds, F, hb, hd⟩ := c.ex
 exact R9 F hr hg hm hk hb hd FX ha zp he Bv
theorem Sl {pl : Sem Bool} (he : PE X o ta) (c : zk X.K C) (hm : Meth X.K C m f) (F : dr X.prog X.w X.K X.mg X.base k f ps c3 sp) (hr : c9 k X.A) (ha : PA X (e :: es) t)
 (AO : starEach (e :: es) X.env = (false, eval e X.env) :: starEach es X.env := by rfl) (Bv : (backTo pos (starEach es X.env)).any (·.1) = false := by rfl)
 (ht : eval (.Call (.Attribute o m apos) (e :: es) [] pos) X.env = (do
  let ov <- eval o X.env
  standAt apos.atName
  let (f, first) <- holding [ov] (getMethod ov m pl)
  callWith pos f first (backTo pos (starEach (e :: es) X.env)) (backToKw pos (keywordEach [] X.env))) := by rfl) :
 PE X (.Call (.Attribute o m apos) (e :: es) [] pos) (FR C m sp c3 E0 ta t) := by
 obtain ⟨fd, ds, F, hb, hd⟩ := F.ex
 exact QZ he c hm F hr hb hd FX ha AO Bv ht
theorem PX {pl : Sem Bool} (he : PE X o ta) (c : zk X.K C) (hm : Meth X.K C m f) (F : dr X.prog X.w X.K X.mg X.base k f ps c3 sp) (hr : c9 k X.A)
 (ht : eval (.Call (.Attribute o m apos) [] [] pos) X.env = (do
  let ov <- eval o X.env
  standAt apos.atName
  let (f, first) <- holding [ov] (getMethod ov m pl)
  callWith pos f first (backTo pos (starEach [] X.env)) (backToKw pos (keywordEach [] X.env))) := by rfl) :
 PE X (.Call (.Attribute o m apos) [] [] pos) (FR C m sp c3 E0 ta Kf) := by
 obtain ⟨fd, ds, F, hb, hd⟩ := F.ex
 exact OS he c hm F hr hb hd FX ht
theorem Sv (M : Mk X.K C f) (F : dr X.prog X.w X.K X.mg X.base k f ps c3 sp) (hr : c9 (k + 1) X.A) (hg : Gl X x) (hm : X.mg x = some (.ref C))
 (ha : PA X (e :: es) t) (zp : (x == ("__debug__" : Str)) = false := by decide) (he : starEach (e :: es) X.env = (false, eval e X.env) :: starEach es X.env := by rfl) (Bv : (backTo pos (starEach es X.env)).any (·.1) = false := by rfl) :
 PE X (.Call (.Name x p) (e :: es) [] pos) (HN C sp c3 E0 t) := by
 obtain ⟨fd, ds, F, hb, hd⟩ := F.ex
 exact Ta M F hr hg hm hb hd FX ha zp he Bv
theorem Rz {pl : Sem Bool} (hg : Gl X x) (hm : X.mg x = some (.ref C)) (B : Iu X.K C m f) (F : dr X.prog X.w X.K X.mg X.base k f ps c3 sp) (hr : c9 k X.A) (ha : PA X (e :: es) t)
 (zp : (x == ("__debug__" : Str)) = false := by decide)
 (AO : starEach (e :: es) X.env = (false, eval e X.env) :: starEach es X.env := by rfl) (Bv : (backTo pos (starEach es X.env)).any (·.1) = false := by rfl)
 (ht : eval (.Call (.Attribute (.Name x p) m apos) (e :: es) [] pos) X.env = (do
  let ov <- eval (.Name x p) X.env
  standAt apos.atName
  let (f, first) <- holding [ov] (getMethod ov m pl)
  callWith pos f first (backTo pos (starEach (e :: es) X.env)) (backToKw pos (keywordEach [] X.env))) := by rfl) :
 PE X (.Call (.Attribute (.Name x p) m apos) (e :: es) [] pos) (F9 sp c3 E0 t) := by
 obtain ⟨fd, ds, F, hb, hd⟩ := F.ex
 exact Tj hg hm B F hr hb hd FX ha zp AO Bv ht
end
structure aW (K : PySem.W.Frag) (x qual : Str) (st : Stmt) (f : Addr) (dV : Value) (fd : FuncData) : Prop where
 ex : ∃ (oc : Value) (od : Option Addr) (kV doc pm : Value) (an : Option Addr) (cJ ct : Value) (QG : Array (Option Value)),
  fd = PySem.W.fnOf x qual (Ak st) (wH st) (ak st) dV kV doc pm an cJ ct /\ K.lookup f = some ⟨oc, od, .func fd, QG⟩ /\ PySem.W.codeIn K cJ qual = true
theorem K1 {K : PySem.W.Frag} {x qual : Str} {st : Stmt} {f : Addr} {oc : Value} {od an : Option Addr} {QG : Array (Option Value)} {dV kV doc pm cJ ct : Value} (l : K.lookup f = some ⟨oc, od, .func (PySem.W.fnOf x qual (Ak st) (wH st) (ak st) dV kV doc pm an cJ ct), QG⟩)
 (c : PySem.W.codeIn K cJ qual = true) : aW K x qual st f dV (PySem.W.fnOf x qual (Ak st) (wH st) (ak st) dV kV doc pm an cJ ct) := ⟨⟨oc, od, kV, doc, pm, an, cJ, ct, QG, rfl, l, c⟩⟩
section
variable {P : Program} {w : World} {K : PySem.W.Frag} {mg : Str -> Option Value} {base : Heap}
theorem aW.ok {x qual : Str} {st : Stmt} {f : Addr} {dV : Value} {fd : FuncData} {N ps : List Str} {k : Nat} {sp : Sp} (F : aW K x qual st f dV fd) (S : aq N ps (ak st)) (len : ∀ vs H Q E, sp vs H Q E -> vs.length = ps.length)
 (NW : ∀ (cJ : Value) (A : Around) (outer : List Env) (s : Shared) (H : Hp) (vs : List V) (Q : VK) (E : XK), c9 k (A.deeper (envOfC qual (ak st) s.heap.objs.size f cJ)) -> sp vs H Q E ->
  ∃ t, Jf (Md eS P w K mg base N qual (ak st) f cJ A outer s H E).nox (wH st) t /\ t { nx := fun _ H' => Q .aT H', rt := Q } (start N vs) H) : aK P w K mg base eS (k + 1) f fd ps sp := by
 obtain ⟨oc, od, kV, doc, pm, an, cJ, ct, QG, rfl, lk, NN⟩ := F.ex
 refine Zt lk NN S len fun A outer s H vs Q E hr QP => ?_
 obtain ⟨t, h, q⟩ := NW cJ A outer s H vs Q E hr QP
 exact ⟨t, h.nox, q⟩
theorem aW.binds {x qual : Str} {st : Stmt} {f : Addr} {dV : Value} {fd : FuncData} {ps : List Str} {ds : List Value} (F : aW K x qual st f dV fd)
 (h : ∀ (kV doc pm : Value) (an : Option Addr) (cJ ct : Value), Binds K (PySem.W.fnOf x qual (Ak st) (wH st) (ak st) dV kV doc pm an cJ ct) ps ds) : Binds K fd ps ds := by
 obtain ⟨oc, od, kV, doc, pm, an, cJ, ct, QG, rfl, lk, NN⟩ := F.ex
 exact h kV doc pm an cJ ct
end
structure EV (K : PySem.W.Frag) (T : Addr) (items : Array Value) : Prop where
 ex : ∃ (o : Obj) (n : Nat), K.lookup T = some o /\ o.data = .seq items n
structure Yp (K : PySem.W.Frag) (C : Addr) : Prop where
 ha : PySem.W.findIn K (.ref C) "__class__" = some (some (.builtin "object.__class__"))
 hn : PySem.W.specialIn K (.builtin "object.__class__") "__get__" = some (some (.builtin "getset_descriptor.__get__"))
 ht : PySem.W.takesIn K (.builtin "object.__class__") = some true
 hm : PySem.W.mroIn K C (.type "object") = some true
section
variable {σ : St} {H : Hp} {Q : VK} {D : Ends} {K : PySem.W.Frag}
theorem Vc (h : D.nx σ H) : Qj D σ H := h
theorem YD {te : TE} (h : te σ H D.rt) : Z7 te D σ H := h
theorem Vj {te : TE} (h : te σ H fun _ H1 => D.nx σ H1) : UJ te D σ H := h
theorem Y9 {c : TT} {t u : TS} (h : c σ H fun b H1 => if b = true then t D σ H1 else u D σ H1) : Zb c t u D σ H := h
theorem YX {te : TE} {i : Nat} (h : te σ H fun x H1 => D.nx (σ.set i (some x)) H1) : Mg te (iT i) D σ H := h
theorem QH {i : Nat} {v : V} (e : σ[i]? = some (some v)) (h : Q v H) : Xl i σ H Q := ⟨v, e, h⟩
theorem r_c {v : V} (h : Q v H) : tC v σ H Q := h
theorem acM {r : R2} {ta tb : TE} (h : ta σ H fun x H1 => tb σ H1 fun y H2 => r x y H2 Q) : Zw r ta tb σ H Q := h
theorem acq {g : Int -> Int -> V} {i j : Int} (h : Q (g i j) H) : T4 g (.int i) (.int j) H Q := ⟨i, j, rfl, rfl, h⟩
theorem r_i {C : Int -> Int -> Prop} {g : Int -> Int -> V} {i j : Int} (c : C i j) (h : Q (g i j) H) : rI C g (.int i) (.int j) H Q := ⟨i, j, rfl, rfl, c, h⟩
theorem WW {t : TE} {Q : Bool -> Hp -> Prop} (h : t σ H fun x H' => ∃ k, x = .bl k /\ Q k H') : U2 t σ H Q := h
theorem Ya {t u : TT} {Q : Bool -> Hp -> Prop} (h : t σ H fun c H1 => if c = true then u σ H1 Q else Q false H1) : Yf t u σ H Q := h
theorem abw {t u : TT} {Q : Bool -> Hp -> Prop} (h : t σ H fun c H1 => if c = true then Q true H1 else u σ H1 Q) : tOr t u σ H Q := h
theorem Zz {t : TT} {Q : Bool -> Hp -> Prop} (h : t σ H fun c H1 => Q (!c) H1) : Yj t σ H Q := h
theorem Xg {ta tb : TE} (h : ta σ H fun x H1 => ∃ c, x = .bl c /\ if c = true then tb σ H1 Q else Q (.bl false) H1) : Uv ta tb σ H Q := h
theorem ZG {ta tb : TE} (h : ta σ H fun x H1 => ∃ c, x = .bl c /\ if c = true then Q (.bl true) H1 else tb σ H1 Q) : Yu ta tb σ H Q := h
theorem XE {ta : TE} (h : ta σ H fun x H1 => ∃ c, x = .bl c /\ Q (.bl (!c)) H1) : U0 ta σ H Q := h
theorem aaj {t : TT} {ta tb : TE} (h : t σ H fun c H1 => if c = true then ta σ H1 Q else tb σ H1 Q) : tIf t ta tb σ H Q := h
theorem acI {b : Bool} {R : Bool -> Prop} (h : R b) : ∃ k, V.bl b = .bl k /\ R k := ⟨b, rfl, h⟩
theorem Y4 {Q : List V -> Hp -> Prop} (h : Q [] H) : Kf σ H Q := h
theorem W4 {ta : TE} {tr : TA} {Q : List V -> Hp -> Prop} (h : ta σ H fun x H1 => tr σ H1 fun xs H2 => Q (x :: xs) H2) : UY ta tr σ H Q := h
theorem acz {r : List V -> Hp -> VK -> Prop} {t : TA} (h : t σ H fun vs H1 => r vs H1 Q) : tCB r t σ H Q := h
theorem Sb {C : Addr} {m : Str} {dx p : Addr} {fs : List (Str × V)} {R : Prop} (hp : H p = some (.ins C dx fs)) (hl : fs.lookup m = none) (h : R) : ∃ a dx fs, V.ref p = .ref a /\ H a = some (.ins C dx fs) /\ fs.lookup m = none /\ R := ⟨p, dx, fs, rfl, hp, hl, h⟩
theorem ZT {ta : TE} {f : Str} (h : ta σ H fun x H1 => ∃ a C dx fs v, x = .ref a /\ H1 a = some (.ins C dx fs) /\ zk K C /\ aJ K C f /\ fs.lookup f = some v /\ Q v H1) : Wi K ta f σ H Q := h
theorem PN {A B : Prop} (h : A) : if true = true then A else B := by rw [if_pos rfl]; exact h
theorem Mj {A B : Prop} (h : B) : if false = true then A else B := by rw [if_neg Bool.false_ne_true]; exact h
end
section
variable {X : Cx} {e : Expr} {es : List Expr}
theorem PE.weak {t u : TE} (h1 : PE X e t) (h : ∀ σ H Q, u σ H Q -> t σ H Q) : PE X e u := fun pins s σ H Q I q => h1 pins s σ H Q I (h σ H Q q)
def mA (t : TA) : TA := fun σ H Q => ∃ Q' : List V -> Hp -> Prop, t σ H Q' /\ ∀ v H', Q' v H' -> Q v H'
theorem PA.m {t : TA} (h : PA X es t) : PA X es (mA t) := fun pos pins s σ H Q I ⟨Q', q, m⟩ => dj (h pos pins s σ H Q' I q) fun _ _ ⟨v, H', I', r, z⟩ => ⟨v, H', I', r, m v H' z⟩
end
def ack : Key -> PyData
 | .inl i => .int i
 | .inr x => .str x
mutual
inductive Dv (H : Hp) : V -> PyData -> Prop where
 | aT : Dv H .aT .none
 | bl (b : Bool) : Dv H (.bl b) (.bool b)
 | int (i : Int) : Dv H (.int i) (.int i)
 | str (x : Str) : Dv H (.str x) (.str x)
 | tup {a : Addr} {xs : List V} {ds : List PyData} (h : H a = some (.tup xs)) (r : cI H xs ds) : Dv H (.ref a) (.tuple ds)
 | lst {a : Addr} {xs : List V} {ds : List PyData} (h : Rd H a (.lst xs)) (r : cI H xs ds) : Dv H (.ref a) (.list ds)
 | dct {a : Addr} {kvs : List (Key × V)} {ds : List (PyData × PyData)} (h : H a = some (.dK kvs)) (r : Rt H kvs ds) : Dv H (.ref a) (.dict ds)
inductive Rt (H : Hp) : List (Key × V) -> List (PyData × PyData) -> Prop where
 | nil : Rt H [] []
 | cons {k : Key} {x : V} {d : PyData} {xs : List (Key × V)} {ds : List (PyData × PyData)} (h : Dv H x d) (r : Rt H xs ds) : Rt H ((k, x) :: xs) ((ack k, d) :: ds)
inductive cI (H : Hp) : List V -> List PyData -> Prop where
 | nil : cI H [] []
 | cons {x : V} {d : PyData} {xs : List V} {ds : List PyData} (h : Dv H x d) (r : cI H xs ds) : cI H (x :: xs) (d :: ds)
end
mutual
theorem Dv.has {K : PySem.W.Frag} {H : Hp} : ∀ {v : V} {d : PyData}, Dv H v d -> d.canLay0 = true -> wy K H v d
 | _, _, .aT, _ => .aT
 | _, _, .bl b, _ => .bl b
 | _, _, .int i, _ => .int i
 | _, _, .str x, _ => .str x
 | _, _, .tup h r, c => .tup (.of h) (cI.has r (by simpa [PyData.canLay0] using c))
 | _, _, .lst h r, c => .lst (.inl h) (cI.has r (by simpa [PyData.canLay0] using c))
 | _, _, .dct h r, c => by simp [PyData.canLay0] at c
theorem cI.has {K : PySem.W.Frag} {H : Hp} : ∀ {v : List V} {d : List PyData}, cI H v d -> PyData.canLayAll0 d = true -> gQ K H v d
 | _, _, .nil, _ => .nil
 | _, _, .cons h r, c => by
   have c' := c
   simp only [PyData.canLayAll0, Bool.and_eq_true] at c'
   exact .cons (Dv.has h c'.1) (cI.has r c'.2)
end
theorem ax.rd {H H' : Hp} {a : Addr} {u : HO} (e : ax H H') (h : Rd H a u) : Rd H' a u := by
 rcases h with h | ⟨o, h⟩
 . exact .inl (e _ _ h)
 . exact .inr ⟨o, e _ _ h⟩
mutual
theorem Dv.keeps {H H' : Hp} (e : ax H H') : ∀ {v : V} {d : PyData}, Dv H v d -> Dv H' v d
 | _, _, .aT => .aT
 | _, _, .bl b => .bl b
 | _, _, .int i => .int i
 | _, _, .str x => .str x
 | _, _, .tup h r => .tup (e _ _ h) (cI.keeps e r)
 | _, _, .lst h r => .lst (e.rd h) (cI.keeps e r)
 | _, _, .dct h r => .dct (e _ _ h) (Rt.keeps e r)
theorem Rt.keeps {H H' : Hp} (e : ax H H') : ∀ {v : List (Key × V)} {d : List (PyData × PyData)}, Rt H v d -> Rt H' v d
 | _, _, .nil => .nil
 | _, _, .cons h r => .cons (Dv.keeps e h) (Rt.keeps e r)
theorem cI.keeps {H H' : Hp} (e : ax H H') : ∀ {v : List V} {d : List PyData}, cI H v d -> cI H' v d
 | _, _, .nil => .nil
 | _, _, .cons h r => .cons (Dv.keeps e h) (cI.keeps e r)
end
theorem cI.length {H : Hp} : ∀ {xs : List V} {ds : List PyData}, cI H xs ds -> xs.length = ds.length
 | _, _, .nil => rfl
 | _, _, .cons _ r => by simp [cI.length r]
theorem cI.get {H : Hp} : ∀ {xs : List V} {ds : List PyData} {i : Nat} {d : PyData}, cI H xs ds -> ds[i]? = some d -> ∃ x, xs[i]? = some x /\ Dv H x d
 | _, _, _, _, .nil, e => by simp at e
 | _, _, 0, _, .cons h _, e => by simp at e; subst e; exact ⟨_, rfl, h⟩
 | _, _, i + 1, x, .cons _ r, e => by
   obtain ⟨d, h1, h2⟩ := cI.get (i := i) (d := x) r (by simpa using e)
   exact ⟨d, by simpa using h1, h2⟩
theorem cI.append {H : Hp} : ∀ {xs ys : List V} {ds es : List PyData}, cI H xs ds -> cI H ys es -> cI H (xs ++ ys) (ds ++ es)
 | _, _, _, _, .nil, s => s
 | _, _, _, _, .cons r t, s => .cons r (cI.append t s)
theorem Dv.int_inv {H : Hp} {v : V} {i : Int} (h : Dv H v (.int i)) : v = .int i := by cases h; rfl
theorem Dv.Hi {H : Hp} {v : V} (h : Dv H v .none) : v = .aT := by cases h; rfl
theorem Dv.str_inv {H : Hp} {v : V} {i : Str} (h : Dv H v (.str i)) : v = .str i := by cases h; rfl
def DV (H : Hp) (d : PyData) (Q : VK) : Prop := match d with
 | .none => Q .aT H
 | .bool b => Q (.bl b) H
 | .int i => Q (.int i) H
 | .str x => Q (.str x) H
 | d => ∀ v, Dv H v d -> Q v H
theorem DV.use {H : Hp} {d : PyData} {Q : VK} (g : DV H d Q) {v : V} (h : Dv H v d) : Q v H := by
 cases h with
 | aT => exact g
 | bl b => exact g
 | int i => exact g
 | str x => exact g
 | tup h r => exact g _ (.tup h r)
 | lst h r => exact g _ (.lst h r)
 | dct h r => exact g _ (.dct h r)
theorem LD {H : Hp} {xs : List V} {ds : List PyData} {i : Int} {d : PyData} (r : cI H xs ds) (h : Hx ds i = some d) : ∃ x, Hx xs i = some x /\ Dv H x d := by
 unfold Hx at h ⊢
 rw [r.length]
 cases e : VN ds.length i with
 | none => rw [e] at h; simp at h
 | some j =>
   rw [e] at h
   have h' : ds[j]? = some d := by simpa using h
   obtain ⟨x, h1, h2⟩ := r.get h'
   exact ⟨x, by simpa using h1, h2⟩
def F1 (H : Hp) (v : V) (ds : List PyData) : Prop := Dv H v (.tuple ds) \/ Dv H v (.list ds)
def YL : R2 := fun x y H Q => ∃ ds i d, y = .int i /\ F1 H x ds /\ Hx ds i = some d /\ DV H d Q
theorem Tv {K : PySem.W.Frag} {x y : V} {H : Hp} {Q : VK} (h : YL x y H Q) : rIx K x y H Q := by
 obtain ⟨ds, i, d, rfl, hs, hi, g⟩ := h
 rcases hs with hs | hs
 . cases hs with
   | tup h r =>
     obtain ⟨v, h1, h2⟩ := LD r hi
     exact .inr (.inl ⟨_, _, i, v, rfl, rfl, .of h, h1, g.use h2⟩)
 . cases hs with
   | lst h r =>
     obtain ⟨v, h1, h2⟩ := LD r hi
     exact .inl ⟨_, _, i, v, rfl, rfl, .inl h, h1, g.use h2⟩
section
variable {X : Cx}
def U7 : R2 := fun x y H Q => YL x y H Q \/ VM x y H Q
theorem acf : NK X U7 := fun value slice pins s σ H x y v u Q I r1 r2 h => Ww value slice pins s σ H x y v u Q I r1 r2 (h.elim Tv fun z => .inr (.inr z))
def O7 : List V -> Hp -> VK -> Prop := fun xs H Q => (∃ v ds, xs = [v] /\ F1 H v ds /\ Q (.int (ds.length : Nat)) H) \/ ∃ z, xs = [.str z] /\ z.length <= sizeLine /\ Q (.int (z.length : Nat)) H
theorem LY : iS X (.builtin "len") O7 := fun pins s σ H xs us Q I r h => by
 rcases h with ⟨v, ds, rfl, hs, q⟩ | h
 . rcases hs with hs | hs
   . cases hs with
     | tup h t => exact p9 pins s σ H _ us Q I r ⟨_, _, rfl, .inr (.of h), by rw [t.length]; exact q⟩
   . cases hs with
     | lst h t => exact p9 pins s σ H _ us Q I r ⟨_, _, rfl, .inl (.inl h), by rw [t.length]; exact q⟩
 . exact Hq pins s σ H _ us Q I r h
def tyN : PyData -> String
 | .none => "NoneType" | .bool _ => "bool" | .int _ => "int" | .str _ => "str" | .list _ => "list" | .tuple _ => "tuple" | .dict _ => "dict"
def Oz (t n : String) : Option Bool := if ((Value.type t) == (Value.type n)) = true then some true else if PySem.W.kitMeta n = true then (PySem.fastBuiltinMro t).map (·.contains (.type n)) else none
theorem PB {K : PySem.W.Frag} {t n : String} {b : Bool} (h : Oz t n = some b) : PySem.W.kitOne K (.type t) (.type n) = some b := h
def Xi (t n : String) : Bool := t == n || (t == "bool" && n == "int")
theorem Nr : (["NoneType", "bool", "int", "str", "list", "tuple", "dict"].all fun t => ["int", "bool", "str", "list", "tuple", "dict"].all fun n => Oz t n == some (Xi t n)) = true := by decide +kernel
theorem Pj {t n : String} (ht : t ∈ ["NoneType", "bool", "int", "str", "list", "tuple", "dict"]) (hn : n ∈ ["int", "bool", "str", "list", "tuple", "dict"]) : Oz t n = some (Xi t n) := by
 have h := List.all_eq_true.mp (List.all_eq_true.mp Nr t ht) n hn
 exact beq_iff_eq.mp h
theorem R0 (d : PyData) : tyN d ∈ ["NoneType", "bool", "int", "str", "list", "tuple", "dict"] := by
 cases d <;> simp [tyN]
theorem Dv.ty {K : PySem.W.Frag} {H : Hp} {v : V} {d : PyData} (h : Dv H v d) : Aj K H v (.type (tyN d)) := by
 cases h with
 | aT => exact .aT
 | bl b => exact .bl b
 | int i => exact .int i
 | str x => exact .str x
 | tup h r => exact .tup h
 | lst h r =>
   rcases h with h | ⟨o, h⟩
   . exact .lst h
   . exact .uJ h
 | dct h r => exact .dK h
theorem Eh {K : PySem.W.Frag} {H : Hp} {v : V} {d : PyData} {n : String} {Q : VK} (h : Dv H v d) (hn : n ∈ ["int", "bool", "str", "list", "tuple", "dict"]) (q : Q (.bl (Xi (tyN d) n)) H) : JA K [v, .ty n] H Q :=
 ⟨v, .ty n, .type n, _, _, rfl, .ty n, h.ty, PB (Pj (R0 d) hn), q⟩
def OL (K : PySem.W.Frag) (f : Bool -> Bool) : R2 := fun x y H Q => (SV x y = true /\ Q (.bl (f (decide (x = y)))) H) \/ ∃ d e, Dv H x d /\ Dv H y e /\ d.canLay0 = true /\ e.canLay0 = true /\ d.depth <= 8 /\ Q (.bl (f (PyData.eqv d e))) H
theorem BE (hu : X.A.units + 8 < cLine) : Bw X (compareOp .Eq) (OL X.K id) := fun pins s σ H x y v u Q I rx ry h => by
 rcases h with h | ⟨d, e, h1, h2, h3, h4, h5, h6⟩
 . exact YS pins s σ H x y v u Q I rx ry h
 . exact XD hu pins s σ H x y v u Q I rx ry ⟨d, e, h1.has h3, h2.has h4, h3, h4, h5, h6⟩
theorem JP (hu : X.A.units + 8 < cLine) : Bw X (compareOp .NotEq) (OL X.K not) := fun pins s σ H x y v u Q I rx ry h => by
 rcases h with h | ⟨d, e, h1, h2, h3, h4, h5, h6⟩
 . exact Ze pins s σ H x y v u Q I rx ry h
 . exact Wh hu pins s σ H x y v u Q I rx ry ⟨d, e, h1.has h3, h2.has h4, h3, h4, h5, h6⟩
variable {es : List Expr} {t : TA} {pos : Pos}
def Xw (xs : List V) (H1 : Hp) (Q : VK) : Prop := xs.length <= sizeLine /\ ∃ ds, cI H1 xs ds /\ ∀ p H2, ax H1 H2 -> H1 p = none -> H2 p = some (.tup xs) -> Dv H2 (.ref p) (.tuple ds) -> Q (.ref p) H2
def Ru (xs : List V) (H1 : Hp) (Q : VK) : Prop := xs.length <= sizeLine /\ ∃ ds, cI H1 xs ds /\ ∀ p H2, ax H1 H2 -> H1 p = none -> H2 p = some (.lst xs) -> cI H2 xs ds -> Dv H2 (.ref p) (.list ds) -> Q (.ref p) H2
def Uj (t : TA) : TE := fun σ H Q => t σ H fun xs H1 => Xw xs H1 Q
theorem bX {x1} (h : PA X es t) : PE X (.Tuple es x1 pos) (Uj t) := PE.weak (Vw h.m) fun σ H Q q => ⟨_, q, fun xs H1 ⟨hl, ds, hd, k⟩ => ⟨hl, fun p hp => by
 have sm : ax H1 (upd H1 p (.tup xs)) := fun b u e => by rw [av (aB e hp)]; exact e
 exact k p _ sm hp au (.tup au (hd.keeps sm))⟩⟩
def UI (t : TA) : TE := fun σ H Q => t σ H fun xs H1 => Ru xs H1 Q
theorem gK (h : PA X es t) : PE X (.List es pos) (UI t) := PE.weak (V5 h.m) fun σ H Q q => ⟨_, q, fun xs H1 ⟨hl, ds, hd, k⟩ => ⟨hl, fun p hp => by
 have sm : ax H1 (upd H1 p (.lst xs)) := fun b u e => by rw [av (aB e hp)]; exact e
 exact k p _ sm hp au (hd.keeps sm) (.lst (.of au) (hd.keeps sm))⟩⟩
variable {st : Stmt} {rest : List Stmt}
def Vy (t u : TS) : TS := fun D σ H => ∃ R : St -> Hp -> Prop, t { D with nx := R } σ H /\ ∀ σ' H', R σ' H' -> u D σ' H'
theorem ah {t u : TS} (h1 : PS X st t) (h2 : Jf X rest u) : Jf X (st :: rest) (Vy t u) := by
 intro pins s σ H D I ⟨R, h, k⟩
 refine wpAny_execs_cons (dj (h1 pins s σ H { D with nx := R } I h) fun f s1 q => ?_)
 cases f with
 | next =>
   obtain ⟨σ', H', I', q⟩ := q
   exact h2 pins s1 σ' H' D I' (k _ _ q)
 | ret v => exact q
 | brk => exact q
 | cont => exact q
end
section
variable {σ : St} {H : Hp} {Q : VK} {D : Ends} {K : PySem.W.Frag}
theorem VU {t u : TS} (h : t { D with nx := u D } σ H) : Vy t u D σ H := ⟨u D, h, fun _ _ z => z⟩
theorem WU {t : TA} (h : t σ H fun xs H1 => Xw xs H1 Q) : Uj t σ H Q := h
theorem Vt {xs : List V} {ds : List PyData} (hl : xs.length <= sizeLine) (hd : cI H xs ds) (k : ∀ v H2, ax H H2 -> Dv H2 v (.tuple ds) -> Q v H2) : Xw xs H Q := ⟨hl, ds, hd, fun p H2 s _ _ d => k (.ref p) H2 s d⟩
theorem Wd {t : TA} (h : t σ H fun xs H1 => Ru xs H1 Q) : UI t σ H Q := h
theorem aae {f : Bool -> Bool} {x y : V} (e : SV x y = true) (h : Q (.bl (f (decide (x = y)))) H) : OL K f x y H Q := .inl ⟨e, h⟩
theorem Uo {f : Bool -> Bool} {x y : V} {d e : PyData} (h1 : Dv H x d) (h2 : Dv H y e) (h3 : d.canLay0 = true) (h4 : e.canLay0 = true) (h5 : d.depth <= 8) (h : Q (.bl (f (PyData.eqv d e))) H) : OL K f x y H Q := .inr ⟨d, e, h1, h2, h3, h4, h5, h⟩
theorem ZZ {x : V} {ds : List PyData} {i : Int} {d : PyData} (hs : F1 H x ds) (hi : Hx ds i = some d) (g : DV H d Q) : U7 x (.int i) H Q := .inl ⟨ds, i, d, rfl, hs, hi, g⟩
theorem Vp {v : V} {ds : List PyData} (hs : F1 H v ds) (h : Q (.int (ds.length : Nat)) H) : O7 [v] H Q := .inl ⟨v, ds, rfl, hs, h⟩
theorem Tx {i : Int} (h : Q (.int i) H) : DV H (.int i) Q := h
theorem Sr (h : Q .aT H) : DV H .none Q := h
theorem T7 {i : Str} (h : Q (.str i) H) : DV H (.str i) Q := h
theorem VE {i : Bool} (h : Q (.bl i) H) : DV H (.bool i) Q := h
theorem Ye {b : Bool} {A B : Prop} (h1 : b = true -> A) (h2 : b = false -> B) : if b = true then A else B := by
 cases b
 . exact aa9 (h2 rfl)
 . exact acX (h1 rfl)
end
theorem c9.RZ {k : Nat} {A : Around} (r : c9 k A) : A.units + 8 < cLine := Nat.lt_of_le_of_lt (by omega) r.units
theorem ax.at {H H' : Hp} {a : Addr} {o : HO} (s : ax H H') (h : H a = some o) : H' a = some o := s a o h
theorem cF {H : Hp} {t : Addr} {o : HO} (h : H t = none) : ax H (upd H t o) := fun b u e => by rw [av (aB e h)]; exact e
section
variable {σ : St} {H : Hp} {Q : VK} {D : Ends} {K : PySem.W.Frag}
theorem Rj {v : V} {R : St -> Hp -> Prop} {rt : VK} {bk ct : St -> Hp -> Prop} (h : rt v H) : (Ends.mk R rt bk ct).rt v H := h
end
def isInt : PyData -> Bool | .int _ => true | .bool _ => true | _ => false
def isBool : PyData -> Bool | .bool _ => true | _ => false
def isStr : PyData -> Bool | .str _ => true | _ => false
def UM : PyData -> Bool | .list _ => true | _ => false
def isTup : PyData -> Bool | .tuple _ => true | _ => false
def YK : PyData -> Bool | .dict _ => true | _ => false
section
variable {K : PySem.W.Frag} {H : Hp} {v : V} {d : PyData} {Q : VK}
theorem MR (h : Dv H v d) (q : Q (.bl (isInt d)) H) : JA K [v, .ty "int"] H Q := Eh h (by decide) (by cases d <;> exact q)
theorem Ki (h : Dv H v d) (q : Q (.bl (isBool d)) H) : JA K [v, .ty "bool"] H Q := Eh h (by decide) (by cases d <;> exact q)
theorem M3 (h : Dv H v d) (q : Q (.bl (isStr d)) H) : JA K [v, .ty "str"] H Q := Eh h (by decide) (by cases d <;> exact q)
theorem L3 (h : Dv H v d) (q : Q (.bl (UM d)) H) : JA K [v, .ty "list"] H Q := Eh h (by decide) (by cases d <;> exact q)
theorem Nc (h : Dv H v d) (q : Q (.bl (isTup d)) H) : JA K [v, .ty "tuple"] H Q := Eh h (by decide) (by cases d <;> exact q)
def qg (H : Hp) (v : V) (C : Addr) (fs : List (Str × V)) : Prop := ∃ p dx, v = .ref p /\ H p = some (.ins C dx fs)
theorem qg.keeps {H H' : Hp} {C : Addr} {fs : List (Str × V)} (s : ax H H') (h : qg H v C fs) : qg H' v C fs := by
 obtain ⟨p, dx, rfl, e⟩ := h; exact ⟨p, dx, rfl, s _ _ e⟩
theorem VB {R : V -> Prop} {C : Addr} {fs : List (Str × V)} {f : Str} {x : V} (hp : qg H v C fs) (c : zk K C) (n : aJ K C f) (l : fs.lookup f = some x) (h : R x) :
 ∃ a C dx fs x, v = .ref a /\ H a = some (.ins C dx fs) /\ zk K C /\ aJ K C f /\ fs.lookup f = some x /\ R x := by
 obtain ⟨p, dx, rfl, e⟩ := hp
 exact ⟨p, C, dx, fs, x, rfl, e, c, n, l, h⟩
theorem SX {C : Addr} {m : Str} {fs : List (Str × V)} {R : Prop} (hp : qg H v C fs) (hl : fs.lookup m = none) (h : R) : ∃ a dx fs, v = .ref a /\ H a = some (.ins C dx fs) /\ fs.lookup m = none /\ R := by
 obtain ⟨p, dx, rfl, e⟩ := hp
 exact ⟨p, dx, fs, rfl, e, hl, h⟩
end
def look (f : Str) : List (Str × V) -> Option V
 | [] => none
 | (g, v) :: r => if f = g then some v else look f r
theorem CZ (f : Str) : ∀ fs : List (Str × V), fs.lookup f = look f fs
 | [] => rfl
 | (g, v) :: r => by
   show (match f == g with | true => some v | false => r.lookup f) = if f = g then some v else look f r
   by_cases h : f = g
   . subst h; rw [if_pos rfl, beq_self_eq_true]
   . rw [if_neg h, beq_eq_false_iff_ne.mpr h]; exact CZ f r
section
variable {X : Cx}
def PF (K : PySem.W.Frag) : R2 := fun x y H Q => U7 x y H Q \/ WZ K x y H Q
theorem cf : NK X (PF X.K) := fun value slice pins s σ H x y v u Q I r1 r2 h => h.elim (acf value slice pins s σ H x y v u Q I r1 r2) (Lr value slice pins s σ H x y v u Q I r1 r2)
def LA (K : PySem.W.Frag) : List V -> Hp -> VK -> Prop := fun xs H Q => O7 xs H Q \/ ∃ p ys, xs = [.ref p] /\ i9 K H p ys /\ Q (.int ys.length) H
theorem Ca : iS X (.builtin "len") (LA X.K) := fun pins s σ H xs us Q I r h => by
 rcases h with h | ⟨p, ys, e, hl, q⟩
 . exact LY pins s σ H xs us Q I r h
 . exact p9 pins s σ H xs us Q I r ⟨p, ys, e, .inl hl, q⟩
end
section
variable {σ : St} {H : Hp} {Q : VK} {D : Ends} {K : PySem.W.Frag}
theorem P9 {x : V} {ds : List PyData} {i : Int} {d : PyData} (hs : F1 H x ds) (hi : Hx ds i = some d) (g : DV H d Q) : PF K x (.int i) H Q := .inl (ZZ hs hi g)
theorem U3 {p : Addr} {xs : List V} {i : Int} {v : V} (hs : i9 K H p xs) (hi : Hx xs i = some v) (g : Q v H) : PF K (.ref p) (.int i) H Q := .inr ⟨p, xs, i, v, rfl, rfl, hs, hi, g⟩
theorem Oy {v : V} {ds : List PyData} (hs : F1 H v ds) (h : Q (.int (ds.length : Nat)) H) : LA K [v] H Q := .inl (Vp hs h)
theorem Xp {p : Addr} {xs : List V} (hs : i9 K H p xs) (h : Q (.int xs.length) H) : LA K [.ref p] H Q := .inr ⟨p, xs, rfl, hs, h⟩
theorem V1 {ta tv : TE} {f : Str} (h : tv σ H fun y H1 => ta σ H1 fun x H2 => ∃ a C dx fs, x = .ref a /\ H2 a = some (.ins C dx fs) /\ zk K C /\ aJ K C f /\ fs.length < 1000 /\ D.nx σ (upd H2 a (.ins C dx (pe f y fs)))) : Yx K ta tv f D σ H := h
theorem Tc {p C dx : Addr} {fs fs' : List (Str × V)} {f : Str} {y : V} (hp : H p = some (.ins C dx fs)) (c : zk K C) (n : aJ K C f) (hl : fs.length < 1000) (e : pe f y fs = fs') (h : D.nx σ (upd H p (.ins C dx fs'))) :
 ∃ a C dx fs, V.ref p = .ref a /\ H a = some (.ins C dx fs) /\ zk K C /\ aJ K C f /\ fs.length < 1000 /\ D.nx σ (upd H a (.ins C dx (pe f y fs))) := ⟨p, C, dx, fs, rfl, hp, c, n, hl, by rw [e]; exact h⟩
def GK (C : Addr) (pre : List V -> Prop) (fs : List V -> List (Str × V)) : Sp := fun vs H Q _ => ∃ p dx args, vs = .ref p :: args /\ pre args /\ H p = some (.ins C dx []) /\ Q .aT (upd H p (.ins C dx (fs args)))
theorem QY {C : Addr} {pre : List V -> Prop} {fs : List V -> List (Str × V)} {args : List V} {E : XK} (hp : pre args) (k : ∀ v H2, ax H H2 -> qg H2 v C (fs args) -> Q v H2) :
 ∀ x dx, H x = none -> H dx = none -> dx ≠ x -> GK C pre fs (.ref x :: args) (upd (upd H dx (.own x)) x (.ins C dx [])) (fun v H2 => v = .aT /\ Q (.ref x) H2) E := by
 intro x dx hx hd ne
 refine ⟨x, dx, args, rfl, hp, au, rfl, k _ _ (fun b u e => ?_) ⟨x, dx, rfl, au⟩⟩
 rw [av (aB e hx), av (aB e hx), av (aB e hd)]
 exact e
theorem W8 {R : V -> Prop} {C dx p : Addr} {fs : List (Str × V)} {f : Str} {v : V} (hp : H p = some (.ins C dx fs)) (c : zk K C) (n : aJ K C f) (l : fs.lookup f = some v) (h : R v) :
 ∃ a C dx fs v, V.ref p = .ref a /\ H a = some (.ins C dx fs) /\ zk K C /\ aJ K C f /\ fs.lookup f = some v /\ R v := ⟨p, C, dx, fs, v, rfl, hp, c, n, l, h⟩
theorem aa8 {R : Prop} (h : R) : V.aT = V.aT /\ R := ⟨rfl, h⟩
end
theorem bg {i : Int} (h1 : -(10 ^ 200) < i) (h2 : i < 10 ^ 200) : i.natAbs < 2 ^ 2000 := by
 have : (10 : Nat) ^ 200 < 2 ^ 2000 := by decide +kernel
 have h3 : i.natAbs < 10 ^ 200 := by
  have e : ((10 : Nat) ^ 200 : Nat) = ((10 : Int) ^ 200).toNat := by decide +kernel
  rw [e]
  generalize (10 : Int) ^ 200 = m at h1 h2 ⊢
  omega
 exact Nat.lt_trans h3 this
theorem Z3 {i j : Int} (h1 : -(10 ^ 200) < i /\ i < 10 ^ 200) (h2 : -(10 ^ 200) < j /\ j < 10 ^ 200) : K3 i j := ⟨bg h1.1 h1.2, bg h2.1 h2.2⟩
theorem Yc {i j : Int} (h1 : 0 < j) (h2 : j < 10 ^ 200) : Uz i j := ⟨h1, bg (Int.lt_trans (by decide) h1) h2⟩
def cell (ns : List Int) (k : Nat) : Int := ns.getD k 0
def J1 (K : PySem.W.Frag) : Sp := fun vs H Q _ => ∃ l ns k, vs = [.ref l, .int k] /\ i9 K H l (ns.map V.int) /\ 0 <= k /\ Q (.int (cell ns k.toNat)) H
theorem Xk {K : PySem.W.Frag} {H : Hp} {Q : VK} {E : XK} {l : Addr} {ns : List Int} {k : Int} (h : i9 K H l (ns.map V.int)) (hk : 0 <= k) (q : Q (.int (cell ns k.toNat)) H) : J1 K [.ref l, .int k] H Q E := ⟨l, ns, k, rfl, h, hk, q⟩
theorem K2 {ns : List Int} {k : Int} (h0 : 0 <= k) (h : k < (ns.map V.int).length) : Hx (ns.map V.int) k = some (.int (cell ns k.toNat)) := by
 obtain ⟨n, rfl⟩ := Int.eq_ofNat_of_zero_le h0
 refine Hu ?_
 have hn : n < ns.length := by simpa using h
 simp [cell, hn, List.getD_eq_getElem?_getD]
theorem Ti {ns : List Int} {k : Int} (h0 : 0 <= k) (h : ¬ k < (ns.map V.int).length) : cell ns k.toNat = 0 := by
 have : ns.length <= k.toNat := by simp at h; omega
 simp [cell, List.getD_eq_getElem?_getD, this]
def En (sp : Sp) (vs : List V) (H : Hp) (Q : VK) (E : XK) : Prop := ∃ ws, vs = ws /\ sp ws H Q E
theorem IH (sp : Sp) (vs : List V) (H : Hp) (Q : VK) (E : XK) : En sp vs H Q E = sp vs H Q E := propext ⟨fun ⟨_, e, h⟩ => e ▸ h, fun h => ⟨vs, rfl, h⟩⟩
def Em (sp : Sp) (c3 : List V) (E : XK) (t : TA) : TE := fun σ H Q => t σ H fun vs H1 => En sp (vs ++ c3) H1 Q E
theorem FV (sp : Sp) (c3 : List V) (E : XK) (t : TA) : Em sp c3 E t = F9 sp c3 E t := by
 funext σ H Q; unfold Em F9; congr 1; funext vs H1; exact IH _ _ _ _ _
def EX (C : Addr) (m : Str) (sp : Sp) (c3 : List V) (E : XK) (ta : TE) (t : TA) : TE := fun σ H Q => ta σ H fun x H1 => ∃ a dx fs, x = .ref a /\ H1 a = some (.ins C dx fs) /\ fs.lookup m = none /\
 t σ H1 fun vs H2 => En sp (x :: (vs ++ c3)) H2 Q E
theorem FD (C : Addr) (m : Str) (sp : Sp) (c3 : List V) (E : XK) (ta : TE) (t : TA) : EX C m sp c3 E ta t = FR C m sp c3 E ta t := by
 funext σ H Q; unfold EX FR; congr 1; funext x H1
 have : ∀ H2 : Hp, (fun vs H2 => En sp (x :: (vs ++ c3)) H2 Q E) = fun vs H2 => sp (x :: (vs ++ c3)) H2 Q E := fun _ => by funext vs H2; exact IH _ _ _ _ _
 rw [this H1]
def CG (C : Addr) (sp : Sp) (vs : List V) (H1 : Hp) (Q : VK) (E : XK) : Prop := ∃ ws, vs = ws /\ ∀ x dx, H1 x = none -> H1 dx = none -> dx ≠ x ->
 sp (.ref x :: ws) (upd (upd H1 dx (.own x)) x (.ins C dx [])) (fun v H2 => v = .aT /\ Q (.ref x) H2) E
def E5 (C : Addr) (sp : Sp) (c3 : List V) (E : XK) (t : TA) : TE := fun σ H Q => t σ H fun vs H1 => CG C sp (vs ++ c3) H1 Q E
theorem Gd (C : Addr) (sp : Sp) (c3 : List V) (E : XK) (t : TA) : E5 C sp c3 E t = HN C sp c3 E t := by
 funext σ H Q; unfold E5 HN CG; congr 1; funext vs H1
 exact propext ⟨fun ⟨_, e, h⟩ => by subst e; exact h, fun h => ⟨_, rfl, h⟩⟩
section
variable {X : Cx} {k : Nat} {f C : Addr} {ps : List Str} {sp : Sp} {c3 : List V} {x m : Str} {p pos apos : Pos} {e o : Expr} {es : List Expr} {ta : TE} {t : TA}
theorem bW (c : dr X.prog X.w X.K X.mg X.base k f ps c3 sp) (hr : c9 k X.A) (hg : Gl X x) (hm : X.mg x = some (.ref f)) (hk : PySem.W.keepIn X.K (.ref f) = true)
 (ha : PA X (e :: es) t) (zp : (x == ("__debug__" : Str)) = false := by decide) (he : starEach (e :: es) X.env = (false, eval e X.env) :: starEach es X.env := by rfl) (Bv : (backTo pos (starEach es X.env)).any (·.1) = false := by rfl) :
 PE X (.Call (.Name x p) (e :: es) [] pos) (Em sp c3 E0 t) := by rw [FV]; exact R6 c hr hg hm hk ha zp he Bv
theorem aC {pl : Sem Bool} (he : PE X o ta) (c : zk X.K C) (hm : Meth X.K C m f) (F : dr X.prog X.w X.K X.mg X.base k f ps c3 sp) (hr : c9 k X.A) (ha : PA X (e :: es) t)
 (AO : starEach (e :: es) X.env = (false, eval e X.env) :: starEach es X.env := by rfl) (Bv : (backTo pos (starEach es X.env)).any (·.1) = false := by rfl)
 (ht : eval (.Call (.Attribute o m apos) (e :: es) [] pos) X.env = (do
  let ov <- eval o X.env
  standAt apos.atName
  let (f, first) <- holding [ov] (getMethod ov m pl)
  callWith pos f first (backTo pos (starEach (e :: es) X.env)) (backToKw pos (keywordEach [] X.env))) := by rfl) :
 PE X (.Call (.Attribute o m apos) (e :: es) [] pos) (EX C m sp c3 E0 ta t) := by rw [FD]; exact Sl he c hm F hr ha AO Bv ht
theorem fb {pl : Sem Bool} (he : PE X o ta) (c : zk X.K C) (hm : Meth X.K C m f) (F : dr X.prog X.w X.K X.mg X.base k f ps c3 sp) (hr : c9 k X.A)
 (ht : eval (.Call (.Attribute o m apos) [] [] pos) X.env = (do
  let ov <- eval o X.env
  standAt apos.atName
  let (f, first) <- holding [ov] (getMethod ov m pl)
  callWith pos f first (backTo pos (starEach [] X.env)) (backToKw pos (keywordEach [] X.env))) := by rfl) :
 PE X (.Call (.Attribute o m apos) [] [] pos) (EX C m sp c3 E0 ta Kf) := by rw [FD]; exact PX he c hm F hr ht
theorem DM (M : Mk X.K C f) (F : dr X.prog X.w X.K X.mg X.base k f ps c3 sp) (hr : c9 (k + 1) X.A) (hg : Gl X x) (hm : X.mg x = some (.ref C))
 (ha : PA X (e :: es) t) (zp : (x == ("__debug__" : Str)) = false := by decide) (he : starEach (e :: es) X.env = (false, eval e X.env) :: starEach es X.env := by rfl) (Bv : (backTo pos (starEach es X.env)).any (·.1) = false := by rfl) :
 PE X (.Call (.Name x p) (e :: es) [] pos) (E5 C sp c3 E0 t) := by rw [Gd]; exact Sv M F hr hg hm ha zp he Bv
theorem Lq {pl : Sem Bool} (hg : Gl X x) (hm : X.mg x = some (.ref C)) (B : Iu X.K C m f) (F : dr X.prog X.w X.K X.mg X.base k f ps c3 sp) (hr : c9 k X.A) (ha : PA X (e :: es) t)
 (zp : (x == ("__debug__" : Str)) = false := by decide)
 (AO : starEach (e :: es) X.env = (false, eval e X.env) :: starEach es X.env := by rfl) (Bv : (backTo pos (starEach es X.env)).any (·.1) = false := by rfl)
 (ht : eval (.Call (.Attribute (.Name x p) m apos) (e :: es) [] pos) X.env = (do
  let ov <- eval (.Name x p) X.env
  standAt apos.atName
  let (f, first) <- holding [ov] (getMethod ov m pl)
  callWith pos f first (backTo pos (starEach (e :: es) X.env)) (backToKw pos (keywordEach [] X.env))) := by rfl) :
 PE X (.Call (.Attribute (.Name x p) m apos) (e :: es) [] pos) (Em sp c3 E0 t) := by rw [FV]; exact Rz hg hm B F hr ha zp AO Bv ht
end
section
variable {σ : St} {H : Hp} {Q : VK} {D : Ends} {K : PySem.W.Frag}
theorem SH {sp : Sp} {c3 : List V} {E : XK} {t : TA} (h : t σ H fun vs H1 => En sp (vs ++ c3) H1 Q E) : Em sp c3 E t σ H Q := h
theorem Js {sp : Sp} {vs ws : List V} {E : XK} (e : vs = ws) (h : sp ws H Q E) : En sp vs H Q E := ⟨ws, e, h⟩
theorem Rr {C : Addr} {m : Str} {sp : Sp} {c3 : List V} {E : XK} {ta : TE} {t : TA} (h : ta σ H fun x H1 => ∃ a dx fs, x = .ref a /\ H1 a = some (.ins C dx fs) /\ fs.lookup m = none /\ t σ H1 fun vs H2 => En sp (x :: (vs ++ c3)) H2 Q E) : EX C m sp c3 E ta t σ H Q := h
theorem SM {C : Addr} {sp : Sp} {c3 : List V} {E : XK} {t : TA} (h : t σ H fun vs H1 => CG C sp (vs ++ c3) H1 Q E) : E5 C sp c3 E t σ H Q := h
theorem An {C : Addr} {pre : List V -> Prop} {fs : List V -> List (Str × V)} {us args : List V} {E : XK} (e : us = args) (hp : pre args) (k : ∀ v H2, ax H H2 -> qg H2 v C (fs args) -> Q v H2) : CG C (GK C pre fs) us H Q E := ⟨args, e, QY hp k⟩
theorem VJ {b : Bool} {R : Bool -> Prop} (h : R b) : ∃ k, QJ K (.bl b) H k /\ R k := ⟨b, rfl, h⟩
end
theorem OY {n : Nat} (h : Nat.ble n 64 = true) : n <= sizeLine := Nat.le_trans (Nat.le_of_ble_eq_true h) (by decide)
theorem KJ {H : Hp} {d : PyData} {Q : VK} (h : ∀ v, Dv H v d -> Q v H) : DV H d Q := by
 cases d with
 | none => exact h _ .aT
 | bool b => exact h _ (.bl b)
 | int i => exact h _ (.int i)
 | str x => exact h _ (.str x)
 | list l => exact h
 | tuple l => exact h
 | dict l => exact h
section
variable {X : Cx} {st : Stmt} {rest : List Stmt}
def UA (t u : TS) : TS := Vy t u
theorem dg {t u : TS} (h1 : PS X st t) (h2 : Jf X rest u) : Jf X (st :: rest) (UA t u) := ah h1 h2
end
section
variable {σ : St} {H : Hp} {Q : VK} {D : Ends} {K : PySem.W.Frag}
theorem gI {t u : TS} (R : St -> Hp -> Prop) (h : t { D with nx := R } σ H) (k : ∀ σ' H', R σ' H' -> u D σ' H') : UA t u D σ H := ⟨R, h, k⟩
theorem XB {xs : List V} {ds : List PyData} (hl : xs.length <= sizeLine) (hd : cI H xs ds) (k : ∀ p H2, ax H H2 -> H p = none -> H2 p = some (.lst xs) -> cI H2 xs ds -> Dv H2 (.ref p) (.list ds) -> Q (.ref p) H2) : Ru xs H Q := ⟨hl, ds, hd, k⟩
def S9 (K : PySem.W.Frag) (x : V) (g : TG) (tb : TS) (D : Ends) (σ : St) (H1 : Hp) : Prop := ∃ a, x = .ref a /\ (∃ xs, i9 K H1 a xs) /\ ∃ W : Nat -> Nat -> St -> Hp -> Prop, (∃ m, W 0 m σ H1) /\ ∀ i m σ H, W i m σ H ->
 ((Om K a).stop i H /\ D.nx σ H) \/ ((Om K a).go i H /\ ∃ N : St -> Hp -> Prop, (∀ σ' H', N σ' H' -> ∃ m', m' < m /\ W (i + 1) m' σ' H') /\ ∀ x H', (Om K a).Q0 i H x H' -> g x σ H' fun σ2 H2 => tb { D with nx := N, ct := N, bk := D.nx } σ2 H2)
theorem Y0 {tl : TE} {g : TG} {tb : TS} (h : tl σ H fun x H1 => S9 K x g tb D σ H1) : Sx (Pw K tl) g tb D σ H := h
theorem forL {a : Addr} {xs : List V} {g : TG} {tb : TS} (hl : i9 K H a xs) (Pv : Nat -> St -> Hp -> Prop) (h0 : Pv 0 σ H) (hk : ∀ i σ H, i <= xs.length -> Pv i σ H -> i9 K H a xs)
 (hs : ∀ i x σ H, xs[i]? = some x -> Pv i σ H -> g x σ H fun σ2 H2 => tb { D with nx := Pv (i + 1), ct := Pv (i + 1), bk := D.nx } σ2 H2) (hd : ∀ σ H, Pv xs.length σ H -> D.nx σ H) : S9 K (.ref a) g tb D σ H :=
 ⟨a, rfl, ⟨xs, hl⟩, OU Pv h0 hk hs hd⟩
def aa4 (lo : Int) (n : Nat) (g : TG) (tb : TS) (D : Ends) (σ : St) (H1 : Hp) : Prop := ∃ W : Nat -> Nat -> St -> Hp -> Prop, (∃ m, W 0 m σ H1) /\ ∀ i m σ H, W i m σ H ->
 ((NM lo n).stop i H /\ D.nx σ H) \/ ((NM lo n).go i H /\ ∃ N : St -> Hp -> Prop, (∀ σ' H', N σ' H' -> ∃ m', m' < m /\ W (i + 1) m' σ' H') /\ ∀ x H', (NM lo n).Q0 i H x H' -> g x σ H' fun σ2 H2 => tb { D with nx := N, ct := N, bk := D.nx } σ2 H2)
theorem RJ {ta : TA} {g : TG} {tb : TS} (h : ta σ H fun vs H1 => ∃ j : Int, vs = [.int j] /\ -(2 ^ 62) <= j /\ j < 2 ^ 62 /\ aa4 0 j.toNat g tb D σ H1) : Sx (UK ta) g tb D σ H := h
theorem Vi {j : Int} {R : Int -> Prop} (h1 : -(2 ^ 62) <= j) (h2 : j < 2 ^ 62) (h : R j) : ∃ i : Int, [V.int j] = [.int i] /\ -(2 ^ 62) <= i /\ i < 2 ^ 62 /\ R i := ⟨j, rfl, h1, h2, h⟩
end
section
variable {X : Cx}
def U5 : List V -> Hp -> VK -> Prop := fun xs H Q => ∃ i j, xs = [.int i, .int j] /\ ∀ k, (k = i \/ k = j) -> k <= i -> k <= j -> Q (.int k) H
theorem Mp (hc : X.calm = true) : iS X (.builtin "min") U5 := fun pins s σ H xs us Q I r ⟨i, j, e, h⟩ => M5 hc pins s σ H xs us Q I r ⟨i, j, e, by
 split
 . exact h _ (.inr rfl) (by omega) (by omega)
 . exact h _ (.inl rfl) (by omega) (by omega)⟩
def Ui : List V -> Hp -> VK -> Prop := fun xs H Q => ∃ i j, xs = [.int i, .int j] /\ ∀ k, (k = i \/ k = j) -> i <= k -> j <= k -> Q (.int k) H
theorem nu (hc : X.calm = true) : iS X (.builtin "max") Ui := fun pins s σ H xs us Q I r ⟨i, j, e, h⟩ => L6 hc pins s σ H xs us Q I r ⟨i, j, e, by
 split
 . exact h _ (.inr rfl) (by omega) (by omega)
 . exact h _ (.inl rfl) (by omega) (by omega)⟩
def UC : R2 := fun x y H Q => ∃ i j, x = .int i /\ y = .int j /\ 0 < j /\ (0 <= i % j -> i % j < j -> Q (.int (i % j)) H)
theorem c6 : Bw X (binaryOp .Mod) UC := fun pins s σ H x y v u Q I rx ry ⟨i, j, e1, e2, hj, h⟩ => Xv pins s σ H x y v u Q I rx ry ⟨i, j, e1, e2, hj, h (Int.emod_nonneg _ (by omega)) (Int.emod_lt_of_pos _ hj)⟩
end
section
variable {σ : St} {H : Hp} {Q : VK} {D : Ends} {K : PySem.W.Frag}
theorem WQ {i j : Int} (h : ∀ k, (k = i \/ k = j) -> k <= i -> k <= j -> Q (.int k) H) : U5 [.int i, .int j] H Q := ⟨i, j, rfl, h⟩
theorem W0 {i j : Int} (h : ∀ k, (k = i \/ k = j) -> i <= k -> j <= k -> Q (.int k) H) : Ui [.int i, .int j] H Q := ⟨i, j, rfl, h⟩
theorem XM {i j : Int} (hj : 0 < j) (h : 0 <= i % j -> i % j < j -> Q (.int (i % j)) H) : UC (.int i) (.int j) H Q := ⟨i, j, rfl, rfl, hj, h⟩
end
section
variable {σ : St} {H : Hp} {Q : VK} {D : Ends} {K : PySem.W.Frag}
def Ug (Pv : Nat -> St -> Hp -> Prop) (m : Nat) (tb : TS) (D : Ends) (σ : St) (H1 : Hp) : Prop := ∃ N : St -> Hp -> Prop, (∀ σ' H', N σ' H' -> ∃ m', m' < m /\ Pv m' σ' H') /\ tb { D with nx := N, ct := N, bk := D.nx } σ H1
theorem W2 {Pv : Nat -> St -> Hp -> Prop} {m : Nat} {tb : TS} (h : tb { D with nx := fun σ' H' => ∃ m', m' < m /\ Pv m' σ' H', ct := fun σ' H' => ∃ m', m' < m /\ Pv m' σ' H', bk := D.nx } σ H) : Ug Pv m tb D σ H := ⟨_, fun _ _ h => h, h⟩
theorem K0 {c : TT} {tb : TS} (Pv : Nat -> St -> Hp -> Prop) (h0 : ∃ m, Pv m σ H) (hs : ∀ m σ H, Pv m σ H -> c σ H fun b H1 => if b = true then Ug Pv m tb D σ H1 else D.nx σ H1) : N0 c tb D σ H := ⟨Pv, h0, hs⟩
end
end L2
namespace L2
theorem TB {n : Nat} (h : Nat.blt n 1000 = true) : n < 1000 := by
 unfold Nat.blt at h
 exact Nat.le_of_ble_eq_true h
end L2
namespace L2
open PySem PySem.Spec PyProof.Rows
section
variable {X : Cx}
end
section
variable {σ : St} {H : Hp} {Q : VK} {D : Ends} {K : PySem.W.Frag}
end
theorem Xj {H : Hp} {Q : VK} {i j p : Int} (c : WC i j) (e : i ^ j.toNat = p) (h : Q (.int p) H) : rI WC (fun i j => .int (i ^ j.toNat)) (.int i) (.int j) H Q := ⟨i, j, rfl, rfl, c, by show Q (.int (i ^ j.toNat)) H; rw [e]; exact h⟩
section
variable {X : Cx} {e : Expr}
end
section
variable {σ : St} {H : Hp} {Q : VK} {D : Ends} {K : PySem.W.Frag}
def acS (K : PySem.W.Frag) (x : V) (i j : Nat) (D : Ends) (σ : St) (H : Hp) : Prop := Kz K 2 (tU (iT i) (tU (iT j) MF)) x σ H D.nx
theorem VY {te : TE} {i j : Nat} (h : te σ H fun x H1 => acS K x i j D σ H1) : Mg te (Kz K 2 (tU (iT i) (tU (iT j) MF))) D σ H := h
end
end L2
namespace L2
end L2
namespace L2
open PySem PySem.Spec PyProof.Rows PySem.W
structure Swo (lt : Nat -> Nat -> Bool) : Prop where
 Zr : ∀ a, lt a a = false
 ZQ : ∀ a b, lt a b = true -> lt b a = false
 QV : ∀ a b c, lt a b = false -> lt b c = false -> lt a c = false
section
variable {lt : Nat -> Nat -> Bool} {n : Nat} {S : Shared -> Prop} {cmp : Nat -> Nat -> (Bool -> Shared -> Prop) -> Shared -> Prop}
def Up (lt : Nat -> Nat -> Bool) (p : Array Nat) (k : Nat) : Prop := ∀ i j, i < j -> j < k -> lt (p.getD j 0) (p.getD i 0) = false
def Down (lt : Nat -> Nat -> Bool) (p : Array Nat) (k : Nat) : Prop := ∀ i j, i < j -> j < k -> lt (p.getD i 0) (p.getD j 0) = false
def Alike (lt : Nat -> Nat -> Bool) (p : Array Nat) (a b : Nat) : Prop := ∀ i j, a <= i -> i < b -> a <= j -> j < b -> lt (p.getD i 0) (p.getD j 0) = false
structure Ix (n : Nat) (p : Array Nat) : Prop where
 sz : p.size = n
 pm : p.toList.Perm (List.range n)
theorem Ix.low {p : Array Nat} (h : Ix n p) {i : Nat} (hi : i < n) : p.getD i 0 < n := by
 have X5 : i < p.size := by rw [h.sz]; exact hi
 have e : p.getD i 0 = p[i] := by simp [Array.getD, X5]
 rw [e]
 have : p[i] ∈ p.toList := by simp
 exact List.mem_range.mp (h.pm.mem_iff.mp this)
theorem Ix.perm {p q : Array Nat} (h : Ix n p) (hq : q.Perm p) : Ix n q := ⟨hq.size_eq.trans h.sz, (Array.perm_iff_toList_perm.mp hq).trans h.pm⟩
theorem gU {p : Array Nat} {i j : Nat} (hj : j <= p.size) (k : Nat) : (kas_rev p i j).getD k 0 = if i <= k /\ k < j then p.getD (i + j - 1 - k) 0 else p.getD k 0 := by
 unfold kas_rev
 rw [Array.getD_eq_getD_getElem?, getElem?_mirror_all hj k]
 by_cases h : i <= k /\ k < j
 . rw [if_pos h, if_pos h, Array.getD_eq_getD_getElem?]
 . rw [if_neg h, if_neg h, Array.getD_eq_getD_getElem?]
theorem ER {p : Array Nat} (h : Ix n p) (i j : Nat) : Ix n (kas_rev p i j) := h.perm (mirror_perm _ _ _ _)
theorem IG {p : Array Nat} {k d : Nat} (hk : k < p.size) (hd : d <= k) (i : Nat) : (bubble p k d).getD i 0 = if i = k - d then p.getD k 0 else if k - d < i /\ i <= k then p.getD (i - 1) 0 else p.getD i 0 := by
 rw [Array.getD_eq_getD_getElem?, getElem?_bubble hk d hd i]
 by_cases h : i = k - d
 . rw [if_pos h, if_pos h, Array.getD_eq_getD_getElem?]
 . rw [if_neg h, if_neg h]
   by_cases h2 : k - d < i /\ i <= k
   . rw [if_pos h2, if_pos h2, Array.getD_eq_getD_getElem?]
   . rw [if_neg h2, if_neg h2, Array.getD_eq_getD_getElem?]
def ZP (n : Nat) (lt : Nat -> Nat -> Bool) (S : Shared -> Prop) (cmp : Nat -> Nat -> (Bool -> Shared -> Prop) -> Shared -> Prop) : Prop :=
 ∀ i j C s, i < n -> j < n -> S s -> (∀ s', S s' -> C (lt i j) s') -> cmp i j C s
variable (w : Swo lt) (ha : ZP n lt S cmp)
include w ha
theorem Kv {p : Array Nat} (hp : Ix n p) {Q : Nat -> Shared -> Prop} : ∀ (f k : Nat), 1 <= k -> k + f <= n -> Up lt p k -> (∀ m s, S s -> k <= m -> m <= k + f -> Up lt p m -> (m = k + f \/ (m < k + f /\ lt (p.getD m 0) (p.getD (m - 1) 0) = true)) -> Q m s) -> ∀ s, S s -> (kas_asc p f k).kasWp cmp Q s
 | 0, k, _, _, hu, hq, s, hs => hq k s hs (Nat.le_refl _) (Nat.le_refl _) hu (.inl rfl)
 | f + 1, k, h1, hf, hu, hq, s, hs => by
   refine ha _ _ _ _ (hp.low (by omega)) (hp.low (by omega)) hs fun s' HB => ?_
   cases e : lt (p.getD k 0) (p.getD (k - 1) 0) with
   | true => exact hq k s' HB (Nat.le_refl _) (by omega) hu (.inr ⟨by omega, e⟩)
   | false =>
     refine Kv hp f (k + 1) (by omega) (by omega) (fun i j FH hj => ?_) (fun m s hs a b c d => hq m s hs (by omega) (by omega) c (by rcases d with d | d; exact .inl (by omega); exact .inr ⟨by omega, d.2⟩)) s' HB
     by_cases Vl : j < k
     . exact hu i j FH Vl
     . have : j = k := by omega
       subst this
       by_cases hi : i = j - 1
       . rw [hi]; exact e
       . exact w.QV _ _ _ e (hu i (j - 1) (by omega) (by omega))
theorem DE {Q : Array Nat × Nat × Nat -> Shared -> Prop} : ∀ (f : Nat) (p : Array Nat) (k q : Nat), Ix n p -> k + f <= n -> q + 1 <= k -> Down lt p k -> Alike lt p (k - (q + 1)) k ->
 (∀ p' k' q' s, S s -> Ix n p' -> k <= k' -> k' <= k + f -> q' + 1 <= k' -> Down lt p' k' -> Alike lt p' (k' - (q' + 1)) k' -> Q (p', k', q') s) -> ∀ s, S s -> (kas_desc f p k q).kasWp cmp Q s
 | 0, p, k, q, hp, _, h1, hd, hl, hq, s, hs => hq p k q s hs hp (Nat.le_refl _) (Nat.le_refl _) h1 hd hl
 | f + 1, p, k, q, hp, hf, h1, hd, hl, hq, s, hs => by
   refine ha _ _ _ _ (hp.low (by omega)) (hp.low (by omega)) hs fun s' HB => ?_
   cases e : lt (p.getD k 0) (p.getD (k - 1) 0) with
   | true =>
     have JI : ∀ i, i < k -> lt (p.getD i 0) (p.getD k 0) = false := fun i hi => by
      by_cases h : i = k - 1
      . rw [h]; exact w.ZQ _ _ e
      . exact w.QV _ _ _ (hd i (k - 1) (by omega) (by omega)) (w.ZQ _ _ e)
     by_cases h0 : q > 0
     . simp only [if_true, if_pos h0]
       have hk : k <= p.size := by rw [hp.sz]; omega
       refine DE f _ (k + 1) 0 (ER hp _ _) (by omega) (by omega) (fun i j FH hj => ?_) (fun i j a b c d => ?_) (fun p' k' q' s hs a b c d e f => hq p' k' q' s hs a (by omega) (by omega) d e f) s' HB
       . rw [gU hk, gU hk]
         by_cases Vl : j = k
         . subst Vl
           rw [if_neg (show ¬ (j - (q + 1) <= j /\ j < j) by omega)]
           by_cases hi : j - (q + 1) <= i /\ i < j
           . rw [if_pos hi]; exact JI _ (by omega)
           . rw [if_neg hi]; exact JI _ FH
         . by_cases hi : k - (q + 1) <= i /\ i < k
           . rw [if_pos hi, if_pos (show k - (q + 1) <= j /\ j < k by omega)]
             exact hl _ _ (by omega) (by omega) (by omega) (by omega)
           . rw [if_neg hi]
             by_cases Us : k - (q + 1) <= j /\ j < k
             . rw [if_pos Us]; exact hd _ _ (by omega) (by omega)
             . rw [if_neg Us]; exact hd _ _ FH (by omega)
       . have : i = k := by omega
         have : j = k := by omega
         subst_vars
         exact w.Zr _
     . simp only [if_true, if_neg h0]
       refine DE f _ (k + 1) 0 hp (by omega) (by omega) (fun i j FH hj => ?_) (fun i j a b c d => ?_) (fun p' k' q' s hs a b c d e f => hq p' k' q' s hs a (by omega) (by omega) d e f) s' HB
       . by_cases Vl : j = k
         . subst Vl; exact JI _ FH
         . exact hd _ _ FH (by omega)
       . have : i = k := by omega
         have : j = k := by omega
         subst_vars
         exact w.Zr _
   | false =>
     simp only [Bool.false_eq_true, if_false]
     refine ha _ _ _ _ (hp.low (by omega)) (hp.low (by omega)) HB fun s2 Nv => ?_
     cases e2 : lt (p.getD (k - 1) 0) (p.getD k 0) with
     | true => simp only [if_true]; exact hq p k q s2 Nv hp (Nat.le_refl _) (by omega) h1 hd hl
     | false =>
       simp only [Bool.false_eq_true, if_false]
       refine DE f _ (k + 1) (q + 1) hp (by omega) (by omega) (fun i j FH hj => ?_) (fun i j a b c d => ?_) (fun p' k' q' s hs a b c d e f => hq p' k' q' s hs a (by omega) (by omega) d e f) s2 Nv
       . by_cases Vl : j = k
         . subst Vl
           by_cases h : i = j - 1
           . rw [h]; exact e2
           . exact w.QV _ _ _ (hd i (j - 1) (by omega) (by omega)) e2
         . exact hd _ _ FH (by omega)
       . by_cases hi : i = k
         . by_cases hj : j = k
           . rw [hi, hj]; exact w.Zr _
           . rw [hi]; exact w.QV _ _ _ e (hl _ _ (by omega) (by omega) (by omega) (by omega))
         . by_cases hj : j = k
           . rw [hj]; exact w.QV _ _ _ (hl _ _ (by omega) (by omega) (by omega) (by omega)) e2
           . exact hl _ _ (by omega) (by omega) (by omega) (by omega)
theorem Ig {Q : Nat × Array Nat -> Shared -> Prop} {p : Array Nat} {k : Nat} (hp : Ix n p) (h1 : 1 <= k) (hk : k <= n) (hd : Down lt p k) (hq : ∀ m p' s, S s -> Ix n p' -> 1 <= m -> m <= n -> Up lt p' m -> Q (m, p') s) (s : Shared) (hs : S s) : (kas_tail3 k n p).kasWp cmp Q s := by
 unfold kas_tail3
 rw [KasT.kasWp_bind]
 have Jd : k <= p.size := by rw [hp.sz]; exact hk
 refine Kv w ha (ER hp 0 k) (n - k) k h1 (by omega) (fun i j FH hj => ?_) (fun m s hs a b c _ => hq m _ s hs (ER hp _ _) (by omega) (by omega) c) s hs
 rw [gU Jd, gU Jd, if_pos (by omega), if_pos (by omega)]
 exact hd _ _ (by omega) (by omega)
theorem C0 {Q : Nat × Array Nat -> Shared -> Prop} {p : Array Nat} {k : Nat} (hp : Ix n p) (h1 : 1 <= k) (hk : k + 1 <= n) (hd : Down lt p (k + 1)) (hq : ∀ m p' s, S s -> Ix n p' -> 1 <= m -> m <= n -> Up lt p' m -> Q (m, p') s) (s : Shared) (hs : S s) : (kas_descPart k n p).kasWp cmp Q s := by
 unfold kas_descPart
 rw [KasT.kasWp_bind]
 refine DE w ha _ p (k + 1) 0 hp (by omega) (by omega) hd (fun i j a b c d => ?_) (fun p' k' q' s hs Yk a b c Fi hl => ?_) s hs
 . have : i = k := by omega
   have : j = k := by omega
   subst_vars
   exact w.Zr _
 . by_cases h0 : q' > 0
   . simp only [if_pos h0]
     have Jd : k' <= p'.size := by rw [Yk.sz]; omega
     refine Ig w ha (ER Yk _ _) (by omega) (by omega) (fun i j FH hj => ?_) hq s hs
     rw [gU Jd, gU Jd]
     by_cases hi : k' - (q' + 1) <= i /\ i < k'
     . rw [if_pos hi, if_pos (by omega)]; exact hl _ _ (by omega) (by omega) (by omega) (by omega)
     . rw [if_neg hi]
       by_cases Us : k' - (q' + 1) <= j /\ j < k'
       . rw [if_pos Us]; exact Fi _ _ (by omega) (by omega)
       . rw [if_neg Us]; exact Fi _ _ FH (by omega)
   . simp only [if_neg h0]
     exact Ig w ha Yk (by omega) (by omega) Fi hq s hs
theorem QB {Q : Nat × Array Nat -> Shared -> Prop} {p : Array Nat} (hn : 1 <= n) (hp : Ix n p) (hq : ∀ m p' s, S s -> Ix n p' -> 1 <= m -> m <= n -> Up lt p' m -> Q (m, p') s) (s : Shared) (hs : S s) : (kas_count n p).kasWp cmp Q s := by
 unfold kas_count
 rw [KasT.kasWp_bind]
 refine Kv w ha hp (n - 1) 1 (Nat.le_refl _) (by omega) (fun i j _ _ => by omega) (fun m s hs a b hu hc => ?_) s hs
 by_cases hm : (m == n) = true
 . simp only [if_pos hm]; exact hq m p s hs hp a (by have := beq_iff_eq.mp hm; omega) hu
 . simp only [if_neg hm]
   have V6 : m ≠ n := fun z => hm (beq_iff_eq.mpr z)
   have wL : m < n := by omega
   have QT : lt (p.getD m 0) (p.getD (m - 1) 0) = true := by
    rcases hc with hc | hc
    . omega
    . exact hc.2
   by_cases h1 : m > 1
   . simp only [if_pos h1]
     refine ha _ _ _ _ (hp.low (by omega)) (hp.low (by omega)) hs fun s2 Nv => ?_
     cases e : lt (p.getD 0 0) (p.getD (m - 1) 0) with
     | true => simp only [if_true]; exact hq m p s2 Nv hp a (by omega) hu
     | false =>
       simp only [Bool.false_eq_true, if_false]
       have hk : m <= p.size := by rw [hp.sz]; omega
       have al : ∀ i j, i < m -> j < m -> lt (p.getD i 0) (p.getD j 0) = false := fun i j hi hj => by
        have h1 : lt (p.getD i 0) (p.getD 0 0) = false := by
         by_cases h : i = 0
         . rw [h]; exact w.Zr _
         . exact hu 0 i (by omega) hi
        have h2 : lt (p.getD i 0) (p.getD (m - 1) 0) = false := w.QV _ _ _ h1 e
        by_cases h : j = m - 1
        . rw [h]; exact h2
        . exact w.QV _ _ _ h2 (hu j (m - 1) (by omega) (by omega))
       refine C0 w ha (ER hp _ _) a (by omega) (fun i j FH hj => ?_) hq s2 Nv
       rw [gU hk, gU hk, if_pos (by omega)]
       by_cases hjm : j < m
       . rw [if_pos (by omega)]; exact al _ _ (by omega) (by omega)
       . rw [if_neg (by omega)]
         have : j = m := by omega
         subst this
         exact w.QV _ _ _ (al _ (j - 1) (by omega) (by omega)) (w.ZQ _ _ QT)
   . simp only [if_neg h1]
     refine C0 w ha hp a (by omega) (fun i j FH hj => ?_) hq s hs
     have h1 : m = 1 := by omega
     have hi : i = m - 1 := by omega
     have hj : j = m := by omega
     rw [hi, hj]
     exact w.ZQ _ _ QT
theorem Et {p : Array Nat} {k : Nat} (hp : Ix n p) (hk : k < n) (hu : Up lt p k) {Q : Nat -> Shared -> Prop} : ∀ (f l r : Nat), l <= r -> r <= k -> r - l <= f -> (∀ i, i < l -> lt (p.getD k 0) (p.getD i 0) = false) -> (∀ i, r <= i -> i < k -> lt (p.getD k 0) (p.getD i 0) = true) ->
 (∀ l s, S s -> l <= k -> (∀ i, i < l -> lt (p.getD k 0) (p.getD i 0) = false) -> (∀ i, l <= i -> i < k -> lt (p.getD k 0) (p.getD i 0) = true) -> Q l s) -> ∀ s, S s -> (kas_place p k f l r).kasWp cmp Q s
 | 0, l, r, hlr, hr, hf, h1, h2, hq, s, hs => hq l s hs (by omega) h1 (fun i a b => h2 i (by omega) b)
 | f + 1, l, r, hlr, hr, hf, h1, h2, hq, s, hs => by
   unfold kas_place
   by_cases h : l ≥ r
   . rw [if_pos h]; exact hq l s hs (by omega) h1 (fun i a b => h2 i (by omega) b)
   . rw [if_neg h]
     refine ha _ _ _ _ (hp.low hk) (hp.low (by omega)) hs fun s' HB => ?_
     cases e : lt (p.getD k 0) (p.getD ((l + r) / 2) 0) with
     | true =>
       simp only [if_true]
       refine Et hp hk hu f l ((l + r) / 2) (by omega) (by omega) (by omega) h1 (fun i a b => ?_) hq s' HB
       by_cases hi : i = (l + r) / 2
       . rw [hi]; exact e
       . cases e3 : lt (p.getD k 0) (p.getD i 0) with
         | true => rfl
         | false => rw [w.QV _ _ _ e3 (hu ((l + r) / 2) i (by omega) b)] at e; exact e
     | false =>
       simp only [Bool.false_eq_true, if_false]
       refine Et hp hk hu f ((l + r) / 2 + 1) r (by omega) (by omega) (by omega) (fun i a => ?_) h2 hq s' HB
       by_cases hi : i = (l + r) / 2
       . rw [hi]; exact e
       . exact w.QV _ _ _ e (hu i ((l + r) / 2) (by omega) (by omega))
theorem NQ {Q : Array Nat -> Shared -> Prop} : ∀ (f : Nat) (p : Array Nat) (k : Nat), Ix n p -> k + f = n -> Up lt p k -> (∀ p' s, S s -> Ix n p' -> Up lt p' n -> Q p' s) -> ∀ s, S s -> (kas_bin f p k).kasWp cmp Q s
 | 0, p, k, hp, hf, hu, hq, s, hs => by
   have : k = n := by omega
   subst this
   exact hq p s hs hp hu
 | f + 1, p, k, hp, hf, hu, hq, s, hs => by
   unfold kas_bin
   rw [KasT.kasWp_bind]
   refine Et w ha hp (by omega) hu k 0 k (by omega) (Nat.le_refl _) (by omega) (fun i h => by omega) (fun i a b => by omega) (fun l s hs hl h1 h2 => ?_) s hs
   have hk : k < p.size := by rw [hp.sz]; omega
   refine NQ f _ (k + 1) (hp.perm (bubble_perm _ _ _)) (by omega) (fun i j FH hj => ?_) hq s hs
   rw [IG hk (by omega), IG hk (by omega)]
   have el : k - (k - l) = l := by omega
   rw [el]
   by_cases RW : j = l
   . rw [if_pos RW, if_neg (by omega), if_neg (by omega)]; exact h1 i (by omega)
   . rw [if_neg RW]
     by_cases hil : i = l
     . rw [if_pos hil, if_pos (by omega)]; exact w.ZQ _ _ (h2 _ (by omega) (by omega))
     . rw [if_neg hil]
       by_cases HW : l < i /\ i <= k
       . rw [if_pos HW, if_pos (by omega)]; exact hu _ _ (by omega) (by omega)
       . rw [if_neg HW]
         by_cases Us : l < j /\ j <= k
         . rw [if_pos Us]; exact hu _ _ (by omega) (by omega)
         . rw [if_neg Us]; exact hu _ _ FH (by omega)
theorem TL {Q : Array Nat -> Shared -> Prop} (hn : 1 <= n) (hq : ∀ p' s, S s -> Ix n p' -> Up lt p' n -> Q p' s) (s : Shared) (hs : S s) : (kas_sort n).kasWp cmp Q s := by
 unfold kas_sort
 rw [KasT.kasWp_bind]
 refine QB w ha hn ⟨by simp, by simp⟩ (fun m p' s hs hp h1 hm hu => ?_) s hs
 by_cases h : m < n
 . simp only [if_pos h]
   have : max m 1 = m := by omega
   rw [this]
   exact NQ w ha _ p' m hp (by omega) hu hq s hs
 . simp only [if_neg h]
   have : m = n := by omega
   subst this
   exact hq p' s hs hp hu
end
section
variable {X : Cx} {pins : List (Addr × Obj)} {σ : St} {H H' : Hp} {s : Shared} {a : Addr}
theorem Inv.TK {f : Obj -> Obj} (I : Inv X pins σ H s) (fa : zg X pins H a) : Inv X pins σ H { s with heap := s.heap.update a f } :=
 I.turned (t' := s.toks) (fun b o hb e => by rw [Heap.get?_update_ne _ _ _ _ hb]; exact e) fa.1 fa.2.1 fa.2.2.2.1 fa.2.2.2.2.1 fa.2.2.2.2.2
theorem Inv.LL {o : Obj} (I : Inv X pins σ H s) : Inv X pins σ H { s with heap := s.heap.push o } := I.kept (t' := s.toks) fun b u e => Heap.get?_push_of_some _ e
theorem Inv.UH {acc : List V} {b4 : List Value} {n : Nat} (I : Inv X pins σ H s) (fa : zg X pins H a) (Y1 : X.hE.heap.objs.size <= a) (hl : acc.length <= sizeLine) (r : Vals acc b4) (hd : s.heap.get? a = some { cls := .type "list", data := .seq b4.toArray n }) :
 Inv X pins σ (upd H a (.lst acc)) s := by
 have ne : ∀ b u, H b = some u -> b ≠ a := fun b u e => aB e fa.1
 have old : ∀ b o, X.hE.heap.get? b = some o -> b ≠ a := fun b o e => Nat.ne_of_lt (Nat.lt_of_lt_of_le (Heap.lt_size e) Y1)
 have U := I.base
 refine ⟨I.ok, I.os, I.bare, ⟨U.keep, U.slot, fun b o e n hx => ?_, U.there, fun b xs e => ?_, fun b o u e => ?_, fun b ps e => ?_⟩, I.loc, I.cell, ?_, fun x c e => ?_, fun p hp => ?_, fun b u e => ?_, I.len⟩
 . rw [av (old b o e)]; exact U.free b o e n hx
 . rw [av (ne b _ (U.zC b xs e))]; exact U.zC b xs e
 . rw [av (ne b _ (U.wO b o u e))]; exact U.wO b o u e
 . obtain ⟨more, q⟩ := U.Ds b ps e
   exact ⟨more, by rw [av (ne b _ q)]; exact q⟩
 . rw [av (Ne.symm fa.2.1)]; exact I.free
 . rw [av (fa.2.2.2.2.1 x c e)]; exact I.mG x c e
 . obtain ⟨e1, e2, e3⟩ := I.pin p hp
   exact ⟨e1, by rw [av (fa.2.2.2.2.2 p hp)]; exact e2, e3⟩
 . by_cases hb : b = a
   . subst hb
     rw [au] at e
     cases e
     exact ⟨hl, b4, n, r, hd⟩
   . rw [av hb] at e
     exact (I.bA b u e).Hj (fun c v _ q => q) (fun c q => by rw [av (ne c _ q)]; exact q) fun c xs q => by rw [av (ne c _ q)]; exact q
end
def IQ (a b : Str) : Bool := decide (a.cps.toList < b.cps.toList)
def iO (a b : Int × Str) : Bool := decide (a.1 < b.1) || (decide (a.1 = b.1) && IQ a.2 b.2)
theorem T8 (a : Str) : IQ a a = false := decide_eq_false (List.lt_irrefl _)
theorem T2 {a b : Str} (h : IQ a b = true) : IQ b a = false := decide_eq_false (List.lt_asymm (of_decide_eq_true h))
theorem Li {a b c : Str} (h : IQ a b = false) (h2 : IQ b c = false) : IQ a c = false := by
 unfold IQ at *
 have QS : b.cps.toList <= a.cps.toList := List.not_lt.mp (of_decide_eq_false h)
 have Xq : c.cps.toList <= b.cps.toList := List.not_lt.mp (of_decide_eq_false h2)
 exact decide_eq_false (List.not_lt.mpr (List.le_trans Xq QS))
theorem S0 {a b : Str} (h : a.cps.toList = b.cps.toList) : a = b := by
 cases a; cases b
 simp only at h
 rw [Array.toList_inj.mp h]
theorem RD {a b : Str} (h : IQ a b = false) (h2 : IQ b a = false) : a = b := by
 unfold IQ at *
 have QS : b.cps.toList <= a.cps.toList := List.not_lt.mp (of_decide_eq_false h)
 have Xq : a.cps.toList <= b.cps.toList := List.not_lt.mp (of_decide_eq_false h2)
 exact S0 (List.le_antisymm Xq QS)
theorem NX {a b : Int × Str} : iO a b = true ↔ a.1 < b.1 \/ (a.1 = b.1 /\ IQ a.2 b.2 = true) := by
 unfold iO; simp
theorem js {a b : Int × Str} : iO a b = false ↔ ¬ a.1 < b.1 /\ (a.1 = b.1 -> IQ a.2 b.2 = false) := by
 unfold iO; simp
theorem Ip (a : Int × Str) : iO a a = false := js.mpr ⟨by omega, fun _ => T8 _⟩
theorem Qn {a b : Int × Str} (h : iO a b = true) : iO b a = false := by
 rcases NX.mp h with h | ⟨h, h2⟩
 . exact js.mpr ⟨by omega, fun _ => by omega⟩
 . exact js.mpr ⟨by omega, fun _ => T2 h2⟩
theorem PQ {a b c : Int × Str} (h : iO a b = false) (h2 : iO b c = false) : iO a c = false := by
 obtain ⟨h1, h3⟩ := js.mp h
 obtain ⟨h4, h5⟩ := js.mp h2
 refine js.mpr ⟨by omega, fun e => ?_⟩
 exact Li (h3 (by omega)) (h5 (by omega))
section
variable {prog : Program} {w : World} {A : Around} {E : Value -> Shared -> Prop} {s : Shared}
theorem Q6 {x y : Addr} {i j : Int} {t u t2 u2 : Tok} {c d : Str} {Q : Bool -> Shared -> Prop} (hx : IsTup s.heap x #[.int i t, .str c t2]) (hy : IsTup s.heap y #[.int j u, .str d u2]) (h : Q (iO (i, c) (j, d)) s) :
 wpAny (model prog w) A (keyLt' (tuples' true) (.ref x) (.ref y)) Q E s := by
 obtain ⟨ox, hox, cx, nx, dx⟩ := hx
 obtain ⟨oy, hoy, cy, ny, dy⟩ := hy
 refine kat_lt hox dx hoy dy ?_
 refine kat_cons (wpAny_eqBool_int ?_)
 by_cases e : i = j
 . rw [show (i == j) = true from beq_iff_eq.mpr e]
   refine kat_yes (kat_cons (wpAny_eqBool_str ?_))
   by_cases e2 : c = d
   . rw [decide_eq_true e2]
     refine kat_yes (kat_nil ?_)
     have : iO (i, c) (j, d) = false := by rw [e, e2]; exact Ip _
     rw [this] at h
     exact h
   . rw [decide_eq_false e2]
     refine kat_no (kat_one _ _ (lt_str ?_))
     have : iO (i, c) (j, d) = IQ c d := by unfold iO; simp [e]
     rw [this] at h
     exact h
 . rw [show (i == j) = false from beq_eq_false_iff_ne.mpr e]
   refine kat_no (oneLt_int ?_)
   have : iO (i, c) (j, d) = decide (i < j) := by unfold iO; simp [e]
   rw [this] at h
   exact h
end
def KL {α : Type} (lt : α -> α -> Bool) (kf : V -> α) (ys xs : List V) : Prop := ys.Perm xs /\ ys.Pairwise fun x y => lt (kf y) (kf x) = false
section
variable {X : Cx} {pins : List (Addr × Obj)} {σ : St} {H : Hp} {s : Shared} {k : Nat} {f : Addr} {fd : FuncData} {ps : List Str} {sp : Sp} {kf : V -> Int × Str} {A : Around}
structure aem (X : Cx) (pins : List (Addr × Obj)) (σ : St) (H : Hp) (kf : V -> Int × Str) (a kS : Addr) (oa : Obj) (xs : List V) (s' : Shared) : Prop where
 mk ::
 ex : ∃ H' us e ys, Inv X pins σ H' s' /\ ax H H' /\ H' a = none /\ H' kS = none /\ s'.heap.get? a = some oa /\ s'.heap.get? kS = some (seqObj "list" (List.toArray us) e) /\ Vals ys us /\ cI H' ys (xs.map fun v => .tuple [.int (kf v).1, .str (kf v).2])
theorem Qs {xs : List V} {p : Array Nat} {α : Type} {lt : α -> α -> Bool} {kf : V -> α} (hp : Ix xs.length p) (hu : Up (fun i j => lt (kf (xs.getD i .aT)) (kf (xs.getD j .aT))) p xs.length) : KL lt kf (p.toList.map fun i => xs.getD i .aT) xs := by
 refine ⟨?_, ?_⟩
 . have h := hp.pm.map fun i => xs.getD i .aT
   have e : (List.range xs.length).map (fun i => xs.getD i .aT) = xs := by
    refine List.ext_getElem? fun i => ?_
    rw [List.getElem?_map]
    by_cases hi : i < xs.length
    . rw [List.getElem?_range hi]; simp [hi]
    . rw [List.getElem?_eq_none (by simpa using hi), List.getElem?_eq_none (by simpa using hi)]; rfl
   rw [e] at h
   exact h
 . rw [List.pairwise_map, List.pairwise_iff_getElem]
   intro i j hi hj FH
   have hsz : p.toList.length = xs.length := by simp [hp.sz]
   have := hu i j FH (by omega)
   have gi : p.getD i 0 = p.toList[i] := by simp [Array.getD, show i < p.size by rw [hp.sz]; omega]
   have gj : p.getD j 0 = p.toList[j] := by simp [Array.getD, show j < p.size by rw [hp.sz]; omega]
   rw [gi, gj] at this
   exact this
theorem BF : ∀ {xs : List V} {us : List Value} (i : Nat), Vals xs us -> RelV (xs.getD i .aT) (us.getD i Value.none)
 | _, _, _, .nil => rfl
 | _, _, 0, .cons r _ => r
 | _, _, i + 1, .cons _ t => by simpa using BF i t
theorem FC {xs : List V} {us : List Value} (r : Vals xs us) : ∀ l : List Nat, Vals (l.map fun i => xs.getD i .aT) (l.map fun i => us.getD i Value.none)
 | [] => .nil
 | i :: l => .cons (BF i r) (FC r l)
theorem Ii {H : Hp} {g : V -> PyData} : ∀ {ys : List V} {xs : List V} {i : Nat}, cI H ys (xs.map g) -> i < xs.length -> Dv H (ys.getD i .aT) (g (xs.getD i .aT))
 | _, [], _, _, h => by simp at h
 | _, _ :: _, 0, .cons h _, _ => h
 | _, _ :: _, i + 1, .cons _ t, hi => by simpa using Ii (i := i) t (by simpa using hi)
def Ro (X : Cx) (pins : List (Addr × Obj)) (σ : St) (H : Hp) {α : Type} (lt : α -> α -> Bool) (kf : V -> α) (xs : List V) (Q : VK) : Prop :=
 ∀ a ys H', ax H H' -> H a = none -> H' a = none -> KL lt kf ys xs -> Q (.ref a) (upd H' a (.lst ys))
theorem Mb {H' : Hp} {s' : Shared} {xs ys : List V} {us : List Value} {A : Around} (I : Inv X pins σ H' s') (rv : Vals ys us) (dv : cI H' ys (xs.map fun v => .tuple [.int (kf v).1, .str (kf v).2])) :
 ZP xs.length (fun i j => iO (kf (xs.getD i .aT)) (kf (xs.getD j .aT))) (fun z => z = s') (kas_ask X.prog X.w A (tuples' true) us) := by
 intro i j C z hi hj hz hC
 subst hz
 have one : ∀ i, i < xs.length -> ∃ x t t2, us.getD i Value.none = .ref x /\ IsTup z.heap x #[.int (kf (xs.getD i .aT)).1 t, .str (kf (xs.getD i .aT)).2 t2] := fun i hi => by
  have d := Ii dv hi
  have r := BF i rv
  generalize ys.getD i .aT = y at d r
  generalize us.getD i Value.none = u at r
  cases d with
  | tup h q =>
    have r' : u = .ref _ := r
    obtain ⟨b4, rr, tt, _⟩ := I.tuple (.of h)
    cases q with
    | cons h1 q =>
      cases q with
      | cons h2 q =>
        cases q
        cases h1; cases h2
        cases rr with
        | cons r1 rr =>
          cases rr with
          | cons r2 rr =>
            cases rr
            obtain ⟨t1, rfl⟩ := r1
            obtain ⟨t2, rfl⟩ := r2
            exact ⟨_, t1, t2, r', tt⟩
 obtain ⟨x, t, t2, e1, hx⟩ := one i hi
 obtain ⟨y, u, u2, e2, hy⟩ := one j hj
 show wpAny (model X.prog X.w) A (keyLt' (tuples' true) (us.getD i Value.none) (us.getD j Value.none)) C (fun _ _ => False) z
 rw [e1, e2]
 exact Q6 hx hy (hC _ rfl)
theorem D1 {H' : Hp} {s' : Shared} : ∀ {xs ys : List V} {us : List Value}, Inv X pins σ H' s' -> Vals ys us -> cI H' ys (xs.map fun v => .tuple [.int (kf v).1, .str (kf v).2]) ->
 ∃ fs, KatTups s'.heap us fs /\ fs.length = us.length /\ ∀ v ∈ fs, Looks (model X.prog X.w) s'.heap (typeOf v) (.type "int")
 | [], _, _, I, rv, dv => by
   cases dv
   cases rv
   exact ⟨[], trivial, rfl, fun _ z => nomatch z⟩
 | x :: xs, _, _, I, rv, dv => by
   cases dv with
   | cons d dv =>
     cases rv with
     | cons r rv =>
       obtain ⟨fs, h1, h2, h3⟩ := D1 I rv dv
       cases d with
       | tup h q =>
         obtain ⟨b4, rr, tt, _⟩ := I.tuple (.of h)
         cases q with
         | cons q1 q =>
           cases q with
           | cons q2 q =>
             cases q
             cases q1; cases q2
             cases rr with
             | cons r1 rr =>
               cases rr with
               | cons r2 rr =>
                 cases rr
                 obtain ⟨t1, rfl⟩ := r1
                 obtain ⟨t2, rfl⟩ := r2
                 cases r
                 obtain ⟨o, ho, hc, n, hd⟩ := tt
                 refine ⟨_ :: fs, KatTups.cons ho hc hd rfl h1, by simp [h2], fun v hv => ?_⟩
                 rcases List.mem_cons.mp hv with rfl | hv
                 . exact .now
                 . exact h3 v hv
end
section
variable {X : Cx} {pins : List (Addr × Obj)} {σ : St} {H : Hp} {s : Shared} {k : Nat} {f : Addr} {fd : FuncData} {ps : List Str} {sp : Sp} {kf : V -> Int × Str} {A : Around}
end
section
variable {X : Cx} {k : Nat} {f : Addr} {ps : List Str} {sp : Sp} {e : Expr} {t : TA} {x : Str} {p p2 pos acA : Pos}
end
end L2
namespace L2
open PySem PySem.Spec PyProof.Rows
theorem Ej {scope : Scope} {env : Env} (h : ∀ x ∈ scope.names, x.2 = .free -> ∃ c, env.cells.lookup x.1 = some c) :
 ∃ cl, closureFor scope env = pure cl /\ (∀ x c, cl.lookup x = some c -> env.cells.lookup x = some c) /\ ∀ x ∈ scope.names, x.2 = .free -> ∃ c, cl.lookup x.1 = some c := by
 have key : ∀ (l : List (Str × NameKind)) (acc : List (Str × Addr)), (∀ x ∈ l, x.2 = .free -> ∃ c, env.cells.lookup x.1 = some c) -> (∀ x c, acc.lookup x = some c -> env.cells.lookup x = some c) ->
  ∃ cl, (forIn l acc (fun (x : Str × NameKind) (r : List (Str × Addr)) => (match x with
    | (name, kind) => if (kind == NameKind.free) = true then (do let c <- cellOf env name; pure (ForInStep.yield ((name, c) :: r))) else pure (ForInStep.yield r) : Sem (ForInStep (List (Str × Addr))))) : Sem _) = pure cl /\
    (∀ x c, cl.lookup x = some c -> env.cells.lookup x = some c) /\ (∀ x ∈ l, x.2 = .free -> ∃ c, cl.lookup x.1 = some c) /\ ∀ x, (∃ c, acc.lookup x = some c) -> ∃ c, cl.lookup x = some c := by
  intro l
  induction l with
  | nil => intro acc _ ha; exact ⟨acc, rfl, ha, fun _ z => (nomatch z), fun _ z => z⟩
  | cons p r ih =>
    intro acc hl ha
    obtain ⟨n, k⟩ := p
    rw [List.forIn_cons]
    by_cases hk : k = .free
    . subst hk
      obtain ⟨c, hc⟩ := hl (n, .free) List.mem_cons_self rfl
      have F2 : cellOf env n = pure c := by unfold cellOf; rw [hc]
      obtain ⟨cl, e, h1, h2, h3⟩ := ih ((n, c) :: acc) (fun x hx => hl x (List.mem_cons_of_mem _ hx)) (fun x d hd => by
       rw [List.lookup_cons] at hd
       by_cases hx : x = n
       . subst hx; rw [beq_self_eq_true] at hd; cases hd; exact hc
       . rw [beq_eq_false_iff_ne.mpr hx] at hd; exact ha x d hd)
      refine ⟨cl, ?_, h1, fun x hx hf => ?_, fun x ⟨d, hd⟩ => h3 x ?_⟩
      . simp only [beq_self_eq_true, if_true, F2]
        exact e
      . rcases List.mem_cons.mp hx with rfl | hx
        . exact h3 n ⟨c, by rw [List.lookup_cons, beq_self_eq_true]⟩
        . exact h2 x hx hf
      . rw [List.lookup_cons]
        by_cases hx : x = n
        . subst hx; rw [beq_self_eq_true]; exact ⟨c, rfl⟩
        . rw [beq_eq_false_iff_ne.mpr hx]; exact ⟨d, hd⟩
    . obtain ⟨cl, e, h1, h2, h3⟩ := ih acc (fun x hx => hl x (List.mem_cons_of_mem _ hx)) ha
      refine ⟨cl, ?_, h1, fun x hx hf => ?_, h3⟩
      . have : (k == NameKind.free) = false := by simpa using hk
        simp only [this, Bool.false_eq_true, if_false]
        exact e
      . rcases List.mem_cons.mp hx with rfl | hx
        . exact absurd hf hk
        . exact h2 x hx hf
 obtain ⟨cl, e, h1, h2, _⟩ := key scope.names [] h (fun _ _ z => by simp at z)
 refine ⟨cl, ?_, h1, h2⟩
 unfold closureFor
 show (forIn scope.names [] _ >>= fun cs => pure cs) = _
 refine Eq.trans (congrArg (· >>= _) e) rfl
theorem pG {env : Env} {scope : Scope} {x : Str} : (relabel scope env).names.lookup x = (scope.names.lookup x).map fun k => if (k == NameKind.free && env.scope.kind == .function && env.kindOf x == some .cell) = true then .cell else k := by
 unfold relabel
 show List.lookup x (List.map _ scope.names) = _
 generalize scope.names = l
 induction l with
 | nil => rfl
 | cons p r ih =>
   obtain ⟨n, k⟩ := p
   rw [List.map_cons]
   dsimp only
   by_cases hx : x = n
   . subst hx
     by_cases hc : (k == NameKind.free && env.scope.kind == .function && env.kindOf x == some .cell) = true
     . rw [if_pos hc, List.lookup_cons, List.lookup_cons, beq_self_eq_true]; simp only [Option.map_some, if_pos hc]
     . rw [if_neg hc, List.lookup_cons, List.lookup_cons, beq_self_eq_true]; simp only [Option.map_some, if_neg hc]
   . have hb : (x == n) = false := beq_eq_false_iff_ne.mpr hx
     by_cases hc : (k == NameKind.free && env.scope.kind == .function && env.kindOf n == some .cell) = true
     . rw [if_pos hc, List.lookup_cons, List.lookup_cons, hb]; exact ih
     . rw [if_neg hc, List.lookup_cons, List.lookup_cons, hb]; exact ih
theorem mem_lookup {α : Type} {x : Str} {k : α} : ∀ {l : List (Str × α)}, l.lookup x = some k -> (x, k) ∈ l
 | [], h => by simp at h
 | (n, j) :: r, h => by
   rw [List.lookup_cons] at h
   by_cases hx : x = n
   . subst hx; rw [beq_self_eq_true] at h; cases h; exact List.mem_cons_self
   . rw [beq_eq_false_iff_ne.mpr hx] at h; exact List.mem_cons_of_mem _ (mem_lookup h)
def kG (X : Cx) (N : List Str) (scope : Scope) (cl : List (Str × Addr)) (C : Addr) (s : Shared) (H : Hp) (fp : List Addr) : Cx :=
 { X with N := N, hE := s, JO := H, env := compEnvC scope cl C X.env, outer := X.stack, stack := X.stack, ex := fp, fn := fun _ => false, pn := [], xe := fun _ _ => False }
structure wI (X : Cx) (T M : List Str) (scope : Scope) : Prop where
 kind : scope.kind = .function
 cell : ∀ y ∈ scope.names, y.2 ≠ .cell
 names : ∀ y ∈ scope.names, y.2 = .local -> scope.names.lookup y.1 = some .local
 free : ∀ y ∈ scope.names, y.2 = .free -> X.env.scope.names.lookup y.1 = some .cell \/ X.env.scope.names.lookup y.1 = some .free
 len : M.length = X.N.length
 old : ∀ (i : Nat) x, M[i]? = some x -> X.N[i]? = some x /\ scope.names.lookup x = some .free \/ scope.names.lookup x = none
section
variable {X : Cx} {pins : List (Addr × Obj)} {σ : St} {H : Hp} {s : Shared} {T M : List Str} {scope : Scope} {cl : List (Str × Addr)} {fp : List Addr}
theorem aai {C : Addr} (I : Inv X pins σ H s) (hN : wI X T M scope) (h1 : ∀ x c, cl.lookup x = some c -> X.env.cells.lookup x = some c) (h2 : ∀ x ∈ scope.names, x.2 = .free -> ∃ c, cl.lookup x.1 = some c)
 (hC : s.heap.objs.size <= C) (hf : ∀ b ∈ fp, zg X pins H b) (X1 : ∀ b ∈ fp, b < s.heap.objs.size) : (kG X (T ++ M) scope cl C s H fp).Ok where
 mod := I.ok.mod
 kind := hN.kind
 glob := I.ok.glob
 blt := I.ok.blt
 above := hC
 inj := fun x y c e1 e2 => I.ok.inj x y c (h1 x c e1) (h1 y c e2)
 has := fun x hx => by
  have t6 : (relabel scope X.env).names.lookup x = some .cell \/ (relabel scope X.env).names.lookup x = some .free := hx
  rw [pG] at t6
  cases e : scope.names.lookup x with
  | none => rw [e] at t6; simp at t6
  | some k =>
    have hm := mem_lookup e
    have hk : k = .free := by
     rw [e] at t6
     simp only [Option.map_some, Option.some.injEq] at t6
     by_cases hf : k = .free
     . exact hf
     . have : (k == NameKind.free) = false := by simpa using hf
       simp only [this, Bool.false_and, Bool.false_eq_true, if_false] at t6
       rcases t6 with t6 | t6
       . exact absurd t6 (hN.cell _ hm)
       . exact t6
    exact h2 (x, k) hm hk
 X7 := fun _ _ z => by cases z
 hd := I.ok.hd
 frames := I.ok.frames
 stk := .inl rfl
 Yr := fun b hb => ⟨Nat.ne_of_lt (Nat.lt_of_lt_of_le (X1 b hb) hC), fun x c e => (hf b hb).2.2.2.2.1 x c (h1 x c e)⟩
 bs := I.bs
 Py := Nat.le_trans I.ok.Py I.sz
 Mz := fun b o e hb => by
  rcases (hf b hb).2.2.2.1 with z | z
  . exact I.ok.Mz b o e z
  . exact absurd (Nat.lt_of_lt_of_le (Heap.lt_size e) (Nat.le_trans I.ok.Py z)) (Nat.lt_irrefl _)
 L1 := fun b hb z => by
  rcases List.mem_cons.mp (I.JN b z) with e | e
  . exact (hf b hb).2.1 e
  . exact (hf b hb).2.2.1 e
 BU := I.stack
 UD := I.LI
theorem Oj {C : Addr} {h₁ : Heap} {tk : Nat} (I : Inv X pins σ H s) (hN : wI X T M scope) (h1 : ∀ x c, cl.lookup x = some c -> X.env.cells.lookup x = some c) (h2 : ∀ x ∈ scope.names, x.2 = .free -> ∃ c, cl.lookup x.1 = some c)
 (hC : s.heap.objs.size <= C) (hf : ∀ b ∈ fp, zg X pins H b) (X1 : ∀ b ∈ fp, b < s.heap.objs.size)
 {m : Str -> Option Value} (hn : h₁.Ns C m) (old : ∀ b o, s.heap.get? b = some o -> h₁.get? b = some o) :
 Inv (kG X (T ++ M) scope cl C s H fp) [] (List.replicate T.length none ++ σ) H { s with heap := h₁, toks := tk } where
 ok := aai I hN h1 h2 hC hf X1
 os := rfl
 bare := I.bare
 base := Un.kept old
 loc := by
  refine ⟨m, hn, fun i x v e1 e2 e3 => ?_⟩
  have e1' : (T ++ M)[i]? = some x := e1
  by_cases hi : i < T.length
  . rw [List.getElem?_append_left (by simpa using hi), List.getElem?_replicate, if_pos hi] at e2
    cases e2
  . have X5 : T.length <= i := Nat.le_of_not_lt hi
    rw [List.getElem?_append_right X5] at e1'
    rw [List.getElem?_append_right (by simpa using X5), List.length_replicate] at e2
    have vis : Vis (relabel scope X.env) x := e3
    rcases hN.old _ x e1' with ⟨hx, hfr⟩ | hno
    . obtain ⟨m0, Y1, hl0⟩ := I.loc
      have hk := hN.free _ (mem_lookup hfr) rfl
      have Jd : X.env.scope.names.lookup x = some .cell \/ X.env.scope.names.lookup x = some .free := hk
      obtain ⟨u, r, l⟩ := hl0 _ x v hx e2 (.inr Jd)
      refine ⟨u, r, .inr ?_⟩
      rcases l with ⟨z, _⟩ | ⟨_, c, hc, F2⟩
      . have z' : X.env.scope.names.lookup x = some .local := z
        rw [z'] at Jd; rcases Jd with q | q <;> cases q
      . obtain ⟨c', QT⟩ := h2 _ (mem_lookup hfr) rfl
        have : c' = c := by have := h1 _ _ QT; rw [hc] at this; exact (Option.some.inj this).symm
        subst this
        refine ⟨?_, c', QT, ?_⟩
        . show (relabel scope X.env).names.lookup x = some .cell \/ (relabel scope X.env).names.lookup x = some .free
          rw [pG, hfr]
          simp only [Option.map_some, Option.some.injEq]
          by_cases hc : (NameKind.free == NameKind.free && X.env.scope.kind == .function && X.env.kindOf x == some .cell) = true
          . left; rw [if_pos hc]
          . right; rw [if_neg hc]
        . obtain ⟨o, ho, hd⟩ := F2
          exact ⟨o, old _ _ ho, hd⟩
    . unfold Vis at vis
      rw [pG, hno] at vis
      simp at vis
 cell := fun x c e => by
  obtain ⟨v, o, ho, hd⟩ := I.cell x c (h1 x c e)
  exact ⟨v, o, old _ _ ho, hd⟩
 free := I.bA.fresh hC
 mG := fun x c e => I.mG x c (h1 x c e)
 pin := fun p hp => nomatch hp
 bA := I.bA.kept old
 len := by
  show (List.replicate T.length none ++ σ).length = (T ++ M).length
  rw [List.length_append, List.length_append, List.length_replicate, hN.len, I.len]
theorem RA {C D : Addr} {s' : Shared} {σ' : St} {H' : Hp} {acc : List V} {b4 : List Value} {n : Nat} (I : Inv X pins σ H s) (I' : Inv (kG X (T ++ M) scope cl C s H fp) [] σ' H' s')
 (hf : ∀ b ∈ fp, zg X pins H b) (hD : s.heap.objs.size <= D) (hn : H' D = none) (hl : acc.length <= sizeLine) (r : Vals acc b4) (hd : s'.heap.get? D = some { cls := .type "list", data := .seq b4.toArray n }) :
 Inv X pins σ (upd H' D (.lst acc)) s' := by
 have U : Un (HC X.stack) fp H H' s.heap s'.heap := I'.base
 have neD : ∀ b o, s.heap.get? b = some o -> b ≠ D := fun b o e => Nat.ne_of_lt (Nat.lt_of_lt_of_le (Heap.lt_size e) hD)
 have neT : ∀ b u, H' b = some u -> b ≠ D := fun b u e => aB e hn
 refine I.ZV (ch := fp) I'.os ⟨U.keep, U.slot, fun b o e1 e2 e3 => ?_, U.there, fun b xs e => ?_, fun b o u e => ?_, fun b ps e => ?_⟩ (fun b u e => ?_) I'.bare (fun b hb => ⟨(hf b hb).2.2.2.1, (hf b hb).2.1, (hf b hb).2.2.2.2.1, (hf b hb).2.2.2.2.2⟩)
 . rw [av (neD b o e1)]; exact U.free b o e1 e2 e3
 . rw [av (neT b _ (U.zC b xs e))]; exact U.zC b xs e
 . rw [av (neT b _ (U.wO b o u e))]; exact U.wO b o u e
 . obtain ⟨more, q⟩ := U.Ds b ps e
   exact ⟨more, by rw [av (neT b _ q)]; exact q⟩
 . by_cases hb : b = D
   . subst hb
     rw [au] at e
     cases e
     exact ⟨hl, b4, n, r, hd⟩
   . rw [av hb] at e
     exact (I'.bA b u e).Hj (fun c v _ q => q) (fun c q => by rw [av (neT c _ q)]; exact q) fun c xs q => by rw [av (neT c _ q)]; exact q
end
theorem JZ {prog : Program} {w : World} {A : Around} {R : Result -> Shared -> Prop} {s : Shared} {elt target iter : Expr} {ifs : List Expr} {scope : Scope} {pos : Pos} {it acc : Value} {env : Env} (I : Nat -> Shared -> Prop)
 (turn : ∀ n s, I n s -> wpAny (model prog w) A (pyNext it) (fun r s₁ => match r with
  | none => R (.ok .next) s₁
  | some v => wpAny (model prog w) A (letOwnedTupleGo target it v) (fun _ U4 => wpAny (model prog w) A (assign target env v) (fun _ s₂ =>
   wpAny (model prog w) A (forIn ifs true fun c r => if r = true then do let ok <- isTrue c env (eval c env); pure (ForInStep.yield ok) else pure (ForInStep.yield r)) (fun ok s₃ =>
    if ok = true then wpAny (model prog w) A (eval elt env) (fun x s₄ =>
     wpAny (model prog w) A (call (.builtin "list.append") [acc, x]) (fun _ s₅ => ∃ m, m < n /\ I m s₅) (fun _ _ => False) s₄) (fun _ _ => False) s₃
    else ∃ m, m < n /\ I m s₃) (fun _ _ => False) s₂) (fun _ _ => False) U4) (fun _ _ => False) s₁) (fun _ _ => False) s)
 (n : Nat) (h : I n s) :
 codeAny (model prog w) A (.compLoop (.ListComp elt [⟨target, iter, ifs, 0⟩] scope pos) 0 it acc env) R s := by
 refine codeAny_loop rfl I (fun n s hI => ?_) n h
 show wpAny _ A ((compTurn (.ListComp elt [⟨target, iter, ifs, 0⟩] scope pos) 0 it acc env).onRaise (fun x => do noteFrame x env; theTreesLotGoes x)) _ _ s
 refine wpAny_noted ?_
 rw [compTurn_list]
 refine wpAny_bind (wpAny_standAt (wpAny_bind (wpAny_mono (turn n s hI) (fun r s₁ h₁ => ?_) fun _ _ h' => h'.elim)))
 cases r with
 | none => exact wpAny_pure h₁
 | some v =>
   refine wpAny_bind (wpAny_mono h₁ (fun _ U4 Zf => ?_) fun _ _ h' => h'.elim)
   refine wpAny_bind (wpAny_mono Zf (fun _ s₂ h₂ => wpAny_bind (wpAny_mono h₂ (fun ok s₃ h₃ => ?_) fun _ _ h' => h'.elim)) fun _ _ h' => h'.elim)
   cases ok with
   | false => exact wpAny_pure ⟨rfl, h₃⟩
   | true =>
     exact wpAny_bind (wpAny_bind (wpAny_mono h₃ (fun x s₄ h₄ => wpAny_bind (wpAny_mono h₄ (fun _ s₅ h₅ => wpAny_pure (wpAny_pure ⟨rfl, h₅⟩)) fun _ _ h' => h'.elim)) fun _ _ h' => h'.elim))
def ZM (X : Cx) (ifs : List Expr) (t : TT) : Prop :=
 ∀ (pins : List (Addr × Obj)) (s : Shared) (σ : St) (H : Hp) (Q : Bool -> Hp -> Prop), Inv X pins σ H s -> t σ H Q ->
   wpAny (model X.prog X.w) X.A (forIn ifs true fun c r => if r = true then do let ok <- isTrue c X.env (eval c X.env); pure (ForInStep.yield ok) else pure (ForInStep.yield r)) (TP X pins σ Q) X.xe s
def aco : TT := fun _ H Q => Q true H
theorem A9 {X : Cx} : ZM X [] aco := fun _ _ _ H _ I h => wpAny_tests_nil ⟨H, I, h⟩
theorem GI {X : Cx} {c : Expr} {t : TT} (h : PT X c t) : ZM X [c] t := fun pins s σ H Q I q => wpAny_tests_one (h pins s σ H Q I q)
def Wf (k : Nat) (g : TG) (tc : TT) (te : TE) (Fin : List V -> Hp -> Prop) (σ : St) (J : It) (H1 : Hp) : Prop :=
 ∃ W : Nat -> Nat -> List V -> Hp -> Prop, (∃ m, W 0 m [] H1) /\ ∀ i m acc H, W i m acc H ->
   (J.stop i H /\ Fin acc H) \/ (J.go i H /\ acc.length < sizeLine /\ ∀ x H', J.Q0 i H x H' -> g x (List.replicate k none ++ σ) H' fun σ2 H2 => tc σ2 H2 fun b H3 =>
    if b = true then te σ2 H3 fun y H4 => ∃ m', m' < m /\ W (i + 1) m' (acc ++ [y]) H4 else ∃ m', m' < m /\ W (i + 1) m' acc H3)
section
variable {X : Cx} {pins : List (Addr × Obj)} {σ : St} {H : Hp} {s : Shared} {T M : List Str} {scope : Scope} {cl : List (Str × Addr)} {fp : List Addr} {g : TG} {tc : TT} {te : TE} {tg elt iter : Expr} {ifs : List Expr} {pos : Pos}
theorem Inv.forget {X : Cx} {pins : List (Addr × Obj)} {σ σ' : St} {H : Hp} {s : Shared} (I : Inv X pins σ' H s) (k : Nat) (hk : k + σ.length = σ'.length) (h : σ'.drop k = σ) : Inv X pins (List.replicate k none ++ σ) H s := by
 refine I.weak (by simp [hk]) (fun i v e => ?_)
 by_cases hi : i < k
 . rw [List.getElem?_append_left (by simpa using hi), List.getElem?_replicate, if_pos hi] at e; cases e
 . rw [List.getElem?_append_right (by simpa using hi), List.length_replicate, <- h, List.getElem?_drop] at e
   have : k + (i - k) = i := by omega
   rw [this] at e; exact e
theorem Qf {it : Addr} {tn : Nat -> Heap -> Prop} {J : It} {RR : Value -> Addr -> Result -> Shared -> Prop} {Fin : List V -> Hp -> Prop} {E : Value -> Shared -> Prop}
 (hN : wI X T M scope) (FT : X.calm = true) (h1 : ∀ x c, cl.lookup x = some c -> X.env.cells.lookup x = some c) (h2 : ∀ x ∈ scope.names, x.2 = .free -> ∃ c, cl.lookup x.1 = some c)
 (hg : ∀ cl C s H fp, PG (kG X (T ++ M) scope cl C s H fp) tg g) (hgk : ∀ v H Q, g v (List.replicate T.length none ++ σ) H Q -> g v (List.replicate T.length none ++ σ) H fun σ2 H2 => Q σ2 H2 /\ T.length + σ.length = σ2.length /\ σ2.drop T.length = σ)
 (hc : ∀ cl C s H fp, ZM (kG X (T ++ M) scope cl C s H fp) ifs tc) (he : ∀ cl C s H fp, PE (kG X (T ++ M) scope cl C s H fp) elt te)
 (I : Inv X pins σ H s) (Tn : Turn X.prog X.w X.K tg J fp it tn) (st : tn 0 s.heap) (hf : ∀ b ∈ fp, zg X pins H b) (hW : Wf T.length g tc te Fin σ J H)
 (hR : ∀ D C s' H' acc m, s.heap.objs.size <= D -> s.heap.objs.size <= C -> C ≠ D -> s'.heap.Ns C m -> H' C = none -> H' D = none -> Inv X pins σ (upd H' D (.lst acc)) s' -> Fin acc H' -> RR (.ref D) C (.ok .next) s') :
 wpAny (model X.prog X.w) X.A (newList []) (fun acc s₃ => wpAny (model X.prog X.w) X.A (newFunctionEnv scope X.env.globals cl [] X.env.qual none .none (some X.env)) (fun Yl s₄ =>
  codeAny (model X.prog X.w) X.A (.compStart (.ListComp elt [⟨tg, iter, ifs, 0⟩] scope pos) 0 (.ref it) acc { Yl with scope := relabel scope X.env }) (RR acc Yl.locals) s₄) E s₃) E s := by
 refine wpAny_newObj_type (wpAny_newFunctionEnv hN.cell (by intro y hy; simp at hy) (fun h₁ J3 Gw => ?_) hN.kind)
 dsimp only at J3 Gw ⊢
 generalize hH2 : s.heap.push { cls := .type "list", dict := none, data := .seq ([] : List Value).toArray } = H2 at J3 Gw ⊢
 have hC : H2.objs.size = s.heap.objs.size + 1 := by rw [<- hH2, Heap.size_push]
 have hDC : s.heap.objs.size ≠ H2.objs.size := by rw [hC]; exact Nat.ne_of_lt (Nat.lt_succ_self _)
 have Wj : s.heap.objs.size <= H2.objs.size := by rw [hC]; exact Nat.le_succ _
 have X1 : ∀ b ∈ fp, b < s.heap.objs.size := fun b hb => by obtain ⟨o, ho, _⟩ := Tn.obj _ _ st b hb; exact Heap.lt_size ho
 have old : ∀ b o, s.heap.get? b = some o -> h₁.get? b = some o := fun b o e => Gw.extBut b o (Nat.ne_of_lt (Nat.lt_of_lt_of_le (Heap.lt_size e) Wj)) (Heap.get?_push_of_some _ (hH2 ▸ Heap.get?_push_of_some _ e))
 have jj : h₁.PlainList s.heap.objs.size #[] := ⟨_, Gw.extBut _ _ hDC (Heap.get?_push_of_some _ (hH2 ▸ Heap.get?_push_size _ rfl))⟩
 generalize Wa : s.heap.objs.size = D at *
 generalize hCe : H2.objs.size = C at *
 have I0 : Inv (kG X (T ++ M) scope cl C s H fp) [] (List.replicate T.length none ++ σ) H { s with heap := h₁, toks := s.toks + ([] : List (Str × Value)).length } :=
  Oj I hN h1 h2 (by rw [Wa]; exact Wj) hf (by rw [Wa]; exact X1) J3 old
 have st0 : tn 0 h₁ := Tn.keep _ _ _ st fun b _ o e => old b o e
 obtain ⟨W, ⟨m0, w0⟩, turn⟩ := hW
 have nDf : ∀ b ∈ fp, b ≠ D := fun b hb => Nat.ne_of_lt (X1 b hb)
 have stat : ∀ {H' : Hp} {pl : List (Addr × Obj)}, (∀ b ∈ fp, H' b = none) -> (∀ p ∈ pl, p.1 = D) -> ∀ b ∈ fp, zg (kG X (T ++ M) scope cl C s H fp) pl H' b := fun {H' pl} hn hp b hb => by
  have ok := I0.ok
  refine ⟨hn b hb, (ok.Yr b hb).1, ok.L1 b hb, .inl hb, (ok.Yr b hb).2, fun p hq => ?_⟩
  have Vs : p ∈ pl := hq
  rw [hp p Vs]; exact Ne.symm (nDf b hb)
 have loop : codeAny (model X.prog X.w) X.A (.compLoop (.ListComp elt [⟨tg, iter, ifs, 0⟩] scope pos) 0 (.ref it) (.ref D) (compEnvC scope cl C X.env)) (RR (.ref D) C) { s with heap := h₁, toks := s.toks + ([] : List (Str × Value)).length } := by
  refine JZ (fun n s' => ∃ i acc H' b4, Inv (kG X (T ++ M) scope cl C s H fp) [] (List.replicate T.length none ++ σ) H' s' /\ tn i s'.heap /\ (∀ b ∈ fp, H' b = none) /\ s'.heap.PlainList D b4 /\ H' D = none /\ Vals acc b4.toList /\ acc.length <= sizeLine /\ W i n acc H') ?_ m0
   ⟨0, [], H, #[], I0, st0, fun b hb => (hf b hb).1, jj, I.bA.fresh (by rw [Wa]; exact Nat.le_refl _), .nil, Nat.zero_le _, w0⟩
  rintro n s3 ⟨i, acc, H3, b4, I3, Z6, Bx, ⟨nn, ho⟩, hD3, hv, hlen, w3⟩
  have abb : ∀ {H'} {s'} {σ'} {o : Obj}, Inv (kG X (T ++ M) scope cl C s H fp) [] σ' H' s' -> s'.heap.get? D = some o -> (∀ v, o.data ≠ .cell v) -> H' D = none -> Inv (kG X (T ++ M) scope cl C s H fp) [(D, o)] σ' H' s' := fun {H' s' σ' o} I' e d hn => by
   refine I'.zZ fun p hp => ?_
   have e' : p = (D, o) := by simpa using hp
   subst e'
   refine ⟨e, hn, hDC, fun z => ?_, d⟩
   have z' : D ∈ HC X.stack := z
   obtain ⟨_, o', R8, _⟩ := I.stack.mem z'
   exact absurd (Heap.lt_size R8) (by rw [Wa]; exact Nat.lt_irrefl _)
  have I3' := abb I3 ho (fun v z => by cases z) hD3
  rcases turn i n acc H3 w3 with ⟨stop, fin⟩ | ⟨go, hl, step⟩
  . refine dj (Tn.done (kG X (T ++ M) scope cl C s H fp) rfl rfl rfl FT i _ s3 _ H3 _ I3' (stat Bx (by simp)) Z6 stop) fun r s4 ⟨hr, I4⟩ => ?_
    subst hr
    have e4 := (I4.pin (D, _) (List.mem_append_right _ List.mem_cons_self)).1
    have I4' : Inv (kG X (T ++ M) scope cl C s H fp) [] (List.replicate T.length none ++ σ) H3 s4 := I4.zZ fun p hp => nomatch hp
    obtain ⟨m4, n4, _⟩ := I4'.loc
    exact hR D C s4 H3 acc m4 (Nat.le_refl _) Wj (Ne.symm hDC) n4 I4'.free hD3 (RA I I4' hf (by rw [Wa]; exact Nat.le_refl _) hD3 hlen hv (by simpa using e4)) fin
  . refine dj (Tn.item (kG X (T ++ M) scope cl C s H fp) rfl rfl rfl FT i _ s3 _ H3 _ I3' (stat Bx (by simp)) Z6 go) fun r s4 ⟨u, hr, h4⟩ => ?_
    subst hr
    refine dj h4 fun _ s5 ⟨x, H5, I5, r5, y5, Wy, Vh⟩ => ?_
    have I5' := I5.pinned (stat Vh (by simp)) (Tn.obj _ _ Wy)
    refine dj (hg _ _ _ _ _ _ s5 _ H5 x u _ I5' r5 (hgk _ _ _ (step x H5 y5))) fun _ s6 ⟨σ6, H6, I6, q6, q6a, q6b⟩ => ?_
    refine dj (hc _ _ _ _ _ _ s6 σ6 H6 _ I6 q6) fun b s7 ⟨H7, I7, q7⟩ => ?_
    have rest : ∀ {s8 : Shared} {H8 : Hp}, Inv (kG X (T ++ M) scope cl C s H fp) ([(D, _)] ++ DS fp s5.heap) σ6 H8 s8 -> tn (i + 1) s8.heap /\ (∀ b ∈ fp, H8 b = none) /\ s8.heap.PlainList D b4 /\ H8 D = none /\ Inv (kG X (T ++ M) scope cl C s H fp) [] (List.replicate T.length none ++ σ) H8 s8 := fun {s8 H8} I8 => by
     refine ⟨Tn.keep _ _ _ Wy fun b hb o e => (I8.pin (b, o) (List.mem_append_right _ (List.mem_append_right _ (pR hb e)))).1, fun b hb => ?_, ⟨nn, (I8.pin (D, _) (List.mem_append_right _ (List.mem_append_left _ List.mem_cons_self))).1⟩, (I8.pin (D, _) (List.mem_append_right _ (List.mem_append_left _ List.mem_cons_self))).2.1, (I8.forget T.length q6a q6b).zZ fun p hp => nomatch hp⟩
     obtain ⟨o, e, d⟩ := Tn.obj _ _ Wy b hb
     exact (I8.pin (b, o) (List.mem_append_right _ (List.mem_append_right _ (pR hb e)))).2.1
    cases b with
    | false =>
      obtain ⟨m', hm, w7⟩ := q7
      obtain ⟨a1, a2, a3, a4, a5⟩ := rest I7
      exact ⟨m', hm, i + 1, acc, H7, b4, a5, a1, a2, a3, a4, hv, hlen, w7⟩
    | true =>
      refine dj (he _ _ _ _ _ _ s7 σ6 H7 _ I7 q7) fun y s8 ⟨yv, H8, I8, r8, m', hm, w8⟩ => ?_
      obtain ⟨a1, a2, a3, a4, a5⟩ := rest I8
      have hsz : b4.size <= sizeLine := by have := hv.length; simp at this; omega
      refine wpAny_list_append_plain (hsz := hsz) a3 fun h9 hl9 hs9 => ?_
      refine ⟨m', hm, i + 1, acc ++ [yv], H8, b4.push y, ?_, ?_, a2, hl9, a4, ?_, by simp; omega, w8⟩
      . exact a5.turned (t' := s8.toks) (it := D) (fun b o hb e => (hs9.2 b hb).trans e) a4 hDC (.inr (by show s.heap.objs.size <= D; rw [Wa]; exact Nat.le_refl _)) (fun x c e z => by
         obtain ⟨v, o, ho, _⟩ := I.cell x c (h1 x c e)
         exact absurd (Heap.lt_size ho) (by rw [Wa, z]; exact Nat.lt_irrefl _)) (fun p hp => nomatch hp)
      . exact Tn.keep _ _ _ a1 fun b hb o e => (hs9.2 b (nDf b hb)).trans e
      . simpa using Vals.append hv (.cons r8 .nil)
 exact codeAny_compStart_list loop (Tn.self _ _ _ _ _ st0 loop)
end
def SY (k : Nat) (g : TG) : Prop := ∀ v (τ σ : St) H Q, τ.length = k -> g v (τ ++ σ) H Q -> g v (τ ++ σ) H fun σ2 H2 => Q σ2 H2 /\ ∃ τ', τ'.length = k /\ σ2 = τ' ++ σ
def KW (k : Nat) (g : N1) : Prop := ∀ vs (τ σ : St) H Q, τ.length = k -> g vs (τ ++ σ) H Q -> g vs (τ ++ σ) H fun σ2 H2 => Q σ2 H2 /\ ∃ τ', τ'.length = k /\ σ2 = τ' ++ σ
theorem jr {k i : Nat} (h : i < k) : SY k (iT i) := fun v τ σ H Q hl q => by
 have e : (τ ++ σ).set i (some v) = τ.set i (some v) ++ σ := List.set_append_left _ _ (by omega)
 exact ⟨q, τ.set i (some v), by simp [hl], e⟩
theorem Gb {k : Nat} : KW k MF := fun vs τ σ H Q hl ⟨e, q⟩ => ⟨e, q, τ, hl, rfl⟩
theorem pN {k i : Nat} {u : N1} (h : i < k) (h2 : KW k u) : KW k (tU (iT i) u) := fun vs τ σ H Q hl ⟨v, r, e, q⟩ => by
 have e1 : (τ ++ σ).set i (some v) = τ.set i (some v) ++ σ := List.set_append_left _ _ (by omega)
 refine ⟨v, r, e, ?_⟩
 show u r ((τ ++ σ).set i (some v)) H _
 rw [e1]
 have q' : u r ((τ ++ σ).set i (some v)) H Q := q
 rw [e1] at q'
 exact h2 r _ σ H Q (by simp [hl]) q'
theorem Ie {K : PySem.W.Frag} {k n : Nat} {u : N1} (h : KW k u) : SY k (Kz K n u) := fun v τ σ H Q hl ⟨a, xs, e, hq, hn, q⟩ => ⟨a, xs, e, hq, hn, h xs τ σ H Q hl q⟩
def Gf (Q : VK) (acc : List V) (H : Hp) : Prop := ∀ p, H p = none -> Q (.ref p) (upd H p (.lst acc))
def XZ (k : Nat) (wi : TI) (g : TG) (tc : TT) (te : TE) : TE := fun σ H Q => wi σ H fun J H1 => Wf k g tc te (Gf Q) σ J H1
section
variable {X : Cx} {T M : List Str} {scope : Scope} {g : TG} {tc : TT} {te : TE} {wi : TI} {tg elt iter : Expr} {ifs : List Expr} {pos : Pos}
theorem E8 (hN : wI X T M scope) (FT : X.calm = true) (hi : PI X tg iter wi) (hg : ∀ cl C s H fp, PG (kG X (T ++ M) scope cl C s H fp) tg g) (hgo : SY T.length g)
 (hc : ∀ cl C s H fp, ZM (kG X (T ++ M) scope cl C s H fp) ifs tc) (he : ∀ cl C s H fp, PE (kG X (T ++ M) scope cl C s H fp) elt te)
 (hs : ∀ x, foldedSetIterable iter X.env x = pure x := by intro _; rfl) : PE X (.ListComp elt [⟨tg, iter, ifs, 0⟩] scope pos) (XZ T.length wi g tc te) := by
 intro pins s σ H Q I h
 obtain ⟨cl, hcl, h1, h2⟩ := Ej (scope := scope) (env := X.env) fun x hx hf => I.ok.has x.1 (hN.free x hx hf)
 rw [eval_ListComp]
 refine wpAny_comprehension_free (use := none) rfl hs hcl hN.kind hN.names (dj (hi pins s σ H _ I h) fun xv s1 QS => dj QS fun itv s2 Xq => ?_)
 obtain ⟨it, fp, tn, J, H2, e, I2, Tn, st, hf, hW⟩ := Xq
 subst e
 refine Qf (RR := fun acc C => compPost (model X.prog X.w) X.A X.xe none (EP X pins σ Q) acc C) hN FT h1 h2 hg (fun v H Q q => ?_) hc he I2 Tn st hf hW ?_
 . have := hgo v (List.replicate T.length none) σ H Q (by simp) q
   refine (by
    have e : (fun (σ2 : St) (H2 : Hp) => Q σ2 H2 /\ T.length + σ.length = σ2.length /\ σ2.drop T.length = σ) = fun σ2 H2 => Q σ2 H2 /\ ∃ τ' : St, τ'.length = T.length /\ σ2 = τ' ++ σ := by
     funext σ2 H2
     refine propext ⟨fun ⟨a, b, c⟩ => ⟨a, σ2.take T.length, by rw [List.length_take]; omega, by rw [<- c, List.take_append_drop]⟩, fun ⟨a, τ', b, c⟩ => ⟨a, by rw [c, List.length_append, b], by rw [c, <- b, List.drop_left]⟩⟩
    rw [e]; exact this)
 . intro D C s' H' acc m hD hC K7 hn hHC hHD Ib fin
   refine ⟨m, hn, fun h' HB => ⟨.ref D, _, ?_, rfl, fin D hHD⟩⟩
   exact Ib.turned (t' := s'.toks) (it := C) (fun b o hb e => (HB.2 b hb).trans e) (by rw [av K7]; exact hHC) (Nat.ne_of_gt (Nat.lt_of_lt_of_le I2.lt hC)) (.inr (Nat.le_trans I2.sz hC)) (fun x c e z => by
    obtain ⟨v, q⟩ := I2.cell x c e
    exact absurd (Nat.lt_of_lt_of_le q.lt (by rw [z]; exact hC)) (Nat.lt_irrefl _)) (fun p hp z => absurd (Nat.lt_of_lt_of_le (Heap.lt_size (I2.pin p hp).1) (by rw [z]; exact hC)) (Nat.lt_irrefl _))
theorem YY {i : Nat} {y : Str} {py Yt : Pos} (sy : X.N.Nodup) (X5 : X.N[i]? = some y) (hy : Loc X.env.scope y) (hN : wI X T M scope) (FT : X.calm = true) (hi : PI X tg iter wi) (hg : ∀ cl C s H fp, PG (kG X (T ++ M) scope cl C s H fp) tg g) (hgo : SY T.length g)
 (hc : ∀ cl C s H fp, ZM (kG X (T ++ M) scope cl C s H fp) ifs tc) (he : ∀ cl C s H fp, PE (kG X (T ++ M) scope cl C s H fp) elt te)
 (hsw : swapsWith (.ListComp elt [⟨tg, iter, ifs, 0⟩] scope pos) (some (.Name y py)) Yt.line X.env = pure true)
 (hs : ∀ x, foldedSetIterable iter X.env x = pure x := by intro _; rfl) (hf' : X.fn y = true \/ X.env.scope.names.lookup y = some .local := by first | exact .inl rfl | exact .inr rfl | assumption) :
 PS X (.Assign [.Name y py] (.ListComp elt [⟨tg, iter, ifs, 0⟩] scope pos) Yt) (Mg (XZ T.length wi g tc te) (iT i)) := by
 intro pins s σ H D' I h
 have h : XZ T.length wi g tc te σ H fun x H1 => D'.nx (σ.set i (some x)) H1 := h
 obtain ⟨cl, hcl, h1, h2⟩ := Ej (scope := scope) (env := X.env) fun x hx hf => I.ok.has x.1 (hN.free x hx hf)
 rw [exec_Assign_Name_used _ _ _ _ hsw]
 refine wpAny_bind (wpAny_standAt (wpAny_bind ?_))
 show wpAny _ X.A (do let _ <- comprehension (.ListComp elt [⟨tg, iter, ifs, 0⟩] scope pos) scope X.env _ (newList []) false (eval iter X.env) (some (assign (.Name y py) X.env))) _ _ s
 refine wpAny_bind (wpAny_mono (wpAny_comprehension_free (use := some (assign (.Name y py) X.env)) (Q := fun _ s' => SP X pins D' .next s') rfl hs hcl hN.kind hN.names
  (dj (hi pins s σ H _ I h) fun xv s1 QS => dj QS fun itv s2 Xq => ?_)) (fun _ s' hq => wpAny_pure (wpAny_pure hq)) fun _ _ e => e)
 obtain ⟨it, fp, tn, J, H2, e, I2, Tn, st, hf, hW⟩ := Xq
 subst e
 refine Qf (RR := fun acc C => compPost (model X.prog X.w) X.A X.xe (some (assign (.Name y py) X.env)) (fun _ s' => SP X pins D' .next s') acc C) hN FT h1 h2 hg (fun v H Q q => ?_) hc he I2 Tn st hf hW ?_
 . have := hgo v (List.replicate T.length none) σ H Q (by simp) q
   refine (by
    have e : (fun (σ2 : St) (H2 : Hp) => Q σ2 H2 /\ T.length + σ.length = σ2.length /\ σ2.drop T.length = σ) = fun σ2 H2 => Q σ2 H2 /\ ∃ τ' : St, τ'.length = T.length /\ σ2 = τ' ++ σ := by
     funext σ2 H2
     refine propext ⟨fun ⟨a, b, c⟩ => ⟨a, σ2.take T.length, by rw [List.length_take]; omega, by rw [<- c, List.take_append_drop]⟩, fun ⟨a, τ', b, c⟩ => ⟨a, by rw [c, List.length_append, b], by rw [c, <- b, List.drop_left]⟩⟩
    rw [e]; exact this)
 . intro D C s' H' acc m hD hC K7 hn hHC hHD Ib fin
   show wpAny _ X.A (assign (.Name y py) X.env (.ref D)) _ _ _
   refine wpAny_assign_Name (F7 Ib sy X5 hy (v := .ref D) rfl (fun s3 I3 ⟨a, sb, ha⟩ => ?_) hf')
   have hCL : C ≠ X.env.locals := Nat.ne_of_gt (Nat.lt_of_lt_of_le I2.lt hC)
   have hCc : ∀ x c, X.env.cells.lookup x = some c -> c ≠ C := fun x c e z => by
    obtain ⟨v, q⟩ := I2.cell x c e
    exact absurd (Nat.lt_of_lt_of_le q.lt (by rw [z]; exact hC)) (Nat.lt_irrefl _)
   have hCa : C ≠ a := by
    rcases ha with rfl | ha
    . exact hCL
    . exact Ne.symm (hCc _ _ ha)
   refine ⟨m, hn.sameBut sb hCa, fun h' HB => ⟨_, _, ?_, fin D hHD⟩⟩
   exact I3.turned (t' := s3.toks) (it := C) (fun b o hb e => (HB.2 b hb).trans e) (by rw [av K7]; exact hHC) hCL (.inr (Nat.le_trans I2.sz hC)) hCc (fun p hp z => absurd (Nat.lt_of_lt_of_le (Heap.lt_size (I2.pin p hp).1) (by rw [z]; exact hC)) (Nat.lt_irrefl _))
end
end L2
namespace L2
open PySem PySem.Spec PyProof.Rows PySem.W
mutual
def By : PyData -> Bool
 | .none => true
 | .bool _ => true
 | .int _ => true
 | .str _ => true
 | .tuple ds => cC ds
 | .list _ => false
 | .dict _ => false
def cC : List PyData -> Bool
 | [] => true
 | d :: ds => By d && cC ds
end
theorem kh : ∀ {ds : List PyData}, cC ds = true ↔ ∀ d ∈ ds, By d = true
 | [] => by simp [cC]
 | d :: ds => by simp [cC, kh (ds := ds)]
theorem Fm {ds es : List PyData} (h1 : cC ds = true) (h2 : cC es = true) : cC (ds ++ es) = true := by
 rw [kh] at *
 intro d hd
 rcases List.mem_append.mp hd with h | h
 . exact h1 d h
 . exact h2 d h
theorem fx {α : Type} {f : α -> PyData} (h : ∀ x, By (f x) = true) (xs : List α) : cC (xs.map f) = true := by
 rw [kh]
 intro d hd
 obtain ⟨x, _, rfl⟩ := List.mem_map.mp hd
 exact h x
structure Mv (S : List Addr) (H H' : Hp) : Prop where
 kp : ∀ a o, a ∉ S -> H a = some o -> H' a = some o
 tp : ∀ a xs, H a = some (.tup xs) -> H' a = some (.tup xs)
 dm : ∀ a, H' a = none -> H a = none
theorem Mv.refl {S : List Addr} {H : Hp} : Mv S H H := ⟨fun _ _ _ h => h, fun _ _ h => h, fun _ h => h⟩
theorem ax.mv {S : List Addr} {H H' : Hp} (s : ax H H') : Mv S H H' := ⟨fun a o _ h => s a o h, fun a xs h => s a _ h, fun a h => by
 cases e : H a with
 | none => rfl
 | some o => rw [s a o e] at h; cases h⟩
theorem Mv.trans {S : List Addr} {H H1 H2 : Hp} (m : Mv S H H1) (m2 : Mv S H1 H2) : Mv S H H2 := ⟨fun a o n h => m2.kp a o n (m.kp a o n h), fun a xs h => m2.tp a xs (m.tp a xs h), fun a h => m.dm a (m2.dm a h)⟩
theorem Mv.step {S S1 : List Addr} {H H1 H2 : Hp} (m : Mv S H H1) (m2 : Mv S1 H1 H2) (hs : ∀ a ∈ S1, a ∈ S \/ H a = none) : Mv S H H2 := by
 refine ⟨fun a o n h => ?_, fun a xs h => m2.tp a xs (m.tp a xs h), fun a h => m.dm a (m2.dm a h)⟩
 refine m2.kp a o (fun z => ?_) (m.kp a o n h)
 rcases hs a z with q | q
 . exact n q
 . rw [q] at h; cases h
theorem Mv.at {S : List Addr} {H H' : Hp} {a : Addr} {o : HO} (m : Mv S H H') (n : a ∉ S) (h : H a = some o) : H' a = some o := m.kp a o n h
theorem Mv.none {S : List Addr} {H H' : Hp} {a : Addr} (m : Mv S H H') (h : H' a = none) : H a = none := m.dm a h
theorem ax.none {H H' : Hp} {a : Addr} (m : ax H H') (h : H' a = none) : H a = none := (m.mv (S := [])).dm a h
theorem Mv.bP {H : Hp} {p : Addr} {o u : HO} (h : H p = some u) (nt : ∀ xs, u ≠ .tup xs) : Mv [p] H (upd H p o) := ⟨fun a v n e => by
 rw [av (fun z => n (by simp [z]))]; exact e, fun a xs e => by
 rw [av (fun z => by subst z; rw [h] at e; exact nt xs (Option.some.inj e))]; exact e, fun a e => by
 by_cases z : a = p
 . subst z; rw [au] at e; cases e
 . rw [av z] at e; exact e⟩
mutual
theorem Dv.wF {H H' : Hp} (t : ∀ a xs, H a = some (.tup xs) -> H' a = some (.tup xs)) : ∀ {v : V} {d : PyData}, Dv H v d -> By d = true -> Dv H' v d
 | _, _, .aT, _ => .aT
 | _, _, .bl b, _ => .bl b
 | _, _, .int i, _ => .int i
 | _, _, .str x, _ => .str x
 | _, _, .tup h r, c => .tup (t _ _ h) (cI.wF t r (by simpa [By] using c))
 | _, _, .lst h r, c => by simp [By] at c
 | _, _, .dct h r, c => by simp [By] at c
theorem cI.wF {H H' : Hp} (t : ∀ a xs, H a = some (.tup xs) -> H' a = some (.tup xs)) : ∀ {v : List V} {d : List PyData}, cI H v d -> cC d = true -> cI H' v d
 | _, _, .nil, _ => .nil
 | _, _, .cons h r, c => by
   have c' := c
   simp only [cC, Bool.and_eq_true] at c'
   exact .cons (Dv.wF t h c'.1) (cI.wF t r c'.2)
end
theorem Mv.dat {S : List Addr} {H H' : Hp} {v : V} {d : PyData} (m : Mv S H H') (i : By d = true) (h : Dv H v d) : Dv H' v d := h.wF m.tp i
theorem Mv.Yw {S : List Addr} {H H' : Hp} {v : List V} {d : List PyData} (m : Mv S H H') (i : cC d = true) (h : cI H v d) : cI H' v d := h.wF m.tp i
def eT (H : Hp) (p : Addr) (ds : List PyData) : Prop := ∃ xs, H p = some (.lst xs) /\ cI H xs ds /\ cC ds = true
theorem eT.dv {H : Hp} {p : Addr} {ds : List PyData} (h : eT H p ds) : Dv H (.ref p) (.list ds) := let ⟨_, e, d, _⟩ := h; .lst (.of e) d
theorem eT.keeps {H H' : Hp} {p : Addr} {ds : List PyData} (s : ax H H') (h : eT H p ds) : eT H' p ds := let ⟨xs, e, d, i⟩ := h; ⟨xs, s _ _ e, d.keeps s, i⟩
theorem eT.mv {S : List Addr} {H H' : Hp} {p : Addr} {ds : List PyData} (m : Mv S H H') (n : p ∉ S) (h : eT H p ds) : eT H' p ds := let ⟨xs, e, d, i⟩ := h; ⟨xs, m.at n e, m.Yw i d, i⟩
theorem zr {H : Hp} {p : Addr} {xs : List V} {ds : List PyData} (hn : H p = none) (d : cI H xs ds) (i : cC ds = true) : eT (upd H p (.lst xs)) p ds := ⟨xs, au, d.keeps (cF hn), i⟩
theorem small {n m : Nat} (h : n <= m) (hm : m <= 4000 := by decide) : n <= sizeLine := Nat.le_trans h (Nat.le_trans hm (by decide))
theorem md {n : Nat} (h : n <= 4000) : n < sizeLine := Nat.lt_of_le_of_lt h (by decide)
section
variable {σ : St} {H : Hp} {Q : VK} {D : Ends} {K : PySem.W.Frag} {p : Addr} {ds : List PyData}
theorem acp {T : String} {r : V -> List V -> Hp -> VK -> Prop} {to : TE} {t : TA} (h : to σ H fun x H1 => X0 K T x H1 /\ t σ H1 fun xs H2 => r x xs H2 Q) : tBM K T r to t σ H Q := h
theorem Yq {R : Prop} (hp : eT H p ds) (h : R) : X0 K "list" (.ref p) H /\ R := let ⟨xs, e, _, _⟩ := hp; ⟨.inl ⟨rfl, xs, i9.of e⟩, h⟩
theorem VQ {xs : List V} (hl : xs.length <= sizeLine) (hd : cI H xs ds) (hi : cC ds = true) (k : ∀ p H2, ax H H2 -> H p = none -> eT H2 p ds -> Q (.ref p) H2) : Ru xs H Q :=
 ⟨hl, ds, hd, fun p H2 s n e d _ => k p H2 s n ⟨xs, e, d, hi⟩⟩
end
mutual
theorem Dv.fn {H : Hp} : ∀ {v : V} {d e : PyData}, Dv H v d -> Dv H v e -> By d = true -> d = e
 | _, _, _, .aT, h, _ => by cases h; rfl
 | _, _, _, .bl b, h, _ => by cases h; rfl
 | _, _, _, .int i, h, _ => by cases h; rfl
 | _, _, _, .str x, h, _ => by cases h; rfl
 | _, _, _, .tup h r, h2, c => by
   cases h2 with
   | tup h' r' =>
     have c' := (by simpa [By] using c : cC _ = true)
     rw [h] at h'
     cases h'
     rw [cI.fn r r' c']
   | lst h' r' =>
     rcases h' with h' | ⟨o, h'⟩ <;> rw [h] at h' <;> cases h'
   | dct h' r' => rw [h] at h'; cases h'
 | _, _, _, .lst h r, _, c => by simp [By] at c
 | _, _, _, .dct h r, _, c => by simp [By] at c
theorem cI.fn {H : Hp} : ∀ {v : List V} {d e : List PyData}, cI H v d -> cI H v e -> cC d = true -> d = e
 | _, _, _, .nil, h, _ => by cases h; rfl
 | _, _, _, .cons h r, h2, c => by
   have c' := c
   simp only [cC, Bool.and_eq_true] at c'
   cases h2 with
   | cons h' r' => rw [Dv.fn h h' c'.1, cI.fn r r' c'.2]
end
theorem cI.perm {α : Type} {H : Hp} {g : α -> PyData} {xs ys : List V} (p0 : ys.Perm xs) : ∀ {cs : List α}, cI H xs (cs.map g) -> ∃ cs' : List α, cs'.Perm cs /\ cI H ys (cs'.map g) := by
 have p := p0.symm
 clear p0
 induction p with
 | nil => intro cs h; exact ⟨cs, .refl _, h⟩
 | cons x _ ih =>
   intro cs h
   cases cs with
   | nil => cases h
   | cons c cs =>
     cases h with
     | cons h r =>
       obtain ⟨cs', p', h'⟩ := ih r
       exact ⟨c :: cs', p'.cons c, .cons h h'⟩
 | swap x y l =>
   intro cs h
   cases cs with
   | nil => cases h
   | cons c cs =>
     cases h with
     | cons h r =>
       cases cs with
       | nil => cases r
       | cons c2 cs =>
         cases r with
         | cons h2 r => exact ⟨c2 :: c :: cs, .swap c c2 cs, .cons h2 (.cons h r)⟩
 | trans _ _ ih1 ih2 =>
   intro cs h
   obtain ⟨c1, p1, h1⟩ := ih1 h
   obtain ⟨c2, p2, h2⟩ := ih2 h1
   exact ⟨c2, p2.trans p1, h2⟩
theorem cI.pairwise {α β : Type} {H : Hp} {g : α -> PyData} {key : α -> β} {kf : V -> β} {R : β -> β -> Prop} (hk : ∀ v c, Dv H v (g c) -> kf v = key c) : ∀ {xs : List V} {cs : List α}, cI H xs (cs.map g) -> xs.Pairwise (fun x y => R (kf x) (kf y)) -> cs.Pairwise (fun c d => R (key c) (key d))
 | _, [], .nil, _ => .nil
 | _, c :: cs, .cons h r, p => by
   rw [List.pairwise_cons] at p ⊢
   refine ⟨fun d hd => ?_, cI.pairwise hk r p.2⟩
   obtain ⟨i, hi⟩ := List.getElem?_of_mem hd
   obtain ⟨x, hx, hv⟩ := r.get (i := i) (d := g d) (by rw [List.getElem?_map, hi]; rfl)
   have := p.1 x (List.mem_of_getElem? hx)
   rw [hk _ _ h, hk _ _ hv] at this
   exact this
theorem Dv.lst_inv {H : Hp} {v : V} {ds : List PyData} (h : Dv H v (.list ds)) : ∃ a xs, v = .ref a /\ (∀ K : PySem.W.Frag, i9 K H a xs) /\ cI H xs ds := by
 cases h with
 | lst h r => exact ⟨_, _, rfl, fun _ => .inl h, r⟩
section
variable {σ : St} {H : Hp} {Q : VK} {D : Ends} {K : PySem.W.Frag} {p : Addr} {v : V} {ds : List PyData}
def X3 (te : TE) (N : Option V -> Hp -> Prop) (σ2 : St) (b : Bool) (H3 : Hp) : Prop := if b = true then te σ2 H3 (fun y H4 => N (some y) H4) else N none H3
theorem ZF {k : Nat} {tl : TE} {g : TG} {tc : TT} {te : TE} (h : tl σ H fun x H1 => ∃ a, x = .ref a /\ (∃ xs, i9 K H1 a xs) /\ Wf k g tc te (Gf Q) σ (Om K a) H1) : XZ k (Pw K tl) g tc te σ H Q := h
theorem Xx {k : Nat} {g : TG} {tc : TT} {te : TE} {α : Type} {cs : List α} {gd : α -> PyData} (pf : α -> Bool) (fd : α -> PyData) (hl : Dv H v (.list (cs.map gd))) (hlen : cs.length <= 4000) (hi : ∀ c, By (fd c) = true)
 (turn : ∀ x c H' (N : Option V -> Hp -> Prop), c ∈ cs -> ax H H' -> Dv H' x (gd c) -> (pf c = true -> ∀ y H4, ax H' H4 -> Dv H4 y (fd c) -> N (some y) H4) -> (pf c = false -> ∀ H3, ax H' H3 -> N none H3) ->
  g x (List.replicate k none ++ σ) H' fun σ2 H2 => tc σ2 H2 fun b H3 => X3 te N σ2 b H3)
 (kk : ∀ q H', ax H H' -> H q = none -> eT H' q ((cs.filter pf).map fd) -> Q (.ref q) H') : ∃ a, v = .ref a /\ (∃ xs, i9 K H a xs) /\ Wf k g tc te (Gf Q) σ (Om K a) H := by
 obtain ⟨p, xs, rfl, e, dv⟩ := hl.lst_inv
 have hl0 : i9 K H p xs := e K
 have hxl : xs.length = cs.length := by rw [dv.length, List.length_map]
 refine ⟨p, rfl, ⟨xs, hl0⟩, fun i m acc H' => i <= cs.length /\ m = cs.length - i /\ ax H H' /\ cI H' acc (((cs.take i).filter pf).map fd), ⟨cs.length, Nat.zero_le _, rfl, ax.refl _, by simpa using cI.nil⟩, ?_⟩
 rintro i m acc H' ⟨wG, hm, sm, jj⟩
 have Oc : i9 K H' p xs := ax.seq sm hl0
 have Zo : acc.length <= cs.length := by
  rw [jj.length, List.length_map]
  exact Nat.le_trans (List.length_filter_le _ _) (by rw [List.length_take]; omega)
 by_cases hc : i = cs.length
 . left
   refine ⟨⟨xs, Oc, by omega⟩, fun q hq => ?_⟩
   rw [hc, List.take_length] at jj
   have FI : ax H (upd H' q (.lst acc)) := sm.trans (cF hq)
   exact kk q _ FI (sm.none hq) ⟨acc, au, jj.keeps (cF hq), fx hi _⟩
 . right
   have wL : i < cs.length := by omega
   have RP : i < xs.length := by omega
   refine ⟨⟨xs, xs[i], Oc, List.getElem?_eq_getElem RP⟩, md (by omega), fun x H2 hy => ?_⟩
   obtain ⟨rfl, hy⟩ := hy
   have hx := hy xs Oc
   have hcs : cs[i]? = some cs[i] := List.getElem?_eq_getElem wL
   obtain ⟨x', t6, hd⟩ := dv.get (i := i) (d := gd cs[i]) (by rw [List.getElem?_map, hcs]; rfl)
   rw [hx] at t6
   cases t6
   have QN : cs.take (i + 1) = cs.take i ++ [cs[i]] := by rw [List.take_add_one, hcs]; rfl
   exact turn x cs[i] H2 (fun o H4 => match o with | some y => ∃ m', m' < m /\ i + 1 <= cs.length /\ m' = cs.length - (i + 1) /\ ax H H4 /\ cI H4 (acc ++ [y]) (((cs.take (i + 1)).filter pf).map fd) | none => ∃ m', m' < m /\ i + 1 <= cs.length /\ m' = cs.length - (i + 1) /\ ax H H4 /\ cI H4 acc (((cs.take (i + 1)).filter pf).map fd))
    (List.getElem_mem wL) sm (hd.keeps sm)
    (fun hp y H4 s4 d4 => ⟨cs.length - (i + 1), by omega, wL, rfl, sm.trans s4, by
     rw [QN, List.filter_append, List.map_append]
     simp only [List.filter_cons, hp, if_true, List.filter_nil, List.map_cons, List.map_nil]
     exact cI.append (jj.keeps s4) (.cons d4 .nil)⟩)
    (fun hp H3 s3 => ⟨cs.length - (i + 1), by omega, wL, rfl, sm.trans s3, by
     rw [QN, List.filter_append, List.map_append]
     simp only [List.filter_cons, hp, Bool.false_eq_true, if_false, List.filter_nil, List.map_nil, List.append_nil]
     exact jj.keeps s3⟩)
end
def Lf (scope sc : Scope) (N M : List Str) : Bool :=
 (scope.kind == .function) && scope.names.all (fun y => y.2 != .cell) && scope.names.all (fun y => y.2 != .local || scope.names.lookup y.1 == some .local) &&
  scope.names.all (fun y => y.2 != .free || (sc.names.lookup y.1 == some .cell || sc.names.lookup y.1 == some .free)) && (M.length == N.length) &&
  (M.zip N).all fun p => (p.1 == p.2 && scope.names.lookup p.1 == some .free) || scope.names.lookup p.1 == none
theorem UG {X : Cx} {T M : List Str} {scope : Scope} (sc : Scope) (N : List Str) (hs : X.env.scope = sc) (hN : X.N = N) (h : Lf scope sc N M = true) : wI X T M scope := by
 unfold Lf at h
 simp only [Bool.and_eq_true, List.all_eq_true, Bool.or_eq_true, bne_iff_ne, beq_iff_eq, ne_eq] at h
 obtain ⟨⟨⟨⟨⟨h1, h2⟩, h3⟩, h4⟩, h5⟩, h6⟩ := h
 refine ⟨h1, h2, fun y hy e => ?_, fun y hy e => ?_, by rw [hN]; exact h5, fun i x hx => ?_⟩
 . rcases h3 y hy with z | z
   . exact absurd e z
   . exact z
 . rw [hs]
   rcases h4 y hy with z | z
   . exact absurd e z
   . exact z
 . have hi : i < M.length := (List.getElem?_eq_some_iff.mp hx).1
   have hiN : i < N.length := by omega
   have hz : (M.zip N)[i]? = some (x, N[i]) := by
    rw [List.getElem?_zip_eq_some]
    exact ⟨hx, List.getElem?_eq_getElem hiN⟩
   rcases h6 _ (List.mem_of_getElem? hz) with ⟨a, b⟩ | a
   . left
     refine ⟨?_, b⟩
     rw [hN, List.getElem?_eq_getElem hiN]
     have a' : x = N[i] := a
     rw [a']
   . exact .inr a
section
variable {σ : St} {H : Hp} {Q : VK} {D : Ends} {K : PySem.W.Frag} {p : Addr} {v : V} {ds : List PyData}
theorem Px {z : Str} {i : Int} {c : Nat} (hl : z.length <= sizeLine) (hi : Hx z.cps.toList i = some c) (h : Q (.str ⟨#[c]⟩) H) : PF K (.str z) (.int i) H Q := .inl (.inr ⟨z, i, c, rfl, rfl, hl, hi, h⟩)
def Uu : R2 := fun x y H Q => ∃ i j, x = .str i /\ y = .str j /\ i.length + j.length <= sizeLine /\ Q (.str (i ++ j)) H
theorem SK {X : Cx} : Bw X (binaryOp .Add) Uu := JU
theorem JV {i j : Str} (hl : i.length + j.length <= 4000) (h : Q (.str (i ++ j)) H) : Uu (.str i) (.str j) H Q := ⟨i, j, rfl, rfl, small hl, h⟩
theorem V3 {x : V} {i j l : Nat} {d1 d2 d3 : PyData} {R : St -> Hp -> Prop} (hd : Dv H x (.tuple [d1, d2, d3])) (h : ∀ v1 v2 v3, Dv H v1 d1 -> Dv H v2 d2 -> Dv H v3 d3 -> R (((σ.set i (some v1)).set j (some v2)).set l (some v3)) H) :
 Kz K 3 (tU (iT i) (tU (iT j) (tU (iT l) MF))) x σ H R := by
 cases hd with
 | tup ha r =>
   cases r with
   | cons h1 r =>
     cases r with
     | cons h2 r =>
       cases r with
       | cons h3 r =>
         cases r
         exact ⟨_, _, rfl, .of ha, rfl, _, _, rfl, _, _, rfl, _, _, rfl, rfl, h _ _ _ h1 h2 h3⟩
theorem abO {α : Type} {cs : List α} {gd : α -> PyData} {g : TG} {tb : TS} (hl : Dv H v (.list (cs.map gd))) (Pv : Nat -> St -> Hp -> Prop) (h0 : Pv 0 σ H) (hk : ∀ i σ H', i <= cs.length -> Pv i σ H' -> ∀ a xs, v = .ref a -> i9 K H a xs -> i9 K H' a xs)
 (hs : ∀ i c x σ H', cs[i]? = some c -> Pv i σ H' -> (By (gd c) = true -> (∀ a xs, H a = some (.tup xs) -> H' a = some (.tup xs)) -> Dv H' x (gd c)) -> (ax H H' -> Dv H' x (gd c)) -> g x σ H' fun σ2 H2 => tb { D with nx := Pv (i + 1), ct := Pv (i + 1), bk := D.nx } σ2 H2) (hd : ∀ σ H', Pv cs.length σ H' -> D.nx σ H') : S9 K v g tb D σ H := by
 obtain ⟨p, xs, rfl, e, dv⟩ := hl.lst_inv
 have hxl : xs.length = cs.length := by rw [dv.length, List.length_map]
 refine forL (e K) Pv h0 (fun i σ H' hi hp => hk i σ H' (by omega) hp p xs rfl (e K)) (fun i x σ H' hx hp => ?_) (fun σ H' hp => hd σ H' (by rw [<- hxl]; exact hp))
 have hi : i < cs.length := by have := (List.getElem?_eq_some_iff.mp hx).1; omega
 obtain ⟨x', t6, Fi⟩ := dv.get (i := i) (d := gd cs[i]) (by rw [List.getElem?_map, List.getElem?_eq_getElem hi]; rfl)
 rw [hx] at t6
 cases t6
 exact hs i cs[i] x σ H' (List.getElem?_eq_getElem hi) hp (fun im t => Fi.wF t im) (fun s => Fi.keeps s)
end
end L2
namespace L2
end L2
namespace L2
open PySem
theorem V4 {α : Type} {g : α -> PyData} {xs : List α} {K : PySem.W.Frag} {H : Hp} {Q : VK} {v : V} (hs : Dv H v (.list (xs.map g))) (h : Q (.int (xs.length : Nat)) H) : LA K [v] H Q := Oy (.inr hs) (by rw [List.length_map]; exact h)
theorem TC {i : Nat} {v : V} {σ : St} {H : Hp} {R : St -> Hp -> Prop} (h : R (σ.set i (some v)) H) : iT i v σ H R := h
theorem Mv.sq {K : PySem.W.Frag} {S : List Addr} {H H' : Hp} {a : Addr} {xs : List V} (m : Mv S H H') (n : a ∉ S) (h : i9 K H a xs) : i9 K H' a xs := by
 rcases h with (h | ⟨o, h⟩) | h
 . exact .inl (.inl (m.at n h))
 . exact .inl (.inr ⟨o, m.at n h⟩)
 . exact .inr h
theorem CN {te : TE} {N : Option V -> Hp -> Prop} {σ2 : St} {b : Bool} {H3 : Hp} (h1 : b = true -> te σ2 H3 (fun y H4 => N (some y) H4)) (h2 : b = false -> N none H3) : X3 te N σ2 b H3 := by
 unfold X3
 cases b with
 | true => rw [if_pos rfl]; exact h1 rfl
 | false => rw [if_neg (by simp)]; exact h2 rfl
end L2
namespace L2
open PySem PySem.Spec PyProof.Rows
section
variable {X : Cx} {K : PySem.W.Frag} {a b e : Expr} {es : List Expr} {ta : TE} {pos : Pos}
theorem Zk (h : X.K = K) : NK X (PF K) := by rw [<- h]; exact cf
theorem FY (h : X.K = K) (ha : PE X a ta) (he : ∀ whole, isTrue a X.env whole = (do let v <- whole; standAt a.pos; holding [v] (truthy v))) : PT X a (fun σ H Q => ta σ H fun x H' => ∃ k, QJ K x H' k /\ Q k H') := by rw [<- h]; exact cE ha he
theorem Lp {k : Nat} {t : N1} {n : Nat} (h : X.K = K) (hc : X.calm = true) (hs : ZR X es t) (hn : (assignEach es X.env).length = n := by rfl) (AO : (assignEach es X.env).findIdx? (·.1) = none := by rfl) : PG X (.Tuple es k pos) (Kz K n t) := by rw [<- h]; exact Hv hc hs hn AO
theorem pU {f : Str} (h : X.K = K) (ha : PE X a ta) (hb : attributeBase a f X.env (eval a X.env) = eval a X.env := by rfl) : PE X (.Attribute a f pos) (Wi K ta f) := by rw [<- h]; exact ay ha hb
end
end L2
namespace L2
open PySem PySem.Spec PyProof.Rows PySem.W
inductive nk (H : Hp) : List (Key × V) -> List (Str × PyData) -> Prop where
 | nil : nk H [] []
 | cons {k : Str} {v : V} {d : PyData} {kvs : List (Key × V)} {m : List (Str × PyData)} (h : Dv H v d) (i : By d = true) (r : nk H kvs m) : nk H ((.inr k, v) :: kvs) ((k, d) :: m)
theorem nk.wF {H H' : Hp} (t : ∀ a xs, H a = some (.tup xs) -> H' a = some (.tup xs)) : ∀ {kvs : List (Key × V)} {m : List (Str × PyData)}, nk H kvs m -> nk H' kvs m
 | _, _, .nil => .nil
 | _, _, .cons h i r => .cons (h.wF t i) i (nk.wF t r)
theorem nk.length {H : Hp} : ∀ {kvs : List (Key × V)} {m : List (Str × PyData)}, nk H kvs m -> kvs.length = m.length
 | _, _, .nil => rfl
 | _, _, .cons _ _ r => by simp [nk.length r]
def hX (m : List (Str × PyData)) (k : Str) : Option PyData := (m.find? fun kv => decide (kv.1 = k)).map (·.2)
def putD (m : List (Str × PyData)) (k : Str) (d : PyData) : List (Str × PyData) := if (m.any fun kv => decide (kv.1 = k)) = true then m.map (fun kv => if kv.1 = k then (kv.1, d) else kv) else m ++ [(k, d)]
def kM (m : List (Str × PyData)) (k : Str) : List (Str × PyData) := m.filter fun kv => decide (kv.1 ≠ k)
theorem KY {a b : Str} : ((Sum.inr a : Key) = Sum.inr b) = (a = b) := propext ⟨fun h => Sum.inr.inj h, fun h => by rw [h]⟩
theorem nk.val {H : Hp} {k : Str} : ∀ {kvs : List (Key × V)} {m : List (Str × PyData)}, nk H kvs m -> (∀ d, hX m k = some d -> ∃ v, nr kvs (.inr k) = some v /\ Dv H v d) /\ (hX m k = none -> nr kvs (.inr k) = none)
 | _, _, .nil => ⟨fun d h => by simp [hX] at h, fun _ => rfl⟩
 | _, _, .cons (k := j) h i r => by
   obtain ⟨h1, h2⟩ := nk.val (k := k) r
   by_cases e : j = k
   . subst e
     refine ⟨fun d hd => ⟨_, tF rfl, ?_⟩, fun hd => by simp [hX] at hd⟩
     simp [hX] at hd
     subst hd; exact h
   . have e' : (Sum.inr j : Key) ≠ .inr k := fun z => e (Sum.inr.inj z)
     have el : ∀ (d : PyData) (m : List (Str × PyData)), hX ((j, d) :: m) k = hX m k := fun d m => by simp [hX, List.find?_cons, e]
     refine ⟨fun d hd => ?_, fun hd => ?_⟩
     . rw [el] at hd
       obtain ⟨v, hv, Fi⟩ := h1 d hd
       exact ⟨v, by rw [nW e']; exact hv, Fi⟩
     . rw [el] at hd
       rw [nW e']; exact h2 hd
theorem nk.any {H : Hp} {k : Str} : ∀ {kvs : List (Key × V)} {m : List (Str × PyData)}, nk H kvs m -> (kvs.any fun kv => decide (kv.1 = .inr k)) = m.any fun kv => decide (kv.1 = k)
 | _, _, .nil => rfl
 | _, _, .cons h i r => by
   simp only [List.any_cons, nk.any r, KY]
theorem nk.append {H : Hp} : ∀ {kvs ZX : List (Key × V)} {m m' : List (Str × PyData)}, nk H kvs m -> nk H ZX m' -> nk H (kvs ++ ZX) (m ++ m')
 | _, _, _, _, .nil, s => s
 | _, _, _, _, .cons h i r, s => .cons h i (nk.append r s)
theorem nk.repl {H : Hp} {k : Str} {v : V} {d : PyData} (hv : Dv H v d) (hi : By d = true) : ∀ {kvs : List (Key × V)} {m : List (Str × PyData)}, nk H kvs m -> nk H (kvs.map fun kv => if kv.1 = .inr k then (kv.1, v) else kv) (m.map fun kv => if kv.1 = k then (kv.1, d) else kv)
 | _, _, .nil => .nil
 | _, _, .cons (k := j) h i r => by
   rw [List.map_cons, List.map_cons]
   by_cases e : j = k
   . subst e
     rw [if_pos rfl, if_pos rfl]
     exact .cons hv hi (nk.repl hv hi r)
   . rw [if_neg (fun z => e (Sum.inr.inj z)), if_neg e]
     exact .cons h i (nk.repl hv hi r)
theorem nk.put {H : Hp} {k : Str} {v : V} {d : PyData} {kvs : List (Key × V)} {m : List (Str × PyData)} (r : nk H kvs m) (hv : Dv H v d) (hi : By d = true) : nk H (putK kvs (.inr k) v) (putD m k d) := by
 unfold putK putD
 rw [r.any]
 by_cases h : (m.any fun kv => decide (kv.1 = k)) = true
 . rw [if_pos h, if_pos h]; exact r.repl hv hi
 . rw [if_neg h, if_neg h]; exact r.append (.cons hv hi .nil)
theorem nk.drop {H : Hp} {k : Str} : ∀ {kvs : List (Key × V)} {m : List (Str × PyData)}, nk H kvs m -> nk H (qp kvs (.inr k)) (kM m k)
 | _, _, .nil => .nil
 | _, _, .cons (k := j) h i r => by
   by_cases e : j = k
   . subst e
     have := nk.drop (k := j) r
     simpa [qp, kM] using this
   . have := nk.drop (k := k) r
     have e' : (Sum.inr j : Key) ≠ .inr k := fun z => e (Sum.inr.inj z)
     simp only [qp, kM, List.filter_cons] at this ⊢
     rw [if_pos (by simpa using e'), if_pos (by simpa using e)]
     exact .cons h i this
def pq (H : Hp) (p : Addr) (m : List (Str × PyData)) : Prop := ∃ kvs, H p = some (.dK kvs) /\ nk H kvs m
theorem pq.keeps {H H' : Hp} {p : Addr} {m : List (Str × PyData)} (s : ax H H') (h : pq H p m) : pq H' p m := let ⟨kvs, e, d⟩ := h; ⟨kvs, s _ _ e, d.wF fun a xs e => s _ _ e⟩
theorem pq.mv {S : List Addr} {H H' : Hp} {p : Addr} {m : List (Str × PyData)} (v : Mv S H H') (n : p ∉ S) (h : pq H p m) : pq H' p m := let ⟨kvs, e, d⟩ := h; ⟨kvs, v.at n e, d.wF v.tp⟩
section
variable {σ : St} {H : Hp} {Q : VK} {D : Ends} {K : PySem.W.Frag} {p : Addr} {m : List (Str × PyData)} {k : Str}
theorem W6 (h : ∀ p H2, ax H H2 -> H p = none -> pq H2 p [] -> Q (.ref p) H2) : N7 σ H Q := fun p hp => h p _ (cF hp) hp ⟨[], au, .nil⟩
theorem RE {td ty tv : TE} (h : tv σ H fun v H1 => td σ H1 fun x H2 => ty σ H2 fun y H3 => ∃ a H4, x = .ref a /\ GB H3 a y v H4 /\ D.nx σ H4) : UO td ty tv D σ H := h
theorem VS {v : V} {d : PyData} {R : Hp -> Prop} (hp : pq H p m) (hl : m.length <= 4000) (hv : Dv H v d) (hi : By d = true) (h : ∀ H2, Mv [p] H H2 -> pq H2 p (putD m k d) -> R H2) : ∃ a H4, V.ref p = .ref a /\ GB H a (.str k) v H4 /\ R H4 := by
 obtain ⟨kvs, e, dk⟩ := hp
 have mv : Mv [p] H (upd H p (.dK (putK kvs (.inr k) v))) := .bP e (by intro _ z; cases z)
 exact ⟨p, _, rfl, GB.k (k := .inr k) e (by rw [dk.length]; exact md hl), h _ mv ⟨_, au, (dk.put hv hi).wF mv.tp⟩⟩
theorem TV {td ty : TE} (h : td σ H fun x H1 => ty σ H1 fun y H2 => ∃ a v, x = .ref a /\ hJ H2 a y (some v) /\ Q v H2) : UZ td ty σ H Q := h
theorem Vf {d : PyData} {R : V -> Prop} (hp : pq H p m) (hk : hX m k = some d) (h : DV H d fun v _ => R v) : ∃ a v, V.ref p = .ref a /\ hJ H a (.str k) (some v) /\ R v := by
 obtain ⟨kvs, e, dk⟩ := hp
 obtain ⟨v, hv, hd⟩ := (dk.val (k := k)).1 d hk
 exact ⟨p, v, rfl, by rw [<- hv]; exact hJ.k (k := .inr k) e, h.use hd⟩
theorem WN {td ty : TE} (h : ty σ H fun y H1 => td σ H1 fun x H2 => ∃ a o, x = .ref a /\ hJ H2 a y o /\ Q (.bl o.isSome) H2) : YM ty td σ H Q := h
theorem RV {td ty : TE} (h : ty σ H fun y H1 => td σ H1 fun x H2 => ∃ a o, x = .ref a /\ hJ H2 a y o /\ Q (.bl (!o.isSome)) H2) : KQ ty td σ H Q := h
theorem Z0 (hp : pq H p m) (k : Str) : ∃ o, hJ H p (.str k) o /\ o.isSome = (hX m k).isSome := by
 obtain ⟨kvs, e, dk⟩ := hp
 refine ⟨nr kvs (.inr k), hJ.k (k := .inr k) e, ?_⟩
 obtain ⟨h1, h2⟩ := dk.val (k := k)
 cases hl : hX m k with
 | none => rw [h2 hl]; rfl
 | some d => obtain ⟨v, hv, _⟩ := h1 d hl; rw [hv]; rfl
theorem Zm {R : Option V -> Prop} (hp : pq H p m) (h : ∀ o : Option V, o.isSome = (hX m k).isSome -> R o) : ∃ a o, V.ref p = .ref a /\ hJ H a (.str k) o /\ R o := by
 obtain ⟨o, g, e⟩ := Z0 hp k
 exact ⟨p, o, rfl, g, h o e⟩
def ow : Option Int -> V | none => .aT | some i => .int i
def XY : Option Int -> PyData | none => .none | some i => .int i
theorem aag {H : Hp} (o : Option Int) : Dv H (ow o) (XY o) := by cases o; exact .aT; exact .int _
theorem Ld (o : Option Int) : By (XY o) = true := by cases o <;> rfl
end
end L2
namespace L2
theorem acT {t : TE} {σ : St} {H : Hp} {Q : Bool -> Hp -> Prop} (h : t σ H fun x H' => ∃ k, x = .bl k /\ Q k H') : tB t σ H Q := h
end L2
namespace L2
open PySem
theorem YF {Hb : Hp} {σ : St} {H : Hp} {D : Ends} {K : PySem.W.Frag} {v : V} {α : Type} {cs : List α} {gd : α -> PyData} {g : TG} {tb : TS} (hl : Dv Hb v (.list (cs.map gd))) (Pv : Nat -> St -> Hp -> Prop) (h0 : Pv 0 σ H) (hk : ∀ i σ H', i <= cs.length -> Pv i σ H' -> ∀ a xs, v = .ref a -> i9 K Hb a xs -> i9 K H' a xs)
 (hs : ∀ i c x σ H', cs[i]? = some c -> Pv i σ H' -> (By (gd c) = true -> (∀ a xs, Hb a = some (.tup xs) -> H' a = some (.tup xs)) -> Dv H' x (gd c)) -> (ax Hb H' -> Dv H' x (gd c)) -> g x σ H' fun σ2 H2 => tb { D with nx := Pv (i + 1), ct := Pv (i + 1), bk := D.nx } σ2 H2) (hd : ∀ σ H', Pv cs.length σ H' -> D.nx σ H') : S9 K v g tb D σ H := by
 obtain ⟨p, xs, rfl, e, dv⟩ := hl.lst_inv
 have hxl : xs.length = cs.length := by rw [dv.length, List.length_map]
 refine forL (hk 0 σ H (Nat.zero_le _) h0 p xs rfl (e K)) Pv h0 (fun i σ H' hi hp => hk i σ H' (by omega) hp p xs rfl (e K)) (fun i x σ H' hx hp => ?_) (fun σ H' hp => hd σ H' (by rw [<- hxl]; exact hp))
 have hi : i < cs.length := by have := (List.getElem?_eq_some_iff.mp hx).1; omega
 obtain ⟨x', t6, Fi⟩ := dv.get (i := i) (d := gd cs[i]) (by rw [List.getElem?_map, List.getElem?_eq_getElem hi]; rfl)
 rw [hx] at t6
 cases t6
 exact hs i cs[i] x σ H' (List.getElem?_eq_getElem hi) hp (fun im t => Fi.wF t im) (fun s => Fi.keeps s)
end L2
namespace L2
open PySem PySem.Spec PyProof.Rows PySem.W
section
variable {X : Cx} {tg : Expr}
section
variable {σ : St} {H : Hp} {Q : VK} {D : Ends} {K : PySem.W.Frag}
end
end
end L2
namespace L2
open PySem
section
variable {H : Hp} {Q : VK} {K : PySem.W.Frag}
end
end L2
namespace L2
open PySem PySem.Spec PyProof.Rows PySem.W
section
variable {X : Cx}
theorem LJ {H : Hp} : ∀ {xs : List V} {ss : List Str} {us : List Value}, cI H xs (ss.map PyData.str) -> Vals xs us -> StrsAre us ss
 | _, [], _, .nil, .nil => .nil
 | _, b :: bs, _, .cons h r, .cons q t => by
   cases h
   obtain ⟨tk, rfl⟩ := q
   exact .cons _ _ (LJ r t)
end
section
variable {σ : St} {H : Hp} {Q : VK} {D : Ends} {K : PySem.W.Frag} {p : Addr} {ds : List PyData}
theorem PK {q : Addr} {es : List PyData} (hp : eT H p ds) (hq : eT H q es) (hl : ds.length + es.length <= 4000) (k : ∀ r H', ax H H' -> H r = none -> eT H' r (ds ++ es) -> Q (.ref r) H') : Y7 (.ref p) (.ref q) H Q := by
 obtain ⟨xs, e, dv, im⟩ := hp
 obtain ⟨zs, e2, Zi, im2⟩ := hq
 refine ⟨p, q, xs, zs, rfl, rfl, e, e2, by rw [dv.length, Zi.length]; exact small hl, fun r hr => ?_⟩
 exact k r _ (cF hr) hr (zr hr (dv.append Zi) (Fm im im2))
end
end L2
namespace L2
open PySem PySem.Calls PyProof.Rows
section
variable {X : Cx} {e k : Expr} {te tk : TE} {pos p2 : Pos}
end
section
variable {X : Cx}
end
section
variable {K : PySem.W.Frag} {σ : St} {H : Hp} {Q : VK} {p : Addr} {ds : List PyData}
end
end L2
namespace L2
open PySem PySem.Spec PyProof.Rows PySem.W
section
variable {X : Cx}
def QO (ss : List Str) : Prop := ss.Pairwise fun a b => IQ b a = false
theorem zY : ∀ (r : List Str) (p : Str), risingS p r = true -> (∀ x ∈ r, IQ x p = false) /\ QO r
 | [], _, _ => ⟨fun x hx => (by cases hx), List.Pairwise.nil⟩
 | y :: r, p, h => by
   unfold risingS at h
   rw [Bool.and_eq_true] at h
   obtain ⟨h1, h2⟩ := h
   have QS : IQ y p = false := by
    have : ltCps y.cps.toList p.cps.toList = false := by simpa using h1
    rw [ltCps_eq] at this
    exact this
   obtain ⟨a, b⟩ := zY r y h2
   refine ⟨fun x hx => ?_, List.pairwise_cons.mpr ⟨a, b⟩⟩
   rcases List.mem_cons.mp hx with rfl | hx
   . exact QS
   . exact Li (a x hx) QS
theorem Al {ss : List Str} (h : sortedS ss = true) : QO ss := by
 cases ss with
 | nil => exact List.Pairwise.nil
 | cons x r => obtain ⟨a, b⟩ := zY r x h; exact List.pairwise_cons.mpr ⟨a, b⟩
theorem FG : ∀ {xs ys : List Str}, xs.Perm ys -> QO xs -> QO ys -> xs = ys
 | [], _, hp, _, _ => List.Perm.nil_eq hp
 | x :: xs, [], hp, _, _ => by have := hp.length_eq; simp at this
 | x :: xs, y :: ys, hp, h1, h2 => by
   have hx := List.pairwise_cons.mp h1
   have hy := List.pairwise_cons.mp h2
   have hxy : x = y := by
    have m1 : y ∈ x :: xs := hp.mem_iff.mpr List.mem_cons_self
    have m2 : x ∈ y :: ys := hp.mem_iff.mp List.mem_cons_self
    rcases List.mem_cons.mp m1 with e | m1'
    . exact e.symm
    rcases List.mem_cons.mp m2 with e | m2'
    . exact e
    exact RD (hy.1 x m2') (hx.1 y m1')
   subst hxy
   rw [FG (List.Perm.cons_inv hp) hx.2 hy.2]
def O8 : List V -> Hp -> VK -> Prop := fun xs H Q => ∃ (v : V) (ss : List Str), xs = [v] /\ Dv H v (.list (ss.map PyData.str)) /\ ss.length < 64 /\ ∀ (q : Addr) (H' : Hp) (vC : List Str), ax H H' -> H q = none -> vC.Perm ss -> QO vC -> eT H' q (vC.map PyData.str) -> Q (.ref q) H'
theorem Ci : ∀ {us : List Value} {ss : List Str}, StrsAre us ss -> Vals (ss.map V.str) us
 | _, _, .nil => .nil
 | _, _, .cons _ t r => .cons ⟨t, rfl⟩ (Ci r)
theorem EC {H : Hp} : ∀ (ss : List Str), cI H (ss.map V.str) (ss.map PyData.str)
 | [] => .nil
 | x :: r => .cons (.str x) (EC r)
theorem Ka : iS X (.builtin "sorted") O8 := by
 intro pins s σ H xs us Q I r h
 obtain ⟨v, ss, rfl, hd, hl, q⟩ := h
 obtain ⟨u, rfl, ru⟩ := vals1 r
 obtain ⟨p, ys, rfl, e, dv⟩ := hd.lst_inv
 obtain ⟨b4, rvs, pl, _⟩ := I.list (e X.K)
 cases ru
 have hS := LJ dv rvs
 refine sorted_strs pl.isList hS (by rw [<- rvs.length, dv.length, List.length_map]; exact hl) fun out vC h1 h2 h3 => ?_
 obtain ⟨ep, he⟩ := sortedAll_at s.heap b4 out
 have hq : H (s.heap.objs.size + 1) = none := I.bA.fresh (Nat.le_succ _)
 refine ⟨.ref (s.heap.objs.size + 1), upd H (s.heap.objs.size + 1) (.lst (vC.map V.str)), I.laid (t' := s.toks) (fun b ob q => sortedAll_old q) (Nat.le_succ _) ?_, rfl, q _ _ vC (cF hq) hq h2 (Al h3) (zr hq (EC vC) (fx (fun _ => rfl) _))⟩
 exact ⟨by rw [List.length_map, h2.length_eq]; exact Nat.le_of_lt (md (by omega)), out.toList, ep, Ci h1, by simpa [seqObj] using he⟩
end
section
variable {prog : Program} {w : World} {A : Around} {E : Value -> Shared -> Prop} {s : Shared} {it l : Addr} {b4 : Array Value}
end
section
variable {X : Cx} {e : Expr} {te : TE} {p p2 pos aaZ : Pos}
end
section
variable {K : PySem.W.Frag} {σ : St} {H : Hp} {Q : VK} {p : Addr} {ds : List PyData} {v : V}
theorem T6 {ss : List Str} (hp : Dv H v (.list (ss.map PyData.str))) (hl : ss.length < 64) (k : ∀ q H' vC, ax H H' -> H q = none -> vC.Perm ss -> QO vC -> eT H' q (vC.map PyData.str) -> Q (.ref q) H') : O8 [v] H Q := ⟨v, ss, rfl, hp, hl, k⟩
end
section
variable {P : Program} {w : World} {H : Hp} {h : Heap} {d : Addr} {o : Obj} {kvs : List (Key × V)}
theorem pQ.uJ (ok : pQ P w H h) (hd : H d = some (.dK kvs)) (ho : h.get? d = some o) : pQ P w (upd H d (.uJ o (.dK kvs))) h := by
 intro b u q
 by_cases hb : b = d
 . subst hb
   rw [au] at q
   cases q
   exact ⟨ho, ok b _ hd⟩
 . rw [av hb] at q
   refine (ok b u q).Hj (fun c v _ r => r) (fun c r => ?_) fun c xs r => ?_
   . rw [av (jC r hd (by intro z; cases z))]; exact r
   . rw [av (jC r hd (by intro z; cases z))]; exact r
theorem pQ.VZ (ok : pQ P w H h) (hd : H d = some (.uJ o (.dK kvs))) : pQ P w (upd H d (.dK kvs)) h := by
 intro b u q
 by_cases hb : b = d
 . subst hb
   rw [au] at q
   cases q
   exact (ok b _ hd).2
 . rw [av hb] at q
   refine (ok b u q).Hj (fun c v _ r => r) (fun c r => ?_) fun c xs r => ?_
   . rw [av (jC r hd (by intro z; cases z))]; exact r
   . rw [av (jC r hd (by intro z; cases z))]; exact r
end
section
variable {X : Cx} {pins : List (Addr × Obj)} {σ : St} {H : Hp} {s : Shared} {d : Addr} {o : Obj} {kvs : List (Key × V)}
theorem Inv.freeze (I : Inv X pins σ H s) (hd : H d = some (.dK kvs)) (ho : s.heap.get? d = some o) : Inv X pins σ (upd H d (.uJ o (.dK kvs))) s := by
 have u : Un X.fs [] H (upd H d (.uJ o (.dK kvs))) s.heap s.heap := {
  keep := fun b u e n _ _ => e
  slot := fun b u e n _ _ => ⟨u.slots, e⟩
  free := fun b u e n _ => by rw [av (Ne.symm (aB hd n))]; exact n
  there := fun b u e _ => ⟨u, e⟩
  zC := fun b xs e => by rw [av (jC e hd (by intro z; cases z))]; exact e
  wO := fun b u v e => by rw [av (jC e hd (by intro z; cases z))]; exact e
  Ds := fun b ps e => ⟨#[], by rw [av (jC e hd (by intro z; cases z)), e]; simp⟩ }
 exact I.un (h' := s.heap) (t' := s.toks) u (I.bA.uJ hd ho)
theorem Inv.VZ (I : Inv X pins σ H s) (hd : H d = some (.uJ o (.dK kvs))) (h0 : ∀ u v, X.JO d ≠ some (.uJ u v)) : Inv X pins σ (upd H d (.dK kvs)) s := by
 have nn : ∀ b, H b = none -> upd H d (.dK kvs) b = none := fun b n => by rw [av (Ne.symm (aB hd n))]; exact n
 refine ⟨I.ok, I.os, I.bare, ⟨I.base.keep, I.base.slot, fun b u e n x => nn b (I.base.free b u e n x), I.base.there, fun b xs e => ?_, fun b u v e => ?_, fun b ps e => ?_⟩, I.loc, I.cell, nn _ I.free, fun x c e => nn c (I.mG x c e), fun p hp => ?_, I.bA.VZ hd, I.len⟩
 . have z := I.base.zC b xs e
   rw [av (jC z hd (by intro q; cases q))]; exact z
 . have z := I.base.wO b u v e
   have hb : b ≠ d := fun q => h0 u v (q ▸ e)
   rw [av hb]; exact z
 . obtain ⟨m, z⟩ := I.base.Ds b ps e
   exact ⟨m, by rw [av (jC z hd (by intro q; cases q))]; exact z⟩
 . obtain ⟨a1, a2, a3⟩ := I.pin p hp
   exact ⟨a1, nn _ a2, a3⟩
theorem Inv.Yo (I : Inv X pins σ H s) (hd : H d = some (.dK kvs)) : ∀ u v, X.JO d ≠ some (.uJ u v) := fun u v z => by
 have := I.base.wO d u v z
 rw [hd] at this
 cases this
def UL (t : TE) : TE := fun σ H Q => ∃ d kvs, H d = some (.dK kvs) /\ t σ H fun v H' => (∃ o, H' d = some (.uJ o (.dK kvs))) /\ Q v (upd H' d (.dK kvs))
theorem Te {e : Expr} {t : TE} (h : PE X e t) : PE X e (UL t) := by
 intro pins s σ H Q I ⟨d, kvs, hd, ht⟩
 have h0 := I.Yo hd
 exact dj (h pins s σ H _ I ht) fun v s1 ⟨x, H1, I1, r, ⟨o, ho⟩, q⟩ => ⟨x, _, I1.VZ ho h0, r, q⟩
end
theorem Lc {P : Program} {w : World} {H : Hp} {h : Heap} {d : Addr} {o : Obj} {kvs : List (Key × V)} {es : Array DictEntry} {ep : Nat} (ok : pQ P w H h) (hd : H d = some (.uJ o (.dK kvs))) (he : o.data = .dict es ep) : (d == sysModules) = false /\ ∃ vs, KV kvs vs /\ h.DictAt (aU P w) d vs ep := by
 obtain ⟨ho, _, hs, vs, kv, o2, es2, ep2, a1, a2, a3, a4⟩ := ok d _ hd
 rw [ho] at a1
 cases a1
 rw [he] at a3
 cases a3
 exact ⟨hs, vs, kv, _, _, ho, a2, he, a4⟩
theorem yS {α β : Type} {F : α -> β -> Prop} : ∀ {xs : List α} {ys : List β}, Paired F xs ys -> ∀ {i : Nat} {x : α}, xs[i]? = some x -> ∃ y, ys[i]? = some y /\ F x y
 | _, _, .nil, i, x, h => by simp at h
 | _, _, .cons r t, 0, x, h => by
   have e := Option.some.inj h
   exact ⟨_, rfl, e ▸ r⟩
 | _, _, .cons r t, i + 1, x, h => by
   obtain ⟨y, e, q⟩ := yS t (i := i) (by simpa using h)
   exact ⟨y, by simpa using e, q⟩
theorem Iq {k : Key} {v : Value} (h : Ek k v = true) : RelV (kV k) v := by
 rcases cq h with ⟨i, t, rfl, rfl⟩ | ⟨x, t, rfl, rfl⟩
 . exact ⟨t, rfl⟩
 . exact ⟨t, rfl⟩
def DRd (H : Hp) (p : Addr) (m : List (Str × PyData)) : Prop := ∃ kvs, Rd H p (.dK kvs) /\ nk H kvs m
theorem pq.rd {H : Hp} {p : Addr} {m : List (Str × PyData)} (h : pq H p m) : DRd H p m := let ⟨kvs, e, d⟩ := h; ⟨kvs, .inl e, d⟩
theorem nk.TY {H : Hp} : ∀ {kvs : List (Key × V)} {m : List (Str × PyData)}, nk H kvs m -> ∀ {i : Nat} {kv : Key × V}, kvs[i]? = some kv -> ∃ k d, m[i]? = some (k, d) /\ kv.1 = .inr k /\ Dv H kv.2 d
 | _, _, .nil, i, kv, h => by simp at h
 | _, _, .cons (k := k) (d := d) hv _ r, 0, kv, h => by
   have e := (Option.some.inj h).symm
   subst e
   exact ⟨k, d, rfl, rfl, hv⟩
 | _, _, .cons _ _ r, i + 1, kv, h => by
   obtain ⟨k, d, e, q⟩ := nk.TY r (i := i) (by simpa using h)
   exact ⟨k, d, by simpa using e, q⟩
section
variable {σ : St} {H : Hp} {Q : VK} {K : PySem.W.Frag} {p : Addr} {m : List (Str × PyData)} {k : Str}
end
section
variable {X : Cx}
def OZ : V -> List V -> Hp -> VK -> Prop := fun x vs H Q => ∃ a kvs k v, x = .ref a /\ vs = [kV k] /\ H a = some (.dK kvs) /\ nr kvs k = some v /\ Q v (upd H a (.dK (qp kvs k)))
theorem DH : MtM X "dict.pop" OZ := by
 intro pins s σ H x vs v us Q I rx rv h
 obtain ⟨a, kvs, k, y, rfl, rfl, hH, hv, q⟩ := h
 cases rx
 obtain ⟨u, rfl, ru⟩ := rv.one
 exact YT I hH ru hv (.inl rfl) fun w' s' I' r => ⟨y, _, I', r, q⟩
end
section
variable {σ : St} {H : Hp} {Q : VK} {K : PySem.W.Frag} {p : Addr} {m : List (Str × PyData)} {k : Str}
theorem NS {R : Prop} (hp : pq H p m) (h : R) : X0 K "dict" (.ref p) H /\ R := let ⟨kvs, e, _⟩ := hp; ⟨.inr (.inr (.inl ⟨rfl, .inl ⟨kvs, e⟩⟩)), h⟩
theorem Jk {d : PyData} (hp : pq H p m) (hk : hX m k = some d) (h : ∀ v H2, Mv [p] H H2 -> pq H2 p (kM m k) -> Q v H2) : OZ (.ref p) [.str k] H Q := by
 obtain ⟨kvs, e, dk⟩ := hp
 obtain ⟨v, hv, hd⟩ := (dk.val (k := k)).1 d hk
 have mv : Mv [p] H (upd H p (.dK (qp kvs (.inr k)))) := .bP e (by intro _ z; cases z)
 refine ⟨p, kvs, .inr k, v, rfl, rfl, e, hv, h v _ mv ⟨_, au, dk.drop.wF mv.tp⟩⟩
end
section
variable {σ : St} {H : Hp} {Q : VK} {K : PySem.W.Frag} {p : Addr}
end
section
variable {X : Cx}
end
theorem Kk {h : Heap} {o u : Obj} {b : Addr} (e : (h.push o).get? b = some u) (n : b ≠ h.objs.size) : h.get? b = some u := by
 obtain ⟨e1, e2⟩ := Heap.get?_some_iff.mp e
 refine Heap.get?_some_iff.mpr ⟨?_, e2⟩
 cases h
 simpa [Heap.push, Array.getElem?_push, n] using e1
section
variable {prog : Program} {w : World} {K : Type} [DecidableEq K] {knd : KeyKind prog w K} {A : Around} {E : Value -> Shared -> Prop} {s : Shared} {d : Addr} {kvs : List (K × Value)} {ep : Nat}
theorem PJ {R : Result -> Shared -> Prop} (hh : A.handled = none) (hd : (d == sysModules) = false) (y : Addr) (c0 : Nat) (hz : kvs.length <= sizeLine) (hm : s.heap.DictAt knd d kvs ep)
 (hy : s.heap.get? y = some { cls := .type "list", data := .seq #[] c0 }) (hyd : y ≠ d)
 (hR : ∀ s' acc c, s'.gens = s.gens -> s'.drawn = s.drawn -> s'.os = s.os -> (∀ b o, b ≠ y -> s.heap.get? b = some o -> s'.heap.get? b = some o) -> s'.heap.get? y = some { cls := .type "list", data := .seq acc c } -> ItemsOf (fun i v => ∃ k x, kvs[i]? = some (k, x) /\ knd.is k v = true) acc kvs.length -> R (.ok (.ret .none)) s') :
 wpAny (model prog w) A.in1 (Builtin.List.listExtendWith (.ref y) (.ref d) .none)
  (fun f s' => match f with | .done g => R (.ok g) s' | .again c => c.quiet = true /\ codeAny (model prog w) A c R s') (fun e s' => R (.error e) s') s := by
 have hT : s.TypeIs (.ref d) "dict" := hm.dictOf.typeIs
 have hyl : y < s.heap.objs.size := Heap.lt_size hy
 have X8 : d < s.heap.objs.size := hm.lt_size
 have W := (Walks.dictKeys (knd := knd) (A := A.in1) hh s.heap.objs.size d (Nat.ne_of_lt X8) kvs ep).toS
 have nf : y ∉ [s.heap.objs.size, d] := by simp [hyd, Nat.ne_of_lt hyl]
 unfold Builtin.List.listExtendWith
 refine wpAny_bind (wpAny_typeOf hT ?_)
 have a1 : Builtin.List.listSameRef (.ref y) (.ref d) = false := by simp [Builtin.List.listSameRef, hyd]
 have a2 : (Value.type "dict" == Value.type "list") = false := by decide
 have a3 : (Value.type "dict" == Value.type "tuple") = false := by decide
 simp only [a1, a2, a3, Bool.or_self, Bool.false_eq_true, if_false]
 refine wpAny_bind (wpAny_pyIter_dict hd hm ?_)
 refine wpAny_bind (wpAny_holding ?_)
 have hT1 : Shared.TypeIs { s with heap := s.heap.push { cls := .type "dict_keyiterator", data := .fields #[.ref d, .int 0 0, .int kvs.length 0, .int ep 0] } } (.ref d) "dict" := by
  obtain ⟨o, es, e, c, _⟩ := id hm
  exact ⟨o, Heap.get?_push_of_some _ e, c.1⟩
 unfold Builtin.List.listLengthHint
 refine wpAny_bind (wpAny_specialOf hT1 F.slot_dict_len.lookup ?_)
 generalize hid : ("dict.__len__" : String) = id0
 wp_delta
 rw [show splitId id0 = some ("dict", "__len__") from by subst hid; decide +kernel]
 subst hid
 refine wpAny_bind (wpAny_isInstance (T := "dict") (b := true) hT1 (by rw [isSubtype_type]; kernel_rfl) ?_)
 refine wpAny_ite_split (fun hab => absurd hab (by decide)) (fun _ => ?_)
 refine wpAny_ite_split (fun _ => ?_) (fun hab => absurd (by decide +kernel) hab)
 refine wpAny_bind (wpAny_typeOf hT1 (wpAny_pure ?_))
 show wpAny _ A.in1 (rule "list.extend.makes-room" >>= fun _ => Builtin.List.listTouch (.ref y) >>= fun _ =>
  again (.builtin "list.extend.loop" ⟨[.ref y, .ref s.heap.objs.size, .none], []⟩)) _ _ _
 refine wpAny_bind (wpAny_rule ?_)
 have hy1 := Heap.get?_push_of_some { cls := .type "dict_keyiterator", data := .fields #[.ref d, .int 0 0, .int kvs.length 0, .int ep 0] } hy
 refine wpAny_bind ?_
 show wpAny _ A.in1 (updateSeq y (·.push .none) >>= fun _ => updateSeq y (·.pop)) _ _ _
 refine wpAny_bind (wpAny_updateSeq hy1 rfl ?_)
 have V9 := Heap.get?_update_self (Obj.mapSeq (·.push Value.none)) hy1 rfl
 refine wpAny_updateSeq (hz := by seq_fits) V9 rfl ?_
 have hy3 := Heap.get?_update_self (Obj.mapSeq (·.pop)) V9 rfl
 have ot : ∀ b o, b ≠ y -> (s.heap.push { cls := .type "dict_keyiterator", data := .fields #[.ref d, .int 0 0, .int kvs.length 0, .int ep 0] }).get? b = some o -> (((s.heap.push { cls := .type "dict_keyiterator", data := .fields #[.ref d, .int 0 0, .int kvs.length 0, .int ep 0] }).update y (Obj.mapSeq (·.push Value.none))).update y (Obj.mapSeq (·.pop))).get? b = some o :=
  fun b o hb e => (Heap.get?_update_other _ _ (Ne.symm hb)).trans ((Heap.get?_update_other _ _ (Ne.symm hb)).trans e)
 have it0 : Heap.IsKeyIter (s.heap.push { cls := .type "dict_keyiterator", data := .fields #[.ref d, .int 0 0, .int kvs.length 0, .int ep 0] }) s.heap.objs.size d 0 kvs.length ep := ⟨_, Heap.get?_push_size _ rfl, rfl, rfl⟩
 refine wpAny_pure ⟨plainId_quiet F.plain_extend_loop _, codeAny_extend_loopS W hz _ nf _ kvs.length 0 _ _ _ rfl (Nat.zero_le _) ⟨it0.at fun o e => ot _ o (Ne.symm (Nat.ne_of_lt hyl)) e, (hm.push _).at' fun o e => ot _ o (Ne.symm hyd) e⟩ hy3 (ItemsOf.nil _) fun s' acc c hmv hs jj => ?_⟩
 refine hR s' acc c hmv.gens hmv.drawn hmv.os (fun b o hb e => hmv.heap b o ?_ (ot b o hb (Heap.get?_push_of_some _ e))) hs jj
 simp [hb, Nat.ne_of_lt (Heap.lt_size e)]
theorem D5 {Q : Value -> Shared -> Prop} (hh : A.handled = none) (hd : (d == sysModules) = false) (hz : kvs.length <= sizeLine) (hm : s.heap.DictAt knd d kvs ep)
 (hQ : ∀ s' acc c, s'.gens = s.gens -> s'.drawn = s.drawn -> s'.os = s.os -> (∀ b o, s.heap.get? b = some o -> s'.heap.get? b = some o) -> s'.heap.get? s.heap.objs.size = some { cls := .type "list", data := .seq acc c } -> ItemsOf (fun i v => ∃ k x, kvs[i]? = some (k, x) /\ knd.is k v = true) acc kvs.length -> Q (.ref s.heap.objs.size) s') :
 wpAny (model prog w) A (call (.type "list") [.ref d]) Q E s := by
 have X8 : d < s.heap.objs.size := hm.lt_size
 refine callType_codes (Q₁ := fun u s1 => u = .ref s.heap.objs.size /\ s1 = { s with heap := s.heap.push { cls := .type "list", data := .seq #[] } }) F.called_list (F.typeCall_list_1 _) F.entry_list_init (code_list_new _ ⟨rfl, rfl⟩) fun u s1 hu => ?_
 obtain ⟨rfl, rfl⟩ := hu
 have h0 : (s.heap.push { cls := .type "list", data := .seq #[] }).get? s.heap.objs.size = some { cls := .type "list", data := .seq #[] } := Heap.get?_push_size _ rfl
 refine ⟨⟨_, h0, rfl⟩, F.args_list_init_2 _ _, ?_⟩
 show wpAny _ _ (Builtin.List.listItems (.ref s.heap.objs.size) >>= fun old => Builtin.List.listUpdate (.ref s.heap.objs.size) (fun _ => #[]) >>= fun _ => letGo old.toList.reverse >>= fun _ => Builtin.List.listExtendWith (.ref s.heap.objs.size) (.ref d) .none) _ _ _
 refine wpAny_bind ?_
 unfold Builtin.List.listItems
 refine wpAny_bind (wpAny_seqItems h0 rfl (wpAny_pure (wpAny_bind ?_)))
 refine wpAny_updateSeq h0 rfl (wpAny_bind (wpAny_letGo ?_))
 have h2 := Heap.get?_update_self (Obj.mapSeq (fun _ => (#[] : Array Value))) h0 rfl
 have ot : ∀ b o, b ≠ s.heap.objs.size -> s.heap.get? b = some o -> ((s.heap.push { cls := .type "list", data := .seq #[] }).update s.heap.objs.size (Obj.mapSeq (fun _ => (#[] : Array Value)))).get? b = some o := fun b o hb e => by
  rw [Heap.get?_update_other _ _ (Ne.symm hb)]
  exact Heap.get?_push_of_some _ e
 refine PJ (A := A.in1) hh hd _ _ hz (hm.at' fun o e => ot d o (Nat.ne_of_lt X8) e) h2 (Ne.symm (Nat.ne_of_lt X8)) fun s' acc c e1 e2 e3 X6 hs jj => ?_
 exact ⟨rfl, hQ s' acc c e1 e2 e3 (fun b o e => X6 b o (Nat.ne_of_lt (Heap.lt_size e)) (ot b o (Nat.ne_of_lt (Heap.lt_size e)) e)) hs jj⟩
end
section
variable {X : Cx}
def PR : List V -> Hp -> VK -> Prop := fun xs H Q => ∃ p kvs, xs = [.ref p] /\ Rd H p (.dK kvs) /\ ∀ q, H q = none -> Q (.ref q) (upd H q (.lst (kvs.map fun kv => kV kv.1)))
theorem Ef {P : Program} {w : World} {kvs : List (Key × V)} {vs : List (Key × Value)} {acc : Array Value} (kv : KV kvs vs) (h : ItemsOf (fun i v => ∃ k x, vs[i]? = some (k, x) /\ (aU P w).is k v = true) acc vs.length) : Vals (kvs.map fun kv => kV kv.1) acc.toList := by
 obtain ⟨h0, h1⟩ := h
 have key : ∀ (kvs : List (Key × V)) (vs : List (Key × Value)), KV kvs vs -> ∀ l : List Value, l.length = vs.length -> (∀ (i : Nat) (v : Value), l[i]? = some v -> ∃ k x, vs[i]? = some (k, x) /\ (aU P w).is k v = true) -> Vals (kvs.map fun kv => kV kv.1) l := by
  intro kvs vs r
  induction r with
  | nil =>
    intro l hl _
    cases l with
    | nil => exact .nil
    | cons => simp at hl
  | cons r t ih =>
    intro l hl hi
    cases l with
    | nil => simp at hl
    | cons v l =>
      refine .cons ?_ (ih l (by simpa using hl) fun i v e => ?_)
      . obtain ⟨k, x, e, hk⟩ := hi 0 v rfl
        have e' := Option.some.inj e
        dsimp only
        rw [r.1, e']
        exact Iq hk
      . exact hi (i + 1) v (by simpa using e)
 exact key kvs vs kv acc.toList (by simpa using h0) fun i v e => h1 i v (by simpa using e)
theorem J4 (hc : X.calm = true) : iS X (.type "list") PR := by
 intro pins s σ H xs us Q I rv h
 obtain ⟨p, kvs, rfl, hH, q⟩ := h
 obtain ⟨u, rfl, ru⟩ := rv.one
 cases ru
 have ob : cH X.prog X.w H s.heap p (.dK kvs) := by
  rcases hH with e | ⟨o, e⟩
  . exact I.bA p _ e
  . exact (I.bA p _ e).2
 obtain ⟨hz, hs, vs, kv, dof⟩ := ob
 obtain ⟨ep, da⟩ := dof.dictAt
 have hlen : vs.length = kvs.length := kv.length.symm
 refine D5 (I.ok.hd hc) hs (by rw [hlen]; exact hz) da fun s' acc c eg ed eo hk HB jj => ?_
 obtain ⟨h', g', d', tk', os'⟩ := s'
 have eg : g' = s.gens := eg
 have ed : d' = s.drawn := ed
 have eo : os' = s.os := eo
 subst eg; subst ed; subst eo
 refine ⟨.ref s.heap.objs.size, _, I.laid (t' := tk') (o := .lst (kvs.map fun kv => kV kv.1)) (fun b ob e => hk b ob e) (Nat.le_refl _) ?_, rfl, q _ (I.bA.fresh (Nat.le_refl _))⟩
 exact ⟨by rw [List.length_map]; exact hz, acc.toList, c, Ef kv jj, by simpa using HB⟩
end
section
variable {σ : St} {H : Hp} {Q : VK} {p : Addr} {m : List (Str × PyData)}
theorem nk.keys {H H' : Hp} : ∀ {kvs : List (Key × V)} {m : List (Str × PyData)}, nk H kvs m -> cI H' (kvs.map fun kv => kV kv.1) ((m.map (·.1)).map PyData.str)
 | _, _, .nil => .nil
 | _, _, .cons _ _ r => .cons (.str _) (nk.keys r)
theorem Dd : ∀ ss : List Str, cC (ss.map PyData.str) = true
 | [] => rfl
 | _ :: r => by rw [List.map_cons, cC, Dd r]; rfl
theorem Se (hp : DRd H p m) (k : ∀ q H', ax H H' -> H q = none -> eT H' q ((m.map (·.1)).map PyData.str) -> Q (.ref q) H') : PR [.ref p] H Q := by
 obtain ⟨kvs, e, dk⟩ := hp
 exact ⟨p, kvs, rfl, e, fun q hq => k q _ (cF hq) hq (zr hq dk.keys (Dd _))⟩
end
theorem wQ : entryFor table "dict_itemiterator.__iter__" = some Builtin.«dict_keyiterator.__iter__» :=
 PySem.W.kcp_entry
def Iti (d : Addr) (o : Obj) (kvs : List (Key × V)) : It := ⟨fun i H => i < kvs.length /\ H d = some (.uJ o (.dK kvs)), fun i H v H' => ∃ t kv, kvs[i]? = some kv /\ v = .ref t /\ H t = none /\ H' = upd H t (.tup [kV kv.1, kv.2]), fun i H => i = kvs.length /\ H d = some (.uJ o (.dK kvs))⟩
theorem Kj {P : Program} {w : World} {K : PySem.W.Frag} {elts : List Expr} {x1} {pos : Pos} {it d : Addr} {o : Obj} {kvs : List (Key × V)} {es : Array DictEntry} {ep : Nat} (he : o.data = .dict es ep) (K7 : d ≠ it) :
 Turn P w K (.Tuple elts x1 pos) (Iti d o kvs) [it] it (fun i h => ∃ ok ov, IsItemIter h it d i kvs.length ep ok ov) where
 mem := by simp
 obj := fun i h st b hb => by
  have e : b = it := by simpa using hb
  subst e
  obtain ⟨ok, ov, e⟩ := st
  exact ⟨_, e, fun v z => by cases z⟩
 keep := fun i h h' st k => let ⟨ok, ov, e⟩ := st; ⟨ok, ov, k it (by simp) _ e⟩
 item := by
  intro X hP hw hK hc i pins s σ H E I hf st hg
  subst hP hw hK
  obtain ⟨f0, f1, f2, f3, f4, f5⟩ := hf it (by simp)
  obtain ⟨hi, hd⟩ := hg
  obtain ⟨_, vs, kv, da⟩ := Lc I.bA hd he
  have hl : vs.length = kvs.length := kv.length.symm
  obtain ⟨ok, ov, st⟩ := st
  obtain ⟨q, hq⟩ : ∃ q, kvs[i]? = some q := ⟨_, List.getElem?_eq_getElem hi⟩
  obtain ⟨⟨k, v⟩, hy, V9⟩ := yS kv hq
  have hil : it < s.heap.objs.size := Heap.lt_size st
  have hn : H s.heap.objs.size = none := I.bA.fresh (Nat.le_refl _)
  refine wpAny_pyNext_items_item (knd := aU X.prog X.w) (by rw [hl]; exact st) da hy fun key h' hk hit ht hz kk => ?_
  rw [hl] at hit
  refine ⟨_, rfl, wpAny_letOwnedTupleGo_items (s := { s with heap := h' }) hit fun h2 acY sb => ?_⟩
  have I1 : Inv X pins σ (upd H s.heap.objs.size (.tup [kV q.1, q.2])) { s with heap := s.heap.push { cls := .type "tuple", data := .seq #[key, v] } } :=
   I.laid (t' := s.toks) (fun b u e => Heap.get?_push_of_some _ e) (Nat.le_refl _) (show cH X.prog X.w _ _ _ (.tup [kV q.1, q.2]) from ⟨by rw [sizeLine_eq]; simp, [key, v], .cons (by rw [V9.1]; exact Iq hk) (.cons V9.2 .nil), IsTup.new _ _⟩)
  have QM : upd H s.heap.objs.size (.tup [kV q.1, q.2]) it = none := by rw [av (Nat.ne_of_lt hil)]; exact f0
  have I2 : Inv X pins σ (upd H s.heap.objs.size (.tup [kV q.1, q.2])) { s with heap := h2 } := by
   refine Inv.turned (s := { s with heap := s.heap.push { cls := .type "tuple", data := .seq #[key, v] } }) (h' := h2) (t' := s.toks) (it := it) I1 (fun b u hb e => ?_) QM f1 f3 f4 f5
   by_cases hbn : b = s.heap.objs.size
   . subst hbn
     have e0 : (s.heap.push { cls := .type "tuple", data := .seq #[key, v] }).get? s.heap.objs.size = some { cls := .type "tuple", data := .seq #[key, v] } := Heap.get?_push_size _ rfl
     have e1 := e0.symm.trans e
     cases e1
     exact (sb.2 _ hb).trans ht
   . exact (sb.2 _ hb).trans (kk b u hb (Kk e hbn))
  refine ⟨.ref s.heap.objs.size, _, I2, rfl, ⟨_, q, hq, rfl, hn, rfl⟩, ⟨_, _, acY⟩, fun b hb => ?_⟩
  have e : b = it := by simpa using hb
  rw [e]
  exact QM
 done := by
  intro X hP hw hK hc i pins s σ H E I hf st hg
  subst hP hw hK
  obtain ⟨f0, f1, f2, f3, f4, f5⟩ := hf it (by simp)
  obtain ⟨hi, hd⟩ := hg
  obtain ⟨_, vs, kv, da⟩ := Lc I.bA hd he
  have hl : vs.length = kvs.length := kv.length.symm
  obtain ⟨ok, ov, st⟩ := st
  refine wpAny_pyNext_items_end (knd := aU X.prog X.w) (I.ok.hd hc) (by rw [hl]; exact st) da (by rw [hi, <- hl]; simp) fun h' hx => ⟨rfl, I.turned (t' := s.toks) (fun b u hb e => hx b u hb e) f0 f1 f3 f4 f5⟩
 self := fun A i s Q E st q => by
  obtain ⟨ok, ov, st⟩ := st
  have hT : s.TypeIs (.ref it) "dict_itemiterator" := ⟨_, st, rfl⟩
  refine wpAny_pyIter_slot hT F.slot_dict_itemiterator_iter (wpAny_call_entry F.slot_dict_itemiterator_iter hT wQ ?_ (F.args_dict_itemiterator_iter_1 _))
  show wpAny _ _ (ret (.ref it)) _ _ s
  exact wpAny_pure ⟨_, rfl, "dict_itemiterator", _, hT, F.slot_dict_itemiterator_next.lookup, q⟩
def OI (tl : TE) : TI := fun σ H R => tl σ H fun v H1 => ∃ d kvs, v = .ref d /\ H1 d = some (.dK kvs) /\ ∀ o, R (Iti d o kvs) (upd H1 d (.uJ o (.dK kvs)))
theorem Ql {X : Cx} {elts : List Expr} {x1} {VV : Pos} {l : Expr} {tl : TE} {apos fU : Pos} (hl : PE X l tl)
 (IT : attributeBase l "items" X.env (eval l X.env) = eval l X.env := by rfl) (hline : (apos.endLine == fU.line) = true := by rfl) : PI X (.Tuple elts x1 VV) (.Call (.Attribute l "items" apos) [] [] fU) (OI tl) := by
 intro pins s σ H R I h
 refine wpAny_Call_method0_late IT hline (dj (hl pins s σ H _ I h) fun v s1 ⟨y, H1, I1, r1, q1⟩ => ?_)
 obtain ⟨d, kvs, rfl, hd, q⟩ := q1
 obtain ⟨h1, h2⟩ := J2 I1 (T := "dict") r1 (.inr (.inr (.inl ⟨rfl, .inl ⟨kvs, hd⟩⟩)))
 cases r1
 refine ⟨"dict", "dict.items", PySem.F.plainAttrs_dict, PySem.F.slot_dict_items, PySem.F.type_dict_items, h1, h2, Calls.callWith_builtin rfl (PySem.evalArgs_none ?_)⟩
 obtain ⟨_, hs, vs, kv, o, es, ep, ho, a2, a3, a4⟩ := (show cH X.prog X.w H1 s1.heap d (.dK kvs) from I1.bA d _ hd)
 have da : s1.heap.DictAt (aU X.prog X.w) d vs ep := ⟨o, es, ho, a2, a3, a4⟩
 have wL : d < s1.heap.objs.size := Heap.lt_size ho
 have hlen : vs.length = kvs.length := kv.length.symm
 refine call_meetsIn PySem.F.slot_dict_items da.dictOf.typeIs PySem.F.entry_dict_items (PySem.F.args_dict_items_1 _) (meets_dict_items (aU X.prog X.w) d hs) ⟨⟨vs, da.dictOf⟩, ?_⟩
 refine wpAny_pyIter_items (v := s1.heap.objs.size) ⟨_, Heap.get?_push_size _ rfl, rfl, rfl⟩ (da.push _) ?_
 have I2 := I1.freeze hd ho
 have hsz : (s1.heap.push { cls := .type "dict_items", data := .fields #[.ref d] }).objs.size = s1.heap.objs.size + 1 := Heap.size_push ..
 refine ⟨_, [_], _, _, _, rfl, I2.kept (t' := s1.toks) fun b u e => Heap.get?_push_of_some _ (Heap.get?_push_of_some _ e), Kj a3 (Nat.ne_of_lt (by rw [hsz]; exact Nat.lt_succ_of_lt wL)), ⟨_, _, by rw [<- hlen]; exact Heap.get?_push_size _ rfl⟩, fun b hb => ?_, q o⟩
 have e : b = (s1.heap.push { cls := .type "dict_items", data := .fields #[.ref d] }).objs.size := by simpa using hb
 subst e
 exact I2.Jv (by rw [hsz]; exact Nat.le_succ _) (I2.bA.fresh (by rw [hsz]; exact Nat.le_succ _))
section
variable {σ : St} {H : Hp} {D : Ends} {p : Addr} {m : List (Str × PyData)} {g : TG} {tb : TS}
end
section
variable {σ : St} {H : Hp} {K : PySem.W.Frag}
theorem GV {x : V} {i j : Nat} {d1 d2 : PyData} {R : St -> Hp -> Prop} (hd : Dv H x (.tuple [d1, d2])) (h : ∀ v1 v2, Dv H v1 d1 -> Dv H v2 d2 -> R ((σ.set i (some v1)).set j (some v2)) H) :
 Kz K 2 (tU (iT i) (tU (iT j) MF)) x σ H R := by
 cases hd with
 | tup ha r =>
   cases r with
   | cons h1 r =>
     cases r with
     | cons h2 r =>
       cases r
       exact ⟨_, _, rfl, .of ha, rfl, _, _, rfl, _, _, rfl, rfl, h _ _ h1 h2⟩
end
end L2
namespace L2
open PySem
def UpA (xs : Array Nat) : Prop := ∀ i j, (hi : i < xs.size) -> (hj : j < xs.size) -> i < j -> xs[i] < xs[j]
structure Good (t : SetTable) : Prop where
 up : UpA t.place
 nd : t.dummies = #[]
section
variable {prog : Program} {w : World} {A : Around} {E : Value -> Shared -> Prop} {s : Shared}
end
section
variable {prog : Program} {w : World} {A : Around} {E : Value -> Shared -> Prop} {s : Shared}
end
set_option maxRecDepth 100000
section
variable {prog : Program} {w : World} {A : Around} {E : Value -> Shared -> Prop} {s : Shared} {it a : Addr} {o : Obj} {es : Array (Int × Value)} {ep : Nat} {t : SetTable}
end
section
variable {prog : Program} {w : World} {A : Around} {E : Value -> Shared -> Prop} {s : Shared} {it a : Addr} {o : Obj} {es : Array (Int × Value)} {ep : Nat} {t : SetTable}
end
section
variable {prog : Program} {w : World} {A : Around} {E : Value -> Shared -> Prop} {s : Shared} {it a : Addr} {o : Obj} {es : Array (Int × Value)} {ep : Nat} {t : SetTable}
end
end L2
namespace L2
open PySem PySem.Spec PyProof.Rows
section
variable {prog : Program} {w : World} {A : Around} {R : Result -> Shared -> Prop} {it y : Addr} {fp wr : List Addr} {G : Array GenState -> Array GenState -> Prop} {n : Nat} {Pv : Nat -> Value -> Prop} {St : Nat -> Shared -> Prop}
end
section
variable {prog : Program} {w : World} {A : Around} {E : Value -> Shared -> Prop} {s : Shared}
set_option maxRecDepth 100000 in
set_option maxHeartbeats 3200000 in
end
section
variable {prog : Program} {w : World} {A : Around} {E : Value -> Shared -> Prop} {s : Shared} {a : Addr} {S : Int -> Bool} {n : Nat}
end
end L2
namespace L2
open PySem PySem.Spec PyProof.Rows PySem.W
section
variable {X : Cx} {e : Expr} {te : TE} {p p2 pos aaZ : Pos}
end
section
variable {σ : St} {H : Hp} {Q : VK} {v : V}
end
section
variable {X : Cx}
end
section
variable {σ : St} {H : Hp} {Q : VK} {K : PySem.W.Frag} {p : Addr} {m : List (Str × PyData)}
end
def Tr (h : Heap) (a T : Addr) (c : Value) : Prop := ∃ oe vs oT ts, h.get? a = some oe /\ oe.cls = c /\ oe.dict = none /\ oe.data = .fields vs /\ vs[1]? = some (.ref T) /\ T ≠ a /\ h.get? T = some oT /\ oT.data = .fields ts /\ ts[3]? = some .none /\ vs[2]? = some .none
structure Lv (l : List Env) (S : List Addr) (h h' : Heap) : Prop where
 keep : ∀ b o, b ∉ HC l -> b ∉ S -> h.get? b = some o -> h'.get? b = some o
 slot : ∀ b o, b ∈ HC l -> h.get? b = some o -> ∃ sl, h'.get? b = some { o with slots := sl }
section
variable {M : Model} {A : Around} {E : Value -> Shared -> Prop} {s : Shared} {env : Env} {outer : List Env} {L a T : Addr} {c : Value} {base : Heap} {Q : Unit -> Shared -> Prop}
end
def CXR (P : Program) (w : World) : GH := fun outer H s E e s' => ∃ a T C H', e = .ref a /\ s'.os = s.os /\ AllBare s'.gens /\ Un (HC outer) [] H H' s.heap s'.heap /\ pQ P w H' s'.heap /\ Tr s'.heap a T (.ref C) /\ s.heap.get? a = none /\ s.heap.get? T = none /\ H' a = none /\ H' T = none /\ E (.ref C) none H'
section
variable {P : Program} {w : World} {K : PySem.W.Frag} {mg : Str -> Option Value} {base : Heap} {N : List Str} {qual : Str} {scope : Scope} {f : Addr} {cd : Value} {A : Around} {outer : List Env} {s0 : Shared} {H0 : Hp} {E : XK} {CX : GH} {pins : List (Addr × Obj)} {σ : St} {H : Hp} {s : Shared}
end
section
variable {K : PySem.W.Frag} {h : Heap} {C : Addr} {XR : List Value} {newId : String}
def U8 (h : Heap) (C : Addr) (XR : List Value) (newId : String) : Prop := ∃ (bm : List Value) (N : Addr) (nm q : Str) (bs : List Value) (hd : Bool) (sn : List Str) (sub : List Value) (ab : Bool) (col : Option Bool) (dd : Option Addr) (k0 k1 k2 k3 k5 : Option Value) (mN : Str -> Option Value),
 h.get? C = some (excClassObj nm q C N bs bm hd sn sub ab col dd k0 k1 k2 k3 k5 newId) /\ h.Ns N mN /\ mN "__init__" = none /\ OwnTail h XR bm
theorem Vq (X : K.In h) (q : excIn K C XR newId = true) : U8 h C XR newId := by
 unfold excIn at q
 split at q
 . rename_i dd cd sl ho
   split at q
   . rename_i C' bm k0 k1 k2 k3 n k5 hm hs
     simp only [Bool.and_eq_true, beq_iff_eq, Bool.not_eq_true'] at q
     obtain ⟨⟨⟨⟨⟨rfl, rfl⟩, Z4⟩, ht⟩, bA⟩, QM⟩ := q
     obtain ⟨nm, bs, mro, ns, qn, hd, sn, sub, ab, col, del⟩ := cd
     dsimp only at hm Z4 bA QM
     subst hm Z4
     obtain ⟨l⟩ := sl
     dsimp only at hs
     subst hs
     exact ⟨bm, ns, nm, qn, bs, hd, sn, sub, ab, col, dd, k0, k1, k2, k3, k5, _, X _ _ ho, .of_isNs (isNs_of_in X bA), nsMap_none_of_in X bA QM, tail_of_in X ht⟩
   . cases q
 . cases q
end
abbrev veB : List Value := [.type "ValueError", .type "Exception", .type "BaseException", .type "object"]
def Vv (K : PySem.W.Frag) (C : Addr) : Prop := excIn K C veB "ValueError.__new__" = true
section
variable {X : Cx} {pins : List (Addr × Obj)} {σ : St} {H : Hp} {s : Shared}
abbrev Cx.hand (X : Cx) (a : Addr) : Cx := { X with A := X.A.mark (some (.ref a)), calm := false, xe := fun _ _ => False }
end
section
variable {M : Model} {A : Around} {E : Value -> Shared -> Prop}
end
structure TyE (K : PySem.W.Frag) (C : Addr) : Prop where
 ga : PySem.W.findIn K (.ref C) "__getattribute__" = some (some (.builtin "BaseException.__getattribute__"))
 gn : PySem.W.findIn K (.ref C) "__getattr__" = some none
 mb : PySem.W.mroIn K C (.type "BaseException") = some true
 hd : PySem.W.hasDictIn K C = true
 ty : Yp K C
section
variable {X : Cx}
end
section
variable {P : Program} {w : World} {K : PySem.W.Frag} {mg : Str -> Option Value} {base : Heap}
structure afX (P : Program) (w : World) (K : PySem.W.Frag) (mg : Str -> Option Value) (base : Heap) (k : Nat) (f : Addr) (ps : List Str) (c3 : List V) (sp : Sp) : Prop where
 ex : ∃ (fd : FuncData) (ds : List Value), aK P w K mg base (CXR P w) k f fd ps sp /\ Binds K fd ps ds /\ Vals c3 ds
end
section
variable {X : Cx} {k : Nat} {f : Addr} {ps : List Str} {sp : Sp} {c3 : List V} {E : XK} {x : Str} {p pos : Pos} {e : Expr} {es : List Expr} {t : TA}
end
section
variable {σ : St} {H : Hp} {Q : VK} {D : Ends} {K : PySem.W.Frag} {E : XK} {C : Addr} {ta : TA}
end
section
variable {X : Cx}
end
section
variable {σ : St} {H : Hp} {Q : VK} {D : Ends} {K : PySem.W.Frag}
end
section
variable {X : Cx} {pins : List (Addr × Obj)} {σ : St} {H : Hp} {s : Shared} {h' : Heap}
end
section
variable {X : Cx}
end
section
variable {σ : St} {H : Hp} {Q : VK}
end
section
variable {σ : St} {H : Hp} {Q : VK} {K : PySem.W.Frag} {v : V}
end
end L2
namespace L2
open PySem
section
variable {H : Hp} {Q : VK} {K : PySem.W.Frag}
end
end L2
namespace L2
open PySem PySem.Spec PyProof.Rows PySem.W
theorem Lx (num : Nat -> Int) : ∀ k, argBest (fun i j => decide (num i < num j)) k <= k /\ ∀ j, j <= k -> num (argBest (fun i j => decide (num i < num j)) k) <= num j
 | 0 => ⟨Nat.le_refl _, fun j hj => by have : j = 0 := by omega
                                       subst this; exact Int.le_refl _⟩
 | k + 1 => by
   obtain ⟨h1, h2⟩ := Lx num k
   unfold argBest
   by_cases h : num (k + 1) < num (argBest (fun i j => decide (num i < num j)) k)
   . rw [if_pos (decide_eq_true h)]
     refine ⟨Nat.le_refl _, fun j hj => ?_⟩
     by_cases hk : j = k + 1
     . subst hk; exact Int.le_refl _
     . exact Int.le_trans (Int.le_of_lt h) (h2 j (by omega))
   . rw [if_neg (by simpa using h)]
     refine ⟨by omega, fun j hj => ?_⟩
     by_cases hk : j = k + 1
     . subst hk; omega
     . exact h2 j (by omega)
section
variable {X : Cx}
theorem K9 {H1 : Hp} {kvs : List (Key × V)} {vs : List (Key × Value)} {m : List (Str × PyData)} {ns : List Int} {i : Nat} {k : Key} {v : Value} (hlen : vs.length = kvs.length) (kv : KV kvs vs) (dk : nk H1 kvs m) (V6 : m.map (·.2) = ns.map PyData.int) (hv : vs[i]? = some (k, v)) : ∃ t, v = .int (ns.getD i 0) t := by
 have hnl : ns.length = kvs.length := by
  have := congrArg List.length V6
  rw [List.length_map, List.length_map] at this
  rw [<- this]; exact dk.length.symm
 have hi : i < kvs.length := by rw [<- hlen]; exact (List.getElem?_eq_some_iff.mp hv).1
 obtain ⟨y, hy, V9⟩ := yS kv (List.getElem?_eq_getElem hi)
 rw [hv] at hy
 cases hy
 obtain ⟨k', dd, X6, hkc, hdv⟩ := dk.TY (List.getElem?_eq_getElem hi)
 have hin : i < ns.length := by omega
 have hdd : dd = .int (ns.getD i 0) := by
  have e1 : (m.map (·.2))[i]? = some dd := by rw [List.getElem?_map, X6]; rfl
  rw [V6, List.getElem?_map, List.getElem?_eq_getElem hin] at e1
  rw [List.getD_eq_getElem?_getD, List.getElem?_eq_getElem hin]
  exact (Option.some.inj e1).symm
 subst hdd
 have hq := hdv.int_inv
 have r2 := V9.2
 rw [hq] at r2
 obtain ⟨t, ht⟩ := r2
 exact ⟨t, ht⟩
def Oa : V -> Hp -> VK -> Prop := fun x H Q => ∃ (p : Addr) (m : List (Str × PyData)) (ns : List Int), x = .ref p /\ pq H p m /\ m.map (·.2) = ns.map PyData.int /\ 0 < ns.length /\ ∀ k ∈ ns, (∀ j ∈ ns, k <= j) -> Q (.int k) H
def UU (te : TE) : TE := fun σ H Q => te σ H fun x H1 => Oa x H1 Q
theorem Tg {e : Expr} {te : TE} {p pos apos fU : Pos} (he : PE X e te) (hc : X.calm = true) (hg : Gl X "min") (hm : X.mg "min" = none)
 (IT : attributeBase e "values" X.env (eval e X.env) = eval e X.env := by rfl) (hline : (apos.endLine == fU.line) = true := by rfl)
 (h2 : starEach [.Call (.Attribute e "values" apos) [] [] fU] X.env = (false, eval (.Call (.Attribute e "values" apos) [] [] fU) X.env) :: starEach [] X.env := by rfl) :
 PE X (.Call (.Name "min" p) [.Call (.Attribute e "values" apos) [] [] fU] [] pos) (UU te) := by
 intro pins s σ H Q I h
 refine wpAny_Call_Name_kw (BD I hg hm boot_min ?_ (by decide) (by decide))
 refine PyProof.Rows.callWith_builtin1 ?_ h2 rfl
 rw [h2]
 show wpAny _ _ (spliced ((false, eval (.Call (.Attribute e "values" apos) [] [] fU) X.env) :: backTo pos (starEach [] X.env))) _ _ s
 refine Calls.spliced_cons (wpAny_Call_method0_late IT hline (dj (he pins s σ H _ I h) fun v s1 ⟨y, H1, I1, r1, q1⟩ => ?_))
 obtain ⟨d, m, ns, rfl, ⟨kvs, hd, dk⟩, V6, afs, q⟩ := q1
 obtain ⟨h1, h2⟩ := J2 I1 (T := "dict") r1 (.inr (.inr (.inl ⟨rfl, .inl ⟨kvs, hd⟩⟩)))
 cases r1
 refine ⟨"dict", "dict.values", PySem.F.plainAttrs_dict, PySem.F.slot_dict_values, PySem.F.type_dict_values, h1, h2, Calls.callWith_builtin rfl (PySem.evalArgs_none ?_)⟩
 obtain ⟨_, hs, vs, kv, o, es, ep, ho, a2, a3, a4⟩ := (show cH X.prog X.w H1 s1.heap d (.dK kvs) from I1.bA d _ hd)
 have da : s1.heap.DictAt (aU X.prog X.w) d vs ep := ⟨o, es, ho, a2, a3, a4⟩
 have wL : d < s1.heap.objs.size := Heap.lt_size ho
 have hlen : vs.length = kvs.length := kv.length.symm
 refine call_meetsIn PySem.F.slot_dict_values da.dictOf.typeIs PySem.F.entry_dict_values (PySem.F.args_dict_values_1 _) (meets_dict_values (aU X.prog X.w) d hs) ⟨⟨vs, da.dictOf⟩, ?_⟩
 refine Calls.spliced_nil ?_
 have hsz : (s1.heap.push { cls := .type "dict_values", data := .fields #[.ref d] }).objs.size = s1.heap.objs.size + 1 := Heap.size_push ..
 have hA : X.A.in1.handled = none := I1.ok.hd hc
 have hnl : ns.length = kvs.length := by
  have := congrArg List.length V6
  rw [List.length_map, List.length_map] at this
  rw [<- this]; exact dk.length.symm
 refine call_min_walk (wpAny_pyIter_values (v := s1.heap.objs.size) ⟨_, Heap.get?_push_size _ rfl, rfl, rfl⟩ (da.push _) ?_)
 refine ⟨_, _, _, _, _, _, fun i j => decide (ns.getD i 0 < ns.getD j 0), rfl, Walks.dictValues (knd := aU X.prog X.w) hA _ d (Nat.ne_of_lt (by rw [hsz]; exact Nat.lt_succ_of_lt wL)) vs ep, ⟨⟨_, Heap.get?_push_size _ rfl, rfl, rfl⟩, (da.push _).push _⟩, ?_, by omega, CmpOf.ints_lt (fun i => ns.getD i 0) ?_, ?_⟩
 . intro b hb
   rw [Heap.size_push]
   have : b = (s1.heap.push { cls := .type "dict_values", data := .fields #[.ref d] }).objs.size \/ b = d := by simpa using hb
   rcases this with rfl | rfl
   . exact Nat.lt_succ_self _
   . rw [hsz]; exact Nat.lt_succ_of_lt (Nat.lt_succ_of_lt wL)
 . rintro i v ⟨k, hv⟩
   exact K9 hlen kv dk V6 hv
 . rintro v h' tk ⟨k, hv⟩ hk
   have b := Lx (fun i => ns.getD i 0) (vs.length - 1)
   generalize argBest (fun i j => decide (ns.getD i 0 < ns.getD j 0)) (vs.length - 1) = ix at b hv
   obtain ⟨b1, b2⟩ := b
   obtain ⟨t, rfl⟩ := K9 hlen kv dk V6 hv
   have I2 : Inv X pins σ H1 { s1 with heap := s1.heap.push { cls := .type "dict_values", data := .fields #[.ref d] } } := I1.kept (t' := s1.toks) fun b o e => Heap.get?_push_of_some _ e
   have fp := I2.Jv (H' := H1) (Nat.le_refl _) (I2.bA.fresh (Nat.le_refl _))
   have I3 := I2.turned (t' := tk) (h' := h') (it := (s1.heap.push { cls := .type "dict_values", data := .fields #[.ref d] }).objs.size) (fun b o hb e => hk b o (by simpa using hb) (Heap.get?_push_of_some _ e)) fp.1 fp.2.1 fp.2.2.2.1 fp.2.2.2.2.1 fp.2.2.2.2.2
   have hb : ix < ns.length := by omega
   refine ⟨.int _, H1, I3, ⟨t, rfl⟩, q _ ?_ ?_⟩
   . rw [List.getD_eq_getElem?_getD, List.getElem?_eq_getElem hb]; exact List.getElem_mem hb
   . intro k hk
     obtain ⟨j, hj, rfl⟩ := List.getElem_of_mem hk
     have := b2 j (by omega)
     rwa [List.getD_eq_getElem?_getD (i := j), List.getElem?_eq_getElem hj] at this
end
section
variable {σ : St} {H : Hp} {Q : VK}
theorem Tb {te : TE} (h : te σ H fun x H1 => Oa x H1 Q) : UU te σ H Q := h
theorem Vo {p : Addr} {m : List (Str × PyData)} {ns : List Int} (hp : pq H p m) (hm : m.map (·.2) = ns.map PyData.int) (hl : 0 < ns.length) (h : ∀ k ∈ ns, (∀ j ∈ ns, k <= j) -> Q (.int k) H) : Oa (.ref p) H Q := ⟨p, m, ns, rfl, hp, hm, hl, h⟩
end
def pairD (k : Int × Str) : PyData := .tuple [.int k.1, .str k.2]
def XU (H : Hp) : V -> Int × Str
 | .ref a => match H a with
   | some (.tup [.int i, .str x]) => (i, x)
   | _ => (0, Str.empty)
 | _ => (0, Str.empty)
theorem N2 {H : Hp} {v : V} {k : Int × Str} (h : Dv H v (pairD k)) : XU H v = k := by
 unfold pairD at h
 cases h with
 | tup ha r =>
   cases r with
   | cons h1 r =>
     cases r with
     | cons h2 r =>
       cases r
       cases h1; cases h2
       simp only [XU, ha]
theorem K8 {H : Hp} : ∀ {xs : List V} {ks : List (Int × Str)}, cI H xs (ks.map pairD) -> cI H xs (xs.map fun v => .tuple [.int (XU H v).1, .str (XU H v).2])
 | _, [], .nil => .nil
 | _, _ :: _, .cons h r => .cons (by show Dv H _ (.tuple [.int (XU H _).1, .str (XU H _).2]); rw [N2 h]; exact h) (K8 r)
section
variable {X : Cx} {pins : List (Addr × Obj)} {σ : St} {H : Hp} {s : Shared}
theorem Gn {l : Addr} {xs : List V} {kf : V -> Int × Str} {Q : VK} {E : Value -> Shared -> Prop} (I : Inv X pins σ H s) (hl : i9 X.K H l xs) (h64 : xs.length < 64) (dv : cI H xs (xs.map fun v => .tuple [.int (kf v).1, .str (kf v).2])) (fin : Ro X pins σ H iO kf xs Q) :
 wpAny (model X.prog X.w) X.A (call (.builtin "sorted") [.ref l]) (EP X pins σ Q) E s := by
 have hsl : (64 : Nat) <= sizeLine := by decide
 obtain ⟨vs, rv, p, hz⟩ := I.list hl
 have lx := rv.length
 refine Calls.call_function_entry kind_sorted plain_sorted entry_sorted (args_sorted1 _) ?_
 unfold Builtin.«sorted»
 refine wpAny_bind (m := checkCount "sorted" 1 1 _) (wpAny_pure ?_)
 refine wpAny_bind (collect_list p.isList ?_ (by omega))
 refine wpAny_bind (wpAny_newList ?_ (by omega))
 have fp0 : zg X pins H s.heap.objs.size := I.Jv (Nat.le_refl _) (I.bA.fresh (Nat.le_refl _))
 have I2 : Inv X pins σ H { s with heap := (s.heap.push (seqObj "list" #[] 0)).update s.heap.objs.size (Obj.mapSeq (· ++ vs.toArray)) } := (I.LL (o := seqObj "list" #[] 0)).TK fp0
 have hsz : ((s.heap.push (seqObj "list" #[] 0)).update s.heap.objs.size (Obj.mapSeq (· ++ vs.toArray))).objs.size = s.heap.objs.size + 1 := by rw [Heap.size_update, size_push']
 generalize hG : (s.heap.push (seqObj "list" #[] 0)).update s.heap.objs.size (Obj.mapSeq (· ++ vs.toArray)) = h2 at I2 hsz ⊢
 have QX : (h2.push (seqObj "list" vs.toArray 0)).get? h2.objs.size = some (seqObj "list" vs.toArray 0) := Heap.get?_push_size _ rfl
 have I3 : Inv X pins σ H { s with heap := h2.push (seqObj "list" vs.toArray 0) } := I2.LL
 have fa : zg X pins H h2.objs.size := I2.Jv (Nat.le_refl _) (I2.bA.fresh (Nat.le_refl _))
 have Y1 : X.hE.heap.objs.size <= h2.objs.size := I2.sz
 show wpAny _ _ _ _ _ { s with heap := h2.push (seqObj "list" vs.toArray 0) }
 generalize h2.objs.size = a at *
 refine wpAny_bind (wpAny_holding (wpAny_call_entry slot_list_sort ⟨_, QX, rfl⟩ entry_list_sort ?body (args_list_sort _)))
 case body =>
  show wpAny (model X.prog X.w) X.A.in1.in1 (Builtin.«list.sort» ⟨[.ref a], []⟩) _ _ _
  rw [list_sort_plain]
  generalize h2.push (seqObj "list" vs.toArray 0) = h3 at *
  refine wpAny_bind (listItems_at QX rfl ?_)
  refine wpAny_bind (listUpdate_at QX rfl ?_ (by rw [List.size_toArray]; omega) (Nat.zero_le _))
  have I4 : Inv X pins σ H { s with heap := h3.update a (Obj.mapSeq fun _ => (#[] : Array Value)) } := I3.TK fa
  obtain ⟨e1, oa⟩ : ∃ e1, (h3.update a (Obj.mapSeq fun _ => (#[] : Array Value))).get? a = some (seqObj "list" #[] e1) := ⟨_, get?_update_seq QX fun _ => #[]⟩
  generalize h3.update a (Obj.mapSeq fun _ => (#[] : Array Value)) = h4 at *
  refine wpAny_bind (seqEpoch_at oa rfl ?_)
  refine wpAny_bind (wpAny_newTuple ?_ (by show vs.length <= _; omega))
  have I5 : Inv X pins σ H { s with heap := h4.push (seqObj "tuple" vs.toArray 0) } := I4.LL
  have oa5 : (h4.push (seqObj "tuple" vs.toArray 0)).get? a = some (seqObj "list" #[] e1) := Heap.get?_push_of_some _ oa
  show wpAny _ _ _ _ _ { s with heap := h4.push (seqObj "tuple" vs.toArray 0) }
  generalize h4.push (seqObj "tuple" vs.toArray 0) = h5 at *
  refine wpAny_bind (wpAny_newList ?_ (Nat.zero_le _))
  have I6 : Inv X pins σ H { s with heap := h5.push (seqObj "list" #[] 0) } := I5.LL
  have XW : (h5.push (seqObj "list" #[] 0)).get? a = some (seqObj "list" #[] e1) := Heap.get?_push_of_some _ oa5
  refine wpAny_holding ?_
  show wpAny _ _ _ _ _ { s with heap := h5.push (seqObj "list" #[] 0) }
  generalize h5.push (seqObj "list" #[] 0) = h6 at *
  dsimp only
  by_cases wL : vs.toArray.size < 2
  . rw [if_pos wL, if_pos wL]
    refine wpAny_bind (wpAny_pure ?_)
    rw [StateT.run_pure]
    refine wpAny_bind (wpAny_pure ?_)
    dsimp only
    have abe : (arrOf (SortSt.mk' general' (vs.toArray.zip vs.toArray) #[] 7 none)).map (·.2) = List.toArray vs := by
     show (vs.toArray.zip vs.toArray).map (·.2) = List.toArray vs
     apply Array.toList_inj.mp
     simp [List.map_snd_zip]
    rw [abe]
    refine wpAny_bind (seqEpoch_at XW rfl ?_)
    refine wpAny_bind (listUpdate_at XW rfl ?_ (Nat.zero_le _) (by show (List.toArray vs).size <= _; rw [List.size_toArray]; omega))
    simp only [bne_self_eq_false, Bool.false_eq_true, if_false]
    have I7 := (I6.TK (f := Obj.mapSeq fun _ => List.toArray vs) fa).UH fa Y1 (by rw [rv.length]; omega) rv (get?_update_seq XW fun _ => List.toArray vs)
    refine wpAny_pure ⟨_, rfl, wpAny_pure ⟨_, rfl, .ref a, _, I7, rfl, fin a xs H (ax.refl _) fa.1 fa.1 ⟨List.Perm.refl _, ?_⟩⟩⟩
    rw [List.size_toArray] at wL
    match xs, lx with
    | [], _ => exact .nil
    | [_], _ => exact List.pairwise_singleton _ _
    | _ :: _ :: _, lx => simp at lx; omega
  . rw [if_neg wL, if_neg wL]
    rw [List.size_toArray] at wL
    obtain ⟨fs, k1, k2, k3⟩ := D1 I6 rv dv
    refine wpAny_bind (kat_kind k1 (by omega) k3 (by decide) ?_)
    refine wpAny_bind (wpAny_mono (kat_run (Q := fun Jb s2 => s2 = { s with heap := h6 } /\ ∃ p : Array Nat, Ix xs.length p /\ arrOf Jb = p.map (kas_item ((List.toArray vs).zip (List.toArray vs))) /\ failedOf Jb = none /\ Up (fun i j => iO (kf (xs.getD i .aT)) (kf (xs.getD j .aT))) p xs.length)
     (G := fun p s2 => s2 = { s with heap := h6 } /\ Ix xs.length p /\ Up (fun i j => iO (kf (xs.getD i .aT)) (kf (xs.getD j .aT))) p xs.length) rfl (by omega) (by omega) (fun p Jb s2 a1 a2 a3 ⟨a4, a5, a6⟩ => ⟨a4, p, a5, a2, a3, a6⟩) ?_) ?_ fun _ _ z => z)
    . rw [show vs.length = xs.length by omega]
      refine TL (lt := fun i j => iO (kf (xs.getD i .aT)) (kf (xs.getD j .aT))) (S := fun z => z = { s with heap := h6 }) ⟨fun _ => Ip _, fun _ _ => Qn, fun _ _ _ => PQ⟩ (Mb I6 rv dv) (by omega) (fun p s2 hs hp hu => ⟨hs, hp, hu⟩) _ rfl
    . rintro ⟨⟨⟩, Jb⟩ s2 ⟨rfl, p, hp, har, hf, hu⟩
      dsimp only
      rw [kat_snds rfl har]
      have ho : (p.toList.map fun i => vs.getD i Value.none).length < 64 := by simp [hp.sz]; omega
      refine wpAny_bind (seqEpoch_at XW rfl ?_)
      refine wpAny_bind (listUpdate_at XW rfl ?_ (Nat.zero_le _) (by show (List.toArray (p.toList.map fun i => vs.getD i Value.none)).size <= _; rw [List.size_toArray]; omega))
      rw [hf]
      simp only [bne_self_eq_false, Bool.false_eq_true, if_false]
      have Je := FC rv p.toList
      have I7 := (I6.TK (f := Obj.mapSeq fun _ => List.toArray (p.toList.map fun i => vs.getD i Value.none)) fa).UH fa Y1 (by rw [Je.length]; omega) Je (get?_update_seq XW fun _ => List.toArray (p.toList.map fun i => vs.getD i Value.none))
      exact wpAny_pure ⟨_, rfl, wpAny_pure ⟨_, rfl, .ref a, _, I7, rfl, fin a _ H (ax.refl _) fa.1 fa.1 (Qs hp hu)⟩⟩
def N8 : List V -> Hp -> VK -> Prop := fun xs H Q => ∃ (v : V) (ks : List (Int × Str)), xs = [v] /\ Dv H v (.list (ks.map pairD)) /\ ks.length < 64 /\ ∀ q H' (SE : List (Int × Str)), ax H H' -> H q = none -> SE.Perm ks -> SE.Pairwise (fun c d => iO d c = false) -> eT H' q (SE.map pairD) -> Q (.ref q) H'
theorem KA : iS X (.builtin "sorted") N8 := by
 intro pins s σ H xs us Q I r h
 obtain ⟨v, ks, rfl, hd, hl, q⟩ := h
 obtain ⟨u, rfl, ru⟩ := vals1 r
 obtain ⟨p, ys, rfl, e, dv⟩ := hd.lst_inv
 cases ru
 refine Gn I (e X.K) (by rw [dv.length, List.length_map]; exact hl) (K8 dv) fun a zs H' sm hn hn' ord => ?_
 obtain ⟨pm, pw⟩ := ord
 obtain ⟨SE, pc, dv'⟩ := dv.perm pm
 have FI : ax H (upd H' a (.lst zs)) := sm.trans (cF hn')
 exact q a _ SE FI hn pc (cI.pairwise (R := fun a b => iO b a = false) (key := fun k => k) (fun v c hv => N2 hv) dv' pw) ⟨zs, au, dv'.keeps FI, fx (fun _ => rfl) _⟩
end
section
variable {σ : St} {H : Hp} {Q : VK}
theorem Rk {v : V} {ks : List (Int × Str)} (hp : Dv H v (.list (ks.map pairD))) (hl : ks.length < 64) (h : ∀ q H' (SE : List (Int × Str)), ax H H' -> H q = none -> SE.Perm ks -> SE.Pairwise (fun c d => iO d c = false) -> eT H' q (SE.map pairD) -> Q (.ref q) H') : N8 [v] H Q := ⟨v, ks, rfl, hp, hl, h⟩
end
section
variable {σ : St} {H : Hp} {Q : VK} {K : PySem.W.Frag} {p : Addr} {m : List (Str × PyData)} {k : Str}
theorem ZK {n : Nat} {tl : TE} {g : TG} {tc : TT} {te : TE} (hp : pq H p m) (htl : ∀ R : V -> Hp -> Prop, R (.ref p) H -> tl σ H R) (pf : Str × PyData -> Bool) (fd : Str × PyData -> PyData) (hlen : m.length <= 4000) (hi : ∀ c, By (fd c) = true)
 (turn : ∀ x c Hf H' (N : Option V -> Hp -> Prop), c ∈ m -> Mv [p] H Hf -> DRd Hf p m -> ax Hf H' -> Dv H' x (.tuple [.str c.1, c.2]) -> (pf c = true -> ∀ y H4, ax H' H4 -> Dv H4 y (fd c) -> N (some y) H4) -> (pf c = false -> ∀ H3, ax H' H3 -> N none H3) ->
  g x (List.replicate n none ++ σ) H' fun σ2 H2 => tc σ2 H2 fun b H3 => X3 te N σ2 b H3)
 (kk : ∀ q H', ax H H' -> H q = none -> eT H' q ((m.filter pf).map fd) -> Q (.ref q) H') : UL (XZ n (OI tl) g tc te) σ H Q := by
 obtain ⟨kvs, e, dk⟩ := hp
 refine ⟨p, kvs, e, htl _ ⟨p, kvs, rfl, e, fun o => ?_⟩⟩
 have mv : Mv [p] H (upd H p (.uJ o (.dK kvs))) := .bP e (by intro _ z; cases z)
 have rd : DRd (upd H p (.uJ o (.dK kvs))) p m := ⟨kvs, .inr ⟨o, au⟩, dk.wF mv.tp⟩
 have hl : kvs.length = m.length := dk.length
 refine ⟨fun i j acc H' => i <= m.length /\ j = m.length - i /\ ax (upd H p (.uJ o (.dK kvs))) H' /\ cI H' acc (((m.take i).filter pf).map fd), ⟨m.length, Nat.zero_le _, rfl, ax.refl _, by simpa using cI.nil⟩, ?_⟩
 rintro i j acc H' ⟨wG, rfl, sm, jj⟩
 have Zy : H' p = some (.uJ o (.dK kvs)) := sm _ _ au
 have Zo : acc.length <= m.length := by
  rw [jj.length, List.length_map]
  refine Nat.le_trans (List.length_filter_le _ _) ?_
  rw [List.length_take]
  omega
 by_cases hc : i = m.length
 . left
   refine ⟨⟨by omega, Zy⟩, fun q hq => ?_⟩
   have Zu : p ≠ q := aB Zy hq
   have tk : m.take i = m := List.take_of_length_le (by omega)
   rw [tk] at jj
   have ups : upd (upd H' q (.lst acc)) p (.dK kvs) q = some (.lst acc) := by rw [av (Ne.symm Zu), au]
   refine ⟨⟨o, by rw [av Zu]; exact Zy⟩, kk q _ (fun a u z => ?_) ?_ ⟨acc, ups, jj.wF (fun a xs z => ?_) (fx hi _), fx hi _⟩⟩
   . by_cases ha : a = p
     . subst ha; rw [e] at z; cases z; exact au
     . have z1 : H' a = some u := sm _ _ (by rw [av ha]; exact z)
       rw [av ha, av (aB z1 hq)]; exact z1
   . cases hz : H q with
     | none => rfl
     | some u =>
       have : H' q = some u := sm _ _ (by rw [av (Ne.symm Zu)]; exact hz)
       rw [hq] at this; cases this
   . rw [av (jC z Zy (by intro y; cases y)), av (aB z hq)]; exact z
 . right
   have wL : i < m.length := by omega
   refine ⟨⟨by omega, Zy⟩, md (by omega), fun x H2 hy => ?_⟩
   obtain ⟨t, kv, hkv, rfl, ht, rfl⟩ := hy
   obtain ⟨c, d, hm, hkc, hdv⟩ := dk.TY hkv
   have QN : m.take (i + 1) = m.take i ++ [(c, d)] := by rw [List.take_add_one, hm]; rfl
   have smt : ax H' (upd H' t (.tup [kV kv.1, kv.2])) := cF ht
   have ab8 : Dv H' kv.2 d := ((dk.wF mv.tp).wF (fun a xs z => sm a _ z)).TY hkv |> fun ⟨c', d', X6, _, h'⟩ => by
    rw [hm] at X6; cases X6; exact h'
   have hx : Dv (upd H' t (.tup [kV kv.1, kv.2])) (.ref t) (.tuple [.str c, d]) := by
    have e1 : kV kv.1 = .str c := by rw [hkc]; rfl
    rw [e1] at smt ⊢
    exact .tup au (.cons (.str _) (.cons (ab8.keeps smt) .nil))
   have FI := sm.trans smt
   refine turn (.ref t) (c, d) _ _ (fun r H4 => match r with | some y => ∃ j', j' < m.length - i /\ i + 1 <= m.length /\ j' = m.length - (i + 1) /\ ax (upd H p (.uJ o (.dK kvs))) H4 /\ cI H4 (acc ++ [y]) (((m.take (i + 1)).filter pf).map fd) | none => ∃ j', j' < m.length - i /\ i + 1 <= m.length /\ j' = m.length - (i + 1) /\ ax (upd H p (.uJ o (.dK kvs))) H4 /\ cI H4 acc (((m.take (i + 1)).filter pf).map fd))
    (List.mem_of_getElem? hm) mv rd FI hx (fun hb y H4 s4 d4 => ⟨m.length - (i + 1), by omega, wL, rfl, FI.trans s4, ?_⟩) (fun hb H3 s3 => ⟨m.length - (i + 1), by omega, wL, rfl, FI.trans s3, ?_⟩)
   . rw [QN, List.filter_append, List.map_append]
     simp only [List.filter_cons, hb, if_true, List.filter_nil, List.map_cons, List.map_nil]
     exact cI.append (jj.keeps (smt.trans s4)) (.cons d4 .nil)
   . rw [QN, List.filter_append, List.map_append]
     simp only [List.filter_cons, hb, Bool.false_eq_true, if_false, List.filter_nil, List.map_nil, List.append_nil]
     exact jj.keeps (smt.trans s3)
theorem Sy {R : Bool -> Prop} (hp : pq H p m) (h : R (!m.isEmpty)) : ∃ b, QJ K (.ref p) H b /\ R b := by
 obtain ⟨kvs, e, dk⟩ := hp
 refine ⟨_, .inr (.inr ⟨kvs, e, rfl⟩), ?_⟩
 have : kvs.isEmpty = m.isEmpty := by
  have := dk.length
  cases kvs <;> cases m <;> simp_all
 rw [this]; exact h
theorem QD {td ty : TE} (h : td σ H fun x H1 => ∃ a, x = .ref a /\ IsD H1 a /\ ty σ H1 fun y H2 => ∃ o, hJ H2 a y o /\ Q (o.getD .aT) H2) : Qm td ty σ H Q := h
theorem Ts {R : Addr -> Prop} (hp : pq H p m) (h : R p) : ∃ a, V.ref p = .ref a /\ IsD H a /\ R a := by
 obtain ⟨kvs, e, _⟩ := hp
 exact ⟨p, rfl, .inl ⟨kvs, .inl e⟩, h⟩
theorem QE (hp : pq H p m) (h1 : ∀ d, hX m k = some d -> ∀ v, Dv H v d -> Q v H) (h2 : hX m k = none -> Q .aT H) : ∃ o, hJ H p (.str k) o /\ Q (o.getD .aT) H := by
 obtain ⟨kvs, e, dk⟩ := hp
 refine ⟨nr kvs (.inr k), .inl ⟨kvs, .inr k, .inl e, rfl, rfl⟩, ?_⟩
 obtain ⟨g1, g2⟩ := dk.val (k := k)
 cases hl : hX m k with
 | none => rw [g2 hl]; exact h2 hl
 | some d => obtain ⟨v, hv, hd⟩ := g1 d hl; rw [hv]; exact h1 d hl v hd
end
def TrD (h : Heap) (a T : Addr) (c : Value) (od : Option Addr) : Prop := ∃ oe vs oT ts, h.get? a = some oe /\ oe.cls = c /\ oe.dict = od /\ oe.data = .fields vs /\ vs[1]? = some (.ref T) /\ T ≠ a /\ h.get? T = some oT /\ oT.data = .fields ts /\ ts[3]? = some .none /\ vs[2]? = some .none
section
variable {M : Model} {A : Around} {E : Value -> Shared -> Prop} {s : Shared} {env : Env} {outer : List Env} {L a T : Addr} {c : Value} {od : Option Addr} {base : Heap} {Q : Unit -> Shared -> Prop}
end
def CXD (P : Program) (w : World) : GH := fun outer H s E e s' => ∃ a T C od H', e = .ref a /\ s'.os = s.os /\ AllBare s'.gens /\ Un (HC outer) [] H H' s.heap s'.heap /\ pQ P w H' s'.heap /\ TrD s'.heap a T (.ref C) od /\ s.heap.get? a = none /\ s.heap.get? T = none /\ H' a = none /\ H' T = none /\ E (.ref C) od H'
section
variable {P : Program} {w : World} {K : PySem.W.Frag} {mg : Str -> Option Value} {base : Heap} {N : List Str} {qual : Str} {scope : Scope} {f : Addr} {cd : Value} {A : Around} {outer : List Env} {s0 : Shared} {H0 : Hp} {E : XK} {CX : GH} {pins : List (Addr × Obj)} {σ : St} {H : Hp} {s : Shared}
end
structure aft (P : Program) (w : World) (K : PySem.W.Frag) (mg : Str -> Option Value) (base : Heap) (k : Nat) (f : Addr) (ps : List Str) (c3 : List V) (sp : Sp) : Prop where
 ex : ∃ (fd : FuncData) (ds : List Value), aK P w K mg base (CXD P w) k f fd ps sp /\ Binds K fd ps ds /\ Vals c3 ds
section
variable {X : Cx} {CX : GH} {k : Nat} {f C : Addr} {fd : FuncData} {ps : List Str} {sp : Sp} {c3 : List V} {ds : List Value} {E : St -> XK} {x m : Str} {p pos apos : Pos} {e o : Expr} {es : List Expr} {ta : TE} {t : TA}
end
section
variable {P : Program} {w : World} {K : PySem.W.Frag} {mg : Str -> Option Value} {base : Heap}
end
section
variable {prog : Program} {w : World} {A : Around} {E : Value -> Shared -> Prop} {s : Shared} {K : PySem.W.Frag} {x C : Addr} {ox : Obj} {name : Str} {v : Value} {cd : ClassData}
open Builtin.ObjectAttr in
open Builtin.ObjectAttr in
end
structure ExN (K : PySem.W.Frag) (C W fI : Addr) : Prop where
 cls : ∃ (nm q : Str) (N : Addr) (bs : List Value) (sn : List Str) (sub : List Value) (ab : Bool) (col : Option Bool) (dd : Option Addr) (k0 k1 k2 k3 k5 : Option Value), K.lookup C = some (excClassObj nm q C N bs (.ref W :: veB) true sn sub ab col dd k0 k1 k2 k3 k5 "ValueError.__new__")
 up : Vv K W
 init : PySem.W.findIn K (.ref C) "__init__" = some (some (.ref fI))
 fn : PySem.W.isFn K (.ref fI) = true
 te : TyE K C
 sa : PySem.W.findIn K (.ref C) "__setattr__" = some (some (.builtin "object.__setattr__"))
 tk : PySem.W.takerIn K C "name" = some none
 nm : PySem.W.findIn K (.ref C) "name" = some none
def acC (K : PySem.W.Frag) (C : Addr) : Prop := ∀ h : Heap, K.In h -> ∃ (bm : List Value) (N : Addr) (nm q : Str) (bs : List Value) (hd : Bool) (sn : List Str) (sub : List Value) (ab : Bool) (col : Option Bool) (dd : Option Addr) (k0 k1 k2 k3 k5 : Option Value),
 h.get? C = some (excClassObj nm q C N bs bm hd sn sub ab col dd k0 k1 k2 k3 k5 "ValueError.__new__") /\ OwnTail h veB bm
theorem Vv.o {K : PySem.W.Frag} {C : Addr} (h : Vv K C) : acC K C := fun hp X => by
 obtain ⟨bm, N, nm, q, bs, hd, sn, sub, ab, col, dd, k0, k1, k2, k3, k5, mN, hC, _, _, T⟩ := Vq X h
 exact ⟨bm, N, nm, q, bs, hd, sn, sub, ab, col, dd, k0, k1, k2, k3, k5, hC, T⟩
section
variable {prog : Program} {w : World} {A : Around} {E : Value -> Shared -> Prop} {h : Heap} {g : Array GenState} {d : Drawn} {t : Nat} {os : OsState}
variable {nm q : Str} {C N : Addr} {bs bm XR : List Value} {acm : Bool} {sn : List Str} {sub : List Value} {ab : Bool} {col : Option Bool} {dd : Option Addr} {k0 k1 k2 k3 k5 : Option Value} {B newId abn : String}
end
structure adS (K : PySem.W.Frag) (W : Addr) : Prop where
 ga : PySem.W.specialIn K (.ref W) "__getattribute__" = some (some (.builtin "type.__getattribute__"))
 rd : PySem.W.readsIn K W (.type "type") = true
 fd : PySem.W.findCls K (.ref W) (.type "type") "__init__" = some (.val (.builtin "ValueError.__init__"))
section
variable {X : Cx} {W : Addr} {x : Str} {p pos apos : Pos} {e : Expr} {es : List Expr} {t : TA} {pl : Sem Bool}
end
def del (H : Hp) (a : Addr) : Hp := fun b => if b = a then none else H b
section
variable {prog : Program} {w : World} {A : Around} {E : Value -> Shared -> Prop} {s : Shared} {env : Env}
variable {nm q : Str} {C N : Addr} {bs bm XR : List Value} {acm : Bool} {sn : List Str} {sub : List Value} {ab : Bool} {col : Option Bool} {dd : Option Addr} {k0 k1 k2 k3 k5 : Option Value} {newId : String}
end
def ClD (X : Cx) (cl : Expr) (hit : Addr -> Bool -> Prop) : Prop := ∀ (a C T : Addr) (od : Option Addr) (pins : List (Addr × Obj)) (σ : St) (H : Hp) (s : Shared) (Q : Bool -> Shared -> Prop) (E : Value -> Shared -> Prop) (b : Bool), Inv X pins σ H s -> TrD s.heap a T (.ref C) od -> hit C b ->
 (∀ h', (∀ b o, s.heap.get? b = some o -> h'.get? b = some o) -> Q b { s with heap := h' }) ->
 wpAny (model X.prog X.w) (X.hand a).A (eval cl X.env) (fun c s1 => wpAny (model X.prog X.w) (X.hand a).A (excMatches (.ref a) c) Q E s1) E s
structure HdR where
 hit : Addr -> Bool -> Prop
 i : Option Nat
 ts : Addr -> TS
def Xs (X : Cx) : Option Str -> Option Nat -> Prop
 | some n, some i => X.N[i]? = some n /\ X.env.scope.names.lookup n = some .local
 | none, none => True
 | _, _ => False
inductive Qb (X : Cx) : List ExceptHandler -> List HdR -> Prop
 | nil : Qb X [] []
 | cons {cl : Expr} {n : Option Str} {b0 : Stmt} {Uh : List Stmt} {pos : Pos} {hs : List ExceptHandler} {hit : Addr -> Bool -> Prop} {i : Option Nat} {ts : Addr -> TS} {rs : List HdR} (hc : ClD X cl hit) (hb : ∀ a, Jf (X.hand a) (b0 :: Uh) (ts a)) (hn : Xs X n i) (r : Qb X hs rs) :
  Qb X (.ExceptHandler (some cl) n (b0 :: Uh) pos :: hs) (⟨hit, i, ts⟩ :: rs)
section
variable {X : Cx} {pins : List (Addr × Obj)} {σ : St} {H : Hp} {a C : Addr} {od : Option Addr} {Dn : Ends}
end
section
variable {X : Cx} {e : Expr} {te : TE} {y y2 : Str} {k k2 : Nat} {p1 p2 p3 pos : Pos}
end
section
variable {σ : St} {H : Hp} {Q : VK} {D : Ends} {K : PySem.W.Frag} {C : Addr} {E : St -> XK}
end
section
variable {X : Cx}
end
section
open PySem.SeqAt
open PySem.AutoSeq1 (wpAny_loadPart')
open PySem.MeetsSeq PySem.MeetsSeq2 PySem.MeetsSeq3
end
section
variable {X : Cx}
end
section
variable {σ : St} {H : Hp} {Q : VK} {D : Ends} {K : PySem.W.Frag}
end
section
variable {σ : St} {H : Hp} {Q : VK} {K : PySem.W.Frag}
theorem O1 {k : Nat} {g : TG} {tc : TT} {te : TE} {p : Addr} {xs : List V} (hl : i9 K H p xs) (hlen : xs.length <= 4000) (Pv : Nat -> List V -> Hp -> Prop) (h0 : Pv 0 [] H) (hk : ∀ i acc H', i <= xs.length -> Pv i acc H' -> i9 K H' p xs /\ acc.length <= xs.length)
 (turn : ∀ i x acc H' (N : Option V -> Hp -> Prop), xs[i]? = some x -> Pv i acc H' -> (∀ y H4, Pv (i + 1) (acc ++ [y]) H4 -> N (some y) H4) -> (∀ H4, Pv (i + 1) acc H4 -> N none H4) ->
  g x (List.replicate k none ++ σ) H' fun σ2 H2 => tc σ2 H2 fun b H3 => X3 te N σ2 b H3)
 (kk : ∀ acc H' q, Pv xs.length acc H' -> H' q = none -> Q (.ref q) (upd H' q (.lst acc))) : ∃ a, V.ref p = .ref a /\ (∃ xs, i9 K H a xs) /\ Wf k g tc te (Gf Q) σ (Om K a) H := by
 refine ⟨p, rfl, ⟨xs, hl⟩, fun i m acc H' => i <= xs.length /\ m = xs.length - i /\ Pv i acc H', ⟨xs.length, Nat.zero_le _, rfl, h0⟩, ?_⟩
 rintro i m acc H' ⟨wG, hm, hp⟩
 obtain ⟨Oc, Zo⟩ := hk i acc H' wG hp
 by_cases hc : i = xs.length
 . subst hc
   exact .inl ⟨⟨xs, Oc, Nat.le_refl _⟩, fun q hq => kk acc H' q hp hq⟩
 . have RP : i < xs.length := by omega
   refine .inr ⟨⟨xs, xs[i], Oc, List.getElem?_eq_getElem RP⟩, md (by omega), fun x H2 hy => ?_⟩
   obtain ⟨rfl, hy⟩ := hy
   have hx := hy xs Oc
   exact turn i x acc H2 (fun o H4 => match o with | some y => ∃ m', m' < m /\ i + 1 <= xs.length /\ m' = xs.length - (i + 1) /\ Pv (i + 1) (acc ++ [y]) H4 | none => ∃ m', m' < m /\ i + 1 <= xs.length /\ m' = xs.length - (i + 1) /\ Pv (i + 1) acc H4) hx hp
    (fun y H4 h => ⟨xs.length - (i + 1), by omega, RP, rfl, h⟩) fun H4 h => ⟨xs.length - (i + 1), by omega, RP, rfl, h⟩
end
section
variable {σ : St} {H : Hp} {D : Ends} {p : Addr} {m : List (Str × PyData)} {g : TG} {tb : TS}
end
section
variable {σ : St} {H : Hp} {Q : VK} {K : PySem.W.Frag} {p : Addr} {m : List (Str × PyData)} {k : Str}
end
def Gh (m : List (Str × V)) : List (Key × V) := m.map fun x => (.inr x.1, x.2)
theorem Ha {k : Str} : ∀ {m : List (Str × V)}, ((Gh m).any fun kv => decide (kv.1 = .inr k)) = m.any fun kv => decide (kv.1 = k)
 | [] => rfl
 | x :: r => by
   have := Ha (k := k) (m := r)
   unfold Gh at *
   simp only [List.map_cons, List.any_cons, this, KY]
theorem Tt {m : List (Str × V)} {k : Str} {v : V} (h : k ∉ m.map (·.1)) : putK (Gh m) (.inr k) v = Gh (m ++ [(k, v)]) := by
 unfold putK
 rw [Ha, if_neg]
 . unfold Gh; rw [List.map_append]; rfl
 . simp only [List.any_eq_true, not_exists, not_and]
   intro x hx e
   exact h (List.mem_map.mpr ⟨x, hx, of_decide_eq_true e⟩)
theorem LK {k : Str} : ∀ {m : List (Str × V)}, k ∈ m.map (·.1) -> ∃ v, (k, v) ∈ m /\ nr (Gh m) (.inr k) = some v
 | [], h => by simp at h
 | (j, v) :: r, h => by
   by_cases e : j = k
   . subst e
     exact ⟨v, List.mem_cons_self, tF rfl⟩
   . have h2 : k ∈ r.map (·.1) := by
      rcases List.mem_cons.mp h with z | z
      . exact absurd z.symm e
      . exact z
     obtain ⟨u, hu, hv⟩ := LK h2
     exact ⟨u, List.mem_cons_of_mem _ hu, by unfold Gh at *; rw [List.map_cons, nW (fun z => e (Sum.inr.inj z))]; exact hv⟩
section
variable {σ : St} {H H' : Hp} {Q : VK} {K : PySem.W.Frag} {p l : Addr} {ns : List Str} {f : Str -> List PyData} {k : Str}
end
section
variable {H H' : Hp} {P : Addr} {pos : Pos} {q : Str}
end
section
variable {prog : Program} {w : World} {A : Around} {E : Value -> Shared -> Prop} {s : Shared}
theorem HA {T : String} {r d : Addr} {n : Nat} {Pk : Nat -> Value -> Prop} {OK : Heap -> Prop} {ss : List Str} {Q : Value -> Shared -> Prop} (src : KdlSrc prog w T r d n Pk OK) (hh : A.handled = none) (ok : OK s.heap) (h64 : n < 64) (hP : ∀ acc : Array Value, ItemsOf Pk acc n -> StrsAre acc.toList ss)
 (h : ∀ (h1 h' : Heap) (tk e : Nat) (us : List Value) (vC : List Str), (∀ b u, s.heap.get? b = some u -> h1.get? b = some u) -> (∀ b u, h1.get? b = some u -> h'.get? b = some u) -> h'.get? h1.objs.size = some { cls := .type "list", data := .seq us.toArray e } -> StrsAre us vC -> vC.Perm ss -> sortedS vC = true -> Q (.ref h1.objs.size) { s with heap := h', toks := tk }) :
 wpAny (model prog w) A (call (.builtin "sorted") [.ref r]) Q E s := by
 refine Calls.call_function_entry kind_sorted plain_sorted entry_sorted (args_sorted1 _) ?_
 unfold Builtin.«sorted»
 refine wpAny_bind (m := checkCount "sorted" 1 1 _) (wpAny_pure ?_)
 refine wpAny_bind (kdu_collect (A := A.in1) src hh ok (by rw [sizeLine_eq]; omega) fun h1 tk acc kp jj => ?_)
 have hS := hP acc jj
 have hn : acc.toList.length < 64 := by
  have e : acc.size = n := jj.1
  rw [Array.length_toList, e]; exact h64
 refine wpAny_bind (wpAny_newList ?_ (hsz := by rw [sizeLine_eq]; omega))
 generalize acc.toList = vs at *
 have QX : (h1.push (seqObj "list" vs.toArray 0)).get? h1.objs.size = some (seqObj "list" vs.toArray 0) := Heap.get?_push_size _ rfl
 refine wpAny_bind (wpAny_holding (wpAny_call_entry slot_list_sort ⟨_, QX, rfl⟩ entry_list_sort (list_sort_treeK strKind_oneLt QX hS.keysOf (fun v₁ v₂ rest e => keyKind_strs (by rw [<- e]; exact hS)) hn fun Jb a1 a2 => ⟨_, rfl, ?_⟩) (args_list_sort _)))
 obtain ⟨vC, b1, b2, b3⟩ := sorted_out_str hS a1 a2
 obtain ⟨e, he⟩ := sortedHeap_at (out := (arrOf Jb).map (·.2)) QX
 refine wpAny_pure ⟨_, rfl, h h1 _ tk e ((arrOf Jb).map (·.2)).toList vC kp (fun b u q => ?_) (by rw [Array.toArray_toList]; exact he) b1 b2 b3⟩
 have wL : b < h1.objs.size := Heap.lt_size q
 rw [sortedHeap_old (Nat.ne_of_lt wL) (by rw [size_push']; exact Nat.lt_succ_of_lt wL)]
 exact Heap.get?_push_of_some _ q
end
section
variable {X : Cx}
def Wv : V -> Hp -> VK -> Prop := fun x H Q => ∃ (p : Addr) (kvs : List (Key × V)) (ks : List Str), x = .ref p /\ H p = some (.dK kvs) /\ kvs.map (fun kv => kV kv.1) = ks.map V.str /\ ks.length < 64 /\ ∀ q H' ss, ax H H' -> H q = none -> ss.Perm ks -> QO ss -> eT H' q (ss.map PyData.str) -> Q (.ref q) H'
theorem F0 : ∀ {ks : List Str} {us : List Value}, Vals (ks.map V.str) us -> StrsAre us ks
 | [], _, .nil => .nil
 | _ :: _, _, .cons q t => by
   obtain ⟨tk, rfl⟩ := q
   exact .cons _ _ (F0 t)
theorem Nw {pins : List (Addr × Obj)} {σ : St} {H : Hp} {s : Shared} {Q : VK} {h1 h' : Heap} {tk e : Nat} {us : List Value} {vC : List Str} (I : Inv X pins σ H s) (k1 : ∀ b u, s.heap.get? b = some u -> h1.get? b = some u) (k2 : ∀ b u, h1.get? b = some u -> h'.get? b = some u) (he : h'.get? h1.objs.size = some { cls := .type "list", data := .seq us.toArray e }) (hS : StrsAre us vC) (hl : vC.length < 64)
 (q : ∀ q H', ax H H' -> H q = none -> eT H' q (vC.map PyData.str) -> Q (.ref q) H') : ∃ v H1, Inv X pins σ H1 { s with heap := h', toks := tk } /\ RelV v (.ref h1.objs.size) /\ Q v H1 := by
 have I1 := I.kept (t' := tk) (h' := h1) k1
 have hq : H h1.objs.size = none := I1.bA.fresh (Nat.le_refl _)
 refine ⟨.ref h1.objs.size, upd H h1.objs.size (.lst (vC.map V.str)), I1.laid (t' := tk) k2 (Nat.le_refl _) ?_, rfl, q _ _ (cF hq) hq (zr hq (EC vC) (fx (fun _ => rfl) _))⟩
 exact ⟨by rw [List.length_map]; exact Nat.le_of_lt (md (by omega)), us, e, Ci hS, he⟩
def Lb : List V -> Hp -> VK -> Prop := fun xs H Q => ∃ v, xs = [v] /\ Wv v H Q
theorem JB (hc : X.calm = true) : iS X (.builtin "sorted") Lb := by
 intro pins s σ H xs us Q I r h
 obtain ⟨v, rfl, d, kvs, ks, rfl, hd, hks, hl, q⟩ := h
 obtain ⟨u, rfl, ru⟩ := vals1 r
 cases ru
 obtain ⟨hz, hs, vs, kv, dof⟩ := (show cH X.prog X.w H s.heap d (.dK kvs) from I.bA d _ hd)
 obtain ⟨ep, da⟩ := dof.dictAt
 have hlen : vs.length = kvs.length := kv.length.symm
 have hml : kvs.length = ks.length := by have := congrArg List.length hks; rwa [List.length_map, List.length_map] at this
 refine HA (kdl_dict (knd := aU X.prog X.w) (kvs := vs) (ep := ep) hs) (I.ok.hd hc) da (by omega) (fun acc jj => F0 (hks ▸ Ef kv jj)) fun h1 h' tk e us vC k1 k2 he hS hp HB => ?_
 exact Nw I k1 k2 he hS (by rw [hp.length_eq]; exact hl) fun a H' sm hn Oc => q a H' vC sm hn hp (Al HB) Oc
end
section
variable {σ : St} {H : Hp} {Q : VK}
end
section
variable {σ : St} {H H' : Hp} {Q : VK} {D : Ends} {K : PySem.W.Frag} {p l t : Addr} {ns : List Str} {f : Str -> List Str} {b : Str -> Bool} {k : Str}
end
section
variable {X : Cx}
end
section
variable {σ : St} {H : Hp} {Q : VK}
end
inductive Pb (w : World) : List DictEntry -> List (Str × Int) -> Prop
 | nil : Pb w [] []
 | cons {es : List DictEntry} {m : List (Str × Int)} (k : Str) (t : Tok) (n : Int) (u : Tok) (r : Pb w es m) : Pb w (⟨PyData.keyHash w.params k, .str k t, .int n u⟩ :: es) ((k, n) :: m)
section
variable {X : Cx} {o i : Expr} {pos : Pos} {td ty : TE} {A : Addr} {m : List (Str × Int)}
end
section
variable {σ : St} {H : Hp} {Q : VK} {A : Addr} {m : List (Str × Int)}
end
section
variable {H : Hp} {Q : VK} {K : PySem.W.Frag} {p : Addr} {ds : List PyData}
end
def TX : TE := fun _ _ _ => False
theorem A6 {X : Cx} {e : Expr} : PE X e TX := fun _ _ _ _ _ _ h => h.elim
theorem Wr {te : TE} {g : TG} {D : Ends} {σ : St} {H : Hp} (h : te σ H fun x H1 => g x σ H1 D.nx) : Mg te g D σ H := h
structure Fr (cs S : List Addr) (H H' : Hp) : Prop where
 kp : ∀ x o, H x = some o -> (∀ kvs, o = .dK kvs -> x ∉ S) -> (∀ C dx fs, o = .ins C dx fs -> C ∉ cs) -> H' x = some o
 dm : ∀ x, H' x = none -> H x = none
def nd : PyData -> Bool
 | .dict _ => false
 | .list ds => XS ds
 | .tuple ds => XS ds
 | _ => true
where XS : List PyData -> Bool
 | [] => true
 | d :: r => nd d && XS r
section
variable {cs S : List Addr} {H H1 H' : Hp} {p q : Addr} {v : V} {K : PySem.W.Frag}
theorem Fr.refl : Fr cs S H H := ⟨fun _ _ h _ _ => h, fun _ h => h⟩
theorem Fr.trans (f : Fr cs S H H1) (g : Fr cs S H1 H') : Fr cs S H H' := ⟨fun x o h a b => g.kp x o (f.kp x o h a b) a b, fun x h => f.dm x (g.dm x h)⟩
theorem ax.fr (s : ax H H') : Fr cs S H H' := ⟨fun x o h _ _ => s x o h, fun _ h => s.none h⟩
theorem Fr.step (f : Fr cs S H H1) (s : ax H1 H') : Fr cs S H H' := f.trans s.fr
theorem Fr.MZ {C dx : Addr} {fs : List (Str × V)} (m : Mv [p] H H') (h : H p = some (.ins C dx fs)) (hC : C ∈ cs) : Fr cs S H H' := ⟨fun x o e _ b => m.kp x o (fun z => by
 rw [List.mem_singleton.mp z, h] at e
 cases e
 exact b _ _ _ rfl hC) e, m.dm⟩
theorem Fr.VO {kvs : List (Key × V)} (m : Mv [p] H H') (h : H p = some (.dK kvs)) (hS : p ∈ S) : Fr cs S H H' := ⟨fun x o e a _ => m.kp x o (fun z => by
 have z := List.mem_singleton.mp z
 subst z
 rw [h] at e
 cases e
 exact a _ rfl hS) e, m.dm⟩
theorem Fr.none (f : Fr cs S H H') (h : H' p = Option.none) : H p = Option.none := f.dm p h
theorem Fr.tup {xs : List V} (f : Fr cs S H H') (h : H p = some (.tup xs)) : H' p = some (.tup xs) := f.kp p _ h (by intro _ z; cases z) (by intro _ _ _ z; cases z)
theorem Fr.rdl {xs : List V} (f : Fr cs S H H') (h : Rd H p (.lst xs)) : Rd H' p (.lst xs) := by
 rcases h with h | ⟨o, h⟩
 . exact .inl (f.kp p _ h (by intro _ z; cases z) (by intro _ _ _ z; cases z))
 . exact .inr ⟨o, f.kp p _ h (by intro _ z; cases z) (by intro _ _ _ z; cases z)⟩
theorem Fr.sql {xs : List V} (f : Fr cs S H H') (h : i9 K H p xs) : i9 K H' p xs := by
 rcases h with h | h
 . exact .inl (f.rdl h)
 . exact .inr h
theorem Fr.ins {C : Addr} {fs : List (Str × V)} (f : Fr cs S H H') (hC : C ∉ cs) (h : qg H v C fs) : qg H' v C fs := by
 obtain ⟨p, dx, rfl, e⟩ := h
 exact ⟨p, dx, rfl, f.kp p _ e (by intro _ z; cases z) (by intro _ _ _ z; cases z; exact hC)⟩
theorem Fr.lat {ds : List PyData} (f : Fr cs S H H') (h : eT H p ds) : eT H' p ds := by
 obtain ⟨xs, e, dv, im⟩ := h
 exact ⟨xs, f.kp p _ e (by intro _ z; cases z) (by intro _ _ _ z; cases z), dv.wF (fun a xs e => f.tup e) im, im⟩
theorem Fr.dla {m : List (Str × PyData)} (f : Fr cs S H H') (n : p ∉ S) (h : pq H p m) : pq H' p m := by
 obtain ⟨kvs, e, d⟩ := h
 exact ⟨kvs, f.kp p _ e (by intro _ _; exact n) (by intro _ _ _ z; cases z), d.wF fun a xs e => f.tup e⟩
theorem Fr.wF {d : PyData} (f : Fr cs S H H') (i : By d = true) (h : Dv H v d) : Dv H' v d := h.wF (fun a xs e => f.tup e) i
mutual
theorem Dv.fr {cs S : List Addr} {H H' : Hp} (f : Fr cs S H H') : ∀ {v : V} {d : PyData}, Dv H v d -> nd d = true -> Dv H' v d
 | _, _, .aT, _ => .aT
 | _, _, .bl b, _ => .bl b
 | _, _, .int i, _ => .int i
 | _, _, .str x, _ => .str x
 | _, _, .tup h r, c => .tup (f.tup h) (cI.fr f r c)
 | _, _, .lst h r, c => .lst (f.rdl h) (cI.fr f r c)
 | _, _, .dct h r, c => by cases c
theorem cI.fr {cs S : List Addr} {H H' : Hp} (f : Fr cs S H H') : ∀ {v : List V} {d : List PyData}, cI H v d -> nd.XS d = true -> cI H' v d
 | _, _, .nil, _ => .nil
 | _, _, .cons h r, c => by
   have c' : (nd _ && nd.XS _) = true := c
   rw [Bool.and_eq_true] at c'
   exact .cons (Dv.fr f h c'.1) (cI.fr f r c'.2)
end
end
def p4 (H : Hp) (p : Addr) (ns : List Str) (f : Str -> V) : Prop := H p = some (.dK (Gh (ns.map fun n => (n, f n))))
def bI {β : Type} (f : Str -> β) (k : Str) (v : β) : Str -> β := fun n => if n = k then v else f n
theorem aE {β : Type} {f : Str -> β} {k : Str} {v : β} : bI f k v k = v := if_pos rfl
theorem bJ {β : Type} {f : Str -> β} {k n : Str} {v : β} (h : n ≠ k) : bI f k v n = f n := if_neg h
section
variable {σ : St} {H H' : Hp} {Q : VK} {K : PySem.W.Frag} {p : Addr} {ns : List Str} {f : Str -> V} {k : Str} {v : V}
theorem p4.congr {g : Str -> V} (h : p4 H p ns f) (e : ∀ n ∈ ns, f n = g n) : p4 H p ns g := by
 have : (ns.map fun n => (n, f n)) = ns.map fun n => (n, g n) := List.map_congr_left fun n hn => by rw [e n hn]
 unfold p4 at *
 rw [<- this]; exact h
theorem Q7 (h : pq H p []) : p4 H p [] f := by
 obtain ⟨kvs, e, d⟩ := h
 cases d
 exact e
theorem p4.keeps (s : ax H H') (h : p4 H p ns f) : p4 H' p ns f := s _ _ h
theorem p4.mv {S : List Addr} (m : Mv S H H') (n : p ∉ S) (h : p4 H p ns f) : p4 H' p ns f := m.kp _ _ n h
theorem p4.keys : (ns.map fun n => (n, f n)).map (·.1) = ns := by rw [List.map_map]; exact List.map_id' _
theorem p4.val (hk : k ∈ ns) : nr (Gh (ns.map fun n => (n, f n))) (.inr k) = some (f k) := by
 obtain ⟨u, hu, e⟩ := LK (m := ns.map fun n => (n, f n)) (k := k) (by rw [p4.keys]; exact hk)
 obtain ⟨n, _, z⟩ := List.mem_map.mp hu
 cases z
 exact e
theorem p4.no (hk : k ∉ ns) : nr (Gh (ns.map fun n => (n, f n))) (.inr k) = none := by
 have h := Eb (Sum.inr k : Key) (Gh (ns.map fun n => (n, f n)))
 rw [Ha] at h
 cases e : nr (Gh (ns.map fun n => (n, f n))) (.inr k) with
 | none => rfl
 | some u =>
   rw [e] at h
   obtain ⟨x, hx, hd⟩ := List.any_eq_true.mp h
   obtain ⟨n, hn, rfl⟩ := List.mem_map.mp hx
   exact absurd (of_decide_eq_true hd ▸ hn) hk
theorem RC {R : Hp -> Prop} (hp : p4 H p ns f) (hl : ns.length <= 4000) (hk : k ∉ ns) (h : ∀ H2, Mv [p] H H2 -> p4 H2 p (ns ++ [k]) (bI f k v) -> R H2) : ∃ a H4, V.ref p = .ref a /\ GB H a (.str k) v H4 /\ R H4 := by
 have mv : Mv [p] H (upd H p (.dK (putK (Gh (ns.map fun n => (n, f n))) (.inr k) v))) := .bP hp (by intro _ z; cases z)
 refine ⟨p, _, rfl, GB.k (k := .inr k) hp (by unfold Gh; rw [List.length_map, List.length_map]; exact md hl), h _ mv ?_⟩
 unfold p4
 rw [au, Tt (by rw [p4.keys]; exact hk)]
 have e : (ns.map fun n => (n, f n)) = ns.map fun n => (n, bI f k v n) := List.map_congr_left fun n hn => by rw [bJ (fun z : n = k => hk (by rw [<- z]; exact hn))]
 rw [e, List.map_append, List.map_singleton, aE]
theorem R5 {R : V -> Prop} (hp : p4 H p ns f) (hk : k ∈ ns) (h : R (f k)) : ∃ a v, V.ref p = .ref a /\ hJ H a (.str k) (some v) /\ R v :=
 ⟨p, f k, rfl, by rw [<- p4.val hk]; exact hJ.k (k := .inr k) hp, h⟩
theorem V7 {R : Option V -> Prop} (hp : p4 H p ns f) (h : ∀ o : Option V, (o.isSome = true ↔ k ∈ ns) -> (k ∈ ns -> o = some (f k)) -> R o) : ∃ a o, V.ref p = .ref a /\ hJ H a (.str k) o /\ R o := by
 by_cases hk : k ∈ ns
 . exact ⟨p, _, rfl, by rw [<- p4.val hk]; exact hJ.k (k := .inr k) hp, h (some (f k)) ⟨fun _ => hk, fun _ => rfl⟩ fun _ => rfl⟩
 . exact ⟨p, _, rfl, by rw [<- p4.no (f := f) hk]; exact hJ.k (k := .inr k) hp, h none ⟨fun z => (by cases z), fun z => absurd z hk⟩ fun z => absurd z hk⟩
theorem LX : qp (Gh (ns.map fun n => (n, f n))) (.inr k) = Gh ((ns.filter fun x => decide (x ≠ k)).map fun n => (n, f n)) := by
 induction ns with
 | nil => rfl
 | cons a r ih =>
   unfold Gh qp at *
   rw [List.map_cons, List.map_cons, List.filter_cons, List.filter_cons, ih]
   by_cases e : a = k
   . have e1 : ¬ decide ((Sum.inr a : Key) ≠ Sum.inr k) = true := by simp [e]
     have e2 : ¬ decide (a ≠ k) = true := by simp [e]
     rw [if_neg e1, if_neg e2]
   . have e1 : decide ((Sum.inr a : Key) ≠ Sum.inr k) = true := by simpa using fun z : (Sum.inr a : Key) = Sum.inr k => e (Sum.inr.inj z)
     have e2 : decide (a ≠ k) = true := by simpa using e
     rw [if_pos e1, if_pos e2]; rfl
theorem To (hp : p4 H p ns f) (hk : k ∈ ns) (h : ∀ H2, Mv [p] H H2 -> p4 H2 p (ns.filter fun x => decide (x ≠ k)) f -> Q (f k) H2) : OZ (.ref p) [.str k] H Q := by
 have mv : Mv [p] H (upd H p (.dK (qp (Gh (ns.map fun n => (n, f n))) (.inr k)))) := .bP hp (by intro _ z; cases z)
 refine ⟨p, _, .inr k, f k, rfl, rfl, hp, p4.val hk, h _ mv ?_⟩
 unfold p4
 rw [au, LX]
theorem ZY {R : Prop} (hp : p4 H p ns f) (h : R) : X0 K "dict" (.ref p) H /\ R := ⟨.inr (.inr (.inl ⟨rfl, .inl ⟨_, hp⟩⟩)), h⟩
theorem p4.Yz : (Gh (ns.map fun n => (n, f n))).map (fun kv => kV kv.1) = ns.map V.str := by unfold Gh; rw [List.map_map, List.map_map]; rfl
end
section
variable {σ : St} {H : Hp} {Q : VK} {K : PySem.W.Frag}
theorem Sf {k : Nat} {ta : TA} {g : TG} {tc : TT} {te : TE} (h : ta σ H fun vs H1 => ∃ i j : Int, vs = [.int i, .int j] /\ (-(2 ^ 62) <= i /\ i < 2 ^ 62 /\ -(2 ^ 62) <= j /\ j < 2 ^ 62) /\ Wf k g tc te (Gf Q) σ (NM i (j - i).toNat) H1) : XZ k (Uw ta) g tc te σ H Q := h
theorem Tq {k n : Nat} {lo : Int} {g : TG} {tc : TT} {te : TE} (hlen : n <= 4000) (Pv : Nat -> List V -> Hp -> Prop) (h0 : Pv 0 [] H) (hk : ∀ i acc H', i <= n -> Pv i acc H' -> acc.length <= n)
 (turn : ∀ i acc H' (N : Option V -> Hp -> Prop), i < n -> Pv i acc H' -> (∀ y H4, Pv (i + 1) (acc ++ [y]) H4 -> N (some y) H4) -> (∀ H4, Pv (i + 1) acc H4 -> N none H4) ->
  g (.int (lo + (i : Int))) (List.replicate k none ++ σ) H' fun σ2 H2 => tc σ2 H2 fun b H3 => X3 te N σ2 b H3)
 (kk : ∀ acc H' q, Pv n acc H' -> H' q = none -> Q (.ref q) (upd H' q (.lst acc))) : Wf k g tc te (Gf Q) σ (NM lo n) H := by
 refine ⟨fun i m acc H' => i <= n /\ m = n - i /\ Pv i acc H', ⟨n, Nat.zero_le _, rfl, h0⟩, ?_⟩
 rintro i m acc H' ⟨wG, hm, hp⟩
 have Zo := hk i acc H' wG hp
 by_cases hc : i = n
 . subst hc
   exact .inl ⟨Nat.le_refl _, fun q hq => kk acc H' q hp hq⟩
 . refine .inr ⟨by show i < n; omega, md (by omega), fun x H2 hy => ?_⟩
   obtain ⟨rfl, rfl⟩ := hy
   exact turn i acc H2 (fun o H4 => match o with | some y => ∃ m', m' < m /\ i + 1 <= n /\ m' = n - (i + 1) /\ Pv (i + 1) (acc ++ [y]) H4 | none => ∃ m', m' < m /\ i + 1 <= n /\ m' = n - (i + 1) /\ Pv (i + 1) acc H4) (by omega) hp
    (fun y H4 h => ⟨n - (i + 1), by omega, by omega, rfl, h⟩) fun H4 h => ⟨n - (i + 1), by omega, by omega, rfl, h⟩
theorem Fr.wide {cs S S' : List Addr} {H H' : Hp} (f : Fr cs S H H') (h : ∀ x ∈ S, x ∈ S') : Fr cs S' H H' := ⟨fun x o e a b => f.kp x o e (fun kvs z y => a kvs z (h x y)) b, f.dm⟩
end
end L2
set_option maxHeartbeats 4000000
namespace My
open PySem L2
def num (c : Int) : Int := if c % 3 = 0 then c / 3 % 7 else if c % 3 = 1 then c / 3 % 1000 else c / 3 % 10 ^ 39
def SJ (m : V) : Prop := m = .aT \/ ∃ i, m = .int i /\ 1 <= i
def Ks (m : V) (n : Int) : Int := match m with
 | .int i => if i <= n then i else n
 | _ => n
def JT (m : V) (n : Int) (d : PyData) : PyData := match m with
 | .int i => if i <= n then .none else d
 | _ => d
theorem La {i n : Int} {d : PyData} (h : i <= n) : JT (.int i) n d = .none := if_pos h
theorem KO {i n : Int} {d : PyData} (h : ¬ i <= n) : JT (.int i) n d = d := if_neg h
theorem Ln {i n : Int} (h : i <= n) : Ks (.int i) n = i := if_pos h
theorem KP {i n : Int} (h : ¬ i <= n) : Ks (.int i) n = n := if_neg h
def place (m : V) (n : Int) (d : PyData) : PyData := .tuple [.int (Ks m n), JT m n d]
def LO : List V -> List (Str × V)
 | [st, sp, wd, m] => [("many", m), ("start", st), ("step", sp), ("wide", wd)]
 | _ => []
inductive Wk (R : Int -> Int -> Int × Int) (now : Int) : Int -> Int -> Int -> Int -> Int -> Int -> Prop where
 | here {num x y : Int} (h : now < y) : Wk R now num x y num x y
 | next {num x y k x' y' : Int} (h : y <= now) (w : Wk R now (num + 1) (R num y).1 (R num y).2 k x' y') : Wk R now num x y k x' y'
theorem Wk.inj {R : Int -> Int -> Int × Int} {now num x y k x' y' k2 x2 y2 : Int} (h : Wk R now num x y k x' y') (g : Wk R now num x y k2 x2 y2) : k = k2 /\ x' = x2 /\ y' = y2 := by
 induction h with
 | here h =>
   cases g with
   | here _ => exact ⟨rfl, rfl, rfl⟩
   | next h2 _ => omega
 | next h _ ih =>
   cases g with
   | here h2 => omega
   | next _ w => exact ih w
def steps (e span now : Int) : Int := max 0 ((now - e) / span + 1)
theorem Iz {e span now : Int} : 0 <= steps e span now := by unfold steps; omega
theorem OG {e span now b : Int} (hs : 0 < span) (h : now - e <= b) (hb : 0 <= b) : steps e span now <= b + 1 := by
 unfold steps
 have : (now - e) / span <= b := by
  by_cases h0 : 0 <= now - e
  . exact Int.le_trans (Int.ediv_le_self _ h0) h
  . have := Int.ediv_neg_of_neg_of_pos (show now - e < 0 by omega) hs
    omega
 omega
local macro_rules | `(tactic| walk_at "same") => `(tactic| first | (refine' ax.trans ?m ?s; (case s => assumption); (case m => walk_at "same")) | fail)
set_option hygiene false in
local macro_rules | `(tactic| walk_at "same") => `(tactic| first | assumption | fail)
set_option hygiene false in
local macro_rules | `(tactic| walk_at "same") => `(tactic| first | exact ax.refl _ | fail)
local macro_rules | `(tactic| walk_at "at") => `(tactic| first | (refine' ax.at ?s ?m; (case s => assumption); (case m => walk_at "at")) | fail)
set_option hygiene false in
local macro_rules | `(tactic| walk_at "at") => `(tactic| first | exact au | fail)
set_option hygiene false in
local macro_rules | `(tactic| walk_at "at") => `(tactic| first | assumption | fail)
local macro_rules | `(tactic| walk_at "dat") => `(tactic| first | (refine' Dv.keeps ?s ?m; (case s => assumption); (case m => walk_at "dat")) | fail)
set_option hygiene false in
local macro_rules | `(tactic| walk_at "dat") => `(tactic| first | assumption | fail)
set_option hygiene false in
local macro_rules | `(tactic| walk_at "dat") => `(tactic| first | exact Dv.str _ | fail)
set_option hygiene false in
local macro_rules | `(tactic| walk_at "dat") => `(tactic| first | exact Dv.bl _ | fail)
set_option hygiene false in
local macro_rules | `(tactic| walk_at "dat") => `(tactic| first | exact Dv.aT | fail)
set_option hygiene false in
local macro_rules | `(tactic| walk_at "dat") => `(tactic| first | exact Dv.int _ | fail)
local macro_rules | `(tactic| walk_at "ins") => `(tactic| first | (refine' qg.keeps ?s ?m; (case s => assumption); (case m => walk_at "ins")) | fail)
set_option hygiene false in
local macro_rules | `(tactic| walk_at "ins") => `(tactic| first | assumption | fail)
local macro_rules | `(tactic| walk_at "dats") => `(tactic| first | (refine' cI.keeps ?s ?m; (case s => assumption); (case m => walk_at "dats")) | fail)
set_option hygiene false in
local macro_rules | `(tactic| walk_at "dats") => `(tactic| first | assumption | fail)
local macro_rules | `(tactic| walk_at "dats") => `(tactic| first | (refine' cI.cons ?m ?s; (case m => walk_at "dat"); (case s => walk_at "dats")) | fail)
set_option hygiene false in
local macro_rules | `(tactic| walk_at "dats") => `(tactic| first | exact cI.nil | fail)
local macro_rules | `(tactic| walk_at "sql") => `(tactic| first | (refine' ax.seq ?s ?m; (case s => assumption); (case m => walk_at "sql")) | fail)
set_option hygiene false in
local macro_rules | `(tactic| walk_at "sql") => `(tactic| first | assumption | fail)
local macro_rules | `(tactic| walk_at "isq") => `(tactic| first | (refine' Or.inr ?m; case m => walk_at "dat") | fail)
local macro_rules | `(tactic| walk_at "isq") => `(tactic| first | (refine' Or.inl ?m; case m => walk_at "dat") | fail)
set_option hygiene false in
local macro_rules | `(tactic| walk_at "side") => `(tactic| first | exact ⟨by decide, by decide, by decide⟩ | fail)
set_option hygiene false in
local macro_rules | `(tactic| walk_at "side") => `(tactic| first | exact Z3 ⟨by omega, by omega⟩ ⟨by omega, by omega⟩ | fail)
set_option hygiene false in
local macro_rules | `(tactic| walk_at "side") => `(tactic| first | exact Yc (by omega) (by omega) | fail)
set_option hygiene false in
local macro_rules | `(tactic| walk_at "side") => `(tactic| first | exact (by decide) | fail)
set_option hygiene false in
local macro_rules | `(tactic| walk_at "side") => `(tactic| first | assumption | fail)
set_option hygiene false in
local macro_rules | `(tactic| walk_at "side") => `(tactic| first | omega | fail)
set_option hygiene false in
local macro_rules | `(tactic| walk_at "use") => `(tactic| fail)
set_option hygiene false in
local macro_rules | `(tactic| walk_at "lk") => `(tactic| fail)
set_option hygiene false in
local macro_rules | `(tactic| walk_at "put") => `(tactic| fail)
set_option hygiene false in
local macro_rules | `(tactic| walk_at "fin") => `(tactic| fail)
set_option hygiene false in
local macro_rules | `(tactic| walk_at "wds") => `(tactic| first | with_reducible refine Js (ws := []) rfl ?_ | fail)
set_option hygiene false in
local macro_rules | `(tactic| walk_at "wds") => `(tactic| first | with_reducible refine Js (ws := [_, _, _, _, _, _]) rfl ?_ | fail)
set_option hygiene false in
local macro_rules | `(tactic| walk_at "wds") => `(tactic| first | with_reducible refine Js (ws := [_, _, _, _, _]) rfl ?_ | fail)
set_option hygiene false in
local macro_rules | `(tactic| walk_at "wds") => `(tactic| first | with_reducible refine Js (ws := [_, _, _, _]) rfl ?_ | fail)
set_option hygiene false in
local macro_rules | `(tactic| walk_at "wds") => `(tactic| first | with_reducible refine Js (ws := [_, _, _]) rfl ?_ | fail)
set_option hygiene false in
local macro_rules | `(tactic| walk_at "wds") => `(tactic| first | with_reducible refine Js (ws := [_, _]) rfl ?_ | fail)
set_option hygiene false in
local macro_rules | `(tactic| walk_at "wds") => `(tactic| first | with_reducible refine Js (ws := [_]) rfl ?_ | fail)
set_option hygiene false in
local macro_rules | `(tactic| walk_at "mks") => `(tactic| first | refine An (args := [_, _, _, _, _]) rfl ?_ (fun _ _ _ _ => ?_) | fail)
set_option hygiene false in
local macro_rules | `(tactic| walk_at "mks") => `(tactic| first | refine An (args := [_, _, _, _]) rfl ?_ (fun _ _ _ _ => ?_) | fail)
set_option hygiene false in
local macro_rules | `(tactic| walk_at "mks") => `(tactic| first | refine An (args := [_, _, _]) rfl ?_ (fun _ _ _ _ => ?_) | fail)
set_option hygiene false in
local macro_rules | `(tactic| walk_at "mks") => `(tactic| first | refine An (args := [_, _]) rfl ?_ (fun _ _ _ _ => ?_) | fail)
set_option hygiene false in
local macro_rules | `(tactic| walk_at "mks") => `(tactic| first | refine An (args := [_]) rfl ?_ (fun _ _ _ _ => ?_) | fail)
local macro_rules | `(tactic| walk_at "br") => `(tactic| ((with_reducible refine Ye (fun hb => ?_) (fun hb => ?_)) <;> (try simp only [id, decide_eq_true_eq, decide_eq_false_iff_not, Bool.not_eq_true', Bool.not_eq_false', Bool.not_true, Bool.not_false, V.int.injEq, Bool.true_eq_false, Bool.false_eq_true, reduceCtorEq, decide_true, decide_false, not_true, not_false_iff, PyData.eqv, PyData.eqvAll, Bool.and_eq_true, Bool.and_eq_false_iff, Bool.or_eq_true, Bool.or_eq_false_iff, beq_iff_eq, beq_eq_false_iff_ne, ne_eq, bne_iff_ne, Bool.and_true, Bool.and_false, Bool.and_self, beq_self_eq_true, isInt, isBool, isStr, UM, isTup, YK, List.length_cons, List.length_nil] at hb) <;> (try (exfalso; omega)) <;> (try (exfalso; (refine' abK hb ?d); (case d => walk_at "dat")))))
set_option hygiene false in
local macro_rules | `(tactic| walk_at "rd1") => `(tactic| first | walk_at "fin" | fail)
set_option hygiene false in
local macro_rules | `(tactic| walk_at "rd1") => `(tactic| first | walk_at "use" | fail)
set_option hygiene false in
local macro_rules | `(tactic| walk_at "rd1") => `(tactic| first | walk_at "mks" | fail)
set_option hygiene false in
local macro_rules | `(tactic| walk_at "rd1") => `(tactic| first | walk_at "wds" | fail)
set_option hygiene false in
local macro_rules | `(tactic| walk_at "rd1") => `(tactic| first | with_reducible refine KJ (fun _ _ => ?_) | fail)
set_option hygiene false in
local macro_rules | `(tactic| walk_at "rd1") => `(tactic| first | with_reducible refine VY ?_ | fail)
set_option hygiene false in
local macro_rules | `(tactic| walk_at "rd1") => `(tactic| first | with_reducible refine SM ?_ | fail)
set_option hygiene false in
local macro_rules | `(tactic| walk_at "rd1") => `(tactic| first | with_reducible refine Rr ?_ | fail)
set_option hygiene false in
local macro_rules | `(tactic| walk_at "rd1") => `(tactic| first | with_reducible refine ZT ?_ | fail)
local macro_rules | `(tactic| walk_at "rd1") => `(tactic| first | ((with_reducible refine' Vi ?e1 ?e2 ?_); (case e1 => omega); (case e2 => omega)) | fail)
set_option hygiene false in
local macro_rules | `(tactic| walk_at "rd1") => `(tactic| first | with_reducible refine RJ ?_ | fail)
set_option hygiene false in
local macro_rules | `(tactic| walk_at "rd1") => `(tactic| first | with_reducible refine Y0 ?_ | fail)
set_option hygiene false in
local macro_rules | `(tactic| walk_at "rd1") => `(tactic| first | with_reducible refine W2 ?_ | fail)
local macro_rules | `(tactic| walk_at "rd1") => `(tactic| first | ((with_reducible refine' XB ?e1 ?e2 (fun _ _ _ _ _ _ _ => ?_)); (case e1 => exact OY rfl); (case e2 => walk_at "dats")) | fail)
set_option hygiene false in
local macro_rules | `(tactic| walk_at "rd1") => `(tactic| first | with_reducible refine Wd ?_ | fail)
local macro_rules | `(tactic| walk_at "rd1") => `(tactic| first | ((with_reducible refine' Vt ?e1 ?e2 (fun _ _ _ _ => ?_)); (case e1 => exact OY rfl); (case e2 => walk_at "dats")) | fail)
set_option hygiene false in
local macro_rules | `(tactic| walk_at "rd1") => `(tactic| first | with_reducible refine WU ?_ | fail)
set_option hygiene false in
local macro_rules | `(tactic| walk_at "rd1") => `(tactic| first | with_reducible refine VE ?_ | fail)
set_option hygiene false in
local macro_rules | `(tactic| walk_at "rd1") => `(tactic| first | with_reducible refine T7 ?_ | fail)
set_option hygiene false in
local macro_rules | `(tactic| walk_at "rd1") => `(tactic| first | with_reducible refine Sr ?_ | fail)
set_option hygiene false in
local macro_rules | `(tactic| walk_at "rd1") => `(tactic| first | with_reducible refine Tx ?_ | fail)
local macro_rules | `(tactic| walk_at "rd1") => `(tactic| first | ((with_reducible refine' L3 ?e ?_); case e => walk_at "dat") | fail)
local macro_rules | `(tactic| walk_at "rd1") => `(tactic| first | ((with_reducible refine' M3 ?e ?_); case e => walk_at "dat") | fail)
local macro_rules | `(tactic| walk_at "rd1") => `(tactic| first | ((with_reducible refine' Nc ?e ?_); case e => walk_at "dat") | fail)
local macro_rules | `(tactic| walk_at "rd1") => `(tactic| first | ((with_reducible refine' Ki ?e ?_); case e => walk_at "dat") | fail)
local macro_rules | `(tactic| walk_at "rd1") => `(tactic| first | ((with_reducible refine' MR ?e ?_); case e => walk_at "dat") | fail)
local macro_rules | `(tactic| walk_at "rd1") => `(tactic| first | ((with_reducible refine' Sb ?e1 ?e2 ?_); (case e1 => walk_at "at"); (case e2 => walk_at "lk")) | fail)
local macro_rules | `(tactic| walk_at "rd1") => `(tactic| first | ((with_reducible refine' SX ?e1 ?e2 ?_); (case e1 => walk_at "ins"); (case e2 => walk_at "lk")) | fail)
local macro_rules | `(tactic| walk_at "rd1") => `(tactic| first | ((with_reducible refine' W8 ?e1 ?e2 ?e3 ?e4 ?_); (case e1 => walk_at "at"); (case e2 => assumption); (case e3 => assumption); (case e4 => walk_at "lk")) | fail)
local macro_rules | `(tactic| walk_at "rd1") => `(tactic| first | ((with_reducible refine' VB ?e1 ?e2 ?e3 ?e4 ?_); (case e1 => walk_at "ins"); (case e2 => assumption); (case e3 => assumption); (case e4 => walk_at "lk")) | fail)
local macro_rules | `(tactic| walk_at "rd1") => `(tactic| first | ((with_reducible refine' Tc ?e1 ?e2 ?e3 ?e4 ?e5 ?_); (case e1 => walk_at "at"); (case e2 => assumption); (case e3 => assumption); (case e4 => exact TB rfl); (case e5 => walk_at "put")) | fail)
set_option hygiene false in
local macro_rules | `(tactic| walk_at "rd1") => `(tactic| first | with_reducible refine V1 ?_ | fail)
set_option hygiene false in
local macro_rules | `(tactic| walk_at "rd1") => `(tactic| first | with_reducible refine aa8 ?_ | fail)
local macro_rules | `(tactic| walk_at "rd1") => `(tactic| first | ((with_reducible refine' XM ?e (fun _ _ => ?_)); case e => walk_at "side") | fail)
set_option hygiene false in
local macro_rules | `(tactic| walk_at "rd1") => `(tactic| first | with_reducible refine W0 (fun _ _ _ _ => ?_) | fail)
set_option hygiene false in
local macro_rules | `(tactic| walk_at "rd1") => `(tactic| first | with_reducible refine WQ (fun _ _ _ _ => ?_) | fail)
local macro_rules | `(tactic| walk_at "rd1") => `(tactic| first | ((with_reducible refine' Xp ?e ?_); case e => walk_at "sql") | fail)
local macro_rules | `(tactic| walk_at "rd1") => `(tactic| first | ((with_reducible refine' Oy ?e ?_); case e => walk_at "isq") | fail)
local macro_rules | `(tactic| walk_at "rd1") => `(tactic| first | ((with_reducible refine' P9 ?e1 ?e2 ?_); (case e1 => walk_at "isq"); (case e2 => exact rfl)) | fail)
local macro_rules | `(tactic| walk_at "rd1") => `(tactic| first | ((with_reducible refine' Uo ?e1 ?e2 ?e3 ?e4 ?e5 ?_); (case e1 => walk_at "dat"); (case e2 => walk_at "dat"); (case e3 => first | rfl | assumption); (case e4 => first | rfl | assumption); (case e5 => first | exact Nat.le_of_ble_eq_true rfl | assumption)) | fail)
local macro_rules | `(tactic| walk_at "rd1") => `(tactic| first | ((with_reducible refine' aae ?e ?_); case e => exact rfl) | fail)
set_option hygiene false in
local macro_rules | `(tactic| walk_at "rd1") => `(tactic| first | with_reducible refine Vc ?_ | fail)
set_option hygiene false in
local macro_rules | `(tactic| walk_at "rd1") => `(tactic| first | walk_at "br" | fail)
set_option hygiene false in
local macro_rules | `(tactic| walk_at "rd1") => `(tactic| first | with_reducible refine Mj ?_ | fail)
set_option hygiene false in
local macro_rules | `(tactic| walk_at "rd1") => `(tactic| first | with_reducible refine PN ?_ | fail)
set_option hygiene false in
local macro_rules | `(tactic| walk_at "rd1") => `(tactic| first | with_reducible refine VJ ?_ | fail)
set_option hygiene false in
local macro_rules | `(tactic| walk_at "rd1") => `(tactic| first | with_reducible refine acI ?_ | fail)
set_option hygiene false in
local macro_rules | `(tactic| walk_at "rd1") => `(tactic| first | with_reducible refine aaj ?_ | fail)
set_option hygiene false in
local macro_rules | `(tactic| walk_at "rd1") => `(tactic| first | with_reducible refine XE ?_ | fail)
set_option hygiene false in
local macro_rules | `(tactic| walk_at "rd1") => `(tactic| first | with_reducible refine ZG ?_ | fail)
set_option hygiene false in
local macro_rules | `(tactic| walk_at "rd1") => `(tactic| first | with_reducible refine Xg ?_ | fail)
set_option hygiene false in
local macro_rules | `(tactic| walk_at "rd1") => `(tactic| first | with_reducible refine Zz ?_ | fail)
set_option hygiene false in
local macro_rules | `(tactic| walk_at "rd1") => `(tactic| first | with_reducible refine abw ?_ | fail)
set_option hygiene false in
local macro_rules | `(tactic| walk_at "rd1") => `(tactic| first | with_reducible refine Ya ?_ | fail)
set_option hygiene false in
local macro_rules | `(tactic| walk_at "rd1") => `(tactic| first | with_reducible refine WW ?_ | fail)
set_option hygiene false in
local macro_rules | `(tactic| walk_at "rd1") => `(tactic| first | with_reducible refine acz ?_ | fail)
set_option hygiene false in
local macro_rules | `(tactic| walk_at "rd1") => `(tactic| first | with_reducible refine SH ?_ | fail)
set_option hygiene false in
local macro_rules | `(tactic| walk_at "rd1") => `(tactic| first | with_reducible refine Y4 ?_ | fail)
set_option hygiene false in
local macro_rules | `(tactic| walk_at "rd1") => `(tactic| first | with_reducible refine W4 ?_ | fail)
local macro_rules | `(tactic| walk_at "rd1") => `(tactic| first | ((with_reducible refine' r_i ?e ?_); case e => walk_at "side") | fail)
local macro_rules | `(tactic| walk_at "rd1") => `(tactic| first | ((with_reducible refine' Xj ?e1 ?e2 ?_); (case e1 => exact ⟨by decide, by decide, by decide⟩); (case e2 => ((conv => lhs; simp only [Int.reduceToNat]) <;> exact rfl))) | fail)
set_option hygiene false in
local macro_rules | `(tactic| walk_at "rd1") => `(tactic| first | with_reducible refine acq ?_ | fail)
set_option hygiene false in
local macro_rules | `(tactic| walk_at "rd1") => `(tactic| first | with_reducible refine acM ?_ | fail)
set_option hygiene false in
local macro_rules | `(tactic| walk_at "rd1") => `(tactic| first | with_reducible refine r_c ?_ | fail)
local macro_rules | `(tactic| walk_at "rd1") => `(tactic| first | ((with_reducible refine' QH ?e ?_); case e => exact rfl) | fail)
set_option hygiene false in
local macro_rules | `(tactic| walk_at "rd1") => `(tactic| first | with_reducible refine Y9 ?_ | fail)
set_option hygiene false in
local macro_rules | `(tactic| walk_at "rd1") => `(tactic| first | with_reducible refine Vj ?_ | fail)
set_option hygiene false in
local macro_rules | `(tactic| walk_at "rd1") => `(tactic| first | with_reducible refine YD ?_ | fail)
set_option hygiene false in
local macro_rules | `(tactic| walk_at "rd1") => `(tactic| first | with_reducible refine YX ?_ | fail)
set_option hygiene false in
local macro_rules | `(tactic| walk_at "rd1") => `(tactic| first | with_reducible refine VU ?_ | fail)
local macro_rules | `(tactic| walk_at "lat") => `(tactic| first | (refine' eT.mv ?s ?n ?m; (case s => assumption); (case n => walk_at "nin"); (case m => walk_at "lat")) | fail)
local macro_rules | `(tactic| walk_at "lat") => `(tactic| first | (refine' eT.keeps ?s ?m; (case s => assumption); (case m => walk_at "lat")) | fail)
set_option hygiene false in
local macro_rules | `(tactic| walk_at "lat") => `(tactic| first | assumption | fail)
set_option hygiene false in
local macro_rules | `(tactic| walk_at "nin") => `(tactic| fail)
local macro_rules | `(tactic| walk_at "ne") => `(tactic| first | (refine' Ne.symm (eT.ne ?h ?n); (case n => assumption); (case h => walk_at "lat")) | fail)
local macro_rules | `(tactic| walk_at "ne") => `(tactic| first | (refine' eT.ne ?h ?n; (case n => assumption); (case h => walk_at "lat")) | fail)
set_option hygiene false in
local macro_rules | `(tactic| walk_at "ne") => `(tactic| first | (refine Ne.symm ?_; assumption) | fail)
set_option hygiene false in
local macro_rules | `(tactic| walk_at "ne") => `(tactic| first | assumption | fail)
local macro_rules | `(tactic| walk_at "dla") => `(tactic| first | (refine' pq.mv ?s ?n ?m; (case s => assumption); (case n => walk_at "nin"); (case m => walk_at "dla")) | fail)
local macro_rules | `(tactic| walk_at "dla") => `(tactic| first | (refine' pq.keeps ?s ?m; (case s => assumption); (case m => walk_at "dla")) | fail)
set_option hygiene false in
local macro_rules | `(tactic| walk_at "dla") => `(tactic| first | assumption | fail)
local macro_rules | `(tactic| walk_at "ne") => `(tactic| first | (refine' Ne.symm (pq.ne ?h ?n); (case n => assumption); (case h => walk_at "dla")) | fail)
local macro_rules | `(tactic| walk_at "ne") => `(tactic| first | (refine' pq.ne ?h ?n; (case n => assumption); (case h => walk_at "dla")) | fail)
set_option hygiene false in
local macro_rules | `(tactic| walk_at "imm") => `(tactic| first | exact Ld _ | fail)
local macro_rules | `(tactic| walk_at "imm") => `(tactic| first | (refine' eT.wF ?h; (case h => assumption)) | fail)
set_option hygiene false in
local macro_rules | `(tactic| walk_at "imm") => `(tactic| first | exact fx (fun _ => rfl) _ | fail)
set_option hygiene false in
local macro_rules | `(tactic| walk_at "imm") => `(tactic| first | assumption | fail)
set_option hygiene false in
local macro_rules | `(tactic| walk_at "imm") => `(tactic| first | rfl | fail)
set_option hygiene false in
local macro_rules | `(tactic| walk_at "dm") => `(tactic| first | exact fun _ h => h | fail)
set_option hygiene false in
local macro_rules | `(tactic| walk_at "none") => `(tactic| first | assumption | fail)
set_option hygiene false in
local macro_rules | `(tactic| walk_at "same") => `(tactic| fail)
local macro_rules | `(tactic| walk_at "mv") => `(tactic| first | (refine' Mv.step ?m ?s ?h; (case s => assumption); (case m => walk_at "mv"); (case h => walk_at "ours")) | fail)
set_option hygiene false in
local macro_rules | `(tactic| walk_at "mv") => `(tactic| first | assumption | fail)
set_option hygiene false in
local macro_rules | `(tactic| walk_at "mv") => `(tactic| first | exact Mv.refl | fail)
set_option hygiene false in
local macro_rules | `(tactic| walk_at "ours") => `(tactic| fail)
local macro_rules | `(tactic| walk_at "dat") => `(tactic| first | (refine' Mv.dat ?s ?i ?m; (case s => assumption); (case i => walk_at "imm"); (case m => walk_at "dat")) | fail)
local macro_rules | `(tactic| walk_at "dat") => `(tactic| first | (refine' eT.dv ?m; (case m => walk_at "lat")) | fail)
set_option hygiene false in
local macro_rules | `(tactic| walk_at "dat") => `(tactic| first | exact aag _ | fail)
local macro_rules | `(tactic| walk_at "dats") => `(tactic| first | (refine' Mv.Yw ?s ?i ?m; (case s => assumption); (case i => walk_at "imm"); (case m => walk_at "dats")) | fail)
set_option hygiene false in
local macro_rules | `(tactic| walk_at "len") => `(tactic| first | omega | fail)
set_option hygiene false in
local macro_rules | `(tactic| walk_at "len") => `(tactic| first | (simp only [List.length_map, List.length_append, List.length_cons, List.length_nil]; omega) | fail)
local macro_rules | `(tactic| walk_at "rd1") => `(tactic| first | ((with_reducible refine' P9 ?e1 ?e2 ?_); (case e1 => walk_at "isq"); (case e2 => first | exact X4 | (refine' Z9 ?a ?b; (case a => omega); (case b => walk_at "len")) | fail)) | fail)
local macro_rules | `(tactic| walk_at "rd1") => `(tactic| first | ((with_reducible refine' V4 ?e ?_); case e => walk_at "dat") | fail)
local macro_rules | `(tactic| walk_at "rd1") => `(tactic| first | ((with_reducible refine' JV ?e ?_); case e => walk_at "len") | fail)
set_option hygiene false in
local macro_rules | `(tactic| walk_at "rd1") => `(tactic| first | with_reducible refine ZF ?_ | fail)
local macro_rules | `(tactic| walk_at "rd1") => `(tactic| first | ((with_reducible refine' VQ ?e1 ?e2 ?e3 (fun _ _ _ _ _ => ?_)); (case e1 => exact OY rfl); (case e2 => walk_at "dats"); (case e3 => exact rfl)) | fail)
local macro_rules | `(tactic| walk_at "rd1") => `(tactic| first | ((with_reducible refine' Yq ?e ?_); case e => walk_at "lat") | fail)
set_option hygiene false in
local macro_rules | `(tactic| walk_at "rd1") => `(tactic| first | with_reducible refine acp ?_ | fail)
set_option hygiene false in
local macro_rules | `(tactic| walk_at "rd1") => `(tactic| first | with_reducible refine TC ?_ | fail)
local macro_rules | `(tactic| walk_at "rd1") => `(tactic| first | ((with_reducible refine' Vf ?e1 ?e2 ?_); (case e1 => walk_at "dla"); (case e2 => assumption)) | fail)
local macro_rules | `(tactic| walk_at "rd1") => `(tactic| first | ((with_reducible refine' Zm ?e1 (fun _ _ => ?_)); (case e1 => walk_at "dla")) | fail)
local macro_rules | `(tactic| walk_at "rd1") => `(tactic| first | ((with_reducible refine' VS ?e1 ?e2 ?e3 ?e4 (fun _ _ _ => ?_)); (case e1 => walk_at "dla"); (case e3 => walk_at "dat"); (case e2 => walk_at "len"); (case e4 => walk_at "imm")) | fail)
set_option hygiene false in
local macro_rules | `(tactic| walk_at "rd1") => `(tactic| first | with_reducible refine RV ?_ | fail)
set_option hygiene false in
local macro_rules | `(tactic| walk_at "rd1") => `(tactic| first | with_reducible refine WN ?_ | fail)
set_option hygiene false in
local macro_rules | `(tactic| walk_at "rd1") => `(tactic| first | with_reducible refine TV ?_ | fail)
set_option hygiene false in
local macro_rules | `(tactic| walk_at "rd1") => `(tactic| first | with_reducible refine RE ?_ | fail)
set_option hygiene false in
local macro_rules | `(tactic| walk_at "rd1") => `(tactic| first | with_reducible refine W6 (fun _ _ _ _ _ => ?_) | fail)
set_option hygiene false in
local macro_rules | `(tactic| walk_at "rd1") => `(tactic| first | with_reducible refine acT ?_ | fail)
local macro_rules | `(tactic| walk_at "rd1") => `(tactic| first | ((with_reducible refine' PK ?e1 ?e2 ?e3 (fun _ _ _ _ _ => ?_)); (case e1 => walk_at "lat"); (case e2 => walk_at "lat"); (case e3 => walk_at "len")) | fail)
local macro_rules | `(tactic| walk_at "rd1") => `(tactic| first | ((with_reducible refine' T6 ?e1 ?e2 (fun _ _ _ _ _ _ _ _ => ?_)); (case e1 => walk_at "dat"); (case e2 => walk_at "len")) | fail)
set_option hygiene false in
local macro_rules | `(tactic| walk_at "rd1") => `(tactic| fail)
set_option hygiene false in
local macro_rules | `(tactic| walk_at "rd1") => `(tactic| fail)
local macro_rules | `(tactic| walk_at "rd1") => `(tactic| first | ((with_reducible refine' Ts ?e1 ?_); (case e1 => walk_at "dla")) | fail)
set_option hygiene false in
local macro_rules | `(tactic| walk_at "rd1") => `(tactic| first | with_reducible refine QD ?_ | fail)
set_option hygiene false in
local macro_rules | `(tactic| walk_at "rd1") => `(tactic| first | with_reducible refine Tb ?_ | fail)
set_option hygiene false in
local macro_rules | `(tactic| walk_at "rd1") => `(tactic| fail)
def top (i : Nat) : Stmt := PySem.Challenge.pw_wakefew_k56_moved_and_put_off.main.body.getD i (.Pass ⟨0, 0, 0, 0⟩)
set_option hygiene false in
local macro_rules | `(tactic| walk_at "scp") => `(tactic| exact ⟨rfl, rfl, rfl, by decide +kernel, rfl, by decide +kernel, by decide +kernel⟩)
abbrev il : Stmt := inClass (top 2) 0
theorem BJ : aq ["self", "name", "rule", "weight", "home", "by_day"] ["self", "name", "rule", "weight", "home", "by_day"] (ak il) := by walk_at "scp"
abbrev vO : Stmt := inClass (top 2) 1
theorem Hr : aq ["self", "shift"] ["self", "shift"] (ak vO) := by walk_at "scp"
abbrev ke : Stmt := inClass (top 2) 2
theorem Dt : aq ["self"] ["self"] (ak ke) := by walk_at "scp"
abbrev fZ : Stmt := inClass (top 2) 3
theorem y8 : aq ["self"] ["self"] (ak fZ) := by walk_at "scp"
abbrev iH : Stmt := inClass (top 2) 5
theorem eK : aq ["self", "shown", "low", "last", "place"] ["self", "shown"] (ak iH) := by walk_at "scp"
abbrev vk : Stmt := inClass (top 2) 6
theorem A0 : aq ["self", "now", "shift", "lead"] ["self", "now", "shift"] (ak vk) := by walk_at "scp"
abbrev ug : Stmt := inClass (top 2) 7
theorem G8 : aq ["self"] ["self"] (ak ug) := by walk_at "scp"
abbrev vJ : Stmt := inClass (top 2) 8
theorem Gu : aq ["self", "first", "last"] ["self", "first", "last"] (ak vJ) := by walk_at "scp"
abbrev pM : Stmt := inClass (top 2) 9
theorem Fh : aq ["self"] ["self"] (ak pM) := by walk_at "scp"
abbrev fH : Stmt := inClass (top 17) 0
theorem zc : aq ["self"] ["self"] (ak fH) := by walk_at "scp"
abbrev gy : Stmt := inClass (top 19) 0
theorem AJ : aq ["self", "now"] ["self", "now"] (ak gy) := by walk_at "scp"
abbrev uz : Stmt := inClass (top 19) 1
theorem GW : aq ["self", "name", "time"] ["self", "name", "time"] (ak uz) := by walk_at "scp"
abbrev qm : Stmt := inClass (top 19) 2
theorem xH : aq ["self", "name", "time"] ["self", "name"] (ak qm) := by walk_at "scp"
abbrev mH : Stmt := inClass (top 19) 3
theorem jm : aq ["self", "to", "told", "time", "name"] ["self", "to"] (ak mH) := by walk_at "scp"
abbrev mW : Stmt := inClass (top 19) 4
theorem EA : aq ["self"] ["self"] (ak mW) := by walk_at "scp"
abbrev ip : Stmt := inClass (top 19) 5
theorem BW : aq ["self", "name"] ["self", "name"] (ak ip) := by walk_at "scp"
abbrev eV : Stmt := inClass (top 19) 7
theorem t9 : aq ["self", "name"] ["self", "name"] (ak eV) := by walk_at "scp"
abbrev vt : Stmt := inClass (top 20) 0
theorem GR : aq ["self", "name", "time"] ["self", "name", "time"] (ak vt) := by walk_at "scp"
abbrev uY : Stmt := inClass (top 20) 1
theorem GA : aq ["self", "name", "time"] ["self", "name", "time"] (ak uY) := by walk_at "scp"
abbrev gJ : Stmt := inClass (top 20) 2
theorem Eu : aq ["self", "to"] ["self", "to"] (ak gJ) := by walk_at "scp"
abbrev y7 : Stmt := top 22
theorem IC : aq ["thing"] ["thing"] (ak y7) := by walk_at "scp"
abbrev ik : Stmt := inClass (top 33) 0
theorem Cw : aq ["self", "rounds", "now"] ["self", "rounds", "now"] (ak ik) := by walk_at "scp"
abbrev jO : Stmt := inClass (top 33) 1
theorem Dp : aq ["self", "name"] ["self", "name"] (ak jO) := by walk_at "scp"
abbrev eO : Stmt := inClass (top 33) 2
theorem AF : aq ["self"] ["self"] (ak eO) := by walk_at "scp"
abbrev iI : Stmt := inClass (top 33) 4
theorem B4 : aq ["self", "bell"] ["self", "bell"] (ak iI) := by walk_at "scp"
abbrev iq : Stmt := inClass (top 33) 5
theorem BM : aq ["self", "bell"] ["self", "bell"] (ak iq) := by walk_at "scp"
abbrev ua : Stmt := inClass (top 33) 6
theorem Hc : aq ["self", "bell"] ["self", "bell"] (ak ua) := by walk_at "scp"
abbrev zj : Stmt := inClass (top 33) 7
theorem CW : aq ["self", "bell", "entries"] ["self", "bell"] (ak zj) := by walk_at "scp"
abbrev iD : Stmt := inClass (top 33) 8
theorem Cz : aq ["self", "bell"] ["self", "bell"] (ak iD) := by walk_at "scp"
abbrev kA : Stmt := inClass (top 33) 9
theorem iu : aq ["self", "bells", "entries", "bell"] ["self", "bells"] (ak kA) := by walk_at "scp"
abbrev vq : Stmt := inClass (top 33) 10
theorem G1 : aq ["self", "bell"] ["self", "bell"] (ak vq) := by walk_at "scp"
abbrev mS : Stmt := inClass (top 33) 12
theorem E7 : aq ["self", "bell"] ["self", "bell"] (ak mS) := by walk_at "scp"
abbrev mP : Stmt := inClass (top 33) 14
theorem D9 : aq ["self", "bell"] ["self", "bell"] (ak mP) := by walk_at "scp"
abbrev fP : Stmt := inClass (top 33) 15
theorem DB : aq ["self", "time"] ["self", "time"] (ak fP) := by walk_at "scp"
abbrev fJ : Stmt := inClass (top 36) 0
theorem zl : aq ["self", "rounds", "now"] ["self", "rounds", "now"] (ak fJ) := by walk_at "scp"
abbrev p6 : Stmt := inClass (top 36) 1
theorem yj : aq ["self", "name", "rule", "weight", "group", "by_day", "bell"] ["self", "name", "rule", "weight", "group", "by_day"] (ak p6) := by walk_at "scp"
abbrev m8 : Stmt := inClass (top 36) 2
theorem tZ : aq ["self", "name", "first", "last", "bell"] ["self", "name", "first", "last"] (ak m8) := by walk_at "scp"
abbrev gH : Stmt := inClass (top 36) 3
theorem dU : aq ["self", "name", "by", "number", "first", "last"] ["self", "name", "by"] (ak gH) := by walk_at "scp"
abbrev gP : Stmt := inClass (top 36) 10
theorem Eo : aq ["self", "by"] ["self", "by"] (ak gP) := by walk_at "scp"
abbrev vw : Stmt := inClass (top 36) 12
theorem pP : aq ["self", "to", "most", "deed", "entries", "wakings"] ["self", "to", "most", "deed"] (ak vw) := by walk_at "scp"
abbrev fC : Stmt := inClass (top 36) 13
theorem jS : aq ["self", "to", "least"] ["self", "to"] (ak fC) := by walk_at "scp"
abbrev j6 : Stmt := inClass (top 36) 17
theorem Dr : aq ["self", "name"] ["self", "name"] (ak j6) := by walk_at "scp"
abbrev fO : Stmt := inClass (top 36) 18
theorem Du : aq ["self"] ["self"] (ak fO) := by walk_at "scp"
abbrev qi : Stmt := top 38
theorem Fy : aq ["number", "least", "what"] ["number", "least", "what"] (ak qi) := by walk_at "scp"
abbrev p7 : Stmt := top 39
theorem Fg : aq ["end", "span", "now"] ["end", "span", "now"] (ak p7) := by walk_at "scp"
abbrev iz : Stmt := inClass (top 40) 0
theorem BL : aq ["self", "many"] ["self", "many"] (ak iz) := by walk_at "scp"
abbrev iw : Stmt := inClass (top 40) 6
theorem Cu : aq ["self", "number", "stretch"] ["self", "number", "stretch"] (ak iw) := by walk_at "scp"
abbrev iE : Stmt := inClass (top 41) 0
theorem BR : aq ["self", "start", "step", "wide", "many"] ["self", "start", "step", "wide", "many"] (ak iE) := by walk_at "scp"
abbrev fQ : Stmt := inClass (top 41) 1
theorem kz : aq ["self", "number", "first"] ["self", "number"] (ak fQ) := by walk_at "scp"
abbrev pX : Stmt := inClass (top 41) 2
theorem Fq : aq ["self"] ["self"] (ak pX) := by walk_at "scp"
abbrev mX : Stmt := inClass (top 41) 4
theorem jR : aq ["self", "number", "last", "now", "end", "found"] ["self", "number", "last", "now"] (ak mX) := by walk_at "scp"
abbrev wB : Stmt := inClass (top 41) 6
theorem GZ : aq ["self"] ["self"] (ak wB) := by walk_at "scp"
abbrev jw : Stmt := top 43
theorem Dq : aq ["_law_script", "_law_k"] ["_law_script", "_law_k"] (ak jw) := by walk_at "scp"
abbrev pJ : Stmt := top 44
theorem Fo : aq ["_law_found"] ["_law_found"] (ak pJ) := by walk_at "scp"
abbrev vn : Stmt := top 45
theorem gb : aq ["_law_cell", "_law_k", "_law_number", "_law_word"] ["_law_cell", "_law_k"] (ak vn) := by walk_at "scp"
abbrev pO : Stmt := top 46
theorem mV : aq ["_law_found", "_law_entry", "_law_part"] ["_law_found"] (ak pO) := by walk_at "scp"
abbrev uR : Stmt := top 47
theorem dE : aq ["_law_cell", "_law_k", "_law_by_day", "_law_step", "_law_many", "_law_start"] ["_law_cell", "_law_k"] (ak uR) := by walk_at "scp"
abbrev ki : Stmt := top 48
theorem iJ : aq ["_law_cell", "_law_shown", "_law_first"] ["_law_cell", "_law_shown"] (ak ki) := by walk_at "scp"
abbrev vA : Stmt := top 49
theorem Hn : aq ["_law_keeper", "_law_name_here", "_law_cell", "_law_stretch_here"] ["_law_keeper", "_law_name_here", "_law_cell", "_law_stretch_here"] (ak vA) := by walk_at "scp"
abbrev y9 : Stmt := top 50
theorem lN : aq ["_law_bell_here", "_law_stretch_here", "_law_shown", "_law_end", "_law_number", "_law_first"] ["_law_bell_here", "_law_stretch_here", "_law_shown"] (ak y9) := by walk_at "scp"
abbrev yV : Stmt := top 51
theorem tK : aq ["_law_bell_here", "_law_state", "_law_now", "_law_shift"] ["_law_bell_here", "_law_state", "_law_now"] (ak yV) := by walk_at "scp"
abbrev pK : Stmt := top 52
theorem mQ : aq ["_law_bells", "_law_now", "_law_keeper", "_law_bell_here"] ["_law_bells", "_law_now"] (ak pK) := by walk_at "scp"
abbrev HV : Stmt := top 53
theorem f7 : aq ["_law_script", "_law_now", "_law_bells", "_law_keeper", "_law_rows", "_law_bell_here", "_law_k", "_law_cell", "_law_stretch_here", "_law_due_here", "_law_state", "_law_found"] ["_law_script"] (ak HV) := by walk_at "scp"
theorem zy : ¬ (("name" : Str) = "rule") := by decide +kernel
theorem u3 : ¬ (("name" : Str) = "weight") := by decide +kernel
theorem A7 : ¬ (("name" : Str) = "home") := by decide +kernel
theorem uf : ¬ (("name" : Str) = "by_day") := by decide +kernel
theorem u5 : ¬ (("name" : Str) = "number") := by decide +kernel
theorem rl : ¬ (("name" : Str) = "stretch") := by decide +kernel
theorem yd : ¬ (("name" : Str) = "since") := by decide +kernel
theorem x4 : ¬ (("name" : Str) = "until") := by decide +kernel
theorem zH : ¬ (("rule" : Str) = "name") := by decide +kernel
theorem sX : ¬ (("rule" : Str) = "weight") := by decide +kernel
theorem zW : ¬ (("rule" : Str) = "home") := by decide +kernel
theorem uD : ¬ (("rule" : Str) = "by_day") := by decide +kernel
theorem vv : ¬ (("rule" : Str) = "number") := by decide +kernel
theorem rD : ¬ (("rule" : Str) = "stretch") := by decide +kernel
theorem w6 : ¬ (("rule" : Str) = "since") := by decide +kernel
theorem x5 : ¬ (("rule" : Str) = "until") := by decide +kernel
theorem uB : ¬ (("weight" : Str) = "name") := by decide +kernel
theorem uH : ¬ (("weight" : Str) = "rule") := by decide +kernel
theorem tM : ¬ (("weight" : Str) = "home") := by decide +kernel
theorem ou : ¬ (("weight" : Str) = "by_day") := by decide +kernel
theorem oU : ¬ (("weight" : Str) = "number") := by decide +kernel
theorem my : ¬ (("weight" : Str) = "stretch") := by decide +kernel
theorem q8 : ¬ (("weight" : Str) = "since") := by decide +kernel
theorem sR : ¬ (("weight" : Str) = "until") := by decide +kernel
theorem Aa : ¬ (("home" : Str) = "name") := by decide +kernel
theorem Bm : ¬ (("home" : Str) = "rule") := by decide +kernel
theorem wc : ¬ (("home" : Str) = "weight") := by decide +kernel
theorem vS : ¬ (("home" : Str) = "by_day") := by decide +kernel
theorem ub : ¬ (("home" : Str) = "number") := by decide +kernel
theorem sP : ¬ (("home" : Str) = "stretch") := by decide +kernel
theorem xG : ¬ (("home" : Str) = "since") := by decide +kernel
theorem xh : ¬ (("home" : Str) = "until") := by decide +kernel
theorem tJ : ¬ (("by_day" : Str) = "name") := by decide +kernel
theorem tu : ¬ (("by_day" : Str) = "rule") := by decide +kernel
theorem nD : ¬ (("by_day" : Str) = "weight") := by decide +kernel
theorem uU : ¬ (("by_day" : Str) = "home") := by decide +kernel
theorem oR : ¬ (("by_day" : Str) = "number") := by decide +kernel
theorem lY : ¬ (("by_day" : Str) = "stretch") := by decide +kernel
theorem rJ : ¬ (("by_day" : Str) = "since") := by decide +kernel
theorem sf : ¬ (("by_day" : Str) = "until") := by decide +kernel
theorem vu : ¬ (("number" : Str) = "name") := by decide +kernel
theorem s9 : ¬ (("number" : Str) = "rule") := by decide +kernel
theorem pj : ¬ (("number" : Str) = "weight") := by decide +kernel
theorem vy : ¬ (("number" : Str) = "home") := by decide +kernel
theorem nQ : ¬ (("number" : Str) = "by_day") := by decide +kernel
theorem mK : ¬ (("number" : Str) = "stretch") := by decide +kernel
theorem qE : ¬ (("number" : Str) = "since") := by decide +kernel
theorem rE : ¬ (("number" : Str) = "until") := by decide +kernel
theorem sj : ¬ (("stretch" : Str) = "name") := by decide +kernel
theorem rF : ¬ (("stretch" : Str) = "rule") := by decide +kernel
theorem kZ : ¬ (("stretch" : Str) = "weight") := by decide +kernel
theorem r9 : ¬ (("stretch" : Str) = "home") := by decide +kernel
theorem lW : ¬ (("stretch" : Str) = "by_day") := by decide +kernel
theorem lj : ¬ (("stretch" : Str) = "number") := by decide +kernel
theorem oF : ¬ (("stretch" : Str) = "since") := by decide +kernel
theorem o5 : ¬ (("stretch" : Str) = "until") := by decide +kernel
theorem xY : ¬ (("since" : Str) = "name") := by decide +kernel
theorem yO : ¬ (("since" : Str) = "rule") := by decide +kernel
theorem qA : ¬ (("since" : Str) = "weight") := by decide +kernel
theorem yt : ¬ (("since" : Str) = "home") := by decide +kernel
theorem qY : ¬ (("since" : Str) = "by_day") := by decide +kernel
theorem qP : ¬ (("since" : Str) = "number") := by decide +kernel
theorem oo : ¬ (("since" : Str) = "stretch") := by decide +kernel
theorem vP : ¬ (("since" : Str) = "until") := by decide +kernel
theorem yw : ¬ (("until" : Str) = "name") := by decide +kernel
theorem yG : ¬ (("until" : Str) = "rule") := by decide +kernel
theorem sg : ¬ (("until" : Str) = "weight") := by decide +kernel
theorem yJ : ¬ (("until" : Str) = "home") := by decide +kernel
theorem qw : ¬ (("until" : Str) = "by_day") := by decide +kernel
theorem sQ : ¬ (("until" : Str) = "number") := by decide +kernel
theorem oZ : ¬ (("until" : Str) = "stretch") := by decide +kernel
theorem vf : ¬ (("until" : Str) = "since") := by decide +kernel
theorem nG : ¬ (("__init__" : Str) = "name") := by decide +kernel
theorem nS : ¬ (("__init__" : Str) = "rule") := by decide +kernel
theorem jV : ¬ (("__init__" : Str) = "weight") := by decide +kernel
theorem nM : ¬ (("__init__" : Str) = "home") := by decide +kernel
theorem j9 : ¬ (("__init__" : Str) = "by_day") := by decide +kernel
theorem jy : ¬ (("__init__" : Str) = "number") := by decide +kernel
theorem iY : ¬ (("__init__" : Str) = "stretch") := by decide +kernel
theorem k6 : ¬ (("__init__" : Str) = "since") := by decide +kernel
theorem me : ¬ (("__init__" : Str) = "until") := by decide +kernel
theorem zR : ¬ (("lead" : Str) = "name") := by decide +kernel
theorem Bj : ¬ (("lead" : Str) = "rule") := by decide +kernel
theorem uy : ¬ (("lead" : Str) = "weight") := by decide +kernel
theorem AH : ¬ (("lead" : Str) = "home") := by decide +kernel
theorem uM : ¬ (("lead" : Str) = "by_day") := by decide +kernel
theorem vD : ¬ (("lead" : Str) = "number") := by decide +kernel
theorem su : ¬ (("lead" : Str) = "stretch") := by decide +kernel
theorem wY : ¬ (("lead" : Str) = "since") := by decide +kernel
theorem xT : ¬ (("lead" : Str) = "until") := by decide +kernel
theorem sk : ¬ (("is_over" : Str) = "name") := by decide +kernel
theorem se : ¬ (("is_over" : Str) = "rule") := by decide +kernel
theorem mj : ¬ (("is_over" : Str) = "weight") := by decide +kernel
theorem qv : ¬ (("is_over" : Str) = "home") := by decide +kernel
theorem lQ : ¬ (("is_over" : Str) = "by_day") := by decide +kernel
theorem lM : ¬ (("is_over" : Str) = "number") := by decide +kernel
theorem jZ : ¬ (("is_over" : Str) = "stretch") := by decide +kernel
theorem oi : ¬ (("is_over" : Str) = "since") := by decide +kernel
theorem nZ : ¬ (("is_over" : Str) = "until") := by decide +kernel
theorem jE : ¬ (("is_waiting" : Str) = "name") := by decide +kernel
theorem jX : ¬ (("is_waiting" : Str) = "rule") := by decide +kernel
theorem g6 : ¬ (("is_waiting" : Str) = "weight") := by decide +kernel
theorem jv : ¬ (("is_waiting" : Str) = "home") := by decide +kernel
theorem hU : ¬ (("is_waiting" : Str) = "by_day") := by decide +kernel
theorem ia : ¬ (("is_waiting" : Str) = "number") := by decide +kernel
theorem gx : ¬ (("is_waiting" : Str) = "stretch") := by decide +kernel
theorem i3 : ¬ (("is_waiting" : Str) = "since") := by decide +kernel
theorem iZ : ¬ (("is_waiting" : Str) = "until") := by decide +kernel
theorem wj : ¬ (("settle" : Str) = "name") := by decide +kernel
theorem vg : ¬ (("settle" : Str) = "rule") := by decide +kernel
theorem pB : ¬ (("settle" : Str) = "weight") := by decide +kernel
theorem uG : ¬ (("settle" : Str) = "home") := by decide +kernel
theorem nU : ¬ (("settle" : Str) = "by_day") := by decide +kernel
theorem oj : ¬ (("settle" : Str) = "number") := by decide +kernel
theorem lC : ¬ (("settle" : Str) = "stretch") := by decide +kernel
theorem qy : ¬ (("settle" : Str) = "since") := by decide +kernel
theorem qV : ¬ (("settle" : Str) = "until") := by decide +kernel
theorem nN : ¬ (("catch_up" : Str) = "name") := by decide +kernel
theorem oW : ¬ (("catch_up" : Str) = "rule") := by decide +kernel
theorem kl : ¬ (("catch_up" : Str) = "weight") := by decide +kernel
theorem nA : ¬ (("catch_up" : Str) = "home") := by decide +kernel
theorem kg : ¬ (("catch_up" : Str) = "by_day") := by decide +kernel
theorem kn : ¬ (("catch_up" : Str) = "number") := by decide +kernel
theorem i7 : ¬ (("catch_up" : Str) = "stretch") := by decide +kernel
theorem mL : ¬ (("catch_up" : Str) = "since") := by decide +kernel
theorem kY : ¬ (("catch_up" : Str) = "until") := by decide +kernel
theorem zI : ¬ (("wait" : Str) = "name") := by decide +kernel
theorem Bc : ¬ (("wait" : Str) = "rule") := by decide +kernel
theorem ti : ¬ (("wait" : Str) = "weight") := by decide +kernel
theorem Ah : ¬ (("wait" : Str) = "home") := by decide +kernel
theorem uX : ¬ (("wait" : Str) = "by_day") := by decide +kernel
theorem wu : ¬ (("wait" : Str) = "number") := by decide +kernel
theorem rh : ¬ (("wait" : Str) = "stretch") := by decide +kernel
theorem yi : ¬ (("wait" : Str) = "since") := by decide +kernel
theorem yo : ¬ (("wait" : Str) = "until") := by decide +kernel
theorem zD : ¬ (("rest" : Str) = "name") := by decide +kernel
theorem AG : ¬ (("rest" : Str) = "rule") := by decide +kernel
theorem wk : ¬ (("rest" : Str) = "weight") := by decide +kernel
theorem AK : ¬ (("rest" : Str) = "home") := by decide +kernel
theorem wq : ¬ (("rest" : Str) = "by_day") := by decide +kernel
theorem vx : ¬ (("rest" : Str) = "number") := by decide +kernel
theorem sI : ¬ (("rest" : Str) = "stretch") := by decide +kernel
theorem wU : ¬ (("rest" : Str) = "since") := by decide +kernel
theorem yD : ¬ (("rest" : Str) = "until") := by decide +kernel
theorem zt : ¬ (("move" : Str) = "name") := by decide +kernel
theorem Bo : ¬ (("move" : Str) = "rule") := by decide +kernel
theorem vF : ¬ (("move" : Str) = "weight") := by decide +kernel
theorem AU : ¬ (("move" : Str) = "home") := by decide +kernel
theorem t8 : ¬ (("move" : Str) = "by_day") := by decide +kernel
theorem wC : ¬ (("move" : Str) = "number") := by decide +kernel
theorem rM : ¬ (("move" : Str) = "stretch") := by decide +kernel
theorem yu : ¬ (("move" : Str) = "since") := by decide +kernel
theorem x9 : ¬ (("move" : Str) = "until") := by decide +kernel
theorem wR : ¬ (("about" : Str) = "name") := by decide +kernel
theorem xX : ¬ (("about" : Str) = "rule") := by decide +kernel
theorem qO : ¬ (("about" : Str) = "weight") := by decide +kernel
theorem xW : ¬ (("about" : Str) = "home") := by decide +kernel
theorem qH : ¬ (("about" : Str) = "by_day") := by decide +kernel
theorem qM : ¬ (("about" : Str) = "number") := by decide +kernel
theorem ph : ¬ (("about" : Str) = "stretch") := by decide +kernel
theorem uC : ¬ (("about" : Str) = "since") := by decide +kernel
theorem vh : ¬ (("about" : Str) = "until") := by decide +kernel
theorem mq : ¬ (("above_of" : Str) = "marks") := by decide +kernel
theorem kT : ¬ (("marks" : Str) = "above_of") := by decide +kernel
theorem hZ : ¬ (("__init__" : Str) = "above_of") := by decide +kernel
theorem k7 : ¬ (("__init__" : Str) = "marks") := by decide +kernel
theorem sA : ¬ (("add" : Str) = "above_of") := by decide +kernel
theorem Bs : ¬ (("add" : Str) = "marks") := by decide +kernel
theorem qR : ¬ (("has" : Str) = "above_of") := by decide +kernel
theorem Bd : ¬ (("has" : Str) = "marks") := by decide +kernel
theorem mF : ¬ (("sleep" : Str) = "above_of") := by decide +kernel
theorem sY : ¬ (("sleep" : Str) = "marks") := by decide +kernel
theorem oC : ¬ (("wake" : Str) = "above_of") := by decide +kernel
theorem xS : ¬ (("wake" : Str) = "marks") := by decide +kernel
theorem sE : ¬ (("end" : Str) = "above_of") := by decide +kernel
theorem zG : ¬ (("end" : Str) = "marks") := by decide +kernel
theorem kU : ¬ (("awake" : Str) = "above_of") := by decide +kernel
theorem tE : ¬ (("awake" : Str) = "marks") := by decide +kernel
theorem ka : ¬ (("marked" : Str) = "above_of") := by decide +kernel
theorem sF : ¬ (("marked" : Str) = "marks") := by decide +kernel
theorem lF : ¬ (("chain" : Str) = "above_of") := by decide +kernel
theorem uh : ¬ (("chain" : Str) = "marks") := by decide +kernel
theorem j0 : ¬ (("within" : Str) = "above_of") := by decide +kernel
theorem sG : ¬ (("within" : Str) = "marks") := by decide +kernel
theorem jH : ¬ (("all_of" : Str) = "above_of") := by decide +kernel
theorem sN : ¬ (("all_of" : Str) = "marks") := by decide +kernel
theorem fg : ¬ (("check_stands" : Str) = "above_of") := by decide +kernel
theorem gu : ¬ (("check_stands" : Str) = "marks") := by decide +kernel
theorem g0 : ¬ (("depth_of" : Str) = "above_of") := by decide +kernel
theorem mM : ¬ (("depth_of" : Str) = "marks") := by decide +kernel
theorem eZ : ¬ (("awake_within" : Str) = "above_of") := by decide +kernel
theorem gw : ¬ (("awake_within" : Str) = "marks") := by decide +kernel
theorem j4 : ¬ (("unmark" : Str) = "above_of") := by decide +kernel
theorem qt : ¬ (("unmark" : Str) = "marks") := by decide +kernel
theorem As : ¬ (("now" : Str) = "times") := by decide +kernel
theorem Aw : ¬ (("times" : Str) = "now") := by decide +kernel
theorem Bi : ¬ (("enter" : Str) = "now") := by decide +kernel
theorem ui : ¬ (("enter" : Str) = "times") := by decide +kernel
theorem Ax : ¬ (("leave" : Str) = "now") := by decide +kernel
theorem tY : ¬ (("leave" : Str) = "times") := by decide +kernel
theorem va : ¬ (("pass_on" : Str) = "now") := by decide +kernel
theorem oq : ¬ (("pass_on" : Str) = "times") := by decide +kernel
theorem rC : ¬ (("__init__" : Str) = "now") := by decide +kernel
theorem kJ : ¬ (("__init__" : Str) = "times") := by decide +kernel
theorem EE : ¬ (("put" : Str) = "now") := by decide +kernel
theorem Bp : ¬ (("put" : Str) = "times") := by decide +kernel
theorem CD : ¬ (("take" : Str) = "now") := by decide +kernel
theorem yn : ¬ (("take" : Str) = "times") := by decide +kernel
theorem Fb : ¬ (("due" : Str) = "now") := by decide +kernel
theorem Ab : ¬ (("due" : Str) = "times") := by decide +kernel
theorem zT : ¬ (("least" : Str) = "now") := by decide +kernel
theorem tO : ¬ (("least" : Str) = "times") := by decide +kernel
theorem vL : ¬ (("time_of" : Str) = "now") := by decide +kernel
theorem oE : ¬ (("time_of" : Str) = "times") := by decide +kernel
theorem yh : ¬ (("all_of" : Str) = "now") := by decide +kernel
theorem rg : ¬ (("all_of" : Str) = "times") := by decide +kernel
theorem j7 : ¬ (("check_waits" : Str) = "now") := by decide +kernel
theorem g5 : ¬ (("check_waits" : Str) = "times") := by decide +kernel
theorem qo : ¬ (("waits" : Str) = "rounds") := by decide +kernel
theorem AX : ¬ (("waits" : Str) = "now") := by decide +kernel
theorem vI : ¬ (("waits" : Str) = "shift") := by decide +kernel
theorem qN : ¬ (("waits" : Str) = "groups") := by decide +kernel
theorem nL : ¬ (("waits" : Str) = "by_name") := by decide +kernel
theorem rG : ¬ (("rounds" : Str) = "waits") := by decide +kernel
theorem xE : ¬ (("rounds" : Str) = "now") := by decide +kernel
theorem rW : ¬ (("rounds" : Str) = "shift") := by decide +kernel
theorem oS : ¬ (("rounds" : Str) = "groups") := by decide +kernel
theorem lu : ¬ (("rounds" : Str) = "by_name") := by decide +kernel
theorem Bq : ¬ (("now" : Str) = "waits") := by decide +kernel
theorem xm : ¬ (("now" : Str) = "rounds") := by decide +kernel
theorem zx : ¬ (("now" : Str) = "shift") := by decide +kernel
theorem xD : ¬ (("now" : Str) = "groups") := by decide +kernel
theorem uI : ¬ (("now" : Str) = "by_name") := by decide +kernel
theorem tq : ¬ (("shift" : Str) = "waits") := by decide +kernel
theorem qZ : ¬ (("shift" : Str) = "rounds") := by decide +kernel
theorem Av : ¬ (("shift" : Str) = "now") := by decide +kernel
theorem rL : ¬ (("shift" : Str) = "groups") := by decide +kernel
theorem oP : ¬ (("shift" : Str) = "by_name") := by decide +kernel
theorem rO : ¬ (("groups" : Str) = "waits") := by decide +kernel
theorem pC : ¬ (("groups" : Str) = "rounds") := by decide +kernel
theorem yB : ¬ (("groups" : Str) = "now") := by decide +kernel
theorem rm : ¬ (("groups" : Str) = "shift") := by decide +kernel
theorem lh : ¬ (("groups" : Str) = "by_name") := by decide +kernel
theorem pF : ¬ (("by_name" : Str) = "waits") := by decide +kernel
theorem lB : ¬ (("by_name" : Str) = "rounds") := by decide +kernel
theorem tL : ¬ (("by_name" : Str) = "now") := by decide +kernel
theorem oQ : ¬ (("by_name" : Str) = "shift") := by decide +kernel
theorem kN : ¬ (("by_name" : Str) = "groups") := by decide +kernel
theorem mh : ¬ (("__init__" : Str) = "waits") := by decide +kernel
theorem kc : ¬ (("__init__" : Str) = "rounds") := by decide +kernel
theorem kR : ¬ (("__init__" : Str) = "shift") := by decide +kernel
theorem jD : ¬ (("__init__" : Str) = "groups") := by decide +kernel
theorem iR : ¬ (("__init__" : Str) = "by_name") := by decide +kernel
theorem zM : ¬ (("add" : Str) = "waits") := by decide +kernel
theorem xV : ¬ (("add" : Str) = "rounds") := by decide +kernel
theorem D0 : ¬ (("add" : Str) = "now") := by decide +kernel
theorem zz : ¬ (("add" : Str) = "shift") := by decide +kernel
theorem yE : ¬ (("add" : Str) = "groups") := by decide +kernel
theorem tm : ¬ (("add" : Str) = "by_name") := by decide +kernel
theorem xR : ¬ (("move" : Str) = "waits") := by decide +kernel
theorem tG : ¬ (("move" : Str) = "rounds") := by decide +kernel
theorem CM : ¬ (("move" : Str) = "now") := by decide +kernel
theorem yC : ¬ (("move" : Str) = "shift") := by decide +kernel
theorem uW : ¬ (("move" : Str) = "groups") := by decide +kernel
theorem rp : ¬ (("move" : Str) = "by_name") := by decide +kernel
theorem oA : ¬ (("put_off" : Str) = "waits") := by decide +kernel
theorem lK : ¬ (("put_off" : Str) = "rounds") := by decide +kernel
theorem uk : ¬ (("put_off" : Str) = "now") := by decide +kernel
theorem og : ¬ (("put_off" : Str) = "shift") := by decide +kernel
theorem kH : ¬ (("put_off" : Str) = "groups") := by decide +kernel
theorem jz : ¬ (("put_off" : Str) = "by_name") := by decide +kernel
theorem qK : ¬ (("let_by" : Str) = "waits") := by decide +kernel
theorem nX : ¬ (("let_by" : Str) = "rounds") := by decide +kernel
theorem yr : ¬ (("let_by" : Str) = "now") := by decide +kernel
theorem ri : ¬ (("let_by" : Str) = "shift") := by decide +kernel
theorem nO : ¬ (("let_by" : Str) = "groups") := by decide +kernel
theorem lL : ¬ (("let_by" : Str) = "by_name") := by decide +kernel
theorem xI : ¬ (("take" : Str) = "waits") := by decide +kernel
theorem um : ¬ (("take" : Str) = "rounds") := by decide +kernel
theorem xJ : ¬ (("take" : Str) = "shift") := by decide +kernel
theorem vQ : ¬ (("take" : Str) = "groups") := by decide +kernel
theorem qU : ¬ (("take" : Str) = "by_name") := by decide +kernel
theorem wo : ¬ (("group" : Str) = "waits") := by decide +kernel
theorem rk : ¬ (("group" : Str) = "rounds") := by decide +kernel
theorem zV : ¬ (("group" : Str) = "now") := by decide +kernel
theorem v9 : ¬ (("group" : Str) = "shift") := by decide +kernel
theorem sL : ¬ (("group" : Str) = "groups") := by decide +kernel
theorem n9 : ¬ (("group" : Str) = "by_name") := by decide +kernel
theorem ux : ¬ (("sleep" : Str) = "waits") := by decide +kernel
theorem qq : ¬ (("sleep" : Str) = "rounds") := by decide +kernel
theorem z0 : ¬ (("sleep" : Str) = "now") := by decide +kernel
theorem vZ : ¬ (("sleep" : Str) = "shift") := by decide +kernel
theorem qL : ¬ (("sleep" : Str) = "groups") := by decide +kernel
theorem nC : ¬ (("sleep" : Str) = "by_name") := by decide +kernel
theorem yI : ¬ (("wake" : Str) = "waits") := by decide +kernel
theorem uE : ¬ (("wake" : Str) = "rounds") := by decide +kernel
theorem C8 : ¬ (("wake" : Str) = "now") := by decide +kernel
theorem xg : ¬ (("wake" : Str) = "shift") := by decide +kernel
theorem vY : ¬ (("wake" : Str) = "groups") := by decide +kernel
theorem rK : ¬ (("wake" : Str) = "by_name") := by decide +kernel
theorem zK : ¬ (("end" : Str) = "waits") := by decide +kernel
theorem yx : ¬ (("end" : Str) = "rounds") := by decide +kernel
theorem DW : ¬ (("end" : Str) = "now") := by decide +kernel
theorem A8 : ¬ (("end" : Str) = "shift") := by decide +kernel
theorem xN : ¬ (("end" : Str) = "groups") := by decide +kernel
theorem vN : ¬ (("end" : Str) = "by_name") := by decide +kernel
theorem w9 : ¬ (("turn" : Str) = "waits") := by decide +kernel
theorem tj : ¬ (("turn" : Str) = "rounds") := by decide +kernel
theorem CT : ¬ (("turn" : Str) = "now") := by decide +kernel
theorem xr : ¬ (("turn" : Str) = "shift") := by decide +kernel
theorem t5 : ¬ (("turn" : Str) = "groups") := by decide +kernel
theorem r6 : ¬ (("turn" : Str) = "by_name") := by decide +kernel
theorem ym : ¬ (("idle" : Str) = "waits") := by decide +kernel
theorem u6 : ¬ (("idle" : Str) = "rounds") := by decide +kernel
theorem De : ¬ (("idle" : Str) = "now") := by decide +kernel
theorem yb : ¬ (("idle" : Str) = "shift") := by decide +kernel
theorem tI : ¬ (("idle" : Str) = "groups") := by decide +kernel
theorem rN : ¬ (("idle" : Str) = "by_name") := by decide +kernel
theorem CV : ¬ (("go" : Str) = "waits") := by decide +kernel
theorem z9 : ¬ (("go" : Str) = "rounds") := by decide +kernel
theorem FN : ¬ (("go" : Str) = "now") := by decide +kernel
theorem Dh : ¬ (("go" : Str) = "shift") := by decide +kernel
theorem Br : ¬ (("go" : Str) = "groups") := by decide +kernel
theorem yg : ¬ (("go" : Str) = "by_name") := by decide +kernel
theorem mx : ¬ (("wakes_by" : Str) = "waits") := by decide +kernel
theorem kE : ¬ (("wakes_by" : Str) = "rounds") := by decide +kernel
theorem rT : ¬ (("wakes_by" : Str) = "now") := by decide +kernel
theorem ml : ¬ (("wakes_by" : Str) = "shift") := by decide +kernel
theorem jT : ¬ (("wakes_by" : Str) = "groups") := by decide +kernel
theorem ja : ¬ (("wakes_by" : Str) = "by_name") := by decide +kernel
theorem lH : ¬ (("ring_all" : Str) = "waits") := by decide +kernel
theorem kj : ¬ (("ring_all" : Str) = "rounds") := by decide +kernel
theorem rA : ¬ (("ring_all" : Str) = "now") := by decide +kernel
theorem mw : ¬ (("ring_all" : Str) = "shift") := by decide +kernel
theorem jI : ¬ (("ring_all" : Str) = "groups") := by decide +kernel
theorem iU : ¬ (("ring_all" : Str) = "by_name") := by decide +kernel
theorem xC : ¬ (("ring" : Str) = "waits") := by decide +kernel
theorem vH : ¬ (("ring" : Str) = "rounds") := by decide +kernel
theorem C4 : ¬ (("ring" : Str) = "now") := by decide +kernel
theorem yy : ¬ (("ring" : Str) = "shift") := by decide +kernel
theorem uK : ¬ (("ring" : Str) = "groups") := by decide +kernel
theorem rS : ¬ (("ring" : Str) = "by_name") := by decide +kernel
theorem u0 : ¬ (("bells" : Str) = "waits") := by decide +kernel
theorem rn : ¬ (("bells" : Str) = "rounds") := by decide +kernel
theorem zU : ¬ (("bells" : Str) = "now") := by decide +kernel
theorem wD : ¬ (("bells" : Str) = "shift") := by decide +kernel
theorem sS : ¬ (("bells" : Str) = "groups") := by decide +kernel
theorem pz : ¬ (("bells" : Str) = "by_name") := by decide +kernel
theorem uv : ¬ (("about" : Str) = "waits") := by decide +kernel
theorem sD : ¬ (("about" : Str) = "rounds") := by decide +kernel
theorem Ao : ¬ (("about" : Str) = "now") := by decide +kernel
theorem ve : ¬ (("about" : Str) = "shift") := by decide +kernel
theorem sJ : ¬ (("about" : Str) = "groups") := by decide +kernel
theorem oN : ¬ (("about" : Str) = "by_name") := by decide +kernel
theorem tQ : ¬ (("known" : Str) = "waits") := by decide +kernel
theorem sT : ¬ (("known" : Str) = "rounds") := by decide +kernel
theorem Bh : ¬ (("known" : Str) = "now") := by decide +kernel
theorem vK : ¬ (("known" : Str) = "shift") := by decide +kernel
theorem rR : ¬ (("known" : Str) = "groups") := by decide +kernel
theorem nK : ¬ (("known" : Str) = "by_name") := by decide +kernel
theorem tH : ¬ (("ahead" : Str) = "waits") := by decide +kernel
theorem sO : ¬ (("ahead" : Str) = "rounds") := by decide +kernel
theorem A3 : ¬ (("ahead" : Str) = "now") := by decide +kernel
theorem vG : ¬ (("ahead" : Str) = "shift") := by decide +kernel
theorem sH : ¬ (("ahead" : Str) = "groups") := by decide +kernel
theorem oY : ¬ (("ahead" : Str) = "by_name") := by decide +kernel
theorem nz : ¬ (("bell_of" : Str) = "waits") := by decide +kernel
theorem lD : ¬ (("bell_of" : Str) = "rounds") := by decide +kernel
theorem uj : ¬ (("bell_of" : Str) = "now") := by decide +kernel
theorem oH : ¬ (("bell_of" : Str) = "shift") := by decide +kernel
theorem lq : ¬ (("bell_of" : Str) = "groups") := by decide +kernel
theorem jM : ¬ (("bell_of" : Str) = "by_name") := by decide +kernel
theorem ku : ¬ (("all_bells" : Str) = "waits") := by decide +kernel
theorem i5 : ¬ (("all_bells" : Str) = "rounds") := by decide +kernel
theorem pd : ¬ (("all_bells" : Str) = "now") := by decide +kernel
theorem jL : ¬ (("all_bells" : Str) = "shift") := by decide +kernel
theorem iX : ¬ (("all_bells" : Str) = "groups") := by decide +kernel
theorem g7 : ¬ (("all_bells" : Str) = "by_name") := by decide +kernel
theorem mz : ¬ (("bells_in" : Str) = "waits") := by decide +kernel
theorem jQ : ¬ (("bells_in" : Str) = "rounds") := by decide +kernel
theorem qD : ¬ (("bells_in" : Str) = "now") := by decide +kernel
theorem lI : ¬ (("bells_in" : Str) = "shift") := by decide +kernel
theorem jN : ¬ (("bells_in" : Str) = "groups") := by decide +kernel
theorem iQ : ¬ (("bells_in" : Str) = "by_name") := by decide +kernel
theorem lR : ¬ (("is_awake" : Str) = "waits") := by decide +kernel
theorem j5 : ¬ (("is_awake" : Str) = "rounds") := by decide +kernel
theorem qW : ¬ (("is_awake" : Str) = "now") := by decide +kernel
theorem lE : ¬ (("is_awake" : Str) = "shift") := by decide +kernel
theorem jK : ¬ (("is_awake" : Str) = "groups") := by decide +kernel
theorem iW : ¬ (("is_awake" : Str) = "by_name") := by decide +kernel
theorem lO : ¬ (("shown_to" : Str) = "waits") := by decide +kernel
theorem jW : ¬ (("shown_to" : Str) = "rounds") := by decide +kernel
theorem qG : ¬ (("shown_to" : Str) = "now") := by decide +kernel
theorem mr : ¬ (("shown_to" : Str) = "shift") := by decide +kernel
theorem jB : ¬ (("shown_to" : Str) = "groups") := by decide +kernel
theorem iP : ¬ (("shown_to" : Str) = "by_name") := by decide +kernel
theorem xP : ¬ (("hang" : Str) = "waits") := by decide +kernel
theorem uo : ¬ (("hang" : Str) = "rounds") := by decide +kernel
theorem C2 : ¬ (("hang" : Str) = "now") := by decide +kernel
theorem yH : ¬ (("hang" : Str) = "shift") := by decide +kernel
theorem uF : ¬ (("hang" : Str) = "groups") := by decide +kernel
theorem qF : ¬ (("hang" : Str) = "by_name") := by decide +kernel
theorem zF : ¬ (("lay" : Str) = "waits") := by decide +kernel
theorem yq : ¬ (("lay" : Str) = "rounds") := by decide +kernel
theorem Er : ¬ (("lay" : Str) = "now") := by decide +kernel
theorem AY : ¬ (("lay" : Str) = "shift") := by decide +kernel
theorem xi : ¬ (("lay" : Str) = "groups") := by decide +kernel
theorem tD : ¬ (("lay" : Str) = "by_name") := by decide +kernel
theorem kW : ¬ (("let_wait" : Str) = "waits") := by decide +kernel
theorem j3 : ¬ (("let_wait" : Str) = "rounds") := by decide +kernel
theorem qX : ¬ (("let_wait" : Str) = "now") := by decide +kernel
theorem mO : ¬ (("let_wait" : Str) = "shift") := by decide +kernel
theorem km : ¬ (("let_wait" : Str) = "groups") := by decide +kernel
theorem iV : ¬ (("let_wait" : Str) = "by_name") := by decide +kernel
theorem oz : ¬ (("lay_all" : Str) = "waits") := by decide +kernel
theorem kP : ¬ (("lay_all" : Str) = "rounds") := by decide +kernel
theorem vB : ¬ (("lay_all" : Str) = "now") := by decide +kernel
theorem pE : ¬ (("lay_all" : Str) = "shift") := by decide +kernel
theorem mI : ¬ (("lay_all" : Str) = "groups") := by decide +kernel
theorem ky : ¬ (("lay_all" : Str) = "by_name") := by decide +kernel
theorem xM : ¬ (("lift" : Str) = "waits") := by decide +kernel
theorem uS : ¬ (("lift" : Str) = "rounds") := by decide +kernel
theorem Dj : ¬ (("lift" : Str) = "now") := by decide +kernel
theorem yN : ¬ (("lift" : Str) = "shift") := by decide +kernel
theorem vl : ¬ (("lift" : Str) = "groups") := by decide +kernel
theorem rU : ¬ (("lift" : Str) = "by_name") := by decide +kernel
theorem rX : ¬ (("settle" : Str) = "waits") := by decide +kernel
theorem px : ¬ (("settle" : Str) = "rounds") := by decide +kernel
theorem xA : ¬ (("settle" : Str) = "now") := by decide +kernel
theorem ro : ¬ (("settle" : Str) = "shift") := by decide +kernel
theorem om : ¬ (("settle" : Str) = "groups") := by decide +kernel
theorem mm : ¬ (("settle" : Str) = "by_name") := by decide +kernel
theorem qT : ¬ (("finish" : Str) = "waits") := by decide +kernel
theorem nY : ¬ (("finish" : Str) = "rounds") := by decide +kernel
theorem yk : ¬ (("finish" : Str) = "now") := by decide +kernel
theorem rB : ¬ (("finish" : Str) = "shift") := by decide +kernel
theorem nJ : ¬ (("finish" : Str) = "groups") := by decide +kernel
theorem lr : ¬ (("finish" : Str) = "by_name") := by decide +kernel
theorem yA : ¬ (("drop" : Str) = "waits") := by decide +kernel
theorem uL : ¬ (("drop" : Str) = "rounds") := by decide +kernel
theorem Df : ¬ (("drop" : Str) = "now") := by decide +kernel
theorem xa : ¬ (("drop" : Str) = "shift") := by decide +kernel
theorem vd : ¬ (("drop" : Str) = "groups") := by decide +kernel
theorem sx : ¬ (("drop" : Str) = "by_name") := by decide +kernel
theorem sC : ¬ (("remove" : Str) = "waits") := by decide +kernel
theorem oG : ¬ (("remove" : Str) = "rounds") := by decide +kernel
theorem xU : ¬ (("remove" : Str) = "now") := by decide +kernel
theorem rj : ¬ (("remove" : Str) = "shift") := by decide +kernel
theorem pk : ¬ (("remove" : Str) = "groups") := by decide +kernel
theorem lg : ¬ (("remove" : Str) = "by_name") := by decide +kernel
theorem nP : ¬ (("pass_to" : Str) = "waits") := by decide +kernel
theorem ly : ¬ (("pass_to" : Str) = "rounds") := by decide +kernel
theorem tS : ¬ (("pass_to" : Str) = "now") := by decide +kernel
theorem nR : ¬ (("pass_to" : Str) = "shift") := by decide +kernel
theorem lz : ¬ (("pass_to" : Str) = "groups") := by decide +kernel
theorem kD : ¬ (("pass_to" : Str) = "by_name") := by decide +kernel
theorem yQ : ¬ (("many" : Str) = "start") := by decide +kernel
theorem z8 : ¬ (("many" : Str) = "step") := by decide +kernel
theorem Bg : ¬ (("many" : Str) = "wide") := by decide +kernel
theorem w5 : ¬ (("start" : Str) = "many") := by decide +kernel
theorem yM : ¬ (("start" : Str) = "step") := by decide +kernel
theorem wZ : ¬ (("start" : Str) = "wide") := by decide +kernel
theorem zu : ¬ (("step" : Str) = "many") := by decide +kernel
theorem xO : ¬ (("step" : Str) = "start") := by decide +kernel
theorem zP : ¬ (("step" : Str) = "wide") := by decide +kernel
theorem zE : ¬ (("wide" : Str) = "many") := by decide +kernel
theorem ye : ¬ (("wide" : Str) = "start") := by decide +kernel
theorem AI : ¬ (("wide" : Str) = "step") := by decide +kernel
theorem o6 : ¬ (("__init__" : Str) = "many") := by decide +kernel
theorem k8 : ¬ (("__init__" : Str) = "start") := by decide +kernel
theorem o7 : ¬ (("__init__" : Str) = "step") := by decide +kernel
theorem oK : ¬ (("__init__" : Str) = "wide") := by decide +kernel
theorem jA : ¬ (("stretch_of" : Str) = "many") := by decide +kernel
theorem i6 : ¬ (("stretch_of" : Str) = "start") := by decide +kernel
theorem ju : ¬ (("stretch_of" : Str) = "step") := by decide +kernel
theorem jG : ¬ (("stretch_of" : Str) = "wide") := by decide +kernel
theorem yc : ¬ (("begin" : Str) = "many") := by decide +kernel
theorem vo : ¬ (("begin" : Str) = "start") := by decide +kernel
theorem wX : ¬ (("begin" : Str) = "step") := by decide +kernel
theorem xo : ¬ (("begin" : Str) = "wide") := by decide +kernel
theorem vM : ¬ (("follow" : Str) = "many") := by decide +kernel
theorem qz : ¬ (("follow" : Str) = "start") := by decide +kernel
theorem uq : ¬ (("follow" : Str) = "step") := by decide +kernel
theorem we : ¬ (("follow" : Str) = "wide") := by decide +kernel
theorem vj : ¬ (("let_by" : Str) = "many") := by decide +kernel
theorem qI : ¬ (("let_by" : Str) = "start") := by decide +kernel
theorem tV : ¬ (("let_by" : Str) = "step") := by decide +kernel
theorem tP : ¬ (("let_by" : Str) = "wide") := by decide +kernel
theorem yl : ¬ (("words" : Str) = "many") := by decide +kernel
theorem vz : ¬ (("words" : Str) = "start") := by decide +kernel
theorem yf : ¬ (("words" : Str) = "step") := by decide +kernel
theorem yK : ¬ (("words" : Str) = "wide") := by decide +kernel
theorem zN : ¬ (("twin" : Str) = "many") := by decide +kernel
theorem ya : ¬ (("twin" : Str) = "start") := by decide +kernel
theorem Bb : ¬ (("twin" : Str) = "step") := by decide +kernel
theorem Bl : ¬ (("twin" : Str) = "wide") := by decide +kernel
theorem oh : ¬ (("place_of" : Str) = "many") := by decide +kernel
theorem lJ : ¬ (("place_of" : Str) = "start") := by decide +kernel
theorem pA : ¬ (("place_of" : Str) = "step") := by decide +kernel
theorem nV : ¬ (("place_of" : Str) = "wide") := by decide +kernel
set_option hygiene false in
local macro_rules | `(tactic| walk_at "lk") => `(tactic| first | (rw [CZ]; ((conv => lhs; simp only [look, reduceIte, LO, zy, u3, A7, uf, u5, rl, yd, x4, zH, sX, zW, uD, vv, rD, w6, x5, uB, uH, tM, ou, oU, my, q8, sR, Aa, Bm, wc, vS, ub, sP, xG, xh, tJ, tu, nD, uU, oR, lY, rJ, sf, vu, s9, pj, vy, nQ, mK, qE, rE, sj, rF, kZ, r9, lW, lj, oF, o5, xY, yO, qA, yt, qY, qP, oo, vP, yw, yG, sg, yJ, qw, sQ, oZ, vf, nG, nS, jV, nM, j9, jy, iY, k6, me, zR, Bj, uy, AH, uM, vD, su, wY, xT, sk, se, mj, qv, lQ, lM, jZ, oi, nZ, jE, jX, g6, jv, hU, ia, gx, i3, iZ, wj, vg, pB, uG, nU, oj, lC, qy, qV, nN, oW, kl, nA, kg, kn, i7, mL, kY, zI, Bc, ti, Ah, uX, wu, rh, yi, yo, zD, AG, wk, AK, wq, vx, sI, wU, yD, zt, Bo, vF, AU, t8, wC, rM, yu, x9, wR, xX, qO, xW, qH, qM, ph, uC, vh, mq, kT, hZ, k7, sA, Bs, qR, Bd, mF, sY, oC, xS, sE, zG, kU, tE, ka, sF, lF, uh, j0, sG, jH, sN, fg, gu, g0, mM, eZ, gw, j4, qt, As, Aw, Bi, ui, Ax, tY, va, oq, rC, kJ, EE, Bp, CD, yn, Fb, Ab, zT, tO, vL, oE, yh, rg, j7, g5, qo, AX, vI, qN, nL, rG, xE, rW, oS, lu, Bq, xm, zx, xD, uI, tq, qZ, Av, rL, oP, rO, pC, yB, rm, lh, pF, lB, tL, oQ, kN, mh, kc, kR, jD, iR, zM, xV, D0, zz, yE, tm, xR, tG, CM, yC, uW, rp, oA, lK, uk, og, kH, jz, qK, nX, yr, ri, nO, lL, xI, um, xJ, vQ, qU, wo, rk, zV, v9, sL, n9, ux, qq, z0, vZ, qL, nC, yI, uE, C8, xg, vY, rK, zK, yx, DW, A8, xN, vN, w9, tj, CT, xr, t5, r6, ym, u6, De, yb, tI, rN, CV, z9, FN, Dh, Br, yg, mx, kE, rT, ml, jT, ja, lH, kj, rA, mw, jI, iU, xC, vH, C4, yy, uK, rS, u0, rn, zU, wD, sS, pz, uv, sD, Ao, ve, sJ, oN, tQ, sT, Bh, vK, rR, nK, tH, sO, A3, vG, sH, oY, nz, lD, uj, oH, lq, jM, ku, i5, pd, jL, iX, g7, mz, jQ, qD, lI, jN, iQ, lR, j5, qW, lE, jK, iW, lO, jW, qG, mr, jB, iP, xP, uo, C2, yH, uF, qF, zF, yq, Er, AY, xi, tD, kW, j3, qX, mO, km, iV, oz, kP, vB, pE, mI, ky, xM, uS, Dj, yN, vl, rU, rX, px, xA, ro, om, mm, qT, nY, yk, rB, nJ, lr, yA, uL, Df, xa, vd, sx, sC, oG, xU, rj, pk, lg, nP, ly, tS, nR, lz, kD, yQ, z8, Bg, w5, yM, wZ, zu, xO, zP, zE, ye, AI, o6, k8, o7, oK, jA, i6, ju, jG, yc, vo, wX, xo, vM, qz, uq, we, vj, qI, tV, tP, yl, vz, yf, yK, zN, ya, Bb, Bl, oh, lJ, pA, nV]) <;> exact rfl)) | fail)
set_option hygiene false in
local macro_rules | `(tactic| walk_at "lk") => `(tactic| first | assumption | fail)
set_option hygiene false in
local macro_rules | `(tactic| walk_at "put") => `(tactic| ((conv => lhs; simp only [pe, reduceIte, LO, zy, u3, A7, uf, u5, rl, yd, x4, zH, sX, zW, uD, vv, rD, w6, x5, uB, uH, tM, ou, oU, my, q8, sR, Aa, Bm, wc, vS, ub, sP, xG, xh, tJ, tu, nD, uU, oR, lY, rJ, sf, vu, s9, pj, vy, nQ, mK, qE, rE, sj, rF, kZ, r9, lW, lj, oF, o5, xY, yO, qA, yt, qY, qP, oo, vP, yw, yG, sg, yJ, qw, sQ, oZ, vf, nG, nS, jV, nM, j9, jy, iY, k6, me, zR, Bj, uy, AH, uM, vD, su, wY, xT, sk, se, mj, qv, lQ, lM, jZ, oi, nZ, jE, jX, g6, jv, hU, ia, gx, i3, iZ, wj, vg, pB, uG, nU, oj, lC, qy, qV, nN, oW, kl, nA, kg, kn, i7, mL, kY, zI, Bc, ti, Ah, uX, wu, rh, yi, yo, zD, AG, wk, AK, wq, vx, sI, wU, yD, zt, Bo, vF, AU, t8, wC, rM, yu, x9, wR, xX, qO, xW, qH, qM, ph, uC, vh, mq, kT, hZ, k7, sA, Bs, qR, Bd, mF, sY, oC, xS, sE, zG, kU, tE, ka, sF, lF, uh, j0, sG, jH, sN, fg, gu, g0, mM, eZ, gw, j4, qt, As, Aw, Bi, ui, Ax, tY, va, oq, rC, kJ, EE, Bp, CD, yn, Fb, Ab, zT, tO, vL, oE, yh, rg, j7, g5, qo, AX, vI, qN, nL, rG, xE, rW, oS, lu, Bq, xm, zx, xD, uI, tq, qZ, Av, rL, oP, rO, pC, yB, rm, lh, pF, lB, tL, oQ, kN, mh, kc, kR, jD, iR, zM, xV, D0, zz, yE, tm, xR, tG, CM, yC, uW, rp, oA, lK, uk, og, kH, jz, qK, nX, yr, ri, nO, lL, xI, um, xJ, vQ, qU, wo, rk, zV, v9, sL, n9, ux, qq, z0, vZ, qL, nC, yI, uE, C8, xg, vY, rK, zK, yx, DW, A8, xN, vN, w9, tj, CT, xr, t5, r6, ym, u6, De, yb, tI, rN, CV, z9, FN, Dh, Br, yg, mx, kE, rT, ml, jT, ja, lH, kj, rA, mw, jI, iU, xC, vH, C4, yy, uK, rS, u0, rn, zU, wD, sS, pz, uv, sD, Ao, ve, sJ, oN, tQ, sT, Bh, vK, rR, nK, tH, sO, A3, vG, sH, oY, nz, lD, uj, oH, lq, jM, ku, i5, pd, jL, iX, g7, mz, jQ, qD, lI, jN, iQ, lR, j5, qW, lE, jK, iW, lO, jW, qG, mr, jB, iP, xP, uo, C2, yH, uF, qF, zF, yq, Er, AY, xi, tD, kW, j3, qX, mO, km, iV, oz, kP, vB, pE, mI, ky, xM, uS, Dj, yN, vl, rU, rX, px, xA, ro, om, mm, qT, nY, yk, rB, nJ, lr, yA, uL, Df, xa, vd, sx, sC, oG, xU, rj, pk, lg, nP, ly, tS, nR, lz, kD, yQ, z8, Bg, w5, yM, wZ, zu, xO, zP, zE, ye, AI, o6, k8, o7, oK, jA, i6, ju, jG, yc, vo, wX, xo, vM, qz, uq, we, vj, qI, tV, tP, yl, vz, yf, yK, zN, ya, Bb, Bl, oh, lJ, pA, nV]) <;> exact rfl))
structure A2 (K : PySem.W.Frag) (x q : Str) (s : Stmt) (d : Value) (f : Addr) : Prop where
 a : PySem.W.nsIn K mainGlobals x = some (some (.ref f))
 l : ∃ fd, aW K x q s f d fd
 k : PySem.W.keepIn K (.ref f) = true
structure cg (K : PySem.W.Frag) (C : Addr) (x q : Str) (s : Stmt) (d : Value) (f : Addr) : Prop where
 a : PySem.W.findIn K (.ref C) x = some (some (.ref f))
 l : ∃ fd, aW K x q s f d fd
 k : PySem.W.keepIn K (.ref f) = true
 i : PySem.W.isFn K (.ref f) = true
structure Ph (K : PySem.W.Frag) (C : Addr) : Prop where
 pg : PySem.W.plainGet K C Str.empty = true
 hd : PySem.W.hasDictIn K C = true
 po : PySem.W.plainOver K C = true
 sa : PySem.W.findIn K (.ref C) "__setattr__" = some (some (.builtin "object.__setattr__"))
 t1 : PySem.W.findIn K (.ref C) "__class__" = some (some (.builtin "object.__class__"))
 t2 : PySem.W.mroIn K C (.type "object") = some true
 t3 : PySem.W.typeIn K (.ref C) = some (.type "type")
theorem S4 {K : PySem.W.Frag} {t : Addr} {xs : Array Value} {n : Nat} {d : Option Addr} {z : Array (Option Value)} {c : Value} (l : K.lookup t = some ⟨c, d, .seq xs n, z⟩) : EV K t xs := ⟨⟨_, _, l, rfl⟩⟩
set_option genSizeOf false in
set_option genInjectivity false in
structure Ad where
 b7 : Addr
 o1 : FuncData
 d8 : Addr
 Af : FuncData
 cA : Addr
 qQ : FuncData
 bz : Addr
 jx : FuncData
 b5 : Addr
 oX : FuncData
 eA : Addr
 A5 : FuncData
 ez : Addr
 Ai : FuncData
 eE : Addr
 zS : FuncData
 dJ : Addr
 xt : FuncData
 bf : Addr
 jJ : FuncData
 a8 : Addr
 kO : FuncData
 bY : Addr
 c5 : Tok
 dA : Addr
 Bf : FuncData
 cQ : Addr
 xx : FuncData
 dB : Addr
 Ba : FuncData
 cu : Addr
 uZ : FuncData
 bC : Addr
 o8 : FuncData
 aQ : Addr
 gW : FuncData
 dY : Addr
 zO : FuncData
 eG : Addr
 Ap : FuncData
 cY : Addr
 vT : FuncData
 dI : Addr
 Di : FuncData
 bE : Addr
 o4 : FuncData
 bT : Addr
 qJ : FuncData
 a9 : Addr
 mE : FuncData
 bD : Addr
 oI : FuncData
 bF : Addr
 nI : FuncData
 dt : Addr
 Bu : FuncData
 ej : Addr
 Dc : FuncData
 bG : Addr
 o9 : FuncData
 bU : Addr
 rV : FuncData
 dq : Addr
 AQ : FuncData
 cn : Addr
 uO : FuncData
 cm : Addr
 ur : FuncData
 bR : Addr
 rZ : FuncData
 bh : Addr
 fz : FuncData
 bL : Addr
 bQ : Tok
 dG : Addr
 wV : FuncData
 dQ : Addr
 fj : Tok
 cV : Addr
 wz : FuncData
 bK : Addr
 lX : FuncData
 cZ : Addr
 sZ : FuncData
 dZ : Addr
 pH : FuncData
 eN : Addr
 d7 : Tok
 bj : Addr
 kd : FuncData
 cB : Addr
 qB : FuncData
 cD : Addr
 sM : FuncData
 bN : Addr
 x3 : FuncData
 cO : Addr
 xQ : FuncData
 aZ : Addr
 nH : FuncData
 a7 : Addr
 oM : FuncData
 bZ : Addr
 gC : FuncData
 cz : Addr
 dD : Tok
 aR : Addr
 j8 : FuncData
 dH : Addr
 xK : FuncData
 cX : Addr
 ud : FuncData
 d6 : Addr
 Am : FuncData
 bS : Addr
 qx : FuncData
 cR : Addr
 yP : FuncData
 dn : Addr
 Bt : FuncData
 cN : Addr
 xk : FuncData
 du : Addr
 zq : FuncData
 bV : Addr
 qu : FuncData
 dz : Addr
 AZ : FuncData
 er : Addr
 CQ : FuncData
 d9 : Addr
 C9 : FuncData
 cS : Addr
 xc : FuncData
 wW : Addr
 Hw : FuncData
 ao : Addr
 bx : Addr
 aD : Addr
 cU : Addr
 ag : Addr
 ng : Addr
 aF : Addr
structure Txt (K : PySem.W.Frag) (mg : Str -> Option Value) (a : Ad) : Prop where
 ig : aW K "__init__" "Bell.__init__" il a.b7 (.none) a.o1
 vX : aW K "lead" "Bell.lead" vO a.d8 (.none) a.Af
 jU : aW K "is_over" "Bell.is_over" ke a.cA (.none) a.qQ
 fN : aW K "is_waiting" "Bell.is_waiting" fZ a.bz (.none) a.jx
 ie : aW K "catch_up" "Bell.catch_up" iH a.b5 (.none) a.oX
 tX : aW K "wait" "Bell.wait" vk a.eA (.none) a.A5
 vb : aW K "rest" "Bell.rest" ug a.ez (.none) a.Ai
 t4 : aW K "move" "Bell.move" vJ a.eE (.none) a.zS
 pI : aW K "about" "Bell.about" pM a.dJ (.none) a.xt
 gk : aW K "__init__" "Groups.__init__" fH a.bf (.none) a.jJ
 gD : aW K "__init__" "Waits.__init__" gy a.a8 (.ref a.bY) a.kO
 nB : EV K a.bY #[(.int 0 a.c5)]
 wg : aW K "put" "Waits.put" uz a.dA (.none) a.Bf
 ql : aW K "take" "Waits.take" qm a.cQ (.none) a.xx
 vW : aW K "due" "Waits.due" mH a.dB (.none) a.Ba
 m9 : aW K "least" "Waits.least" mW a.cu (.none) a.uZ
 iy : aW K "time_of" "Waits.time_of" ip a.bC (.none) a.o8
 eU : aW K "check_waits" "Waits.check_waits" eV a.aQ (.none) a.gW
 tW : aW K "enter" "Row.enter" vt a.dY (.none) a.zO
 vR : aW K "leave" "Row.leave" uY a.eG (.none) a.Ap
 mY : aW K "pass_on" "Row.pass_on" gJ a.cY (.none) a.vT
 yZ : aW K "is_whole" "is_whole" y7 a.dI (.none) a.Di
 C6 : PySem.W.keepIn K (.ref a.dI) = true
 Dk : mg "is_whole" = some (.ref a.dI)
 iM : aW K "__init__" "Yard.__init__" ik a.bE (.none) a.o4
 jP : aW K "bell_of" "Yard.bell_of" jO a.bT (.none) a.qJ
 gB : aW K "all_bells" "Yard.all_bells" eO a.a9 (.none) a.mE
 iA : aW K "is_awake" "Yard.is_awake" iI a.bD (.none) a.oI
 iG : aW K "shown_to" "Yard.shown_to" iq a.bF (.none) a.nI
 vp : aW K "hang" "Yard.hang" ua a.dt (.none) a.Bu
 zi : aW K "lay" "Yard.lay" zj a.ej (.none) a.Dc
 iC : aW K "let_wait" "Yard.let_wait" iD a.bG (.none) a.o9
 jY : aW K "lay_all" "Yard.lay_all" kA a.bU (.none) a.rV
 tT : aW K "lift" "Yard.lift" vq a.dq (.none) a.AQ
 mU : aW K "finish" "Yard.finish" mS a.cn (.none) a.uO
 nc : aW K "remove" "Yard.remove" mP a.cm (.none) a.ur
 kq : aW K "pass_to" "Yard.pass_to" fP a.bR (.none) a.rZ
 fD : aW K "__init__" "Keeper.__init__" fJ a.bh (.ref a.bL) a.fz
 mn : EV K a.bL #[.none, (.int 0 a.bQ)]
 qc : aW K "add" "Keeper.add" p6 a.dG (.ref a.dQ) a.wV
 A1 : EV K a.dQ #[(.int 1 a.fj), .none, .bool false]
 mR : aW K "move" "Keeper.move" m8 a.cV (.none) a.wz
 gF : aW K "put_off" "Keeper.put_off" gH a.bK (.none) a.lX
 ni : aW K "turn" "Keeper.turn" gP a.cZ (.none) a.sZ
 vV : aW K "go" "Keeper.go" vw a.dZ (.ref a.eN) a.pH
 CJ : EV K a.eN #[(.int 60 a.d7), .none]
 fV : aW K "wakes_by" "Keeper.wakes_by" fC a.bj (.none) a.kd
 kB : aW K "about" "Keeper.about" j6 a.cB (.none) a.qB
 jF : aW K "known" "Keeper.known" fO a.cD (.none) a.sM
 pY : aW K "check_from" "check_from" qi a.bN (.none) a.x3
 eX : PySem.W.keepIn K (.ref a.bN) = true
 e7 : mg "check_from" = some (.ref a.bN)
 qf : aW K "spans_over" "spans_over" p7 a.cO (.none) a.xQ
 xZ : PySem.W.keepIn K (.ref a.cO) = true
 xf : mg "spans_over" = some (.ref a.cO)
 iN : aW K "__init__" "Rule.__init__" iz a.aZ (.none) a.nH
 ic : aW K "place_of" "Rule.place_of" iw a.a7 (.none) a.oM
 iK : aW K "__init__" "Each.__init__" iE a.bZ (.ref a.cz) a.gC
 rH : EV K a.cz #[(.int 0 a.dD), .none]
 fS : aW K "stretch_of" "Each.stretch_of" fQ a.aR (.none) a.j8
 qk : aW K "begin" "Each.begin" pX a.dH (.none) a.xK
 nj : aW K "let_by" "Each.let_by" mX a.cX (.none) a.ud
 uc : aW K "twin" "Each.twin" wB a.d6 (.none) a.Am
 jt : aW K "_law_cell_at" "_law_cell_at" jw a.bS (.none) a.qx
 dM : PySem.W.keepIn K (.ref a.bS) = true
 dN : mg "_law_cell_at" = some (.ref a.bS)
 pZ : aW K "_law_whole" "_law_whole" pJ a.cR (.none) a.yP
 xl : PySem.W.keepIn K (.ref a.cR) = true
 xq : mg "_law_whole" = some (.ref a.cR)
 tR : aW K "_law_name" "_law_name" vn a.dn (.none) a.Bt
 Ay : PySem.W.keepIn K (.ref a.dn) = true
 zL : mg "_law_name" = some (.ref a.dn)
 qa : aW K "_law_kinds" "_law_kinds" pO a.cN (.none) a.xk
 xB : PySem.W.keepIn K (.ref a.cN) = true
 yp : mg "_law_kinds" = some (.ref a.cN)
 uT : aW K "_law_bell" "_law_bell" uR a.du (.none) a.zq
 Ae : PySem.W.keepIn K (.ref a.du) = true
 AW : mg "_law_bell" = some (.ref a.du)
 ko : aW K "_law_stretch" "_law_stretch" ki a.bV (.none) a.qu
 rY : PySem.W.keepIn K (.ref a.bV) = true
 si : mg "_law_stretch" = some (.ref a.bV)
 wm : aW K "_law_done" "_law_done" vA a.dz (.none) a.AZ
 zA : PySem.W.keepIn K (.ref a.dz) = true
 AA : mg "_law_done" = some (.ref a.dz)
 yW : aW K "_law_due" "_law_due" y9 a.er (.none) a.CQ
 CI : PySem.W.keepIn K (.ref a.er) = true
 Dl : mg "_law_due" = some (.ref a.er)
 y3 : aW K "_law_row" "_law_row" yV a.d9 (.none) a.C9
 vi : PySem.W.keepIn K (.ref a.d9) = true
 tN : mg "_law_row" = some (.ref a.d9)
 p8 : aW K "_law_begun" "_law_begun" pK a.cS (.none) a.xc
 xF : PySem.W.keepIn K (.ref a.cS) = true
 xu : mg "_law_begun" = some (.ref a.cS)
 O6 : aW K "law" "law" HV a.wW (.none) a.Hw
 QA : mg "law" = some (.ref a.wW)
 KR : mg "Bell" = some (.ref a.ao)
 aG : zk K a.ao
 bu : aJ K a.ao "name"
 fM : aJ K a.ao "rule"
 eF : aJ K a.ao "weight"
 fG : aJ K a.ao "home"
 de : aJ K a.ao "by_day"
 dh : aJ K a.ao "number"
 a0 : aJ K a.ao "stretch"
 ck : aJ K a.ao "since"
 cw : aJ K a.ao "until"
 PL : Mk K a.ao a.b7
 vE : Meth K a.ao "lead" a.d8
 wx : Meth K a.ao "is_over" a.cA
 k9 : Meth K a.ao "is_waiting" a.bz
 rQ : Meth K a.ao "catch_up" a.b5
 CU : Meth K a.ao "wait" a.eA
 CP : Meth K a.ao "rest" a.ez
 CF : Meth K a.ao "move" a.eE
 zQ : Meth K a.ao "about" a.dJ
 FJ : mg "Groups" = some (.ref a.bx)
 gA : zk K a.bx
 dC : aJ K a.bx "above_of"
 fm : aJ K a.bx "marks"
 Ic : Mk K a.bx a.bf
 OW : mg "Row" = some (.ref a.aD)
 cG : zk K a.aD
 cT : aJ K a.aD "now"
 bp : aJ K a.aD "times"
 Ur : Mk K a.aD a.a8
 Dg : Meth K a.aD "enter" a.dY
 C1 : Meth K a.aD "leave" a.eG
 yF : Meth K a.aD "pass_on" a.cY
 FZ : Meth K a.aD "put" a.dA
 EL : Meth K a.aD "take" a.cQ
 F3 : Meth K a.aD "due" a.dB
 CK : Meth K a.aD "least" a.cu
 xn : Meth K a.aD "time_of" a.bC
 lG : Meth K a.aD "check_waits" a.aQ
 LR : mg "Yard" = some (.ref a.cU)
 FA : mg "Keeper" = some (.ref a.ag)
 az : zk K a.ag
 bB : aJ K a.ag "waits"
 eJ : aJ K a.ag "rounds"
 bO : aJ K a.ag "now"
 b6 : aJ K a.ag "shift"
 eQ : aJ K a.ag "groups"
 aS : aJ K a.ag "by_name"
 HF : Mk K a.ag a.bh
 Az : Meth K a.ag "add" a.dG
 fc : Meth K a.ag "move" a.cV
 oV : Meth K a.ag "put_off" a.bK
 yL : Meth K a.ag "turn" a.cZ
 uA : Meth K a.ag "go" a.dZ
 lP : Meth K a.ag "wakes_by" a.bj
 kC : Meth K a.ag "about" a.cB
 uN : Meth K a.ag "known" a.cD
 gG : Meth K a.ag "bell_of" a.bT
 fy : Meth K a.ag "all_bells" a.a9
 lA : Meth K a.ag "is_awake" a.bD
 kX : Meth K a.ag "shown_to" a.bF
 yz : Meth K a.ag "hang" a.dt
 jc : Meth K a.ag "lay" a.ej
 lZ : Meth K a.ag "let_wait" a.bG
 nT : Meth K a.ag "lay_all" a.bU
 mZ : Meth K a.ag "lift" a.dq
 qC : Meth K a.ag "finish" a.cn
 sr : Meth K a.ag "remove" a.cm
 oJ : Meth K a.ag "pass_to" a.bR
 Lw : mg "Rule" = some (.ref a.ng)
 Hd : mg "Each" = some (.ref a.aF)
 c4 : zk K a.aF
 eM : aJ K a.aF "many"
 dP : aJ K a.aF "start"
 dF : aJ K a.aF "step"
 eP : aJ K a.aF "wide"
 Km : Mk K a.aF a.bZ
 f6 : Meth K a.aF "stretch_of" a.aR
 Bn : Meth K a.aF "begin" a.dH
 xj : Meth K a.aF "let_by" a.cX
 C7 : Meth K a.aF "twin" a.d6
 rz : Meth K a.aF "place_of" a.a7
 df : a.ao ≠ a.ag
 gX : a.ao ≠ a.aD
 cW : a.ag ≠ a.aD
 jl : a.aF ≠ a.ao
 eh : a.aF ≠ a.ag
 lT : a.aF ≠ a.aD
 rq : Iu K a.ng "__init__" a.aZ
 rP : Iu K a.cU "__init__" a.bE
 Ag : mg "bool" = none
 y0 : mg "int" = none
 bb : mg "isinstance" = none
 BO : mg "len" = none
 Ar : mg "list" = none
 t7 : mg "max" = none
 EI : mg "min" = none
 vm : mg "range" = none
 jq : mg "sorted" = none
 Gm : mg "str" = none
 zX : mg "tuple" = none
theorem Xn {K : PySem.W.Frag} {h : Heap} {mg : Str -> Option Value} {b7 d8 cA bz b5 eA ez eE dJ bf a8 bY dA cQ dB cu bC aQ dY eG cY dI bE bT a9 bD bF dt ej bG bU dq cn cm bR bh bL dG dQ cV bK cZ dZ eN bj cB cD bN cO aZ a7 bZ cz aR dH cX d6 bS cR dn cN du bV dz er d9 cS wW ao bx kI aD cU ag ng aF : Addr} {c5 bQ fj d7 dD : Tok}  (X : K.In h) (G : h.Ns mainGlobals mg)
 (T9 : PySem.W.nsIn K mainGlobals "Bell" = some (some (.ref ao)))
 (Nj : PySem.W.nsIn K mainGlobals "Groups" = some (some (.ref bx)))
 (ZI : PySem.W.nsIn K mainGlobals "Waits" = some (some (.ref kI)))
 (Wz : PySem.W.nsIn K mainGlobals "Row" = some (some (.ref aD)))
 (SN : PySem.W.nsIn K mainGlobals "Yard" = some (some (.ref cU)))
 (MS : PySem.W.nsIn K mainGlobals "Keeper" = some (some (.ref ag)))
 (TR : PySem.W.nsIn K mainGlobals "Rule" = some (some (.ref ng)))
 (Rh : PySem.W.nsIn K mainGlobals "Each" = some (some (.ref aF)))
 (fu : cg K ao "__init__" "Bell.__init__" il (.none) b7)
 (gZ : cg K ao "lead" "Bell.lead" vO (.none) d8)
 (eD : cg K ao "is_over" "Bell.is_over" ke (.none) cA)
 (cL : cg K ao "is_waiting" "Bell.is_waiting" fZ (.none) bz)
 (dO : cg K ao "catch_up" "Bell.catch_up" iH (.none) b5)
 (g8 : cg K ao "wait" "Bell.wait" vk (.none) eA)
 (gT : cg K ao "rest" "Bell.rest" ug (.none) ez)
 (gY : cg K ao "move" "Bell.move" vJ (.none) eE)
 (fW : cg K ao "about" "Bell.about" pM (.none) dJ)
 (dS : cg K bx "__init__" "Groups.__init__" fH (.none) bf)
 (gE : cg K kI "__init__" "Waits.__init__" gy (.ref bY) a8)
 (BQ : EV K bY #[(.int 0 c5)])
 (lV : cg K kI "put" "Waits.put" uz (.none) dA)
 (jd : cg K kI "take" "Waits.take" qm (.none) cQ)
 (la : cg K kI "due" "Waits.due" mH (.none) dB)
 (gM : cg K kI "least" "Waits.least" mW (.none) cu)
 (fw : cg K kI "time_of" "Waits.time_of" ip (.none) bC)
 (c7 : cg K kI "check_waits" "Waits.check_waits" eV (.none) aQ)
 (g9 : cg K aD "enter" "Row.enter" vt (.none) dY)
 (gS : cg K aD "leave" "Row.leave" uY (.none) eG)
 (eY : cg K aD "pass_on" "Row.pass_on" gJ (.none) cY)
 (qj : A2 K "is_whole" "is_whole" y7 (.none) dI)
 (iL : cg K cU "__init__" "Yard.__init__" ik (.none) bE)
 (gg : cg K cU "bell_of" "Yard.bell_of" jO (.none) bT)
 (eR : cg K cU "all_bells" "Yard.all_bells" eO (.none) a9)
 (fv : cg K cU "is_awake" "Yard.is_awake" iI (.none) bD)
 (fk : cg K cU "shown_to" "Yard.shown_to" iq (.none) bF)
 (kQ : cg K cU "hang" "Yard.hang" ua (.none) dt)
 (pL : cg K cU "lay" "Yard.lay" zj (.none) ej)
 (fi : cg K cU "let_wait" "Yard.let_wait" iD (.none) bG)
 (fF : cg K cU "lay_all" "Yard.lay_all" kA (.none) bU)
 (kK : cg K cU "lift" "Yard.lift" vq (.none) dq)
 (gO : cg K cU "finish" "Yard.finish" mS (.none) cn)
 (gL : cg K cU "remove" "Yard.remove" mP (.none) cm)
 (fL : cg K cU "pass_to" "Yard.pass_to" fP (.none) bR)
 (dW : cg K ag "__init__" "Keeper.__init__" fJ (.ref bL) bh)
 (Ac : EV K bL #[.none, (.int 0 bQ)])
 (fK : cg K ag "add" "Keeper.add" p6 (.ref dQ) dG)
 (GL : EV K dQ #[(.int 1 fj), .none, .bool false])
 (fh : cg K ag "move" "Keeper.move" m8 (.none) cV)
 (di : cg K ag "put_off" "Keeper.put_off" gH (.none) bK)
 (e9 : cg K ag "turn" "Keeper.turn" gP (.none) cZ)
 (hV : cg K ag "go" "Keeper.go" vw (.ref eN) dZ)
 (HM : EV K eN #[(.int 60 d7), .none])
 (cM : cg K ag "wakes_by" "Keeper.wakes_by" fC (.none) bj)
 (eC : cg K ag "about" "Keeper.about" j6 (.none) cB)
 (d5 : cg K ag "known" "Keeper.known" fO (.none) cD)
 (je : A2 K "check_from" "check_from" qi (.none) bN)
 (jk : A2 K "spans_over" "spans_over" p7 (.none) cO)
 (iB : cg K ng "__init__" "Rule.__init__" iz (.none) aZ)
 (ft : cg K ng "place_of" "Rule.place_of" iw (.none) a7)
 (fq : cg K aF "__init__" "Each.__init__" iE (.ref cz) bZ)
 (Dy : EV K cz #[(.int 0 dD), .none])
 (cP : cg K aF "stretch_of" "Each.stretch_of" fQ (.none) aR)
 (fY : cg K aF "begin" "Each.begin" pX (.none) dH)
 (fe : cg K aF "let_by" "Each.let_by" mX (.none) cX)
 (gR : cg K aF "twin" "Each.twin" wB (.none) d6)
 (fT : A2 K "_law_cell_at" "_law_cell_at" jw (.none) bS)
 (jh : A2 K "_law_whole" "_law_whole" pJ (.none) cR)
 (mJ : A2 K "_law_name" "_law_name" vn (.none) dn)
 (jf : A2 K "_law_kinds" "_law_kinds" pO (.none) cN)
 (lS : A2 K "_law_bell" "_law_bell" uR (.none) du)
 (gf : A2 K "_law_stretch" "_law_stretch" ki (.none) bV)
 (mC : A2 K "_law_done" "_law_done" vA (.none) dz)
 (qe : A2 K "_law_due" "_law_due" y9 (.none) er)
 (qh : A2 K "_law_row" "_law_row" yV (.none) d9)
 (jo : A2 K "_law_begun" "_law_begun" pK (.none) cS)
 (Qp : A2 K "law" "law" HV (.none) wW)
 (aG : Ph K ao)
 (bu : PySem.W.findIn K (.ref ao) "name" = some none)
 (fM : PySem.W.findIn K (.ref ao) "rule" = some none)
 (eF : PySem.W.findIn K (.ref ao) "weight" = some none)
 (fG : PySem.W.findIn K (.ref ao) "home" = some none)
 (de : PySem.W.findIn K (.ref ao) "by_day" = some none)
 (dh : PySem.W.findIn K (.ref ao) "number" = some none)
 (a0 : PySem.W.findIn K (.ref ao) "stretch" = some none)
 (ck : PySem.W.findIn K (.ref ao) "since" = some none)
 (cw : PySem.W.findIn K (.ref ao) "until" = some none)
 (Sg : PySem.W.makesIn K ao = true)
 (S7 : PySem.W.keepIn K (.ref ao) = true)
 (gA : Ph K bx)
 (dC : PySem.W.findIn K (.ref bx) "above_of" = some none)
 (fm : PySem.W.findIn K (.ref bx) "marks" = some none)
 (Mf : PySem.W.makesIn K bx = true)
 (Nz : PySem.W.keepIn K (.ref bx) = true)
 (cG : Ph K aD)
 (cT : PySem.W.findIn K (.ref aD) "now" = some none)
 (bp : PySem.W.findIn K (.ref aD) "times" = some none)
 (Xe : PySem.W.makesIn K aD = true)
 (Xa : PySem.W.keepIn K (.ref aD) = true)
 (W7 : PySem.W.findIn K (.ref aD) "__init__" = some (some (.ref a8)))
 (Ky : PySem.W.findIn K (.ref aD) "put" = some (some (.ref dA)))
 (IE : PySem.W.findIn K (.ref aD) "take" = some (some (.ref cQ)))
 (Kr : PySem.W.findIn K (.ref aD) "due" = some (some (.ref dB)))
 (GF : PySem.W.findIn K (.ref aD) "least" = some (some (.ref cu)))
 (EH : PySem.W.findIn K (.ref aD) "time_of" = some (some (.ref bC)))
 (y1 : PySem.W.findIn K (.ref aD) "check_waits" = some (some (.ref aQ)))
 (az : Ph K ag)
 (bB : PySem.W.findIn K (.ref ag) "waits" = some none)
 (eJ : PySem.W.findIn K (.ref ag) "rounds" = some none)
 (bO : PySem.W.findIn K (.ref ag) "now" = some none)
 (b6 : PySem.W.findIn K (.ref ag) "shift" = some none)
 (eQ : PySem.W.findIn K (.ref ag) "groups" = some none)
 (aS : PySem.W.findIn K (.ref ag) "by_name" = some none)
 (Nh : PySem.W.makesIn K ag = true)
 (Ni : PySem.W.keepIn K (.ref ag) = true)
 (zv : PySem.W.findIn K (.ref ag) "bell_of" = some (some (.ref bT)))
 (wN : PySem.W.findIn K (.ref ag) "all_bells" = some (some (.ref a9)))
 (zf : PySem.W.findIn K (.ref ag) "is_awake" = some (some (.ref bD)))
 (za : PySem.W.findIn K (.ref ag) "shown_to" = some (some (.ref bF)))
 (Ed : PySem.W.findIn K (.ref ag) "hang" = some (some (.ref dt)))
 (Fz : PySem.W.findIn K (.ref ag) "lay" = some (some (.ref ej)))
 (zb : PySem.W.findIn K (.ref ag) "let_wait" = some (some (.ref bG)))
 (Bk : PySem.W.findIn K (.ref ag) "lay_all" = some (some (.ref bU)))
 (Ei : PySem.W.findIn K (.ref ag) "lift" = some (some (.ref dq)))
 (BV : PySem.W.findIn K (.ref ag) "finish" = some (some (.ref cn)))
 (Ck : PySem.W.findIn K (.ref ag) "remove" = some (some (.ref cm)))
 (Aq : PySem.W.findIn K (.ref ag) "pass_to" = some (some (.ref bR)))
 (c4 : Ph K aF)
 (eM : PySem.W.findIn K (.ref aF) "many" = some none)
 (dP : PySem.W.findIn K (.ref aF) "start" = some none)
 (dF : PySem.W.findIn K (.ref aF) "step" = some none)
 (eP : PySem.W.findIn K (.ref aF) "wide" = some none)
 (T1 : PySem.W.makesIn K aF = true)
 (Tf : PySem.W.keepIn K (.ref aF) = true)
 (Cb : PySem.W.findIn K (.ref aF) "place_of" = some (some (.ref a7)))
 (df : (ao == ag) = false)
 (gX : (ao == aD) = false)
 (cW : (ag == aD) = false)
 (jl : (aF == ao) = false)
 (eh : (aF == ag) = false)
 (lT : (aF == aD) = false)
 (Cy : PySem.W.specialIn K (.ref ng) "__getattribute__" = some (some (.builtin "type.__getattribute__")))
 (BP : PySem.W.readsIn K ng (.type "type") = true)
 (BX : PySem.W.findCls K (.ref ng) (.type "type") "__init__" = some (.val (.ref aZ)))
 (BI : PySem.W.specialIn K (.ref cU) "__getattribute__" = some (some (.builtin "type.__getattribute__")))
 (Cp : PySem.W.readsIn K cU (.type "type") = true)
 (BA : PySem.W.findCls K (.ref cU) (.type "type") "__init__" = some (.val (.ref bE)))
 (Ag : PySem.W.nsIn K mainGlobals "bool" = some none)
 (y0 : PySem.W.nsIn K mainGlobals "int" = some none)
 (bb : PySem.W.nsIn K mainGlobals "isinstance" = some none)
 (BO : PySem.W.nsIn K mainGlobals "len" = some none)
 (Ar : PySem.W.nsIn K mainGlobals "list" = some none)
 (t7 : PySem.W.nsIn K mainGlobals "max" = some none)
 (EI : PySem.W.nsIn K mainGlobals "min" = some none)
 (vm : PySem.W.nsIn K mainGlobals "range" = some none)
 (jq : PySem.W.nsIn K mainGlobals "sorted" = some none)
 (Gm : PySem.W.nsIn K mainGlobals "str" = some none)
 (zX : PySem.W.nsIn K mainGlobals "tuple" = some none)
 : ∃ a : Ad, a.wW = a.wW /\ Txt K mg a :=
 ⟨⟨b7, fu.l.choose, d8, gZ.l.choose, cA, eD.l.choose, bz, cL.l.choose, b5, dO.l.choose, eA, g8.l.choose, ez, gT.l.choose, eE, gY.l.choose, dJ, fW.l.choose, bf, dS.l.choose, a8, gE.l.choose, bY, c5, dA, lV.l.choose, cQ, jd.l.choose, dB, la.l.choose, cu, gM.l.choose, bC, fw.l.choose, aQ, c7.l.choose, dY, g9.l.choose, eG, gS.l.choose, cY, eY.l.choose, dI, qj.l.choose, bE, iL.l.choose, bT, gg.l.choose, a9, eR.l.choose, bD, fv.l.choose, bF, fk.l.choose, dt, kQ.l.choose, ej, pL.l.choose, bG, fi.l.choose, bU, fF.l.choose, dq, kK.l.choose, cn, gO.l.choose, cm, gL.l.choose, bR, fL.l.choose, bh, dW.l.choose, bL, bQ, dG, fK.l.choose, dQ, fj, cV, fh.l.choose, bK, di.l.choose, cZ, e9.l.choose, dZ, hV.l.choose, eN, d7, bj, cM.l.choose, cB, eC.l.choose, cD, d5.l.choose, bN, je.l.choose, cO, jk.l.choose, aZ, iB.l.choose, a7, ft.l.choose, bZ, fq.l.choose, cz, dD, aR, cP.l.choose, dH, fY.l.choose, cX, fe.l.choose, d6, gR.l.choose, bS, fT.l.choose, cR, jh.l.choose, dn, mJ.l.choose, cN, jf.l.choose, du, lS.l.choose, bV, gf.l.choose, dz, mC.l.choose, er, qe.l.choose, d9, qh.l.choose, cS, jo.l.choose, wW, Qp.l.choose, ao, bx, aD, cU, ag, ng, aF⟩, rfl, {
   ig := fu.l.choose_spec,
   vX := gZ.l.choose_spec,
   jU := eD.l.choose_spec,
   fN := cL.l.choose_spec,
   ie := dO.l.choose_spec,
   tX := g8.l.choose_spec,
   vb := gT.l.choose_spec,
   t4 := gY.l.choose_spec,
   pI := fW.l.choose_spec,
   gk := dS.l.choose_spec,
   gD := gE.l.choose_spec,
   nB := BQ,
   wg := lV.l.choose_spec,
   ql := jd.l.choose_spec,
   vW := la.l.choose_spec,
   m9 := gM.l.choose_spec,
   iy := fw.l.choose_spec,
   eU := c7.l.choose_spec,
   tW := g9.l.choose_spec,
   vR := gS.l.choose_spec,
   mY := eY.l.choose_spec,
   yZ := qj.l.choose_spec,
   C6 := qj.k,
   Dk := PySem.W.mg_of X G qj.a,
   iM := iL.l.choose_spec,
   jP := gg.l.choose_spec,
   gB := eR.l.choose_spec,
   iA := fv.l.choose_spec,
   iG := fk.l.choose_spec,
   vp := kQ.l.choose_spec,
   zi := pL.l.choose_spec,
   iC := fi.l.choose_spec,
   jY := fF.l.choose_spec,
   tT := kK.l.choose_spec,
   mU := gO.l.choose_spec,
   nc := gL.l.choose_spec,
   kq := fL.l.choose_spec,
   fD := dW.l.choose_spec,
   mn := Ac,
   qc := fK.l.choose_spec,
   A1 := GL,
   mR := fh.l.choose_spec,
   gF := di.l.choose_spec,
   ni := e9.l.choose_spec,
   vV := hV.l.choose_spec,
   CJ := HM,
   fV := cM.l.choose_spec,
   kB := eC.l.choose_spec,
   jF := d5.l.choose_spec,
   pY := je.l.choose_spec,
   eX := je.k,
   e7 := PySem.W.mg_of X G je.a,
   qf := jk.l.choose_spec,
   xZ := jk.k,
   xf := PySem.W.mg_of X G jk.a,
   iN := iB.l.choose_spec,
   ic := ft.l.choose_spec,
   iK := fq.l.choose_spec,
   rH := Dy,
   fS := cP.l.choose_spec,
   qk := fY.l.choose_spec,
   nj := fe.l.choose_spec,
   uc := gR.l.choose_spec,
   jt := fT.l.choose_spec,
   dM := fT.k,
   dN := PySem.W.mg_of X G fT.a,
   pZ := jh.l.choose_spec,
   xl := jh.k,
   xq := PySem.W.mg_of X G jh.a,
   tR := mJ.l.choose_spec,
   Ay := mJ.k,
   zL := PySem.W.mg_of X G mJ.a,
   qa := jf.l.choose_spec,
   xB := jf.k,
   yp := PySem.W.mg_of X G jf.a,
   uT := lS.l.choose_spec,
   Ae := lS.k,
   AW := PySem.W.mg_of X G lS.a,
   ko := gf.l.choose_spec,
   rY := gf.k,
   si := PySem.W.mg_of X G gf.a,
   wm := mC.l.choose_spec,
   zA := mC.k,
   AA := PySem.W.mg_of X G mC.a,
   yW := qe.l.choose_spec,
   CI := qe.k,
   Dl := PySem.W.mg_of X G qe.a,
   y3 := qh.l.choose_spec,
   vi := qh.k,
   tN := PySem.W.mg_of X G qh.a,
   p8 := jo.l.choose_spec,
   xF := jo.k,
   xu := PySem.W.mg_of X G jo.a,
   O6 := Qp.l.choose_spec,
   QA := PySem.W.mg_of X G Qp.a,
   KR := PySem.W.mg_of X G T9,
   aG := ⟨aG.pg, aG.hd, aG.po, aG.sa⟩,
   bu := bu,
   fM := fM,
   eF := eF,
   fG := fG,
   de := de,
   dh := dh,
   a0 := a0,
   ck := ck,
   cw := cw,
   PL := ⟨Sg, fu.a, fu.i, S7⟩,
   vE := ⟨gZ.a, gZ.i, gZ.k⟩,
   wx := ⟨eD.a, eD.i, eD.k⟩,
   k9 := ⟨cL.a, cL.i, cL.k⟩,
   rQ := ⟨dO.a, dO.i, dO.k⟩,
   CU := ⟨g8.a, g8.i, g8.k⟩,
   CP := ⟨gT.a, gT.i, gT.k⟩,
   CF := ⟨gY.a, gY.i, gY.k⟩,
   zQ := ⟨fW.a, fW.i, fW.k⟩,
   FJ := PySem.W.mg_of X G Nj,
   gA := ⟨gA.pg, gA.hd, gA.po, gA.sa⟩,
   dC := dC,
   fm := fm,
   Ic := ⟨Mf, dS.a, dS.i, Nz⟩,
   OW := PySem.W.mg_of X G Wz,
   cG := ⟨cG.pg, cG.hd, cG.po, cG.sa⟩,
   cT := cT,
   bp := bp,
   Ur := ⟨Xe, W7, gE.i, Xa⟩,
   Dg := ⟨g9.a, g9.i, g9.k⟩,
   C1 := ⟨gS.a, gS.i, gS.k⟩,
   yF := ⟨eY.a, eY.i, eY.k⟩,
   FZ := ⟨Ky, lV.i, lV.k⟩,
   EL := ⟨IE, jd.i, jd.k⟩,
   F3 := ⟨Kr, la.i, la.k⟩,
   CK := ⟨GF, gM.i, gM.k⟩,
   xn := ⟨EH, fw.i, fw.k⟩,
   lG := ⟨y1, c7.i, c7.k⟩,
   LR := PySem.W.mg_of X G SN,
   FA := PySem.W.mg_of X G MS,
   az := ⟨az.pg, az.hd, az.po, az.sa⟩,
   bB := bB,
   eJ := eJ,
   bO := bO,
   b6 := b6,
   eQ := eQ,
   aS := aS,
   HF := ⟨Nh, dW.a, dW.i, Ni⟩,
   Az := ⟨fK.a, fK.i, fK.k⟩,
   fc := ⟨fh.a, fh.i, fh.k⟩,
   oV := ⟨di.a, di.i, di.k⟩,
   yL := ⟨e9.a, e9.i, e9.k⟩,
   uA := ⟨hV.a, hV.i, hV.k⟩,
   lP := ⟨cM.a, cM.i, cM.k⟩,
   kC := ⟨eC.a, eC.i, eC.k⟩,
   uN := ⟨d5.a, d5.i, d5.k⟩,
   gG := ⟨zv, gg.i, gg.k⟩,
   fy := ⟨wN, eR.i, eR.k⟩,
   lA := ⟨zf, fv.i, fv.k⟩,
   kX := ⟨za, fk.i, fk.k⟩,
   yz := ⟨Ed, kQ.i, kQ.k⟩,
   jc := ⟨Fz, pL.i, pL.k⟩,
   lZ := ⟨zb, fi.i, fi.k⟩,
   nT := ⟨Bk, fF.i, fF.k⟩,
   mZ := ⟨Ei, kK.i, kK.k⟩,
   qC := ⟨BV, gO.i, gO.k⟩,
   sr := ⟨Ck, gL.i, gL.k⟩,
   oJ := ⟨Aq, fL.i, fL.k⟩,
   Lw := PySem.W.mg_of X G TR,
   Hd := PySem.W.mg_of X G Rh,
   c4 := ⟨c4.pg, c4.hd, c4.po, c4.sa⟩,
   eM := eM,
   dP := dP,
   dF := dF,
   eP := eP,
   Km := ⟨T1, fq.a, fq.i, Tf⟩,
   f6 := ⟨cP.a, cP.i, cP.k⟩,
   Bn := ⟨fY.a, fY.i, fY.k⟩,
   xj := ⟨fe.a, fe.i, fe.k⟩,
   C7 := ⟨gR.a, gR.i, gR.k⟩,
   rz := ⟨Cb, ft.i, ft.k⟩,
   df := ne_of_beq_false df,
   gX := ne_of_beq_false gX,
   cW := ne_of_beq_false cW,
   jl := ne_of_beq_false jl,
   eh := ne_of_beq_false eh,
   lT := ne_of_beq_false lT,
   rq := ⟨Cy, BP, BX, iB.k⟩,
   rP := ⟨BI, Cp, BA, iL.k⟩,
   Ag := PySem.W.mg_none_of X G Ag,
   y0 := PySem.W.mg_none_of X G y0,
   bb := PySem.W.mg_none_of X G bb,
   BO := PySem.W.mg_none_of X G BO,
   Ar := PySem.W.mg_none_of X G Ar,
   t7 := PySem.W.mg_none_of X G t7,
   EI := PySem.W.mg_none_of X G EI,
   vm := PySem.W.mg_none_of X G vm,
   jq := PySem.W.mg_none_of X G jq,
   Gm := PySem.W.mg_none_of X G Gm,
   zX := PySem.W.mg_none_of X G zX
 }⟩
def oO : Sp := fun vs H Q _ => ∃ v d, vs = [v] /\ Dv H v d /\ Q (.bl (isInt d && !isBool d)) H
theorem TJ {H : Hp} {Q : VK} {E : XK} {v : V} {d : PyData} (h : Dv H v d) (q : Q (.bl (isInt d && !isBool d)) H) : oO [v] H Q E := ⟨v, d, rfl, h, q⟩
def v8 : Sp := fun vs H Q _ => ∃ n l x, vs = [.int n, .int l, .str x] /\ l <= n /\ Q .aT H
theorem Sw {H : Hp} {Q : VK} {E : XK} {n l : Int} {x : Str} (h : l <= n) (q : Q .aT H) : v8 [.int n, .int l, .str x] H Q E := ⟨n, l, x, rfl, h, q⟩
def ji (C : Addr) : Sp := fun vs H Q _ => ∃ p dx m, vs = [.ref p, m] /\ SJ m /\ H p = some (.ins C dx []) /\ Q .aT (upd H p (.ins C dx [("many", m)]))
theorem IM {C p dx : Addr} {H : Hp} {Q : VK} {E : XK} {m : V} (hm : SJ m) (hp : H p = some (.ins C dx [])) (q : Q .aT (upd H p (.ins C dx [("many", m)]))) : ji C [.ref p, m] H Q E := ⟨p, dx, m, rfl, hm, hp, q⟩
def kL (C : Addr) : Sp := fun vs H Q _ => ∃ v fs m n x d, vs = [v, .int n, x] /\ SJ m /\ qg H v C fs /\ fs.lookup ("many" : Str) = some m /\ Dv H x d /\ ∀ v' H', ax H H' -> Dv H' v' (.tuple [.int (Ks m n), JT m n d]) -> Q v' H'
theorem Jo {C : Addr} {H : Hp} {Q : VK} {E : XK} {v x : V} {fs : List (Str × V)} {d : PyData} {m : V} {n : Int} (ho : SJ m) (hp : qg H v C fs) (hm : fs.lookup ("many" : Str) = some m) (hd : Dv H x d) (q : ∀ v' H', ax H H' -> Dv H' v' (.tuple [.int (Ks m n), JT m n d]) -> Q v' H') : kL C [v, .int n, x] H Q E := ⟨v, fs, m, n, x, d, rfl, ho, hp, hm, hd, q⟩
def Ov (K : PySem.W.Frag) : Sp := fun vs H Q _ => ∃ (l : Addr) (ns : List Int), vs = [.ref l] /\ i9 K H l (ns.map V.int) /\ ns.length <= 63 /\ ∀ H', Q (.bl true) H'
set_option hygiene false in
local macro_rules | `(tactic| walk_at "bd") => `(tactic| first | exact ⟨by omega, by omega⟩ | fail)
set_option hygiene false in
local macro_rules | `(tactic| walk_at "bd") => `(tactic| first | assumption | fail)
set_option hygiene false in
local macro_rules | `(tactic| walk_at "mok") => `(tactic| first | exact Or.inr ⟨_, rfl, by omega⟩ | fail)
set_option hygiene false in
local macro_rules | `(tactic| walk_at "mok") => `(tactic| first | exact Or.inl rfl | fail)
set_option hygiene false in
local macro_rules | `(tactic| walk_at "mok") => `(tactic| first | assumption | fail)
local macro_rules | `(tactic| walk_at "use") => `(tactic| first | ((with_reducible refine' Jo ?e0 ?e1 ?e2 ?e3 (fun _ _ _ _ => ?_)); (case e1 => walk_at "ins"); (case e2 => walk_at "lk"); (case e0 => walk_at "mok"); (case e3 => walk_at "dat")) | fail)
local macro_rules | `(tactic| walk_at "use") => `(tactic| first | ((with_reducible refine' Xk ?e1 ?e2 ?_); (case e1 => walk_at "sql"); (case e2 => omega)) | fail)
local macro_rules | `(tactic| walk_at "use") => `(tactic| first | ((with_reducible refine' IM ?e1 ?e2 ?_); (case e1 => walk_at "mok"); (case e2 => walk_at "at")) | fail)
local macro_rules | `(tactic| walk_at "use") => `(tactic| first | ((with_reducible refine' Sw ?e ?_); case e => walk_at "side") | fail)
local macro_rules | `(tactic| walk_at "use") => `(tactic| first | ((with_reducible refine' TJ ?e ?_); case e => walk_at "dat") | fail)
section
variable {P : Program} {w : World} {K : PySem.W.Frag} {mg : Str -> Option Value} {base : Heap} {a : Ad}
theorem HD (T : Txt K mg a) : aK P w K mg base eS 1 a.dI a.Di ["thing"] oO := by
 refine T.yZ.ok IC (fun vs H Q E h => ?_) (fun cJ A outer s H vs Q E hr h => ?_)
 . obtain ⟨_, _, rfl, _⟩ := h; rfl
 . obtain ⟨v, d, rfl, hd, k⟩ := h
   refine ⟨_, (ai (aA (Kl (bw kr rfl T.bb PyProof.Rows.boot_isinstance (ae (pv 0) (ae (pV (v := .ty "int") rfl T.y0 PyProof.Rows.boot_int rfl) aj))) (Hg (O4 (bw kr rfl T.bb PyProof.Rows.boot_isinstance (ae (pv 0) (ae (pV (v := .ty "bool") rfl T.Ag PyProof.Rows.boot_bool rfl) aj)))))))), ?_⟩
   repeat' (walk_at "rd1")
   . refine Rj ?_; cases d <;> simp_all [isInt, isBool]
   . refine Rj ?_; cases d <;> simp_all [isInt, isBool]
theorem G4 (T : Txt K mg a) : dr P w K mg base 1 a.dI ["thing"] [] oO :=
 ⟨⟨_, _, HD T, T.yZ.binds fun _ _ _ _ _ _ => .all fun us hl => match us, hl with | [_], _ => rfl, .nil⟩⟩
theorem Fe (T : Txt K mg a) : aK P w K mg base eS 2 a.bN a.x3 ["number", "least", "what"] v8 := by
 have Kx : dr P w K mg base 1 a.dI ["thing"] [] oO := G4 T
 refine T.pY.ok Fy (fun vs H Q E h => ?_) (fun cJ A outer s H vs Q E hr h => ?_)
 . obtain ⟨_, _, _, rfl, _⟩ := h; rfl
 . obtain ⟨n, l, x, rfl, hl, k⟩ := h
   refine ⟨_, (ai (bM (PW.pt (KZ (qd (cE (bW Kx (hr.mono (by decide)) rfl T.Dk T.C6 (ae (pv 0) aj)) (fun _ => rfl))) (Ho (aL C5 (pv 0) (pv 1) (aN _)))))
    (ai b8)
    aH)), ?_⟩
   repeat' (walk_at "rd1")
   exact k
theorem uV (T : Txt K mg a) : dr P w K mg base 2 a.bN ["number", "least", "what"] [] v8 :=
 ⟨⟨_, _, Fe T, T.pY.binds fun _ _ _ _ _ _ => .all fun us hl => match us, hl with | [_, _, _], _ => rfl, .nil⟩⟩
theorem G0 {C : Addr} (T : Txt K mg a) (cl : zk K C) (na : aJ K C "many") : aK P w K mg base eS 3 a.aZ a.nH ["self", "many"] (ji C) := by
 have fA : dr P w K mg base 2 a.bN ["number", "least", "what"] [] v8 := uV T
 refine T.iN.ok BL (fun vs H Q E h => ?_) (fun cJ A outer s H vs Q E hr h => ?_)
 . obtain ⟨_, _, _, rfl, _⟩ := h; rfl
 . obtain ⟨p, dx, m, rfl, hm, hp, k⟩ := h
   refine ⟨_, (ah (bM (aL pT (pv 1) cK (aN _))
    (ai (aO (bW fA (hr.mono (by decide)) rfl T.e7 T.eX (ae (pv 1) (ae af (ae iF aj))))))
    aH)
    (ai (aX (pv 0) (pv 1) rfl))), ?_⟩
   rcases hm with rfl | ⟨i, rfl, hi⟩
   . repeat' (walk_at "rd1")
     exact k
   . repeat' (walk_at "rd1")
     exact k
theorem Fx {C : Addr} (T : Txt K mg a) (cl : zk K C) (na : aJ K C "many") : dr P w K mg base 3 a.aZ ["self", "many"] [] (ji C) :=
 ⟨⟨_, _, G0 T cl na, T.iN.binds fun _ _ _ _ _ _ => .all fun us hl => match us, hl with | [_, _], _ => rfl, .nil⟩⟩
theorem DR (T : Txt K mg a) : aK P w K mg base eS 1 a.bS a.qx ["_law_script", "_law_k"] (J1 K) := by
 refine T.jt.ok Dq (fun vs H Q E h => ?_) (fun cJ A outer s H vs Q E hr h => ?_)
 . obtain ⟨_, _, _, rfl, _⟩ := h; rfl
 . obtain ⟨l, ns, i, rfl, hl, h0, k⟩ := h
   refine ⟨_, (ah (bM (aL C5 (pv 1) (bw Ca rfl T.BO PySem.boot_len (ae (pv 0) aj)) (aN _))
    (ai (aA (aP cf (pv 0) (pv 1) (fun _ _ => rfl))))
    aH)
    (ai (aA af))), ?_⟩
   repeat' (walk_at "rd1")
   . exact U3 hl (K2 h0 (by assumption)) k
   . rw [Ti h0 (by assumption)] at k; exact k
theorem Dw (T : Txt K mg a) : dr P w K mg base 1 a.bS ["_law_script", "_law_k"] [] (J1 K) :=
 ⟨⟨_, _, DR T, T.jt.binds fun _ _ _ _ _ _ => .all fun us hl => match us, hl with | [_, _], _ => rfl, .nil⟩⟩
theorem MV (T : Txt K mg a) (s : Shared) (u : Value) : BindsTo s a.Hw ⟨[u], []⟩ [("_law_script", u)] := by
 obtain ⟨oc, od, kV, doc, pm, an, cJ, ct, QG, e, lk, NN⟩ := T.O6.ex
 rw [e]
 exact .of_eq rfl
theorem Ja {C : Addr} (T : Txt K mg a) (cl : zk K C) (na : aJ K C "many") : aK P w K mg base eS 1 a.a7 a.oM ["self", "number", "stretch"] (kL C) := by
 refine T.ic.ok Cu (fun vs H Q E h => ?_) (fun cJ A outer s H vs Q E hr h => ?_)
 . obtain ⟨_, _, _, _, _, _, rfl, _⟩ := h; rfl
 . obtain ⟨v, fs, m, n, x, d, rfl, ho, hp, hm, hd, k⟩ := h
   refine ⟨_, (ah (bM (PW.pt (He (aL pT (ay (pv 0) rfl) cK (aN _)) (DL (aL P8 (pv 1) (ay (pv 0) rfl) (aN _)))))
    (ai (aA (bX (ae (ay (pv 0) rfl) (ae cK aj)))))
    aH)
    (ai (aA (bX (ae (pv 1) (ae (pv 2) aj)))))), ?_⟩
   rcases ho with rfl | ⟨i, rfl, hi⟩
   . repeat' (walk_at "rd1")
     (refine k _ _ ?_ ?_; walk_at "same"; walk_at "dat")
   . repeat' (walk_at "rd1")
     . rename_i hb _ _ _ _
       rw [Ln hb, La hb] at k
       (refine k _ _ ?_ ?_; walk_at "same"; walk_at "dat")
     . rename_i hb _ _ _ _
       rw [KP hb, KO hb] at k
       (refine k _ _ ?_ ?_; walk_at "same"; walk_at "dat")
theorem GU {C : Addr} (T : Txt K mg a) (cl : zk K C) (na : aJ K C "many") : dr P w K mg base 1 a.a7 ["self", "number", "stretch"] [] (kL C) :=
 ⟨⟨_, _, Ja T cl na, T.ic.binds fun _ _ _ _ _ _ => .all fun us hl => match us, hl with | [_, _, _], _ => rfl, .nil⟩⟩
def LN (args : List V) : Prop := ∃ st sp wd m, args = [.int st, .int sp, .int wd, m] /\ 0 <= st /\ 1 <= sp /\ 0 <= wd /\ wd < sp /\ SJ m
theorem G9 (T : Txt K mg a) : aK P w K mg base eS 4 a.bZ a.gC ["self", "start", "step", "wide", "many"] (GK a.aF LN LO) := by
 have fA : dr P w K mg base 2 a.bN ["number", "least", "what"] [] v8 := uV T
 have DA : dr P w K mg base 3 a.aZ ["self", "many"] [] (ji a.aF) := Fx T T.c4 T.eM
 have cl := T.c4
 have n1 := T.dP; have n2 := T.dF; have n3 := T.eP
 refine T.iK.ok BR (fun vs H Q E h => ?_) (fun cJ A outer s H vs Q E hr h => ?_)
 . obtain ⟨_, _, _, rfl, ⟨_, _, _, _, rfl, _⟩, _⟩ := h; rfl
 . obtain ⟨p, dx, args, rfl, ⟨st, sp, wd, m, rfl, h0, h1, h2, h3, hm⟩, hp, k⟩ := h
   refine ⟨_, (ah (aO (bW fA (hr.mono (by decide)) rfl T.e7 T.eX (ae (pv 1) (ae af (ae iF aj)))))
    (ah (aO (bW fA (hr.mono (by decide)) rfl T.e7 T.eX (ae (pv 2) (ae af (ae iF aj)))))
    (ah (aO (bW fA (hr.mono (by decide)) rfl T.e7 T.eX (ae (pv 3) (ae af (ae iF aj)))))
    (ah (bM (aL P8 (pv 3) (pv 2) (aN _))
     (ai b8)
     aH)
    (ah (aO (Lq rfl T.Lw T.rq DA (hr.mono (by decide)) (ae (pv 0) (ae (pv 4) aj))))
    (ah (aX (pv 0) (pv 1) rfl)
    (ah (aX (pv 0) (pv 2) rfl)
    (ai (aX (pv 0) (pv 3) rfl))))))))), ?_⟩
   repeat' (walk_at "rd1")
   simp only [ll]
   exact k
theorem NU (T : Txt K mg a) : Binds K a.gC ["self", "start", "step", "wide", "many"] [] := T.iK.binds fun _ _ _ _ _ _ s us kx hl => by
 obtain ⟨o, n, h1, h2⟩ := T.rH.ex
 have hl : us.length = 5 := by simp at hl; omega
 match us, hl with
 | [_, _, _, _, _], _ => exact PySem.W.binds_K kx rfl h1 h2 rfl rfl
theorem DU (T : Txt K mg a) : dr P w K mg base 4 a.bZ ["self", "start", "step", "wide", "many"] [] (GK a.aF LN LO) := ⟨⟨_, _, G9 T, NU T, .nil⟩⟩
def e6 (C : Addr) : Sp := fun vs H Q _ => ∃ v st sp wd m n, vs = [v, .int n] /\ qg H v C [("many", m), ("start", .int st), ("step", .int sp), ("wide", .int wd)] /\ (-(10 ^ 200) < n /\ n < 10 ^ 200) /\ (-(10 ^ 200) < sp /\ sp < 10 ^ 200) /\ ∀ v' H', ax H H' -> Dv H' v' (.tuple [.int (st + n * sp), .int (st + n * sp + wd)]) -> Q v' H'
theorem Hs {C : Addr} {H : Hp} {Q : VK} {E : XK} {v : V} {st sp wd n : Int} {m : V} (hp : qg H v C [("many", m), ("start", .int st), ("step", .int sp), ("wide", .int wd)]) (h1 : -(10 ^ 200) < n /\ n < 10 ^ 200) (h2 : -(10 ^ 200) < sp /\ sp < 10 ^ 200)
 (q : ∀ v' H', ax H H' -> Dv H' v' (.tuple [.int (st + n * sp), .int (st + n * sp + wd)]) -> Q v' H') : e6 C [v, .int n] H Q E := ⟨v, st, sp, wd, m, n, rfl, hp, h1, h2, q⟩
local macro_rules | `(tactic| walk_at "use") => `(tactic| first | ((with_reducible refine' Hs ?e1 ?e2 ?e3 (fun _ _ _ _ => ?_)); (case e1 => walk_at "ins"); (case e2 => walk_at "bd"); (case e3 => walk_at "bd")) | fail)
theorem Ff (T : Txt K mg a) : aK P w K mg base eS 1 a.aR a.j8 ["self", "number"] (e6 a.aF) := by
 have cl := T.c4
 have n1 := T.dP; have n2 := T.dF; have n3 := T.eP
 refine T.fS.ok kz (fun vs H Q E h => ?_) (fun cJ A outer s H vs Q E hr h => ?_)
 . obtain ⟨_, _, _, _, _, _, rfl, _⟩ := h; rfl
 . obtain ⟨v, st, sp, wd, m, n, rfl, hp, b1, b2, k⟩ := h
   refine ⟨_, (ah (aI (i := 2) kz.nd rfl (Or.inl rfl) (aw bo (ay (pv 0) rfl) (aw wJ (pv 1) (ay (pv 0) rfl))))
    (ai (aA (bX (ae (pv 2) (ae (aw bo (pv 2) (ay (pv 0) rfl)) aj)))))), ?_⟩
   repeat' (walk_at "rd1")
   (refine k _ _ ?_ ?_; walk_at "same"; walk_at "dat")
theorem u9 (T : Txt K mg a) : dr P w K mg base 1 a.aR ["self", "number"] [] (e6 a.aF) :=
 ⟨⟨_, _, Ff T, T.fS.binds fun _ _ _ _ _ _ => .all fun us hl => match us, hl with | [_, _], _ => rfl, .nil⟩⟩
def ED : Sp := fun vs H Q _ => ∃ e s t, vs = [.int e, .int s, .int t] /\ 0 < s /\ s < 10 ^ 200 /\ Q (.int (steps e s t)) H
theorem RB {H : Hp} {Q : VK} {E : XK} {e s t : Int} (h1 : 0 < s) (h2 : s < 10 ^ 200) (q : Q (.int (steps e s t)) H) : ED [.int e, .int s, .int t] H Q E := ⟨e, s, t, rfl, h1, h2, q⟩
theorem OA (T : Txt K mg a) : aK P w K mg base eS 1 a.cO a.xQ ["end", "span", "now"] ED := by
 refine T.qf.ok Fg (fun vs H Q E h => ?_) (fun cJ A outer s H vs Q E hr h => ?_)
 . obtain ⟨_, _, _, rfl, _⟩ := h; rfl
 . obtain ⟨e, s, t, rfl, h1, h2, k⟩ := h
   refine ⟨_, (ai (aA (bw (nu rfl) rfl T.t7 PyProof.Rows.boot_max (ae af (ae (aw bo (aw b9 (aw dR (pv 2) (pv 0)) (pv 1)) af) aj))))), ?_⟩
   repeat' (walk_at "rd1")
   rename_i x hx hx1 hx2
   have e0 : x = steps e s t := by unfold steps; omega
   subst e0
   exact k
theorem Mw (T : Txt K mg a) : dr P w K mg base 1 a.cO ["end", "span", "now"] [] ED :=
 ⟨⟨_, _, OA T, T.qf.binds fun _ _ _ _ _ _ => .all fun us hl => match us, hl with | [_, _, _], _ => rfl, .nil⟩⟩
local macro_rules | `(tactic| walk_at "use") => `(tactic| first | ((with_reducible refine' RB ?e1 ?e2 ?_); (case e1 => omega); (case e2 => omega)) | fail)
theorem Oi {e span now : Int} (hs : 0 < span) : now < e + steps e span now * span := by
 unfold steps
 have h1 := Int.emod_add_mul_ediv (now - e) span
 have h2 := Int.emod_lt_of_pos (now - e) hs
 have h0 := Int.emod_nonneg (now - e) (show span ≠ 0 by omega)
 rcases Int.le_total 0 ((now - e) / span + 1) with h | h
 . rw [Int.max_eq_right h, Int.add_mul, Int.one_mul, Int.mul_comm]
   omega
 . rw [Int.max_eq_left h, Int.zero_mul]
   have h3 : (now - e) / span <= -1 := by omega
   have h4 := Int.mul_le_mul_of_nonneg_left h3 (show (0 : Int) <= span by omega)
   omega
def Hy (st sp wd n t : Int) : Int := n + 1 + steps (st + (n + 1) * sp + wd) sp t
def Jn (C : Addr) : Sp := fun vs H Q _ => ∃ v st sp wd m n s t, vs = [v, .int n, .int s, .int t] /\ SJ m /\ qg H v C [("many", m), ("start", .int st), ("step", .int sp), ("wide", .int wd)] /\ 0 <= st /\ 1 <= sp /\ sp < 10 ^ 100 /\ 0 <= wd /\ 0 <= n /\ n < 10 ^ 100 /\ t < 10 ^ 100
 /\ ∀ v' H', ax H H' -> Dv H' v' (.tuple [.int (Ks m (Hy st sp wd n t)), JT m (Hy st sp wd n t) (.tuple [.int (st + Hy st sp wd n t * sp), .int (st + Hy st sp wd n t * sp + wd)])]) -> Q v' H'
theorem XH (T : Txt K mg a) : aK P w K mg base eS 2 a.cX a.ud ["self", "number", "last", "now"] (Jn a.aF) := by
 have jn : dr P w K mg base 1 a.aR ["self", "number"] [] (e6 a.aF) := u9 T
 have Kq : dr P w K mg base 1 a.a7 ["self", "number", "stretch"] [] (kL a.aF) := GU T T.c4 T.eM
 have GC := Mw (P := P) (w := w) (base := base) T
 have cl := T.c4
 have n2 := T.dF
 have jg := T.f6
 have J6 := T.rz
 refine T.nj.ok jR (fun vs H Q E h => ?_) (fun cJ A outer s H vs Q E hr h => ?_)
 . obtain ⟨_, _, _, _, _, _, _, _, rfl, _⟩ := h; rfl
 . obtain ⟨v, st, sp, wd, m, n, sd, t, rfl, ho, hp, h0, h1, h2, h3, h4, h5, h6, k⟩ := h
   have hm : 0 <= (n + 1) * sp := Int.mul_nonneg (by omega) (by omega)
   have hs0 := Iz (e := st + (n + 1) * sp + wd) (span := sp) (now := t)
   have hs1 : steps (st + (n + 1) * sp + wd) sp t <= 10 ^ 100 + 1 := OG (by omega) (by omega) (by decide)
   refine ⟨_, (ah (aI (i := 4) jR.nd rfl (Or.inl rfl) (aP cf (aC (pv 0) cl jg jn (hr.mono (by decide)) (ae (aw bo (pv 1) af) aj)) af (fun _ _ => rfl)))
    (ah (aI (i := 5) jR.nd rfl (Or.inl rfl) (aw bo (aw bo (pv 1) af) (bW GC (hr.mono (by decide)) rfl T.xf T.xZ (ae (pv 4) (ae (ay (pv 0) rfl) (ae (pv 3) aj))))))
    (ai (aA (aC (pv 0) cl J6 Kq (hr.mono (by decide)) (ae (pv 5) (ae (aC (pv 0) cl jg jn (hr.mono (by decide)) (ae (pv 5) aj)) aj))))))), ?_⟩
   repeat' (walk_at "rd1")
   (refine k _ _ ?_ ?_; walk_at "same"; walk_at "dat")
theorem SW (T : Txt K mg a) : dr P w K mg base 2 a.cX ["self", "number", "last", "now"] [] (Jn a.aF) :=
 ⟨⟨_, _, XH T, T.nj.binds fun _ _ _ _ _ _ => .all fun us hl => match us, hl with | [_, _, _, _], _ => rfl, .nil⟩⟩
def yU (C : Addr) : Sp := fun vs H Q _ => ∃ v st sp wd m, vs = [v] /\ qg H v C [("many", m), ("start", .int st), ("step", .int sp), ("wide", .int wd)] /\ (-(10 ^ 200) < sp /\ sp < 10 ^ 200) /\ ∀ v' H', ax H H' -> Dv H' v' (.tuple [.int st, .int (st + wd)]) -> Q v' H'
theorem Ke (T : Txt K mg a) : aK P w K mg base eS 2 a.dH a.xK ["self"] (yU a.aF) := by
 have jn : dr P w K mg base 1 a.aR ["self", "number"] [] (e6 a.aF) := u9 T
 have cl := T.c4
 have jg := T.f6
 refine T.qk.ok Fq (fun vs H Q E h => ?_) (fun cJ A outer s H vs Q E hr h => ?_)
 . obtain ⟨_, _, _, _, _, rfl, _⟩ := h; rfl
 . obtain ⟨v, st, sp, wd, m, rfl, hp, b2, k⟩ := h
   refine ⟨_, (ai (aA (aC (pv 0) cl jg jn (hr.mono (by decide)) (ae af aj)))), ?_⟩
   repeat' (walk_at "rd1")
   rename_i hx
   rw [Int.zero_mul, Int.add_zero] at hx
   (refine k _ _ ?_ ?_; walk_at "same"; walk_at "dat")
theorem Hz (T : Txt K mg a) : dr P w K mg base 2 a.dH ["self"] [] (yU a.aF) :=
 ⟨⟨_, _, Ke T, T.qk.binds fun _ _ _ _ _ _ => .all fun us hl => match us, hl with | [_], _ => rfl, .nil⟩⟩
def EJ (C : Addr) : Sp := fun vs H Q _ => ∃ v st sp wd m, vs = [v] /\ qg H v C [("many", m), ("start", .int st), ("step", .int sp), ("wide", .int wd)] /\ SJ m /\ 0 <= st /\ 1 <= sp /\ 0 <= wd /\ wd < sp /\ ∀ v' H', ax H H' -> qg H' v' C [("many", m), ("start", .int st), ("step", .int sp), ("wide", .int wd)] -> Q v' H'
theorem Qz (T : Txt K mg a) : aK P w K mg base eS 6 a.d6 a.Am ["self"] (EJ a.aF) := by
 have EW := DU (P := P) (w := w) (base := base) T
 have cl := T.c4
 have n0 := T.eM; have n1 := T.dP; have n2 := T.dF; have n3 := T.eP
 refine T.uc.ok GZ (fun vs H Q E h => ?_) (fun cJ A outer s H vs Q E hr h => ?_)
 . obtain ⟨_, _, _, _, _, rfl, _⟩ := h; rfl
 . obtain ⟨v, st, sp, wd, m, rfl, hp, ho, h0, h1, h2, h3, k⟩ := h
   refine ⟨_, (ai (aA (DM T.Km EW (hr.mono (by decide)) rfl T.Hd (ae (ay (pv 0) rfl) (ae (ay (pv 0) rfl) (ae (ay (pv 0) rfl) (ae (ay (pv 0) rfl) aj))))))), ?_⟩
   repeat' (walk_at "rd1")
   . exact ⟨_, _, _, _, rfl, by omega, by omega, by omega, by omega, ho⟩
   . rename_i hi
     exact k _ _ (by walk_at "same") hi
theorem Mh (T : Txt K mg a) : dr P w K mg base 6 a.d6 ["self"] [] (EJ a.aF) :=
 ⟨⟨_, _, Qz T, T.uc.binds fun _ _ _ _ _ _ => .all fun us hl => match us, hl with | [_], _ => rfl, .nil⟩⟩
inductive RU where
 | each (st sp wd : Int) (m : V)
def sW (a : Ad) (H : Hp) (v : V) : RU -> Prop
 | .each st sp wd m => qg H v a.aF [("many", m), ("start", .int st), ("step", .int sp), ("wide", .int wd)] /\ SJ m /\ 0 <= st /\ st < 10 ^ 50 /\ 1 <= sp /\ sp < 10 ^ 50 /\ 0 <= wd /\ wd < sp
theorem sW.keeps {H H' : Hp} {v : V} {r : RU} (s : ax H H') (h : sW a H v r) : sW a H' v r := by
 cases r <;> exact ⟨qg.keeps s h.1, h.2⟩
theorem sW.fr {cs S : List Addr} {H H' : Hp} {v : V} {r : RU} (f : Fr cs S H H')
 (nE : a.aF ∉ cs)
 (h : sW a H v r) : sW a H' v r := by
 cases r with
 | each => exact ⟨f.ins nE h.1, h.2⟩
local macro_rules | `(tactic| walk_at "ris") => `(tactic| first | (refine' sW.keeps ?s ?m; (case s => assumption); (case m => walk_at "ris")) | fail)
set_option hygiene false in
local macro_rules | `(tactic| walk_at "ris") => `(tactic| first | assumption | fail)
def pD (p : Int × Int) : PyData := .tuple [.int p.1, .int p.2]
def QR : Option (Int × Int) -> PyData
 | none => .none
 | some p => pD p
def BK (m : V) (k : Int) (p : Int × Int) : Int × Option (Int × Int) := match m with
 | .int i => if i <= k then (i, none) else (k, some p)
 | _ => (k, some p)
theorem Vg {m : V} {k x y : Int} : PyData.tuple [.int (Ks m k), JT m k (.tuple [.int x, .int y])] = .tuple [.int (BK m k (x, y)).1, QR (BK m k (x, y)).2] := by
 cases m with
 | int i =>
   by_cases h : i <= k
   . rw [Ln h, La h]; simp [BK, h, QR]
   . rw [KP h, KO h]; simp [BK, h, QR, pD]
 | _ => rfl
def Kh : RU -> Int × Int
 | .each st _ wd _ => (st, st + wd)
def OJ : RU -> Int -> Int -> Int -> Int × Option (Int × Int)
 | .each st sp wd m, n, _, t => BK m (Hy st sp wd n t) (st + Hy st sp wd n t * sp, st + Hy st sp wd n t * sp + wd)
theorem XC {r : RU} {n s t x y : Int} {H : Hp} {v : V} (h : sW a H v r) (e : (OJ r n s t).2 = some (x, y)) : t < y /\ x <= y /\ n < (OJ r n s t).1 := by
 have key : ∀ {m : V} {k : Int} {p : Int × Int}, (BK m k p).2 = some (x, y) -> p = (x, y) /\ (BK m k p).1 = k := by
  intro m k p e
  cases m with
  | int i =>
    by_cases h : i <= k
    . simp [BK, h] at e
    . simp only [BK, if_neg h] at e ⊢
      exact ⟨Option.some.inj e, trivial⟩
  | _ => exact ⟨Option.some.inj e, rfl⟩
 cases r with
 | each st sp wd m =>
   obtain ⟨_, _, _, _, h1, _, h2, _⟩ := h
   obtain ⟨e1, e2⟩ := key e
   have g := Oi (e := st + (n + 1) * sp + wd) (span := sp) (now := t) (by omega)
   have hn := Iz (e := st + (n + 1) * sp + wd) (span := sp) (now := t)
   have e3 : Hy st sp wd n t * sp = (n + 1) * sp + steps (st + (n + 1) * sp + wd) sp t * sp := Int.add_mul _ _ _
   cases e1
   refine ⟨by omega, by omega, ?_⟩
   show n < (BK m (Hy st sp wd n t) _).1
   rw [e2]
   unfold Hy
   omega
section
variable {H : Hp} {Q : VK} {E : XK} {v : V} {st sp gp mo wd f l n s t : Int} {m : V}
theorem aak (h : sW a H v (.each st sp wd m)) (q : ∀ v' H', ax H H' -> Dv H' v' (pD (Kh (.each st sp wd m))) -> Q v' H') : yU a.aF [v] H Q E := by
 obtain ⟨hp, ho, r0, r1, r2, r3, r4, r5⟩ := h
 exact ⟨v, st, sp, wd, m, rfl, hp, ⟨by omega, by omega⟩, q⟩
theorem YN (h : sW a H v (.each st sp wd m)) (q : ∀ v' H', ax H H' -> sW a H' v' (.each st sp wd m) -> Q v' H') : EJ a.aF [v] H Q E := by
 obtain ⟨hp, ho, r0, r1, r2, r3, r4, r5⟩ := h
 exact ⟨v, st, sp, wd, m, rfl, hp, ho, r0, r2, r4, r5, fun v' H' s' i => q v' H' s' ⟨i, ho, r0, r1, r2, r3, r4, r5⟩⟩
theorem aal (h : sW a H v (.each st sp wd m)) (h1 : 0 <= n) (h2 : n < 10 ^ 99) (h3 : t < 10 ^ 80) (q : ∀ v' H', ax H H' -> Dv H' v' (.tuple [.int (OJ (.each st sp wd m) n s t).1, QR (OJ (.each st sp wd m) n s t).2]) -> Q v' H') : Jn a.aF [v, .int n, .int s, .int t] H Q E := by
 obtain ⟨hp, ho, r0, r1, r2, r3, r4, r5⟩ := h
 exact ⟨v, st, sp, wd, m, n, s, t, rfl, ho, hp, r0, r2, by omega, r4, h1, by omega, by omega, fun v' H' s' d => q v' H' s' (by rw [Vg] at d; exact d)⟩
end
local macro_rules | `(tactic| walk_at "use") => `(tactic| first | ((with_reducible refine' aal ?e ?e1 ?e2 ?e3 (fun _ _ _ _ => ?_)); (case e => walk_at "ris"); (case e1 => omega); (case e2 => omega); (case e3 => omega)) | fail)
local macro_rules | `(tactic| walk_at "use") => `(tactic| first | ((with_reducible refine' YN ?e (fun _ _ _ _ => ?_)); case e => walk_at "ris") | fail)
local macro_rules | `(tactic| walk_at "use") => `(tactic| first | ((with_reducible refine' aak ?e (fun _ _ _ _ => ?_)); case e => walk_at "ris") | fail)
def zo (ts : List (Str × Int)) : List (Str × PyData) := ts.map fun x => (x.1, .int x.2)
structure Cr (C : Addr) (H : Hp) (v : V) (d : Addr) (n : Int) (ts : List (Str × Int)) : Prop where
 ins : qg H v C [("now", .int n), ("times", .ref d)]
 dat : pq H d (zo ts)
theorem Cr.keeps {C : Addr} {H H' : Hp} {v : V} {d : Addr} {n : Int} {ts : List (Str × Int)} (s : ax H H') (h : Cr C H v d n ts) : Cr C H' v d n ts := ⟨h.ins.keeps s, h.dat.keeps s⟩
theorem LQ (ts : List (Str × Int)) : (zo ts).length = ts.length := List.length_map ..
def uQ : Sp := fun vs H Q _ => ∃ v n t, vs = [v, n, t] /\ Q .aT H
theorem RQ {H : Hp} {Q : VK} {E : XK} {v n t : V} (q : Q .aT H) : uQ [v, n, t] H Q E := ⟨v, n, t, rfl, q⟩
set_option hygiene false in
local macro_rules | `(tactic| walk_at "use") => `(tactic| first | with_reducible refine RQ ?_ | fail)
theorem PD (T : Txt K mg a) : aK P w K mg base eS 1 a.dY a.zO ["self", "name", "time"] uQ := by
 refine T.tW.ok GR (fun vs H Q E h => ?_) (fun cJ A outer s H vs Q E hr h => ?_)
 . obtain ⟨_, _, _, rfl, _⟩ := h; rfl
 . obtain ⟨v, n, t, rfl, q⟩ := h
   refine ⟨_, (ai Lj), ?_⟩
   repeat' (walk_at "rd1")
   exact q
theorem LW (T : Txt K mg a) : dr P w K mg base 1 a.dY ["self", "name", "time"] [] uQ :=
 ⟨⟨_, _, PD T, T.tW.binds fun _ _ _ _ _ _ => .all fun us hl => match us, hl with | [_, _, _], _ => rfl, .nil⟩⟩
theorem HJ {m : List (Str × PyData)} {k : Str} {d : PyData} (h : hX m k = none) : putD m k d = m ++ [(k, d)] := by
 unfold putD
 rw [if_neg]
 unfold hX at h
 rw [Option.map_eq_none_iff, List.find?_eq_none] at h
 simp only [List.any_eq_true, not_exists, not_and]
 exact h
theorem DG {C d : Addr} {H H' : Hp} {v : V} {fs : List (Str × V)} {m : List (Str × PyData)} (h : qg H v C fs) (hd : pq H d m) (mv : Mv [d] H H') : qg H' v C fs := by
 obtain ⟨p, dx, rfl, e⟩ := h
 obtain ⟨kvs, e2, _⟩ := hd
 exact ⟨p, dx, rfl, mv.at (by simpa using jC e e2 (by intro y; cases y)) e⟩
def JR (C : Addr) : Sp := fun vs H Q _ => ∃ v d n ts x t, vs = [v, .str x, .int t] /\ Cr C H v d n ts /\ ts.length <= 100 /\ hX (zo ts) x = none /\ n < t /\ ∀ H', Mv [d] H H' -> Cr C H' v d n (ts ++ [(x, t)]) -> Q .aT H'
theorem Zg {C : Addr} {H : Hp} {Q : VK} {E : XK} {v : V} {d : Addr} {n t : Int} {ts : List (Str × Int)} {x : Str} (h : Cr C H v d n ts) (hl : ts.length <= 100) (hx : hX (zo ts) x = none) (ht : n < t) (q : ∀ H', Mv [d] H H' -> Cr C H' v d n (ts ++ [(x, t)]) -> Q .aT H') : JR C [v, .str x, .int t] H Q E := ⟨v, d, n, ts, x, t, rfl, h, hl, hx, ht, q⟩
theorem Vb (T : Txt K mg a) : aK P w K mg base eS 2 a.dA a.Bf ["self", "name", "time"] (JR a.aD) := by
 have n1 := T.cT; have n2 := T.bp; have cl := T.cG
 have Q5 := T.Dg
 have RG := LW (P := P) (w := w) (base := base) T
 refine T.wg.ok GW (fun vs H Q E h => ?_) (fun cJ A outer s H vs Q E hr h => ?_)
 . obtain ⟨_, _, _, _, _, _, rfl, _⟩ := h; rfl
 . obtain ⟨v, d, n, ts, x, t, rfl, hw, hl, hx, ht, q⟩ := h
   have hi := hw.ins; have hd := hw.dat
   have hml := LQ ts
   refine ⟨_, (ah (bM (GY (PU (oB hr) (pv 1) (ay (pv 0) rfl)) rfl)
    (ai b8)
    aH)
    (ah (bM (aL Ot (pv 2) (ay (pv 0) rfl) (aN _))
     (ai b8)
     aH)
    (ah (DI (oB hr) (ay (pv 0) rfl) (pv 1) (pv 2) rfl)
    (ai (aO (aC (pv 0) cl Q5 RG (hr.mono (by decide)) (ae (pv 1) (ae (pv 2) aj)))))))), ?_⟩
   repeat' (walk_at "rd1")
   . rename_i o e hb
     rw [e, hx] at hb
     cases hb
   . rename_i o e hb1 YB H2 wA hd2
     have HW := DG hi hd wA
     rw [HJ hx] at hd2
     repeat' (walk_at "rd1")
     exact q _ wA ⟨HW, by unfold zo at hd2 ⊢; rw [List.map_append]; exact hd2⟩
theorem S3 (T : Txt K mg a) : dr P w K mg base 2 a.dA ["self", "name", "time"] [] (JR a.aD) :=
 ⟨⟨_, _, Vb T, T.wg.binds fun _ _ _ _ _ _ => .all fun us hl => match us, hl with | [_, _, _], _ => rfl, .nil⟩⟩
theorem O5 (T : Txt K mg a) : aK P w K mg base eS 1 a.eG a.Ap ["self", "name", "time"] uQ := by
 refine T.vR.ok GA (fun vs H Q E h => ?_) (fun cJ A outer s H vs Q E hr h => ?_)
 . obtain ⟨_, _, _, rfl, _⟩ := h; rfl
 . obtain ⟨v, n, t, rfl, q⟩ := h
   refine ⟨_, (ai Lj), ?_⟩
   repeat' (walk_at "rd1")
   exact q
theorem NA (T : Txt K mg a) : dr P w K mg base 1 a.eG ["self", "name", "time"] [] uQ :=
 ⟨⟨_, _, O5 T, T.vR.binds fun _ _ _ _ _ _ => .all fun us hl => match us, hl with | [_, _, _], _ => rfl, .nil⟩⟩
def B7 (C : Addr) : Sp := fun vs H Q _ => ∃ v d n ts x t, vs = [v, .str x] /\ Cr C H v d n ts /\ hX (zo ts) x = some (.int t) /\ Q .aT H
theorem N9 {C : Addr} {H : Hp} {Q : VK} {E : XK} {v : V} {d : Addr} {n t : Int} {ts : List (Str × Int)} {x : Str} (h : Cr C H v d n ts) (hx : hX (zo ts) x = some (.int t)) (q : Q .aT H) : B7 C [v, .str x] H Q E := ⟨v, d, n, ts, x, t, rfl, h, hx, q⟩
theorem ML (T : Txt K mg a) : aK P w K mg base eS 1 a.aQ a.gW ["self", "name"] (B7 a.aD) := by
 have n2 := T.bp; have cl := T.cG
 refine T.eU.ok t9 (fun vs H Q E h => ?_) (fun cJ A outer s H vs Q E hr h => ?_)
 . obtain ⟨_, _, _, _, _, _, rfl, _⟩ := h; rfl
 . obtain ⟨v, d, n, ts, x, t, rfl, hw, hx, q⟩ := h
   have hi := hw.ins; have hd := hw.dat
   refine ⟨_, (ai (bM (GY (Gg (oB hr) (pv 1) (ay (pv 0) rfl)) rfl)
    (ai b8)
    aH)), ?_⟩
   repeat' (walk_at "rd1")
   . rename_i o e hb
     rw [e, hx] at hb
     cases hb
   . exact q
theorem J9 (T : Txt K mg a) : dr P w K mg base 1 a.aQ ["self", "name"] [] (B7 a.aD) :=
 ⟨⟨_, _, ML T, T.eU.binds fun _ _ _ _ _ _ => .all fun us hl => match us, hl with | [_, _], _ => rfl, .nil⟩⟩
def DT (C : Addr) : Sp := fun vs H Q _ => ∃ v d n ts x t, vs = [v, .str x] /\ Cr C H v d n ts /\ hX (zo ts) x = some (.int t) /\ ∀ H', Mv [d] H H' -> Cr C H' v d n (ts.filter fun y => decide (y.1 ≠ x)) -> ∀ z, Q z H'
theorem S2 {C : Addr} {H : Hp} {Q : VK} {E : XK} {v : V} {d : Addr} {n t : Int} {ts : List (Str × Int)} {x : Str} (h : Cr C H v d n ts) (hx : hX (zo ts) x = some (.int t)) (q : ∀ H', Mv [d] H H' -> Cr C H' v d n (ts.filter fun y => decide (y.1 ≠ x)) -> ∀ z, Q z H') : DT C [v, .str x] H Q E := ⟨v, d, n, ts, x, t, rfl, h, hx, q⟩
theorem Qu (T : Txt K mg a) : aK P w K mg base eS 2 a.cQ a.xx ["self", "name"] (DT a.aD) := by
 have n1 := T.cT; have n2 := T.bp; have cl := T.cG
 have Sd := T.C1; have Fs := T.lG
 have SD := NA (P := P) (w := w) (base := base) T
 have Fd := J9 (P := P) (w := w) (base := base) T
 refine T.ql.ok xH (fun vs H Q E h => ?_) (fun cJ A outer s H vs Q E hr h => ?_)
 . obtain ⟨_, _, _, _, _, _, rfl, _⟩ := h; rfl
 . obtain ⟨v, d, n, ts, x, t, rfl, hw, hx, q⟩ := h
   have hi := hw.ins; have hd := hw.dat
   refine ⟨_, (ah (aO (aC (pv 0) cl Fs Fd (hr.mono (by decide)) (ae (pv 1) aj)))
    (ah (aI (i := 2) xH.nd rfl (Or.inl rfl) (Il PySem.F.plainAttrs_dict PySem.F.slot_dict_pop PySem.F.type_dict_pop DH (ay (pv 0) rfl) (ae (pv 1) aj)))
    (ah (aO (aC (pv 0) cl Sd SD (hr.mono (by decide)) (ae (pv 1) (ae (pv 2) aj))))
    (ai (aA (pv 2)))))), ?_⟩
   repeat' (walk_at "rd1")
   refine N9 hw hx ?_
   repeat' (walk_at "rd1")
   refine NS hd ?_
   repeat' (walk_at "rd1")
   refine Jk hd hx (fun v6 H6 XO VP => ?_)
   have Yi := DG hi hd XO
   repeat' (walk_at "rd1")
   refine q _ XO ⟨Yi, ?_⟩ _
   have e : zo (ts.filter fun y => decide (y.1 ≠ x)) = kM (zo ts) x := by
    unfold kM zo
    rw [List.filter_map]; rfl
   rw [e]; exact VP
theorem L9 (T : Txt K mg a) : dr P w K mg base 2 a.cQ ["self", "name"] [] (DT a.aD) :=
 ⟨⟨_, _, Qu T, T.ql.binds fun _ _ _ _ _ _ => .all fun us hl => match us, hl with | [_, _], _ => rfl, .nil⟩⟩
def Eg (C : Addr) : Sp := fun vs H Q _ => ∃ p dx n, vs = [.ref p, .int n] /\ H p = some (.ins C dx []) /\ ∀ H' d, Mv [p] H H' -> H d = none -> Cr C H' (.ref p) d n [] -> Q .aT H'
theorem O0 (T : Txt K mg a) : aK P w K mg base eS 1 a.a8 a.kO ["self", "now"] (Eg a.aD) := by
 have n1 := T.cT; have n2 := T.bp; have cl := T.cG
 refine T.gD.ok AJ (fun vs H Q E h => ?_) (fun cJ A outer s H vs Q E hr h => ?_)
 . obtain ⟨_, _, _, rfl, _⟩ := h; rfl
 . obtain ⟨p, dx, n, rfl, hp, q⟩ := h
   refine ⟨_, (ah (aX (pv 0) (pv 1) rfl)
    (ai (aX (pv 0) tf rfl))), ?_⟩
   repeat' (walk_at "rd1")
   rename_i d H2 FI Ct hd2
   have Jg : Mv [p] H (upd H p (.ins a.aD dx [("now", .int n)])) := .bP hp (by intro _ z; cases z)
   have e2 := FI p _ au
   have wA : Mv [p] H2 (upd H2 p (.ins a.aD dx [("now", .int n), ("times", .ref d)])) := .bP e2 (by intro _ z; cases z)
   have hn : H d = none := Jg.none Ct
   have hpd : d ≠ p := Ne.symm (aB hp hn)
   exact q _ d (Jg.trans ((FI.mv (S := [p])).trans wA)) hn ⟨⟨p, dx, rfl, au⟩, hd2.mv wA (by simpa using hpd)⟩
theorem M6 (T : Txt K mg a) : dr P w K mg base 1 a.a8 ["self", "now"] [] (Eg a.aD) :=
 ⟨⟨_, _, O0 T, T.gD.binds fun _ _ _ _ _ _ s us kx hl => by
   obtain ⟨o, n, h1, h2⟩ := T.nB.ex
   have hl : us.length = 2 := by simp at hl; omega
   match us, hl with
   | [_, _], _ => exact PySem.W.binds_K kx rfl h1 h2 rfl rfl, .nil⟩⟩
theorem Td {C : Addr} {H : Hp} {Q : VK} {E : XK} {n : Int} {us : List V} (eu : us = [.int n]) (k : ∀ v H2 d, ax H H2 -> H d = none -> Cr C H2 v d n [] -> Q v H2) : CG C (Eg C) us H Q E := by
 refine ⟨_, eu, fun x dx hx hd ne => ⟨x, dx, n, rfl, au, fun H' d mv h1 hg => ⟨rfl, ?_⟩⟩⟩
 have z : ∀ {d : Addr}, upd (upd H dx (.own x)) x (.ins C dx []) d = none -> H d = none := by
  intro d h
  unfold upd at h
  split at h
  . cases h
  . split at h
    . cases h
    . exact h
 refine k _ _ d (fun b u e => ?_) (z h1) hg
 have hb : b ≠ x := aB e hx
 refine mv.kp b u (by simpa using hb) ?_
 rw [av hb, av (aB e hd)]
 exact e
def Gi (C : Addr) : Sp := fun vs H Q _ => ∃ v d n ts x, vs = [v, .str x] /\ Cr C H v d n ts /\ (∀ t, hX (zo ts) x = some (.int t) -> Q (.int t) H) /\ (hX (zo ts) x = none -> Q .aT H)
theorem SQ {ts : List (Str × Int)} {x : Str} {e : PyData} (h : hX (zo ts) x = some e) : ∃ t, e = .int t := by
 unfold hX at h
 obtain ⟨kv, h1, rfl⟩ := Option.map_eq_some_iff.mp h
 obtain ⟨y, _, rfl⟩ := List.mem_map.mp (List.mem_of_find?_eq_some h1)
 exact ⟨_, rfl⟩
theorem LZ (T : Txt K mg a) : aK P w K mg base eS 1 a.bC a.o8 ["self", "name"] (Gi a.aD) := by
 have n1 := T.cT; have n2 := T.bp; have cl := T.cG
 refine T.iy.ok BW (fun vs H Q E h => ?_) (fun cJ A outer s H vs Q E hr h => ?_)
 . obtain ⟨_, _, _, _, _, rfl, _⟩ := h; rfl
 . obtain ⟨v, d, n, ts, x, rfl, hw, q1, q2⟩ := h
   have hi := hw.ins; have hd := hw.dat
   refine ⟨_, (ai (aA (Qh (oB hr) (ay (pv 0) rfl) (pv 1) ⟨rfl, rfl, rfl, rfl⟩))), ?_⟩
   repeat' (walk_at "rd1")
   refine QE hd (fun e he v' hv' => ?_) (fun he => ?_)
   . obtain ⟨t, rfl⟩ := SQ he
     obtain rfl := hv'.int_inv
     exact q1 t he
   . exact q2 he
theorem Kc (T : Txt K mg a) : dr P w K mg base 1 a.bC ["self", "name"] [] (Gi a.aD) :=
 ⟨⟨_, _, LZ T, T.iy.binds fun _ _ _ _ _ _ => .all fun us hl => match us, hl with | [_, _], _ => rfl, .nil⟩⟩
def IJ (C : Addr) : Sp := fun vs H Q _ => ∃ v d n ts, vs = [v] /\ Cr C H v d n ts /\ (ts = [] -> Q .aT H) /\ (∀ t ∈ ts.map (·.2), (∀ u ∈ ts.map (·.2), t <= u) -> Q (.int t) H)
theorem Pa (T : Txt K mg a) : aK P w K mg base eS 1 a.cu a.uZ ["self"] (IJ a.aD) := by
 have n1 := T.cT; have n2 := T.bp; have cl := T.cG
 refine T.m9.ok EA (fun vs H Q E h => ?_) (fun cJ A outer s H vs Q E hr h => ?_)
 . obtain ⟨_, _, _, _, rfl, _⟩ := h; rfl
 . obtain ⟨v, d, n, ts, rfl, hw, q1, q2⟩ := h
   have hi := hw.ins; have hd := hw.dat
   refine ⟨_, (ah (bM (qd (cE (ay (pv 0) rfl) (fun _ => rfl)))
    (ai (aA cK))
    aH)
    (ai (aA (Tg (ay (pv 0) rfl) rfl rfl T.EI)))), ?_⟩
   repeat' (walk_at "rd1")
   refine Sy hd ?_
   repeat' (walk_at "rd1")
   . rename_i hb
     exact q1 (by cases ts with | nil => rfl | cons y r => simp [zo] at hb)
   . rename_i hb
     have K7 : 0 < (ts.map (·.2)).length := by
      cases ts with
      | nil => simp [zo] at hb
      | cons y r => simp
     refine Vo hd (ns := ts.map (·.2)) (by unfold zo; rw [List.map_map, List.map_map]; rfl) K7 (fun t ht hm => ?_)
     exact q2 t ht hm
theorem LU (T : Txt K mg a) : dr P w K mg base 1 a.cu ["self"] [] (IJ a.aD) :=
 ⟨⟨_, _, Pa T, T.m9.binds fun _ _ _ _ _ _ => .all fun us hl => match us, hl with | [_], _ => rfl, .nil⟩⟩
def leD (t : Int) (x : Str × PyData) : Bool := match x.2 with
 | .int u => decide (u <= t)
 | _ => false
def UR (x : Str × Int) : Int × Str := (x.2, x.1)
def Srt (ks : List (Int × Str)) : Prop := ks.Pairwise fun c d => iO d c = false
theorem DF {α : Type} (l : List α) : l.filter (fun _ => true) = l := List.filter_eq_self.mpr fun _ _ => rfl
def B6 (C : Addr) : Sp := fun vs H Q _ => ∃ v d n ts t, vs = [v, .int t] /\ Cr C H v d n ts /\ ts.length < 60 /\ ∀ q H', ax H H' -> H q = none -> eT H' q (((ts.filter fun x => decide (x.2 <= t)).map (·.1)).map PyData.str) -> Q (.ref q) H'
theorem Qx {C : Addr} {H : Hp} {Q : VK} {E : XK} {v : V} {d : Addr} {n t : Int} {ts : List (Str × Int)} (h : Cr C H v d n ts) (hl : ts.length < 60) (q : ∀ q H', ax H H' -> H q = none -> eT H' q (((ts.filter fun x => decide (x.2 <= t)).map (·.1)).map PyData.str) -> Q (.ref q) H') : B6 C [v, .int t] H Q E := ⟨v, d, n, ts, t, rfl, h, hl, q⟩
theorem MO (T : Txt K mg a) : aK P w K mg base eS 1 a.cY a.vT ["self", "to"] (B6 a.aD) := by
 have n1 := T.cT; have n2 := T.bp; have cl := T.cG
 refine T.mY.ok Eu (fun vs H Q E h => ?_) (fun cJ A outer s H vs Q E hr h => ?_)
 . obtain ⟨_, _, _, _, _, rfl, _⟩ := h; rfl
 . obtain ⟨v, d, n, ts, t, rfl, hw, hl, q⟩ := h
   have hi := hw.ins; have hd := hw.dat
   refine ⟨_, (ai (aA (Te (E8 (T := ["name", "time"]) (M := ["self", "to"]) (UG (ak gJ) ["self", "to"] rfl rfl (by decide +kernel)) rfl (Ql (ay (pv 0) rfl)) (fun _ _ _ _ _ => (Lp (K := K) (n := 2) rfl rfl (ef (bq (i := 0) (show List.Nodup (["name", "time", "self", "to"] : List Str) by decide +kernel) rfl (Or.inl rfl)) (ef (bq (i := 1) (show List.Nodup (["name", "time", "self", "to"] : List Str) by decide +kernel) rfl (Or.inl rfl)) zJ)))) (Ie (pN (by decide) (pN (by decide) Gb))) (fun _ _ _ _ _ => (GI (aL Ot (pv 1) (pv 3) (aN _)))) (fun _ _ _ _ _ => (pv 0)))))), ?_⟩
   repeat' (walk_at "rd1")
   refine ZK hd (fun R hR => ?_) (leD t) (fun x => .str x.1) (by rw [LQ]; omega) (fun _ => rfl) (fun y c Hf H2 N hc mvf hrd FI hy yes no => ?_) (fun q1 H1 Zv F8 EB => ?_)
   . repeat' (walk_at "rd1")
     exact hR
   . obtain ⟨x, hx, rfl⟩ := List.mem_map.mp hc
     refine GV hy (fun w1 w2 f1 f2 => ?_)
     obtain rfl := f1.str_inv
     obtain rfl := f2.int_inv
     repeat' (walk_at "rd1")
     refine CN (fun hb => ?_) (fun hb => no hb _ (ax.refl _))
     repeat' (walk_at "rd1")
     exact yes hb _ _ (ax.refl _) (.str _)
   have WO : eT H1 q1 (((ts.filter fun x => decide (x.2 <= t)).map (·.1)).map PyData.str) := by
    unfold zo at EB
    rw [List.filter_map, List.map_map] at EB
    rw [List.map_map]; exact EB
   repeat' (walk_at "rd1")
   exact q q1 H1 Zv F8 WO
theorem Ku (T : Txt K mg a) : dr P w K mg base 1 a.cY ["self", "to"] [] (B6 a.aD) :=
 ⟨⟨_, _, MO T, T.mY.binds fun _ _ _ _ _ _ => .all fun us hl => match us, hl with | [_, _], _ => rfl, .nil⟩⟩
theorem DY {ts : List (Str × Int)} (h : (ts.map (·.1)).Nodup) {x : Str × Int} (hx : x ∈ ts) : hX (zo ts) x.1 = some (.int x.2) := by
 unfold hX zo
 rw [List.find?_map]
 induction ts with
 | nil => cases hx
 | cons y r ih =>
   rw [List.map_cons, List.nodup_cons] at h
   rw [List.find?_cons]
   by_cases e : y.1 = x.1
   . simp only [Function.comp, e, decide_true]
     rcases List.mem_cons.mp hx with rfl | t6
     . rfl
     . exact absurd (List.mem_map_of_mem (f := (·.1)) t6) (e ▸ h.1)
   . simp only [Function.comp, e, decide_false]
     rcases List.mem_cons.mp hx with rfl | t6
     . exact absurd rfl e
     . exact ih h.2 t6
theorem DN {α β : Type} {f : α -> β} {l : List α} {j : Nat} {c : α} (h : (l.map f).Nodup) (hc : l[j]? = some c) : f c ∉ (l.take j).map f := by
 intro hm
 obtain ⟨d, hd, e⟩ := List.mem_map.mp hm
 obtain ⟨i, hi, rfl⟩ := List.getElem_of_mem hd
 have FH : i < j := by rw [List.length_take] at hi; omega
 have RW : j < l.length := (List.getElem?_eq_some_iff.mp hc).1
 rw [List.Nodup, List.pairwise_map] at h
 have := List.pairwise_iff_getElem.mp h i j (by omega) RW FH
 rw [List.getElem_take] at e
 have QT : l[j] = c := Option.some.inj ((List.getElem?_eq_getElem RW).symm.trans hc)
 rw [QT] at this
 exact this e
theorem take_snoc {α : Type} {l : List α} {j : Nat} {c : α} (h : l[j]? = some c) : l.take (j + 1) = l.take j ++ [c] := by
 rw [List.take_add_one, h]; rfl
def OX (C : Addr) : Sp := fun vs H Q _ => ∃ p d n ts t, vs = [.ref p, .int t] /\ Cr C H (.ref p) d n ts /\ ts.length < 60 /\ (ts.map (·.1)).Nodup /\ n <= t /\ ∀ q H' ks, Mv [p, d] H H' -> H q = none -> ks.Perm ((ts.filter fun x => decide (x.2 <= t)).map UR) -> Srt ks -> eT H' q (ks.map pairD) -> Cr C H' (.ref p) d t (ts.filter fun x => !decide (x.2 <= t)) -> Q (.ref q) H'
theorem WH (T : Txt K mg a) : aK P w K mg base eS 3 a.dB a.Ba ["self", "to"] (OX a.aD) := by
 have n1 := T.cT; have n2 := T.bp; have cl := T.cG
 have Ng := T.yF
 have Np := Ku (P := P) (w := w) (base := base) T
 refine T.vW.ok jm (fun vs H Q E h => ?_) (fun cJ A outer s H vs Q E hr h => ?_)
 . obtain ⟨_, _, _, _, _, rfl, _⟩ := h; rfl
 . obtain ⟨p, d, n, ts, t, rfl, hw, hl, sy, hnt, q⟩ := h
   have hi := hw.ins; have hd := hw.dat
   refine ⟨_, (ah (bM (aL C5 (pv 1) (ay (pv 0) rfl) (aN _))
    (ai b8)
    aH)
    (ah (aI (i := 2) jm.nd rfl (Or.inl rfl) (bw KA rfl T.jq PyProof.Rows.boot_sorted (ae (E8 (T := ["name"]) (M := ["self", "to", "told", "time", "04"]) (UG (ak mH) ["self", "to", "told", "time", "name"] rfl rfl (by decide +kernel)) rfl (fE (aC (pv 0) cl Ng Np (hr.mono (by decide)) (ae (pv 1) aj))) (fun _ _ _ _ _ => (bq (i := 0) (show List.Nodup (["name", "self", "to", "told", "time", "04"] : List Str) by decide +kernel) rfl (Or.inl rfl))) (jr (by decide)) (fun _ _ _ _ _ => A9) (fun _ _ _ _ _ => (bX (ae (DJ (oB hr) (pU (K := K) rfl (pv 1) rfl) (pv 0) (fun _ _ => rfl)) (ae (pv 0) aj))))) aj)))
    (ah (aX (pv 0) (pv 1) rfl)
    (ah (zh PassesOwn.never rfl (fE (pv 2)) (Hv (n := 2) rfl (ef (bq (i := 3) jm.nd rfl (Or.inl rfl)) (ef (bq (i := 4) jm.nd rfl (Or.inl rfl)) zJ)))
     (ai (aO (Il PySem.F.plainAttrs_dict PySem.F.slot_dict_pop PySem.F.type_dict_pop DH (ay (pv 0) rfl) (ae (pv 4) aj)))))
    (ai (aA (pv 2))))))), ?_⟩
   repeat' (walk_at "rd1")
   refine Qx hw hl (fun q0 H1 Zv F8 hq0 => ?_)
   have VH := hw.keeps Zv
   have hd1 := VH.dat
   have wG := VH.ins
   have hfl : (ts.filter fun x => decide (x.2 <= t)).length <= ts.length := List.length_filter_le _ _
   refine Xx (cs := ts.filter fun x => decide (x.2 <= t)) (gd := fun x => .str x.1) (fun _ => true) (fun x => pairD (UR x)) (by have := hq0.dv; rwa [List.map_map] at this) (by omega) (fun _ => rfl) (fun y x H2 N hx FI hy yes no => ?_) (fun q1 H2 FI Ct EB => ?_)
   . have Lk := DY sy (List.mem_filter.mp hx).1
     obtain rfl := hy.str_inv
     have HW := wG.keeps FI
     have hd2 := hd1.keeps FI
     repeat' (walk_at "rd1")
     refine CN (fun hb => ?_) (fun hb => by cases hb)
     repeat' (walk_at "rd1")
     exact yes rfl _ _ (by walk_at "same") (by walk_at "dat")
   rw [DF] at EB
   have WO : Dv H2 (.ref q1) (.list (((ts.filter fun x => decide (x.2 <= t)).map UR).map pairD)) := by
    have := EB.dv
    rw [List.map_map]; exact this
   repeat' (walk_at "rd1")
   refine Rk WO (by rw [List.length_map]; omega) (fun q2 H3 ks sm3 D4 hp hs Fj => ?_)
   repeat' (walk_at "rd1")
   obtain ⟨p', dx, e, V0⟩ := (wG.keeps FI).keeps sm3
   cases e
   have X2 := (hd1.keeps FI).keeps sm3
   have hpd : d ≠ p := by
    obtain ⟨kvs, e2, _⟩ := X2
    exact jC e2 V0 (by intro y; cases y)
   have Zu : q2 ≠ p := by
    obtain ⟨xs, e2, _⟩ := Fj
    exact jC e2 V0 (by intro y; cases y)
   have hqd : q2 ≠ d := by
    obtain ⟨xs, e2, _⟩ := Fj
    obtain ⟨kvs, e3, _⟩ := X2
    exact jC e2 e3 (by intro y; cases y)
   repeat' (walk_at "rd1")
   have O2 : Mv [p] H3 (upd H3 p (.ins a.aD dx [("now", .int t), ("times", .ref d)])) := .bP V0 (by intro _ z; cases z)
   have Ry : qg (upd H3 p (.ins a.aD dx [("now", .int t), ("times", .ref d)])) (.ref p) a.aD [("now", .int t), ("times", .ref d)] := ⟨p, dx, rfl, au⟩
   generalize upd H3 p (.ins a.aD dx [("now", .int t), ("times", .ref d)]) = H4 at *
   have Nf : pq H4 d (zo ts) := X2.mv O2 (by simpa using hpd)
   have RL : eT H4 q2 (ks.map pairD) := Fj.mv O2 (by simpa using Zu)
   have Jc : (ks.map (·.2)).Nodup := by
    have h1 : (ks.map (·.2)).Perm (((ts.filter fun x => decide (x.2 <= t)).map UR).map (·.2)) := hp.map _
    refine h1.nodup_iff.mpr ?_
    rw [List.map_map]
    exact sy.sublist (List.filter_sublist.map _)
   have hkm : ∀ k ∈ ks, ∃ x ∈ ts, x.2 <= t /\ k = UR x := fun k hk => by
    obtain ⟨x, hx, rfl⟩ := List.mem_map.mp (hp.mem_iff.mp hk)
    exact ⟨x, (List.mem_filter.mp hx).1, of_decide_eq_true (List.mem_filter.mp hx).2, rfl⟩
   refine YF (Hb := H4) (cs := ks) (gd := pairD) RL.dv (fun j σ' H' => ∃ z3 z4, σ' = [some (.ref p), some (.int t), some (.ref q2), z3, z4] /\ Mv [d] H4 H' /\ pq H' d (zo (ts.filter fun x => !((ks.take j).map (·.2)).contains x.1))) ⟨_, _, rfl, Mv.refl, by show pq H4 d (zo (ts.filter fun _ => true)); rw [DF]; exact Nf⟩ (fun i σ' H' _ ⟨_, _, _, mv, _⟩ a' xs e hx => by cases e; exact mv.sq (by simpa using hqd) hx) ?_ ?_
   . rintro j k x σ' H' hk ⟨z3, z4, rfl, NP, PY⟩ hdx _
     have hx : Dv H' x (.tuple [.int k.1, .str k.2]) := hdx rfl NP.tp
     refine GV hx (fun w1 w2 f1 f2 => ?_)
     obtain rfl := f1.int_inv
     obtain rfl := f2.str_inv
     have hi5 : qg H' (.ref p) a.aD [("now", .int t), ("times", .ref d)] := DG Ry Nf NP
     obtain ⟨y, hy, hyt, rfl⟩ := hkm k (List.mem_of_getElem? hk)
     have Lk : hX (zo (ts.filter fun x => !((ks.take j).map (·.2)).contains x.1)) (UR y).2 = some (.int y.2) := by
      refine DY (x := y) (sy.sublist (List.filter_sublist.map _)) (List.mem_filter.mpr ⟨hy, ?_⟩)
      have := DN Jc hk
      rw [Bool.not_eq_true', <- Bool.not_eq_true, List.contains_iff_mem]
      exact this
     repeat' (walk_at "rd1")
     refine NS PY ?_
     repeat' (walk_at "rd1")
     refine Jk PY Lk (fun v6 H6 XO VP => ?_)
     repeat' (walk_at "rd1")
     refine ⟨_, _, rfl, NP.trans XO, ?_⟩
     have e : zo (ts.filter fun x => !((ks.take (j + 1)).map (·.2)).contains x.1) = kM (zo (ts.filter fun x => !((ks.take j).map (·.2)).contains x.1)) (UR y).2 := by
      unfold kM zo
      rw [List.filter_map, List.filter_filter]
      congr 1
      refine List.filter_congr fun x hx => ?_
      rw [take_snoc hk, List.map_append, Bool.eq_iff_iff]
      simp
      exact and_comm
     rw [e]; exact VP
   . rintro σ' H' ⟨z3, z4, rfl, NP, PY⟩
     rw [List.take_length] at PY
     have e : (ts.filter fun x => !(ks.map (·.2)).contains x.1) = ts.filter fun x => !decide (x.2 <= t) := by
      refine List.filter_congr fun x hx => ?_
      congr 1
      rw [Bool.eq_iff_iff, List.contains_iff_mem, decide_eq_true_eq]
      constructor
      . intro hm
        obtain ⟨k, hk, e⟩ := List.mem_map.mp hm
        obtain ⟨y, hy, hyt, rfl⟩ := hkm k hk
        have h1 := DY sy hy
        have h2 := DY sy hx
        have e' : y.1 = x.1 := e
        rw [e', h2] at h1
        have h3 : x.2 = y.2 := by
         injection h1 with h1
         injection h1
        omega
      . intro ht
        exact List.mem_map.mpr ⟨UR x, hp.mem_iff.mpr (List.mem_map_of_mem (List.mem_filter.mpr ⟨hx, decide_eq_true ht⟩)), rfl⟩
     rw [e] at PY
     repeat' (walk_at "rd1")
     refine q q2 H' ks ?_ ((Zv.trans FI).none D4) hp hs (RL.mv NP (by simpa using hqd)) ⟨DG Ry Nf NP, PY⟩
     refine Mv.step (Mv.step (((Zv.trans FI).trans sm3).mv (S := [p, d])) O2 fun b hb => .inl ?_) NP fun b hb => .inl (List.mem_cons_of_mem _ hb)
     have : b = p := by simpa using hb
     rw [this]; exact List.mem_cons_self
theorem SA (T : Txt K mg a) : dr P w K mg base 3 a.dB ["self", "to"] [] (OX a.aD) :=
 ⟨⟨_, _, WH T, T.vW.binds fun _ _ _ _ _ _ => .all fun us hl => match us, hl with | [_, _], _ => rfl, .nil⟩⟩
structure eI where
 ru : RU
 wt : Int
 hm : Option Str
 dy : Bool
 no : Int
 st : Option (Int × Int)
 sn : Option Int
 un : Option Int
def Ny : Option Str -> V | none => .aT | some s => .str s
def fR (n : Str) (rv sv : V) (x : eI) : List (Str × V) := [("name", .str n), ("rule", rv), ("weight", .int x.wt), ("home", Ny x.hm), ("by_day", .bl x.dy), ("number", .int x.no), ("stretch", sv), ("since", ow x.sn), ("until", ow x.un)]
def eW (a : Ad) (H : Hp) (b : Addr) (n : Str) (x : eI) : Prop := ∃ rv sv, qg H (.ref b) a.ao (fR n rv sv x) /\ sW a H rv x.ru /\ Dv H sv (QR x.st)
theorem pW (o : Option (Int × Int)) : By (QR o) = true := by cases o <;> rfl
theorem eW.keeps {H H' : Hp} {b : Addr} {n : Str} {x : eI} (s : ax H H') (h : eW a H b n x) : eW a H' b n x := by
 obtain ⟨rv, sv, h1, h2, h3⟩ := h
 exact ⟨rv, sv, h1.keeps s, h2.keeps s, h3.keeps s⟩
theorem sW.mv {H H' : Hp} {b dx : Addr} {fs : List (Str × V)} {v : V} {r : RU} (T : Txt K mg a) (m : Mv [b] H H') (e : H b = some (.ins a.ao dx fs)) (h : sW a H v r) : sW a H' v r :=
 sW.fr (cs := [a.ao]) (S := []) (Fr.MZ m e List.mem_cons_self)
  (by simpa using T.jl)
  h
theorem eW.upd {H : Hp} {b dx : Addr} {n : Str} {x : eI} {rv sv : V} (T : Txt K mg a) (e : ∃ fs, H b = some (.ins a.ao dx fs)) (hr : sW a H rv x.ru) (hs : Dv H sv (QR x.st)) : Mv [b] H (upd H b (.ins a.ao dx (fR n rv sv x))) /\ eW a (upd H b (.ins a.ao dx (fR n rv sv x))) b n x := by
 obtain ⟨fs, e⟩ := e
 have mv : Mv [b] H (L2.upd H b (.ins a.ao dx (fR n rv sv x))) := .bP e (by intro _ z; cases z)
 exact ⟨mv, rv, sv, ⟨b, dx, rfl, au⟩, hr.mv T mv e, mv.dat (pW _) hs⟩
def lead (x : eI) (sh : Int) : Int := if x.dy = true then sh else 0
def GP (a : Ad) : Sp := fun vs H Q _ => ∃ b n x sh, vs = [.ref b, .int sh] /\ eW a H b n x /\ Q (.int (lead x sh)) H
theorem XA {H : Hp} {Q : VK} {E : XK} {b : Addr} {n : Str} {x : eI} {sh : Int} (h : eW a H b n x) (q : Q (.int (lead x sh)) H) : GP a [.ref b, .int sh] H Q E := ⟨b, n, x, sh, rfl, h, q⟩
theorem R7 (T : Txt K mg a) : aK P w K mg base eS 1 a.d8 a.Af ["self", "shift"] (GP a) := by
 have cl := T.aG; have n1 := T.de
 refine T.vX.ok Hr (fun vs H Q E h => ?_) (fun cJ A outer s H vs Q E hr h => ?_)
 . obtain ⟨_, _, _, _, rfl, _⟩ := h; rfl
 . obtain ⟨b, n, x, sh, rfl, ⟨rv, sv, hi, hR, hd⟩, q⟩ := h
   unfold fR at hi
   unfold lead at q
   refine ⟨_, (ai (aA (D7 (cE (ay (pv 0) rfl) (fun _ => rfl)) (pv 1) af))), ?_⟩
   cases hx : x.dy
   . rw [hx] at hi q
     repeat' (walk_at "rd1")
     exact q
   . rw [hx] at hi q
     repeat' (walk_at "rd1")
     exact q
theorem IW (T : Txt K mg a) : dr P w K mg base 1 a.d8 ["self", "shift"] [] (GP a) :=
 ⟨⟨_, _, R7 T, T.vX.binds fun _ _ _ _ _ _ => .all fun us hl => match us, hl with | [_, _], _ => rfl, .nil⟩⟩
def CA (a : Ad) : Sp := fun vs H Q _ => ∃ b n x, vs = [.ref b] /\ eW a H b n x /\ Q (.bl x.st.isNone) H
theorem OH {H : Hp} {Q : VK} {E : XK} {b : Addr} {n : Str} {x : eI} (h : eW a H b n x) (q : Q (.bl x.st.isNone) H) : CA a [.ref b] H Q E := ⟨b, n, x, rfl, h, q⟩
theorem L7 (T : Txt K mg a) : aK P w K mg base eS 1 a.cA a.qQ ["self"] (CA a) := by
 have cl := T.aG; have n1 := T.a0
 refine T.jU.ok Dt (fun vs H Q E h => ?_) (fun cJ A outer s H vs Q E hr h => ?_)
 . obtain ⟨_, _, _, rfl, _⟩ := h; rfl
 . obtain ⟨b, n, x, rfl, ⟨rv, sv, hi, hR, hd⟩, q⟩ := h
   unfold fR at hi
   refine ⟨_, (ai (aA (wK Ec (ay (pv 0) rfl) cK (aN _)))), ?_⟩
   cases hx : x.st with
   | none =>
     rw [hx] at hd q
     obtain rfl := hd.Hi
     repeat' (walk_at "rd1")
     exact q
   | some p =>
     rw [hx] at hd q
     cases hd
     repeat' (walk_at "rd1")
     exact q
theorem J5 (T : Txt K mg a) : dr P w K mg base 1 a.cA ["self"] [] (CA a) :=
 ⟨⟨_, _, L7 T, T.jU.binds fun _ _ _ _ _ _ => .all fun us hl => match us, hl with | [_], _ => rfl, .nil⟩⟩
def Cv (a : Ad) : Sp := fun vs H Q _ => ∃ b n x, vs = [.ref b] /\ eW a H b n x /\ Q (.bl x.sn.isSome) H
theorem Qr {H : Hp} {Q : VK} {E : XK} {b : Addr} {n : Str} {x : eI} (h : eW a H b n x) (q : Q (.bl x.sn.isSome) H) : Cv a [.ref b] H Q E := ⟨b, n, x, rfl, h, q⟩
theorem M0 (T : Txt K mg a) : aK P w K mg base eS 1 a.bz a.jx ["self"] (Cv a) := by
 have cl := T.aG; have n1 := T.ck
 refine T.fN.ok y8 (fun vs H Q E h => ?_) (fun cJ A outer s H vs Q E hr h => ?_)
 . obtain ⟨_, _, _, rfl, _⟩ := h; rfl
 . obtain ⟨b, n, x, rfl, ⟨rv, sv, hi, hR, hd⟩, q⟩ := h
   unfold fR at hi
   refine ⟨_, (ai (aA (wK pT (ay (pv 0) rfl) cK (aN _)))), ?_⟩
   cases hx : x.sn with
   | none =>
     rw [hx] at hi q
     simp only [ow] at hi
     repeat' (walk_at "rd1")
     exact q
   | some p =>
     rw [hx] at hi q
     simp only [ow] at hi
     repeat' (walk_at "rd1")
     exact q
theorem Kw (T : Txt K mg a) : dr P w K mg base 1 a.bz ["self"] [] (Cv a) :=
 ⟨⟨_, _, M0 T, T.fN.binds fun _ _ _ _ _ _ => .all fun us hl => match us, hl with | [_], _ => rfl, .nil⟩⟩
def rest (x : eI) : eI := { x with sn := none, un := none }
def G7 (a : Ad) : Sp := fun vs H Q _ => ∃ b n x, vs = [.ref b] /\ eW a H b n x /\ ∀ H', Mv [b] H H' -> eW a H' b n (rest x) -> Q .aT H'
theorem W3 {H : Hp} {Q : VK} {E : XK} {b : Addr} {n : Str} {x : eI} (h : eW a H b n x) (q : ∀ H', Mv [b] H H' -> eW a H' b n (rest x) -> Q .aT H') : G7 a [.ref b] H Q E := ⟨b, n, x, rfl, h, q⟩
theorem RX (T : Txt K mg a) : aK P w K mg base eS 1 a.ez a.Ai ["self"] (G7 a) := by
 have cl := T.aG; have n1 := T.ck; have n2 := T.cw
 refine T.vb.ok G8 (fun vs H Q E h => ?_) (fun cJ A outer s H vs Q E hr h => ?_)
 . obtain ⟨_, _, _, rfl, _⟩ := h; rfl
 . obtain ⟨b, n, x, rfl, ⟨rv, sv, ⟨p, dx, e, hi⟩, hR, hd⟩, q⟩ := h
   cases e
   have XT : ∃ fs, H b = some (.ins a.ao dx fs) := ⟨_, hi⟩
   unfold fR at hi
   refine ⟨_, (ah (aX (pv 0) cK rfl)
    (ai (aX (pv 0) cK rfl))), ?_⟩
   repeat' (walk_at "rd1")
   simp only [ll]
   obtain ⟨mv, hb⟩ := eW.upd (n := n) (x := rest x) T XT hR hd
   exact q _ mv hb
theorem Pn (T : Txt K mg a) : dr P w K mg base 1 a.ez ["self"] [] (G7 a) :=
 ⟨⟨_, _, RX T, T.vb.binds fun _ _ _ _ _ _ => .all fun us hl => match us, hl with | [_], _ => rfl, .nil⟩⟩
def Ep (a : Ad) : Sp := fun vs H Q _ => ∃ b n x f l, vs = [.ref b, .int f, .int l] /\ eW a H b n x /\ ∀ H', Mv [b] H H' -> eW a H' b n { x with st := some (f, l) } -> Q .aT H'
theorem R3 {H : Hp} {Q : VK} {E : XK} {b : Addr} {n : Str} {x : eI} {f l : Int} (h : eW a H b n x) (q : ∀ H', Mv [b] H H' -> eW a H' b n { x with st := some (f, l) } -> Q .aT H') : Ep a [.ref b, .int f, .int l] H Q E := ⟨b, n, x, f, l, rfl, h, q⟩
theorem P0 (T : Txt K mg a) : aK P w K mg base eS 1 a.eE a.zS ["self", "first", "last"] (Ep a) := by
 have cl := T.aG; have n1 := T.a0
 refine T.t4.ok Gu (fun vs H Q E h => ?_) (fun cJ A outer s H vs Q E hr h => ?_)
 . obtain ⟨_, _, _, _, _, rfl, _⟩ := h; rfl
 . obtain ⟨b, n, x, f, l, rfl, ⟨rv, sv, ⟨p, dx, e, hi⟩, hR, hd⟩, q⟩ := h
   cases e
   have XT : ∃ fs, H b = some (.ins a.ao dx fs) := ⟨_, hi⟩
   unfold fR at hi
   refine ⟨_, (ai (aX (pv 0) (bX (ae (pv 1) (ae (pv 2) aj))) rfl)), ?_⟩
   repeat' (walk_at "rd1")
   rename_i v2 H2 s2 V8
   obtain ⟨mv, hb⟩ := eW.upd (n := n) (x := { x with st := some (f, l) }) T (XT.imp fun _ z => s2 _ _ z) (hR.keeps s2) V8
   exact q _ (s2.mv.trans mv) hb
theorem L8 (T : Txt K mg a) : dr P w K mg base 1 a.eE ["self", "first", "last"] [] (Ep a) :=
 ⟨⟨_, _, P0 T, T.t4.binds fun _ _ _ _ _ _ => .all fun us hl => match us, hl with | [_, _, _], _ => rfl, .nil⟩⟩
def BH (a : Ad) : Sp := fun vs H Q _ => ∃ b n x f l, vs = [.ref b] /\ eW a H b n x /\ x.st = some (f, l) /\ ∀ v' H', ax H H' -> Dv H' v' (.tuple [.int x.no, .int f, .int l]) -> Q v' H'
theorem Pq {H : Hp} {Q : VK} {E : XK} {b : Addr} {n : Str} {x : eI} {f l : Int} (h : eW a H b n x) (hs : x.st = some (f, l)) (q : ∀ v' H', ax H H' -> Dv H' v' (.tuple [.int x.no, .int f, .int l]) -> Q v' H') : BH a [.ref b] H Q E := ⟨b, n, x, f, l, rfl, h, hs, q⟩
theorem Mx (T : Txt K mg a) : aK P w K mg base eS 1 a.dJ a.xt ["self"] (BH a) := by
 have cl := T.aG; have n1 := T.a0; have n2 := T.dh
 refine T.pI.ok Fh (fun vs H Q E h => ?_) (fun cJ A outer s H vs Q E hr h => ?_)
 . obtain ⟨_, _, _, _, _, rfl, _⟩ := h; rfl
 . obtain ⟨b, n, x, f, l, rfl, ⟨rv, sv, hi, hR, hd⟩, hs, q⟩ := h
   unfold fR at hi
   rw [hs] at hd
   have hd : Dv H sv (.tuple [.int f, .int l]) := hd
   refine ⟨_, (ai (aA (bX (ae (ay (pv 0) rfl) (ae (aP cf (ay (pv 0) rfl) af (fun _ _ => rfl)) (ae (aP cf (ay (pv 0) rfl) af (fun _ _ => rfl)) aj)))))), ?_⟩
   repeat' (walk_at "rd1")
   exact q _ _ (by walk_at "same") (by walk_at "dat")
theorem Jw (T : Txt K mg a) : dr P w K mg base 1 a.dJ ["self"] [] (BH a) :=
 ⟨⟨_, _, Mx T, T.pI.binds fun _ _ _ _ _ _ => .all fun us hl => match us, hl with | [_], _ => rfl, .nil⟩⟩
def wait (x : eI) (now sh f l : Int) : eI := { x with sn := some (max (f - lead x sh) (now + 1)), un := some (l - lead x sh) }
local macro_rules | `(tactic| walk_at "bat") => `(tactic| first | (refine' eW.keeps ?s ?m; (case s => assumption); (case m => walk_at "bat")) | fail)
set_option hygiene false in
local macro_rules | `(tactic| walk_at "bat") => `(tactic| first | assumption | fail)
local macro_rules | `(tactic| walk_at "use") => `(tactic| first | ((with_reducible refine' Pq ?e ?e2 (fun _ _ _ _ => ?_)); (case e => walk_at "bat"); (case e2 => assumption)) | fail)
local macro_rules | `(tactic| walk_at "use") => `(tactic| first | ((with_reducible refine' Qr ?e ?_); case e => walk_at "bat") | fail)
local macro_rules | `(tactic| walk_at "use") => `(tactic| first | ((with_reducible refine' OH ?e ?_); case e => walk_at "bat") | fail)
local macro_rules | `(tactic| walk_at "use") => `(tactic| first | ((with_reducible refine' XA ?e ?_); case e => walk_at "bat") | fail)
def E6 (a : Ad) : Sp := fun vs H Q _ => ∃ b n x now sh f l, vs = [.ref b, .int now, .int sh] /\ eW a H b n x /\ x.st = some (f, l) /\ ∀ H', Mv [b] H H' -> eW a H' b n (wait x now sh f l) -> Q .aT H'
theorem SR {H : Hp} {Q : VK} {E : XK} {b : Addr} {n : Str} {x : eI} {now sh f l : Int} (h : eW a H b n x) (hs : x.st = some (f, l)) (q : ∀ H', Mv [b] H H' -> eW a H' b n (wait x now sh f l) -> Q .aT H') : E6 a [.ref b, .int now, .int sh] H Q E := ⟨b, n, x, now, sh, f, l, rfl, h, hs, q⟩
theorem OC (T : Txt K mg a) : aK P w K mg base eS 2 a.eA a.A5 ["self", "now", "shift"] (E6 a) := by
 have cl := T.aG; have n1 := T.a0; have n2 := T.ck; have n3 := T.cw
 have WG := T.vE
 have VA := IW (P := P) (w := w) (base := base) T
 refine T.tX.ok A0 (fun vs H Q E h => ?_) (fun cJ A outer s H vs Q E hr h => ?_)
 . obtain ⟨_, _, _, _, _, _, _, rfl, _⟩ := h; rfl
 . obtain ⟨b, n, x, now, sh, f, l, rfl, hB, hs, q⟩ := h
   obtain ⟨rv, sv, ⟨p, dx, e, hi⟩, hR, hd⟩ := id hB
   cases e
   have XT : ∃ fs, H b = some (.ins a.ao dx fs) := ⟨_, hi⟩
   unfold fR at hi
   have QL := hd
   rw [hs] at hd
   have hd : Dv H sv (.tuple [.int f, .int l]) := hd
   refine ⟨_, (ah (aI (i := 3) A0.nd rfl (Or.inl rfl) (aC (pv 0) cl WG VA (hr.mono (by decide)) (ae (pv 2) aj)))
    (ah (aX (pv 0) (bw (nu rfl) rfl T.t7 PyProof.Rows.boot_max (ae (aw dR (aP cf (ay (pv 0) rfl) af (fun _ _ => rfl)) (pv 3)) (ae (aw bo (pv 1) af) aj))) rfl)
    (ai (aX (pv 0) (aw dR (aP cf (ay (pv 0) rfl) af (fun _ _ => rfl)) (pv 3)) rfl)))), ?_⟩
   repeat' (walk_at "rd1")
   rename_i sn e1 e2 e3
   obtain rfl : sn = max (f - lead x sh) (now + 1) := by omega
   have hd1 := (Mv.bP (o := .ins a.ao dx [("name", .str n), ("rule", rv), ("weight", .int x.wt), ("home", Ny x.hm), ("by_day", .bl x.dy), ("number", .int x.no), ("stretch", sv), ("since", .int (max (f - lead x sh) (now + 1))), ("until", ow x.un)]) hi (by intro _ z; cases z)).dat rfl hd
   repeat' (walk_at "rd1")
   simp only [ll]
   obtain ⟨mv, hb⟩ := eW.upd (n := n) (x := wait x now sh f l) T XT hR QL
   exact q _ mv hb
theorem MA (T : Txt K mg a) : dr P w K mg base 2 a.eA ["self", "now", "shift"] [] (E6 a) :=
 ⟨⟨_, _, OC T, T.tX.binds fun _ _ _ _ _ _ => .all fun us hl => match us, hl with | [_, _, _], _ => rfl, .nil⟩⟩
def aV (x : eI) (l t : Int) : eI := if t < l then x else { x with no := (OJ x.ru x.no l t).1, st := (OJ x.ru x.no l t).2 }
def missed (n : Str) (x : eI) (l t : Int) : List PyData := if t < l then [] else [.tuple [.str "missed", .str n, .int x.no, .int ((OJ x.ru x.no l t).1 - 1)]]
def Ew (a : Ad) : Sp := fun vs H Q _ => ∃ b n x f l t, vs = [.ref b, .int t] /\ eW a H b n x /\ x.st = some (f, l) /\ 0 <= x.no /\ x.no < 10 ^ 99 /\ t < 10 ^ 80 /\ t - l < 10 ^ 80 /\ ∀ q H', Mv [b] H H' -> H q = none -> eT H' q (missed n x l t) -> eW a H' b n (aV x l t) -> Q (.ref q) H'
theorem T3 {H : Hp} {Q : VK} {E : XK} {b : Addr} {n : Str} {x : eI} {f l t : Int} (h : eW a H b n x) (hs : x.st = some (f, l)) (h1 : 0 <= x.no) (h2 : x.no < 10 ^ 99) (h3 : t < 10 ^ 80) (h4 : t - l < 10 ^ 80) (q : ∀ q H', Mv [b] H H' -> H q = none -> eT H' q (missed n x l t) -> eW a H' b n (aV x l t) -> Q (.ref q) H') : Ew a [.ref b, .int t] H Q E := ⟨b, n, x, f, l, t, rfl, h, hs, h1, h2, h3, h4, q⟩
theorem PV (T : Txt K mg a) : aK P w K mg base eS 5 a.b5 a.oX ["self", "shown"] (Ew a) := by
 have cl := T.aG; have n0 := T.bu; have n1 := T.a0; have n2 := T.dh; have n3 := T.fM
 have Fl := SW (P := P) (w := w) (base := base) T
 refine T.ie.ok eK (fun vs H Q E h => ?_) (fun cJ A outer s H vs Q E hr h => ?_)
 . obtain ⟨_, _, _, _, _, _, rfl, _⟩ := h; rfl
 . obtain ⟨b, n, x, f, l, t, rfl, hB, hs, h1, h2, h3, h4, q⟩ := h
   obtain ⟨rv, sv, ⟨p, dx, e, hi⟩, hR, hd⟩ := id hB
   cases e
   have XT : ∃ fs, H b = some (.ins a.ao dx fs) := ⟨_, hi⟩
   unfold fR at hi
   have QL := hd
   rw [hs] at hd
   have hd : Dv H sv (.tuple [.int f, .int l]) := hd
   refine ⟨_, (ah (aI (i := 2) eK.nd rfl (Or.inl rfl) (ay (pv 0) rfl))
    (ah (aI (i := 3) eK.nd rfl (Or.inl rfl) (aP cf (ay (pv 0) rfl) af (fun _ _ => rfl)))
    (ah (bM (aL Qi (pv 3) (pv 1) (aN _))
     (ai (aA (gK aj)))
     aH)
    (dg (aI (i := 4) eK.nd rfl (Or.inl rfl) (aC (ay (pv 0) rfl) T.c4 T.xj Fl (hr.mono (by decide)) (ae (pv 2) (ae (pv 3) (ae (pv 1) aj)))))
    (ah (aX (pv 0) (aP cf (pv 4) af (fun _ _ => rfl)) rfl)
    (ah (aX (pv 0) (aP cf (pv 4) af (fun _ _ => rfl)) rfl)
    (ai (aA (gK (ae (bX (ae iF (ae (ay (pv 0) rfl) (ae (pv 2) (ae (aw dR (ay (pv 0) rfl) af) aj))))) aj)))))))))), ?_⟩
   repeat' (walk_at "rd1")
   . rename_i hb q1 H1 s1 F8 EB
     refine q _ _ s1.mv F8 ?_ ?_
     . unfold missed; rw [if_pos hb]; exact EB
     . unfold aV; rw [if_pos hb]; exact hB.keeps s1
   . rename_i hb
     refine gI (fun σ' H' => ax H H' /\ ∃ pv, σ' = [some (.ref b), some (.int t), some (.int x.no), some (.int l), some pv] /\ Dv H' pv (.tuple [.int (OJ x.ru x.no l t).1, QR (OJ x.ru x.no l t).2])) ?_ ?_
     . cases hru : x.ru with
       | each st sp wd m =>
         rw [hru] at hR
         have ZD := hR
         obtain ⟨hp, _⟩ := hR
         repeat' (walk_at "rd1")
         exact ⟨by walk_at "same", _, rfl, by assumption⟩
     rintro σ' H1 ⟨s1, pv, rfl, hpv⟩
     have Z8 := hR.keeps s1
     have wG := s1 _ _ hi
     have aeZ : ∃ fs, H1 b = some (.ins a.ao dx fs) := ⟨_, wG⟩
     clear hi
     generalize X9 : OJ x.ru x.no l t = lb at *
     obtain ⟨k, o⟩ := lb
     have abQ : Dv H1 pv (.tuple [.int k, QR o]) := hpv
     have afj : Dv (upd H1 b (.ins a.ao dx [("name", .str n), ("rule", rv), ("weight", .int x.wt), ("home", Ny x.hm), ("by_day", .bl x.dy), ("number", .int k), ("stretch", sv), ("since", ow x.sn), ("until", ow x.un)])) pv (.tuple [.int k, QR o]) := (Mv.bP wG (by intro _ z; cases z)).dat (by simp [By, cC, pW]) abQ
     repeat' (walk_at "rd1")
     rename_i sv2 acO tv H3 s3 htv q4 H4 s4 hn4 RL
     have Jg := Mv.bP (o := .ins a.ao dx [("name", .str n), ("rule", rv), ("weight", .int x.wt), ("home", Ny x.hm), ("by_day", .bl x.dy), ("number", .int k), ("stretch", sv), ("since", ow x.sn), ("until", ow x.un)]) wG (by intro _ z; cases z)
     obtain ⟨wA, YB⟩ := eW.upd (n := n) (x := { x with no := k, st := o }) T ⟨_, au⟩ (Z8.mv T Jg wG) acO
     have s34 : ax _ H4 := s3.trans s4
     have mvA := (s1.mv (S := [b])).trans (Jg.trans wA)
     refine q q4 H4 (mvA.trans s34.mv) ?_ ?_ ?_
     . exact mvA.none (s3.none hn4)
     . unfold missed; rw [if_neg hb, X9]; exact RL
     . unfold aV; rw [if_neg hb, X9]; exact YB.keeps s34
theorem MX (T : Txt K mg a) : dr P w K mg base 5 a.b5 ["self", "shown"] [] (Ew a) :=
 ⟨⟨_, _, PV T, T.ie.binds fun _ _ _ _ _ _ => .all fun us hl => match us, hl with | [_, _], _ => rfl, .nil⟩⟩
def Ez (r : RU) (wt : Int) (hm : Option Str) (dy : Bool) : eI := ⟨r, wt, hm, dy, 0, some (Kh r), none, none⟩
def E1 (a : Ad) : Sp := fun vs H Q _ => ∃ p dx n rv r wt hm dy, vs = [.ref p, .str n, rv, .int wt, Ny hm, .bl dy] /\ H p = some (.ins a.ao dx []) /\ sW a H rv r /\ ∀ H', Mv [p] H H' -> eW a H' p n (Ez r wt hm dy) -> Q .aT H'
theorem N5 (T : Txt K mg a) : aK P w K mg base eS 8 a.b7 a.o1 ["self", "name", "rule", "weight", "home", "by_day"] (E1 a) := by
 have cl := T.aG; have n0 := T.bu; have n1 := T.a0; have n2 := T.dh; have n3 := T.fM; have n4 := T.eF; have n5 := T.fG; have n6 := T.de; have n7 := T.ck; have n8 := T.cw
 have IU := Mh (P := P) (w := w) (base := base) T
 have Gq := Hz (P := P) (w := w) (base := base) T
 refine T.ig.ok BJ (fun vs H Q E h => ?_) (fun cJ A outer s H vs Q E hr h => ?_)
 . obtain ⟨_, _, _, _, _, _, _, _, rfl, _⟩ := h; rfl
 . obtain ⟨p, dx, n, rv, r, wt, hm, dy, rfl, hp, hR, q⟩ := h
   refine ⟨_, (ah (aX (pv 0) (pv 1) rfl)
    (dg (aX (pv 0) (fb (pv 2) T.c4 T.C7 IU (hr.mono (by decide))) rfl)
    (ah (aX (pv 0) (pv 3) rfl)
    (ah (aX (pv 0) (pv 4) rfl)
    (ah (aX (pv 0) (pv 5) rfl)
    (ah (aX (pv 0) af rfl)
    (dg (aX (pv 0) (fb (ay (pv 0) rfl) T.c4 T.Bn Gq (hr.mono (by decide))) rfl)
    (ah (aX (pv 0) cK rfl)
    (ai (aX (pv 0) cK rfl)))))))))), ?_⟩
   repeat' (walk_at "rd1")
   have Jg := Mv.bP (o := .ins a.ao dx [("name", .str n)]) hp (by intro _ z; cases z)
   have Z8 := hR.mv T Jg hp
   have e1 : upd H p (.ins a.ao dx [("name", .str n)]) p = some (.ins a.ao dx [("name", .str n)]) := au
   generalize upd H p (.ins a.ao dx [("name", .str n)]) = H1 at *
   refine gI (fun σ' H' => ∃ Je, σ' = [some (.ref p), some (.str n), some rv, some (.int wt), some (Ny hm), some (.bl dy)] /\ Mv [p] H H' /\ H' p = some (.ins a.ao dx [("name", .str n), ("rule", Je)]) /\ sW a H' Je r) ?_ ?_
   . cases r with
     | each st sp wd m =>
       have ZD := Z8
       obtain ⟨hp0, _⟩ := Z8
       repeat' (walk_at "rd1")
       rename_i Je H2 s2 hr2
       have wA := Mv.bP (o := .ins a.ao dx [("name", .str n), ("rule", Je)]) (s2 _ _ e1) (by intro _ z; cases z)
       exact ⟨Je, rfl, Jg.trans (s2.mv.trans wA), au, hr2.mv T wA (s2 _ _ e1)⟩
   rintro σ' H2 ⟨Je, rfl, wA, e2, hR2⟩
   clear e1 Z8 Jg
   repeat' (walk_at "rd1")
   simp only [ll]
   have mv3 : Mv [p] H (upd H2 p (.ins a.ao dx [("name", .str n), ("rule", Je), ("weight", .int wt), ("home", Ny hm), ("by_day", .bl dy), ("number", .int 0)])) := wA.trans (Mv.bP e2 (by intro _ z; cases z))
   have hR3 := hR2.mv T (Mv.bP (o := .ins a.ao dx [("name", .str n), ("rule", Je), ("weight", .int wt), ("home", Ny hm), ("by_day", .bl dy), ("number", .int 0)]) e2 (by intro _ z; cases z)) e2
   refine gI (fun σ' H' => ∃ sv, σ' = [some (.ref p), some (.str n), some rv, some (.int wt), some (Ny hm), some (.bl dy)] /\ Mv [p] H H' /\ H' p = some (.ins a.ao dx [("name", .str n), ("rule", Je), ("weight", .int wt), ("home", Ny hm), ("by_day", .bl dy), ("number", .int 0), ("stretch", sv)]) /\ sW a H' Je r /\ Dv H' sv (pD (Kh r))) ?_ ?_
   . cases r with
     | each st sp wd m =>
       have ZD := hR3
       obtain ⟨hp0, _⟩ := hR3
       repeat' (walk_at "rd1")
       rename_i sv H4 s4 hs4
       have O2 := Mv.bP (o := .ins a.ao dx [("name", .str n), ("rule", Je), ("weight", .int wt), ("home", Ny hm), ("by_day", .bl dy), ("number", .int 0), ("stretch", sv)]) (s4 _ _ au) (by intro _ z; cases z)
       exact ⟨sv, rfl, mv3.trans (s4.mv.trans O2), au, (ZD.keeps s4).mv T O2 (s4 _ _ au), O2.dat rfl hs4⟩
   rintro σ' H5 ⟨sv, rfl, NP, e5, hR5, hs5⟩
   repeat' (walk_at "rd1")
   simp only [ll]
   obtain ⟨XO, Zq⟩ := eW.upd (n := n) (x := Ez r wt hm dy) T ⟨_, e5⟩ hR5 hs5
   exact q _ (NP.trans XO) Zq
theorem JG (T : Txt K mg a) : dr P w K mg base 8 a.b7 ["self", "name", "rule", "weight", "home", "by_day"] [] (E1 a) :=
 ⟨⟨_, _, N5 T, T.ig.binds fun _ _ _ _ _ _ => .all fun us hl => match us, hl with | [_, _, _, _, _, _], _ => rfl, .nil⟩⟩
theorem Rb {H : Hp} {Q : VK} {E : XK} {n : Str} {rv : V} {r : RU} {wt : Int} {hm : Option Str} {dy : Bool} {us : List V} (eu : us = [.str n, rv, .int wt, Ny hm, .bl dy]) (hR : sW a H rv r) (k : ∀ b H2, ax H H2 -> H b = none -> eW a H2 b n (Ez r wt hm dy) -> Q (.ref b) H2) : CG a.ao (E1 a) us H Q E := by
 refine ⟨_, eu, fun x dx hx hd ne => ⟨x, dx, n, rv, r, wt, hm, dy, rfl, au, hR.keeps (fun b u e => ?_), fun H' mv hg => ⟨rfl, ?_⟩⟩⟩
 . rw [av (aB e hx), av (aB e hd)]; exact e
 . refine k _ _ (fun b u e => ?_) hx hg
   have hb : b ≠ x := aB e hx
   refine mv.kp b u (by simpa using hb) ?_
   rw [av hb, av (aB e hd)]
   exact e
structure KS where
 now : Int
 sh : Int
 f : Str -> Option eI
 t : Str -> Option Int
structure Lay where
 p : Addr
 wp : Addr
 td : Addr
 bd : Addr
 gv : V
 ad : Str -> Addr
 nm : List Str
def aM (L : Lay) (now sh : Int) : List (Str × V) := [("waits", .ref L.wp), ("rounds", .aT), ("now", .int now), ("shift", .int sh), ("groups", L.gv), ("by_name", .ref L.bd)]
structure bH (a : Ad) (H : Hp) (L : Lay) (k : KS) : Prop where
 ins : qg H (.ref L.p) a.ag (aM L k.now k.sh)
 wt : ∃ ts, Cr a.aD H (.ref L.wp) L.td k.now ts /\ (ts.map (·.1)).Nodup /\ ∀ n u, (n, u) ∈ ts ↔ k.t n = some u
 bd : ∃ ns, p4 H L.bd ns (fun n => .ref (L.ad n)) /\ ns.Nodup /\ ∀ n, n ∈ ns ↔ (k.f n).isSome = true
 bl : ∀ n x, k.f n = some x -> eW a H (L.ad n) n x
 ne : L.td ≠ L.bd
 nl : L.nm.length <= 55
 nt : ∀ n, (k.t n).isSome = true -> n ∈ L.nm
 nf : ∀ n, (k.f n).isSome = true -> n ∈ L.nm
abbrev gm (a : Ad) (L : Lay) (H H' : Hp) : Prop := Fr [a.ao, a.ag, a.aD] [L.td, L.bd] H H'
theorem Be {α : Type} [DecidableEq α] : ∀ {l m : List α}, l.Nodup -> (∀ x ∈ l, x ∈ m) -> l.length <= m.length
 | [], _, _, _ => Nat.zero_le _
 | x :: l, m, h, hs => by
   rw [List.nodup_cons] at h
   have h1 := Be (l := l) (m := m.erase x) h.2 fun y hy => (List.mem_erase_of_ne (fun e : y = x => h.1 (by rw [<- e]; exact hy))).mpr (hs y (List.mem_cons_of_mem _ hy))
   have h2 := List.length_erase_of_mem (hs x List.mem_cons_self)
   have h3 : 0 < m.length := List.length_pos_of_mem (hs x List.mem_cons_self)
   rw [List.length_cons]
   omega
section
variable {H H' : Hp} {L : Lay} {k : KS} {n : Str} {x x' : eI}
theorem bH.keeps (s : ax H H') (h : bH a H L k) : bH a H' L k := by
 obtain ⟨ts, w1, w2, w3⟩ := h.wt
 obtain ⟨ns, b1, b2, b3⟩ := h.bd
 exact ⟨h.ins.keeps s, ⟨ts, w1.keeps s, w2, w3⟩, ⟨ns, b1.keeps s, b2, b3⟩, fun n x e => (h.bl n x e).keeps s, h.ne, h.nl, h.nt, h.nf⟩
theorem eW.at (h : eW a H b n x) : ∃ dx rv sv, H b = some (.ins a.ao dx (fR n rv sv x)) := by
 obtain ⟨rv, sv, ⟨p, dx, e, hi⟩, _⟩ := h
 cases e
 exact ⟨dx, rv, sv, hi⟩
theorem Au {C D : Addr} {b dx : Addr} {v : V} {fs gs : List (Str × V)} (m : Mv [b] H H') (e : H b = some (.ins D dx gs)) (nq : C ≠ D) (h : qg H v C fs) : qg H' v C fs := by
 obtain ⟨p, dy, rfl, hi⟩ := h
 refine ⟨p, dy, rfl, m.at (fun z => ?_) hi⟩
 rw [List.mem_singleton.mp z, e] at hi
 cases hi
 exact nq rfl
theorem lU {C : Addr} {b : Addr} {v : V} {fs : List (Str × V)} {kvs : List (Key × V)} (m : Mv [b] H H') (e : H b = some (.dK kvs)) (h : qg H v C fs) : qg H' v C fs := by
 obtain ⟨p, dy, rfl, hi⟩ := h
 refine ⟨p, dy, rfl, m.at (fun z => ?_) hi⟩
 rw [List.mem_singleton.mp z, e] at hi
 cases hi
theorem eW.mvB (T : Txt K mg a) {m' : Str} {y : eI} {b c : Addr} (h : eW a H b n x) (g : eW a H c m' y) (nq : n ≠ m') (m : Mv [c] H H') : eW a H' b n x := by
 obtain ⟨dx, Je, sv2, e⟩ := g.at
 obtain ⟨rv, sv, ⟨p, dy, e0, hi⟩, h2, h3⟩ := h
 cases e0
 refine ⟨rv, sv, ⟨b, dy, rfl, m.at (fun z => ?_) hi⟩, h2.mv T m e, m.dat (pW _) h3⟩
 rw [List.mem_singleton.mp z, e] at hi
 have hi : HO.ins a.ao dx (fR m' Je sv2 y) = HO.ins a.ao dy (fR n rv sv x) := Option.some.inj hi
 injection hi with _ _ hf
 unfold fR at hf
 injection hf with h4 _
 injection h4 with _ h5
 injection h5 with h6
 exact nq h6.symm
theorem sW.Uy {c : Addr} {kvs : List (Key × V)} {v : V} {r : RU} (m : Mv [c] H H') (e : H c = some (.dK kvs)) (h : sW a H v r) : sW a H' v r := sW.fr (cs := []) (S := [c]) (Fr.VO m e List.mem_cons_self)
 (by simp)
 h
theorem eW.Uy {c : Addr} {kvs : List (Key × V)} (m : Mv [c] H H') (e : H c = some (.dK kvs)) (h : eW a H b n x) : eW a H' b n x := by
 obtain ⟨rv, sv, h1, h2, h3⟩ := h
 exact ⟨rv, sv, lU m e h1, h2.Uy m e, m.dat (pW _) h3⟩
theorem bH.RO (T : Txt K mg a) (h : bH a H L k) (hx : k.f n = some x) (m : Mv [L.ad n] H H') (hb : eW a H' (L.ad n) n x') : bH a H' L { k with f := bI k.f n (some x') } /\ gm a L H H' := by
 have hB := h.bl n x hx
 obtain ⟨dx, rv, sv, e⟩ := hB.at
 obtain ⟨ts, w1, w2, w3⟩ := h.wt
 obtain ⟨ns, b1, b2, b3⟩ := h.bd
 have Y3 : ∀ {d : Addr} {kvs : List (Key × V)}, H d = some (.dK kvs) -> d ∉ [L.ad n] := fun {d kvs} e2 z => by rw [List.mem_singleton.mp z, e] at e2; cases e2
 obtain ⟨kw, ew, _⟩ := id w1.dat
 refine ⟨⟨Au m e (Ne.symm T.df) h.ins, ⟨ts, ⟨Au m e (Ne.symm T.gX) w1.ins, w1.dat.mv m (Y3 ew)⟩, w2, w3⟩, ⟨ns, b1.mv m (Y3 b1), b2, fun y => ?_⟩, fun y z hz => ?_, h.ne, h.nl, h.nt, fun y hy => ?_⟩, Fr.MZ m e List.mem_cons_self⟩
 . rw [b3]
   by_cases ey : y = n
   . subst ey; simp [aE, hx]
   . show _ ↔ (bI k.f n (some x') y).isSome = true
     rw [bJ ey]
 . by_cases ey : y = n
   . subst ey
     have hz : bI k.f y (some x') y = some z := hz
     rw [aE] at hz
     cases hz
     exact hb
   . have hz : bI k.f n (some x') y = some z := hz
     rw [bJ ey] at hz
     exact (h.bl y z hz).mvB T hB ey m
 . by_cases ey : y = n
   . subst ey; exact h.nf y (by rw [hx]; rfl)
   . refine h.nf y ?_
     have hy : (bI k.f n (some x') y).isSome = true := hy
     rwa [bJ ey] at hy
theorem bH.aad (h : bH a H L k) {ts : List (Str × Int)} {t' : Str -> Option Int} (m : Mv [L.td] H H') (w : Cr a.aD H' (.ref L.wp) L.td k.now ts) (w2 : (ts.map (·.1)).Nodup) (w3 : ∀ n u, (n, u) ∈ ts ↔ t' n = some u) (w4 : ∀ n, (t' n).isSome = true -> n ∈ L.nm) : bH a H' L { k with t := t' } /\ gm a L H H' := by
 obtain ⟨ts0, v1, _⟩ := h.wt
 obtain ⟨kvs, e, _⟩ := id v1.dat
 obtain ⟨ns, b1, b2, b3⟩ := h.bd
 refine ⟨⟨lU m e h.ins, ⟨ts, w, w2, w3⟩, ⟨ns, b1.mv m (by simpa using Ne.symm h.ne), b2, b3⟩, fun y z hz => (h.bl y z hz).Uy m e, h.ne, h.nl, w4, h.nf⟩, Fr.VO m e List.mem_cons_self⟩
theorem bH.pop (h : bH a H L k) {ns : List Str} (b1 : p4 H L.bd ns (fun n => .ref (L.ad n))) (b2 : ns.Nodup) (b3 : ∀ n, n ∈ ns ↔ (k.f n).isSome = true) (m : Mv [L.bd] H H') (Q8 : p4 H' L.bd (ns.filter fun y => decide (y ≠ n)) (fun n => .ref (L.ad n))) : bH a H' L { k with f := bI k.f n none } /\ gm a L H H' := by
 obtain ⟨ts, w1, w2, w3⟩ := h.wt
 have hf : ∀ y, (bI k.f n none y).isSome = true ↔ y ≠ n /\ (k.f y).isSome = true := fun y => by
  by_cases ey : y = n
  . subst ey; simp [aE]
  . rw [bJ ey]; simp [ey]
 refine ⟨⟨lU m b1 h.ins, ⟨ts, ⟨lU m b1 w1.ins, w1.dat.mv m (by simpa using h.ne)⟩, w2, w3⟩, ⟨_, Q8, b2.sublist List.filter_sublist, fun y => ?_⟩, fun y z hz => ?_, h.ne, h.nl, h.nt, fun y hy => h.nf y ((hf y).mp hy).2⟩, Fr.VO m b1 (List.mem_cons_of_mem _ List.mem_cons_self)⟩
 . show _ ↔ (bI k.f n none y).isSome = true
   rw [hf, List.mem_filter, b3]; simp [and_comm]
 . have hz : bI k.f n none y = some z := hz
   by_cases ey : y = n
   . subst ey; rw [aE] at hz; cases hz
   . rw [bJ ey] at hz
     exact (h.bl y z hz).Uy m b1
theorem bH.aby (h : bH a H L k) {ns : List Str} {b : Addr} (b1 : p4 H L.bd ns (fun n => .ref (L.ad n))) (b2 : ns.Nodup) (b3 : ∀ n, n ∈ ns ↔ (k.f n).isSome = true) (hn : k.f n = none) (hm : n ∈ L.nm) (hb : eW a H b n x) (m : Mv [L.bd] H H') (Q8 : p4 H' L.bd (ns ++ [n]) (bI (fun n => .ref (L.ad n)) n (.ref b))) : bH a H' { L with ad := bI L.ad n b } { k with f := bI k.f n (some x) } /\ gm a L H H' := by
 obtain ⟨ts, w1, w2, w3⟩ := h.wt
 have hf : ∀ y, (bI k.f n (some x) y).isSome = true ↔ y = n \/ (k.f y).isSome = true := fun y => by
  by_cases ey : y = n
  . subst ey; simp [aE]
  . rw [bJ ey]; simp [ey]
 have Pp : n ∉ ns := fun z => by rw [b3, hn] at z; cases z
 refine ⟨⟨lU m b1 h.ins, ⟨ts, ⟨lU m b1 w1.ins, w1.dat.mv m (by simpa using h.ne)⟩, w2, w3⟩, ⟨_, Q8.congr fun y hy => ?_, ?_, fun y => ?_⟩, fun y z hz => ?_, h.ne, h.nl, h.nt, fun y hy => ?_⟩, Fr.VO m b1 (List.mem_cons_of_mem _ List.mem_cons_self)⟩
 . show bI (fun n => V.ref (L.ad n)) n (V.ref b) y = V.ref (bI L.ad n b y)
   by_cases ey : y = n
   . subst ey; rw [aE, aE]
   . rw [bJ ey, bJ ey]
 . rw [List.nodup_append]
   refine ⟨b2, by simp, fun y hy z hz => ?_⟩
   rw [List.mem_singleton.mp hz]
   exact fun e => Pp (e ▸ hy)
 . show _ ↔ (bI k.f n (some x) y).isSome = true
   rw [hf, List.mem_append, b3, List.mem_singleton, or_comm]
 . have hz : bI k.f n (some x) y = some z := hz
   show eW a H' (bI L.ad n b y) y z
   by_cases ey : y = n
   . subst ey
     rw [aE] at hz
     cases hz
     rw [aE]
     exact hb.Uy m b1
   . rw [bJ ey] at hz
     rw [bJ ey]
     exact (h.bl y z hz).Uy m b1
 . rcases (hf y).mp hy with e | hy
   . rw [e]; exact hm
   . exact h.nf y hy
end
local macro_rules | `(tactic| walk_at "vat") => `(tactic| first | (refine' p4.keeps ?s ?m; (case s => assumption); (case m => walk_at "vat")) | fail)
set_option hygiene false in
local macro_rules | `(tactic| walk_at "vat") => `(tactic| first | assumption | fail)
local macro_rules | `(tactic| walk_at "kat") => `(tactic| first | (refine' bH.keeps ?s ?m; (case s => assumption); (case m => walk_at "kat")) | fail)
set_option hygiene false in
local macro_rules | `(tactic| walk_at "kat") => `(tactic| first | assumption | fail)
local macro_rules | `(tactic| walk_at "rd1") => `(tactic| first | ((with_reducible refine' ZY ?e1 ?_); (case e1 => walk_at "vat")) | fail)
local macro_rules | `(tactic| walk_at "rd1") => `(tactic| first | ((with_reducible refine' R5 ?e1 ?e2 ?_); (case e1 => walk_at "vat"); (case e2 => assumption)) | fail)
local macro_rules | `(tactic| walk_at "rd1") => `(tactic| first | ((with_reducible refine' V7 ?e1 (fun _ _ _ => ?_)); (case e1 => walk_at "vat")) | fail)
def Cm (a : Ad) : Sp := fun vs H Q _ => ∃ L k n x, vs = [.ref L.p, .str n] /\ bH a H L k /\ k.f n = some x /\ Q (.ref (L.ad n)) H
theorem HK {H : Hp} {Q : VK} {E : XK} {L : Lay} {k : KS} {n : Str} {x : eI} (h : bH a H L k) (hx : k.f n = some x) (q : Q (.ref (L.ad n)) H) : Cm a [.ref L.p, .str n] H Q E := ⟨L, k, n, x, rfl, h, hx, q⟩
theorem MU (T : Txt K mg a) : aK P w K mg base eS 1 a.bT a.qJ ["self", "name"] (Cm a) := by
 have cl := T.az; have n1 := T.aS
 refine T.jP.ok Dp (fun vs H Q E h => ?_) (fun cJ A outer s H vs Q E hr h => ?_)
 . obtain ⟨_, _, _, _, rfl, _⟩ := h; rfl
 . obtain ⟨L, k, n, x, rfl, hk, hx, q⟩ := h
   have hi := hk.ins
   unfold aM at hi
   obtain ⟨ns, b1, b2, b3⟩ := hk.bd
   have hn : n ∈ ns := by rw [b3, hx]; rfl
   refine ⟨_, (ah (bM (GY (Gg (oB hr) (pv 1) (ay (pv 0) rfl)) rfl)
    (ai b8)
    aH)
    (ai (aA (DJ (oB hr) (ay (pv 0) rfl) (pv 1) (fun _ _ => rfl))))), ?_⟩
   repeat' (walk_at "rd1")
   . rename_i o e1 e2 hb
     rw [e2 hn] at hb
     cases hb
   . exact q
theorem Es (T : Txt K mg a) : dr P w K mg base 1 a.bT ["self", "name"] [] (Cm a) :=
 ⟨⟨_, _, MU T, T.jP.binds fun _ _ _ _ _ _ => .all fun us hl => match us, hl with | [_, _], _ => rfl, .nil⟩⟩
def y6 (a : Ad) : Sp := fun vs H Q _ => ∃ v b n x, vs = [v, .ref b] /\ eW a H b n x /\ x.hm = none /\ Q (.bl true) H
theorem MI {H : Hp} {Q : VK} {E : XK} {v : V} {b : Addr} {n : Str} {x : eI} (h : eW a H b n x) (hx : x.hm = none) (q : Q (.bl true) H) : y6 a [v, .ref b] H Q E := ⟨v, b, n, x, rfl, h, hx, q⟩
theorem Kb (T : Txt K mg a) : aK P w K mg base eS 1 a.bD a.oI ["self", "bell"] (y6 a) := by
 have cl := T.aG; have n1 := T.fG
 refine T.iA.ok B4 (fun vs H Q E h => ?_) (fun cJ A outer s H vs Q E hr h => ?_)
 . obtain ⟨_, _, _, _, rfl, _⟩ := h; rfl
 . obtain ⟨v, b, n, x, rfl, ⟨rv, sv, hi, hR, hd⟩, hx, q⟩ := h
   unfold fR at hi
   rw [hx] at hi
   simp only [Ny] at hi
   refine ⟨_, (ai (aA (ZS (wK Ec (ay (pv 1) rfl) cK (aN _)) (Hg A6)))), ?_⟩
   repeat' (walk_at "rd1")
   exact q
theorem HP (T : Txt K mg a) : dr P w K mg base 1 a.bD ["self", "bell"] [] (y6 a) :=
 ⟨⟨_, _, Kb T, T.iA.binds fun _ _ _ _ _ _ => .all fun us hl => match us, hl with | [_, _], _ => rfl, .nil⟩⟩
def E2 (a : Ad) : Sp := fun vs H Q _ => ∃ L k b n x, vs = [.ref L.p, .ref b] /\ bH a H L k /\ eW a H b n x /\ Q (.int (k.now + lead x k.sh)) H
theorem SG {H : Hp} {Q : VK} {E : XK} {L : Lay} {k : KS} {b : Addr} {n : Str} {x : eI} (h : bH a H L k) (hb : eW a H b n x) (q : Q (.int (k.now + lead x k.sh)) H) : E2 a [.ref L.p, .ref b] H Q E := ⟨L, k, b, n, x, rfl, h, hb, q⟩
theorem OB (T : Txt K mg a) : aK P w K mg base eS 2 a.bF a.nI ["self", "bell"] (E2 a) := by
 have cl := T.az; have n1 := T.bO; have n2 := T.b6
 have HE := IW (P := P) (w := w) (base := base) T
 refine T.iG.ok BM (fun vs H Q E h => ?_) (fun cJ A outer s H vs Q E hr h => ?_)
 . obtain ⟨_, _, _, _, _, rfl, _⟩ := h; rfl
 . obtain ⟨L, k, b, n, x, rfl, hk, hb, q⟩ := h
   have hi := hk.ins
   unfold aM at hi
   have Yh : ∃ fs, qg H (.ref b) a.ao fs /\ fs.lookup ("lead" : Str) = none := by
    obtain ⟨rv, sv, hi, _⟩ := hb
    exact ⟨_, hi, by unfold fR; walk_at "lk"⟩
   obtain ⟨fs, Yh, hbl⟩ := Yh
   refine ⟨_, (ai (aA (aw bo (ay (pv 0) rfl) (aC (pv 1) T.aG T.vE HE (hr.mono (by decide)) (ae (ay (pv 0) rfl) aj))))), ?_⟩
   repeat' (walk_at "rd1")
   exact q
theorem MK (T : Txt K mg a) : dr P w K mg base 2 a.bF ["self", "bell"] [] (E2 a) :=
 ⟨⟨_, _, OB T, T.iG.binds fun _ _ _ _ _ _ => .all fun us hl => match us, hl with | [_, _], _ => rfl, .nil⟩⟩
theorem eW.sU {H : Hp} {b : Addr} {n : Str} {x : eI} (h : eW a H b n x) : ∃ fs, qg H (.ref b) a.ao fs /\ fs.lookup ("lead" : Str) = none /\ fs.lookup ("is_over" : Str) = none /\ fs.lookup ("is_waiting" : Str) = none /\ fs.lookup ("catch_up" : Str) = none /\ fs.lookup ("wait" : Str) = none /\ fs.lookup ("rest" : Str) = none /\ fs.lookup ("move" : Str) = none /\ fs.lookup ("about" : Str) = none /\ fs.lookup ("name" : Str) = some (.str n) /\ fs.lookup ("until" : Str) = some (ow x.un) /\ fs.lookup ("since" : Str) = some (ow x.sn) /\ fs.lookup ("by_day" : Str) = some (.bl x.dy) /\ fs.lookup ("weight" : Str) = some (.int x.wt) /\ fs.lookup ("number" : Str) = some (.int x.no) := by
 obtain ⟨rv, sv, hi, _⟩ := h
 refine ⟨_, hi, ?_⟩
 unfold fR
 exact ⟨by walk_at "lk", by walk_at "lk", by walk_at "lk", by walk_at "lk", by walk_at "lk", by walk_at "lk", by walk_at "lk", by walk_at "lk", by walk_at "lk", by walk_at "lk", by walk_at "lk", by walk_at "lk", by walk_at "lk", by walk_at "lk"⟩
theorem Cr.sU {H : Hp} {v : V} {d : Addr} {n : Int} {ts : List (Str × Int)} (h : Cr a.aD H v d n ts) : ∃ fs, qg H v a.aD fs /\ fs.lookup ("put" : Str) = none /\ fs.lookup ("take" : Str) = none /\ fs.lookup ("time_of" : Str) = none /\ fs.lookup ("due" : Str) = none /\ fs.lookup ("least" : Str) = none :=
 ⟨_, h.ins, by walk_at "lk", by walk_at "lk", by walk_at "lk", by walk_at "lk", by walk_at "lk"⟩
theorem PZ {ts : List (Str × Int)} {t : Str -> Option Int} (h1 : (ts.map (·.1)).Nodup) (h2 : ∀ n u, (n, u) ∈ ts ↔ t n = some u) (n : Str) : hX (zo ts) n = (t n).map PyData.int := by
 cases e : t n with
 | some u => exact DY h1 ((h2 n u).mpr e)
 | none =>
   unfold hX zo
   rw [Option.map_none, Option.map_eq_none_iff, List.find?_eq_none]
   intro kv hkv
   obtain ⟨y, hy, rfl⟩ := List.mem_map.mp hkv
   have := (h2 y.1 y.2).mp hy
   intro z
   have z : y.1 = n := of_decide_eq_true z
   rw [z, e] at this
   cases this
def Gx (a : Ad) : Sp := fun vs H Q _ => ∃ L k n x, vs = [.ref L.p, .ref (L.ad n)] /\ bH a H L k /\ k.f n = some x /\ ∀ H', gm a L H H' -> bH a H' L { k with f := bI k.f n (some (rest x)), t := bI k.t n none } -> Q .aT H'
theorem Ox {H : Hp} {Q : VK} {E : XK} {L : Lay} {k : KS} {n : Str} {x : eI} (h : bH a H L k) (hx : k.f n = some x) (q : ∀ H', gm a L H H' -> bH a H' L { k with f := bI k.f n (some (rest x)), t := bI k.t n none } -> Q .aT H') : Gx a [.ref L.p, .ref (L.ad n)] H Q E := ⟨L, k, n, x, rfl, h, hx, q⟩
theorem Si (T : Txt K mg a) : aK P w K mg base eS 3 a.dq a.AQ ["self", "bell"] (Gx a) := by
 have cl := T.az; have n1 := T.bB; have cb := T.aG; have n2 := T.bu; have cr := T.cG
 have Io := Pn (P := P) (w := w) (base := base) T
 have Fn := Kc (P := P) (w := w) (base := base) T
 have J7 := L9 (P := P) (w := w) (base := base) T
 refine T.tT.ok G1 (fun vs H Q E h => ?_) (fun cJ A outer s H vs Q E hr h => ?_)
 . obtain ⟨_, _, _, _, rfl, _⟩ := h; rfl
 . obtain ⟨L, k, n, x, rfl, hk, hx, q⟩ := h
   have hi := hk.ins
   unfold aM at hi
   have hB := hk.bl n x hx
   obtain ⟨fs, hb, l1, l2, l3, l4, l5, l6, l7, l8, l9, l10, Oe, NZ, P6, QK⟩ := hB.sU
   obtain ⟨ts, w1, w2, w3⟩ := hk.wt
   obtain ⟨gs, hw, k1, k2, k3, k4, k5⟩ := w1.sU
   have Lk := PZ w2 w3 n
   refine ⟨_, (dg (bM (aL pT (aC (ay (pv 0) rfl) T.cG T.xn Fn (hr.mono (by decide)) (ae (ay (pv 1) rfl) aj)) cK (aN _))
    (ai (aO (aC (ay (pv 0) rfl) T.cG T.EL J7 (hr.mono (by decide)) (ae (ay (pv 1) rfl) aj))))
    aH)
    (ai (aO (fb (pv 1) T.aG T.CP Io (hr.mono (by decide)))))), ?_⟩
   refine gI (fun σ' H' => σ' = [some (.ref L.p), some (.ref (L.ad n))] /\ gm a L H H' /\ bH a H' L { k with t := bI k.t n none }) ?_ ?_
   . cases e : k.t n with
     | none =>
       rw [e] at Lk
       repeat' (walk_at "rd1")
       refine ⟨.ref L.wp, L.td, k.now, ts, n, rfl, w1, fun t ht => (by rw [Lk] at ht; cases ht), fun _ => ?_⟩
       repeat' (walk_at "rd1")
       refine ⟨rfl, Fr.refl, ?_⟩
       have : bI k.t n none = k.t := by
        funext y
        by_cases ey : y = n
        . rw [ey, aE, e]
        . rw [bJ ey]
       rw [this]; exact hk
     | some u =>
       rw [e] at Lk
       repeat' (walk_at "rd1")
       refine ⟨.ref L.wp, L.td, k.now, ts, n, rfl, w1, fun t ht => ?_, fun ht => (by rw [Lk] at ht; cases ht)⟩
       repeat' (walk_at "rd1")
       refine S2 w1 Lk (fun H' mv Ut z => ?_)
       repeat' (walk_at "rd1")
       have f1 : ∀ y v, (y, v) ∈ (ts.filter fun y => decide (y.1 ≠ n)) ↔ bI k.t n none y = some v := fun y v => by
        by_cases ey : y = n
        . subst ey; simp [aE]
        . rw [List.mem_filter, w3, bJ ey]; simp [ey]
       have f2 : ∀ y, (bI k.t n none y).isSome = true -> y ∈ L.nm := fun y hy => by
        by_cases ey : y = n
        . subst ey; rw [aE] at hy; cases hy
        . rw [bJ ey] at hy; exact hk.nt y hy
       obtain ⟨Jd, fr⟩ := hk.aad (t' := bI k.t n none) mv Ut (w2.sublist (List.filter_sublist.map _)) f1 f2
       exact ⟨rfl, fr, Jd⟩
   rintro σ' H1 ⟨rfl, zm, ib⟩
   have TN := ib.bl n x hx
   obtain ⟨fs1, hb1, _, _, _, _, _, m6, _⟩ := TN.sU
   repeat' (walk_at "rd1")
   refine W3 TN (fun H2 wA QW => ?_)
   repeat' (walk_at "rd1")
   obtain ⟨kF, qS⟩ := ib.RO T hx wA QW
   exact q _ (zm.trans qS) kF
theorem Ih (T : Txt K mg a) : dr P w K mg base 3 a.dq ["self", "bell"] [] (Gx a) :=
 ⟨⟨_, _, Si T, T.tT.binds fun _ _ _ _ _ _ => .all fun us hl => match us, hl with | [_, _], _ => rfl, .nil⟩⟩
theorem nh {β : Type} {f : Str -> β} {k : Str} {u v : β} : bI (bI f k u) k v = bI f k v := by
 funext y
 by_cases e : y = k
 . rw [e, aE, aE]
 . rw [bJ e, bJ e, bJ e]
local macro_rules | `(tactic| walk_at "fr") => `(tactic| first | (refine' Fr.step ?m ?s; (case s => assumption); (case m => walk_at "fr")) | fail)
local macro_rules | `(tactic| walk_at "fr") => `(tactic| first | (refine' Fr.trans ?m ?s; (case s => assumption); (case m => walk_at "fr")) | fail)
set_option hygiene false in
local macro_rules | `(tactic| walk_at "fr") => `(tactic| first | assumption | fail)
set_option hygiene false in
local macro_rules | `(tactic| walk_at "fr") => `(tactic| first | exact Fr.refl | fail)
def y4 (a : Ad) : Sp := fun vs H Q _ => ∃ L k n x f l, vs = [.ref L.p, .ref (L.ad n)] /\ bH a H L k /\ k.f n = some x /\ x.st = some (f, l) /\ k.t n = none /\ k.now < l - lead x k.sh /\ ∀ H', gm a L H H' -> bH a H' L { k with f := bI k.f n (some (wait x k.now k.sh f l)), t := bI k.t n (some (l - lead x k.sh)) } -> Q .aT H'
theorem LV {H : Hp} {Q : VK} {E : XK} {L : Lay} {k : KS} {n : Str} {x : eI} {f l : Int} (h : bH a H L k) (hx : k.f n = some x) (hs : x.st = some (f, l)) (ht : k.t n = none) (hl : k.now < l - lead x k.sh) (q : ∀ H', gm a L H H' -> bH a H' L { k with f := bI k.f n (some (wait x k.now k.sh f l)), t := bI k.t n (some (l - lead x k.sh)) } -> Q .aT H') : y4 a [.ref L.p, .ref (L.ad n)] H Q E := ⟨L, k, n, x, f, l, rfl, h, hx, hs, ht, hl, q⟩
theorem Jx (T : Txt K mg a) : aK P w K mg base eS 3 a.bG a.o9 ["self", "bell"] (y4 a) := by
 have cl := T.az; have n1 := T.bB; have n3 := T.bO; have n4 := T.b6; have cb := T.aG; have n2 := T.bu; have n5 := T.cw; have cr := T.cG
 have IB := MA (P := P) (w := w) (base := base) T
 have MN := S3 (P := P) (w := w) (base := base) T
 refine T.iC.ok Cz (fun vs H Q E h => ?_) (fun cJ A outer s H vs Q E hr h => ?_)
 . obtain ⟨_, _, _, _, _, _, rfl, _⟩ := h; rfl
 . obtain ⟨L, k, n, x, f, l, rfl, hk, hx, hs, ht, hl, q⟩ := h
   have hi := hk.ins
   unfold aM at hi
   have hB := hk.bl n x hx
   obtain ⟨fs, hb, l1, l2, l3, l4, l5, l6, l7, l8, l9, l10, Oe, NZ, P6, QK⟩ := hB.sU
   refine ⟨_, (dg (aO (aC (pv 1) T.aG T.CU IB (hr.mono (by decide)) (ae (ay (pv 0) rfl) (ae (ay (pv 0) rfl) aj))))
    (ai (aO (aC (ay (pv 0) rfl) T.cG T.FZ MN (hr.mono (by decide)) (ae (ay (pv 1) rfl) (ae (ay (pv 1) rfl) aj)))))), ?_⟩
   repeat' (walk_at "rd1")
   refine gI (fun σ' H' => σ' = [some (.ref L.p), some (.ref (L.ad n))] /\ gm a L H H' /\ bH a H' L { k with f := bI k.f n (some (wait x k.now k.sh f l)) }) ?_ ?_
   . repeat' (walk_at "rd1")
     refine SR hB hs (fun H2 wA QW => ?_)
     repeat' (walk_at "rd1")
     obtain ⟨kF, qS⟩ := hk.RO T hx wA QW
     exact ⟨rfl, qS, kF⟩
   rintro σ' H1 ⟨rfl, zm, ib⟩
   clear hi hB hb l1 l2 l3 l4 l5 l6 l7 l8 l9 l10 Oe NZ P6 QK
   have hi := ib.ins
   unfold aM at hi
   have hB := ib.bl n (wait x k.now k.sh f l) aE
   obtain ⟨fs, hb, l1, l2, l3, l4, l5, l6, l7, l8, l9, l10, Oe, NZ, P6, QK⟩ := hB.sU
   have l10 : fs.lookup ("until" : Str) = some (.int (l - lead x k.sh)) := l10
   obtain ⟨ts, w1, w2, w3⟩ := ib.wt
   obtain ⟨gs, hw, k1, k2, k3, k4, k5⟩ := w1.sU
   have Lk := PZ w2 w3 n
   have ht' : ({ k with f := bI k.f n (some (wait x k.now k.sh f l)) } : KS).t n = none := ht
   rw [ht'] at Lk
   have hlen : ts.length <= 100 := by
    have := Be w2 (m := L.nm) fun y hy => by
     obtain ⟨z, hz, rfl⟩ := List.mem_map.mp hy
     exact ib.nt z.1 (by rw [(w3 z.1 z.2).mp hz]; rfl)
    have h55 := ib.nl
    rw [List.length_map] at this
    omega
   repeat' (walk_at "rd1")
   refine Zg w1 hlen Lk hl (fun H2 wA Ut => ?_)
   repeat' (walk_at "rd1")
   have Pp : n ∈ L.nm := ib.nf n (by show (bI k.f n (some _) n).isSome = true; rw [aE]; rfl)
   have f0 : n ∉ ts.map (·.1) := fun z => by
    obtain ⟨y, hy, rfl⟩ := List.mem_map.mp z
    have := (w3 y.1 y.2).mp hy
    rw [ht'] at this
    cases this
   have f1 : ∀ y v, (y, v) ∈ ts ++ [(n, l - lead x k.sh)] ↔ bI k.t n (some (l - lead x k.sh)) y = some v := fun y v => by
    rw [List.mem_append, w3]
    by_cases ey : y = n
    . subst ey
      rw [aE]
      show k.t y = some v \/ _ ↔ _
      rw [ht]
      simp [eq_comm]
    . rw [bJ ey]; simp [ey]
   have f2 : ∀ y, (bI k.t n (some (l - lead x k.sh)) y).isSome = true -> y ∈ L.nm := fun y hy => by
    by_cases ey : y = n
    . subst ey; exact Pp
    . rw [bJ ey] at hy; exact ib.nt y hy
   have f3 : ((ts ++ [(n, l - lead x k.sh)]).map (·.1)).Nodup := by
    rw [List.map_append, List.nodup_append]
    refine ⟨w2, by simp, fun y hy z hz => ?_⟩
    rw [List.mem_singleton.mp hz]
    exact fun e : y = n => f0 (by rw [<- e]; exact hy)
   obtain ⟨kF, qS⟩ := ib.aad (t' := bI k.t n (some (l - lead x k.sh))) wA Ut f3 f1 f2
   exact q _ (zm.trans qS) kF
theorem Ia (T : Txt K mg a) : dr P w K mg base 3 a.bG ["self", "bell"] [] (y4 a) :=
 ⟨⟨_, _, Jx T, T.iC.binds fun _ _ _ _ _ _ => .all fun us hl => match us, hl with | [_, _], _ => rfl, .nil⟩⟩
def Bz (a : Ad) : Sp := fun vs H Q _ => ∃ L k n x, vs = [.ref L.p, .ref (L.ad n)] /\ bH a H L k /\ k.f n = some x /\ ∀ H', gm a L H H' -> bH a H' L { k with f := bI k.f n none, t := bI k.t n none } -> eW a H' (L.ad n) n (rest x) -> Q .aT H'
theorem Qg {H : Hp} {Q : VK} {E : XK} {L : Lay} {k : KS} {n : Str} {x : eI} (h : bH a H L k) (hx : k.f n = some x) (q : ∀ H', gm a L H H' -> bH a H' L { k with f := bI k.f n none, t := bI k.t n none } -> eW a H' (L.ad n) n (rest x) -> Q .aT H') : Bz a [.ref L.p, .ref (L.ad n)] H Q E := ⟨L, k, n, x, rfl, h, hx, q⟩
theorem MC (T : Txt K mg a) : aK P w K mg base eS 4 a.cm a.ur ["self", "bell"] (Bz a) := by
 have cl := T.az; have n1 := T.aS; have cb := T.aG; have n2 := T.bu
 have JH := T.mZ
 have JL := Ih (P := P) (w := w) (base := base) T
 refine T.nc.ok D9 (fun vs H Q E h => ?_) (fun cJ A outer s H vs Q E hr h => ?_)
 . obtain ⟨_, _, _, _, rfl, _⟩ := h; rfl
 . obtain ⟨L, k, n, x, rfl, hk, hx, q⟩ := h
   have hi := hk.ins
   unfold aM at hi
   refine ⟨_, (ah (aO (aC (pv 0) cl JH JL (hr.mono (by decide)) (ae (pv 1) aj)))
    (ai (aO (Il PySem.F.plainAttrs_dict PySem.F.slot_dict_pop PySem.F.type_dict_pop DH (ay (pv 0) rfl) (ae (ay (pv 1) rfl) aj))))), ?_⟩
   repeat' (walk_at "rd1")
   refine Ox hk hx (fun H1 zm ib => ?_)
   have wG := ib.ins
   unfold aM at wG
   have hB := ib.bl n (rest x) aE
   obtain ⟨fs, hb, l1, l2, l3, l4, l5, l6, l7, l8, l9, l10, Oe, NZ, P6, QK⟩ := hB.sU
   obtain ⟨ns, b1, b2, b3⟩ := ib.bd
   have hn : n ∈ ns := by rw [b3]; show (bI k.f n (some _) n).isSome = true; rw [aE]; rfl
   repeat' (walk_at "rd1")
   refine To b1 hn (fun H2 wA Q8 => ?_)
   repeat' (walk_at "rd1")
   obtain ⟨kF, qS⟩ := ib.pop b1 b2 b3 wA Q8
   have kF : bH a H2 L { k with f := bI (bI k.f n (some (rest x))) n none, t := bI k.t n none } := kF
   rw [nh] at kF
   exact q _ (zm.trans qS) kF (hB.Uy wA b1)
theorem JC (T : Txt K mg a) : dr P w K mg base 4 a.cm ["self", "bell"] [] (Bz a) :=
 ⟨⟨_, _, MC T, T.nc.binds fun _ _ _ _ _ _ => .all fun us hl => match us, hl with | [_, _], _ => rfl, .nil⟩⟩
def Iw (n : Str) : PyData := .tuple [.str "over", .str n]
def BZ (a : Ad) : Sp := fun vs H Q _ => ∃ L k n x, vs = [.ref L.p, .ref (L.ad n)] /\ bH a H L k /\ k.f n = some x /\ ∀ q H', gm a L H H' -> H q = none -> eT H' q [Iw n] -> bH a H' L { k with f := bI k.f n none, t := bI k.t n none } -> Q (.ref q) H'
theorem N6 {H : Hp} {Q : VK} {E : XK} {L : Lay} {k : KS} {n : Str} {x : eI} (h : bH a H L k) (hx : k.f n = some x) (q : ∀ q H', gm a L H H' -> H q = none -> eT H' q [Iw n] -> bH a H' L { k with f := bI k.f n none, t := bI k.t n none } -> Q (.ref q) H') : BZ a [.ref L.p, .ref (L.ad n)] H Q E := ⟨L, k, n, x, rfl, h, hx, q⟩
theorem MQ (T : Txt K mg a) : aK P w K mg base eS 5 a.cn a.uO ["self", "bell"] (BZ a) := by
 have cl := T.az; have cb := T.aG; have n2 := T.bu
 have Qt := T.sr
 have Od := JC (P := P) (w := w) (base := base) T
 refine T.mU.ok E7 (fun vs H Q E h => ?_) (fun cJ A outer s H vs Q E hr h => ?_)
 . obtain ⟨_, _, _, _, rfl, _⟩ := h; rfl
 . obtain ⟨L, k, n, x, rfl, hk, hx, q⟩ := h
   have hi := hk.ins
   unfold aM at hi
   refine ⟨_, (ah (aO (aC (pv 0) cl Qt Od (hr.mono (by decide)) (ae (pv 1) aj)))
    (ai (aA (gK (ae (bX (ae iF (ae (ay (pv 1) rfl) aj))) aj))))), ?_⟩
   repeat' (walk_at "rd1")
   refine Qg hk hx (fun H1 zm ib hB => ?_)
   obtain ⟨fs, hb, l1, l2, l3, l4, l5, l6, l7, l8, l9, l10, Oe, NZ, P6, QK⟩ := hB.sU
   repeat' (walk_at "rd1")
   rename_i v2 H2 s2 V8 q3 H3 s3 D4 Fc
   exact q _ _ ((zm.step s2).step s3) (zm.none (s2.none D4)) Fc ((ib.keeps s2).keeps s3)
theorem J8 (T : Txt K mg a) : dr P w K mg base 5 a.cn ["self", "bell"] [] (BZ a) :=
 ⟨⟨_, _, MQ T, T.mU.binds fun _ _ _ _ _ _ => .all fun us hl => match us, hl with | [_, _], _ => rfl, .nil⟩⟩
def bt (k : KS) (x : eI) : Int := k.now + lead x k.sh
def layB (k : KS) (x : eI) (l : Int) : eI := aV (rest x) l (bt k x)
def dc (k : KS) (n : Str) (x : eI) (l : Int) : KS := match (layB k x l).st with
 | none => { k with f := bI k.f n none, t := bI k.t n none }
 | some (f', l') => { k with f := bI k.f n (some (wait (layB k x l) k.now k.sh f' l')), t := bI k.t n (some (l' - lead x k.sh)) }
def jb (k : KS) (n : Str) (x : eI) (l : Int) : List PyData := missed n (rest x) l (bt k x) ++ (match (layB k x l).st with
 | none => [Iw n]
 | some _ => [])
structure gq (k : KS) (x : eI) (f l : Int) : Prop where
 st : x.st = some (f, l)
 hm : x.hm = none
 n0 : 0 <= x.no
 n1 : x.no < 10 ^ 99
 t1 : bt k x < 10 ^ 80
 t2 : bt k x - l < 10 ^ 80
theorem FW (k : KS) (x : eI) (l sh : Int) : lead (layB k x l) sh = lead x sh := by unfold layB aV; split <;> rfl
theorem eW.ris {H : Hp} {b : Addr} {n : Str} {x : eI} (h : eW a H b n x) : ∃ v, sW a H v x.ru := let ⟨rv, _, _, h2, _⟩ := h; ⟨rv, h2⟩
theorem Tw {k : KS} {x : eI} {f l f' l' : Int} {H : Hp} {v : V} (hR : sW a H v x.ru) (ok : gq k x f l) (e : (layB k x l).st = some (f', l')) : bt k x < l' := by
 unfold layB aV at e
 split at e
 . rename_i h
   have e : x.st = some (f', l') := e
   rw [ok.st] at e
   cases e
   exact h
 . exact (XC (r := x.ru) hR e).1
def Jl (a : Ad) : Sp := fun vs H Q _ => ∃ L k n x f l, vs = [.ref L.p, .ref (L.ad n)] /\ bH a H L k /\ k.f n = some x /\ gq k x f l /\ ∀ q H', gm a L H H' -> H q = none -> eT H' q (jb k n x l) -> bH a H' L (dc k n x l) -> Q (.ref q) H'
theorem P2 {H : Hp} {Q : VK} {E : XK} {L : Lay} {k : KS} {n : Str} {x : eI} {f l : Int} (h : bH a H L k) (hx : k.f n = some x) (ok : gq k x f l) (q : ∀ q H', gm a L H H' -> H q = none -> eT H' q (jb k n x l) -> bH a H' L (dc k n x l) -> Q (.ref q) H') : Jl a [.ref L.p, .ref (L.ad n)] H Q E := ⟨L, k, n, x, f, l, rfl, h, hx, ok, q⟩
theorem Wx (T : Txt K mg a) : aK P w K mg base eS 6 a.ej a.Dc ["self", "bell"] (Jl a) := by
 have cl := T.az; have cb := T.aG
 have JH := T.mZ; have Kg := T.lA; have Kp := T.kX; have QF := T.qC; have Kn := T.lZ
 have JL := Ih (P := P) (w := w) (base := base) T
 have KD := HP (P := P) (w := w) (base := base) T
 have Jz := MK (P := P) (w := w) (base := base) T
 have PO := J8 (P := P) (w := w) (base := base) T
 have KC := Ia (P := P) (w := w) (base := base) T
 have Dx := MX (P := P) (w := w) (base := base) T
 have Ea := J5 (P := P) (w := w) (base := base) T
 refine T.zi.ok CW (fun vs H Q E h => ?_) (fun cJ A outer s H vs Q E hr h => ?_)
 . obtain ⟨_, _, _, _, _, _, rfl, _⟩ := h; rfl
 . obtain ⟨L, k, n, x, f, l, rfl, hk, hx, ok, q⟩ := h
   have hi := hk.ins
   unfold aM at hi
   obtain ⟨rv, hR⟩ := (hk.bl n x hx).ris
   refine ⟨_, (ah (aO (aC (pv 0) cl JH JL (hr.mono (by decide)) (ae (pv 1) aj)))
    (ah (bM (qd (cE (aC (pv 0) cl Kg KD (hr.mono (by decide)) (ae (pv 1) aj)) (fun _ => rfl)))
     (ai (aA (gK aj)))
     aH)
    (ah (aI (i := 2) CW.nd rfl (Or.inl rfl) (aC (pv 1) T.aG T.rQ Dx (hr.mono (by decide)) (ae (aC (pv 0) cl Kp Jz (hr.mono (by decide)) (ae (pv 1) aj)) aj)))
    (ah (bM (cE (fb (pv 1) T.aG T.wx Ea (hr.mono (by decide))) (fun _ => rfl))
     (ai (aA (aw VC (pv 2) (aC (pv 0) cl QF PO (hr.mono (by decide)) (ae (pv 1) aj)))))
     aH)
    (ah (aO (aC (pv 0) cl Kn KC (hr.mono (by decide)) (ae (pv 1) aj)))
    (ai (aA (pv 2)))))))), ?_⟩
   repeat' (walk_at "rd1")
   refine Ox hk hx (fun H1 zm ib => ?_)
   have wG := ib.ins
   unfold aM at wG
   have TN := ib.bl n (rest x) aE
   obtain ⟨fs, hb, l1, l2, l3, l4, l5, l6, l7, l8, l9, l10, Oe, NZ, P6, QK⟩ := TN.sU
   repeat' (walk_at "rd1")
   refine MI TN ok.hm ?_
   repeat' (walk_at "rd1")
   refine SG ib TN ?_
   repeat' (walk_at "rd1")
   refine T3 TN ok.st ok.n0 ok.n1 ok.t1 ok.t2 (fun q2 H2 wA Ct Fj QW => ?_)
   obtain ⟨kF, qS⟩ := ib.RO T (x := rest x) aE wA QW
   have kF : bH a H2 L { k with f := bI (bI k.f n (some (rest x))) n (some (layB k x l)), t := bI k.t n none } := kF
   have QW : eW a H2 (L.ad n) n (layB k x l) := QW
   have Fj : eT H2 q2 (missed n (rest x) l (bt k x)) := Fj
   rw [nh] at kF
   have HW := kF.ins
   unfold aM at HW
   obtain ⟨fs2, YB, _, o2, _⟩ := QW.sU
   have YQ : ∀ {f' l' : Int}, (layB k x l).st = some (f', l') -> bt k x < l' := fun e => Tw hR ok e
   unfold jb dc at q
   cases AO : (layB k x l).st with
   | none =>
     rw [AO] at q
     repeat' (walk_at "rd1")
     . refine N6 kF aE (fun q3 H3 Bx D4 Fc yT => ?_)
       have yT : bH a H3 L { k with f := bI (bI k.f n (some (layB k x l))) n none, t := bI (bI k.t n none) n none } := yT
       rw [nh, nh] at yT
       have Tp := Bx.lat Fj
       refine PK Tp Fc (by unfold missed; split <;> exact Nat.le_of_ble_eq_true rfl) (fun q4 H4 s4 hn4 RL => ?_)
       repeat' (walk_at "rd1")
       exact q _ _ (((zm.trans qS).trans Bx).step s4) (zm.none (qS.none (Bx.none hn4))) RL (yT.keeps s4)
     . rename_i hb
       rw [AO] at hb
       cases hb
   | some fl =>
     obtain ⟨f', l'⟩ := fl
     rw [AO] at q
     have YQ := YQ AO
     repeat' (walk_at "rd1")
     . rename_i hb
       rw [AO] at hb
       cases hb
     . refine LV kF aE AO aE (by show k.now < l' - lead (layB k x l) k.sh; rw [FW]; unfold bt at YQ; omega) (fun H3 Bx yT => ?_)
       have yT : bH a H3 L { k with f := bI (bI k.f n (some (layB k x l))) n (some (wait (layB k x l) k.now k.sh f' l')), t := bI (bI k.t n none) n (some (l' - lead (layB k x l) k.sh)) } := yT
       rw [nh, nh, FW] at yT
       repeat' (walk_at "rd1")
       exact q _ _ ((zm.trans qS).trans Bx) (zm.none Ct) (by rw [List.append_nil]; exact Bx.lat Fj) yT
theorem G5 (T : Txt K mg a) : dr P w K mg base 6 a.ej ["self", "bell"] [] (Jl a) :=
 ⟨⟨_, _, Wx T, T.zi.binds fun _ _ _ _ _ _ => .all fun us hl => match us, hl with | [_, _], _ => rfl, .nil⟩⟩
def KI (H H' : Hp) : Prop := ∀ x o, H x = some o -> (∀ xs, o ≠ .lst xs) -> H' x = some o
section
variable {H H' H1 : Hp} {L : Lay} {k : KS} {n : Str} {x : eI}
theorem Va {q : Addr} {ds : List PyData} (m : Mv [q] H H') (h : eT H q ds) : KI H H' := fun y o e nl => m.kp y o (fun z => by
 obtain ⟨xs, e2, _⟩ := h
 rw [List.mem_singleton.mp z, e2] at e
 cases e
 exact nl _ rfl) e
theorem KI.ins {C : Addr} {v : V} {fs : List (Str × V)} (s : KI H H') (h : qg H v C fs) : qg H' v C fs := by
 obtain ⟨p, dx, rfl, e⟩ := h
 exact ⟨p, dx, rfl, s _ _ e (by intro _ z; cases z)⟩
theorem KI.tup (s : KI H H') : ∀ a xs, H a = some (.tup xs) -> H' a = some (.tup xs) := fun _ _ e => s _ _ e (by intro _ z; cases z)
theorem KI.dla {p : Addr} {m : List (Str × PyData)} (s : KI H H') (h : pq H p m) : pq H' p m := by
 obtain ⟨kvs, e, d⟩ := h
 exact ⟨kvs, s _ _ e (by intro _ z; cases z), d.wF s.tup⟩
theorem KI.ris {v : V} {r : RU} (s : KI H H') (h : sW a H v r) : sW a H' v r := by cases r <;> exact ⟨s.ins h.1, h.2⟩
theorem KI.bat {b : Addr} (s : KI H H') (h : eW a H b n x) : eW a H' b n x := by
 obtain ⟨rv, sv, h1, h2, h3⟩ := h
 exact ⟨rv, sv, s.ins h1, s.ris h2, h3.wF s.tup (pW _)⟩
theorem KI.kat (s : KI H H') (h : bH a H L k) : bH a H' L k := by
 obtain ⟨ts, w1, w2, w3⟩ := h.wt
 obtain ⟨ns, b1, b2, b3⟩ := h.bd
 exact ⟨s.ins h.ins, ⟨ts, ⟨s.ins w1.ins, s.dla w1.dat⟩, w2, w3⟩, ⟨ns, s _ _ b1 (by intro _ z; cases z), b2, b3⟩, fun n x e => s.bat (h.bl n x e), h.ne, h.nl, h.nt, h.nf⟩
theorem VI {cs S : List Addr} {q : Addr} (f : Fr cs S H H1) (m : Mv [q] H1 H') (hn : H q = none) : Fr cs S H H' := ⟨fun y o e a b => m.kp y o (fun z => by rw [List.mem_singleton.mp z, hn] at e; cases e) (f.kp y o e a b), fun y e => f.dm y (m.dm y e)⟩
end
theorem HR {H : Hp} {p : Addr} {ss : List Str} (h : eT H p (ss.map PyData.str)) : H p = some (.lst (ss.map V.str)) := by
 obtain ⟨xs, e, dv, im⟩ := h
 have : xs = ss.map V.str := by
  clear e im
  induction ss generalizing xs with
  | nil => cases dv; rfl
  | cons s ss ih =>
    cases dv with
    | cons h r =>
      rw [h.str_inv, ih _ r]; rfl
 rw [this] at e
 exact e
theorem Ua {H : Hp} {Q : VK} {p : Addr} {ns : List Str} {f : Str -> V} (hp : p4 H p ns f) (hl : ns.length < 64) (h : ∀ q H' ss, ax H H' -> H q = none -> ss.Perm ns -> QO ss -> eT H' q (ss.map PyData.str) -> Q (.ref q) H') : Lb [.ref p] H Q := ⟨_, rfl, p, _, ns, rfl, hp, p4.Yz, hl, h⟩
def o3 (k : KS) (ss : List Str) : Prop := QO ss /\ ∀ n, n ∈ ss ↔ (k.f n).isSome = true
theorem bH.len {H : Hp} {L : Lay} {k : KS} (h : bH a H L k) {ns : List Str} (b2 : ns.Nodup) (b3 : ∀ n, n ∈ ns ↔ (k.f n).isSome = true) : ns.length < 60 := by
 have := Be b2 (m := L.nm) fun y hy => h.nf y ((b3 y).mp hy)
 have := h.nl
 omega
theorem o3.len {H : Hp} {L : Lay} {k : KS} {ss : List Str} (h : bH a H L k) (hs : o3 k ss) (nd : ss.Nodup) : ss.length < 60 := h.len nd hs.2
def Gy (a : Ad) : Sp := fun vs H Q _ => ∃ L k, vs = [.ref L.p] /\ bH a H L k /\ ∀ q H' ss, ax H H' -> H q = none -> o3 k ss -> ss.Nodup -> H' q = some (.lst (ss.map fun n => .ref (L.ad n))) -> Q (.ref q) H'
theorem Ow {H : Hp} {Q : VK} {E : XK} {L : Lay} {k : KS} (h : bH a H L k) (q : ∀ q H' ss, ax H H' -> H q = none -> o3 k ss -> ss.Nodup -> H' q = some (.lst (ss.map fun n => .ref (L.ad n))) -> Q (.ref q) H') : Gy a [.ref L.p] H Q E := ⟨L, k, rfl, h, q⟩
theorem TQ (T : Txt K mg a) : aK P w K mg base eS 1 a.a9 a.mE ["self"] (Gy a) := by
 have cl := T.az; have n1 := T.aS
 refine T.gB.ok AF (fun vs H Q E h => ?_) (fun cJ A outer s H vs Q E hr h => ?_)
 . obtain ⟨_, _, rfl, _⟩ := h; rfl
 . obtain ⟨L, k, rfl, hk, q⟩ := h
   have hi := hk.ins
   unfold aM at hi
   obtain ⟨ns, b1, b2, b3⟩ := hk.bd
   have hlen := hk.len b2 b3
   refine ⟨_, (ai (aA (E8 (T := ["name"]) (M := ["self"]) (UG (ak eO) ["self"] rfl rfl (by decide +kernel)) rfl (fE (bw (JB rfl) rfl T.jq PyProof.Rows.boot_sorted (ae (ay (pv 0) rfl) aj))) (fun _ _ _ _ _ => (bq (i := 0) (show List.Nodup (["name", "self"] : List Str) by decide +kernel) rfl (Or.inl rfl))) (jr (by decide)) (fun _ _ _ _ _ => A9) (fun _ _ _ _ _ => (DJ (oB hr) (pU (K := K) rfl (pv 1) rfl) (pv 0) (fun _ _ => rfl)))))), ?_⟩
   repeat' (walk_at "rd1")
   refine Ua b1 (by omega) (fun q1 H1 ss s1 F8 Vk hu1 EB => ?_)
   have hN : o3 k ss := ⟨hu1, fun n => by rw [Vk.mem_iff, b3]⟩
   have hsl : ss.length = ns.length := Vk.length_eq
   refine O1 (xs := ss.map V.str) (.inl (.inl (HR EB))) (by rw [List.length_map]; omega) (fun i acc H' => ax H1 H' /\ acc = (ss.take i).map fun n => .ref (L.ad n)) ⟨ax.refl _, rfl⟩ (fun i acc H' hi ⟨s2, e⟩ => ⟨ax.seq s2 (.inl (.inl (HR EB))), by rw [e, List.length_map, List.length_map, List.length_take]; omega⟩) (fun i x acc H' N hx ⟨s2, e⟩ yes no => ?_) (fun acc H' q2 ⟨s2, e⟩ Ct => ?_)
   . rw [List.getElem?_map] at hx
     obtain ⟨n, hn, rfl⟩ := Option.map_eq_some_iff.mp hx
     have Wq : n ∈ ns := Vk.mem_iff.mp (List.mem_of_getElem? hn)
     have HW := (hi.keeps s1).keeps s2
     have b12 := (b1.keeps s1).keeps s2
     repeat' (walk_at "rd1")
     refine CN (fun _ => ?_) (fun hb => by cases hb)
     repeat' (walk_at "rd1")
     exact yes _ _ ⟨s2, by rw [take_snoc hn, List.map_append, e]; rfl⟩
   . rw [List.length_map, List.take_length] at e
     refine q q2 _ ss ((s1.trans s2).trans (cF Ct)) ((s1.trans s2).none Ct) hN (Vk.nodup_iff.mpr b2) ?_
     rw [au, e]
theorem HY (T : Txt K mg a) : dr P w K mg base 1 a.a9 ["self"] [] (Gy a) :=
 ⟨⟨_, _, TQ T, T.gB.binds fun _ _ _ _ _ _ => .all fun us hl => match us, hl with | [_], _ => rfl, .nil⟩⟩
def Mt (x : eI) : Int := (x.st.getD (0, 0)).2
def Cg (s : KS × List PyData) (n : Str) : KS × List PyData := match s.1.f n with
 | some x => (dc s.1 n x (Mt x), s.2 ++ jb s.1 n x (Mt x))
 | none => s
def layA (k : KS) (ns : List Str) : KS × List PyData := ns.foldl Cg (k, [])
theorem Vn {k : KS} {n m : Str} {x : eI} {l : Int} (h : m ≠ n) : (dc k n x l).f m = k.f m := by
 unfold dc
 split <;> exact bJ h
theorem Qa (k : KS) (n : Str) (x : eI) (l : Int) : (dc k n x l).now = k.now /\ (dc k n x l).sh = k.sh := by
 unfold dc
 split <;> exact ⟨rfl, rfl⟩
theorem MT (k : KS) (ns : List Str) (n : Str) : layA k (ns ++ [n]) = Cg (layA k ns) n := by unfold layA; rw [List.foldl_append]; rfl
theorem MY (s : KS × List PyData) (n : Str) : (Cg s n).1.now = s.1.now /\ (Cg s n).1.sh = s.1.sh /\ (∀ m, m ≠ n -> (Cg s n).1.f m = s.1.f m) /\ (Cg s n).2.length <= s.2.length + 3 := by
 unfold Cg
 cases e : s.1.f n with
 | none => exact ⟨rfl, rfl, fun _ _ => rfl, Nat.le_add_right _ _⟩
 | some x =>
   obtain ⟨a1, a2⟩ := Qa s.1 n x (Mt x)
   refine ⟨a1, a2, fun m hm => Vn hm, ?_⟩
   have : (jb s.1 n x (Mt x)).length <= 3 := by
    unfold jb missed
    rw [List.length_append]
    split <;> split <;> exact Nat.le_of_ble_eq_true rfl
   simp only [List.length_append]
   omega
theorem F6 : ∀ (ns : List Str) (s : KS × List PyData), (ns.foldl Cg s).1.now = s.1.now /\ (ns.foldl Cg s).1.sh = s.1.sh /\ (∀ m, m ∉ ns -> (ns.foldl Cg s).1.f m = s.1.f m) /\ (ns.foldl Cg s).2.length <= s.2.length + 3 * ns.length
 | [], s => ⟨rfl, rfl, fun _ _ => rfl, Nat.le_refl _⟩
 | n :: r, s => by
   obtain ⟨h1, h2, h3, h4⟩ := F6 r (Cg s n)
   obtain ⟨g1, g2, g3, g4⟩ := MY s n
   refine ⟨h1.trans g1, h2.trans g2, fun m hm => ?_, ?_⟩
   . rw [List.mem_cons, not_or] at hm
     exact (h3 m hm.2).trans (g3 m hm.1)
   . rw [List.foldl_cons, List.length_cons]
     omega
theorem Nm (k : KS) (ns : List Str) : (layA k ns).1.now = k.now /\ (layA k ns).1.sh = k.sh /\ (∀ m, m ∉ ns -> (layA k ns).1.f m = k.f m) /\ (layA k ns).2.length <= 3 * ns.length := by
 have := F6 ns (k, [])
 simpa [layA] using this
theorem gq.lst {k : KS} {x : eI} {f l : Int} (h : gq k x f l) : Mt x = l := by unfold Mt; rw [h.st]; rfl
theorem gq.same {k k' : KS} {x : eI} {f l : Int} (h : gq k x f l) (e1 : k'.now = k.now) (e2 : k'.sh = k.sh) : gq k' x f l := by
 have e : bt k' x = bt k x := by unfold bt; rw [e1, e2]
 exact ⟨h.st, h.hm, h.n0, h.n1, by rw [e]; exact h.t1, by rw [e]; exact h.t2⟩
def K6 (k : KS) (ns : List Str) : Prop := ns.Nodup /\ ∀ n ∈ ns, ∃ x f l, k.f n = some x /\ gq k x f l
def B8 (a : Ad) : Sp := fun vs H Q _ => ∃ L k p ns, vs = [.ref L.p, .ref p] /\ bH a H L k /\ H p = some (.lst (ns.map fun n => .ref (L.ad n))) /\ ns.length <= 100 /\ K6 k ns /\ ∀ q H', gm a L H H' -> H q = none -> eT H' q (layA k ns).2 -> bH a H' L (layA k ns).1 -> Q (.ref q) H'
theorem Pm {H : Hp} {Q : VK} {E : XK} {L : Lay} {k : KS} {p : Addr} {ns : List Str} (h : bH a H L k) (hp : H p = some (.lst (ns.map fun n => .ref (L.ad n)))) (hl : ns.length <= 100) (ok : K6 k ns) (q : ∀ q H', gm a L H H' -> H q = none -> eT H' q (layA k ns).2 -> bH a H' L (layA k ns).1 -> Q (.ref q) H') : B8 a [.ref L.p, .ref p] H Q E := ⟨L, k, p, ns, rfl, h, hp, hl, ok, q⟩
theorem Xy {H : Hp} {Q : VK} {p b : Addr} {ds es : List PyData} (hp : eT H p ds) (hb : eT H b es) (hl : ds.length + es.length <= 4000) (h : ∀ H2, Mv [p] H H2 -> eT H2 p (ds ++ es) -> Q .aT H2) : KN (.ref p) [.ref b] H Q := by
 obtain ⟨xs, e, dv, im⟩ := hp
 obtain ⟨zs, e2, Zi, im2⟩ := hb
 have mv : Mv [p] H (upd H p (.lst (xs ++ zs))) := .bP e (by intro _ z; cases z)
 refine ⟨p, b, xs, zs, rfl, rfl, e, e2, small (by rw [dv.length, Zi.length]; exact hl), h _ mv ⟨_, au, ?_, ?_⟩⟩
 . exact cI.append (dv.wF mv.tp im) (Zi.wF mv.tp im2)
 . rw [kh] at *
   intro d hd
   rcases List.mem_append.mp hd with hd | hd
   . exact im d hd
   . exact im2 d hd
theorem MM (T : Txt K mg a) : aK P w K mg base eS 7 a.bU a.rV ["self", "bells"] (B8 a) := by
 have cl := T.az
 have HL := T.jc
 have IP := G5 (P := P) (w := w) (base := base) T
 refine T.jY.ok iu (fun vs H Q E h => ?_) (fun cJ A outer s H vs Q E hr h => ?_)
 . obtain ⟨_, _, _, _, rfl, _⟩ := h; rfl
 . obtain ⟨L, k, p, ns, rfl, hk, hp, hl, ⟨sy, bA⟩, q⟩ := h
   refine ⟨_, (ah (aI (i := 2) iu.nd rfl (Or.inl rfl) (gK aj))
    (ah (zh PassesOwn.never rfl (fE (pv 1)) (bq (i := 3) iu.nd rfl (Or.inl rfl))
     (ai (aO (Il PySem.F.plainAttrs_list PySem.F.slot_list_extend PySem.F.type_list_extend Mr (pv 2) (ae (aC (pv 0) cl HL IP (hr.mono (by decide)) (ae (pv 3) aj)) aj)))))
    (ai (aA (pv 2))))), ?_⟩
   repeat' (walk_at "rd1")
   rename_i q1 H1 s1 F8 EB
   have Vk := s1 _ _ hp
   refine forL (xs := ns.map fun n => .ref (L.ad n)) (.inl (.inl Vk)) (fun i σ' H' => ∃ z, σ' = [some (.ref L.p), some (.ref p), some (.ref q1), z] /\ gm a L H H' /\ H' p = some (.lst (ns.map fun n => .ref (L.ad n))) /\ eT H' q1 (layA k (ns.take i)).2 /\ bH a H' L (layA k (ns.take i)).1) ⟨_, rfl, s1.fr, Vk, EB, hk.keeps s1⟩ (fun i σ' H' _ ⟨_, _, _, Yk, _⟩ => .inl (.inl Yk)) ?_ ?_
   . rintro i y σ' H2 hy ⟨z, rfl, qS, UN, Fj, kF⟩
     rw [List.getElem?_map] at hy
     obtain ⟨n, hn, rfl⟩ := Option.map_eq_some_iff.mp hy
     have HW := kF.ins
     unfold aM at HW
     obtain ⟨x, f, l, hx, ok⟩ := bA n (List.mem_of_getElem? hn)
     have QM : n ∉ ns.take i := by
      have := DN (f := id) (l := ns) (j := i) (c := n) (by rw [List.map_id]; exact sy) hn
      rwa [List.map_id] at this
     obtain ⟨e1, e2, e3, e4⟩ := Nm k (ns.take i)
     have hlen : (ns.take i).length <= ns.length := by rw [List.length_take]; omega
     have hx2 := (e3 n QM).trans hx
     have ok2 := ok.same (k' := (layA k (ns.take i)).1) e1 e2
     repeat' (walk_at "rd1")
     refine P2 kF hx2 ok2 (fun q3 H3 Bx D4 Fc yT => ?_)
     have Tp := Bx.lat Fj
     have hl3 : (jb (layA k (ns.take i)).1 n x l).length <= 3 := by
      unfold jb missed
      rw [List.length_append]
      split <;> split <;> exact Nat.le_of_ble_eq_true rfl
     repeat' (walk_at "rd1")
     refine Xy Tp Fc (by omega) (fun H4 O2 RL => ?_)
     have K7 : p ≠ q1 := aB hp F8
     have hp3 : H3 p = some (.lst (ns.map fun n => .ref (L.ad n))) := Bx.kp p _ UN (by intro _ z; cases z) (by intro _ _ _ z; cases z)
     have hs : layA k (ns.take (i + 1)) = (dc (layA k (ns.take i)).1 n x l, (layA k (ns.take i)).2 ++ jb (layA k (ns.take i)).1 n x l) := by
      rw [take_snoc hn, MT]
      unfold Cg
      rw [hx2]
      simp only [ok.lst]
     refine ⟨_, rfl, VI (qS.trans Bx) O2 F8, O2.kp p _ (by simpa using K7) hp3, ?_, ?_⟩
     . rw [hs]; exact RL
     . rw [hs]; exact (Va O2 Tp).kat yT
   . rintro σ' H2 ⟨z, rfl, qS, UN, Fj, kF⟩
     rw [List.length_map, List.take_length] at Fj kF
     repeat' (walk_at "rd1")
     exact q _ _ qS F8 Fj kF
theorem JW (T : Txt K mg a) : dr P w K mg base 7 a.bU ["self", "bells"] [] (B8 a) :=
 ⟨⟨_, _, MM T, T.jY.binds fun _ _ _ _ _ _ => .all fun us hl => match us, hl with | [_, _], _ => rfl, .nil⟩⟩
def Gk (a : Ad) : Sp := fun vs H Q _ => ∃ L k n x b, vs = [.ref L.p, .ref b] /\ bH a H L k /\ k.f n = none /\ n ∈ L.nm /\ eW a H b n x /\ ∀ H', gm a L H H' -> bH a H' { L with ad := bI L.ad n b } { k with f := bI k.f n (some x) } -> Q .aT H'
theorem Wo {H : Hp} {Q : VK} {E : XK} {L : Lay} {k : KS} {n : Str} {x : eI} {b : Addr} (h : bH a H L k) (hx : k.f n = none) (hm : n ∈ L.nm) (hb : eW a H b n x) (q : ∀ H', gm a L H H' -> bH a H' { L with ad := bI L.ad n b } { k with f := bI k.f n (some x) } -> Q .aT H') : Gk a [.ref L.p, .ref b] H Q E := ⟨L, k, n, x, b, rfl, h, hx, hm, hb, q⟩
theorem Sh (T : Txt K mg a) : aK P w K mg base eS 1 a.dt a.Bu ["self", "bell"] (Gk a) := by
 have cl := T.az; have n1 := T.aS; have cb := T.aG; have n2 := T.bu
 refine T.vp.ok Hc (fun vs H Q E h => ?_) (fun cJ A outer s H vs Q E hr h => ?_)
 . obtain ⟨_, _, _, _, _, rfl, _⟩ := h; rfl
 . obtain ⟨L, k, n, x, b, rfl, hk, hx, hm, hB, q⟩ := h
   have hi := hk.ins
   unfold aM at hi
   obtain ⟨ns, b1, b2, b3⟩ := hk.bd
   have hlen := hk.len b2 b3
   obtain ⟨fs, hb, l1, l2, l3, l4, l5, l6, l7, l8, l9, l10, Oe, NZ, P6, QK⟩ := hB.sU
   have Pp : n ∉ ns := fun z => by rw [b3, hx] at z; cases z
   refine ⟨_, (ai (DI (oB hr) (ay (pv 0) rfl) (ay (pv 1) rfl) (pv 1) rfl)), ?_⟩
   repeat' (walk_at "rd1")
   refine RC b1 (by omega) Pp (fun H2 wA Q8 => ?_)
   repeat' (walk_at "rd1")
   obtain ⟨kF, qS⟩ := hk.aby b1 b2 b3 hx hm hB wA Q8
   exact q _ qS kF
theorem Pg (T : Txt K mg a) : dr P w K mg base 1 a.dt ["self", "bell"] [] (Gk a) :=
 ⟨⟨_, _, Sh T, T.vp.binds fun _ _ _ _ _ _ => .all fun us hl => match us, hl with | [_, _], _ => rfl, .nil⟩⟩
theorem IV {k : KS} {n : Str} {x y : eI} {l : Int} : dc { k with f := bI k.f n (some y) } n x l = dc k n x l := by
 unfold dc
 show (match (layB k x l).st with | none => _ | some (f', l') => _) = (match (layB k x l).st with | none => _ | some (f', l') => _)
 cases (layB k x l).st with
 | none => simp only [nh]
 | some p => simp only [nh]; rfl
def Jp (a : Ad) : Sp := fun vs H Q _ => ∃ L k n rv r wt dy, vs = [.ref L.p, .str n, rv, .int wt, .aT, .bl dy] /\ bH a H L k /\ k.f n = none /\ n ∈ L.nm /\ sW a H rv r /\ 1 <= wt /\ gq k (Ez r wt none dy) (Kh r).1 (Kh r).2 /\ ∀ q H' b, gm a L H H' -> H q = none -> eT H' q (jb k n (Ez r wt none dy) (Kh r).2) -> bH a H' { L with ad := bI L.ad n b } (dc k n (Ez r wt none dy) (Kh r).2) -> Q (.ref q) H'
theorem Um {H : Hp} {Q : VK} {E : XK} {L : Lay} {k : KS} {n : Str} {rv : V} {r : RU} {wt : Int} {dy : Bool} (h : bH a H L k) (hx : k.f n = none) (hm : n ∈ L.nm) (hR : sW a H rv r) (hw : 1 <= wt) (ok : gq k (Ez r wt none dy) (Kh r).1 (Kh r).2) (q : ∀ q H' b, gm a L H H' -> H q = none -> eT H' q (jb k n (Ez r wt none dy) (Kh r).2) -> bH a H' { L with ad := bI L.ad n b } (dc k n (Ez r wt none dy) (Kh r).2) -> Q (.ref q) H') : Jp a [.ref L.p, .str n, rv, .int wt, .aT, .bl dy] H Q E := ⟨L, k, n, rv, r, wt, dy, rfl, h, hx, hm, hR, hw, ok, q⟩
theorem W9 (T : Txt K mg a) : aK P w K mg base eS 10 a.dG a.wV ["self", "name", "rule", "weight", "group", "by_day"] (Jp a) := by
 have cl := T.az; have n1 := T.aS; have cb := T.aG
 have Wn := T.yz; have HL := T.jc
 have Xo := Pg (P := P) (w := w) (base := base) T
 have IP := G5 (P := P) (w := w) (base := base) T
 have OQ := JG (P := P) (w := w) (base := base) T
 refine T.qc.ok yj (fun vs H Q E h => ?_) (fun cJ A outer s H vs Q E hr h => ?_)
 . obtain ⟨_, _, _, _, _, _, _, rfl, _⟩ := h; rfl
 . obtain ⟨L, k, n, rv, r, wt, dy, rfl, hk, hx, hm, hR, hw, ok, q⟩ := h
   have hi := hk.ins
   unfold aM at hi
   obtain ⟨ns, b1, b2, b3⟩ := hk.bd
   have Pp : n ∉ ns := fun z => by rw [b3, hx] at z; cases z
   refine ⟨_, (ah (bM (GY (PU (oB hr) (pv 1) (ay (pv 0) rfl)) rfl)
    (ai b8)
    aH)
    (ah (bM (PW.pt (He (aL pT (pv 4) cK (aN _)) (DL (qd (cE A6 (fun _ => rfl))))))
     (ai b8)
     aH)
    (ah (bM (aL C5 (pv 3) af (aN _))
     (ai b8)
     aH)
    (ah (aI (i := 6) yj.nd rfl (Or.inl rfl) (DM T.PL OQ (hr.mono (by decide)) rfl T.KR (ae (pv 1) (ae (pv 2) (ae (pv 3) (ae (pv 4) (ae (pv 5) aj)))))))
    (ah (aO (aC (pv 0) cl Wn Xo (hr.mono (by decide)) (ae (pv 6) aj)))
    (ai (aA (aC (pv 0) cl HL IP (hr.mono (by decide)) (ae (pv 6) aj))))))))), ?_⟩
   repeat' (walk_at "rd1")
   . rename_i o e1 e2 hb
     exact absurd (e1.mp hb) Pp
   . refine Rb (hm := none) rfl hR (fun b H1 s1 F8 TN => ?_)
     have ib := hk.keeps s1
     have wG := ib.ins
     unfold aM at wG
     repeat' (walk_at "rd1")
     refine Wo ib hx hm TN (fun H2 qS kF => ?_)
     have HW : qg H2 (.ref L.p) a.ag (aM { L with ad := bI L.ad n b } k.now k.sh) := kF.ins
     unfold aM at HW
     repeat' (walk_at "rd1")
     have eb : b = ({ L with ad := bI L.ad n b } : Lay).ad n := aE.symm
     rw [show (V.ref b) = V.ref (({ L with ad := bI L.ad n b } : Lay).ad n) by rw [<- eb]]
     refine P2 (L := { L with ad := bI L.ad n b }) kF (x := Ez r wt none dy) aE (ok.same rfl rfl) (fun q3 H3 Bx D4 Fc yT => ?_)
     repeat' (walk_at "rd1")
     have Bx : gm a L H2 H3 := Bx
     rw [IV] at yT
     exact q _ _ b ((s1.fr.trans qS).trans Bx) (s1.none (qS.none D4)) Fc yT
theorem Sn (T : Txt K mg a) : dr P w K mg base 10 a.dG ["self", "name", "rule", "weight", "group", "by_day"] [] (Jp a) :=
 ⟨⟨_, _, W9 T, T.qc.binds fun _ _ _ _ _ _ s us kx hl => by
   obtain ⟨o, n, h1, h2⟩ := T.A1.ex
   have hl : us.length = 6 := by simp at hl; omega
   match us, hl with
   | [_, _, _, _, _, _], _ => exact PySem.W.binds_K kx rfl h1 h2 rfl rfl, .nil⟩⟩
def dX (x : eI) (f l : Int) : eI := { x with st := some (f, l) }
def Gs (a : Ad) : Sp := fun vs H Q _ => ∃ L k n x f l, vs = [.ref L.p, .str n, .int f, .int l] /\ bH a H L k /\ k.f n = some x /\ 0 <= f /\ f <= l /\ gq k (dX x f l) f l /\ ∀ q H', gm a L H H' -> H q = none -> eT H' q (jb k n (dX x f l) l) -> bH a H' L (dc k n (dX x f l) l) -> Q (.ref q) H'
theorem E9 {H : Hp} {Q : VK} {E : XK} {L : Lay} {k : KS} {n : Str} {x : eI} {f l : Int} (h : bH a H L k) (hx : k.f n = some x) (h0 : 0 <= f) (h1 : f <= l) (ok : gq k (dX x f l) f l) (q : ∀ q H', gm a L H H' -> H q = none -> eT H' q (jb k n (dX x f l) l) -> bH a H' L (dc k n (dX x f l) l) -> Q (.ref q) H') : Gs a [.ref L.p, .str n, .int f, .int l] H Q E := ⟨L, k, n, x, f, l, rfl, h, hx, h0, h1, ok, q⟩
theorem SU (T : Txt K mg a) : aK P w K mg base eS 7 a.cV a.wz ["self", "name", "first", "last"] (Gs a) := by
 have cl := T.az; have cb := T.aG
 have B9 := T.gG; have HL := T.jc
 have B5 := Es (P := P) (w := w) (base := base) T
 have IP := G5 (P := P) (w := w) (base := base) T
 have IL := L8 (P := P) (w := w) (base := base) T
 refine T.mR.ok tZ (fun vs H Q E h => ?_) (fun cJ A outer s H vs Q E hr h => ?_)
 . obtain ⟨_, _, _, _, _, _, rfl, _⟩ := h; rfl
 . obtain ⟨L, k, n, x, f, l, rfl, hk, hx, h0, h1, ok, q⟩ := h
   have hi := hk.ins
   unfold aM at hi
   have hB := hk.bl n x hx
   obtain ⟨fs, hb, l1, l2, l3, l4, l5, l6, l7, l8, l9, l10, Oe, NZ, P6, QK⟩ := hB.sU
   refine ⟨_, (ah (aI (i := 4) tZ.nd rfl (Or.inl rfl) (aC (pv 0) cl B9 B5 (hr.mono (by decide)) (ae (pv 1) aj)))
    (ah (bM (PW.pt (KZ (aL C5 (pv 2) af (aN _)) (Ho (aL C5 (pv 3) (pv 2) (aN _)))))
     (ai b8)
     aH)
    (ah (aO (aC (pv 4) T.aG T.CF IL (hr.mono (by decide)) (ae (pv 2) (ae (pv 3) aj))))
    (ai (aA (aC (pv 0) cl HL IP (hr.mono (by decide)) (ae (pv 4) aj))))))), ?_⟩
   repeat' (walk_at "rd1")
   refine HK hk hx ?_
   repeat' (walk_at "rd1")
   refine R3 hB (fun H2 wA QW => ?_)
   obtain ⟨kF, qS⟩ := hk.RO T hx wA QW
   have HW := kF.ins
   unfold aM at HW
   repeat' (walk_at "rd1")
   refine P2 kF (x := dX x f l) aE (ok.same rfl rfl) (fun q3 H3 Bx D4 Fc yT => ?_)
   repeat' (walk_at "rd1")
   rw [IV] at yT
   exact q _ _ (qS.trans Bx) (qS.none D4) Fc yT
theorem EK (T : Txt K mg a) : dr P w K mg base 7 a.cV ["self", "name", "first", "last"] [] (Gs a) :=
 ⟨⟨_, _, SU T, T.mR.binds fun _ _ _ _ _ _ => .all fun us hl => match us, hl with | [_, _, _, _], _ => rfl, .nil⟩⟩
def EY (a : Ad) : Sp := fun vs H Q _ => ∃ L k n x f l, vs = [.ref L.p, .str n] /\ bH a H L k /\ k.f n = some x /\ x.st = some (f, l) /\ ∀ v' H', ax H H' -> Dv H' v' (.tuple [.int x.no, .int f, .int l]) -> Q v' H'
theorem KH {H : Hp} {Q : VK} {E : XK} {L : Lay} {k : KS} {n : Str} {x : eI} {f l : Int} (h : bH a H L k) (hx : k.f n = some x) (hs : x.st = some (f, l)) (q : ∀ v' H', ax H H' -> Dv H' v' (.tuple [.int x.no, .int f, .int l]) -> Q v' H') : EY a [.ref L.p, .str n] H Q E := ⟨L, k, n, x, f, l, rfl, h, hx, hs, q⟩
theorem OO (T : Txt K mg a) : aK P w K mg base eS 2 a.cB a.qB ["self", "name"] (EY a) := by
 have cl := T.az; have cb := T.aG
 have B9 := T.gG
 have B5 := Es (P := P) (w := w) (base := base) T
 have Gv := Jw (P := P) (w := w) (base := base) T
 refine T.kB.ok Dr (fun vs H Q E h => ?_) (fun cJ A outer s H vs Q E hr h => ?_)
 . obtain ⟨_, _, _, _, _, _, rfl, _⟩ := h; rfl
 . obtain ⟨L, k, n, x, f, l, rfl, hk, hx, hs, q⟩ := h
   have hi := hk.ins
   unfold aM at hi
   have hB := hk.bl n x hx
   obtain ⟨fs, hb, l1, l2, l3, l4, l5, l6, l7, l8, l9, l10, Oe, NZ, P6, QK⟩ := hB.sU
   refine ⟨_, (ai (aA (fb (aC (pv 0) cl B9 B5 (hr.mono (by decide)) (ae (pv 1) aj)) T.aG T.zQ Gv (hr.mono (by decide))))), ?_⟩
   repeat' (walk_at "rd1")
   refine HK hk hx ?_
   repeat' (walk_at "rd1")
   exact q _ _ (by walk_at "same") (by walk_at "dat")
theorem F4 (T : Txt K mg a) : dr P w K mg base 2 a.cB ["self", "name"] [] (EY a) :=
 ⟨⟨_, _, OO T, T.kB.binds fun _ _ _ _ _ _ => .all fun us hl => match us, hl with | [_, _], _ => rfl, .nil⟩⟩
def Cj (a : Ad) : Sp := fun vs H Q _ => ∃ L k n x f l d, vs = [.ref L.p, .str n, .int d] /\ bH a H L k /\ k.f n = some x /\ x.st = some (f, l) /\ 0 <= f + d /\ f <= l /\ gq k (dX x (f + d) (l + d)) (f + d) (l + d) /\ ∀ q H', gm a L H H' -> H q = none -> eT H' q (jb k n (dX x (f + d) (l + d)) (l + d)) -> bH a H' L (dc k n (dX x (f + d) (l + d)) (l + d)) -> Q (.ref q) H'
theorem Qo {H : Hp} {Q : VK} {E : XK} {L : Lay} {k : KS} {n : Str} {x : eI} {f l d : Int} (h : bH a H L k) (hx : k.f n = some x) (hs : x.st = some (f, l)) (h0 : 0 <= f + d) (h1 : f <= l) (ok : gq k (dX x (f + d) (l + d)) (f + d) (l + d)) (q : ∀ q H', gm a L H H' -> H q = none -> eT H' q (jb k n (dX x (f + d) (l + d)) (l + d)) -> bH a H' L (dc k n (dX x (f + d) (l + d)) (l + d)) -> Q (.ref q) H') : Cj a [.ref L.p, .str n, .int d] H Q E := ⟨L, k, n, x, f, l, d, rfl, h, hx, hs, h0, h1, ok, q⟩
theorem M4 (T : Txt K mg a) : aK P w K mg base eS 8 a.bK a.lX ["self", "name", "by"] (Cj a) := by
 have cl := T.az
 have T5 := T.kC; have Xr := T.fc
 have Rx := F4 (P := P) (w := w) (base := base) T
 have WV := EK (P := P) (w := w) (base := base) T
 refine T.gF.ok dU (fun vs H Q E h => ?_) (fun cJ A outer s H vs Q E hr h => ?_)
 . obtain ⟨_, _, _, _, _, _, _, rfl, _⟩ := h; rfl
 . obtain ⟨L, k, n, x, f, l, d, rfl, hk, hx, hs, h0, h1, ok, q⟩ := h
   have hi := hk.ins
   unfold aM at hi
   refine ⟨_, (ah (Qq (aC (pv 0) cl T5 Rx (hr.mono (by decide)) (ae (pv 1) aj)) (Hv (n := 3) rfl (ef (bq (i := 3) dU.nd rfl (Or.inl rfl)) (ef (bq (i := 4) dU.nd rfl (Or.inl rfl)) (ef (bq (i := 5) dU.nd rfl (Or.inl rfl)) zJ)))))
    (ai (aA (aC (pv 0) cl Xr WV (hr.mono (by decide)) (ae (pv 1) (ae (aw bo (pv 4) (pv 2)) (ae (aw bo (pv 5) (pv 2)) aj))))))), ?_⟩
   repeat' (walk_at "rd1")
   refine Wr ?_
   repeat' (walk_at "rd1")
   refine KH hk hx hs (fun v1 H1 s1 hv1 => ?_)
   refine V3 hv1 (fun w1 w2 w3 f1 f2 f3 => ?_)
   obtain rfl := f1.int_inv
   obtain rfl := f2.int_inv
   obtain rfl := f3.int_inv
   have ib := hk.keeps s1
   have wG := ib.ins
   unfold aM at wG
   repeat' (walk_at "rd1")
   refine E9 ib hx h0 (by omega) ok (fun q3 H3 Bx D4 Fc yT => ?_)
   repeat' (walk_at "rd1")
   exact q _ _ (s1.fr.trans Bx) (s1.none D4) Fc yT
theorem JX (T : Txt K mg a) : dr P w K mg base 8 a.bK ["self", "name", "by"] [] (Cj a) :=
 ⟨⟨_, _, M4 T, T.gF.binds fun _ _ _ _ _ _ => .all fun us hl => match us, hl with | [_, _, _], _ => rfl, .nil⟩⟩
def cj (k : KS) (n : Str) : Option PyData := (k.f n).bind fun x => if x.sn.isSome = true then some (.tuple [.str n, XY x.sn, XY x.un, .int x.wt]) else none
def m3 (k : KS) (ss : List Str) : List PyData := ss.filterMap (cj k)
def D2 (a : Ad) : Sp := fun vs H Q _ => ∃ L k, vs = [.ref L.p] /\ bH a H L k /\ ∀ q H' ss, ax H H' -> H q = none -> o3 k ss -> ss.Nodup -> eT H' q (m3 k ss) -> Q (.ref q) H'
theorem Q9 {H : Hp} {Q : VK} {E : XK} {L : Lay} {k : KS} (h : bH a H L k) (q : ∀ q H' ss, ax H H' -> H q = none -> o3 k ss -> ss.Nodup -> eT H' q (m3 k ss) -> Q (.ref q) H') : D2 a [.ref L.p] H Q E := ⟨L, k, rfl, h, q⟩
theorem DQ {k : KS} {n : Str} {d : PyData} (h : cj k n = some d) : By d = true := by
 unfold cj at h
 cases e : k.f n with
 | none => rw [e] at h; cases h
 | some x =>
   rw [e] at h
   simp only [Option.bind_some] at h
   split at h
   . cases h
     simp [By, cC, Ld]
   . cases h
theorem PH (T : Txt K mg a) : aK P w K mg base eS 2 a.cD a.sM ["self"] (D2 a) := by
 have cl := T.az; have cb := T.aG; have n1 := T.bu; have n2 := T.ck; have n3 := T.cw; have n4 := T.eF
 have uP := T.fy
 have wa := HY (P := P) (w := w) (base := base) T
 have zB := Kw (P := P) (w := w) (base := base) T
 refine T.jF.ok Du (fun vs H Q E h => ?_) (fun cJ A outer s H vs Q E hr h => ?_)
 . obtain ⟨_, _, rfl, _⟩ := h; rfl
 . obtain ⟨L, k, rfl, hk, q⟩ := h
   have hi := hk.ins
   unfold aM at hi
   refine ⟨_, (ai (aA (E8 (T := ["bell"]) (M := ["self"]) (UG (ak fO) ["self"] rfl rfl (by decide +kernel)) rfl (fE (fb (pv 0) cl uP wa (hr.mono (by decide)))) (fun _ _ _ _ _ => (bq (i := 0) (show List.Nodup (["bell", "self"] : List Str) by decide +kernel) rfl (Or.inl rfl))) (jr (by decide)) (fun _ _ _ _ _ => (GI (FY (K := K) rfl (fb (pv 0) T.aG T.k9 zB (hr.mono (by decide))) (fun _ => rfl)))) (fun _ _ _ _ _ => (bX (ae (pU (K := K) rfl (pv 0) rfl) (ae (pU (K := K) rfl (pv 0) rfl) (ae (pU (K := K) rfl (pv 0) rfl) (ae (pU (K := K) rfl (pv 0) rfl) aj))))))))), ?_⟩
   repeat' (walk_at "rd1")
   refine Ow hk (fun q1 H1 ss s1 F8 hN sy EB => ?_)
   have hlen := hN.len hk sy
   refine O1 (xs := ss.map fun n => .ref (L.ad n)) (.inl (.inl EB)) (by rw [List.length_map]; omega) (fun i acc H' => ax H1 H' /\ cI H' acc (m3 k (ss.take i)) /\ acc.length <= i) ⟨ax.refl _, .nil, Nat.le_refl _⟩ (fun i acc H' hi ⟨s2, _, e⟩ => ⟨ax.seq s2 (.inl (.inl EB)), by omega⟩) (fun i v acc H' N hx ⟨s2, dv, Zo⟩ yes no => ?_) (fun acc H' q2 ⟨s2, dv, _⟩ Ct => ?_)
   . rw [List.getElem?_map] at hx
     obtain ⟨n, hn, rfl⟩ := Option.map_eq_some_iff.mp hx
     obtain ⟨x, Vx⟩ := Option.isSome_iff_exists.mp ((hN.2 n).mp (List.mem_of_getElem? hn))
     have hB := ((hk.keeps s1).keeps s2).bl n x Vx
     obtain ⟨fs, hb, l1, l2, l3, l4, l5, l6, l7, l8, l9, l10, Oe, NZ, P6, QK⟩ := hB.sU
     have Xh : m3 k (ss.take (i + 1)) = m3 k (ss.take i) ++ (cj k n).toList := by
      unfold m3
      rw [take_snoc hn, List.filterMap_append]
      congr 1
     have hkd : cj k n = if x.sn.isSome = true then some (.tuple [.str n, XY x.sn, XY x.un, .int x.wt]) else none := by unfold cj; rw [Vx]; rfl
     repeat' (walk_at "rd1")
     refine CN (fun hb => ?_) (fun hb => ?_)
     . rw [if_pos hb] at hkd
       repeat' (walk_at "rd1")
       rename_i v5 H5 s5 Rv
       refine yes _ _ ⟨s2.trans s5, ?_, by rw [List.length_append, List.length_singleton]; omega⟩
       rw [Xh, hkd]
       exact cI.append (dv.keeps s5) (.cons Rv .nil)
     . rw [if_neg (by rw [hb]; exact Bool.false_ne_true)] at hkd
       refine no _ ⟨s2, ?_, by omega⟩
       rw [Xh, hkd, Option.toList_none, List.append_nil]
       exact dv
   . rw [List.length_map, List.take_length] at dv
     have im : cC (m3 k ss) = true := kh.mpr fun d hd => by
      obtain ⟨n, _, e⟩ := List.mem_filterMap.mp hd
      exact DQ e
     exact q q2 _ ss ((s1.trans s2).trans (cF Ct)) ((s1.trans s2).none Ct) hN sy (zr Ct dv im)
theorem NI (T : Txt K mg a) : dr P w K mg base 2 a.cD ["self"] [] (D2 a) :=
 ⟨⟨_, _, PH T, T.jF.binds fun _ _ _ _ _ _ => .all fun us hl => match us, hl with | [_], _ => rfl, .nil⟩⟩
theorem bH.abP (T : Txt K mg a) {H : Hp} {L : Lay} {k : KS} {dx : Addr} {fs : List (Str × V)} {now sh : Int} {t : Str -> Option Int} (h : bH a H L k) (e : H L.p = some (.ins a.ag dx fs)) (hw : ∃ ts, Cr a.aD H (.ref L.wp) L.td now ts /\ (ts.map (·.1)).Nodup /\ ∀ n u, (n, u) ∈ ts ↔ t n = some u) (ht : ∀ n, (t n).isSome = true -> n ∈ L.nm) : bH a (upd H L.p (.ins a.ag dx (aM L now sh))) L { k with now := now, sh := sh, t := t } /\ gm a L H (upd H L.p (.ins a.ag dx (aM L now sh))) := by
 have m : Mv [L.p] H (upd H L.p (.ins a.ag dx (aM L now sh))) := .bP e (by intro _ z; cases z)
 obtain ⟨ts, w1, w2, w3⟩ := hw
 obtain ⟨ns, b1, b2, b3⟩ := h.bd
 have Y3 : ∀ {d : Addr} {kvs : List (Key × V)}, H d = some (.dK kvs) -> d ∉ [L.p] := fun {d kvs} e2 z => by rw [List.mem_singleton.mp z, e] at e2; cases e2
 obtain ⟨kw, ew, _⟩ := id w1.dat
 refine ⟨⟨⟨L.p, dx, rfl, au⟩, ⟨ts, ⟨Au m e (Ne.symm T.cW) w1.ins, w1.dat.mv m (Y3 ew)⟩, w2, w3⟩, ⟨ns, b1.mv m (Y3 b1), b2, b3⟩, fun y z hz => ?_, h.ne, h.nl, ht, h.nf⟩, Fr.MZ m e (List.mem_cons_of_mem _ List.mem_cons_self)⟩
 obtain ⟨rv, sv, h1, h2, h3⟩ := h.bl y z hz
 refine ⟨rv, sv, Au m e T.df h1, ?_, m.dat (pW _) h3⟩
 exact sW.fr (cs := [a.ag]) (S := []) (Fr.MZ m e List.mem_cons_self)
  (by simpa using T.eh)
  h2
def Dm (k : KS) (ss : List Str) : List Str := ss.filter fun n => (k.f n).any (·.dy)
def Hl (a : Ad) : Sp := fun vs H Q _ => ∃ L k d, vs = [.ref L.p, .int d] /\ bH a H L k /\ 0 <= k.now + k.sh + d /\ (∀ ss, o3 k ss -> ss.Nodup -> K6 { k with sh := k.sh + d } (Dm k ss)) /\ ∀ q H' ss, gm a L H H' -> H q = none -> o3 k ss -> ss.Nodup -> eT H' q (layA { k with sh := k.sh + d } (Dm k ss)).2 -> bH a H' L (layA { k with sh := k.sh + d } (Dm k ss)).1 -> Q (.ref q) H'
theorem WR {H : Hp} {Q : VK} {E : XK} {L : Lay} {k : KS} {d : Int} (h : bH a H L k) (h0 : 0 <= k.now + k.sh + d) (ok : ∀ ss, o3 k ss -> ss.Nodup -> K6 { k with sh := k.sh + d } (Dm k ss)) (q : ∀ q H' ss, gm a L H H' -> H q = none -> o3 k ss -> ss.Nodup -> eT H' q (layA { k with sh := k.sh + d } (Dm k ss)).2 -> bH a H' L (layA { k with sh := k.sh + d } (Dm k ss)).1 -> Q (.ref q) H') : Hl a [.ref L.p, .int d] H Q E := ⟨L, k, d, rfl, h, h0, ok, q⟩
theorem S6 (T : Txt K mg a) : aK P w K mg base eS 8 a.cZ a.sZ ["self", "by"] (Hl a) := by
 have cl := T.az; have n1 := T.bO; have n2 := T.b6; have cb := T.aG; have n3 := T.de
 have uP := T.fy; have Nk := T.nT
 have wa := HY (P := P) (w := w) (base := base) T
 have M8 := JW (P := P) (w := w) (base := base) T
 refine T.ni.ok Eo (fun vs H Q E h => ?_) (fun cJ A outer s H vs Q E hr h => ?_)
 . obtain ⟨_, _, _, rfl, _⟩ := h; rfl
 . obtain ⟨L, k, d, rfl, hk, h0, bA, q⟩ := h
   obtain ⟨p, dx, e, hi⟩ := hk.ins
   cases e
   obtain ⟨ib, zm⟩ := hk.abP T (now := k.now) (sh := k.sh + d) hi hk.wt hk.nt
   unfold aM at hi
   refine ⟨_, (ah (bM (aL C5 (aw bo (aw bo (ay (pv 0) rfl) (ay (pv 0) rfl)) (pv 1)) af (aN _))
    (ai b8)
    aH)
    (dg (aX (pv 0) (aw bo (ay (pv 0) rfl) (pv 1)) rfl)
    (ai (aA (aC (pv 0) cl Nk M8 (hr.mono (by decide)) (ae (E8 (T := ["bell"]) (M := ["self", "by"]) (UG (ak gP) ["self", "by"] rfl rfl (by decide +kernel)) rfl (fE (fb (pv 0) cl uP wa (hr.mono (by decide)))) (fun _ _ _ _ _ => (bq (i := 0) (show List.Nodup (["bell", "self", "by"] : List Str) by decide +kernel) rfl (Or.inl rfl))) (jr (by decide)) (fun _ _ _ _ _ => (GI (FY (K := K) rfl (pU (K := K) rfl (pv 0) rfl) (fun _ => rfl)))) (fun _ _ _ _ _ => (pv 0))) aj)))))), ?_⟩
   repeat' (walk_at "rd1")
   refine gI (fun σ' H' => σ' = [some (.ref L.p), some (.int d)] /\ gm a L H H' /\ bH a H' L { k with sh := k.sh + d }) ?_ ?_
   . repeat' (walk_at "rd1")
     exact ⟨rfl, zm, ib⟩
   clear ib zm
   rintro σ' H1 ⟨rfl, zm, ib⟩
   have wG := ib.ins
   unfold aM at wG
   repeat' (walk_at "rd1")
   refine Ow ib (fun q2 H2 ss s2 Ct hN sy Fj => ?_)
   have hlen := hN.len ib sy
   refine O1 (xs := ss.map fun n => .ref (L.ad n)) (.inl (.inl Fj)) (by rw [List.length_map]; omega) (fun i acc H' => ax H2 H' /\ acc = (Dm k (ss.take i)).map (fun n => .ref (L.ad n)) /\ acc.length <= i) ⟨ax.refl _, rfl, Nat.le_refl _⟩ (fun i acc H' hi ⟨s3, _, e⟩ => ⟨ax.seq s3 (.inl (.inl Fj)), by omega⟩) (fun i v acc H' N hx ⟨s3, ea, Zo⟩ yes no => ?_) (fun acc H' q3 ⟨s3, ea, _⟩ D4 => ?_)
   . rw [List.getElem?_map] at hx
     obtain ⟨n, hn, rfl⟩ := Option.map_eq_some_iff.mp hx
     obtain ⟨x, Vx⟩ := Option.isSome_iff_exists.mp ((hN.2 n).mp (List.mem_of_getElem? hn))
     have hB := ((ib.keeps s2).keeps s3).bl n x Vx
     obtain ⟨fs, hb, l1, l2, l3, l4, l5, l6, l7, l8, l9, l10, Oe, NZ, P6, QK⟩ := hB.sU
     have Vx : k.f n = some x := Vx
     have Xh : Dm k (ss.take (i + 1)) = Dm k (ss.take i) ++ (if x.dy = true then [n] else []) := by
      unfold Dm
      rw [take_snoc hn, List.filter_append]
      congr 1
      rw [List.filter_cons, List.filter_nil]
      simp [Vx]
     repeat' (walk_at "rd1")
     refine CN (fun hb => ?_) (fun hb => ?_)
     . rw [if_pos hb] at Xh
       repeat' (walk_at "rd1")
       refine yes _ _ ⟨s3, ?_, by rw [List.length_append, List.length_singleton]; omega⟩
       rw [Xh, ea, List.map_append]; rfl
     . rw [if_neg (by rw [hb]; exact Bool.false_ne_true), List.append_nil] at Xh
       refine no _ ⟨s3, ?_, by omega⟩
       rw [Xh, ea]
   . rw [List.length_map, List.take_length] at ea
     have s4 : ax H2 (upd H' q3 (.lst acc)) := s3.trans (cF D4)
     have Oh := (ib.keeps s2).keeps s4
     have Ry := Oh.ins
     unfold aM at Ry
     have hl4 : (Dm k ss).length <= ss.length := List.length_filter_le _ _
     repeat' (walk_at "rd1")
     refine Pm Oh (ns := Dm k ss) (by rw [au, ea]) (by omega) (bA ss hN sy) (fun q5 H5 Vh hn5 hq5 VL => ?_)
     repeat' (walk_at "rd1")
     exact q _ _ ss ((zm.step (s2.trans s4)).trans Vh) (zm.none (s2.none (s4.none hn5))) hN sy hq5 VL
theorem NT (T : Txt K mg a) : dr P w K mg base 8 a.cZ ["self", "by"] [] (Hl a) :=
 ⟨⟨_, _, S6 T, T.ni.binds fun _ _ _ _ _ _ => .all fun us hl => match us, hl with | [_, _], _ => rfl, .nil⟩⟩
def Qv (t : Str -> Option Int) (to : Int) : Str -> Option Int := fun n => (t n).filter fun u => decide (to < u)
def B2 (a : Ad) : Sp := fun vs H Q _ => ∃ L k to, vs = [.ref L.p, .int to] /\ bH a H L k /\ k.now <= to /\ ∀ q H' ks, gm a L H H' -> H q = none -> (∀ u n, (u, n) ∈ ks ↔ k.t n = some u /\ u <= to) -> Srt ks -> (ks.map (·.2)).Nodup -> eT H' q ((ks.map (·.2)).map PyData.str) -> bH a H' L { k with now := to, t := Qv k.t to } -> Q (.ref q) H'
theorem Pr {H : Hp} {Q : VK} {E : XK} {L : Lay} {k : KS} {to : Int} (h : bH a H L k) (h0 : k.now <= to) (q : ∀ q H' ks, gm a L H H' -> H q = none -> (∀ u n, (u, n) ∈ ks ↔ k.t n = some u /\ u <= to) -> Srt ks -> (ks.map (·.2)).Nodup -> eT H' q ((ks.map (·.2)).map PyData.str) -> bH a H' L { k with now := to, t := Qv k.t to } -> Q (.ref q) H') : B2 a [.ref L.p, .int to] H Q E := ⟨L, k, to, rfl, h, h0, q⟩
theorem bH.abd {H : Hp} {L : Lay} {k : KS} (hk : bH a H L k) {ts : List (Str × Int)} (w2 : (ts.map (·.1)).Nodup) (w3 : ∀ n u, (n, u) ∈ ts ↔ k.t n = some u) : ts.length < 60 := by
 have := Be w2 (m := L.nm) fun y hy => by
  obtain ⟨z, hz, rfl⟩ := List.mem_map.mp hy
  exact hk.nt z.1 (by rw [(w3 z.1 z.2).mp hz]; rfl)
 have h55 := hk.nl
 rw [List.length_map] at this
 omega
theorem N3 (T : Txt K mg a) {cs S : List Addr} {H H' : Hp} {b : Addr} {n : Str} {x : eI} (f : Fr cs S H H') (hc : ∀ C ∈ cs, C = a.ag \/ C = a.aD) (h : eW a H b n x) : eW a H' b n x := by
 obtain ⟨rv, sv, h1, h2, h3⟩ := h
 refine ⟨rv, sv, f.ins (fun z => ?_) h1, sW.fr f
  (fun z => ?_)
  h2, f.wF (pW _) h3⟩
 . rcases hc _ z with e | e
   . exact T.df e
   . exact T.gX e
 . rcases hc _ z with e | e
   . exact T.eh e
   . exact T.lT e
theorem ME (T : Txt K mg a) : aK P w K mg base eS 4 a.bR a.rZ ["self", "time"] (B2 a) := by
 have cl := T.az; have n1 := T.bO; have n2 := T.bB; have cr := T.cG
 have M9 := SA (P := P) (w := w) (base := base) T
 refine T.kq.ok DB (fun vs H Q E h => ?_) (fun cJ A outer s H vs Q E hr h => ?_)
 . obtain ⟨_, _, _, rfl, _⟩ := h; rfl
 . obtain ⟨L, k, to, rfl, hk, h0, q⟩ := h
   obtain ⟨p, dx, e, hi⟩ := hk.ins
   cases e
   have Jg := Mv.bP (o := .ins a.ag dx (aM L to k.sh)) hi (by intro _ z; cases z)
   have zm : Fr [a.ag] [] H _ := Fr.MZ Jg hi List.mem_cons_self
   have fk1 : gm a L H _ := Fr.MZ Jg hi (List.mem_cons_of_mem _ List.mem_cons_self)
   obtain ⟨ts, w1, w2, w3⟩ := hk.wt
   obtain ⟨ns, b1, b2, b3⟩ := hk.bd
   have hlen := hk.abd w2 w3
   have wG : upd H L.p (.ins a.ag dx (aM L to k.sh)) L.p = some (.ins a.ag dx (aM L to k.sh)) := au
   unfold aM at hi
   refine ⟨_, (dg (aX (pv 0) (pv 1) rfl)
    (ai (aA (E8 (T := ["due", "name"]) (M := ["self", "time"]) (UG (ak fP) ["self", "time"] rfl rfl (by decide +kernel)) rfl (fE (aC (ay (pv 0) rfl) T.cG T.F3 M9 (hr.mono (by decide)) (ae (pv 1) aj))) (fun _ _ _ _ _ => (Lp (K := K) (n := 2) rfl rfl (ef (bq (i := 0) (show List.Nodup (["due", "name", "self", "time"] : List Str) by decide +kernel) rfl (Or.inl rfl)) (ef (bq (i := 1) (show List.Nodup (["due", "name", "self", "time"] : List Str) by decide +kernel) rfl (Or.inl rfl)) zJ)))) (Ie (pN (by decide) (pN (by decide) Gb))) (fun _ _ _ _ _ => A9) (fun _ _ _ _ _ => (pv 1)))))), ?_⟩
   refine gI (fun σ' H' => σ' = [some (.ref L.p), some (.int to)] /\ H' = upd H L.p (.ins a.ag dx (aM L to k.sh))) ?_ ?_
   . repeat' (walk_at "rd1")
     exact ⟨rfl, rfl⟩
   rintro σ' H1 ⟨rfl, eH⟩
   rw [<- eH] at Jg zm fk1 wG
   clear eH
   have Ut : Cr a.aD H1 (.ref L.wp) L.td k.now ts := by
    obtain ⟨kw, ew, _⟩ := id w1.dat
    exact ⟨zm.ins (by simpa using Ne.symm T.cW) w1.ins, zm.dla (by simp) w1.dat⟩
   have Q8 : p4 H1 L.bd ns (fun n => .ref (L.ad n)) := zm.kp _ _ b1 (by intro _ _; simp) (by intro _ _ _ z; cases z)
   obtain ⟨gs, hw, k1, k2, k3, k4, k5⟩ := Ut.sU
   have hiK : qg H1 (.ref L.p) a.ag (aM L to k.sh) := ⟨_, _, rfl, wG⟩
   unfold aM at hiK
   repeat' (walk_at "rd1")
   refine ⟨L.wp, L.td, k.now, ts, to, rfl, Ut, by omega, w2, h0, fun q2 H2 ks wA Ct UN Nv Fj hw2 => ?_⟩
   have qS : Fr [a.aD] [L.td] H1 H2 := by
    obtain ⟨wp, dw, ewp, hwp⟩ := Ut.ins
    cases ewp
    obtain ⟨kw2, ew2, _⟩ := id Ut.dat
    refine ⟨fun y o e c1 c2 => wA.kp y o (fun z => ?_) e, wA.dm⟩
    rw [List.mem_cons, List.mem_singleton] at z
    rcases z with z | z
    . rw [z, hwp] at e; cases e; exact c2 _ _ _ rfl List.mem_cons_self
    . rw [z, ew2] at e; cases e; exact c1 _ rfl (by simp [z])
   have fk2 : gm a L H1 H2 := ⟨fun y o e c1 c2 => qS.kp y o e (fun kvs ek z => c1 kvs ek (by simp only [List.mem_singleton] at z; rw [z]; exact List.mem_cons_self)) (fun C dx fs ei z => c2 C dx fs ei (by simp only [List.mem_singleton] at z; rw [z]; simp)), qS.dm⟩
   have hkm : ∀ u n, (u, n) ∈ ks ↔ k.t n = some u /\ u <= to := fun u n => by
    rw [UN.mem_iff, List.mem_map]
    constructor
    . rintro ⟨y, hy, ey⟩
      obtain ⟨h1, h2⟩ := List.mem_filter.mp hy
      cases ey
      exact ⟨(w3 _ _).mp h1, of_decide_eq_true h2⟩
    . rintro ⟨h1, h2⟩
      exact ⟨(n, u), List.mem_filter.mpr ⟨(w3 n u).mpr h1, decide_eq_true h2⟩, rfl⟩
   have Jc : (ks.map (·.2)).Nodup := by
    refine (UN.map _).nodup_iff.mpr ?_
    rw [List.map_map]
    exact w2.sublist (List.filter_sublist.map _)
   have kF : bH a H2 L { k with now := to, t := Qv k.t to } := by
    have ab0 : qg H1 (.ref L.p) a.ag (aM L to k.sh) := ⟨_, _, rfl, wG⟩
    refine ⟨qS.ins (by simpa using T.cW) ab0, ⟨_, hw2, w2.sublist (List.filter_sublist.map _), fun n u => ?_⟩, ⟨ns, qS.kp _ _ Q8 (fun _ _ => by simpa using Ne.symm hk.ne) (by intro _ _ _ z; cases z), b2, b3⟩, fun y z hz => N3 T qS (by simp) (N3 T zm (by simp) (hk.bl y z hz)), hk.ne, hk.nl, fun y hy => hk.nt y ?_, hk.nf⟩
    . rw [List.mem_filter, w3]
      show _ ↔ (k.t n).filter _ = some u
      rw [Option.filter_eq_some_iff]
      simp
    . have hy : ((k.t y).filter fun u => decide (to < u)).isSome = true := hy
      cases e : k.t y with
      | none => rw [e] at hy; cases hy
      | some u => rfl
   have Lk : ks.length < 60 := by
    have := UN.length_eq
    rw [List.length_map] at this
    have := List.length_filter_le (fun x : Str × Int => decide (x.2 <= to)) ts
    omega
   refine Xx (cs := ks) (gd := pairD) (fun _ => true) (fun x => .str x.2) Fj.dv (by omega) (fun _ => rfl) (fun y c H' N hc sm' Fi yes no => ?_) (fun q3 H3 s3 D4 Fc => ?_)
   . refine GV Fi (fun w1 w2 f1 f2 => ?_)
     obtain rfl := f1.int_inv
     obtain rfl := f2.str_inv
     repeat' (walk_at "rd1")
     refine CN (fun _ => ?_) (fun hb => by cases hb)
     repeat' (walk_at "rd1")
     exact yes rfl _ _ (ax.refl _) (.str _)
   . rw [DF] at Fc
     repeat' (walk_at "rd1")
     exact q q3 H3 ks ((fk1.trans fk2).step s3) (fk1.none (fk2.none D4)) hkm Nv Jc (by rw [List.map_map]; exact Fc) (kF.keeps s3)
theorem Ju (T : Txt K mg a) : dr P w K mg base 4 a.bR ["self", "time"] [] (B2 a) :=
 ⟨⟨_, _, ME T, T.kq.binds fun _ _ _ _ _ _ => .all fun us hl => match us, hl with | [_, _], _ => rfl, .nil⟩⟩
def I9 (a : Ad) : Sp := fun vs H Q _ => ∃ L k to, vs = [.ref L.p, .int to] /\ bH a H L k /\ (∀ n u, k.t n = some u -> u <= to -> Q (.bl true) H) /\ ((∀ n u, k.t n = some u -> to < u) -> Q (.bl false) H)
theorem Qc (T : Txt K mg a) : aK P w K mg base eS 2 a.bj a.kd ["self", "to"] (I9 a) := by
 have cl := T.az; have n2 := T.bB; have cr := T.cG
 have IY := LU (P := P) (w := w) (base := base) T
 refine T.fV.ok jS (fun vs H Q E h => ?_) (fun cJ A outer s H vs Q E hr h => ?_)
 . obtain ⟨_, _, _, rfl, _⟩ := h; rfl
 . obtain ⟨L, k, to, rfl, hk, q1, q2⟩ := h
   have hi := hk.ins
   unfold aM at hi
   obtain ⟨ts, w1, w2, w3⟩ := hk.wt
   obtain ⟨gs, hw, k1, k2, k3, k4, k5⟩ := w1.sU
   refine ⟨_, (ah (aI (i := 2) jS.nd rfl (Or.inl rfl) (fb (ay (pv 0) rfl) T.cG T.CK IY (hr.mono (by decide))))
    (ai (aA (Kl (wK pT (pv 2) cK (aN _)) (Hg (wK Ot (pv 2) (pv 1) (aN _))))))), ?_⟩
   repeat' (walk_at "rd1")
   refine ⟨.ref L.wp, L.td, k.now, ts, rfl, w1, fun e => ?_, fun t ht hm => ?_⟩
   . repeat' (walk_at "rd1")
     exact q2 fun n u hu => by rw [<- w3, e] at hu; cases hu
   . obtain ⟨y, hy, rfl⟩ := List.mem_map.mp ht
     have hy' := (w3 y.1 y.2).mp hy
     repeat' (walk_at "rd1")
     by_cases hle : y.2 <= to
     . rw [show decide (y.2 <= to) = true from decide_eq_true hle]
       exact q1 _ _ hy' hle
     . rw [show decide (y.2 <= to) = false from decide_eq_false hle]
       refine q2 fun n u hu => ?_
       have := hm u (List.mem_map.mpr ⟨(n, u), (w3 n u).mpr hu, rfl⟩)
       omega
theorem Ma (T : Txt K mg a) : dr P w K mg base 2 a.bj ["self", "to"] [] (I9 a) :=
 ⟨⟨_, _, Qc T, T.fV.binds fun _ _ _ _ _ _ => .all fun us hl => match us, hl with | [_, _], _ => rfl, .nil⟩⟩
theorem Ik {X : Cx} {k : Nat} {f C : Addr} {ps : List Str} {sp : Sp} {c3 : List V} {x : Str} {p pos : Pos} (M : Mk X.K C f) (F : dr X.prog X.w X.K X.mg X.base k f ps c3 sp) (hr : c9 (k + 1) X.A) (hg : Gl X x) (hm : X.mg x = some (.ref C))
 (zp : (x == ("__debug__" : Str)) = false := by decide) : PE X (.Call (.Name x p) [] [] pos) (E5 C sp c3 E0 Kf) := by
 rw [Gd]
 obtain ⟨fd, ds, F, hb, hd⟩ := F.ex
 exact Qe M F hr hg hm hb hd FX zp
def OV (C : Addr) : Sp := fun vs H Q _ => ∃ p dx, vs = [.ref p] /\ H p = some (.ins C dx []) /\ ∀ H', Mv [p] H H' -> Q .aT H'
theorem YG (T : Txt K mg a) : aK P w K mg base eS 1 a.bf a.jJ ["self"] (OV a.bx) := by
 have n1 := T.dC; have n2 := T.fm; have cl := T.gA
 refine T.gk.ok zc (fun vs H Q E h => ?_) (fun cJ A outer s H vs Q E hr h => ?_)
 . obtain ⟨_, _, rfl, _⟩ := h; rfl
 . obtain ⟨p, dx, rfl, hp, q⟩ := h
   refine ⟨_, (ah (aX (pv 0) tf rfl)
    (ai (aX (pv 0) tf rfl))), ?_⟩
   repeat' (walk_at "rd1")
   rename_i d1 H1 s1 F8 hd1 d2 H2 s2 Ct hd2
   have e1 := s1 _ _ hp
   have Jg := Mv.bP (o := .ins a.bx dx [("above_of", .ref d1)]) e1 (by intro _ z; cases z)
   have e2 := s2 _ _ (au (H := H1) (a := p) (o := .ins a.bx dx [("above_of", .ref d1)]))
   have wA := Mv.bP (o := .ins a.bx dx [("above_of", .ref d1), ("marks", .ref d2)]) e2 (by intro _ z; cases z)
   exact q _ ((s1.mv (S := [p])).trans (Jg.trans (s2.mv.trans wA)))
theorem GX (T : Txt K mg a) : dr P w K mg base 1 a.bf ["self"] [] (OV a.bx) :=
 ⟨⟨_, _, YG T, T.gk.binds fun _ _ _ _ _ _ => .all fun us hl => match us, hl with | [_], _ => rfl, .nil⟩⟩
theorem FO {H H' : Hp} {x dx : Addr} {o : HO} (hx : H x = none) (hd : H dx = none) (m : Mv [x] (upd (upd H dx (.own x)) x o) H') : ax H H' := fun b u e => by
 have hb : b ≠ x := aB e hx
 refine m.kp b u (by simpa using hb) ?_
 rw [av hb, av (aB e hd)]
 exact e
theorem RF {C : Addr} {H : Hp} {Q : VK} {E : XK} (k : ∀ v H2, ax H H2 -> Q v H2) : CG C (OV C) [] H Q E :=
 ⟨_, rfl, fun x dx hx hd _ => ⟨x, dx, rfl, au, fun H' mv => ⟨rfl, k _ _ (FO hx hd mv)⟩⟩⟩
def k0 (now : Int) : KS := ⟨now, 0, fun _ => none, fun _ => none⟩
def uw (a : Ad) : Sp := fun vs H Q _ => ∃ p dx now nm, vs = [.ref p, .aT, .int now] /\ H p = some (.ins a.ag dx []) /\ (nm : List Str).length <= 55 /\ ∀ H' L, Mv [p] H H' -> L.p = p -> L.nm = nm -> H L.td = none -> H L.bd = none -> bH a H' L (k0 now) -> Q .aT H'
theorem Qw (T : Txt K mg a) : aK P w K mg base eS 3 a.bE a.o4 ["self", "rounds", "now"] (uw a) := by
 have cl := T.az; have n1 := T.bB; have n2 := T.eJ; have n3 := T.bO; have n4 := T.b6; have n5 := T.eQ; have n6 := T.aS
 have Uc := M6 (P := P) (w := w) (base := base) T
 have JQ := GX (P := P) (w := w) (base := base) T
 refine T.iM.ok Cw (fun vs H Q E h => ?_) (fun cJ A outer s H vs Q E hr h => ?_)
 . obtain ⟨_, _, _, _, rfl, _⟩ := h; rfl
 . obtain ⟨p, dx, now, nm, rfl, hp, Ux, q⟩ := h
   refine ⟨_, (ah (aX (pv 0) (D7 (aL Ec (pv 1) cK (aN _)) (DM T.Ur Uc (hr.mono (by decide)) rfl T.OW (ae (pv 2) aj)) A6) rfl)
    (ah (aX (pv 0) (D7 (aL Ec (pv 1) cK (aN _)) cK A6) rfl)
    (ah (aX (pv 0) (pv 2) rfl)
    (ah (aX (pv 0) af rfl)
    (ah (aX (pv 0) (Ik T.Ic JQ (hr.mono (by decide)) rfl T.FJ) rfl)
    (ai (aX (pv 0) tf rfl))))))), ?_⟩
   repeat' (walk_at "rd1")
   refine Td rfl (fun wv H1 td s1 F8 VH => ?_)
   obtain ⟨wp, dw, rfl, hwp⟩ := VH.ins
   have e1 := s1 _ _ hp
   have Jg := Mv.bP (o := .ins a.ag dx [("waits", .ref wp)]) e1 (by intro _ z; cases z)
   repeat' (walk_at "rd1")
   rw [ll, ll, ll]
   have wA := Mv.bP (o := .ins a.ag dx [("waits", .ref wp), ("rounds", .aT), ("now", .int now), ("shift", .int 0)]) e1 (by intro _ z; cases z)
   refine RF (fun gv H3 s3 => ?_)
   have e3 := s3 _ _ (au (H := H1) (a := p) (o := .ins a.ag dx [("waits", .ref wp), ("rounds", .aT), ("now", .int now), ("shift", .int 0)]))
   have mv3 := Mv.bP (o := .ins a.ag dx [("waits", .ref wp), ("rounds", .aT), ("now", .int now), ("shift", .int 0), ("groups", gv)]) e3 (by intro _ z; cases z)
   repeat' (walk_at "rd1")
   repeat' (walk_at "rd1")
   rename_i bd H5 s5 hn5 PY
   have e5 := s5 _ _ (au (H := H3) (a := p) (o := .ins a.ag dx [("waits", .ref wp), ("rounds", .aT), ("now", .int now), ("shift", .int 0), ("groups", gv)]))
   have NP := Mv.bP (o := .ins a.ag dx [("waits", .ref wp), ("rounds", .aT), ("now", .int now), ("shift", .int 0), ("groups", gv), ("by_name", .ref bd)]) e5 (by intro _ z; cases z)
   have mA : Mv [p] H1 H5 := wA.trans (s3.mv.trans (mv3.trans s5.mv))
   have mB := mA.trans NP
   have Ub : H1 bd = none := (wA.trans (s3.mv.trans mv3)).none hn5
   obtain ⟨kw, ew, _⟩ := id VH.dat
   have K7 : td ≠ bd := aB ew Ub
   have ntd : td ∉ [p] := fun z => by rw [List.mem_singleton.mp z, e1] at ew; cases ew
   have nbd : bd ∉ [p] := fun z => by rw [List.mem_singleton.mp z, e1] at Ub; cases Ub
   refine q _ ⟨p, wp, td, bd, gv, fun _ => 0, nm⟩ ((s1.mv (S := [p])).trans mB) rfl rfl F8 (s1.none Ub) ⟨⟨p, dx, rfl, au⟩, ⟨[], ⟨Au mB e1 (Ne.symm T.cW) VH.ins, VH.dat.mv mB ntd⟩, List.nodup_nil, fun n u => by simp [k0]⟩, ⟨[], (Q7 PY).mv NP nbd, List.nodup_nil, fun n => by simp [k0]⟩, fun n x e => (by cases e), K7, Ux, fun n e => (by cases e), fun n e => (by cases e)⟩
theorem NC (T : Txt K mg a) : dr P w K mg base 3 a.bE ["self", "rounds", "now"] [] (uw a) :=
 ⟨⟨_, _, Qw T, T.iM.binds fun _ _ _ _ _ _ => .all fun us hl => match us, hl with | [_, _, _], _ => rfl, .nil⟩⟩
theorem P1 (T : Txt K mg a) : aK P w K mg base eS 4 a.bh a.fz ["self", "rounds", "now"] (uw a) := by
 have DC := NC (P := P) (w := w) (base := base) T
 refine T.fD.ok zl (fun vs H Q E h => ?_) (fun cJ A outer s H vs Q E hr h => ?_)
 . obtain ⟨_, _, _, _, rfl, _⟩ := h; rfl
 . obtain ⟨p, dx, now, nm, rfl, hp, Ux, q⟩ := h
   refine ⟨_, (ai (aO (Lq rfl T.LR T.rP DC (hr.mono (by decide)) (ae (pv 0) (ae (pv 1) (ae (pv 2) aj)))))), ?_⟩
   repeat' (walk_at "rd1")
   refine ⟨p, dx, now, nm, rfl, hp, Ux, fun H' L m e1 e2 e3 e4 hk => ?_⟩
   repeat' (walk_at "rd1")
   exact q H' L m e1 e2 e3 e4 hk
theorem Kt (T : Txt K mg a) : Binds K a.fz ["self", "rounds", "now"] [.none, .int 0 a.bQ] := T.fD.binds fun _ _ _ _ _ _ s us kx hl => by
 obtain ⟨o, n, h1, h2⟩ := T.mn.ex
 have hl : us.length = 1 := by simp at hl; omega
 match us, hl with
 | [_], _ => exact PySem.W.binds_K kx rfl h1 h2 rfl rfl
theorem Gz (T : Txt K mg a) : dr P w K mg base 4 a.bh ["self", "rounds", "now"] [.aT, .int 0] (uw a) := ⟨⟨_, _, P1 T, Kt T, .cons rfl (.cons ⟨_, rfl⟩ .nil)⟩⟩
theorem TU {H : Hp} {Q : VK} {E : XK} {now : Int} {us : List V} (nm : List Str) (eu : us = [.aT, .int now]) (Ux : nm.length <= 55) (k : ∀ L H2, ax H H2 -> L.nm = nm -> H L.td = none -> H L.bd = none -> bH a H2 L (k0 now) -> Q (.ref L.p) H2) : CG a.ag (uw a) us H Q E := by
 have z : ∀ {x dx d : Addr} {o : HO}, upd (upd H dx (.own x)) x o d = none -> H d = none := by
  intro x dx d o h
  unfold upd at h
  split at h
  . cases h
  . split at h
    . cases h
    . exact h
 refine ⟨_, eu, fun x dx hx hd ne => ⟨x, dx, now, nm, rfl, au, Ux, fun H' L m e1 e2 e3 e4 hk => ⟨rfl, ?_⟩⟩⟩
 subst e1
 exact k L _ (FO hx hd m) e2 (z e3) (z e4) hk
def JF (a : Ad) : Sp := fun vs H Q _ => ∃ L k to m dv, vs = [.ref L.p, .int to, m, dv] /\ bH a H L k /\ k.now <= to /\ (∀ n u, k.t n = some u -> to < u) /\ ∀ q H', gm a L H H' -> H q = none -> eT H' q [] -> bH a H' L { k with now := to } -> Q (.ref q) H'
theorem U1 {H : Hp} {Q : VK} {E : XK} {L : Lay} {k : KS} {to : Int} {m dv : V} (h : bH a H L k) (h0 : k.now <= to) (h1 : ∀ n u, k.t n = some u -> to < u) (q : ∀ q H', gm a L H H' -> H q = none -> eT H' q [] -> bH a H' L { k with now := to } -> Q (.ref q) H') : JF a [.ref L.p, .int to, m, dv] H Q E := ⟨L, k, to, m, dv, rfl, h, h0, h1, q⟩
theorem Xt (T : Txt K mg a) : aK P w K mg base eS 5 a.dZ a.pH ["self", "to", "most", "deed"] (JF a) := by
 have cl := T.az; have n1 := T.bO
 have KG := T.lP; have MB := T.oJ
 have Jy := Ma (P := P) (w := w) (base := base) T
 have Ml := Ju (P := P) (w := w) (base := base) T
 refine T.vV.ok pP (fun vs H Q E h => ?_) (fun cJ A outer s H vs Q E hr h => ?_)
 . obtain ⟨_, _, _, _, _, rfl, _⟩ := h; rfl
 . obtain ⟨L, k, to, m, dv, rfl, hk, h0, h1, q⟩ := h
   have hi := hk.ins
   unfold aM at hi
   refine ⟨_, (ah (bM (aL C5 (pv 1) (ay (pv 0) rfl) (aN _))
    (ai b8)
    aH)
    (ah (aI (i := 4) pP.nd rfl (Or.inl rfl) (gK aj))
    (ah (aI (i := 5) pP.nd rfl (Or.inl rfl) af)
    (ah (IK PassesOwn.never (cE (aC (pv 0) cl KG Jy (hr.mono (by decide)) (ae (pv 1) aj)) (fun _ => rfl))
     (ah b8
     (ah b8
     (ai b8))))
    (ah (aO (aC (pv 0) cl MB Ml (hr.mono (by decide)) (ae (pv 1) aj)))
    (ai (aA (pv 4)))))))), ?_⟩
   repeat' (walk_at "rd1")
   rename_i q1 H1 s1 F8 EB
   have ib := hk.keeps s1
   have wG := ib.ins
   unfold aM at wG
   refine K0 (fun j σ' H' => σ' = [some (.ref L.p), some (.int to), some m, some dv, some (.ref q1), some (.int 0)] /\ H' = H1) ⟨0, rfl, rfl⟩ ?_
   rintro j σ' H' ⟨rfl, rfl⟩
   repeat' (walk_at "rd1")
   refine ⟨L, k, to, rfl, ib, fun n u e1 e2 => absurd (h1 n u e1) (by omega), fun _ => ?_⟩
   repeat' (walk_at "rd1")
   refine Pr ib h0 (fun q2 H2 ks qS Ct hm2 _ _ Fj kF => ?_)
   repeat' (walk_at "rd1")
   have e : Qv k.t to = k.t := by
    funext n
    unfold Qv
    cases et : k.t n with
    | none => rfl
    | some u => rw [Option.filter_some, if_pos (decide_eq_true (h1 n u et))]
   rw [e] at kF
   exact q _ _ (s1.fr.trans qS) F8 (qS.lat EB) kF
theorem VW (T : Txt K mg a) : Binds K a.pH ["self", "to", "most", "deed"] [.int 60 a.d7, .none] := T.vV.binds fun _ _ _ _ _ _ s us kx hl => by
 obtain ⟨o, n, h1, h2⟩ := T.CJ.ex
 have hl : us.length = 2 := by simp at hl; omega
 match us, hl with
 | [_, _], _ => exact PySem.W.binds_K kx rfl h1 h2 rfl rfl
theorem L4 (T : Txt K mg a) : dr P w K mg base 5 a.dZ ["self", "to", "most", "deed"] [.int 60, .aT] (JF a) := ⟨⟨_, _, Xt T, VW T, .cons ⟨_, rfl⟩ (.cons rfl .nil)⟩⟩
def dig (n : Nat) : List Nat := if h : n < 26 then [97 + n] else dig (n / 26) ++ [97 + n % 26]
 termination_by n
 decreasing_by omega
def und (l : List Nat) : Nat := l.foldl (fun a c => a * 26 + (c - 97)) 0
theorem K5 (n : Nat) : und (dig n) = n := by
 induction n using Nat.strongRecOn with
 | ind n ih =>
   unfold dig
   split
   . simp [und]
   . have := ih (n / 26) (by omega)
     unfold und at *
     rw [List.foldl_append, this]
     simp
     omega
theorem RT {n m : Nat} (h : dig n = dig m) : n = m := by rw [<- K5 n, h, K5]
theorem KU : ∀ (k n : Nat), n < 26 ^ (k + 1) -> (dig n).length <= k + 1
 | 0, n, h => by unfold dig; rw [dif_pos (by simpa using h)]; simp
 | k + 1, n, h => by
   unfold dig
   split
   . simp
   . have : n / 26 < 26 ^ (k + 1) := by rw [Nat.div_lt_iff_lt_mul (by decide)]; rw [Nat.pow_succ] at h; exact h
     have := KU k (n / 26) this
     simp; omega
def yY (l : List Nat) : Str := ⟨l.toArray⟩
theorem HH {a b : List Nat} (h : yY a = yY b) : a = b := by
 unfold yY at h
 have := congrArg (fun s : Str => s.cps.toList) h
 simpa using this
def nameEnd (n : Nat) (l : List Nat) : List Nat := if n = 0 /\ l ≠ [] then l else dig n ++ l
theorem Gp {n : Nat} {l : List Nat} (h : ¬ (n = 0 /\ l ≠ [])) : nameEnd (n / 26) ((97 + n % 26) :: l) = nameEnd n l := by
 unfold nameEnd
 rw [if_neg h]
 by_cases h2 : n < 26
 . rw [if_pos ⟨by omega, by simp⟩]
   unfold dig
   rw [dif_pos h2]
   have : n % 26 = n := by omega
   rw [this]; rfl
 . rw [if_neg (by omega)]
   conv => rhs; unfold dig
   rw [dif_neg h2, List.append_assoc]; rfl
def A4 (n : Nat) : Str := yY (dig n)
theorem Ou {n m : Nat} (h : A4 n = A4 m) : n = m := RT (HH h)
theorem WY (N : Nat) : ∀ c ∈ dig N, c < 0x110000 := by
 induction N using Nat.strongRecOn with
 | ind n ih =>
   intro c hc
   unfold dig at hc
   split at hc
   . have : c = 97 + n := by simpa using hc
     omega
   . rcases List.mem_append.mp hc with hc | hc
     . exact ih (n / 26) (by omega) c hc
     . have : c = 97 + n % 26 := by simpa using hc
       omega
theorem UQ (N : Nat) : PyData.canLay0 (.str (A4 N)) = true := by
 show (Str.cps (A4 N)).all (· < 0x110000) = true
 rw [Array.all_eq_true']
 intro c hc
 exact decide_eq_true (WY N c (by simpa [A4, yY] using hc))
def Hm : Sp := fun vs H Q _ => ∃ c k, vs = [.int c, .int k] /\ 0 <= k /\ k < 61 /\ Q (.str (A4 (c % 3000000007 * 61 + k).toNat)) H
theorem WB {H : Hp} {Q : VK} {E : XK} {c k : Int} (h1 : 0 <= k) (h2 : k < 61) (q : Q (.str (A4 (c % 3000000007 * 61 + k).toNat)) H) : Hm [.int c, .int k] H Q E := ⟨c, k, rfl, h1, h2, q⟩
theorem Vd {n : Int} (h0 : 0 <= n) (h1 : n < 26) : Hx (Str.cps "abcdefghijklmnopqrstuvwxyz").toList n = some (97 + n.toNat) := by
 obtain ⟨m, rfl⟩ := Int.eq_ofNat_of_zero_le h0
 have hm : m < 26 := by omega
 refine Hu ?_
 have : ∀ m : Fin 26, (Str.cps "abcdefghijklmnopqrstuvwxyz").toList[m.val]? = some (97 + m.val) := by decide +kernel
 exact this ⟨m, hm⟩
theorem S5 (T : Txt K mg a) : aK P w K mg base eS 1 a.dn a.Bt ["_law_cell", "_law_k"] Hm := by
 refine T.tR.ok gb (fun vs H Q E h => ?_) (fun cJ A outer s H vs Q E hr h => ?_)
 . obtain ⟨_, _, rfl, _⟩ := h; rfl
 . obtain ⟨c, k, rfl, h1, h2, q⟩ := h
   refine ⟨_, (ah (aI (i := 2) gb.nd rfl (Or.inl rfl) (aw bo (aw wJ (aw c6 (pv 0) af) af) (pv 1)))
    (ah (aI (i := 3) gb.nd rfl (Or.inl rfl) iF)
    (ah (IK PassesOwn.never (PW.pt (KZ (aL Qi (pv 2) af (aN _)) (Ho (aL (BE hr.RZ) (pv 3) iF (aN _)))))
     (ah (aI (i := 3) gb.nd rfl (Or.inl rfl) (aw SK (aP cf iF (aw c6 (pv 2) af) (fun _ _ => rfl)) (pv 3)))
     (ai (aI (i := 2) gb.nd rfl (Or.inl rfl) (aw b9 (pv 2) af)))))
    (ai (aA (pv 3)))))), ?_⟩
   have hN : (c % 3000000007 * 61 + k) = ((c % 3000000007 * 61 + k).toNat : Int) := by omega
   have hB : (c % 3000000007 * 61 + k).toNat < 26 ^ 9 := by have : (26 : Nat) ^ 9 = 5429503678976 := by decide
                                                            omega
   generalize (c % 3000000007 * 61 + k).toNat = N at hN hB q
   repeat' (walk_at "rd1")
   rw [hN]
   refine K0 (fun m σ' H' => ∃ (n : Nat) (l : List Nat), σ' = [some (.int c), some (.int k), some (.int n), some (.str (yY l))] /\ H' = H /\ n < 26 ^ 9 /\ nameEnd n l = dig N /\ m = n + (if l = [] then 1 else 0)) ⟨_, N, [], rfl, rfl, hB, by simp [nameEnd], rfl⟩ ?_
   rintro m σ' H' ⟨n, l, rfl, rfl, hn, he, rfl⟩
   have hl : l.length <= 9 := by
    have h1 := KU 8 N hB
    rw [<- he] at h1
    unfold nameEnd at h1
    split at h1
    . exact h1
    . rw [List.length_append] at h1; omega
   have hl2 : (yY l).length <= 9 := by show l.toArray.size <= 9; simpa using hl
   have step : ¬ (n = 0 /\ l ≠ []) -> ∀ σ2 : St, σ2 = [some (.int c), some (.int k), some (.int ((n : Int) / 26)), some (.str (yY ((97 + n % 26) :: l)))] -> ∃ m', m' < n + (if l = [] then 1 else 0) /\ ∃ (n' : Nat) (l' : List Nat), σ2 = [some (.int c), some (.int k), some (.int n'), some (.str (yY l'))] /\ H' = H' /\ n' < 26 ^ 9 /\ nameEnd n' l' = dig N /\ m' = n' + (if l' = [] then 1 else 0) := by
    intro hs σ2 e
    refine ⟨n / 26, ?_, n / 26, (97 + n % 26) :: l, by rw [e, show ((n / 26 : Nat) : Int) = (n : Int) / 26 by omega], rfl, by omega, by rw [Gp hs]; exact he, by simp⟩
    by_cases h0 : l = []
    . rw [if_pos h0]; omega
    . rw [if_neg h0]
      have : n ≠ 0 := fun z => hs ⟨z, h0⟩
      omega
   have cat : ∀ x : Nat, (⟨#[x]⟩ : Str) ++ yY l = yY (x :: l) := fun x => by
    show (⟨#[x] ++ l.toArray⟩ : Str) = ⟨(x :: l).toArray⟩
    congr 1
    simp
   have ix : Hx (Str.cps "abcdefghijklmnopqrstuvwxyz").toList ((n : Int) % 26) = some (97 + n % 26) := by
    rw [Vd (by omega) (by omega)]
    rw [show ((n : Int) % 26).toNat = n % 26 by omega]
   have Yv : (Str.length "abcdefghijklmnopqrstuvwxyz") <= sizeLine := by decide
   repeat' (walk_at "rd1")
   . refine Px Yv ix (QH rfl (JV ?_ ?_))
     . show 1 + (yY l).length <= 4000; omega
     . rw [cat]
       repeat' (walk_at "rd1")
       exact step (by omega) _ rfl
   . refine Px Yv ix (QH rfl (JV ?_ ?_))
     . show 1 + (yY l).length <= 4000; omega
     . rw [cat]
       repeat' (walk_at "rd1")
       refine step ?_ _ rfl
       rename_i hb1 hb _ _
       intro z
       have : yY l = yY [] := V.str.inj hb
       exact z.2 (HH this)
   . rename_i hb1 hb
     have h0 : n = 0 := by omega
     have K7 : l ≠ [] := fun z => hb (by rw [z]; rfl)
     have : nameEnd n l = l := by unfold nameEnd; rw [if_pos ⟨h0, K7⟩]
     rw [this] at he
     rw [he]
     exact q
theorem Pl (T : Txt K mg a) : dr P w K mg base 1 a.dn ["_law_cell", "_law_k"] [] Hm :=
 ⟨⟨_, _, S5 T, T.tR.binds fun _ _ _ _ _ _ => .all fun us hl => match us, hl with | [_, _], _ => rfl, .nil⟩⟩
local macro_rules | `(tactic| walk_at "use") => `(tactic| first | ((with_reducible refine' WB ?e1 ?e2 ?_); (case e1 => omega); (case e2 => omega)) | fail)
def Zh (K : PySem.W.Frag) (x : V) (g : TG) (tb : TS) (D : Ends) (σ : St) (H1 : Hp) : Prop := ∃ a, x = .ref a /\ (∃ xs, Fp K H1 a xs) /\ ∃ W : Nat -> Nat -> St -> Hp -> Prop, (∃ m, W 0 m σ H1) /\ ∀ i m σ H, W i m σ H ->
 ((UE K a).stop i H /\ D.nx σ H) \/ ((UE K a).go i H /\ ∃ N : St -> Hp -> Prop, (∀ σ' H', N σ' H' -> ∃ m', m' < m /\ W (i + 1) m' σ' H') /\ ∀ x H', (UE K a).Q0 i H x H' -> g x σ H' fun σ2 H2 => tb { D with nx := N, ct := N, bk := D.nx } σ2 H2)
section
variable {σ : St} {H : Hp} {D : Ends} {K : PySem.W.Frag} {v : V} {g : TG} {tb : TS}
theorem VF {tl : TE} (h : tl σ H fun x H1 => Zh K x g tb D σ H1) : Sx (Z2 K tl) g tb D σ H := h
theorem ab6 {ds : List PyData} (hd : Dv H v (.tuple ds)) (S : Nat -> St -> Prop) (h0 : S 0 σ) (hs : ∀ i d x σ', ds[i]? = some d -> Dv H x d -> S i σ' -> g x σ' H fun σ2 H2 => tb { D with nx := fun XI H' => S (i + 1) XI /\ H' = H, ct := fun XI H' => S (i + 1) XI /\ H' = H, bk := D.nx } σ2 H2) (he : ∀ σ', S ds.length σ' -> D.nx σ' H) : Zh K v g tb D σ H := by
 cases hd with
 | tup h r =>
   rename_i a xs
   refine ⟨a, rfl, ⟨xs, .of h⟩, Rm (fun i σ' H' => S i σ' /\ H' = H) ⟨h0, rfl⟩ (fun i σ' H' _ p => by rw [p.2]; exact .of h) (fun i x σ' H' hx p => ?_) (fun σ' H' p => ?_)⟩
   . obtain ⟨p1, rfl⟩ := p
     have hl := r.length
     have hi : i < ds.length := by have := (List.getElem?_eq_some_iff.mp hx).1; omega
     obtain ⟨x', t6, Fi⟩ := r.get (i := i) (d := ds[i]) (List.getElem?_eq_getElem hi)
     rw [hx] at t6
     cases t6
     exact hs i _ x σ' (List.getElem?_eq_getElem hi) Fi p1
   . obtain ⟨p1, rfl⟩ := p
     rw [r.length] at p1
     exact he σ' p1
end
set_option hygiene false in
local macro_rules | `(tactic| walk_at "rd1") => `(tactic| first | with_reducible refine VF ?_ | fail)
def Flat (d : PyData) : Prop := (∃ s, d = .str s) \/ ∃ i, d = .int i
def Ent (e : PyData) : Prop := ∃ ps, e = .tuple ps /\ ∀ p ∈ ps, Flat p
def E3 : Sp := fun vs H Q _ => ∃ v es, vs = [v] /\ Dv H v (.list es) /\ (∀ e ∈ es, Ent e) /\ Q (.bl true) H
theorem Rn {H : Hp} {Q : VK} {E : XK} {v : V} {es : List PyData} (h : Dv H v (.list es)) (he : ∀ e ∈ es, Ent e) (q : Q (.bl true) H) : E3 [v] H Q E := ⟨v, es, rfl, h, he, q⟩
theorem GD (T : Txt K mg a) : aK P w K mg base eS 1 a.cR a.yP ["_law_found"] oO := by
 refine T.pZ.ok Fo (fun vs H Q E h => ?_) (fun cJ A outer s H vs Q E hr h => ?_)
 . obtain ⟨_, _, rfl, _⟩ := h; rfl
 . obtain ⟨v, d, rfl, hd, k⟩ := h
   refine ⟨_, (ai (aA (Kl (bw kr rfl T.bb PyProof.Rows.boot_isinstance (ae (pv 0) (ae (pV (v := .ty "int") rfl T.y0 PyProof.Rows.boot_int rfl) aj))) (Hg (O4 (bw kr rfl T.bb PyProof.Rows.boot_isinstance (ae (pv 0) (ae (pV (v := .ty "bool") rfl T.Ag PyProof.Rows.boot_bool rfl) aj)))))))), ?_⟩
   repeat' (walk_at "rd1")
   . refine Rj ?_; cases d <;> simp_all [isInt, isBool]
   . refine Rj ?_; cases d <;> simp_all [isInt, isBool]
theorem Fw (T : Txt K mg a) : dr P w K mg base 1 a.cR ["_law_found"] [] oO :=
 ⟨⟨_, _, GD T, T.pZ.binds fun _ _ _ _ _ _ => .all fun us hl => match us, hl with | [_], _ => rfl, .nil⟩⟩
theorem Oq (T : Txt K mg a) : aK P w K mg base eS 2 a.cN a.xk ["_law_found"] E3 := by
 have G6 := Fw (P := P) (w := w) (base := base) T
 refine T.qa.ok mV (fun vs H Q E h => ?_) (fun cJ A outer s H vs Q E hr h => ?_)
 . obtain ⟨_, _, rfl, _⟩ := h; rfl
 . obtain ⟨v, es, rfl, hv, he, q⟩ := h
   refine ⟨_, (ah (bM (qd (cE (bw kr rfl T.bb PyProof.Rows.boot_isinstance (ae (pv 0) (ae (pV (v := .ty "list") rfl T.Ar PyProof.Rows.boot_list rfl) aj))) (fun _ => rfl)))
    (ai (aA CY))
    aH)
    (ah (zh PassesOwn.never rfl (fE (pv 0)) (bq (i := 1) mV.nd rfl (Or.inl rfl))
     (ah (bM (qd (cE (bw kr rfl T.bb PyProof.Rows.boot_isinstance (ae (pv 1) (ae (pV (v := .ty "tuple") rfl T.zX PyProof.Rows.boot_tuple rfl) aj))) (fun _ => rfl)))
      (ai (aA CY))
      aH)
     (ai (zh PassesOwn.never rfl (Wg (pv 1)) (bq (i := 2) mV.nd rfl (Or.inl rfl))
      (ai (bM (PW.pt (He (qd (cE (bw kr rfl T.bb PyProof.Rows.boot_isinstance (ae (pv 2) (ae (pV (v := .ty "str") rfl T.Gm PyProof.Rows.boot_str rfl) aj))) (fun _ => rfl))) (DL (qd (cE (bW G6 (hr.mono (by decide)) rfl T.xq T.xl (ae (pv 2) aj)) (fun _ => rfl))))))
       (ai (aA CY))
       aH))))))
    (ai (aA CY)))), ?_⟩
   repeat' (walk_at "rd1")
   refine abO (cs := es) (gd := fun d => d) (by rw [List.map_id']; exact hv) (fun i σ' H' => H' = H /\ ∃ z1 z2, σ' = [some v, z1, z2]) ⟨rfl, _, _, rfl⟩ (fun i σ' H' _ ⟨e, _⟩ b xs _ hx => by rw [e]; exact hx) ?_ ?_
   . rintro i e x σ' H' hi ⟨rfl, z1, z2, rfl⟩ _ hx
     obtain ⟨ps, rfl, hps⟩ := he e (List.mem_of_getElem? hi)
     have hx : Dv H' x (.tuple ps) := hx (ax.refl _)
     repeat' (walk_at "rd1")
     refine ab6 hx (fun j σ' => ∃ z, σ' = [some v, some x, z]) ⟨_, rfl⟩ ?_ ?_
     . rintro j d y σ' hj hy ⟨z, rfl⟩
       rcases hps d (List.mem_of_getElem? hj) with ⟨s, rfl⟩ | ⟨n, rfl⟩
       . obtain rfl := hy.str_inv
         repeat' (walk_at "rd1")
         exact ⟨⟨_, rfl⟩, rfl⟩
       . obtain rfl := hy.int_inv
         repeat' (walk_at "rd1")
         exact ⟨⟨_, rfl⟩, rfl⟩
     . rintro σ' ⟨z, rfl⟩
       exact ⟨rfl, _, _, rfl⟩
   . rintro σ' H' ⟨rfl, z1, z2, rfl⟩
     repeat' (walk_at "rd1")
     exact q
theorem Nn (T : Txt K mg a) : dr P w K mg base 2 a.cN ["_law_found"] [] E3 :=
 ⟨⟨_, _, Oq T, T.qa.binds fun _ _ _ _ _ _ => .all fun us hl => match us, hl with | [_], _ => rfl, .nil⟩⟩
structure LB where
 (nm : Str) (st sp wd : Int) (m : V) (dy : Bool)
def mD : V -> PyData
 | .int i => .int i
 | _ => .none
def sV (b : LB) : PyData := .list [.str b.nm, .int b.st, .int b.sp, .int b.wd, mD b.m, .bool b.dy]
def dl (b : LB) : Int := if b.dy = true then -7 else 0
structure wM (b : LB) : Prop where
 s0 : 21 + dl b <= b.st
 s1 : b.st < 100
 p0 : 1 <= b.sp
 p1 : b.sp <= 40
 w0 : 0 <= b.wd
 w1 : b.wd < b.sp
 m : b.m = .aT \/ ∃ i, b.m = .int i /\ 1 <= i /\ i <= 9
 n : ∃ N, b.nm = A4 N
theorem wM.mok {b : LB} (h : wM b) : SJ b.m := by
 rcases h.m with h | ⟨i, h, h1, _⟩
 . exact .inl h
 . exact .inr ⟨i, h, h1⟩
theorem wM.mD {b : LB} (h : wM b) {H : Hp} {v : V} (hv : Dv H v (mD b.m)) : v = b.m := by
 rcases h.m with e | ⟨i, e, _⟩
 . rw [e] at hv ⊢; exact hv.Hi
 . rw [e] at hv ⊢; exact hv.int_inv
theorem wM.mv {b : LB} (h : wM b) (H : Hp) : Dv H b.m (My.mD b.m) := by
 rcases h.m with e | ⟨i, e, _⟩
 . rw [e]; exact .aT
 . rw [e]; exact .int _
def G3 (K : PySem.W.Frag) : Sp := fun vs H Q _ => ∃ c k, vs = [.int c, .int k] /\ 0 <= k /\ k < 61 /\ ∀ v H' b, ax H H' -> Dv H' v (sV b) -> wM b -> b.nm = A4 (c % 3000000007 * 61 + k).toNat -> Q v H'
theorem Rg (T : Txt K mg a) : aK P w K mg base eS 2 a.du a.zq ["_law_cell", "_law_k"] (G3 K) := by
 have IZ := Pl (P := P) (w := w) (base := base) T
 refine T.uT.ok dE (fun vs H Q E h => ?_) (fun cJ A outer s H vs Q E hr h => ?_)
 . obtain ⟨_, _, rfl, _⟩ := h; rfl
 . obtain ⟨c, k, rfl, h0, h1, q⟩ := h
   refine ⟨_, (ah (aI (i := 2) dE.nd rfl (Or.inl rfl) (wK (BE hr.RZ) (aw c6 (pv 0) af) af (aN _)))
    (ah (aI (i := 3) dE.nd rfl (Or.inl rfl) (aw bo af (aw c6 (aw b9 (pv 0) af) af)))
    (ah (aI (i := 4) dE.nd rfl (Or.inl rfl) cK)
    (dg (bM (aL (BE hr.RZ) (aw c6 (aw b9 (pv 0) af) af) af (aN _))
     (ai (aI (i := 4) dE.nd rfl (Or.inl rfl) (aw bo af (aw c6 (aw b9 (pv 0) af) af))))
     aH)
    (ah (aI (i := 5) dE.nd rfl (Or.inl rfl) (aw bo af (aw c6 (aw b9 (pv 0) af) af)))
    (dg (bM (cE (pv 2) (fun _ => rfl))
     (ai (aI (i := 5) dE.nd rfl (Or.inl rfl) (aw dR (pv 5) af)))
     aH)
    (ai (aA (gK (ae (bW IZ (hr.mono (by decide)) rfl T.zL T.Ay (ae (pv 0) (ae (pv 1) aj))) (ae (pv 5) (ae (pv 3) (ae (aw c6 (aw b9 (pv 0) af) (pv 3)) (ae (pv 4) (ae (pv 2) aj))))))))))))))), ?_⟩
   repeat' (walk_at "rd1")
   refine gI (fun σ' H' => H' = H /\ ∃ m, (m = .aT \/ ∃ i, m = .int i /\ 1 <= i /\ i <= 9) /\ σ' = [some (.int c), some (.int k), some (.bl (id (decide (V.int (c % 3) = V.int 1)))), some (.int (1 + c / 3 % 40)), some m, none]) ?_ ?_
   . repeat' (walk_at "rd1")
     . exact ⟨rfl, _, .inr ⟨_, rfl, by omega, by omega⟩, rfl⟩
     . exact ⟨rfl, _, .inl rfl, rfl⟩
   rintro σ' H' ⟨rfl, m, hm, rfl⟩
   generalize hdy : id (decide (V.int (c % 3) = V.int 1)) = dy
   repeat' (walk_at "rd1")
   refine gI (fun σ' H2 => H2 = H' /\ σ' = [some (.int c), some (.int k), some (.bl dy), some (.int (1 + c / 3 % 40)), some m, some (.int (21 + c / 2160 % 40 + (if dy = true then -7 else 0)))]) ?_ ?_
   . cases dy
     . repeat' (walk_at "rd1")
       exact ⟨rfl, by simp⟩
     . repeat' (walk_at "rd1")
       exact ⟨rfl, rfl⟩
   rintro σ' H2 ⟨rfl, rfl⟩
   have hmd : Dv H2 m (mD m) := by
    rcases hm with rfl | ⟨i, rfl, _⟩
    . exact .aT
    . exact .int _
   repeat' (walk_at "rd1")
   have X8 : dl ⟨A4 (c % 3000000007 * 61 + k).toNat, 21 + c / 2160 % 40 + (if dy = true then -7 else 0), 1 + c / 3 % 40, c / 7 % (1 + c / 3 % 40), m, dy⟩ = if dy = true then -7 else 0 := rfl
   have hb7 : (if dy = true then (-7 : Int) else 0) <= 0 := by split <;> decide
   refine q _ _ ⟨A4 (c % 3000000007 * 61 + k).toNat, 21 + c / 2160 % 40 + (if dy = true then -7 else 0), 1 + c / 3 % 40, c / 7 % (1 + c / 3 % 40), m, dy⟩ (by walk_at "same") (by assumption) ⟨?_, ?_, ?_, ?_, ?_, ?_, hm, ⟨_, rfl⟩⟩ rfl
   . rw [X8]; show _ <= 21 + c / 2160 % 40 + (if dy = true then -7 else 0); omega
   . show 21 + c / 2160 % 40 + (if dy = true then -7 else 0) < 100; omega
   . show 1 <= 1 + c / 3 % 40; omega
   . show 1 + c / 3 % 40 <= 40; omega
   . assumption
   . assumption
theorem P5 (T : Txt K mg a) : dr P w K mg base 2 a.du ["_law_cell", "_law_k"] [] (G3 K) :=
 ⟨⟨_, _, Rg T, T.uT.binds fun _ _ _ _ _ _ => .all fun us hl => match us, hl with | [_, _], _ => rfl, .nil⟩⟩
theorem WM {H : Hp} {Q : VK} {E : XK} {c k : Int} (h0 : 0 <= k) (h1 : k < 61) (q : ∀ v H' b, ax H H' -> Dv H' v (sV b) -> wM b -> b.nm = A4 (c % 3000000007 * 61 + k).toNat -> Q v H') : G3 K [.int c, .int k] H Q E := ⟨c, k, rfl, h0, h1, q⟩
def yR : Sp := fun vs H Q _ => ∃ c s, vs = [.int c, .int s] /\ s < 10 ^ 37 /\ ∀ v H' f l, ax H H' -> Dv H' v (.tuple [.int f, .int l]) -> 0 <= f -> f <= l -> l < 10 ^ 37 + 100 -> Q v H'
theorem NB {H : Hp} {Q : VK} {E : XK} {c s : Int} (h : s < 10 ^ 37) (q : ∀ v H' f l, ax H H' -> Dv H' v (.tuple [.int f, .int l]) -> 0 <= f -> f <= l -> l < 10 ^ 37 + 100 -> Q v H') : yR [.int c, .int s] H Q E := ⟨c, s, rfl, h, q⟩
theorem Jh (T : Txt K mg a) : aK P w K mg base eS 1 a.bV a.qu ["_law_cell", "_law_shown"] yR := by
 refine T.ko.ok iJ (fun vs H Q E h => ?_) (fun cJ A outer s H vs Q E hr h => ?_)
 . obtain ⟨_, _, rfl, _⟩ := h; rfl
 . obtain ⟨c, s, rfl, h, q⟩ := h
   refine ⟨_, (ah (aI (i := 2) iJ.nd rfl (Or.inl rfl) (bw (nu rfl) rfl T.t7 PyProof.Rows.boot_max (ae af (ae (aw dR (aw bo (pv 1) (aw c6 (aw b9 (pv 0) af) af)) af) aj))))
    (ah (bM (aL (BE hr.RZ) (aw c6 (aw b9 (pv 0) af) af) af (aN _))
     (ai (aI (i := 2) iJ.nd rfl (Or.inl rfl) (aw c6 (aw b9 (pv 0) af) (aw qb af af))))
     aH)
    (ai (aA (bX (ae (pv 2) (ae (aw bo (pv 2) (aw c6 (aw b9 (pv 0) af) af)) aj))))))), ?_⟩
   repeat' (walk_at "rd1")
   all_goals (refine q _ _ _ _ (by walk_at "same") (by assumption) ?_ ?_ ?_ <;> omega)
theorem Ij (T : Txt K mg a) : dr P w K mg base 1 a.bV ["_law_cell", "_law_shown"] [] yR :=
 ⟨⟨_, _, Jh T, T.ko.binds fun _ _ _ _ _ _ => .all fun us hl => match us, hl with | [_, _], _ => rfl, .nil⟩⟩
def Ce (b : LB) (f l now : Int) : PyData := .tuple [.str b.nm, .int (max (f - dl b) (now + 1)), .int (l - dl b), .int 1]
def Jj : Sp := fun vs H Q _ => ∃ bv b sv n f l now, vs = [bv, sv, .int now] /\ Dv H bv (sV b) /\ Dv H sv (.tuple [.int n, .int f, .int l]) /\ ∀ v H', ax H H' -> Dv H' v (Ce b f l now) -> Q v H'
theorem Uk {H : Hp} {Q : VK} {E : XK} {bv sv : V} {b : LB} {n f l now : Int} (h1 : Dv H bv (sV b)) (h2 : Dv H sv (.tuple [.int n, .int f, .int l])) (q : ∀ v H', ax H H' -> Dv H' v (Ce b f l now) -> Q v H') : Jj [bv, sv, .int now] H Q E := ⟨bv, b, sv, n, f, l, now, rfl, h1, h2, q⟩
theorem Wt (T : Txt K mg a) : aK P w K mg base eS 1 a.d9 a.C9 ["_law_bell_here", "_law_state", "_law_now"] Jj := by
 refine T.y3.ok tK (fun vs H Q E h => ?_) (fun cJ A outer s H vs Q E hr h => ?_)
 . obtain ⟨_, _, _, _, _, _, _, rfl, _⟩ := h; rfl
 . obtain ⟨bv, b, sv, n, f, l, now, rfl, h1, h2, q⟩ := h
   unfold sV at h1
   refine ⟨_, (ah (aI (i := 3) tK.nd rfl (Or.inl rfl) af)
    (dg (bM (cE (aP cf (pv 0) af (fun _ _ => rfl)) (fun _ => rfl))
     (ai (aI (i := 3) tK.nd rfl (Or.inl rfl) (aw dR af af)))
     aH)
    (ai (aA (bX (ae (aP cf (pv 0) af (fun _ _ => rfl)) (ae (bw (nu rfl) rfl T.t7 PyProof.Rows.boot_max (ae (aw dR (aP cf (pv 1) af (fun _ _ => rfl)) (pv 3)) (ae (aw bo (pv 2) af) aj))) (ae (aw dR (aP cf (pv 1) af (fun _ _ => rfl)) (pv 3)) (ae af aj))))))))), ?_⟩
   repeat' (walk_at "rd1")
   refine gI (fun σ' H' => H' = H /\ σ' = [some bv, some sv, some (.int now), some (.int (dl b))]) ?_ ?_
   . unfold dl
     cases hdy : b.dy
     . rw [hdy] at h1
       repeat' (walk_at "rd1")
       exact ⟨rfl, rfl⟩
     . rw [hdy] at h1
       repeat' (walk_at "rd1")
       exact ⟨rfl, rfl⟩
   rintro σ' H' ⟨rfl, rfl⟩
   repeat' (walk_at "rd1")
   rename_i z e1 e2 e3 v5 H5 s5 Rv
   obtain rfl : z = max (f - dl b) (now + 1) := by omega
   exact q _ _ s5 Rv
theorem Rf (T : Txt K mg a) : dr P w K mg base 1 a.d9 ["_law_bell_here", "_law_state", "_law_now"] [] Jj :=
 ⟨⟨_, _, Wt T, T.y3.binds fun _ _ _ _ _ _ => .all fun us hl => match us, hl with | [_, _, _], _ => rfl, .nil⟩⟩
def x0 (b : LB) (f l : Int) : eI := ⟨.each b.st b.sp b.wd b.m, 1, none, b.dy, 0, some (f, l), none, none⟩
def II (n : Str) (y : eI) : List PyData := match y.st with
 | none => [Iw n]
 | some _ => []
def p5 (y : eI) : PyData := match y.st with
 | none => .none
 | some (f, l) => .tuple [.int y.no, .int f, .int l]
theorem Ob {st sp wd t : Int} (h : 1 <= sp) : Hy st sp wd 0 t = max 1 ((t - (st + wd)) / sp + 1) := by
 unfold Hy steps
 have e : (t - (st + (0 + 1) * sp + wd)) / sp = (t - (st + wd)) / sp + -1 := by
  rw [show t - (st + (0 + 1) * sp + wd) = t - (st + wd) + -1 * sp by omega]
  exact Int.add_mul_ediv_right _ _ (by omega)
 rw [e]
 omega
def EG : Sp := fun vs H Q _ => ∃ bv b sv f l t, vs = [bv, sv, .int t] /\ Dv H bv (sV b) /\ wM b /\ Dv H sv (.tuple [.int f, .int l]) /\ t < 10 ^ 50 /\ -(10 ^ 50) < t /\ ∀ v H', ax H H' -> Dv H' v (.tuple [.list (missed b.nm (x0 b f l) l t ++ II b.nm (aV (x0 b f l) l t)), p5 (aV (x0 b f l) l t)]) -> Q v H'
theorem RN {H : Hp} {Q : VK} {E : XK} {bv sv : V} {b : LB} {f l t : Int} (h1 : Dv H bv (sV b)) (h2 : wM b) (h3 : Dv H sv (.tuple [.int f, .int l])) (h4 : t < 10 ^ 50) (h5 : -(10 ^ 50) < t) (q : ∀ v H', ax H H' -> Dv H' v (.tuple [.list (missed b.nm (x0 b f l) l t ++ II b.nm (aV (x0 b f l) l t)), p5 (aV (x0 b f l) l t)]) -> Q v H') : EG [bv, sv, .int t] H Q E := ⟨bv, b, sv, f, l, t, rfl, h1, h2, h3, h4, h5, q⟩
theorem OT (T : Txt K mg a) : aK P w K mg base eS 1 a.er a.CQ ["_law_bell_here", "_law_stretch_here", "_law_shown"] EG := by
 refine T.yW.ok lN (fun vs H Q E h => ?_) (fun cJ A outer s H vs Q E hr h => ?_)
 . obtain ⟨_, _, _, _, _, _, rfl, _⟩ := h; rfl
 . obtain ⟨bv, b, sv, f, l, t, rfl, h1, ok, h3, h4, h5, q⟩ := h
   unfold sV at h1
   have p0 := ok.p0; have p1 := ok.p1; have s1 := ok.s1; have w0 := ok.w0; have w1 := ok.w1
   have hz := Ob (st := b.st) (wd := b.wd) (t := t) p0
   have AO : b.st < 100 /\ 0 <= b.st := ⟨s1, by have := ok.s0; unfold dl at this; split at this <;> omega⟩
   obtain ⟨_, afR⟩ := AO
   have hdv : (t - (b.st + b.wd)) / b.sp < 10 ^ 60 := by
    by_cases ha : 0 <= t - (b.st + b.wd)
    . have := Int.ediv_le_self b.sp ha
      omega
    . have := Int.ediv_neg_of_neg_of_pos (show t - (b.st + b.wd) < 0 by omega) (show 0 < b.sp by omega)
      omega
   have X9 : OJ (x0 b f l).ru (x0 b f l).no l t = BK b.m (Hy b.st b.sp b.wd 0 t) (b.st + Hy b.st b.sp b.wd 0 t * b.sp, b.st + Hy b.st b.sp b.wd 0 t * b.sp + b.wd) := rfl
   refine ⟨_, (ah (bM (aL Qi (aP cf (pv 1) af (fun _ _ => rfl)) (pv 2) (aN _))
    (ai (aA (bX (ae (gK aj) (ae (bX (ae af (ae (aP cf (pv 1) af (fun _ _ => rfl)) (ae (aP cf (pv 1) af (fun _ _ => rfl)) aj)))) aj)))))
    aH)
    (ah (aI (i := 3) lN.nd rfl (Or.inl rfl) (aw bo (aP cf (pv 0) af (fun _ _ => rfl)) (aP cf (pv 0) af (fun _ _ => rfl))))
    (ah (aI (i := 4) lN.nd rfl (Or.inl rfl) (bw (nu rfl) rfl T.t7 PyProof.Rows.boot_max (ae af (ae (aw bo (aw b9 (aw dR (pv 2) (pv 3)) (aP cf (pv 0) af (fun _ _ => rfl))) af) aj))))
    (ah (bM (PW.pt (He (aL pT (aP cf (pv 0) af (fun _ _ => rfl)) cK (aN _)) (DL (aL P8 (pv 4) (aP cf (pv 0) af (fun _ _ => rfl)) (aN _)))))
     (ai (aA (bX (ae (gK (ae (bX (ae iF (ae (aP cf (pv 0) af (fun _ _ => rfl)) (ae af (ae (aw dR (aP cf (pv 0) af (fun _ _ => rfl)) af) aj))))) (ae (bX (ae iF (ae (aP cf (pv 0) af (fun _ _ => rfl)) aj))) aj))) (ae cK aj)))))
     aH)
    (ah (aI (i := 5) lN.nd rfl (Or.inl rfl) (aw bo (aP cf (pv 0) af (fun _ _ => rfl)) (aw wJ (pv 4) (aP cf (pv 0) af (fun _ _ => rfl)))))
    (ai (aA (bX (ae (gK (ae (bX (ae iF (ae (aP cf (pv 0) af (fun _ _ => rfl)) (ae af (ae (aw dR (pv 4) af) aj))))) aj)) (ae (bX (ae (pv 4) (ae (pv 5) (ae (aw bo (pv 5) (aP cf (pv 0) af (fun _ _ => rfl))) aj)))) aj)))))))))), ?_⟩
   rcases ok.m with em | ⟨i, em, i1, i2⟩
   . rw [em] at h1
     simp only [mD] at h1
     repeat' (walk_at "rd1")
     . rename_i hb q1 H1 s1 F8 EB v2 H2 s2 V8 v3 H3 s3 hv3
       refine q _ _ (by walk_at "same") ?_
       unfold missed aV
       rw [if_pos hb, if_pos hb]
       exact hv3
     . rename_i hb z e1 e2 e3 _ v2 H2 s2 V8 q3 H3 s3 D4 Fc v4 H4 s4 hv4 v5 H5 s5 Rv
       obtain rfl : z = Hy b.st b.sp b.wd 0 t := by omega
       refine q _ _ (by walk_at "same") ?_
       unfold missed aV
       rw [if_neg hb, if_neg hb]
       simp only [X9, em]
       exact Rv
   . rw [em] at h1
     simp only [mD] at h1
     repeat' (walk_at "rd1")
     . rename_i hb q1 H1 s1 F8 EB v2 H2 s2 V8 v3 H3 s3 hv3
       refine q _ _ (by walk_at "same") ?_
       unfold missed aV
       rw [if_pos hb, if_pos hb]
       exact hv3
     . rename_i hb z e1 e2 e3 _ hi v2 H2 s2 V8 v3 H3 s3 hv3 q4 H4 s4 hn4 RL v5 H5 s5 Rv
       obtain rfl : z = Hy b.st b.sp b.wd 0 t := by omega
       refine q _ _ (by walk_at "same") ?_
       unfold missed aV
       rw [if_neg hb, if_neg hb]
       simp only [X9, em, BK, if_pos hi]
       exact Rv
     . rename_i hb z e1 e2 e3 _ hi v2 H2 s2 V8 q3 H3 s3 D4 Fc v4 H4 s4 hv4 v5 H5 s5 Rv
       obtain rfl : z = Hy b.st b.sp b.wd 0 t := by omega
       refine q _ _ (by walk_at "same") ?_
       unfold missed aV
       rw [if_neg hb, if_neg hb]
       simp only [X9, em, BK, if_neg hi]
       exact Rv
theorem Mq (T : Txt K mg a) : dr P w K mg base 1 a.er ["_law_bell_here", "_law_stretch_here", "_law_shown"] [] EG :=
 ⟨⟨_, _, OT T, T.yW.binds fun _ _ _ _ _ _ => .all fun us hl => match us, hl with | [_, _, _], _ => rfl, .nil⟩⟩
theorem BG {k : KS} {n : Str} {x : eI} {f l : Int} (hs : x.st = some (f, l)) (h : bt k x < l) : dc k n x l = { k with f := bI k.f n (some (wait (rest x) k.now k.sh f l)), t := bI k.t n (some (l - lead x k.sh)) } /\ jb k n x l = [] := by
 have e : layB k x l = rest x := by unfold layB aV; rw [if_pos h]
 have e2 : (rest x).st = some (f, l) := hs
 constructor
 . unfold dc; rw [e, e2]
 . unfold jb missed; rw [e, e2, if_pos h]; rfl
theorem Gj {k : KS} {n : Str} {x y : eI} {l : Int} {u : Option eI} {v : Option Int} (h : rest x = rest y) : dc { k with f := bI k.f n u, t := bI k.t n v } n x l = dc k n y l /\ jb { k with f := bI k.f n u, t := bI k.t n v } n x l = jb k n y l := by
 have e1 : dc { k with f := bI k.f n u, t := bI k.t n v } n x l = dc { k with f := bI k.f n u, t := bI k.t n v } n (rest y) l := by rw [<- h]; rfl
 have e2 : jb { k with f := bI k.f n u, t := bI k.t n v } n x l = jb k n (rest y) l := by rw [<- h]; rfl
 refine ⟨?_, e2⟩
 rw [e1]
 show dc { k with f := bI k.f n u, t := bI k.t n v } n (rest y) l = dc k n (rest y) l
 unfold dc
 show (match (layB k (rest y) l).st with | none => _ | some (f', l') => _) = (match (layB k (rest y) l).st with | none => _ | some (f', l') => _)
 cases (layB k (rest y) l).st with
 | none => simp only [nh]
 | some p => simp only [nh]; rfl
def GJ (a : Ad) : Sp := fun vs H Q _ => ∃ L k n x c sv f l, vs = [.ref L.p, .str n, .int c, sv] /\ bH a H L k /\ k.f n = some x /\ x.hm = none /\ 0 <= x.no /\ x.no < 10 ^ 50 /\ -(10 ^ 37) < bt k x /\ bt k x < 10 ^ 37 /\ Dv H sv (.tuple [.int f, .int l]) /\ 0 <= f /\ f <= l /\ l < 10 ^ 37 + 100 /\ ∀ q H', gm a L H H' -> eT H' q (jb k n (dX x f l) l) -> bH a H' L (dc k n (dX x f l) l) -> Q (.ref q) H'
theorem XG {H : Hp} {Q : VK} {E : XK} {L : Lay} {k : KS} {n : Str} {x : eI} {c : Int} {sv : V} {f l : Int} (h : bH a H L k) (hx : k.f n = some x) (h1 : x.hm = none) (h2 : 0 <= x.no) (h3 : x.no < 10 ^ 50) (h4 : -(10 ^ 37) < bt k x) (h5 : bt k x < 10 ^ 37) (h6 : Dv H sv (.tuple [.int f, .int l])) (h7 : 0 <= f) (h8 : f <= l) (h9 : l < 10 ^ 37 + 100) (q : ∀ q H', gm a L H H' -> eT H' q (jb k n (dX x f l) l) -> bH a H' L (dc k n (dX x f l) l) -> Q (.ref q) H') : GJ a [.ref L.p, .str n, .int c, sv] H Q E := ⟨L, k, n, x, c, sv, f, l, rfl, h, hx, h1, h2, h3, h4, h5, h6, h7, h8, h9, q⟩
theorem Rc (T : Txt K mg a) : aK P w K mg base eS 9 a.dz a.AZ ["_law_keeper", "_law_name_here", "_law_cell", "_law_stretch_here"] (GJ a) := by
 have gN := EK (P := P) (w := w) (base := base) T
 have Cq := JX (P := P) (w := w) (base := base) T
 refine T.wm.ok Hn (fun vs H Q E h => ?_) (fun cJ A outer s H vs Q E hr h => ?_)
 . obtain ⟨_, _, _, _, _, _, _, _, rfl, _⟩ := h; rfl
 . obtain ⟨L, k, n, x, c, sv, f, l, rfl, hk, hx, h1, h2, h3, h4, h5, h6, h7, h8, h9, q⟩ := h
   have hi := hk.ins
   unfold aM at hi
   have sh : ∀ f l, bt k (dX x f l) = bt k x := fun _ _ => rfl
   refine ⟨_, (ah (bM (aL (BE hr.RZ) (aw c6 (pv 2) af) af (aN _))
    (ah (aO (aC (pv 0) T.az T.fc gN (hr.mono (by decide)) (ae (pv 1) (ae (aw bo (aw qb af af) af) (ae (aw dR (aw bo (aw bo (aw qb af af) af) (aP cf (pv 3) af (fun _ _ => rfl))) (aP cf (pv 3) af (fun _ _ => rfl))) aj)))))
    (ai (aA (aC (pv 0) T.az T.oV Cq (hr.mono (by decide)) (ae (pv 1) (ae (aw dR (aw dR (aP cf (pv 3) af (fun _ _ => rfl)) af) (aw qb af af)) aj))))))
    aH)
    (ai (aA (aC (pv 0) T.az T.fc gN (hr.mono (by decide)) (ae (pv 1) (ae (aP cf (pv 3) af (fun _ _ => rfl)) (ae (aP cf (pv 3) af (fun _ _ => rfl)) aj))))))), ?_⟩
   repeat' (walk_at "rd1")
   . refine E9 hk hx (by decide) (by omega) ⟨rfl, h1, h2, Int.lt_trans h3 (by decide), by rw [sh]; exact Int.lt_trans h5 (by decide), by rw [sh]; omega⟩ (fun q1 H1 zm F8 EB ib => ?_)
     obtain ⟨ek, _⟩ := BG (k := k) (n := n) (x := dX x (10 ^ 38 + 1) (10 ^ 38 + 1 + l - f)) rfl (by rw [sh]; omega)
     rw [ek] at ib
     have wG := ib.ins
     unfold aM at wG
     have h61 := zm.wF rfl h6
     have ZD : rest (dX (wait (rest (dX x (10 ^ 38 + 1) (10 ^ 38 + 1 + l - f))) k.now k.sh (10 ^ 38 + 1) (10 ^ 38 + 1 + l - f)) f l) = rest (dX x f l) := rfl
     obtain ⟨g1, g2⟩ := Gj (k := k) (n := n) (l := l) (u := some (wait (rest (dX x (10 ^ 38 + 1) (10 ^ 38 + 1 + l - f))) k.now k.sh (10 ^ 38 + 1) (10 ^ 38 + 1 + l - f))) (v := some (10 ^ 38 + 1 + l - f - lead (dX x (10 ^ 38 + 1) (10 ^ 38 + 1 + l - f)) k.sh)) ZD
     have ea : (10 : Int) ^ 38 + 1 + (f - 1 - 10 ^ 38) = f := by omega
     have eb : (10 : Int) ^ 38 + 1 + l - f + (f - 1 - 10 ^ 38) = l := by omega
     repeat' (walk_at "rd1")
     refine Qo ib aE rfl (by rw [ea]; exact h7) (by omega) (by rw [ea, eb]; exact ⟨rfl, h1, h2, Int.lt_trans h3 (by decide), Int.lt_trans (show bt k x < 10 ^ 37 from h5) (by decide), by show bt k x - l < 10 ^ 80; omega⟩) (fun q3 H3 Bx D4 Fc yT => ?_)
     repeat' (walk_at "rd1")
     rw [ea, eb] at yT Fc
     rw [g1] at yT
     rw [g2] at Fc
     exact q _ _ (zm.trans Bx) Fc yT
   . refine E9 hk hx h7 h8 ⟨rfl, h1, h2, Int.lt_trans h3 (by decide), by rw [sh]; exact Int.lt_trans h5 (by decide), by rw [sh]; omega⟩ (fun q1 H1 zm F8 EB ib => ?_)
     repeat' (walk_at "rd1")
     exact q _ _ zm EB ib
theorem OD (T : Txt K mg a) : dr P w K mg base 9 a.dz ["_law_keeper", "_law_name_here", "_law_cell", "_law_stretch_here"] [] (GJ a) :=
 ⟨⟨_, _, Rc T, T.wm.binds fun _ _ _ _ _ _ => .all fun us hl => match us, hl with | [_, _, _, _], _ => rfl, .nil⟩⟩
theorem yX (b : LB) : nd (sV b) = true := by
 obtain ⟨nm, st, sp, wd, m, dy⟩ := b
 cases m <;> rfl
def B0 (b : LB) : eI := wait (x0 b (10 ^ 38) (10 ^ 38)) 20 (-7) (10 ^ 38) (10 ^ 38)
structure QU (k : KS) (bs : List LB) : Prop where
 now : k.now = 20
 sh : k.sh = -7
 f1 : ∀ b ∈ bs, k.f b.nm = some (B0 b)
 f2 : ∀ n, n ∉ bs.map (·.nm) -> k.f n = none
 t : ∀ n u, k.t n = some u -> 10 ^ 38 <= u
theorem F5 (b : LB) (x : eI) (h : x.dy = b.dy) : lead x (-7) = dl b := by unfold lead dl; rw [h]
theorem K4 (b : LB) : dl b <= 0 /\ -7 <= dl b := by unfold dl; split <;> omega
def Sz (b : LB) : RU := .each b.st b.sp b.wd b.m
def nb (b : LB) : eI := Ez (Sz b) 1 none b.dy
theorem QU.step {k : KS} {bs : List LB} {b : LB} (h : QU k bs) (ok : wM b) (hn : b.nm ∉ bs.map (·.nm)) : gq k (nb b) (Kh (Sz b)).1 (Kh (Sz b)).2 /\
 (∀ k1, k1 = dc k b.nm (nb b) (Kh (Sz b)).2 -> ∃ x, k1.f b.nm = some x /\ gq k1 (dX x (10 ^ 38) (10 ^ 38)) (10 ^ 38) (10 ^ 38) /\ QU (dc k1 b.nm (dX x (10 ^ 38) (10 ^ 38)) (10 ^ 38)) (bs ++ [b])) := by
 obtain ⟨d1, d2⟩ := K4 b
 have s0 := ok.s0; have s1 := ok.s1; have p1 := ok.p1; have w0 := ok.w0; have w1 := ok.w1
 have e1 : bt k (nb b) = 20 + dl b := by unfold bt; rw [h.now, h.sh, F5 b (nb b) rfl]
 have hbg : Kh (Sz b) = (b.st, b.st + b.wd) := rfl
 have YQ : bt k (nb b) < b.st + b.wd := by rw [e1]; omega
 refine ⟨⟨rfl, rfl, (by show (0 : Int) <= 0; decide), (by show (0 : Int) < 10 ^ 99; decide), by rw [e1]; omega, by rw [e1, hbg]; show 20 + dl b - (b.st + b.wd) < 10 ^ 80; omega⟩, ?_⟩
 rintro k1 rfl
 obtain ⟨ek, _⟩ := BG (k := k) (n := b.nm) (x := nb b) (f := b.st) (l := b.st + b.wd) rfl YQ
 rw [hbg]
 show ∃ x, (dc k b.nm (nb b) (b.st + b.wd)).f b.nm = some x /\ gq (dc k b.nm (nb b) (b.st + b.wd)) _ _ _ /\ QU (dc (dc k b.nm (nb b) (b.st + b.wd)) _ _ _) _
 rw [ek]
 refine ⟨_, aE, ?_, ?_⟩
 . have e2 : bt { k with f := bI k.f b.nm (some (wait (rest (nb b)) k.now k.sh b.st (b.st + b.wd))), t := bI k.t b.nm (some (b.st + b.wd - lead (nb b) k.sh)) } (dX (wait (rest (nb b)) k.now k.sh b.st (b.st + b.wd)) (10 ^ 38) (10 ^ 38)) = 20 + dl b := e1
   exact ⟨rfl, rfl, (by show (0 : Int) <= 0; decide), (by show (0 : Int) < 10 ^ 99; decide), by rw [e2]; omega, by rw [e2]; omega⟩
 . have hr : rest (dX (wait (rest (nb b)) k.now k.sh b.st (b.st + b.wd)) (10 ^ 38) (10 ^ 38)) = rest (x0 b (10 ^ 38) (10 ^ 38)) := rfl
   rw [(Gj hr).1]
   have e3 : bt k (x0 b (10 ^ 38) (10 ^ 38)) = 20 + dl b := by unfold bt; rw [h.now, h.sh, F5 b _ rfl]
   obtain ⟨ek2, _⟩ := BG (k := k) (n := b.nm) (x := x0 b (10 ^ 38) (10 ^ 38)) (f := 10 ^ 38) (l := 10 ^ 38) rfl (by rw [e3]; omega)
   rw [ek2]
   refine ⟨h.now, h.sh, fun c hc => ?_, fun n Pp => ?_, fun n u hu => ?_⟩
   . show bI k.f b.nm _ c.nm = _
     by_cases ec : c.nm = b.nm
     . have : c = b := by
        rcases List.mem_append.mp hc with hc | hc
        . exact absurd (List.mem_map.mpr ⟨c, hc, ec⟩) hn
        . exact List.mem_singleton.mp hc
       rw [ec, aE, this, h.now, h.sh]; rfl
     . rw [bJ ec]
       rcases List.mem_append.mp hc with hc | hc
       . exact h.f1 c hc
       . exact absurd (by rw [List.mem_singleton.mp hc]) ec
   . show bI k.f b.nm _ n = none
     rw [List.map_append, List.mem_append, not_or] at Pp
     have K7 : n ≠ b.nm := fun z => Pp.2 (by rw [z]; exact List.mem_cons_self)
     rw [bJ K7]
     exact h.f2 n Pp.1
   . have hu : bI k.t b.nm (some (10 ^ 38 - lead (x0 b (10 ^ 38) (10 ^ 38)) k.sh)) n = some u := hu
     by_cases ec : n = b.nm
     . rw [ec, aE, h.sh, F5 b _ rfl] at hu
       cases hu
       omega
     . rw [bJ ec] at hu
       exact h.t n u hu
def Ex (a : Ad) : Sp := fun vs H Q _ => ∃ bv bs now, vs = [bv, .int now] /\ Dv H bv (.list (bs.map sV)) /\ (∀ b ∈ bs, wM b) /\ (bs.map (·.nm)).Nodup /\ bs.length <= 20 /\ 20 <= now /\ now < 10 ^ 36 /\ ∀ L H' k, gm a L H H' -> H L.td = none -> H L.bd = none -> bH a H' L { k with now := now } -> QU k bs -> L.nm = bs.map (·.nm) -> Q (.ref L.p) H'
theorem R1 {H : Hp} {Q : VK} {E : XK} {bv : V} {bs : List LB} {now : Int} (h1 : Dv H bv (.list (bs.map sV))) (h2 : ∀ b ∈ bs, wM b) (h3 : (bs.map (·.nm)).Nodup) (h4 : bs.length <= 20) (h5 : 20 <= now) (h6 : now < 10 ^ 36) (q : ∀ L H' k, gm a L H H' -> H L.td = none -> H L.bd = none -> bH a H' L { k with now := now } -> QU k bs -> L.nm = bs.map (·.nm) -> Q (.ref L.p) H') : Ex a [bv, .int now] H Q E := ⟨bv, bs, now, rfl, h1, h2, h3, h4, h5, h6, q⟩
theorem NV (T : Txt K mg a) : aK P w K mg base eS 12 a.cS a.xc ["_law_bells", "_law_now"] (Ex a) := by
 have JK := Gz (P := P) (w := w) (base := base) T
 have x8 := L4 (P := P) (w := w) (base := base) T
 have Ft := NT (P := P) (w := w) (base := base) T
 have GQ := Sn (P := P) (w := w) (base := base) T
 have gN := EK (P := P) (w := w) (base := base) T
 have EW := DU (P := P) (w := w) (base := base) T
 refine T.p8.ok mQ (fun vs H Q E h => ?_) (fun cJ A outer s H vs Q E hr h => ?_)
 . obtain ⟨_, _, _, rfl, _⟩ := h; rfl
 . obtain ⟨bv, bs, now, rfl, hv, bA, sy, hl, h5, h6, q⟩ := h
   obtain ⟨p0, xs, rfl, ZA, dv⟩ := hv.lst_inv
   have abu : bs.length = xs.length := by rw [dv.length, List.length_map]
   refine ⟨_, (ah (aI (i := 2) mQ.nd rfl (Or.inl rfl) (Ik T.HF JK (hr.mono (by decide)) rfl T.FA))
    (ah (aO (aC (pv 2) T.az T.uA x8 (hr.mono (by decide)) (ae af aj)))
    (ah (aO (aC (pv 2) T.az T.yL Ft (hr.mono (by decide)) (ae (aw dR af af) aj)))
    (ah (zh PassesOwn.never rfl (fE (pv 0)) (bq (i := 3) mQ.nd rfl (Or.inl rfl))
     (ah (aO (aC (pv 2) T.az T.Az GQ (hr.mono (by decide)) (ae (aP cf (pv 3) af (fun _ _ => rfl)) (ae (DM T.Km EW (hr.mono (by decide)) rfl T.Hd (ae (aP cf (pv 3) af (fun _ _ => rfl)) (ae (aP cf (pv 3) af (fun _ _ => rfl)) (ae (aP cf (pv 3) af (fun _ _ => rfl)) (ae (aP cf (pv 3) af (fun _ _ => rfl)) aj))))) (ae af (ae cK (ae (aP cf (pv 3) af (fun _ _ => rfl)) aj)))))))
     (ai (aO (aC (pv 2) T.az T.fc gN (hr.mono (by decide)) (ae (aP cf (pv 3) af (fun _ _ => rfl)) (ae (aw qb af af) (ae (aw qb af af) aj))))))))
    (ah (aO (aC (pv 2) T.az T.uA x8 (hr.mono (by decide)) (ae (pv 1) aj)))
    (ai (aA (pv 2)))))))), ?_⟩
   repeat' (walk_at "rd1")
   refine TU (bs.map (·.nm)) rfl (by rw [List.length_map]; omega) (fun L H1 s1 enm etd ebd ib => ?_)
   have wG := ib.ins
   unfold aM at wG
   repeat' (walk_at "rd1")
   refine U1 ib (by decide) (fun n u e => by cases e) (fun q2 H2 qS Ct Fj kF => ?_)
   have HW := kF.ins
   unfold aM at HW
   repeat' (walk_at "rd1")
   have QI : ∀ ss, o3 { k0 0 with now := 20 } ss -> ss = [] := fun ss hs => List.eq_nil_iff_forall_not_mem.mpr fun n hn => by have := (hs.2 n).mp hn; cases this
   refine WR kF (by decide) (fun ss hs _ => by rw [QI ss hs]; exact ⟨List.nodup_nil, fun n hn => by cases hn⟩) (fun q3 H3 ss Bx D4 hs _ Fc yT => ?_)
   rw [QI ss hs] at yT
   have yT : bH a H3 L ⟨20, -7, fun _ => none, fun _ => none⟩ := yT
   have hb3 : QU ⟨20, -7, fun _ => none, fun _ => none⟩ [] := ⟨rfl, rfl, fun b hb => (by cases hb), fun n _ => rfl, fun n u e => (by cases e)⟩
   have aaf : gm a L H H3 := (s1.fr.trans qS).trans Bx
   clear wG HW ib kF Fj Fc Ct D4
   repeat' (walk_at "rd1")
   refine forL (xs := xs) (aaf.sql (ZA K)) (fun i σ' H' => ∃ z L' k, σ' = [some (.ref p0), some (.int now), some (.ref L.p), z] /\ L'.p = L.p /\ L'.td = L.td /\ L'.bd = L.bd /\ L'.nm = L.nm /\ gm a L H H' /\ bH a H' L' k /\ QU k (bs.take i)) ⟨_, L, _, rfl, rfl, rfl, rfl, rfl, aaf, yT, hb3⟩ (fun i σ' H' _ ⟨_, _, _, _, _, _, _, _, fr, _⟩ => fr.sql (ZA K)) ?_ ?_
   . rintro i x σ' H4 hx ⟨z, L', k, rfl, e1, e2, e3, e4, UX, Oh, Wc⟩
     have RP := dv.length
     rw [List.length_map] at RP
     have hi : i < bs.length := by have := (List.getElem?_eq_some_iff.mp hx).1; omega
     obtain ⟨x', t6, QL⟩ := dv.get (i := i) (d := sV bs[i]) (by rw [List.getElem?_map, List.getElem?_eq_getElem hi]; rfl)
     rw [hx] at t6
     cases t6
     have Yh : bs[i]? = some bs[i] := List.getElem?_eq_getElem hi
     have ok := bA bs[i] (List.getElem_mem hi)
     have QM : bs[i].nm ∉ (bs.take i).map (·.nm) := DN sy Yh
     have Wq : bs[i].nm ∈ L'.nm := by rw [e4, enm]; exact List.mem_map.mpr ⟨_, List.getElem_mem hi, rfl⟩
     have QN : bs.take (i + 1) = bs.take i ++ [bs[i]] := take_snoc Yh
     rw [QN]
     generalize bs[i] = b at *
     have Nf : Dv H4 x (sV b) := Dv.fr UX QL (yX b)
     unfold sV at Nf
     have Ry := Oh.ins
     unfold aM at Ry
     rw [e1] at Ry
     obtain ⟨okA, okB⟩ := Wc.step ok QM
     have UW := Wc.f2 _ QM
     have s0 := ok.s0; have s1' := ok.s1; have p0' := ok.p0; have p1 := ok.p1; have w0 := ok.w0; have w1 := ok.w1
     obtain ⟨d1, d2⟩ := K4 b
     rcases ok.m with em | ⟨j, em, j1, j2⟩
     . rw [em] at Nf
       simp only [mD] at Nf
       repeat' (walk_at "rd1")
       . exact ⟨_, _, _, _, rfl, by omega, by omega, by omega, by omega, .inl rfl⟩
       . rename_i rv H5 s5 hiE
         have hR : sW a H5 rv (Sz b) := by
          unfold Sz
          rw [em]
          exact ⟨hiE, .inl rfl, by omega, by omega, by omega, by omega, by omega, by omega⟩
         rw [<- e1]
         refine Um (Oh.keeps s5) UW Wq hR (by decide) okA (fun q6 H6 c O9 hn6 hq6 ZO => ?_)
         have O9 : gm a L H5 H6 := by unfold gm at O9; rw [e2, e3] at O9; exact O9
         obtain ⟨x6, hx6, okM, Zq⟩ := okB _ rfl
         have OM : gm a L H H6 := (UX.step s5).trans O9
         have Yi := ZO.ins
         unfold aM at Yi
         have VP : Dv H6 x (sV b) := Dv.fr OM QL (yX b)
         unfold sV at VP
         repeat' (walk_at "rd1")
         refine E9 (L := { L' with ad := bI L'.ad b.nm c }) ZO hx6 (by decide) (by decide) okM (fun q7 H7 J0 hn7 hq7 Xz => ?_)
         have J0 : gm a L H6 H7 := by
          have J0 : gm a L' H6 H7 := J0
          unfold gm at J0; rw [e2, e3] at J0; exact J0
         repeat' (walk_at "rd1")
         exact ⟨_, { L' with ad := bI L'.ad b.nm c }, _, rfl, rfl, e2, e3, e4, OM.trans J0, Xz, Zq⟩
     . rw [em] at Nf
       simp only [mD] at Nf
       repeat' (walk_at "rd1")
       . exact ⟨_, _, _, _, rfl, by omega, by omega, by omega, by omega, .inr ⟨j, rfl, j1⟩⟩
       . rename_i rv H5 s5 hiE
         have hR : sW a H5 rv (Sz b) := by
          unfold Sz
          rw [em]
          exact ⟨hiE, .inr ⟨j, rfl, j1⟩, by omega, by omega, by omega, by omega, by omega, by omega⟩
         rw [<- e1]
         refine Um (Oh.keeps s5) UW Wq hR (by decide) okA (fun q6 H6 c O9 hn6 hq6 ZO => ?_)
         have O9 : gm a L H5 H6 := by unfold gm at O9; rw [e2, e3] at O9; exact O9
         obtain ⟨x6, hx6, okM, Zq⟩ := okB _ rfl
         have OM : gm a L H H6 := (UX.step s5).trans O9
         have Yi := ZO.ins
         unfold aM at Yi
         have VP : Dv H6 x (sV b) := Dv.fr OM QL (yX b)
         unfold sV at VP
         repeat' (walk_at "rd1")
         refine E9 (L := { L' with ad := bI L'.ad b.nm c }) ZO hx6 (by decide) (by decide) okM (fun q7 H7 J0 hn7 hq7 Xz => ?_)
         have J0 : gm a L H6 H7 := by
          have J0 : gm a L' H6 H7 := J0
          unfold gm at J0; rw [e2, e3] at J0; exact J0
         repeat' (walk_at "rd1")
         exact ⟨_, { L' with ad := bI L'.ad b.nm c }, _, rfl, rfl, e2, e3, e4, OM.trans J0, Xz, Zq⟩
   . rintro σ' H4 ⟨z, L', k, rfl, e1, e2, e3, e4, UX, Oh, Wc⟩
     rw [<- abu, List.take_length] at Wc
     have Ry := Oh.ins
     unfold aM at Ry
     rw [<- e1]
     repeat' (walk_at "rd1")
     refine U1 Oh (by rw [Wc.now]; omega) (fun n u e => by have := Wc.t n u e; omega) (fun q5 H5 Vh hn5 hq5 VL => ?_)
     repeat' (walk_at "rd1")
     refine q L' H5 k ?_ (by rw [e2]; exact etd) (by rw [e3]; exact ebd) VL Wc (e4.trans enm)
     have UX : gm a L' H H4 := by unfold gm at UX ⊢; rw [e2, e3]; exact UX
     exact UX.trans Vh
theorem MD (T : Txt K mg a) : dr P w K mg base 12 a.cS ["_law_bells", "_law_now"] [] (Ex a) :=
 ⟨⟨_, _, NV T, T.p8.binds fun _ _ _ _ _ _ => .all fun us hl => match us, hl with | [_, _], _ => rfl, .nil⟩⟩
theorem Qk {m : List (Str × PyData)} {x n : Str} : hX (kM m x) n = if n = x then none else hX m n := by
 unfold hX kM
 rw [List.find?_filter]
 split
 . rename_i h
   subst h
   rw [List.find?_eq_none.mpr]
   . rfl
   . intro y _
     simp
 . rename_i h
   congr 2
   funext y
   by_cases e : y.1 = n
   . simp [e, h]
   . simp [e]
theorem RK {m : List (Str × PyData)} {x n : Str} {d : PyData} : hX (putD m x d) n = if n = x then some d else hX m n := by
 unfold putD
 split
 . rename_i h
   unfold hX
   rw [List.find?_map, Option.map_map]
   have e1 : ((fun kv : Str × PyData => decide (kv.1 = n)) ∘ fun kv : Str × PyData => if kv.1 = x then (kv.1, d) else kv) = fun kv => decide (kv.1 = n) := by
    funext kv
    by_cases e : kv.1 = x <;> simp [e]
   rw [e1]
   split
   . rename_i e
     subst e
     obtain ⟨y, hy, hd⟩ := List.any_eq_true.mp h
     cases hf : m.find? fun kv => decide (kv.1 = n) with
     | none => exact absurd hd (List.find?_eq_none.mp hf y hy)
     | some z =>
       have := List.find?_some hf
       have e2 : z.1 = n := of_decide_eq_true this
       simp [e2]
   . rename_i e
     cases hf : m.find? fun kv => decide (kv.1 = n) with
     | none => rfl
     | some z =>
       have := List.find?_some hf
       have e2 : z.1 = n := of_decide_eq_true this
       have e3 : ¬ z.1 = x := fun q => e (e2.symm.trans q)
       simp [e3]
 . rename_i h
   unfold hX
   rw [List.find?_append]
   split
   . rename_i e
     subst e
     rw [List.find?_eq_none.mpr]
     . simp
     . intro y hy z
       exact h (List.any_eq_true.mpr ⟨y, hy, z⟩)
   . rename_i e
     have : ¬ x = n := fun q => e q.symm
     simp [this]
theorem AV {m : List (Str × PyData)} {n : Str} : n ∈ m.map (·.1) ↔ (hX m n).isSome = true := by
 unfold hX
 rw [Option.isSome_map, List.find?_isSome, List.mem_map]
 constructor
 . rintro ⟨y, hy, e⟩; exact ⟨y, hy, decide_eq_true e⟩
 . rintro ⟨y, hy, e⟩; exact ⟨y, hy, of_decide_eq_true e⟩
theorem Qd {m : List (Str × PyData)} {x : Str} {d : PyData} (h : (m.map (·.1)).Nodup) : ((putD m x d).map (·.1)).Nodup /\ (putD m x d).length <= m.length + 1 := by
 unfold putD
 split
 . rw [List.map_map, List.length_map]
   refine ⟨?_, by omega⟩
   have : (m.map ((fun y : Str × PyData => y.1) ∘ fun kv => if kv.1 = x then (kv.1, d) else kv)) = m.map (·.1) := List.map_congr_left fun kv _ => by
    by_cases e : kv.1 = x <;> simp [e]
   rw [this]; exact h
 . rename_i hx
   rw [List.map_append, List.length_append]
   refine ⟨?_, Nat.le_refl _⟩
   rw [List.nodup_append]
   refine ⟨h, by simp, fun y hy z hz => ?_⟩
   rw [List.mem_singleton.mp hz]
   intro e
   obtain ⟨w, hw, ew⟩ := List.mem_map.mp hy
   exact hx (List.any_eq_true.mpr ⟨w, hw, decide_eq_true (ew.trans e)⟩)
theorem Ge {m : List (Str × PyData)} {x : Str} (h : (m.map (·.1)).Nodup) : ((kM m x).map (·.1)).Nodup /\ (kM m x).length <= m.length := by
 unfold kM
 exact ⟨h.sublist (List.filter_sublist.map _), List.length_filter_le _ _⟩
structure Fv (ds : List PyData) : Prop where
 c : PyData.canLayAll0 ds = true
 d : PyData.depthAll ds <= 3
 e : PyData.eqvAll ds ds = true
theorem Fv.nil : Fv [] := ⟨rfl, Nat.zero_le _, rfl⟩
theorem Fv.cons {d : PyData} {ds : List PyData} (h1 : d.canLay0 = true) (h2 : d.depth <= 3) (h3 : PyData.eqv d d = true) (h : Fv ds) : Fv (d :: ds) := by
 refine ⟨?_, ?_, ?_⟩
 . rw [PyData.canLayAll0, h1, h.c]; rfl
 . have := h.d; rw [PyData.depthAll]; omega
 . rw [PyData.eqvAll, h3, h.e]; rfl
theorem Ul {K : PySem.W.Frag} {H : Hp} {Q : VK} {f : Bool -> Bool} {x y : V} {ds : List PyData} (h1 : Dv H x (.list ds)) (h2 : Dv H y (.list ds)) (hl : Fv ds) (h : Q (.bl (f true)) H) : OL K f x y H Q := by
 refine Uo h1 h2 (by rw [PyData.canLay0]; exact hl.c) (by rw [PyData.canLay0]; exact hl.c) ?_ ?_
 . have := hl.d
   rw [PyData.depth]
   omega
 . rw [PyData.eqv, hl.e]; exact h
theorem Ra {ds : List PyData} (h : Fv ds) (hd : PyData.depthAll ds <= 2) : (PyData.tuple ds).canLay0 = true /\ (PyData.tuple ds).depth <= 3 /\ PyData.eqv (.tuple ds) (.tuple ds) = true := by
 refine ⟨by rw [PyData.canLay0]; exact h.c, ?_, by rw [PyData.eqv]; exact h.e⟩
 rw [PyData.depth]
 omega
theorem Flat.lay {d : PyData} (h : Flat d) (hs : ∀ s, d = .str s -> PyData.canLay0 (.str s) = true) : d.canLay0 = true /\ d.depth = 0 /\ PyData.eqv d d = true := by
 rcases h with ⟨s, rfl⟩ | ⟨i, rfl⟩
 . exact ⟨hs s rfl, rfl, by simp [PyData.eqv]⟩
 . exact ⟨rfl, rfl, by simp [PyData.eqv]⟩
theorem Ls : ∀ {ps : List PyData}, (∀ p ∈ ps, Flat p) -> (∀ s, PyData.str s ∈ ps -> PyData.canLay0 (.str s) = true) -> Fv ps /\ PyData.depthAll ps = 0
 | [], _, _ => ⟨.nil, rfl⟩
 | p :: ps, h, hs => by
   obtain ⟨g1, g2⟩ := Ls (ps := ps) (fun q hq => h q (List.mem_cons_of_mem _ hq)) (fun s hq => hs s (List.mem_cons_of_mem _ hq))
   obtain ⟨l1, l2, l3⟩ := (h p List.mem_cons_self).lay fun s e => hs s (by rw [<- e]; exact List.mem_cons_self)
   refine ⟨.cons l1 (by omega) l3 g1, ?_⟩
   rw [PyData.depthAll, l2, g2]; rfl
theorem LC {ds : List PyData} (h : ∀ e ∈ ds, ∃ ps, e = .tuple ps /\ (∀ p ∈ ps, Flat p) /\ ∀ s, PyData.str s ∈ ps -> PyData.canLay0 (.str s) = true) : Fv ds := by
 induction ds with
 | nil => exact .nil
 | cons d ds ih =>
   obtain ⟨ps, rfl, h1, h2⟩ := h d List.mem_cons_self
   obtain ⟨g1, g2⟩ := Ls h1 h2
   obtain ⟨l1, l2, l3⟩ := Ra g1 (by omega)
   exact .cons l1 l2 l3 (ih fun e he => h e (List.mem_cons_of_mem _ he))
structure Iv (k : KS) (m : List (Str × PyData)) (now : Int) (bs : List LB) : Prop where
 now : k.now = now
 sh : k.sh = -7
 rows : ∀ n, hX m n = cj k n
 wt : ∀ n, (k.f n).isSome = true -> (cj k n).isSome = true
 left : ∀ b ∈ bs, k.f b.nm = some (B0 b)
 nd : (m.map (·.1)).Nodup
 len : m.length <= 30
 nm : ∀ n, (k.f n).isSome = true -> ∃ N, n = A4 N
 fl : ∀ n d, cj k n = some d -> ∃ i j w, d = .tuple [.str n, .int i, .int j, .int w]
theorem CL {k : KS} {n : Str} {x : eI} {now sh f l : Int} (h : k.f n = some (wait x now sh f l)) : cj k n = some (.tuple [.str n, .int (max (f - lead x sh) (now + 1)), .int (l - lead x sh), .int x.wt]) := by
 unfold cj
 rw [h]
 rfl
theorem RY {m : List (Str × PyData)} {x : Str} {d : PyData} (h : (hX m x).isSome = true) : (putD m x d).length = m.length := by
 unfold putD
 rw [if_pos]
 . rw [List.length_map]
 . obtain ⟨y, hy, e⟩ := List.mem_map.mp (AV.mpr h)
   exact List.any_eq_true.mpr ⟨y, hy, decide_eq_true e⟩
theorem QU.iv {k : KS} {bs : List LB} {now : Int} (h : QU k bs) (bA : ∀ b ∈ bs, wM b) (sy : (bs.map (·.nm)).Nodup) (hl : bs.length <= 20) (hn : now < 10 ^ 36) : Iv { k with now := now } (bs.map fun b => (b.nm, Ce b (10 ^ 38) (10 ^ 38) now)) now bs := by
 have key : ∀ n, (n ∉ bs.map (·.nm) /\ k.f n = none) \/ ∃ b ∈ bs, n = b.nm /\ k.f n = some (B0 b) := fun n => by
  by_cases hm : n ∈ bs.map (·.nm)
  . obtain ⟨b, hb, rfl⟩ := List.mem_map.mp hm
    exact .inr ⟨b, hb, rfl, h.f1 b hb⟩
  . exact .inl ⟨hm, h.f2 n hm⟩
 have Jc : ∀ b ∈ bs, cj { k with now := now } b.nm = some (Ce b (10 ^ 38) (10 ^ 38) now) := fun b hb => by
  obtain ⟨d1, d2⟩ := K4 b
  rw [CL (k := { k with now := now }) (h.f1 b hb), F5 b _ rfl]
  unfold Ce
  rw [show max ((10 : Int) ^ 38 - dl b) (20 + 1) = max (10 ^ 38 - dl b) (now + 1) by omega]
  rfl
 have hmm : (bs.map fun b => (b.nm, Ce b (10 ^ 38) (10 ^ 38) now)).map (·.1) = bs.map (·.nm) := by rw [List.map_map]; rfl
 refine ⟨rfl, h.sh, fun n => ?_, fun n hs => ?_, h.f1, by rw [hmm]; exact sy, by rw [List.length_map]; omega, fun n hs => ?_, fun n d hd => ?_⟩
 . rcases key n with ⟨h1, h2⟩ | ⟨b, hb, rfl, h2⟩
   . have : cj { k with now := now } n = none := by unfold cj; show (k.f n).bind _ = none; rw [h2]; rfl
     rw [this]
     cases e : hX (bs.map fun b => (b.nm, Ce b (10 ^ 38) (10 ^ 38) now)) n with
     | none => rfl
     | some w =>
       have := AV.mpr (by rw [e]; rfl)
       rw [hmm] at this
       exact absurd this h1
   . rw [Jc b hb]
     unfold hX
     clear Jc key hmm bA hl h h2
     induction bs with
     | nil => cases hb
     | cons c r ih =>
       rw [List.map_cons, List.nodup_cons] at sy
       rw [List.map_cons, List.find?_cons]
       by_cases e : c.nm = b.nm
       . rcases List.mem_cons.mp hb with rfl | hb
         . simp
         . exact absurd (List.mem_map.mpr ⟨b, hb, e.symm⟩) sy.1
       . rcases List.mem_cons.mp hb with rfl | hb
         . exact absurd rfl e
         . simp only [e, decide_false]
           exact ih sy.2 hb
 . rcases key n with ⟨h1, h2⟩ | ⟨b, hb, rfl, h2⟩
   . have hs : (k.f n).isSome = true := hs
     rw [h2] at hs; cases hs
   . rw [Jc b hb]; rfl
 . rcases key n with ⟨h1, h2⟩ | ⟨b, hb, rfl, h2⟩
   . have hs : (k.f n).isSome = true := hs
     rw [h2] at hs; cases hs
   . exact (bA b hb).n
 . rcases key n with ⟨h1, h2⟩ | ⟨b, hb, rfl, h2⟩
   . have hd : (k.f n).bind _ = some d := hd
     rw [h2] at hd; cases hd
   . rw [Jc b hb] at hd
     cases hd
     exact ⟨_, _, _, rfl⟩
section
variable {k : KS} {m : List (Str × PyData)} {now f l : Int} {b : LB} {bs : List LB}
theorem Iv.shown (h : Iv k m now (b :: bs)) : bt k (dX (B0 b) f l) = now + dl b := by unfold bt; rw [h.now, h.sh, F5 b _ rfl]
theorem Iv.ent (h : Iv k m now (b :: bs)) : jb k b.nm (dX (B0 b) f l) l = missed b.nm (x0 b f l) l (now + dl b) ++ II b.nm (aV (x0 b f l) l (now + dl b)) := by
 rw [<- h.shown (f := f) (l := l)]; rfl
theorem Iv.over (h : Iv k m now (b :: bs)) (sy : ((b :: bs).map (·.nm)).Nodup) (e : (aV (x0 b f l) l (now + dl b)).st = none) : Iv (dc k b.nm (dX (B0 b) f l) l) (kM m b.nm) now bs := by
 have eB : layB k (dX (B0 b) f l) l = aV (x0 b f l) l (now + dl b) := by rw [<- h.shown (f := f) (l := l)]; rfl
 unfold dc
 rw [eB, e]
 rw [List.map_cons, List.nodup_cons] at sy
 have Jc : ∀ n, cj { k with f := bI k.f b.nm none, t := bI k.t b.nm none } n = if n = b.nm then none else cj k n := fun n => by
  unfold cj
  show (bI k.f b.nm none n).bind _ = _
  by_cases en : n = b.nm
  . rw [en, aE, if_pos rfl]; rfl
  . rw [bJ en, if_neg en]
 have hf : ∀ n, (bI k.f b.nm none n).isSome = true -> n ≠ b.nm /\ (k.f n).isSome = true := fun n hs => by
  by_cases en : n = b.nm
  . rw [en, aE] at hs; cases hs
  . rw [bJ en] at hs; exact ⟨en, hs⟩
 refine ⟨h.now, h.sh, fun n => by rw [Qk, Jc, h.rows], fun n hs => ?_, fun c hc => ?_, (Ge h.nd).1, Nat.le_trans (Ge h.nd).2 h.len, fun n hs => h.nm n (hf n hs).2, fun n d hd => ?_⟩
 . obtain ⟨h1, h2⟩ := hf n hs
   rw [Jc, if_neg h1]
   exact h.wt n h2
 . show bI k.f b.nm none c.nm = _
   rw [bJ (fun z => sy.1 (List.mem_map.mpr ⟨c, hc, z⟩))]
   exact h.left c (List.mem_cons_of_mem _ hc)
 . rw [Jc] at hd
   split at hd
   . cases hd
   . exact h.fl n d hd
theorem Iv.next (h : Iv k m now (b :: bs)) (sy : ((b :: bs).map (·.nm)).Nodup) {f' l' : Int} (e : (aV (x0 b f l) l (now + dl b)).st = some (f', l')) : Iv (dc k b.nm (dX (B0 b) f l) l) (putD m b.nm (Ce b f' l' now)) now bs /\ ∃ x, (dc k b.nm (dX (B0 b) f l) l).f b.nm = some x /\ x.st = some (f', l') /\ x.no = (aV (x0 b f l) l (now + dl b)).no := by
 have eB : layB k (dX (B0 b) f l) l = aV (x0 b f l) l (now + dl b) := by rw [<- h.shown (f := f) (l := l)]; rfl
 have edy : (aV (x0 b f l) l (now + dl b)).dy = b.dy /\ (aV (x0 b f l) l (now + dl b)).wt = 1 := by unfold aV; split <;> exact ⟨rfl, rfl⟩
 unfold dc
 rw [eB, e]
 simp only
 rw [List.map_cons, List.nodup_cons] at sy
 generalize aV (x0 b f l) l (now + dl b) = y at *
 generalize Jd : ({ k with f := bI k.f b.nm (some (wait y k.now k.sh f' l')), t := bI k.t b.nm (some (l' - lead (dX (B0 b) f l) k.sh)) } : KS) = k'
 have UW : k'.f b.nm = some (wait y k.now k.sh f' l') := by rw [<- Jd]; exact aE
 have hff : ∀ n, n ≠ b.nm -> k'.f n = k.f n := fun n en => by rw [<- Jd]; exact bJ en
 have hkb : cj k' b.nm = some (Ce b f' l' now) := by
  rw [CL UW, h.now, h.sh, F5 b y edy.1, edy.2]; rfl
 have Jc : ∀ n, n ≠ b.nm -> cj k' n = cj k n := fun n en => by unfold cj; rw [hff n en]
 have hin : (hX m b.nm).isSome = true := by rw [h.rows]; exact h.wt _ (by rw [h.left b List.mem_cons_self]; rfl)
 refine ⟨⟨by rw [<- Jd]; exact h.now, by rw [<- Jd]; exact h.sh, fun n => ?_, fun n hs => ?_, fun c hc => ?_, (Qd h.nd).1, by rw [RY hin]; exact h.len, fun n hs => ?_, fun n d hd => ?_⟩, _, aE, e, rfl⟩
 . rw [RK]
   by_cases en : n = b.nm
   . rw [if_pos en, en, hkb]
   . rw [if_neg en, Jc n en, h.rows]
 . by_cases en : n = b.nm
   . rw [en, hkb]; rfl
   . rw [Jc n en]
     rw [hff n en] at hs
     exact h.wt n hs
 . rw [hff _ (fun z => sy.1 (List.mem_map.mpr ⟨c, hc, z⟩))]
   exact h.left c (List.mem_cons_of_mem _ hc)
 . by_cases en : n = b.nm
   . rw [en]; exact h.nm _ (by rw [h.left b List.mem_cons_self]; rfl)
   . rw [hff n en] at hs; exact h.nm n hs
 . by_cases en : n = b.nm
   . rw [en, hkb] at hd
     cases hd
     rw [en]
     exact ⟨_, _, _, rfl⟩
   . rw [Jc n en] at hd
     exact h.fl n d hd
theorem NY {g : Str -> Option PyData} : ∀ {l : List Str}, (∀ n ∈ l, (g n).isSome = true) -> l.filterMap g = l.map fun n => (g n).getD .none
 | [], _ => rfl
 | n :: r, h => by
   obtain ⟨d, hd⟩ := Option.isSome_iff_exists.mp (h n List.mem_cons_self)
   rw [List.filterMap_cons, hd, List.map_cons, hd, NY fun m hm => h m (List.mem_cons_of_mem _ hm)]; rfl
theorem HX {k : KS} {n : Str} (h : (cj k n).isSome = true) : (k.f n).isSome = true := by
 unfold cj at h
 cases e : k.f n with
 | none => rw [e] at h; cases h
 | some x => rfl
theorem Iv.wF (h : Iv k m now bs) (n : Str) : By ((hX m n).getD .none) = true := by
 rw [h.rows]
 cases e : cj k n with
 | none => rfl
 | some d => exact DQ e
theorem Iv.same (h : Iv k m now bs) {ss vC : List Str} (hN : o3 k ss) (hs : ss.Nodup) (hp : vC.Perm (m.map (·.1))) (hu : QO vC) : ss = vC /\ m3 k ss = vC.map fun n => (hX m n).getD .none := by
 have hm : ∀ n, n ∈ ss ↔ n ∈ vC := fun n => by
  rw [hN.2, hp.mem_iff, AV, h.rows]
  exact ⟨h.wt n, HX⟩
 have e : ss = vC := FG ((List.perm_ext_iff_of_nodup hs (hp.nodup_iff.mpr h.nd)).mpr hm) hN.1 hu
 subst e
 refine ⟨rfl, ?_⟩
 unfold m3
 rw [NY fun n hn => h.wt n ((hN.2 n).mp hn)]
 exact List.map_congr_left fun n _ => by rw [h.rows]
theorem Iv.acr (h : Iv k m now bs) {ss : List Str} : Fv (m3 k ss) := LC fun e he => by
 obtain ⟨n, _, hn⟩ := List.mem_filterMap.mp he
 obtain ⟨i, j, w, rfl⟩ := h.fl n e hn
 refine ⟨_, rfl, fun p hp => ?_, fun s hs => ?_⟩
 . simp only [List.mem_cons, List.not_mem_nil, or_false] at hp
   rcases hp with rfl | rfl | rfl | rfl
   . exact .inl ⟨_, rfl⟩
   . exact .inr ⟨_, rfl⟩
   . exact .inr ⟨_, rfl⟩
   . exact .inr ⟨_, rfl⟩
 . simp only [List.mem_cons, List.not_mem_nil, or_false, PyData.str.injEq, reduceCtorEq] at hs
   obtain ⟨N, hN⟩ := h.nm n (HX (by rw [hn]; rfl))
   rw [hs, hN]
   exact UQ N
end
theorem bH.dict {H H' : Hp} {L : Lay} {k : KS} {d : Addr} {kvs : List (Key × V)} (h : bH a H L k) (m : Mv [d] H H') (e : H d = some (.dK kvs)) (n1 : d ≠ L.td) (n2 : d ≠ L.bd) : bH a H' L k := by
 obtain ⟨ts, w1, w2, w3⟩ := h.wt
 obtain ⟨ns, b1, b2, b3⟩ := h.bd
 exact ⟨lU m e h.ins, ⟨ts, ⟨lU m e w1.ins, w1.dat.mv m (by simpa using Ne.symm n1)⟩, w2, w3⟩, ⟨ns, b1.mv m (by simpa using Ne.symm n2), b2, b3⟩, fun y z hz => (h.bl y z hz).Uy m e, h.ne, h.nl, h.nt, h.nf⟩
set_option hygiene false in
local macro_rules | `(tactic| walk_at "rd1") => `(tactic| first | with_reducible refine Sf ?_ | fail)
theorem G2 : ∀ bs : List LB, nd (.list (bs.map sV)) = true
 | [] => rfl
 | b :: r => by
   show (nd (sV b) && nd.XS (r.map sV)) = true
   rw [yX b]
   exact G2 r
theorem Jq (y : eI) : By (p5 y) = true := by unfold p5; split <;> rfl
theorem Ve (n : Str) (x y : eI) (l t : Int) : nd (.list (missed n x l t ++ II n y)) = true := by
 unfold missed II
 split <;> split <;> rfl
theorem Vr {n : Str} {x y : eI} {l t : Int} (hn : PyData.canLay0 (.str n) = true) : (∀ e ∈ missed n x l t ++ II n y, ∃ ps, e = .tuple ps /\ (∀ p ∈ ps, Flat p) /\ ∀ s, PyData.str s ∈ ps -> PyData.canLay0 (.str s) = true) := by
 have hm : PyData.canLay0 (.str "missed") = true := by decide +kernel
 have ho : PyData.canLay0 (.str "over") = true := by decide +kernel
 have h1 : ∃ ps, Iw n = .tuple ps /\ (∀ p ∈ ps, Flat p) /\ ∀ s, PyData.str s ∈ ps -> PyData.canLay0 (.str s) = true := by
  refine ⟨_, rfl, fun p hp => ?_, fun s hs => ?_⟩
  . simp only [List.mem_cons, List.not_mem_nil, or_false] at hp
    rcases hp with rfl | rfl <;> exact .inl ⟨_, rfl⟩
  . simp only [List.mem_cons, List.not_mem_nil, or_false, PyData.str.injEq] at hs
    rcases hs with rfl | rfl
    . exact ho
    . exact hn
 intro e he
 rcases List.mem_append.mp he with he | he
 . unfold missed at he
   split at he
   . cases he
   . rw [List.mem_singleton.mp he]
     refine ⟨_, rfl, fun p hp => ?_, fun s hs => ?_⟩
     . simp only [List.mem_cons, List.not_mem_nil, or_false] at hp
       rcases hp with rfl | rfl | rfl | rfl
       . exact .inl ⟨_, rfl⟩
       . exact .inl ⟨_, rfl⟩
       . exact .inr ⟨_, rfl⟩
       . exact .inr ⟨_, rfl⟩
     . simp only [List.mem_cons, List.not_mem_nil, or_false, PyData.str.injEq, reduceCtorEq] at hs
       rcases hs with rfl | rfl
       . exact hm
       . exact hn
 . unfold II at he
   split at he
   . rw [List.mem_singleton.mp he]; exact h1
   . cases he
theorem XJ (T : Txt K mg a) : aK P w K mg base eS 14 a.wW a.Hw ["_law_script"] (Ov K) := by
 have fX := Dw (P := P) (w := w) (base := base) T
 have HQ := P5 (P := P) (w := w) (base := base) T
 have GN := MD (P := P) (w := w) (base := base) T
 have El := Rf (P := P) (w := w) (base := base) T
 have Ee := Ij (P := P) (w := w) (base := base) T
 have Kd := Mq (P := P) (w := w) (base := base) T
 have IX := OD (P := P) (w := w) (base := base) T
 have Gr := Nn (P := P) (w := w) (base := base) T
 have D6 := F4 (P := P) (w := w) (base := base) T
 have DX := NI (P := P) (w := w) (base := base) T
 refine T.O6.ok f7 (fun vs H Q E h => ?_) (fun cJ A outer s H vs Q E hr h => ?_)
 . obtain ⟨_, _, rfl, _⟩ := h; rfl
 . obtain ⟨l0, ns, rfl, hS, hl, q⟩ := h
   refine ⟨_, (ah (aI (i := 1) f7.nd rfl (Or.inl rfl) (aw bo af (aw c6 (aw b9 (bW fX (hr.mono (by decide)) rfl T.dN T.dM (ae (pv 0) (ae af aj))) af) af)))
    (dg (bM (aL (BE hr.RZ) (aw c6 (bW fX (hr.mono (by decide)) rfl T.dN T.dM (ae (pv 0) (ae af aj))) af) af (aN _))
     (ai (aI (i := 1) f7.nd rfl (Or.inl rfl) (aw bo af (aw c6 (aw b9 (bW fX (hr.mono (by decide)) rfl T.dN T.dM (ae (pv 0) (ae af aj))) af) (aw qb af af)))))
     aH)
    (dg (YY (i := 2) f7.nd rfl (Or.inl rfl) (T := ["_law_k"]) (M := ["_law_script", "_law_now", "_law_bells", "_law_keeper", "_law_rows", "_law_bell_here", "06", "_law_cell", "_law_stretch_here", "_law_due_here", "_law_state", "_law_found"]) (UG (ak HV) ["_law_script", "_law_now", "_law_bells", "_law_keeper", "_law_rows", "_law_bell_here", "_law_k", "_law_cell", "_law_stretch_here", "_law_due_here", "_law_state", "_law_found"] rfl rfl (by decide +kernel)) rfl (MG rfl T.vm (ae af (ae (bw (Mp rfl) rfl T.EI PyProof.Rows.boot_min (ae (bw Ca rfl T.BO PySem.boot_len (ae (pv 0) aj)) (ae af aj))) aj))) (fun _ _ _ _ _ => (bq (i := 0) (show List.Nodup (["_law_k", "_law_script", "_law_now", "_law_bells", "_law_keeper", "_law_rows", "_law_bell_here", "06", "_law_cell", "_law_stretch_here", "_law_due_here", "_law_state", "_law_found"] : List Str) by decide +kernel) rfl (Or.inl rfl))) (jr (by decide)) (fun _ _ _ _ _ => A9) (fun _ _ _ _ _ => (bW HQ (hr.mono (by decide)) rfl T.AW T.Ae (ae (aP (Zk (K := K) rfl) (pv 1) (pv 0) (fun _ _ => rfl)) (ae (pv 0) aj)))) rfl)
    (ah (aI (i := 3) f7.nd rfl (Or.inl rfl) (bW GN (hr.mono (by decide)) rfl T.xu T.xF (ae (pv 2) (ae (pv 1) aj))))
    (ah (aI (i := 4) f7.nd rfl (Or.inr rfl) tf)
    (ah (zh PassesOwn.never rfl (fE (pv 2)) (bq (i := 5) f7.nd rfl (Or.inl rfl))
     (ai (DI (oB hr) (pv 4) (aP cf (pv 5) af (fun _ _ => rfl)) (bW El (hr.mono (by decide)) rfl T.tN T.vi (ae (pv 5) (ae (bX (ae af (ae (aw qb af af) (ae (aw qb af af) aj)))) (ae (pv 1) aj)))) rfl)))
    (ah (zh PassesOwn.never rfl (MJ rfl T.vm (ae (bw Ca rfl T.BO PySem.boot_len (ae (pv 2) aj)) aj)) (bq (i := 6) f7.nd rfl (Or.inl rfl))
     (ah (aI (i := 5) f7.nd rfl (Or.inl rfl) (aP cf (pv 2) (pv 6) (fun _ _ => rfl)))
     (ah (aI (i := 7) f7.nd rfl (Or.inl rfl) (aw b9 (bW fX (hr.mono (by decide)) rfl T.dN T.dM (ae (pv 0) (ae (aw wJ af (pv 6)) aj))) af))
     (ah (aI (i := 8) f7.nd rfl (Or.inl rfl) (bW Ee (hr.mono (by decide)) rfl T.si T.rY (ae (aw b9 (pv 7) af) (ae (aw dR (pv 1) (aw wJ af (B3 Ga rfl T.y0 PyProof.Rows.boot_int (ae (aP cf (pv 5) af (fun _ _ => rfl)) aj)))) aj))))
     (ah (Qq (bW Kd (hr.mono (by decide)) rfl T.Dl T.CI (ae (pv 5) (ae (pv 8) (ae (aw dR (pv 1) (aw wJ af (B3 Ga rfl T.y0 PyProof.Rows.boot_int (ae (aP cf (pv 5) af (fun _ _ => rfl)) aj)))) aj)))) (Hv (n := 2) rfl (ef (bq (i := 9) f7.nd rfl (Or.inl rfl)) (ef (bq (i := 10) f7.nd rfl (Or.inl rfl)) zJ))))
     (ah (aI (i := 11) f7.nd rfl (Or.inl rfl) (bW IX (hr.mono (by decide)) rfl T.AA T.zA (ae (pv 3) (ae (aP cf (pv 5) af (fun _ _ => rfl)) (ae (pv 7) (ae (pv 8) aj))))))
     (ah (bM (PW.pt (KZ (qd (cE (bW Gr (hr.mono (by decide)) rfl T.yp T.xB (ae (pv 11) aj)) (fun _ => rfl))) (Ho (aL (JP hr.RZ) (pv 11) (pv 9) (aN _)))))
      (ai (aA CY))
      aH)
     (dg (bM (aL Ec (pv 10) cK (aN _))
      (ai (aO (Il PySem.F.plainAttrs_dict PySem.F.slot_dict_pop PySem.F.type_dict_pop DH (pv 4) (ae (aP cf (pv 5) af (fun _ _ => rfl)) aj))))
      (ah (DI (oB hr) (pv 4) (aP cf (pv 5) af (fun _ _ => rfl)) (bW El (hr.mono (by decide)) rfl T.tN T.vi (ae (pv 5) (ae (pv 10) (ae (pv 1) aj)))) rfl)
      (ai (bM (aL (JP hr.RZ) (aC (pv 3) T.az T.kC D6 (hr.mono (by decide)) (ae (aP cf (pv 5) af (fun _ _ => rfl)) aj)) (pv 10) (aN _))
       (ai (aA CY))
       aH))))
     (ai (bM (aL (JP hr.RZ) (fb (pv 3) T.az T.uN DX (hr.mono (by decide))) (E8 (T := ["_law_name_here"]) (M := ["_law_script", "_law_now", "_law_bells", "_law_keeper", "_law_rows", "_law_bell_here", "_law_k", "_law_cell", "_law_stretch_here", "_law_due_here", "_law_state", "_law_found"]) (UG (ak HV) ["_law_script", "_law_now", "_law_bells", "_law_keeper", "_law_rows", "_law_bell_here", "_law_k", "_law_cell", "_law_stretch_here", "_law_due_here", "_law_state", "_law_found"] rfl rfl (by decide +kernel)) rfl (fE (bw Ka rfl T.jq PyProof.Rows.boot_sorted (ae (B3 (J4 rfl) rfl T.Ar PyProof.Rows.boot_list (ae (pv 4) aj)) aj))) (fun _ _ _ _ _ => (bq (i := 0) (show List.Nodup (["_law_name_here", "_law_script", "_law_now", "_law_bells", "_law_keeper", "_law_rows", "_law_bell_here", "_law_k", "_law_cell", "_law_stretch_here", "_law_due_here", "_law_state", "_law_found"] : List Str) by decide +kernel) rfl (Or.inl rfl))) (jr (by decide)) (fun _ _ _ _ _ => A9) (fun _ _ _ _ _ => (DJ (oB hr) (pv 5) (pv 0) (fun _ _ => rfl)))) (aN _))
      (ai (aA CY))
      aH))))))))))
    (ai (aA CY))))))))), ?_⟩
   repeat' (walk_at "rd1")
   refine gI (fun σ' H' => H' = H /\ ∃ now, 20 <= now /\ now < 10 ^ 36 /\ σ' = [some (.ref l0), some (.int now), none, none, none, none, none, none, none, none, none, none]) ?_ ?_
   . repeat' (walk_at "rd1")
     all_goals exact ⟨rfl, _, by omega, by omega, rfl⟩
   rintro σ' H' ⟨rfl, now, h20, aac, rfl⟩
   refine gI (fun σ' H1 => ax H' H1 /\ ∃ (p : Addr) (bs : List LB), σ' = [some (.ref l0), some (.int now), some (.ref p), none, none, none, none, none, none, none, none, none] /\ Dv H1 (.ref p) (.list (bs.map sV)) /\ (∀ b ∈ bs, wM b) /\ (bs.map (·.nm)).Nodup /\ bs.length <= 20) ?_ ?_
   . repeat' (walk_at "rd1")
     rename_i z ez1 ez2 ez3
     rw [List.length_map] at ez1 ez2
     have hz0 : 0 <= z := by omega
     refine ⟨1, z, rfl, ⟨by decide, by decide, by omega, by omega⟩, ?_⟩
     refine Tq (by omega) (fun i acc H2 => ax H' H2 /\ acc.length = i /\ ∃ bs : List LB, cI H2 acc (bs.map sV) /\ (∀ b ∈ bs, wM b /\ ∃ N, b.nm = A4 N /\ N % 61 <= i) /\ (bs.map (·.nm)).Nodup /\ bs.length = i) ⟨ax.refl _, rfl, [], .nil, fun b hb => (by cases hb), List.nodup_nil, rfl⟩ (fun i acc H2 hi ⟨_, e, _⟩ => by omega) (fun i acc H2 N hi ⟨s2, ea, bs, dv, hb, sy, hbl⟩ yes no => ?_) (fun acc H2 q2 ⟨s2, ea, bs, dv, hb, sy, hbl⟩ Ct => ?_)
     . have hS2 := ax.seq s2 hS
       repeat' (walk_at "rd1")
       refine CN (fun _ => ?_) (fun hb => by cases hb)
       repeat' (walk_at "rd1")
       refine U3 hS2 (K2 (by omega) (by rw [List.length_map]; omega)) ?_
       repeat' (walk_at "rd1")
       refine WM (by omega) (by omega) (fun v H3 b s3 hv ok Ux => ?_)
       refine yes _ _ ⟨s2.trans s3, by rw [List.length_append, ea]; rfl, bs ++ [b], ?_, fun c hc => ?_, ?_, by rw [List.length_append, hbl]; rfl⟩
       . rw [List.map_append]
         exact cI.append (dv.keeps s3) (.cons hv .nil)
       . rcases List.mem_append.mp hc with hc | hc
         . obtain ⟨h1, N, h2, h3⟩ := hb c hc
           exact ⟨h1, N, h2, by omega⟩
         . rw [List.mem_singleton.mp hc]
           exact ⟨ok, _, Ux, by omega⟩
       . rw [List.map_append, List.nodup_append]
         refine ⟨sy, by simp, fun y hy w hw => ?_⟩
         obtain ⟨c, hc, rfl⟩ := List.mem_map.mp hy
         obtain ⟨d, hd, rfl⟩ := List.mem_map.mp hw
         rw [List.mem_singleton.mp hd]
         obtain ⟨_, N, h2, h3⟩ := hb c hc
         intro e
         rw [h2, Ux] at e
         have := Ou e
         omega
     . refine ⟨s2.trans (cF Ct), q2, bs, rfl, .lst (.inl au) (dv.keeps (cF Ct)), fun b hb' => (hb b hb').1, sy, by omega⟩
   rintro σ' H1 ⟨s1, p, bs, rfl, hbs, bA, sy, hlen⟩
   have hS1 := ax.seq s1 hS
   repeat' (walk_at "rd1")
   refine R1 hbs bA sy hlen h20 aac (fun L H2 k qS etd ebd kF YB enm => ?_)
   repeat' (walk_at "rd1")
   rename_i d H3 s3 D4 X2
   have yT := kF.keeps s3
   have WX : Dv H3 (.ref p) (.list (bs.map sV)) := (Dv.fr qS hbs (G2 bs)).keeps s3
   have hS3 : i9 K H3 l0 (ns.map V.int) := ax.seq s3 (qS.sql hS1)
   obtain ⟨kd3, ed3, _⟩ := id X2
   have hdt : d ≠ L.td := fun z => by
    obtain ⟨ts, w1, _⟩ := kF.wt
    obtain ⟨kw, ew, _⟩ := id w1.dat
    rw [<- z, D4] at ew; cases ew
   have zp : d ≠ L.bd := fun z => by
    obtain ⟨ns', b1, _⟩ := kF.bd
    have b1 : H2 L.bd = _ := b1
    rw [<- z, D4] at b1; cases b1
   clear hbs hS hS1 qS kF s1 s3
   obtain ⟨p', xs, e, ZA, dv⟩ := WX.lst_inv
   cases e
   have RP : bs.length = xs.length := by rw [dv.length, List.length_map]
   have YZ : ∀ i x, xs[i]? = some x -> ∃ b, bs[i]? = some b /\ Dv H3 x (sV b) := fun i x hx => by
    have hi : i < bs.length := by have := (List.getElem?_eq_some_iff.mp hx).1; omega
    obtain ⟨x', t6, QL⟩ := dv.get (i := i) (d := sV bs[i]) (by rw [List.getElem?_map, List.getElem?_eq_getElem hi]; rfl)
    rw [hx] at t6
    cases t6
    exact ⟨bs[i], List.getElem?_eq_getElem hi, QL⟩
   have hfd : ∀ {H' : Hp}, Mv [d] H3 H' -> Fr [a.ao, a.ag, a.aD] [L.td, L.bd, d] H3 H' := fun {H'} m => Fr.VO m ed3 (by simp)
   refine forL (xs := xs) (ZA K) (fun i σ' H' => ∃ z, σ' = [some (.ref l0), some (.int now), some (.ref p), some (.ref L.p), some (.ref d), z, none, none, none, none, none, none] /\ Mv [d] H3 H' /\ pq H' d ((bs.take i).map fun b => (b.nm, Ce b (10 ^ 38) (10 ^ 38) now))) ⟨_, rfl, Mv.refl, X2⟩ (fun i σ' H' _ ⟨_, _, m, _⟩ => (hfd m).sql (ZA K)) ?_ ?_
   . rintro i x σ' H4 hx ⟨z, rfl, m4, Nf⟩
     obtain ⟨b, hb, hx3⟩ := YZ i x hx
     have hx4 : Dv H4 x (sV b) := Dv.fr (hfd m4) hx3 (yX b)
     have Lk : hX ((bs.take i).map fun b => (b.nm, Ce b (10 ^ 38) (10 ^ 38) now)) b.nm = none := by
      cases e : hX ((bs.take i).map fun b => (b.nm, Ce b (10 ^ 38) (10 ^ 38) now)) b.nm with
      | none => rfl
      | some w =>
        have := AV.mpr (by rw [e]; rfl)
        rw [List.map_map] at this
        exact absurd this (DN sy hb)
     have hl4 : ((bs.take i).map fun b => (b.nm, Ce b (10 ^ 38) (10 ^ 38) now)).length <= 20 := by rw [List.length_map, List.length_take]; omega
     have abE := hx4
     unfold sV at abE
     repeat' (walk_at "rd1")
     rename_i tv H5 s5 htv
     refine Uk (hx4.keeps s5) htv (fun v6 H6 s6 hv6 => ?_)
     repeat' (walk_at "rd1")
     rename_i H7 m7 hd7
     rw [HJ Lk] at hd7
     refine ⟨_, rfl, m4.trans ((s5.trans s6).mv.trans m7), ?_⟩
     rw [take_snoc hb, List.map_append]
     exact hd7
   . rintro σ' H4 ⟨z, rfl, m4, Nf⟩
     rw [<- RP, List.take_length] at Nf
     have Oh := yT.dict m4 ed3 hdt zp
     have iv4 := YB.iv bA sy hlen aac
     have f4 := hfd m4
     clear yT m4
     have ae1 : Dv H4 (.ref p) (.list (bs.map sV)) := Dv.fr f4 WX (G2 bs)
     repeat' (walk_at "rd1")
     refine ND (fun j σ' H' => ∃ z1 z2 z3 z4 z5 z6 z7, σ' = [some (.ref l0), some (.int now), some (.ref p), some (.ref L.p), some (.ref d), z1, z2, z3, z4, z5, z6, z7] /\ ∃ k m, bH a H' L k /\ pq H' d m /\ Fr [a.ao, a.ag, a.aD] [L.td, L.bd, d] H3 H' /\ Iv k m now (bs.drop j)) ⟨_, _, _, _, _, _, _, rfl, _, _, Oh, Nf, f4, iv4⟩ ?_ ?_
     . rintro j σ' H5 hj ⟨z1, z2, z3, z4, z5, z6, z7, rfl, k5, m5, VL, PY, f5, SF⟩
       have RW : j < bs.length := by omega
       have hdr : bs.drop j = bs[j] :: bs.drop (j + 1) := List.drop_eq_getElem_cons RW
       have hbj : bs[j]? = some bs[j] := List.getElem?_eq_getElem RW
       have ok := bA bs[j] (List.getElem_mem RW)
       have Zn : ((bs[j] :: bs.drop (j + 1)).map (·.nm)).Nodup := by rw [<- hdr]; exact sy.sublist ((List.drop_sublist _ _).map _)
       rw [hdr] at SF
       generalize bs[j] = b at *
       have Z1 : Dv H5 (.ref p) (.list (bs.map sV)) := Dv.fr f5 WX (G2 bs)
       have hS5 := f5.sql hS3
       have hi5 := VL.ins
       unfold aM at hi5
       repeat' (walk_at "rd1")
       refine P9 (d := sV b) (.inr Z1) (by rw [Int.zero_add]; exact Hu (by rw [List.getElem?_map, hbj]; rfl)) (KJ fun bv hbv => ?_)
       have Xc := hbv
       unfold sV at Xc
       repeat' (walk_at "rd1")
       refine .inr ⟨_, rfl, ?_⟩
       repeat' (walk_at "rd1")
       have hsh : now - 7 * (if b.dy = true then (1 : Int) else 0) = now + dl b := by unfold dl; split <;> omega
       obtain ⟨d1, d2⟩ := K4 b
       rw [hsh]
       refine NB (by omega) (fun sv H6 f l s6 hsv h0 h1 h2 => ?_)
       have aah := Xc.keeps s6
       repeat' (walk_at "rd1")
       refine .inr ⟨_, rfl, ?_⟩
       repeat' (walk_at "rd1")
       rw [hsh]
       refine RN (hbv.keeps s6) ok hsv (by omega) (by omega) (fun v7 H7 s7 hv7 => ?_)
       refine GV hv7 (fun dv8 st8 ZH Yd => ?_)
       have aa3 := aah.keeps s7
       have s57 := s6.trans s7
       have Xz := VL.keeps s57
       have hi7 := Xz.ins
       unfold aM at hi7
       repeat' (walk_at "rd1")
       have hx7 := SF.left b List.mem_cons_self
       have ZE : bt k5 (B0 b) = now + dl b := SF.shown (f := 0) (l := 0)
       refine XG Xz hx7 rfl (by show (0 : Int) <= 0; decide) (by show (0 : Int) < 10 ^ 50; decide) (by rw [ZE]; omega) (by rw [ZE]; omega) (hsv.keeps s7) h0 h1 h2 (fun q9 H9 YH hq9 hk9 => ?_)
       rw [SF.ent] at hq9
       have f9 : Fr [a.ao, a.ag, a.aD] [L.td, L.bd, d] H3 H9 := (f5.step s57).trans (YH.wide (by intro x hx; simp at hx ⊢; rcases hx with hx | hx <;> simp [hx]))
       have hd9 : pq H9 d m5 := YH.dla (by simp [hdt, zp]) (PY.keeps s57)
       have Xu : Dv H9 bv (sV b) := Dv.fr YH (hbv.keeps s57) (yX b)
       have abp : Dv H9 dv8 (.list (missed b.nm (x0 b f l) l (now + dl b) ++ II b.nm (aV (x0 b f l) l (now + dl b)))) := Dv.fr YH ZH (Ve _ _ _ _ _)
       have D3 : Dv H9 st8 (p5 (aV (x0 b f l) l (now + dl b))) := YH.wF (Jq _) Yd
       clear hbv Xc aah aa3 ZH Yd VL hi5 PY f5 hS5 Z1 Xz hi7 hsv hv7
       repeat' (walk_at "rd1")
       obtain ⟨N, hN⟩ := ok.n
       have ab5 : PyData.canLay0 (.str b.nm) = true := by rw [hN]; exact UQ N
       have UP := Vr (x := x0 b f l) (y := aV (x0 b f l) l (now + dl b)) (l := l) (t := now + dl b) ab5
       refine Rn hq9.dv (fun e he => let ⟨ps, e1, e2, _⟩ := UP e he; ⟨ps, e1, e2⟩) ?_
       repeat' (walk_at "rd1")
       refine Ul hq9.dv abp (LC UP) ?_
       repeat' (walk_at "rd1")
       have YW := Xu
       unfold sV at YW
       obtain ⟨kd9, ed9, _⟩ := id hd9
       refine gI (fun σ' H' => ∃ z1 z2 z3 z4 z5 z6 z7, σ' = [some (.ref l0), some (.int now), some (.ref p), some (.ref L.p), some (.ref d), z1, z2, z3, z4, z5, z6, z7] /\ ∃ k m, bH a H' L k /\ pq H' d m /\ Fr [a.ao, a.ag, a.aD] [L.td, L.bd, d] H3 H' /\ Iv k m now (bs.drop (j + 1))) ?_ ?_
       . cases AO : (aV (x0 b f l) l (now + dl b)).st with
         | none =>
           have ivN := SF.over Zn AO
           have D3 : Dv H9 st8 .none := by
            have e : p5 (aV (x0 b f l) l (now + dl b)) = .none := by unfold p5; rw [AO]
            rw [e] at D3; exact D3
           obtain rfl := D3.Hi
           obtain ⟨d0, QL⟩ := Option.isSome_iff_exists.mp (show (hX m5 b.nm).isSome = true by rw [SF.rows]; exact SF.wt _ (by rw [hx7]; rfl))
           repeat' (walk_at "rd1")
           refine NS hd9 ?_
           repeat' (walk_at "rd1")
           refine Jk hd9 QL (fun v10 H10 ZJ Sj => ?_)
           repeat' (walk_at "rd1")
           exact ⟨_, _, _, _, _, _, _, rfl, _, _, hk9.dict ZJ ed9 hdt zp, Sj, f9.trans (Fr.VO ZJ ed9 (by simp)), ivN⟩
         | some fl =>
           obtain ⟨f', l'⟩ := fl
           obtain ⟨ivN, x', t6, hxs, hxn⟩ := SF.next Zn AO
           have D3 : Dv H9 st8 (.tuple [.int (aV (x0 b f l) l (now + dl b)).no, .int f', .int l']) := by
            have e : p5 (aV (x0 b f l) l (now + dl b)) = .tuple [.int (aV (x0 b f l) l (now + dl b)).no, .int f', .int l'] := by unfold p5; rw [AO]
            rw [e] at D3; exact D3
           rw [<- hxn] at D3
           have hl5 := SF.len
           have Zc := D3
           cases Zc with
           | tup e8 r8 =>
             repeat' (walk_at "rd1")
             refine Uk Xu D3 (fun v10 H10 s10 ae5 => ?_)
             repeat' (walk_at "rd1")
             rename_i H11 m11 TF
             have Yg := s10 _ _ ed9
             have VD := (hk9.keeps s10).dict m11 Yg hdt zp
             have fB : Fr [a.ao, a.ag, a.aD] [L.td, L.bd, d] H9 H11 := s10.fr.trans (Fr.VO m11 Yg (by simp))
             have f11 := f9.trans fB
             have abB := VD.ins
             unfold aM at abB
             have Zd : Dv H11 bv (sV b) := Dv.fr fB Xu (yX b)
             unfold sV at Zd
             have ZC := fB.wF rfl D3
             repeat' (walk_at "rd1")
             refine KH VD t6 hxs (fun v12 H12 Ue afw => ?_)
             have ac3 := ZC.keeps Ue
             repeat' (walk_at "rd1")
             all_goals first | exact ⟨_, _, _, _, _, _, _, rfl, _, _, VD.keeps Ue, TF.keeps Ue, f11.step Ue, ivN⟩ | trace_state
       rintro σ' H10 ⟨z1, z2, z3, z4, z5, z6, z7, rfl, k10, ZJ, XN, Sj, f10, Oo⟩
       have acQ := XN.ins
       unfold aM at acQ
       repeat' (walk_at "rd1")
       refine Q9 XN (fun q11 H11 ss s11 aep hN hss acK => ?_)
       have TF := Sj.keeps s11
       have aci := Oo.len
       repeat' (walk_at "rd1")
       refine Se (by obtain ⟨kvs, e, dk⟩ := TF; exact ⟨kvs, .inl e, dk⟩) (fun q12 H12 Ue aes aeV => ?_)
       repeat' (walk_at "rd1")
       rename_i q13 H13 vC s13 aej Xf ab1 abD
       have aew : vC.length <= 30 := by rw [Xf.length_eq, List.length_map]; exact aci
       obtain ⟨ess, eL⟩ := Oo.same hN hss Xf ab1
       have abi := (TF.keeps Ue).keeps s13
       refine Xx (cs := vC) (gd := PyData.str) (fun _ => true) (fun n => (hX ZJ n).getD .none) abD.dv (by omega) Oo.wF (fun x n H' N' hn sm' Fi yes no => ?_) (fun q14 H14 s14 aeK Zx => ?_)
       . obtain rfl := Fi.str_inv
         obtain ⟨dd, hdd⟩ := Option.isSome_iff_exists.mp (AV.mp (Xf.mem_iff.mp hn))
         have aeX := abi.keeps sm'
         repeat' (walk_at "rd1")
         refine CN (fun _ => ?_) (fun hb => by cases hb)
         repeat' (walk_at "rd1")
         rename_i v15 abF
         exact yes rfl _ _ (ax.refl _) (by rw [hdd]; exact abF)
       . rw [DF, <- eL] at Zx
         have Z5 := ((acK.keeps Ue).keeps s13).keeps s14
         repeat' (walk_at "rd1")
         refine Ul Z5.dv Zx.dv Oo.acr ?_
         have Xm := ((s11.trans Ue).trans s13).trans s14
         repeat' (walk_at "rd1")
         exact ⟨_, _, _, _, _, _, _, rfl, k10, ZJ, XN.keeps Xm, Sj.keeps Xm, f10.step Xm, Oo⟩
     . rintro σ' H5 ⟨z1, z2, z3, z4, z5, z6, z7, rfl, _⟩
       repeat' (walk_at "rd1")
       exact q _
end
end My
open PySem PySem.W PyProof.Rows
local macro_rules | `(tactic| walk_at "k_dg") => `(tactic| (refine' ⟨?a, ⟨_, L2.K1 ?l ?c⟩, ?k⟩; (case a => k_is); (case l => k_is); (case c => k_is); (case k => k_is)))
local macro_rules | `(tactic| walk_at "k_dm") => `(tactic| (refine' ⟨?a, ⟨_, L2.K1 ?l ?c⟩, ?k, ?i⟩; (case a => k_is); (case l => k_is); (case c => k_is); (case k => k_is); (case i => k_is)))
local macro_rules | `(tactic| walk_at "k_dt") => `(tactic| (refine' My.S4 ?l; (case l => k_is)))
local macro_rules | `(tactic| walk_at "k_ck") => `(tactic| (refine' ⟨?a, ?b, ?c, ?d, ?e, ?f, ?g⟩; (case a => k_is); (case b => k_is); (case c => k_is); (case d => k_is); (case e => k_is); (case f => k_is); (case g => k_is)))
set_option maxRecDepth 100000 in
set_option maxHeartbeats 0 in
theorem PySem.Challenge.cw_wakefew_k56_moved_and_put_off_holds : PySem.Challenge.rw_wakefew_k56_moved_and_put_off.Holds := by
 refine Hd ?_
 k_fill
 refine L2.QC (l := PySem.Challenge.rw_wakefew_k56_moved_and_put_off) (n := 63) (k := 30) (x := "_law_script") (CX := L2.eS) (sp := My.Ov) rfl (by decide) rfl ⟨rfl, by decide, by decide⟩ (fun w h Y => PySem.W.kIn_of Y) ?F ?S ?C
 case F =>
  intro w mg fa h KX G ZW
  have T : ∃ a : My.Ad, a.wW = a.wW /\ My.Txt (L2.KOf KX) mg a := by
   dsimp only [L2.KOf]
   refine' My.Xn KX G ?h0 ?h1 ?h2 ?h3 ?h4 ?h5 ?h6 ?h7 ?h10 ?h11 ?h12 ?h13 ?h14 ?h15 ?h16 ?h17 ?h18 ?h19 ?h20 ?h21 ?h22 ?h23 ?h24 ?h25 ?h26 ?h27 ?h28 ?h29 ?h30 ?h31 ?h32 ?h33 ?h34 ?h35 ?h36 ?h37 ?h38 ?h39 ?h40 ?h41 ?h42 ?h43 ?h44 ?h45 ?h46 ?h47 ?h48 ?h49 ?h50 ?h51 ?h52 ?h53 ?h54 ?h56 ?h57 ?h58 ?h59 ?h60 ?h61 ?h62 ?h63 ?h64 ?h65 ?h67 ?h68 ?h69 ?h70 ?h71 ?h72 ?h73 ?h74 ?h75 ?h76 ?h77 ?h78 ?h79 ?h80 ?h81 ?h82 ?h83 ?h84 ?h85 ?h86 ?h87 ?h88 ?h89 ?h90 ?h91 ?h92 ?h93 ?h94 ?h95 ?h96 ?h100 ?h101 ?h102 ?h103 ?h104 ?h105 ?h106 ?h107 ?h108 ?h109 ?h110 ?h111 ?h115 ?h116 ?h117 ?h118 ?h119 ?h120 ?h121 ?h122 ?h123 ?h124 ?h125 ?h126 ?h127 ?h128 ?h129 ?h130 ?h131 ?h132 ?h133 ?h134 ?h135 ?h139 ?h140 ?h141 ?h142 ?h143 ?h144 ?h145 ?h146 ?h147 ?h148 ?h149 ?h150 ?h151 ?h152 ?h156 ?h157 ?h158 ?h159 ?h160 ?h161 ?h162 ?h163 ?h164 ?h165 ?h166 ?h167 ?h168 ?h169 ?h170 ?h171 ?h172
   (case h0 => k_is)
   (case h1 => k_is)
   (case h2 => k_is)
   (case h3 => k_is)
   (case h4 => k_is)
   (case h5 => k_is)
   (case h6 => k_is)
   (case h7 => k_is)
   (case h10 => walk_at "k_dm")
   (case h11 => walk_at "k_dm")
   (case h12 => walk_at "k_dm")
   (case h13 => walk_at "k_dm")
   (case h14 => walk_at "k_dm")
   (case h15 => walk_at "k_dm")
   (case h16 => walk_at "k_dm")
   (case h17 => walk_at "k_dm")
   (case h18 => walk_at "k_dm")
   (case h19 => walk_at "k_dm")
   (case h20 => walk_at "k_dm")
   (case h21 => walk_at "k_dt")
   (case h22 => walk_at "k_dm")
   (case h23 => walk_at "k_dm")
   (case h24 => walk_at "k_dm")
   (case h25 => walk_at "k_dm")
   (case h26 => walk_at "k_dm")
   (case h27 => walk_at "k_dm")
   (case h28 => walk_at "k_dm")
   (case h29 => walk_at "k_dm")
   (case h30 => walk_at "k_dm")
   (case h31 => walk_at "k_dg")
   (case h32 => walk_at "k_dm")
   (case h33 => walk_at "k_dm")
   (case h34 => walk_at "k_dm")
   (case h35 => walk_at "k_dm")
   (case h36 => walk_at "k_dm")
   (case h37 => walk_at "k_dm")
   (case h38 => walk_at "k_dm")
   (case h39 => walk_at "k_dm")
   (case h40 => walk_at "k_dm")
   (case h41 => walk_at "k_dm")
   (case h42 => walk_at "k_dm")
   (case h43 => walk_at "k_dm")
   (case h44 => walk_at "k_dm")
   (case h45 => walk_at "k_dm")
   (case h46 => walk_at "k_dt")
   (case h47 => walk_at "k_dm")
   (case h48 => walk_at "k_dt")
   (case h49 => walk_at "k_dm")
   (case h50 => walk_at "k_dm")
   (case h51 => walk_at "k_dm")
   (case h52 => walk_at "k_dm")
   (case h53 => walk_at "k_dt")
   (case h54 => walk_at "k_dm")
   (case h56 => walk_at "k_dm")
   (case h57 => walk_at "k_dm")
   (case h58 => walk_at "k_dg")
   (case h59 => walk_at "k_dg")
   (case h60 => walk_at "k_dm")
   (case h61 => walk_at "k_dm")
   (case h62 => walk_at "k_dm")
   (case h63 => walk_at "k_dt")
   (case h64 => walk_at "k_dm")
   (case h65 => walk_at "k_dm")
   (case h67 => walk_at "k_dm")
   (case h68 => walk_at "k_dm")
   (case h69 => walk_at "k_dg")
   (case h70 => walk_at "k_dg")
   (case h71 => walk_at "k_dg")
   (case h72 => walk_at "k_dg")
   (case h73 => walk_at "k_dg")
   (case h74 => walk_at "k_dg")
   (case h75 => walk_at "k_dg")
   (case h76 => walk_at "k_dg")
   (case h77 => walk_at "k_dg")
   (case h78 => walk_at "k_dg")
   (case h79 => walk_at "k_dg")
   (case h80 => walk_at "k_ck")
   (case h81 => k_is)
   (case h82 => k_is)
   (case h83 => k_is)
   (case h84 => k_is)
   (case h85 => k_is)
   (case h86 => k_is)
   (case h87 => k_is)
   (case h88 => k_is)
   (case h89 => k_is)
   (case h90 => k_is)
   (case h91 => k_is)
   (case h92 => walk_at "k_ck")
   (case h93 => k_is)
   (case h94 => k_is)
   (case h95 => k_is)
   (case h96 => k_is)
   (case h100 => walk_at "k_ck")
   (case h101 => k_is)
   (case h102 => k_is)
   (case h103 => k_is)
   (case h104 => k_is)
   (case h105 => k_is)
   (case h106 => k_is)
   (case h107 => k_is)
   (case h108 => k_is)
   (case h109 => k_is)
   (case h110 => k_is)
   (case h111 => k_is)
   (case h115 => walk_at "k_ck")
   (case h116 => k_is)
   (case h117 => k_is)
   (case h118 => k_is)
   (case h119 => k_is)
   (case h120 => k_is)
   (case h121 => k_is)
   (case h122 => k_is)
   (case h123 => k_is)
   (case h124 => k_is)
   (case h125 => k_is)
   (case h126 => k_is)
   (case h127 => k_is)
   (case h128 => k_is)
   (case h129 => k_is)
   (case h130 => k_is)
   (case h131 => k_is)
   (case h132 => k_is)
   (case h133 => k_is)
   (case h134 => k_is)
   (case h135 => k_is)
   (case h139 => walk_at "k_ck")
   (case h140 => k_is)
   (case h141 => k_is)
   (case h142 => k_is)
   (case h143 => k_is)
   (case h144 => k_is)
   (case h145 => k_is)
   (case h146 => k_is)
   (case h147 => decide)
   (case h148 => decide)
   (case h149 => decide)
   (case h150 => decide)
   (case h151 => decide)
   (case h152 => decide)
   (case h156 => k_is)
   (case h157 => k_is)
   (case h158 => k_is)
   (case h159 => k_is)
   (case h160 => k_is)
   (case h161 => k_is)
   (case h162 => k_is)
   (case h163 => k_is)
   (case h164 => k_is)
   (case h165 => k_is)
   (case h166 => k_is)
   (case h167 => k_is)
   (case h168 => k_is)
   (case h169 => k_is)
   (case h170 => k_is)
   (case h171 => k_is)
   (case h172 => k_is)
  obtain ⟨a, _, T⟩ := T
  have e0 := ZW.symm.trans T.QA
  cases e0
  exact ⟨a.Hw, fun s u => My.MV T s u, fun base kb nb => (My.XJ T).mono (by decide)⟩
 case S => exact fun K H l ns hl hO hS => ⟨l, ns, rfl, hS, hl, fun _ => rfl⟩
 case C => exact fun H s e s' h => h
