import PyProof.Rows.All
import KE.OsGo
import Open.SpecLaws
import Wide.All
import OpenK.AllK
import Wide.FinOn
import PyProof.EqAt
import PyProof.EqKinds
import PyProof.TupleCall
import KE.BitLaws
import KE.KLam
import KE.KNestM
import PySem.Challenge.RW_squaresteps_s01_answers
import PySw27
import PyFlatLaws
import KE.KDictList
import Sw27Spec
set_option Elab.async false
set_option linter.all false
set_option maxRecDepth 100000
set_option maxHeartbeats 0
namespace L0
open Lean Parser Term
abbrev Tb:=Data.Trie (List String)
def tab:="f8 AX M $
f4 some # $
g3 AX V $
ga # _ $ _ $
io # a $ b $
im # !lia $
hm # none =
kw jp # M : $
ln I # ⟨2
sw # ?_ $ ?_ $
lf # b $ c $
re # c $ d $
s5 AX β $
lv # @2 @1
mt # a $ c $
rc μ Ξ # $ $
s4 # !simp $
pr # gl =
py # e $ f $
on # f $ g $
sB it # $
sK # b $ a $
v6 JK St $
ut FQ V $
wr AX ge $
t3 # h $ i $
wn # ?_ ⟨2
jp # U :
wp .ref # $
wT .D .D # $ $
ol ε # $ ο $
up # i $ j $
s3 # d $ e $
v4 # b $ d $
xL BG Ě # $ $
At AX U $
AA # c $ a $
AC .ref a $
AU AX f8 $
tz # σ $ H $
AD AB # M : $
AE # l $ m $
AV xz # $
ww # g $ h $
AH # c $ e $
BA asN RJ $
BC _ QW <
AM # a $ e $
AI # k $ l $
AF # !z $
AS # j $ k $
wE # a $ d $
AY ga # $ _ $
BO AX β pi × $
AQ .Ý # $
zn # b $ e $
BV are M $
wS # @2 @2
BJ f4 AD # $ $
BF # o $ p $
CJ AX ï $
BB a # ∈
CY ò _ $
CZ Ν.Q WJ $
BG f4 AQ # $ $
AW # b $ 0 $
BR ι # $ @q
Do ï WA ->
AB .int # $
AT f4 wp # $ $
CM _ # ⟨2
AZ .ref b $
DI # b $ @ok
DJ .ref x $
AN # a.ó $
AJ # vs $ H $
CD # !decide $
BD c 1 +
BP b 1 +
CF # e $ c $
DR # d $ g $
DV Ch Hp $
BQ # n $ o $
CK FL kw # $ $
DA # b $ f $
DK ω # $ @trans
BN bI K $
BH d # ∈
DB # d $ c $
Ev # c $ b $
EA ga # $ Z =
AR # a $ f $
BK .ref d $
BZ ii # $
EE io # $ c $
DF # f $ i $
DL # g $ i $
EI # a $ @ok
Ch # Prop ->
DP hf # $
CG .ref l $
BW # q $ r $
Da z @1
ES asN ï $
ET YX ZE $
DC a 1 +
DX # c $ j $
EF # a $ l $
EJ CM I $
CO .ref c $
EK # d $ a $
FL V.int # $
AK Η _ $
DS # d $ f $
DG # _ $ z $
EY ga ga # $ $
DY Ε # ?_ $ $
ER η # Õ $ $
FF # m $ n $
Gc lf am7 $
Go sK ú $
BI ς _ $
DD jp a $
DZ # x $ y $
FV # a $ h $
GL AX Expr $
GM JK nm $
GN RX β $
DQ # s $ t $
EB # t $ u $
EG e # ∈
FM # c $ h $
FT À 2 $
GW JK g3 $
GX À 3 $
DM kt # $
EL # a.K $
DH .Ŀ C $
FG # e $ h $
EU on # $ h $
FH # p $ q $
FN Ψ 3 $
FW # x $ H $
EM b @1
GE # this $
GO Ο _ $
HL μ # Õ $ $
HM FL # M : $
HN ê Œ # $ $
BL # units $
Db b c $
EV b e $
EZ c @1
GF Å # 1 + $
GP # f $ h $
CU # c $ 0 $
EN .ref e $
FU .ref g $
GY # v $ x $
HD # H $ Q $
HP # A $ B $
HR tz # D $ $
IH s3 # $ f $
II .au \"list\" $
GG # V.ref $
FX ι # $ @filter
EH .ref f $
Fk b d $
HX # r $ s $
GT # QW ≤
GZ # e $ g $
HS .str # $
IU hf z $
IV im hf $
IW μ Ł # $ $
IX V RO ->
IY Ψ 4 $
FI # e $ 0 $
FO # 0 $ @o
FE # b $ Z =
GH # h $ j $
FY a a *
GU 2 b ^
HY Ě l $
IJ Ψ 2 $
JN .int n $
JO im ii $
JP wp x.b $
JQ M nm ->
JR č # $ aJ $
EC PE a $
FJ ú X $
GQ .D I $
FK a.n a.n *
GV # l $ a $
GI jp b $
IK # D $ G $
IZ # a $ @length
KA # Prop ->
KB up # $ k $
KC ii I $
KD 2 62 ^
KE BG GG # $ $
KF are f8 $
KG Ī ņ # $ $
KH EC # h $ $
KI a.K K =
KJ ì _ $ I $
HF # a $ 0 $
FP # ï :
FA # X.ó $
HI # wv $
KS f4 .c9 # $ $
ID b6 I $
IO # e $ i $
JG re io # $ $
KZ OA AB # $ $
LA V V VT VK $ -> ->
FQ he # $
HA # gl $
JS # I $ I $
GR tz # $ Q $
HU c d $
IE M M ×
IF # b $ @P a $
IP # a $ i $
JA # I ⟨2
JV # f $ e $
LU ii z $
LV .D ZN $
LW wp x.h $
LX ψ.J # @1 $
EW Μ H $
GJ .aY # $
GA DE # ::
KU .cons # $
IQ # v $ c $
JW s4 # a $ $
KK Í bz $
KW À 1 $
MT ă _ $
MU ν.J z $
MV .X z $
MW s3 EE # $ $
BS Ï 100 $
BT # V.int $
FB jp h $
HZ # σ $ n $
HV # h $ 0 $
LM EX # $
JX f4 # fs $ $
IR # _ $ HJ $
KL # f $ c $
LN # I $ ?_ $
LY b c ::
NO Μ.new # $
NP AX Aw $
NQ f4 MH # $ $
NR jp # @length $
NS gl Z =
NT a.gM Z =
NU Ε ?_ $
NV a.n 9 ≤
NW v4 WG $
NX DM # $ à $
GB UO c # :: $
LO HO.Ý # $
MH AB kw # $ $
JB n n *
JH # a $ @q
LB # b $ l $
KM .int a $
LC ga G $
LD h.n h.n *
NY AN Ù # $ $
MI # @length 9 ≤
MJ M v6 ->
MK Ľ # b $ $
OQ .int _ $
OR .int d $
OS η agB # $ $
OT AW l.getD $
OU pr sB # $ $
OV asN ō $
OW lf wE ú $ o $ $
HJ Μ.refl _ $
JC a b $
HG 2 c ^
IS EW a $ # ->
LF Μ d $
LP io # $ d $
LR # b $ i $
LZ .int b $
MA DP # \\z $
ML ga O $
NH η # Φ $ $
PN DQ # $ u $
NZ # @o a $ Z =
PZ l.length # =
P3 ?_ # ⟨2
QA .int f $
QB ga x $
QC hm mg # $ $
QD FQ K7 $
QE JU 49 $
QF # @length Ζ <
QG # @length 1 =
QH 2 a.n ≤
JY # H $ a $
Id # 1000 <
IG d 1 +
NI # d $ b $
KN AI up # $ $
KO q.n q.n *
LG ga B $
LH e 1 +
LS .bH _ $
LT ga H $
OX .X .X # $ $
MB # j $ c $
MC kw # 1 + $
MM b g $
MX ga e $
OG À 4 $
OY # r0 $ s0 $
OZ a9 a $ .aq # $ $
QY j # ⟨2
QZ p # ⟨2
Re c !
Rs .str _ $
RA ga ė.refl $
RB AR PE $ m $
RC lf AJ # $ $
RD FQ β $
RE AN rw f $ $
RF GC FC $
RG NI aE $
RH JC f4 # $ =
RI DM # $ Ś _ $ $
AX List # $
DW .Ŀ # $
RJ AX ō $
RO g3 VT VK $ ->
IL # y $ A $
JZ bu a $
JD a c $
JI ga f $
JT # H $ b $
MD ga L $
MY a d $
MZ ga s $
No # h $ m $
NJ a b =
NK DW CN $
On .int c $
Pi jp ĳ $ # ∣
Ps .X I $
PD AB jp # $ $
PP # 1000000 ≤
PQ s3 # a $ $
PR FI # @getD $
QI ga J $
QJ on # d $ $
RZ # l.length $
Sc ii d $
SA .int e $
SC im Á $
SD s3 AJ # $ $
SE AW j.ζ.getD $
SF M f8 ×
SG CU a.getD $
SH HF # @getD $
SI JU 108 $
SJ i.n i.n *
NL # y $ B $
IM # d $ 0 $
KP 2 a ^
QK bu b $
MN Ľ # a $ $
Op im im # $ $
NA ė # $ d $
NM .int i $
Os 2 e ^
OH .ref i $
PF d # $ c $
SW Ix mO $ L $ S $ iX L $ S $ # -> ->
QL 2 63 ^
RK # I $ \\z
Ty ?_ \\j
TB hf d $
TC χ.J d $
TD ga C0 $
TF io AJ # $ $
TH wp z.a $
TK Í ht $ Φ $
TM asN κ $
TN AT h.h $
TQ H x $ f4 # $ =
TR Ķ f1 @2 $ y1 $ m $
JJ .bi _ $
OI BL # a $ $
NB .ref h $
NC ga m $
ND Ô cY $
PH bD cm $
QM hm # i $ $
QT .ref S $
RP ?_ \\z
RQ õ # 0 $ $
SK a b &&&
UT SZ GQ $ n $
UU io ai $
UV re AJ # $ $
UW CU b.getD $
UX KU # $ .nil $
UY AX f8 f8 × $
UZ amu QK $
VA ı bf pw # $ $ $
VB EC y $ m $
VC py FJ c $ $ d $ # ->
FR # c $ Z =
OA f4 # a $ $
FZ # !_z $
GK ga g $
JE ċ # b $ $
QU has e $
QN # g $ f $
PU 2 k ^
SL BF # $ q $
SM ŀ JF $
SN # M0 $ Q0 $
SX g !
SY wp C $
TU # x.ü ∉
TV kw 2 # ^ $
TW AI # j $ $
TX Dg è $ Ĉ $ ĉ $ a_ $
WM # @q ą $ @sum
WN units a $
WO jp l.length $
WP ď PW.pt # $ $
WQ a l.length <
WR H a $ xL # $ =
WS Ė # ! $
WT AX d f8 × $
WU hm H D $ $ # ->
WV d d 1 - &&&
WW ρ # $ H $ @symm
WX PE b $ # n $ $
WY ď ZS BU $ aqg # $ $ $
Ix # H $ x $
HB ş K $ # $
HK f4 g $
NE # σ $ Q $
NF .dK # $
XP !lia # ⟨2
QO zs l $
OB mv i $
OC h h *
OJ pw 6 $
OK pv 3 $
PL ga D $
WZ AW a.ζ.getD $
RL # a.length $
RR .D z $
RS ĺ ο $
RT Í dB $
SO HA .bl $
TY mt # $ d $
UI hm # g $ $
UJ KS # kV $ $
VD # c.v.R.L $
VE # RM $ \\z
VF .int g $
VG BG BT # @q $ $
VH .bl sB # $ $
XY io # $ @length
XZ ?_ \\b
YA z \\_,_,z
YB T0 # $ \\U0
YC f4 .ref p $ $
YD HF b.getD $
YE HF l.getD $
YF AH EP X $ $
YG # @length Ζ ≤
YH BS dF r $ $
YI e.units.getD g $ 0 $
YJ FS ge $
YK Ĺ z $ A $
YL ď d6 dm # $ $ $
YM FI d.ζ.getD $ õ Û h $ $ Û f $ $ &&&
YN # r0 $ f4 s0 $ =
YO c6 a $ OI nX $ $
YP x.getD w0 $ 0 $
JK # DV ->
DE f4 v $
IA # P $ w $
JL # ō :
GC Í Ĕ $
IB ga d $
IT # q $ L $
OL JL È # $ $
LI ċ # a $ $
SQ V.ref # $
ZM L.n L.n *
MO some f $
MP ga t $
OM Ő h $
NN ga k $
ZN XP !lia $
OD É ga Ω $ $
PV f4 # e $ $
PX .ref j $
QP ga u $
UK s3 # b $ $
XA FX a.n $ # \\s $
YQ BL bc i $ $
TZ # j $ l $ h $ o $ m $
UL ga y $
UM v .Ť =
VI kt z $
VY .ref s $
VZ 2 100 ^
Wp HF li.getD $
ZO # @length _ ≤
XB # a.length =
XC f4 LO # $ $
XD V.int 0 $
XE FA Ù # $ $
XF BT QO @q $
XG NL ū $ J $ I0 $
aaq l.findSome? # $
abe d !
abj i !
abk n !
abl OF d $
abm ii f $
abn f4 .ref D $ $
abR hf o $
ab4 ih q $ H $ z $
acl YQ @take O $
act ln # \\o,p,q,r,s,t,u $
acv AW c.getD $
acV AW f.getD $
adc HF b.ζ.getD $
adm AF đ # $ b $ $
ado .au \"tuple\" $
adr ER # rc jv $ $ $
adC zs GV bh $ $
adP η # $ rc ŝ $ $
adS LL nm $
adT s.getD z0 $ 0 $
adU H b $ OA .Ý $ =
adV a.A.units 1 + mZ <
adX qR Ĳ l $ $
adY i.getD y $ 0 $
adZ m.cells.E y $ HE =
ad_ Ŭ d $ õ Û h $ $ Û f $ $ $ VL $
aee im pD # 1 + $ $
aeE lf a $ # \\d,e $ \\b,c,R
aeF re a $ # \\f,g $ \\c,d,e
HE some c $
WA FQ ge $
RM z !
NG ga N $
ON # N $ t $
WB S.Ă b $
VJ Ix bg $ B $ # ->
QV kt I $
VL d.Ă Û f $ $
SR I \\_
SS Ì ?_ $
Uf CD Č $
UA # ta $ tb $
UN # f $ Z =
VM AX FQ pi $ $
VN ga b $
VO OL jp # $ $
WC BG # @q F $ $
XH Ķ li $
XQ AX # ge × $
XR Ø AG $
YR fI # $ \\_,_,_,_,_
YS BS S.ĵ $
YT LM ą $
YU aM a $ v $
ah8 Sq.kCH # ⟨2
aie q \\_,_,q
aig f4 .ref k $ $
aii CU li.getD $
aio HF f.getD $
air .au \"range\" $
aiy b l.length <
aiH li.getD k $ 0 $
aiK NL bM $ J $ I0 $
aiR n.getD H $ 0 $
aiT # @length l.length =
aiX QU HX b $ $ q 1 + $
ajI AN rw b $ $
aj5 mN H $ x.La $
akH fy us $ tw $
akI alS # JC $ \\b $
akJ j.ζ.getD A $ 0 $ z &&&
akK EL di $ fd $ J $ A $
akL η # $ rc BU $ $
akM oj CX $ a $ E $
akN ø w0 $ b0 $ AQ # $ $
UO a b # :: ::
MQ IA # $ K $ mg $
MR Ø JF $
WD ĺ ol # $ $
OE f4 h $
UP ga h $
ZP # u0 $ v0 $
WE AW S.ζ.getD $
WF Í eY $
YV uF st $
YW cB xC $ Cl $
ZQ Ê # $ @length
ZR k n.ü ::
aeG m !
aeH .ref q $
ae3 AW a.getD $
afb ER # rc ŝ $ $ $
afs # N $ f4 t $ =
afF WZ dP &&&
anc # !lia ⟨2
and j !
anf ?_ \\e,f,g
anh ga bV.refl $
ank ln # \\A,B,D,G,H,J,L $
anl c OP f g h i j k # :: :: :: :: :: :: $ ::
ann Ε # L \\_,_,L $ $
anp FA rw o $ $
ans Id fs.length $
anB rw p $ b.ó $
anT CU S.ζ.getD $ a &&&
anX VJ VS Wf $ # -> $
aof V.str ć GF # $ $ $
aoj Ć c $ NL vK $ J $ c $ $
aow H b $ OA .dK $ =
aoN ç.Q Ŋ.Q ?_ $ $
aoT f4 .int j $ $
ao2 DX ū $ D $ t $
ao3 .list a.q .int $ $
ao4 VR qP $ b $ y $
ape c.v.push a4 $
apk Tp u $ σ $ R $
aps lf a $ # \\e,f $ \\b,c,d
apt mu h $ mu d $ <
apu AX RJ β ge × × $
apv ga ga û $ # $ $ s $
apw AY EY ud $ $ I $
apx AN rw y $ $
apV B.ĵ 0 ≠ ahf B.ĵ = # -> ->
apW H.q g # ++ \\g $
apX f3 SQ g.t $ \\g $ c # ++ $
apY NY Tk $ # AN Ù G $ $ :: =
apZ c.length 70 mu e $ * + 70 mu b $ * ≤
ap0 tz # $ tz D.nx $ ->
ap1 qQ La $ p $ w $ s $ o $ c $ @E FP # $ $
ap2 i.ù o $ j0 $ 2 A ^ $
ap3 ø d $ un $ LO Ě r $ $ $
ap4 Ve .aq id $ $ DT .au \"method_descriptor\" $ $ =
ap5 MQ fU $ a $ yS $
ap6 Tq ts $ us $ D $ σ $
ap7 # gC st $ $ ef st $ $ ê st $ $ .none $ kV $
YX ge # ->
JM pw 5 $
HH some e $
UQ # j $ o $
ME hm # l $ $
LJ some d $
LK pv 2 $
ZS Ô bO $
OO # X.xe $
RU # a $ @P b $
RV 2 ZM ^
ZT ε Cl $
VP ga q $
VQ ε AG $
ZU rc WD aqg # $ $ $
YY f4 f4 # $ $
YZ DW CQ $
ZA # _ $ q1 $
ZV ga r0 $
af7 c.v.R.L 1 +
agc Cc AB # $ \\b,c $
agr l.n l.n *
aqN m.getD L $ 0 $
ahc MQ zM $ a $
ahe aO q $ h $
aqQ õ Ų a.ζ $ $ ź a.ζ $ $
akO CU l.getD $
akP GE υ.J $
akQ ď ZS # $ Φ $ $
akR S.ζ.getD f $ 0 $
ark # AX m3 $ : @length
arm !simp # ⟨2
arr # 2305843009213693951 %
arD b !
arE e !
arF p !
arG x !
arJ B !
arK # c $ a.b2 e $ $ \\c,e
arL # m $ BI j $ $ \\m,j
arN ln # \\n,o,p,q,r,s,t $
arP AW a.cells.getD $
arQ H b $ JX DH a $ $ =
arR b.q ć $ @q V.str $
arU q.cells.getD j $ 0 $
arY J.ù j $ v1 $ 2 G ^ $
arZ CD DS # $ $ g.symm $
ar0 l.getD k.getD G $ 0 $ $ 0 $
ar1 ń uW $ JZ @list $ ÿ $
ar2 n z.symm $ \\z
ar3 Loc a.ó.aP $ i $
ar4 DP z w @1 $ \\w $
ar5 t.any auk QU HX b $ $ q $ $ $
ar6 a b c d e # -> -> -> -> ->
ar7 a.ζ.filter # \\k $
ar8 FG has $ p 1 + $
ar9 CA \\_ CA \\_ ⟨2
ar_ up sK Fc $ $ m $
asa p.eM .aq \"type.__call__\" $ # $ $
asb qQ h.La $ h.p $ h.w $ h.s $ # $ h.c $
asc r t ∈ r a.n < ->
asg a.fn i $ Z = a.ó.aP.al.E i $ akZ = ∨
asj yW L $ u $ d $ @E FP # $ $
ask Q _ $ H $ \\_,H,Q
asl a5 a $ v4 fu $ c $ $
asm AA qc $ e.v.R.L $ h $ d $
asn ER ď # ŝ $ $ ZU iG $ $ $
asp S.ζ.getD aqN $ 0 $ k &&&
asq ZO wS # qb U ep × × : $ $
asr Ř b $ aqQ $ a $ b.n $
ass HO.Ŀ CC $ h $ aM \"board\" $ SQ i.b $ $ aM \"search\" $ V.ref S $ $ # $ $ $
ast ly r $ c8 u $ # $ I $ $ ?_ \\H,J,L $
VR # j $ w $
akS # X.prog $ X.w $
OP d e # :: ::
agB ŀ FD $
VS # L $ B $
ZB vM K $
ahf Ų B.ζ $
amu Ļ mh $ # @len $ Ď $
XI # a0 $ b0 $
XS f4 l $
XT dZ l $
ZC some b $
ZD hm H b $ $
ZW FO # d $ $
agE CU f.getD $
agH Ŭ S $ õ # $ b $ $ WB $
ahg H a $ BG # $ =
ahh un S.ĵ &&&
asT l.filter # $ @length
akT f4 NF # $ $
akU # ć $ @q V.str $
akV nO S $ c $ BS o $ $
amB i.cells.set m $ 0 $
amC qP u $ s $
amD pr c Ŧ == $
amH b.n b.n *
ap9 DN \\_,_
ap_ Ě j.units $
aqa AN rw # $ $
aqb Ù # $ b.ó $
aqc ų B $ o $
aqd UK FJ $ c $ # ->
aqe # fH $ fH $ Φ $
aqf a.Cw J0 $ d1 $ A $ a1 $ c $
as2 a !
as3 l !
as4 r !
as5 k !
as6 s !
as7 ?_ \\O,J,s,h0,i0,f
as8 Í oi $ # $ aqg qA $ $ \\_,_,_,_,_
as9 ZH.Q c $
as_ ln # \\B,D,G,H,J,L,N $
ata ln # \\m,n,o,p,q,r,s $
atb ln # \\s,t,u,x,y,A,B $
atc ln # \\x,y,A,B,D,G,H $
atd ln # \\r,s,t,u,x,y,z $
ate ln # \\q,r,s,t,u,x,y $
atf rc # BU \\_,_,_,_,_ $ $
atg DP # ! $
ath BZ # ! $
ati õ CU S.ζ.getD $ b &&& $ a $
atj DF mt aur # $ b.base $ y $ $ $
atk asw fU $ CX $ n $ e $ fd $ J $ sp $
atl # L.n $ S $ L.units $ ι L.units.length $ $
atm X.ó.cells.E a $ HE =
atn NL eN S $ $ c $ ι o.n $ $
ato e b $ f4 .jt c $ .dK a $ $ $ = # ∧ \\d,e
atp AV c @2 \\c # \\c ⟨2 $
atq JY cN z $ $ lf ih q $ a $ z $ $ # -> ->
atr ME b $ c CG $ LB ø $ # $ $ ->
ats fA n $ F.Ú $ o.take j $ $ p $
att p.take e $ @ah Sh.hh $ asu o $ $
atu HI iz S $ e.units $ $ ι e.units.length $ $
atv tz Lu # ta $ $ e $ l $ b $ m $ $ p $
atw pL O $ nM O.n $ cE O $ $ $
atx GG B.q $ GG c.q $ ++
aty x ch ∉ c.v.ad x $ f4 D $ = # -> ->
atz a 0 ≠ a a 1 - &&& 0 = ∧
atA lf has $ e $ \\e
atB S.ζ.getD D $ 0 $ auj &&&
atC # @q wS h $ d3 G $ c.ù y $ h @1 $ lv h $ $ $ * \\h $ @sum
atD a l $ BG # $ = g CG $ a $ ->
atE G.trans f $ @trans H $
atF HO.jt j $ .dT xX q $ x $ $ $
atG u.C3 x $ i.Ot m $ mu $ $
atH rc MN # $ g $ FD $ ol aqZ g $ AG $ $ $ $
atI ø i0 $ n0 $ .ü m0 $ $
atJ V FQ U $ FQ U $ VT VK $ -> -> ->
atK DW CB $ n0 $ qQ h.La $ H $ D $ y $ õ n.ĵ $ p $ $ h0 $ $
atL AV b @2 \\b # \\b ⟨2 $
atM AV a @2 \\a # \\a ⟨2 $
atN h0.take y0 $ @q # \\f1 $ h0.drop y0 $ ++
atO FR bL b $ aqY $ aqY f &&& $ @o $
atP VJ IT aE $ VS ú $ # -> -> $
atQ PN BW BF AE # W $ k $ S $ $ $ $ $
atR ω n A $ _ $ G $ # \\_,_,z $ $
atS p0 # o0 p :: \\p $ ++ @q zs $
atT n.q GF H $ \\H $
atU ė J p W r.q Tx.un $ :: :: :: $ L1 $
atV # gC h $ $ ef h $ $ ê h $ $ .none $ kV $
atW Ř L $ õ ahf $ ź B.ζ $ $ $ B $ L.n $
atX aB J0.v.R.L 1 + $ A.al $ bA a.ó.cells $ A.al $ # $ $
atY j.fT IK B $ ?_ \\J $ GO H $ $ \\D,G,H $
atZ ø ø d $ C $ HO.Ŀ CC $ h $ aM \"search\" $ V.ref S $ $ # $ $ $ $ C $
at0 yE # $ j.ok.hd b $ $ _ $ m $ x $ q.ac $
at1 i e $ f4 QN .jt $ $ = # py ø i $ $ $ ∧
at2 aO s $ h kz q $ # $ &&& $ @length wv ≤
at3 WH u $ LO f3 SQ w0.t $ \\w0 $ N $ # ++ $ $
at4 ń eJ I $ $ uP b $ @list $ ÿ $ ol # $ $
QW 2 24 ^
VT Hp Ch # $ ->
JU é Œ # $ $
KQ kM a $
aqg Ĩ I $ # a $ $
WG AR ú $ e $
SZ ga c $
Tk f G ::
RW f4 i $
UB some _ $
WH ø c $
UR lf ø $
US n 9 ≤
XJ lv b $
XU PA a $
ahi AW a.cells.set $
ahy kk.heap_1 w.bm $
ahz # g $ tt $ te $ vs $
akW io # c $ $
akX DW CH $
akY WK NE # $ $
asu Sh.gJ j $ S $
asw EL PY # $ $ a.mg $ a.base $
aqh f !
aqR FI li.getD $
aqU b.ζ.getD p $ 0 $ # &&&
asx mt Ř L $ dP $ $
asC DZ HZ # rs $ $ $
asD units.getD 0 $ 0 $
auj j.units.getD J $ 0 $
asE SW 2 L.n ≤ # -> $
asF ZP # $ D $ w0 $
asG Ľ # b $ 90 $ $
asH Du Lp $ Pl $ kd $
asI NL # $ S.ζ.getD n0 $ 0 $ $
asJ AN # $ HA DT $ =
Cl Ø FD $
CV pw 4 $
ED ĭ K $ mg $
PY # a.prog $ a.w $
GD Ğ K $
ZE Ch lm $
IC pv 1 $
KY Z \\_
Tl ε FD $
WI some a $
XL È i $
XV f4 x $
akZ f4 .be $
ZX D4 S $
agI hm H d $ $
agJ tz tr $
ahY # x $ D $ b0 $
amV hm H e $ $
amW BL # h $ $
aqi Ş e $ a $
aqj ĝ ga fm $ $
aqW sE g $ @cA
aqX hm H c $ $
auk XA # $ @an s $ \\r
asK B.ζ.length 9 ≤ # ->
asL digits a $ @filter
asM a.length b.length =
asU f5 n $ us $ cr $
asV m.some HJ $ x $ D $
asW ak zs c $ $
asX aG h $ AN Ù G $ $ $
aur # b.prog $ b.w $ b.K $ b.mg $
asY YX LL ge $ $
asZ S.ζ.getD A $ 0 $ S.Ú.getD A $ 0 $ |||
at5 IM a.ζ.getD $
at6 Ř L $ a $ B $
at7 N @2 O $ ģ # $ $ @trans
at8 dh F.Ú $ o $
at9 asT c O == \\c $
asN AX # V × $
FC pw 3 $
WJ I \\_,_
RX AX ï # × $
MS je K $
WK tz ta $
RY f4 k $
XW f4 .cell $
ZF FP \"__debug__\" $
ZY ε BU $
aqY FI a.ζ.getD $
ak0 gP K $ mg $
aqZ Ŵ b8 a $ $
ak3 lh I $ # @bG $
amY f4 .free $
aq3 ZB \"list\" $
asO CA \\_,_
as0 Ix sW $ st $
aul cj a $ cr $ d $
aum av ga bB $ $
aus a b c d # -> -> -> ->
aut cI i.n $ k $ @length
auu L.units.length 3 L.n * 2 + ≤
auv ċ CD # $ $ s $ ε JF $ ol Φ $ $ $
auw dM HE $ y $ B c $ $
FD pw 0 $
AG pw 1 $
BU pw 2 $
JF pv 0 $
are AX M # × $
EO ?_ \\c,d,e,f,g
am7 wE ú $ σ $
QQ ol Cl $
QX û akS þ $ $ X.A $
Tm aa \\_,_,_,_,_
VU PS a $
VW s4 UQ Ż $ $
WL û PY þ $ $ a.A $
XM ol BU $
XX ol FC $
ZG ı az $
ZZ ol FD $
agK # Q $ H $
ag6 x7 n $ u $ g $ L $ S $
ag7 JY BN $
ahZ tz te $
ah5 pL a $ cr $
ak4 Ĳ l $ @getD
ak5 # d $ \\_,_,_,_,_,_,_,d
ak6 f4 j $
ak7 f4 o $
ak8 Ş σ $ m $
alt a8 I $ # @range $
am8 DW CR $ c $
am9 û VR þ $ $ p $
aqk ?_ \\b,d,e,f,g
aql ol JF $
aqm ol JM $
aqp Ρ \"<lambda>\" $
arj Iz n $ u $ d $ o $ g $ p $ s $
asP hu qQ La $ p $ w $ s $ o $ c $ $
asQ g6.of HJ $ @m8
asR chF S $ b $ ks $ ch $ sh $
as1 Ù B $ b.ó $
at_ û PY þ $ $ p $
aua ol pw 7 $ $
aub q.getD w0 $
auc Ī ņ Cl $ $
aud ZT ol AG $ $
aue C_ b $ A.v $ d $
aun ?_ \\b,c,d,e,f
auo s.wants.getD t $
aup Ī ņ AG $ $
auq JS md $ I $
aux ?_ \\b,c,e,f,g
auy j.wants.getD b $
auz j.wants.getD A $
auA ι a $ @filter
auB c.ù H $ p @1 $
auC η agB AG $ $
auD J5 VR þ $ $ p $ a $ R .d9 D $ $ G $ \\D,G $
auI GJ .ao m $ \"values\" $ h $ $
auJ bA X.ó.cells $ A.al $
auK f g $ f4 .dK h $ $ =
auL OM D $ GH ų $ A $ ++
auM rH s.aF $ ?_ \\u,v,st,x $
def Nm zs gF jj wy qY bh õ low Ï Û Lx C.hG C.wC Byt Nn C.Ok uF E8 ny nz ir mu J7 Vt Vu Rg bL ŏ.put ŏ.wI ŏ.aV dz ŏ.dE jk aW ŏ.ù Ř Ų ź Fwd Vw sub q6 f5 v3 nM bU Sh.Ă Sh.put Sh.okD Sh.dead Sh.hh Sh.gJ Sh.take nO bj dF Ŭ aO kz lnB dG cI hA eG hL jl ft gB yH hM gi hn eW dZ fS fu Ķ ho iv nQ qh mR ŏ.at fw ae2 Ő d3 ŏ.told Em ŕ Ĳ lO Fh qsL wR tf a5 oY Bn hq jm nX c6 Sm val Kz uI ind Ŝ lR bc fy Fn pM aQ Wa cX ŏ.Uw ai tn dh zk fA Tn.b4 ų fC lW lX hP iz vK ū bM fD eN lY w5 w6 kE kF hQ n3 tD zo o4 gq qm gL ri dA kH Bt aH cj uO amX bt Ŗ oc KV kV ø aL qP Rd Mut trk B3 B4 Vis Loc amZ EP TP AP SP PE PT PW PA PS Ld Le tC Gl PC tBl tB ah1 tOr ah2 ad1 tIf bI Lg am3 ad2 afc ad3 afd Wu afe PG PGs aff PIp fG afg Wv abS ah3 abT Gd ad4 ah4 Ww vL PIE PI Ob Gf zw zx Wx Sj Cb kM UnR a9 ah7 tOp tUn rI Cc rU afk abV l9 ah9 rEq rNe W6 Li W7 aM Ğ ab2 afo ab3 Cj am5 Lo Xe aia aib CE CR Oi zz zA di oj start Gj tCB J9 PO ab8 aif SlR tSl qw Gn Eo ab9 IxR Gp aih afu Ol afx iD eqV eqU inV rIn vM afz tBM MtM Cv acd aik afC ail aim Om Xl am_ ain ana bA Ş PTs Sv Lu dj ab aR mU Cz aip Xv Xw IsD aiq Its ang Itd Iti afL Ite G4 Itz ack G6 acn tM1 é gC ef ê Μ vO pE Ly pR SB aiu aiv G7 ĭ ş gP zM Lz MkC fsB ox mC aiz vP xA rL afT cxL C_ afV Œ yT PJ tJ0 tJ1 aiA aeb aec L6 afX hu afZ aed Yq af1 Yr Ys Yt acH Yu Yv af3 af4 acJ O7 Yy aiD hid af9 aiE aiF acL acM jz CB CL CS CT CW CC CQ CH CP CI CN CR P1 P2 tU P Fin e0 w mg K Ĭ Mf Mg agi Y9 aef aiP aeg O8 O9 Y_ fz uc kSm kOp agj kUn kT agk Tp kOr aiS Tq kIf O_ eNx aei aiY aiZ aej Mi ai0 Zb aek ai1 ael Zc aem Zd Mj Ze Zf kCB agl kBM agm aen Zg kHp Hi Ml ai6 ai7 ai8 ai9 ai_ acS ago agp kJ1 kC1 kC2 kC3 ajb ajc aje ajf ajg aji ajj ajk ajl kG1 kG2 kG pF Zh aeo aep aeq kWh Tr kLc Zj ajB ajC ajD aer Zl kM1 kM2 ajH aes agt ajL ajM Zn aeu Zo Dq Ě yW qQ ac2 Bx.ü ė agy ajW qR Du ak j_ jS gW xX vu aaj lx tuF D4 Tx.fp oN chF eZ gy Io x6 x7 sE mv cN Iw D8 qS Iz ć lnF spF bW I8 Ret yi Sf U5 g6 SqV yj e8 lps sc1 bd1 sc2 bd2 _root_.dO.C.no Kr Fr isL ck cv ckl cvl ckt cvt hk
, holes rcPat split punch andParts
gt !lia
mo !simp
wP !\"fn\"
BM !\"mt\"
DU !decide
KR !\"cg\"
QS !\"nb\"
UG !\"cl\"
UH !\"mk\"
XO !\"tx\"
I rfl
M Nat
U Int
Z true
β Addr
ge Value
gl false
he Option
hf if_neg
ii if_pos
it decide
kt absurd
li row
lm Shared
nm Bool
pi Obj
rw eval
wv size
xz propext
AL heap
AO kernel
BE decide_eq_true_eq
BX data
BY cls
CA trivial
DN False
DO toks
DT pure
EQ True
EX congrArg
FS Array
GS or_false
HC String
HW succ
IN beq_iff_eq
LL Sem
MF FuncData
MG not_or
OF DecidableEq
PM decide_eq_false
QR bne_iff_ne
RN first
ST choose
SU qual
SV Tok
UC kindOf
UD cont
UE ret
UF brk
VX clos
XN rule
ZH beq_eq_false_iff_ne
ZI decide_eq_true
ZJ within
ZK tws
ZL cdv
ag8 of_decide_eq_true
ag9 reduceIte
ag_ toString
ahb if_true
alK decide_eq_false_iff_not
amp names
aqI params
aqM scope
asS if_false
auf and_assoc
aug true_and
auh or_assoc
aui false_or
auE isGenerator
auF isCoroutine
auG decide_true
auH refine_2
auN of_decide_eq_false
auO slot_list_getitem
auP forall_eq_or_imp
auQ exists_eq_or_imp
auR decide_eq_decide
.o testBit
.q map
.v heap
.D inl
.E lookup
.J mp
.L size
.Q mpr
.R objs
.X inr
.ac toArray
.ad get?
.ae natCast_pow
.ah foldl
.aj toNat
.al names
.am natCast_mul
.an contains
.ao Attribute
.aq builtin
.ar Nodup
.au type
.aA natCast_add
.aB typeIs
.aD flatMap
.aF isList
.aG toks
.aN locals
.aP scope
.aU toList
.aY Call
.aZ slot_dict_valueiterator_next
.a0 toNat_natCast
.a1 resolve_left
.a2 isEmpty
.a3 natAbs_natCast
.a4 natAbs
.bb Pairwise
.be local
.bi head
.bm params
.bn function
.bq Subscript
.bv Name
.by isSome
.bF data_mapDictKeys
.bH tail
.bJ cand
.bK kindOf
.bP fields
.bQ flatten
.bS endLine
.bT data
.bX FunFrames
.bY region
.b0 dict
.b1 DictOfH
.b2 subset
.b3 IsCell
.b9 BoolOp
.b_ zero_add
.cd fdiv_eq_ediv_of_nonneg
.ce slot_dict_values
.cf args_dict_valueiterator_next_1
.cg log2
.ci eraseDups
.cr entry_dict_valueiterator_next
.cu ListComp
.cw Tuple
.cx DictOf
.cy findIdx?
.cz ofNat_inj
.cC dvd_trans
.cE dvd_mul_right
.cF IsValIter
.cG IsListIter
.cP natCast_emod
.cQ natCast_ediv
.cR intro
.cS find?
.cT toNat_of_nonneg
.cU sub_mul
.cV plainAttrs_dict
.cW mul_comm
.cZ isFreed_of_dict
.c0 bool
.c_ args
.da slot_dict_values_iter
.db mapDictKeys
.dc idxOf
.dd AugAssign
.de func
.dl sameBut
.do TypeIs
.dr Assign
.dt ediv_eq_zero_of_lt
.du args_dict_values_1
.dv add_mul_ediv_right
.dD slots
.dI entry_dict_values
.dJ ExactDict
.dL type_dict_values
.dM slot_list_extend
.dN one_mul
.dQ isGenerator
.dR isCoroutine
.dS handled
.dU atName
.dV Sublist
.dW Perm
.d0 FunctionDef
.d1 Compare
.d2 slot_dict_items
.d9 error
.eb Constant
.ej entry_list_pop
.el data_mapFields
.em update
.en slot_list_pop
.eo slot_int_rmul
.ep slot_dict_len
.er setIfInBounds
.es ret
.eu ofNat_sub
.ev mapOf
.ew length_le
.ey length_eq
.ez gens
.eA dvd_sub
.eB cps
.eC cons_cons
.eD dvd_mul_left
.eE repr
.eF builtins
.eK NameKind
.eL zipIdx
.eM under
.eP of_wp
.eQ natCast_inj
.eR isCodeTable
.eS emod_nonneg
.eT dictOf
.e1 mul_one
.e3 globals
.e9 dvd_add
.fb NoLimit
.fc Good
.fd draws
.fe NotIn
.ff qual
.fg only
.fh mapSeq"
def bd(l:List String):=(l.foldl .str .anonymous:Name)
def ap(f a:Syntax):Syntax:=if f.isOfKind ``app then f.setArg 1 (f[1].setArgs (f[1].getArgs.push a)) else mkNode ``app #[f,mkNullNode #[a]]
def fld(x:Syntax)(t:String):Syntax:=mkNode ``proj #[x,mkAtom ".",if t.front.isDigit then mkNode fieldIdxKind #[mkAtom t] else mkIdent (.mkSimple t)]
def byt(a:Array Syntax):Syntax:=mkNode ``byTactic #[mkAtom "by",mkNode ``Tactic.tacticSeq #[mkNode ``Tactic.tacticSeq1Indented #[mkNullNode a]]]
def tac(k:String)(a:Array Syntax):Syntax:=byt #[mkNode (`Lean.Parser.Tactic++.mkSimple k) (#[mkAtom k]++a)]
def stp(x:Syntax)(s:List Syntax)(t:String):List Syntax:=
 let d:=(t.drop 1).toString
 let c:=t.front
 let z:=mkNullNode
 let o:=mkNode ``Tactic.optConfig #[z]
 let n(k:Name)(a:Array Syntax):=(mkNode k a).raw
 if t=="#" then x::s else if t=="_" then n ``hole #[mkAtom t]::s else if t=="Prop" then n ``prop #[mkAtom t]::s else if isIdFirst c then mkIdent (bd (t.splitOn "."))::s
 else if c=='?' then n ``syntheticHole #[mkAtom "?",mkAtom "_"]::s
 else if c=='.' then n ``dotIdent #[mkAtom ".",mkIdent (bd (d.splitOn "."))]::s
 else if c=='"' then n strLitKind #[mkAtom t]::s
 else if c.isDigit then n numLitKind #[mkAtom t]::s
 else if c=='⟨' then let k:=d.toNat!;n ``anonymousCtor #[mkAtom "⟨",mkNullNode ((s.take k).reverse.intersperse (mkAtom ",")).toArray,mkAtom "⟩"]::s.drop k
 else if c=='!'&&d.length>0 then (if d.front=='"' then byt #[n `PyProof.Rows.tacticWalk_at_ #[mkAtom "walk_at",n strLitKind #[mkAtom d]]] else if d.length<3 then let y:=mkIdent `z;byt #[n ``Tactic.intro #[mkAtom "intro",mkNullNode (if d=="z" then #[y] else #[n ``hole #[mkAtom "_"],y])],mkAtom ";",n ``Tactic.cases #[mkAtom "cases",mkNullNode #[n ``Tactic.elimTarget #[z,y]],z,z]] else tac d (if d=="simp" then #[o,z,z,z,z] else #[o]))::s
 else match s with
 |b::r=>if t=="!" then tac "simpa" #[z,z,n ``Tactic.simpaArgsRest #[o,z,z,z,mkNullNode #[mkAtom "using",b]]]::r
  else if c=='@' then fld b d::r
  else if c=='\\' then n ``Term.fun #[mkAtom "fun",n ``basicFun #[mkNullNode ((d.splitOn ",").map λx=>if x=="_" then n ``hole #[mkAtom x] else mkIdent (.mkSimple x)).toArray,z,mkAtom "=>",b]]::r
  else match r with
  |a::r=>(if t=="$" then ap a b else if t==":" then n ``typeAscription #[n ``hygienicLParen #[mkAtom "(",n hygieneInfoKind #[mkIdent .anonymous]],a,mkAtom t,mkNullNode #[b],mkAtom ")"] else n (if t=="->" then ``arrow else .mkSimple ("term_"++t++"_")) #[a,mkAtom t,b])::r
  |_=>s
 |_=>s
def wd(m:Tb)(x s:Syntax):Option Syntax:=(m.find? (toString s.getId)).map λl=>(l.foldl (stp (if x.isOfKind ``paren then x[1] else x)) []).head!
def tl(m:Tb)(x:Name):String:=let s:=x.getString!;((m.find? ("."++s)).getD [s]).head!
def tls(m:Tb)(s:Syntax):Syntax:=mkIdentFrom s (bd (s.getId.components.map (tl m)))
def pat:Nat->Syntax->Syntax
|n+1,s=>mkNode ``Tactic.rcasesPatMed #[mkNullNode #[if s.isOfKind ``anonymousCtor then mkNode ``Tactic.rcasesPat.tuple #[s[0],mkNullNode (s[1].getArgs.map λx=>if x.isAtom then x else mkNode ``Tactic.rcasesPatLo #[pat n x,mkNullNode]),s[2]] else if s.isIdent then mkNode ``Tactic.rcasesPat.one #[s] else mkNode ``Tactic.rcasesPat.ignore #[s[0]]]]
|_,s=>s
def rp(m:Tb)(s:Syntax):Syntax:=
 if s.isIdent then if s.getId.hasMacroScopes then s else match s.getId.components with
  |h::t=>
   let t:=t.map (tl m)
   match m.find? h.getString! with
   |none=>if t.isEmpty then s else mkIdentFrom s (bd (h.getString!::t))
   |some l=>if l.contains "#" then s else let y:=(l.foldl (stp s) []).head!;if y.isIdent then mkIdentFrom s (bd ((y.getId.components.map (·.getString!))++t)) else t.foldl fld y
  |_=>s
 else if s.isOfKind ``dotIdent then s.setArg 1 (tls m s[1])
 else if s.isOfKind ``proj then (if s[2].isIdent then s.setArg 2 (tls m s[2]) else s)
 else if s.isOfKind ``app||s.isOfKind `«term_$__» then
  let l:=if s.isOfKind ``app then s[1].getArgs else #[s[2]]
  let f:=s[0]
  if f.isIdent then match wd m l[0]! f with|some y=>(l.extract 1 l.size).foldl ap y|none=>l.foldl ap f
  else l.foldl ap f
 else if s.isOfKind ``Tactic.tacticLet__&&s[2][0][0].isOfKind ``anonymousCtor then
  let d:=s[2][0]
  mkNode ``Tactic.obtain #[mkAtom "obtain",mkNullNode #[pat 9 d[0]],mkNullNode d[2][0].getArgs,mkNullNode #[d[3],mkNullNode #[d[4]]]]
 else if s.isOfKind ``attrInstance&&s[1].isOfKind ``Attr.ext then mkNode ``attrInstance #[mkNode ``attrKind #[mkNullNode #[mkNode ``Term.scoped #[mkAtom "scoped"]]],mkNode ``Attr.simp #[mkAtom "simp",mkNullNode #[mkNode ``Tactic.simpPre #[mkAtom "↓"]],mkNullNode,mkNullNode #[mkNode `prioHigh #[mkAtom "high"]]]]
 else if s.isOfKind ``Command.declaration&&s[1].isOfKind ``Command.definition&&s[1][0].getAtomVal==""&&s[0][4].getNumArgs==0 then s.setArg 0 (s[0].setArg 4 (mkNullNode #[mkNode ``Command.noncomputable #[mkAtom "noncomputable"]]))
 else if s.isOfKind `Lean.calcTactic then mkNode ``Tactic.refine #[mkAtom "refine",s[1][0][0]]
 else if s.isOfKind ``Command.definition&&s[2][1].getNumArgs==1&&(s[0] matches .atom (.original ..) "def") then
  let w k:=((m.find? k).getD []).contains (toString s[1][0].getId)
  if w "def" then s.setArg 0 (mkAtom "") else if w "," then s.setArg 0 (mkAtom "def")
  else mkNode ``Command.theorem #[mkAtom "theorem",s[1],mkNode ``Command.declSig #[s[2][0],s[2][1][0]],s[3]]
 else s
def run(x:Syntax):MacroM Syntax:=
 let m:=(tab.splitOn "\n").foldl (λm r=>let l:=r.splitOn " ";m.insert l.head! l.tail) ({}:Tb)
 let y:=Nat.repeat (λs=>s.rewriteBottomUp (rp m)) 6 x
 if x==y then Macro.throwUnsupported else return y.rewriteBottomUp (·.setInfo .none)
end L0
set_option compiler.extract_closed false
noncomputable section
local macro_rules(kind:=Lean.Parser.Command.declaration)|x=>L0.run x
local macro_rules(kind:=Lean.Parser.Command.variable)|x=>L0.run x
namespace L0
open Lean
def rcPat : Nat → Syntax → MacroM (TSyntax `rcasesPat)
 | 0, _ => Macro.throwUnsupported
 | a+1, b => do let b : TSyntax `term := ⟨b⟩;match b with
   | `(_) => `(rcasesPat| _)
   | `(⟨$c,*⟩) =>
     let ps ← c.getElems.mapM fun b => do let p ← rcPat a b.raw;`(Lean.Parser.Tactic.rcasesPatLo| $p:rcasesPat)
     `(rcasesPat| ⟨$ps,*⟩)
   | `($d:ident) => if d.getId.isAtomic && d.getId != `rfl then `(rcasesPat| $d:ident) else Macro.throwUnsupported
   | _ => Macro.throwUnsupported
def holes : M→Syntax→M| 0, _ => 100| DC, lf$ .node _ => if b== ``Lean.Parser.Term.syntheticHole then 1 else c.ah (λd e=>d+AM holes) 0| _, _ => 0
def split (a : Array (TSyntax `Lean.Parser.Term.funBinder)) : MacroM (Array (TSyntax `Lean.Parser.Term.funBinder) × Array (TSyntax `tactic)) := do
 let mut b := #[];let mut c : Array (TSyntax `tactic) := #[];for x in a do if x.raw.isOfKind ``Lean.Parser.Term.anonymousCtor then let p ← rcPat 20 x.raw;let h ← withFreshMacroScope `(h);b := b.push ⟨h.raw⟩;let d : TSyntax `ident := ⟨h.raw⟩;c := c.push (← `(tactic| rcases $d:ident with $p:rcasesPat))else b := b.push x
 if c.isEmpty then Macro.throwUnsupported
 return (b, c)
/-- the fun with a pattern whose body is the hole -/ def punch : Nat → Syntax → MacroM (Option (Syntax × Array (TSyntax `tactic)))
 | 0, _ => return none
 | b+1, c => do
   match c with
    | `(fun $d* => $e) =>if e.raw.isOfKind ``Lean.Parser.Term.syntheticHole then if d.any fun f => f.raw.isOfKind ``Lean.Parser.Term.anonymousCtor then let (g, ts) ← split d;return some (← `(fun $g* => $e), ts)else return none
    | _ => pure ()
   match c with
    | .node h i k =>
      for j in [0:k.size] do if holes b k[j]! > 0 then if let some (a, ts) ← punch b k[j]! then return some (.node h i (k.set! j a), ts)
      return none
    | _ => return none
end L0
open Lean in
local macro_rules
  | `(fun $xs* => $b) => do
    unless xs.any fun x => x.raw.isOfKind ``Lean.Parser.Term.anonymousCtor do Macro.throwUnsupported
    if L0.holes 200 b > 0 then Macro.throwUnsupported
    let (ys, ts) ← L0.split xs
    let ts := ts.push (← `(tactic| exact $b))
    `(fun $ys* => by $[$ts]*)
open Lean in
local macro_rules
  | `(tactic| refine $t) => do
    unless L0.holes 200 t == 1 do Macro.throwUnsupported
    let some (t', ts) ← L0.punch 200 t | Macro.throwUnsupported
    let t' : TSyntax `term := ⟨t'⟩
    let ts := #[← `(tactic| refine $t')] ++ ts
    `(tactic| ($[$ts]*))
local macro_rules | `(tactic| omega) => `(tactic| lia)
local macro_rules | `(tactic| cases $x:ident) => `(tactic| first
  | (have z := Eq.symm (Option.some.inj $x); clear $x; first | subst z | (have z2 := Eq.symm z; clear z; cases z2))
  | (obtain ⟨z1, z2⟩ := Prod.mk.inj $x; clear $x; (first | (have z3 := Eq.symm z1; clear z1; subst z3) | cases z1); (first | (have z4 := Eq.symm z2; clear z2; subst z4) | cases z2))
  | contradiction
  | cases ($x))
open And renaming comm->arI
open Array renaming getElem?_eq_getElem->aN,getElem?_eq_none->Ez,getElem?_toList->gA,length_toList->eE
open Bool renaming and_comm->lz,and_eq_true->ξ,and_false->adI,and_self->aeW,eq_iff_iff->ß,false_and->bT,false_eq_true->jh,false_ne_true->à,false_or->lF,not_eq_true->bP,not_eq_true'->ä,or_comm->Jv,or_eq_true->Ą,or_false->Ec,true_and->aY
open Char renaming toNat->zb
open Classical renaming byContradiction->Κ,epsilon->arW,epsilon_spec->arX
open False renaming elim->š
open ForInStep renaming yield->lE
open Function renaming comp->aq,comp_def->asv
open Iff renaming trans->apy
open Lean.Macro renaming throwUnsupported->apU
open Lean.Parser.Tactic renaming rcasesPatLo->aa9
open Lean.Parser.Term renaming anonymousCtor->eK,app->adN,paren->adO,syntheticHole->mV
open List renaming all_cons->qU,all_eq_false->U9,all_eq_true->Ň,all_map->fZ,any_cons->aA,any_eq_false->fV,any_eq_true->ô,any_map->uA,append_assoc->Ĝ,append_nil->Đ,concat_eq_append->oT,cons_append->vT,contains_cons->jg,contains_eq_mem->Ng,contains_iff_mem->ā,contains_nil->U_,countP_eq_length_filter->dD,drop_drop->ji,drop_eq_getElem_cons->As,drop_eq_nil_of_le->ŋ,drop_left->adL,drop_length->g5,eq_nil_or_concat->oS,eraseIdxIfInBounds_toArray->vE,exists_mem_of_ne_nil->Š,ext_getElem->ao,ext_getElem?->dV,filter->kg,filterMap_cons->eM,filter_append->ł,filter_congr->į,filter_cons->ġ,filter_eq_nil_iff->ň,filter_eq_self->Ν,filter_filter->aU,filter_map->cg,filter_nil->abA,filter_sublist->ļ,find?_cons->ű,find?_eq_none->sT,find?_map->adK,find?_range_eq_some->Ej,find?_some->yp,findSome?->adF,findSome?_append->Kc,findSome?_cons->Ē,findSome?_eq_none_iff->y7,findSome?_map->Ů,flatMap_append->il,flatMap_cons->aD,flatMap_map->vV,flatten_cons->kl,foldl->aks,foldl_append->Þ,foldl_cons->ĥ,getD_eq_getElem?_getD->γ,getElem?_append_left->Ņ,getElem?_append_right->Ű,getElem?_cons_zero->E4,getElem?_drop->sU,getElem?_eq_getElem->δ,getElem?_eq_none->Á,getElem?_eq_some_iff->φ,getElem?_map->Δ,getElem?_range->ë,getElem?_replicate->cU,getElem?_set->U6,getElem?_set_ne->en,getElem?_set_self->dt,getElem?_zip_eq_some->Bb,getElem_idxOf->Ul,getElem_map->cT,getElem_mem->Ö,getElem_range->ah,idxOf_lt_length_of_mem->yx,isEmpty_eq_false_iff->eC,isEmpty_iff->abd,length->ą,length_append->π,length_cons->Β,length_drop->g4,length_eq_one_iff->dr,length_eq_zero_iff->Ġ,length_filter_eq_length_iff->uw,length_filter_le->Ω,length_map->θ,length_nil->Ħ,length_pos_iff->eL,length_pos_of_mem->Jt,length_range->Ð,length_replicate->gD,length_set->ť,length_singleton->Kh,length_take->Ũ,lookup->cy,lookup_cons->cW,map->f3,map_append->Æ,map_congr_left->ö,map_cons->Â,map_drop->aeV,map_eq_nil_iff->Q4,map_id->km,map_inj_right->Ut,map_map->Χ,map_nil->cq,map_replicate->sV,map_set->dv,mem_append->Ι,mem_append_left->hv,mem_append_right->ũ,mem_cons->ν,mem_cons_of_mem->ς,mem_cons_self->ů,mem_filter->υ,mem_filterMap->Up,mem_flatMap->ŧ,mem_iff_getElem?->â,mem_map->χ,mem_of_find?_eq_some->eB,mem_of_getElem?->Î,mem_or_eq_of_mem_set->ke,mem_range->ψ,mem_replicate->sR,mem_singleton->Θ,nil_append->ag,nodup_append->ŷ,nodup_cons->ñ,nodup_iff_pairwise_ne->ç,nodup_nil->y8,nodup_range->ey,not_mem_nil->ã,of_mem_zip->h4,pairwise_cons->sP,pairwise_flatMap->Kb,pairwise_lt_range->ŉ,pairwise_map->Ŋ,range->ι,range_succ->ę,range_succ_eq_map->fY,replicate->Λ,replicate_succ->cQ,size_toArray->Ç,sum_append->nj,sum_cons->ĩ,take_add_one->å,take_append_drop->gE,take_append_of_le_length->wj,take_length->Ò,take_of_length_le->mX,take_sublist->Vb,zip_cons_cons->Uv
open List.Nodup renaming sublist->ez
open List.Pairwise renaming filter->fe,imp_of_mem->aF,nil->ahA,sublist->au
open List.Sublist renaming length_le->akF
open List.cons renaming injEq->arH
open Nat renaming Coprime->Q3,add_comm->ahP,add_eq_zero_iff->Um,add_mul->yo,add_sub_cancel->sX,add_zero->ahB,and_le_left->yw,and_one_is_mod->Vl,and_or_distrib_left->Ju,digitChar->ag1,div_add_mod->dJ,div_eq_iff->Bc,div_eq_of_lt->mQ,div_lt_of_lt_mul->ew,eq_of_testBit_eq->p6,gcd_dvd_left->abr,gcd_dvd_right->aba,le_add_right->eF,le_of_dvd->agS,le_of_eq->i9,le_of_lt->ja,le_of_succ_le->lD,le_refl->Η,le_succ->yr,le_trans->É,log2_two_pow->mP,lt_irrefl->Ś,lt_of_le_of_lt->ĝ,lt_of_lt_of_le->Ä,lt_of_not_le->ŗ,lt_or_gt_of_ne->U7,lt_pow_two_of_testBit->aP,lt_succ_of_lt->vF,lt_succ_self->wk,min_eq_left->cz,mod_eq_of_lt->bS,mod_lt->cF,mod_mod->Qz,mul_add_div->yz,mul_add_mod->yA,mul_assoc->agR,mul_comm->gd,mul_le_mul->Ë,mul_le_mul_left->Ń,mul_le_mul_right->qa,mul_lt_mul_of_pos_left->Au,mul_mod->cC,mul_one->p_,mul_zero->ahC,ne_of_gt->m9,ne_of_lt->ģ,not_lt_zero->adD,one_mul->lA,one_ne_zero->adE,or_lt_two_pow->vz,pos_of_ne_zero->U8,pow_add->p9,pow_le_pow_right->Č,pow_lt_pow_right->Qy,pow_mod->p8,pow_mul->lB,pow_right_inj->abi,pow_succ->vA,pow_two->aka,reduceAdd->ag2,reduceSub->ag3,strongRecOn->yv,succ->arV,succ_mul->m_,succ_ne_zero->abz,testBit_and->Ã,testBit_eq_decide_div_mod_eq->gf,testBit_lt_two_pow->Ka,testBit_or->ý,testBit_succ->cZ,testBit_two_pow->á,testBit_two_pow_sub_one->y6,testBit_xor->dI,two_pow_pos->cu,zero_add->Km,zero_le->ò,zero_testBit->eA
open Nat.Coprime renaming eq_one_of_dvd->amG,mul_right->amF
open Nat.succ renaming inj->zd
open Option renaming getD_none->Us,getD_some->Uu,isSome_map->Q8,ite_none_left_eq_some->vU,map_eq_none_iff->Eh,map_eq_some_iff->Υ,map_map->abc,none->aeS,or_eq_some_iff->Ÿ,toList_some->ŭ
open Option.some renaming inj->Ü,injEq->ő
open Or renaming inl->yq,inr->uy
open Prod.mk renaming inj->cS,injEq->ar
open PyFlat renaming okCall->abo,played->abq,put->agQ,put1->Jr,putRow->abp,putRows->aa_,told->Js
open PyProof renaming noPylong_small->Ax
open PyProof.Rows renaming AllBare->ux,IntsAre->J3,Subscript_->aeO,boot_abs->akC,boot_all->kf,boot_any->wq,boot_list->ÿ,boot_min->akE,boot_ord->akG,boot_range->b9,boot_set->akD,boot_sorted->akB,boot_str->wu,boot_tuple->vH,callWith_builtin1->akr,callWith_type1->ż,envOfC->qc,iadd_int->akq,join_list->aky,join_tuple->akz,signs_ofString->akx,sortedAll_at->akv,sortedAll_old->akw,sorted_ints->aku,step_dedup->b_,subscriptTail_builtinR->Vc
open PySem renaming Arguments->A_,Around->ff,BoolOp->lI,Builtin->Vk,Builtin->adJ,CmpOp->agU,DictEntry->lG,Env->Aw,Heap->ř,HeapKind->Kl,Keyword->m3,MeetsIn->Vj,Model->agT,NameKind->cP,Operator->px,Paired->bq,PlainAttrs->wm,Pos->vB,Program->Ĵ,Scope->ag4,Scope->fN,Spec->i_,Stmt->eD,Str->ï,Within->Et,World->Ŏ,assign->aeM,assignEach->eP,atKey->vW,atKey_none_of_get->m5,attributeBase->œ,backTo->aG,backToKw->fP,binaryOp->eQ,bindArgs->amL,bindC->abv,bindL->abu,bootBuiltins->kh,boot_len->Ď,builtinsNs->lH,cLine->mZ,callWith->jb,call_all_walk->apQ,call_any_walk->apP,call_list_seq->apO,call_meets->lJ,call_meetsIn->e9,call_range_2->arM,callerA->J6,cellsFrom->aB,closureFor->aeQ,codeAny->uz,codeAny_mono->kj,compEnvC->eT,compPost->amO,compareOp->Ź,contains->aZ,dictSetDefault->hb,evalArgs_none->h7,fitsIndex_both->amM,getItem->yC,getMethod->lC,holding->fW,inplaceOp->ik,intBits_le_64->apz,isTrue->Ke,keywordEach->bY,letOwnedTupleGo->Ex,mainGlobals->ţ,mem_of_lookup->ě,method_meetsIn->Ki,model->þ,newFunctionEnv->amN,notedBy->J5,pushCells->uB,pushCells_keeps->qN,pyIter->Kf,pyNext->aeN,rangeSize_one->Q6,rawInt->Kj,recursionLimit->amK,seqIndex?->Ur,seqIndex_neg->yD,seqIndex_of->Ef,setItem->Va,sizeLine->Ζ,sizeLine_eq->eR,size_of_entries->qO,sliceBounds->jc,standAt->mY,starEach->Ù,storeName->ahD,stored->Vg,storedH->agZ,storedH_new->aby,subscripted->Eg,swapsWith->ij,sysModules->Ŧ,truthy->amI,tupleKind->Av,tupleKind_room_in1->dU,typeIs_int->aeP,typeOf->Ve,wpAny->û,wpAny_Assign_Subscript->Vi,wpAny_AugAssign_SubscriptAny->Ew,wpAny_Call_Name_kw->bb,wpAny_Call_method->g_,wpAny_Dict_empty->ahQ,wpAny_Name->aeL,wpAny_assign_Name->agV,wpAny_attempt->apR,wpAny_bind->Ε,wpAny_call->Kg,wpAny_callSpecial?_slot->pB,wpAny_call_entry->Ba,wpAny_dictEntries->cR,wpAny_dictEpoch->E5,wpAny_execs_cons->ahE,wpAny_execs_nil->qL,wpAny_fieldsOf->amS,wpAny_getItem_list_neg->Vd,wpAny_holding->fO,wpAny_isOneOf_valiter->qW,wpAny_isTrue_Compare1->abf,wpAny_loadName_cell->adH,wpAny_loadName_local->abt,wpAny_mono->bJ,wpAny_newObj_type->m4,wpAny_notOrdered_dict->h9,wpAny_passesOwn->d9,wpAny_pure->Ì,wpAny_pyIter_enum->ag0,wpAny_pyIter_list->agW,wpAny_pyIter_valiter->abw,wpAny_pyIter_zip->ahR,wpAny_rule->Kk,wpAny_setField->amT,wpAny_standAt->Q5,wpAny_truthy_bool->bH,wpAny_typeNameOfWhole_valiter->dR,wpAny_typeNameOf_valiter->fR,wpAny_updateDictKeys->sY
open PySem.Around renaming frames_deeper->Jy
open PySem.AutoListH renaming list___mul___list_int_3->arT
open PySem.AutoSeq1 renaming list_extend_list_list_0->asz
open PySem.Builtin renaming bitAnd->ī,bitNot->dS,bitOr->jV,bitXor->ng
open PySem.Builtin.Dict renaming showsAll->akA
open PySem.Builtin.Dict_items renaming ownsTuple->e3
open PySem.Builtin.Int renaming intBits->dW
open PySem.Builtin.List renaming listFitsIndex->akt,listTooLong->h8
open PySem.Builtin.Range renaming rangeFitsLong->ahU,rangeSize->Ę,small->dN
open PySem.Calls renaming Name_function_global->yB,callWith_builtin->da,evalArgs_plain->g9,spliced_cons->c_,spliced_nil->fQ
open PySem.Challenge renaming pw_squaresteps_s01_answers->aeU,rw_squaresteps_s01_answers->î
open PySem.CmpOp renaming In->amJ,NotIn->agX
open PySem.DictEntry renaming refKey->arO
open PySem.EqMixed renaming eq_bool_str->ahF,eq_int_str->ahG,eq_str_bool->ahH,eq_str_int->ahI,ne_bool_str->ahJ,ne_int_str->ahK,ne_str_bool->ahL,ne_str_int->ahM
open PySem.EqNone renaming eq_bool_none->akf,eq_int_none->akg,eq_none_bool->akc,eq_none_int->akd,eq_none_none->akb,eq_none_str->ake,eq_str_none->akh,ne_bool_none->akm,ne_int_none->akn,ne_none_bool->akj,ne_none_int->akk,ne_none_none->aki,ne_none_str->akl,ne_str_none->ako
open PySem.Expr renaming Attribute->apS,Call->apT,Name->ko
open PySem.F renaming args_dict_get_2->y_,args_dict_get_3->za,args_dict_setdefault_3->sZ,entry_dict_get->fi,entry_dict_setdefault->uC,plainAttrs_dict->cG,plainAttrs_list->è,slot_dict_clear->zc,slot_dict_get->bQ,slot_dict_setdefault->de,slot_list_append->Ĉ,slot_list_index->y9,slot_list_pop->Ek,type_dict_get->Ei,type_dict_setdefault->vI,type_list_append->ĉ,type_list_pop->El
open PySem.Heap renaming SameBut->cx,get?_push_of_some->Ο,get?_push_size->ì,get?_update_other->Jz,get?_update_self->dQ,lt_size->Ó,size_push->ae
open PySem.Heap.DictOf renaming new->amP
open PySem.Heap.IsSliceOf renaming new->agY
open PySem.Heap.Ns1 renaming of_empty->asy
open PySem.Heap.SameBut renaming update->aj
open PySem.IsL renaming update->arS
open PySem.IsRange renaming new->Ey
open PySem.MeetsSeq renaming list_pop_at->asB,list_pop_last->asA
open PySem.NameKind renaming cell->Vf,free->dc,free->wx,globalImplicit->pC
open PySem.Paired renaming cons->J4,length->Ñ,nil->Nk,snoc->aeR
open PySem.PassesOwn renaming never->Ni
open PySem.ScopeKind renaming function->qX
open PySem.SeqAt renaming EqAt->ahO
open PySem.SeqAt.EqAt renaming bool_bool->apF,bool_int->apG,bool_none->apE,bool_str->apH,int_bool->apJ,int_int->apK,int_none->apI,int_str->Ed,none_bool->apB,none_int->apC,none_str->apD,same->apA,str_bool->apM,str_int->Ee,str_none->apL,str_str->apN
open PySem.Str renaming empty->qM,join->Q9,ofString->bF,ofString->Ρ
open PySem.Txt renaming join->vG
open PySem.W renaming CodeHd->Vh,Frag->Γ,WData->abg,callWith_K->eS,callWith_K0->Jx,cellsFrom_some->Az,codeHdIn->gg,codeHd_of_K->hx,codeIn->amR,codeIn->ni,emptyDict->a4,envX->qV,findIn->bK,fnOf->fh,handedIn->Q7,hasDictIn->qT,hideAll->Uo,hideAll_get->Jw,hideAll_none->nf,hideAll_size->Eu,instObj->bX,isFn->Ay,kdl_call->Q_,keepIn->aeT,keepIn->fg,kla_fn->fj,lookIn->nh,looksOpen->Nl,lookup->ĸ,makesIn->Uq,methodCall_KW->fX,of_hideAll->Kd,plainGet->ki,plainGet_of->pA,plainOver->Nj,tabObj->fk,takerIn->vD
open PySem.W.Codec renaming inLen->yt,inNat->ahT,map_inj->jW
open PySem.W.KIN renaming signs_num->amQ
open PySem.W.Looks renaming here->ahN
open PySem.W.OpenSpec renaming wellSaid->adM
open PySem.W.ReadsAllW renaming cons->abx
open PySem.W.WData renaming int->ahS
open PySem.Walks renaming list->yE
open PySem.Within renaming cons->akp
open PySw27 renaming answers->cO,answers_asked->gY,shape->sQ,whole->mx
open Sum renaming inl->È,inr->vC
open Sum.inl renaming inj->adG,injEq->abh
open Sw27 renaming Board->i8,Bytes->ep,Bytes->vS,ROOM->vX,Square->æ,Square->Ĥ,St->qb,Step->abb,alone->sS,ascii->Ê,cellName->g7,choose->Ć,dead->Es,decimal->Å,digits->pH,fair->qd,fillings->cf,fillings->ğ,firstOf->mW,fish->my,given->er,isRegions->uv,isRegions->Ō,joined->ē,locked->pI,may->cw,next->gZ,opens->du,put->Nh,putLine->i7,reasoned->aeK,spare->fb,step->fc,subset->eo,take->cV,told->dM,unitName->g8,units->cE,within->Ģ
open Sw27.Square renaming Good->amU
open Sw27Neutral renaming asked1->eu,callOf->amE,long->Er,nats->ħ,natural->gz,step->p7,whole32->Ţ
namespace dO
open Sw27
variable{b:f8}{a:M}
def Nm(a b:U)(c:M):At:=(ι c).q (λ(d:M)=>a+jp d*b)
def zs(l:f8):At:=l.q (λ(a:M)=>DD)
def aeX{c:f8}(a:zs c=zs b):c=b:=by unfold zs at a;induction c generalizing b with
|nil=>cases b with
 |nil=>rfl
 |cons _ _=>cases a
|cons d c e=>cases b with
 |nil=>cases a
 |cons f b=>simp only[Â,arH]at a;rw[e a.2];congr 1;lia
def ku(l:f8):aiT QO:=by simp[zs]
def gF(a:M):AU:=JH ι λb=>JH ι λc=>a*b+c
def jj(a:M):AU:=JH ι λb=>JH ι λc=>a*c+b
def wy(a:M)(b:f8):AU:=JH ι λc=>FX FY λd=>IM b.getD==c
def qY(a:M):AU:=[JH ι λb=>a*b+b,JH ι λb=>a*b+(a-1-b)]
def gG(a:Ĥ):WN=gF a.n++(jj a.n++(wy a.n a.bY++(if a.diagonal=Z then qY a.n else[]))):=I
def abB(a b:M):Nm (GI*a) 1 a=zs (JH ι (λc=>a*b+c)):=by unfold Nm zs;rw[Χ];calc ö λd _=>?_;show b*a+d*1=kw (a*b+d);rw[U.e1,U.aA,U.am,U.cW]
def abC(a b:M):Nm GI a a=zs (JH ι (λc=>a*c+b)):=by unfold Nm zs;rw[Χ];calc ö λd _=>?_;show b+d*a=kw (a*d+b);rw[U.aA,U.am,U.cW,U.add_comm]
def aeY(a:M):Nm 0 (DD+1) a=zs (JH ι (λb=>a*b+b)):=by unfold Nm zs;rw[Χ];calc ö λc _=>?_;show 0+c*DC=kw (a*c+c);rw[U.aA,U.am,U.mul_add,U.e1,U.b_,U.cW]
def aeZ(a:M)(b:1<=a):Nm (DD-1) (DD-1) a=zs (JH ι (λc=>a*c+(a-1-c))):=by unfold Nm zs;rw[Χ];calc ö λd e=>?_;have f:=ψ.J e;lia
def Vm{b:M}(c:1<=a)(d:b<a):(DD*a-b-1)/a+1=a:=by
 have e:(DD*a-b-1)=(a-1-b)+(a-1)*a:=gt
 have f:DD≠0:=gt
 rw[e,ga U.dv f,Op U.dt];lia
def abD(b:1<=a):(DD*a-0-1)/DC+1=a:=by
 have c:(DD*a-0-1)=(a-1)*DC:=gt
 rw[c,im$ U.mul_ediv_cancel _];lia
def abE(b:2<=a):(DD*a-1-(a-1)-1)/(a-1)+1=a:=by
 have c:(DD*a-1-(a-1)-1)=(a-2)+(a-1)*(a-1):=gt
 have d:DD-1≠0:=gt
 rw[c,ga U.dv d,Op U.dt];lia
def yF{l:f8}:EF uv=Z↔PZ FY/\∀b,b<a->l.countP (λc=>c==b)=a:=by unfold uv;simp only[ξ,IN,Ň,ψ,dD]
def hy:∀(a:M)(l:f8),l.length<=a->l.ci.length<=l.length/\(l.ci.length=l.length↔l.ar)
 |0,l,b=>by have:l=[]:=im Ġ.J;subst this;simp
 |DC,[],_=>mo
 |DC,c::l,b=>by
   rw[List.eraseDups_cons];have d:asT (λe=>! e==c)<=l.length:=ga Ω;let⟨f,g⟩:=hy a (l.filter (λe=>! e==c)) (by simp at b;lia);calc wn (by simp;lia);rw[ñ];constructor;intro h;simp only[Β]at h;have i:asT (λe=>! e==c)=l.length:=gt
   have j:=uw.J i;have k:=Ν.Q j;rw[k]at g;calc⟨λm=>?_,im g.J⟩;have:=j c m;simp at this;rintro ⟨n,o⟩;have k:l.filter (λe=>! e==c)=l:=Ν.Q λe p=>by simp;intro h;subst h;exact n p
   rw[k]at g|-;simp[g.Q o]
def jX{l:f8}:(l.ci.length==l.length)=Z↔l.ar:=by rw[IN];calc(RZ hy l AK).2
def bh(l:f8)(a:f8):f8:=(a.q λb=>OT).filter λc=>c !=0
def Vn{a:Ĥ}{l:f8}:EF fair=Z↔∀b,b∈WN->(bh l b).ar:=by unfold fair;rw[Ň];constructor;intro c b d;calc jX.J$ v4 c;intro c b d;calc jX.Q$ v4 c
end dO
namespace dO
variable{a b c:M}
def wz:∀(c d:M),(c|||d)+(c&&&d)=c+d:=by intro c;induction c using yv with
|_ c g=>
 intro d;by_cases f:c=0;subst f;simp;have l:=im (g (c/2)) (d/2);have j:=M.or_div_two (a:=c) (b:=d);have k:=M.and_div_two (a:=c) (b:=d);have h:(c|||d)%2=if c%2=1\/d%2=1 then 1 else 0:=by have f:=re @M.or_mod_two_eq_one;split;rename_i e;calc f.Q e;lia
 have i:(c&&&d)%2=if c%2=1/\d%2=1 then 1 else 0:=by have f:=re @M.and_mod_two_eq_one;split;rename_i e;calc f.Q e;lia
 split at h<;>split at i<;>lia
def õ(a b:M):M:=a-SK
def Vo(a b:M):SK<=a:=yw
def í(a b c:M):(io õ).o c=(a.o c&&! b.o c):=by
 have d:io õ=a^^^SK:=by
  have e:=wz (a^^^SK) SK;have f:(a^^^SK)|||SK=a:=by apply p6;intro g;simp only[ý,dI,Ã];cases a.o g<;>cases b.o g<;>rfl
  have h:(a^^^SK)&&&SK=0:=by apply p6;intro g;simp only[dI,Ã,eA];cases a.o g<;>cases b.o g<;>rfl
  unfold õ;lia
 rw[d];simp only[dI,Ã];cases a.o c<;>cases b.o c<;>rfl
def ext(c:∀d,a.o d=b.o d):NJ:=p6 c
def gh(b:a≠0):∃c,FR a.o:=M.exists_testBit_of_ne_zero b
def ip :a=0↔∀b,pr (a.o b):=⟨λc b=>by rw[c];simp,λc=>ext λb=>by rw[c b];simp⟩
def dX:∀{a:M},a≠0->∃b,FE a.o/\(∀c,c<b->pr (a.o c))/\õ a (a-1)=GU:=by intro a;induction a using yv with
|_ a d=>
 intro e;by_cases f:a%2=1;calc⟨0,by simp[f],gt,?_⟩;have g:a&&&(a-1)=a-1:=by apply ext;intro h;rw[Ã];cases h with
 |zero=>
  simp only[M.testBit_zero];have:(a-1)%2=0:=gt
  rw[this];simp
 |HW h=>rw[cZ,cZ,show(a-1)/2=a/2 by lia];simp
 unfold õ;lia;let⟨b,i,j,k⟩:=Op (d (a/2));calc⟨_,by rw[cZ];calc i,λc l=>?_,?_⟩;cases c with
 |zero=>simp[f]
 |HW c=>rw[cZ];exact im$ j c
 have g:a&&&(a-1)=2*(a/2&&&(a/2-1)):=by apply ext;intro h;rw[Ã];cases h with
 |zero=>simp[f]
 |HW h=>rw[cZ,cZ,cZ,show 2*(a/2&&&(a/2-1))/2=(a/2&&&(a/2-1))by lia,Ã,show(a-1)/2=a/2-1 by lia]
 unfold õ at k|-;lia
def low(a:M):M:=õ a (a-1)
def Ï(a b:M):f8:=auA λc=>b.o c
def Į(d:a<GU)(e:FR a.o):c<b:=by apply ŗ;intro f;rw[Ka$ Ä d$ Uf f]at e;cases e
def wA(f:b<HG)(d:b.o a=Z)(e:∀g,g<a->pr (b.o g)):Ev Ï=a::Ï c (õ b KP):=by
 have h:=Į f d;unfold Ï;have i:ι c=ι a++(a::BR (c-a-1) (·+DC)):=by apply ao;simp;lia;intro j k l;rw[ah];by_cases m:j<a;rw[List.getElem_append_left aeG,ah];rw[List.getElem_append_right (by simpa using gt)];simp only[Ð];by_cases n:j-a=0;simp[n];lia;let⟨g,o⟩:∃g,j-a=g+1:=anc (j-a-1);simp only[o,List.getElem_cons_succ,cT,ah];lia
 have p:∀j,(õ b KP).o j=(b.o j&&! it _):=λj=>by rw[í,á]
 rw[i,ł,ł,ġ,ġ];have q:auA (λj=>b.o j)=[]:=by rw[ň];intro j r;rw[e j as4];simp
 have s:auA (λj=>(õ b KP).o j)=[]:=by rw[ň];intro j r;rw[p,e j as4];simp
 rw[q,s,Sc,DP (by rw[p];simp),ag,ag];congr 1;apply į;intro j r;rw[χ]at r;let⟨g,_,I⟩:=r;rw[p];have:OU (a=g+DC):=gt
 rw[this];simp
def gH(a:M):HF Ï=[]:=by unfold Ï;rw[ň];intro b _;simp
def vY(c:FE a.o):õ a GU<a:=by
 unfold õ;have d:a&&&GU≠0:=by intro z;have:=LM (λe=>e.o b) z;simp[c]at this
 have:=Vo a GU;lia
def fm(a b:M):io õ<=a:=by unfold õ;lia
def Û(l:f8):M:=l.ah (λa b=>a|||GU) 0
def yG(l:f8):∀(b a:M),(l.ah (λb c=>b|||HG) b).o a=(b.o a||l.an a):=by induction l with
|nil=>intro b a;simp
|cons d e f=>
 intro b a;rw[ĥ,f,ý,á,jg];by_cases g:d=a;subst g;simp;have:pr (a==d):=gt
 simp[g,this]
def Ċ(l:f8)(a:M):(Û l).o a=l.an a:=by unfold Û;rw[yG];simp
def Bd(c:b.o a=Z):b^^^KP=õ b KP:=by apply ext;intro d;rw[í,dI,á];by_cases e:a=d;subst e;simp[c];simp[e]
end dO
namespace dO
open Sw27
variable{c:f8}{b e:M}{a:Ĥ}{d h:i8}{f:vS}
structure abF(q:Ĥ)(l:f8)(k:M):Prop where
 lo:1<=l.getD k 0
 hi:l.getD k 0<=q.n
 giv:q.cells.getD k 0=0\/q.cells.getD k 0=l.getD k 0
 lnk:∀a,a<k->linked q a k=Z->YE≠l.getD k 0
def kv{l:f8}(a:aiy):AW (l++c).getD=OT:=by simp only[γ,Ņ a]
def E6{l:f8} :FE (EF goes)↔(RZ a.cells.getD 0=0\/RZ a.cells.getD 0=b)/\ ∀c,c<l.length->RZ (mt linked)=Z->akO≠b:=by unfold goes;simp only[ξ,Ą,IN,Ň,ψ,ä,nm.and_eq_false_imp];constructor;rintro ⟨d,e⟩;calc⟨d,λc f g h=>?_⟩;have:=on$ e c;rw[h]at this;simp at this;rintro ⟨d,e⟩;calc⟨d,λc f g=>?_⟩;have:=on$ e c;simpa using this
def Ra{l:f8}(d:1<=b)(e:b<=a.n)(f:FE (EF goes)):RZ$ abF a (l++LY):=by
 let⟨g,h⟩:=E6.J f;have i:RZ (l++LY).getD 0=b:=by simp[]
 calc⟨by rw[i];calc d,by rw[i];calc e,by rw[i];calc g,λj k m=>?_⟩;rw[i,kv k];calc AS h m
def Rc{l:f8}(d:RZ (abF a (l++LY))):1<=b/\b<=a.n/\FE (EF goes):=by
 have e:RZ (l++LY).getD 0=b:=by simp[]
 let⟨f,g,h,i⟩:=d;rw[e]at f g h i;calc⟨f,g,E6.Q ⟨h,λj k m=>?_⟩⟩;have:=AS i m;rwa [kv k]at this
def nq(k:Ĥ):∀(g:M)(l h:f8),h∈fill k g l↔∃b:f8,b.length=g/\h=l++b/\∀c,l.length<=c->c<l.length+g->abF k h c
 |0,l,h=>by simp only[fill,Θ];constructor;rintro I;calc⟨[],I,mo,λc d e=>gt⟩;rintro ⟨b,a,I,_⟩;rw[Ġ.J a,Đ]
 |g+1,l,h=>by
   simp only[fill,ŧ,ψ];constructor;rintro ⟨i,r,f⟩;split at f;rename_i m;let⟨b,a,I,j⟩:=(nq k g _ h).J f;have n:l++[i+1]++b=l++(i+1)::b:=mo
   rw[n]at j;calc⟨_,by simp[a],n,λc d e=>?_⟩;rw[n];by_cases o:c=l.length;subst o;calc Op Ra m;calc j c (by simp;lia) (by simp;lia);simp at f;rintro ⟨b,a,I,j⟩;match b,a with
    |i::b,a=>
      have p:=im$ j l.length AK;let⟨t,u,s⟩:=Rc p;calc⟨i-1,gt,?_⟩;have q:i-1+1=i:=gt
      rw[q,ii s];calc(ga$ nq k g).Q ⟨b,as2,mo,λc d e=>?_⟩;calc j c (by simp at d;lia) (by simp at e;lia)
structure Be(q:Ĥ)(l:f8):Prop where
 len:PZ KO
 ok:∀a,a<KO->GV (abF q)
def hF{l:f8}:l∈cf a↔EF Be:=by unfold cf;rw[nq];constructor;rintro ⟨b,c,I,d⟩;calc⟨Re,λe f=>s4 (d e) aqh⟩;rintro ⟨g,h⟩;calc⟨l,g,mo,λi _ j=>h i and⟩
def Lx:f8->Ch f8|a::b,c::d=>a<c\/(a=c/\v4 Lx)|_,_=>DN
def Lx.app:∀(l:f8){a b:f8},Lx (l++a) (l++b)↔io Lx|[],_,_=>Iff.rfl|c::l,a,b=>by simp only[vT,Lx,Ś,aug,aui];calc Lx.app l
def Lx.Bf:∀l:f8,¬Lx l l|[],a=>a|b::l,a=>by simp only[Lx,Ś,aug,aui]at a;calc GV Lx.Bf
def Lx.adQ:∀{a b:f8},io Lx->¬sK Lx
 |[],_,c,_=>by cases c
 |_::_,[],c,_=>by cases c
 |d::a,e::b,c,f=>by rcases c with c|⟨g,c⟩;rcases f with f|⟨h,f⟩;lia;lia;rcases f with f|⟨h,f⟩;lia;calc Lx.adQ c f
def uD(b:Ĥ):∀(a:M)(l:f8),(sK fill l).bb Lx
 |0,l=>by simp[fill]
 |DC,l=>by calc Kb.Q$ wn λc _=>?_;split;calc sK uD _;calc ahA;calc ŉ.imp (λ{d e} f g h i j=>?_);split at h;split at j;let⟨k,_,I,_⟩:=(ga$ sK nq).J h;let⟨m,_,I,_⟩:=(ga$ sK nq).J j;rw[Ĝ,Ĝ,Lx.app];calc im .D;simp at j;simp at h
def df(a:Ĥ):(cf a).bb Lx:=ga$ uD a
def av:∀{a b:AU},a.bb Lx->b.bb Lx->(∀c,c∈a↔c∈b)->NJ
 |[],[],_,_,_=>I
 |[],d::b,_,_,e=>by have:=s4 (e d).Q;simp at this
 |c::a,[],_,_,e=>by have:=s4 (e c).J;simp at this
 |c::a,d::b,f,g,e=>by
   let⟨h,i⟩:=sP.J f;let⟨j,k⟩:=sP.J g;have l:c=d:=by rcases ν.J (s4 (e c).J)with z|z;calc z;rcases ν.J (s4 (e d).Q)with w|w;calc w.symm;exact DM (h d w)$ Lx.adQ$ j c z
   subst l;have m:∀z,z∈a↔z∈b:=λz=>by constructor;intro n;rcases ν.J ((e z).J (BI n))with w|w;subst w;calc DM (h _ n)$ Lx.Bf _;calc w;intro n;rcases ν.J ((e z).Q (BI n))with w|w;subst w;calc DM (j _ n)$ Lx.Bf _;exact w
   rw[av i k m]
def Bg{a:AU}(b:a.bb Lx):a.ar:=b.imp (λ{c d} z e=>by subst e;calc DG Lx.Bf)
def nr(c:Ĥ)(a b:M):akW linked=sK (linked c):=by
 unfold linked;have:(a !=b)=(b !=a):=by rw[ß];simp only[QR];exact⟨λd e=>d e.symm,λd e=>d e.symm⟩
 congr 1;congr 1;funext u;calc ga lz
def Be.ne{l:f8}(g:EF Be)(d:b<FK)(f:e<FK)(c:io linked e=Z):OT≠FI l.getD:=by rcases zn M.lt_trichotomy with h|h|h;calc(py g.ok).lnk b h c;subst h;simp[linked]at c;rw[nr]at c;calc λi=>FG (v4 g.ok).lnk c i.symm
def wB{l:f8}:EF Be↔PZ FK/\(∀b,b<FK->1<=OT/\OT<=a.n/\(arP=0\/arP=OT))/\ ∀c d,c<FK->d<FK->TY linked=Z->akO≠IM l.getD:=by constructor;intro e;calc⟨e.len,λb f=>⟨(DA e.ok).lo,(DA e.ok).hi,(DA e.ok).giv⟩,λc d g h i=>t3$ e.ne g⟩;rintro ⟨j,k,m⟩;calc QY λb f=>⟨(DA k).1,lv$ DA k,wS$ DA k,λc g i=>DF$ im$ Ev m⟩
abbrev nt(a:Ĥ)(b:f8):Ĥ:={a with cells:=b}
def iq(b:c∈WN):c.ar:=by
 rw[gG]at b;rcases Ι.J b with d|b;let⟨e,_,I⟩:=TC;calc aoN;exact ŉ.imp (λ{f g} d h=>gt)
 rcases Ι.J b with d|b;let⟨i,j,I⟩:=TC;have k:0<a.n:=by have:=ψ.J j;lia
 calc aoN;calc ŉ.imp (λ{f g} d h=>?_);have:a.n*f=a.n*g:=gt
 have:=GE$ M.eq_of_mul_eq_mul_left k;lia;rcases Ι.J b with d|b;let⟨l,_,I⟩:=TC;calc au ļ ey;split at b;simp only[qY,ν,ã,GS]at b;rcases b with I|I;calc aoN;calc ŉ.imp (λ{f g} d h=>?_);have:a.n*f<=a.n*g:=im$ Ń _;lia;calc aoN;calc aF (λ{f g} m n d h=>?_) ŉ;have n:=ψ.J n;have o:a.n*(f+1)<=a.n*g:=im$ Ń _;lia;simp at b
def d_(d:c∈WN)(e:b∈c):b<FK:=by
 rw[gG]at d;have f:∀{g h:M},g<a.n->h<a.n->a.n*g+h<FK:=λ{g h} i j=>by have:a.n*(g+1)<=FK:=im$ Ń _;lia
 rcases Ι.J d with k|d;let⟨l,m,I⟩:=χ.J k;let⟨n,o,I⟩:=χ.J e;calc f (ψ.J m)$ ψ.J o;rcases Ι.J d with k|d;let⟨n,o,I⟩:=χ.J k;let⟨l,m,I⟩:=χ.J e;calc f (ψ.J m)$ ψ.J o;rcases Ι.J d with k|d;let⟨p,_,I⟩:=χ.J k;calc LX$ υ.J e;split at d;simp only[qY,ν,ã,GS]at d;rcases d with I|I;let⟨l,m,I⟩:=χ.J e;calc f (ψ.J m)$ ψ.J m;let⟨l,m,I⟩:=χ.J e;have:=ψ.J m;calc im$ f this;simp at d
def eU :io linked e=Z↔b≠e/\∃c,c∈WN/\b∈c/\EG c:=by unfold linked;simp only[ξ,QR,ô,ā]
def h_(c:io linked e=Z):b<FK/\e<FK:=by let⟨_,d,f,g,h⟩:=eU.J c;calc⟨on d_,GP d_⟩
def nv{c:f8}:∀{a:f8},a.ar->((AA bh).ar↔∀b d,b∈a->BH a->b≠d->acv=IM c.getD->acv=0)
 |[],_=>by simp[bh]
 |e::a,f=>by
   let⟨g,h⟩:=ñ.J f;have i:=nv (c:=c) h;have j:bh c (e::a)=if FI c.getD !=0 then FI c.getD::AA bh else AA bh:=by unfold bh;rw[Â,ġ]
   have k:∀l,l∈AA bh↔∃d,BH a/\IM c.getD=l/\l≠0:=λl=>by unfold bh;simp only[υ,χ,QR];exact⟨λ⟨⟨d,m,n⟩,o⟩=>⟨d,m,n,o⟩,λ⟨d,m,n,o⟩=>⟨⟨d,m,n⟩,o⟩⟩
   rw[j];by_cases p:FI c.getD=0;have:pr (FI c.getD !=0):=arF
   rw[this,DP DU,i];constructor;intro q b d r m s t;rcases ν.J r with u|u;rw[u];calc p;rcases ν.J m with v|v;rw[t,v];calc p;calc DQ$ v4 q u v;intro q b d r m;calc v4 q (BI r)$ BI m;have:(FI c.getD !=0)=Z:=arF
   rw[this,KC,ñ,i];constructor;rintro ⟨x,y⟩ b d r m s t;rcases ν.J r with u|u;rcases ν.J m with v|v;calc DM (u.trans v.symm) s;rw[u]at t;calc DM ((k _).Q ⟨d,v,t.symm,p⟩) x;rcases ν.J m with v|v;rw[v]at t;calc DM ((k _).Q ⟨b,u,t,p⟩) x;calc DQ$ v4 y u v;intro q;calc⟨λA=>?_,λb d r m=>v4 q (BI r)$ BI m⟩;let⟨d,m,n,_⟩:=(k _).J A;have s:e≠d:=λz=>g (z▸m);calc p$ s4 (q e d) (BI m) s n.symm
def E7 :mt fair=Z↔∀b d,LP linked=Z->acv=IM c.getD->acv=0:=by rw[Vn];constructor;intro e b d f g;let⟨h,i,j,k,l⟩:=eU.J f;calc AI (v4 ((nv$ iq j).J (up e))) h g;intro e i j;calc(nv$ iq j).Q λb d k l h g=>v4 e (eU.Q ⟨h,i,j,k,l⟩) g
def uE:∀{a b:f8}{i:M},asM->(∀c,c<i->SG=UW)->a.getD i 0<b.getD i 0->io Lx
 |[],b,i,d,_,e=>by have:=Ġ.J d.symm;subst this;simp at e
 |f::a,[],i,d,_,_=>by simp at d
 |f::a,g::b,0,_,_,e=>.D arE
 |f::a,g::b,i+1,d,h,e=>by calc .X ⟨by simpa using im$ h 0,uE (i:=i) abe (λc j=>by simpa using im$ h BD) arE⟩
inductive C where|start|set(n d:U)(g:At)|load(l:At)|give(r c d:U)|cells(a:U)|count(m:U)|tell(k a:U)|may(a:U)|spare(a:U)|steps(a:U)
def C.hG:C->At|.start=>[1]|EE .set=>2::UO (jp c.length::c)|.load l=>3::WO::l|s3 .give b=>[4,d,e,b]|.cells f=>[5,f]|.count g=>[6,g]|.tell h f=>[7,h,f]|.may f=>[8,f]|.spare f=>[9,f]|.steps f=>[10,f]
def C.wC:C->Sw27.aY|.start=>.start|EE .set=>io .set$ ħ c|.load l=>.load (ħ l) WO|s3 .give b=>s3 .give b|.cells f=>.cells f|.count g=>.count g|.tell h f=>.tell h f|.may f=>.may f|.spare f=>.spare f|.steps f=>.steps f
def Byt(l:At):Prop:=∀a,BB l->0<=a/\a<=255
def Nn(z:U):Prop:=-2147483648<=z/\z<=2147483647
def C.Ok:Ch C|.start=>EQ|EE .set=>Nn a/\Nn b/\Byt c/\jp c.length=(if(2<=a/\a<=9)/\(0<=b/\b<=1)then FY else 0)|.load l=>Byt l/\l.length<=81|s3 .give b=>Nn d/\Nn e/\Nn b|.cells f=>Nn f|.count g=>Nn g|.tell h f=>Nn h/\Nn f|.may f=>Nn f|.spare f=>Nn f|.steps f=>Nn f
def hc{z:U}(a:Ţ z=Z):Nn z:=by unfold Ţ at a;unfold Nn;lia
def Vp{l:At}(a:l.all (λ(z:U)=>gz z 8)=Z):Byt l:=by intro b c;have:=EE Ň.J;unfold gz at this;lia
def Kn(a:U)(b:At):eu [[3,a],b]=(Ţ a&&(b.all (λ(z:U)=>gz z 8)&&sK Er 0 81)):=I
def abG{l:At}(a:Er l WO 0 81=Z):l.length<=81:=by have b:=ag8 a;split at b<;>lia
def Vq{b:AX At}(c:abo sQ b)(a:eu (mx b)=Z):∃d:C,Jr b=d.hG/\d.Ok/\amE (mx b)=f4 d.wC:=by
 let⟨e,f,g,I,h⟩:=c;unfold sQ at h;split at h;subst e;simp only[ő,ar]at h;match f,g,h with|[],[],_=>exact⟨.start,I,CA,I⟩
 split at h;subst e;simp only[ő,ar]at h;match f,g,h with|[i,j],[k],_=>calc⟨KB .set,by simp[Jr,aa_,abp,C.hG],?_,I⟩;have m:(Ţ i&&(Ţ j&&(k.all (λ(z:U)=>gz z 8)&&sB (jp k.length=if(2<=i/\i<=9)/\(0<=j/\j<=1)then i*i else 0))))=Z:=a;simp only[ξ,BE]at m;exact⟨hc m.1,hc$ lv m,Vp$ lv m.2,(wS m).2⟩
 split at h;subst e;simp only[ő,ar]at h;obtain I:f=[]:=Ġ.J h.1.symm;let⟨l,I⟩:∃l,g=[l]:=dr.J h.2.symm;calc⟨.load l,by simp[Jr,aa_,abp,C.hG],?_,I⟩;have m:eu [[3,WO],l]=Z:=a;rw[Kn,ξ,ξ]at m;calc⟨Vp$ lv m,abG$ wS m⟩;split at h;subst e;simp only[ő,ar]at h;match f,g,h with|[n,b,j],[],_=>calc⟨.give n b j,I,?_,I⟩;have m:(Ţ n&&(Ţ b&&Ţ j))=Z:=a;simp only[ξ]at m;exact⟨hc m.1,hc$ lv m,hc$ wS m⟩
 split at h;subst e;simp only[ő,ar]at h;match f,g,h with|[o],[],_=>exact⟨.cells o,I,hc a,I⟩
 split at h;subst e;simp only[ő,ar]at h;match f,g,h with|[o],[],_=>exact⟨.count o,I,hc a,I⟩
 split at h;subst e;simp only[ő,ar]at h;match f,g,h with|[d,o],[],_=>calc⟨.tell d o,I,?_,I⟩;have m:(Ţ d&&Ţ o)=Z:=a;simp only[ξ]at m;exact⟨hc m.1,hc m.2⟩
 split at h;subst e;simp only[ő,ar]at h;match f,g,h with|[o],[],_=>exact⟨.may o,I,hc a,I⟩
 split at h;subst e;simp only[ő,ar]at h;match f,g,h with|[o],[],_=>exact⟨.spare o,I,hc a,I⟩
 split at h;subst e;simp only[ő,ar]at h;match f,g,h with|[o],[],_=>exact⟨.steps o,I,hc a,I⟩
 cases h
def uF(a:St)(b:C):At:=lv (fc a b.wC)::zs (wS (fc a b.wC))
def E8(a:St)(b:C):St:=(fc a b.wC).1
def ny:AX C->At|[]=>[]|a::b=>a.hG++ny b
def nz:St->AX C->At|_,[]=>[]|a,LY=>NR (io uF)::(io uF++nz (io E8) c)
def ahV:∀(a:AX (AX At)),(∀b∈a,abo sQ b)->(∀b∈a,eu (mx b)=Z)-> ∃c:AX C,agQ a=ny c/\(∀d∈c,d.Ok)/\XB c.length/\∀e,Js (abq p7 e (a.q mx))=CF nz
 |[],_,_=>⟨[],I,mo,I,SR⟩
 |b::a,f,g=>by
   let⟨d,h,i,j⟩:=Vq (s4 (f b)) (s4 (g b));let⟨c,k,l,m,n⟩:=ahV a (λo p=>f o$ BI p) (λo p=>g o$ BI p);calc⟨d::c,by simp[agQ,ny,h,k],?_,by simp[m],λe=>?_⟩;intro q r;rcases ν.J r with I|r;calc i;calc l _ r;have s:p7 e (mx b)=(E8 e d,uF e d):=by unfold p7;rw[j];rfl
   simp only[Â,abq,Js,aD,s,nz];have:=n$ E8 e d;unfold Js at this;rw[this];simp
def Ko{l:At}(a:gY l=Z):∃b:AX C,l=ny b/\(∀c∈b,c.Ok)/\b.length<=300/\cO l=nz none b:=by unfold gY at a;unfold cO;unfold PySw27.calls at a|-;cases d:RZ (PyFlat.calls sQ) l with
|none=>rw[d]at a;cases a
|some e=>rw[d]at a;let⟨f,ok⟩:=AY PyFlat.put_calls d;simp only[ξ,PyFlat.atMost,θ]at a;let⟨g,h⟩:=a;have i:=Ň.J (nm.and_eq_true_iff.J (show(List.all _ eu&&_)=Z from h)).1;let⟨b,j,k,m,n⟩:=ahV e ok (λm o=>i _$ χ.Q ⟨m,o,I⟩);calc⟨b,by rw[f,j],k,gt,n none⟩
def ir(a:St):Prop:=∀b,a=ZC->b.fc
def aw{z:U} :zn (ZJ z)=Z↔GI<=z/\z<=jp e:=by unfold ZJ;simp only[ξ,BE]
def ze(a:Ĥ)(b:M):fair a (AW Λ)=Z:=by calc E7.Q λc d _ _=>?_;simp only[γ,cU];split<;>rfl
def wD(g:a.fc){l:vS}(b:PZ FK)(c:∀h,h∈l->h<=a.n):ir (EF given).1:=by unfold given;split;rename_i d;intro e f;cases f;calc⟨g.L,b,c,d⟩;intro e f;cases f;calc g
def iu(b:St)(a:U)(c:FQ vS):(mt$ told b).1=b:=by unfold told;split;rfl;cases c with
|none=>rfl
|some l=>simp only;split<;>rfl
def wF{f:M}(a:∀g,g∈c->g<=b)(d:e<=b):∀g,g∈JV c.set->g<=b:=by intro g h;rcases ke h with i|i;calc DL a;rw[i];calc d
def zf{e:St}(d:ir e)(j:C):ir$ E8 e j:=by unfold E8;cases j with
|start=>intro a b;cases b
|set n k s=>show ir (if(ZJ n 2 9&&(ZJ k 0 1&&uv n.aj _))=Z then((UB:St),(jp 0,([]:vS)))else(e,(-1,[]))).1;split;rename_i c;simp only[ξ,aw]at c;intro a b;cases b;calc⟨⟨?_,?_,wS c⟩,?_,?_,ga ze⟩;lia;lia;simp;intro o h;rw[(sR.J h).2];calc CY;calc d
|load l=>cases e with
 |none=>intro a b;cases b
 |some a=>have f:=d a I;show ir (if WO≠kw FK\/(ħ l).any _=Z then((WI:St),(jp (-1),([]:vS)))else given a _).1;split;calc d;rename_i c;have m:=λz=>c MV;calc wD f (by simp[ħ];lia) λo h=>?_;calc M.le_of_not_lt λi=>m$ ô.Q ⟨o,h,abj⟩
|give q r k=>cases e with
 |none=>intro a b;cases b
 |some a=>have f:=d a I;show ir (if(ZJ q 1 a.n&&(ZJ r 1 a.n&&ZJ k 0 a.n))=Z then given a _ else((WI:St),(jp (-1),([]:vS)))).1;split;rename_i c;simp only[ξ,aw]at c;calc wD f (by rw[ť];calc f.cells.1)$ im$ wF$ lv f.cells;calc d
|cells g=>cases e with
 |none=>intro a b;cases b
 |some a=>show ir (told WI g$ f4 a.cells).1;rw[iu];calc d
|count p=>cases e with
 |none=>intro a b;cases b
 |some a=>show ir (if ZJ p 1 1000000=Z then((WI:St),(kw$ min _ p.aj,([]:vS)))else(WI,(-1,[]))).1;split<;>calc d
|tell j g=>cases e with
 |none=>intro a b;cases b
 |some a=>show ir (if ZJ j 0 1000000=Z then told WI g _ else((WI:St),(jp (-1),([]:vS)))).1;split;rw[iu];calc d;calc d
|may g=>cases e with
 |none=>intro a b;cases b
 |some a=>show ir (told WI g _).1;rw[iu];calc d
|spare g=>cases e with
 |none=>intro a b;cases b
 |some a=>show ir (told WI g _).1;rw[iu];calc d
|steps g=>cases e with
 |none=>intro a b;cases b
 |some a=>show ir (told WI g _).1;rw[iu];calc d
def mu(a:i8):M:=(a.bJ.q ą).sum
def Vr:∀{a b:f8},asM->(∀c,SG<=UW)->a.sum<=b.sum
 |[],[],_,_=>AK
 |d::a,e::b,f,g=>by
   have h:d<=e:=by simpa using g 0
   have:=Vr aqh λc=>by simpa using g BD
   simp only[ĩ];lia
def wG:∀{a b:f8}{j:M},asM->(∀c,SG<=UW)->a.getD j 0<b.getD j 0->a.sum<b.sum
 |[],[],_,_,_,d=>by simp at d
 |e::a,f::b,0,g,d,h=>by
   have i:e<f:=by simpa using h
   have:=Vr SX λc=>by simpa using d BD
   simp only[ĩ];lia
 |e::a,f::b,j+1,g,d,h=>by
   have i:e<=f:=by simpa using d 0
   have:=wG SX (λc=>by simpa using d BD) (by simpa using h);simp only[ĩ];lia
def bZ(l:AU)(a:M):SH (l.q ą)=(l.getD a []).length:=by simp only[γ,Δ];cases l[a]?<;>rfl
def mz(l:AU)(b:f8×M->f8)(a:M):(l.eL.q b).getD a []=if WQ then b (l.getD a [],a)else[]:=by simp only[γ,Δ,List.getElem?_zipIdx];by_cases c:WQ;rw[ii c,δ c];simp;rw[hf c,SC];rfl
def qe(a:zn (has d)=Z):b<d.bJ.length:=by calc ŗ λc=>?_;unfold has at a;simp only[γ,Á c]at a;cases a
def oU :zn (has d)=Z↔EG (d.bJ.getD b []):=by unfold has;rw[ā]
def qZ(d:Ĥ)(b:i8)(c e a:M):(lf (put d) e).cand.getD a []=if a<b.bJ.length then(if a=c then[]else if AA (linked d)=Z then(b.bJ.getD a []).filter (λf=>f !=e)else b.bJ.getD a [])else[]:=by unfold put;rw[mz]
def ea(b:i8)(l:BV)(a:M):(LB take).cand.getD a []=(b.bJ.getD a []).filter (λc=>! l.an (a,c)):=by unfold take;rw[mz];split;rfl;simp only[γ,Á (show b.bJ.length<=a by lia)];rfl
def Bh(b:Ĥ)(a:i8)(c d:M):(TY$ put b).cand.length=a.bJ.length:=by simp[put]
def q3(a:i8)(l:BV):(EF take).cand.length=a.bJ.length:=by simp[take]
def Vs(c:zn (has d)=Z):mu (zn (wE put))<mu d:=by calc wG (j:=b) (by simp[Bh]) (λf=>?_) ?_;rw[bZ,bZ,qZ];split;split;calc CY;split;calc ga Ω;calc AK;calc CY;rw[bZ,bZ,qZ,BZ$ qe c,KC];calc Jt$ oU.J c
def vZ{l:BV}(a:(b,e)∈l)(c:zn (has d)=Z):mu (take d l)<mu d:=by calc wG (j:=b) (by simp[q3]) (λf=>?_) ?_;rw[bZ,bZ,ea];calc ga Ω;rw[bZ,bZ,ea];calc M.lt_of_le_of_ne (ga Ω) λg=>?_;have:=uw.J g e$ oU.J c;simp[a]at this
def ð{a b:Type}{l:List a}{c:a->he b}{d:b}(e:l.findSome? c=LJ):∃f,f∈l/\c f=LJ:=by let⟨f,g,h⟩:=List.exists_of_findSome?_eq_some e;calc⟨f,g,h⟩
def E9(e:wE alone=f4 (f,h)):apt:=by let⟨g,_,b⟩:=ð e;split at b;rename_i i c;cases b;calc Vs$ oU.Q (by rw[c];simp);cases b
def Np(g:wE only=f4 (f,h)):apt:=by
 let⟨i,_,b⟩:=ð g;let⟨j,_,b⟩:=ð b;split at b;rename_i c e;cases b;have:c∈i.1.filter (λc=>DX$ has d):=by rw[e];simp
 calc Vs akP.2;cases b
def Rf(j:wE locked=f4 (f,h)):apt:=by let⟨l,_,b⟩:=ð j;let⟨v,_,b⟩:=ð b;split at b;cases b;let⟨m,_,b⟩:=ð b;simp only at b;split at b;cases b;rename_i g;cases b;have i:=λz=>g$ .X MV;let⟨k,c⟩:=Š _ i;have e:=(υ.J c).2;rw[ξ]at e;calc vZ (χ.Q ⟨k,c,I⟩) e.1
def s6(k:wE subset b=f4 (f,h)):apt:=by let⟨l,_,c⟩:=ð k;let⟨m,_,c⟩:=ð c;simp only at c;split at c;cases c;rename_i i;cases c;let⟨n,e⟩:=Š _ (λz=>i MV);let⟨o,_,g⟩:=ŧ.J e;let⟨p,j,I⟩:=χ.J g;calc vZ e (υ.J j).2
def Nq(c:wE fish b=f4 (f,h)):apt:=by let⟨e,_,g⟩:=ð c;let⟨i,_,g⟩:=ð g;let⟨j,_,g⟩:=ð g;rw[vU]at g;let⟨k,g⟩:=g;have l:=LM Prod.snd$ Ü g;simp only at l;rw[<-l];let⟨m,n⟩:=Š _ (λz=>k MV);have o:=(υ.J n).2;rw[ξ]at o;calc vZ (χ.Q ⟨m,n,I⟩) o.1
def q4(b:wE next=f4 (f,h)):apt:=by let⟨c,e,g⟩:=ð b;subst g;simp only[ν,ã,GS]at e;rcases e with b|b|b|b|b|b|b|b;calc E9 b.symm;calc Np b.symm;calc Rf b.symm;calc s6 b.symm;calc Nq b.symm;calc s6 b.symm;calc Nq b.symm;calc s6 b.symm
def lK(b:Ĥ):∀(c d:M)(a:i8),mu a<c->mu a<d->lf steps a=v4 steps a
 |0,_,_,e,_=>gt
 |_,0,_,_,e=>gt
 |BD,IG,a,f,g=>by unfold steps;split;rfl;split;rfl;cases h:sK next with
  |none=>rfl
  |some i=>let⟨j,k⟩:=i;have l:=q4 h;simp only[Op (lf lK d k)]
def J7(b:Ĥ)(a:i8):vS:=(steps b (mu a+1) a).1
def Vt:vS:=[110,111,110,101,10]
def Vu:vS:=[100,111,110,101,10]
def Rg:vS:=[115,116,117,99,107,10]
def Bi(a:Ĥ)(b:i8):io J7=if io dead=Z then Vt else if b.cells.all (λc=>c !=0)=Z then Vu else match io next with|none=>Rg|f4 (d,e)=>d++AM J7:=by unfold J7;rw[steps];split;rfl;split;rfl;cases f:io next with
|none=>rfl
|some g=>let⟨d,e⟩:=g;have h:=q4 f;simp only[lK a _ (mu e+1) e (by omega) (by omega)]
def hH:∀{l:f8}{m:M},(∀a,BB l->a<=m)->l.sum<=l.length*m
 |[],_,_=>mo
 |a::l,m,b=>by have c:=JW b;have:=hH λd e=>Fk$ BI e;simp only[ĩ,Β,yo];lia
def wH(a:Ĥ):mu (opens a)<=FK*a.n:=by unfold mu opens;have:=hH (l:=(BR FK λb=>if arP≠0 then[]else asL (λc=>!((ι FK).any λd=>LP linked&&IM a.cells.getD==c))).q ą) (m:=a.n) ?_;simpa using this;intro e f;let⟨g,h,I⟩:=χ.J f;let⟨b,_,I⟩:=χ.J h;split;calc CY;calc OD ?_;simp[digits]
def lL(a:Ĥ):(reasoned a).1=J7 a (opens a):=by unfold reasoned J7;have b:=wH a;rw[im$ lK a _ (mu (opens a)+1) _ ?_];lia
end dO
namespace Sq
open dO
variable{i:Type}{a c h:M}{e:f8}{f:At}
structure Ž where
 n:M
 cA:M
 units:f8
 lM:M
 qf:M->M
structure ŏ where
 ζ:f8
 wants:AU
 Ú:f8
 ĵ:M
 ž:At
def bL(b:Ž)(P a:M):M:=(BS a).ah (λc d=>c&&&b.qf d) P
def ŏ.put(d:Ž)(b:ŏ)(c a:M):ŏ:={b with ζ:=b.ζ.set c$ õ (bL d (CU b.ζ.getD) a) a,wants:=b.wants.set c$ (b.wants.getD c []).filter λe=>e&&&a==0,Ú:=b.Ú.set c (CU b.Ú.getD|||a)}
def ŏ.wI(b:Ž)(c:ŏ)(d a:M):nm:=sB (bL b (IM c.ζ.getD) a&&&a=a)
def ŏ.aV(b:ŏ)(a:M):f8:=FX b.ζ.length λc=>CU b.ζ.getD&&&a !=0
def dz(l:f8):M:=l.ah (·||| ·) 0
def ŏ.dE(b:ŏ)(a:f8):ŏ:={b with ζ:=BR b.ζ.length λc=>õ (CU b.ζ.getD) (dz a)|||SG}
def jk(a:M):f8->M->FQ M|[],b=>ZC|c::d,b=>if(a&&&c)&&&((a&&&c)-1)=0 then(if a&&&c=0 then none else wE jk (b|||(a&&&c)))else wE jk b
def qg(b c a:M)(d:f8):jk b (c::d) a=if(b&&&c)&&&((b&&&c)-1)=0 then(if b&&&c=0 then none else v4 jk (a|||(b&&&c)))else v4 jk a:=I
def cH(l:AX i)(c:i)(b:WQ):l.drop a=mt l.getD::l.drop DC:=by rw[As b,γ,δ b];rfl
def aW(a:ŏ):M->FQ (f8×M×At)|0=>f4 ([],0,a.ž)|BP=>match io aW with|none=>none|f4 (c,d,e)=>if kw WZ=AW e.getD then f4 (c++[0],d,e)else match jk WZ (a.wants.getD b []) 0 with|none=>none|MO=>if f&&&d=0 then f4 (c++[f],d|||f,e.set b$ kw WZ)else none
variable{b:ŏ}
def nD(c:hm (sK aW)):∀d,hm (aW b (a+d))|0=>c|IG=>by show hm (match aW b (a+d)with|none=>none|f4 (e,f,g)=>_);rw[re nD]
def nE(d:sK aW=f4 (e,c,f)):aW b DC=(if kw adc=aio then f4 (e++[0],c,f)else match jk adc (b.wants.getD a []) 0 with|none=>none|HK=>if g&&&c=0 then f4 (e++[g],c|||g,f.set a$ kw adc)else none):=by rw[aW,d]
def eV :∀{e:M}{c:f8}{a:M}{d:At},zn aW=f4 (c,a,d)->c.length=e/\d.length=b.ž.length:=by intro e;induction e with
|zero=>intro c a d f;cases f;calc ln I
|HW e g=>intro c a d f;unfold aW at f;cases h:zn aW with
 |none=>rw[h]at f;cases f
 |some i=>rw[h]at f;let⟨j,k⟩:=g h;simp only at f;split at f;cases f;simp[j,k];split at f;cases f;split at f;cases f;simp[j,k];cases f
structure Wf(L:Ž)(B:ŏ):Prop where
 n9:L.n<=9
 lp:B.ζ.length=L.n
 lw:B.wants.length=L.n
 ls:B.Ú.length=L.n
 lc:B.ž.length=L.n
 bp:∀a,HF B.ζ.getD<RV
 bs:∀a,HF B.Ú.getD<RV
 bo:B.ĵ<RV
 bw:∀a,PP (B.wants.getD a []).length
variable{d:Ž}
def Wf.nn(a:NI Wf):d.n*d.n<=100:=by have:=Ë a.n9 a.n9;lia
def hg(b:a<HG):a&&&h<HG:=ĝ yw b
def Rh(b:Ž)(P a:M):bL b P a<=P:=by unfold bL;generalize BS a=l;induction l generalizing P with
|nil=>calc AK
|cons c d e=>calc É (e _) yw
def ś(l:AX i)(a b:M)(c d:i):v4 (mt l.set).getD=if b=a/\WQ then c else v4 l.getD:=by rw[γ,γ,U6];by_cases e:NJ;subst e;by_cases f:WQ;simp[f];simp[f];rw[hf e,MA$ e Da.symm]
def Wf.put(e:NI Wf)(f:c<2^(d.n*d.n)):Wf d$ mt$ b.put d:=by calc⟨e.n9,by simp[ŏ.put,e.lp],by simp[ŏ.put,e.lw],by simp[ŏ.put,e.ls],e.lc,λg=>?_,λg=>?_,e.bo,λg=>?_⟩;show(ga b.ζ.set).getD g 0<_;rw[ś];split;calc ĝ (É (ga fm) (AY Rh))$ e.bp a;calc e.bp g;show(ga b.Ú.set).getD g 0<_;rw[ś];split;calc vz (e.bs a) f;calc e.bs g;show ZO ((ga b.wants.set).getD g []);rw[ś];split;calc OD$ e.bw a;calc e.bw g
def ŏ.ù(c:Ž)(b:ŏ)(d a:M):ŏ:=EK$ ŏ.put c {ζ:=b.ζ.q λe=>õ e a,wants:=b.wants,Ú:=b.Ú,ĵ:=õ b.ĵ a,ž:=zs b.ζ}
def Ř(c:Ž)(a:M)(b:ŏ):M->ŏ×nm|0=>({b with ĵ:=õ b.ĵ a},Z)|IG=>match LP (Ř c) with|(e,gl)=>(e,gl)|(e,Z)=>if IM b.ζ.getD&&&a=0 then(e,Z)else(re e.put (IM b.ζ.getD&&&a),re e.wI (IM b.ζ.getD&&&a))
variable{j:ŏ}
def hI(e:MB (EK Ř)=(b,gl)):∀f,EK Ř j (c+f)=(b,gl)|0=>e|f+1=>by show(match EK Ř j (c+f)with|(b,gl)=>(b,gl)|(b,Z)=>_)=_;rw[py hI]
def nF(e:sK (DB Ř)=(j,Z)):DB Ř b DC=if adc&&&c=0 then(j,Z)else(EK j.put (adc&&&c),EK j.wI (adc&&&c)):=by rw[Ř,e]
def ky{dP:M}(a:NI Wf):∀e,Wf d (zn$ Ř d dP).1|0=>⟨a.n9,a.lp,a.lw,a.ls,a.lc,a.bp,a.bs,aqj a.bo,a.bw⟩|LH=>by have c:=AM$ ky (dP:=dP);unfold Ř;split;rename_i f g;rw[g]at c;calc c;rename_i f g;rw[g]at c;split;calc c;calc c.put$ hg$ a.bp e
def Ų(l:f8):M:=(l.ah (λ(a:IE) b=>(a.1|||b,a.2|||(a.1&&&b))) (0,0)).1
def ź(l:f8):M:=(l.ah (λ(a:IE) b=>(a.1|||b,a.2|||(a.1&&&b))) (0,0)).2
inductive ec(L:Ž):ŏ->nm->Ch ŏ|ahW{B:ŏ}:B.ĵ=0->VS ec Z B|dead{B:ŏ}:B.ĵ≠0->ahf≠B.ĵ->HA (VS ec) B|adR{B:ŏ}:apV (ahf≠ź B.ζ->pr atW.2->HA (VS ec) atW.1)|dP{B c:ŏ}{r:nm}:apV (ahf≠ź B.ζ->atW.2=Z->ec L atW.1 r c->VS ec r c)|Vv{B:ŏ}(b:At):apV (ahf=ź B.ζ->hm (aW B L.n)->HA (VS ec) {B with ž:=b})|b4{B:ŏ}{dY:f8}{a:M}{b:At}:apV (ahf=ź B.ζ->aW B L.n=f4 (dY,a,b)->(∀d,BH dY->d=0)->VS ec Z {B with ž:=b})|dY{B c:ŏ}{r:nm}{dY:f8}{a:M}{b:At}:apV (ahf=ź B.ζ->aW B L.n=f4 (dY,a,b)->(∃d,BH dY/\d≠0)->ec L (({B with ž:=b}:ŏ).dE dY) r c->VS ec r c)
def Fwd(b:Ž)(a c:ŏ):Prop:=∀d e,s3 (sK ec)->s3 (lf ec)
def Vw(a:ŏ):M:=a.ζ.sum
def sub(a b:M):Prop:=∀c,FR a.o->FR b.o
def sub_le(b:mt sub):a<=c:=by
 have d:a&&&c=a:=dO.ext λe=>by rw[Ã];cases f:a.o e with
 |gl=>rfl
 |Z=>rw[py b];rfl
 rw[<-d];calc M.and_le_right
def Kp{c:M}(e:FV sub)(d:FR h.o)(b:pr (a.o c)):a<h:=by
 have:=sub_le e;have:a≠h:=λf=>by rw[f,d]at b;cases b
 lia
def wJ(a:M):sub a a:=λ_ b=>b
def Bj(a b:M):sub SK a:=λc d=>by rw[Ã,ξ]at d;calc d.1
def q5(a b:M):sub (io õ) a:=λc d=>by rw[í,ξ]at d;calc d.1
def ia(b:mt sub)(d:FM sub):FV sub:=λe z=>d e$ EV z
def Bk(b:AA sub)(d:sub h a):sub (c|||h) a:=λe z=>by rw[ý,Ą]at z;calc z.elim EV$ d e
def Kq(b:Ž)(P a:M):sub (bL b P a) P:=by unfold bL;generalize BS a=l;induction l generalizing P with
|nil=>calc wJ _
|cons c d e=>calc ia (e _)$ ga Bj
def hJ(l:f8)(c a:M):SH (l++[c])=if WQ then YE else if a=l.length then c else 0:=by rw[γ,List.getElem?_append];split;rw[γ];split;rename_i d b;subst b;simp;rw[Á (by simp;lia)];rfl
def s7(l:f8)(a:M):∀b,b<=l.length->(NZ (Ų (l.take b))↔ ∃c,c<b/\NZ akO)/\(NZ (ź (l.take b))↔ ∃c d,c<d/\d<b/\NZ akO/\ZW l.getD a=Z)
 |0,_=>by simp[Ų,ź]
 |BP,e=>by
   let⟨f,g⟩:=im (io (s7 l));have h:Ų (l.take BP)=Ų (l.take b)|||OT:=by unfold Ų;rw[å,im δ,ŭ,Þ,γ,δ _];rfl
   have i:ź (l.take BP)=ź (l.take b)|||(Ų (l.take b)&&&OT):=by unfold Ų ź;rw[å,δ _,ŭ,Þ,γ,im δ];rfl
   rw[h,i,ý,ý,Ã,Ą,Ą,ξ,f,g];constructor;constructor;rintro (⟨c,j,z⟩|z);calc⟨c,gt,z⟩;calc⟨b,gt,z⟩;rintro ⟨c,j,z⟩;by_cases k:c=b;subst k;calc MV;calc .D ⟨c,gt,z⟩;constructor;rintro (⟨c,d,m,n,z⟩|⟨⟨c,j,z⟩,o⟩);calc⟨c,d,m,gt,z⟩;calc⟨c,b,j,gt,z,o⟩;rintro ⟨c,d,m,n,z,o⟩;by_cases k:d=b;subst k;calc .X ⟨⟨c,m,z⟩,o⟩;calc .D ⟨c,d,m,gt,z,o⟩
def fo(l:f8)(a:M):NZ (Ų l)↔ ∃b,aiy/\NZ OT:=by have:=(RZ (GV s7) AK).1;rwa [Ò]at this
def oV(l:f8)(a:M):NZ (ź l)↔ ∃b c,b<c/\c<l.length/\NZ OT/\NZ akO:=by have:=(RZ (GV s7) AK).2;rwa [Ò]at this
def jY{L:Ž}{B:ŏ}:∀c,c<=B.ζ.length->(at6 c).1.ζ.length=B.ζ.length/\(∀b,sub (AW (at6 c).1.ζ.getD) (AW B.ζ.getD))/\((at6 c).2=Z->(∀b,c<=b->AW (at6 c).1.ζ.getD=AW B.ζ.getD)/\ ∀b i,b<c->(AW B.ζ.getD).o i=Z->a.o i=Z->pr ((AW (at6 c).1.ζ.getD).o i))
 |0,_=>⟨I,λb=>wJ _,λ_=>⟨λb _=>I,λb i e=>kt e$ adD _⟩⟩
 |BD,r=>by let⟨f,d,l⟩:=im (jY (B:=B) c);cases o:at6 c with
  |mk j ok=>cases ok with
   |gl=>have p:=hI o 1;rw[p];rw[o]at f d;calc⟨f,d,λz=>s4 VI⟩
   |Z=>rw[o]at f d l;let⟨m,n⟩:=l I;rw[nF o];split;rename_i q;calc⟨f,d,λ_=>⟨λb e=>im$ m b,λb i e g h=>?_⟩⟩;by_cases s:b=c;subst s;have:=LM (λt=>t.o i) q;simp only[Ã,g,h,eA]at this;cases this;calc ww$ im$ LR n;have k:∀b,AW (j.put L c _).ζ.getD=if b=c/\c<j.ζ.length then õ _ (CU B.ζ.getD&&&a)else SE:=λb=>AY$ ga ś;calc⟨by simp[ŏ.put,f],XZ,λ_=>⟨λb e=>?_,λb i e g h=>?_⟩⟩;rw[k];split;rename_i z;rw[Da];calc ia (ga q5)$ ia (AY Kq)$ d c;calc d b;rw[k,IV];calc im$ m b;rw[k];split;rename_i z;rw[í,Ã,<-Da,g,h];simp;calc ww$ im$ LR n
def Ri(a:NI Wf)(c:Ų b.ζ≠ź b.ζ)(ok:(Ř d (õ (Ų b.ζ) (ź b.ζ)) b d.n).2=Z):Vw (Ř d (õ (Ų b.ζ) (ź b.ζ)) b d.n).1<Vw b:=by
 let⟨e,f,g⟩:=jY d.n (by rw[a.lp];calc AK);let⟨_,h⟩:=g ok;let⟨i,j⟩:∃i,(Ų b.ζ).o i=Z/\pr ((ź b.ζ).o i):=by apply Κ;intro k;apply c;apply dO.ext;intro i;cases l:(Ų b.ζ).o i with
 |gl=>cases m:(ź b.ζ).o i with
  |gl=>rfl
  |Z=>let⟨n,o,_,p,z,_⟩:=(ga oV).J m;rw[(ga fo).Q ⟨n,gt,z⟩]at l;cases l
 |Z=>cases m:(ź b.ζ).o i with
  |Z=>rfl
  |gl=>exact DM ⟨i,l,m⟩ k
 let⟨n,q,z⟩:=(ga fo).J j.1;calc dO.wG e (λr=>sub_le$ f r)$ Kp (f n) z$ h n i (by rw[<-a.lp];calc q) z ?_;rw[í,j.1,j.2];rfl
def s8 :∀{d:f8}{c b:M},wE jk c=ZC->AA sub->sK sub
 |[],c,b,e,f=>by cases e;calc f
 |g::h,c,b,e,f=>by rw[qg]at e;split at e;split at e;cases e;calc s8 e$ Bk f$ ga Bj;calc py s8
def nI :∀{k:M}{c:f8}{d:M}{p:At},aW b k=f4 (c,d,p)->(∀a,sub (HF c.getD) adc)/\(∀e,d.o e=Z↔∃a,(HF c.getD).o e=Z)/\ ∀a h e,a≠h->(HF c.getD).o e=Z->pr (FO (c.getD h) e):=by intro k;induction k with
|zero=>intro c d p i;cases i;calc⟨λa e z=>by simp at z,λe=>mo,λa h e _ z=>by simp at z⟩
|HW k t=>intro c d p i;cases h:aW b k with
 |none=>have:=nD h 1;rw[this]at i;cases i
 |some D=>
  let⟨f,G,H⟩:=D;let⟨r,q,s⟩:=t h;have u:=(eV h).1;rw[nE h]at i;split at i;cases i;have m:∀a,SH (f++[0])=aio:=λa=>by rw[hJ];split;rfl;rename_i z;rw[γ (l:=f),Á$ M.not_lt.J z];split<;>rfl
  calc⟨λa=>by rw[m];calc r a,λe=>by rw[q];simp only[m],λa h e n z=>?_⟩;rw[m]at z|-;calc FV s e n z;split at i;cases i;rename_i g v;split at i;rename_i x;cases i;have y:=s8 v (λe z=>by simp at z);have m:∀a,SH (f++[g])=if a=k then g else aio:=λa=>by rw[hJ,u];by_cases j:a=k;subst j;simp;split;rfl;rename_i z;rw[γ,SC];rfl
  have A:f.getD k 0=0:=by rw[γ,SC];rfl
  have o:∀a e,g.o e=Z->pr (aio.o e):=λa e z=>by cases j:aio.o e with
  |gl=>rfl
  |Z=>have:=LM (λJ=>J.o e) x;simp only[Ã,z,(q e).Q ⟨a,j⟩,eA]at this;cases this
  calc⟨λa=>?_,λe=>?_,λa h e n z=>?_⟩;rw[m];split;rename_i j;rw[j];calc y;calc r a;rw[ý,Ą,q];constructor;rintro (⟨a,z⟩|z);calc wn a;rw[m,DP (λj=>by rw[j,A]at z;simp at z)];calc z;calc⟨k,by rw[m,KC];calc z⟩;rintro ⟨a,z⟩;rw[m]at z;split at z;calc MV;calc .D ⟨a,z⟩;rw[m]at z|-;split at z;rename_i j;rw[DP λB=>n$ j.trans B.symm];calc o h e z;split;cases j:g.o e with
  |gl=>rfl
  |Z=>rw[AM o j]at z;cases z
  calc FV s e n z;cases i
def vJ(l:f8):∀(b a:M),NZ ((l.ah (·||| ·) b))↔b.o a=Z\/∃c,NZ akO:=by induction l with
|nil=>intro b a;simp
|cons d e f=>intro b a;rw[ĥ,f,ý,Ą];constructor;rintro ((z|z)|⟨c,z⟩);calc RR;calc .X ⟨0,z⟩;calc .X ⟨BD,z⟩;rintro (z|⟨c,z⟩);calc .D RR;cases c with
 |zero=>calc .D MV
 |HW c=>calc .X ⟨c,z⟩
def fq(l:f8)(a:M):NZ (dz l)↔ ∃b,NZ OT:=by unfold dz;rw[vJ];simp
def nJ(c:ŏ)(a:f8)(b:M):AW (c.dE a).ζ.getD=if b<c.ζ.length then õ (AW c.ζ.getD) (dz a)|||ae3 else 0:=by unfold ŏ.dE;rw[γ,Δ];by_cases d:b<c.ζ.length;rw[ë d,Sc];rfl;rw[Á abe,TB];rfl
def gI(g:sK aW=f4 (e,c,f))(d:M):sub (IM (({b with ž:=f}:ŏ).dE e).ζ.getD)$ IM b.ζ.getD:=by rw[nJ];split;calc Bk (ga q5)$ (nI g).1 d;intro h z;simp at z
def Rj(g:NI Wf)(i:Ų b.ζ=ź b.ζ)(c:aW b d.n=f4 (e,a,f))(h:∃j,j∈e/\j≠0):Vw (({b with ž:=f}:ŏ).dE e)<Vw b:=by
 let⟨k,l,m⟩:=nI c;let⟨j,n,o⟩:=h;let⟨p,q⟩:=â.J n;have r:e.getD p 0=j:=by rw[γ,q];rfl
 let⟨s,t⟩:=gh o;rw[<-r]at t;have u:=(eV c).1;have v:p<b.ζ.length:=by have:=(φ.J q).1;rw[g.lp];lia
 have x:(ź b.ζ).o s=Z:=by rw[<-i];exact(ga fo).Q ⟨p,v,DQ$ k p⟩
 let⟨y,z,A,B,D,G⟩:=(ga oV).J x;let⟨H,J,L,N⟩:∃H,H<b.ζ.length/\H≠p/\FO (b.ζ.getD H) s=Z:=by by_cases O:y=p;calc⟨z,B,gt,G⟩;exact⟨y,gt,O,D⟩
 calc dO.wG (by simp[ŏ.dE]) (λl=>sub_le$ gI c l)$ Kp (gI c H) N ?_;rw[nJ,ii J,ý,í,(fq e s).Q$ QZ t,m p H s (Ne.symm L) t];simp
def Nt(c:NI Wf)(g:aW b d.n=f4 (e,a,f)):Wf d$ ({b with ž:=f}:ŏ).dE e:=⟨c.n9,by simp[ŏ.dE,c.lp],c.lw,c.ls,by show f.length=d.n;rw[(eV g).2,c.lc],λh=>ĝ (sub_le (ww gI))$ c.bp h,c.bs,c.bo,c.bw⟩
def q6(units:f8)(a:M):M:=RQ (units.ah (λl b=>if b&&&a=0 then l else l|||b)) a
def f5(b:M)(units:f8)(a:M):Ž:=⟨b,2^(b*b)-1,units,a,λc=>õ (2^(b*b)-1)$ BL q6 HG⟩
def v3(a:f8)(b:M):M:=Û$ FX a.length λc=>SG !=0&&SG !=b
def nM(b:M)(a:AU):M:=(a.drop (3*b)).ah (λc d=>c|||Û d) 0
def bU(a:Ž)(b:f8):ŏ:={ζ:=BR a.n λc=>õ a.cA$ v3 b BD,wants:=Λ a.n a.units,Ú:=Λ a.n 0,ĵ:=a.cA,ž:=Λ a.n (-1)}
structure Sh where
 ζ:f8
 Ú:f8
 ĵ:M
def Sh.Ă(S:Sh)(a:M):f8:=FX S.ζ.length λb=>WE&&&a !=0
def Sh.put(c:Ž)(S:Sh)(b a:M):Sh:={ζ:=(S.ζ.q λd=>õ d KP).set b (õ WE KP&&&c.qf a),Ú:=S.Ú.set b (AW S.Ú.getD|||KP),ĵ:=õ S.ĵ KP}
def Sh.okD(b:Ž)(S:Sh)(a:M):nm:=b.units.all λc=>(HF S.ζ.getD|||HF S.Ú.getD)&&&c !=0
def Sh.dead(a:Ž)(S:Sh):nm:=(ι a.n).any (λb=>! io S.okD)||sB (dz S.ζ≠S.ĵ)
def Sh.hh(S:Sh)(a:IE):Sh:={S with ζ:=S.ζ.set a.1$ RQ (S.ζ.getD a.1) a.2}
def Sh.gJ(a:Ž)(S:Sh)(gJ:BV):Sh:=gJ.ah (λ(S:Sh)(b:IE)=>S.put a EM b.2) S
def Sh.take(c:Ž)(S:Sh)(b a:BV):Sh:=a.ah Sh.hh$ Sh.gJ c S b
def nO(S:Sh)(a:M)(l:f8):f8:=l.filter λb=>sB ((S.Ă GU).length<=a)
def bj(S:Sh)(b a:M):f8:=(Ć a$ nO S a$ BS b).q Û
def dF(a:BV):M:=a.ah (λb c=>b|||c.2) 0
def Ŭ(S:Sh)(a:M)(b:f8):BV:=(b.filter λc=>anT !=0).q λc=>(c,anT)
def aO(a:f8)(b:M):f8:=FX a.length λc=>SG&&&b !=0
def kz(a b:f8):M:=b.ah (λc d=>c|||IM a.getD) 0
def lnB(a b:f8):f8:=a++([32]++ē [32] (b.q (λc=>Å BD)))
def dG(a b:M):f8:=Ê "r"++(GF (b/a)++(Ê "c"++GF (b%a)))
def cI(b a:M):f8:=ē [32]$ JH BS$ dG b
def hA(b a:M):f8:=if a<b then Ê "row "++Å DC else if a<2*b then Ê "column "++GF (a-b)else if a<3*b then Ê "region "++GF (a-2*b)else Ê "diagonal "++GF (a-3*b)
def eG(S:Sh)(a b:M):f8->FQ IE|[]=>none|c::d=>if ati≠0/\anT≠0/\õ anT b=0 then f4 (c,ati)else LP (eG S)
def hL(c:M)(S:Sh)(units:f8)(b a:M):FQ IE:=if AW units.getD&&&HF units.getD=0 then none else eG S (AW units.getD) (HF units.getD) (ι c)
def jl(d c b e a:M):f8:=GF e++(Ê " of "++(DB hA++(Ê " in "++(NI hA++(Ê ": "++EK cI)))))
def ft(b:M)(S:Sh)(units:f8)(a:M):f8->FQ (M×IE)|[]=>none|c::d=>if a=c then wE (BL (ft b S)) else match mt (BL (hL b S)) with|f4 (e,f)=>f4 (c,e,f)|none=>wE$ BL$ ft b S
def gB(a:M)(S:Sh)(units:f8):f8->FQ (M×M×IE)|[]=>none|LY=>match BL (ft a S) b (ι units.length)with|f4 (d,e,f)=>f4 (b,d,e,f)|none=>BL (gB a S) c
def yH(c a d:M)(b:f8):f8:=AA cI++([61]++(GF d++([32]++b)))
def hM(S:Sh):f8->FQ IE|[]=>none|a::b=>if QG (S.Ă KP) then f4 (a,(S.Ă KP).getD 0 0)else hM S b
def gi(S:Sh)(a:M):f8->FQ IE|[]=>none|LY=>if WE&&&a≠0/\(WE&&&a)&&&((WE&&&a)-1)=0 then f4 (b,WE&&&a)else mt (gi S)
def hn(a:M)(S:Sh)(units:f8):f8->FQ (M×IE)|[]=>none|LY=>match gi S (AW units.getD) (ι a)with|f4 (d,e)=>f4 (b,d,e)|none=>BL (hn a S) c
abbrev ĳ:M:=2305843009213693951
def eW(l:f8)(a:M):f8:=if l.an a then l else l++[a]
def dZ(l units:f8)(a b:M):f8:=units.ah (λl c=>if c&&&a=0 then l else if c&&&b=0 then eW l (AA õ|||b)else eW l 0) l
def fS(a b:M):M:=((DD-GI)%jp ĳ).aj
def fu(a b c:M):f8:=BR FY λd=>fS (b/2^d%2) (c/2^d%2)
def Ķ(li a:f8)(b:M):f8:=if AW li.getD=0 then li else BR li.length (λc=>fS aii (AW li.getD*SG))
def ho(l:f8)(b:M)(a:f8):f8:=a.ah (λl c=>l.set c BP) l
def iv(a:M)(st:f8)(b:M):f8:=(ι b).ah (λl c=>ho l c$ BS$ CU st.getD)$ Λ FY 0
end Sq
namespace Sq
open dO Sw27
variable{c e h n:M}{l:Type}{d:Ĥ}{f:f8}{b:Ž}{a i:ŏ}{j m:M->M}
def kA{a:Type}[OF a]:∀{l b:List a},l.ar->(∀c,c∈l->c∈b)->l.length<=b.length|[],_,_,_=>CY|c::l,b,d,e=>by let⟨f,g⟩:=ñ.J d;have h:=kA g λi j=>(List.mem_erase_of_ne (λ(k:i=c)=>f (by rw[<-k];calc j))).Q$ e i$ BI j;have m:=s4$ e c;rw[List.length_erase_of_mem m]at h;have:=Jt m;simp only[Β];lia
def pJ{l:f8}{n:M}(a:l.ar)(e:PZ n)(b:∀f,f∈l->1<=f/\f<=n)(d:c<n):BD∈l:=by apply Κ;intro g;have:=kA (ñ.Q ⟨g,a⟩) (λf h=>by rcases ν.J h with i|i;calc χ.Q ⟨c,ψ.Q d,i.symm⟩;have:=DF b;calc χ.Q ⟨f-1,im ψ.Q,gt⟩);simp at this;lia
def abH[OF l]{a f:AX l}(b:l->l)(c:a.ar)(d:∀g,g∈a->MM∈f)(e:∀g,g∈a->∀h,h∈a->MM=b h->g=h):a.length<=f.length:=by
 have i:=ç.Q$ Ŋ.Q$ aF (λ{g h} j k m n=>m$ e g j h k n)$ ç.J c;have:=kA i λh k=>by let⟨g,j,I⟩:=χ.J k;exact d g j
 simpa using this
abbrev q0(a:Ĥ):Ĥ:=nt a []
def nQ(a:Ĥ)(b:f8):Prop:=b∈cf (q0 a)
def br :DS nQ↔f.length=d.n*d.n/\(∀a,a<d.n*d.n->1<=aio/\aio<=d.n)/\ ∀b c,lf (linked d)=Z->acV≠agE:=by unfold nQ;rw[hF,wB];constructor;rintro ⟨e,g,h⟩;calc⟨e,λa i=>⟨(IP g).1,lv$ IP g⟩,λb c j=>lf h (h_ j).1 (h_ j).2 j⟩;rintro ⟨e,g,h⟩;calc⟨e,λa i=>⟨(IP g).1,(IP g).2,GQ⟩,λb c _ _ j=>lf h j⟩
def oW(a:d.cells.length=d.n*d.n):f∈cf d↔DS nQ/\∀b,b<d.n*d.n->AW d.cells.getD=0\/AW d.cells.getD=acV:=by rw[hF,wB,br];constructor;rintro ⟨c,e,g⟩;calc⟨⟨c,λb h=>⟨(e b h).1,lv$ e b h⟩,λi j k=>up g (h_ k).1 (h_ k).2 k⟩,λb h=>wS$ e b h⟩;rintro ⟨⟨c,e,g⟩,l⟩;calc⟨c,λb h=>⟨(e b h).1,(e b h).2,l b h⟩,λi j _ _ k=>KB g⟩
def qh(c:M)(a:f8)(b:M):Prop:=∀d,d<c->∃e,b.o e=Z/\FI a.getD=IG/\∀f,UN b.o->a.getD f 0=IG->f=e
structure aE(q:Ĥ)(L:Ž):Prop where
 n:L.n=q.n
 n2:2<=L.n
 n9:L.n<=9
 cA:L.cA=RV-1
 bnd:∀a,BB L.units->a<RV
 exact:∀b,nQ q b->∀a,BB L.units->sK (qh L.n)
 plain:∀a,BB (cE q)->Û a∈L.units
 qf:∀c d,c<ZM->((L.qf c).o d=Z↔d<ZM/\∀a,BB L.units->FR a.o->a.o d=Z->d=c)
 len:PP L.units.length
abbrev ŏ.P(a:ŏ)(b c:M):Prop:=FR WZ.o
abbrev ŏ.S(a:ŏ)(b c:M):Prop:=FR (AW a.Ú.getD).o
abbrev ŏ.O(a:ŏ)(b:M):Prop:=FE a.ĵ.o
structure ú(L:Ž)(B:ŏ):Prop where
 wf:VS Wf
 so:∀a b,io B.S->¬B.O b
 sd:∀a c b,io B.S->Ev B.S->a=c
 st:∀b,b<ZM->B.O b\/∃a,io B.S
 po:∀a b,io B.P->B.O b
 lk:∀d,BH L.units->∀a b e,FE d.o->io B.S->d.o e=Z->AM B.S\/AM B.P->e=b
 wa:∀a d,BH (B.wants.getD a [])->BH L.units/\d&&&HF B.Ú.getD=0
def mR(a:ŏ)(b:f8):Prop:=∀c d,UW=IG->DB a.P\/DB a.S
def Vx(d:e&&&h=0)(a:FR e.o)(b:FR h.o):DN:=by have:=LM (λz=>z.o c) d;simp[a,b]at this
def dH{a:Type}{l:List a}{b:a}(d:l.length<=c):Ev l.getD=b:=by rw[γ,Á d];rfl
def ú.pd(f:Go)(d:AH a.P):c<b.n:=by apply ŗ;intro g;rw[ŏ.P,dH (by rw[f.wf.lp];calc g)]at d;simp at d
def ú.sn(f:Go)(d:AH a.S):c<b.n:=by apply ŗ;intro g;rw[ŏ.S,dH (by rw[f.wf.ls];calc g)]at d;simp at d
def ú.pc(f:Go)(d:AH a.P):e<amH:=Į (f.wf.bp c) d
def ú.sc(f:Go)(d:AH a.S):e<amH:=Į (f.wf.bs c) d
def c5 :c∈FG Ï↔c<e/\FR h.o:=by unfold Ï;rw[υ,ψ]
def lN(c:Ž)(P a b:M):FE (bL c P a).o↔FE P.o/\∀d,d<100->a.o d=Z->FE (c.qf d).o:=by
 have e:∀(l:f8) P,FE (l.ah (λf d=>f&&&c.qf d) P).o↔FE P.o/\∀d,BH l->FE (c.qf d).o:=by intro l;induction l with
 |nil=>intro P;simp
 |cons g h i=>intro P;rw[ĥ,i,Ã,ξ];simp only[ν,auP,auf]
 unfold bL;rw[e];simp only[c5,and_imp]
def nQ.one(a:RG)(g:DS nQ)(j:EG b.units)(k:FR e.o)(l:e.o h=Z)(i:agE=n+1)(m:HV f.getD=n+1):h=c:=by
 have o:n<b.n:=by
  let⟨p,q,_⟩:=br.J g;have r:c<d.n*d.n:=by apply ŗ;intro z;rw[im dH]at i;lia
  have:=q c r;rw[a.n];lia
 let⟨s,_,_,t⟩:=BQ (on a.exact e j);rw[t c k i,AE$ t h]
def nQ.qf(a:RG)(g:DS nQ)(i:agE=h+1)(j:FI f.getD=h+1):(b.qf c).o e=Z:=by
 have k:∀c,agE=h+1->c<amH:=λc l=>by apply ŗ;intro z;rw[dH (by rw[(br.J g).1,<-a.n];calc z)]at l;lia
 calc(AH a.qf$ k c i).Q ⟨k e j,λm n o p=>up$ BF$ g.one a n⟩
def nR{L:Ž}{dP:M}(s:Wf L a):∀c,c<=L.n->(asx.2=Z->(∀b,AW asx.1.ζ.getD=if b<c then õ (bL L WZ afF) afF else WZ)/\(∀b,AW asx.1.Ú.getD=if b<c then AW a.Ú.getD|||afF else AW a.Ú.getD)/\(∀b i,i∈asx.1.wants.getD b []->i∈a.wants.getD b []/\(b<c->i&&&afF=0))/\asx.1.ĵ=õ a.ĵ dP/\∀b,b<c->bL L WZ afF&&&afF=afF)/\(pr asx.2->∃b,b<c/\bL L WZ afF&&&afF≠afF)
 |0,_=>⟨λ_=>⟨λb=>by simp[Ř],λb=>by simp[Ř],λb i B=>⟨B,λz=>gt⟩,I,λb z=>gt⟩,λz=>by simp[Ř]at z⟩
 |BD,O=>by let⟨j,k⟩:=im (nR (L:=L) (dP:=dP) s c);cases t:asx with
  |mk g ok=>cases ok with
   |gl=>have D:=hI t 1;rw[D];rw[t]at k;calc⟨λz=>by simp at z,λ_=>?_⟩;let⟨b,l,B⟩:=k I;calc⟨b,gt,B⟩
   |Z=>
    rw[t]at j;let⟨m,n,o,u,v⟩:=j I;have p:Wf L g:=by have:=ky (dP:=dP) s c;rw[t]at this;exact this
    have q:CU g.ζ.getD=CU a.ζ.getD:=by rw[m,IV]
    rw[nF t];split;rename_i h;have G:bL L (CU a.ζ.getD) 0=CU a.ζ.getD:=by unfold bL;rw[gH];rfl
    have x:∀H,õ H 0=H:=λH=>by unfold õ;simp
    calc⟨λ_=>⟨XZ,XZ,λb i e=>?_,u,λb l=>?_⟩,λz=>by simp at z⟩;dsimp only;rw[m];by_cases f:b=c;subst f;rw[IV,JO,h,G,x];by_cases d:b<c;rw[Sc,JO];rw[TB,IV];dsimp only;rw[n];by_cases f:b=c;subst f;rw[IV,JO,h];simp;by_cases d:b<c;rw[Sc,JO];rw[TB,IV];let⟨y,A⟩:=LR o e;calc⟨y,λl=>?_⟩;by_cases f:b=c;subst f;rw[h];simp;calc im A;by_cases f:b=c;subst f;rw[h];simp;calc im$ v b;rename_i h;calc⟨λok=>⟨XZ,XZ,λb i e=>?_,u,λb l=>?_⟩,λr=>⟨c,gt,?_⟩⟩;show AW (g.ζ.set c _).getD=_;rw[ś,q];by_cases f:b=c;subst f;rw[BZ$ ln (by rw[p.lp];lia),JO];rw[MA$ f Da,m];by_cases d:b<c;rw[Sc,JO];rw[TB,IV];show AW (g.Ú.set c _).getD=_;rw[ś];by_cases f:b=c;subst f;rw[BZ$ ln (by rw[p.ls];lia),JO,n,IV];rw[MA$ f Da,n];by_cases d:b<c;rw[Sc,JO];rw[TB,IV];have e:i∈(g.wants.set c _).getD b []:=e;rw[ś]at e;split at e;rename_i z;let⟨J,N⟩:=υ.J e;rw[Da];calc⟨(o c i J).1,λ_=>by simpa using N⟩;rename_i z;let⟨y,A⟩:=LR o e;have:b≠c:=λf=>z ⟨f,by rw[p.lw];lia⟩;lia;by_cases f:b=c;subst f;unfold ŏ.wI at ok;rw[q]at ok;calc ag8 ok;calc im$ v b;unfold ŏ.wI at r;rw[q]at r;calc auN r
def v5(a:FR e.o)(b:FR h.o):FR (e&&&h).o:=by rw[Ã,a,b];rfl
def Nu(h:Go)(i:AR mR)(d:CF a.P)(g:FR aqQ.o)(j:1<=agE):agE=LH:=by
 let⟨k,l⟩:∃k,agE=k+1:=anc (agE-1);rw[í,ξ]at g;have m:=re$ h.po e;rcases AI (i c) with z|z;rw[l];by_cases n:k=e;rw[n];have:FR (ź a.ζ).o:=by calc(ga oV).Q ?_;rcases U7 n with w|w;calc⟨k,e,w,by rw[h.wf.lp];calc h.pd d,z,d⟩;exact⟨e,k,w,by rw[h.wf.lp];calc h.pd z,d,z⟩
 rw[this]at g;simp at g;calc kt m$ h.so k c z
def Rk(i:Go)(d:CF a.P)(f:a.P h c)(g:FR aqQ.o):e=h:=by
 apply Κ;intro j;rw[í,ξ]at g;have:FR (ź a.ζ).o:=by calc(ga oV).Q ?_;rcases U7 j with w|w;calc⟨e,h,w,by rw[i.wf.lp];calc i.pd f,d,f⟩;exact⟨h,e,w,by rw[i.wf.lp];calc i.pd d,f,d⟩
 rw[this]at g;simp at g
def gj(a:DS nQ){c:M}(b:c<d.n*d.n):1<=agE:=(Ev$ lv$ br.J a).1
def Kt(a:RG)(g:DS nQ)(h:agE=LH):c<amH:=by apply ŗ;intro z;rw[dH (by rw[(br.J g).1,<-a.n];calc z)]at h;lia
def E_(x:RG)(h:Go)(l0:Ų a.ζ=a.ĵ):(asr.2=Z->ú b asr.1/\∀l,nQ d l->(EF mR↔mR asr.1 l))/\(pr asr.2->∀l,nQ d l->¬EF mR):=by
 have o:=ky (dP:=aqQ) h.wf b.n;let⟨G,H⟩:=nR (L:=b) (dP:=aqQ) h.wf b.n AK;revert G H o;generalize z0:asr=R;generalize i:aqQ=f;intro o G H;have A0:=h.wf.nn;have g:∀{e c},FR (aqY&&&f).o->CF a.P/\FR f.o:=λ{e c} z=>by rw[Ã,ξ]at z;exact z
 have p:∀l,nQ d l->EF mR->∀e c,CF a.P->akO=LH->atO:=λl m j e c m0 v=>by calc(EY lN).Q ⟨m0,λc0 _ n0=>?_⟩;let⟨q,r⟩:=g n0;have:=GH Nu q (by rw[i];calc r)$ gj m (by rw[<-x.n];calc h.pc q);exact GE (m.qf x) v
 constructor;intro ok;let⟨d0,y,o0,p0,r0⟩:=G ok;have A:∀{e c},CF R.1.P->atO/\¬FR (aqY&&&f).o/\CF a.P:=λ{e c} z=>by
  have B:e<b.n:=by apply ŗ;intro w;rw[ŏ.P,dH (by rw[o.lp];calc w)]at z;simp at z
  rw[ŏ.P,d0,ii B,í,ξ]at z;refine⟨Da,λw=>by rw[w]at z;simp at z,((EY lN).J Da).1⟩
 have k:∀{e c},CF R.1.S->CF a.S\/FR (aqY&&&f).o:=λ{e c} z=>by rw[ŏ.S,y]at z;split at z;rwa [ý,Ą]at z;exact RR
 have f0:∀{e c},FR (aqY&&&f).o->CF R.1.S:=λ{e c} z=>by rw[ŏ.S,y,BZ$ h.pd (g z).1,ý,z];simp
 have g0:∀{e c},CF a.S->CF R.1.S:=λ{e c} z=>by rw[ŏ.S,y,BZ$ h.sn z,ý];rw[ŏ.S]at z;rw[z];rfl
 have J:∀c,R.1.O c↔a.O c/\¬FR f.o:=λc=>by rw[ŏ.O,p0,í,ξ];simp
 have D:∀{e c0 c},(aqY&&&f).o c0=Z->atO->FR (b.qf c0).o:=λ{e c0 c} z B0=>((EY lN).J B0).2 c0 (by have:=h.pc (g z).1;lia) z;have kT:∀{e c},FR (aqY&&&f).o->atO:=λ{e c} z=>by have:=r0 e$ h.pd (g z).1;rw[<-this,Ã,ξ]at z;exact Da
 calc⟨⟨o,λe c z=>?_,λe v c z w=>?_,λc s0=>?_,λe c z=>?_,λb0 s e c n N t0 a0 h0=>?_,λe b0 s=>?_⟩,λl m=>⟨Ty,Ty⟩⟩;rw[J];rcases k z with z|z;calc λw=>CF h.so z w.1;calc λw=>w.2 (g z).2;rcases k z with z|z;rcases k w with w|w;calc IQ (h.sd e) z w;calc DM (IQ h.po (g w).1)$ CF h.so z;rcases k w with w|w;calc DM (CF h.po (g z).1)$ IQ h.so w;calc Rk h (g z).1 (g w).1 (by rw[i];calc(g z).2);rcases h.st c s0 with z|⟨e,z⟩;by_cases t:FR f.o;right;rw[ŏ.O,<-l0]at z;let⟨e,_,w⟩:=(ga fo).J z;calc⟨e,f0$ v5 w t⟩;calc .D$ (J c).Q ⟨z,t⟩;calc .X ⟨e,g0 z⟩;let⟨_,r,i0⟩:=A z;calc(J c).Q ⟨CF h.po i0,λw=>r$ v5 i0 w⟩;have u0:a.S e n\/a.P e n:=by rcases h0 with z|z;rcases k z with z|z;calc RR;calc .X (g z).1;exact .X$ wS$ A z
 rcases k t0 with z|z;calc CF (h.lk b0 s) n N z a0 u0;have u:(b.qf c).o n=Z->n=c:=λw=>((x.qf c n$ h.pc (g z).1).J w).2 b0 s N a0;rcases h0 with w|w;rcases k w with w|w;calc(h.lk b0 s e n c a0 w N$ .X (g z).1).symm;calc u$ D z$ kT w;calc u$ D z (A w).1;let⟨v0,w0⟩:=o0 e b0 s;let⟨x0,j0⟩:=h.wa e b0 v0;calc wn x0;rw[y];split;rename_i B;rw[Ju,j0,w0 B];rfl;calc j0;intro c e v;rcases AH j v with z|z;by_cases t:FR f.o;calc .X$ f0$ v5 z t;left;rw[ŏ.P,d0,BZ$ h.pd z,í,CF (AE p j) z v,Ã];simp[t];calc .X$ g0 z;intro c e v;rcases AH j v with z|z;calc .D$ wS$ A z;rcases k z with z|z;calc MV;calc .D (g z).1;intro y0 l m j;let⟨e,B,k0⟩:=H y0;apply k0;apply dO.ext;intro c;rw[Ã];cases z:(aqY&&&f).o c with
 |gl=>simp
 |Z=>let⟨q,r⟩:=g z;have:=GH Nu q (by rw[i];calc r)$ gj m (by rw[<-x.n];calc h.pc q);rw[GE$ CF (AE p j) q];rfl
def Fb{j:Ĥ}(e:aE j b)(k:Go)(g:nQ j f)(h:AR mR){d:M}(i:d<b.n):∀{c:f8}{o:M},(∀l,l∈c->l∈a.wants.getD d [])->(jk at5 c o≠none)/\ ∀m,jk at5 c o=f4 m->∀n,m.o n=Z->o.o n=Z\/f.getD n 0=IG
 |[],o,_=>⟨by simp[jk],λm p n z=>by cases p;calc RR⟩
 |l::q,o,r=>by
   have s:=λo=>t3 (Fb e k g) (o:=o) λv t=>r v$ BI t;let⟨u,x⟩:=k.wa d l (s4 (r l));let⟨y,A,B,_⟩:=on e.exact l u d i;have D:a.P d y:=by rcases h y d B with z|z;calc z;exact(Vx x A z).elim
   have G:=v5 D A;rw[qg];have H:at5&&&l≠0:=λz=>by rw[z]at G;simp at G
   by_cases J:(at5&&&l)&&&((at5&&&l)-1)=0;rw[ii J,hf H];calc⟨(s _).1,λm p n z=>?_⟩;rcases(s _).2 m p n z with w|w;rw[ý,Ą]at w;rcases w with w|w;calc .D w;right;let⟨L,N,O,q⟩:=dX H;have t:at5&&&l=2^L:=by rw[<-q];unfold õ;rw[J];rfl
   rw[t,á]at w G;have r:=ag8 w;have u:=ag8 G;rw[<-r,u];calc B;calc .X w;rw[hf J];calc s _
def Bl{A:Ĥ}(m:aE A b)(B:Go)(n:nQ A f)(o:AR mR):∀j,j<=b.n->∃g c p,aW a j=f4 (g,c,p)/\ ∀i e,FO (g.getD i) e=Z->FI f.getD=i+1
 |0,_=>⟨[],0,a.ž,I,λi e z=>by simp at z⟩
 |j+1,D=>by let⟨g,c,p,t,k⟩:=im (BQ (Bl m B) j);have u:=(eV t).1;rw[nE t];split;calc⟨_,_,_,I,λi e z=>?_⟩;rw[hJ]at z;split at z;calc k i e z;split at z<;>simp at z;let⟨v,x⟩:=im (BQ (Fb m B) (d:=j)) (λ_ z=>z);cases q:ga jk 0 with
  |none=>calc kt q v
  |some h=>
   have r:∀e,h.o e=Z->FI f.getD=j+1:=λe z=>by rcases x h q e z with w|w;simp at w;exact w
   have s:h&&&c=0:=by apply dO.ext;intro e;rw[Ã,eA];cases z:h.o e with
   |gl=>rfl
   |Z=>cases w:c.o e with
    |gl=>rfl
    |Z=>
     let⟨i,l⟩:=(lv (nI t) e).J w;have G:=k i e l;have H:=r e z;have:i=j:=gt
     rw[this,im dH]at l;simp at l
   simp only;rw[ii s];calc⟨_,_,_,I,λi e z=>?_⟩;rw[hJ]at z;split at z;calc k i e z;split at z;rename_i y;rw[y,u];calc r e z;simp at z
def Vy(h:RG)(e:Go){g:At}(i:aW a b.n=f4 (f,c,g)):ú b (({a with ž:=g}:ŏ).dE f)/\ ∀j,nQ d j->(mR a j↔mR (({a with ž:=g}:ŏ).dE f) j):=by
 have k:∀{l m},AE (({a with ž:=g}).dE f).P->AE a.P:=λ{l m} z=>AE (gI i) z;calc⟨⟨Nt e.wf i,e.so,e.sd,e.st,λl m z=>AE e.po$ k z,λn o l m p q r s t=>BW (AE (BQ e.lk) p) s$ t.elim .D λz=>.X$ k z,e.wa⟩,λj u=>⟨λv=>?_,λv=>?_⟩⟩;let⟨x,y,A,B,D⟩:=Bl h e u v b.n AK;rw[i]at B;cases(B);intro m l G;rcases v m l G with z|z;left;rw[ŏ.P,nJ,BZ (by rw[e.wf.lp];calc e.pd z),ý,í,Ą,ξ];cases w:(dz f).o m with
 |gl=>left;calc JA z
 |Z=>
  right;let⟨H,J⟩:=(fq f m).J w;have:=D H m J;have:H=l:=gt
  rw[<-this];exact J
 calc MV;intro m l G;rcases v m l G with z|z;calc .D$ k z;calc MV
def ú.ck(c:Go)(d:At)(e:d.length=b.n):ú b {a with ž:=d}:=⟨⟨c.wf.n9,c.wf.lp,c.wf.lw,c.wf.ls,e,c.wf.bp,c.wf.bs,c.wf.bo,c.wf.bw⟩,c.so,c.sd,c.st,c.po,c.lk,c.wa⟩
structure Stl(q:Ĥ)(L:Ž)(B a:ŏ):Prop where
 fM:ú L a
 J8:∀b,nQ q b->(mR B b↔io mR)
 fin:a.ĵ=0\/Ų a.ζ=a.ĵ
 pp:∀c d,re a.P->re B.P
 ss:∀c d,re B.S->re a.S
 oo:∀d,a.O d->B.O d
def e4(e:RG){g:nm}(f:DL (sK ec)):Go->(g=Z->sK (Stl d) i)/\(pr g->∀h,nQ d h->¬FV mR):=by induction f with
|ahW j=>intro k;calc⟨λ_=>⟨k,λ_ _=>Iff.rfl,.D j,YA,YA,λ_ z=>z⟩,λz=>by cases z⟩
|@dead a j l=>intro k;calc⟨(λz=>by cases z),λ_ h m n=>l ?_⟩;apply dO.ext;intro o;cases z:a.ĵ.o o with
 |Z=>have p:=Į k.wf.bo z;have q:=gj m (c:=o) (by rw[<-e.n];calc p);rcases im (n o (h.getD o 0-1))with w|w;calc(ga fo).Q ⟨_,by rw[k.wf.lp];calc k.pd w,w⟩;calc VI$ k.so _ o w
 |gl=>cases w:(Ų a.ζ).o o with
  |gl=>rfl
  |Z=>let⟨r,_,s⟩:=(ga fo).J w;have:=k.po r o s;rw[ŏ.O,z]at this;cases this
|adR j t l u=>intro k;calc⟨(λz=>by cases z),λ_=>(E_ e k t).2 u⟩
|@dP a i g j t l v f x=>intro k;let⟨y,A⟩:=(E_ e k t).1 v;let⟨D,G⟩:=x y;let⟨H,_⟩:=nR (L:=b) k.wf b.n AK;let⟨J,N,O,p,q⟩:=H v;calc⟨RP,λz h m n=>No (G z)$ (No A).J n⟩;have s:=D z;calc⟨s.fM,λh m=>(No A).trans$ No s.J8,s.fin,λr o z=>?_,λr o z=>s.ss r o ?_,λo z=>?_⟩;calc lv (jY (L:=b) (B:=a) b.n (by rw[k.wf.lp];calc AK)) r o$ s.pp r o z;rw[ŏ.S,N,BZ$ k.sn z,ý,z];rfl;have:=s.oo o z;rw[ŏ.O,p,í,ξ]at this;calc this.1
|@Vv a l j t u J=>intro k;calc⟨(λz=>by cases z),λ_ h m n=>?_⟩;let⟨_,_,_,O,_⟩:=FF (Bl e k) b.n AK;rw[J]at O;cases O
|@b4 a v H l j t u O q=>intro k;calc⟨λ_=>⟨(k.ck l (by rw[(eV O).2,k.wf.lc])),λ_ _=>Iff.rfl,.X t,YA,YA,λ_ z=>z⟩,λz=>by cases z⟩
|@dY a i g v H l j t u O N f x=>intro k;let⟨y,A⟩:=Vy e k O;let⟨D,G⟩:=x y;calc⟨RP,λz h m n=>No (G z)$ (No A).J n⟩;have s:=D z;calc⟨s.fM,λh m=>(No A).trans$ No s.J8,s.fin,λr o z=>gI O r o$ s.pp r o z,s.ss,s.oo⟩
def nV(l:f8)(b a:M):SH (l.q (λc=>Ev õ))=õ YE b:=by rw[γ,γ,Δ];cases l[a]? with
|none=>simp[õ]
|some v=>rfl
def Ku(h:Go)(d:AH a.P)(f g:M):on (lf a.ù Os).P↔on a.P/\g≠e/\(f=c->(b.qf e).o g=Z):=by have i:=h.pd d;have j:=h.pc d;have k:=h.wf.nn;show FO (((a.ζ.q _).set c _).getD f) g=Z↔_;rw[ś];by_cases l:f=c;subst l;rw[BZ$ ln (by simpa[h.wf.lp]using i),í,ξ,lN,nV,í,ξ];simp only[á,ä,alK,BE];constructor;rintro ⟨⟨⟨m,n⟩,o⟩,p⟩;calc⟨m,ar2,λ_=>im (o e) I⟩;rintro ⟨m,n,o⟩;calc⟨⟨⟨m,ar2⟩,λq _ r=>r▸o CA⟩,ar2⟩;rw[MA$ l Da,nV,í,ξ];simp only[á,ä,alK];calc⟨λ⟨m,n⟩=>⟨m,ar2,λz=>VI l⟩,λ⟨m,n,_⟩=>⟨m,ar2⟩⟩
def ae0(h:Go)(g:AH a.P)(d f:M):DS (lf a.ù Os).S↔DS a.S\/(d=c/\f=e):=by have i:=h.pd g;show UN (ZW (a.Ú.set c (CU a.Ú.getD|||Os)).getD)↔_;rw[ś];by_cases j:d=c;subst j;rw[BZ$ ln (by rw[h.wf.ls];calc i),ý,á,Ą,BE];calc⟨λz=>z.elim .D λw=>.X$ ln w.symm,λz=>z.elim .D λw=>.X w.2.symm⟩;rw[MA$ j Da];calc⟨.D,λz=>z.elim id λw=>DM w.1 j⟩
def jZ{L:Ž}{B:ŏ}(c b a:M):(B.ù L c GU).O a↔B.O a/\a≠b:=by show NZ (õ B.ĵ _)↔_;rw[í,ξ,á];simp only[ä,alK];calc⟨λ⟨d,e⟩=>⟨d,λz=>e z.symm⟩,λ⟨d,e⟩=>⟨d,λz=>e z.symm⟩⟩
def ae1(l:f8):aiT QO:=by simp[zs]
def gk(a:c<e):HG<Os:=CD Qy a
def fv(i:RG)(f:Go)(g:a.P h e):ú b (a.ù b h Os)/\ ∀j,nQ d j->(mR (a.ù b h Os) j↔mR a j/\FI j.getD=h+1):=by
 have k:=f.pc g;have l:=GZ$ f.po h;have m:=on Ku;have n:=on ae0;have o:=jZ (L:=b) (B:=a) h e;calc⟨⟨?_,λp q z=>?_,λp r q z w=>?_,λq s=>?_,λp q z=>?_,λt u p q v x y A D=>?_,λp t u=>?_⟩,λj G=>⟨λH=>?_,λH=>?_⟩⟩;calc Wf.put ?_$ gk k;calc⟨f.wf.n9,by simp[f.wf.lp],f.wf.lw,f.wf.ls,by rw[ae1,f.wf.lp],λp=>?_,f.wf.bs,aqj f.wf.bo,f.wf.bw⟩;rw[nV];calc aqj$ f.wf.bp p;rw[o];rcases(FH n).J z with w|w;calc λJ=>FH f.so w J.1;calc λJ=>J.2 w.2;rcases(FH n).J z with N|N;rcases(n r q).J w with O|O;calc f.sd p r q N O;rw[O.2]at N;calc kt l$ f.so p e N;rcases(n r q).J w with O|O;rw[N.2]at O;calc kt l$ f.so r e O;rw[N.1,O.1];by_cases w:q=e;calc .X ⟨h,(n h q).Q$ .X$ ln w⟩;rcases f.st q s with z|⟨p,z⟩;calc .D$ (o q).Q ⟨z,w⟩;calc .X$ QZ$ (FH n).Q RR;let⟨N,O,_⟩:=(FH m).J z;calc(o q).Q ⟨FH f.po N,O⟩;have J:a.S p v\/a.P p v:=by rcases D with z|z;rcases(n p v).J z with w|w;calc .D w;rw[w.1,w.2];calc .X g;exact .X ((m p v).J z).1
 rcases(FH n).J y with z|z;calc GY (FH (EB f.lk)) z A J;rcases D with w|w;rcases(n p v).J w with w|w;rw[z.2]at x|-;rw[Da]at w;calc(EB f.lk h v e A w x$ .X g).symm;rw[z.2,w.2];rw[z.2]at x|-;have:=wS ((m p v).J w) Da;calc EB (GE (i.qf e v k).J).2 x A;have u:t∈(a.wants.set h$ (a.wants.getD h []).filter λt=>t&&&Os==0).getD p []:=u;show _/\t&&&(a.Ú.set h (HV a.Ú.getD|||Os)).getD p 0=0;rw[ś]at u|-;by_cases d:p=h;subst d;rw[BZ$ ln (by rw[f.wf.lw];calc f.pd g)]at u;rw[BZ$ ln (by rw[f.wf.ls];calc f.pd g)];let⟨o,r⟩:=υ.J u;let⟨s,N⟩:=f.wa p t o;calc wn s;rw[Ju,N,show t&&&Os=0 by simpa using r];rfl;rw[MA$ d Da]at u|-;calc EB$ f.wa p;have O:FI j.getD=h+1:=by have x:=gj G (c:=e) (by rw[<-i.n];calc k);rcases im (H e (FI j.getD-1))with z|z;calc QV$ lv$ (m _ e).J z;rcases(n _ e).J z with w|w;calc kt l$ f.so _ e w;have:=w.1;lia
 calc⟨λq p v=>?_,O⟩;rcases H q p v with z|z;calc .D ((FH m).J z).1;rcases(FH n).J z with w|w;calc .X w;rw[w.1,w.2];calc .D g;let⟨H,O⟩:=H;intro q p v;by_cases w:q=e;subst w;have:p=h:=gt
 calc .X$ (FH n).Q$ .X$ JA this;rcases H q p v with z|z;calc .D$ (FH m).Q ⟨z,w,λy=>?_⟩;subst y;calc G.qf i O v;calc .X$ (FH n).Q RR
def ŏ.at(a:ŏ)(b:M):M:=(FX a.Ú.length λc=>(CU a.Ú.getD).o b).headD 0
def uG(f:Go)(d:AH a.S):a.at e=c:=by unfold ŏ.at;have g:c∈FX a.Ú.length (λc=>(CU a.Ú.getD).o e):=υ.Q ⟨(ψ.Q (by rw[f.wf.ls];calc f.sn d)),d⟩;cases h:FX a.Ú.length _ with
|nil=>rw[h]at g;simp at g
|cons i j=>
 have:i∈FX a.Ú.length (λc=>(CU a.Ú.getD).o e):=by rw[h];simp
 calc AH (f.sd i) akP.2 d
def ax :CU ((ι e).q j).getD=if c<e then j c else 0:=by rw[γ,Δ];by_cases a:c<e;rw[ë a,ii a];rfl;rw[Á as2,hf a];rfl
def fw(c a:ŏ)(d:M->M)(b:f8):f8:=BR b.length λe=>if c.ĵ.o e=Z then d (FI b.getD-1)+1 else a.at e+1
def gK(d a:ŏ)(e:M->M)(c:f8)(b:M):AW (AM (fw d) c).getD=if b<c.length then(if FE d.ĵ.o then e (acv-1)+1 else a.at b+1)else 0:=ax
structure Fc(L:Ž)(B a:ŏ)(p r:M->M):Prop where
 ĵ:B.ĵ=a.ĵ
 lt:∀b,b<L.n->p b<L.n
 fM:∀b,b<L.n->r (p b)=b
 lt':∀b,b<L.n->r b<L.n
 ahX:∀b,b<L.n->p (r b)=b
 pl:∀b,b<L.n->a.ζ.getD (p b) 0=AW B.ζ.getD
def Fc.symm(c:ar_):LR Fc a m j:=⟨c.ĵ.symm,c.lt',c.ahX,c.lt,c.fM,λd e=>by rw[<-c.pl _$ s3 c.lt',s3 c.ahX]⟩
def wK(h:Go)(e:AR mR){d:M}(g:a.O c)(i:agE=IG):DB a.P:=(re e i).elim id λz=>kt g$ DB h.so z
def gm(h:Go)(e:AR mR){c d:M}(g:¬a.O c)(i:agE=IG):DB a.S:=(re e i).elim (λz=>DM (DB h.po z) g) id
def wL{h:Ĥ}(e:aE h b)(n:Go)(c:LR ú)(g:ar_)(k:nQ h f)(l:AR mR):nQ h (up (fw a) f)/\mR i (up (fw a) f):=by
 let⟨o,p,q⟩:=br.J k;have r:=e.n;have val:∀s,s<amH->∃t,t<b.n/\(up (fw a) f).getD s 0=t+1/\((a.O s/\i.P t s/\f.getD s 0=m t+1)\/(¬a.O s/\i.S t s)):=λs u=>by
  rw[gK,BZ (by rw[o,<-r];calc u)];by_cases v:a.ĵ.o s=Z;rw[ii v];have:=p s (by rw[<-r];calc u);have x:f.getD s 0-1<b.n:=by rw[r];lia
  have y:=im$ wK n l v (d:=f.getD s 0-1);calc⟨_,g.lt _ x,I,.D ⟨v,?_,?_⟩⟩;rw[ŏ.P,g.pl _ x];calc y;rw[g.fM _ x];lia;rw[hf v];rcases c.st s u with z|⟨t,z⟩;rw[ŏ.O,<-g.ĵ]at z;calc VI v;exact⟨i.at s,by rw[uG c z];calc c.sn z,I,.X ⟨v,by rw[uG c z];calc z⟩⟩
 constructor;calc br.Q ⟨by simp[fw,o],λs u=>?_,λA B D t=>?_⟩;let⟨t,G,H,_⟩:=val s (by rw[r];calc u);rw[H];lia;let⟨J,L,N,O,p⟩:=eU.J D;have o:=e.plain L N;have v:(Û L).o A=Z:=by rw[Ċ];simpa using O
 have x:(Û L).o B=Z:=by rw[Ċ];simpa using p
 let⟨y,G⟩:=h_ D;rw[<-r]at y G;let⟨H,N,O,L⟩:=val A y;let⟨p,r,y,r⟩:=val B G;have y:H=p:=gt
 subst y;rcases L with⟨_,G,p⟩|⟨_,G⟩;rcases r with⟨_,y,a0⟩|⟨_,y⟩;calc HP q D (by rw[p,a0]);calc J$ DZ (c.lk _ o H B A) v$ .X G;rcases r with⟨_,y,a0⟩|⟨_,y⟩;calc J (HP (c.lk _ o H) v G x$ .X y).symm;calc J (HP (c.lk _ o H) v G x$ .D y).symm;intro s q t;have u:s<amH:=by apply ŗ;intro z;rw[gK,IV]at t;lia
 let⟨H,N,O,L⟩:=val s u;have:H=q:=gt
 subst this;rcases L with L|L;calc .D$ lv L;calc .X L.2
def q7{h:Ĥ}(c:aE h b)(k:Go)(o:LR ú)(n:ar_)(e:nQ h f)(g:AR mR):fw i a m (up (fw a) f)=f:=by
 let⟨p,q,r⟩:=br.J e;apply ao;simp[fw];intro s t u;have v:∀(l:f8) x,l[s]=l.getD s 0:=λl x=>by rw[γ,δ x];rfl
 rw[v,v f u,gK];have y:s<(up (fw a) f).length:=by simpa[fw]using u
 rw[ii y,<-n.ĵ,gK,ii u];have:=im$ q s;by_cases z:a.ĵ.o s=Z;rw[LU,LU,sX,n.fM _ (by rw[c.n];lia)];lia;rw[IU];have:=im$ gm k g z (d:=f.getD s 0-1);rw[GE$ uG k];lia
def ae2(b:ŏ)(a:f8):nm:=(ι a.length).all λc=>FO (b.ζ.getD (SG-1)) c||FO (b.Ú.getD (SG-1)) c
def Fd(b:DS nQ):AR ae2=Z↔AR mR:=by
 unfold ae2;simp only[Ň,ψ,Ą];have e:=(br.J b).1;constructor;intro g h i j;have k:h<f.length:=by apply ŗ;intro z;rw[dH z]at j;lia
 have:=g h k;rw[j]at this;calc this;intro g h k;have:=im$ gj b (c:=h);calc im$ g h _
def Ő(a:Ĥ)(b:ŏ):AU:=(cf$ q0 a).filter$ ae2 b
def d3(a:Ĥ)(b:ŏ):M:=XY Ő
def Ŕ :f∈EK Ő↔DS nQ/\AR mR:=by unfold Ő;rw[υ];calc⟨λb=>⟨EM,(Fd EM).J b.2⟩,λb=>⟨EM,(Fd EM).Q b.2⟩⟩
def bB(a:Ĥ)(b:ŏ):(io Ő).bb Lx:=(df _).filter _
def Kw(a:Ĥ)(b:ŏ):(io Ő).ar:=Bg$ io bB
def fx(b:∀c,DB nQ->(mt mR↔mR i c)):EK Ő=Ő d i:=by calc aum (ga bB) λc=>?_;rw[Ŕ,Ŕ];calc⟨λz=>⟨Da,(Db Da).J z.2⟩,λz=>⟨Da,(Db Da).Q z.2⟩⟩
def wM(b:∀c,DB nQ->¬mt mR):EK Ő=[]:=List.eq_nil_iff_forall_not_mem.Q λc e=>Db (Ŕ.J e).1 (Ŕ.J e).2
def uH(c:RG)(f:Go)(e:LR ú)(g:ar_):EK d3<=d3 d i:=by calc abH (up (fw a)) (EK Kw) (λh k=>?_) λh k l n o=>?_;let⟨p,q⟩:=Ŕ.J k;calc Ŕ.Q$ FH$ GZ$ wL c f;let⟨p,q⟩:=Ŕ.J k;let⟨r,s⟩:=Ŕ.J n;rw[<-FH$ GZ$ q7 c f,o,HX$ GZ$ q7 c f]
def Fe(c:RG)(f:Go)(e:LR ú)(g:ar_):EK d3=d3 d i:=M.le_antisymm (GZ (uH c f))$ py (uH c) g.symm
def ŏ.told(a:Ž)(b:ŏ):f8:=BR FK λc=>b.at c+1
def s9{O:Ĥ}(h:aE O b)(n:Go)(o:a.ĵ=0):Ő O a=[a.told b]:=by
 have st:∀e,e<amH->a.S (a.at e) e:=λe f=>by rcases py n.st with z|⟨a0,z⟩;rw[ŏ.O,o]at z;simp at z;rw[uG n z];exact z
 have g:∀e,PR (a.told b)=if e<amH then a.at e+1 else 0:=λe=>ax;calc s4 aum λb0=>?_;rw[Ŕ,Θ];constructor;rintro ⟨t,u⟩;let⟨v,x,_⟩:=br.J t;apply ao;simp[ŏ.told,v,h.n];intro e c0 y;have j:∀(l:f8) i,l[e]=FI l.getD:=λl i=>by rw[γ,δ i];rfl
 have f:e<amH:=by rw[h.n];lia
 rw[j,j _ y,g,abm];have:=im$ x e;have:=im$ gm n u (c:=e) (d:=FI b0.getD-1) (by rw[ŏ.O,o];simp);rw[GE$ uG n];lia;rintro I;constructor;calc br.Q ⟨by simp[ŏ.told,h.n],λe f=>?_,λr s i j=>?_⟩;rw[<-h.n]at f;rw[g,abm];have:=n.sn$ py st;rw[<-h.n];lia;let⟨A,B,D,G,H⟩:=eU.J i;have p:=h.plain B D;have J:(Û B).o r=Z:=by rw[Ċ];simpa using G
 have L:(Û B).o s=Z:=by rw[Ċ];simpa using H
 let⟨k,m⟩:=h_ i;rw[<-h.n]at k m;rw[g,g,ii k,ii m]at j;have j:a.at r=a.at s:=gt
 have N:=st r k;have q:=st s m;rw[<-j]at q;calc A (HX (n.lk _ p _) J N L$ .D q).symm;intro e a0 j;rw[g]at j;split at j;rename_i f;have:a.at e=a0:=gt
 calc .X (this▸py st);lia
def dw(f:RG)(h:Go)(g:AH a.P):Ő d (lf a.ù Os)=(EK Ő).filter (λi=>FI i.getD==BD):=by calc aum ((ga bB).filter _) λi=>?_;rw[Ŕ,υ,Ŕ,IN];constructor;rintro ⟨j,k⟩;have:=(up (GP fv g).2).J k;calc⟨QY this.1,this.2⟩;rintro ⟨⟨j,k⟩,l⟩;calc QY$ (up (GP fv g).2).Q ⟨k,l⟩
def Kx(a:f.ar)(b:M):(f.q λc=>if b=c then 1 else 0).sum=if b∈f then 1 else 0:=by induction f with
|nil=>simp
|cons d e g=>let⟨h,i⟩:=ñ.J a;rw[Â,ĩ,g i];by_cases j:b=d;subst j;rw[KC,hf h];simp;simp[j]
def Ff{a:Type}(l:List a)(b c:a->M):(l.q λd=>Fk+HU).sum=(l.q b).sum+(l.q c).sum:=by induction l with
|nil=>rfl
|cons d e f=>simp only[Â,ĩ];lia
def Vz{c:Type}(l:List c)(a:c->M)(d:f.ar)(b:∀e,EG l->a e∈f):PZ (f.q λg=>asT λe=>a e==g).sum:=by induction l with
|nil=>clear d b;induction f with
 |nil=>rfl
 |cons h i j=>simp only[Â,ĩ,<-j];rfl
|cons h i j=>
 have k:∀g,((h::i).filter λe=>a e==g).length=(if a h=g then 1 else 0)+(i.filter λe=>a e==g).length:=λg=>by by_cases z:a h=g;simp[z];lia;simp[z]
 simp only[k];rw[Ff,<-j λe m=>EV$ BI m,Kx d,BZ$ s4$ b h,Β];lia
def e5 :e&&&HG≠0↔FR e.o:=by constructor;intro a;let⟨b,d⟩:=gh a;rw[Ã,á,ξ,BE]at d;rw[d.2];calc d.1;intro a z;have:=LM (λw=>w.o c) z;simp[a]at this
def b5 :c∈a.aV Os↔c<a.ζ.length/\AH a.P:=by unfold ŏ.aV;rw[υ,ψ,QR,e5]
def wN(a:ŏ)(b:M):(a.aV b).ar:=au ļ ey
def V3{e:Ĥ}(f:aE e b)(g:Go)(h:a.O c):d3 e a=((a.aV HG).q λi=>d3 e$ LR a.ù HG).sum:=by
 have j:c<e.n*e.n:=by rw[<-f.n];exact Į g.wf.bo h
 unfold d3;rw[Vz _ (λk=>CU k.getD-1) (wN a _) λk l=>?_];congr 1;calc ö λi m=>?_;let⟨m,n⟩:=b5.J m;rw[on dw n];congr 1;calc į λk l=>?_;have:=gj (Ŕ.J l).1 j;lia;let⟨o,p⟩:=Ŕ.J l;have:=gj o j;have n:=im$ wK g p h (d:=CU k.getD-1);calc b5.Q ⟨by rw[g.wf.lp];calc g.pd n,n⟩
def Rl{h:Ĥ}(f:aE h b)(g:Go)(j:a.O e)(k:∀l,l<e->¬a.O l):OM a=(a.aV Os).aD (λm=>OM$ a.ù b m Os):=by
 have n:e<LD:=by rw[<-f.n];exact Į g.wf.bo j
 calc aum (Kb.Q (wn (λm _=>ga bB))) λo=>?_;have:(a.aV Os).bb (·< ·):=au ļ ŉ;calc GE$ aF (λ{p q} r s t o u v x=>?_);rw[on dw (b5.J r).2,υ,IN]at u;rw[on dw (b5.J s).2,υ,IN]at x;let⟨y,z⟩:=Ŕ.J u.1;let⟨A,B⟩:=Ŕ.J x.1;have D:=(br.J y).1;have G:=(br.J A).1;calc im$ im (uE (i:=e)) λl H=>?_;have J:=im$ gj y (c:=l);have L:=im$ gj A (c:=l);have N:=im$ gm g z (k l H) (d:=o.getD l 0-1);have O:=im$ gm g B (k l H) (d:=v.getD l 0-1);have:=AY g.sd N O;lia;rw[ŧ];constructor;intro u;let⟨p,q⟩:=Ŕ.J u;have:=gj p n;have t:=im$ wK g q j (d:=FI o.getD-1);calc⟨_,b5.Q ⟨by rw[g.wf.lp];calc g.pd t,t⟩,?_⟩;rw[on dw t,υ,IN];calc anc u;rintro ⟨m,r,u⟩;rw[on dw (b5.J r).2,υ]at u;calc u.1
def Em(b c a:M):M:=if NJ then c else if a=c then b else a
def oX(a b c:M):io Em (EE Em)=c:=by unfold Em;all_goals lia
def s_(a:e<c)(b:h<c)(d:n<c):FG Em n<c:=by unfold Em;all_goals lia
def V4(l:RG)(k:Go)(g:FM a.P)(i:FG a.P)(s:CU a.ζ.getD=aqY):d3 d (lf a.ù (2^h))=d3 d (zn a.ù (2^h)):=by
 by_cases n:c=e;rw[n];calc Fe l (fv l k g).1 (fv l k i).1 ⟨I,λf j=>s_ (k.pd g) (k.pd i) j,λf _=>AY oX,λf j=>s_ (k.pd g) (k.pd i) j,λf _=>AY oX,λf j=>?_⟩;apply dO.ext;intro m;have o:=Ku k i (py (Em c)) m;have p:=QN (Ku k) m;have q:a.P (py (Em c)) m↔a.P f m:=by unfold ŏ.P Em;split;rename_i z;rw[z,s];split;rename_i z;rw[z,s];rfl
 have r:(py (Em c)=e)↔f=c:=by unfold Em;all_goals lia
 rw[ß];calc o.trans$ apy ?_ p.symm;rw[q,r]
def ŕ:BV->M->BV|[],a=>[(a,1)]|(b,c)::d,a=>if b=a then(b,BD)::d else(b,c)::EK ŕ
def Ĳ(a:f8):BV:=a.ah ŕ []
def q8(c:M->M):∀(l:BV)(a:M),((GV ŕ).q λb=>b.2*c EM).sum=(l.q λb=>b.2*c EM).sum+c a
 |[],a=>by simp[ŕ]
 |(e,f)::d,a=>by unfold ŕ;split;rename_i g;simp only[Â,ĩ,yo];lia;simp only[Â,ĩ,re q8 a];lia
def q9:∀{l:BV}{b:M}{a:IE},(∀a,BB l->1<=a.2)->BB (ŕ l b)->1<=a.2
 |[],b,a,_,c=>by simp[ŕ]at c;rw[c];calc AK
 |(d,e)::f,b,a,g,c=>by unfold ŕ at c;split at c;rcases ν.J c with I|c;lia;calc g a$ BI c;rcases ν.J c with I|c;calc s4$ g _;calc q9 (λa c=>g a$ BI c) c
def q_:∀{l:BV}{b:M}{a:IE},BB (ŕ l b)->a.1=b\/∃c,(a.1,c)∈l
 |[],b,a,d=>by simp[ŕ]at d;left;rw[d]
 |(e,c)::f,b,a,d=>by unfold ŕ at d;split at d;rcases ν.J d with I|d;right;calc⟨c,mo⟩;right;calc⟨a.2,BI d⟩;rcases ν.J d with I|d;right;calc⟨c,mo⟩;rcases q_ d with z|⟨g,z⟩;calc RR;right;calc⟨g,BI z⟩
def pK(a:f8):(∀b:M->M,(JH Ĳ λc=>c.2*b EZ).sum=(a.q b).sum)/\ ∀c,c∈Ĳ a->1<=c.2/\EZ∈a:=by
 have d:∀(a:f8) l,(∀c,c∈l->1<=c.2)->(∀b:M->M,((a.ah ŕ l).q λc=>c.2*b EZ).sum=(l.q λc=>c.2*b EZ).sum+(a.q b).sum)/\ ∀c,c∈a.ah ŕ l->1<=c.2/\(EZ∈a\/∃e,(EZ,e)∈l):=by intro a;induction a with
 |nil=>intro l f;calc⟨λb=>mo,λc g=>⟨f c g,.X ⟨c.2,g⟩⟩⟩
 |cons h i j=>intro l f;let⟨k,m⟩:=j _ (λc g=>on q9);calc⟨XZ,λc g=>?_⟩;rw[ĥ,k,q8,Â,ĩ];lia;let⟨n,o⟩:=m c g;calc wn n;rcases o with z|⟨e,z⟩;calc .D$ BI z;rcases q_ z with w|w;left;rw[show EZ=h from w];simp;exact .X w
 let⟨p,c⟩:=s4 (d a []);calc⟨λb=>by rw[Ĳ,p b];simp,λq r=>⟨(BW c).1,s4$ (BW c).2.elim id⟩⟩
structure Ky(q:Ĥ)(L:Ž)(B:ŏ)(a:are IE):Prop where
 ok:∀b,b∈a->∃c,XJ=HG/\B.P EM c/\1<=wS b/\wS b<=9
 sum:d3 q B=(a.q λb=>wS b*d3 q (B.ù L EM XJ)).sum
def lO(a:ŏ)(b:M):are IE:=(Ĳ$ a.ζ.filter λc=>c&&&GU !=0).q λd=>(a.ζ.dc d.1,GU,d.2)
def eH:∀{l:f8}{a:M},BB l->a<=l.sum|LY,a,d=>by rcases ν.J d with I|d;simp;have:=eH d;simp;lia
def yI(e:RG)(f:Go)(g:a.O c):sK (Ky d)$ mt lO:=by
 let⟨h,i⟩:=pK _;have j:∀{k:M},k∈a.ζ->a.ζ.dc k<a.ζ.length/\a.ζ.getD _ 0=k:=λ{k} m=>by have:=yx m;calc wn this;rw[γ,GE δ,Ul];rfl
 calc wn λn o=>?_;let⟨p,q,I⟩:=χ.J o;let⟨r,s⟩:=FH i;let⟨t,u⟩:=υ.J s;let⟨v,x⟩:=j t;calc⟨c,I,?_,r,?_⟩;show FR (FO (a.ζ.getD _));rw[x];calc e5.J (by simpa using u);have y:=h λ_=>1;have z:((ar7 (k&&&HG !=0)).q λ_=>1).sum=(ar7 (k&&&HG !=0)).length:=by generalize (a.ζ.filter _)=l;induction l with
 |nil=>rfl
 |cons p A B=>simp only[Â,ĩ,Β];lia
 have D:(ar7 (k&&&HG !=0)).length<=a.ζ.length:=ga Ω;have G:=eH (l:=(Ĳ _).q λn=>n.2)$ χ.Q ⟨p,q,I⟩;have:=f.wf.lp;have:=f.wf.n9;lia;rw[on$ V3 e];unfold lO;rw[Χ];have y:=h λk=>d3 d$ a.ù b (a.ζ.dc k) HG;have H:(Ĳ$ ar7 (k&&&HG !=0)).q ((λ n:M×IE=>wS n*d3 d (a.ù b n.1 (lv n)))∘ λ n:IE=>(a.ζ.dc n.1,HG,n.2))=(Ĳ _).q (λn=>n.2*d3 d _):=ö λn _=>I;rw[H,y];have J:a.ζ=BR a.ζ.length (λL=>a.ζ.getD L 0):=by apply ao;simp;intro N O o;rw[cT,ah,γ,δ O];rfl
 have i:ar7 (k&&&HG !=0)=(a.aV HG).q (λL=>a.ζ.getD L 0):=by
  conv=>lhs;rw[J]
  rw[cg];rfl
 rw[i,Χ];congr 1;calc ö λL s=>?_;let⟨s,m⟩:=b5.J s;have r:a.ζ.getD L 0∈a.ζ:=by rw[γ,δ s];simp
 let⟨v,x⟩:=j r;calc py V4 m (by rw[ŏ.P,x];calc m) x.symm
def wO(f:RG)(i:Go)(j:c<b.n)(k:n∈a.wants.getD c [])(g:e≠h)(m:CU a.ζ.getD&&&n=Os|||2^h):sK (Ky d) [(c,Os,1),(c,2^h,1)]:=by
 let⟨o,p⟩:=i.wa c n k;have q:∀r,(a.P c r/\n.o r=Z)↔r=e\/r=h:=λr=>by have:=LM (λz=>z.o r) m;simp only[Ã,ý,á]at this;rw[ŏ.P,<-ξ,this];simp only[Ą,BE];constructor;rintro (z|z);calc .D z.symm;calc .X z.symm;rintro (z|z);calc .D z.symm;exact .X z.symm
 have s:=(q e).Q GQ;have t:=(q h).Q Ps;calc wn λu v=>?_;simp only[ν,ã,GS]at v;rcases v with I|I;calc⟨e,I,s.1,AK,by show 1<=9;decide⟩;calc⟨h,I,t.1,AK,by show 1<=9;decide⟩;simp only[Â,cq,ĩ,List.sum_nil,lA,ahB];unfold d3;rw[DF dw s.1,DF dw t.1];have x:∀y,y∈EK Ő->(FI y.getD=BD/\HV y.getD≠BD)\/(FI y.getD≠BD/\HV y.getD=BD):=λy A=>by let⟨B,u⟩:=Ŕ.J A;let⟨D,G,H,J⟩:=DX (BQ (NL f.exact));have L:=(u D c H).elim id λz=>(Vx p G z).elim;rcases(q D).J ⟨L,G⟩with z|z;left;calc⟨z▸H,λw=>g (by rw[<-z];calc(J h t.2 w).symm)⟩;right;exact⟨(λw=>g (by rw[J e s.2 w,z])),z▸H⟩
 revert x;generalize EK Ő=l;induction l with
 |nil=>intro _;rfl
 |cons y N O=>intro x;have:=O λr v=>x r$ BI v;rw[ġ,ġ,Β,this];rcases s4 (x y)with z|z;rw[ath Da,atg z.2,Β];lia;rw[atg Da,ath z.2,Β];lia
def Fg{l:f8}(a:l.dW f):∃b c:M->M,(∀d,d<l.length->Fk<l.length/\c Fk=d/\f.getD Fk 0=IM l.getD)/\ ∀d,d<l.length->HU<l.length/\b HU=d:=by induction a with
|nil=>calc⟨id,id,mo,mo⟩
|@cons e l f g h=>
 let⟨b,c,i,j⟩:=h;calc⟨λd=>if d=0 then 0 else b (d-1)+1,λd=>if d=0 then 0 else c (d-1)+1,λd k=>?_,λd k=>?_⟩;cases d with
 |zero=>simp
 |HW d=>let⟨e,m,n⟩:=i d as5;simp only[Um,adE,and_false,asS,sX,Β];calc⟨gt,by rw[m],?_⟩;simpa using n
 cases d with
 |zero=>simp
 |HW d=>let⟨e,m⟩:=j d as5;simp only[Um,adE,and_false,asS,sX,Β];calc XP (by rw[m])
|@swap e m l=>calc⟨Em 0 1,Em 0 1,λd k=>⟨s4 (s4 s_) k,AY oX,?_⟩,λd k=>⟨s4 (s4 s_) k,AY oX⟩⟩;match d with
  |0=>simp[Em]
  |1=>simp[Em]
  |d+2=>simp[Em]
|@trans l f o i j p q=>let⟨b,c,r,s⟩:=p;let⟨t,u,v,x⟩:=q;have y:=i.ey;calc⟨λd=>t Fk,λd=>c$ u d,λd k=>?_,λd k=>?_⟩;let⟨z,A,B⟩:=r d k;let⟨D,G,H⟩:=im (v Fk);calc⟨gt,by show c _=d;rw[G,A],by rw[H,B]⟩;let⟨D,G⟩:=im (x d);let⟨z,A⟩:=im (s (u d));calc XP (by show t _=d;rw[A,G])
def Rm{l:f8}(a:l.dW f):Ų l=Ų f:=by
 apply dO.ext;intro b;have c:∀{l f:f8},l.dW f->FE (Ų l).o->FE (Ų f).o:=λ{l f} a z=>by let⟨d,e,w⟩:=(ga fo).J z;let⟨g,h,i,_⟩:=Fg a;let⟨j,_,k⟩:=s3 i;exact(ga fo).Q ⟨g d,by rw[<-a.ey];calc j,by rw[k];calc w⟩
 rw[ß];calc⟨c a,c a.symm⟩
def V5(e:RG)(h:Go)(f:LR ú)(j:Ų a.ζ=a.ĵ)(g:Ų i.ζ=i.ĵ)(c:a.ζ.dW i.ζ):EK d3=d3 d i:=by let⟨k,l,m,n⟩:=Fg c;have o:=h.wf.lp;calc FG Fe f ⟨by rw[<-j,<-g,Rm c],λp q=>by have:=im$ m p;lia,λp q=>lv$ im$ m p,λp q=>by have:=im$ n p;lia,λp q=>(im$ n p).2,λp q=>wS$ im$ m p⟩
end Sq
namespace Sq
variable{a b c d:M}{e:f8}
def Fh(a:M):M->M->M->M|0,_,_=>1%a|BP,c,d=>if d=0 then 1%a else if d%2=1 then c*io Fh (c*c%a) (d/2)%a else io Fh (c*c%a) (d/2)
def Bm(c:M):∀(f a b:M),b<2^f->io (Fh c f)=a^b%c
 |0,a,b,g=>by
   have:b=0:=SX
   subst this;rfl
 |f+1,a,b,g=>by
   unfold Fh;have d:=im$ Bm c f (FY%c) (b/2);have e:(FY%c)^(b/2)%c=(a^(2*(b/2)))%c:=by rw[<-p8,lB,aka]
   split;rename_i z;rw[z];rfl;split;rw[d,e,cC,Qz,<-cC,gd,<-vA];congr 2;lia;rw[d,e];congr 2;lia
def wQ(d:b%a=1%a):(b*c)%a=c%a:=by rw[cC,d,<-cC,lA]
def qi(c:b%a=1%a)(d:M):b^d%a=1%a:=by rw[p8,c,<-p8,M.one_pow]
def abI :∀(c d:M),b^c%a=1%a->b^d%a=1%a->b^re M.gcd%a=1%a:=by intro c;induction c using yv with
|_ c e=>
 intro d f g;by_cases h:c=0;subst h;rwa [M.gcd_zero_left];rw[M.gcd_rec];calc e _ (im (cF _)) c ?_ f;have i:b^d=(b^c)^(d/c)*b^(d%c):=by rw[<-lB,<-p9,dJ]
 rw[i,wQ$ qi f _]at g;calc g
def Rn(j:0<a)(f:d^a%b=1%b)(g:∀k,k∈e->d^(a/k)%b≠1%b)(h:∀l,1<l->l∣a->∃k,k∈e/\k∣l)(i:d^c%b=1%b):a∣c:=by
 have m:=AA abI i f;let⟨l,n⟩:=AA aba;by_cases o:l=1;subst o;rw[n,p_];calc AA abr;exfalso;have p:l≠0:=λz=>gt
 let⟨k,q,r⟩:=im (h l) (CM (by rw[gd];calc n));let⟨s,t⟩:=r;apply g k q;have q0:0<k:=by apply U8;lia
 have:a/k=c.gcd a*s:=by
  conv=>lhs;rw[n,t]
  rw[gd k s,<-agR,M.mul_div_cancel _ q0]
 rw[this,lB];calc qi m _
def Ro(i:b=DC)(j:1<a)(f:c^a%b=1%b)(g:∀m,m∈e->c^(a/m)%b≠1%b)(h:∀o,1<o->o∣a->∃m,m∈e/\m∣o)(k:0<d)(l:d<b):d^a%b=1:=by
 have p:1%b=1:=im bS;have q:∀r,r<=a->c^r%b≠0:=λr s z=>by
  have t:c^a=c^r*c^(a-r):=by rw[<-p9];congr 1;lia
  rw[t,cC,z,p]at f;simp at f
 have u:∀r v,r<v->v<a->c^r%b≠c^v%b:=λr v x y z=>by
  have A:c^(r+(a-r))%b=c^(v+(a-r))%b:=by rw[p9,p9,cC,z,<-cC]
  rw[show r+(a-r)=a by lia,f,show v+(a-r)=a+(v-r)by lia,p9,wQ f]at A;have:=EU (im Rn) A.symm;have:=GE$ im agS;lia
 have B:(d-1)+1∈JH ι (λr=>c^r%b):=by calc im$ s4 (pJ (n:=a) ?_) λD G=>?_;calc aoN;calc aF (λ{r v} s y x=>?_) ŉ;calc GY (u r)$ ψ.J y;let⟨r,s,I⟩:=χ.J G;have:=q r (by have:=ψ.J s;lia);have:=cF (c^r) (show 0<b by lia);lia
 let⟨r,_,t⟩:=χ.J B;have t:d=c^r%b:=gt
 rw[t,<-p8,<-lB,gd,lB,qi f,p]
def qsL:f8:=[2,3,5,7,11,13,31,41,61,151,331,1321]
def V6:∀a,BB qsL->∀b,b<DC->b∣a->b=1\/b=a:=by decide+AO
def ra :∀{l:f8},(∀b,b∈l->io Q3)->Q3 a (l.foldr (·* ·) 1)|[],_=>M.coprime_one_right a|c::d,e=>amF (s4 (e c))$ ra λb f=>e b$ BI f
def abJ:2305843009213693950=[2,3,3,5,5,7,11,13,31,41,61,151,331,1321].foldr (·* ·) 1:=by decide+AO
def Rp(c:a=2305843009213693950)(b:M)(e:1<b)(d:b∣a):∃f,f∈qsL/\f∣b:=by
 apply Κ;intro g;have g:=λf h i=>g ⟨f,h,i⟩;have j:∀f,f∈qsL->DA Q3:=λf k=>by
  have l:=DA aba;have q0:0<f:=by
   have:∀f,f∈qsL->0<f:=by decide+AO
   exact this f k
  rcases V6 f k _ (by have:=agS q0 l;lia) l with z|z;calc z;exact DM (z▸DA abr)$ g f k
 have m:=λf k=>j f (by
  have:∀f,f∈[2,3,3,5,5,7,11,13,31,41,61,151,331,1321]->f∈qsL:=by decide+AO
  calc this f k);have:=ra m;rw[<-abJ,<-c]at this;have:=GE amG d;lia
def abK:∀a,BB qsL->Fh 2305843009213693951 62 37 (2305843009213693950/a)≠1:=by decide+AO
def V7:Fh 2305843009213693951 62 37 2305843009213693950=1:=by decide+AO
def ae4(e:a=2305843009213693951)(d:b=2305843009213693950)(f:0<c)(g:c<a):c^b%a=1:=by
 have h:Fh a 62 37 b=1:=by rw[e,d];exact V7
 have i:∀j,j∈qsL->Fh a 62 37 (b/j)≠1:=by rw[e,d];exact abK
 have k:1%a=1:=im bS;have l:b<KD:=by rw[d];decide
 rw[LB$ Bm a 62 37]at h;calc on$ Op Ro (by rw[h,k]) (λj m n=>i j m ?_)$ Rp d;rw[Bm a 62 37 _$ ĝ (ga M.div_le_self) l,n,k]
end Sq
namespace Sq
open dO Sw27
variable{d:Type}{j:M->U}{a c l:M}{b f:f8}{n:KF}{e:Ĥ}{h:Ž}{i o:ŏ}{m:AU}
def wR(l:are d)(a:M)(b:d):are d:=if l.any (λc=>sB (EZ=a))=Z then l.q (λc=>if EZ=a then(EZ,b)else c)else l++[(a,b)]
def tf(l:are d)(a:M):he d:=(l.cS λb=>sB (EM=a)).q (·.2)
def a5(a:KF)(li:f8):f8:=a.ah (λrow b=>XH b.2 EM) li
def oY(a:M)(li:f8):f8:=auA λb=>AW li.getD !=0
def Bn(a:M):M:=a^(ĳ-2)%ĳ
def hq(li:f8)(a:M):f8:=li.q λb=>b*a%ĳ
def jm(b c:M)(a:KF)(d:M):KF:=match oY (b*b) asl with|[]=>a|e::_=>wR (a.q (λf=>(f.1,Ķ f.2 (hq asl (Bn (PR asl))) e))) e$ hq asl$ Bn$ PR asl
def nX(a:M)(units:f8):KF:=units.ah (jm a asD) []
def c6(c:M)(a:KF)(b:M):f8:=match io tf with|LJ=>AW (d.q λe=>fS 0 e).set|none=>(Λ (c*c) 0).set b 1
def Sm(a:M->U):M->U|0=>0|BP=>io Sm+JC
def Fi{b:M->U}:∀{a:M},(∀c,c<a->j c=Db)->Sm j a=sK Sm|0,_=>I|DC,d=>by rw[Sm,Sm,Fi λc e=>im$ d c,im$ d a]
def wU{b:U} :∀{a:M},(∀c,c<a->b∣j c)->b∣Sm j a|0,_=>U.dvd_zero _|DC,d=>U.e9 (wU (λc e=>im$ d c))$ im$ d a
def wV(a b c:M->U)(d:U):∀e,Sm (λf=>c f-(a f-d*b f)) e=AH Sm-(AM Sm-d*zn Sm)
 |0=>by simp[Sm]
 |LH=>by rw[Sm,Sm,Sm,Sm,MW wV,U.mul_add];lia
def Bo:∀a,Sm (λ_=>0) a=0|0=>I|DC=>by rw[Sm,Bo a];rfl
def oZ :∀{b:M},a<b->(∀c,c<b->c≠a->j c=0)->Sm j b=j a
 |0,d,_=>gt
 |BP,d,e=>by rw[Sm];by_cases f:NJ;rw[Fi λc g=>Op$ e c,Bo];lia;rw[im oZ λc g=>im$ e c,im (e b)$ Ne.symm f];lia
def val(a:M)(b:f8)(c:M->U):U:=Sm (λd=>kw (IM b.getD)*HU) a
def Kz(a b:M):U:=if FE a.o then 1 else 0
def uI(a:M)(units:f8)(b:M->U):Prop:=∀c,c∈units->Sm (λd=>re Kz*Fk) a=1
def ag5:jp 0<jp ĳ:=DU
def Bp(a b:M):Pi (kw (io fS)-(DD-b)):=by unfold fS;calc wn (-((a-b)/ĳ));lia
def Nv(a b:M):io fS<ĳ:=by unfold fS;lia
def Rq(b:a<ĳ):HF fS=a:=by unfold fS;lia
def Rr(a:M):fS a a=0:=by unfold fS;rw[U.sub_self];rfl
def lP(li a:f8)(b:M):XY XH=li.length:=by unfold Ķ;split<;>simp
def hN{li:f8}(d:a<li.length):SH (lf XH)=if aii=0 then Wp else fS Wp (aii*YD):=by unfold Ķ;split;rfl;rw[ax,Sc]
def Fj{li:f8}(d:a<li.length):Pi (kw (SH (lf XH))-(kw Wp-kw aii*kw YD)):=by rw[hN d];split;rename_i z;rw[z];simp;have:=Bp Wp (aii*YD);rwa [U.am]at this
def j3{li:f8}(d:a<li.length)(e:Wp<ĳ)(f:YD=0):SH (lf XH)=Wp:=by rw[hN d];split;rfl;rw[f,ahC,Rq e]
def rb{li:f8}(c:a<li.length)(d:YD=1):SH (sK XH)=0:=by rw[hN c];split;assumption;rw[d,p_,Rr]
def uJ{li:f8}(d:∀c,aii<ĳ)(c:M):CU (sK XH).getD<ĳ:=by by_cases e:c<li.length;rw[hN e];split;calc d c;calc ga Nv;rw[dH (by rw[lP];lia)];decide
def rf{li:f8}(f:li.length=c)(d:Pi (val c li j))(e:Pi (Ev val j)):Pi$ val c (sK XH) j:=by
 have g:Pi$ Sm (λh=>HV (sK XH).getD*j h-(HV li.getD*j h-Wp*(HV b.getD*j h))) c:=by
  calc wU λh i=>?_;have k:HV (sK XH).getD*j h-(HV li.getD*j h-Wp*(HV b.getD*j h))=(HV (sK XH).getD-(HV li.getD-Wp*HV b.getD))*j h:=by rw[U.cU,U.cU,U.mul_assoc]
  rw[k];exact U.cC (im Fj)$ ga U.cE
 rw[ga wV]at g;have l:Pi (Wp*Ev val j):=U.cC e$ ga U.eD;have m:=U.e9 g$ U.eA d l;unfold val at m|-;have k:∀n o:U,n-o+o=n:=λn o=>gt
 rwa [k]at m
def zg(l:f8)(a:M->M)(b:a 0=0)(c:M):CU (l.q a).getD=a akO:=by rw[γ,γ,Δ];cases l[c]? with
|none=>calc b.symm
|some v=>rfl
def wW(li:f8)(b a:M):SH (hq li b)=Wp*b%ĳ:=by calc s4 (zg li _) a
def K3{li:f8}(b:Pi (val c li j)):Pi$ val c (hq li a) j:=by
 have d:Pi$ Sm (λe=>PR (hq li a)*j e-(0-(-(a))*(aqR*j e))) c:=by
  calc wU λe f=>?_;rw[wW];have g:(aqR*a%ĳ:M)*j e-(0-(-(a))*(aqR*j e))=((aqR*a%ĳ:M)-aqR*a)*j e:=by rw[U.cU,U.zero_sub,U.neg_mul,U.neg_neg,U.cW _ a,U.mul_assoc]
  rw[g];calc U.cC ?_$ ga U.cE;have:=dJ (aqR*a) ĳ;calc wn (-(aqR*a/ĳ));have h:=GE$ LM (λ z:M=>(z));lia
 rw[ga wV,Bo]at d;have i:Pi ((-(a))*val c li j):=U.cC b$ ga U.eD;have k:=U.e9 d$ U.eA (U.dvd_zero _) i;unfold val at k|-;have g:∀l m:U,l-m+m=l:=λl m=>gt
 rwa [g]at k
def Nw(a b:M):kw (a/GU%2)=io Kz:=by
 unfold Kz;have:a.o b=it _:=gf;rw[this];by_cases c:a/GU%2=1;rw[c];simp;have:a/GU%2=0:=gt
 rw[this];simp
def zh{units:f8}(b:BL (uI FY) j)(d:c∈units)(e:l∈units):Pi$ val FY (mt fu l) j:=by
 have f:Pi$ Sm (λg=>(mt fu l).getD g 0*j g-(Kz c g*j g-1*(Kz l g*j g))) FY:=by
  calc wU λg h=>?_;have e0:(mt fu l).getD g 0=fS (c/2^g%2) (l/2^g%2):=by unfold fu;rw[ax,ii h]
  have:=Bp (c/2^g%2) (l/2^g%2);rw[Nw,Nw]at this;rw[e0,U.dN,<-U.cU,<-U.cU];exact GE U.cC$ ga U.cE
 rw[ga wV,re b,b l e]at f;unfold val;simpa using f
structure mB(m:M)(units:f8)(v7:KF):Prop where
 nd:(v7.q (·.1)).ar
 key:∀a,BB v7->a.1<m
 len:∀a,BB v7->a.2.length=m
 lt:∀a,BB v7->∀b,AW a.2.getD<ĳ
 ü:∀a,BB v7->a.2.getD a.1 0=1
 oth:∀a,BB v7->∀c,c∈v7->a.1≠EZ->a.2.getD EZ 0=0
 van:∀a,BB v7->∀d,BL (uI m) d->Pi (val m a.2 d)
def lQ{units:f8}:∀{b:KF}{li:f8},OI mB b->li.length=a->(∀c,aii<ĳ)->(∀d,OI uI d->Pi (val a li d))->(a5 b li).length=a/\(∀c,CU (a5 b li).getD<ĳ)/\(∀d,OI uI d->Pi (val a (a5 b li) d))/\(∀e,e<a->(∀f,f∈b->PR f.2=0)->PR (a5 b li)=aqR)/\ ∀f,f∈b->(a5 b li).getD f.1 0=0
 |[],li,_,g,h,i=>⟨g,h,i,λ_ _ _=>I,λf j=>by simp at j⟩
 |f::b,li,k,g,h,i=>by
   have l:OI mB b:=⟨(ñ.J k.nd).2,arL k.key,arL k.len,arL k.lt,arL k.ü,λm j n o=>k.oth m (BI j) n$ BI o,arL k.van⟩;have p:f∈f::b:=mo
   let⟨m,n,q,r,s⟩:=lQ (row:=XH f.2 f.1) l (by rw[lP,g]) (uJ h) (λd t=>rf g (i d t)$ k.van f p d t);have u:=λv j z=>(ñ.J k.nd).1$ χ.Q ⟨v,j,z⟩;calc⟨m,n,q,λe x y=>?_,λv j=>?_⟩;show PR (a5 b _)=_;rw[r e x λv j=>y v$ BI j,im j3 (h e)$ y f p];rcases ν.J j with I|j;show(a5 b _).getD v.1 0=0;rw[r v.1 (k.key v p) λA B=>k.oth A (BI B) v p$ HP u];calc rb (by rw[g];calc k.key v p)$ k.ü v p;calc s v j
def Fl(a b c d:M):IM (EE fu).getD<ĳ:=by unfold fu;rw[ax];split;calc ga Nv;decide
def V8(c:0<a)(b:a<ĳ):a*Bn a%ĳ=1:=by unfold Bn;let⟨d,e⟩:∃d,d=ĳ:=EJ;rw[<-e]at b|-;rw[cC,Qz,<-cC,gd,<-vA];calc Ev$ im$ ae4 e
def rg{li:f8}(d:oY c li=a::b):a<c/\Wp≠0:=by
 have:BB$ oY c li:=by rw[d];simp
 unfold oY at this;rw[υ,ψ,QR]at this;calc this
def wX{l:are d}{b:d}(c:∀e,EG l->e.1≠a):io (wR l)=l++[(a,b)]:=by unfold wR;rw[hf];simp only[ô,BE];rintro ⟨e,f,g⟩;calc on$ c e
def wY{units:f8}(k:BL (mB FY) n)(H:l∈units)(J:c∈units):BL (mB FY)$ mt jm n l:=by
 let⟨L,N,O,g0,G⟩:=lQ k (row:=EF fu c) (by simp[fu]) (EF Fl c) (λr i=>zh i H J);unfold jm;split;calc k;rename_i s i0 a0;let⟨x,t⟩:=rg a0;revert L N O g0 G t;generalize a5 n (EF fu c)=li;intro L N O g0 G t;have y:∀b,b∈n->EM≠s:=λb f z=>t (by rw[<-z];calc DA G);generalize j:hq li (Bn (li.getD s 0))=e;have b0:∀v,e.getD v 0=li.getD v 0*Bn (li.getD s 0)%ĳ:=λv=>by rw[<-j,wW]
 have A:e.getD s 0=1:=by rw[b0];exact im V8$ N s
 have u:∀b,b∈n->e.getD EM 0=0:=λb f=>by rw[b0,DA G];simp
 have c0:e.length=FY:=by rw[<-j];simp[hq,L]
 have d0:∀v,e.getD v 0<ĳ:=λv=>by rw[b0];exact CD$ cF _
 have B:∀r,BL (uI FY) r->Pi (val FY e r):=λr i=>by rw[<-j];exact K3$ O r i
 rw[wX (λb f=>by let⟨d,g,I⟩:=χ.J f;calc DR y)];have h:∀b,b∈n.q (λb=>(EM,Ķ b.2 e s))++[(s,e)]->(∃d,BH n/\b=(d.1,Ķ d.2 e s))\/b=(s,e):=λb f=>by rcases Ι.J f with z|z;let⟨d,g,I⟩:=χ.J z;calc .D ⟨d,g,I⟩;exact .X RM
 calc⟨?_,λb f=>?_,λb f=>?_,λb f=>?_,λb f=>?_,λb f d g D=>?_,λb f r i=>?_⟩;rw[Æ,Χ];calc ŷ.Q ⟨?_,mo,?_⟩;have:n.q ((λ h0:SF=>h0.1)∘ λ b:SF=>(EM,Ķ b.2 e s))=n.q (·.1):=ö WJ;rw[this];calc k.nd;intro h0 f0 r i;let⟨b,f,I⟩:=χ.J f0;simp only[Â,cq,Θ]at i;rw[i];calc DA y;rcases DA h with⟨d,g,I⟩|I;calc DR k.key;calc x;rcases DA h with⟨d,g,I⟩|I;show(AY Ķ).length=_;rw[lP];calc DR k.len;calc c0;rcases DA h with⟨d,g,I⟩|I;calc uJ$ DR k.lt;calc d0;rcases DA h with⟨d,g,I⟩|I;rw[j3 (by rw[DR k.len];calc DR k.key) (DR k.lt _)$ DR u];calc DR k.ü;calc A;rcases DA h with⟨p,q,I⟩|I;rcases DR h with⟨m,o,I⟩|I;rw[j3 (by rw[FH k.len];calc k.key m o) (FH k.lt _)$ u m o];calc FH k.oth m o D;calc rb (by rw[FH k.len];calc x) A;rcases DR h with⟨m,o,I⟩|I;calc u m o;calc QV D;rcases DA h with⟨d,g,I⟩|I;calc rf (DR k.len) (DR k.van r i)$ B r i;calc B r i
def Bq{n:M}{units:f8}:BL (mB JB)$ BL$ nX n:=by
 have a:∀b c,(∀d,BH b->BH units)->(b=[]\/asD∈units)->BL (mB JB) c->BL (mB JB) (b.ah (jm n asD) c):=by intro b;induction b with
 |nil=>intro c _ _ e;calc e
 |cons d f g=>intro c h i e;have i:=s4 i.a1;exact g _ (λv j=>h v$ BI j) (.X i)$ wY e (s4 (h d)) i
 calc BL a [] (λ_ e=>e) ?_ ⟨mo,mo,mo,mo,mo,mo,mo⟩;cases units with
 |nil=>calc GQ
 |cons k f=>right;simp
def Fm{l:are d}{b:d}(c:GV tf=ZC):(a,b)∈l:=by let⟨e,f,I⟩:=Υ.J c;have g:=yp f;have h:=eB f;simp only[BE]at g;rw[<-g];calc h
def uK{units:f8}(k:BL (uI FY) j)(l:BL (mB FY) n)(d:c<FY):Pi (val FY (c6 a n c) j-j c):=by
 unfold c6;split;rename_i f m;have h:=Fm m;have o:=l.len _ h;have p:∀b,b<FY->AW (CU (f.q λq=>fS 0 q).set).getD=if b=c then 0 else fS 0 _:=λb e=>by rw[ś,CD$ ga zg];by_cases z:b=c;rw[BZ ⟨z,by rw[θ,o];calc d⟩,LU];rw[ar4,IU]
 have g:Pi$ Sm (λb=>AW (CU (f.q λq=>fS 0 q).set).getD*j b-((if b=c then j b else 0)-1*(acV*j b))) FY:=by
  calc wU λb e=>?_;rw[zn p];by_cases z:b=c;subst z;rw[KC,KC,l.ü _ h];simp;rw[IU,IU];have:=Bp 0 acV;have r:fS 0 acV*j b-(0-1*(acV*j b))=(fS 0 acV-(0-acV))*j b:=by rw[U.cU,U.cU,U.dN];simp
  rw[r];exact GE U.cC$ ga U.cE
 rw[ga wV,oZ d λb _ z=>IU,KC,U.dN]at g;have i:=AS$ l.van _ h;unfold val at i|-;have s:=DL U.eA;have r:∀t u v:U,t-(u-v)-v=t-u:=λt u v=>gt
 rwa [r]at s;unfold val;rw[oZ d λb e z=>?_];rw[ś,BZ$ ln abe];simp;rw[ś,ar4];simp[e]
def ind(a:f8)(b:M)(c:M):U:=if SG=BP then 1 else 0
def V9{units:f8}{d:M}(c:d<a)(e:∀g,g∈units->g<2^FY)(f:∀g,g∈units->io qh g):BL (uI FY)$ v4 ind:=λg h=>by let⟨i,j,k,l⟩:=DB (ww f);rw[oZ (Į (ww e) j) λm n z=>?_];unfold Kz ind;rw[ii j,ii k];rfl;unfold Kz ind;by_cases o:g.o m=Z;by_cases p:b.getD m 0=IG;calc DM (BF (l m)) z;rw[hf p];simp;rw[abR];simp
def V_{units:f8}(g:∀k,k∈units->k<2^FY)(h:∀k,k∈units->io qh k)(f:∀m,m<FY->1<=b.getD m 0/\b.getD m 0<=a)(e:c<FY)(i:l<FY)(j:YO c=YO l):UW=b.getD l 0:=by
 have n:=ww$ V9 (d:=UW-1) (by have:=AH f;lia);have o:=uK n Bq e;have p:=uK n Bq i;rw[j]at o;have q:=BF U.eA;have r:∀s t u:U,s-t-(s-u)=u-t:=λs t u=>gt
 rw[r]at q;have v:ind b (UW-1) c=1:=by unfold ind;have:=AH f;lia
 rw[v]at q;unfold ind at q;by_cases z:b.getD l 0=UW-1+1;have:=AH f;lia;rw[IU]at q;calc CD$ kt q
def Ŝ[abl]:WT->d->M->WT|[],a,b=>[(a,[b])]|(c,e)::f,a,b=>if c=a then(c,e++[b])::f else(c,e)::io (Ŝ f)
def lR(a:M)(units:f8)(b:M):UY:=(ι b).ah (λl c=>Ŝ l (YO c) c) []
def bc(a:M)(units:f8):AU:=((OI lR FY).q (·.2)).filter λb=>sB (1<b.length)
def fy(units a:f8)(b:M)(l:f8):f8:=a.ah (λl c=>if b=c then l else BL XT GU HG) l
def Fn(units:f8)(l:f8)(a:f8):f8:=a.ah (λl b=>io (BL fy) l) l
def pM(a:M)(units:f8):f8:=(OI bc).ah (BL Fn)$ units.ah eW []
def qj[abl](F:M->d):∀{l:WT}{g:M},(∀a,BB l->∀e,EG a.2->F e=a.1)-> ∀a,BB (Ŝ l (F g) g)-> ∀e,EG a.2->F e=a.1
 |[],g,_,a,c,e,b=>by simp only[Ŝ,Θ]at c;subst c;simp only[Θ]at b;rw[b]
 |(i,h)::k,g,f,a,c,e,b=>by unfold Ŝ at c;split at c;rename_i j;rcases ν.J c with I|c;rcases Ι.J b with z|z;calc s4 (f (i,h)) e z;rw[Θ.J z];calc j.symm;calc f a (BI c) e b;rcases ν.J c with I|c;calc s4 (f _) e b;calc mt (qj F (λa c=>f a$ BI c)) e b
def lS[abl] :∀{l:WT}{c:d}{b:M},b<a->(∀e,EG l->∀f,f∈e.2->f<a)-> ∀e,EG (Ev (Ŝ l))-> ∀f,f∈e.2->f<a
 |[],c,b,g,_,e,h,f,i=>by simp only[Ŝ,Θ]at h;subst h;simp only[Θ]at i;rw[i];calc g
 |(j,k)::m,c,b,g,n,e,h,f,i=>by unfold Ŝ at h;split at h;rcases ν.J h with I|h;rcases Ι.J i with z|z;calc s4 (n (j,k)) f z;rw[Θ.J z];calc g;calc DF$ n e$ BI h;rcases ν.J h with I|h;calc DF$ s4$ n _;calc DF$ FG$ lS g λe h=>n e$ BI h
def aQ(l:WT):M:=(l.q λa=>a.2.length).sum
def lT[abl]:∀(l:WT)(a:d)(b:M),aQ (io (Ŝ l))=aQ l+1|[],a,b=>I|(c,e)::f,a,b=>by have g:=io$ lT f;unfold Ŝ;unfold aQ at g|-;split;simp only[Â,ĩ,π,Β,Ħ];lia;simp only[Â,ĩ];lia
def iw(a:M)(units:f8):∀b,(∀c,c∈OI lR b->∀d,BH c.2->YO d=EZ/\d<b)/\aQ (OI lR b)=b
 |0=>JA (by simp[lR])
 |BP=>by
   let⟨e,f⟩:=OI iw b;have g:OI lR BP=Ŝ (OI lR b) (YO b) b:=by unfold lR;rw[ę,Þ];rfl
   rw[g];calc⟨λc h d i=>wn$ FM (qj _ (λc h d i=>(FM e d i).1)) d i,by rw[lT,f]⟩;calc FM (im lS (λc h d i=>by have:=(FM e d i).2;lia)) d i
def qk{units:f8}(c:b∈OI bc):∀d,BH b->∀e,EG b->d<FY/\e<FY/\YO d=YO e:=by let⟨f,g,I⟩:=χ.J (υ.J c).1;intro d h e i;let⟨j,k⟩:=on (OI iw _).1 d h;let⟨l,m⟩:=IO (on (OI iw _).1);calc⟨k,m,by rw[j,l]⟩
def yJ{l:AU}{b:f8->nm}(a:f8->M):((l.filter b).q a).sum<=(l.q a).sum:=by induction l with
|nil=>simp
|cons c d e=>rw[ġ];split;simp only[Â,ĩ];lia;simp only[Â,ĩ];lia
def rh(a:M)(units:f8):WM (OI bc)<=FY:=by have b:=(OI iw FY).2;calc É (yJ _) ?_;rw[Χ];calc i9 b
def nY{l:f8}{v:M}:v∈GV eW↔v∈l\/v=a:=by
 unfold eW;split;rename_i b;have:BB l:=arD
 calc⟨.D,λz=>z.elim id λc=>c▸this⟩;rw[Ι,Θ]
def tg(l:f8)(a:M):l.length<=(GV eW).length/\(GV eW).length<=l.length+1:=by unfold eW;split<;>simp
def lU:∀{a l:f8}{v:M},v∈a.ah eW l↔v∈l\/v∈a
 |[],l,v=>mo
 |LY,l,v=>by rw[ĥ,lU,nY,ν,auh]
def lV:∀(a l:f8),(a.ah eW l).length<=l.length+a.length
 |[],l=>mo
 |LY,l=>by have d:=lV c$ eW l b;have e:=(tg l b).2;rw[ĥ,Β];lia
def jn{d:Ch M} :∀{b l:f8},(∀v,v∈l->d v)->(∀e,EG b->e&&&c≠0->(e&&&a=0->d (CF õ|||a))/\(e&&&a≠0->d 0))->(∀v,v∈lf XT a->d v)/\(∀v,v∈l->v∈lf XT a)/\IZ (lf XT)<=l.length+b.length|[],l,f,_=>⟨f,λ_ g=>g,by simp[dZ]⟩|e::h,l,f,i=>by have step:AA (XT (e::h))=AA (dZ (if e&&&c=0 then l else if e&&&a=0 then eW l _ else eW l 0) h):=I;rw[step];have j:=λv k=>i v$ BI k;by_cases m:e&&&c=0;rw[ii m];let⟨n,o,p⟩:=jn f j;calc⟨n,o,by rw[Β];lia⟩;rw[hf m];have q:=s4 (i e) m;by_cases r:e&&&a=0;rw[ii r];let⟨n,o,p⟩:=jn (λv k=>(nY.J k).elim (f v) λs=>s▸q.1 r) j;have:=(tg l (CF õ|||a)).2;calc⟨n,λv k=>o v$ nY.Q$ .D k,by rw[Β];lia⟩;rw[hf r];let⟨n,o,p⟩:=jn (λv k=>(nY.J k).elim (f v) λs=>s▸q.2 r) j;have:=(tg l 0).2;calc⟨n,λv k=>o v$ nY.Q$ .D k,by rw[Β];lia⟩
def Wa(c:Ch M)(a:f8)(d b:M):Prop:=∀e,EG a->e&&&2^d≠0->(e&&&GU=0->c (õ e (2^d)|||GU))/\(e&&&GU≠0->c 0)
def hO{G:Ch M}{us:f8}{c:M}:∀{tw l:f8},(∀v,v∈l->G v)->(∀a,BB tw->c≠a->AA (Wa G us))->(∀v,v∈akH c l->G v)/\(∀v,v∈l->v∈akH c l)/\(akH c l).length<=l.length+tw.length*us.length|[],l,b,_=>⟨b,λ_ d=>d,by simp[fy]⟩|a::tw,l,b,e=>by have step:fy us (a::tw) c l=akH c (if c=a then l else ga (XT us)):=I;rw[step,Β,yo,lA];by_cases f:c=a;rw[abm];let⟨g,h,i⟩:=hO b (λj k=>e j$ BI k);calc⟨g,h,gt⟩;rw[hf f];let⟨m,n,o⟩:=jn b (JW e f);let⟨g,h,i⟩:=hO m (λj k=>e j$ BI k);calc⟨g,λv p=>h v$ n v p,gt⟩
def ql{G:Ch M}{us tw:f8}:∀{cs l:f8},(∀v,v∈l->G v)->(∀a,BB cs->∀b,b∈tw->a≠b->io (Wa G us))->(∀v,v∈cs.ah (λl a=>EF akH) l->G v)/\(∀v,v∈l->v∈cs.ah (λl a=>EF akH) l)/\(cs.ah (λl a=>EF akH) l).length<=l.length+cs.length*(tw.length*us.length)|[],l,c,_=>⟨c,λ_ d=>d,mo⟩|a::cs,l,c,e=>by rw[ĥ,Β,yo,lA];let⟨f,g,h⟩:=hO c (λb d=>v4$ JW e);let⟨i,j,k⟩:=ql f (λa d=>e a$ BI d);calc⟨i,λv m=>j v$ g v m,gt⟩
def gn{G:Ch M}{us:f8}:∀{ZK:AU}{l:f8},(∀v,v∈l->G v)->(∀a,BB ZK->∀b,b∈a->∀c,c∈a->b≠c->lf (Wa G us))->(∀v,v∈ZK.ah (Fn us) l->G v)/\(∀v,v∈l->v∈ZK.ah (Fn us) l)/\(ZK.ah (Fn us) l).length<=l.length+(ZK.q λa=>a.length*(a.length*us.length)).sum|[],l,d,_=>⟨d,λ_ e=>e,mo⟩|a::ZK,l,d,f=>by rw[ĥ,Â,ĩ];let⟨g,h,i⟩:=ql d (JW f);let⟨j,k,m⟩:=gn g (λw e=>f w$ BI e);calc⟨j,λv n=>k v$ h v n,?_⟩;unfold Fn at m|-;lia
def tj{k:M}:∀{l:AU},(l.q ą).sum<=81->(l.q λa=>a.length*(a.length*k)).sum<=(l.q ą).sum*(81*k)
 |[],_=>mo
 |LY,d=>by simp only[Â,ĩ]at d|-;have e:=im$ tj (k:=k) (l:=c);have f:b.length*(b.length*k)<=b.length*(81*k):=Ń _$ im$ qa _;lia
def Rt{us:f8}(b:a<=9)(c:us.length<=29):(pM a us).length<=200000:=by let⟨_,_,d⟩:=gn (us:=us) (tws:=bc a us) (l:=us.ah eW []) asO (λ_ _ _ _ _ _ _ e _ _=>ar9);have f:=lV us [];have g:=Ë b b;have h:=rh a us;have i:=im$ tj (k:=us.length) (l:=bc a us);have j:WM (bc a us)*(81*us.length)<=81*(81*29):=im Ë$ Ń _ c;unfold pM;simp only[Ħ]at f;lia
def Wb(c:∀d,BH b->d<2^FY):(∀d,BH b->BH (io pM))/\(∀e,EG (io pM)->e<2^FY)/\ ∀f:f8,(∀g,g<FY->1<=f.getD g 0/\f.getD g 0<=a)->(∀d,BH b->AR qh d)-> ∀e,EG (io pM)->AR qh e:=by
 calc⟨λd h=>?_,?_,λf i j=>?_⟩;let⟨_,k,_⟩:=gn (us:=b) asO (λ_ _ _ _ _ _ _ d _ _=>ar9);calc k d$ lU.Q$ .X h;calc(gn (us:=b) (λv l=>c v$ s4 (lU.J l).a1) λm n o p q r _ d h _=>⟨λ_=>?_,λ_=>cu _⟩).1;calc vz (aqj (HU h))$ gk$ lv$ BW$ BF$ qk n;calc(gn (G:=AR qh) (us:=b) (λv l=>j v$ s4 (lU.J l).a1) λm n o p q r s d h t=>?_).1;let⟨u,x,y⟩:=BW (BF (qk n));have A:=DZ$ DX V_ i u;have B:=e5.J t;calc⟨λD=>?_,λD=>?_⟩;intro H J;let⟨g,L,N,O⟩:=j d h H J;have e:∀k,(õ d (2^o)|||2^q).o k=Z↔(d.o k=Z/\k≠o)\/k=q:=λk=>by rw[ý,í,á,á,Ą,ξ];simp only[ä,alK,BE];exact⟨λz=>z.elim (λw=>.D ⟨w.1,λl=>w.2 l.symm⟩) λw=>.X w.symm,λz=>z.elim (λw=>.D ⟨w.1,λl=>w.2 l.symm⟩) λw=>.X w.symm⟩
 by_cases m:g=o;calc⟨q,(e q).Q Ps,by rw[<-A,<-m];calc N,λk n p=>?_⟩;rcases(e k).J n with w|w;calc DM ((O k w.1 p).trans m) w.2;calc w;calc⟨g,(e g).Q$ .D ⟨L,m⟩,N,λk n p=>?_⟩;rcases(e k).J n with w|w;calc O k w.1 p;rw[w]at p;calc DM (O o B (by rw[A];calc p)).symm m;exfalso;have r:=e5.J D;have:=i o u;let⟨g,_,_,O⟩:=im (j d h (f.getD o 0-1));calc s$ (im$ O o B).trans (im$ BW O).symm
def uL(units:f8)(a b:M):FE (BL q6 KP).o↔b≠a/\∃c,c∈units/\c.o a=Z/\FE c.o:=by
 have d:∀(e:f8) l,FE (e.ah (λl c=>if c&&&KP=0 then l else l|||c) l).o↔FE l.o\/∃c,c∈e/\c.o a=Z/\FE c.o:=by intro e;induction e with
 |nil=>intro l;simp
 |cons c f g=>intro l;rw[ĥ,g];by_cases h:c&&&KP=0;have:¬c.o a=Z:=λz=>e5.Q z h;rw[ii h];simp[this];have:=e5.J h;rw[hf h,ý,Ą];simp[this,auh]
 unfold q6;rw[í,ξ,d,á];simp only[eA,jh,aui,ä,alK];calc⟨λh=>⟨λi=>h.2 i.symm,h.1⟩,λh=>⟨h.2,λi=>h.1 i.symm⟩⟩
def kB(a b:M):(KP-1).o b=sB (b<a):=by rw[y6]
def zi(c:M)(units:f8)(d b a:M):NZ ((BL (f5 c) d).qf b)↔a<c*c/\∀e,EG units->FE e.o->e.o a=Z->NJ:=by show NZ (ga õ)↔_;rw[í,ξ,kB,BE,ä];constructor;rintro ⟨f,g⟩;calc⟨f,λe h i j=>?_⟩;apply Κ;intro k;rw[(sK$ BL uL).Q ⟨k,e,h,i,j⟩]at g;cases g;rintro ⟨f,g⟩;calc wn f;cases z:(BL q6 _).o a with
|gl=>rfl
|Z=>let⟨k,e,h,i,j⟩:=(sK$ BL uL).J z;calc DM (up (FG g)) k
def tm(l:f8)(a:JQ):(FX l.length λb=>a OT).length=IZ l.filter:=by
 have c:l=BR l.length (λd=>IM l.getD):=by apply ao;simp;intro b e f;rw[cT,ah,γ,δ e];rfl
 conv=>rhs;rw[c]
 rw[cg,θ];rfl
def nZ(c:uv e.n e.bY=Z)(a:b∈units e):b.length=e.n:=by rw[gG]at a;rcases Ι.J a with d|a;let⟨f,_,I⟩:=TC;simp;rcases Ι.J a with d|a;let⟨f,_,I⟩:=TC;simp;rcases Ι.J a with d|a;let⟨g,h,I⟩:=TC;let⟨i,j⟩:=yF.J c;have:=j g$ ψ.J h;rw[dD,<-tm,i]at this;calc this;split at a;simp only[qY,ν,ã,GS]at a;rcases a with I|I<;>simp;simp at a
def Fo(c:∀d,BH b->d<a):Û b<KP:=by apply aP;intro d e;rw[Ċ];cases z:b.an d with
|gl=>rfl
|Z=>have:=HU RM;lia
def Ru(c:uv e.n e.bY=Z)(d:py nQ)(a:b∈units e):qh e.n f$ Û b:=by
 let⟨g,h,i⟩:=br.J d;have j:=iq a;have k:=λl m n o p=>i l n$ eU.Q ⟨p,b,a,m,o⟩;intro q r;have s:q+1∈b.q (λl=>f.getD l 0):=by calc pJ ?_ (by rw[θ,AA nZ]) (λt u=>?_) r;calc aoN;calc aF (λ{l n} m o p=>BF$ AE k n)$ ç.J j;let⟨l,m,I⟩:=χ.J u;exact h l$ d_ a m
 let⟨v,x,y⟩:=χ.J s;calc⟨v,by rw[Ċ];simpa using x,y,λl m z=>?_⟩;rw[Ċ]at m;apply Κ;intro A;calc GY (k l aeG) A$ z.trans y.symm
def cX(a:Ĥ):f8:=JH units Û
def Wc :∀a,BB (cX e)->a<2^(e.n*e.n):=λa b=>by let⟨v,c,I⟩:=χ.J b;calc Fo λd f=>d_ c f
def gp(a:Ĥ):IZ units<=3*a.n+2:=by rw[gG];simp only[π,gF,jj,wy,θ,Ð];split;simp[qY];lia;simp;lia
def K4(a:2<=e.n/\e.n<=9/\uv e.n e.bY=Z)(b:M):aE e$ f5 e.n (pM e.n (cX e)) b:=by let⟨c,d,f⟩:=Wb Wc;calc⟨I,a.1,lv a,I,d,λg h=>?_,λi j=>c _$ χ.Q ⟨i,j,I⟩,λk l _=>AY$ ga zi,?_⟩;calc f g (lv (br.J h)) λi j=>?_;let⟨v,m,I⟩:=χ.J j;calc No$ Ru$ wS a;have:=Rt (us:=cX e) (lv a) (by have:=gp e;simp only[cX,θ];lia);show ZO (pM e.n _);lia
def d4{b e:d}:AH (io Λ).getD=if c<a then b else e:=by rw[γ,cU];split<;>rfl
def Br(f:FG aE)(g:b.length=LD)(d c:M):DB (bU h b).P↔d<h.n/\c<LD/\(UW=0\/UW=IG):=by show FR (ZW (BR h.n _).getD)↔_;rw[ax];split;rename_i a;rw[í,f.cA,kB,ξ,BE,v3,Ċ];simp only[a];constructor;rintro ⟨j,i⟩;simp only[Ng,υ,ψ,not_and]at i;lia;simp only[Ng,υ,not_and];lia;rename_i a;simp[a]
def Nx(a:Ž)(d:f8)(b c:M):¬lf (wE bU).S:=by show¬FR (AW (Λ a.n 0).getD).o;rw[d4];split<;>simp
def ib(a:FG aE){g:f8}(b:g.length=LD):ú h$ bU h g:=by
 have c:=Nx h g;have d:=io Br;have f:∀i,(bU h g).O i↔i<LD:=λi=>by show h.cA.o i=Z↔_;rw[a.cA,kB,BE]
 calc⟨⟨a.n9,by simp[bU],by simp[bU],by simp[bU],by simp[bU],Ty,Ty,?_,Ty⟩,λj i k=>kt k$ c j i,λj l i k=>kt k$ c j i,λi m=>.D$ (f i).Q m,λj i k=>(f i).Q$ lv$ (d j i).J k,λn o j i p q r=>kt r$ c j i,λj n o=>?_⟩;apply aP;intro s t;cases z:FO ((bU h g).ζ.getD j) s with
 |gl=>rfl
 |Z=>have:=lv$ (d j s).J z;lia
 show(Λ h.n 0).getD j 0<_;rw[d4];split<;>calc cu _;show h.cA<_;rw[a.cA];have:=cu LD;lia;show ZO ((Λ h.n h.units).getD j []);rw[d4];split;calc a.len;simp;have o:n∈(Λ h.n h.units).getD j []:=o;rw[d4]at o;split at o;calc wn o;show n&&&(Λ h.n 0).getD j 0=0;rw[d4];split<;>simp;simp at o
def iy(a:FG aE)(c:b.length=e.n*e.n):Ő e (bU h b)=cf (nt e b):=by
 have d:b.length=LD:=by rw[a.n];exact c
 calc aum (df _) λf=>?_;rw[Ŕ,oW c];show py nQ/\_↔py nQ/\∀g,g<e.n*e.n->b.getD g 0=0\/b.getD g 0=f.getD g 0;constructor;rintro ⟨i,j⟩;calc⟨i,λg k=>?_⟩;have:=gj i k;rcases im (j g (f.getD g 0-1))with z|z;have:=wS$ (ga$ wE Br).J z;lia;calc VI$ ga$ Nx h b;rintro ⟨i,j⟩;calc⟨i,λl m n=>.D$ (wE Br m l).Q ?_⟩;have o:=IP Kt n;have:=j l (by rw[<-a.n];calc o);have:=lv (br.J i) l (by rw[<-a.n];calc o);have:=a.n;calc⟨gt,o,gt⟩
def ŏ.Uw(a:ŏ)(b c:M):ŏ:={a with ζ:=a.ζ.set b$ õ WZ c}
def Fp{b:M}:(i.Uw a GU).P c l↔i.P c l/\¬(c=a/\l=b):=by show(CU (i.ζ.set a _).getD).o l=Z↔_;rw[ś];by_cases z:c=a/\a<i.ζ.length;rw[LU,Da,í,á,ξ];simp only[ä,alK,aug];calc⟨λw=>⟨w.1,λv=>w.2 v.symm⟩,λw=>⟨w.1,λv=>w.2 v.symm⟩⟩;rw[IU];calc⟨λw=>⟨w,λv=>z$ wn v.1⟩,λw=>w.1⟩;apply ŗ;intro d;rw[v.1,dH d]at w;simp at w
def Ny(a:t3 ú)(b c:M):ú h$ i.Uw b HG:=by have d:∀e f,py (i.Uw b HG).P->py i.P:=λe f z=>(Fp.J z).1;calc⟨⟨a.wf.n9,by simp[ŏ.Uw,a.wf.lp],a.wf.lw,a.wf.ls,a.wf.lc,λe=>?_,a.wf.bs,a.wf.bo,a.wf.bw⟩,a.so,a.sd,a.st,λe f z=>py a.po$ py d z,λg j e f k l m n o=>FF (AI (py (a.lk g j)))$ o.elim .D λz=>.X$ d e k z,a.wa⟩;calc ĝ (sub_le (λf z=>py d z))$ a.wf.bp e
def Nz(e:t3 ú)(b:i.O a)(d:f8):mR (i.Uw c KP) d↔mR i d/\HF d.getD≠BD:=by constructor;intro f;calc⟨λg j k=>(AS$ f g).elim (λz=>.D (Fp.J z).1) .X,λk=>?_⟩;rcases mt f k with z|z;calc(Fp.J z).2$ ln I;calc AA e.so z b;rintro ⟨f,l⟩ g j k;rcases AS (f g) with z|z;calc .D$ Fp.Q ⟨z,λw=>l (by rw[<-w.1,<-w.2];calc k)⟩;calc MV
def ai(a:f8)(b:M):KF:=(ι b).ah (λl c=>Ŝ l SG c) []
def tn(a:f8):AU:=(RL$ ai a).q (·.2)
def wZ[abl]:∀{l:WT}{k:d}{a:M},(∃b,b∈Ŝ l k a/\BB b.2)/\ ∀c,(∃b,b∈l/\c∈b.2)-> ∃b,b∈Ŝ l k a/\c∈b.2|[],k,a=>⟨⟨(k,[a]),by simp[Ŝ],mo⟩,λ c⟨b,e,_⟩=>by simp at e⟩|(f,g)::h,k,a=>by let⟨⟨b,i,j⟩,m⟩:=wZ (k:=k);unfold Ŝ;split;calc⟨⟨(f,g++[a]),mo,mo⟩,λ c⟨n,e,o⟩=>?_⟩;rcases ν.J e with I|e;calc⟨(f,g++[a]),mo,Ι.Q$ .D o⟩;calc⟨n,BI e,o⟩;calc⟨⟨b,BI i,j⟩,λ c⟨n,e,o⟩=>?_⟩;rcases ν.J e with I|e;calc⟨_,mo,o⟩;let⟨p,q,r⟩:=m c ⟨n,e,o⟩;calc⟨p,BI q,r⟩
def zj[abl]:∀{l:WT}{a:d}{b:M},(∀c,c∈l->c.2≠[])-> ∀c,c∈io (Ŝ l)->c.2≠[]
 |[],a,b,_,c,e=>by simp only[Ŝ,Θ]at e;rw[e];simp
 |(f,g)::h,a,b,i,c,e=>by unfold Ŝ at e;split at e;rcases ν.J e with I|e;simp;calc i c$ BI e;rcases ν.J e with I|e;calc s4$ i _;calc AH$ zj λc e=>i c$ BI e
def j4(a:f8):∀b,(∀c,c∈UU->c.2≠[]/\ ∀d,BH c.2->IM a.getD=EZ/\d<b)/\(∀d,d<b->∃c,c∈UU/\BH c.2)/\aQ UU=b
 |0=>⟨by simp[ai],λd e=>gt,I⟩
 |BP=>by
   let⟨f,g,h⟩:=io j4;have i:ai a BP=Ŝ UU ae3 b:=by unfold ai;rw[ę,Þ];rfl
   rw[i];calc⟨λc j=>⟨DX$ zj λc j=>(DX f).1,λl m=>wn$ AE$ DX$ qj _ λc j l m=>(AE (DX f).2).1⟩,λd e=>?_,by rw[lT,h]⟩;calc AE (DX (im lS (λc j l m=>by have:=(AE (DX f).2).2;lia)));let⟨n,o⟩:=wZ (k:=ae3);by_cases z:d=b;rw[z];calc n;calc o d$ im$ g d
def uM[abl]:∀(l:WT)(a:d)(b:M),(io$ Ŝ l).q (·.1)=if BB (l.q (·.1))then l.q (·.1)else l.q (·.1)++[a]
 |[],a,b=>I
 |(c,e)::f,a,b=>by
   have g:=io$ uM f;unfold Ŝ;by_cases h:c=a;subst h;simp;rw[hf h,Â,g,Â];have:BB (c::f.q (·.1))↔BB (f.q (·.1)):=by rw[ν];exact⟨λz=>z.a1 λw=>h w.symm,.X⟩
   by_cases i:BB (f.q (·.1));rw[ii i,BZ$ this.Q i];rw[hf i,MA$ i$ this.J z];rfl
def Rv[abl]{l:WT}{g:d}(f:(l.q (·.1)).ar):(JH (Ŝ l g) (·.1)).ar:=by rw[uM];split;calc f;rename_i b;calc ŷ.Q ⟨f,mo,λh c i e=>by rw[Θ.J e];calc λz=>b (z▸c)⟩
def j5{a:Type}{b:d->a}:∀{l:List d},(l.q b).ar->∀c,c∈l->∀e,EG l->Db=EV->c=e
 |[],_,c,f,_,_,_=>by simp at f
 |g::h,i,c,f,e,j,k=>by let⟨m,n⟩:=ñ.J i;rcases ν.J f with o|p;rcases ν.J j with q|r;rw[o,q];calc(m$ χ.Q ⟨e,r,by rw[<-k,o]⟩).elim;rcases ν.J j with q|r;calc(m$ χ.Q ⟨c,p,by rw[k,q]⟩).elim;calc j5 n c p e r k
def w3(a:f8):∀b,(UU.q (·.1)).ar
 |0=>by simp[ai]
 |BP=>by
   have c:ai a BP=Ŝ UU ae3 b:=by unfold ai;rw[ę,Þ];rfl
   rw[c];calc Rv$ io w3
structure Fq(n:M)(a:f8)(b:AU):Prop where
 ne:∀c,c∈b->c≠[]
 lt:∀c,c∈b->∀d,BH c->d<n
 eq:∀c,c∈b->∀d,BH c->∀e,EG c->IM a.getD=FI a.getD
 all:∀d,d<n->∃c,c∈b/\BH c
 cl:∀c,c∈b->∀d,BH c->∀e,e<n->FI a.getD=IM a.getD->EG c
def Rw(a:f8):RL Fq a$ tn a:=by let⟨b,c,_⟩:=RL (j4 a);calc⟨λd e=>?_,λd e f g=>?_,λd e f g h i=>?_,λf g=>?_,λd e f g h i j=>?_⟩;let⟨k,l,I⟩:=χ.J e;calc(AI b).1;let⟨k,l,I⟩:=χ.J e;calc(on (AI b).2).2;let⟨k,l,I⟩:=χ.J e;rw[(on (AI b).2).1,(t3 (AI b).2).1];let⟨k,l,g⟩:=on c;calc⟨k.2,χ.Q ⟨k,l,I⟩,g⟩;let⟨k,l,I⟩:=χ.J e;let⟨m,n,o⟩:=t3 c;have p:=(on (AI b).2).1;have q:=((FF b).2 h o).1;have:=FF (AI (j5 (RL (w3 a)))) (by rw[<-p,<-q,j]);rw[this];calc o
def dh(st:f8)(a:f8):M:=a.ah (λb c=>b|||CU st.getD) 0
def zk(b:M)(st:f8)(a c:f8):f8:=c.ah (λa d=>a.set d (IM a.getD|||(dh st c&&&b))) a
def fA(a:M)(st:f8)(b:AU)(c:f8):f8:=b.ah (zk a st) c
def Bs(st a:f8)(b:M):FE (dh st a).o↔∃c,c∈a/\FE (CU st.getD).o:=by
 have d:∀(a:f8) e,FE (a.ah (λb f=>b|||st.getD f 0) e).o↔FE e.o\/∃c,c∈a/\FE (CU st.getD).o:=by intro a;induction a with
 |nil=>intro e;simp
 |cons c g h=>intro e;rw[ĥ,h,ý,Ą];simp only[ν,auQ,auh]
 unfold dh;rw[d];simp
def zl(b:M)(st a c:f8):XB (mt$ zk b st).length:=by unfold zk;generalize dh st c&&&b=d;induction c generalizing a with
|nil=>rfl
|cons e f g=>rw[ĥ,g];simp
def Rx(b:M)(st a c:f8)(e d:M)(f:e<a.length):(PR$ mt$ zk b st).o d=Z↔(FI a.getD).o d=Z\/(EG c/\b.o d=Z/\∃g,g∈c/\FO (st.getD g) d=Z):=by
 have h:(dh st c&&&b).o d=Z↔b.o d=Z/\∃g,g∈c/\FO (st.getD g) d=Z:=by rw[Ã,ξ,Bs];exact arI
 unfold zk;rw[<-h];generalize dh st c&&&b=i;clear h;induction c generalizing a with
 |nil=>simp
 |cons g j k=>have l:=k (a.set g (a.getD g 0|||i)) aqh;calc apy l ?_;rw[ś];by_cases z:e=g;subst z;rw[BZ$ ln f,ý,Ą];simp only[ν,true_or,aug];constructor;rintro ((w|w)|w);calc .D w;calc .X w;calc .X w.2;rintro (w|w);calc wT w;calc .D$ .X w;rw[ar4];simp only[ν,z,aui]
def tq(c:M)(st:f8):∀(b:AU)(a:f8),XB (sK$ fA c st).length|[],a=>I|d::b,a=>by show(fA c st b _).length=_;rw[tq,zl]
def kC(e:M)(st:f8){d c:M}:∀(a:AU)(b:f8),d<b.length->(FR (ZW (io$ fA e st).getD)↔FR (ZW b.getD)\/ ∃f,f∈a/\BH f/\FR e.o/\∃g,g∈f/\FR (FO (st.getD g)))
 |[],b,_=>by simp[fA]
 |f::a,b,h=>by show FR (ZW (fA e st a _).getD)↔_;rw[kC e st a _ (by rw[zl];calc h),ga (EY Rx) h];simp only[ν,auQ,auh]
def tu(d:FG aE)(s:t3 ú)(j:a<h.n)(k:c<h.n)(m:HF i.ζ.getD=CU i.ζ.getD)(p:i.O l)(f:∃g,g∈IO Ő/\g.getD l 0=BD):∃g,g∈IO Ő/\g.getD l 0=DC:=by let⟨g,f,n⟩:=f;let⟨q,t⟩:=Ŕ.J f;have u:t3 Fc i (AA Em) _:=⟨I,λo b=>s_ k j b,λo _=>AY oX,λo b=>s_ k j b,λo _=>AY oX,λo b=>by unfold Em;split;rename_i z;rw[z];calc m;split;rename_i z;rw[z];calc m.symm;rfl⟩;calc⟨_,Ŕ.Q$ wL d s s u q t,?_⟩;have r:=Kt d q n;rw[gK,BZ (by rw[(br.J q).1,<-d.n];calc r),ii p,n];simp[Em]
structure fB(q:Ĥ)(L:Ž)(b B:ŏ)(c:AU)(a:f8):Prop where
 fM:VS ú
 fin:B.ĵ=0\/ahf=B.ĵ
 J8:∀d,nQ q d->(v4 mR↔mR B d)
 oo:∀e,B.O e->b.O e
 ss:∀f e,JV b.S->JV B.S
 len:a.length=L.n
 lt:∀f,a.getD f 0<RV
 snd:∀f e,FO (a.getD f) e=Z->∃d,BH (Ő q b)/\FI d.getD=f+1
 s0:∀f e,JV b.S->FO (a.getD f) e=Z
 st:∀f e,JV B.S->FO (a.getD f) e=Z
 kd:∀g,g∈c->∀f,f∈g->∀h,h∈g->∀e,b.O e->FO (a.getD f) e=Z->FO (a.getD h) e=Z
def kD{l:f8}(b:FR YE.o):WQ:=by apply ŗ;intro d;rw[dH d]at b;simp at b
def fB.ae5(p:FG aE){t:ŏ}{st:f8}(k:t3 ú)(a:Fq h.n i.ζ m)(f:t3 (fB e) t m b)(g:ú h o)(q:o.ĵ=0\/Ų o.ζ=o.ĵ)(r:∀v,nQ e v->(mR i v↔mR o v))(l:∀x,o.O x->i.O x)(j:∀y x,i.S y x->o.S y x)(s:∀A x,FO (st.getD A) x=Z->∃v,v∈IO Ő/\v.getD x 0=A+1)(n:∀A x,o.S A x->t.S A x\/FO (st.getD A) x=Z)(u:∀A,st.getD A 0<2^LD):t3 (fB e) o m$ fA i.ĵ st m b:=by
 have B:=λy x D=>kC i.ĵ st (d:=y) (c:=x) m b D;have G:=tq i.ĵ st m b;have H:=λy x z=>(B y x$ kD z).Q RR;have J:=λy x z=>(B y x (by rw[<-G];calc kD z)).J z;calc⟨g,q,r,l,j,by rw[G,f.len],λy=>?_,λy x z=>?_,λy x z=>H y x$ f.s0 y x z,λy x z=>?_,λL N y D A O x v z=>?_⟩;apply aP;intro G a0;cases z:FO ((fA i.ĵ st m b).getD y) G with
 |gl=>rfl
 |Z=>rcases J y G z with w|⟨L,_,_,w,_⟩;have:=Į (f.lt y) w;lia;have:=Į k.wf.bo w;lia
 rcases J y x z with w|⟨L,G,b0,c0,A,d0,f0⟩;calc f.snd y x w;calc tu p k (a.lt L G y b0) (a.lt L G A d0) (a.eq L G y b0 A d0) c0$ s A x f0;have g0:=g.sn z;by_cases v:i.O x;rcases n y x z with w|w;calc H y x$ f.st y x w;let⟨L,G,b0⟩:=a.all y g0;calc(B y x (by rw[f.len];calc g0)).Q$ .X ⟨L,G,b0,v,y,b0,w⟩;rcases k.st x (g.sc z)with w|⟨A,w⟩;calc kt w v;have:=g.sd A y x (j A x w) z;rw[<-this];calc H A x$ f.s0 A x w;have G:A<b.length:=by rw[f.len];exact a.lt L N A O
 rcases J y x z with w|⟨J,h0,i0,j0,k0,l0,m0⟩;calc H A x$ f.kd L N y D A O x v w;calc(B A x G).Q$ .X ?_;calc⟨J,h0,a.cl J h0 y i0 A (a.lt L N A O)$ a.eq L N A O y D,j0,k0,l0,m0⟩
def fB.start(a:t3 ú)(c:i.ĵ=0\/Ų i.ζ=i.ĵ)(b:IO Ő≠[])(f:e.n=h.n):t3 (fB e) i m i.Ú:=by calc⟨a,c,λ_ _=>Iff.rfl,λ_ z=>z,YA,a.wf.ls,a.wf.bs,λg j z=>?_,YA,YA,λk _ g _ l _ j n z=>kt n$ a.so g j z⟩;let⟨o,p⟩:=Š _ b;let⟨k,q⟩:=Ŕ.J p;calc⟨o,p,?_⟩;have:=gj k (by rw[f];calc a.sc z);have r:=im$ gm a q (d:=o.getD j 0-1)$ a.so g j z;have:=AY a.sd r z;lia
def Ry(j:e.n=h.n)(g:t3 ú)(k:b∈IO Ő)(f:AA i.S):YD=BD:=by let⟨l,m⟩:=Ŕ.J k;have:=gj l (by rw[j];calc g.sc f);have n:=im$ gm g m (d:=YD-1)$ AR$ g.so c;have:=AY g.sd n f;lia
def fB.done(c:FG aE)(g:t3 ú)(d:Fq h.n i.ζ m)(j:t3 (fB e) o m b)(k:∀l,l∈m->∀a,o.P (l.getD 0 0) a->FO (b.getD (l.getD 0 0)) a=Z)(f a:M):FO (b.getD f) a=Z↔∃n,n∈IO Ő/\HF n.getD=f+1:=by
 calc⟨j.snd f a,λp=>?_⟩;let⟨n,p,q⟩:=p;let⟨l,r⟩:=Ŕ.J p;have s:=Kt c l q;have t:f<h.n:=by have:=lv (br.J l) a (by rw[<-c.n];calc s);have:=c.n;lia
 by_cases u:i.O a;let⟨v,x,y⟩:=d.all f t;have A:=GY d.ne;have B:v.getD 0 0∈v:=by cases v with
 |nil=>calc QV A
 |cons D G=>simp
 let⟨H,J,L⟩:=tu c g (GY d.lt _ B) t (GY d.eq _ B f y) u ⟨n,p,q⟩;let⟨N,O⟩:=Ŕ.J J;calc GY j.kd _ B f y a u ?_;rcases(j.J8 H N).J O a _ L with z|z;calc GY k a z;calc j.st _ a z;calc j.s0 f a$ gm g r u q
structure Tn where
 B:ŏ
 c:M
 ds:f8
def Tn.b4(b:Ĥ)(c:Ž)(a:Tn):AU:=a.ds.aD λd=>Ő b$ re a.B.ù (2^a.c)
def ų(b:Ĥ)(c:Ž)(a:AX Tn):AU:=a.reverse.aD$ lf Tn.b4
def jo(b:Ĥ)(c:Ž)(a:AX Tn)(d:Tn):lf ų (a++[d])=lf d.b4++lf ų a:=by unfold ų;rw[List.reverse_append];rfl
def K5(a:Ĥ)(b:Ž):io ų []=[]:=I
structure ae6(L:Ž)(a:Tn):Prop where
 fM:ú L a.B
 ok:∀b,b∈a.ds->a.B.P b a.c
 len:a.ds.length<=9
def K6(a:i.ĵ≠0):∃b,low i.ĵ=GU/\i.O b/\∀c,c<b->¬i.O c:=by let⟨b,d,e,f⟩:=dX a;calc⟨b,f,d,λc g z=>by rw[ŏ.O,e c g]at z;cases z⟩
def Wd(c:FG aE)(b:t3 ú)(d:i.O a)(f:∀g,g<a->¬i.O g):ae6 h ⟨i,a,i.aV KP⟩/\IO Ő=FG Tn.b4 ⟨i,a,i.aV KP⟩:=by calc⟨⟨b,λj k=>(b5.J k).2,?_⟩,v4 (Rl c) f⟩;calc OD ?_;rw[Ð,b.wf.lp];calc b.wf.n9
def Tn.o3(b:Ĥ)(c:Ž)(d:ŏ)(e f:M)(a:f8):lf Tn.b4 ⟨d,e,f::a⟩=Ő b (d.ù c f Os)++lf Tn.b4 ⟨d,e,a⟩:=I
def Tn.w4(a:Ĥ)(b:Ž)(c:ŏ)(d:M):io Tn.b4 ⟨c,d,[]⟩=[]:=I
end Sq
namespace Sq
open Sw27 dO
variable{a:Ĥ}{b c:M}
def zm(l:f8)(b a:M):SH (AW l.set)=if NJ then 0 else YE:=by by_cases c:NJ;subst c;rw[KC];by_cases d:WQ;rw[γ,dt d];rfl;rw[dH (by rw[ť];lia)];rw[hf c,γ,en λz=>c z.symm,γ]
def Rz{g:Ž}(d:aE a g)(e:a.cells.length=FK)(i:IZ cf=1)(h:b<FK)(f:arP=BD):d3 a ((bU g ahi).Uw c GU)=0↔QG (cf (nt a ahi)):=by
 have j:ahi.length=FK:=by rw[ť];exact e
 have k:=ib d (by rw[j,d.n]);have m:(bU g ahi).O b:=by show FE g.cA.o;rw[d.cA,kB,BE,d.n];exact h
 have n:=iy d j;have o:Ő a ((bU g ahi).Uw c GU)=(cf$ nt a ahi).filter (λp=>!(AW p.getD==BD)):=by calc aum ((df _).filter _) λp=>?_;rw[Ŕ,Nz k m,υ,<-n,Ŕ];simp[auf]
 have q:cf a=(cf$ nt a ahi).filter (λp=>AW p.getD==BD):=by calc av (df _) ((df _).filter _) λp=>?_;rw[υ,oW e,oW j];show nQ a p/\_↔(nQ a p/\∀r,r<FK->ahi.getD r 0=0\/ahi.getD r 0=p.getD r 0)/\_;rw[IN];constructor;rintro ⟨s,t⟩;calc wn ⟨s,λr u=>?_⟩;rw[zm];by_cases z:r=b;rw[LU];calc GQ;rw[IU];calc t r u;rcases t b h with z|z;rw[f]at z;cases z;rw[<-z,f];rintro ⟨⟨s,t⟩,v⟩;calc⟨s,λr u=>?_⟩;by_cases z:r=b;right;rw[z,f,v];have:=t r u;rw[zm,IU]at this;exact this
 unfold d3;have x:=List.length_eq_countP_add_countP (l:=cf$ nt a ahi) λp=>AW p.getD==BD;rw[dD,<-q,i,dD]at x;have y:(cf$ nt a ahi).filter (λp=>!(AW p.getD==BD))=(cf$ nt a ahi).filter (λs=>sB (¬((AW s.getD==BD)=Z))):=by congr 1;funext s;cases(AW s.getD==BD)<;>rfl
 lia
def We(d:a.cells.length=FK)(g:IZ cf=1)(e:b<FK)(f:arP=BD):c<a.n:=by let⟨h,i⟩:=List.exists_mem_of_length_pos (show 0<IZ cf by lia);let⟨j,k⟩:=(oW d).J i;have:=zn$ lv$ br.J j;rcases zn k with z|z;rw[f]at z;cases z;lia
end Sq
namespace Sq
open dO
variable{a d e:M}{f:f8}{c:Ž}
def fC(c:M)(a:BV)(b:M):AU:=(a.filter λd=>d.2.o b).q λd=>Ev dG++([45]++GF d.1)
def lW(b:M)(a:BV):AU:=(BS$ dF a).aD$ sK fC
def lX(a d e:M)(b:BV)(c:f8):f8:=AM cI++(Ê " have "++(ē [] (c.q (λf=>GF f))++(Ê " in "++(wE hA++(Ê ": "++ē [32] (io lW))))))
def hP(S:Sh)(c a:M)(b:f8):FQ M:=b.cS λd=>sB ((S.Ă d).length=a)&& !(Ŭ S (re õ)$ S.Ă d).a2
def iz(S:Sh)(units:f8)(a:M)(b:f8):FQ IE:=b.findSome? λc=>(hP S (CU units.getD) a$ bj S (CU units.getD&&&S.ĵ) a).q λd=>(c,d)
def vK(b c:f8)(d a:M):f8:=(v4 aO).filter λe=>sB ((aO c (d&&&kz b [e])).length<=a)
def ū(a b:f8)(d:M)(c:f8):f8:=aO b (d&&&mt kz)
def bM(a b:f8)(d:M)(c:f8):M:=õ (d&&&kz b (DB (io ū)))$ mt kz
def fD(b c:f8)(e a:M)(d:AU):FQ f8:=d.cS λf=>sB ((py$ lf ū).length=a)&&py (lf bM) !=0
def eN(S:Sh)(b c:f8)(a:M)(d:f8):FQ SF:=d.findSome? λe=>(lf fD (FI S.ζ.getD) a$ Ć a$ lf vK (FI S.ζ.getD) a).q λf=>(e,f)
def lY(f:M)(b c:f8)(g:M)(d e:f8)(a:M):f8:=GF g++(Ê " of "++(v4 lnB++(Ê " in "++(AH lnB++(Ê ": "++cI f a)))))
abbrev K7:=f8×BV×BV
def w5:f8:=Ê "rows"
def w6:f8:=Ê "columns"
def kE(a:Ž):f8:=a.units.take a.n
def kF(a:Ž):f8:=(a.units.drop a.n).take a.n
def hQ(f:Ž)(S:Sh)(c:M)(d e a b:f8):QD:=(EE (eN S)$ ι f.n).q λg=>(s3 (lY f.n) g.1 g.2 (io ū (S.ζ.getD g.1 0) g.2)$ io bM (S.ζ.getD g.1 0) g.2,[],[(g.1,io bM (S.ζ.getD g.1 0) g.2)])
def n3(b:Ž)(S:Sh)(a:M):QD:=(hQ b S a w5 w6 (kE b)$ kF b).or$ hQ b S a w6 w5 (kF b)$ kE b
def tD(a:M)(S:Sh):QD:=(hM S YS).q λb=>(yH a (2^EM) b.2$ Ê "alone",[(b.2,EM)],[])
def zo(a:Ž)(S:Sh):QD:=(hn a.n S a.units$ ι a.units.length).q λb=>(yH a.n (wS b) XJ (Ê "in "++hA a.n EM),[(XJ,(wS b).cg)],[])
def o4(a:Ž)(S:Sh):QD:=(gB a.n S a.units$ ι a.units.length).q λb=>(jl a.n EM XJ (lv b.2) (wS b).2,[],[(lv b.2,(wS b).2)])
def gq(b:Ž)(S:Sh)(a:M):QD:=(iz S b.units a$ ι b.units.length).q λc=>(lX b.n EZ c.2 (Ŭ S (RQ (b.units.getD EZ) c.2) (S.Ă c.2))$ S.Ă c.2,[],Ŭ S (RQ (b.units.getD EZ) c.2)$ S.Ă c.2)
def qm(a:Ž)(S:Sh):QD:=(tD a.n S).or$ (zo a S).or$ (o4 a S).or$ (gq a S 2).or$ (n3 a S 2).or$ (gq a S 3).or$ (n3 a S 3).or$ gq a S 4
structure K8(L:Ž)(S:Sh):Prop where
 n2:2<=L.n
 u1:2*L.n<=L.units.length
 u2:auu
 pb:∀a,HF S.ζ.getD<RV
 ob:S.ĵ<RV
 u9:∀b,MI (BS (AW L.units.getD))
def w7{S:Sh} :∀{l:f8},gi S d l=f4 (e,a)->atz
 |[],b=>by cases b
 |c::f,b=>by rw[gi]at b;split at b;rename_i z;cases b;calc z;calc w7 b
def w8{S:Sh}{c:M}:∀{l:f8},hn d S f l=f4 (e,c,a)->atz
 |[],b=>by cases b
 |i::j,b=>by rw[hn]at b;split at b;rename_i g h z;cases b;calc w7 z;calc w8 b
def abL(b:atz):2^a.cg=a:=by
 let⟨c,_,_,d⟩:=dX EM;have:a=HG:=by rw[<-d];unfold õ;rw[b.2];rfl
 rw[this,mP]
def gL(a:Ž)(S:Sh):QD:=if S.dead a=Z\/S.ĵ=0 then none else qm a S
def ri(a:Ž)(S:Sh):f8:=if S.dead a=Z then Ê "none"else if S.ĵ=0 then Ê "done"else Ê "stuck"
def dA(a:Ž):M->Sh->AU|0,S=>[ri a S]|BP,S=>match gL a S with|none=>[ri a S]|f4 (c,d,e)=>c::io dA (PQ S.take)
def kH(a:Ž):M->Ch Sh|0,S=>K8 a S/\hm (gL a S)|BP,S=>K8 a S/\∀c d e,gL a S=f4 (c,d,e)->c.length<=12000/\(∀f,f∈d->f.1<a.n/\f.2<FK)/\(∀f,f∈e->f.1<a.n)/\io kH (PQ S.take)
def kH.ok{S:Sh}(b:AA kH S):K8 c S:=by cases a<;>calc EM
def iA{S:Sh}(b:hm (gL c S)):AA dA S=[ri c S]:=by cases a;rfl;unfold dA;rw[b]
def kH.some{S:Sh}(g:AA kH S){b d:BV}(e:gL c S=f4 (f,b,d)):∃h,a=h+1/\AA dA S=f::FM dA (v4 (S.take c))/\f.length<=12000/\(∀i,i∈b->i.1<c.n/\i.2<c.n*c.n)/\(∀i,i∈d->i.1<c.n)/\FM kH (v4 (S.take c)):=by cases a with
|zero=>rw[g.2]at e;cases e
|HW h=>calc⟨h,I,?_,UK$ g.2 f⟩;rw[dA,e]
def zp(a:Ž)(S:Sh):(ri a S).length<=12000:=by unfold ri;split;decide;split<;>decide
def tE :∀{a:M}{S:Sh},AA kH S->(AA dA S).length<=DC/\∀b,b∈AA dA S->b.length<=12000
 |0,S,d=>by rw[iA d.2];calc arm (λb e=>by rw[Θ.J e];calc zp c S)
 |DC,S,d=>by cases f:gL c S with
  |none=>rw[iA f];calc arm (λb e=>by rw[Θ.J e];calc zp c S)
  |some g=>let⟨h,i,j,k,_,_,l⟩:=d.some f;let⟨m,n⟩:=tE l;rw[j];calc⟨by rw[Β];lia,λo p=>?_⟩;rcases ν.J p with I|p;calc k;calc BF n
def Bt(a:Ž)(b:M):Sh:={ζ:=Λ b a.cA,Ú:=AW Λ,ĵ:=a.cA}
def aH(a:Ž)(b:f8)(c:M):Sh:=(ι c).ah (λS d=>if IM b.getD=0 then S else S.put a (IM b.getD-1) d)$ Bt a a.n
def hR(c:Ž)(b:f8)(a:M):Ev aH DC=if YD=0 then sK (aH c) else(sK$ aH c).put c (YD-1) a:=by unfold aH;rw[ę,Þ];rfl
end Sq
namespace Sq
open dO
open Sw27 (Square Board has linked units digits)
variable{f i:Type}{j:Ž}{a d h:M}{e:i8}{c:Ĥ}{l:f8}{b:Sh}
abbrev pL(b:Ĥ)(a:M):Ž:=f5 b.n (cX b) a
structure Rb(q:Ĥ)(S:Sh)(b:i8):Prop where
 lp:S.ζ.length=q.n
 ls:S.Ú.length=q.n
 cc:b.cells.length=KO
 ca:b.bJ.length=KO
 pl:∀a c,a<q.n->(HF S.ζ.getD).o c=lf has DC
 srt:∀c,b.bJ.getD c []=(digits q).filter (λa=>lf has a)
 op:∀c,S.ĵ.o c=(sB (c<KO)&&CU b.cells.getD==0)
 st:∀a c,a<q.n->(HF S.Ú.getD).o c=(CU b.cells.getD==DC)
 cl:∀c a,CU b.cells.getD≠0->pr (lf has a)
def gr(l:List f)(b:f->i)(a:M)(c:f)(d:i)(e:WQ):wE (l.q b).getD=b (mt l.getD):=by rw[γ,γ,Δ,δ e];rfl
def rj(c b a:M):(õ c GU).o a=(c.o a&&sB (a≠b)):=by rw[í,á];by_cases z:b=a;simp[z];simp[z,Ne.symm z]
def Wg{S:Sh}(e:d<S.ζ.length)(b:a<S.ζ.length)(c:M):(HF (S.put j d h).ζ.getD).o c=((HF S.ζ.getD).o c&&sB (c≠h)&&(sB (a≠d)||(j.qf h).o c)):=by show(SH$ (S.ζ.q _).set d _).o c=_;rw[ś,θ];by_cases z:a=d;subst z;rw[BZ$ ln b,Ã,rj];simp;rw[ar4,AY gr 0 _ b,rj];simp[z]
def o5 :wE QU=Z↔BH (e.bJ.getD a []):=dO.oU
def Wh{S:Sh}(c:a<S.Ú.length)(b:M):ZW (FV$ S.put j).Ú.getD b=(ZW S.Ú.getD b||(sB (d=a)&&sB (b=h))):=by show ZW (S.Ú.set a _).getD b=_;rw[ś];by_cases z:d=a;subst z;rw[BZ$ ln c,ý,á];by_cases w:b=h;simp[w];simp[w,Ne.symm w];simp[z]
def qn(e:a<c.n*c.n)(b:a≠d):((FM pL).qf d).o a=! re linked a:=by rw[ß,zi,ä,<-bP,eU];constructor;rintro ⟨_,f⟩ ⟨_,g,i,j,k⟩;calc b$ f _ (χ.Q ⟨g,i,I⟩) (by rw[Ċ];simpa using j) (by rw[Ċ];simpa using k);intro f;calc⟨e,λg i j k=>?_⟩;let⟨v,l,I⟩:=χ.J i;rw[Ċ]at j k;calc DM ⟨Ne.symm b,v,l,and,as5⟩ f
def Rb.put{S:Sh}(b:Rb c S e)(g:a<c.n*c.n)(f:d<c.n)(i:HF e.cells.getD=0):Rb c (EK (S.put (FM pL)))$ AH Nh a IG:=by
 have j:∀k l,AI (has (AH Nh a IG))=(AI QU&&sB (k≠a)&& !(AA linked k&&sB (l=IG))):=by
  intro k l;rw[ß,o5,dO.qZ];by_cases z:k<e.bJ.length;rw[LU];by_cases w:k=a;simp[w];rw[hf w];by_cases m:AA linked k=Z;rw[ii m,υ,<-o5];simp[w,m];rw[hf m,<-o5];simp[w,m];rw[IU];have:pr$ AI QU:=by cases m:AI QU;rfl;exact DM (dO.qe m) z
  simp[this]
 have n:∀k,(AH Nh a IG).cells.getD k 0=if k=a then IG else e.cells.getD k 0:=by intro k;show(e.cells.set a IG).getD k 0=_;rw[ś,b.cc];by_cases z:k=a;simp[z,g];simp[z]
 calc⟨by simp[Sh.put,b.lp],by simp[Sh.put,b.ls],by simp[Nh,b.cc],by rw[dO.Bh,b.ca],λl k o=>?_,λk=>?_,λk=>?_,λl k o=>?_,λk l p=>?_⟩;rw[Wg (by rw[b.lp];calc f) (by rw[b.lp];calc o),b.pl l k o,j];by_cases m:QU k (l+1)=Z;have p:k<c.n*c.n:=by rw[<-b.ca];exact dO.qe m
 by_cases z:k=a;simp[z];rw[qn p z];by_cases w:l=d;simp[w];simp[w];simp[m];rw[dO.qZ,b.ca];by_cases z:k<c.n*c.n;rw[LU];by_cases w:k=a;rw[ii w];symm;rw[ň];intro l _;rw[j];simp[w];rw[hf w,b.srt k];by_cases m:AA linked k=Z;rw[ii m,aU];apply į;intro l _;rw[j];simp[w,m,lz];rfl;rw[hf m];apply į;intro l _;rw[j];simp[w,m];rw[IU];symm;rw[ň];intro l _ o;calc z (by rw[<-b.ca,<-AH dO.Bh a IG];calc dO.qe o);show(õ S.ĵ KP).o k=_;rw[rj,b.op,n];by_cases z:k=a;simp[z];simp[z];rw[Wh (by rw[b.ls];calc f),b.st l k o,n];by_cases z:k=a;subst z;rw[i];by_cases w:l=d;simp[w];simp[w,Ne.symm w];simp[z];rw[j];rw[n]at p;by_cases z:k=a;simp[z];rw[IU]at p;rw[AI b.cl p];simp
def abM{S:Sh}{a:IE}(d:a.1<S.ζ.length)(b c:M):(AW (S.hh a).ζ.getD).o c=(WE.o c&&!(sB (b=a.1)&&a.2.o c)):=by show(AW (S.ζ.set a.1 _).getD).o c=_;rw[ś];by_cases z:b=a.1;rw[BZ ⟨z,d⟩,í,z];simp;rw[ar4];simp[z]
def Fs:∀(a:BV){S:Sh}{b c:M},(∀d,BH a->d.1<S.ζ.length)->(AW (a.ah Sh.hh S).ζ.getD).o c=(WE.o c&&!(a.any λd=>sB (b=d.1)&&d.2.o c))
 |[],S,b,c,_=>mo
 |d::e,S,b,c,f=>by rw[ĥ,Fs e (λg h=>by simp only[Sh.hh,ť];calc f g$ LS h),abM$ f d JJ,aA];cases WE.o c<;>simp
def w9:∀(a:BV){S:Sh},(a.ah Sh.hh S).Ú=S.Ú/\(a.ah Sh.hh S).ĵ=S.ĵ/\(a.ah Sh.hh S).ζ.length=S.ζ.length|[],S=>⟨I,I,I⟩|LY,S=>by let⟨d,e,f⟩:=w9 c;calc⟨d,e,by rw[ĥ,f];simp[Sh.hh]⟩
def Rb.hh{S:Sh}(a:Rb c S e){ls:BV}{l:BV}(b:∀f,f∈ls->f.1<c.n)(d:∀g h,g<c.n->FG has (g+1)=Z->((h,g+1)∈l↔∃f,f∈ls/\f.1=g/\f.2.o h=Z)):Rb c (ls.ah Sh.hh S)$ cV e l:=by
 let⟨i,j,k⟩:=w9 ls;have m:∀n o,BQ (has (cV e l))=(BQ QU&&! l.an (n,o)):=by intro n o;rw[ß,o5,dO.ea,υ,<-o5,ξ]
 calc⟨by rw[k,a.lp],by rw[i,a.ls],a.cc,by rw[dO.q3,a.ca],λg n p=>?_,λn=>?_,λn=>by rw[j];calc a.op n,λg n p=>by rw[i];calc a.st g n p,λn g q=>?_⟩;rw[Fs ls (λf r=>by rw[a.lp];calc b f r),a.pl g n p,m];cases s:QU n _;rfl;rw[aY,aY];congr 1;rw[ß,ô,ā,d g n p s];constructor;rintro ⟨f,r,z⟩;rw[ξ,BE]at z;calc⟨f,r,Da.symm,z.2⟩;rintro ⟨f,r,t,u⟩;calc⟨f,r,by simp[t,u]⟩;rw[dO.ea,a.srt n,aU];apply į;intro g _;rw[m,lz];rw[m,a.cl n g q];rfl
def av:∀{a b:f8},a.bb (·< ·)->b.bb (·< ·)->(∀c,c∈a↔c∈b)->NJ
 |[],[],_,_,_=>I
 |[],d::b,_,_,e=>by have:=(e d).Q JJ;cases this
 |c::a,[],_,_,e=>by have:=(e c).J JJ;cases this
 |c::a,d::b,f,g,e=>by
   rw[sP]at f g;have h:c=d:=by rcases ν.J ((e c).J JJ)with h|h;calc h;rcases ν.J ((e d).Q JJ)with i|i;calc i.symm;have:=FM g.1;have:=f.1 d i;lia
   congr 1;calc av f.2 g.2 λz=>⟨Ty,Ty⟩;rcases ν.J ((e z).J (LS j))with h|h;have:=f.1 z j;lia;calc h;rcases ν.J ((e z).Q (LS j))with h|h;have:=g.1 z j;lia;calc h
def dy(a b:M):(io Ï).bb (·< ·):=fe _ ŉ
def cJ :BB (Ï d h)↔a<d/\h.o a=Z:=by unfold Ï;rw[υ,ψ]
def lZ{b:M->M}(c:∀d e,d<e->e<a->Fk<EV):(JH ι b).bb (·< ·):=by rw[Ŋ];calc aF (λ{d e} _ f g=>s3 c g$ ψ.J f) ŉ
def n4(b:2<=c.n)(a:l∈units c):l.bb (·< ·):=by
 rw[gG]at a;rcases Ι.J a with d|a;let⟨e,_,I⟩:=TC;exact lZ λf g h _=>gt
 rcases Ι.J a with d|a;let⟨e,_,I⟩:=TC;exact lZ λf g h _=>by have:=Au h (gt:0<c.n);lia
 rcases Ι.J a with d|a;let⟨i,j,I⟩:=TC;calc fe _ ŉ;split at a;simp only[qY,ν,ã,GS]at a;rcases a with I|I;exact lZ λf g h _=>by have:=Au h (gt:0<c.n);lia
 exact lZ λf g h k=>by have:c.n*(f+1)<=c.n*g:=Ń _ h;lia
 simp at a
def kI(e:2<=c.n)(b:c.n<=9)(d:l∈units c){g:JQ}(f:∀h,a.o h=Z↔h∈l/\g h=Z):l.filter g=BS a:=by calc av (fe _ (n4 e d)) (ga dy) λi=>?_;rw[υ,cJ,f];calc⟨λj=>P3 j,λj=>j.2⟩;have:=d_ d j.1;have:=Ë b b;lia
def Ft(b:a<100):BS KP=[a]:=by calc s4 (av (ga dy)) λc=>?_;rw[cJ,á,Θ,BE];lia
def Wi(b:a<VZ)(c:BS a=[d]):a=2^d:=by
 apply dO.ext;intro e;rw[á,ß,BE];have:EG (BS a)↔EG [d]:=by rw[c]
 rw[cJ,Θ]at this;calc⟨λz=>(this.J ⟨Į b z,z⟩).symm,λz=>(this.Q z.symm).2⟩
def N3 :atz↔∃b,a=GU:=by constructor;rintro ⟨c,d⟩;let⟨e,_,_,f⟩:=dX c;calc wn e;rw[<-f];unfold õ;rw[d];rfl;rintro ⟨b,I⟩;calc⟨m9$ cu b,ip.Q λe=>?_⟩;by_cases z:b=e;simp[];simp[]
def l3(b a:M):(b&&&KP !=0)=b.o a:=by rw[ß,QR];constructor;intro c;let⟨d,e⟩:=gh c;rw[Ã,á,ξ,BE]at e;rw[e.2];calc e.1;intro c z;have:=ip.J z a;rw[Ã,á,c]at this;simp at this
def l4(a:M):(a !=0)=Z↔∃b,FE a.o:=by rw[QR];calc⟨gh,λ⟨b,c⟩ z=>?_⟩;rw[z]at c;simp at c
def pN(a:Ĥ)(b:JQ):asL b=(FX a.n λc=>b BD).q (·+1):=by unfold pH;rw[cg];rfl
def gu :BB (digits c)↔ ∃b,b<c.n/\a=BP:=by unfold pH;rw[χ];calc⟨λ⟨b,d,z⟩=>⟨b,ψ.J d,z.symm⟩,λ⟨b,d,z⟩=>⟨b,ψ.Q d,z.symm⟩⟩
section
variable{q:Ĥ}
def Rb.Ă(a:zn (Rb q))(c:M):e.bJ.getD c []=(b.Ă HG).q (·+1):=by rw[a.srt,pN];unfold Sh.Ă;rw[a.lp];congr 1;apply į;intro d f;rw[l3,DB a.pl$ ψ.J f]
def Rb.pz(a:zn (Rb q))(c:M):CU b.ζ.getD<2^KO:=by by_cases z:c<q.n;apply aP;intro d f;rw[re a.pl z];cases g:QU d _;rfl;have:=dO.qe g;rw[a.ca]at this;lia;rw[γ,Á (by rw[a.lp];lia)];calc cu _
def Rb.oz(a:zn (Rb q)):b.ĵ<2^KO:=by apply aP;intro c d;rw[a.op c];lia
def Rb.Bu(f:zn (Rb q))(c:wE QU=Z):b.ĵ.o a=Z/\HF e.cells.getD=0:=by
 have g:=Κ λz=>by rw[wE f.cl z]at c;cases c
 have h:=dO.qe c;rw[f.ca]at h;rw[f.op a,g];simp[h]
def rk(a:q.n<=9):KO<=81:=Ë a a
def R3(b:q.n<=9)(c:a<2^KO):a<VZ:=Ä c$ Uf (by have:=rk b;lia)
def cj(a:Ĥ)(b:M)(S:Sh):QD->Ch (FQ abb)|none,none=>EQ|f4 (c,d,e),f4 (f,g)=>f=c++[10]/\Rb a (s3 (S.take (io pL))) g/\(∀h,h∈d->h.1<a.n/\h.2<FK)/\ ∀h,h∈e->h.1<a.n|_,_=>DN
def cK :∀(l:List f){c:f->QD}{d:f->FQ abb},(∀e,EG l->io (cj q) (c e) (d e))->io (cj q) (l.findSome? c) (l.findSome? d)|[],_,_,_=>CA|e::g,c,d,h=>by have i:=h e JJ;rw[Ē,Ē];revert i;cases j:c e<;>cases k:d e<;>intro i;calc cK g λm n=>h m$ LS n;calc i.elim;calc i.elim;calc i
def fE(l:List f)(a:f):l.eL=BR l.length (λb=>(sK l.getD,b)):=by
 apply ao;simp;intro c d e;have g:c<l.length:=abe
 rw[List.getElem_zipIdx,cT,ah,γ,δ g];simp
def a6{a:Type}(l:List f)(b:f->he i)(c:i->a):(l.findSome? b).q c=aaq (λd=>Fk.q c):=by induction l with
|nil=>rfl
|cons d e g=>rw[Ē,Ē];cases Fk;calc g;rfl
def K9(b:a<100):cI d KP=EK dG:=by unfold cI;rw[Ft b];rfl
def zq(c:q.n<=9)(e:a<KO)(b:f8):i7 q a IG b=NI (yH q.n KP)++[10]:=by unfold i7 yH;rw[K9 (by have:=rk c;lia)];unfold g7 dG;simp
def qo(S:Sh):∀l,hM S l=aaq (λa=>if QG (S.Ă KP) then f4 (a,(S.Ă KP).getD 0 0)else none)|[]=>I|a::b=>by rw[hM,Ē,qo S b];split<;>rfl
def w_(c:a<=100)(b:d<KP):BS d=wE Ï:=by calc av (ga dy) (ga dy) λe=>?_;rw[cJ,cJ];calc⟨λf=>⟨Į b f.2,f.2⟩,λf=>XP f.2⟩
def Bv(l:List f)(a:f->nm)(b:f->he i)(c:∀d,BH l->pr MY->hm Fk):(l.filter a).findSome? b=l.findSome? b:=by induction l with
|nil=>rfl
|cons d e g=>have g:=g λh j=>c h$ LS j;rw[ġ];cases k:MY;rw[Ē,HU JJ k];simpa using g;simp only[↓ag9,Ē,g]
def Wj(f:2<=q.n)(d:q.n<=9)(c:zn (Rb q)):io (cj q) (tD q.n b)$ sS q e:=by
 unfold tD sS mW;rw[qo,a6,w_ (by have:=rk d;lia) c.oz];unfold Ï;rw[Bv];apply cK;intro g h;have h:=ψ.J h;rw[c.Ă g];by_cases z:QG (b.Ă (2^g));let⟨i,j⟩:=dr.J z;have k:i∈b.Ă (2^g):=by rw[j];exact JJ
 have l:=LX$ υ.J k;rw[c.lp]at l;have m:=(υ.J k).2;rw[l3,c.pl i g l]at m;rw[LU,j];calc⟨?_,?_,?_,mo⟩;calc zq d h _;calc c.put h l (c.Bu m).2;intro n o;rw[Θ.J o];calc⟨l,h⟩;rw[IU];cases p:b.Ă _ with
 |nil=>calc CA
 |cons r s=>cases s with
  |nil=>rw[p]at z;calc QV z
  |cons t s=>exact CA
 intro g _ h;rw[hf];rfl;intro z;let⟨i,j⟩:=dr.J z;have k:i∈b.Ă (2^g):=by rw[j];exact JJ
 have l:=LX$ υ.J k;rw[c.lp]at l;have m:=(υ.J k).2;rw[l3,c.pl i g l]at m;rw[(c.Bu m).1]at h;cases h
end
def kJ(b:Ĥ)(c:a<(units b).length):SH (cX b)=Û ((units b).getD a []):=AY (ga gr) c
def kK(b:Ĥ)(c:a<(units b).length):(units b).getD a []∈units b:=by rw[γ,δ c];calc Ö c
def gw(a:Ĥ):IZ cX=IZ units:=θ ..
def Rb.l5(h:zn (Rb c))(f:a<c.n)(g:f8)(d:M):(adc&&&Û g).o d=Z↔BH g/\QU d DC=Z:=by rw[Ã,ξ,wE h.pl f,Ċ,ā];calc arI
def tF(S:Sh)(a:M):∀l,EF (gi S)=aaq (λb=>if WE&&&a≠0/\(WE&&&a)&&&((WE&&&a)-1)=0 then f4 (b,WE&&&a)else none)|[]=>I|LY=>by rw[gi,Ē,mt$ tF S];split<;>rfl
def tG(b:M)(S:Sh)(a:f8):∀l,EF (hn b S)=aaq (λc=>(gi S SG$ ι b).q λd=>(c,d.1,d.2))|[]=>I|c::e=>by rw[hn,Ē,AM$ tG b S];cases ga (gi S)<;>rfl
def abN(g:2<=c.n)(d:c.n<=9)(f:zn (Rb c)):akW cj (zo (AA pL) b)$ AH Sw27.fg:=by unfold zo Sw27.fg mW;rw[tG,a6,fE _ [],Ů];show akW cj ((ι (cX c).length).findSome? _) _;rw[gw];apply cK;intro h i;have i:=ψ.J i;have j:=kK c i;show akW cj (((gi b (HV (cX c).getD) _).q _).q _) _;rw[kJ c i,tF,a6,a6];unfold pH;simp only[aq];rw[Ů];generalize (units c).getD h []=k at j;apply cK;intro l m;have m:=ψ.J m;have n:=f.l5 m k;have o:b.ζ.getD l 0&&&Û k<2^(c.n*c.n):=hg$ f.pz l;simp only[aq];rw[kI g d j n];generalize b.ζ.getD l 0&&&Û k=p at n o;by_cases z:p≠0/\p&&&(p-1)=0;let⟨q,I⟩:=N3.J z;have r:q<c.n*c.n:=s4$ Į o;have s:=s4 (n q).J;rw[LU,Ft (by have:=rk d;lia)];calc⟨?_,?_,?_,mo⟩;calc zq d r _;rw[mP];calc f.put r m (f.Bu s.2).2;intro p o;rw[Θ.J o];calc wn m;rw[mP];calc r;rw[IU];cases t:BS p with
|nil=>calc CA
|cons u v=>cases v with
 |nil=>calc DM (N3.Q ⟨u,Wi (R3 d o) t⟩) z
 |cons x v=>calc CA
def jq(S:Sh)(a b:M):∀l,io (eG S) l=aaq (λc=>if ati≠0/\anT≠0/\õ anT b=0 then f4 (c,ati)else none)|[]=>I|c::d=>by rw[eG,Ē,LP$ jq S];split<;>rfl
def qp(c:M)(S:Sh)(b:f8)(a:M):∀l,sK (ft c S) l=aaq (λd=>if a=d then none else(sK (hL c S) d).q (λe=>(d,e.1,e.2)))|[]=>I|d::f=>by rw[ft,Ē,sK (qp c S) f];split;rfl;cases sK (hL c S) d<;>rfl
def qq(b:M)(S:Sh)(a:f8):∀l,EF (gB b S)=aaq (λc=>(mt (ft b S)$ ι a.length).q λd=>(c,d.1,lv d,wS d))|[]=>I|c::e=>by rw[gB,Ē,AM$ qq b S];cases mt (ft b S) _<;>rfl
def l6(b:a<VZ):BS a=[]↔a=0:=by constructor;intro c;apply ip.Q;intro d;cases z:a.o d;rfl;have:=cJ.Q ⟨Į b z,z⟩;rw[c]at this;cases this;rintro I;calc gH _
def R4(g:2<=c.n)(d:c.n<=9)(f:zn (Rb c)):akW cj (o4 (AA pL) b)$ AH pI:=by
 unfold o4 pI mW;rw[qq,a6,fE _ [],Ů];show akW cj ((ι (cX c).length).findSome? _) _;rw[gw];apply cK;intro h i;have i:=ψ.J i;simp only[aq];rw[qp,a6,a6,Ů];show akW cj ((ι (cX c).length).findSome? _) _;rw[gw];apply cK;intro j k;have k:=ψ.J k;simp only[aq];by_cases l:h=j;rw[ii l,ii l];calc CA;rw[hf l,hf l];show akW cj (((GH$ hL c.n b$ cX c).q _).q _|>.map _) _;unfold hL;have m:=kK c i;have n:=kK c k;rw[kJ c i,kJ c k];have o:∀p q,FH (GH (jl c.n))=GF p++(Ê " of "++(FM g8++(Ê " in "++(DX g8++(Ê ": "++cI c.n q))))):=λp q=>I;generalize (units c).getD h []=r at m;generalize (units c).getD j []=v at n;have s:akW cj ((((eG b (Û r) (Û v)$ ι c.n).q λt=>(j,t.1,t.2)).q λt=>(h,t.1,lv t,wS t)).q (λt=>(jl c.n t.1 (lv t) (lv t.2) (wS t).2,[],[(lv t.2,(wS t).2)])))$ adF (λp=>let u:=r.filter λh=>FG has p;let z:=v.filter λh=>FG has p&&! r.an h;if u=[]\/pr (u.all (λh=>v.an h))\/z=[]then none else f4 (Å p++(Ê " of "++(FM g8++(Ê " in "++(DX g8++(Ê ": "++(ē [32] (z.q (g7 c))++[10])))))),cV e$ z.q λh=>(h,p)))$ digits c:=by
  rw[jq,a6,a6,a6];unfold pH;rw[Ů];apply cK;intro p x;have x:=ψ.J x;have y:=f.l5 x r;have A:=f.pl p;simp only[aq];have B:v.filter (λh=>ar8&&! r.an h)=BS _:=kI g d n λD=>by rw[í,ξ,f.l5 x v D,Ċ,ξ,auf]
  have G:=kI g d m y;have H:õ (aqU (Û v)) (Û r)<2^(c.n*c.n):=aqj$ hg$ f.pz p;have J:v.filter (λh=>ar8&&! r.an h)=[]↔õ (aqU (Û v)) (Û r)=0:=by rw[B];exact l6$ R3 d H
  have L:r.filter (λh=>ar8)=[]↔aqU (Û r)=0:=by rw[G];exact l6$ R3 d$ hg$ f.pz p
  have N:(r.filter λh=>ar8).all (λh=>v.an h)=Z↔õ (aqU (Û r)) (Û v)=0:=by rw[Ň,ip];constructor;intro O D;rw[í];cases l:(aqU$ Û r).o D;rfl;rw[Ċ,O D$ υ.Q$ (y D).J l];rfl;intro O D i;have:=O D;rw[í,(y D).Q$ υ.J i,Ċ]at this;simpa using this
  by_cases z:õ (aqU (Û v)) (Û r)≠0/\aqU (Û r)≠0/\õ (aqU (Û r)) (Û v)=0;let⟨k,t,j⟩:=z;rw[BZ ⟨k,t,j⟩,hf];calc⟨?_,?_,mo,?_⟩;rw[B,o];unfold cI;simp only[Ĝ];rfl;calc Rb.hh f (by intro q u;rw[Θ.J u];calc x) λA D n i=>?_;rw[B];simp only[χ,Θ,ar];constructor;rintro ⟨m,G,I,y⟩;calc⟨_,I,by simpa using y,(cJ.J G).2⟩;rintro ⟨q,I,I,O⟩;calc⟨D,cJ.Q ⟨Į (R3 d H) O,O⟩,I,I⟩;intro q u;rw[Θ.J u];calc x;rintro (w|w|w);calc t$ L.J w;rw[N.Q j]at w;cases w;calc k$ J.J w;rw[IU,ii];calc CA;apply Κ;intro w;simp only[MG]at w;calc z ⟨λl=>wS w$ J.Q l,λl=>w.1$ L.Q l,N.J ?_⟩;cases l:((r.filter λh=>ar8).all λh=>v.an h);calc kt l$ lv w;rfl
 by_cases o:Û r&&&Û v=0;rw[ii o];have:hm$ eG b (Û r) (Û v)$ ι c.n:=by rw[jq,y7];intro p _;rw[hf];rintro ⟨_,t,j⟩;let⟨D,i⟩:=gh t;have:=ip.J j D;rw[í,i]at this;have A:=ip.J o D;rw[Ã]at A i;rw[ξ]at i;rw[i.2]at A;simp at this A;rw[this]at A;cases A
 rw[this]at s;calc s;rw[abR];calc s
end Sq
namespace Sq
open dO
open Sw27 (Square Board has linked units digits choose)
variable{f h:Type}{c j m n:f8}{d:Sh}{a:Ĥ}{i b l:M}{e:i8}{o:Ž}{p q:BV}{s:f8×M}
def d5:∀(b:M)(l a:f8),BB (LB ST)->a.dV l
 |0,l,a,c=>by
   have:BB [[]]:=by cases l<;>exact c
   rw[GE Θ.J];calc List.nil_sublist _
 |BP,[],a,c=>by cases this
 |BP,d::e,a,c=>by have:=c;rcases GE Ι.J with c|c;let⟨f,g,I⟩:=χ.J c;calc(on$ zn d5).eC d;calc(mt$ d5 _ e).cons d
def l7(c:JQ):∀(a:M)(l:f8)(b:f8->he f),(∀d,d.dV l->(∃e,EG d/\pr (c e))->hm Fk)->(EF ST).findSome? b=(ST a$ l.filter c).findSome? b
 |0,l,b,_=>by
   have g:∀l:f8,ST 0 l=[[]]:=λl=>by cases l<;>rfl
   rw[g,g]
 |DC,[],b,_=>I
 |DC,e::h,b,i=>by
   have e0:ST DC (e::h)=(FV ST).q _++ST _ h:=I;have j:=l7 c DC h b λd k=>i d$ k.cons e;rw[e0,Kc,Ů,j,ġ];cases m:c e;have:hm$ (FV ST).findSome? (b∘ λl=>e::l):=by rw[y7];intro d k;exact i _ ((FV d5 d k).eC e) ⟨e,JJ,m⟩
   rw[this];simp;have n:=AA l7 h (b∘ λl=>e::l) (λ d k⟨o,p,q⟩=>i _ (k.eC e) ⟨o,LS p,q⟩);have r:ST DC (e::h.filter c)=(ST a _).q _++ga ST:=I;rw[KC,r,Kc,Ů,n]
def zr(l:List f)(a:f->nm):l.cS a=aaq (λb=>if JC=Z then ZC else none):=by induction l with
|nil=>rfl
|cons b c d=>rw[ű,Ē,d];cases JC<;>rfl
def Fu(l:List f)(a:f->nm)(b:f->AX h)(c:∀d,BH l->pr MY->Fk=[]):l.aD b=(l.filter a).aD b:=by induction l with
|nil=>rfl
|cons d e g=>have g:=g λi j=>c i$ LS j;rw[aD,ġ];cases k:MY;rw[HU JJ k,g];rfl;rw[KC,aD,g]
def K_{l:List f}{a b:f->AX h}(c:∀d,BH l->MY=Fk):l.aD a=l.aD b:=by induction l with
|nil=>rfl
|cons d e g=>rw[aD,aD,HU JJ,g λi j=>c i$ LS j]
def Bw(a:BV):∀(b c:M),FR (a.ah (λb d=>b|||d.2) b).o↔FR b.o\/∃d,BH a/\FR d.2.o:=by induction a with
|nil=>intro b c;simp
|cons e f g=>intro b c;rw[ĥ,g,ý,Ą];constructor;rintro ((h|h)|⟨d,i,h⟩);calc .D h;calc .X ⟨e,JJ,h⟩;calc .X ⟨d,LS i,h⟩;rintro (h|⟨d,i,h⟩);calc .D$ .D h;rcases ν.J i with I|i;calc .D$ .X h;calc .X ⟨d,i,h⟩
def R5(a:BV)(b:M):FE (dF a).o↔∃c,c∈a/\FE c.2.o:=by unfold dF;rw[Bw];simp
def uN:∀l:AU,ē [] l=l.aD id
 |[]=>I
 |[a]=>by simp[ē]
 |UO c=>by show a++([]++ē [] _)=_;rw[uN _];simp
def Fv(a:c.bb (·< ·))(b:∀d,BH c->d<100):BS (Û c)=c:=by calc av (ga dy) a λe=>?_;rw[cJ,Ċ,ā];calc⟨λz=>z.2,λz=>⟨EV z,z⟩⟩
section
variable {b:i8}
def Rb.adW(e:wE Rb b)(c:f8):asL (λf=>c.any λg=>QN$ has b)=(d.Ă$ Û c).q (·+1):=by rw[pN];unfold Sh.Ă;rw[e.lp];congr 1;apply į;intro f h;rw[ß,ô,l4];constructor;rintro ⟨g,i,j⟩;calc⟨g,(e.l5 (ψ.J h) c g).Q ⟨i,j⟩⟩;rintro ⟨g,i⟩;have:=(e.l5 (ψ.J h) c g).J i;calc⟨g,this.1,this.2⟩
def R6(e:wE Rb b) :i∈d.Ă (Û c)↔i<a.n/\∃f,f∈c/\DA has (i+1)=Z:=by unfold Sh.Ă;rw[υ,ψ,e.lp,l4];constructor;rintro ⟨g,f,h⟩;calc⟨g,f,(e.l5 g c f).J h⟩;rintro ⟨g,f,h⟩;calc⟨g,f,(e.l5 g c f).Q h⟩
def tJ(l:QH)(k0:NV)(r0:wE Rb b)(j0:M):IP cj d (gq (IP pL) d j0)$ io eo j0:=by
 unfold gq eo mW iz;rw[a6,fE _ [],Ů];show IP cj d ((ι$ IZ cX).findSome? _) _;rw[gw];apply cK;intro s0 h0;have h0:=ψ.J h0;have s:=kK a h0;simp only[aq];show IP cj d (((hP d ((cX a).getD s0 0) j0$ bj d ((cX a).getD s0 0&&&d.ĵ) j0).q λQ0=>(s0,Q0)).q (λ n:IE=>(lX a.n n.1 n.2 (Ŭ d (RQ ((cX a).getD n.1) n.2) (d.Ă n.2))$ d.Ă n.2,[],Ŭ d (RQ ((cX a).getD n.1) n.2)$ d.Ă n.2))) _;have t:=kJ a h0;have H:=n4 l s;have J:∀c,c∈WN.getD s0 []->c<FK:=λc g=>d_ s g;rw[abc];unfold hP bj;rw[zr,Ů,a6];simp only[aq];rw[t];generalize WN.getD s0 []=h at s H J t|-;have u0:h.filter (λc=>CU b.cells.getD==0)=BS (Û h&&&d.ĵ):=kI l k0 s λn=>by rw[Ã,ξ,Ċ,ā,r0.op n,ξ,BE];exact⟨λz=>⟨Da,wS z⟩,λz=>⟨Da,J n Da,z.2⟩⟩
 rw[u0];have v0:∀n,n∈BS (Û h&&&d.ĵ)->n∈h:=λn u=>by rw[<-u0]at u;exact(υ.J u).1
 rw[l7 (λc=>sB ((d.Ă HG).length<=j0)) j0$ BS (Û h&&&d.ĵ)];apply cK;intro f w0;have L:=d5 j0 _ f w0;have x0:∀c,c∈f->c∈h:=λc g=>v0 c (υ.J$ L.b2 g).1;have i0:f.bb (·< ·):=au L$ fe _$ ga dy;have R0:=rk k0;have l0:BS (Û f)=f:=Fv i0 λc g=>by have:=J c$ x0 c g;lia
 have m0:∀c,FR (õ (Û h)$ Û f).o↔c∈h/\c∉f:=λc=>by rw[í,ξ,Ċ,ā,Ċ,ä,<-bP,ā]
 have m:∀e c,e<a.n->(FR YM.o↔lf has LH=Z/\c∈h/\c∉f):=λe c o=>by rw[Ã,ξ,CF r0.pl o,m0]
 have j:∀q,q∈ad_↔q.1∈VL/\q.2=d.ζ.getD q.1 0&&&õ (Û h) (Û f)/\q.2≠0:=λq=>by unfold Ŭ;rw[χ];constructor;rintro ⟨e,o,I⟩;calc⟨(υ.J o).1,I,by simpa using (υ.J o).2⟩;rintro ⟨k,l,v⟩;calc⟨q.1,υ.Q ⟨k,by rw[<-l];simpa using v⟩,?_⟩;rw[<-l]
 have p:∀e,EG VL->e<a.n:=λe o=>((R6 r0).J o).1;rw[r0.adW f,θ];have y:∀c e,(c,LH)∈((h.filter λc=>! f.an c).aD (λc=>((VL.q (·+1)).filter atA).q λe=>(c,e)))↔c∈h/\c∉f/\EG VL/\lf has LH=Z:=λc e=>by
  rw[ŧ];constructor;rintro ⟨H0,y0,n0⟩;let⟨t0,I0,z0⟩:=χ.J n0;cases z0;have k:=υ.J y0;have l:=υ.J I0;let⟨S0,J0,P0⟩:=χ.J l.1;have:S0=e:=gt
  subst this;calc⟨k.1,by simpa using k.2,J0,l.2⟩;rintro ⟨k,l,v,N⟩;exact⟨c,υ.Q ⟨k,as3⟩,χ.Q ⟨LH,υ.Q ⟨χ.Q ⟨e,v,I⟩,N⟩,I⟩⟩
 have O:((h.filter λc=>! f.an c).aD (λc=>((VL.q (·+1)).filter atA).q λe=>(c,e)))=[]↔ad_=[]:=by constructor;intro t0;apply Κ;intro w;let⟨q,r⟩:=Š _ w;let⟨A,a0,o0⟩:=(j q).J r;let⟨c,g⟩:=gh o0;rw[a0]at g;let⟨b0,c0,d0⟩:=(m q.1 c$ p _ A).J g;have:=(y c q.1).Q ⟨c0,d0,A,b0⟩;rw[t0]at this;cases this;intro t0;apply Κ;intro w;let⟨U0,f0⟩:=Š _ w;let⟨H0,y0,n0⟩:=ŧ.J f0;let⟨n,u,I⟩:=χ.J n0;let⟨e,o,I⟩:=χ.J (υ.J u).1;let⟨K0,M0,A0,N0⟩:=(y H0 e).J f0;have:(e,YM)∈ad_:=(j _).Q ⟨A0,I,λg0=>by have:=(m e H0$ p e A0).Q ⟨N0,K0,M0⟩;have x:YM=0:=g0;rw[x]at this;simp at this⟩;rw[t0]at this;cases this
 have told:(((h.filter λc=>! f.an c).aD (λc=>((VL.q (·+1)).filter atA).q λe=>(c,e))).q (λn=>g7 a n.1++(45::Å n.2)))=lW a.n ad_:=by
  have p0:∀c,FR (dF _).o↔c∈h/\c∉f/\∃e,EG VL/\lf has LH=Z:=λc=>by rw[R5];constructor;rintro ⟨q,r,g⟩;let⟨A,a0,o0⟩:=(j q).J r;rw[a0]at g;let⟨b0,c0,d0⟩:=(m q.1 c$ p _ A).J g;calc⟨c0,d0,q.1,A,b0⟩;rintro ⟨k,l,e,v,N⟩;have B:=(CF m$ p e v).Q ⟨N,k,l⟩;exact⟨(e,YM),(j _).Q ⟨v,I,λg0=>by have x:YM=0:=g0;rw[x]at B;simp at B⟩,B⟩
  have O0:BS (dF ad_)=(h.filter λc=>! f.an c).filter (λc=>(dF ad_).o c):=by rw[aU];symm;calc kI l k0 s λn=>?_;rw[p0,ξ,p0];simp only[ä,<-bP,ā];exact⟨λz=>⟨Da,z,lv z⟩,λz=>lv z⟩
  unfold lW;rw[O0,List.map_flatMap,ga Fu];apply K_;intro c g;have k:=υ.J (υ.J g).1;have D:c∈h:=k.1;have G:c∉f:=by simpa using k.2
  unfold fC Ŭ;rw[cg,cg,Χ,Χ,Χ,aU];have:VL.filter (atA∘ λn=>n+1)=VL.filter (λe=>((λ b:IE=>b.2.o c)∘ λe=>(e,YM)) e&&(YM !=0)):=by apply į;intro e o;have f0:=CF m$ p e o;rw[ß,ξ];simp only[aq];rw[f0,l4];exact⟨λz=>⟨⟨z,D,G⟩,c,f0.Q ⟨z,D,G⟩⟩,λz=>Da.1⟩
  rw[this];rfl;intro c g B0;have k:=υ.J g;have D:c∈h:=k.1;have G:c∉f:=by simpa using k.2
  rw[Q4,Q4,ň];intro n u C0;let⟨e,o,I⟩:=χ.J u;rw[(p0 c).Q ⟨D,G,e,o,C0⟩]at B0;cases B0
 by_cases z:VL.length=j0/\ad_≠[];let⟨D0,F0⟩:=z;rw[ii,hf];calc⟨?_,?_,mo,?_⟩;rw[told];show _=lX a.n s0 (Û f) _ VL++[10];rw[t];unfold lX cI;rw[l0,uN];have:(VL.q (·+1)).aD Å=(VL.q λe=>GF e).aD id:=by rw[vV,vV];rfl
 rw[this];simp only[Ĝ];rfl;rw[t];calc Rb.hh (ls:=ad_) r0 (λq r=>p _ ((j q).J r).1) λe c o C0=>?_;rw[y];constructor;rintro ⟨k,l,v,N⟩;have B:=(CF m o).Q ⟨N,k,l⟩;calc⟨(e,YM),(j _).Q ⟨v,I,λg0=>by have x:YM=0:=g0;rw[x]at B;simp at B⟩,I,B⟩;rintro ⟨q,r,I,g⟩;let⟨A,a0,o0⟩:=(j q).J r;rw[a0]at g;let⟨b0,c0,d0⟩:=(m q.1 c o).J g;calc⟨c0,d0,A,b0⟩;intro q r;rw[t]at r;calc p _ ((j q).J r).1;rintro (w|w);calc w D0;calc F0$ O.J w;rw[ξ,BE,ä,eC];calc⟨D0,F0⟩;rw[hf,ii];calc CA;apply Κ;intro w;simp only[MG]at w;calc z ⟨Κ λG0=>w.1 G0,λG0=>w.2$ O.Q G0⟩;rw[ξ,BE,ä,eC];calc z;rintro f w0 ⟨n,u,T0⟩;rw[ii];left;rw[r0.adW f,θ];have:(d.Ă (2^n)).dV VL:=by
  unfold Sh.Ă;have t0:FX d.ζ.length (λe=>FI d.ζ.getD&&&2^n !=0)=(FX d.ζ.length λe=>FI d.ζ.getD&&&Û f !=0).filter (λe=>FI d.ζ.getD&&&2^n !=0):=by rw[aU];apply į;intro e _;rw[l3];cases G0:(FI d.ζ.getD).o n;rfl;symm;rw[aY,l4];exact⟨n,by rw[Ã,G0,Ċ];simpa using u⟩
  rw[t0];exact ļ
 have:=this.ew;lia
end
section
variable {cr:M}
def n5{b f:QD}{c g:FQ abb}(e:lf aul)(h:QJ (cj a cr)):aul (b.or f)$ c.or g:=by cases b<;>cases c;calc h;calc e.elim;calc e.elim;calc e
def Fw(d:f8)(a:f8):∀(c b:M),FE (a.ah (λc b=>c|||AW d.getD) c).o↔FE c.o\/∃e,EG a/\FE (FI d.getD).o:=by induction a with
|nil=>intro c b;simp
|cons e f g=>intro c b;rw[ĥ,g,ý,Ą];constructor;rintro ((h|h)|⟨i,j,h⟩);calc .D h;calc .X ⟨e,JJ,h⟩;calc .X ⟨i,LS j,h⟩;rintro (h|⟨i,j,h⟩);calc .D$ .D h;rcases ν.J j with I|j;calc .D$ .X h;calc .X ⟨i,j,h⟩
structure Net(n:M)(b cr:f8)(a:M->M->M)(A C:M->M):Prop where
 un:∀c,c<JB->A c<n/\C c<n/\a (A c) (C c)=c
 to:∀d e,d<n->e<n->s3 a<JB/\A (s3 a)=d/\C (s3 a)=e
 ll:b.length=n
 cl:cr.length=n
 lb:∀d c,d<n->(FR (ZW b.getD)↔c<JB/\A c=d)
 cb:∀e c,e<n->(FR (FI cr.getD).o↔c<JB/\C c=e)
def zt{w1 w2:f8}{b:M->M->M}{g C:M->M}(f:DX (Net a.n) b g C)(p:QH)(i:NV)(k:PQ Rb)(h:M)(l:w1++[32]=m)(o:w2++[32]=n):aul (DX (hQ ah5 d h w1 w2))$ (digits a).findSome? λq=>(ST h$ FX a.n λr=>!(XA$ QU (HX b) q).a2).findSome? λt=>if(XA ar5).length≠h\/FX FK (λu=>QU u q&&((XA ar5).an (C u)&& ! t.an (g u)))=[]then none else f4 (Å q++(Ê " of "++((m++ē [32] (t.q (λv=>GF v)))++(Ê " in "++((n++ē [32] ((XA ar5).q (λv=>GF v)))++(Ê ": "++(ē [32] ((FX FK λu=>QU u q&&((XA ar5).an (C u)&& ! t.an (g u))).q (g7 a))++[10])))))),cV e$ (FX FK λu=>QU u q&&((XA ar5).an (C u)&& ! t.an (g u))).q λu=>(u,q)):=by
 unfold hQ eN;rw[a6];unfold pH;rw[Ů];apply cK;intro q x;have x:=ψ.J x;have y:=λu=>k.pl q u x;have A:=k.pz q;simp only[aq];show aul (((DX fD (d.ζ.getD q 0) h _).q λB=>(q,B)).q (λ v:SF=>(lY a.n w1 w2 v.1 v.2 (DX ū (d.ζ.getD v.1 0) v.2)$ DX bM (d.ζ.getD v.1 0) v.2,[],[(v.1,DX bM (d.ζ.getD v.1 0) v.2)]))) _;rw[abc];simp only[asv];generalize d.ζ.getD q 0=D at y A|-;have G:∀u,QU u (q+1)=Z->u<FK:=λu H=>by have:=dO.qe H;rw[k.ca]at this;exact this
 have J:∀r s,r<a.n->(s∈XA aiX↔s<a.n/\aiX=Z):=λr s _=>by rw[υ,ψ]
 have L:aO c D=FX a.n (λr=>!(XA aiX).a2):=by unfold aO;rw[f.ll];apply į;intro r N;have N:=ψ.J N;rw[ß,l4,ä,eC];constructor;rintro ⟨u,H⟩;rw[Ã,ξ,f.lb r u N,y]at H;let⟨⟨O,B⟩,a0⟩:=H;let⟨b0,c0,d0⟩:=f.un u O;rw[B]at d0;calc List.ne_nil_of_mem$ (J r (C u) N).Q ⟨c0,by rw[d0];calc a0⟩;intro f0;let⟨s,g0⟩:=Š _ f0;let⟨h0,i0⟩:=(HX J N).J g0;let⟨j0,k0,_⟩:=HX f.to N h0;exact⟨HX b,by rw[Ã,ξ,f.lb r _ N,y];calc⟨⟨j0,k0⟩,i0⟩⟩
 have l0:∀t:f8,(∀r,asc)-> ∀u,(kz c t).o u=Z↔u<FK/\g u∈t:=λt m0 u=>by unfold kz;rw[Fw];constructor;rintro (z|⟨r,N,n0⟩);simp at z;let⟨o0,p0⟩:=(f.lb r u$ m0 r N).J n0;calc⟨o0,by rw[p0];calc N⟩;rintro ⟨o0,p0⟩;exact .X ⟨g u,p0,(f.lb _ u$ m0 _ p0).Q$ JA o0⟩
 have r0:∀t:f8,(∀r,asc)-> ∀u,(kz j t).o u=Z↔u<FK/\C u∈t:=λt m0 u=>by unfold kz;rw[Fw];constructor;rintro (z|⟨r,N,n0⟩);simp at z;let⟨o0,p0⟩:=(f.cb r u$ m0 r N).J n0;calc⟨o0,by rw[p0];calc N⟩;rintro ⟨o0,p0⟩;exact .X ⟨C u,p0,(f.cb _ u$ m0 _ p0).Q$ JA o0⟩
 have s0:∀t:f8,(∀r,asc)->ao2=XA (t.any (auk aiX)):=λt m0=>by unfold ū aO;rw[f.cl];apply į;intro s g0;have g0:=ψ.J g0;rw[ß,l4,ô];constructor;rintro ⟨u,H⟩;rw[Ã,Ã,ξ,ξ,f.cb s u g0,y,l0 t m0]at H;let⟨⟨O,B⟩,a0,_,t0⟩:=H;let⟨b0,c0,d0⟩:=f.un u O;calc⟨g u,t0,?_⟩;rw[ā,QI b0];rw[B]at d0;calc⟨g0,by rw[d0];calc a0⟩;rintro ⟨r,N,u0⟩;rw[ā,HX J$ m0 r N]at u0;let⟨j0,k0,J⟩:=HX f.to (m0 r N) g0;exact⟨HX b,by rw[Ã,Ã,ξ,ξ,f.cb s _ g0,y,l0 t m0,k0];calc⟨⟨j0,J⟩,u0.2,j0,N⟩⟩
 unfold fD;rw[zr,a6,<-L,l7 _ h$ aO c D];apply cK;intro t m0;have L:=d5 h _ t m0;have J:∀r,asc:=λr N=>by have:=(υ.J$ L.b2 N).1;unfold aO at this;have:=LX akP;rw[f.ll]at this;exact this
 have L:=s0 t J;rw[<-L];have v0:∀s,s∈ao2->s<a.n:=λs g0=>by rw[L]at g0;exact LX$ υ.J g0
 have L:∀u,(DX bM D t).o u=Z↔QU u (q+1)=Z/\C u∈ao2/\g u∉t:=λu=>by unfold bM;rw[í,Ã,ξ,ξ,y,r0 _ v0,ä,<-bP,l0 t J];constructor;rintro ⟨⟨O,B,a0⟩,t0⟩;calc⟨O,a0,λw=>t0 ⟨B,w⟩⟩;rintro ⟨O,B,a0⟩;exact⟨⟨O,G u O,B⟩,λw=>a0 w.2⟩
 have y:DX bM D t<2^FK:=aqj$ hg A;have G:FX FK (λu=>QU u (q+1)&&(ao2.an (C u)&& ! t.an (g u)))=BS (DX bM D t):=by rw[w_ (by have:=rk i;lia) y];unfold Ï;apply į;intro u _;rw[ß,L,ξ,ξ,ā,ä,<-bP,ā]
 rw[G];have O:=l6$ R3 i y;by_cases z:ao2.length=h/\DX bM D t≠0;let⟨B,A⟩:=z;rw[BZ (by rw[ξ,BE,QR];calc⟨B,A⟩),DP (by rintro (w|w);calc w B;calc A$ O.J w)];calc⟨?_,?_,mo,?_⟩;rw[<-l,<-o];unfold lY lnB cI;simp only[Ĝ];rfl;calc Rb.hh (ls:=[(q,DX bM D t)]) k (by intro s g0;rw[Θ.J g0];calc x) λL u G H=>?_;simp only[χ,Θ,ar];constructor;rintro ⟨r,N,I,B⟩;calc⟨_,I,arJ,(cJ.J N).2⟩;rintro ⟨s,I,I,A⟩;calc⟨u,cJ.Q ⟨Į (R3 i y) A,A⟩,I,I⟩;intro s g0;rw[Θ.J g0];calc x;rw[DP (by rw[ξ,BE,QR];calc z),ii];calc CA;apply Κ;intro w;simp only[MG]at w;calc z ⟨Κ λH=>w.1 H,λH=>w.2$ O.Q H⟩;rintro t m0 ⟨v,G,B⟩;have B:¬(DX ū D [v]).length<=h:=by
  have:¬(aO j (D&&&kz c [v])).length<=h:=arJ
  exact this
 have J:∀r,asc:=λr N=>by have:=m0.b2 N;unfold aO at this;have:=LX akP;rw[f.ll]at this;exact this
 rw[<-s0 t J,ii];left;have:(DX ū D [v]).dV ao2:=by
  rw[s0 t J,s0 [v] (λr N=>by rw[Θ.J N];calc J v G)];have L:XA ([v].any (auk aiX))=(XA$ t.any$ auk aiX).filter (λs=>[v].any$ auk aiX):=by rw[aU];apply į;intro s _;cases H:[v].any _;rfl;symm;rw[aY,ô];calc⟨v,G,?_⟩;simpa using H
  rw[L];exact ļ
 have:=this.ew;lia
end
section
variable {cr:M}
def Fx(a:Ĥ)(b:M):kE (io pL)=(gF a.n).q Û:=by show(JH units Û).take a.n=_;rw[gG,Æ,wj (by simp[gF]),mX (by simp[gF])]
def Fy(a:Ĥ)(b:M):kF (io pL)=(jj a.n).q Û:=by show((JH units Û).drop a.n).take a.n=_;rw[gG,Æ,List.drop_append_of_le_length (by simp[gF]),ŋ (by simp[gF]),ag,Æ,wj (by simp[jj]),mX (by simp[jj])]
def N4(c:0<b)(a:i<b):FO (((gF b).q Û).getD i) l=Z↔l<b*b/\l/b=i:=by
 rw[AY gr [] _ (by simp[gF];calc a),Ċ,ā];unfold gF;rw[AY gr 0 _ (by simp;calc a)];have:(ι b).getD i 0=i:=by rw[γ,ë a];rfl
 rw[this,χ];constructor;rintro ⟨d,e,I⟩;have e:=ψ.J e;calc wn ?_;have:b*(i+1)<=b*b:=Ń _ a;lia;rw[yz c,mQ e];rfl;rintro ⟨_,I⟩;calc⟨_,ψ.Q$ cF _ c,dJ l b⟩
def N5(c:0<b)(a:i<b):FO (((jj b).q Û).getD i) l=Z↔l<b*b/\l%b=i:=by
 rw[AY gr [] _ (by simp[jj];calc a),Ċ,ā];unfold jj;rw[AY gr 0 _ (by simp;calc a)];have:(ι b).getD i 0=i:=by rw[γ,ë a];rfl
 rw[this,χ];constructor;rintro ⟨d,e,I⟩;have e:=ψ.J e;calc wn ?_;have:b*IG<=b*b:=Ń _ e;lia;rw[yA,bS a];rintro ⟨f,I⟩;calc⟨_,ψ.Q$ ew f,dJ l b⟩
def N6(a:i<b)(c:l<b):b*i+l<b*b:=by have:b*(i+1)<=b*b:=Ń _ a;lia
def Wk(b:0<a.n):Net a.n (kE ah5) (kF ah5) (λc d=>a.n*c+d) (λe=>e/a.n) λe=>e%a.n:=by rw[Fx,Fy];calc⟨λe f=>⟨ew f,cF _ b,dJ e a.n⟩,λc d g h=>⟨ww N6,?_,?_⟩,by simp[gF],by simp[jj],λc e g=>N4 b g,λd e h=>N5 b h⟩;rw[yz b,mQ h];rfl;rw[yA,bS h]
def Wl(b:0<a.n):Net a.n (kF ah5) (kE ah5) (λc d=>a.n*d+c) (λe=>e%a.n) λe=>e/a.n:=by rw[Fx,Fy];calc⟨λe f=>⟨cF _ b,ew f,dJ e a.n⟩,λc d g h=>⟨N6 h g,?_,?_⟩,by simp[jj],by simp[gF],λc e g=>N5 b g,λd e h=>N4 b h⟩;rw[yA,bS g];rw[yz b,mQ g];rfl
def R7(a:f->he h)(b c:f):[b,c].findSome? a=JC.or JD:=by rw[Ē,Ē,List.findSome?_nil];cases JC<;>cases JD<;>rfl
def N7(b:QH)(c:NV)(g:PQ Rb)(f:M):aul (DS (n3 ah5))$ py$ my a:=by have h:=JS$ QN (lf (zt (cr:=cr) (im (Wk (cr:=cr))))) (w1:=w5) (w2:=w6);have i:=JS$ QN (lf (zt (cr:=cr) (im (Wl (cr:=cr))))) (w1:=w6) (w2:=w5);unfold n3 my mW;rw[R7];calc t3 n5
def rn(b:QH)(c:NV)(f:PQ Rb):aul (qm ah5 d)$ AM gZ:=by
 have g:AM gZ=(AM sS).or ((AM Sw27.fg).or ((AM pI).or ((AM eo 2).or ((AM my 2).or ((AM eo 3).or ((AM my 3).or (AM eo 4))))))):=by unfold gZ;generalize AM sS=h;generalize AM Sw27.fg=i;generalize AM pI=j;generalize AM eo 2=k;generalize AM my 2=l;generalize AM eo 3=m;generalize AM my 3=n;generalize AM eo 4=o;cases h;cases i;cases j;cases k;cases l;cases m;cases n;cases o<;>rfl;rfl;rfl;rfl;rfl;rfl;rfl;rfl
 rw[g];calc n5 (lf Wj f)$ n5 (lf abN f)$ n5 (lf R4 f)$ n5 (lf tJ f 2)$ n5 (lf N7 f 2)$ n5 (lf tJ f 3)$ n5 (lf N7 f 3)$ lf tJ f 4
def ro(c:NV)(b:PQ Rb):d.dead ah5=AM Es:=by
 unfold Sh.dead Es;rw[Jv];congr 1;rw[ß,BE,ô];constructor;intro f;apply Κ;intro w;apply f;apply dO.ext;intro g;rw[ß,fq];constructor;rintro ⟨h,i⟩;have j:h<a.n:=Κ λk=>by rw[γ,Á (by rw[b.lp];lia)]at i;simp at i
 rw[b.pl h g j]at i;calc(b.Bu i).1;intro l;rw[b.op g,ξ,BE]at l;apply Κ;intro k;calc w ⟨g,ψ.Q l.1,?_⟩;rw[ξ,abd,b.srt g,ň];calc⟨l.2,λh i m=>?_⟩;let⟨n,o,I⟩:=gu.J i;calc k ⟨n,by rw[b.pl n g o];calc m⟩;rintro ⟨g,p,m⟩ n;have p:=ψ.J p;rw[ξ,abd,b.srt g,ň]at m;have l:d.ĵ.o g=Z:=by rw[b.op g,m.1];simp[p]
 rw[<-n,fq]at l;let⟨h,i⟩:=l;have j:h<a.n:=Κ λk=>by rw[γ,Á (by rw[b.lp];lia)]at i;simp at i
 rw[b.pl h g j]at i;calc m.2 (h+1) (gu.Q ⟨h,j,I⟩) i;have q:∀(r:f8)(h:M),h<a.n->(((HV d.ζ.getD|||HV d.Ú.getD)&&&Û r !=0)=r.any _):=λr h i=>by rw[ß,l4,ô];constructor;rintro ⟨g,p⟩;rw[Ã,ý,ξ,Ċ,ā,DL$ b.pl h,DL$ b.st h,Jv]at p;calc⟨g,p.2,p.1⟩;rintro ⟨g,s,t⟩;exact⟨g,by rw[Ã,ý,ξ,Ċ,ā,DL$ b.pl h,DL$ b.st h,Jv];calc⟨t,s⟩⟩
 rw[ß,ô,ô];constructor;rintro ⟨h,i,m⟩;have i:h<a.n:=ψ.J i;unfold Sh.okD at m;rw[ä,U9]at m;let⟨u,v,x⟩:=m;let⟨r,y,I⟩:=χ.J v;calc⟨r,y,ô.Q ⟨h+1,gu.Q ⟨h,i,I⟩,?_⟩⟩;rw[t3$ q r]at x;simpa using x;rintro ⟨r,y,m⟩;let⟨z,A,x⟩:=ô.J m;let⟨h,i,I⟩:=gu.J A;calc⟨h,ψ.Q i,?_⟩;unfold Sh.okD;rw[ä,U9];calc⟨Û r,χ.Q ⟨r,y,I⟩,?_⟩;rw[t3$ q r];simpa using x
def rp(b:PQ Rb):d.ĵ=0↔e.cells.all (λc=>c !=0)=Z:=by
 rw[ip,Ň];constructor;intro f c g;let⟨h,i,j⟩:=List.getElem_of_mem g;have:=f h;rw[b.op h]at this;have k:HV e.cells.getD=c:=by rw[γ,δ i,j];rfl
 rw[k]at this;have l:h<FK:=by rw[<-b.cc];exact i
 simpa[l]using this;intro f h;rw[b.op h];by_cases i:h<FK;have l:h<e.cells.length:=by rw[b.cc];exact i
 have:=f _$ Ö l;have k:HV e.cells.getD=e.cells[h]:=by rw[γ,δ l];rfl
 rw[k];simpa[i]using this;simp[i]
end
def n6(a:Ž)(b:f8):∀c,(EE aH).ζ.length=a.n/\(EE aH).Ú.length=a.n
 |0=>by simp[aH,Bt]
 |BD=>by have:=EE n6;rw[hR];split;calc this;simp[Sh.put,this]
def xa(a b:M):(2^FY-1).o b=sB (b<FY):=ga y6
def rq{n:M}{us:f8}{cr:M}(a:∀b,acv<=n):∀d,d<=JB->(∀e f,e<n->(UN (FI (re$ aH asU).ζ.getD).o↔f<JB/\(∀b,b<d->acv≠0->f≠b)/\ ∀b,b<d->acv=LH->UN (asU.qf b).o))/\(∀e f,e<n->(UN (FI (re$ aH asU).Ú.getD).o↔f<d/\c.getD f 0=LH))/\(∀f,(UN (re$ aH asU).ĵ.testBit↔f<JB/\(f<d->c.getD f 0=0)))
 |0,_=>by
   calc⟨anf,anf,λf=>?_⟩;have h:FI (CU$ aH asU).ζ.getD=2^JB-1:=by show PR (Λ n (2^JB-1))=_;rw[γ,cU,ii g];rfl
   rw[h,xa,BE];calc⟨λz=>⟨z,λb i=>gt,λb i=>gt⟩,λz=>Da⟩;have h:FI (CU$ aH asU).Ú.getD=0:=by show PR (Λ n 0)=_;rw[γ,cU,ii g];rfl
   rw[h];simp;show UN (2^JB-1).o↔_;rw[xa,BE];calc⟨λz=>⟨z,λw=>gt⟩,λz=>Da⟩
 |IG,j=>by
   let⟨k,l,m⟩:=im (wE rq);let⟨o,p⟩:=re (n6 asU);rw[hR];by_cases z:IM c.getD=0;rw[LU];calc⟨anf,anf,λf=>?_⟩;rw[on$ k e];calc⟨λ⟨q,r,b⟩=>⟨q,λh s t=>?_,λh s t=>?_⟩,λ⟨q,r,b⟩=>⟨q,λh s t=>im (r h) t,λh s t=>im (b h) t⟩⟩;by_cases w:h=d;rw[w,z]at t;calc QV t;calc im (r h) t;by_cases w:h=d;rw[w,z]at t;lia;calc im (b h) t;rw[on$ l e];calc⟨λ⟨q,r⟩=>XP r,λ⟨q,r⟩=>P3 r⟩;by_cases w:f=d;rw[w,z]at r;lia;lia;rw[m f];calc⟨λ⟨q,r⟩=>⟨q,λw=>?_⟩,λ⟨q,r⟩=>⟨q,λw=>im r⟩⟩;by_cases u:f=d;rw[u];calc z;calc im r;rw[IU];have v:=MY;have x:IM c.getD-1<n:=gt
   calc⟨anf,anf,λf=>?_⟩;rw[Wg (by rw[o];calc x) (by rw[o];calc g),ξ,ξ,on$ k e,BE,Ą,BE];constructor;rintro ⟨⟨⟨q,r,b⟩,h⟩,y⟩;calc⟨q,λA B D=>?_,λA B D=>?_⟩;by_cases w:A=d;rw[w];calc h;calc im (r A) D;by_cases w:A=d;rw[w]at D|-;calc y.a1 λu=>im u;calc im (b A) D;rintro ⟨q,r,b⟩;calc wn ⟨⟨q,λA B D=>im (r A) D,λA B D=>im (b A) D⟩,im (r d) z⟩;by_cases w:e=IM c.getD-1;calc .X$ Op Fk;calc .D w;rw[Wh (by rw[p];calc x),Ą,on$ l e,ξ,BE,BE];constructor;rintro (⟨q,r⟩|⟨q,r⟩);calc XP r;rw[r];calc ZN;rintro ⟨q,r⟩;by_cases w:f=d;rw[w]at r|-;calc .X$ XP I;calc .D$ XP r;show UN (õ _ (2^d)).o↔_;rw[rj,ξ,m f,BE];constructor;rintro ⟨⟨q,r⟩,b⟩;calc⟨q,λw=>im r⟩;rintro ⟨q,r⟩;calc⟨⟨q,λw=>im r⟩,λw=>?_⟩;rw[w]at r;calc z$ im r
def abO(d:∀e,EG c->e<=b)(a:M):HF c.getD<=b:=by by_cases z:a<c.length;rw[γ,δ z];calc d _$ Ö z;rw[γ,SC];calc CY
def Fz{q:Ĥ}{cr:M}(a:q.cells.length=KO)(b:∀c,c∈q.cells->c<=q.n):Rb q (aH (pL q cr) q.cells KO)$ du q:=by
 let⟨d,e,f⟩:=rq (n:=q.n) (us:=cX q) (cr:=cr) (abO b) KO AK;let⟨g,h⟩:=n6 (pL q cr) q.cells KO;have i:∀j,j<KO->(du q).cand.getD j []=if arU≠0 then[]else(digits q).filter _:=λj k=>by
  show(BR KO _).getD j []=_;rw[AY gr 0 _ as5];have:(ι KO).getD j 0=j:=by rw[γ,ë k];rfl
  rw[this]
 have l:∀j,¬j<KO->(du q).cand.getD j []=[]:=λj k=>by rw[γ,Á (by simp[du];lia)];rfl
 have m:∀j c,FR (has (du q) j)↔j<KO/\arU=0/\c∈digits q/\∀o,o<KO->UQ (linked q)=Z->q.cells.getD o 0≠c:=λj c=>by rw[o5];by_cases k:j<KO;rw[AS i];by_cases z:arU=0;rw[DP RM,υ,ä,fV];calc⟨λ⟨p,r⟩=>⟨k,z,p,λo s a t=>r o (ψ.Q s) (by rw[a,t];simp)⟩,λ⟨_,_,p,r⟩=>QZ λo s t=>?_⟩;rw[ξ,IN]at t;calc r o (ψ.J s) t.1 t.2;rw[LU];calc⟨(λw=>nomatch w),λw=>DM (lv w) z⟩;rw[AS l];exact⟨(λw=>nomatch w),λw=>DM w.1 k⟩
 calc⟨g,h,a,by simp[du],λc j u=>?_,Ty,Ty,λc j u=>?_,λj c v=>?_⟩;rw[ß,m,DX d u];constructor;rintro ⟨p,x,r⟩;have z:=Κ λw=>x j p w I;calc⟨p,z,gu.Q ⟨c,u,I⟩,λo s y t=>?_⟩;have A:j≠o:=λw=>by rw[<-w,z]at t;lia
 have:=DQ$ r o;rw[qn p A,nr,y]at this;cases this;rintro ⟨p,z,_,r⟩;calc⟨p,λt B D w=>by rw[w]at z;calc D z,λt B D=>?_⟩;have A:j≠t:=λw=>by rw[w,D]at z;lia
 rw[qn p A,nr];cases G:linked q j t;rfl;calc kt D$ r t B G;by_cases k:j<KO;rw[AS i];by_cases z:arU=0;rw[DP RM];apply į;intro c b;rw[ß,m,ä,fV];calc⟨λr=>⟨k,z,b,λo s a t=>r o (ψ.Q s) (by rw[a,t];simp)⟩,λ⟨_,_,p,r⟩ o s t=>?_⟩;rw[ξ,IN]at t;calc r o (ψ.J s) t.1 t.2;rw[LU];symm;rw[ň];intro c _ w;calc z$ lv$ (MB m).J w;rw[AS l];symm;rw[ň];intro c _ w;calc k ((MB m).J w).1;rw[ß,f j,ξ,BE,IN];calc⟨λ⟨p,x⟩=>QZ$ x p,λ⟨p,x⟩=>QZ λ_=>x⟩;rw[ß,DX e u,IN];calc⟨λ⟨p,x⟩=>x,λx=>P3 x⟩;apply Κ;intro w;have H:arU=BD:=x;rw[γ,SC]at H;simp at H;cases G:MB (has (du q));rfl;calc DM (lv ((MB m).J G)) v
def pD:∀a,a<100->IZ Å<=2:=DU
def ic{m:M}:∀(l:AU),(∀a,BB l->a.length<=m)->(ē [32] l).length<=l.length*(m+1)
 |[],_=>CY
 |[b],c=>by have:=c b JJ;show b.length<=_;simp only[Β];lia
 |b::d::e,c=>by have f:=c b JJ;have g:=ic _ λa h=>c a$ LS h;show(b++([32]++ē [32] _)).length<=(d::e).length.succ*(m+1);rw[π,π,m_];show b.length+(1+_)<=_;lia
def xb{m:M}:∀(l:AU),(∀a,BB l->a.length<=m)->(ē [] l).length<=l.length*m
 |[],_=>CY
 |[b],c=>by have:=c b JJ;show b.length<=_;simp only[Β];lia
 |b::d::e,c=>by have f:=c b JJ;have g:=xb _ λa h=>c a$ LS h;show(b++([]++ē [] _)).length<=(d::e).length.succ*m;rw[π,π,m_];show b.length+(0+_)<=_;lia
def n7{a:Type}{f:h->List a}{m:M}:∀(l:AX h),(∀b,b∈l->(f b).length<=m)->(l.aD f).length<=l.length*m|[],_=>CY|LY,d=>by have e:=d b JJ;have g:=n7 c λi j=>d i$ LS j;rw[aD,π,Β,m_];lia
def xc(a:2<=b)(c:b<=9)(d:i<100):(LR dG).length<=6:=by unfold dG;have e:i/b<=i/2:=CD$ M.div_le_div_left a;have f:i%b<b:=im$ cF _;have g:=aee (i/b);have h:=aee (i%b);simp only[π];show 1+(_+(1+_))<=6;lia
def F3(a:M):IZ BS<=100:=s4 OD
def kL(a:2<=b)(c:b<=9)(d:M):(v4 cI).length<=700:=by unfold cI;have:=ic ((BS d).q (dG b)) (λe f=>by let⟨g,h,I⟩:=χ.J f;calc mt xc (cJ.J h).1);have:=F3 d;rw[θ]at*;lia
def n8(a:2<=b)(c:b<=9){u:M}(d:u<3*b+2):(hA b u).length<=11:=by unfold hA;split;rw[π];have:=aee u;show 4+_<=_;lia;split;rw[π];have:=aee (u-b);show 7+_<=_;lia;split;rw[π];have:=aee (u-2*b);show 7+_<=_;lia;rw[π];have:=aee (u-3*b);show 9+_<=_;lia
def Wm{wd pl:f8}(c:wd.length<=10)(b:pl.length<=9)(a:∀d,BH pl->d<9):(lnB wd pl).length<=50:=by unfold lnB;have:=ic (pl.q (λd=>GF d)) (λe f=>by let⟨d,g,I⟩:=χ.J f;calc pD _ (by have:=DR a;lia));rw[θ]at this;rw[π,π];show _+(1+_)<=_;lia
def xf(a:2<=o.n)(e:o.n<=9)(f:m.length<=10)(g:n.length<=10)(h:c.length<=9)(i:j.length<=9){k:f8}(l:DX (FF (NI (hQ o)))=f4 (k,p,q)):k.length<=12000:=by
 unfold hQ at l;let⟨⟨r,s⟩,t,u⟩:=Υ.J l;cases u;unfold eN at t;let⟨v,x,t⟩:=ð t;let⟨y,t,u⟩:=Υ.J t;cases u;have x:=ψ.J x;unfold fD at t;have z:=eB t;have A:=d5 b _ s z;have B:∀D,D∈s->D<c.length:=λD G=>LX$ υ.J (υ.J$ A.b2 G).1;have H:s.length<=9:=by calc É A.ew$ OD$ OD ?_;rw[Ð];exact h
 have J:=Wm (wd:=m) (pl:=s) f H λD G=>by have:=IK B;lia
 have L:=Wm (wd:=n) (pl:=DX ū (d.ζ.getD r 0) s) g (OD (by rw[Ð];calc i)) λD G=>by have:=LX$ υ.J G;lia
 have N:=AM kL$ DX bM (d.ζ.getD r 0) s;have O:=aee r;unfold lY;simp only[π];show _+(4+(_+(4+(_+(2+_)))))<=12000;lia
def Wn(g:2<=o.n)(f:o.n<=9)(s0:o.units.length<=3*o.n+2)(i0:d.ζ.length=o.n)(b:qm o d=f4 (c,q,p)):c.length<=12000:=by
 have i:∀N,gq o d N=f4 (c,q,p)->c.length<=12000:=λN b=>by
  unfold gq at b;let⟨⟨G,t⟩,a,j⟩:=Υ.J b;cases j;unfold iz at a;let⟨j0,l,a⟩:=ð a;let⟨t0,_,j⟩:=Υ.J a;cases j;have l:=ψ.J l;have k0:MI$ d.Ă t:=OD (by rw[Ð,i0];calc f);have B:∀h,h∈d.Ă t->h<9:=λh e=>by have:=LX$ υ.J e;lia
  have O:MI$ Ŭ d (RQ (o.units.getD G) t)$ d.Ă t:=by unfold Ŭ;rw[θ];exact OD k0
  have D:∀H,H∈Ŭ d (RQ (o.units.getD G) t) (d.Ă t)->H.1<9:=λH v=>by unfold Ŭ at v;let⟨h,e,I⟩:=χ.J v;exact B h (υ.J e).1
  generalize Ŭ d (RQ (o.units.getD G) t) (d.Ă t)=p at O D;have J:=QN kL t;have x:=xb (m:=2) ((d.Ă t).q (λh=>GF h)) (λu0 a=>by let⟨h,e,I⟩:=χ.J a;calc pD _ (by have:=B h e;lia));rw[θ]at x;have a0:=im$ QN n8 (u:=G);have l0:=ic (m:=9) (lW o.n p) (λu0 a=>by unfold lW at a;let⟨H,v,a⟩:=ŧ.J a;unfold fC at a;let⟨r0,m0,I⟩:=χ.J a;have:=QN xc (cJ.J v).1;have:=pD (r0.1+1) (by have:=D r0 (υ.J m0).1;lia);rw[π,π];show _+(1+_)<=_;lia);have v0:(lW o.n p).length<=(BS$ dF p).length*9:=n7 _ λH _=>by unfold fC;rw[θ];exact OD O
  have w0:=F3$ dF p;unfold lX;simp only[π];show _+(6+(_+(4+(_+(2+_)))))<=12000;lia
 have n:∀N,n3 o d N=f4 (c,q,p)->c.length<=12000:=λN b=>by
  have b0:MI$ kE o:=by unfold kE;rw[Ũ];lia
  have c0:MI$ kF o:=by unfold kF;rw[Ũ];lia
  unfold n3 at b;rcases Ÿ.J b with b|⟨_,b⟩;calc CD (CD (QN xf)) b0 c0 b;exact CD (CD (QN xf)) c0 b0 b
 unfold qm at b;rcases Ÿ.J b with b|⟨_,b⟩;unfold tD at b;let⟨⟨y,h⟩,a,j⟩:=Υ.J b;cases j;rw[qo]at a;let⟨n0,_,a⟩:=ð a;split at a;rename_i z;cases a;have e:(d.Ă (2^y)).getD 0 0<9:=by
  let⟨h,e⟩:=dr.J z;rw[e];have o0:h∈d.Ă (2^y):=by rw[e];exact JJ
  have:=LX$ υ.J o0;show h<9;lia
 have J:=QN kL (2^y);have x:=aee$ (d.Ă (2^y)).getD 0 0;unfold yH;simp only[π];show _+(1+(_+(1+5)))<=12000;lia;cases a;rcases Ÿ.J b with b|⟨_,b⟩;unfold zo at b;let⟨⟨G,h,H⟩,a,j⟩:=Υ.J b;cases j;rw[tG]at a;let⟨j0,l,a⟩:=ð a;let⟨⟨A,d0⟩,r,j⟩:=Υ.J a;cases j;rw[tF]at r;let⟨A,e,k⟩:=ð r;split at k;cases k;have l:=ψ.J l;have e:=ψ.J e;have J:=QN kL (HV d.ζ.getD&&&o.units.getD G 0);have x:=im$ pD (h+1);have a0:=im$ QN n8 (u:=G);unfold yH;simp only[π];show _+(1+(_+(1+(3+_))))<=12000;lia;cases k;rcases Ÿ.J b with b|⟨_,b⟩;unfold o4 at b;let⟨⟨y,h0,h,H⟩,a,j⟩:=Υ.J b;cases j;rw[qq]at a;let⟨n0,f0,a⟩:=ð a;let⟨⟨p0,A,d0⟩,r,j⟩:=Υ.J a;cases j;rw[qp]at r;let⟨p0,g0,k⟩:=ð r;split at k;cases k;let⟨⟨A,d0⟩,s,j⟩:=Υ.J k;cases j;unfold hL at s;split at s;cases s;rw[jq]at s;let⟨A,e,L⟩:=ð s;split at L;cases L;have f0:=ψ.J f0;have g0:=ψ.J g0;have e:=ψ.J e;have J:=QN kL$ õ (HV d.ζ.getD&&&o.units.getD h0 0)$ o.units.getD y 0;have x:=im$ pD (h+1);have a0:=im$ QN n8 (u:=y);have l0:=im$ QN n8 (u:=h0);show ZO (jl o.n y h0 h (õ (HV d.ζ.getD&&&o.units.getD h0 0) (o.units.getD y 0)));unfold jl;simp only[π];show _+(4+(_+(4+(_+(2+_)))))<=12000;lia;cases L;rcases Ÿ.J b with b|⟨_,b⟩;calc i 2 b;rcases Ÿ.J b with b|⟨_,b⟩;calc n 2 b;rcases Ÿ.J b with b|⟨_,b⟩;calc i 3 b;rcases Ÿ.J b with b|⟨_,b⟩;calc n 3 b;calc i 4 b
section
variable {cr:M}
def Rb.ok{S:Sh}(b:QH/\NV/\Ō a.n a.bY=Z)(c:Rb a S e):K8 ah5 S:=by calc⟨EM,?_,?_,c.pz,c.oz,λd=>?_⟩;show 2*a.n<=IZ cX;rw[gw,gG];simp only[π,gF,wy,θ,Ð];lia;show IZ cX<=3*a.n+2;rw[gw];calc gp a;show MI (BS (IM (cX a).getD));by_cases f:d<IZ units;have g:=AR kK;rw[AR kJ,Fv (n4 EM g) (λh i=>by have:=DL d_;have:=rk XJ;lia),nZ (wS b) g];calc XJ;rw[γ,Á (by rw[gw];lia)];show MI (BS 0);rw[gH];simp
def R8(b:QH/\NV/\Ō a.n a.bY=Z):∀(k:M){S:Sh}{h:i8},Rb a S h->mu h<=k->kH ah5 k S/\(dA ah5 k S).aD (λA=>A++[10])=FV J7:=by intro k;induction k with
|zero=>
 intro S h f n;have i:hm$ gL ah5 S:=by cases g:gL ah5 S with
 |none=>rfl
 |some l=>unfold gL at g;split at g;cases g;have st:=rn (cr:=cr) EM XJ f;rw[g]at st;cases c:FV gZ with
  |none=>rw[c]at st;calc st.elim
  |some l=>have:=q4 c;lia
 calc wn ⟨f.ok b,i⟩;rw[iA i,Bi];unfold ri;rw[ro XJ f];by_cases d:FV Es=Z;rw[Sc,Sc];rfl;rw[TB,TB];by_cases e:S.ĵ=0;rw[ii e,BZ$ (rp f).J e];rfl;rw[hf e,MA$ e$ (rp f).Q z];have st:=rn (cr:=cr) EM XJ f;unfold gL at i;rw[DP (by rw[ro XJ f];calc λz=>s3 z.elim)]at i;rw[i]at st;cases c:FV gZ with
 |none=>rfl
 |some l=>rw[c]at st;calc st.elim
|HW k o=>intro S h f n;cases g:gL ah5 S with
 |none=>calc wn ⟨f.ok b,λA G H c=>by rw[g]at c;cases c⟩;rw[iA g,Bi];unfold ri;rw[ro XJ f];by_cases d:FV Es=Z;rw[Sc,Sc];rfl;rw[TB,TB];by_cases e:S.ĵ=0;rw[ii e,BZ$ (rp f).J e];rfl;rw[hf e,MA$ e$ (rp f).Q z];have st:=rn (cr:=cr) EM XJ f;unfold gL at g;rw[DP (by rw[ro XJ f];calc λz=>s3 z.elim)]at g;rw[g]at st;cases c:FV gZ with
  |none=>rfl
  |some l=>rw[c]at st;calc st.elim
 |some l=>have e0:=g;unfold gL at g;split at g;cases g;rename_i j;rw[ro XJ f,MG]at j;have st:=rn (cr:=cr) EM XJ f;rw[g]at st;cases c:FV gZ with
  |none=>rw[c]at st;calc st.elim
  |some l=>let⟨J,L⟩:=l;rw[c]at st;let⟨p,q,r,s⟩:=st;have N:=q4 c;let⟨t,u⟩:=im (o q);have v:=Wn EM XJ (f.ok b (cr:=cr)).u2 f.lp g;have ok:kH ah5 (k+1) S:=⟨f.ok b,λO B D m=>by rw[e0]at m;cases m;calc⟨v,r,s,t⟩⟩;calc wn ok;let⟨a0,x,y,_⟩:=ok.some e0;cases x;rw[y,aD,u,FV Bi,DP j.1,MA$ j.2$ (rp f).Q z,c,p]
end
section
variable {b:i8}
def F4{l a:AU}(b:PZ a.length)(c:∀d,l.getD d []=a.getD d []):l=a:=by apply ao b;intro d e f;have:=HU;rw[γ,γ,δ e,δ f]at this;calc this
def jr:∀(z:BV){b:i8},z.ar->(∀a,BB z->has b a.1 a.2=Z)->mu (cV b z)+z.length<=mu b
 |[],b,_,_=>by
   have:(cV b []).bJ=b.bJ:=F4 (ga dO.q3) λc=>by rw[dO.ea];exact CZ
   unfold mu;rw[this];calc AK
 |a::z,b,d,e=>by
   rw[ñ]at d;have f:=vZ (Θ.Q I)$ e a JJ;have g:∀h,h∈z->has (cV b [a]) h.1 h.2=Z:=λh i=>by rw[dO.oU,dO.ea,υ,<-dO.oU];calc wn$ e h$ LS i;have:h≠a:=λj=>d.1 (j▸i);simp only[jg,U_,Ec,ä,ZH];exact this
   have k:=jr z d.2 g;have l:(cV b (a::z)).bJ=(cV (cV b [a]) z).bJ:=F4 (by simp[dO.q3]) λc=>by rw[dO.ea,dO.ea,dO.ea,aU];apply į;intro m _;simp only[jg,U_,Ec,nm.not_or];rw[lz]
   have n:mu (cV b (a::z))=mu (cV (cV b [a]) z):=by unfold mu;rw[l]
   rw[n,Β];lia
def xg{z:f8}(a:z.ar):(z.q λb=>(b,i)).ar:=ç.Q$ Ŋ.Q$ (ç.J a).imp λa c=>a (by injection c)
def Lb{l:f8}{d:M->JQ}(a:l.ar)(b:c.ar):(l.aD λe=>(c.filter λf=>py d).q λf=>(e,f)).ar:=by induction l with
|nil=>calc y8
|cons g h i=>rw[ñ]at a;rw[aD,ŷ];calc⟨(ç.Q$ Ŋ.Q$ (ç.J$ ez ļ b).imp λj k=>j (by injection k)),i a.2,λm n o p k=>?_⟩;let⟨f,_,I⟩:=χ.J n;let⟨e,q,r⟩:=ŧ.J p;let⟨s,_,I⟩:=χ.J r;injection k with e1 _;calc a.1 (e1▸q)
def By(a:Ĥ):(digits a).ar:=by calc ç.Q$ Ŋ.Q$ (ç.J ey).imp λb c=>im b
def ed(c:NV)(b:i∈digits a):(Å i).length<=2:=by let⟨d,e,I⟩:=gu.J b;calc im$ pD _
def o6(c:QH)(b:NV)(d:i<FK):(IP g7).length<=6:=Ev xc (by have:=rk b;lia)
def rr(c:QH)(d:NV)(b:s∈WN.eL):(g8 a s.2).length<=11:=by rw[fE _ []]at b;let⟨e,f,I⟩:=χ.J b;have:=ψ.J f;have:=gp a;calc im$ re n8
def o7(b:s∈WN.eL):s.1∈WN:=by rw[fE _ []]at b;let⟨c,d,I⟩:=χ.J b;calc kK a$ ψ.J d
def n_{z:f8}{f:M->f8}(a:∀b,b∈z->(f b).length<=i):(ē [32]$ z.q f).length<=z.length*(i+1):=by
 have:=ic _ λc d=>by let⟨b,e,I⟩:=TC;exact zn a
 rwa [θ]at this
def R9(i:QH)(f:NV)(j:∀g,b.bJ.getD g []=asL (λh=>ww$ has b))(m:io sS=f4 (c,e)):apZ:=by
 have n:=E9 m;let⟨g,d,o⟩:=ð m;have d:=ψ.J d;split at o;rename_i h k;have l:h∈digits a:=by
  have:h∈b.bJ.getD g []:=by rw[k];exact JJ
  rw[j]at this;exact akP.1
 have p:=o6 i f d;have q:=ed f l;have:(ww (i7 a)$ Ê "alone").length<=16:=by unfold i7;simp only[π,Β];show _+(_+(5+([]:f8).length+1+1)+1)<=16;simp only[Ħ];lia
 lia;cases o
def Wo(f:QH)(d:NV)(n:io Sw27.fg=f4 (c,e)):apZ:=by
 have o:=Np n;let⟨j,g,i⟩:=ð n;let⟨p,k,i⟩:=ð i;split at i;rename_i h l;have m:h∈j.1:=by
  have:h∈j.1.filter (λh=>has b h p):=by rw[l];exact JJ
  exact akP.1
 have q:=o6 f d$ d_ (o7 g) m;have r:=ed d k;have s:=DR$ rr f;have:(FV i7 p (Ê "in "++g8 a j.2)).length<=30:=by unfold i7;simp only[π,Β];show _+(_+(3+_+1+1)+1)<=30;lia
 lia;cases i
def Lc(k:QH)(i:NV)(u:io pI=f4 (c,e)):apZ:=by
 let⟨t,o,h⟩:=ð u;let⟨v,l,h⟩:=ð h;split at h;cases h;let⟨p,q,h⟩:=ð h;simp only at h;split at h;cases h;rename_i r;cases h;have m:=λz=>r$ .X MV;have f:∀d,BH (v.1.filter (λd=>v4 has p&&! t.1.an d))->BH v.1/\v4 has p=Z:=λd g=>by have:=υ.J g;rw[ξ]at this;exact⟨this.1,lv this⟩
 have j:(v.1.filter λd=>v4 has p&&! t.1.an d).ar:=ez ļ$ iq$ o7 l;generalize (v.1.filter _)=z at m f j;have s:=jr _ (xg j) λD n=>by let⟨d,g,I⟩:=χ.J n;exact(DR f).2
 have n:=eL.Q m;rw[θ]at s;have x:=rr k i o;have y:=rr k i l;have A:=ed i q;have B:=n_ λd g=>o6 k i$ d_ (o7 l) (DR f).1;simp only[π];show _+(4+(_+(4+(_+(2+(_+1))))))+_<=_;lia
def js:∀(b:M)(l a:f8),BB (LB ST)->a.length=b
 |0,l,a,c=>by
   have:BB [[]]:=by cases l<;>exact c
   rw[GE Θ.J];rfl
 |BP,[],a,c=>by cases this
 |BP,d::e,a,c=>by have:=c;rcases GE Ι.J with c|c;let⟨f,g,I⟩:=χ.J c;rw[Β,on$ zn js];calc mt$ js _ e
def qr(s:QH)(j:NV)(c0:i<=4)(d0:io eo i=f4 (c,e)):apZ:=by
 let⟨B,n,A⟩:=ð d0;let⟨t,D,A⟩:=ð A;simp only at A;split at A;cases A;rename_i u;rw[MG]at u;have G:=Κ λw=>u.1 w;cases A;have b0:=js i _ t D;have v:=d5 i _ t D;have H:∀d,BH t->BH B.1:=λd k=>(υ.J$ v.b2 k).1;have l:∀f,f∈asL (λf=>t.any λd=>v4 has f)->f∈digits a:=λf h=>(υ.J h).1;have p:(asL λf=>t.any λd=>v4 has f).ar:=ez ļ$ By a;have x:=u.2;generalize (asL _)=y at G l p x|-;have g:∀q,q∈(B.1.filter λd=>! t.an d).aD (λd=>(y.filter λf=>v4 has f).q λf=>(d,f))->q.1∈B.1/\q.2∈digits a/\has b q.1 q.2=Z:=λq o=>by let⟨d,k,J⟩:=ŧ.J o;let⟨f,h,I⟩:=χ.J J;exact⟨(υ.J k).1,l f (υ.J h).1,(υ.J h).2⟩
 have r:((B.1.filter λd=>! t.an d).aD λd=>(y.filter λf=>v4 has f).q _).ar:=Lb (ez ļ (iq (o7 n))) p;generalize ((B.1.filter _).aD _)=z at x g r|-;have J:=jr z r λq o=>wS$ g q o;have o:=eL.Q x;have f0:=rr s j n;have g0:=n_ λd k=>o6 s j$ d_ (o7 n)$ H d k;have h0:=n7 y λf h=>ed j$ GP l;have O:=ic (m:=9) (z.q (λL=>g7 a L.1++(45::Å L.2))) λi0 a0=>by let⟨L,N,I⟩:=χ.J a0;have:=o6 s j$ d_ (o7 n) (g L N).1;have:=ed j$ lv$ g L N;rw[π,Β];lia
 rw[θ]at O;simp only[π];show _+(6+(_+(4+(_+(2+(_+1))))))+_<=_;lia
def F5(g:QH)(d:NV)(h:i<=4)(j:io my i=f4 (c,e)):apZ:=by
 let⟨k,_,l⟩:=ð j;let⟨m,n,l⟩:=ð l;let⟨o,p,l⟩:=ð l;rw[vU]at l;let⟨q,l⟩:=l;rw[MG]at q;have r:=BF$ js i _;have s:=BF$ d5 i _;have t:∀u,u∈o->u<a.n:=λu v=>LX$ υ.J$ s.b2 v;injection l with l;injection l with e1 e2;rw[<-e1,<-e2];have x:=Κ λw=>q.1 w;have y:∀u,u∈kg (λe=>o.any λA=>(kg (λe=>has b (if k=Z then a.n*e+A else a.n*A+e) m)$ ι a.n).an e) _->u<a.n:=λu v=>LX$ υ.J v;have B:=q.2;generalize (ga kg)=D at x y B|-;have G:∀u,u∈kg (λu=>has b u m&&(D.an (if k=Z then u/a.n else u%a.n)&& ! o.an (if k=Z then u%a.n else u/a.n))) _->u<FK/\has b u m=Z:=λu v=>by have:=υ.J v;rw[ξ]at this;exact⟨LX this,lv this⟩
 have H:(kg (λu=>has b u m&&(D.an (if k=Z then u/a.n else u%a.n)&& ! o.an (if k=Z then u%a.n else u/a.n)))$ ι FK).ar:=ez ļ ey;generalize (ga kg)=z at B G H|-;have J:=jr _ (xg H) λL N=>by let⟨u,v,I⟩:=χ.J N;exact(G u v).2
 rw[θ]at J;have N:=eL.Q B;have O:=n_ (f:=λr=>GF r) λu v=>pD _ (by have:=t u v;lia);have p:=n_ (f:=λr=>GF r) λu v=>pD _ (by have:=y u v;lia);have l:=ed d n;have s:=n_ λu v=>o6 g d (G u v).1;have A:∀q:nm,ZQ (if q=Z then "rows "else "columns ")<=8:=DU
 have x:=A (! k);have m:=A k;simp only[π];show _+(4+(_+_+(4+(_+_+(2+(_+1))))))+_<=_;lia
def Wq(d:QH)(f:NV)(h:∀i,b.bJ.getD i []=asL (λj=>up$ has b))(g:io gZ=f4 (c,e)):apZ:=by let⟨k,l,m⟩:=ð g;subst m;simp only[ν,ã,GS]at l;rcases l with g|g|g|g|g|g|g|g;calc DS R9 h g.symm;calc DS Wo g.symm;calc DS Lc g.symm;calc arZ qr;calc arZ F5;calc arZ qr;calc arZ F5;calc arZ qr
def N8(c:QH/\NV/\Ō a.n a.bY=Z):∀(d:M){S:Sh}{b:i8},Rb a S b->mu b<=d->XY J7<=70*mu b+6
 |d,S,b,e,f=>by rw[Bi];split;show 5<=_;lia;split;show 5<=_;lia;cases g:io gZ with
  |none=>show 6<=_;lia
  |some h=>have i:=Wq EZ (lv c) e.srt g;have j:=q4 g;have st:=rn (cr:=0) EZ (lv c) e;rw[g]at st;cases k:qm _ S with
   |none=>rw[k]at st;calc st.elim
   |some h=>rw[k]at st;cases d with
    |zero=>lia
    |HW d=>have:=im$ re N8$ lv st;rw[π];lia
def R_(b:a.fc):(aeK a).1.length<=51036:=by rw[lL];have c:=lv b.L;have:=N8 b.L _ (Fz (cr:=0) b.cells.1 (lv b.cells)) AK;have d:=wH a;have e:=Ë (Ë c c) c;lia
variable{u:qb}
def oa{a:U}{b:FQ ep}(c:∀l,b=XS->l.length<=i):(wS$ io$ dM u).length<=i:=by unfold dM;split;calc CY;split;calc CY;split;calc CY;calc c _ I
def abP(a:ir u)(b:C):(uF u b).length<=51037:=by
 unfold uF;rw[Β,ku];have c:(wS$ fc u b.wC).length<=51036:=by cases b with
 |start=>calc CY
 |set d e g=>show asq (if _ then _ else _);split<;>calc CY
 |_=>all_goals cases u with
  |none=>calc CY
  |some h=>have g:=a h I;have i:=rk (q:=h)$ lv g.L;first
    |calc oa λl j=>by cases j;rw[g.cells.1];lia
    |calc oa λl j=>by cases j;calc R_ g
    |
      (
       calc oa λl j=>?_;split at j;.cases j
       .cases j;rw[θ,Ð];lia)
    |
      (
       calc oa λl j=>?_;split at j;.cases j
       .cases j;have:=n7 (f:=λk=>[cw h k%256,cw h k/256]) (m:=2) (ι LD) λ_ _=>AK;rw[Ð]at this;lia)
    |
      (
       show asq (if _ then _ else _);split;.exact CY
       .unfold er;split<;>calc CY)
    |
      (
       show asq (if _ then _ else _);split;.unfold er;split<;>exact CY
       .calc CY)
    |(show asq (if _ then _ else _);split<;>calc CY)
    |
      (
       show asq (if _ then _ else _);split;.calc oa λl j=>?_;have:=(hF.J$ Î j).len;lia
       .calc CY)
 lia
def zu:∀(a:AX C){s:qb},ir s->IZ (nz s)<=a.length*51038|[],_,_=>CY|LY,s,d=>by have e:=NI abP;have f:=zu c$ NI zf;show ZO (NR (uF s b)::(uF s b++nz _ c));rw[Β,π,Β,m_];lia
end
end Sq
universe u0 u1 u2 u3 u4 u5 u6 u7 u8 u9
namespace L2
inductive Xs1{a : Sort u0}(p : KA a) : Prop| mk(b : a)(h : p b) : Xs1 p
inductive Xs2{a : Sort u0}{b : Sort u1}(p : a→KA b) : Prop| mk(c : a)(d : b)(h : re p) : Xs2 p
inductive Xs3{a : Sort u0}{b : Sort u1}{c : Sort u2}(p : a→b→KA c) : Prop| mk(d : a)(e : b)(f : c)(h : IH p) : Xs3 p
inductive Xs4{a : Sort u0}{b : Sort u1}{c : Sort u2}{d : Sort u3}(p : a→b→c→KA d) : Prop| mk(e : a)(f : b)(g : c)(i : d)(h : on (p e) i) : Xs4 p
inductive Xs5{a : Sort u0}{b : Sort u1}{c : Sort u2}{d : Sort u3}{e : Sort u4}(p : a→b→c→d→KA e) : Prop| mk(f : a)(g : b)(i : c)(j : d)(k : e)(h : KB (on p)) : Xs5 p
inductive Xs6{a : Sort u0}{b : Sort u1}{c : Sort u2}{d : Sort u3}{e : Sort u4}{f : Sort u5}(p : ar6 (KA f)) : Prop| mk(g : a)(i : b)(j : c)(k : d)(l : e)(m : f)(h : KN (p g) m) : Xs6 p
inductive Xs7{a : Sort u0}{b : Sort u1}{c : Sort u2}{d : Sort u3}{e : Sort u4}{f : Sort u5}{g : Sort u6}(p : ar6 (f→KA g)) : Prop| mk(i : a)(j : b)(k : c)(l : d)(m : e)(n : f)(o : g)(h : BQ (KN p m)) : Xs7 p
inductive Xs8{a : Sort u0}{b : Sort u1}{c : Sort u2}{d : Sort u3}{e : Sort u4}{f : Sort u5}{g : Sort u6}{i : Sort u7}(p : ar6 (f→g→KA i)) : Prop| mk(j : a)(k : b)(l : c)(m : d)(n : e)(o : f)(q : g)(r : i)(h : BW (BQ (TW p m))) : Xs8 p
inductive Xs9{a : Sort u0}{b : Sort u1}{c : Sort u2}{d : Sort u3}{e : Sort u4}{f : Sort u5}{g : Sort u6}{i : Sort u7}{j : Sort u8}(p : ar6 (f→g→i→KA j)) : Prop| mk(k : a)(l : b)(m : c)(n : d)(o : e)(q : f)(r : g)(s : i)(t : j)(h : DQ (BW (BQ (AI p m)))) : Xs9 p
inductive Xs10{a : Sort u0}{b : Sort u1}{c : Sort u2}{d : Sort u3}{e : Sort u4}{f : Sort u5}{g : Sort u6}{i : Sort u7}{j : Sort u8}{k : Sort u9}(p : ar6 (f→g→i→j→KA k)) : Prop| mk(l : a)(m : b)(n : c)(o : d)(q : e)(r : f)(s : g)(t : i)(u : j)(v : k)(h : PN (BW (BQ (AE p))) v) : Xs10 p
inductive As2(a b : Prop) : Prop| mk(c : a)(d : b) : io As2
inductive As3(a b c : Prop) : Prop| mk(d : a)(e : b)(f : c) : EE As3
inductive As4(a b c d : Prop) : Prop| mk(e : a)(f : b)(g : c)(h : d) : JG As4
inductive As5(a b c d e : Prop) : Prop| mk(f : a)(g : b)(h : c)(i : d)(j : e) : MW As5
inductive As6(a b c d e f : Prop) : Prop| mk(g : a)(h : b)(i : c)(j : d)(k : e)(l : f) : IH$ EE As6
inductive As7(a b c d e f g : Prop) : Prop| mk(h : a)(i : b)(j : c)(k : d)(l : e)(m : f)(n : g) : on$ MW As7
inductive As8(a b c d e f g h : Prop) : Prop| mk(i : a)(j : b)(k : c)(l : d)(m : e)(n : f)(o : g)(p : h) : EU$ MW As8
inductive As9(a b c d e f g h i : Prop) : Prop| mk(j : a)(k : b)(l : c)(m : d)(n : e)(o : f)(p : g)(q : h)(r : i) : t3$ on$ MW As9
inductive As10(a b c d e f g h i j : Prop) : Prop| mk(k : a)(l : b)(m : c)(n : d)(o : e)(p : f)(q : g)(r : h)(s : i)(t : j) : up$ EU$ MW As10
inductive As11(b c d e f g h i j k a : Prop) : Prop| mk(m : b)(n : c)(o : d)(p : e)(q : f)(r : g)(s : h)(t : i)(u : j)(v : k)(l : a) : KB (EU (s3 (lf As11))) a
inductive As12(c d e f g h i j k l a b : Prop) : Prop| mk(o : c)(p : d)(q : e)(r : f)(s : g)(t : h)(u : i)(v : j)(x : k)(y : l)(m : a)(n : b) : io$ KN$ EU$ s3$ As12 c
inductive As13(d e f g h i j k l m a b c : Prop) : Prop| mk(q : d)(r : e)(s : f)(t : g)(u : h)(v : i)(x : j)(y : k)(z : l)(A : m)(n : a)(o : b)(p : c) : EE$ KN (EU (s3 As13)) m
inductive As14(e f g h i j k l m n a b c d : Prop) : Prop| mk(s : e)(t : f)(u : g)(v : h)(x : i)(y : j)(z : k)(A : l)(B : m)(D : n)(o : a)(p : b)(q : c)(r : d) : JG$ FF$ KN$ EU$ As14 e
inductive As15(f g h i j k l m n o a b c d e : Prop) : Prop| mk(u : f)(v : g)(x : h)(y : i)(z : j)(A : k)(B : l)(D : m)(G : n)(H : o)(p : a)(q : b)(r : c)(s : d)(t : e) : MW$ BQ$ KN (EU As15) m
inductive As16(g h i j k l m n o p a b c d e f : Prop) : Prop| mk(x : g)(y : h)(z : i)(A : j)(B : k)(D : l)(G : m)(H : n)(J : o)(L : p)(q : a)(r : b)(s : c)(t : d)(u : e)(v : f) : IH$ EE$ BF$ FF$ KN$ ww As16
inductive E12{a : Sort u0}(b c : KA a) : Prop| mk(d : a)(e : Fk)(f : HU) : lf E12
inductive E13{a : Sort u0}(c d e : KA a) : Prop| mk(b : a)(f : c b)(g : d b)(h : e b) : s3$ E13 c
inductive E22{a : Sort u0}{b : Sort u1}(c d : a→KA b) : Prop| mk(e : a)(f : b)(g : py c)(h : py d) : re E22
inductive E23{a : Sort u0}{b : Sort u1}(e f g : a→KA b) : Prop| mk(c : a)(d : b)(h : re e)(i : re f)(j : re g) : on$ E23 e
inductive E24{c : Sort u0}{d : Sort u1}(e f g h : c→KA d) : Prop| mk(a : c)(b : d)(i : io e)(j : io f)(k : io g)(l : io h) : EU$ E24 e
inductive E33{a : Sort u0}{b : Sort u1}{c : Sort u2}(g h i : a→b→KA c) : Prop| mk(d : a)(e : b)(f : c)(j : IH g)(k : IH h)(l : IH i) : t3$ E33 g
inductive E34{d : Sort u0}{e : Sort u1}{f : Sort u2}(g h i j : d→e→KA f) : Prop| mk(a : d)(b : e)(c : f)(k : EE g)(l : EE h)(m : EE i)(n : EE j) : up$ ww E34
inductive E35{d : Sort u0}{e : Sort u1}{f : Sort u2}(g h i j k : d→e→KA f) : Prop| mk(a : d)(b : e)(c : f)(l : EE g)(m : EE h)(n : EE i)(o : EE j)(p : EE k) : KB$ ww E35
inductive E45{e : Sort u0}{f : Sort u1}{g : Sort u2}{h : Sort u3}(i j k l m : e→f→g→KA h) : Prop| mk(a : e)(b : f)(c : g)(d : h)(n : JG i)(o : JG j)(p : JG k)(q : JG l)(r : JG m) : KN E45 m
inductive E46{e : Sort u0}{f : Sort u1}{g : Sort u2}{h : Sort u3}(i j k l m n : e→f→g→KA h) : Prop| mk(a : e)(b : f)(c : g)(d : h)(o : JG i)(p : JG j)(q : JG k)(r : JG l)(s : JG m)(t : JG n) : FF$ KN E46
inductive E56{f : Sort u0}{g : Sort u1}{h : Sort u2}{i : Sort u3}{j : Sort u4}(k l m n o p : f→g→h→i→KA j) : Prop| mk(a : f)(b : g)(c : h)(d : i)(e : j)(q : MW k)(r : MW l)(s : MW m)(t : MW n)(u : MW o)(v : MW p) : BF$ FF$ AI E56
end L2
open Lean in/-- the parts of a chain of ands -/ def andParts : Nat → TSyntax `term → MacroM (Array (TSyntax `term))
 | 0, b => return #[b]
 | n+1, b => do match b with
   | `($a ∧ $c) => return #[a] ++ (← andParts n c)
   | `(($c)) => return #[c]
   | _ => return #[b]
open Lean in
local macro_rules
  | `(∃ $xs:explicitBinders, $b) => do
    let r := xs.raw[0]
    let mut bs : Array (TSyntax `term × Option (TSyntax `term)) := #[]
    let hl ← `(_)
    let one (x : Syntax) : TSyntax `term := if x[0].isIdent then ⟨x[0]⟩ else hl
    if r.getKind == `Lean.unbracketedExplicitBinders then
      let t : Option (TSyntax `term) := if r[1].getNumArgs == 0 then none else some ⟨r[1][1]⟩
      for x in r[0].getArgs do bs := bs.push (one x, t)
    else
      for g in r.getArgs do
        for x in g[1].getArgs do bs := bs.push (one x, some ⟨g[3]⟩)
    let ps ← andParts 30 b
    let k := bs.size
    let m := ps.size
    if k > 10 || m > 16 || (k == 1 && m < 2) then Macro.throwUnsupported
    if [(1, 2), (1, 3), (2, 2), (2, 3), (2, 4), (3, 3), (3, 4), (3, 5), (4, 5), (4, 6), (5, 6)].contains (k, m) then
      let fs ← ps.mapM fun p => do
        let mut f := p
        for (x, t) in bs.reverse do
          f ← match t with
            | some t => `(fun ($x : $t) => $f)
            | none => `(fun $x => $f)
        return f
      return Syntax.mkApp (mkIdent ((`L2).str s!"E{k}{m}")) fs
    let body ← if m == 1 then pure b else pure (Syntax.mkApp (mkIdent ((`L2).str s!"As{m}")) ps)
    let mut f := body
    for (x, t) in bs.reverse do
      f ← match t with
        | some t => `(fun ($x : $t) => $f)
        | none => `(fun $x => $f)
    return Syntax.mkApp (mkIdent ((`L2).str s!"Xs{k}")) #[f]
namespace L2
open PySem PySem.Spec PyProof.Rows
variable{A:wr}{x:ge}{e q:β}{s:Ŏ}{j:ř}{u:Ĵ}{c:lm}{d:BO}{n:M}{J:CJ}{i:ï}{p:ff}{f y:Expr}{v:ET}{h D:vB}{G:GL}{B:Γ}
abbrev ō:=Sum U ï
def uO:ō->YX nm|.D a,v=>ge.isInt a v|.X b,v=>ge.isStrOf b v
def amX(w:Ŏ):ō->U|.D a=>hashInt a|.X b=>hashStr w b
def bC:∀{a:ō}{v:ge},uO a v=Z->(∃b c,a=È b/\v=lf ge.int)\/(∃d c,a=vC d/\v=DB ge.str)
 |.D b,v,e=>by let⟨c,f⟩:=ge.isInt_shape e;calc .D ⟨b,c,I,f⟩
 |.X d,v,e=>by let⟨c,f⟩:=ge.isStrOf_shape e;calc .X ⟨d,c,I,f⟩
def Sa(a:U)(b:SV):uO (.D a) (io .int)=Z:=by simp[uO,ge.isInt]
def Sb(a:ï)(b:SV):uO (.X a) (io .str)=Z:=by simp[uO,ge.isStrOf]
def ae7(a b:U):sB (JL (È a)=È b)=(a==b):=by by_cases c:NJ;subst c;simp;have d:¬JL (È a)=È b:=λe=>c$ adG e;rw[PM d];calc as9.symm
def ae8(a b:ï):sB (JL (vC a)=vC b)=sB NJ:=by by_cases c:NJ;simp;have d:¬JL (vC a)=vC b:=λe=>c$ vC.inj e;rw[PM d,PM c]
def ae9(a:U)(b:ï):OU (JL (È a)=vC b):=PM λc=>nomatch c
def ae_(a:ï)(b:U):OU (JL (vC a)=È b):=PM λc=>nomatch c
def bt(a:Ĵ)(w:Ŏ):PySem.KeyKind a w ō where
 is:=uO;hash:=amX w;inj:=λv b c d e=>by rcases bC d with⟨f,g,I,I⟩|⟨h,g,I,I⟩;rcases bC e with⟨i,j,I,k⟩|⟨l,j,I,k⟩;injection k with e1 _;rw[e1];calc nomatch k;rcases bC e with⟨i,j,I,k⟩|⟨l,j,I,k⟩;calc nomatch k;injection k with e1 _;rw[e1]
 byValue:=λm v n=>by rcases bC n with⟨f,g,I,I⟩|⟨h,g,I,I⟩<;>rfl
 pyHash:=λo n=>by rcases bC o with⟨f,g,I,I⟩|⟨h,g,I,I⟩;calc wpAny_pyHash_int n;exact wpAny_pyHash_str n
 eqBool:=λp o n=>by rcases bC p with⟨f,g,I,I⟩|⟨h,g,I,I⟩;rcases bC o with⟨i,j,I,I⟩|⟨l,j,I,I⟩;rw[ae7]at n;calc wpAny_eqBool_int n;rw[ae9]at n;calc EY (on Ed l j) n;rcases bC o with⟨i,j,I,I⟩|⟨l,j,I,I⟩;rw[ae_]at n;calc EY (up (Ee h g)) n;rw[ae8]at n;exact wpAny_eqBool_str n
 «strs»:=λm h g v n=>by rcases bC n with⟨f,j,I,k⟩|⟨l,j,I,k⟩;calc nomatch k;injection k with e1 _;subst e1;cases v<;>rfl
def F6(a:Ĵ)(w:Ŏ)(b:U)(c:SV):(bt a w).is (.D b) (lf .int)=Z:=lf Sa
def F7(a:Ĵ)(w:Ŏ)(b:ï)(c:SV):(bt a w).is (.X b) (lf .str)=Z:=lf Sb
inductive V where|Ť|bl(b:nm)|int(i:U)|str(x:ï)|N9(b:FS UInt8)|flt(b:UInt64)|ref(a:β)|ty(n:HC)deriving OF
def Ŗ:V->Ch ge|.Ť,a=>a=ge.none|.bl b,a=>a=ge.c0 b|On,a=>∃d,a=re ge.int|.str e,a=>∃d,a=ge.str e d|.N9 b,a=>∃d,a=v4 ge.bytes|.flt b,a=>∃d,a=v4 ge.float|EH,a=>a=ge.ref f|.ty g,a=>a=ge.au g
abbrev Ĺ:g3->Ch wr:=bq Ŗ
variable{z:g3}
def Ĺ.length(a:YK):z.length=A.length:=Ñ a
def Ĺ.get:∀{a:g3}{b:wr}{c:M}{d:V},io Ĺ->a[c]? =LJ->∃e,b[c]? =HH/\s3 Ŗ
 |_,_,_,_,.nil,f=>by simp at f
 |_,_,0,_,.cons g _,f=>by simp at f;subst f;calc⟨_,I,g⟩
 |_,_,BD,d,.cons _ h,f=>by let⟨e,i,j⟩:=Ĺ.get h aqh;calc⟨e,abj,j⟩
variable{H:V}
def Ĺ.set(d:Ix Ŗ):∀{a:g3}{b:wr}(c:M),io Ĺ->Ĺ (a.set c H) (b.set c x)|_,_,_,.nil=>.nil|_,_,0,.cons _ e=>s3 .cons|_,_,BD,JV .cons=>.cons f$ AH$ Ĺ.set d
def Ĺ.append:∀{a b:g3}{c d:wr},mt Ĺ->v4 Ĺ->Ĺ (a++b) (c++d)|_,_,_,_,.nil,e=>e|_,_,_,_,on .cons,e=>.cons f$ Ĺ.append g e
def Ĺ.take:∀{a:g3}{b:wr}(c:M),io Ĺ->Ĺ (a.take c) (b.take c)|_,_,0,_=>.nil|_,_,_+1,.nil=>.nil|_,_,BD,s3 .cons=>.cons d$ AH Ĺ.take
def Ĺ.drop:∀{a:g3}{b:wr}(c:M),io Ĺ->Ĺ (a.drop c) (b.drop c)|_,_,0,d=>d|_,_,_+1,.nil=>.nil|_,_,BD,.cons _ e=>AH Ĺ.drop
def oc:ut->Ch WA|DE,WI=>Ŗ v a|none,none=>EQ|_,_=>DN
def KV{a:Type}:asN a->Ch (XQ a):=bq (λ(b:a×V)(c:a×ge)=>EM=EZ/\Ŗ b.2 c.2)
def kV:ō->V|.D a=>KM|.X b=>.str b
inductive HO where|Ý(xs:g3)|c9(xs:g3)|dK(a:OV)|dT(a:BA)|set(S:U->nm)(n:M)|Ŀ(C b:β)(fs:ES)|ü(x:β)|xd(fs:ES)|met(f x:β)|Nm(lo c:U)|jt(o:pi)(u:HO)|tK(d:YJ)|ext(e:Ch ř)
abbrev Hp:=β->FQ HO
def ø(a:Hp)(b:β)(c:HO):Hp:=λd=>if d=b then HE else MY
def Α{H:Hp}{a:β}{o:HO}:JY ø o a=ak7:=by unfold ø;rw[KC]
variable{b:Hp}
def ω{a:HO}(c:e≠q):AM (ø b q)=EV:=by unfold ø;rw[hf c]
def bx{a:Hp}{d c:HO}:CF (ø (AM ø d))=AM ø c:=by funext b;unfold ø;split<;>rfl
def đ{c d:HO}(f:EV=HE)(a:b q=LJ)(g:c≠d):e≠q:=by intro h;subst h;rw[f]at a;calc g$ Ü a
def ρ{c:HO}(d:EV=HE)(a:hm (b q)):e≠q:=by intro f;subst f;rw[d]at a;cases a
section
variable(P:Ĵ)(w:Ŏ)
def aL(c:Hp)(b:ř)(a:β):Ch HO|.Ý d=>d.length<=Ζ/\∃(e:wr) (f:M),s3 Ĺ/\b.ad a=f4 {BY:=II,BX:=.seq e.ac f}|.c9 d=>d.length<=Ζ/\∃e:wr,s3 Ĺ/\sK IsTup e.ac|.dK g=>g.length<=Ζ/\pr (a==Ŧ)/\ ∃h,ww KV/\FV (b.cx (IA bt))|.dT g=>g.length<=Ζ/\pr (a==Ŧ)/\ ∃d:apu,bq (λ(i:RJ×V)(j:RJ×β×ge)=>i.1=j.1/\c (lv j)=UJ i.1.q/\Ŗ i.2 (wS j)) g d/\∃k l m,b.ad a=RY/\k.dJ/\k.bT=AE .b0/\l.aU=d.q (entryOfKey (Av (IA bt)))/\(d.q (·.1)).ar|.set S f=>b.SetOf (IA intKind) a S f|DH n fs=>c n=OA .ü/\fs.length<=1000/\n≠a/\b.ad a=f4 (bX C n)/\ ∃o,BQ b.Ns1/\(∀p,oc (fs.E p) (o p))/\Et o (fs.q (·.1))|.ü _=>∃k,b.ad a=RY|.xd fs=>∃o,b.Ns1 a o/\∀p,oc (fs.E p) (o p)|.Nm lo q=>∃r s v,b.ad a=f4 {BY:=air,BX:=.bP #[AB lo r,.int q s,AB 1 v]}|.jt k s=>b.ad a=RY/\sK (aL c) s|.tK t=>b.ad a=f4 {BY:=.none,BX:=.bP t}|.met p u=>b.ad a=f4 (PySem.W.methodObj (.ref p) (.ref u))|.ext x=>x b/\(∃k,b.ad a=RY)/\ ∀y z:ř,x y->(∀k,y.ad a=RY->z.ad a=RY)->x z
def qP(a:Hp)(b:ř):Prop:=∀c d,JD=LJ->JG (IA aL)
end
section
variable {H':Hp}{h':ř}{a:β}{o:HO}
def aL.lt(c:aL u s b j a o):a<j.R.L:=by cases o with
|Ý d=>let⟨_,_,_,_,e⟩:=c;calc Ó e
|c9 d=>let⟨_,_,_,f⟩:=c;calc f.lt
|dK g=>let⟨_,_,_,_,o,_,_,e,_⟩:=c;calc Ó e
|dT g=>let⟨_,_,_,_,o,_,_,e,_⟩:=c;calc Ó e
|set S h=>let⟨o,_,_,_,e,_⟩:=c;calc Ó e
|Ŀ C i fs=>let⟨_,_,_,e,_⟩:=c;calc Ó e
|ü k=>let⟨_,e⟩:=c;calc Ó e
|xd fs=>let⟨_,⟨_,_,_,e,_⟩,_⟩:=c;calc Ó e
|Nm lo l=>let⟨_,_,_,e⟩:=c;calc Ó e
|jt m n=>let⟨e,_⟩:=c;calc Ó e
|tK p=>calc Ó (show j.ad a=UB from c)
|met q k=>calc Ó (show j.ad a=UB from c)
|ext r=>let⟨_,⟨_,e⟩,_⟩:=c;calc Ó e
def bq.eI{d e:Type}{F f:d->Ch e}:∀{b:List d}{c:List e},lf (bq F)->(∀a g,F a g->f a g)->lf (bq f)|_,_,.nil,_=>.nil|_,_,t3 .cons,j=>KU (ga j h)$ up bq.eI
def aL.tL(d:aL u s b j a o)(c:∀g h,(g=a\/MM=OA .ü)->j.ad g=OE->h'.ad g=OE)(e:∀g,MM=OA .ü->H' g=OA .ü)(f:∀g i,MM=f4 (.c9 i)->H' g=f4 (.c9 i)):aL u s H' h' a o:=by induction o with
|Ý i=>let⟨z,k,l,m,n⟩:=d;calc⟨z,k,l,m,UT⟩
|c9 i=>let⟨z,k,m,p,n,q⟩:=d;calc⟨z,k,m,p,UT,q⟩
|dK r=>let⟨z,t,x,m,p,y,A,n,q⟩:=d;calc⟨z,t,x,m,p,y,A,UT,q⟩
|dT r=>let⟨z,t,i,m,p,y,A,n,q,B,D,G⟩:=d;calc⟨z,t,i,bq.eI m λH J z=>⟨Da,JI$ lv z,wS z⟩,p,y,A,UT,q,B,D,G⟩
|set S l=>let⟨p,y,A,L,n,q⟩:=d;calc⟨p,y,A,L,UT,q⟩
|Ŀ C N fs=>let⟨O,z,g,n,k,⟨r,y,A,x,q⟩,m,i⟩:=d;calc⟨e _ O,z,g,UT,k,⟨r,y,A,SZ (.X O) x,q⟩,m,i⟩
|ü t=>let⟨p,n⟩:=d;calc QZ UT
|xd fs=>let⟨k,⟨r,y,A,n,q⟩,m⟩:=d;calc⟨k,⟨r,y,A,UT,q⟩,m⟩
|Nm lo l=>let⟨L,h,v,n⟩:=d;calc⟨L,h,v,UT⟩
|jt p h B=>let⟨n,J⟩:=d;calc⟨UT,B J⟩
|tK D=>have n:=d;calc c a _ GQ n
|met G t=>have n:=d;calc c a _ GQ n
|ext N=>let⟨H,⟨o,n⟩,st⟩:=d;calc⟨ga st H λo J=>SZ GQ J,⟨o,UT⟩,st⟩
def qP.lt(c:amC b j)(d:b a=ak7):a<j.R.L:=(c a o d).lt
def qP.fresh(c:amC b j)(d:j.R.L<=a):hm$ b a:=by cases e:b a with
|none=>rfl
|some f=>calc RI$ Ä (c.lt e) d
def qP.fT(a:amC b j)(c:∀d e,j.ad d=HH->h'.ad d=HH):amC b h':=λf g h=>(EU a).tL (λd e _ i=>s3 c i) (λ_ i=>i) λ_ _ i=>i
def qP.iB(e:amC b j)(f:∀g h,j.ad g=OE->h'.ad g=OE)(d:j.R.L<=a)(c:aL u s (sK ø o) h' a o):amC (sK ø o) h':=λg h i=>by have k:=e.fresh d;by_cases l:g=a;subst l;rw[Α]at i;cases i;calc c;rw[ω l]at i;calc(t3$ e g).tL (λm v _ n=>f m v n) (λm n=>by rw[ω$ ρ n k];calc n) λm p n=>by rw[ω$ ρ n k];calc n
end
def Rd(a:Hp)(b:β)(c:HO):Prop:=JC=HE\/∃d,RH (DB .jt)
def Rd.ok{P:Ĵ}{w:Ŏ}{c:HO}(a:zn Rd c)(d:IA qP b j):CF$ IA aL b j:=by rcases a with a|⟨f,a⟩;calc AA$ d e;let⟨_,g⟩:=d e _ a;calc g
def Mut:Ch$ FQ HO|f4$ .Ý _=>EQ|f4$ .dK _=>EQ|f4$ .dT _=>EQ|f4$ ga .set=>EQ|f4$ AY .Ŀ=>EQ|f4$ .ext _=>EQ|_=>DN
section
variable {h:ř} {o':HO}
def qP.pO(ok:amC b h)(mu:Mut EV)(a:q=e\/b q=PV .ü)(f:∀g i,g≠q->h.ad g=RW->j.ad g=RW)(c:∃i,j.ad q=RW)(d:aL u s (zn ø o') j e o'):amC (zn ø o') j:=λg i k=>by
 have l:∀m n,b m=f4 (.ü n)->m≠e:=λm n o z=>by subst z;rw[o]at mu;exact mu
 have p:∀m r,b m=f4 (.c9 r)->m≠e:=λm r o z=>by subst z;rw[o]at mu;exact mu
 by_cases t:g=e;subst t;rw[Α]at k;cases k;calc d;rw[ω t]at k;by_cases x:g=q;have y:MM=PV .ü:=by rcases a with z|z;calc DM (x.trans z) t;rw[x];exact z
 rw[k]at y;cases y;let⟨v,A⟩:=c;calc⟨v,by rw[x];calc A⟩;refine(DL ok k).tL (λm v B o=>f m v ?_ o) (λm o=>by rw[ω$ l m g o];calc o) λm r o=>by rw[ω$ p m r o];exact o
 rcases B with I|B;calc x;rintro I;rcases a with z|z;calc l m g B z;rw[B]at z;cases z;calc t I
end
structure Un(fs a:s5)(H b:Hp)(h c:ř):Prop where
 keep:∀d e,h.ad d=HH->agI->d∉fs->d∉a->c.ad d=HH
 Bz:∀d e,h.ad d=HH->agI->BH fs->d∉a->∃f,c.ad d=f4 {e with slots:=f}
 free:∀d e,h.ad d=HH->agI->d∉a->hm Fk
 there:∀d e,h.ad d=HH->d∉a->∃g,c.ad d=HK
 F8:∀d i,H d=f4 (.c9 i)->Fk=f4 (.c9 i)
 yK:∀d e j,H d=f4 (.jt e j)->Fk=f4 (.jt e j)
 yL:∀d k,H d=f4 (.tK k)-> ∃l,Fk=f4 (.tK (k++l))
section
variable{fs ex:s5}{H1:Hp}{h1 h':ř} {o:HO}
def Un.any(d:Un fs ex b H1 j h1){a:pi}(f:j.ad e=WI)(g:hm EV)(c:e∉ex):∃h,h1.ad e=f4 {a with slots:=h}:=by by_cases i:EG fs;calc on (d.Bz e a) i c;calc⟨a.dD,on (d.keep e a) i c⟩
def Un.fT(a:∀c d,j.ad c=LJ->h'.ad c=LJ):Un fs ex b b j h':=⟨λc e f _ _ _=>py JD,λc e f _ _ _=>⟨e.dD,py JD⟩,λ_ _ _ g _=>g,λc e f _=>⟨e,py JD⟩,λ_ _ f=>f,λ_ _ _ f=>f,λ_ h f=>⟨#[],by rw[f];simp⟩⟩
def Un.refl:Un fs ex b b j j:=Un.fT λ_ _ a=>a
def Un.iB(c:∀f g,j.ad f=HK->h'.ad f=HK)(d:j.R.L<=e)(a:hm EV):Un fs ex b (zn ø o) j h' where
 keep:=λf g h _ _ _=>EU c;Bz:=λf g h _ _ _=>⟨g.dD,EU c⟩;free:=λf g h i _=>by rw[ω$ ģ$ Ä (Ó h) d];exact i
 there:=λf g h _=>⟨g,EU c⟩;F8:=λf k h=>by rw[ω$ ρ h a];exact h
 yK:=λf g k h=>by rw[ω$ ρ h a];exact h
 yL:=λf l h=>⟨#[],by rw[ω$ ρ h a,h];simp⟩
def Un.pO(mu:Mut EV)(c:q=e\/b q=PV .ü)(d:∀f g,f≠q->j.ad f=HK->h'.ad f=HK)(a:∃g,h'.ad q=HK):Un fs ex b (zn ø o) j h':=by
 have h:∀f,hm (b f)->f≠e:=λf i z=>by subst z;rw[i]at mu;exact mu
 have k:∀f,hm (b f)->f≠q:=λf i z=>by subst z;rcases c with l|l;calc DF h l;rw[i]at l;cases l
 have m:∀f g,b f=HK->¬Mut HK->f≠e:=λf g n p z=>by subst z;rw[n]at mu;exact p mu
 calc⟨λf g n i _ _=>on d (DF k) n,λf g n i _ _=>⟨g.dD,on d (DF k) n⟩,λf g n i _=>by rw[ω$ DF h];calc i,λf g n _=>?_,λf r n=>by rw[ω$ m f _ n λz=>z];calc n,λf g r n=>by rw[ω$ m f _ n λz=>z];calc n,λf s n=>⟨#[],by rw[ω$ m f _ n λz=>z,n];simp⟩⟩;by_cases t:f=q;subst t;calc a;calc⟨g,on d t n⟩
end
def trk(a:ř)(b:Hp):s5:=FX a.R.L λc=>Db.by
def B3(a:ř)(b:Hp):ř:=Uo a$ io trk
def Sd(a:ř)(b:Hp):(io B3).objs.size=a.R.L:=ga Eu
def xh{a:pi}(c:j.ad e=WI)(d:hm EV):(B3 j b).ad e=WI:=Jw _ c λf=>by have g:=(υ.J f).2;rw[d]at g;simp at g
def abQ{c:pi}(a:(B3 j b).ad e=HE):j.ad e=HE/\hm EV:=by have d:=Kd _ a;calc wn d;cases f:EV with
|none=>rfl
|some g=>have h:EG$ trk j b:=υ.Q ⟨ψ.Q$ Ó d,by simp[f]⟩;have z:hm$ (B3 j b).ad e:=nf _ h;rw[z]at a;cases a
structure Mod(K:Γ)(mg:Do)(base:ř):Prop where
 kin:K.In base
 ru:base.Ns ţ mg
 uP:∃a,base.Ns lH a/\∀b:ï,b≠"__name__"->JC=kh b
 nolimit:base.fb
structure Cx where
 prog:Ĵ
 w:Ŏ
 K:Γ
 mg:Do
 base:ř
 A:ff
 N:CJ
 l8:lm
 F9:Hp
 ó:Aw
 pP:NP
 a7:NP
 ex:s5
 fn:ï->nm
 gM:nm
 pn:BO
 xe:ET
def B4(l:NP):s5:=l.filterMap (·.frame)
abbrev Cx.fs(X:Cx):s5:=B4 X.pP
def Vis(a:fN)(b:ï):Prop:=a.al.E b=akZ\/a.al.E b=XW\/a.al.E b=amY
def Loc(a:fN)(b:ï):Prop:=a.al.E b=akZ\/a.al.E b=XW
def amZ(a:Aw)(d:ř)(e:Do)(b:ï)(c:ge):Prop:=(a.bK b=akZ/\e b=HE)\/((a.bK b=XW\/a.bK b=amY)/\ ∃f,a.cells.E b=MO/\d.b3 f HE)
structure Cx.Ok(X:Cx):Prop where
 mod:Mod X.K X.mg X.base
 kind:X.ó.aP.kind=.bn
 ru:X.ó.e3=ţ
 uP:X.ó.eF=lH
 above:X.l8.v.R.L<=X.ó.aN
 inj:∀a b c,atm->X.ó.cells.E b=HE->NJ
 has:∀a,(X.ó.bK a=XW\/X.ó.bK a=amY)-> ∃c,atm
 cab:∀a c,X.fn a=Z->atm->X.l8.v.R.L<=c
 hd:X.gM=Z->hm X.A.dS
 frames:X.A.frames=f4 X.a7
 stk:X.a7=X.pP\/(X.a7=X.ó::X.pP/\X.ó.frame=f4 X.ó.aN)
 exf:∀d∈X.ex,d≠X.ó.aN/\∀a c,atm->c≠d
 bs:∀d e,X.base.ad d=HH->X.l8.v.ad d=HH/\hm (X.F9 d)
 Ux:X.base.R.L<=X.l8.v.R.L
 Wr:∀d e,X.base.ad d=HH->d∉X.ex
 Ws:∀d∈X.ex,d∉X.fs
 rv:X.l8.v.bX X.base X.pP
 frf:∀d∈X.fs,hm (X.F9 d)
structure ú(X:Cx)(dY:BO)(a:AX ut)(H:Hp)(s:lm):Prop where
 ok:X.Ok
 os:s.os=X.l8.os
 jd:ux s.ez
 base:Un X.fs X.ex X.F9 H X.l8.v s.v
 B5:∃b,s.v.Ns X.ó.aN b/\∀(i:M)(x:ï)(v:V),X.N[i]? =XV->a[i]? =f4 DE->Vis X.ó.aP x->∃c,IQ Ŗ/\FA amZ s.v b x c
 cell:∀x d,X.ó.cells.E x=LJ->∃v,s.v.b3 d v
 free:hm$ H X.ó.aN
 ju:∀x d,X.ó.cells.E x=LJ->agI
 N_:∀e∈X.pn++dY,s.v.ad e.1=f4 e.2/\hm (H e.1)/\e.1≠X.ó.aN/\e.1∉X.fs/\∀v,e.2.bT≠.cell v
 aI:akS qP H s.v
 len:a.length=X.N.length
section
variable {σ:AX ut}{H':Hp}
variable{a:Cx}
def Cx.Ok.am0(ok:a.Ok){b:pi}(c:a.base.ad e=ZC):e∉a.fs:=λd=>by have:=(ok.rv.mem d).1;rw[c]at this;cases this
def ú.bs(e:Gc):∀f g,a.base.ad f=HK->c.v.ad f=HK/\hm (b f):=λf g h=>⟨on e.base.keep (EU e.ok.bs).1 (EU e.ok.bs).2 (e.ok.am0 h)$ EU e.ok.Wr,on e.base.free (EU e.ok.bs).1 (EU e.ok.bs).2$ EU e.ok.Wr⟩
def ú.bk(e:Gc):∀f g,a.base.ad f=HK->c.v.ad f=HK:=λf g h=>(EU e.bs).1
def ú.mod(e:Gc):EL Mod a.mg a.base:=e.ok.mod
def ú.yu(e:Gc):a.K.In c.v:=e.ok.mod.kin.keeps e.bk
def ú.fr(e:Gc):∃f,Fr a.base a.ó.aN c.v f:=let⟨f,g,_⟩:=e.B5;⟨f,g,e.bk,É e.ok.Ux e.ok.above⟩
def ú.lt(e:Gc):a.ó.aN<c.v.R.L:=let⟨_,f,_⟩:=e.B5;f.lt
def ú.sz(e:Gc):a.l8.v.R.L<=c.v.R.L:=É e.ok.above$ ja e.lt
def ú.am1(f:Gc)(g:c.v.R.L<=e):e∉a.fs:=λh=>by let⟨_,i,j,_⟩:=f.ok.rv.mem h;calc RI$ Ä (Ó j)$ É f.sz g
def ú.cne(e:Gc):∀f g,a.ó.cells.E f=HK->g≠a.ó.aN:=λf g h z=>by let⟨v,i,j,k⟩:=EU e.cell;let⟨l,⟨m,n,o,p,q,_⟩,_⟩:=e.B5;rw[z,p]at j;cases j;rw[q]at k;cases k
def ú.rv(e:Gc):c.v.bX a.base a.pP:=by
 have f:∀l,(∀g∈B4 l,g∈a.fs)->a.l8.v.bX a.base l->c.v.bX a.base l:=by intro l;induction l with
 |nil=>intro _ _;trivial
 |cons h i j=>intro k m;let⟨n,⟨o,p,q,r,s,t⟩,u⟩:=m;have v:=k o (by unfold B4;rw[eM,q];calc ů);let⟨x,y⟩:=BF e.base.Bz s (e.ok.frf o v) v (λz=>e.ok.Ws o z v);exact⟨n,⟨o,_,q,r,y,t⟩,j (λg A=>k g (by unfold B4;rw[eM,q];calc BI A)) u⟩
 calc f a.pP (λ_ A=>A) e.ok.rv
def ú.a7(e:Gc):c.v.bX a.base a.a7:=by rcases e.ok.stk with f|⟨f,g⟩;rw[f];calc e.rv;rw[f];let⟨h,i,_⟩:=e.B5;calc DL (KU (by rw[e.ok.kind];decide)) ?_ e.rv;calc ř.get?_none_of_le$ É e.ok.Ux e.ok.above
def ú.B6(e:Gc):∀f∈B4 a.a7,f∈a.ó.aN::a.fs:=λf g=>by rcases e.ok.stk with h|⟨h,i⟩;rw[h]at g;calc BI g;rw[h]at g;unfold B4 at g;rw[eM,i]at g;calc g
def ú.rx(e:Gc):∀f∈B4 a.a7,hm (b f):=λf g=>by rcases ν.J (on e.B6)with h|g;rw[h];calc e.free;let⟨_,i,j,_⟩:=e.ok.rv.mem g;calc up (e.base.free f) (on e.ok.frf) λz=>e.ok.Ws f z g
def ú.step{q:FS GenState}{s:Drawn}{ch:s5}(e:Gc)(g:∀x∈ch,(x∈a.ex\/a.l8.v.R.L<=x)/\x≠a.ó.aN/\(∀y A,a.ó.cells.E y=f4 A->A≠x)/\ ∀B∈a.pn++d,B.1≠x)(h:∀x D,x≠a.ó.aN->x∉a.fs->aty (hm (b x)->j.ad x=f4 D))(i:∀x D,x≠a.ó.aN->x∈a.fs->aty (hm (b x)-> ∃G,j.ad x=f4 {D with slots:=G}))(f:∀x D,aty (hm (b x)->hm (H' x)))(k:∀x D,aty (∃H,j.ad x=f4 H))(m:∀x J,b x=f4 (.c9 J)->H' x=f4 (.c9 J))(o:∀x D L,b x=f4 (.jt D L)->H' x=f4 (.jt D L))(p:∀x N,b x=f4 (.tK N)-> ∃O,H' x=f4 (.tK (N++O)))(t:∀O,c.v.Ns a.ó.aN O->j.Ns a.ó.aN O)(r:PY qP H' j)(u:ux q):am7 H' {c with AL:=j,gens:=q,drawn:=s,DO:=n}:=by
 have a0:∀x D,a.l8.v.ad x=f4 D->x≠a.ó.aN:=λx D b0=>ģ$ Ä (Ó b0) e.ok.above;have c0:∀x D,a.l8.v.ad x=f4 D->x∉a.ex->x∉ch:=λx D b0 d0 f0=>by rcases(g x f0).1 with z|z;calc d0 z;exact RI$ Ä (Ó b0) z
 have g0:∀y A,a.ó.cells.E y=f4 A->∀v,c.v.b3 A v->j.b3 A v:=λ y A b0 v⟨D,h0,i0⟩=>by have j0:=RK$ IL (lv (g A z).2) b0;by_cases k0:A∈a.fs;let⟨G,l0⟩:=i A D (IL e.cne b0) k0 j0 h0 (IL e.ju b0);calc⟨_,l0,i0⟩;exact⟨D,h A D (IL e.cne b0) k0 j0 h0$ IL e.ju b0,i0⟩
 calc⟨e.ok,e.os,u,⟨λx D b0 m0 f0 d0=>?_,λx D b0 m0 f0 d0=>?_,λx D b0 m0 d0=>?_,λx D b0 d0=>?_,λx J b0=>m x J$ e.base.F8 x J b0,λx D J b0=>o x D J$ e.base.yK x D J b0,λx N b0=>?_⟩,?_,λy A b0=>?_,?_,λy A b0=>?_,λB J=>?_,r,e.len⟩;calc h x D (ahY a0) f0 (ahY c0 d0) (ahY e.base.keep m0 f0 d0)$ ahY e.base.free m0 d0;let⟨G,G⟩:=ahY e.base.Bz m0 f0 d0;let⟨n0,o0⟩:=i x _ (ahY a0) f0 (ahY c0 d0) G (ahY e.base.free m0 d0);calc⟨n0,o0⟩;let⟨H,G⟩:=ahY e.base.there d0;calc FW f (ahY c0 d0) G$ ahY e.base.free m0 d0;let⟨H,G⟩:=ahY e.base.there d0;calc FW k (ahY c0 d0) G;let⟨H,G⟩:=e.base.yL x N b0;let⟨N,o0⟩:=p x _ G;calc CM (by rw[o0,FS.append_assoc]);let⟨O,H,x⟩:=e.B5;calc⟨O,t O H,λN y v G o0 H=>?_⟩;let⟨L,p0,l⟩:=x N y v G o0 H;calc⟨L,p0,?_⟩;rcases l with l|⟨L,A,b0,z⟩;calc .D l;calc .X ⟨L,A,b0,DG$ IL g0 b0⟩;let⟨v,z⟩:=IL e.cell b0;calc⟨v,IL g0 b0 v z⟩;let⟨O,⟨D,_,_,h0,_⟩,_⟩:=e.B5;calc f _ D (RK (lv (DG g))) h0 e.free;let⟨v,D,h0,i0⟩:=IL e.cell b0;calc f A D (RK (IL (lv (g A z).2) b0)) h0$ IL e.ju b0;let⟨b0,m0,G,x,N⟩:=e.N_ B J;have j0:=RK$ (wS$ g B.1 z).2 B J;calc⟨h B.1 B.2 G x j0 b0 m0,f B.1 B.2 j0 b0 m0,G,x,N⟩
def ú.un{t':M}(g:Gc)(e:Un a.fs [] b H' c.v j)(f:PY qP H' j):am7 H' {c with AL:=j,DO:=t'}:=by let⟨h,⟨i,k,l,m,n⟩,_⟩:=id g.B5;let⟨o,p⟩:=s4 (e.any m g.free);calc g.step (ch:=[]) (λ_ z=>nomatch z) (λq i _ r _ s t=>s4$ DQ (e.keep q i) r) (λq i _ r _ s t=>s4$ DQ (e.Bz q i) r) (λq i _ s t=>s4$ DQ$ e.free q i) (λq i _ s=>s4$ e.there q i s) e.F8 e.yK e.yL (λu v=>by let⟨x,y,A,B,D⟩:=v;rw[m]at B;cases B;calc⟨_,y,A,p,D⟩) f g.jd
def ú.call{g:FS GenState}{l:Drawn}{h:s5}(k:Gc)(e:Un (B4 a.a7) h b H' c.v j)(i:PY qP H' j)(m:ux g)(f:∀o∈h,(o∈a.ex\/a.l8.v.R.L<=o)/\o≠a.ó.aN/\(∀p q,a.ó.cells.E p=f4 q->q≠o)/\ ∀r∈a.pn++d,r.1≠o):am7 H' {c with AL:=j,gens:=g,drawn:=l,DO:=n}:=by let⟨s,⟨t,u,v,x,y⟩,_⟩:=id k.B5;let⟨A,B⟩:=e.any x k.free (RK (lv (DG f)));calc k.step f (λo t B D G H J=>e.keep o t H J (λz=>(ν.J$ k.B6 o z).elim B D) G) (λo t _ _ G H J=>e.any H J G) (λo t G H J=>e.free o t H J G) (λo t G H=>e.there o t H G) e.F8 e.yK e.yL (λL N=>by let⟨O,p,q,r,s⟩:=N;rw[x]at r;cases r;calc⟨_,p,q,B,s⟩) i m
def ú.eX{t':M}(h:Gc)(f:∀n o,n≠e->c.v.ad n=ak7->j.ad n=ak7)(i:hm EV)(g:e≠a.ó.aN)(k:EG a.ex\/a.l8.v.R.L<=e)(l:∀p q,a.ó.cells.E p=f4 q->q≠e)(m:∀r∈a.pn++d,r.1≠e):am7 b {c with AL:=j,DO:=t'}:=by
 have s:∀n t,b n=f4 t->n≠e:=λn t u z=>by rw[z,i]at u;cases u
 calc h.step (ch:=[e]) (λn x=>?_) (λn o _ _ y u _=>BQ f (λz=>y (by simp[z])) u) (λn o _ _ y u _=>⟨o.dD,BQ f (λz=>y (by simp[z])) u⟩) (λ_ _ _ _ A=>A) (λn o y u=>⟨o,BQ f (λz=>y (by simp[z])) u⟩) (λ_ _ u=>u) (λ_ _ _ u=>u) (λn B u=>⟨#[],by rw[u];simp⟩) (λD G=>?_) (λn t u=>?_) h.jd;have u:n=e:=arG
 subst u;calc⟨k,g,l,m⟩;let⟨o,H,J,L,N⟩:=G;calc⟨o,H,J,f _ o (Ne.symm g) L,N⟩;calc(EB$ h.aI n).tL (λq v y O=>f q v ?_ O) (λ_ O=>O) λ_ _ O=>O;rcases y with z|z;rw[z];calc EB$ s n;calc DG$ s q
def ú.mS(e:Gc)(f:M):am7 b {c with DO:=f}:=e.un Un.refl e.aI
def ú.fT{t':M}(e:Gc)(f:∀g h,c.v.ad g=OE->j.ad g=OE):am7 b {c with AL:=j,DO:=t'}:=e.un (Un.fT f)$ e.aI.fT f
def ú.iB{o:HO}{t':M}(h:Gc)(i:∀k l,c.v.ad k=XS->j.ad k=XS)(f:c.v.R.L<=e)(g:PY aL (zn ø o) j e o):am7 (zn ø o) {c with AL:=j,DO:=t'}:=h.un (Un.iB i f (h.aI.fresh f))$ on$ h.aI.iB i
def ú.pO{i:HO}(k:Gc)(mu:Mut EV)(g:q=e\/b q=PV .ü)(l:∀m o,m≠q->c.v.ad m=ak7->j.ad m=ak7)(f:∃o,j.ad q=ak7)(h:IO (PY aL (zn ø i) j)):am7 (zn ø i) {c with AL:=j,DO:=n}:=k.un (Un.pO mu g l f)$ GP$ k.aI.pO mu g l
variable{l:AX ut}
def ú.am2(e:Gc)(g:PZ σ.length)(w:∀(f:M) v,l[f]? =f4 DE->σ[f]? =f4 DE):lf$ wE ú l:=⟨e.ok,e.os,e.jd,e.base,let⟨h,i,j⟩:=e.B5;⟨h,i,λf k v m n o=>j f k v m (w f v n) o⟩,e.cell,e.free,e.ju,e.N_,e.aI,g.trans e.len⟩
def ú.Oa{e:BO}(f:Gc)(g:∀h∈e,c.v.ad h.1=f4 h.2/\hm (b h.1)/\h.1≠a.ó.aN/\h.1∉a.fs/\∀v,h.2.bT≠.cell v):lf$ AM ú σ:=⟨f.ok,f.os,f.jd,f.base,f.B5,f.cell,f.free,f.ju,λh i=>(Ι.J i).elim (λz=>f.N_ h$ DG hv)$ g h,f.aI,f.len⟩
def xi(a:J.ar){b:M}(c:J[n]? =RW)(d:J[b]? =RW):n=b:=by let⟨e,f⟩:=φ.J c;let⟨g,h⟩:=φ.J d;calc(List.getElem_inj a).J$ f.trans h.symm
def zv{o:agT}{q:ET}{v:V}{k:Unit->ZE}(e:Gc)(h:a.N.ar)(g:a.N[n]? =RW)(f:ar3)(l:GY Ŗ)(m:∀r,wE ú (σ.set n DE) b r->(∃s,cx s c.v r.v/\(s=a.ó.aN\/a.ó.cells.E i=f4 s))->k () r)(j:asg:=by first|exact GQ|exact Ps|assumption):BF û (AN ahD i x) k q c:=by
 let⟨t,u,y⟩:=id e.B5;have A:pr (a.ó.aP.kind==.class||(a.ó.aP.kind==.module&&a.ó.aN !=a.ó.e3)):=by rw[e.ok.kind];rfl
 have B:n<σ.length:=by rw[e.len];exact(φ.J g).1
 have D:=e.cne;have G:∀{s:β}{H:ř},(∃J,c.v.ad s=f4 J/\hm (b s))->cx s c.v H->PY qP b H:=λ{s H} L N O r s=>by let⟨_,_,a0⟩:=L;calc(HX$ e.aI O).tL (λL r b0 c0=>(N.2 L ?_).trans c0) (λ_ c0=>c0) λ_ _ c0=>c0;rintro I;rcases b0 with I|b0;rw[a0]at s;cases s;rw[a0]at b0;cases b0
 rcases f with d0|d0;calc wpAny_storeName_local d0 u (λH f0 N=>?_) A;let⟨A,_,_,g0,_⟩:=id u;calc m _ ⟨e.ok,e.os,e.jd,⟨as7,as7,e.base.free,λO J s f=>?_,e.base.F8,e.base.yK,e.base.yL⟩,⟨_,f0,λj0 k0 l0 m0 n0 o0=>?_⟩,λk0 L s=>?_,e.free,e.ju,λp0 r0=>?_,G ⟨A,g0,e.free⟩ N,by simpa using e.len⟩ ⟨_,N,GQ⟩;calc at7 (Ä (Ó s) e.ok.above)$ e.base.keep O J s h0 i0 f;let⟨A,m0⟩:=e.base.Bz O J s h0 i0 f;calc⟨A,at7 (Ä (Ó s) e.ok.above) m0⟩;let⟨s0,m0⟩:=e.base.there O J s f;calc⟨s0,at7 (Ä (Ó s) e.ok.above) m0⟩;by_cases t0:j0=n;subst t0;rw[g]at m0;cases m0;rw[dt B]at n0;cases n0;calc⟨x,l,.D ⟨d0,mo⟩⟩;rw[en$ Ne.symm t0]at n0;let⟨u0,v0,c0⟩:=y j0 k0 l0 m0 n0 o0;calc⟨u0,v0,?_⟩;rcases c0 with⟨w0,s⟩|⟨w0,L,s,z⟩;calc .D$ wn w0;have:k0≠i:=λs=>t0$ xi h m0 (s▸g);simp[this,s];calc .X ⟨w0,L,s,z.dl N$ D k0 L s⟩;let⟨r,z⟩:=e.cell k0 L s;calc⟨r,z.dl N$ D k0 L s⟩;let⟨s,h0,x0,y0,z0⟩:=e.N_ p0 r0;calc⟨(N.2 p0.1 x0).trans s,h0,x0,y0,z0⟩;have A0:a.fn i=Z:=by rcases j with z|z;calc z;rw[z]at d0;cases d0
 let⟨L,b0⟩:=e.ok.has i (.D d0);let⟨r,z⟩:=e.cell i L b0;calc wpAny_storeName_cell e.ok.kind d0 b0 z λH B0 N=>?_;let⟨C0,D0,F0⟩:=id z;calc m {c with AL:=H} ⟨e.ok,e.os,e.jd,⟨as7,as7,e.base.free,λO J s f=>?_,e.base.F8,e.base.yK,e.base.yL⟩,⟨t,u.dl N$ Ne.symm$ D i L b0,λj0 k0 l0 m0 n0 o0=>?_⟩,λk0 t s=>?_,e.free,e.ju,λp0 r0=>?_,G ⟨C0,D0,e.ju i L b0⟩ N,by simpa using e.len⟩ ⟨L,N,.X b0⟩;calc at7 (Ä (Ó s) (e.ok.cab i L A0 b0))$ e.base.keep O J s h0 i0 f;let⟨A,m0⟩:=e.base.Bz O J s h0 i0 f;calc⟨A,at7 (Ä (Ó s) (e.ok.cab i L A0 b0)) m0⟩;let⟨s0,m0⟩:=e.base.there O J s f;calc⟨s0,at7 (Ä (Ó s) (e.ok.cab i L A0 b0)) m0⟩;by_cases t0:j0=n;subst t0;rw[g]at m0;cases m0;rw[dt B]at n0;cases n0;calc⟨x,l,.X ⟨.D d0,L,b0,B0⟩⟩;rw[en$ Ne.symm t0]at n0;let⟨u0,v0,c0⟩:=y j0 k0 l0 m0 n0 o0;calc⟨u0,v0,?_⟩;rcases c0 with c0|⟨w0,t,s,u⟩;calc .D c0;calc .X ⟨w0,t,s,u.dl N ?_⟩;rintro I;calc t0$ xi h m0 (AY e.ok.inj s b0▸g);by_cases D:t=L;subst D;calc CM B0;let⟨H,y⟩:=e.cell k0 t s;calc⟨H,y.dl N D⟩;let⟨s,h0,x0,y0,z0⟩:=e.N_ p0 r0;calc⟨(N.2 p0.1 ?_).trans s,h0,x0,y0,z0⟩;intro c0;rw[c0,D0]at s;have B:C0=p0.2:=Ü s;calc z0 r (by rw[<-B];calc F0)
def xj{k:agT}{l:ET}{v:V}{j:Unit->ZE}(m:Gc)(e:a.N.ar)(f:a.N[n]? =RW)(g:ar3)(o:GY Ŗ)(q:∀r,wE ú (σ.set n DE) b r->j () r)(h:asg:=by first|exact GQ|exact Ps|assumption):û k p (AN ahD i x) j l c:=on (zv m e) o (λr s _=>HX q) h
def ú.ah0{e:lm}{ch:s5}(j:Gc)(h:e.os=c.os)(k:Un (B4 a.a7) ch b H' c.v e.v)(f:PY qP H' e.v)(i:ux e.ez)(g:∀l∈ch,(l∈a.ex\/a.l8.v.R.L<=l)/\l≠a.ó.aN/\(∀m n,a.ó.cells.E m=f4 n->n≠l)/\ ∀o∈a.pn++d,o.1≠l):am7 H' e:=by let⟨p,q,r,s,t⟩:=e;have u:t=c.os:=h;subst u;calc DF (j.call k) g
end
abbrev XK:=YX$ JK RD
abbrev St:=AX ut
abbrev VK:=JK V
abbrev TE:=St->VT VK
abbrev TT:=St->VT GM
abbrev TA:=St->VT GW
structure ee where
 nx:v6
 rt:VK
 bk:v6:=ap9
 ct:v6:=ap9
abbrev TS:=ee->v6
def EP(X:Cx)(a:BO)(b:St)(d:VK)(e:ge)(c:lm):Prop:=∃v f,KL (io FJ)/\Ŗ v e/\d v f
def TP(X:Cx)(a:BO)(b:St)(d:GM)(e:nm)(c:lm):Prop:=∃f,KL (io FJ)/\py d
def AP(X:Cx)(a:BO)(b:St)(e:GW)(c:wr)(d:lm):Prop:=∃f g,io FJ g d/\KL Ĺ/\on e
def SP(X:Cx)(a:BO)(c:ee)(d:Flow)(b:lm):Prop:=match d with|.next=>∃e f,py (FJ a) b/\py c.nx|.brk=>∃e f,py (FJ a) b/\py c.bk|.cont=>∃e f,py (FJ a) b/\py c.ct|.es g=>∃v e f,py (FJ a) b/\Ŗ v g/\c.rt v f
def PE(X:Cx)(a:Expr)(b:TE):Prop:=∀(c:BO)(d:lm)(e:St)(f:Hp)(g:VK),VC (on EV->OO (QX (FA (rw a)) (YF g)) d)
def PT(X:Cx)(a:Expr)(b:TT):Prop:=∀(c:BO)(d:lm)(e:St)(f:Hp)(g:GM),VC (on EV->OO (QX (FA (Ke a) (FA (rw a))) (AH (TP X) g)) d)
def PW(X:Cx)(a:Expr)(b:TT):Prop:=∀(c:LL ge)(d:BO)(e:lm)(f:St)(g:Hp)(h:GM),QJ FJ e->EU b->OO (QX (FA (Ke a) c) (DS (TP X) h)) e
def PW.pt{X:Cx}{a:TT}(b:PW X f a):PT X f a:=b _
def PA(X:Cx)(a:GL)(b:TA):Prop:=∀(c:vB)(d:BO)(e:lm)(f:St)(g:Hp)(h:GW),QJ FJ e->EU b->OO (QX (spliced (aG c (FA (Ù a)))) (DS (AP X) h)) e
def PS(X:Cx)(st:eD)(a:TS):Prop:=∀(b:BO)(c:lm)(d:St)(e:Hp)(f:ee),aqd (s3 (a f)->OO (QX (FA (exec st)) (DA (SP X))) c)
def Ld(X:Cx)(st:AX eD)(a:TS):Prop:=∀(b:BO)(c:lm)(d:St)(e:Hp)(f:ee),aqd (s3 (a f)->OO (QX (FA (execs st)) (DA (SP X))) c)
def ay{a:Type}{e:LL a}{f b:a->ZE}{g:agT}(h:IQ (py (û g p)))(d:∀i c,f i c->b i c):IQ$ û g p e b:=bJ h d λ_ _ j=>j
section
def Le(a:M):TE:=λb c d=>∃v,b[a]? =f4 DE/\IQ d
def tC(v:V):TE:=λ_ a b=>b v a
variable{a:Cx}
def Lf(d:a.N[n]? =RW)(e:Vis a.ó.aP i)(b:pr (i==ZF):=by decide)(c:pr (i==FP "__classdict__"):=by decide):KH (.bv i)$ Le n:=by intro f g j k m o p;let⟨v,q,p⟩:=p;let⟨r,s,t⟩:=o.B5;let⟨u,x,l⟩:=t n i v d q e;have y:AR EP j m u g:=⟨v,k,o,x,p⟩;rcases l with⟨z,A⟩|⟨z,B,D,G⟩;calc aeL (abt o.ok.kind z s A y) b;rcases z with z|z;calc aeL (IK (adH o.ok.kind z) y) b;calc aeL (IK (wpAny_loadName_free o.ok.kind z) y c) b
def Φ{c d b}:EC (NI (.eb On))$ tC On:=λ_ _ _ e _ f g=>wpAny_Constant_int ⟨On,e,f.mS _,EJ,g⟩
def jv{c d b}:EC (NI (.eb (.c0 c)))$ tC$ .bl c:=λ_ _ _ e _ f g=>Constant_bool ⟨.bl c,e,f,I,g⟩
def ŝ{c b}:EC (Ev (.eb .none))$ tC .Ť:=λ_ _ _ d _ e f=>Constant_none ⟨.Ť,d,e,I,f⟩
def az{c d b}:EC (NI (.eb (.str c)))$ tC$ .str c:=λ_ _ _ e _ f g=>Calls.Constant_str ⟨.str c,e,f.mS _,EJ,g⟩
def Gl(X:Cx)(a:ï):Prop:=X.ó.bK a=f4 .globalImplicit
variable{o:St}
def ry{k:ET}(e:OW)(f:IP Gl)(g:a.mg i=XV)(l:v x c)(j:pr (i==ZF):=by decide):WL (aqa (.bv i h)) v k c:=yB e.ok.kind f (Calls.loadGlobal_global (by rw[e.ok.ru];calc e.mod.ru.keeps e.bk) g l) j
def qs{m:ET}(e:OW)(f:IP Gl)(g:QM a.mg)(j:kh i=XV)(n:v x c)(k:i≠"__name__":=by decide)(l:pr (i==ZF):=by decide):WL (aqa (.bv i h)) v m c:=by let⟨p,q,r⟩:=e.mod.uP;calc yB e.ok.kind f (Calls.loadGlobal_builtin (by rw[e.ok.ru];calc e.mod.ru.keeps e.bk) g (by rw[e.ok.uP];calc q.keeps e.bk) ((r i k).trans j) n) l
def rz{v:V}(b:IP Gl)(c:a.mg i=XV)(e:GY Ŗ)(d:pr (i==ZF):=by decide):KH (.bv i)$ tC v:=λ_ _ _ f _ g j=>lf (ry g) ⟨v,f,g,e,j⟩ d
def PC(X:Cx)(a:agU)(b c:Expr)(d:TE):Prop:=∀(e:BO)(f:lm)(g:St)(h:Hp)(i:VK),ww (FJ e) f->t3 (d g)->OO (QX (FA (rw b)) (λv j=>OO (QX (FA (rw c)) (λk l=>OO (QX (Ź a v k) (DL (EP X e))) l)) j)) f
def tBl(a:GM):VK|.bl b,c=>lf a|_,_=>DN
def B7{c:GM}(a:JT (tBl c)):∃d,H=.bl d/\NI c:=by unfold tBl at a;split at a;calc⟨_,I,a⟩;calc a.elim
def tB(a:TE):TT:=λb c d=>lf a$ tBl d
variable{tA tB':TT}
def ah1(a b:TT):TT:=aeF (if f=Z then Db g e else e gl g)
def tOr(a b:TT):TT:=aeF (if f=Z then e Z g else Db g e)
def ah2(a:TT):TT:=aps$ d (! e) f
def fF(b:AR PT tA):PW a (.b9 .And [f] h) tA:=by intro c d e g i j k l;calc isTrue_and$ ay (KN (s3 b g)) λm n o=>?_;cases m with
|Z=>calc isTrue_and_nil o
|gl=>calc o
def Wt(b:AR PT tA):PW a (.b9 .Or [f] h) tA:=by intro c d e g i j k l;calc isTrue_or$ ay (KN (s3 b g)) λm n o=>?_;cases m with
|gl=>calc isTrue_or_nil o
|Z=>calc o
def hs(b:PT a y tA)(c:PW a (.b9 .And Tk h) tB'):PW a (.b9 .And (y::Tk) h)$ ah1 tA tB':=by intro d e g i j k l m;calc isTrue_and$ ay (AE (up (EV g) _)) (λ n o⟨p,q,r⟩=>?_);cases n with
|Z=>calc BW$ s3 c o i p k
|gl=>calc⟨p,q,r⟩
def ad0(b:PT a y tA)(c:PW a (.b9 .Or Tk h) tB'):PW a (.b9 .Or (y::Tk) h)$ tOr tA tB':=by intro d e g i j k l m;calc isTrue_or$ ay (AE (up (EV g) _)) (λ n o⟨p,q,r⟩=>?_);cases n with
|Z=>calc⟨p,q,r⟩
|gl=>calc BW$ s3 c o i p k
def d6(b:AR PT tA):PT a (GP (.UnaryOp .Not))$ ah2 tA:=by intro c d e g i j k;calc isTrue_not$ AS$ s3 Db g _
def ad1(a b:TE):TE:=aeF (∃h,f=.bl h/\if h=Z then Db g e else e SO g)
variable{m:TE}
def B8{b}(c:RB):KH (.b9 b [f]) m:=λd e g i j k l=>BoolOp_one$ KN$ s3 c g
variable{L:TE}
def afa(b:VB)(c:KH (.b9 .And Tk) L):KH (.b9 .And (y::Tk))$ ad1 m L:=by intro d e g i j k l;calc BoolOp_and$ ay (AI (DL (s3 b) _)) (λ v n⟨o,p,q,r,s⟩=>?_);let⟨t,I,s⟩:=s;cases r;calc bH ?_;cases t with
|Z=>calc HU n g p j q s
|gl=>calc⟨SO,p,q,I,s⟩
def tIf(c:TT)(a b:TE):TE:=λd e f=>s3 c λg h=>if g=Z then a d h f else Fk h f
def F_{e:Expr}(b:AM PT tA)(c:VB)(d:AR PE L):EC (GP (.IfExp e y))$ tIf tA m L:=by intro g i j k l n o;calc wpAny_IfExp$ ay (BQ (KB MM _)) (λ p q⟨r,s,t⟩=>?_);cases p with
|Z=>calc DQ$ c g q j r l
|gl=>calc DQ$ d g q j r l
end
def bI(K:Γ)(c:Hp)(b:β)(a:g3):Prop:=Ev Rd (.Ý a)\/ ∃(d:pi) (e:YJ) (f:M),K.E b=LJ/\d.cls=II/\hm d.b0/\d.bT=py .seq/\e.L<=Ζ/\Ĺ a e.aU
def Lg(K:Γ)(c:Hp)(b:β)(a:g3):Prop:=Ev Rd (.c9 a)\/ ∃(d:pi) (e:YJ) (f:M),K.E b=LJ/\d.cls=ado/\d.bT=py .seq/\e.L<=Ζ/\Ĺ a e.aU
def am3:YX ut|.none=>f4 .Ť|.c0 a=>OA .bl|LZ _=>f4 LZ|.str c _=>f4$ .str c|.bytes a _=>OA .N9|.float a _=>OA .flt|BK=>f4 BK|.au e=>PV .ty|_=>none
def Ŗ.abs(a:Ix Ŗ):am3 x=f4 H:=by cases H with
|Ť=>cases a;rfl
|bl _=>cases a;rfl
|int _=>let⟨b,I⟩:=a;rfl
|str _=>let⟨b,I⟩:=a;rfl
|N9 _=>let⟨b,I⟩:=a;rfl
|flt _=>let⟨b,I⟩:=a;rfl
|ref _=>cases a;rfl
|ty _=>cases a;rfl
def Ŗ.inj{a:V}(b:Ix Ŗ)(c:Ŗ a x):H=a:=Ü$ b.abs.symm.trans c.abs
def Ĺ.inj:∀{a b:g3}{c:wr},mt Ĺ->lf Ĺ->NJ|_,_,_,.nil,.nil=>I|_,_,_,s3 .cons,on .cons=>by rw[d.inj f,GZ Ĺ.inj]
section
variable {xs:g3}
def bI.of{K:Γ}(a:EV=BG xs):zn BN xs:=.D$ .D a
variable{o:St}{a:Cx}
def ú.list(g:OW)(f:zn (EL bI) xs):∃h:wr,Ĺ xs h/\PlainL c.v e h.ac/\xs.length<=Ζ:=by rcases f with f|⟨i,h,j,k,l,m,n,p,q⟩;let⟨z,h,j,q,r⟩:=f.ok g.aI;calc⟨h,q,⟨_,j,r,I,I,I⟩,z⟩;calc⟨h.aU,q,⟨i,j,IO g.yu k,l,m,abk⟩,?_⟩;have r:=q.length;simp only[eE]at r;lia
def ú.tuple(g:OW)(f:zn (EL Lg) xs):∃h:wr,Ĺ xs h/\IsTup c.v e h.ac/\xs.length<=Ζ:=by rcases f with f|⟨i,h,j,k,l,m,n,p⟩;let⟨z,h,p,q⟩:=f.ok g.aI;calc⟨h,p,q,z⟩;calc⟨h.aU,p,⟨i,IO g.yu k,l,j,aeG⟩,?_⟩;have r:=p.length;simp only[eE]at r;lia
def ú.rA(g:OW)(h:zn (EL bI) xs)(f:zn (EL bI) z):xs=z:=by
 let⟨i,j,⟨k,l,m,_,_,n⟩,_⟩:=g.list h;let⟨p,q,⟨r,s,t,_,_,u⟩,_⟩:=g.list f;rw[m]at t;cases t;rw[n]at u;injection u with d1 _;have:i=p:=by simpa using LM FS.aU d1
 subst this;calc j.inj q
end
abbrev Cx.yM(X:Cx)(a:ET):Cx:={X with xe:=a}
abbrev Cx.nox(X:Cx):Cx:=X.yM ap9
def Cx.Ok.yM{X:Cx}(ok:X.Ok)(a:ET):(X.yM a).Ok:=⟨ok.mod,ok.kind,ok.ru,ok.uP,ok.above,ok.inj,ok.has,ok.cab,ok.hd,ok.frames,ok.stk,ok.exf,ok.bs,ok.Ux,ok.Wr,ok.Ws,ok.rv,ok.frf⟩
def Cx.Ok.oe{X:Cx}(ok:(X.yM v).Ok):X.Ok:=⟨ok.mod,ok.kind,ok.ru,ok.uP,ok.above,ok.inj,ok.has,ok.cab,ok.hd,ok.frames,ok.stk,ok.exf,ok.bs,ok.Ux,ok.Wr,ok.Ws,ok.rv,ok.frf⟩
section
variable {E:ET}
variable{o:St}{a:Cx}
def ú.yM(e:OW)(f:ET):lf$ ú (a.yM f) d o:=⟨e.ok.yM f,e.os,e.jd,e.base,e.B5,e.cell,e.free,e.ju,e.N_,e.aI,e.len⟩
def ú.oe(e:lf (ú (a.yM E) d o)):OW:=⟨e.ok.oe,e.os,e.jd,e.base,e.B5,e.cell,e.free,e.ju,e.N_,e.aI,e.len⟩
def SP.oe{f:ee}{e:Flow}(b:CF (DS (SP (a.yM E)))):CF$ wE SP f:=by cases e with
|next=>let⟨g,h,i,j⟩:=b;calc⟨g,h,i.oe,j⟩
|UF=>let⟨g,h,i,j⟩:=b;calc⟨g,h,i.oe,j⟩
|UD=>let⟨g,h,i,j⟩:=b;calc⟨g,h,i.oe,j⟩
|UE k=>let⟨v,g,h,i,l,j⟩:=b;calc⟨v,g,h,i.oe,l,j⟩
def Ld.nox{st:AX eD}{b:TS}(c:Ld a.nox st b):Ld a st b:=λd e f g h i j=>bJ (EU (s3 c) (i.yM _) j) (λ_ _ k=>k.oe) λ_ _ z=>š z
end
section
variable {st:eD}{b4:AX eD}{t u:TS}
def ad2:TS:=λa b c=>lf a.nx
def afc(a b:TS):TS:=λc d e=>s3$ a {c with nx:=Db}
variable{a:Cx}
def Õ:Ld a [] ad2:=λ_ _ b c _ d e=>qL ⟨b,c,d,e⟩
def η(b:VU st t)(c:Ld a b4 u):Ld a (st::b4)$ EB afc:=by intro d e f g h i j;calc ahE$ ay (up (on (s3 b) _)) λk l m=>?_;cases k with
|next=>let⟨n,o,p,m⟩:=m;calc BQ (HU l) h p m
|UE v=>calc m
|UF=>calc m
|UD=>calc m
def μ(b:VU st t):Ld a [st] t:=by intro c d e f g h i;calc ahE$ ay (t3 (on (s3 Db))) λj k l=>?_;cases j with
|next=>calc qL l
|UE v=>calc l
|UF=>calc l
|UD=>calc l
variable{o:St}
def ú.quiet(e:OW):pr$ AN interactive:=by simp[interactive,e.ok.kind]
def ad3(a:TE):TS:=λb c d=>re a λ_ e=>AH b.nx
variable{m:TE}
def Ł(b:RB)(c:asJ (ij f none h.line):=by rfl):VU (GP .Expr)$ ad3 m:=by intro d e g i j k l;calc wpAny_Expr_any (ay (AI (DL (s3 b) _)) (λ v n⟨o,p,q,r,s⟩=>⟨g,p,q,s⟩)) k.quiet c
def afd(a:TE):TS:=λb c d=>re a b.rt
def Ξ(b:RB):VU (.Return MO h)$ afd m:=by intro c d e g i j k;calc wpAny_Return_some$ ay (AS (s3 Db g _)) (λ v l⟨n,o,p,q,r⟩=>⟨n,e,o,p,q,r⟩)
def Wu(a:TT)(b c:TS):TS:=λd e f=>py a λg h=>if g=Z then s3 b h else s3 c h
def ď{g i:AX eD}{b:TT}(c:AR PT b)(d:Ld a g t)(e:IP Ld u):VU (on .If i h)$ EB$ Wu b:=by intro j k l m n o p;calc wpAny_If$ ay (BF (TW c m _)) (λ q r⟨s,v,x⟩=>?_);cases q with
|Z=>calc GY$ d j r l s n
|gl=>calc GY$ e j r l s n
def afe:TS:=λ_ _ _=>DN
def Ga:VU st afe:=λ_ _ _ _ _ _ b=>b.elim
end
abbrev TG:=V->St->VT v6
abbrev Uy:=g3->St->VT v6
def PG(X:Cx)(a:Expr)(b:TG):Prop:=∀(c:BO)(d:lm)(e:St)(f:Hp)(v:V)(g:ge)(h:v6),VC (Ŗ v g->py (b v) h->OO (QX (FA (aeM a) g) (λ_ i=>∃j k,AS (FJ c) i/\AS h)) d)
def PGs(X:Cx)(a:GL)(b:Uy):Prop:=∀(c:BO)(d:lm)(e:St)(f:Hp)(g:g3)(h:wr)(i:v6),VC (ww Ĺ->py MM i->OO (QX (assignInOrder ((FA$ eP a).q (·.2)) h) (λ_ j=>∃k l,AI (FJ c) j/\AI i)) d)
abbrev tM:=V->V->V->VT DV
def aff(X:Cx)(a:tM):Prop:=∀(b:BO)(c:lm)(d:St)(e:Hp)(f g v:V)(h i j:ge)(k:DV),aqd (GP Ŗ->DL Ŗ->Ŗ v j->on a v e k->OO (QX (up (Va h)) (λ_ l=>∃m,v4 FJ m l/\k m)) c)
abbrev Gb:=LA
def PIp(X:Cx)(a:px)(b:Gb):Prop:=∀(c:BO)(d:lm)(e:St)(f:Hp)(g h:V)(v i:ge)(j:VK),VC (Ŗ g v->t3 Ŗ->ww b f j->OO (QX (ik a v i) (YF j)) d)
def fG(a:M):TG:=λv b c d=>PF$ b.set a DE
variable{a:Cx}
def Ψ(f:M)(b:a.N.ar)(c:a.N[f]? =RW:=by rfl)(d:ar3:=by first|exact yq I|calc uy I)(e:asg:=by first|exact GQ|exact Ps|assumption):PG a (.bv i h)$ fG f:=by intro g j k l v m n o p q;calc agV$ lf (xj o) d p (λr s=>⟨_,l,s,q⟩) e
def afg:Uy:=λa b c d=>a=[]/\lf d
def Wv(a:TG)(b:Uy):Uy:=λc d e f=>∃v g,c=v::g/\s3 (a v) (λh i=>t3 MM f)
def aJ:PGs a [] afg:=by intro b c d e f g h i j k;let⟨l,k⟩:=k;subst l;calc assignInOrder_nil ⟨d,e,i,k⟩
def č{e:TG}{g:Uy}(b:AR PG e)(c:PGs a G g)(d:(AN$ eP Tk).q (·.2)=AN (aeM f)::(AN$ eP G).q (·.2):=by rfl):PGs a Tk$ GZ Wv:=by intro h i j k l m n o p q;let⟨v,r,s,q⟩:=q;subst s;cases p with
|cons p t=>rw[d];calc assignInOrder_cons$ ay (SL (AY (KB (b h)))) (λ _ u⟨x,y,z,A⟩=>?_);calc ga (DZ (c h u)) n z t A
def abS(K:Γ)(a:M)(b:Uy):TG:=λv c d e=>∃f g,v=EH/\QJ (Lg K)/\g.length=a/\s3 (MM c)
def afh{f:M}{e:Uy}(c:NT)(g:PGs a G e)(d:(AN$ eP G).length=n:=by rfl)(b:hm ((AN$ eP G).cy (·.1)):=by rfl):PG a (GP (.cw G))$ EL abS n e:=by intro i j k l v m o p q r;let⟨s,t,u,x,y,r⟩:=r;subst u;cases q;let⟨z,A,B,D⟩:=p.tuple x;calc assign_Tuple_tuple (p.ok.hd c) B (by simp[d,<-y,A.length]) b λH J=>?_;have L:=p.fT (t':=j.aG) λN O m=>J N O (ģ (Ó m)) m;calc AI (g i _) t _ o L (by simpa using A) r
def ah3(a b:TE)(c:tM):TG:=λv d e f=>s3 a λg h=>Fk h λi j=>DL c v j λk=>f d k
variable{m L:TE}
def og{g:tM}(b:RB)(c:EC y L)(d:aff a g)(e:∀v,AN (aeM (.bq f y h)) v=(do let i<-fW [v] RE;let j<-fW [v,i] apx;mY h;fW [v,i,j] (up Va v);release [v,i,j] []):=by intro _;rfl):PG a (.bq f y h)$ ah3 m L g:=by intro k l n o v p q r s t;rw[e];calc Ε$ fO$ ay (BQ (AI b) _ r t) (λ i u⟨x,z,A,B,D⟩=>?_);calc Ε$ fO$ ay (c k u n z _ A D) (λ j G⟨H,J,N,O,q⟩=>?_);calc Ε$ Q5$ Ε$ fO$ ay (up (FW (d k G n J) v) p _ N B O s q) (λ _ l⟨o,r,t⟩=>?_);calc wpAny_release ⟨n,o,r,t⟩
def abT(a:TE)(b:TG):TS:=λc d e=>s3 a λf g=>DR (b f) c.nx
def oh{i:TG}(b:VB)(c:AR PG i)(d:asJ (swapsWithSole [f] y h.line):=by rfl)(e:AN (swappedStores [f] y)=DT none:=by rfl)(g:(AN$ eP [f]).q (·.2)=[AN$ aeM f]:=by rfl):VU (.dr [f] y h)$ abT m i:=by intro j k l n o p q;calc s3$ wpAny_Assign_stores$ ay (FH (TW b n _)) (λ v r⟨s,t,u,x,z⟩=>?_);rw[g];calc ay (c j r l t s v _ u x z) λ_ A B=>B
def À(k:M)(b:a.N.ar)(c:RB)(d:a.N[k]? =RW:=by rfl)(e:ar3:=by first|exact yq I|calc uy I)(g:asJ (ij f (f4 (.bv i D)) h.line):=by rfl)(j:asg:=by first|exact GQ|exact Ps|assumption):VU (GP (.dr [.bv i D]))$ abT m$ fG k:=by intro l n o p q r s;calc wpAny_Assign_Name (ay (HX (BF (c l n) _)) (λ v t⟨u,x,y,z,A⟩=>?_)) g;calc UK (xj y) z (λB G=>⟨_,x,G,A⟩) j
def Gd(c:M)(a:TE)(b:Gb):TS:=λd e f=>∃g,e[c]? =f4 HK/\py a (λh i=>t3 MM λz j=>d.nx (e.set c (f4 z)) j)
def bN(g:M){b:px}{d:Gb}(j:a.N.ar)(k:RB)(n:LP PIp)(e:a.N[g]? =RW:=by rfl)(c:ar3:=by first|exact yq I|calc uy I)(o:asg:=by first|exact GQ|exact Ps|assumption):VU (DA (.dd (.bv i D)) h)$ Gd g m d:=by
 intro p q r s t u x;let⟨v,y,x⟩:=x;let⟨A,B,G⟩:=u.B5;have H:Vis a.ó.aP i:=by rcases c with J|J;calc .D J;exact .X$ .D J
 let⟨L,N,l⟩:=DL G v e y H;calc wpAny_AugAssign_Name ?_;have go:WL RE (λw O=>WL (ik b L w) (λN A=>WL (AN ahD i N) (λ_=>SP a p t .next) a.xe A) a.xe O) a.xe q:=by calc ay (BW (k p) s _ u x) (λ w y⟨G,H,q,s,t⟩=>?_);calc ay (DQ (n p y r H v G L w _ q N)) (λ z x⟨O,A,p,r,L⟩=>?_);exact CF (xj p j) r (λN y=>⟨_,A,y,L⟩) o
 rcases l with⟨G,H⟩|⟨G,q,s,t⟩;calc abt u.ok.kind G B H go;rcases G with G|G;calc DQ (adH u.ok.kind G) go;rcases c with J|J;have:a.ó.aP.al.E i=UB:=G;rw[J]at this;cases this;have:a.ó.aP.al.E i=UB:=G;rw[J]at this;cases this
def ad4(d e f:TE)(a:LA)(c:Gb)(b:tM):TS:=λg h i=>t3 d λj k=>e h k λl m=>AE (a j) λn o=>f h o λp q=>FH (c n) λz r=>b j l z r λs=>g.nx h s
def ah4(X:Cx)(a:LA):Prop:=∀(b:BO)(c:lm)(d:St)(e:Hp)(f g:V)(h i:ge)(j:VK),aqd (GP Ŗ->DL Ŗ->on a e j->OO (QX (t3 yC) (v4 (EP X) j)) c)
def B9{q:Expr}{e:TE}{b:LA}{d:Gb}{c:tM}{g:px}(i:VB)(j:AR PE L)(k:io ah4)(l:EC q e)(n:PIp a g d)(o:mt aff)(p:∀r s t,DQ (augStore f r)=(do fW [t,r,s] (DQ (Va r));release [t,r,s] [];DT .next):=by intros;rfl):VU (.dd (.bq y f D) g q h)$ v4 (ad4 m L e) c:=by intro u x z A B G H;calc Ew (ay (i u x z A _ G H) (λ r J⟨N,O,B,x,A⟩=>?_)) p;calc ay (j u J z O _ B A) (λ s G⟨H,J,O,B,A⟩=>?_);calc ay (HX (k u G z J N H) _ O x B A) (λ G J⟨O,A,a0,b0,c0⟩=>?_);calc ay (l u J z A _ a0 c0) (λ v J⟨A,d0,f0,g0,h0⟩=>?_);calc ay (n u J z d0 O A G v _ f0 b0 g0 h0) (λ t G⟨O,J,A,i0,j0⟩=>?_);calc ay (DQ (o u G z J N H O r) _ A x B i0 j0) (λ _ r⟨s,t,u⟩=>⟨z,s,t,u⟩)
def Ww(b:TT)(a:TS):TS:=λc d e=>∃W:MJ,(∃f,s3 (W f))/\ ∀f d e,s3 (W f)->s3 b (λg h=>if g=Z then∃i:v6,(∀j k,AS i->∃l,l<f/\AS (W l))/\a {c with nx:=i,ct:=i,bk:=c.nx} d h else c.nx d h)
def cL{b:AX eD}{c:TT}{d:TS}(g:AR PT c)(i:LP Ld)(e:AN (PassesOwn (PY þ) a.A) a.xe:=by calc Ni):VU (.While f b [] h)$ re Ww:=by intro j k l m n o p;let⟨W,⟨q,r⟩,s⟩:=p;calc wpAny_While$ codeAny_whileLoop (λt u=>∃x y,DZ (ú a j) u/\DZ (W t)) ?_ q ⟨l,m,o,r⟩;rintro t z ⟨A,B,D,G⟩;calc d9 e$ ay (HP (g j z) _ D (HP (s t) G)) (λ H J⟨L,N,O⟩=>?_);cases H with
|Z=>let⟨k,n,O⟩:=O;calc d9 e$ ay (i j J A L _ N O) λp l m=>?_;cases p with
 |next=>let⟨o,q,r,u⟩:=m;let⟨x,y,s⟩:=n o q u;calc⟨x,y,o,q,r,s⟩
 |UD=>let⟨o,q,r,u⟩:=m;let⟨x,y,s⟩:=n o q u;calc⟨x,y,o,q,r,s⟩
 |UF=>calc m
 |UE v=>calc m
|gl=>calc qL ⟨A,L,N,O⟩
structure It where
 go:JK M
 En:M->Hp->JK V
 mT:JK M
def vL(X:Cx)(a:BO)(c:Hp)(b:β):Prop:=hm (c b)/\b≠X.ó.aN/\b∉X.fs/\(b∈X.ex\/X.l8.v.R.L<=b)/\(∀d e,X.ó.cells.E d=HH->e≠b)/\ ∀f∈X.pn++a,f.1≠b
variable{o:St}
def ú.Se{X:Cx}{h:Hp}(f:FJ d o h c)(a:c.v.R.L<=e)(g:hm EV):zn$ vL X d:=by calc⟨g,m9$ Ä f.lt a,f.am1 a,.X$ É f.sz a,λi j k z=>?_,λl m z=>?_⟩;let⟨v,n⟩:=KB f.cell;calc RI$ Ä n.lt (by rw[z];calc a);calc RI$ Ä (Ó (AE f.N_).1) (by rw[z];calc a)
structure yN(P:Ĵ)(w:Ŏ)(K:Γ)(f:Expr)(g:It)(b:s5)(c:β)(a:M->Ch ř):Prop where
 mem:c∈b
 obj:∀i j,up a->∀k∈b,∃l,j.ad k=XS/\∀v,l.bT≠.cell v
 keep:∀i j m,up a->(∀k∈b,∀l,j.ad k=XS->m.ad k=XS)->a i m
 item:∀(X:Cx),X.prog=P->X.w=w->X.K=K->X.gM=Z->∀(i:M)(dY:BO)(s:lm)(d:St)(H:Hp)(e:ET),FJ dY d H s->(∀k∈b,vL X dY H k)->a i s.v->g.go i H->û (IA þ) X.A (aeN CO) (λn o=>∃p,n=f4 p/\û (IA þ) X.A (Ex f CO p) (λ_ q=>∃r t,FJ dY d t q/\Ŗ r p/\g.En i H r t/\a (i+1) q.v/\∀k∈b,hm (t k)) e o) e s
 done:∀(X:Cx),X.prog=P->X.w=w->X.K=K->X.gM=Z->∀(i:M)(dY:BO)(s:lm)(d:St)(H:Hp)(e:ET),FJ dY d H s->(∀k∈b,vL X dY H k)->a i s.v->g.mT i H->û (IA þ) X.A (aeN CO) (λn o=>hm n/\FJ dY d H o) e s
 B_:∀(A:ff)(i:M)(s:lm)(h:ET)(e:ET),a i s.v->h CO s->û (IA þ) A (Kf CO) h e s
abbrev TI:=St->VT (JK It)
def PIE(X:Cx)(a:BO)(d:St)(e:Expr)(R:JK It)(b:ge)(c:lm):Prop:=∃(f:β) (g:s5) (h:M->Ch ř) (i:It) (j:Hp),b=EH/\MB (wE FJ)/\GP (IO (akS yN X.K) g)/\h 0 c.v/\(∀k∈g,AS (vL X a))/\up R
def PI(X:Cx)(b a:Expr)(c:TI):Prop:=∀(d:BO)(e:lm)(f:St)(g:Hp)(R:JK It),QJ FJ e->on c R->OO (QX (FA (rw a)) (λv h=>OO (QX (Kf v) (DS (PIE X) b R)) h)) e
def Ge{k:agT}{s:lm}{c:pi}{n:HC}{b:YJ}{d:Unit->ZE}(g:s.v.ad e=HE)(h:c.cls=.au n)(i:c.bT=.bP b)(j:pr (["enumerate","zip","dict_itemiterator","dict_reverseitemiterator","odict_iterator","itertools.zip_longest","itertools.pairwise"].an n))(a:d () s):û k p (Ex f EN x) d v s:=by cases f<;>first
 |calc Ì a
 |(cases x<;>first|exact Ì a|(calc DY$ wpAny_load g;rw[h,i];show û k p (if(["enumerate","zip","dict_itemiterator","dict_reverseitemiterator","odict_iterator","itertools.zip_longest","itertools.pairwise"].an n&&b[0]? ==UB)=Z then _ else _) d v s;rw[DP (by intro l;rw[j,bT]at l;cases l)];calc Ì a))
def Ob(K:Γ)(a:β):It:=⟨λb c=>∃d e,wE (BN c)/\d[b]? =HH,λb c e f=>f=c/\∀d,wE (BN c)->d[b]? =HH,λb c=>∃d,wE (BN c)/\d.length<=b⟩
def Gf(lo:U)(a:M):It:=⟨λb _=>b<a,λb c d e=>e=c/\d=AB (lo+b),λb _=>a<=b⟩
def Sg{P:Ĵ}{w:Ŏ}{K:Γ}(b a:β):IA yN K f (Ob K b) [a] a λc d=>EE d.cG where
 mem:=mo
 obj:=λc d st e g=>by
  have h:e=a:=SX
  subst h;let⟨i,h,j,k⟩:=st;exact⟨i,h,λv z=>by rw[k]at z;cases z⟩
 keep:=λc d l st m=>st.at λi h=>JW m i h;item:=by intro X n o p q c r t u y A B D st G;subst n o p;let⟨H,J,L,N⟩:=G;let⟨O,m,a0,b0⟩:=B.list L;let⟨c0,d0,f0⟩:=m.get N;let⟨g0,h0,i0,j0,k0,l0⟩:=JW D;calc wpAny_pyNext_list_item st a0.aF (x:=c0) (by simpa using d0) λl m0 n0=>?_;have o0:FJ r u y {t with AL:=l}:=B.eX (t':=t.aG) (λe i g h=>(GZ n0.2).trans h) g0 h0 j0 k0 l0;let⟨i,h,j,k⟩:=id m0;exact⟨c0,I,CD (AS (Ge (s:={t with AL:=l}) h)) ⟨J,y,o0,f0,ln λj k=>by rw[B.rA k L];calc N,m0,λe g=>(GZ D).1⟩⟩
 done:=by intro X n o p q c r t u y A B D st G;subst n o p;let⟨H,L,N⟩:=G;let⟨O,m,a0,b0⟩:=B.list L;let⟨g0,h0,i0,j0,k0,l0⟩:=JW D;have J:=m.length;exact wpAny_pyNext_list_end (B.ok.hd q) st a0.aF (by simp;lia) λl j=>ln$ B.eX (t':=t.aG) (λe i g h=>ww$ IO j) g0 h0 j0 k0 l0
 B_:=λ_ _ _ _ _ st d=>wpAny_pyIter_listiter st d
def Lh{P:Ĵ}{w:Ŏ}{K:Γ}(a:β)(lo:U)(b:M):IA yN K f (Gf lo b) [a] a λc d=>EK IsRangeIter (lo+(c:M)*1) (GI-(c:M)) 1 where
 mem:=mo
 obj:=λc d st e g=>by
  have h:e=a:=SX
  subst h;exact⟨_,st,λv z=>by cases z'⟩
 keep:=λc d i st j=>JW j _ st;item:=by intro X k l m o c p q r t u x y st A;subst k l m;let⟨B,D,G,H,J,L⟩:=JW y;have W:=Walks.range (prog:=X.prog) (w:=X.w) (x.ok.hd o) a lo 1 b;calc ga (W.item c q) A st λv i N O j kk=>?_;let⟨a0,I⟩:=O;have O:FJ p r t {q with AL:=i,DO:=N}:=x.eX (λe b0 g h=>kk e b0 SX h) B D H J L;calc⟨_,I,CD (JS (Ge (s:={q with AL:=i,DO:=N}) (n:="range_iterator") j)) ⟨AB (lo+c),t,O,wn a0,ln I,j,λe g=>(GZ y).1⟩⟩;rw[U.e1]
 done:=by intro X k l m o c p q r t u x y st A;let⟨B,D,G,H,J,L⟩:=JW y;exact wpAny_pyNext_range_end (x.ok.hd o) st (by have:b<=c:=A;lia) λi c=>ln$ x.eX (t':=q.aG) (λe b0 g h=>ww$ c e b0) B D H J L
 B_:=λ_ _ _ _ _ st d=>wpAny_pyIter_rangeiter st d
def zw(K:Γ)(a:TE):TI:=aeE (∃f,d=EH/\(∃g,on (BN e))/\R (Ob K f) e)
def Ca{l:Expr}(b:AE EC):AR PI l$ EL zw m:=by
 intro c d e g R h i;calc ay (t3 (s3 Db g _)) (λ v j⟨k,n,o,p,q⟩=>?_);let⟨r,s,⟨t,u⟩,x⟩:=q;subst s;cases p;let⟨y,z,A,B⟩:=o.list u;calc agW A.aF ?_;calc⟨j.v.R.L,_,_,_,n,I,o.fT λD G s=>GO s,Sg r _,⟨_,KJ,I,I⟩,λD H=>?_,x⟩;have s:D=j.v.R.L:=by simpa using H
 subst s;calc o.Se AK$ o.aI.fresh AK
def Gg{R:JK It}{m:ET}{lo e:U}{g h v:SV}(p:OW)(i:-KD<=lo)(j:lo<KD)(k:-KD<=e)(l:e<KD)(q:R (Gf lo (e-lo).aj) b):WL (Kf (wp c.v.R.L)) (wE PIE o f R) m {c with AL:=c.v.push {BY:=air,BX:=.bP #[AB lo g,FG .int,AB 1 v]},DO:=n}:=by
 calc wpAny_pyIter_range (Ey ..) (KN small_one) ?_;have r:wE ú o b {c with AL:=c.v.push {BY:=air,BX:=.bP #[AB lo g,FG .int,AB 1 v]},DO:=n}:=p.fT λs t u=>GO u;calc⟨(c.v.push _).objs.size,_,_,_,b,I,r.fT λs t u=>GO u,Lh _ lo _,?_,λs x=>?_,q⟩;have y:lo+(0:M)*1=lo:=mo
 have z:(e-lo).aj-(0:M)=Ę lo e 1:=by rw[Q6];split<;>lia
 show EY IsRangeIter 1;rw[y,z];calc KJ;have u:s=(c.v.push {BY:=air,BX:=.bP #[AB lo g,FG .int,AB 1 v]}).objs.size:=arG
 subst u;calc r.Se AK$ r.aI.fresh AK
def zx(a:TA):TI:=aeE (∃f:U,d=[QA]/\ -KD<=f/\f<KD/\R (Gf 0 f.aj) e)
def Wx(a:TA):TI:=aeE (∃f g:U,d=[QA,VF]/\(-KD<=f/\f<KD/\-KD<=g/\g<KD)/\R (Gf f (g-f).aj) e)
variable{N:TA}
def a8(b:Gl a "range")(c:hm (a.mg "range"))(d:XU [y] N)(e:NY [y]=[(gl,apx)]:=by rfl):AR PI (GJ (.bv "range" D) [y] [] h)$ zx N:=by intro g i j k R l m;calc Call_$ lf (qs l) boot_range$ ż (ay (AE (KB (d h g) _)) (λ n o⟨p,q,r,s,t⟩=>?_)) e I;let⟨u,v,t,x,z⟩:=t;subst v;cases s with
|cons A B=>cases B;let⟨G,I⟩:=A;calc call_range_1$ Op (Gg r) t x RM
def Si{c:Expr}(d:Gl a "range")(e:hm (a.mg "range"))(g:XU [c,y] N)(i:NY [c,y]=[(gl,AN$ rw c),(gl,apx)]:=by rfl)(b:NY [y]=[(gl,apx)]:=by rfl):AR PI (GJ (.bv "range" D) [c,y] [] h)$ Wx N:=by intro j k l m R n o;calc Call_$ s3 (qs n) boot_range$ ż (ay (BQ (AI (GH g) m _)) (λ p q⟨r,s,t,u,v⟩=>?_)) (by rw[i,b]) (by rw[b];rfl);let⟨x,z,A,⟨v,B,G,H⟩,J⟩:=v;subst A;cases u with
|cons L O=>cases O with
 |cons j O=>cases O;let⟨k,I⟩:=L;let⟨l,I⟩:=j;calc arM$ Gg t v B G H J
def Sj(a:TI)(c:TG)(b:TS):TS:=λd e f=>py a λg h=>∃W:M->MJ,(∃i,FG (W 0 i))/\ ∀j i e f,py (W j i)->(g.mT j f/\py d.nx)\/(g.go j f/\∃k:v6,(∀l m,AE k->∃n,n<i/\AE (W (j+1) n))/\ ∀o m,g.En j f o m->c o e m (λp q=>FH$ b {d with nx:=k,ct:=k,bk:=d.nx}))
def Cb(a:s5)(b:ř):BO:=a.filterMap λc=>(b.ad c).q λd=>(c,d)
def qt{a:s5}{c:pi}(b:EG a)(d:j.ad e=HE):(e,c)∈Cb a j:=Up.Q ⟨e,b,by rw[d];rfl⟩
def Sk{a:s5}{b:β×pi}(c:b∈Cb a j):EM∈a/\j.ad EM=f4 b.2:=by let⟨d,e,f⟩:=Up.J c;cases g:j.ad d with
|none=>rw[g]at f;cases f
|some h=>rw[g]at f;have i:=Ü f;subst i;calc⟨e,g⟩
def ú.Wy{e:s5}(h:OW)(f:∀i∈e,LR (wE vL))(g:∀i∈e,∃j,c.v.ad i=ak6/\∀v,j.bT≠.cell v):lf$ ú a (d++Cb e c.v) o:=h.Oa λk l=>(Ι.J l).elim (λz=>h.N_ k$ DG ũ) λz=>by let⟨m,n⟩:=Sk z;let⟨p,q,r,_⟩:=f k.1 m;let⟨j,s,t⟩:=g k.1 m;rw[n]at s;cases s;calc⟨n,p,q,r,t⟩
def ú.rB{dY:BO}(e:lf (ú a (dY++d) o)):lf$ ú a dY o:=e.Oa λf g=>e.N_ f$ ũ _$ hv _ g
def Ī{c:AX eD}{e:TI}{m:TG}{g:TS}(j:AR PI y e)(k:AR PG m)(b:mt Ld g)(d:AN (PassesOwn (PY þ) a.A) a.xe:=by calc Ni)(i:NT:=by rfl)(l:∀n,AN (foldedSetIterable y) n=DT n:=by intro _;rfl):VU (.For f y c [] h)$ Sj e m g:=by
 intro o p q r s t u;calc wpAny_For (ay (EB (BW (BF j) _)) (λv x z=>ay z λA B D=>?_)) l;let⟨G,H,J,L,N,O,s,p,r,t,W,⟨u,x⟩,z⟩:=D;subst O;have A:∀{B:Hp},(∀G∈H,hm (B G))-> ∀G∈H,vL a o B G:=λL G b=>⟨L G b,(t G b).2⟩;calc codeAny_forLoop_any (λD L=>∃a0 b0 B,ú a o b0 B L/\J a0 L.v/\(∀G∈H,hm (B G))/\W a0 D b0 B) ?_ u ⟨0,q,N,s,r,λG b=>(t G b).1,x⟩;rintro D q ⟨a0,N,s,r,t,u,x⟩;rcases z a0 D N s x with⟨L,z⟩|⟨go,x,c0,step⟩;calc d9 d$ ay (JS (p.done a) I i a0 o q N s a.xe r (A u) t L) (λ L d0⟨f0,g0⟩=>?_);subst f0;calc qL ⟨N,s,g0,z⟩;calc d9 d$ ay (JS (p.item a) I i a0 o q N s a.xe r (A u) t go) (λ L d0⟨q,f0,s⟩=>?_);subst f0;calc d9 d$ ay s (λ _ r⟨n,t,u,z,L,s,h0⟩=>?_);have i0:=u.Wy (A h0)$ ga p.obj s;calc d9 d$ ay (ON (k _ r) n q _ i0 z (step n t L)) (λ _ n⟨A,N,q,r⟩=>?_);calc d9 d$ ay (BW (b _ n A N _)) λt u z=>?_;have again:∀{L:St}{n:Hp},ú a _ L n u->x L n->∃A,(A<D/\∃a0 b0 B,ú a o b0 B u/\J a0 u.v/\(∀G∈H,hm (B G))/\W a0 A b0 B):=λ{L n} N q=>by let⟨r,x,o⟩:=c0 L n q;calc⟨r,x,_,L,n,N.rB,AY p.keep s λG b H O=>(N.N_ _$ ũ _$ ũ _$ qt b O).1,λG b=>?_,o⟩;let⟨H,O,J⟩:=ga p.obj s G b;exact lv$ N.N_ _$ ũ _$ ũ _$ qt b O
 cases t with
 |next=>let⟨L,n,N,q⟩:=z;calc again N q
 |UD=>let⟨L,n,N,q⟩:=z;calc again N q
 |UF=>let⟨L,n,N,z⟩:=z;calc⟨L,n,N.rB,z⟩
 |UE v=>let⟨B,L,n,N,D,z⟩:=z;calc⟨B,L,n,N.rB,D,z⟩
def ah6{K:Γ}{i:TG}{c:TS}{a:ee}(Pv:MJ)(d:Pv 0 o b)(f:∀j o b,j<=z.length->UQ Pv b->zn BN z)(g:∀j k o b,z[j]? =RY->UQ Pv b->i k o b (λl m=>AE$ c {a with nx:=Pv (j+1),ct:=Pv (j+1),bk:=a.nx}))(h:∀o b,Pv z.length o b->a.nx o b):∃W:M->MJ,(∃n,BQ (W 0) b)/\ ∀j n o b,BQ (W j) b->((Ob K e).mT j b/\a.nx o b)\/((Ob K e).go j b/\∃p:v6,(∀q r,BW p->∃s,s<n/\BW (W (j+1) s))/\ ∀k r,(Ob K e).En j b k r->i k o r (λl m=>AE$ c {a with nx:=p,ct:=p,bk:=a.nx})):=by
 calc⟨λj n o b=>n=z.length-j/\j<=z.length/\UQ Pv b,⟨z.length,mo,CY,d⟩,?_⟩;rintro j n o b ⟨I,t,u⟩;have v:=EB$ UQ f b;by_cases x:j<z.length;calc .X ⟨⟨z,z[j],v,by simp[]⟩,_,λq r y=>⟨_,gt,I,x,y⟩,λk r A=>?_⟩;let⟨B,A⟩:=A;subst B;calc AS g o _ (A z v) u;have B:j=z.length:=gt
 subst B;calc .D ⟨⟨z,v,AK⟩,h o b u⟩
def aha{lo:U}{g:TG}{c:TS}{a:ee}(Pv:MJ)(d:Pv 0 o b)(e:∀h o b,h<n->Pv h o b->g (AB (lo+h)) o b (λi j=>up$ c {a with nx:=Pv (h+1),ct:=Pv (h+1),bk:=a.nx}))(f:∀o b,BQ Pv b->a.nx o b):∃W:M->MJ,(∃k,W 0 k o b)/\ ∀h k o b,W h k o b->((Gf lo n).mT h b/\a.nx o b)\/((Gf lo n).go h b/\∃l:v6,(∀m p,l m p->∃q,q<k/\W (h+1) q m p)/\ ∀r p,(Gf lo n).En h b r p->BF (g r) (λi j=>up$ c {a with nx:=l,ct:=l,bk:=a.nx})):=by
 calc⟨λh k o b=>k=n-h/\h<=n/\Pv h o b,⟨n,mo,CY,d⟩,?_⟩;rintro h k o b ⟨I,s,t⟩;by_cases u:h<n;calc .X ⟨u,_,λm p v=>⟨_,gt,I,u,v⟩,λr p x=>?_⟩;let⟨y,x⟩:=x;subst y x;calc e h o _ u t;have y:h=n:=gt
 subst y;calc .D ⟨AK,f o b t⟩
abbrev R2:=LA
def kM(X:Cx)(a:YX asY)(b:R2):Prop:=∀(c:BO)(d:lm)(e:St)(f:Hp)(g h:V)(v i:ge)(j:VK),VC (Ŗ g v->t3 Ŗ->ww b f j->OO (QX (a v i) (YF j)) d)
def UnR(X:Cx)(a:asY)(b:V->VT VK):Prop:=∀(c:BO)(d:lm)(e:St)(f:Hp)(g:V)(v:ge)(h:VK),VC (Ŗ g v->GP MM->OO (QX (a v) (YF h)) d)
def a9(X:Cx)(a:ge)(b:RO):Prop:=∀(c:BO)(d:lm)(e:St)(f:Hp)(g:g3)(h:wr)(i:VK),VC (ww Ĺ->DF MM->OO (QX (FV call) (YF i)) d)
def ah7(X:Cx)(a:V->VT GM):Prop:=∀(b:BO)(c:lm)(d:St)(e:Hp)(f:V)(v:ge)(g:GM),aqd (Ŗ f v->GZ (a f)->OO (QX (amI v) (v4 (TP X) g)) c)
def tOp(c:R2)(a b:TE):TE:=λd e f=>s3 a λg h=>Fk h λi j=>up (c g) f
def tUn(b:V->VT VK)(a:TE):TE:=aeF$ on b e
def rI(C:U->Ch U)(a:U->U->V):R2:=λb c d e=>∃f g,b=QA/\c=VF/\on C/\e (on a) d
def Cc(a:U->U->V):R2|LZ,On,d,e=>e (lf a) d|_,_,_,_=>DN
def Oc{c:U->U->V}{d:V}{e:VK}(a:zn (Cc c H d)):∃f g,H=QA/\d=VF/\e (on c) b:=by unfold Cc at a;split at a;calc⟨_,_,I,I,a⟩;calc a.elim
def rU(a:U->V):V->VT VK|LZ,c,d=>PF JC|_,_,_=>DN
def afi{c:U->V}{d:VK}(a:v4 (rU c H)):∃e,H=SA/\d (c e) b:=by unfold rU at a;split at a;calc⟨_,I,a⟩;calc a.elim
def afj(e:VB)(g:AR PE L){R:V->JK V}(k:OW)(l:m o b (λn p=>BF L λq r=>BW$ R n)){i:ET}{j:YX asY}(h:∀v s t n q r,wE ú o r t->Ŗ n v->Ŗ q s->BW (R n)->WL (j v s) i a.xe t):WL apx (λv u=>WL RE (λs x=>WL (j v s) i a.xe x) a.xe u) a.xe c:=by calc ay (AI (DB e o b _)) (λ v z⟨n,p,A,B,D⟩=>?_);calc ay (BF (g d z) _ A D) (λ s t⟨q,r,G,H,J⟩=>?_);calc BW (DQ (h v) n) G B H J
def Í{b:px}{g:R2}(c:KQ (eQ b) g)(d:VB)(e:AR PE L):KH (DA (.BinOp y))$ tOp g m L:=by intro i j k l n o p;calc wpAny_BinOp$ BF (s3 afj) λv q r s t u x z A B=>HP$ DQ (c i r k u) v q n x z
def bD{b:UnaryOp}{e:V->VT VK}(c:UnR a (unaryOp b) e)(d:RB):KH (DA .UnaryOp)$ tUn e m:=by intro g i j k l n o;calc UnaryOp_$ ay (BQ (KB (d g) _)) (λ v p⟨q,r,s,t,u⟩=>PN$ c g p j r q v l)
def opI{g:YX asY}{C:U->Ch U}{h:U->U->U}(XN:∀(b c:U)(e i:SV)(d:lm)(f:ET)(j:ET),lf C->f (AB (lf h) d.aG) {d with DO:=d.aG+1}->WL (g (zn .int) (On i)) f j d):KQ g$ rI C λb c=>AB$ lf h:=by intro k d l m n o v i f p q r s;let⟨b,c,I,I,t,u⟩:=s;let⟨e,I⟩:=q;let⟨x,I⟩:=r;calc ga (lf XN e x d) t ⟨OQ,m,p.mS _,EJ,u⟩
def yO{g:YX asY}{h:U->U->U}(XN:∀(b c:U)(e i:SV)(d:lm)(f:ET)(j:ET),f (AB (lf h) d.aG) {d with DO:=d.aG+1}->WL (g (zn .int) (On i)) f j d):KQ g$ agc$ lf h:=by intro k d l m n o v i f p q r s;let⟨b,c,I,I,t⟩:=Oc s;let⟨e,I⟩:=q;let⟨u,I⟩:=r;calc ga (lf XN e u d) ⟨OQ,m,p.mS _,EJ,t⟩
def abU{g:YX asY}{h:U->U->nm}(XN:∀(b c:U)(e i:SV)(d:lm)(f:ET)(j:ET),f (.c0 (lf h)) d->WL (g (zn .int) (On i)) f j d):KQ g$ Cc λb c=>.bl$ lf h:=by intro k d l m n o v i f p q r s;let⟨b,c,I,I,t⟩:=Oc s;let⟨e,I⟩:=q;let⟨u,I⟩:=r;calc ga (lf XN e u d) ⟨.bl _,m,p,I,t⟩
def afk(b a:U):Prop:=0<a/\a<1073741824
def abV(b a:U):Prop:=0<=a/\PP a/\b.a4<2^64
def l9(a b:U):Prop:=(-(2^64)<a/\a<2^64)\/(-(2^64)<b/\b<2^64)
def l9.ok{a b:U}(c:io l9):io IntMulOk:=by rcases c with⟨d,e⟩|⟨d,e⟩;calc .of_left$ s3 apz;calc .of_right$ s3 apz
def xk(a:M):jp 0<=KP:=by calc U.natCast_nonneg _
def eY:KQ (eQ .Add)$ agc (b+c):=yO$ ak5 add_int
def dB:KQ (eQ .Sub)$ agc (b-c):=yO$ ak5 sub_int
def bz:KQ (eQ .Mult)$ rI l9 λb c=>AB (b*c):=opI λ_ _ _ _ _ _ _ d e=>mul_int e d.ok
def Cd:KQ (eQ .FloorDiv)$ rI afk λb c=>AB (b/c):=opI λb c _ _ _ _ _ d e=>by have f:=d.1;have g:=d.2;calc im floordiv_int (by rw[im$ U.cd b];calc e)$ .D$ im Ax
def oi:KQ (eQ .Mod)$ rI (λ_ b=>0<b) λc b=>AB (c%b):=opI λc b _ _ _ _ _ d e=>by calc im mod_int' (by rw[im$ U.fmod_eq_emod_of_nonneg c];calc e)
def ht:KQ (eQ .LShift)$ rI abV λb c=>AB (b*2^c.aj):=opI λ_ _ _ _ _ _ _ d e=>lshift_int_small d.1 (lv d) (wS d) e
def xl:KQ (eQ .RShift)$ rI (λ_ b=>0<=b) λc b=>AB (c/2^b.aj):=opI λc b _ _ _ _ _ d e=>rshift_int d (by rw[U.cd c$ xk _];calc e)
def Ĕ:KQ (eQ .BitAnd)$ agc$ lf ī:=yO$ ak5 and_int
def Wz:KQ (eQ .BitOr)$ agc$ lf jV:=yO$ ak5 or_int
def afl:KQ (eQ .BitXor)$ agc$ lf ng:=yO$ ak5 xor_int
def Od:KQ (ik .Add)$ agc (b+c):=yO$ ak5 iadd_int
def Oe:KQ (ik .Sub)$ agc (b-c):=yO$ ak5 isub_int
def abW:KQ (ik .RShift)$ rI (λ_ b=>0<=b) λc b=>AB (c/2^b.aj):=opI λc b _ _ _ _ _ d e=>irshift_int d (by rw[U.cd c$ xk _];calc e)
def l_:KQ (ik .BitAnd)$ agc$ lf ī:=yO$ ak5 iand_int
def cM:KQ (ik .BitOr)$ agc$ lf jV:=yO$ ak5 ior_int
def Ce:KQ (ik .BitXor)$ agc$ lf ng:=yO$ ak5 ixor_int
def unI{f:asY}{g:U->U}(XN:∀(b:U)(d:SV)(c:lm)(e:ET)(h:ET),e (AB (g b) c.aG) {c with DO:=c.aG+1}->FG (WL (f (v4 .int))) c):AR UnR$ rU λb=>AB$ g b:=by intro i c j k l v e m n o;let⟨b,I,p⟩:=afi o;let⟨d,I⟩:=n;calc ga (v4 XN c) ⟨OQ,k,m.mS _,EJ,p⟩
def iC:UnR a (unaryOp .USub)$ rU λb=>AB (-b):=unI λ_ _ _ _ _ c=>neg_int c
def cm:UnR a (unaryOp .Invert)$ rU λb=>AB$ dS b:=unI λ_ _ _ _ _ c=>invert_int c
def ah9:V->V->nm|.Ť,.Ť=>Z|.Ť,OQ=>Z|OQ,.Ť=>Z|.Ť,.bl _=>Z|.bl _,.Ť=>Z|.Ť,Rs=>Z|Rs,.Ť=>Z|OQ,OQ=>Z|.bl _,.bl _=>Z|Rs,Rs=>Z|.N9 _,.N9 _=>Z|OQ,Rs=>Z|Rs,OQ=>Z|.bl _,Rs=>Z|Rs,.bl _=>Z|_,_=>gl
def rEq:R2:=λa b c d=>io ah9=Z/\PF (VH NJ)
def rNe:R2:=λa b c d=>io ah9=Z/\PF (.bl (! sB NJ))
def Of{a b:U}:sB (V.int a=V.int b)=(a==b):=by rw[ß];simp
def W3{a b:nm}:sB (V.bl a=V.bl b)=(a==b):=by rw[ß];simp
def Og{a:ï}:sB (V.str i=V.str a)=(i==a):=by rw[ß];simp
def Oh{a b:FS UInt8}:sB (V.N9 a=V.N9 b)=(a.aU==b.aU):=by rw[ß];cases a;cases b;simp
section
variable {b:Expr}{tc:TE}
def Ż{e:Hp}{g:VK}{f b:nm}(h:CF (wE ú o))(i:g (.bl f) e)(j:f=b):wE EP o g (.c0 b) c:=by subst j;calc⟨.bl f,e,h,I,i⟩
def bO:KQ (Ź .Eq) rEq:=by intro b c d e f g v h i j k l m;let⟨n,o⟩:=m;cases f with
|Ť=>cases k;cases g with
 |Ť=>cases l;calc akb VW
 |bl p=>cases l;calc akc VW
 |int p=>let⟨q,I⟩:=l;calc akd VW
 |str p=>let⟨q,I⟩:=l;calc ake VW
 |_=>calc NX (show NS from n)
|bl r=>cases k;cases g with
 |Ť=>cases l;calc akf VW
 |bl p=>cases l;calc eq_bool$ UQ Ż W3
 |str p=>let⟨q,I⟩:=l;calc ahF VW
 |_=>calc NX (show NS from n)
|int r=>let⟨s,I⟩:=k;cases g with
 |Ť=>cases l;calc akg VW
 |int p=>let⟨q,I⟩:=l;calc eq_int$ UQ Ż Of
 |str p=>let⟨q,I⟩:=l;calc ahG VW
 |_=>calc NX (show NS from n)
|str r=>let⟨s,I⟩:=k;cases g with
 |Ť=>cases l;calc akh VW
 |bl p=>cases l;calc ahH VW
 |int p=>let⟨q,I⟩:=l;calc ahI VW
 |str p=>let⟨q,I⟩:=l;calc eq_str$ UQ Ż Og
 |_=>calc NX (show NS from n)
|N9 r=>let⟨s,I⟩:=k;cases g with
 |N9 p=>let⟨q,I⟩:=l;calc PySem.W.eq_bytes$ UQ Ż Oh
 |_=>calc NX (show NS from n)
|_=>cases g<;>calc kt _ à
def cY:KQ (Ź .NotEq) rNe:=by intro b c d e f g v h i j k l m;let⟨n,o⟩:=m;cases f with
|Ť=>cases k;cases g with
 |Ť=>cases l;calc aki VW
 |bl p=>cases l;calc akj VW
 |int p=>let⟨q,I⟩:=l;calc akk VW
 |str p=>let⟨q,I⟩:=l;calc akl VW
 |_=>calc NX (show NS from n)
|bl r=>cases k;cases g with
 |Ť=>cases l;calc akm VW
 |bl p=>cases l;calc ne_bool$ UQ Ż$ LM not W3
 |str p=>let⟨q,I⟩:=l;calc ahJ VW
 |_=>calc NX (show NS from n)
|int r=>let⟨s,I⟩:=k;cases g with
 |Ť=>cases l;calc akn VW
 |int p=>let⟨q,I⟩:=l;calc ne_int$ UQ Ż$ LM not Of
 |str p=>let⟨q,I⟩:=l;calc ahK VW
 |_=>calc NX (show NS from n)
|str r=>let⟨s,I⟩:=k;cases g with
 |Ť=>cases l;calc ako VW
 |bl p=>cases l;calc ahL VW
 |int p=>let⟨q,I⟩:=l;calc ahM VW
 |str p=>let⟨q,I⟩:=l;calc ne_str$ UQ Ż$ LM not Og
 |_=>calc NX (show NS from n)
|N9 r=>let⟨s,I⟩:=k;cases g with
 |N9 p=>let⟨q,I⟩:=l;calc PySem.W.ne_bytes$ UQ Ż$ LM not Oh
 |_=>calc NX (show NS from n)
|_=>cases g<;>calc NX (show NS from n)
def Gh:KQ (Ź .Lt)$ Cc λb c=>VH (b<c):=abU$ ak5 lt_int
def fH:KQ (Ź .LtE)$ Cc λb c=>VH (b<=c):=abU$ ak5 le_int
def xm:KQ (Ź .Gt)$ Cc λb c=>VH (c<b):=abU$ ak5 gt_int
def W4:KQ (Ź .GtE)$ Cc λb c=>VH (c<=b):=abU$ ak5 ge_int
def afm:KQ (Ź .Is) λb c d e=>c=.Ť/\e (VH (b=.Ť)) d:=by intro f g h d b c v i e j k l m;let⟨I,n⟩:=m;cases l;calc is_none_gen$ Ż j n ?_;cases b<;>first|(rfl)|(let⟨o,I⟩:=k;rfl)
def abX:KQ (Ź .IsNot) λb c d e=>c=.Ť/\e (.bl (! sB (b=.Ť))) d:=by intro f g h d b c v i e j k l m;let⟨I,n⟩:=m;cases l;calc isnot_none_gen$ Ż j n ?_;cases b<;>first|(rfl)|(let⟨o,I⟩:=k;rfl)
def W5(c:Expr){a:agU}(d:a≠.In:=by decide)(b:a≠.fe:=by decide):pr$ mt behindInMarks:=by
 have e:pr (a==amJ):=by cases a<;>first|rfl|exact QV d
 have f:pr (a==agX):=by cases a<;>first|rfl|exact QV b
 cases c with
 |Set g h i=>show pr (h==0&&(a==amJ||a==agX)&&_);rw[e,f,Ec,adI,bT]
 |_=>rfl
def o8{c:agU}{j:R2}(d:KQ (Ź c) j)(e:RB)(g:io PE L)(i:pr (Ev behindInMarks):=by first|exact W5 _|rfl):KH (.d1 f [c] [b])$ tOp j m L:=by intro k l n o p q r;calc wpAny_Compare1 (BW (GZ afj) (λv s t u x y z A B D=>HP (d k t n y u x v s p z) D)) i
def W6(a:TE):TT:=λb c d=>lf a$ tBl d
def Ô{c:agU}{j:R2}(d:KQ (Ź c) j)(e:RB)(g:io PE L)(i:pr (Ev behindInMarks):=by first|exact W5 _|rfl):PT a (.d1 f [c] [b] h)$ W6$ tOp j m L:=by intro k l n o p q r;calc abf (ay (BW (BQ (AI e) _)) (λ v s⟨t,u,x,y,A⟩=>ay (g k s n u _ x A) (λ B D⟨G,H,J,N,O⟩=>ay (d k D n H t G v B _ J y N O) (λ p l⟨z,o,q,r,s⟩=>?_)))) i;let⟨u,x,A⟩:=B7 s;subst x;cases r;calc bH ⟨o,q,A⟩
def Li(e a:R2)(b c d:TE):TE:=λf g h=>on b λi j=>c f j λk l=>AI (e i) λz m=>∃n,z=.bl n/\(if n=Z then d f m (λo p=>BF (a k) h) else h SO m)
def rC{d c:agU}{o e:R2}(i:KQ (Ź d) o)(g:KQ (Ź c) e)(j:VB)(k:io PE L)(l:AR PE tc)(n:pr (lastMarks [d,c] [b,f]):=by with_unfolding_all rfl):KH (.d1 y [d,c] [b,f])$ Li o e m L tc:=by intro p q r s t u x;calc Compare_chain (ay (BW (j p) s _ u x) (λ v A⟨B,D,G,H,J⟩=>chain_link$ ay (k p A r D _ G J) (λ N O⟨q,s,u,x,A⟩=>ay (Ix (HX (i p O) B q v N _ u) A) (λ D G⟨z,J,B,H,O,s,u⟩=>?_)))) n;subst s;cases H;calc bH ?_;cases O with
|gl=>calc ite_ff ⟨SO,J,B,I,u⟩
|Z=>calc ite_tt$ chain_last$ ay (l p G r J _ B u) (λ A D⟨G,J,B,H,O⟩=>FW (g p D r J q G N A t B) O)
def rD{d c:agU}{o e:R2}(i:KQ (Ź d) o)(g:KQ (Ź c) e)(j:VB)(k:io PE L)(l:AR PE tc)(n:pr (lastMarks [d,c] [b,f]):=by with_unfolding_all rfl):PT a (.d1 y [d,c] [b,f] h)$ W6$ Li o e m L tc:=by intro p q r s t u x;calc isTrue_chain (ay (BW (j p) s _ u x) (λ v A⟨B,D,G,H,J⟩=>test_link$ ay (k p A r D _ G J) (λ N O⟨q,s,u,x,A⟩=>ay (Ix (HX (i p O) B q v N _ u) A) (λ D G⟨z,J,B,H,O,s,u⟩=>?_)))) n;subst s;cases H;calc bH ?_;cases O with
|gl=>let⟨A,D,H⟩:=B7 (show tBl t SO J from u);cases D;calc ite_ff ⟨J,B,H⟩
|Z=>calc ite_tt$ test_last$ ay (l p G r J _ B u) (λ O s⟨A,t,G,J,B⟩=>ay (g p s r t q A N O _ G x J B) (λ u D⟨H,p,r,N,q⟩=>?_));let⟨x,O,s⟩:=B7 q;subst O;cases N;calc bH ⟨p,r,s⟩
def W7(K:Γ)(d:V)(c:Hp)(a:nm):Prop:=match d with|.Ť=>pr a|.bl b=>NJ|SA=>a=(e !=0)|.str f=>f.length<=Ζ/\a=(jp f.length !=0)|.N9 f=>f.L<=Ζ/\a=(jp f.L !=0)|FU=>(∃h,ww (BN c)/\a=! h.a2)\/(∃h,ww (Lg K c)/\a=! h.a2)\/ ∃i,c g=f4 (.dK i)/\a=! i.a2|_=>DN
def Lj{b:Type}{a:asN b}{c:XQ b}(d:mt KV):(! c.a2)= ! a.a2:=by cases d<;>rfl
def xn(a:YK):(! A.ac.a2)= ! z.a2:=by cases a<;>simp
def xo:(Ζ:M)<QL:=DU
def W8:ah7 a λb c d=>∃e,lf (EL W7) e/\CF d:=by intro f g h c b v d i j k;let⟨e,l,m⟩:=k;have n:=eR;cases b with
|Ť=>cases j;have o:pr e:=l;subst o;calc truthy_none ⟨c,i,m⟩
|bl p=>cases j;have o:e=p:=l;subst o;calc bH ⟨c,i,m⟩
|int q=>let⟨r,I⟩:=j;have o:=l;subst o;calc PySem.P.truthy_int ⟨c,i,m⟩
|str s=>let⟨r,I⟩:=j;let⟨t,o⟩:s.length<=Ζ/\e=(jp s.length !=0):=l;subst o;calc im PySem.P.truthy_str ⟨c,i.mS _,m⟩
|N9 s=>let⟨r,I⟩:=j;let⟨t,o⟩:s.L<=Ζ/\e=(jp s.L !=0):=l;subst o;calc im PySem.W.truthy_bytes ⟨c,i.mS _,m⟩
|ref u=>cases j;have o:=l;rcases o with⟨x,y,o⟩|⟨x,y,o⟩|⟨z,y,o⟩;subst o;let⟨A,B,D,G⟩:=i.list y;have H:=B.length;calc wpAny_truthy_list D.aF (by simp only[Ç];lia) ⟨c,i.mS _,by rw[xn B];calc m⟩;subst o;let⟨A,B,D,G⟩:=i.tuple y;have H:=B.length;calc truthy_tuple D (by simp only[Ç];lia) ⟨c,i.mS _,by rw[xn B];calc m⟩;subst o;let⟨G,J,L,B,N⟩:z.length<=Ζ/\pr (u==Ŧ)/\ ∃L,KV z L/\g.v.cx _ u L:=i.aI u _ y;have H:=Ñ B;calc im (wpAny_truthy_dict J N) ⟨c,i.mS _,by rw[Lj B];calc m⟩
|_=>calc(show DN from l).elim
def W9(b:RB)(c:∀d,AN (Ke f) d=(do let v<-d;mY f.pos;fW [v] (amI v))):AR PT λe g h=>GZ m λi j=>∃k,KB (EL W7)/\h k j:=by intro l n e g h o p;calc isTrue_plain (ay (BF (GZ (b l n) _)) (λ v q⟨i,r,s,t,u⟩=>PN$ W8 l q e r i v h))$ c _
def kN(a:Ĺ [H] A):∃b,A=[b]/\JT Ŗ:=by cases a with
|cons c d=>cases d;calc⟨_,I,c⟩
def W_{a:V}(b:Ĺ [H,a] A):∃c d,A=[c,d]/\Ŗ H c/\wE Ŗ:=by cases b with
|cons e f=>cases f with
 |cons g h=>cases h;calc⟨_,_,I,e,g⟩
def Xa:OZ "abs" λb c d=>∃e,b=[SA]/\PF (AB (if e<0 then-e else e)):=by intro f g h c b i d j k l;let⟨e,I,m⟩:=l;let⟨n,I,o,I⟩:=kN k;calc call_abs_int λn p=>⟨OQ,c,j.mS _,EJ,m⟩
def Sl(b:NT):OZ "min" λc d e=>∃f g,c=[QA,VF]/\e (AB (if g<f then g else f)) d:=by intro h i j d c k e l m n;let⟨f,g,I,o⟩:=n;let⟨p,q,I,⟨r,I⟩,⟨s,I⟩⟩:=W_ m;calc min_two_ints (l.ok.hd b) λt u v=>⟨_,d,l.fT v,?_,o⟩;by_cases x:g<f;rw[ii x,ii x];calc EJ;rw[hf x,hf x];calc EJ
def Cf:a9 a (.au "str") λb c d=>∃e,b=[SA]/\e.a4.cg<1920/\PF (HS (ag_ e)):=by intro f g h c b i d j k l;let⟨e,I,m,n⟩:=l;let⟨o,I,p,I⟩:=kN k;calc PySem.P.str_of_int m ⟨Rs,c,j.mS _,EJ,n⟩
def Xb:OZ "ord" λb c d=>∃e,b=[.str e]/\e.length=1/\PF (AD (e.eB.getD 0 0)):=by intro f g h c b i d j k l;let⟨e,I,m,n⟩:=l;let⟨o,I,p,I⟩:=kN k;calc ord_of_one m ⟨OQ,c,j.mS _,EJ,n⟩
end
structure Lk(h:ř)(x a C:β)(b:Do):Prop where
 obj:h.ad x=OA (bX C)
 ns:io h.Ns1
 ne:a≠x
def Sn{d:Do}(q:j.Ns1 e d):∃f,j.ad e=MO/\∀a,AR nh=OA d:=by
 let⟨r,g,s,h,i,k,_,l⟩:=q;calc⟨r,h,λa=>?_⟩;have c:=l a;unfold nsFind findBy at c;rw[<-FS.find?_toList]at c;unfold nh;rw[i];dsimp only;split;rename_i p m;rw[m]at c;calc LM some c;rename_i m;rw[m]at c;have t:pr$ g.aU.any (·.refKey):=by rw[fV];intro p n;let⟨z,u,b⟩:=k p (FS.mem_toList_iff.J n);simp[arO,b]
 have o:¬g.aU.any (·.refKey)=Z:=by rw[t];exact à
 rw[abR];calc LM some c
def Lk.afn{C:β}{a:Do}(b:Lk j e q C a):∃c,PySem.W.InstAt j e (bX C q) C HE/\∀d,DB nh=f4 MY:=let⟨c,f,g⟩:=Sn b.ns;⟨c,⟨b.obj,I,I,f⟩,g⟩
section
variable {dx f:β}{mA:Do}
def abY{a:nm}{j:ET}(X:B.In c.v)(k:Lk c.v q dx e mA)(d:IO (ki B)=Z)(f:qT B e=Z)(g:bK B EN i=f4 none)(h:mA i=XV)(b:Q7 x=Z)(l:j x {c with DO:=c.aG+1}):IQ$ û (þ u s) p (getAttr aeH i a) j:=by let⟨m,n,o⟩:=k.afn;calc LB$ PySem.W.get_value X n (pA d).1$ on PySem.W.findObj_own I (by rw[o,h])
def Xc{b:adS}{j:ge×wr->ZE}(X:B.In c.v)(k:Lk c.v e dx q mA)(a:ki B q i=Z)(d:bK B aeH i=YY EH)(g:Ay B EH=Z)(h:QM mA)(l:j (EH,[EN]) c):IQ$ û (þ u s) p (lC EN i b) j:=by let⟨m,n,o⟩:=k.afn;calc PySem.W.method_fn X n (pA a).1 (pA a).2 d (IN.J g) (by show(nh i m).q (·.by)=f4 gl;rw[o,h];rfl) l
def abZ{j:Unit->ZE}(X:B.In c.v)(a:Lk c.v q dx e mA)(b:bK B EN "__setattr__"=YY (.aq "object.__setattr__"))(d:Nj B e=Z)(f:IO (vD B)=f4 none)(g:qT B e=Z)(h:Et mA J)(k:J.length<=Ζ)(l:∀m,Lk m q dx e (λn=>if n=i then XV else mA n)->cx dx c.v m->j () {c with AL:=m,DO:=c.aG+2}):IQ$ û (þ u s) p (setAttr aeH i x) j:=by let⟨o,r,t⟩:=a.afn;calc PySem.W.set_plain X r b$ DS (PySem.W.osa_open X r) λy=>?_;let⟨z,A,D⟩:=PySem.W.any_some g;have G:=a.obj;calc Ε$ Ì$ Ε$ Ε$ wpAny_loadPart G$ DY$ ahN$ PySem.W.looks_clsIn X A;rw[D];calc Ì$ Ε$ Ì NU;calc wpAny_nsSet1 a.ns λm H L=>?_;let⟨N,O,n,o,r,t⟩:=H.count (akp i x h);calc DY$ wpAny_lookBehind o (by rw[r];calc pastItsLine_dict$ É t (by rw[Β];lia));calc Ì$ l _ ⟨(L.2 _$ Ne.symm a.ne).trans a.obj,H,a.ne⟩ L
def Xd{R:Result->ZE}{a:RX ge}(X:B.In c.v)(b:Uq B e=Z)(d:bK B EN "__init__"=YY EH)(g:PySem.W.typeIn B EH=f4 (.au "function"))(h:uz (þ u s) (asa ⟨EN::A,a⟩) (.call EH ⟨wp af7::A,a⟩) (PySem.W.InitBack af7 R) {c with AL:=ape.push$ VD$ bX e}):uz (þ u s) p (.call EN ⟨A,a⟩) R c:=by calc PySem.W.make_core (PySem.W.makes_of X b) (PySem.W.looks_findIn X d) (λi=>PySem.W.bind_fn X i g) GQ h
end
def aM(a:ï)(v:V):ES->ES|[]=>[(a,v)]|(b,c)::d=>if b=a then(b,v)::d else(b,c)::YU d
def uQ(a b:ï)(v:V):∀fs:ES,(YU fs).E b=if b=a then DE else fs.E b
 |[]=>by show cy b [(a,v)]=_;by_cases c:b=a;have d:=IN.Q c;simp only[cy,d,ii c];have d:=as9;simp only[cy,d,hf c]
 |(e,f)::g=>by have h:=io uQ v g;rw[show YU _=(if e=a then(e,v)::g else(e,f)::YU g)from I];by_cases i:e=a;rw[ii i];by_cases c:b=e;have d:=IN.Q c;simp only[cy,d,BZ (c.trans i)];have d:=as9;simp only[cy,d,DP (λ j:b=a=>c$ j.trans i.symm)];rw[hf i];by_cases c:b=e;have d:=IN.Q c;simp only[cy,d,DP (λ j:b=a=>i$ c.symm.trans j)];have d:=as9;simp only[cy,d];calc h
def tO(a:ï)(v:V):∀fs:ES,BB ((YU fs).q (·.1))/\ ∀b,b∈fs.q (·.1)->b∈(YU fs).q (·.1)|[]=>⟨by simp[aM],λb c=>by simp at c⟩|(d,e)::f=>by let⟨g,h⟩:=tO a v f;rw[show YU _=(if d=a then(d,v)::f else(d,e)::YU f)from I];by_cases i:d=a;subst i;calc arm λb c=>Re;rw[hf i];calc P3 λb c=>?_;calc BI g;rcases ν.J c with j|j;calc ν.Q$ .D j;calc BI$ h b j
def uR(a:ï)(v:V):∀fs:ES,(YU fs).length<=fs.length+1
 |[]=>by simp[aM]
 |(b,c)::d=>by have e:=uR a v d;rw[show YU _=(if b=a then(b,v)::d else(b,c)::YU d)from I];by_cases f:b=a;rw[abm,Β,Β];lia;rw[hf f,Β,Β];lia
def oc.Cg{v:V}{a:WA}(b:oc DE a):∃c,a=HE/\IQ Ŗ:=by cases a with
|none=>calc(show DN from b).elim
|some c=>calc⟨c,I,b⟩
def oc.ab0{a:WA}(b:oc none a):hm a:=by cases a with
|none=>rfl
|some c=>calc(show DN from b).elim
def So{v:V}(a:GY Ŗ):Q7 x=Z:=by cases v with
|Ť=>cases(show x=ge.none from a);rfl
|bl b=>cases(show x=ge.c0 b from a);rfl
|int c=>let⟨d,e⟩:=(show∃d,x=re ge.int from a);cases e;rfl
|str f=>let⟨d,e⟩:=(show∃d,x=ge.str f d from a);cases e;rfl
|N9 b=>let⟨d,e⟩:=(show∃d,x=v4 ge.bytes from a);cases e;rfl
|flt b=>let⟨d,e⟩:=(show∃d,x=v4 ge.float from a);cases e;rfl
|ref g=>cases(show x=ge.ref g from a);rfl
|ty h=>cases(show x=ge.au h from a);rfl
section
variable {C:β}{fs:ES}
def Ci(a:amC b j)(c:EV=JX (DH q)):∃d,Lk j e q C d/\(∀f,oc (fs.E f) (d f))/\Et d (fs.q (·.1))/\fs.length<=1000/\b q=PV .ü:=by let⟨g,z,h,i,d,k,l,m⟩:=(show aL u s b j e _ from a e _ c);calc⟨d,⟨i,k,h⟩,l,m,z,g⟩
end
structure je(K:Γ)(C:β):Prop where
 pg:ki K C qM=Z
 hd:qT K C=Z
 po:Nj K C=Z
 sa:bK K SY "__setattr__"=YY (.aq "object.__setattr__")
def je.get{K:Γ}{C:β}(a:MS C)(b:ï):FE$ ki K C:=a.pg
def Ğ(K:Γ)(C:β)(a:ï):Prop:=bK K SY a=f4 none
def Ğ.ah_{K:Γ}{C:β}(a:GD C i):vD K C i=f4 none:=by unfold vD;rw[show bK K _ i=f4 none from a];rfl
structure xp(K:Γ)(C:β)(m:ï)(f:β):Prop where
 jf:bK K SY m=YY EH
 fn:Ay K EH=Z
 kp:fg K EH=Z
section
variable {σ:St} {C:β}{fs:ES}
def xq{j:nm}{g:ET}(f:Gc)(k:EV=JX (DH q))(h:EL je C)(m:EL Ğ C i)(l:fs.E i=f4 H)(n:∀o r,am7 b r->Ŗ H o->g o r):IQ$ at_ (up (getAttr EN)) g:=by let⟨s,t,u,_,_,_⟩:=Ci f.aI k;let⟨o,x,y⟩:=oc.Cg (by rw[<-l];calc u i);calc abY f.yu t (h.get i) h.hd m x (So y)$ n o _ (f.mS _) y
def ma{g:β}{f:adS}{h:ge×wr->ZE}(j:Gc)(m:EV=JX (DH q))(n:EL je C)(k:EL xp C i g)(l:QM fs.E)(o:h (FU,[EN]) c):IQ$ at_ (lC EN i f) h:=by let⟨r,s,t,_,_,_⟩:=Ci j.aI m;have u:=oc.ab0 (by rw[<-l];calc t i);calc Xc j.yu s (n.get i) k.jf k.fn u o
def xr{j:Unit->ZE}(f:Gc)(k:b q=JX (DH e))(g:EL je C)(l:EL Ğ C i)(m:ans)(h:Ix Ŗ)(n:∀o,am7 (ø b q (DH e (aM i H fs))) o->j () o):IQ$ at_ (setAttr aeH i x) j:=by
 let⟨r,s,t,u,_,y⟩:=Ci f.aI k;have A:YG ((fs.q (·.1))):=by rw[θ,eR];lia
 calc abZ f.yu s g.sa g.po l.ah_ g.hd u A λB D G=>n _ ?_;have J:∃L,B.ad e=f4 L:=let⟨L,_,_,N,_⟩:=D.ns;⟨L,N⟩;calc f.pO (by rw[k];calc EQ.cR) (.X y) (λO o r z=>(G.2 O r).trans z) J ?_;calc⟨by rw[ω s.ne];calc y,?_,s.ne,D.obj,_,D.ns,λA=>?_,λA B=>?_⟩;have:=uR i H fs;lia;rw[uQ];by_cases o:A=i;rw[ii o,ii o];calc h;rw[abR,abR];calc t A;by_cases o:A=i;rw[o];calc(tO i H fs).1;calc(tO i H fs).2 A$ u A λz=>B ?_;rw[abR];calc z
def ú.am4(e:Gc):am7 (ø (VD (ø b) (.ü af7)) af7 (VD DH [])) {c with AL:=ape.push$ VD$ bX C}:=by
 have f:VD ape.ad=f4 a4:=ì c.v I;have g:(ape.push$ VD$ bX C).ad af7=f4 (VD (bX C)):=by have:=ì ape (o:=VD$ bX C) I;rwa [ae]at this
 have h:VD ape.Ns _:=⟨a4,#[],_,f,I,λi j=>s4$ kt j,SR⟩;have k:=e.iB (o:=.ü af7) (t':=c.aG) (λl m n=>GO n) AK$ CM f;calc k.iB (λl m n=>GO n) (i9 (ga ae)) ?_;have p:c.v.R.L≠af7:=ģ$ wk _;calc⟨by rw[ω p,Α],CY,p,g,_,(asy h).at λq n=>GO n,λ_=>EQ.cR,λr s=>QV s⟩
def ab1{w:Ŏ}{a:Aw}{d:ET}(b:DF œ a (rw f a)=rw f a)(e:IQ (û (þ u w) p (rw f a) (λg j=>û (þ u w) p (DL getAttr Z) d v j))):IQ$ û (þ u w) p (rw (DF .ao h) a) d:=Attribute_any_ e (by rw[arm_eval_Attribute,b])
end
def ab2(K:Γ)(a:TE)(b:ï):TE:=aeF (∃h C i fs v,f=NB/\g h=JX (DH i)/\MS C/\GD C b/\fs.E b=DE/\e v g)
def afo(K:Γ)(a b:TE)(c:ï):TS:=λd e f=>py b λg h=>FG a λi j=>∃k C l fs,i=.ref k/\j k=JX (DH l)/\MS C/\GD C c/\ans/\d.nx e (AS ø (DH l (aM c g fs)))
def ab3(X:Cx)(a:px)(b:LA):Prop:=∀(c:BO)(d:lm)(e:St)(f:Hp)(g h:V)(i v:ge)(j:VK),VC (DL Ŗ->Ŗ h v->ww b f j->OO (QX (IP ik v) (YF j)) d)
def Cj(K:Γ)(a b:TE)(c:LA)(d:ï):TS:=λe f g=>on a λh i=>∃j C k fs v,h=PX/\i j=JX (DH k)/\MS C/\GD C d/\fs.E d=DE/\DF b (λl m=>AE (c v) λz n=>∃o p,n j=f4 (BF DH)/\Id p.length/\e.nx f (ø n j (DH o (aM d z p))))
def qu(b:RB)(c:AN (DF œ) RE=RE):KH (DF .ao)$ EL ab2 m i:=by intro d e g j k n o;calc ab1 c$ ay (BQ (s3 b g j _)) (λ p q⟨r,s,t,u,x,C,y,fs,v,z,A,B,D,l,G⟩=>?_);subst z;obtain I:p=ge.ref x:=u;calc HP (xq t) D l λH J L N=>⟨v,s,L,N,G⟩
def Ll(b:VB)(c:AR PE L)(d:asJ (ij f (f4 (.ao y i D)) h.line)):VU (GP (.dr [.ao y i D]))$ EL afo m L i:=by intro e g j k n o p;calc plainObj_wpAny_Assign_Attribute (ay (BF (AS (GZ c) _)) (λ q r⟨s,t,u,v,x⟩=>ay (EV r j t _ u x) (λ z A⟨B,G,H,J,N,C,O,fs,n,g,k,o,l,p⟩=>?_))) d;subst n;obtain I:z=ge.ref N:=J;calc xr H g k o l v λq s=>⟨j,_,s,p⟩
def zy{b:px}{c:LA}(e:VB)(g:AR PE L)(d:EE ab3):VU (DA (.dd (.ao y i D)) h)$ EL Cj m L c i:=by intro j k n o p q r;calc wpAny_AugAssign_AttributeAny$ ay (BW (BQ (AS e) _)) (λ s t⟨u,x,A,B,G,C,H,fs,v,J,N,O,p,l,k⟩=>?_);subst J;obtain I:s=ge.ref G:=B;calc xq A N O p l λo q r t=>ay (g j q n x _ r k) (λ u H⟨s,A,B,G,J⟩=>ay (d j H n A v s o u _ B t G J) (λ N x⟨z,k,q,r,j,o,t,u,H⟩=>?_));calc xr q t O p u r λs A=>⟨n,_,A,H⟩
def am5:LA:=λa b c d=>∃e f,a=SA/\b=QA/\PF (AB (e+f))
def afp:ab3 a .Add am5:=by rintro b c d e f g h v i j k l ⟨m,n,I,I,o⟩;let⟨p,I⟩:=(show∃p,h=ge.int m p from k);let⟨q,I⟩:=(show∃q,v=ge.int n q from l);calc akq ⟨OQ,e,j.mS _,EJ,o⟩
def ad5{g:adS}{e:ï}(j:RB)(n:OW)(p:m o b (λq r=>∃s C t fs u,q=VY/\r s=JX (DH t)/\EL je C/\EL xp C e u/\hm (fs.E e)/\ ∀x,wE ú o r x->WL (jb h (.ref u) [VY] asX (fP h (AN (bY [])))) v a.xe x))(k:aqa (GJ (JV .ao D) G [] h)=(do let ov<-RE;mY D.dU;let(i,RN)<-fW [ov] (GZ (lC ov));t3 jb RN asX (fP h (AN (bY []))))):WL (aqa (GJ (JV .ao D) G [] h)) v a.xe c:=by calc fX (ay (DB j o b _ n p) (λ y x⟨q,r,z,A,s,C,t,fs,u,B,H,J,L,l,N⟩=>?_)) k;subst B;obtain I:y=ge.ref s:=A;calc ma z H J L l$ N x z
structure dC(k:M)(A:ff):Prop where
 hd:hm A.dS
 dp:A.depth+3*k+5<amK
 un:A.units+16*k+200<mZ
def dC.hT{k:M}(a:dC k p)(b:n<=k):dC n p:=⟨a.hd,by have:=a.dp;lia,by have:=a.un;lia⟩
def dC.deeper(b:dC (n+1) p)(a:Aw):dC n$ p.deeper a:=⟨b.hd,by have:=b.dp;show p.depth+1+3*n+5<_;lia,by have:=b.un;show p.units+3+16*n+200<_;lia⟩
def Lm{C:β}{a:RX ge}:(asa ⟨SY::A,a⟩).depth=p.depth+1:=by first|rfl|simp[guardIds]
def Ln{C:β}{a:RX ge}:(asa ⟨SY::A,a⟩).units=p.units+1:=by first|rfl|simp[Code.frames]
def dC.afq(a:dC (n+1) p)(C:β)(b:wr)(c:RX ge):dC n$ asa ⟨SY::b,c⟩:=⟨a.hd,by have:=a.dp;rw[Lm];lia,by have:=a.un;rw[Ln];lia⟩
def dC.depth(a:dC n p):p.depth<amK:=by have:=a.dp;lia
def dC.units(a:dC n p):p.units+64<mZ:=by have:=a.un;lia
def Lo:TA:=λ_ a b=>b [] a
def Xe(a:TE)(b:TA):TA:=aeF$ Db g λh i=>e (f::h) i
def ο:XU [] Lo:=λ_ _ _ _ b c d e=>fQ ⟨[],b,d,.nil,e⟩
def ε(b:RB)(c:XU G N)(d:apY (gl,RE):=by rfl):XU Tk$ Xe m N:=by intro e g h i j k l n;rw[d];show ga (ga û (spliced ((gl,RE)::aG e _))) h;calc c_$ ay (up (ww b) _ l n) (λ o p⟨q,r,s,t,u⟩=>?_);calc ay (GZ c p i r _ s u) (λ v x⟨y,z,A,B,D⟩=>⟨_,z,A,.cons t B,D⟩)
def aia(a:TA):TE:=aps (e.length<=Ζ/\∀g,hm (f g)->d FU (on ø (.c9 e)))
def aib(a:TA):TE:=aps (e.length<=Ζ/\∀g,hm (f g)->d FU (on ø (.Ý e)))
def qv{b}(c:XU G N):KH (.cw G b)$ aia N:=by intro d e f g i j k;calc wpAny_Tuple_spliced$ ay (AS (on (s3 (c h)) _)) (λ l m⟨n,o,p,q,z,r⟩=>wn (by rw[<-q.length];calc z));have s:=p.aI.fresh AK;calc⟨wp m.v.R.L,_,p.iB (λt u v=>GO v) AK ?_,I,r _ s⟩;calc⟨z,l,q,⟨_,KJ,I,_,I⟩⟩
def ĺ(b:XU G N):KH (.List G)$ aib N:=by intro c d e f g i j;calc wpAny_List_spliced$ ay (up (IH (b h c) _)) (λ k l⟨m,n,o,p,z,q⟩=>wn (by rw[<-p.length];calc z));have r:=o.aI.fresh AK;calc⟨wp l.v.R.L,_,o.iB (λs t u=>GO u) AK ?_,I,q _ r⟩;calc⟨z,k,0,p,KJ⟩
abbrev Sp:=g3->Hp->VK->Ch XK
abbrev CXT:=NP->Hp->lm->XK->ET
structure Ck(P:Ĵ)(w:Ŏ)(K:Γ)(mg:Do)(base:ř)(A:ff)(a:NP)(s:lm)(H:Hp):Prop where
 frames:A.frames=WI
 mod:Mod K mg base
 bs:∀b c,base.ad b=HE->s.v.ad b=HE/\ZD
 Ux:base.R.L<=s.v.R.L
 rv:s.v.bX base a
 frf:∀b∈B4 a,ZD
 aI:IA qP H s.v
 jd:ux s.ez
def CE(a:NP)(P:Ĵ)(w:Ŏ)(d:Hp)(c:lm)(e:VK)(f:ge)(b:lm):Prop:=∃v g,b.os=c.os/\ux b.ez/\DR (Un (B4 a) []) c.v b.v/\IA qP g b.v/\Ŗ v f/\e v g
def CR(c:CXT)(a:NP)(P:Ĵ)(w:Ŏ)(d:Hp)(e:lm)(f:VK)(g:XK)(h:Result)(b:lm):Prop:=match h with|.ok$ .es i=>DF (s3 (IA (CE a))) b|.ok _=>DN|.d9 j=>PQ c g j b
structure fU(P:Ĵ)(w:Ŏ)(K:Γ)(mg:Do)(base:ř)(g:CXT)(k:M)(f:β)(h:MF)(c:CJ)(sp:Sp):Prop where
 len:∀vs H d e,SD sp->vs.length=c.length
 J7:∀(A:ff)(a:NP)(s:lm)(H:Hp)(b:Args)(us:wr)(vs:g3)(d:VK)(e:XK),dC k A->MQ Ck base A a s H->BindsTo s h b (c.zip us)->Ĺ vs us->SD sp->uz (IA þ) A (.call EH b) (s3 (IA (CR g a) H s)) s
def fU.hT{P:Ĵ}{w:Ŏ}{K:Γ}{mg:Do}{a:CXT}{k:M}{b:MF}{c:Sp}(F:MQ fU j a n e b J c)(d:n<=k):MQ fU j a k e b J c:=⟨F.len,λf g h i l m o p q r=>SL (AE (t3 (on F.J7)))$ r.hT d⟩
def Ck.afq{P:Ĵ}{w:Ŏ}{K:Γ}{mg:Do}{a:NP}(d:mt (MQ Ck j p) b)(C:β)(e:wr)(f:RX ge):mt (MQ Ck j (asa ⟨SY::e,f⟩)) b:=⟨by first|exact d.frames|(simpa[pushEnvs]using d.frames),d.mod,d.bs,d.Ux,d.rv,d.frf,d.aI,d.jd⟩
section
variable {s':lm}
def ú.aic(e:OW):Ev$ asw Ck a.A a.a7:=⟨e.ok.frames,e.ok.mod,e.bs,É e.ok.Ux e.sz,e.a7,e.rx,e.aI,e.jd⟩
def ú.gN{e:VK}(f:OW)(g:lf (PY (CE a.a7)) e x s'):wE EP o e x s':=by let⟨v,h,os,i,un,j,k,l⟩:=g;let⟨m,n,p,q,r⟩:=s';obtain I:r=c.os:=os;calc⟨v,h,f.call un j i λs z=>s4 VI,k,l⟩
end
def Oi(b:Sp)(a:g3)(c:XK)(d:TA):TE:=λe f g=>py d λh i=>b (h++a) i g c
def zz(C:β)(d:ï)(b:Sp)(a:g3)(e:XK)(c:TE)(f:TA):TE:=λg h i=>ww c λj k=>∃l m fs,j=CG/\k l=JX (DH m)/\hm (fs.E d)/\f g k (λn o=>b (j::(n++a)) o i e)
def zA(C:β)(b:Sp)(a:g3)(c:XK)(d:TA):TE:=λe f g=>py d λh i=>∀j k,hm (i j)->hm (i k)->k≠j->b (PX::(h++a)) (ø (ø i k (.ü j)) j (DH k [])) (λv l=>UM/\g PX l) c
def di(K:Γ)(c:MF)(a:CJ)(b:wr):Prop:=∀(d:lm)(e:wr),K.In d.v->XB (e++b).length->DB BindsTo ⟨e,[]⟩ (a.zip (e++b))
def di.all{K:Γ}{a:MF}(b:∀c:wr,c.length=J.length->amL a ⟨c,[]⟩=DT (J.zip c)):di K a J []:=λd c _ e=>by rw[Đ]at e|-;calc .of_eq$ AH b
def oj(a:CXT)(X:Cx)(b:XK):Prop:=∀(c:BO)(d:St)(e:Hp)(f:lm)(g:ge)(h:lm),IH (FJ c)->ww (py (a X.a7) b)->ww X.xe
section
variable {CX:CXT} {fd:MF} {sp:Sp} {E:XK}{x:ï}
def Cm{g:VK}{us:wr}{vs:g3}(F:atk)(h:dC n a.A)(i:akK)(j:YK)(k:akM)(f:OW)(l:Ĺ vs us)(m:sp (vs++z) b g E):WL (call EN us) (wE EP o g) a.xe c:=by
 have p:=l.append j;have q:(us++A).length=J.length:=by rw[<-p.length];exact EY F.len m
 calc Kg$ kj (AY (Ev (F.J7 a.A a.a7)) g E h f.aic (i c us f.yu q) p m) λl r s=>?_;cases l with
 |error t=>calc lf (k d o) t r f s
 |ok u=>cases u with
  |UE v=>calc f.gN s
  |next=>calc š s
  |UF=>calc š s
  |UD=>calc š s
def ab5(F:atk)(d:dC n a.A)(g:Gl a x)(i:a.mg x=f4 EN)(j:EL fg EN=Z)(k:akK)(l:YK)(m:akM)(o:XU Tk N)(b:pr (x==ZF):=by decide)(p:apY (gl,RE):=by rfl)(c:pr (asX.any (·.1)):=by rfl):KH (GJ (.bv x D) Tk [])$ Oi sp z E N:=by intro q r s t u v y;calc bb$ DL (ry v) ?_ b;calc eS v.ok.mod.kin j (ay (DQ (BW (o h)) _ v y) (λ B H⟨L,O,u,q,r⟩=>wn u.yu)) p c;calc BW$ AI (Cm F d) m u
def ab6{g:adS}(j:VB)(u:EL je q)(b:EL xp q i e)(F:atk)(k:dC n a.A)(o:akK)(p:YK)(r:akM)(s:XU Tk N)(c:apY (gl,RE):=by rfl)(d:pr (asX.any (·.1)):=by rfl)(t:aqa (GJ (.ao y i D) Tk [] h)=(do let ov<-apx;mY D.dU;let(e,RN)<-fW [ov] (lC ov i g);jb h e RN (aG h (NY Tk)) (fP h (AN (bY [])))):=by rfl):KH (GJ (.ao y i D) Tk [])$ zz q i sp z E m N:=by intro v x B H L O L;calc fX (ay (GY j B H _ O L) (λ x H⟨L,L,a0,b0,c0,d0,fs,f0,g0,l,h0⟩=>?_)) t;subst f0;obtain I:x=ge.ref c0:=b0;calc LB (ma a0 g0 u) ?_;calc re$ eS (first:=[wp c0]) O.ok.mod.kin b.kp$ ay (s h v H B L _ a0 h0) (λ v B⟨O,x,H,L,v⟩=>wn H.yu);calc BF (Cm (vs:=wp c0::O) F k) r H (.cons I L) v
def Xf{c:adS}(d:RB)(r:EL je q)(b:EL xp q i e)(F:atk)(g:dC n a.A)(j:akK)(k:YK)(o:akM)(p:aqa (GJ (DF .ao D) [] [] h)=(do let ov<-RE;mY D.dU;let(e,RN)<-fW [ov] (lC ov i c);jb h e RN (aG h (NY [])) (fP h (AN (bY [])))):=by rfl):KH (GJ (DF .ao D) [] [])$ zz q i sp z E m Lo:=by intro s t u v x y B;calc fX (ay (NL (PN d v _)) (λ G H⟨L,N,O,x,s,t,fs,u,v,l,y⟩=>?_)) p;subst u;obtain I:G=ge.ref s:=x;calc LB (ma O v r) ?_;calc Jx O.yu b.kp$ AS (Cm (us:=[VY]) (vs:=[VY]) F g) o O (.cons I .nil) y
structure Mk(K:Γ)(C f:β):Prop where
 aid:Uq K C=Z
 am6:bK K SY "__init__"=YY EH
 fn:Ay K EH=Z
 kp:fg K SY=Z
def Gi{p:VK}{us:wr}{f:g3}(h:EL Mk e q)(F:asw fU CX n q fd J sp)(i:dC (n+1) a.A)(j:akK)(k:YK)(l:akM)(g:OW)(m:Ĺ f us)(r:∀x s,hm (b x)->hm (b s)->s≠x->sp (DJ::(f++z)) (ø (ø b s (.ü x)) x (.Ŀ e s [])) (λv t=>UM/\p DJ t) E):WL (call EN us) (BF (wE EP)) a.xe c:=by
 have u:=VD (r af7) (g.aI.fresh (yr _)) (g.aI.fresh AK)$ ģ$ wk _;have y:=ú.am4 (C:=e) g;have B:Ĺ (SQ af7::(f++z)) _:=.cons I$ m.append k;have D:(ge.ref af7::us++A).length=J.length:=by have G:=B.length;rw[EY F.len u]at G;exact G.symm
 calc Kg$ Xd g.yu h.aid h.am6 (IN.J h.fn)$ kj (ga (EY (F.J7 _ a.a7)) E (i.afq e us []) (y.aic.afq e us []) (ga j y.yu D) B u) λm H L=>?_;cases m with
 |error G=>calc ga (l d o) G H y L
 |ok N=>cases N with
  |UE O=>let⟨v,s,t,u,B,D⟩:=y.gN L;subst B;calc⟨u,⟨V.ref _,s,t,I,D⟩⟩
  |next=>calc š L
  |UF=>calc š L
  |UD=>calc š L
def ab7(p:EL Mk e q)(F:asw fU CX n q fd J sp)(d:dC (n+1) a.A)(g:Gl a x)(i:a.mg x=f4 EN)(j:akK)(k:YK)(l:akM)(m:XU Tk N)(b:pr (x==ZF):=by decide)(o:apY (gl,RE):=by rfl)(c:pr (asX.any (·.1)):=by rfl):KH (GJ (.bv x D) Tk [])$ zA e sp z E N:=by intro r s t u v y B;calc bb$ DL (ry y) ?_ b;calc eS y.ok.mod.kin p.kp (ay (NL (PN (m h r) _)) (λ H L⟨O,v,r,s,t⟩=>wn r.yu)) o c;calc DQ$ TW (Gi p F d) r
def Xg(k:EL Mk e q)(F:asw fU CX n q fd J sp)(c:dC (n+1) a.A)(d:Gl a x)(f:a.mg x=f4 EN)(g:akK)(i:YK)(j:akM)(b:pr (x==ZF):=by decide):KH (GJ (.bv x D) [] [])$ zA e sp z E Lo:=by intro l m o p r s t;calc bb$ DS (ry s) ?_ b;calc Jx s.yu k.kp$ up (Gi (us:=[]) k F c g) s .nil t
end
structure hU(N P:CJ)(a:fN):Prop where
 kind:a.kind=.bn
 co:pr a.dR
 gen:pr a.dQ
 nd:N.ar
 pre:N.take P.length=P
 par:∀b∈P,a.al.E b=akZ\/a.al.E b=XW
 afr:∀c∈a.al,c.2≠.free
def zB{UC:ï->FQ cP} :∀{a:RX ge}{b:Do},(∀v,(i,v)∉a)->io (abu UC) i=b i
 |[],_,_=>I
 |(c,v)::d,b,e=>by
   unfold abu;rw[zB λw f=>e w$ BI f];split;have:i≠c:=by rintro I;exact e v ů
   simp[this];rfl
def zC{UC:ï->FQ cP} :∀{a:RX ge}{b:Do},(∀v,(i,v)∉a)->io (abv UC) i=b i
 |[],_,_=>I
 |(c,v)::d,b,e=>by
   unfold abv;rw[zC λw f=>e w$ BI f];split;rfl;have:i≠c:=by rintro I;exact e v ů
   simp[this]
def zD{UC:ï->FQ cP}{v:ge}:∀{P:CJ}{a:wr}{c:M}{b:Do},P.ar->P[c]? =RW->a[c]? =DE->UC i=akZ->LR (abu UC (P.zip a))=DE
 |[],_,_,_,_,d,_,_=>by simp at d
 |_::_,[],_,_,_,_,d,_=>by simp at d
 |e::P,w::a,0,b,f,g,h,j=>by simp at g h;subst g;subst h;show zn (abu UC ((e,w)::P.zip a))=_;unfold abu;rw[zB λv k=>(ñ.J f).1 (h4 k).1,ii j];simp
 |e::P,w::a,BD,b,f,g,h,j=>by unfold abu;calc zD (ñ.J f).2 SX (by simpa using h) j
def zE{UC:ï->FQ cP}{v:ge}:∀{P:CJ}{a:wr}{c:M}{b:Do},P.ar->P[c]? =RW->a[c]? =DE->UC i≠akZ->LR (abv UC (P.zip a))=DE
 |[],_,_,_,_,d,_,_=>by simp at d
 |_::_,[],_,_,_,_,d,_=>by simp at d
 |e::P,w::a,0,b,f,g,h,j=>by simp at g h;subst g;subst h;show zn (abv UC ((e,w)::P.zip a))=_;unfold abv;rw[zC λv k=>(ñ.J f).1 (h4 k).1,hf j];simp
 |e::P,w::a,BD,b,f,g,h,j=>by unfold abv;calc zE (ñ.J f).2 SX (by simpa using h) j
def start(b:CJ)(a:g3):St:=a.q some++Λ (b.length-a.length) none
def Gj(g:CXT)(P:Ĵ)(w:Ŏ)(K:Γ)(mg:Do)(f:ř)(l:CJ)(c:ï)(a:fN)(h:β)(d:ge)(j:ff)(b:NP)(e:lm)(i:Hp)(k:XK):Cx where prog:=P;w:=w;K:=K;mg:=mg;base:=f;A:=j.deeper asm;N:=l;l8:=e;F9:=i;ó:=asm;pP:=b;a7:=asm::b;ex:=[];gM:=Z;fn:=KY;pn:=[];xe:=λm n=>û (IA þ) (j.deeper asm) (leaving asm m) (λ_ o=>LR g e k m o) (λp o=>LR g e k p o) n
def Gk{a:fN}(b:a.al.E i=XW):∃c,(aB n a.al []).E i=HE:=by have d:=Az a.al n []$ .D b;calc he.isSome_iff_exists.J d
def Sr{k:CXT}{P:Ĵ}{w:Ŏ}{K:Γ}{mg:Do}{h:CJ}{a:fN}{d:NP}{l:lm}{n:XK}{f:g3}(S:hU h J a)(m:hm p.dS)(e0:DB (MQ Ck j p) b)(o:f.length=J.length)(q:Ĺ f A)(g:VD (InCallC c) (abu (VD (qc i a) e x).bK (J.zip A) (λ_=>none)) (aB af7 a.al []) (abv (VD (qc i a) e x).bK (J.zip A) (λ_=>none)) l):LB$ ú (DB (AM (t3 (MQ (Gj k) j)) x p) b n) []$ start h f:=by
 have r:J.length<=h.length:=by have:=YT S.pre;rw[Ũ]at this;lia
 let⟨s,t,I,u⟩:=g.done;have y:∀B:β,B∉(DB (AM (t3 (MQ (Gj k) j)) x p) b n).ex:=λB z=>s4$ DM (show B∈[]from z);calc⟨⟨e0.mod,S.kind,I,I,AK,λD z G s H=>?_,λD L=>?_,λD G _ N=>?_,λ_=>m,Jy e0.frames,.X$ ln I,λB z=>VI$ y B,e0.bs,e0.Ux,λB _ _=>y B,λB z=>VI$ y B,e0.rv,e0.frf⟩,I,e0.jd,Un.fT u,⟨_,g.toInCall.ns,λO D v s H r=>?_⟩,λD G N=>CM$ IK g.cell N,e0.aI.fresh AK,λD G N=>?_,λt y=>s4$ DM (show t∈[]from y),e0.aI.fT u,?_⟩;calc name_of_addr g.apart (ě s)$ ě H;rcases L with L|L;calc Gk L;calc QV$ S.afr _$ ě L;calc ja$ IK g.above$ ě N;have B:O<f.length:=by unfold start at H;by_cases B:O<f.length;calc B;rw[Ű arJ,cU]at H;split at H<;>cases H
 have r:f[O]? =DE:=by unfold start at H;rw[Ņ arJ,Δ]at H;cases u:f[O]? with
 |none=>rw[u]at H;cases H
 |some L=>rw[u]at H;cases H;rfl
 let⟨t,B,H⟩:=q.get r;have y:J[O]? =f4 D:=by rw[<-S.pre,im List.getElem?_take_of_lt];exact s
 have L:J.ar:=by rw[<-S.pre];exact S.nd.sublist$ ga Vb
 calc⟨t,H,?_⟩;rcases S.par D (Î y)with s|s;calc .D ⟨s,NL (zD L) s⟩;let⟨G,u⟩:=Gk s;calc .X ⟨.D s,G,u,?_⟩;have O:=IK g.cell u;rw[NL (zE L) (by show a.al.E D≠_;rw[s];decide)]at O;calc O;calc e0.aI.fresh$ ja$ IK g.above$ ě N;unfold start;show _=h.length;rw[π,θ,gD];lia
def ad6{k:CXT}{P:Ĵ}{w:Ŏ}{K:Γ}{mg:Do}{h:ï}{c:A_}{d:AX eD}{a:fN}{y kV p z A H:ge}{B L:RD}{D:FS WA}{l:CJ}{t:Sp}(N:K.E e=f4 ⟨H,L,.de$ re (t3 fh) a y kV p z B x A,D⟩)(G:ni K x i=Z)(S:GV (hU J))(q:∀f g m r,on t m r->f.length=l.length)(o:∀(u:ff)(b:NP)(s:lm)(g:Hp)(f:g3)(m:VK)(r:XK),dC n (u.deeper (qc i a s.v.R.L e x))->on t m r->∃O,Ld (AM (MQ (Gj k) j J i) x u b s g r) d O/\O {nx:=λ_ a0=>m .Ť a0,rt:=m} (start J f) g):AS (MQ fU) (n+1) e (re (t3 fh) a y kV p z B x A) l t:=by
 calc⟨q,λu b s g b0 c0 f m r d0 e0 f0 g0 h0=>?_⟩;have i0:=EY q h0;have j0:=e0.mod.kin.keeps λk0 l0 m0=>(e0.bs k0 l0 m0).1;have n0:=e0.mod.nolimit.keeps λk0 l0 m0=>(e0.bs k0 l0 m0).1;have o0:∀p0∈l.zip c0,a.al.E p0.1=UB\/(a.al.E p0.1=UB/\((aB (s.v.R.L+1) a.al []).E p0.1).by=Z):=λ⟨r0,v⟩ s0=>by rcases S.par r0 (h4 s0).1 with t0|t0;calc .D t0;exact .X ⟨t0,AY Az$ .D t0⟩
 calc codeAny_call_function d0.depth (ga j0 N) I S.co S.gen I (PySem.W.codeRec_of j0 G)$ EY f0 ?_;calc wpAny_newFunctionEnv_cells S.kind o0 λu0 v0 w0 x0=>?_;subst v0;calc⟨n0.keeps x0.toInCall.keep,codeAny_func ?_⟩;let⟨O,O,y0⟩:=QN (o u b s) m r (d0.deeper _) h0;have z0:ú (AM (MQ (Gj k) j J i) x u b s g r) [] _ g w0:=Sr S d0.hd e0 i0 g0 x0;calc bJ (O [] w0 _ g _ z0 y0) (λO A0 B0=>?_) λm0 A0 B0=>B0;have C0:∀{D0:St}{a0:Hp}{v:V}{F0:ge},ú (AM (MQ (Gj k) j J i) x u b s g r) [] D0 a0 A0->Ŗ v F0->m v a0->IA (CE b) g s m F0 A0:=λ{D0 a0 v F0} G0 H0 t0=>⟨v,a0,G0.os,G0.jd,G0.base,G0.aI,H0,t0⟩;cases O with
 |UE F0=>let⟨v,D0,a0,G0,H0,t0⟩:=B0;calc C0 G0 H0 t0
 |next=>let⟨D0,a0,G0,t0⟩:=B0;calc C0 (v:=V.Ť) G0 I t0
 |UF=>let⟨_,_,_,t0⟩:=B0;calc š t0
 |UD=>let⟨_,_,_,t0⟩:=B0;calc š t0
section
variable {id T:HC}{r:RO}
def tCB(a:RO)(b:TA):TE:=λc d e=>re b λf g=>on a e
def Ļ(d:OZ id r)(e:QM a.mg)(g:kh i=f4 (.aq id))(j:XU Tk N)(k:IP Gl:=by rfl)(l:i≠"__name__":=by decide)(b:pr (i==ZF):=by decide)(m:apY (gl,RE):=by rfl)(c:pr (asX.any (·.1)):=by rfl):KH (GJ (.bv i D) Tk [])$ tCB r N:=by intro n o p q s t u;calc bb$ GZ (qs t k) ?_ l b;calc akr (ay (EB (SL (j h n) _)) (λ v x⟨y,z,A,B,H⟩=>HP (d n x p z y v s) H)) m c
def ń(d:a9 a (.au T) r)(e:QM a.mg)(g:kh i=f4 (.au T))(j:XU Tk N)(k:IP Gl:=by rfl)(l:i≠"__name__":=by decide)(b:pr (i==ZF):=by decide)(m:apY (gl,RE):=by rfl)(c:pr (asX.any (·.1)):=by rfl):KH (GJ (.bv i D) Tk [])$ tCB r N:=by intro n o p q s t u;calc bb$ GZ (qs t k) ?_ l b;calc ż (ay (EB (SL (j h n) _)) (λ v x⟨y,z,A,B,H⟩=>HP (d n x p z y v s) H)) m c
end
end L2
namespace HT
open PySem PyProof.Rows
section
open PySem.SeqAt
open PySem.AutoSeq1 (wpAny_loadPart')
open PySem.MeetsSeq PySem.MeetsSeq2 PySem.MeetsSeq3
end
def J9(a b:M):FQ U->M|none=>b|DE=>if v<0 then(v+DD).aj else min v.aj a
def Xh(b a:M):sK J9 none=a:=I
def mb(a c b:M):mt J9 (f4 GI)=sK min:=by show(if b<0 then(b+DD).aj else min _ a)=sK min;rw[IV,U.a0]
end HT
namespace L2
open PySem PySem.Spec PyProof.Rows
variable{a:Cx}{n B:Expr}{q:TE}{o z:vB}{v:Type}{i:M}{f:BO}{e:St}{d:lm}{c:β}{x:g3}{H:wr}{p:ff}{h:V}{m:ge}{s:GL}{b:Hp}{j:Ĵ}{u J:ET}{A:fN}{L:TT}{D:BA}{y:ř}{G:OV}{l:Ŏ}{N:Γ}
abbrev TO:=St->VT (JK (FQ U))
def PO(X:Cx)(a:FQ Expr)(b:TO):Prop:=∀(c:BO)(d:lm)(e:St)(f:Hp)(g:JK (FQ U)),VC (on EV->OO (QX (FA (evalPart a)) (λh i=>∃j k,AH FJ k i/\GH IsPart/\AS g)) d)
def ab8:TO:=λ_ a b=>b none a
def aif(a:TE):TO:=aps (∃g,e=VF/\d HK f)
section
variable {lo hi:FQ Expr}{tl th:TO}
def Cn:PO a none ab8:=by intro b c d e f g h;calc Ì ⟨none,e,g,.none,h⟩
def mc(b:EC n q):PO a (f4 n)$ aif q:=by intro c d e f g h i;calc ay (t3 (IH Db _)) (λ j k⟨l,m,o,p,r⟩=>?_);let⟨s,I,t⟩:=r;let⟨u,I⟩:=p;calc⟨_,m,o,.int s u,t⟩
def SlR(X:Cx)(a:atJ):Prop:=∀(b:BO)(c:lm)(d:St)(e:Hp)(f:V)(v g h:ge)(lo hi:FQ U)(i:β)(j:VK),aqd (Ŗ f v->ww (c.v.IsSliceOf i) .none->IsPart g lo->IsPart h hi->a f lo hi e j->∃k id,typeLookup (.au k) "__getitem__"=DT (f4 (.aq id))/\c.do v k/\OO (QX (yC v OH) (v4 (EP X) j)) c)
def tSl(d:atJ)(a:TE)(b c:TO):TE:=λe f g=>py a λh i=>EV i λl j=>c e j λk m=>d h l k m g
def om{f:atJ}(b:AR SlR)(c:EC n q)(d:PO a lo tl)(e:PO a hi th):EC (.bq n (.Slice lo hi none o) z)$ tSl f q tl th:=by intro g h i j k m p;calc aeO$ ay (up (ww c) _ m p) (λ v r⟨s,t,u,x,y⟩=>?_);calc wpAny_Slice$ ay (d g r i t _ u y) (λ A B⟨l,D,G,H,J⟩=>ay (e g B i D _ G J) (λ L N⟨O,h,j,m,p⟩=>?_));calc SS;have r:DL (ú a) h {N with AL:=N.v.push {BY:=.au "slice",BX:=.bP #[A,L,.none]}}:=j.fT λt u y=>GO y;let⟨B,id,D,G,J⟩:=MM _ i h s v A L l O N.v.R.L k r x (agY ..) H m p;calc tail_any G D J (by with_unfolding_all rfl)
def qw(a:g3)(lo b:FQ U):g3:=(a.drop$ RL HT.J9 0 lo).take (RL (RL HT.J9) b-RL HT.J9 0 lo)
def Gm(a:g3)(lo b:FQ U):(qw a lo b).length<=a.length:=by unfold qw;rw[Ũ,g4];lia
end
def Gn(b:M)(a:U):FQ M:=if 0<=a then(if a<b then f4 a.aj else none)else if-GI<=a then f4 (a+b).aj else none
def Eo(a:AX v)(b:U):he v:=(RL Gn b).bind λc=>a[c]?
def Oj{b:U}{c:M}(a:Gn i b=HE):LR Ur=HE/\c<i/\-jp i<=b/\b<i:=by unfold Gn at a;by_cases d:0<=b;rw[Sc]at a;by_cases e:b<i;rw[ii e]at a;have f:=Ü a;calc⟨by rw[s3 Ef,f],gt,gt,e⟩;rw[hf e]at a;cases a;rw[TB]at a;by_cases e:-(i)<=b;rw[ii e]at a;have f:=Ü a;calc⟨by rw[im yD e,f],gt,e,gt⟩;rw[hf e]at a;cases a
def Co{b:Type}{a:List b}{c:U}{v:b}(d:mt Eo=DE):∃e,RL (Ur c)=HH/\a[e]? =DE/\e<a.length/\-jp a.length<=c/\c<a.length:=by unfold Eo at d;cases f:RL Gn c with
|none=>rw[f]at d;cases d
|some e=>rw[f]at d;let⟨g,h,i,j⟩:=Oj f;calc⟨e,g,d,h,i,j⟩
def rE{b:Type}{a:List b}{v:b}(c:a[i]? =DE):Eo a (jp i)=DE:=by
 have d:=(φ.J c).1;have e:RL Gn i=RW:=by unfold Gn;rw[JO,JO];simp
 unfold Eo;rw[e];calc c
def ab9(a:Expr):Prop:=∀b c,lf (HA (Eg a))=operate [b,c] (lf yC)
def IxR(X:Cx)(a:R2):Prop:=∀(b c:Expr)(d:BO)(e:lm)(f:St)(g:Hp)(h i:V)(v j:ge)(k:VK),QJ FJ e->Ŗ h v->up Ŗ->t3 a g k->HA (Eg c) v j=operate [v,j] (yC v j)->OO (QX (lf subscriptTail v j) (DS (EP X) k)) e
def Gp(X:Cx)(id:HC)(a:IX):Prop:=∀(b:BO)(c:lm)(d:St)(e:Hp)(f:V)(g:g3)(v:ge)(h:wr)(i:VK),aqd (Ŗ f v->ww Ĺ->IO (on a)->OO (QX (call (.aq id) (v::h)) (v4 (EP X) i)) c)
section
variable{X:Cx}{a b:Expr}{tb:TE}
def cB{g:R2}(c:IxR X g)(d:PE X a q)(e:PE X b tb)(f:ab9 b:=by calc WJ):PE X (io .bq o)$ tOp g q tb:=by intro h i j k l m n;calc aeO$ FF (s3 afj) λv p r s t u x y z A=>DZ (DQ (io c h r j u) v p l) z A JI
def aih(K:Γ):R2:=λa b c d=>∃e f g v,a=EN/\b=VF/\py (BN c)/\on Eo=DE/\IQ d
def afu(K:Γ):R2:=λa b c d=>∃e f g v,a=EN/\b=VF/\py (Lg K c)/\on Eo=DE/\IQ d
def Cp:IxR X$ aih X.K:=by
 intro a b c d e f g h v i j k l m n o;let⟨p,q,r,z,I,I,s,t,u⟩:=n;cases l;let⟨y,I⟩:=m;let⟨A,B,D,G⟩:=k.list s;let⟨H,J,L,N,O,a⟩:=Co t;let⟨w,b,g⟩:=B.get L;have h:=B.length;have i:=xo;have p:VR YF d:=⟨z,f,k,g,u⟩;by_cases q:0<=r;have l:r.aj=H:=by rw[Ef q a]at J;exact Ü J
 calc im (item_listR D.aF q) (by rw[l];simpa using b) p o;have l:(r+jp A.ac.L).aj=H:=by rw[im yD O]at J;rw[Ç,<-h];exact Ü J
 calc Vc (x:=w) D.aF.aB auO.E (im (im (Vd D.aF) (by rw[Ç]<;>lia)) (by rw[l];simpa using b) (ln p)) o
def afv:IxR X$ afu X.K:=by intro a b c d e f g h v i j k l m n o;let⟨p,q,r,z,I,I,s,t,u⟩:=n;cases l;let⟨x,I⟩:=m;let⟨y,A,B,D⟩:=k.tuple s;let⟨G,H,J,L,N,O⟩:=Co t;let⟨w,a,b⟩:=A.get J;have g:=A.length;have h:=xo;have i:VR YF d:=⟨z,f,k,b,u⟩;calc Vc B.aB slot_tuple_getitem.E (Op (getItem_tuple B) (by rw[Ç,<-g];calc H) as2 (ln i)) o
def Lq(a:wr)(b c:M)(d:ge):pi.fh (re ·.er) {BY:=II,BX:=.seq a.ac b}={BY:=II,BX:=.seq (re a.set).ac b}:=by simp[pi.fh]
def ú.Ý{a:Hp}(b:wE (JV FJ))(g:JD=f4 (.Ý x)):∃(h:wr) (i:M),Ĺ x h/\d.v.ad c=f4 {BY:=II,BX:=.seq h.ac i}/\x.length<=Ζ:=by let⟨z,h,i,j,k⟩:=b.aI c _ g;calc⟨h,i,j,k,z⟩
def ú.afw{h:Hp}{j:g3}{a:wr}{m:M}{g:pi->pi}(n:FG (FJ f) d)(o:h c=f4 (.Ý j))(k:d.v.ad c=f4 {BY:=II,BX:=.seq a.ac m})(b:g {BY:=II,BX:=.seq a.ac m}={BY:=II,BX:=.seq H.ac i})(p:FW Ĺ)(l:x.length<=Ζ)(q:M):JV FJ (ø h c (.Ý x)) {d with AL:=d.v.em c g,DO:=q}:=by
 have r:(d.v.em c g).ad c=f4 {BY:=II,BX:=.seq H.ac i}:=by rw[dQ g k (by rw[b]<;>rfl),b]
 calc n.pO (by rw[o];trivial) GQ (λs t u v=>(ga Jz$ Ne.symm u).trans v) (CM r) ?_;calc⟨l,H,i,p,r⟩
def Ol:V->V->V->VT DV:=λa b v c d=>∃e f g h,a=EN/\b=VF/\c e=f4 (.Ý f)/\Gn f.length g=OE/\d (AH ø (AQ (f.set h v)))
def d7:aff X Ol:=by
 intro a b c d e f v g h i j k l m n o;let⟨p,q,r,s,I,I,t,u,x⟩:=o;cases l;let⟨y,I⟩:=m;let⟨z,A,B,D,G⟩:=k.Ý t;let⟨H,J,L,N⟩:=Oj u;have O:=B.length;have a:=xo;have c:=k.afw t D (Lq z A s i) (B.set n s) (by rw[ť];calc G) b.aG;by_cases d:0<=r;have e:r.aj=s:=by rw[Ef d N]at H;exact Ü H
 calc im (PySem.W.ki_setAt D d) (by rw[Ç,<-O];calc N) (by rw[e];calc⟨_,c,x⟩);have e:(r+z.ac.L).aj=s:=by rw[im yD L]at H;rw[Ç,<-O];exact Ü H
 calc im (im (PySem.W.ki_setBack D) (by rw[Ç,<-O];calc L)) (by rw[e];calc⟨_,c,x⟩)
def Cq(lo a:FQ U)(b:M):(jc lo a none b).1=kw (AW HT.J9 lo)/\lv (jc lo a none b)=kw (sK (HT.J9 b))/\wS (jc lo a none b)=1:=by
 calc⟨?_,?_,I⟩;cases lo with
 |none=>simp[jc,HT.J9]
 |some c=>simp only[jc,HT.J9,Us,show jp 1>0 by decide,ahb];by_cases d:c<0;simp only[d,ahb]<;>lia;simp only[d,asS]<;>lia
 cases a with
 |none=>simp[jc,HT.J9]
 |some c=>simp only[jc,HT.J9,Us,show jp 1>0 by decide,ahb];by_cases d:c<0;simp only[d,ahb]<;>lia;simp only[d,asS]<;>lia
def yP(a:wr)(lo b:FQ U):slicePick a.ac lo b none=((a.drop$ RL HT.J9 0 lo).take (RL (RL HT.J9) b-RL HT.J9 0 lo)).ac:=by let⟨c,d,e⟩:=Cq lo b a.ac.L;unfold slicePick;rw[c,d,e];simp only[sliceRange_one,pick_run]<;>rfl
def afx(K:Γ):atJ:=λb lo c d e=>∃a f,b=AC/\AR (BN d)/\ ∀g,UI d->e FU (DR ø (AQ (qw f lo c)))
def ab_:SlR X$ afx X.K:=by intro a b c d e v f g lo h i j k l m n o p;let⟨q,r,I,s,t⟩:=p;cases l;let⟨u,x,y,z⟩:=k.list s;have A:=x.length;calc⟨_,_,auO.E,y.aF.aB,?_⟩;calc s4 (BQ (wpAny_getItem_list_slice y.aF m) .none) ?_ (by rw[Ç]<;>lia);rw[yP,<-A];calc⟨wp b.v.R.L,_,k.iB (λB D t=>GO t) AK ?_,I,t _$ k.aI.fresh AK⟩;calc⟨É (Gm r lo h) z,_,0,(x.drop _).take _,KJ⟩
def iD:V->nm|.Ť=>Z|.bl _=>Z|OQ=>Z|Rs=>Z|_=>gl
def eqV:V->V->nm|.Ť,.Ť=>Z|.bl a,.bl b=>a==b|.bl a,LZ=>(if a then 1 else 0)==b|KM,.bl b=>a==(if b then 1 else 0)|KM,LZ=>a==b|.str a,.str b=>a==b|_,_=>gl
def afy{e:V}{v:ge}(b:Ŗ e m)(a:Ŗ h v)(f:iD e=Z)(c:iD h=Z):ahO p d m v$ FG eqV:=by cases e with
|Ť=>cases b;cases h with
 |Ť=>cases a;calc apA _
 |bl g=>cases a;calc apB g
 |int g=>let⟨i,I⟩:=a;calc DL apC
 |str g=>let⟨i,I⟩:=a;calc DL apD
 |_=>calc NX (show NS from c)
|bl j=>cases b;cases h with
 |Ť=>cases a;calc apE j
 |bl g=>cases a;calc apF j g
 |int g=>let⟨i,I⟩:=a;calc DL$ apG j
 |str g=>let⟨i,I⟩:=a;calc DL$ apH j
 |_=>calc NX (show NS from c)
|int j=>let⟨k,I⟩:=b;cases h with
 |Ť=>cases a;calc AS apI
 |bl g=>cases a;calc AS apJ g
 |int g=>let⟨i,I⟩:=a;calc DL$ AS apK
 |str g=>let⟨i,I⟩:=a;calc DL$ AS Ed
 |_=>calc NX (show NS from c)
|str j=>let⟨k,I⟩:=b;cases h with
 |Ť=>cases a;calc AS apL
 |bl g=>cases a;calc AS apM g
 |int g=>let⟨i,I⟩:=a;calc DL$ AS Ee
 |str g=>let⟨i,I⟩:=a;calc DL$ AS apN
 |_=>calc NX (show NS from c)
|_=>calc NX (show NS from f)
def eqU(a:V)(c:ge):nm:=match c with|.none=>eqV .Ť a|.c0 b=>eqV (.bl b) a|OR _=>eqV OR a|.str z _=>eqV (.str z) a|_=>gl
def Cr{b:V}(a:No Ŗ)(c:iD h=Z):eqU b m=eqV h b:=by cases h with
|Ť=>cases a;rfl
|bl d=>cases a;rfl
|int e=>let⟨f,I⟩:=a;rfl
|str z=>let⟨f,I⟩:=a;rfl
|_=>calc NX (show NS from c)
def Cs :∀{a:g3}{b:wr},io Ĺ->a.all iD=Z->b.any (eqU h)=a.any (λc=>FM eqV)|_,_,.nil,_=>I|c::a,d::b,py .cons,g=>by rw[qU,ξ]at g;rw[aA,aA,Cr e g.1,Cs f g.2]
def rF{v:ge}(c:Ŗ h v)(e:iD h=Z):∀{a:g3}{b:wr},io Ĺ->a.all iD=Z->∀f∈b,DS (ahO p) v (eqU h f)
 |_,_,.nil,_=>λf g=>by cases g
 |i::a,f::b,AS .cons,l=>λm g=>by rw[qU,ξ]at l;rcases ν.J g with I|g;rw[Cr j l.1];calc MB afy l.1 e;calc AH rF k l.2 m g
def inV(b:V)(a:g3):nm:=a.any λc=>Ev eqV
def rIn(K:Γ)(a:nm):R2:=λb c d e=>∃f g,c=EH/\(QJ BN\/QJ (Lg K))/\FE iD/\g.all iD=Z/\e (.bl (if a then ! inV b g else inV b g)) d
def Ct:kM X (Ź .fe)$ rIn X.K Z:=by intro a b c d e f v g h i j k l;let⟨m,n,I,o,p,fs,q⟩:=l;cases k;rcases o with o|o;let⟨r,s,t,u⟩:=i.list o;calc SeqAt.notIn_listAt _ t.aF (λw x=>rF j p s fs w arG) ⟨.bl _,d,i,I,?_⟩;rw[show r.ac.any _=r.any (eqU e)by simp,Cs s fs];calc q;let⟨r,s,t,u⟩:=i.tuple o;calc SeqAt.notIn_tupleAt _ t (λw x=>rF j p s fs w arG) ⟨.bl _,d,i,I,?_⟩;rw[show r.ac.any _=r.any (eqU e)by simp,Cs s fs];calc q
def hV:a9 X (.aq "len") λa b c=>∃d e,a=[BK]/\(UK (bI X.K)\/UK (Lg X.K))/\c (AB e.length) b:=by intro f g h b a i c j k l;let⟨d,e,I,m,n⟩:=l;let⟨o,I,p⟩:=kN k;cases p;have q:=xo;rcases m with m|m;let⟨r,s,t,u⟩:=j.list m;have v:=s.length;calc Calls.call_len_list t.aF (by simp only[Ç]<;>lia) ⟨AB e.length,b,j.mS _,CM (by rw[Ç,v]),n⟩;let⟨r,s,t,u⟩:=j.tuple m;have v:=s.length;calc len_tuple t (by simp only[Ç]<;>lia) ⟨AB e.length,b,j.mS _,CM (by rw[Ç,v]),n⟩
def Cu:a9 X II λa b c=>∃d e,a=[BK]/\(UK (bI X.K)\/UK (Lg X.K))/\ ∀l,atr (.Ý e):=by intro f g h b a i c j k m;let⟨d,e,I,n,o⟩:=m;let⟨p,I,q⟩:=kN k;cases q;have r:∀s,Ĺ e s->e.length<=Ζ->∀(t:ř) u,(∀v x,g.v.ad v=XV->t.ad v=XV)->t.ad g.v.R.L=UB->ga (GP (EP X) c):=λs y z t u A B=>⟨wp g.v.R.L,_,j.iB (t':=g.aG) A AK (show akS aL _ t _ (.Ý e)from⟨z,s,u,y,B⟩),I,o _$ j.aI.fresh AK⟩;rcases n with n|n;let⟨s,y,D,z⟩:=j.list n;have G:=y.length;let⟨H,J,L,N,O⟩:=D.aF;calc apO d GQ J L O (λt u A B=>HP$ EB$ r s y z) (by simp only[Ç]<;>lia);let⟨s,y,D,z⟩:=j.tuple n;have G:=y.length;let⟨H,J,L,N,O⟩:=D;calc apO d Ps J L O (λt u A B=>HP$ EB$ r s y z) (by simp only[Ç]<;>lia)
def yQ:a9 X ado λa b c=>∃d e,a=[BK]/\((UK (bI X.K)/\ ∀l,ME b->c CG (LB ø (.c9 e)))\/(UK (Lg X.K)/\c BK b)):=by intro f g h b a i c j k m;let⟨d,e,I,m⟩:=m;let⟨n,I,o⟩:=kN k;cases o;rcases m with⟨p,q⟩|⟨p,q⟩;let⟨r,s,t,u⟩:=j.list p;have v:=s.length;calc call_tuple_list t.aF (λx y=>?_) (by simp only[Ç]<;>lia);have z:=j.fT (t':=g.aG) y;have A:GP FJ _ {g with AL:=x.push _}:=z.iB (λB D G=>GO G) AK (show AY (akS aL) (.c9 e)from⟨u,r,s,ga IsTup.new⟩);calc⟨wp x.R.L,_,A,I,q _$ z.aI.fresh AK⟩;let⟨r,s,t,u⟩:=j.tuple p;calc call_tuple_same t ⟨BK,b,j,I,q⟩
def vM(K:Γ)(a:HC)(c:V)(b:Hp):Prop:=match c with|Rs=>a="str"|OQ=>a="int"|BK=>(a="list"/\∃e,UK BN)\/(a="tuple"/\∃f,K.E d=MO/\f.cls=ado/\hm f.b0)\/(a="dict"/\((∃g,Fk=f4 (.dK g))\/ ∃g,Fk=f4 (.dT g)))\/(a="set"/\∃S h,Fk=f4 (.set S h))|_=>DN
def Xi{j:Hp}{g:HC}{v:ge}(c:JV FJ j d)(i:Ŗ h v)(b:ww (vM X.K) j):d.do v g/\∀a,v=AC->∃k,(d.v.ad a=RY/\hm k.b0):=by cases h with
|str z=>let⟨l,I⟩:=i;cases(show g="str"from b);calc⟨typeIs_str d z l,λ_ m=>nomatch m⟩
|int n=>let⟨l,I⟩:=i;cases(show g="int"from b);calc⟨aeP d n l,λ_ m=>nomatch m⟩
|ref o=>
 cases i;rcases b with⟨I,p,q⟩|⟨I,r,s,t,u⟩|⟨I,s⟩|⟨I,S,x,s⟩;let⟨y,_,A,_⟩:=c.list q;calc⟨A.aF.aB,λa m=>?_⟩;cases m;let⟨r,x,m,B,u,_⟩:=A;calc⟨r,m,u⟩;calc⟨⟨r,HX$ c.yu o,t⟩,λa m=>?_⟩;cases m;calc⟨r,HX$ c.yu _,u⟩;have z:∃r,d.v.ad o=f4 r/\r.dJ:=by rcases s with⟨D,s⟩|⟨D,s⟩;let⟨_,_,_,_,r,_,_,m,G,_⟩:=c.aI o _ s;calc⟨r,m,G⟩;let⟨_,_,_,_,r,_,_,m,G,_⟩:=c.aI o _ s;exact⟨r,m,G⟩
 let⟨r,m,G⟩:=z;calc⟨⟨r,m,G.1⟩,λa H=>?_⟩;cases H;calc⟨r,m,lv G⟩;let⟨r,_,_,_,m,G,_⟩:=c.aI o _ s;calc⟨⟨r,m,G.1⟩,λa H=>?_⟩;cases H;calc⟨r,m,lv G⟩
|_=>calc š b
def afz(K:Γ)(b:HC)(c:IX)(a:TE):TE:=λd e f=>s3 a λg h=>ww (ZB b)/\c g [] h f
def tBM(K:Γ)(b:HC)(c:IX)(a:TE)(d:TA):TE:=λe f g=>py a λh i=>t3 (ZB b)/\IO d (λj k=>AS (c h) g)
variable {t:TA}{name:ï} {T id:HC}{r:IX}
def afA(e:wm T)(c:Slot T name id)(d:ap4)(f:Gp X id r)(g:PE X n q)(a:FA (œ n name) (FA (rw n))=FA (rw n):=by rfl)(b:(z.bS==o.line)=Z:=by rfl):PE X (GJ (.ao n name z) [] [] o)$ afz X.K T r q:=by intro h i j k l m p;calc io wpAny_Call_method0_late$ ay (KB (g h) _ m p) (λ v s⟨t,u,x,y,A,B⟩=>?_);let⟨D,G⟩:=DZ Xi A;calc⟨T,id,e,c,d,D,G,da I$ h7$ DZ (f h s j u t [] v [] l) .nil B⟩
def ad7(g:wm T)(d:Slot T name id)(f:ap4)(h:Gp X id r)(i:PE X B q)(j:PA X (n::s) t)(b:FA (œ B name) (FA (rw B))=FA (rw B):=by rfl)(e:((aG o$ XE (n::s)).all (λl=>! l.1)&&(fP o$ FA$ bY []).all (λl=>l.1.by)&&sB ((n::s).length+ark []+(if([]:AX m3).a2 then 0 else 1)<30))=Z:=by rfl)(c:(z.bS==o.line)=Z:=by rfl)(k:XE (n::s)=(gl,FA$ rw n)::FA (Ù s):=by rfl)(a:pr ((aG o$ FA$ Ù s).any (·.1)):=by rfl):PE X (GJ (.ao B name z) (n::s) [] o)$ tBM X.K T r q t:=by intro m p u x y A D;calc zn wpAny_Call_method_late c I$ ay (i m p u x _ A D) (λ v G⟨l,H,J,L,N,O⟩=>?_);let⟨p,x⟩:=Xi J L N;calc⟨T,id,g,d,f,p,x,?_⟩;have A:=j o m G u H _ J O;rw[k]at A|-;calc da (by show pr ((gl||(aG o _).any (·.1)));rw[a]<;>rfl)$ g9 ?_;calc ay A (λ D N⟨p,x,G,H,J⟩=>h m N u x l p v D y G L H J)
end
def MtM(X:Cx)(id:HC)(a:IX):Prop:=∀(b:BO)(c:lm)(d:St)(e:Hp)(f:V)(g:g3)(v:ge)(h:wr)(i:VK),aqd (Ŗ f v->ww Ĺ->IO (on a)->OO (QX (call (.aq id) (v::h)) (v4 (EP X) i)) c)
def Ĺ.one:∀{b:V}{a:wr},Ĺ [b] a->∃c,a=[c]/\lf Ŗ|_,_,.cons d .nil=>⟨_,I,d⟩
def Ĺ.zero:∀{a:wr},Ĺ [] a->a=[]|_,.nil=>I
def Ĺ.dropLast(a:FW Ĺ):Ĺ x.dropLast H.dropLast:=by induction a with
|nil=>calc .nil
|cons b c d=>cases c with
 |nil=>calc .nil
 |cons e f=>calc v4 .cons
def Ĺ.eraseIdx:∀{a:g3}{b:wr}(c:M),io Ĺ->Ĺ (a.eraseIdx c) (b.eraseIdx c)|_,_,_,.nil=>.nil|_,_,0,.cons _ d=>d|_,_,BD,.cons e d=>.cons e$ re Ĺ.eraseIdx
def Ĺ.rep(a:FW Ĺ):∀b:M,Ĺ (Λ b x).bQ (Λ b H).bQ|0=>.nil|BP=>by calc Ĺ.append a$ io Ĺ.rep
def Lr(l:AX v):l.eraseIdx (l.length-1)=l.dropLast:=by induction l with
|nil=>rfl
|cons a b c=>cases b with
 |nil=>rfl
 |cons d b=>
  have e:(a::d::b).length-1=((d::b).length-1)+1:=by have f:(a::d::b).length=b.length+2:=I;have g:(d::b).length=b.length+1:=I;lia
  rw[e,List.eraseIdx_cons_succ,c];all_goals rfl
def zF :∀(l:AX v)(a:M),IZ l.eraseIdx<=l.length|[],_=>AK|_::_,0=>yr _|_::b,DC=>M.succ_le_succ$ sK zF
def zG(a:wr):∀(c:M)(b:wr),aks (λd e=>d++e) b.ac (Λ c a.ac)=(b++(AA Λ).bQ).ac
 |0,b=>mo
 |BD,b=>by
   have f:b.ac++a.ac=(b++a).ac:=mo
   have g:(b++a)++(AA Λ).bQ=b++(Λ BD a).bQ:=by rw[cQ,kl,Ĝ]
   rw[<-g,<-mt zG _,<-f,cQ,ĥ]
section
variable {xs:g3}
def ú.aca{acb:wr}{g:YJ->YJ}{h:M}(n:NW)(j:Db=BG xs)(o:d.v.ad c=f4 {BY:=II,BX:=.seq H.ac i})(k:g H.ac=acb.ac)(l:Ĺ x acb)(m:x.length<=Ζ):WG (UR (.Ý x)) {d with AL:=d.v.em c$ pi.fh g,DO:=h}:=by have p:=arS o g;rw[k]at p;calc n.pO (by rw[j];calc CA) GQ (λq r s t=>(Jz d.v _$ Ne.symm s).trans t) (CM p) ?_;calc⟨m,acb,_,l,p⟩
def ú.aij(h:NW)(c:FW Ĺ)(g:x.length<=Ζ):WG (ø b d.v.R.L (.Ý x)) {d with AL:=d.v.push {BY:=II,BX:=.seq H.ac},DO:=i}:=h.iB (λ_ _ j=>GO j) AK ⟨g,H,0,c,KJ⟩
def ú.fresh(c:NW):hm$ b d.v.R.L:=c.aI.fresh AK
def ú.Gq(h:NW)(g:Db=BG xs):xs.length<=Ζ/\∃(i:wr) (j:M),Ĺ xs i/\xs.length=i.length/\d.v.ad c=f4 {BY:=II,BX:=.seq i.ac j}:=by let⟨z,i,j,k,l⟩:=h.aI c _ g;calc⟨z,i,j,k,k.length,l⟩
def Gr(a:i<=Ζ):pr$ h8 i:=by calc im PM
end
def Cv:IX:=λa b c d=>∃l e f,a=CG/\b=[f]/\c l=PV .Ý/\e.length<Ζ/\d .Ť (WH l (AQ (e++[f])))
def a_:MtM a "list.append" Cv:=by intro b c d e f g v h i j k m n;let⟨l,o,p,I,I,q,r,s⟩:=n;cases k;let⟨t,I,u⟩:=m.one;let⟨z,x,y,A,B,D⟩:=j.Gq q;calc lJ F.slot_list_append ⟨_,D,I⟩ F.entry_list_append (ga F.args_list_append_2) (PySem.list_append l x.ac y t (by rw[Ç];lia))$ wn D;calc⟨.Ť,_,s4 (j.aca (acb:=x++[t]) q D) (A.append (.cons u .nil)) ?_,I,s⟩;rw[π,Kh];lia
def acd:IX:=λa b c d=>∃l e f zs,a=CG/\b=[EN]/\c l=f4 (.Ý f)/\c e=BG zs/\f.length+zs.length<=Ζ/\d .Ť (WH l (AQ (f++zs)))
def Ss:MtM a "list.extend" acd:=by
 intro b c d e f g v h i j k m n;let⟨l,o,p,zs,I,I,q,r,s,t⟩:=n;cases k;let⟨u,I,x⟩:=m.one;cases x;let⟨z,y,A,B,D,G⟩:=j.Gq q;let⟨H,J,L,N,O,b⟩:=j.Gq r;have c:y.ac.L+J.ac.L<=Ζ:=by rw[Ç,Ç];lia
 have d:¬(! y.ac.a2&&h8 (y.ac.L+J.ac.L))=Z:=by rw[Gr c,adI];exact à
 calc lJ F.dM ⟨_,G,I⟩ F.entry_list_extend (ga F.args_list_extend_2) (Op (asz l y.ac A o J.ac L d)) ⟨G,b,?_⟩;calc⟨.Ť,_,s4 (j.aca q G) (B.append N) ?_,I,t⟩;rw[π];lia
def aik:IX:=λa b c d=>∃l e f,a=CG/\b=[]/\c l=PV .Ý/\e[e.length-1]? =MO/\d f (WH l (AQ e.dropLast))
def afB:MtM a "list.pop" aik:=by
 intro b c d e f g v h i j k m n;let⟨l,o,p,I,I,q,r,s⟩:=n;cases k;have t:=m.zero;subst t;let⟨z,u,x,y,A,B⟩:=j.Gq q;let⟨D,G,H⟩:=y.get r;have J:u.ac[u.ac.L-1]? =f4 D:=by show u.ac[u.length-1]? =f4 D;rw[<-gA,<-A];exact G
 calc lJ F.en ⟨_,B,I⟩ F.ej (F.args_list_pop_1 _) (asA l u.ac x D J (by rw[Ç];lia))$ wn B;calc⟨p,_,j.aca q B ?_ y.dropLast ?_,H,s⟩;rw[Ç,vE,Lr];rw[List.length_dropLast];lia
def afC:IX:=λa b c d=>∃l e f g h,a=CG/\b=[QA]/\c l=PV .Ý/\-QL<=f/\f<QL/\Ur f e.length=HK/\e[g]? =OE/\d h (WH l (AQ (e.eraseIdx g)))
def Xj:MtM a "list.pop" afC:=by intro b c d e f g v h i j k m n;let⟨l,o,p,q,r,I,I,s,t,u,x,y,A⟩:=n;cases k;let⟨B,I,D⟩:=m.one;let⟨G,I⟩:=D;let⟨z,H,J,L,N,O⟩:=j.Gq s;let⟨w,b,c⟩:=L.get y;calc lJ F.en ⟨_,O,I⟩ F.ej (ga F.args_list_pop_2) (asB l H.ac J p G q w (EB amM) (by rw[Ç,<-N];calc x) (by rw[<-gA];calc b) (by rw[Ç];lia))$ wn O;calc⟨r,_,j.aca s O ?_ (L.eraseIdx q) ?_,c,A⟩;rw[vE];have:=zF o q;lia
def ail:R2:=λa b c d=>∃l e f zs,a=CG/\b=EN/\c l=f4 (.Ý f)/\c e=BG zs/\f.length+zs.length<=Ζ/\∀g,UI c->d FU (WH g (AQ (f++zs)))
def xt:KQ (eQ .Add) ail:=by
 intro b c d e f g v h i j k m n;let⟨l,o,p,zs,I,I,q,r,s,t⟩:=n;cases k;cases m;let⟨z,u,x,y,A,B⟩:=j.Gq q;let⟨D,G,H,J,L,N⟩:=j.Gq r;calc PySem.P.add_list B N ?_ (by rw[Ç,Ç];lia);have O:u.ac++G.ac=(u++G).ac:=mo
 rw[O];calc⟨.ref _,_,(j.aij (y.append J) (by rw[π];lia)),I,t _ j.fresh⟩
def aim:R2:=λa b c d=>∃l e f,a=CG/\b=SA/\c l=f4 (.Ý f)/\ -QL<=e/\e<QL/\f.length*e.aj<=Ζ/\∀g,UI c->d FU (WH g (AQ (Λ e.aj f).bQ))
def ace(a:AX v)(b:M):(sK Λ).flatten.length=b*a.length:=by induction b with
|zero=>simp
|HW b c=>rw[cQ,kl,π,c,m_,ahP]
def xu:KQ (eQ .Mult) aim:=by
 intro b c d e f g v h i j k m n;let⟨l,o,p,I,I,q,r,s,t,u⟩:=n;cases k;let⟨x,I⟩:=m;let⟨z,y,A,B,D,G⟩:=j.Gq q;have H:y.ac.L*o.aj<=Ζ:=by rw[Ç,<-D];exact t
 have J:¬y.ac.L*o.aj>(QL-1)/8:=by
  have:Ζ<=(QL-1)/8:=DU
  lia
 have L:¬(! akt o)=Z:=by rw[HX amM];exact à
 have N:¬h8 (y.ac.L*o.aj)=Z:=by rw[Gr H];exact à
 have O:aks (λb d=>b++d) #[] (Λ (if y.ac.a2=Z then 0 else o.aj) y.ac)=(Λ o.aj y).flatten.toArray:=by
  have e:=λf=>by have:=zG y f [];rw[ag]at this;exact this
  rw[e];cases y with
  |nil=>simp
  |cons g h=>rw[s4 hf]
 calc CD wpAny_binaryOp_repeat_ref ⟨_,G,I⟩ (λi=>aeP i o x) noFill_list_mul F.fills_int_mul F.eo repeat_list F.slot_int_index.E$ lJ F.eo (aeP c o x) F.entry_int_rmul (ga F.args_int_rmul_2) (int___rmul___int_list o x l y.ac A) ⟨G,I,⟨_,G,I⟩,lJ F.slot_list_mul ⟨_,G,I⟩ F.entry_list_mul (ga F.args_list_mul_2) (arT l y.ac A o x L J N)$ wn G⟩;rw[O];calc⟨.ref _,_,(j.aij (B.rep o.aj) (by rw[ace,gd];calc t)),I,u _ j.fresh⟩
section
variable {s:lm}
set_option maxRecDepth 100000 in end
def Ĺ.ints:∀{b:At}{a:wr},Ĺ (BT b.q) a->io J3
 |[],a,c=>by cases c;calc J3.nil
 |d::b,a,c=>by cases c with
  |cons e f=>let⟨g,I⟩:=e;calc DR J3.cons$ Ĺ.ints f
def rG:∀{a:wr}{b:At},io J3->Ĺ (BT b.q) a
 |_,_,.nil=>by calc Nk
 |_,_,s3$ .cons c=>by calc J4 (show ga Ŗ from JA d)$ rG e
def Ĺ.bls:∀{b:AX nm}{a:wr},Ĺ (b.q V.bl) a->a=b.q ge.c0
 |[],a,c=>by cases c;rfl
 |d::b,a,c=>by cases c with
  |cons e f=>cases e;rw[Ĺ.bls f,Â]
def Ĺ.Xk(a:Ĺ [V.ref c] H):H=[ge.ref c]:=by cases a with
|cons a b=>cases b;cases a;rfl
def Om(K:Γ):RO:=λa b c=>∃(d:β) (e:At),a=[V.ref d]/\v4 BN (BT e.q)/\e.length<64/\∀(f:At)(g:β),f.dW e->f.bb (·<= ·)->hm MM->c FU (ø b g (AQ (BT f.q)))
def acf(a:i<64):i<=Ζ:=by rw[eR];lia
def Su:OZ "sorted"$ EL Om:=by
 intro b c d e f g h i j k;let⟨l,m,I,n,o,p⟩:=k;let⟨q,r,s,_⟩:=i.list n;rw[Ĺ.Xk j];have t:=r.ints;calc aku s.aF t (by rw[t.length];calc o) λu v x y z=>?_;let⟨A,B⟩:=akv c.v q u;have D:YG$ BT v.q:=by rw[θ,y.ey];exact acf o
 calc⟨.ref _,ø e _$ .Ý _,i.iB (λ_ _=>akw) (yr _) ⟨D,u.aU,A,rG x,B⟩,I,p v _ y z$ i.aI.fresh$ yr _⟩
def Xl(K:Γ):IX:=λa b c d=>∃(e:β) (f:g3) (g:V) (h:M) (z:V),a=V.ref e/\b=[g]/\py (BN c)/\iD g=Z/\f.all iD=Z/\f[h]? =f4 z/\eqV z g=Z/\(∀(i:M)(j:V),i<h->f[i]? =ak6->pr (eqV j g))/\PF (AD h)
def Oo(a:x.all iD=Z){z:V}(b:x[i]? =f4 z):iD z=Z:=Ň.J a z$ Î b
def Xm:Gp a "list.index"$ EL Xl:=by intro u B0 o0 p0 C0 r0 v s0 D0 j0 x g t0;let⟨u0,y,v0,t,z,I,I,A,B,c,h,i,j,w0⟩:=t0;cases x;cases g with
|cons D G=>
 rename_i H x0;cases G;let⟨b,e,⟨⟨k0,J,L,N⟩,y0,k,O,l0,a0⟩,b0⟩:=j0.list A;subst O a0;let⟨z0,c0,d0⟩:=e.get h;let⟨l,m⟩:=φ.J c0;have m0:=e.length;have f0:t<b.ac.L:=as3
 have n0:=eR;calc lJ y9 ⟨_,k,I⟩ PySem.F.entry_list_index (ga PySem.F.args_list_index_2) (sw (im (SeqAt.list_indexAt u0 b.ac y0 J N H (eqU v0) t f0))) ⟨k,λg0 n=>CF (rF D B) g0 abk,?_⟩;have f:b.ac[t]=z0:=aeG
 rw[f,Cr d0$ FM Oo];calc i;intro h0 A0 o;have p:h0<y.length:=gt
 have d:=δ p;let⟨i0,q,r⟩:=e.get d;let⟨_,s⟩:=φ.J q;have f:b.ac[h0]=i0:=as6
 rw[f,Cr r$ re Oo];calc j h0 _ o d;calc⟨AD t,p0,j0.mS _,EJ,w0⟩
def rH{w:Ŏ}{l:β}{a:YJ}(b:GV d.v.IsList)(c:∀e:lm,e={d with AL:=d.v.push {BY:=.au "list_iterator",BX:=.bP #[CG,.int 0 0]}}->(e.v.cG d.v.R.L l 0/\GV e.v.IsList)->l≠d.v.R.L->u (wp d.v.R.L) e):am9 (Kf CG) u J d:=by
 have f:l<d.v.R.L:=by let⟨_,g,_⟩:=b;exact Ó g
 calc agW b$ c _ I ⟨⟨_,KJ,I,I⟩,b.push _⟩$ ģ f
def uS{w:Ŏ}{a:AX nm}(b:H=a.q ge.c0):VR TruthOf p (λc v=>H.ac[c]? =DE) λc=>HA$ a.getD c:=λc v d e f g h=>by
 have i:H[c]? =DE:=SX
 rw[b,Δ]at i;let⟨k,l,I⟩:=Υ.J i;have m:HA (a.getD c)=k:=by rw[γ,l]<;>rfl
 have n:e (HA (a.getD c)) d:=h;rw[m]at n;calc bH n
def tT:∀a:AX nm,(ι a.length).any (λb=>HA$ a.getD b)=a.any id|[]=>I|c::a=>by rw[Β,fY,aA,uA,aA,<-tT a];all_goals rfl
def tV:∀a:AX nm,(ι a.length).all (λb=>HA$ a.getD b)=a.all id|[]=>I|c::a=>by rw[Β,fY,qU,fZ,qU,<-tV a];all_goals rfl
def am_(K:Γ):RO:=λa b c=>∃(d:β) (e:AX nm),a=[V.ref d]/\v4 BN (e.q V.bl)/\c (.bl (e.any id)) b
def ain(K:Γ):RO:=λa b c=>∃(d:β) (e:AX nm),a=[V.ref d]/\v4 BN (e.q V.bl)/\c (.bl (e.all id)) b
def afD(b:NT):OZ "any"$ EL am_:=by intro c d e f g h i j k l;let⟨m,n,I,o,p⟩:=l;let⟨q,r,s,_⟩:=j.list o;rw[Ĺ.Xk k];have t:=r.bls;calc apP auM;subst v;calc⟨_,_,_,_,_,_,_,I,at0 (A:=a.A.in1),st,uS t,λy z B=>?_⟩;calc⟨_,f,atY,?_,p⟩;rcases ν.J J with L|J;calc RI (L▸Ó H);cases J;show ge.c0 _=ge.c0 _;rw[<-tT,t,Ç,θ]
def afE(b:NT):OZ "all"$ EL ain:=by intro c d e f g h i j k l;let⟨m,n,I,o,p⟩:=l;let⟨q,r,s,_⟩:=j.list o;rw[Ĺ.Xk k];have t:=r.bls;calc apQ auM;subst v;calc⟨_,_,_,_,_,_,_,I,at0 (A:=a.A.in1),st,uS t,λy z B=>?_⟩;calc⟨_,f,atY,?_,p⟩;rcases ν.J J with L|J;calc RI (L▸Ó H);cases J;show ge.c0 _=ge.c0 _;rw[<-tV,t,Ç,θ]
abbrev Xn(a:ř)(b:β)(v:WA):Prop:=a.b3 b v
def ana(a b:fN):fN:={a with amp:=a.al.q (λ(c,d)=>if(d==.free&&b.kind==.bn&&b.al.E c==XW)then(c,.cell)else(c,d))}
def bA(a:GN):RX cP->GN->GN|[],b=>b|(c,d)::e,b=>if d==.free then AM bA ((c,(a.E c).getD 0)::b)else AM bA b
def rJ(b:Aw)(f:ï×cP->GN->LL (ForInStep GN))(e:∀g h i,f (g,h) i=if h==.free then(do let a<-cellOf b g;DT (.yield ((g,a)::i)))else DT (.yield i)):∀(d:RX cP)(c:GN),(∀j∈d,j.2=.free->∃i,b.cells.E j.1=RW)->DB forIn f=DT (DB (bA b.cells))
 |[],c,_=>by rfl
 |(g,h)::k,c,l=>by
   rw[List.forIn_cons,e];have m:=λc=>DA rJ e k c λj n=>l j$ BI n;unfold bA;by_cases o:(h==dc)=Z;rw[ii o,ii o];let⟨i,p⟩:=l _ ů (by simpa using o);have q:cellOf b g=DT i:=by unfold cellOf;rw[p]
   rw[q];have r:(b.cells.E g).getD 0=i:=by rw[p];rfl
   rw[r];calc m _;rw[abR,abR];calc m _
def Ls{a:Aw}(b:∀c∈A.al,c.2=.free->∃d,a.cells.E EZ=LJ):aeQ A a=DT (bA a.cells A.al []):=by simp only[aeQ];rw[rJ a _ (λe f d=>I) A.al [] b];rfl
def qx{a:Type}:∀{l:RX a}{b:ï}{c:a},(b,c)∈l->∃d,l.E b=LJ
 |(e,v)::f,b,c,g=>by rw[cW];cases h:b==e with
  |Z=>calc EJ
  |gl=>rcases ν.J g with i|g;cases i;simp at h;calc qx g
def jw{a:GN}:∀{b:RX cP}{d:GN}{h:ï}{i:β},(h,i)∈LP bA->(h,i)∈d\/((h,.free)∈b/\i=(a.E h).getD 0)
 |[],_,_,_,c=>.D c
 |(l,j)::m,d,h,i,c=>by
   unfold bA at c;split at c;rename_i e;have e:j=.free:=arE
   rcases jw c with c|⟨f,g⟩;rcases ν.J c with k|c;cases k;calc .X$ JA (e▸ů);calc .D c;calc .X ⟨BI f,g⟩;rcases jw c with c|⟨f,g⟩;calc .D c;calc .X ⟨BI f,g⟩
def oq{b:GN}:∀{c:RX cP}{a:GN}{d:ï×β},BH a->BH (lf bA a)|[],_,_,e=>e|(f,g)::h,a,d,e=>by unfold bA;split;calc oq$ BI e;calc oq e
def ot{cells:GN}:∀{a:RX cP}{acc:GN}{b:ï},(b,.free)∈a->(b,(cells.E b).getD 0)∈bA cells a acc|(c,d)::e,acc,b,f=>by unfold bA;rcases ν.J f with g|f;cases g;calc oq ů;split;calc ot f;calc ot f
def kO:∀{b:RX cP}{f:ř}{d:GN}{j:ï}{i:β},(j,i)∈v4 (aB f.R.L)->(j,i)∈d\/((j,.cell)∈b/\f.R.L<=i/\Xn (uB f b) i none)
 |[],_,_,_,_,f=>.D f
 |(n,k)::l,f,d,j,i,a=>by
   unfold aB at a;unfold uB;split at a;rename_i c;rw[ii c];have c:k=.cell:=Re
   rw[<-ae f _]at a;rcases kO a with a|⟨g,e,h⟩;rcases ν.J a with m|a;cases m;calc .X ⟨c▸ů,AK,_,AY (qN l) KJ,I⟩;calc .D a;rw[ae]at e;calc .X ⟨BI g,lD e,h⟩;rename_i c;rw[hf c];rcases kO a with a|⟨g,e,h⟩;calc .D a;calc .X ⟨BI g,e,h⟩
def o9:∀{amp:RX cP}{c:M}{a:GN}{b:ï×β},b∈a->b∈aB c amp a|[],_,_,_,d=>d|(e,f)::g,c,a,b,d=>by unfold aB;split;calc o9$ BI d;calc o9 d
def tX:∀{a:RX cP}{b:M}{acc:GN}{c:ï},(c,.cell)∈a->∃d,(c,d)∈sK aB acc|(e,f)::g,b,acc,c,h=>by unfold aB;rcases ν.J h with i|h;cases i;calc⟨b,o9 ů⟩;split;calc tX h;calc tX h
def tY:∀{d:RX cP}{h:ř}{a:GN}{g i:ï}{j:β},(∀p∈a,p.2<h.R.L)->(∀g i j,(g,j)∈a->(i,j)∈a->g=i)->(g,j)∈EK (aB h.R.L)->(i,j)∈EK (aB h.R.L)->g=i|[],_,_,_,_,_,_,e,c,b=>Ev$ AY e|(r,s)::t,h,a,g,i,j,f,e,c,b=>by unfold aB at c b;split at c;rename_i k;rw[ii k]at b;rw[<-ae h {BY:=.au "cell",BX:=.cell none}]at c b;calc Ev$ tY (h:=h.push _) (λp l=>?_) λg i j n o=>?_;rw[ae];rcases ν.J l with I|l;calc wk _;calc vF$ f p l;rcases ν.J n with q|n<;>rcases ν.J o with m|o;cases q;cases m;rfl;cases q;calc RI$ f _ o;cases m;calc RI$ f _ n;calc BQ$ AY e;rename_i k;rw[hf k]at b;calc CF (tY f) b
def Gs{i:agT}{a:GN}{f:ï}{g:RD}{code:ge}{e:Aw}{b:β}{h:Aw->ZE}(j:h (on (newEnv A d.v.R.L c (aB (d.v.R.L+1) A.al a)) code HH b) {d with AL:=uB (d.v.push {BY:=.au "dict",BX:=.b0 #[]}) A.al}):û i p (on (AA (amN A) []) code HH b) h u d:=by simp only[amN,ahb];calc DY wpAny_alloc;calc DY$ ga$ wpAny_layCells _ (λk l m=>I) A.al a;rw[show({d with AL:=d.v.push _}:lm).heap.objs.size=d.v.R.L+1 from ae ..];calc Ε$ Ì$ Ì j
def ou{a:fN}:∀{b:RX cP}{d:ï}{c:cP},(b.q (λ(e,c)=>if(c==dc&&a.kind==.bn&&a.al.E e==XW)then(e,Vf)else(e,c))).E d=HE->∃f,b.E d=MO/\(c=f\/(f=.free/\c=.cell))
 |[],_,_,g=>by simp at g
 |(e,h)::i,d,c,g=>by have j:=DB$ IP @ou;have k:cy d ((if(h==dc&&a.kind==.bn&&a.al.E e==UB)=Z then(e,Vf)else(e,h))::i.q _)=HE:=g;cases l:d==e with
  |Z=>simp only[cW,l];by_cases m:(h==dc&&a.kind==.bn&&a.al.E e==XW)=Z;rw[ii m]at k;simp only[cW,l]at k;cases k;simp only[ξ,IN]at m;calc⟨h,I,.X$ JA m.1.1⟩;rw[hf m]at k;simp only[cW,l]at k;cases k;calc⟨_,I,GQ⟩
  |gl=>simp only[cW,l];by_cases m:(h==dc&&a.kind==.bn&&a.al.E e==XW)=Z;rw[ii m]at k;simp only[cW,l]at k;calc j k;rw[hf m]at k;simp only[cW,l]at k;calc j k
structure Gu(N:CJ)(b a:fN)(ü:RX M):Prop where
 kind:a.kind=.bn
 Xo:∀c∈a.al,a.al.E EZ=f4 c.2
 ix:∀d∈ü,N[d.2]? =f4 d.1
 free:∀c∈a.al,c.2=.free->b.al.E EZ=XW\/b.al.E EZ=amY
 ü:∀c∈a.al,c.2=.be\/c.2=.cell->EZ∈ü.q (·.1)\/EZ∉N
def Ş(a:St):f8->St|[]=>a|v::b=>(io Ş).set v none
def ow(a:St):∀b:f8,XB (XY Ş)|[]=>I|v::b=>by unfold Ş;rw[ť,io ow]
def tZ :∀{a:f8},aqi[i]? =f4 OE->e[i]? =f4 OE/\i∉a|[],b=>⟨b,mo⟩|v::a,b=>by unfold Ş at b;by_cases c:v=i;subst c;by_cases d:v<aqi.length;rw[dt d]at b;cases b;rw[Á abe]at b;cases b;rw[en c]at b;let⟨f,g⟩:=tZ b;calc⟨f,by simp only[ν,MG];calc⟨λj=>c j.symm,g⟩⟩
abbrev Cx.Cw(X:Cx)(d:lm)(e:Hp)(a:fN)(b:Aw)(c:s5):Cx:={X with l8:=d,F9:=e,ó:=b,pP:=X.a7,ex:=c,fn:=λf=>a.al.E f==XW,pn:=[],xe:=ap9}
section
variable{X:Cx}{dY:BO}{σ:St}{H:Hp}{s:lm}
def Gv{d:RX M}{e:s5}(a:tz (FJ dY) s)(ok:Gu X.N X.ó.aP A d)(f:X.N.ar)(b:∀g∈e,vL X dY H g/\g<s.v.R.L):ú (X.Cw s H A (FA (eT A (aB (s.v.R.L+1) A.al (auJ [])) s.v.R.L)) e) [] (Ş σ (d.q (·.2))) H {s with AL:=uB (s.v.push {BY:=.au "dict",BX:=.b0 #[]}) A.al}:=by
 have h:∀y∈A.al,y.2=.free->∃c,X.ó.cells.E y.1=HE:=λy i j=>by rcases up (ok.free y) with k|k;calc a.ok.has _$ .D k;exact a.ok.has _$ .X k
 generalize l:FA (eT A _ s.v.R.L)=m;have n:∀g o,s.v.ad g=ak7->(uB (s.v.push {BY:=.au "dict",BX:=.b0 #[]}) A.al).ad g=ak7:=λg o j=>EY qN$ GO j;have p:m.aN=s.v.R.L:=by rw[<-l];rfl
 have q:m.cells=aB (s.v.R.L+1) A.al (auJ []):=by rw[<-l];rfl
 have r:m.aP=ana A X.ó.aP:=by rw[<-l];rfl
 rw[<-ae s.v {BY:=.au "dict",BX:=.b0 #[]}]at q;have t:∀{y c},(y,c)∈auJ []->X.ó.cells.E y=HE/\c<s.v.R.L:=λ{y c} u=>by rcases jw u with u|⟨v,I⟩;cases u;let⟨c,x⟩:=h _ v I;rw[x];let⟨w,z⟩:=ga a.cell x;exact ln z.lt
 have B:∀{y c},adZ->(X.ó.cells.E y=HE/\c<s.v.R.L)\/(s.v.R.L+1<=c/\Xn _ c none):=λ{y c} j=>by rw[q]at j;rcases kO (ě j)with u|⟨_,D,G⟩;calc .D$ t u;rw[ae]at D;exact .X ⟨D,G⟩
 have J:∀{y},A.al.E y=amY->∃c,adZ/\X.ó.cells.E y=HE:=λ{y} L=>by have i:(y,dc)∈A.al:=ě L;let⟨N,O⟩:=qx (o9 (names:=A.al) (ot (cells:=X.ó.cells) (acc:=[]) i));rw[<-q]at O;calc⟨N,O,?_⟩;rw[q]at O;rcases kO (ě O)with u|⟨v,_,_⟩;calc(t u).1;have:=ok.Xo _ v;rw[L]at this;cases this
 have h:(X.Cw s H A m e).Ok:=by
  calc⟨a.ok.mod,by show m.aP.kind=_;rw[r];calc ok.kind,by show m.e3=_;rw[<-l];calc a.ok.ru,by show m.eF=_;rw[<-l];calc a.ok.uP,by show s.v.R.L<=m.aN;rw[p];calc AK,λy z c x G=>?_,λy i=>?_,λy c z j=>?_,a.ok.hd,a.ok.frames,GQ,λg l=>P3 λy c j z=>?_,a.bs,É a.ok.Ux a.sz,λg o j l=>?_,λg l z=>?_,a.a7,a.rx⟩;have x:adZ:=x;have G:m.cells.E z=HE:=G;rw[q]at x G;calc tY (λa0 b0=>?_) (λy z c c0 g=>a.ok.inj y z c (t c0).1 (t g).1) (ě x)$ ě G;rw[ae];calc vF (t (y:=a0.1) (c:=a0.2) b0).2;show∃c,adZ;have t:∀k,m.bK y=RY->(k=.cell\/k=.free)-> ∃c,adZ:=λk d0 f0=>by
   unfold Aw.bK at d0;rw[r]at d0;let⟨g0,j,h0⟩:=ou d0;have:g0=.cell\/g0=.free:=by rcases h0 with I|⟨I,_⟩;calc f0;exact Ps
   rcases this with I|I;let⟨c,u⟩:=tX (acc:=auJ []) (ě j);let⟨N,O⟩:=qx u;calc⟨N,by rw[q];calc O⟩;let⟨c,v,_⟩:=J j;exact⟨c,v⟩
  rcases i with i|i;calc t _ i GQ;calc t _ i Ps;have z:=z;have z:A.al.E y=XW:=RM
  have j:adZ:=j;rw[q]at j;rcases kO (ě j)with u|⟨_,D,_⟩;rcases jw u with u|⟨v,_⟩;cases u;have i:=ok.Xo _ v;rw[z]at i;cases i;rw[ae]at D;calc lD D;show g≠m.aN;rw[p];calc ģ (MM l).2;rcases B j with⟨v,_⟩|⟨v,_⟩;calc lv (wS (MM l).1).2 y c v z;have D:s.v.R.L+1<=g:=by rw[<-z];exact v
  calc RI$ Ä (MM l).2$ lD D;rcases lv (wS (MM l).1) with z|z;calc a.ok.Wr g o j z;calc RI$ Ä (Ó j)$ É a.ok.Ux z;rcases ν.J (a.B6 g z)with z|z;calc lv (MM l).1 z;exact lv (MM l).1.2 z
 calc⟨h,I,a.jd,Un.fT n,⟨λ_=>none,?_,λq y u x G h=>?_⟩,λy c j=>?_,?_,λy c j=>?_,λa0 b0=>?_,a.aI.fT n,by rw[ow];calc a.len⟩;show ř.Ns _ m.aN _;rw[p];calc ř.Ns.keeps (ř.Ns.new ..) λg o j=>EY qN j;let⟨G,l⟩:=tZ G;have g:A.al.E y=amY/\(m.bK y=XW\/m.bK y=amY):=by
  have t:∀k,m.aP.al.E y=RY->k=.be\/k=.cell\/k=.free->A.al.E y=amY/\(m.bK y=XW\/m.bK y=amY):=λk d0 f0=>by
   have o:=d0;rw[r]at d0;let⟨g0,j,h0⟩:=ou d0;have r:¬(g0=.be\/g0=.cell):=λi0=>by rcases ok.ü _ (ě j) i0 with O|O;let⟨a0,b0,j0⟩:=χ.J O;have h:=XI ok.ix;have:a0.1=y:=j0;rw[this]at h;calc l$ χ.Q ⟨a0,b0,GP xi x⟩;exact O$ Î x
   rcases h0 with I|⟨I,I⟩;rcases f0 with I|I|I;calc DM GQ r;calc DM Ps r;calc QY$ .X o;exact QY$ .D o
  have h:Vis m.aP y:=h;rcases h with h|h|h;calc t _ h GQ;calc t _ h$ .X GQ;exact t _ h$ .X Ps
 let⟨t,h,L⟩:=a.B5;have l:Vis X.ó.aP y:=(ok.free _ (ě g.1) I).elim (λk=>.X$ .D k) λk=>.X$ .X k;let⟨w,h0,i⟩:=L q y u x G l;calc⟨w,h0,.X$ wn g.2⟩;let⟨c,v,D⟩:=J g.1;rcases i with⟨k,_⟩|⟨_,N,O,z⟩;have k:X.ó.aP.al.E y=akZ:=k;rcases ok.free _ (ě g.1) I with g0|g0<;>rw[show X.ó.aP.al.E y=_ from g0]at k<;>cases k;rw[D]at O;cases(O);calc⟨c,v,z.keeps n⟩;have j:adZ:=j;rcases B j with⟨v,_⟩|⟨_,z⟩;let⟨w,z⟩:=a.cell y c v;calc⟨w,z.keeps n⟩;calc CM z;show hm (H m.aN);rw[p];calc a.aI.fresh AK;have j:adZ:=j;rcases B j with⟨v,_⟩|⟨v,_⟩;calc a.ju y c v;calc a.aI.fresh$ lD v;calc s4$ DM (show a0∈([]:BO)++[]from b0)
def afG{v:ge}(d:tz (FJ dY) s)(a:H c=f4 (.Ý x))(b:x.length<Ζ)(e:Ŗ h v)(f:∀g,FJ dY σ (ø H c (AQ (x++[h]))) g->u .none g):QX (call (.aq "list.append") [CO,v]) u J s:=by let⟨i,j,k,l,m⟩:=d.aI c _ a;have n:=l.length;calc append_at (hsz:=by rw[Ç];lia) m λo p q=>?_;calc f _$ d.pO (by rw[a];trivial) GQ (λr t y z=>(p.2 r y).trans z) (CM q) ⟨by rw[π];calc b,_,k+1,l.append$ .cons e .nil,?_⟩;rw[q];simp
def PTs(X:Cx)(a:GL)(b:TT):Prop:=∀(dY:BO)(s:lm)(σ:St)(H:Hp)(c:GM),tz (FJ dY) s->tz b c->OO (QX (forIn a Z (λd e=>if e=Z then do let ok<-FA (Ke d) (FA (rw d));DT (lE ok)else DT (lE e))) (TP X dY σ c)) s
def Sv:TT:=λ_ H a=>a Z H
def aa:PTs X [] Sv:=λ_ _ _ a _ b c=>wpAny_tests_nil ⟨a,b,c⟩
def fI(a:PT X n L):PTs X [n] L:=λb c d e f g h=>wpAny_tests_one$ EU$ s3$ lf a
end
def Sw{c:LL v}{e a:v->ZE}{f:agT}(g:AH (û f p) ap9 d)(b:∀h d,e h d->a h d):AA (û f p) u d:=bJ g b λ_ _ z=>š z
def Cy{w:Ŏ}{R:Result->ZE}{f:Expr}{b:GL}{c:ge}{a:Aw}(h:M->ZE)(g:∀e d,h e d->am9 (aeN m) (λk l=>match k with|none=>R (.ok .next) l|DE=>am9 (Ex n m v) (λ_ q=>am9 (aeM n a v) (λ_ r=>am9 (forIn b Z (λs k=>if k=Z then do let ok<-Ke s a (rw s a);DT (lE ok)else DT (lE k))) (λok t=>if ok=Z then am9 (rw B a) (λu x=>am9 (call (.aq "list.append") [c,u]) (λ_ y=>∃z,(z<e/\h z y)) auD x) auD t else∃z,(z<e/\h z t)) auD r) auD q) auD l) auD d)(e:M)(i:h e d):uz (VR þ) p (AA (.compLoop (.cu B [⟨n,f,b,0⟩] A o) 0 m)) R d:=by calc IO$ codeAny_loop I h λe d H=>?_;show AY (û _ p) d;calc wpAny_noted ?_;rw[compTurn_list];calc Ε$ Q5$ ann$ bJ (g e d H) λk l J=>?_;cases k with
|none=>calc Ì J
|some v=>calc ann$ bJ J λ_ q N=>?_;calc ann$ bJ N λ_ r O=>ann$ bJ O λok t s=>?_;cases ok with
 |gl=>calc Ì$ ln s
 |Z=>calc Ε$ ann$ bJ s λu x z=>ann$ bJ z λ_ y D=>Ì$ Ì$ ln D
def Lu(b:TI)(e:TG)(c:TT)(d:TE)(a:f8):TE:=λf g h=>on b λi j=>∀k,hm (j k)-> ∃W:M->JK M,(∃l,W 0 l (AS ø (AQ [])))/\ ∀m l g,W m l g->(i.mT m g/\h (.ref k) g)\/(i.go m g/\∃n:DV,(∀o,n o->∃p,p<l/\W (m+1) p o)/\ ∀q o,i.En m g q o->e q (Ş f a) o (λr s=>Ş r a=Ş f a/\HX c (λt u=>if t=Z then d r u (λv x=>∃y,x k=f4 (.Ý y)/\y.length<Ζ/\n (ø x k (AQ (y++[v]))))else n u)))
def Oq{J:VK}{i:Expr}{j:GL}{g:RX M}{l:vB}{m:TI}{N:TG}{h:FQ (YX (LL Unit))}(p:NT)(s:a.N.ar)(t:NW)(x:PI a B n m)(ok:Gu a.N a.ó.aP A g)(y:∀(d:lm)(b:Hp)(C:β)(k:GN)(c:s5),PG (NI a.Cw A (AN (eT A k C)) c) B N)(D:∀(d:lm)(b:Hp)(C:β)(k:GN)(c:s5),PTs (NI a.Cw A (AN (eT A k C)) c) j L)(G:∀(d:lm)(b:Hp)(C:β)(k:GN)(c:s5),PE (NI a.Cw A (AN (eT A k C)) c) i q)(H:∀a0,AN (foldedSetIterable n) a0=DT a0)(O:Lu m N L q (g.q (·.2)) e b J)(r:∀b0 C c0 d0 f0,WG f0 c0->J (wp b0) f0->c0.v.Ns C d0->AR vL f0 C->amO (PY þ) a.A a.xe h u (wp b0) C (.ok .next) c0):WL (HA (AN (comprehension (.cu i [⟨B,n,j,0⟩] A o) A) l (newList [])) (AN (rw n)) h) u a.xe d:=by
 have g0:∀h0∈A.al,h0.2=.free->∃i0,a.ó.cells.E h0.1=f4 i0:=λh0 j0 k0=>by rcases ok.free h0 j0 k0 with l0|l0;calc t.ok.has _$ .D l0;exact t.ok.has _$ .X l0
 calc wpAny_comprehension_free (use:=h) I H (Ls g0) ok.kind (λh0 j0 k0=>by rw[ok.Xo h0 j0,k0])$ ay (s3 (x f) b _ t O) λm0 n0 o0=>ay o0 λp0 r0 s0=>?_;let⟨t0,c,u0,v0,w0,k0,x0,y0,z0,A0,B0⟩:=s0;subst k0;calc m4 (Gs ?_) (by show 0<=Ζ;decide);generalize C0:r0.v.R.L=b0;have D0:hm$ w0 b0:=x0.aI.fresh$ i9 C0;let⟨W,⟨F0,G0⟩,H0⟩:=B0 b0 D0;generalize I0:({r0 with AL:=r0.v.push _}:lm)=J0;have K0:WG (akN []) J0:=by rw[<-I0];calc x0.iB (t':=r0.aG) (λM0 N0 k0=>GO k0) (i9 C0) ⟨CY,[],0,.nil,?_⟩;rw[<-C0];exact KJ
 have O0:J0.v=r0.v.push {BY:=II,BX:=.seq ([]:wr).ac}:=by rw[<-I0]
 have P0:∀M0∈c,M0<r0.v.R.L:=λM0 Q0=>by let⟨N0,k0,_⟩:=SN (ga y0.obj z0);exact Ó k0
 have R0:∀M0∈c,AR vL (akN []) M0/\M0<J0.v.R.L:=λM0 Q0=>by have S0:=SN P0;calc⟨P3 (SN A0).2,by rw[O0,ae];calc vF S0⟩;rw[ω (by rw[<-C0];calc ģ S0)];exact(SN A0).1
 have T0:u0 0 J0.v:=AY y0.keep z0 λM0 _ N0 k0=>by rw[O0];exact GO k0
 have U0:=Gv K0 ok s R0;have V0:=y J0 (akN []) J0.v.R.L (atX []) c;have W0:=D J0 (akN []) J0.v.R.L (atX []) c;have X0:=G J0 (akN []) J0.v.R.L (atX []) c;show ga uz (.compStart _ 0 (wp t0) (wp b0) (AN (eT A (atX []) J0.v.R.L))) (amO (PY þ) a.A a.xe h u (wp b0) J0.v.R.L) _;have Y0:∀M0∈c,hm (akN [] M0):=λM0 Q0=>(SN R0).1.1;generalize Z0:AN (eT A _ J0.v.R.L)=a1 at U0 V0 W0 X0|-;have b1:a1.aN=J0.v.R.L:=by subst Z0;rfl
 generalize c1:akN []=d1 at K0 U0 V0 W0 X0 G0 Y0 R0;generalize e1:({J0 with AL:=uB _ A.al}:lm)=f1 at U0|-;have g1:u0 0 f1.v:=AY y0.keep T0 λM0 _ N0 k0=>by rw[<-e1];exact EY qN$ GO k0
 have h1:∀{i1:St}{f0:Hp}{c0:lm},ú aqf [] i1 f0 c0->(∀M0∈c,hm (f0 M0))-> ∀M0∈c,vL aqf [] f0 M0:=λ{i1 f0 c0} j1 k1 M0 Q0=>⟨SN k1,(SN j1.ok.exf).1,SN j1.ok.Ws,.D Q0,λa0 i0 k0=>(SN j1.ok.exf).2 a0 i0 k0,λl1 m1=>s4$ DM (show l1∈([]:BO)++[]from m1)⟩;have n1:uz (PY þ) a.A (.compLoop (.cu i [⟨B,n,j,0⟩] A o) 0 (wp t0) (wp b0) a1) (amO (PY þ) a.A a.xe h u (wp b0) J0.v.R.L) f1:=by
  calc Cy (λo1 c0=>∃p1 f0,ú aqf [] (Ş e (g.q (·.2))) f0 c0/\u0 p1 c0.v/\(∀M0∈c,hm (f0 M0))/\W p1 o1 f0) ?_ F0 ⟨0,d1,U0,g1,Y0,G0⟩;rintro o1 q1 ⟨p1,r1,s1,t1,u1,v1⟩;rcases H0 p1 o1 r1 v1 with⟨w1,x1⟩|⟨go,y1,z1,step⟩;have A1:=JS (y0.done aqf) I p p1 [] q1 _ r1 ap9 s1 (h1 s1 u1) t1 w1;calc Sw A1 (λ B1 C1⟨D1,E1⟩=>?_);subst D1;have F1:WG r1 C1:=K0.ah0 (ch:=c) E1.os E1.base E1.aI E1.jd λM0 Q0=>⟨lv$ wS (SN R0).1,lv (SN R0).1,lv (wS (SN R0).1).2,(wS$ wS (SN R0).1).2⟩;have G1:hm$ r1 J0.v.R.L:=by have z:hm$ r1 a1.aN:=E1.free;rw[b1]at z;exact z
  let⟨d0,k1,_⟩:=E1.B5;rw[b1]at k1;calc r b0 J0.v.R.L C1 d0 r1 F1 x1 k1$ K0.Se AK G1;have H1:=JS (y0.item aqf) I p p1 [] q1 _ r1 ap9 s1 (h1 s1 u1) t1 go;calc Sw H1 (λ B1 C1⟨I1,D1,J1⟩=>?_);subst D1;calc Sw J1 (λ _ K1⟨a0,L1,F1,N1,O1,Q1,R1⟩=>?_);have S1:=F1.Wy (h1 F1 R1)$ ga y0.obj Q1;calc Sw (V0 _ K1 _ L1 a0 I1 _ S1 N1 (step a0 L1 O1)) (λ _ T1⟨U1,V1,W1,Y1,Z1⟩=>?_);calc Sw (W0 _ T1 U1 V1 _ W1 Z1) (λ M0 a2⟨b2,c2,d2⟩=>?_);have e2:∀{c0:lm}{f0:Hp},ú aqf ([]++Cb c K1.v) U1 f0 c0->y1 f0->∃d0,(d0<o1/\∃p1 f0,ú aqf [] (Ş e (g.q (·.2))) f0 c0/\u0 p1 c0.v/\(∀M0∈c,hm (f0 M0))/\W p1 d0 f0):=λ{c0 f0} j1 f2=>by
   let⟨g2,h2,i2⟩:=z1 f0 f2;have j2:∀M0∈c,∀N0,K1.v.ad M0=f4 N0->c0.v.ad M0=f4 N0/\hm (f0 M0):=λM0 Q0 N0 k0=>let z:=j1.N_ (M0,N0)$ ũ _$ ũ _$ qt Q0 k0;⟨Da,lv z⟩;have k2:(Ş e (g.q (·.2))).length=U1.length:=by rw[<-Y1,ow]
   calc⟨g2,h2,p1+1,f0,(j1.rB (dY:=[])).am2 k2 λl2 v k0=>?_,AY y0.keep Q1 λM0 Q0 N0 k0=>(SN j2 N0 k0).1,λM0 Q0=>?_,i2⟩;rw[<-Y1]at k0;calc(tZ k0).1;let⟨N0,k0,_⟩:=SN (ga y0.obj Q1);exact(SN j2 N0 k0).2
  cases M0 with
  |gl=>calc e2 c2 d2
  |Z=>simp only[ahb]at d2|-;calc Sw (X0 _ a2 U1 b2 _ c2 d2) (λ z m2⟨n2,o2,p2,q2,r2,s2,t2,f2⟩=>?_);exact afG (X:=aqf) p2 s2 t2 q2 λu2 v2=>e2 v2 f2
 calc codeAny_compStart_list n1$ AY (y0.B_ a.A 0) g1 n1
def b6{d:Expr}{e:GL}{f:RX M}{h:TI}{t:TG}(i:NT)(j:a.N.ar)(k:PI a n B h)(ok:Gu a.N a.ó.aP A f)(l:∀(s:lm)(g:Hp)(C:β)(b:GN)(c:s5),PG (a.Cw s g A (AN (eT A b C)) c) n t)(m:∀(s:lm)(g:Hp)(C:β)(b:GN)(c:s5),PTs (a.Cw s g A (AN (eT A b C)) c) e L)(p:∀(s:lm)(g:Hp)(C:β)(b:GN)(c:s5),PE (a.Cw s g A (AN (eT A b C)) c) d q)(r:∀u,AN (foldedSetIterable B) u=DT u:=by intro _;rfl):EC (.cu d [⟨n,B,e,0⟩] A o) (Lu h t L q (f.q (·.2))):=by intro v s x g y z D;calc AE (up Oq z k ok) p r D λG C H J N O u v x=>⟨J,v,λy z=>?_⟩;let⟨D,H,J,v,y,J⟩:=x;calc⟨.ref G,N,O.eX (λG N O x=>(z.2 G O).trans x) D H v y J,I,u⟩
def iE{i:M}{l:ï}{b:Expr}{c:GL}{g:RX M}{h d:vB}{m:TI}{J:TG}(t:NT)(p:a.N.ar)(u:a.N[i]? =XS)(j:a.ó.aP.al.E l=akZ)(r:AN (ij (.cu b [⟨n,B,c,0⟩] A h) (f4 (.bv l o)) d.line)=DT Z)(x:PI a n B m)(ok:Gu a.N a.ó.aP A g)(y:∀(s:lm)(k:Hp)(C:β)(e:GN)(f:s5),PG (a.Cw s k A (AN (eT A e C)) f) n J)(D:∀(s:lm)(k:Hp)(C:β)(e:GN)(f:s5),PTs (a.Cw s k A (AN (eT A e C)) f) c L)(G:∀(s:lm)(k:Hp)(C:β)(e:GN)(f:s5),PE (a.Cw s k A (AN (eT A e C)) f) b q)(H:∀N,AN (foldedSetIterable B) N=DT N:=by intro _;rfl):VU (.dr [.bv l o] (.cu b [⟨n,B,c,0⟩] A h) d) (abT (Lu m J L q (g.q (·.2))) (fG i)):=by
 intro O s N k O N O;rw[EY exec_Assign_Name_used r];calc Ε$ Q5 NU;calc Ε$ ay (IK (Oq t p N x ok y) H O (λN C O a0 b0 c0 d0 f0 g0=>?_)) λ_ O O=>Ì$ Ì O;calc agV$ zv (v:=V.ref N) c0 p u (.D j) I (λ N O⟨N,h0,i0⟩=>?_)$ .X j;let⟨j0,k0,l0,m0,n0,o0⟩:=g0;have p0:C≠N:=by rcases i0 with z|z;rw[z];calc k0;exact λr0=>n0 l N z r0.symm
 calc⟨a0,f0.dl h0 p0,λN N=>?_⟩;calc⟨_,b0,O.eX (λO s0 t0 r0=>(N.2 O t0).trans r0) j0 k0 m0 n0 o0,d0⟩
def md{b:AX Comprehension}{c:ï}{l:M}{a:Aw}(d:a.aP.kind=.bn)(e:a.aP.al.E c=akZ)(f:(z.line==o.line)=Z)(g:pr (A.al.any (λ(h,i)=>h==c&&(i==.be||i==.cell)))):GV (ij (.cu n b A o) (f4 (.bv c z)))=DT Z:=by
 have j:a.bK c=UB:=e;have k:a.blockKind=.bn:=by unfold Aw.blockKind;rw[d];rfl
 unfold ij;have m:(Expr.cu n b A o).pos=o:=I;simp only[k,j,g,m,f];rfl
def Xp{lo:U}{j:TG}{a:f8}{d:DV}(Pv:JK M)(f:Pv 0 (UR (AQ [])))(g:∀k l,k<i->AI Pv->j (AB (lo+k)) aqi l (λm n=>Ş m a=aqi/\FF L (λo p=>if o=Z then q m p (λr s=>∃t,s c=f4 (.Ý t)/\t.length<Ζ/\Pv (k+1) (ø s c (AQ (t++[r]))))else Pv (k+1) p)))(h:∀l,Pv i l->d l):∃W:M->JK M,(∃u,W 0 u (UR (AQ [])))/\ ∀k u l,W k u l->(AI (Gf lo i).mT/\d l)\/(AI (Gf lo i).go/\∃v:DV,(∀x,v x->∃y,y<u/\W (k+1) y x)/\ ∀z x,AI (Gf lo i).En z x->j z aqi x (λm n=>Ş m a=aqi/\FF L (λo p=>if o=Z then q m p (λr s=>∃t,s c=f4 (.Ý t)/\t.length<Ζ/\v (ø s c (AQ (t++[r]))))else v p))):=by
 calc⟨λk u l=>u=i-k/\k<=i/\AI Pv,⟨i,mo,CY,f⟩,?_⟩;rintro k u l ⟨I,A,B⟩;by_cases D:k<i;calc .X ⟨D,_,λx G=>⟨_,gt,I,D,G⟩,λz x r=>?_⟩;let⟨H,r⟩:=r;subst H r;calc g k _ D B;have H:k=i:=gt
 subst H;calc .D ⟨AK,h l B⟩
def acg{K:Γ}{f:β}{k:TG}{a:f8}{d:DV}(Pv:JK M)(g:Pv 0 (UR (AQ [])))(h:∀l m,l<=x.length->AE Pv->BN m f x)(i:∀l n m,x[l]? =f4 n->AE Pv->k n aqi m (λo p=>Ş o a=aqi/\BF L (λr s=>if r=Z then q o s (λt u=>∃v,u c=f4 (.Ý v)/\v.length<Ζ/\Pv (l+1) (ø u c (AQ (v++[t]))))else Pv (l+1) s)))(j:∀m,Pv x.length m->d m):∃W:M->JK M,(∃y,W 0 y (UR (AQ [])))/\ ∀l y m,W l y m->(AE (Ob K f).mT/\d m)\/(AE (Ob K f).go/\∃z:DV,(∀A,z A->∃B,B<y/\W (l+1) B A)/\ ∀n A,AE (Ob K f).En n A->k n aqi A (λo p=>Ş o a=aqi/\BF L (λr s=>if r=Z then q o s (λt u=>∃v,u c=f4 (.Ý v)/\v.length<Ζ/\z (ø u c (AQ (v++[t]))))else z s))):=by
 calc⟨λl y m=>y=x.length-l/\l<=x.length/\AE Pv,⟨x.length,mo,CY,g⟩,?_⟩;rintro l y m ⟨I,D,G⟩;have H:=IK$ AE h;by_cases J:l<x.length;calc .X ⟨⟨x,x[l],H,by simp[]⟩,_,λA N=>⟨_,gt,I,J,N⟩,λn A t=>?_⟩;let⟨O,t⟩:=t;subst O;calc i l n _ (FW t) G;have O:l=x.length:=gt
 subst O;calc .D ⟨⟨x,H,AK⟩,j m G⟩
def dj(c:CJ)(d a:fN)(b:RX M):nm:=(match a.kind with|.bn=>Z|_=>gl)&&a.al.all (λe=>sB (a.al.E e.1=f4 e.2))&&b.all (λf=>sB (c[f.2]? =f4 f.1))&&(a.al.all (λe=>match e.2 with
 |.free=>(match d.al.E e.1 with|XW=>Z|amY=>Z|_=>gl)
 |.be=>sB ((e.1∈b.q (·.1)))||sB (e.1∉c)
 |.cell=>sB ((e.1∈b.q (·.1)))||sB (e.1∉c)
 |_=>Z))
def İ{c:CJ}{a:fN}{ü:RX M}(b:dj c A a ü=Z):Gu c A a ü:=by
 unfold dj at b;simp only[ξ,Ň,BE]at b;let⟨⟨⟨d,e⟩,f⟩,g⟩:=b;calc⟨?_,e,f,λh i j=>?_,λh i j=>?_⟩;split at d;assumption;cases d;have k:=t3 g;simp only[j]at k;split at k<;>first|exact .D (by assumption)|exact .X (by assumption)|cases k
 have k:=t3 g;rcases j with j|j<;>(simp only[j,Ą,BE]at k;calc k)
section
variable [OF κ]
def ab(a:TM)(b:κ):ut:=(a.cS λc=>sB (EZ=b)).q (·.2)
def aR(a:TM)(b:κ)(v:V):TM:=if a.any (λc=>sB (EZ=b))=Z then a.q (λc=>if EZ=b then(EZ,v)else c)else a++[(b,v)]
def xv{a:κ×V}{c:TM}{b:κ}(d:a.1=b):ab (a::c) b=f4 a.2:=by simp[ab,d]
def xw{b:κ×V}{c:TM}{a:κ}(d:¬EM=a):ab LY a=AA ab:=by simp[ab,d]
def Gw(a:κ):∀b:TM,b.any (λc=>sB (EZ=a))=(sK ab).by|[]=>I|d::e=>by rw[aA];by_cases f:d.1=a;simp only[xv f,ZI f,nm.true_or,he.isSome_some];rw[xw f,PM f,lF];calc AM Gw
def gO(a:TM)(b:κ)(v:V):(io aR v).length<=a.length+1:=by unfold aR;split;rw[θ];lia;rw[π,Β,Ħ];lia
def oc.t4{b:ut}{a:WA}(c:sK oc):b.by=a.by:=by cases b with
|none=>cases a with
 |none=>rfl
 |some _=>calc(show DN from c).elim
|some _=>cases a with
 |none=>calc(show DN from c).elim
 |some _=>rfl
def oc.getD{b:ut}{a:WA}(c:sK oc)(d:No Ŗ):Ŗ (b.getD h)$ a.getD m:=by cases b with
|none=>cases a with
 |none=>calc d
 |some _=>calc(show DN from c).elim
|some _=>cases a with
 |none=>calc(show DN from c).elim
 |some _=>calc c
def KV.val{a:TM}{c:XQ κ}(d:mt KV)(b:κ):oc (io ab)$ Ev valueAt:=by induction d with
|nil=>calc EQ.cR
|@cons e f g h i j k=>
 let⟨l,m⟩:=i;by_cases n:e.1=b;have o:=l.symm.trans n;have p:valueAt (f::h) b=f4 f.2:=by simp[valueAt,o]
 rw[xv n,p];calc m;have o:¬f.1=b:=λz=>n$ l.trans z;have p:valueAt (f::h) b=valueAt h b:=by simp[valueAt,o]
 rw[xw n,p];calc k
def KV.any{a:TM}{b:XQ κ}(d:io KV)(c:κ):a.any (λe=>sB (e.1=c))=b.any (λe=>sB (e.1=c)):=by induction d with
|nil=>rfl
|cons f g h=>rw[aA,aA,h,f.1]
def KV.afH{a:TM}{b:XQ κ}(e:io KV)(c:κ)(d:No Ŗ):KV (a.q (λf=>if f.1=c then(f.1,h)else f))$ b.q λf=>if f.1=c then(f.1,m)else f:=by induction e with
|nil=>calc .nil
|@cons g i j k l n o=>rw[Â,Â];calc .cons ?_ o;let⟨p,q⟩:=l;by_cases r:g.1=c;rw[ii r,BZ$ p.symm.trans r];calc QZ d;rw[hf r,MA$ r$ p.trans z];calc QZ q
def KV.put{a:TM}{b:XQ κ}(e:io KV)(c:κ)(d:No Ŗ):KV (mt aR h)$ lf Vg m:=by unfold aR Vg;rw[e.any c];by_cases f:b.any (λg=>sB (g.1=c))=Z;rw[abm,abm];calc re e.afH;rw[hf f,hf f];calc aeR e$ ln d
def KV.length{a:TM}{b:XQ κ}(c:io KV):asM:=Ñ c
end
def xx{P:Ĵ}{w:Ŏ}{a:ō}(b:Ŗ (kV a) m):(IA bt).is a m=Z:=by cases a with
|inl c=>let⟨d,e⟩:=(show∃d,m=re ge.int from b);subst e;calc re$ IA F6
|inr f=>let⟨d,e⟩:=(show∃d,m=ge.str f d from b);subst e;calc IA F7 f d
def zH{P:Ĵ}{w:Ŏ}:∀{a:RJ}{b:wr},Ĺ (a.q kV) b->io (ItemsAre (IA bt))
 |[],_,c=>by cases c;calc .nil
 |d::a,_,c=>by cases c with
  |cons e f=>calc KU (xx e)$ zH f
abbrev KT(a:Hp):BA->Ch apu:=bq λb c=>EM=EZ/\a (lv c)=UJ EM.q/\Ŗ b.2 (wS c)
def KT.val{c:apu}(d:KT b D c)(a:RJ):oc (ab D a) ((AA vW).q (·.2)):=by induction d with
|nil=>calc EQ.cR
|@cons e f g h i j k=>
 let⟨l,_,m⟩:=i;by_cases n:e.1=a;have o:=l.symm.trans n;have p:vW (f::h) a=f4 f.2:=by simp[vW,o]
 rw[xv n,p];calc m;have o:¬f.1=a:=λz=>n$ l.trans z;have p:vW (f::h) a=vW h a:=by simp[vW,o]
 rw[xw n,p];calc k
def KT.afH{a:apu}(e:KT b D a)(c:RJ)(d:No Ŗ):KT b (D.q (λf=>if f.1=c then(f.1,h)else f))$ a.q$ putAt c m:=by induction e with
|nil=>calc .nil
|@cons g i j k l n o=>rw[Â,Â];calc .cons ?_ o;let⟨p,q,r⟩:=l;unfold putAt;by_cases s:g.1=c;rw[ii s,BZ$ p.symm.trans s];calc⟨p,q,d⟩;rw[hf s,MA$ s$ p.trans z];calc⟨p,q,r⟩
def KT.put{a:apu}(f:KT b D a)(d:RJ)(g:Db=UJ d.q)(e:No Ŗ):KT b (aR D d h)$ wE agZ c m:=by
 have i:D.any (λj=>sB (j.1=d))=(wE vW).by:=by rw[Gw,(f.val d).t4,Q8]
 unfold aR agZ;rw[i];by_cases k:(wE vW).by=Z;rw[ii k,ii k];calc s3 f.afH;rw[hf k,hf k];calc aeR f ⟨I,g,e⟩
def KT.keeps{a:Hp}{c:apu}(e:KT b D c)(d:∀f g,b f=f4 (.c9 g)->a f=f4 (.c9 g)):KT a D c:=bq.eI e λ_ _ z=>⟨Da,IB$ lv z,wS z⟩
section
variable {w:Ŏ}
def ad8{a:HO}(ok:ao4)(d:lf Rd a):AA$ VR aL b y:=d.ok ok
def uU(ok:ao4)(a:lf Rd (.dK G)):G.length<=Ζ/\amD/\∃d,KV G d/\re (y.cx (VR bt)):=show VR aL b y c _ from ad8 ok a
def Xq(ok:ao4)(a:Db=f4 (.dK G)):G.length<=Ζ/\amD/\∃d,KV G d/\re (y.cx (VR bt)):=uU ok$ .D a
def qy{a:RJ}(ok:ao4)(d:Db=KS (a.q kV)):mt$ (Av$ VR bt).is y:=by let⟨_,e,f,g,h,i,k,l⟩:=(show VR aL b y c _ from ok c _ d);calc⟨g,e.ac,k,h,i,l,by simpa using zH f⟩
def uV(ok:ao4)(a:lf Rd (.dT D)):D.length<=Ζ/\amD/\∃d,KT b D d/\re (y.b1 (Av (VR bt))):=by
 let⟨z,e,d,f,g,h,i,k,m,n,o,p⟩:=(show VR aL b y c _ from ad8 ok a);calc⟨z,e,d,f,g,h,i,k,m,n,o,λq r=>?_,p⟩;have s:∀{l:List _}{t:List _},LB KT t->∀q∈t,(Av$ VR bt).is y q.1 (lv q):=by intro l t u;induction u with
 |nil=>intro q r;calc nomatch r
 |@cons v u x A B G H=>intro q r;rcases ν.J r with a|r;subst a;calc qy ok (by rw[<-B.1];calc lv B);exact BW H
 calc BW$ s f
def Xr(ok:ao4)(a:Db=f4 (.dT D)):D.length<=Ζ/\amD/\∃d,KT b D d/\re (y.b1 (Av (VR bt))):=uV ok$ .D a
end
def mU(a:Hp)(b:β)(c:V)(d:ut):Prop:=(∃e f,io Rd (.dK e)/\c=kV f/\d=py ab)\/ ∃e f g,io Rd (.dT e)/\c=FU/\a g=UJ f.q/\d=py ab
def Cz(a:Hp)(c:β)(d v:V)(b:Hp):Prop:=(∃e f,JD=PV .dK/\d=kV f/\e.length<Ζ/\b=mt ø (NF (py aR v)))\/ ∃e f g,JD=PV .dT/\d=FU/\a g=UJ f.q/\e.length<Ζ/\b=mt ø (.dT (py aR v))
def mU.k{k:ō}(a:Db=f4 (.dK G)):lf mU (kV k)$ ab G k:=.D ⟨G,k,.D a,I,I⟩
def mU.t{e:β}{a:RJ}(f:EV=f4 (.dT D))(d:Db=KS (a.q kV)):zn mU CO$ ab D a:=.X ⟨D,a,c,.D f,I,d,I⟩
def Cz.k{k:ō}{v:V}(d:Db=f4 (.dK G))(a:G.length<Ζ):lf Cz (kV k) v$ UR$ NF$ aR G k v:=.D ⟨G,k,d,I,a,I⟩
def Cz.t{a:β}{d:RJ}{v:V}(g:Db=f4 (.dT D))(e:b a=UJ d.q)(f:D.length<Ζ):lf Cz AC v$ UR$ .dT$ aR D d v:=.X ⟨D,d,a,g,I,e,f,I⟩
section
variable {y:V}{r:ge}{o:ut}
def ú.big(c:NW):Ŧ<d.v.R.L:=by have g:=(c.mod.ru.keeps c.bk).lt;calc CD M.lt_trans g
def zI(j:p.units+1<mZ)(g:NW)(n:lf mU y OE)(i:Ŗ y m)(k:∀o q,WG b q->Ŗ h o->J o q):at_ (yC CO m) J u d:=by rcases n with⟨r,s,t,v,l⟩|⟨r,s,x,t,v,A,l⟩;subst v;let⟨z,B,D,G,H⟩:=uU g.aI t;let⟨o,L,N⟩:=oc.Cg (by rw[l];calc G.val s);calc wpAny_getItem_of (xx i) H.ev L$ k o _ (g.mS _) N;subst v;cases(show m=ge.ref x from i);let⟨z,B,O,G,H⟩:=uV g.aI t;let⟨o,L,N⟩:=oc.Cg (by rw[l];calc G.val s);let⟨q,r,D⟩:=Υ.J L;calc wpAny_getItem_heap (dU j) (qy g.aI A) H r ?_;rw[D];calc k o _ (g.mS _) N
def anb(i:p.units+1<mZ)(g:NW)(k:lf mU y o)(h:Ŗ y m)(j:∀n,WG b n->J (.c0 o.by) n):at_ (Ź .In m CO) J u d:=by rcases k with⟨q,r,s,t,l⟩|⟨q,r,v,s,t,x,l⟩;subst t;let⟨z,A,B,D,G⟩:=uU g.aI s;calc wpAny_in_of (xx h) A G.ev ?_;rw[<-(D.val r).t4,<-l];calc j _$ g.mS _;subst t;cases(show m=ge.ref v from h);let⟨z,A,H,D,G⟩:=uV g.aI s;calc wpAny_in_heap (dU i) (qy g.aI x) A G ?_;have L:=(D.val r).t4;rw[Q8]at L;rw[<-L,<-l];calc j _$ g.mS _
def rK{g:ř}{ob:HO}(l:NW)(mu:Mut Db)(j:cx c d.v g)(k:∃m,g.ad c=f4 m)(h:PY aL (UR ob) g c ob):WG (UR ob) {d with AL:=g,DO:=i}:=l.pO mu GQ (λn m o z=>(BQ j.2).trans z) k h
def Xs{P:Ĵ}{w:Ŏ}{d:ř}{a:XQ ō}(z:G.length<=Ζ)(f:amD)(e:KV G a)(g:AA (d.cx (IA bt))):v4 (IA aL) c$ .dK G:=⟨z,f,a,e,g⟩
def t5{g:Hp}{o:Unit->ZE}(n:p.units+1<mZ)(i:NW)(s:lf Cz y h g)(j:Ŗ y m)(k:Ŗ h r)(q:∀t,WG g t->o () t):at_ (Va CO m r) o u d:=by
 rcases s with⟨v,x,A,B,l,D⟩|⟨v,x,G,A,B,H,l,D⟩;subst B D;let⟨z,J,L,N,O⟩:=Xq i.aI A;have t:L.length<=Ζ:=by rw[<-N.length];exact z
 have L:YG$ GY aR h:=by have:=GY gO h;lia
 calc wpAny_setItem_pairs (xx j) O λa0 b0 c0=>q _ ?_;have d0:∃f0,a0.ad c=f4 f0:=let⟨f0,_,_,g0,_⟩:=b0;⟨f0,g0⟩;calc rK i (by rw[A];calc EQ.cR) c0 d0$ Xs L J (N.put x k) b0;subst B D;cases(show m=ge.ref G from j);let⟨z,J,B,N,O⟩:=Xr i.aI A;have t:B.length<=Ζ:=by rw[<-Ñ N];exact z
 have L:YG$ GY aR h:=by have:=GY gO h;lia
 calc wpAny_setItem_heap (dU n) (qy i.aI H) O λa0 b0 c0=>q _ ?_;let⟨f0,D,G,g0,v,O,t,_,B⟩:=b0;calc rK i (by rw[A];calc EQ.cR) c0 ⟨f0,g0⟩ ⟨L,J,_,(FW N.put k).keeps λx H J=>?_,f0,D,G,g0,v,O,t,B⟩;rw[ω$ đ J A λz=>nomatch z];calc J
end
def aip(a:Expr):Prop:=∀b c,lf (HA (Eg a))=operate [b,c] (lf yC)
def ach{w:Ŏ}{a:Aw}{e id:HC}(b:typeLookup (.au e) "__getitem__"=DT (f4 (.aq id)))(c:aip n)(f:am9 (rw B a) (λg h=>am9 (rw n a) (λi k=>k.do g e/\am9 (DL yC) J u k) u h) u d):am9 (rw (BQ (.bq B)) a) J u d:=by
 calc aeO$ bJ f (λg h l=>bJ l (λi k m=>?_) aie) aie;let⟨r,m⟩:=m;calc NU;calc DY$ wpAny_specialOf r b;have s:am9 (DL (HA (Eg n))) (λt v=>am9 (letTemporaryGo B g t>>= λ_=>DT t) J u v) u k:=by rw[DL c];exact wpAny_operating$ bJ m (λt v x=>Ε$ wpAny_letTemporaryGo$ Ì x) aie
 first|exact Ì$ Ε s|exact Ε _|calc Ε s
def Gx{X:Cx}{g:ut}(a:v4 (JV FJ))(i:lf mU h g):d.do CO "dict":=by rcases i with⟨j,k,l,_,_⟩|⟨j,k,m,l,_,_,_⟩;let⟨_,_,n,_,o⟩:=uU a.aI l;calc o.aB;let⟨_,_,p,_,o⟩:=uV a.aI l;calc o.aB
def Xt{P:Ĵ}{w:Ŏ}(a:ř)(c:Ŧ<a.R.L):IA aL b (a.push {BY:=.au "dict",BX:=.b0 #[]}) a.R.L$ NF []:=⟨CY,ZH.Q$ Ne.symm$ ģ c,[],.nil,amP a⟩
def Xu{P:Ĵ}{w:Ŏ}(a:ř)(c:Ŧ<a.R.L):IA aL b (a.push {BY:=.au "dict",BX:=.b0 #[]}) a.R.L$ .dT []:=⟨CY,ZH.Q$ Ne.symm$ ģ c,[],.nil,_,#[],0,KJ,⟨I,I,I⟩,I,I,y8⟩
def Xv:TE:=λ_ a b=>∀c,hm JD->b CO (mt ø (NF []))
def Xw:TE:=λ_ a b=>∀c,hm JD->b CO (mt ø (.dT []))
def kP:EC (.Dict [] [] o) Xv:=λb c d e f g h=>ahQ ⟨wp c.v.R.L,_,g.iB (λ_ _ i=>GO i) AK$ Xt c.v g.big,I,h _$ g.aI.fresh AK⟩
def Gy:EC (.Dict [] [] o) Xw:=λb c d e f g h=>ahQ ⟨wp c.v.R.L,_,g.iB (λ_ _ i=>GO i) AK$ Xu c.v g.big,I,h _$ g.aI.fresh AK⟩
structure M1(X:Cx)(o:Expr)(m:ï)(b:vB)(c:Expr)(a:vB):Prop where
 base:FA (œ o m) anp=anp
 few:((aG a$ XE [c]).all (λd=>! d.1)&&(fP a$ FA$ bY []).all (λd=>d.1.by)&&sB (([c]:GL).length+ark []+(if([]:AX m3).a2 then 0 else 1)<30))=Z
 line:(b.bS==a.line)=Z
 Xx:aG a (XE [c])=[(gl,FA$ rw c)]
structure M2(X:Cx)(o:Expr)(m:ï)(b:vB)(c f:Expr)(a:vB):Prop where
 base:FA (œ o m) anp=anp
 few:((aG a$ XE [c,f]).all (λd=>! d.1)&&(fP a$ FA$ bY []).all (λd=>d.1.by)&&sB (([c,f]:GL).length+ark []+(if([]:AX m3).a2 then 0 else 1)<30))=Z
 line:(b.bS==a.line)=Z
 Xx:aG a (XE [c,f])=[(gl,FA$ rw c),(gl,FA$ rw f)]
def IsD(a:Hp)(b:β):Prop:=(∃c,io Rd (.dK c))\/ ∃c,io Rd (.dT c)
def Xy{X:Cx}(a:v4 (JV FJ))(g:lf IsD):d.do CO "dict"/\(∀h,ge.ref c=NB->∃i,(d.v.ad h=RW/\hm i.b0))/\amD:=by rcases g with⟨j,k⟩|⟨j,k⟩;let⟨_,l,m,_,n⟩:=uU a.aI k;calc⟨n.aB,λh o=>?_,l⟩;cases o;let⟨i,_,_,p,q,_⟩:=n;calc⟨i,p,lv q⟩;let⟨_,l,r,_,n⟩:=uV a.aI k;calc⟨n.aB,λh o=>?_,l⟩;cases o;let⟨i,_,_,p,q,_⟩:=n;calc⟨i,p,lv q⟩
section
variable {s:lm} {d:V}{u:ge}{o:ut}
def afI{j:ET}(i:p.units+1<mZ)(d:WG b s)(m:lf mU h o)(g:Ŗ h u)(k:∀n q,WG b q->Ŗ (o.getD .Ť) n->j n q):at_ (call (.aq "dict.get") [CO,u]) j J s:=by rcases m with⟨r,t,v,x,l⟩|⟨r,t,y,v,x,A,l⟩;subst x;let⟨z,B,D,G,H⟩:=uU d.aI v;calc e9 bQ H.aB fi (ga y_) (meets_dict_get _ c (xx g) B) ⟨_,H.ev,NN (d.mS _) ?_⟩;rw[l];calc(G.val t).getD I;subst x;cases(show u=ge.ref y from g);let⟨z,B,L,G,H⟩:=uV d.aI v;calc e9 bQ H.aB fi (ga y_) (NL (meetsH_dict_get _ c)) ⟨dU i,t,L,qy d.aI A,H,NN (d.mS _) ?_⟩;rw[l];calc(G.val t).getD I
def afJ{n:ET}(k:p.units+1<mZ)(g:WG b s)(r:lf mU h o)(i:Ŗ h u)(j:Ŗ d m)(q:∀t v,WG b v->Ŗ (o.getD d) t->n t v):at_ (call (.aq "dict.get") [CO,u,m]) n J s:=by rcases r with⟨x,y,A,B,l⟩|⟨x,y,D,A,B,G,l⟩;subst B;let⟨z,H,L,N,O⟩:=uU g.aI A;calc e9 bQ O.aB fi (AY za) (meets_dict_get_default _ c (xx i) H m) ⟨_,O.ev,VP (g.mS _) ?_⟩;rw[l];calc(N.val y).getD j;subst B;cases(show u=ge.ref D from i);let⟨z,H,t,N,O⟩:=uV g.aI A;calc e9 bQ O.aB fi (AY za) (meetsH_dict_get_default _ c D H m) ⟨dU k,y,t,qy g.aI G,O,VP (g.mS _) ?_⟩;rw[l];calc(N.val y).getD j
end
def ú.aci{t':M}{ch:s5}(h:NW)(g:∀i j,i∉ch->d.v.ad i=ak6->y.ad i=ak6)(c:∀i∈ch,LR (AR vL)):WG b {d with AL:=y,DO:=t'}:=by
 have k:∀i l,b i=XS->i∉ch:=λi l m z=>by have n:=(c i z).1;rw[n]at m;cases m
 calc h.step (λi o=>⟨lv$ wS$ c i o,lv$ c i o,lv (wS$ c i o).2,(wS$ wS$ c i o).2⟩) (λi j _ _ p m _=>up g p m) (λi j _ _ p m _=>⟨j.dD,up g p m⟩) (λ_ _ _ _ q=>q) (λi j p m=>QY$ up g p m) (λ_ _ m=>m) (λ_ _ _ m=>m) (λi r m=>⟨#[],by rw[m];simp⟩) (λs t=>?_) (λi l m=>?_) h.jd;let⟨j,u,x,A,B⟩:=t;calc⟨j,u,x,g _ j (RK (lv (DG c))) A,B⟩;calc(AE$ h.aI i).tL (λD v p n=>g D v ?_ n) (λ_ n=>n) λ_ _ n=>n;rcases p with z|z;rw[z];calc AE$ k i;calc DG$ k D
def ú.t6{t':M}{ch:s5}{h:HO}(l:NW)(i:∀m n,m∉ch->d.v.ad m=f4 n->y.ad m=f4 n)(g:∀m∈ch,AR vL b m)(j:d.v.R.L<=c)(k:FM (PY aL (UR h) y)):WG (UR h) {d with AL:=y,DO:=t'}:=by
 have o:=l.aI.fresh j;have p:∀m q,b m=f4 q->m∉ch:=λm q r z=>by have s:=(g m z).1;rw[s]at r;cases r
 calc l.step (λm t=>⟨lv$ wS$ g m t,lv$ g m t,lv (wS$ g m t).2,(wS$ wS$ g m t).2⟩) (λm n _ _ u r _=>i m n u r) (λm n _ _ u r _=>⟨n.dD,i m n u r⟩) (λm n _ r x=>?_) (λm n u r=>⟨n,i m n u r⟩) (λm A r=>?_) (λm n q r=>?_) (λm B r=>wn #[]) (λD G=>?_) (λm q r=>?_) l.jd;rw[ω$ ģ$ Ä (Ó r) j];calc x;rw[ω$ ρ r o];calc r;rw[ω$ ρ r o];calc r;rw[ω$ ρ r o,r];simp;let⟨n,H,J,L,N⟩:=G;calc⟨n,H,J,i _ n (RK (lv (DG g))) L,N⟩;by_cases t:m=c;subst t;rw[Α]at r;cases r;calc k;rw[ω t]at r;refine(BW$ l.aI m).tL (λO v u s=>i O v ?_ s) (λO s=>by rw[ω$ ρ s o];calc s) λO A s=>by rw[ω$ ρ s o];exact s
 rcases u with z|z;rw[z];calc BW$ p m;calc DG$ p O
def ú.ane{g:HO}(i:NW)(h:Db=HK)(mu:Mut HK):∃j,WG (UR (.jt j g)) d:=by
 have k:=ww$ i.aI c;have l:∃j,d.v.ad c=ak6:=by cases g with
 |Ý m=>let⟨_,_,_,_,n⟩:=k;calc CM n
 |dK o=>let⟨_,_,_,_,p,_,_,n,_⟩:=k;calc QZ n
 |dT o=>let⟨_,_,_,_,p,_,_,n,_⟩:=k;calc QZ n
 |set S q=>let⟨p,_,_,_,n,_⟩:=k;calc QZ n
 |Ŀ C r fs=>let⟨_,_,_,n,_⟩:=k;calc CM n
 |ext s=>let⟨_,⟨_,n⟩,_⟩:=k;calc CM n
 |_=>exact š mu
 let⟨j,n⟩:=l;have t:PY aL (UR (.jt j g)) d.v c$ .jt j g:=by calc⟨n,k.tL (λu v _ x=>x) (λu x=>?_) λu m x=>?_⟩;rw[ω (λz=>by rw[z,h]at x;cases x;calc mu)];calc x;rw[ω (λz=>by rw[z,h]at x;cases x;calc mu)];exact x
 calc QY$ i.pO (by rw[h];calc mu) GQ (λu v _ x=>x) (QY n) t
def ú.Ot{g:HO}(h:NW)(i:Db=HK)(mu:Mut HK):∀j k,a.F9 c≠f4 (AS .jt):=λj k l=>by have m:=AI$ DX h.base.yK;rw[i]at m;cases m;calc mu
def ú.C3{h:pi}{k:HO}(g:NW)(i:Db=f4 (.jt h k))(j:∀l m,a.F9 c≠f4 (AE .jt)):WG (UR k) d:=by
 have n:∀o p,b o=f4 p->(∀l m,p≠AE .jt)->o≠c:=λo p q r z=>by rw[z,i]at q;cases q;exact ga r I
 have neN:∀o,hm (b o)->o≠c:=λo q z=>by rw[z,i]at q;cases q
 calc⟨g.ok,g.os,g.jd,⟨g.base.keep,g.base.Bz,λo p q s t=>?_,g.base.there,λo u q=>?_,λo p x q=>?_,λo y q=>?_⟩,g.B5,g.cell,?_,λx A q=>?_,λB D=>?_,λo p q=>?_,g.len⟩;rw[ω$ neN o$ DQ$ SL g.base.free];calc DQ$ SL g.base.free;have G:=g.base.F8 o u q;rw[ω$ n o _ G λ_ _ z=>nomatch z];calc G;have G:=BF g.base.yK x q;rw[ω (λz=>by rw[z]at q;calc ga j q)];calc G;let⟨H,G⟩:=g.base.yL o y q;calc⟨H,by rw[ω$ n o _ G λ_ _ z=>nomatch z];calc G⟩;rw[ω$ neN _ g.free];calc g.free;rw[ω$ neN A$ g.ju x A q];calc g.ju x A q;let⟨q,s,J⟩:=g.N_ B D;calc⟨q,by rw[ω$ neN _ s];calc s,J⟩;by_cases L:o=c;rw[L,Α]at q;cases q;rw[L];let⟨_,x⟩:=g.aI c _ i;exact x.tL (λA v _ G=>G) (λA G=>by rw[atR (nomatch z)];calc G) λA u G=>by rw[atR (nomatch z)];exact G
 rw[ω L]at q;calc(SL g.aI).tL (λA v _ G=>G) (λA G=>by rw[atR (nomatch z)];calc G) λA u G=>by rw[atR (nomatch z)];calc G
def aiq(a:TS):TS:=λb c d=>∃e f,d e=MO/\Mut MO/\∀g,a ⟨λh i=>at1$ b.nx h,λv i=>at1$ b.rt v,λh i=>at1$ b.bk h,λh i=>at1$ b.ct h⟩ c (s3 ø (QN .jt))
def Ou{st:eD}{b:TS}(c:VU st b):VU st$ aiq b:=by intro d e f g h i j;let⟨k,l,m,mu,j⟩:=j;let⟨n,o⟩:=i.ane m mu;calc ay (ga (IH c) o (j n)) λp q r=>?_;cases p with
|next=>let⟨s,t,u,x,r⟩:=r;calc⟨s,_,atG,r⟩
|UF=>let⟨s,t,u,x,r⟩:=r;calc⟨s,_,atG,r⟩
|UD=>let⟨s,t,u,x,r⟩:=r;calc⟨s,_,atG,r⟩
|UE v=>let⟨y,s,t,u,z,x,r⟩:=r;calc⟨y,s,_,atG,z,r⟩
def C4{R:JK It}{g:It}{c:M->Ch ř}{tk:M}(h:NW)(i:pi)(j:EL (PY yN) n g [d.v.R.L] d.v.R.L c)(st:c 0 (d.v.push i))(k:R g b):AR PIE e n R (wp d.v.R.L) {d with AL:=d.v.push i,DO:=tk}:=by
 calc⟨d.v.R.L,_,c,g,b,I,h.fT λl m o=>GO o,j,st,λl p=>?_,k⟩;have o:l=d.v.R.L:=arF
 subst o;calc h.Se AK$ h.aI.fresh AK
def Its(a:ï):It:=⟨λb _=>b<a.eB.L,λb c v d=>d=c/\∃e,a.eB[b]? =HH/\v=HS ⟨#[e]⟩,λb _=>a.eB.L<=b⟩
def Gz{P:Ĵ}{w:Ŏ}{K:Γ}(a:β)(d:ï)(e:SV)(c:HC)(b:c="str_ascii_iterator"\/c="str_iterator"):IA yN K n (Its d) [a] a λf g=>IH$ mt g.IsStrIter where
 mem:=mo
 obj:=λf g st h i=>by
  have j:h=a:=abj
  subst j;let⟨k,j,l,m⟩:=st;exact⟨k,j,λv z=>by rw[m]at z;cases z⟩
 keep:=λf g o st p=>let⟨k,q,r⟩:=st;⟨k,JW p k q,r⟩;item:=by
  intro X t u x y f A B D G H J L st N;subst t u x;let⟨O,m,p,q,r,a0⟩:=JW L;have W:akS Walks X.A a [a] [a] d.eB.L (SignAt d) λf g=>IH$ mt g.IsStrIter:=by rcases b with j|j;rw[j];calc PQ$ Walks.strAscii$ J.ok.hd y;rw[j];exact PQ$ Walks.strWide$ J.ok.hd y
  have b0:pr$ ["enumerate","zip","dict_itemiterator","dict_reverseitemiterator","odict_iterator","itertools.zip_longest","itertools.pairwise"].an c:=by rcases b with j|j;rw[j];decide;rw[j];decide
  calc ga (W.item f B) N st λv o c0 d0 f0 kk=>?_;let⟨l,g0,h0,I⟩:=d0;have i0:IK (FJ A) {B with AL:=o,DO:=c0}:=BW (J.eX (λh k i j=>kk h k abj j) O m) a0;let⟨j0,j,k0,l0⟩:=id f0;exact⟨_,I,Ge (s:={B with AL:=o,DO:=c0}) j k0 l0 b0 ⟨HS ⟨#[l]⟩,G,i0,JA g0,⟨I,l,h0,I⟩,f0,λh i=>(t3 L).1⟩⟩
 done:=by intro X t u x y f A B D G H J L st N;subst t u x;let⟨O,m,p,q,r,a0⟩:=JW L;have l:hm d.eB[f]?:=Ez N;rcases b with j|j;rw[j]at st;calc wpAny_pyNext_ascii_end (J.ok.hd y) st l λo t=>ln$ BW (J.eX (t':=B.aG) (λh k i j=>up$ t h k) O m) a0;rw[j]at st;exact wpAny_pyNext_wide_end (J.ok.hd y) st l λo t=>ln$ BW (J.eX (t':=B.aG) (λh k i j=>up$ t h k) O m) a0
 B_:=λu f B x H st g=>by rcases b with j|j;rw[j]at st;calc wpAny_pyIter_striter_ascii st g;rw[j]at st;calc wpAny_pyIter_striter_wide st g
def ang(a:TE):TI:=λb c R=>lf a λv d=>∃e,v=.str e/\R (Its e) d
def afK{X:Cx}(a:PE X n q):PI X B n$ ang q:=by intro b c d e R f g;calc ay (on (s3 (lf a) _)) (λ v h⟨i,j,k,l,m,o,p⟩=>?_);subst o;let⟨r,I⟩:=l;cases s:m.eB.all (·<128);calc wpAny_pyIter_wide s$ C4 k _ (Gz _ m r _ Ps) ⟨_,KJ,I,I⟩ p;calc wpAny_pyIter_ascii s$ C4 k _ (Gz _ m r _ GQ) ⟨_,KJ,I,I⟩ p
def C5{b:Type}{a:asN b}{c:XQ b}(e:mt KV):∀{d:M}{k:b}{v:V},a[d]? =f4 (k,v)-> ∃f,c[d]? =f4 (k,f)/\Ŗ v f:=by induction e with
|nil=>intro d k v g;simp at g
|@cons h i j l m n o=>intro d k v g;cases d with
 |zero=>simp only[E4,ő]at g;subst g;calc⟨i.2,?_,m.2⟩;calc LM some$ Prod.ext m.1.symm I
 |HW p=>calc o g
def Ā{d:Type}{e:v->Ch d}{b:AX v}{c:List d}(f:lf (bq e)):∀{i:M}{a:v},b[i]? =WI->∃g,c[i]? =HK/\e a g:=by induction f with
|nil=>intro i a h;simp at h
|@cons a g b c j k l=>intro i m h;cases i with
 |zero=>simp only[E4,ő]at h;subst h;calc⟨g,I,j⟩
 |HW n=>calc l h
def G3{a:ō}(b:uO a m=Z):Ŗ (kV a) m:=by rcases bC b with⟨c,d,I,I⟩|⟨e,d,I,I⟩;calc JA d;calc JA d
section
variable {o:pi}
def ú.Xz(g:NW)(h:Db=f4 (.jt o (.dK G))):amD/\d.v.ad c=ak7/\o.dJ/\∃(i:FS lG) (j:M) (k:XQ ō),o.bT=up .b0/\i.L=G.length/\KV G k/\d.v.DictAt (PY bt) c k j:=by let⟨l,z,m,k,n,p,i,j,q,r,s,t⟩:=g.aI c _ h;rw[l]at q;cases(q);calc⟨m,l,r,i,j,k,s,?_,n,o,i,l,r,s,t⟩;have u:=(lv t).length;have v:=Ñ n;rw[eE]at u;lia
end
def Itd(b:β)(c:pi)(a:OV):It:=⟨ato (d<a.length),λd e f g=>g=e/\∃h,a[d]? =f4 (h,f),ato (a.length<=d)⟩
def Iti(b:β)(c:pi)(a:OV):It:=⟨ato (d<a.length),λd e f g=>∃h i v,a[d]? =f4 (i,v)/\f=NB/\hm (e h)/\g=FG ø (.c9 [kV i,v]),ato (a.length<=d)⟩
def o_{e:pi}{c a:FS lG}{b:M}(f:e.bT=.b0 c i)(d:e.bT=io .b0):a=c/\b=i:=by rw[f]at d;cases d;calc ln I
section
variable {o:pi}{es:FS lG}
def ahd(a:β)(b:o.bT=.b0 es i):yN j l N n (Itd c o G) [a] a λd e=>TY e.cF G.length i where
 mem:=mo
 obj:=λd e st f g=>by
  have h:f=a:=SX
  subst h;let⟨k,h,m,p⟩:=st;exact⟨k,h,λv z=>by rw[p]at z;cases z⟩
 keep:=λd e q st r=>st.at λk h=>JW r k h;item:=by intro X t u x y d A B D H J L O st a0;subst t u x;let⟨b0,c0⟩:=a0;let⟨d0,f0,g0,h0,i0,j0⟩:=JW O;let⟨k0,l0,m0,n0,o0,p0,r0,s0,t0,u0⟩:=L.Xz b0;let⟨I,I⟩:=o_ b r0;let⟨⟨r,v⟩,v0⟩:∃w0,G[d]? =f4 w0:=⟨G[d],δ c0⟩;let⟨x0,y0,z0⟩:=C5 t0 v0;have A0:G.length=p0.length:=Ñ t0;rw[A0]at st;calc wpAny_pyNext_values_item st u0 y0 λq B0 C0=>?_;have D0:FJ A D H {B with AL:=q}:=L.eX (t':=B.aG) (λf F0 g h=>(on C0.2).trans h) d0 f0 h0 i0 j0;let⟨k,h,m,p⟩:=id B0;calc⟨x0,I,CD (No (Ge (s:={B with AL:=q})) p) ⟨v,H,D0,z0,⟨I,r,v0⟩,?_,λf g=>(on O).1⟩⟩;rw[A0];exact B0
 done:=by intro X t u x y d A B D H J L O st a0;subst t u x;let⟨b0,c0⟩:=a0;let⟨d0,f0,g0,h0,i0,j0⟩:=JW O;let⟨k0,l0,m0,n0,o0,p0,r0,s0,t0,u0⟩:=L.Xz b0;let⟨I,I⟩:=o_ b r0;have A0:G.length=p0.length:=Ñ t0;rw[A0]at st;exact wpAny_pyNext_values_end (L.ok.hd y) st u0 SC λq k=>ln$ L.eX (t':=B.aG) (λf F0 g h=>ww$ k f F0) d0 f0 h0 i0 j0
 B_:=λm d B p J st e=>abw st e
def Lv{d:GL}{kk:M}{e:vB}(a:β)(b:o.bT=.b0 es i):yN j l N (.cw d kk e) (Iti c o G) [a] a λf g=>∃ok h,mt (IsItemIter g) f G.length i ok h where
 mem:=mo
 obj:=λf g st k m=>by
  have n:k=a:=aeG
  subst n;let⟨ok,h,n⟩:=st;exact⟨_,n,λv z=>nomatch z⟩
 keep:=λf g p st q=>let⟨ok,h,n⟩:=st;⟨ok,h,JW q _ n⟩;item:=by
  intro X r t u x f y A B D H J L st O;subst r t u;let⟨a0,b0⟩:=O;let⟨c0,d0,f0,g0,h0,i0,j0,k0,l0,m0⟩:=J.Xz a0;let⟨I,I⟩:=o_ b j0;let⟨⟨q,v⟩,n0⟩:∃o0,G[f]? =f4 o0:=⟨G[f],δ b0⟩;let⟨p0,r0,s0⟩:=C5 l0 n0;have t0:G.length=i0.length:=Ñ l0;let⟨ok,h,u0⟩:=st;rw[t0]at u0;have v0:a<A.v.R.L:=Ó u0;calc wpAny_pyNext_items_item u0 m0 r0 λw0 p x0 y0 z0 A0 B0=>?_;calc⟨_,I,wpAny_letOwnedTupleGo_items (s:={A with AL:=p}) y0 λC0 D0 F0=>?_⟩;have G0:C0.ad A.v.R.L=f4 {BY:=ado,BX:=.seq #[w0,p0]}:=(F0.2 _$ m9 v0).trans z0;have H0:akS aL (ø D A.v.R.L (.c9 [kV q,v])) C0 A.v.R.L$ .c9 [kV q,v]:=⟨by show 2<=Ζ;decide,[w0,p0],KU (G3 (show uO q w0=Z from x0))$ .cons s0 .nil,⟨_,G0,I,_,I⟩⟩;have I0:NL FJ (ø D A.v.R.L (.c9 [kV q,v])) {A with AL:=C0}:=J.t6 (t':=A.aG) (ch:=[a]) (λk J0 m n=>(F0.2 k aeG).trans$ B0 k J0 aeG n) L AK H0;calc⟨wp A.v.R.L,_,I0,I,⟨_,q,v,n0,I,J.aI.fresh AK,I⟩,⟨w0,p0,?_⟩,λk m=>?_⟩;rw[t0];calc D0;have n:k=a:=aeG
  rw[n,ω$ ģ v0];exact(JW L).1
 done:=by intro X r t u x f y A B D H J L st O;subst r t u;let⟨a0,b0⟩:=O;let⟨q,r,t,u,y,B⟩:=JW L;let⟨c0,d0,f0,g0,h0,i0,j0,k0,l0,m0⟩:=J.Xz a0;let⟨I,I⟩:=o_ b j0;have t0:G.length=i0.length:=Ñ l0;let⟨ok,h,u0⟩:=st;rw[t0]at u0;exact wpAny_pyNext_items_end (J.ok.hd x) u0 m0 SC λp D=>ln$ NL$ BW (J.eX (t':=A.aG) (λk J0 m n=>FF$ D k J0)) u
 B_:=λO f A t H st g=>let⟨_,_,n⟩:=st;PySem.W.kcp_self n g
end
def afL(a:TE):TI:=aeE (∃f g h,d=EH/\e f=f4 (.jt g (.dK h))/\R (EU Iti) e)
def X_{b:GL}{kk:M}{c:vB}(g:EC n q)(e:AN (œ n "items") (AN (rw n))=AN (rw n):=by rfl)(f:(z.bS==o.line)=Z:=by rfl):PI a (.cw b kk c) (GJ (.ao n "items" z) [] [] o)$ afL q:=by
 intro h i j k R l m;calc g_ (T:="dict") (id:="dict.items") e I f F.cV F.d2 F.type_dict_items$ ay (AE (KB (g h) _)) (λ p r⟨s,t,u,v,x,y,A,B,D,G⟩=>?_);subst B;obtain I:p=ge.ref x:=v;let⟨H,J,L,N,O,i,k,l,m,s⟩:=u.Xz D;have y:A.length=i.length:=Ñ m;calc⟨s.eT.aB,s.eT.ev.noDict,?_⟩;have p:GH (ú a) t {r with AL:=r.v.push {BY:=.au "dict_items",BX:=.bP #[DJ]}}:=u.fT (t':=r.aG) λv B G=>GO G;have J:WL (Kf (wp r.v.R.L)) (GH (PIE a) (.cw b kk c) R) a.xe {r with AL:=r.v.push {BY:=.au "dict_items",BX:=.bP #[DJ]}}:=by calc wpAny_pyIter_items (d:=x) (knd:=PY bt) ⟨_,KJ,I,I⟩ (s.push _)$ C4 (tk:=r.aG) p _ (Lv _ k) ⟨.none,.none,?_⟩ G;rw[y];exact KJ
 show ga û (jb o (.aq "dict.items") [DJ] [] []) _ a.xe r;calc Ki F.d2 F.entry_dict_items I$ h7 ⟨I,s.eT.aB,F.args_dict_items_1 _,_,FW$ meets_dict_items$ PY bt,⟨i,s.eT⟩,J⟩
def Ite(K:Γ)(a:β):It:=⟨λb c=>∃(d:g3) (e:V),wE (BN c)/\d[b]? =HH,λb c v f=>∃g e,v=FU/\UI c/\f=WH g (.c9 [AD b,e])/\ ∀d,wE (BN c)->d[b]? =HH,λb c=>∃d:g3,wE (BN c)/\d.length<=b⟩
def Sy{P:Ĵ}{w:Ŏ}{K:Γ}{c:GL}{kk:M}(d b a:β):IA yN K (.cw c kk o) (Ite K d) [b,a] b λe f=>(∃g,sK (IsEnum f) (jp e) g)/\PQ f.cG/\b≠a where
 mem:=mo
 obj:=λe f st h i=>by
  let⟨⟨g,j⟩,⟨k,l,m,n⟩,_⟩:=st;have p:h=b\/h=a:=abj
  rcases p with z|z;rw[z];calc⟨_,j,λv q=>nomatch q⟩;rw[z];exact⟨k,l,λv q=>by rw[n]at q;cases q⟩
 keep:=λe f r st t=>let⟨⟨g,j⟩,u,y⟩:=st;⟨⟨g,s4 (t b) _ j⟩,u.at λk q=>JW t k q,y⟩;item:=by
  intro X A B D m e G H J L N O n st t;subst A B D;let⟨⟨g,j⟩,u,y⟩:=st;let⟨a0,b0,c0,d0⟩:=t;let⟨f0,g0,h0,i0⟩:=O.list c0;let⟨j0,k0,l0⟩:=g0.get d0;have m0:b<H.v.R.L:=Ó j;have n0:a<H.v.R.L:=by let⟨_,q,_⟩:=u;exact Ó q
  calc wpAny_pyNext_enum_item j u h0.aF (x:=j0) (by simpa using k0) y λr l o0 p0 r0 s0=>?_;calc⟨_,I,wpAny_letOwnedTupleGo_enum (s:={H with AL:=r,DO:=H.aG+1}) l λl t0 u0=>?_⟩;have v0:l.ad H.v.R.L=f4 {BY:=ado,BX:=.seq #[SA H.aG,j0]}:=(u0.2 _$ m9 m0).trans p0;have w0:akS aL (ø L H.v.R.L (.c9 [AD e,b0])) l H.v.R.L$ .c9 [AD e,b0]:=⟨by show 2<=Ζ;decide,[SA H.aG,j0],KU EJ$ .cons l0 .nil,⟨_,v0,I,_,I⟩⟩;have x0:FJ G J (ø L H.v.R.L (.c9 [AD e,b0])) {H with AL:=l,DO:=H.aG+1}:=O.t6 (ch:=[b,a]) (λh l i q=>(u0.2 h λz=>i (by simp[z])).trans$ s0 h l (λz=>i (by simp[z])) (λz=>i (by simp[z])) q) n AK w0;calc⟨wp H.v.R.L,_,x0,I,⟨_,b0,I,O.aI.fresh AK,I,λl l=>by rw[O.rA l c0];calc d0⟩,⟨wn j0,o0.at λk q=>(u0.2 a$ Ne.symm y).trans q,y⟩,λh i=>?_⟩;have l:kw LH=jp e+1:=gt
  calc t0;have l:h<H.v.R.L:=by
   have p:h=b\/h=a:=abj
   rcases p with z|z;rw[z];calc m0;rw[z];exact n0
  rw[ω$ ģ l];exact(t3 n).1
 done:=by intro X A B D m e G H J L N O n st t;subst A B D;let⟨⟨g,j⟩,u,y⟩:=st;let⟨a0,c0,d0⟩:=t;let⟨f0,g0,h0,i0⟩:=O.list c0;let⟨g,p,y,A,B,D⟩:=JW n;have G:=g0.length;exact wpAny_pyNext_enum_end (O.ok.hd m) j u h0.aF (by simp;lia) λr J=>ln$ HP (O.eX (t':=H.aG) (λh k i q=>J h k i q) g p) D
 B_:=λL e H t N st f=>let⟨CM j,_⟩:=st;ag0 j f
def G4(K:Γ)(a:TA):TI:=aeE (∃f g,d=[EH]/\on (BN e)/\R (Ite K f) e)
def acj{X:Cx}{c:TA}{h a:vB}{b:GL}{kk:M}(d:Gl X "enumerate")(e:hm (X.mg "enumerate"))(f:PA X [n] c)(g:XE [n]=[(gl,FA$ rw n)]:=by rfl):PI X (.cw b kk a) (GJ (.bv "enumerate" h) [n] [] o)$ G4 X.K c:=by intro i j k l R m p;calc Call_$ s3 (qs m) boot_enumerate$ ż (ay (KN (f o) _ m p) (λ q r⟨s,t,u,v,x⟩=>?_)) g I;let⟨y,A,B,D,G⟩:=x;subst B;cases v with
|cons H J=>
 cases J;cases H;let⟨L,N,O,i⟩:=u.list D;calc call_enumerate_list O.aF λj k l m p=>ag0 k ?_;have q:=u.fT (t':=r.aG) p;calc⟨_,_,_,_,t,I,q,Sy y _ r.v.R.L,⟨CM k,l,M.succ_ne_self _⟩,λs A=>?_,G⟩;have v:s=r.v.R.L+1\/s=r.v.R.L:=by simpa using A
 have x:r.v.R.L<=s:=by rcases v with z|z;rw[z];calc ga eF;rw[z];exact AK
 calc u.Se x$ u.aI.fresh x
def Sz:kh "zip"=f4 (.au "zip"):=by decide+AO
def Itz(K:Γ)(a b:β):It:=⟨λc d=>∃(e f:g3) (g h:V),AM (BN d)/\DA (BN d)/\e[c]? =HK/\f[c]? =OE,λc d v i=>∃j g h,v=PX/\hm (d j)/\i=ø d j (.c9 [g,h])/\(∀e,AM (BN d)->e[c]? =HK)/\ ∀f,DA (BN d)->f[c]? =OE,λc d=>∃e f:g3,AM (BN d)/\DA (BN d)/\(e.length<=c\/f.length<=c)⟩
def Ya{P:Ĵ}{w:Ŏ}{K:Γ}{d:GL}{kk:M}{e f z TI TO a:β}(b:py (AA (ZipApart z TI TO))):IA yN K (.cw d kk o) (py (Itz K)) [z,TI,TO,c,a] z λg h=>IsZip h z TI TO .none/\IsPair h TI CO AC/\(∃i j,up (IsPair h TO))/\AH h.cG g/\on (h.cG a)where
 mem:=mo
 obj:=λg h st k m=>by
  let⟨n,p,⟨i,j,q⟩,⟨r,t,_,u⟩,⟨A,B,_,D⟩⟩:=st;have G:k=z\/k=TI\/k=TO\/k=c\/k=a:=aeG
  rcases G with H|H|H|H|H;rw[H];calc⟨_,n,λv H=>nomatch H⟩;rw[H];calc⟨_,p,λv H=>nomatch H⟩;rw[H];calc⟨_,q,λv H=>nomatch H⟩;rw[H];calc⟨r,t,λv H=>by rw[u]at H;cases H⟩;rw[H];exact⟨A,B,λv H=>by rw[D]at H;cases H⟩
 keep:=λg h J st L=>by let⟨n,p,⟨i,j,q⟩,N,O⟩:=st;exact⟨s4 (L z) _ n,s4 (L TI) _ p,⟨i,j,s4 (L TO) _ q⟩,N.at λr H=>s4 (L c) r H,O.at λr H=>JW L r H⟩
 item:=by
  intro X u A D m g L a0 b0 c0 d0 f0 g0 st h0;subst u A D;let⟨n,p,⟨i0,j0,q⟩,N,O⟩:=st;let⟨k0,l0,i,j,m0,n0,o0,p0⟩:=h0;let⟨r0,s0,t0,_⟩:=f0.list m0;let⟨u0,v0,w0,_⟩:=f0.list n0;let⟨x0,y0,z0⟩:=s0.get o0;let⟨A0,B0,C0⟩:=v0.get p0;have D0:z<a0.v.R.L:=Ó n;calc FH (wpAny_pyNext_zip_item b n) N O t0.aF w0.aF (x:=x0) (y:=A0) (by simpa using y0) (by simpa using B0) λJ F0 G0 H0 I0 J0 K0 M0=>?_;calc⟨_,I,wpAny_letOwnedTupleGo_zip (s:={a0 with AL:=J}) F0 λN0 O0 P0=>?_⟩;have Q0:N0.ad a0.v.R.L=f4 {BY:=ado,BX:=.seq #[x0,A0]}:=(P0.2 _$ m9 D0).trans J0;have R0:akS aL (ø c0 a0.v.R.L (.c9 [i,j])) N0 a0.v.R.L$ .c9 [i,j]:=⟨by show 2<=Ζ;decide,[x0,A0],.cons z0$ UX C0,⟨_,Q0,I,_,I⟩⟩;have S0:FJ L b0 (ø c0 a0.v.R.L (.c9 [i,j])) {a0 with AL:=N0}:=f0.t6 (t':=a0.aG) (ch:=[z,TI,TO,c,a]) (λk r T0 H=>(P0.2 k$ YB (by simp[U0])).trans$ M0 k r (YB (by simp[U0])) (YB (by simp[U0])) (YB (by simp[U0])) (YB (by simp[U0])) H) g0 AK R0;calc⟨wp a0.v.R.L,_,S0,I,⟨_,i,j,I,f0.aI.fresh AK,I,λl i=>by rw[f0.rA i m0];calc o0,λl i=>by rw[f0.rA i n0];calc p0⟩,⟨O0,?_,⟨x0,A0,?_⟩,?_,?_⟩,λk j=>?_⟩;calc(P0.2 _ b.TIz).trans$ ga M0 b.TIz b.TITO b.TIi1 b.TIi2 p;calc(P0.2 _ b.TOz).trans G0;calc H0.at λr H=>(P0.2 _ b.i1z).trans H;calc I0.at λr H=>(P0.2 _ b.i2z).trans H;have i:k<a0.v.R.L:=by
   have G:k=z\/k=TI\/k=TO\/k=c\/k=a:=and
   rcases G with H|H|H|H|H;rw[H];calc D0;rw[H];calc Ó p;rw[H];calc Ó q;rw[H];let⟨_,t,_⟩:=N;calc Ó t;rw[H];let⟨_,B,_⟩:=O;exact Ó B
  rw[ω$ ģ i];exact(g0 k j).1
 done:=by
  intro X u A D m g L a0 b0 c0 d0 f0 g0 st h0;subst u A D;let⟨n,p,⟨i0,j0,q⟩,N,O⟩:=st;let⟨k0,l0,m0,n0,t⟩:=h0;let⟨r0,s0,t0,_⟩:=f0.list m0;let⟨u0,v0,w0,_⟩:=f0.list n0;have B:=s0.length;have G:=v0.length;have u:hm r0.ac[g]? \/hm u0.ac[g]?:=by rcases t with H|H;calc .D (by simp;lia);exact .X (by simp;lia)
  exact FH (wpAny_pyNext_zip_end (f0.ok.hd m) b n) N O t0.aF w0.aF u λJ M0=>ln$ f0.aci (t':=a0.aG) (ch:=[z,TI,TO,c,a]) (λk r T0 H=>M0 k r (YB (by simp[U0])) (YB (by simp[U0])) (YB (by simp[U0])) (YB (by simp[U0])) H) g0
 B_:=λA g a0 D d0 st h=>ahR st.1 h
def ack(K:Γ)(a:TA):TI:=aeE (∃f g h i,d=[EH,FU]/\py BN h/\DL (BN e)/\R (on (Itz K)) e)
def afM{X:Cx}{c:TA}{i a:vB}{b:GL}{kk:M}(e:Gl X "zip")(f:hm (X.mg "zip"))(g:PA X [B,n] c)(h:XE [B,n]=(gl,FA$ rw B)::XE [n]:=by rfl)(d:pr ((aG o$ XE [n]).any (·.1)):=by rfl):PI X (.cw b kk a) (GJ (.bv "zip" i) [B,n] [] o)$ ack X.K c:=by intro j k l m R p q;calc Call_$ py (qs p) Sz$ ż (ay (FH (TW (g o) m _)) (λ r s⟨t,u,v,x,y⟩=>?_)) h d;let⟨A,D,G,H,J,L,N,O⟩:=y;subst J;cases x with
|cons j k=>cases k with
 |cons l k=>
  cases k;cases j;cases l;let⟨m,p,q,_⟩:=v.list L;let⟨r,t,G,_⟩:=v.list N;have H:=q.lt;have x:=G.lt;calc call_zip_2 q.aF G.aF λy J j k l m p L=>ahR J ?_;have r:=v.fT (t':=s.aG) L;calc⟨_,_,_,_,u,I,r,Ya$ Ix$ PySem.W.ktu_apart s.v.R.L A D,⟨J,j,⟨_,_,k⟩,l,m⟩,λt N=>?_,O⟩;have q:t=s.v.R.L+4\/t=s.v.R.L+2\/t=s.v.R.L+3\/t=s.v.R.L\/t=s.v.R.L+1:=by simpa using N
  have G:s.v.R.L<=t:=by rcases q with z|z|z|z|z;rw[z];calc ga eF;rw[z];calc ga eF;rw[z];calc ga eF;rw[z];calc AK;rw[z];exact ga eF
  calc v.Se G$ v.aI.fresh G
end L2
namespace ani
open PySem PyProof.Rows
end ani
namespace TL
open PySem PySem.Builtin PySem.Builtin.Str PySem.StrLaws
abbrev tl(a:ï):f8:=a.eB.aU
def t7(a b:ï):tl (a++b)=tl a++tl b:=by show(a++b).cps.toList=_;rw[ï.cps_append,FS.toList_append]
def G5(a:HC):tl (Ρ a)=a.aU.q zb:=akx a
def G6(S:f8):AU->f8|[]=>[]|[a]=>a|UO c=>a++(S++G6 S LY)
def Ov(a:ï):∀b:CJ,tl (io Q9)=G6 (tl a) (b.q tl)|[]=>I|[_]=>I|c::z::d=>by show tl (c++a++Q9 a _)=tl c++(tl a++G6 _ ((z::d).q tl));rw[t7,t7,Ov a _,Ĝ]
def acm(b:ï)(a:CJ):sK vG=sK Q9:=sK glued_eq_join
def acn(a:M):f8:=JH (M.toDigits 10) zb
def afN(a:M):tl (Ρ (ag_ DD))=acn a:=amQ a
def yR:∀a:M,a<10->(ag1 a).aj=48+a:=DU
def aco{a:M}(b:a<10):acn a=[48+a]:=by unfold acn;rw[M.toDigits_of_lt_base b];show[(ag1 a).aj]=_;rw[io yR]
end TL
namespace L2
open PySem PySem.Spec PyProof.Rows
variable{a:Cx}{b c:TE}{d:Expr}{f:vB}
def me:∀{a:CJ}{b:wr},Ĺ (a.q V.str) b->sK StrsAre|[],_,.nil=>.nil|c::a,_,s3 .cons=>by let⟨f,I⟩:=d;calc .cons c f$ me e
def acp:Gp a "str.join" (λb c d e=>∃f g,∃h:CJ,b=.str f/\c=[FU]/\(DR (EL bI) (h.q V.str)\/DR (EL Lg) (h.q V.str))/\(h.q (·.length)).sum+h.length*f.length<=16777216/\e (HS (GP vG)) d):=by intro i j k d b c v l e m n o p;let⟨f,g,h,I,I,q,r,p⟩:=p;let⟨s,I⟩:=n;cases o with
|cons t o=>cases o;cases t;rcases q with q|q;let⟨u,x,⟨y,z,A,B,_,D⟩,_⟩:=m.list q;calc aky ⟨y,A,B,z,D⟩ (by calc me x) r λG H=>⟨Rs,d,m.mS H,JA G,p⟩;let⟨u,x,J,_⟩:=m.tuple q;calc akz J (by calc me x) r λG H=>⟨Rs,d,m.mS H,JA G,p⟩
section
variable {e:Expr}
def tM1(c:IX)(a b:TE):TE:=λd e f=>s3 a λg h=>(∃i,g=.str i)/\Fk h (λj k=>c g [j] k f)
def ais{id:HC}{g:ï}{j:vB}{p:IX}(k:Slot "str" g id)(l:ap4)(XN:Gp a id p)(m:wE PE b)(n:CF EC)(o:NY [e]=[(gl,AN$ rw e)]:=by rfl)(h:AN (DR œ) (AN (rw d))=AN (rw d):=by rfl)(i:(f.bS==j.line)=Z:=by rfl):EC (GJ (DR .ao f) [e] [] j)$ lf$ tM1 p:=by intro q r s t u x y;calc PySem.Call_method1 h o i$ ay (DZ (DQ (BW m) _)) (λ v z⟨A,B,D,G,H⟩=>?_);let⟨⟨J,I⟩,H⟩:=H;let⟨L,I⟩:=_root_.id G;calc⟨_,_,F.plainAttrs_str,k,l,AY typeIs_str,(λ_ e=>nomatch e),da I$ g9$ c_ ?_⟩;calc ay (n q z s B _ D H) (λ N O⟨r,t,x,y,A⟩=>fQ$ DQ (XN q O) _ [r] _ [N] u x G (.cons y .nil) A)
def C6{i:vB}(j:wE PE b)(k:CF EC)(l:NY [e]=[(gl,AN$ rw e)]:=by rfl)(g:AN (œ d "join") (AN (rw d))=AN (rw d):=by rfl)(h:(f.bS==i.line)=Z:=by rfl):EC (GJ (.ao d "join" f) [e] [] i) (lf (tM1 (λm n o p=>∃q r,∃s:CJ,m=.str q/\n=[.ref r]/\(EL bI o r (s.q V.str)\/EL Lg o r (s.q V.str))/\(s.q (·.length)).sum+s.length*q.length<=16777216/\p (HS (vG q s)) o))):=ww$ TW$ ais F.slot_str_join F.type_str_join acp
end
end L2
namespace Att
open PySem PySem.W PySem.Calls PyProof.Rows
def vN{P:Params}{c:ř}:∀(a:At)(b:wr),Ev (WellAll P) (a.q WData.int)->sK J3:=by intro a;induction a with
|nil=>intro b w;cases w;calc .nil
|cons d a e=>intro b w;cases w with
 |cons f g=>cases f;calc ga .cons$ e _ g
end Att
namespace L2
open PySem PySem.Spec PyProof.Rows
variable{l:Ŏ}{m:ř}{j:Ĵ}{o:Do}{h:Γ}{c q:ï}{a J:β}{G:MF}{f N:CJ}{e y:M}{i:Sp}{b:Cx}{n z:vB}{d u:Hp}{H:U}{v:St}{x:TE}{s:eD}{B:GL}{D:TA}{p:Expr}{A:lm}{L:BO}
def zJ:∀{a:wr}{b:At},io J3->Ĺ (BT b.q) a|_,_,.nil=>.nil|_,_,s3$ .cons c=>KU (JA d)$ zJ e
def é(a:eD)(b:M):eD:=match a with|AY$ EY$ AY .ClassDef c=>c.getD b$ .Pass ⟨0,0,0,0⟩|_=>.Pass ⟨0,0,0,0⟩
def gC(a:eD):A_:=match a with|EY$ EY$ .d0 _ b=>b|_=>{posonlyargs:=[],args:=[],vararg:=none,kwonlyargs:=[],kw_defaults:=[],kwarg:=none,defaults:=[]}
def ef(a:eD):AX eD:=match a with|AY$ EY$ ga .d0 b=>b|_=>[]
def ê(a:eD):fN:=match a with|AY$ ga (EY .d0) b=>b|_=>{kind:=.bn,amp:=[],auE:=gl,auF:=gl}
abbrev yS:CXT:=λ_ _ _ _ _ _=>DN
abbrev E0:XK:=λ_ _ _=>DN
def zK{X:Cx}:oj yS X E0:=λ_ _ _ _ _ _ _ a=>a.elim
structure S3(K:Γ)(x a:ï)(st:eD)(f:β)(b:MF):Prop where
 ex:∃(c:ge) (d:RD) (kV e g:ge) (h:RD) (i j:ge) (k:FS WA),b=up (ww (ap7 (fh x a) e))/\K.E f=f4 ⟨c,d,.de b,k⟩/\ni K i a=Z
 kp:fg K EH=Z
def S3.ok{st:eD}(F:S3 h q c st a G)(S:hU f N (ê st))(s:∀d n p r,i d n p r->d.length=N.length)(k:∀(g:ge)(t:ff)(b:NP)(u:lm)(n:Hp)(d:g3)(p:VK)(r:XK),dC e (t.deeper (qc c (ê st) u.v.R.L a g))->i d n p r->∃v,Ld (KL (TZ (Gj yS)) (ê st) a g t b u n r).nox (ef st) v/\v {nx:=λ_ x=>p .Ť x,rt:=p} (start f d) n):TZ fU yS LH a G N i:=by let⟨y,z,kV,A,B,D,g,H,J,I,L,O⟩:=F.ex;calc ad6 L O S s λt b u n d p r x y=>?_;let⟨v,z,A⟩:=DZ (k g t b u n d p r);calc⟨v,z.nox,A⟩
def S3.Ow{st:eD}(F:S3 h c q st a G)(k:∀(kV b e:ge)(g:RD)(d i:ge)(j:wr),j.length=f.length->amL (zn (ap7 (fh c q)) g d i) (QY [])=DT (f.zip j)):di h G f []:=by let⟨l,m,kV,b,e,g,d,i,n,I,o,p⟩:=F.ex;calc .all$ zn (k kV) g d i
def qz{st:eD}{j:ge}{k f:RD}{e:FS WA}{kV d g b i:ge}(l:h.E a=f4 ⟨j,k,.de$ LR$ DR (ap7 (fh q c)) f,e⟩)(m:lf (ni h)=Z)(n:fg h AC=Z):S3 h q c st a$ LR$ DR (ap7 (fh q c)) f:=⟨⟨j,k,kV,d,g,f,b,i,e,I,l,m⟩,n⟩
def ba{b:ff}(a:dC e b):b.units+1<mZ:=ĝ (CD M.add_le_add_left _) a.units
def pv(g:M)(d:b.N[g]? =HE:=by rfl)(e:Vis b.ó.aP c:=by first|exact yq I|exact uy$ yq I|calc uy$ uy I)(f:pr (c==ZF):=by decide)(a:pr (c==FP "__classdict__"):=by decide):WX (.bv c)$ Le g:=IH Lf a
def Μ(b a:Hp):Prop:=∀c d,Db=LJ->JD=LJ
def Μ.refl(a:Hp):Μ a a:=λ_ _ b=>b
def Μ.trans{a:Hp}(b:LF u)(c:Μ u a):EK Μ:=λe f g=>py c$ on EV
def Μ.free(b:LF u){l:β}(a:u l=aeS):d l=aeS:=by cases c:d l with
|none=>rfl
|some e=>rw[CF$ b l]at a;cases a
def Μ.seq{K:Γ}{c:g3}(e:LF u)(b:mt (BN d)):mt$ BN u:=by rcases b with(b|⟨f,b⟩)|b;calc wT$ MX b;calc .D$ .X ⟨f,MX b⟩;calc .X b
section
variable [OF κ]
end
def pQ{R:PySem.W.WRecords}{c:ï->RD} :∀{a:At}{b:wr},Ĺ (BT a.q) b->PySem.W.ReadsAllW R c m b (a.q ahS) []|[],_,.nil=>.nil|z::d,_,py .cons=>by let⟨g,I⟩:=e;calc abx (.int z g)$ pQ f
def vO(a:β)(b c d:U):HO:=.ext λe=>∃f g v,on (JG (IsRange e)) v
def Ox{P:Ĵ}{w:Ŏ}{e f:U}{b c v:SV}(g:lf (py (IsRange m a H)) v):IA aL d m a$ py$ vO a H:=⟨⟨b,c,v,g⟩,CM g,λ _ _⟨b,c,v,h⟩ i=>⟨b,c,v,i _ h⟩⟩
def ait{c d z:V}{a:wr}(b:Ĺ [c,d,z] a):∃e f g,a=[e,f,g]/\AH Ŗ/\DS Ŗ/\Ŗ z g:=by cases b with
|cons h b=>let⟨e,f,I,i,j⟩:=W_ b;calc⟨_,_,_,I,h,i,j⟩
def zL:a9 b air λa c d=>∃e f,a=[SA,QA]/\ ∀g,UI c->d FU (WH g (py (vO g) 1)):=by intro h i j c a k d l g m;let⟨e,f,I,n⟩:=m;let⟨o,p,I,⟨q,I⟩,⟨r,I⟩⟩:=W_ g;calc arM ?_;calc⟨wp i.v.R.L,_,l.iB (λs t u=>GO u) AK$ Ox (Ey ..),I,n _$ l.aI.fresh AK⟩
def t8:a9 b air λa c d=>∃e f g,a=[SA,QA,VF]/\(g≠0/\g.a4<1073741824)/\ ∀h,hm (c h)->d NB (FM ø (on (vO h e))):=by intro i j k c a l d m h n;let⟨e,f,g,I,⟨o,p⟩,q⟩:=n;let⟨r,s,t,I,⟨u,I⟩,⟨v,I⟩,⟨x,I⟩⟩:=ait h;calc call_range_3 o ?_$ .D$ Ax p;calc⟨wp j.v.R.L,_,m.iB (λy z A=>GO A) AK$ Ox (Ey ..),I,q _$ m.aI.fresh AK⟩
def pE(a b:U)(c:M):g3:=(ι c).q (λ(d:M)=>FL (a+jp d*b))
def Lw{c:U}:∀{b:M}{a:wr},a.length=b->(∀(d:M) v,a[d]? =DE->∃e,v=AB (H+jp d*c) e)->Ĺ (Ev (pE H)) a:=by intro b;induction b with
|zero=>intro a f _;obtain I:=Ġ.J f;calc .nil
|HW b g=>
 intro a f h;rcases oS a with I|⟨i,v,I⟩;simp at f;have j:i.length=b:=by simp at f;exact f
 rw[oT]at h|-;have k:pE H c BP=Ev (pE H)++[FL (H+b*c)]:=by unfold pE;rw[ę,Æ];rfl
 rw[k];calc Ĺ.append (g j (λd l m=>h d l ?_))$ .cons ?_ .nil;rw[Ņ (φ.J m).1];calc m;let⟨e,n⟩:=h b v (by rw[im Ű,j];simp);calc⟨e,n⟩
def eJ(a:b.gM=Z):a9 b II λc d e=>∃(f:β) (g h i:U) (j:M),c=[EH]/\d f=f4 (t3 (on vO))/\t3 (dN g)=Z/\t3 (Ę g)=j/\GT j/\∀l,ME d->e CG (ø d l (AQ (up (pE g)))):=by intro k m n d c o e p f q;let⟨r,g,h,i,j,I,s,t,u,x,y⟩:=q;let⟨z,I,A⟩:=kN f;cases A;let⟨⟨B,z,v,D⟩,_⟩:=p.aI r _ s;calc EB (call_list_range (p.ok.hd a) D) x λG H J L N O k=>?_;calc⟨wp m.v.R.L,_,p.iB N AK (show aL b.prog b.w _ G _ (.Ý _)from⟨?_,J.aU,L,Lw (by calc k.1) λh v c=>?_,?_⟩),I,y _$ p.aI.fresh AK⟩;unfold pE;rw[θ,Ð];calc x;calc k.2 h v Re;calc O
def Ly(K:Γ):IX:=λa b c d=>∃(e:β) (f:At) (g:U),a=EN/\b=[VF]/\AH BN (BT f.q)/\PF (AD (f.count g))
def S4:Gp b "list.count"$ Ly b.K:=by intro a c d e f g v h i j k l m;let⟨n,o,p,I,I,q,r⟩:=m;let⟨s,I,⟨t,I⟩⟩:=kN l;cases k;let⟨u,x,y,_⟩:=j.list q;calc count_list_ints y.aF x.ints ⟨OQ,e,j.mS _,EJ,r⟩
def pR(a:At):At:=a.ah step_dedup []
def xy(a:At):RL (firstMet (λb=>ae3))=pR a:=by unfold firstMet pR;congr 1;calc dV XZ;rw[Δ];by_cases c:b<a.length;rw[ë c,δ c];simp[δ c];rw[Á Re,SC];rfl
def afO(a:b.gM=Z):a9 b (.au "set") (λc d e=>∃(f:β) (g:At),c=[EH]/\DS (bI b.K) (BT g.q)/\g.length<4000/\∀l,ME d->e CG (ø d l (.set (λh=>(pR g).any (·==h)) (pR g).length))):=by
 intro i j k d c m e n o p;let⟨f,g,I,q,r,s⟩:=p;let⟨t,I,u⟩:=kN o;cases u;let⟨v,x,y,_⟩:=n.list q;have z:v.length=g.length:=by have:=x.length;rw[θ]at this;exact this.symm
 calc call_set_list (n.ok.hd a) y.aF (by simpa using x.ints) (by rw[Ç,z];show g.length+1<4096;lia) λA B D G=>?_;have H:v.ac.L=g.length:=by exact z
 rw[H,xy]at D;calc⟨wp j.v.R.L,_,n.iB (λJ L N=>G J L (Ó N) N) AK (show aL b.prog b.w _ A _ (ga .set)from D),I,s _$ n.aI.fresh AK⟩
def S5:a9 b (.aq "len") λa c d=>∃(e:β) (S:U->nm) (f:M),a=[EN]/\c e=f4 (.set S f)/\PF QA:=by intro g h i c a j d k l m;let⟨e,S,f,I,n,o⟩:=m;let⟨p,I,q⟩:=kN l;cases q;let⟨r,s,t,u,v,x,y,_,_,z,A,B⟩:=k.aI e _ n;have D:scanBound=4096:=I;calc im (DZ (call_len_set v) A) ⟨QA,c,k.mS _,CM (by rw[B]),o⟩
def SB(b:β)(c a:Hp):Prop:=∀d e,d≠b->HU=HH->MY=HH
def Μ.sb(b:LF u):wE SB u:=λc e _ f=>py Db
def SB.ø{b:HO}:wE SB$ io$ ø d:=λc _ e f=>by rw[ω e];calc f
def SB.trans{b:Hp}(c:wE SB u)(e:SB a u b):wE SB b:=λf g h i=>EU e$ t3$ on c
def SB.same{b:Hp}(c:hm (d a))(e:LF u)(f:SB a u b):NI Μ:=λg h i=>ww f (ρ i c)$ t3$ e g
def Μ.new{l:β}{o:HO}(a:ME d):LF$ ø d l o:=λb c e=>by rw[ω$ ρ e a];calc e
def Ĩ{X:Cx}{z:U}(b:Gl X c)(a:∃e,X.mg c=PV (.int z))(d:pr (c==ZF):=by decide):PE X (.bv c n)$ tC$ .int z:=by let⟨e,a⟩:=a;calc sK rz (JA e) d
def aiu(a:Hp)(v:V)(b:VK):Prop:=∀c,mt Μ->IQ b
def aiv(b:Hp)(a:At)(c:VK):Prop:=∀l d,v4 Μ->ME b->d l=BG (BT a.q)->c CG d
abbrev dk(c:Hp)(b:s5)(a:AX At):Prop:=sK$ bq λd e=>HU=BG (BT e.q)
def G7(b:Hp)(a:AX At)(c:VK):Prop:=∀l d e,zn Μ->ME b->(∀f,f∈d->hm (b f)/\f≠l)->e l=KE d.q->EK (dk e)->c CG e
def dk.same{b:s5}{a:AX At}(c:sK (dk d))(e:LF u):sK$ dk u:=bq.eI c λ_ _ f=>MX f
def bq.app{a b:Type}{F:a->Ch b}:∀{c d:List a}{e f:List b},AH (bq F)->DS (bq F)->bq F (c++d) (e++f)|_,_,_,_,.nil,g=>g|_,_,_,_,t3 .cons,g=>.cons h$ bq.app i g
section
variable{g:TG}{tt:TT} {vs:f8} {Qd:DV}
abbrev C7(h:TG)(c:TT)(d:TE)(a:f8)(b:St)(j:β)(i:V)(e:Hp)(g:nm)(f:JK V):Prop:=∀(k:VK)(l:DV),(g=Z->∀m n,Μ e n->FF f->FF k)->(pr g->∀n,Μ e n->l n)->h i (sK Ş) e (λo p=>Ş o a=sK Ş/\BF c (λq r=>if q=Z then d o r k else l r))
abbrev acq(a:Hp)(d:β)(e:JQ)(b:M->JK V)(f:M)(c:Hp):Prop:=mt Μ/\∃g,HU=f4 (.Ý g)/\bq (λh i=>t3 b c) ((ι f).filter e) g
def C8{c:JQ}{b:M->JK V}{i:V}(f:hm (d a))(j:y<Ζ)(k:e<y)(st:∀m n u o,b m n u->SB a u o->BQ (b m))(l:zn (mt (acq d)) u)(h:IP (C7 g tt x vs v) u (c e) EV):g i (Ş v vs) u λp q=>Ş p vs=Ş v vs/\FH tt (λr s=>if r=Z then x p s (λn t=>∃A,t a=f4 (.Ý A)/\A.length<Ζ/\mt (acq d) b LH (ø t a (AQ (A++[n]))))else mt (acq d) b LH s):=by
 let⟨B,D,G,H⟩:=l;have J:D.length<=e:=by have L:=Ñ H;rw[<-L];exact s4 OD
 calc UP (λN n o O q=>⟨D,ML G,gt,SB.same f B$ O.sb.trans SB.ø,_,Α,?_⟩) λN o O=>⟨B.trans O,D,ML G,?_⟩;rw[ę,ł];calc bq.app (bq.eI H (λm z p=>ga (st m z) p$ O.sb.trans SB.ø)) ?_;have L:[e].filter c=[e]:=by simp[N]
 rw[L];calc UX$ ga (st e n) q SB.ø;rw[ę,ł];have L:[e].filter c=[]:=by simp[N]
 rw[L,Đ];calc bq.eI H λm z p=>ga (st m z) p O.sb
def lcR{lo:U}{n:M}(f:e=n)(k:JQ)(b:M->JK V)(c:hm (d a))(h:n<Ζ)(st:∀l m o p,AE b o->BF (SB a)->AE b p)(i:∀q o,q<n->LF o->(∃r,o a=f4 (.Ý r))->C7 g tt x vs v a (AB (lo+q)) o (k q) (b q))(j:∀o s,LF o->o a=f4 (.Ý s)->bq (λl m=>AE b o) ((ι n).filter k) s->Qd o):∃W:M->JK M,(∃t,W 0 t (EK ø (AQ [])))/\ ∀q t o,W q t o->((Gf lo e).mT q o/\Qd o)\/((Gf lo e).go q o/\∃u:DV,(∀p,u p->∃y,y<t/\W (q+1) y p)/\ ∀z p,(Gf lo e).En q o z p->g z (Ş v vs) p (λA B=>Ş A vs=Ş v vs/\HP tt (λD G=>if D=Z then x A G (λm H=>∃r,H a=f4 (.Ý r)/\r.length<Ζ/\u (JY ø (AQ (r++[m]))))else u G))):=f▸Xp _ ⟨Μ.new c,[],Α,.nil⟩ (λq o J L=>FM C8 J st L$ i q o J L.1 (by let⟨_,N,_⟩:=L.2;calc CM N)) (λ o⟨O,s,l,t⟩=>j o s O l t)
def G8{K:Γ}{a:β}{xs:g3}(j:JQ)(b:M->JK V)(c:hm (d J))(e:xs.length<Ζ)(f:EK BN xs)(st:∀k l m n,AI b m->FF (SB J)->AI b n)(h:∀o p m,xs[o]? =f4 p->LF m->(∃q,m J=f4 (.Ý q))->C7 g tt x vs v J p m (j o) (b o))(i:∀m r,LF m->m J=f4 (.Ý r)->bq (λk l=>AI b m) (FX xs.length j) r->Qd m):∃W:M->JK M,(∃s,W 0 s (ø d J (AQ [])))/\ ∀o s m,W o s m->((Ob K a).mT o m/\Qd m)\/((Ob K a).go o m/\∃t:DV,(∀n,t n->∃u,u<s/\W (o+1) u n)/\ ∀p n,(Ob K a).En o m p n->g p (Ş v vs) n (λy z=>Ş y vs=Ş v vs/\tt y z (λA B=>if A=Z then NL x (λl D=>∃q,D J=f4 (.Ý q)/\q.length<Ζ/\t (ø D J (AQ (q++[l]))))else t B))):=acg _ ⟨Μ.new c,[],Α,.nil⟩ (λ_ _ _ G=>G.1.seq f) (λo p m H G=>AH C8 (φ.J H).1 st G$ BF h m H G.1 (by let⟨_,L,_⟩:=G.2;calc CM L)) (λ m⟨N,r,O,k⟩=>i m r N O k)
end
def mf{a:Type}{c:a->V}:∀{l:List a}{b:g3},bq (λd e=>e=HU) l b->b=l.q c|_,_,.nil=>I|_,_,on .cons=>by rw[f,mf g];rfl
def jx{a:Type}{c:a->At}{B:Ch β}:∀{l:List a}{b:g3},bq (λe f=>∃g,f=V.ref g/\B g/\d g=VG (c e)) l b->∃h,b=GG h.q/\(∀g,g∈h->B g)/\dk d h (l.q c)|_,_,.nil=>⟨[],I,mo,.nil⟩|_,_,KU ⟨g,i,j,k⟩ m=>by let⟨h,n,o,p⟩:=jx m;calc⟨_,by rw[i,n];rfl,λq r=>?_,.cons k p⟩;rcases ν.J r with I|r;calc j;calc BW o
def afP{a p:nm}{d e:Prop}(f:a=p)(b:p=Z->d)(c:pr p->e):if a=Z then d else e:=by subst f;cases a with
|Z=>calc b I
|gl=>calc c I
def aiw(a b:M):sB (FL DD=FL GI)=(a==b):=gt
def anj(a b:U):sB (V.int a=V.int b)=sB NJ:=by simp only[V.int.injEq]
def aix{a:HO}{b:JK β}(c:∀l e,ME d->s3 Μ->e l=WI->b l e):∀l,ME d->b l (GV (ø d)):=λl f=>c l _ f (Μ.new f) Α
def ĭ(K:Γ)(mg:Do)(a:ï)(st:eD)(b:CJ):Prop:=∃c d,re (S3 K a a st)/\mg a=f4 CO/\NI (di K) []
def ş(K:Γ)(C:β)(c a:ï)(st:eD)(b:CJ):Prop:=∃d e,s3 (AA (S3 K) st)/\re (xp K C)/\MS C/\di K e b []
def gP(K:Γ)(mg:Do)(C:β)(c a:ï)(st:eD)(b:CJ):Prop:=∃d e,s3 (S3 K "__init__" a st)/\Mk K C d/\mg c=AT C/\di K e b []
def zM(P:Ĵ)(w:Ŏ)(K:Γ)(mg:Do)(a:ř)(d:M)(e:ï)(b:CJ)(c:Sp):Prop:=∃f g,lf (QJ ap5)/\mg e=f4 EH/\fg K EH=Z/\di K g b []
def Lz(P:Ĵ)(w:Ŏ)(K:Γ)(mg:Do)(a:ř)(d:M)(C:β)(e:ï)(b:CJ)(c:Sp):Prop:=∃f g,lf (QJ ap5)/\py (xp K C)/\MS C/\di K g b []
def MkC(P:Ĵ)(w:Ŏ)(K:Γ)(mg:Do)(a:ř)(d:M)(C:β)(e:ï)(b:CJ)(c:Sp):Prop:=∃f g,lf (QJ ap5)/\Mk K C f/\mg e=AT C/\di K g b []
def fsB(b P:CJ)(a:fN):nm:=(a.kind==.bn&&! a.dR&&! a.dQ)&&sB b.ar&&b.take P.length==P&&P.all (λc=>a.al.E c==akZ||a.al.E c==XW)&&a.al.all (λd=>d.2 !=.free)
def fs{N P:CJ}{b:fN}(a:FE (fsB N P):=by decide+AO):hU N P b:=by simp only[fsB,ξ,IN,ä,BE,Ň,Ą,QR]at a;calc⟨a.1.1.1.1.1.1,a.1.1.1.1.1.2,a.1.1.1.1.2,a.1.1.1.2,a.1.1.2,a.1.2,a.2⟩
section
variable {k:M}
inductive ad9(X:Cx)(b:AX eD)(c:ee)(a:St)(H:Hp):Prop|mk(e:TS)(d:zn (Ld X))(r:AA e H):lf (ad9 X) a H
structure C9(P:Ĵ)(w:Ŏ)(K:Γ)(mg:Do)(base:ř)(N d:CJ)(a:ï)(st:eD)(k:M)(vs:g3)(H:Hp)(e:VK)(g:XK):Prop where
 len:vs.length=d.length
 J7:∀(f:β)(c:ge)(A:ff)(b:NP)(s:lm),dC k (A.deeper (KL (qc a (ê st) s.v.R.L)))->N.ar->ad9 (KL (MQ (Gj yS) base N a (ê st)) A b s H g).nox (ef st) {nx:=λ_ h=>e .Ť h,rt:=e} (start N vs) H
def S3.okA(F:S3 h q c s a G)(S:hU N f (ê s))(b:∀d e g n,s3 i g n->s3 (KL (TZ C9 N) s k) g n):DF$ TZ fU yS (k+1) a G:=F.ok S (λd e g n p=>(s3 b g n p).len) λr t u v e d g n x p=>match GY (EB ((s3 b g n p).J7 a r)) S.nd with|⟨y,z,A⟩=>⟨y,z,A⟩
def ĭ.ok(d:ĭ h o c s f)(b:CJ)(a:∀e g n p,GZ i n p->GZ (DA (TZ C9) c s k) n p)(S:DA fsB (ê s)=Z:=by decide+AO):DF$ TZ zM (k+1) c:=by let⟨q,r,F,t,u⟩:=d;calc⟨q,r,F.okA (fs S) a,t,F.kp,u⟩
def ş.ok(e:mt (ş h) q s f)(d:CJ)(b:∀g n p r,i g n p r->DS (TZ C9) q s k g n p r)(S:DS fsB (ê s)=Z:=by decide+AO):DF$ mt$ TZ Lz (k+1):=by let⟨t,u,F,v,x,y⟩:=e;calc⟨t,u,F.okA (fs S) b,v,x,y⟩
def gP.ok(e:mt (gP h o) q s f)(d:CJ)(b:∀g n p r,i g n p r->DS (TZ C9) q s k g n p r)(S:DS fsB (ê s)=Z:=by decide+AO):DF$ mt$ TZ MkC (k+1):=by let⟨t,u,F,v,x,y⟩:=e;calc⟨t,u,F.okA (fs S) b,v,x,y⟩
def zM.hT(b:DF (CF (TZ zM)))(a:e<=k):DF$ TZ zM k c:=by let⟨d,g,F,n,p,q⟩:=b;calc⟨d,g,F.hT a,n,p,q⟩
def Lz.hT(d:DF (mt (TZ Lz e)))(b:e<=k):DF$ mt$ TZ Lz k:=by let⟨g,n,F,p,q,r⟩:=d;calc⟨g,n,F.hT b,p,q,r⟩
end
section
variable {o:Expr}
def ċ(F:DF (aur zM b.base y c))(g:dC e b.A)(h:PA b (p::B) D)(hj:y<=e:=by decide)(j:lf Gl:=by rfl)(a:pr (c==ZF):=by decide)(k:aqb (p::B)=(gl,anB)::as1:=by rfl)(d:pr ((aG n as1).any (·.1)):=by rfl):WX (GJ (.bv c z) (p::B) [])$ Oi i [] E0 D:=by let⟨l,m,F,o,q,r⟩:=F;calc BW (UQ (ab5 F (g.hT hj))) .nil zK h a k d
def Ľ{h:adS}(F:atj Lz)(j:dC e b.A)(k:PE b o x)(l:PA b (p::B) D)(hj:y<=e:=by decide)(d:aqb (p::B)=(gl,anB)::as1:=by rfl)(g:pr ((aG n as1).any (·.1)):=by rfl)(m:rw (GJ (.ao o c z) (p::B) [] n) b.ó=(do let ov<-rw o b.ó;mY z.dU;let(q,RN)<-fW [ov] (FM (lC ov));jb n q RN (aG n (aqb (p::B))) (fP n (bY [] b.ó))):=by rfl):WX (GJ (.ao o c z) (p::B) [])$ mt zz i [] E0 x D:=by let⟨q,r,F,s,t,u⟩:=F;calc DR (ab6 k t s F (j.hT hj) u .nil zK l) m
def Ŵ{d:adS}(F:atj Lz)(g:dC e b.A)(h:PE b o x)(hj:y<=e:=by decide)(j:rw (GJ (.ao o c z) [] [] n) b.ó=(do let ov<-rw o b.ó;mY z.dU;let(k,RN)<-fW [ov] (re (lC ov));jb n k RN (aG n (aqb [])) (fP n (bY [] b.ó))):=by rfl):WX (GJ (.ao o c z) [] [])$ mt zz i [] E0 x Lo:=by let⟨k,l,F,m,p,q⟩:=F;calc Xf h p m F (g.hT hj) q .nil zK j
def gQ(F:atj MkC)(h:dC e b.A)(j:PA b (p::B) D)(k:y+1<=e:=by decide)(l:lf Gl:=by rfl)(d:pr (c==ZF):=by decide)(m:aqb (p::B)=(gl,anB)::as1:=by rfl)(g:pr ((aG n as1).any (·.1)):=by rfl):WX (GJ (.bv c z) (p::B) [])$ IP zA [] E0 D:=by let⟨o,q,F,r,s,t⟩:=F;calc DQ (ab7 r F (h.hT k) l) .nil zK j d m g
def afQ(F:atj MkC)(g:dC e b.A)(h:y+1<=e:=by decide)(j:lf Gl:=by rfl)(d:pr (c==ZF):=by decide):WX (GJ (.bv c z) [] [])$ IP zA [] E0 Lo:=by let⟨k,l,F,m,o,p⟩:=F;calc BF (Xg m F (g.hT h) j) .nil zK d
end
def ixL(K:Γ)(a:b.K=K:=by rfl):IxR b$ aih K:=by subst a;calc Cp
def ixT(K:Γ)(a:b.K=K:=by rfl):IxR b$ afu K:=by subst a;calc afv
def anm(K:Γ)(a:PE b p x)(d:œ p c b.ó anB=anB:=by rfl)(e:b.K=K:=by rfl):WX (.ao p c)$ ab2 K x c:=by subst e;calc wE qu
def afR(K:Γ)(a:b.K=K:=by rfl):kM b (Ź .fe)$ rIn K Z:=by subst a;calc Ct
def slK(K:Γ)(a:b.K=K:=by rfl):SlR b$ afx K:=by subst a;calc ab_
def afS(K:Γ)(a:b.K=K:=by rfl):Gp b "list.count"$ Ly K:=by subst a;calc S4
def ox(a:β)(b:ï):HO:=.ext λc=>c.CodeRec AC b
def mC(b:β)(a:MF):HO:=.ext λc=>c.ad b=f4 {BY:=.au "function",BX:=.de a}
def ox.ok{P:Ĵ}{w:Ŏ}(b:m.CodeRec AC c):IA aL d m a$ mt ox:=by calc⟨b,?_,λe f g h=>?_⟩;let⟨i,j,k,l,g,n,_⟩:=b;cases g;calc QY n;let⟨i,j,k,l,g,n,o⟩:=g;cases g;calc⟨a,j,k,l,I,h j n,o⟩
def mC.ok{P:Ĵ}{w:Ŏ}(b:m.ad a=f4 {BY:=.au "function",BX:=.de G}):IA aL d m a$ mC a G:=⟨b,CM b,λc e f g=>g _ f⟩
abbrev tri(a:vB)(b:β):YJ:=#[Kj (a.line:M),Kj (a.col:M),AZ]
def aiz(a:β)(b:vB)(d:ï)(c:β->YX MF):TE:=λe f g=>∃h,f a=f4 (.tK h)/\((h=#[]/\ ∀i j k,QM f->hm (f j)->i≠j->i≠a->j≠a->g PX (ø (ø (ø f a (.tK (LR tri))) i (ox i d)) j (mC j (c i k))))\/ ∃i,h=LR tri/\f i=f4 (ox i d)/\ ∀j k,hm (f j)->g PX (ø f j (mC j (c i k))))
def vP(a:ř)(mg:Do):Prop:=∃b c,mg "__builtins__"=f4 AZ/\b≠lH/\b≠ţ/\a.ad b=HE/\c.cls=.au "module"/\c.b0=f4 lH/\c.bT=.plain
section
variable {aqI:A_} {aqM:fN} {c Pt:β}{VX:GN}
def Yb(d:b.ó.code=CO)(f:gg b.K c Pt=Z)(g:vP b.base b.mg)(a:defaultsOf aqI b.ó=([],[]))(e:aeQ aqM b.ó=DT VX):WX (.Lambda aqI p aqM)$ aiz Pt n (b.ó.ff++aqp) λh i=>fj aqp (b.ó.ff++aqp) aqI p aqM VX ((b.mg$ Ρ "__name__").getD .none) NB i:=by
 intro j k l m o q r;let⟨s,t,r⟩:=r;have u:k.v.Ns ţ b.mg:=q.mod.ru.keeps q.bk;have x:∀{y:β}{A:pi},b.base.ad y=f4 A->y≠Pt:=λ{y A} B z=>by have:=(IL q.bs B).2;rw[z,t]at this;cases this
 have D:ţ≠Pt:=by let⟨A,G,H,B,_⟩:=q.mod.ru;exact x B
 have J:k.v.BuiltinsAt b.mg Pt:=by let⟨L,A,N,O,j,l,o,s,G⟩:=g;exact⟨L,A,N,O,j,x l,q.bk L A l,o,s,G⟩
 have H:=q.aI Pt _ t;calc PySem.W.kla_eval a ?_;rcases r with⟨I,x⟩|⟨h,I,L,x⟩;calc PySem.W.kla_makeFunction (clos:=VX) e q.ok.ru u d (hx q.yu f) H CA I D J λh i N O j l o s G=>?_;have r:hm$ m h:=q.aI.fresh l;have D:k.v.R.L<=N.R.L:=É l$ ja o;have L:hm$ m N.R.L:=q.aI.fresh D;have a0:h≠N.R.L:=ģ o;have o:=Ó H;have b0:h≠Pt:=(ģ$ Ä o l).symm;have c0:N.R.L≠Pt:=(ģ$ Ä o D).symm;have x:=XI (x h N.R.L i r L) c0;have o:∀y d0,m y=f4 d0->y≠h/\y≠N.R.L:=λy d0 B=>⟨ρ B r,ρ B L⟩;have r:∀y d0,y≠Pt->m y=f4 d0->ø (ø (ø m Pt (.tK (tri n h))) h (ox h (b.ó.ff++aqp))) N.R.L (mC N.R.L (fj aqp (b.ó.ff++aqp) aqI p aqM VX ((b.mg$ Ρ "__name__").getD .none) NB i)) y=f4 d0:=λy d0 L B=>by rw[ω (o y d0 B).2,ω (o y d0 B).1,ω L];exact B
 have m:∀y A,y≠Pt->k.v.ad y=f4 A->(N.push$ t3$ PySem.W.kla_obj aqp (b.ó.ff++aqp) aqI p aqM VX$ (b.mg$ Ρ "__name__").getD .none).ad y=f4 A:=λy A L B=>GO$ VS$ IL j;have o:N.ad Pt=f4 (fk (tri n h)):=by rw[G];rfl
 calc⟨wp N.R.L,_,q.un (t':=O) ⟨λy A B k _ _=>?_,λy A B k _ _=>?_,λy A B k _=>?_,λy A B _=>?_,λy G B=>?_,λy A d0 B=>?_,λy f0 B=>?_⟩ λy d0 B=>?_,I,x⟩;calc IL m (λz=>by rw[z,t]at k;cases k) B;calc⟨A.dD,IL m (λz=>by rw[z,t]at k;cases k) B⟩;have g0:=Ó B;rw[ω$ ģ$ Ä g0 D,ω$ ģ$ Ä g0 l,ω (λz=>by rw[z,t]at k;cases k)];calc k;by_cases L:y=Pt;rw[L];calc CM$ GO o;calc⟨A,VS$ IL m⟩;calc r y _ (λz=>by rw[z,t]at B;cases B) B;calc r y _ (λz=>by rw[z,t]at B;cases B) B;by_cases L:y=Pt;rw[L,t]at B;cases B;calc wn$ tri n h;rw[L,ω$ Ne.symm c0,ω$ Ne.symm b0,Α];simp;calc⟨#[],by rw[VS$ r y _];simp⟩;by_cases l:y=N.R.L;rw[l,Α]at B;cases B;rw[l];calc mC.ok KJ;rw[ω l]at B;by_cases D:y=h;rw[D,Α]at B;cases B;rw[D];calc ox.ok ?_;let⟨L,A,k,l,h0,i0,j0⟩:=s;calc⟨L,A,k,l,h0,GO i0,j0⟩;rw[ω D]at B;by_cases A:y=Pt;rw[A,Α]at B;cases B;rw[A];calc GO o;rw[ω A]at B;calc(q.aI y d0 B).tL (λL v a s=>m L v ?_ s) (λL a=>?_) λL G a=>?_;rcases a with I|a;calc A;intro z;rw[z,t]at a;cases a;calc r L _ (λz=>by rw[z,t]at a;cases a) a;calc r L _ (λz=>by rw[z,t]at a;cases a) a;calc sw (PySem.W.kla_makeFunctionHit (clos:=VX) (cv:=NB) e q.ok.ru u d (hx q.yu f) H) J λi N O j D=>?_;simp[TriplesOk,Kj];simp[codeAmong,Kj];calc⟨wp N.R.L,_,q.iB (t':=O) (λy d0 B=>GO$ j y d0 B) D$ mC.ok KJ,I,x _ i$ q.aI.fresh D⟩
end
def L4{P:Ĵ}{w:Ŏ}{K:Γ}{mg:Do}{P1 P2 D G:β}{h:wr}{k j:At}(n:K.In A.v)(m:A.v.Ns ţ mg)(d:A.v.Ns lH o)(q:∀c:ï,c≠"__name__"->o c=kh c)(p:A.v.fb)(H:A.ez=#[])(r:∃a0 b0,mg "__builtins__"=AT a0/\a0≠lH/\A.v.ad a0=f4 b0/\b0.cls=.au "module"/\b0.b0=f4 lH/\b0.bT=.plain)(s:Vh A.v D P1)(t:Vh A.v G P2)(f:A.v.ad P1=f4 (fk #[]))(g:A.v.ad P2=f4 (fk #[]))(u:P1≠P2)(L:hm (K.E P1))(N:hm (K.E P2))(b:A.v.ad a=f4 {BY:=II,BX:=.seq h.ac})(x:J3 h k)(y:k.length<=Ζ)(O:dC e J6)(F:∀c0:ř,K.In c0->c0.Ns ţ mg->vP c0 mg->∃d0,MQ fU c0 yS e J d0 [c] i/\di K d0 [c] [])(B:∀f0:Hp,f0 P1=f4 (.tK #[])->f0 P2=f4 (.tK #[])->BN f0 a (BT k.q)->i [AC] f0 (λv g0=>∃l,v=CG/\g0 l=BG (BT j.q)) (λ_ _ _=>DN)):uz (IA þ) J6 (.call (.ref J) ⟨[AC],[]⟩) (λh0 i0=>(∃(l:β) (j0:wr) (k0:M),h0=.ok (.es CG)/\i0.v.ad l=f4 {BY:=II,BX:=.seq j0.ac k0}/\Ĺ (BT j.q) j0)/\OldK A.v i0.v/\i0.os=A.os/\ux i0.ez) A:=by
 have l0:=zJ x;have m0:=x.length;have n0:a≠P1:=λz=>by rw[z,f]at b;injection b with b;injection b with b _;cases b
 have o0:a≠P2:=λz=>by rw[z,g]at b;injection b with b;injection b with b _;cases b
 have p0:∀f0:Hp,BN f0 a (BT k.q)->IA qP f0 A.v->(∀r0,f0 r0≠none->r0=a\/r0=P1\/r0=P2)->(f0 a≠none->hm (K.E a))->f0 P1=f4 (.tK #[])->f0 P2=f4 (.tK #[])->(hm (f0 a)\/ ∃s0 t0,f0 a=f4 (.jt s0 t0))->uz (IA þ) J6 (.call (.ref J) ⟨[AC],[]⟩) (λh0 i0=>(∃(l:β) (j0:wr) (k0:M),h0=.ok (.es CG)/\i0.v.ad l=f4 {BY:=II,BX:=.seq j0.ac k0}/\Ĺ (BT j.q) j0)/\OldK A.v i0.v/\i0.os=A.os/\ux i0.ez) A:=by
  intro f0 u0 v0 w0 x0 y0 z0 A0;have B0:∀{r0:β}{s0:pi},YN A.v.ad->(∀c,s0.bT≠.seq c)->(∀c,s0.bT≠.bP c)->hm (f0 r0):=λ{r0 s0} C0 D0 F0=>by cases G0:f0 r0 with
  |none=>rfl
  |some t0=>rcases w0 r0 (by rw[G0];simp)with z|z|z;rw[z,b]at C0;cases C0;calc QV$ D0 _;rw[z,f]at C0;cases C0;calc QV$ F0 _;rw[z,g]at C0;cases C0;exact QV$ F0 _
  have H0:∀{r0:β}{I0:Do},A.v.Ns r0 I0->(B3 A.v f0).Ns r0 I0:=λ{r0 I0}⟨s0,J0,K0,C0,M0,h0⟩=>⟨s0,J0,K0,(xh C0$ B0 C0 (by rw[M0];intro _ z;cases z) (by rw[M0];intro _ z;cases z)),M0,h0⟩;have N0:K.In$ B3 A.v f0:=λr0 s0 C0=>xh (OY n C0) (by cases G0:f0 r0 with
  |none=>rfl
  |some t0=>rcases w0 r0 (by rw[G0];simp)with z|z|z;rw[z]at C0 G0;rw[x0 (by rw[G0];simp)]at C0;cases C0;rw[z,L]at C0;cases C0;rw[z,N]at C0;cases C0);have O0:vP (B3 A.v f0) mg:=by let⟨a0,b0,P0,Q0,R0,S0,T0,U0⟩:=r;calc⟨a0,b0,P0,Q0,RP,(xh R0$ B0 R0 (by rw[U0];intro _ z;cases z) (by rw[U0];intro _ z;cases z)),S0,T0,U0⟩;let⟨s0,J0,K0,C0,M0,_⟩:=m;rw[z,C0]at R0;cases R0;rw[M0]at U0;cases U0
  have V0:Mod K mg$ B3 A.v f0:=⟨N0,H0 m,⟨o,H0 d,q⟩,let⟨W0,y0,z0⟩:=p;⟨W0,H0 y0,z0⟩⟩;have e0:MQ Ck (B3 A.v f0) J6 [] A f0:=⟨I,V0,λr0 s0 C0=>abQ C0,i9$ ga Sd,CA,λr0 d=>s4$ DM (show r0∈([]:s5)from d),v0,.of_eq H⟩;let⟨d0,X0,Y0⟩:=F _ N0 (H0 m) O0;calc kj (ga (X0.J7 J6 [] A f0 ⟨[AC],[]⟩ [AC] [AC]) O e0 (Y0 A [AC] n I) (.cons I .nil) (B f0 y0 z0 u0)) λh0 i0 Z0=>?_;cases h0 with
  |error C0=>calc Z0.elim
  |ok a1=>cases a1 with
   |next=>calc š Z0
   |UF=>calc š Z0
   |UD=>calc š Z0
   |UE t0=>
    let⟨v,g0,os,b1,un,c1,d1,G0⟩:=Z0;let⟨l,I,e1⟩:∃l,v=CG/\g0 l=BG (BT j.q):=G0;obtain I:t0=ge.ref l:=d1;let⟨_,f1,k0,g1,C0⟩:=c1 l _ e1;let⟨h1,i1⟩:=un.yL P1 #[] y0;let⟨j1,k1⟩:=un.yL P2 #[] z0;have l1:=c1 P1 _ i1;have m1:=c1 P2 _ k1;have n1:∀r0 s0,r0≠P1->r0≠P2->YN A.v.ad->YN i0.v.ad:=λr0 s0 o1 p1 C0=>by cases G0:f0 r0 with
    |none=>calc s4$ OY un.keep C0 G0 (by intro z;calc s4$ DM (show r0∈([]:s5)from z))
    |some t0=>rcases w0 r0 (by rw[G0];simp)with z|z|z;rcases A0 with q1|⟨b0,r1,q1⟩;rw[z,q1]at G0;cases G0;rw[<-z]at q1;have s1:=ZA$ un.yK r0 b0;let⟨P0,_⟩:=ZA (v0 r0);let⟨Q0,_⟩:=c1 r0 _ s1;rw[C0]at P0;cases P0;calc Q0;calc VI o1;exact VI p1
    calc⟨⟨l,f1,k0,I,C0,g1⟩,⟨λr0 s0 C0=>?_,λr0 s0 C0=>?_⟩,os,b1⟩;by_cases o1:r0=P1;rw[o1,f]at C0;cases C0;rw[o1];calc .X$ .D ⟨(s.tab f).eR,I,#[],h1,I,l1⟩;by_cases p1:r0=P2;rw[p1,g]at C0;cases C0;rw[p1];calc .X$ .D ⟨(t.tab g).eR,I,#[],j1,I,m1⟩;calc .D$ OY n1 o1 p1 C0;by_cases o1:r0=P1;rw[o1];calc CM l1;by_cases p1:r0=P2;rw[p1];calc CM m1;exact⟨s0,OY n1 o1 p1 C0⟩
 have t1:∀{f0:Hp}{r0:β},A.v.ad r0=f4 (fk #[])->IA aL f0 A.v r0 (.tK #[]):=λC0=>C0;cases u1:K.E a with
 |some s0=>have C0:=n a s0 u1;rw[b]at C0;cases C0;calc p0 (ø (ø (λ_=>none) P1 (.tK #[])) P2 (.tK #[])) (.X ⟨_,h.ac,_,u1,I,I,I,by rw[Ç,m0];calc y,by simpa using l0⟩) (λr0 t0 z=>?_) (λr0 z=>?_) (λz=>DM (DK o0 (ω n0)) z) ((ω u).trans Α) Α$ .D$ DK o0$ ω n0;by_cases p1:r0=P2;rw[p1,Α]at z;cases z;rw[p1];calc t1 g;rw[ω p1]at z;by_cases o1:r0=P1;rw[o1,Α]at z;cases z;rw[o1];calc t1 f;rw[ω o1]at z;cases z;by_cases p1:r0=P2;calc OX p1;rw[ω p1]at z;by_cases o1:r0=P1;calc .X$ .D o1;rw[ω o1]at z;calc QV z
 |none=>calc p0 (ø (ø (λr0=>if r0=a then f4 (.jt {BY:=II,BX:=.seq h.ac} (AQ (BT k.q)))else none) P1 (.tK #[])) P2 (.tK #[])) (.D (.X (wn {BY:=II,BX:=.seq h.ac}))) (λr0 t0 z=>?_) (λr0 z=>?_) (λ_=>u1) ((ω u).trans Α) Α$ .X ⟨{BY:=II,BX:=.seq h.ac},AQ$ BT k.q,?_⟩;rw[ω o0,ω n0];calc KC;by_cases p1:r0=P2;rw[p1,Α]at z;cases z;rw[p1];calc t1 g;rw[ω p1]at z;by_cases o1:r0=P1;rw[o1,Α]at z;cases z;rw[o1];calc t1 f;rw[ω o1]at z;by_cases d:r0=a;have v1:=Sc.symm.trans z;cases v1;subst d;calc⟨b,by rw[θ];calc y,h,_,l0,b⟩;have v1:=TB.symm.trans z;cases v1;by_cases p1:r0=P2;calc OX p1;rw[ω p1]at z;by_cases o1:r0=P1;calc .X$ .D o1;rw[ω o1]at z;by_cases d:r0=a;calc .D d;calc DM TB z;rw[ω o0,ω n0];calc KC
def Yc{r:PySem.W.OpenSpec}{f:At->At}{n k:M}{b0:Do->Ch ř}{t:Ŏ->Ch ř}{c0:DefRec}{K:Params->Γ}{sp:Γ->Sp}{x:ï}{P1 P2 c1 c2:β}(u:∀b,FE r.pre->∃a:At,b=[ao3]/\a.length<=n)(g:∀a:At,r.pre [ao3]=Z->r.post [ao3] (.list (JH f .int))=Z)(y:n<=Ζ)(K0:c0.bm.defaults=[])(d0:dC k J6)(f0:P1≠P2)(g0:∀(w:Ŏ)(h:ř),t w h->(K w.bm).In h/\h.ad P1=f4 (fk #[])/\h.ad P2=f4 (fk #[]))(h0:∀O,gg (K O) c1 P1=Z/\gg (K O) c2 P2=Z/\hm ((K O).E P1)/\hm ((K O).E P2))(F:∀(w:Ŏ)(mg:Do)(i:β)(h:ř),(K w.bm).In h->h.Ns ţ mg->mg c0.name=f4 OH->∀c:ř,(K w.bm).In c->c.Ns ţ mg->vP c mg->∃A,fU r.prog w (K w.bm) mg c yS k i A [x] (sp (K w.bm))/\di (K w.bm) A [x] [])(B:∀(K:Γ)(q:Hp)(a0:β)(a:At),r.pre [ao3]=Z->a.length<=n->q P1=f4 (.tK #[])->q P2=f4 (.tK #[])->BN q a0 (BT a.q)->sp K [wp a0] q (λv i0=>∃l,v=CG/\i0 l=VG (f a)) (λ_ _ _=>DN)):PySem.W.WalkOS j N b0 t r c0 [] λf j0=>PySem.call f j0:=by intro w k0 l0 mg R0 s S0 i f1 T0 U0 M0 V0 kV W0 X0 N0 Y0 D m0 b n0 Z0 d o0 O0 G P0;let⟨a,I,e⟩:=v4 u;let⟨m,H,J⟩:=g0 w _ S0;let⟨p0,r0,s0,t0⟩:=h0 w.bm;cases G with
|cons u0 v0=>cases v0;cases u0 with
 |list o p=>have w0:=F w mg i _ m s.T.g D;calc PySem.W.enter_call$ kj (L4 m s.T.g s.T.b s.T.eF s.T.nolimit m0 (by let⟨a0,a1,c1,c2,x0,y0,z0,A0⟩:=s.T.bmain;calc⟨a0,a1,c1,c2,x0,y0,z0,A0⟩) (hx m p0) (hx m r0) H J f0 s0 t0 o (Att.vN a _ p) (É e y) d0 w0 (λq B0 C0 D0=>PQ (B _ q _) B0 C0 D0)) λQ0 b1 F0=>?_;let⟨⟨l,d1,e1,I,L,G0⟩,H0,I0,J0⟩:=F0;calc⟨.D ⟨_,_,[l],I,SR,JS (.list L) (by simpa using pQ G0),wE g,λh=>kt h (by cases z)⟩,H0,I0,J0⟩
structure ano(K:Γ)(x a:ï)(st:eD)(f:β)(b:MF)(c Pt:β):Prop where
 ex:∃(d:ge) (e:RD) (kV g h:ge) (i:RD) (j:ge) (k:FS WA),b=t3 (ap7 (fh x a) g) CO j/\K.E f=f4 ⟨d,e,.de b,k⟩/\ni K CO a=Z
 hd:gg K c Pt=Z
def xA(K:Γ)(C:β)(d a:ï)(st:eD)(b:CJ)(c:β):Prop:=∃e f g,on (EK (ano K) st e) c/\s3 (xp K C)/\MS C/\di K f b []
def xA.ok(x:xA h J q c s f a)(S:hU N f (ê s))(p:∀d g k n,DR i k n->d.length=f.length)(y:∀(r t:β)(u:ff)(b:NP)(v:lm)(g:Hp)(d:g3)(k:VK)(n:XK),gg h t a=Z->dC e (u.deeper (qc c (ê s) v.v.R.L r (.ref t)))->DR i k n->∃z,Ld (TZ (Gj yS) N c (ê s) r (.ref t) u b v g n).nox (ef s) z/\z {nx:=λ_ A=>k .Ť A,rt:=k} (start N d) g):DF$ TZ Lz LH J q:=by let⟨r,B,t,F,D,G,H⟩:=x;let⟨L,O,kV,A,B,L,O,A,I,B,L⟩:=F.ex;calc⟨r,_,ad6 B L S p λu b v g d k n O A=>?_,D,G,H⟩;let⟨z,x,B⟩:=EB (y r) b v g d k n F.hd O A;calc⟨z,x.nox,B⟩
def rL(K:Γ)(c:Hp)(a:β)(b:MF):Prop:=(∃d e,K.E a=LJ/\d.bT=.de e)\/c a=f4 (io mC)
section
variable {k:M} {p:vB}{e:Expr} {i:M}
def afT(X:Cx)(a b:M)(c:TA):TE:=λd e f=>∃g h i j,d[b]? =YY FU/\up (ww (akS fU X.K X.mg X.base yS a))/\t3 (di X.K) []/\s3 c (λk l=>ww (rL X.K l)/\AI j f E0)
def Yd(d:b.N[i]? =HE)(f:Vis b.ó.aP c)(g:dC k b.A)(h:PA b (e::B) D)(j:pr (c==ZF):=by decide)(a:pr (c==FP "__classdict__"):=by decide)(l:aqb (e::B)=(gl,rw e b.ó)::as1:=by rfl):WX (GJ (.bv c p) (e::B) [])$ afT b k i D:=by intro m o q r s t u;let⟨x,y,A,G,H,F,J,L⟩:=u;calc bb$ ay (BW (DS Lf j a m o) (λv N=>v=DJ/\N=r) t ⟨_,H,I,I⟩) (λ O s⟨v,A,G,o,u,r⟩=>?_);subst u r;obtain I:O=ge.ref x:=o;calc(λ(t:∃(H:pi) (N:MF),H.bT=.de N/\∀A:lm,∀O:Hp,ú b m q O A->DZ (rL b.K O)->A.v.ad x=f4 H)=>?_) ?_;let⟨H,N,o,u⟩:=t;calc callWith_def o (ay (ga (h n m s q) G L) (λ r A⟨m,O,q,L,s,G⟩=>⟨u A O q s,IT (Cm F g J .nil zK) (by rw[Đ];calc G)⟩)) l;by_cases t:∃H N,b.K.E x=f4 H/\H.bT=.de N;let⟨H,N,o,r⟩:=t;calc⟨H,N,r,λA O q _=>FW q.yu o⟩;calc⟨_,y,I,λA O q s=>by rcases s with z|z;calc VI t;calc(DG$ q.aI x).1⟩
end
def cxL(P:Ĵ)(w:Ŏ)(K:Γ)(mg:Do)(e:ř)(i:CJ)(b:ï)(a:fN)(h:β)(f:ge)(c:GN)(j:ff)(d:NP)(g:lm)(k:Hp):Cx where prog:=P;w:=w;K:=K;mg:=mg;base:=e;A:=j.deeper$ KL$ sK qV g.v.R.L h;N:=i;l8:=g;F9:=k;ó:=KL$ sK qV g.v.R.L h;pP:=d;a7:=KL (sK qV g.v.R.L h)::d;ex:=[];gM:=Z;fn:=λ_=>gl;pn:=[];xe:=ap9
def Ye{P:Ĵ}{w:Ŏ}{K:Γ}{mg:Do}{n:ï}{g:A_}{b:fN}{d:GN}{N s:ge}{Nr:CJ}{τ:St}(j:b.kind=.bn)(O:pr b.dR)(A:pr b.dQ)(t:b.al.E c=akZ)(u:∀d0∈b.al,d0.2≠.cell)(B:∀o,b.al.E o=amY->∃f0,d.E o=f4 f0)(D:∀o d0 f0,d.E o=f4 f0->d.E d0=f4 f0->o=d0)(k:∀o f0,d.E o=f4 f0->∃g0,m.b3 f0 (f4 g0))(a0:τ.length=Nr.length)(c0:∀(G:M)(o:ï)(v:V),Nr[G]? =ak7->τ[G]? =f4 DE->b.al.E o=amY/\∃f0 g0,d.E o=f4 f0/\m.b3 f0 (f4 g0)/\Ŗ v g0)(x:∀h0 h y H,i h0 h y H->h0.length=1)(b0:∀h0 h y H,i h0 h y H->h J=f4 (mC J (v4 (fj n q g p) N AC s))/\h a=f4 (ox a q))(r:∀(L:ff)(f:NP)(l:lm)(h:Hp)(v:V)(y:VK)(H:XK),dC e (L.deeper (qV q b l.v.R.L J AC d))->i [v] h y H->∃i0,PE (MQ cxL m (c::Nr) q b J AC d L f l h) p i0/\i0 (GA τ) h y):MQ fU m yS LH J (v4 (fj n q g p) N AC s) [c] i:=by
 calc⟨x,λL f l h j0 k0 h0 y H l0 e0 m0 n0 o0=>?_⟩;have p0:=EY x o0;let⟨v,I⟩:∃v,h0=[v]:=by match h0,p0 with|[v],_=>exact JA v
 let⟨g0,I,r0⟩:=kN n0;let⟨s0,t0⟩:=EY b0 o0;have u0:l.v.fb:=e0.mod.nolimit.keeps λv0 w0 x0=>(e0.bs v0 w0 x0).1;have y0:=(e0.aI J _ s0).1;have z0:=(e0.aI a _ t0).1;calc PySem.W.kla_callFunE l0.depth y0 I O A I z0$ EY m0 ?_;calc wpAny_newFunctionEnv u (λd0 A0=>?_) (λB0 C0 D0=>?_) j;have x0:d0=(c,g0):=by simpa using A0
 rw[x0];calc t;have F0:∀v0 w0,l.v.ad v0=f4 w0->B0.ad v0=f4 w0:=λv0 w0 x0=>(D0.2 v0$ ģ$ Ó x0).trans$ GO x0;calc⟨u0.keeps F0,PySem.W.kla_codeExpr ?_⟩;let⟨i0,G0,H0⟩:=r L f l h v y H (l0.deeper _) o0;have I0:∀v0:β,v0∉(MQ cxL m (c::Nr) q b J AC d L f l h).ex:=λv0 z=>s4$ DM (show v0∈([]:s5)from z);have J0:∀f0 g0,m.b3 f0 (f4 g0)->B0.b3 f0 (f4 g0)/\hm (h f0):=λ f0 g0⟨w0,K0,M0⟩=>⟨⟨w0,ga F0 (ga e0.bs K0).1,M0⟩,(ga e0.bs K0).2⟩;have N0:ú (MQ cxL m (c::Nr) q b J AC d L f l h) [] (GA τ) h {AL:=B0,gens:=l.ez,drawn:=l.drawn,DO:=l.aG+[(c,g0)].length,os:=l.os}:=by
  calc⟨⟨e0.mod,j,I,I,AK,D,λd0 A0=>?_,(λd0 f0 z=>nomatch z),λ_=>l0.hd,Jy e0.frames,.X$ ln I,λv0 z=>VI$ I0 v0,e0.bs,e0.Ux,λv0 _ _=>I0 v0,λv0 z=>VI$ I0 v0,e0.rv,e0.frf⟩,I,e0.jd,Un.fT F0,⟨_,C0,λG d0 O0 P0 Q0 R0=>?_⟩,λd0 f0 S0=>?_,e0.aI.fresh AK,λd0 f0 S0=>?_,λT0 U0=>s4$ DM (show T0∈[]from U0),e0.aI.fT F0,?_⟩;rcases A0 with A0|A0;calc QV$ u _$ ě A0;calc B d0 A0;have P0:(c::Nr)[G]? =f4 d0:=P0;cases G with
  |zero=>
   have V0:c=d0:=by simpa using P0
   have W0:v=O0:=by simpa using Q0
   subst V0 W0;calc⟨g0,r0,.D ⟨t,mo⟩⟩
  |HW G=>let⟨X0,f0,Y0,Z0,a1,b1⟩:=c0 G d0 O0 (by simpa using P0) (by simpa using Q0);exact⟨Y0,b1,.X ⟨.X X0,f0,Z0,(J0 f0 Y0 a1).1⟩⟩
  let⟨Y0,c1⟩:=k d0 f0 S0;calc CM (J0 f0 Y0 c1).1;let⟨Y0,c1⟩:=k d0 f0 S0;calc(J0 f0 Y0 c1).2;show(GA τ).length=(c::Nr).length;simp[a0]
 calc bJ (ga (G0 []) h _ N0 H0) (λ Y0 d1⟨O0,e1,f1,b1,g1⟩=>⟨O0,e1,f1.os,f1.jd,f1.base,f1.aI,b1,g1⟩) λx0 d1 o0=>o0.elim
def xp.Xo{K:Γ}{C:β}(b:AA (xp K C))(d:xp K C c J):a=J:=by have:=b.jf.symm.trans d.jf;injection this with this;injection this with this;injection this
def C_(X:Cx)(a:ř)(b:Hp):ř:=Uo a (io trk++B4 X.a7)
def G9{e:pi}(f:A.v.ad a=HH)(g:hm (d a))(c:a∉B4 b.a7):aue.ad a=HH:=Jw _ f λh=>by rcases Ι.J h with h|h;have i:=(υ.J h).2;rw[g]at i;simp at i;calc c h
def acr{e:pi}(c:aue.ad a=HH):A.v.ad a=HH/\hm (d a):=by have f:=Kd _ c;calc wn f;cases g:d a with
|none=>rfl
|some h=>have i:BB (trk A.v d++B4 b.a7):=hv _$ υ.Q ⟨ψ.Q$ Ó f,by simp[g]⟩;have z:hm$ aue.ad a:=nf _ i;rw[z]at c;cases c
def ú.acs(e:ú b L v d A){c:pi}(f:b.base.ad a=HE):aue.ad a=HE:=G9 (mt e.bs f).1 (mt e.bs f).2 λg=>by have:=(e.a7.mem g).1;rw[f]at this;cases this
def ú.L5(a:ú b L v d A):Mod b.K b.mg aue:=⟨a.mod.kin.keeps λc e f=>a.acs f,a.mod.ru.keeps λc e f=>a.acs f,let⟨g,h,i⟩:=a.mod.uP;⟨g,h.keeps λc e f=>a.acs f,i⟩,a.mod.nolimit.keeps λc e f=>a.acs f⟩
def ú.acu(a:ú b L v d A):A.v.bX aue b.a7:=by
 have c:∀l,(∀e∈B4 l,EG (B4 b.a7))->A.v.bX b.base l->A.v.bX aue l:=by intro l;induction l with
 |nil=>intro _ _;trivial
 |cons f g h=>intro i j;let⟨k,⟨m,n,o,p,q,r⟩,s⟩:=j;have t:=i m (by unfold B4;rw[eM,o];calc ů);exact⟨k,⟨m,n,o,nf _$ ũ _ t,q,r⟩,h (λe u=>i e (by unfold B4;rw[eM,o];calc BI u)) s⟩
 calc c b.a7 (λ_ u=>u) a.a7
def ú.anq(a:ú b L v d A):aur Ck aue b.A b.a7 A d:=⟨a.ok.frames,a.L5,λc e f=>acr f,i9$ ga Eu,a.acu,a.rx,a.aI,a.jd⟩
section
variable {k i:M} {sp:ř->Sp}{x:ï}{afU:vB}{e:Expr} {ta:TE}
def afV(X:Cx)(C:β)(c:ï)(a:ř->Sp)(d:M)(e:ï)(b:TE)(f:TA):TE:=λg h i=>ww b λj k=>∃l m fs v,j=CG/\k l=JX (DH m)/\hm (fs.E c)/\g[d]? =f4 DE/\f g k (λn o=>∀p q r,Mod X.K X.mg p->X.ó.cells.E e=f4 q->p.b3 q (f4 r)->Ŗ v r->a p (j::n) o i E0)
def afW{m:adS}(F:∀A,Mod b.K b.mg A->mt (aur Lz A k) f (sp A))(o:dC y b.A)(q:k<=y)(r:b.N[i]? =XV)(d:b.ó.aP.al.E x=XW)(g:b.fn x=Z)(s:PE b p ta)(t:PA b (e::B) D)(h:aqb (e::B)=(gl,rw e b.ó)::as1:=by rfl)(j:pr ((aG n as1).any (·.1)):=by rfl)(u:rw (GJ (.ao p c afU) (e::B) [] n) b.ó=(do let ov<-anB;mY afU.dU;let(G,RN)<-fW [ov] (lC ov c m);jb n G RN (aG n (aqb (e::B))) (fP n (bY [] b.ó))):=by rfl):WX (GJ (.ao p c afU) (e::B) [])$ mt (afV b) sp i x ta D:=by
 intro H J L N O A a0;let⟨b0,c0,_,d0,f0,_⟩:=F b.base A.mod;calc fX (ay (s H J L N _ A a0) (λ J N⟨g0,h0,i0,j0,k0,l0,fs,v,m0,n0,l,o0,p0⟩=>?_)) u;subst m0;obtain I:J=ge.ref k0:=j0;calc ma i0 n0 f0 d0 l ?_;calc GH$ eS (first:=[wp k0]) A.ok.mod.kin d0.kp$ ay (t n H N L h0 _ i0 p0) (λ H L⟨A,N,r0,s0,t0⟩=>wn r0.yu);let⟨G,G,G,u0,_,v0⟩:=F _ r0.L5;have w0:=xp.Xo u0 d0;subst w0;let⟨x0,y0,z0⟩:=id r0.B5;let⟨J,A0,B0⟩:=z0 i x v r o0 (.X (.D d));have C0:b.ó.bK x=UB:=d;let⟨D0,F0,G0⟩:∃D0,b.ó.cells.E x=f4 D0/\L.v.b3 D0 (f4 J):=by rcases B0 with⟨z,_⟩|⟨_,D0,H0,I0⟩;rw[C0]at z;cases z;exact⟨D0,H0,I0⟩
 let⟨J0,K0,M0⟩:=G0;have N0:(C_ b L.v N).b3 D0$ f4 J:=by calc⟨J0,G9 K0 (r0.ju x D0 F0) λO0=>?_,M0⟩;rcases ν.J (r0.B6 D0 O0)with z|z;calc r0.cne x D0 F0 z;let⟨_,P0,Q0,_⟩:=r0.ok.rv.mem z;exact RI$ Ä (Ó Q0)$ r0.ok.cab x D0 g F0
 have a0:=t0 _ D0 J r0.L5 F0 N0 A0;have R0:Ĺ (wp k0::A) _:=.cons I s0;have A:(ge.ref k0::H).length=f.length:=by rw[<-R0.length];exact EY G.len a0
 calc Kg$ kj (AY (G.J7 b.A b.a7 L N) O E0 (o.hT q) r0.anq ?_ R0 a0) λs0 O H=>?_;have:=v0 L _ r0.yu (by rw[Đ];calc A);rwa [Đ]at this;cases s0 with
 |error e=>calc H.elim
 |ok N=>cases N with
  |UE J=>calc r0.gN H
  |next=>calc š H
  |UF=>calc š H
  |UD=>calc š H
end
end L2
namespace Sq
open PySem L2 PySem.W
variable{a:ï}{m:ř}{b:FS WA}{c:RD}{d j:β}{n:Do}{e:Frag}{f:ge}{h:eD}{i:CJ}
section
variable {SU:ï} {kV doc pm ZL ct:ge}{an:RD}
abbrev Oy(c a:ï)(st:eD)(b:CJ):Prop:=∀(kV doc pm:ge)(an:RD)(ZL ct:ge)(d:wr),d.length=b.length->amL (ap7 (AA fnOf) doc pm an ZL ct) ⟨d,[]⟩=DT (b.zip d)
def Yf(X:e.In m)(k:m.Ns ţ n)(o:t3 (Oy a a))(p:nsIn e ţ a=YY BK)(l:e.E d=f4 ⟨f,c,.de$ atV (fnOf a a) doc pm an ZL ct,b⟩)(g:amR e ZL a=Z)(j:aeT e BK=Z):t3$ ĭ e n a:=⟨d,_,qz l g j,mg_of X k p,(qz l g j).Ow o⟩
def Yg(g:je e j)(n:t3 (Oy a SU))(o:findIn e PX a=YY BK)(p:isFn e BK=Z)(l:e.E d=f4 ⟨f,c,.de$ atV (fnOf a SU) doc pm an ZL ct,b⟩)(m:amR e ZL SU=Z)(k:aeT e BK=Z):t3$ ş e j a SU:=⟨d,_,AE qz k,⟨o,p,k⟩,g,(AE qz k).Ow n⟩
def Yh(X:e.In m)(r:m.Ns ţ n)(g:nsIn e ţ a=YY PX)(k:makesIn e j=Z)(o:aeT e PX=Z)(s:t3 (Oy "__init__" SU))(t:findIn e PX "__init__"=YY BK)(u:isFn e BK=Z)(l:e.E d=f4 ⟨f,c,.de$ atV (fnOf "__init__" SU) doc pm an ZL ct,b⟩)(p:amR e ZL SU=Z)(q:aeT e BK=Z):t3$ gP e n j a SU:=⟨d,_,FH$ qz l,⟨k,t,u,o⟩,mg_of X r g,(FH$ qz l).Ow s⟩
def S6{g k:β}(m:je e j)(q:t3 (Oy a SU))(r:findIn e PX a=YY BK)(s:isFn e BK=Z)(l:e.E d=f4 ⟨f,c,.de$ atV (fnOf a SU) doc pm an FU ct,b⟩)(o:amR e FU SU=Z)(p:aeT e BK=Z)(n:GZ codeHdIn k=Z):t3 (xA e j a SU) k:=⟨d,_,g,⟨⟨f,c,kV,doc,pm,an,ct,b,I,l,o⟩,n⟩,⟨r,s,p⟩,m,(BF$ qz l).Ow q⟩
end
end Sq
namespace Sq
open PySem L2
def Œ(a:M):eD:=aeU.main.body.getD a$ .Pass ⟨0,0,0,0⟩
abbrev Yi:eD:=é (Œ 1) 0
abbrev aea:eD:=é (Œ 1) 1
abbrev Yj:eD:=é (Œ 1) 2
def yT(a:β)(b:U):ES:=[("calls",AC),("place",LZ)]
def t9(a:β)(b:U):(io yT).E (FP "calls")=f4 AC:=I
def ie(b:β)(a:U):(sK yT).E (FP "place")=OA .int:=I
def acw(a:β)(b z:U):aM "place" (.int z) (io yT)=yT a z:=I
end Sq
namespace Sq
open PySem L2 dO PySem.W PySem.W.Codec
variable{a:OpenSpec}
def Oz{b:AX WData}(c:FE a.claim.pre):∃d,withinAll a.c_ d=Z/\app a.c_ a.asked d=Z/\b=encAll a.c_ d:=by have e:(match decAll a.c_ b with|LJ=>app a.c_ a.asked d|none=>gl)=Z:=c;cases f:decAll a.c_ b with
|none=>rw[f]at e;cases e
|some d=>rw[f]at e;have g:=v4 (encAll_of_decAll _) f;calc⟨d,g.2,e,g.1⟩
def Yk(c:a.c_.all Codec.fits=Z){b:denoteAll a.c_}(d:FE (withinAll a.c_)):a.claim.post (encAll a.c_ b) (a.es.enc (app a.c_ a.f b)) []=Z:=by have e:=v4$ decAll_encAll a.c_$ ok_all a.c_ c;show(match decAll a.c_ _ with|MO=>ga same|none=>gl)=Z;rw[e];calc same_iff.Q I
def Yl{a:AX abg}(b:î.pre a=Z):∃c:At,a=[.list$ c.q .int]/\c.length<=30000/\FR gY:=by let⟨d,e,f,g⟩:=Oz b;let⟨c,h⟩:=d;calc⟨c,g,?_,f⟩;have i:(yt 0 _ c&&c.all _&&Z)=Z:=e;rw[ξ,ξ]at i;have j:=i.1.1;unfold yt ahT at j;rw[ξ,BE,BE]at j;calc j.2
def acx{a:At}(b:î.pre [ao3]=Z):î.post [ao3] (.list (JH cO .int))=Z:=by
 let⟨c,d,e,f⟩:=Oz b;let⟨g,h⟩:=c;have i:([.list _]:AX abg)=[.list$ g.q .int]:=f;have j:a=g:=by injection i with i _;injection i with i;exact ga (jW _ (λk l z=>by injection z)) i
 subst j;calc Yk (by decide+AO) d
end Sq
namespace L2
open PySem PySem.Spec PyProof.Rows
variable{a:Cx}{c o:Expr}{n:GL}{b q x:TE}{f s:vB}{y:Type}{d z:M}{A:Uy}{i:β}{j L:g3}{B:TA}{e:TG}{u:TS}{G:DV}{h:Γ}{l:TT}{m:f8}{p:VK}
def S7:Gp a "int.bit_length" λb c d e=>∃f:U,b=QA/\c=[]/\e (AD (dW f)) d:=by intro g h i d b c v j e k l m n;let⟨f,I,I,o⟩:=n;let⟨p,I⟩:=(show∃p,v=ge.int f p from l);cases m;calc call_int_bit_length ⟨OQ,d,k.mS _,EJ,o⟩
abbrev TJ:=St->Hp->ï->Ch VK
def PJ(X:Cx)(a:GL)(b:TJ):Prop:=∀(c:BO)(d:lm)(e:St)(f:Hp)(g:ï)(h:VK),VC (EU EV->OO (QX (joinParts g (FA (evalEach a))) (YF h)) d)
def tJ0:TJ:=λ_ a b c=>b.length<=Ζ/\c (.str b) a
def tJ1(a:TE)(b:TJ):TJ:=λc d e f=>re a λg h=>∃i,g=.str i/\YG (e++i)/\Db h (e++i) f
def j6:PJ a [] tJ0:=by intro b c d e f g h i;calc joinParts_nil ⟨.str f,e,h.mS _,EJ,i.2⟩ i.1
def ı{f:TJ}(d:mt PE b)(e:PJ a n f):PJ a (c::n)$ DA tJ1:=by intro g h i j k l m o;calc joinParts_cons$ ay (up (ww d) _ m o) (λ v p⟨q,r,s,t,u,x,y,z⟩=>?_);subst x;let⟨A,I⟩:=(show∃A,v=ge.str u A from t);calc⟨y,e g p i r _ l s z⟩
variable{v:TJ}
def acy(b:PJ a (c::o::n) v):EC (.JoinedStr (c::o::n) f) λd e g=>s3 v qM g:=by intro h i d e g j k;calc JoinedStr_many$ AS$ s3 (t3 b) _ g
def aiA(a:TE):TE:=aps ((∃g:U,e=VF/\g.a4.cg<1920/\d (HS (ag_ g)) f)\/ ∃h:ï,e=.str h/\h.length<=Ζ/\d (.str h) f)
def bf(d:mt PE b):EC (.FormattedValue c (-1) none f)$ aiA b:=by intro e g h i j k l;calc FormattedValue_plain$ ay (AI (t3 (GZ d) _)) (λ v m⟨n,o,p,q,r⟩=>?_);rcases r with⟨s,I,t,r⟩|⟨u,I,t,r⟩;let⟨x,I⟩:=(show∃x,v=ge.int s x from q);calc formatField_int_small t ⟨Rs,o,p.mS _,EJ,r⟩;let⟨x,I⟩:=(show∃x,v=ge.str u x from q);calc formatField_str (λy z=>⟨.str u,o,p.mS _,EJ,r⟩) t
def xB{c:Ĵ}{w:Ŏ}{d:ff}{b:At}{a:wr}(e:io J3):TruthOf c w d (λf v=>a.ac[f]? =DE) (λf=>HA ((b.q (·!=0)).getD f)):=λf v g h i j k=>by
 have l:a[f]? =DE:=and
 let⟨m,n,I,o⟩:=e.at f v l;have p:HA ((b.q (·!=0)).getD f)=(m !=0):=by rw[γ,Δ,o]<;>rfl
 have q:h (HA ((b.q (·!=0)).getD f)) g:=k;rw[p]at q;calc truthy_int q
def aeb(K:Γ):RO:=λa b c=>∃(d:β) (e:At),a=[V.ref d]/\v4 BN (BT e.q)/\c (.bl (e.any (·!=0))) b
def aec(K:Γ):RO:=λa b c=>∃(d:β) (e:At),a=[V.ref d]/\v4 BN (BT e.q)/\c (.bl (e.all (·!=0))) b
def acz(b:NT):OZ "any"$ EL aeb:=by intro c d e f g h i j k l;let⟨m,n,I,o,p⟩:=l;let⟨q,r,s,_⟩:=j.list o;rw[Ĺ.Xk k];have t:=r.ints;calc apP auM;subst v;calc⟨_,_,_,_,_,_,_,I,at0 (A:=a.A.in1),st,xB t,λy z B=>?_⟩;calc⟨_,f,atY,?_,p⟩;rcases ν.J J with L|J;calc RI (L▸Ó H);cases J;have N:=tT (n.q (·!=0));rw[θ]at N;rw[Ç,t.length,N,uA];rfl
def acA(b:NT):OZ "all"$ EL aec:=by intro c d e f g h i j k l;let⟨m,n,I,o,p⟩:=l;let⟨q,r,s,_⟩:=j.list o;rw[Ĺ.Xk k];have t:=r.ints;calc apQ auM;subst v;calc⟨_,_,_,_,_,_,_,I,at0 (A:=a.A.in1),st,xB t,λy z B=>?_⟩;calc⟨_,f,atY,?_,p⟩;rcases ν.J J with L|J;calc RI (L▸Ó H);cases J;have N:=tV (n.q (·!=0));rw[θ]at N;rw[Ç,t.length,N,fZ];rfl
def L6(K:Γ)(a:V)(b:Hp)(c:nm):Prop:=EE (W7 K)\/ ∃d C e fs,a=BK/\Fk=JX (DH e)/\GD C "__bool__"/\GD C "__len__"/\c=Z
def acB:ah7 a λb c d=>∃e,lf (EL L6) e/\CF d:=by intro f g h c b v d i j k;obtain⟨e,l|⟨m,C,n,fs,I,o,p,q,I⟩,r⟩:=k;calc up (Ev (EU W8) v d) ⟨e,l,r⟩;obtain I:v=ge.ref m:=j;let⟨s,F⟩:=i.fr;let⟨_,_,_,t,u,x,_⟩:=i.aI m _ o;let⟨y,z⟩:∃y,g.v.ad n=f4 y:=let⟨A,_,_,B,_⟩:=x;⟨A,B⟩;calc FH (PySem.W.truthy_K0 (od:=f4 y) F i.mod.kin ⟨t,I,I,z⟩) ⟨c,i,r⟩
def afX(K:Γ)(a b:TE):TE:=aeF (∃h,EU (L6 K)/\if h=Z then on e else Db g e)
def afY{b4:GL}(d:mt PE q)(e:EC (.b9 .Or (o::b4) f) b):EC (.b9 .Or (c::o::b4) f)$ EL afX q b:=by intro g h i j k l m;calc BoolOp_or$ ay (AE (up (ww d) _)) (λ v n⟨p,r,s,t,u,x,y⟩=>?_);calc ay (DQ (acB g n i r p v (λz A=>if z=Z then k p A else b i A k)) ⟨u,x,y⟩) (λ z B⟨A,D,G⟩=>?_);cases z with
|gl=>calc IK$ e g B i A k
|Z=>calc⟨p,A,D,t,G⟩
def hu(fs:ES)(a:ï):Prop:=hm$ fs.E a
section
variable(i j:M)(σ:St)(H:Hp)(Q:VK)(R:GM)(D:ee)(v x y:V)(ta tb tc te tv:TE)(t u:TT)(ts us:TS)(tr:TA)(g:TG)(gs:Uy)(K:Γ)(f:ï)(C:β)(sp:Sp)
@[simp]def anr:GR (tC v)=Q v H:=I
@[simp]def ant(b a:U):sK abV=(0<=a/\PP a/\b.a4<2^64):=I
@[simp]def Ym:HR (afc ts us)=tz (ts {D with nx:=us D}):=I
@[simp]def L7:HR (afd te)=ahZ D.rt:=I
@[simp]def Yn:HR (Wu t ts us)=tz t (λa b=>if a=Z then ts D σ b else us D σ b):=I
@[simp]def jy(P:v6):tz (fG i v) P=P (σ.set i DE) H:=I
@[simp]def Yo(P:v6):tz (afg []) P=tz P:=atM$ ln a
@[simp]def O3(v:V)(a:g3)(P:v6):tz (Wv g gs (v::a)) P=tz (g v) (λb c=>EE gs P):=AV ⟨λ⟨_,_,d,e⟩=>by cases d;calc e,λe=>⟨v,a,I,e⟩⟩
@[simp]def Yp(P:GW):tz Lo P=P [] H:=I
@[simp]def acC(P:GW):tz (Xe ta tr) P=WK (λx a=>tr σ a λb c=>P (x::b) c):=I
@[simp]def acD(a:XK):GR (Oi sp [] a tr)=agJ (λb c=>lf sp Q a):=by show agJ _=_;simp only[Đ]
def acE(a:ï)(b:XK):GR (zz C a sp [] b ta tr)=WK (λx c=>∃d e fs,x=BK/\HU=JX (DH e)/\hu fs a/\tr σ c (λf g=>sp (x::f) g Q b)):=by show WK _=_;simp only[Đ,hu]
@[simp]def O4(a:XK):GR (zA C sp [] a tr)=agJ (λb c=>∀x d,hm (c x)->hm HU->d≠x->sp (DJ::b) (ø (re ø (.ü x)) x (DH d [])) (λv e=>UM/\Q DJ e) a):=by show agJ _=_;simp only[Đ]
def hW(P:DV):DZ Ol v H P=(∃a b c j,x=AC/\y=On/\H a=f4 (.Ý b)/\Gn b.length c=ak6/\P (JY ø (AQ (b.set j v)))):=I
@[simp]def ak1(a:U):ZB "int" KM H=EQ:=by unfold vM;simp
@[simp]def ak2{b:β}{a:g3}(c:adU):aq3 AZ H=EQ:=by rw[eq_iff_iff];calc⟨λ_=>CA,λ_=>.D ⟨I,a,.D$ .D c⟩⟩
end
def afZ:R2:=λa b c d=>∃e f g v,a=EN/\b=VF/\c e=f4 (.Ý f)/\on Eo=DE/\IQ d
def xC:IxR a afZ:=by intro b c d e f g h i v j k l m n ⟨o,p,q,z,r,s,t,u,x⟩ y;calc FF (TW (t3 (on (s3 (lf Cp))) v)) ⟨o,p,q,z,r,s,.D$ .D t,u,x⟩ y
def af0:ah4 a afZ:=by
 intro b c d e f g v h i j k l m;let⟨n,o,p,z,I,I,q,r,s⟩:=m;cases k;let⟨t,I⟩:=(show∃t,h=ge.int p t from l);let⟨u,x,y,A⟩:=j.list (.D (.D q));let⟨B,D,G,H,J,L⟩:=Co r;let⟨w,N,O⟩:=x.get G;have f:=x.length;have g:=xo;have n:LP EP i w c:=⟨z,e,j,O,s⟩;by_cases o:0<=p;have k:p.aj=B:=by rw[Ef o L]at D;exact Ü D
 calc im (wpAny_getItem_list y.aF o) (by rw[k];simpa using N) n;have k:(p+u.ac.L).aj=B:=by rw[im yD J]at D;rw[Ç,<-f];exact Ü D
 calc im (im (Vd y.aF) (by rw[Ç]<;>lia)) (by rw[k];simpa using N) n
def aed:RO:=λa b c=>∃d e,a=[BK]/\Fk=PV .Ý/\c (AB e.length) b
def mh:OZ "len" aed:=by intro b c d e f g h i j ⟨k,l,m,n,o⟩;calc up (EU (s3 (lf hV))) ⟨k,l,m,wT$ .D n,o⟩
def Yq:RO:=λa b c=>∃d e,a=[BK]/\Fk=PV .Ý/\∀l,atr (.Ý e)
def uW:a9 a II Yq:=by intro b c d e f g h i j ⟨k,l,m,n,o⟩;calc up (EU (s3 (lf Cu))) ⟨k,l,m,wT$ .D n,o⟩
def af1(K:Γ)(a:TE):TT:=aeE (∃f,IH (W7 K)/\JV R)
def acF(K:Γ)(d:mt PE b)(e:∀g,AN (Ke c) g=(do let v<-g;mY c.pos;fW [v] (amI v)))(f:KI:=by rfl):mt PT$ af1 K b:=by subst f;calc s3 W9
section
variable {i:Expr}
def Yr(a b:TE):TE:=aeF$ Db g λh j=>∃k l i v,f=.ref k/\j k=f4 (.dK l)/\h=NM/\ab l (JL XL)=DE/\e v j
def aX(d:adV)(e:mt PE q)(g:EC i b)(h:aip i):EC (.bq c i f)$ Yr q b:=by intro j k l m n o p;calc ach PySem.F.slot_dict_getitem.E h$ ay (BF (TW e m _)) (λ r s⟨t,u,x,y,z⟩=>ay (g j s l u _ x z) (λ A B⟨D,G,H,J,L,N,i,v,O,n,k,m,o⟩=>?_));subst O;subst k;obtain I:r=ge.ref L:=y;have p:ga$ mU G L:=.D ⟨N,_,.D n,I,m.symm⟩;calc⟨Gx H p,zI d H p J λt j l s=>⟨v,G,l,s,o⟩⟩
def Ys(a b c:TE):TS:=λd e f=>py c λv g=>GZ a λh j=>EV j λk l=>∃m n i,h=.ref m/\l m=f4 (.dK n)/\k=NM/\n.length<Ζ/\d.nx e (AE ø (NF (aR n (JL XL) v)))
def kQ(d:adV)(e:EC o q)(g:EC i b)(h:mt PE x)(j:asJ (ij c (f4 (.bq o i f)) s.line)):VU (.dr [.bq o i f] c s)$ Ys q b x:=by intro k l m n p r t;calc Vi (ay (FF (AI h) _ r t) (λ u y⟨v,z,A,B,D⟩=>ay (e k y m z _ A D) (λ G H⟨J,L,N,O,p⟩=>ay (g k H m L _ N p) (λ l n⟨r,t,u,y,z,A,i,D,J,k,H,L⟩=>?_)))) j;subst D;subst k;obtain I:G=ge.ref z:=O;calc NL (t5 d u (.D ⟨A,XL,J,I,H,I⟩)) λN p=>⟨m,_,p,L⟩
def Yt(a b c:TE)(d:LA):TS:=λe f g=>on a λh j=>b f j λk l=>∃m n i v,h=.ref m/\l m=f4 (.dK n)/\k=NM/\ab n (JL XL)=DE/\c f l (λo p=>BF (d v) λz q=>∃r,q m=f4 (.dK r)/\r.length<Ζ/\e.nx f (ø q m (NF (aR r (JL XL) z))))
def rM{l:px}{m:LA}(n:adV)(B:EC o q)(D:EC i b)(G:mt PE x)(p:AE (ab3 a))(H:∀j g e,up augStore g e=(do fW [e,j,g] (Va j g e);release [e,j,g] [];DT .next):=by intros;rfl):VU (.dd (.bq o i f) l c s)$ Yt q b x m:=by intro d y0 h z0 M0 A0 B0;calc Ew (ay (B d y0 h z0 _ A0 B0) (λ C0 J⟨N0,L,N,O,a0⟩=>ay (D d J h L _ N a0) (λ g D0⟨O0,r,b0,t,x0,u,i,v,c0,F0,d0,f0,g0⟩=>?_))) H;subst c0;subst d0;obtain I:C0=ge.ref x0:=O;have G0:ga$ mU r x0:=.D ⟨u,_,.D F0,I,f0.symm⟩;calc zI n b0 G0 t λh0 i0 j0 y=>ay (G d i0 h r _ j0 g0) (λ k0 l0⟨m0,n0,o0,A,p0⟩=>ay (IL (p d l0 h n0 v m0 h0 k0 _ o0) p0) (λ H0 I0⟨z,J0,r0,s0,k,t0,u0,v0⟩=>?_));calc t5 n r0 (.D ⟨k,XL,t0,I,u0,I⟩) t s0 λK0 w0=>⟨h,_,w0,v0⟩
end
@[simp]def xD(a:AX y)(b:M):Eo a GI=a[b]?:=by unfold Eo Gn;by_cases c:b<a.length;simp[c];simp[c]
def fJ(a:d<z):Gn z (jp d)=LJ:=by unfold Gn;simp[a]
def aK{K:Γ}{a:St}{b:Hp}{e:v6}(f:b i=f4 (.c9 j))(c:j.length=d)(g:io (A j) e):io (abS K d A OH) e:=⟨i,j,I,.D$ .D f,c,g⟩
def O5{X:Cx}(K:Γ){a:GL}{n:M}(c:X.gM=Z)(h:PGs X a A)(e:(FA$ eP a).length=n:=by rfl)(b:hm ((FA$ eP a).cy (·.1)):=by rfl)(g:X.K=K:=by rfl):PG X (wE .cw f)$ abS K n A:=by subst g;calc FM afh e b
def af2{X:Cx}(K:Γ){a:ï}{k id:HC}{u:IX}(l:wm k)(h:Slot k a id)(j:ap4)(m:Gp X id u)(p:PE X o b)(q:PA X (c::n) B)(e:FA (œ o a) anp=anp:=by rfl)(i:((aG f$ XE (c::n)).all (λv=>! v.1)&&(fP f$ FA$ bY []).all (λv=>v.1.by)&&sB ((c::n).length+ark []+(if([]:AX m3).a2 then 0 else 1)<30))=Z:=by rfl)(g:(s.bS==f.line)=Z:=by rfl)(r:XE (c::n)=(gl,FA$ rw c)::FA (Ù n):=by rfl)(d:pr ((aG f$ FA$ Ù n).any (·.1)):=by rfl)(t:X.K=K:=by rfl):PE X (GJ (.ao o a s) (c::n) [] f)$ tBM K k u b B:=by subst t;calc IO (FH (GH (ad7 l) m)) g r d
structure Src(a:It)(n:M)(R:DV)(b:M->V->JK Hp):Prop where
 go:∀c d,c<n->R d->re a.go
 mT:∀d,R d->a.mT n d
 En:∀c d e f,c<n->R d->IH (a.En c)->DS (AH b)
section
variable{J:It} {el:M->V->JK Hp} {D:ee}{σ:St}{H:Hp}
def rN(S:Src J d G el)(Pv:MJ)(a:tz (Pv 0))(b:∀g σ H,g<=d->tz (Pv g)->G H)(c:∀g h σ H i,g<d->tz (Pv g)->ww el H i->e h σ i (λj k=>AS$ u {D with nx:=Pv (g+1),ct:=Pv (g+1),bk:=D.nx}))(f:∀σ H,ap0 (Pv d)):∃W:M->MJ,(∃l,tz (W 0 l))/\ ∀g l σ H,tz (W g l)->(J.mT g H/\tz D.nx)\/(J.go g H/\∃m:v6,(∀n i,m n i->∃o,o<l/\W (g+1) o n i)/\ ∀h i,t3 (J.En g H)->e h σ i (λj k=>AS$ u {D with nx:=m,ct:=m,bk:=D.nx})):=by
 calc⟨λg l σ H=>l=d-g/\g<=d/\tz (Pv g),⟨d,mo,CY,a⟩,?_⟩;rintro g l σ H ⟨I,p,q⟩;have r:=FH$ tz MM;by_cases s:g<d;calc .X ⟨S.go g H s r,_,λn i t=>⟨_,gt,I,s,t⟩,λh i v=>tz (ww c) i s q$ t3 (S.En g H) s r v⟩;have x:g=d:=gt
 subst x;calc .D ⟨S.mT H r,tz f q⟩
def oy{xs:g3}:Src (t3 Ob) xs.length (λH=>bI h H i xs) λa b H c=>c=H/\xs[a]? =ZC:=⟨λa H d e=>⟨xs,xs[a],e,by simp[]⟩,λH e=>⟨xs,e,AK⟩,λ a H b c d e⟨f,g⟩=>⟨f,g xs e⟩⟩
def G_ :Src (t3 Ite) j.length (λH=>up$ bI h H) λa b H c=>∃d v,b=BK/\agI/\c=ø H d (.c9 [AD a,v])/\j[a]? =DE:=⟨λa H e f=>⟨j,j[a],f,by simp[]⟩,λH f=>⟨j,f,AK⟩,λ a H b c e f⟨d,v,g,k,l,m⟩=>⟨d,v,g,k,l,m j f⟩⟩
def acG{a:β}(b:j.length=L.length):Src (t3 Itz a) j.length (λH=>up (bI h H)/\JY (bI h) L) λc d H e=>∃f g v,d=EH/\hm (H f)/\e=ø H f (.c9 [g,v])/\j[c]? =HK/\L[c]? =DE:=⟨λc H k l=>⟨j,L,j[c],L[c],l.1,l.2,by simp[],by simp[]⟩,λH l=>⟨j,L,l.1,l.2,.D AK⟩,λ c H d e k l⟨f,g,v,m,n,o,p,q⟩=>⟨f,g,v,m,n,o,p j l.1,q L l.2⟩⟩
def pa{lo:U} :Src (Gf lo d) d (λ_=>EQ) λa b H c=>c=H/\b=AB (lo+a):=⟨λa H e _=>e,λH _=>Η d,λa H b c _ _ f=>f⟩
def aiB{a:β}{xs:g3}(c:∀k:VK,k AC H->tz b k)(d:JY (bI h) xs)(Pv:MJ)(f:tz (Pv 0))(g:∀l σ H,l<=xs.length->tz (Pv l)->JY (bI h) xs)(i:∀l m σ H,xs[l]? =f4 m->tz (Pv l)->tz (e m) (λn o=>BQ$ u {D with nx:=Pv (l+1),ct:=Pv (l+1),bk:=D.nx}))(j:∀σ H,ap0 (Pv xs.length)):HR$ Sj (zw h b) e u:=c _ ⟨a,I,⟨xs,d⟩,on (rN oy Pv) (λl m σ H p q r s=>by let⟨I,s⟩:=s;calc AE i σ _ s r) j⟩
def ap8(b:∀i:GW,i [PD d] H->tz B i)(h:d<KD)(Pv:MJ)(c:tz (Pv 0))(f:∀(a:M) σ H,a<d->tz (Pv a)->tz (e (AB DD)) (λj k=>AS$ u {D with nx:=Pv DC,ct:=Pv DC,bk:=D.nx}))(g:∀σ H,ap0 (Pv d)):HR$ Sj (zx B) e u:=by calc b _ ⟨d,I,gt,gt,?_⟩;calc rN pa Pv c (λ_ _ _ _ _=>CA) (λa l σ H m n o p=>by let⟨I,I⟩:=p;rw[U.b_];calc BQ$ f a σ _) g
def mi{c:DV}(S:Src J d G el)(f:JQ)(F:M->V)(g:QM H)(o:d<Ζ)(a:∀p,EW p->G p)(k:∀q r s t,q<d->EW s->DQ (BW el)->DQ Μ/\∀(h:VK)(j:DV),(f q=Z->∀u,EB Μ->h (F q) u)->(pr (f q)-> ∀u,EB Μ->j u)->e r ak8 t (λv t=>Ş v m=ak8/\l v t (λx u=>if x=Z then b v u h else j u)))(n:∀p,EW p->p i=WC ((ι d).filter f)->c p):∃W:M->JK M,(∃y,W 0 y (ø H i (AQ [])))/\ ∀q y H,W q y H->(J.mT q H/\c H)\/(J.go q H/\∃z:DV,(∀p,z p->∃A,A<y/\W (q+1) A p)/\ ∀r p,J.En q H r p->e r ak8 p (λv t=>Ş v m=ak8/\l v t (λx u=>if x=Z then b v u (λB D=>∃L,D i=f4 (.Ý L)/\L.length<Ζ/\z (ø D i (AQ (L++[B]))))else z u))):=by
 calc⟨λq y s=>y=d-q/\q<=d/\EW s/\s i=WC ((ι q).filter f),⟨d,mo,CY,Μ.new g,by rw[Α];rfl⟩,?_⟩;rintro q y s ⟨I,N,O,v⟩;by_cases A:q<d;calc .X ⟨S.go q s A$ a s O,λp=>EW p/\p i=UB,λ p⟨y,x⟩=>⟨_,gt,I,A,y,x⟩,λr t B=>?_⟩;let⟨z,D⟩:=DQ (BW k) A O (S.En q s r t A (a s O) B);calc PL (λL u N=>⟨_,NG$ ga z v,?_,SB.same g O$ (z.trans N).sb.trans SB.ø,?_⟩) λL u N=>wn$ O.trans$ z.trans N;rw[θ];have:=Ω f$ ι q;rw[Ð]at this;lia;rw[Α,ę,ł,Æ];simp[L];rw[NG$ ga z v,ę,ł,Æ];simp[L];have p:q=d:=gt
 subst p;calc .D ⟨S.mT s$ a s O,n s O v⟩
def anu{tl:TE}(g:∀p:VK,p OH H->tz tl p)(a:up (bI h H))(k:j.length<Ζ)(f:JQ)(F:M->V)(n:∀q r s,j[q]? =f4 r->EW s->∀(c:VK)(d:DV),(f q=Z->∀t,DQ Μ->c (F q) t)->(pr (f q)-> ∀t,DQ Μ->d t)->e r ak8 s (λu v=>Ş u m=ak8/\l u v (λx t=>if x=Z then b u t c else d t)))(o:∀D y,WU (EW y->y D=WC (FX j.length f)->p (.ref D) y)):tz (Lu (zw h tl) e l b m) p:=g _ ⟨i,I,QY a,λD z=>mi oy f F z k (λy A=>A.seq a) (λq r s v B G J=>by let⟨I,J⟩:=J;calc⟨HJ,BW n v J G⟩) λy A J=>o D y z A J⟩
def anv{ta:TA}(g:∀p:GW,p [OH] H->WK p)(a:up (bI h H))(k:j.length<Ζ)(f:JQ)(F:M->V)(n:∀q v r s,j[q]? =DE->EW r->r s=KS [AD q,v]-> ∀(c:VK)(d:DV),(f q=Z->∀t,Μ r t->c (F q) t)->(pr (f q)-> ∀t,Μ r t->d t)->e VY ak8 r (λu x=>Ş u m=ak8/\l u x (λy t=>if y=Z then b u t c else d t)))(o:∀D z,WU (EW z->z D=WC (FX j.length f)->p (.ref D) z)):atv$ G4 h:=g _ ⟨i,j,I,a,λD A=>mi G_ f F A k (λz B=>B.seq a) (λq G r x J L N=>by let⟨s,v,I,O,I,t⟩:=N;calc⟨Μ.new O,DQ (n q v _) (L.trans (Μ.new O)) Α⟩) λz B N=>HP (o D z) N⟩
def anw{ta:TA}{k:β}(n:∀p:GW,p [.ref k,OH] H->WK p)(a:bI h H k j)(c:bI h H i L)(o:j.length=L.length)(q:j.length<Ζ)(g:JQ)(F:M->V)(r:∀t u v x y,j[t]? =f4 u->L[t]? =DE->Ix Μ->x y=KS [u,v]-> ∀(d:VK)(f:DV),(g t=Z->∀z,Μ x z->d (F t) z)->(pr (g t)-> ∀z,Μ x z->f z)->e (.ref y) ak8 x (λA B=>Ş A m=ak8/\HP l (λi z=>if i=Z then b A z d else f z)))(s:∀D G,WU (EW G->G D=WC (FX j.length g)->p (.ref D) G)):atv$ ack h:=n _ ⟨k,i,j,L,I,a,c,λD J=>mi (acG o) g F J q (λG N=>⟨N.seq a,N.seq c⟩) (λt O x B z A x=>by let⟨y,u,v,I,B,I,O,z⟩:=x;calc⟨Μ.new B,EB r v _ y O z (A.trans (Μ.new B)) Α⟩) λG N x=>IK s J N x⟩
def anx{ta:TA}(h:∀p:GW,p [PD d] H->WK p)(i:d<Ζ)(g:JQ)(F:M->V)(j:∀(a:M) n,a<d->EW n->∀(c:VK)(f:DV),(g a=Z->∀o,BQ Μ->c (F a) o)->(pr (g a)-> ∀o,BQ Μ->f o)->e (AB DD) ak8 n (λq r=>Ş q m=ak8/\BW l (λs o=>if s=Z then b q o c else f o)))(k:∀D t,WU (EW t->t D=WC ((ι d).filter g)->p (.ref D) t)):atv zx:=by have u:=eR;calc h _ ⟨d,I,gt,gt,λD v=>?_⟩;calc mi pa g F v i asO (λa x n r y z A=>by let⟨I,I⟩:=A;rw[U.b_];calc⟨HJ,j a r y z⟩) λt B A=>k D t v B A
def aiC{ta:TA}{lo:M}(h:∀p:GW,p [PD lo,MH (lo+d)] H->WK p)(n:Id lo)(i:d<Ζ)(g:JQ)(F:M->V)(j:∀(a:M) o,a<d->EW o->∀(c:VK)(f:DV),(g a=Z->∀q,Μ o q->c (F a) q)->(pr (g a)-> ∀q,Μ o q->f q)->e (MH (lo+a)) ak8 o (λr s=>Ş r m=ak8/\HX l (λt q=>if t=Z then b r q c else f q)))(k:∀D u,WU (EW u->u D=WC ((ι d).filter g)->p (.ref D) u)):atv Wx:=by have v:=eR;calc h _ ⟨lo,_,I,⟨gt,gt,gt,gt⟩,λD x=>?_⟩;rw[show((lo+d:M)-jp lo).aj=d by lia];calc mi pa g F x i asO (λa y o s z A B=>by let⟨I,I⟩:=B;calc⟨HJ,j a s z A⟩) λu G B=>k D u x G B
end
def ķ{d:Type}(l:AX y)(b:y->nm)(c:y->d)(a:y):(FX l.length λe=>b$ l.getD e a).q (λe=>c$ l.getD e a)=(l.filter b).q c:=by induction l with
|nil=>rfl
|cons f g h=>
 rw[Β,fY,ġ,ġ];have i:(f::g).getD 0 a=f:=I;rw[i,cg,];have j:((λe=>b$ (f::g).getD e a)∘arV)= λe=>b (g.getD e a):=I;rw[j];have k:∀l:f8,(l.q arV).q (λe=>c$ (f::g).getD e a)=l.q (λe=>c$ g.getD e a):=λl=>by rw[Χ];rfl
 split;rw[Â,Â,k,h];rfl;rw[k,h]
end L2
namespace PySem
variable{a:Ŏ}{c:β}{b:Ĵ}{d e:ET}{f:ge}
section
variable [OF K]{A:ff} {s:lm} {k:K}
def L8{h:sK KeyKind K}{i:XQ K}{kR:ge}(m:UN (h.is k))(d0:s.v.cx h c i)(j0:i.length<=Ζ)(q:∀v,valueAt i k=DE->e v {s with DO:=s.aG+1})(B:hm (valueAt i k)-> ∀D,D.cx h c (Vg i k kR)->cx c s.v D->e kR {s with AL:=D,DO:=s.aG+1}):û (sK þ) A (hb c f kR) e d s:=by
 let⟨n0,g,l0,x,f0,r,L,y,g0⟩:=d0;have k0:g.L<=Ζ:=by
  have m0:=y.length;have N:g.aU.length=g.L:=mo
  lia
 unfold hb;try with_reducible refine fO ?_
 calc DY$ h.pyHash m;calc DY$ wpAny_dictFind_of m x r L;have G:g.cy (λz=>h.is k z.key)=i.cy (λn=>sB (n.1=k)):=by rw[<-y.findIdx k];let⟨l⟩:=g;simp
 have j:=y.find k;cases H:g.cy _ with
 |some O=>
  calc DY$ cR x r;have a0:=(FS.findIdx?_eq_some_iff_findIdx_eq.J H).1;have h0:g.aU.cy (λz=>h.is k z.key)=f4 O:=by rw[<-H];let⟨l⟩:=g;simp
  have b0:g.aU.cS (λz=>h.is k z.key)=g.aU[O]?:=by rw[List.find?_eq_bind_findIdx?_getElem?,h0];rfl
  rw[b0]at j;have N:g.aU[O]? =g[O]?:=mo
  rw[N]at j;cases o:g[O]? with
  |none=>rw[aN a0]at o;calc nomatch o
  |some z=>rw[o]at j;calc Ε$ Kk$ Ì$ q z.val j.symm
 |none=>
  have p:=not_mem_of_findIdx_none (G▸H);have t:¬i.any (λn=>sB (n.1=k))=Z:=by rw[ô];rintro ⟨n,u,o⟩;exact p$ χ.Q ⟨n,u,ag8 o⟩
  have J:hm$ valueAt i k:=by unfold valueAt;rw[Eh,sT];intro n u o;exact p$ χ.Q ⟨n,u,ag8 o⟩
  calc Ε$ Kk$ Ε$ sY x r$ Ì$ B J _ ⟨_,_,_,dQ _ x$ pi.cZ$ pi.bF r _,f0.db _,pi.bF r _,L.push m _,?_,?_⟩ (aj ..);rw[Vg,hf t];have:=y.append m (h.hash k) kR;simpa using this;rw[Vg,hf t,Æ,ŷ];calc⟨g0,mo,?_⟩;intro o0 i0 p0 c0;simp only[Â,cq,Θ]at c0;subst c0;calc λz=>p (z▸i0)
def S8{f:sK Kl K}{m:β}{h:AX (K×β×ge)}{kR:ge}(l:f.room A)(g:f.is s.v k m)(n:FM (s.v.b1 f))(o:h.length<=Ζ)(i:∀p,vW h k=f4 p->e p.2 {s with DO:=s.aG+f.fd k})(j:hm (vW h k)-> ∀q,KL q.b1 (agZ h k m kR)->cx c s.v q->e kR {s with AL:=q,DO:=s.aG+f.fd k}):û (sK þ) A (hb c (.ref m) kR) e d s:=by
 let⟨r,t,u,v,x,y,z,B,D⟩:=n;unfold hb;try with_reducible refine fO ?_
 calc DY$ f.pyHash l g;calc Ε$ sw$ wpAny_dictFind_heap l g v y z B D;intro G;have H:=not_mem_keys_of_get G;calc Ε$ Kk$ Ε$ sY (hz:=by have J:=qO z;lia) v y$ Ì$ j (m5 G) _ ⟨_,_,_,dQ _ v$ pi.cZ$ pi.bF y _,x.db _,pi.bF y _,?_,?_,?_⟩ (aj ..);rw[aby$ m5 G];simp[z,entryOfKey];rw[aby$ m5 G];intro L N;rcases Ι.J N with N|N;calc f.keeps (B L N) v y (aj ..);simp only[Θ]at N;subst N;calc f.keeps g v y (aj ..);rw[aby$ m5 G,Æ,ŷ];calc⟨D,mo,?_⟩;intro L N O q;simp only[Â,cq,Θ]at q;subst q;calc λJ=>H (J▸N);intro r p t;calc DY$ cR v y;rw[entry_at z r,t];calc Ε$ Kk$ Ì$ i p$ atKey_of_get D t
def L9(c:sK KeyKind K)(d:β)(e:UN (c.is k))(g:pr (d==Ŧ))(kR:ge):sK Vj (Vk.«dict.setdefault» ⟨[BK,f,kR],[]⟩) λ_ R s=>∃h,re s.v.cx h/\h.length<=Ζ/\(∀v,valueAt h k=DE->R (.ok (.es v)) {s with DO:=s.aG+1})/\(hm (valueAt h k)-> ∀i,re i.cx (Vg h k kR)->cx d s.v i->R (.ok (.es kR)) {s with AL:=i,DO:=s.aG+1}):=.eP (λ j R s⟨l,m,n,o,p⟩=>by calc NU;calc DY$ h9 m.aB;calc SS;show apv (if(d==Ŧ)=Z then _ else(DS hb kR>>=_));rw[DP (by rw[g];calc à)];calc Ε$ FF (L8 e) (λv q=>Ì ⟨v,I,o v q⟩) λr i t u=>Ì ⟨kR,I,EB$ p r i⟩)
def Ha(c:sK Kl K)(d e:β)(f:pr (d==Ŧ))(kR:ge):sK Vj (Vk.«dict.setdefault» ⟨[BK,EN,kR],[]⟩) λA R s=>c.room A.in1/\∃k g,c.is s.v k e/\re s.v.b1 g/\g.length<=Ζ/\(∀h,vW g k=OE->R (.ok (.es h.2)) {s with DO:=s.aG+c.fd k})/\(hm (vW g k)-> ∀i,re i.b1 (agZ g k e kR)->cx d s.v i->R (.ok (.es kR)) {s with AL:=i,DO:=s.aG+c.fd k}):=.eP (λ A R s⟨j,k,g,l,m,n,o,p⟩=>by calc NU;calc DY$ h9 m.aB;calc SS;show apv (if(d==Ŧ)=Z then _ else(hb d _ kR>>=_));rw[DP (by rw[f];calc à)];calc Ε$ AE (S8 j) n (λh q=>Ì ⟨h.2,I,o h q⟩) λr i t u=>Ì ⟨kR,I,EB$ p r i⟩)
def L_(c:sK Kl K)(d:β)(e:pr (d==Ŧ)):sK Vj (Vk.«dict.__len__» ⟨[BK],[]⟩) λ_ R s=>∃f,re s.v.b1 f/\R (.ok (.es (AB f.length s.aG))) {s with DO:=s.aG+1}:=.eP (λ g R s⟨f,h,i⟩=>by let⟨j,k,l,m,n,o,p,q,r⟩:=h;show apv (dictSize d>>=_);calc Ε$ Ε$ cR m o SS;calc DY$ wpAny_pendingCount_other e;calc wpAny_ret_mkInt ?_;have:=qO p;rw[ahB,this];calc i)
def S9{g:sK Kl K}{f:AX (K×β×ge)}(i:amD)(h:s.v.b1 g c f)(j:jp f.length<QL)(k:e (AB f.length (s.aG+1)) {s with DO:=s.aG+1+1}):û (sK þ) A (call (.aq "len") [CO]) e d s:=by calc Calls.call_function_entry kind_len plain_len entry_len (args_len1 _) ?_;calc Ε (m:=ga callSpecial?)$ pB h.aB F.ep$ e9 F.ep h.aB F.entry_dict_len (F.args_dict_len_1 _) (L_ g c i) ⟨f,h,?_⟩;calc Ε$ fO SS;calc DY wpAny_letGo;rw[IV,IV];calc Ε$ wpAny_mkInt$ Ì ⟨_,I,k⟩
def Dc(c:sK Kl K)(d:β):sK Vj (Vk.«dict.clear» ⟨[BK],[]⟩) λ_ R s=>∃e,s3 (s.v.b1 c)/\e.length<=Ζ/\∀f,re f.b1 []->cx d s.v f->R (.ok (.es .none)) {s with AL:=f}:=.eP (λ g R s⟨e,h,i,j⟩=>by
 let⟨k,l,m,n,o,p,q,r,t⟩:=id h;have u:l.L<=Ζ:=by have:=qO q;lia
 calc NU;calc DY$ h9 h.aB;calc SS;calc DY$ cR n p;calc NU;calc Ε$ wpAny_load n SS;calc DY$ sY n p;have v:re (s.v.em d$ pi.db λ_=>#[]).b1 []:=⟨_,_,_,dQ _ n$ pi.cZ$ pi.bF p _,o.db _,pi.bF p _,mo,λ_ q=>by simp at q,y8⟩;split;calc Ε$ wpAny_letGo$ Ì ⟨_,I,j _ v (aj ..)⟩;calc Ε$ Ì$ Ì ⟨_,I,j _ v (aj ..)⟩)
end
end PySem
namespace L2
open PySem PySem.Spec PyProof.Rows
variable{a:Cx}
def acH:IX:=λa b c d=>∃e f z g,a=EN/\b=[f,z]/\on (AH mU)/\(∀v,g=DE->IQ d)/\(hm g->∃h,py (Cz c) z h/\d z h)
def zN(b:adV):Gp a "dict.setdefault" acH:=by intro c d e f g h v i j k m n o;let⟨p,q,z,r,I,I,s,t,u⟩:=o;cases m;cases n with
|cons x y=>cases y with
 |cons A B=>
  cases B;rcases s with⟨D,G,H,J,l⟩|⟨D,G,L,H,J,N,l⟩;subst J;let⟨O,c,d,e,h⟩:=uU k.aI H;calc e9 de h.aB uC (AY sZ) (L9 (PY bt) p (xx x) c _) ⟨d,h,by rw[<-e.length];calc O,λi j=>?_,λr m n o=>?_⟩;have y:=e.val G;rw[j]at y;cases s:IK ab with
  |none=>rw[s]at y;calc y.elim
  |some B=>rw[s]at y l;exact⟨B,f,k.mS _,y,t B l⟩
  have y:=e.val G;rw[r]at y;cases s:IK ab with
  |some B=>rw[s]at y;calc y.elim
  |none=>
   rw[s]at l;let⟨d,i,j⟩:=u l;rcases i with⟨a0,b0,c0,d0,f0,g0⟩|⟨a0,b0,h0,c0,d0,i0,f0,g0⟩;have j0:a0=D/\b0=G:=by calc wn ?_;rcases H with H|⟨k0,H⟩;rw[H]at c0;cases c0;rfl;rw[H]at c0;cases c0;cases b0 with
   |inl l0=>cases G with
    |inl m0=>cases d0;rfl
    |inr m0=>cases d0
   |inr l0=>cases G with
    |inl m0=>cases d0
    |inr m0=>cases d0;rfl
   let⟨I,I⟩:=j0;subst g0;have n0:YG$ XI aR z:=by have:=XI gO z;lia
   have o0:∃j,m.ad p=ak6:=let⟨j,_,_,p0,_⟩:=n;QY p0;calc⟨z,_,rK k (by rw[c0];calc EQ.cR) o o0$ Xs n0 c (e.put b0 A) n,A,j⟩;exfalso;cases G with
   |inl m0=>cases d0
   |inr m0=>cases d0
  subst J;cases(show _=ge.ref L from x);let⟨O,c,x,e,h⟩:=uV k.aI H;calc e9 de h.aB uC (AY sZ) (Ha _ p L c _) ⟨dU b,G,x,qy k.aI N,h,by rw[<-Ñ e];calc O,λJ p=>?_,λr m n o=>?_⟩;have y:=e.val G;rw[p]at y;cases s:IK ab with
  |none=>rw[s]at y;calc y.elim
  |some B=>rw[s]at y l;exact⟨B,f,k.mS _,y,t B l⟩
  have y:=e.val G;rw[r]at y;cases s:IK ab with
  |some B=>rw[s]at y;calc y.elim
  |none=>
   rw[s]at l;let⟨d,i,j⟩:=u l;rcases i with⟨a0,b0,c0,d0,f0,g0⟩|⟨a0,b0,h0,c0,d0,i0,f0,g0⟩;cases b0<;>cases d0;cases d0;have j0:a0=D:=by rcases H with H|⟨k0,H⟩;rw[H]at c0;cases c0;rfl;rw[H]at c0;cases c0
   have L:b0=G:=by rw[N]at i0;have:=HO.c9.inj$ Ü i0;exact(Ut λg q H=>by cases g<;>cases q<;>cases H<;>rfl).J this.symm
   subst j0 L;subst g0;have n0:YG$ XI aR z:=by have:=XI gO z;lia
   let⟨O,h,J,p0,f,t,u,_,D⟩:=n;calc⟨z,_,rK (ob:=.dT$ XI aR z) k (by rw[c0];calc EQ.cR) o ⟨O,p0⟩ ⟨n0,c,_,(e.put b0 N A).keeps λr x m=>?_,O,h,J,p0,f,t,u,D⟩,A,j⟩;rw[ω$ đ m c0 λz=>nomatch z];calc m
def S_:OZ "len" λb c d=>∃e f,b=[V.ref e]/\c e=f4 (.dT f)/\PF (AB f.length):=by intro g h i c b j d k l m;let⟨e,f,I,n,o⟩:=m;let⟨p,I,q⟩:=kN l;cases q;let⟨z,r,s,t,u⟩:=Xr k.aI n;have v:=Ñ t;calc S9 r u (by rw[eR]at z;lia) ?_;rw[<-v];calc⟨AB f.length,c,k.mS _,EJ,o⟩
def Ta:Gp a "dict.clear" λb c d e=>∃f g,b=V.ref f/\c=[]/\d f=f4 (.dT g)/\e .Ť (DS ø (.dT [])):=by intro h i j d b c v k e l m n o;let⟨f,g,I,I,p,q⟩:=o;cases m;cases n;let⟨z,r,s,t,u⟩:=Xr l.aI p;calc e9 zc u.aB PySem.F.entry_dict_clear (PySem.F.args_dict_clear_1 _) (Dc _ f) ⟨s,u,by rw[<-Ñ t];calc z,λx y A=>?_⟩;let⟨B,D,G,H,J,L,N,_,O⟩:=y;calc⟨.Ť,_,rK (ob:=.dT []) l (by rw[p];calc EQ.cR) A ⟨B,H⟩ ⟨CY,r,[],.nil,B,D,G,H,J,L,N,O⟩,I,q⟩
end L2
namespace PySem
variable{a:Ŏ}{b:Ĵ}{c:ff}{f:pi}{h:FS lG}{i l m:M}{e j:β}{n:WA->ZE}
section
variable {E:ET}{s:lm}
def uX(c:β)(d:amD):sK Vj (Vk.«dict.values» ⟨[CO],[]⟩) λ_ R s=>s.do CO "dict"/\R (.ok (.es (wp s.v.R.L))) {s with AL:=s.v.push {BY:=.au "dict_values",BX:=.bP #[CO]}}:=.eP (λ e R s⟨f,g⟩=>by calc NU;calc DY$ h9 f;calc SS;unfold akA;rw[DP (by rw[d];calc à)];calc DY Ì;calc Ε$ m4$ Ì ⟨_,I,g⟩)
def Ma{v d:β}{l:ET}(g:s.v.IsValuesView v d)(j:s.v.ad d=MO)(e:f.bT=t3 .b0)(k:l (wp s.v.R.L) {s with AL:=s.v.push {BY:=.au "dict_valueiterator",BX:=.bP #[BK,.int 0 0,AB h.L 0,NM 0]}}):û (sK þ) c (Kf (.ref v)) l E s:=by
 let⟨m,n,o,p⟩:=id g;calc wpAny_pyIter_slot g.aB F.da$ Ba F.da g.aB F.entry_dict_values_iter ?_$ F.args_dict_values_iter_1 _;calc DY Ì;calc NU;calc Ε$ wpAny_field n p I SS;calc NU;calc DY$ cR j e;calc DY$ E5 j e;have q:pr$ e3 "dict_valueiterator":=DU
 simp only[q,jh,asS];calc m4$ Ì ⟨_,I,_,_,⟨_,KJ,I⟩,F.aZ.E,?_⟩;simpa[Kj]using k
def Tb{o:lG}(d:AE (s.v.cF e j i))(g:s.v.ad j=MO)(k:f.bT=No .b0)(p:h.L=l)(q:h[i]? =ak7)(r:∀t,AE (t.cF e j (i+1))->cx e s.v t->n (f4 o.val) {s with AL:=t}):û (sK þ) c (aeN EN) n E s:=by
 let⟨u,v,x,y⟩:=id d;calc Ε$ apR$ pB d.aB F.aZ$ Ba F.aZ d.aB F.cr ?_$ F.cf _;calc DY Ì;calc NU;calc NU;first|refine Ε$ dR d.aB SS|refine Ε$ fR d.aB SS
 calc DY$ amS v y;have z:pr$ e3 "dict_valueiterator":=DU
 calc DY Ì;calc DY$ cR g k;rw[DP (by rw[p];simp)];calc DY Ì;calc DY$ E5 g k;rw[s4 hf];calc SS;let⟨A,B⟩:=FS.getElem?_eq_some_iff.J q;simp only[U.a0,aN A];calc NU;first|refine Ε$ dR d.aB SS|refine Ε$ fR d.aB SS
 calc DY$ qW d.aB;show apv (setField _ 1 _>>=_);calc DY$ s4$ amT v y;have D:AE$ (s.v.em e (pi.mapFields (·.er 1 (Kj (i+1))))).cF e j (i+1):=⟨_,dQ _ v$ pi.isFreed_of_fields$ pi.el y _,(pi.cls_mapFields ..).trans x,by rw[pi.el y];simp[Kj]⟩;calc DY fO;calc DY$ qW D.aB;calc DY$ qW D.aB;rw[B];calc Ì$ Ì ⟨_,I,Ì$ r _ D (aj ..)⟩
def Tc{p:M}(r:hm c.dS)(d:s.v.cF e j i l p)(g:s.v.ad j=MO)(k:f.bT=.b0 h p)(o:h.L=l)(q:l<=i)(t:∀u,ř.ExtBut e s.v u->n none {s with AL:=u}):û (sK þ) c (aeN EN) n E s:=by
 let⟨v,x,y,z⟩:=id d;calc Ε$ apR$ pB d.aB F.aZ$ Ba F.aZ d.aB F.cr ?_$ F.cf _;calc DY Ì;calc NU;calc NU;first|refine Ε$ dR d.aB SS|refine Ε$ fR d.aB SS
 calc DY$ amS x z;have A:pr$ e3 "dict_valueiterator":=DU
 calc DY Ì;calc DY$ cR g k;rw[DP (by rw[o];simp)];calc DY Ì;calc DY$ E5 g k;rw[s4 hf];calc SS;have B:h.L<=i:=by rw[o];exact q
 simp only[U.a0,Ez B];calc NU;first|refine Ε$ dR d.aB SS|refine Ε$ fR d.aB SS
 show apv (setField _ 0 _>>=_);calc DY$ s4$ amT x z;calc NU;calc Ε (m:=ga firstArgMember)$ wpAny_of_eq (by first|rfl|(rfl)) ?_;calc m4 ?_ (by size_fits);calc DY wpAny_handled;rw[show hm c.in1.dS from r];calc Ε$ Ì$ wpAny_throw ?_;calc DY$ wpAny_isInstance ⟨_,KJ,I⟩ isSubtype_stop;calc Ì$ t _$ ((aj ..).extBut.push _).push _
end
end PySem
namespace L2
open PySem PySem.Spec PyProof.Rows
variable{b:β}{a:Cx}{m d:Expr}{c s:TE}{e h:vB}{n:BO}{j:St}{f:Hp}{o:lm}{l:pi}{p:BA}{q:M}{x:g3}
def xE:∀{a:g3}{b:wr},asM->(∀(c:M)(d:V),a[c]? =LJ->∃e,b[c]? =HH/\s3 Ŗ)->io Ĺ
 |[],[],_,_=>.nil
 |[],_::_,f,_=>by simp at f
 |_::_,[],f,_=>by simp at f
 |d::a,e::b,f,g=>by let⟨v,h,i⟩:=g 0 d I;simp at h;subst h;calc .cons i (xE aqh (λc z j=>by simpa using g BD z and))
def O6{P:Ĵ}{w:Ŏ}{c:ř}{a:XQ ō}(d:sK (c.cx (IA bt))):∃e,sK (c.DictAt (IA bt)) e:=let⟨f,g,e,h,i,j,k⟩:=d;⟨e,f,g,h,i,j,k⟩
def Yu:RO:=λa b c=>∃d e,a=[V.ref d]/\Fk=PV .dK/\∀l,atr (AQ (e.q (λf=>kV f.1)))
def Hb(b:NT):a9 a II Yu:=by
 intro c d e f g h i j k l;let⟨m,n,I,o,p⟩:=l;let⟨q,I,r⟩:=kN k;cases r;let⟨z,s,t,u,v⟩:=Xq j.aI o;let⟨x,y⟩:=O6 v;have A:=Ñ u;calc im (Q_ (PySem.W.kdl_dict s) (j.ok.hd b) y) λB D G H J L N=>?_;calc⟨wp d.v.R.L,_,j.iB J AK (show PY aL _ B _ (.Ý _)from⟨RM,G.aU,H,xE ?_ λO c e=>?_,L⟩),I,p _$ j.aI.fresh AK⟩;have:=N.1;simp only[θ,eE];lia;rw[Δ]at e;let⟨f,g,I⟩:=Υ.J e;have h:O<G.L:=by rw[N.1,<-A];exact(φ.J g).1
 let⟨i,m,n,l⟩:=N.2 O _ (aN h);let⟨q,k,r⟩:=C5 u g;rw[n]at k;cases k;calc⟨_,by rw[gA];calc aN h,G3 l⟩
def Yv(a:TE):TE:=aps (∃g h,e=V.ref g/\auK/\∀l,ME f->d CG (ø f l (AQ ((h.q (·.2))))))
def Yw{p g:vB}(j:NT)(l:Gl a "list")(n:hm (a.mg "list"))(o:EC m c)(b:AN (œ m "values") (AN (rw m))=AN (rw m):=by rfl)(f:(h.bS==e.line)=Z:=by rfl)(i:NY [auI [] [] e]=[(gl,aqa$ auI [] [] e)]:=by rfl):EC (GJ (.bv "list" p) [auI [] [] e] [] g)$ Yv c:=by
 intro q s t u x y A;calc bb$ qs y l n ÿ ?_;calc ż ?_ i I;rw[i];show apv (spliced [(gl,aqa$ auI [] [] e)]);calc c_ ?_;calc g_ (T:="dict") (id:="dict.values") b I f F.cV F.ce F.dL$ ay (IL (PN (o q) _)) (λ B D⟨G,H,J,L,N,O,x,s,u⟩=>?_);subst x;obtain I:B=ge.ref N:=L;let⟨z,y,A,G,B⟩:=Xq J.aI s;let⟨L,x⟩:=O6 B;have s:O.length=A.length:=Ñ G;calc⟨B.aB,B.ev.noDict,?_⟩;have L:ú a q t H {D with AL:=D.v.push {BY:=.au "dict_values",BX:=.bP #[.ref N]}}:=J.fT (t':=D.aG) λA q u=>GO u;show ga û (jb e (.aq "dict.values") [.ref N] [] []) _ a.xe D;calc Ki F.ce F.dI I$ h7 ⟨I,B.aB,F.du _,_,uX N y,B.aB,?_⟩;calc fQ ?_;calc im (Q_ (PySem.W.kdl_values (r:=D.v.R.L) (d:=N)) (L.ok.hd j) ⟨⟨_,KJ,I,I⟩,x.push _⟩) λt H J A D m N=>?_;calc⟨.ref _,_,L.iB (t':=H) D AK (show PY aL _ t _ (AQ ((O.q (·.2))))from⟨RM,J.aU,A,xE ?_ λy B x=>?_,m⟩),I,u _$ L.aI.fresh AK⟩;have:=N.1;simp only[θ,eE];lia;rw[Δ]at x;let⟨q,O,I⟩:=Υ.J x;have t:y<J.L:=by rw[N.1,<-s];exact(φ.J O).1
 let⟨H,A⟩:=N.2 y J[y] (aN t);let⟨D,B,u⟩:=C5 G (k:=q.1) (v:=q.2) O;rw[A]at B;cases B;calc⟨J[y],by rw[gA];calc aN t,u⟩
def af3(b:β)(c:pi)(a:BA):It:=⟨λd e=>e b=f4 (.jt c (.dT a))/\d<a.length,λd e f g=>g=e/\∃h,a[d]? =f4 (h,f),λd e=>e b=f4 (.jt c (.dT a))/\a.length<=d⟩
def ú.Yx(e:ú a n j f o)(g:f b=f4 (.jt l (.dT p))):pr (b==Ŧ)/\o.v.ad b=XS/\l.dJ/\∃(h:FS lG) (i:M),l.bT=t3 .b0/\h.L=p.length/\∀(c:M)(d:RJ)(v:V),p[c]? =f4 (d,v)-> ∃k:lG,h[c]? =RY/\Ŗ v k.val:=by let⟨m,z,q,r,s,t,h,i,u,x,y,A,_⟩:=e.aI b _ g;rw[m]at u;cases u;calc⟨q,m,x,h,i,y,?_,λc d v B=>?_⟩;have D:=qO A;have G:=Ñ s;lia;let⟨H,J,L,N,O⟩:=Ā s B;have k:=entry_at A c;rw[J]at k;calc⟨_,k,O⟩
def Mb{P:Ĵ}{w:Ŏ}{K:Γ}{e:FS lG}(a:β)(c:l.bT=.b0 e q):IA yN K d (LB af3 p) [a] a λf g=>io g.cF f p.length q where
 mem:=mo
 obj:=λf g st h i=>by
  have j:h=a:=abj
  subst j;let⟨k,j,m,n⟩:=st;exact⟨k,j,λv z=>by rw[n]at z;cases z⟩
 keep:=λf g o st r=>st.at λk j=>JW r k j;item:=by intro X t u x y f A B D G H J L st N;let⟨O,a0⟩:=N;let⟨b0,c0,d0,f0,g0,h0⟩:=JW L;let⟨i0,j0,k0,l0,m0,n0,o0,p0⟩:=ú.Yx J O;let⟨I,I⟩:=o_ c n0;let⟨⟨r,v⟩,r0⟩:∃s0,p[f]? =f4 s0:=⟨p[f],δ a0⟩;let⟨t0,u0,v0⟩:=p0 f r v r0;calc Tb st j0 n0 o0 u0 λo w0 x0=>?_;have y0:IK (FJ A) {B with AL:=o}:=J.eX (t':=B.aG) (λh z0 i j=>(t3 x0.2).trans j) b0 c0 f0 g0 h0;let⟨k,j,m,n⟩:=id w0;exact⟨t0.val,I,CD (FF (Ge (s:={B with AL:=o}) j)) ⟨v,G,y0,v0,⟨I,r,r0⟩,w0,λh i=>(t3 L).1⟩⟩
 done:=by intro X t u x y f A B D G H J L st N;let⟨O,a0⟩:=N;let⟨b0,c0,d0,f0,g0,h0⟩:=JW L;let⟨i0,j0,k0,l0,m0,n0,o0,p0⟩:=ú.Yx J O;let⟨I,I⟩:=o_ c n0;exact Tc (J.ok.hd y) st j0 n0 o0 a0 λo k=>ln$ J.eX (t':=B.aG) (λh z0 i j=>up$ k h z0) b0 c0 f0 g0 h0
 B_:=λm f B n H st g=>abw st g
def af4(a:TE):TI:=aeE (∃f g h,d=EH/\e f=f4 (.jt g (.dT h))/\R (EU af3) e)
def Mc{g:Expr}(i:EC m c)(b:AN (œ m "values") (AN (rw m))=AN (rw m):=by rfl)(f:(h.bS==e.line)=Z:=by rfl):PI a g (auI [] [] e)$ af4 c:=by
 intro j k l n R o p;calc g_ (T:="dict") (id:="dict.values") b I f F.cV F.ce F.dL$ ay (BF (TW i n _)) (λ q r⟨s,t,u,v,x,y,A,B,D,G⟩=>?_);subst B;obtain I:q=ge.ref x:=v;let⟨H,J,L,N,O,k,n,o⟩:=ú.Yx u D;have p:r.do DJ "dict":=⟨y,J,L.1⟩;calc⟨p,λs z=>by cases z;calc⟨y,J,lv L⟩,?_⟩;have A:ú a j l t {r with AL:=r.v.push {BY:=.au "dict_values",BX:=.bP #[DJ]}}:=u.fT (t':=r.aG) λs q G=>GO G;have v:WL (Kf (wp r.v.R.L)) (PIE a j l g R) a.xe {r with AL:=r.v.push {BY:=.au "dict_values",BX:=.bP #[DJ]}}:=by calc Ma (d:=x) ⟨_,KJ,I,I⟩ (GO J) k$ C4 (tk:=r.aG) A _ (Mb _ k) ⟨_,KJ,I,?_⟩ G;rw[n]<;>rfl
 show ga û (jb e (.aq "dict.values") [DJ] [] []) _ a.xe r;calc Ki F.ce F.dI I$ h7 ⟨I,p,F.du _,_,FW uX,p,v⟩
def Td :Src (LB af3 p) p.length (λa=>RH$ .jt l$ .dT p) λc d a e=>e=a/\∃f,p[c]? =f4 (f,d):=⟨λc a g h=>⟨h,g⟩,λa h=>⟨h,AK⟩,λc a d e g h i=>i⟩
def Te{a:OV}:RL (Src (GV (Iti b))) (λc=>c b=f4 (.jt l (.dK a))) λd e c f=>∃g h v,a[d]? =f4 (h,v)/\e=FU/\UI c/\f=WH g (.c9 [kV h,v]):=⟨λd c i j=>QY i,λc j=>QY AK,λd c e f i j k=>k⟩
section
variable {e i:Expr}{acI pos:vB}{tx tv:TE}(σ:St)(H:Hp)(Q:VK)(R:GM)(D:ee)(K:Γ)
def acJ(a b c:TE):TE:=λσ H Q=>tz a λd e=>∃f g,d=EH/\e f=f4 (.dK g)/\b σ e (λh j=>c σ j λz k=>∃i,h=NM/\k f=f4 (.dK g)/\Q ((ab g$ JL XL).getD z) k)
def Tf(f:adV)(g:wE PE s)(i:CF EC)(j:EC m tx)(b:wE M2 "get" h e m acI):EC (GJ (.ao d "get" h) [e,m] [] acI)$ acJ s c tx:=by intro l n o p q r t;calc g_ b.base b.few b.line cG bQ Ei$ ay (BF (g l n) _ r t) (λ u v⟨x,y,A,B,D,G,H,J,L⟩=>?_);subst H;obtain I:u=ge.ref D:=B;let⟨N,O,_⟩:=Xy A (.D ⟨G,.D J⟩);calc⟨N,O,?_⟩;rw[b.Xx];calc da I$ g9$ c_$ ay (i l v o y _ A L) (λ q n⟨p,r,t,x,u⟩=>c_$ ay (EB (BQ (j l) r _)) (λ B D⟨z,H,v,y,A,G,J,L⟩=>fQ ?_));subst G;calc DZ (afJ f v (mU.k (k:=È A) J)) λN O q p=>⟨_,H,q,p,L⟩
def O7(a b:TE):TE:=λσ H Q=>tz a λc d=>∃e f,c=EN/\d e=f4 (.dT f)/\b σ d (λg h=>∃i j,g=OH/\h i=UJ j.q/\h e=f4 (.dT f)/\Q ((ab f j).getD .Ť) h)
def zO(f:adV)(g:wE PE s)(i:CF EC)(b:wE M1 "get" h e acI):EC (GJ (.ao d "get" h) [e] [] acI)$ O7 s c:=by intro j k l m n o p;calc g_ b.base b.few b.line cG bQ Ei$ ay (BF (TW g m _)) (λ q r⟨t,u,v,x,y,z,A,B,D⟩=>?_);subst A;obtain I:q=ge.ref y:=x;let⟨G,H,_⟩:=Xy v (.X ⟨z,.D B⟩);calc⟨G,H,?_⟩;rw[b.Xx];calc da I$ g9$ c_$ ay (i j r l u _ v D) (λ J L⟨N,O,n,k,m,o,p,t,q,x⟩=>fQ ?_);subst p;calc afI f n (mU.t q t) k λy A j l=>⟨_,O,j,l,x⟩
def Yy(a b c:TE):TS:=λD σ H=>tz c λv d=>a σ d λe f=>b σ f λg h=>∃i j k l,e=OH/\h i=f4 (.dT j)/\g=.ref k/\h k=KS (l.q kV)/\j.length<Ζ/\D.nx σ (t3 ø (.dT (aR j l v)))
def Hc:HR (Yy s c tv)=tz tv (λv a=>s σ a λb d=>c σ d λe f=>∃g h i j,b=FU/\f g=f4 (.dT h)/\e=OH/\f i=UJ j.q/\h.length<Ζ/\D.nx σ (on ø (.dT (GH aR v)))):=I
def Yz(f:adV)(g:EC m s)(j:EC i c)(k:wE PE tv)(l:asJ (ij d (f4 (.bq m i h)) pos.line)):VU (.dr [.bq m i h] d pos)$ Yy s c tv:=by intro b a0 e b0 m0 c0 d0;calc Vi (ay (k b a0 e b0 _ c0 d0) (λ n0 n⟨v,o,p,q,r⟩=>ay (g b n e o _ p r) (λ f0 t⟨o0,u,x,y,z⟩=>ay (j b t e u _ x z) (λ g0 h0⟨p0,i0,A,B,j0,O,r0,s0,D,k0,G,H,J,L⟩=>?_)))) l;subst D;subst G;obtain I:f0=ge.ref j0:=y;calc t5 f A (Cz.t k0 H J) B q λl0 N=>⟨e,_,N,L⟩
def aiD(a b:TE):TT:=λσ H R=>tz a λc d=>b σ d λe f=>∃g h i,e=FU/\auK/\c=NM/\R (ab h$ JL XL).by f
def af5(b:adV)(e:EC i c)(f:wE PE s)(g:pr (behindInMarks .In d):=by rfl):PT a (.d1 i [.In] [d] pos)$ aiD c s:=by intro h j l m n o p;calc abf (ay (BF (AE (GH e) _)) (λ q r⟨t,u,v,x,y⟩=>ay (f h r l u _ v y) (λ z A⟨B,D,G,H,J,L,N,O,n,j,m⟩=>?_))) g;subst O;subst j;obtain I:z=ge.ref J:=H;calc anb b G (mU.k (k:=È N) n) x λo p=>bH ⟨D,p,m⟩
end
def af6{X:Cx}(K:Γ)(a:X.K=K:=by rfl):Gp X "list.index"$ Xl K:=by subst a;calc Xm
def lcS{l:It}{R:DV}{g:M->V->JK Hp}{r:TG}{h:TT}{d:f8}{i:DV}(S:Src l q R g)(m:JQ)(a:M->JK V)(k:hm (f b))(n:q<Ζ)(e:∀s,Μ f s->R s)(st:∀t u v s,EB a v->SB b v s->EB a s)(o:∀x y v A,x<q->Μ f v->(∃B,v b=f4 (.Ý B))->DZ g v A->Μ v A/\IL (re (C7 r h) j b) (m x) (a x))(p:∀v D,Μ f v->v b=f4 (.Ý D)->bq (λt u=>EB a v) ((ι q).filter m) D->i v):∃W:M->JK M,(∃G,W 0 G (ø f b (AQ [])))/\ ∀x G v,W x G v->(l.mT x v/\i v)\/(l.go x v/\∃H:DV,(∀s,H s->∃J,J<G/\W (x+1) J s)/\ ∀y s,l.En x v y s->r y (Ş j d) s (λL A=>Ş L d=Ş j d/\h L A (λN O=>if N=Z then c L O (λu J=>∃B,J b=f4 (.Ý B)/\B.length<Ζ/\H (ø J b (AQ (B++[u]))))else H O))):=by
 calc⟨λx G v=>G=q-x/\x<=q/\acq f b m a x v,⟨q,mo,CY,Μ.new k,[],Α,.nil⟩,?_⟩;rintro x G v ⟨I,L,N⟩;by_cases B:x<q;calc .X ⟨S.go x v B$ e v N.1,_,λs G=>⟨_,gt,I,B,G⟩,λy A u=>?_⟩;let⟨H,O⟩:=HP (DZ o v) N.1 (by let⟨_,J,_⟩:=N.2;calc CM J) (IL (S.En x v) B (e v N.1) u);let⟨L,D,s,G⟩:=N;calc C8 k n B st ⟨L.trans H,D,LT s,bq.eI G λt z J=>ga (st t z) J H.sb⟩ O;have u:x=q:=gt
 subst u;let⟨L,D,s,G⟩:=N;calc .D ⟨S.mT v$ e v L,p v D L s G⟩
def hid(a:Hp)(b:β):Hp:=λc=>if c=b then none else JD
def iF :hm$ hid f b b:=KC
def j7{a:β}(c:b≠a):io (hid f)=f b:=hf c
def acK{a:β}{c:HO}(d:hm (f a)):hid (mt (ø f)) a=f:=by funext b;by_cases z:b=a;rw[z,iF,d];rw[j7 z,ω z]
section
variable {s':lm}
def ú.anz(c:ú a n j f o)(d:f b=f4 (.Ý x)):asw Ck a.A a.a7 o$ hid f b:=by
 calc⟨c.ok.frames,c.ok.mod,λe g h=>wn (ww$ c.bs e).1,É c.ok.Ux c.sz,c.a7,λe i=>?_,λe k h=>?_,c.jd⟩;by_cases z:e=b;rw[z];calc iF;rw[j7 z];calc(ww$ c.bs e).2;by_cases z:e=b;rw[z];calc iF;rw[j7 z];calc IO c.rx;have l:e≠b:=λz=>by rw[z,iF]at h;cases h
 rw[j7 l]at h;calc(c.aI e k h).tL (λm v _ p=>p) (λm q=>?_) λm r q=>?_;rw[j7 (λz=>by rw[z,d]at q;cases q)];calc q;rw[j7 (λz=>by rw[z,d]at q;cases q)];calc q
def ú.af8{h:VK}{d:ge}(e:ú a n j f o)(c:f b=f4 (.Ý x))(g:PY (CE a.a7) (hid f b) o (λv i=>hm (i b)->h v (ø i b (.Ý x))) d s'):EP a n j h d s':=by
 let⟨v,i,os,k,un,l,m,p⟩:=g;let⟨q,r,s,t,u⟩:=(show PY aL f o.v b _ from e.aI b _ c);have y:b∉B4 a.a7:=λA=>by have:=e.rx b A;rw[c]at this;cases this
 have B:=s4$ un.keep b _ u iF y;have D:=s4$ un.free b _ u iF;have G:∀H,hm (f H)->hm (hid f b H):=λH J=>by by_cases z:H=b;rw[z];calc iF;rw[j7 z];exact J
 have L:∀H d,f H=LJ->(∀N,d≠.Ý N)->H≠b:=λH d J O z=>by rw[z,c]at J;exact O _ (Ü J).symm
 calc e.gN ⟨v,_,os,k,⟨λH i J s A y=>un.keep H i J (G H s) A y,λH i J s A y=>un.Bz H i J (G H s) A y,λH i J s y=>?_,un.there,λH N J=>?_,λH i u J=>?_,λH k J=>?_⟩,λH u J=>?_,m,p D⟩;have O:H≠b:=λz=>by rw[z,c]at s;cases s
 rw[ω O];calc un.free H i J (G H s) y;have O:=FZ$ L H _ J;rw[ω O];calc un.F8 H N (by rw[j7 O];calc J);have O:=FZ$ L H _ J;rw[ω O];calc un.yK H i u (by rw[j7 O];calc J);have O:=FZ$ L H _ J;rw[ω O];calc un.yL H k (by rw[j7 O];calc J);by_cases z:H=b;rw[z,Α]at J;cases J;rw[z];calc⟨q,r,s,t,B⟩;rw[ω z]at J;calc(l H u J).tL (λA v _ g=>g) (λA m=>?_) λA N m=>?_;rw[ω$ ρ m D];calc m;rw[ω$ ρ m D];calc m
end
section
variable {k:M}{ps:CJ}{sp:Sp}{x:ï}{p:vB}{e:Expr}{es:GL}{t:TA}
def af9(a:Sp)(b:TA):TE:=λc d e=>re b λf g=>∃h i,g h=f4 (.Ý i)/\a f (ww hid) (λv j=>hm (j h)->e v (ø j h (.Ý i))) E0
def af_(F:asw zM k x ps sp)(d:dC q a.A)(f:XU (e::es) t)(g:k<=q:=by decide)(i:Gl a x:=by rfl)(b:pr (x==ZF):=by decide)(j:NY (e::es)=(gl,AN$ rw e)::NY es:=by rfl)(c:pr ((aG h$ NY es).any (·.1)):=by rfl):KH (GJ (.bv x p) (e::es) [])$ af9 sp t:=by
 let⟨l,m,F,n,o,r⟩:=F;intro s u v y z A B;calc bb$ ry A i n ?_ b;calc MB$ eS A.ok.mod.kin o$ ay (HP (f h s u v y _)) (λ D G⟨H,J,L,N,O,l,m,z⟩=>wn L.yu);have n:D.length=ps.length:=by rw[<-N.length];exact EY F.len z
 calc Kg$ kj (ga (F.J7 a.A a.a7 G) D H _ E0 (d.hT g) (L.anz m) ?_ N z) λN o s=>?_;have:=r G D L.yu (by rw[Đ];calc n);rwa [Đ]at this;cases N with
 |error e=>calc s.elim
 |ok u=>cases u with
  |UE v=>calc L.af8 m s
  |next=>calc š s
  |UF=>calc š s
  |UD=>calc š s
end
end L2
namespace Sq
open PySem L2 PySem.W
variable{u:ř}{c x:ï}{m:β}{i:M}{o:CJ}{v:Do}{d:Ch wr}{a:Cx}{f p:TE}{e h y:vB}{b j:Expr}{q:TA}{z:HC}{B:IX}
section
def anA{K:Frag}{mg:Do}{b:U}{a:SV}(X:K.In u)(d:u.Ns ţ mg)(e:nsIn K ţ c=YY (sK .int)):∃a,mg c=f4 (sK .int):=⟨a,s3$ mg_of X⟩
def aga{K:Frag}{b:g3}{c:RD}{a:YJ}{d:FS WA}(l:K.E m=f4 ⟨ado,c,IP .seq,d⟩)(z:a.L<=Ζ)(v:Ĺ b a.aU)(e:Hp):Lg K e m b:=.X ⟨_,_,_,l,I,I,z,v⟩
section
local macro_rules | `(tactic| o_headS $_) => `(tactic| assumption)
def kk(_:î.Holds):î.Holds:=by k_headS
end
def aiE:vB:=⟨778,31,778,59⟩
def aiF:vB:=⟨792,31,792,70⟩
def acL:ï:=(Ρ "Session.sq_cells"++Ρ ".<locals>.")++aqp
def acM:ï:=(Ρ "Session.sq_tell"++Ρ ".<locals>.")++aqp
def jz(b:Hp)(c:β)(a:vB)(d:ï):Prop:=∃e,Db=PV .tK/\(e=#[]\/ ∃f,e=AR tri/\b f=f4 (ox f d))
def CB:β:=446
def CL:β:=332
def CS:β:=528
def CT:β:=155
def CW:β:=190
def CC:β:=106
def CQ:β:=631
def CH:β:=724
def CP:β:=679
def CI:β:=769
def CN:β:=990
def CR:β:=52
def P1:β:=933
def P2:β:=947
def tU:β:=643
def P:Ĵ:=î.prog
inductive rO(K:Frag)(vs:g3)(H:Hp)(d:VK)(e:XK):Prop|mk(a:β)(b:At):vs=[AC]->ag7 (BT b.q)->b.length<=30000->FE gY->jz H P1 aiE acL->jz H P2 aiF acM->P1≠P2->(∀l c,c l=VG (cO b)->PF CG)->SD (rO K)
structure Hy(w:Ŏ)(mg:Do)(h:ř):Prop where
 kx:ahy.In h
 g:h.Ns ţ mg
def Fin(w:Ŏ)(mg:Do):Prop:=∀a:ř,vP a mg->IA zM ahy mg a 103 "answers" ["calls"] (rO ahy)
abbrev E3:=Ŏ×Do×ř
instance:Nonempty E3:=⟨⟨λ_ _=>0,{strHash:=λ_=>0,shareClass:=λ_=>0,mergeTok:=id,idOf:=λ_=>0,idOfShared:=λ_ _=>0,followText:=KY,idOfImm:=λ_=>0}⟩,λ_=>none,default⟩
noncomputable def e0:E3:=arW λa=>Hy a.1 (lv a) (wS a)/\ ¬Fin a.1 (lv a)
noncomputable def w:Ŏ:=e0.1
noncomputable def mg:Do:=lv e0
noncomputable def K:Frag:=ahy
def Ĭ:Prop:=Hy w mg$ wS e0
abbrev _root_.L2.ĭ.P{st:eD}(_:ED c st o)(a:ř)(d:M)(b:Sp):Prop:=wE (zM Sq.P w K mg) c o b
abbrev _root_.L2.ş.P{C:β}{st:eD}(_:ş K C c x st o)(a:ř)(d:M)(b:Sp):Prop:=wE (Lz Sq.P w K mg) C c o b
abbrev _root_.L2.gP.P{C:β}{st:eD}(_:ak0 C c x st o)(a:ř)(d:M)(b:Sp):Prop:=wE (MkC Sq.P w K mg) C c o b
def agb(c:Ĭ->Fin w mg){a:Ŏ}(b:Hy a v u):Fin a v:=Κ λd=>have e:=arX (p:=λ f:E3=>Hy f.1 (lv f) (wS f)/\ ¬Fin f.1 (lv f)) ⟨(a,v,u),b,d⟩;e.2 (c e.1)
def Ĭ.kx(a:Ĭ):K.In$ wS e0:=Hy.kx a
def Ĭ.g(a:Ĭ):(wS e0).Ns ţ mg:=Hy.g a
def al0(b:d [])(a:wr)(c:a.length=0):d a:=by cases a with
|nil=>calc b
|cons e a=>calc kt c$ abz _
def alS(c:∀e a,a.length=i->d (e::a))(a:wr)(b:a.length=i+1):d a:=by cases a with
|nil=>calc DM b.symm$ abz _
|cons e a=>calc c e a$ zd b
def al1(a:∀b,d [b]):∀c:wr,c.length=1->d c:=akI al0
def al2(a:∀b c,d [b,c]):∀e:wr,e.length=2->d e:=akI al1
def al3(a:∀b c e,d [b,c,e]):∀f:wr,f.length=3->d f:=akI al2
def al4(a:∀b c e f,d [b,c,e,f]):∀g:wr,g.length=4->d g:=akI al3
def al5(a:∀b c e f g,d [b,c,e,f,g]):∀h:wr,h.length=5->d h:=akI al4
def al6(a:∀b c e f g h,d [b,c,e,f,g,h]):∀i:wr,i.length=6->d i:=akI al5
def al7(a:∀b c e f g h i,d [b,c,e,f,g,h,i]):∀j:wr,j.length=7->d j:=akI al6
local macro_rules | `(tactic| walk_at "bnd") => `(tactic| first | exact (fun _ _ _ _ _ _ => al1 fun _ => rfl) | exact (fun _ _ _ _ _ _ => al2 fun _ _ => rfl) | exact (fun _ _ _ _ _ _ => al3 fun _ _ _ => rfl) | exact (fun _ _ _ _ _ _ => al4 fun _ _ _ _ => rfl) | exact (fun _ _ _ _ _ _ => al5 fun _ _ _ _ _ => rfl) | exact (fun _ _ _ _ _ _ => al6 fun _ _ _ _ _ _ => rfl) | exact (fun _ _ _ _ _ _ => al7 fun _ _ _ _ _ _ _ => rfl))
local macro_rules | `(tactic| walk_at "cl") => `(tactic| (unfold K; (first | unfold CB | unfold CL | unfold CS | unfold CT | unfold CW | unfold CC | unfold CQ | unfold CH | unfold CP | unfold CI | unfold CN | unfold CR); refine' ⟨?c1, ?c2, ?c3, ?c4⟩ <;> k_is))
local macro_rules | `(tactic| walk_at "no") => `(tactic| (unfold Ğ K; (first | unfold CB | unfold CL | unfold CS | unfold CT | unfold CW | unfold CC | unfold CQ | unfold CH | unfold CP | unfold CI | unfold CN | unfold CR); k_is))
theorem kCB:MS CB:=UG
def kCL:MS CL:=UG
def kCS:MS CS:=UG
def kCT:MS CT:=UG
def kCW:MS CW:=UG
def kCC:MS CC:=UG
def kCQ:MS CQ:=UG
def kCH:MS CH:=UG
def kCP:MS CP:=UG
def kCI:MS CI:=UG
def kCN:MS CN:=UG
def kCR:MS CR:=UG
local macro_rules | `(tactic| walk_at "kc") => `(tactic| first | exact kCB | exact kCL | exact kCS | exact kCT | exact kCW | exact kCC | exact kCQ | exact kCH | exact kCP | exact kCI | exact kCN | exact kCR)
local macro_rules | `(tactic| walk_at "tx") => `(tactic| (constructor <;> first | walk_at "kc" | walk_at "no"))
set_option hygiene false in
local macro_rules | `(tactic| walk_at "all") => `(tactic| ((case a => k_is); (try case i => k_is); (case l => k_is); (case c => k_is); (case k => k_is); (case b => walk_at "bnd")))
set_option hygiene false in
local macro_rules | `(tactic| walk_at "fn") => `(tactic| (have KX : (kk.heap_1 w.params).In e0.2.2 := yy.kx; have G := yy.g; unfold K; refine' Yf KX G ?b ?a ?l ?c ?k; walk_at "all"))
set_option hygiene false in
local macro_rules | `(tactic| walk_at "mk") => `(tactic| (have KX : (kk.heap_1 w.params).In e0.2.2 := yy.kx; have G := yy.g; unfold K; (first | unfold CB | unfold CL | unfold CS | unfold CT | unfold CW | unfold CC | unfold CQ | unfold CH | unfold CP | unfold CI | unfold CN | unfold CR); refine' Yh KX G ?aC ?mk ?kc ?b ?a ?i ?l ?c ?k; (case aC => k_is); (case mk => k_is); (case kc => k_is); walk_at "all"))
set_option hygiene false in
local macro_rules | `(tactic| walk_at "cg") => `(tactic| (have KX : (kk.heap_1 w.params).In e0.2.2 := yy.kx; have G := yy.g; refine' anA KX G ?a; (case a => k_is)))
set_option hygiene false in
local macro_rules | `(tactic| walk_at "nb") => `(tactic| (have KX : (kk.heap_1 w.params).In e0.2.2 := yy.kx; have G := yy.g; refine' mg_none_of KX G ?a; (case a => k_is)))
set_option hygiene false in
local macro_rules | `(tactic| walk_at "mt") => `(tactic| (unfold K; (first | unfold CB | unfold CL | unfold CS | unfold CT | unfold CW | unfold CC | unfold CQ | unfold CH | unfold CP | unfold CI | unfold CN | unfold CR); refine' Yg (by walk_at "kc") ?b ?a ?i ?l ?c ?k; walk_at "all"))
set_option hygiene false in
local macro_rules | `(tactic| walk_at "ml") => `(tactic| (unfold K CN; (first | unfold P1 | unfold P2); refine' S6 (by walk_at "kc") ?b ?a ?i ?l ?c ?k ?hd; (case hd => kernel_rfl); walk_at "all"))
section
variable(yy:Ĭ)
include yy
def Tg:∃a,mg "SQ_START"=KZ 1:=KR
def acN:∃a,mg "SQ_SET"=KZ 2:=KR
def Y3:∃a,mg "SQ_LOAD"=KZ 3:=KR
def Y4:∃a,mg "SQ_GIVE"=KZ 4:=KR
def zP:∃a,mg "SQ_CELLS"=KZ 5:=KR
def Th:∃a,mg "SQ_COUNT"=KZ 6:=KR
def Y5:∃a,mg "SQ_TELL"=KZ 7:=KR
def acO:∃a,mg "SQ_MAY"=KZ 8:=KR
def Ti:∃a,mg "SQ_SPARE"=KZ 9:=KR
def Tj:∃a,mg "SQ_STEPS"=KZ 10:=KR
def Y6:∃a,mg "DONE"=OA (.int 0):=KR
def t_:∃a,mg "WRONG"=KZ (-1):=KR
def agd:∃a,mg "TWICE"=KZ (-2):=KR
def Hd:∃a,mg "NO_FILLING"=KZ (-3):=KR
def iG:∃a,mg "NO_SQUARE"=KZ (-4):=KR
def Y7:∃a,mg "NO_ROOM"=KZ (-6):=KR
def Md:∃a,mg "MOST_ROOM"=KZ 1048576:=KR
def yU:∃a,mg "MOST_COUNTED"=KZ 1000000:=KR
def Dd:∃a,mg "LAST_NUMBER"=KZ 1000000:=KR
def He:∃a,mg "MOST_KNOWN"=KZ 100000:=KR
def qA:∃a,mg "PRIME"=KZ 2305843009213693951:=KR
def Hf:mg "UNIT_WORDS"=AT tU:=by(have a:ahy.In _:=yy.kx;have b:=yy.g;calc io mg_of (by k_is))
end
structure Blt:Prop where
 range:QC "range"
 list:QC "list"
 len:QC "len"
 set:QC "set"
 any:QC "any"
 all:QC "all"
def uP(yy:Ĭ):Blt:=⟨QS,QS,QS,QS,QS,QS⟩
structure Blu:Prop extends Blt where
 bG:QC "enumerate"
 zip:QC "zip"
 tuple:QC "tuple"
 age:QC "sorted"
 str:QC "str"
 min:QC "min"
 abs:QC "abs"
 ord:QC "ord"
def bu(yy:Ĭ):Blu:=⟨uP yy,QS,QS,QS,QS,QS,QS,QS,QS⟩
structure acP(R:β):Prop where
 cl:MS R
 nCa:GD R "calls"
 Ep:GD R "place"
 len:QC "len"
def tR(yy:Ĭ):acP CR:=⟨kCR,by walk_at "no",by walk_at "no",QS⟩
structure anC:Prop where
 clB:MS CB
 clL:MS CL
 aiG:GD CB "layout"
 Ep:GD CB "places"
 nWa:GD CB "wants"
 nSt:GD CB "stands"
 nOp:GD CB "open_cells"
 nCk:GD CB "checked"
 nN:GD CL "n"
 nEv:GD CL "every_cell"
 nUs:GD CL "unit_sets"
 nCr:GD CL "crowded"
 nUl:GD CL "unlinked"
theorem tB:anC:=XO
structure anD:Prop where
 cl:MS CC
 nS:GD CC "search"
 nB:GD CC "board"
 nK:GD CC "kinds"
 nC:GD CC "changeable"
 nH:GD CC "shown"
theorem tC:anD:=XO
structure aiI:Prop where
 nb:GD CP "__bool__"
 nl:GD CP "__len__"
def tPB:aiI:=XO
structure anE:Prop where
 cl:MS CI
 nW:GD CI "word"
 nC:GD CI "cell_sets"
def tI:anE:=XO
structure anF:Prop where
 cl:MS CS
 nP:GD CS "plain_layout"
 nL:GD CS "layout"
 nK:GD CS "known"
def tS:anF:=XO
structure anG:Prop where
 cl:MS CN
 nS:GD CN "square"
def tN:anG:=XO
structure anH:Prop where
 cl:MS CH
 nN:GD CH "n"
 nUs:GD CH "unit_sets"
 nUl:GD CH "unlinked"
 nOp:GD CH "open_cells"
 nDg:GD CH "digits"
 Ep:GD CH "places"
 nSt:GD CH "stands"
def tH:anH:=XO
structure anI:Prop where
 cl:MS CQ
 nN:GD CQ "n"
 nU:GD CQ "units"
 nG:GD CQ "givens"
 nL:GD CQ "layout"
 nS:GD CQ "search"
def tQ:anI:=XO
structure anJ:Prop where
 cl:MS CP
 nL:GD CP "line"
 nP:GD CP "puts"
 nS:GD CP "losses"
def tP:anJ:=XO
structure anK:Prop where
 clT:MS CT
 clW:MS CW
 nB:GD CT "board"
 nC:GD CT "cell"
 nU:GD CT "untried"
 nS:GD CW "search"
 nA:GD CW "ahead"
 nT:GD CW "turns"
def tW:anK:=XO
def pS(yy:Ĭ):ED "step_across" (Œ 84) ["sheet","size","lines","crossing"]:=wP
def uY:HB CB "bar" "Board.bar" (QE 2) ["self","digit","cell"]:=BM
def jA:HB CB "digits_at" "Board.digits_at" (QE 9) ["self","cell"]:=BM
def kS:HB CB "pin_down" "Board.pin_down" (QE 7) ["self","pins"]:=BM
def uZ:HB CB "key" "Board.key" (QE 8) ["self"]:=BM
def jB:HB CB "find_pins" "Board.find_pins" (QE 6) ["self"]:=BM
def kU(yy:Ĭ):ak0 CB "Board" "Board.__init__" (QE 0) ["self","layout","places","wants","stands","open_cells","checked"]:=UH
def iH:HB CB "with_digit" "Board.with_digit" (QE 1) ["self","digit","cell"]:=BM
def kW:HB CB "put_lone" "Board.put_lone" (QE 5) ["self","lone"]:=BM
def oA:HB CB "settle" "Board.settle" (QE 4) ["self"]:=BM
def kX(yy:Ĭ):ED "cells_with_two" (Œ 52) ["board"]:=wP
def kY(yy:Ĭ):ED "narrowest_cell" (Œ 55) ["board","cells"]:=wP
def rP(yy:Ĭ):ED "two_places" (Œ 54) ["board"]:=wP
def mj(yy:Ĭ):ED "step_bytes" (Œ 100) ["square"]:=wP
def jC(yy:Ĭ):ED "kinds_of_digits" (Œ 4) ["board"]:=wP
def u_(yy:Ĭ):ED "digit_set" (Œ 5) ["shown","cell"]:=wP
def iI(yy:Ĭ):ak0 CC "Chances" "Chances.__init__" (JU 3 0) ["self","search","board"]:=UH
def oB:HB CC "note" "Chances.note" (JU 3 3) ["self","filled"]:=BM
def iJ:HB CC "rule_out" "Chances.rule_out" (JU 3 4) ["self","alike","cell"]:=BM
def f6:HB CC "show_places" "Chances.show_places" (JU 3 2) ["self","alike"]:=BM
def iK:HB CC "show_all" "Chances.show_all" (JU 3 1) ["self"]:=BM
def gR:HB CC "digit_sets" "Chances.digit_sets" (JU 3 5) ["self"]:=BM
def f7(yy:Ĭ):ED "answer_about_givens" (Œ 123) ["session","reader","call"]:=wP
def e6(yy:Ĭ):ED "answer_about_fillings" (Œ 124) ["session","reader","call"]:=wP
def pT(yy:Ĭ):ED "answer_next" (Œ 122) ["session","reader"]:=wP
def zQ(yy:Ĭ):ED "answers" (Œ 121) ["calls"]:=wP
def kZ(yy:Ĭ):ED "lines_with_few" (Œ 85) ["places","size","lines","crossing"]:=wP
def xF(yy:Ĭ):ED "board_of" (Œ 11) ["square"]:=wP
def k3(yy:Ĭ):ED "count_fillings" (Œ 12) ["square","most"]:=wP
def mD(yy:Ĭ):ED "filling_bytes" (Œ 13) ["square","number"]:=wP
def iL(yy:Ĭ):ED "chance_bytes" (Œ 14) ["square"]:=wP
def mE(yy:Ĭ):ED "can_be_spared" (Œ 16) ["square","cell"]:=wP
def j8(yy:Ĭ):ED "spare_bytes" (Œ 15) ["square"]:=wP
def rQ(yy:Ĭ):ED "first_step" (Œ 104) ["sheet"]:=wP
def jD(yy:Ĭ):ED "digits_of_group" (Œ 95) ["sheet","group"]:=wP
def va(yy:Ĭ):ED "groups_in" (Œ 94) ["sheet","cells","size"]:=wP
def oC(yy:Ĭ):ED "losing_cells" (Œ 98) ["losses"]:=wP
def jE(yy:Ĭ):ED "losses_to_group" (Œ 96) ["sheet","others","digits"]:=wP
def rR(yy:Ĭ):ED "group_step" (Œ 93) ["sheet","size"]:=wP
def jF(yy:Ĭ):ak0 CQ "Square" "Square.__init__" (JU 70 0) ["self","n","diagonals","region"]:=UH
def k4(yy:Ĭ):ak0 CH "Sheet" "Sheet.__init__" (JU 80 0) ["self","square"]:=UH
def oD(yy:Ĭ):ED "linked_cells" (Œ 45) ["cell","unit_sets"]:=wP
def jG(yy:Ĭ):ED "cells_of_others" (Œ 48) ["givens","digit"]:=wP
def jH(yy:Ĭ):ak0 CL "Layout" "Layout.__init__" (JU 42 0) ["self","n","unit_sets","crowded"]:=UH
def vb(yy:Ĭ):ED "layout_of" (Œ 43) ["n","units"]:=wP
def vc(yy:Ĭ):ED "line_step" (Œ 82) ["sheet","size"]:=wP
def k5(yy:Ĭ):ak0 CI "Lines" "Lines.__init__" (JU 83 0) ["self","word","cell_sets"]:=UH
def iM:HB CI "lines_with" "Lines.lines_with" (JU 83 1) ["self","cells"]:=BM
def k6:HB CI "cells_of" "Lines.cells_of" (JU 83 2) ["self","places"]:=BM
def rS:HB CI "told" "Lines.told" (JU 83 3) ["self","places"]:=BM
def vd(yy:Ĭ):ED "cell_name" (Œ 75) ["n","cell"]:=wP
def rT(yy:Ĭ):ED "cell_names" (Œ 76) ["n","cells"]:=wP
def ve(yy:Ĭ):ED "unit_name" (Œ 77) ["n","place"]:=wP
def gS:HB CR "take_number" "Reader.take_number" (é (Œ 1) 2) ["self"]:=BM
def jI:HB CR "has_more" "Reader.has_more" (é (Œ 1) 1) ["self"]:=BM
def jJ(yy:Ĭ):ak0 CR "Reader" "Reader.__init__" (é (Œ 1) 0) ["self","calls"]:=UH
def iN:HB CR "take_list" "Reader.take_list" (é (Œ 1) 3) ["self"]:=BM
def vf(yy:Ĭ):ED "next_step" (Œ 102) ["sheet"]:=wP
def vg(yy:Ĭ):ED "last_line" (Œ 103) ["sheet"]:=wP
def rV(yy:Ĭ):ED "step_lines" (Œ 101) ["sheet"]:=wP
def pU(yy:Ĭ):ED "branches_at" (Œ 53) ["board","cell"]:=wP
def pV(yy:Ĭ):ED "branches_of" (Œ 51) ["board"]:=wP
def jK(yy:Ĭ):ak0 CS "Search" "Search.__init__" (JU 58 0) ["self","layout"]:=UH
def jL:HB CS "remember" "Search.remember" (JU 58 4) ["self","key","told"]:=BM
def iO(yy:Ĭ):ak0 CN "Session" "Session.__init__" (SI 0) ["self"]:=UH
def iP:HB CN "sq_start" "Session.sq_start" (SI 1) ["self"]:=BM
def k7:HB CN "sq_set" "Session.sq_set" (SI 2) ["self","n","diagonals","region"]:=BM
def fK:HB CN "give_instead" "Session.give_instead" (SI 11) ["self","cells"]:=BM
def jM:HB CN "sq_load" "Session.sq_load" (SI 3) ["self","cells"]:=BM
def jN:HB CN "sq_give" "Session.sq_give" (SI 4) ["self","row","column","digit"]:=BM
def iQ:HB CN "sq_count" "Session.sq_count" (SI 6) ["self","most"]:=BM
def oE:HB CN "tell" "Session.tell" (SI 12) ["self","room","bytes_about"]:=BM
def k8:HB CN "sq_may" "Session.sq_may" (SI 8) ["self","room"]:=BM
def iR:HB CN "sq_spare" "Session.sq_spare" (SI 9) ["self","room"]:=BM
def iS:HB CN "sq_steps" "Session.sq_steps" (SI 10) ["self","room"]:=BM
def qB:xA K CN "sq_cells" "Session.sq_cells" (SI 5) ["self","room"] P1:=by walk_at "ml"
def rW:xA K CN "sq_tell" "Session.sq_tell" (SI 7) ["self","k","room"] P2:=by walk_at "ml"
def mF(yy:Ĭ):ED "shared_by_two" (Œ 92) ["sheet","one","other"]:=wP
def hC(yy:Ĭ):ED "shared_cells_step" (Œ 91) ["sheet"]:=wP
def f9:HB CH "candidates_of" "Sheet.candidates_of" (JU 80 4) ["self","cell"]:=BM
def vh:HB CH "put" "Sheet.put" (JU 80 1) ["self","digit","cell"]:=BM
def fL:HB CH "has_no_filling" "Sheet.has_no_filling" (JU 80 3) ["self"]:=BM
def zR(yy:Ĭ):ED "is_room" (Œ 25) ["room"]:=wP
def rX(yy:Ĭ):ED "told_bytes" (Œ 26) ["numbers","room"]:=wP
def mG(yy:Ĭ):ED "can_be_square" (Œ 69) ["n","diagonals","region"]:=wP
def et:HB CQ "is_digit_or_none" "Square.is_digit_or_none" (JU 70 2) ["self","digit"]:=BM
def iT:HB CQ "has_place" "Square.has_place" (JU 70 1) ["self","row","column"]:=BM
def gT:HB CQ "givens_with" "Square.givens_with" (JU 70 4) ["self","row","column","digit"]:=BM
def f_:HB CQ "can_be_cells" "Square.can_be_cells" (JU 70 3) ["self","cells"]:=BM
def e7:HB CQ "replace_givens" "Square.replace_givens" (JU 70 5) ["self","cells"]:=BM
def k9:HB CB "standing" "Board.standing" (QE 10) ["self"]:=BM
def k_(yy:Ĭ):ED "starting_board" (Œ 47) ["layout","givens"]:=wP
def mH(yy:Ĭ):ak0 CP "Step" "Step.__init__" (JU 79 0) ["self","line","puts","losses"]:=UH
def xG(yy:Ĭ):ED "put_step" (Œ 89) ["sheet","digit","cell","reason"]:=wP
def gb(yy:Ĭ):ED "lone_candidate_step" (Œ 87) ["sheet"]:=wP
def jO(yy:Ĭ):ED "lone_place_step" (Œ 88) ["sheet"]:=wP
def rY:HB CH "take" "Sheet.take" (JU 80 2) ["self","step"]:=BM
def rZ(yy:Ĭ):ED "told_group" (Œ 97) ["sheet","place","group","losses","digits"]:=wP
def zS(yy:Ĭ):ED "add_new" (Œ 34) ["found","unit"]:=wP
def mI(yy:Ĭ):ED "add_with_twin" (Œ 33) ["found","unit_sets","cell","twin"]:=wP
def zT(yy:Ĭ):ED "without" (Œ 39) ["row","solved","cell"]:=wP
def r3(yy:Ĭ):ED "difference" (Œ 38) ["n","unit","other"]:=wP
def zU(yy:Ĭ):ED "inverse" (Œ 40) ["number"]:=wP
def lg(yy:Ĭ):ED "in_other_cells" (Œ 36) ["n","reduced","cell"]:=wP
def gc(yy:Ĭ):ED "reduced_differences" (Œ 37) ["n","unit_sets"]:=wP
def pW(yy:Ĭ):ED "twins_among" (Œ 35) ["n","unit_sets"]:=wP
def jP(yy:Ĭ):ED "sets_with_twins" (Œ 32) ["n","unit_sets"]:=wP
def hE(yy:Ĭ):ED "layout_with_twins" (Œ 44) ["layout"]:=wP
def oF:HB CS "start" "Search.start" (JU 58 1) ["self","givens"]:=BM
def mJ(yy:Ĭ):ak0 CT "Turn" "Turn.__init__" (JU 8 0) ["self","board"]:=UH
def jQ:HB CT "next_board" "Turn.next_board" (JU 8 1) ["self"]:=BM
def mK(yy:Ĭ):ak0 CW "Walk" "Walk.__init__" (JU 9 0) ["self","search","number"]:=UH
def gU:HB CW "first_filling" "Walk.first_filling" (JU 9 1) ["self","board"]:=BM
def r4:HB CW "climb" "Walk.climb" (JU 9 2) ["self"]:=BM
def iU(yy:Ĭ):ED "filling_numbered" (Œ 7) ["search","board","number"]:=wP
def To(yy:Ĭ):ED "rows_of" (Œ 61) ["n"]:=wP
def De(yy:Ĭ):ED "columns_of" (Œ 62) ["n"]:=wP
def r5(yy:Ĭ):ED "cells_of_region" (Œ 64) ["number","region"]:=wP
def Df(yy:Ĭ):ED "regions_of" (Œ 63) ["n","region"]:=wP
def xH(yy:Ĭ):ED "diagonals_of" (Œ 65) ["n"]:=wP
def Me(yy:Ĭ):ED "units_of" (Œ 60) ["n","diagonals","region"]:=wP
def ua(yy:Ĭ):ED "unit_has_twice" (Œ 67) ["unit","cells"]:=wP
def qC(yy:Ĭ):ED "some_digit_twice" (Œ 66) ["units","cells"]:=wP
def zV(yy:Ĭ):ED "bits_of" (Œ 28) ["places"]:=wP
def vi(yy:Ĭ):ED "places_in" (Œ 29) ["bits"]:=wP
def vj:HB CB "put" "Board.put" (QE 3) ["self","digit","cells"]:=BM
def b7:HB CS "count_up_to" "Search.count_up_to" (JU 58 2) ["self","board","most"]:=BM
def bR:HB CS "find_filling" "Search.find_filling" (JU 58 3) ["self","board"]:=BM
def hX(yy:Ĭ):ED "choices_of" (Œ 72) ["things","size"]:=wP
def Mf:g3:=[HS "row",HS "column",HS "region",HS "diagonal"]
def uT:∀a:Hp,Lg K a tU Mf:=by(unfold K tU;refine' aga ?l ?z ?v;(case l=>k_is);(case z=>(decide));(case v=>calc KU EJ$ KU EJ$ KU EJ$ UX EJ))
section
variable {l:Expr}
def Ø(d:io PE f)(g:AN (lf œ) ajI=ajI:=by rfl)(h:KI:=by rfl):EC (lf .ao e)$ KL$ ab2 K:=by rw[<-h];calc DR qu
def ŀ(d:EC j f)(g:io PE p)(i:asJ (ij b (f4 (FM (.ao j))) e.line):=by rfl)(k:KI:=by rfl):VU (zn (.dr [FM$ .ao j]))$ afo K f p c:=by rw[<-k];calc DL$ Ll d
def r6{d:px}{g:LA}(k:EC j f)(l:io PE p)(i:wE ab3 g)(m:KI:=by rfl):VU (zn (.dd (FM (.ao j)) d))$ Cj K f p g c:=by rw[<-m];calc AI zy i
def ņ(c:EC l f)(d:KI:=by rfl):io PI l$ zw K f:=by rw[<-d];calc Ca c
def lh{c:GL}{kk:M}(d:Gl a "enumerate")(f:hm (a.mg "enumerate"))(g:XU [b] q)(i:NY [b]=[(gl,ajI)]:=by rfl)(j:KI:=by rfl):PI a (.cw c kk h) (GJ (.bv "enumerate" y) [b] [] e)$ G4 K q:=by rw[<-j];calc QJ acj i
def aiJ{c:GL}{kk:M}(f:Gl a "zip")(g:hm (a.mg "zip"))(i:XU [b,j] q)(k:NY [b,j]=(gl,ajI)::NY [j]:=by rfl)(d:pr ((aG e$ NY [j]).any (·.1)):=by rfl)(l:KI:=by rfl):PI a (.cw c kk h) (GJ (.bv "zip" y) [b,j] [] e)$ ack K q:=by rw[<-l];calc on afM i k d
def dm(c:io PE f)(d:∀g,AN (Ke b) g=(do let v<-g;mY b.pos;fW [v] (amI v)):=by intros;rfl)(e:KI:=by rfl):io PT$ af1 K f:=s3$ acF K c
def j9{b:GL}{h:Uy}{n:M}(d:NT)(j:io PGs h)(f:(AN$ eP b).length=n:=by rfl)(c:hm ((AN$ eP b).cy (·.1)):=by rfl)(g:KI:=by rfl):PG a (LR .cw e)$ abS K n h:=KL (O5 K d j) g
def agf{id:HC}(k:wm z)(i:Slot z c id)(j:ap4)(l:Gp a id B)(m:io PE f)(d:AN (lf œ) ajI=ajI:=by rfl)(g:(e.bS==h.line)=Z:=by rfl)(n:KI:=by rfl):KH (GJ (lf .ao e) [] [])$ afz K z B f:=by rw[<-n];calc DR$ AE$ up$ afA k
def Dg{d:GL}{id:HC}(o:wm z)(l:Slot z c id)(n:ap4)(p:Gp a id B)(r:EC j f)(s:XU (b::d) q)(i:AN (MB œ) (AN (rw j))=AN (rw j):=by rfl)(m:((aG e$ NY (b::d)).all (λv=>! v.1)&&(fP e$ AN$ bY []).all (λv=>v.1.by)&&sB ((b::d).length+ark []+(if([]:AX m3).a2 then 0 else 1)<30))=Z:=by rfl)(k:(h.bS==e.line)=Z:=by rfl)(t:NY (b::d)=(gl,ajI)::AN (Ù d):=by rfl)(g:pr ((aG e$ AN$ Ù d).any (·.1)):=by rfl)(u:KI:=by rfl):EC (GJ (FM (.ao j)) (b::d) [] e)$ tBM K z B f q:=by rw[<-u];calc HX (ad7 o l n p) i m k t g
def agg(b:KI:=by rfl):KQ (Ź .fe)$ rIn K Z:=afR K b
def slS(b:KI:=by rfl):SlR a$ afx K:=slK K b
def agh(b:KI:=by rfl):Gp a "list.count"$ Ly K:=afS K b
def anL(b:KI:=by rfl):IxR a$ afu K:=ixT K b
def aiL(b:NT)(c:KI:=by rfl):OZ "all"$ ain K:=by rw[<-c];calc afE b
def aiM(b:NT)(c:KI:=by rfl):OZ "any"$ aeb K:=by rw[<-c];calc acz b
def aiN(b:NT)(c:KI:=by rfl):OZ "all"$ aec K:=by rw[<-c];calc acA b
def sortedS(b:KI:=by rfl):OZ "sorted"$ Om K:=by rw[<-b];calc Su
def Mg(b:g3)(a:Hp)(c:VK):Prop:=∃d e,b=[BK]/\((PQ BN/\∀l,ME a->c CG (EF ø (.c9 e)))\/(PQ (Lg K)/\c BK a))
def Hg(b:g3)(a:Hp)(c:VK):mt (Mg b)= ∃d e,b=[BK]/\((PQ BN/\∀l,ME a->c CG (EF ø (.c9 e)))\/(PQ (Lg K)/\c BK a)):=I
def Y8(b:KI:=by rfl):a9 a ado Mg:=by unfold Mg;rw[<-b];calc yQ
def Dh{b4:GL}(c:io PE f)(d:EC (.b9 .Or (j::b4) e) p)(g:KI:=by rfl):EC (.b9 .Or (b::j::b4) e)$ afX K f p:=by rw[<-g];calc re afY
end
end
end Sq
namespace Sq
open PySem L2
variable{a:Cx}
def agi:R2:=λa b c d=>b=.Ť/\PF (VH (a=.Ť))
@[simp]def anM(a b:V)(c:Hp)(d:VK):JG agi=(b=.Ť/\PF (VH (a=.Ť))):=I
def vQ:KQ (Ź .Is) agi:=afm
def Y9:R2:=λa b c d=>b=.Ť/\PF (.bl (! sB (a=.Ť)))
@[simp]def ak9(a b:V)(c:Hp)(d:VK):JG Y9=(b=.Ť/\PF (.bl (! sB (a=.Ť)))):=I
def Hh:KQ (Ź .IsNot) Y9:=abX
def aef(a:g3)(b:Hp)(c:VK):Prop:=∃d e,a=[OR,SA]/\c (AB (if e<d then e else d)) b
def aiO(b:NT):OZ "min" aef:=Sl b
def aiP(a:g3)(b:Hp)(c:VK):Prop:=∃d,a=[OR]/\c (AB (if d<0 then-d else d)) b
def anN:OZ "abs" aiP:=Xa
def aeg(a:g3)(b:Hp)(c:VK):Prop:=∃d e,a=[V.ref d]/\Fk=PV .dT/\c (AB e.length) b
def aiQ:OZ "len" aeg:=S_
def O8(c:V)(a:g3)(b:Hp)(d:VK):Prop:=∃e f,c=V.ref e/\a=[]/\EV=f4 (.dT f)/\d .Ť (zn ø (.dT []))
def acQ:Gp a "dict.clear" O8:=Ta
def O9(b:V)(a:g3)(c:Hp)(d:VK):Prop:=∃e:U,b=SA/\a=[]/\PF (AD (dW e))
def acR:Gp a "int.bit_length" O9:=S7
def Y_(a:TJ):TE:=λb c d=>lf a qM d
@[simp]def ak_(b:TJ)(a:St)(c:Hp)(d:VK):TY (Y_ b)=mt b qM d:=I
def pX{d e:Expr}{b:GL}{f:TJ}{c:vB}(g:PJ a (OP b) f):EC (.JoinedStr (OP b) c)$ Y_ f:=acy g
end Sq
namespace L3
open PySem L2 Sq
class PB where
 p:Prop
def fz[c:PB]:Prop:=c.p
def ufz{P:Prop}(a:P):@fz ⟨P⟩:=a
def noF{fs:ES}{a:ï}(b:hm (fs.E a)):hu fs a:=b
structure Fa(C:β)(f:ï):Prop where
 c:MS C
 n:GD C f
def uc(b:VK)(a:Hp)(c:HO):Prop:=∀l,ME a->b CG (EF ø c)
def kSm(a:VK)(b:Hp):Ch ut|DE=>a v b|none=>DN
section
variable(i j:M)(σ:St)(H:Hp)(Q:VK)(R:GM)(D:ee)(v x y z:V)(ta tb tc te tv:TE)(t u:TT)(ts us:TS)(tr:TA)(g:TG)(gs:Uy)(f m:ï)(C:β)(sp:Sp)(E:XK)(b:nm)(LQ:GW)(n N:v6)(xs:g3)(HQ:DV)(ti:Gb)(r:R2)(r1:V->VT VK)(rl:RO)(rm:IX)(rs:tM)
@[ext]def asd:GR (tC v)=Q v H:=I
def kOp(c:R2)(a:TE)(b:St)(d:VK):VK:=λx e=>zn a λy f=>DZ c f d
def agj(a:R2)(b:V)(c:VK):VK:=λy d=>DB$ JC y
@[ext]def aqn:GR (UA (tOp r))=akY (kOp r tb):=I
@[ext]def aqo:FW (NE (kOp r tb))=tz tb (agj r x Q):=I
@[ext]def anO:agj r x Q y H=HD (DZ r):=I
def kUn(a:V->VT VK)(b:VK):VK:=λx c=>Ev$ a x
@[ext]def aqq:GR (tUn r1 ta)=WK (kUn r1 Q):=I
@[ext]def aqr:FW (kUn r1 Q)=FW r1 Q:=I
@[ext]def aeh(a:U->U->V)(b c:U):HD (Cc a LZ On)=Q (lf a) H:=I
@[scoped simp]def ase(P:U->Ch U)(c:U->U->V)(a b:U):HD (rI P c KM LZ)=(io P/\@fz ⟨Q (io c) H⟩):=AV ⟨λ⟨_,_,d,e,f,g⟩=>by cases d;cases e;calc⟨f,g⟩,λg=>⟨a,b,I,I,g.1,g.2⟩⟩
@[ext]def aqs(P:U->Ch U)(c:U->U->V)(a b:U)(d:io P):HD (rI P c KM LZ)=Q (io c) H:=AV ⟨λ⟨_,_,e,f,_,g⟩=>by cases e;cases f;calc g,λg=>⟨a,b,I,I,d,g⟩⟩
@[ext]def asf(a:U->V)(b:U):HD (rU a LZ)=Q JC H:=I
@[ext]def aqt(a b:U):HD (rEq KM LZ)=Q (VH NJ) H:=AV ⟨λ⟨_,c⟩=>Re,λc=>ln Re⟩
@[scoped simp high]def aqu(a b:U):HD (rEq KM LZ)=Q (VH NJ) H:=AV ⟨λ⟨_,c⟩=>Re,λc=>ln Re⟩
@[scoped simp high]def anP(a:U):HD (rEq .Ť KM)=Q SO H:=AV ⟨λ⟨_,b⟩=>arD,λb=>ln arD⟩
@[ext]def aqv(a b:U):HD (rNe KM LZ)=Q (.bl (! sB NJ)) H:=AV ⟨λ⟨_,c⟩=>Re,λc=>ln Re⟩
def kT(R:GM):VK:=tBl R
@[ext]def ala:tz (W6 te) R=ahZ (kT R):=I
@[ext]def ash:kT R (.bl b) H=R b H:=I
def agk(R:GM):VK:=λx H=>∃a,JY (W7 K x)/\R a H
@[ext]def anQ:tz (af1 K te) R=ahZ (agk R):=I
@[ext]def alb:agk R (.bl b) H=R b H:=AV ⟨λ⟨_,a,c⟩=>by cases a;calc c,λc=>⟨b,I,c⟩⟩
@[ext]def alc(a:U):agk R KM H=R (a !=0) H:=AV ⟨λ⟨_,b,c⟩=>by cases b;calc c,λc=>⟨_,I,c⟩⟩
def Tp(b:TT)(a:St)(R:GM):GM:=λc H=>if c=Z then b a H R else HA R H
@[ext]def anR:tz (EB ah1) R=tz t apk:=I
@[ext]def ald:apk Z H=tz u R:=I
@[scoped simp high]def ale:apk Z H=tz u R:=I
@[ext]def alf:HA apk H=HA R H:=I
@[scoped simp high]def alg:HA apk H=HA R H:=I
@[scoped simp]def anS:apk b H=if b=Z then@fz ⟨tz u R⟩else@fz ⟨HA R H⟩:=I
def kOr(b:TT)(a:St)(R:GM):GM:=λc H=>if c=Z then R Z H else b a H R
@[ext]def aqw:tz (EB tOr) R=tz t (kOr u σ R):=I
@[scoped simp high]def anU:kOr u σ R Z H=R Z H:=I
@[scoped simp high]def anV:HA (kOr u σ R) H=tz u R:=I
def aiS(R:GM):GM:=λa b=>R (! a) b
@[ext]def anW:tz (ah2 t) R=tz t (aiS R):=I
@[ext]def anY:aiS R b H=R (! b) H:=I
def Tq(c d:TS)(e:ee)(a:St):GM:=λb f=>if b=Z then AR (c e) else AR (d e)
@[ext]def Za:HR (Wu t ts us)=tz t ap6:=I
@[ext]def alh:ap6 Z H=HR ts:=I
@[scoped simp high]def ali:ap6 Z H=HR ts:=I
@[ext]def alj:HA ap6 H=HR us:=I
@[scoped simp high]def alk:HA ap6 H=HR us:=I
@[scoped simp]def anZ:ap6 b H=if b=Z then@fz ⟨HR ts⟩else@fz ⟨HR us⟩:=I
def kIf(c d:TE)(a:St)(e:VK):GM:=λb f=>if b=Z then AR c e else AR d e
@[ext]def aqx:GR (UA (tIf t))=tz t (NE (UA kIf)):=I
@[ext]def an0:NE (UA kIf) Z H=GR ta:=I
@[scoped simp high]def an1:NE (UA kIf) Z H=GR ta:=I
@[ext]def an2:HA (NE (UA kIf)) H=GR tb:=I
@[scoped simp high]def an3:HA (NE (UA kIf)) H=GR tb:=I
def O_(a:TE)(b:St)(c:VK):VK:=λx d=>∃e,x=.bl e/\if e=Z then v4 a c else c SO d
@[ext]def alm:GR (UA ad1)=akY (O_ tb):=I
@[scoped simp high]def aiU:NE (O_ tb) (.bl Z) H=GR tb:=AV ⟨λ⟨_,a,b⟩=>by cases a;calc b,λb=>⟨_,I,b⟩⟩
@[ext]def aiV:NE (O_ tb) SO H=Q SO H:=AV ⟨λ⟨_,a,b⟩=>by cases a;calc b,λb=>⟨_,I,b⟩⟩
@[scoped simp high]def aiW:NE (O_ tb) SO H=Q SO H:=AV ⟨λ⟨_,a,b⟩=>by cases a;calc b,λb=>⟨_,I,b⟩⟩
def eNx(a:v6)(b:ee):ee:={b with nx:=a}
@[ext]def aln:HR ad2=tz D.nx:=I
@[ext]def aqy:(eNx n D).nx=n:=I
@[ext]def aqz:(eNx n D).rt=D.rt:=I
@[ext]def Mh:HR (afc ts us)=tz (ts (eNx (us D) D)):=I
def aei(b:v6)(a:St):VK:=λ_ c=>mt b
@[ext]def alo:HR (ad3 te)=ahZ (aei D.nx σ):=I
@[ext]def alp:FW (aei n σ)=tz n:=I
@[ext]def an4:HR (afd te)=ahZ D.rt:=I
def aiY(b:TG)(a:St)(c:v6):VK:=λx d=>wE (b x) c
@[ext]def an5:HR (abT te g)=ahZ (aiY g σ D.nx):=I
@[ext]def an6:FW (HZ (aiY g))=tz (g x) n:=I
def aiZ(a:ï)(b:VK):VK:=λx c=>∃d C e fs v,x=BK/\HU=JX (DH e)/\MS C/\GD C a/\fs.E a=DE/\IQ b
@[ext]def an7:GR (ab2 K ta f)=WK (aiZ f Q):=I
@[ext]def aqA:agK kSm DE=Q v H:=I
@[scoped simp high]def aqB:agK kSm DE=Q v H:=I
@[ext]def an8{b C a:β}{fs:ES}(c:arQ)(d:Fa C f):aiZ f Q AZ H=agK kSm (fs.E f):=by calc AV ⟨λ⟨e,g,h,i,j,k,l,_,_,m,n⟩=>?_,λn=>?_⟩;cases k;rw[c]at l;cases l;rw[m];calc n;cases o:fs.E f with
|none=>rw[o]at n;calc n.elim
|some v=>rw[o]at n;calc⟨b,C,a,fs,v,I,c,d.c,d.n,o,n⟩
def aej(b:TE)(c:ï)(a:St)(d:v6):VK:=λy e=>AM b λx f=>∃g C h fs,x=FU/\f g=JX (DH h)/\MS C/\GD C c/\ans/\d a (on ø (DH h (aM c y fs)))
def Mi(b:ï)(a:St)(c:v6)(d:V):VK:=λx e=>∃f C g fs,x=EH/\e f=JX (DH g)/\MS C/\GD C b/\ans/\c a (py ø (DH g (v4 aM fs)))
@[ext]def an9:HR (afo K ta tv f)=tz tv (aej ta f σ D.nx):=I
@[ext]def alq:HZ (aej ta f) y H=WK (HZ (Mi f) y):=I
@[ext]def ĕ{b C a:β}{fs:ES}(c:arQ)(d:Fa C f)(l:ans):HZ (Mi f) y AZ H=n σ (JT ø (DH a (aM f y fs))):=by calc AV ⟨λ⟨e,g,h,i,j,k,_,_,_,m⟩=>?_,λm=>⟨b,C,a,fs,I,c,d.c,d.n,l,m⟩⟩;cases j;rw[c]at k;cases k;calc m
def ai0(b:TE)(c:LA)(d:ï)(a:St)(e:v6):VK:=λx f=>∃g C h fs v,x=FU/\f g=JX (DH h)/\MS C/\GD C d/\fs.E d=DE/\AR b (λy i=>c v y i λz j=>∃k l,j g=f4 (AI DH)/\Id l.length/\e a (ø j g (DH k (aM d z l))))
def Zb(a:LA)(d:ï)(b:St)(e:v6)(c C:β)(v:V):VK:=λy f=>a v y f λz g=>∃h i,g c=f4 (t3 DH)/\Id i.length/\e b (ø g c (DH h (aM d z i)))
def aek(c:ï)(a:St)(d:v6)(b C:β):VK:=λz e=>∃f g,e b=f4 (on DH)/\Id g.length/\d a (ø e b (DH f (aM c z g)))
@[ext]def ahj:HR (Cj K ta tv r f)=WK (ai0 tv r f σ D.nx):=I
def ai1(b:TE)(c:LA)(d:ï)(a:St)(e:v6)(f C:β)(g:Hp):Ch ut|DE=>b a g$ py (re Zb a) C v|none=>DN
@[scoped simp high]def an_(a:β):HZ (ai1 tv r f) a C H DE=tz tv (HZ (Zb r f) a C v):=I
@[ext]def aoa{b C a:β}{fs:ES}(c:arQ)(d:Fa C f):HZ (ai0 tv r f) AZ H=HZ (ai1 tv r f) b C H (fs.E f):=by calc AV ⟨λ⟨e,g,h,i,j,k,l,_,_,m,o⟩=>?_,λo=>?_⟩;cases k;rw[c]at l;cases l;rw[m];calc o;cases p:fs.E f with
|none=>rw[p]at o;calc o.elim
|some v=>rw[p]at o;calc⟨b,C,a,fs,v,I,c,d.c,d.n,p,o⟩
@[ext]def alr(a:β):HZ (Zb r f) a C v y H=r v y H (HZ (aek f) a C):=I
@[ext]def als{b a:β}{fs:ES}(c:arQ)(l:ans):HZ (aek f) b C z H=n σ (JT ø (DH a (aM f z fs))):=by calc AV ⟨λ⟨d,e,g,_,h⟩=>?_,λh=>⟨a,fs,c,l,h⟩⟩;rw[c]at g;cases g;calc h
@[ext]def aob:tz Lo LQ=LQ [] H:=I
def ael(a:TA)(b:St)(c:GW):VK:=λx d=>v4 a λxs e=>c (x::xs) e
def Zc(b:V)(a:GW):GW:=λxs c=>a (b::xs) c
@[ext]def alu:tz (Xe ta tr) LQ=WK (ael tr σ LQ):=I
@[ext]def alv:FW (ael tr σ LQ)=agJ (Zc x LQ):=I
@[ext]def ai2:Zc x LQ xs H=LQ (x::xs) H:=I
def aem(a:Sp)(b:VK)(c:XK):GW:=λd e=>lf$ s3 a
@[ext]def alw:GR (Oi sp [] E tr)=agJ (aem sp Q E):=GR acD tr sp E
@[ext]def alx:aem sp Q E xs H=HD (sp xs) E:=I
def Zd(C:β)(d:ï)(a:TA)(b:Sp)(e:XK)(c:St)(f:VK):VK:=λx g=>∃h i fs,x=NB/\g h=JX (DH i)/\hu fs d/\JD g (λj k=>JV$ b (x::j) k)
def Mj(b:V)(a:Sp)(c:VK)(d:XK):GW:=λe f=>re$ a (b::e) f
@[ext]def aly:GR (zz C m sp [] E ta tr)=akY (Zd C m tr sp E):=GR acE ta tr C sp m E
@[ext]def alz{b a:β}{fs:ES}(c:arQ)(l:hu fs m):NE (Zd C m tr sp E) AZ H=agJ (Mj AZ sp Q E):=by calc AV ⟨λ⟨d,e,f,g,h,_,i⟩=>?_,λi=>⟨b,a,fs,I,c,l,i⟩⟩;calc i
@[scoped simp]def alA:FW (NE (Zd C m tr sp E))= ∃a b fs,x=AC/\H a=JX (DH b)/\hu fs m/\agJ (Mj x sp Q E):=I
@[ext]def ai3:Mj x sp Q E xs H=HD (sp (x::xs)) E:=I
def Ze(C:β)(a:Sp)(b:VK)(c:XK):GW:=λd e=>∀x f,hm (e x)->hm (e f)->f≠x->a (DJ::d) (ø (py ø (.ü x)) x (DH f [])) (λv g=>UM/\b DJ g) c
def Zf(a:β)(b:VK):VK:=λv c=>UM/\b AC c
@[ext]def alB:GR (zA C sp [] E tr)=agJ (Ze C sp Q E):=GR O4 tr C sp E
@[scoped simp]def ml:Ze C sp Q E xs H=∀x a,hm (H x)->hm (H a)->a≠x->sp (DJ::xs) (ø (JY ø (.ü x)) x (DH a [])) (Zf x Q) E:=I
@[ext]def alC(a:β):Zf a Q .Ť H=Q AC H:=atL$ ln b
def kCB(a:RO)(b:VK):GW:=λc d=>re a b
@[ext]def aqC:GR (tCB rl tr)=agJ (kCB rl Q):=I
@[ext]def aqD:kCB rl Q xs H=HD (rl xs):=I
def agl(a:HC)(b:IX)(c:VK):VK:=λx d=>ZB a x d/\DB (b x [])
@[ext]def aoc(a:HC):GR (afz K a rm ta)=WK (agl a rm Q):=I
@[ext]def aod(a:HC)(b:FW (ZB a)):FW (agl a rm Q)=HD (rm x []):=atp ⟨b,c⟩
@[scoped simp]def aoe(a:HC):FW (agl a rm Q)=(FW (ZB a)/\HD (rm x [])):=I
def kBM(c:HC)(d:IX)(a:TA)(b:St)(e:VK):VK:=λx f=>ZB c x f/\JC f (λxs g=>d x xs g e)
def agm(a:IX)(b:V)(c:VK):GW:=λxs d=>DB$ JC xs
@[ext]def aqE(a:HC):GR (tBM K a rm ta tr)=akY (kBM a rm tr):=I
@[ext]def aqF(a:HC)(b:FW (ZB a)):FW (NE (kBM a rm tr))=agJ (agm rm x Q):=atp ⟨b,c⟩
@[scoped simp]def aqG(a:HC):FW (NE (kBM a rm tr))=(FW (ZB a)/\agJ (agm rm x Q)):=I
@[ext]def aog:agm rm x Q xs H=HD (rm x xs):=I
@[scoped simp 1100]def ahk{b:β}{a:g3}(c:adU):HD (Cv AZ [y])=(a.length<Ζ/\@fz ⟨Q .Ť$ JT ø$ AQ (a++[y])⟩):=AV ⟨λ⟨l,d,e,f,g,h,i,j⟩=>by cases f;cases g;rw[c]at h;cases h;calc⟨i,j⟩,λj=>⟨b,a,y,I,I,c,j.1,j.2⟩⟩
@[ext]def agn{b:β}{a:g3}(c:adU)(d:a.length<Ζ):HD (Cv AZ [y])=Q .Ť (JT ø (AQ (a++[y]))):=AV ⟨λ⟨l,e,f,g,h,i,_,j⟩=>by cases g;cases h;rw[c]at i;cases i;calc j,λj=>⟨b,a,y,I,I,c,d,j⟩⟩
@[ext]def aoh{c:β}{a:g3}(d:H c=OA .Ý)(b:U):HD (afZ CO LZ)=agK kSm (io Eo):=by calc AV ⟨λ⟨e,f,g,v,h,i,j,k,l⟩=>?_,λl=>?_⟩;cases h;cases i;rw[d]at j;cases j;rw[k];calc l;cases m:io Eo with
|none=>rw[m]at l;calc l.elim
|some v=>rw[m]at l;calc⟨c,a,b,v,I,I,d,m,l⟩
@[ext]def alD{b:β}{a:g3}(c:adU):HD (aed [AZ])=Q (AB a.length) H:=AV ⟨λ⟨d,e,f,g,h⟩=>by cases f;rw[c]at g;cases g;calc h,λh=>⟨b,a,I,c,h⟩⟩
@[ext]def ai4{b:β}{a:g3}(c:adU):HD (Yq [AZ])=agK uc (.Ý a):=AV ⟨λ⟨d,e,f,g,h⟩=>by cases f;rw[c]at g;cases g;calc h,λh=>⟨b,a,I,c,h⟩⟩
@[ext]def hY{b:β}{a:g3}(d:adU)(c:U)(e:RL Gn c=ak6):Ol AZ On z H HQ=HQ (JT ø (AQ (a.set j z))):=AV ⟨λ⟨f,g,h,i,k,l,m,n,o⟩=>by cases k;cases l;rw[d]at m;cases m;rw[e]at n;cases n;calc o,λo=>⟨b,a,c,j,I,I,d,e,o⟩⟩
@[ext]def aoi{b:β}{a:g3}(c:adU)(d:a[a.length-1]? =DE):HD (aik AZ [])=Q v (JT ø (AQ a.dropLast)):=AV ⟨λ⟨e,f,g,h,_,i,j,k⟩=>by cases h;rw[c]at i;cases i;rw[d]at j;cases j;calc k,λk=>⟨b,a,v,I,I,c,d,k⟩⟩
def aen(b:TE)(c:tM)(v:V)(a:St)(d:v6):VK:=λe f=>AR b λi g=>IO c v g λh=>FV d
def Zg(a:tM)(v:V)(b:St)(c:v6)(d:V):VK:=λi e=>MY i v e λf=>DA c
def kHp(a:St)(b:v6):DV:=λH=>b a H
@[ext]def aok:tz (UA ah3 rs v) n=WK (HZ (aen tb rs v)):=I
@[ext]def alE:FW (HZ (aen tb rs v))=tz tb (HZ (Zg rs v) x):=I
@[ext]def ai5:DZ (HZ (Zg rs v)) H=DZ rs v H (HZ kHp):=I
@[ext]def aqH:HZ kHp H=tz n:=I
def Hi(c:M)(a:St)(b:Gb)(d:V)(e:v6):VK:=λy f=>Fk y f λz g=>e (a.set c (f4 z)) g
def Ml(b:M)(a:St)(c:v6):VK:=λz d=>c (a.set b (f4 z)) d
def ud(a:σ[i]? =f4 XV):HR (Gd i te ti)=ahZ (Hi i σ ti x D.nx):=by calc AV ⟨λ⟨b,c,d⟩=>?_,λd=>⟨x,a,d⟩⟩;rw[a]at c;cases c;calc d
@[ext]def aol:Hi i σ ti x n y H=DZ ti H (HZ (Ml i)):=I
def ai6(e f:TE)(a:LA)(d:Gb)(b:tM)(c:St)(g:v6):VK:=λh j=>DX e λi k=>t3 a k λx l=>f c l λy m=>DZ d m λz n=>t3 b z n λo=>g c o
def ai7(e:TE)(a:LA)(c:Gb)(b:tM)(d:St)(g:v6)(f:V):VK:=λi h=>DF a h λx j=>e d j λy k=>DZ c k λz l=>DF b z l λm=>g d m
def ai8(d:TE)(b:Gb)(a:tM)(c:St)(e:v6)(f g:V):VK:=λx h=>FM d λy i=>DZ b i λz j=>on a z j λk=>e c k
def ai9(b:Gb)(a:tM)(c:St)(d:v6)(e f g:V):VK:=λy h=>MM y h λz i=>py a z i λj=>DX d
def ai_(a:tM)(b:St)(c:v6)(d e:V):VK:=λz f=>s3 a z f λg=>c b g
@[ext]def alF:HR (UA ad4 te r ti rs)=WK (ai6 tb te r ti rs σ D.nx):=I
@[ext]def aom:FW (HZ (ai6 tb te r ti rs))=tz tb (HZ (ai7 te r ti rs) x):=I
@[ext]def aon:asC (ai7 te r ti) H=DZ r H (asC (ai8 te ti)):=I
@[ext]def aoo:asC (ai8 te ti) z H=ahZ (asC (ai9 ti) z):=I
@[ext]def aop:asC (ai9 ti) z v H=ti z v H (asC ai_):=I
@[ext]def aoq:asC ai_ z H=DZ rs z H (HZ kHp):=I
def acS(a:VK):GW:=λxs b=>xs.length<=Ζ/\∀c,hm Db->a CO (UR (AQ xs))
@[ext]def aor:GR (aib tr)=agJ (acS Q):=I
def ago(a:VK):GW:=λxs b=>xs.length<=Ζ/\∀c,hm Db->a CO (UR (.c9 xs))
@[ext]def aos:GR (aia tr)=agJ (ago Q):=I
@[ext]def alG:acS Q [] H=agK uc (AQ []):=atM ⟨DU,a⟩
@[ext]def alH(a:V):acS Q [a] H=agK uc (AQ [a]):=atL ⟨by show 1<=QW;decide,b⟩
@[ext]def alI(a b:V):acS Q [a,b] H=agK uc (AQ [a,b]):=atp ⟨by show 2<=QW;decide,c⟩
@[ext]def alJ(a b:V):ago Q [a,b] H=agK uc (.c9 [a,b]):=atp ⟨by show 2<=QW;decide,c⟩
@[ext]def alL(a b c:V):ago Q [a,b,c] H=agK uc (.c9 [a,b,c]):=AV ⟨λd=>d.2,λd=>⟨by show GT 3;decide,d⟩⟩
@[ext]def aot:HD (agi x .Ť)=Q (VH (x=.Ť)) H:=atM$ ln a
@[ext]def alM:HD (Y9 x .Ť)=Q (.bl (! sB (x=.Ť))) H:=atM$ ln a
@[ext]def alN(a b:U):HD (aef [KM,LZ])=Q (AB (if b<a then b else a)) H:=AV ⟨λ⟨_,_,c,d⟩=>by cases c;calc d,λd=>⟨a,b,I,d⟩⟩
@[ext]def aou(a:U):HD (aiP [KM])=Q (AB (if a<0 then-a else a)) H:=AV ⟨λ⟨_,b,c⟩=>by cases b;calc c,λc=>⟨a,I,c⟩⟩
@[ext]def ahl(a:U):HD (O9 KM [])=Q (AD (dW a)) H:=AV ⟨λ⟨_,b,_,c⟩=>by cases b;calc c,λc=>⟨a,I,I,c⟩⟩
@[ext]def alO(a:TJ):GR (Y_ a)=tz a qM Q:=I
def agp(a:VK):VK:=λx b=>(∃i:U,x=NM/\i.a4.cg<1920/\a (HS (ag_ i)) b)\/ ∃y:ï,x=.str y/\y.length<=Ζ/\a (.str y) b
@[ext]def aov:GR (aiA te)=ahZ (agp Q):=I
@[scoped simp high]def alP(a:U)(b:a.a4.cg<1920):agp Q KM H=Q (HS (ag_ a)) H:=AV ⟨(λc=>by rcases c with⟨_,d,_,e⟩|⟨_,d,_,e⟩<;>cases d;calc e),λe=>.D ⟨a,I,b,e⟩⟩
@[scoped simp high]def alQ(a:ï)(b:a.length<=Ζ):agp Q (.str a) H=Q (.str a) H:=AV ⟨(λc=>by rcases c with⟨_,d,_,e⟩|⟨_,d,_,e⟩<;>cases d;calc e),λe=>.X ⟨a,I,b,e⟩⟩
def kJ1(b:TJ)(c:St)(a:ï)(d:VK):VK:=λx e=>∃y,x=.str y/\YG (a++y)/\AH b (a++y) d
@[ext]def aqJ(a:TJ)(b:ï):tz (tJ1 te a) b Q=ahZ (kJ1 a σ b Q):=I
@[scoped simp high]def aqK(a:TJ)(c b:ï)(d:YG (c++b)):kJ1 a σ c Q (.str b) H=tz a (c++b) Q:=AV ⟨λ⟨_,e,_,f⟩=>by cases e;calc f,λf=>⟨b,I,d,f⟩⟩
@[scoped simp high]def aqL(a:ï)(b:a.length<=Ζ):tz tJ0 a Q=Q (.str a) H:=AV ⟨λc=>c.2,λd=>⟨b,d⟩⟩
def kC1(f b:R2)(c d:TE)(a:St)(e:VK):VK:=λx g=>c a g λy h=>DZ f h λz i=>∃j,z=.bl j/\(if j=Z then IP d (λw k=>b y w k e) else e SO i)
def kC2(e a:R2)(b:TE)(c:St)(d:VK)(f:V):VK:=λy g=>e f y g λz h=>∃i,z=.bl i/\(if i=Z then Db h (λw j=>a y w j d) else d SO h)
def kC3(a:R2)(b:TE)(c:St)(d:VK)(e:V):VK:=λz f=>∃g,z=.bl g/\(if g=Z then Db f (λw h=>a e w h d) else d SO f)
@[ext]def aja(a:R2):GR (UA (Li r a) tc)=akY (kC1 r a tb tc):=I
@[ext]def aqO(a:R2):FW (NE (kC1 r a tb tc))=tz tb (NE (kC2 r a tc) x):=I
@[ext]def aqP(a:R2):DZ (NE (kC2 r a tc)) H=DZ r H (NE (kC3 a tc) y):=I
@[scoped simp high]def aox:NE (kC3 r tc) y (.bl Z) H=tz tc (agj r y Q):=AV ⟨λ⟨_,a,b⟩=>by cases a;calc b,λb=>⟨_,I,b⟩⟩
@[scoped simp high]def aoy:NE (kC3 r tc) y SO H=Q SO H:=AV ⟨λ⟨_,a,b⟩=>by cases a;calc b,λb=>⟨_,I,b⟩⟩
def ajb(a:TE)(b:St)(c:VK):VK:=λx d=>v4 a λy e=>∃f g i v,x=EH/\e f=f4 (.dK g)/\y=NM/\ab g (JL XL)=DE/\c v e
def ajc(a:V)(b:VK):VK:=λy c=>∃d e i v,a=BK/\HU=PV .dK/\y=NM/\ab e (JL XL)=DE/\IQ b
@[ext]def ajd:GR (UA Yr)=akY (ajb tb):=I
@[ext]def aoz:FW (NE (ajb tb))=tz tb (ajc x Q):=I
@[ext]def aoA{b:β}{a:OV}(d:aow)(c:U):ajc AZ Q On H=agK kSm (ab a (JL (È c))):=by calc AV ⟨λ⟨e,f,g,v,h,i,j,k,l⟩=>?_,λl=>?_⟩;cases h;cases j;rw[d]at i;cases i;rw[k];calc l;cases m:ab a _ with
|none=>rw[m]at l;calc l.elim
|some v=>rw[m]at l;calc⟨b,a,c,v,I,d,I,m,l⟩
def aje(b c:TE)(a:St)(d:v6):VK:=λv e=>AM b λx f=>AR c λy g=>∃h j i,x=NB/\g h=f4 (.dK j)/\y=NM/\j.length<Ζ/\d a (ww ø (NF (aR j (JL XL) v)))
def ajf(b:TE)(a:St)(c:v6)(v:V):VK:=λx d=>wE b λy e=>∃f g i,x=EH/\e f=f4 (.dK g)/\y=NM/\g.length<Ζ/\c a (py ø (NF (aR g (JL XL) v)))
def ajg(a:St)(b:v6)(v c:V):VK:=λy d=>∃e f i,c=EN/\d e=f4 (.dK f)/\y=NM/\f.length<Ζ/\b a (s3 ø (NF (aR f (JL XL) v)))
@[ext]def ajh:HR (UA Ys tv)=tz tv (UA aje σ D.nx):=I
@[ext]def aoB:HZ (UA aje) v H=WK (HZ (ajf tb) v):=I
@[ext]def aoC:FW (HZ (ajf tb) v)=tz tb (GY (HZ ajg)):=I
@[ext]def aoD{b:β}{a:OV}(d:aow)(c:U)(e:a.length<Ζ):HZ ajg v AZ On H=n σ (JT ø (NF (aR a (JL (È c)) v))):=AV ⟨λ⟨f,g,h,i,j,k,_,l⟩=>by cases i;cases k;rw[d]at j;cases j;calc l,λl=>⟨b,a,c,I,d,I,e,l⟩⟩
def aji(b c:TE)(d:LA)(a:St)(e:v6):VK:=λx f=>AR b λy g=>∃h j i v,x=NB/\g h=f4 (.dK j)/\y=NM/\ab j (JL XL)=DE/\c a g (λk l=>AI (d v) λz m=>∃n,m h=f4 (.dK n)/\n.length<Ζ/\e a (ø m h (NF (aR n (JL XL) z))))
def ajj(b:TE)(c:LA)(a:St)(d:v6)(e:V):VK:=λy f=>∃g h i v,e=FU/\auK/\y=NM/\ab h (JL XL)=DE/\AR b (λj k=>AS (c v) λz l=>∃m,l g=f4 (.dK m)/\m.length<Ζ/\d a (ø l g (NF (aR m (JL XL) z))))
def ajk(a:LA)(b:St)(d:v6)(c:β)(e:U)(v:V):VK:=λf g=>on (a v) λz h=>∃i,h c=f4 (.dK i)/\i.length<Ζ/\d b (ø h c (NF (aR i (JL (È e)) z)))
def ajl(a:St)(c:v6)(b:β)(d:U):VK:=λz e=>∃f,e b=f4 (.dK f)/\f.length<Ζ/\c a (ø e b (NF (aR f (JL (È d)) z)))
@[ext]def ajm:HR (UA Yt tv r)=WK (aji tb tv r σ D.nx):=I
@[ext]def aoE:FW (HZ (aji tb tv r))=tz tb (HZ (ajj tv r) x):=I
@[ext]def aoF{b:β}{a:OV}(d:aow)(c:U)(e:ab a (JL (È c))=DE):HZ (ajj tv r) AZ On H=tz tv (lf (HZ (ajk r)) v):=AV ⟨λ⟨f,g,h,i,j,k,l,m,o⟩=>by cases j;cases l;rw[d]at k;cases k;rw[e]at m;cases m;calc o,λo=>⟨b,a,c,v,I,d,I,e,o⟩⟩
@[ext]def aoG(a:β)(b:U):io (HZ (ajk r)) v y H=r v y H (io (HZ ajl)):=I
@[ext]def aoH{b:β}{a:OV}(c:aow)(d:U)(e:a.length<Ζ):v4 (HZ ajl) z H=n σ (JT ø (NF (aR a (JL (È d)) z))):=AV ⟨λ⟨f,g,_,h⟩=>by rw[c]at g;cases g;calc h,λh=>⟨a,c,e,h⟩⟩
def kG1(a:TE)(c:St)(d:VK):VK:=λx e=>∃f g,x=EH/\e f=f4 (.dT g)/\AH a (λy h=>∃b i,y=AZ/\h b=UJ i.q/\h f=f4 (.dT g)/\d ((DL ab).getD .Ť) h)
def kG2(c:β)(a:BA)(d:VK):VK:=λy e=>∃b f,y=AZ/\e b=UJ f.q/\e c=OA .dT/\d ((AR ab).getD .Ť) e
@[ext]def ahm:GR (UA O7)=akY (kG1 tb):=I
@[ext]def aqS{b:β}{a:BA}(c:H b=OA .dT):NE (kG1 tb) AZ H=tz tb (sK kG2 Q):=AV ⟨λ⟨d,e,f,g,h⟩=>by cases f;rw[c]at g;cases g;calc h,λh=>⟨b,a,I,c,h⟩⟩
@[ext]def aqT{e c:β}{a:BA}{b:RJ}(f:H c=UJ b.q)(d:H e=OA .dT):kG2 e a Q CO H=Q ((io ab).getD .Ť) H:=AV ⟨λ⟨g,h,i,j,k,l⟩=>by
 cases i;rw[f]at j;have m:b.q kV=h.q kV:=by injection j with j;injection j
 have:=ga (jW _ (λn o z=>by cases n<;>cases o<;>cases z<;>rfl)) m;rw[this];calc l,λl=>⟨c,b,I,f,d,l⟩⟩
def kG(a:Uy)(b:g3)(c:v6):v6:=λσ H=>tz JC c
@[ext]def alR:tz (Wv g gs (v::xs)) n=tz (g v) (kG gs xs n):=tz O3 g gs v xs n
@[ext]def asi:tz (kG gs xs n)=tz (gs xs) n:=I
@[ext]def aoI:tz (afg []) n=tz n:=tz Yo n
@[ext]def alT(v:V)(a:St)(b:Hp)(c:VK):lf (Le 0 (GA a))=c v b:=AV ⟨λ⟨_,d,e⟩=>by cases d;calc e,λe=>⟨v,I,e⟩⟩
@[ext]def ajn(c:ut)(v:V)(a:St)(b:Hp)(P:v6):fG 0 v (c::a) b P=P (GA a) b:=I
@[ext]def alU(c:ut)(v:V)(a:St)(b:Hp)(P:v6):Ml 0 (c::a) P v b=P (GA a) b:=I
@[ext]def alV(d:V)(a:St)(e:Hp)(b:TE)(c:Gb)(f:ee):lf (Gd 0) f (LJ::a) e=b (LJ::a) e (re (Hi 0 (LJ::a)) f.nx):=apw
@[ext]def alW(a:ut)(v:V)(b:St)(c:Hp)(d:VK):re (Le 1 (a::GA b))=IQ d:=AV ⟨λ⟨_,e,f⟩=>by cases e;calc f,λf=>⟨v,I,f⟩⟩
@[ext]def ajo(a:ut)(d:ut)(v:V)(b:St)(c:Hp)(P:v6):fG 1 v (a::d::b) c P=P (a::GA b) c:=I
@[ext]def alX(a:ut)(d:ut)(v:V)(b:St)(c:Hp)(P:v6):IQ (Ml 1 (a::d::b) P)=P (a::GA b) c:=I
@[ext]def alY(a:ut)(e:V)(b:St)(f:Hp)(c:TE)(d:Gb)(g:ee):re (Gd 1) g (a::HH::b) f=c (a::HH::b) f (s3 (Hi 1 (a::HH::b)) g.nx):=apw
@[ext]def alZ(a b:ut)(v:V)(c:St)(d:Hp)(e:VK):s3 (Le 2 (UO (GA c)))=e v d:=AV ⟨λ⟨_,f,g⟩=>by cases f;calc g,λg=>⟨v,I,g⟩⟩
@[ext]def ajp(a b:ut)(e:ut)(v:V)(c:St)(d:Hp)(P:v6):fG 2 v (UO (e::c)) d P=P (UO (GA c)) d:=I
@[ext]def al8(a b:ut)(e:ut)(v:V)(c:St)(d:Hp)(P:v6):Ml 2 (UO (e::c)) P v d=P (UO (GA c)) d:=I
@[ext]def al9(a b:ut)(f:V)(c:St)(g:Hp)(d:TE)(e:Gb)(h:ee):s3 (Gd 2) h (UO (MO::c)) g=d (UO (MO::c)) g (py (Hi 2 (UO (MO::c))) h.nx):=apw
@[ext]def al_(a b c:ut)(v:V)(d:St)(e:Hp)(f:VK):py (Le 3 (GB (GA d)))=f v e:=AV ⟨λ⟨_,g,h⟩=>by cases g;calc h,λh=>⟨v,I,h⟩⟩
@[ext]def ajq(a b c:ut)(f:ut)(v:V)(d:St)(e:Hp)(P:v6):fG 3 v (GB (f::d)) e P=P (GB (GA d)) e:=I
@[ext]def ama(a b c:ut)(f:ut)(v:V)(d:St)(e:Hp)(P:v6):Ml 3 (GB (f::d)) P v e=P (GB (GA d)) e:=I
@[ext]def amb(a b c:ut)(g:V)(d:St)(h:Hp)(e:TE)(f:Gb)(i:ee):py (Gd 3) i (GB (HK::d)) h=e (GB (HK::d)) h (on (Hi 3 (GB (HK::d))) i.nx):=apw
@[ext]def amc(a b c d:ut)(v:V)(e:St)(f:Hp)(g:VK):on (Le 4 (GB (d::GA e)))=g v f:=AV ⟨λ⟨_,h,i⟩=>by cases h;calc i,λi=>⟨v,I,i⟩⟩
@[ext]def ajr(a b c d:ut)(g:ut)(v:V)(e:St)(f:Hp)(P:v6):fG 4 v (GB (d::g::e)) f P=P (GB (d::GA e)) f:=I
@[ext]def amd(a b c d:ut)(g:ut)(v:V)(e:St)(f:Hp)(P:v6):Ml 4 (GB (d::g::e)) P v f=P (GB (d::GA e)) f:=I
@[ext]def ame(a b c d:ut)(h:V)(e:St)(i:Hp)(f:TE)(g:Gb)(j:ee):on (Gd 4) j (GB (d::OE::e)) i=f (GB (d::OE::e)) i (ww (Hi 4 (GB (d::OE::e))) j.nx):=apw
@[ext]def ajs(a b c d e:ut)(h:ut)(v:V)(f:St)(g:Hp)(P:v6):fG 5 v (GB (OP (h::f))) g P=P (GB (OP (GA f))) g:=I
@[ext]def amf(a b c d e:ut)(h:ut)(v:V)(f:St)(g:Hp)(P:v6):Ml 5 (GB (OP (h::f))) P v g=P (GB (OP (GA f))) g:=I
@[ext]def amg(a b c d e:ut)(i:V)(f:St)(j:Hp)(g:TE)(h:Gb)(k:ee):ww (Gd 5) k (GB (OP (RW::f))) j=g (GB (OP (RW::f))) j (t3 (Hi 5 (GB (OP (RW::f)))) k.nx):=apw
@[ext]def ajt(a b c d e f:ut)(i:ut)(v:V)(g:St)(h:Hp)(P:v6):fG 6 v (GB (OP (f::i::g))) h P=P (GB (OP (f::GA g))) h:=I
@[ext]def aju(a b c d e f g:ut)(j:ut)(v:V)(h:St)(i:Hp)(P:v6):fG 7 v (GB (OP (f::g::j::h))) i P=P (GB (OP (f::g::GA h))) i:=I
@[ext]def ajv(a b c d e f g h:ut)(k:ut)(v:V)(i:St)(j:Hp)(P:v6):fG 8 v (GB (OP (f::g::h::k::i))) j P=P (GB (OP (f::g::h::GA i))) j:=I
@[ext]def ajw(a b c d e f g h i:ut)(l:ut)(v:V)(j:St)(k:Hp)(P:v6):fG 9 v (GB (OP (f::g::h::i::l::j))) k P=P (GB (OP (f::g::h::i::GA j))) k:=I
@[ext]def ahn(a b c d e f g h i j:ut)(m:ut)(v:V)(k:St)(l:Hp)(P:v6):fG 10 v (GB (OP (f::g::h::i::j::m::k))) l P=P (GB (OP (f::g::h::i::j::GA k))) l:=I
@[ext]def aho(b c d e f g h i j k a:ut)(n:ut)(v:V)(l:St)(m:Hp)(P:v6):fG 11 v (b::anl (a::n::l)) m P=P (b::anl (a::GA l)) m:=I
@[ext]def ahp(c d e f g h i j k l a b:ut)(o:ut)(v:V)(m:St)(n:Hp)(P:v6):fG 12 v (anl (l::UO (o::m))) n P=P (anl (l::UO (GA m))) n:=I
@[ext]def ahq(d e f g h i j k l m a b c:ut)(p:ut)(v:V)(n:St)(o:Hp)(P:v6):fG 13 v (OP (f::g::h::i::j::k::l::m::GB (p::n))) o P=P (OP (f::g::h::i::j::k::l::m::GB (GA n))) o:=I
def pF(a:M):TE:=λσ H Q=>match σ[a]? with|f4 DE=>Q v H|_=>DN
def pw{X:Cx}(g:M){a:ï}{b:vB}(d:X.N[g]? =WI:=by rfl)(e:Vis X.ó.aP a:=by first|exact yq I|exact uy$ yq I|calc uy$ uy I)(f:pr (a==ZF):=by decide)(c:pr (a==FP "__classdict__"):=by decide):PE X (io .bv)$ pF g:=λh i j k l m n=>KN (FM (IH Lf)) m (by unfold pF at n;split at n;calc⟨_,‹_›,n⟩;calc n.elim)
@[ext]def amh(v:V)(a:St)(b:Hp)(c:VK):lf (pF 0 (GA a))=c v b:=I
@[ext]def ami(a:ut)(v:V)(b:St)(c:Hp)(d:VK):re (pF 1 (a::GA b))=IQ d:=I
@[ext]def amj(a b:ut)(v:V)(c:St)(d:Hp)(e:VK):s3 (pF 2 (UO (GA c)))=e v d:=I
@[ext]def amk(a b c:ut)(v:V)(d:St)(e:Hp)(f:VK):py (pF 3 (GB (GA d)))=f v e:=I
@[ext]def aml(a b c d:ut)(v:V)(e:St)(f:Hp)(g:VK):on (pF 4 (GB (d::GA e)))=g v f:=I
@[ext]def amm(a b c d e:ut)(v:V)(f:St)(g:Hp)(h:VK):ww (pF 5 (GB (OP (GA f))))=h v g:=I
@[ext]def amn(a b c d e f:ut)(v:V)(g:St)(h:Hp)(i:VK):t3 (pF 6 (GB (OP (f::GA g))))=i v h:=I
@[ext]def amo(a b c d e f g:ut)(v:V)(h:St)(i:Hp)(j:VK):up (pF 7 (GB (OP (f::g::GA h))))=j v i:=I
@[ext]def amq(a b c d e f g h:ut)(v:V)(i:St)(j:Hp)(k:VK):AS (pF 8 (GB (OP (f::g::h::GA i))))=k v j:=I
@[ext]def amr(a b c d e f g h i:ut)(v:V)(j:St)(k:Hp)(l:VK):AI (pF 9 (GB (OP (f::g::h::i::GA j))))=l v k:=I
@[ext]def ajx(a b c d e f g h i j:ut)(v:V)(k:St)(l:Hp)(m:VK):AE (pF 10 (GB (OP (f::g::h::i::j::GA k))))=m v l:=I
@[ext]def ajy(b c d e f g h i j k a:ut)(v:V)(l:St)(m:Hp)(n:VK):FF (pF 11 (b::anl (a::GA l)))=n v m:=I
@[ext]def ajz(c d e f g h i j k l a b:ut)(v:V)(m:St)(n:Hp)(o:VK):BQ (pF 12 (anl (l::UO (GA m))))=o v n:=I
@[ext]def ajA(d e f g h i j k l m a b c:ut)(v:V)(n:St)(o:Hp)(p:VK):BF (pF 13 (OP (f::g::h::i::j::k::l::m::GB (GA n))))=p v o:=I
def Zh(f:TG)(b:TS)(c:ee)(a:St)(d:It)(e:Hp):Prop:=∃W:M->MJ,(∃m,AM (W 0 m))/\ ∀i m a H,W i m a H->(d.mT i H/\c.nx a H)\/(d.go i H/\∃N:v6,(∀g h,ww N->∃j,j<m/\ww (W (i+1) j))/\ ∀x h,Ix (d.En i) h->FV (f x) (λk l=>AI$ b {c with nx:=N,ct:=N,bk:=c.nx}))
def aeo(c:TG)(a:TS)(d:ee)(b:St):VK:=λx e=>∃f,x=EH/\(∃xs,py BN xs)/\wE (Zh c) b (Ob K f) e
def aep(c:TG)(a:TS)(d:ee)(b:St):GW:=λe f=>∃g xs,e=[FU]/\on BN xs/\wE (Zh c) b (Ite K g) f
def aeq(c:TG)(a:TS)(d:ee)(b:St):GW:=λe f=>∃j:U,e=[.int j]/\ -KD<=j/\j<KD/\wE (Zh c) b (Gf 0 j.aj) f
section
variable(D:ee)(σ:St)(H:Hp)(g:TG)(tb:TS)(te:TE)(ta:TA)
@[ext]def ams:HR (Sj (zw K te) g tb)=ahZ (aeo g tb D σ):=I
@[ext]def acT:HR (Sj (G4 K ta) g tb)=WK (aep g tb D σ):=I
@[ext]def amt:HR (Sj (zx ta) g tb)=WK (aeq g tb D σ):=I
end
inductive agq(W:MJ)(m:M)(a:St)(H:Hp):Prop|mk(b:M)(h:b<m)(w:sK W H):agq W m a H
def kWh(c:TS)(W:MJ)(e:M)(d:ee)(a:St):GM:=λb f=>if b=Z then∃N:v6,(∀g h,ww N->∃i,i<e/\ww (W i))/\AR (c {d with nx:=N,ct:=N,bk:=d.nx}) else AR d.nx
section
variable(D:ee)(σ:St)(H:Hp)
end
structure LE(d:v6)(e a:ee):Prop where
 n:∀σ H,tz d->tz a.nx
 r:∀v H,e.rt v H->a.rt v H
 c:∀σ H,tz d->tz a.ct
 b:∀σ H,tz e.nx->tz a.bk
section
variable{D:ee}{σ:St}{H:Hp}{g:TG}{tb:TS}
def Zi{e:TT}{a b:TS}{c:v6}(d:tz c)(f:∀g:v6,tz g->tz (io (Wu e) (eNx g D))):tz$ io (Wu e)$ eNx c D:=re f
def wht{W:MJ}{b:M}(a:∀E:ee,LE (agq W b) D E->tz (tb E)):kWh tb W b D σ Z H:=⟨_,λ c d⟨e,f,g⟩=>⟨e,f,g⟩,a _ ⟨λ_ _ a=>a,λ_ _ a=>a,λ_ _ a=>a,λ_ _ a=>a⟩⟩
def dn{e:TT}(W:MJ)(a:M)(b:tz (W a))(c:∀a σ H(d:GM),(∀H,(∀E:ee,LE (agq W a) D E->tz (tb E))->d Z H)->(∀H,tz D.nx->d gl H)->tz (W a)->tz e d):HR$ Ww e tb:=⟨W,⟨a,b⟩,λa σ H w=>tz (c a) (kWh tb W a D σ) (λH f=>wht f) (λH f=>f) w⟩
def cD{a:β}{xs:g3}(b:ag7 xs)(Pv:MJ)(c:tz (Pv 0))(d:∀i σ H,i<=xs.length->tz (Pv i)->ag7 xs)(e:∀i x σ H E,LE (Pv (i+1)) D E->xs[i]? =XV->tz (Pv i)->tz (g x) (tb E))(f:∀σ H,ap0 (Pv xs.length)):aeo g tb D σ AC H:=⟨a,I,⟨xs,b⟩,re (rN oy Pv) (λi x σ H h j k l=>by let⟨I,l⟩:=l;calc ga (e i x σ) ⟨λ_ _ m=>m,λ_ _ m=>m,λ_ _ m=>m,λ_ _ m=>m⟩ l k) f⟩
def xI{a:β}{xs:g3}(b:ag7 xs)(Pv:MJ)(c:tz (Pv 0))(d:∀i σ H,i<=xs.length->tz (Pv i)->ag7 xs)(e:∀i v σ H h j E,LE (Pv (i+1)) D E->xs[i]? =DE->hm (H j)->EW h->h j=KS [AD i,v]->tz (Pv i)->g PX σ h (tb E))(f:∀σ H,ap0 (Pv xs.length)):aep g tb D σ [AC] H:=⟨a,xs,I,b,re (rN G_ Pv) (λi k σ H h l m n=>by let⟨j,v,I,o,I,p⟩:=n;calc ga (e i v σ) j _ ⟨aie,aie,aie,aie⟩ p o (Μ.new o) Α m) f⟩
def acU{n:M}(d:n<KD)(Pv:MJ)(a:tz (Pv 0))(b:∀(i:M) σ H E,LE (Pv (i+1)) D E->i<n->tz (Pv i)->tz (g (PD i)) (tb E))(c:∀σ H,ap0 (Pv n)):aeq g tb D σ [PD n] H:=by calc⟨n,I,gt,gt,?_⟩;calc rN pa Pv a (λ_ _ _ _ _=>CA) (λi e σ H f h j k=>by let⟨I,I⟩:=k;rw[U.b_];calc GH$ ga (b i σ) ⟨λ_ _ l=>l,λ_ _ l=>l,λ_ _ l=>l,λ_ _ l=>l⟩) c
end
def Tr(c:TE)(a:St)(d:VK)(e:DV):GM:=λb f=>if b=Z then AR c d else e f
def kLc(b:TT)(c:TE)(a:f8)(d:St)(e:VK)(f:DV):v6:=λg h=>Ş g a=EK Ş/\ww b (py (Tr c g))
def Zj(f:TG)(b:TT)(c:TE)(d:f8)(e:St)(g:VK)(h:It)(a:Hp):Prop:=s3 (lf (Lu (λ_ _ R=>R h a) f)) a g
def ajB(e:TG)(a:TT)(b:TE)(c:f8)(d:St)(f:VK):VK:=λx g=>∃h,x=NB/\(∃xs,ww BN xs)/\JG (Zj e) f (Ob K h) g
def ajC(e:TG)(a:TT)(b:TE)(c:f8)(d:St)(f:VK):GW:=λg h=>∃i xs,g=[OH]/\t3 BN xs/\JG (Zj e) f (Ite K i) h
def ajD(e:TG)(a:TT)(b:TE)(c:f8)(d:St)(f:VK):GW:=λg h=>∃j:U,g=[.int j]/\ -KD<=j/\j<KD/\JG (Zj e) f (Gf 0 j.aj) h
def wpe{b c:St}{a:f8}(d:sK Ş=AA Ş):sK Ş=AA Ş:=d
section
variable(σ σ2:St)(H:Hp)(Q Kv:VK)(g:TG)(tt:TT)(te tl:TE)(ta:TA)(vs:f8)(Ks:DV)(R:GM)(b:nm)
@[ext]def aoJ:tz Sv R=R Z H:=I
@[ext]def amv:Tr te σ Kv Ks Z H=ahZ Kv:=I
@[scoped simp high]def amw:Tr te σ Kv Ks Z H=ahZ Kv:=I
@[scoped simp high]def amx:HA (Tr te σ Kv Ks) H=Ks H:=I
@[scoped simp]def aoK:Tr te σ Kv Ks b H=if b=Z then@fz ⟨ahZ Kv⟩else@fz ⟨Ks H⟩:=I
@[ext]def aqV(a:Ş σ2 vs=Ş σ vs):kLc tt te vs σ Kv Ks σ2 H=tt σ2 H (Tr te σ2 Kv Ks):=atL ⟨a,b⟩
@[ext]def aoL:GR (ahz (Lu (zw K tl)))=tz tl (NE (ahz ajB)):=I
@[ext]def aoM:GR (ahz (Lu (G4 K ta)))=akY (ahz ajC):=I
@[ext]def ags:GR (ahz (Lu (zx ta)))=akY (ahz ajD):=I
end
section
variable{σ:St}{H:Hp}{Q:VK}{g:TG}{tt:TT}{te:TE}{vs:f8}
def G8{a:β}{xs:g3}(e:ag7 xs)(f:xs.length<Ζ)(d:JQ)(F:M->V)(h:∀i x k,xs[i]? =XV->EW k->∀(b:VK)(c:DV),(d i=Z->∀l,AI Μ->b (F i) l)->(pr (d i)-> ∀l,AI Μ->c l)->g x (Ş σ vs) k (lf (kLc tt te vs σ)))(j:∀D m,WU (EW m->m D=WC (FX xs.length d)->Q (.ref D) m)):NE (ahz ajB) AC H:=GH$ py (anu (tl:=ask) (λ_ n=>n)) d F
def lcE{j:β}{xs:g3}(d:BN H j xs)(e:xs.length<Ζ)(c:JQ)(F:M->V)(f:∀i v k l,xs[i]? =DE->EW k->k l=KS [AD i,v]-> ∀(a:VK)(b:DV),(c i=Z->∀m,Μ k m->a (F i) m)->(pr (c i)-> ∀m,Μ k m->b m)->g CG (Ş σ vs) k (io (kLc tt te vs σ)))(h:∀D n,WU (EW n->n D=WC (FX xs.length c)->Q (.ref D) n)):NE (ahz ajC) [PX] H:=GP$ s3 (anv (ta:=ask) (λ_ o=>o)) c F
end
def zW{a:M}(b:a<=16777216):a<=Ζ:=b
def Zk{a:M}(b:a<16777216):a<Ζ:=b
def af{b:VK}{a:Hp}{c:HO}(d:∀l e,ME a->AM Μ->e l=HE->b CG e):mt$ uc b:=λl f=>d l _ f (Μ.new f) Α
inductive X1{a:Type}(p:Ch a):Prop|mk(b:a)(h:p b):X1 p
inductive X2{a b:Type}(p:a->Ch b):Prop|mk(c:a)(d:b)(h:re p):X2 p
inductive X3{a b c:Type}(p:a->b->Ch c):Prop|mk(d:a)(e:b)(f:c)(h:IH p):X3 p
inductive X4{a b c d:Type}(p:a->b->c->Ch d):Prop|mk(e:a)(f:b)(g:c)(i:d)(h:on (p e) i):X4 p
inductive X5{a b c d e:Type}(p:aus (Ch e)):Prop|mk(f:a)(g:b)(i:c)(j:d)(k:e)(h:KB (on p)):X5 p
inductive X6{a b c d e f:Type}(p:aus (e->Ch f)):Prop|mk(g:a)(i:b)(j:c)(k:d)(l:e)(m:f)(h:KN (p g) m):X6 p
inductive X7{a b c d e f g:Type}(p:aus (e->f->Ch g)):Prop|mk(i:a)(j:b)(k:c)(l:d)(m:e)(n:f)(o:g)(h:BQ (KN p m)):X7 p
inductive X8{a b c d e f g i:Type}(p:aus (e->f->g->Ch i)):Prop|mk(j:a)(k:b)(l:c)(m:d)(n:e)(o:f)(q:g)(r:i)(h:BW (BQ (TW p m))):X8 p
inductive X9{a b c d e f g i j:Type}(p:aus (e->f->g->i->Ch j)):Prop|mk(k:a)(l:b)(m:c)(n:d)(o:e)(q:f)(r:g)(s:i)(t:j)(h:DQ (BW (BQ (AI p m)))):X9 p
inductive A2(a b:Prop):Prop|mk(c:a)(d:b):io A2
inductive A3(a b c:Prop):Prop|mk(d:a)(e:b)(f:c):EE A3
inductive A4(a b c d:Prop):Prop|mk(e:a)(f:b)(g:c)(h:d):JG A4
inductive A5(a b c d e:Prop):Prop|mk(f:a)(g:b)(h:c)(i:d)(j:e):MW A5
inductive A6(a b c d e f:Prop):Prop|mk(g:a)(h:b)(i:c)(j:d)(k:e)(l:f):IH$ EE A6
inductive A7(a b c d e f g:Prop):Prop|mk(h:a)(i:b)(j:c)(k:d)(l:e)(m:f)(n:g):on$ MW A7
inductive A8(a b c d e f g h:Prop):Prop|mk(i:a)(j:b)(k:c)(l:d)(m:e)(n:f)(o:g)(p:h):EU$ MW A8
inductive A9(a b c d e f g h i:Prop):Prop|mk(j:a)(k:b)(l:c)(m:d)(n:e)(o:f)(p:g)(q:h)(r:i):t3$ on$ MW A9
inductive A14(e f g h i j k l m n a b c d:Prop):Prop|mk(s:e)(t:f)(u:g)(v:h)(x:i)(y:j)(z:k)(A:l)(B:m)(D:n)(o:a)(p:b)(q:c)(r:d):JG$ FF$ KN$ EU$ A14 e
inductive A15(f g h i j k l m n o a b c d e:Prop):Prop|mk(u:f)(v:g)(x:h)(y:i)(z:j)(A:k)(B:l)(D:m)(G:n)(H:o)(p:a)(q:b)(r:c)(s:d)(t:e):MW$ BQ$ KN (EU A15) m
def Di:Fa CB "layout":=⟨Sq.kCB,tB.aiG⟩
def r7:Fa CB "places":=⟨Sq.kCB,tB.Ep⟩
def Hj:Fa CB "wants":=⟨Sq.kCB,tB.nWa⟩
def Dj:Fa CB "stands":=⟨Sq.kCB,tB.nSt⟩
def ue:Fa CB "open_cells":=⟨Sq.kCB,tB.nOp⟩
def yV:Fa CB "checked":=⟨Sq.kCB,tB.nCk⟩
def Pa:Fa CL "n":=⟨Sq.kCL,tB.nN⟩
def lj:Fa CL "every_cell":=⟨Sq.kCL,tB.nEv⟩
def mL:Fa CL "unit_sets":=⟨Sq.kCL,tB.nUs⟩
def pY:Fa CL "crowded":=⟨Sq.kCL,tB.nCr⟩
def oG:Fa CL "unlinked":=⟨Sq.kCL,tB.nUl⟩
def Dk:Fa CC "search":=⟨Sq.kCC,tC.nS⟩
def Hk:Fa CC "board":=⟨Sq.kCC,tC.nB⟩
def Hl:Fa CC "kinds":=⟨Sq.kCC,tC.nK⟩
def uf:Fa CC "changeable":=⟨Sq.kCC,tC.nC⟩
def Hm:Fa CC "shown":=⟨Sq.kCC,tC.nH⟩
def Mm:Fa CI "word":=⟨Sq.kCI,tI.nW⟩
def vR:Fa CI "cell_sets":=⟨Sq.kCI,tI.nC⟩
def iV:Fa CS "plain_layout":=⟨Sq.kCS,tS.nP⟩
def mm:Fa CS "layout":=⟨Sq.kCS,tS.nL⟩
def vk:Fa CS "known":=⟨Sq.kCS,tS.nK⟩
def Dl:Fa CN "square":=⟨Sq.kCN,tN.nS⟩
def Pb:Fa CH "n":=ah8 tH.nN
def mM:Fa CH "unit_sets":=ah8 tH.nUs
def oH:Fa CH "unlinked":=ah8 tH.nUl
def lq:Fa CH "open_cells":=ah8 tH.nOp
def r8:Fa CH "digits":=ah8 tH.nDg
def r9:Fa CH "places":=ah8 tH.Ep
def r_:Fa CH "stands":=ah8 tH.nSt
def Pc:Fa CQ "n":=⟨Sq.kCQ,tQ.nN⟩
def vl:Fa CQ "units":=⟨Sq.kCQ,tQ.nU⟩
def mn:Fa CQ "givens":=⟨Sq.kCQ,tQ.nG⟩
def sg:Fa CQ "layout":=⟨Sq.kCQ,tQ.nL⟩
def si:Fa CQ "search":=⟨Sq.kCQ,tQ.nS⟩
def Mn:Fa CP "line":=⟨Sq.kCP,tP.nL⟩
def Mo:Fa CP "puts":=⟨Sq.kCP,tP.nP⟩
def Dm:Fa CP "losses":=⟨Sq.kCP,tP.nS⟩
def vm:Fa CT "board":=⟨Sq.kCT,tW.nB⟩
def xJ:Fa CT "cell":=⟨Sq.kCT,tW.nC⟩
def pZ:Fa CT "untried":=⟨Sq.kCT,tW.nU⟩
def sj:Fa CW "search":=⟨Sq.kCW,tW.nS⟩
def vn:Fa CW "ahead":=⟨Sq.kCW,tW.nA⟩
def vo:Fa CW "turns":=⟨Sq.kCW,tW.nT⟩
end
end L3
open L3 PySem L2 Sq in
local macro_rules | `(tactic| walk_at "fd") => `(tactic| first | assumption | exact Di | exact r7 | exact Hj | exact Dj | exact ue | exact yV | exact Pa | exact lj | exact mL | exact pY | exact oG | exact Dk | exact Hk | exact Hl | exact uf | exact Hm | exact Mm | exact vR | exact iV | exact mm | exact vk | exact Dl | exact Pb | exact mM | exact oH | exact lq | exact r8 | exact r9 | exact r_ | exact Pc | exact vl | exact mn | exact sg | exact si | exact Mn | exact Mo | exact Dm | exact vm | exact xJ | exact pZ | exact sj | exact vn | exact vo | exact noF (by with_unfolding_all exact rfl) | (refine wpe ?_; with_unfolding_all rfl))
open L3 PySem L2 Sq in
local macro_rules | `(tactic| walk_at "w") => `(tactic| dsimp only [L2.start, Ş, List.set, Â, cq, Β, Ħ, Λ, vT, ag, ag2, ag3, Km])
open L3 PySem L2 Sq in
local macro_rules | `(tactic| walk_at "s") => `(tactic| dsimp only [L2.start, Â, cq, Β, Ħ, Λ, vT, ag, ag2, ag3, Km])
open L3 PySem L2 Sq in
local macro_rules | `(tactic| simp! [$ls,*]) => `(tactic| ((try with_reducible refine ufz ?_); simp (disch := walk_at "fd") [-γ, $ls,*]; (repeat (with_reducible refine ufz ?_; try simp (disch := walk_at "fd") [-γ, $ls,*]))))
open L3 PySem L2 Sq in
local macro_rules | `(tactic| simp!) => `(tactic| simp! [])
namespace L3
open PySem L2 Sq
variable{i:TT}{j:f8}{c:St}{l:TG}{d:TE}{b o:β}{f:Cx}{p:ï}{a:Hp}{e:VK}{m:g3}{h:V}{n u:U}{q:M}{s:BA}
section
variable(i j k:U)(σ:St)(H:Hp)(Q:VK)(a b:β)(x y z:V)(ta:TA)(to te ty td tv:TE)(g:TG)(tt:TT)(tb:TS)(vs:f8)(D:ee)(rm:IX)
@[ext]def ajE:GR Xv=agK uc (NF []):=I
@[ext]def ajF:GR Xw=agK uc (.dT []):=I
@[ext]def ajG{b:β}{a:OV}(c:aow):HD (Yu [AZ])=agK uc (AQ (a.q (λd=>kV d.1))):=AV ⟨λ⟨_,_,e,f,g⟩=>by cases e;rw[c]at f;cases f;calc g,λg=>⟨b,a,I,c,g⟩⟩
@[ext]def aoO{b:β}{a:g3}(d:adU)(c:-QL<=k/\k<QL/\a.length*k.aj<=Ζ):HD (aim AZ (.int k))=agK uc (AQ (Λ k.aj a).bQ):=AV ⟨λ⟨_,_,_,e,f,g,_,_,_,h⟩=>by cases e;cases f;rw[d]at g;cases g;calc h,λh=>⟨b,k,a,I,I,d,EZ,lv c,wS c,h⟩⟩
@[ext]def aoP{d e:β}{a b:g3}(f:H d=OA .Ý)(c:H e=f4 (.Ý b))(g:a.length+b.length<=Ζ):HD (ail BK EN)=agK uc (AQ (a++b)):=AV ⟨λ⟨_,_,_,_,h,i,j,k,_,l⟩=>by cases h;cases i;rw[f]at j;cases j;rw[c]at k;cases k;calc l,λl=>⟨d,e,a,b,I,I,f,c,g,l⟩⟩
def aer(a:g3)(b:Hp)(c:VK):Prop:=∃i,a=[NM]/\i.a4.cg<1920/\c (HS (ag_ i)) b
@[ext]def amy(a:i.a4.cg<1920):HD (aer [NM])=Q (HS (ag_ i)) H:=AV ⟨λ⟨_,b,_,c⟩=>by cases b;calc c,λc=>⟨i,I,a,c⟩⟩
def Zl(d:V)(b:g3)(c:Hp)(e:VK):Prop:=∃a f,∃g:CJ,d=.str a/\b=[EH]/\(BN c f (g.q V.str)\/Lg K c f (g.q V.str))/\(g.q (·.length)).sum+g.length*a.length<=16777216/\e (HS (vG a g)) c
def kM1(b:IX)(c:TE)(d:St)(e:VK):VK:=λx f=>(∃a,x=.str a)/\DS c (λy g=>b x [y] g e)
def kM2(a:IX)(b:V)(c:VK):VK:=λy d=>DB$ JC [y]
@[ext]def aq0:GR (tM1 rm to te)=tz to (NE (kM1 rm te)):=I
@[ext]def aq1(a:ï):NE (kM1 rm te) (.str a) H=ahZ (kM2 rm (.str a) Q):=atL ⟨JA a,b⟩
@[ext]def aq2:kM2 rm x Q y H=HD (rm x [y]):=I
def ajH(g:TG)(c:TT)(d:TE)(e:f8)(f:St)(h:VK):GW:=λi j=>∃a b k l,i=[AC,AZ]/\BN j a k/\LB (BN j)/\GP (s3 (Zj g c)) (io (Itz K)) j
def aes(e:TG)(a:TT)(b:TE)(c:f8)(d:St)(f:VK):GW:=λg h=>∃i j:U,g=[NM,.int j]/\(-KD<=i/\i<KD/\-KD<=j/\j<KD)/\JG (Zj e) f (Gf i (j-i).aj) h
@[ext]def aoQ:GR (ahz (Lu (ack K ta)))=akY (ahz ajH):=I
@[ext]def amz:GR (ahz (Lu (Wx ta)))=akY (ahz aes):=I
end
section
variable {H:Hp}{Q:VK} {D:ee}
def lcN{n:M}(g:n<Ζ)(f:JQ)(F:M->V)(h:∀(a:M) m,a<n->EW m->∀(b:VK)(e:DV),(f a=Z->∀o,Μ m o->b (F a) o)->(pr (f a)-> ∀o,Μ m o->e o)->l (AB DD) (DX Ş) m (zn (MB (kLc i d))))(k:∀D p,WU (EW p->p D=WC ((ι n).filter f)->Q (.ref D) p)):MB (ajD l i d) Q [PD n] H:=QN (anx (ta:=ask) (λ_ q=>q)) F h k
def aoR{lo n:M}(g:Id lo)(h:n<Ζ)(f:JQ)(F:M->V)(k:∀(a:M) o,a<n->EW o->∀(b:VK)(e:DV),(f a=Z->∀p,BF Μ->b (F a) p)->(pr (f a)-> ∀p,BF Μ->e p)->l (MH (lo+a)) (DX Ş) o (zn (MB (kLc i d))))(m:∀D q,WU (EW q->q D=WC ((ι n).filter f)->Q (.ref D) q)):MB (aes l i d) Q [PD lo,MH (lo+n)] H:=ww (aiC (ta:=ask) (λ_ r=>r)) f F k m
def lcZ{xs ys:g3}(g:JT BN xs)(h:BN H o ys)(k:xs.length=ys.length)(m:xs.length<Ζ)(f:JQ)(F:M->V)(n:∀q r v s t,xs[q]? =f4 r->ys[q]? =DE->EW s->s t=KS [r,v]-> ∀(a:VK)(e:DV),(f q=Z->∀u,Μ s u->a (F q) u)->(pr (f q)-> ∀u,Μ s u->e u)->l (.ref t) (DX Ş) s (AA (kLc i d j) e))(p:∀D x,WU (Ix Μ->x D=WC (FX xs.length f)->Q (.ref D) x)):MB (ajH l i d) Q [AZ,.ref o] H:=ww (anw (ta:=ask) (λ_ y=>y)) k m f F n p
def aet:a9 f (.au "str") aer:=Cf
def Zm{g i:Expr}{h:TE}{a e:vB}(j:on PE d)(k:DF PE h)(l:Ù [i] f.ó=[(gl,rw i f.ó)]:=by rfl)(b:œ g "join" f.ó (rw g f.ó)=rw g f.ó:=by rfl)(c:(a.bS==e.line)=Z:=by rfl)(m:f.K=K:=by rfl):PE f (GJ (.ao g "join" a) [i] [] e)$ tM1 Zl d h:=by unfold Zl;rw[<-m];calc lf$ TW C6
end
def Dn{c:CJ}(d:JC=BG (c.q V.str))(f:(c.q (·.length)).sum+c.length*p.length<=16777216)(g:e (HS (vG p c)) a):AM$ Zl (.str p) [AZ]:=⟨p,b,c,I,I,wT$ .D d,f,g⟩
def dq(c:RH (.Ý m)):io BN m:=.D$ .D c
def sk{f:v6}{C:β}{fs:ES}(d:JC=JX (DH o))(g:Fa C p)(i:M)(l:fs.length=i)(j:∀k,sK SB k->k b=f4 (DH o (aM p h fs))->f c k)(e:Id i:=by decide):GP (Mi p c) AZ a:=⟨b,C,o,fs,I,d,g.c,g.n,by rw[l];calc e,j _ (λm n q d=>(ω q).trans d) Α⟩
def swK{z:V}{c:DV}(d:RH (.Ý m))(e:Gn m.length n=f4 q)(f:∀g,sK SB g->g b=BG (m.set q z)->c g):mt$ Ol AZ JN z:=⟨b,m,n,q,I,I,d,e,f _ (λh i j d=>(ω j).trans d) Α⟩
def agt(a:TE)(b:St)(c:VK):VK:=λd e=>∃f,IH (L6 K)/\if f=Z then s3 c else zn a c
@[ext]def aoS(b c:TE)(a:St)(d:Hp)(e:VK):PQ (lf (afX K))=wE b (AA agt e):=I
def ajJ(b:L6 K h a Z)(f:e h a):AH (agt d) h a:=⟨Z,b,f⟩
def ajK(b:HA (L6 K h a))(f:AA d e):AH (agt d) h a:=⟨gl,b,f⟩
def mkK{C:β}{b:Sp}{c:XK}(d:∀f g h,hm (a f)->UI a->g≠f->FV Μ->h f=f4 (DH g [])->b (EH::m) h (JV Zf) c):zn (Ze C) c m a:=λf g i j k=>KB (on d _) ((Μ.new j).trans (NO (DK k.symm i))) Α
def ajL(a:TE)(b:St)(R:GM):VK:=λc d=>v4 a λe f=>∃g h i,e=FU/\auK/\c=NM/\R (ab h$ JL XL).by f
def ajM(a:V)(R:GM):VK:=λb c=>∃d e f,b=BK/\HU=PV .dK/\a=QA/\R (ab e$ JL$ È f).by c
section
variable(ty td:TE)(σ:St)(H:Hp)(R:GM)(y:V)
@[ext]def aoU:tz (aiD ty td) R=tz ty (ajL td σ R):=I
@[ext]def aoV:ajL td σ R y H=tz td (ajM y R):=I
@[ext]def aoW{a:OV}(d:aow)(c:U):ajM On R AZ H=R (ab a$ JL$ È c).by H:=AV ⟨λ⟨_,_,_,e,f,g,h⟩=>by cases e;cases g;rw[d]at f;cases f;calc h,λh=>⟨b,a,c,I,d,I,h⟩⟩
end
@[ext]def amA(c:VK)(d:RH (.dT s)):mt (aeg [AZ])=c (AB s.length) a:=AV ⟨λ⟨_,_,e,f,g⟩=>by cases e;rw[d]at f;cases f;calc g,λg=>⟨b,s,I,d,g⟩⟩
@[ext]def ahr(c:VK)(d:RH (.dT s)):mt (O8 AZ [])=c .Ť (io ø (.dT [])):=AV ⟨λ⟨_,_,e,_,f,g⟩=>by cases e;calc g,λg=>⟨b,s,I,I,d,g⟩⟩
def Zn(a:VK):VK:=λb c=>∃d e,b=V.ref d/\HU=PV .dK/\∀l,ME c->a CG (WH l (AQ ((e.q (·.2)))))
@[ext]def ajN(a:TE)(b:St)(c:Hp)(d:VK):JG Yv=lf a (Zn d):=I
@[ext]def ajO{c:OV}(d:VK)(e:RH (.dK c)):Zn d AZ a=EK uc (AQ ((c.q (·.2)))):=AV ⟨λ⟨_,_,f,g,h⟩=>by cases f;rw[e]at g;cases g;calc h,λh=>⟨b,c,I,e,h⟩⟩
def aeu(a:g3)(b:Hp)(c:VK):Prop:=∃d e,a=[OR,SA]/\ ∀f,hm (b f)->c EH (DA ø (s3 (vO f) 1))
def Zo(a:g3)(b:Hp)(c:VK):Prop:=∃(d:β) (e f g:U) (h:M),a=[BK]/\Fk=f4 (on (s3 vO))/\on (dN e)=Z/\on (Ę e)=h/\GT h/\∀l,atr (AQ (ww (pE e)))
def ajP:a9 f air aeu:=zL
def agu(a:f.gM=Z):a9 f II Zo:=eJ a
def acW(b:∀c d,hm JD->wE Μ->d c=f4 (vO c n u 1)->e CO d):AM$ aeu [JN,.int u]:=⟨n,u,I,λc f=>Db _ f (Μ.new f) Α⟩
def Zp{c:U}(h:RH (vO b n c u))(d:dN n c u=Z)(f:Ę n c u=q)(g:GT q)(i:∀l j,ME a->Μ a j->j l=BG (pE n u q)->e CG j):AM$ Zo [AZ]:=⟨b,n,c,u,q,I,h,d,f,g,λl k=>i l _ k (Μ.new k) Α⟩
end L3
namespace Sq
open PySem L2 dO
variable{b:M}{a:ř}
def sl(a b:U)(c:M):EE pE=BT (EE Nm).q:=by unfold pE Nm;rw[Χ];rfl
def xK{c d a:U}(e:re Ę a=b)(i:b<=100)(f:0<=c/\c<=1000)(g:0<=d/\d<=1000)(h:1<=a/\a<=1000):re dN a=Z:=by unfold dN;simp only[ahU,ξ,Ą,show a>0 by lia,ahb];lia
inductive Zq(vs:g3)(H:Hp)(a:VK)(b:XK):Prop|mk(n:M):vs=[JN]->1<=n->US->G7 H ((gF n).q zs) a->TF Zq
def acX(b:Ĭ):ahc 1 "rows_of" ["n"] Zq:=by
 calc DI To ["n","row"] EO;let⟨h,I,i,j,k⟩:=g;calc ln λm p q r s t u=>?_;calc⟨_,rc$ ID u (alt (uP b) aql) (İ (ü:=[("row",1)]) (by show EA (dj ["n","row"] (HN 61));decide+AO)) (λ_ _ _ _ _=>Ψ 1 u) Tm λ_ _ _ _ _=>at4$ ń zL (uP b).range b9$ ε (KK IC JF)$ ol$ WF (KK IC JF) JF,?_⟩;calc⟨_,I,FB,I,gt,gt,λv x=>sw (s4 (lcR (n:=h)) KY (λy z A=>∃D,z=V.ref D/\(D≠v/\hm (d D))/\A D=VG (zs ((ι h).q (λG=>h*y+G)))) x (by show h<QW;lia)) ?_⟩;rintro y z H J ⟨D,L,⟨N,O⟩,c⟩ e;calc⟨D,L,⟨N,O⟩,e D _ N c⟩;intro f H i g ⟨m,p⟩ q r s t;have u:jp 0+jp f=f:=U.b_ _;have A:jp f*FB=kw (h*f):=by rw[U.am,U.cW]
 have y:h*f<=81:=by have:h*f<=9*9:=im$ Ë j;lia
 have z:Ę (jp f*h) (jp f*h+h) 1=FB:=by rw[Q6,JO];lia
 rw[u];calc⟨I,_,I,_,I,jp f,FB,I,I,LV,_,I,_,I,_,_,I,I,LV,_,I,_,_,I,λG J=>?_⟩;calc⟨G,_,_,_,h,I,Α,Op$ Op$ xK z,z,gt,λl N=>?_⟩;have O:=NO (o:=vO G (jp f*h) (jp f*h+h) 1) J;have e:=O.trans$ NO (o:=LO$ pE (jp f*h) 1 h) N;calc ga (s I) e ⟨l,I,P3$ (g.trans O).free N,?_⟩;exact λL=>by subst L;exact DM (ML p) (by rw[N];simp)
 rw[Α,sl,abB];intro H i g m q;let⟨r,u,t,A⟩:=jx (B:=λD=>D≠v/\hm (d D)) q;rw[CZ]at A;calc k v r H g x (λD c=>⟨(t D c).2,(t D c).1⟩) (by rw[m,u]) ?_;unfold gF;rw[Χ];calc A
inductive Zr(vs:g3)(H:Hp)(a:VK)(b:XK):Prop|mk(n:M):vs=[JN]->1<=n->US->G7 H ((jj n).q zs) a->TF Zr
def acY(b:Ĭ):ahc 1 "columns_of" ["n"] Zr:=by
 calc DI De ["n","column"] EO;let⟨h,I,i,j,k⟩:=g;calc ln λm p q r s t u=>?_;calc⟨_,rc$ ID u (alt (uP b) aql) (İ (ü:=[("column",1)]) (by show EA (dj ["n","column"] (HN 62));decide+AO)) (λ_ _ _ _ _=>Ψ 1 u) Tm λ_ _ _ _ _=>at4$ ń t8 (uP b).range b9$ ε IC$ ε (KK JF JF) aql,?_⟩;calc⟨_,I,FB,I,gt,gt,λv x=>sw (s4 (lcR (n:=h)) KY (λy z A=>∃D,z=V.ref D/\(D≠v/\hm (d D))/\A D=VG (zs ((ι h).q (λG=>h*G+y)))) x (by show h<QW;lia)) ?_⟩;rintro y z H J ⟨D,L,⟨N,O⟩,c⟩ e;calc⟨D,L,⟨N,O⟩,e D _ N c⟩;intro f H g m ⟨p,q⟩ r s t u;have A:jp 0+jp f=f:=U.b_ _;have y:FB*FB=kw OC:=by rw[U.am]
 have z:OC<=81:=Ë j j;have J:h<=OC:=im$ M.le_mul_of_pos_left h;have N:Ę (jp f) (FB*h) h=FB:=by unfold Ę;rw[JO,JO];exact Vm i g
 rw[A];calc⟨I,_,I,_,I,_,I,_,_,I,I,LV,_,I,jp f,_,_,I,ZN,λG O=>?_⟩;calc⟨G,_,_,_,h,I,Α,Op$ Op$ xK N,N,gt,λl e=>?_⟩;have p:=NO (o:=vO G (jp f) (FB*h) h) O;have r:=p.trans$ NO (o:=LO$ pE (jp f) h h) e;calc ga (t I) r ⟨l,I,P3$ (m.trans p).free e,?_⟩;exact λL=>by subst L;exact DM (ga p q) (by rw[e];simp)
 rw[Α,sl,abC];intro H s m u y;let⟨j,A,z,J⟩:=jx (B:=λD=>D≠v/\hm (d D)) y;rw[CZ]at J;calc k v j H m x (λD c=>⟨(z D c).2,(z D c).1⟩) (by rw[u,A]) ?_;unfold jj;rw[Χ];calc J
def qD{l:f8}(a:aiy):XF[b]? =NQ OT:=by unfold zs;simp[δ a]
def aS(l:f8):aiT XF:=by simp[zs]
inductive zX(vs:g3)(H:Hp)(b:VK)(c:XK):Prop|mk(g:M)(a:β)(l:f8):vs=[VF,AC]->ag7 XF->l.length<=81->aiv H (zs (FX l.length (λd=>IM l.getD==g))) b->RC zX
def Mp(b:Ĭ):ahc 1 "cells_of_region" ["number","region"] zX:=by calc DI r5 ["number","region","cell"] EO;let⟨h,i,l,I,j,k,m⟩:=g;calc act ?_;calc⟨_,rc$ ID u (alt (uP b) (ol (Ļ hV (uP b).len Ď (ol IC)))) (İ (ü:=[("cell",2)]) (by show EA (dj ["number","region","cell"] (HN 64));decide+AO)) (λ_ _ _ _ _=>IJ u) (YR (ZS (cB (ixL K) IC LK) JF)) λ_ _ _ _ _=>LK,?_⟩;have v:=aS l;calc⟨_,I,i,_,I,.D j,_,I,gt,gt,λx y=>sw$ lcR (n:=l.length) (by rw[v];simp) (λz=>l.getD z 0==h) (λA B _=>B=FL (jp A)) y (by show l.length<QW;lia) λ_ _ _ _ D _=>D⟩;intro z G H J _ L N O c;have d:jp 0+jp z=z:=U.b_ _;rw[d];calc⟨I,_,I,_,I,i,_,_,_,I,I,J.seq j,rE$ qD H,_,I,I,?_⟩;calc afP (ga aiw) (λe=>⟨_,I,ga (O e) HJ I⟩) λe=>IR$ c e;intro G f J k g;have D:=mf g;calc m x G J y ?_;rw[k,D];unfold zs;rw[Χ];rfl
inductive Zs(vs:g3)(H:Hp)(b:VK)(c:XK):Prop|mk(n:M)(a:β)(l:f8):vs=[JN,AC]->ag7 XF->US->PZ JB->G7 H ((wy n l).q zs) b->RC Zs
def acZ(b:Ĭ):ahc 2 "regions_of" ["n","region"] Zs:=by calc DI Df ["n","region","number"] EO;let⟨h,i,l,I,j,k,m,o⟩:=g;calc ln λp q r s t u v=>?_;calc⟨_,rc$ ID v (alt (uP b) aql) (İ (ü:=[("number",2)]) (by show EA (dj ["n","region","number"] (HN 63));decide+AO)) (λ_ _ _ _ _=>IJ v) Tm λ_ _ _ _ _=>JE Mp u$ ε LK$ ol IC,?_⟩;have x:OC<=81:=Ë k k;calc⟨_,I,FB,I,gt,gt,λy A=>sw (s4 (lcR (n:=h)) KY (λD G H=>∃i,G=V.ref i/\(i≠y/\QM d)/\H i=VG (zs (FX OC (λJ=>l.getD J 0==D)))) A (by show h<QW;lia)) ?_⟩;rintro D G L N ⟨i,O,⟨c,e⟩,j⟩ f;calc⟨i,O,⟨c,e⟩,DX$ f i _⟩;intro J L g p ⟨q,r⟩ s t u v;have k:jp 0+jp J=J:=U.b_ _;rw[k];calc⟨I,_,I,_,I,J,i,l,I,p.seq j,gt,λx N H h O=>?_⟩;calc ga (u I) H ⟨x,I,⟨RP,p.free h⟩,?_⟩;subst z;rw[h]at r;cases r;rw[O,m];intro L D p G c;let⟨e,k,f,g⟩:=jx (B:=λi=>i≠y/\QM d) c;rw[CZ]at g;calc o y e L p A (λi j=>⟨(up f).2,(up f).1⟩) (by rw[G,k]) ?_;unfold wy;rw[Χ];calc g
inductive Zt(vs:g3)(H:Hp)(a:VK)(b:XK):Prop|mk(n:M):vs=[JN]->2<=n->US->G7 H ((qY n).q zs) a->TF Zt
def ac0(b:Ĭ):ahc 1 "diagonals_of" ["n"] Zt:=by
 calc DI xH ["n"] EO;let⟨h,I,i,j,k⟩:=g;calc ln λm n p q r s t=>?_;calc⟨_,rc$ ĺ$ ε (at4 (ń t8 (uP b).range b9 (ε Φ (ε (KK JF JF) (ol (WF JF Φ))))))$ ol$ at4$ ń t8 (uP b).range b9$ ε (RT JF Φ)$ ε (RT (KK JF JF) Φ)$ ol$ RT JF Φ,?_⟩;have u:FB*FB=kw OC:=by rw[U.am]
 have v:OC<=81:=Ë j j;have x:2*h<=OC:=t3 qa;have y:Ę 0 (FB*h) (FB+1)=FB:=by unfold Ę;rw[JO,JO];exact im abD
 have z:Ę (FB-1) (FB*h-1) (FB-1)=FB:=by unfold Ę;rw[JO,JO];exact abE i
 calc⟨_,I,_,I,_,_,I,I,LV,_,I,_,_,_,I,ZN,λA B=>?_⟩;calc⟨A,_,_,_,h,I,Α,Op$ Op$ xK y,y,gt,λD G=>?_⟩;calc⟨_,I,_,I,_,I,_,_,I,I,LV,_,I,_,_,_,I,ZN,λH J=>?_⟩;calc⟨H,_,_,_,h,I,Α,Op$ Op$ xK z,z,gt,λL N=>?_⟩;calc⟨by show 2<=QW;decide,λl O=>?_⟩;have c:=NO (o:=vO A 0 (FB*h) (FB+1)) B;have d:=NO (o:=LO$ pE 0 (FB+1) h) G;have e:=NO (o:=vO H (FB-1) (FB*h-1) (FB-1)) J;have f:=NO (o:=LO$ pE (FB-1) (FB-1) h) N;have g:=NO (o:=LO [V.ref D,V.ref L]) O;have m:=e.trans f D _ Α;calc k l [D,L] _ ((((c.trans d).trans e).trans f).trans g) ((((c.trans d).trans e).trans f).free O) ?_ Α ?_;intro n p;simp only[ν,ã,GS]at p;rcases p with I|I;calc⟨c.free G,ρ m O⟩;calc⟨((c.trans d).trans e).free N,ρ Α O⟩;calc .cons ?_$ .cons ?_ .nil;rw[GK m,sl,aeY];rw[GK Α,sl,im$ aeZ h]
def Dq(a:M)(b:nm)(l:f8):AU:=gF a++(jj a++(EF wy++(if b=Z then qY a else[])))
def dk.len{c:Hp}{a:s5}{b:AX At}(d:akW dk):asM:=Ñ d
inductive Pd(vs:g3)(H:Hp)(b:VK)(c:XK):Prop|mk(n:M)(d:U)(a:β)(l:f8):vs=[JN,OR,AC]->ag7 XF->2<=n->US->PZ JB->G7 H ((Dq n (d==1) l).q zs) b->RC Pd
def Zu(b:Ĭ):ahc 3 "units_of" ["n","diagonals","region"] Pd:=by
 calc DI Me ["n","diagonals","region","units"] EO;let⟨h,i,j,l,I,k,m,n,q,r⟩:=g;calc ln λs t u v x y z=>?_;calc⟨_,η (GX z (Í xt (Í xt (JE acX y aql) (JE acY y aql)) (JE acZ y (ε JF (ol LK)))))$ ER (ď (ZS IC Φ) (μ (GX z (Í xt OK (JE ac0 y aql)))))$ rc OK,?_⟩;calc⟨_,I,h,I,gt,n,λA B D G H J L N=>?_⟩;calc⟨_,I,h,I,gt,n,λO c e f s t u v=>?_⟩;have x:B.length=h:=by rw[dk.len N];simp[gF]
 have y:c.length=h:=by rw[dk.len v];simp[jj]
 calc⟨A,O,_,_,I,I,JI L,u,(by simp only[θ,x,y];show GT (h+h);lia),λz D=>?_⟩;have H:=NO (o:=LO atx) D;calc⟨_,I,_,I,h,j,l,I,atE.seq k,n,q,λe s A L O u j k=>?_⟩;have q:s.length=h:=by rw[dk.len k];simp[wy]
 calc⟨z,e,_,_,I,I,MD Α,j,(by simp only[π,θ,x,y,q];show GT (h+h+h);lia),λD A=>?_⟩;have O:=NO (o:=LO (atx++GG s.q)) A;have z:=dk.same N$ ((f.trans H).trans L).trans O;have e:=dk.same v$ (H.trans L).trans O;have j:=dk.same k O;have a0:=bq.app (bq.app z e) j;have z:=(atE.trans L).trans O;have e:(atx++GG s.q)=GG (B++c++s).q:=mo
 have fresh:∀j,j∈B++c++s->hm (d j)/\((atx++GG s.q).length=3*h):=λj O=>by calc P3 (by simp[x,y,q];lia);rcases Ι.J O with O|O;rcases Ι.J O with O|O;calc(J j O).1;calc G.free (t j O).1;exact atE.free (u j O).1
 have d:∀(J:AX At)(t:s5)(u:Hp)(b0:β),dk u t J->hm (u b0)-> ∀j,j∈t->j≠b0:=λJ t u b0 J t j O u=>by subst u;let⟨u,u⟩:=List.getElem?_of_mem O;let⟨c0,_,g⟩:=Ā J u;rw[t]at g;cases g
 calc⟨_,I,I,?_⟩;calc afP (p:=sB (i=1)) (ga anj) (λg=>?_) λg=>?_;have J:i=1:=ag8 g;calc⟨_,I,_,I,h,I,m,n,λt u m n m m d0 f0=>?_⟩;have g0:u.length=2:=by rw[dk.len f0];simp[qY]
 calc⟨D,t,_,_,I,I,ga n Α,d0,(by simp only[π,θ,x,y,q,g0];show GT (h+h+h+2);lia),aix λh x y q t=>⟨_,I,?_⟩⟩;have h0:=bq.app (dk.same a0 n) f0;calc r h (B++c++s++u) x ((z.trans n).trans q) ((z.trans n).free y) (λj O=>P3$ EY d h0 y j O) (by rw[t,e,<-Æ]) ?_;rcases Ι.J O with O|O;calc(fresh j O).1;calc z.free (m j O).1;calc(show ga (dk x) from ?_);have:=dk.same h0 q;simpa[Dq,J,Æ,Ĝ]using this;have J:¬i=1:=auN g;calc⟨_,I,?_⟩;have g:=EY d (bq.app (bq.app (dk.same N ((f.trans H).trans L)) (dk.same v (H.trans L))) k) A;calc DG (r D (B++c++s)) ((atE.trans L).free A) (λj O=>⟨(fresh j O).1,g j O⟩) (by rw[Α,e]) ?_;have u:pr (i==1):=by simpa using J
 simpa[Dq,u,Æ,Ĝ]using a0
end Sq
namespace Sq
open PySem L2 dO L3
variable{a:ř}{b:M}
def e_(a b:M):ī DD GI=kw SK:=by unfold ī;simp
def Hn(a b:M):jV DD GI=kw (a|||b):=by
 unfold jV ī dS;have c:OU (0<=-DD-1):=gt
 have d:OU (0<=-GI-1):=gt
 have e:(-(-DD-1)-1).aj=a:=gt
 have f:(-(-GI-1)-1).aj=b:=gt
 lia
def Zv(a b:M):ng DD GI=kw (a^^^b):=by
 unfold ng;rw[Hn,e_];have c:=wz (a^^^b) SK;have d:(a^^^b)|||SK=a|||b:=by apply dO.ext;intro e;simp only[ý,dI,Ã];cases a.o e<;>cases b.o e<;>rfl
 have f:(a^^^b)&&&SK=0:=by apply dO.ext;intro e;simp only[dI,Ã,eA];cases a.o e<;>cases b.o e<;>rfl
 lia
def oI(b a:M):ī GI (dS DD)=kw (sK õ):=by
 unfold ī dS õ;have c:OU (0<=-DD-1):=gt
 have d:(-(-DD-1)-1).aj=a:=gt
 have:=sK Vo;simp only[U.a0];lia
def Ts(a:M)(b:a≠0):ī DD (-DD)=kw (low a):=by
 have c:-(a)=dS (a-1:M):=by unfold dS;lia
 rw[c,oI];rfl
inductive Ho(vs:g3)(H:Hp)(b:VK)(d:XK):Prop|mk(a:β)(l:f8):vs=[AC]->ag7 XF->(∀c,c∈l->c<1000)->b (AD (Û l)) H->v4 (AJ Ho)
def ug(b:Ĭ):IF zV 1 Ho:=by
 calc DI zV ["places","bits","place"] EO;let⟨h,l,I,i,j,k⟩:=g;calc ata ⟨_,NH (KW s)$ η (Ī (ņ FD) (IJ s) (μ (bN 1 s (TK BU) cM)))$ rc AG,?_⟩;walk_at "s";simp!;calc sw$ cD (xs:=XF) i (λt u v=>X1 λx=>A2 (d=v) (u=[f4 NB,BJ$ Û$ l.take t,x])) ⟨_,I,I⟩ (λ t u v _⟨_,g,_⟩=>g▸i);rintro t x u v f y z ⟨A,I,I⟩;have B:=y.n;have D:t<l.length:=by have:=(φ.J z).1;rw[aS]at this;exact this
 rw[qD D]at z;cases z;have G:=j _ (show l.getD t 0∈l by rw[γ,δ D];calc Ö D);have H:Û (l.take (t+1))=Û (l.take t)|||2^l.getD t 0:=by rw[å,γ,δ D];unfold Û;rw[ŭ,Þ];rfl
 rw[H]at B;generalize l.getD t 0=J at G B|-;have L:jp 2^J=TV J:=mo
 have N:PP$ jp J:=gt
 simp! [N,L,Hn,-U.ae];calc LG ⟨_,I,I⟩;rintro u v ⟨x,I,I⟩;rw[aS,Ò];simp!;calc k
inductive xM(vs:g3)(H:Hp)(a:VK)(c:XK):Prop|mk(b:M):vs=[LZ]->b<VZ->aiv H (zs (BS b)) a->mt (AJ xM)
def Hq(a:M):dW (kw KP)=DC:=by
 unfold dW;have b:=M.pos_iff_ne_zero.J$ cu a;have c:¬((kw KP==0)=Z):=gt
 rw[hf c,U.a3,mP]
def gV(b:Ĭ):IF vi 1 xM:=by
 calc DI vi ["bits","found","lowest"] EO;let⟨h,I,i,j⟩:=g;calc ln λk m n o p q r=>⟨_,η (KW r RS)$ η (cL (ND FD Φ) (η (FT r (GC FD (bD iC FD))) (η (Ł (TX AG (ol (RT (agf PySem.F.plainAttrs_int PySem.F.slot_int_bit_length PySem.F.type_int_bit_length acR BU) Φ)))) (μ (bN 0 r BU Ce)))))$ rc AG,?_⟩;walk_at "s";simp!;calc af λs t u v x=>?_;simp!;calc dn (λy z A=>X2 λl B=>A5 (z=[f4$ PD y,f4 VY,B]) (y<VZ) (SB s d A) (A s=VG QO) (l++BS y=BS h)) h ⟨[],none,I,i,λD G _ H=>ga v H,x,I⟩ ?_;rintro y z A J kT L ⟨l,B,I,N,O,c,H⟩;by_cases e:y=0;subst e;simp!;calc L _ ?_;simp!;rw[gH,Đ]at H;rw[H]at c;calc j s _ (λD G g=>IK O (ρ g u) g) u c;let⟨k,m,n,o⟩:=dX e;have p:low y=PU:=o;have q:l.length<=100:=by have:=YT H;have r:(BS h).length<=100:=s4 OD;simp at this;lia
 have t:¬jp y=0:=gt
 have d:QF XF:=by show BC;rw[aS];lia
 have i:aq3 VY A:=.D ⟨I,_,.D$ .D c⟩;simp! [e,t];calc kT _ λf v=>?_;have x:ZB "int" (MH (PU:M)) A:=I;have z:MC k-1=jp k:=gt
 simp! [Ts y e,p,Zv,Hq,Bd m,z,-U.ae,-U.aA];calc ga v.n ⟨õ y PU,vY m,l++[k],_,I,aqj N,λD G J g=>(ω J).trans$ IK O J g,?_,?_⟩;rw[Α];simp[zs];rw[Ĝ,<-H,FF$ wA N];rfl
def Ě(l:f8):g3:=XF
@[simp]def Τ(l:f8):aiT HY:=by simp[Ě,zs]
def Ė{l:f8}{i:M}(a:i<l.length):HY[i]? =f4 (CK (l.getD i 0)):=qD a
@[simp]def ajQ(l:f8)(a:M)(b:a<HY.length):HY[a]=CK YE:=by
 have c:WQ:=arD
 have:=Ė c;rw[δ b]at this;calc GE Ü
@[simp]def jR(l:f8)(a b:M):HY.set a (FL GI)=Ě (io l.set):=by unfold Ě zs;rw[<-dv,<-dv]
def Ū{l:f8}{v:V}(a:HY[b]? =DE):aiy/\v=CK OT:=by
 have c:aiy:=by have:=(φ.J a).1;rw[Τ]at this;exact this
 rw[Ė c]at a;cases a;calc JA c
def ľ(l:f8):HY=l.q (λ(a:M)=>FL DD):=by unfold Ě zs;rw[Χ];rfl
def yW(a:Ž)(b c:β):ES:=[("n",AB a.n),("every_cell",AB a.cA),("unit_sets",AZ),("crowded",AB a.lM),("unlinked",CO)]
def qQ(a b w c:β)(d:M)(e:β):ES:=[("layout",AC),("places",AZ),("wants",.ref w),("stands",CO),("open_cells",OR),("checked",EN)]
section
variable(L:Ž)(u d La p w s c:β)(o:M)
@[simp]def aoX:asj "n"=f4 (AB L.n):=I
@[simp]def aoY:asj "every_cell"=f4 (AB L.cA):=I
@[simp]def aoZ:asj "unit_sets"=f4 (.ref u):=I
@[simp]def ao0:asj "crowded"=f4 (AB L.lM):=I
@[simp]def ao1:asj "unlinked"=f4 BK:=I
@[simp]def aq4:ap1 "layout"=AT La:=I
@[simp]def aev:ap1 "places"=YC:=I
@[simp]def aq5:ap1 "wants"=f4 (.ref w):=I
@[simp]def ajR:ap1 "stands"=f4 VY:=I
@[simp]def ajS:ap1 "open_cells"=f4 (.int o):=I
@[simp]def aq6:ap1 "checked"=f4 CO:=I
@[simp]def ahs:asP "put":=I
@[simp]def ac1:asP "settle":=I
@[simp]def aht:asP "bar":=I
@[simp]def Tt:asP "with_digit":=I
@[simp]def Zw:asP "put_lone":=I
@[simp]def Uz:asP "find_pins":=I
@[simp]def Zx:asP "pin_down":=I
@[simp]def ahu:asP "key":=I
@[simp]def U3:asP "digits_at":=I
@[simp]def Zy:asP "standing":=I
end
def ac2(a:Ž):OV:=BR FK λb=>(È$ kw GU,FL$ a.qf b)
def Hr(a:Ž)(c:b<FK):ab (ac2 a) (OL (kw GU))=f4 (FL (a.qf b)):=by
 unfold ab ac2;rw[adK];have d:(ι FK).cS ((λ e:ō×V=>sB (e.1=OL (GU:M)))∘ λb=>((È (GU:M)),FL$ a.qf b))=ZC:=by
  rw[Ej];calc⟨mo,Re,λf g=>?_⟩;simp only[aq,ä,alK,abh];intro z;have h:2^f=GU:=by exact_mod_cast z
  have:=(CD abi).J h;lia
 rw[d];rfl
structure mN(H:Hp)(a b u d:β)(L:Ž):Prop where
 obj:H a=f4 (DW CL b (yW L u d))
 us:H u=xL L.units
 ul:H d=akT (ac2 L)
structure Bx where
 b:β
 dx:β
 La:β
 p:β
 w:β
 s:β
 c:β
 ws:s5
structure ajT(x:Bx):Prop where
 pw:x.p≠x.w
 ps:x.p≠x.s
 pc:x.p≠x.c
 wsn:x.w≠x.s
 wc:x.w≠x.c
 sc:x.s≠x.c
 np:x.p∉x.ws
 nw:x.w∉x.ws
 ns:x.s∉x.ws
 nc:x.c∉x.ws
structure bg(H:Hp)(x:Bx)(B:ŏ):Prop where
 obj:H x.b=f4 (DW CB x.dx (qQ x.La x.p x.w x.s B.ĵ x.c))
 pl:H x.p=xL B.ζ
 wt:H x.w=KE x.ws.q
 wl:dk H x.ws$ B.wants.q zs
 st:H x.s=xL B.Ú
 ck:H x.c=BG (BT B.ž.q)
 ap:ajT x
end Sq
open Sq PySem L2 dO L3 in
local macro_rules | `(tactic| walk_at "fd") => `(tactic| first | exact bg.obj ‹_› | exact bg.pl ‹_› | exact bg.wt ‹_› | exact bg.st ‹_› | exact bg.ck ‹_›)
namespace Sq
open PySem L2 dO L3
variable{b j:Bx}{a e:Hp}{d:ŏ}{h:s5}{i:AX At}{c:ř}{f l m:β}{n:Ž}
def bg.nbp(c:LP bg):b.b≠b.p:=AF$ đ c.obj c.pl
def bg.nbw(c:LP bg):b.b≠b.w:=AF$ đ c.obj c.wt
def bg.nbs(c:LP bg):b.b≠b.s:=AF$ đ c.obj c.st
def bg.nbc(c:LP bg):b.b≠b.c:=AF$ đ c.obj c.ck
def bg.lws(c:LP bg):b.ws.length=d.wants.length:=by have:=Ñ c.wl;rw[θ]at this;calc this
def bg.ajU(c:LP bg):b.b∉b.ws:=by
 have:∀{e:s5}{f:List _},py (dk a)->b.b∉e:=λ{e f} g=>by induction g with
 |nil=>simp
 |cons h g i=>intro z;rcases MU with j|z;rw[<-j,c.obj]at h;cases h;exact i z
 calc this c.wl
def Bx.ü(a:Bx):s5:=[a.b,a.p,a.w,a.s,a.c]
structure bV(H:Hp)(x x':Bx):Prop where
 b:x'.b=x.b
 dx:x'.dx=x.dx
 La:x'.La=x.La
 ü:∀a,BB x'.ü->BB x.ü\/hm (H a)
 ws:∀a,BB x'.ws->BB x.ws\/BB x.ü\/hm (H a)
def bV.refl(b:Hp)(a:Bx):sK bV a:=⟨I,I,I,λ_ c=>.D c,λ_ c=>.D c⟩
def ė(b:s5)(c a:Hp):Prop:=∀d e,d∉b->HU=HH->MY=HH
def ė.refl(b:s5)(a:Hp):sK ė a:=λ_ _ _ c=>c
def ė.trans{c:Hp}(d:AM (ė b.ü))(f:io bV j)(g:CF (ė j.ü)):mt$ ė b.ü:=λh i k l=>t3 g (λz=>(f.ü h z).elim k λm=>by rw[m]at l;cases l)$ AI$ t3 d
def bV.trans{d:Bx}(c:io bV j)(g:AM (ė b.ü))(f:bV e j d):LP bV:=by
 have h:∀i,QM e->i∈b.ü\/QM a:=λi z=>by cases k:a i with
 |none=>calc Ps
 |some l=>by_cases m:i∈b.ü;calc .D m;rw[AE (g i) k]at z;cases z
 calc⟨f.b.trans c.b,f.dx.trans c.dx,f.La.trans c.La,λi n=>?_,λi n=>?_⟩;rcases f.ü i n with z|z;calc c.ü i z;calc h i z;rcases f.ws i n with z|z|z;calc c.ws i z;calc .X$ c.ü i z;calc .X$ h i z
def dk.get(d:t3 (dk a)):∀{c:M}{b:At},i[c]? =ZC->∃e,h[c]? =HH/\a e=BG (BT b.q):=by induction d with
|nil=>intro c b f;cases f
|cons g j k=>intro c b f;cases c with
 |zero=>cases f;calc⟨_,I,g⟩
 |HW c=>calc k f
def dk.set(e:t3 (dk a)):∀{c:M}{d:β}{b:At},MY=BG (BT b.q)->dk a (re h.set) (Ev i.set):=by induction e with
|nil=>intro c d b f;calc .nil
|cons g j k=>intro c d b f;cases c with
 |zero=>calc .cons f j
 |HW c=>calc .cons g$ k f
def dk.eI(c:t3 (dk a))(b:∀d f,BH h->MY=MO->e d=MO):t3$ dk e:=by induction c with
|nil=>calc .nil
|cons d g j=>calc KU (VN JJ d)$ j λk f l m=>b k f (LS l) m
def ku(l:f8):aiT QO:=by simp[zs]
def agv(l:f8)(a b:M):XF.set a (FL GI)=BT (zs$ io l.set).q:=by unfold zs;rw[<-dv,<-dv]
inductive aew(vs:g3)(H:Hp)(f:VK)(g:XK):Prop|mk(x:Bx)(b u e:β)(L:Ž)(B:ŏ)(d cells:M):vs=[JP,OR,AB cells]->aj5 b u e L->VJ (d<B.ζ.length->d<B.wants.length->d<B.Ú.length->cells<RV->ZM<=100->PP (B.wants.getD d []).length->(∀a c,JY (ė x.ü)->Ix bV c->mt bg (B.put L d cells)->f (.bl (B.wI L d cells)) a)->on (AJ aew))
def Zz(a:Ĭ):vj.P c 1 aew:=by
 calc vj.ok ["self","digit","cells","keep","left","cell","unit"] aqk;let⟨⟨h,i,j,k,w,l,m,n⟩,o,p,q,r,s,t,u,I,v,x,y,A,B,D,G,H,J⟩:=g;have L:=x.obj;have N:=x.pl;have O:=x.wt;have b:=x.st;have e:=x.ck;have o:=x.wl;have q:=x.nbp;have H:=x.nbw;have g:=x.nbs;have a0:=x.lws;have b0:=v.obj;have c0:=v.ul;let⟨v,d0,f0,g0,h0,i0,j0,k0,uF,l0⟩:=x.ap;dsimp only at*;calc ln λx x x x x x m0=>⟨_,η (GX m0 (YW AG))$ η (OG m0 BU)$ η (cL (ND CV Φ) (η (À 5 m0 (GC CV (bD iC CV))) (η (bN 3 m0 (aX (ba x) (Ø Cl) JM WJ) l_) (μ (bN 4 m0 JM Ce)))))$ η (oh (RF (PH BU)) (og Cl AG d7))$ η (oh (ID m0 (ņ (YW AG)) (İ (ü:=[("unit",6)]) (by show EA (dj ["self","digit","cells","keep","left","cell","unit"] (ê (QE 3)));decide+AO)) (λ_ _ _ _ _=>Ψ 6 m0) (YR (d6 (dm (GC OJ BU)))) (λ_ _ _ _ _=>OJ)) (og Cl AG d7))$ η (B9 Cl AG af0 BU cM d7)$ rc$ o8 bO (RF BU) BU,?_⟩;have x:2^(r.n*r.n)<=VZ:=Uf G;have G:=Ė y;walk_at "s";simp! [G];calc dn (λG n0 o0=>X2 λp0 r0=>A4 (n0=[f4 NB,f4$ .int t,f4$ .int u,NQ p0,NQ G,r0,none]) (d=o0) (G<2^(r.n*r.n)) (bL r p0 G=bL r (s.ζ.getD t 0) u)) _ ⟨_,none,I,I,D,I⟩ ?_;rintro D n0 o0 G kT G ⟨p0,r0,I,I,s0,t0⟩;by_cases u0:D=0;subst u0;have v0:p0=bL r (s.ζ.getD t 0) u:=by rw[<-t0];unfold bL;rw[gH];rfl
 subst v0;have w0:(s.wants.q zs)[t]? =f4 (zs (auo [])):=by rw[Δ,δ A,γ,δ A];rfl
 let⟨x0,y0,z0⟩:=dk.get o w0;have A0:x0≠k:=λz=>j0 (z▸Î y0);simp!;calc G _ ?_;simp! [oI,-hY,-hW];calc swK N (fJ (by rw[Τ];calc y)) λy N G=>?_;rw[jR]at G;have y:=IT NG;have B0:=NG v.symm O;have O:=NG A0 z0;have C0:(GG n.q)[t]? =f4 (V.ref x0):=by rw[Δ,y0];rfl
 simp! [C0,-Δ];calc sw$ G8 (xs:=BT (zs$ auo []).q) (dq O) (by rw[aS];show BC;lia) (λO=>(λp=>p&&&u==0)$ (auo []).getD O 0) λO=>CK$ (auo []).getD O 0;intro O D0 F0 G0 H0 I0 J0 K0 M0;have N0:O<(auo []).length:=by have:=(φ.J G0).1;rw[aS]at this;exact this
 rw[qD N0]at G0;cases G0;walk_at "w";by_cases O0:(auo []).getD O 0&&&u=0;simp! [e_,O0];calc IR$ K0 (by simpa using O0);simp! [e_,O0];calc IR$ M0 (by simpa using O0);intro P0 F0 Q0 H0 G0;rw[aS,ķ (auo []) (λp=>p&&&u==0) (λr0=>FL$ jp r0) 0]at G0;have p:P0≠k:=(ρ G Q0).symm;have R0:P0≠w:=(ρ B0 Q0).symm;have S0:P0≠l:=(ρ (NG d0.symm b) Q0).symm;have T0:P0≠m:=(ρ (NG f0.symm e) Q0).symm;have U0:hm$ d P0:=by cases z:d P0 with
 |none=>rfl
 |some V0=>rw[NG p z]at Q0;cases Q0
 have W0:=ga H0 y;simp! [-hY,-hW];calc swK (ga H0 B0) (fJ (by rw[θ,a0];calc A)) λA y A=>?_;have X0:=UL H W0;have Y0:=UL g0.symm$ ga H0$ NG d0.symm b;have b:=Ė B;simp! [b,Hn,-hY,-hW];calc swK Y0 (fJ (by rw[Τ];calc B)) λB b Z0=>?_;rw[jR]at Z0;have a1:sB (kw (bL r (s.ζ.getD t 0) u&&&u)=jp u)=EB (s.wI r):=auR.Q U.cz;simp! [e_,-U.eQ];rw[a1];have u:∀b1 V0,b1∉[k,w,l]->d b1=f4 V0->B b1=f4 V0:=λb1 V0 c1 t0=>by simp only[ν,ã,GS,MG]at c1;exact VN (wS c1)$ UL (lv c1)$ ga H0$ NG c1.1 t0
 have N:NA [h,k,w,l,m] B:=λb1 V0 c1 t0=>u b1 V0 (by simp at c1|-;calc⟨lv c1,lv c1.2,lv$ wS c1⟩) t0;calc J _ ⟨h,i,j,k,w,l,m,n.set t P0⟩ N ⟨I,I,I,λb1 c1=>.D c1,λb1 c1=>(ke c1).elim .D λt0=>OX (by rw[t0];calc U0)⟩ ⟨u h _ (by simp[q,H,g]) L,VN d0$ UL v$ ga H0 G,?_,?_,Z0,u m _ (by simp[f0.symm,h0.symm,i0.symm]) e,?_⟩;rw[VN g0 A,dv];show ga dk ((s.wants.set t _).q zs);rw[dv];calc dk.set (dk.eI o (λb1 V0 c1 t0=>u b1 V0 ?_ t0)) ?_;simp only[ν,ã,GS,MG];calc⟨λz=>j0 (z▸c1),λz=>k0 (z▸c1),λz=>uF (z▸c1)⟩;rw[VN S0$ UL R0 G0];simp[zs];have d:∀z,z∈n.set t P0->z∈n\/z=P0:=λz O0=>ke O0;calc⟨v,d0,f0,g0,h0,i0,λz=>(DG d).elim j0 λt0=>p t0.symm,λz=>(DG d).elim k0 λt0=>R0 t0.symm,λz=>(DG d).elim uF λt0=>S0 t0.symm,λz=>(DG d).elim l0 λt0=>T0 t0.symm⟩;let⟨O,h,i,j⟩:=dX u0;have k:low D=2^O:=j;have N0:=Į s0 h;have l:¬kw D=0:=gt
 have m:=Hr r N0;simp! [u0,l];calc kT _ λf s=>?_;simp! [Ts D u0,k,Zv,Bd h,e_,-U.ae,m];calc ga s.n ⟨_,vY h,_,_,I,I,aqj s0,?_⟩;rw[<-t0];unfold bL;rw[t3$ wA$ Ä s0 x];rfl
@[simp]def ao5(a b:M):ī DD (dS GI)=kw (io õ):=io oI
@[simp]def aq7(a b:M):ī DD GI=kw SK:=io e_
@[simp]def aso(a b:M):jV DD GI=kw (a|||b):=io Hn
inductive aex(vs:g3)(H:Hp)(c:VK)(e:XK):Prop|mk(x:Bx)(B:ŏ)(d a:M):vs=[JP,OR,KM]->VJ (d<B.ζ.length->(∀b,JT (ė x.ü)->bg b x {B with ζ:=B.ζ.set d$ õ (IM B.ζ.getD) a}->c .Ť b)->AH (AJ aex))
def Z3(a:Ĭ):uY.P c 1 aex:=by calc uY.ok ["self","digit","cell"] aqk;let⟨⟨h,i,j,k,w,l,m,n⟩,o,p,q,I,r,s,t⟩:=g;have u:=r.obj;have v:=r.pl;have x:=r.ap;have y:=r.nbp;dsimp only at*;calc ank ⟨_,μ$ B9 Cl AG af0 (PH BU) l_ d7,?_⟩;have N:=Ė s;walk_at "s";simp! [N,oI,-hY,-hW];calc swK v (fJ (by rw[Τ];calc s)) λO b d=>?_;rw[jR]at d;calc t _ (λe f i j=>py b (λz=>i (by simp[Bx.ü,z])) j) ⟨b h _ y u,d,b w _ x.pw.symm r.wt,dk.eI r.wl λe f i j=>py b (λz=>x.np (z▸i)) j,b l _ x.ps.symm r.st,b m _ x.pc.symm r.ck,x⟩
inductive xN(vs:g3)(H:Hp)(d:VK)(e:XK):Prop|mk(x:Bx)(B:ŏ)(a:M):vs=[JP,KM]->VJ (asK ((∀c b,aqX->EW b->Db=xL (B.aV a)->d CO b)->SD xN))
def vp(a:Ĭ):jA.P c 1 xN:=by
 calc jA.ok ["self","cell","digit","places"] aqk;let⟨⟨h,i,j,k,w,l,m,o⟩,p,q,I,r,s,t⟩:=g;have u:=r.obj;have x:=r.pl;dsimp only at*;calc ln λy z A B D G H=>⟨_,atf$ ID H (ak3 JZ QQ) (İ (ü:=[("digit",2),("places",3)]) (by show EA (dj ["self","cell","digit","places"] (ê (QE 9)));decide+AO)) (λ_ _ _ _ _=>j9 (n:=2) I$ č (IJ H)$ JR$ FN H)$ YR$ dm$ RF AG,?_⟩;walk_at "s";simp!;calc sw$ lcE (xs:=Ě p.ζ) (dq x) (by rw[Τ];show BC;lia) (λJ=>p.ζ.getD J 0&&&q !=0) λJ=>HM J;intro L v N O b d e f h i j;let⟨k,I⟩:=Ū b;calc LN$ aK e;walk_at "w";by_cases l:p.ζ.getD L 0&&&q=0;simp! [e_,l];calc IR$ j as3;have m:¬kw (p.ζ.getD L 0&&&q)=0:=gt
 simp! [e_,l,m];calc IR$ i as3;intro o N s d g;rw[Τ]at g;calc t o N s d ?_;rw[g,ľ];rfl
inductive zY(vs:g3)(H:Hp)(d:VK)(e:XK):Prop|mk(x:Bx)(B:ŏ)(a:β)(dY:f8):vs=[JP,AC]->VJ (asK (WR dY->dY.length=B.ζ.length->(∀b c,JT (ė x.ü)->Ix bV c->lf bg (B.dE dY)->d .Ť b)->SD zY))
def Mq(a:Ĭ):kS.P c 1 zY:=by
 calc kS.ok ["self","pins","pinned","own","places"] aqk;let⟨⟨h,i,j,k,w,l,m,o⟩,p,q,r,I,s,t,u,x,y⟩:=g;have A:=s.obj;have B:=s.pl;have D:=s.ap;dsimp only at*;calc ln λG H J L N O b=>⟨_,NH (FT b)$ η (aup (FN b) (μ (bN 2 b FC cM)))$ μ$ agB$ ID b (aiJ I JZ.zip aud) (İ (ü:=[("places",4),("own",3)]) (by show EA (dj ["self","pins","pinned","own","places"] (ê (QE 7)));decide+AO)) (λ_ _ _ _ _=>j9 (n:=2) I$ č (IY b)$ JR$ FN b) Tm λ_ _ _ _ _=>Í Wz (GC CV (PH BU)) FC,?_⟩;walk_at "s";simp!;calc sw$ cD (xs:=Ě r) (dq u) (λe k t=>X1 λG=>A2 (d=t) (k=[f4 NB,f4 aeH,BJ$ dz$ r.take e,G,none])) ⟨none,I,I⟩ (λ e k t _⟨_,g,_⟩=>dq (by rw[<-g];calc u));rintro e v k t f H J ⟨G,I,I⟩;have L:=H.n;let⟨N,I⟩:=Ū J;have O:dz (r.take LH)=dz (r.take e)|||FI r.getD:=by rw[å,γ,δ N];unfold dz;rw[ŭ,Þ];rfl
 rw[O]at L;simp! [Hn];calc MD ⟨_,I,I⟩;rintro k t ⟨G,I,I⟩;rw[Τ,Ò];simp! [-ĕ];calc sw$ lcZ (xs:=Ě p.ζ) (ys:=Ě r) (dq B) (dq u) (by rw[Τ,Τ,x]) (by rw[Τ];show BC;lia) KY λb=>CK (õ (AW p.ζ.getD) (dz r)|||AW r.getD);intro e f v g H B J k t G L O f;let⟨N,I⟩:=Ū B;rw[Ė (x▸N)]at J;cases J;calc LN$ aK t;walk_at "w";simp! [oI,Hn];calc IR$ O I;intro H g G k L;have x:=NN A;have J:(p.dE r).ζ=BR p.ζ.length (λb=>õ (AW p.ζ.getD) (dz r)|||AW r.getD):=I;rw[Τ,CZ]at L;have B:g H=xL (p.dE r).ζ:=by rw[L,J,ľ,Χ];rfl
 have t:h≠H:=ρ A G;simp! [-ĕ];calc sk x r7 6 I λO f b=>?_;have p:∀q r,q≠h->d q=f4 r->O q=f4 r:=λq r u J=>JI u$ NN J;calc y _ ⟨h,i,j,H,w,l,m,o⟩ (λq r u J=>BW p (λz=>u (by simp[Bx.ü,z])) J) ⟨I,I,I,λq u=>?_,λq u=>.D u⟩ ⟨b,JI t.symm B,p w _ s.nbw.symm s.wt,dk.eI s.wl λq r u J=>BW p (λz=>s.ajU (z▸u)) J,p l _ s.nbs.symm s.st,p m _ s.nbc.symm s.ck,?_⟩;simp only[Bx.ü,ν,ã,GS]at u|-;rcases u with I|I|I|I|I;calc .D GQ;calc .X G;calc .D$ OX GQ;calc .D$ .X$ OX GQ;calc .D$ .X$ OX Ps;calc⟨(ρ s.wt G).symm,(ρ s.st G).symm,(ρ s.ck G).symm,D.wsn,D.wc,D.sc,RP,D.nw,D.ns,D.nc⟩;let⟨e,N⟩:=â.J z;let⟨g,L,A⟩:=Ā s.wl N;rw[G]at A;cases A
def bg.same(c:LP bg)(f:AM Μ):v4$ bg e:=⟨JI c.obj,JI c.pl,JI c.wt,dk.same c.wl f,JI c.st,JI c.ck,c.ap⟩
def mN.same{d:β}(b:AE (AR mN) d n)(c:AM Μ):AE (py mN) d n:=⟨SZ b.obj,SZ b.us,SZ b.ul⟩
def bg.ajV(c:LP bg)(e:At):bg (ø a b.c (AQ (BT e.q))) b {d with ž:=e}:=have f:∀g h,g≠b.c->a g=OE->ø a b.c _ g=OE:=λg h i j=>(ω i).trans j;⟨JI c.nbc c.obj,JI c.ap.pc c.pl,JI c.ap.wc c.wt,dk.eI c.wl λg h i j=>ww f (λz=>c.ap.nc (z▸i)) j,JI c.ap.sc c.st,Α,c.ap⟩
def bg.ac3{h:HO}(e:LP bg)(c:f∉b.ü)(g:f∉b.ws):v4$ bg$ AR ø h:=by simp only[Bx.ü,ν,ã,GS,MG]at c;have i:∀j k,j≠f->a j=RY->GH (AR ø)=RY:=λj k l m=>(ω l).trans m;calc⟨ga i (Ne.symm EZ) e.obj,ga i (Ne.symm (lv c)) e.pl,ga i (Ne.symm (lv c.2)) e.wt,dk.eI e.wl λj k l m=>AS i (λz=>g (z▸l)) m,ga i (Ne.symm (lv (wS c))) e.st,ga i (Ne.symm (wS (wS c))) e.ck,e.ap⟩
def bg.Pe{c:ŏ}(f:EE bg){d:M}(e:d<c.wants.length):∃g,b.ws[d]? =HK/\a g=xL (c.wants.getD d []):=by
 have h:(c.wants.q zs)[d]? =f4 (zs (c.wants.getD d [])):=by rw[Δ,δ e,γ,δ e];rfl
 calc dk.get f.wl h
inductive aey(vs:g3)(H:Hp)(c:VK)(d:XK):Prop|mk(x:Bx)(B:ŏ):vs=[JP]->VJ (asK ((∀(T:β)(a:Hp)(b:At),b.dW (zs B.ζ)->b.bb (·<= ·)->hm (H T)->IS (a T=KS (BT b.q)->c (wp T) a))->UV aey))
def Z4(a:Ĭ):uZ.P c 1 aey:=by calc uZ.ok ["self"] aqk;let⟨⟨h,i,j,k,w,m,n,o⟩,p,I,q,r,s⟩:=g;have t:=q.obj;have u:=q.pl;dsimp only at*;calc ln λv x y z A B D=>⟨_,rc$ ń Y8 JZ.tuple vH$ ol$ Ļ sortedS JZ.age akB$ ol MR,?_⟩;calc⟨_,I,h,CB,i,_,_,I,t,tB.clB,tB.Ep,aev ..,k,zs p.ζ,I,.D$ .D u,by simp[zs];lia,λG H J L N=>?_⟩;calc⟨H,BT G.q,I,.D ⟨wT Α,λl O=>?_⟩⟩;calc s l _ G J L ((Μ.new N).free O) ((Μ.new N).trans (Μ.new O)) Α
def Dr(a:M):ī DD (DD-1)=kw (a&&&(a-1)):=by cases a with
|zero=>decide
|HW a=>rw[show(DC:M)-1=DD by lia,e_];rfl
inductive xO(vs:g3)(H:Hp)(e:VK)(g:XK):Prop|mk(x:Bx)(B:ŏ):vs=[JP]->VJ (asK (B.wants.length=B.ζ.length->B.ž.length=B.ζ.length->(∀f a b c d,aW B B.ζ.length=f4 (b,c,d)->hm (H f)->JY (ė x.ü)->a f=BG (Ě b)->bg a x {B with ž:=d}->e EH a)->(∀a d,hm (aW B B.ζ.length)->JY (ė x.ü)->bg a x {B with ž:=d}->e .Ť a)->GZ (AJ xO)))
def Hs(a:Ĭ):jB.P c 1 xO:=by
 calc jB.ok ["self","pins","pinned","digit","places","own","unit","inside"] λb e f g h=>?_;let⟨i,j,I,k,l,m,o,p,q⟩:=h;have r:=k.obj;calc atb ⟨_,η (KW B RS)$ NH (FT B)$ η (Ī (ak3 JZ QQ) (j9 (n:=2) I (č (FN B) (JR (IY B)))) (NH (À 5 B) (ER (ď (ND CV (YW FC)) (η (oh CV (og Cl FC d7)) (η (KG (YW FC) (Ψ 6 B) (η (À 7 B (GC CV OJ)) (HL (YL (GC (pw 7) (RT (pw 7) Φ)) (afb (akQ (pw 7)) (μ (bN 5 B (pw 7) cM))))))) (afb (ď (dm (GC JM BU))) (μ (bN 2 B JM cM)))))) (IW (TX AG aqm)))))$ rc AG,?_⟩;walk_at "s";simp!;calc af λD G H J L=>?_;have N:=k.same J;simp!;have O:∀b,b<j.ζ.length->hm (aW j BP)->hm (aW j j.ζ.length):=λb f l=>by have:=nD l (j.ζ.length-BP);rw[show BP+(j.ζ.length-BP)=j.ζ.length by lia]at this;exact this
 calc sw (xI (xs:=Ě j.ζ) (wT N.pl) (λb m o=>X8 (λ r(s:M) t u x y A B=>A5 (aW j b=f4 (r,s,t)) (m=[AT i.b,abn,BJ s,u,x,y,A,B]) (ė i.ü e o) (o D=BG (Ě r))$ bg o i {j with ž:=t})) ⟨[],0,j.ž,none,none,none,none,none,I,I,λG a0 _ l=>J G a0 l,L,N⟩) ?_;rintro b m o _ ⟨r,s,t,u,x,y,A,B,l,I,J,L,N⟩;calc wT N.pl;rintro b v m o b0 c0 g g d0 f0 st g0 ⟨r,s,t,u,x,y,A,B,l,I,J,L,N⟩;let⟨f,I⟩:=Ū d0;let⟨h0,i0⟩:=eV l;calc LN$ aK g0;have j0:=N.same st;have k0:ė i.ü e b0:=λG a0 l0 l=>ga st$ J G a0 l0 l;have m0:=ga st L;have n0:=j0.obj;have o0:=j0.ck;have p0:=j0.wt;have r0:t[b]? =f4 (AW t.getD):=by rw[γ,im δ];rfl
 have s0:D≠i.c:=WW k.ck;have t0:=j0.nbc;have u0:=j0.ap.wc;have v0:=nE l;by_cases w0:kw SE=AW t.getD;rw[ii w0]at v0;simp! [r0,w0];have x0:Ě r++[XD]=Ě (r++[0]):=by rw[ľ,ľ,Æ];rfl
 have y0:D∉i.ü:=by simp only[Bx.ü,ν,ã,GS,MG];exact⟨WW k.obj,WW k.pl,WW k.wt,WW k.st,s0⟩
 calc wn (by show BC;lia);simp!;rw[x0];calc ga g.n ⟨_,_,_,_,_,_,_,_,v0,I,λG a0 l0 l=>?_,Α,j0.ac3 y0 ?_⟩;rw[ω$ ρ l H];calc k0 G a0 l0 l;intro z;let⟨b,f⟩:=â.J z;let⟨z0,A0,B0⟩:=Ā k.wl f;rw[H]at B0;cases B0;rw[hf w0]at v0;have C0:=j0.ajV$ t.set b$ kw SE;rw[dv]at C0;have y0:D∉i.ü:=by simp only[Bx.ü,ν,ã,GS,MG];exact⟨WW k.obj,WW k.pl,WW k.wt,WW k.st,s0⟩
 have D0:D∉i.ws:=λz=>by let⟨b,f⟩:=â.J z;let⟨z0,A0,B0⟩:=Ā k.wl f;rw[H]at B0;cases B0
 have k:ė i.ü e$ ø b0 i.c$ LO$ (BT t.q).set b$ CK SE:=λG a0 l0 l=>by rw[ω λz=>l0 (by simp[Bx.ü,z])];exact k0 G a0 l0 l
 have e:ø b0 i.c (LO ((BT t.q).set b (CK SE))) D=BG (Ě r):=DK s0 m0;let⟨F0,A0,B0⟩:=C0.Pe (d:=b) (show b<j.wants.length by lia);have G0:Gn (BT t.q).length GI=ZC:=fJ (by rw[θ];lia);simp! [r0,w0,A0,-dv];generalize ø b0 i.c (LO ((BT t.q).set b (CK SE)))=H0 at C0 k e B0|-;calc sw$ cD (xs:=Ě$ auy []) (wT B0) (λe m o=>X3 (λ(I0:M) A B=>A3 (m=[AT i.b,abn,BJ s,BJ b,NQ SE,BJ I0,A,B]) (H0=o) (jk SE ((auy []).drop e) I0=jk SE (auy []) 0))) ⟨0,A,B,I,I,I⟩ (λ e m o _⟨_,_,_,_,h,_⟩=>by rw[<-h];calc wT B0);rintro e v m o h i d0 ⟨I0,A,B,I,I,h⟩;have J0:e<(auy []).length:=by have:=(φ.J d0).1;rw[Τ]at this;exact this
 rw[Ė J0]at d0;cases d0;rw[cH (auy []) 0 J0,qg]at h;generalize PR (auy [])=e at h|-;by_cases K0:(SE&&&e)&&&((SE&&&e)-1)=0;rw[BZ K0]at h;by_cases M0:SE&&&e=0;rw[BZ M0]at h;rw[<-h]at v0;simp! [Dr,K0,M0,show ī (jp 0) (-1)=0 by decide];calc ga i.r$ ga g.r$ VP (DA O v0) k C0;rw[DP M0]at h;simp! [Dr,K0,M0];calc ga i.n ⟨_,_,_,I,I,h⟩;rw[DP K0]at h;simp! [Dr,K0];calc ga i.n ⟨_,_,_,I,I,h⟩;rintro m o ⟨I0,A,B,I,I,h⟩;rw[Τ,g5]at h;rw[<-h]at v0;have i:aW j BP=if I0&&&s=0 then f4 (r++[I0],s|||I0,t.set b$ kw SE)else none:=by rw[v0];rfl
 by_cases h:I0&&&s=0;rw[ii h]at i;simp! [h];have x0:Ě r++[HM I0]=Ě (r++[I0]):=by rw[ľ,ľ,Æ];rfl
 calc wn (by show BC;lia);simp!;rw[x0];calc ga g.n ⟨_,_,_,_,_,_,_,_,i,I,λG a0 l0 l=>?_,Α,C0.ac3 y0 D0⟩;rw[ω$ ρ l H];calc k G a0 l0 l;rw[hf h]at i;simp! [h];calc ga g.r$ VP (DF (O b)) k C0;rintro m o ⟨r,s,t,u,x,y,A,B,l,I,J,L,N⟩;rw[Τ]at l;simp!;calc DQ (p D o r) l H J L N
structure vq(H:Hp)(x:Bx)(a u b:β)(L:Ž):Prop where
 jf:aj5 a u b L
 nL:TU x.La
 nu:TU u
 nd:TU b
def vq.step{x':Bx}(c:AE (io vq f) n)(d:AM (ė b.ü))(g:io bV x'):AE (vq e x' f) n:=by
 have h:∀i j,a i=ak6->i∉b.ü->i∉x'.ü:=λi j k o z=>(g.ü i z).elim o λp=>by rw[p]at k;cases k
 calc⟨⟨?_,IB c.nu c.jf.us,IB c.nd c.jf.ul⟩,?_,UP c.jf.us c.nu,UP c.jf.ul c.nd⟩;rw[g.La];calc IB c.nL c.jf.obj;rw[g.La];calc UP c.jf.obj c.nL
def Mr{l:β}(b:ME a)(c:HO):∃d,EF ø c=d/\wE Μ/\d l=HE:=⟨_,I,Μ.new b,Α⟩
inductive Pf(vs:g3)(H:Hp)(d:VK)(e:XK):Prop|mk(x a b p w s c:β)(o:M):vs=[DJ,AZ,.ref p,.ref w,VY,.int o,CO]->TQ (DW CB a [])->d .Ť (Ix ø (DW CB a (qQ b p w s o c)))->SD Pf
def Ht(a:Ĭ):(kU a).P c 1 Pf:=by calc EI kU ["self","layout","places","wants","stands","open_cells","checked"] aqk;let⟨h,i,j,k,w,l,m,n,I,o,p⟩:=g;calc ln λq r s t u v x=>⟨_,η (SM IC)$ η (SM LK)$ η (SM OK)$ η (SM (pv 4))$ η (SM (pv 5))$ μ$ SM$ pv 6,?_⟩;calc⟨_,I,_,I,h,CB,i,_,I,o,tB.clB,tB.aiG,DU,_,I,_,I,h,CB,i,_,I,Α,tB.clB,tB.Ep,(by show Id 1;decide),_,I,_,I,h,CB,i,_,I,Α,tB.clB,tB.nWa,(by show Id 2;decide),_,I,_,I,h,CB,i,_,I,Α,tB.clB,tB.nSt,(by show Id 3;decide),_,I,_,I,h,CB,i,_,I,Α,tB.clB,tB.nOp,(by show Id 4;decide),_,I,_,I,h,CB,i,_,I,Α,tB.clB,tB.nCk,(by show Id 5;decide),?_⟩;show e .Ť _;rw[bx,bx,bx,bx,bx];calc p
inductive Z5(vs:g3)(H:Hp)(h:VK)(i:XK):Prop|mk(x:Bx)(e u g:β)(L:Ž)(B:ŏ)(d a:M):vs=[JP,OR,KM]->aj5 e u g L->anX (d<L.n->a<RV->(∀b f,EW b->f.La=x.La->(∀c,c∈f.ü->aqX)->(∀c,c∈f.ws->c∈x.ws\/aqX)->DA bg (EK (B.ù L))->h (wp f.b) b)->t3 (AJ Z5))
def v8(a:Ĭ):iH.P c 3 Z5:=by
 calc iH.ok ["self","digit","cell","places","cells","left","board"] aqk;let⟨h,j,k,l,m,n,o,p,I,q,r,s,t,u,x⟩:=g;have y:=r.obj;calc ank ⟨_,η (JS (iE (i:=3) I L) (auq (by decide+AO)) (ņ Cl) (İ (ü:=[("cells",4)]) (by show EA (dj ["self","digit","cell","places","cells","left","board"] (ê (QE 1)));decide+AO)) (λ_ _ _ _ _=>IY L) Tm (λ_ _ _ _ _=>GC CV$ PH BU))$ η (À 5 L (GC Cl (PH BU)))$ η (À 6 L (gQ (Ht a) J (ZT (ε FC (ε (ar1 QQ) (ε (ar1 QQ) (ε JM (ol (ar1 QQ)))))))))$ η (Ł (MN Zz J OJ (VQ XM)))$ rc OJ,?_⟩;have N:=s.n9;have O:=s.lp;walk_at "s";simp!;calc sw$ G8 (xs:=Ě n.ζ) (wT r.pl) (by rw[Τ];show BC;lia) KY λb=>CK$ õ (AW n.ζ.getD) p;intro b v e f g y A B D;let⟨G,I⟩:=Ū f;walk_at "w";simp!;calc IR$ B I;intro H e J g L;have e0:BR n.ζ.length (λb=>CK$ õ (AW n.ζ.getD) p)=Ě (n.ζ.q (λN=>õ N p)):=by rw[ľ,Χ];have:=ķ n.ζ KY (λN=>CK$ õ N p) 0;rw[CZ,CZ]at this;rw[this];rfl
 rw[Τ,CZ,e0]at L;have y:=r.same g;have A:=y.obj;simp!;calc af λD f B A f=>?_;have a0:=y.same A;simp!;calc af λy b0 c0 d0 f0=>?_;have g0:=a0.same d0;simp!;calc af λh0 i0 j0 k0 l0=>?_;simp!;intro m0 n0 o0 p0 r0;calc⟨m0,n0,h.La,H,D,y,h0,õ n.ĵ p,I,Α,?_⟩;rw[bx];have s0:hm$ atI m0:=DK (Ne.symm r0) o0;have t0:Μ i0$ ø atI m0 atK:=(Μ.new p0).trans$ Μ.new s0;have u0:ø atI m0 atK m0=f4 atK:=Α;revert t0 u0;generalize ø atI m0 atK=v0;intro t0 u0;have w0:Μ e v0:=A.trans$ d0.trans$ k0.trans t0;have e:LF v0:=g.trans w0;have x0:hm$ d D:=g.free B;have y0:hm$ d y:=g.free$ A.free c0;have z0:hm$ d h0:=g.free$ A.free$ d0.free j0;have A0:hm$ d m0:=g.free$ A.free$ d0.free$ k0.free o0;have g:=f;have g:H≠D:=VS ρ;have B:H≠y:=ρ (ga A L) c0;have B0:H≠h0:=ρ (ga d0 (ga A L)) j0;have A:D≠y:=ρ f c0;have C0:D≠h0:=ρ (ga d0 f) j0;have D0:y≠h0:=ρ f0 j0;have F0:∀z,hm (d z)->z∉h.ws:=λz G0 H0=>by let⟨b,G⟩:=â.J H0;let⟨b,b,b⟩:=Ā r.wl G;rw[G0]at b;cases b
 have G:bg v0 ⟨m0,n0,h.La,H,D,y,h0,h.ws⟩ {ζ:=n.ζ.q λN=>õ N p,wants:=n.wants,Ú:=n.Ú,ĵ:=õ n.ĵ p,ž:=zs n.ζ}:=⟨u0,ga w0 L,ga t0$ ga k0$ ga d0 f,dk.same r.wl e,ga t0$ ga k0 f0,ga t0 l0,⟨g,B,B0,A,C0,D0,F0 _ J,F0 _ x0,F0 _ y0,F0 _ z0⟩⟩;simp!;calc⟨⟨m0,n0,h.La,H,D,y,h0,h.ws⟩,j,k,l,m,_,o,p,I,q.same e,G,by simp[O,t],by rw[s.lw];calc t,by rw[s.ls];calc t,u,s.nn,s.bw o,λb j k l m=>?_⟩;have n:∀o,o∈(⟨m0,n0,h.La,H,D,y,h0,h.ws⟩:Bx).ü->hm (d o):=λo p=>by simp only[Bx.ü,ν,ã,GS]at p;rcases p with I|I|I|I|I;calc A0;calc J;calc x0;calc y0;exact z0
 have q:=x b j (λo r s=>k o r (λz=>by rw[n o z]at s;cases s)$ HX$ e o) l.La (λo p=>(BF l.ü).elim (n o) λs=>e.free s) (λo p=>(BF l.ws).elim .D λz=>.X$ z.elim (n o) λs=>e.free s) m;rw[l.b]at q;simp!;calc q
def d8{a b:Type}(d:b->a->b)(e:b)(l:List a)(g:a){c:M}(f:c<l.length):s3 (l.take BD).ah=d (s3 (l.take c).ah) (l.getD c g):=by rw[å,δ f,ŭ,Þ,γ,δ f];rfl
inductive Hu(vs:g3)(H:Hp)(c:VK)(d:XK):Prop|mk(b:M)(a:β)(units:f8):vs=[LZ,AC]->WR units->c (AD (BL q6 b)) H->UV Hu
def Tu(a:Ĭ):(oD a).P c 1 Hu:=by
 calc EI oD ["cell","unit_sets","linked","unit"] aqk;let⟨h,i,units,I,j,k⟩:=g;calc ata ⟨_,NH (FT s)$ η (aup (FN s) (HL (ď (ND (RF FD) Φ) (μ (bN 2 s FC cM)))))$ rc$ GC BU$ PH FD,?_⟩;walk_at "s";simp!;calc sw$ cD (xs:=Ě units) (dq j) (λt u x=>X1 λy=>A2 (d=x) (u=[f4$ .int h,f4 OH,BJ$ (units.take t).ah (λl z=>if z&&&h=0 then l else l|||z) 0,y])) ⟨none,I,I⟩ (λ t u x _⟨_,g,_⟩=>dq (by rw[<-g];calc j));rintro t v u x f A B ⟨y,I,I⟩;have D:=A.n;let⟨G,I⟩:=Ū B;rw[BL (ga d8) 0 G]at D;by_cases H:units.getD t 0&&&h=0;simp! [e_,H];rw[ii H]at D;calc PL ⟨_,I,I⟩;have J:¬kw (units.getD t 0&&&h)=0:=gt
 simp! [e_,H,J,Hn];rw[hf H]at D;calc PL ⟨_,I,I⟩;rintro u x ⟨y,I,I⟩;rw[Τ,Ò];simp! [oI];calc k
inductive Hv(vs:g3)(H:Hp)(c:VK)(e:XK):Prop|mk(a:β)(g:f8)(d:M):vs=[AC,OR]->ahg (Ě g)->g.length<=100->(∀b,EW b->c (AD (v3 g d)) b)->AH (AJ Hv)
def Tv(a:Ĭ):(jG a).P c 1 Hv:=by
 calc EI jG ["givens","digit","cells","cell","given"] aqk;let⟨h,i,j,I,k,m,o⟩:=g;calc ln λp q r s t u x=>⟨_,NH (FT x)$ akL$ Ī (ak3 JZ ZZ) (j9 (n:=2) I (č (FN x) (JR (IY x))))$ HL$ WP (hs (ND CV Φ) (fF (ND CV AG)))$ μ$ bN 2 x (TK FC) cM,?_⟩;walk_at "s";simp!;calc sw$ xI (xs:=Ě i) (dq k) (λy A B=>X2 λD z=>A2 (LF B) (A=[f4 NB,aoT,BJ$ Û$ (ι y).filter λy=>adY !=0&&adY !=j,D,z])) ⟨none,none,HJ,I⟩ (λ y A B _⟨_,_,g,_⟩=>dq$ GK k);rintro y v A B G H f J L N O b ⟨D,z,e,I⟩;have m:=J.n;let⟨p,I⟩:=Ū L;have q:=e.trans O;calc LN$ aK b;have r:jp 2^y=TV y:=mo
 have s:∀l:f8,Û (l++[y])=Û l|||2^y:=λl=>by unfold Û;rw[Þ];rfl
 rw[ę,ł]at m;have t:PP$ jp y:=gt
 have u:∀x:nm,(adY !=0&&adY !=j)=x->[y].filter (λy=>adY !=0&&adY !=j)=if x then[y]else[]:=λx d=>by rw[ġ,d];rfl
 generalize adY=d at u|-;by_cases g:d=0;subst g;rw[HA u I,DP à,Đ]at m;simp!;calc NC ⟨_,_,q,I⟩;have h:¬jp d=0:=gt
 by_cases k:d=j;subst k;rw[s4$ HA u,DP à,Đ]at m;simp! [g,h];calc NC ⟨_,_,q,I⟩;have G:¬jp d=jp j:=gt
 rw[u Z (by simp[g,k]),KC,s]at m;simp! [g,h,k,G,t,r,Hn,-U.ae];calc NC ⟨_,_,q,I⟩;rintro A B ⟨D,z,e,I⟩;rw[Τ];simp!;calc o B e
inductive Pg(vs:g3)(H:Hp)(c:VK)(e:XK):Prop|mk(x b u:β)(n cr:M)(units:f8):vs=[DJ,JN,.ref u,AB cr]->TQ (DW CL b [])->H u=xL units->US->(∀d a,agI->JY (ė [x])->mN a x b u d (BL (f5 n) cr)->c .Ť a)->AH (AJ Pg)
def ac4(a:Ž){i:M}:aR ((ι i).q (λi=>(OL$ TV i,FL$ a.qf i))) (È (TV i)) (FL (a.qf i))=BR (i+1) (λi=>(OL$ TV i,FL$ a.qf i)):=by
 unfold aR;rw[hf,ę,Æ];rfl;intro z;rw[ô]at z;let⟨b,c,d⟩:=z;let⟨e,f,I⟩:=χ.J c;simp only[BE,abh]at d;have g:Os=2^i:=by exact_mod_cast d
 have:=(CD abi).J g;have:=ψ.J f;lia
def Hw(a:Ĭ):(jH a).P c 2 Pg:=by
 calc EI jH ["self","n","unit_sets","crowded","cell"] aqk;let⟨h,j,k,l,m,units,I,o,p,q,r⟩:=g;calc ln λs t u v x y A=>⟨_,auC$ OS (RT (TK (KK AG AG)) Φ)$ η (agB BU)$ η (agB FC)$ OS kP$ μ$ Ī (alt JZ (ol (KK AG AG))) (IY A)$ μ$ kQ (ba y) Cl (TK CV) (GC Cl (PH (LI Tu y (ε (TK CV) XM)))) I,?_⟩;have B:jp l*jp l=kw (l*l):=by rw[U.am]
 have D:l*l<=81:=Ë q q;have G:k≠h:=AF$ đ p o;have H:l9 (jp l)$ jp l:=LV;have J:jp 1*2^(kw (l*l)).aj-1=kw (2^(l*l)-1):=by rw[U.a0];have:=cu (l*l);rw[U.dN,GE U.eu];simp
 have L:jp 2^(l*l)-1=kw (2^(l*l)-1):=by rw[<-J,U.dN,U.a0]
 have N:PP$ kw (l*l):=gt
 walk_at "s";simp! [-ĕ];calc sk o Pa 0 I λO b e=>?_;simp! [B,N,L,-ĕ,-U.am];calc sk e lj 1 I λg s t=>?_;simp! [-ĕ];calc sk t mL 2 I λu v x=>?_;simp! [-ĕ];calc sk x pY 3 I λy A q=>?_;simp! [-ĕ];calc af λD H J o O=>?_;have L:D≠h:=(ρ q J).symm;have g:hm$ d D:=by cases z:d D with
 |none=>rfl
 |some u=>rw[ga A L$ ga v L$ MZ L$ VN L z]at J;cases J
 simp! [-ĕ];calc sk (ga o q) oG 4 I λy H a0=>?_;have b0:NA [h] y:=λd u c0 d0=>have f0:d≠h:=λz=>c0 (by rw[z];calc JJ);LT f0 (ga o (ga A f0 (ga v f0 (MZ f0 (VN f0 d0)))));have g0:=LT L O;have h0:=ga b0 (by simpa using G) p;have a0:y h=f4 (HO.Ŀ CL j (yW (BL (f5 l) m) k D)):=a0;clear b s v A H e t x q o O J;simp! [B,-U.am];calc sw$ im (acU (n:=l*l)) (λj B G=>X1 λb=>A3 (B=[f4 NB,f4$ .int l,aig,f4$ .int m,b]) (G D=akT ((ι j).q (λj=>(OL$ TV j,FL$ (BL (f5 l) m).qf j)))) (∀d u,d≠D->y d=f4 u->G d=f4 u)) ⟨none,I,g0,λ_ _ _ d0=>d0⟩;rintro j B G f e s ⟨b,I,t,v⟩;have x:jp 2^j=TV j:=mo
 have A:=v h _ L.symm a0;have q:=v k _ (ρ p g) h0;have N:PP$ jp j:=gt
 have J:QF$ (ι j).q λj=>(OL$ TV j,FL$ (BL (f5 l) m).qf j):=by rw[θ,Ð];show BC;lia
 have o:=ac4 (BL (f5 l) m) (i:=j);simp! [N,x,-U.ae];calc⟨2^j,k,units,I,q,?_⟩;simp! [N,x,oI,-U.ae];calc ga e.n ⟨_,I,?_,λd u c0 d0=>DK c0$ v d u c0 d0⟩;rw[Α,<-o];rfl;rintro B G ⟨b,I,t,v⟩;calc IK r g (λd u c0 d0=>v d u (ρ d0 g)$ b0 d u c0 d0) ⟨v h _ L.symm a0,v k _ (ρ p g) h0,t⟩
def zZ(a:g3)(b:M):qw a (f4 GI) none=a.drop b:=by unfold qw;rw[HT.mb,HT.Xh];by_cases c:b<=a.length;rw[cz c,s4 mX];rw[im M.min_eq_right,ŋ AK,im ŋ,List.take_nil]
inductive xP(vs:g3)(H:Hp)(f:VK)(i:XK):Prop|mk(n:M)(a:β)(as:s5)(us:AU):vs=[JN,AC]->US->H a=KE as.q->dk H as (us.q zs)->us.length<=1000->(∀c,c∈us->∀g,g∈c->Id g)->(∀d e c h b,EW b->agI->aqX->hm (H h)->FM (UK mN) (f5 n (us.q Û) (nM n us))->f BK b)->DF (AJ xP)
def Hx(a:Ĭ):(vb a).P c 4 xP:=by
 calc EI vb ["n","units","crowded","unit"] aqk;let⟨h,i,j,k,I,m,n,o,p,q,r⟩:=g;calc ln λs t u x y z A=>⟨_,NH (FT A)$ η (KG (om slS AG (mc (KK Φ FD)) Cn) (FN A) (μ (bN 2 A (LI ug z XX) cM)))$ rc$ gQ (Hw a) z$ Tl$ ε (ID A (ņ AG) (İ (ü:=[("unit",3)]) (by show EA (dj ["n","units","crowded","unit"] (HN 43));decide+AO)) (λ_ _ _ _ _=>FN A) Tm (λ_ _ _ _ _=>LI ug z XX)) XM,?_⟩;have B:j.length=k.length:=by have:=Ñ o;rw[θ]at this;exact this
 have D:∀{G:Hp}{H:M}{v:V},LF G->(GG j.q)[H]? =DE->H<k.length/\∃J,v=.ref J/\G J=xL (k.getD H []):=λ{G H v} L N=>by
  rw[Δ]at N;let⟨J,O,I⟩:=Υ.J N;have b:H<k.length:=by have:=(φ.J O).1;lia
  let⟨e,p,s⟩:=Ā o O;rw[Δ,δ b]at p;cases p;calc⟨b,J,I,MD ?_⟩;rw[s,γ,δ b];rfl
 have t:∀{H:M},H<k.length->k.getD H []∈k:=λ{H} b=>by rw[γ,δ b];exact Ö b
 have u:jp 3*FB=kw (3*h):=gt
 have x:qw (GG j.q) (f4 (jp 3*FB)) none=(GG j.q).drop (3*h):=by rw[u];exact ga zZ
 walk_at "s";simp!;calc⟨_,_,I,I,.D ⟨DU,DU⟩,_,I,i,_,I,.D$ .D n,af λy z A d e=>?_⟩;have e:=e.trans$ LM (λl=>f4$ HO.Ý l) x;calc sw$ cD (xs:=(GG j.q).drop (3*h)) (dq e) (λH o G=>X1 λL=>A2 (z=G) (o=[f4$ .int h,f4 OH,BJ$ ((k.drop (3*h)).take H).ah (λO p=>O|||Û p) 0,L])) ⟨none,I,I⟩ (λ H o G _⟨_,g,_⟩=>dq (by rw[<-g];calc e));rintro H v o G f s N ⟨L,I,I⟩;have b:=s.n;rw[sU]at N;let⟨u,J,I,y⟩:=D d N;have A:H<(k.drop (3*h)).length:=by rw[g4];lia
 have x:(k.drop (3*h)).getD H []=k.getD (3*h+H) []:=by rw[γ,sU,γ]
 rw[ga d8 (k.drop (3*h)) [] A,x]at b;simp!;calc⟨J,_,I,.D$ .D y,q _$ t u,?_⟩;simp! [Hn];calc VN ⟨_,I,I⟩;rintro o G ⟨L,I,I⟩;have i:((GG j.q).drop (3*h)).length=(k.drop (3*h)).length:=by simp[B]
 rw[i,Ò];have z:=IB n;simp!;calc sw$ G8 (xs:=GG j.q) (dq z) (by rw[θ,B];show BC;lia) KY λH=>CK$ Û$ k.getD H [];intro H v f N g e O s G;let⟨u,J,I,y⟩:=D (d.trans g) N;walk_at "w";simp!;calc⟨J,_,I,.D$ .D y,q _$ t u,IR$ s I⟩;intro o f L g b;have A:(FX (GG j.q).length KY).q (λH=>CK$ Û$ k.getD H [])=Ě (k.q Û):=by rw[θ,B];have:=ķ k KY (λp=>CK$ Û p) [];rw[this,CZ,ľ,Χ];rfl
 rw[A]at b;have x:=d.trans g;simp! [-ml];calc mkK λi n z e O q D J=>?_;calc⟨i,n,o,h,nM h k,k.q Û,I,J,PL b,m,λN t u y s=>?_⟩;simp!;calc ON (BQ (r i)) (λG f j=>y G f ?_$ PL$ QB j) (x.free e) (d.free L) (x.free (D.free u)) s;rw[Θ];calc ρ (QB j) e
end Sq
namespace Sq
open PySem L2
variable{a:ř}{b:β}{d:MF}
inductive Ds(R:β)(vs:g3)(H:Hp)(c:VK)(d:XK):Prop|mk(r a b:β):vs=[.ref r,AC]->H r=f4 (DW R b [])->c .Ť (ø (ø H r (DW R b [("calls",AC)])) r (DW R b (HF yT)))->UV (Ds R)
def ac5:hU ["self","calls"] ["self","calls"]$ ê Yi:=fs
def Z6{R:β}(F:v4 (S3 K "__init__" "Reader.__init__" Yi))(c:acP R):v4 (ap5 1) ["self","calls"]$ Ds R:=by calc F.ok ac5 (λe f g h i=>?_) λj k l m f e g h n i=>?_;let⟨o,p,q,I,_⟩:=i;rfl;let⟨o,p,q,I,r,s⟩:=i;calc⟨_,η (Ll JF IC I)$ μ$ Ll JF Φ I,?_⟩;calc⟨_,I,_,I,o,R,q,[],I,r,c.cl,c.nCa,DU,_,I,o,R,q,_,I,Α,c.cl,c.Ep,(by show Id 1;decide),s⟩
inductive Ms(R:β)(vs:g3)(H:Hp)(c:VK)(d:XK):Prop|mk(r a b:β)(p:U)(xs:g3):vs=[.ref r]->H r=f4 (DW R b (yT a p))->ag7 xs->c (VH (p<jp xs.length)) H->UV (Ms R)
def agw:hU ["self"] ["self"]$ ê aea:=fs
def ac6{R:β}(F:v4 (S3 K "has_more" "Reader.has_more" aea))(c:acP R):v4 (ap5 1) ["self"]$ Ms R:=by calc F.ok agw (λe f g h i=>?_) λj k l m f e g h n i=>?_;let⟨o,p,q,r,s,I,_⟩:=i;rfl;let⟨o,p,q,r,s,I,t,u,v⟩:=i;calc⟨_,rc$ o8 Gh (qu JF I)$ Ļ hV c.len Ď$ ol$ qu JF I,?_⟩;calc⟨_,I,o,R,q,_,_,I,t,c.cl,c.Ep,ga ie,_,I,o,R,q,_,_,I,t,c.cl,c.nCa,ga t9,p,s,I,.D u,v⟩
inductive v9(R:β)(vs:g3)(H:Hp)(c:VK)(d:XK):Prop|mk(r a b:β)(j:M)(xs:g3)(v:V):vs=[.ref r]->H r=f4 (DW R b (yT a j))->ag7 xs->xs[j]? =DE->c v (ø H r (DW R b (yT a (j+1))))->UV (v9 R)
def Ph:hU ["self","number"] ["self"]$ ê Yj:=fs
def Z7{R:β}(F:v4 (S3 K "take_number" "Reader.take_number" Yj))(c:acP R):v4 (ap5 1) ["self"]$ v9 R:=by calc F.ok Ph (λe f g h i=>?_) λj k l m f e g h n i=>?_;let⟨o,p,q,r,s,v,I,_⟩:=i;rfl;let⟨o,p,q,r,s,v,I,t,u,x,y⟩:=i;calc⟨_,η (KW Ph.nd (cB Cp (qu JF I) (qu JF I)))$ η (zy JF Φ afp)$ rc IC,?_⟩;calc⟨_,I,o,R,q,_,_,I,t,c.cl,c.nCa,ga t9,_,I,o,R,q,_,_,I,t,c.cl,c.Ep,ga ie,p,s,r,v,I,I,u,rE x,_,I,o,R,q,_,_,I,t,c.cl,c.Ep,ga ie,_,_,I,I,q,_,t,(by show Id 2;decide),v,I,y⟩
end Sq
namespace Sq
open PySem L2 dO L3
variable{b:ř}{a f:Hp}{c i j m n o B D G H z:β}{s:Bx}{p:ŏ}{d x:M}{q:V}{h:f8}{u:æ}{l:Ž}{J:BA}{e:s5}{v:U}{L:KF}{A:AX Tn}{N:AU}
def b8(a:Ĭ):gS.P b 1$ v9 CR:=by let⟨c,d,F,e,f,g⟩:=gS;calc⟨c,d,Z7 F$ tR a,e,f,g⟩
def ac7(a:Ĭ):jI.P b 1$ Ms CR:=by let⟨c,d,F,e,f,g⟩:=jI;calc⟨c,d,ac6 F$ tR a,e,f,g⟩
def Tw(a:Ĭ):RU jJ 1$ Ds CR:=by let⟨c,d,F,e,f,g⟩:=jJ a;calc⟨c,d,Z6 F$ tR a,e,f,g⟩
def Z8(a:g3)(b c:M)(d:b+c<=a.length):qw a (f4 GI) (f4 (kw (b+c)))=(a.drop b).take c:=by unfold qw;rw[HT.mb,HT.mb,cz d,cz (show b<=a.length by lia),show b+c-b=c by lia]
inductive Dt(vs:g3)(H:Hp)(e:VK)(g:XK):Prop|mk(r a c:β)(j m:M)(xs:g3):vs=[.ref r]->H r=f4 (am8 (yT a j))->ag7 xs->xs[j]? =BJ m->j+1+m<=xs.length->(∀l b,ME H->b r=f4 (am8 (yT a (kw (j+1+m))))->(∀d f,d≠r->H d=MO->Fk=MO)->b l=BG ((xs.drop (j+1)).take m)->e CG b)->GZ (AJ Dt)
def Hz(a:Ĭ):iN.P b 2 Dt:=by
 calc iN.ok ["self","length","first"] EO;let⟨h,i,j,k,m,n,I,o,p,q,r,s⟩:=g;calc ln λt u v x y A B=>⟨_,η (KW B (aqZ A JF))$ η (FT B MR)$ η (r6 JF IC Od)$ rc$ om slS MR (mc LK)$ mc MR,?_⟩;have D:∀G,BN (ø d h G) i n:=λG=>by rcases p with(z|⟨H,z⟩)|z;calc wT$ DK (AF (đ z o)) z;calc .D$ .X ⟨H,DK (AF (đ z o)) z⟩;exact MV
 calc⟨_,I,h,j,_,I,o,I,h,i,j,k,n,_,I,o,p,q,?_⟩;calc⟨_,I,h,CR,j,_,_,I,Α,(tR a).cl,(tR a).Ep,ga ie,?_⟩;calc⟨_,I,h,CR,j,_,_,I,Α,(tR a).cl,(tR a).Ep,ga ie,_,I,j,_,Α,(by show Id 2;decide),?_⟩;dsimp only;rw[bx,acw,show(jp k+1)+jp m=kw (k+1+m)by lia];calc⟨_,I,h,CR,j,_,_,I,Α,(tR a).cl,(tR a).nCa,ga t9,_,I,_,I,_,I,h,CR,j,_,_,I,Α,(tR a).cl,(tR a).Ep,ga ie,_,I,i,n,I,D _,λl J=>?_⟩;have L:=Z8 n (k+1) m r;rw[show(jp k+1)=MC k by lia,L];have N:l≠h:=λz=>by subst z;rw[Α]at J;cases J
 calc s l _ ((ω N).symm.trans J) (DK (Ne.symm N) Α) (λO G c e=>?_) Α;have f:O≠l:=λz=>by subst z;rw[ω c,e]at J;cases J
 rw[ω f,ω c];calc e
def xQ{b:Type}(a:M)(c:b):(Λ a [c]).bQ=mt Λ:=by induction a with
|zero=>rfl
|HW a d=>rw[cQ,kl,d];rfl
def dk.rep{l:f8}(b:JD=BG HY):∀d,dk a (DB Λ) ((Λ d l).q zs)|0=>.nil|IG=>.cons b$ v4 dk.rep
def v_(a b:M):Ě (io Λ)=Λ a (HM b):=by rw[ľ,sV]
inductive Pj(vs:g3)(H:Hp)(h:VK)(i:XK):Prop|mk(b d u f a:β)(L:Ž)(g:f8):vs=[AZ,AC]->v4 (mN H) u f L->L.n<=9->ahg (Ě g)->g.length<=100->(∀c e,EW c->e.La=b->(∀z,z∈e.ü->hm (H z))->(∀z,z∈e.ws->z=u)->AH bg (bU L g)->h (wp e.b) c)->t3 (AJ Pj)
def Z9(a:Ĭ):RU k_ 3 Pj:=by
 calc EI k_ ["layout","givens","places","digit","wants"] EO;let⟨h,j,k,l,m,o,p,I,q,r,s,t,u⟩:=g;have x:=q.obj;calc ln λy A B D G H J=>⟨_,η (JS (iE (i:=2) I J) (auq (by decide+AO)) (Si I JZ.range (ε Φ (ol (WF Cl Φ)))) (İ (ü:=[("digit",3)]) (by show EA (dj ["layout","givens","places","digit","wants"] (HN 47));decide+AO)) (λ_ _ _ _ _=>FN J) Tm (λ_ _ _ _ _=>GC Cl$ PH$ LI Tv H$ VQ XX))$ η (JS (iE (i:=4) I J) (auq (by decide+AO)) (alt JZ QQ) (İ (ü:=[("digit",3)]) (by show EA (dj ["layout","givens","places","digit","wants"] (HN 47));decide+AO)) (λ_ _ _ _ _=>FN J) Tm (λ_ _ _ _ _=>Cl))$ rc$ gQ (Ht a) H$ Tl$ ZY$ ε CV$ ε (Í xu (WD Φ) Cl)$ ZT$ ol$ Í xu (WD (bD iC Φ)) Cl,?_⟩;have L:jp o.n+1=kw (1+o.n):=gt
 walk_at "s";simp! [L,-U.aA];calc sw$ CD (aoR (lo:=1) (n:=o.n)) (by show BC;lia) KY λN=>CK$ õ o.cA$ v3 p (N+1);intro O c e f j l r g;have y:=JI x;walk_at "w";simp! [-U.aA];calc⟨m,p,O+1,by rw[ahP],JI s,t,λA B=>?_⟩;simp! [oI];calc r I _ B;intro D c G f H;rw[CZ]at H;have J:c D=xL (BF bU).ζ:=by rw[H,ľ];show _=XC ((BR o.n _).q _);rw[Χ];rfl
 have y:=JI x;simp!;calc sw$ lcN (n:=o.n) (by show BC;lia) KY λ_=>V.ref k;intro O A e B j l r g;have L:=LG y;walk_at "w";simp!;calc IR$ r I;intro N A m B s;rw[CZ]at s;have t:A N=KE (Λ o.n k).q:=by rw[s,sV,List.map_const',Ð]
 have L:=LG y;have p:∀v:V,-QL<=jp o.n/\jp o.n<QL/\[v].length*(jp o.n).aj<=Ζ:=λv=>⟨gt,gt,by show GT (1*(jp o.n).aj);lia⟩;have x:=p XD;have O:=p$ FL (-1);simp! [-ml];calc af λc e j l g=>?_;have H:=ga l L;simp! [xQ,-ml];calc af λr y A s x=>?_;have O:=l.trans s;have c:=ML L;simp! [-ml];calc af λe j g H y=>?_;have s:=LT c;simp! [xQ,-ml];calc af λL e j g y=>?_;simp! [-ml];calc mkK λc s a0 b0 c0 d0 f0 g0=>?_;calc⟨c,s,h,D,N,r,L,o.cA,I,g0,?_⟩;simp!;let⟨h0,i0,j0,k0⟩:∃h0,ø a0 c (DW CB s (qQ h D N r o.cA L))=h0/\SB c a0 h0/\h0 c=f4 (DW CB s (qQ h D N r o.cA L)):=⟨_,I,λl0 m0 n0 o0=>DK n0 o0,Α⟩;rw[i0];have p0:Μ e h0:=λl0 m0 o0=>ga j0 (ρ o0 b0)$ ga f0 o0;have e:=H.trans g;have g:=O.trans e;have r0:=f.trans B;have s0:=g.trans p0;have t0:=r0.trans s0;have u0:hm$ d N:=f.free m;have f:hm$ d r:=r0.free$ l.free A;have v0:hm$ d L:=r0.free$ O.free$ H.free j;have w0:hm$ d c:=r0.free$ g.free b0;have g:=LG J;have B:D≠N:=ρ J m;have J:D≠r:=ρ (ga l g) A;have m:D≠L:=ρ (LT (ML g)) j;have x0:N≠r:=ρ (ga l t) A;have l:N≠L:=ρ (LT (ML t)) j;have A:r≠L:=ρ (LT x) j;have O:∀z,hm (d z)->z∉Λ o.n k:=λz p H=>by rw[(sR.J H).2,q.us]at p;cases p
 calc u h0 ⟨c,s,h,D,N,r,L,Λ o.n k⟩ t0 I (λz p=>?_) (λz p=>(sR.J p).2) ⟨k0,ga s0 g,ga s0 t,dk.rep (ga t0 q.us) _,?_,?_,⟨B,J,m,x0,l,A,O _ G,O _ u0,O _ f,O _ v0⟩⟩;simp only[Bx.ü,ν,ã,GS]at p;rcases p with I|I|I|I|I;calc w0;calc G;calc u0;calc f;calc v0;rw[ga p0$ MX x];show _=XC (Ě (Λ o.n 0));rw[v_];rfl;rw[ga p0 y];show _=XC (BT (Λ o.n (-1)).q);rw[sV]
def bg.agx(b:bg a s p)(c:M):bg (ø a s.b (DW CB s.dx (qQ s.La s.p s.w s.s c s.c))) s {p with ĵ:=c}:=have d:∀e f,e≠s.b->a e=MO->ø a s.b _ e=MO:=λe f g h=>(ω g).trans h;⟨Α,IB b.nbp.symm b.pl,IB b.nbw.symm b.wt,dk.eI b.wl λe f g h=>py d (λz=>b.ajU (z▸g)) h,IB b.nbs.symm b.st,IB b.nbc.symm b.ck,b.ap⟩
inductive Z_(vs:g3)(H:Hp)(e:VK)(f:XK):Prop|mk(x:Bx)(b u d:β)(L:Ž)(B:ŏ)(dP:M):vs=[JP,AB dP]->Ix vq b u d L->anX ((∀a c,JY (ė x.ü)->Ix bV c->mt bg (Ř L dP B L.n).1->e (.bl (Ř L dP B L.n).2) a)->py (AJ Z_))
def ac8(a:Ĭ):kW.P b 2 Z_:=by
 calc kW.ok ["self","lone","digit","places"] EO;let⟨h,i,j,k,l,m,o,I,p,q,r,s⟩:=g;have t:=q.obj;calc ln λu x y A B D G=>⟨_,η (r6 FD (PH AG) l_)$ η (Ī (ak3 JZ (ol (ar1 QQ))) (j9 (n:=2) I (č (IJ G) (JR (FN G)))) (HL (WP (hs (dm (RF AG)) (fF (d6 (dm (MN Zz D FD (ZY (ol (RF AG)))))))) (rc jv))))$ rc jv,?_⟩;have H:=r.n9;have J:=r.lp;have e0:aM "open_cells" (AD (õ m.ĵ o)) (asb m.ĵ)=asb (õ m.ĵ o):=I;walk_at "s";have L:Id (asb m.ĵ).length:=by show Id 6;decide
 simp! [e0,-acT];have N:=q.agx$ õ m.ĵ o;have O:NA h.ü$ ø d h.b$ DW CB h.dx$ asb$ õ m.ĵ o:=λc e g t=>DK (λz=>g (by simp[Bx.ü,z])) t;revert N O;generalize ø d h.b (DW CB h.dx (asb (õ m.ĵ o)))=u;intro N O;simp!;calc af λx y A B D=>?_;simp!;have G:∀H:Bx,(∀c,c∈H.ü->c∈h.ü\/hm (d c))->EQ:=asO;have L:x∉h.ü:=λz=>by simp only[Bx.ü,ν,ã,GS]at z;rcases z with I|I|I|I|I;rw[N.obj]at A;cases A;rw[N.pl]at A;cases A;rw[N.wt]at A;cases A;rw[N.st]at A;cases A;rw[N.ck]at A;cases A
 calc sw (xI (xs:=Ě m.ζ) (.D (.D D)) (λq u y=>X4 λG H A a0=>A8 (Ř l o m q=(H,Z)) (u=[AT h.b,f4$ .int o,A,a0]) (NA h.ü y) (bV d h G) (bg y G H) (KN (vq y G)) (x∉G.ü) (y x=xL m.ζ)) ⟨h,{m with ĵ:=õ m.ĵ o},none,none,I,I,λc e g t=>LG$ AH O g t,bV.refl d h,N.same B,p.step (x':=h) (λc e g t=>LG$ AH O g t)$ bV.refl d h,L,D⟩) ?_;rintro q u y _ ⟨G,H,A,a0,t,I,p,N,O,B,D,L⟩;calc .D$ .D L;rintro q v u y b0 c0 f f d0 f0 g0 h0 ⟨G,H,A,a0,t,I,p,N,O,B,D,L⟩;let⟨i0,I⟩:=Ū d0;calc LN$ aK h0;have j0:=ky (dP:=o) r q;rw[t]at j0;have k0:=nF t;have l0:=O.same g0;have m0:NA h.ü b0:=λc e g t=>ga g0$ AH p g t;have c:KN$ vq b0 G:=⟨B.jf.same g0,B.nL,B.nu,B.nd⟩;have e:G.b=h.b:=N.b;have g:=l0.obj;rw[e]at g;by_cases n0:m.ζ.getD q 0&&&o=0;rw[ii n0]at k0;simp! [n0];calc ga f.n ⟨G,H,_,_,k0,I,m0,N,l0,c,D,ga g0 L⟩;rw[hf n0]at k0;simp! [n0,g];have g:q<l.n:=gt
 calc⟨G,i,j,k,l,H,q,m.ζ.getD q 0&&&o,by rw[e],c.jf,l0,by rw[j0.lp];calc g,by rw[j0.lw];calc g,by rw[j0.ls];calc g,hg$ r.bp q,r.nn,j0.bw q,λi j k r e=>?_⟩;have g:NA h.ü i:=ė.trans m0 N k;have o0:GH$ bV d:=bV.trans N m0 r;cases d:H.wI l q (m.ζ.getD q 0&&&o)with
 |Z=>rw[d]at k0;simp! [d];calc ga f.n ⟨j,_,_,_,k0,I,g,o0,e,c.step k r,(λz=>(r.ü x z).elim D λt=>by rw[ga g0 L]at t;cases t),NN D$ ga g0 L⟩
 |gl=>rw[d]at k0;simp! [d];have h:=hI k0 (l.n-(q+1));rw[show q+1+(l.n-(q+1))=l.n by lia]at h;rw[h]at s;exact ga f.r$ up s g o0 e
 rintro u y ⟨G,H,A,a0,t,I,p,N,O,B,D,L⟩;rw[Τ,J]at t;rw[t]at s;simp!;calc s y G p N O
inductive H3(vs:g3)(H:Hp)(f:VK)(h:XK):Prop|mk(x:Bx)(b u e:β)(L:Ž)(B:ŏ):vs=[JP]->Ix vq b u e L->anX ((∀a c g d,JY (ė x.ü)->Ix bV c->VS ec g d->TY bg->f (.bl g) a)->GP (AJ H3))
def uh(a:Ĭ):oA.P b 3 H3:=by
 calc oA.ok ["self","once","twice","cells","pins"] EO;let⟨h,i,j,k,l,m,I,n,o,p,q⟩:=g;calc ln λr s t u x y A=>⟨_,η (cL (ND MR Φ) (NH (KW A) (NH (FT A) (η (KG MR (FN A) (η (bN 2 A (GC IC OK) cM) (μ (bN 1 A OK cM)))) (adr (ď (ND IC MR)) (μ (ď (ND IC LK) (HL (YL (MN ac8 y JF (ol (GC IC (PH LK)))) (rc jv))) (η (OG A (Ŵ (Hs a) y JF)) (adr (ď (Ô vQ (pv 4) ŝ)) (adr (YL (Ļ (aiM I) JZ.any wq (ol (pv 4)))) (IW (MN Mq y JF (ol (pv 4))))))))))))))$ rc jv,?_⟩;simp only[Mh];calc dn (λB D G=>X6 λH J L N O c=>A8 (B=Vw J) (D=[AT h.b,L,N,O,c]) (NA h.ü G) (bV d h H) (bg G H J) (KN (vq G H)) (Wf l J)$ Fwd l J m) _ ⟨h,m,none,none,none,none,I,I,RA,anh,o,n,p,λ_ _ g=>g⟩ ?_;rintro B D G e kT r ⟨H,J,L,N,O,c,I,I,s,t,u,x,y,A⟩;have m:H.b=h.b:=t.b;have n:=u.obj;rw[m]at n;by_cases o:J.ĵ=0;simp! [o];calc r _ ?_;simp!;calc DQ (q G H Z J) (ga A (.ahW o)) u;simp! [o];calc kT _ λf p=>?_;simp!;calc sw$ cD (xs:=Ě J.ζ) (wT u.pl) (λB D e=>X1 λO=>A2 (G=e) (D=[AT h.b,BJ$ Ų$ J.ζ.take B,BJ$ ź$ J.ζ.take B,O,c])) ⟨O,I,I⟩ (λ B D e _⟨_,g,_⟩=>wT (by rw[<-g];calc u.pl));rintro B v D e f p L ⟨O,I,I⟩;let⟨N,I⟩:=Ū L;have n:Ų (J.ζ.take (B+1))=Ų (J.ζ.take B)|||J.ζ.getD B 0:=by unfold Ų;rw[å,δ N,ŭ,Þ,γ,δ N];rfl
 have r:ź (J.ζ.take (B+1))=ź (J.ζ.take B)|||(Ų (J.ζ.take B)&&&J.ζ.getD B 0):=by unfold Ų ź;rw[å,δ N,ŭ,Þ,γ,δ N];rfl
 simp! [-γ];calc ga p.n ⟨_,I,by rw[n,r]⟩;rintro D e ⟨O,I,I⟩;rw[Τ,Ò];by_cases f:Ų J.ζ=J.ĵ;by_cases g:Ų J.ζ=ź J.ζ;simp! [f,<-g,U.cz];calc⟨H,J,by rw[m],u,by rw[y.lp];calc y.n9,by rw[y.lw,y.lp],by rw[y.lc,y.lp],λc L D O B e N n r O=>?_,λL B e n O=>?_⟩;rw[y.lp]at e;have N:NA h.ü L:=DQ ė.trans n;have a0:=O.obj;rw[m]at a0;simp!;calc⟨c,zs D,I,.D$ .D r,?_⟩;by_cases b0:∃c0,(c0∈D/\c0≠0);have d0:((zs D).any (·!=0))=Z:=by let⟨c0,f0,g0⟩:=b0;exact ô.Q ⟨jp c0,χ.Q ⟨c0,f0,I⟩,by simpa using g0⟩
 simp! [d0];calc⟨H,{J with ž:=B},c,D,(by rw[m]),O,(by show J.ζ.length<=9;rw[y.lp];calc y.n9),r,(by show _=J.ζ.length;rw[y.lp,(eV e).1]),λc r c h0 i0=>?_⟩;simp!;calc ga p.n ⟨_,Rj y g e b0,r,_,_,_,_,_,I,I,ON ė.trans c,bV.trans t N h0,i0,(x.step n anh).step c h0,Nt y e,λr c st=>ga A$ on (.dY o) e b0 st⟩;have j0:∀c0,c0∈D->c0=0:=λc0 f0=>Κ λz=>b0 ⟨c0,f0,z⟩;have d0:pr (((zs D).any (·!=0))):=by calc fV.Q λz D=>?_;let⟨c0,f0,I⟩:=χ.J D;simpa using j0 c0 f0
 simp! [d0];calc ga p.r ?_;calc ON (q L H Z _) (ga A (on (.b4 o) e j0)) O;rw[y.lp]at e;simp!;calc ga p.r ?_;calc HA (q L H) _ (DQ ė.trans n) t (ga A (on (.Vv B o) e)) O;have B:¬J.ĵ=ź J.ζ:=λz=>g (by rw[f,z]);simp! [f,B,U.cz];calc⟨H,i,j,k,l,J,õ J.ĵ$ ź J.ζ,by rw[m],x,u,y,λL e n D O=>?_⟩;rw[<-f]at O|-;have N:NA h.ü L:=DQ ė.trans n;have i:bV d h e:=bV.trans t s D;cases j:(Ř l (õ (Ų J.ζ) (ź J.ζ)) J l.n).2 with
 |gl=>simp!;calc ga p.r ?_;calc HA (q L e) _ N i (ga A (on (.adR o) j)) O
 |Z=>simp!;exact ga p.n ⟨_,Ri y g j,e,_,_,_,_,_,I,I,N,i,O,x.step n D,ky y _,λr c st=>ga A$ on (.dP o) j st⟩
 simp! [f,U.cz];calc ga p.r ?_;calc DQ (HA (q G H) J) (ga A (.dead o f)) u
def agy(b:Hp)(c:β)(a:are IE):Prop:=∃d:s5,Db=KE d.q/\EK (bq (λ e(f:M×IE)=>EV=KS [AD f.1,AD$ lv f,AD$ wS f]))
inductive z5(vs:g3)(H:Hp)(a:VK)(c:XK):Prop|mk(x:Bx)(B:ŏ):vs=[JP]->VJ ((∀b:M,sub b ahf->a LZ H)->mt (AJ z5))
def Mt(a:Ĭ):RU kX 1 z5:=by calc EI kX ["board","once","twice","thrice","places"] EO;let⟨h,i,I,j,k⟩:=g;have l:=j.obj;calc ata ⟨_,NH (KW s)$ NH (FT s)$ NH (GX s)$ η (auc (IY s) (η (bN 3 s (GC BU CV) cM) (η (bN 2 s (GC AG CV) cM) (μ (bN 1 s CV cM)))))$ rc$ GC BU$ PH FC,?_⟩;walk_at "s";simp!;calc sw$ cD (xs:=Ě i.ζ) (wT j.pl) (λt u x=>X4 (λ(y:M)(A:M)(B:M) D=>A4 (d=x) (u=[AT h.b,f4$ .int y,f4$ .int A,f4$ .int B,D]) (sub y (Ų i.ζ))$ sub A$ Ų i.ζ)) ⟨0,0,0,none,I,I,λG z=>by simp at z,λG z=>by simp at z⟩ (λ t u x _⟨_,_,_,_,g,_,_,_⟩=>wT (by rw[<-g];calc j.pl));rintro t v u x f H J ⟨y,A,B,D,I,I,L,st⟩;let⟨N,I⟩:=Ū J;have O:sub (i.ζ.getD t 0)$ Ų i.ζ:=λG z=>(ga fo).Q ⟨t,N,z⟩;simp!;calc ga H.n ⟨_,_,_,_,I,I,Bk L O,Bk st$ ia (ga Bj) L⟩;rintro u x ⟨y,A,B,D,I,I,L,st⟩;simp!;calc k _$ ia (ga q5) st
inductive H4(vs:g3)(H:Hp)(d:VK)(f:XK):Prop|mk(x:Bx)(a u c:β)(L:Ž)(B:ŏ)(cells:M):vs=[JP,AB cells]->aj5 a u c L->anX (cells≠0->cells<RV->(∀b e,EW b->cells.o e=Z->d (MH Os) b)->DS (AJ H4))
def z6(a:Ĭ):RU kY 2 H4:=by
 calc EI kY ["board","cells","narrowest","fewest","left","cell","many"] EO;let⟨h,i,j,k,l,m,n,I,o,p,q,r,s,t⟩:=g;have u:=p.obj;have v:=o.obj;calc atc ⟨_,NH (FT H)$ η (GX H (WF (Ø Cl) Φ))$ η (OG H AG)$ akL$ cL (ND CV Φ)$ η (À 5 H (GC CV (bD iC CV)))$ η (bN 4 H JM Ce)$ η (À 6 H (amu JZ (ol (MN vp G FD aqm))))$ HL$ ď (Ô Gh OJ FC)$ η (GX H OJ)$ μ$ FT H JM,?_⟩;walk_at "s";simp!;calc dn (λJ L N=>X5 (λ(O:M)(c:M)(e:U) i j=>A5 (c=J) (L=[AT h.b,f4 JN,f4$ .int O,PV .int,f4 On,i,j]) (LF N) (sub c n) ((e=jp l.n+1/\c=n)\/(∃k,n.o k=Z/\O=PU)))) _ ⟨0,n,_,none,none,I,I,HJ,wJ _,.D$ ln I⟩ ?_;rintro J L N s kT g ⟨O,c,e,i,j,I,I,u,o,v⟩;by_cases x:c=0;subst x;simp!;calc g _ ?_;simp!;rcases v with⟨_,z⟩|⟨k,y,I⟩;calc DM z.symm r;calc t N k u y;let⟨k,A,B,D⟩:=dX x;have G:low c=PU:=D;have H:=p.same u;have d:=H.obj;simp! [x];calc kT _ λf J=>?_;simp! [Ts c x,G,Zv,Bd A,-U.ae];calc⟨h,m,PU,I,H,by rw[q.lp];calc q.n9,λL s O i j=>?_⟩;have g:(m.aV PU).length<=l.n:=by unfold ŏ.aV;exact OD (by rw[Ð,q.lp];calc AK)
 have r:=u.trans i;have t:sub (õ c PU) n:=ia (ga q5) o;by_cases N:NR (m.aV PU)<e;simp! [N,-U.ae];calc ga J.n ⟨_,vY A,_,_,_,_,_,I,I,r,t,.X ⟨k,o k A,I⟩⟩;simp! [N,-U.ae];rcases v with⟨z,_⟩|⟨y,B,I⟩;lia;calc ga J.n ⟨_,vY A,_,_,_,_,_,I,I,r,t,.X ⟨y,B,I⟩⟩
def ajW(a:ŏ)(b c d:M):Prop:=b<a.ζ.length/\∃e f g,EG (a.wants.getD b [])/\f≠g/\c=2^f/\d=2^g/\WZ&&&e=c|||d
def aaa(a:WV≠0)(b:WV&&&(WV-1)=0):∃c e,c≠e/\d^^^WV=HG/\WV=Os/\d=HG|||Os:=by
 have f:d≠0:=λz=>a (by rw[z];rfl);let⟨c,g,h,i⟩:=dX f;let⟨e,j,k,l⟩:=dX a;have m:∀n,WV.o n=(d.o n&&! sB (c=n)):=λn=>by have:=LM (λz=>z.o n) i;simp only[í,á]at this;rw[Ã];cases o:d.o n with
 |gl=>rfl
 |Z=>rw[o]at this;cases p:(d-1).o n<;>rw[p]at this<;>simp at this|- <;>exact this
 have q:WV=Os:=by
  have:õ WV (WV-1)=WV:=by unfold õ;rw[b];rfl
  rw[<-this];exact l
 have r:c≠e:=λz=>by rw[m e,z]at j;simp at j
 calc⟨c,e,r,?_,q,?_⟩;apply dO.ext;intro n;rw[dI,m,á];by_cases z:c=n;subst z;simp[g];simp[z];apply dO.ext;intro n;have o:=m n;rw[q,á]at o;rw[ý,á,á];by_cases z:c=n;subst z;simp[g];simp[z]at o|-;calc o.symm
inductive aez(vs:g3)(H:Hp)(e:VK)(i:XK):Prop|mk(x:Bx)(B:ŏ):vs=[JP]->VJ (B.wants.length=B.ζ.length->(∀a b,IS (ZD->JC=BG []->e AZ a))->(∀a b c d f g h,IS (ZD->JC=BG [CO,BK]->JD=KS [AD f,AD g,AB 1]->MY=KS [AD f,AD h,AB 1]->EU (ajW B)->e AZ a))->IO (AJ aez))
def agz(a:Ĭ):RU rP 1 aez:=by
 calc EI rP ["board","digit","places","unit","inside","upper"] λc e f g h=>?_;let⟨i,j,I,k,m,o,p⟩:=h;have q:=k.obj;calc atd ⟨_,η (Ī (ak3 JZ QQ) (j9 (n:=2) I (č (Ψ 1 z) (JR (IJ z)))) (μ (KG (YW AG) (FN z) (η (OG z (GC BU FC)) (η (À 5 z (GC CV (RT CV Φ))) (HL (WP (hs (dm JM) (fF (d6 (dm (GC JM (RT JM Φ)))))) (rc (ĺ (ε (qv (VQ (ε (Í afl CV JM) (ol Φ)))) (ol (qv (VQ (ε JM (ol Φ)))))))))))))))$ rc RS,?_⟩;walk_at "s";simp!;calc sw$ xI (xs:=Ě j.ζ) (wT k.pl) (λA B D=>X5 λG H J L N=>A2 (Μ e D) (B=[AT i.b,G,H,J,L,N])) ⟨none,none,none,none,none,HJ,I⟩ (λ A B D _⟨_,_,_,_,_,h,_⟩=>wT$ UP k.pl);rintro A v B D O c g f m q r s ⟨G,H,J,L,N,t,I⟩;let⟨u,I⟩:=Ū m;calc LN$ aK s;have x:=t.trans r;have y:=k.same x;let⟨z,e,g⟩:=im (y.Pe (d:=A));simp! [e];calc sw$ cD (xs:=Ě$ auz []) (.D (.D g)) (λc B D=>X3 λJ L N=>A2 (O=D) (B=[AT i.b,BJ A,NQ$ j.ζ.getD A 0,J,L,N])) ⟨J,L,N,I,I⟩ (λ c B D _⟨_,_,_,h,_⟩=>wT (by rw[<-h];calc g));rintro c v B D q s m ⟨J,L,N,I,I⟩;have r:c<(auz []).length:=by have:=(φ.J m).1;rw[Τ]at this;exact this
 rw[Ė r]at m;cases m;have k:CU (auz []).getD∈auz []:=by rw[γ (l:=auz []),δ r];exact Ö r
 generalize CU (auz []).getD=z at k|-;by_cases y:akJ&&&(akJ-1)=0;simp! [Dr,y];calc ga s.n ⟨_,_,_,I,I⟩;by_cases e:(akJ&&&(akJ-1))&&&((akJ&&&(akJ-1))-1)=0;let⟨h,i,O,g,q,m⟩:=aaa y e;have c:akJ^^^2^i=2^h:=by rw[<-q];exact g
 simp! [Dr,y,e,Zv,g,q,c,-U.ae];calc af λr j j j a0=>?_;simp! [Dr,Zv,g,q,c,-U.ae];calc af λg q c q c=>?_;simp!;calc af λb0 c0 d0 f0 g0=>?_;have h0:=x.trans$ j.trans q;calc ga s.r$ ga f.r ?_;calc ga (p c0 b0 r g A) (h0.trans f0) (h0.free d0) g0 (ga f0 (VP a0)) (ga f0 c) ⟨u,z,h,i,k,O,I,I,m⟩;simp! [Dr,y,e];calc ga s.n ⟨_,_,_,I,I⟩;rintro B D ⟨J,L,N,I,I⟩;calc ga f.n ⟨_,_,_,_,_,x,I⟩;rintro B D ⟨G,H,J,L,N,t,I⟩;simp!;calc λb0 d0=>o _ b0 (t.trans (Μ.new d0)) (t.free d0) Α
def qR(l:BV):OV:=l.q λa=>(OL$ kw a.1,CK a.2)
def wb:∀(l:BV)(a:M),ab (qR l) (OL DD)=(l.cS λb=>sB (EM=a)).q (λb=>CK b.2)
 |[],a=>I
 |(c,d)::e,a=>by
   have f:=wb e a;unfold ab qR at f|-;rw[Â,ű,ű];by_cases g:c=a;subst g;simp;have h:OU (JL (È c)=È DD):=gt
   have i:OU (c=a):=SX
   simp only[h,i];calc f
def p3:∀{l:BV}{a:M},(l.q (·.1)).ar->((GV ŕ).q (·.1)).ar/\∀b,b∈(GV ŕ).q (·.1)->b∈l.q (·.1)\/b=a
 |[],a,_=>by simp[ŕ]
 |(b,m)::n,a,i=>by let⟨d,e⟩:=ñ.J i;let⟨f,c⟩:=p3 e;unfold ŕ;split;calc⟨i,λb g=>.D g⟩;rename_i j;calc⟨ñ.Q ⟨RP,f⟩,λk h=>?_⟩;rcases DG c with w|w;calc d w;calc j w;rcases ν.J h with w|w;rw[w];simp;rcases c k w with v|v;left;calc BI v;calc .X v
def Pk:∀{l:BV}{p:M},(l.q (·.1)).ar->∃a:M,(ab (qR l)$ VO p).getD (.int 0)=AD a/\aR (qR l) (VO p) (AB (DD+1))=qR (ŕ l p)
 |[],p,_=>⟨0,I,I⟩
 |(b,a)::c,p,d=>by
   let⟨e,f⟩:=ñ.J d;by_cases g:b=p;subst g;calc⟨a,by rw[wb];simp,?_⟩;have h:=λi j z=>e$ χ.Q ⟨i,j,z⟩;have k:(qR c).q (λm=>if m.1=OL (b:M)then(m.1,FL (DD+1))else m)=qR c:=by
    conv=>rhs;rw[<-km$ qR c]
    calc ö λm n=>?_;let⟨i,j,I⟩:=χ.J n;rw[hf];rfl;intro z;exact im$ up h
   unfold aR;rw[BZ (by simp[qR])];have e0:qR ((b,a)::c)=(JL$ È _,V.int _)::qR c:=I;rw[e0,Â,k,KC];unfold ŕ;rw[KC];show _=((È _),V.int _)::qR c;rw[show kw DC=DC by lia];let⟨o,q,r⟩:=Pk (p:=p) f;have s:¬(OL GI=È (jp p)):=λz=>by exact im g
   calc⟨o,?_,?_⟩;rw[<-q,wb,wb,ű];have t:OU (b=p):=SX
   simp only[t];unfold ŕ;rw[hf g];show _=(JL$ È _,V.int _)::qR _;rw[<-r];show ga (aR ((JL$ È _,V.int _)::qR c))=_;unfold aR;rw[aA];have u:OU (OL GI=È (jp p)):=as6
   rw[u,lF];split;rw[Â,hf s];rfl
def Mu(a:f8):(JH Ĳ (·.1)).ar:=by
 have b:∀(a:f8) l,(l.q (·.1)).ar->((a.ah ŕ l).q (·.1)).ar:=by intro a;induction a with
 |nil=>intro l c;calc c
 |cons d e f=>intro l c;exact f _ (p3 c).1
 calc s4$ b a []
def sr:∀(l:BV)(a:M),(GV ŕ).length<=l.length+1
 |[],a=>by simp[ŕ]
 |(b,c)::d,a=>by have:=EK sr;unfold ŕ;split;simp;simp only[Β];lia
def vr(a:f8):IZ Ĳ<=a.length:=by
 have b:∀(a:f8) l,(a.ah ŕ l).length<=l.length+a.length:=by intro a;induction a with
 |nil=>intro l;simp
 |cons c d e=>intro l;have f:=e$ ŕ l c;have g:=sr l c;rw[ĥ,Β];lia
 have:=b a [];rw[Ħ,Km]at this;calc this
inductive xR(vs:g3)(H:Hp)(d:VK)(e:XK):Prop|mk(x:Bx)(B:ŏ)(c:M):vs=[JP,MH HG]->VJ (asK ((∀b a,IS (ZD->io agy (lO B c)->d AZ a))->SD xR))
def ui(a:Ĭ):RU pU 1 xR:=by
 calc EI pU ["board","cell","alike","places","times"] EO;let⟨h,j,k,I,m,o,q⟩:=g;have r:=m.obj;calc atb ?_;calc⟨_,η (FT B kP)$ η (KG (Cl I) (FN B) (HL (ď (dm (RF AG) SR) (μ (kQ (ba A) BU FC (WF (Tf (ba A) BU FC Φ ⟨I,I,I,I⟩) Φ) I)))))$ μ$ Ou$ Ξ$ ID B (X_ BU) (İ (ü:=[("places",3),("times",4)]) (by show EA (dj ["board","cell","alike","places","times"] (HN 53));decide+AO)) (λ_ _ _ _ _=>O5 K (n:=2) I$ č (FN B)$ JR$ IY B) Tm λ_ _ _ _ _=>qv$ ε (af2 K è y9 PySem.F.type_list_index (af6 K) (anm K FD) XX)$ VQ$ ol CV,?_⟩;walk_at "s";simp!;calc af λD G H J L=>?_;have N:D≠h.b:=(ρ r H).symm;have O:D≠h.p:=WW m.pl;have c:=QI r;simp!;calc sw$ cD (xs:=Ě j.ζ) (dq (QI m.pl)) (λe s t=>X1 λu=>A3 (IK SB t) (t D=akT (qR (Ĳ ((j.ζ.take e).filter (λx=>x&&&PU !=0))))) (s=[AT h.b,NQ PU,abn,u,none])) ⟨none,λy A B c=>c,by rw[L];rfl,I⟩ (λ e s t _⟨_,g,_,_⟩=>dq$ GK O.symm$ QI m.pl);rintro e v s t f G f ⟨u,L,a0,I⟩;have b0:=G.n;let⟨G,I⟩:=Ū f;have f:j.ζ.take LH=j.ζ.take e++[FI j.ζ.getD]:=by rw[å,δ G,γ,δ G];rfl
 rw[f,ł,ġ,abA]at b0;generalize f:(j.ζ.take e).filter (λx=>x&&&PU !=0)=l at a0 b0;have c0:MI$ Ĳ l:=by calc É (vr l) ?_;rw[<-f];refine OD$ im$ É$ ga List.length_take_le
 generalize FI j.ζ.getD=d0 at b0|-;by_cases f0:d0&&&PU=0;rw[atg f0,Đ]at b0;simp! [e_,f0,-U.ae];calc ga b0 ⟨_,L,a0,I⟩;have g0:¬kw (d0&&&PU)=0:=gt
 have h0:Ĳ (l++[d0])=ŕ (Ĳ l) d0:=by unfold Ĳ;rw[Þ];rfl
 rw[ath f0,h0]at b0;let⟨i0,j0,k0⟩:=Pk (l:=Ĳ l) (p:=d0) (Mu l);have l0:QF adX:=by show adX.length<QW;rw[qR,θ];lia
 simp! [e_,f0,g0,j0,-U.ae];calc⟨D,_,I,a0,_,I,a0,?_⟩;rw[j0];simp!;calc ga b0 ⟨_,λy A B c=>(ω B).trans$ IL L B c,?_,I⟩;rw[Α];calc LM (λl=>f4$ HO.dK l) k0;rintro s t ⟨u,L,a0,I⟩;rw[Τ,Ò]at a0;calc⟨D,_,a0,EQ.cR,λs=>?_⟩;have m0:∀y A,y≠D->t y=f4 A->ø t D (HO.jt s (NF (qR (Ĳ (j.ζ.filter (λx=>x&&&PU !=0)))))) y=f4 A:=λy A B c=>(ω B).trans c;generalize f:j.ζ.filter (λx=>x&&&PU !=0)=l at a0 m0|-;have c0:MI$ Ĳ l:=by calc É (vr l) ?_;rw[<-f];exact OD o
 have o:ø t D (HO.jt s (NF adX)) D=f4 (HO.jt s (NF adX)):=Α;generalize ø t D (HO.jt s (NF adX))=B at m0 o|-;simp only[L7];calc⟨D,s,_,I,o,λs B=>?_⟩;have n0:s≠D:=(ρ o B).symm;calc sw$ lcS Te KY (λo0 u d=>∃i0:β,u=wp i0/\hm (t i0)/\i0≠D/\i0≠s/\d i0=KS [AD$ j.ζ.dc (ak4 o0 (0,0)).1,MH PU,AD (ak4 o0 (0,0)).2]) B (by show(qR _).length<QW;rw[qR,θ];lia) (λp0 r0=>ZV o) (λ o0 u p0 s0⟨i0,j0,k0,t0,u0,v0⟩ w0=>⟨i0,j0,k0,t0,u0,ZP$ w0 i0 _⟩);rintro e z p0 s0 G r0 ⟨x0,y0⟩ ⟨i0,z0,v,A0,I,B0,I⟩;calc wn$ Μ.new B0;intro C0 D0 F0 G0;have H0:e<(Ĳ l).length:=by rw[qR,θ]at G;exact G
 have G:(z0,v)=(OL$ kw (ak4 e (0,0)).1,CK (ak4 e (0,0)).2):=by rw[qR,Δ,δ H0]at A0;rw[γ,δ H0];exact(Ü A0).symm
 let⟨I,I⟩:=cS G;let⟨G,I0,J0,K0⟩:=Mr B0 (HO.c9 [kV$ È$ kw (ak4 e (0,0)).1,CK (ak4 e (0,0)).2]);rw[I0]at F0|-;calc LN$ aK K0;have M0:(ak4 e (0,0)).1∈j.ζ:=by
  have:ak4 e (0,0)∈Ĳ l:=by rw[γ,δ H0];exact Ö H0
  have:=(GE$ (pK l).2 _).2;have:(ak4 e (0,0)).1∈j.ζ.filter (λx=>x&&&PU !=0):=by rw[f];exact this
  exact akP.1
 generalize ak4 e (0,0)=y at M0 K0 F0|-;have x:G h.b=UB:=ga J0$ ZV$ ga m0 N.symm$ MD N.symm$ QI r;have r:G h.p=UB:=ga J0$ ZV$ ga m0 O.symm$ MD O.symm$ QI m.pl;have N:j.ζ.dc y.1<j.ζ.length:=yx M0;simp only[O3,jy,Yo];calc wn (by simp[Ş]);simp only[Sv,ahb];calc⟨h.b,CB,h.dx,_,_,I,x,tB.clB,tB.Ep,aev ..,.D ⟨I,_,.D$ .D r⟩,h.p,Ě j.ζ,MH y.1,j.ζ.dc y.1,MH y.1,I,I,.D$ .D r,I,?_,?_,?_,?_,?_⟩;simp[ľ,iD];calc(Ė N).trans (by rw[γ,δ N,Ul];rfl);calc beq_self_eq_true$ kw y.1;intro m z O f0;rw[im Ė]at f0;cases f0;have:j.ζ.getD m 0≠y.1:=λc=>by have:=List.not_of_lt_findIdx (p:=(·==y.1)) (xs:=j.ζ) (i:=m) O;rw[γ,δ (show m<j.ζ.length by lia)]at c;simp only[Uu]at c;rw[c]at this;simp at this
 calc ZH.Q (show kw (j.ζ.getD m 0)≠(y.1:M)by lia);calc⟨(by show GT 3;decide),λk0 G=>?_⟩;let⟨h,x,r,N⟩:=Mr G (HO.c9 [HM$ j.ζ.dc y.1,CK PU,HM y.2]);have m:=J0.free G;have O:k0≠D:=(ρ (ZV o) m).symm;calc ga (F0 I) (Μ.new G) ⟨k0,I,?_,O,?_,Α⟩;cases c:t k0 with
 |none=>rfl
 |some A=>rw[ZV$ ga m0 O c]at m;cases m
 calc(ρ y0 m).symm;intro p0 h r0 x r;have N:hm$ t s:=by cases c:t s with
 |none=>rfl
 |some A=>rw[ga m0 n0 c]at B;cases B
 have G:LF$ ø p0 D$ HO.dK adX:=λy A c=>by have m:y≠D:=ρ c H;rw[ω m];exact ZV$ ga m0 m$ MD m$ QI c
 calc⟨ZV o,sw$ q s _ G⟩;cases c:d s with
 |none=>rfl
 |some A=>rw[MD n0$ QI c]at N;cases N
 have O:∀(B:BV)(d:f8)(h:g3),d.q (λo0=>ak4 o0 (0,0))=B->bq (λo0 u=>∃i0:β,u=wp i0/\hm (t i0)/\i0≠D/\i0≠s/\p0 i0=KS [AD$ j.ζ.dc (ak4 o0 (0,0)).1,MH PU,AD (ak4 o0 (0,0)).2]) d h->∃q:s5,h=GG q.q/\bq (λ i0(y:M×IE)=>ø p0 D (HO.dK adX) i0=KS [AD y.1,AD$ lv y,AD$ wS y]) q (B.q (λy=>(j.ζ.dc y.1,PU,y.2))):=by intro B d h c r;induction r generalizing B with
 |nil=>cases c;calc⟨[],I,.nil⟩
 |@cons o0 u d h g _ H=>let⟨i0,I,_,t0,_,v0⟩:=g;cases c;let⟨q,J,A⟩:=H _ I;exact⟨i0::q,by rw[J];rfl,KU (DK t0 v0) A⟩
 have L:(FX adX.length KY).q (λo0=>ak4 o0 (0,0))=Ĳ l:=by rw[CZ,qR,θ];apply ao;simp;intro e o N;rw[cT,ah,γ,δ N];rfl
 let⟨q,J,A⟩:=ML h L r;calc⟨q,by rw[ω n0,x,J],?_⟩;unfold lO;rw[f];calc A
inductive H5(vs:g3)(H:Hp)(f:VK)(g:XK):Prop|mk(q:æ)(x:Bx)(b u d:β)(L:Ž)(B:ŏ):vs=[JP]->aj5 b u d L->atP (apV ((∀e a c,IS (amV->AM agy c->IT Ky B c->f EN a))->on (AJ H5)))
def z7(a:Ĭ):RU pV 3 H5:=by
 calc EI pV ["board","crowded","pairs"] EO;let⟨h,i,j,k,l,m,n,I,o,p,q,r,s,t,u⟩:=g;have x:=p.obj;have y:=o.obj;have z:n.ζ.length<=9:=by rw[r.wf.lp];exact r.wf.n9
 have A:∀{B:Hp}{D:M},LF B->n.O D->xR [wp i.b,MH (2^D)] B e E0:=λ{B D} G H=>⟨i,n,D,I,p.same G,z,λJ L N O c=>u J L _ (G.trans N) (G.free O) c$ BW yI H⟩;calc ln λf h g y d e B=>⟨_,η (KW B (GC Cl (Ø Cl)))$ ER (ď (ND AG Φ) (rc (LI ui e (Tl (ol (LI z6 e (Tl (ol AG))))))))$ η (FT B (LI Mt e ZZ))$ ER (ď (ND BU Φ) (rc (LI ui e (Tl (ol (GC BU (bD iC BU)))))))$ rc$ Dh (LI agz e ZZ)$ B8$ LI ui e$ Tl$ ol$ LI z6 e$ Tl QQ,?_⟩;walk_at "s";by_cases H:n.ĵ&&&m.lM=0;simp! [e_,H];calc⟨i,n,I,p,λz D=>?_⟩;by_cases G:z=0;subst G;simp!;calc⟨i,n,I,p,by rw[r.wf.lw,r.wf.lp],λc J f O h=>?_,λc J g y d e B f O h e B a0=>?_⟩;have b0:=JI x;calc ajK (wT ⟨_,.D$ .D h,I⟩) ?_;simp!;calc⟨i,j,k,l,m,n,n.ĵ,I,o.same f,p.same f,r.wf,s,r.wf.bo,λL s N x=>?_⟩;calc A (f.trans N) x;let⟨c0,v,s,d0,f0,g0,I,I,h0⟩:=a0;calc ajJ (wT ⟨_,.D$ .D h,I⟩) ?_;calc u J c [(d,2^s,1),(d,2^d0,1)] f O ⟨[g,y],h,.cons e$ .cons B .nil⟩$ BW wO (by rw[<-r.wf.lp];calc c0) f0 g0 h0;let⟨s,q,u,J⟩:=dX G;have O:low z=2^s:=J;have c:¬jp z=0:=gt
 simp! [G,c,Ts z G,O,-U.ae];have:n.O s:=by have:=D s q;rw[t]at this;exact this
 calc GE$ A HJ;have f:¬kw (n.ĵ&&&m.lM)=0:=gt
 simp! [e_,H,f];calc⟨i,j,k,l,m,n,n.ĵ&&&m.lM,I,o,p,r.wf,H,hg r.wf.bo,λL s N x=>?_⟩;have:n.O s:=by rw[Ã,ξ]at x;exact x.1
 calc GE$ A N
def Du(b:β)(a:V)(c:β):ES:=[("plain_layout",AZ),("layout",a),("known",CO)]
section
variable(Lp kd:β)(Pl:V)
@[simp]def aq8:asH.E (FP "plain_layout")=AT Lp:=I
@[simp]def aq9:asH.E (FP "layout")=f4 Pl:=I
@[simp]def aq_:asH.E (FP "known")=AT kd:=I
@[simp]def aeA:hu asH "start":=I
@[simp]def aeB:hu asH "count_up_to":=I
@[simp]def agA:hu asH "find_filling":=I
@[simp]def ahv:hu asH "remember":=I
end
def ak(a:At):RJ:=a.q È
def mq(a:At):BT a.q=JH ak kV:=by unfold ak;rw[Χ];rfl
structure aT(q:æ)(L:Ž)(a:BA):Prop where
 len:a.length<=100000
 ok:∀c v,(c,v)∈a->∃told:U,v=AB told/\∀(B:ŏ)(b:At),VS ú->ahf=B.ĵ->b.dW (zs B.ζ)->c=ak b->(0<=told->jp (d3 q B)=told)/\(told<0->-told<=jp (d3 q B))
def H6{b:Type}[OF b]{a:asN b}{c:b}{v:V}(d:mt ab=DE):(c,v)∈a:=by let⟨e,f,I⟩:=Υ.J d;have g:=yp f;have h:=eB f;simp only[BE]at g;rw[<-g];calc h
def H7{b:Type}[OF b]{a:asN b}{g c:b}{v:V}(d:(c,q)∈aR a g v):(c,q)∈a\/(c=g/\q=v):=by unfold aR at d;split at d;let⟨h,e,f⟩:=TC;split at f;rename_i z;cases f;calc .X$ JA z;subst f;calc .D e;rcases Ι.J d with z|z;calc RR;right;simpa using z
def ac9{a:f8}(b:(zs h).dW (zs a)):h.dW a:=by
 have:=b.q U.aj;unfold zs at this;rw[Χ,Χ]at this;have c:∀l:f8,l.q (U.aj∘λ(d:M)=>(d))=l:=λl=>by
  conv=>rhs;rw[<-km l]
  exact ö λd _=>U.a0 d
 rwa [c,c]at this
def xS{a b:At}(c:ak a=ak b):NJ:=(Ut λd e f=>adG f).J c
def aT.add(c:aE u l){a:BA}(k:GV (aT u))(d:J.length<=100000){b:At}{told:U}(e:ú l p)(f:Ų p.ζ=p.ĵ)(g:b.dW (zs p.ζ))(h:∀m v,(m,v)∈J->(m,v)∈a\/(m=ak b/\v=AB told))(i:0<=told->jp (d3 u p)=told)(j:told<0->-told<=jp (d3 u p)):aT u l J:=by calc⟨d,λm v n=>?_⟩;rcases h m v n with z|⟨o,q⟩;calc k.ok m v z;calc⟨told,q,λr s t x y A=>?_⟩;have:=xS$ o.symm.trans A;subst this;have:=AH V5 t f x$ ac9$ g.symm.trans y;rw[<-this];calc⟨i,j⟩
def j_(a:M):M:=IZ BS
def Dv{L:Ž}{c:M}(e:x<VZ)(f:∀g,d.o g=Z->x.o g=Z)(a:FR x.o)(b:pr (d.o c)):j_ d<j_ x:=by unfold j_;have h:=Į e a;have:=kA (l:=c::BS d) (ñ.Q ⟨(λz=>by rw[(c5.J z).2]at b;cases b),au ļ ey⟩) (λi j=>by rcases ν.J j with k|k;rw[k];calc c5.Q ⟨h,a⟩;have:=c5.J k;calc c5.Q ⟨this.1,f i this.2⟩);rw[Β]at this;lia
def oJ{b:M}(a:∀c,FR d.o->FR b.o):j_ d<=j_ b:=by calc kA (au ļ ey) λe f=>by have:=c5.J f;calc c5.Q ⟨this.1,a e this.2⟩
inductive Pm(vs:g3)(H:Hp)(f:VK)(h:XK):Prop|mk(x c d:β):vs=[DJ,BK]->TQ (DW CS c [])->(∀b a,(∀e g,e≠x->H e=HK->a e=HK)->ZD->RH (.dT [])->a x=f4 (DW CS c (Du d .Ť b))->f .Ť a)->GP (AJ Pm)
def aab(a:Ĭ):RU jK 1 Pm:=by calc EI jK ["self","layout"] EO;let⟨h,i,j,I,k,l⟩:=g;calc ata ⟨_,auC$ OS ŝ$ μ$ agB Gy,?_⟩;walk_at "s";simp! [-ĕ];calc sk k iV 0 I λt u v=>?_;simp! [-ĕ];calc sk v mm 1 I λx y A=>?_;simp! [-ĕ];calc af λB D G H J=>?_;have L:B≠h:=(ρ A G).symm;have N:SB h d x:=λO c e f=>UL e$ py QP;simp! [-ĕ];calc sk (LT A) vk 2 I λi j g=>?_;calc l B _ (λO c e f=>ga j e$ LT$ py$ N O c) ?_ (ga j L J) g;cases z:d B with
|none=>rfl
|some c=>rw[NG L z]at G;cases G
inductive qE(vs:g3)(H:Hp)(k:VK)(m:XK):Prop|mk(S e h c tk:β)(f:V)(b:BA)(g:At)(told:U):vs=[QT,wp tk,AB told]->H S=f4 (DW CS e (KL (Du h)))->H c=f4 (.dT b)->b.length<=100000->H tk=KS (BT g.q)->(∀d a,(∀i l,i≠c->H i=XS->d i=XS)->d c=OA .dT->a.length<=100000->(∀j v,(j,v)∈a->(j,v)∈b\/(j=ak g/\v=AB told))->k .Ť d)->AJ qE k m
def vt(a:Ĭ):jL.P b 1 qE:=by calc jL.ok ["self","key","told"] EO;let⟨S,h,i,j,k,l,m,n,told,I,o,p,q,r,s⟩:=g;have t:S≠j:=AF$ BF đ;have u:k≠j:=AF$ đ r p;rw[mq]at r;calc ln λv x y A B D G=>⟨_,ER (ď (Ô W4 (Ļ aiQ JZ.len Ď QQ) (aqg He)) (IW (agf cG zc PySem.F.type_dict_clear acQ Cl)))$ μ$ Yz (ba D) Cl AG BU I,?_⟩;walk_at "s";by_cases H:jp 100000<=jp m.length;have J:ø d j (.dT []) j=f4 (.dT []):=Α;have L:SB j d$ ø d j$ .dT []:=λN O c e=>(ω c).trans e;have f:=MD t o;have i:ZB "dict" PX d:=OX$ .D$ ln$ .X$ CM p;simp! [H,p,-Hc];calc⟨S,CS,h,_,_,I,f,tS.cl,tS.nK,I,j,_,k,ak n,I,J,I,MD u r,by show 0<QW;decide,?_⟩;calc MZ (λN O c e=>(ω c).trans$ AH$ L N O) Α (by show 1<=100000;decide) λl q g=>?_;rcases H7 g with z|z;simp at z;calc MV;simp! [H,p,-Hc];calc⟨S,CS,h,_,_,I,o,tS.cl,tS.nK,I,j,_,k,ak n,I,p,I,r,by show m.length<QW;lia,?_⟩;calc MZ (λN O c e=>(ω c).trans e) Α ?_ λl q g=>H7 g;have:=gO m (ak n)$ FL told;lia
def ė.cons(b:AR (ė e)):AR$ ė (c::e):=λd g h i=>Fk g (λz=>h$ BI z) i
def bg.keep{O:s5}(c:bg a s p)(d:AR (ė O))(b:∀g,g∈s.ü->g∉O)(e:∀g,g∈s.ws->g∉O):bg f s p:=⟨IB (b _ (by simp[Bx.ü])) c.obj,IB (b _ (by simp[Bx.ü])) c.pl,IB (b _ (by simp[Bx.ü])) c.wt,dk.eI c.wl λg h i j=>ww d (DL e) j,IB (b _ (by simp[Bx.ü])) c.st,IB (b _ (by simp[Bx.ü])) c.ck,c.ap⟩
def bg.nk(d:bg a s p)(b:JD=f4 (.dT J)):(∀e,EG s.ü->e≠c)/\ ∀e,EG s.ws->e≠c:=by
 constructor;intro e f;simp only[Bx.ü,ν,ã,GS]at f;rcases f with I|I|I|I|I;calc adm d.obj;calc adm d.pl;calc adm d.wt;calc adm d.st;calc adm d.ck;have:∀{g:s5}{h:List _},ww (dk a)-> ∀e,EG g->e≠c:=λ{g h} i=>by induction i with
 |nil=>simp
 |cons j i k=>intro e f;rcases ν.J f with z|z;rw[z];calc AF$ đ j b;exact k e z
 calc this d.wl
def bg.p4(d:bg a s p)(b:JD=f4 (.dT J))(e:AR (ė [c])):bg f s p:=d.keep e (λg h z=>ww (d.nk b).1 RM) λg h z=>ww (d.nk b).2 RM
def mN.p4(d:up (mt mN) m l)(b:a n=f4 (.dT J))(e:AR (ė [n])):up (KL mN) m l:=⟨MX (VE (adm d.obj)) d.obj,MX (VE (adm d.us)) d.us,MX (VE (adm d.ul)) d.ul⟩
def vq.fresh(b:up (mN a s.La c) l)(e:AR Μ)(d:∀g,g∈s.ü->UI a):up (vq f s c) l:=⟨b.same e,(λz=>by have:=b.obj;rw[DG d]at this;cases this),(λz=>by have:=b.us;rw[DG d]at this;cases this),λz=>by have:=b.ul;rw[DG d]at this;cases this⟩
structure Tot(b:U)(aQ a:M):Prop where
 le:aQ<=a
 eq:jp aQ<b->aQ=a
def Tot.step{aQ a c:M}(g:Tot v aQ a)(b:jp aQ<v)(h:1<=d)(e:x<=c)(f:jp x<(v-aQ+d-1)/d->x=c):Tot v (aQ+d*x) (a+d*c):=by
 have i:=g.eq b;calc⟨M.add_le_add g.le$ Ń _ e,Ty⟩;have:x<(v-aQ+d-1)/d:=by
  apply U.lt_of_not_ge;intro k;have l:(v-aQ+d-1)/d<x+1:=gt
  have m:=(U.ediv_lt_iff_lt_mul (show jp 0<d by lia)).J l;lia
 rw[f this,i]
def Tot.ao6{aQ:M}(b:Tot v aQ d)(a:¬jp aQ<v):Tot v aQ (d+x):=⟨É b.le$ ga eF,λz=>VI a⟩
def H8{b:are IE}(e:mt agy b):∃f:s5,JD=KE f.q/\f.length=b.length/\∀(d:M)(v:V),(GG f.q)[d]? =DE->∃(g:β) (h:M×IE),v=FU/\b[d]? =OE/\a g=KS [AD h.1,AD$ lv h,AD$ wS h]:=by let⟨f,i,j⟩:=e;calc⟨f,i,Ñ j,λd v k=>?_⟩;rw[Δ]at k;let⟨g,l,I⟩:=Υ.J k;let⟨h,m,n⟩:=Ā j l;calc⟨g,h,I,m,n⟩
structure yX(q:æ)(L:Ž)(H:Hp)(S b e c:β)(d:V)(a:BA):Prop where
 obj:H S=f4 (DW CS b (DB (Du e)))
 kn:H c=OA .dT
 ok:IT aT a
inductive we(m:M)(vs:g3)(H:Hp)(n:VK)(o:XK):Prop|mk(q:æ)(S e k d:β)(f:V)(g:BA)(x:Bx)(h u l:β)(L:Ž)(B:ŏ)(a:U):vs=[QT,JP,KM]->QJ (IT yX H S e k)->TU S->Ix vq h u l L->atP (1<=a->j_ B.ĵ<=m->(∀c i j b(r:M),ė (d::x.ü) H c->Ix bV i->up (bg c)->HU=f4 (.dT b)->IT aT b->(d3 q B=0\/IT Stl B j)->r<=d3 q B->(jp r<a->r=d3 q B)->n (AD r) c)->BQ (AJ (we m)))
def aac(a:Ĭ):b7.P b 1 λ_ _ _ _=>DN:=b7.ok ["self","board","most","key","told","total","digit","cell","times","enough"] λ_ _ _ _ c=>c.elim
def xT(d0:Ĭ){P0:Sp}(e:b7.P b x P0)(C2:3<=x)(Z1:∀f0,d=f0+1->P0=we f0):MQ Lz b (x+1) CS "count_up_to" ["self","board","most"]$ we d:=by calc b7.ok ["self","board","most","key","told","total","digit","cell","times","enough"] λD2 E2 w2 F2 s1=>?_;let⟨G,S,Q0,t1,p,R0,m,a2,u,u1,l0,y,Z0,f,I,A,b2,v1,w1,H,a1,G2,H2,V1⟩:=s1;calc ln λa3 x2 b3 W1 I2 J B=>⟨_,ER (YL (Ŵ (uh d0) J (hj:=gt) AG) (rc Φ))$ ER (akQ XR (rc Φ))$ η (GX B (Ŵ (Z4 d0) J (hj:=gt) AG))$ η (OG B (zO (ba J) Cl FC ⟨I,I,I,I⟩))$ ER (WP (hs (Ô Hh CV ŝ) (fF (PW.pt (ad0 (Ô W4 CV Φ) (Wt (Ô W4 (bD iC CV) BU)))))) (rc (Ļ anN (bu d0).abs akC (ol CV))))$ NH (À 5 B)$ η (KG (ċ (z7 d0) J (hj:=gt) (ol AG)) (j9 (n:=3) I (č (Ψ 6 B) (č (Ψ 7 B) (JR (Ψ 8 B))))) (HL (ď (Ô Gh JM BU) (η (À 9 B (Í Cd (RT (WF (RT BU JM) (pw 8)) Φ) (pw 8))) (μ (bN 5 B (KK (pw 8) (Ľ e J (hj:=gt) FD (ε (Ľ (v8 d0) J (hj:=gt) AG (ε OJ aua)) (ol (pw 9))))) Od))))))$ η (Ł (Ľ (vt d0) J (hj:=gt) FD (ε FC (ol (F_ (Ô Gh JM BU) JM (bD iC JM))))))$ rc JM,?_⟩;walk_at "s";simp!;calc⟨a2,u,u1,l0,y,Z0,I,v1,w1,a1.wf,λy0 N k0 c g0 q st m0=>?_⟩;have c2:=w1.nk A.kn;have x1:y0 S=UB:=ga g0 b2 A.obj;have n0:y0 p=f4 (.dT m):=ga g0 (RK (c2.1 p z)) A.kn;cases k0 with
|gl=>
 have y1:d3 G Z0=0:=by unfold d3;rw[wM$ (e4 H st a1).2 I];rfl
 simp!;calc V1 y0 N c m 0 g0.cons q m0 n0 A.ok (.D y1) CY λ_=>y1.symm
|Z=>
 have a:=(e4 H st a1).1 I;have b1:=m0.obj;rw[q.b]at b1;have t:d3 G Z0=d3 G c:=by unfold d3;rw[fx a.J8]
 by_cases o0:c.ĵ=0;have d2:d3 G Z0=1:=by rw[t];unfold d3;rw[s9 H a.fM o0];rfl
 simp! [o0];calc im (V1 y0 N c m 1 g0.cons q m0 n0 A.ok (.X a)) λ_=>d2.symm;have c1:=a.fin.a1 o0;simp! [o0];calc⟨N,c,by rw[q.b],m0,by rw[a.fM.wf.lp];calc a.fM.wf.n9,λh0 z0 p0 b0 _ y2 r0 d1=>?_⟩;have z1:=ZV x1;have s0:=ZV n0;have z2:z0 h0=UJ (ak p0).q:=by rw[d1,mq]
 have S0:ė a2.ü E2 z0:=λa0 x0 j e1=>ZV$ g0 a0 x0 j e1;have f1:=m0.same r0;have T0:=(v1.step g0 q).jf.same r0;simp! [-Za,-Yn];calc Zi ?_ λc3 A0=>?_;case' auH=>
  rcases g1:ab m (ak p0)with _|v;rw[g1]at A0;simp!;calc A0;let⟨told,I,B0⟩:=ga A.ok.ok (H6 g1);let⟨C0,D0⟩:=B0 c p0 a.fM c1 b0 I;rw[<-t]at C0 D0;rw[g1]at A0;have U0:∀k0:M,(told.a4:M)=k0->k0<=d3 G Z0->(jp k0<f->k0=d3 G Z0)->w2 (AB (if told<0 then-told else told)) z0:=λk0 J2 e2 f2=>by rw[show(if told<0 then-told else told)=jp k0 by split<;>lia];exact V1 z0 N c m k0 S0.cons q f1 s0 A.ok (.X a) e2 f2
  by_cases F0:0<=told;have:=C0 F0;simp! [F0];calc im (U0 _ I) λ_=>gt;have:=im D0;by_cases A1:f<=-told;simp! [F0,A1];calc im (U0 _ I) λ_=>gt;simp! [F0,A1];exact A0
 simp!;calc⟨G,N,u,u1,l0,y,c,by rw[q.b],T0,f1,H,a.fM,o0,c1,λK2 g2 G0 i0 N2 B1 V0=>?_⟩;let⟨h2,t0,h1,i1⟩:=H8 B1;have C1:=f1.same i0;have W0:=T0.same i0;have u0:=ga i0 z1;have k:=ga i0 s0;have X0:S≠p:=AF$ đ u0 k;generalize (ab m$ ak p0).getD .Ť=i2;calc sw (cD (xs:=GG h2.q) (wT t0) (λH0 I0 r=>X6 (λ g(aQ:M) v0 J0 K0 M0=>A5 (I0=[f4 QT,AT a2.b,f4 QA,AT h0,f4 i2,BJ aQ,v0,J0,K0,M0]) (ė [p] g2 r) (r p=f4 (.dT g)) (aT G y g)$ Tot f aQ$ atC$ G0.take H0)) ⟨m,0,none,none,none,none,I,RA,k,A.ok,arm λ_=>mo⟩) ?_;rintro H0 I0 r _ ⟨g,aQ,v0,J0,K0,M0,I,kk,o,s,i⟩;calc wT$ kk K2 _ (VE (AF (đ t0 k))) t0;rintro H0 v I0 r F2 j2 k2 ⟨g,aQ,v0,J0,K0,M0,I,kk,o,s,i⟩;have w0:=j2.n;let⟨B2,h,I,D1,B0⟩:=i1 H0 v k2;have E1:B2≠p:=AF$ đ B0 k;calc LN$ aK$ kk B2 _ (VE E1) B0;have j1:atC (G0.take (H0+1))=atC (G0.take H0)+wS h*d3 G (c.ù y h.1 (lv h)):=by rw[å,D1,Æ,nj];simp
 rw[j1]at w0;generalize atC (G0.take H0)=O2 at i w0;let⟨k1,F1,c0,l2,Q2⟩:=V0.ok h (Î D1);have j0:=C1.p4 k kk;have l1:=j0.obj;rw[q.b]at l1;have D:=kk S _ (VE X0) u0;by_cases l:jp aQ<f;have m2:afk (f-aQ+wS h-1)$ wS h:=ZN;simp! [l,-U.ae];have G1:=a.fM.pc c0;calc⟨N,u,u1,l0,y,c,h.1,lv h,by rw[q.b],W0.p4 k kk,j0,a.fM.wf,a.fM.pd c0,by rw[F1];calc gk G1,λN0 n2 O0 o2 m1 S2 H1=>?_⟩;rw[F1]at H1 w0;let⟨p2,T2⟩:=fv H a.fM c0;have q2:j_ (c.ù y h.1 (2^k1)).ĵ<j_ c.ĵ:=by calc Dv (L:=y) (Ä a.fM.wf.bo (Uf a.fM.wf.nn)) (λH0 z=>((jZ (L:=y) h.1 k1 H0).J z).1) (ga a.fM.po c0) ?_;cases z:(c.ù y h.1 (2^k1)).ĵ.testBit k1 with
 |gl=>rfl
 |Z=>exact QV ((jZ (L:=y) h.1 k1 k1).J z).2
 have Y1:j_ c.ĵ<=j_ Z0.ĵ:=oJ a.oo;let⟨f0,I⟩:∃f0,d=f0+1:=anc (d-1);obtain I:=Z1 f0 I;have I1:=ga O0 D;have J1:S∉n2.ü:=λz=>by rw[DG m1]at D;cases D
 have K1:mN r n2.La u u1 l0 y:=by rw[o2];exact W0.p4 k kk
 have L1:1<=(f-jp aQ+jp (wS h)-1)/jp (wS h):=im (im U.le_ediv_iff_mul_le).Q;simp!;calc⟨G,S,Q0,t1,p,R0,g,n2,u,u1,l0,y,c.ù y h.1 (2^k1),_,I,⟨I1,ga O0 o,s⟩,J1,vq.fresh K1 O0 m1,H1,H,p2,L1,gt,λU2 v0 V2 n1 k0 r2 W2 Y2 N1 O1 _ Q1 R1=>?_⟩;have s2:l9 (wS h) k0:=LV;simp!;calc ga w0 ⟨n1,aQ+wS h*k0,_,_,_,_,by rw[U.aA,U.am],λa0 x0 j e1=>?_,N1,O1,i.step l l2 Q1 R1⟩;have o1:=kk a0 x0 j e1;calc r2 a0 x0 RP$ ga O0 o1;rcases MU with z|z;calc j (by simp[z]);rw[m1 a0 z]at o1;cases o1;simp! [l];calc ga w0 ⟨g,aQ,_,_,_,_,I,kk,o,s,i.ao6 l⟩;rintro I0 r ⟨g,aQ,v0,J0,K0,M0,I,kk,o,s,i⟩;rw[θ,h1,Ò,<-V0.sum]at i;have D:=kk S _ (VE X0) u0;have p1:h0≠p:=AF$ đ d1 s0;have S1:=kk h0 _ (VE p1)$ ga i0 d1;have j0:=C1.p4 k kk;have Z2:=i.le;have Y0:∀told:U,(0<=told->jp (d3 G c)=told)->(told<0->-told<=jp (d3 G c))-> ∀q1:VK,(∀r,w2 (AD aQ) r->q1 .Ť r)->qE [QT,wp h0,AB told] r q1 E0:=λtold C0 D0 q1 t2=>⟨S,Q0,t1,p,h0,R0,g,p0,told,I,D,o,s.len,S1,λN0 r1 T1 U1 u2 v2=>t2 _$ V1 N0 N c r1 aQ (λa0 x0 j e1=>T1 a0 x0 (λz=>j (by simp[z]))$ kk a0 x0 (λz=>j (by simp at z;simp[z]))$ ga i0$ S0 a0 x0 (λz=>j$ BI z) e1) q (j0.keep (O:=[p]) (λa0 x0 j e1=>T1 a0 x0 (λz=>j (by simp[z])) e1) (λa0 j z=>(j0.nk o).1 a0 j RM) (λa0 j z=>(j0.nk o).2 a0 j RM)) U1 (s.add H u2 a.fM c1 b0 v2 C0 D0) (.X a) (by rw[t];calc i.le) λz=>by rw[t];calc i.eq z⟩;by_cases l:jp aQ<f;simp! [l];exact Y0 _ (λ_=>by rw[i.eq l]) (λz=>gt) _ λN0 s1=>by simp!;exact s1
 simp! [l];calc Y0 _ (λz=>gt) (λz=>gt) _ λN0 s1=>by simp!;calc s1
def lr(a:Ĭ):∀c,MQ Lz b (4+c) CS "count_up_to" ["self","board","most"] (we c)|0=>CD (xT a (CD (aac a).hT)) λd e=>gt|BD=>im (xT a (mt lr)) λd e=>EX _$ zd e
def z8(a b:M):kw (io fS)=(DD-GI)%jp ĳ:=by unfold fS;rw[U.cT$ CD$ U.eS _]
def aad(l:f8):HY.all iD=Z:=by rw[ľ,fZ];simp[iD]
def Pn(a:M)(l:f8):inV (HM a) HY=l.an a:=by unfold inV;rw[ľ,uA];induction l with
|nil=>rfl
|cons b c d=>rw[aA,jg,d];congr 1;show(GI==DD)=(a==b);rw[ß];simp;constructor;lia;lia
inductive H9(vs:g3)(H:Hp)(c:VK)(d:XK):Prop|mk(a:β)(l:f8)(u:M):vs=[AC,.int u]->ahg HY->l.length<1000000->(∀b,JT (ė [a])->b a=xL (eW l u)->c .Ť b)->UV H9
def uj(a:Ĭ):RU zS 1 H9:=by
 calc EI zS ["found","unit"] EO;let⟨h,l,i,I,j,k,m⟩:=g;calc arN ⟨_,HL$ ď (Ô agg AG FD)$ IW$ TX FD$ ol AG,?_⟩;walk_at "s";simp!;calc⟨h,HY,I,wT$ .D j,I,aad l,?_⟩;unfold eW at m;by_cases u:i∈l;rw[ath u]at m;simp! [Pn,u];calc m d RA j;rw[atg u]at m;have v:QF HY:=by rw[Τ];show BC;lia
 simp! [Pn,u];calc m _ (λx y z A=>DK RM A) ?_;rw[Α];show XC (HY++[HM i])=XC (Ě (l++[i]));rw[ľ,ľ,Æ];rfl
inductive z9(vs:g3)(H:Hp)(e:VK)(g:XK):Prop|mk(a b:β)(l units:f8)(c f:M):vs=[AC,AZ,On,QA]->ahg HY->H b=xL units->a≠b->l.length+units.length<1000000->(∀d,ė [a] H d->d a=xL (BL XT c f)->e .Ť d)->GZ (AJ z9)
def H_(l:f8)(a:M):(GV eW).length<=l.length+1:=by unfold eW;split;lia;simp
def pe(a b:M):∀(units l:f8),XY (BL XT)<=l.length+units.length
 |[],l=>by simp[dZ]
 |c::d,l=>by unfold dZ;rw[ĥ];have e:=H_ l 0;have f:=H_ l (AA õ|||b);split;have:=LP pe l;unfold dZ at this;simp only[Β];lia;split;have:=LP pe$ eW l (AA õ|||b);unfold dZ at this;simp only[Β];lia;have:=LP pe$ eW l 0;unfold dZ at this;simp only[Β];lia
def Mv(a:Ĭ):RU mI 2 z9:=by
 calc EI mI ["found","unit_sets","cell","twin","unit"] EO;let⟨h,i,l,units,j,k,I,m,n,o,p,q⟩:=g;calc atd ⟨_,μ$ aup (IY z)$ μ$ WP (hs (dm (GC CV BU)) (fF (dm (GC CV FC)))) (IW (LI uj y (Tl (ol Φ))))$ HL$ ď (dm (GC CV BU))$ IW$ LI uj y$ Tl$ ol$ Í Wz (GC CV (PH BU)) FC,?_⟩;walk_at "s";simp!;calc sw$ cD (xs:=Ě units) (dq n) (λA B D=>X1 λG=>A3 (NA [h] D) (D h=xL (AS (XT (units.take A)))) (B=[f4 NB,f4 OH,aoT,f4$ .int k,G])) ⟨none,RA,m,I⟩ (λ A B D _⟨_,g,_,_⟩=>dq$ g i _ (by simp;calc Ne.symm o) n);rintro A v B D f H J ⟨G,L,N,I⟩;have O:=H.n;let⟨c,I⟩:=Ū J;have e:AS (XT (units.take (A+1)))=(λl p=>if p&&&j=0 then l else if p&&&k=0 then eW l (õ p j|||k)else eW l 0) (AS (XT (units.take A))) (units.getD A 0):=by unfold dZ;rw[å,δ c,ŭ,Þ,γ,δ c];rfl
 have r:(AS$ XT$ units.take A).length<1000000:=by have:=AS pe (units.take A) l;rw[Ũ]at this;lia
 rw[e]at O;generalize units.getD A 0=p at O|-;dsimp only at O;by_cases s:p&&&j=0;rw[ii s]at O;simp! [e_,s];calc ML ⟨_,L,N,I⟩;rw[hf s]at O;have t:¬kw (p&&&j)=0:=gt
 by_cases u:p&&&k=0;rw[ii u]at O;simp! [e_,s,t,u,oI,Hn];calc⟨h,_,_,I,N,r,λx y z=>?_⟩;simp!;calc ML ⟨_,λd f g i=>QJ y$ QJ L i,z,I⟩;rw[hf u]at O;have m:¬kw (p&&&k)=0:=gt
 simp! [e_,s,t,u,m];calc⟨h,_,0,I,N,r,λx y z=>?_⟩;simp!;calc ML ⟨_,λd f g i=>QJ y$ QJ L i,z,I⟩;rintro B D ⟨G,L,N,I⟩;rw[Τ,Ò]at N;calc q D L N
inductive z_(vs:g3)(H:Hp)(g:VK)(h:XK):Prop|mk(a b:β)(li c:f8)(d:M):vs=[AC,AZ,OR]->WR li->H b=BG (Ě c)->li.length=c.length->li.length<=100->d<li.length->(∀i,li.getD i 0<ĳ)->(∀f e,EW e->e f=xL (re XH)->g EH e)->ww (AJ z_)
def xU(a:Ĭ):RU zT 1 z_:=by
 calc EI zT ["row","solved","cell","factor","number","part"] EO;let⟨h,i,li,j,k,I,l,m,o,p,q,r,s⟩:=g;calc ln λt u x y z A B=>⟨_,η (GX B (cB xC FD BU))$ ER (ď (ZS FC Φ) (μ (Ξ FD)))$ rc$ ID B (aiJ I JZ.zip (Tl (ol AG))) (İ (ü:=[("number",4),("part",5)]) (by show EA (dj ["row","solved","cell","factor","number","part"] (HN 39));decide+AO)) (λ_ _ _ _ _=>j9 (n:=2) I$ č (IY B)$ JR$ Ψ 5 B) Tm$ as8$ RT CV$ KK FC JM,?_⟩;unfold Ķ at s;have D:=Ė q;walk_at "s";by_cases G:aiH=0;rw[ii G]at s;rw[G]at D;simp! [D];calc s h d HJ l;rw[hf G]at s;have H:¬kw aiH=0:=gt
 simp! [D,G,H];calc sw$ lcZ (xs:=Ě li) (ys:=Ě j) (dq l) (dq m) (by rw[Τ,Τ,o]) (by rw[Τ];show BC;lia) KY λJ=>CK$ fS (li.getD J 0) (aiH*j.getD J 0);intro J L v N O c e f i p g t u;let⟨x,I⟩:=Ū c;rw[Ė (o▸x)]at e;cases e;calc LN$ aK i;have y:aiH<2305843009213693951:=r k;have z:l9 (kw aiH)$ kw$ j.getD J 0:=LV;walk_at "w";simp!;have A:arr (kw (li.getD J 0)-kw aiH*kw (j.getD J 0))=kw (fS (li.getD J 0) (aiH*j.getD J 0)):=by rw[z8,U.am];rfl
 rw[A];calc IR$ t I;intro B N q f d;rw[Τ,CZ]at d;calc s B N f ?_;rw[d,ľ,Χ];rfl
def ac_(a:M):ī DD 1=kw (a%2):=by have:=e_ a 1;rw[Vl]at this;calc this
def aae(a l:M):a^l=(if l%2=0 then 1 else a)*FY^(l/2):=by have b:=(aka a).symm;rw[b,<-lB];split;rw[lA,show 2*(l/2)=l by lia];rw[gd,<-vA];congr 1;lia
def aaf(pw a l b:M):(pw*(if l%2=0 then 1 else a)%b)*(FY%b)^(l/2)%b=pw*a^l%b:=by rw[EF aae,cC,Qz,<-p8,<-cC,agR]
inductive aag(vs:g3)(H:Hp)(c:VK)(d:XK):Prop|mk(n u o:M):vs=[JN,.int u,.int o]->US->(∀b a,IS (ZD->JC=xL (fu n u o)->c AZ a))->UV aag
def ada(a:Ĭ):RU r3 1 aag:=by
 calc EI r3 ["n","unit","other","cell"] EO;let⟨h,i,j,I,k,l⟩:=g;have m:FB*FB=kw OC:=by rw[U.am]
 have o:OC<=81:=Ë k k;calc ln λp q r s t u v=>⟨_,rc$ ID v (alt JZ (ol (KK FD FD))) (İ (ü:=[("cell",3)]) (by show EA (dj ["n","unit","other","cell"] (HN 38));decide+AO)) (λ_ _ _ _ _=>FN v) Tm$ as8$ RT (GC (Í xl AG FC) Φ)$ GC (Í xl BU FC) Φ,?_⟩;have x:l9 FB FB:=LV;walk_at "s";simp! [m,-U.am];calc sw$ lcN (n:=OC) (by show BC;lia) KY λy=>CK$ fS (i/2^y%2) (j/2^y%2);intro z A B D G H J L;have N:jp i/2^z=kw (i/2^z):=mo
 have O:jp j/2^z=kw (j/2^z):=mo
 have c:ī (jp i/2^z) 1=kw (i/2^z%2):=by rw[N];exact ac_ _
 have d:ī (jp j/2^z) 1=kw (j/2^z%2):=by rw[O];exact ac_ _
 have e:arr (kw (i/2^z%2)-kw (j/2^z%2))=kw (fS (i/2^z%2) (j/2^z%2)):=(z8 (i/2^z%2) (j/2^z%2)).symm;have f:PP$ jp z:=gt
 walk_at "w";simp! [c,d,e,f,-U.cP,-U.cQ,-U.ae];calc IR$ J I;intro g A k D o;rw[CZ]at o;calc l g A D k ?_;rw[o,ľ];unfold fu;rw[Χ];rfl
inductive aeC(vs:g3)(H:Hp)(a:VK)(b:XK):Prop|mk(x:M):vs=[.int x]->x<ĳ->a (MH (x^(ĳ-2)%ĳ)) H->TF aeC
def agC(a:Ĭ):RU zU 1 aeC:=by
 calc EI zU ["number","power","left"] EO;let⟨h,I,i,j⟩:=g;calc ln λk l m n o p q=>⟨_,NH (KW q)$ η (FT q (RT (aqg qA) Φ))$ η (cL (ND BU Φ) (ER (ď (dm (GC BU Φ)) (μ (KW q (Í oi (KK AG FD) (aqg qA))))) (η (À 0 q (Í oi (KK FD FD) (aqg qA))) (μ (bN 2 q Φ abW)))))$ rc AG,?_⟩;walk_at "s";simp!;calc dn (λr s t=>X2 λpw u=>A5 (s=[NQ u,NQ pw,NQ r]) (d=t) (pw<ĳ) (u<ĳ) ((pw*u^r)%ĳ=h^(ĳ-2)%ĳ)) (ĳ-2) ⟨1,h,I,I,DU,i,by rw[lA]⟩ ?_;rintro v s t x kT y ⟨pw,u,I,I,A,B,D⟩;have G:pw<2305843009213693951:=A;have H:u<2305843009213693951:=B;by_cases J:v=0;subst J;rw[M.pow_zero,p_,bS A]at D;simp!;calc y _ ?_;simp!;rw[D];calc j;have L:arr (jp u*jp u)=kw (u*u%ĳ):=mo
 have N:arr (jp pw*jp u)=kw (pw*u%ĳ):=mo
 have O:∀z:M,z%ĳ<ĳ:=λz=>CD$ cF _;have st:=aaf pw u v ĳ;have c:¬kw v=0:=gt
 have e:l9 (kw u)$ kw u:=LV;have g:l9 (kw pw)$ kw u:=LV;have k:=ac_ v;have l:kw v/2=kw (v/2):=gt
 simp! [J,c];calc kT _ λf m=>?_;by_cases n:v%2=0;rw[ii n,p_,bS A]at st;rw[n]at k;simp! [k,L,l,-U.cP,-U.cQ];calc ga m.n ⟨v/2,gt,pw,u*u%ĳ,I,I,A,O _,st.trans D⟩;rw[hf n]at st;rw[show v%2=1 by lia]at k;simp! [k,L,N,l,-U.cP,-U.cQ];calc ga m.n ⟨v/2,gt,pw*u%ĳ,u*u%ĳ,I,I,O _,O _,st.trans D⟩
def jS(a:f8)(b:s5):OV:=(a.zip b).q λc=>(OL$ kw EZ,SQ c.2)
def Dw(a:h.length=e.length):(jS h e).length=h.length:=by simp[jS,a]
def xV(a:d≠x):¬(VO d=È (jp x)):=λz=>by calc im a
def Po:∀{a:f8}{b:s5}{e c:M}{d:β},a.ar->a[e]? =HE->b[e]? =LJ->ab (io jS) (VO c)=f4 BK
 |[],_,e,c,d,_,f,_=>by simp at f
 |g::a,[],e,c,d,_,_,f=>by simp at f
 |g::a,h::b,0,c,d,_,i,j=>by simp at i j;subst i j;simp[jS,ab]
 |g::a,h::b,LH,c,d,k,i,j=>by
   let⟨l,m⟩:=ñ.J k;have n:=up$ Po m;have o:g≠c:=λz=>l (z▸Î i);unfold ab jS at n|-;rw[Uv,Â,ű];have p:OU (JL (È g)=È (jp c)):=by simpa using xV o
   simp only[p];calc n
def Ia:∀{a:f8}{as:s5}{b:M},b∉a->hm (ab (jS a as) (OL GI))
 |[],_,b,_=>I
 |c::a,[],b,_=>I
 |c::a,d::as,b,e=>by
   have f:=Ia (as:=as) λz=>e$ BI z;have g:c≠b:=λz=>e (by rw[z];simp);unfold ab jS at f|-;rw[Uv,Â,ű];have h:OU (JL (È c)=È GI):=by simpa using xV g
   simp only[h];calc f
def Mw:∀{a:f8}{as:s5}{b:M}{v:V},b∉a->(jS a as).q (λc=>if EZ=OL GI then(EZ,v)else c)=jS a as:=by
 intro a as b v d;conv=>rhs;rw[<-km$ jS a as]
 calc ö λc e=>?_;let⟨f,g,I⟩:=χ.J e;rw[hf];rfl;calc xV λz=>d (by rw[<-z];calc(h4 g).1)
def Pp(a:h.length=e.length):(jS h e).any (λb=>sB (EM=VO d))=Z↔BH h:=by
 rw[ô];constructor;rintro ⟨b,c,f⟩;let⟨g,i,I⟩:=χ.J c;have:g.1=d:=gt
 rw[<-this];calc(h4 i).1;intro j;let⟨k,l⟩:=â.J j;have m:=(φ.J l).1;calc⟨_,χ.Q ⟨(d,e[k]),?_,I⟩,mo⟩;calc â.Q$ wn k;rw[Bb];calc⟨l,δ _⟩
def Pq:∀{b:f8}{c:s5}{e d:M}{a:β},b.ar->b.length=c.length->b[e]? =LJ->(lf jS).q (λf=>if f.1=VO d then(f.1,V.ref a)else f)=jS b (c.set e a)
 |[],_,e,d,a,_,_,g=>by simp at g
 |h::b,[],e,d,a,_,i,_=>by simp at i
 |h::b,j::c,0,d,a,k,i,l=>by simp at l;subst l;let⟨m,n⟩:=ñ.J k;have:=Mw (as:=c) (v:=V.ref a) m;have e0:jS (h::b) (j::c)=((È _),V.ref j)::lf jS:=I;rw[e0,Â,this,KC];rfl
 |h::b,j::c,LH,d,a,k,i,l=>by let⟨m,n⟩:=ñ.J k;have o:=Pq (a:=a) n abj l;have p:h≠d:=λz=>m (z▸Î l);have e0:jS (h::b) (j::c)=((È _),V.ref j)::lf jS:=I;rw[e0,Â,o,DP$ xV p];rfl
def adb(b:h.ar)(a:h.length=e.length)(f:h[d]? =XV):aR (jS h e) (VO x) CO=jS h (DB e.set):=by unfold aR;rw[BZ$ (Pp a).Q$ Î f,sK Pq f]
def ade(a:h.length=e.length)(b:d∉h):aR (jS h e) (VO d) CO=jS (h++[d]) (e++[c]):=by unfold aR;rw[MA$ b$ (Pp a).J z];unfold jS;rw[List.zip_append a,Æ];rfl
def xW:∀{a:f8}{b:s5},asM->(io jS).q (λc=>kV EZ)=Ě a
 |[],[],_=>I
 |[],_::_,d=>by simp at d
 |_::_,[],d=>by simp at d
 |e::a,f::b,d=>by show V.int _::(io jS).q _=_;rw[xW abe];rfl
abbrev Rows(c:Hp)(b:s5)(a:KF):Prop:=sK$ bq (λ d(e:SF)=>HU=xL e.2)
structure qF(H:Hp)(d:β)(as:s5)(v7:KF):Prop where
 obj:H d=f4 ((NF ((jS (v7.q (·.1)) as))))
 Ib:Rows H as v7
def qF.len(b:mt qF e L):(L.q (·.1)).length=e.length:=by rw[θ];calc(Ñ b.Ib).symm
def qF.get(h:mt qF e L)(g:(L.q (·.1)).ar){b:SF}(f:L[d]? =ZC):∃i,e[d]? =RW/\a i=xL b.2/\ab (jS (L.q (·.1)) e) (OL (kw EM))=f4 OH:=by
 have j:=Ñ h.Ib;have k:d<e.length:=by have:=(φ.J f).1;lia
 let⟨l,m,n⟩:=Ā h.Ib (δ k);rw[f]at m;cases m;calc⟨_,δ k,n,Po g (by rw[Δ,f];rfl)$ δ k⟩
def gx(c:AM Rows L)(b:∀d g,BH e->MY=HK->f d=HK):JV Rows L:=by induction c with
|nil=>calc .nil
|cons h i j=>calc KU (VN JJ h)$ j λd g k=>Fk g$ LS k
def Ic :∀{d:s5}{c:KF}{f:M}{e:β}{b:SF},wE Rows c->a e=xL b.2->Rows a (JV d.set) (c.set f b)|_,_,f,e,b,.nil,_=>.nil|_,_,0,e,b,ww .cons,i=>.cons i h|_,_,f+1,e,b,ww .cons,i=>.cons g$ t3 Ic
inductive Aa(vs:g3)(H:Hp)(f:VK)(g:XK):Prop|mk(n c:M)(d:β)(as:s5)(v7:KF):vs=[JN,BK,On]->US->c<JB->qF H d as v7->(v7.q (·.1)).ar->(∀b,b∈v7->b.2.length=JB)->(∀e a,IS (amV->a e=KS (Ě (c6 n v7 c))->f EN a))->on (AJ Aa)
def Mx(a:Ĭ):RU lg 1 Aa:=by
 calc EI lg ["n","reduced","cell","rest","number"] EO;let⟨h,j,k,l,m,I,n,o,p,q,r,s⟩:=g;have t:=p.obj;have u:OC<=81:=Ë n n;calc atc ⟨_,η (ď (af5 (ba G) BU AG) (η (JS (iE (i:=3) I H) (auq (by decide+AO)) (ņ (aX (ba G) AG BU WJ)) (İ (ü:=[("number",4)]) (by show EA (dj ["n","reduced","cell","rest","number"] (HN 36));decide+AO)) (λ_ _ _ _ _=>IY H) Tm (as8 (bD iC CV))) (μ (oh Φ (og FC BU d7)))) (η (GX H (Í xu (WD Φ) (KK FD FD))) (μ (oh Φ (og FC BU d7)))))$ rc$ ń Y8 JZ.tuple vH XX,?_⟩;have J:l9 FB FB:=LV;have L:FB*FB=kw OC:=by rw[U.am]
 walk_at "s";by_cases N:j∈m.q (·.1);let⟨O,c⟩:=â.J N;rw[Δ]at c;let⟨e,f,k⟩:=Υ.J c;subst k;let⟨l,g,t,n⟩:=p.get q f;have u:tf m e.1=f4 e.2:=by
  unfold tf;have:m.cS (λx=>sB (x.1=e.1))=HH:=by cases y:m.cS (λx=>sB (x.1=e.1))with
  |none=>have:=sT.J y e$ Î f;simp at this
  |some x=>have A:=yp y;have B:=eB y;simp only[BE]at A;rw[j5 q x B e (Î f) A]
  rw[this];rfl
 simp! [n];calc sw$ G8 (xs:=Ě e.2) (dq t) (by rw[Τ,r e$ Î f];show BC;lia) KY λO=>CK$ fS 0$ e.2.getD O 0;intro O v D G H J l x g;let⟨c,I⟩:=Ū G;walk_at "w";simp!;have:=x I D HJ;have y:kw (fS 0 (e.2.getD O 0))=arr (-kw (e.2.getD O 0)):=by unfold fS;rw[U.cT$ CD$ U.eS _];simp[-γ]
 rw[y]at this;calc this;intro p D q H t;rw[CZ,Τ]at t;have n:D p=xL (e.2.q (λJ=>fS 0 J)):=by rw[t,ľ,Χ];congr 2;apply ao;simp;intro O A B;simp only[cT,ah,aq];rw[γ,δ arJ];rfl
 simp! [-hY,-hW];calc swK n (fJ (by rw[Τ,θ,r e$ Î f];calc o)) λl c x=>?_;simp! [-Hg];calc⟨p,_,I,.D ⟨.D$ .D x,af λG g r O A=>?_⟩⟩;calc s G g (λB t y=>ML$ SZ (ρ y q)$ LT y) ?_$ A.trans ?_;cases z:d G with
 |none=>rfl
 |some t=>rw[SZ (ρ z q)$ LT z]at r;cases r
 unfold c6;rw[u,show(XD:V)=CK 0 from I,jR];have u:hm$ tf m j:=by unfold tf;rw[Eh,sT];intro e n z;exact N$ χ.Q ⟨e,n,ag8 z⟩
 have J:-QL<=kw OC/\kw OC<QL/\[XD].length*(kw OC).aj<=Ζ:=⟨gt,gt,by show GT (1*(kw OC).aj);lia⟩;simp! [Ia N];calc af λp D x H f=>?_;simp! [L,-U.am];calc af λj l m c k=>?_;have k:l j=xL (Λ OC 0):=k.trans (by rw[v_];rfl);simp! [-hY,-hW];calc swK k (fJ (by rw[Τ];simpa using o)) λg O A=>?_;simp! [-Hg];have e:=H.trans c;have q:=H.free m;calc⟨j,_,I,.D ⟨.D$ .D A,af λG n r N J=>?_⟩⟩;calc s G n (λB t y=>NG$ ML (ρ y q)$ MX y) ?_$ J.trans ?_;cases z:d G with
 |none=>rfl
 |some t=>rw[ML (ρ z q)$ MX z]at r;cases r
 unfold c6;rw[u,show(V.int 1:V)=CK 1 from I,jR]
def gW(a:M)(units:f8)(b:M):KF:=(units.take b).ah (jm a asD) []
def qG{units:f8}(a:d<units.length):BL (gW x) IG=jm x asD (BL (gW x) d) (IM units.getD):=by unfold gW;rw[å,δ a,γ (i:=d),δ a,Þ];rfl
def getD_mem{l:f8}{i:M}(a:i<l.length):l.getD i 0∈l:=by rw[γ,δ a];calc Ö a
def Ie{n:M}{units:f8}:∀a,a<=units.length->BL (mB JB) (BL (gW n) a)|0,_=>⟨by simp[gW],by simp[gW],by simp[gW],by simp[gW],by simp[gW],by simp[gW],by simp[gW]⟩|DC,b=>by rw[im qG];calc wY (im (Ie a)) (im getD_mem)$ im getD_mem
def mB.sub{units:f8}{l:KF}(b:BL (mB d) L)(a:l.dV L):BL (mB d) l:=⟨au (a.q _) b.nd,arK b.key,arK b.len,arK b.lt,arK b.ü,λc e f g=>b.oth c (a.b2 e) f$ a.b2 g,arK b.van⟩
def Ab{n:M}{units:f8}:∀a,a<=units.length->IZ (BL (gW n))<=a
 |0,_=>by simp[gW]
 |DC,b=>by have c:=im$ Ab (n:=n) (units:=units) a;rw[im qG];unfold jm;split;lia;unfold wR;split;simp;lia;simp;lia
def Dx{li:f8}{a:SF}(b:L[d]? =WI):a5 (L.take IG) li=Ķ (a5 (L.take d) li) a.2 a.1:=by unfold a5;rw[å,b,Þ];rfl
def yY{a:Type}(c:a->a){l:List a}{e:a}(b:l[d]? =HH):((l.take d).q c++l.drop d).set d (c e)=(l.take IG).q c++l.drop IG:=by
 have f:=(φ.J b).1;have g:l.drop d=e::l.drop IG:=by rw[As f];rw[δ f]at b;cases b;rfl
 rw[g,ga List.set_append_right (by simp;lia),å,b];simp[cz (ja f)]
def su{v7:KF}{f:SF->SF}(b:∀c,(f c).1=EZ)(a:M):(JH v7.take f++v7.drop a).q (·.1)=v7.q (·.1):=by rw[Æ,Χ];have:JH v7.take ((λ d:SF=>d.1)∘f)=JH v7.take (·.1):=ö λc _=>Db;rw[this,<-Æ,gE]
def qF.same(b:mt qF e L)(d:AR Μ):AH (qF f) L:=⟨IB b.obj,gx b.Ib λ_ _ _ g=>IB g⟩
def qF.ne(d:mt qF e L)(b:i∈e):i≠c:=λz=>by let⟨f,g⟩:=â.J b;let⟨h,j,k⟩:=Ā d.Ib g;rw[z,d.obj]at k;cases k
def Tz{li:f8} :BR li.length (λa=>CK (Wp*d%ĳ))=Ě (hq li d):=by rw[ľ];unfold hq;rw[Χ];apply ao;simp;intro b c e;simp only[cT,ah];rw[γ,δ _];rfl
inductive Ac(vs:g3)(H:Hp)(d:VK)(e:XK):Prop|mk(n:M)(u:β)(units:f8):vs=[JN,.ref u]->US->H u=xL units->units.length<=1000->(∀b c a,IS (ZD->EE qF (BL (nX n))->d AZ a))->SD Ac
def My(a:Ĭ):RU gc 2 Ac:=by
 calc EI gc ["n","unit_sets","reduced","unit","row","cell","solved","first","factor","number"] λc d e g h=>?_;let⟨j,k,units,I,m,o,p,q⟩:=h;have r:j*j<=81:=Ë m m;calc atb ⟨_,η (FT B kP)$ akL$ aup (FN B)$ η (OG B (LI ada A (Tl (ε FC (ol (cB xC AG Φ))))))$ η (KG (ń (Hb I) JZ.list ÿ XM) (Ψ 5 B) (μ (OG B (LI xU A (ε CV (ε (aX (ba A) BU JM WJ) aqm))))))$ η (JS (iE (i:=6) I B) (auq (by decide+AO)) (alt JZ (ol (KK FD FD))) (İ (ü:=[("cell",5)]) (by show EA (dj ["n","unit_sets","reduced","unit","row","cell","solved","first","factor","number"] (HN 37));decide+AO)) (λ_ _ _ _ _=>Ψ 5 B) (YR (ND (cB xC CV JM) Φ)) (λ_ _ _ _ _=>JM))$ HL$ ď (Ô xm (amu JZ (ol OJ)) Φ)$ η (À 7 B (cB xC OJ Φ))$ η (À 8 B (LI agC A (ol (cB xC CV (pw 7)))))$ η (OG B (ID B (ņ CV) (İ (ü:=[("number",9)]) (by show EA (dj ["n","unit_sets","reduced","unit","row","cell","solved","first","factor","number"] (HN 37));decide+AO)) (λ_ _ _ _ _=>Ψ 9 B) Tm (as8 (KK (pw 9) (pw 8)))))$ η (KG (ń (Hb I) JZ.list ÿ XM) (Ψ 5 B) (μ (kQ (ba A) BU JM (LI xU A (ε (aX (ba A) BU JM WJ) (ε CV aua))) I)))$ μ$ kQ (ba A) BU (pw 7) CV I,?_⟩;walk_at "s";simp!;calc af λD G H J L=>?_;have N:k≠D:=ρ o H;have O:=QI o;simp!;calc sw$ cD (xs:=Ě units) (dq O) (λc d e=>X8 λp h r s t u x y=>A3 (d=[aoT,aig,abn,h,r,s,t,u,x,y]) (IK SB e)$ qF e D p$ BL (gW j) c) ⟨[],none,none,none,none,none,none,none,I,λA B _ o=>o,⟨by rw[L];rfl,.nil⟩⟩ (λ c d e _⟨_,_,_,_,_,_,_,_,_,L,_⟩=>dq$ MD N O);rintro c v d e g g a0 ⟨p,h,r,s,t,u,x,y,I,L,b0⟩;have c0:=g.n;let⟨g,I⟩:=Ū a0;have d0:=im$ Ie (n:=j) (units:=units) c;have f0:=im$ Ab (n:=j) (units:=units) c;rw[qG g]at c0;unfold jm at c0;have g0:e k=xL units:=MD N O;have N:Eo (Ě units) 0=f4 (CK asD):=(show Eo (Ě units) (kw 0)=_ from(ga xD).trans (im Ė));have O:=getD_mem g;have g:=im$ getD_mem (l:=units) (i:=0);generalize BL (gW j) c=h0 at b0 d0 f0 c0;generalize CU units.getD=c at O c0|-;generalize asD=i0 at N g c0;simp! [N];calc⟨j,c,i0,I,m,λm N N j0 k0=>?_⟩;have l0:=b0.same N;have m0:=l0.obj;simp! [xW l0.len];calc af λn0 o0 p0 r0 s0=>?_;have t0:=l0.same r0;have u0:(MB fu i0).length=j*j:=by simp[fu]
 have dl:=MB Fl i0;have v0:=λ w0(x0:BL (uI (j*j)) w0)=>zh x0 O g;generalize MB fu i0=O at k0 u0 dl v0 c0;have g:∀y0,(a5 (h0.take y0) O).length=j*j/\∀z0,(a5 (h0.take y0) O).getD z0 0<ĳ:=λy0=>have A0:=lQ (d0.sub (Vb y0 h0)) u0 dl v0;⟨A0.1,lv A0⟩;calc sw$ cD (xs:=Ě (h0.q (·.1))) (dq s0) (λy0 d e=>X2 λB0 s=>A3 (d=[aoT,aig,abn,f4$ PD c,AT B0,s,t,u,x,y]) (Μ o0 e) (e B0=xL (a5 (h0.take y0) O))) ⟨m,s,I,HJ,ZV k0⟩ (λ y0 d e _⟨_,_,_,m,_⟩=>dq$ NC s0);rintro y0 v d C0 D0 F0 a0 ⟨B0,s,I,m,G0⟩;have H0:=F0.n;have I0:y0<h0.length:=by have:=(φ.J a0).1;rw[Τ,θ]at this;exact this
 have J0:h0[y0]? =f4 h0[y0]:=δ I0;have K0:=t0.same m;let⟨M0,N0,O0,P0⟩:=K0.get d0.nd J0;rw[WS I0]at a0;cases a0;have Q0:(h0.q (·.1)).getD y0 0=h0[y0].1:=by rw[γ,Δ,J0];rfl
 rw[Q0];let⟨R0,S0⟩:=g y0;have T0:=Ö I0;have U0:=K0.obj;rw[Dx J0]at H0;simp! [P0];calc⟨B0,M0,_,h0[y0].2,h0[y0].1,I,G0,O0,by rw[R0,d0.len _ T0],gt,by rw[R0];calc d0.key _ T0,S0,λV0 W0 X0 Y0=>?_⟩;simp!;calc ga H0 ⟨V0,_,I,m.trans X0,Y0⟩;rintro d C0 ⟨B0,s,I,m,G0⟩;rw[Τ,θ,Ò]at G0;let⟨R0,S0⟩:=g h0.length;rw[Ò]at R0 S0;have g:=wS$ wS$ lQ d0 u0 dl v0;generalize a5 h0 O=li at G0 R0 S0 g c0;have K0:=t0.same m;have O:jp j*jp j=kw (j*j):=I;have Z0:l9 (jp j)$ jp j:=LV;simp! [O,-U.am];calc sw$ lcN (n:=j*j) (by show BC;lia) (λO=>li.getD O 0 !=0) λO=>HM O;intro O a1 b1 c1 d1 e1 f1 g1;have h1:=im$ Ė (l:=li) (i:=O);have i1:=ga c1 G0;walk_at "w";by_cases j1:li.getD O 0=0;simp! [h1,j1];calc IR$ g1 (by simpa using j1);simp! [h1,j1];calc IR$ f1 (by simpa using j1);intro k1 a1 l1 c1 x0;have m1:a1 k1=xL (oY (j*j) li):=by rw[x0,ľ];rfl
 have n1:=K0.same c1;have o1:IK SB a1:=λA B G o=>ga c1$ NC$ ZV$ NG$ HP L G o;cases N:oY (j*j) li with
 |nil=>rw[N]at m1 c0;simp!;calc ga c0 ⟨p,_,_,_,_,_,_,_,I,o1,n1⟩
 |cons m b4=>
  rw[N]at m1 c0;let⟨p1,q1⟩:=rg N;have N:m<li.length:=gt
  have i1:=ga c1 G0;have r1:Eo (Ě (m::b4)) 0=f4 (HM m):=xD (Ě (m::b4)) 0;have s1:=Ė N;simp! [r1,s1];calc⟨li.getD m 0,I,S0 m,?_⟩;have N:Bn (li.getD m 0)<ĳ:=CD$ cF _;have t1:li.getD m 0^(ĳ-2)%ĳ=Bn (li.getD m 0):=I;rw[t1];dsimp only at c0;generalize Bn (li.getD m 0)=u1 at N c0|-;simp!;calc sw$ G8 (xs:=Ě li) (dq i1) (by rw[Τ];show BC;lia) KY λO=>CK (li.getD O 0*u1%ĳ);intro O v W0 a0 X0 d1 e1 f1 g1;have b1:O<li.length:=by have:=(φ.J a0).1;rw[Τ]at this;exact this
  rw[Ė b1]at a0;cases a0;have N:=f1 I W0 HJ;rw[U.cP,U.am]at N;have Z0:l9 (kw (li.getD O 0))$ jp u1:=.D$ XP (by have:jp ĳ=2305843009213693951:=I;have:=S0 O;lia);walk_at "w";simp!;calc N;intro O W0 v1 X0 w1;rw[CZ,Τ,Tz]at w1;have x1:(hq li u1).length=j*j:=by simp[hq,R0]
  generalize hq li u1=y1 at w1 x1 c0;have z1:=n1.same X0;have A1:=z1.obj;simp! [xW z1.len];calc af λB1 C1 D1 E1 F1=>?_;have G1:=z1.same E1;have H1:O≠D:=AF$ đ w1 z1.obj;have I1:B1≠D:=AF$ đ F1 G1.obj;calc sw$ cD (xs:=Ě (h0.q (·.1))) (dq F1) (λy0 d e=>X2 λJ1 s=>A3 (d=[aoT,aig,abn,f4$ PD c,f4$ .ref O,s,AT k1,BJ m,BJ u1,y]) (SB D C1 e)$ qF e D J1$ atN (f1.1,TR)) ⟨p,s,I,λA B _ o=>o,by simpa using G1⟩ (λ y0 d e _⟨_,_,_,k,_⟩=>dq$ NN I1 F1);rintro y0 v d c D0 F0 a0 ⟨J1,s,I,k,K1⟩;have H0:=F0.n;have I0:y0<h0.length:=by have:=(φ.J a0).1;rw[Τ,θ]at this;exact this
  have J0:h0[y0]? =f4 h0[y0]:=δ I0;have L1:=su (v7:=h0) (f:=λf1=>(f1.1,TR)) SR y0;have N1:((atN (f1.1,TR)).q (·.1)).ar:=by rw[L1];exact d0.nd
  have O1:(atN (f1.1,TR))[y0]? =f4 h0[y0]:=by rw[Ű (by simp;lia)];simp[cz (ja I0),J0]
  have Q1:=su (v7:=h0) (f:=λf1=>(f1.1,TR)) SR (y0+1);rw[<-yY (λ f1:SF=>(f1.1,TR)) J0]at H0 Q1;generalize atN (f1.1,TR)=R1 at K1 L1 N1 O1 H0 Q1;let⟨M0,N0,O0,P0⟩:=K1.get N1 O1;rw[WS I0]at a0;cases a0;have Q0:(h0.q (·.1)).getD y0 0=h0[y0].1:=by rw[γ,Δ,J0];rfl
  rw[Q0];have T0:=Ö I0;have S1:=NN H1$ ga E1 w1;have T1:=K1.obj;simp! [P0];calc⟨M0,O,h0[y0].2,y1,m,I,O0,S1,by rw[x1,d0.len _ T0],by rw[d0.len _ T0];lia,by rw[d0.len _ T0];calc p1,d0.lt _ T0,λU1 V1 W1 Y1=>?_⟩;have Z1:=ga W1 T1;have p0:(R1.q (·.1))[y0]? =f4 h0[y0].1:=by rw[Δ,O1];rfl
  have a2:QF ((jS (R1.q (·.1)) J1)):=by show BC;rw[Dw K1.len,L1,θ];lia
  have b2:U1≠D:=AF$ đ Y1 Z1;simp! [adb N1 K1.len p0];calc ga H0 ⟨J1.set y0 U1,_,I,λA B G o=>by rw[ω G];calc ga W1$ HP k G o,P3$ Ic (gx K1.Ib (λA B G o=>by rw[ω$ K1.ne G];calc ga W1 o))$ DK b2 Y1⟩;rw[Α,Q1,L1];rintro d c ⟨J1,s,I,k,K1⟩;rw[Τ,θ,Ò,g5,Đ]at K1;have S1:=NN H1$ ga E1 w1;have c:m∉(h0.q λf1=>(f1.1,TR)).q (·.1):=by rw[Χ];intro z;let⟨f1,N,o⟩:=χ.J z;have o:f1.1=m:=o;exact q1 (by rw[<-o];calc g f1 N)
  have g:wR (h0.q (λf1=>(f1.1,TR))) m y1=h0.q (λf1=>(f1.1,TR))++[(m,y1)]:=wX λf1 N z=>c$ χ.Q ⟨f1,N,z⟩;rw[g]at c0;have a2:QF ((jS ((h0.q λf1=>(f1.1,TR)).q (·.1)) J1)):=by show BC;rw[Dw K1.len,θ,θ];lia
  have T1:=K1.obj;have N:=K1.len;generalize (h0.q λf1=>(f1.1,TR))=R1 at K1 c c0 a2 T1 N;simp! [ade N c];calc ga c0 ⟨J1++[O],_,_,_,_,_,_,_,I,λA B G o=>by rw[ω G];calc HP k G$ ga E1$ ga X0$ HP o1 G o,?_,bq.app (gx K1.Ib (λA B G o=>by rw[ω$ K1.ne G];calc o))$ UX$ DK H1 S1⟩;rw[Α,Æ];rfl
 rintro d e ⟨p,h,r,s,t,u,x,y,I,L,b0⟩;rw[Τ]at b0;simp!;have o:BL (gW j) units.length=BL (nX j):=by unfold gW nX;rw[Ò]
 rw[o]at b0;calc q D p e (λA B g=>HP L (ρ g H)$ QI g) H b0
def xX(a:UY)(b:s5):BA:=(a.zip b).q λc=>(ak$ zs EZ.1,SQ c.2)
def agD{a:f8}(b:ak (zs h)=ak (zs a)):h=a:=aeX$ xS b
def oK(b:f8×f8)(a:UY)(d:β)(c:s5):xX (b::a) (d::c)=(ak$ zs EM,V.ref d)::mt xX:=I
def Pr{a:UY}(b:XB e.length):XB (AM xX).length:=by simp[xX,b]
def Pu:∀{a:UY}{as:s5}{c:M}{b:f8×f8}{x:f8},a[c]? =ZC->xX (a.set c (EM,x)) as=xX a as
 |[],as,c,b,x,d=>by simp at d
 |e::a,[],c,b,x,d=>by cases c<;>rfl
 |e::a,f::as,0,b,x,d=>by simp at d;subst d;rfl
 |e::a,f::as,BD,b,x,d=>by simp at d;have:=Pu (as:=as) (x:=x) d;rw[List.set_cons_succ,oK,oK,this]
def xY(c:f8)(d:M):∀(a:UY)(b:s5),XB b.length->(∃e f g,a[e]? =MO/\b[e]? =HK/\f.1=c/\ab (io xX) asW=f4 FU/\TY Ŝ=a.set e (f.1,f.2++[d]))\/(hm (ab (io xX) asW)/\TY Ŝ=a++[(c,[d])]/\ ∀l,aR (io xX) asW CG=xX (a++[(c,[d])]) (b++[l]))
 |[],[],_=>.X ⟨I,I,λl=>I⟩
 |[],_::_,h=>by simp at h
 |_::_,[],h=>by simp at h
 |f::a,g::b,h=>by
   have i:=io (re xY) (by simpa using h);by_cases j:f.1=c;left;calc⟨0,f,g,I,I,j,?_,?_⟩;rw[oK];unfold ab;rw[ű,<-j];simp;let⟨k,m⟩:=f;subst j;simp[Ŝ];have n:=λz=>j$ agD z;have o:ab (xX (f::a) (g::b)) asW=ab (io xX) asW:=by
    rw[oK];unfold ab;rw[ű];have:OU (ak (zs f.1)=asW):=abk
    simp only[this]
   have p:re (Ŝ (f::a))=f::TY Ŝ:=by exact hf j
   rcases i with⟨e,q,r,s,t,u,v,x⟩|⟨s,t,u⟩;left;calc⟨LH,q,r,as6,by simpa using t,u,by rw[o];calc v,by rw[p,x];rfl⟩;right;calc⟨by rw[o];calc s,by rw[p,t];rfl,λl=>?_⟩;have:=u l;rw[oK];show AY aR=(ak _,V.ref g)::xX (a++[(c,[d])]) (b++[l]);rw[<-this];unfold aR;rw[aA];have y:OU (ak (zs f.1)=asW):=abk
   rw[y,lF];split;rw[Â,hf n];rfl
abbrev Dy(c:Hp)(b:s5)(a:UY):Prop:=sK$ bq (λ d(e:f8×f8)=>HU=xL e.2)
def Dz{b:UY}(i:AM Dy b){f:f8×f8}(g:e[d]? =HE)(h:b[d]? =MO):JD=xL f.2:=by let⟨j,k,l⟩:=Ā i g;rw[h]at k;cases k;calc l
def sv{b:UY}(d:AM Dy b)(c:∀g h,g∈e->a g=OE->f g=OE):JV Dy b:=by induction d with
|nil=>calc .nil
|cons i j k=>calc KU (SZ JJ i)$ k λg h l=>ww c$ LS l
def adf{b:UY}(f:AM Dy b)(d:c∈e):∃l,JD=f4 (.Ý l):=by let⟨g,h⟩:=â.J d;let⟨i,_,j⟩:=GP Ā;calc CM j
def Pw{h:HO}:∀{c:s5}{d:UY}{g:M}{e:β}{b:f8×f8},re (Dy f)->c.ar->c[g]? =HH->h=AQ (Ě b.2)->Dy (FG (ø f)) c (d.set g b)
 |_,_,g,e,b,.nil,_,i,_=>by simp at i
 |_,_,0,e,b,AS .cons,l,i,m=>by simp at i;subst i;calc KU (by rw[Α,m])$ sv k λn o p q=>?_;rw[ω λz=>(ñ.J l).1 (by rw[<-z];calc p)];calc q
 |_,_,g+1,e,b,AS$ KU (a:=r),l,i,m=>by have s:r≠e:=λz=>(ñ.J l).1 (by rw[z];calc Î i);calc KU ((ω s).trans j)$ Pw k (ñ.J l).2 i m
def Ad(a:M)(units:f8)(b:M):OI lR BP=Ŝ (OI lR b) (YO b) b:=by unfold lR;rw[ę,Þ];rfl
def kb{a:Type}[OF a]:∀(l:AX (a×f8))(b:a)(c:M),(lf$ Ŝ l).length<=l.length+1
 |[],b,c=>by simp[Ŝ]
 |(d,e)::f,b,c=>by have:=lf$ kb f;unfold Ŝ;split;simp;simp only[Β];lia
def oL(a:M)(units:f8):∀b,(OI lR b).length<=b
 |0=>by simp[lR]
 |BP=>by have:=OI oL b;rw[Ad];have:=kb (OI lR b) (YO b) b;lia
def Mz(b:M)(units:f8)(a:M):∀c,c∈BL (lR b) a->c.2.length<=a:=λc d=>by have e:=(BL (iw b) a).2;have:=eH (l:=JH (BL (lR b)) λc=>c.2.length)$ χ.Q ⟨c,d,I⟩;unfold aQ at e;lia
inductive Px(vs:g3)(H:Hp)(d:VK)(f:XK):Prop|mk(n:M)(u:β)(units:f8):vs=[JN,.ref u]->US->H u=xL units->units.length<=1000->(∀c b a,IS (aqX->JD=KE b.q->(∀e,EG b->amV)->io dk ((BL$ bc n).q zs)->d CO a))->DS (AJ Px)
def aah(a:Ĭ):RU pW 3 Px:=by
 calc EI pW ["n","unit_sets","reduced","alike","cell","cells"] EO;let⟨h,i,units,I,j,k,m,o⟩:=g;have p:OC<=81:=Ë j j;calc ate ?_;calc⟨_,η (FT y (LI My x (Tl (ol AG))))$ η (GX y Gy)$ η (Ī (alt JZ (ol (KK FD FD))) (IY y) (IW (TX (Dg cG de vI (zN (ba x)) FC (ε (LI Mx x (Tl (ZY (ol CV)))) (ol RS))) (ol CV))))$ μ$ Ou$ Ξ$ ID y (Mc FC) (İ (ü:=[("cells",5)]) (by show EA (dj ["n","unit_sets","reduced","alike","cell","cells"] (HN 35));decide+AO)) (λ_ _ _ _ _=>Ψ 5 y) (YR (Ô xm (amu JZ aqm) Φ)) λ_ _ _ _ _=>JM,?_⟩;have A:l9 FB FB:=LV;have B:FB*FB=kw OC:=by rw[U.am]
 walk_at "s";simp!;calc⟨h,i,units,I,j,k,m,λD G H J L N=>?_⟩;simp!;calc af λO c e g p=>?_;have q:=Bq (n:=h) (units:=units);have r:IK (qF c)$ amW nX:=N.same g;simp! [B,-U.am];calc sw$ im (acU (n:=OC)) (λs t u=>X2 λx y=>A6 (t=[f4$ .int h,f4 OH,abn,f4$ .ref O,y,none]) (∀A k,A≠O->H A=RY->u A=RY) (u O=f4 (.dT (xX (amW lR s) x))) (Dy u x (amW lR s)) x.ar (∀m,m∈x->hm (H m)/\m≠O)) ⟨[],none,I,λA k _ L=>GK L,p,.nil,mo,mo⟩;rintro s t u f B i ⟨x,y,I,f,a0,b0,c0,d0⟩;have f0:=B.n;rw[Ad]at f0;have B:=Ñ b0;have g0:=amW oL s;have h0:=amW Mz s;have i0:D≠O:=AF$ đ r.obj p;have p:IK (qF u)$ amW nX:=⟨JI i0 N.obj,gx N.Ib λm k r L=>f m k (ρ L e) L⟩;have N:ZB "dict" (.ref O) u:=OX$ .D$ ln$ .X$ CM a0;simp!;calc⟨h,s,D,G,amW nX,I,j,i,p,q.nd,q.len,λj D G q p=>?_⟩;generalize c6 h (amW nX) s=N at p f0;generalize amW lR s=q at a0 b0 f0 B g0 h0;simp!;calc af λl j0 k0 l0 m0=>?_;have n0:j0 j=UJ (ak$ zs N).q:=by rw[ga l0 p,<-mq];rfl
 have p:=ga l0$ LC a0;have o0:l≠O:=(ρ (LC a0) k0).symm;have p0:Dy j0 x q:=sv b0 λm k _ L=>ga l0$ LC L;have r0:∀A k,A≠O->H A=RY->j0 A=RY:=λA k s0 L=>ga l0$ LC$ f A k s0 L;have t0:ME H:=by cases L:H l with
 |none=>rfl
 |some k=>rw[LC$ f l k o0 L]at k0;cases k0
 have H:l∉x:=λz=>by let⟨u0,v0⟩:=adf b0 z;rw[LC v0]at k0;cases k0
 simp!;calc⟨O,PX,CG,_,I,I,mU.t p n0,λv j=>?_,Ty⟩;rcases xY N s q x B with⟨w0,x0,m,y0,z0,A0,B0,C0⟩|⟨y0,z0,A0⟩;rw[B0]at j;cases j;have D0:=Dz p0 z0 y0;have F0:=Î y0;let⟨G0,H0⟩:=d0 m (Î z0);have I0:QF$ Ě x0.2:=by rw[Τ];have:=h0 x0 F0;show BC;lia
 have J0:aq3 (.ref m) j0:=.D ⟨I,_,wT D0⟩;rw[C0]at f0;simp!;calc ga f0 ⟨x,_,I,λA k s0 L=>by rw[ω$ ρ L G0];calc r0 A k s0 L,by rw[ω H0.symm,p,Pu y0],(Pw p0 c0 z0 (by simp[ľ])),c0,d0⟩;rw[y0]at j;cases j;rcases xY N s q x B with⟨w0,x0,m,y0,z0,A0,B0,C0⟩|⟨y0,z0,A0⟩;rw[B0]at j;cases j;calc⟨_,(Cz.t p n0 (by rw[Pr B];show BC;lia)),?_⟩;rw[z0]at f0;rw[A0];have p:ø j0 O (HO.dT (xX (q++[(N,[s])]) (x++[l]))) l=BG []:=DK o0 m0;have J0:aq3 CG$ ø j0 O$ HO.dT$ xX (q++[(N,[s])]) (x++[l]):=.D ⟨I,_,.D$ .D p⟩;have I0:QF ([]:g3):=by show 0<QW;decide
 simp!;calc ga f0 ⟨x++[l],_,I,λA k s0 L=>?_,?_,?_,?_,?_⟩;rw[ω$ ρ L t0,ω s0];calc r0 A k s0 L;rw[ω o0.symm,Α];calc bq.app (sv p0 (λm k r L=>?_))$ UX (by rw[Α];rfl);rw[ω (λ(z:m=l)=>H (by rw[<-z];calc r)),ω (d0 m r).2];calc L;calc ŷ.Q ⟨c0,mo,λm r A s0=>by rw[Θ.J s0];calc λ(z:m=l)=>H (by rw[<-z];calc r)⟩;intro m r;rcases Ι.J r with z|z;calc d0 m z;rw[Θ.J z];calc⟨t0,o0⟩;rintro t u ⟨x,y,I,f,a0,b0,c0,d0⟩;calc⟨O,_,a0,EQ.cR,Ty⟩;have B:=Ñ b0;have g0:=amW oL OC;generalize t:amW lR OC=q at a0 b0 B g0|-;have y:∀A k,A≠O->u A=RY->ø u O atF A=RY:=λA k s0 L=>DK s0 L;have N:ø u O atF O=f4 atF:=Α;generalize ø u O atF=H at y N|-;simp only[L7];have p:=Pr B;have h:Ix Dy q:=sv b0 λm k r L=>y m k (d0 m r).2 L;have B:∀{w0:M}{o:RJ}{v:V},(xX q x)[w0]? =f4 (o,v)->w0<q.length/\v=wp YP/\H YP=xL (aub ([],[])).2:=λ{w0 o v} L=>by
  have H:w0<q.length:=by have:=(φ.J L).1;lia
  have K0:w0<x.length:=gt
  unfold xX at L;rw[Δ]at L;let⟨M0,N0,O0⟩:=Υ.J L;rw[Bb]at N0;have D0:YP=M0.2:=by rw[γ,N0.2];rfl
  have P0:aub ([],[])=M0.1:=by rw[γ,N0.1];rfl
  cases O0;calc⟨H,by rw[D0],?_⟩;rw[D0,P0];exact Dz h N0.2 N0.1
 calc⟨O,j,_,I,N,λj Q0=>?_⟩;have R0:j≠O:=(ρ N Q0).symm;calc sw$ mi Td (λw0=>sB (1<(aub ([],[])).2.length)) (λw0=>SQ YP) Q0 (by rw[p];show BC;lia) λc g=>GK N;rintro s u0 D j0 i G ⟨I,c,g⟩;calc⟨HJ,λc c x0 c=>?_⟩;let⟨S0,I,T0⟩:=B g;have B:=LC T0;calc(show AY (fG 5) (ga (EY kLc))from ?_);walk_at "w";by_cases I0:1<(q.getD s ([],[])).2.length;have g:jp 1<kw (q.getD s ([],[])).2.length:=gt
 simp! [Τ,I0,g];calc IR$ x0$ ZI I0;have g:¬jp 1<kw (q.getD s ([],[])).2.length:=gt
 simp! [Τ,I0,g];calc IR$ c$ PM I0;intro D G B;calc wn$ LC N;have c:hm$ u j:=by cases L:u j with
 |none=>rfl
 |some k=>rw[UL R0 L]at Q0;cases Q0
 calc sw$ sw$ o j ((FX q.length λw0=>sB (1<(aub ([],[])).2.length)).q (λw0=>YP)) _ λA k L=>?_;have g:A≠O:=ρ (QI L) e;rw[ω g];calc LC$ UL g$ JI g$ QI L;cases L:d j with
 |none=>rfl
 |some k=>rw[JI R0$ QI L]at c;cases c
 rw[ω R0,B,p,Χ];rfl;intro m r;let⟨w0,H,I⟩:=χ.J r;have K0:w0<x.length:=by have:=LX$ υ.J H;lia
 have N:YP∈x:=by rw[γ,δ K0];exact Ö K0
 calc J.free (d0 _ N).1;unfold bc;rw[t];have o:(q.q (·.2)).filter (λu=>sB (1<u.length))=(FX q.length λw0=>sB (1<(aub ([],[])).2.length)).q (λw0=>(aub ([],[])).2):=by rw[cg];have:=ķ q (λ x0:f8×f8=>sB (1<x0.2.length)) (λx0=>x0.2) ([],[]);rw[this];rfl
 rw[o,Χ];have d:∀e:f8,(∀w0,w0∈e->w0<q.length)->dk (ø D O (HO.dT (xX q x))) (e.q (λw0=>YP)) (e.q (zs∘ λw0=>(aub ([],[])).2)):=by intro e;induction e with
 |nil=>intro _;calc .nil
 |cons w0 e A=>
  intro H;calc .cons ?_$ A λs i=>H s$ BI i;have k:=s4$ H w0;have K0:w0<x.length:=gt
  have N:YP∈x:=by rw[γ,δ K0];exact Ö K0
  rw[ω (d0 _ N).2];have m:x[w0]? =f4 YP:=by rw[γ,δ K0];rfl
  have P0:q[w0]? =f4 (aub ([],[])):=by rw[γ,δ k];rfl
  exact LC$ No Dz P0
 calc d _ λw0 H=>LX$ υ.J H
inductive D3(m:M)(vs:g3)(H:Hp)(k:VK)(p:XK):Prop|mk(q:æ)(S f l c:β)(g:V)(h:BA)(x:Bx)(i u n:β)(L:Ž)(B:ŏ):vs=[QT,JP]->ww (IT yX H S f l c)->TU S->Ix vq i u n L->atP (j_ B.ĵ<=m->(∀b d e a,JT (ė (c::x.ü))->Ix bV d->UK bg->Db=OA .dT->IT aT a->d3 q B=0->(r:EQ)->k .Ť b)->(∀b d e a j F,JT (ė (c::x.ü))->Ix bV d->UK bg->Db=OA .dT->IT aT a->IT Stl B e->bg b j F->(∀o,o∈j.ü->o∈x.ü\/hm (H o))->j.La=x.La->ú L F->F.ĵ=0->F.told L∈Ő q B->k (wp j.b) b)->AJ (D3 m) k p)
def adg(a:Ĭ):bR.P b 1 λ_ _ _ _=>DN:=bR.ok ["self","board","key","digit","cell","times","found"] λ_ _ _ _ c=>c.elim
def Ae(p0:Ĭ){P0:Sp}(e:bR.P b x P0)(x2:3<=x)(Z1:∀h0,d=h0+1->P0=D3 h0):MQ Lz b (x+1) CS "find_filling" ["self","board"]$ D3 d:=by calc bR.ok ["self","board","key","digit","cell","times","found"] λy2 r2 N2 z2 B2=>?_;let⟨r0,S,Q0,p1,k,R0,l,U1,r,q1,s0,H,r1,I,s,a2,s1,t1,t,X0,C2,Y0,u1⟩:=B2;calc ln λO2 s2 Q2 V1 D2 J t0=>⟨_,afb (YL (Ŵ (uh p0) J (hj:=gt) AG))$ ER (akQ XR (rc AG))$ η (FT t0 (Ŵ (Z4 p0) J (hj:=gt) AG))$ afb (akQ (zO (ba J) Cl BU ⟨I,I,I,I⟩))$ η (KG (ċ (z7 p0) J (hj:=gt) (ol AG)) (j9 (n:=3) I (č (FN t0) (č (IY t0) (JR (Ψ 5 t0))))) (η (À 6 t0 (Ľ e J (hj:=gt) FD (ol (Ľ (v8 p0) J (hj:=gt) AG (ε FC (ol CV)))))) (HL (ď (Ô Hh OJ ŝ) (rc OJ)))))$ η (Ł (Ľ (vt p0) J (hj:=gt) FD (ZY (ol Φ))))$ rc ŝ,?_⟩;walk_at "s";simp!;calc⟨U1,r,q1,s0,H,r1,I,s1,t1,X0.wf,λF0 o E2 c i0 g st j0=>?_⟩;have b2:=t1.nk s.kn;have v1:F0 S=UB:=ga i0 a2 s.obj;have u0:F0 k=f4 (.dT l):=ga i0 (RK (b2.1 k z)) s.kn;cases E2 with
|gl=>
 have c2:d3 r0 r1=0:=by unfold d3;rw[wM$ (e4 t st X0).2 I];rfl
 simp!;calc Y0 F0 o c l i0.cons g j0 u0 s.ok c2 CA
|Z=>
 have a:=(e4 t st X0).1 I;have Z0:=j0.obj;rw[g.b]at Z0;have N:Ő r0 r1=Ő r0 c:=fx a.J8;have v0:d3 r0 r1=d3 r0 c:=by unfold d3;rw[N]
 by_cases k0:c.ĵ=0;simp! [k0];have:=u1 F0 o c l o c i0.cons g j0 u0 s.ok a j0 g.ü g.La a.fM k0 (by rw[N,s9 t a.fM k0];simp);rw[g.b]at this;calc this;have a1:=a.fin.a1 k0;simp! [k0];calc⟨o,c,by rw[g.b],j0,by rw[a.fM.wf.lp];calc a.fM.wf.n9,λw0 b1 G0 d0 _ t2 x0 c1=>?_⟩;have w1:=ga x0 v1;have y0:=ga x0 u0;have u2:b1 w0=UJ (ak G0).q:=by rw[c1,mq]
 have f0:ė U1.ü r2 b1:=λj G f z0=>ga x0$ i0 j G f z0;have d1:=j0.same x0;have S0:=(s1.step i0 g).jf.same x0;simp! [-Za,-Yn];calc Zi ?_ λS2 x1=>?_;case' auH=>rcases H0:ab l (ak G0)with _|v;simp! [H0];calc x1;let⟨told,I,I0⟩:=ga s.ok.ok (H6 H0);by_cases y1:told=0;subst y1;have:=(I0 c G0 a.fM a1 d0 I).1$ U.le_refl _;simp! [H0];calc Y0 b1 o c l f0.cons g d1 y0 s.ok (by rw[v0];lia) CA;simp! [H0,y1];exact x1
 simp!;calc⟨r0,o,r,q1,s0,H,c,by rw[g.b],S0,d1,t,a.fM,k0,a1,λF2 z1 A1 u G2 B1 T0=>?_⟩;let⟨d2,A0,e1,f1⟩:=H8 B1;have g1:=d1.same u;have U0:=S0.same u;have B0:=QP w1;have i:=QP y0;have V0:S≠k:=AF$ đ B0 i;calc sw (cD (xs:=GG d2.q) (wT A0) (λh1 J0 l0=>X5 λh K0 M0 N0 m0=>A5 (J0=[f4 QT,AT U1.b,AT w0,K0,M0,N0,m0]) (ė [k] z1 l0) (l0 k=f4 (.dT h)) (aT r0 H h) (((A1.take h1).q λp=>wS p*d3 r0 (auB (lv p))).sum=0)) ⟨l,none,none,none,none,I,RA,i,s.ok,mo⟩) ?_;rintro h1 J0 l0 _ ⟨h,K0,M0,N0,m0,I,kk,m,y,A⟩;calc wT$ kk F2 _ (VE (AF (đ A0 i))) A0;rintro h1 v J0 l0 z2 C1 e2 ⟨h,K0,M0,N0,m0,I,kk,m,y,A⟩;have i1:=C1.n;let⟨v2,p,I,D1,I0⟩:=f1 h1 v e2;have E1:v2≠k:=AF$ đ I0 i;calc LN$ aK$ kk v2 _ (VE E1) I0;have j1:((A1.take (h1+1)).q λp=>wS p*d3 r0 (auB (lv p))).sum=wS p*d3 r0 (auB (lv p)):=by rw[å,D1,Æ,nj,A];simp
 rw[j1]at i1;let⟨k1,F1,B,H2,I2⟩:=T0.ok p (Î D1);have n0:=g1.p4 i kk;have l1:=n0.obj;rw[g.b]at l1;have D:=kk S _ (VE V0) B0;simp! [-U.ae];have G1:=a.fM.pc B;calc⟨o,r,q1,s0,H,c,p.1,lv p,by rw[g.b],U0.p4 i kk,n0,a.fM.wf,a.fM.pd B,by rw[F1];calc gk G1,λm1 W1 C0 H1 O0 J2 I1=>?_⟩;rw[F1]at I1 i1;let⟨f2,K2⟩:=fv t a.fM B;have g2:j_ (auB (2^k1)).ĵ<j_ c.ĵ:=by calc Dv (L:=H) (Ä a.fM.wf.bo (Uf a.fM.wf.nn)) (λh1 z=>((jZ (L:=H) p.1 k1 h1).J z).1) (ga a.fM.po B) ?_;cases z:(auB (2^k1)).ĵ.testBit k1 with
 |gl=>rfl
 |Z=>exact QV ((jZ (L:=H) p.1 k1 k1).J z).2
 have Y1:j_ c.ĵ<=j_ r1.ĵ:=oJ a.oo;let⟨h0,I⟩:∃h0,d=h0+1:=anc (d-1);obtain I:=Z1 h0 I;have J1:=TD D;have K1:S∉W1.ü:=λz=>by rw[DG O0]at D;cases D
 have L1:mN l0 W1.La r q1 s0 H:=by rw[H1];exact U0.p4 i kk
 have a0:∀q,ė (k::W1.ü) m1 q->ė [k] z1 q:=λq o0 j G f z0=>by have b0:=kk j G f z0;calc o0 j G RP$ TD b0;rcases MU with z|z;calc f (by simp[z]);rw[O0 j z]at b0;cases b0
 simp!;calc⟨r0,S,Q0,p1,k,R0,h,W1,r,q1,s0,H,auB (2^k1),I,⟨J1,TD m,y⟩,K1,vq.fresh L1 C0 O0,I1,t,f2,gt,λq m0 h2 c0 o0 i2 j2 g0 D0 k2 _=>?_,λq m0 h2 c0 z F o0 i2 j2 g0 D0 w2 N1 l2 m2 n2 o2 O1=>?_⟩;simp!;calc ga i1 ⟨c0,_,_,_,_,I,a0 q o0,g0,D0,by rw[k2,ahC]⟩;simp!;calc ga C1.r$ u1 q o c c0 z F (λj G f z0=>a0 q o0 j G (λz=>f (by simp at z;simp[z]))$ QP$ f0 j G (λz=>f$ BI z) z0) g (g1.p4 i (a0 q o0)) g0 D0 a N1 (λj f=>?_) ?_ n2 o2 ?_;by_cases W0:j∈U1.ü;calc .D W0;right;have Q1:=(N1.nk g0).1 j f;cases z0:r2 j with
 |none=>rfl
 |some G=>have b0:=kk j G (by simpa using Q1)$ QP$ f0 j G W0 z0;rcases l2 j f with w|w;rw[VR O0]at b0;cases b0;rw[TD b0]at w;cases w
 rw[m2,H1,g.La];rw[N];calc(υ.J (by rw[dw t a.fM B]at O1;calc O1)).1;rintro J0 l0 ⟨h,K0,M0,N0,m0,I,kk,m,y,A⟩;rw[θ,e1,Ò,<-T0.sum]at A;have D:=kk S _ (VE V0) B0;have n1:w0≠k:=AF$ đ c1 y0;have R1:=kk w0 _ (VE n1)$ QP c1;have n0:=g1.p4 i kk;simp!;calc⟨S,Q0,p1,k,w0,R0,h,G0,0,I,D,m,y.len,R1,λm1 o1 S1 T1 p2 q2=>?_⟩;simp!;calc Y0 m1 o c o1 (λj G f z0=>S1 j G (λz=>f (by simp[z]))$ kk j G (λz=>f (by simp at z;simp[z]))$ QP$ f0 j G (λz=>f$ BI z) z0) g (n0.keep (O:=[k]) (λj G f z0=>S1 j G (λz=>f (by simp[z])) z0) (λj f z=>(n0.nk m).1 j f RM) (λj f z=>(n0.nk m).2 j f RM)) T1 (y.add t p2 a.fM a1 d0 q2 (λ_=>gt) (λz=>gt)) (by rw[v0];calc A) CA
def wg(a:Ĭ):∀c,MQ Lz b (4+c) CS "find_filling" ["self","board"] (D3 c)|0=>CD (Ae a (CD (adg a).hT)) λd e=>gt|BD=>im (Ae a (mt wg)) λd e=>EX _$ zd e
def Ig(a:d<h.length):(h.take IG).ah eW []=eW ((h.take d).ah eW []) (IM h.getD):=by rw[å,δ a,Þ,γ,δ a];rfl
inductive aai(vs:g3)(H:Hp)(c:VK)(d:XK):Prop|mk(n:M)(u:β)(units:f8):vs=[JN,.ref u]->US->H u=xL units->units.length<=29->(∀b a,IS (ZD->JC=xL (BL (pM n))->c AZ a))->UV aai
def adh(a:Ĭ):RU jP 4 aai:=by
 calc EI jP ["n","unit_sets","found","unit","twins","cell","twin"] λd e f g h=>?_;let⟨i,j,units,I,m,n,o,p⟩:=h;have q:i*i<=81:=Ë m m;calc atd ⟨_,η (FT z RS)$ η (aup (FN z) (IW (LI uj y (ZY XX))))$ akL$ KG (LI aah y (Tl (ol AG))) (IY z)$ μ$ Ī (ņ CV) (Ψ 5 z)$ μ$ Ī (ņ CV) (Ψ 6 z)$ HL$ ď (ND JM OJ)$ IW$ LI Mv y$ ZY$ VQ$ ε (TK JM)$ ol$ TK OJ,?_⟩;walk_at "s";simp!;calc af λA B D H J=>?_;have L:j≠A:=ρ n D;have N:=LT n;simp!;calc sw$ cD (xs:=Ě units) (dq N) (λO d e=>X1 λf=>A3 (d=[f4 NM,f4 PX,f4$ .ref A,f,none,none,none]) (HP SB e) (e A=xL ((units.take O).ah eW []))) ⟨none,I,λh q _ r=>r,J⟩ (λ O d e _⟨_,_,s,_⟩=>dq$ MZ L N);rintro O v d e g t u ⟨f,I,s,x⟩;have y:=t.n;let⟨z,I⟩:=Ū u;have B:((units.take O).ah eW []).length<=29:=by have:=lV (units.take O) [];simp only[Ħ,Ũ]at this;lia
 rw[Ig z]at y;simp!;calc⟨A,_,units.getD O 0,I,x,gt,λJ N B=>?_⟩;simp!;calc UL ⟨_,I,λh q a0 r=>N h q (by simpa using a0)$ s h q a0 r,B⟩;rintro d J ⟨f,I,s,x⟩;rw[Τ,Ò]at x;have J:=MZ L$ LT n;simp!;calc⟨i,j,units,I,m,J,gt,λN B m n b0 c0 d0 f0=>?_⟩;have g0:=Ñ f0;rw[θ]at g0;have h0:N≠A:=(ρ x b0).symm;have N:∀i0,i0∈B->i0≠A:=λi0 j0=>(ρ x$ d0 i0 j0).symm;have k0:=BL$ rh i;have l0:=BL lV [];calc sw$ cD (xs:=GG B.q) (dq c0) (λO d e=>X3 λB m0 n0=>A3 (d=[f4 NM,f4 PX,f4$ .ref A,f,B,m0,n0]) (SB A m e) (e A=xL (acl.ah (BL Fn) (units.ah eW [])))) ⟨none,none,none,I,λh q _ r=>r,ga n x⟩ (λ O d e _⟨_,_,_,_,x,_⟩=>dq$ QB h0 c0);rintro O v d o0 g t u ⟨B,m0,n0,I,x,g⟩;have y:=t.n;have z:=(φ.J u).1;have t:O<YQ.length:=by rw[<-g0];simpa using z
 rw[Δ]at u;let⟨i0,j0,I⟩:=Υ.J u;let⟨z,z,p0⟩:=Ā f0 j0;rw[Δ,δ t]at z;cases z;have z:=N i0$ Î j0;have N:YQ.take (O+1)=acl++[YQ[O]]:=by rw[å,δ t];rfl
 rw[N,Þ]at y;have N:(acl.ah (BL Fn)$ units.ah eW []).length<=200000:=by
  let⟨_,_,r0⟩:=gn (G:=λ_=>EQ) (us:=units) (tws:=acl) (l:=units.ah eW []) asO (λ_ _ _ _ _ _ _ j _ _=>ar9);have s0:WM acl<=81:=by
   have:WM YQ=WM acl+WM (YQ.drop O):=by rw[<-nj,<-Æ,gE]
   lia
  have t0:=tj (k:=units.length) s0;have u0:WM acl*(81*units.length)<=81*(81*29):=Ë s0$ Ń _ o;simp only[Ħ]at l0;lia
 have v0:(YQ[O]).length<=81:=by have:=eH (l:=YQ.q ą)$ χ.Q ⟨_,Ö t,I⟩;lia
 have w0:∀x0,x0∈YQ[O]->x0<i*i:=λx0 y0=>(qk (Ö t) x0 y0 x0 y0).1;generalize YQ[O]=t at p0 v0 w0 y;have p0:m i0=BG (Ě t):=p0;generalize acl.ah (BL Fn) (units.ah eW [])=O at g N y;have N:∀{z0:M},z0<t.length->t.getD z0 0∈t:=λ{z0} A0=>getD_mem A0;have B0:=ga n J;have J:=QB z p0;simp!;calc sw$ cD (xs:=Ě t) (dq J) (λz0 d e=>X2 λm0 n0=>A3 (d=[f4 NM,f4 PX,f4$ .ref A,f,AT i0,m0,n0]) (SB A m e) (e A=xL ((t.take z0).ah (λl x0=>BL fy t x0 l) O))) ⟨m0,n0,I,x,g⟩ (λ z0 d e _⟨_,_,_,J,_⟩=>dq$ QI z p0);rintro z0 v d C0 D0 F0 u ⟨m0,n0,I,J,G0⟩;have H0:=F0.n;let⟨A0,I⟩:=Ū u;have I0:t.take (z0+1)=t.take z0++[t.getD z0 0]:=by rw[å,δ A0,γ,δ A0];rfl
 rw[I0,Þ]at H0;have J0:((t.take z0).ah (λl x0=>BL fy t x0 l) O).length<=400000:=by let⟨_,_,r0⟩:=ql (G:=λ_=>EQ) (us:=units) (tw:=t) (cs:=t.take z0) (l:=O) asO (λ_ _ _ _ _ j _ _=>ar9);have:(t.take z0).length*(t.length*units.length)<=81*(81*29):=Ë (by rw[Ũ];lia)$ Ë v0 o;lia
 generalize (t.take z0).ah (λl x0=>BL fy t x0 l) O=O at G0 J0 H0;have K0:=w0 _$ N A0;generalize t.getD z0 0=x0 at K0 H0|-;have M0:=QI z p0;simp!;calc sw$ cD (xs:=Ě t) (dq M0) (λN0 d e=>X1 λn0=>A3 (d=[f4 NM,f4 PX,f4$ .ref A,f,AT i0,BJ x0,n0]) (SB A m e) (e A=xL ((t.take N0).ah (λl i=>if x0=i then l else BL XT (2^x0) (2^i)) O))) ⟨n0,I,J,G0⟩ (λ N0 d e _⟨_,_,f,_⟩=>dq$ JI z p0);rintro N0 v d m E3 e u ⟨n0,I,f,z⟩;have O0:=e.n;let⟨e,I⟩:=Ū u;have u:t.take (N0+1)=t.take N0++[t.getD N0 0]:=by rw[å,δ e,γ,δ e];rfl
 rw[u,Þ]at O0;have u:((t.take N0).ah (λl i=>if x0=i then l else BL XT (2^x0) (2^i)) O).length<=500000:=by let⟨_,_,r0⟩:=hO (G:=λ_=>EQ) (us:=units) (c:=x0) (tw:=t.take N0) (l:=O) asO (λ_ _ _ j _ _=>ar9);have:(t.take N0).length*units.length<=81*29:=Ë (by rw[Ũ];lia) o;unfold fy at r0;lia
 generalize (t.take N0).ah (λl i=>if x0=i then l else BL XT (2^x0) (2^i)) O=o at z u O0;have O:=w0 _$ N e;generalize t.getD N0 0=i at O O0|-;by_cases u:x0=i;subst u;simp!;calc ga O0 ⟨_,I,f,by rw[z];simp⟩;have t:¬(jp x0=jp i):=gt
 have N:PP$ jp x0:=gt
 have e:PP$ jp i:=gt
 have O:jp 2^x0=TV x0:=by rw[U.ae];rfl
 have P0:jp 2^i=TV i:=by rw[U.ae];rfl
 simp! [u,t,N,e,O,P0,-U.ae];calc⟨A,j,o,units,2^x0,2^i,I,z,JI L B0,L.symm,gt,λj L i=>?_⟩;simp!;calc ga O0 ⟨_,I,λh q a0 r=>L h q (by simpa using a0)$ f h q a0 r,by rw[i];simp[u]⟩;rintro d m ⟨n0,I,f,z⟩;rw[Τ,Ò]at z;calc ga H0 ⟨_,_,I,f,z⟩;rintro d C0 ⟨m0,n0,I,J,G0⟩;rw[Τ,Ò]at G0;calc UL ⟨_,_,_,I,J,G0⟩;rintro d o ⟨B,m0,n0,I,x,g⟩;rw[θ,g0,Ò]at g;simp!;calc p A o (λh q r=>?_) D g;have t:h≠A:=ρ r D;calc QB t$ ga n$ MZ t$ LT r
def vu(a:Ž):Ž:=f5 a.n (pM a.n a.units) a.lM
inductive xZ(vs:g3)(H:Hp)(g:VK)(h:XK):Prop|mk(b c u d:β)(L:Ž):vs=[AZ]->lf (mN H) u d L->L.n<=9->L.units.length<=29->(∀e f v i a,IS (amV->py (mN a) v i (vu L)->g EN a))->ww (AJ xZ)
def Ih(a:Ĭ):RU hE 5 xZ:=by calc EI hE ["layout"] EO;let⟨h,i,j,k,l,I,m,n,o,p⟩:=g;have q:=m.obj;calc ln λr s t u v x y=>⟨_,rc$ gQ (Hw a) x$ ZT$ ε (LI adh x (ZT QQ)) QQ,?_⟩;walk_at "s";simp!;calc⟨l.n,j,l.units,I,n,m.us,o,λz A B D G=>?_⟩;have H:=LG q;simp! [-ml];calc mkK λJ L N O c d e f=>?_;calc⟨J,L,z,l.n,l.lM,pM l.n l.units,I,f,MX G,n,λh i k g r=>?_⟩;simp!;calc t3 (p J L z) (λs t u=>DQ g (by simpa using ρ (LG u) O)$ MX$ LG u) (B.free O) r
def aaj(b:Hp)(a:V)(c:Ž):Prop:=a=.Ť\/∃d e f g,a=BK/\on (UK mN) c
inductive Ii(vs:g3)(H:Hp)(o:VK)(r:XK):Prop|mk(S c d h k l i g:β)(a:V)(L:Ž)(cells:f8):vs=[QT,FU]->H S=f4 (DW CS c (EK Du i))->AI (mN H d h) L->L.n<=9->L.units.length<=29->JY aaj (vu L)->H g=xL cells->cells.length<=100->(∀b e j p m f,(a=.Ť\/a=EN)->(∀n q,n≠S->H n=f4 q->b n=f4 q)->b S=f4 (DW CS c (Du d EN i))->DA vq j p m (vu L)->f.La=e->(∀z,z∈f.ü->hm (H z)/\z≠S)->(∀z,z∈f.ws->z=p)->DA bg (bU (vu L) cells)->o (wp f.b) b)->AJ Ii o r
def Af(a:Ĭ):oF.P b 6 Ii:=by
 calc oF.ok ["self","givens"] EO;let⟨S,h,i,j,k,l,m,n,o,p,q,I,r,s,t,u,x,y,A,B⟩:=g;have D:n≠S:=AF$ đ y r;calc ln λG H J L N O c=>⟨_,ER (ď (Ô vQ Cl ŝ) (μ (agB (LI Ih O QQ))))$ rc$ LI Z9 O aud,?_⟩;rcases x with I|⟨e,f,o,g,I,G⟩;walk_at "s";simp!;calc⟨i,j,k,l,p,I,s,t,u,λH J v L N x O c=>?_⟩;have j:=QB r;simp! [-ĕ];calc sk j mm 3 I λk l s=>?_;have s:k S=f4 (DW CS h (Du i (.ref H) m)):=s;simp!;have u:H≠S:=(ρ r O).symm;have N:mN k H J v L$ vu p:=⟨ga l u c.obj,ga l (AF (đ c.us j)) c.us,ga l (AF (đ c.ul j)) c.ul⟩;calc⟨H,J,v,L,n,vu p,q,I,N,t,ga l D$ QB y,A,λh i m O D c j=>?_⟩;calc DX$ B h H J v L i GQ (λu H J L=>NC$ l u H J$ QB L) (NC s) (vq.fresh (by rw[O];calc N) m D) O λz h=>?_;have N:z≠S:=λL=>by have:=D z h;rw[L,s]at this;cases this
 calc P3 N;cases w:d z with
 |none=>rfl
 |some H=>have:=D z h;rw[ga l N$ QB w]at this;cases this
 walk_at "s";simp!;calc⟨e,f,o,g,n,vu p,q,I,G,t,y,A,λk i m O D c j=>?_⟩;calc DX$ DL (py (B k) o) Ps (λu H _ L=>NC L) (NC r) (vq.fresh (by rw[O];calc G) m D) O λz h=>⟨D z h,λL=>by have:=D z h;rw[L,r]at this;cases this⟩
def x3(c d:M):∀(a:KF)(b:s5),XB b.length->(∃e f g,a[e]? =MO/\b[e]? =HK/\f.1=c/\ab (jS (a.q (·.1)) b) (VO c)=f4 FU/\TY Ŝ=a.set e (f.1,f.2++[d]))\/(hm (ab (jS (a.q (·.1)) b) (VO c))/\TY Ŝ=a++[(c,[d])]/\ ∀l,aR (jS (a.q (·.1)) b) (VO c) CG=jS ((a++[(c,[d])]).q (·.1)) (b++[l]))
 |[],[],_=>.X ⟨I,I,λl=>I⟩
 |[],_::_,h=>by simp at h
 |_::_,[],h=>by simp at h
 |f::a,g::b,h=>by
   have i:=io (re x3) (by simpa using h);have e0:jS ((f::a).q (·.1)) (g::b)=((È _),V.ref g)::jS (a.q (·.1)) b:=I;by_cases j:f.1=c;left;calc⟨0,f,g,I,I,j,?_,?_⟩;rw[e0];unfold ab;rw[ű,<-j];simp;let⟨k,m⟩:=f;subst j;simp[Ŝ];have n:=xV j;have o:ab (jS ((f::a).q (·.1)) (g::b)) (È c)=ab (jS (a.q (·.1)) b) (È c):=by
    rw[e0];unfold ab;rw[ű];have:OU (OL f.1=È (jp c)):=abk
    simp only[this]
   have p:re (Ŝ (f::a))=f::TY Ŝ:=by exact hf j
   rcases i with⟨e,q,r,s,t,u,v,x⟩|⟨s,t,u⟩;left;calc⟨LH,q,r,as6,by simpa using t,u,by rw[o];calc v,by rw[p,x];rfl⟩;right;calc⟨by rw[o];calc s,by rw[p,t];rfl,λl=>?_⟩;have:=u l;show ga (aR (((È _),V.ref g)::jS (a.q (·.1)) b))=((È _),V.ref g)::jS ((a++[(c,[d])]).q (·.1)) (b++[l]);rw[<-this];unfold aR;rw[aA];have y:OU (VO f.1=È (jp c)):=abk
   rw[y,lF];split;rw[Â,hf n];rfl
def Ag{h:HO}:∀{c:s5}{d:KF}{g:M}{e:β}{b:SF},re (Rows f)->c.ar->c[g]? =HH->h=AQ (Ě b.2)->Rows (FG (ø f)) c (d.set g b)
 |_,_,g,e,b,.nil,_,i,_=>by simp at i
 |_,_,0,e,b,AS .cons,l,i,m=>by simp at i;subst i;calc KU (by rw[Α,m])$ gx k λn o p q=>?_;rw[ω λz=>(ñ.J l).1 (by rw[<-z];calc p)];calc q
 |_,_,g+1,e,b,AS$ KU (a:=r),l,i,m=>by have s:r≠e:=λz=>(ñ.J l).1 (by rw[z];calc Î i);calc KU ((ω s).trans j)$ Ag k (ñ.J l).2 i m
def sx(a:f8)(b:M):ai a BP=Ŝ UU ae3 b:=by unfold ai;rw[ę,Þ];rfl
def oM(a:f8):∀b,UU.length<=b
 |0=>by simp[ai]
 |BP=>by have:=io oM;rw[sx];have:=kb UU ae3 b;lia
def yZ(a:f8)(b:M):∀c,c∈UU->c.2.length<=b:=λc d=>by have e:=wS$ io j4;have:=eH (l:=UU.q λc=>c.2.length)$ χ.Q ⟨c,d,I⟩;unfold aQ at e;lia
def lx(a:f8)(b:M)(c:M):M:=Û$ (ι c).filter λd=>ZW a.getD b
inductive Py(vs:g3)(H:Hp)(d:VK)(f:XK):Prop|mk(x:Bx)(B:ŏ):vs=[JP]->VJ (asK ((∀c b a,IS (aqX->JD=KE b.q->(∀e,EG b->amV)->io dk ((tn B.ζ).q zs)->d CO a))->DS (AJ Py)))
def aak(h0:Ĭ):(jC h0).P b 1 Py:=by
 calc(jC h0).ok ["board","kinds","digit","places"] λk1 z0 u1 l1 T0=>?_;let⟨i1,p0,I,i0,m1,n1⟩:=T0;have A0:=i0.obj;calc ln λv1 j1 w1 Q0 o1 U0 r0=>⟨_,η (KW r0 kP)$ η (Ī (ak3 (bu h0) QQ) (j9 (n:=2) I (č (IJ r0) (JR (FN r0)))) (IW (TX (Dg cG de vI (zN (ba U0)) AG (ε FC (ol RS))) XM)))$ rc$ JS Yw (bu h0).list AG,?_⟩;walk_at "s";simp!;calc af λH p1 B0 s0 V0=>?_;have C0:i1.p≠H:=ρ i0.pl B0;have W0:=ga s0 A0;simp!;calc sw$ xI (xs:=Ě p0.ζ) (dq (ga s0 i0.pl)) (λO j0 p=>X3 (λa t0 u0=>A6 (j0=[AT i1.b,f4$ .ref H,t0,u0]) (∀o e,o≠H->z0 o=HH->p o=HH) (p H=f4 ((NF ((jS ((ai p0.ζ O).q (·.1)) a))))) (Rows p a (ai p0.ζ O)) a.ar (∀g,g∈a->UI z0/\g≠H))) ⟨[],none,none,I,λo e _ d=>ga s0 d,V0,.nil,mo,mo⟩ (λ O j0 p _⟨_,_,_,_,x,_,_,_,_⟩=>dq$ QB C0 i0.pl);rintro O v j0 p X0 x1 l1 Y0 Z0 q1 a0 a1 ⟨a,t0,u0,I,x,q,r,J,h⟩;have y:=Y0.n;let⟨r1,I⟩:=Ū Z0;calc LN$ aK a1;rw[sx]at y;have i:=Ñ r;have D0:=oM p0.ζ O;have m0:=yZ p0.ζ O;have L:=ga a0 q;generalize p0.ζ.getD O 0=j at y|-;generalize ai p0.ζ O=s at y q r i D0 L m0;have s1:ZB "dict" (.ref H) X0:=OX$ .D$ ln$ .D$ CM L;simp!;calc af λl A f v0 b1=>?_;have b0:=ga v0 L;have N:l≠H:=(ρ L f).symm;have c0:Rows A a s:=gx r λg e _ d=>ga v0$ ga a0 d;have n0:∀o e,o≠H->z0 o=HH->A o=HH:=λo e t d=>ga v0$ ga a0$ x o e t d;have o0:ME z0:=by cases d:z0 l with
 |none=>rfl
 |some e=>rw[ga a0$ x l e N d]at f;cases f
 have d0:l∉a:=λz=>by let⟨R0,c1⟩:=â.J z;let⟨d1,_,w0⟩:=Ā r c1;rw[ga a0 w0]at f;cases f
 have e1:mU A H (PD j) (ab (jS (s.q (·.1)) a) (VO j)):=mU.k (k:=È$ jp j) b0;simp!;calc⟨H,PD j,CG,_,I,I,e1,λv B=>?_,λB=>?_⟩;rcases IP (x3 j O s) with⟨R0,m,g,D,G,k0,x0,F0⟩|⟨D,G,k0⟩;rw[x0]at B;cases B;have G0:=Î D;have f1:A g=xL m.2:=by let⟨d1,H0,w0⟩:=Ā c0 G;rw[D]at H0;cases H0;exact w0
 let⟨I0,J0⟩:=h g (Î G);have K0:QF$ Ě m.2:=by rw[Τ];have:=m0 m G0;show BC;lia
 have M0:aq3 FU A:=.D ⟨I,_,wT f1⟩;rw[F0]at y;simp!;calc UL ⟨a,_,_,I,λo e t d=>by rw[ω$ ρ d I0];calc n0 o e t d,?_,(Ag c0 J G (by simp[ľ])),J,h⟩;rw[ω J0.symm,b0];have:(s.set R0 (m.1,m.2++[O])).q (·.1)=s.q (·.1):=by rw[dv];calc dV λt1=>?_;rw[U6];by_cases N0:R0=t1;subst N0;rw[KC];split;rw[Δ,D];rfl;rename_i K0;rw[SC];rw[DP N0]
 rw[this];rw[D]at B;cases B;rcases IP (x3 j O s) with⟨R0,m,g,D,G,k0,x0,F0⟩|⟨D,G,k0⟩;rw[x0]at B;cases B;calc⟨_,(Cz.k (k:=È$ jp j) b0 (by rw[Dw (by rw[θ,i]),θ];show BC;lia)),?_⟩;rw[G]at y;rw[k0];have g1:ø A H (HO.dK (jS ((s++[(j,[O])]).q (·.1)) (a++[l]))) l=BG []:=(ω N).trans b1;have M0:aq3 CG (ø A H (HO.dK (jS ((s++[(j,[O])]).q (·.1)) (a++[l])))):=.D ⟨I,_,wT g1⟩;have K0:QF ([]:g3):=by show 0<QW;decide
 simp! [-Æ];calc UL ⟨a++[l],_,_,I,λo e t d=>?_,?_,?_,?_,?_⟩;rw[ω$ ρ d o0,ω t];calc n0 o e t d;rw[ω N.symm,Α];calc bq.app (gx c0 (λg e u d=>?_))$ UX (by rw[Α];rfl);rw[ω (λ(z:g=l)=>d0 (by rw[<-z];calc u)),ω (h g u).2];calc d;calc ŷ.Q ⟨J,mo,λg u o t=>by rw[Θ.J t];calc λ(z:g=l)=>d0 (by rw[<-z];calc u)⟩;intro g u;rcases Ι.J u with z|z;calc h g z;rw[Θ.J z];calc⟨o0,N⟩;rintro j0 p ⟨a,t0,u0,I,x,q,r,J,h⟩;rw[Τ]at q r;simp!;intro S0 f0;have O0:S0≠H:=(ρ q f0).symm;have l0:∀(c:KF)(a:s5),a.length=c.length->(jS (c.q (·.1)) a).q (·.2)=GG a.q:=by intro c;induction c with
 |nil=>intro a f;cases a with
  |nil=>rfl
  |cons _ _=>simp at f
 |cons m c y0=>intro a f;cases a with
  |nil=>simp at f
  |cons g a=>show V.ref g::(jS (c.q (·.1)) a).q (·.2)=_;rw[y0 a aqh];rfl
 have i:=Ñ r;calc sw (n1 S0 a _ (λo e d=>?_)) (λg u=>(h g u).1) ?_;have h1:o≠H:=ρ d B0;have:=x o e h1 d;rw[ω$ ρ this f0];calc this;cases d:z0 S0 with
 |none=>rfl
 |some e=>rw[QB O0 d]at f0;cases f0
 rw[Α,ga l0 i];unfold tn;rw[Χ];have P0:∀{g0:s5}{c:KF}{e:HO},Rows p g0 c->dk (ø p S0 e) g0 (c.q (zs∘ λm=>m.2)):=by intro g0 c e T0;induction T0 with
 |nil=>calc .nil
 |cons d y1 y0=>exact KU (DK (ρ d f0) d) y0
 calc P0 r
inductive aal(vs:g3)(H:Hp)(e:VK)(f:XK):Prop|mk(a:β)(b:f8)(c:M):vs=[AC,AD c]->ahg (Ě b)->b.length<=9->c<=100->(∀d,EW d->e (AD (lf lx b.length)) d)->py (AJ aal)
def adi(a:Ĭ):RU u_ 1 aal:=by
 calc EI u_ ["shown","cell","bits","digit","cells"] EO;let⟨h,i,j,I,k,l,m,o⟩:=g;calc ln λp q r s t u x=>⟨_,NH (FT x)$ akL$ Ī (ak3 JZ ZZ) (j9 (n:=2) I (č (FN x) (JR (IY x))))$ HL$ ď (dm (GC (Í xl CV AG) Φ))$ μ$ bN 2 x (TK FC) cM,?_⟩;walk_at "s";simp!;calc sw$ xI (xs:=Ě i) (dq k) (λy A B=>X2 λD G=>A2 (A=[f4 NB,BJ j,BJ$ up lx y,D,G])$ LF B) ⟨none,none,I,HJ⟩ (λ y A B _⟨_,_,_,H⟩=>dq$ LT k);rintro y v A B J L f N O c e l ⟨D,G,I,H⟩;have m:=N.n;let⟨g,I⟩:=Ū O;calc LN$ aK l;have p:up lx (y+1)=if FO (i.getD y) j=Z then up lx y|||2^y else up lx y:=by
  unfold lx;rw[ę,ł];by_cases z:FO (i.getD y) j=Z;have:[y].filter (λq=>FO (i.getD q) j)=[y]:=by rw[ġ,LU];rfl
  rw[this,LU];unfold Û;rw[Þ];rfl;have:[y].filter (λq=>FO (i.getD q) j)=[]:=by rw[ġ,IU];rfl
  rw[this,Đ,IU]
 rw[p]at m;generalize adY=r at m|-;generalize up lx y=s at m|-;have t:r.o j=sB (r/2^j%2=1):=gf;have u:jp 2^y=TV y:=by rw[U.ae];rfl
 have x:PP$ jp y:=gt
 have d:PP$ jp j:=gt
 have h:=H.trans e;have k:ī (jp r/2^j) 1=kw (r/2^j%2):=by rw[show jp r/2^j=kw (r/2^j)by rw[U.cQ,U.ae];rfl];exact ac_ _
 by_cases z:r/2^j%2=1;rw[t,BZ RM]at m;rw[z]at k;simp! [k,u,Hn,x,d,-U.ae];calc NC ⟨_,_,I,h⟩;rw[t,DP RM]at m;rw[show r/2^j%2=0 by lia]at k;simp! [k,u,Hn,x,d,-U.ae];calc NC ⟨_,_,I,h⟩;rintro A B ⟨D,G,I,H⟩;rw[Τ];simp!;calc o B H
def tuF(b:β)(a:M)(un:β):ES:=[("board",AZ),("cell",KM),("untried",wp un)]
def D4(S:β)(a:U)(b:β):ES:=[("search",QT),("ahead",KM),("turns",AZ)]
section
variable(b un S tl:β)(cell:M)(Ah:U)
@[simp]def ara:(tuF b cell un).E (FP "board")=f4 AZ:=I
@[simp]def arb:(tuF b cell un).E (FP "cell")=f4 (AB cell):=I
@[simp]def arc:(tuF b cell un).E (FP "untried")=AT un:=I
@[simp]def ard:hu (tuF b cell un) "next_board":=I
@[simp]def arf:(ZX Ah tl).E (FP "search")=f4 QT:=I
@[simp]def arh:(ZX Ah tl).E (FP "ahead")=f4 (AB Ah):=I
@[simp]def ari:(ZX Ah tl).E (FP "turns")=AT tl:=I
@[simp]def ao7:hu (ZX Ah tl) "first_filling":=I
@[simp]def ao8:hu (ZX Ah tl) "climb":=I
end
inductive Pz(vs:g3)(H:Hp)(f:VK)(h:XK):Prop|mk(b d:β)(x:Bx)(B:ŏ)(c:M):vs=[AZ,JP]->H b=f4 (DW CT d [])->VJ (b≠x.b->asK (B.ĵ≠0->low B.ĵ=HG->(∀un a,(∀e g,e≠b->H e=HK->a e=HK)->hm (H un)->a un=xL (B.aV HG)->RH (DW CT d (tuF x.b HG un))->f .Ť a)->GP (AJ Pz)))
def aam(a:Ĭ):RU mJ 2 Pz:=by
 calc EI mJ ["self","board"] EO;let⟨h,i,j,k,l,I,m,n,o,p,q,r,s⟩:=g;have t:=n.obj;calc ln λu v x y A B D=>⟨_,auC$ OS (GC XR (bD iC XR))$ μ$ agB$ MN vp B AG QQ,?_⟩;have G:h∉j.ü:=λz=>by simp only[Bx.ü,ν,ã,GS]at z;rcases z with I|I|I|I|I;calc o I;rw[n.pl]at m;cases m;rw[n.wt]at m;cases m;rw[n.st]at m;cases m;rw[n.ck]at m;cases m
 have H:h∉j.ws:=λz=>by let⟨J,L⟩:=â.J z;let⟨N,O,c⟩:=Ā n.wl L;rw[m]at c;cases c
 have e:∀{f i:Hp},DF (SB h)->AS (bg f)->KB bg:=λ{f i} u g=>by refine⟨QP o.symm g.obj,QP (λz=>G (by simp[Bx.ü,<-z])) g.pl,QP (λz=>G (by simp[Bx.ü,<-z])) g.wt,dk.eI g.wl λv x y A=>QP (λz=>H (z▸y)) A,QP (λz=>G (by simp[Bx.ü,<-z])) g.st,QP (λz=>G (by simp[Bx.ü,<-z])) g.ck,g.ap⟩
 walk_at "s";simp! [-ĕ];calc sk m vm 0 I λf B D=>?_;have J:=LG o.symm t;simp! [Ts _ q,r,-U.ae,-ĕ];calc sk D xJ 1 I λi N O=>?_;have L:=e N$ e B n;have c:(aM "cell" (CK (2^l))$ aM "board" (SQ j.b) []).E (FP "cell")=f4 (CK (2^l)):=I;simp! [c,-U.ae,-ĕ];calc⟨j,k,2^l,I,L,p,λv g m G H=>?_⟩;have f:v≠h:=(ρ O m).symm;have u:SB h d i:=λy x o A=>NG o$ LG o A;simp! [-ĕ];calc sk (LC O) pZ 2 I λq r t=>?_;calc s v _ (λy x o A=>ga r o$ LC$ u y x o A) ?_ (ga r f H) t;cases z:d v with
 |none=>rfl
 |some x=>rw[QP f z]at m;cases m
inductive aan(vs:g3)(H:Hp)(k:VK)(n:XK):Prop|mk(l h un:β)(x:Bx)(e u i:β)(L:Ž)(B:ŏ)(c d:M)(f:f8):vs=[CG]->H l=f4 (DW CT h (tuF x.b HG un))->H un=xL (d::f)->aj5 e u i L->anX (d<L.n->c<ZM->TU un->un∉x.ws->un≠u->(∀a g,(∀j m,j≠un->H j=f4 m->a j=f4 m)->a un=BG (Ě f)->g.La=x.La->(∀b,b∈g.ü->ZD)->(∀b,b∈g.ws->b∈x.ws\/ZD)->bg a g (B.ù L d HG)->k (wp g.b) a)->AJ aan k n)
def D5(a:Ĭ):jQ.P b 4 aan:=by
 calc jQ.ok ["self"] EO;let⟨h,i,un,j,k,l,m,n,o,p,q,r,I,s,t,u,v,x,y,A,B,D,G,H⟩:=g;have J:=v.obj;have L:h≠un:=AF$ DQ đ;have N:∀O c,O≠un->d O=HE->ap3 O=HE:=λO c e f=>(ω e).trans f;have i:∀g,UI ap3->UI d:=λg J=>by by_cases z:g=un;rw[z,Α]at J;cases J;rwa [ω z]at J
 calc ln λh h h h h h a0=>⟨_,rc$ MN v8 h Cl$ ε (Dg è Ek El Xj Cl (ol Φ)) QQ,?_⟩;have e0:(Ě (q::r)).eraseIdx 0=Ě r:=I;have h:FF$ AI$ mN ap3 j.La:=⟨NG (AF (đ u.obj t)) u.obj,NG G.symm u.us,NG (AF (đ u.ul t)) u.ul⟩;have u:UQ$ bg ap3:=v.ac3 B D;have G:ap3 un=XC (Ě r):=Α;generalize v:ap3=B at h u N G i;walk_at "s";have D:aq3 (wp un) d:=.D ⟨I,_,.D$ .D t⟩;simp!;calc⟨un,_,0,0,HM q,I,I,t,DU,DU,by simp[Ur],I,?_⟩;rw[e0,v];have r:=NG L s;simp! [-U.ae];calc⟨j,k,l,m,n,o,q,2^p,I,h,u,x,y,gk A,λB d t v D j k=>H B d (λO c e f=>MP$ py$ N O c) (MP G) v (λg J=>i g$ D g J) (λg J=>(j g J).elim .D λz=>.X$ i g z) k⟩
inductive P4(vs:g3)(H:Hp)(e:VK)(g:XK):Prop|mk(x c S:β)(z:U):vs=[DJ,QT,.int z]->TQ (DW CW c [])->(∀b a,(∀d f,d≠x->H d=MO->MY=MO)->ZD->JC=BG []->a x=f4 (DW CW c (ZX z b))->e .Ť a)->GZ (AJ P4)
def aao(a:Ĭ):RU mK 1 P4:=by calc EI mK ["self","search","number"] EO;let⟨h,i,S,z,I,j,k⟩:=g;calc ln λl m n o p q r=>⟨_,auC$ η (agB BU)$ μ$ agB RS,?_⟩;walk_at "s";simp! [-ĕ];calc sk j sj 0 I λs t u=>?_;simp! [-ĕ];calc sk u vn 1 I λv x y=>?_;simp! [-ĕ];calc af λA B D G H=>?_;have J:A≠h:=(ρ y D).symm;have L:SB h d v:=λN O c e=>QB c$ AH MP;simp! [-ĕ];calc sk (LC y) vo 2 I λf i g=>?_;calc k A _ (λN O c e=>ga i c$ LC$ AH$ L N O) ?_ (ga i J H) g;cases z:d A with
|none=>rfl
|some O=>rw[MD J z]at D;cases D
structure Tx where
 t:β
 tdx:β
 un:β
 x:Bx
def Tx.fp(a:Tx):s5:=a.t::a.un::(a.x.ü++a.x.ws)
structure pG(H:Hp)(b:β)(a:Tx)(n:Tn):Prop where
 obj:H a.t=f4 (DW CT a.tdx (tuF a.x.b (2^n.c) a.un))
 un:H a.un=xL n.ds
 bd:bg H a.x n.B
 la:a.x.La=b
def bg.T3(b:bg a s p)(c:∀d e,BH s.ü\/BH s.ws->MY=HH->f d=HH):bg f s p:=⟨SZ (.D (by simp[Bx.ü])) b.obj,SZ (.D (by simp[Bx.ü])) b.pl,SZ (.D (by simp[Bx.ü])) b.wt,dk.eI b.wl λg e h i=>c g e (.X h) i,SZ (.D (by simp[Bx.ü])) b.st,SZ (.D (by simp[Bx.ü])) b.ck,b.ap⟩
def bg.there(d:bg a s p)(b:c∈s.ü\/c∈s.ws):∃e,JD=HH/\∀f,e≠.dT f:=by rcases b with b|b;simp only[Bx.ü,ν,ã,GS]at b;rcases b with I|I|I|I|I;calc⟨_,d.obj,λ_ z=>by cases z⟩;calc⟨_,d.pl,λ_ z=>by cases z⟩;calc⟨_,d.wt,λ_ z=>by cases z⟩;calc⟨_,d.st,λ_ z=>by cases z⟩;calc⟨_,d.ck,λ_ z=>by cases z⟩;let⟨g,h⟩:=â.J b;let⟨i,_,j⟩:=Ā d.wl h;calc⟨_,j,λ_ z=>by cases z⟩
def pG.keep{d:Tx}{g:Tn}(b:DR (mt pG))(e:∀h i,h∈d.fp->a h=RW->f h=RW):re (pG f) g:=⟨MX (by simp[Tx.fp]) b.obj,MX (by simp[Tx.fp]) b.un,b.bd.T3 λh i j k=>t3 e (by rcases j with z|z<;>simp[Tx.fp,z]) k,b.la⟩
def pG.there{e:Tx}{f:Tn}(d:py (IP pG))(b:c∈e.fp):∃g,JD=HK/\∀h,g≠.dT h:=by simp only[Tx.fp,ν,Ι]at b;rcases b with I|I|b;calc⟨_,d.obj,λ_ z=>by cases z⟩;calc⟨_,d.un,λ_ z=>by cases z⟩;calc d.bd.there b
structure Sep(u tl:β)(a:AX Tx):Prop where
 nd:(a.q Tx.un).ar
 ub:∀b,b∈a->∀c,c∈a->b.un∉c.x.ü/\b.un∉c.x.ws
 ul:∀b,b∈a->b.un≠u
 tt:∀b,b∈a->tl∉b.fp
 lu:tl≠u
def oN(W S b e c d:β)(a:AX Tx):s5:=W::S::b::e::c::d::a.aD Tx.fp
structure m6(q:æ)(L:Ž)(H:Hp)(W d S e j k:β)(f:V)(g h u l tl:β)(i:BA)(c:U)(a:AX Tx)(b:AX Tn):Prop where
 wo:H W=f4 (DW CW d (D4 S c tl))
 se:DF$ AS$ IT yX H S e
 la:ww (mN H) u l L
 M3:H tl=BG (a.q (λm=>SQ m.t))
 st:io$ bq$ pG H g
 ok:∀n,n∈b->ae6 L n
 m7:Sep u tl a
 lk:IT aE
 dp:∀o p,b[o]? =f4 p->o+j_ p.B.ĵ<=90
variable{y:AX Tx}
def M4(e:IL (bq (mt pG))){d:Tx}(b:BH y):∃f,f∈A/\DS (mt pG):=by let⟨g,h⟩:=â.J b;let⟨f,i,j⟩:=FG Ā;calc⟨f,Î i,j⟩
def sy(d:IL (bq (mt pG)))(b:∀e,EG y->∀g h,g∈e.fp->a g=OE->f g=OE):IL$ bq$ KL pG:=by induction d with
|nil=>calc .nil
|cons i j k=>calc KU (i.keep (b _ JJ))$ k λe l=>EV$ LS l
section
variable {H':Hp}{Lp:β} {dd:β}{p5:BA}
def m6.there(d:IL (GV (m6 u) j D i o Lp B q m G c dd n p5 v))(b:H∈oN j i m c dd n y):∃e,a H=HH/\∀p5,e≠.dT p5:=by simp only[oN,ν,ŧ]at b;rcases b with I|I|I|I|I|I|⟨f,g,b⟩;calc⟨_,d.wo,λ_ z=>by cases z⟩;calc⟨_,d.se.obj,λ_ z=>by cases z⟩;calc⟨_,d.la.obj,λ_ z=>by cases z⟩;calc⟨_,d.la.us,λ_ z=>by cases z⟩;calc⟨_,d.la.ul,λ_ z=>by cases z⟩;calc⟨_,d.M3,λ_ z=>by cases z⟩;let⟨h,_,k⟩:=M4 d.st g;calc k.there b
def m6.keep(b:IL (GV (m6 u) m B j z Lp i q n D c dd o p5 v))(d:∀f g,f∈oN m j n c dd o y->a f=HK->H' f=HK)(e:H' i=f4 (.dT J))(ok:aT u l J):IL$ m6 u l H' m B j z Lp i q n D c dd o J v:=⟨IB (by simp[oN]) b.wo,⟨IB (by simp[oN]) b.se.obj,e,ok⟩,⟨IB (by simp[oN]) b.la.obj,IB (by simp[oN]) b.la.us,IB (by simp[oN]) b.la.ul⟩,IB (by simp[oN]) b.M3,sy b.st λh k f g p r=>on d (by simp only[oN,ν,ŧ];calc OX$ OX$ OX ⟨h,k,p⟩) r,b.ok,b.m7,b.lk,b.dp⟩
def m6.same(b:IL (GV (m6 u) z m o i Lp j q B n c dd D p5 v))(d:Μ a H'):IL$ m6 u l H' z m o i Lp j q B n c dd D p5 v:=b.keep (λe f _ g=>IB g) (IB b.se.kn) b.se.ok
def m6.uk(d:IL (GV (m6 u) j D i o Lp B q m G c dd n p5 v))(b:hm (a H)):H∉oN j i m c dd n y:=λz=>by let⟨e,f,_⟩:=d.there z;rw[b]at f;cases f
def m6.nkd(b:IL (GV (m6 u) m D j B Lp i q n G c dd o p5 v)):i∉oN m j n c dd o y:=λz=>by let⟨d,e,f⟩:=b.there z;rw[b.se.kn]at e;calc f p5 (Ü e).symm
def hZ{W S:β}{a:Tx}(b:BB y)(d:c∈a.fp):c∈FF (up (oN W S)) y:=by simp only[oN,ν,ŧ];calc OX$ OX$ OX ⟨a,b,d⟩
def m6.push(b:IL (m6 u l f H B G m Lp o q j D i dd c p5 v)){a:Tx}{n:Tn}(g:pG f j a n)(h:ae6 l n)(d:∀s,s∈y->s.un∉a.x.ü/\s.un∉a.x.ws/\a.un∉s.fp)(k:a.un∉a.x.ü/\a.un∉a.x.ws)(p:a.un≠i)(e:c∉a.fp)(r:A.length+j_ n.B.ĵ<=90):m6 u l (KL ø (AQ ((y++[a]).q (λa=>SQ a.t)))) H B G m Lp o q j D i dd c p5 v (y++[a]) (A++[n]):=by
 have t:∀s x,s≠c->f s=XV->KL ø (AQ ((y++[a]).q (λa=>SQ a.t))) s=XV:=λs x J L=>(ω J).trans L;have N:∀s x,f s=XV->(∀O,x≠.Ý O)->s≠c:=λs x L O z=>by rw[z,b.M3]at L;exact O _ (Ü L).symm
 calc⟨MP (FZ (NG b.wo)) b.wo,⟨MP (FZ (NG b.se.obj)) b.se.obj,MP (FZ (NG b.se.kn)) b.se.kn,b.se.ok⟩,⟨MP (FZ (NG b.la.obj)) b.la.obj,?_,MP (FZ (NG b.la.ul)) b.la.ul⟩,Α,?_,?_,⟨?_,?_,?_,?_,b.m7.lu⟩,b.lk,?_⟩;calc MP b.m7.lu.symm b.la.us;calc bq.app (sy b.st (λs J N x O L=>t N x (λz=>b.m7.tt s J (z▸O)) L))$ UX$ g.keep λN x O L=>t N x (λz=>e (z▸O)) L;intro t x;rcases Ι.J x with z|z;calc b.ok t z;rw[Θ.J z];calc h;rw[Æ];calc ŷ.Q ⟨b.m7.nd,mo,λN O t t=>?_⟩;let⟨s,J,I⟩:=χ.J O;simp only[Â,cq,Θ]at t;rw[t];calc λz=>wS (d s J) (by rw[<-z];simp[Tx.fp]);intro s J N O;rcases Ι.J J with z|z;rcases Ι.J O with t|t;calc ON$ b.m7.ub s z;rw[Θ.J t];calc⟨(d s z).1,lv$ d s z⟩;rw[Θ.J z];rcases Ι.J O with t|t;have:=wS$ ON d;simp only[Tx.fp,ν,Ι,MG]at this;calc wS this;rw[Θ.J t];calc k;intro s J;rcases Ι.J J with z|z;calc b.m7.ul s z;rw[Θ.J z];calc p;intro s J;rcases Ι.J J with z|z;calc b.m7.tt s z;rw[Θ.J z];calc e;intro s J x;by_cases N:s<A.length;rw[Ņ N]at x;calc b.dp s J x;rw[im Ű]at x;have:s-A.length=0:=by have:=(φ.J x).1;simpa using this
 rw[this]at x;have L:n=J:=arG
 lia
def m6.aap{e:Tx}(b:m6 u l f G o D m Lp n q c B j dd H p5 v (y++[e]) (A++[⟨p,d,x::h⟩]))(g:∀r s,r≠e.un->f r=f4 s->H' r=f4 s)(k:H' e.un=BG (Ě h)):m6 u l H' G o D m Lp n q c B j dd H p5 v (y++[e]) (A++[⟨p,d,h⟩]):=by
 have t:EG (y++[e]):=mo
 have J:y.length=A.length:=by have:=Ñ b.st;simpa using this
 let⟨L,N,O⟩:=s4 (Ā b.st (i:=y.length) (a:=e));have a0:L=⟨p,d,x::h⟩:=by rw[J]at N;simpa using N.symm
 subst a0;have L:∀r s,f r=f4 s->(∀N,s≠.Ý N)->r≠e.un:=λr s k b0 z=>by rw[z,O.un]at k;exact b0 _ (Ü k).symm
 calc⟨GK (FZ (MD b.wo)) b.wo,⟨GK (FZ (MD b.se.obj)) b.se.obj,GK (FZ (MD b.se.kn)) b.se.kn,b.se.ok⟩,⟨GK (FZ (MD b.la.obj)) b.la.obj,GK (b.m7.ul e t).symm b.la.us,GK (FZ (MD b.la.ul)) b.la.ul⟩,GK (λz=>b.m7.tt e t (by rw[z];simp[Tx.fp])) b.M3,?_,λc0 d0=>?_,b.m7,b.lk,λf0 g0 h0=>?_⟩;have i0:IL$ bq$ KL pG:=by
  have:∀{N:AX Tx}{j0:AX Tn},bq (KL pG) (N++[e]) (j0++[⟨p,d,x::h⟩])->N.length=j0.length->bq (KL pG) N j0:=λ{N j0}=>by induction N generalizing j0 with
  |nil=>intro _ J;cases j0 with
   |nil=>calc .nil
   |cons _ _=>simp at J
  |cons r N N=>intro k0 J;cases j0 with
   |nil=>simp at J
   |cons g0 j0=>cases k0 with
    |cons k l0=>exact .cons k$ N l0 (by simpa using J)
  exact this b.st J
 calc bq.app (sy i0 (λr J d s N m0=>g d s RP m0))$ UX ⟨GK (FZ (MD O.obj)) O.obj,k,O.bd.T3 λr s J m0=>HX g RP m0,O.la⟩;subst z;have L:r∈y++[e]:=Ι.Q$ .D J;simp only[Tx.fp,ν,Ι]at N;rcases N with z|z|z|z;let⟨g0,_,h0⟩:=M4 i0 J;have:=O.un;rw[z,h0.obj]at this;cases this;have:=b.m7.nd;rw[Æ]at this;calc s4 (wS (GE ŷ.J) r.un (χ.Q ⟨r,J,I⟩) e.un) z.symm;calc(b.m7.ub e t r L).1 z;calc(b.m7.ub e t r L).2 z;subst z;rcases J with z|z;calc(b.m7.ub e t e t).1 z;calc(b.m7.ub e t e t).2 z;rcases Ι.J d0 with z|z;calc b.ok c0$ Ι.Q RR;have s:=s4$ b.ok ⟨p,d,x::h⟩;rw[Θ.J z];calc⟨s.fM,λr t=>s.ok r$ BI t,by have:=s.len;simp at this|-;lia⟩;by_cases O:f0<A.length;rw[Ņ O]at h0;calc b.dp f0 g0 (by rw[Ņ O];calc h0);rw[im Ű]at h0;have J:f0-A.length=0:=by have:=(φ.J h0).1;simpa using this
 rw[J]at h0;have k:(⟨p,d,h⟩:Tn)=g0:=by simpa using h0
 rw[<-k];calc b.dp f0 ⟨p,d,x::h⟩ (by rw[im Ű,J];rfl)
end
def chF(S d a:β)(b:M)(c:β):ES:=[("search",QT),("board",BK),("kinds",AC),("changeable",LZ),("shown",CO)]
section
variable(S b ks sh:β)(ch:M)
@[simp]def arl:asR.E (FP "search")=f4 QT:=I
@[simp]def arn:asR.E (FP "board")=f4 AZ:=I
@[simp]def aro:asR.E (FP "kinds")=AT ks:=I
@[simp]def arp:asR.E (FP "changeable")=f4 (AB ch):=I
@[simp]def arq:asR.E (FP "shown")=AT sh:=I
@[simp]def ao9:hu asR "note":=I
@[simp]def ao_:hu asR "rule_out":=I
@[simp]def apa:hu asR "show_places":=I
@[simp]def apb:hu asR "show_all":=I
@[simp]def apc:hu asR "digit_sets":=I
end
structure sA(H:Hp)(C e S b d:β)(a:s5)(c:β)(ch:M)(f:AU)(g:f8):Prop where
 obj:H C=f4 (DW CC e (v4 (chF S) ch c))
 kls:H d=KE a.q
 ka:JY dk$ f.q zs
 M5:H c=BG (Ě g)
 n1:c≠d
 n2:c∉a
def dk.ajX(c:AM dk (N.q zs)){v:V}(b:(GG e.q)[d]? =DE):∃f,v=EH/\f∈e/\d<N.length/\a f=xL (N.getD d []):=by rw[Δ]at b;let⟨f,g,I⟩:=Υ.J b;let⟨h,i,j⟩:=Ā c g;rw[Δ]at i;let⟨l,k,m⟩:=Υ.J i;calc⟨f,I,Î g,(φ.J k).1,?_⟩;rw[γ,k,j,<-m];rfl
inductive P5(vs:g3)(H:Hp)(g:VK)(j:XK):Prop|mk(C a S:β)(x:Bx)(B:ŏ):vs=[SY,QT,JP]->H C=f4 (DW CC a [])->VJ (C≠x.b->asK ((∀d b e c,(∀f h,f≠C->H f=OE->c f=OE)->agI->(∀i,i∈b->QM H)->amV->zn (sA c C a S x.b d) B.ĵ (tn B.ζ) B.Ú->g .Ť c)->AJ P5 g j))
def aar(a:Ĭ):RU iI 2 P5:=by
 calc EI iI ["self","search","board"] EO;let⟨C,h,S,i,j,I,k,l,m,n,o⟩:=g;have p:∀q,q∈i.ü\/q∈i.ws->q≠C:=λq r z=>by rcases r with r|r;simp only[Bx.ü,ν,ã,GS]at r;rcases r with I|I|I|I|I;calc m z.symm;have:=l.pl;rw[z,k]at this;cases this;have:=l.wt;rw[z,k]at this;cases this;have:=l.st;rw[z,k]at this;cases this;have:=l.ck;rw[z,k]at this;cases this;let⟨s,t⟩:=â.J r;let⟨u,_,v⟩:=Ā l.wl t;rw[z,k]at v;cases v
 have x:=l.obj;have y:=p i.b$ .D (by simp[Bx.ü]);have A:=p i.s$ .D (by simp[Bx.ü]);calc as_ ⟨_,η (SM IC)$ η (SM LK)$ η (SM (LI aak L (ol LK)))$ η (SM (Ø LK))$ μ$ SM$ ar1$ ol$ Ø LK,?_⟩;calc⟨_,I,_,I,C,CC,h,_,I,k,tC.cl,tC.nS,DU,_,I,_,I,C,CC,h,_,I,Α,tC.cl,tC.nB,(by show Id 1;decide),_,I,?_⟩;have O:∀q c,q≠C->d q=HE->atZ [] (ass []) q=HE:=λq c r e=>by rw[ω r,ω r];exact e
 have f:atZ [] (ass []) C=f4 (ass []):=Α;have g:∀q,q≠C->hm (atZ [] (ass []) q)->hm (d q):=λq r e=>by rw[ω r,ω r]at e;exact e
 simp only[Yp,Đ];generalize atZ [] (ass [])=m at O f g|-;have s:=l.T3 λq c r e=>O q c (BW p) e;calc⟨i,j,I,s,n,λt x B D G H J k=>?_⟩;have L:t≠C:=(ρ f G).symm;have N:=PL f;calc⟨_,I,C,CC,h,_,I,N,tC.cl,tC.nK,(by show Id 2;decide),?_⟩;calc⟨_,I,i.b,CB,i.dx,_,_,I,(ω y).trans$ PL s.obj,tB.clB,tB.nOp,ajS ..,_,I,C,CC,h,_,I,Α,tC.cl,tC.nC,(by show Id 3;decide),?_⟩;calc⟨_,I,i.b,CB,i.dx,_,_,I,by rw[ω y,ω y];calc PL s.obj,tB.clB,tB.nSt,ajR ..,i.s,_,I,by rw[ω A,ω A];calc PL s.st,λd m=>?_⟩;have j:d≠C:=λz=>by rw[z,Α]at m;cases m
 have l:hm$ B d:=by rw[ω j,ω j]at m;exact m
 calc⟨_,I,C,CC,h,_,I,DK j.symm Α,tC.cl,tC.nH,(by show Id 4;decide),?_⟩;have n:∀p,p∈x->p≠C/\p≠d:=λp i=>by let⟨y,A⟩:=â.J i;let⟨u,_,v⟩:=Ā k A;exact⟨AF$ đ v N,ρ v l⟩
 calc o t x d _ (λq c r e=>?_) (g t L G) (λp i=>g p (n p i).1$ J p i) (g d j (D.free l)) ⟨Α,?_,?_,?_,?_,RK (n d z).2⟩;have f:=PL$ O q c r e;rw[ω r,ω$ ρ f l,ω r,ω r];calc f;rw[ω L,ω$ ρ H l,ω L,ω L];calc H;calc dk.eI k λp c i e=>?_;rw[ω (n p i).1,ω (n p i).2,ω (n p i).1,ω (n p i).1];calc e;rw[ω j];calc Α;calc λz=>by rw[z,H]at l;cases l
inductive aas(vs:g3)(H:Hp)(j:VK)(m:XK):Prop|mk(C f S b h a:β)(g:s5)(ch:M)(c:AU)(d:f8)(y:Bx)(F:ŏ):vs=[SY,wp y.b]->re (sA H C f S b h g a ch)->bg H y F->a∉y.ü->(∀k,k∈c->∀i,i∈k->i<d.length/\i<F.Ú.length)->(∀e,(∀b l,b≠a->H b=XS->e b=XS)->e a=xL (re (fA ch F.Ú))->j .Ť e)->AJ aas j m
def D6(a:Ĭ):oB.P b 1 aas:=by
 calc oB.ok ["self","filled","alike","cells","digit"] EO;let⟨C,h,S,i,j,k,m,n,o,p,q,F,I,r,s,t,u,x⟩:=g;have y:=r.obj;have A:=s.obj;have B:C≠k:=AF$ đ y r.M5;have D:q.b≠k:=λz=>t (by rw[<-z];simp[Bx.ü]);have G:q.s≠k:=λz=>t (by rw[<-z];simp[Bx.ü]);have H:m.length=o.length:=by have:=Ñ r.ka;rw[θ]at this;exact this
 calc ln λJ L N O c e h=>⟨_,μ$ auc (IJ h)$ NH (GX h)$ η (Ī (ņ BU) (IY h) (μ (bN 3 h (cB xC XR CV) cM)))$ μ$ Ī (ņ BU) (IY h)$ μ$ B9 Cl CV af0 (RF Cl) cM d7,?_⟩;walk_at "s";simp!;calc sw$ cD (xs:=GG m.q) (dq r.kls) (λj t J=>X3 λL N O=>A3 (t=[AT C,AT q.b,L,N,O]) (SB k d J) (J k=xL ats)) ⟨none,none,none,I,λi c _ e=>e,r.M5⟩ (λ j t J _⟨_,_,_,_,m,_⟩=>dq$ NC r.n1.symm r.kls);rintro j v t J f h f ⟨L,N,O,I,m,a0⟩;have b0:=h.n;let⟨c0,I,d0,f0,g0⟩:=dk.ajX r.ka f;have h0:c0≠k:=λz=>r.n2 (by rw[<-z];calc d0);have r:=NC h0 g0;have i0:=NC B y;have j0:=NC D A;have A:=NC G s.st;have D:o.take (j+1)=o.take j++[o.getD j []]:=by rw[å,δ f0,γ,δ f0];rfl
 have s:o.getD j []∈o:=by rw[γ,δ f0];exact Ö f0
 have G:fA n F.Ú (o.take (j+1)) p=zk n F.Ú ats (o.getD j []):=by unfold fA;rw[D,Þ];rfl
 rw[G]at b0;have A:ats.length=p.length:=EY tq;generalize ats=D at a0 A b0;have G:=u _ s;generalize o.getD j []=o at g0 r G b0;simp!;calc sw$ cD (xs:=Ě o) (dq r) (λu t j=>X1 λO=>A2 (J=j) (t=[AT C,AT q.b,AT c0,NQ$ (o.take u).ah (λs k0=>s|||F.Ú.getD k0 0) 0,O])) ⟨O,I,I⟩ (λ u t j _⟨_,g,_⟩=>dq (by rw[<-g];calc r));rintro u v t j g l0 f ⟨O,I,I⟩;have m0:=l0.n;let⟨n0,I⟩:=Ū f;have o0:o.take (u+1)=o.take u++[o.getD u 0]:=by rw[å,δ n0,γ,δ n0];rfl
 have p0:=(G _$ getD_mem n0).2;rw[o0,Þ]at m0;generalize o.getD u 0=k0 at p0 m0|-;have r0:=Ė p0;simp! [r0,Hn];calc ga m0 ⟨_,I,I⟩;rintro t j ⟨O,I,I⟩;rw[Τ,Ò];have j:o.ah (λs k0=>s|||F.Ú.getD k0 0) 0=at8:=I;rw[j];simp!;calc sw$ cD (xs:=Ě o) (dq r) (λu t r=>X1 λO=>A3 (t=[AT C,AT q.b,AT c0,BJ at8,O]) (SB k d r) (r k=xL ((o.take u).ah (λp k0=>p.set k0 (p.getD k0 0|||(at8&&&n))) D))) ⟨O,I,m,a0⟩ (λ u t r _⟨_,_,s,_⟩=>dq$ MZ h0 g0);rintro u v t r g l0 f ⟨O,I,s,j⟩;have m0:=l0.n;let⟨n0,I⟩:=Ū f;have o0:o.take (u+1)=o.take u++[o.getD u 0]:=by rw[å,δ n0,γ,δ n0];rfl
 have p0:=(G _$ getD_mem n0).1;rw[o0,Þ]at m0;have d:((o.take u).ah (λp k0=>p.set k0 (p.getD k0 0|||(at8&&&n))) D).length=D.length:=by generalize at8&&&n=k;generalize o.take u=l;clear j a0 A b0 m0 h l0;induction l generalizing D with
 |nil=>rfl
 |cons e q g=>rw[ĥ,g];simp
 generalize (o.take u).ah (λp k0=>p.set k0 (p.getD k0 0|||(at8&&&n))) D=f at j d m0;generalize o.getD u 0=k0 at p0 m0|-;have G:k0<f.length:=gt
 have h:=MZ B y;have r0:=Ė G;simp! [r0,e_,Hn,-hY,-hW];calc swK j (fJ (by rw[Τ];calc G)) λA k q=>?_;rw[jR]at q;calc ga m0 ⟨_,I,λi c n e=>NN n$ s i c n e,q⟩;rintro t r ⟨O,I,s,j⟩;rw[Τ,Ò]at j;calc ga b0 ⟨_,_,_,I,s,j⟩;rintro t J ⟨L,N,O,I,m,a0⟩;rw[θ,H,Ò]at a0;calc x J m a0
structure aat(C S c a u:β)(b:s5)(x:Bx):Prop where
 nC:TU C
 nS:TU S
 nk:TU c
 na:∀d,BH b->TU d
 ns:TU a
 nw:a∉x.ws
 nu:a≠u
structure y3(q:æ)(L:Ž)(a:ŏ)(c:AU)(H:Hp)(C d S e l m:β)(f:V)(g:BA)(x:Bx)(h u n i:β)(b:s5)(j:β)(B:ŏ)(k:f8):Prop where
 ch:sA H C d S x.b i b j a.ĵ c k
 bd:Ix bg B
 lo:Ix vq h u n L
 se:on$ AE$ IT yX H S e
 sp:up (aat C S) u b x
 cc:IT fB a B c k
 lk:IT aE
 i0:ú L a
 T4:Fq L.n a.ζ c
 ne:Ő q a≠[]
section
variable {B0:ŏ} {x':Bx}{dd:β} {sh:f8}
def sA.ajY(b:re (BQ (IP sA m) j e) N sh)(g:∀h k,h=i\/h=j\/h∈e\/h=c->a h=RY->f h=RY):re (BQ (DF sA m) j e) N sh:=⟨GK GQ b.obj,GK (.X GQ) b.kls,dk.eI b.ka λh k l p=>g h k (OX (.D l)) p,GK (OX Ps) b.M5,b.n1,b.n2⟩
def sA.aau(b:re (up (sA f m) o n e) N sh)(g:∀l p,l≠c->f l=f4 p->a l=f4 p)(k:JD=BG (Ě h)):re (up (sA a m) o n e) N h:=⟨GK (AF (đ b.obj b.M5)) b.obj,GK b.n1.symm b.kls,dk.eI b.ka λl p q k=>g l p (λz=>b.n2 (by rw[<-z];calc q)) k,k,b.n1,b.n2⟩
def aat.apd(d:MB aat m i n e s)(b:IO (UQ (sA a) c s.b m) B0.ĵ N sh)(f:∃h,JD=OE)(g:bV a s x'):MB aat m i n e x':=by
 have k:∀l,l∉s.ü->(∃h,a l=OE)->l∉x'.ü:=λ l p⟨h,q⟩ z=>(g.ü l z).elim p λw=>by rw[w]at q;cases q
 calc⟨k _ d.nC$ CM b.obj,k _ d.nS f,k _ d.nk$ CM b.kls,λl r=>k _ (d.na l r) ?_,k _ d.ns$ CM b.M5,RP,d.nu⟩;let⟨t,u⟩:=â.J r;let⟨v,_,x⟩:=Ā b.ka u;calc CM x;rcases DG g.ws with w|w|w;calc d.nw w;calc d.ns w;rw[b.M5]at w;cases w
def y3.aau(b:CF (y3 u l B0 N f D m B j H n q J s o i dd G) p sh)(d:∀r t,r≠c->f r=f4 t->a r=f4 t)(g:JD=BG (Ě h))(k:fB u l B0 p N h):CF (y3 u l B0 N a D m B j H n q J s o i dd G) p h:=by
 have v:∀x t,f x=f4 t->(∀y,t≠.Ý y)->x≠c:=λx t g A z=>by rw[z,b.ch.M5]at g;exact A _ (Ü g).symm
 calc⟨DR b.ch.aau,b.bd.T3 λx t L g=>d x t (λz=>by rw[z]at L;calc L.elim b.sp.ns b.sp.nw) g,⟨⟨IB (FZ (ga v b.lo.jf.obj)) b.lo.jf.obj,IB b.sp.nu.symm b.lo.jf.us,IB (FZ (ga v b.lo.jf.ul)) b.lo.jf.ul⟩,b.lo.nL,b.lo.nu,b.lo.nd⟩,⟨IB (FZ (ga v b.se.obj)) b.se.obj,IB (FZ (ga v b.se.kn)) b.se.kn,b.se.ok⟩,b.sp,k,b.lk,b.i0,b.T4,b.ne⟩
end
def eZ(a:ŏ)(c:M)(b:f8):ŏ:=b.ah (λa d=>a.Uw d HG) a
def mr{c:M}:∀{al:f8}{a:ŏ},GV ú->a.O c->ú l (mt eZ al)/\(mt eZ al).O c/\(∀b,mR (mt eZ al) b↔io mR/\∀d,BH al->UW≠IG)/\(∀e f,py (mt eZ al).P↔py a.P/\¬(EG al/\f=c))/\(mt eZ al).Ú=a.Ú/\(mt eZ al).ĵ=a.ĵ|[],a,g,h=>⟨g,h,λb=>by simp[eZ],λe f=>by simp[eZ],I,I⟩|d::al,a,g,h=>by let⟨i,j,k,m,n,o⟩:=mr (DB (Ny g)) (show(a.Uw d _).O c from h);calc⟨i,j,XZ,λe f=>?_,n,o⟩;show mR (eZ _ c al) b↔_;rw[k,ww Nz];simp only[ν,auP,auf];show py (eZ _ c al).P↔_;rw[m,Fp];simp only[ν];constructor;rintro ⟨⟨p,q⟩,r⟩;calc QZ RP;rcases Da with s|s;calc q ⟨s,z.2⟩;calc r ⟨s,z.2⟩;rintro ⟨p,q⟩;calc⟨QZ λz=>q ⟨.D Da,z.2⟩,λz=>q ⟨.X Da,z.2⟩⟩
section
variable{base:ř}
inductive aav(vs:g3)(H:Hp)(A:VK)(G:XK):Prop|mk(q:æ)(L:Ž)(k:ŏ)(l:AU)(C e S f p r:β)(g:V)(h:BA)(x:Bx)(i u s t:β)(b:s5)(m:β)(B:ŏ)(v:f8)(a:β)(al:f8)(c:M):vs=[SY,AC,MH HG]->DQ (ww (AI (IT y3) H C e S f p r) x i u) b m B v->BB b->WR al->al∈l->B.O c->(∀D,D∈Ő q k->∀d,BH al->CU D.getD≠IG)->(∀n y z j,DQ (ww (AI (IT y3) n C e S f p r) y i u) b m z j->ė (m::x.ü) H n->Ix bV y->(∀d o,z.P d o->B.P d o/\¬(BH al/\o=c))->(∀d o,ZW v.getD o=Z->ZW j.getD o=Z)->A .Ť n)->AJ aav A G
def adj(a:Ĭ):iJ.P base 4 aav:=by
 calc iJ.ok ["self","alike","cell","digit"] aqk;let⟨h,i,j,k,C,l,S,m,n,o,p,q,r,s,t,u,x,y,A,B,D,G,H,J,I,L,N,O,b,e,a0,b0⟩:=g;have g:=JT L.T4.lt;have b:=L.cc.fM;calc ln λc0 d0 f0 g0 h0 i0 j0=>⟨_,η (aup (FN j0) (IW (MN Z3 i0 Cl (ε FC XM))))$ η (Ł (Ŵ (uh a) i0 Cl))$ IW$ MN D6 i0 FD QQ,?_⟩;walk_at "s";simp!;calc sw$ cD (xs:=Ě H) (dq O) (λk0 l0 m0=>X1 λn0=>A3 (l0=[AT C,f4$ .ref G,NQ (2^J),n0]) (NA r.ü m0)$ bg m0 r$ eZ B J$ H.take k0) ⟨none,I,RA,L.bd⟩ (λ k0 l0 m0 _⟨_,_,kk,_⟩=>dq$ ga kk (L.sp.na G N) O);rintro k0 v l0 m0 f f N ⟨n0,I,kk,o0⟩;have p0:=f.n;let⟨f,I⟩:=Ū N;have N:H.take (k0+1)=H.take k0++[H.getD k0 0]:=by rw[å,δ f,γ,δ f];rfl
 have r0:eZ B J (H.take (k0+1))=(eZ B J$ H.take k0).Uw (H.getD k0 0) (2^J):=by unfold eZ;rw[N,Þ];rfl
 rw[r0]at p0;have N:=(zn$ mr (c:=J) (al:=H.take k0)).1.wf.lp;have s0:=ga kk L.sp.nC L.ch.obj;have t0:=o0.obj;simp! [s0,t0,-U.ae];calc⟨r,_,H.getD k0 0,2^J,I,o0,by rw[N];calc g _$ getD_mem f,λg f N=>?_⟩;simp!;calc ga p0 ⟨_,I,λu0 v0 o0 w0=>ZP f o0$ ZP kk o0 w0,N⟩;rintro l0 x0 ⟨n0,I,kk,o0⟩;rw[Τ,Ò]at o0;let⟨y0,z0,A0,B0,C0,D0⟩:=zn (mr (c:=J) (al:=H));have s0:=ga kk L.sp.nC L.ch.obj;have t0:=o0.obj;simp! [s0,t0,-U.ae];have sC:PN (vq x0 r) i:=L.lo.step kk anh;calc⟨r,s,t,u,i,_,I,sC,o0,y0.wf,λg e b F0 f G0 st N=>?_⟩;have H0:∀I0,nQ h I0->(mR j I0↔mR (eZ B J H) I0):=λI0 B=>by rw[A0];refine⟨λz=>⟨(L.cc.J8 I0 B).J z,a0 I0$ Ŕ.Q ⟨B,z⟩⟩,λz=>(L.cc.J8 I0 B).Q Da⟩
 have i0:b=Z:=by cases b with
 |Z=>rfl
 |gl=>have:=(e4 L.lk st y0).2 I;exfalso;apply L.ne;refine wM λI0 B z=>this I0 B$ (H0 I0 B).J z
 subst i0;have H:=(e4 L.lk st y0).1 I;have J:DR$ ė r.ü:=λu0 v0 o0 w0=>ZP f o0$ ZP kk o0 w0;have b:bV d r e:=bV.trans (bV.refl d r) kk G0;have d:aat C S x A t y e:=L.sp.apd L.ch (CM L.se.obj) b;have J0:∀G,(G=C\/G=x\/G∈y\/G=A)->G∉r.ü:=λG O=>by rcases O with I|I|O|I;calc L.sp.nC;calc L.sp.nk;calc L.sp.na G O;exact L.sp.ns
 have K0:DZ (sA g C l S e.b) A j.ĵ k D:=by rw[G0.b];exact L.ch.ajY λG v0 O w0=>J G v0 (J0 G O) w0
 have G:o∉r.ü:=RK$ (L.bd.nk L.se.kn).1 o z;have O:SL$ FF$ t3 yX g S:=⟨QI L.sp.nS L.se.obj,QI G L.se.kn,L.se.ok⟩;have r:PN (vq g e) i:=sC.step f G0;have G:∀I0,nQ h I0->(mR j I0↔mR F0 I0):=λI0 B=>(H0 I0 B).trans$ H.J8 I0 B;have f:∀b0,F0.O b0->j.O b0:=λb0 z=>L.cc.oo b0 (by have:=H.oo b0 z;rw[ŏ.O,D0]at this;calc this);have M0:∀N0 b0,j.S N0 b0->F0.S N0 b0:=λN0 b0 z=>H.ss N0 b0 (by rw[ŏ.S,C0];calc L.cc.ss N0 b0 z);have O0:GH Ő=OM F0:=fx G;have P0:up (fB h) F0 k$ fA j.ĵ F0.Ú k D:=by calc L.cc.ae5 L.lk L.i0 L.T4 H.fM H.fin G f M0 (λw0 b0 z=>?_) (λw0 b0 z=>MV) H.fM.wf.bs;let⟨I0,B⟩:=Š _ L.ne;exact⟨I0,B,Ry L.lk.n.symm H.fM (by rw[<-O0];calc B) z⟩
 have B:=K0.obj;simp! [B];calc⟨C,l,S,e.b,x,A,y,j.ĵ,k,D,e,F0,I,K0,N,d.ns,λG f N0 B=>?_,λQ0 R0 S0=>?_⟩;have:=L.T4.lt G f N0 B;rw[L.cc.len,H.fM.wf.ls];calc⟨this,this⟩;have base:DZ (PN (SL (FF (KB (y3 h) g C l S)) e)) A F0 D->EQ:=λ_=>CA;have h:∀u0 v0,g u0=f4 v0->(∀i,v0≠.Ý i)->u0≠A:=λu0 v0 w0 l z=>by rw[z,K0.M5]at w0;exact l _ (Ü w0).symm
 calc b0 Q0 e F0 (fA j.ĵ F0.Ú k D) ⟨K0.aau R0 S0,N.T3 λu0 v0 o0 w0=>ZP R0 (λz=>by rw[z]at o0;calc o0.elim d.ns d.nw) w0,⟨⟨ga R0 (FZ (UP r.jf.obj)) r.jf.obj,ga R0 d.nu.symm r.jf.us,ga R0 (FZ (UP r.jf.ul)) r.jf.ul⟩,r.nL,r.nu,r.nd⟩,⟨ga R0 (FZ (UP O.obj)) O.obj,ga R0 (FZ (UP O.kn)) O.kn,O.ok⟩,d,P0,L.lk,L.i0,L.T4,L.ne⟩ (λu0 v0 o0 w0=>ZP R0 (λz=>o0 (by simp[z]))$ ZP J (λz=>o0$ BI z) w0) b (λN0 b0 z=>(B0 N0 b0).J$ H.pp N0 b0 z) λN0 b0 z=>(kC j.ĵ F0.Ú k D$ kD z).Q RR
end
section
variable {B0:ŏ} {p5:BA} {dd:β}
def y3.keep(b:y3 u l B0 N f D n B j H c q p5 s o i dd G e m p h)(g:∀k r,k≠c->f k=f4 r->a k=f4 r)(d:JD=f4 (.dT J))(ok:aT u l J):y3 u l B0 N a D n B j H c q J s o i dd G e m p h:=by have t:∀k r,f k=f4 r->(∀p5,r≠.dT p5)->a k=f4 r:=λk r v x=>g k r (λz=>by rw[z,b.se.kn]at v;calc x _ (Ü v).symm) v;calc⟨b.ch.ajY λy r A v=>?_,b.bd.T3 λk r L v=>?_,⟨⟨FZ$ MP b.lo.jf.obj,FZ$ MP b.lo.jf.us,FZ$ MP b.lo.jf.ul⟩,b.lo.nL,b.lo.nu,b.lo.nd⟩,⟨FZ$ MP b.se.obj,d,ok⟩,b.sp,b.cc,b.lk,b.i0,b.T4,b.ne⟩;rcases A with I|I|A|I;rw[b.ch.obj]at v;cases v;calc FZ$ MP b.ch.obj;rw[b.ch.kls]at v;cases v;calc FZ$ MP b.ch.kls;let⟨O,x⟩:=â.J A;let⟨y,_,k⟩:=Ā b.ch.ka x;rw[k]at v;cases v;calc FZ$ MP k;rw[b.ch.M5]at v;cases v;calc FZ$ MP b.ch.M5;let⟨r,O,A⟩:=b.bd.there L;rw[v]at O;cases O;calc MP v A
end
def bV.aaw{d e:Bx}(c:bV a s d)(b:∀h,hm (f h)->h∈s.ü\/hm (a h))(g:s3 (bV f)):bV a s e:=by calc⟨g.b.trans c.b,g.dx.trans c.dx,g.La.trans c.La,λh i=>?_,λh i=>?_⟩;rcases t3 g.ü with z|z;calc c.ü h z;calc b h z;rcases t3 g.ws with z|z|z;calc c.ws h z;calc .X$ c.ü h z;calc .X$ b h z
def x4{F:ŏ}(b:ú l F)(c:F.ĵ=0)(a:d<agr):IM (F.told l).getD=x+1↔F.S x d:=by
 have e:IM (F.told l).getD=F.at d+1:=by unfold ŏ.told;rw[ax,ii a]
 rw[e];rcases EK b.st with z|⟨f,z⟩;rw[ŏ.O,c]at z;simp at z;rw[uG b z];constructor;intro w;have:f=x:=gt
 rw[<-this];calc z;intro w;rw[AY b.sd z w]
end Sq
open Sq PySem L2 dO L3 in
local macro_rules | `(tactic| walk_at "fd") => `(tactic| first | exact sA.obj ‹_› | exact sA.M5 ‹_› | exact sA.kls ‹_› | exact yX.obj ‹_› | exact yX.kn ‹_›)
namespace Sq
open PySem L2 dO L3
variable{a:ř}{b m:Hp}{n:Bx}{c d e f h i l q s u v:β}{j:U}{o:Tx}{p:Tn}{x:æ}{y:AX Tn}{A:AX Tx}{B:Ž}{D:V}
inductive aax(vs:g3)(H:Hp)(A:VK)(D:XK):Prop|mk(q:æ)(L:Ž)(i:ŏ)(j:AU)(C d S e p k:β)(f:V)(r:BA)(x:Bx)(g u s t:β)(b:s5)(l:β)(B:ŏ)(v:f8)(a:β)(al:f8):vs=[SY,AC]->LB (DQ (up (IT y3) H C d S e p k f r x g u)) B v->BB b->WR al->al∈j->j_ i.ĵ<=90->(∀m y n c o,LB (DQ (up (IT y3) m C d S e p k f o y g u)) n c->ė (k::l::x.ü) H m->Ix bV y->(∀z h,n.P z h->B.P z h)->(∀z h,FO (v.getD z) h=Z->FO (c.getD z) h=Z)->(∀h,n.P (al.getD 0 0) h->FO (c.getD (al.getD 0 0)) h=Z)->A .Ť m)->AJ aax A D
def adk(b:Ĭ):f6.P a 95 aax:=by
 calc f6.ok ["self","alike","digit","left","cell","filled"] λd e f g h=>?_;let⟨i,j,k,l,C,m,S,n,o,p,q,r,s,t,u,v,x,y,A,B,D,G,H,I,J,N,O,d,f,f⟩:=h;have a0:=J.T4.ne H d;have b0:0<H.length:=U8 λz=>a0$ Ġ.J z;have c0:H.getD 0 0∈H:=getD_mem b0;have d0:=J.T4.lt H d _ c0;have f0:Eo (Ě H) 0=f4 (CK (H.getD 0 0)):=by rw[show jp 0=kw 0 from I,xD];exact Ė b0
 generalize g0:H.getD 0 0=h0 at c0 d0 f0 f|-;have i0:∀{j0:Hp}{k0:Bx}{l0:ŏ}{m0:f8}{n0:BA},DZ (EB (SL (KN y3 j0 C m S n) n0 k0) v) A l0 m0->h0<l0.ζ.length/\h0<m0.length:=λ{j0 k0 l0 m0 n0} h=>by rw[h.cc.fM.wf.lp,h.cc.len];exact⟨d0,d0⟩
 calc ln λh h h h h h o0=>⟨_,η (FT o0 (cB xC AG Φ))$ η (GX o0 (GC (cB xC (Ø Cl) BU) (PH (YW BU))))$ μ$ cL (ND FC Φ)$ η (OG o0 (RF (bD iC FC)))$ η (À 5 o0 (asG wg h Cl (ol (MK v8 h Cl (ZY (ol CV))))))$ η (ď (Ô vQ JM ŝ) (IW (MK adj h FD (VQ (ol CV)))) (IW (MK D6 h FD aqm)))$ μ$ GX o0$ GC (cB xC (Ø Cl) BU)$ PH$ YW BU,?_⟩;have h:=i0 J;have p0:=J.ch;have r0:=J.bd;walk_at "s";simp! [f0,Ė h.1,Ė h.2];calc dn (λh s0 j0=>X6 λk0 l0 m0 n0 t0 u0=>A7 (h=RQ (l0.ζ.getD h0) (m0.getD h0 0)) (s0=[AT C,f4$ .ref G,BJ h0,BJ$ RQ (l0.ζ.getD h0)$ m0.getD h0 0,t0,u0]) (DZ (EB (SL (KN y3 j0 C m S n) n0 k0) v) A l0 m0) (ė (p::A::s.ü) e j0) (bV e s k0) (∀h0 f,l0.P h0 f->B.P h0 f) (∀h0 f,UN (FO (D.getD h0))->UN (FO (m0.getD h0)))) _ ⟨s,B,D,r,none,none,I,I,J,RA,anh,YA,YA⟩ ?_;rintro h s0 r B kT D ⟨B,v0,w0,x0,t0,u0,I,I,y0,z0,A0,B0,C0⟩;generalize D0:RQ (v0.ζ.getD h0) (w0.getD h0 0)=F0 at kT D|-;by_cases G0:F0=0;subst G0;simp!;calc D _ ?_;simp!;calc f r B v0 w0 x0 y0 z0 A0 B0 C0 λD z=>?_;cases w:FO (w0.getD h0) D with
 |Z=>rfl
 |gl=>have:=LM (λh=>h.o D) D0;rw[ŏ.P]at z;simp only[í,z,w]at this;simp at this
 let⟨h,H0,I0,J0⟩:=dX G0;have K0:low F0=2^h:=J0;rw[<-D0,í,ξ]at H0;have M0:v0.P h0 h:=H0.1;have N0:pr$ FO (w0.getD h0) h:=by simpa using H0.2
 have O0:=y0.cc.fM;have P0:=O0.po h0 h M0;have Q0:=O0.pc M0;have R0:=y0.ch;have bd1:=y0.bd;have S0:=y0.se;simp! [G0];calc kT _ λg T0=>?_;simp! [Ts F0 G0,K0,-U.ae];calc⟨B,t,u,v,j,v0,h0,2^h,I,y0.lo.jf,bd1,O0.wf,d0,gk Q0,λU0 V0 W0 X0 Y0 Z0 a1=>?_⟩;let⟨b1,c1⟩:=fv J.lk O0 M0;have d1:j_ (v0.ù j h0 (2^h)).ĵ<=90:=by have e1:j_ (v0.ù j h0 (2^h)).ĵ<=j_ v0.ĵ:=oJ λf1 z=>((jZ (L:=j) h0 h f1).J z).1;have g1:j_ v0.ĵ<=j_ k.ĵ:=oJ y0.cc.oo;lia
 have h1:S∉V0.ü:=λz=>by have:=y0.se.obj;rw[DG Y0]at this;cases this
 have i1:EB (mN r V0.La) v j:=by rw[X0];exact y0.lo.jf
 have r:∀{j1:Hp}{k1:BA},ė (p::V0.ü) U0 j1->j1 p=f4 (.dT k1)->up aT k1->DZ (EB (SL (KN y3 j1 C m S n) k1 B) v) A v0 w0:=λ{j1 k1} l1 m1 n1=>y0.keep (λo1 p1 q1 r1=>l1 o1 p1 (λz=>by rcases MU with z|z;calc q1 z;rw[Y0 o1 z]at r1;cases r1)$ ga W0 r1) m1 n1;have s1:∀{j1:Hp},ė (p::V0.ü) U0 j1->ė (p::A::s.ü) e j1:=λ{j1} l1 o1 p1 q1 r1=>by have e1:=z0 o1 p1 q1 r1;exact l1 o1 p1 (λz=>by rcases MU with z|z;calc q1 (by simp[z]);rw[Y0 o1 z]at e1;cases e1)$ ga W0 e1
 have t1:∀{u1:Hp}{v1:Bx}{w1:ŏ}{x1:f8}{y1:BA}{z1:V},DZ (EB (SL (KN y3 u1 C m S n) y1 v1) v) A w1 x1->ė (p::A::s.ü) e u1->bV e s v1->(∀h0 f,w1.P h0 f->v0.P h0 f)->(∀h0 f,UN (FO (w0.getD h0))->UN (FO (x1.getD h0)))->(w1.P h0 h->FO (x1.getD h0) h=Z)->g.nx [AT C,f4$ .ref G,BJ h0,BJ$ RQ (w1.ζ.getD h0)$ x1.getD h0 0,NQ (2^h),f4 z1] u1:=λ{u1 v1 w1 x1 y1 z1} g f A1 B1 C1 D1=>by
  calc ga T0.n ⟨RQ (w1.ζ.getD h0)$ x1.getD h0 0,?_,v1,w1,x1,y1,_,_,I,I,g,f,A1,λr1 D z=>B0 r1 D$ B1 r1 D z,λr1 D z=>C1 r1 D$ C0 r1 D z⟩;rw[<-D0];calc sw$ Kp (c:=h) λD z=>?_;rw[í,ξ]at z|-;calc wn$ B1 h0 D Da;cases w:FO (w0.getD h0) D with
  |gl=>rfl
  |Z=>rw[C1 h0 D w]at z;simp at z
  rw[í,H0.1,N0];rfl;rw[í];cases w:FO (w1.ζ.getD h0) h with
  |gl=>rfl
  |Z=>rw[D1 w];rfl
 have g:=ga W0 y0.se.obj;simp!;calc⟨i,S,n,o,p,q,x0,V0,t,u,v,j,_,I,⟨ga W0 y0.se.obj,ga W0 y0.se.kn,y0.se.ok⟩,h1,vq.fresh i1 W0 Y0,a1,J.lk,b1,d1,λj1 g E1 k1 l1 F1 G1 m1 n1 H1 _=>?_,λj1 g E1 k1 z F l1 F1 G1 m1 n1 g g I1 J1 K1 L1 N1=>?_⟩;have O1:=r l1 m1 n1;have Q1:=O1.ch;simp! [-U.ae];have R1:∀r1,r1∈H-> ¬∃V0,V0∈Ő i k/\HV V0.getD=r1+1:=λ r1 S1⟨V0,a1,T1⟩=>by
  let⟨U1,V1,W1⟩:=tu J.lk J.i0 d0 (J.T4.lt H d r1 S1) (J.T4.eq H d h0 c0 r1 S1) (y0.cc.oo h P0) ⟨V0,a1,T1⟩;have Y1:Ő i k=Ő i v0:=fx y0.cc.J8;have Z1:U1∈Ő i (v0.ù j h0 (2^h)):=by rw[dw J.lk O0 M0,υ,IN,<-Y1];exact⟨V1,W1⟩
  rw[Ġ.J H1]at Z1;simp at Z1
 have a2:j1 G=BG (Ě H):=s1 l1 G _ (λz=>by rcases MU with z|z;have:=J.se.kn;rw[<-z,O]at this;cases this;rcases MU with z|z;calc J.ch.n2 (by rw[<-z];calc N);calc J.sp.na G N z) O;calc⟨i,j,k,l,C,m,S,n,o,p,q,k1,B,t,u,v,x,y,A,v0,w0,G,H,h,I,O1,N,a2,d,P0,λV0 a1 r1 S1 T1=>R1 r1 S1 ⟨V0,a1,T1⟩,λu1 v1 w1 x1 n f A1 B1 C1=>?_⟩;have o:=i0 n;have q:=n.ch;have t:=n.bd;simp! [Ė o.1,Ė o.2,-U.ae];calc t1 n (λo1 p1 q1 r1=>f o1 p1 RP$ s1 l1 o1 p1 q1 r1) (A0.aaw (λo1 r1=>?_) A1) (λr1 D z=>(B1 r1 D z).1) C1 λz=>DM (JA c0) (B1 h0 h z).2;rcases MU with z|z;calc q1 (by simp[z]);rcases A0.ü o1 z with w|w;calc q1 (by simp[w]);rw[w]at r1;cases r1;cases w:e o1 with
 |none=>calc Ps
 |some p1=>
  calc .D$ Κ λu=>?_;have:o1∉p::A::s.ü:=λz=>by rcases MU with z|z;rw[z,m1]at r1;cases r1;rcases MU with z|z;rw[z,O1.ch.M5]at r1;cases r1;exact u z
  rw[GE (s1 l1 o1 p1) w]at r1;cases r1
 have O1:=r l1 m1 n1;have Q1:=O1.ch;simp! [-U.ae];have v:A∉z.ü:=λw=>by have e1:=y0.ch.M5;rcases I1 A w with w|w;rw[Y0 _ w]at e1;cases e1;rw[ga W0 e1]at w;cases w
 have G:F.told j∈Ő i k/\HV (F.told j).getD=h0+1:=by have Y1:Ő i k=Ő i v0:=fx y0.cc.J8;rw[dw J.lk O0 M0,υ,IN,<-Y1]at N1;exact N1
 have N:F.S h0 h:=(x4 K1 L1 Q0).J G.2;calc⟨C,m,S,B.b,x,A,y,k.ĵ,l,w0,z,F,I,O1.ch,g,v,λO e r1 S1=>?_,λu1 f p=>?_⟩;have:=J.T4.lt O e r1 S1;rw[y0.cc.len,K1.wf.ls];calc⟨this,this⟩;have s:KB fB v0 l$ fA k.ĵ F.Ú l w0:=y0.cc.ae5 J.lk J.i0 J.T4 O0 y0.cc.fin y0.cc.J8 y0.cc.oo y0.cc.ss (λr1 D z=>⟨_,G.1,(x4 K1 L1$ K1.sc z).Q z⟩) (λr1 D z=>RR) K1.wf.bs;have n:=O1.aau f p s;have o:=i0 n;have q:=n.ch;have t:=n.bd;simp! [Ė o.1,Ė o.2,-U.ae];calc t1 n (λo1 p1 q1 r1=>f o1 p1 (λz=>q1 (by simp[z]))$ s1 l1 o1 p1 q1 r1) A0 (λr1 D z=>z) (λr1 D z=>(kC k.ĵ F.Ú l w0$ kD z).Q RR) λ_=>(kC k.ĵ F.Ú l w0 (i0 y0).2).Q$ .X ⟨H,d,c0,y0.cc.oo h P0,h0,c0,N⟩
def ė.step{O:s5}{a:Hp}{c:Bx}(d:ė (O++n.ü) b m)(e:bV b n c)(f:ė (O++c.ü) m a):sK$ ė (O++n.ü):=λg h i j=>ww f (λz=>by rcases Ι.J z with z|z;calc i$ Ι.Q RR;rcases e.ü g z with w|w;calc i$ Ι.Q$ .X w;rw[w]at j;cases j)$ up$ ww d
def ė.ajZ{O:s5}(c:ė (O++n.ü) b m)(d:∀a,BB O->m a≠none)(a:β)(e:hm (m a)):BB n.ü\/hm (b a):=by cases w:b a with
|none=>calc Ps
|some f=>calc .D$ Κ λg=>?_;have:=λz=>(Ι.J z).elim (λz=>d a z e) g;rw[GE (AR c) w]at e;cases e
inductive P6(vs:g3)(H:Hp)(v:VK)(D:XK):Prop|mk(q:æ)(L:Ž)(a:ŏ)(l:AU)(C b S c m h:β)(d:V)(n:BA)(x:Bx)(e u o p:β)(f:s5)(i:β)(B:ŏ)(s:f8):vs=[SY]->DF (BF (EF (IT y3) H C b S c m h d n x e u)) B s->j_ a.ĵ<=90->(∀j r t g k,DF (BF (EF (IT y3) j C b S c m h d k r e u)) t g->ė (h::i::x.ü) H j->Ix bV r->(∀y z,FO (g.getD y) z=Z↔∃A,(A∈Ő q a/\A.getD z 0=y+1))->v .Ť j)->AJ P6 v D
def aay(b:Ĭ):iK.P a 96 P6:=by
 calc iK.ok ["self","alike"] EO;let⟨h,i,j,k,C,l,S,m,n,o,p,q,r,s,t,u,x,y,A,B,D,I,G,H,J⟩:=g;have L:y.length=k.length:=by have:=Ñ G.ch.ka;rw[θ]at this;exact this
 calc ln λN c e g N c e=>⟨_,μ$ auc (Ψ 1 e)$ IW$ MK adk c FD$ ol AG,?_⟩;have g:=G.ch.obj;walk_at "s";simp!;calc sw$ cD (xs:=GG y.q) (dq G.ch.kls) (λN c e=>X5 λg a0 b0 c0 d0=>A5 (c=[AT C,g]) (DZ (PN (BF (FF (KB (y3 h) e C l S)) d0 a0)) A b0 c0) (s3 (ė (o::A::r.ü))) (bV d r a0) (∀d,BH (k.take N)-> ∀f0,b0.P (d.getD 0 0) f0->FO (c0.getD (d.getD 0 0)) f0=Z)) ⟨none,r,B,D,q,I,G,RA,anh,λd z=>by simp at z⟩ (λ N c e _⟨_,_,_,_,_,_,q,_,_,_⟩=>dq q.ch.kls);rintro N v c r f B D ⟨g,e,q,f,g0,I,h0,i0,j0,k0⟩;have l0:=B.n;let⟨d,I,B,m0,n0⟩:=dk.ajX h0.ch.ka D;have D:k.take (N+1)=k.take N++[k.getD N []]:=by rw[å,δ m0,γ,δ m0];rfl
 have o0:k.getD N []∈k:=by rw[γ,δ m0];exact Ö m0
 rw[D]at l0;generalize k.getD N []=N at n0 o0 l0;have D:=h0.ch.obj;simp!;calc⟨h,i,j,k,C,l,S,m,n,o,p,g0,e,s,t,u,x,y,A,q,f,d,N,I,h0,B,n0,o0,H,λh i j k l m n p s t u=>?_⟩;have x:∀y,y∈[o,A]->r y≠none:=λy H z=>by rcases ν.J H with w|w;rw[w,h0.se.kn]at z;cases z;rw[Θ.J w,h0.ch.M5]at z;cases z
 simp!;calc ga l0 ⟨_,i,j,k,l,I,m,ė.step (O:=[o,A]) i0 j0 n,j0.aaw (ė.ajZ (O:=[o,A]) i0 x) p,λy H f0 z=>?_⟩;rcases Ι.J H with H|H;calc MP$ k0 y H f0$ MZ z;rw[Θ]at H;subst H;calc u f0 z;rintro c r ⟨g,e,q,f,g0,I,h0,i0,j0,k0⟩;rw[θ,L,Ò]at k0;calc J r e q f g0 h0 i0 j0 λd f0=>h0.cc.done G.lk G.i0 G.T4 k0 d f0
inductive P7(vs:g3)(H:Hp)(r:VK)(s:XK):Prop|mk(q:æ)(L:Ž)(i:ŏ)(j:AU)(C b S c k l:β)(d:V)(e:BA)(x:Bx)(f u m n:β)(g:s5)(o:β)(B:ŏ)(h:f8):vs=[SY]->FF (s3 (AI (up (IT y3) H C b S c)) x f u) g o B h->(∀p a,IS (hm (H p)->a p=xL (BR ZM (λt=>lx h t L.n))->r (.ref p) a))->HX (AJ P7)
def aaz(b:Ĭ):gR.P a 2 P7:=by
 calc gR.ok ["self","size","cell"] EO;let⟨h,i,j,k,C,l,S,m,o,p,q,r,s,t,u,v,x,y,z,A,B,I,D,G⟩:=g;have H:jp i.n*jp i.n=kw SJ:=by rw[U.am]
 have J:i.n<=9:=D.cc.fM.wf.n9;have L:SJ<=81:=Ë J J;have N:=D.cc.len;calc ln λO c d e f h j=>⟨_,η (KW j (KK (Ø (Ø Cl)) (Ø (Ø Cl))))$ rc$ ID j (alt QK (ol AG)) (İ (ü:=[("cell",2)]) (by show EA (dj ["self","size","cell"] (ê (JU 3 5)));decide+AO)) (λ_ _ _ _ _=>IJ j) Tm λ_ _ _ _ _=>JE adi h$ ZT XM,?_⟩;have k:=D.ch.obj;have l:=D.bd.obj;have m:=D.lo.jf.obj;have o:l9 (jp i.n)$ jp i.n:=LV;walk_at "s";simp! [H,-U.am];calc sw$ lcN (n:=SJ) (by show BC;lia) KY λp=>CK$ lx B p i.n;intro q r s t u v x y;have A:=MP k;walk_at "w";simp!;calc⟨z,B,q,I,MP D.ch.M5,gt,gt,λg J=>?_⟩;rw[N];calc x I _ J;intro L r O t c;rw[CZ]at c;calc G L r t O ?_;rw[c,ľ,Χ];rfl
section
variable{base:ř}
inductive P8(vs:g3)(H:Hp)(v:VK)(y:XK):Prop|mk(q:æ)(L:Ž)(W h S i o l:β)(j:V)(f k u p tl:β)(r:BA)(a:U)(b:AX Tx)(c:AX Tn)(x:Bx)(B:ŏ):vs=[wp W,JP]->EE (IT m6 H W h S i o l j f k u p tl r)->VJ (x.La=f->VS ú->Ő q B≠[]->(∀t,t∈b->TU t.un/\t.un∉x.ws)->TU tl->tl∉x.ws->c.length+j_ B.ĵ<=90->(∀g s F d e m,PQ (IT m6 g W h S i o l j f k u p tl m)->bg g s F->s.La=f->ú L F->F.ĵ=0->Ő q B++IT ų c=F.told L::IT ų e->ė [l,tl] H g->(∀n,n∈d->n∈b\/hm (H n.un))->(∀n,n∈s.ü->n∈x.ü\/hm (H n))->v (wp s.b) g)->AJ P8 v y)
def aaA(b:Ĭ):gU.P base 95 P8:=by
 calc gU.ok ["self","board","turn"] EO;let⟨h,j,W,k,S,l,m,o,p,q,r,s,t,u,v,x,y,A,B,D,I,G,H,J,N,O,c,e,a0,b0,c0⟩:=g;have g:=G.lk;calc ln λd0 f0 g0 h0 i0 j0 k0=>⟨_,η (cL (ND (Ø IC) Φ) (η (FT k0 (gQ (aam b) j0 (ol IC))) (η (Ł (TX MR (ol LK))) (η (KW k0 (Ŵ (D5 b) j0 LK)) (μ (cL (ZS (asG lr j0 MR (ε IC (ol Φ))) Φ) (μ (KW k0 (Ŵ (D5 b) j0 LK)))))))))$ rc IC,?_⟩;simp only[Mh];calc dn (λl0 m0 n0=>X6 λo0 p0 r0 s0 t0 u0=>A15 (l0=j_ p0.ĵ) (m0=[AT W,AT o0.b,u0]) (OY (atQ (GH m6 n0) t0 x)) (bg n0 o0 p0) (o0.La=q) (ú j p0) (OM p0≠[]) (∀v0,v0∈r0->v0.un∉o0.ü/\v0.un∉o0.ws) (u∉o0.ü) (u∉o0.ws) (s0.length+j_ p0.ĵ<=90) (auL=OM p0++GH ų s0) (NA [o,u] n0) (∀w0,w0∈r0->w0∈y\/hm (d w0.un)) (∀w0,w0∈o0.ü->w0∈B.ü\/hm (d w0))) _ ⟨B,D,y,A,v,none,I,I,G,H,J,N,O,c,e,a0,b0,I,RA,λw0 v=>.D v,λw0 v=>.D v⟩ ?_;rintro l0 m0 y B kT G ⟨H,J,N,O,c,u0,I,I,e,B,x0,y0,z0,A0,B0,C0,D0,F0,G0,H0,I0⟩;have J0:=B.obj;by_cases K0:J.ĵ=0;simp! [K0];calc G _ ?_;simp!;calc AH (c0 y H J N O) B x0 y0 K0 ?_ G0 H0 I0;rw[F0,s9 g y0 K0];rfl;simp! [K0];let⟨G,c,M0,N0⟩:=K6 K0;let⟨O0,P0⟩:=Wd g y0 M0 N0;calc kT _ λf f=>?_;simp!;intro Q0 R0 S0 T0 U0;have V0:H.b≠Q0:=ρ J0 S0;have W0:Μ y$ ø (ø y R0 (.ü Q0)) Q0$ DW CT R0 []:=(NO T0).trans$ NO$ DK (Ne.symm U0) S0;calc⟨Q0,R0,H,J,G,I,Α,B.same W0,V0.symm,by rw[y0.wf.lp];calc y0.wf.n9,K0,c,λun c X0 Y0 Z0 a1=>?_⟩;have b1:Μ y c:=λv0 c1 d1=>X0 v0 c1 (ρ d1 S0)$ ga W0 d1;have e1:hm$ y un:=W0.free Y0;have y:=e.same b1;have f1:=B.same b1;have g1:=y.wo;have h1:=y.M3;simp!;have i1:N.length=O.length:=Ñ e.st;calc wn (by show BC;lia);have j1:∀v0,v0∈H.ü\/v0∈H.ws->v0≠un:=λv0 k1 z=>by let⟨c1,d1,_⟩:=B.there k1;rw[z,e1]at d1;cases d1
 have B:u≠Q0:=ρ e.M3 S0;have l1:=y.push (a:=⟨Q0,R0,un,H⟩) (n:=⟨J,G,J.aV (2^G)⟩) ⟨a1,Z0,f1,x0⟩ O0 (λv0 k1=>⟨(A0 v0 k1).1,(A0 v0 k1).2,λz=>e.uk e1$ hZ k1 z⟩) ⟨RK$ j1 _ RR,RK$ j1 _ MV⟩ (λz=>by have:=e.la.us;rw[<-z,e1]at this;cases this) (λz=>by simp only[Tx.fp,ν,Ι]at z;rcases z with z|z|z|z;calc B z;calc ρ e.M3 e1 z;calc B0 z;calc C0 z) D0;have y:(N++[(⟨Q0,R0,un,H⟩:Tx)]).q (λw0=>SQ w0.t)=N.q (λw0=>SQ w0.t)++[V.ref Q0]:=by rw[Æ];rfl
 rw[y]at l1;have y:∀v0 c1,v0≠u->c v0=f4 c1->at3 [V.ref Q0] v0=f4 c1:=λv0 c1 k1 d1=>DK k1 d1;have m1:NA [o,u]$ at3 [V.ref Q0]:=λv0 c1 k1 d1=>y v0 c1 (λz=>k1 (by simp[z]))$ ga b1$ G0 v0 c1 k1 d1;have n1:bg (at3 [V.ref Q0]) H J:=f1.ac3 B0 C0;have o1:=UL B.symm a1;have B:=y un _ (λz=>ρ e.M3 e1 z.symm) Z0;generalize at3 [V.ref Q0]=c at l1 y m1 n1 o1 B|-;simp!;let⟨y,c,p1⟩:∃y c,J.aV (2^G)=y::c:=by cases d1:J.aV (2^G)with
 |nil=>rw[P0,d1,Tn.w4]at z0;calc QV z0
 |cons y c=>exact⟨y,c,I⟩
 rw[p1]at l1 B O0 P0;have q1:(⟨Q0,R0,un,H⟩:Tx)∈N++[(⟨Q0,R0,un,H⟩:Tx)]:=mo
 have r1:=s4$ O0.ok y;have s1:auL=OM (J.ù j y (2^G))++(GH Tn.b4 ⟨J,G,c⟩++GH ų O):=by rw[F0,P0,Tn.o3,Ĝ]
 have t1:OM (J.ù j y (2^G))++GH Tn.b4 ⟨J,G,c⟩≠[]:=by rw[<-Tn.o3,<-P0];exact z0
 have u1:∀v1,J.P v1 G->j_ arY.ĵ<j_ J.ĵ:=λv1 w1=>by calc Dv (L:=j) (Ä y0.wf.bo (Uf y0.wf.nn)) (λx1 z=>((jZ (L:=j) v1 G x1).J z).1) (ga y0.po w1) ?_;cases z:arY.ĵ.testBit G with
 |gl=>rfl
 |Z=>exact QV ((jZ (L:=j) v1 G G).J z).2
 have y1:∀{z1:Hp}{v0:β}{A1:BA}{B1:AX Tx}{C1:AX Tn},atQ (GH m6 z1) A1 x B1 C1->NA [o,u] z1->hm (z1 v0)->hm (d v0):=λ{z1 v0 A1 B1 C1} D1 kk k1=>by cases d1:d v0 with
 |none=>rfl
 |some c1=>by_cases z:v0∈[o,u];simp only[ν,ã,GS]at z;rcases z with z|z;rw[z,D1.se.kn]at k1;cases k1;rw[z,D1.M3]at k1;cases k1;rw[kk v0 c1 z d1]at k1;cases k1
 calc⟨Q0,R0,un,H,r,s,t,j,J,G,y,c,I,o1,B,by rw[x0];calc l1.la,n1,y0.wf,y0.pd r1,y0.pc r1,(ZA$ ZA l1.m7.ub).1,(ZA$ ZA l1.m7.ub).2,ZA l1.m7.ul,λz1 B y c E1 F1 G1 H1=>?_⟩;have I1:=l1.aap y c;let⟨J1,K1⟩:∃J1:MJ,J1= λl0 m0 n0=>X4 (λ(B:Bx) p0 L1 t0=>A15 (l0=L1.length) (m0=[AT W,AT B.b,AT Q0]) (atQ (GH m6 n0) t0 x (N++[⟨Q0,R0,un,H⟩]) (O++[⟨J,G,L1⟩])) (bg n0 B p0) (B.La=q) (DQ (vq n0 B r) j) (ú j p0) (j_ p0.ĵ<j_ J.ĵ) (∀v0,v0∈B.ü->v0∉PN (oN W S q) (N++[⟨Q0,R0,un,H⟩])) (∀v0,v0∈N++[(⟨Q0,R0,un,H⟩:Tx)]->v0.un∉B.ws) (u∉B.ws) (auL=OM p0++(GH Tn.b4 ⟨J,G,L1⟩++GH ų O)) (OM p0++GH Tn.b4 ⟨J,G,L1⟩≠[]) (NA [o,u] n0) (∀w0,w0∈B.ü->hm (d w0))):=EJ;have N1:hm$ d un:=y1 e G0 e1;have O1:un≠u:=λz=>ρ e.M3 e1 z.symm;have e:∀{Q1 z1:Hp}{B:Bx}{v1:M}{L1:f8}{R1:BA},atQ (GH m6 Q1) R1 x (N++[⟨Q0,R0,un,H⟩]) (O++[⟨J,G,v1::L1⟩])->NA [o,u] Q1->J.P v1 G->(∀v0 c1,v0≠un->Q1 v0=f4 c1->z1 v0=f4 c1)->z1 un=xL L1->B.La=H.La->(∀w0,w0∈B.ü->hm (Q1 w0))->(∀w0,w0∈B.ws->w0∈H.ws\/hm (Q1 w0))->bg z1 B arY->auL=OM arY++(GH Tn.b4 ⟨J,G,L1⟩++GH ų O)->OM arY++GH Tn.b4 ⟨J,G,L1⟩≠[]->J1 L1.length [AT W,AT B.b,AT Q0] z1:=by intro Q1 z1 B v1 L1 R1 k x w1 y c E1 F1 G1 H1 A D;have I1:=k.aap y c;have S1:∀v0,v0∈B.ü->v0∉PN (oN W S q) (N++[⟨Q0,R0,un,H⟩]):=λv0 k1=>k.uk$ F1 v0 k1;rw[K1];calc⟨B,_,L1,R1,I,I,I1,H1,by rw[E1,x0],?_,(fv g y0 w1).1,u1 v1 w1,S1,λv0 k1 z=>?_,RP,A,D,λv0 c1 k1 d1=>?_,λw0 v=>y1 k x$ F1 w0 v⟩;calc⟨by rw[E1,x0];calc I1.la,λz=>DG S1 ?_,(λz=>DG S1 (by simp[oN])),λz=>DG S1 (by simp[oN])⟩;rw[E1,x0];simp[oN];rcases DG G1 with w|w;calc(ZA$ k.m7.ub v0 k1).2 w;calc k.uk w$ hZ k1 (by simp[Tx.fp]);rcases DG G1 with w|w;calc C0 w;calc k.uk w (by simp[oN]);exact y v0 c1 (λz=>by rw[z,N1]at d1;cases d1)$ x v0 c1 k1 d1
 simp!;calc dn J1 _ (e l1 m1 r1 y c E1 F1 G1 H1 s1 t1) ?_;intro l0 m0 B y c k x;rw[K1]at x;let⟨A,D,B,y,I,I,T1,U1,V1,W1,Y1,Z1,a2,b2,c2,d2,e2,f2,g2⟩:=x;have x:=T1.se.obj;have x:=T1.wo;simp!;have x:S∉A.ü:=λz=>DG a2 (by simp[oN]);calc⟨h,S,l,m,o,p,y,A,r,s,t,j,D,1,I,T1.se,x,W1,U1,g,Y1,DU,gt,λl m p g A y x h2 i2 j2 k2 l2 m2=>?_⟩;have n2:=T1.keep (λv0 c1 k1 d1=>y v0 c1 (λz=>by rcases MU with z|z;rw[z]at k1;calc T1.nkd k1;calc a2 v0 z k1) d1) i2 j2;have o2:NA [o,u] l:=λv0 c1 k1 d1=>y v0 c1 (λz=>by rcases MU with z|z;calc k1 (by simp[z]);rw[g2 v0 z]at d1;cases d1)$ f2 v0 c1 k1 d1;by_cases d:A=0;subst d;have o:d3 h D=0:=(CD m2).symm;have l:OM D=[]:=Ġ.J o;rw[l,ag]at d2 e2;let⟨y,o,I⟩:∃y o,B=y::o:=by cases B with
 |nil=>rw[Tn.w4]at e2;calc QV e2
 |cons w0 v0=>exact⟨w0,v0,I⟩
 simp!;calc c _ λl c=>?_;let⟨l,p2,q2⟩:=s4 (Ā n2.st (i:=N.length) (a:=⟨Q0,R0,un,H⟩));have r2:l=⟨J,G,y::o⟩:=by rw[i1]at p2;simpa using p2.symm
 subst r2;have l:=s4$ n2.ok ⟨J,G,y::o⟩;have s2:=s4$ l.ok y;rw[Tn.o3]at d2 e2;have l:=q2.obj;simp!;calc⟨Q0,R0,un,H,r,s,t,j,J,G,y,o,I,q2.obj,q2.un,by rw[x0];calc n2.la,q2.bd,y0.wf,y0.pd s2,y0.pc s2,(ZA$ ZA n2.m7.ub).1,(ZA$ ZA n2.m7.ub).2,ZA n2.m7.ul,λj r y l j r t2 u2=>?_⟩;simp!;calc ga c.n ⟨o.length,mo,e n2 o2 s2 y l j r t2 u2 (by rw[d2,Ĝ]) e2⟩;have e:jp A≠0:=gt
 simp! [d];calc k _ ?_;have o:d3 h D≠0:=gt
 have c:=k2.a1 o;have y:OM D=OM p:=fx c.J8;have l:j_ p.ĵ<=j_ D.ĵ:=oJ c.oo;have j:∀v0,v0∈m.ü->v0∉PN (oN W S q) (N++[⟨Q0,R0,un,H⟩]):=λv0 k1=>(x.ü v0 k1).elim (a2 v0) λd1=>T1.uk d1;calc ga f.n ⟨j_ p.ĵ,gt,m,p,N++[⟨Q0,R0,un,H⟩],O++[⟨J,G,B⟩],g,_,I,by rw[x.b],n2,h2,by rw[x.La];calc V1,c.fM,?_,λv0 k1=>⟨(λz=>DG j$ hZ k1 (by simp[Tx.fp])),RP⟩,(λz=>DG j (by simp[oN])),RP,?_,?_,o2,λw0 v=>?_,λw0 v=>?_⟩;rw[<-y];calc λz=>o (by unfold d3;rw[z];rfl);rcases DG x.ws with w|w|w;calc b2 v0 k1 w;calc a2 _ w$ hZ k1 (by simp[Tx.fp]);calc T1.uk w$ hZ k1 (by simp[Tx.fp]);rcases DG x.ws with w|w|w;calc c2 w;calc a2 _ w (by simp[oN]);calc T1.uk w (by simp[oN]);rw[π];simp;lia;rw[d2,y,jo];rcases Ι.J v with z|z;calc H0 w0 z;right;rw[Θ.J z];calc N1;right;rcases x.ü w0 v with z|z;calc g2 w0 z;calc y1 T1 f2 z
end
def P9{S C:β}{z:U}{fs:ES}(i:Db=f4 (DW CW e (ZX z f)))(a:Fk=JX (DH h))(g:hm (fs.E (FP "ahead"))):d≠c:=λj=>by rw[j,i]at a;have:=Ü a;injection this with _ _ e2;rw[<-e2]at g;cases g
def pfx{c d:Type}{R:c->Ch d}{e:c}{f:d}:∀{a:List c}{b:List d},bq R (a++[e]) (b++[f])->asM->io (bq R)/\py R
 |[],[],g,_=>by cases g with
  |cons h i=>calc⟨.nil,h⟩
 |[],_::_,_,j=>by simp at j
 |_::_,[],_,j=>by simp at j
 |k::a,l::b,g,j=>by cases g with
  |cons h i=>let⟨m,n⟩:=pfx i and;calc⟨No .cons,n⟩
section
variable {p5:BA}
def pG.nW(g:BF (pG b h))(k:Db=f4 (DW CW d (D4 e j f)))(a:i∈o.fp):i≠c:=by have l:∀{i:β}{m:g3},b i=f4 (.Ý m)->i≠c:=λn=>AF$ đ n k;simp only[Tx.fp,ν,Ι]at a;rcases a with I|I|a|a;calc P9 k g.obj I;calc l g.un;simp only[Bx.ü,ν,ã,GS]at a;rcases a with I|I|I|I|I;calc P9 k g.bd.obj I;calc l g.bd.pl;calc l g.bd.wt;calc l g.bd.st;calc l g.bd.ck;let⟨q,r⟩:=â.J a;let⟨s,_,t⟩:=Ā g.bd.wl r;calc l t
def m6.aj0(a:s3 (lf (m6 x B)) i u l D s q h v f p5 j A y)(z:U):s3 (m6 x B (UR (DW CW d (D4 e z f))) c) i u l D s q h v f p5 z A y:=by have g:∀k m,k≠c->b k=f4 m->UR (DW CW d (D4 e z f)) k=f4 m:=λk m n o=>(ω n).trans o;calc⟨Α,⟨GK (P9 a.wo a.se.obj I) a.se.obj,GK (AF (đ a.se.kn a.wo)) a.se.kn,a.se.ok⟩,⟨GK (P9 a.wo a.la.obj I) a.la.obj,GK (AF (đ a.la.us a.wo)) a.la.us,GK (AF (đ a.la.ul a.wo)) a.la.ul⟩,GK (AF (đ a.M3 a.wo)) a.M3,(sy a.st λp r k m n o=>by let⟨t,_,G⟩:=M4 a.st r;calc g k m (G.nW a.wo n) o),a.ok,a.m7,a.lk,a.dp⟩
def m6.drop(a:IQ (m6 x B b q h l e u f D s i d) p5 j (A++[o]) (y++[p])):IQ (m6 x B (UR (AQ (A.q (λo=>SQ o.t)))) q h l e u f D s i d) p5 j A y:=by
 have g:A.length=y.length:=by have:=Ñ a.st;simpa using this
 have k:=(pfx a.st g).1;have m:∀n r,n≠c->b n=f4 r->UR (AQ (A.q (λo=>SQ o.t))) n=f4 r:=λn r t G=>(ω t).trans G;have H:∀n r,b n=f4 r->(∀J,r≠.Ý J)->n≠c:=λn r G L z=>by rw[z,a.M3]at G;exact L _ (Ü G).symm
 have sub:∀n,n∈A->n∈A++[o]:=λn t=>Ι.Q$ .D t;calc⟨NC (FZ (LT a.wo)) a.wo,⟨NC (FZ (LT a.se.obj)) a.se.obj,NC (FZ (LT a.se.kn)) a.se.kn,a.se.ok⟩,⟨NC (FZ (LT a.la.obj)) a.la.obj,NC a.m7.lu.symm a.la.us,NC (FZ (LT a.la.ul)) a.la.ul⟩,Α,sy k λn t N r O G=>m N r (λz=>a.m7.tt n (sub n t) (by rw[<-z];calc O)) G,λg J=>a.ok g$ Ι.Q$ .D J,⟨?_,λn t N O=>a.m7.ub n (sub n t) N$ sub N O,λn t=>a.m7.ul n$ sub n t,λn t=>a.m7.tt n$ sub n t,a.m7.lu⟩,a.lk,λk H L=>?_⟩;have:=a.m7.nd;rw[Æ]at this;calc(GE ŷ.J).1;calc a.dp k H ?_;rw[Ņ (φ.J L).1];calc L
end
inductive P_(vs:g3)(H:Hp)(v:VK)(z:XK):Prop|mk(q:æ)(L:Ž)(W j S k r i:β)(l:V)(n m u s tl:β)(t:BA)(a:M)(g:AX Tx)(h:AX Tn):vs=[wp W]->ww (IT m6 H W j S k r i l n m u s tl t (a:M))->(∀d b,d i=f4 (.dT b)->IT aT b->hm (IT ų h)[a]? ->ė (i::tl::W::g.q Tx.un) H d->v .Ť d)->(∀d o p(e:M) f c b,KL (IT m6 d W j S k r i l n m u s tl b (e:M))->BF (bg d)->o.La=n->ú L p->Ő q p≠[]->(∀x,x∈f->x.un∉o.ü/\x.un∉o.ws)->tl∉o.ü->tl∉o.ws->c.length+j_ p.ĵ<=90->(IT ų h)[a]? =(Ő q p++IT ų c)[e]? ->(Ő q p++IT ų c).length<=(IT ų h).length->ė (i::tl::W::g.q Tx.un) H d->(∀y,y∈f->y∈g)->v (wp o.b) d)->AJ P_ v z
def aaB(G0:Ĭ):r4.P a 95 P_:=by
 calc r4.ok ["self","turn","board","many"] λn2 L1 y2 o2 p2=>?_;let⟨B,o,W,J0,S,k0,U0,J,l0,m0,D,V0,N,p,b1,x,r,G,I,c1,Q1,R1⟩:=p2;have d1:=c1.lk;calc ln λz2 e2 B2 N1 q2 e1 W0=>⟨_,adP$ cL (Ô xm (amu (bu G0) (ol MR)) Φ)$ η (KW W0 (cB xC MR (bD iC Φ)))$ η (cL (Ô xm (amu (bu G0) (ol (Ø IC))) Φ) (η (FT W0 (Ŵ (D5 G0) e1 IC)) (η (GX W0 (Ľ (lr G0 90) e1 MR (ε LK (ol (WF MR Φ))))) (ER (ď (Ô xm OK MR) (rc LK)) (μ (r6 JF OK Oe))))))$ IW$ agf è Ek El afB MR,?_⟩;simp only[Mh];calc dn (λf1 n0 o0=>X7 (λ O a0 b0(h:M) g1 p0 r0=>A7 (f1=O.length) (n0=[AT W,g1,p0,r0]) (m6 B o o0 W J0 S k0 U0 J l0 m0 D V0 N p b0 (h:M) O a0) ((aqc G)[x]? =(aqc a0)[h]?) ((aqc a0).length<=(aqc G).length) (atU o0) (∀g,g∈O->g∈r))) _ ⟨r,G,b1,x,none,none,none,I,I,c1,I,AK,RA,λg S1=>S1⟩ ?_;rintro f1 n0 T1 r2 kT U1 ⟨s0,y,t0,u0,g1,p0,r0,I,I,k,v0,K0,M0,d0⟩;have q:s0.length=y.length:=Ñ k.st;have f2:=k.wo;have X0:=k.M3;rcases oS s0 with I|⟨c,g,I⟩;have:y=[]:=Ġ.J q.symm;subst this;simp!;calc U1 _ ?_;simp!;calc Q1 T1 t0 k.se.kn k.se.ok (by rw[v0];rfl) M0;rw[oT]at k d0 q kT X0;let⟨e,h1,I⟩:∃e h1,y=e++[h1]:=by rcases oS y with I|⟨e,h1,I⟩;simp at q;exact⟨e,h1,by rw[oT]⟩
 let⟨i,A,w0⟩:=h1;have N0:c.length=e.length:=by simpa using q
 have H0:Eo (apX [g]) (-1)=f4 (SQ g.t):=by
  have V1:Gn (apX [g]).length (-1)=f4 c.length:=by unfold Gn;rw[θ,π];simp;lia
  unfold Eo;rw[V1];simp
 have i1:0<(apX [g]).length:=mo
 simp! [i1,-Æ,-θ];calc kT _ λo2 j1=>?_;simp! [H0,-Æ];have m:g∈c++[g]:=mo
 rw[jo]at v0 K0;let⟨W1,k1⟩:=pfx k.st N0;have f0:g.x.La=m0:=k1.la;have s:ú o i:=(s4$ k.ok ⟨i,A,w0⟩).fM;have Y1:e.length+j_ i.ĵ<=90:=s4$ k.dp e.length ⟨i,A,w0⟩;calc dn (λf1 n0 o0=>X5 (λ t b0(h:M) p0 r0=>A6 (f1=t.length) (n0=[AT W,AT g.t,p0,r0]) (m6 B o o0 W J0 S k0 U0 J l0 m0 D V0 N p b0 (h:M) (c++[g]) (e++[⟨i,A,t⟩])) ((aqc G)[x]? =(Tn.b4 B o ⟨i,A,t⟩++aqc e)[h]?) ((Tn.b4 B o ⟨i,A,t⟩++aqc e).length<=(aqc G).length)$ atU o0)) _ ⟨w0,t0,u0,p0,r0,I,I,k,v0,K0,M0⟩ ?_;rintro f1 n0 s2 g2 l1 m1 ⟨n1,x0,b,t2,u2,I,I,f,H,u,y0⟩;let⟨_,v⟩:=pfx f.st N0;have h2:=v.obj;have o1:=v.un;have i2:=f.wo;have Z1:=f.M3;cases n1 with
 |nil=>
  have e0:Ě []=[]:=I;rw[e0]at o1;simp!;calc m1 _ ?_;have p1:(apX [g])[(apX [g]).length-1]? =f4 (SQ g.t):=mo
  have I0:(apX [g]).dropLast=f3 (λg=>SQ g.t) c:=mo
  simp! [I0,-Æ];have q1:=f.drop;rw[Tn.w4,ag]at H u;calc ga j1.n ⟨c.length,mo,c,e,x0,b,_,_,_,I,I,q1,H,u,λj h0 d i0=>by rw[ω λz=>d (by simp[z])];calc y0 j h0 d i0,λj d=>d0 j$ Ι.Q$ .D d⟩
 |cons j0 t=>
  have r1:=s4$ f.ok ⟨i,A,j0::t⟩;have g0:=s4$ r1.ok j0;have s1:0<(Ě (j0::t)).length:=by rw[Τ];simp
  simp! [s1,-Τ];calc l1 _ λv2 O0=>?_;simp!;calc⟨g.t,g.tdx,g.un,g.x,D,V0,N,o,i,A,j0,t,I,v.obj,v.un,by rw[f0];calc f.la,v.bd,s.wf,s.pd g0,s.pc g0,(f.m7.ub _ m _ m).1,(f.m7.ub _ m _ m).2,f.m7.ul _ m,λt1 u1 v1 a2 Y0 w1 x1 b2=>?_⟩;have l:=f.aap v1 a2;have n:∀j,j∈u1.ü->j∉oN W S m0 V0 N p (c++[g]):=λj d=>f.uk$ w1 j d;have y1:∀j,j∈c++[g]->j.un∉u1.ws:=λj d z=>by rcases DG x1 with w|w;calc(f.m7.ub j d _ m).2 w;exact f.uk w$ hZ d (by simp[Tx.fp])
  have z1:p∉u1.ws:=λz=>by rcases DG x1 with w|w;calc f.m7.tt g m (by simp[Tx.fp,w]);exact f.uk w (by simp[oN])
  have A1:vq t1 u1 D V0 N o:=by calc⟨by rw[Y0,f0];calc l.la,λz=>DG n ?_,(λz=>DG n (by simp[oN])),λz=>DG n (by simp[oN])⟩;rw[Y0,f0];simp[oN]
  have B1:g.un∈r.q Tx.un:=χ.Q ⟨g,d0 g m,I⟩;have C1:atU t1:=λj h0 d i0=>v1 j h0 (λz=>d (by rw[z];simp only[ν];calc .X$ OX B1))$ y0 j h0 d i0;have c2:j_ ap2.ĵ<j_ i.ĵ:=by calc Dv (L:=o) (Ä s.wf.bo (Uf s.wf.nn)) (λw2 z=>((jZ (L:=o) j0 A w2).J z).1) (ga s.po g0) ?_;cases z:ap2.ĵ.testBit A with
  |gl=>rfl
  |Z=>exact QV ((jZ (L:=o) j0 A A).J z).2
  have j2:=l.wo;have k2:=l.se.obj;simp!;calc⟨B,S,k0,U0,J,l0,x0,u1,D,V0,N,o,_,GI+1,I,l.se,(λz=>DG n (by simp[oN])),A1,b2,d1,(fv d1 s g0).1,gt,gt,λD1 E1 Z0 z0 P0 F1 A0 d2 G1 H1 I1 l2 J1=>?_⟩;have B0:=l.keep (λj h0 d i0=>F1 j h0 (λz=>by rcases MU with z|z;rw[z]at d;calc l.nkd d;calc n j z d) i0) G1 H1;have Q0:atU D1:=λj h0 d i0=>F1 j h0 (λz=>by rcases MU with z|z;calc d (by simp[z]);have:=w1 j z;rw[y0 j h0 d i0]at this;cases this)$ C1 j h0 d i0;rw[Tn.o3,Ĝ]at H u;have m2:=B0.wo;by_cases C0:GI<jp P0;simp! [C0];have R0:d3 B ap2≠0:=gt
  have D0:=I1.a1 R0;have c0:Ő B ap2=Ő B Z0:=fx D0.J8;have O1:j_ Z0.ĵ<=j_ ap2.ĵ:=oJ D0.oo;have F0:∀j,j∈E1.ü->j∉oN W S m0 V0 N p (c++[g]):=λj d=>(A0.ü j d).elim (n j) λi0=>l.uk i0;have S0:=R1 D1 E1 Z0 b (c++[g]) (e++[⟨i,A,t⟩]) z0 B0 d2 (by rw[A0.La,Y0,f0]) D0.fM (by rw[<-c0];calc λz=>R0 (by unfold d3;rw[z];rfl)) (λj d=>⟨(λz=>DG F0$ hZ d (by simp[Tx.fp])),λz=>by rcases DG A0.ws with w|w|w;calc y1 j d w;calc n _ w$ hZ d (by simp[Tx.fp]);calc l.uk w$ hZ d (by simp[Tx.fp])⟩) (λz=>DG F0 (by simp[oN])) (λz=>by rcases DG A0.ws with w|w|w;calc z1 w;calc n _ w (by simp[oN]);calc l.uk w (by simp[oN])) (by rw[π];simp;lia) (by rw[H,c0,jo]) (by rw[jo,<-c0];calc u) Q0 d0;rw[A0.b]at S0;calc ga O0.r$ ga j1.r S0;have T0:P0=d3 B ap2:=im J1;have K1:=B0.aj0$ kw (b-P0);have a1:aM (Ρ "ahead") (FL (GI-jp P0)) (ZX (b:M) p)=ZX (kw (b-P0)) p:=by rw[show GI-jp P0=kw (b-P0)by lia];rfl
  have x2:Id (ZX (b:M) p).length:=by show Id 3;decide
  simp! [C0,a1];calc ga O0.n ⟨t.length,mo,t,z0,b-P0,_,_,I,I,K1,?_,?_,λj h0 d i0=>?_⟩;rw[H,Ű (by unfold d3 at T0;lia),T0];rfl;rw[π]at u;lia;rw[ω λz=>d (by simp[z])];calc Q0 j h0 d i0
inductive x5(vs:g3)(H:Hp)(j:VK)(m:XK):Prop|mk(q:æ)(S f k d:β)(g:V)(h:BA)(x:Bx)(e u i:β)(L:Ž)(B:ŏ)(a:M):vs=[QT,JP,AD a]->ww (IT yX H S f k d)->TU S->Ix vq e u i L->atP (j_ B.ĵ<=90->(∀c b,HU=f4 (.dT b)->IT aT b->hm (Ő q B)[a]? ->ė (d::x.ü) H c->j .Ť c)->(∀c l F b,HU=f4 (.dT b)->IT aT b->bg c l F->l.La=x.La->ú L F->F.ĵ=0->mN c x.La e u i L->(Ő q B)[a]? =f4 (F.told L)->ė (d::x.ü) H c->j (wp l.b) c)->AJ x5 j m)
def Ij(b:Ĭ):IF iU 96 x5:=by
 calc DI iU ["search","board","number","walk","filled"] EO;let⟨h,S,i,j,k,l,m,n,o,p,q,r,s,t,I,u,v,x,y,A,B,D,G,H⟩:=g;calc ln λJ L N O c e g=>⟨_,afb (akQ (asG lr e FD (VQ (ol Φ))))$ η (GX g (gQ (aao b) e (Tl XM)))$ adP$ cL (Ô Hh AG ŝ)$ η (OG g (MK aaA e FC (ol AG)))$ ER (akQ (Ø FC) (rc CV))$ η (r6 FC Φ Oe)$ μ$ KW g$ Ŵ (aaB b) e FC,?_⟩;have J:=u.obj;walk_at "s";simp!;calc⟨h,S,i,j,k,l,m,n,o,p,q,r,s,1,I,u,v,x,y,A,B,DU,D,λL N O c e g m B D J a0 b0 c0=>?_⟩;by_cases d0:e=0;subst d0;have e:OM s=[]:=Ġ.J (CD c0).symm;simp!;calc G L c D J (by rw[e];rfl) g;simp! [d0];have e:d3 h s≠0:=gt
 have f0:=a0.a1 e;have g0:OM s=OM O:=fx f0.J8;intro W h0 i0 j0 k0;have l0:Μ L$ ø (ø L h0 (.ü W)) W$ DW CW h0 []:=(Μ.new j0).trans$ NO$ DK (Ne.symm k0) i0;calc⟨W,h0,S,(t:M),I,Α,λm0 n0 o0 p0 r0 s0=>?_⟩;have t0:Μ L n0:=λu0 v0 w0=>ZP o0 (ρ w0 i0)$ ga l0 w0;have x0:hm$ L m0:=l0.free p0;have y0:k∉n.ü:=RK$ (y.nk u.kn).1 k z;have y:L S=f4 (DW CS i (Du j l k)):=GK (λz=>by rcases MU with z|z;calc AF (đ u.obj u.kn) z;calc v z) u.obj;have v:BW$ BF$ mN L n.La:=⟨GK (λz=>by rcases MU with z|z;calc AF (đ x.jf.obj u.kn) z;calc x.nL z) x.jf.obj,GK (λz=>by rcases MU with z|z;calc AF (đ x.jf.us u.kn) z;calc x.nu z) x.jf.us,GK (λz=>by rcases MU with z|z;calc AF (đ x.jf.ul u.kn) z;calc x.nd z) x.jf.ul⟩;have u:SL (KN (m6 h r n0 W h0 S) n.La) m0 c (t:M) [] []:=⟨s0,⟨ga t0 y,ga t0 D,J⟩,v.same t0,r0,.nil,mo,⟨mo,mo,mo,mo,λz=>by have:=v.us;rw[<-z,x0]at this;cases this⟩,A,mo⟩;have x:=B.same t0;have A:∀u0,u0∈N.ü\/u0∈N.ws->u0≠m0:=λu0 D z=>by let⟨v0,w0,_⟩:=B.there D;rw[z,x0]at w0;cases w0
 have fresh:∀u0,hm (L u0)->u0∈ZR\/hm (d u0):=λu0 D=>by by_cases z:u0∈ZR;calc RR;right;cases w0:d u0 with
 |none=>rfl
 |some v0=>rw[g u0 v0 z w0]at D;cases D
 have J:NA ZR n0:=λu0 v0 D w0=>ga t0$ g u0 v0 D w0;have y:∀u0 v0,u0∉ZR->d u0=f4 v0->u0≠W/\u0≠m0:=λu0 v0 D w0=>⟨(λz=>by have:=g u0 v0 D w0;rw[z,i0]at this;cases this),λz=>by have:=g u0 v0 D w0;rw[z,x0]at this;cases this⟩;let⟨v,L⟩:∃v:MJ,v= λB g z0=>X7 (λ(A0:Bx) B0 C0 D0 F0(G0:M) H0=>A14 (B=(OM B0++ų h r D0).length+1) (g=[f4 QT,AT A0.b,BJ t,AT W,H0]) (SL (KN (m6 h r z0 W h0 S) n.La) m0 F0 (G0:M) C0 D0) (bg z0 A0 B0) (A0.La=n.La) (ú r B0) (OM B0≠[]) (∀u0,u0∈C0->u0.un∉A0.ü/\u0.un∉A0.ws) (m0∉A0.ü) (m0∉A0.ws) (D0.length+j_ B0.ĵ<=90) ((OM s)[t]? =(OM B0++ų h r D0)[G0]?) (NA ZR z0) (∀I0,I0∈C0->∀v0,I0.un∉ZR->d I0.un≠f4 v0))\/X2 (λF0 H0=>A6 (B=0) (g=[f4 QT,f4 .Ť,BJ t,AT W,H0]) (z0 k=f4 (.dT F0)) (aT h r F0) (hm (OM s)[t]?)$ NA ZR z0):=EJ;simp!;calc dn v _ (by rw[L];calc .D ⟨N,O,[],[],c,t,none,I,by rw[m.b],u,x,m.La,f0.fM,by rw[<-g0];calc λz=>e (by unfold d3;rw[z];rfl),mo,RK$ A _ RR,RK$ A _ MV,by have:=oJ f0.oo;simp;lia,by rw[K5,Đ,g0],J,mo⟩) ?_;intro B g N O kT c m;rw[L]at m;rcases m with⟨e,u,x,A,J,v,H0,I,I,B,g,O,m,J0,K0,M0,N0,O0,P0,Q0,R0⟩|⟨J,H0,I,I,S0,T0,P0,Q0⟩;have U0:=B.wo;simp!;calc kT _ λf f=>?_;simp!;calc⟨h,r,W,h0,S,i,j,k,l,n.La,o,p,q,m0,J,v,x,A,e,u,I,B,g,O,m,J0,K0,M0,N0,O0,λe x F B g O m V0 W0 X0 Y0 Z0 a1 b1 _=>?_⟩;have c1:s3$ ė ZR:=λu0 v0 D w0=>ZP a1 (λz=>by simp only[ν,ã,GS]at z;rcases z with z|z;calc D (by simp[z]);calc(asF y).2 z)$ asF Q0;have d1:=m.wo;by_cases e1:v=0;subst e1;simp!;calc ga f.r ?_;calc H e x F O m.se.kn m.se.ok V0 W0 X0 Y0 m.la (by rw[P0,Z0];rfl) c1;have H:=m.aj0$ kw (v-1);have x:aM (Ρ "ahead") (FL (jp v-1)) (ZX (v:M) m0)=ZX (kw (v-1)) m0:=by rw[show jp v-1=kw (v-1)by lia];rfl
 have r0:Id (ZX (v:M) m0).length:=by show Id 3;decide
 have m:=H.wo;have m:NA ZR$ ø e W$ HO.Ŀ CW h0$ ZX (kw (v-1)) m0:=λu0 v0 D w0=>by rw[ω (asF y).1];exact asF c1
 have f1:∀I0,I0∈B->∀v0,I0.un∉ZR->d I0.un≠f4 v0:=λI0 g1 v0 h1 w0=>by rcases b1 I0 g1 with z|z;calc R0 I0 z v0 h1 w0;rw[Q0 _ v0 h1 w0]at z;cases z
 have i1:∀j1,ė (k::m0::W::B.q Tx.un) (ø e W (HO.Ŀ CW h0 (ZX (kw (v-1)) m0))) j1->NA ZR j1:=λj1 d u0 v0 D w0=>d u0 v0 (λz=>by simp only[ν,χ]at z;rcases z with z|z|z|⟨I0,g1,z⟩;calc D (by simp[z]);calc(asF y).2 z;calc(asF y).1 z;calc f1 I0 g1 v0 (by rw[z];calc D) (by rw[z];calc w0))$ asF m;have e:(OM s)[t]? =(ų h r g)[v-1]?:=by rw[P0,Z0,List.getElem?_cons,DP e1]
 have D:(OM u++ų h r A).length=(ų h r g).length+1:=by rw[Z0];rfl
 simp! [e1,x];calc⟨W,h0,_,I,Α,(noF (by with_unfolding_all calc I)),?_⟩;calc⟨h,r,W,h0,S,i,j,k,l,n.La,o,p,q,m0,O,v-1,B,g,I,H,λj1 y m s t d=>?_,λj1 i j k l n y o p q u A v B g O H x d k1=>?_⟩;simp!;calc ga f.n ⟨0,by simp only[π]at D|-;lia,?_⟩;rw[L];calc .X ⟨y,_,I,I,m,s,by rw[e];calc t,i1 j1 d⟩;simp!;calc ga f.n ⟨(GH Ő++ų h r n).length+1,by simp only[π]at D x|-;lia,?_⟩;rw[L];calc .D ⟨i,j,l,n,y,k,_,I,I,o,p,q,u,A,v,B,g,O,by rw[e];calc H,i1 j1 d,λI0 g1=>f1 I0$ k1 I0 g1⟩;simp!;calc c _ ?_;simp!;calc G N J S0 T0 P0 Q0
end Sq
namespace Sq
open PySem L2 dO
variable{a:ř}
def um:∀(b a:At),IZ (b.ah b_)<=a.length+b.length/\(IZ (b.ah b_)=a.length+b.length↔b.ar/\∀c,c∈b->c∉a)
 |[],a=>mo
 |d::b,a=>by
   rw[ĥ];unfold b_;by_cases e:a.any (·==d)=Z;let⟨f,g⟩:=sK um;unfold b_ at f g;have h:BH a:=by let⟨c,i,j⟩:=ô.J e;rw[<-IN.J j];exact i
   calc wn (by simp only[Β];lia);constructor;intro j;simp only[Β]at j;lia;rintro ⟨_,k⟩;calc kt h$ s4$ k d;rw[hf e];let⟨f,g⟩:=um b (a++[d]);unfold b_ at f g;have h:=λl=>e$ ô.Q ⟨d,l,mo⟩;simp only[π,Β,Ħ]at f g|-;calc wn gt;have m:a.length+(0+1)+b.length=a.length+(b.length+1):=gt
   rw[m]at g;rw[g,ñ];constructor;rintro ⟨n,k⟩;calc⟨⟨λl=>s4$ k d l,n⟩,λc i=>?_⟩;rcases ν.J i with I|i;calc h;calc λl=>k c i$ hv _ l;rintro ⟨⟨n,k⟩,o⟩;calc⟨k,λc i l=>?_⟩;rcases Ι.J l with l|l;calc o c (BI i) l;rw[Θ.J l]at i;calc n i
def aaC{l:f8}:QO.ar↔l.ar:=by constructor;intro a;calc(Ŋ.J a).imp (λ{b c} d e=>d (by rw[e]));intro a;calc ç.Q$ Ŋ.Q$ (ç.J a).imp (λ{b c} d e=>d ?_);lia
def gy(l a:f8):nm:=!((GV bh).eraseDups.length==(GV bh).length)
def Ik(l a:f8):sB (NR (pR adC)<NR adC)=GV gy:=by
 have b:=um adC [];unfold gy;have c:=jX (l:=GV bh);rw[ß,BE,ä,<-bP,c,<-aaC];have d:(pR adC).length=adC.length↔adC.ar:=by have:=b.2;simpa[pR]using this
 have e:(pR adC).length<=adC.length:=by simpa[pR]using EM
 lia
def M6(a:æ)(l:f8):(cE a).any (gy l)= !(EF qd):=by rw[ß,ä,<-bP,ô];unfold qd;rw[Ň];constructor;rintro ⟨b,c,d⟩ e;have:=lf e;have f:(!((bh l b).eraseDups.length==(bh l b).length))=Z:=d;rw[show((bh l b).eraseDups.length==(bh l b).length)=Z from this]at f;cases f;intro d;calc Κ λg=>d λb c=>?_;calc Κ λh=>g ⟨b,c,?_⟩;show(!((bh l b).eraseDups.length==(bh l b).length))=Z;rw[ä,<-bP];calc h
def Il(l a:f8):GV bh=(FX a.length λb=>l.getD ae3 0 !=0).q (λb=>l.getD ae3 0):=by
 have c:a=BR a.length (λb=>ae3):=by calc dV XZ;rw[Δ];by_cases d:b<a.length;rw[ë d,δ d];simp[δ d];rw[SC,Á abe];rfl
 unfold bh;conv=>lhs;rw[c]
 rw[Χ,cg];rfl
inductive Qa(vs:g3)(H:Hp)(b:VK)(e:XK):Prop|mk(a c:β)(u l:f8):vs=[AC,CO]->ag7 (BT (zs u).q)->BN H c XF->u.length<=81->(∀d,BH u->d<l.length)->aiu H (.bl (gy l u)) b->zn (AJ Qa)
def aaD(b:Ĭ):ahc 1 "unit_has_twice" ["unit","cells"] Qa:=by
 calc DI ua ["unit","cells","digits","cell"] EO;let⟨h,j,k,l,I,m,n,o,q,r⟩:=g;calc ln λs t u v x y z=>?_;calc⟨_,η (JS (iE (i:=2) I z) (auq (by decide+AO)) (Ca JF) (İ (ü:=[("cell",3)]) (by show EA (dj ["unit","cells","digits","cell"] (HN 67));decide+AO)) (λ_ _ _ _ _=>FN z) (YR (ND (cB (ixL K) IC OK) Φ)) (λ_ _ _ _ _=>cB (ixL K) IC OK))$ rc$ o8 Gh (Ļ S5 (uP b).len Ď (ol (ń (afO I) (uP b).set akD (ol LK))))$ Ļ hV (uP b).len Ď$ ol LK,?_⟩;have A:=aS k;calc⟨_,I,h,I,CM m,λB D=>sw$ G8 (xs:=BT (zs k).q) (λG=>ar0 !=0) (λH J _=>J=CK (l.getD (k.getD H 0) 0)) D (by rw[A];show k.length<QW;lia) m λ_ _ _ _ L _=>L⟩;intro G N O c d _ f o g s;have t:G<k.length:=by have:=(φ.J c).1;lia
 obtain I:N=MH (k.getD G 0):=by rw[qD t]at c;exact(Ü c).symm
 have u:k.getD G 0<l.length:=q _ (by simp[γ,δ t]);calc⟨I,_,I,_,I,j,_,_,_,I,I,d.seq n,rE$ qD u,I,?_⟩;calc afP (p:=ar0 !=0) ?_ (λv=>⟨_,I,_,I,j,_,_,_,I,I,d.seq n,rE$ qD u,ga (g v) HJ I⟩) λv=>IR$ s v;have:=aiw ar0 0;show(! sB (CK ar0=CK 0))=(ar0 !=0);rw[this];rfl;intro O x d y z;have L:=mf z;rw[A]at L;have h:x=BT (zs$ bh l k).q:=by rw[L,Il];unfold zs;rw[Χ,Χ];rfl
 have m:O B=VG (zs (bh l k)):=by rw[y,h]
 have D:(bh l k).length<=81:=by rw[Il,θ];exact OD (by simp;lia)
 calc⟨_,I,B,_,I,bI.of m,(by rw[ku];lia),aix λH J f o N=>?_⟩;calc⟨H,_,_,I,N,_,I,B,_,I,.D$ bI.of$ ga o m,?_⟩;have c:=Ik l k;show e (V.bl (sB (NR (pR (zs (bh l k)))<NR (BT (zs$ bh l k).q)))) J;rw[θ,c];calc r J$ d.trans o
inductive aaE(vs:g3)(H:Hp)(d:VK)(f:XK):Prop|mk(a c:β)(as:s5)(us:AU)(l:f8):vs=[AC,CO]->ag7 (GG as.q)->dk H as (us.q zs)->BN H c XF->us.length<=81->(∀b,b∈us->b.length<=81/\∀e,EG b->e<l.length)->aiu H (.bl (us.any (gy l))) d->DS (AJ aaE)
def adl(b:Ĭ):ahc 2 "some_digit_twice" ["units","cells"] aaE:=by
 calc DI qC ["units","cells","unit"] EO;let⟨h,i,j,k,l,I,m,n,o,p,q,r⟩:=g;calc ln λs t u v x y z=>?_;calc⟨_,rc$ Ļ (afD I) (uP b).any wq$ ol$ ID z (Ca JF) (İ (ü:=[("unit",2)]) (by show EA (dj ["units","cells","unit"] (HN 66));decide+AO)) (λ_ _ _ _ _=>IJ z) Tm λ_ _ _ _ _=>JE aaD y$ ε LK$ ol IC,?_⟩;have A:j.length=k.length:=by rw[dk.len n,θ]
 calc⟨_,I,h,I,CM m,λB D=>sw$ G8 (xs:=GG j.q) KY (λG H _=>H=V.bl (gy l (k.getD G []))) D (by rw[θ,A];show k.length<QW;lia) m λ_ _ _ _ J _=>J⟩;intro L N O c d _ e f p s;rw[Δ]at c;let⟨t,u,I⟩:=Υ.J c;let⟨v,x,J⟩:=Ā n u;rw[Δ]at x;let⟨y,z,I⟩:=Υ.J x;have h:y∈k:=Î z;have j:k.getD L []=y:=by rw[γ,z];rfl
 calc⟨I,_,I,_,I,t,i,y,l,I,bI.of$ IB J,d.seq o,(q y h).1,(q y h).2,λm D=>?_⟩;calc ga (p I) D (by rw[j]);intro O G d H N;have J:=mf N;rw[CZ,θ,A]at J;have e:G=(k.q$ gy l).q V.bl:=by rw[J,Χ];calc dV λL=>?_;rw[Δ,Δ];by_cases g:L<k.length;rw[ë g,δ g];simp[γ,δ g];rw[Á SX,SC];rfl
 calc⟨B,k.q$ gy l,I,(bI.of (by rw[H,e])),?_⟩;have:(k.q$ gy l).any id=k.any (gy l):=by rw[uA];rfl
 rw[this];calc r O d
end Sq
namespace Sq
open PySem L2 dO L3
variable{a:ř}{b:æ}{h:Ž}{l:M}{c e:Hp}{i:BA}{f:V}{j m n:β}{o:f8}
inductive Im(vs:g3)(H:Hp)(a:VK)(b:XK):Prop|mk(z:U):vs=[.int z]->a (.bl (Ģ z 0 vX)) H->TF Im
def T5(b:Ĭ):IF zR 1 Im:=by calc DI zR ["room"] EO;let⟨z,I,h⟩:=g;calc ln λi j k l m n o=>⟨_,rc$ aqe rC FD$ Ĩ I$ Md b,?_⟩;have p:Ģ z 0 vX=(sB (0<=z)&&sB (z<=1048576)):=I;rw[p]at h;walk_at "s";by_cases q:0<=z;rw[ZI q,aY]at h;simp! [q];calc h;rw[PM q,bT]at h;simp! [q];calc h
def Io(l:f8)(a:U):g3:=if a<WO then[AB (-6)]else AD l.length::HY
inductive aaF(vs:g3)(H:Hp)(e:VK)(f:XK):Prop|mk(a:β)(l:f8)(b:U):vs=[AC,LZ]->ahg HY->l.length<16000000->(∀d c,EW c->agI->HU=BG (Io l b)->e BK c)->py (AJ aaF)
def adn(b:Ĭ):IF rX 1 aaF:=by
 calc DI rX ["numbers","room"] EO;let⟨h,l,i,I,j,k,m⟩:=g;calc arN ⟨_,ER (ď (Ô xm (UZ ZZ) AG) (rc (WD (Ĩ I (Y7 b)))))$ rc$ Í xt (WD (UZ ZZ)) FD,?_⟩;unfold Io at m;walk_at "s";by_cases u:i<WO;rw[ii u]at m;simp! [u,Τ];calc af λv x y z A=>IL$ GY m z;rw[hf u]at m;simp! [u,Τ];calc af λB x D z A=>?_;have G:=ga z j;have H:[CK l.length].length+HY.length<=Ζ:=by rw[Τ];show GT (1+_);lia
 simp!;calc af λv J y L N=>m v J (z.trans L) (z.free y) N
def aaG(l:f8)(a:M):QO.count DD=asT (λb=>b==a):=by unfold zs;induction l with
|nil=>rfl
|cons c d e=>
 rw[Â,List.count_cons,e,ġ];by_cases f:c=a;subst f;simp;have g:pr (c==DD):=gt
 have h:pr (c==a):=aqh
 rw[g,h];simp
def x6(z a:U)(l:f8):nm:=Ģ z 2 9&&(HF Ģ 1&&Ō z.aj l)
inductive Qb(vs:g3)(H:Hp)(d:VK)(e:XK):Prop|mk(z b:U)(a:β)(l:f8):vs=[.int z,LZ,AC]->ahg HY->(∀c,EW c->PF (.bl (LB (x6 z))))->SD Qb
def aaH(b:Ĭ):IF mG 1 Qb:=by
 calc DI mG ["n","diagonals","region","number"] EO;let⟨z,h,i,l,I,j,k⟩:=g;calc ln λm o p q r s t=>⟨_,adr (ď (d6 (PW.pt (hs (aqe rD FD Φ) (fF (aqe rD AG Φ))))))$ adr (ď (ND (UZ XM) (KK FD FD)))$ rc$ Ļ (aiL I) QK.all kf$ ol$ ID t (alt QK ZZ) (İ (ü:=[("number",3)]) (by show EA (dj ["n","diagonals","region","number"] (HN 69));decide+AO)) (λ_ _ _ _ _=>FN t) Tm λ_ _ _ _ _=>o8 bO (Dg è PySem.F.slot_list_count PySem.F.type_list_count agh BU XX) FD,?_⟩;have u:x6 z h l=((sB (2<=z)&&sB (z<=9))&&((sB (0<=h)&&sB (h<=1))&&Ō z.aj l)):=I;walk_at "s";by_cases v:2<=z/\z<=9/\0<=h/\h<=1;let⟨x,I⟩:∃x:M,z=x:=anc z.aj;have y:jp x*jp x=kw (x*x):=by rw[U.am]
 have A:x*x<=81:=Ë (show x<=9 by lia) (show x<=9 by lia);have B:x6 x h l=Ō x l:=by rw[u];simp[v.1,lv v,lv v.2,(wS v).2]
 rw[B]at k;have D:l9 (jp x)$ jp x:=LV;let⟨G,H,J,L⟩:=v;by_cases N:PZ (x*x);simp! [G,H,J,L,Τ,N,y,-U.am];calc sw$ lcN (n:=x) (by show BC;lia) KY λO=>V.bl (at9==x);intro O e f g m o p q;have r:=GK j;have s:QO.count (jp O)=at9:=aaG l O;have t:=p I e HJ;have A:sB (kw at9=jp x)=(at9==x):=by rw[ß,BE,IN];exact U.cz
 rw[<-A,<-s]at t;have B:aq3 OH e:=.D ⟨I,_,.D$ .D r⟩;walk_at "w";simp!;calc⟨i,QO,jp O,I,I,.D$ .D r,?_⟩;simp! [-U.eQ];calc t;intro D e f g m;rw[CZ]at m;calc⟨D,(ι x).q λO=>at9==x,I,(wT (by rw[m,Χ];rfl)),?_⟩;have o:((ι x).q λO=>at9==x).all id=Ō x l:=by unfold Ō;rw[fZ,N];simp
 rw[o];calc GZ k;have q:pr$ Ō x l:=by unfold Ō;simp[N]
 rw[q]at k;have j:¬kw l.length=kw (x*x):=gt
 simp! [G,H,J,L,Τ,N,j,y,-U.am];calc k d HJ;have q:pr$ x6 z h l:=by rw[u];simp;lia
 rw[q]at k;have p:=k d HJ;by_cases G:2<=z;by_cases H:z<=9;by_cases J:0<=h;have L:¬h<=1:=λL=>v ⟨G,H,J,L⟩;simp! [G,H,J,L];calc p;simp! [G,H,J];calc p;simp! [G,H];calc p;simp! [G];calc p
def x7(a:M)(b c d S:β):ES:=[("n",KM),("units",AZ),("givens",CO),("layout",BK),("search",QT)]
section
variable(n:M)(u g L S:β)
@[simp]def ars:ag6.E (FP "n")=f4 JN:=I
@[simp]def art:ag6.E (FP "units")=f4 (.ref u):=I
@[simp]def aru:ag6.E (FP "givens")=f4 FU:=I
@[simp]def arv:ag6.E (FP "layout")=f4 (.ref L):=I
@[simp]def arw:ag6.E (FP "search")=f4 QT:=I
@[simp]def apf:hu ag6 "has_place":=I
@[simp]def apg:hu ag6 "is_digit_or_none":=I
@[simp]def aph:hu ag6 "can_be_cells":=I
@[simp]def api:hu ag6 "givens_with":=I
@[simp]def apj:hu ag6 "replace_givens":=I
end
inductive Ai(vs:g3)(H:Hp)(b:VK)(c:XK):Prop|mk(q a u g L S:β)(n:M)(d:U):vs=[aeH,OR]->H q=f4 (YZ a ag6)->b (.bl (IM Ģ n)) H->RC Ai
def x8(b:Ĭ):et.P a 1 Ai:=by calc et.ok ["self","digit"] EO;let⟨h,i,j,k,l,S,m,n,I,o,p⟩:=g;calc ln λq r s t u v x=>⟨_,rc$ aqe rC AG Cl,?_⟩;have y:Ģ n 0 m=(sB (0<=n)&&sB (n<=jp m)):=I;rw[y]at p;walk_at "s";by_cases z:0<=n;rw[ZI z,aY]at p;simp! [z];calc p;rw[PM z,bT]at p;simp! [z];calc p
inductive x9(vs:g3)(H:Hp)(b:VK)(d:XK):Prop|mk(q a u g L S:β)(n:M)(r c:U):vs=[aeH,.int r,On]->H q=f4 (YZ a ag6)->b (.bl (Ģ r 1 n&&Ģ c 1 n)) H->v4 (AJ x9)
def Ip(b:Ĭ):iT.P a 1 x9:=by calc iT.ok ["self","row","column"] EO;let⟨h,i,j,k,l,S,m,n,o,I,p,q⟩:=g;calc ln λr s t u v x y=>⟨_,rc$ afa (aqe rC AG Cl)$ B8$ aqe rC BU Cl,?_⟩;have z:(Ģ n 1 m&&Ģ o 1 m)=((sB (1<=n)&&sB (n<=jp m))&&(sB (1<=o)&&sB (o<=jp m))):=I;rw[z]at q;walk_at "s";by_cases A:1<=n;rw[ZI A,aY]at q;by_cases B:n<=jp m;rw[ZI B,aY]at q;by_cases D:1<=o;rw[ZI D,aY]at q;simp! [A,B,D];calc q;rw[PM D,bT]at q;simp! [A,B,D];calc q;rw[PM B,bT]at q;simp! [A,B];calc q;rw[PM A,bT,bT]at q;simp! [A];calc q
inductive sD(vs:g3)(H:Hp)(f:VK)(h:XK):Prop|mk(q b u g L S:β)(n r c d:M)(cells:f8):vs=[aeH,AD r,AD c,AD d]->H q=f4 (YZ b ag6)->H g=xL cells->cells.length=JB->US->1<=r->r<=n->1<=c->c<=n->(∀e a,IS (amV->a e=xL (cells.set (n*(r-1)+(c-1)) d)->f EN a))->GP (AJ sD)
def y4(b:Ĭ):gT.P a 1 sD:=by
 calc gT.ok ["self","row","column","digit","cells"] EO;let⟨h,i,j,k,l,S,m,n,o,p,q,I,r,s,t,u,v,x,y,z,A⟩:=g;calc as_ ⟨_,η (OG N (ń uW QK.list ÿ QQ))$ η (oh FC (og CV (RT (WF (KK (RT AG Φ) Cl) BU) Φ) d7))$ rc CV,?_⟩;have O:m*(n-1)+(o-1)<m*m:=by
  have:m*(n-1)+m<=m*m:=by rw[<-M.mul_succ];exact im$ Ń m
  lia
 have c:(jp n-1)*jp m+jp o-1=kw (m*(n-1)+(o-1)):=by rw[U.aA,U.am,U.eu v,U.eu y,U.cW];simp;lia
 have d:l9 (jp n-1)$ jp m:=.X ZN;walk_at "s";simp!;calc af λe f h i j=>?_;have k:=ga i r;simp! [c,-hY,-hW];calc swK j (fJ (by rw[Τ];lia)) λl p q=>?_;rw[jR]at q;simp!;calc A e l (λs t u=>ga p (ρ u h)$ ga i u) h q
inductive x_(vs:g3)(H:Hp)(d:VK)(e:XK):Prop|mk(q c u g L S a:β)(n:M)(cells:f8):vs=[aeH,AC]->H q=f4 (DW CQ c ag6)->WR cells->cells.length<=100->US->(∀b,EW b->d (.bl (sB (cells.length=JB)&&cells.all (λf=>sB (f<=n)))) b)->SD x_
def Iq(b:Ĭ):f_.P a 2 x_:=by
 calc f_.ok ["self","cells","digit"] EO;let⟨h,i,j,k,l,S,m,n,o,I,p,q,r,s,t⟩:=g;calc ln λu x y z A B D=>⟨_,adr (ď (ND (UZ (ol AG)) (KK Cl Cl)))$ rc$ Ļ (aiL I) QK.all kf$ ol$ ID D (ņ AG) (İ (ü:=[("digit",2)]) (by show EA (dj ["self","cells","digit"] (ê (JU 70 3)));decide+AO)) (λ_ _ _ _ _=>IJ D) Tm λ_ _ _ _ _=>MK x8 B FD XM,?_⟩;have G:jp n*jp n=kw JB:=by rw[U.am]
 have H:l9 (jp n)$ jp n:=LV;walk_at "s";by_cases J:o.length=JB;simp! [J,G,-U.am];calc sw$ G8 (xs:=Ě o) (dq q) (by rw[Τ];show BC;lia) KY λL=>V.bl$ sB (o.getD L 0<=n);intro L v N O c e f m r;let⟨s,I⟩:=Ū O;have g:=SZ p;walk_at "w";simp!;calc⟨h,i,j,k,l,S,n,_,I,g,?_⟩;have u:Ģ (kw (o.getD L 0)) 0 n=sB (o.getD L 0<=n):=by unfold Ģ;rw[ß];simp only[ξ,BE];lia
 rw[u];calc IR$ m I;intro x N y c z;rw[CZ,Τ]at z;have:=ķ o KY (λA=>V.bl$ sB (A<=n)) 0;rw[CZ,CZ]at this;rw[this]at z;calc⟨x,o.q λA=>sB (A<=n),I,(wT (by rw[z,Χ];rfl)),?_⟩;have B:(o.q λA=>sB (A<=n)).all id=(sB (o.length=JB)&&o.all (λA=>sB (A<=n))):=by rw[fZ,ZI J,aY];rfl
 rw[B];calc t N c;have B:pr (sB (o.length=JB)&&o.all (λA=>sB (A<=n))):=by rw[PM J,bT]
 rw[B]at t;have D:¬kw o.length=kw JB:=gt
 simp! [J,D,G,-U.am];calc t d HJ
inductive Aj(vs:g3)(H:Hp)(e:VK)(h:XK):Prop|mk(q d u g L S a:β)(n:M)(as:s5)(us:AU)(cells:f8):vs=[aeH,AC]->H q=f4 (YZ d ag6)->H u=KE as.q->dk H as (us.q zs)->WR cells->us.length<=81->(∀v,v∈us->v.length<=81/\∀f,f∈v->f<cells.length)->(∀b,EW b->us.any (gy cells)=Z->e SO b)->(∀b c,pr (us.any (gy cells))->aqX->JT (ė [q])->b q=f4 (YZ d (x7 n u c L S))->Db=xL cells->e (.bl Z) b)->FG (AJ Aj)
def M7(b:Ĭ):e7.P a 3 Aj:=by calc e7.ok ["self","cells"] EO;let⟨h,i,j,k,l,S,m,n,o,p,q,I,r,s,t,u,v,x,y,z⟩:=g;calc ank ⟨_,adr (ď (dm (JE adl J aud)))$ OS (ń uW QK.list ÿ (ol AG))$ rc jv,?_⟩;walk_at "s";simp!;calc⟨j,m,o,p,q,I,.D$ .D s,t,.D$ .D u,v,x,λN O=>?_⟩;cases c:p.any (gy q)with
|Z=>simp!;calc y N O c
|gl=>have d:=ML u;have e:=ML r;simp!;calc af λf i k l n=>?_;have g:=ga l e;have A:f≠h:=(ρ e k).symm;simp! [-ĕ];calc sk g mn 5 I λB D G=>?_;simp!;calc KL (z _) (O.free k) (λH j m o=>PL aeG$ ga l$ ML o) G$ PL A n
def qH(a:M):∀(b l:f8),XY (ho l)=l.length|[],l=>I|c::d,l=>by show(wE$ ho _).length=_;rw[wE qH,ť]
def oO(b:M)(st:f8)(a:M):iv b st DC=ho (iv b st a) a (BS (HF st.getD)):=by unfold iv;rw[ę,Þ];rfl
def iW(a:M)(st:f8):∀b,(iv a st b).length=FY
 |0=>by simp[iv]
 |BP=>by rw[oO,qH,iW a st b]
inductive ya(vs:g3)(H:Hp)(e:VK)(f:XK):Prop|mk(x:Bx)(b u c:β)(L:Ž)(B:ŏ):vs=[JP]->aj5 b u c L->anX ((∀d a,IS (agI->MY=xL (iv L.n B.Ú L.n)->e BK a))->py (AJ ya))
def Ir(b:Ĭ):k9.P a 2 ya:=by
 calc k9.ok ["self","cells","digit","stands","cell"] EO;let⟨h,i,j,k,l,m,I,o,p,q,r⟩:=g;have s:=p.obj;have t:=o.obj;have u:=q.n9;have x:=q.nn;have y:jp l.n*jp l.n=kw agr:=by rw[U.am]
 calc ank ⟨_,η (KW L (Í xu (WD Φ) (KK (Ø Cl) (Ø Cl))))$ η (Ī (ak3 QK QQ) (j9 (n:=2) I (č (IJ L) (JR (FN L)))) (μ (KG (JE gV J XX) (IY L) (μ (oh (WF BU Φ) (og AG CV d7))))))$ rc AG,?_⟩;have N:l9 (jp l.n)$ jp l.n:=LV;have O:(Λ (kw agr).aj [XD]).bQ=Ě (Λ agr 0):=by rw[U.a0,xQ,v_];rfl
 walk_at "s";simp!;calc af λc e i j k=>?_;have o:=ga j s;have u:=ga j t;have A:-QL<=kw agr/\kw agr<QL/\[XD].length*(kw agr).aj<=Ζ:=⟨gt,gt,by show GT (1*(kw agr).aj);rw[U.a0];lia⟩;simp! [y,-U.am];calc af λB D G H J=>?_;have J:D B=xL (Λ agr 0):=J.trans (by rw[v_];rfl);have L:=j.trans H;have N:hm$ d B:=j.free G;have O:=MD s;simp!;calc sw$ xI (xs:=Ě m.Ú) (dq (MD p.st)) (λc e i=>X3 λk o t=>A3 (∀u y,u≠B->d u=f4 y->i u=f4 y) (i B=xL (iv l.n m.Ú c)) (e=[AT h.b,f4$ .ref B,k,o,t])) ⟨none,none,none,λu y _ A=>MD A,J,I⟩ (λ c e i _⟨_,_,_,D,_,_⟩=>dq$ PL (ρ p.st N) p.st);rintro c v e i H j f G s O d J ⟨k,o,t,D,L,I⟩;have p:=G.n;let⟨H,I⟩:=Ū s;calc LN$ aK J;have f:=q.bs c;have j:CU m.Ú.getD<VZ:=Ä f$ Uf x;have O:=iW l.n m.Ú c;rw[oO]at p;generalize CU m.Ú.getD=st at f j p|-;generalize iv l.n m.Ú c=G at L O p;simp!;calc⟨_,I,j,λJ H x m j=>?_⟩;have a0:J≠B:=λz=>by subst z;rw[IB L]at m;cases m
 calc sw$ cD (xs:=Ě$ BS st) (dq j) (λJ e m=>X1 λt=>A3 (∀u y,u≠B->H u=f4 y->m u=f4 y) (m B=xL (ho G c ((BS st).take J))) (e=[AT h.b,f4$ .ref B,BJ c,f4$ PD st,t])) ⟨t,λu y _ A=>A,QB$ IB L,I⟩ (λ J e m _⟨_,g,_,_⟩=>dq$ GK a0 j);rintro J v e g h H s ⟨t,j,g,I⟩;have h:=H.n;let⟨H,I⟩:=Ū s;have s:(BS st).getD J 0∈BS st:=by rw[γ,δ H];exact Ö H
 have b0:(BS st).getD J 0<agr:=Į f (υ.J s).2;have l:ho G c ((BS st).take (J+1))=(ho G c$ (BS st).take J).set ((BS st).getD J 0) BD:=by unfold ho;exact AY d8 0 H
 rw[l]at h;simp! [-hY,-hW];calc swK g (fJ (by rw[Τ,qH,O];calc b0)) λf s O=>?_;have O:f B=xL ((ho G c$ (BS st).take J).set ((BS st).getD J 0) BD):=O.trans (by rw[<-jR];rfl);calc UP ⟨_,λu y H A=>MZ H$ j u y H A,O,I⟩;rintro e m ⟨t,j,g,I⟩;rw[Τ,Ò]at g;calc ga p ⟨_,_,_,λu y H A=>j u y H$ QB$ IB$ D u y H A,g,I⟩;rintro e i ⟨k,o,t,D,L,I⟩;rw[Τ,q.ls]at L;simp!;calc r B i (λu y A=>D u y (ρ A N) A) N L
def sE(a:æ):Ž:=f5 a.n (cX a)$ nM a.n$ cE a
def mv(a:æ):Ž:=vu$ sE a
def yb(a:2<=b.n/\b.n<=9/\Ō b.n b.bY=Z):aE b$ mv b:=K4 a _
def ig(a:h.n<=9)(c:l<2^LD):j_ l<=90:=by have d:=Ë a a;calc É (oJ (b:=2^81-1) (λe f=>?_)) (by decide+AO);rw[kB,BE];apply ŗ;intro g;have:=Ka$ Ä c$ Uf (show LD<=e by lia);rw[this]at f;cases f
structure Qx where
 a:β
 dx:β
 u:β
 g:β
 Lp:β
 S:β
 T6:β
 kd:β
 pdx:β
 pu:β
 pd:β
 as:s5
structure ih(q:æ)(H:Hp)(z:Qx)(a:V)(b:BA):Prop where
 obj:H z.a=f4 (YZ z.dx (x7 q.n z.u z.g z.Lp z.S))
 gv:H z.g=xL q.cells
 un:H z.u=KE z.as.q
 ul:dk H z.as$ (cE q).q zs
 se:io$ yX q (mv q) H z.S z.T6 z.Lp z.kd
 lp:mN H z.Lp z.pdx z.pu z.pd$ sE q
 la:JY aaj$ mv q
 len:q.cells.length=KO
 cn:2<=q.n/\q.n<=9/\Ō q.n q.bY=Z
def cN(z:Qx)(b a:Hp):Prop:=∀c d,c≠z.S->c≠z.kd->Db=LJ->JD=LJ
section
variable {Pl:V}{p5:BA}
variable{d:Qx}
def ih.next(a:lf ih d Pl p5)(g:AH (cN d))(h:DF (yX b (mv b) e d.S d.T6 d.Lp d.kd))(j:py aaj (mv b)):DS (zn ih) i:=by
 have k:∀l m,c l=f4 m->(∀p5,m≠.dT p5)->l≠d.kd:=λl m n o w=>by rw[w,a.se.kn]at n;exact o _ (Ü n).symm
 have p:∀l m,c l=f4 m->(∀q r s,m≠BW .Ŀ s)->l≠d.S:=λl m n o w=>by rw[w,a.se.obj]at n;exact AY o (Ü n).symm
 have t:∀l u,c l=f4 (.Ý u)->e l=UB:=λl u n=>g l _ (ga p n (by intro _ _ _ w;cases w)) (FZ (NN n)) n;calc⟨GK (đ a.obj a.se.obj ?_) (FZ (NN a.obj)) a.obj,MP a.gv,MP a.un,dk.eI a.ul λv m x n=>?_,h,⟨GK (đ a.lp.obj a.se.obj ?_) (FZ (NN a.lp.obj)) a.lp.obj,MP a.lp.us,GK (ga p a.lp.ul (by intro _ _ _ w;cases w)) (FZ (NN a.lp.ul)) a.lp.ul⟩,j,a.len,a.cn⟩;intro w;injection w with _ _ w;have:=YT w;simp[x7,Du]at this;let⟨y,z⟩:=â.J x;let⟨A,_,B⟩:=Ā a.ul z;rw[B]at n;cases n;calc MP B;intro w;injection w with _ _ w;have:=YT w;simp[yW,Du]at this
def ih.same(a:lf ih d Pl p5)(f:AH Μ):zn ih d Pl p5:=a.next (λg h _ _ i=>t3$ f g) ⟨JI a.se.obj,JI a.se.kn,a.se.ok⟩$ a.la.imp id (λ⟨j,k,m,n,i,l⟩=>⟨j,k,m,n,i,l.same f⟩)
def cN.free(g:AH (cN d))(f:zn ih d Pl p5)(a:hm (e j)):hm$ c j:=by cases h:c j with
|none=>rfl
|some i=>have:=g j i (λw=>by rw[w,f.se.obj]at a;cases a) (λw=>by rw[w,f.se.kn]at a;cases a) h;rw[a]at this;cases this
def ih.gN{h:Bx}{a:Hp}(s:zn ih d Pl p5)(k:lf ih d (wp h.La) i)(o:∀t u,t≠d.S->e t=f4 u->c t=f4 u)(p:∀v,v∈h.ü->hm (e v))(q:d.S∉h.ü)(g:FF (GH (vq c)) (mv b))(l:AA (ė (d.kd::h.ü))){f:BA}(r:a d.kd=f4 (.dT f))(ok:aT b (mv b) f):sK ih d (wp h.La) f/\s3 cN a/\FF (mN a h.La j) (mv b):=by have x:s3 cN a:=λt u y z A=>EB l (λw=>by rcases ν.J w with w|w;calc z w;rw[p t w]at A;cases A)$ IL$ EB o;have B:∀t u,c t=f4 u->(∀p5,u≠.dT p5)->t∉h.ü->a t=f4 u:=λt u A D G=>EB l (λw=>by rcases ν.J w with w|w;rw[w,k.se.kn]at A;calc D _ (Ü A).symm;calc G w) A;have H:FF (mN a h.La j) _:=⟨FZ (LG g.jf.obj) g.nL,FZ (LG g.jf.us) g.nu,FZ (LG g.jf.ul) g.nd⟩;calc⟨s.next x ⟨FZ (LG k.se.obj) q,r,ok⟩$ .X ⟨h.La,j,m,n,I,H⟩,x,H⟩
end
inductive Ak(vs:g3)(H:Hp)(i:VK)(l:XK):Prop|mk(q:æ)(z:Qx)(a:V)(c:BA):vs=[TH]->mt ab4->(∀b e j g d,(a=.Ť\/a=wp d.La)->(∀h k,h≠z.S->H h=RY->b h=RY)->ih q b z (wp d.La) c->UK vq j g (mv q)->(∀f,f∈d.ü->hm (H f))->z.S∉d.ü->(∀f,f∈d.ws->f=j)->v4 bg (bU (mv q) q.cells)->i (wp d.b) b)->AJ Ak i l
def mw(b:Ĭ):IF xF 7 Ak:=by
 calc DI xF ["square"] EO;let⟨h,z,i,j,I,k,l⟩:=g;have m:LD<=9*9:=Ë (lv k.cn)$ lv k.cn;have n:(sE h).units.length<=29:=by show(cX h).length<=29;unfold cX;rw[θ];have:=gp h;have:=lv k.cn;lia
 calc act ⟨_,rc$ MK Af t Cl QQ,?_⟩;have v:=k.obj;have x:=k.se.obj;walk_at "s";simp!;calc⟨z.S,z.T6,z.Lp,z.pdx,z.pu,z.pd,z.kd,z.g,i,sE h,h.cells,I,k.se.obj,k.lp,lv k.cn,n,k.la,k.gv,by rw[k.len];lia,λy A B D G H J L N sC O c d e=>?_⟩;subst O;have f:z.kd≠z.S:=(AF$ đ k.se.obj k.se.kn).symm;calc s3$ IK (NL l) H J L (k.next (λj g m _ o=>L j g m o) ⟨N,MD f k.se.kn,k.se.ok⟩ (.X ⟨H.La,B,D,G,I,sC.jf⟩)) sC (λp q=>(FH c).1) λq=>(c _ q).2 I
inductive Iu(vs:g3)(H:Hp)(g:VK)(h:XK):Prop|mk(q:æ)(z:Qx)(e:V)(f:BA)(a:M):vs=[TH,AD a]->py ab4->1<=a->(∀b c d,JT (cN z)->re (ih q b z)->g (AD (min a (ğ q).length)) b)->ww (AJ Iu)
def T7(b:Ĭ):IF k3 95 Iu:=by
 calc DI k3 ["square","most"] λc d e f h=>?_;let⟨i,z,j,k,l,I,m,n,o⟩:=h;have p:=yb m.cn;have q:=ib p (g:=i.cells) (by rw[m.len];rfl);have r:d3 i (bU OB i.cells)=(ğ i).length:=by unfold d3;rw[iy p m.len]
 calc ln λs t u v x y A=>⟨_,rc$ Ļ (aiO I) QK.min akE$ VQ$ ol$ asG lr y Cl$ ε (JE mw y ZZ)$ ol AG,?_⟩;have B:=m.obj;have D:=m.se.obj;walk_at "s";simp!;calc⟨i,z,j,k,I,m,λG H J L N O c d sC e f n h=>?_⟩;simp!;calc⟨i,z.S,z.T6,z.Lp,z.kd,_,k,N,H,J,L,OB,_,l,I,d.se,f,sC,h,p,q,gt,ig q.wf.n9 q.wf.bo,λs t u v x y A B j D _ G O=>?_⟩;let⟨n,k,p⟩:=py (DB m.gN) sC y j D;rw[r]at G O;have q:min l x=min l (ğ i).length:=gt
 have:=ga (o s) k n;rw[<-q]at this;have H:(if x<l then jp x else jp l)=kw (min l x):=by split<;>lia
 simp! [H];calc this
def yc(c:M):∀(a l:f8)(b:M),AW (AA$ ho l).getD=if b∈a/\aiy then BD else OT
 |[],l,b=>by simp[ho]
 |d::a,l,b=>by have e:=AA yc (l.set d BD) b;show AW (AA$ ho _).getD=_;rw[e,ť];by_cases f:aiy;by_cases g:b∈a;rw[BZ ⟨g,f⟩,BZ ⟨BI g,f⟩];rw[MA$ g Da];by_cases h:b=d;subst h;rw[BZ ⟨ů ..,f⟩,γ,dt f];rfl;rw[MA$ (ν.J Da).elim h g,γ,en λz=>h z.symm,γ];rw[MA$ f z.2,MA$ f z.2,dH (by rw[ť];lia),im dH]
def M8{F:ŏ}(a:ú h F)(b:F.ĵ=0):iv h.n F.Ú h.n=F.told h:=by
 have c:=Ë a.wf.n9 a.wf.n9;have d:∀e,e<LD->F.S (F.at e) e:=λe f=>by rcases py a.st with z|⟨g,z⟩;rw[ŏ.O,b]at z;simp at z;rw[uG a z];exact z
 have i:∀j e,e<LD->PR (iv h.n F.Ú j)=if F.at e<j then F.at e+1 else 0:=by intro j;induction j with
 |zero=>intro e f;simp[iv,f]
 |HW j k=>intro e f;rw[oO,yc,iW,py k];by_cases z:F.S j e;have g:=uG a z;rw[BZ ⟨c5.Q$ XP z,f⟩,JO,g];rw[DP λw=>z (c5.J w.1).2];have:F.at e≠j:=λw=>z (by rw[<-w];calc py d);by_cases w:F.at e<j;rw[ii w,JO];rw[hf w,IV]
 calc dV λe=>?_;have l:(F.told h).length=LD:=by unfold ŏ.told;simp
 by_cases f:e<LD;have m:=py$ i h.n;have n:PR (F.told h)=F.at e+1:=by unfold ŏ.told;rw[ax,abm]
 have o:F.at e<h.n:=by have:=py d;rw[<-a.wf.ls];exact GE kD
 rw[ii o]at m;rw[γ]at m n;rw[δ (by rw[iW];calc f)]at m|-;rw[δ (by rw[l];calc f)]at n|-;simp only[Uu]at m n;rw[m,n];rw[Á (by rw[iW];lia),SC]
inductive D7(vs:g3)(H:Hp)(g:VK)(j:XK):Prop|mk(q:æ)(z:Qx)(e:V)(f:BA)(a:M):vs=[TH,AD a]->py ab4->(∀b c d,JT (cN z)->re (ih q b z)->hm (ğ q)[a]? ->g .Ť b)->(∀h i b c d,JT (cN z)->re (ih q b z)->(ğ q)[a]? =RW->hm (H h)->b h=BG (Ě i)->g NB b)->AJ D7 g j
def aaI(b:Ĭ):IF mD 97 D7:=by calc DI mD ["square","number","filled"] λc d e f h=>?_;let⟨i,z,j,k,l,I,m,n,o⟩:=h;have p:=yb m.cn;have q:=ib p (g:=i.cells) (by rw[m.len];rfl);have r:=iy p m.len;calc ln λs t u v x y A=>⟨_,η (FT A (JE Ij y (ZT (ε (JE mw y ZZ) (ol AG)))))$ afb (ď (Ô vQ BU ŝ))$ rc$ Ŵ (Ir b) y BU,?_⟩;have B:=m.obj;walk_at "s";simp!;calc⟨i,z,j,k,I,m,λD G H J L N O c sC d e f h=>?_⟩;simp!;calc⟨i,z.S,z.T6,z.Lp,z.kd,_,k,L,G,H,J,OB,_,l,I,c.se,e,sC,h,p,q,ig q.wf.n9 q.wf.bo,λs t u v x y=>?_,λs A F t u v j B D N f x y=>?_⟩;let⟨k,l,p⟩:=s3 (m.gN c O) sC y u v;rw[r]at x;simp!;calc ga (n s) l k x;let⟨k,l,p⟩:=s3 (m.gN c O) sC y u v;rw[r]at x;have q:=j.obj;simp!;rw[<-B]at f;calc⟨A,G,H,J,OB,F,I,f,j,D.wf,λL h t m n=>?_⟩;rw[M8 D N]at n;calc ga (o L _ h) (λr O c d e=>MP$ s3$ l r O c) (k.same t) x (l.free k m) n
def Iv(a:JQ):∀b,Û ((ι b).filter a)=((ι b).q λc=>if FR a then HG else 0).sum/\Û ((ι b).filter a)<GU
 |0=>by simp[Û]
 |BP=>by
   let⟨d,e⟩:=io Iv;calc P3$ Fo λf g=>LX$ υ.J g;rw[ę,ł,Æ,nj,<-d];by_cases z:JC=Z;have:[b].filter a=[b]:=by rw[ġ,LU];rfl
   rw[this];have h:Û ((ι b).filter a++[b])=Û ((ι b).filter a)|||GU:=by unfold Û;rw[Þ];rfl
   have:=M.two_pow_add_eq_or_of_lt e 1;rw[p_]at this;rw[h,M.or_comm,<-this];simp[];lia;have:[b].filter a=[]:=by rw[ġ,IU];rfl
   simp[z]
def aaJ{q:æ}{a:M}(b:∀c,NZ (CU o.getD)↔ ∃d,(BH (ğ q)/\HF d.getD=BD)):lx o a q.n=cw q a:=by
 unfold lx cw;rw[(ga Iv).1];congr 1;calc ö λc _=>?_;have:((ğ q).any (λl=>YE==BD)=Z)↔NZ (CU o.getD):=by rw[Db,ô];simp only[IN]
 by_cases z:NZ (CU o.getD);rw[LU,BZ$ this.Q z];rw[IU,DP λw=>z$ this.J w]
def Iw(b:æ)(a:M):f8:=(ι a).aD λa=>[sK cw%256,sK cw/256]
def uo(a:æ)(b:M):Iw a BP=io Iw++[io cw%256,io cw/256]:=by unfold Iw;rw[ę,il];simp
def sF(a:æ):∀b,XY Iw=2*b|0=>I|BP=>by rw[uo,π,io sF];simp;lia
section
inductive Iy(vs:g3)(H:Hp)(f:VK)(h:XK):Prop|mk(q:æ)(z:Qx)(d:V)(e:BA):vs=[TH]->s3 ab4->(∀a b c,atq (ğ q=[]->f .Ť a))->(∀g a b c,atq (ğ q≠[]->UI H->a g=xL (Iw q KO)->f FU a))->GP (AJ Iy)
local macro_rules | `(tactic| walk_at "fd") => `(tactic| first | exact Α | decide)
def T8(b:Ĭ):IF iL 97 Iy:=by
 calc DI iL ["square","board","filled","chances","told","digits"] λc d e f h=>?_;let⟨i,z,j,k,I,l,m,o⟩:=h;have p:=yb l.cn;have r:=ib p (g:=i.cells) (by rw[l.len];rfl);have s:=iy p l.len;calc ln λt u v x y A B=>⟨_,η (KW B (JE mw A ZZ))$ η (FT B (asG wg A Cl (ol AG)))$ afb (ď (Ô vQ BU ŝ))$ η (GX B (gQ (aar b) A aud))$ η (Ł (MK D6 A FC XM))$ η (Ł (Ŵ (aay b) A FC))$ η (OG B RS)$ η (KG (Ŵ (aaz b) A FC) (Ψ 5 B) (η (Ł (TX CV (ol (GC JM Φ)))) (IW (TX CV (ol (Í xl JM Φ))))))$ rc CV,?_⟩;walk_at "s";simp!;calc⟨i,z,j,k,I,l,λD G H J L N O c sC e h t u=>?_⟩;have v:=c.obj;have x:=c.se.obj;simp!;calc⟨i,z.S,z.T6,z.Lp,z.kd,_,k,L,G,H,J,OB,_,I,c.se,h,sC,u,p,r,ig r.wf.n9 r.wf.bo,λy j A B N t v k r u _=>?_,λy j A B x F N t v k r a0 b0 c0 d0 f0 g0 h0=>?_⟩;let⟨i0,j0,k0⟩:=FG (l.gN c O) sC N k r;unfold d3 at u;rw[s]at u;simp!;calc ga (m y) j0 i0$ Ġ.J u;let⟨i0,j0,k0⟩:=FG (l.gN c O) sC N k r;have m:Ő i (bU OB i.cells)=Ő i A:=fx a0.J8;have N:=h0;rw[s]at h0;have k:ğ i≠[]:=λw=>by have:F.told OB∈ğ i:=h0;rw[w]at this;simp at this
 have r:Ő i A≠[]:=λw=>by rw[m,w]at N;simp at N
 have u:=i0.obj;simp!;intro C u l0 m0 n0;have o0:Μ y$ ø (ø y u (.ü C)) C$ DW CC u []:=(Μ.new m0).trans$ NO$ DK (Ne.symm n0) l0;have p0:∀r0,r0∈j.ü\/r0∈j.ws->∃s0,YN y:=λr0 t0=>by let⟨s0,u0,_⟩:=v.there t0;exact⟨s0,u0⟩
 have v0:∀r0,hm (y r0)->r0∉j.ü/\r0∉j.ws:=λr0 u0=>⟨(λw=>by let⟨s0,w0⟩:=p0 r0 (.D w);rw[u0]at w0;cases w0),λw=>by let⟨s0,w0⟩:=p0 r0 (.X w);rw[u0]at w0;cases w0⟩;calc⟨C,u,z.S,j,A,by rw[t.b],Α,v.same o0,(λw=>(v0 C l0).1 (by rw[w];simp[Bx.ü])),by rw[a0.fM.wf.lp];calc p.n9,λx0 y0 z0 A0 B0 C0 D0 F0 G0=>?_⟩;have H0:∀r0,hm (ø (ø y u (.ü C)) C (DW CC u []) r0)->hm (y r0):=λr0 u0=>o0.free u0;have I0:Μ y A0:=λr0 s0 u0=>OY B0 (ρ u0 l0)$ ga o0 u0;have J0:=H0 _ F0;have K0:Fq OB.n A.ζ$ tn A.ζ:=by have:=Rw A.ζ;rw[a0.fM.wf.lp]at this;exact this
 generalize M0:tn A.ζ=N0 at K0 G0;have told:∀u0 O0,F.S u0 O0->∃P0,(P0∈Ő i A/\P0.getD O0 0=u0+1):=λu0 O0 w=>⟨_,by rw[<-m];calc N,(x4 f0 g0$ f0.sc w).Q w⟩;have N:fB i OB A A N0 A.Ú:=fB.start a0.fM a0.fin r p.n.symm;have Q0:fB i OB A A N0$ fA A.ĵ F.Ú N0 A.Ú:=N.ae5 p a0.fM K0 a0.fM a0.fin (λ_ _=>Iff.rfl) (λ_ w=>w) (λ_ _ w=>w) told (λ_ _ w=>.D w) f0.wf.bs;have N:=G0.obj;simp!;calc⟨C,u,z.S,j.b,x0,z0,y0,A.ĵ,N0,A.Ú,x,F,I,G0,b0.same I0,(λw=>by let⟨s0,w0,_⟩:=b0.there (.D w);rw[J0]at w0;cases w0),λN R0 S0 T0=>?_,λU0 V0 W0=>?_⟩;have:=K0.lt N R0 S0 T0;rw[a0.fM.wf.ls,f0.wf.ls];calc⟨this,this⟩;have N:Μ y U0:=λr0 s0 u0=>OY V0 (ρ u0 J0)$ ga I0 u0;have y:z.S∉j.ü:=λw=>(t.ü _ w).elim h λw=>by rw[c.se.obj]at w;cases w
 have c:∀r0 s0,r0∉L.ü->YN D->r0∉j.ü:=λr0 s0 t0 u0 w=>(t.ü _ w).elim t0 λw=>by rw[u0]at w;cases w
 have h:y3 i OB A N0 U0 C u z.S z.T6 z.Lp z.kd (wp L.La) B j G H J x0 y0 z0 A$ fA A.ĵ F.Ú N0 A.Ú:=⟨G0.aau V0 W0,v.same N,⟨by rw[t.La];calc k0.same N,by rw[t.La];calc SZ sC.nL sC.jf.obj,SZ sC.nu sC.jf.us,SZ sC.nd sC.jf.ul⟩,⟨NG i0.se.obj,NG i0.se.kn,i0.se.ok⟩,⟨(v0 _ l0).1,y,(v0 _$ H0 _ C0).1,λD R0=>(v0 _$ H0 _$ D0 D R0).1,(v0 _ J0).1,(v0 _ J0).2,λw=>by have:=k0.us;rw[<-w,J0]at this;cases this⟩,Q0,p,a0.fM,K0,r⟩;have v:=h.ch.obj;simp!;calc⟨i,OB,A,N0,C,u,z.S,z.T6,z.Lp,z.kd,_,B,j,G,H,J,x0,y0,z0,A,_,I,h,ig a0.fM.wf.n9 a0.fM.wf.bo,λy c p r D j B h v=>?_⟩;have X0:cN z d y:=λr0 s0 d Y0 u0=>OY B (λw=>by rcases ν.J w with w|w;calc Y0 w;rcases ν.J w with w|w;have:=OY j0 d Y0 u0;rw[w,J0]at this;cases this;rcases t.ü r0 w with w|w;rw[e r0 w]at u0;cases u0;rw[OY O d u0]at w;cases w)$ NG$ OY j0 d Y0 u0;have O:ih i y z (wp L.La) D:=l.next X0 j.se$ .X ⟨L.La,G,H,J,I,by have:=j.lo.jf;rw[h.La,t.La]at this;calc this⟩;have e:∀O0,lx r O0 OB.n=cw i O0:=λO0=>by calc aaJ (q:=i) λS0=>?_;rw[v S0 O0,<-m,s]
 have N:∀{B:Hp},NL Μ->y3 i OB A N0 B C u z.S z.T6 z.Lp z.kd (wp L.La) D c G H J x0 y0 z0 p r:=λt=>j.keep (λr0 s0 _ u0=>OY t u0) (MP j.se.kn) j.se.ok;simp!;calc af λh B s m v=>?_;have j:=(N m).ch.obj;simp!;calc⟨i,OB,A,N0,C,u,z.S,z.T6,z.Lp,z.kd,_,D,c,G,H,J,x0,y0,z0,p,r,I,N m,λt B G H J=>?_⟩;have A:t≠h:=ρ v H|>.symm;have u:BR (OB.n*OB.n) (λO0=>lx r O0 OB.n)=BR SJ (cw i):=ö λO0 _=>e O0;rw[u]at J;have c:SJ<=9*9:=Ë (lv l.cn)$ lv l.cn;calc sw$ cD (xs:=Ě$ BR SJ$ cw i) (.D (.D J)) (λp D N=>X1 λj=>A3 (D=[AT z.a,AT L.b,AT x.b,AT C,f4 NB,j]) (∀r0 s0,r0≠h->YN B->YN N) (N h=xL (Iw i p))) ⟨none,I,λ_ _ _ u0=>u0,LC v⟩ (λ p D N _⟨j,_,t,_⟩=>wT$ MP A J);rintro p P0 D H f r e ⟨j,I,u,l⟩;have c:=r.n;have L:=(φ.J e).1;have x:p<SJ:=by simpa[Τ]using L
 rw[WS x,ax,ii x]at e;cases e;have v:(Ě$ Iw i p).length=2*p:=by rw[Τ];exact sF i p
 rw[uo]at c;generalize cw i p=B at c|-;have N:ī (jp B) 255=kw (B%256):=by have d:ī (jp B) (kw 255)=kw (B&&&255):=e_ B 255;have Y0:B&&&255=B%256:=M.and_two_pow_sub_one_eq_mod B 8;rw[<-Y0,<-d];rfl
 have J:=sF i p;simp!;calc wn (by show BC;lia);simp!;calc wn (by show BC;simp;lia);simp!;calc SZ ⟨_,I,λr0 s0 t0 u0=>by rw[ω t0,ω t0];calc OY u t0 u0,?_⟩;rw[Α,N];simp[Ě,zs];rintro D H ⟨j,I,u,l⟩;rw[Τ,θ,Ð]at l;simp!;have A:Μ y H:=λr0 s0 u0=>OY u (ρ u0 s)$ LC$ NC u0;calc ga (o h H) (λr0 s0 d Y0 u0=>ga A$ OY X0 d Y0 u0) (O.same A) k (X0.free O s) l
end
def ih.apl{z:Qx}{a:β}(d:DF (lf ih z))(g:AH (cN z))(l:FV (FF (DX mN))):FV$ FF$ mN e j:=by
 have k:∀o p,c o=f4 p->(∀i,p≠.dT i)->o≠z.kd:=λo p q r w=>by rw[w,d.se.kn]at q;exact r _ (Ü q).symm
 have s:∀o p,c o=f4 p->(∀t u v,p≠EB .Ŀ v)->o≠z.S:=λo p q r w=>by rw[w,d.se.obj]at q;exact AY r (Ü q).symm
 calc⟨GK (đ l.obj d.se.obj ?_) (FZ (NN l.obj)) l.obj,GK (MZ l.us (by intro _ _ _ w;cases w)) (FZ (NN l.us)) l.us,GK (MZ l.ul (by intro _ _ _ w;cases w)) (FZ (NN l.ul)) l.ul⟩;intro w;injection w with _ _ w;have:=YT w;simp[yW,Du]at this
def aj1{a:St}{j:TG}{e:TT}{g:TE}{d:VK}{h:TA}{n:M}(k:∀d:GW,PF [PD n]->TY h)(u:n<Ζ)(f:JK β)(F:M->V)(m:∀v,hm (c v)->f v (WH v (AQ [])))(p:∀v x l y,GY f->x v=f4 (.Ý l)->f v (ø x v (.Ý y)))(q:∀v(b:M) x l,b<n->GY f->x v=f4 (.Ý l)-> ∀(i:VK),(∀z,f v z->z v=f4 (.Ý l)->i (F b) z)->j (AB GI) (Ş a o) x (λA B=>Ş A o=Ş a o/\HP e (λD z=>D=Z/\g A z i)))(r:∀G a c d H,(∀a c,mt d->mt H)->TY (j G)->mt (j G) H)(s:∀a c d H,(∀D c,d D c->H D c)->TY e->mt e H)(t:∀v J,hm (c v)->f v J->J v=WC (ι n)->d (.ref v) J):TY$ GZ (Lu (zx h) j) o:=by
 have L:=eR;calc k _ ⟨n,I,gt,gt,λv N=>?_⟩;calc⟨λb O x=>O=n-b/\b<=n/\GY f/\x v=WC (ι b),⟨n,mo,CY,m v N,Α⟩,?_⟩;rintro b O x ⟨I,y,H,L⟩;by_cases O:b<n;calc .X ⟨O,_,λJ y=>⟨_,gt,I,y⟩,λG B J=>?_⟩;let⟨I,I⟩:=J;rw[U.b_];calc AY (ga r) (λA z B=>⟨B.1,EY s (λD G y=>?_) B.2⟩)$ ga (q v b) O H L (λJ A=>∃D,A v=f4 (.Ý D)/\D.length<Ζ/\(BP<=n/\f v (ø A v (AQ (D++[J])))/\ø A v (AQ (D++[J])) v=BG (BR BP F))) λz G B=>?_;rw[BZ y.1];calc y.2;calc⟨_,B,by simp;lia,O,ga (p v z) G B,?_⟩;rw[Α,ę,Æ];rfl;have:b=n:=gt
 subst this;calc .D ⟨AK,GY t N H L⟩
inductive Qc(vs:g3)(H:Hp)(f:VK)(g:XK):Prop|mk(q:æ)(z:Qx)(d:β)(e:BA)(c:M):vs=[TH,AD c]->ab4 BK e->c<KO->QG (ğ q)->(∀a b,JY (cN z)->ih q a z BK b->f (.bl (fb q c)) a)->on (AJ Qc)
def aaK(b:Ĭ):IF mE 95 Qc:=by
 calc DI mE ["square","cell","others","board"] λc d e f h=>?_;let⟨i,z,j,k,m,I,n,o,p,q⟩:=h;have r:SJ<=9*9:=Ë (lv n.cn)$ lv n.cn;have s:m<i.cells.length:=by rw[n.len];exact o
 have t:=yb n.cn;have u:(sE i).units.length<=29:=by show(cX i).length<=29;unfold cX;rw[θ];have:=gp i;have:=lv n.cn;lia
 calc ln λv x y A B D G=>⟨_,adr (akQ (YW AG))$ η (FT G (ń uW QK.list ÿ QQ))$ η (oh Φ (og BU AG d7))$ η (GX G (MK Af D Cl XM))$ η (Ł (MK Z3 D FC (ε (RT (YW AG) Φ) (ol (TK AG)))))$ rc$ o8 vQ (asG wg D Cl XX) ŝ,?_⟩;have H:=n.obj;have J:=n.gv;walk_at "s";cases L:i.cells.getD m 0 with
 |zero=>
  have N:pr$ fb i m:=by unfold fb;rw[L];rfl
  rw[N]at q;simp! [Ė s,L];calc q d k (λ_ _ _ _ O=>O) n
 |HW c=>
  have f:=We n.len p o L;have h:=Rz t n.len p o L;have r:amB.length=SJ:=by rw[ť];exact n.len
  have v:=ib t (g:=amB) (by rw[r];rfl);have N:fb i m=sB (d3 i ((bU OB amB).Uw c (2^m))=0):=by
   unfold fb;rw[L,auR.Q h];have:(BD !=0)=Z:=mo
   rw[this,aY];show((ğ$ nt i amB).length==1)=sB (QG (ğ (nt i amB)));generalize (ğ$ nt i amB).length=x;by_cases O:x=1;subst O;rfl;rw[PM O];simpa using O
  generalize y:(bU OB amB).Uw c (2^m)=A at N;have B:ú OB A:=by rw[<-y];exact IQ Ny m
  have D:kw BD≠0:=gt
  have G:¬jp c+1=0:=gt
  simp! [Ė s,L,G];calc af λl H J o h=>?_;have x:Gn (Ě i.cells).length (jp m)=f4 m:=fJ (by rw[Τ];calc s);have e0:ø H l (LO ((Ě i.cells).set m XD)) l=XC (Ě amB):=by rw[Α];exact LM (λD=>f4$ HO.Ý D)$ agv i.cells m 0
  have G:LF$ ø H l$ LO$ (Ě i.cells).set m XD:=λh x O=>by rw[ω$ ρ O J];exact ga o O
  have q0:=n.same G;have D:=q0.obj;have d:=q0.se.obj;simp!;generalize ø H l (LO ((Ě i.cells).set m XD))=J at e0 G q0 D d|-;calc⟨z.S,z.T6,z.Lp,z.pdx,z.pu,z.pd,z.kd,l,PX,sE i,amB,I,q0.se.obj,q0.lp,lv n.cn,u,q0.la,e0,by rw[r];lia,λo H n u r D d H a0 sC b0 c0 d0 f0=>?_⟩;subst b0;have g0:j=D.La:=by rcases d with w|w;cases w;exact V.ref.inj w
  have j:z.kd≠z.S:=(AF$ đ q0.se.obj q0.se.kn).symm;have d:ih i o z (wp D.La) k:=q0.next (λh x h0 _ O=>H h x h0 O) ⟨a0,LT j q0.se.kn,q0.se.ok⟩$ .X ⟨D.La,n,u,r,I,sC.jf⟩;have j:∀h,h∈D.ü->hm (J h):=λh i0=>(c0 h i0).1;have j0:z.S∉D.ü:=λi0=>(c0 _ i0).2 I;have k0:=f0.obj;have l0:=d.obj;have m0:=d.gv;have n0:abV 1 (m:M):=⟨gt,gt,DU⟩;simp! [Ė s,L];calc⟨D,_,c,2^m,mo,f0,M.lt_of_lt_of_eq f v.wf.lp.symm,λm s L=>?_⟩;have c:bg m D A:=by rw[<-y];exact L
  have f:∀h x,J h=XV->h∉D.ü:=λh x O i0=>by rw[j h i0]at O;cases O
  have v:=MZ (JI q0.obj) d.obj;have y:=MZ j0 d.se.obj;have L:=MZ (JI q0.se.kn) d.se.kn;simp!;rw[N]at q;have J:∀{v:Hp}{N:BA},ė (z.kd::D.ü) m v->v z.kd=f4 (.dT N)->aT i OB N->e (VH (d3 i A=0)) v:=λ{v N} f e m=>by have o0:ė (z.kd::D.ü) o v:=λh x i0 O=>f h x i0$ s h x (λw=>i0$ BI w) O;let⟨o,p0,_⟩:=q0.gN d H j j0 sC o0 e m;exact q v N (λh x p q O=>FH (p0 h x)$ LC O) (by rw[g0];calc o)
  calc⟨i,z.S,z.T6,z.Lp,z.kd,wp D.La,k,D,n,u,r,OB,A,I,⟨y,L,d.se.ok⟩,j0,sC.step s anh,c,t,B,ig B.wf.n9 B.wf.bo,λv H j N f i k e m p _=>?_,λv H j N t F f i k e m O A B G h x n=>?_⟩;have:=JV J m;rw[ZI p]at this;simp!;simpa using this;simp!;have:=JV J m;rw[PM (λw=>by unfold d3 at w;rw[Ġ.J w]at n;simp at n)]at this;simpa using this
def D8(a:æ):f8:=BR FK λb=>if io fb=Z then 1 else 0
inductive Qe(vs:g3)(H:Hp)(f:VK)(h:XK):Prop|mk(q:æ)(z:Qx)(d:V)(e:BA):vs=[TH]->s3 ab4->(∀a b c,atq ((ğ q).length≠1->f .Ť a))->(∀g a b c,atq (QG (ğ q)->UI H->a g=xL (D8 q)->f FU a))->GP (AJ Qe)
def aaL(b:Ĭ):IF j8 96 Qe:=by
 calc DI j8 ["square","cell"] λc d e f h=>?_;let⟨i,z,j,k,I,m,o,p⟩:=h;have q:SJ<=9*9:=Ë (lv m.cn)$ lv m.cn;have r:=yb m.cn;have s:=ib r (g:=i.cells) (by rw[m.len];rfl);have t:d3 i (bU OB i.cells)=(ğ i).length:=by unfold d3;rw[iy r m.len]
 calc ln λu v x y A B D=>⟨_,afb (ď (ND (asG lr B Cl (ε (JE mw B ZZ) (ol Φ))) Φ))$ rc$ ID D (alt QK (ol (UZ QQ))) (İ (ü:=[("cell",1)]) (by show EA (dj ["square","cell"] (HN 15));decide+AO)) (λ_ _ _ _ _=>Ψ 1 D) Tm λ_ _ _ _ _=>F_ (dm (JE aaK B (Tl (ol AG)))) Φ Φ,?_⟩;have G:=m.obj;have H:=m.se.obj;walk_at "s";simp!;calc⟨i,z,j,k,I,m,λJ L N O c f q u sC v x y A=>?_⟩;simp!;calc⟨i,z.S,z.T6,z.Lp,z.kd,_,k,c,L,N,O,OB,_,2,I,u.se,x,sC,A,r,s,gt,ig s.wf.n9 s.wf.bo,λD G j H J f y k r s _ A G=>?_⟩;let⟨j,y,k⟩:=HX (GY (m.gN u q) sC f);rw[t]at A G;have t:J=1↔QG (ğ i):=gt
 by_cases B:J=1;have q:=t.J B;subst B;simp! [-ags];calc sw (aj1 (n:=SJ) ?_ (by show BC;lia) (λu v=>hm (D u)/\cN z D v/\∃x,ih i v z (wp c.La) x) (λf=>CK (if UN (fb i) then 1 else 0))) ?_ (λr s d e A G h=>LC h) (λs d e A G h=>LC h) ?_;intro v x;have r:=j.obj;have d:=j.gv;simp! [m.len];simpa using x;intro u e;calc⟨e,λh s _ _ t=>DK (ρ t e) t,H,j.same$ Μ.new e⟩;rintro u A l G ⟨e,v,r,m⟩ x;have d:cN z D$ ø A u$ .Ý G:=λh s q H t=>DK (ρ t e)$ v h s q H t;calc⟨e,d,r,j.next d ⟨DK (AF (đ m.se.obj x)) m.se.obj,DK (AF (đ m.se.kn x)) m.se.kn,m.se.ok⟩$ .X ⟨c.La,L,N,O,I,j.apl d k⟩⟩;rintro u f A l G ⟨e,v,r,m⟩ x L N;walk_at "w";simp!;calc⟨i,z,c.La,r,f,I,m,G,q,λO k d L=>?_⟩;have:=N O ⟨e,λh s q H t=>d h s q H$ v h s q H t,k,L⟩$ d u _ (AF (đ x m.se.obj)) (AF (đ x m.se.kn)) x;by_cases c:UN (fb i);rw[c]at this|-;simp!;simpa using this;have G:pr$ fb i f:=Re
 rw[G]at this|-;simp!;simpa using this;rintro u A e ⟨_,v,r,m⟩ x;calc p u A _ r (λh s q H t=>v h s q H$ y h s q H t) m q (y.free j e) ?_;rw[x,ľ];unfold D8;rw[Χ];rfl;have q:=λw=>B$ t.Q w;have N:¬jp J=1:=gt
 simp! [B,N];calc ga (o D) y j q
inductive Qf(vs:g3)(H:Hp)(f:VK)(h:XK):Prop|mk(q:æ)(x d a:β)(c:U):vs=[DJ,AD q.n,On,AC]->TQ (YZ d [])->WR q.bY->q.diagonal=(c==1)->(2<=q.n/\q.n<=9/\Ō q.n q.bY=Z)->q.cells=Λ KO 0->(∀b z,z.a=x->(∀e g,e≠x->H e=HK->EV=HK)->ih q b z .Ť []->f .Ť b)->GP (AJ Qf)
def aaM(b:Ĭ):IF jF 5 Qf:=by
 calc DI jF ["self","n","diagonals","region"] EO;let⟨h,i,j,k,l,I,m,n,o,p,q,r⟩:=g;have s:LD<=9*9:=Ë (lv p)$ lv p;have t:jp h.n*jp h.n=kw LD:=by rw[U.am]
 have u:h.bY.length=LD:=by have:=wS p;unfold Ō at this;rw[ξ]at this;simpa using this.1
 have x:k≠i:=AF$ đ n m;have y:Dq h.n (l==1) h.bY=cE h:=by rw[<-o];rfl
 calc ank ⟨_,auC$ OS (JE Zu J (VQ (ZY XX)))$ OS (Í xu (WD Φ) (KK AG AG))$ OS (JE Hx J (VQ QQ))$ μ$ agB$ gQ (aab b) J QQ,?_⟩;have N:l9 (jp h.n)$ jp h.n:=LV;have O:Ζ=16777216:=eR;walk_at "s";simp! [-ĕ];calc sk m Pc 0 I λc e f=>?_;have g:=MX x n;simp! [-ĕ];calc⟨h.n,l,k,h.bY,I,dq g,p.1,lv p,u,λs o A B D G H J=>?_⟩;rw[y]at J;have L:=LG f;have N:SB i d A:=λm c k l=>LG$ AI MX;have n:s≠i:=(ρ f D).symm;have u:∀m,m∈o->m≠i:=λm k=>(ρ f (G m k).1).symm;simp! [-ĕ];calc sk L vl 1 I λx g y=>?_;simp! [-ĕ];calc af λd e B D f=>?_;have G:-QL<=kw LD/\kw LD<QL/\[XD].length*(kw LD).aj<=Ζ:=⟨gt,gt,by rw[U.a0,O];simp;lia⟩;have L:(Λ LD [XD]).bQ=Ě h.cells:=by rw[q];generalize LD=x;induction x with
 |zero=>rfl
 |HW x d=>rw[cQ,kl,d,cQ];rfl
 simp! [t,L,-U.am,-ĕ,-List.flatten_replicate_singleton];calc af λe B f O G=>?_;have x:=PL y;have t:=ML x;have L:e≠i:=(ρ x f).symm;simp! [-ĕ];calc sk t mn 2 I λd B y=>?_;have f:SB i A d:=λm c k l=>LG k$ ML$ PL$ AI GK;have x:=LG L G;have t:=gp h;have g:=lv p;have D:(aM "givens" (V.ref e)$ aM "units" (V.ref s)$ aM "n" (HM h.n) []).E (FP "units")=f4 (V.ref s):=I;simp! [D,-ĕ];calc⟨h.n,s,o,cE h,I,lv p,JI n H,dk.eI J λm c k l=>JI (u m k) l,gt,λv O G B=>by have:=d_ O B;lia,λt g D G O B a0 b0 c0 d0=>?_⟩;have f0:=LG y;have g0:∀h0,hm (d h0)->h0≠i:=λh0 l=>(ρ y l).symm;simp! [-ĕ];calc sk f0 sg 3 I λy i0 j0=>?_;have k0:(aM "layout" (V.ref t)$ aM "givens" (V.ref e)$ aM "units" (V.ref s)$ aM "n" (HM h.n) []).E (FP "layout")=f4 (V.ref t):=I;simp! [k0,-ĕ];intro S h l0 m0 n0;have o0:Μ y$ ø (ø y h (.ü S)) S$ DW CS h []:=(Μ.new m0).trans$ NO$ DK (Ne.symm n0) l0;calc⟨S,h,t,I,Α,λp0 r0 s0 t0 u0 v0=>?_⟩;have w0:Μ y r0:=λm c l=>s0 m c (ρ l l0)$ ga o0 l;have y:S≠i:=(ρ j0 l0).symm;have x0:p0≠i:=(ρ (ga o0 j0) t0).symm;simp! [-ĕ];calc sk (ga w0 j0) si 4 I λy0 z0 A0=>?_;have B0:SB i O y0:=λm c k l=>ga z0 k$ ga w0$ AI$ ga i0;have O:SB i d y0:=λm c k l=>B0 m c k$ LG l;have d:SB i A y0:=λm c k l=>O m c k$ AI$ f m c;calc r _ ⟨i,j,s,e,t,S,h,p0,g,D,G,o⟩ I (λm c k l=>d m c k$ AI$ N m c) ⟨A0,ML L x,IB n H,dk.eI J λm c k l=>d m c (u m k) l,⟨ga z0 y v0,ga z0 x0 u0,arm λ_ _ w=>by simp at w⟩,⟨ga B0 (g0 _ a0) d0.obj,ga B0 (g0 _ b0) d0.us,ga B0 (g0 _ c0) d0.ul⟩,GQ,by rw[q,gD],p⟩
def qS(l:f8):OV:=BR l.length λa=>(OL$ kw DC,CK YE)
def sG(l:f8):aiT$ qS l:=by simp[qS]
def eO(l:f8){i:M}(a:i<l.length):ab (qS l) (OL (MC i))=f4 (CK (l.getD i 0)):=by
 unfold ab qS;rw[adK];have b:(ι l.length).cS ((λ c:ō×V=>sB (EZ=OL (i+1:M)))∘ λi=>((È (i+1:M)),FL$ l.getD i 0))=RW:=by rw[Ej];calc⟨mo,as2,λd e=>?_⟩;lia
 rw[b];rfl
def wh(l:f8){i:M}(a:M)(b:i<l.length):aR (qS l) (OL (MC i)) (HM a)=qS (l.set i a):=by unfold aR;rw[ii];unfold qS;rw[Χ,ť];apply ö;intro c d;simp only[aq];by_cases e:c=i;subst e;rw[KC,ś,BZ$ ln b];rw[IV,ś,MA$ e Da];rw[ô];calc⟨((È (i+1)),FL$ l.getD i 0),?_,mo⟩;calc χ.Q ⟨i,ψ.Q b,I⟩
def Iz(a:M)(b c:β)(d:M)(e f g:β):ES:=[("n",KM),("unit_sets",AZ),("unlinked",CO),("open_cells",OR),("digits",EN),("places",EH),("stands",FU)]
section
variable(n:M)(u d:β)(o:M)(g p s:β)
@[simp]def Qg:arj.E (FP "n")=f4 JN:=I
@[simp]def aeD:arj.E (FP "unit_sets")=f4 (.ref u):=I
@[simp]def aj2:arj.E (FP "unlinked")=f4 BK:=I
@[simp]def aj3:arj.E (FP "open_cells")=f4 (.int o):=I
@[simp]def arx:arj.E (FP "digits")=f4 FU:=I
@[simp]def Qh:arj.E (FP "places")=YC:=I
@[simp]def aj4:arj.E (FP "stands")=f4 VY:=I
@[simp]def ahw:hu arj "put":=I
@[simp]def agF:hu arj "take":=I
@[simp]def ahx:hu arj "has_no_filling":=I
@[simp]def agG:hu arj "candidates_of":=I
end
structure Sx where
 h:β
 dx:β
 u:β
 d:β
 g:β
 p:β
 s:β
structure mO(H:Hp)(x:Sx)(L:Ž)(S:Sh):Prop where
 obj:H x.h=f4 (akX x.dx (Iz L.n x.u x.d S.ĵ x.g x.p x.s))
 us:H x.u=xL L.units
 ul:H x.d=akT (ac2 L)
 dg:H x.g=f4 ((AQ ((Ě (BR L.n (·+1))))))
 pl:H x.p=akT (qS S.ζ)
 st:H x.s=akT (qS S.Ú)
 nps:x.p≠x.s
 ndp:x.d≠x.p
 nds:x.d≠x.s
end Sq
open Sq PySem L2 dO L3 in
local macro_rules | `(tactic| walk_at "fd") => `(tactic| first | exact mO.obj ‹_› | exact mO.us ‹_› | exact mO.ul ‹_› | exact mO.dg ‹_› | exact mO.pl ‹_› | exact mO.st ‹_›)
namespace Sq
open PySem L2 dO L3
variable{a:ř}
structure iX(L:Ž)(S:Sh):Prop where
 n9:L.n<=9
 lp:S.ζ.length=L.n
 ls:S.Ú.length=L.n
section
variable{base:ř}
inductive D9(vs:g3)(H:Hp)(d:VK)(e:XK):Prop|mk(x:Sx)(L:Ž)(S:Sh)(a:M):vs=[LW,KM]->SW ((∀c b,EW b->aqX->Db=f4 ((AQ ((Ě (JH S.Ă (·+1))))))->d CO b)->SD D9)
def I3(a:Ĭ):f9.P base 1 D9:=by
 calc f9.ok ["self","cell","digit"] aun;let⟨g,h,S,j,I,k,l,m⟩:=f;have n:=k.obj;have o:=l.n9;calc ln λp q r s t u x=>⟨_,atf$ ID x (ņ Cl) (İ (ü:=[("digit",2)]) (by show EA (dj ["self","cell","digit"] (ê (JU 80 4)));decide+AO)) (λ_ _ _ _ _=>IJ x)$ YR$ dm$ GC (aX (ba u) Cl BU WJ) AG,?_⟩;walk_at "s";simp!;calc sw$ G8 (xs:=Ě (BR h.n (·+1))) (wT k.dg) (by rw[Τ];show BC;simp;lia) (λy=>S.ζ.getD y 0&&&j !=0) λy=>CK (y+1);intro z v A B D G H J L;have N:z<h.n:=by have:=(φ.J B).1;rw[Τ]at this;simpa using this
 have O:(BR h.n (·+1)).getD z 0=z+1:=by rw[γ,Δ,ë N];rfl
 rw[WS N,O]at B;cases B;have b:=eO S.ζ (i:=z) (by rw[l.lp];calc N);have c:=PL n;have d:=PL k.pl;walk_at "w";by_cases e:S.ζ.getD z 0&&&j=0;simp! [b,e,-U.aA];calc IR$ L arE;simp! [b,e,-U.aA];calc IR$ J arE;intro g A f D o;rw[Τ,θ,Ð]at o;calc m g A D f ?_;rw[o,ľ,Χ];unfold Sh.Ă;rw[l.lp];rfl
inductive Qi(vs:g3)(H:Hp)(b:VK)(c:XK):Prop|mk(x:Sx)(L:Ž)(S:Sh)(d i:M):vs=[LW,MH IG,MH (2^i)]->SW (d<L.n->i<ZM->(∀a,JY (ė [x.h,x.p,x.s])->mO a x L (S.put L d i)->b .Ť a)->RC Qi)
def I4(H0:Ĭ):vh.P base 1 Qi:=by
 calc vh.ok ["self","digit","cell","other"] λI0 h0 P0 Q0 J0=>?_;let⟨d,m,S,h,u,I,c,o,d0,x0,K0⟩:=J0;have p:=c.obj;have M0:=o.n9;have y0:=o.lp;calc ln λR0 G0 S0 w0 N0 x z0=>⟨_,η (KG MR (FN z0) (μ (rM (ba x) MR OK (PH LK) l_)))$ η (rM (ba x) MR IC (aX (ba x) MR LK WJ) l_)$ η (rM (ba x) MR IC LK cM)$ μ$ r6 JF (PH LK) l_,?_⟩;simp only[Ym];have j:d.h≠d.p:=AF$ đ c.obj c.pl;have J:d.h≠d.s:=AF$ đ c.obj c.st;have L:d.g≠d.p:=AF$ đ c.dg c.pl;have i0:d.g≠d.s:=AF$ đ c.dg c.st;have j0:d.u≠d.p:=AF$ đ c.us c.pl;have k0:d.u≠d.s:=AF$ đ c.us c.st;have l0:d.g≠d.h:=AF$ đ c.dg c.obj;have m0:d.u≠d.h:=AF$ đ c.us c.obj;have n0:d.d≠d.h:=AF$ đ c.ul c.obj;calc sw$ sw$ aiB (a:=d.g) (xs:=Ě (BR m.n (·+1))) (by intro O0 A0;walk_at "s";simp!;calc A0) (wT c.dg) λn y A=>(∃B0,y=[AT d.h,NQ (h+1),NQ (2^u),B0])/\ ∃e,A=ø h0 d.p (NF (qS e))/\e.length=m.n/\∀g,e.getD g 0=if g<n then õ (S.ζ.getD g 0) (2^u)else S.ζ.getD g 0;calc⟨JA none,S.ζ,?_,y0,λg=>mo⟩;funext b;unfold ø;split;rename_i z;rw[z,c.pl];rfl;rintro n y A _ ⟨_,e,I,_⟩;calc wT$ (ω L).trans c.dg;rintro n v y A f0 ⟨⟨B0,I⟩,e,I,o0,l⟩;have p0:n<m.n:=by have:=(φ.J f0).1;rw[Τ]at this;simpa using this
 have C0:(BR m.n (·+1)).getD n 0=n+1:=by rw[γ,Δ,ë p0];rfl
 rw[WS p0,C0]at f0;cases f0;have q:=im$ eO e (i:=n);have r:=λz=>im$ wh e (i:=n) z;have k:ø h0 d.p (HO.dK (qS e)) d.h=_:=(ω j).trans p;calc⟨_,I,d.h,CH,d.dx,_,_,I,k,tH.cl,tH.Ep,Qh ..,_,I,d.p,_,_,_,I,Α,I,q,_,I,_,Α,(by rw[sG];show BC;lia),?_⟩;calc⟨EJ,e.set n$ RQ (e.getD n) (2^u),?_,by rw[ť];calc o0,λg=>?_⟩;rw[bx];dsimp only;rw[oI,r];rw[ś,l,l];by_cases g0:g=n;subst g0;rw[BZ$ ln gt,IV,JO];rw[MA$ g0 Da];by_cases f:g<n;rw[abm,JO];rw[hf f,IV];rintro y A ⟨⟨B0,I⟩,e,I,o0,l⟩;rw[Τ,θ,Ð]at l;have N:e=S.ζ.q (λg0=>õ g0 (2^u)):=by apply dV;intro g;by_cases g0:g<m.n;have B:=l g;rw[BZ g0,γ,γ,im δ,im δ]at B;rw[Δ,im δ,im δ];simpa using B;rw[SC,Á (by rw[θ];lia)]
 have q:=im$ eO e (i:=h);have r:=λz=>im$ wh e (i:=h) z;have r0:=eO S.Ú (i:=h) (by rw[o.ls];calc d0);have s0:=λz=>wh S.Ú (i:=h) z (by rw[o.ls];calc d0);have k:ø h0 d.p (HO.dK (qS e)) d.h=_:=(ω j).trans p;calc⟨_,I,d.h,CH,d.dx,_,_,I,k,tH.cl,tH.Ep,Qh ..,_,I,d.p,_,_,_,I,Α,I,q,_,I,d.h,CH,d.dx,_,_,I,k,tH.cl,tH.nUl,aj2 ..,_,I,d.d,_,_,_,I,DK c.ndp c.ul,I,Hr m x0,_,Α,(by rw[sG];show BC;lia),?_⟩;rw[bx];dsimp only;rw[e_,r];let⟨s,f⟩:∃s,ø h0 d.p (HO.dK (qS (e.set h (HV e.getD&&&m.qf u))))=s:=EJ;rw[f];have O:s d.h=f4 (akX d.dx (Iz m.n d.u d.d S.ĵ d.g d.p d.s)):=by rw[<-f];exact(ω j).trans p
 have a0:s d.s=akT (qS S.Ú):=by rw[<-f];exact DK c.nps.symm c.st
 calc⟨_,I,d.h,CH,d.dx,_,_,I,O,tH.cl,tH.nSt,aj4 ..,_,I,d.s,_,_,_,I,a0,I,r0,_,I,_,a0,(by rw[sG,o.ls];show BC;lia),?_⟩;dsimp only;rw[Hn,s0];let⟨D,t⟩:∃D,ø s d.s (HO.dK (qS (S.Ú.set h (HV S.Ú.getD|||2^u))))=D:=EJ;rw[t];have b0:D d.h=f4 (akX d.dx (Iz m.n d.u d.d S.ĵ d.g d.p d.s)):=by rw[<-t];exact(ω J).trans O
 calc⟨_,I,d.h,CH,d.dx,_,_,I,b0,tH.cl,tH.nOp,aj3 ..,_,I,d.dx,_,b0,(by show Id 7;decide),?_⟩;dsimp only;rw[oI];have G:∀c0 t0,c0≠d.h->c0≠d.p->c0≠d.s->h0 c0=f4 t0->ø D d.h (akX d.dx (Iz m.n d.u d.d (õ S.ĵ (2^u)) d.g d.p d.s)) c0=f4 t0:=λc0 t0 B D0 F0 g=>by rw[ω B,<-t,ω F0,<-f,ω D0];exact g
 have u0:(S.put m h u).ζ=e.set h (HV e.getD&&&m.qf u):=by show(S.ζ.q _).set h _=_;rw[N];have v0:=l h;rw[ii d0]at v0;rw[<-N,v0]
 calc K0 _ (λc0 t0 H g=>by simp at H;calc G c0 t0 H.1 (lv H) (wS H) g) ⟨Α,LC m0 j0 k0 c.us,LC n0 c.ndp c.nds c.ul,LC l0 L i0 c.dg,?_,?_,c.nps,c.ndp,c.nds⟩;rw[ω j.symm,<-t,ω c.nps,<-f,Α,u0];rw[ω J.symm,<-t,Α];rfl
end
def mO.same{d c:Hp}{e:Sx}{f:Ž}{S:Sh}(a:IH mO S)(b:DB Μ):py (mO c) S:=⟨VN a.obj,VN a.us,VN a.ul,VN a.dg,VN a.pl,VN a.st,a.nps,a.ndp,a.nds⟩
inductive aaN(vs:g3)(H:Hp)(b:VK)(c:XK):Prop|mk(x:Sx)(L:Ž)(S:Sh):vs=[LW]->SW (L.units.length<=1000->(∀a,IS (b (.bl (S.dead L)) a))->RC aaN)
def Qj(b:Ĭ):fL.P a 1 aaN:=by
 calc fL.ok ["self","candidates","digit","cells","unit"] EO;let⟨h,j,S,I,k,l,m,n⟩:=g;have o:=k.obj;have p:=l.n9;have q:=l.lp;calc atd ⟨_,NH (KW z)$ η (auc (IJ z) (η (bN 1 z (aX (ba y) Cl BU WJ) cM) (η (GX z (Í Wz (aX (ba y) Cl BU WJ) (aX (ba y) Cl BU WJ))) (HL (YL (Ļ (aiN I) QK.all kf (ol (ID z (ņ Cl) (İ (ü:=[("unit",4)]) (by show EA (dj ["self","candidates","digit","cells","unit"] (ê (JU 80 3)));decide+AO)) (λ_ _ _ _ _=>IY z) Tm (λ_ _ _ _ _=>RF CV)))) (rc jv))))))$ rc$ o8 cY AG Cl,?_⟩;walk_at "s";simp!;calc sw$ cD (xs:=Ě (BR j.n (·+1))) (wT k.dg) (λA B D=>X3 λG H J=>A3 (LF D) (∀L,L<A->S.okD j L=Z) (B=[TN,BJ$ dz$ S.ζ.take A,G,H,J])) ⟨none,none,none,HJ,λL N=>kt N$ adD _,I⟩ (λ A B D _⟨_,_,_,g,_,_⟩=>wT$ GK k.dg);rintro A v B D f O c ⟨G,H,J,e,m,I⟩;have o:=O.n;have p:A<j.n:=by have:=(φ.J c).1;rw[Τ]at this;simpa using this
 have r:(BR j.n (·+1)).getD A 0=A+1:=by rw[γ,Δ,ë p];rfl
 rw[WS p,r]at c;cases c;have s:=k.same e;have t:=s.obj;have u:=im$ eO S.ζ (i:=A);have x:=eO S.Ú (i:=A) (by rw[l.ls];calc p);have y:dz (S.ζ.take (A+1))=dz (S.ζ.take A)|||S.ζ.getD A 0:=by unfold dz;exact im$ ga d8 S.ζ 0
 rw[y]at o;simp! [u,x,-U.aA];calc sw$ G8 (xs:=ap_) (wT s.us) (by rw[Τ];show BC;lia) KY λz=>CK (asZ&&&j.units.getD z 0);intro z v d c h f g r l;let⟨u,I⟩:=Ū c;walk_at "w";simp!;calc IR$ r I;intro x d y h f;have g:(FX ap_.length KY).q (λz=>CK (asZ&&&j.units.getD z 0))=BT (zs$ j.units.q λl=>asZ&&&l).q:=by rw[Τ];have:=ķ j.units KY (λl=>CK (asZ&&&l)) 0;rw[this,CZ];unfold zs;rw[Χ,Χ];rfl
 rw[g]at f;have c:((zs$ j.units.q λl=>asZ&&&l).all (·!=0))=S.okD j A:=by unfold zs Sh.okD;rw[fZ,fZ];congr 1;funext l;show(kw (asZ&&&l) !=0)=(asZ&&&l !=0);rw[ß,QR,QR];lia
 have r:=e.trans h;simp!;calc⟨x,_,I,.D$ .D f,?_⟩;rw[c];cases u:S.okD j A with
 |gl=>
  simp!;have y:S.dead j=Z:=by unfold Sh.dead;rw[Ą];exact .D$ ô.Q ⟨A,ψ.Q p,by rw[u];rfl⟩
  rw[y]at n;calc ga O.r$ n d r
 |Z=>simp!;calc ga o ⟨_,_,_,r,λL N=>?_,I⟩;by_cases z:L=A;rw[z];calc u;exact im$ m L
 rintro B D ⟨G,H,J,e,m,I⟩;rw[Τ,θ,Ð]at*;have y:S.dead j=sB (dz S.ζ≠S.ĵ):=by unfold Sh.dead;rw[show pr ((ι j.n).any (λL=>! S.okD j L)) from fV.Q (λL N=>by rw[m L$ ψ.J N];simp),lF]
 rw[y]at n;rw[<-q,Ò];have s:=k.same e;have t:=s.obj;by_cases g:dz S.ζ=S.ĵ;simp! [g];simpa[g]using n D e;simp! [g,U.cz];simpa[g]using n D e
end Sq
namespace Sq
open PySem L2 dO TL L3
variable{a:ř}{e:M}{b f:β}{c d:Hp}{h:f8}{i j:BV}
def ć(a:f8):ï:=⟨a.ac⟩
def sH(a:ï):ć (tl a)=a:=by rfl
def ŵ(a b:f8):ć a++ć b=ć (a++b):=by rw[<-sH (ć a++ć b),t7];rfl
def Ŷ(a:f8):XB$ IZ ć:=by show XB a.ac.L;simp
def ă(a:HC):Ρ a=ć (a.aU.q zb):=by rw[<-sH$ Ρ a,G5]
def eg(a:M):Ρ (ag_ DD)=ć (Å a):=by rw[<-sH$ Ρ _,afN];rfl
def bE:qM=ć []:=I
def c7{n:M}(a:n<10):QG$ Å n:=by have:=aco a;show QG (acn n);rw[this];rfl
section
def eh{a:U}(b:Id a.a4):a.a4.cg<1920:=by have:a.a4.cg<=a.a4:=M.log2_le_self _;lia
inductive yd(vs:g3)(H:Hp)(a:VK)(b:XK):Prop|mk(n i:M):vs=[JN,NM]->1<=n->US->i<JB->a (HS (ć (dG n i))) H->TF yd
local macro_rules | `(tactic| walk_at "fd") => `(tactic| (refine zW ?_; (try simp only [ŵ, Ŷ, π, Ħ, Β]); omega))
def vv(b:Ĭ):IF vd 1 yd:=by
 calc DI vd ["n","cell","row","column"] EO;let⟨h,i,I,j,k,l,m⟩:=g;calc act ⟨_,η (FT u (WF (Í Cd AG FD) Φ))$ η (GX u (WF (Í oi AG FD) Φ))$ rc$ pX$ ZG$ ı (bf BU)$ ZG$ ı (bf FC) j6,?_⟩;have v:i/h<h:=ew l;have x:i%h<h:=im$ cF _;have y:jp i/FB+1=MC (i/h):=mo
 have z:jp i%FB+1=MC (i%h):=mo
 have A:=im$ c7 (n:=i/h+1);have B:=im$ c7 (n:=i%h+1);have D:(MC (i/h)).natAbs.log2<1920:=eh (by rw[U.a3];lia);have G:(MC (i%h)).natAbs.log2<1920:=eh (by rw[U.a3];lia);have H:afk (jp i) FB:=ZN;have J:jp 0<FB:=gt
 have L:Ρ (MC (i/h)).eE=ć (GF (i/h)):=eg _;have N:Ρ (MC (i%h)).eE=ć (GF (i%h)):=eg _;have O:Ρ "r"=ć (Ê "r"):=MT;have c:Ρ "c"=ć (Ê "c"):=MT;have d:QG$ Ê "r":=I;have e:QG$ Ê "c":=I;have f:t3 dG=Ê "r"++(GF (i/h)++(Ê "c"++GF (i%h))):=I;rw[f]at m;generalize i/h+1=j at y A D L m;generalize i%h+1=k at z B G N m;walk_at "s";simp! [y,z,L,N,O,c,bE,ŵ];calc m
def sI(a:f8):∀l:AU,EF G6=EF ē|[]=>I|[b]=>I|b::c::d=>by show b++(a++G6 a _)=b++(a++ē a _);rw[sI a _]
def iY(a:f8)(l:AU):vG (ć a) (l.q ć)=ć (EF ē):=by rw[acm,<-sH$ ga Q9,Ov,Χ];have:(tl∘ć)=id:=I;rw[this,km,sI];rfl
def pf{n i:M}(b:1<=n)(c:US)(a:i<JB):(dG n i).length=4:=by have d:=ew a;have e:i%n<n:=im$ cF _;unfold dG;rw[π,π,π,im c7,im c7];rfl
def ei{b a:M}(c:BB (zn Ï)):e.o a=Z:=by calc(υ.J c).2
inductive vw(vs:g3)(H:Hp)(b:VK)(c:XK):Prop|mk(n cells:M):vs=[JN,AB cells]->1<=n->US->cells<2^JB->(∀a,IS (b (HS (ć (cI n cells))) a))->RC vw
def h3(b:Ĭ):IF rT 2 vw:=by
 calc DI rT ["n","cells","cell"] EO;let⟨h,i,I,j,k,m,n⟩:=g;calc act ⟨_,rc$ C6 az$ ID u (ņ (JE gV t (ol IC))) (İ (ü:=[("cell",2)]) (by show EA (dj ["n","cells","cell"] (HN 76));decide+AO)) (λ_ _ _ _ _=>IJ u) Tm λ_ _ _ _ _=>JE vv t$ ε JF$ ol LK,?_⟩;have x:OC<=81:=Ë k k;have y:i<VZ:=Ä m$ im Uf;have z:(BS i).length<=100:=s4 OD;calc⟨EJ,_,I,i,I,y,λl A B D G=>?_⟩;calc⟨l,I,CM$ .D$ .D G,λH J=>sw$ mi (oy (xs:=Ě$ BS i)) KY (λL=>V.str$ ć$ dG h$ (BS i).getD L 0) J (by rw[Τ];show BC;lia) λN O=>O.seq$ .D$ .D G⟩;intro L v c d _ e f;let⟨I,f⟩:=f;calc⟨HJ,λg o p q=>?_⟩;let⟨r,I⟩:=Ū f;have s:(BS i).getD L 0∈BS i:=by rw[γ,δ r];exact Ö r
 calc ln ?_;simp only[Sv,↓ag9];calc⟨_,I,_,I,h,_,I,j,k,Į m$ ei s,IR$ p I⟩;intro c e u;rw[Τ,CZ]at u;have x:BR (BS i).length (λL=>V.str$ ć$ dG h$ (BS i).getD L 0)=akU ((BS i).q$ dG h).q:=by have:=ķ (BS i) KY (λy=>V.str$ ć$ dG h y) 0;rw[CZ,CZ]at this;rw[this,Χ,Χ];rfl
 rw[x]at u;calc⟨_,H,((BS i).q$ dG h).q ć,I,I,wT$ .D u,?_,?_⟩;have z:((((BS i).q$ dG h).q ć).q (·.length)).sum<=4*(BS i).length:=by
  rw[Χ,Χ];have:∀l:f8,(∀y,y∈l->y<OC)->(l.q (((λ A:ï=>A.length)∘ć)∘dG h)).sum<=4*l.length:=by intro l;induction l with
  |nil=>intro _;simp
  |cons D J N=>
   intro t;rw[Â,ĩ,Β];have G:=N λy m=>t y$ LS m;have O:(((λ A:ï=>A.length)∘ć)∘dG h) D=4:=by show(ć$ dG h D).length=4;rw[Ŷ,AS pf$ t D JJ]
   lia
  exact this _ λy d=>Į m$ ei d
 have G:QG$ Ρ " ":=DU
 rw[G,θ,θ];lia;have O:Ρ " "=ć [32]:=by rw[ă];rfl
 rw[O,iY];calc n c$ B.trans e
end
inductive ye(vs:g3)(H:Hp)(a:VK)(b:XK):Prop|mk(n u:M):vs=[JN,.int u]->2<=n->US->u<3*n+2->a (HS (ć (hA n u))) H->TF ye
def jT(b:Ĭ):IF ve 1 ye:=by
 refine DI ve ["n","place","word","number"] EO
 .let⟨h,i,I,j,k,l,m⟩:=g;calc act ⟨_,η (FT u (cB anL (rz (v:=wp tU) I (Hf b) I) (Í Cd IC JF)))$ η (GX u (WF (Í oi IC JF) Φ))$ rc$ pX$ ı (bf LK)$ ZG$ ı (bf OK) j6,?_⟩;have x:i%h<h:=im$ cF _;have y:jp i/FB=kw (i/h):=mo
  have A:jp i%FB+1=MC (i%h):=mo
  have B:=im$ c7 (n:=i%h+1);have D:(MC (i%h)).natAbs.log2<1920:=eh (by rw[U.a3];lia);have G:=eg (i%h+1);let⟨H,J,L,N⟩:∃H:HC,Mf[i/h]? =f4 (HS (Ρ H))/\ć (H.aU.q zb++[32]++GF (i%h))=ć (t3 hA)/\H.aU.length<=10:=by
   have O:=dJ i h;rcases(gt:i<h\/(h<=i/\i<2*h)\/(2*h<=i/\i<3*h)\/(3*h<=i/\i<4*h))with z|⟨c,e⟩|⟨c,e⟩|⟨c,e⟩;have q0:i/h=0:=mQ z;have f:i%h=i:=bS z;calc⟨"row",by rw[q0];rfl,?_,DU⟩;unfold hA;rw[LU,f];rfl;have q0:i/h=1:=by rw[im Bc];lia
   have f:i%h=i-h:=by rw[q0]at O;lia
   calc⟨"column",by rw[q0];rfl,?_,DU⟩;unfold hA;rw[IV,ii e,f];rfl;have q0:i/h=2:=by rw[im Bc];lia
   have f:i%h=i-2*h:=by rw[q0]at O;lia
   calc⟨"region",by rw[q0];rfl,?_,DU⟩;unfold hA;rw[IV,IV,ii e,f];rfl;have q0:i/h=3:=by rw[im Bc];lia
   have f:i%h=i-3*h:=by rw[q0]at O;lia
   calc⟨"diagonal",by rw[q0];rfl,?_,DU⟩;unfold hA;rw[IV,IV,IV,f];rfl
  calc⟨_,I,_,I,_,_,I,I,ZN,tU,Mf,_,_,I,I,uT d,(by rw[y];calc rE J),_,I,_,I,_,_,I,I,by show jp 0<h;lia,?_⟩;simp only[anr,aeh];rw[A];calc⟨_,I,.X ⟨_,I,?_,_,I,?_,_,I,?_,_,I,.D ⟨_,I,D,_,I,?_,?_,?_⟩⟩⟩;all_goals simp only[G,ă,bE,ŵ,Ŷ,π,θ,ag,B]
  show GT _;lia;show GT _;lia;show GT (H.aU.length+1);lia;show GT (H.aU.length+1+1);lia;show GT (H.aU.length+1+1);lia;rw[<-L]at m;calc m
def lnF(a:ï)(b:β):ES:=[("word",.str a),("cell_sets",AZ)]
section
variable(wd:ï)(c:β)
@[simp]def ary:(lnF wd c).E (FP "word")=f4 (HS wd):=I
@[simp]def arz:(lnF wd c).E (FP "cell_sets")=f4 CO:=I
@[simp]def apm:hu (lnF wd c) "lines_with":=I
@[simp]def apn:hu (lnF wd c) "cells_of":=I
@[simp]def apo:hu (lnF wd c) "told":=I
end
structure U4(H:Hp)(x b c:β)(wd:f8)(a:f8):Prop where
 obj:TQ$ DW CI b$ lnF (ć wd) c
 cs:H c=BG (Ě a)
def U4.same{e:β}{a:f8}(g:FG (DA (U4 c)) a)(i:re Μ):FG (DA (U4 d)) a:=⟨ga i g.obj,ga i g.cs⟩
section
inductive Qk(vs:g3)(H:Hp)(b:VK)(d:XK):Prop|mk(x a c:β)(wd:ï):vs=[DJ,HS wd,CO]->TQ (DW CI a [])->b .Ť (Ix ø (DW CI a (lnF wd c)))->v4 (AJ Qk)
def I5(b:Ĭ):IF k5 1 Qk:=by
 calc DI k5 ["self","word","cell_sets"] EO;let⟨h,i,j,k,I,l,m⟩:=g;calc arN ⟨_,auC$ μ$ agB BU,?_⟩;have u:ø d h (DW CI i (aM "word" (.str k) [])) h=f4 (DW CI i (aM "word" (.str k) [])):=Α;have v:Id ([]:ES).length:=DU
 have x:Id (aM "word" (V.str k) []).length:=by show Id 1;decide
 walk_at "s";simp! [bx];calc m
inductive I6(vs:g3)(H:Hp)(f:VK)(g:XK):Prop|mk(x d c:β)(wd a:f8)(cells:M):vs=[DJ,AB cells]->DB (Ix U4) wd a->a.length<=9->(∀e b,EW b->amV->EV=xL (aO a cells)->f EN b)->on (AJ I6)
def uq(b:Ĭ):iM.P a 1 I6:=by
 calc iM.ok ["self","cells","place","line"] EO;let⟨h,i,j,k,l,m,I,o,p,q⟩:=g;have r:=o.obj;calc ln λs t u x y z A=>⟨_,atf$ ID A (ak3 QK QQ) (İ (ü:=[("place",2),("line",3)]) (by show EA (dj ["self","cells","place","line"] (ê (JU 83 1)));decide+AO)) (λ_ _ _ _ _=>j9 (n:=2) I$ č (IJ A)$ JR$ FN A)$ YR$ dm$ RF AG,?_⟩;walk_at "s";simp!;calc sw$ lcE (xs:=HY) (dq o.cs) (by rw[Τ];show BC;lia) (λB=>l.getD B 0&&&m !=0) λB=>HM B;intro B v D G H J L N O c d;let⟨e,I⟩:=Ū H;calc LN$ aK L;walk_at "w";by_cases f:l.getD B 0&&&m=0;simp! [e_,f];calc IR$ d aqh;have h:¬kw (l.getD B 0&&&m)=0:=gt
 simp! [e_,f,h];calc IR$ c aqh;intro i D j J k;rw[Τ]at k;calc q i D J j ?_;rw[k,ľ];rfl
inductive aaO(vs:g3)(H:Hp)(e:VK)(g:XK):Prop|mk(x d c a:β)(wd b pl:f8):vs=[DJ,AC]->DB (Ix U4) wd b->WR pl->(∀f,f∈pl->f<b.length)->e (AD (kz b pl)) H->GZ (AJ aaO)
def D_(b:Ĭ):k6.P a 1 aaO:=by
 calc k6.ok ["self","places","cells","place"] EO;let⟨h,i,j,k,l,m,n,I,o,p,q,r⟩:=g;have s:=o.obj;calc ln λt u x y z A B=>⟨_,NH (FT B)$ akL$ aup (FN B)$ μ$ bN 2 B (YW FC) cM,?_⟩;have D:=o.cs;walk_at "s";simp!;calc sw$ cD (xs:=Ě n) (dq p) (λG H J=>X1 λL=>A2 (d=J) (H=[f4 NB,aig,BJ$ kz m$ n.take G,L])) ⟨none,I,I⟩ (λ G H J _⟨_,g,_⟩=>dq (by rw[<-g];calc p));rintro G v H J f N O ⟨L,I,I⟩;have c:=N.n;let⟨e,I⟩:=Ū O;have i:n.getD G 0<m.length:=q _ (by rw[γ,δ e];calc Ö e);have j:kz m (n.take (G+1))=kz m (n.take G)|||m.getD (n.getD G 0) 0:=by unfold kz;exact ga d8 n 0 e
 rw[j]at c;have l:=Ė i;simp! [l,Hn];calc SZ ⟨_,I,I⟩;rintro H J ⟨L,I,I⟩;rw[Τ,Ò];simp!;calc r
def iZ:∀a:AU,IZ (ē [32])<=(a.q ą).sum+a.length
 |[]=>CY
 |[b]=>by simp[ē]
 |b::c::d=>by show ZO (b++([32]++ē [32] _));have:=iZ (c::d);simp only[π,Β,Ħ,Â,ĩ]at this|-;lia
def wi:∀a:f8,(∀b,b∈a->b<9)->XB (WM (a.q (λb=>Å BP)))|[],_=>I|c::d,e=>by have f:=wi d λb g=>e b$ LS g;have h:=e c JJ;rw[Â,Â,ĩ,f,im c7,Β];lia
inductive I7(vs:g3)(H:Hp)(f:VK)(h:XK):Prop|mk(x e c a:β)(wd b pl:f8):vs=[DJ,AC]->CF (Ix U4) wd b->wd.length<=100->WR pl->pl.length<=9->(∀g,g∈pl->g<9)->(∀d,EW d->f (HS (ć (lnB wd pl))) d)->GP (AJ I7)
local macro_rules | `(tactic| walk_at "fd") => `(tactic| (refine zW ?_; (try simp only [ŵ, Ŷ, π, Ħ, Β]); omega))
def Al(b:Ĭ):rS.P a 1 I7:=by
 calc rS.ok ["self","places","numbers","place","word"] EO;let⟨h,i,j,k,l,m,n,I,o,p,q,r,s,t⟩:=g;have u:=o.obj;calc ln λx y z A B D G=>⟨_,η (FT G (Zm az (ID G (ņ AG) (İ (ü:=[("place",3)]) (by show EA (dj ["self","places","numbers","place","word"] (ê (JU 83 3)));decide+AO)) (λ_ _ _ _ _=>FN G) Tm (λ_ _ _ _ _=>ń aet QK.str wu$ ol$ WF FC Φ))))$ η (OG G Cl)$ rc$ pX$ ı (bf CV)$ ZG$ ı (bf BU) j6,?_⟩;walk_at "s";simp!;calc sw$ G8 (xs:=Ě n) (dq q) (by rw[Τ];show BC;lia) KY λH=>aof aiR;intro H v J L N O c d e;let⟨f,I⟩:=Ū L;have i:aiR<9:=s _ (by rw[γ,δ f];calc Ö f);have k:Ρ (kw aiR+1).eE=ć (GF aiR):=eg (aiR+1);have l:(kw aiR+1).natAbs.log2<1920:=im eh;walk_at "w";simp! [k];calc IR$ d I;intro m J p N r;rw[Τ,CZ]at r;have g:BR n.length (λH=>aof aiR)=akU atT.q:=by have:=ķ n KY (λj=>aof j) 0;rw[CZ,CZ]at this;rw[this,Χ,Χ];rfl
 rw[g]at r;have o:Ρ " "=ć [32]:=by rw[ă];rfl
 have x:=wi n s;have y:=iZ atT;rw[x,θ]at y;have z:=NG u;calc sw$ Dn r;have:(atT.q ć).q (λ h:ï=>h.length)=atT.q ą:=by rw[Χ];apply ö;intro A _;exact Ŷ A
 rw[this,x,θ,θ,o,Ŷ];show n.length+n.length*1<=_;lia;rw[o,iY];simp! [o,bE,ŵ];calc t J N
end
def spF(a:ï)(b l:β):ES:=[("line",.str a),("puts",AZ),("losses",CG)]
section
variable(line:ï)(p l:β)
@[simp]def arA:(spF line p l).E (FP "line")=f4 (HS line):=I
@[simp]def arB:(spF line p l).E (FP "puts")=YC:=I
@[simp]def arC:(spF line p l).E (FP "losses")=f4 CG:=I
end
abbrev DPs(c:Hp)(a:s5)(b:BV):Prop:=io$ bq (λ d(e:IE)=>HU=KS [MH (e.1+1),AD e.2])
def bW(d e:Hp)(f:β)(b:f8)(c a:BV):Prop:=∃g h l i j,e f=f4 (DW CP g (spF (ć b) h l))/\e h=KE i.q/\IO DPs c/\e l=KE j.q/\DPs e j a/\hm (d h)/\ME d
def bW.base{a:Hp}(f:up (io (bW d) h))(e:re Μ):up$ akW bW h:=by let⟨g,k,l,m,n,o,p,q,r,s,t,u⟩:=f;calc⟨g,k,l,m,n,o,p,q,r,s,e.free t,e.free u⟩
inductive Ea(vs:g3)(H:Hp)(b:VK)(c:XK):Prop|mk(x a p l:β)(line:ï):vs=[DJ,HS line,.ref p,CG]->TQ (DW CP a [])->b .Ť (Ix ø (DW CP a (spF line p l)))->RC Ea
def sJ(b:Ĭ):IF mH 1 Ea:=by calc DI mH ["self","line","puts","losses"] EO;let⟨h,i,j,l,k,I,m,n⟩:=g;calc act ⟨_,η (SM IC)$ η (SM LK)$ μ$ SM OK,?_⟩;calc⟨_,I,_,I,h,CP,i,_,I,m,tP.cl,tP.nL,DU,_,I,_,I,h,CP,i,_,I,Α,tP.cl,tP.nP,(by show Id 1;decide),_,I,_,I,h,CP,i,_,I,Α,tP.cl,tP.nS,(by show Id 2;decide),?_⟩;show e .Ť _;rw[bx,bx];calc n
def ph{m:VK}{n:XK}{l:β}{tp tl:s5}{line:f8}(f:c b=KE tp.q)(g:DPs c tp i)(h:c l=KE tl.q)(k:DPs c tl j)(a:hm (d b))(e:ME d)(o:∀p q,Μ c q->hm (c p)->up (bW d q p line)->m (.ref p) q):∀p r,hm (c p)->hm (c r)->r≠p->Ea [.ref p,HS$ ć line,AZ,CG] (ø (WH r (.ü p)) p (DW CP r [])) (λv s=>UM/\m (.ref p) s) n:=by intro p r t u x;calc⟨p,r,b,l,_,I,Α,I,?_⟩;rw[bx];have y:hm$ WH r (.ü p) p:=DK (Ne.symm x) t;have z:Μ c$ ø _ p$ DW CP r$ LB$ spF$ ć line:=(Μ.new u).trans$ Μ.new y;calc DG (o p) t ⟨r,b,l,tp,tl,Α,ga z f,bq.eI g λ_ _ A=>ga z A,ga z h,bq.eI k λ_ _ A=>ga z A,a,e⟩
def ek{n:M}(b:1<=n)(c:US)(a:e<2^JB):(cI n e).length<=500:=by
 unfold cI;have d:=iZ$ (BS e).q$ dG n;have f:(BS e).length<=100:=s4 OD;have:∀l:f8,(∀g,g∈l->g<JB)->WM (l.q (dG n))=4*l.length:=by intro l;induction l with
 |nil=>intro _;rfl
 |cons h i j=>intro k;rw[Â,Â,ĩ,Β,j λg a=>k g$ LS a,lf pf$ k h JJ];lia
 rw[this _ λg m=>Į a$ ei m,θ]at d;lia
inductive Am(vs:g3)(H:Hp)(f:VK)(g:XK):Prop|mk(x:Sx)(L:Ž)(S:Sh)(d a:M)(b:f8):vs=[LW,MH IG,AD a,HS$ ć b]->SW (1<=L.n->d<9->a<RV->b.length<=1000->(∀e c,EW c->amV->AH (bW H) (wE (yH L.n) b) [(d,a)] []->f EN c)->on (AJ Am))
def yf(b:Ĭ):IF xG 3 Am:=by
 refine DI xG ["sheet","digit","cell","reason","name"] EO
 .let⟨h,i,S,j,k,m,I,o,p,q,r,s,t,u⟩:=g;have v:=o.obj;calc ln λx y z A B D G=>⟨_,η (OG G (JE h3 D (ε MR (ol LK))))$ rc$ gQ (sJ b) D$ ε (pX (ı (bf (pv 4)) (ZG (ı (bf IC) (ZG (ı (bf OK) j6))))))$ ε (WD (qv (ε IC (ol LK))))$ ol RS,?_⟩;calc⟨_,I,h.h,CH,h.dx,_,_,I,v,tH.cl,tH.nN,Qg ..,_,I,i.n,k,I,q,p.n9,s,λH J=>?_⟩;have L:=eg (j+1);have dl:=im$ c7 (n:=j+1);have N:=ek q p.n9 s;have O:(MC j).natAbs.log2<1920:=eh (by rw[U.a3];lia);simp only[jy,L7,O4,acC,Yp];calc⟨_,I,.X ⟨_,I,?_,_,I,?_,_,I,?_,_,I,.D ⟨_,I,O,_,I,?_,_,I,?_,_,I,.X ⟨_,I,?_,_,I,?_,?_,?_⟩⟩⟩⟩;all_goals try simp only[L,ă,bE,ŵ,Ŷ,π,ag,Ĝ,dl]
  show GT _;lia;show GT _;lia;show GT (aut+1);lia;show GT (aut+(1+1));lia;show GT (aut+(1+(1+1)));lia;show GT _;lia;show GT (aut+(1+(1+(1+m.length))));lia;show GT (aut+(1+(1+(1+m.length))));lia;calc⟨_,I,_,I,(by show 2<=QW;decide),λc d=>?_⟩;let⟨e,f,r,t⟩:=Mr d (HO.c9 [CK (j+1),HM k]);rw[f];calc⟨(by show 1<=QW;decide),λg o=>?_⟩;let⟨x,y,z,A⟩:=Mr o (LO [V.ref c]);rw[y];calc⟨(by show GT 0;decide),λl B=>?_⟩;let⟨h,v,D,G⟩:=Mr B (LO []);rw[v];have H:=r.trans$ z.trans D;calc ph (tp:=[c]) (tl:=[]) (line:=yH i.n k j m) (PL A) (UX (PL (ga z t))) G .nil (J.free (r.free o)) (J.free (r.free (z.free B))) λp q s N st=>FH u (J.trans (H.trans s)) (J.free (H.free N)) st
section
local macro_rules | `(tactic| walk_at "fd") => `(tactic| first | (refine zW ?_; (try simp only [ŵ, Ŷ, π, Ħ, Β]); omega) | (refine Zk ?_; (try simp only [ŵ, Ŷ, π, Ħ, Β]); omega))
inductive Ql(vs:g3)(H:Hp)(b:VK)(f:XK):Prop|mk(x:Sx)(L:Ž)(S:Sh):vs=[LW]->SW (1<=L.n->S.ĵ<RV->(∀a,IS (hm (hM S YS)->b .Ť a))->(∀c a d e,IS (aqX->hM S YS=f4 (d,e)->mt (bW H) (yH L.n (2^d) e (Ê "alone")) [(e,2^d)] []->b CO a))->DA (AJ Ql))
def aaP(b:Ĭ):IF gb 4 Ql:=by
 calc DI gb ["sheet","place","cell","candidates"] EO;let⟨h,i,S,I,j,k,m,n,o,p⟩:=g;have q:=j.obj;have r:=k.n9;have s:SJ<=81:=Ë r r;have t:S.ĵ<VZ:=Ä n$ im Uf;calc ln λu x y z A B D=>⟨_,adP$ KG (JE gV B QQ) (Ψ 1 D)$ η (FT D (TK AG))$ η (GX D (MK I3 B FD XM))$ HL$ akQ (UZ XX)$ rc$ JE yf B$ Tl$ ε (cB xC FC Φ)$ ZY$ ol az,?_⟩;walk_at "s";simp!;calc⟨S.ĵ,I,t,λl G H J L=>?_⟩;calc sw$ cD (xs:=Ě YS) (.D (.D L)) (λN O c=>X3 λd e q=>A3 (Μ G c) (hM S (YS.drop N)=hM S YS) (O=[TN,d,e,q])) ⟨none,none,none,HJ,I,I⟩ (λ N O c _⟨_,_,_,g,_,_⟩=>wT$ GK L);rintro N v O s f u x ⟨d,e,q,y,z,I⟩;have A:N<YS.length:=by have:=(φ.J x).1;rw[Τ]at this;exact this
 rw[Ė A]at x;cases x;rw[cH YS 0 A,hM]at z;have t:YS.getD N 0∈YS:=by rw[γ,δ A];exact Ö A
 generalize YS.getD N 0=B at t z|-;have D:B<SJ:=Į n$ ei t;have J:=H.trans y;have g:=j.same J;have G:jp 1*2^(jp B).aj=TV B:=mo
 have L:abV 1 (B:M):=⟨gt,gt,DU⟩;simp!;calc⟨h,i,S,2^B,by rw[U.ae];rfl,g,k,λf s x N A=>?_⟩;have n:=J.trans x;have t:=j.same n;have G:MI$ S.Ă (2^B):=by unfold Sh.Ă;exact OD (by rw[Ð,k.lp];calc r)
 by_cases g:QG (S.Ă (2^B));rw[ii g]at z;let⟨L,f⟩:∃L,S.Ă (2^B)=[L]:=dr.J g;have s:L<i.n:=by
  have:L∈S.Ă (2^B):=by rw[f];simp
  unfold Sh.Ă at this;have:=LX akP;rw[k.lp]at this;exact this
 rw[f]at z A;have e0:Eo (Ě ([L].q (·+1))) 0=f4 (CK (L+1)):=I;have N:QG ((Ě ([L].q (·+1)))):=I;simp! [e0,N,-Τ,-Â,-U.aA];calc⟨h,i,S,L,2^B,Ê "alone",?_,t,k,m,gt,CD Qy D,DU,λJ j r G st=>?_⟩;rw[ă];simp;rfl;calc ga u.r$ p J j B L (n.trans r) (n.free G) z.symm$ st.base n;rw[hf g]at z;have A:¬NR (S.Ă (2^B))=1:=gt
 simp! [g,A];calc ga u.n ⟨_,_,_,y.trans x,z,I⟩;rintro O c ⟨d,e,q,y,z,I⟩;rw[Τ,g5]at z;simp!;calc o c (H.trans y) z.symm
def pj{n u:M}(a:2<=n)(b:US)(c:u<3*n+2):(hA n u).length<=20:=by unfold hA;split;rw[π,im c7];decide;split;rw[π,im c7];decide;split;rw[π,im c7];decide;rw[π,im c7];decide
inductive aaQ(vs:g3)(H:Hp)(c:VK)(g:XK):Prop|mk(x:Sx)(L:Ž)(S:Sh):vs=[LW]->asE (auu->(∀b,WE<RV)->(∀a,IS (hm (atl hn)->c .Ť a))->(∀d a f b e,IS (agI->atl hn=f4 (f,b,e)->wE (bW H) (yH L.n e b (Ê "in "++hA L.n f)) [(b,e)] []->c BK a))->AJ aaQ c g)
def adp(b:Ĭ):IF jO 4 aaQ:=by
 calc DI jO ["sheet","place","unit","digit","cell","name"] EO;let⟨h,j,S,I,k,l,m,o,p,q,r⟩:=g;have s:=k.obj;have t:=l.n9;calc atc ⟨_,adP$ Ī (ak3 QK QQ) (j9 (n:=2) I (č (Ψ 1 H) (JR (IJ H))))$ μ$ auc (FN H)$ η (OG H (GC (aX (ba G) Cl FC WJ) BU))$ HL$ WP (hs (ND CV Φ) (fF (ZS (GC CV (RT CV Φ)) Φ)))$ η (À 5 H (JE jT G aud))$ rc$ JE yf G$ Tl$ ε FC$ ε CV$ ol$ pX$ ZG$ ı (bf JM) j6,?_⟩;walk_at "s";simp!;calc sw$ xI (xs:=ap_) (wT k.us) (λJ L N=>X5 λO c e o s=>A3 (LF N) (hn j.n S j.units ((ι j.units.length).drop J)=hn j.n S j.units (ι j.units.length)) (L=[TN,O,c,e,o,s])) ⟨none,none,none,none,none,HJ,I,I⟩ (λ J L N _⟨_,_,_,_,_,g,_,_⟩=>wT$ GK k.us);rintro J v L N x y f A B D G H ⟨O,c,e,o,s,d,f,I⟩;have y:J<j.units.length:=by have:=(φ.J B).1;rw[Τ]at this;exact this
 rw[Ė y]at B;cases B;have D:(ι j.units.length).getD J 0=J:=by rw[γ,ë y];rfl
 rw[cH (ι j.units.length) 0 (by rw[Ð];calc y),D,hn]at f;calc LN$ aK H;have H:=d.trans G;have y:=k.same H;simp!;calc sw$ cD (xs:=Ě (BR j.n (·+1))) (wT y.dg) (λD L N=>X3 λe o s=>A3 (Μ x N) (gi S auj ((ι j.n).drop D)=gi S auj (ι j.n)) (L=[TN,BJ J,NQ auj,e,o,s])) ⟨e,o,s,HJ,I,I⟩ (λ D L N _⟨_,_,_,g,_,_⟩=>wT$ GK y.dg);rintro D v L G g x B ⟨e,o,s,y,G,I⟩;have g:D<j.n:=by have:=(φ.J B).1;rw[Τ]at this;simpa using this
 have a0:(BR j.n (·+1)).getD D 0=D+1:=by rw[γ,Δ,ë g];rfl
 rw[Ė SX,a0]at B;cases B;have B:(ι j.n).getD D 0=D:=by rw[γ,ë g];rfl
 rw[cH (ι j.n) 0 (by rw[Ð];calc g),B,gi]at G;have B:=H.trans y;have b0:=k.same B;have k:=eO S.ζ (i:=D) (by rw[l.lp];calc g);have g:atB<2^(j.n*j.n):=hg$ p D;by_cases p:atB=0;rw[MA$ Da p]at G;simp! [k,p,-U.aA];calc ga x.n ⟨_,_,_,y,G,I⟩;by_cases c0:atB&&&(atB-1)=0;rw[BZ$ QZ c0]at G;rw[<-G]at f;simp! [k,p,c0,Dr,-U.aA];calc⟨j.n,J,I,m,t,gt,?_⟩;have d0:=im$ pj (n:=j.n) (u:=J) m t;have m:Ρ "in "=ć (Ê "in "):=MT;have t:ZQ "in "=3:=I;simp! [m,bE,ŵ,-U.aA];calc⟨h,j,S,D,_,Ê "in "++hA j.n J,I,b0,l,gt,gt,g,(by rw[π,t];lia),λh j l g st=>ga x.r$ ga A.r$ GH r J D _ (B.trans l) (B.free g) f.symm$ st.base B⟩;rw[MA$ c0 z.2]at G;simp! [k,p,c0,Dr,-U.aA];calc ga x.n ⟨_,_,_,y,G,I⟩;rintro L N ⟨e,o,s,y,G,I⟩;rw[Τ,θ,Ð,s4 ŋ,gi]at G;rw[<-G]at f;calc ga A.n ⟨_,_,_,_,_,H.trans y,f,I⟩;rintro L N ⟨O,c,e,o,s,d,f,I⟩;rw[Τ,s4 ŋ,hn]at f;simp!;calc q N d f.symm
end
section
local macro_rules | `(tactic| walk_at "fd") => `(tactic| first | (refine zW ?_; (try simp only [ŵ, Ŷ, π, Ħ, Β]); omega) | (refine Zk ?_; (try simp only [ŵ, Ŷ, π, Ħ, Β]); omega))
inductive An(vs:g3)(H:Hp)(e:VK)(h:XK):Prop|mk(x:Sx)(L:Ž)(S:Sh)(b a:M):vs=[LW,AD b,AD a]->asE (auu->b<L.units.length->a<L.units.length->(∀d,IM S.ζ.getD<RV)->(∀c,EW c->hm (sK (hL L.n S L.units))->e .Ť c)->(∀f c d g,EW c->hm (H f)->sK (hL L.n S L.units)=f4 (d,g)->bW H c f (DR (sK (jl L.n))) [] [(d,g)]->e EH c)->FG (AJ An))
def M9(m:Ĭ):(mF m).P a 3 An:=by
 calc(mF m).ok ["sheet","one","other","first","second","digit","places","losers","first_name","second_name","names"] λP0 v0 j1 Q0 w0=>?_;let⟨R0,d,S,g,c,I,m0,n0,x,S0,H,J,x0,k,e⟩:=w0;have o:=n0.n9;calc ln λk1 O0 l1 u0 T0 q h=>⟨_,η (GX h (YW AG))$ η (OG h (YW BU))$ afb (akQ (RF CV))$ adP$ auc (Ψ 5 h)$ η (À 6 h (aX (ba q) Cl JM WJ))$ η (À 7 h (GC (GC OJ CV) (PH FC)))$ HL$ WP (hs (dm (pw 7)) (hs (dm (GC OJ FC)) (fF (d6 (dm (GC (GC OJ FC) (PH CV)))))))$ η (À 8 h (ċ (jT m) q aud))$ η (À 9 h (ċ (jT m) q (ZT XM)))$ η (À 10 h (ċ (h3 m) q (ZT aua)))$ rc$ gQ (sJ m) q$ ε (pX (ı (bf JM) (ZG (VA 8 (ZG (VA 9 (ZG (VA 10 j6))))))))$ ε RS$ ol$ WD$ qv$ ε JM aua,?_⟩;walk_at "s";unfold hL at k e;by_cases p:d.units.getD g 0&&&CU d.units.getD=0;rw[ii p]at k;simp! [Ė H,Ė J,p];calc k v0 HJ I;rw[hf p]at k e;simp! [Ė H,Ė J,p];generalize d.units.getD g 0=fs at p k e|-;generalize CU d.units.getD=j at p k e|-;calc sw$ cD (xs:=Ě (BR d.n (·+1))) (wT m0.dg) (λf y A=>X6 λa0 b0 c0 d0 f0 r=>A3 (v0=A) (eG S fs j ((ι d.n).drop f)=eG S fs j (ι d.n)) (y=[AT R0.h,BJ g,BJ c,BJ fs,BJ j,a0,b0,c0,d0,f0,r])) ⟨none,none,none,none,none,none,I,I,I⟩ (λ f y A _⟨_,_,_,_,_,_,w0,_,_⟩=>wT (by rw[<-w0];calc m0.dg));rintro f v y A Q0 o0 g0 ⟨a0,b0,c0,d0,f0,r,I,b,I⟩;have B:=o0.n;have s:f<d.n:=by have:=(φ.J g0).1;rw[Τ]at this;simpa using this
 have y0:(BR d.n (·+1)).getD f 0=f+1:=by rw[γ,Δ,ë s];rfl
 rw[WS s,y0]at g0;cases g0;have z0:(ι d.n).getD f 0=f:=by rw[γ,ë s];rfl
 rw[cH (ι d.n) 0 (by rw[Ð];calc s),z0,eG]at b;have t:=eO S.ζ (i:=f) (by rw[n0.lp];calc s);have L:=x0 f;have p0:Ρ (MC f).eE=ć (GF f):=eg (f+1);have A0:(MC f).natAbs.log2<1920:=eh (by rw[U.a3];lia);have dl:=im$ c7 (n:=f+1);have e:=λB0 h0=>e B0 h0 f;unfold jl at e;generalize r0:f+1=U0 at t p0 A0 dl e b B|-;generalize akR=i0 at t b L|-;simp! [t];have N:õ (i0&&&j) fs<2^(d.n*d.n):=aqj$ hg L;by_cases z:õ (i0&&&j) fs≠0/\i0&&&fs≠0/\õ (i0&&&fs) j=0;rw[LU]at b;simp! [Da,lv z,wS z];calc⟨d.n,g,I,x,o,gt,?_⟩;simp!;calc⟨d.n,c,I,x,o,gt,?_⟩;simp!;calc⟨d.n,_,I,gt,o,N,λV0 D=>?_⟩;have W0:=im (ek (n:=d.n)) o N;have X0:=im$ pj (n:=d.n) (u:=g) x o;have Y0:=im$ pj (n:=d.n) (u:=c) x o;have C0:Ρ " of "=ć (Ê " of "):=MT;have D0:Ρ " in "=ć (Ê " in "):=MT;have F0:Ρ ": "=ć (Ê ": "):=MT;have Z0:ZQ " of "=4:=I;have a1:ZQ " in "=4:=I;have b1:ZQ ": "=2:=I;simp! [p0,C0,D0,F0,bE,ŵ];calc af λc1 d1 s0 t0 G0=>?_;simp!;calc af λe1 f1 g1 j0 H0=>?_;simp!;calc af λl h1 I0 k0 J0=>?_;simp!;have O:=t0.trans$ j0.trans k0;subst r0;calc ph (tp:=[]) (tl:=[e1]) (ga k0 (ga j0 G0)) .nil J0 (UX (ga k0 H0)) (D.free s0) (D.free (t0.free (j0.free I0))) λB0 h0 K0 M0 st=>ga o0.r$ e B0 h0 _ (D.trans (O.trans K0)) (D.free (O.free M0)) b.symm st;rw[IU]at b;by_cases G:õ (i0&&&j) fs=0;simp! [G];calc LG ⟨_,_,_,_,_,_,I,b,I⟩;by_cases l0:i0&&&fs=0;simp! [G,l0];calc LG ⟨_,_,_,_,_,_,I,b,I⟩;have N0:õ (i0&&&fs) j≠0:=λi1=>z ⟨G,l0,i1⟩;simp! [G,l0,N0];calc LG ⟨_,_,_,_,_,_,I,b,I⟩;rintro y A ⟨a0,b0,c0,d0,f0,r,I,b,I⟩;rw[Τ,θ,Ð,s4 ŋ,eG]at b;simp!;calc k v0 HJ b.symm
end
inductive Ao(vs:g3)(H:Hp)(c:VK)(h:XK):Prop|mk(x:Sx)(L:Ž)(S:Sh):vs=[LW]->asE (auu->(∀b,WE<RV)->(∀a,IS (hm (atl gB)->c .Ť a))->(∀d a f g b e,IS (agI->atl gB=f4 (f,g,b,e)->wE (bW H) (zn (on (jl L.n))) [] [(b,e)]->c BK a))->FM (AJ Ao))
def M_(b:Ĭ):IF hC 4 Ao:=by
 calc DI hC ["sheet","one","other","step"] EO;let⟨h,i,S,I,j,k,l,m,o,p,q⟩:=g;have r:=j.obj;have s:=k.n9;calc ln λt u v x y z A=>⟨_,adP$ Ī (alt QK (ol (UZ QQ))) (Ψ 1 A)$ μ$ Ī (alt QK (ol (UZ QQ))) (IJ A)$ HL$ ď (ND AG BU)$ η (GX A (JE M9 z (Tl (VQ XM))))$ HL$ ď (Ô Hh FC ŝ)$ rc FC,?_⟩;have B:(Ě i.units).length=i.units.length:=Τ _;walk_at "s";simp! [B];calc sw$ im (acU (n:=i.units.length)) (λD G H=>X3 λJ L N=>A3 (LF H) (gB i.n S i.units ((ι i.units.length).drop D)=gB i.n S i.units (ι i.units.length)) (G=[TN,J,L,N])) ⟨none,none,none,HJ,I,I⟩;rintro O G H f c e ⟨J,L,N,g,r,I⟩;have s:(ι i.units.length).getD O 0=O:=by rw[γ,ë e];rfl
 rw[cH (ι i.units.length) 0 (by rw[Ð];calc e),s,gB]at r;have t:=j.same g;simp! [B];calc sw$ im (acU (n:=i.units.length)) (λD G u=>X2 λL N=>A3 (EW u) (ft i.n S i.units O ((ι i.units.length).drop D)=ft i.n S i.units O (ι i.units.length)) (G=[TN,BJ O,L,N])) ⟨L,N,HJ,I,I⟩;rintro v G u x y z ⟨L,N,A,d,I⟩;have f:(ι i.units.length).getD v 0=v:=by rw[γ,ë z];rfl
 rw[cH (ι i.units.length) 0 (by rw[Ð];calc z),f,ft]at d;have s:=g.trans A;by_cases B:O=v;subst B;rw[KC]at d;simp!;calc ga y.n ⟨_,_,A,d,I⟩;rw[hf B]at d;have t:¬(jp O=jp v):=gt
 simp! [B,t];calc⟨h,i,S,O,v,I,j.same s,k,l,m,e,z,o,λD x f=>?_,λh D i j x k l st=>?_⟩;rw[f]at d;simp!;calc ga y.n ⟨_,_,A.trans x,d,I⟩;rw[l]at d;rw[<-d]at r;simp!;calc ga y.r$ ga c.r$ up (q h D O v) (s.trans x) (s.free k) r.symm$ st.base s;rintro G u ⟨L,N,A,d,I⟩;rw[s4 ŋ,ft]at d;rw[<-d]at r;calc ga c.n ⟨_,_,_,g.trans A,r,I⟩;rintro G H ⟨J,L,N,g,r,I⟩;rw[s4 ŋ,gB]at r;simp!;calc p H g r.symm
end Sq
namespace Sq
open PySem L2 dO L3
variable{a:ř}
def gX(l:f8):Ć 0 l=[[]]:=by cases l<;>rfl
def vx(a:M):∀l:f8,(ι l.length).aD (λb=>(Ć a$ l.drop BP).q λc=>OT::c)=Ć DC l
 |[]=>by cases a<;>rfl
 |d::c=>by rw[Β,fY,aD,vV];show(mt Ć).q _++_=(mt Ć).q _++Ć _ c;rw[<-mt vx];rfl
def I8(a:M)(l:f8)(b:M):AU:=(ι b).aD λc=>(Ć a$ l.drop BD).q λd=>akO::d
def Ap(b:M)(l:f8)(a:M):LB I8 DC=GV (I8 b)++(Ć b$ l.drop DC).q (λc=>YE::c):=by unfold I8;rw[ę,il];simp
def i3:∀(a:M)(l:f8),(EF Ć).length<=2^l.length
 |0,l=>by rw[gX];calc cu _
 |DC,[]=>CY
 |DC,LY=>by show ZO ((mt Ć).q _++Ć _ c);rw[π,θ,Β,vA];have d:=mt i3;have e:=i3 DC c;lia
def I9(a:M)(l:f8):∀b,(EF I8 b).length<=b*2^l.length
 |0=>by simp[I8]
 |BP=>by rw[Ap,π,θ];have c:=EF I9 b;have d:=i3 a$ l.drop BP;have e:2^(l.drop BP).length<=2^l.length:=s4 Uf;lia
def i4:∀(b:M)(l:f8)(a:f8),BB (LB Ć)->a.length=b
 |0,l,a,c=>by rw[gX]at c;simp at c;rw[c];rfl
 |BP,[],a,c=>by have:BB []:=c;simp at this
 |BP,d::e,a,c=>by have:=c;rcases GE Ι.J with c|c;let⟨f,g,I⟩:=χ.J c;rw[Β,on$ zn i4];calc mt$ i4 _ e
def i5:∀(b:M)(l:f8)(a:f8),BB (LB Ć)->b<=l.length
 |0,l,a,_=>CY
 |BP,[],a,c=>by have:BB []:=c;simp at this
 |BP,d::e,a,c=>by have:=c;rw[Β];rcases GE Ι.J with c|c;let⟨f,g,I⟩:=χ.J c;have:=on$ zn i5;lia;have:=mt$ i5 _ e;lia
inductive pk(k:M)(vs:g3)(H:Hp)(e:VK)(f:XK):Prop|mk(a:β)(l:f8):vs=[AC,.int k]->ahg HY->l.length<=9->(∀d c b,EW b->agI->Fk=KE c.q->(∀z,z∈c->hm (H z))->lf dk ((AI Ć).q zs)->e BK b)->py (AJ (pk k))
def Na(b:Ĭ):IF hX 1 λ_ _ _ _=>DN:=DI hX ["things","size","found","place","thing","rest"] λ_ _ _ _ c=>c.elim
def sL(f:Ĭ){d c:M}{e:Sp}(b:s3 ((hX f).P a))(g:∀h,c=h+1->e=pk h):ahc IG "choices_of" ["things","size"]$ pk c:=by calc(hX f).ok ["things","size","found","place","thing","rest"] λi j k m o=>?_;let⟨p,l,I,q,r,s⟩:=o;calc ln λt u x y A B D=>⟨_,ER (ď (ZS AG Φ) (rc (WD RS)))$ η (FT D RS)$ akL$ Ī (ak3 (bu f) ZZ) (j9 (n:=2) I (č (FN D) (JR (IY D))))$ μ$ KG (ċ b B (hj:=gt) (ε (om slS FD (mc (WF FC Φ)) Cn) (ol (RT AG Φ)))) (Ψ 5 D)$ IW$ TX BU$ ol$ Í xt (WD CV) JM,?_⟩;walk_at "s";cases c with
|zero=>simp!;calc af λG H J L N=>?_;simp!;calc af λO h i k o=>?_;calc s O [G] _ (L.trans k) (L.free i) o (λz t=>by simp at t;rw[t];calc J) ?_;rw[gX];calc J4 (NN N) Nk
|HW c=>
 obtain I:=g c I;have u:¬(kw BD=0):=gt
 simp! [u,-U.aA];calc af λO x i y e0=>?_;have A:=ρ q i;have B:=UL q;simp!;calc sw$ xI (xs:=HY) (dq B) (λD H h=>X4 λL o N k=>A5 (H=[YC,NQ BD,f4$ .ref O,o,N,k]) (∀x B,x≠O->j x=f4 B->h x=f4 B) (h O=KE L.q) (∀z,z∈L->hm (j z)/\z≠O)$ dk h L$ (I8 c l D).q zs) ⟨[],none,none,none,I,λx B _ a0=>UL a0,e0,mo,.nil⟩ (λ D H h _⟨_,_,_,_,_,u,_,_,_⟩=>dq$ u p _ A q);rintro D v H h y b0 m m c0 d0 f0 g0 ⟨L,o,N,k,I,u,h0,i0,j0⟩;have k0:=m.n;let⟨m,I⟩:=Ū c0;calc LN$ aK g0;have m:y p=BG HY:=ga f0$ u p _ A q;have q:∀x B,x≠O->j x=f4 B->y x=f4 B:=λx B A a0=>ga f0$ u x B A a0;have l0:qw HY (f4 (MC D)) none=Ě (l.drop (D+1)):=by rw[zZ,ľ,ľ,aeV]
 rw[Ap]at k0;have m0:=I9 c l D;have n0:D*2^l.length<=9*2^9:=im Ë$ Uf r;have r:MI$ l.drop (D+1):=by rw[g4];lia
 generalize l.getD D 0=o0 at k0|-;generalize l.drop (D+1)=ld at k0 l0 r;generalize I8 c l D=p0 at k0 m0 j0;have r0:=i3 c ld;have s0:2^ld.length<=2^9:=Uf r;have t0:=i4 c ld;have u0:=i5 c ld;simp! [-U.aA];calc⟨_,I,p,_,I,.D$ .D m,af λm v0 w0 x0 y0=>?_⟩;have y0:v0 m=xL ld:=y0.trans (by rw[<-l0];rfl);have z0:kw BD-1=jp c:=gt
 simp! [z0,-U.aA];calc⟨m,ld,I,y0,r,λr m A0 B0 C0 D0 F0 G0=>?_⟩;generalize Ć c ld=H0 at*;have I0:Μ y A0:=x0.trans B0;have J0:∀z,hm (v0 z)->hm (j z)/\z≠O:=λz t=>by have K0:hm$ y z:=x0.free t;calc P3 (λy=>by subst y;rw[ga f0 h0]at K0;cases K0);cases y:j z with
 |none=>rfl
 |some B=>by_cases M0:z=O;subst M0;rw[i]at y;cases y;rw[q z B M0 y]at K0;cases K0
 have N0:m.length=H0.length:=by have:=Ñ G0;rw[θ]at this;exact this
 calc sw$ cD (xs:=GG m.q) (dq D0) (λd H h=>X2 λm k=>A5 (H=[YC,NQ BD,f4$ .ref O,BJ D,f4$ PD o0,k]) (∀x B,x≠O->A0 x=f4 B->h x=f4 B) (h O=KE m.q) (∀z,z∈m->hm (j z)/\z≠O)$ No dk$ atS (H0.take d).q) ⟨L,k,I,λx B _ a0=>a0,ga I0$ ga f0 h0,i0,by rw[List.take_zero,cq,Đ];calc dk.same j0$ f0.trans I0⟩ (λ d H h _⟨_,_,_,D,_,_,_⟩=>dq$ D r _ (J0 r C0).2 D0);rintro d v H r O0 P0 c0 ⟨m,k,I,D,Q0,R0,S0⟩;have T0:=P0.n;have U0:=(φ.J c0).1;rw[θ,N0]at U0;rw[Δ]at c0;let⟨p,V0,I⟩:=Υ.J c0;let⟨W0,X0,Y0⟩:=Ā G0 V0;rw[Δ,δ U0]at X0;cases X0;have Z0:=J0 p$ F0 p$ Î V0;have a1:=D p _ Z0.2 Y0;have b1:=Ö U0;have c1:m.length<2^20:=by have a0:=Ñ S0;rw[θ,π,θ,Ũ]at a0;lia
 have d1:H0.take IG=H0.take d++[H0[d]]:=by rw[å,δ U0];rfl
 have e1:atS (H0.take IG).q=atS (H0.take d).q++[zs (o0::H0[d])]:=by rw[d1];simp only[Æ,Â,cq,Ĝ]
 rw[e1]at T0;generalize H0[d]=f1 at b1 a1 T0;have g1:=t0 f1 b1;have h1:=u0 f1 b1;generalize atS (H0.take d).q=p at S0 T0;have p:aq3 (.ref O) r:=.D ⟨I,_,wT Q0⟩;simp!;calc af λG G J p J=>?_;have G:=ga p a1;have t:[FL$ jp o0].length+(BT (zs f1).q).length<=Ζ:=by show GT (1+(BT (zs _).q).length);rw[aS,g1];lia
 simp!;calc af λJ G G i1 j1=>?_;have k1:=p.trans i1;have l1:=ga k1 Q0;have m1:J≠O:=(ρ (ga p Q0) G).symm;have n1:QF$ GG m.q:=by show BC;rw[θ];lia
 simp!;calc ga T0 ⟨m++[J],_,I,λx B A a0=>(ω A).trans$ ga k1$ D x B A a0,(by rw[Α,Æ];rfl),λz t=>?_,?_⟩;rcases Ι.J t with t|t;calc R0 z t;simp at t;subst t;have J:hm$ r z:=p.free G;calc P3 m1;cases y:j z with
 |none=>rfl
 |some B=>rw[D z B m1$ ga I0$ q z B m1 y]at J;cases J
 calc bq.app (dk.eI S0 (λx B A a0=>DK (R0 x A).2$ ga k1 a0))$ J4 ?_ Nk;rw[ω m1,j1];rfl;rintro H h ⟨m,k,I,D,Q0,R0,S0⟩;rw[θ,N0,Ò]at S0;calc ga k0 ⟨m,_,_,k,I,λx B A a0=>D x B A$ ga I0$ q x B A a0,Q0,R0,S0⟩;rintro H h ⟨L,o,N,k,I,u,h0,i0,j0⟩;rw[Τ]at j0;have a0:RZ (I8 c l)=Ć BD l:=vx c l;rw[a0]at j0;simp!;calc s O L h (λx B a0=>u x B (ρ a0 i) a0) i h0 (λz t=>(i0 z t).1) j0
def qI(b:Ĭ):∀c:M,ahc (c+2) "choices_of" ["things","size"] (pk c)|0=>sL b (Na b) (λ_ z=>by cases z)|BD=>sL b (lf qI) (λd z=>by cases z;rfl)
end Sq
namespace Sq
open PySem L2 dO TL L3
variable{a:ř}{c j:M}{d:β}{b e m:Hp}{f:f8}{n o:BV}{l:VK}{p:QD}{i:Ž}
def i6:∀(b:M)(l a:f8),BB (LB Ć)-> ∀c,c∈a->c∈l
 |0,l,a,d,c,e=>by rw[gX]at d;simp at d;rw[d]at e;simp at e
 |BP,[],a,d,c,e=>by have:BB []:=d;simp at this
 |BP,f::g,a,d,c,e=>by have:=d;rcases GE Ι.J with d|d;let⟨h,i,I⟩:=TC;rcases ν.J e with I|e;calc JJ;calc LS$ AH$ t3$ i6 b g;calc LS$ AH$ wE$ i6 _ g
def I_(b:Ĭ):IF jD 1 D9:=by
 calc DI jD ["sheet","group","digit"] EO;let⟨h,j,S,k,I,l,m,n⟩:=g;have o:=l.obj;have p:=m.n9;calc ate ⟨_,atf$ ID y (ņ Cl) (İ (ü:=[("digit",2)]) (by show EA (dj ["sheet","group","digit"] (HN 95));decide+AO)) (λ_ _ _ _ _=>IJ y)$ YR$ dm$ GC (aX (ba x) Cl BU WJ) AG,?_⟩;walk_at "s";simp!;calc sw$ G8 (xs:=Ě (BR j.n (·+1))) (dq l.dg) (by rw[Τ];show BC;simp;lia) (λz=>S.ζ.getD z 0&&&k !=0) λz=>CK (z+1);intro A v B D G H J L N;have O:A<j.n:=by have:=(φ.J D).1;rw[Τ]at this;simpa using this
 have c:(BR j.n (·+1)).getD A 0=A+1:=by rw[γ,Δ,ë O];rfl
 rw[WS O,c]at D;cases D;have d:=eO S.ζ (i:=A) (by rw[m.lp];calc O);have e:=LC o;have f:=LC l.pl;generalize S.ζ.getD A 0=h at L N d;generalize A+1=g at L d|-;walk_at "w";by_cases p:h&&&k=0;simp! [d,e_,p];calc IR$ N arF;have q:¬kw (h&&&k)=0:=gt
 simp! [d,e_,p,q];calc IR$ L arF;intro r B s G t;rw[Τ,θ,Ð]at t;calc n r B G s ?_;rw[t,ľ,Χ];unfold Sh.Ă;rw[m.lp];rfl
inductive Ja(wv:M)(vs:g3)(H:Hp)(c:VK)(d:XK):Prop|mk(x:Sx)(L:Ž)(S:Sh)(cells:M):vs=[LW,AD cells,AD wv]->SW (cells<VZ->MI (BS cells)->(∀b a,IS (ZD->JC=xL (HI (bj S cells))->c AZ a))->UV (HI Ja))
def T9(b:Ĭ)(d:c<=4):IF va 7$ Ja c:=by
 calc DI va ["sheet","cells","size","few","cell","group"] λe f g h j=>?_;let⟨m,n,S,o,I,p,q,r,s,t⟩:=j;have u:=p.obj;have x:=q.n9;calc ln λy z A B D G H=>⟨_,η (JS (iE (i:=3) I H) (auq (by decide+AO)) (ņ (JE gV G (ol AG))) (İ (ü:=[("cell",4)]) (by show EA (dj ["sheet","cells","size","few","cell","group"] (HN 94));decide+AO)) (λ_ _ _ _ _=>IY H) (YR (Ô fH (UZ (ol (MK I3 G FD (ol (TK CV))))) BU)) (λ_ _ _ _ _=>CV))$ rc$ ID H (ņ (ċ (im (zM.hT (k:=6) (lf qI))) G (ε FC XM))) (İ (ü:=[("group",5)]) (by show EA (dj ["sheet","cells","size","few","cell","group"] (HN 94));decide+AO)) (λ_ _ _ _ _=>Ψ 5 H) Tm λ_ _ _ _ _=>JE ug G aqm,?_⟩;walk_at "s";simp!;calc⟨o,I,r,λl J L N O=>?_⟩;calc sw$ G8 (xs:=Ě$ BS o) (dq O) (by rw[Τ];show BC;lia) (λe=>(λf=>sB ((S.Ă (2^f)).length<=c))$ PR$ BS o) λe=>HM$ PR$ BS o;intro e v g h j u x y z;let⟨A,I⟩:=Ū h;have B:PR (BS o)∈BS o:=by rw[γ,δ A];exact Ö A
 have D:PR (BS o)<100:=Į r$ ei B;generalize PR (BS o)=f at y z D|-;have G:=L.trans j;have H:=p.same G;have J:=H.obj;have N:jp 2^f=TV f:=mo
 have O:PP$ jp f:=gt
 walk_at "w";simp! [O,N,-U.ae];calc⟨m,n,S,2^f,I,H,q,λB D p J m=>?_⟩;by_cases n:(S.Ă (2^f)).length<=c;simp! [Τ,n];calc y abk _ p;simp! [Τ,n];calc z abk _ p;intro q g H j N;rw[Τ,ķ (BS o) (λf=>sB ((S.Ă (2^f)).length<=c)) (λf=>HM f) 0]at N;have O:g q=xL akV:=by rw[N,ľ];rfl
 have B:MI akV:=OD s;have G:=L.trans j;simp!;calc⟨q,_,I,O,B,λJ n H f g N s L=>?_⟩;have j:n.length=(Ć c akV).length:=by have:=Ñ L;rw[θ]at this;exact this
 have q:=i3 c akV;have O:2^akV.length<=2^9:=Uf B;calc sw$ G8 (xs:=GG n.q) (dq N) (by rw[θ,j];show BC;lia) KY λe=>HM$ Û$ (Ć c akV).getD e [];intro e v D h p u x y z;have A:=(φ.J h).1;rw[θ,j]at A;rw[Δ]at h;let⟨J,H,I⟩:=Υ.J h;let⟨g,s,q⟩:=Ā L H;rw[Δ,δ A]at s;cases s;have u:(Ć c akV).getD e []=(Ć c akV)[e]:=by rw[γ,δ A];rfl
 rw[u]at y;walk_at "w";simp!;calc⟨J,(Ć c akV)[e],I,wT$ ga p q,λx z=>?_,IR$ y I⟩;have B:=ga (i6 c) (Ö A) x z;have:=Į r$ ei (υ.J B).1;lia;intro n D N p m;rw[CZ,θ,j]at m;calc t n D (G.trans (f.trans p)) (G.free (f.free N)) ?_;have:=ķ (Ć c akV) KY (λO=>HM$ Û O) [];rw[CZ,CZ]at this;rw[m,this,ľ];unfold bj;rw[Χ];rfl
section
variable{base:ř}
inductive Jb(vs:g3)(H:Hp)(c:VK)(d:XK):Prop|mk(a:β)(b:s5)(ls:BV):vs=[AC]->H a=KE b.q->JT DPs ls->c (AD (dF ls)) H->UV Jb
def T_(a:Ĭ):(oC a).P base 1 Jb:=by
 calc EI oC ["losses","found","digit","cells"] aun;let⟨g,h,i,I,j,k,l⟩:=f;calc ln λm o p q r s t=>⟨_,NH (KW t)$ η (Ī (ņ FD) (j9 (n:=2) I (č (IJ t) (JR (FN t)))) (μ (bN 1 t FC cM)))$ rc AG,?_⟩;have u:h.length=i.length:=Ñ k;walk_at "s";simp!;calc sw$ cD (xs:=GG h.q) (.D (.D j)) (λx y A=>X2 λB z=>A2 (c=A) (y=[f4 FU,BJ$ dF$ i.take x,B,z])) ⟨none,none,I,I⟩ (λ x y A _⟨_,_,f,_⟩=>wT (by rw[<-f];calc j));rintro x v y A e D G ⟨B,z,I,I⟩;have H:=D.n;rw[Δ]at G;let⟨J,L,I⟩:=Υ.J G;let⟨N,O,b⟩:=Ā k L;have d:x<i.length:=(φ.J O).1;calc LN$ aK b;have m:dF (i.take (x+1))=dF (i.take x)|||N.2:=by have:=d8 (λ(o:M)(N:IE)=>o|||N.2) 0 i (0,0) d;rw[γ,O]at this;exact this
 rw[m]at H;simp! [Hn];calc LT ⟨_,_,I,I⟩;rintro y A ⟨B,z,I,I⟩;rw[θ,u,Ò];simp!;calc l
inductive Jc(vs:g3)(H:Hp)(g:VK)(i:XK):Prop|mk(x:Sx)(L:Ž)(S:Sh)(b:M)(a:β)(c:f8):vs=[LW,AD b,AC]->SW (H a=f4 ((AQ ((Ě (c.q (·+1))))))->c.length<=9->(∀h,h∈c->h<L.n)->(∀f e d,EW d->hm (H f)->d f=KE e.q->s3 DPs (lf (Ŭ S))->g EH d)->DL (AJ Jc))
def Ua(b:Ĭ):(jE b).P base 1 Jc:=by
 calc DI jE ["sheet","others","digits","digit"] EO;let⟨h,j,S,k,l,m,I,n,o,p,q,r,s⟩:=g;have t:=n.obj;calc ln λu x y A B D G=>⟨_,rc$ ID G (ņ LK) (İ (ü:=[("digit",3)]) (by show EA (dj ["sheet","others","digits","digit"] (HN 96));decide+AO)) (λ_ _ _ _ _=>FN G) (YR (dm (GC (aX (ba D) MR OK WJ) IC))) λ_ _ _ _ _=>qv$ ε OK$ ol$ GC (aX (ba D) MR OK WJ) IC,?_⟩;calc⟨_,I,l,I,CM$ .D$ .D p,λH J=>sw (G8 (a:=l) (xs:=Ě (m.q (·+1))) (λL=>asp !=0) (λL N O=>∃c,N=V.ref c/\c≠H/\O c=KS [MH (aqN+1),AD asp]) J (by rw[Τ,θ];show BC;lia) (.D (.D p))) ?_⟩;rintro d N e f ⟨c,q,g,t⟩ u;calc⟨c,q,g,u c _ g t⟩;intro L v e x y ⟨A,B⟩ D G l p;have O:L<m.length:=by have:=(φ.J x).1;rw[Τ,θ]at this;exact this
 have N:(m.q (·+1)).getD L 0=aqN+1:=by rw[γ,Δ,δ O,γ,δ O];rfl
 rw[Ė (by rw[θ];calc O),N]at x;cases x;have d:aqN<j.n:=r _ (by rw[γ,δ O];calc Ö O);generalize aqN=f at d l p|-;have g:=n.same y;have u:=eO S.ζ (i:=f) (by rw[o.lp];calc d);calc ln ?_;calc⟨_,I,h.h,CH,h.dx,_,_,I,g.obj,tH.cl,tH.Ep,Qh ..,_,I,h.p,_,_,_,I,g.pl,I,u,_,I,?_⟩;simp only[aeh];rw[e_];calc⟨akR&&&k !=0,?_,?_⟩;show _=_;rw[ß,QR,QR];lia;cases A:(akR&&&k !=0)with
 |gl=>simp only[jh,↓ag9];calc IR$ p A
 |Z=>simp only[↓ag9];calc⟨_,I,_,I,h.h,CH,h.dx,_,_,I,g.obj,tH.cl,tH.Ep,Qh ..,_,I,h.p,_,_,_,I,g.pl,I,u,_,I,(by show 2<=QW;decide),λc t=>?_⟩;dsimp only;rw[e_];exact ga (l A) (Μ.new t) ⟨c,I,(λz=>by subst z;rw[B]at t;cases t),Α⟩
 intro e D y G x;rw[Τ,θ]at x;let⟨j,N,r⟩:∃j:s5,D=GG j.q/\DPs e j ((FX m.length λL=>asp !=0).q (λL=>(aqN,asp))):=by clear G;revert x;generalize FX m.length (λL=>asp !=0)=O;intro x;induction x with
 |nil=>calc⟨[],I,.nil⟩
 |cons n o d=>let⟨c,q,_,t⟩:=n;let⟨j,N,r⟩:=d;exact⟨c::j,by rw[q,N];rfl,.cons t r⟩
 have:=ķ m (λf=>akR&&&k !=0) (λf=>(f,akR&&&k)) 0;rw[this]at r;calc s H j e y J (by rw[G,N]) r
end
def ė.sm(c:ė [d] e m)(f:zn Μ)(a:hm Fk):Μ b m:=λg h i=>ww c (by rw[Θ];calc ρ i a)$ t3$ f g
def ė.put1{a:HO}(c:zn (ė [d])):ė [d] b$ EK$ ø e:=λf a g h=>by rw[ω SX];calc ww$ c f a
def apq{l:AU}(a:∀b,b∈l->b.length<=6):(l.q ą).sum<=l.length*6:=by have:=dO.hH (λb c=>by let⟨d,e,I⟩:=χ.J c;calc s3 a);rwa [θ]at this
def aaR(a b:M):ī (DD/2^GI.aj) 1=kw (if FE a.o then 1 else 0):=by
 have c:DD/2^GI.aj=(a/GU:M):=mo
 rw[c,show jp 1=(1:M)from I,e_,Vl,gf];by_cases z:a/GU%2=1;simp[z];lia
def Jd(a b:M):ī (DD/GU) 1=kw (if FE a.o then 1 else 0):=io aaR
def oP:∀a:AU,IZ (ē [])<=(a.q ą).sum
 |[]=>CY
 |[b]=>by simp[ē]
 |b::c::d=>by show ZO (b++([]++ē [] _));have:=oP (c::d);simp only[π,Ħ,Â,ĩ]at this|-;lia
def yg(l:AU):(l.q ć).q (λ a:ï=>a.length)=l.q ą:=by rw[Χ];apply ö;intro b _;calc Ŷ b
section
inductive Qm(vs:g3)(H:Hp)(k:VK)(m:XK):Prop|mk(x:Sx)(L:Ž)(S:Sh)(j g:M)(b e:β)(f:s5)(ls:BV)(a:f8)(c:Hp):Μ c H->hm (c b)->vs=[LW,AD j,AD g,AZ,EN]->asE (j<3*L.n+2->g<RV->H b=KE f.q->DPs H f ls->ls.length<=9->(∀h,h∈ls->h.1<9/\h.2<RV)->H e=f4 ((AQ ((Ě (a.q (·+1))))))->a.length<=9->(∀l,l∈a->l<9)->(∀i d,EW d->QM H->re bW i (lX L.n j g ls a) [] ls->k OH d)->AJ Qm k m)
def Je :∀(b:BV)(a:M),a<HG->(∀d,BH b->d.2<HG)->b.ah (λa d=>a|||d.2) a<HG|[],a,e,_=>e|d::f,a,e,g=>Je f _ (vz e (g d JJ)) λd h=>g d$ LS h
local macro_rules | `(tactic| walk_at "fd") => `(tactic| first | (refine zW ?_; (try simp only [ŵ, Ŷ, π, Ħ, Β]); omega) | (refine Zk ?_; rw [θ, θ]; omega))
def aaS(b:Ĭ):IF rZ 3 Qm:=by
 calc DI rZ ["sheet","place","group","losses","digits","told","cell","digit","cells","name","names","together","unit","losers"] EO;let⟨h,j,S,k,m,o,p,q,r,s,t,x,y,I,A,B,D,G,H,J,L,N,O,c,e,t,N⟩:=g;have e:=A.obj;have A:=B.n9;have B:j.n*j.n<=81:=Ë A A;have B:dF r<2^(j.n*j.n):=Je r 0 (CD M.pow_pos) λa0 b0=>(XI O).2;have c0:dF r<VZ:=Ä B$ im Uf;have d0:YH.length<=100:=s4 OD;have f0:q.length=r.length:=Ñ L;calc ln λg0 h0 i0 j0 k0 l0 m0=>⟨_,η (À 5 m0 RS)$ η (KG (JE gV l0 (ol (JE T_ l0 XX))) (Ψ 6 m0) (μ (Ī (ņ FC) (j9 (n:=2) I (č (Ψ 7 m0) (JR (Ψ 8 m0)))) (HL (ď (dm (GC (Í xl (pw 8) OJ) Φ)) (η (À 9 m0 (JE vv l0 (ZT (ol OJ)))) (IW (TX JM (ol (pX (VA 9 (ZG (ı (bf (pw 7)) j6)))))))))))))$ η (À 10 m0 (JE h3 l0 (ZT XM)))$ η (À 11 m0 (Zm az (ID m0 (ņ CV) (İ (ü:=[("digit",7)]) (by show EA (dj ["sheet","place","group","losses","digits","told","cell","digit","cells","name","names","together","unit","losers"] (HN 97));decide+AO)) (λ_ _ _ _ _=>Ψ 7 m0) Tm (λ_ _ _ _ _=>ń aet QK.str wu aua))))$ η (À 12 m0 (JE jT l0 aud))$ η (À 13 m0 (Zm az JM))$ rc$ gQ (sJ b) l0$ ε (pX (VA 10 (ZG (VA 11 (ZG (VA 12 (ZG (VA 13 j6))))))))$ ε RS XX,?_⟩;walk_at "s";simp!;calc af λi0 n0 o0 p0 r0=>?_;simp!;calc⟨o,q,r,I,ga p0 J,bq.eI L λ_ _ s0=>ga p0 s0,?_⟩;simp!;calc⟨dF r,I,c0,λl t0 u0 v0 w0=>?_⟩;have x0:=p0.trans u0;have y0:l≠i0:=λz=>by rw[z,r0]at v0;cases v0
 calc sw$ cD (xs:=Ě YH) (dq w0) (λz0 A0 B0=>X9 λC0 D0 F0 G0 H0 I0 J0 K0 M0=>A5 (ė [i0] t0 B0) (C0=(YH.take z0).aD (fC j.n r)) (C0.length<=9*z0) (B0 i0=BG (akU C0.q)) (A0=[TN,BJ k,BJ m,f4$ .ref o,YC,AT i0,D0,F0,G0,H0,I0,J0,K0,M0])) ⟨[],none,none,none,none,none,none,none,none,RA,I,AK,ga u0 r0,I⟩ (λ z0 A0 B0 _⟨_,_,_,_,_,_,_,_,_,g,_,_,_,_⟩=>dq$ GK (by simpa using y0) w0);rintro z0 v A0 N0 f f O0 ⟨C0,D0,F0,G0,H0,I0,J0,K0,M0,P0,Q0,R0,S0,I⟩;have T0:=f.n;have f:=(φ.J O0).1;rw[Τ]at f;rw[Ė f]at O0;cases O0;have U0:YH.getD z0 0∈YH:=by rw[γ,δ f];exact Ö f
 have V0:YH.take (z0+1)=YH.take z0++[YH.getD z0 0]:=by rw[å,δ f,ŭ,γ,δ f];rfl
 rw[V0,il,<-Q0]at T0;generalize YH.getD z0 0=W0 at U0 T0|-;clear V0 Q0;have X0:W0<j.n*j.n:=Į B$ ei U0;have Y0:LF N0:=P0.sm x0 o0;have Z0:=ga Y0 J;simp!;calc sw$ cD (xs:=GG q.q) (dq Z0) (λs0 A0 B0=>X8 λa1 F0 G0 H0 I0 J0 K0 M0=>A5 (ė [i0] t0 B0) (a1=C0++fC j.n (r.take s0) W0) (a1.length<=9*z0+s0) (B0 i0=BG (akU a1.q)) (A0=[TN,BJ k,BJ m,f4$ .ref o,YC,AT i0,BJ W0,F0,G0,H0,I0,J0,K0,M0])) ⟨C0,F0,G0,H0,I0,J0,K0,M0,P0,by simp[fC],R0,S0,I⟩ (λ s0 A0 B0 _⟨_,_,_,_,_,_,_,_,g,_,_,_,_⟩=>dq$ ga (g.sm x0 o0) J);rintro s0 v A0 g h o O0 ⟨a1,F0,G0,H0,I0,J0,K0,M0,p,h,b1,c1,I⟩;have d1:=o.n;have o:DR Μ:=p.sm x0 o0;rw[Δ]at O0;let⟨e1,f1,I⟩:=Υ.J O0;let⟨a0,g1,h1⟩:=Ā L f1;have i1:s0<r.length:=(φ.J g1).1;have j1:a0∈r:=by rw[δ i1]at g1;cases g1;exact Ö i1
 have k1:=(O a0 j1).1;have l1:r.take (s0+1)=r.take s0++[a0]:=by rw[å,g1];rfl
 have m1:=ga o e;rw[l1]at d1;calc LN$ aK$ ga o h1;by_cases n1:a0.2.o W0=Z;have o1:fC j.n (r.take s0++[a0]) W0=fC j.n (r.take s0) W0++[dG j.n W0++([45]++GF a0.1)]:=by unfold fC;rw[ł,Æ];simp[n1]
 rw[o1,<-Ĝ,<-h]at d1;have p1:Ρ (MC a0.1).eE=ć (GF a0.1):=eg (a0.1+1);have dl:=im$ c7 (n:=a0.1+1);have q1:=im (pf (n:=j.n) (i:=W0)) A X0;have r1:Ρ "-"=ć [45]:=MT;have s1:(MC a0.1).natAbs.log2<1920:=eh (by rw[U.a3];lia);have t1:=Jd a0.2 W0;rw[BZ n1]at t1;generalize a0.1+1=u1 at p1 dl s1 d1|-;simp! [t1,-U.ae];calc⟨j.n,W0,I,gt,A,X0,?_⟩;generalize dG j.n W0=v1 at q1 d1|-;have w1:QF$ akU a1.q:=by rw[θ,θ];show BC;lia
 simp! [p1,r1,bE,ŵ];calc ga d1 ⟨a1++[v1++([45]++Å u1)],_,_,_,_,_,_,_,p.put1,I,by rw[π];simp;lia,?_,I⟩;rw[Α];simp;have o1:fC j.n (r.take s0++[a0]) W0=fC j.n (r.take s0) W0:=by unfold fC;rw[ł,Æ];simp[n1]
 rw[o1]at d1;have t1:=Jd a0.2 W0;rw[DP n1]at t1;simp! [t1,-U.ae];calc ga d1 ⟨a1,_,_,_,_,_,_,_,p,h,gt,c1,I⟩;rintro A0 g ⟨a1,F0,G0,H0,I0,J0,K0,M0,p,h,b1,c1,I⟩;rw[θ,f0]at b1 h;calc ga T0 ⟨a1,_,_,_,_,_,_,_,_,p,by rw[h,Ò];simp,gt,c1,I⟩;rintro A0 N0 ⟨C0,D0,F0,G0,H0,I0,J0,K0,M0,P0,Q0,R0,S0,I⟩;rw[Τ]at R0 Q0;rw[Ò]at Q0;have Y0:LF N0:=P0.sm x0 o0;have m1:=ga Y0 e;simp!;calc⟨j.n,m,I,gt,A,H,λg d=>?_⟩;have o:=Y0.trans d;have g:=ga o c;simp!;calc sw$ G8 (xs:=Ě (s.q (·+1))) (dq g) (by rw[Τ,θ];show BC;lia) KY λz0=>aof adT;intro z0 v p O0 h c g c g;have f:z0<s.length:=by have:=(φ.J O0).1;rw[Τ,θ]at this;exact this
 have g:(s.q (·+1)).getD z0 0=adT+1:=by rw[γ,Δ,δ f,γ,δ f];rfl
 rw[Ė (by rw[θ];calc f),g]at O0;cases O0;have U0:adT<9:=t _ (by rw[γ,δ f];calc Ö f);have f:=c I p HJ;have s1:(MC adT).natAbs.log2<1920:=eh (by rw[U.a3];lia);have p1:Ρ (MC adT).eE=ć (GF adT):=eg _;generalize adT+1=u1 at f s1 p1|-;walk_at "w";simp! [p1];calc f;intro g p c h f;rw[Τ,θ,CZ]at f;have p:BR s.length (λz0=>aof adT)=akU (s.q λz0=>GF z0).q:=by have:=ķ s KY (λW0=>aof W0) 0;rw[CZ,CZ]at this;rw[this,Χ,Χ];rfl
 rw[p]at f;have g:=o.trans h;have c:Ρ " "=ć [32]:=MT;have e0:Ρ ""=ć []:=MT;have p:=DQ wi;have o:=oP$ s.q λz0=>GF z0;rw[p]at o;have t:=pj (n:=j.n) (u:=k) D A G;have o:=im (ek (n:=j.n)) A H;have t:(C0.q ą).sum<=C0.length*6:=apq λH w0=>by rw[Q0]at w0;let⟨W0,X0,w0⟩:=ŧ.J w0;unfold fC at w0;let⟨a0,b0,I⟩:=χ.J w0;have o:=(O a0 (υ.J b0).1).1;have t:W0<j.n*j.n:=Į B$ ei X0;rw[π,π,im pf A t,im c7];decide
 have O:=iZ C0;have o:ē [32] C0=ē [32] (lW j.n r):=by rw[Q0];rfl
 have B:=GK e;simp!;calc Dn f (by rw[yg,p,e0,Ŷ];simp;lia) ?_;rw[e0,iY];simp!;calc⟨j.n,k,I,D,A,G,?_⟩;simp!;calc Dn (UP (IB S0)) (by rw[yg,c,Ŷ,θ];simp;lia) ?_;rw[c,iY,o];rw[o]at O;have r1:Ρ " have "=ć (Ê " have "):=MT;have t:Ρ " in "=ć (Ê " in "):=MT;have D:Ρ ": "=ć (Ê ": "):=MT;have G:ZQ " have "=6:=I;have e:ZQ " in "=4:=I;have A:ZQ ": "=2:=I;simp! [r1,t,D,bE,ŵ];calc af λd h f c p=>?_;have O:=g.trans c;simp!;calc ph (tp:=[]) (tl:=q) (line:=HX$ lX j.n k m) p .nil (ML J) (bq.eI L (λ_ _ s0=>ML s0)) (x.free (g.free f)) y λH o B w0 st=>N H o (O.trans B) (O.free w0) st
end
def Ub(a:∀b,b∈f->b<c):Û f<HG:=by apply aP;intro b d;rw[Ċ];cases z:f.an b with
|gl=>rfl
|Z=>have:=JC RM;lia
def Jf{S:Sh}{b d:M}(a:c<GU)(e:BH (DX (bj S))):d<GU:=by let⟨f,g,I⟩:=χ.J e;calc Ub λh i=>?_;have:=t3$ on$ i6 j _;calc Į a$ ei akP.1
def y5(a b c:M):(Ï a (b&&&c)).length<=XY Ï:=by
 unfold Ï;calc akF ?_;have:auA (λd=>(b&&&c).o d)=(auA λd=>b.o d).filter (λd=>c.o d):=by rw[aU];apply į;intro d _;rw[Ã,lz]
 rw[this];calc ļ
def aaT{S:Sh}(a:c∈S.Ă j):c<S.ζ.length:=LX$ υ.J a
def Uc(S:Sh)(a:M):IZ S.Ă<=S.ζ.length:=s4 OD
inductive Qn(wv:M)(vs:g3)(H:Hp)(d:VK)(f:XK):Prop|mk(x:Sx)(L:Ž)(S:Sh):vs=[LW,AD wv]->asE (auu->(∀g,S.ζ.getD g 0<RV)->S.ĵ<RV->(∀c,MI (BS (CU L.units.getD)))->(∀a,IS (hm (HI (iz S L.units) (ι L.units.length))->d .Ť a))->(∀e a c b,IS (amV->HI (iz S L.units) (ι L.units.length)=f4 (c,b)->AM (bW H) (Ev (lX L.n) (agH (CU L.units.getD)) WB) [] (agH (CU L.units.getD))->d EN a))->DS (AJ (HI Qn)))
def yh(h:Ĭ){wv:M}(A0:wv<=4):(rR h).P a 8$ HI Qn:=by
 calc(rR h).ok ["sheet","size","place","unit","group","digits","losses"] λr1 B0 s1 t1 C0=>?_;let⟨y0,e,S,I,o,p,W0,u1,X0,Y0,D0,Z0,m0⟩:=C0;have l1:=o.obj;have n0:=p.n9;have m1:e.n*e.n<=81:=Ë n0 n0;calc ln λG1 n1 H1 V0 v1 J u=>⟨_,adP$ Ī (ak3 (bu h) QQ) (j9 (n:=2) I (č (IJ u) (JR (FN u))))$ μ$ KG (ċ (T9 h A0) J (Tl (ε (RF Cl) (ol AG)))) (IY u)$ η (À 5 u (ċ (I_ h) J (Tl (ol CV))))$ η (À 6 u (ċ (Ua h) J (Tl (ε (RF (PH CV)) aqm))))$ HL$ WP (hs (ZS (amu (bu h) aqm) AG) (fF (Ô xm (amu (bu h) (ol OJ)) Φ)))$ rc$ ċ (aaS h) J$ Tl$ ZY$ ε CV$ ε OJ aqm,?_⟩;walk_at "s";simp!;calc sw$ xI (xs:=Ě e.units) (wT o.us) (λg i f=>X5 λo0 p0 j k l=>A3 (Μ B0 f) (HI (iz S e.units) ((ι e.units.length).drop g)=atu) (i=[AT y0.h,BJ wv,o0,p0,j,k,l])) ⟨none,none,none,none,none,HJ,I,I⟩ (λ g i f _⟨_,_,_,_,_,C0,_,_⟩=>wT$ TD o.us);rintro g v i f w1 I1 t1 F0 q x1 a1 b1 ⟨o0,p0,j,k,l,r0,d,I⟩;have s0:g<e.units.length:=by have:=(φ.J q).1;rw[Τ]at this;exact this
 rw[Ė s0]at q;cases q;have c1:(ι e.units.length).getD g 0=g:=by rw[γ,ë s0];rfl
 rw[cH (ι e.units.length) 0 (by rw[Ð];calc s0),c1]at d;have G0:=D0 g;unfold iz at d;rw[Ē]at d;calc LN$ aK b1;have b0:=r0.trans a1;have c0:=o.same b0;have o1:=c0.obj;have m0:∀t0 f b,Μ B0 f->hm (B0 t0)->atu=f4 (g,b)->bW B0 f t0 (lX e.n g b (agH YI) WB) [] (agH YI)->s1 (wp t0) f:=λt0 f b y1 p1 z1 x=>on (m0 t0) b y1 p1 z1 x;have H0:hm (HI (hP S YI) (HI (bj S (YI&&&S.ĵ))))->adF (λg=>(HI (hP S YI)$ HI$ bj S (YI&&&S.ĵ)).q λb=>(g,b)) ((ι e.units.length).drop (g+1))=atu:=λz=>by rw[z]at d;exact d
 have I0:∀b,HI (hP S YI) (HI (bj S (YI&&&S.ĵ)))=ZC->atu=f4 (g,b):=λb z=>by rw[z]at d;exact d.symm
 clear d;generalize YI=un at*;have d0:ahh<2^(e.n*e.n):=by rw[M.and_comm];exact hg Y0
 have u0:ahh<VZ:=Ä d0$ im Uf;have J0:MI$ BS ahh:=É (AY y5) G0;simp!;calc⟨y0,e,S,ahh,I,c0,p,u0,J0,λJ1 d1 e1 A1 f0=>?_⟩;have g0:=b0.trans e1;calc sw$ cD (xs:=Ě$ HI$ bj S ahh) (wT f0) (λz0 i f=>X3 λj k l=>A3 (Μ d1 f) (HI (hP S un) ((HI$ bj S ahh).drop z0)=HI (hP S un) (HI (bj S ahh))) (i=[AT y0.h,BJ wv,BJ g,BJ un,j,k,l])) ⟨j,k,l,HJ,I,I⟩ (λ z0 i f _⟨_,_,_,C0,_,_⟩=>wT$ TD f0);rintro z0 v i B1 C1 y q ⟨j,k,l,A,c,I⟩;have L:z0<(HI$ bj S ahh).length:=by have:=(φ.J q).1;rw[Τ]at this;exact this
 rw[Ė L]at q;cases q;rw[cH _ 0 L]at c;have K0:(HI$ bj S ahh).getD z0 0∈HI (bj S ahh):=by rw[γ,δ L];exact Ö L
 have h0:=Jf d0 K0;generalize (HI$ bj S ahh).getD z0 0=b at c h0|-;unfold hP at c;rw[ű]at c;have i0:=g0.trans A;have M0:=o.same i0;simp!;calc⟨y0,e,S,b,I,M0,p,λN0 D1 v0 q1 j0=>?_⟩;have B:=i0.trans v0;have O0:=o.same B;have D:MI WB:=É (Uc S b) (by rw[p.lp];calc n0);have G:∀x,x∈WB->x<e.n:=λx H=>by have:=aaT H;rw[p.lp]at this;exact this
 simp!;calc⟨y0,e,S,õ un b,N0,WB,I,O0,p,j0,D,G,λf1 N E1 O P0 Q0 k0=>?_⟩;have s:=B.trans O;have R0:=o.same s;have w0:=ML j0;have r:N.length=(agH un).length:=Ñ k0;by_cases z:WB.length=wv/\agH un≠[];let⟨t,a0⟩:=z;have g1:pr (agH un).a2:=by cases x0:agH un with
 |nil=>calc DM x0 a0
 |cons _ _=>rfl
 have h1:0<N.length:=by rw[r];exact eL.Q a0
 simp only[t,g1,auG,nm.not_false,aeW]at c;have S0:=I0 b c.symm;have m:NR WB=jp wv:=gt
 simp! [t,m,h1];calc⟨y0,e,S,g,b,f1,N0,N,agH un,WB,B0,s,B.free P0,I,R0,p,W0,gt,h0,Q0,k0,?_,?_,w0,D,λx H=>by have:=FW G;lia,λt0 i1 j1 T0 st=>ga y.r$ ga F0.r$ m0 t0 i1 b (s.trans j1) (s.free T0) S0 st⟩;unfold Ŭ;rw[θ];calc OD D;intro p1 l0;unfold Ŭ at l0;let⟨x,H,I⟩:=χ.J l0;calc⟨by have:=G x (υ.J H).1;show x<9;lia,hg$ X0 x⟩;have k1:pr (sB (WB.length=wv)&& !(agH un).a2):=by cases U0:(sB (WB.length=wv)&& !(agH un).a2);rfl;rw[ξ,BE,ä,eC]at U0;exact DM U0 z
 simp only[k1]at c;by_cases t:WB.length=wv;have a0:agH un=[]:=Κ λx0=>z ⟨t,x0⟩;rw[a0]at r;have:N=[]:=Ġ.J r;subst this;have m:NR WB=jp wv:=gt
 simp! [t,m];calc ga y.n ⟨_,_,_,A.trans$ v0.trans O,c,I⟩;have m:¬NR WB=jp wv:=gt
 simp! [t,m];calc ga y.n ⟨_,_,_,A.trans$ v0.trans O,c,I⟩;rintro i F1 ⟨j,k,l,A,c,I⟩;rw[Τ,g5]at c;calc ga F0.n ⟨_,_,_,_,_,g0.trans A,H0 c.symm,I⟩;rintro i f ⟨o0,p0,j,k,l,r0,d,I⟩;rw[Τ,s4 ŋ]at d;simp!;calc Z0 f r0 d.symm
def qJ(a:f8)(b:M):XY aO<=a.length:=s4 OD
def ur(a:c∈aO f j):c<f.length:=LX$ υ.J a
inductive aaU(wv:M)(vs:g3)(H:Hp)(g:VK)(h:XK):Prop|mk(p:M)(x d c y e i:β)(w1 a w2 cr:f8):vs=[AD p,AD wv,DJ,.ref y]->DB (Ix U4) w1 a->IO (U4 H y) w2 cr->a.length<=9->cr.length<=9->(∀f b,EW b->hm (H f)->b f=xL (HI (vK a cr p))->g EH b)->ww (AJ (HI aaU))
def adq(b:Ĭ){wv:M}:IF kZ 2$ HI aaU:=by
 calc DI kZ ["places","size","lines","crossing","few","place"] EO;let⟨h,i,j,k,m,n,o,p,q,r,s,I,t,u,x,y,A⟩:=g;calc as_ ⟨_,η (OG N RS)$ η (KG (MK uq L BU ZZ) (Ψ 5 N) (HL (ď (Ô fH (UZ (ol (MK uq L FC (ol (GC FD (MK D_ L BU (ol (WD JM)))))))) AG) (IW (TX CV aqm)))))$ rc CV,?_⟩;have O:=t.obj;walk_at "s";simp!;calc af λG c e B D=>?_;have H:=LG O;simp!;calc⟨i,j,k,p,q,h,I,t.same B,x,λl J L N c=>?_⟩;have x:=B.trans L;have O:l≠G:=λz=>by rw[z,D]at N;cases N
 calc sw$ cD (xs:=Ě ahe) (dq c) (λH B N=>X1 λa0=>A3 (ė [G] J N) (N G=xL ((ahe.take H).filter (λH=>sB$ at2 [H]))) (B=[BJ h,BJ wv,f4 OH,f4$ .ref m,f4$ .ref G,a0])) ⟨none,RA,MD D,I⟩ (λ H B N _⟨_,g,_,_⟩=>dq$ GK (by simpa using O) c);rintro H v B g f D L ⟨a0,c,O,I⟩;have f:=D.n;let⟨D,I⟩:=Ū L;have L:=qJ q h;have L:ahe.getD H 0∈ahe:=by rw[γ,δ D];exact Ö D
 have b0:ahe.take (H+1)=ahe.take H++[ahe.getD H 0]:=by rw[å,δ D,ŭ,γ,δ D];rfl
 rw[b0,ł]at f;have D:MI$ (ahe.take H).filter λH=>sB$ at2 [H]:=OD (by rw[Ũ];lia);generalize (ahe.take H).filter (λH=>sB$ at2 [H])=fs at O D f;generalize ahe.getD H 0=H at L f|-;have D:=ur L;have L:DR Μ:=c.sm x e;have d:=MD u.obj;have g:=MD t.obj;rw[ġ,abA]at f;simp!;calc af λd g g g c0=>?_;have d0:=L.trans g;calc⟨i,j,k,d,p,q,[H],I,t.same d0,c0,by simpa using D,?_⟩;simp! [e_];calc⟨m,n,o,r,s,_,I,u.same d0,y,λi j k m n=>?_⟩;have o:=NN$ GK O;have p:ė [G] J j:=λr t u y=>NN$ GK$ EB (c r) y;have D:QF$ Ě fs:=by rw[Τ];show BC;lia
 by_cases z:at2 [H];rw[BZ RM]at f;have L:aq3 (.ref G) j:=.D ⟨I,_,.D$ .D o⟩;simp! [Τ,z];calc JI ⟨_,p.put1,?_,I⟩;rw[Α,ľ,ľ,Æ];rfl;rw[DP RM,Đ]at f;simp! [Τ,z];calc JI ⟨_,p,o,I⟩;rintro B N ⟨a0,c,O,I⟩;rw[Τ,Ò]at O;simp!;calc A G N (c.sm x e) e O
def Qo{wd pl:f8}(c:wd.length<=100)(b:pl.length<=9)(a:∀d,BH pl->d<9):(lnB wd pl).length<=200:=by unfold lnB;have e:=wi pl a;have f:=iZ$ pl.q λd=>GF d;rw[e,θ]at f;rw[π,π];show _+(1+_)<=_;lia
def oQ:∀(b:M)(l a:f8),BB (LB Ć)->a.length=b
 |0,l,a,c=>by rw[gX]at c;simp at c;rw[c];rfl
 |BP,[],a,c=>by have:BB []:=c;simp at this
 |BP,d::e,a,c=>by have:=c;rcases GE Ι.J with c|c;let⟨f,g,I⟩:=χ.J c;rw[Β,on$ zn oQ];calc mt$ oQ _ e
section
inductive Jg(wv:M)(vs:g3)(H:Hp)(g:VK)(m:XK):Prop|mk(x:Sx)(L:Ž)(S:Sh)(a h i b j k:β)(w1 c w2 cr:f8):vs=[LW,AD wv,AC,AZ]->asE ((∀f,akR<RV)->t3 (JY U4) w1 c->AS (JT U4) w2 cr->c.length<=9->cr.length<=9->w1.length<=100->w2.length<=100->(∀d,EW d->hm (HI (eN S c cr) (ι L.n))->g .Ť d)->(∀l d f e,EW d->ME H->HI (eN S c cr) (ι L.n)=f4 (f,e)->bW H d l (JV (lY L.n w1 w2) (ū c cr akR e) (bM c cr akR e)) [] [(f,bM c cr akR e)]->g CG d)->AJ (HI Jg) g m)
local macro_rules | `(tactic| walk_at "fd") => `(tactic| first | exact U4.obj ‹_› | (refine zW ?_; (try simp only [ŵ, Ŷ, π, Ħ, Β]); omega))
def Aq(b:Ĭ)(d:c<=4):IF pS 7$ Jg c:=by
 calc DI pS ["sheet","size","lines","crossing","digit","chosen","inside","crossed","losers","of","across","names"] λe f g h j=>?_;let⟨m,o,S,p,q,r,s,t,u,x,y,A,B,I,D,G,H,J,L,N,O,e,H,a0,b0,c0⟩:=j;have d0:=D.obj;have f0:=G.n9;calc ln λg0 h0 i0 j0 k0 l0 m0=>⟨_,adP$ auc (IY m0)$ μ$ KG (ċ (im (zM.hT (k:=6) (lf qI))) l0 (ε (ċ (adq b (size:=c)) l0 (ε (aX (ba l0) Cl CV WJ) (VQ (ZY XX)))) (ol AG))) (Ψ 5 m0)$ η (À 6 m0 (MK D_ l0 BU aqm))$ η (À 7 m0 (MK uq l0 FC (ol (GC (aX (ba l0) Cl CV WJ) OJ))))$ η (À 8 m0 (GC (GC (aX (ba l0) Cl CV WJ) (MK D_ l0 FC aua)) (PH OJ)))$ HL$ WP (hs (ZS (UZ aua) AG) (fF (ND (pw 8) Φ)))$ η (À 9 m0 (MK Al l0 BU aqm))$ η (À 10 m0 (MK Al l0 FC aua))$ η (À 11 m0 (JE h3 l0 (ZT (ol (pw 8)))))$ rc$ gQ (sJ b) l0$ ε (pX (ı (bf CV) (ZG (VA 9 (ZG (VA 10 (ZG (VA 11 j6))))))))$ ε RS$ ol$ WD$ qv$ ε CV$ ol$ pw 8,?_⟩;walk_at "s";simp!;calc sw$ cD (xs:=Ě (BR o.n (·+1))) (wT D.dg) (λn0 o0 p0=>X8 λr0 s0 t0 u0 v0 w0 x0 y0=>A3 (Μ f p0) (NL (eN S) c ((ι o.n).drop n0)=atn) (o0=[AT m.h,BJ c,YC,f4 VY,r0,s0,t0,u0,v0,w0,x0,y0])) ⟨none,none,none,none,none,none,none,none,HJ,I,I⟩ (λ n0 o0 p0 _⟨_,_,_,_,_,_,_,_,j,_,_⟩=>wT$ ga j D.dg);rintro n0 v o0 p0 h h z0 ⟨r0,s0,t0,u0,v0,w0,x0,y0,A0,B0,I⟩;have C0:=h.n;have D0:n0<o.n:=by have:=(φ.J z0).1;rw[Τ]at this;simpa using this
 have F0:(BR o.n (·+1)).getD n0 0=n0+1:=by rw[γ,Δ,ë D0];rfl
 rw[WS D0,F0]at z0;cases z0;have G0:(ι o.n).getD n0 0=n0:=by rw[γ,ë D0];rfl
 rw[cH (ι o.n) 0 (by rw[Ð];calc D0),G0]at B0;unfold eN at B0;rw[Ē]at B0;have H0:=eO S.ζ (i:=n0) (by rw[G.lp];calc D0);have c0:∀G p0 I0,Μ f p0->hm (f G)->atn=f4 (n0,I0)->bW f p0 G (lY o.n x A n0 I0 (asI ū I0) (asI bM I0)) [] [(n0,asI bM I0)]->g (.ref G) p0:=λG p0 I0 p s f g=>on$ c0 G p0 n0 I0 p s;have f:hm (asI fD c (Ć c (asI vK c)))->NL (eN S) c ((ι o.n).drop (n0+1))=atn:=λz=>by rw[z]at B0;exact B0
 have g:∀I0,asI fD c (Ć c (asI vK c))=f4 I0->atn=f4 (n0,I0):=λJ0 z=>by rw[z]at B0;exact B0.symm
 clear B0;have K0:=J n0;have J:=D.same A0;generalize S.ζ.getD n0 0=J at*;have M0:=L.same A0;have N0:=N.same A0;have O0:(MC n0).natAbs.log2<1920:=eh (by rw[U.a3];lia);have P0:Ρ (MC n0).eE=ć (GF n0):=eg (n0+1);have dl:=im$ c7 (n:=n0+1);have c0:=λG Q0=>c0 G Q0;unfold lY at c0;generalize R0:n0+1=S0 at H0 P0 O0 dl c0 f C0|-;simp! [H0];calc⟨J,p,q,r,s,t,u,x,y,A,B,I,M0,N0,O,e,λT0 U0 V0 W0 X0=>?_⟩;have Y0:=A0.trans V0;have Z0:MI$ NL vK J c:=OD$ É (qJ y J) O;have O:∀a1,a1∈NL vK J c->a1<y.length:=λa1 b1=>ur (υ.J b1).1;simp!;calc⟨T0,_,I,X0,Z0,λc1 d1 Q0 e1 f1 g1 h1 i1=>?_⟩;have j1:=Y0.trans e1;have k1:d1.length=aoj.length:=by have:=Ñ i1;rw[θ]at this;exact this
 calc sw$ cD (xs:=GG d1.q) (wT g1) (λa1 o0 p0=>X7 λs0 t0 u0 v0 w0 x0 y0=>A3 (Μ Q0 p0) (NL fD J c (aoj.drop a1)=NL fD J c aoj) (o0=[AT m.h,BJ c,YC,f4 VY,f4$ PD S0,s0,t0,u0,v0,w0,x0,y0])) ⟨_,_,_,_,_,_,_,HJ,I,I⟩ (λ n0 o0 p0 _⟨_,_,_,_,_,_,_,j,_,_⟩=>wT$ ga j g1);rintro a1 v o0 j m m z0 ⟨s0,t0,u0,v0,w0,x0,y0,l1,m1,I⟩;have b1:=(φ.J z0).1;rw[θ,k1]at b1;rw[Δ]at z0;let⟨n1,o1,I⟩:=Υ.J z0;let⟨p1,q1,r1⟩:=Ā i1 o1;rw[Δ,δ b1]at q1;cases q1;have s1:=Ö b1;have t1:aoj.getD a1 []=aoj[a1]:=by rw[γ,δ b1];rfl
 rw[cH _ [] b1,t1]at m1;generalize aoj[a1]=I0 at m1 s1 r1;have u1:∀a1,a1∈I0->a1<y.length:=λa1 b1=>O a1$ i6 c _ I0 s1 a1 b1;have O:=oQ c _ I0 s1;unfold fD at m1;rw[ű]at m1;have O:=j1.trans l1;have v1:=D.same O;have w1:j n1=xL I0:=ga l1 r1;have x1:=L.same O;have y1:=N.same O;simp!;calc⟨p,q,r,n1,x,y,I0,I,x1,w1,u1,?_⟩;simp! [H0];calc⟨s,t,u,A,B,_,I,y1,e,λz1 A1 B1 C1 D1=>?_⟩;have E1:=O.trans B1;have O:=D.same E1;have O:=L.same E1;have L:=N.same E1;have F1:∀a1,a1∈XG->a1<B.length:=λa1 b1=>ur b1;have G1:MI XG:=É (ga qJ) e;have e:A1 z1=xL XG:=D1;clear D1;simp! [H0];calc⟨s,t,u,z1,A,B,XG,I,L,e,F1,?_⟩;have L:õ (J&&&kz B XG) (kz y I0)=aiK:=I;have H1:aiK<2^(o.n*o.n):=aqj$ hg K0;by_cases z:XG.length=c/\aiK≠0;let⟨I1,J1⟩:=z;have K1:(aiK !=0)=Z:=by simpa using J1
 simp only[I1,K1,auG,aeW]at m1;have L1:=g I0 m1.symm;simp! [L,I1,J1];calc⟨p,q,r,n1,x,y,I0,I,O,H,ga B1 w1,gt,λa1 b1=>by have:=u1 a1 b1;lia,λp q=>?_⟩;have r:=E1.trans q;have g:=N.same r;simp!;calc⟨s,t,u,z1,A,B,XG,I,g,a0,VP e,G1,λa1 b1=>by have:=F1 a1 b1;lia,λO p=>?_⟩;have s:=r.trans p;have t:=D.same s;simp!;calc⟨o.n,_,I,gt,f0,H1,λu N=>?_⟩;have e:=s.trans N;have q:=im (ek (n:=o.n)) f0 H1;have g:=im (Qo (wd:=x) (pl:=I0) H) (λa1 b1=>by have:=u1 a1 b1;lia);have O:=Qo (wd:=A) (pl:=XG) a0 G1 (λa1 b1=>by have:=F1 a1 b1;lia);have r:Ρ " of "=ć (Ê " of "):=MT;have p:Ρ " in "=ć (Ê " in "):=MT;have D:Ρ ": "=ć (Ê ": "):=MT;have t:ZQ " of "=4:=I;have u:ZQ " in "=4:=I;have s:ZQ ": "=2:=I;simp! [P0,r,p,D,bE,ŵ];calc af λN o q x H=>?_;simp!;calc af λg A O t u=>?_;simp!;calc af λl r p D s=>?_;simp!;have N:=x.trans$ t.trans D;subst R0;calc ph (tp:=[]) (tl:=[g]) (PL (MP H)) .nil s (UX (PL u)) (e.free q) (e.free (x.free (t.free p))) λG o j1 A st=>ga m.r$ ga h.r$ c0 G o I0 (e.trans (N.trans j1)) (e.free (N.free A)) L1 st;have O:pr (sB (XG.length=c)&&aiK !=0):=by cases r:(sB (XG.length=c)&&aiK !=0);rfl;rw[ξ,BE,QR]at r;exact kt r z
 simp only[O]at m1;by_cases I1:XG.length=c;have J1:aiK=0:=Κ λq=>z ⟨I1,q⟩;simp! [L,I1,J1];calc ga m.n ⟨_,_,_,_,_,_,_,l1.trans B1,m1,I⟩;have x:¬NR XG=jp c:=gt
 simp! [L,I1,x];calc ga m.n ⟨_,_,_,_,_,_,_,l1.trans B1,m1,I⟩;rintro o0 j ⟨s0,t0,u0,v0,w0,x0,y0,l1,m1,I⟩;rw[θ,k1,g5]at m1;calc TD ⟨_,_,_,_,_,_,_,_,j1.trans l1,f m1.symm,I⟩;rintro o0 p0 ⟨r0,s0,t0,u0,v0,w0,x0,y0,A0,B0,I⟩;rw[Τ,θ,Ð,s4 ŋ]at B0;simp!;calc b0 p0 A0 B0.symm
end
def mb(a c b:M):mt HT.J9 (f4 GI)=sK min:=by simp[HT.J9];try lia
def Jh(l:f8)(a:M):HY.take a=Ě (l.take a):=by rw[ľ,ľ,List.map_take]
def aaV(l:f8)(a:M):HY.drop a=Ě (l.drop a):=by rw[ľ,ľ,aeV]
def bW.tru(a:BQ (v4 (bW e) f)):L6 K BK b Z:=by let⟨c,g,l,h,i,j,_⟩:=a;calc .X ⟨d,CP,c,_,I,j,tPB.nb,tPB.nl,I⟩
def jU :HA$ L6 K .Ť b:=GQ
def Ji{i a:β}{c:f8}{e:ï}(j:e=ć f)(k:b i=BG (Ě c))(l:hm Fk)(g:hm (b a))(h:a≠d):∃m,ø (ø (sK ø (.ü d)) d (DW CI a [])) d (DW CI a (IO lnF))=m/\Μ b m/\KL (EK (U4 m) i):=by rw[bx,j];have n:hm$ sK ø (.ü d) d:=DK (Ne.symm h) l;have e:Μ b$ ø _ d$ DW CI a$ lnF (ć f) i:=(Μ.new g).trans$ Μ.new n;calc⟨_,I,e,Α,MX k⟩
inductive aaW(wv:M)(vs:g3)(H:Hp)(d:VK)(h:XK):Prop|mk(x:Sx)(L:Ž)(S:Sh):vs=[LW,AD wv]->asE (2*L.n<=L.units.length->(∀i,S.ζ.getD i 0<RV)->(∀a,IS (hm (HI (n3 L S))->d .Ť a))->(∀e a f b c,IS (amV->HI (n3 L S)=f4 (f,b,c)->py (JY bW) (b.q (λg=>(g.1,2^g.2))) c->d EN a))->AJ (HI aaW) d h)
def Qp(b:Ĭ){wv:M}(c:wv<=4):IF vc 8$ HI aaW:=by
 calc DI vc ["sheet","size","rows","columns"] λd e f g h=>?_;let⟨i,j,S,I,k,l,m,n,o,p,q⟩:=h;have r:=k.obj;have s:=l.n9;have t:qw ap_ none (f4 (kw j.n))=Ě (kE j):=by unfold qw kE;rw[mb,Τ];show(ap_.drop 0).take (min j.n j.units.length-0)=_;rw[List.drop_zero,Jh,M.sub_zero,im cz]
 have u:qw ap_ (f4 (kw j.n)) (f4 (kw (2*j.n)))=Ě (kF j):=by unfold qw kF;rw[mb,mb,Τ,im cz,im cz,aaV,Jh];congr 2;lia
 calc ln λv x y z A B D=>⟨_,η (FT D (gQ (I5 b) B (ε az (ol (om slS MR Cn (mc MR))))))$ η (GX D (gQ (I5 b) B (ε az (ol (om slS MR (mc MR) (mc (KK Φ MR)))))))$ rc$ Dh (ċ (lf Aq) B (ε JF (ε IC (ε LK (ol OK)))))$ B8$ ċ (lf Aq) B$ ε JF$ ε IC$ ε OK$ ol LK,?_⟩;calc⟨_,I,i.h,CH,i.dx,_,_,I,r,tH.cl,tH.nUs,aeD ..,?_⟩;calc⟨_,I,i.h,CH,i.dx,_,_,I,r,tH.cl,tH.nN,Qg ..,_,I,i.u,_,I,wT k.us,λG H=>?_⟩;let⟨J,L,N,O⟩:=Mr H (LO (qw ap_ none (f4 (kw j.n))));rw[L];rw[t]at O;have d:Ρ "rows"=ć w5:=MT;have e:Ρ "columns"=ć w6:=MT;intro f g n h s;calc⟨f,g,G,_,I,Α,I,?_⟩;let⟨v,x,y,z⟩:=Ji d O n h s;rw[x];have A:=N.trans y;have r:=k.same A;simp only[jy,Ym];calc⟨_,I,i.h,CH,i.dx,_,_,I,r.obj,tH.cl,tH.nUs,aeD ..,_,I,i.h,CH,i.dx,_,_,I,r.obj,tH.cl,tH.nN,Qg ..,_,I,_,I,i.h,CH,i.dx,_,_,I,r.obj,tH.cl,tH.nN,Qg ..,_,_,I,I,?_,_,I,i.u,_,I,wT r.us,λB D=>?_⟩;calc .D ⟨DU,DU⟩;let⟨J,t,H,L⟩:=Mr D (LO (qw ap_ (f4 (kw j.n)) (f4 (2*kw j.n))));rw[t];rw[show(2*kw j.n)=kw (2*j.n)by lia,u]at L;intro v O d n h;calc⟨v,O,B,_,I,Α,I,?_⟩;let⟨s,x,N,y⟩:=Ji e L d n h;rw[x];have r:=A.trans$ H.trans N;have J:=k.same r;have u:=z.same$ H.trans N;have D:MI$ kE j:=by unfold kE;rw[Ũ];lia
 have t:MI$ kF j:=by unfold kF;rw[Ũ];lia
 simp only[jy];calc⟨_,I,_,I,_,I,_,I,i,j,S,f,g,G,v,O,B,w5,kE j,w6,kF j,I,J,l,m,o,u,y,D,t,DU,DU,λs e L=>?_,λd s n h e x A st=>?_⟩;calc⟨gl,jU,?_⟩;simp only[jh,↓ag9];have z:=r.trans e;calc⟨_,I,_,I,_,I,_,I,i,j,S,v,O,B,f,g,G,w6,kF j,w5,kE j,I,k.same z,l,m,o,y.same e,u.same e,t,D,DU,DU,λH N J=>?_,λd H n h N x A st=>?_⟩;calc p H (z.trans N) ?_;unfold n3 hQ;rw[L,J];rfl;calc q d H _ [] _ (z.trans N) (z.free x) ?_$ st.base z;unfold n3 hQ;rw[L,A];rfl;calc⟨Z,st.tru,?_⟩;simp only[↓ag9];calc q d s _ [] _ (r.trans e) (r.free x) ?_$ st.base r;unfold n3 hQ;rw[A];rfl
def Ret(a:Hp)(b:VK)(c:QD):Prop:=(∀d,wE Μ->hm c->b .Ť d)/\ ∀e d f g h,wE Μ->hm (a e)->c=f4 (f,g,h)->IH (bW a) (g.q (λi=>(i.1,2^i.2))) h->b EN d
def Ret.some{a:QD}(i:Ret m l (p.or a))(c:Μ m b)(g:zn Μ)(h:hm Fk)(j:p=f4 (f,n,o))(st:DS (zn bW) (n.q (λk=>(k.1,2^k.2))) o):l BK e:=BQ (IH i.2) (c.trans g) (c.free h) (by rw[j];rfl)$ st.base c
def Ret.none{o:QD}(c:LB Ret (o.or p))(a:zn Μ)(d:hm o):Ret e l p:=by rw[d]at c;calc⟨λf g h=>EZ f (a.trans g) h,λi f j k m g n h st=>AS (c.2 i f) m (a.trans g) (a.free n) h$ st.base a⟩
inductive Jj(vs:g3)(H:Hp)(a:VK)(b:XK):Prop|mk(x:Sx)(L:Ž)(S:Sh):vs=[LW]->SW (K8 L S->JY Ret (qm L S)->TF Jj)
def Ud(b:Ĭ):IF rQ 9 Jj:=by
 calc DI rQ ["sheet"] EO;let⟨h,i,S,I,j,k,l,m⟩:=g;calc arN ⟨_,rc$ Dh (JE aaP s aql)$ Dh (JE adp s aql)$ Dh (JE M_ s aql)$ Dh (auv (yh b (size:=2)))$ Dh (auv (Qp b (size:=2)))$ Dh (auv (yh b (size:=3)))$ Dh (auv (Qp b (size:=3)))$ B8$ auv$ yh b (size:=4),?_⟩;unfold qm at m;have u:1<=i.n:=by have:=l.n2;lia
 calc⟨_,I,h,i,S,I,j,k,u,l.ob,λv x y=>?_,λz v A B x D y st=>⟨Z,st.tru,asV (by unfold tD;rw[y];rfl) st⟩⟩;calc⟨gl,jU,?_⟩;replace m:=m.none x (by unfold tD;rw[y];rfl);replace j:=j.same x;clear x y;calc⟨_,I,h,i,S,I,j,k,l.n2,l.u2,l.pb,λG x y=>?_,λz v H B J x D y st=>⟨Z,st.tru,asV (by unfold zo;rw[y];rfl) (by simp only[Â,cq,abL (w8 y)];calc st)⟩⟩;calc⟨gl,jU,?_⟩;replace m:=m.none x (by unfold zo;rw[y];rfl);replace j:=j.same x;clear x y;calc⟨_,I,h,i,S,I,j,k,l.n2,l.u2,l.pb,λL x y=>?_,λz v A N B J x D y st=>⟨Z,st.tru,asV (by unfold o4;rw[y];rfl) st⟩⟩;calc⟨gl,jU,?_⟩;replace m:=m.none x (by unfold o4;rw[y];rfl);replace j:=j.same x;clear x y;calc⟨_,I,h,i,S,I,j,k,l.n2,l.u2,l.pb,l.ob,l.u9,λO x y=>?_,λz v H c x D y st=>⟨Z,st.tru,asV (by unfold gq;rw[y];rfl) st⟩⟩;calc⟨gl,jU,?_⟩;replace m:=m.none x (by unfold gq;rw[y];rfl);replace j:=j.same x;clear x y;calc⟨_,I,h,i,S,I,j,k,l.n2,l.u1,l.pb,λd x y=>?_,λz v e f g x D y st=>⟨Z,st.tru,asV y st⟩⟩;calc⟨gl,jU,?_⟩;replace m:=DZ m.none;replace j:=j.same x;clear x y;calc⟨_,I,h,i,S,I,j,k,l.n2,l.u2,l.pb,l.ob,l.u9,λn x y=>?_,λz v H c x D y st=>⟨Z,st.tru,asV (by unfold gq;rw[y];rfl) st⟩⟩;calc⟨gl,jU,?_⟩;replace m:=m.none x (by unfold gq;rw[y];rfl);replace j:=j.same x;clear x y;calc⟨_,I,h,i,S,I,j,k,l.n2,l.u1,l.pb,λo x y=>?_,λz v e f g x D y st=>⟨Z,st.tru,asV y st⟩⟩;calc⟨gl,jU,?_⟩;replace m:=DZ m.none;replace j:=j.same x;clear x y;calc⟨_,I,h,i,S,I,j,k,l.n2,l.u2,l.pb,l.ob,l.u9,(λp x y=>m.1 p x (by unfold gq;rw[y];rfl)),λz v H c x D y st=>m.2 z v _ [] _ x D (by unfold gq;rw[y];rfl) st⟩
def iX.put{S:Sh}(a:iX i S)(b c:M):iX i$ lf$ S.put i:=⟨a.n9,by simp[Sh.put,a.lp],by simp[Sh.put,a.ls]⟩
def iX.gJ :∀{gJ:BV}{S:Sh},iX i S->iX i (Sh.gJ i S gJ)|[],_,a=>a|LY,S,a=>iX.gJ (gJ:=c)$ a.put EM b.2
def iX.hh{S:Sh}(a:iX i S)(b:IE):iX i$ S.hh b:=⟨a.n9,by simp[Sh.hh,a.lp],a.ls⟩
def iX.aaX :∀{ls:BV}{S:Sh},iX i S->iX i (ls.ah Sh.hh S)|[],_,a=>a|LY,S,a=>iX.aaX (ls:=c)$ a.hh b
inductive aaY(vs:g3)(H:Hp)(e:VK)(f:XK):Prop|mk(x:Sx)(L:Ž)(S:Sh)(y:β)(line:f8)(gJ a:BV)(d:Hp):vs=[LW,.ref y]->SW (bW d H y line (gJ.q (λb=>(EM,2^b.2))) a->(∀b,b∈gJ->EM<L.n/\b.2<ZM)->(∀b,b∈a->EM<L.n)->(∀c,ė [x.h,x.p,x.s] H c->mO c x L (S.take L gJ a)->e .Ť c)->py (AJ aaY))
def ads(b:Ĭ):rY.P a 2 aaY:=by
 calc rY.ok ["self","step","digit","cell","cells"] EO;let⟨h,j,S,k,m,o,p,q,I,r,s,⟨t,u,l,x,y,A,B,D,G,dl,_,_⟩,H,J,L⟩:=g;have N:=r.obj;calc ln λO e m q t u O=>⟨_,η (KG XR (j9 (n:=2) I (č (IJ O) (JR (FN O)))) (IW (MK I4 u FD (ZY XX))))$ μ$ KG XR (j9 (n:=2) I (č (IJ O) (JR (IY O))))$ μ$ rM (ba u) Cl BU (PH CV) l_,?_⟩;have e:k≠h.h:=đ A N (by intro z;injection z with _ _ z;have:=YT z;calc CD$ DM (show(3:M)=7 from this));have m:k≠h.p:=AF$ đ A r.pl;have q:k≠h.s:=AF$ đ A r.st;have t:∀{u:β}{c:g3},d u=f4 (.Ý c)->u∉[h.h,h.p,h.s]:=λ{u c} O=>by simp only[ν,ã,GS,MG];exact⟨AF$ đ O N,AF$ đ O r.pl,AF$ đ O r.st⟩
 have a0:∀{u:β}{c:g3},d u=f4 (.c9 c)->u∉[h.h,h.p,h.s]:=λ{u c} O=>by simp only[ν,ã,GS,MG];exact⟨AF$ đ O N,AF$ đ O r.pl,AF$ đ O r.st⟩
 have c:k∉[h.h,h.p,h.s]:=by simp only[ν,ã,GS,MG];exact⟨e,m,q⟩
 have N:x.length=o.length:=by have:=Ñ D;rw[θ]at this;exact this
 have u:y.length=p.length:=Ñ dl;walk_at "s";simp!;calc sw$ cD (xs:=GG x.q) (.D (.D B)) (λe m q=>X3 λx b0 c0=>A3 (NA [h.h,h.p,h.s] q) (GH (mO q) (asu (o.take e))) (m=[TN,aig,x,b0,c0])) ⟨none,none,none,RA,r,I⟩ (λ e m q _⟨_,_,_,g,_,_⟩=>wT$ GK (t B) B);rintro e v m q f r B ⟨x,b0,c0,d0,f0,I⟩;have g0:=r.n;rw[Δ]at B;let⟨h0,i0,I⟩:=Υ.J B;let⟨j0,k0,l0⟩:=Ā D i0;rw[Δ]at k0;let⟨D,m0,I⟩:=Υ.J k0;have n0:e<o.length:=(φ.J m0).1;have o0:=H D$ Î m0;calc LN$ aK$ ga d0 (a0 l0) l0;have O:=d8 (λ(S:Sh)(j0:IE)=>S.put j j0.1 j0.2) S o (0,0) n0;rw[γ,m0]at O;have O:asu (o.take LH)=Sh.put j (asu (o.take e)) D.1 D.2:=O;simp! [-U.aA,-U.ae];calc⟨h,j,_,D.1,D.2,I,f0,iX.gJ s,o0.1,o0.2,λH D p0=>?_⟩;rw[O]at g0;simp!;calc ga g0 ⟨_,_,_,λr0 s0 t0 O=>OY D t0$ OY d0 t0 O,p0,I⟩;rintro m q ⟨x,b0,c0,d0,f0,I⟩;rw[θ,N,Ò]at f0;have N:iX j$ asu o:=iX.gJ s;have D:=ga d0 c A;simp!;calc sw$ cD (xs:=GG y.q) (wT (ga d0 (t G) G)) (λe m q=>X3 λx b0 c0=>A3 (NA [h.h,h.p,h.s] q) (GH (mO q) att) (m=[TN,aig,x,b0,c0])) ⟨x,b0,c0,d0,f0,I⟩ (λ e m q _⟨_,_,_,g,_,_⟩=>wT$ GK (t G) G);rintro e v m H f r B ⟨x,b0,c0,d,p0,I⟩;have g0:=r.n;rw[Δ]at B;let⟨h0,i0,I⟩:=Υ.J B;let⟨j0,k0,l0⟩:=Ā dl i0;have n0:e<p.length:=(φ.J k0).1;have o0:=J j0$ Î k0;calc LN$ aK$ IB (a0 l0) l0;have O:=d8 Sh.hh (asu o) p (0,0) n0;rw[γ,k0]at O;have f:(p.take LH).ah Sh.hh (asu o)=Sh.hh att j0:=O;have g:iX j att:=iX.aaX N;rw[f]at g0;generalize att=k at p0 g0 g;have y:=eO k.ζ (i:=j0.1) (by rw[g.lp];calc o0);have A:=λz=>wh k.ζ (i:=j0.1) z (by rw[g.lp];calc o0);have G:=s.n9;have t:QF$ qS k.ζ:=by rw[sG,g.lp];show BC;lia
 simp! [A,-U.aA];have c:h.h≠h.p:=AF$ đ p0.obj p0.pl;have q:∀r0 s0,r0≠h.p->YN H->YN (ø H h.p (NF (qS (k.ζ.set j0.1 (RQ (k.ζ.getD j0.1) j0.2))))):=λr0 s0 t0 O=>DK t0 O;calc ga g0 ⟨_,_,_,λr0 s0 t0 O=>OY q (λz=>t0 (by simp[z]))$ d r0 s0 t0 O,⟨VP c p0.obj,VP (AF (đ p0.us p0.pl)) p0.us,VP p0.ndp p0.ul,VP (AF (đ p0.dg p0.pl)) p0.dg,Α,VP p0.nps.symm p0.st,p0.nps,p0.ndp,p0.nds⟩,I⟩;rintro m H ⟨x,b0,c0,d,p0,I⟩;rw[θ,u,Ò]at p0;calc L H d p0
section
variable{base:ř}
inductive pq(vs:g3)(H:Hp)(a:VK)(b:XK):Prop|mk(x:Sx)(L:Ž)(S:Sh):vs=[LW]->SW (K8 L S->JY Ret (gL L S)->TF pq)
def Jk(a:Ĭ):(vf a).P base 10 pq:=by calc EI vf ["sheet"] aun;let⟨g,h,S,I,i,j,k,l⟩:=f;have m:=j.n9;have n:=k.u2;calc ln λp q r s t u v=>⟨_,afb (WP (ad0 (dm (Ŵ (Qj a) u FD)) (Wt (ZS Cl Φ))))$ rc$ LI Ud u ZZ,?_⟩;unfold gL at l;walk_at "s";simp!;calc⟨g,h,S,I,i,j,gt,λx y=>?_⟩;have A:=i.same y;by_cases B:S.dead h=Z;rw[BZ$ .D B]at l;simp! [B];calc DZ l.1 I;by_cases D:S.ĵ=0;rw[BZ$ .X D]at l;simp! [B,D];calc DZ l.1 I;rw[MA$ z.elim B D]at l;simp! [B,D];calc⟨g,h,S,I,A,j,k,Ret.none (o:=none) l y I⟩
inductive aaZ(vs:g3)(H:Hp)(b:VK)(c:XK):Prop|mk(x:Sx)(L:Ž)(S:Sh):vs=[LW]->SW (K8 L S->(∀a,IS (b (HS (ć (ri L S))) a))->RC aaZ)
def adt(a:Ĭ):(vg a).P base 2 aaZ:=by calc EI vg ["sheet"] aun;let⟨g,h,S,I,i,j,k,l⟩:=f;have m:=j.n9;have n:=k.u2;calc act ⟨_,ER (ď (dm (Ŵ (Qj a) t FD)) (rc az))$ ER (ď (ZS Cl Φ) (rc az))$ rc az,?_⟩;unfold ri at l;walk_at "s";simp!;calc⟨g,h,S,I,i,j,gt,λv x=>?_⟩;have y:=i.same x;by_cases z:S.dead h=Z;have:=GY l;rw[LU]at this;simp! [z];calc this;by_cases A:S.ĵ=0;have:=GY l;rw[IU,ii A]at this;simp! [z,A];calc this;have:=GY l;rw[IU,hf A]at this;simp! [z,A];calc this
inductive Jl(vs:g3)(H:Hp)(c:VK)(d:XK):Prop|mk(x:Sx)(L:Ž)(S:Sh)(m:M):vs=[LW]->SW (kH L m S->m<=1000->(∀b a,JY (ė [x.h,x.p,x.s])->ZD->JC=BG (akU (dA L m S).q)->c AZ a)->UV Jl)
def iX.take{S:Sh}(c:iX i S)(a b:BV):iX i$ io$ S.take i:=iX.aaX$ iX.gJ c
def pq.hT{a:g3}{c:VK}{d:XK}(f:io pq l d)(e:∀v b,l v b->c v b):JG pq:=by let⟨g,h,i,e0,j,k,m,n,o⟩:=f;calc⟨g,h,i,e0,j,k,m,λp q r=>MX$ BW$ n p,λs p t u x q y r st=>MX$ EB (o s p) x q y r st⟩
def Ue(s:Ĭ):(rV s).P base 11 Jl:=by
 calc(rV s).ok ["sheet","lines","step"] λJ X0 F1 v1 w1=>?_;let⟨h,m,S,r0,I,n,Y0,Z0,x1,y1⟩:=w1;calc ln λG1 t1 i W0 z1 L k0=>⟨_,η (KW k0 RS)$ η (FT k0 (ċ (Jk s) L ZZ))$ η (cL (Ô Hh BU ŝ) (η (Ł (TX AG (ol (Ø BU)))) (η (Ł (Ľ (ads s) L FD XM)) (μ (FT k0 (ċ (Jk s) L ZZ))))))$ η (Ł (TX AG (ol (ċ (adt s) L ZZ))))$ rc AG,?_⟩;walk_at "s";simp!;calc af λi a1 p s0 b1=>?_;simp!;have g0:h.h≠i:=ρ n.obj p;have h0:h.p≠i:=ρ n.pl p;have i0:h.s≠i:=ρ n.st p;let⟨W,A⟩:∃W:MJ,W= λG t0 N=>X3 (λ c(b:AU) v=>A9 (t0=[TN,f4 OH,DE]) (No (mO N) c) (iX m c) (kH m G c) (b++dA m G c=dA m r0 S) (b.length+G<=r0) (N i=BG arR) (ė [i,h.h,h.p,h.s] X0 N) ((UM/\hm (gL m c))\/ ∃O y k l B,v=.ref O/\O≠i/\B i≠none/\gL m c=f4 (y,k,l)/\bW B N O y (k.q (λe=>(e.1,2^e.2))) l)):=EJ;have D:∀(c:Sh)(b:AU)(G:M)(t:Hp)(c1:ut),No (mO t) c->iX m c->kH m G c->b++dA m G c=dA m r0 S->b.length+G<=r0->t i=BG arR->ė [i,h.h,h.p,h.s] X0 t->pq [wp h.h] t (λv a0=>W G [TN,f4 OH,DE] a0) E0:=by intro c b G t c1 l0 m0 n0 u0 v0 b0 w0;calc⟨h,m,c,I,l0,m0,n0.ok,λa0 q r=>?_,λO a0 y k l q x0 r st=>?_⟩;rw[A];calc⟨c,b,.Ť,I,l0.same q,m0,n0,u0,v0,VP b0,λe u d f=>VP$ DS$ w0 e u,.D$ ln r⟩;rw[A];exact⟨c,b,.ref O,I,l0.same q,m0,n0,u0,v0,VP b0,λe u d f=>VP$ DS$ w0 e u,.X ⟨O,y,k,l,t,I,(λz=>by rw[z,b0]at x0;cases x0),by rw[b0];simp,r,st⟩⟩
 have d1:=s4 (D S [] r0 a1 none (n.same s0) Y0 Z0 I) b1 λe u _ f=>ga s0 f;calc d1.hT λv a0 c0=>?_;simp!;calc dn W r0 c0 ?_;intro G t0 x A1 kT e1 c0;rw[A]at c0;let⟨c,b,v,I,j,o0,y0,d0,B1,z0,A0,f1⟩:=c0;rcases f1 with⟨I,g1⟩|⟨O,y,k,l,B,I,B0,j0,h1,st⟩;simp!;calc e1 _ ?_;simp!;calc⟨h,m,c,I,j,o0,y0.ok,λC1 C0=>?_⟩;rw[iA g1]at d0;have u1:=TD z0;simp!;calc wn (by show b.length<QW;lia);simp!;calc y1 i _ (λe u d f=>?_) p ?_;rw[ω$ ρ f p];calc TD$ A0 e u (by simp at d|-;calc⟨ρ f p,d⟩) f;rw[Α,<-d0];simp;let⟨i1,j1,k1,l1,D0,m1,F0,G0,H0,I0,J0,K0⟩:=st;let⟨M0,D1,n1,o1,p1,q1,N0⟩:=y0.some h1;rw[n1]at d0;simp!;calc kT _ λv1 r1=>?_;simp!;calc wn (by show b.length<QW;lia);have O0:ė [i] x$ ø x i$ LO (arR++[V.str$ ć y]):=ė.put1 RA;have p0:∀{e:β}{u:HO},X0 e=f4 u->e≠i:=λr=>ρ r p;have P0:=Α (H:=x) (a:=i) (o:=LO (arR++[V.str$ ć y]));generalize ø x i (LO (arR++[V.str$ ć y]))=f0 at O0 P0|-;have g:∀{e:β}{u:HO},e≠i->x e=f4 u->f0 e=f4 u:=λd r=>ga O0 abe r;have tU:∀{e:β}{J:g3},x e=f4 (.c9 J)->f0 e=f4 (.c9 J):=λ{e J} r=>g (AF (đ r z0)) r;have Q0:No (mO f0) c:=⟨g g0 j.obj,g (p0 n.us) j.us,g (p0 n.ul) j.ul,g (p0 n.dg) j.dg,g h0 j.pl,g i0 j.st,j.nps,j.ndp,j.nds⟩;have R0:bW B f0 O y (k.q (λe=>(e.1,2^e.2))) l:=⟨i1,j1,k1,l1,D0,g B0 m1,g (λz=>j0 (by rw[<-z];calc J0)) F0,bq.eI G0 λ_ _ r=>tU r,g (λz=>j0 (by rw[<-z];calc K0)) H0,bq.eI I0 λ_ _ r=>tU r,J0,K0⟩;simp!;calc⟨h,m,c,O,y,k,l,B,I,Q0,o0,R0,p1,q1,λS0 T0 U0=>?_⟩;have s1:i∉[h.h,h.p,h.s]:=by simp;exact⟨Ne.symm g0,Ne.symm h0,Ne.symm i0⟩
 have V0:S0 i=BG (akU (b++[y]).q):=by rw[ga T0 s1 P0];simp
 simp!;calc(D (AI (c.take m)) (b++[y]) M0 S0 none U0 (AI o0.take) N0 (by rw[Ĝ];calc d0) (by rw[π];simp;lia) V0 λe u d f=>?_).hT λv E1 z=>?_;case' auH=>simp!;exact ga r1.n ⟨M0,gt,z⟩
 simp only[ν,ã,GS,MG]at d;calc ga T0 (by simp;calc d.2)$ g d.1$ A0 e u (by simp;calc d) f
end
end Sq
namespace Sq
open PySem L2 dO L3
def adu(l:f8)(a:M):aR (qS l) (OL (WO+1)) (HM a)=qS (l++[a]):=by unfold aR;rw[hf];unfold qS;rw[π,Kh,ę,Æ];congr 1;calc ö λb c=>?_;have d:=ψ.J c;rw[γ,γ,Ņ d];simp;rw[ô];rintro ⟨e,f,g⟩;let⟨b,c,I⟩:=χ.J f;have d:=ψ.J c;lia
def qK{L:Ž}(a:L.n<=9)(b:f8):∀c,iX L (lf (aH L))|0=>⟨a,by simp[aH,Bt],by simp[aH,Bt]⟩|BD=>by have d:=EE qK;rw[hR];split;calc d;calc⟨a,by simp[Sh.put,d.lp],by simp[Sh.put,d.ls]⟩
section
variable{base:ř}
inductive Qq(vs:g3)(H:Hp)(f:VK)(l:XK):Prop|mk(q:æ)(z:Qx)(b:V)(c:BA)(x d:β):vs=[DJ,TH]->TQ (akX d [])->lf ab4->x≠z.a->x≠z.Lp->(∀g,g∈q.cells->g<=q.n)->(∀a h i j,(∀e k,e≠x->H e=RY->a e=RY)->hm (H h)->QM H->hm (H j)->mO a ⟨x,d,z.pu,z.pd,h,i,j⟩ (sE q) (aH (sE q) q.cells KO)->f .Ť a)->AJ Qq f l
def aa0(a:Ĭ):(k4 a).P base 2 Qq:=by
 calc EI k4 ["self","square","digit","cell"] aun;let⟨g,z,h,i,j,k,I,l,m,o,p,q,r⟩:=f;have s:g.n*g.n<=9*9:=Ë (lv m.cn)$ lv m.cn;have t:=m.cn.1;have u:=lv m.cn;calc atc ⟨_,OS XR$ OS (Ø XR)$ OS (Ø XR)$ OS (Ø XR)$ OS (ń (agu I) JZ.list ÿ (ol (ń ajP JZ.range b9 (ε Φ (ol (WF XR Φ))))))$ OS kP$ OS kP$ η (auc (IJ H) (η (kQ (ba G) Cl BU Cl I) (μ (kQ (ba G) Cl BU Φ I))))$ μ$ Ī (ak3 JZ (ol (Ø AG))) (j9 (n:=2) I (č (FN H) (JR (IJ H))))$ HL$ ď (ND BU Φ)$ IW$ MN I4 G FD$ ZY$ ol$ TK FC,?_⟩;have J:z.a≠j:=o.symm;have N:z.Lp≠j:=p.symm;have O:=m.obj;have b:=m.lp.obj;walk_at "s";simp! [-ĕ];calc sk l Pb 0 I λd h i=>?_;have f:=UP J O;have s:=UP N b;simp! [-ĕ];calc sk i mM 1 I λt u x=>?_;have y:=QP J f;have A:=QP N s;simp! [-ĕ];calc sk x oH 2 I λB D G=>?_;have H:=PL J y;have o:=PL N A;simp! [-ĕ];calc sk G lq 3 I λp d b=>?_;have t:=IB J H;have B:MB SB p:=λN t a0 b0=>ON d a0$ ON D a0$ ON u a0$ XI$ ON h;clear h u D d i x G f y H s A o;have h:kw g.n+1=MC g.n:=I;simp! [-ĕ];calc acW λi f s u x=>?_;have y:Ę 1 (jp g.n+1) 1=jp g.n:=by rw[Q6,JO];lia
 simp! [-ĕ];calc im (Zp x (Op (Op (xK y))) y) λA D G H o=>?_;have d:pE 1 1 g.n=Ě (BR g.n (·+1)):=by rw[ľ,Χ];unfold pE;calc ö λh _=>?_;show FL (1+FB*1)=CK (h+1);congr 1;lia
 rw[d]at o;have i:=LT$ QP b;have c0:A≠j:=(ρ (QP b) G).symm;simp! [-ĕ];calc sk i r8 4 I λd0 f0 g0=>?_;simp! [-ĕ];calc af λh0 i0 j0 k0 l0=>?_;have m0:=ga k0 g0;have n0:h0≠j:=(ρ g0 j0).symm;simp! [-ĕ];calc sk m0 r9 5 I λo0 p0 r0=>?_;simp! [-ĕ];calc af λs0 t0 u0 v0 w0=>?_;have x0:=ga v0 r0;have y0:s0≠j:=(ρ r0 u0).symm;have z0:=ga p0 n0 l0;have A0:s0≠h0:=(ρ z0 u0).symm;simp! [-ĕ];calc sk x0 r_ 6 I λB0 C0 D0=>?_;have z0:=TD n0$ ga v0 z0;have F0:=TD y0 w0;have G0:=TD c0$ ga v0$ ga p0 c0$ ga k0$ ga f0 c0 o;have H0:MB SB d0:=λN t a0 b0=>ON f0 a0$ LT$ QP$ XI$ ON B;have I0:MB SB o0:=λN t a0 b0=>ON p0 a0$ ga k0$ XI$ ON H0;have J0:MB SB B0:=λN t a0 b0=>ON C0 a0$ ga v0$ XI$ ON I0;have K0:∀{M0:Hp}{N},MB SB M0->N≠j->hm (M0 N)->hm (c N):=λ{M0 N} N0 a0 b0=>by cases w:c N with
 |none=>rfl
 |some t=>rw[ON N0 a0 w]at b0;cases b0
 have O0:=K0 H0 n0 j0;have P0:=K0 I0 y0 u0;have Q0:=K0 (λN t a0 b0=>QP$ XI$ ON B) c0 G;have D0:B0 j=f4 (akX k (Iz g.n z.pu z.pd aqW A h0 s0)):=D0;have R0:A≠h0:=AF$ đ G0 z0;have S0:A≠s0:=AF$ đ G0 F0;clear B H0 I0 f0 p0 C0 u H k0 v0 b g0 m0 r0 x0 i x o l0 w0 j0 u0 G s d y K0;simp!;calc sw$ cD (xs:=Ě (BR g.n (·+1))) (dq G0) (λh b M0=>X1 λB=>A4 (b=[f4 PX,AT z.a,B,none]) (∀N t,N≠h0->N≠s0->afs B0->afs M0) (M0 h0=akT (qS (Λ h aqW))) (M0 s0=akT (qS (HV Λ)))) ⟨none,I,λ_ _ _ _ b0=>b0,z0,F0⟩ (λ h b M0 _⟨B,_,s,_,_⟩=>dq$ MZ R0 S0 G0);rintro h v b M0 e y G ⟨B,I,s,H,o⟩;have d:=y.n;have i:h<g.n:=by have:=(φ.J G).1;rw[Τ]at this;simpa using this
 have T0:HV (BR g.n (·+1)).getD=h+1:=by rw[γ,Δ,ë i];rfl
 rw[WS i,T0]at G;cases G;have U0:=MZ n0.symm y0.symm D0;have ad:∀b0:M,aR (qS (Λ h b0)) (OL (kw (h+1:M))) (HM b0)=qS (Λ (h+1) b0):=λb0=>by have:=adu (Λ h b0) b0;rw[gD]at this;rw[List.replicate_succ',<-this];rfl
 have V0:aR (qS (HV Λ)) (OL (kw (h+1:M))) XD=qS (Λ (h+1) 0):=ad 0;have W0:=ad aqW;have X0:∀b0,QF (qS (Λ h b0)):=λb0=>by rw[sG,gD];show BC;lia
 have Y0:=X0 aqW;have Z0:=X0 0;generalize h+1=a1 at d V0 W0|-;have b1:ø M0 h0 (NF (aR (qS (Λ h aqW)) (VO a1) (HM aqW))) j=f4 (akX k (Iz g.n z.pu z.pd aqW A h0 s0)):=DK n0.symm U0;have c1:ø M0 h0 (NF (aR (qS (Λ h aqW)) (VO a1) (HM aqW))) s0=akT (qS (HV Λ)):=DK A0 o;simp!;calc IB ⟨_,I,λN t d1 e1 b0=>by rw[ω e1,ω d1];calc ON s d1 e1 b0,by rw[ω A0.symm,Α,W0],by rw[Α,V0]⟩;rintro b M0 ⟨B,I,s,H,o⟩;rw[Τ,θ,Ð]at H o;have f1:∀N t,N≠j->afs c->afs M0:=λN t a0 b0=>ON s (ρ b0 O0) (ρ b0 P0)$ XI$ ON J0;have g1:z.g≠j:=AF$ đ m.gv l;have h1:mO M0 ⟨j,k,z.pu,z.pd,A,h0,s0⟩ (sE g)$ aH (sE g) g.cells 0:=⟨MZ n0.symm y0.symm D0,ga f1 (AF (đ m.lp.us l)) m.lp.us,ga f1 (AF (đ m.lp.ul l)) m.lp.ul,MZ R0 S0 G0,H,o,A0.symm,ρ m.lp.ul O0,ρ m.lp.ul P0⟩;have l:∀{p:Hp},(∀N t,N≠j->N≠h0->N≠s0->afs M0->afs p)-> ∀N t,N≠j->afs c->afs p:=λs N t a0 b0=>ON s a0 (ρ b0 O0) (ρ b0 P0)$ XI$ ON f1;have H:=ga f1 J O;simp!;calc sw$ xI (xs:=Ě g.cells) (dq (ga f1 g1 m.gv)) (λh b p=>X2 λB o=>A3 (b=[f4 PX,AT z.a,B,o]) (∀N t,N≠j->N≠h0->N≠s0->afs M0->afs p)$ mO p ⟨j,k,z.pu,z.pd,A,h0,s0⟩ (sE g)$ aH (sE g) g.cells h) ⟨_,_,I,λ_ _ _ _ _ b0=>b0,h1⟩ (λ h b p _⟨B,o,_,s,_⟩=>dq$ ga (l s) g1 m.gv);rintro h v b p f c e y G J u x ⟨B,o,I,s,O⟩;have d:=y.n;let⟨i,I⟩:=Ū G;have H:h<g.n*g.n:=by rw[<-m.len];exact i
 have f:=q _$ getD_mem i;rw[hR]at d;have e:=O.same u;have c:=e.obj;calc LN$ aK x;cases J:HV g.cells.getD with
 |zero=>rw[J]at d;simp!;calc IB ⟨_,_,I,λN t d1 e1 y b0=>QP$ ON s d1 e1 y b0,e⟩
 |HW G=>
  rw[J]at f d;have q:jp 2^h=TV h:=by rw[U.ae];rfl
  have i:=qK (L:=sE g) (lv m.cn) g.cells h;have x:¬MC G=0:=gt
  have c:PP FB:=gt
  simp! [x,c,q,-U.ae,-U.aA];calc⟨⟨j,k,z.pu,z.pd,A,h0,s0⟩,sE g,_,G,h,I,e,i,by show G<g.n;lia,H,λD f J=>?_⟩;simp!;exact IB ⟨_,_,I,λN t d1 e1 y b0=>ON f (by simp[d1,e1,y])$ QP$ ON s d1 e1 y b0,J⟩
 rintro b p ⟨B,o,I,s,O⟩;rw[Τ,m.len]at O;calc r p A h0 s0 (l s) Q0 O0 P0 O
end
end Sq
namespace Sq
open PySem L2 dO TL L3
def adv{x:ï}:Src (Its x) x.eB.L (λ_=>EQ) λa v b c=>c=b/\∃d,x.eB[a]? =LJ/\v=HS ⟨#[d]⟩:=⟨λa b e _=>e,λb _=>AK,λa b x c _ _ f=>f⟩
def sM:∀l:AU,ē [] l=l.bQ
 |[]=>I
 |[a]=>by simp[ē]
 |UO c=>by show a++([]++ē [] _)=_;rw[sM _];simp
section
variable{base:ř}
def yi(a:æ):Sh:=aH (sE a) a.cells FK
inductive Qr(vs:g3)(H:Hp)(e:VK)(g:XK):Prop|mk(q:æ)(z:Qx)(b:V)(c:BA)(m:M):vs=[TH]->lf ab4->(∀f,f∈q.cells->f<=q.n)->kH (sE q) m (yi q)->m<=1000->(∀d a,IS (agI->MY=xL ((dA (sE q) m$ yi q).aD (λh=>h++[10]))->e BK a))->GZ (AJ Qr)
def aa1(a:Ĭ):(mj a).P base 12 Qr:=by
 refine EI mj ["square","text","line","sign"] aun
 .let⟨g,z,h,i,j,I,k,n,o,p,q⟩:=f;calc ln λr s t u y A B=>⟨_,η (KW B (C6 az (ID B (ņ (LI Ue A (ol (gQ (aa0 a) A aql)))) (İ (ü:=[("line",2)]) (by show EA (dj ["square","text","line","sign"] (HN 100));decide+AO)) (λ_ _ _ _ _=>IJ B) Tm (λ_ _ _ _ _=>pX$ ı (bf LK)$ ZG j6))))$ rc$ ID B (afK IC) (İ (ü:=[("sign",3)]) (by show EA (dj ["square","text","line","sign"] (HN 100));decide+AO)) (λ_ _ _ _ _=>FN B) Tm λ_ _ _ _ _=>Ļ Xb JZ.ord akG$ ol OK,?_⟩;let⟨D,G⟩:=tE o;have H:iX (sE g)$ yi g:=ga$ qK$ lv k.cn;calc⟨EJ,_,I,?_⟩;intro J L N O b;have d:hm$ WH L (.ü J) J:=DK (Ne.symm b) N;have e:Μ c$ ø (WH L (.ü J)) J$ akX L []:=(Μ.new O).trans$ Μ.new d;have f:ø (WH L (.ü J)) J (akX L []) J=f4 (akX L []):=Α;dsimp only[Đ];generalize ø (WH L (.ü J)) J (akX L [])=r at e f|-;calc⟨g,z,h,i,J,L,I,f,k.same e,(λw=>by rw[w,k.obj]at N;cases N),(λw=>by rw[w,k.lp.obj]at N;cases N),n,λs t u y A B D fs b=>ln ?_⟩;calc⟨⟨J,L,z.pu,z.pd,t,u,y⟩,sE g,yi g,j,I,b,H,o,p,λO d h i k=>?_⟩;have n:re Μ:=λf r s=>by have B:f≠J:=ρ s N;have o:=MX s;calc h f r ?_$ A f r B o;simp only[ν,ã,GS,MG];exact⟨B,ρ o D,ρ o fs⟩
  generalize p:dA (sE g) j (yi g)=H at*;refine⟨O,I,CM$ .D$ .D k,λL t=>sw$ mi (oy (xs:=akU H.q)) KY (λu=>V.str$ ć (H.getD u []++[10])) t (by rw[θ,θ];show BC;lia) λb y=>y.seq$ .D$ .D k⟩
  .intro u v i c d J N;let⟨I,N⟩:=N;rw[θ,θ]at d;calc⟨HJ,λe A D h=>?_⟩;rw[Δ,Δ,δ d]at N;cases N;have f:H.getD u []=H[u]:=by rw[γ,δ d];rfl
   have r:=G _$ Ö d;rw[f]at D;have s:Ρ "\n"=ć [10]:=MT;calc ln ?_;simp only[Sv,↓ag9];calc⟨_,I,.X ⟨_,I,?_,_,I,?_,_,I,?_,?_,?_⟩⟩;all_goals try simp only[s,bE,ŵ,Ŷ,π,ag]
   show GT _;lia;show GT _;lia;show GT (_+1);lia;show GT (_+1);lia;exact IR$ D I
  intro i J B;rw[θ,θ,CZ]at B;have o:BR H.length (λu=>V.str$ ć (H.getD u []++[10]))=akU (apW [10]).q:=by have:=ķ H KY (λj=>V.str$ ć (j++[10])) [];rw[CZ,CZ]at this;rw[this,Χ,Χ];rfl
  rw[o]at B;have e0:Ρ ""=ć []:=by rw[ă];rfl
  have p:WM (apW [10])<=H.length*12001:=by have:=dO.hH (l:=(apW [10]).q ą) (m:=12001) (λO t=>by let⟨y,k,I⟩:=χ.J t;let⟨g,f,I⟩:=χ.J k;have:=QN G;rw[π];show _+1<=_;lia);rwa [θ,θ]at this
  have b:=oP$ apW [10];calc⟨_,L,(apW [10]).q ć,I,I,wT$ .D B,?_,?_⟩;rw[yg,e0,Ŷ];show GT (_+_*0);lia;rw[e0,iY];have c:ē [] (apW [10])=H.aD (λg=>g++[10]):=by rw[sM];rfl
  rw[c]at b|-;generalize r:(H.aD λg=>g++[10])=i at*;simp only[jy];calc⟨_,I,_,I,λs o=>sw$ mi (adv (x:=ć i)) KY (λu=>HM$ i.getD u 0) o ?_ asO⟩;show i.ac.L<QW;rw[Ç];lia;intro u v p O d y N;let⟨I,j,G,I⟩:=N;calc⟨HJ,λe A D h=>?_⟩;have f:i[u]? =ak6:=by have:i.ac[u]? =ak6:=G;simpa using this
  have t:i.getD u 0=j:=by rw[γ,f];rfl
  rw[t]at D;calc ln ?_;simp only[Sv,↓ag9];calc⟨_,I,_,I,I,IR$ D I⟩;intro p y k;rw[CZ]at k;have L:(ć i).cps.size=i.length:=by show i.ac.L=_;simp
  rw[L]at k;have B:BR i.length (λu=>HM$ i.getD u 0)=Ě i:=by have:=ķ i KY (λj=>HM j) 0;rw[CZ,CZ]at this;rw[this,ľ]
  rw[B]at k;have b:=n.trans$ J.trans y;calc q s p b (n.free (J.free o)) k
end
end Sq
namespace Sq
open PySem L2 dO L3
variable{a c u:Hp}{b f p s:β}{v:vB}{q:ï}{i:V}{m:BA}{l:æ}{A:HO}{B:ES}{h:VK}{x:C}{y:U}{d:ř}{j:M}{G:f8}{n:g3}{H:XK}
abbrev uu:=qb
def Sf:Ch HO|.Ý _=>EQ|ga .jt=>EQ|.ext _=>EQ|ga .Ŀ fs=>fs.length=2|_=>DN
def U5(b a:Hp):Prop:=∀c d,Db=LJ->Sf d->JD=LJ
def g6(b a:Hp):Prop:=∀c d,Db=LJ->(Sf d\/∃e,d=.tK e)->JD=LJ
def g6.m8(b:mt g6):mt U5:=λd e f g=>IH b$ .D g
def g6.of(b:mt Μ):mt g6:=λd e f _=>IH b
def g6.trans(b:mt g6)(d:g6 c u):g6 a u:=λe f g h=>py d (EU EV) h
def U5.trans(b:mt U5)(d:U5 c u):U5 a u:=λe f g h=>py d (EU EV) h
def jz.kp(d:io jz v q)(e:mt g6):Ev jz v q:=by let⟨f,g,d⟩:=d;calc⟨f,MX g$ .X EJ,?_⟩;rcases d with d|⟨h,i,j⟩;calc .D d;calc .X ⟨h,i,MX j$ .D CA⟩
def SqV(a:Hp)(st:uu)(v:V):Prop:=match st with|none=>UM|ZC=>∃(z:Qx) (c:V) (d:BA),v=TH/\re (sK ih z)/\b.fc
def SqV.same{st:uu}{v:V}(b:SqV a st v)(d:mt Μ):SqV c st v:=by cases st with
|none=>calc b
|some e=>let⟨z,f,g,h,i,j⟩:=b;calc⟨z,f,g,h,i.same d,j⟩
structure sW(H:Hp)(x:β)(st:uu):Prop where
 obj:∃a v,TQ (NK a [("square",v)])/\SqV H st v
 t1:jz H P1 aiE acL
 t2:jz H P2 aiF acM
 ne:P1≠P2
variable{e:uu}
def sW.same(d:io sW e)(f:mt Μ):zn$ sW c:=by let⟨g,v,h,i⟩:=d.obj;calc⟨⟨g,v,JI h,i.same f⟩,d.t1.kp$ .of f,d.t2.kp$ .of f,d.ne⟩
def sW.mk2(f:zn (sW c)){d:uu}(g:AA g6)(h:∃i v,RH (NK i [("square",v)])/\wE SqV v):LP sW:=⟨h,f.t1.kp g,f.t2.kp g,f.ne⟩
def ih.gen{e:æ}{z:Qx}(b:CF ih z i m)(d:∀f g,c f=HK->(∀C h fs,g=DH h fs->3<=fs.length)->(∀j,g≠.tK j)->a f=HK):ih e a z i m:=by have k:∀f n,c f=UB->a f=f4 (.Ý n):=λf n o=>FZ$ d f _ o (by intro _ _ _ w;cases w);have p:∀f C h fs,c f=UB->3<=fs.length->a f=JX (DH h):=λf C h fs o q=>FZ$ d f _ o (by intro _ _ _ w;cases w;calc q);have r:∀{s t u v:β}{x:Ž},GY (PN (mN c))->GY (PN (mN a)):=λy=>⟨(EY p y.obj (by simp[yW])),NN y.us,FZ$ IB y.ul (by intro _ _ _ w;cases w)⟩;calc⟨(EY p b.obj (by simp[x7])),NN b.gv,NN b.un,dk.eI b.ul λA g B o=>?_,⟨(EY p b.se.obj (by simp[Du])),(FZ$ IB b.se.kn (by intro _ _ _ w;cases w)),b.se.ok⟩,r b.lp,b.la.imp id (λ⟨D,t,u,v,o,l⟩=>⟨D,t,u,v,o,r l⟩),b.len,b.cn⟩;let⟨G,H⟩:=â.J B;let⟨J,_,L⟩:=Ā b.ul H;rw[L]at o;cases o;calc NN L
def ih.apr{z:Qx}{v:V}(d:GV ih z i m)(c:RH (NK f [("square",v)])):ih l (io ø A) z i m:=d.gen λe g h j _=>by rw[ω];calc h;intro w;rw[w,c]at h;cases h;calc s4$ DM$ AY j I
def g6.aj6{C:β}{fs:ES}(d:JC=JX (DH f))(c:fs.length≠2):g6 a$ io ø$ DH f B:=λe g h i=>by rw[ω];calc h;intro w;rw[w,d]at h;cases h;rcases i with i|⟨j,i⟩;calc c i;cases i
def g6.vy{z:Qx}(d:mt (cN z))(b:GV ih z i m):mt g6:=λe f g h=>py d (λw=>by rw[w,b.se.obj]at g;cases g;rcases h with h|⟨j,h⟩;calc CD$ DM (show 3=2 from h);cases h) (λw=>by rw[w,b.se.kn]at g;cases g;rcases h with h|⟨j,h⟩;calc h;cases h) g
def yj(a:Hp)(c:VK)(d:β)(st:uu)(b:C):Prop:=∀l e,AM U5->ME a->e l=VG (YV b)->sW e d (E8 st b)->c CG e
def yk{st:uu}(i:FM yj b st x)(d:AA U5)(e:∀j,hm (a j)->hm (c j))(f:io sW (E8 st x))(g:YV x=[y]):∀j,hm (a j)->h PX (ø a j (AQ [.int y])):=λj k=>i j _ (d.trans (g6.of$ Μ.new k).m8) (AS e) (by rw[Α,g];rfl)$ f.same$ Μ.new k
inductive aa2(vs:g3)(H:Hp)(b:VK)(c:XK):Prop|mk(x a:β):vs=[DJ]->TQ (NK a [])->b .Ť (Ix ø (NK a [("square",.Ť)]))->RC aa2
def adw(a:Ĭ):(iO a).P d 1 aa2:=by calc EI iO ["self"] aux;let⟨h,i,I,j,k⟩:=g;calc ln λl m n o p q r=>⟨_,μ$ SM ŝ,?_⟩;calc⟨_,I,h,CN,i,_,I,j,tN.cl,tN.nS,DU,k⟩
inductive Jm(vs:g3)(H:Hp)(a:VK)(b:XK):Prop|mk(x:β)(st:uu):vs=[DJ]->as0->JY yj x st .start->TF Jm
def Ug(a:Ĭ):iP.P d 1 Jm:=by
 calc iP.ok ["self"] aux;let⟨h,st,I,i,j⟩:=g;let⟨k,v,l,m⟩:=id i.obj;calc arN ⟨_,η (SM ŝ)$ ZU Y6,?_⟩;have u:g6 c$ FM ø$ NK k [("square",.Ť)]:=g6.aj6 l (by show(1:M)≠2;decide);calc⟨_,I,h,CN,k,_,I,l,tN.cl,tN.nS,(by show Id 1;decide),(by show 1<=QW;decide),?_⟩;exact yk j u.m8 (λx y=>by cases A:c x with
 |none=>rfl
 |some B=>by_cases z:x=h;rw[z,Α]at y;cases y;rw[ω z,A]at y;cases y) (i.mk2 u ⟨k,.Ť,Α,I⟩) I
inductive aa3(vs:g3)(H:Hp)(b:VK)(c:XK):Prop|mk(x a:β)(st:uu)(n d:U)(g:f8):vs=[DJ,JN,OR,AC]->ahg (Ě g)->as0->JT yj x st (.set n d (zs g))->RC aa3
def Qs(l:f8):ħ QO=l:=by
 unfold ħ zs;rw[Χ];conv=>rhs;rw[<-km l]
 calc ö λa _=>U.a0 a
def Nb{a:nm}(b:2<=j/\j<=9/\Ō j G=Z):amU ⟨j,G,a,Λ (j*j) 0⟩:=⟨b,mo,λc d=>by rw[List.eq_of_mem_replicate d];calc CY,ga ze⟩
def adx(a:Ĭ):k7.P d 7 aa3:=by
 calc k7.ok ["self","n","diagonals","region"] aux;let⟨h,i,st,j,k,l,I,m,n,o⟩:=g;let⟨p,v,q,r⟩:=id n.obj;calc atb ⟨_,ER (YL (LI aaH A (VQ (ZY XX))) (ZU t_))$ OS (gQ (aaM a) A (VQ (ZY XX)))$ ZU Y6,?_⟩;have D:fc st (AS C.set QO).wC=if TW x6=Z then((f4 ⟨j.aj,l,k==1,Λ (j.aj*j.aj) 0⟩:uu),(jp 0,([]:ep)))else(st,(-1,[])):=by show(if(Ģ j 2 9&&(Ģ k 0 1&&Ō j.aj (ħ QO)))=Z then _ else _)=_;rw[Qs];rfl
 walk_at "s";simp!;calc⟨j,k,i,l,I,m,λG H=>?_⟩;by_cases J:TW x6=Z;rw[ii J]at D;have L:=J;unfold x6 at L;rw[ξ,ξ,aw,aw]at L;let⟨⟨N,O⟩,⟨_,_⟩,b⟩:=L;have e:j=kw j.aj:=gt
 simp! [J];intro f g r s t;have u:hm$ ø G g (.ü f) f:=DK (Ne.symm t) r;have x:Μ G$ ø (ø G g (.ü f)) f$ YZ g []:=(Μ.new s).trans$ Μ.new u;have y:ø (ø G g (.ü f)) f (YZ g []) f=f4 (YZ g []):=Α;generalize ø (ø G g (.ü f)) f (YZ g [])=A at x y|-;have B:=H.trans x;calc⟨⟨j.aj,l,k==1,Λ (j.aj*j.aj) 0⟩,f,g,i,k,by rw[<-e],y,LG m,I,⟨by show 2<=j.aj;lia,by show j.aj<=9;lia,b⟩,I,λN z O L t=>?_⟩;have s:Μ G N:=λu A i=>L u A (ρ i r)$ QB i;have m:=H.trans s;have e:=NC q;have g:Id ([("square",v)]:ES).length:=by show Id 1;decide
 simp!;have y:g6 N$ ø N h$ NK p$ aM "square" EH [("square",v)]:=g6.aj6 e (by show(1:M)≠2;decide);have B:g6 c$ ø N h$ NK p$ aM "square" EH [("square",v)]:=(g6.of m).trans y;have G:E8 st (AS .set QO)=f4 ⟨j.aj,l,k==1,Λ (j.aj*j.aj) 0⟩:=by unfold E8;rw[D]
 have r:YV (AS .set QO)=[0]:=by unfold uF;rw[D];rfl
 calc yk o B.m8 (λx L=>?_) ?_ r;cases i:c x with
 |none=>rfl
 |some A=>by_cases z:x=h;rw[z,Α]at L;cases L;rw[ω z,NC i]at L;cases L
 rw[G];calc n.mk2 B ⟨p,EH,Α,z,.Ť,[],by rw[O],?_,Nb ⟨gt,gt,b⟩⟩;calc t.apr e;rw[hf J]at D;have G:E8 st (AS .set QO)=st:=by unfold E8;rw[D]
 have r:YV (AS .set QO)=[-1]:=by unfold uF;rw[D];rfl
 simp! [J];calc yk o (g6.of H).m8 (λx L=>H.free L) (by rw[G];calc n.same H) r
@[simp]def aj7(v:V):hu [("square",v)] "give_instead":=I
@[simp]def aj8(v:V):hu [("square",v)] "tell":=I
def e8(b:Hp)(c:VK)(d:β)(a:uu×(U×ep)):Prop:=∀l e,zn U5->ME b->e l=BG (FL (lv a)::Ě (wS a))->sW e d a.1->c CG e
def yj.r{st:uu}(c:FV yj b st x):FV e8 b$ fc st x.wC:=c
def e8.Ý{st:uu}(g:FM e8 b (st,y,[]))(d:AA U5)(e:∀i,QM a->QM c)(f:io sW st):∀i,QM a->h OH (IP ø (AQ [.int y])):=λi j=>g i _ (d.trans (g6.of$ Μ.new j).m8) (up e) (by rw[Α];rfl)$ f.same$ Μ.new j
def e8.gN{f:uu×(U×ep)}(g:DA (FV e8))(d:mt U5)(e:∀i,QM c->QM a):DA$ FM e8:=λl j k m n o=>BQ$ g l j (d.trans k)$ AE e
def aT.cells{a:æ}(l:f8)(b:aT a (mv a) m):aT {a with cells:=l} (mv {a with cells:=l}) m:=by
 have c:mv {a with cells:=l}=mv a:=I;have d:q0 {a with cells:=l}=q0 a:=I;have e:∀f,Ő _ f=AR Ő:=λf=>by unfold Ő;rw[d]
 have g:∀f,d3 _ f=AR d3:=λf=>by unfold d3;rw[e]
 let⟨h,i⟩:=b;calc wn h;calc i
def ih.give{f:æ}{z:Qx}{l:f8}(e:KL ih z i m)(k:AA (ė [z.a]))(h:a z.a=f4 (YZ z.dx (x7 f.n z.u b z.Lp z.S)))(j:JC=BG HY)(d:PZ (f.n*f.n)):ih {f with cells:=l} a {z with g:=b} i m:=by have kk:∀n o,c n=ak7->(∀C p fs,o=DH p fs->fs≠x7 f.n z.u z.g z.Lp z.S)->a n=ak7:=λn o q r=>BQ k (by rw[Θ];intro w;rw[w,e.obj]at q;cases q;calc JS$ AY r) q;have s:∀n t,c n=UB->a n=f4 (.Ý t):=λn t q=>kk n _ q (by intro _ _ _ w;cases w);have u:∀{v x y A:β}{B:Ž},HP (DZ (mN c v))->HP (DZ (mN a v)):=λd=>⟨(ga kk d.obj (by intro _ _ _ w;cases w;intro w;injection w with w1 w2;injection w2 with w2 _;injection w2 with w2 _;calc CD$ DM w2)),MZ d.us,ga kk d.ul (by intro _ _ _ w;cases w)⟩;calc⟨h,j,MZ e.un,dk.eI e.ul λD o G q=>?_,⟨(ga kk e.se.obj (by intro _ _ _ w;cases w;intro w;have:=YT w;simp[Du,x7]at this)),(ga kk e.se.kn (by intro _ _ _ w;cases w)),e.se.ok.cells l⟩,u e.lp,e.la.imp id (λ⟨H,x,y,A,q,l⟩=>⟨H,x,y,A,q,u l⟩),d,e.cn⟩;let⟨J,L⟩:=â.J G;let⟨N,_,O⟩:=Ā e.ul L;rw[O]at q;cases q;calc MZ O
inductive Qt(vs:g3)(H:Hp)(b:VK)(d:XK):Prop|mk(x a:β)(q:æ)(l:f8):vs=[DJ,AC]->ahg HY->Ix sW (f4 q)->PZ KO->(∀c,c∈l->c<=q.n)->JT e8 x (er q l)->v4 (AJ Qt)
def Jn(a:Ĭ):fK.P d 4 Qt:=by
 calc fK.ok ["self","cells"] λb c e f h=>?_;let⟨i,j,k,l,I,m,n,o,p,q⟩:=h;let⟨r,v,s,z,t,u,I,x,y⟩:=id n.obj;calc ank ⟨_,ER (ď (dm (MN M7 J Cl (ol AG))) (ZU Y6))$ ZU agd,?_⟩;walk_at "s";have N:k.n*k.n<=81:=Ë (lv x.cn)$ lv x.cn;have O:=gp k;have b:=AI M6;have e:=x.obj;simp!;calc⟨z.a,z.dx,z.u,z.g,z.Lp,z.S,j,k.n,z.as,cE k,l,I,x.obj,x.un,x.ul,m,(by have:=lv x.cn;lia),λf h=>⟨by rw[nZ (wS x.cn) h];have:=lv x.cn;lia,λA B=>by rw[o];calc d_ h B⟩,λD G H=>?_,λD J H L N O j=>?_⟩;have m:pr$ AI qd:=by rw[H]at b;cases e:AI qd<;>simp_all
 have f:AI er=(RY,(-2,[])):=by unfold er;rw[m];rfl
 rw[f]at q;simp!;calc q.Ý (g6.of G).m8 (λA h=>G.free h)$ n.same G;have m:AI qd=Z:=by rw[H]at b;cases e:AI qd<;>simp_all
 have f:AI er=(f4 {k with cells:=l},(0,[])):=by unfold er;rw[m];rfl
 rw[f]at q;simp!;have B:g6 c D:=λL k e b=>N L k (by rw[Θ];intro w;rw[w,x.obj]at e;cases e;rcases b with b|⟨G,b⟩;calc CD$ DM (show(5:M)=2 from b);cases b) e;have H:i≠z.a:=λw=>by rw[w,x.obj]at s;injection s with s;injection s with _ _ s;have:=YT s;exact CD$ DM (show(5:M)=1 from this)
 calc q.Ý B.m8 (λA h=>?_)$ n.mk2 B ⟨r,_,NG (by simpa using H) s,{z with g:=J},t,u,I,UQ$ x.give N O,y.L,o,p,m⟩;cases e:c A with
 |none=>rfl
 |some k=>by_cases w:A=z.a;rw[w,O]at h;cases h;rw[NG (by simpa using w) e]at h;cases h
inductive Qu(vs:g3)(H:Hp)(b:VK)(c:XK):Prop|mk(x a:β)(st:uu)(l:f8):vs=[DJ,AC]->ahg HY->l.length<=81->as0->JT yj x st (.load QO)->RC Qu
def aa4(a:Ĭ):jM.P d 5 Qu:=by calc jM.ok ["self","cells"] aux;let⟨h,i,st,l,I,j,k,m,n⟩:=g;let⟨o,v,p,q⟩:=id m.obj;replace n:=n.r;calc ln λr s t u x y A=>⟨_,asn (Ô vQ Cl)$ ER (YL (MN Iq y Cl (ol AG)) (ZU t_))$ rc$ MN Jn y FD$ ol AG,?_⟩;walk_at "s";cases st with
|none=>have q:UM:=q;subst q;simp!;calc e8.Ý n asQ (λB D=>D) m
|some G=>
 let⟨z,H,J,I,L,N⟩:=q;have O:=L.obj;simp!;calc⟨z.a,z.dx,z.u,z.g,z.Lp,z.S,i,G.n,l,I,L.obj,j,gt,lv L.cn,λb c=>?_⟩;have e:fc (f4 G) (C.load QO).wC=if WO≠kw (G.n*G.n)\/l.any (λf=>sB (G.n<f))=Z then(f4 G,(-1,[]))else er G l:=by show(if NR QO≠kw (G.n*G.n)\/(ħ QO).any (λf=>sB (G.n<f))=Z then _ else er G (ħ QO))=_;rw[Qs,ku]
 rw[e]at n;have k:=SZ j;have g:=m.same c;have o:=SZ p;by_cases r:(sB (PZ (G.n*G.n))&&l.all (λf=>sB (f<=G.n)))=Z;have s:=r;rw[ξ,BE,Ň]at s;rw[hf]at n;simp only[r];simp!;calc⟨h,i,G,l,I,k,g,s.1,λf t=>by simpa using s.2 f t,n.gN (g6.of c).m8 λB D=>c.free D⟩;rintro (w|w);calc w (by rw[s.1]);let⟨f,t,u⟩:=ô.J w;have x:=s.2 f t;simp at x u;lia;rw[ii]at n;have y:pr (sB (PZ (G.n*G.n))&&l.all (λf=>sB (f<=G.n))):=as4
 simp! [y];calc e8.Ý n (g6.of c).m8 (λB D=>c.free D) g;apply Κ;intro w;rw[MG]at w;calc r ?_;rw[ξ,BE,Ň];calc⟨by have:=Κ w.1;lia,λf t=>?_⟩;rw[BE];apply Κ;intro A;calc w.2$ ô.Q ⟨f,t,by simp;lia⟩
inductive Qv(vs:g3)(H:Hp)(a:VK)(b:XK):Prop|mk(x:β)(st:uu)(r c d:U):vs=[DJ,.int r,On,OR]->as0->JY yj x st (re (.give r))->TF Qv
def aa5(a:Ĭ):jN.P d 5 Qv:=by calc jN.ok ["self","row","column","digit"] aux;let⟨h,st,i,j,k,I,l,m⟩:=g;let⟨n,v,o,p⟩:=id l.obj;replace m:=m.r;calc ate ⟨_,asn (Ô vQ Cl)$ ER (ď (d6 (PW.pt (hs (dm (MN Ip x Cl (VQ XM))) (fF (dm (MN x8 x Cl XX)))))) (ZU t_))$ rc$ MN Jn x FD$ ol$ MN y4 x Cl$ VQ$ ZY XX,?_⟩;walk_at "s";cases st with
|none=>have p:UM:=p;subst p;simp!;calc e8.Ý m asQ (λA B=>B) l
|some D=>
 let⟨z,G,H,I,J,L⟩:=p;have N:fc (f4 D) (KB C.give).wC=if(Ģ i 1 D.n&&(Ģ j 1 D.n&&Ģ k 0 D.n))=Z then er D (D.cells.set (D.n*(i.aj-1)+(j.aj-1)) k.aj)else(f4 D,(-1,[])):=I;rw[N]at m;have O:=J.obj;simp!;calc⟨z.a,z.dx,z.u,z.g,z.Lp,z.S,D.n,i,j,I,J.obj,?_⟩;by_cases b:(Ģ i 1 D.n&&Ģ j 1 D.n)=Z;simp only[b];have O:=J.obj;simp!;calc⟨z.a,z.dx,z.u,z.g,z.Lp,z.S,D.n,k,I,J.obj,?_⟩;by_cases c:Ģ k 0 D.n=Z;have e:=b;rw[ξ]at e;rw[BZ (by rw[e.1,e.2,c];rfl)]at m;rw[aw]at c;rw[aw,aw]at e;have f:i=kw i.aj:=gt
 have g:j=kw j.aj:=gt
 have n:k=kw k.aj:=gt
 have o:Ģ k 0 D.n=Z:=aw.Q c;simp! [o];calc⟨z.a,z.dx,z.u,z.g,z.Lp,z.S,D.n,i.aj,j.aj,k.aj,D.cells,by rw[<-f,<-g,<-n],J.obj,J.gv,J.len,lv J.cn,gt,gt,gt,gt,λq r s t u=>?_⟩;calc⟨h,q,D,_,I,u,l.same s,by rw[ť,J.len],λx y=>DZ$ im$ wF$ lv L.cells,m.gN (g6.of s).m8 λA B=>s.free B⟩;have G:pr$ Ģ k 0 D.n:=Re
 rw[DP (by rw[G];simp)]at m;simp! [G];calc e8.Ý m asQ (λA B=>B) l;have H:pr (Ģ i 1 D.n&&Ģ j 1 D.n):=arD
 rw[DP (by rw[<-nm.and_assoc,H];simp)]at m;simp! [H];calc e8.Ý m asQ (λA B=>B) l
inductive Jo(vs:g3)(H:Hp)(a:VK)(b:XK):Prop|mk(x:β)(st:uu)(m:U):vs=[DJ,.int m]->as0->JY yj x st (.count m)->TF Jo
def cN.wat{z:Qx}{g:V}{h:BA}(k:io sW XS)(d:RH (NK f [("square",TH)]))(e:ww (GV ih z))(n:l.fc)(o:mt (cN z))(j:ih l c z i m):Ev sW XS:=by calc k.mk2 (g6.vy o e) ⟨f,_,ga o (λw=>?_) (λw=>?_) d,z,i,m,I,j,n⟩;rw[w,e.se.obj]at d;injection d with d;injection d with _ _ d;have:=YT d;calc CD$ DM (show 3=1 from this);rw[w,e.se.kn]at d;cases d
def Uh(a:Ĭ):iQ.P d 96 Jo:=by calc iQ.ok ["self","most"] aux;let⟨h,st,i,I,j,k⟩:=g;let⟨l,v,m,n⟩:=id j.obj;replace k:=k.r;calc act ⟨_,asn (Ô vQ Cl)$ ER (ď (d6 (aqe rD AG (aqg yU))) (ZU t_))$ rc$ WD$ LI T7 t aud,?_⟩;walk_at "s";cases st with
|none=>have n:UM:=n;subst n;simp!;calc e8.Ý k asQ (λx y=>y) j
|some A=>
 let⟨z,B,D,I,G,H⟩:=n;have J:fc (f4 A) (C.count i).wC=if Ģ i 1 1000000=Z then(f4 A,(kw$ min (ğ A).length i.aj,[]))else(f4 A,(-1,[])):=I;rw[J]at k;by_cases L:1<=i;by_cases N:PP i;rw[BZ$ aw.Q ⟨L,N⟩]at k;have O:i=kw i.aj:=gt
 simp! [L,N];calc⟨A,z,B,D,i.aj,by rw[<-O],G,gt,λb c e f h=>?_⟩;rw[M.min_comm];simp!;calc e8.Ý k (g6.vy f G).m8 (λx y=>f.free h y)$ GP$ cN.wat j m G H;rw[DP (by rw[aw];calc λz=>N z.2)]at k;simp! [L,N];calc e8.Ý k asQ (λx y=>y) j;rw[DP (by rw[aw];calc λz=>L Da)]at k;simp! [L];calc e8.Ý k asQ (λx y=>y) j
section
variable{base:ř}
inductive Nc(base:ř)(vs:g3)(H:Hp)(g:VK)(n:XK):Prop|mk(x f j:β)(v:V)(b:U):vs=[DJ,LZ,EH]->TQ (NK j [("square",v)])->(UM\/∃o,v=.ref o)->(UM->∀l a,IS (ME H->atD [AB (-4)]))->(v≠.Ť->pr (AW Ģ vX)-> ∀l a,IS (ME H->atD [AB (-1)]))->(v≠.Ť->AW Ģ vX=Z->∃d h,MQ fU base yS 98 f d ["square"] h/\di K d ["square"] []/\rL K H f d/\∀i:VK,(∀k c,((k=.Ť/\∀l a,AA Μ->ME c->atD [AB (-3)])\/ ∃m e,k=.ref m/\c m=BG (Ě e)/\e.length<16000000/\∀l a,AA Μ->ME c->atD (Io e b))->i k c)->h [v] H i E0)->AJ (Nc base) g n
def sN(a:Ĭ):oE.P base 99$ Nc base:=by calc oE.ok ["self","room","bytes_about","told"] aun;let⟨g,fn,h,v,j,I,l,m,n,o,p⟩:=f;calc ate ⟨_,asn (Ô vQ MR)$ ER (YL (LI T5 x (ol IC)) (ZU t_))$ η (GX y (Yd (k:=98) (i:=2) I (yq I) (CD x.hT) (ol MR)))$ ER (ď (Ô vQ OK ŝ) (ZU Hd))$ rc$ LI adn x$ ε OK$ ol IC,?_⟩;walk_at "s";by_cases z:UM;subst z;simp!;calc af λA _ B D G=>n I A _ D B G;let⟨H,I⟩:=m.a1 z;simp!;calc⟨j,I,?_⟩;cases J:Ģ j 0 vX with
|gl=>simp!;calc af λA _ B D G=>o z J A _ D B G
|Z=>let⟨L,N,F,O,b,c⟩:=p z J;simp!;calc⟨fn,L,["square"],N,I,F,O,_,I,g,CN,h,_,_,I,l,tN.cl,tN.nS,I,b,?_⟩;calc c _ λd e f=>?_;rcases f with⟨I,q⟩|⟨r,s,I,t,u,q⟩;simp!;calc af λA _ B D G=>q A _ D B G;simp!;calc⟨r,s,j,I,t,u,q⟩
end
def Eb(a:æ):∀b,io Iw=(ι b).aD (λc=>[mt cw%256,mt cw/256])|0=>I|BP=>by rw[uo,io Eb,ę,il];simp
def oR{st:uu}{B:æ->FQ ep}(k:io sW st)(j:FV e8 b (match st with|none=>(none,(-4,[]))|HE=>auw))(F:∀(c:æ)(z:Qx)(e:V)(g:BA)(i:β),st=HE->RH (NK i [("square",TH)])->GZ (AA ih z)->c.fc->∃m n,MQ fU d yS 98 f m ["square"] n/\di K m ["square"] []/\AR (rL K) m/\∀o:VK,(∀p q,U5 a q->(∀r,hm (q r)->hm (a r))->sW q b HE->((hm (B c)/\p=.Ť)\/ ∃s t,B c=f4 t/\p=VY/\q s=BG (Ě t)/\t.length<16000000)->FH o)->n [TH] a o E0):FV (Nc d [AZ,.int y,EH]) E0:=by let⟨i,v,u,x⟩:=id k.obj;cases st with
|none=>subst x;calc⟨b,f,i,.Ť,y,I,u,GQ,λ_ l A D G H=>j l A (g6.of D).m8 G H$ k.same D,λz=>QV z,λz=>QV z⟩
|some c=>
 let⟨z,e,g,I,J,L⟩:=x;calc⟨b,f,i,_,y,I,u,.X EJ,(λz=>nomatch z),λ_ N l A D G H=>?_,λ_ N=>?_⟩;have O:auw=(HE,(-1,[])):=by unfold dM;rw[ii N]
 simp only[O]at j;calc j l A (g6.of D).m8 G H$ k.same D;let⟨m,n,r,x,a0,b0⟩:=DL (F c z e) I u J L;calc⟨m,n,r,x,a0,λo m=>b0 o λp q n u J L=>FH m ?_⟩;rcases L with⟨r,I⟩|⟨s,t,r,I,x,G⟩;left;calc ln λl A D G H=>?_;have O:auw=(HE,(-3,[])):=by unfold dM;rw[DP (by rw[N];simp),r]
 simp only[O]at j;calc j l A (n.trans (g6.of D).m8) (u l G) H$ J.same D;right;calc⟨s,t,I,x,G,λl A D o H=>?_⟩;by_cases p:y<t.length;have O:auw=(HE,(-6,[])):=by unfold dM;rw[DP (by rw[N];simp),r];show(if y<t.length then _ else _)=_;rw[ii p]
 simp only[O]at j;unfold Io at H;rw[ii p]at H;calc j l A (n.trans (g6.of D).m8) (u l o) H$ J.same D;have O:auw=(HE,(jp t.length,t)):=by unfold dM;rw[DP (by rw[N];simp),r];show(if y<t.length then _ else _)=_;rw[hf p]
 simp only[O]at j;unfold Io at H;rw[hf p]at H;calc j l A (n.trans (g6.of D).m8) (u l o) H$ J.same D
def yl{st:eD}{c:CJ}{d:MF}(f:ED q st c)(e:mg q=f4 AZ):LP$ rL K:=by let⟨g,h,F,i,_⟩:=f;rw[e]at i;cases i;let⟨j,k,kV,l,m,n,o,p,r,I,s,_⟩:=F.ex;calc .D ⟨_,_,s,I⟩
inductive ym(k:U->C)(vs:g3)(H:Hp)(b:VK)(c:XK):Prop|mk(x:β)(st:uu)(a:U):vs=[DJ,KM]->as0->JT yj x st (k a)->RC (ym k)
def ady(a:Ĭ):k8.P d 100$ ym C.may:=by let⟨b,c,e,f,g,h⟩:=(T8 a);calc k8.ok ["self","room"] λi j k l m=>?_;let⟨n,st,o,I,p,q⟩:=m;let⟨r,v,s,t⟩:=id p.obj;calc ln λu x y A D G H=>⟨_,rc$ MN sN G JF$ ε IC$ ol$ rz (v:=AZ) I f I,?_⟩;calc⟨_,I,n,r,_,I,s,I,_,I,?_⟩;calc oR (B:=λJ=>if ğ J=[]then none else f4 ((ι (J.n*J.n)).aD (λL=>[cw J L%256,cw J L/256]))) p (by cases st<;>calc q.r) λJ z N O r g s i j=>⟨c,_,CD e.hT,h,yl (iL a) f,λk l=>?_⟩;subst g;calc⟨J,z,N,O,I,i,λo m t u x y=>ga l (g6.vy u i).m8 (λA D=>u.free x D) (up (cN.wat p s) u x)$ .D$ JA$ ii y,λb o m t u x y n G=>ga l (g6.vy u i).m8 (λA D=>u.free x D) (up (cN.wat p s) u x)$ .X ⟨b,_,hf y,I,?_,?_⟩⟩;rw[G,Eb];rw[<-Eb,sF];have:J.n*J.n<=81:=Ë (lv i.cn)$ lv i.cn;lia
def Ui(a:Ĭ):iR.P d 100$ ym C.spare:=by let⟨b,c,e,f,g,h⟩:=(aaL a);calc iR.ok ["self","room"] λi j k l m=>?_;let⟨n,st,o,I,p,q⟩:=m;let⟨r,v,s,t⟩:=id p.obj;calc ln λu x y A D G H=>⟨_,rc$ MN sN G JF$ ε IC$ ol$ rz (v:=AZ) I f I,?_⟩;calc⟨_,I,n,r,_,I,s,I,_,I,?_⟩;calc oR (B:=λJ=>if(ğ J).length≠1 then none else f4 (D8 J)) p (by cases st<;>calc q.r) λJ z L N r O s g i=>⟨c,_,CD e.hT,h,yl (j8 a) f,λj k=>?_⟩;subst O;calc⟨J,z,L,N,I,g,λl o m t u x=>NN (g6.vy t g).m8 (λy A=>t.free u A) (EB (DL (cN.wat p s)))$ .D$ JA$ ii x,λD l o m t u x b n=>NN (g6.vy t g).m8 (λy A=>t.free u A) (EB (DL (cN.wat p s)))$ .X ⟨D,_,MA$ z x,I,n,?_⟩⟩;unfold D8;rw[θ,Ð];have:J.n*J.n<=81:=Ë (lv g.cn)$ lv g.cn;lia
def Uj(a:Ĭ):iS.P d 100$ ym C.steps:=by
 let⟨b,c,e,g,h,i⟩:=(aa1 a);calc iS.ok ["self","room"] λj k l n o=>?_;let⟨p,st,r,I,s,t⟩:=o;let⟨u,v,x,y⟩:=id s.obj;calc ln λA D G H J L N=>⟨_,rc$ MN sN L JF$ ε IC$ ol$ rz (v:=AZ) I g I,?_⟩;calc⟨_,I,p,u,_,I,x,I,_,I,?_⟩;calc oR (B:=λO=>f4 (aeK O).1) s (by cases st<;>calc t.r) λO z h j u k x l n=>⟨c,_,CD e.hT,i,yl (mj a) g,λr o=>?_⟩;subst k;have y:=lv l.cn;have A:O.n*O.n*O.n<=9*9*9:=Ë (Ë y y) y;have D:=wH O;let⟨G,H⟩:=R8 (cr:=nM O.n$ cE O) l.cn (mu (du O)) (Fz (q:=O) l.len (lv n.cells)) AK;let⟨J,b⟩:=tE G;calc⟨O,z,h,j,mu$ du O,I,l,lv n.cells,G,gt,λp L N t u=>ga o (g6.of N).m8 (λx c=>N.free c) (s.same N)$ .X ⟨p,_,I,I,?_,?_⟩⟩;rw[u];show XC (Ě ((dA atw (mu (du O))$ aH atw O.cells (O.n*O.n)).aD (λe=>e++[10])))=_;rw[H,lL];rw[lL,<-H];have:=n7 (f:=λ e:f8=>e++[10]) (m:=12001) _ (λe g=>by have:=EV g;rw[π];show _+1<=_;lia);calc GE ĝ ?_;have:(dA atw (mu (du O))$ aH atw O.cells (O.n*O.n)).length<=730:=gt
 lia
structure Aft(a:β)(H b:Hp):Prop where
 old:∀c d,c≠a->H c=LJ->Db=LJ
 tab:(∃e,H a=PV .tK)/\ ∃e,b a=PV .tK
def Aft.m8(d:mt (Aft b)):mt U5:=λe f g h=>py d.old (λw=>by let⟨i,z⟩:=d.tab.1;rw[w,z]at g;cases g;calc h) g
def Aft.free(f:mt (Aft b))(d:β)(e:hm HU):hm MY:=by cases g:MY with
|none=>rfl
|some h=>by_cases w:d=b;let⟨i,z⟩:=f.tab.2;rw[w,z]at e;cases e;rw[f.old d h w g]at e;cases e
def Aft.obj(d:mt (Aft b)){st:uu}(e:∃g v,a f=f4 (NK g [("square",v)])/\SqV a st v):∃g v,c f=f4 (NK g [("square",v)])/\SqV c st v:=by
 have h:∀i j,a i=ak6->(∀k,j≠.tK k)->i≠b:=λi j l m w=>by let⟨k,z⟩:=d.tab.1;rw[w,z]at l;exact m _ (Ü l).symm
 let⟨g,v,n,o⟩:=e;calc⟨g,v,ga d.old (FZ (UP n)) n,?_⟩;cases st with
 |none=>calc o
 |some p=>let⟨z,q,r,l,s,t⟩:=o;calc⟨z,q,r,l,s.gen λi j l _ m=>up d.old (AE (up h)) l,t⟩
def jz.aft(e:mt (Aft f))(g:b≠f)(d:io jz v q):Ev jz v q:=by let⟨h,i,d⟩:=d;calc⟨h,DL$ ga e.old,?_⟩;rcases d with d|⟨j,k,l⟩;calc .D d;calc .X ⟨j,k,ga e.old (λw=>?_) l⟩;let⟨h,z⟩:=e.tab.1;rw[w,z]at l;cases l
def Jp{c:β->YX MF}{d:L2.St}(e:io jz v q)(f:∀g i j k,sK Aft k->jz k b v q->k g=f4 (mC g (up c))->k i=f4 (ox i q)->h FU k):FV$ re$ aiz b v q:=by let⟨l,m,e⟩:=e;calc⟨l,m,?_⟩;rcases e with I|⟨i,I,n⟩;calc .D$ ln λi g j n o p r s=>up (f g) _ ⟨λt u x y=>?_,CM m,tri v i,?_⟩ ⟨_,?_,.X ⟨i,I,?_⟩⟩ Α ?_;rw[ω$ ρ y o,ω$ ρ y n,ω x];calc y;rw[ω$ Ne.symm s,ω$ Ne.symm r,Α];rw[ω$ Ne.symm s,ω$ Ne.symm r,Α];rw[ω p,Α];rw[ω p,Α];calc .X ⟨i,I,n,λg j o=>up (f g) _ ⟨λt u x y=>?_,CM m,tri v i,?_⟩ ⟨_,?_,.X ⟨i,I,?_⟩⟩ Α ?_⟩;rw[ω$ ρ y o];calc y;rw[ω$ ρ m o];calc m;rw[ω$ ρ m o];calc m;rw[ω$ BQ ρ];calc n;rw[ω$ BQ ρ];calc n
def lps(a b c d:M):A_:={posonlyargs:=[],args:=[{arg:="square",annotation:=none,pos:=⟨a,b,c,d⟩:PySem.Arg}],vararg:=none,kwonlyargs:=[],kw_defaults:=[],kwarg:=none,defaults:=[]:PySem.Arguments}
def sc1:fN:={kind:=qX,amp:=[(bF "square",PySem.eK.be)],auE:=gl,auF:=gl,more:=[]:ag4}
def bd1:Expr:=apS (ko "square" ⟨778,46,778,52⟩) "givens" ⟨778,46,778,59⟩
abbrev fd1(b:ge)(c:β)(a:ge):MF:=fj aqp acL (lps 778 38 778 44) bd1 sc1 [] b CO a
inductive aa6(f c:β)(b:MF)(vs:g3)(H:Hp)(e:VK)(h:XK):Prop|mk(a d u g L S:β)(n:M):vs=[AC]->H f=f4 (mC f b)->H c=f4 (ox c acL)->H a=f4 (YZ d ag6)->e FU H->FG (AJ (Ev (aa6 f)))
def adz(f:Ĭ)(e c:β)(b a:ge):MQ fU d yS 98 e (lf fd1 a) ["square"]$ CF aa6$ lf fd1 a:=by
 calc CD (JS (JS (Ye (Nr:=[]) (τ:=[])))) (λg h=>?_) (λg i j h=>by cases h) (λg j h=>by cases h) I (λk g v h=>by simp at h) (λl m n o h=>?_) (λl m n o h=>?_) λp q r m v n o s h=>?_;have t:(if g==Ρ "square"then f4 cP.be else none)=f4 dc:=by
  have:sc1.al.E g=(if g==Ρ "square"then f4 cP.be else none):=by unfold sc1;simp only[cy];cases g==Ρ _<;>rfl
  rw[<-this];exact h
 split at t<;>cases t;let⟨u,x,y,z,A,S,B,I,_⟩:=h;rfl;let⟨u,x,y,z,A,S,B,I,D,t,_⟩:=h;calc⟨D,t⟩;let⟨u,x,y,z,A,S,B,G,D,t,H,J⟩:=h;cases G;calc⟨_,qu JF I,_,I,u,CQ,x,_,_,I,H,tQ.cl,tQ.nG,I,J⟩
def Nd(b:ge)(c:β)(a:ge):di K (lf fd1 a) ["square"] []:=.all λd e=>match d,e with|[_],_=>I
def Uk(a:Ĭ)(b:vP d mg):MQ Lz d 100 CN "sq_cells" ["self","room"]$ ym C.cells:=by calc qB.ok (fs (N:=["self","room"])) (λe f g h i=>?_) λj k l m n f e g h o p i=>?_;let⟨q,st,r,I,_⟩:=i;rfl;let⟨q,st,r,I,s,t⟩:=i;let⟨u,v,x,y⟩:=id s.obj;calc⟨_,rc$ MN sN p JF$ ε IC$ ol$ JS$ Yb (c:=k) (Pt:=P1) (clos:=[]) I o b,?_⟩;calc⟨_,I,q,u,_,I,x,I,_,I,?_⟩;calc Jp s.t1 λj k A D G H J L=>?_;have O:sW D q st:=⟨G.obj s.obj,H,s.t2.aft G$ Ne.symm s.ne,s.ne⟩;calc oR (B:=λl=>f4 l.cells) O (by cases st<;>calc t.r.gN G.m8 G.free) λl z m e u f x g h=>⟨_,_,AS (adz a) _ A,AY Nd,.X J,λn r=>?_⟩;calc⟨z.a,z.dx,z.u,z.g,z.Lp,z.S,l.n,I,J,L,g.obj,ga r (λi o p _=>p) (λy q=>q) (by rw[<-f];calc O)$ .X ⟨z.g,_,I,I,g.gv,?_⟩⟩;rw[g.len];have:agr<=81:=Ë (lv g.cn)$ lv g.cn;lia
def sc2:fN:={kind:=qX,amp:=[(bF "square",PySem.eK.be),(bF "k",wx),(bF "filling_bytes",pC)],auE:=gl,auF:=gl,more:=[]:ag4}
def bd2:Expr:=apT (ko "filling_bytes" ⟨792,46,792,59⟩) [ko "square" ⟨792,60,792,66⟩,ko "k" ⟨792,68,792,69⟩] [] ⟨792,46,792,70⟩
abbrev fd2(b:β)(c:ge)(d:β)(a:ge):MF:=fj aqp acM (lps 792 38 792 44) bd2 sc2 [(Ρ "k",b)] c BK a
inductive aa7(f c:β)(a:MF)(n:M)(vs:g3)(H:Hp)(b:VK)(d:XK):Prop|mk(v:V):vs=[v]->H f=OA (mC f)->H c=f4 (ox c acM)->JT (D7 [v,AD n]) E0->v4 (AJ (AA (aa7 f) n))
def adA(f:Ĭ){h:SV}(a:d.b3 b (f4 (PD j h)))(i g:β)(e c:ge):MQ fU d yS 98 i (zn fd2 g c) ["square"]$ aa7 i g (zn fd2 g c) j:=by
 have k:∀l m,[(Ρ "k",b)].E l=f4 m->l=Ρ "k"/\m=b:=λl m n=>by simp only[cy]at n;cases o:l==Ρ "k";rw[o]at n;cases n;rw[o]at n;cases n;exact JA$ eq_of_beq o
 calc CD (JS (JS (Ye (Nr:=["k"]) (τ:=[aoT])))) (λl n=>?_) (λl p m q r=>?_) (λl m n=>?_) I (λs l v q r=>?_) (λt u x y n=>?_) (λt u x y n=>?_) λz A B u v x y D n=>?_;by_cases o:l=Ρ "k";rw[o];calc JA b;exfalso;have n:[(bF _,PySem.eK.be),(bF "k",wx),(bF _,pC)].E l=f4 dc:=n;have G:=ZH.Q o;simp only[cy,G]at n;cases H:l==Ρ _;rw[H]at n;cases J:l==Ρ _;rw[J]at n;cases n;rw[J]at n;cases n;rw[H]at n;cases n;calc(AE k q).1.trans (k p m r).1.symm;let⟨_,I⟩:=AE k n;calc CM a;cases s with
 |zero=>
  have H:Ρ "k"=l:=by simpa using q
  have G:V.int j=v:=as4
  subst H G;calc⟨I,b,_,I,a,JA h⟩
 |HW s=>simp at q
 let⟨v,I,_⟩:=n;rfl;let⟨v,I,q,r,_⟩:=n;calc⟨q,r⟩;let⟨L,o,q,r,N⟩:=n;cases o;calc⟨_,ċ (aaI f) D$ ε JF$ ol IC,_,I,_,I,N⟩
def Nf(b:β)(c:ge)(d:β)(a:ge):di K (EK (lf fd2)) ["square"] []:=.all λe f=>match e,f with|[_],_=>I
inductive Qw(vs:g3)(H:Hp)(b:VK)(c:XK):Prop|mk(x:β)(st:uu)(n a:U):vs=[DJ,JN,KM]->as0->JT yj x st (.tell n a)->RC Qw
def aa8(a:Ĭ)(b:vP d mg):MQ Lz d 100 CN "sq_tell" ["self","k","room"] Qw:=by calc rW.ok (fs (N:=["self","k","room"])) (λe f g h j=>?_) λk l m n o f e g h p q j=>?_;let⟨r,st,s,t,I,_⟩:=j;rfl;let⟨r,st,s,t,I,u,y⟩:=j;let⟨A,v,D,G⟩:=id u.obj;replace y:=y.r;calc⟨_,asn (Ô vQ MR)$ ER (ď (d6 (aqe rD IC (aqg Dd))) (ZU t_))$ rc$ JS (CD (afW (i:=1) (x:="k") (λH _=>sN (base:=H) a) q)) I JF$ ε LK$ ol$ JS$ Yb (c:=l) (Pt:=P2) (clos:=[(Ρ "k",o.v.R.L+1)]) I p b,?_⟩;walk_at "s";cases st with
|none=>have G:UM:=G;subst G;simp!;calc e8.Ý y asQ (λJ L=>L) u
|some O=>
 let⟨z,m,n,I,e,f⟩:=G;have g:fc (f4 O) (DQ C.tell).wC=if Ģ s 0 1000000=Z then dM (f4 O) t (ğ O)[s.aj]? else(f4 O,(-1,[])):=I;rw[g]at y;by_cases h:0<=s;by_cases j:PP s;rw[BZ$ aw.Q ⟨h,j⟩]at y;have o:s=kw s.aj:=gt
 simp! [h,j];calc⟨_,I,r,A,_,.int s,I,D,I,I,_,I,?_⟩;calc Jp u.t2 λk l p q H G t g=>?_;have a0:BW sW$ f4 O:=⟨H.obj u.obj,u.t1.aft H u.ne,G,u.ne⟩;intro r q G r q r b0;cases q;let⟨q,I⟩:=(show∃q,G=ge.int s q from b0);rw[o]at r;calc oR (B:=λO=>(ğ O)[s.aj]?) a0 (y.gN H.m8 H.free) λo z m n A H D e f=>?_;cases(H);calc⟨_,_,AI (adA a r) _ p,EY Nf,.X t,λG q=>?_⟩;calc⟨_,I,t,g,O,z,m,n,s.aj,I,e,λA o k l p r=>VP (g6.vy l e).m8 (λJ L=>l.free p L) (py (cN.wat a0 D) l p)$ .D$ JA r,λH G A o k l p r s m=>VP (g6.vy l e).m8 (λJ L=>l.free p L) (py (cN.wat a0 D) l p)$ .X ⟨H,_,r,I,m,by have n:=(hF.J$ Î r).len;have:O.n*O.n<=81:=Ë (lv e.cn)$ lv e.cn;lia⟩⟩;rw[DP (by rw[aw];calc λz=>j z.2)]at y;simp! [h,j];calc e8.Ý y asQ (λJ L=>L) u;rw[DP (by rw[aw];calc λz=>h Da)]at y;simp! [h];calc e8.Ý y asQ (λJ L=>L) u
def _root_.dO.C.no:dO.C->U|.start=>1|.set ..=>2|.load ..=>3|.give ..=>4|.cells ..=>5|.count ..=>6|.tell ..=>7|.may ..=>8|.spare ..=>9|.steps ..=>10
structure J_(H:Hp)(x r b a:β)(xs:g3)(j:M)(st:uu):Prop where
 w:as0
 rd:H r=f4 (DW CR b (yT a (j:M)))
 sq:ag7 xs
def Kr(b:β)(c a:Hp):Prop:=∀d e,d≠b->HU=HH->Sf e->MY=HH
def Fr(c:β)(b a:Hp):Prop:=(∀d e,d≠c->Fk=HH->Sf e->MY=HH)/\ ∀f,hm (a f)->hm (b f)
def Fr.trans(d:mt (Fr b))(e:lf Fr u):sK Fr u:=⟨λf g h i j=>EU e.1 (up (EU d.1)) j,λk l=>d.2 k$ AI e.2⟩
section
variable{H':Hp}
def isL:Ch HO|.Ý _=>EQ|ga .jt=>EQ|_=>DN
def isL.sf(a:isL A):Sf A:=by cases A<;>first|exact a|trivial
def yn(e:io BN n)(d:∀f,JC=MO->isL f->c b=MO):Ev BN n:=by rcases e with(z|⟨g,z⟩)|z;calc wT$ DG d CA;calc .D$ .X ⟨g,DG d CA⟩;calc MV
def sW.aj9{C:β}{fs:ES}(c:AR sW e)(d:JC=JX (DH p))(g:fs.length=2):JV$ sW$ io ø$ DH p B:=by
 have h:∀i j,a i=ak6->(∀C p fs,j=DH p fs->fs.length≠2)->io ø (DH p B) i=ak6:=λi j k l=>by rw[ω];calc k;intro w;rw[w,d]at k;cases k;exact AY l I g
 have m:∀{n:β}{o:vB}{q:ï},BQ (jz a) q->BQ (jz _) q:=λ{n o q}⟨r,k,c⟩=>⟨r,(UP k (by intro _ _ _ w;cases w)),c.imp id (λ⟨s,t,u⟩=>⟨s,t,UP u (by intro _ _ _ w;cases w)⟩)⟩;let⟨x,v,y,A⟩:=c.obj;calc⟨⟨x,v,(UP y (by intro _ _ _ w;cases w;show 1≠2;decide)),?_⟩,m c.t1,m c.t2,c.ne⟩;cases e with
 |none=>calc A
 |some q=>let⟨z,D,G,k,H,J⟩:=A;calc⟨z,D,G,k,H.gen λi j k L _=>KB h λC p fs w=>by have:=L C p fs w;lia,J⟩
def ly{v:V}(c:J_ a s b p f n j e)(d:n[j]? =DE)(g:∀H',J_ H' s b p f n (j+1) e->sK Fr H'->h v H'):FV (v9 CR [AZ]) H:=by calc⟨b,f,p,j,n,v,I,c.rd,c.sq,d,g _ ⟨c.w.aj9 c.rd I,Α,yn c.sq λi k l=>?_⟩ ⟨λm i o k _=>?_,λq r=>?_⟩⟩;rw[ω$ đ k c.rd (by intro w;rw[w]at l;calc l)];calc k;rw[ω o];calc k;by_cases z:q=b;rw[z,Α]at r;cases r;rwa [ω z]at r
def aeI{d:M}(c:J_ a s b p f n j e)(g:n[j]? =BJ d)(i:j+1+d<=n.length)(k:∀l H',J_ H' s b p f n (j+1+d) e->sK Fr H'->ME a->H' l=BG ((n.drop (j+1)).take d)->h CG H'):FV (Dt [AZ]) H:=by
 calc⟨b,f,p,j,d,n,I,c.rd,c.sq,g,i,λl H' m o q r=>?_⟩;have t:Μ (io ø _) H':=λu v x=>by by_cases z:u=b;rw[z,Α]at x;cases x;rw[z];calc o;rw[ω z]at x;exact q u v z x
 calc k l H' ⟨(c.w.aj9 c.rd I).same t,o,yn c.sq λv x y=>q f v (đ x c.rd (by intro w;rw[w]at y;calc y)) x⟩ ⟨λu v A x _=>q u v A x,λB D=>?_⟩ m r;cases x:a B with
 |none=>rfl
 |some v=>by_cases z:B=b;rw[z,o]at D;cases D;rw[q B v z x]at D;cases D
def J_.done(g:J_ c f b s p n j e)(d:mt (Fr b))(i:∀l H',sK Kr H'->ME a->H' l=VG (uF e x)->J_ H' f b s p n j (E8 e x)->h CG H'):JV (FM yj) x:=λl H' k m o q=>i l H' (λr t u v y=>k r t (EB (d.1 r) v y) y) (AE d.2) o ⟨q,NN g.rd I,yn g.sq λt o y=>NN o y.sf⟩
def Fr.refl(b:β)(a:Hp):sK Fr a:=⟨λ_ _ _ c _=>c,λ_ d=>d⟩
end
def sO{l:At}(a:Byt l):zs (ħ l)=l:=by
 unfold ħ zs;rw[Χ];conv=>rhs;rw[<-km l]
 calc ö λb c=>U.cT (lf a).1
def Jq{l1 l2 b4:g3}(b:n.drop j=(l1++l2)++b4)(a:l1≠[]:=by simp):(n.drop (j+l1.length)).take l2.length=l2/\j+l1.length+l2.length<=n.length:=by
 have c:n.drop (j+l1.length)=l2++b4:=by rw[<-ji,b,Ĝ,adL]
 calc wn (by rw[c,List.take_left]);have:=YT b;have:=eL.Q a;simp only[g4,π]at*;lia
def c8{l b4:g3}(b:n.drop j=l++b4){i:M}{v:V}(a:l[i]? =DE):n[j+i]? =DE:=by have c:=(φ.J a).1;rw[<-sU,b,Ņ c,a]
inductive agL(ok:Ch C)(vs:g3)(H:Hp)(d:VK)(e:XK):Prop|mk(x r c a:β)(xs:g3)(j:M)(st:uu)(k:C)(b4:g3):vs=[DJ,.ref r,AB k.no]->AA (Ix J_ r) xs j st->k.Ok->ok k->xs.drop j=BT k.hG.bH.q++b4->(∀l b,JT (Kr r)->ME H->b l=VG (YV k)->AA (J_ b x r) xs (j+k.hG.bH.length) (E8 st k)->d CG b)->SD (agL ok)
def agM(a:Ĭ)(t0:vP d mg):(f7 a).P d 101$ agL λu0=>u0.no<=5:=by
 calc EI f7 ["session","reader","call","n","diagonals","row","column"] λI0 P0 Q0 R0 v0=>?_;let⟨O,J0,j0,a0,b0,n,st,u0,b4,I,j,N,m,b,p⟩:=v0;let⟨G,v,k0,K0⟩:=id j.w.obj;have B0:∀n:U,hu (yT a0 n) "take_number":=SR;have C0:∀n:U,hu (yT a0 n) "take_list":=SR;have H:∀{o:Hp}{l0:uu}{n:M},XI (J_ o O J0 j0) n l0->∀r0:ï,(∀v,hu [("square",v)] r0)-> ∃G fs,o O=JX (NK G)/\hu fs r0:=λv0 r0 w0=>by let⟨G,v,k0,_⟩:=v0.w.obj;exact⟨G,_,k0,w0 v⟩
 calc ln λS0 D0 T0 s0 M0 c J=>⟨_,ER (WY Tg (rc (Ŵ (Ug a) c FD)))$ ER (WY acN (η (GX J (aqZ c AG)) (η (OG J (aqZ c AG)) (rc (MN adx c FD (ε FC (ε CV (ol (Ŵ (Hz a) c AG)))))))))$ ER (WY Y3 (rc (MN aa4 c FD (ol (Ŵ (Hz a) c AG)))))$ ER (WY Y4 (η (À 5 J (aqZ c AG)) (η (À 6 J (aqZ c AG)) (rc (MN aa5 c FD (ε JM (ε OJ (ol (aqZ c AG)))))))))$ ER (WY zP (rc (Ľ (Uk a t0) c FD (ol (aqZ c AG)))))$ μ Ga,?_⟩;walk_at "s";have F0:=j.rd;cases u0 with
 |start=>simp! [C.no];calc⟨O,st,I,j.w,j.done (ga Fr.refl) p⟩
 |set c0 i0 D=>
  let⟨_,_,k,q⟩:=N;have N0:D.length<=81:=by split at q;rename_i z;have:c0*c0<=9*9:=Op$ U.mul_le_mul Da.2 Da.2;lia;lia
  simp! [C.no];calc ly j (c8 b (i:=0) I) λm0 e r=>?_;have n0:=e.rd;simp!;calc ly e (c8 b (i:=1) I) λx0 g d0=>?_;let⟨s,t,u,x⟩:=H g "sq_set" SR;have o0:=g.rd;simp!;let⟨y,A⟩:=Jq (l1:=[AB c0,AB i0,PD D.length]) (l2:=BT D.q) b;rw[θ]at y A;calc aeI g (c8 b (i:=2) I) A λl L f B y0 f0=>?_;simp!;have g0:L l=xL (ħ D):=by rw[f0];show XC ((b0.drop (n+3)).take D.length)=XC (BT (zs$ ħ D).q);rw[sO k,show n+3=n+[FL c0,FL i0,FL$ jp D.length].length from I,y]
  have h0:n+1+1+1+D.length=n+(C.set c0 i0 D).hG.tail.length:=by simp[C.hG];lia
  calc⟨O,l,st,c0,i0,ħ D,I,g0,f.w,?_⟩;rw[sO k];calc f.done (r.trans (d0.trans B)) λl o a0 z0 p0 A0=>p l o a0 z0 p0 (by rw[<-h0];calc A0)
 |load l=>
  let⟨k,q⟩:=N;let⟨s,t,u,x⟩:=H j "sq_load" SR;simp! [C.no];let⟨y,A⟩:=Jq (l1:=[PD l.length]) (l2:=BT l.q) b;rw[θ]at y A;calc aeI j (c8 b (i:=0) I) A λG0 L f B y0 f0=>?_;simp!;have g0:L G0=xL (ħ l):=by rw[f0];show XC (RZ (b0.drop (n+1)).take)=XC (BT (zs$ ħ l).q);rw[sO k,show n+1=n+[FL WO].length from I,y]
  have h0:n+1+l.length=n+(C.load l).hG.tail.length:=by simp[C.hG];lia
  have H0:aiT$ ħ l:=by rw[<-ku,sO k]
  calc⟨O,G0,st,ħ l,I,g0,gt,f.w,?_⟩;rw[sO k];calc f.done B λl o a0 z0 p0 A0=>p l o a0 z0 p0 (by rw[<-h0];calc A0)
 |give O0 p0 i0=>simp! [C.no];calc ly j (c8 b (i:=0) I) λm0 e r=>?_;have n0:=e.rd;simp!;calc ly e (c8 b (i:=1) I) λx0 g d0=>?_;let⟨s,t,u,x⟩:=H g "sq_give" SR;have o0:=g.rd;simp!;calc ly g (c8 b (i:=2) I) λL f B=>?_;simp!;calc⟨O,st,O0,p0,i0,I,f.w,f.done (r.trans (d0.trans B)) p⟩
 |cells h=>let⟨s,t,u,x⟩:=H j "sq_cells" SR;simp! [C.no];calc ly j (c8 b (i:=0) I) λm0 e r=>?_;simp!;calc⟨O,st,h,I,e.w,e.done r p⟩
 |count r0=>calc kt m (by show¬jp 6<=5;decide)
 |tell c0 h=>calc kt m (by show¬jp 7<=5;decide)
 |may h=>calc kt m (by show¬jp 8<=5;decide)
 |spare h=>calc kt m (by show¬jp 9<=5;decide)
 |steps h=>calc kt m (by show¬jp 10<=5;decide)
def agN(a:Ĭ)(b:vP d mg):(e6 a).P d 101$ agL λc=>6<=c.no:=by
 calc EI e6 ["session","reader","call","k"] λe f g h j=>?_;let⟨k,m,n,o,p,q,st,c,b4,I,r,s,t,u,x⟩:=j;have y:∀q:U,hu (yT o q) "take_number":=SR;have z:∀{A:Hp}{B:uu}{q:M},SL (FF (J_ A k)) B->∀D:ï,(∀v,hu [("square",v)] D)-> ∃G fs,A k=JX (NK G)/\hu fs D:=λj D H=>by let⟨G,v,J,_⟩:=j.w.obj;exact⟨G,_,J,H v⟩
 calc ln λL N O e f g h=>⟨_,ER (WY Th (atH Uh))$ ER (WY Y5 (η (GX h (aqZ g AG)) (rc (Ľ (io aa8) g FD (ε FC (ol (aqZ g AG)))))))$ ER (WY acO (atH ady))$ ER (WY Ti (atH Ui))$ ER (WY Tj (atH Uj))$ μ Ga,?_⟩;walk_at "s";have s:=r.rd;cases c with
 |start=>calc kt t (by show¬jp 6<=1;decide)
 |set y m n=>calc kt t (by show¬jp 6<=2;decide)
 |load l=>calc kt t (by show¬jp 6<=3;decide)
 |give o p m=>calc kt t (by show¬jp 6<=4;decide)
 |cells q=>calc kt t (by show¬jp 6<=5;decide)
 |count D=>let⟨B,A,j,G⟩:=z r "sq_count" SR;simp! [C.no];calc ast (i:=0);simp!;calc⟨k,st,D,I,J.w,J.done L x⟩
 |tell y q=>simp! [C.no];calc ast (i:=0);let⟨B,A,j,G⟩:=z J "sq_tell" SR;have N:=J.rd;simp!;calc ly J (c8 u (i:=1) I) λO e f=>?_;simp!;calc⟨k,st,y,q,I,e.w,e.done (L.trans f) x⟩
 |may q=>let⟨B,A,j,G⟩:=z r "sq_may" SR;simp! [C.no];calc ast (i:=0);simp!;calc⟨k,st,q,I,J.w,J.done L x⟩
 |spare q=>let⟨B,A,j,G⟩:=z r "sq_spare" SR;simp! [C.no];calc ast (i:=0);simp!;calc⟨k,st,q,I,J.w,J.done L x⟩
 |steps q=>let⟨B,A,j,G⟩:=z r "sq_steps" SR;simp! [C.no];calc ast (i:=0);simp!;calc⟨k,st,q,I,J.w,J.done L x⟩
end Sq
namespace Sq
open PySem L2 dO
def Ar(a:C):∃l,a.hG=a.no::l:=by cases a<;>calc EJ
section
variable{base:ř}
inductive aeJ(vs:g3)(H:Hp)(d:VK)(e:XK):Prop|mk(x r c a:β)(xs:g3)(j:M)(st:uu)(k:C)(b4:g3):vs=[DJ,.ref r]->AA (Ix J_ r) xs j st->k.Ok->xs.drop j=BT k.hG.q++b4->(∀l b,JT (Kr r)->ME H->b l=VG (YV k)->AA (J_ b x r) xs (j+k.hG.length) (E8 st k)->d CG b)->SD aeJ
open L3 in theorem agO(yy:Ĭ)(hB:vP base mg):(pT yy).P base 102 aeJ:=by
 refine(pT yy).ok ["session","reader","call"] λvs H Q E h=>?_;obtain⟨x,r,rdx,a,xs,j,st,k,b4,rfl,hD,aI,hdr,kq⟩:=h;have rdM:∀j:Int,hu (yT a j) "take_number":=λ_=>rfl;refine⟨rfl,λf cdv A pP s0 hr nd=>⟨_,η (À 2 nd$ Ŵ (b8 yy) hr$ pv 1)$ η (ď (Ô fH (pv 2)$ Ĩ rfl$ zP yy) (μ$ Ξ$ ċ (agM yy hB) hr$ ε (pv 0)$ ε (pv 1)$ ε (pv 2) ο) (Õ))$ μ$ Ξ$ ċ (agN yy hB) hr$ ε (pv 0)$ ε (pv 1)$ ε (pv 2) ο,?_⟩⟩;obtain⟨fl,efl⟩:=Ar k;have aj_:xs.drop (j+1)=k.hG.tail.map V.int++b4:=by rw[<-ji,hdr,efl];rfl
 have h0:xs[j]?=some (.int k.no):=by have:=c8 hdr (i:=0) (v:=.int k.no) (by rw[efl];rfl);simpa using this
 have ej:j+1+k.hG.tail.length=j+k.hG.length:=by rw[efl];simp;lia
 have hrd:=hD.rd;walk_at "s";simp!;refine ly hD h0 λH1 hD1 f1=>?_;have fin:∀l H',Kr r H1 H'->H1 l=none->H' l=some (.Ý$ (uF st k).map V.int)->J_ H' x r rdx a xs (j+1+k.hG.tail.length) (E8 st k)->Q (.ref l) H':=λl H' kr hl e hd=>kq l H' (λb o nb eb s=>kr b o nb (f1.1 b o nb eb s) s) (f1.2 l hl) e (by rw[<-ej];exact hd);by_cases h5:k.no<=5;simp! [h5];exact⟨x,r,rdx,a,xs,j+1,st,k,b4,rfl,hD1,aI,h5,aj_,fin⟩;have h6:6<=k.no:=by lia
 simp! [h5];exact⟨x,r,rdx,a,xs,j+1,st,k,b4,rfl,hD1,aI,h6,aj_,fin⟩
abbrev agP:Sp:=rO K
def adB(a:Ĭ)(b:vP base mg):(zQ a).P base 103 agP:=by
 calc EI zQ ["calls","reader","session","told","answer"] EO;let⟨h,i,I,j,k,m,n,o,p,q⟩:=g;let⟨r,t,u,v,x⟩:=Ko m;have y:∀A:U,hu (yT h A) "has_more":=SR;calc as_ ⟨_,η (KW N (gQ (Tw a) L aql))$ η (FT N (afQ (adw a) L))$ η (GX N RS)$ η (cL (dm (Ŵ (ac7 a) L IC)) (η (OG N (af_ (io agO) L (ε LK (ol IC)))) (η (Ł (TX OK (ol (amu JZ (ol (pv 4)))))) (IW (Dg è PySem.F.dM PySem.F.type_list_extend Ss OK (ol (pv 4)))))))$ rc OK,?_⟩;calc⟨_,I,?_⟩;intro O c e f k;calc⟨O,h,c,I,Α,I,?_⟩;have g:hm$ DB ø (.ü O) O:=DK (Ne.symm k) e;have m:LF$ ø (ø (ø (DB ø (.ü O)) O (am8 [])) O (am8 [("calls",NB)])) O$ am8$ HV yT:=by rw[bx,bx];exact(Μ.new f).trans$ Μ.new g
 have y:ø (ø (ø (DB ø (.ü O)) O (am8 [])) O (am8 [("calls",NB)])) O (am8 (HV yT)) O=f4 (am8 (HV yT)):=Α;generalize ø (ø (ø (DB ø (.ü O)) O (am8 [])) O (am8 [("calls",NB)])) O (am8 (HV yT))=B at m y|-;simp only[jy];intro D G H J L;calc⟨D,G,I,Α,I,?_⟩;have N:hm$ ø B G (.ü D) D:=DK (Ne.symm L) H;have e:Μ B$ ø (ø (ø B G (.ü D)) D (NK G [])) D$ NK G [("square",.Ť)]:=by rw[bx];exact(Μ.new J).trans$ Μ.new N
 have k:ø (ø (ø B G (.ü D)) D (NK G [])) D (NK G [("square",.Ť)]) D=f4 (NK G [("square",.Ť)]):=Α;generalize ø (ø (ø B G (.ü D)) D (NK G [])) D (NK G [("square",.Ť)])=f at e k|-;simp only[jy];calc⟨(by show GT 0;decide),λg d=>?_⟩;have H:=m.trans e;have L:FM (J_ f D O) (BT i.q) 0 none:=⟨⟨⟨G,.Ť,k,I⟩,n.kp$ .of H,o.kp$ .of H,p⟩,MX y,yn j λJ N _=>LT N⟩;have B:(cO i).length<=15311400:=by rw[x];have:=zu r (s:=none) λm N=>nomatch N;have:r.length*51038<=300*51038:=qa _ v;lia
 let⟨W,j⟩:∃W:M->JK L2.St,W= λn o p=>∃(y:Hp) (A:M) (st:uu) (G:AX C) (e:At) (k:ut),p=ø y g (AQ (BT e.q))/\UI y/\o=[f4 NB,f4$ .ref O,abn,f4 FU,k]/\FM (J_ y D O) (BT i.q) A st/\ir st/\(BT i.q).drop A=BT (ny G).q/\(∀H,H∈G->H.Ok)/\n=G.length/\e++nz st G=cO i:=EJ;simp only[jy];calc⟨W,⟨r.length,by rw[j];calc⟨f,0,none,r,[],none,I,d,I,L,(λm N=>nomatch N),by rw[t];rfl,u,I,by rw[x];rfl⟩⟩,?_⟩;intro n o B v;rw[j]at v;let⟨y,A,st,G,e,k,I,r,I,t,u,x,f,I,d⟩:=v;have L:O≠g:=ρ t.rd r;have m:ø y g (AQ (BT e.q)) O=f4 (am8 (yT h (A:M))):=(ω L).trans t.rd;have n:BN (ø y g (AQ (BT e.q))) h$ BT i.q:=yn t.sq λJ N _=>DK (ρ N r) N;have o:=YT x;rw[g4,θ,θ]at o;calc⟨_,I,O,c,_,I,m,I,O,h,c,A,BT i.q,I,m,n,?_⟩;cases G with
 |nil=>
  have B:¬(jp A<NR (BT i.q)):=by rw[θ];have:(ny []).length=0:=I;lia
  calc⟨gl,by show gl=it _;simp only[B,decide_false],?_⟩;calc⟨_,I,q g _ ?_⟩;rw[Α,<-d];simp[nz]
 |cons H G=>
  let⟨k,v⟩:=Ar H;have L:(ny (H::G)).length=H.hG.length+(ny G).length:=by show(H.hG++ny G).length=_;rw[π]
  have N:0<H.hG.length:=by rw[v];simp
  have y:jp A<NR (BT i.q):=by rw[θ];lia
  calc⟨Z,by show Z=it _;simp only[y,auG],?_⟩;have m:(BT i.q).drop A=BT H.hG.q++BT (ny G).q:=by rw[x,<-Æ];rfl
  calc⟨λn p=>W G.length n p,λn p z=>⟨G.length,mo,z⟩,?_⟩;calc⟨_,I,_,I,g,_,Α,?_⟩;rw[acK r];calc⟨D,O,c,h,BT i.q,A,st,H,BT (ny G).q,I,t,f H JJ,m,λl o q B k L v=>?_⟩;have N:l≠g:=ρ k v;have y:e.length+(nz st (H::G)).length=(cO i).length:=by rw[<-d,π]
  have x:nz st (H::G)=NR (YV H)::(YV H++nz (E8 st H) G):=I;rw[x,Β,π]at y;have h:∀J,ø o g J l=VG (YV H):=λJ=>(ω N).trans k;calc⟨_,I,.D ⟨I,_,wT Α⟩,_,I,l,_,I,h _,g,_,_,I,I,Α,(by show(BT e.q).length<QW;rw[θ];lia),_,I,.D ⟨I,_,wT Α⟩,_,I,g,l,_,_,I,I,Α,(ω N).trans$ h _,?_,?_⟩;rw[π,θ,θ];show GT (e.length+1+(YV H).length);lia;show AY W;rw[bx,bx,j];calc⟨o,A+H.hG.length,E8 st H,G,e++(NR (YV H)::YV H),f4 CG,mo,v,I,L,zf u H,?_,λO c=>f O$ LS c,I,?_⟩;rw[<-ji,m];have:H.hG.length=(BT H.hG.q).length:=by rw[θ]
  rw[this,adL];rw[<-d,x];simp
end
end Sq
namespace Sq
def lo:Nl î.prog=Z:=by unfold Nl;simp only[ξ];refine wn$ wn$ wn$ wn$ wn ?_<;>decide+AO
def ws:î.wellSaid=Z:=by unfold adM;simp only[ξ];refine wn$ wn$ wn$ wn$ wn lo<;>decide+AO
end Sq
open PySem PySem.W PyProof.Rows
namespace Sq
def cjn{d:β->FQ pi}{a:s5}{K:Frag}{c b:M}(f:((a.drop b).take c).q d=((K.drop b).take c).q (λg=>f4 g.2))(e:(a.drop (b+c)).q d=(K.drop (b+c)).q (λg=>f4 g.2)):(a.drop b).q d=(K.drop b).q (λg=>f4 g.2):=by rw[<-gE c$ a.drop b,<-gE c$ K.drop b,Æ,Æ,f,ji,ji,e]
def ck(a:s5)(b:M)(c:lm):VM:=((a.drop b).take 85).q c.v.ad
noncomputable def cv(a:M)(w:Ŏ):VM:=((ahy.drop a).take 85).q λb=>f4 b.2
def ckl(a:s5)(b:lm):VM:=(a.drop 595).q b.v.ad
noncomputable def cvl(w:Ŏ):VM:=(ahy.drop 595).q λa=>f4 a.2
def ckt(a:lm):VM:=[933,947].q a.v.ad
def cvt:VM:=[933,947].q λ_=>f4$ tabObj #[]
noncomputable def hk(a:s5)(b:∀P,a=(kk.heap_1 P).q (·.1)):Hook where
 α:=VM×VM×VM×VM×VM×VM×VM×VM×VM;obs:=λc=>(HF ck c,ck a 85 c,ck a 170 c,ck a 255 c,ck a 340 c,ck a 425 c,ck a 510 c,mt ckl,ckt c);val:=λw=>(cv 0 w,cv 85 w,cv 170 w,cv 255 w,cv 340 w,cv 425 w,cv 510 w,cvl w,cvt);says:=λw d=>InK kk.heap_1 w d/\∀P∈[933,947],d.ad P=f4 (tabObj #[]);of:=λw c e=>by let⟨f,e⟩:=cS e;let⟨g,e⟩:=cS e;let⟨h,e⟩:=cS e;let⟨i,e⟩:=cS e;let⟨j,e⟩:=cS e;let⟨k,e⟩:=cS e;let⟨l,e⟩:=cS e;let⟨m,e⟩:=cS e;exact⟨InK.of b w c$ cjn f$ cjn g$ cjn h$ cjn i$ cjn j$ cjn k$ AE cjn,List.map_inj_left.J e⟩
 keeps:=λw d n e o=>⟨InK.keeps w d n e.1 o,λP p=>ga o$ e.2 P p⟩
end Sq
local macro_rules | `(tactic| o_headS ($_ $_ $a $f)) => `(tactic| o_headS (Sq.hk $a $f))
local macro_rules (kind := Lean.Parser.Term.app) | x => do
  let n := x[0].getId.eraseMacroScopes
  let h := x[1][0]
  let h := if h.isOfKind ``Lean.Parser.Term.paren then h[1] else h
  let a : Lean.TSyntax `term := ⟨h[1][0]⟩
  if n == `Hook.obs then `(fun s => (Sq.ck $a 0 s, Sq.ck $a 85 s, Sq.ck $a 170 s, Sq.ck $a 255 s, Sq.ck $a 340 s, Sq.ck $a 425 s, Sq.ck $a 510 s, Sq.ckl $a s, Sq.ckt s))
  else if n == `Hook.val then `(fun w => (Sq.cv 0 w, Sq.cv 85 w, Sq.cv 170 w, Sq.cv 255 w, Sq.cv 340 w, Sq.cv 425 w, Sq.cv 510 w, Sq.cvl w, Sq.cvt))
  else Lean.Macro.throwUnsupported
local macro_rules | `(command| init_quot) => do
  let c := `PySem.Challenge.cw_squaresteps_s01_answers_holds
  let l (s : String) (is : List Nat) := is.map fun i => c.str s!"{s}_{i}"
  let ns := [`PySem.Challenge.nm_squaresteps_s01_answers, `PySem.Challenge.pw_squaresteps_s01_answers, `PySem.Challenge.rw_squaresteps_s01_answers, `Sq.kk.heap_1, `Sq.ck, `Sq.cv, `Sq.ckl, `Sq.cvl, `Sq.ckt, `Sq.cvt] ++ l "o" (List.range 1160) ++ l "view" [1] ++ l "env" [2] ++ l "heap" [7,1159] ++ l "tree" [8,53,109,160,218,274,322,376,461,496,547,598,654,704,758,812,888,918,1025,1110,1149,1158] ++ l "sts" [10,54,110,161,219,275,323,377,462,497,548,599,655,705,759,813,889,919,1114,1150]
  return Lean.mkNullNode (← ns.toArray.mapM fun n => do `(command| theorem $(Lean.mkIdent ((`PySem.W.Fast).str s!"tw{n.hash}")) : True := trivial))
init_quot
namespace Sq
def end_fn{w:Ŏ}{mg:Do}{a:β}{d:ř}(b:ahy.In d)(e:d.Ns ţ mg)(c:mg "answers"=f4 AC):∀f:ř,ahy.In f->f.Ns ţ mg->L2.vP f mg->∃g,IA L2.fU ahy mg f L2.yS 103 a g ["calls"] (rO ahy)/\L2.di ahy g ["calls"] []:=λf _ _ h=>by let⟨i,g,ok,j,_,k⟩:=GP (agb (λl f h=>adB l h) ⟨b,e⟩);rw[c]at j;cases j;calc⟨g,ok,k⟩
end Sq
theorem PySem.Challenge.cw_squaresteps_s01_answers_holds : PySem.Challenge.rw_squaresteps_s01_answers.Holds := by
 w_on;have ws:=Sq.ws;k_headS;(case hw=>exact⟨[.list [.int 1]],by decide+kernel,by decide+kernel⟩);refine L2.Yc (r:=î) (f:=cO) (n:=30000) (k:=103) (x:="calls") (sp:=Sq.rO) (P1:=933) (P2:=947) (c1:=937) (c2:=951) (λargs hp=>?hsh) (λns hp=>Sq.acx hp) (by decide) rfl ⟨rfl,by decide,by decide⟩ (by decide) (λw h Y=>⟨Y.1,Y.2 933 (by simp),Y.2 947 (by simp)⟩) ?hK ?F ?S;case hsh=>obtain⟨ns,e,hl,_⟩:=Sq.Yl hp;exact⟨ns,e,hl⟩
 case hK=>exact λp=>⟨by kernel_rfl,by kernel_rfl,by kernel_rfl,by kernel_rfl⟩
 case S=>
  intro K H a ns hp hl t1 t2 hS;obtain⟨ms,e,_,ha⟩:=Sq.Yl hp;have e2:ns=ms:=by injection e with e' _;injection e' with e';exact jW _ (λx y z=>by injection z) _ _ e'
  subst e2;exact⟨a,ns,rfl,hS,hl,ha,⟨#[],t1,.inl rfl⟩,⟨#[],t2,.inl rfl⟩,by decide,λl H' e=>⟨l,rfl,e⟩⟩
 case F=>intro w mg fa h KX G hmg;exact Sq.end_fn KX G hmg
