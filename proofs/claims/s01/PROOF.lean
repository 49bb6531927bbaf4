import PyProof.Rows.All
import Wide.All
import OpenK.AllK
import Wide.FinOn
import PyProof.EqAt
import PyProof.EqKinds
import PyProof.TupleCall
import KE.BitLaws
import Open.SpecLaws
import KE.OsHead
import KE.OsGo
import Ks340Spec
import KE.KDictList
import OpenK.KTop
import PyProof.Rows.TupDisplay
import PyKs340
import PySem.Challenge.RW_houserulesyard_s01_answers
set_option Elab.async false
set_option linter.all false
set_option maxRecDepth 100000
set_option maxHeartbeats 0
namespace PySem.W.Fast
def tw9079916162126751034:=0
def tw14240841111457678948:=0
def tw13966808051132227335:=0
def tw13298716267572358439:=0
def tw2211156742379326431:=0
def tw10418716923525673010:=0
def tw5127453274854296627:=0
def tw15757086799996904579:=0
def tw824500646549972793:=0
def tw1298537889390627384:=0
def tw17623866342878317452:=0
def tw1525404108889167013:=0
def tw13244880131965321718:=0
def tw8980440199710519638:=0
def tw4221035194234864885:=0
def tw8302482571661444613:=0
def tw3044516122496089672:=0
def tw12152306155180866117:=0
def tw6653305586690543509:=0
def tw8676414358281588372:=0
def tw8711553336631967179:=0
def tw15628598978882452545:=0
def tw13012043736224060058:=0
def tw1139973176779615840:=0
def tw1254862228641347681:=0
def tw933523773245636060:=0
def tw12863422467257409194:=0
def tw14261935949341984010:=0
def tw14773854588128827619:=0
def tw10923732163999254041:=0
def tw9001276663313493116:=0
def tw8187039683570040701:=0
def tw13715491256177753502:=0
def tw16283141706641989831:=0
def tw2301110479295981625:=0
def tw11626729350642768853:=0
def tw6572516092620120678:=0
def tw4928595661333797530:=0
def tw14718291511303351824:=0
def tw8486649455046135971:=0
def tw1065635063384703558:=0
def tw6523517060137222584:=0
def tw7770442999685339100:=0
def tw14277886862614691180:=0
def tw12526600083810681545:=0
def tw9178752253489156820:=0
def tw16793362806462809660:=0
def tw10861236946570272621:=0
def tw11822469878442256504:=0
def tw4674271087754529933:=0
def tw1658618023960278826:=0
def tw5453668288686420460:=0
def tw10692321350954902855:=0
def tw13827897943337951699:=0
def tw16534762817948067928:=0
def tw764484404179074486:=0
def tw2194572291221621741:=0
def tw18237433317769188450:=0
def tw13414282082594508087:=0
def tw13965176768314332129:=0
def tw17087380496722285409:=0
def tw6097886479063158977:=0
def tw2798925408408623267:=0
def tw14588790954037014944:=0
def tw7401457625948992476:=0
def tw12651140151211034268:=0
def tw12468161670476826259:=0
def tw13336254259747345597:=0
def tw8260849734285515642:=0
def tw12151755180968105461:=0
def tw17076805062429500851:=0
def tw12342542693440855292:=0
def tw16904173558469620641:=0
def tw6650288912293792717:=0
def tw5851504197595203275:=0
def tw5497882254500010631:=0
def tw12680761850479773354:=0
def tw7376048667099794370:=0
def tw17143224200908224892:=0
def tw15310634946477273743:=0
def tw9719675963478683265:=0
def tw10635972232706533609:=0
def tw16625093741419424424:=0
def tw9140217491419914595:=0
def tw1119164537618172385:=0
def tw5113161258824003801:=0
def tw16021771614780950674:=0
def tw18355630875555141254:=0
def tw4740362351511876557:=0
def tw12128542309889421246:=0
def tw1848348897903133609:=0
def tw14003563169449337102:=0
def tw10859173948128220175:=0
def tw11259433263664240381:=0
def tw12874064598944803767:=0
def tw2986840955876037408:=0
def tw12597454179046560848:=0
def tw1573413041773974633:=0
def tw1494346148876867833:=0
def tw4059594389804920015:=0
def tw11642932944050637776:=0
def tw5293990630566162190:=0
def tw12283485490344912142:=0
def tw13528781058883781015:=0
def tw5411053078863159736:=0
def tw10438116396449087350:=0
def tw14576705076945575273:=0
def tw11161208810326704871:=0
def tw2863973207892412769:=0
def tw3848865872222443346:=0
def tw16517029537641278242:=0
def tw17267195726626463832:=0
def tw1951811612980734555:=0
def tw2655195977783762452:=0
def tw8694301174386126287:=0
def tw15389328755136943722:=0
def tw1879792795315933047:=0
def tw14728936153393887806:=0
def tw13643789271564132655:=0
def tw15957456131241727386:=0
def tw522627651007469730:=0
def tw5230084346106205833:=0
def tw7533522082465879996:=0
def tw1307727011884141401:=0
def tw10402447405496423452:=0
def tw34429618150592965:=0
def tw18247366862793272608:=0
def tw7940612181856120970:=0
def tw12445886640136464806:=0
def tw1906648820243408642:=0
def tw4615325544577024331:=0
def tw17477430060498008360:=0
def tw4343814103871966572:=0
def tw30297944793346485:=0
def tw7466010331350193725:=0
def tw8116223692580021388:=0
def tw1063447019941151525:=0
def tw8969965924162786643:=0
def tw16916306654821177223:=0
def tw3711064991224349520:=0
def tw6959141131200309286:=0
def tw11139758279118673030:=0
def tw1449380943806825862:=0
def tw8675036180552204893:=0
def tw9319529290191543407:=0
def tw10159685987720185125:=0
def tw5763991280640441015:=0
def tw4002543661503544626:=0
def tw9623066364302350664:=0
def tw15409940529195628275:=0
def tw17796747071396588739:=0
def tw15969338149815326414:=0
def tw2892234333127658054:=0
def tw1430139072636987202:=0
def tw9006226533595242031:=0
def tw11369535029598552722:=0
def tw10694047534858449237:=0
def tw2454490257823430376:=0
def tw10483827719506722486:=0
def tw17355171960639141906:=0
def tw8213932296493045967:=0
def tw13732884281969240836:=0
def tw8670852411783816289:=0
def tw2128071307328329174:=0
def tw11098417041667659926:=0
def tw16915057153039272260:=0
def tw10088250260981654616:=0
def tw2753776418147615090:=0
def tw5807271639505459261:=0
def tw16829883822095183505:=0
def tw13382410105123006273:=0
def tw3348059177168641552:=0
def tw6233682225577610840:=0
def tw6200570966079338770:=0
def tw5854828611421206432:=0
def tw6002048939893624091:=0
def tw7985582123520639614:=0
def tw7871447614008908078:=0
def tw12313035760594758622:=0
def tw5198299892951182654:=0
def tw13425622417767838741:=0
def tw15242100530104085800:=0
def tw10527204743444295551:=0
def tw11699074328030850069:=0
def tw12317414224673802187:=0
def tw15060114995129189416:=0
def tw5964221782577773230:=0
def tw8958436967677843468:=0
def tw14014877942323392427:=0
def tw18079749062290379362:=0
def tw11465520565129307460:=0
def tw9102876704050259886:=0
def tw8156161136356477680:=0
def tw3337489094560070699:=0
def tw1340942392212676171:=0
def tw3087941313958264081:=0
def tw5967276950108740621:=0
def tw15269448720954062361:=0
def tw15334973724677119928:=0
def tw11178230823322676140:=0
def tw3232502597770610101:=0
def tw17249813462488753026:=0
def tw16703714933095673966:=0
def tw2455385690425302695:=0
def tw9585388164026439699:=0
def tw2108898193168827744:=0
def tw14111197961941116284:=0
end PySem.W.Fast
section
open PySem PySem.W PyProof.Rows
local macro_rules
|`(tactic|o_law)=>`(tactic|skip)
local macro_rules
|`(tactic|k_head)=>`(tactic|k_headS)
local macro_rules
|`(tactic|w_witness2)=>`(tactic|exact ⟨[.list [.int 0]],by decide +kernel,by decide +kernel⟩)
open_top zhead for PySem.Challenge.rw_houserulesyard_s01_answers
end
def aa:=@if_neg
def ab:=@if_pos
def ae:=@PySem.wpAny_bind
def af:=@List.length_map
def ag:=@Nat.le_refl
def ah:=@PySem.wpAny_pure
def ai:=@absurd
def aj:=@decide_eq_true
def ak:=@List.mem_cons
def ao:=@Option.some.inj
def aq:=@PySem.Heap.get?_push_of_some
def au:=@List.length_cons
def aw:=@List.map_cons
def ax:=@PySem.Heap.lt_size
def ay:=@List.length_append
def az:=@decide_eq_false
def aA:=@List.mem_cons_of_mem
def aB:=@List.map_append
def aC:=@Nat.lt_of_le_of_lt
def aD:=@of_decide_eq_true
def aE:=@List.mem_cons_self
def aF:=@PySem.Heap.get?_push_size
def aG:=@List.size_toArray
def aH:=@List.getElem?_eq_some_iff
def aI:=@List.getElem?_eq_getElem
def aJ:=@Nat.le_of_lt
def aK:=@List.mem_singleton
def aL:=@Bool.false_ne_true
def aM:=@List.mem_of_getElem?
def aN:=@Nat.le_trans
def aO:=@List.length_take
def aP:=@List.length_reverse
def aQ:=@List.mem_map
def aR:=@PySem.wpAny_field
def aS:=@List.getElem?_map
def aT:=@List.append_assoc
def aU:=@Nat.ne_of_lt
def aV:=@PySem.Heap.size_push
def aW:=@Nat.zero_le
def aX:=@List.append_nil
def aY:=@List.mem_append
def aZ:=@List.take_length
def ba:=@Nat.lt_or_ge
def bb:=@Nat.lt_of_lt_of_le
def bc:=@Bool.and_eq_true
def bf:=@List.map_map
def bg:=@List.length_drop
def bh:=@List.cons_append
def bj:=@List.mem_range
def bo:=@List.length_range
def bp:=@List.reverse_cons
def bq:=@List.mem_flatMap
def br:=@List.all_eq_true
def bt:=@List.eq_nil_of_length_eq_zero
def bu:=@List.getElem?_append_left
def bw:=@Nat.le_add_right
def bx:=@List.getElem?_eq_none
def bz:=@List.drop_drop
def bA:=@List.getElem?_append_right
def bB:=@List.append_cancel_left
def bC:=@List.getElem?_drop
namespace L2
open PySem PySem.Spec PyProof.Rows
abbrev Key:=Sum Int Str
def tP:Key->Value->Bool
 | .inl k,v=>Value.isInt k v
 | .inr x,v=>Value.isStrOf x v
def ZL (w:World):Key->Int
 | .inl k=>hashInt k
 | .inr x=>hashStr w x
theorem e8:∀{k:Key}{v:Value},tP k v=true->(∃i t,k=Sum.inl i/\v=Value.int i t)\/(∃x t,k=Sum.inr x/\v=Value.str x t)
 | .inl i,v,h=>by obtain ⟨t,e⟩:=Value.isInt_shape (k:=i) (v:=v) h;exact .inl ⟨i,t,rfl,e⟩
 | .inr x,v,h=>by obtain ⟨t,e⟩:=Value.isStrOf_shape (x:=x) (v:=v) h;exact .inr ⟨x,t,rfl,e⟩
theorem OZ (i:Int)(t:Tok):tP (.inl i) (.int i t)=true:=by simp [tP,Value.isInt]
theorem O0 (x:Str)(t:Tok):tP (.inr x) (.str x t)=true:=by simp [tP,Value.isStrOf]
theorem Vk (a b:Int):decide ((Sum.inl a:Key)=Sum.inl b)=(a == b):=by
 by_cases e:a=b
 ·subst e;simp
 ·have h:¬(Sum.inl a:Key)=Sum.inl b:=λq=>e (Sum.inl.inj q);rw [az h];exact (beq_eq_false_iff_ne.mpr e).symm
theorem Vl (a b:Str):decide ((Sum.inr a:Key)=Sum.inr b)=decide (a=b):=by
 by_cases e:a=b
 ·subst e;simp
 ·have h:¬(Sum.inr a:Key)=Sum.inr b:=λq=>e (Sum.inr.inj q);rw [az h,az e]
theorem Vm (a:Int)(b:Str):decide ((Sum.inl a:Key)=Sum.inr b)=false:=az (λq=>nomatch q)
theorem Vn (a:Str)(b:Int):decide ((Sum.inr a:Key)=Sum.inl b)=false:=az (λq=>nomatch q)
def fk (prog:Program)(w:World):PySem.KeyKind prog w Key where
 is:=tP
 hash:=ZL w
 inj:=λv a b ha hb=>by
  rcases e8 ha with ⟨i,t,rfl,rfl⟩ | ⟨x,t,rfl,rfl⟩
  ·rcases e8 hb with ⟨j,u,rfl,e⟩ | ⟨y,u,rfl,e⟩
   ·injection e with e1 _;rw [e1]
   ·exact nomatch e
  ·rcases e8 hb with ⟨j,u,rfl,e⟩ | ⟨y,u,rfl,e⟩
   ·exact nomatch e
   ·injection e with e1 _;rw [e1]
 byValue:=λk v h=>by
  rcases e8 h with ⟨i,t,rfl,rfl⟩ | ⟨x,t,rfl,rfl⟩ <;> rfl
 pyHash:=λhv h=>by
  rcases e8 hv with ⟨i,t,rfl,rfl⟩ | ⟨x,t,rfl,rfl⟩
  ·exact wpAny_pyHash_int h
  ·exact wpAny_pyHash_str h
 eqBool:=λhu hv h=>by
  rcases e8 hu with ⟨i,t,rfl,rfl⟩ | ⟨x,t,rfl,rfl⟩
  ·rcases e8 hv with ⟨j,u,rfl,rfl⟩ | ⟨y,u,rfl,rfl⟩
   ·rw [Vk] at h;exact wpAny_eqBool_int h
   ·rw [Vm] at h;exact SeqAt.EqAt.int_str i t y u _ _ _ _ h
  ·rcases e8 hv with ⟨j,u,rfl,rfl⟩ | ⟨y,u,rfl,rfl⟩
   ·rw [Vn] at h;exact SeqAt.EqAt.str_int x t j u _ _ _ _ h
   ·rw [Vl] at h;exact wpAny_eqBool_str h
 «strs»:=λk x t v h=>by
  rcases e8 h with ⟨i,u,rfl,e⟩ | ⟨y,u,rfl,e⟩
  ·exact nomatch e
  ·injection e with e1 _
   subst e1;cases v <;> rfl
theorem KW (prog:Program)(w:World)(i:Int)(t:Tok):(fk prog w).is (.inl i) (.int i t)=true:=OZ i t
theorem KY (prog:Program)(w:World)(x:Str)(t:Tok):(fk prog w).is (.inr x) (.str x t)=true:=O0 x t
end L2
namespace L2
open PySem PySem.Spec PyProof.Rows
inductive V where
 | cw | bl (b:Bool) | int (i:Int) | str (x:Str) | pZ (b:Array UInt8) | SV (b:UInt64) | ref (a:Addr) | ty (n:String)
 deriving DecidableEq
def RelV:V->Value->Prop
 | .cw,u=>u=Value.none
 | .bl b,u=>u=Value.bool b
 | .int i,u=>∃t,u=Value.int i t
 | .str x,u=>∃t,u=Value.str x t
 | .pZ b,u=>∃t,u=Value.bytes b t
 | .SV b,u=>∃t,u=Value.float b t
 | .ref a,u=>u=Value.ref a
 | .ty n,u=>u=Value.type n
abbrev Vals:List V->List Value->Prop:=Paired RelV
theorem Vals.length {xs:List V}{us:List Value}(r:Vals xs us):xs.length=us.length:=Paired.length r
theorem Vals.get:∀{xs:List V}{us:List Value}{i:Nat}{x:V},Vals xs us->xs[i]?=some x->∃u,us[i]?=some u/\RelV x u
 | _,_,_,_,.nil,e=>by simp at e
 | _,_,0,_,.cons r _,e=>by simp at e;subst e;exact ⟨_,rfl,r⟩
 | _,_,i+1,x,.cons _ t,e=>by obtain ⟨u,h1,h2⟩:=Vals.get (i:=i) (x:=x) t (by simpa using e);exact ⟨u,by simpa using h1,h2⟩
theorem Vals.append:∀{xs ys:List V}{us ws:List Value},Vals xs us->Vals ys ws->Vals (xs++ys) (us++ws)
 | _,_,_,_,.nil,s=>s
 | _,_,_,_,.cons r t,s=>.cons r (Vals.append t s)
theorem Vals.take:∀{xs:List V}{us:List Value}(n:Nat),Vals xs us->Vals (xs.take n) (us.take n)
 | _,_,0,_=>.nil
 | _,_,_+1,.nil=>.nil
 | _,_,n+1,.cons r t=>.cons r (Vals.take n t)
theorem Vals.drop:∀{xs:List V}{us:List Value}(n:Nat),Vals xs us->Vals (xs.drop n) (us.drop n)
 | _,_,0,r=>r
 | _,_,_+1,.nil=>.nil
 | _,_,n+1,.cons _ t=>Vals.drop n t
def iI:Option V->Option Value->Prop
 | some v,some u=>RelV v u
 | none,none=>True
 | _,_=>False
def KV {κ:Type}:List (κ×V)->List (κ×Value)->Prop:=Paired λ(p:κ×V)(q:κ×Value)=>p.1=q.1/\RelV p.2 q.2
def kV:Key->V
 | .inl i=>.int i
 | .inr x=>.str x
inductive HO where
 | lst (xs:List V)
 | tup (xs:List V)
 | dK (kvs:List (Key×V)) | dT (kvs:List (List Key×V))
 | set (S:Int->Bool) (n:Nat)
 | ins (C dx:Addr) (fs:List (Str×V))
 | own (x:Addr)
 | xd (fs:List (Str×V))
 | met (f x:Addr)
 | Vo (lo hi:Int)
 | e7 (o:Obj) (u:HO)
 | Ib (ps:Array Value)
 | ext (φ:Heap->Prop)
abbrev Hp:=Addr->Option HO
def upd (H:Hp)(a:Addr)(o:HO):Hp:=λb=>if b=a then some o else H b
theorem bN {H:Hp}{a:Addr}{o:HO}:upd H a o a=some o:=by unfold upd;rw [ab rfl]
theorem bR {H:Hp}{a b:Addr}{o:HO}(h:b≠a):upd H a o b=H b:=by unfold upd;rw [aa h]
theorem fo {H:Hp}{a:Addr}{o u:HO}:upd (upd H a o) a u=upd H a u:=by funext b;unfold upd;split <;> rfl
theorem tQ {H:Hp}{a b:Addr}{o u:HO}(h:H a=some o)(h':H b=some u)(d:o≠u):a≠b:=by intro e;subst e;rw [h] at h';exact d (ao h')
theorem cb {H:Hp}{a b:Addr}{o:HO}(h:H a=some o)(h':H b=none):a≠b:=by intro e;subst e;rw [h] at h';cases h'
section
variable (P:Program)(w:World)
def dw (H:Hp)(h:Heap)(a:Addr):HO->Prop
 | .lst xs=>xs.length<=sizeLine/\∃(bZ:List Value)(n:Nat),Vals xs bZ/\h.get? a=some {cls:=.type "list",data:=.seq bZ.toArray n}
 | .tup xs=>xs.length<=sizeLine/\∃bZ:List Value,Vals xs bZ/\IsTup h a bZ.toArray
 | .dK kvs=>kvs.length<=sizeLine/\(a == sysModules)=false/\∃vs,KV kvs vs/\h.DictOf (fk P w) a vs
 | .dT kvs=>kvs.length<=sizeLine/\(a == sysModules)=false/\∃xs:List (List Key×Addr×Value),
   Paired (λ(p:List Key×V)(q:List Key×Addr×Value)=>p.1=q.1/\H q.2.1=some (.tup (p.1.map kV))/\RelV p.2 q.2.2) kvs xs /\
   ∃o es ep,h.get? a=some o/\o.ExactDict/\o.data=.dict es ep/\es.toList=xs.map (entryOfKey (tupleKind (fk P w)))/\(xs.map (·.1)).Nodup
 | .set S n=>h.SetOf (intKind P w) a S n
 | .ins C dx fs=>H dx=some (.own a)/\fs.length<=1000/\dx≠a/\h.get? a=some (PySem.W.instObj C dx) /\
   ∃mA,h.Ns1 dx mA/\(∀f,iI (fs.lookup f) (mA f))/\PySem.Within mA (fs.map (·.1))
 | .own _=>∃o,h.get? a=some o
 | .xd fs=>∃mA,h.Ns1 a mA/\∀f,iI (fs.lookup f) (mA f)
 | .Vo lo hi=>∃t u v,h.get? a=some {cls:=.type "range",data:=.fields #[.int lo t,.int hi u,.int 1 v]}
 | .e7 o u=>h.get? a=some o/\dw H h a u
 | .Ib ps=>h.get? a=some {cls:=.none,data:=.fields ps}
 | .met f x=>h.get? a=some (PySem.W.methodObj (.ref f) (.ref x))
 | .ext φ=>φ h/\(∃o,h.get? a=some o)/\∀h1 h2:Heap,φ h1->(∀o,h1.get? a=some o->h2.get? a=some o)->φ h2
def dN (H:Hp)(h:Heap):Prop:=∀a o,H a=some o->dw P w H h a o
end
section
variable {P:Program}{w:World}{H H':Hp}{h h':Heap}{a:Addr}{o:HO}
theorem dw.lt (x:dw P w H h a o):a<h.objs.size:=by
 cases o with
 | lst xs=>obtain ⟨_,_,_,_,e⟩:=x;exact ax e
 | tup xs=>obtain ⟨_,_,_,p⟩:=x;exact p.lt
 | dK kvs=>obtain ⟨_,_,_,_,o,_,_,e,_⟩:=x;exact ax e
 | dT kvs=>obtain ⟨_,_,_,_,o,_,_,e,_⟩:=x;exact ax e
 | set S n=>obtain ⟨o,_,_,_,e,_⟩:=x;exact ax e
 | ins C dx fs=>obtain ⟨_,_,_,e,_⟩:=x;exact ax e
 | own y=>obtain ⟨_,e⟩:=x;exact ax e
 | xd fs=>obtain ⟨_,⟨_,_,_,e,_⟩,_⟩:=x;exact ax e
 | Vo lo hi=>obtain ⟨_,_,_,e⟩:=x;exact ax e
 | e7 ob u=>obtain ⟨e,_⟩:=x;exact ax e
 | Ib ps=>exact ax (show h.get? a=some _ from x)
 | met f y=>exact ax (show h.get? a=some _ from x)
 | ext φ=>obtain ⟨_,⟨_,e⟩,_⟩:=x;exact ax e
theorem Paired.Na {α β:Type}{F G:α->β->Prop}:∀{l₁:List α}{l₂:List β},Paired F l₁ l₂->(∀a b,F a b->G a b)->Paired G l₁ l₂
 | _,_,.nil,_=>.nil
 | _,_,.cons r t,f=>.cons (f _ _ r) (Paired.Na t f)
theorem Paired.imp' {α β:Type}{F G:α->β->Prop}(f:∀a b,F a b->G a b){l₁:List α}{l₂:List β}(r:Paired F l₁ l₂):Paired G l₁ l₂:=Paired.Na r f
theorem dw.yp (x:dw P w H h a o)(k:∀b u,(b=a\/H b=some (.own a))->h.get? b=some u->h'.get? b=some u)
  (ho:∀b,H b=some (.own a)->H' b=some (.own a)) (ht:∀b xs,H b=some (.tup xs)->H' b=some (.tup xs)):dw P w H' h' a o:=by
 induction o with
 | lst xs=>obtain ⟨z,bZ,n,r,e⟩:=x;exact ⟨z,bZ,n,r,k _ _ (.inl rfl) e⟩
 | tup xs=>obtain ⟨z,bZ,r,ob,e,c⟩:=x;exact ⟨z,bZ,r,ob,k _ _ (.inl rfl) e,c⟩
 | dK kvs=>obtain ⟨z,y,vs,r,ob,es,ep,e,c⟩:=x;exact ⟨z,y,vs,r,ob,es,ep,k _ _ (.inl rfl) e,c⟩
 | dT kvs =>obtain ⟨z,y,xs,r,ob,es,ep,e,c⟩:=x;exact ⟨z,y,xs,Paired.Na r λp q z=>⟨z.1,ht _ _ z.2.1,z.2.2⟩,ob,es,ep,k _ _ (.inl rfl) e,c⟩
 | set S n=>obtain ⟨ob,es,ep,t,e,c⟩:=x;exact ⟨ob,es,ep,t,k _ _ (.inl rfl) e,c⟩
 | ins C dx fs =>obtain ⟨d,z,ne,e,mA,⟨od,es,ep,e2,c⟩,r⟩:=x;exact ⟨ho _ d,z,ne,k _ _ (.inl rfl) e,mA,⟨od,es,ep,k _ _ (.inr d) e2,c⟩,r⟩
 | own y=>obtain ⟨ob,e⟩:=x;exact ⟨ob,k _ _ (.inl rfl) e⟩
 | xd fs=>obtain ⟨mA,⟨od,es,ep,e,c⟩,r⟩:=x;exact ⟨mA,⟨od,es,ep,k _ _ (.inl rfl) e,c⟩,r⟩
 | Vo lo hi=>obtain ⟨t,u,v,e⟩:=x;exact ⟨t,u,v,k _ _ (.inl rfl) e⟩
 | e7 ob u ih=>obtain ⟨e,q⟩:=x;exact ⟨k _ _ (.inl rfl) e,ih q⟩
 | Ib ps =>have e:h.get? a=some {cls:=.none,data:=.fields ps}:=x;show h'.get? a=some {cls:=.none,data:=.fields ps};exact k a _ (.inl rfl) e
 | met f y =>have e:h.get? a=some (PySem.W.methodObj (.ref f) (.ref y)):=x;show h'.get? a=some (PySem.W.methodObj (.ref f) (.ref y));exact k a _ (.inl rfl) e
 | ext φ=>obtain ⟨p,⟨o,e⟩,st⟩:=x;exact ⟨st _ _ p λo q=>k _ _ (.inl rfl) q,⟨o,k _ _ (.inl rfl) e⟩,st⟩
theorem dN.lt (x:dN P w H h)(e:H a=some o):a<h.objs.size:=(x a o e).lt
theorem dN.fresh (x:dN P w H h)(e:h.objs.size<=a):H a=none:=by
 cases q:H a with
 | none=>rfl
 | some u=>exact ai (bb (x.lt q) e) (Nat.lt_irrefl _)
theorem dN.kept (x:dN P w H h)(k:∀b u,h.get? b=some u->h'.get? b=some u):dN P w H h':=λa o e =>(x a o e).yp (λb u _ q=>k b u q) (λ_ q=>q) λ_ _ q=>q
theorem dN.laid (x:dN P w H h)(k:∀b u,h.get? b=some u->h'.get? b=some u)(hp:h.objs.size<=a)(new:dw P w (upd H a o) h' a o):dN P w (upd H a o) h':=λb u e=>by
 have hn:=x.fresh hp
 by_cases hb:b=a
 ·subst hb;rw [bN] at e;cases e;exact new
 ·rw [bR hb] at e;exact (x b u e).yp (λc v _ q=>k c v q) (λc q=>by rw [bR (cb q hn)];exact q) λc xs q=>by rw [bR (cb q hn)];exact q
end
def Rd (H:Hp)(a:Addr)(u:HO):Prop:=H a=some u\/∃o,H a=some (.e7 o u)
theorem Rd.ok {P:Program}{w:World}{H:Hp}{h:Heap}{a:Addr}{u:HO}(r:Rd H a u)(x:dN P w H h):dw P w H h a u:=by
 rcases r with r | ⟨o,r⟩
 ·exact x a u r
 ·obtain ⟨_,q⟩:=x a _ r;exact q
def LL:Option HO->Prop
 | some (.lst _)=>True
 | some (.dK _)=>True
 | some (.dT _)=>True
 | some (.set _ _)=>True
 | some (.ins _ _ _)=>True
 | some (.ext _)=>True
 | _=>False
section
variable {P:Program}{w:World}{H:Hp}{h h':Heap}{x e:Addr}{o':HO}
theorem dN.write (ok:dN P w H h)(mu:LL (H x))(he:e=x\/H e=some (.own x))(k:∀b u,b≠e->h.get? b=some u->h'.get? b=some u)(LM:∃u,h'.get? e=some u)
  (new:dw P w (upd H x o') h' x o'):dN P w (upd H x o') h':=λb u q=>by
 have nown:∀c y,H c=some (.own y)->c≠x:=λc y r z=>by subst z;rw [r] at mu;exact mu
 have ntup:∀c xs,H c=some (.tup xs)->c≠x:=λc xs r z=>by subst z;rw [r] at mu;exact mu
 by_cases hb:b=x
 ·subst hb;rw [bN] at q;cases q;exact new
 ·rw [bR hb] at q
  by_cases qN:b=e
  ·have q':H b=some (.own x):=by
    rcases he with z | z
    ·exact ai (qN.trans z) hb
    ·rw [qN];exact z
   rw [q] at q';cases q';obtain ⟨v,hv⟩:=LM;exact ⟨v,by rw [qN];exact hv⟩
  ·refine (ok b u q).yp (λc v hc r=>k c v ?_ r) (λc r=>by rw [bR (nown c b r)];exact r) λc xs r=>by rw [bR (ntup c xs r)];exact r
   rcases hc with rfl | hc
   ·exact qN
   ·rintro rfl;rcases he with z | z
    ·exact nown c b hc z
    ·rw [hc] at z;cases z;exact hb rfl
end
structure Un (fs ex:List Addr)(H H':Hp)(h h':Heap):Prop where
 keep:∀b o,h.get? b=some o->H b=none->b∉fs->b∉ex->h'.get? b=some o
 slot:∀b o,h.get? b=some o->H b=none->b∈fs->b∉ex->∃sl,h'.get? b=some {o with slots:=sl}
 free:∀b o,h.get? b=some o->H b=none->b∉ex->H' b=none
 there:∀b o,h.get? b=some o->b∉ex->∃o',h'.get? b=some o'
 yq:∀b xs,H b=some (.tup xs)->H' b=some (.tup xs)
 vY:∀b o u,H b=some (.e7 o u)->H' b=some (.e7 o u)
 yr:∀b ps,H b=some (.Ib ps)->∃more,H' b=some (.Ib (ps++more))
section
variable {fs fs' ex ex':List Addr}{H H1 H2:Hp}{h h1 h2 h':Heap}{a x e:Addr}{o:HO}
theorem Un.any (u:Un fs ex H H1 h h1){b:Addr}{ob:Obj}(q:h.get? b=some ob)(n:H b=none)(hx:b∉ex):∃sl,h1.get? b=some {ob with slots:=sl}:=by
 by_cases hb:b∈fs
 ·exact u.slot b ob q n hb hx
 ·exact ⟨ob.slots,u.keep b ob q n hb hx⟩
theorem Un.kept (k:∀b u,h.get? b=some u->h'.get? b=some u):Un fs ex H H h h' :=⟨λb ob q _ _ _=>k b ob q,λb ob q _ _ _=>⟨ob.slots,k b ob q⟩,λ_ _ _ n _=>n,λb ob q _=>⟨ob,k b ob q⟩,λ_ _ q=>q,λ_ _ _ q=>q,λ_ ps q=>⟨#[],by rw [q];simp⟩⟩
theorem Un.refl:Un fs ex H H h h:=Un.kept λ_ _ q=>q
theorem Un.laid (k:∀b u,h.get? b=some u->h'.get? b=some u)(hp:h.objs.size<=a)(hn:H a=none):Un fs ex H (upd H a o) h h' where
 keep:=λb u q _ _ _=>k b u q
 slot:=λb u q _ _ _=>⟨u.slots,k b u q⟩
 free:=λb u q n _=>by rw [bR (aU (bb (ax q) hp))];exact n
 there:=λb u q _=>⟨u,k b u q⟩
 yq:=λb xs q=>by rw [bR (cb q hn)];exact q
 vY:=λb u xs q=>by rw [bR (cb q hn)];exact q
 yr:=λb ps q=>⟨#[],by rw [bR (cb q hn),q];simp⟩
theorem Un.write (mu:LL (H x))(he:e=x\/H e=some (.own x))(k:∀b u,b≠e->h.get? b=some u->h'.get? b=some u)(LM:∃u,h'.get? e=some u):Un fs ex H (upd H x o) h h':=by
 have hx:∀b,H b=none->b≠x:=λb n z=>by subst z;rw [n] at mu;exact mu
 have hb:∀b,H b=none->b≠e:=λb n z=>by
  subst z;rcases he with r | r
  ·exact hx b n r
  ·rw [n] at r;cases r
 have hm:∀b u,H b=some u->¬LL (some u)->b≠x:=λb u q nm z=>by subst z;rw [q] at mu;exact nm mu
 refine ⟨λb u q n _ _=>k b u (hb b n) q,λb u q n _ _=>⟨u.slots,k b u (hb b n) q⟩,λb u q n _=>by rw [bR (hx b n)];exact n,λb u q _=>?_,
  λb xs q=>by rw [bR (hm b _ q λz=>z)];exact q,λb u xs q=>by rw [bR (hm b _ q λz=>z)];exact q,λb ps q=>⟨#[],by rw [bR (hm b _ q λz=>z),q];simp⟩⟩
 by_cases qN:b=e
 ·subst qN;exact LM
 ·exact ⟨u,k b u qN q⟩
end
def SW (h:Heap)(H:Hp):List Addr:=(List.range h.objs.size).filter λa=>(H a).isSome
def vZ (h:Heap)(H:Hp):Heap:=PySem.W.hideAll h (SW h H)
theorem O1 (h:Heap)(H:Hp):(vZ h H).objs.size=h.objs.size:=PySem.W.hideAll_size _ _
theorem Rk {h:Heap}{H:Hp}{b:Addr}{o:Obj}(e:h.get? b=some o)(n:H b=none):(vZ h H).get? b=some o :=PySem.W.hideAll_get _ e λhm=>by have q:(H b).isSome=true:=(List.mem_filter.mp hm).2;rw [n] at q;simp at q
theorem Up {h:Heap}{H:Hp}{b:Addr}{o:Obj}(e:(vZ h H).get? b=some o):h.get? b=some o/\H b=none:=by
 have e':h.get? b=some o:=PySem.W.of_hideAll (SW h H) e;refine ⟨e',?_⟩;cases q:H b with
 | none=>rfl
 | some x =>have hm:b∈SW h H:=List.mem_filter.mpr ⟨bj.mpr (ax e'),by simp [q]⟩;have z:(vZ h H).get? b=none:=PySem.W.hideAll_none (SW h H) hm;rw [z] at e;cases e
end L2
namespace L2
open PySem PySem.Spec PyProof.Rows
structure Mod (K:PySem.W.Frag)(mg:Str->Option Value)(base:Heap):Prop where
 LN:K.In base
 glob:base.Ns mainGlobals mg
 blt:∃mb,base.Ns builtinsNs mb/\∀x:Str,x≠"__name__"->mb x=bootBuiltins x
 nolimit:base.NoLimit
structure Cx where
 prog:Program
 w:World
 K:PySem.W.Frag
 mg:Str->Option Value
 base:Heap
 A:Around
 N:List Str
 lT:Shared
 O2:Hp
 env:Env
 outer:List Env
 stack:List Env
 ex:List Addr
 fn:Str->Bool
 calm:Bool
 pn:List (Addr×Obj)
 xe:Value->Shared->Prop
def yt (l:List Env):List Addr:=l.filterMap (·.frame)
abbrev Cx.fs (X:Cx):List Addr:=yt X.outer
def LO (sc:Scope)(x:Str):Prop:=sc.names.lookup x=some .local\/sc.names.lookup x=some .cell\/sc.names.lookup x=some .free
def Loc (sc:Scope)(x:Str):Prop:=sc.names.lookup x=some .local\/sc.names.lookup x=some .cell
def Look (env:Env)(h:Heap)(m:Str->Option Value)(x:Str)(u:Value):Prop :=(env.kindOf x=some .local/\m x=some u)\/((env.kindOf x=some .cell\/env.kindOf x=some .free)/\∃c,env.cells.lookup x=some c/\h.IsCell c (some u))
structure Cx.Ok (X:Cx):Prop where
 mod:Mod X.K X.mg X.base
 kind:X.env.scope.kind=.function
 glob:X.env.globals=mainGlobals
 blt:X.env.builtins=builtinsNs
 above:X.lT.heap.objs.size<=X.env.locals
 inj:∀x y c,X.env.cells.lookup x=some c->X.env.cells.lookup y=some c->x=y
 has:∀x,(X.env.kindOf x=some .cell\/X.env.kindOf x=some .free)->∃c,X.env.cells.lookup x=some c
 O3:∀x c,X.fn x=true->X.env.cells.lookup x=some c->X.lT.heap.objs.size<=c
 hd:X.calm=true->X.A.handled=none
 frames:X.A.frames=some X.stack
 jB:X.stack=X.outer\/(X.stack=X.env::X.outer/\X.env.frame=some X.env.locals)
 SX:∀b∈X.ex,b≠X.env.locals/\∀x c,X.env.cells.lookup x=some c->c≠b
 bs:∀b o,X.base.get? b=some o->X.lT.heap.get? b=some o/\X.O2 b=none
 Bb:X.base.objs.size<=X.lT.heap.objs.size
 Ic:∀b o,X.base.get? b=some o->b∉X.ex
 Ie:∀b∈X.ex,b∉X.fs
 pw:X.lT.heap.FunFrames X.base X.outer
 Ig:∀b∈X.fs,X.O2 b=none
structure Inv (X:Cx)(pins:List (Addr×Obj))(σ:List (Option V))(H:Hp)(s:Shared):Prop where
 ok:X.Ok
 os:s.os=X.lT.os
 bare:AllBare s.gens
 base:Un X.fs X.ex X.O2 H X.lT.heap s.heap
 loc:∃m,s.heap.Ns X.env.locals m/\∀(i:Nat)(x:Str)(v:V),X.N[i]?=some x->σ[i]?=some (some v)->LO X.env.scope x->∃u,RelV v u/\Look X.env s.heap m x u
 cell:∀x c,X.env.cells.lookup x=some c->∃v,s.heap.IsCell c v
 free:H X.env.locals=none
 ml:∀x c,X.env.cells.lookup x=some c->H c=none
 pin:∀p∈X.pn++pins,s.heap.get? p.1=some p.2/\H p.1=none/\p.1≠X.env.locals/\p.1∉X.fs/\∀v,p.2.data≠.cell v
 cn:dN X.prog X.w H s.heap
 len:σ.length=X.N.length
section
variable {X:Cx}{pins:List (Addr×Obj)}{σ:List (Option V)}{H H':Hp}{s:Shared}{h':Heap}
theorem Cx.Ok.ZM (ok:X.Ok){b:Addr}{o:Obj}(e:X.base.get? b=some o):b∉X.fs:=λhb=>by
 have:=(ok.pw.mem hb).1
 rw [e] at this;cases this
theorem Inv.bs (I:Inv X pins σ H s):∀b o,X.base.get? b=some o->s.heap.get? b=some o/\H b=none:=λb o e =>⟨I.base.keep b o (I.ok.bs b o e).1 (I.ok.bs b o e).2 (I.ok.ZM e) (I.ok.Ic b o e),I.base.free b o (I.ok.bs b o e).1 (I.ok.bs b o e).2 (I.ok.Ic b o e)⟩
theorem Inv.bk (I:Inv X pins σ H s):∀b o,X.base.get? b=some o->s.heap.get? b=some o:=λb o e=>(I.bs b o e).1
theorem Inv.mod (I:Inv X pins σ H s):Mod X.K X.mg X.base:=I.ok.mod
theorem Inv.mX (I:Inv X pins σ H s):X.K.In s.heap:=I.ok.mod.LN.keeps I.bk
theorem Inv.fr (I:Inv X pins σ H s):∃m,Fr X.base X.env.locals s.heap m :=
 let ⟨m,hn,_⟩:=I.loc
 ⟨m,hn,I.bk,aN I.ok.Bb I.ok.above⟩
theorem Inv.lt (I:Inv X pins σ H s):X.env.locals<s.heap.objs.size:=let ⟨_,hn,_⟩:=I.loc;hn.lt
theorem Inv.sz (I:Inv X pins σ H s):X.lT.heap.objs.size<=s.heap.objs.size:=aN I.ok.above (aJ I.lt)
theorem Inv.ZN (I:Inv X pins σ H s){a:Addr}(h:s.heap.objs.size<=a):a∉X.fs:=λhb=>by obtain ⟨_,o,ho,_⟩:=I.ok.pw.mem hb;exact ai (bb (ax ho) (aN I.sz h)) (Nat.lt_irrefl _)
theorem Inv.Ih (I:Inv X pins σ H s):∀x c,X.env.cells.lookup x=some c->c≠X.env.locals:=λx c e z=>by obtain ⟨v,o,ho,hd⟩:=I.cell x c e;obtain ⟨m,⟨o',es,ep,p0,Vp,_⟩,_⟩:=I.loc;rw [z,p0] at ho;cases ho;rw [Vp] at hd;cases hd
theorem Inv.pw (I:Inv X pins σ H s):s.heap.FunFrames X.base X.outer:=by
 have all:∀(l:List Env),(∀b∈yt l,b∈X.fs)->X.lT.heap.FunFrames X.base l->s.heap.FunFrames X.base l:=by
  intro l
  induction l with
  | nil=>intro _ _;trivial
  | cons env r ih =>intro hs hl;obtain ⟨hk,⟨L,o,hf,hn,ho,hd⟩,hr⟩:=hl;have hL:L∈X.fs:=hs L (by unfold yt;rw [List.filterMap_cons,hf];exact aE);obtain ⟨sl,e⟩:=I.base.slot L o ho (I.ok.Ig L hL) hL λz=>I.ok.Ie L z hL;exact ⟨hk,⟨L,_,hf,hn,e,hd⟩,ih (λb hb=>hs b (by unfold yt;rw [List.filterMap_cons,hf];exact aA _ hb)) hr⟩
 exact all X.outer (λ_ hb=>hb) I.ok.pw
theorem Inv.stack (I:Inv X pins σ H s):s.heap.FunFrames X.base X.stack:=by
 rcases I.ok.jB with e | ⟨e,hf⟩
 ·rw [e];exact I.pw
 ·rw [e];obtain ⟨m,hn,_⟩:=I.loc;refine .cons (by rw [I.ok.kind];decide) hf hn ?_ I.pw;exact Heap.get?_none_of_le (aN I.ok.Bb I.ok.above)
theorem Inv.Ii (I:Inv X pins σ H s):∀b∈yt X.stack,b∈X.env.locals::X.fs:=λb hb=>by
 rcases I.ok.jB with e | ⟨e,hf⟩
 ·rw [e] at hb;exact aA _ hb
 ·rw [e] at hb;unfold yt at hb;rw [List.filterMap_cons,hf] at hb;exact hb
theorem Inv.LP (I:Inv X pins σ H s):∀b∈yt X.stack,H b=none:=λb hb=>by
 rcases ak.mp (I.Ii b hb) with e | hb
 ·rw [e];exact I.free
 ·obtain ⟨_,o,ho,_⟩:=I.ok.pw.mem hb;exact I.base.free b o ho (I.ok.Ig b hb) λz=>I.ok.Ie b z hb
theorem Inv.step {g':Array GenState}{t':Nat}{d':Drawn}{ch:List Addr}(I:Inv X pins σ H s)
  (vh:∀b∈ch,(b∈X.ex\/X.lT.heap.objs.size<=b)/\b≠X.env.locals/\(∀x c,X.env.cells.lookup x=some c->c≠b)/\∀p∈X.pn++pins,p.1≠b)
  (keep:∀b o,b≠X.env.locals->b∉X.fs->b∉ch->s.heap.get? b=some o->H b=none->h'.get? b=some o)
  (slot:∀b o,b≠X.env.locals->b∈X.fs->b∉ch->s.heap.get? b=some o->H b=none->∃sl,h'.get? b=some {o with slots:=sl}) (free:∀b o,b∉ch->s.heap.get? b=some o->H b=none->H' b=none)
  (there:∀b o,b∉ch->s.heap.get? b=some o->∃o',h'.get? b=some o')
  (yq:∀b xs,H b=some (.tup xs)->H' b=some (.tup xs)) (vY:∀b o u,H b=some (.e7 o u)->H' b=some (.e7 o u)) (yr:∀b ps,H b=some (.Ib ps)->∃more,H' b=some (.Ib (ps++more)))
  (ns:∀m,s.heap.Ns X.env.locals m->h'.Ns X.env.locals m) (cn:dN X.prog X.w H' h') (hg:AllBare g') :
  Inv X pins σ H' {s with heap:=h',gens:=g',drawn:=d',toks:=t'}:=by
 have neL:∀b o,X.lT.heap.get? b=some o->b≠X.env.locals:=λb o e=>aU (bb (ax e) I.ok.above);have neC:∀b o,X.lT.heap.get? b=some o->b∉X.ex->b∉ch:=λb o e hx hb=>by
  rcases (vh b hb).1 with z | z
  ·exact hx z
  ·exact ai (bb (ax e) z) (Nat.lt_irrefl _)
 have cellK:∀x c,X.env.cells.lookup x=some c->∀v,s.heap.IsCell c v->h'.IsCell c v:=λx c e v ⟨o,ho,hd⟩=>by
  have nch:c∉ch:=λz=>(vh c z).2.2.1 x c e rfl
  by_cases hc:c∈X.fs
  ·obtain ⟨sl,q⟩:=slot c o (I.Ih x c e) hc nch ho (I.ml x c e);exact ⟨_,q,hd⟩
  ·exact ⟨o,keep c o (I.Ih x c e) hc nch ho (I.ml x c e),hd⟩
 refine ⟨I.ok,I.os,hg,⟨λb o e n hb hx=>?_,λb o e n hb hx=>?_,λb o e n hx=>?_,λb o e hx=>?_,λb xs e=>yq b xs (I.base.yq b xs e),λb o xs e=>vY b o xs (I.base.vY b o xs e),λb ps e=>?_⟩,?_,λx c e=>?_,?_,λx c e=>?_,λp hp=>?_,cn,I.len⟩
 ·exact keep b o (neL b o e) hb (neC b o e hx) (I.base.keep b o e n hb hx) (I.base.free b o e n hx)
 ·obtain ⟨sl,e1⟩:=I.base.slot b o e n hb hx;obtain ⟨sl',e2⟩:=slot b _ (neL b o e) hb (neC b o e hx) e1 (I.base.free b o e n hx);exact ⟨sl',e2⟩
 ·obtain ⟨o',e1⟩:=I.base.there b o e hx;exact free b o' (neC b o e hx) e1 (I.base.free b o e n hx)
 ·obtain ⟨o',e1⟩:=I.base.there b o e hx;exact there b o' (neC b o e hx) e1
 ·obtain ⟨m1,e1⟩:=I.base.yr b ps e;obtain ⟨m2,e2⟩:=yr b _ e1;exact ⟨m1++m2,by rw [e2,Array.append_assoc]⟩
 ·obtain ⟨m,hn,hl⟩:=I.loc;refine ⟨m,ns m hn,λi x v e1 e2 e3=>?_⟩;obtain ⟨u,r,l⟩:=hl i x v e1 e2 e3;refine ⟨u,r,?_⟩;rcases l with l | ⟨k,c,e,z⟩
  ·exact .inl l
  ·exact .inr ⟨k,c,e,cellK x c e _ z⟩
 ·obtain ⟨v,z⟩:=I.cell x c e;exact ⟨v,cellK x c e v z⟩
 ·obtain ⟨m,⟨o,_,_,ho,_⟩,_⟩:=I.loc;exact free _ o (λz=>(vh _ z).2.1 rfl) ho I.free
 ·obtain ⟨v,o,ho,hd⟩:=I.cell x c e;exact free c o (λz=>(vh c z).2.2.1 x c e rfl) ho (I.ml x c e)
 ·obtain ⟨e,n,ne,nf,d⟩:=I.pin p hp;have nch:p.1∉ch:=λz=>(vh p.1 z).2.2.2 p hp rfl;exact ⟨keep p.1 p.2 ne nf nch e n,free p.1 p.2 nch e n,ne,nf,d⟩
theorem Inv.un {t':Nat}(I:Inv X pins σ H s)(u:Un X.fs [] H H' s.heap h')(cn:dN X.prog X.w H' h'):Inv X pins σ H' {s with heap:=h',toks:=t'}:=by obtain ⟨m,⟨o,es,ep,ho,r⟩,_⟩:=id I.loc;obtain ⟨sl,hL⟩:=u.any ho I.free (by simp);exact I.step (g':=s.gens) (d':=s.drawn) (ch:=[]) (λ_ z=>nomatch z) (λb o _ hb _ e n=>u.keep b o e n hb (by simp)) (λb o _ hb _ e n=>u.slot b o e n hb (by simp)) (λb o _ e n=>u.free b o e n (by simp)) (λb o _ e=>u.there b o e (by simp)) u.yq u.vY u.yr (λm' hm=>by obtain ⟨o',Bc,Bd,p0,r'⟩:=hm;rw [ho] at p0;cases p0;exact ⟨_,Bc,Bd,hL,r'⟩) cn I.bare
theorem Inv.call {g':Array GenState}{t':Nat}{d':Drawn}{ch:List Addr}(I:Inv X pins σ H s)(u:Un (yt X.stack) ch H H' s.heap h')(cn:dN X.prog X.w H' h')(hg:AllBare g')
  (vh:∀b∈ch,(b∈X.ex\/X.lT.heap.objs.size<=b)/\b≠X.env.locals/\(∀x c,X.env.cells.lookup x=some c->c≠b)/\∀p∈X.pn++pins,p.1≠b) :
  Inv X pins σ H' {s with heap:=h',gens:=g',drawn:=d',toks:=t'}:=by
 obtain ⟨m,⟨o,es,ep,ho,r⟩,_⟩:=id I.loc;obtain ⟨sl,hL⟩:=u.any ho I.free λz=>(vh _ z).2.1 rfl;exact I.step (ch:=ch) vh (λb o hL hb hc e n=>u.keep b o e n (λz=>(ak.mp (I.Ii b z)).elim hL hb) hc) (λb o _ _ hc e n=>u.any e n hc) (λb o hc e n=>u.free b o e n hc) (λb o hc e=>u.there b o e hc) u.yq u.vY u.yr (λm' hm=>by obtain ⟨o',Bc,Bd,p0,r'⟩:=hm;rw [ho] at p0;cases p0;exact ⟨_,Bc,Bd,hL,r'⟩) cn hg
theorem Inv.turned {t':Nat}{it:Addr}(I:Inv X pins σ H s)(k:∀b o,b≠it->s.heap.get? b=some o->h'.get? b=some o)(hn:H it=none)(hL:it≠X.env.locals)
  (h1:it∈X.ex\/X.lT.heap.objs.size<=it) (h2:∀x c,X.env.cells.lookup x=some c->c≠it) (h3:∀p∈X.pn++pins,p.1≠it):Inv X pins σ H {s with heap:=h',toks:=t'}:=by
 have nit:∀b u,H b=some u->b≠it:=λb u e z=>by rw [z,hn] at e;cases e
 refine I.step (g':=s.gens) (d':=s.drawn) (ch:=[it]) (λb hb=>?_) (λb o _ _ hc e _=>k b o (λz=>hc (by simp [z])) e) (λb o _ _ hc e _=>⟨o.slots,k b o (λz=>hc (by simp [z])) e⟩) (λ_ _ _ _ n=>n)
  (λb o hc e=>⟨o,k b o (λz=>hc (by simp [z])) e⟩) (λ_ _ e=>e) (λ_ _ _ e=>e) (λb ps e=>⟨#[],by rw [e];simp⟩) (λm hm=>?_) (λb u e=>?_) I.bare
 ·have e:b=it:=by simpa using hb
  subst e;exact ⟨h1,hL,h2,h3⟩
 ·obtain ⟨o,es,ep,ho,r⟩:=hm;exact ⟨o,es,ep,k _ o (Ne.symm hL) ho,r⟩
 ·refine (I.cn b u e).yp (λc v hc q=>k c v ?_ q) (λ_ q=>q) λ_ _ q=>q;rcases hc with z | z
  ·rw [z];exact nit b u e
  ·exact nit c _ z
theorem Inv.tok (I:Inv X pins σ H s)(t:Nat):Inv X pins σ H {s with toks:=t}:=I.un (h':=s.heap) (t':=t) Un.refl I.cn
theorem Inv.kept {t':Nat}(I:Inv X pins σ H s)(k:∀b u,s.heap.get? b=some u->h'.get? b=some u):Inv X pins σ H {s with heap:=h',toks:=t'}:=I.un (Un.kept k) (I.cn.kept k)
theorem Inv.laid {a:Addr}{o:HO}{t':Nat}(I:Inv X pins σ H s)(k:∀b u,s.heap.get? b=some u->h'.get? b=some u)(hp:s.heap.objs.size<=a)(new:dw X.prog X.w (upd H a o) h' a o) :
  Inv X pins σ (upd H a o) {s with heap:=h',toks:=t'}:=I.un (Un.laid k hp (I.cn.fresh hp)) (I.cn.laid k hp new)
theorem Inv.write {x e:Addr}{o:HO}{t':Nat}(I:Inv X pins σ H s)(mu:LL (H x))(he:e=x\/H e=some (.own x))(k:∀b u,b≠e->s.heap.get? b=some u->h'.get? b=some u)(LM:∃u,h'.get? e=some u)
  (new:dw X.prog X.w (upd H x o) h' x o):Inv X pins σ (upd H x o) {s with heap:=h',toks:=t'}:=I.un (Un.write mu he k LM) (I.cn.write mu he k LM new)
theorem Inv.weak {σ':List (Option V)}(I:Inv X pins σ H s)(hl:σ'.length=σ.length)(w:∀(i:Nat) v,σ'[i]?=some (some v)->σ[i]?=some (some v)):Inv X pins σ' H s :=⟨I.ok,I.os,I.bare,I.base,let ⟨m,hn,Vq⟩:=I.loc;⟨m,hn,λi x v e1 e2 e3=>Vq i x v e1 (w i v e2) e3⟩,I.cell,I.free,I.ml,I.pin,I.cn,hl.trans I.len⟩
theorem Inv.LQ {SY:List (Addr×Obj)}(I:Inv X pins σ H s)(h:∀p∈SY,s.heap.get? p.1=some p.2/\H p.1=none/\p.1≠X.env.locals/\p.1∉X.fs/\∀v,p.2.data≠.cell v):Inv X SY σ H s :=⟨I.ok,I.os,I.bare,I.base,I.loc,I.cell,I.free,I.ml,λp hp=>(aY.mp hp).elim (λz=>I.pin p (List.mem_append_left _ z)) (h p),I.cn,I.len⟩
theorem B3 {N:List Str}(hN:N.Nodup){i j:Nat}{x:Str}(a:N[i]?=some x)(b:N[j]?=some x):i=j:=by obtain ⟨h1,e1⟩:=aH.mp a;obtain ⟨h2,e2⟩:=aH.mp b;exact (List.getElem_inj hN).mp (e1.trans e2.symm)
theorem O4 {M:Model}{A:Around}{E:Value->Shared->Prop}{i:Nat}{x:Str}{v:V}{u:Value}{Q:Unit->Shared->Prop}(I:Inv X pins σ H s)(hN:X.N.Nodup)(hi:X.N[i]?=some x)(hx:Loc X.env.scope x)(r:RelV v u)
  (h:∀s',Inv X pins (σ.set i (some v)) H s'->(∃a,Heap.SameBut a s.heap s'.heap/\(a=X.env.locals\/X.env.cells.lookup x=some a))->Q () s') (hf:X.fn x=true\/X.env.scope.names.lookup x=some .local:=by first | exact .inl rfl | exact .inr rfl | assumption):wpAny M A (storeName X.env x u) Q E s:=by
 obtain ⟨m,hn,hl⟩:=id I.loc;have ZO:(X.env.scope.kind == .class || (X.env.scope.kind == .module && X.env.locals != X.env.globals))=false:=by rw [I.ok.kind];rfl
 have hiσ:i<σ.length:=by rw [I.len];exact (aH.mp hi).1
 have Ih:=I.Ih;have tracked:∀{a:Addr}{h':Heap},(∃o,s.heap.get? a=some o/\H a=none)->Heap.SameBut a s.heap h'->dN X.prog X.w H h':=λ{a h'} ha hs b ob e=>by
  obtain ⟨_,_,Au⟩:=ha;refine (I.cn b ob e).yp (λc w' hc q=>(hs.2 c ?_).trans q) (λ_ q=>q) λ_ _ q=>q;rintro rfl;rcases hc with rfl | hc
  ·rw [Au] at e;cases e
  ·rw [Au] at hc;cases hc
 rcases hx with hk | hk
 ·refine wpAny_storeName_local hk hn (λh' S0 hs=>?_) ZO;obtain ⟨oL,_,_,hoL,_⟩:=id hn;refine h _ ⟨I.ok,I.os,I.bare,⟨λb o e n hb hx=>?_,λb o e n hb hx=>?_,I.base.free,λb o e hx=>?_,I.base.yq,I.base.vY,I.base.yr⟩,⟨_,S0,λj y v' e1 e2 e3=>?_⟩,λy c e=>?_,I.free,I.ml,λp hp=>?_,tracked ⟨oL,hoL,I.free⟩ hs,by simpa using I.len⟩ ⟨_,hs,.inl rfl⟩
  ·exact (hs.2 b (aU (bb (ax e) I.ok.above))).trans (I.base.keep b o e n hb hx)
  ·obtain ⟨sl,e1⟩:=I.base.slot b o e n hb hx;exact ⟨sl,(hs.2 b (aU (bb (ax e) I.ok.above))).trans e1⟩
  ·obtain ⟨o',e1⟩:=I.base.there b o e hx;exact ⟨o',(hs.2 b (aU (bb (ax e) I.ok.above))).trans e1⟩
  ·by_cases hj:j=i
   ·subst hj;rw [hi] at e1;cases e1;rw [List.getElem?_set_self hiσ] at e2;cases e2;exact ⟨u,r,.inl ⟨hk,by simp⟩⟩
   ·rw [List.getElem?_set_ne (Ne.symm hj)] at e2;obtain ⟨u',r',q⟩:=hl j y v' e1 e2 e3;refine ⟨u',r',?_⟩;rcases q with ⟨k,e⟩ | ⟨k,c,e,z⟩
    ·refine .inl ⟨k,?_⟩
     have:y≠x:=λe=>hj (B3 hN e1 (e▸hi))
     simp [this,e]
    ·exact .inr ⟨k,c,e,z.sameBut hs (Ih y c e)⟩
  ·obtain ⟨w',z⟩:=I.cell y c e;exact ⟨w',z.sameBut hs (Ih y c e)⟩
  ·obtain ⟨e,n,ne,nf,d⟩:=I.pin p hp;exact ⟨(hs.2 p.1 ne).trans e,n,ne,nf,d⟩
 ·have O5:X.fn x=true:=by
   rcases hf with z | z
   ·exact z
   ·rw [z] at hk;cases hk
  obtain ⟨c,hc⟩:=I.ok.has x (.inl hk);obtain ⟨w',z⟩:=I.cell x c hc;refine wpAny_storeName_cell I.ok.kind hk hc z (λh' Ys hs=>?_);obtain ⟨oc,Yt,ZP⟩:=id z;refine h {s with heap:=h'} ⟨I.ok,I.os,I.bare,⟨λb o e n hb hx=>?_,λb o e n hb hx=>?_,I.base.free,λb o e hx=>?_,I.base.yq,I.base.vY,I.base.yr⟩,⟨m,hn.sameBut hs (Ne.symm (Ih x c hc)),λj y v' e1 e2 e3=>?_⟩,λy c' e=>?_,I.free,I.ml,λp hp=>?_,tracked ⟨oc,Yt,I.ml x c hc⟩ hs,by simpa using I.len⟩ ⟨c,hs,.inr hc⟩
  ·exact (hs.2 b (aU (bb (ax e) (I.ok.O3 x c O5 hc)))).trans (I.base.keep b o e n hb hx)
  ·obtain ⟨sl,e1⟩:=I.base.slot b o e n hb hx;exact ⟨sl,(hs.2 b (aU (bb (ax e) (I.ok.O3 x c O5 hc)))).trans e1⟩
  ·obtain ⟨o',e1⟩:=I.base.there b o e hx;exact ⟨o',(hs.2 b (aU (bb (ax e) (I.ok.O3 x c O5 hc)))).trans e1⟩
  ·by_cases hj:j=i
   ·subst hj;rw [hi] at e1;cases e1;rw [List.getElem?_set_self hiσ] at e2;cases e2;exact ⟨u,r,.inr ⟨.inl hk,c,hc,Ys⟩⟩
   ·rw [List.getElem?_set_ne (Ne.symm hj)] at e2;obtain ⟨u',r',q⟩:=hl j y v' e1 e2 e3;refine ⟨u',r',?_⟩;rcases q with q | ⟨k,c',e,z'⟩
    ·exact .inl q
    ·refine .inr ⟨k,c',e,z'.sameBut hs ?_⟩;rintro rfl;exact hj (B3 hN e1 (I.ok.inj _ _ _ e hc▸hi))
  ·by_cases Yu:c'=c
   ·subst Yu;exact ⟨_,Ys⟩
   ·obtain ⟨w2,z2⟩:=I.cell y c' e;exact ⟨w2,z2.sameBut hs Yu⟩
  ·obtain ⟨e,n,ne,nf,d⟩:=I.pin p hp;refine ⟨(hs.2 p.1 ?_).trans e,n,ne,nf,d⟩;intro q;rw [q,Yt] at e;have q':oc=p.2:=ao e;exact d w' (by rw [<-q'];exact ZP)
theorem B4 {M:Model}{A:Around}{E:Value->Shared->Prop}{i:Nat}{x:Str}{v:V}{u:Value}{Q:Unit->Shared->Prop}(I:Inv X pins σ H s)(hN:X.N.Nodup)(hi:X.N[i]?=some x)(hx:Loc X.env.scope x)(r:RelV v u)
  (h:∀s',Inv X pins (σ.set i (some v)) H s'->Q () s') (hf:X.fn x=true\/X.env.scope.names.lookup x=some .local:=by first | exact .inl rfl | exact .inr rfl | assumption):wpAny M A (storeName X.env x u) Q E s :=
 O4 I hN hi hx r (λs' I' _=>h s' I') hf
theorem Inv.XO {s':Shared}{ch:List Addr}(I:Inv X pins σ H s)(ho:s'.os=s.os)(u:Un (yt X.stack) ch H H' s.heap s'.heap)(cn:dN X.prog X.w H' s'.heap)(hg:AllBare s'.gens)
  (vh:∀b∈ch,(b∈X.ex\/X.lT.heap.objs.size<=b)/\b≠X.env.locals/\(∀x c,X.env.cells.lookup x=some c->c≠b)/\∀p∈X.pn++pins,p.1≠b):Inv X pins σ H' s':=by
 obtain ⟨h',g',d',t',o'⟩:=s';have e:o'=s.os:=ho;subst e;exact I.call (g':=g') (t':=t') (d':=d') u cn hg vh
end
abbrev XK:=Value->Option Addr->Hp->Prop
abbrev St:=List (Option V)
abbrev VK:=V->Hp->Prop
abbrev TE:=St->Hp->VK->Prop
abbrev TT:=St->Hp->(Bool->Hp->Prop)->Prop
abbrev TA:=St->Hp->(List V->Hp->Prop)->Prop
structure Ends where
 nx:St->Hp->Prop
 rt:VK
 bk:St->Hp->Prop:=λ_ _=>False
 ct:St->Hp->Prop:=λ_ _=>False
abbrev TS:=Ends->St->Hp->Prop
def EP (X:Cx)(pins:List (Addr×Obj))(σ:St)(Q:VK)(u:Value)(s':Shared):Prop:=∃v H',Inv X pins σ H' s'/\RelV v u/\Q v H'
def TP (X:Cx)(pins:List (Addr×Obj))(σ:St)(Q:Bool->Hp->Prop)(b:Bool)(s':Shared):Prop:=∃H',Inv X pins σ H' s'/\Q b H'
def AP (X:Cx)(pins:List (Addr×Obj))(σ:St)(Q:List V->Hp->Prop)(us:List Value)(s':Shared):Prop:=∃vs H',Inv X pins σ H' s'/\Vals vs us/\Q vs H'
def SP (X:Cx)(pins:List (Addr×Obj))(D:Ends)(f:Flow)(s':Shared):Prop :=
 match f with
 | .next=>∃σ' H',Inv X pins σ' H' s'/\D.nx σ' H'
 | .brk=>∃σ' H',Inv X pins σ' H' s'/\D.bk σ' H'
 | .cont=>∃σ' H',Inv X pins σ' H' s'/\D.ct σ' H'
 | .ret u=>∃v σ' H',Inv X pins σ' H' s'/\RelV v u/\D.rt v H'
def PE (X:Cx)(e:Expr)(t:TE):Prop :=∀(pins:List (Addr×Obj))(s:Shared)(σ:St)(H:Hp)(Q:VK),Inv X pins σ H s->t σ H Q->wpAny (model X.prog X.w) X.A (eval e X.env) (EP X pins σ Q) X.xe s
def PT (X:Cx)(e:Expr)(t:TT):Prop :=∀(pins:List (Addr×Obj))(s:Shared)(σ:St)(H:Hp)(Q:Bool->Hp->Prop),Inv X pins σ H s->t σ H Q->wpAny (model X.prog X.w) X.A (isTrue e X.env (eval e X.env)) (TP X pins σ Q) X.xe s
def PW (X:Cx)(e:Expr)(t:TT):Prop :=∀(whole:Sem Value)(pins:List (Addr×Obj))(s:Shared)(σ:St)(H:Hp)(Q:Bool->Hp->Prop),Inv X pins σ H s->t σ H Q->wpAny (model X.prog X.w) X.A (isTrue e X.env whole) (TP X pins σ Q) X.xe s
theorem PW.pt {X:Cx}{e:Expr}{t:TT}(h:PW X e t):PT X e t:=h _
def PA (X:Cx)(es:List Expr)(t:TA):Prop :=∀(pos:Pos)(pins:List (Addr×Obj))(s:Shared)(σ:St)(H:Hp)(Q:List V->Hp->Prop),Inv X pins σ H s->t σ H Q->wpAny (model X.prog X.w) X.A (spliced (backTo pos (starEach es X.env))) (AP X pins σ Q) X.xe s
def PS (X:Cx)(st:Stmt)(t:TS):Prop :=∀(pins:List (Addr×Obj))(s:Shared)(σ:St)(H:Hp)(D:Ends),Inv X pins σ H s->t D σ H->wpAny (model X.prog X.w) X.A (exec st X.env) (SP X pins D) X.xe s
def p6 (X:Cx)(st:List Stmt)(t:TS):Prop :=∀(pins:List (Addr×Obj))(s:Shared)(σ:St)(H:Hp)(D:Ends),Inv X pins σ H s->t D σ H->wpAny (model X.prog X.w) X.A (execs st X.env) (SP X pins D) X.xe s
theorem cT {α:Type}{t:Sem α}{Q Q':α->Shared->Prop}{M:Model}{A:Around}{E:Value->Shared->Prop}{s:Shared}(h:wpAny M A t Q E s)(hQ:∀a s,Q a s->Q' a s):wpAny M A t Q' E s:=wpAny_mono h hQ λ_ _ x=>x
end L2
namespace L2
open PySem PySem.Spec PyProof.Rows
section
variable {X:Cx}
theorem bin {a b:Expr}{ta tb:TE}(ha:PE X a ta)(hb:PE X b tb){pins:List (Addr×Obj)}{s:Shared}{σ:St}{H:Hp}{R:V->V->Hp->Prop}(I:Inv X pins σ H s)(h:ta σ H λx H1=>tb σ H1 λy H2=>R x y H2)
  {α:Type} {Q:α->Shared->Prop} {f:Value->Value->Sem α}
  (hf:∀v u s2 x y H2,Inv X pins σ H2 s2->RelV x v->RelV y u->R x y H2->wpAny (model X.prog X.w) X.A (f v u) Q X.xe s2) :
  wpAny (model X.prog X.w) X.A (eval a X.env) (λv s₁=>wpAny (model X.prog X.w) X.A (eval b X.env) (λu s₂=>wpAny (model X.prog X.w) X.A (f v u) Q X.xe s₂) X.xe s₁) X.xe s:=by
 refine cT (ha pins s σ H _ I h) λv s1 ⟨x,H1,I1,r1,q1⟩=>?_;refine cT (hb pins s1 σ H1 _ I1 q1) λu s2 ⟨y,H2,I2,r2,q2⟩=>?_;exact hf v u s2 x y H2 I2 r1 r2 q2
inductive lB (i:Nat)(σ:St)(H:Hp)(Q:VK):Prop | mk v:σ[i]?=some (some v)->Q v H->lB i σ H Q
def tC (v:V):TE:=λ_ H Q=>Q v H
theorem Vr {i:Nat}{x:Str}{pos:Pos}(hN:X.N[i]?=some x)(hv:LO X.env.scope x)(hd:(x == ("__debug__":Str))=false:=by decide)(oO:(x == ("__classdict__":Str))=false:=by decide):PE X (.Name x pos) (lB i):=by
 intro pins s σ H Q I h;obtain ⟨v,e,h⟩:=h;obtain ⟨m,hn,hl⟩:=I.loc;obtain ⟨u,r,l⟩:=hl i x v hN e hv;have fin:EP X pins σ Q u s:=⟨v,H,I,r,h⟩
 rcases l with ⟨hk,hm⟩ | ⟨hk,c,hc,HI⟩
 ·exact wpAny_Name (wpAny_loadName_local I.ok.kind hk hn hm fin) hd
 ·rcases hk with hk | hk
  ·exact wpAny_Name (wpAny_loadName_cell I.ok.kind hk hc HI fin) hd
  ·exact wpAny_Name (wpAny_loadName_free I.ok.kind hk hc HI fin oO) hd
theorem b8 {i j pos}:PE X (.Constant (.int i) j pos) (tC (.int i)):=λ_ _ _ H _ I h=>wpAny_Constant_int ⟨.int i,H,I.tok _,⟨_,rfl⟩,h⟩
theorem qk {b j pos}:PE X (.Constant (.bool b) j pos) (tC (.bl b)):=λ_ _ _ H _ I h=>Constant_bool ⟨.bl b,H,I,rfl,h⟩
theorem cF {j pos}:PE X (.Constant .none j pos) (tC .cw):=λ_ _ _ H _ I h=>Constant_none ⟨.cw,H,I,rfl,h⟩
theorem c6 {x j pos}:PE X (.Constant (.str x) j pos) (tC (.str x)):=λ_ _ _ H _ I h=>Calls.Constant_str ⟨.str x,H,I.tok _,⟨_,rfl⟩,h⟩
def Gl (X:Cx)(x:Str):Prop:=X.env.kindOf x=some .globalImplicit
theorem vi {E:Value->Shared->Prop}{pins:List (Addr×Obj)}{s:Shared}{σ:St}{H:Hp}{x:Str}{u:Value}{pos:Pos}{Q:Value->Shared->Prop}(I:Inv X pins σ H s)(hg:Gl X x)(hm:X.mg x=some u)(h:Q u s)
  (hd:(x == ("__debug__":Str))=false:=by decide):wpAny (model X.prog X.w) X.A (eval (.Name x pos) X.env) Q E s :=
 Calls.Name_function_global I.ok.kind hg (Calls.loadGlobal_global (by rw [I.ok.glob];exact I.mod.glob.keeps I.bk) hm h) hd
theorem qO {E:Value->Shared->Prop}{pins:List (Addr×Obj)}{s:Shared}{σ:St}{H:Hp}{x:Str}{u:Value}{pos:Pos}{Q:Value->Shared->Prop}(I:Inv X pins σ H s)(hg:Gl X x)(hm:X.mg x=none)(hv:bootBuiltins x=some u)(h:Q u s)
  (hn:x≠"__name__":=by decide) (hd:(x == ("__debug__":Str))=false:=by decide):wpAny (model X.prog X.w) X.A (eval (.Name x pos) X.env) Q E s:=by
 obtain ⟨mb,h1,h2⟩:=I.mod.blt;exact Calls.Name_function_global I.ok.kind hg (Calls.loadGlobal_builtin (by rw [I.ok.glob];exact I.mod.glob.keeps I.bk) hm (by rw [I.ok.blt];exact h1.keeps I.bk) ((h2 x hn).trans hv) h) hd
theorem EZ {x:Str}{v:V}{u:Value}{pos:Pos}(hg:Gl X x)(hm:X.mg x=some u)(r:RelV v u)(hd:(x == ("__debug__":Str))=false:=by decide):PE X (.Name x pos) (tC v) :=λ_ _ _ H _ I h=>vi I hg hm ⟨v,H,I,r,h⟩ hd
variable {a b:Expr}{ta tb:TE}{pos:Pos}
def PC (X:Cx)(op:CmpOp)(a b:Expr)(t:TE):Prop :=
 ∀(pins:List (Addr×Obj))(s:Shared)(σ:St)(H:Hp)(Q:VK),Inv X pins σ H s->t σ H Q ->
  wpAny (model X.prog X.w) X.A (eval a X.env) (λv s₁=>wpAny (model X.prog X.w) X.A (eval b X.env) (λu s₂=>wpAny (model X.prog X.w) X.A (compareOp op v u) (EP X pins σ Q) X.xe s₂) X.xe s₁) X.xe s
inductive Yv (Q:Bool->Hp->Prop)(x:V)(H1:Hp):Prop | mk c:x=.bl c->Q c H1->Yv Q x H1
def tB (t:TE):TT:=λσ H Q=>t σ H λx H1=>Yv Q x H1
theorem C9 {op:CmpOp}{t:TE}(h:PC X op a b t)(h1:behindInMarks op b=false:=by first | exact ZQ _ (by decide) (by decide) | rfl):PT X (.Compare a [op] [b] pos) (tB t):=by intro pins s σ H Q I hw;refine wpAny_isTrue_Compare1 (cT (h pins s σ H _ I hw) λv s1 h1=>cT h1 λu s2 h2=>cT h2 λc s3 ⟨x,H1,I1,r1,q1⟩=>?_) h1;obtain ⟨d,rfl,q⟩:=q1;cases r1;exact wpAny_truthy_bool ⟨H1,I1,q⟩
theorem oP {e:Expr}{t:TE}(h:PE X e t)(he:∀whole,isTrue e X.env whole=(do let v <-whole;standAt e.pos;holding [v] (truthy v)):=by intro _;rfl):PT X e (tB t):=by intro pins s σ H Q I hw;refine isTrue_plain (cT (h pins s σ H _ I hw) λv s1 ⟨x,H1,I1,r1,q1⟩=>?_) (he _);obtain ⟨d,rfl,q⟩:=q1;cases r1;exact wpAny_truthy_bool ⟨H1,I1,q⟩
variable {tA tB':TT}{rest:List Expr}
def Vs (t u:TT):TT:=λσ H Q=>t σ H λc H1=>if c=true then u σ H1 Q else Q false H1
def tOr (t u:TT):TT:=λσ H Q=>t σ H λc H1=>if c=true then Q true H1 else u σ H1 Q
def ZR (t:TT):TT:=λσ H Q=>t σ H λc H1=>Q (!c) H1
theorem qD (ha:PT X a tA):PW X (.BoolOp .And [a] pos) tA:=by
 intro wh pins s σ H Q I h;refine isTrue_and (cT (ha pins s σ H Q I h) λc s1 e=>?_);cases c with
 | true=>exact isTrue_and_nil e
 | false=>exact e
theorem oQ (ha:PT X a tA):PW X (.BoolOp .Or [a] pos) tA:=by
 intro wh pins s σ H Q I h;refine isTrue_or (cT (ha pins s σ H Q I h) λc s1 e=>?_);cases c with
 | false=>exact isTrue_or_nil e
 | true=>exact e
theorem vj (ha:PT X a tA)(hb:PW X (.BoolOp .And (b::rest) pos) tB'):PW X (.BoolOp .And (a::b::rest) pos) (Vs tA tB'):=by
 intro wh pins s σ H Q I h;refine isTrue_and (cT (ha pins s σ H _ I h) λc s1 ⟨H1,I1,q1⟩=>?_);cases c with
 | true=>exact hb wh pins s1 σ H1 Q I1 q1
 | false=>exact ⟨H1,I1,q1⟩
theorem ot (ha:PT X a tA)(hb:PW X (.BoolOp .Or (b::rest) pos) tB'):PW X (.BoolOp .Or (a::b::rest) pos) (tOr tA tB'):=by
 intro wh pins s σ H Q I h;refine isTrue_or (cT (ha pins s σ H _ I h) λc s1 ⟨H1,I1,q1⟩=>?_);cases c with
 | true=>exact ⟨H1,I1,q1⟩
 | false=>exact hb wh pins s1 σ H1 Q I1 q1
theorem yu (ha:PT X a tA):PT X (.UnaryOp .Not a pos) (ZR tA):=by intro pins s σ H Q I h;exact isTrue_not (ha pins s σ H (λc H1=>Q (!c) H1) I h)
inductive S1 (tb:TE)(σ:St)(Q:VK)(x:V)(H1:Hp):Prop | mk c:x=.bl c->(if c=true then tb σ H1 Q else Q (.bl false) H1)->S1 tb σ Q x H1
def XQ (ta tb:TE):TE:=λσ H Q=>ta σ H λx H1=>S1 tb σ Q x H1
inductive Vt (tb:TE)(σ:St)(Q:VK)(x:V)(H1:Hp):Prop | mk c:x=.bl c->(if c=true then Q (.bl true) H1 else tb σ H1 Q)->Vt tb σ Q x H1
def ZS (ta tb:TE):TE:=λσ H Q=>ta σ H λx H1=>Vt tb σ Q x H1
inductive S2 (Q:VK)(x:V)(H1:Hp):Prop | mk c:x=.bl c->Q (.bl (!c)) H1->S2 Q x H1
def XR (ta:TE):TE:=λσ H Q=>ta σ H λx H1=>S2 Q x H1
theorem O6 {op}{t:TE}(h:PE X a t):PE X (.BoolOp op [a] pos) t:=λpins s σ H Q I hw=>BoolOp_one (h pins s σ H Q I hw)
theorem Vu (ha:PE X a ta)(hb:PE X (.BoolOp .And (b::rest) pos) tb):PE X (.BoolOp .And (a::b::rest) pos) (XQ ta tb):=by
 intro pins s σ H Q I h;refine BoolOp_and (cT (ha pins s σ H _ I h) λv s1 ⟨x,H1,I1,r1,q1⟩=>?_);obtain ⟨c,rfl,q1⟩:=q1;cases r1;refine wpAny_truthy_bool ?_;cases c with
 | true=>exact hb pins s1 σ H1 Q I1 q1
 | false=>exact ⟨.bl false,H1,I1,rfl,q1⟩
theorem XS (ha:PE X a ta)(hb:PE X (.BoolOp .Or (b::rest) pos) tb):PE X (.BoolOp .Or (a::b::rest) pos) (ZS ta tb):=by
 intro pins s σ H Q I h;refine BoolOp_or (cT (ha pins s σ H _ I h) λv s1 ⟨x,H1,I1,r1,q1⟩=>?_);obtain ⟨c,rfl,q1⟩:=q1;cases r1;refine wpAny_truthy_bool ?_;cases c with
 | false=>exact hb pins s1 σ H1 Q I1 q1
 | true=>exact ⟨.bl true,H1,I1,rfl,q1⟩
theorem Vv (ha:PE X a ta):PE X (.UnaryOp .Not a pos) (XR ta):=by intro pins s σ H Q I h;refine UnaryOp_ (cT (ha pins s σ H _ I h) λv s1 ⟨x,H1,I1,r1,q1⟩=>?_);obtain ⟨c,rfl,q1⟩:=q1;cases r1;exact not_of (wpAny_truthy_bool ⟨.bl (!c),H1,I1,rfl,q1⟩)
def tIf (t:TT)(ta tb:TE):TE:=λσ H Q=>t σ H λc H1=>if c=true then ta σ H1 Q else tb σ H1 Q
theorem B5 {c:Expr}(hc:PT X c tA)(ha:PE X a ta)(hb:PE X b tb):PE X (.IfExp c a b pos) (tIf tA ta tb):=by
 intro pins s σ H Q I h;refine wpAny_IfExp (cT (hc pins s σ H _ I h) λd s1 ⟨H1,I1,q1⟩=>?_);cases d with
 | true=>exact ha pins s1 σ H1 Q I1 q1
 | false=>exact hb pins s1 σ H1 Q I1 q1
end
end L2
namespace L2
open PySem PySem.Spec PyProof.Rows
def bY (K:PySem.W.Frag)(H:Hp)(a:Addr)(xs:List V):Prop :=
 Rd H a (.lst xs) \/
  ∃(o:Obj)(bZ:Array Value)(n:Nat),K.lookup a=some o/\o.cls=.type "list"/\o.dict=none/\o.data=.seq bZ n/\bZ.size<=sizeLine/\Vals xs bZ.toList
def cA (K:PySem.W.Frag)(H:Hp)(a:Addr)(xs:List V):Prop :=
 Rd H a (.tup xs) \/
  ∃(o:Obj)(bZ:Array Value)(n:Nat),K.lookup a=some o/\o.cls=.type "tuple"/\o.data=.seq bZ n/\bZ.size<=sizeLine/\Vals xs bZ.toList
def ZT:Value->Option V
 | .none=>some .cw
 | .bool b=>some (.bl b)
 | .int i _=>some (.int i)
 | .str x _=>some (.str x)
 | .bytes b _=>some (.pZ b)
 | .float b _=>some (.SV b)
 | .ref a=>some (.ref a)
 | .type n=>some (.ty n)
 | _=>none
theorem RelV.abs {x:V}{u:Value}(r:RelV x u):ZT u=some x:=by
 cases x with
 | cw=>cases r;rfl
 | bl _=>cases r;rfl
 | int _=>obtain ⟨t,rfl⟩:=r;rfl
 | str _=>obtain ⟨t,rfl⟩:=r;rfl
 | pZ _=>obtain ⟨t,rfl⟩:=r;rfl
 | SV _=>obtain ⟨t,rfl⟩:=r;rfl
 | ref _=>cases r;rfl
 | ty _=>cases r;rfl
theorem RelV.inj {x y:V}{u:Value}(r:RelV x u)(q:RelV y u):x=y:=ao (r.abs.symm.trans q.abs)
theorem Vals.inj:∀{xs ys:List V}{us:List Value},Vals xs us->Vals ys us->xs=ys
 | _,_,_,.nil,.nil=>rfl
 | _,_,_,.cons r t,.cons r' t'=>by rw [r.inj r',Vals.inj t t']
section
variable {X:Cx}{pins:List (Addr×Obj)}{σ:St}{H:Hp}{s:Shared}{a:Addr}{xs ys:List V}
theorem bY.of {K:PySem.W.Frag}(h:H a=some (.lst xs)):bY K H a xs:=.inl (.inl h)
theorem cA.of {K:PySem.W.Frag}(h:H a=some (.tup xs)):cA K H a xs:=.inl (.inl h)
theorem Inv.list (I:Inv X pins σ H s)(h:bY X.K H a xs):∃bZ:List Value,Vals xs bZ/\PlainL s.heap a bZ.toArray/\xs.length<=sizeLine:=by
 rcases h with h | ⟨o,bZ,n,hk,hc,hd,hs,hz,r⟩
 ·obtain ⟨z,bZ,n,r,e⟩:=h.ok I.cn;exact ⟨bZ,r,⟨_,n,e,rfl,rfl,rfl⟩,z⟩
 ·refine ⟨bZ.toList,r,⟨o,n,I.mX a o hk,hc,hd,by simpa using hs⟩,?_⟩;have e:=r.length;simp only [Array.length_toList] at e;omega
theorem Inv.tuple (I:Inv X pins σ H s)(h:cA X.K H a xs):∃bZ:List Value,Vals xs bZ/\IsTup s.heap a bZ.toArray/\xs.length<=sizeLine:=by
 rcases h with h | ⟨o,bZ,n,hk,hc,hs,hz,r⟩
 ·obtain ⟨z,bZ,r,p⟩:=h.ok I.cn;exact ⟨bZ,r,p,z⟩
 ·refine ⟨bZ.toList,r,⟨o,I.mX a o hk,hc,n,by simpa using hs⟩,?_⟩;have e:=r.length;simp only [Array.length_toList] at e;omega
theorem Inv.qP (I:Inv X pins σ H s)(h:bY X.K H a xs)(h':bY X.K H a ys):xs=ys:=by
 obtain ⟨bZ,r,⟨o,n,e,_,_,d⟩,_⟩:=I.list h;obtain ⟨its',r',⟨o',n',e',_,_,d'⟩,_⟩:=I.list h';rw [e] at e';cases e';rw [d] at d';injection d' with d1 _
 have:bZ=its':=by simpa using congrArg Array.toList d1
 subst this;exact r.inj r'
theorem Inv.F0 (I:Inv X pins σ H s)(h:cA X.K H a xs)(h':cA X.K H a ys):xs=ys:=by
 obtain ⟨bZ,r,⟨o,e,_,n,d⟩,_⟩:=I.tuple h;obtain ⟨its',r',⟨o',e',_,n',d'⟩,_⟩:=I.tuple h';rw [e] at e';cases e';rw [d] at d';injection d' with d1 _
 have:bZ=its':=by simpa using congrArg Array.toList d1
 subst this;exact r.inj r'
end
abbrev Cx.uu (X:Cx)(E:Value->Shared->Prop):Cx:={X with xe:=E}
abbrev Cx.Ij (X:Cx):Cx:=X.uu λ_ _=>False
theorem Cx.Ok.uu {X:Cx}(ok:X.Ok)(E:Value->Shared->Prop):(X.uu E).Ok :=⟨ok.mod,ok.kind,ok.glob,ok.blt,ok.above,ok.inj,ok.has,ok.O3,ok.hd,ok.frames,ok.jB,ok.SX,ok.bs,ok.Bb,ok.Ic,ok.Ie,ok.pw,ok.Ig⟩
theorem Cx.Ok.oR {X:Cx}{E:Value->Shared->Prop}(ok:(X.uu E).Ok):X.Ok :=⟨ok.mod,ok.kind,ok.glob,ok.blt,ok.above,ok.inj,ok.has,ok.O3,ok.hd,ok.frames,ok.jB,ok.SX,ok.bs,ok.Bb,ok.Ic,ok.Ie,ok.pw,ok.Ig⟩
section
variable {X:Cx}{pins:List (Addr×Obj)}{σ:St}{H:Hp}{s:Shared}{E:Value->Shared->Prop}
theorem Inv.uu (I:Inv X pins σ H s)(E:Value->Shared->Prop):Inv (X.uu E) pins σ H s:=⟨I.ok.uu E,I.os,I.bare,I.base,I.loc,I.cell,I.free,I.ml,I.pin,I.cn,I.len⟩
theorem Inv.oR (I:Inv (X.uu E) pins σ H s):Inv X pins σ H s:=⟨I.ok.oR,I.os,I.bare,I.base,I.loc,I.cell,I.free,I.ml,I.pin,I.cn,I.len⟩
theorem SP.oR {D:Ends}{f:Flow}{s':Shared}(h:SP (X.uu E) pins D f s'):SP X pins D f s':=by
 cases f with
 | next=>obtain ⟨σ',H',I,q⟩:=h;exact ⟨σ',H',I.oR,q⟩
 | brk=>obtain ⟨σ',H',I,q⟩:=h;exact ⟨σ',H',I.oR,q⟩
 | cont=>obtain ⟨σ',H',I,q⟩:=h;exact ⟨σ',H',I.oR,q⟩
 | ret u=>obtain ⟨v,σ',H',I,r,q⟩:=h;exact ⟨v,σ',H',I.oR,r,q⟩
theorem p6.Ij {st:List Stmt}{t:TS}(h:p6 X.Ij st t):p6 X st t:=λpins s σ H D I hw =>wpAny_mono (h pins s σ H D (I.uu _) hw) (λ_ _ q=>q.oR) λ_ _ z=>False.elim z
end
section
variable {X:Cx}{st:Stmt}{rest:List Stmt}{t u:TS}{e:Expr}{te:TE}{pos:Pos}
def S3:TS:=λD σ H=>D.nx σ H
def Nb (t u:TS):TS:=λD σ H=>t {D with nx:=u D} σ H
theorem b5:p6 X [] S3:=λ_ _ σ H _ I h=>wpAny_execs_nil ⟨σ,H,I,h⟩
theorem bP (h1:PS X st t)(h2:p6 X rest u):p6 X (st::rest) (Nb t u):=by
 intro pins s σ H D I h;refine wpAny_execs_cons (cT (h1 pins s σ H {D with nx:=u D} I h) λf s1 q=>?_);cases f with
 | next =>obtain ⟨σ',H',I',q⟩:=q;exact h2 pins s1 σ' H' D I' q
 | ret v=>exact q
 | brk=>exact q
 | cont=>exact q
theorem bQ (h1:PS X st t):p6 X [st] t:=by
 intro pins s σ H D I h;refine wpAny_execs_cons (cT (h1 pins s σ H D I h) λf s1 q=>?_);cases f with
 | next=>exact wpAny_execs_nil q
 | ret v=>exact q
 | brk=>exact q
 | cont=>exact q
theorem Inv.quiet {pins:List (Addr×Obj)}{σ:St}{H:Hp}{s:Shared}(I:Inv X pins σ H s):interactive X.env=false:=by simp [interactive,I.ok.kind]
def S4 (te:TE):TS:=λD σ H=>te σ H λ_ H1=>D.nx σ H1
theorem dy (he:PE X e te)(hs:swapsWith e none pos.line X.env=pure false:=by rfl):PS X (.Expr e pos) (S4 te):=by intro pins s σ H D I h;exact wpAny_Expr_any (cT (he pins s σ H _ I h) λv s1 ⟨x,H1,I1,r1,q1⟩=>⟨σ,H1,I1,q1⟩) I.quiet hs
def Nc (te:TE):TS:=λD σ H=>te σ H D.rt
theorem bU (he:PE X e te):PS X (.Return (some e) pos) (Nc te):=by intro pins s σ H D I h;exact wpAny_Return_some (cT (he pins s σ H _ I h) λv s1 ⟨x,H1,I1,r1,q1⟩=>⟨x,σ,H1,I1,r1,q1⟩)
def Vw (c:TT)(t u:TS):TS:=λD σ H=>c σ H λb H1=>if b=true then t D σ H1 else u D σ H1
theorem cg {c:Expr}{a b:List Stmt}{tc:TT}(hc:PT X c tc)(ha:p6 X a t)(hb:p6 X b u):PS X (.If c a b pos) (Vw tc t u):=by
 intro pins s σ H D I h;refine wpAny_If (cT (hc pins s σ H _ I h) λd s1 ⟨H1,I1,q1⟩=>?_);cases d with
 | true=>exact ha pins s1 σ H1 D I1 q1
 | false=>exact hb pins s1 σ H1 D I1 q1
end
abbrev TG:=V->St->Hp->(St->Hp->Prop)->Prop
abbrev O7:=List V->St->Hp->(St->Hp->Prop)->Prop
def PG (X:Cx)(target:Expr)(t:TG):Prop :=
 ∀(pins:List (Addr×Obj))(s:Shared)(σ:St)(H:Hp)(v:V)(u:Value)(Q:St->Hp->Prop),Inv X pins σ H s->RelV v u->t v σ H Q ->
  wpAny (model X.prog X.w) X.A (assign target X.env u) (λ_ s'=>∃σ' H',Inv X pins σ' H' s'/\Q σ' H') X.xe s
def S5 (X:Cx)(ts:List Expr)(t:O7):Prop :=
 ∀(pins:List (Addr×Obj))(s:Shared)(σ:St)(H:Hp)(vs:List V)(us:List Value)(Q:St->Hp->Prop),Inv X pins σ H s->Vals vs us->t vs σ H Q ->
  wpAny (model X.prog X.w) X.A (assignInOrder ((assignEach ts X.env).map (·.2)) us) (λ_ s'=>∃σ' H',Inv X pins σ' H' s'/\Q σ' H') X.xe s
abbrev Vx:=V->V->Hp->VK->Prop
def Yw (X:Cx)(op:Operator)(t:Vx):Prop :=
 ∀(pins:List (Addr×Obj))(s:Shared)(σ:St)(H:Hp)(x y:V)(v u:Value)(Q:VK),Inv X pins σ H s->RelV x v->RelV y u->t x y H Q ->
  wpAny (model X.prog X.w) X.A (inplaceOp op v u) (EP X pins σ Q) X.xe s
section
variable {X:Cx}{pos:Pos}
def Dc (i:Nat):TG:=λv σ H Q=>Q (σ.set i (some v)) H
theorem Uq {i:Nat}{x:Str}(hN:X.N.Nodup)(hi:X.N[i]?=some x)(hx:Loc X.env.scope x)(hf:X.fn x=true\/X.env.scope.names.lookup x=some .local:=by first | exact .inl rfl | exact .inr rfl | assumption):PG X (.Name x pos) (Dc i):=by intro pins s σ H v u Q I r h;exact wpAny_assign_Name (B4 I hN hi hx r (λs' I'=>⟨_,H,I',h⟩) hf)
inductive Vy (vs:List V)(σ:St)(H:Hp)(Q:St->Hp->Prop):Prop | mk:vs=[]->Q σ H->Vy vs σ H Q
inductive S6 (t:TG)(u:O7)(vs:List V)(σ:St)(H:Hp)(Q:St->Hp->Prop):Prop | mk v r:vs=v::r->(t v σ H λσ' H'=>u r σ' H' Q)->S6 t u vs σ H Q
theorem ik:S5 X [] Vy:=by intro pins s σ H vs us Q I r h;obtain ⟨e,h⟩:=h;subst e;cases r;exact assignInOrder_nil ⟨σ,H,I,h⟩
theorem di {e:Expr}{es:List Expr}{t:TG}{u:O7}(h1:PG X e t)(h2:S5 X es u)
  (hs:(assignEach (e::es) X.env).map (·.2)=assign e X.env::(assignEach es X.env).map (·.2):=by rfl):S5 X (e::es) (S6 t u):=by
 intro pins s σ H vs us Q I r h;obtain ⟨v,vr,e1,h⟩:=h;subst e1;cases r with
 | cons r rr =>rw [hs];refine assignInOrder_cons (cT (h1 pins s σ H _ _ _ I r h) λ_ s1 ⟨σ1,H1,I1,q1⟩=>?_);exact h2 pins s1 σ1 H1 _ _ Q I1 rr q1
inductive Vz (K:PySem.W.Frag)(n:Nat)(t:O7)(v:V)(σ:St)(H:Hp)(Q:St->Hp->Prop):Prop | mk a xs:v=.ref a->cA K H a xs->xs.length=n->t xs σ H Q->Vz K n t v σ H Q
theorem jC {es:List Expr}{k:Nat}{t:O7}{n:Nat}(hc:X.calm=true)(h:S5 X es t)
  (hn:(assignEach es X.env).length=n:=by rfl) (qQ:(assignEach es X.env).findIdx? (·.1)=none:=by rfl):PG X (.Tuple es k pos) (Vz X.K n t):=by
 intro pins s σ H v u Q I r hw;obtain ⟨a,xs,e1,hq,hl,hw⟩:=hw;subst e1;cases r;obtain ⟨bZ,rv,ht,hz⟩:=I.tuple hq;refine assign_Tuple_tuple (I.ok.hd hc) ht (by simp [hn,<-hl,rv.length]) qQ λh' hx=>?_;have I1:Inv X pins σ H {s with heap:=h'}:=I.kept (t':=s.toks) λb o e=>hx b o (aU (ax e)) e;exact h pins _ σ H xs _ Q I1 (by simpa using rv) hw
def Rl (te:TE)(g:TG):TS:=λD σ H=>te σ H λx H1=>g x σ H1 D.nx
theorem VA {i:Nat}{x:Str}{e:Expr}{te:TE}{pos':Pos}(hN:X.N.Nodup)(hi:X.N[i]?=some x)(hx:Loc X.env.scope x)(he:PE X e te)(hs:swapsWith e (some (.Name x pos')) pos.line X.env=pure false:=by rfl)(hf:X.fn x=true\/X.env.scope.names.lookup x=some .local:=by first | exact .inl rfl | exact .inr rfl | assumption) :
  PS X (.Assign [.Name x pos'] e pos) (Rl te (Dc i)):=by
 intro pins s σ H D I h;refine wpAny_Assign_Name (cT (he pins s σ H _ I h) λv s1 ⟨y,H1,I1,r1,q1⟩=>?_) hs;exact B4 I1 hN hi hx r1 (λs2 I2=>⟨_,H1,I2,q1⟩) hf
inductive VB (i:Nat)(te:TE)(ti:Vx)(D:Ends)(σ:St)(H:Hp):Prop | mk x:σ[i]?=some (some x)->(te σ H λy H1=>ti x y H1 λz H2=>D.nx (σ.set i (some z)) H2)->VB i te ti D σ H
theorem Ik {i:Nat}{x:Str}{e:Expr}{te:TE}{op:Operator}{ti:Vx}{pos':Pos}(hN:X.N.Nodup)(hi:X.N[i]?=some x)(hx:Loc X.env.scope x)(he:PE X e te)(ho:Yw X op ti)(hf:X.fn x=true\/X.env.scope.names.lookup x=some .local:=by first | exact .inl rfl | exact .inr rfl | assumption) :
  PS X (.AugAssign (.Name x pos') op e pos) (VB i te ti):=by
 intro pins s σ H D I h;obtain ⟨v,e1,h⟩:=h;obtain ⟨m,hn,hl⟩:=I.loc;have vis:LO X.env.scope x:=by rcases hx with k | k;exact .inl k;exact .inr (.inl k)
 obtain ⟨u,r,l⟩:=hl i x v hi e1 vis;refine wpAny_AugAssign_Name ?_;have go:wpAny (model X.prog X.w) X.A (eval e X.env) (λw s₂=>wpAny (model X.prog X.w) X.A (inplaceOp op u w) (λr s₃=>wpAny (model X.prog X.w) X.A (storeName X.env x r) (λ_=>SP X pins D .next) X.xe s₃) X.xe s₂) X.xe s:=by refine cT (he pins s σ H _ I h) λw s1 ⟨y,H1,I1,r1,q1⟩=>?_;refine cT (ho pins s1 σ H1 v y u w _ I1 r r1 q1) λz s2 ⟨zv,H2,I2,r2,q2⟩=>?_;exact B4 I2 hN hi hx r2 (λs3 I3=>⟨_,H2,I3,q2⟩) hf
 rcases l with ⟨hk,hm⟩ | ⟨hk,c,hc,HI⟩
 ·exact wpAny_loadName_local I.ok.kind hk hn hm go
 ·rcases hk with hk | hk
  ·exact wpAny_loadName_cell I.ok.kind hk hc HI go
  ·rcases hx with k | k
   ·have:X.env.scope.names.lookup x=some .free:=hk
    rw [k] at this;cases this
   ·have:X.env.scope.names.lookup x=some .free:=hk
    rw [k] at this;cases this
inductive Yx (f:Int->Int->Int)(x y:V)(H:Hp)(Q:VK):Prop | mk i j:x=.int i->y=.int j->Q (.int (f i j)) H->Yx f x y H Q
theorem Il:Yw X .Add (Yx λi j=>i+j):=by intro pins s σ H x y v u Q I r1 r2 h;obtain ⟨i,j,e1,e2,q⟩:=h;subst e1;subst e2;obtain ⟨t,rfl⟩:=r1;obtain ⟨t',rfl⟩:=r2;exact iadd_int ⟨.int _,H,I.tok _,⟨_,rfl⟩,q⟩
end
section
variable {X:Cx}{pos:Pos}
def VC (c:TT)(tb:TS):TS:=λD σ H=>∃W:Nat->St->Hp->Prop,(∃m,W m σ H)/\∀m σ H,W m σ H ->
 c σ H λb H1=>if b=true then ∃N:St->Hp->Prop,(∀σ' H',N σ' H'->∃m',m'<m/\W m' σ' H')/\tb {D with nx:=N,ct:=N,bk:=D.nx} σ H1 else D.nx σ H1
theorem wb {c:Expr}{body:List Stmt}{tc:TT}{tb:TS}(hp:PassesOwn (model X.prog X.w) X.A X.env X.xe)(hc:PT X c tc)(hb:p6 X body tb):PS X (.While c body [] pos) (VC tc tb):=by
 intro pins s σ H D I h;obtain ⟨W,⟨m0,w0⟩,turn⟩:=h;refine wpAny_While (codeAny_whileLoop (λn s'=>∃σ' H',Inv X pins σ' H' s'/\W n σ' H') ?_ m0 ⟨σ,H,I,w0⟩);rintro n s1 ⟨σ1,H1,I1,w1⟩;refine wpAny_passesOwn hp (cT (hc pins s1 σ1 H1 _ I1 (turn n σ1 H1 w1)) λb s2 ⟨H2,I2,q2⟩=>?_);cases b with
 | true =>
  obtain ⟨N,hN,q2⟩:=q2;rw [ab rfl];refine wpAny_passesOwn hp (cT (hb pins s2 σ1 H2 _ I2 q2) λf s3 q3=>?_);cases f with
  | next =>obtain ⟨σ3,H3,I3,n3⟩:=q3;obtain ⟨m',hm,w3⟩:=hN σ3 H3 n3;exact ⟨m',hm,σ3,H3,I3,w3⟩
  | cont =>obtain ⟨σ3,H3,I3,n3⟩:=q3;obtain ⟨m',hm,w3⟩:=hN σ3 H3 n3;exact ⟨m',hm,σ3,H3,I3,w3⟩
  | brk=>exact q3
  | ret v=>exact q3
 | false =>rw [aa aL];exact wpAny_execs_nil ⟨σ1,H2,I2,q2⟩
end
structure It where
 go:Nat->Hp->Prop
 lU:Nat->Hp->V->Hp->Prop
 stop:Nat->Hp->Prop
def px (X:Cx)(pins:List (Addr×Obj))(H:Hp)(b:Addr):Prop :=H b=none/\b≠X.env.locals/\b∉X.fs/\(b∈X.ex\/X.lT.heap.objs.size<=b)/\(∀x c,X.env.cells.lookup x=some c->c≠b)/\∀p∈X.pn++pins,p.1≠b
theorem Inv.yw {X:Cx}{pins:List (Addr×Obj)}{σ:St}{H H':Hp}{s:Shared}{b:Addr}(I:Inv X pins σ H s)(hb:s.heap.objs.size<=b)(hn:H' b=none):px X pins H' b:=by
 refine ⟨hn,Nat.ne_of_gt (bb I.lt hb),I.ZN hb,.inr (aN I.sz hb),λx c e z=>?_,λp hp z=>?_⟩
 ·obtain ⟨v,q⟩:=I.cell x c e;exact ai (bb q.lt (by rw [z];exact hb)) (Nat.lt_irrefl _)
 ·exact ai (bb (ax (I.pin p hp).1) (by rw [z];exact hb)) (Nat.lt_irrefl _)
structure Turn (P:Program)(w:World)(K:PySem.W.Frag)(tg:Expr)(J:It)(fp:List Addr)(it:Addr)(tn:Nat->Heap->Prop):Prop where
 mem:it∈fp
 obj:∀i h,tn i h->∀b∈fp,∃o,h.get? b=some o/\∀v,o.data≠.cell v
 keep:∀i h h',tn i h->(∀b∈fp,∀o,h.get? b=some o->h'.get? b=some o)->tn i h'
 item:∀(X:Cx),X.prog=P->X.w=w->X.K=K->X.calm=true->∀(i:Nat)(pins:List (Addr×Obj))(s:Shared)(σ:St)(H:Hp)(E:Value->Shared->Prop),Inv X pins σ H s->(∀b∈fp,px X pins H b)->tn i s.heap->J.go i H ->
  wpAny (model P w) X.A (pyNext (.ref it)) (λr s1=>∃u,r=some u /\
   wpAny (model P w) X.A (letOwnedTupleGo tg (.ref it) u) (λ_ s2=>∃x H',Inv X pins σ H' s2/\RelV x u/\J.lU i H x H'/\tn (i+1) s2.heap/\∀b∈fp,H' b=none) E s1) E s
 done:∀(X:Cx),X.prog=P->X.w=w->X.K=K->X.calm=true->∀(i:Nat)(pins:List (Addr×Obj))(s:Shared)(σ:St)(H:Hp)(E:Value->Shared->Prop),Inv X pins σ H s->(∀b∈fp,px X pins H b)->tn i s.heap->J.stop i H ->
  wpAny (model P w) X.A (pyNext (.ref it)) (λr s1=>r=none/\Inv X pins σ H s1) E s
 self:∀(A:Around)(i:Nat)(s:Shared)(Q:Value->Shared->Prop)(E:Value->Shared->Prop),tn i s.heap->Q (.ref it) s->wpAny (model P w) A (pyIter (.ref it)) Q E s
abbrev TI:=St->Hp->(It->Hp->Prop)->Prop
def S7 (X:Cx)(pins:List (Addr×Obj))(σ:St)(tg:Expr)(R:It->Hp->Prop)(itv:Value)(s2:Shared):Prop :=∃(it:Addr)(fp:List Addr)(tn:Nat->Heap->Prop)(J:It)(H':Hp),itv=.ref it/\Inv X pins σ H' s2/\Turn X.prog X.w X.K tg J fp it tn/\tn 0 s2.heap/\(∀b∈fp,px X pins H' b)/\R J H'
def PI (X:Cx)(tg iter:Expr)(wi:TI):Prop :=
 ∀(pins:List (Addr×Obj))(s:Shared)(σ:St)(H:Hp)(R:It->Hp->Prop),Inv X pins σ H s->wi σ H R ->
  wpAny (model X.prog X.w) X.A (eval iter X.env) (λv s1=>wpAny (model X.prog X.w) X.A (pyIter v) (S7 X pins σ tg R) X.xe s1) X.xe s
theorem Av {M:Model}{A:Around}{E:Value->Shared->Prop}{s:Shared}{tg:Expr}{it:Addr}{u:Value}{o:Obj}{n:String}{vs:Array Value}{Q:Unit->Shared->Prop}(ho:s.heap.get? it=some o)(hc:o.cls=.type n)(hd:o.data=.fields vs)
  (hn:["enumerate","zip","dict_itemiterator","dict_reverseitemiterator","odict_iterator","itertools.zip_longest","itertools.pairwise"].contains n=false) (hQ:Q () s):wpAny M A (letOwnedTupleGo tg (.ref it) u) Q E s:=by
 unfold letOwnedTupleGo;cases tg <;> first
  | exact ah hQ
  | (cases u <;> first
    | exact ah hQ
    | (refine ae (wpAny_load ho ?_);rw [hc,hd];show wpAny M A (if (["enumerate","zip","dict_itemiterator","dict_reverseitemiterator","odict_iterator","itertools.zip_longest","itertools.pairwise"].contains n && vs[0]? == some (rawInt _))=true then _ else _) Q E s;rw [aa (by intro h;rw [hn,Bool.false_and] at h;cases h)];exact ah hQ))
def F1 (K:PySem.W.Frag)(a:Addr):It :=⟨λi H=>∃xs x,bY K H a xs/\xs[i]?=some x,λi H x H'=>H'=H/\∀xs,bY K H a xs->xs[i]?=some x,λi H=>∃xs,bY K H a xs/\xs.length<=i⟩
def O8 (K:PySem.W.Frag)(a:Addr):It :=⟨λi H=>∃xs x,cA K H a xs/\xs[i]?=some x,λi H x H'=>H'=H/\∀xs,cA K H a xs->xs[i]?=some x,λi H=>∃xs,cA K H a xs/\xs.length<=i⟩
def Dd (lo:Int)(n:Nat):It:=⟨λi _=>i<n,λi H x H'=>H'=H/\x=.int (lo+i),λi _=>n<=i⟩
theorem O9 {P:Program}{w:World}{K:PySem.W.Frag}{tg:Expr}(a it:Addr):Turn P w K tg (F1 K a) [it] it (λi h=>h.IsListIter it a i) where
 mem:=by simp
 obj:=λi h st b hb=>by
  have e:b=it:=by simpa using hb
  subst e;obtain ⟨o,e,c,d⟩:=st;exact ⟨o,e,λv z=>by rw [d] at z;cases z⟩
 keep:=λi h h' st k=>st.at λo e=>k it (by simp) o e
 item:=by
  intro X hP hw hK hc i pins s σ H E I hf st hg;subst hP hw hK;obtain ⟨xs,x,hq,hx⟩:=hg;obtain ⟨bZ,rv,p,hz⟩:=I.list hq;obtain ⟨u,hu,ru⟩:=rv.get hx;obtain ⟨f0,f1,f2,f3,f4,f5⟩:=hf it (by simp);refine wpAny_pyNext_list_item st p.isList (x:=u) (by simpa using hu) λh' st' sb=>?_;have I1:Inv X pins σ H {s with heap:=h'}:=I.turned (t':=s.toks) (λb o hb e=>(sb.2 b hb).trans e) f0 f1 f3 f4 f5;obtain ⟨o,e,c,d⟩:=id st';exact ⟨u,rfl,Av (s:={s with heap:=h'}) e c d (by decide) ⟨x,H,I1,ru,⟨rfl,λys hy=>by rw [I.qP hy hq];exact hx⟩,st',λb hb=>(hf b hb).1⟩⟩
 done:=by
  intro X hP hw hK hc i pins s σ H E I hf st hg;subst hP hw hK;obtain ⟨xs,hq,hx⟩:=hg;obtain ⟨bZ,rv,p,hz⟩:=I.list hq;obtain ⟨f0,f1,f2,f3,f4,f5⟩:=hf it (by simp);have hl:=rv.length;exact wpAny_pyNext_list_end (I.ok.hd hc) st p.isList (by simp;omega) λh' eb=>⟨rfl,I.turned (t':=s.toks) (λb o hb e=>eb b o hb e) f0 f1 f3 f4 f5⟩
 self:=λ_ _ _ _ _ st h=>wpAny_pyIter_listiter st h
theorem Nd {P:Program}{w:World}{K:PySem.W.Frag}{tg:Expr}(a it:Addr):Turn P w K tg (O8 K a) [it] it (λi h=>h.IsTupleIter it a i) where
 mem:=by simp
 obj:=λi h st b hb=>by
  have e:b=it:=by simpa using hb
  subst e;obtain ⟨o,e,c,d⟩:=st;exact ⟨o,e,λv z=>by rw [d] at z;cases z⟩
 keep:=λi h h' st k=>st.at λo e=>k it (by simp) o e
 item:=by
  intro X hP hw hK hc i pins s σ H E I hf st hg;subst hP hw hK;obtain ⟨xs,x,hq,hx⟩:=hg;obtain ⟨bZ,rv,p,hz⟩:=I.tuple hq;obtain ⟨u,hu,ru⟩:=rv.get hx;obtain ⟨f0,f1,f2,f3,f4,f5⟩:=hf it (by simp);refine wpAny_pyNext_tuple_item st (show s.heap.IsTuple a bZ.toArray from p) (x:=u) (by simpa using hu) λh' st' sb=>?_;have I1:Inv X pins σ H {s with heap:=h'}:=I.turned (t':=s.toks) (λb o hb e=>(sb.2 b hb).trans e) f0 f1 f3 f4 f5;obtain ⟨o,e,c,d⟩:=id st';exact ⟨u,rfl,Av (s:={s with heap:=h'}) e c d (by decide) ⟨x,H,I1,ru,⟨rfl,λys hy=>by rw [I.F0 hy hq];exact hx⟩,st',λb hb=>(hf b hb).1⟩⟩
 done:=by
  intro X hP hw hK hc i pins s σ H E I hf st hg;subst hP hw hK;obtain ⟨xs,hq,hx⟩:=hg;obtain ⟨bZ,rv,p,hz⟩:=I.tuple hq;obtain ⟨f0,f1,f2,f3,f4,f5⟩:=hf it (by simp);have hl:=rv.length;exact wpAny_pyNext_tuple_end (I.ok.hd hc) st (show s.heap.IsTuple a bZ.toArray from p) (by simp;omega) λh' eb=>⟨rfl,I.turned (t':=s.toks) (λb o hb e=>eb b o hb e) f0 f1 f3 f4 f5⟩
 self:=λ_ _ _ _ _ st h=>wpAny_pyIter_tupleiter st h
theorem Nf {P:Program}{w:World}{K:PySem.W.Frag}{tg:Expr}(it:Addr)(lo:Int)(n:Nat):Turn P w K tg (Dd lo n) [it] it (λi h=>IsRangeIter h it (lo+(i:Nat)*1) ((n:Int) - (i:Nat)) 1) where
 mem:=by simp
 obj:=λi h st b hb=>by
  have e:b=it:=by simpa using hb
  subst e;exact ⟨_,st,λv z=>by have z':Data.fields _=Data.cell v:=z;cases z'⟩
 keep:=λi h h' st k=>k it (by simp) _ st
 item:=by
  intro X hP hw hK hc i pins s σ H E I hf st hg;subst hP hw hK;obtain ⟨f0,f1,f2,f3,f4,f5⟩:=hf it (by simp);have W:=Walks.range (prog:=X.prog) (w:=X.w) (I.ok.hd hc) it lo 1 n;refine W.item i s _ _ hg st λv h' tk hv st' kk=>?_;obtain ⟨t,rfl⟩:=hv;have I1:Inv X pins σ H {s with heap:=h',toks:=tk}:=I.turned (λb o hb e=>kk b o (by simpa using hb) e) f0 f1 f3 f4 f5;refine ⟨_,rfl,Av (s:={s with heap:=h',toks:=tk}) (n:="range_iterator") st' rfl rfl (by decide) ⟨.int (lo+i),H,I1,⟨t,?_⟩,⟨rfl,rfl⟩,st',λb hb=>(hf b hb).1⟩⟩;rw [Int.mul_one]
 done:=by
  intro X hP hw hK hc i pins s σ H E I hf st hg;subst hP hw hK;obtain ⟨f0,f1,f2,f3,f4,f5⟩:=hf it (by simp);exact wpAny_pyNext_range_end (I.ok.hd hc) st (by have:n<=i:=hg;omega) λh' eb=>⟨rfl,I.turned (t':=s.toks) (λb o hb e=>eb b o hb e) f0 f1 f3 f4 f5⟩
 self:=λ_ _ _ _ _ st h=>wpAny_pyIter_rangeiter st h
end L2
namespace L2
open PySem PySem.Spec PyProof.Rows
section
variable {X:Cx}{tg:Expr}
inductive Pa (K:PySem.W.Frag)(R:It->Hp->Prop)(x:V)(H1:Hp):Prop | mk a:x=.ref a->(∃xs,bY K H1 a xs)->R (F1 K a) H1->Pa K R x H1
def XT (K:PySem.W.Frag)(tl:TE):TI:=λσ H R=>tl σ H λx H1=>Pa K R x H1
inductive S8 (K:PySem.W.Frag)(R:It->Hp->Prop)(x:V)(H1:Hp):Prop | mk a:x=.ref a->(∃xs,cA K H1 a xs)->R (O8 K a) H1->S8 K R x H1
def ZU (K:PySem.W.Frag)(tl:TE):TI:=λσ H R=>tl σ H λx H1=>S8 K R x H1
theorem gC {l:Expr}{tl:TE}(hl:PE X l tl):PI X tg l (XT X.K tl):=by
 intro pins s σ H R I h;refine cT (hl pins s σ H _ I h) λv s1 ⟨x,H1,I1,r1,q1⟩=>?_;obtain ⟨a,e,⟨xs,hq⟩,q⟩:=q1;subst e;cases r1;obtain ⟨bZ,rv,p,hz⟩:=I1.list hq;refine wpAny_pyIter_list p.isList ?_;refine ⟨s1.heap.objs.size,[s1.heap.objs.size],_,_,H1,rfl,I1.kept (t':=s1.toks) λb o e=>aq _ e,O9 a _,⟨_,aF _ rfl,rfl,rfl⟩,λb hb=>?_,q⟩;have e:b=s1.heap.objs.size:=by simpa using hb
 subst e;exact I1.yw (ag _) (I1.cn.fresh (ag _))
theorem VD {l:Expr}{tl:TE}(hl:PE X l tl):PI X tg l (ZU X.K tl):=by
 intro pins s σ H R I h;refine cT (hl pins s σ H _ I h) λv s1 ⟨x,H1,I1,r1,q1⟩=>?_;obtain ⟨a,e,⟨xs,hq⟩,q⟩:=q1;subst e;cases r1;obtain ⟨bZ,rv,p,hz⟩:=I1.tuple hq;refine wpAny_pyIter_tuple (show s1.heap.IsTuple a bZ.toArray from p) ?_;refine ⟨s1.heap.objs.size,[s1.heap.objs.size],_,_,H1,rfl,I1.kept (t':=s1.toks) λb o e=>aq _ e,Nd a _,⟨_,aF _ rfl,rfl,rfl⟩,λb hb=>?_,q⟩;have e:b=s1.heap.objs.size:=by simpa using hb
 subst e;exact I1.yw (ag _) (I1.cn.fresh (ag _))
theorem Rm {pins:List (Addr×Obj)}{σ:St}{H:Hp}{s:Shared}{R:It->Hp->Prop}{E:Value->Shared->Prop}{lo hi:Int}{t u v:Tok}{tk:Nat}(I:Inv X pins σ H s)(h1:-(2 ^ 62)<=lo)(h2:lo<2 ^ 62)(h3:-(2 ^ 62)<=hi)(h4:hi<2 ^ 62)
  (q:R (Dd lo (hi - lo).toNat) H):wpAny (model X.prog X.w) X.A (pyIter (.ref s.heap.objs.size)) (S7 X pins σ tg R) E {s with heap:=s.heap.push {cls:=.type "range",data:=.fields #[.int lo t,.int hi u,.int 1 v]},toks:=tk}:=by
 refine wpAny_pyIter_range (IsRange.new ..) (small_one h1 h2 h3 h4) ?_;have I1:Inv X pins σ H {s with heap:=s.heap.push {cls:=.type "range",data:=.fields #[.int lo t,.int hi u,.int 1 v]},toks:=tk}:=I.kept λb o e=>aq _ e;refine ⟨(s.heap.push {cls:=.type "range",data:=.fields #[.int lo t,.int hi u,.int 1 v]}).objs.size,[(s.heap.push {cls:=.type "range",data:=.fields #[.int lo t,.int hi u,.int 1 v]}).objs.size],_,_,H,rfl,
  I1.kept (t':=tk) λb o e=>aq _ e,Nf _ lo (hi - lo).toNat,?_,λb hb=>?_,q⟩
 ·have e1:lo+((0:Nat):Int)*1=lo:=by simp
  have e2:(((hi - lo).toNat:Nat):Int) - ((0:Nat):Int)=Builtin.Range.rangeSize lo hi 1:=by rw [rangeSize_one];split <;> omega
  show IsRangeIter _ _ (lo+((0:Nat):Int)*1) ((((hi - lo).toNat:Nat):Int) - ((0:Nat):Int)) 1;rw [e1,e2];exact aF _ rfl
 ·have e:b=(s.heap.push {cls:=.type "range",data:=.fields #[.int lo t,.int hi u,.int 1 v]}).objs.size:=by simpa using hb
  subst e;exact I1.yw (ag _) (I1.cn.fresh (ag _))
inductive S9 (R:It->Hp->Prop)(vs:List V)(H1:Hp):Prop | mk (j:Int):vs=[.int j]->-(2 ^ 62)<=j->j<2 ^ 62->R (Dd 0 j.toNat) H1->S9 R vs H1
def XU (ta:TA):TI:=λσ H R=>ta σ H λvs H1=>S9 R vs H1
theorem F2 {a:Expr}{ta:TA}{p pos:Pos}(hg:Gl X "range")(hm:X.mg "range"=none)(ha:PA X [a] ta)(hs:starEach [a] X.env=[(false,eval a X.env)]:=by rfl):PI X tg (.Call (.Name "range" p) [a] [] pos) (XU ta):=by
 intro pins s σ H R I h;refine Call_ (qO I hg hm boot_range (PyProof.Rows.callWith_type1 (cT (ha pos pins s σ H _ I h) λus s1 ⟨vs,H1,I1,r1,q1⟩=>?_) hs rfl));obtain ⟨j,e,q1,q2,q⟩:=q1;subst e;cases r1 with
 | cons r rr =>cases rr;obtain ⟨t,rfl⟩:=r;exact call_range_1 (Rm I1 (by omega) (by omega) q1 q2 (by simpa using q))
def ZV (wi:TI)(g:TG)(tb:TS):TS:=λD σ H=>wi σ H λJ H1=>∃W:Nat->Nat->St->Hp->Prop,(∃m,W 0 m σ H1)/\∀i m σ H,W i m σ H ->
 (J.stop i H/\D.nx σ H)\/(J.go i H/\∃N:St->Hp->Prop,(∀σ' H',N σ' H'->∃m',m'<m/\W (i+1) m' σ' H')/\∀x H',J.lU i H x H'->g x σ H' λσ2 H2=>tb {D with nx:=N,ct:=N,bk:=D.nx} σ2 H2)
def yx (fp:List Addr)(h:Heap):List (Addr×Obj):=fp.filterMap λb=>(h.get? b).map λo=>(b,o)
theorem wd {fp:List Addr}{h:Heap}{b:Addr}{o:Obj}(hb:b∈fp)(e:h.get? b=some o):(b,o)∈yx fp h:=List.mem_filterMap.mpr ⟨b,hb,by rw [e];rfl⟩
theorem Pb {fp:List Addr}{h:Heap}{p:Addr×Obj}(hp:p∈yx fp h):p.1∈fp/\h.get? p.1=some p.2:=by
 obtain ⟨b,hb,e⟩:=List.mem_filterMap.mp hp;cases q:h.get? b with
 | none=>rw [q] at e;cases e
 | some o =>rw [q] at e;have e':(b,o)=p:=ao e;subst e';exact ⟨hb,q⟩
theorem Inv.pinned {pins:List (Addr×Obj)}{σ:St}{H:Hp}{s:Shared}{fp:List Addr}(I:Inv X pins σ H s)(hf:∀b∈fp,px X pins H b)(ho:∀b∈fp,∃o,s.heap.get? b=some o/\∀v,o.data≠.cell v):Inv X (pins++yx fp s.heap) σ H s :=I.LQ λp hp=>(aY.mp hp).elim (λz=>I.pin p (List.mem_append_right _ z)) λz=>by obtain ⟨hb,e⟩:=Pb z;obtain ⟨f0,f1,f2,_⟩:=hf p.1 hb;obtain ⟨o,e',d⟩:=ho p.1 hb;rw [e] at e';cases e';exact ⟨e,f0,f1,f2,d⟩
theorem Inv.we {pins pl:List (Addr×Obj)}{σ:St}{H:Hp}{s:Shared}(I:Inv X (pins++pl) σ H s):Inv X pins σ H s:=I.LQ λp hp=>I.pin p (List.mem_append_right _ (List.mem_append_left _ hp))
theorem eA {iter:Expr}{body:List Stmt}{wi:TI}{g:TG}{tb:TS}{pos:Pos}(hp:PassesOwn (model X.prog X.w) X.A X.env X.xe)(hc:X.calm=true)(hi:PI X tg iter wi)(hg:PG X tg g)(hb:p6 X body tb)
  (hs:∀x,foldedSetIterable iter X.env x=pure x:=by intro _;rfl):PS X (.For tg iter body [] pos) (ZV wi g tb):=by
 intro pins s σ H D I h;refine wpAny_For (cT (hi pins s σ H _ I h) λv s1 h1=>cT h1 λitv s2 h2=>?_) hs;obtain ⟨it,fp,tn,J,H2,e,I2,T,Be,f2,W,⟨m0,w0⟩,turn⟩:=h2;subst e;have stat:∀{H':Hp},(∀b∈fp,H' b=none)->∀b∈fp,px X pins H' b:=λhn b hb=>⟨hn b hb,(f2 b hb).2⟩
 refine codeAny_forLoop_any (λn s'=>∃i σ' H',Inv X pins σ' H' s'/\tn i s'.heap/\(∀b∈fp,H' b=none)/\W i n σ' H') ?_ m0 ⟨0,σ,H2,I2,Be,λb hb=>(f2 b hb).1,w0⟩;rintro n s3 ⟨i,σ3,H3,I3,Ta,fr3,w3⟩;rcases turn i n σ3 H3 w3 with ⟨stop,qn⟩ | ⟨go,N,hN,step⟩
 ·refine wpAny_passesOwn hp (cT (T.done X rfl rfl rfl hc i pins s3 σ3 H3 X.xe I3 (stat fr3) Ta stop) λr s4 ⟨hr,I4⟩=>?_);subst hr;exact wpAny_execs_nil ⟨σ3,H3,I4,qn⟩
 ·refine wpAny_passesOwn hp (cT (T.item X rfl rfl rfl hc i pins s3 σ3 H3 X.xe I3 (stat fr3) Ta go) λr s4 ⟨u,hr,h4⟩=>?_);subst hr;refine wpAny_passesOwn hp (cT h4 λ_ s5 ⟨x,H5,I5,r5,y5,LR,fr5⟩=>?_);have I5':=I5.pinned (stat fr5) (T.obj _ _ LR);refine wpAny_passesOwn hp (cT (hg _ s5 σ3 H5 x u _ I5' r5 (step x H5 y5)) λ_ s6 ⟨σ6,H6,I6,q6⟩=>?_);refine wpAny_passesOwn hp (cT (hb _ s6 σ6 H6 _ I6 q6) λf s7 q7=>?_);have again:∀{σ7:St}{H7:Hp},Inv X (pins++yx fp s5.heap) σ7 H7 s7->N σ7 H7->∃m,m<n/\∃i σ' H',Inv X pins σ' H' s7/\tn i s7.heap/\(∀b∈fp,H' b=none)/\W i m σ' H':=λ{σ7 H7} I7 n7=>by
   obtain ⟨m',hm,w7⟩:=hN σ7 H7 n7;refine ⟨m',hm,i+1,σ7,H7,I7.we,T.keep _ _ _ LR λb hb o e=>(I7.pin (b,o) (List.mem_append_right _ (List.mem_append_right _ (wd hb e)))).1,λb hb=>?_,w7⟩;obtain ⟨o,e,d⟩:=T.obj _ _ LR b hb;exact (I7.pin (b,o) (List.mem_append_right _ (List.mem_append_right _ (wd hb e)))).2.1
  cases f with
  | next=>obtain ⟨σ7,H7,I7,n7⟩:=q7;exact again I7 n7
  | cont=>obtain ⟨σ7,H7,I7,n7⟩:=q7;exact again I7 n7
  | brk=>obtain ⟨σ7,H7,I7,q7⟩:=q7;exact ⟨σ7,H7,I7.we,q7⟩
  | ret v=>obtain ⟨x7,σ7,H7,I7,r7,q7⟩:=q7;exact ⟨x7,σ7,H7,I7.we,r7,q7⟩
end
theorem lC {K:PySem.W.Frag}{a:Addr}{xs:List V}{g:TG}{tb:TS}{D:Ends}{σ:St}{H:Hp}(Pv:Nat->St->Hp->Prop)(h0:Pv 0 σ H)(hl:∀i σ H,i<=xs.length->Pv i σ H->bY K H a xs)
  (hs:∀i x σ H,xs[i]?=some x->Pv i σ H->g x σ H λσ2 H2=>tb {D with nx:=Pv (i+1),ct:=Pv (i+1),bk:=D.nx} σ2 H2) (hd:∀σ H,Pv xs.length σ H->D.nx σ H) :
  ∃W:Nat->Nat->St->Hp->Prop,(∃m,W 0 m σ H)/\∀i m σ H,W i m σ H ->
   ((F1 K a).stop i H/\D.nx σ H)\/((F1 K a).go i H/\∃N:St->Hp->Prop,(∀σ' H',N σ' H'->∃m',m'<m/\W (i+1) m' σ' H')/\∀x H',(F1 K a).lU i H x H'->g x σ H' λσ2 H2=>tb {D with nx:=N,ct:=N,bk:=D.nx} σ2 H2):=by
 refine ⟨λi m σ H=>m=xs.length - i/\i<=xs.length/\Pv i σ H,⟨xs.length,by simp,aW _,h0⟩,?_⟩;rintro i m σ H ⟨rfl,hi,p⟩;have q:=hl i σ H hi p
 by_cases c9:i<xs.length
 ·refine .inr ⟨⟨xs,xs[i],q,by simp [c9]⟩,Pv (i+1),λσ' H' p'=>⟨xs.length - (i+1),by omega,rfl,c9,p'⟩,λx H' y=>?_⟩;obtain ⟨e,y⟩:=y;subst e;exact hs i x σ _ (y xs q) p
 ·have e:i=xs.length:=by omega
  subst e;exact .inl ⟨⟨xs,q,ag _⟩,hd σ H p⟩
theorem Ur {K:PySem.W.Frag}{a:Addr}{xs:List V}{g:TG}{tb:TS}{D:Ends}{σ:St}{H:Hp}(Pv:Nat->St->Hp->Prop)(h0:Pv 0 σ H)(hl:∀i σ H,i<=xs.length->Pv i σ H->cA K H a xs)
  (hs:∀i x σ H,xs[i]?=some x->Pv i σ H->g x σ H λσ2 H2=>tb {D with nx:=Pv (i+1),ct:=Pv (i+1),bk:=D.nx} σ2 H2) (hd:∀σ H,Pv xs.length σ H->D.nx σ H) :
  ∃W:Nat->Nat->St->Hp->Prop,(∃m,W 0 m σ H)/\∀i m σ H,W i m σ H ->
   ((O8 K a).stop i H/\D.nx σ H)\/((O8 K a).go i H/\∃N:St->Hp->Prop,(∀σ' H',N σ' H'->∃m',m'<m/\W (i+1) m' σ' H')/\∀x H',(O8 K a).lU i H x H'->g x σ H' λσ2 H2=>tb {D with nx:=N,ct:=N,bk:=D.nx} σ2 H2):=by
 refine ⟨λi m σ H=>m=xs.length - i/\i<=xs.length/\Pv i σ H,⟨xs.length,by simp,aW _,h0⟩,?_⟩;rintro i m σ H ⟨rfl,hi,p⟩;have q:=hl i σ H hi p
 by_cases c9:i<xs.length
 ·refine .inr ⟨⟨xs,xs[i],q,by simp [c9]⟩,Pv (i+1),λσ' H' p'=>⟨xs.length - (i+1),by omega,rfl,c9,p'⟩,λx H' y=>?_⟩;obtain ⟨e,y⟩:=y;subst e;exact hs i x σ _ (y xs q) p
 ·have e:i=xs.length:=by omega
  subst e;exact .inl ⟨⟨xs,q,ag _⟩,hd σ H p⟩
theorem Pc {lo:Int}{n:Nat}{g:TG}{tb:TS}{D:Ends}{σ:St}{H:Hp}(Pv:Nat->St->Hp->Prop)(h0:Pv 0 σ H)
  (hs:∀i σ H,i<n->Pv i σ H->g (.int (lo+i)) σ H λσ2 H2=>tb {D with nx:=Pv (i+1),ct:=Pv (i+1),bk:=D.nx} σ2 H2) (hd:∀σ H,Pv n σ H->D.nx σ H) :
  ∃W:Nat->Nat->St->Hp->Prop,(∃m,W 0 m σ H)/\∀i m σ H,W i m σ H ->
   ((Dd lo n).stop i H/\D.nx σ H)\/((Dd lo n).go i H/\∃N:St->Hp->Prop,(∀σ' H',N σ' H'->∃m',m'<m/\W (i+1) m' σ' H')/\∀x H',(Dd lo n).lU i H x H'->g x σ H' λσ2 H2=>tb {D with nx:=N,ct:=N,bk:=D.nx} σ2 H2):=by
 refine ⟨λi m σ H=>m=n - i/\i<=n/\Pv i σ H,⟨n,by simp,aW _,h0⟩,?_⟩;rintro i m σ H ⟨rfl,hi,p⟩
 by_cases c9:i<n
 ·refine .inr ⟨c9,Pv (i+1),λσ' H' p'=>⟨n - (i+1),by omega,rfl,c9,p'⟩,λx H' y=>?_⟩;obtain ⟨e,y⟩:=y;subst e y;exact hs i σ _ c9 p
 ·have e:i=n:=by omega
  subst e;exact .inl ⟨ag _,hd σ H p⟩
end L2
namespace L2
open PySem PySem.Spec PyProof.Rows
abbrev R2:=V->V->Hp->VK->Prop
def gZ (X:Cx)(f:Value->Value->Sem Value)(r:R2):Prop :=
 ∀(pins:List (Addr×Obj))(s:Shared)(σ:St)(H:Hp)(x y:V)(v u:Value)(Q:VK),Inv X pins σ H s->RelV x v->RelV y u->r x y H Q ->
  wpAny (model X.prog X.w) X.A (f v u) (EP X pins σ Q) X.xe s
def VE (X:Cx)(f:Value->Sem Value)(r:V->Hp->VK->Prop):Prop :=
 ∀(pins:List (Addr×Obj))(s:Shared)(σ:St)(H:Hp)(x:V)(v:Value)(Q:VK),Inv X pins σ H s->RelV x v->r x H Q ->
  wpAny (model X.prog X.w) X.A (f v) (EP X pins σ Q) X.xe s
def j3 (X:Cx)(f:Value)(r:List V->Hp->VK->Prop):Prop :=
 ∀(pins:List (Addr×Obj))(s:Shared)(σ:St)(H:Hp)(xs:List V)(us:List Value)(Q:VK),Inv X pins σ H s->Vals xs us->r xs H Q ->
  wpAny (model X.prog X.w) X.A (call f us) (EP X pins σ Q) X.xe s
def F3 (r:R2)(ta tb:TE):TE:=λσ H Q=>ta σ H λx H1=>tb σ H1 λy H2=>r x y H2 Q
def tUn (r:V->Hp->VK->Prop)(ta:TE):TE:=λσ H Q=>ta σ H λx H1=>r x H1 Q
inductive rI (C:Int->Int->Prop)(g:Int->Int->V)(x y:V)(H:Hp)(Q:VK):Prop | mk i j:x=.int i->y=.int j->C i j->Q (g i j) H->rI C g x y H Q
inductive xM (g:Int->Int->V)(x y:V)(H:Hp)(Q:VK):Prop | mk i j:x=.int i->y=.int j->Q (g i j) H->xM g x y H Q
inductive rU (g:Int->V)(x:V)(H:Hp)(Q:VK):Prop | mk i:x=.int i->Q (g i) H->rU g x H Q
section
variable {X:Cx}{a b c:Expr}{ta tb tc:TE}{pos:Pos}
theorem Ro (ha:PE X a ta)(hb:PE X b tb){pins:List (Addr×Obj)}{s:Shared}{σ:St}{H:Hp}{R:V->V->Hp->Prop}(I:Inv X pins σ H s)
  (h:ta σ H λx H1=>tb σ H1 λy H2=>R x y H2) {Q:Value->Shared->Prop} {f:Value->Value->Sem Value}
  (hf:∀v u s2 x y H2,Inv X pins σ H2 s2->RelV x v->RelV y u->R x y H2->wpAny (model X.prog X.w) X.A (f v u) Q X.xe s2) :
  wpAny (model X.prog X.w) X.A (eval a X.env) (λv s₁=>wpAny (model X.prog X.w) X.A (eval b X.env) (λu s₂=>wpAny (model X.prog X.w) X.A (f v u) Q X.xe s₂) X.xe s₁) X.xe s:=by
 refine cT (ha pins s σ H _ I h) λv s1 ⟨x,H1,I1,r1,q1⟩=>?_;refine cT (hb pins s1 σ H1 _ I1 q1) λu s2 ⟨y,H2,I2,r2,q2⟩=>?_;exact hf v u s2 x y H2 I2 r1 r2 q2
theorem dj {op:Operator}{r:R2}(ho:gZ X (binaryOp op) r)(ha:PE X a ta)(hb:PE X b tb):PE X (.BinOp a op b pos) (F3 r ta tb):=by intro pins s σ H Q I h;exact wpAny_BinOp (Ro ha hb I h λv u s2 x y H2 I2 rx ry q=>ho pins s2 σ H2 x y v u Q I2 rx ry q)
theorem j4 {op:UnaryOp}{r:V->Hp->VK->Prop}(ho:VE X (unaryOp op) r)(ha:PE X a ta):PE X (.UnaryOp op a pos) (tUn r ta):=by intro pins s σ H Q I h;exact UnaryOp_ (cT (ha pins s σ H _ I h) λv s1 ⟨x,H1,I1,r1,q1⟩=>ho pins s1 σ H1 x v Q I1 r1 q1)
theorem opI {f:Value->Value->Sem Value}{C:Int->Int->Prop}{g:Int->Int->Int}
  (rule:∀(i j:Int)(t u:Tok)(s:Shared)(Q:Value->Shared->Prop)(E:Value->Shared->Prop),C i j->Q (.int (g i j) s.toks) {s with toks:=s.toks+1}->wpAny (model X.prog X.w) X.A (f (.int i t) (.int j u)) Q E s) :
  gZ X f (rI C λi j=>.int (g i j)):=by
 intro pins s σ H x y v u Q I rx ry h;obtain ⟨i,j,rfl,rfl,hc,q⟩:=h;obtain ⟨t,rfl⟩:=rx;obtain ⟨t',rfl⟩:=ry;exact rule i j t t' s _ _ hc ⟨.int (g i j),H,I.tok _,⟨_,rfl⟩,q⟩
theorem VF {f:Value->Value->Sem Value}{g:Int->Int->Int}
  (rule:∀(i j:Int)(t u:Tok)(s:Shared)(Q:Value->Shared->Prop)(E:Value->Shared->Prop),Q (.int (g i j) s.toks) {s with toks:=s.toks+1}->wpAny (model X.prog X.w) X.A (f (.int i t) (.int j u)) Q E s) :
  gZ X f (xM λi j=>.int (g i j)):=by
 intro pins s σ H x y v u Q I rx ry h;obtain ⟨i,j,rfl,rfl,q⟩:=h;obtain ⟨t,rfl⟩:=rx;obtain ⟨t',rfl⟩:=ry;exact rule i j t t' s _ _ ⟨.int (g i j),H,I.tok _,⟨_,rfl⟩,q⟩
theorem Ng {f:Value->Value->Sem Value}{g:Int->Int->Bool}
  (rule:∀(i j:Int)(t u:Tok)(s:Shared)(Q:Value->Shared->Prop)(E:Value->Shared->Prop),Q (.bool (g i j)) s->wpAny (model X.prog X.w) X.A (f (.int i t) (.int j u)) Q E s) :
  gZ X f (xM λi j=>.bl (g i j)):=by
 intro pins s σ H x y v u Q I rx ry h;obtain ⟨i,j,rfl,rfl,q⟩:=h;obtain ⟨t,rfl⟩:=rx;obtain ⟨t',rfl⟩:=ry;exact rule i j t t' s _ _ ⟨.bl (g i j),H,I,rfl,q⟩
def Rp (i j:Int):Prop:=(-(2 ^ 64)<i/\i<2 ^ 64)\/(-(2 ^ 64)<j/\j<2 ^ 64)
theorem Rp.ok {i j:Int}(h:Rp i j):IntMulOk i j:=by
 rcases h with ⟨h1,h2⟩ | ⟨h1,h2⟩
 ·exact .of_left (intBits_le_64 h1 h2)
 ·exact .of_right (intBits_le_64 h1 h2)
theorem i6:gZ X (binaryOp .Add) (xM λi j=>.int (i+j)):=VF λ_ _ _ _ _ _ _ q=>add_int q
theorem qR:gZ X (binaryOp .Sub) (xM λi j=>.int (i - j)):=VF λ_ _ _ _ _ _ _ q=>sub_int q
theorem VG:gZ X (binaryOp .Mult) (rI Rp λi j=>.int (i*j)):=opI λ_ _ _ _ _ _ _ hc q=>mul_int q hc.ok
theorem unI {f:Value->Sem Value}{g:Int->Int}
  (rule:∀(i:Int)(t:Tok)(s:Shared)(Q:Value->Shared->Prop)(E:Value->Shared->Prop),Q (.int (g i) s.toks) {s with toks:=s.toks+1}->wpAny (model X.prog X.w) X.A (f (.int i t)) Q E s) :
  VE X f (rU λi=>.int (g i)):=by
 intro pins s σ H x v Q I rx h;obtain ⟨i,rfl,q⟩:=h;obtain ⟨t,rfl⟩:=rx;exact rule i t s _ _ ⟨.int (g i),H,I.tok _,⟨_,rfl⟩,q⟩
theorem il:VE X (unaryOp .USub) (rU λi=>.int (-i)):=unI λ_ _ _ _ _ q=>neg_int q
end
def Rq:V->V->Bool
 | .cw,.cw=>true | .cw,.int _=>true | .int _,.cw=>true | .cw,.bl _=>true | .bl _,.cw=>true | .cw,.str _=>true | .str _,.cw=>true
 | .int _,.int _=>true | .bl _,.bl _=>true | .str _,.str _=>true | .pZ _,.pZ _=>true
 | .int _,.str _=>true | .str _,.int _=>true | .bl _,.str _=>true | .str _,.bl _=>true
 | _,_=>false
inductive Yy (x y:V)(H:Hp)(Q:VK):Prop | mk:Rq x y=true->Q (.bl (decide (x=y))) H->Yy x y H Q
inductive Yz (x y:V)(H:Hp)(Q:VK):Prop | mk:Rq x y=true->Q (.bl (!decide (x=y))) H->Yz x y H Q
theorem LS {i j:Int}:decide (V.int i=V.int j)=(i == j):=by rw [Bool.eq_iff_iff];simp
theorem Pd {i j:Bool}:decide (V.bl i=V.bl j)=(i == j):=by rw [Bool.eq_iff_iff];simp
theorem LU {i j:Str}:decide (V.str i=V.str j)=(i == j):=by rw [Bool.eq_iff_iff];simp
theorem LV {i j:Array UInt8}:decide (V.pZ i=V.pZ j)=(i.toList == j.toList):=by rw [Bool.eq_iff_iff];cases i;cases j;simp
section
variable {X:Cx}{a b c:Expr}{ta tb tc:TE}{pos:Pos}
theorem de {pins:List (Addr×Obj)}{σ:St}{H:Hp}{s:Shared}{Q:VK}{k k':Bool}(I:Inv X pins σ H s)(q:Q (.bl k) H)(e:k=k'):EP X pins σ Q (.bool k') s:=by subst e;exact ⟨.bl k,H,I,rfl,q⟩
theorem dk:gZ X (compareOp .Eq) Yy:=by
 intro pins s σ H x y v u Q I rx ry h;obtain ⟨hs,q⟩:=h;cases x with
 | cw =>
  cases rx;cases y with
  | cw=>cases ry;exact PySem.EqNone.eq_none_none (de I q (by simp))
  | bl j=>cases ry;exact PySem.EqNone.eq_none_bool (de I q (by simp))
  | int j=>obtain ⟨t',rfl⟩:=ry;exact PySem.EqNone.eq_none_int (de I q (by simp))
  | str j=>obtain ⟨t',rfl⟩:=ry;exact PySem.EqNone.eq_none_str (de I q (by simp))
  | _=>exact ai (show false=true from hs) aL
 | bl i =>
  cases rx;cases y with
  | cw=>cases ry;exact PySem.EqNone.eq_bool_none (de I q (by simp))
  | bl j=>cases ry;exact eq_bool (de I q Pd)
  | str j=>obtain ⟨t',rfl⟩:=ry;exact PySem.EqMixed.eq_bool_str (de I q (by simp))
  | _=>exact ai (show false=true from hs) aL
 | int i =>
  obtain ⟨t,rfl⟩:=rx;cases y with
  | cw=>cases ry;exact PySem.EqNone.eq_int_none (de I q (by simp))
  | int j=>obtain ⟨t',rfl⟩:=ry;exact eq_int (de I q LS)
  | str j=>obtain ⟨t',rfl⟩:=ry;exact PySem.EqMixed.eq_int_str (de I q (by simp))
  | _=>exact ai (show false=true from hs) aL
 | str i =>
  obtain ⟨t,rfl⟩:=rx;cases y with
  | cw=>cases ry;exact PySem.EqNone.eq_str_none (de I q (by simp))
  | bl j=>cases ry;exact PySem.EqMixed.eq_str_bool (de I q (by simp))
  | int j=>obtain ⟨t',rfl⟩:=ry;exact PySem.EqMixed.eq_str_int (de I q (by simp))
  | str j=>obtain ⟨t',rfl⟩:=ry;exact eq_str (de I q LU)
  | _=>exact ai (show false=true from hs) aL
 | pZ i =>
  obtain ⟨t,rfl⟩:=rx;cases y with
  | pZ j=>obtain ⟨t',rfl⟩:=ry;exact PySem.W.eq_bytes (de I q LV)
  | _=>exact ai (show false=true from hs) aL
 | _=>cases y <;> exact ai (show false=true from hs) aL
theorem De:gZ X (compareOp .NotEq) Yz:=by
 intro pins s σ H x y v u Q I rx ry h;obtain ⟨hs,q⟩:=h;cases x with
 | cw =>
  cases rx;cases y with
  | cw=>cases ry;exact PySem.EqNone.ne_none_none (de I q (by simp))
  | bl j=>cases ry;exact PySem.EqNone.ne_none_bool (de I q (by simp))
  | int j=>obtain ⟨t',rfl⟩:=ry;exact PySem.EqNone.ne_none_int (de I q (by simp))
  | str j=>obtain ⟨t',rfl⟩:=ry;exact PySem.EqNone.ne_none_str (de I q (by simp))
  | _=>exact ai (show false=true from hs) aL
 | bl i =>
  cases rx;cases y with
  | cw=>cases ry;exact PySem.EqNone.ne_bool_none (de I q (by simp))
  | bl j=>cases ry;exact ne_bool (de I q (congrArg not Pd))
  | str j=>obtain ⟨t',rfl⟩:=ry;exact PySem.EqMixed.ne_bool_str (de I q (by simp))
  | _=>exact ai (show false=true from hs) aL
 | int i =>
  obtain ⟨t,rfl⟩:=rx;cases y with
  | cw=>cases ry;exact PySem.EqNone.ne_int_none (de I q (by simp))
  | int j=>obtain ⟨t',rfl⟩:=ry;exact ne_int (de I q (congrArg not LS))
  | str j=>obtain ⟨t',rfl⟩:=ry;exact PySem.EqMixed.ne_int_str (de I q (by simp))
  | _=>exact ai (show false=true from hs) aL
 | str i =>
  obtain ⟨t,rfl⟩:=rx;cases y with
  | cw=>cases ry;exact PySem.EqNone.ne_str_none (de I q (by simp))
  | bl j=>cases ry;exact PySem.EqMixed.ne_str_bool (de I q (by simp))
  | int j=>obtain ⟨t',rfl⟩:=ry;exact PySem.EqMixed.ne_str_int (de I q (by simp))
  | str j=>obtain ⟨t',rfl⟩:=ry;exact ne_str (de I q (congrArg not LU))
  | _=>exact ai (show false=true from hs) aL
 | pZ i =>
  obtain ⟨t,rfl⟩:=rx;cases y with
  | pZ j=>obtain ⟨t',rfl⟩:=ry;exact PySem.W.ne_bytes (de I q (congrArg not LV))
  | _=>exact ai (show false=true from hs) aL
 | _=>cases y <;> exact ai (show false=true from hs) aL
theorem ie:gZ X (compareOp .Lt) (xM λi j=>.bl (decide (i<j))):=Ng λ_ _ _ _ _ _ _ q=>lt_int q
theorem Tb:gZ X (compareOp .LtE) (xM λi j=>.bl (decide (i<=j))):=Ng λ_ _ _ _ _ _ _ q=>le_int q
theorem ql:gZ X (compareOp .Gt) (xM λi j=>.bl (decide (j<i))):=Ng λ_ _ _ _ _ _ _ q=>gt_int q
theorem qp:gZ X (compareOp .GtE) (xM λi j=>.bl (decide (j<=i))):=Ng λ_ _ _ _ _ _ _ q=>ge_int q
theorem gJ:gZ X (compareOp .Is) (λx y H Q=>y=.cw/\Q (.bl (decide (x=.cw))) H):=by
 intro pins s σ H x y v u Q I rx ry h;obtain ⟨rfl,q⟩:=h;cases ry;refine is_none_gen (de I q ?_);cases x <;> first
  | (cases rx;rfl)
  | (obtain ⟨t,rfl⟩:=rx;rfl)
theorem qE:gZ X (compareOp .IsNot) (λx y H Q=>y=.cw/\Q (.bl (!decide (x=.cw))) H):=by
 intro pins s σ H x y v u Q I rx ry h;obtain ⟨rfl,q⟩:=h;cases ry;refine isnot_none_gen (de I q ?_);cases x <;> first
  | (cases rx;rfl)
  | (obtain ⟨t,rfl⟩:=rx;rfl)
theorem b9 (b:Expr){op:CmpOp}(h:op≠.In:=by decide)(h2:op≠.NotIn:=by decide):behindInMarks op b=false:=by
 have e1:(op == CmpOp.In)=false:=by cases op <;> first | rfl | exact ai rfl h
 have e2:(op == CmpOp.NotIn)=false:=by cases op <;> first | rfl | exact ai rfl h2
 cases b <;> simp [behindInMarks,e1,e2]
theorem vk {op:CmpOp}{r:R2}(ho:gZ X (compareOp op) r)(ha:PE X a ta)(hb:PE X b tb)(hm:behindInMarks op b=false):PE X (.Compare a [op] [b] pos) (F3 r ta tb):=by intro pins s σ H Q I h;exact wpAny_Compare1 (Ro ha hb I h λv u s2 x y H2 I2 rx ry q=>ho pins s2 σ H2 x y v u Q I2 rx ry q) hm
inductive Pe (Q:Bool->Hp->Prop)(x:V)(H':Hp):Prop | mk k:x=.bl k->Q k H'->Pe Q x H'
def Nh (t:TE):TT:=λσ H Q=>t σ H λx H'=>Pe Q x H'
theorem bW {op:CmpOp}{r:R2}(ho:gZ X (compareOp op) r)(ha:PE X a ta)(hb:PE X b tb)(hm:behindInMarks op b=false):PT X (.Compare a [op] [b] pos) (Nh (F3 r ta tb)):=by
 intro pins s σ H Q I h;refine wpAny_isTrue_Compare1 (cT (ha pins s σ H _ I h) λv s1 ⟨x,H1,I1,r1,q1⟩=>cT (hb pins s1 σ H1 _ I1 q1) λu s2 ⟨y,H2,I2,r2,q2⟩ =>cT (ho pins s2 σ H2 x y v u _ I2 r1 r2 q2) λc s3 ⟨z,H3,I3,r3,k,e,q3⟩=>?_) hm
 subst e;cases r3;exact wpAny_truthy_bool ⟨H3,I3,q3⟩
def VH (r r':R2)(ta tb tc:TE):TE:=λσ H Q=>ta σ H λx H1=>tb σ H1 λy H2=>r x y H2 λz H3=>∃k,z=.bl k /\
 (if k=true then tc σ H3 λw' H4=>r' y w' H4 Q else Q (.bl false) H3)
theorem Rr {op op':CmpOp}{r r':R2}(ho:gZ X (compareOp op) r)(p0:gZ X (compareOp op') r')(ha:PE X a ta)(hb:PE X b tb)(hc:PE X c tc)
  (hm:lastMarks [op,op'] [b,c]=false:=by with_unfolding_all rfl):PE X (.Compare a [op,op'] [b,c] pos) (VH r r' ta tb tc):=by
 intro pins s σ H Q I h;refine Compare_chain (cT (ha pins s σ H _ I h) λv s1 ⟨x,H1,I1,r1,q1⟩=>chain_link (cT (hb pins s1 σ H1 _ I1 q1) λu s2 ⟨y,H2,I2,r2,q2⟩ =>cT (ho pins s2 σ H2 x y v u _ I2 r1 r2 q2) λd s3 ⟨z,H3,I3,r3,k,e,q3⟩=>?_)) hm
 subst e;cases r3;refine wpAny_truthy_bool ?_;cases k with
 | false=>exact ite_ff ⟨.bl false,H3,I3,rfl,q3⟩
 | true=>exact ite_tt (chain_last (cT (hc pins s3 σ H3 _ I3 q3) λw' s4 ⟨z',H4,I4,r4,q4⟩=>p0 pins s4 σ H4 y z' u w' Q I4 r2 r4 q4))
theorem Df:(sizeLine:Nat)<2 ^ 63:=by rw [sizeLine_eq];decide
theorem Ni:gZ X (binaryOp .Add) (λx y H Q=>∃i j,x=.str i/\y=.str j/\i.length+j.length<=sizeLine/\Q (.str (i++j)) H):=by intro pins s σ H x y v u Q I rx ry h;obtain ⟨i,j,rfl,rfl,hz,q⟩:=h;obtain ⟨t,rfl⟩:=rx;obtain ⟨t',rfl⟩:=ry;exact add_str (λt' tk=>⟨.str (i++j),H,I.tok _,⟨_,rfl⟩,q⟩) hz
theorem vals1 {x:V}{us:List Value}(r:Vals [x] us):∃u,us=[u]/\RelV x u:=by
 cases r with
 | cons r1 r2=>cases r2;exact ⟨_,rfl,r1⟩
theorem Im:j3 X (.type "str") (λxs H Q=>∃i,xs=[.int i]/\i.natAbs.log2<1920/\Q (.str (toString i)) H):=by intro pins s σ H xs us Q I r h;obtain ⟨i,rfl,hz,q⟩:=h;obtain ⟨u,rfl,t,rfl⟩:=vals1 r;exact PySem.P.str_of_int hz ⟨.str _,H,I.tok _,⟨_,rfl⟩,q⟩
theorem Io:j3 X (.builtin "ord") (λxs H Q=>∃x,xs=[.str x]/\x.length=1/\Q (.int (x.cps.getD 0 0:Nat)) H):=by intro pins s σ H xs us Q I r h;obtain ⟨x,rfl,hz,q⟩:=h;obtain ⟨u,rfl,t,rfl⟩:=vals1 r;exact ord_of_one hz ⟨.int _,H,I.tok _,⟨_,rfl⟩,q⟩
end
end L2
namespace L2
open PySem PySem.Spec PyProof.Rows
structure B6 (h:Heap)(x dx C:Addr)(mA:Str->Option Value):Prop where
 obj:h.get? x=some (PySem.W.instObj C dx)
 ns:h.Ns1 dx mA
 ne:dx≠x
theorem Pf {h:Heap}{dx:Addr}{mA:Str->Option Value}(n:h.Ns1 dx mA):∃od,h.get? dx=some od/\∀name,PySem.W.lookIn name od=some (mA name):=by
 obtain ⟨o,es,ep,ho,hd,hk,_,hm⟩:=n;refine ⟨o,ho,λname=>?_⟩;have e:=hm name;unfold nsFind findBy at e;rw [<-Array.find?_toList] at e;unfold PySem.W.lookIn;rw [hd];dsimp only
 split
 ·rename_i y q;rw [q] at e;exact congrArg some e
 ·rename_i q;rw [q] at e;have a:es.toList.any (·.refKey)=false:=by
   rw [List.any_eq_false];intro y hy;obtain ⟨z,t,Ip⟩:=hk y (Array.mem_toList_iff.mp hy);simp [DictEntry.refKey,Ip]
  have a':¬es.toList.any (·.refKey)=true:=by rw [a];exact aL
  rw [aa a'];exact congrArg some e
theorem B6.look {h:Heap}{x dx C:Addr}{mA:Str->Option Value}(I:B6 h x dx C mA):∃od,PySem.W.InstAt h x (PySem.W.instObj C dx) C (some od)/\∀name,PySem.W.lookIn name od=some (mA name) :=
 let ⟨od,ho,hl⟩:=Pf I.ns
 ⟨od,⟨I.obj,rfl,rfl,ho⟩,hl⟩
section
variable {prog:Program}{w:World}{A:Around}{E:Value->Shared->Prop}{s:Shared}{K:PySem.W.Frag}{x dx C f:Addr}{mA:Str->Option Value}{name:Str}{v:Value}
theorem get_map {expr:Bool}{Q:Value->Shared->Prop}(X:K.In s.heap)(I:B6 s.heap x dx C mA)(hg:PySem.W.plainGet K C name=true)(hh:PySem.W.hasDictIn K C=true)
  (ha:PySem.W.findIn K (.ref C) name=some none) (hv:mA name=some v) (Bf:PySem.W.handedIn v=true) (h:Q v {s with toks:=s.toks+1}) :
  wpAny (model prog w) A (getAttr (.ref x) name expr) Q E s:=by
 obtain ⟨od,J,hl⟩:=I.look;exact PySem.W.get_value X J (PySem.W.plainGet_of hg).1 (PySem.W.findObj_own hh ha rfl (by rw [hl,hv])) Bf h
theorem Rt {pl:Sem Bool}{Q:Value×List Value->Shared->Prop}(X:K.In s.heap)(I:B6 s.heap x dx C mA)(hg:PySem.W.plainGet K C name=true)
  (hf:PySem.W.findIn K (.ref C) name=some (some (.ref f))) (ht:PySem.W.isFn K (.ref f)=true) (hv:mA name=none) (h:Q (.ref f,[.ref x]) s) :
  wpAny (model prog w) A (getMethod (.ref x) name pl) Q E s:=by
 obtain ⟨od,J,hl⟩:=I.look;exact PySem.W.method_fn X J (PySem.W.plainGet_of hg).1 (PySem.W.plainGet_of hg).2 hf (beq_iff_eq.mp ht) (by show (PySem.W.lookIn name od).map (·.isSome)=some false;rw [hl,hv];rfl) h
theorem Us {ns:List Str}{Q:Unit->Shared->Prop}(X:K.In s.heap)(I:B6 s.heap x dx C mA)
  (hs:PySem.W.findIn K (.ref C) "__setattr__"=some (some (.builtin "object.__setattr__"))) (hp:PySem.W.plainOver K C=true) (ht:PySem.W.takerIn K C name=some none) (hh:PySem.W.hasDictIn K C=true)
  (hw:PySem.Within mA ns) (hsz:ns.length<=sizeLine)
  (h:∀h',B6 h' x dx C (λy=>if y=name then some v else mA y)->Heap.SameBut dx s.heap h'->Q () {s with heap:=h',toks:=s.toks+2}) :
  wpAny (model prog w) A (setAttr (.ref x) name v) Q E s:=by
 obtain ⟨od,J,hl⟩:=I.look;refine PySem.W.set_plain X J hs (PySem.W.osa_open (s:={s with toks:=s.toks+1}) (r:=none) X J hp ht λb=>?_);obtain ⟨cd,hc,Vp⟩:=PySem.W.any_some hh;have hx:s.heap.get? x=some ⟨.ref C,some dx,.plain,#[]⟩:=I.obj;refine ae (ah (ae (ae (wpAny_loadPart hx (ae (PySem.W.Looks.here (s:={s with toks:=s.toks+1}) (PySem.W.looks_clsIn X hc) ?_))))));rw [Vp];refine ah (a:=some dx) (ae (ah (ae ?_)));refine wpAny_nsSet1 (s:={s with toks:=s.toks+1}) I.ns λh' YA fP=>?_;obtain ⟨oD,esD,epD,hoD,Tc,hcD⟩:=YA.count (PySem.Within.cons name v hw);refine ae (wpAny_lookBehind hoD (by rw [Tc];exact pastItsLine_dict (aN hcD (by rw [au];omega))) ?_);exact ah (h _ ⟨(fP.2 _ (Ne.symm I.ne)).trans I.obj,YA,I.ne⟩ fP)
theorem Ru {R:Result->Shared->Prop}{vs:List Value}{kw:List (Str×Value)}(X:K.In s.heap)(hm:PySem.W.makesIn K C=true)
  (hi:PySem.W.findIn K (.ref C) "__init__"=some (some (.ref f))) (hf:PySem.W.typeIn K (.ref f)=some (.type "function"))
  (h:codeAny (model prog w) (A.under (.builtin "type.__call__" ⟨.ref C::vs,kw⟩)) (.call (.ref f) ⟨.ref (s.heap.objs.size+1)::vs,kw⟩) (PySem.W.InitBack (s.heap.objs.size+1) R)
   {s with heap:=(s.heap.push PySem.W.emptyDict).push (PySem.W.instObj C s.heap.objs.size)}) :
  codeAny (model prog w) A (.call (.ref C) ⟨vs,kw⟩) R s:=by
 obtain ⟨hh,g,d,t,os⟩:=s;exact PySem.W.make_core (PySem.W.makes_of X hm) (PySem.W.looks_findIn X hi) (λself=>PySem.W.bind_fn X self hf) (.inl rfl) h
end
def gK (f:Str)(v:V):List (Str×V)->List (Str×V)
 | []=>[(f,v)]
 | (g,x)::r=>if g=f then (g,v)::r else (g,x)::gK f v r
theorem Bg (f g:Str)(v:V):∀fs:List (Str×V),(gK f v fs).lookup g=if g=f then some v else fs.lookup g
 | []=>by
  show List.lookup g [(f,v)]=_
  by_cases h:g=f
  ·have hb:(g == f)=true:=beq_iff_eq.mpr h;simp only [List.lookup,hb,ab h]
  ·have hb:(g == f)=false:=beq_eq_false_iff_ne.mpr h;simp only [List.lookup,hb,aa h]
 | (k,x)::r=>by
  have ih:=Bg f g v r;rw [show gK f v ((k,x)::r)=(if k=f then (k,v)::r else (k,x)::gK f v r) from rfl]
  by_cases hk:k=f
  ·rw [ab hk]
   by_cases h:g=k
   ·have hb:(g == k)=true:=beq_iff_eq.mpr h;simp only [List.lookup,hb,ab (h.trans hk)]
   ·have hb:(g == k)=false:=beq_eq_false_iff_ne.mpr h;simp only [List.lookup,hb,aa (λe:g=f=>h (e.trans hk.symm))]
  ·rw [aa hk]
   by_cases h:g=k
   ·have hb:(g == k)=true:=beq_iff_eq.mpr h;simp only [List.lookup,hb,aa (λe:g=f=>hk (h.symm.trans e))]
   ·have hb:(g == k)=false:=beq_eq_false_iff_ne.mpr h;simp only [List.lookup,hb];exact ih
theorem yy (f:Str)(v:V):∀fs:List (Str×V),f∈(gK f v fs).map (·.1)/\∀g,g∈fs.map (·.1)->g∈(gK f v fs).map (·.1)
 | []=>⟨by simp [gK],λg h=>by simp at h⟩
 | (k,x)::r=>by
  obtain ⟨i1,i2⟩:=yy f v r;rw [show gK f v ((k,x)::r)=(if k=f then (k,v)::r else (k,x)::gK f v r) from rfl]
  by_cases hk:k=f
  ·rw [ab hk];subst hk;exact ⟨by simp,λg h=>by simpa using h⟩
  ·rw [aa hk];refine ⟨?_,λg h=>?_⟩
   ·rw [aw];exact aA _ i1
   ·rw [aw] at h ⊢;rcases ak.mp h with e | e
    ·exact ak.mpr (.inl e)
    ·exact aA _ (i2 g e)
theorem uv (f:Str)(v:V):∀fs:List (Str×V),(gK f v fs).length<=fs.length+1
 | []=>by simp [gK]
 | (k,x)::r=>by
  have ih:=uv f v r;rw [show gK f v ((k,x)::r)=(if k=f then (k,v)::r else (k,x)::gK f v r) from rfl]
  by_cases hk:k=f
  ·rw [ab hk,au,au];omega
  ·rw [aa hk,au,au];omega
theorem iI.some_of {v:V}{o:Option Value}(r:iI (some v) o):∃u,o=some u/\RelV v u:=by
 cases o with
 | none=>exact (show False from r).elim
 | some u=>exact ⟨u,rfl,r⟩
theorem iI.none_of {o:Option Value}(r:iI none o):o=none:=by
 cases o with
 | none=>rfl
 | some u=>exact (show False from r).elim
theorem Pg {v:V}{u:Value}(r:RelV v u):PySem.W.handedIn u=true:=by
 cases v with
 | cw=>cases (show u=Value.none from r);rfl
 | bl b=>cases (show u=Value.bool b from r);rfl
 | int i=>obtain ⟨t,e⟩:=(show ∃t,u=Value.int i t from r);cases e;rfl
 | str x=>obtain ⟨t,e⟩:=(show ∃t,u=Value.str x t from r);cases e;rfl
 | pZ b=>obtain ⟨t,e⟩:=(show ∃t,u=Value.bytes b t from r);cases e;rfl
 | SV b=>obtain ⟨t,e⟩:=(show ∃t,u=Value.float b t from r);cases e;rfl
 | ref a=>cases (show u=Value.ref a from r);rfl
 | ty n=>cases (show u=Value.type n from r);rfl
section
variable {P:Program}{w:World}{H H':Hp}{h h':Heap}{a C dx:Addr}{fs fs':List (Str×V)}
theorem E1 (cn:dN P w H h)(e:H a=some (.ins C dx fs)):∃mA,B6 h a dx C mA/\(∀f,iI (fs.lookup f) (mA f))/\PySem.Within mA (fs.map (·.1))/\fs.length<=1000/\H dx=some (.own a):=by
 obtain ⟨d,z,ne,ob,mA,n,r,q⟩:=(show dw P w H h a (.ins C dx fs) from cn a _ e)
 exact ⟨mA,⟨ob,n,ne⟩,r,q,z,d⟩
end
structure i7 (K:PySem.W.Frag)(C:Addr):Prop where
 pg:PySem.W.plainGet K C Str.empty=true
 hd:PySem.W.hasDictIn K C=true
 po:PySem.W.plainOver K C=true
 sa:PySem.W.findIn K (.ref C) "__setattr__"=some (some (.builtin "object.__setattr__"))
theorem i7.get {K:PySem.W.Frag}{C:Addr}(c:i7 K C)(f:Str):PySem.W.plainGet K C f=true:=c.pg
def dY (K:PySem.W.Frag)(C:Addr)(f:Str):Prop:=PySem.W.findIn K (.ref C) f=some none
theorem dY.XW {K:PySem.W.Frag}{C:Addr}{f:Str}(n:dY K C f):PySem.W.takerIn K C f=some none:=by unfold PySem.W.takerIn;rw [show PySem.W.findIn K (.ref C) f=some none from n];rfl
structure Meth (K:PySem.W.Frag)(C:Addr)(m:Str)(f:Addr):Prop where
 at_:PySem.W.findIn K (.ref C) m=some (some (.ref f))
 fn:PySem.W.isFn K (.ref f)=true
 kp:PySem.W.keepIn K (.ref f)=true
section
variable {X:Cx}{pins:List (Addr×Obj)}{σ:St}{H:Hp}{s:Shared}{a C dx:Addr}{fs:List (Str×V)}{f:Str}{v:V}{A:Around}{E:Value->Shared->Prop}
theorem Nj {b:Bool}{Q:Value->Shared->Prop}(I:Inv X pins σ H s)(e:H a=some (.ins C dx fs))(c:i7 X.K C)(n:dY X.K C f)(l:fs.lookup f=some v)
  (h:∀u s',Inv X pins σ H s'->RelV v u->Q u s'):wpAny (model X.prog X.w) A (getAttr (.ref a) f b) Q E s:=by
 obtain ⟨mA,O,r,_,_,_⟩:=E1 I.cn e;obtain ⟨u,hu,ru⟩:=iI.some_of (v:=v) (o:=mA f) (by rw [<-l];exact r f);exact get_map I.mX O (c.get f) c.hd n hu (Pg ru) (h u _ (I.tok _) ru)
theorem Dg {m:Str}{g:Addr}{pl:Sem Bool}{Q:Value×List Value->Shared->Prop}(I:Inv X pins σ H s)(e:H a=some (.ins C dx fs))(c:i7 X.K C)(k:Meth X.K C m g)(l:fs.lookup m=none)
  (h:Q (.ref g,[.ref a]) s):wpAny (model X.prog X.w) A (getMethod (.ref a) m pl) Q E s:=by
 obtain ⟨mA,O,r,_,_,_⟩:=E1 I.cn e;have hn:mA m=none:=iI.none_of (by rw [<-l];exact r m);exact Rt I.mX O (c.get m) k.at_ k.fn hn h
theorem Nk {y:V}{u:Value}{Q:Unit->Shared->Prop}(I:Inv X pins σ H s)(e:H a=some (.ins C dx fs))(c:i7 X.K C)(n:dY X.K C f)(hl:fs.length<1000)(ry:RelV y u)
  (h:∀s',Inv X pins σ (upd H a (.ins C dx (gK f y fs))) s'->Q () s'):wpAny (model X.prog X.w) A (setAttr (.ref a) f u) Q E s:=by
 obtain ⟨mA,O,r,wi,_,ho⟩:=E1 I.cn e;have hz:(fs.map (·.1)).length<=sizeLine:=by rw [af,sizeLine_eq];omega
 refine Us I.mX O c.sa c.po n.XW c.hd wi hz λh' O' sb=>h _ ?_;have hd:∃o,h'.get? dx=some o:=let ⟨o,_,_,e',_⟩:=O'.ns;⟨o,e'⟩;refine I.write (x:=a) (e:=dx) (by rw [e];exact True.intro) (.inr ho) (λb q hb z=>(sb.2 b hb).trans z) hd ?_;refine ⟨by rw [bR O.ne];exact ho,?_,O.ne,O'.obj,_,O'.ns,λg=>?_,λg hg=>?_⟩
 ·have:=uv f y fs;omega
 ·show iI ((gK f y fs).lookup g) (if g=f then some u else mA g);rw [Bg]
  by_cases q:g=f
  ·rw [ab q,ab q];exact ry
  ·rw [aa q,aa q];exact r g
 ·by_cases q:g=f
  ·rw [q];exact (yy f y fs).1
  ·refine (yy f y fs).2 g (wi g λz=>hg ?_);show (if g=f then some u else mA g)=none;rw [aa q];exact z
theorem Inv.made (I:Inv X pins σ H s):Inv X pins σ (upd (upd H s.heap.objs.size (.own (s.heap.objs.size+1))) (s.heap.objs.size+1) (.ins C s.heap.objs.size []))
  {s with heap:=(s.heap.push PySem.W.emptyDict).push (PySem.W.instObj C s.heap.objs.size)}:=by
 have e1:(s.heap.push PySem.W.emptyDict).get? s.heap.objs.size=some PySem.W.emptyDict:=aF s.heap rfl;have e2:((s.heap.push PySem.W.emptyDict).push (PySem.W.instObj C s.heap.objs.size)).get? (s.heap.objs.size+1)=some (PySem.W.instObj C s.heap.objs.size):=by
  have:=aF (s.heap.push PySem.W.emptyDict) (o:=PySem.W.instObj C s.heap.objs.size) rfl
  rwa [aV] at this
 have e3:(s.heap.push PySem.W.emptyDict).Ns s.heap.objs.size (λ_=>none):=⟨PySem.W.emptyDict,#[],_,e1,rfl,(λe he=>ai he (by simp)),λ_=>rfl⟩
 have I1:=I.laid (a:=s.heap.objs.size) (o:=.own (s.heap.objs.size+1)) (h':=s.heap.push PySem.W.emptyDict) (t':=s.toks) (λb u q=>aq _ q) (ag _) ⟨_,e1⟩;refine I1.laid (a:=s.heap.objs.size+1) (o:=.ins C s.heap.objs.size []) (t':=s.toks) (λb u q=>aq _ q) (Nat.le_of_eq (aV _ _)) ?_;have ne:s.heap.objs.size≠s.heap.objs.size+1:=aU (Nat.lt_succ_self _);refine ⟨by rw [bR ne,bN],aW _,ne,e2,λ_=>none,(Heap.Ns1.of_empty e3).at λo q=>aq _ q,λ_=>True.intro,λy hy=>ai rfl hy⟩
theorem Ut {prog:Program}{w:World}{env:Env}{e:Expr}{f:Str}{pos:Pos}{s:Shared}{Q:Value->Shared->Prop}(hb:attributeBase e f env (eval e env)=eval e env)
  (h:wpAny (model prog w) A (eval e env) (λo s₁=>wpAny (model prog w) A (getAttr o f true) Q E s₁) E s):wpAny (model prog w) A (eval (.Attribute e f pos) env) Q E s :=
 Attribute_any_ h (by rw [arm_eval_Attribute,hb])
end
inductive Td (K:PySem.W.Frag)(f:Str)(Q:VK)(x:V)(H1:Hp):Prop | mk a C dx fs v:x=.ref a->H1 a=some (.ins C dx fs)->i7 K C->dY K C f->fs.lookup f=some v->Q v H1->Td K f Q x H1
def Iq (K:PySem.W.Frag)(ta:TE)(f:Str):TE:=λσ H Q=>ta σ H λx H1=>Td K f Q x H1
inductive Te (K:PySem.W.Frag)(f:Str)(D:Ends)(σ:St)(y x:V)(H2:Hp):Prop | mk a C dx fs:x=.ref a->H2 a=some (.ins C dx fs)->i7 K C->dY K C f->fs.length<1000->D.nx σ (upd H2 a (.ins C dx (gK f y fs)))->Te K f D σ y x H2
def ZW (K:PySem.W.Frag)(ta tv:TE)(f:Str):TS:=λD σ H=>tv σ H λy H1=>ta σ H1 λx H2=>Te K f D σ y x H2
section
variable {X:Cx}{o e value:Expr}{f:Str}{pos pos' jm:Pos}{ta tv:TE}
theorem bT (he:PE X e ta)(hb:attributeBase e f X.env (eval e X.env)=eval e X.env):PE X (.Attribute e f pos) (Iq X.K ta f):=by intro pins s σ H Q I h;refine Ut hb (cT (he pins s σ H _ I h) λu s1 ⟨x,H1,I1,rx,a,C,dx,fs,v,ex,ea,c,n,l,q⟩=>?_);subst ex;obtain rfl:u=Value.ref a:=rx;exact Nj I1 ea c n l λu' s2 I2 ru=>⟨v,H1,I2,ru,q⟩
theorem cK (ha:PE X o ta)(hv:PE X value tv)(hs:swapsWith value (some (.Attribute o f pos')) pos.line X.env=pure false):PS X (.Assign [.Attribute o f pos'] value pos) (ZW X.K ta tv f):=by intro pins s σ H D I h;refine plainObj_wpAny_Assign_Attribute (cT (hv pins s σ H _ I h) λu s1 ⟨y,H1,I1,ry,q⟩=>cT (ha pins s1 σ H1 _ I1 q) λov s2 ⟨x,H2,I2,rx,a,C,dx,fs,ex,ea,c,n,l,q2⟩=>?_) hs;subst ex;obtain rfl:ov=Value.ref a:=rx;exact Nk I2 ea c n l ry λs3 I3=>⟨σ,_,I3,q2⟩
theorem XN {pl:Sem Bool}{m:Str}{apos:Pos}{args:List Expr}{pins:List (Addr×Obj)}{s:Shared}{σ:St}{H:Hp}{Q:Value->Shared->Prop}{te:TE}(he:PE X e te)(I:Inv X pins σ H s)
  (h:te σ H λx H1=>∃a C dx fs g,x=.ref a/\H1 a=some (.ins C dx fs)/\i7 X.K C/\Meth X.K C m g/\fs.lookup m=none /\
   ∀s1,Inv X pins σ H1 s1->wpAny (model X.prog X.w) X.A (callWith pos (.ref g) [.ref a] (backTo pos (starEach args X.env)) (backToKw pos (keywordEach [] X.env))) Q X.xe s1)
  (ht:eval (.Call (.Attribute e m apos) args [] pos) X.env=(do
   let ov <-eval e X.env
   standAt apos.atName
   let (f,first) <-holding [ov] (getMethod ov m pl)
   callWith pos f first (backTo pos (starEach args X.env)) (backToKw pos (keywordEach [] X.env)))) :
  wpAny (model X.prog X.w) X.A (eval (.Call (.Attribute e m apos) args [] pos) X.env) Q X.xe s:=by
 refine PySem.W.methodCall_KW (pl:=pl) (cT (he pins s σ H _ I h) λu s1 ⟨x,H1,I1,rx,a,C,dx,fs,g,ex,ea,c,k,l,q⟩=>?_) ht;subst ex;obtain rfl:u=Value.ref a:=rx;exact Dg I1 ea c k l (q s1 I1)
end
section
variable {X:Cx}{pins:List (Addr×Obj)}{σ:St}{H:Hp}{s:Shared}{A:Around}{E:Value->Shared->Prop}{Q:Value->Shared->Prop}{c:Value}{b:Bool}
end
end L2
namespace L2
open PySem PySem.Spec PyProof.Rows
structure eE (k:Nat)(A:Around):Prop where
 hd:A.handled=none
 dp:A.depth+3*k+5<recursionLimit
 un:A.units+16*k+200<cLine
theorem eE.mono {j k:Nat}{A:Around}(r:eE k A)(h:j<=k):eE j A:=⟨r.hd,by have:=r.dp;omega,by have:=r.un;omega⟩
theorem eE.deeper {k:Nat}{A:Around}(r:eE (k+1) A)(env:Env):eE k (A.deeper env) :=⟨r.hd,by have:=r.dp;show A.depth+1+3*k+5<_;omega,by have:=r.un;show A.units+3+16*k+200<_;omega⟩
theorem Nl {A:Around}{C:Addr}{us:List Value}{kw:List (Str×Value)}:(A.under (.builtin "type.__call__" ⟨.ref C::us,kw⟩)).depth=A.depth+1:=by first | rfl | simp [Around.under,Code.weight,Code.isCreation,Code.isGuard,Code.isCaller,Code.frames,Code.isFrame,guardIds]
theorem Nm {A:Around}{C:Addr}{us:List Value}{kw:List (Str×Value)}:(A.under (.builtin "type.__call__" ⟨.ref C::us,kw⟩)).units=A.units+1:=by first | rfl | simp [Around.under,Code.cUnits,Code.frames,Code.isFrame]
theorem eE.make {k:Nat}{A:Around}(r:eE (k+1) A)(C:Addr)(us:List Value)(kw:List (Str×Value)):eE k (A.under (.builtin "type.__call__" ⟨.ref C::us,kw⟩)) :=⟨r.hd,by have:=r.dp;rw [Nl];omega,by have:=r.un;rw [Nm];omega⟩
theorem eE.depth {k:Nat}{A:Around}(r:eE k A):A.depth<recursionLimit:=by have:=r.dp;omega
theorem eE.units {k:Nat}{A:Around}(r:eE k A):A.units+64<cLine:=by have:=r.un;omega
def Ir:TA:=λ_ H Q=>Q [] H
def wg (ta:TE)(tr:TA):TA:=λσ H Q=>ta σ H λx H1=>tr σ H1 λxs H2=>Q (x::xs) H2
section
variable {X:Cx}{e:Expr}{es:List Expr}{te:TE}{t:TA}{pos:Pos}
theorem bO:PA X [] Ir:=λ_ _ _ _ H Q I h=>Calls.spliced_nil ⟨[],H,I,.nil,h⟩
theorem bM (ha:PE X e te)(hr:PA X es t)(hs:starEach (e::es) X.env=(false,eval e X.env)::starEach es X.env:=by rfl):PA X (e::es) (wg te t):=by intro pos pins s σ H Q I h;rw [hs];show wpAny _ _ (spliced ((false,eval e X.env)::backTo pos (starEach es X.env))) _ _ s;refine Calls.spliced_cons (cT (ha pins s σ H _ I h) λu s1 ⟨x,H1,I1,r1,q1⟩=>?_);exact cT (hr pos pins s1 σ H1 _ I1 q1) λus s2 ⟨xs,H2,I2,r2,q2⟩=>⟨x::xs,H2,I2,.cons r1 r2,q2⟩
inductive Tf (Q:VK)(xs:List V)(H1:Hp):Prop | mk:xs.length<=sizeLine->(∀p,H1 p=none->Q (.ref p) (upd H1 p (.tup xs)))->Tf Q xs H1
def ZX (t:TA):TE:=λσ H Q=>t σ H λxs H1=>Tf Q xs H1
inductive Tg (Q:VK)(xs:List V)(H1:Hp):Prop | mk:xs.length<=sizeLine->(∀p,H1 p=none->Q (.ref p) (upd H1 p (.lst xs)))->Tg Q xs H1
def ZY (t:TA):TE:=λσ H Q=>t σ H λxs H1=>Tg Q xs H1
theorem ip {x1}(h:PA X es t):PE X (.Tuple es x1 pos) (ZX t):=by intro pins s σ H Q I hq;refine wpAny_Tuple_spliced (cT (h pos pins s σ H _ I hq) λus s1 ⟨xs,H1,I1,r,z,q⟩=>⟨by rw [<-r.length];exact z,?_⟩);have hf:H1 s1.heap.objs.size=none:=I1.cn.fresh (ag _);refine ⟨.ref s1.heap.objs.size,upd H1 s1.heap.objs.size (.tup xs),I1.laid (t':=s1.toks) (λb u e=>aq _ e) (ag _) ?_,rfl,q _ hf⟩;exact ⟨z,us,r,⟨_,aF _ rfl,rfl,_,rfl⟩⟩
theorem ck (h:PA X es t):PE X (.List es pos) (ZY t):=by intro pins s σ H Q I hq;refine wpAny_List_spliced (cT (h pos pins s σ H _ I hq) λus s1 ⟨xs,H1,I1,r,z,q⟩=>⟨by rw [<-r.length];exact z,?_⟩);have hf:H1 s1.heap.objs.size=none:=I1.cn.fresh (ag _);refine ⟨.ref s1.heap.objs.size,upd H1 s1.heap.objs.size (.lst xs),I1.laid (t':=s1.toks) (λb u e=>aq _ e) (ag _) ?_,rfl,q _ hf⟩;exact ⟨z,us,0,r,aF _ rfl⟩
end
abbrev Sp:=List V->Hp->VK->XK->Prop
abbrev xN:=List Env->Hp->Shared->XK->Value->Shared->Prop
structure B7 (P:Program)(w:World)(K:PySem.W.Frag)(mg:Str->Option Value)(base:Heap)(A:Around)(outer:List Env)(s:Shared)(H:Hp):Prop where
 frames:A.frames=some outer
 mod:Mod K mg base
 bs:∀b o,base.get? b=some o->s.heap.get? b=some o/\H b=none
 Bb:base.objs.size<=s.heap.objs.size
 pw:s.heap.FunFrames base outer
 Ig:∀b∈yt outer,H b=none
 cn:dN P w H s.heap
 bare:AllBare s.gens
def CE (outer:List Env)(P:Program)(w:World)(H:Hp)(s:Shared)(Q:VK)(u:Value)(s':Shared):Prop :=∃v H',s'.os=s.os/\AllBare s'.gens/\Un (yt outer) [] H H' s.heap s'.heap/\dN P w H' s'.heap/\RelV v u/\Q v H'
def CR (CX:xN)(outer:List Env)(P:Program)(w:World)(H:Hp)(s:Shared)(Q:VK)(E:XK)(r:Result)(s':Shared):Prop :=
 match r with
 | .ok (.ret u)=>CE outer P w H s Q u s'
 | .ok _=>False
 | .error e=>CX outer H s E e s'
structure jD (P:Program)(w:World)(K:PySem.W.Frag)(mg:Str->Option Value)(base:Heap)(CX:xN)(k:Nat)(f:Addr)(fd:FuncData)(ps:List Str)(sp:Sp):Prop where
 len:∀vs H Q E,sp vs H Q E->vs.length=ps.length
 run:∀(A:Around)(outer:List Env)(s:Shared)(H:Hp)(args:Args)(us:List Value)(vs:List V)(Q:VK)(E:XK),eE k A->B7 P w K mg base A outer s H->BindsTo s fd args (ps.zip us)->Vals vs us->sp vs H Q E ->
  codeAny (model P w) A (.call (.ref f) args) (CR CX outer P w H s Q E) s
theorem B7.make {P:Program}{w:World}{K:PySem.W.Frag}{mg:Str->Option Value}{base:Heap}{A:Around}{outer:List Env}{s:Shared}{H:Hp}(e:B7 P w K mg base A outer s H)(C:Addr)(us:List Value)(kw:List (Str×Value)) :
  B7 P w K mg base (A.under (.builtin "type.__call__" ⟨.ref C::us,kw⟩)) outer s H:=⟨by first | exact e.frames | (simpa [Around.under,Code.envs,Code.isFrame,pushEnvs] using e.frames),e.mod,e.bs,e.Bb,e.pw,e.Ig,e.cn,e.bare⟩
section
variable {X:Cx}{pins:List (Addr×Obj)}{σ:St}{H:Hp}{s s':Shared}
theorem Inv.VI (I:Inv X pins σ H s):B7 X.prog X.w X.K X.mg X.base X.A X.stack s H :=⟨I.ok.frames,I.ok.mod,I.bs,aN I.ok.Bb I.sz,I.stack,I.LP,I.cn,I.bare⟩
theorem Inv.after {Q:VK}{u:Value}(I:Inv X pins σ H s)(h:CE X.stack X.prog X.w H s Q u s'):EP X pins σ Q u s':=by obtain ⟨v,H',os,bare,un,cn,r,q⟩:=h;obtain ⟨hh,g,d,t,os'⟩:=s';obtain rfl:os'=s.os:=os;exact ⟨v,H',I.call (h':=hh) (g':=g) (d':=d) (t':=t) (ch:=[]) un cn bare (λb z=>ai z (by simp)),r,q⟩
end
def HJ (sp:Sp)(mY:List V)(E:XK)(t:TA):TE:=λσ H Q=>t σ H λvs H1=>sp (vs++mY) H1 Q E
inductive Ph (C:Addr)(m:Str)(sp:Sp)(mY:List V)(E:XK)(t:TA)(σ:St)(Q:VK)(x:V)(H1:Hp):Prop | mk a dx fs:x=.ref a->H1 a=some (.ins C dx fs)->fs.lookup m=none->(t σ H1 λvs H2=>sp (x::(vs++mY)) H2 Q E)->Ph C m sp mY E t σ Q x H1
def Th (C:Addr)(m:Str)(sp:Sp)(mY:List V)(E:XK)(ta:TE)(t:TA):TE:=λσ H Q=>ta σ H λx H1=>Ph C m sp mY E t σ Q x H1
def Binds (K:PySem.W.Frag)(fd:FuncData)(ps:List Str)(ds:List Value):Prop :=∀(s:Shared)(us:List Value),K.In s.heap->(us++ds).length=ps.length->BindsTo s fd ⟨us,[]⟩ (ps.zip (us++ds))
theorem Binds.all {K:PySem.W.Frag}{fd:FuncData}{ps:List Str}(h:∀us:List Value,us.length=ps.length->bindArgs fd ⟨us,[]⟩=pure (ps.zip us)):Binds K fd ps []:=λs us _ hl=>by rw [aX] at hl ⊢;exact .of_eq (h us hl)
def Passes (CX:xN)(X:Cx)(E:XK):Prop:=∀(pins:List (Addr×Obj))(σ:St)(H:Hp)(s:Shared)(e:Value)(s':Shared),Inv X pins σ H s->CX X.stack H s E e s'->X.xe e s'
section
variable {X:Cx}{CX:xN}{k:Nat}{f C:Addr}{fd:FuncData}{ps:List Str}{sp:Sp}{mY:List V}{ds:List Value}{E:XK}{x m:Str}{p pos apos:Pos}{e o:Expr}{es:List Expr}{ta:TE}{t:TA}
theorem Pj {pins:List (Addr×Obj)}{σ:St}{H:Hp}{s:Shared}{Q:VK}{us:List Value}{vs:List V}(F:jD X.prog X.w X.K X.mg X.base CX k f fd ps sp)(hr:eE k X.A)(hb:Binds X.K fd ps ds)(hd:Vals mY ds)(hx:Passes CX X E)
  (I:Inv X pins σ H s) (r:Vals vs us) (h:sp (vs++mY) H Q E):wpAny (model X.prog X.w) X.A (call (.ref f) us) (EP X pins σ Q) X.xe s:=by
 have r2:Vals (vs++mY) (us++ds):=r.append hd;have hl:(us++ds).length=ps.length:=by rw [<-r2.length];exact F.len _ _ _ _ h
 refine wpAny_call (codeAny_mono (F.run X.A X.stack s H ⟨us,[]⟩ (us++ds) (vs++mY) Q E hr I.VI (hb s us I.mX hl) r2 h) λr s' hq=>?_);cases r with
 | error e=>exact hx pins σ H s e s' I hq
 | ok fl =>
  cases fl with
  | ret u=>exact I.after hq
  | next=>exact False.elim hq
  | brk=>exact False.elim hq
  | cont=>exact False.elim hq
theorem Uu (F:jD X.prog X.w X.K X.mg X.base CX k f fd ps sp)(hr:eE k X.A)(hg:Gl X x)(hm:X.mg x=some (.ref f))(hk:PySem.W.keepIn X.K (.ref f)=true)(hb:Binds X.K fd ps ds)(hd:Vals mY ds)(hx:Passes CX X E)
  (ha:PA X (e::es) t) (Dh:(x == ("__debug__":Str))=false:=by decide) (he:starEach (e::es) X.env=(false,eval e X.env)::starEach es X.env:=by rfl) (ib:(backTo pos (starEach es X.env)).any (·.1)=false:=by rfl) :
  PE X (.Call (.Name x p) (e::es) [] pos) (HJ sp mY E t):=by
 intro pins s σ H Q I h;refine wpAny_Call_Name_kw (vi I hg hm ?_ Dh);refine PySem.W.callWith_K (h₀:=X.base) I.ok.mod.LN hk (cT (ha pos pins s σ H _ I h) λus s1 ⟨vs,H1,I1,r,q⟩=>⟨I1.mX,?_⟩) he ib;exact Pj F hr hb hd hx I1 r q
theorem Uv {pl:Sem Bool}(he:PE X o ta)(c:i7 X.K C)(hm:Meth X.K C m f)(F:jD X.prog X.w X.K X.mg X.base CX k f fd ps sp)(hr:eE k X.A)(hb:Binds X.K fd ps ds)(hd:Vals mY ds)(hx:Passes CX X E)(ha:PA X (e::es) t)
  (qQ:starEach (e::es) X.env=(false,eval e X.env)::starEach es X.env:=by rfl) (ib:(backTo pos (starEach es X.env)).any (·.1)=false:=by rfl)
  (ht:eval (.Call (.Attribute o m apos) (e::es) [] pos) X.env=(do
   let ov <-eval o X.env
   standAt apos.atName
   let (f,first) <-holding [ov] (getMethod ov m pl)
   callWith pos f first (backTo pos (starEach (e::es) X.env)) (backToKw pos (keywordEach [] X.env))):=by rfl) :
  PE X (.Call (.Attribute o m apos) (e::es) [] pos) (Th C m sp mY E ta t):=by
 intro pins s σ H Q I h;refine PySem.W.methodCall_KW (pl:=pl) (cT (he pins s σ H _ I h) λu s1 ⟨x,H1,I1,rx,a,dx,fs,ex,ea,l,q⟩=>?_) ht;subst ex;obtain rfl:u=Value.ref a:=rx;refine Dg I1 ea c hm l ?_;refine PySem.W.callWith_K (first:=[.ref a]) (h₀:=X.base) I.ok.mod.LN hm.kp (cT (ha pos pins s1 σ H1 _ I1 q) λus s2 ⟨vs,H2,I2,r,q2⟩=>⟨I2.mX,?_⟩) qQ ib;exact Pj (us:=.ref a::us) (vs:=.ref a::vs) F hr hb hd hx I2 (.cons rfl r) q2
structure Mk (K:PySem.W.Frag)(C f:Addr):Prop where
 makes:PySem.W.makesIn K C=true
 init:PySem.W.findIn K (.ref C) "__init__"=some (some (.ref f))
 fn:PySem.W.isFn K (.ref f)=true
 kp:PySem.W.keepIn K (.ref C)=true
theorem B8 {pins:List (Addr×Obj)}{σ:St}{H:Hp}{s:Shared}{Q:VK}{us:List Value}{vs:List V}(M:Mk X.K C f)(F:jD X.prog X.w X.K X.mg X.base CX k f fd ps sp)(hr:eE (k+1) X.A)(hb:Binds X.K fd ps ds)(hd:Vals mY ds)
  (hx:Passes CX X E) (I:Inv X pins σ H s) (r:Vals vs us)
  (h:∀x dx,H x=none->H dx=none->dx≠x->sp (.ref x::(vs++mY)) (upd (upd H dx (.own x)) x (.ins C dx [])) (λv H2=>v=.cw/\Q (.ref x) H2) E) :
  wpAny (model X.prog X.w) X.A (call (.ref C) us) (EP X pins σ Q) X.xe s:=by
 have hq:=h (s.heap.objs.size+1) s.heap.objs.size (I.cn.fresh (Nat.le_succ _)) (I.cn.fresh (ag _)) (aU (Nat.lt_succ_self _));have I2:=Inv.made (C:=C) I;have r2:Vals (V.ref (s.heap.objs.size+1)::(vs++mY)) (Value.ref (s.heap.objs.size+1)::(us++ds)):=.cons rfl (r.append hd);have hl:(Value.ref (s.heap.objs.size+1)::us++ds).length=ps.length:=by have e:=r2.length;rw [F.len _ _ _ _ hq] at e;exact e.symm
 refine wpAny_call (Ru (f:=f) I.mX M.makes M.init (beq_iff_eq.mp M.fn) (codeAny_mono (F.run _ X.stack _ _ ⟨Value.ref (s.heap.objs.size+1)::us,[]⟩ (Value.ref (s.heap.objs.size+1)::(us++ds)) _ _ E (hr.make C us [])
  (I2.VI.make C us []) (hb _ (Value.ref (s.heap.objs.size+1)::us) I2.mX hl) r2 hq) λr s' Bh=>?_))
 cases r with
 | error e=>exact hx pins σ _ _ e s' I2 Bh
 | ok fl =>
  cases fl with
  | ret u =>obtain ⟨v,H',I3,rv,ev,q3⟩:=I2.after Bh;subst ev;exact ⟨rv,⟨V.ref (s.heap.objs.size+1),H',I3,rfl,q3⟩⟩
  | next=>exact False.elim Bh
  | brk=>exact False.elim Bh
  | cont=>exact False.elim Bh
end
section
variable {X:Cx}{CX:xN}{k:Nat}{f C:Addr}{fd:FuncData}{ps ks:List Str}{sp:Sp}{E:XK}{x m:Str}{p pos apos kpos:Pos}{e o:Expr}{es:List Expr}{kws:List Keyword}{te ta:TE}{t tk:TA}{nm:Option Str}
variable {g:List Value->List Value->List Value}{gV:List V->List V->List V}
end
structure bX (N P:List Str)(sc:Scope):Prop where
 kind:sc.kind=.function
 co:sc.isCoroutine=false
 gen:sc.isGenerator=false
 nd:N.Nodup
 pre:N.take P.length=P
 par:∀x∈P,sc.names.lookup x=some .local\/sc.names.lookup x=some .cell
 VJ:∀y∈sc.names,y.2≠.free
theorem F4 {kindOf:Str->Option NameKind}{x:Str}:∀{binds:List (Str×Value)}{m:Str->Option Value},(∀v,(x,v)∉binds)->bindL kindOf binds m x=m x
 | [],_,_=>rfl
 | (n,v)::r,m,h=>by
  unfold bindL;rw [F4 λw hw=>h w (aA _ hw)]
  split
  ·have:x≠n:=by rintro rfl;exact h v aE
   simp [this]
  ·rfl
theorem F5 {kindOf:Str->Option NameKind}{x:Str}:∀{binds:List (Str×Value)}{m:Str->Option Value},(∀v,(x,v)∉binds)->bindC kindOf binds m x=m x
 | [],_,_=>rfl
 | (n,v)::r,m,h=>by
  unfold bindC;rw [F5 λw hw=>h w (aA _ hw)]
  split
  ·rfl
  ·have:x≠n:=by rintro rfl;exact h v aE
   simp [this]
theorem F6 {kindOf:Str->Option NameKind}{x:Str}{v:Value}:∀{P:List Str}{vs:List Value}{i:Nat}{m:Str->Option Value},P.Nodup->P[i]?=some x->vs[i]?=some v->kindOf x=some .local ->
  bindL kindOf (P.zip vs) m x=some v
 | [],_,_,_,_,h,_,_=>by simp at h
 | _::_,[],_,_,_,_,h,_=>by simp at h
 | p::P,w::vs,0,m,nd,h1,h2,hk=>by simp at h1 h2;subst h1;subst h2;show bindL kindOf ((p,w)::P.zip vs) m p=_;unfold bindL;rw [F4 λv hv=>(List.nodup_cons.mp nd).1 (List.of_mem_zip hv).1,ab hk];simp
 | p::P,w::vs,i+1,m,nd,h1,h2,hk=>by show bindL kindOf ((p,w)::P.zip vs) m x=_;unfold bindL;exact F6 (i:=i) (List.nodup_cons.mp nd).2 (by simpa using h1) (by simpa using h2) hk
theorem F7 {kindOf:Str->Option NameKind}{x:Str}{v:Value}:∀{P:List Str}{vs:List Value}{i:Nat}{m:Str->Option Value},P.Nodup->P[i]?=some x->vs[i]?=some v->kindOf x≠some .local ->
  bindC kindOf (P.zip vs) m x=some v
 | [],_,_,_,_,h,_,_=>by simp at h
 | _::_,[],_,_,_,_,h,_=>by simp at h
 | p::P,w::vs,0,m,nd,h1,h2,hk=>by simp at h1 h2;subst h1;subst h2;show bindC kindOf ((p,w)::P.zip vs) m p=_;unfold bindC;rw [F5 λv hv=>(List.nodup_cons.mp nd).1 (List.of_mem_zip hv).1,aa hk];simp
 | p::P,w::vs,i+1,m,nd,h1,h2,hk=>by show bindC kindOf ((p,w)::P.zip vs) m x=_;unfold bindC;exact F7 (i:=i) (List.nodup_cons.mp nd).2 (by simpa using h1) (by simpa using h2) hk
def start (N:List Str)(vs:List V):St:=vs.map some++List.replicate (N.length - vs.length) none
def wj (CX:xN)(P:Program)(w:World)(K:PySem.W.Frag)(mg:Str->Option Value)(base:Heap)(N:List Str)(qual:Str)(scope:Scope)(f:Addr)(cd:Value)(A:Around)(outer:List Env)(s:Shared)(H:Hp)(E:XK):Cx where
 prog:=P
 w:=w
 K:=K
 mg:=mg
 base:=base
 A:=A.deeper (envOfC qual scope s.heap.objs.size f cd)
 N:=N
 lT:=s
 O2:=H
 env:=envOfC qual scope s.heap.objs.size f cd
 outer:=outer
 stack:=envOfC qual scope s.heap.objs.size f cd::outer
 ex:=[]
 calm:=true
 fn:=λ_=>true
 pn:=[]
 xe:=λe s'=>wpAny (model P w) (A.deeper (envOfC qual scope s.heap.objs.size f cd)) (leaving (envOfC qual scope s.heap.objs.size f cd) e) (λ_ s''=>CX outer H s E e s'') (λe' s''=>CX outer H s E e' s'') s'
theorem Iu {sc:Scope}{n:Nat}{x:Str}(h:sc.names.lookup x=some .cell):∃c,(cellsFrom n sc.names []).lookup x=some c:=by have q:=PySem.W.cellsFrom_some sc.names n [] (.inl h);exact Option.isSome_iff_exists.mp q
theorem jE {CX:xN}{P:Program}{w:World}{K:PySem.W.Frag}{mg:Str->Option Value}{base:Heap}{N ps:List Str}{qual:Str}{scope:Scope}{f:Addr}{cd:Value}{A:Around}{outer:List Env}{s s1:Shared}{H:Hp}{E:XK}{us:List Value}{vs:List V}
  (S:bX N ps scope) (hd:A.handled=none) (e0:B7 P w K mg base A outer s H) (hl:vs.length=ps.length) (r:Vals vs us)
  (x:InCallC s s.heap.objs.size (bindL (envOfC qual scope s.heap.objs.size f cd).kindOf (ps.zip us) λ_=>none) (cellsFrom (s.heap.objs.size+1) scope.names []) (bindC (envOfC qual scope s.heap.objs.size f cd).kindOf (ps.zip us) λ_=>none) s1) :
  Inv (wj CX P w K mg base N qual scope f cd A outer s H E) [] (start N vs) H s1:=by
 have ib:ps.length<=N.length:=by have:=congrArg List.length S.pre;rw [aO] at this;omega
 obtain ⟨h1,tk,rfl,hk⟩:=x.done;have noA:∀b:Addr,b∉(wj CX P w K mg base N qual scope f cd A outer s H E).ex:=λb z=>ai (show b∈([]:List Addr) from z) (by simp);refine ⟨⟨e0.mod,S.kind,rfl,rfl,ag _,λy z c h1 h2=>?_,λy hy=>?_,λy c _ h=>?_,λ_=>hd,Around.frames_deeper e0.frames,.inr ⟨rfl,rfl⟩,λb z=>ai z (noA b),e0.bs,e0.Bb,λb _ _=>noA b,λb z=>ai z (noA b),e0.pw,e0.Ig⟩,
  rfl,e0.bare,Un.kept hk,⟨_,x.toInCall.ns,λi y v h1 h2 h3=>?_⟩,λy c h=>⟨_,x.cell y c h⟩,e0.cn.fresh (ag _),λy c h=>?_,λp hp=>ai (show p∈([]:List (Addr×Obj)) from hp) (by simp),e0.cn.kept hk,?_⟩
 ·exact name_of_addr x.apart (PySem.mem_of_lookup h1) (PySem.mem_of_lookup h2)
 ·have hy:scope.names.lookup y=some .cell\/scope.names.lookup y=some .free:=hy;rcases hy with hy | hy
  ·exact Iu hy
  ·exact ai rfl (S.VJ _ (PySem.mem_of_lookup hy))
 ·exact aJ (x.above y c (PySem.mem_of_lookup h))
 ·have hi:i<vs.length:=by
   unfold start at h2
   by_cases hi:i<vs.length
   ·exact hi
   ·rw [bA (by simpa using hi)] at h2;rw [List.getElem?_replicate] at h2
    split at h2 <;> cases h2
  have ha:vs[i]?=some v:=by
   unfold start at h2;rw [bu (by simpa using hi),aS] at h2;cases e:vs[i]? with
   | none=>rw [e] at h2;cases h2
   | some a=>rw [e] at h2;cases h2;rfl
  obtain ⟨u,hu,rv⟩:=r.get ha;have hp:ps[i]?=some y:=by rw [<-S.pre,List.getElem?_take_of_lt (by omega)];exact h1
  have ndP:ps.Nodup:=by rw [<-S.pre];exact S.nd.sublist (List.take_sublist _ _)
  refine ⟨u,rv,?_⟩;rcases S.par y (aM hp) with k | k
  ·exact .inl ⟨k,F6 ndP hp hu k⟩
  ·obtain ⟨c,e⟩:=Iu (n:=s.heap.objs.size+1) k;refine .inr ⟨.inl k,c,e,?_⟩;have q:=x.cell y c e;rw [F7 ndP hp hu (by show scope.names.lookup y≠_;rw [k];decide)] at q;exact q
 ·exact e0.cn.fresh (aJ (x.above y c (PySem.mem_of_lookup h)))
 ·unfold start;show _=N.length;rw [ay,af,List.length_replicate];omega
theorem XX {CX:xN}{P:Program}{w:World}{K:PySem.W.Frag}{mg:Str->Option Value}{base:Heap}{k:Nat}{f:Addr}{name qual:Str}{params:Arguments}{body:List Stmt}{scope:Scope}{dV kV doc pm du ct oc:Value}{an od:Option Addr}
  {osl:Array (Option Value)} {N ps:List Str} {sp:Sp} (lk:K.lookup f=some ⟨oc,od,.func (PySem.W.fnOf name qual params body scope dV kV doc pm an du ct),osl⟩) (oO:PySem.W.codeIn K du qual=true) (S:bX N ps scope)
  (len:∀vs H Q E,sp vs H Q E->vs.length=ps.length)
  (qr:∀(A:Around)(outer:List Env)(s:Shared)(H:Hp)(vs:List V)(Q:VK)(E:XK),eE k (A.deeper (envOfC qual scope s.heap.objs.size f du))->sp vs H Q E ->
   ∃t,p6 (wj CX P w K mg base N qual scope f du A outer s H E) body t/\t {nx:=λ_ H'=>Q .cw H',rt:=Q} (start N vs) H) :
  jD P w K mg base CX (k+1) f (PySem.W.fnOf name qual params body scope dV kV doc pm an du ct) ps sp:=by
 refine ⟨len,λA outer s H args us vs Q E hr e0 hb r oS=>?_⟩;have hl:=len _ _ _ _ oS;have KX:K.In s.heap:=e0.mod.LN.keeps λb o e=>(e0.bs b o e).1;have lim:s.heap.NoLimit:=e0.mod.nolimit.keeps λb o e=>(e0.bs b o e).1;have XY:∀y∈ps.zip us,scope.names.lookup y.1=some .local\/(scope.names.lookup y.1=some .cell/\((cellsFrom (s.heap.objs.size+1) scope.names []).lookup y.1).isSome=true):=λ⟨n,v⟩ hy=>by
  rcases S.par n (List.of_mem_zip hy).1 with q | q
  ·exact .inl q
  ·exact .inr ⟨q,PySem.W.cellsFrom_some _ _ _ (.inl q)⟩
 refine codeAny_call_function hr.depth (KX _ _ lk) rfl S.co S.gen rfl (PySem.W.codeRec_of KX oO) (hb _ _ _ _ ?_);refine wpAny_newFunctionEnv_cells S.kind XY λenv he s1 x=>?_;subst he;refine ⟨lim.keeps x.toInCall.keep,codeAny_func ?_⟩;obtain ⟨t,ht,hq⟩:=qr A outer s H vs Q E (hr.deeper _) oS;have I:Inv (wj CX P w K mg base N qual scope f du A outer s H E) [] (start N vs) H s1:=jE S hr.hd e0 hl r x;refine wpAny_mono (ht [] s1 (start N vs) H _ I hq) (λfl s' hs=>?_) λe s' hs=>hs;have fin:∀{σ':St}{H':Hp}{v:V}{u:Value},Inv (wj CX P w K mg base N qual scope f du A outer s H E) [] σ' H' s'->RelV v u->Q v H'->CE outer P w H s Q u s' :=λ{σ' H' v u} J rv q=>⟨v,H',J.os,J.bare,J.base,J.cn,rv,q⟩
 cases fl with
 | ret u =>obtain ⟨v,σ',H',J,rv,q⟩:=hs;exact fin J rv q
 | next =>obtain ⟨σ',H',J,q⟩:=hs;exact fin (v:=V.cw) (u:=Value.none) J rfl q
 | brk =>obtain ⟨_,_,_,q⟩:=hs;exact False.elim q
 | cont =>obtain ⟨_,_,_,q⟩:=hs;exact False.elim q
end L2
namespace L2
open PySem PySem.Spec PyProof.Rows
section
variable {X:Cx}{x:Str}{p pos:Pos}{e:Expr}{es:List Expr}{t:TA}{id T:String}{r:List V->Hp->VK->Prop}
def VL (r:List V->Hp->VK->Prop)(t:TA):TE:=λσ H Q=>t σ H λvs H1=>r vs H1 Q
theorem cv (hc:j3 X (.builtin id) r)(hg:Gl X x)(hm:X.mg x=none)(hv:bootBuiltins x=some (.builtin id))(ha:PA X (e::es) t)(hn:x≠"__name__":=by decide)(Dh:(x == ("__debug__":Str))=false:=by decide)
  (he:starEach (e::es) X.env=(false,eval e X.env)::starEach es X.env:=by rfl) (ib:(backTo pos (starEach es X.env)).any (·.1)=false:=by rfl):PE X (.Call (.Name x p) (e::es) [] pos) (VL r t):=by
 intro pins s σ H Q I h;refine wpAny_Call_Name_kw (qO I hg hm hv ?_ hn Dh);exact PyProof.Rows.callWith_builtin1 (cT (ha pos pins s σ H _ I h) λus s1 ⟨vs,H1,I1,r1,q1⟩=>hc pins s1 σ H1 vs us Q I1 r1 q1) he ib
theorem gy (hc:j3 X (.type T) r)(hg:Gl X x)(hm:X.mg x=none)(hv:bootBuiltins x=some (.type T))(ha:PA X (e::es) t)(hn:x≠"__name__":=by decide)(Dh:(x == ("__debug__":Str))=false:=by decide)
  (he:starEach (e::es) X.env=(false,eval e X.env)::starEach es X.env:=by rfl) (ib:(backTo pos (starEach es X.env)).any (·.1)=false:=by rfl):PE X (.Call (.Name x p) (e::es) [] pos) (VL r t):=by
 intro pins s σ H Q I h;refine wpAny_Call_Name_kw (qO I hg hm hv ?_ hn Dh);exact PyProof.Rows.callWith_type1 (cT (ha pos pins s σ H _ I h) λus s1 ⟨vs,H1,I1,r1,q1⟩=>hc pins s1 σ H1 vs us Q I1 r1 q1) he ib
end
end L2
namespace HT
open PySem PyProof.Rows
section
open PySem.SeqAt
open PySem.AutoSeq1 (wpAny_loadPart')
open PySem.MeetsSeq PySem.MeetsSeq2 PySem.MeetsSeq3
end
section
variable {prog:Program}{w:World}{A:Around}{E:Value->Shared->Prop}{s:Shared}
theorem Uw {t b:Addr}{vs ws:List Value}{Q:Value->Shared->Prop}(ht:IsTup s.heap t vs.toArray)(hb:IsTup s.heap b ws.toArray)(hv:vs≠[])
  (h1:ws=[]->Q (.ref t) s) (h2:ws≠[]->Q (.ref s.heap.objs.size) {s with heap:=s.heap.push {cls:=.type "tuple",data:=.seq (vs++ws).toArray}})
  (hsz:vs.length+ws.length<=sizeLine):wpAny (model prog w) A (binaryOp .Add (.ref t) (.ref b)) Q E s:=by
 obtain ⟨⟨cls,dd,data,sl⟩,ho,hc,n,hd⟩:=id ht;obtain ⟨⟨cls2,dd2,data2,sl2⟩,Di,eB,n2,hd2⟩:=id hb;simp only at hc hd eB hd2;subst hc hd eB hd2;have e:vs.toArray++ws.toArray=(vs++ws).toArray:=by simp
 by_cases hw:ws=[]
 ·exact concat_meets ⟨_,ho,rfl⟩ ⟨_,Di,rfl⟩ noFill_tuple_add seq_tuple_add PySem.F.slot_tuple_add PySem.F.entry_tuple_add (PySem.F.args_tuple_add_2 _ _)
   (tuple_addW1 t b vs.toArray ws.toArray n n2 dd dd2 sl sl2 (by simpa using hv) (by simp [hw])) ⟨ho,Di,h1 hw⟩
 ·refine concat_meets ⟨_,ho,rfl⟩ ⟨_,Di,rfl⟩ noFill_tuple_add seq_tuple_add PySem.F.slot_tuple_add PySem.F.entry_tuple_add (PySem.F.args_tuple_add_2 _ _)
   (tuple_addW2 t b vs.toArray ws.toArray n n2 dd dd2 sl sl2 (by simpa using hv) (by simpa using hw) (by rw [aG,aG];exact hsz)) ⟨ho,Di,?_⟩
  rw [e];exact h2 hw
def cZ (n d:Nat):Option Int->Nat
 | none=>d
 | some v=>if v<0 then (v+(n:Int)).toNat else min v.toNat n
theorem wk (n d:Nat):cZ n d none=d:=rfl
theorem m8 (n d k:Nat):cZ n d (some (k:Int))=min k n:=by show (if (k:Int)<0 then ((k:Int)+(n:Int)).toNat else min (k:Int).toNat n)=min k n;rw [aa (by omega),Int.toNat_natCast]
theorem VM (n d:Nat)(hd:d<=n)(o:Option Int):cZ n d o<=n:=by
 cases o with
 | none=>exact hd
 | some v =>
  show (if v<0 then (v+(n:Int)).toNat else min v.toNat n)<=n
  by_cases hv:v<0
  ·rw [ab hv];omega
  ·rw [aa hv];exact Nat.min_le_right _ _
theorem LW (v:Int)(n d:Nat):(if v<0 then max (v+(n:Int)) 0 else min v (n:Int))=((cZ n d (some v):Nat):Int):=by
 show (if v<0 then max (v+(n:Int)) 0 else min v (n:Int))=(((if v<0 then (v+(n:Int)).toNat else min v.toNat n):Nat):Int)
 by_cases hv:v<0
 ·simp only [ab hv];omega
 ·simp only [aa hv];omega
theorem Nn (lo hi:Option Int)(n:Nat):Builtin.Slice.sliceAdjust lo hi 1 (n:Int)=(((cZ n 0 lo:Nat):Int),((cZ n n hi:Nat):Int)):=by
 have h1:¬((1:Int)<0):=by omega
 unfold Builtin.Slice.sliceAdjust;simp only [h1,if_false];refine Prod.ext ?_ ?_
 ·cases lo with
  | none=>rfl
  | some v=>exact LW v n 0
 ·cases hi with
  | none=>rfl
  | some v=>exact LW v n n
theorem Np (i j:Nat):Builtin.Slice.slicePlaces (i:Int) (j:Int) 1=j - i:=by
 unfold Builtin.Slice.slicePlaces;have h1:(1:Int) > 0:=by omega
 simp only [h1,if_true,Int.ediv_one]
 split <;> omega
theorem Dj {v:Value}{o:Option Int}{Q:Option Int->Shared->Prop}(p:IsPart v o)(h:Q o s):wpAny (model prog w) A (Builtin.Slice.slicePartIndex v) Q E s:=by
 cases p with
 | none=>exact slicePart_none h
 | int i t=>exact slicePart_int h
theorem qS {sl:Addr}{vl vu:Value}{lo hi:Option Int}{n:Nat}{Q:Int×Int×Nat->Shared->Prop}(hs:s.heap.IsSliceOf sl vl vu .none)(pl:IsPart vl lo)(pu:IsPart vu hi)
  (h:Q (((cZ n 0 lo:Nat):Int),1,cZ n n hi - cZ n 0 lo) s):wpAny (model prog w) A (Builtin.Slice.sliceApplied (.ref sl) (pure (n:Int))) Q E s:=by
 obtain ⟨os,Iv,Bj,Pk⟩:=id hs;unfold Builtin.Slice.sliceApplied Builtin.Slice.sliceFields;refine ae (ae (aR Iv Pk (x:=vl) rfl (ae (aR Iv Pk (x:=vu) rfl (ae (aR Iv Pk (x:=.none) rfl (ah ?_)))))));refine ae (slicePart_none ?_);show wpAny _ _ (if ((1:Int) == 0)=true then _ else _) _ _ s;rw [aa (by decide)];refine ae (Dj pl (ae (Dj pu (ae (ah ?_)))));show wpAny _ _ (match Builtin.Slice.sliceAdjust lo hi 1 (n:Int) with | (lo,hi)=>pure (lo,(1:Int),Builtin.Slice.slicePlaces lo hi 1)) _ _ s;rw [Nn lo hi n];show wpAny _ _ (pure (((cZ n 0 lo:Nat):Int),(1:Int),Builtin.Slice.slicePlaces ((cZ n 0 lo:Nat):Int) ((cZ n n hi:Nat):Int) 1)) _ _ s;rw [Np];exact ah h
theorem Rv (xs:Array Value)(i k:Nat):((List.range k).filterMap λ(m:Nat)=>xs[((i:Int)+(m:Int)*1).toNat]?).toArray=((xs.toList.drop i).take k).toArray:=by
 have e:(λ(m:Nat)=>xs[((i:Int)+(m:Int)*1).toNat]?)=λm=>xs[i+m]?:=by
  funext m
  have:((i:Int)+(m:Int)*1).toNat=i+m:=by omega
  rw [this]
 rw [e]
 have:=pick_run xs i k
 rw [List.filterMap_map] at this;have e2:((λx=>xs[x]?)∘λx=>i+x)=λm=>xs[i+m]?:=rfl;rw [e2] at this;rw [this]
theorem A1 {t sl:Addr}{items:Array Value}{vl vu:Value}{lo hi:Option Int}{Q:Value->Shared->Prop}(ht:IsTup s.heap t items)(hs:s.heap.IsSliceOf sl vl vu .none)(pl:IsPart vl lo)(pu:IsPart vu hi)
  (hw:¬(cZ items.size 0 lo=0/\cZ items.size items.size hi=items.size))
  (h:Q (.ref s.heap.objs.size) {s with heap:=s.heap.push {cls:=.type "tuple",data:=.seq ((items.toList.drop (cZ items.size 0 lo)).take (cZ items.size items.size hi - cZ items.size 0 lo)).toArray}})
  (hsz:items.size<=sizeLine):wpAny (model prog w) A (getItem (.ref t) (.ref sl)) Q E s:=by
 have HK:sizeOk (.seq ((items.toList.drop (cZ items.size 0 lo)).take (cZ items.size items.size hi - cZ items.size 0 lo)).toArray):=by show ((items.toList.drop (cZ items.size 0 lo)).take (cZ items.size items.size hi - cZ items.size 0 lo)).toArray.size<=sizeLine;rw [aG,aO,bg,Array.length_toList];omega
 have hj:cZ items.size items.size hi<=items.size:=VM _ _ (ag _) hi;obtain ⟨os,Iv,Bj,Pk⟩:=id hs;have VN:s.TypeIs (.ref sl) "slice":=⟨os,Iv,Bj⟩
 unfold getItem
 try with_reducible refine wpAny_holding ?_
 first | refine ae (ah ?_) | skip
 refine ae (wpAny_sequenceKey ht.typeIs (by decide) ?_);refine ae (wpAny_callSpecial?_slot (name:=Str.ofString "__getitem__") ht.typeIs PyProof.Rows.slot_tuple_getitem
  (wpAny_call_entry PyProof.Rows.slot_tuple_getitem ht.typeIs entry_tuple_getitem ?_ (args_tuple_getitem _ _)))
 show wpAny _ _ (Builtin.Tuple.tupleItemsOf (.ref t) >>= _) _ _ s;refine ae (tupleItemsOf_ ht ?_);refine ae (wpAny_typeOf VN ?_);rw [ab (by decide)];refine ae (qS hs pl pu ?_);have yz:¬((((cZ items.size 0 lo:Nat):Int) == 0 && (1:Int) == 1 && (cZ items.size items.size hi - cZ items.size 0 lo) == items.size)=true):=by intro q;rw [bc,bc] at q;have q1:((cZ items.size 0 lo:Nat):Int)=0:=eq_of_beq q.1.1;have q2:cZ items.size items.size hi - cZ items.size 0 lo=items.size:=eq_of_beq q.2;exact hw ⟨by omega,by omega⟩
 show wpAny _ _ (if (((cZ items.size 0 lo:Nat):Int) == 0 && (1:Int) == 1 && (cZ items.size items.size hi - cZ items.size 0 lo) == items.size)=true then _ else _) _ _ s;rw [aa yz,Rv]
 first
  | exact ae (m:=Builtin.Tuple.tupleExact _) (wpAny_newObj_type (ah ⟨_,rfl,ah h⟩) HK)
  | exact ae (m:=Builtin.Tuple.tupleExact _) (wpAny_newObj_type (ae (ah (ah ⟨_,rfl,ah h⟩))) HK)
  | exact ae (ae (m:=Builtin.Tuple.tupleExact _) (wpAny_newObj_type (ah (ah ⟨_,rfl,ah h⟩)) HK))
  | exact ae (ae (m:=Builtin.Tuple.tupleExact _) (wpAny_newObj_type (ah ⟨_,rfl,ah h⟩) HK))
end
end HT
namespace L2
open PySem PySem.Spec PyProof.Rows
abbrev TO:=St->Hp->(Option Int->Hp->Prop)->Prop
def PO (X:Cx)(e:Option Expr)(t:TO):Prop :=
 ∀(pins:List (Addr×Obj))(s:Shared)(σ:St)(H:Hp)(Q:Option Int->Hp->Prop),Inv X pins σ H s->t σ H Q ->
  wpAny (model X.prog X.w) X.A (evalPart e X.env) (λu s'=>∃o H',Inv X pins σ H' s'/\IsPart u o/\Q o H') X.xe s
def E2:TO:=λ_ H Q=>Q none H
inductive Pl (Q:Option Int->Hp->Prop)(x:V)(H1:Hp):Prop | mk i:x=.int i->Q (some i) H1->Pl Q x H1
def HL (t:TE):TO:=λσ H Q=>t σ H λx H1=>Pl Q x H1
section
variable {X:Cx}{e:Expr}{te:TE}{lo hi:Option Expr}{tl th:TO}{pos p2:Pos}
theorem gE:PO X none E2:=by intro pins s σ H Q I h;rw [evalPart_none];exact ah ⟨none,H,I,.none,h⟩
theorem dJ (h:PE X e te):PO X (some e) (HL te):=by intro pins s σ H Q I hw;rw [evalPart_some];refine cT (h pins s σ H _ I hw) λu s1 ⟨x,H1,I1,r1,q1⟩=>?_;obtain ⟨i,rfl,q⟩:=q1;obtain ⟨t,rfl⟩:=r1;exact ⟨some i,H1,I1,.int i t,q⟩
def Pn (X:Cx)(r:V->Option Int->Option Int->Hp->VK->Prop):Prop :=
 ∀(pins:List (Addr×Obj))(s:Shared)(σ:St)(H:Hp)(x:V)(v vl vu:Value)(lo hi:Option Int)(sl:Addr)(Q:VK),Inv X pins σ H s->RelV x v->s.heap.IsSliceOf sl vl vu .none->IsPart vl lo->IsPart vu hi->r x lo hi H Q ->
  ∃T id,typeLookup (.type T) "__getitem__"=pure (some (.builtin id))/\s.TypeIs v T/\wpAny (model X.prog X.w) X.A (getItem v (.ref sl)) (EP X pins σ Q) X.xe s
def VO (r:V->Option Int->Option Int->Hp->VK->Prop)(te:TE)(tl th:TO):TE:=λσ H Q=>te σ H λx H1=>tl σ H1 λl H2=>th σ H2 λu H3=>r x l u H3 Q
theorem dZ {r:V->Option Int->Option Int->Hp->VK->Prop}(hr:Pn X r)(he:PE X e te)(hl:PO X lo tl)(hu:PO X hi th):PE X (.Subscript e (.Slice lo hi none p2) pos) (VO r te tl th):=by intro pins s σ H Q I h;refine Subscript_ (cT (he pins s σ H _ I h) λv s1 ⟨x,H1,I1,r1,q1⟩=>?_);refine wpAny_Slice (cT (hl pins s1 σ H1 _ I1 q1) λvl s2 ⟨l,H2,I2,pl,q2⟩=>cT (hu pins s2 σ H2 _ I2 q2) λvu s3 ⟨u,H3,I3,pu,q3⟩=>?_);rw [evalPart_none];refine ah ?_;have I4:Inv X pins σ H3 {s3 with heap:=s3.heap.push {cls:=.type "slice",data:=.fields #[vl,vu,.none]}}:=I3.kept (t':=s3.toks) λb ob q=>aq _ q;obtain ⟨T,id,hT,ht,hg⟩:=hr pins {s3 with heap:=s3.heap.push {cls:=.type "slice",data:=.fields #[vl,vu,.none]}} σ H3 x v vl vu l u s3.heap.objs.size Q I4 r1 (Heap.IsSliceOf.new ..) pl pu q3;show wpAny (model X.prog X.w) X.A (subscriptTail e (.Slice lo hi none p2) v (.ref s3.heap.objs.size)) (EP X pins σ Q) X.xe {s3 with heap:=s3.heap.push {cls:=.type "slice",data:=.fields #[vl,vu,.none]}};exact tail_any (ops:=[.ref s3.heap.objs.size,v]) ht hT hg (by with_unfolding_all rfl)
def fE (xs:List V)(lo hi:Option Int):List V:=(xs.drop (HT.cZ xs.length 0 lo)).take (HT.cZ xs.length xs.length hi - HT.cZ xs.length 0 lo)
theorem Bk (xs:List V)(lo hi:Option Int):(fE xs lo hi).length<=xs.length:=by unfold fE;rw [aO,bg];omega
inductive VP (K:PySem.W.Frag)(x:V)(lo hi:Option Int)(H:Hp)(Q:VK):Prop | mk a xs:x=.ref a->cA K H a xs->(¬(HT.cZ xs.length 0 lo=0/\HT.cZ xs.length xs.length hi=xs.length))->(∀p,H p=none->Q (.ref p) (upd H p (.tup (fE xs lo hi))))->VP K x lo hi H Q
theorem VQ:Pn X (VP X.K):=by
 intro pins s σ H x v vl vu lo hi sl Q I rx hs pl pu h;obtain ⟨a,xs,rfl,hx,hw,q⟩:=h;cases rx;obtain ⟨bZ,r,ht,hz⟩:=I.tuple hx;have hlen:bZ.toArray.size=xs.length:=by rw [aG];exact r.length.symm
 refine ⟨"tuple",_,PyProof.Rows.slot_tuple_getitem.lookup,ht.typeIs,?_⟩;refine HT.A1 ht hs pl pu (by rw [hlen];exact hw) ?_ (by rw [hlen];exact hz);rw [hlen];refine ⟨.ref s.heap.objs.size,_,I.laid (t':=s.toks) (o:=.tup (fE xs lo hi)) (λb ob q=>aq _ q) (ag _) ?_,rfl,q _ (I.cn.fresh (ag _))⟩;exact ⟨aN (Bk xs lo hi) hz,_,(r.drop (HT.cZ xs.length 0 lo)).take (HT.cZ xs.length xs.length hi - HT.cZ xs.length 0 lo),IsTup.new _ _⟩
inductive Ti (K:PySem.W.Frag)(x y:V)(H:Hp)(Q:VK):Prop | mk a b xs ys:x=.ref a->y=.ref b->cA K H a xs->cA K H b ys->xs≠[]->xs.length+ys.length<=sizeLine->(ys=[]->Q (.ref a) H)->(ys≠[]->∀p,H p=none->Q (.ref p) (upd H p (.tup (xs++ys))))->Ti K x y H Q
theorem Vals.E3 {xs:List V}{us:List Value}(r:Vals xs us):us=[]↔xs=[]:=by
 cases r with
 | nil=>simp
 | cons _ _=>simp
theorem Ux:gZ X (binaryOp .Add) (Ti X.K):=by intro pins s σ H x y v u Q I rx ry h;obtain ⟨a,b,xs,ys,rfl,rfl,ha,hb,hx,hz,q1,q2⟩:=h;cases rx;cases ry;obtain ⟨bZ,r1,p1,_⟩:=I.tuple ha;obtain ⟨gg,r2,p2,_⟩:=I.tuple hb;refine HT.Uw p1 p2 (λz=>hx (r1.E3.mp z)) (λz=>⟨.ref a,H,I,rfl,q1 (r2.E3.mp z)⟩) (λz=>?_) (by rw [<-r1.length,<-r2.length];exact hz);refine ⟨.ref s.heap.objs.size,_,I.laid (t':=s.toks) (o:=.tup (xs++ys)) (λb ob q=>aq _ q) (ag _) ?_,rfl,q2 (λw=>z (r2.E3.mpr w)) _ (I.cn.fresh (ag _))⟩;exact ⟨by rw [ay];exact hz,_,r1.append r2,IsTup.new _ _⟩
end
end L2
namespace L2
open PySem PySem.Spec PyProof.Rows
def Iw (n:Nat)(i:Int):Option Nat:=if 0<=i then (if i<n then some i.toNat else none) else if -(n:Int)<=i then some (i+n).toNat else none
def qT {α:Type}(xs:List α)(i:Int):Option α:=(Iw xs.length i).bind λj=>xs[j]?
theorem Uy {n:Nat}{i:Int}{j:Nat}(h:Iw n i=some j):seqIndex? i n=some j/\j<n/\-(n:Int)<=i/\i<n:=by
 unfold Iw at h
 by_cases h0:0<=i
 ·rw [ab h0] at h
  by_cases h1:i<n
  ·rw [ab h1] at h;have e:i.toNat=j:=ao h;exact ⟨by rw [seqIndex_of h0 h1,e],by omega,by omega,h1⟩
  ·rw [aa h1] at h;cases h
 ·rw [aa h0] at h
  by_cases h1:-(n:Int)<=i
  ·rw [ab h1] at h;have e:(i+n).toNat=j:=ao h;exact ⟨by rw [seqIndex_neg (by omega) h1,e],by omega,h1,by omega⟩
  ·rw [aa h1] at h;cases h
theorem LX {α:Type}{xs:List α}{i:Int}{v:α}(h:qT xs i=some v):∃j,seqIndex? i xs.length=some j/\xs[j]?=some v/\j<xs.length/\-(xs.length:Int)<=i/\i<xs.length:=by
 unfold qT at h;cases e:Iw xs.length i with
 | none=>rw [e] at h;cases h
 | some j =>rw [e] at h;obtain ⟨h1,h2,h3,h4⟩:=Uy e;exact ⟨j,h1,h,h2,h3,h4⟩
theorem cD {α:Type}{xs:List α}{j:Nat}{v:α}(h:xs[j]?=some v):qT xs (j:Int)=some v:=by
 have hj:j<xs.length:=(aH.mp h).1;have e:Iw xs.length (j:Int)=some j:=by unfold Iw;rw [ab (by omega),ab (by omega)];simp
 unfold qT;rw [e];exact h
def Uz (b:Expr):Prop:=∀o i,subscripted b false o i=operate [o,i] (getItem o i)
def VR (X:Cx)(r:R2):Prop :=
 ∀(value slice:Expr)(pins:List (Addr×Obj))(s:Shared)(σ:St)(H:Hp)(x y:V)(v u:Value)(Q:VK),Inv X pins σ H s->RelV x v->RelV y u->r x y H Q ->
  subscripted slice false v u=operate [v,u] (getItem v u)->wpAny (model X.prog X.w) X.A (subscriptTail value slice v u) (EP X pins σ Q) X.xe s
def LY (X:Cx)(id:String)(r:V->List V->Hp->VK->Prop):Prop :=
 ∀(pins:List (Addr×Obj))(s:Shared)(σ:St)(H:Hp)(x:V)(xs:List V)(v:Value)(us:List Value)(Q:VK),Inv X pins σ H s->RelV x v->Vals xs us->r x xs H Q ->
  wpAny (model X.prog X.w) X.A (call (.builtin id) (v::us)) (EP X pins σ Q) X.xe s
section
variable {X:Cx}{a b:Expr}{ta tb:TE}{pos:Pos}
theorem cQ {r:R2}(hr:VR X r)(ha:PE X a ta)(hb:PE X b tb)(hs:Uz b):PE X (.Subscript a b pos) (F3 r ta tb):=by intro pins s σ H Q I h;exact Subscript_ (Ro ha hb I h λv u s2 x y H2 I2 rx ry q=>hr a b pins s2 σ H2 x y v u Q I2 rx ry q (hs _ _))
inductive VS (K:PySem.W.Frag)(x y:V)(H:Hp)(Q:VK):Prop | mk p xs i v:x=.ref p->y=.int i->bY K H p xs->qT xs i=some v->Q v H->VS K x y H Q
inductive VT (K:PySem.W.Frag)(x y:V)(H:Hp)(Q:VK):Prop | mk p xs i v:x=.ref p->y=.int i->cA K H p xs->qT xs i=some v->Q v H->VT K x y H Q
theorem cR:VR X (VS X.K):=by
 intro value slice pins s σ H x y v u Q I rx ry h hs;obtain ⟨p,xs,i,z,rfl,rfl,hq,he,q⟩:=h;cases rx;obtain ⟨t,rfl⟩:=ry;obtain ⟨bZ,r,pl,hz⟩:=I.list hq;obtain ⟨j,h1,h2,h3,h4,h5⟩:=LX he;obtain ⟨w,ew,rw'⟩:=r.get h2;have hl:=r.length;have hn:=Df;have fin:EP X pins σ Q w s:=⟨z,H,I,rw',q⟩
 by_cases h0:0<=i
 ·have hj:i.toNat=j:=by
   rw [seqIndex_of h0 h5] at h1;exact ao h1
  exact item_listR pl.isList h0 (by omega) (by rw [hj];simpa using ew) fin hs
 ·have hj:(i+(bZ.toArray.size:Int)).toNat=j:=by
   rw [seqIndex_neg (by omega) h4] at h1;rw [aG,<-hl];exact ao h1
  exact subscriptTail_builtinR (x:=w) pl.isList.typeIs slot_list_getitem.lookup
   (wpAny_getItem_list_neg (Q:=λr s'=>r=w/\EP X pins σ Q r s') pl.isList (by omega) (by rw [aG] <;> omega) (by omega) (by rw [hj];simpa using ew) ⟨rfl,fin⟩) hs
theorem fQ:VR X (VT X.K):=by
 intro value slice pins s σ H x y v u Q I rx ry h hs;obtain ⟨p,xs,i,z,rfl,rfl,hq,he,q⟩:=h;cases rx;obtain ⟨t,rfl⟩:=ry;obtain ⟨bZ,r,pl,hz⟩:=I.tuple hq;obtain ⟨j,h1,h2,h3,h4,h5⟩:=LX he;obtain ⟨w,ew,rw'⟩:=r.get h2;have hl:=r.length;have hn:=Df;have fin:EP X pins σ Q w s:=⟨z,H,I,rw',q⟩
 exact subscriptTail_builtinR (x:=w) pl.typeIs slot_tuple_getitem.lookup
  (getItem_tuple (j:=j) (Q:=λr s'=>r=w/\EP X pins σ Q r s') pl (by omega) (by omega) (by rw [aG,<-hl];exact h1) (by simpa using ew) ⟨rfl,fin⟩) hs
theorem Iy (lo hi:Option Int)(n:Nat):(sliceBounds lo hi none n).1=((HT.cZ n 0 lo:Nat):Int)/\(sliceBounds lo hi none n).2.1=((HT.cZ n n hi:Nat):Int)/\(sliceBounds lo hi none n).2.2=1:=by
 refine ⟨?_,?_,rfl⟩
 ·cases lo with
  | none=>simp [sliceBounds,HT.cZ]
  | some i =>
   simp only [sliceBounds,HT.cZ,Option.getD_none,show (1:Int) > 0 by decide,if_true]
   by_cases h:i<0
   ·simp only [h,if_true] <;> omega
   ·simp only [h,if_false] <;> omega
 ·cases hi with
  | none=>simp [sliceBounds,HT.cZ]
  | some i =>
   simp only [sliceBounds,HT.cZ,Option.getD_none,show (1:Int) > 0 by decide,if_true]
   by_cases h:i<0
   ·simp only [h,if_true] <;> omega
   ·simp only [h,if_false] <;> omega
theorem Hk (bZ:List Value)(lo hi:Option Int):slicePick bZ.toArray lo hi none=((bZ.drop (HT.cZ bZ.length 0 lo)).take (HT.cZ bZ.length bZ.length hi - HT.cZ bZ.length 0 lo)).toArray:=by obtain ⟨h1,h2,h3⟩:=Iy lo hi bZ.toArray.size;unfold slicePick;rw [h1,h2,h3];simp only [sliceRange_one,pick_run,aG] <;> rfl
inductive Rw (K:PySem.W.Frag)(x:V)(lo hi:Option Int)(H:Hp)(Q:VK):Prop | mk a xs:x=.ref a->bY K H a xs->(∀p,H p=none->Q (.ref p) (upd H p (.lst (fE xs lo hi))))->Rw K x lo hi H Q
theorem fV:Pn X (Rw X.K):=by intro pins s σ H x v vl vu lo hi sl Q I rx hs pl pu h;obtain ⟨a,xs,rfl,hx,q⟩:=h;cases rx;obtain ⟨bZ,r,ht,hz⟩:=I.list hx;have hlen:=r.length;refine ⟨"list",_,slot_list_getitem.lookup,ht.isList.typeIs,?_⟩;refine wpAny_getItem_list_slice ht.isList hs pl pu .none (by simp) ?_ (by rw [aG] <;> omega);rw [Hk,<-hlen];refine ⟨.ref s.heap.objs.size,_,I.laid (t':=s.toks) (o:=.lst (fE xs lo hi)) (λb ob q=>aq _ q) (ag _) ?_,rfl,q _ (I.cn.fresh (ag _))⟩;exact ⟨aN (Bk xs lo hi) hz,_,0,(r.drop (HT.cZ xs.length 0 lo)).take (HT.cZ xs.length xs.length hi - HT.cZ xs.length 0 lo),aF _ rfl⟩
def iJ:V->Bool
 | .cw=>true
 | .bl _=>true
 | .int _=>true
 | .str _=>true
 | _=>false
def Bl:V->V->Bool
 | .cw,.cw=>true
 | .bl a,.bl b=>a == b
 | .bl a,.int b=>(if a then 1 else 0) == b
 | .int a,.bl b=>a == (if b then 1 else 0)
 | .int a,.int b=>a == b
 | .str a,.str b=>a == b
 | _,_=>false
theorem VU {A:Around}{s:Shared}{y x:V}{u v:Value}(ry:RelV y u)(rx:RelV x v)(fy:iJ y=true)(fx:iJ x=true):SeqAt.EqAt A s u v (Bl y x):=by
 cases y with
 | cw =>
  cases ry;cases x with
  | cw=>cases rx;exact SeqAt.EqAt.same _
  | bl b=>cases rx;exact SeqAt.EqAt.none_bool b
  | int b=>obtain ⟨t,rfl⟩:=rx;exact SeqAt.EqAt.none_int b t
  | str b=>obtain ⟨t,rfl⟩:=rx;exact SeqAt.EqAt.none_str b t
  | _=>exact ai (show false=true from fx) aL
 | bl a =>
  cases ry;cases x with
  | cw=>cases rx;exact SeqAt.EqAt.bool_none a
  | bl b=>cases rx;exact SeqAt.EqAt.bool_bool a b
  | int b=>obtain ⟨t,rfl⟩:=rx;exact SeqAt.EqAt.bool_int a b t
  | str b=>obtain ⟨t,rfl⟩:=rx;exact SeqAt.EqAt.bool_str a b t
  | _=>exact ai (show false=true from fx) aL
 | int a =>
  obtain ⟨t',rfl⟩:=ry;cases x with
  | cw=>cases rx;exact SeqAt.EqAt.int_none a t'
  | bl b=>cases rx;exact SeqAt.EqAt.int_bool a t' b
  | int b=>obtain ⟨t,rfl⟩:=rx;exact SeqAt.EqAt.int_int a t' b t
  | str b=>obtain ⟨t,rfl⟩:=rx;exact SeqAt.EqAt.int_str a t' b t
  | _=>exact ai (show false=true from fx) aL
 | str a =>
  obtain ⟨t',rfl⟩:=ry;cases x with
  | cw=>cases rx;exact SeqAt.EqAt.str_none a t'
  | bl b=>cases rx;exact SeqAt.EqAt.str_bool a t' b
  | int b=>obtain ⟨t,rfl⟩:=rx;exact SeqAt.EqAt.str_int a t' b t
  | str b=>obtain ⟨t,rfl⟩:=rx;exact SeqAt.EqAt.str_str a t' b t
  | _=>exact ai (show false=true from fx) aL
 | _=>exact ai (show false=true from fy) aL
def qU (x:V)(u:Value):Bool:=match u with
 | .none=>Bl .cw x
 | .bool b=>Bl (.bl b) x
 | .int i _=>Bl (.int i) x
 | .str z _=>Bl (.str z) x
 | _=>false
theorem Po {x y:V}{u:Value}(r:RelV y u)(f:iJ y=true):qU x u=Bl y x:=by
 cases y with
 | cw=>cases r;rfl
 | bl b=>cases r;rfl
 | int i=>obtain ⟨t,rfl⟩:=r;rfl
 | str z=>obtain ⟨t,rfl⟩:=r;rfl
 | _=>exact ai (show false=true from f) aL
theorem vm {x:V}:∀{xs:List V}{us:List Value},Vals xs us->xs.all iJ=true->us.any (qU x)=xs.any λy=>Bl y x
 | _,_,.nil,_=>rfl
 | y::xs,u::us,.cons r t,f=>by rw [List.all_cons,bc] at f;rw [List.any_cons,List.any_cons,Po r f.1,vm t f.2]
theorem qV {A:Around}{s:Shared}{x:V}{v:Value}(rx:RelV x v)(fx:iJ x=true):∀{xs:List V}{us:List Value},Vals xs us->xs.all iJ=true->∀u∈us,SeqAt.EqAt A s u v (qU x u)
 | _,_,.nil,_=>λu hu=>by cases hu
 | y::xs,u::us,.cons r t,f=>λu' hu=>by
  rw [List.all_cons,bc] at f;rcases ak.mp hu with rfl | hu
  ·rw [Po r f.1];exact VU r rx f.1 fx
  ·exact qV rx fx t f.2 u' hu
def gU (x:V)(xs:List V):Bool:=xs.any λy=>Bl y x
inductive VW (K:PySem.W.Frag)(neg:Bool)(x y:V)(H:Hp)(Q:VK):Prop | mk p xs:y=.ref p->(bY K H p xs\/cA K H p xs)->iJ x=true->xs.all iJ=true->Q (.bl (if neg then !gU x xs else gU x xs)) H->VW K neg x y H Q
theorem iE:gZ X (compareOp .In) (VW X.K false):=by
 intro pins s σ H x y v u Q I rx ry h;obtain ⟨p,xs,rfl,hq,fx,fs,q⟩:=h;cases ry;rcases hq with hq | hq
 ·obtain ⟨bZ,r,pl,hz⟩:=I.list hq;refine SeqAt.in_listAt (qU x) pl.isList (λw hw=>qV rx fx r fs w (by simpa using hw)) ⟨.bl _,H,I,rfl,?_⟩;rw [show bZ.toArray.any (qU x)=bZ.any (qU x) by simp,vm r fs];exact q
 ·obtain ⟨bZ,r,pl,hz⟩:=I.tuple hq;refine SeqAt.in_tupleAt (qU x) pl (λw hw=>qV rx fx r fs w (by simpa using hw)) ⟨.bl _,H,I,rfl,?_⟩;rw [show bZ.toArray.any (qU x)=bZ.any (qU x) by simp,vm r fs];exact q
theorem jF:gZ X (compareOp .NotIn) (VW X.K true):=by
 intro pins s σ H x y v u Q I rx ry h;obtain ⟨p,xs,rfl,hq,fx,fs,q⟩:=h;cases ry;rcases hq with hq | hq
 ·obtain ⟨bZ,r,pl,hz⟩:=I.list hq;refine SeqAt.notIn_listAt (qU x) pl.isList (λw hw=>qV rx fx r fs w (by simpa using hw)) ⟨.bl _,H,I,rfl,?_⟩;rw [show bZ.toArray.any (qU x)=bZ.any (qU x) by simp,vm r fs];exact q
 ·obtain ⟨bZ,r,pl,hz⟩:=I.tuple hq;refine SeqAt.notIn_tupleAt (qU x) pl (λw hw=>qV rx fx r fs w (by simpa using hw)) ⟨.bl _,H,I,rfl,?_⟩;rw [show bZ.toArray.any (qU x)=bZ.any (qU x) by simp,vm r fs];exact q
theorem cf:j3 X (.builtin "len") (λxs H Q=>∃p ys,xs=[.ref p]/\(bY X.K H p ys\/cA X.K H p ys)/\Q (.int ys.length) H):=by
 intro pins s σ H xs us Q I r h;obtain ⟨p,ys,rfl,hq,q⟩:=h;obtain ⟨u,rfl,rx⟩:=vals1 r;cases rx;have hn:=Df;rcases hq with hq | hq
 ·obtain ⟨bZ,r',pl,hz⟩:=I.list hq;have hlen:=r'.length;exact Calls.call_len_list pl.isList (by simp only [aG] <;> omega) ⟨.int ys.length,H,I.tok _,⟨s.toks+1,by rw [aG,hlen]⟩,q⟩
 ·obtain ⟨bZ,r',pl,hz⟩:=I.tuple hq;have hlen:=r'.length;exact len_tuple pl (by simp only [aG] <;> omega) ⟨.int ys.length,H,I.tok _,⟨s.toks+1,by rw [aG,hlen]⟩,q⟩
theorem Iz:j3 X (.builtin "len") (λxs H Q=>∃z,xs=[.str z]/\z.length<=sizeLine/\Q (.int z.length) H):=by intro pins s σ H xs us Q I r h;obtain ⟨z,rfl,hz,q⟩:=h;obtain ⟨u,rfl,t,rfl⟩:=vals1 r;have hn:=Df;exact len_str (by omega) ⟨.int z.length,H,I.tok _,⟨_,rfl⟩,q⟩
theorem yA:j3 X (.type "list") (λxs H Q=>∃p ys,xs=[.ref p]/\(bY X.K H p ys\/cA X.K H p ys)/\∀l,H l=none->Q (.ref l) (upd H l (.lst ys))):=by
 intro pins s σ H xs us Q I r h;obtain ⟨p,ys,rfl,hq,q⟩:=h;obtain ⟨u,rfl,rx⟩:=vals1 r;cases rx;have fin:∀(bZ:List Value),Vals ys bZ->ys.length<=sizeLine->∀(h':Heap)(c':Nat),(∀b o',s.heap.get? b=some o'->h'.get? b=some o') ->
   h'.get? s.heap.objs.size=some {cls:=.type "list",dict:=none,data:=.seq bZ.toArray c',slots:=#[]}->EP X pins σ Q (.ref s.heap.objs.size) {s with heap:=h'}:=λbZ r' hz h' c' kp e =>
  ⟨.ref s.heap.objs.size,_,I.laid (t':=s.toks) kp (ag _) (show dw X.prog X.w _ h' _ (.lst ys) from ⟨hz,bZ,c',r',e⟩),rfl,q _ (I.cn.fresh (ag _))⟩
 rcases hq with hq | hq
 ·obtain ⟨bZ,r',pl,hz⟩:=I.list hq;have hlen:=r'.length;obtain ⟨o,ho,hc,n,hd⟩:=pl.isList;exact call_list_seq p (.inl rfl) ho hc hd (λh' c' kp e=>fin bZ r' hz h' c' kp e) (by simp only [aG] <;> omega)
 ·obtain ⟨bZ,r',pl,hz⟩:=I.tuple hq;have hlen:=r'.length;obtain ⟨o,ho,hc,n,hd⟩:=pl;exact call_list_seq p (.inr rfl) ho hc hd (λh' c' kp e=>fin bZ r' hz h' c' kp e) (by simp only [aG] <;> omega)
theorem xO:j3 X (.type "tuple") (λxs H Q=>∃p ys,xs=[.ref p]/\((bY X.K H p ys/\∀l,H l=none->Q (.ref l) (upd H l (.tup ys)))\/(cA X.K H p ys/\Q (.ref p) H))):=by
 intro pins s σ H xs us Q I r h;obtain ⟨p,ys,rfl,h⟩:=h;obtain ⟨u,rfl,rx⟩:=vals1 r;cases rx;rcases h with ⟨hq,q⟩ | ⟨hq,q⟩
 ·obtain ⟨bZ,r',pl,hz⟩:=I.list hq;have hlen:=r'.length;refine call_tuple_list pl.isList (λh' kp=>?_) (by simp only [aG] <;> omega);have I1:Inv X pins σ H {s with heap:=h'}:=I.kept (t':=s.toks) kp;have I2:Inv X pins σ (upd H h'.objs.size (.tup ys)) {s with heap:=h'.push {cls:=.type "tuple",data:=.seq bZ.toArray}} :=
   I1.laid (t':=s.toks) (λb o e=>aq _ e) (ag _) (show dw X.prog X.w _ _ _ (.tup ys) from ⟨hz,bZ,r',IsTup.new _ _⟩)
  exact ⟨.ref h'.objs.size,_,I2,rfl,q _ (I1.cn.fresh (ag _))⟩
 ·obtain ⟨bZ,r',pl,hz⟩:=I.tuple hq;exact call_tuple_same pl ⟨.ref p,H,I,rfl,q⟩
def VX (K:PySem.W.Frag)(T:String)(x:V)(H:Hp):Prop:=match x with
 | .str _=>T="str"
 | .int _=>T="int"
 | .ref p=>(T="list"/\∃xs,bY K H p xs)\/(T="tuple"/\∃o,K.lookup p=some o/\o.cls=.type "tuple"/\o.dict=none) \/
   (T="dict"/\((∃kvs,H p=some (.dK kvs))\/∃kvs,H p=some (.dT kvs)))\/(T="set"/\∃S n,H p=some (.set S n))
 | _=>False
theorem Pp {pins:List (Addr×Obj)}{σ:St}{H:Hp}{s:Shared}{T:String}{x:V}{v:Value}(I:Inv X pins σ H s)(r:RelV x v)(ty:VX X.K T x H) :
  s.TypeIs v T/\∀a,v=.ref a->∃ob,s.heap.get? a=some ob/\ob.dict=none:=by
 cases x with
 | str z =>obtain ⟨t,rfl⟩:=r;cases (show T="str" from ty);exact ⟨typeIs_str s z t,λ_ e=>nomatch e⟩
 | int i =>obtain ⟨t,rfl⟩:=r;cases (show T="int" from ty);exact ⟨typeIs_int s i t,λ_ e=>nomatch e⟩
 | ref p =>
  cases r;rcases ty with ⟨rfl,xs,hq⟩ | ⟨rfl,o,hk,hc,hd⟩ | ⟨rfl,hk⟩ | ⟨rfl,S,n,hk⟩
  ·obtain ⟨bZ,_,pl,_⟩:=I.list hq;refine ⟨pl.isList.typeIs,λa e=>?_⟩;cases e;obtain ⟨o,n,e,c,hd,_⟩:=pl;exact ⟨o,e,hd⟩
  ·refine ⟨⟨o,I.mX p o hk,hc⟩,λa e=>?_⟩;cases e;exact ⟨o,I.mX _ o hk,hd⟩
  ·have z:∃o,s.heap.get? p=some o/\o.ExactDict:=by
    rcases hk with ⟨kvs,hk⟩ | ⟨kvs,hk⟩
    ·obtain ⟨_,_,_,_,o,_,_,e,ex,_⟩:=I.cn p _ hk;exact ⟨o,e,ex⟩
    ·obtain ⟨_,_,_,_,o,_,_,e,ex,_⟩:=I.cn p _ hk;exact ⟨o,e,ex⟩
   obtain ⟨o,e,ex⟩:=z;refine ⟨⟨o,e,ex.1⟩,λa e2=>?_⟩;cases e2;exact ⟨o,e,ex.2.1⟩
  ·obtain ⟨o,_,_,_,e,ex,_⟩:=I.cn p _ hk;refine ⟨⟨o,e,ex.1⟩,λa e2=>?_⟩;cases e2;exact ⟨o,e,ex.2.1⟩
 | _=>exact False.elim ty
inductive Tj (K:PySem.W.Frag)(T:String)(r:V->List V->Hp->VK->Prop)(Q:VK)(x:V)(H1:Hp):Prop | mk:VX K T x H1->r x [] H1 Q->Tj K T r Q x H1
def ZZ (K:PySem.W.Frag)(T:String)(r:V->List V->Hp->VK->Prop)(to:TE):TE:=λσ H Q=>to σ H λx H1=>Tj K T r Q x H1
inductive VY (K:PySem.W.Frag)(T:String)(r:V->List V->Hp->VK->Prop)(t:TA)(σ:St)(Q:VK)(x:V)(H1:Hp):Prop | mk:VX K T x H1->(t σ H1 λxs H2=>r x xs H2 Q)->VY K T r t σ Q x H1
def YB (K:PySem.W.Frag)(T:String)(r:V->List V->Hp->VK->Prop)(to:TE)(t:TA):TE:=λσ H Q=>to σ H λx H1=>VY K T r t σ Q x H1
variable {o e:Expr}{es:List Expr}{to:TE}{t:TA}{name:Str}{apos gL:Pos}{T id:String}{r:V->List V->Hp->VK->Prop}
theorem vn (pa:PlainAttrs T)(slot:Slot T name id)(F8:typeOf (.builtin id)=pure (.type "method_descriptor"))(hm:LY X id r)(ho:PE X o to)
  (j5:attributeBase o name X.env (eval o X.env)=eval o X.env:=by rfl) (j6:(apos.endLine == gL.line)=true:=by rfl):PE X (.Call (.Attribute o name apos) [] [] gL) (ZZ X.K T r to):=by
 intro pins s σ H Q I h;refine wpAny_Call_method0_late j5 j6 (cT (ho pins s σ H _ I h) λv s1 ⟨x,H1,I1,r1,ty,q1⟩=>?_);obtain ⟨h1,h2⟩:=Pp I1 r1 ty;exact ⟨T,id,pa,slot,F8,h1,h2,Calls.callWith_builtin rfl (PySem.evalArgs_none (hm pins s1 σ H1 x [] v [] Q I1 r1 .nil q1))⟩
theorem gT (pa:PlainAttrs T)(slot:Slot T name id)(F8:typeOf (.builtin id)=pure (.type "method_descriptor"))(hm:LY X id r)(ho:PE X o to)(ha:PA X (e::es) t)
  (j5:attributeBase o name X.env (eval o X.env)=eval o X.env:=by rfl)
  (Z0:((backTo gL (starEach (e::es) X.env)).all (λx=>!x.1) && (backToKw gL (keywordEach [] X.env)).all (λx=>x.1.isSome)
   && decide ((e::es).length+([]:List Keyword).length+(if ([]:List Keyword).isEmpty then 0 else 1)<30))=true:=by rfl)
  (j6:(apos.endLine == gL.line)=true:=by rfl) (hs:starEach (e::es) X.env=(false,eval e X.env)::starEach es X.env:=by rfl) (IA:(backTo gL (starEach es X.env)).any (·.1)=false:=by rfl) :
  PE X (.Call (.Attribute o name apos) (e::es) [] gL) (YB X.K T r to t):=by
 intro pins s σ H Q I h;refine wpAny_Call_method_late j5 Z0 j6 rfl (cT (ho pins s σ H _ I h) λv s1 ⟨x,H1,I1,r1,ty,q1⟩=>?_);obtain ⟨h1,h2⟩:=Pp I1 r1 ty;refine ⟨T,id,pa,slot,F8,h1,h2,?_⟩;have hA:=ha gL pins s1 σ H1 _ I1 q1;rw [hs] at hA ⊢;refine Calls.callWith_builtin (by show (false || (backTo gL (starEach es X.env)).any (·.1))=false;rw [IA] <;> rfl) (Calls.evalArgs_plain ?_);exact cT hA λus s2 ⟨vs,H2,I2,r2,q2⟩=>hm pins s2 σ H2 x vs v us Q I2 r1 r2 q2
end
end L2
namespace L2
open PySem PySem.Spec PyProof.Rows
def Tn (X:Cx)(id:String)(r:V->List V->Hp->VK->Prop):Prop :=
 ∀(pins:List (Addr×Obj))(s:Shared)(σ:St)(H:Hp)(x:V)(xs:List V)(v:Value)(us:List Value)(Q:VK),Inv X pins σ H s->RelV x v->Vals xs us->r x xs H Q ->
  wpAny (model X.prog X.w) X.A (call (.builtin id) (v::us)) (EP X pins σ Q) X.xe s
theorem Vals.one:∀{x:V}{us:List Value},Vals [x] us->∃u,us=[u]/\RelV x u
 | _,_,.cons r .nil=>⟨_,rfl,r⟩
theorem Vals.zero:∀{us:List Value},Vals [] us->us=[]
 | _,.nil=>rfl
theorem Vals.dropLast {xs:List V}{us:List Value}(h:Vals xs us):Vals xs.dropLast us.dropLast:=by
 induction h with
 | nil=>exact .nil
 | cons r t ih =>
  cases t with
  | nil=>exact .nil
  | cons q t'=>exact .cons r ih
theorem Nq {α:Type}(l:List α):l.eraseIdx (l.length - 1)=l.dropLast:=by
 induction l with
 | nil=>rfl
 | cons a r ih =>
  cases r with
  | nil=>rfl
  | cons b r =>
   have e:(a::b::r).length - 1=((b::r).length - 1)+1:=by have h1:(a::b::r).length=r.length+2:=rfl;have h2:(b::r).length=r.length+1:=rfl;omega
   rw [e,List.eraseIdx_cons_succ,ih]
   all_goals rfl
section
variable {X:Cx}{pins:List (Addr×Obj)}{σ:St}{H:Hp}{s:Shared}{l b:Addr}{xs ys zs:List V}
theorem Inv.Nr {bZ its':List Value}{n:Nat}{f:Array Value->Array Value}{t':Nat}(I:Inv X pins σ H s)(hH:H l=some (.lst xs))
  (e:s.heap.get? l=some {cls:=.type "list",data:=.seq bZ.toArray n}) (hf:f bZ.toArray=its'.toArray) (hv:Vals ys its') (hz:ys.length<=sizeLine) :
  Inv X pins σ (upd H l (.lst ys)) {s with heap:=s.heap.update l (Obj.mapSeq f),toks:=t'}:=by
 have q:=PySem.IsL.update e f;rw [hf] at q;refine I.write (x:=l) (e:=l) (by rw [hH];exact trivial) (.inl rfl) (λb' u hb hu=>(Heap.get?_update_other s.heap (Obj.mapSeq f) (Ne.symm hb)).trans hu) ⟨_,q⟩ ?_;exact ⟨hz,its',_,hv,q⟩
theorem Inv.Z1 {bZ:List Value}{t':Nat}(I:Inv X pins σ H s)(hv:Vals ys bZ)(hz:ys.length<=sizeLine) :
  Inv X pins σ (upd H s.heap.objs.size (.lst ys)) {s with heap:=s.heap.push {cls:=.type "list",data:=.seq bZ.toArray},toks:=t'} :=
 I.laid (λ_ _ q=>aq _ q) (ag _) ⟨hz,bZ,0,hv,aF _ rfl⟩
theorem Inv.fresh (I:Inv X pins σ H s):H s.heap.objs.size=none:=I.cn.fresh (ag _)
theorem Inv.B9 (I:Inv X pins σ H s)(hH:H l=some (.lst xs)):xs.length<=sizeLine/\∃(bZ:List Value)(n:Nat),Vals xs bZ/\xs.length=bZ.length/\s.heap.get? l=some {cls:=.type "list",data:=.seq bZ.toArray n}:=by obtain ⟨z,bZ,n,r,e⟩:=I.cn l _ hH;exact ⟨z,bZ,n,r,r.length,e⟩
theorem IB {n:Nat}(h:n<=sizeLine):Builtin.List.listTooLong n=false:=by unfold Builtin.List.listTooLong;exact az (by omega)
end
section
variable {X:Cx}
inductive E4 (x:V)(vs:List V)(H:Hp)(Q:VK):Prop | mk l xs y:x=.ref l->vs=[y]->H l=some (.lst xs)->xs.length<sizeLine->Q .cw (upd H l (.lst (xs++[y])))->E4 x vs H Q
theorem dO:Tn X "list.append" E4:=by intro pins s σ H x vs v us Q I rx rv h;obtain ⟨l,xs,y,rfl,rfl,hH,hz,q⟩:=h;cases rx;obtain ⟨u,rfl,ru⟩:=rv.one;obtain ⟨z,bZ,n,r,hl,e⟩:=I.B9 hH;refine call_meets F.slot_list_append ⟨_,e,rfl⟩ F.entry_list_append (F.args_list_append_2 _ _) (PySem.list_append l bZ.toArray n u (by rw [aG];omega)) ⟨e,?_⟩;refine ⟨.cw,_,I.Nr (its':=bZ++[u]) hH e (by simp) (r.append (.cons ru .nil)) ?_,rfl,q⟩;rw [ay,List.length_singleton];omega
inductive LZ (x:V)(vs:List V)(H:Hp)(Q:VK):Prop | mk l b xs zs:x=.ref l->vs=[.ref b]->H l=some (.lst xs)->H b=some (.lst zs)->xs.length+zs.length<=sizeLine->Q .cw (upd H l (.lst (xs++zs)))->LZ x vs H Q
theorem Pq:Tn X "list.extend" LZ:=by
 intro pins s σ H x vs v us Q I rx rv h;obtain ⟨l,b,xs,zs,rfl,rfl,hH,hB,hz,q⟩:=h;cases rx;obtain ⟨u,rfl,ru⟩:=rv.one;cases ru;obtain ⟨z,bZ,n,r,hl,e⟩:=I.B9 hH;obtain ⟨z2,gg,n2,r2,fz,e2⟩:=I.B9 hB;have hsz:bZ.toArray.size+gg.toArray.size<=sizeLine:=by rw [aG,aG];omega
 have Nt:¬(!bZ.toArray.isEmpty && Builtin.List.listTooLong (bZ.toArray.size+gg.toArray.size))=true:=by rw [IB hsz,Bool.and_false];exact aL
 refine call_meets F.slot_list_extend ⟨_,e,rfl⟩ F.entry_list_extend (F.args_list_extend_2 _ _)
  (AutoSeq1.list_extend_list_list_0 l bZ.toArray n b gg.toArray n2 Nt (by rw [aG];omega) (by omega)) ⟨e,e2,?_⟩
 refine ⟨.cw,_,I.Nr (its':=bZ++gg) hH e (by simp) (r.append r2) ?_,rfl,q⟩;rw [ay];omega
inductive VZ (x:V)(vs:List V)(H:Hp)(Q:VK):Prop | mk l xs y:x=.ref l->vs=[]->H l=some (.lst xs)->xs[xs.length - 1]?=some y->Q y (upd H l (.lst xs.dropLast))->VZ x vs H Q
theorem vo:Tn X "list.pop" VZ:=by
 intro pins s σ H x vs v us Q I rx rv h;obtain ⟨l,xs,y,rfl,rfl,hH,hy,q⟩:=h;cases rx;have V0:=rv.zero;subst V0;obtain ⟨z,bZ,n,r,hl,e⟩:=I.B9 hH;obtain ⟨u,hu,ru⟩:=r.get hy;have hy':bZ.toArray[bZ.toArray.size - 1]?=some u:=by show bZ.toArray[bZ.length - 1]?=some u;rw [<-Array.getElem?_toList,<-hl];exact hu
 refine call_meets F.slot_list_pop ⟨_,e,rfl⟩ F.entry_list_pop (F.args_list_pop_1 _) (MeetsSeq.list_pop_last l bZ.toArray n u hy' (by rw [aG];omega)) ⟨e,?_⟩;refine ⟨y,_,I.Nr (its':=bZ.dropLast) hH e ?_ r.dropLast ?_,ru,q⟩
 ·show bZ.toArray.eraseIdxIfInBounds (bZ.toArray.size - 1)=bZ.dropLast.toArray;rw [aG,List.eraseIdxIfInBounds_toArray,Nq]
 ·rw [List.length_dropLast];omega
inductive V1 (x y:V)(H:Hp)(Q:VK):Prop | mk l b xs zs:x=.ref l->y=.ref b->H l=some (.lst xs)->H b=some (.lst zs)->xs.length+zs.length<=sizeLine->(∀p,H p=none->Q (.ref p) (upd H p (.lst (xs++zs))))->V1 x y H Q
theorem i8:gZ X (binaryOp .Add) V1:=by
 intro pins s σ H x y v u Q I rx ry h;obtain ⟨l,b,xs,zs,rfl,rfl,hH,hB,hz,q⟩:=h;cases rx;cases ry;obtain ⟨z,bZ,n,r,hl,e⟩:=I.B9 hH;obtain ⟨z2,gg,n2,r2,fz,e2⟩:=I.B9 hB;refine PySem.P.add_list e e2 ?_ (by rw [aG,aG];omega);have ea:bZ.toArray++gg.toArray=(bZ++gg).toArray:=by simp
 rw [ea];exact ⟨.ref _,_,I.Z1 (t':=s.toks) (r.append r2) (by rw [ay];omega),rfl,q _ I.fresh⟩
end
section
variable {prog:Program}{w:World}{A:Around}{E:Value->Shared->Prop}{s:Shared}
set_option maxRecDepth 100000 in
end
section
variable {X:Cx}
end
end L2
namespace L2
open PySem PySem.Spec PyProof.Rows
theorem Vals.YC:∀{bs:List Bool}{us:List Value},Vals (bs.map V.bl) us->us=bs.map Value.bool
 | [],us,h=>by rw [List.map_nil] at h;cases h;rfl
 | b::bs,us,h=>by
  rw [aw] at h;cases h with
  | cons r t =>cases r;rw [Vals.YC t,aw]
theorem Vals.Z2 {a:Addr}{us:List Value}(r:Vals [V.ref a] us):us=[Value.ref a]:=by
 cases r with
 | cons r t =>cases t;cases r;rfl
section
variable {prog:Program}{w:World}{A:Around}{E:Value->Shared->Prop}{s:Shared}{l:Addr}{bZ:List Value}{ns:List Int}{Q:Value->Shared->Prop}
end
section
variable {X:Cx}
end
section
variable {X:Cx}
end
section
variable {X:Cx}
end
theorem Rx {prog:Program}{w:World}{A:Around}{E:Value->Shared->Prop}{s:Shared}{l:Addr}{items:Array Value}{Q:Value->Shared->Prop}(hl:s.heap.IsList l items)
  (h:∀s₂:Shared,s₂={s with heap:=s.heap.push {cls:=.type "list_iterator",data:=.fields #[.ref l,.int 0 0]}} ->
   (s₂.heap.IsListIter s.heap.objs.size l 0/\s₂.heap.IsList l items)->l≠s.heap.objs.size->Q (.ref s.heap.objs.size) s₂):wpAny (model prog w) A (pyIter (.ref l)) Q E s:=by
 have c9:l<s.heap.objs.size:=by obtain ⟨_,e,_⟩:=hl;exact ax e
 exact wpAny_pyIter_list hl (h _ rfl ⟨⟨_,aF _ rfl,rfl,rfl⟩,hl.push _⟩ (aU c9))
theorem KZ {prog:Program}{w:World}{A:Around}{bs:List Bool}{bZ:List Value}(e:bZ=bs.map Value.bool) :
  TruthOf prog w A (λi v=>bZ.toArray[i]?=some v) (λi=>bs.getD i false):=λi v s Q E hv hq=>by
 have Bf:bZ[i]?=some v:=by simpa using hv
 rw [e,aS] at Bf;obtain ⟨b,hb,rfl⟩:=Option.map_eq_some_iff.mp Bf;have hg:bs.getD i false=b:=by rw [List.getD_eq_getElem?_getD,hb] <;> rfl
 have Bh:Q (bs.getD i false) s:=hq;rw [hg] at Bh;exact wpAny_truthy_bool Bh
theorem any_range:∀bs:List Bool,(List.range bs.length).any (λi=>bs.getD i false)=bs.any id
 | []=>rfl
 | b::bs=>by
  rw [au,List.range_succ_eq_map,List.any_cons,List.any_map,List.any_cons,<-any_range bs]
  all_goals rfl
theorem all_range:∀bs:List Bool,(List.range bs.length).all (λi=>bs.getD i false)=bs.all id
 | []=>rfl
 | b::bs=>by
  rw [au,List.range_succ_eq_map,List.all_cons,List.all_map,List.all_cons,<-all_range bs]
  all_goals rfl
section
variable {X:Cx}
inductive V2 (K:PySem.W.Frag)(vs:List V)(H:Hp)(Q:VK):Prop | mk (a:Addr) (bs:List Bool):vs=[V.ref a]->bY K H a (bs.map V.bl)->Q (.bl (bs.all id)) H->V2 K vs H Q
theorem Pr (hc:X.calm=true):j3 X (.builtin "all") (V2 X.K):=by
 intro pins s σ H vs us Q I r h;obtain ⟨a,bs,rfl,hs,q⟩:=h;obtain ⟨bZ,rv,hl,_⟩:=I.list hs;rw [Vals.Z2 r];have hb:=rv.YC;refine call_all_walk (Rx hl.isList λs₂ e2 st dP=>?_);subst e2;refine ⟨_,_,_,_,_,_,_,rfl,Walks.list (A:=X.A.in1) (I.ok.hd hc) _ a dP bZ.toArray,st,KZ hb,λh' tk hk=>?_⟩;refine ⟨.bl _,H,I.kept λb o eo=>hk b o (λwm=>?_) (aq _ eo),?_,q⟩
 ·rcases ak.mp wm with e1 | wm
  ·exact ai (e1▸ax eo) (Nat.lt_irrefl _)
  ·cases wm
 ·show Value.bool _=Value.bool _;rw [<-all_range,hb,aG,af]
end
mutual
inductive Dp (K:PySem.W.Frag)(H:Hp):V->PyData->Prop
 | cw:Dp K H .cw .none
 | bl (b:Bool):Dp K H (.bl b) (.bool b)
 | int (i:Int):Dp K H (.int i) (.int i)
 | str (x:Str):Dp K H (.str x) (.str x)
 | lst {a:Addr} {xs:List V} {ds:List PyData}:bY K H a xs->tR K H xs ds->Dp K H (.ref a) (.list ds)
 | tup {a:Addr} {xs:List V} {ds:List PyData}:cA K H a xs->tR K H xs ds->Dp K H (.ref a) (.tuple ds)
inductive tR (K:PySem.W.Frag)(H:Hp):List V->List PyData->Prop
 | nil:tR K H [] []
 | cons {v:V} {vs:List V} {d:PyData} {ds:List PyData}:Dp K H v d->tR K H vs ds->tR K H (v::vs) (d::ds)
end
section
variable {X:Cx}{pins:List (Addr×Obj)}{σ:St}{H:Hp}{s:Shared}
mutual
theorem Dp.reads (I:Inv X pins σ H s):∀(d:PyData)(v:V)(u:Value),Dp X.K H v d->RelV v u->∃as,Reads s.heap u d as
 | .none,_,_,h,r=>by cases h;cases r;exact ⟨_,Reads.none⟩
 | .bool b,_,_,h,r=>by cases h;cases r;exact ⟨_,Reads.bool b⟩
 | .int i,_,_,h,r=>by cases h;obtain ⟨t,rfl⟩:=r;exact ⟨_,Reads.int i t⟩
 | .str x,_,_,h,r=>by cases h;obtain ⟨t,rfl⟩:=r;exact ⟨_,Reads.str x t⟩
 | .list ds,_,_,h,r=>by
  cases h with
  | lst hs ha =>cases r;obtain ⟨bZ,rv,⟨o,n,ho,hc,_,hd⟩,_⟩:=I.list hs;obtain ⟨as,hr⟩:=Dp.readsAll I ds _ bZ ha rv;exact ⟨_,Reads.list ho hc hd hr⟩
 | .tuple ds,_,_,h,r=>by
  cases h with
  | tup hs ha =>cases r;obtain ⟨bZ,rv,⟨o,ho,hc,n,hd⟩,_⟩:=I.tuple hs;obtain ⟨as,hr⟩:=Dp.readsAll I ds _ bZ ha rv;exact ⟨_,Reads.tuple ho hc hd hr⟩
 | .dict _,_,_,h,_=>by cases h
theorem Dp.readsAll (I:Inv X pins σ H s):∀(ds:List PyData)(vs:List V)(us:List Value),tR X.K H vs ds->Vals vs us->∃as,ReadsAll s.heap us ds as
 | [],_,_,h,r=>by cases h;cases r;exact ⟨_,ReadsAll.nil⟩
 | d::ds,_,_,h,r=>by
  cases h with
  | cons h1 h2 =>
   cases r with
   | cons r1 r2 =>obtain ⟨as,q1⟩:=Dp.reads I d _ _ h1 r1;obtain ⟨bs,q2⟩:=Dp.readsAll I ds _ _ h2 r2;exact ⟨_,ReadsAll.cons q1 q2⟩
end
end
section
variable {X:Cx}
inductive IC (K:PySem.W.Frag)(x y:V)(H:Hp)(Q:VK):Prop | mk d e:Dp K H x d->Dp K H y e->SeqAt.shaped d=true->SeqAt.shaped e=true->Q (.bl (PyData.eqv d e)) H->IC K x y H Q
theorem Dk (hu:X.A.units+64<cLine):gZ X (compareOp .Eq) (IC X.K):=by intro pins s σ H x y v u Q I rx ry h;obtain ⟨d,e,hd,he,sd,se,q⟩:=h;obtain ⟨as,r1⟩:=Dp.reads I d x v hd rx;obtain ⟨bs,r2⟩:=Dp.reads I e y u he ry;exact SeqAt.compareEq_shaped r1 r2 sd se hu ⟨.bl _,H,I,rfl,q⟩
end
end L2
namespace L2
open PySem PySem.Spec PyProof.Rows
abbrev Pt (h:Heap)(c:Addr)(v:Option Value):Prop:=h.IsCell c v
def Z3 (scope sc:Scope):Scope :={scope with names:=scope.names.map λ(n,k)=>if (k == .free && sc.kind == .function && sc.names.lookup n == some .cell) then (n,.cell) else (n,k)}
def dM (cells:List (Str×Addr)):List (Str×NameKind)->List (Str×Addr)->List (Str×Addr)
 | [],acc=>acc
 | (n,k)::r,acc=>if k == .free then dM cells r ((n,(cells.lookup n).getD 0)::acc) else dM cells r acc
theorem yB (env:Env)(f:Str×NameKind->List (Str×Addr)->Sem (ForInStep (List (Str×Addr))))
  (hf:∀n k c,f (n,k) c=if k == .free then (do let a <-cellOf env n;pure (.yield ((n,a)::c))) else pure (.yield c)) :
  ∀(names:List (Str×NameKind))(acc:List (Str×Addr)),(∀y∈names,y.2=.free->∃c,env.cells.lookup y.1=some c)->forIn names acc f=pure (dM env.cells names acc)
 | [],acc,_=>by rw [List.forIn_nil];rfl
 | (n,k)::r,acc,h=>by
  rw [List.forIn_cons,hf];have ih:=λacc=>yB env f hf r acc λy hy=>h y (aA _ hy);unfold dM
  by_cases hk:(k == NameKind.free)=true
  ·rw [ab hk,ab hk];obtain ⟨c,hc⟩:=h (n,k) aE (by simpa using hk);have e:cellOf env n=pure c:=by unfold cellOf;rw [hc]
   rw [e];have e2:(env.cells.lookup n).getD 0=c:=by rw [hc];rfl
   rw [e2];exact ih _
  ·rw [aa hk,aa hk];exact ih _
theorem Nu {scope:Scope}{env:Env}(h:∀y∈scope.names,y.2=.free->∃c,env.cells.lookup y.1=some c):closureFor scope env=pure (dM env.cells scope.names []):=by simp only [closureFor];rw [yB env _ (λn k c=>rfl) scope.names [] h];rfl
theorem mem_lookup {α:Type}:∀{l:List (Str×α)}{n:Str}{c:α},(n,c)∈l->∃c',l.lookup n=some c'
 | (k,v)::r,n,c,h=>by
  rw [List.lookup_cons];cases hb:n == k with
  | true=>exact ⟨_,rfl⟩
  | false =>
   rcases ak.mp h with e | h
   ·cases e;simp at hb
   ·exact mem_lookup h
theorem ou {cells:List (Str×Addr)}:∀{names:List (Str×NameKind)}{acc:List (Str×Addr)}{n:Str}{c:Addr},(n,c)∈dM cells names acc->(n,c)∈acc\/((n,.free)∈names/\c=(cells.lookup n).getD 0)
 | [],_,_,_,h=>.inl h
 | (m,k)::r,acc,n,c,h=>by
  unfold dM at h
  split at h
  ·rename_i hk;have hk:k=.free:=by simpa using hk
   rcases ou h with h | ⟨h1,h2⟩
   ·rcases ak.mp h with e | h
    ·cases e;exact .inr ⟨hk▸aE,rfl⟩
    ·exact .inl h
   ·exact .inr ⟨aA _ h1,h2⟩
  ·rcases ou h with h | ⟨h1,h2⟩
   ·exact .inl h
   ·exact .inr ⟨aA _ h1,h2⟩
theorem uw {cells:List (Str×Addr)}:∀{names:List (Str×NameKind)}{acc:List (Str×Addr)}{p:Str×Addr},p∈acc->p∈dM cells names acc
 | [],_,_,h=>h
 | (m,k)::r,acc,p,h=>by
  unfold dM
  split
  ·exact uw (aA _ h)
  ·exact uw h
theorem ux {cells:List (Str×Addr)}:∀{names:List (Str×NameKind)}{acc:List (Str×Addr)}{n:Str},(n,.free)∈names->(n,(cells.lookup n).getD 0)∈dM cells names acc
 | (m,k)::r,acc,n,h=>by
  unfold dM;rcases ak.mp h with e | h
  ·cases e;exact uw aE
  ·split
   ·exact ux h
   ·exact ux h
theorem oT:∀{names:List (Str×NameKind)}{h:Heap}{acc:List (Str×Addr)}{x:Str}{c:Addr},(x,c)∈cellsFrom h.objs.size names acc ->
  (x,c)∈acc\/((x,.cell)∈names/\h.objs.size<=c/\Pt (pushCells h names) c none)
 | [],_,_,_,_,h=>.inl h
 | (n,k)::r,h,acc,x,c,hm=>by
  unfold cellsFrom at hm;unfold pushCells
  split at hm
  ·rename_i hk;rw [ab hk];have hk:k=.cell:=by simpa using hk
   rw [<-aV h {cls:=.type "cell",data:=.cell none}] at hm;rcases oT hm with hm | ⟨h1,h2,h3⟩
   ·rcases ak.mp hm with e | hm
    ·cases e;exact .inr ⟨hk▸aE,ag _,_,pushCells_keeps r _ _ _ (aF _ rfl),rfl⟩
    ·exact .inl hm
   ·rw [aV] at h2;exact .inr ⟨aA _ h1,Nat.le_of_succ_le h2,h3⟩
  ·rename_i hk;rw [aa hk];rcases oT hm with hm | ⟨h1,h2,h3⟩
   ·exact .inl hm
   ·exact .inr ⟨aA _ h1,h2,h3⟩
theorem tS:∀{names:List (Str×NameKind)}{n:Nat}{acc:List (Str×Addr)}{p:Str×Addr},p∈acc->p∈cellsFrom n names acc
 | [],_,_,_,h=>h
 | (m,k)::r,n,acc,p,h=>by
  unfold cellsFrom
  split
  ·exact tS (aA _ h)
  ·exact tS h
theorem yC:∀{names:List (Str×NameKind)}{n:Nat}{acc:List (Str×Addr)}{x:Str},(x,.cell)∈names->∃c,(x,c)∈cellsFrom n names acc
 | (m,k)::r,n,acc,x,h=>by
  unfold cellsFrom;rcases ak.mp h with e | h
  ·cases e;exact ⟨n,tS aE⟩
  ·split
   ·exact yC h
   ·exact yC h
theorem yD:∀{names:List (Str×NameKind)}{h:Heap}{acc:List (Str×Addr)}{x y:Str}{c:Addr},(∀p∈acc,p.2<h.objs.size)->(∀x y c,(x,c)∈acc->(y,c)∈acc->x=y) ->
  (x,c)∈cellsFrom h.objs.size names acc->(y,c)∈cellsFrom h.objs.size names acc->x=y
 | [],_,_,_,_,_,_,hi,h1,h2=>hi _ _ _ h1 h2
 | (n,k)::r,h,acc,x,y,c,hl,hi,h1,h2=>by
  unfold cellsFrom at h1 h2
  split at h1
  ·rename_i hk;rw [ab hk] at h2;rw [<-aV h {cls:=.type "cell",data:=.cell none}] at h1 h2;refine yD (h:=h.push _) (λp hp=>?_) (λx y c a b=>?_) h1 h2
   ·rw [aV];rcases ak.mp hp with rfl | hp
    ·exact Nat.lt_succ_self _
    ·exact Nat.lt_succ_of_lt (hl p hp)
   ·rcases ak.mp a with e | a <;> rcases ak.mp b with e' | b
    ·cases e;cases e';rfl
    ·cases e;exact ai (hl _ b) (Nat.lt_irrefl _)
    ·cases e';exact ai (hl _ a) (Nat.lt_irrefl _)
    ·exact hi _ _ _ a b
  ·rename_i hk;rw [aa hk] at h2;exact yD hl hi h1 h2
theorem K0 {M:Model}{A:Around}{E:Value->Shared->Prop}{s:Shared}{scope:Scope}{globals:Addr}{closure:List (Str×Addr)}{qual:Str}{func:Option Addr}{code:Value}{around:Env}{builtins:Addr}{Q:Env->Shared->Prop}
  (h:Q (newEnv scope s.heap.objs.size globals (cellsFrom (s.heap.objs.size+1) scope.names closure) qual func code (some around) builtins)
   {s with heap:=pushCells (s.heap.push {cls:=.type "dict",data:=.dict #[]}) scope.names}) :
  wpAny M A (newFunctionEnv scope globals closure [] qual func code (some around) builtins) Q E s:=by
 simp only [newFunctionEnv,Option.isSome_some,if_true];refine ae (wpAny_alloc ?_);refine ae (wpAny_layCells _ (λn k c=>rfl) scope.names closure _ _ ?_);rw [show ({s with heap:=s.heap.push {cls:=.type "dict",data:=.dict #[]}}:Shared).heap.objs.size=s.heap.objs.size+1 from aV ..];rw [List.forIn_nil];exact ae (ah (ah h))
theorem uy {sc:Scope}:∀{names:List (Str×NameKind)}{x:Str}{k:NameKind},
  (names.map λ(n,k)=>if (k == NameKind.free && sc.kind == .function && sc.names.lookup n == some .cell) then (n,NameKind.cell) else (n,k)).lookup x=some k ->
  ∃k',names.lookup x=some k'/\(k=k'\/(k'=.free/\k=.cell))
 | [],_,_,h=>by simp at h
 | (n,k₀)::r,x,k,h=>by
  have ih:=@uy sc r x k;have h':List.lookup x ((if (k₀ == NameKind.free && sc.kind == .function && sc.names.lookup n == some .cell)=true then (n,NameKind.cell) else (n,k₀))::(r.map _))=some k:=h;cases hx:x == n with
  | true =>
   simp only [List.lookup_cons,hx]
   by_cases hc:(k₀ == NameKind.free && sc.kind == .function && sc.names.lookup n == some .cell)=true
   ·rw [ab hc] at h';simp only [List.lookup_cons,hx] at h';cases h';simp only [bc,beq_iff_eq] at hc;exact ⟨k₀,rfl,.inr ⟨hc.1.1,rfl⟩⟩
   ·rw [aa hc] at h';simp only [List.lookup_cons,hx] at h';cases h';exact ⟨_,rfl,.inl rfl⟩
  | false =>
   simp only [List.lookup_cons,hx]
   by_cases hc:(k₀ == NameKind.free && sc.kind == .function && sc.names.lookup n == some .cell)=true
   ·rw [ab hc] at h';simp only [List.lookup_cons,hx] at h';exact ih h'
   ·rw [aa hc] at h';simp only [List.lookup_cons,hx] at h';exact ih h'
structure HM (N:List Str)(sc scope:Scope)(own:List (Str×Nat)):Prop where
 kind:scope.kind=.function
 uniq:∀y∈scope.names,scope.names.lookup y.1=some y.2
 ix:∀p∈own,N[p.2]?=some p.1
 free:∀y∈scope.names,y.2=.free->sc.names.lookup y.1=some .cell\/sc.names.lookup y.1=some .free
 own:∀y∈scope.names,y.2=.local\/y.2=.cell->y.1∈own.map (·.1)\/y.1∉N
def wipe (σ:St):List Nat->St
 | []=>σ
 | v::vs=>(wipe σ vs).set v none
theorem uz (σ:St):∀vs:List Nat,(wipe σ vs).length=σ.length
 | []=>rfl
 | v::vs=>by unfold wipe;rw [List.length_set,uz σ vs]
theorem yE {σ:St}{i:Nat}{x:V}:∀{vs:List Nat},(wipe σ vs)[i]?=some (some x)->σ[i]?=some (some x)/\i∉vs
 | [],h=>⟨h,by simp⟩
 | v::vs,h=>by
  unfold wipe at h
  by_cases hi:v=i
  ·subst hi
   by_cases hv:v<(wipe σ vs).length
   ·rw [List.getElem?_set_self hv] at h;cases h
   ·rw [bx (by simpa using hv)] at h;cases h
  ·rw [List.getElem?_set_ne hi] at h;obtain ⟨h1,h2⟩:=yE h;exact ⟨h1,by simp only [ak,not_or];exact ⟨λe=>hi e.symm,h2⟩⟩
abbrev Cx.p7 (X:Cx)(s:Shared)(H:Hp)(scope:Scope)(eZ:Env)(fp:List Addr):Cx:={X with lT:=s,O2:=H,env:=eZ,outer:=X.stack,ex:=fp,fn:=λx=>scope.names.lookup x == some .cell,pn:=[],xe:=λ_ _=>False}
section
variable {X:Cx}{pins:List (Addr×Obj)}{σ:St}{H:Hp}{s:Shared}
theorem K1 {scope:Scope}{own:List (Str×Nat)}{fp:List Addr}(I:Inv X pins σ H s)(ok:HM X.N X.env.scope scope own)(hN:X.N.Nodup)(L0:∀b∈fp,px X pins H b/\b<s.heap.objs.size) :
  Inv (X.p7 s H scope (compEnvC scope (cellsFrom (s.heap.objs.size+1) scope.names (dM X.env.cells scope.names [])) s.heap.objs.size X.env) fp) [] (wipe σ (own.map (·.2))) H {s with heap:=pushCells (s.heap.push {cls:=.type "dict",data:=.dict #[]}) scope.names}:=by
 have Au:∀y∈scope.names,y.2=.free->∃c,X.env.cells.lookup y.1=some c:=λy hy e=>by
  rcases ok.free y hy e with k | k
  ·exact I.ok.has _ (.inl k)
  ·exact I.ok.has _ (.inr k)
 generalize Dl:compEnvC scope (cellsFrom (s.heap.objs.size+1) scope.names (dM X.env.cells scope.names [])) s.heap.objs.size X.env=eZ
 have kp:∀b o,s.heap.get? b=some o->(pushCells (s.heap.push {cls:=.type "dict",data:=.dict #[]}) scope.names).get? b=some o:=λb o e=>pushCells_keeps _ _ _ _ (aq _ e);have hL:eZ.locals=s.heap.objs.size:=by rw [<-Dl];rfl
 have Dm:eZ.cells=cellsFrom (s.heap.objs.size+1) scope.names (dM X.env.cells scope.names []):=by rw [<-Dl];rfl
 have V3:eZ.scope=Z3 scope X.env.scope:=by rw [<-Dl];rfl
 rw [<-aV s.heap {cls:=.type "dict",data:=.dict #[]}] at Dm;have cm:∀{y c},(y,c)∈dM X.env.cells scope.names []->X.env.cells.lookup y=some c/\c<s.heap.objs.size:=λ{y c} hm=>by
  rcases ou hm with hm | ⟨h1,rfl⟩
  ·cases hm
  ·obtain ⟨c,hc⟩:=Au _ h1 rfl;rw [hc];obtain ⟨w,z⟩:=I.cell _ _ hc;exact ⟨rfl,z.lt⟩
 have mem:∀{y c},eZ.cells.lookup y=some c->(X.env.cells.lookup y=some c/\c<s.heap.objs.size)\/(s.heap.objs.size+1<=c/\Pt (pushCells (s.heap.push {cls:=.type "dict",data:=.dict #[]}) scope.names) c none):=λ{y c} e=>by
  rw [Dm] at e;rcases oT (PySem.mem_of_lookup e) with hm | ⟨_,h2,h3⟩
  ·exact .inl (cm hm)
  ·rw [aV] at h2;exact .inr ⟨h2,h3⟩
 have look:∀{y},scope.names.lookup y=some .free->∃c,eZ.cells.lookup y=some c/\X.env.cells.lookup y=some c:=λ{y} hl=>by
  have hy:(y,NameKind.free)∈scope.names:=PySem.mem_of_lookup hl;obtain ⟨c',e'⟩:=mem_lookup (tS (names:=scope.names) (n:=(s.heap.push {cls:=.type "dict",data:=.dict #[]}).objs.size) (ux (cells:=X.env.cells) (acc:=[]) hy));rw [<-Dm] at e';refine ⟨c',e',?_⟩;rw [Dm] at e';rcases oT (PySem.mem_of_lookup e') with hm | ⟨h1,_,_⟩
  ·exact (cm hm).1
  ·have:=ok.uniq _ h1
   rw [hl] at this;cases this
 have okB:(X.p7 s H scope eZ fp).Ok:=by
  refine ⟨I.ok.mod,by show eZ.scope.kind=_;rw [V3];exact ok.kind,by show eZ.globals=_;rw [<-Dl];exact I.ok.glob,by show eZ.builtins=_;rw [<-Dl];exact I.ok.blt,by show s.heap.objs.size<=eZ.locals;rw [hL];exact ag _,
   λy z c e1 e2=>?_,λy hy=>?_,λy c z e=>?_,I.ok.hd,I.ok.frames,.inl rfl,λb hb=>⟨?_,λy c e z=>?_⟩,I.bs,aN I.ok.Bb I.sz,λb o e hb=>?_,λb hb z=>?_,I.stack,I.LP⟩
  ·have e1:eZ.cells.lookup y=some c:=e1;have e2:eZ.cells.lookup z=some c:=e2;rw [Dm] at e1 e2;refine yD (λp hp=>?_) (λy z c a b=>I.ok.inj y z c (cm a).1 (cm b).1) (PySem.mem_of_lookup e1) (PySem.mem_of_lookup e2);rw [aV];exact Nat.lt_succ_of_lt (cm (y:=p.1) (c:=p.2) hp).2
  ·show ∃c,eZ.cells.lookup y=some c;have key:∀k,eZ.kindOf y=some k->(k=.cell\/k=.free)->∃c,eZ.cells.lookup y=some c:=λk hk Pu=>by
    unfold Env.kindOf at hk;rw [V3] at hk;obtain ⟨k',e,r⟩:=uy hk
    have:k'=.cell\/k'=.free:=by
     rcases r with rfl | ⟨rfl,_⟩
     ·exact Pu
     ·exact .inr rfl
    rcases this with rfl | rfl
    ·obtain ⟨c,hm⟩:=yC (n:=(s.heap.push {cls:=.type "dict",data:=.dict #[]}).objs.size) (acc:=dM X.env.cells scope.names []) (PySem.mem_of_lookup e);obtain ⟨c',e'⟩:=mem_lookup hm;exact ⟨c',by rw [Dm];exact e'⟩
    ·obtain ⟨c,h1,_⟩:=look e;exact ⟨c,h1⟩
   rcases hy with hy | hy
   ·exact key _ hy (.inl rfl)
   ·exact key _ hy (.inr rfl)
  ·have z:(scope.names.lookup y == some NameKind.cell)=true:=z;have z:scope.names.lookup y=some .cell:=by simpa using z
   have e:eZ.cells.lookup y=some c:=e;rw [Dm] at e;rcases oT (PySem.mem_of_lookup e) with hm | ⟨_,h2,_⟩
   ·rcases ou hm with hm | ⟨h1,_⟩
    ·cases hm
    ·have q:=ok.uniq _ h1;rw [z] at q;cases q
   ·rw [aV] at h2;exact Nat.le_of_succ_le h2
  ·show b≠eZ.locals;rw [hL];exact aU (L0 b hb).2
  ·have e:eZ.cells.lookup y=some c:=e;rcases mem e with ⟨h1,_⟩ | ⟨h1,_⟩
   ·exact (L0 b hb).1.2.2.2.2.1 y c h1 z
   ·have h2:s.heap.objs.size+1<=b:=by rw [<-z];exact h1
    exact ai (bb (L0 b hb).2 (Nat.le_of_succ_le h2)) (Nat.lt_irrefl _)
  ·rcases (L0 b hb).1.2.2.2.1 with z | z
   ·exact I.ok.Ic b o e z
   ·exact ai (bb (ax e) (aN I.ok.Bb z)) (Nat.lt_irrefl _)
  ·rcases ak.mp (I.Ii b z) with z | z
   ·exact (L0 b hb).1.2.1 z
   ·exact (L0 b hb).1.2.2.1 z
 refine ⟨okB,rfl,I.bare,Un.kept kp,⟨λ_=>none,?_,λi y av e1 e2 e3=>?_⟩,λy c e=>?_,?_,λy c e=>?_,λp hp=>?_,I.cn.kept kp,by rw [uz];exact I.len⟩
 ·show Heap.Ns _ eZ.locals _;rw [hL];exact Heap.Ns.keeps (Heap.Ns.new ..) λb o e=>pushCells_keeps _ _ _ _ e
 ·obtain ⟨e2,dP⟩:=yE e2;have Dn:scope.names.lookup y=some .free/\(eZ.kindOf y=some .cell\/eZ.kindOf y=some .free):=by
   have key:∀k,eZ.scope.names.lookup y=some k->k=.local\/k=.cell\/k=.free->scope.names.lookup y=some .free/\(eZ.kindOf y=some .cell\/eZ.kindOf y=some .free):=λk hk Pu=>by
    have YD:=hk;rw [V3] at hk;obtain ⟨k',e,r⟩:=uy hk;have no:¬(k'=.local\/k'=.cell):=λhh=>by
     rcases ok.own _ (PySem.mem_of_lookup e) hh with e' | e'
     ·obtain ⟨p,hp,hpy⟩:=aQ.mp e';have e3:=ok.ix p hp
      have:p.1=y:=hpy
      rw [this] at e3;exact dP (aQ.mpr ⟨p,hp,B3 hN e3 e1⟩)
     ·exact e' (aM e1)
    rcases r with rfl | ⟨rfl,rfl⟩
    ·rcases Pu with rfl | rfl | rfl
     ·exact ai (.inl rfl) no
     ·exact ai (.inr rfl) no
     ·exact ⟨e,.inr YD⟩
    ·exact ⟨e,.inl YD⟩
   have e3:LO eZ.scope y:=e3;rcases e3 with e3 | e3 | e3
   ·exact key _ e3 (.inl rfl)
   ·exact key _ e3 (.inr (.inl rfl))
   ·exact key _ e3 (.inr (.inr rfl))
  obtain ⟨m,hn,hl⟩:=I.loc;have Z4:LO X.env.scope y:=(ok.free _ (PySem.mem_of_lookup Dn.1) rfl).elim (λk=>.inr (.inl k)) (λk=>.inr (.inr k));obtain ⟨w,r,q⟩:=hl i y av e1 e2 Z4;refine ⟨w,r,.inr ⟨Dn.2,?_⟩⟩;obtain ⟨c,h1,h2⟩:=look Dn.1;rcases q with ⟨k,_⟩ | ⟨_,c',e',z⟩
  ·have k:X.env.scope.names.lookup y=some .local:=k;rcases ok.free _ (PySem.mem_of_lookup Dn.1) rfl with k' | k' <;> rw [show X.env.scope.names.lookup y=_ from k'] at k <;> cases k
  ·rw [h2] at e';cases e';exact ⟨c,h1,z.keeps kp⟩
 ·have e:eZ.cells.lookup y=some c:=e;rcases mem e with ⟨h1,_⟩ | ⟨_,z⟩
  ·obtain ⟨w,z⟩:=I.cell y c h1;exact ⟨w,z.keeps kp⟩
  ·exact ⟨_,z⟩
 ·show H eZ.locals=none;rw [hL];exact I.cn.fresh (ag _)
 ·have e:eZ.cells.lookup y=some c:=e;rcases mem e with ⟨h1,_⟩ | ⟨h1,_⟩
  ·exact I.ml y c h1
  ·exact I.cn.fresh (Nat.le_of_succ_le h1)
 ·exact ai (show p∈([]:List (Addr×Obj))++[] from hp) (by simp)
theorem V4 {E:Value->Shared->Prop}{D:Addr}{xs:List V}{y:V}{v:Value}{Q:Value->Shared->Prop}(I:Inv X pins σ H s)(hD:H D=some (.lst xs))(hz:xs.length<sizeLine)(r:RelV y v)
  (h:∀s',Inv X pins σ (upd H D (.lst (xs++[y]))) s'->Q .none s'):wpAny (model X.prog X.w) X.A (call (.builtin "list.append") [.ref D,v]) Q E s:=by
 obtain ⟨hz',bZ,n,ri,e⟩:=I.cn D _ hD;have hl:=ri.length;refine append_at (hsz:=by rw [aG];omega) e λh' sb p0=>?_;refine h {s with heap:=h'} (I.write (t':=s.toks) (by rw [hD];trivial) (.inl rfl) (λb u hb q=>(sb.2 b hb).trans q) ⟨_,p0⟩ ⟨by rw [ay];exact hz,bZ++[v],n+1,ri.append (.cons r .nil),?_⟩);rw [p0];simp
def V5 (X:Cx)(ifs:List Expr)(t:TT):Prop :=
 ∀(pins:List (Addr×Obj))(s:Shared)(σ:St)(H:Hp)(Q:Bool->Hp->Prop),Inv X pins σ H s->t σ H Q ->
  wpAny (model X.prog X.w) X.A (forIn ifs true λc r=>if r=true then do let ok <-isTrue c X.env (eval c X.env);pure (ForInStep.yield ok) else pure (ForInStep.yield r)) (TP X pins σ Q) X.xe s
def Z5:TT:=λ_ H Q=>Q true H
theorem j7:V5 X [] Z5:=λ_ _ _ H _ I h=>wpAny_tests_nil ⟨H,I,h⟩
end
theorem E5 {α:Type}{t:Sem α}{Q Q':α->Shared->Prop}{M:Model}{A:Around}{E:Value->Shared->Prop}{s:Shared}(h:wpAny M A t Q (λ_ _=>False) s)(hQ:∀a s,Q a s->Q' a s):wpAny M A t Q' E s:=wpAny_mono h hQ λ_ _ z=>False.elim z
theorem ID {prog:Program}{w:World}{A:Around}{R:Result->Shared->Prop}{s:Shared}{elt target iter:Expr}{ifs:List Expr}{scope:Scope}{pos:Pos}{it acc:Value}{env:Env}(I:Nat->Shared->Prop)
  (turn:∀n s,I n s->wpAny (model prog w) A (pyNext it) (λr s₁=>match r with
   | none=>R (.ok .next) s₁
   | some v=>wpAny (model prog w) A (letOwnedTupleGo target it v) (λ_ s₁'=>wpAny (model prog w) A (assign target env v) (λ_ s₂ =>
     wpAny (model prog w) A (forIn ifs true λc r=>if r=true then do let ok <-isTrue c env (eval c env);pure (ForInStep.yield ok) else pure (ForInStep.yield r)) (λok s₃ =>
      if ok=true then wpAny (model prog w) A (eval elt env) (λx s₄ =>
       wpAny (model prog w) A (call (.builtin "list.append") [acc,x]) (λ_ s₅=>∃m,m<n/\I m s₅) (notedBy (model prog w) A env λe s'=>R (.error e) s') s₄) (notedBy (model prog w) A env λe s'=>R (.error e) s') s₃
      else ∃m,m<n/\I m s₃) (notedBy (model prog w) A env λe s'=>R (.error e) s') s₂) (notedBy (model prog w) A env λe s'=>R (.error e) s') s₁') (notedBy (model prog w) A env λe s'=>R (.error e) s') s₁) (notedBy (model prog w) A env λe s'=>R (.error e) s') s)
  (n:Nat) (h:I n s) :
  codeAny (model prog w) A (.compLoop (.ListComp elt [⟨target,iter,ifs,0⟩] scope pos) 0 it acc env) R s:=by
 refine codeAny_loop rfl I (λn s hI=>?_) n h;show wpAny _ A ((compTurn (.ListComp elt [⟨target,iter,ifs,0⟩] scope pos) 0 it acc env).onRaise (λx=>do noteFrame x env;theTreesLotGoes x)) _ _ s;refine wpAny_noted ?_;rw [compTurn_list];refine ae (wpAny_standAt (ae (wpAny_mono (turn n s hI) (λr s₁ h₁=>?_) λ_ _ h'=>h')));cases r with
 | none=>exact ah h₁
 | some v =>
  refine ae (wpAny_mono h₁ (λ_ s₁' h₁'=>?_) λ_ _ h'=>h');refine ae (wpAny_mono h₁' (λ_ s₂ h₂=>ae (wpAny_mono h₂ (λok s₃ h₃=>?_) λ_ _ h'=>h')) λ_ _ h'=>h');cases ok with
  | false=>exact ah ⟨rfl,h₃⟩
  | true =>exact ae (ae (wpAny_mono h₃ (λx s₄ h₄=>ae (wpAny_mono h₄ (λ_ s₅ h₅=>ah (ah ⟨rfl,h₅⟩)) λ_ _ h'=>h')) λ_ _ h'=>h'))
section
variable {X:Cx}
def YE (wi:TI)(g:TG)(tt:TT)(te:TE)(vs:List Nat):TE:=λσ H Q=>wi σ H λJ H1=>∀D,H1 D=none->∃W:Nat->Nat->Hp->Prop,(∃m,W 0 m (upd H1 D (.lst [])))/\∀i m H,W i m H ->
 (J.stop i H/\Q (.ref D) H)\/(J.go i H/\∃Nx:Hp->Prop,(∀H',Nx H'->∃m',m'<m/\W (i+1) m' H')/\∀x H',J.lU i H x H'->g x (wipe σ vs) H' λσ2 H2=>wipe σ2 vs=wipe σ vs/\tt σ2 H2 λb H3 =>if b=true then te σ2 H3 λy H4=>∃acc,H4 D=some (.lst acc)/\acc.length<sizeLine/\Nx (upd H4 D (.lst (acc++[y]))) else Nx H3)
theorem UA {pins:List (Addr×Obj)}{s:Shared}{σ:St}{H:Hp}{Q:VK}{elt tg iter:Expr}{ifs:List Expr}{scope:Scope}{own:List (Str×Nat)}{pos pos':Pos}{wi:TI}{g:TG}{tt:TT}{te:TE}{use:Option (Value->Sem Unit)}{Qf:Value->Shared->Prop}
  (hc:X.calm=true) (hN:X.N.Nodup) (I:Inv X pins σ H s) (hi:PI X tg iter wi) (ok:HM X.N X.env.scope scope own)
  (hg:∀(s:Shared)(H:Hp)(C:Addr)(cl:List (Str×Addr))(fp:List Addr),PG (X.p7 s H scope (compEnvC scope cl C X.env) fp) tg g) (ht:∀(s:Shared)(H:Hp)(C:Addr)(cl:List (Str×Addr))(fp:List Addr),V5 (X.p7 s H scope (compEnvC scope cl C X.env) fp) ifs tt)
  (he:∀(s:Shared)(H:Hp)(C:Addr)(cl:List (Str×Addr))(fp:List Addr),PE (X.p7 s H scope (compEnvC scope cl C X.env) fp) elt te) (hs:∀x,foldedSetIterable iter X.env x=pure x)
  (h:YE wi g tt te (own.map (·.2)) σ H Q)
  (hRR:∀D C s' m H',Inv X pins σ H' s'->Q (.ref D) H'->s'.heap.Ns C m->px X pins H' C->compPost (model X.prog X.w) X.A X.xe use Qf (.ref D) C (.ok .next) s') :
  wpAny (model X.prog X.w) X.A (comprehension (.ListComp elt [⟨tg,iter,ifs,0⟩] scope pos) scope X.env pos' (newList []) false (eval iter X.env) use) Qf X.xe s:=by
 have Au:∀y∈scope.names,y.2=.free->∃c,X.env.cells.lookup y.1=some c:=λy hy e=>by
  rcases ok.free y hy e with k | k
  ·exact I.ok.has _ (.inl k)
  ·exact I.ok.has _ (.inr k)
 refine wpAny_comprehension_free (use:=use) rfl hs (Nu Au) ok.kind (λy hy e=>by rw [ok.uniq y hy,e])
  (cT (hi pins s σ H _ I h) λxv s1 hx=>cT hx λitv s2 h2=>?_)
 obtain ⟨it,fp,tn,J,H2,e,I2,T,Be,f2,q⟩:=h2;subst e;refine wpAny_newObj_type (K0 ?_) (by show 0<=sizeLine;decide)
 generalize hD:s2.heap.objs.size=D
 have hDn:H2 D=none:=I2.cn.fresh (Nat.le_of_eq hD);obtain ⟨W,⟨m0,w0⟩,turn⟩:=q D hDn
 generalize fW:({s2 with heap:=s2.heap.push {cls:=.type "list",data:=.seq ([]:List Value).toArray}}:Shared)=s3
 have I3:Inv X pins σ (upd H2 D (.lst [])) s3:=by rw [<-fW];refine I2.laid (t':=s2.toks) (λb o e=>aq _ e) (Nat.le_of_eq hD) ⟨aW _,[],0,.nil,?_⟩;rw [<-hD];exact aF _ rfl
 have h3:s3.heap=s2.heap.push {cls:=.type "list",data:=.seq ([]:List Value).toArray}:=by rw [<-fW]
 have sz:∀b∈fp,b<s2.heap.objs.size:=λb hb=>by obtain ⟨o,e,_⟩:=T.obj _ _ Be b hb;exact ax e
 have f3:∀b∈fp,px X pins (upd H2 D (.lst [])) b/\b<s3.heap.objs.size:=λb hb=>by have c9:=sz b hb;refine ⟨⟨?_,(f2 b hb).2⟩,by rw [h3,aV];exact Nat.lt_succ_of_lt c9⟩;rw [bR (by rw [<-hD];exact aU c9)];exact (f2 b hb).1
 have Ta:tn 0 s3.heap:=T.keep _ _ _ Be λb _ o e=>by rw [h3];exact aq _ e
 have I4:=K1 I3 ok hN f3;have pg:=hg s3 (upd H2 D (.lst [])) s3.heap.objs.size (cellsFrom (s3.heap.objs.size+1) scope.names (dM X.env.cells scope.names [])) fp;have pt:=ht s3 (upd H2 D (.lst [])) s3.heap.objs.size (cellsFrom (s3.heap.objs.size+1) scope.names (dM X.env.cells scope.names [])) fp;have pe:=he s3 (upd H2 D (.lst [])) s3.heap.objs.size (cellsFrom (s3.heap.objs.size+1) scope.names (dM X.env.cells scope.names [])) fp;show codeAny _ _ (.compStart (.ListComp elt [⟨tg,iter,ifs,0⟩] scope pos) 0 (.ref it) (.ref D) (compEnvC scope (cellsFrom (s3.heap.objs.size+1) scope.names (dM X.env.cells scope.names [])) s3.heap.objs.size X.env)) (compPost (model X.prog X.w) X.A X.xe use Qf (.ref D) s3.heap.objs.size) {s3 with heap:=pushCells (s3.heap.push {cls:=.type "dict",data:=.dict #[]}) scope.names};have nfp:∀b∈fp,(upd H2 D (.lst [])) b=none:=λb hb=>(f3 b hb).1.1
 generalize IE:compEnvC scope (cellsFrom (s3.heap.objs.size+1) scope.names (dM X.env.cells scope.names [])) s3.heap.objs.size X.env=ce at I4 pg pt pe ⊢
 have cL:ce.locals=s3.heap.objs.size:=by subst IE;rfl
 generalize hH3:upd H2 D (.lst [])=H3 at I3 I4 pg pt pe w0 nfp f3
 generalize p8:({s3 with heap:=pushCells (s3.heap.push {cls:=.type "dict",data:=.dict #[]}) scope.names}:Shared)=s4 at I4 ⊢
 have YF:tn 0 s4.heap:=T.keep _ _ _ Ta λb _ o e=>by rw [<-p8];exact pushCells_keeps _ _ _ _ (aq _ e)
 have stat:∀{σ':St}{H':Hp}{s':Shared},Inv (X.p7 s3 H3 scope ce fp) [] σ' H' s'->(∀b∈fp,H' b=none)->∀b∈fp,px (X.p7 s3 H3 scope ce fp) [] H' b:=λ{σ' H' s'} I' hn b hb =>⟨hn b hb,(I'.ok.SX b hb).1,I'.ok.Ie b hb,.inl hb,λx c e=>(I'.ok.SX b hb).2 x c e,λp hp=>ai (show p∈([]:List (Addr×Obj))++[] from hp) (by simp)⟩
 have loop:codeAny (model X.prog X.w) X.A (.compLoop (.ListComp elt [⟨tg,iter,ifs,0⟩] scope pos) 0 (.ref it) (.ref D) ce) (compPost (model X.prog X.w) X.A X.xe use Qf (.ref D) s3.heap.objs.size) s4:=by
  refine ID (λn s'=>∃i H',Inv (X.p7 s3 H3 scope ce fp) [] (wipe σ (own.map (·.2))) H' s'/\tn i s'.heap/\(∀b∈fp,H' b=none)/\W i n H') ?_ m0 ⟨0,H3,I4,YF,nfp,w0⟩;rintro n s5 ⟨i,H5,I5,LR,n5,w5⟩;rcases turn i n H5 w5 with ⟨stop,qq⟩ | ⟨go,Nx,hNx,step⟩
  ·have td:=T.done (X.p7 s3 H3 scope ce fp) rfl rfl rfl hc i [] s5 _ H5 (λ_ _=>False) I5 (stat I5 n5) LR stop;refine E5 td λr s6 ⟨hr,I6⟩=>?_;subst hr;have I7:Inv X pins σ H5 s6:=I3.XO (ch:=fp) I6.os I6.base I6.cn I6.bare λb hb=>⟨(f3 b hb).1.2.2.2.1,(f3 b hb).1.2.1,(f3 b hb).1.2.2.2.2.1,(f3 b hb).1.2.2.2.2.2⟩
   have nC:H5 s3.heap.objs.size=none:=by have z:H5 ce.locals=none:=I6.free;rw [cL] at z;exact z
   obtain ⟨m,hn,_⟩:=I6.loc;have hn:s6.heap.Ns ce.locals m:=hn;rw [cL] at hn;exact hRR D s3.heap.objs.size s6 m H5 I7 qq hn (I3.yw (ag _) nC)
  ·have ti:=T.item (X.p7 s3 H3 scope ce fp) rfl rfl rfl hc i [] s5 _ H5 (λ_ _=>False) I5 (stat I5 n5) LR go;refine E5 ti λr s6 ⟨u,hr,h6⟩=>?_;subst hr;refine E5 h6 λ_ s7 ⟨x,H7,I7,r7,y7,V6,n7⟩=>?_;have I7':=I7.pinned (stat I7 n7) (T.obj _ _ V6);refine E5 (pg _ s7 _ H7 x u _ I7' r7 (step x H7 y7)) λ_ s8 ⟨σ8,H8,I8,YG,q8⟩=>?_;refine E5 (pt _ s8 σ8 H8 _ I8 q8) λb s9 ⟨H9,I9,q9⟩=>?_;have fin:∀{s':Shared}{H':Hp},Inv (X.p7 s3 H3 scope ce fp) ([]++yx fp s7.heap) σ8 H' s'->Nx H'->∃m,m<n/\∃i H',Inv (X.p7 s3 H3 scope ce fp) [] (wipe σ (own.map (·.2))) H' s'/\tn i s'.heap/\(∀b∈fp,H' b=none)/\W i m H':=λ{s' H'} I' nx=>by
    obtain ⟨m',hm,w'⟩:=hNx H' nx;have pin':∀b∈fp,∀o,s7.heap.get? b=some o->s'.heap.get? b=some o/\H' b=none:=λb hb o e =>
     let z:=I'.pin (b,o) (List.mem_append_right _ (List.mem_append_right _ (wd hb e)))
     ⟨z.1,z.2.1⟩
    have hl:(wipe σ (own.map (·.2))).length=σ8.length:=by rw [<-YG,uz]
    refine ⟨m',hm,i+1,H',(I'.we (pins:=[])).weak hl (λj v e=>?_),T.keep _ _ _ V6 λb hb o e=>(pin' b hb o e).1,λb hb=>?_,w'⟩
    ·rw [<-YG] at e;exact (yE e).1
    ·obtain ⟨o,e,_⟩:=T.obj _ _ V6 b hb;exact (pin' b hb o e).2
   cases b with
   | false =>simp only [Bool.false_eq_true,if_false] at q9 ⊢;exact fin I9 q9
   | true =>simp only [if_true] at q9 ⊢;refine E5 (pe _ s9 σ8 H9 _ I9 q9) λz s10 ⟨yv,H10,I10,r10,acc,Z6,Z7,nx⟩=>?_;exact V4 (X:=X.p7 s3 H3 scope ce fp) I10 Z6 Z7 r10 λs11 I11=>fin I11 nx
 exact codeAny_compStart_list loop (T.self X.A 0 _ _ _ YF loop)
theorem qt {elt tg iter:Expr}{ifs:List Expr}{scope:Scope}{own:List (Str×Nat)}{pos:Pos}{wi:TI}{g:TG}{tt:TT}{te:TE}(hc:X.calm=true)(hN:X.N.Nodup)(hi:PI X tg iter wi)(ok:HM X.N X.env.scope scope own)
  (hg:∀(s:Shared)(H:Hp)(C:Addr)(cl:List (Str×Addr))(fp:List Addr),PG (X.p7 s H scope (compEnvC scope cl C X.env) fp) tg g) (ht:∀(s:Shared)(H:Hp)(C:Addr)(cl:List (Str×Addr))(fp:List Addr),V5 (X.p7 s H scope (compEnvC scope cl C X.env) fp) ifs tt)
  (he:∀(s:Shared)(H:Hp)(C:Addr)(cl:List (Str×Addr))(fp:List Addr),PE (X.p7 s H scope (compEnvC scope cl C X.env) fp) elt te) (hs:∀x,foldedSetIterable iter X.env x=pure x:=by intro _;rfl) :
  PE X (.ListComp elt [⟨tg,iter,ifs,0⟩] scope pos) (YE wi g tt te (own.map (·.2))):=by
 intro pins s σ H Q I h;rw [eval_ListComp];refine UA hc hN I hi ok hg ht he hs h λD C s' m H' I' q hn f=>⟨m,hn,λp9 sb=>?_⟩
 obtain ⟨f0,f1,f2,f3,f4,f5⟩:=f;exact ⟨.ref D,H',I'.turned (t':=s'.toks) (λb o hb e=>(sb.2 b hb).trans e) f0 f1 f3 f4 f5,rfl,q⟩
end
theorem Ry {lo:Int}{n:Nat}{g:TG}{tt:TT}{te:TE}{vs:List Nat}{σ:St}{H1:Hp}{D:Addr}{Qd:Hp->Prop}(Pv:Nat->Hp->Prop)(h0:Pv 0 (upd H1 D (.lst [])))
  (hs:∀i H,i<n->Pv i H->g (.int (lo+i)) (wipe σ vs) H λσ2 H2=>wipe σ2 vs=wipe σ vs/\tt σ2 H2 λb H3 =>
   if b=true then te σ2 H3 λy H4=>∃acc,H4 D=some (.lst acc)/\acc.length<sizeLine/\Pv (i+1) (upd H4 D (.lst (acc++[y]))) else Pv (i+1) H3) (hd:∀H,Pv n H->Qd H) :
  ∃W:Nat->Nat->Hp->Prop,(∃m,W 0 m (upd H1 D (.lst [])))/\∀i m H,W i m H ->
   ((Dd lo n).stop i H/\Qd H)\/((Dd lo n).go i H/\∃Nx:Hp->Prop,(∀H',Nx H'->∃m',m'<m/\W (i+1) m' H')/\∀x H',(Dd lo n).lU i H x H'->g x (wipe σ vs) H' λσ2 H2=>wipe σ2 vs=wipe σ vs/\tt σ2 H2 λb H3 =>if b=true then te σ2 H3 λy H4=>∃acc,H4 D=some (.lst acc)/\acc.length<sizeLine/\Nx (upd H4 D (.lst (acc++[y]))) else Nx H3):=by
 refine ⟨λi m H=>m=n - i/\i<=n/\Pv i H,⟨n,by simp,aW _,h0⟩,?_⟩;rintro i m H ⟨rfl,hi,p⟩
 by_cases c9:i<n
 ·refine .inr ⟨c9,Pv (i+1),λH' p'=>⟨n - (i+1),by omega,rfl,c9,p'⟩,λx H' y=>?_⟩;obtain ⟨e,y⟩:=y;subst e y;exact hs i _ c9 p
 ·have e:i=n:=by omega
  subst e;exact .inl ⟨ag _,hd H p⟩
theorem qF {K:PySem.W.Frag}{a:Addr}{xs:List V}{g:TG}{tt:TT}{te:TE}{vs:List Nat}{σ:St}{H1:Hp}{D:Addr}{Qd:Hp->Prop}(Pv:Nat->Hp->Prop)(h0:Pv 0 (upd H1 D (.lst [])))(hl:∀i H,i<=xs.length->Pv i H->bY K H a xs)
  (hs:∀i x H,xs[i]?=some x->Pv i H->g x (wipe σ vs) H λσ2 H2=>wipe σ2 vs=wipe σ vs/\tt σ2 H2 λb H3 =>
   if b=true then te σ2 H3 λy H4=>∃acc,H4 D=some (.lst acc)/\acc.length<sizeLine/\Pv (i+1) (upd H4 D (.lst (acc++[y]))) else Pv (i+1) H3) (hd:∀H,Pv xs.length H->Qd H) :
  ∃W:Nat->Nat->Hp->Prop,(∃m,W 0 m (upd H1 D (.lst [])))/\∀i m H,W i m H ->
   ((F1 K a).stop i H/\Qd H)\/((F1 K a).go i H/\∃Nx:Hp->Prop,(∀H',Nx H'->∃m',m'<m/\W (i+1) m' H')/\∀x H',(F1 K a).lU i H x H'->g x (wipe σ vs) H' λσ2 H2=>wipe σ2 vs=wipe σ vs/\tt σ2 H2 λb H3 =>if b=true then te σ2 H3 λy H4=>∃acc,H4 D=some (.lst acc)/\acc.length<sizeLine/\Nx (upd H4 D (.lst (acc++[y]))) else Nx H3):=by
 refine ⟨λi m H=>m=xs.length - i/\i<=xs.length/\Pv i H,⟨xs.length,by simp,aW _,h0⟩,?_⟩;rintro i m H ⟨rfl,hi,p⟩;have q:=hl i H hi p
 by_cases c9:i<xs.length
 ·refine .inr ⟨⟨xs,xs[i],q,by simp [c9]⟩,Pv (i+1),λH' p'=>⟨xs.length - (i+1),by omega,rfl,c9,p'⟩,λx H' y=>?_⟩;obtain ⟨e,y⟩:=y;subst e;exact hs i x _ (y xs q) p
 ·have e:i=xs.length:=by omega
  subst e;exact .inl ⟨⟨xs,q,ag _⟩,hd H p⟩
def V7 (N:List Str)(sc scope:Scope)(own:List (Str×Nat)):Bool :=
 (match scope.kind with | .function=>true | _=>false) && (scope.names.all λy=>decide (scope.names.lookup y.1=some y.2)) && (own.all λp=>decide (N[p.2]?=some p.1)) &&
  (scope.names.all λy=>match y.2 with
   | .free=>(match sc.names.lookup y.1 with | some .cell=>true | some .free=>true | _=>false)
   | .local=>decide (y.1∈own.map (·.1)) || decide (y.1∉N)
   | .cell=>decide (y.1∈own.map (·.1)) || decide (y.1∉N)
   | _=>true)
theorem iK {N:List Str}{sc scope:Scope}{own:List (Str×Nat)}(h:V7 N sc scope own=true):HM N sc scope own:=by
 unfold V7 at h;simp only [bc,br,decide_eq_true_eq] at h;obtain ⟨⟨⟨h1,h2⟩,h3⟩,h4⟩:=h;refine ⟨?_,h2,h3,λy hy e=>?_,λy hy e=>?_⟩
 ·split at h1
  ·assumption
  ·cases h1
 ·have q:=h4 y hy;simp only [e] at q
  split at q <;> first | exact .inl (by assumption) | exact .inr (by assumption) | cases q
 ·have q:=h4 y hy;rcases e with e | e <;> (simp only [e,Bool.or_eq_true,decide_eq_true_eq] at q;exact q)
end L2
namespace L2
open PySem PySem.Spec PyProof.Rows
section
variable {prog:Program}{w:World}{A:Around}{R:Result->Shared->Prop}{s:Shared}{elt t0 i0 t1 i1:Expr}{ifs0 ifs1:List Expr}{scope:Scope}{pos:Pos}{it acc:Value}{env:Env}
end
section
variable {X:Cx}
end
end L2
namespace L2
open PySem PySem.Spec PyProof.Rows
section
variable {κ:Type}[DecidableEq κ]
def dU (kvs:List (κ×V))(k:κ):Option V:=(kvs.find? λkv=>decide (kv.1=k)).map (·.2)
def putK (kvs:List (κ×V))(k:κ)(v:V):List (κ×V) :=if (kvs.any λkv=>decide (kv.1=k))=true then kvs.map (λkv=>if kv.1=k then (kv.1,v) else kv) else kvs++[(k,v)]
theorem IF {k:κ}:dU ([]:List (κ×V)) k=none:=rfl
theorem eR {p:κ×V}{r:List (κ×V)}{k:κ}(e:p.1=k):dU (p::r) k=some p.2:=by simp [dU,List.find?_cons,e]
theorem eF {p:κ×V}{r:List (κ×V)}{k:κ}(e:¬p.1=k):dU (p::r) k=dU r k:=by simp [dU,List.find?_cons,e]
theorem iL (k:κ):∀kvs:List (κ×V),(kvs.any λkv=>decide (kv.1=k))=(dU kvs k).isSome
 | []=>rfl
 | p::r=>by
  rw [List.any_cons]
  by_cases e:p.1=k
  ·simp only [eR e,aj e,Bool.true_or,Option.isSome_some]
  ·rw [eF e,az e,Bool.false_or];exact iL k r
theorem IG (k j:κ)(y:V):∀kvs:List (κ×V),dU (kvs.map λkv=>if kv.1=k then (kv.1,y) else kv) j=(dU kvs j).map λx=>if j=k then y else x
 | []=>rfl
 | p::r=>by
  have ih:=IG k j y r;rw [aw]
  by_cases h:p.1=k
  ·rw [ab h]
   by_cases e:p.1=j
   ·rw [eR (p:=(p.1,y)) e,eR e,Option.map_some,ab (e.symm.trans h)]
   ·rw [eF (p:=(p.1,y)) e,eF e,ih]
  ·rw [aa h]
   by_cases e:p.1=j
   ·rw [eR (p:=p) e,eR e,Option.map_some,aa (λz=>h (e.trans z))]
   ·rw [eF (p:=p) e,eF e,ih]
theorem yF (k j:κ)(y:V):∀kvs:List (κ×V),dU kvs k=none->dU (kvs++[(k,y)]) j=if j=k then some y else dU kvs j
 | [],_=>by
  by_cases e:k=j
  ·rw [ab e.symm];exact eR (p:=(k,y)) e
  ·rw [aa (λz=>e z.symm)];exact eF (p:=(k,y)) e
 | p::r,hn=>by
  rw [bh];have hk:¬p.1=k:=λz=>by rw [eR z] at hn;cases hn
  rw [eF hk] at hn;have ih:=yF k j y r hn
  by_cases e:p.1=j
  ·rw [eR e,eR e,aa (λz=>hk (e.trans z))]
  ·rw [eF e,eF e,ih]
theorem Rz (kvs:List (κ×V))(k j:κ)(y:V):dU (putK kvs k y) j=if j=k then some y else dU kvs j:=by
 unfold putK
 by_cases a:(kvs.any λkv=>decide (kv.1=k))=true
 ·rw [ab a,IG];rw [iL] at a
  by_cases e:j=k
  ·obtain ⟨x,hx⟩:=Option.isSome_iff_exists.mp a;rw [ab e,e,hx,Option.map_some,ab rfl]
  ·rw [aa e];cases dU kvs j with
   | none=>rfl
   | some x=>rw [Option.map_some,aa e]
 ·rw [aa a];refine yF k j y kvs ?_;rw [iL] at a;cases q:dU kvs k with
  | none=>rfl
  | some x=>rw [q] at a;exact (a rfl).elim
theorem Bm (kvs:List (κ×V))(k:κ)(v:V):(putK kvs k v).length<=kvs.length+1:=by
 unfold putK
 split
 ·rw [af];omega
 ·rw [ay,au,List.length_nil];omega
theorem qW {kvs:List (κ×V)}{k:κ}(v:V)(h:dU kvs k=none):putK kvs k v=kvs++[(k,v)]:=by unfold putK;rw [iL,h];exact aa (by decide)
theorem iI.tT {o:Option V}{u:Option Value}(r:iI o u):o.isSome=u.isSome:=by
 cases o with
 | none=>cases u with
  | none=>rfl
  | some _=>exact (show False from r).elim
 | some _=>cases u with
  | none=>exact (show False from r).elim
  | some _=>rfl
theorem iI.getD {o:Option V}{u:Option Value}{d:V}{d':Value}(r:iI o u)(rd:RelV d d'):RelV (o.getD d) (u.getD d'):=by
 cases o with
 | none=>cases u with
  | none=>exact rd
  | some _=>exact (show False from r).elim
 | some _=>cases u with
  | none=>exact (show False from r).elim
  | some _=>exact r
theorem KV.val {kvs:List (κ×V)}{vs:List (κ×Value)}(r:KV kvs vs)(k:κ):iI (dU kvs k) (valueAt vs k):=by
 unfold KV at r
 induction r with
 | nil=>exact True.intro
 | @cons p q ps qs h t ih =>
  obtain ⟨h1,h2⟩:=h
  by_cases e:p.1=k
  ·have e':q.1=k:=h1.symm.trans e;have b:valueAt (q::qs) k=some q.2:=by simp [valueAt,List.find?_cons,e']
   rw [eR e,b];exact h2
  ·have e':¬q.1=k:=λz=>e (h1.trans z);have b:valueAt (q::qs) k=valueAt qs k:=by simp [valueAt,List.find?_cons,e']
   rw [eF e,b];exact ih
theorem KV.any {kvs:List (κ×V)}{vs:List (κ×Value)}(r:KV kvs vs)(k:κ):(kvs.any λkv=>decide (kv.1=k))=vs.any λkv=>decide (kv.1=k):=by
 unfold KV at r
 induction r with
 | nil=>rfl
 | cons h t ih=>rw [List.any_cons,List.any_cons,ih,h.1]
theorem KV.RA {kvs:List (κ×V)}{vs:List (κ×Value)}(r:KV kvs vs)(k:κ){y:V}{u:Value}(ry:RelV y u) :
  KV (kvs.map λkv=>if kv.1=k then (kv.1,y) else kv) (vs.map λkv=>if kv.1=k then (kv.1,u) else kv):=by
 unfold KV at r ⊢
 induction r with
 | nil=>exact .nil
 | @cons p q ps qs h t ih =>
  rw [aw,aw];refine .cons ?_ ih;obtain ⟨h1,h2⟩:=h
  by_cases e:p.1=k
  ·rw [ab e,ab (h1.symm.trans e)];exact ⟨h1,ry⟩
  ·rw [aa e,aa (λz=>e (h1.trans z))];exact ⟨h1,h2⟩
theorem KV.put {kvs:List (κ×V)}{vs:List (κ×Value)}(r:KV kvs vs)(k:κ){y:V}{u:Value}(ry:RelV y u):KV (putK kvs k y) (stored vs k u):=by
 unfold putK stored;rw [r.any k]
 by_cases e:(vs.any λkv=>decide (kv.1=k))=true
 ·rw [ab e,ab e];exact r.RA k ry
 ·rw [aa e,aa e];exact Paired.snoc r ⟨rfl,ry⟩
theorem KV.length {kvs:List (κ×V)}{vs:List (κ×Value)}(r:KV kvs vs):kvs.length=vs.length:=Paired.length r
end
theorem HN {P:Program}{w:World}{k:Key}{u:Value}(r:RelV (kV k) u):(fk P w).is k u=true:=by
 cases k with
 | inl i=>obtain ⟨t,e⟩:=(show ∃t,u=Value.int i t from r);subst e;exact KW P w i t
 | inr x=>obtain ⟨t,e⟩:=(show ∃t,u=Value.str x t from r);subst e;exact KY P w x t
theorem F9 {P:Program}{w:World}:∀{ks:List Key}{us:List Value},Vals (ks.map kV) us->ItemsAre (fk P w) ks us
 | [],_,r=>by rw [List.map_nil] at r;cases r;exact .nil
 | k::ks,_,r=>by
  rw [aw] at r;cases r with
  | cons h t=>exact .cons (HN h) (F9 t)
abbrev KT (H:Hp):List (List Key×V)->List (List Key×Addr×Value)->Prop:=Paired λp q=>p.1=q.1/\H q.2.1=some (.tup (p.1.map kV))/\RelV p.2 q.2.2
theorem KT.val {H:Hp}{kvs:List (List Key×V)}{xs:List (List Key×Addr×Value)}(r:KT H kvs xs)(k:List Key):iI (dU kvs k) ((atKey xs k).map (·.2)):=by
 induction r with
 | nil=>exact True.intro
 | @cons p q ps qs h t ih =>
  obtain ⟨h1,_,h2⟩:=h
  by_cases e:p.1=k
  ·have e':q.1=k:=h1.symm.trans e;have b:atKey (q::qs) k=some q.2:=by simp [atKey,List.find?_cons,e']
   rw [eR e,b];exact h2
  ·have e':¬q.1=k:=λz=>e (h1.trans z);have b:atKey (q::qs) k=atKey qs k:=by simp [atKey,List.find?_cons,e']
   rw [eF e,b];exact ih
theorem KT.RA {H:Hp}{kvs:List (List Key×V)}{xs:List (List Key×Addr×Value)}(r:KT H kvs xs)(k:List Key){y:V}{u:Value}(ry:RelV y u) :
  KT H (kvs.map λkv=>if kv.1=k then (kv.1,y) else kv) (xs.map (putAt k u)):=by
 induction r with
 | nil=>exact .nil
 | @cons p q ps qs h t ih =>
  rw [aw,aw];refine .cons ?_ ih;obtain ⟨h1,h2,h3⟩:=h;unfold putAt
  by_cases e:p.1=k
  ·rw [ab e,ab (h1.symm.trans e)];exact ⟨h1,h2,ry⟩
  ·rw [aa e,aa (λz=>e (h1.trans z))];exact ⟨h1,h2,h3⟩
theorem KT.put {H:Hp}{kvs:List (List Key×V)}{xs:List (List Key×Addr×Value)}(r:KT H kvs xs)(k:List Key){b:Addr}{y:V}{u:Value}(hb:H b=some (.tup (k.map kV)))(ry:RelV y u) :
  KT H (putK kvs k y) (storedH xs k b u):=by
 have e:(kvs.any λkv=>decide (kv.1=k))=(atKey xs k).isSome:=by rw [iL,(r.val k).tT,Option.isSome_map]
 unfold putK storedH;rw [e]
 by_cases q:(atKey xs k).isSome=true
 ·rw [ab q,ab q];exact r.RA k ry
 ·rw [aa q,aa q];exact Paired.snoc r ⟨rfl,hb,ry⟩
theorem KT.keeps {H H':Hp}{kvs:List (List Key×V)}{xs:List (List Key×Addr×Value)}(r:KT H kvs xs)(ht:∀b ys,H b=some (.tup ys)->H' b=some (.tup ys)):KT H' kvs xs :=Paired.Na r λ_ _ z=>⟨z.1,ht _ _ z.2.1,z.2.2⟩
section
variable {P:Program}{w:World}{H:Hp}{h:Heap}{a:Addr}
theorem Nv {u:HO}(ok:dN P w H h)(e:Rd H a u):dw P w H h a u:=e.ok ok
theorem HP {kvs:List (Key×V)}(ok:dN P w H h)(e:Rd H a (.dK kvs)):kvs.length<=sizeLine/\(a == sysModules)=false/\∃vs,KV kvs vs/\h.DictOf (fk P w) a vs :=show dw P w H h a (.dK kvs) from Nv ok e
theorem To {kvs:List (Key×V)}(ok:dN P w H h)(e:H a=some (.dK kvs)):kvs.length<=sizeLine/\(a == sysModules)=false/\∃vs,KV kvs vs/\h.DictOf (fk P w) a vs:=HP ok (.inl e)
theorem yG {ks:List Key}(ok:dN P w H h)(e:H a=some (.tup (ks.map kV))):(tupleKind (fk P w)).is h ks a:=by
 obtain ⟨_,bZ,r,o,h1,h2,n,h3⟩:=(show dw P w H h a (.tup (ks.map kV)) from ok a _ e)
 exact ⟨o,bZ.toArray,n,h1,h2,h3,by simpa using F9 r⟩
theorem HQ {kvs:List (List Key×V)}(ok:dN P w H h)(e:Rd H a (.dT kvs)):kvs.length<=sizeLine/\(a == sysModules)=false /\
  ∃xs,KT H kvs xs/\h.DictOfH (tupleKind (fk P w)) a xs:=by
 obtain ⟨z,y,xs,r,o,es,ep,h1,h2,h3,h4,h5⟩:=(show dw P w H h a (.dT kvs) from Nv ok e)
 refine ⟨z,y,xs,r,o,es,ep,h1,h2,h3,h4,λx hx=>?_,h5⟩;have all:∀{l:List (List Key×V)}{m:List (List Key×Addr×Value)},KT H l m->∀x∈m,(tupleKind (fk P w)).is h x.1 x.2.1:=by
  intro l m q
  induction q with
  | nil=>intro x hx;exact nomatch hx
  | @cons p q ps qs hq t ih =>
   intro x hx;rcases ak.mp hx with e | hx
   ·subst e;exact yG ok (by rw [<-hq.1];exact hq.2.1)
   ·exact ih x hx
 exact all r x hx
theorem Tp {kvs:List (List Key×V)}(ok:dN P w H h)(e:H a=some (.dT kvs)):kvs.length<=sizeLine/\(a == sysModules)=false /\
  ∃xs,KT H kvs xs/\h.DictOfH (tupleKind (fk P w)) a xs:=HQ ok (.inl e)
end
def kz (H:Hp)(a:Addr)(y:V)(r:Option V):Prop :=(∃kvs k,Rd H a (.dK kvs)/\y=kV k/\r=dU kvs k)\/∃kvs k b,Rd H a (.dT kvs)/\y=.ref b/\H b=some (.tup (k.map kV))/\r=dU kvs k
def pz (H:Hp)(a:Addr)(y v:V)(H':Hp):Prop :=
 (∃kvs k,H a=some (.dK kvs)/\y=kV k/\kvs.length<sizeLine/\H'=upd H a (.dK (putK kvs k v))) \/
 ∃kvs k b,H a=some (.dT kvs)/\y=.ref b/\H b=some (.tup (k.map kV))/\kvs.length<sizeLine/\H'=upd H a (.dT (putK kvs k v))
theorem kz.t {H:Hp}{a b:Addr}{kvs:List (List Key×V)}{k:List Key}(e:H a=some (.dT kvs))(eb:H b=some (.tup (k.map kV))):kz H a (.ref b) (dU kvs k):=.inr ⟨kvs,k,b,.inl e,rfl,eb,rfl⟩
theorem pz.k {H:Hp}{a:Addr}{kvs:List (Key×V)}{k:Key}{v:V}(e:H a=some (.dK kvs))(hl:kvs.length<sizeLine):pz H a (kV k) v (upd H a (.dK (putK kvs k v))):=.inl ⟨kvs,k,e,rfl,hl,rfl⟩
theorem pz.t {H:Hp}{a b:Addr}{kvs:List (List Key×V)}{k:List Key}{v:V}(e:H a=some (.dT kvs))(eb:H b=some (.tup (k.map kV)))(hl:kvs.length<sizeLine) :
  pz H a (.ref b) v (upd H a (.dT (putK kvs k v))):=.inr ⟨kvs,k,b,e,rfl,eb,hl,rfl⟩
section
variable {X:Cx}{pins:List (Addr×Obj)}{σ:St}{H:Hp}{s:Shared}{a:Addr}{y v:V}{u r:Value}{o:Option V}{A:Around}{E:Value->Shared->Prop}
theorem Inv.big (I:Inv X pins σ H s):sysModules<s.heap.objs.size:=by have h:mainGlobals<s.heap.objs.size:=(I.mod.glob.keeps I.bk).lt;exact Nat.lt_trans (by decide) h
theorem Pw {Q:Value->Shared->Prop}(hu:A.units+1<cLine)(I:Inv X pins σ H s)(g:kz H a y (some v))(ry:RelV y u)(h:∀w' s',Inv X pins σ H s'->RelV v w'->Q w' s') :
  wpAny (model X.prog X.w) A (getItem (.ref a) u) Q E s:=by
 rcases g with ⟨kvs,k,e,ey,l⟩ | ⟨kvs,k,b,e,ey,eb,l⟩
 ·subst ey;obtain ⟨z,hd,vs,rel,dd⟩:=HP I.cn e;obtain ⟨w',hw,rw'⟩:=iI.some_of (v:=v) (o:=valueAt vs k) (by rw [l];exact rel.val k);exact wpAny_getItem_of (HN ry) dd.mapOf hw (h w' _ (I.tok _) rw')
 ·subst ey;cases (show u=Value.ref b from ry);obtain ⟨z,hd,xs,rel,dd⟩:=HQ I.cn e;obtain ⟨w',hw,rw'⟩:=iI.some_of (v:=v) (o:=(atKey xs k).map (·.2)) (by rw [l];exact rel.val k);obtain ⟨p,hp,kO⟩:=Option.map_eq_some_iff.mp hw;refine wpAny_getItem_heap (tupleKind_room_in1 hu) (yG I.cn eb) dd hp ?_;rw [kO];exact h w' _ (I.tok _) rw'
theorem UB {Q:Value->Shared->Prop}(hu:A.units+1<cLine)(I:Inv X pins σ H s)(g:kz H a y o)(ry:RelV y u)(h:∀s',Inv X pins σ H s'->Q (.bool (!o.isSome)) s') :
  wpAny (model X.prog X.w) A (compareOp .NotIn u (.ref a)) Q E s:=by
 rcases g with ⟨kvs,k,e,ey,l⟩ | ⟨kvs,k,b,e,ey,eb,l⟩
 ·subst ey;obtain ⟨z,hd,vs,rel,dd⟩:=HP I.cn e;refine wpAny_notIn_of (HN ry) hd dd.mapOf ?_;rw [<-(rel.val k).tT,<-l];exact h _ (I.tok _)
 ·subst ey;cases (show u=Value.ref b from ry);obtain ⟨z,hd,xs,rel,dd⟩:=HQ I.cn e;refine wpAny_notIn_heap (tupleKind_room_in1 hu) (yG I.cn eb) hd dd ?_;have q:=(rel.val k).tT;rw [Option.isSome_map] at q;rw [<-q,<-l];exact h _ (I.tok _)
theorem E6 {h':Heap}{t':Nat}{ob:HO}(I:Inv X pins σ H s)(mu:LL (H a))(hs:Heap.SameBut a s.heap h')(he:∃q,h'.get? a=some q)(new:dw X.prog X.w (upd H a ob) h' a ob) :
  Inv X pins σ (upd H a ob) {s with heap:=h',toks:=t'} :=
 I.write (x:=a) (e:=a) mu (.inl rfl) (λb q hb z=>(hs.2 b hb).trans z) he new
theorem V8 {P:Program}{w:World}{H':Hp}{h':Heap}{kvs:List (Key×V)}{vs:List (Key×Value)}(z:kvs.length<=sizeLine)(hd:(a == sysModules)=false)(rel:KV kvs vs)(dd:h'.DictOf (fk P w) a vs) :
  dw P w H' h' a (.dK kvs):=⟨z,hd,vs,rel,dd⟩
theorem Px {H':Hp}{Q:Unit->Shared->Prop}(hu:A.units+1<cLine)(I:Inv X pins σ H s)(g:pz H a y v H')(ry:RelV y u)(rv:RelV v r)(h:∀s',Inv X pins σ H' s'->Q () s') :
  wpAny (model X.prog X.w) A (setItem (.ref a) u r) Q E s:=by
 rcases g with ⟨kvs,k,e,ey,l,eH⟩ | ⟨kvs,k,b,e,ey,eb,l,eH⟩
 ·subst ey eH;obtain ⟨z,hd,vs,rel,dd⟩:=To I.cn e;have hz:vs.length<=sizeLine:=by rw [<-rel.length];exact z
  have hl:(putK kvs k v).length<=sizeLine:=by have:=Bm kvs k v;omega
  refine wpAny_setItem_pairs (hsz:=hz) (HN ry) dd λh' dd' hs=>h _ ?_;have he:∃q,h'.get? a=some q:=let ⟨q,_,_,hq,_⟩:=dd';⟨q,hq⟩;exact E6 I (by rw [e];exact True.intro) hs he (V8 hl hd (rel.put k rv) dd')
 ·subst ey eH;cases (show u=Value.ref b from ry);obtain ⟨z,hd,xs,rel,dd⟩:=Tp I.cn e;have hz:xs.length<=sizeLine:=by rw [<-Paired.length rel];exact z
  have hl:(putK kvs k v).length<=sizeLine:=by have:=Bm kvs k v;omega
  refine wpAny_setItem_heap (hsz:=hz) (tupleKind_room_in1 hu) (yG I.cn eb) dd λh' dd' hs=>h _ ?_;obtain ⟨q,es,ep,hq,h2,h3,h4,_,h5⟩:=dd';refine E6 I (by rw [e];exact True.intro) hs ⟨q,hq⟩ ⟨hl,hd,_,(rel.put k eb rv).keeps λc ys ec=>?_,q,es,ep,hq,h2,h3,h4,h5⟩;rw [bR (tQ ec e (λz=>nomatch z))];exact ec
end
section
variable {X:Cx}{pins:List (Addr×Obj)}{σ:St}{H:Hp}{s:Shared}{a:Addr}{kvs:List (Key×V)}{k:Key}{u:Value}{A:Around}{E:Value->Shared->Prop}
end
def V9 (i:Expr):Prop:=∀ov iv,subscripted i false ov iv=operate [ov,iv] (getItem ov iv)
theorem UC {prog:Program}{w:World}{A:Around}{E:Value->Shared->Prop}{s:Shared}{env:Env}{value slice:Expr}{pos:Pos}{T id:String}{Q:Value->Shared->Prop}
  (hl:typeLookup (.type T) "__getitem__"=pure (some (.builtin id))) (hs:V9 slice)
  (h:wpAny (model prog w) A (eval value env) (λo s₁=>wpAny (model prog w) A (eval slice env) (λi s₂=>s₂.TypeIs o T/\wpAny (model prog w) A (getItem o i) Q E s₂) E s₁) E s) :
  wpAny (model prog w) A (eval (.Subscript value slice pos) env) Q E s:=by
 refine Subscript_ (wpAny_mono h (λo s₁ h₁=>wpAny_mono h₁ (λi s₂ h₂=>?_) λ_ _ x=>x) λ_ _ x=>x);obtain ⟨hT,h₂⟩:=h₂;unfold subscriptTail;refine ae ?_;rw [getitemInPython_of_ne hT.not_modules];refine ae (wpAny_specialOf hT hl ?_);have fin:wpAny (model prog w) A (subscripted slice false o i) (λr s₃=>wpAny (model prog w) A (letTemporaryGo value o r >>= λ_=>pure r) Q E s₃) E s₂:=by
  rw [hs o i];exact wpAny_operating (wpAny_mono h₂ (λr s₃ h₃=>ae (wpAny_letTemporaryGo (ah h₃))) λ_ _ x=>x)
 first
  | exact ah (ae fin)
  | exact ae (ah (ae fin))
  | exact ae fin
theorem K2 {X:Cx}{pins:List (Addr×Obj)}{σ:St}{H:Hp}{s:Shared}{a:Addr}{y:V}{o:Option V}(I:Inv X pins σ H s)(g:kz H a y o):s.TypeIs (.ref a) "dict":=by
 rcases g with ⟨kvs,k,e,_,_⟩ | ⟨kvs,k,b,e,_,_,_⟩
 ·obtain ⟨_,_,vs,_,dd⟩:=HP I.cn e;exact dd.typeIs
 ·obtain ⟨_,_,xs,_,dd⟩:=HQ I.cn e;exact dd.typeIs
inductive Py (Q:VK)(x y:V)(H2:Hp):Prop | mk a v:x=.ref a->kz H2 a y (some v)->Q v H2->Py Q x y H2
def XZ (td ty:TE):TE:=λσ H Q=>td σ H λx H1=>ty σ H1 λy H2=>Py Q x y H2
inductive Pz (Q:VK)(y x:V)(H2:Hp):Prop | mk a o:x=.ref a->kz H2 a y o->Q (.bl (!o.isSome)) H2->Pz Q y x H2
def UD (ty td:TE):TE:=λσ H Q=>ty σ H λy H1=>td σ H1 λx H2=>Pz Q y x H2
inductive PB (D:Ends)(σ:St)(v x y:V)(H3:Hp):Prop | mk a H4:x=.ref a->pz H3 a y v H4->D.nx σ H4->PB D σ v x y H3
def X0 (td ty tv:TE):TS:=λD σ H=>tv σ H λv H1=>td σ H1 λx H2=>ty σ H2 λy H3=>PB D σ v x y H3
section
variable {X:Cx}{o i e value:Expr}{pos pos' jm:Pos}{td ty tv:TE}
theorem E7 (hu:X.A.units+1<cLine)(ho:PE X o td)(hi:PE X i ty)(hs:V9 i):PE X (.Subscript o i pos) (XZ td ty):=by intro pins s σ H Q I h;refine UC PySem.F.slot_dict_getitem.lookup hs (cT (ho pins s σ H _ I h) λu s1 ⟨x,H1,I1,rx,q1⟩=>cT (hi pins s1 σ H1 _ I1 q1) λiv s2 ⟨y,H2,I2,ry,a,v,ex,g,q2⟩=>?_);subst ex;obtain rfl:u=Value.ref a:=rx;exact ⟨K2 I2 g,Pw hu I2 g ry λw' s3 I3 rw'=>⟨v,H2,I3,rw',q2⟩⟩
theorem tU (hu:X.A.units+1<cLine)(hi:PE X i ty)(ho:PE X o td):PC X .NotIn i o (UD ty td):=by intro pins s σ H Q I h;refine cT (hi pins s σ H _ I h) λiv s1 ⟨y,H1,I1,ry,q1⟩=>cT (ho pins s1 σ H1 _ I1 q1) λu s2 ⟨x,H2,I2,rx,a,ov,ex,g,q2⟩=>?_;subst ex;obtain rfl:u=Value.ref a:=rx;exact UB hu I2 g ry λs3 I3=>⟨.bl (!ov.isSome),H2,I3,rfl,q2⟩
theorem qG (hu:X.A.units+1<cLine)(ho:PE X o td)(hi:PE X i ty)(hv:PE X value tv)(hs:swapsWith value (some (.Subscript o i pos')) pos.line X.env=pure false) :
  PS X (.Assign [.Subscript o i pos'] value pos) (X0 td ty tv):=by
 intro pins s σ H D I h;refine wpAny_Assign_Subscript (cT (hv pins s σ H _ I h) λr s1 ⟨v,H1,I1,rv,q1⟩=>cT (ho pins s1 σ H1 _ I1 q1) λu s2 ⟨x,H2,I2,rx,q2⟩=>cT (hi pins s2 σ H2 _ I2 q2) λiv s3 ⟨y,H3,I3,ry,a,H4,ex,g,q3⟩=>?_) hs;subst ex;obtain rfl:u=Value.ref a:=rx;exact Px hu I3 g ry rv λs4 I4=>⟨σ,H4,I4,q3⟩
end
theorem RB {P:Program}{w:World}{H:Hp}(h:Heap)(hb:sysModules<h.objs.size):dw P w H (h.push {cls:=.type "dict",data:=.dict #[]}) h.objs.size (.dK []) :=⟨aW _,beq_eq_false_iff_ne.mpr (Ne.symm (aU hb)),[],.nil,Heap.DictOf.new h⟩
theorem IH {P:Program}{w:World}{H:Hp}(h:Heap)(hb:sysModules<h.objs.size):dw P w H (h.push {cls:=.type "dict",data:=.dict #[]}) h.objs.size (.dT []) :=⟨aW _,beq_eq_false_iff_ne.mpr (Ne.symm (aU hb)),[],.nil,_,#[],0,aF _ rfl,⟨rfl,rfl,rfl⟩,rfl,rfl,List.nodup_nil⟩
def Wa:TE:=λ_ H Q=>∀p,H p=none->Q (.ref p) (upd H p (.dK []))
def Wb:TE:=λ_ H Q=>∀p,H p=none->Q (.ref p) (upd H p (.dT []))
section
variable {X:Cx}{pos:Pos}
theorem RC:PE X (.Dict [] [] pos) Wa:=λpins s σ H Q I h =>wpAny_Dict_empty ⟨.ref s.heap.objs.size,_,I.laid (a:=s.heap.objs.size) (o:=.dK []) (t':=s.toks) (λ_ _ q=>aq _ q) (ag _) (RB s.heap I.big),rfl,h _ (I.cn.fresh (ag _))⟩
theorem wo:PE X (.Dict [] [] pos) Wb:=λpins s σ H Q I h =>wpAny_Dict_empty ⟨.ref s.heap.objs.size,_,I.laid (a:=s.heap.objs.size) (o:=.dT []) (t':=s.toks) (λ_ _ q=>aq _ q) (ag _) (IH s.heap I.big),rfl,h _ (I.cn.fresh (ag _))⟩
end
structure M2 (X:Cx)(o:Expr)(m:Str)(apos:Pos)(e f:Expr)(gL:Pos):Prop where
 base:attributeBase o m X.env (eval o X.env)=eval o X.env
 da:((backTo gL (starEach [e,f] X.env)).all (λx=>!x.1) && (backToKw gL (keywordEach [] X.env)).all (λx=>x.1.isSome)
  && decide (([e,f]:List Expr).length+([]:List Keyword).length+(if ([]:List Keyword).isEmpty then 0 else 1)<30))=true
 line:(apos.endLine == gL.line)=true
 trees:backTo gL (starEach [e,f] X.env)=[(false,eval e X.env),(false,eval f X.env)]
section
variable {X:Cx}{pins:List (Addr×Obj)}{σ:St}{H:Hp}{s:Shared}{a:Addr}{y d:V}{u r:Value}{o:Option V}{A:Around}{E:Value->Shared->Prop}
end
section
variable {X:Cx}{o e f:Expr}{apos gL:Pos}{td ty tx:TE}
end
section
variable {X:Cx}{pins:List (Addr×Obj)}{σ:St}{H:Hp}{s:Shared}{a:Addr}{kvs:List (Key×V)}{A:Around}{E:Value->Shared->Prop}
end
section
variable {X:Cx}{pins:List (Addr×Obj)}{σ:St}{H:Hp}{s:Shared}{a:Addr}{y:V}{u:Value}{A:Around}{E:Value->Shared->Prop}
end
end L2
namespace L2
open PySem PySem.Spec PyProof.Rows
section
variable {prog:Program}{w:World}{A:Around}{E:Value->Shared->Prop}
end
section
variable {X:Cx}
end
end L2
namespace L2
open PySem PySem.Spec PyProof.Rows
theorem E8:bootBuiltins "reversed"=some (.type "reversed"):=by decide +kernel
section
variable {X:Cx}{pins:List (Addr×Obj)}{σ:St}{H:Hp}{s:Shared}{h':Heap}
theorem Inv.UE {t':Nat}{ch:List Addr}(I:Inv X pins σ H s)(k:∀b o,b∉ch->s.heap.get? b=some o->h'.get? b=some o)(hf:∀b∈ch,px X pins H b):Inv X pins σ H {s with heap:=h',toks:=t'}:=by
 have nit:∀b u,H b=some u->b∉ch:=λb u e z=>by have q:=(hf b z).1;rw [q] at e;cases e
 refine I.step (g':=s.gens) (d':=s.drawn) (ch:=ch) (λb hb=>⟨(hf b hb).2.2.2.1,(hf b hb).2.1,(hf b hb).2.2.2.2.1,(hf b hb).2.2.2.2.2⟩) (λb o _ _ hc e _=>k b o hc e) (λb o _ _ hc e _=>⟨o.slots,k b o hc e⟩)
  (λ_ _ _ _ n=>n) (λb o hc e=>⟨o,k b o hc e⟩) (λ_ _ e=>e) (λ_ _ _ e=>e) (λb ps e=>⟨#[],by rw [e];simp⟩) (λm hm=>?_) (λb u e=>?_) I.bare
 ·obtain ⟨o,es,ep,ho,r⟩:=hm;exact ⟨o,es,ep,k _ o (λz=>(hf _ z).2.1 rfl) ho,r⟩
 ·refine (I.cn b u e).yp (λc v hc q=>k c v ?_ q) (λ_ q=>q) λ_ _ q=>q;rcases hc with z | z
  ·rw [z];exact nit b u e
  ·exact nit c _ z
theorem Inv.tV {t':Nat}{ch:List Addr}{T:Addr}{ob:HO}(I:Inv X pins σ H s)(k:∀b o,b∉ch->s.heap.get? b=some o->h'.get? b=some o)(hf:∀b∈ch,px X pins H b)(hT:s.heap.objs.size<=T)
  (new:dw X.prog X.w (upd H T ob) h' T ob):Inv X pins σ (upd H T ob) {s with heap:=h',toks:=t'}:=by
 have hn:H T=none:=I.cn.fresh hT;have nit:∀b u,H b=some u->b∉ch:=λb u e z=>by have q:=(hf b z).1;rw [q] at e;cases e
 refine I.step (g':=s.gens) (d':=s.drawn) (ch:=ch) (λb hb=>⟨(hf b hb).2.2.2.1,(hf b hb).2.1,(hf b hb).2.2.2.2.1,(hf b hb).2.2.2.2.2⟩) (λb o _ _ hc e _=>k b o hc e) (λb o _ _ hc e _=>⟨o.slots,k b o hc e⟩)
  (λb o _ e n=>?_) (λb o hc e=>⟨o,k b o hc e⟩) (λb xs e=>?_) (λb o u e=>?_) (λb ps e=>⟨#[],?_⟩) (λm hm=>?_) (λb u e=>?_) I.bare
 ·rw [bR (aU (bb (ax e) hT))];exact n
 ·rw [bR (cb e hn)];exact e
 ·rw [bR (cb e hn)];exact e
 ·rw [bR (cb e hn),e];simp
 ·obtain ⟨o,es,ep,ho,r⟩:=hm;exact ⟨o,es,ep,k _ o (λz=>(hf _ z).2.1 rfl) ho,r⟩
 ·by_cases hb:b=T
  ·subst hb;rw [bN] at e;cases e;exact new
  ·rw [bR hb] at e;refine (I.cn b u e).yp (λc v hc q=>k c v ?_ q) (λc q=>by rw [bR (cb q hn)];exact q) λc xs q=>by rw [bR (cb q hn)];exact q
   rcases hc with z | z
   ·rw [z];exact nit b u e
   ·exact nit c _ z
theorem Inv.lock {d:Addr}{u:HO}(I:Inv X pins σ H s)(h:H d=some u)(mu:LL (some u)):∃od,Inv X pins σ (upd H d (.e7 od u)) s:=by
 have x:=I.cn d u h;have ex:∃od,s.heap.get? d=some od:=by
  cases u with
  | lst xs=>obtain ⟨_,_,_,_,e⟩:=x;exact ⟨_,e⟩
  | dK kvs=>obtain ⟨_,_,_,_,o,_,_,e,_⟩:=x;exact ⟨o,e⟩
  | dT kvs=>obtain ⟨_,_,_,_,o,_,_,e,_⟩:=x;exact ⟨o,e⟩
  | set S n=>obtain ⟨o,_,_,_,e,_⟩:=x;exact ⟨o,e⟩
  | ins C dx fs=>obtain ⟨_,_,_,e,_⟩:=x;exact ⟨_,e⟩
  | ext φ=>obtain ⟨_,⟨_,e⟩,_⟩:=x;exact ⟨_,e⟩
  | _=>exact False.elim mu
 obtain ⟨od,e⟩:=ex;have new:dw X.prog X.w (upd H d (.e7 od u)) s.heap d (.e7 od u):=by
  refine ⟨e,x.yp (λb v _ q=>q) (λb q=>?_) λb xs q=>?_⟩
  ·rw [bR (λz=>by rw [z,h] at q;cases q;exact mu)];exact q
  ·rw [bR (λz=>by rw [z,h] at q;cases q;exact mu)];exact q
 exact ⟨od,I.write (x:=d) (e:=d) (t':=s.toks) (h':=s.heap) (by rw [h];exact mu) (.inl rfl) (λb v _ q=>q) ⟨od,e⟩ new⟩
end
section
variable {X:Cx}
theorem yH {tg:Expr}{pins:List (Addr×Obj)}{σ:St}{H:Hp}{s:Shared}{R:It->Hp->Prop}{J:It}{tn:Nat->Heap->Prop}{tk:Nat}(I:Inv X pins σ H s)(o:Obj)
  (T:Turn X.prog X.w X.K tg J [s.heap.objs.size] s.heap.objs.size tn) (st:tn 0 (s.heap.push o)) (q:R J H):S7 X pins σ tg R (.ref s.heap.objs.size) {s with heap:=s.heap.push o,toks:=tk}:=by
 refine ⟨s.heap.objs.size,[s.heap.objs.size],tn,J,H,rfl,I.kept λb ob e=>aq _ e,T,st,λb hb=>?_,q⟩;have e:b=s.heap.objs.size:=by simpa using hb
 subst e;exact I.yw (ag _) (I.cn.fresh (ag _))
end
section
variable {X:Cx}{tg:Expr}
end
def L3 (K:PySem.W.Frag)(a:Addr)(n:Nat):It :=⟨λi H=>i<n/\∃(xs:List V)(x:V),bY K H a xs/\xs[n - 1 - i]?=some x,λi H x H'=>H'=H/\∀xs,bY K H a xs->xs[n - 1 - i]?=some x,λi _=>n<=i⟩
theorem RD {P:Program}{w:World}{K:PySem.W.Frag}{tg:Expr}(a it:Addr)(n:Nat):Turn P w K tg (L3 K a n) [it] it (λi h=>i<=n/\h.IsRevIter it a ((n:Int) - 1 - (i:Nat))) where
 mem:=by simp
 obj:=λi h st b hb=>by
  have e:b=it:=by simpa using hb
  subst e;obtain ⟨_,o,e,c,d⟩:=st;exact ⟨o,e,λv z=>by rw [d] at z;cases z⟩
 keep:=λi h h' st k=>⟨st.1,st.2.at λo e=>k it (by simp) o e⟩
 item:=by
  intro X hP hw hK hc i pins s σ H E I hf st hg;subst hP hw hK;obtain ⟨PD,xs,x,hq,hx⟩:=hg;obtain ⟨bZ,rv,p,hz⟩:=I.list hq;obtain ⟨u,hu,ru⟩:=rv.get hx;obtain ⟨f0,f1,f2,f3,f4,f5⟩:=hf it (by simp);obtain ⟨_,hit⟩:=st;have e1:(n:Int) - 1 - ((i:Nat):Int)=((n - 1 - i:Nat):Int):=by omega
  rw [e1] at hit;refine wpAny_pyNext_rev_item hit p.isList (x:=u) (by simpa using hu) λh' st' sb=>?_;have e2:((n - 1 - i:Nat):Int) - 1=(n:Int) - 1 - ((i+1:Nat):Int):=by omega
  rw [e2] at st';have I1:Inv X pins σ H {s with heap:=h'}:=I.turned (t':=s.toks) (λb o hb e=>(sb.2 b hb).trans e) f0 f1 f3 f4 f5;obtain ⟨o,e,c,d⟩:=id st';exact ⟨u,rfl,Av (s:={s with heap:=h'}) e c d (by decide) ⟨x,H,I1,ru,⟨rfl,λys hy=>by rw [I.qP hy hq];exact hx⟩,⟨PD,st'⟩,λb hb=>(hf b hb).1⟩⟩
 done:=by
  intro X hP hw hK hc i pins s σ H E I hf st hg;subst hP hw hK;obtain ⟨f0,f1,f2,f3,f4,f5⟩:=hf it (by simp);obtain ⟨PD,hit⟩:=st;have fX:n<=i:=hg;have e1:(n:Int) - 1 - ((i:Nat):Int)=-1:=by omega
  rw [e1] at hit;exact wpAny_pyNext_rev_end (I.ok.hd hc) hit λh' eb=>⟨rfl,I.turned (t':=s.toks) (λb o hb e=>eb b o hb e) f0 f1 f3 f4 f5⟩
 self:=λA i s Q E st h=>wpAny_pyIter_revIter st.2 h
inductive Tq (K:PySem.W.Frag)(R:It->Hp->Prop)(vs:List V)(H1:Hp):Prop | mk (a:Addr) (xs:List V):vs=[.ref a]->bY K H1 a xs->R (L3 K a xs.length) H1->Tq K R vs H1
def Z8 (K:PySem.W.Frag)(ta:TA):TI:=λσ H R=>ta σ H λvs H1=>Tq K R vs H1
section
variable {X:Cx}{tg:Expr}
theorem K3 {e:Expr}{ta:TA}{p pos:Pos}(hg:Gl X "reversed")(hm:X.mg "reversed"=none)(ha:PA X [e] ta)(hs:starEach [e] X.env=[(false,eval e X.env)]:=by rfl):PI X tg (.Call (.Name "reversed" p) [e] [] pos) (Z8 X.K ta):=by
 intro pins s σ H R I h;refine Call_ (qO I hg hm E8 (PyProof.Rows.callWith_type1 (cT (ha pos pins s σ H _ I h) λus s1 ⟨vs,H1,I1,r1,q1⟩=>?_) hs rfl));obtain ⟨a,xs,e,hq,q⟩:=q1;subst e;cases r1 with
 | cons r rr =>
  cases rr;cases r;obtain ⟨bZ,rv,p',hz⟩:=I1.list hq;have hl:=rv.length;have e1:((bZ.toArray.size:Nat):Int) - 1=(xs.length:Int) - 1 - ((0:Nat):Int):=by simp only [aG];omega
  refine call_reversed_list p'.isList (wpAny_pyIter_revIter (l:=a) (i:=((bZ.toArray.size:Nat):Int) - 1) ⟨_,aF _ rfl,rfl,rfl⟩ ?_);refine yH (tk:=s1.toks) I1 _ (RD a _ xs.length) ⟨aW _,?_⟩ q;rw [<-e1];exact ⟨_,aF _ rfl,rfl,rfl⟩
end
def Bo (x:Str):It:=⟨λi _=>i<x.cps.size,λi H v H'=>H'=H/\∃c,x.cps[i]?=some c/\v=.str ⟨#[c]⟩,λi _=>x.cps.size<=i⟩
theorem II {P:Program}{w:World}{K:PySem.W.Frag}{tg:Expr}(it:Addr)(x:Str)(t:Tok)(ty:String)(F8:ty="str_ascii_iterator"\/ty="str_iterator") :
  Turn P w K tg (Bo x) [it] it (λi h=>h.IsStrIter it ty x t i) where
 mem:=by simp
 obj:=λi h st b hb=>by
  have e:b=it:=by simpa using hb
  subst e;obtain ⟨o,e,c,d⟩:=st;exact ⟨o,e,λv z=>by rw [d] at z;cases z⟩
 keep:=λi h h' st k=>let ⟨o,ho,r⟩:=st;⟨o,k it (by simp) o ho,r⟩
 item:=by
  intro X hP hw hK hc i pins s σ H E I hf st hg;subst hP hw hK;obtain ⟨f0,f1,f2,f3,f4,f5⟩:=hf it (by simp);have W:Walks X.prog X.w X.A it [it] [it] x.cps.size (SignAt x) (λi h=>h.IsStrIter it ty x t i):=by
   rcases F8 with e | e
   ·rw [e];exact Walks.strAscii (I.ok.hd hc) it x t
   ·rw [e];exact Walks.strWide (I.ok.hd hc) it x t
  have yz:["enumerate","zip","dict_itemiterator","dict_reverseitemiterator","odict_iterator","itertools.zip_longest","itertools.pairwise"].contains ty=false:=by
   rcases F8 with e | e
   ·rw [e];decide
   ·rw [e];decide
  refine W.item i s _ _ hg st λv h' tk hv st' kk=>?_;obtain ⟨c,u,hcx,rfl⟩:=hv;have I1:Inv X pins σ H {s with heap:=h',toks:=tk}:=I.turned (λb o hb e=>kk b o (by simpa using hb) e) f0 f1 f3 f4 f5;obtain ⟨oi,e,cc,dd⟩:=id st';exact ⟨_,rfl,Av (s:={s with heap:=h',toks:=tk}) e cc dd yz ⟨.str ⟨#[c]⟩,H,I1,⟨u,rfl⟩,⟨rfl,c,hcx,rfl⟩,st',λb hb=>(hf b hb).1⟩⟩
 done:=by
  intro X hP hw hK hc i pins s σ H E I hf st hg;subst hP hw hK;obtain ⟨f0,f1,f2,f3,f4,f5⟩:=hf it (by simp);have hx:x.cps[i]?=none:=Array.getElem?_eq_none hg;rcases F8 with e | e
  ·rw [e] at st;exact wpAny_pyNext_ascii_end (I.ok.hd hc) st hx λh' eb=>⟨rfl,I.turned (t':=s.toks) (λb o hb e=>eb b o hb e) f0 f1 f3 f4 f5⟩
  ·rw [e] at st;exact wpAny_pyNext_wide_end (I.ok.hd hc) st hx λh' eb=>⟨rfl,I.turned (t':=s.toks) (λb o hb e=>eb b o hb e) f0 f1 f3 f4 f5⟩
 self:=λA i s Q E st h=>by
  rcases F8 with e | e
  ·rw [e] at st;exact wpAny_pyIter_striter_ascii st h
  ·rw [e] at st;exact wpAny_pyIter_striter_wide st h
inductive Tr (R:It->Hp->Prop)(v:V)(H1:Hp):Prop | mk x:v=.str x->R (Bo x) H1->Tr R v H1
def Z9 (te:TE):TI:=λσ H R=>te σ H λv H1=>Tr R v H1
theorem IJ {X:Cx}{tg e:Expr}{te:TE}(he:PE X e te):PI X tg e (Z9 te):=by
 intro pins s σ H R I h;refine cT (he pins s σ H _ I h) λv s1 ⟨y,H1,I1,r1,x,ex,q⟩=>?_;subst ex;obtain ⟨t,rfl⟩:=r1;cases ha:x.cps.all (·<128)
 ·exact wpAny_pyIter_wide ha (yH (tk:=s1.toks) I1 _ (II _ x t "str_iterator" (.inr rfl)) ⟨_,aF _ rfl,rfl,rfl⟩ q)
 ·exact wpAny_pyIter_ascii ha (yH (tk:=s1.toks) I1 _ (II _ x t "str_ascii_iterator" (.inl rfl)) ⟨_,aF _ rfl,rfl,rfl⟩ q)
section
variable {prog:Program}{w:World}{A:Around}{E:Value->Shared->Prop}{s:Shared}
theorem Ga {d:Addr}{o:Obj}{es:Array DictEntry}{ep:Nat}{Q:Value->Shared->Prop}(hd:(d == sysModules)=false)(ho:s.heap.get? d=some o)(hc:o.ExactDict)(IK:o.data=.dict es ep)
  (hQ:Q (.ref s.heap.objs.size) {s with heap:=s.heap.push {cls:=.type "dict_keyiterator",data:=.fields #[.ref d,.int 0 0,.int es.size 0,.int ep 0]}}) :
  wpAny (model prog w) A (pyIter (.ref d)) Q E s:=by
 have hT:s.TypeIs (.ref d) "dict":=⟨o,ho,hc.1⟩
 refine wpAny_pyIter_slot hT F.slot_dict_iter (wpAny_call_entry F.slot_dict_iter hT F.entry_dict_iter ?_ (F.args_dict_iter_1 _));unfold Builtin.«dict.__iter__»;refine ae ?_;unfold Builtin.Dict.dictSlotNone;refine ae (wpAny_notOrdered_dict hT ?_);show wpAny _ _ (pure (Value.ref d)) _ _ s;refine ah ?_;show wpAny _ _ (Builtin.Dict.showsAll d >>= _) _ _ s;unfold Builtin.Dict.showsAll;rw [aa (by rw [hd];exact aL)];refine ae (ah ?_);refine ae (wpAny_dictEntries ho IK ?_);refine ae (wpAny_dictEpoch ho IK ?_);refine ae (wpAny_newObj_type (ah ⟨_,rfl,"dict_keyiterator",_,⟨_,aF _ rfl,rfl⟩,F.slot_dict_keyiterator_next.lookup,?_⟩));simpa [rawInt] using hQ
theorem xP {it d:Addr}{i n ep:Nat}{od:Obj}{es:Array DictEntry}{en:DictEntry}{Q:Option Value->Shared->Prop}(hit:s.heap.IsKeyIter it d i n ep)(oU:s.heap.get? d=some od)(qX:od.data=.dict es ep)
  (hsz:es.size=n) (hx:es[i]?=some en) (hQ:∀h',h'.IsKeyIter it d (i+1) n ep->Heap.SameBut it s.heap h'->Q (some en.key) {s with heap:=h'}):wpAny (model prog w) A (pyNext (.ref it)) Q E s:=by
 obtain ⟨o,ho,hc,hd⟩:=id hit;unfold pyNext;refine ae (wpAny_attempt (wpAny_callSpecial?_slot (name:=Str.ofString "__next__") hit.typeIs F.slot_dict_keyiterator_next
  (wpAny_call_entry F.slot_dict_keyiterator_next hit.typeIs F.entry_dict_keyiterator_next ?_ (F.args_dict_keyiterator_next_1 _))))
 refine ae (ah ?_);refine ae ?_;refine ae ?_
 first | refine ae (wpAny_typeNameOfWhole_keyiter hit.typeIs (ah ?_)) | refine ae (wpAny_typeNameOf_keyiter hit.typeIs (ah ?_))
 refine ae (wpAny_fieldsOf ho hd ?_);have wt:Builtin.Dict_items.ownsTuple "dict_keyiterator"=false:=by decide
 simp only [wt,Bool.false_eq_true,if_false];show wpAny _ _ (if (Value.ref d == Value.none)=true then _ else _) _ _ s;rw [aa (show ¬((Value.ref d == Value.none)=true) from aL)];refine ae (ah ?_);refine ae (wpAny_dictEntries oU qX ?_);rw [aa (by rw [hsz];simp)];refine ae (ah ?_);refine ae (wpAny_dictEpoch oU qX ?_);rw [aa (by simp)];refine ah ?_;obtain ⟨RE,vp⟩:=Array.getElem?_eq_some_iff.mp hx;simp only [show ¬((i:Int)<0) from by omega,if_false,Int.toNat_natCast,Array.getElem?_eq_getElem RE];refine ae ?_
 first | refine ae (wpAny_typeNameOfWhole_keyiter hit.typeIs (ah ?_)) | refine ae (wpAny_typeNameOf_keyiter hit.typeIs (ah ?_))
 refine ae (wpAny_isOneOf_keyiter hit.typeIs ?_);show wpAny _ _ (setField (.ref it) 1 (rawInt ((i:Int)+1)) >>= _) _ _ s;refine ae (wpAny_setField ho hd (by simp) ?_);have yI:(s.heap.update it (Obj.mapFields (·.setIfInBounds 1 (rawInt ((i:Int)+1))))).IsKeyIter it d (i+1) n ep :=⟨_,Heap.get?_update_self _ ho (Obj.isFreed_of_fields (Obj.data_mapFields hd _)),(Obj.cls_mapFields ..).trans hc,by rw [Obj.data_mapFields hd];simp [rawInt]⟩
 refine ae (wpAny_holding ?_);refine ae (wpAny_isOneOf_keyiter (s:={s with heap:=s.heap.update it (Obj.mapFields (·.setIfInBounds 1 (rawInt ((i:Int)+1))))}) yI.typeIs ?_);show wpAny _ _ (pure es[i].key) _ _ _;rw [vp];exact ah (ah ⟨_,rfl,ah (hQ _ yI (Heap.SameBut.update ..))⟩)
theorem yJ {it d:Addr}{i n ep:Nat}{od:Obj}{es:Array DictEntry}{Q:Option Value->Shared->Prop}(hh:A.handled=none)(hit:s.heap.IsKeyIter it d i n ep)(oU:s.heap.get? d=some od)(qX:od.data=.dict es ep)
  (hsz:es.size=n) (fX:n<=i) (hQ:∀h',Heap.ExtBut it s.heap h'->Q none {s with heap:=h'}):wpAny (model prog w) A (pyNext (.ref it)) Q E s:=by
 obtain ⟨o,ho,hc,hd⟩:=id hit;unfold pyNext;refine ae (wpAny_attempt (wpAny_callSpecial?_slot (name:=Str.ofString "__next__") hit.typeIs F.slot_dict_keyiterator_next
  (wpAny_call_entry F.slot_dict_keyiterator_next hit.typeIs F.entry_dict_keyiterator_next ?_ (F.args_dict_keyiterator_next_1 _))))
 refine ae (ah ?_);refine ae ?_;refine ae ?_
 first | refine ae (wpAny_typeNameOfWhole_keyiter hit.typeIs (ah ?_)) | refine ae (wpAny_typeNameOf_keyiter hit.typeIs (ah ?_))
 refine ae (wpAny_fieldsOf ho hd ?_);have wt:Builtin.Dict_items.ownsTuple "dict_keyiterator"=false:=by decide
 simp only [wt,Bool.false_eq_true,if_false];show wpAny _ _ (if (Value.ref d == Value.none)=true then _ else _) _ _ s;rw [aa (show ¬((Value.ref d == Value.none)=true) from aL)];refine ae (ah ?_);refine ae (wpAny_dictEntries oU qX ?_);rw [aa (by rw [hsz];simp)];refine ae (ah ?_);refine ae (wpAny_dictEpoch oU qX ?_);rw [aa (by simp)];refine ah ?_;have RF:es.size<=i:=by rw [hsz];exact fX
 simp only [show ¬((i:Int)<0) from by omega,if_false,Int.toNat_natCast,Array.getElem?_eq_none RF];refine ae ?_
 first | refine ae (wpAny_typeNameOfWhole_keyiter hit.typeIs (ah ?_)) | refine ae (wpAny_typeNameOf_keyiter hit.typeIs (ah ?_))
 show wpAny _ _ (setField (.ref it) 0 .none >>= _) _ _ s;refine ae (wpAny_setField ho hd (by simp) ?_);show wpAny _ _ (newExc (.type "StopIteration") [] >>= _) _ _ _;refine ae ?_;simp only [newExc,newTuple];refine ae (wpAny_newObj_type ?_ (by size_fits));refine ae (m:=firstArgMember _ _) (wpAny_of_eq (a:=Value.none) (by first | rfl | (simp only [firstArgMember];rfl)) ?_);refine wpAny_newObj_type ?_ (by size_fits);simp only [raiseNew];refine ae (wpAny_handled ?_);rw [show A.in1.handled=none from hh];refine ae (ah (wpAny_throw ?_));refine ae (wpAny_isInstance (T:="StopIteration") (b:=true) ⟨_,aF _ rfl,rfl⟩ isSubtype_stop ?_);exact ah (hQ _ (((Heap.SameBut.update ..).extBut.push _).push _))
end
theorem Wc {κ:Type}{kvs:List (κ×V)}{vs:List (κ×Value)}(h:KV kvs vs):∀{i:Nat}{k:κ}{v:V},kvs[i]?=some (k,v)->∃u,vs[i]?=some (k,u)/\RelV v u:=by
 unfold KV at h
 induction h with
 | nil=>intro i k v e;simp at e
 | @cons a b l₁ l₂ r t ih =>
  intro i k v e;cases i with
  | zero =>simp only [List.getElem?_cons_zero,Option.some.injEq] at e;subst e;refine ⟨b.2,?_,r.2⟩;simp only [List.getElem?_cons_zero];exact congrArg some (Prod.ext r.1.symm rfl)
  | succ j =>simp only [List.getElem?_cons_succ] at e ⊢;exact ih e
theorem c5 {α β:Type}{G:α->β->Prop}{l₁:List α}{l₂:List β}(h:Paired G l₁ l₂):∀{i:Nat}{a:α},l₁[i]?=some a->∃b,l₂[i]?=some b/\G a b:=by
 induction h with
 | nil=>intro i a e;simp at e
 | @cons a b l₁ l₂ r t ih =>
  intro i a' e;cases i with
  | zero =>simp only [List.getElem?_cons_zero,Option.some.injEq] at e;subst e;exact ⟨b,rfl,r⟩
  | succ j =>simp only [List.getElem?_cons_succ] at e ⊢;exact ih e
theorem RG {k:Key}{u:Value}(h:tP k u=true):RelV (kV k) u:=by
 rcases e8 h with ⟨i,t,rfl,rfl⟩ | ⟨x,t,rfl,rfl⟩
 ·exact ⟨t,rfl⟩
 ·exact ⟨t,rfl⟩
section
variable {X:Cx}{pins:List (Addr×Obj)}{σ:St}{H:Hp}{s:Shared}{d:Addr}{o:Obj}
theorem Inv.Nw {kvs:List (List Key×V)}(I:Inv X pins σ H s)(h:H d=some (.e7 o (.dT kvs))) :
  (d == sysModules)=false/\s.heap.get? d=some o/\o.ExactDict/\∃(es:Array DictEntry)(ep:Nat),o.data=.dict es ep/\es.size=kvs.length /\
   ∀(i:Nat)(k:List Key)(v:V),kvs[i]?=some (k,v)->∃(en:DictEntry)(q:Addr),es[i]?=some en/\en.key=.ref q/\H q=some (.tup (k.map kV)):=by
 obtain ⟨hd,z,hs,xs,pr,o',es,ep,ho,hx,gq,he,_⟩:=I.cn d _ h;rw [hd] at ho;cases ho;refine ⟨hs,hd,hx,es,ep,gq,?_,λi k v e=>?_⟩
 ·have l1:es.size=xs.length:=size_of_entries he;have l2:kvs.length=xs.length:=Paired.length pr;omega
 ·obtain ⟨b,hb,e1,e2,_⟩:=c5 pr e;have q:=entry_at he i;rw [hb] at q;exact ⟨_,b.2.1,q,rfl,e2⟩
end
def E9 (d:Addr)(o:Obj)(kvs:List (List Key×V)):It :=⟨λi H=>H d=some (.e7 o (.dT kvs))/\i<kvs.length,λi H x H'=>H'=H/\∃(k:List Key)(v:V)(q:Addr),kvs[i]?=some (k,v)/\x=.ref q/\H q=some (.tup (k.map kV)),λi H=>H d=some (.e7 o (.dT kvs))/\kvs.length<=i⟩
theorem Aw {o:Obj}{es Bc:Array DictEntry}{ep Bd:Nat}(h:o.data=.dict es ep)(h':o.data=.dict Bc Bd):Bc=es/\Bd=ep:=by rw [h] at h';cases h';exact ⟨rfl,rfl⟩
section
variable {P:Program}{w:World}{K:PySem.W.Frag}{tg:Expr}{d:Addr}{o:Obj}{es:Array DictEntry}{ep:Nat}
theorem Ny {kvs:List (List Key×V)}(it:Addr)(oU:o.data=.dict es ep):Turn P w K tg (E9 d o kvs) [it] it (λi h=>h.IsKeyIter it d i kvs.length ep) where
 mem:=by simp
 obj:=λi h st b hb=>by
  have e:b=it:=by simpa using hb
  subst e;obtain ⟨oi,e,c,dd⟩:=st;exact ⟨oi,e,λv z=>by rw [dd] at z;cases z⟩
 keep:=λi h h' st k=>st.at λoi e=>k it (by simp) oi e
 item:=by
  intro X hP hw hK hc i pins s σ H E I hf st hg;subst hP hw hK;obtain ⟨hd,hi⟩:=hg;obtain ⟨f0,f1,f2,f3,f4,f5⟩:=hf it (by simp);obtain ⟨hs,qa,hx,Bc,Bd,gq,hsz,ent⟩:=I.Nw hd;obtain ⟨rfl,rfl⟩:=Aw oU gq;obtain ⟨⟨k,v⟩,PF⟩:∃p,kvs[i]?=some p:=⟨kvs[i],aI hi⟩
  obtain ⟨en,q,vp,Ip,hq⟩:=ent i k v PF;refine xP st qa gq hsz vp λh' st' sb=>?_;have I1:Inv X pins σ H {s with heap:=h'}:=I.turned (t':=s.toks) (λb ob hb e=>(sb.2 b hb).trans e) f0 f1 f3 f4 f5;obtain ⟨oi,e,c,dd⟩:=id st';exact ⟨en.key,rfl,Av (s:={s with heap:=h'}) e c dd (by decide) ⟨.ref q,H,I1,Ip,⟨rfl,k,v,q,PF,rfl,hq⟩,st',λb hb=>(hf b hb).1⟩⟩
 done:=by
  intro X hP hw hK hc i pins s σ H E I hf st hg;subst hP hw hK;obtain ⟨hd,hi⟩:=hg;obtain ⟨f0,f1,f2,f3,f4,f5⟩:=hf it (by simp);obtain ⟨hs,qa,hx,Bc,Bd,gq,hsz,ent⟩:=I.Nw hd;obtain ⟨rfl,rfl⟩:=Aw oU gq;exact yJ (I.ok.hd hc) st qa gq hsz hi λh' eb=>⟨rfl,I.turned (t':=s.toks) (λb ob hb e=>eb b ob hb e) f0 f1 f3 f4 f5⟩
 self:=λA i s Q E st h=>by refine wpAny_pyIter_slot st.typeIs F.slot_dict_keyiterator_iter (wpAny_call_entry F.slot_dict_keyiterator_iter st.typeIs F.entry_dict_keyiterator_iter ?_ (F.args_dict_keyiterator_iter_1 _));show wpAny _ _ (ret (.ref it)) _ _ s;exact ah ⟨_,rfl,"dict_keyiterator",_,st.typeIs,F.slot_dict_keyiterator_next.lookup,h⟩
end
section
variable {X:Cx}{tg e:Expr}{td:TE}{apos gL:Pos}
end
def L4 (K:PySem.W.Frag)(a:Addr):It :=⟨λi H=>∃(xs:List V)(x:V),bY K H a xs/\xs[i]?=some x,λi H v H'=>∃T x,v=.ref T/\H T=none/\H'=upd H T (.tup [.int (i:Nat),x])/\∀xs,bY K H a xs->xs[i]?=some x,λi H=>∃xs:List V,bY K H a xs/\xs.length<=i⟩
theorem PH {P:Program}{w:World}{K:PySem.W.Frag}{elts:List Expr}{kk:Nat}{jm:Pos}(a e it:Addr) :
  Turn P w K (.Tuple elts kk jm) (L4 K a) [e,it] e (λi h=>(∃old,IsEnum h e it ((i:Nat):Int) old)/\h.IsListIter it a i/\e≠it) where
 mem:=by simp
 obj:=λi h st b hb=>by
  obtain ⟨⟨old,he⟩,⟨o,ho,hc,hd⟩,_⟩:=st;have e':b=e\/b=it:=by simpa using hb
  rcases e' with z | z
  ·rw [z];exact ⟨_,he,λv q=>nomatch q⟩
  ·rw [z];exact ⟨o,ho,λv q=>by rw [hd] at q;cases q⟩
 keep:=λi h h' st k=>let ⟨⟨old,he⟩,hi,dP⟩:=st;⟨⟨old,k e (by simp) _ he⟩,hi.at λo q=>k it (by simp) o q,dP⟩
 item:=by
  intro X hP hw hK hc i pins s σ H E I hf st hg;subst hP hw hK;obtain ⟨⟨old,he⟩,hit,dP⟩:=st;obtain ⟨xs,x,hq,hx⟩:=hg;obtain ⟨bZ,rv,p,hz⟩:=I.list hq;obtain ⟨u,hu,ru⟩:=rv.get hx;have dC:e<s.heap.objs.size:=ax he;have Dq:it<s.heap.objs.size:=by obtain ⟨_,q,_⟩:=hit;exact ax q
  refine wpAny_pyNext_enum_item he hit p.isList (x:=u) (by simpa using hu) dP λh' ho yI hT hsz hk=>?_;refine ⟨_,rfl,wpAny_letOwnedTupleGo_enum (s:={s with heap:=h',toks:=s.toks+1}) ho λp9 xQ sb=>?_⟩;have IL:p9.get? s.heap.objs.size=some {cls:=.type "tuple",data:=.seq #[.int i s.toks,u]}:=(sb.2 _ (Nat.ne_of_gt dC)).trans hT;have new:dw X.prog X.w (upd H s.heap.objs.size (.tup [.int (i:Nat),x])) p9 s.heap.objs.size (.tup [.int (i:Nat),x]) :=⟨by show 2<=sizeLine;decide,[.int i s.toks,u],.cons ⟨_,rfl⟩ (.cons ru .nil),⟨_,IL,rfl,_,rfl⟩⟩
  have I1:Inv X pins σ (upd H s.heap.objs.size (.tup [.int (i:Nat),x])) {s with heap:=p9,toks:=s.toks+1} :=I.tV (ch:=[e,it]) (λb ob hb q=>(sb.2 b (λz=>hb (by simp [z]))).trans (hk b ob (λz=>hb (by simp [z])) (λz=>hb (by simp [z])) q)) hf (ag _) new
  refine ⟨.ref s.heap.objs.size,_,I1,rfl,⟨_,x,rfl,I.cn.fresh (ag _),rfl,λys hy=>by rw [I.qP hy hq];exact hx⟩,⟨⟨u,?_⟩,yI.at λo q=>(sb.2 it (Ne.symm dP)).trans q,dP⟩,λb hb=>?_⟩
  ·have e1:((i+1:Nat):Int)=(i:Int)+1:=by omega
   rw [e1];exact xQ
  ·have Gb:b<s.heap.objs.size:=by
    have e':b=e\/b=it:=by simpa using hb
    rcases e' with z | z
    ·rw [z];exact dC
    ·rw [z];exact Dq
   rw [bR (aU Gb)];exact (hf b hb).1
 done:=by
  intro X hP hw hK hc i pins s σ H E I hf st hg;subst hP hw hK;obtain ⟨⟨old,he⟩,hit,dP⟩:=st;obtain ⟨xs,hq,hx⟩:=hg;obtain ⟨bZ,rv,p,hz⟩:=I.list hq;obtain ⟨f0,f1,f2,f3,f4,f5⟩:=hf it (by simp);have hl:=rv.length;exact wpAny_pyNext_enum_end (I.ok.hd hc) he hit p.isList (by simp;omega) λh' eb=>⟨rfl,I.turned (t':=s.toks) (λb o hb q=>eb b o hb q) f0 f1 f3 f4 f5⟩
 self:=λA i s Q E st h=>let ⟨⟨_,he⟩,_⟩:=st;wpAny_pyIter_enum he h
inductive PJ (K:PySem.W.Frag)(R:It->Hp->Prop)(vs:List V)(H1:Hp):Prop | mk a xs:vs=[.ref a]->bY K H1 a xs->R (L4 K a) H1->PJ K R vs H1
def X1 (K:PySem.W.Frag)(ta:TA):TI:=λσ H R=>ta σ H λvs H1=>PJ K R vs H1
theorem qH {X:Cx}{e:Expr}{ta:TA}{p pos jm:Pos}{elts:List Expr}{kk:Nat}(hg:Gl X "enumerate")(hm:X.mg "enumerate"=none)(ha:PA X [e] ta)(hs:starEach [e] X.env=[(false,eval e X.env)]:=by rfl) :
  PI X (.Tuple elts kk jm) (.Call (.Name "enumerate" p) [e] [] pos) (X1 X.K ta):=by
 intro pins s σ H R I h;refine Call_ (qO I hg hm boot_enumerate (PyProof.Rows.callWith_type1 (cT (ha pos pins s σ H _ I h) λus s1 ⟨vs,H1,I1,r1,q1⟩=>?_) hs rfl));obtain ⟨a,xs,ex,hq,q⟩:=q1;subst ex;cases r1 with
 | cons r rr =>
  cases rr;cases r;obtain ⟨bZ,rv,p',hz⟩:=I1.list hq;refine call_enumerate_list p'.isList λh' he hit hsz hk=>wpAny_pyIter_enum he ?_;have I2:Inv X pins σ H1 {s1 with heap:=h'}:=I1.kept (t':=s1.toks) hk;refine ⟨s1.heap.objs.size+1,[s1.heap.objs.size+1,s1.heap.objs.size],_,_,H1,rfl,I2,PH a (s1.heap.objs.size+1) s1.heap.objs.size,⟨⟨.none,he⟩,hit,Nat.succ_ne_self _⟩,λb hb=>?_,q⟩;have e':b=s1.heap.objs.size+1\/b=s1.heap.objs.size:=by simpa using hb
  have hle:s1.heap.objs.size<=b:=by
   rcases e' with z | z
   ·rw [z];exact bw _ _
   ·rw [z];exact ag _
  exact I1.yw hle (I1.cn.fresh hle)
theorem PL:bootBuiltins "zip"=some (.type "zip"):=by decide +kernel
end L2
section
namespace aaa
open PySem PyProof.Rows
end aaa
end
section
namespace TL
open PySem PySem.Builtin PySem.Builtin.Str PySem.StrLaws
abbrev tl (x:Str):List Nat:=x.cps.toList
theorem IM (x:Str):x.length=(tl x).length:=by simp [tl,Str.length]
theorem Wd {x y:Str}(h:tl x=tl y):x=y:=Str.ext' (Array.toList_inj.mp h)
theorem tW (x y:Str):tl (x++y)=tl x++tl y:=by show (x++y).cps.toList=_;rw [Str.cps_append,Array.toList_append]
theorem Dr:∀{l m:List Str},l.map tl=m.map tl->l=m
 | [],[],_=>rfl
 | [],_::_,h=>by simp at h
 | _::_,[],h=>by simp at h
 | x::l,y::m,h=>by
  rw [aw,aw] at h;injection h with h1 h2
  rw [Wd h1,Dr h2]
def mn (S:List Nat):List (List Nat)->List Nat
 | []=>[]
 | [p]=>p
 | p::q::r=>p++(S++mn S (q::r))
theorem Ax (y:Str):∀parts:List Str,tl (Str.join y parts)=mn (tl y) (parts.map tl)
 | []=>rfl
 | [_]=>rfl
 | x::z::r=>by
  show tl (x++y++Str.join y (z::r))=tl x++(tl y++mn (tl y) ((z::r).map tl))
  rw [tW,tW,Ax y (z::r),aT]
theorem join_eq (y:Str)(parts:List Str):Txt.join y parts=Str.join y parts:=glued_eq_join y parts
def k9 (st:List (List Nat)×List Nat)(c:Nat):List (List Nat)×List Nat :=if Unicode.isSpace c=true then (if st.2=[] then st else (st.1++[st.2],[])) else (st.1,st.2++[c])
def RH (st:List (List Nat)×List Nat):List (List Nat):=if st.2=[] then st.1 else st.1++[st.2]
theorem Ay (x:Str):x.length=0↔tl x=[]:=by rw [IM];exact List.length_eq_zero_iff
theorem UG (ws:List Str)(u:Str)(c:Nat):((KWd.step (ws,u) c).1.map tl,tl (KWd.step (ws,u) c).2)=k9 (ws.map tl,tl u) c:=by
 by_cases hc:Unicode.isSpace c=true
 ·by_cases hu:u.length=0
  ·have a:KWd.step (ws,u) c=(ws,u):=(ab hc).trans (ab hu);have b:k9 (ws.map tl,tl u) c=(ws.map tl,tl u):=(ab hc).trans (ab ((Ay u).mp hu));rw [a,b] <;> rfl
  ·have a:KWd.step (ws,u) c=(ws++[u],Str.empty):=(ab hc).trans (aa hu);have b:k9 (ws.map tl,tl u) c=(ws.map tl++[tl u],[]):=(ab hc).trans (aa λz=>hu ((Ay u).mpr z));rw [a,b];show ((ws++[u]).map tl,([]:List Nat))=_;rw [aB] <;> rfl
 ·have a:KWd.step (ws,u) c=(ws,u++⟨#[c]⟩):=aa hc;have b:k9 (ws.map tl,tl u) c=(ws.map tl,tl u++[c]):=aa hc;rw [a,b];show (ws.map tl,tl (u++⟨#[c]⟩))=_;rw [tW] <;> rfl
theorem L5:∀(l:List Nat)(st:KWd.St),((l.foldl KWd.step st).1.map tl,tl (l.foldl KWd.step st).2)=l.foldl k9 (st.1.map tl,tl st.2)
 | [],_=>rfl
 | c::r,(ws,u)=>by show ((r.foldl KWd.step (KWd.step (ws,u) c)).1.map tl,tl (r.foldl KWd.step (KWd.step (ws,u) c)).2)=r.foldl k9 (k9 (ws.map tl,tl u) c);exact (L5 r (KWd.step (ws,u) c)).trans (congrArg (λz=>r.foldl k9 z) (UG ws u c))
theorem We:∀q:KWd.St,(KWd.fin q).map tl=RH (q.1.map tl,tl q.2)
 | (ws,u)=>by
  show (if u.length=0 then ws else ws++[u]).map tl=(if tl u=[] then ws.map tl else ws.map tl++[tl u])
  by_cases hu:u.length=0
  ·rw [ab hu,ab ((Ay u).mp hu)]
  ·rw [aa hu,aa (λz=>hu ((Ay u).mpr z)),aB] <;> rfl
theorem RI (x:Str):(Txt.words x).map tl=RH ((tl x).foldl k9 ([],[])):=by rw [KWd.words_scan];exact (We (KWd.scan x)).trans (congrArg RH (L5 (tl x) ([],Str.empty)))
theorem xR {c:Nat}(h1:33<=c)(h2:c<=126):Unicode.isSpace c=false:=PySem.W.KWk.nosp h1 h2
end TL
end
namespace L2
open PySem PySem.Spec PyProof.Rows
theorem Gd:∀l:List (Str×Tok),Vals ((l.map (·.1)).map V.str) (strValues l)
 | []=>.nil
 | p::r=>.cons ⟨p.2,rfl⟩ (Gd r)
theorem qY:∀{ys:List Str}{us:List Value},Vals (ys.map V.str) us->StrsAre us ys
 | [],_,.nil=>.nil
 | y::ys,_,.cons r t=>by obtain ⟨k,rfl⟩:=r;exact .cons y k (qY t)
def Ca (ys:List Str):Hp->VK->Prop:=λH Q=>∀p,H p=none->Q (.ref p) (upd H p (.lst (ys.map V.str)))
section
variable {X:Cx}{pins:List (Addr×Obj)}{σ:St}{H:Hp}{s:Shared}{Q:VK}
theorem Ge {l:List (Str×Tok)}{ys:List Str}{k:Nat}(I:Inv X pins σ H s)(e:l.map (·.1)=ys)(hz:ys.length<=sizeLine)(h:Ca ys H Q) :
  EP X pins σ Q (.ref s.heap.objs.size) {s with toks:=k,heap:=s.heap.push {cls:=.type "list",data:=.seq (strValues l).toArray}}:=by
 have hp:=I.cn.fresh (ag _);refine ⟨.ref s.heap.objs.size,upd H s.heap.objs.size (.lst (ys.map V.str)),I.laid (λb u q=>aq _ q) (ag _) ⟨by rw [af];exact hz,strValues l,_,?_,aF _ rfl⟩,rfl,h _ hp⟩;rw [<-e];exact Gd l
end
section
variable {X:Cx}
theorem IP (x:Str):(Txt.words x).length<=x.length+1:=by have e1:=StrLaws.words_weight x;omega
theorem RJ:LY X "str.split" (λx xs H Q=>∃a,x=.str a/\xs=[]/\a.length+2<=sizeLine/\Ca (Txt.words a) H Q):=by
 intro pins s σ H x xs v us Q I rx rs h;obtain ⟨a,rfl,rfl,hz,h⟩:=h;obtain ⟨t,rfl⟩:=rx;cases rs;have hl:(Txt.words a).length<=sizeLine:=aN (IP a) (by omega);have hn:(Builtin.Str.spaceWords a (a.length+1)).length<=sizeLine:=by have e1:=(StrLaws.sw_weight a).1;have e2:=StrLaws.len_le_wsum (Builtin.Str.spaceWords a (a.length+1));omega
 refine call_meets F.slot_str_split (typeIs_str _ _ _) F.entry_str_split (F.args_str_split_1 _) (meets_str_split_space a t (by omega) hn) ?_;cases hw:Builtin.Str.spaceWords a (a.length+1) == [(0,a.length)]
 ·simp only [Bool.false_eq_true,if_false];rw [strsFrom_eq];exact Ge (ys:=Txt.words a) I ((numbered_texts _ _).trans (aa (ne_true_of_eq_false hw)).symm) hl h
 ·simp only [if_true];exact Ge (l:=[(a,t)]) (ys:=Txt.words a) (k:=s.toks) I (ab hw).symm hl h
theorem UH:LY X "str.join" (λx xs H Q=>∃a p,∃ys:List Str,x=.str a/\xs=[.ref p]/\(bY X.K H p (ys.map V.str)\/cA X.K H p (ys.map V.str)) /\
  (ys.map (·.length)).sum+ys.length*a.length<=16777216/\Q (.str (Txt.join a ys)) H):=by
 intro pins s σ H x xs v us Q I rx rs h;obtain ⟨a,p,ys,rfl,rfl,hp,hz,h⟩:=h;obtain ⟨t,rfl⟩:=rx;cases rs with
 | cons r1 rs =>
  cases rs;cases r1;rcases hp with hp | hp
  ·obtain ⟨bZ,r,⟨o,n,ho,hc,_,hd⟩,_⟩:=I.list hp;exact PyProof.Rows.join_list (items:=bZ.toArray) ⟨o,ho,hc,n,hd⟩ (by rw [List.toList_toArray];exact qY r) hz λt' k=>⟨.str _,H,I.tok k,⟨t',rfl⟩,h⟩
  ·obtain ⟨bZ,r,ht,_⟩:=I.tuple hp;exact PyProof.Rows.join_tuple (items:=bZ.toArray) ht (by rw [List.toList_toArray];exact qY r) hz λt' k=>⟨.str _,H,I.tok k,⟨t',rfl⟩,h⟩
theorem yK:j3 X (.type "int") (λxs H Q=>∃a n,xs=[.str a]/\PySem.intText? a=some n/\a.length<=640/\Q (.int n) H):=by
 intro pins s σ H xs us Q I rs h;obtain ⟨a,n,rfl,hn,hl,h⟩:=h;cases rs with
 | cons r1 rs =>cases rs;obtain ⟨t,rfl⟩:=r1;exact PySem.W.KIN.call_text hn hl ⟨.int n,H,I.tok _,⟨_,rfl⟩,h⟩
end
section
variable {X:Cx}{o e:Expr}{to te:TE}
def YH (r:V->List V->Hp->VK->Prop)(to:TE):TE:=λσ H Q=>to σ H λx H1=>(∃a,x=.str a)/\r x [] H1 Q
def YI (r:V->List V->Hp->VK->Prop)(to te:TE):TE:=λσ H Q=>to σ H λx H1=>(∃a,x=.str a)/\te σ H1 λy H2=>r x [y] H2 Q
theorem X2 {id:String}{name:Str}{apos pos:Pos}{r:V->List V->Hp->VK->Prop}(slot:Slot "str" name id)(ty:typeOf (.builtin id)=pure (.type "method_descriptor"))(rule:LY X id r)(ho:PE X o to)
  (j5:attributeBase o name X.env (eval o X.env)=eval o X.env:=by rfl) (j6:(apos.endLine == pos.line)=true:=by rfl):PE X (.Call (.Attribute o name apos) [] [] pos) (YH r to):=by
 intro pins s σ H Q I h;refine PySem.Call_method0 j5 j6 (cT (ho pins s σ H _ I h) λv s1 ⟨x,H1,I1,r1,q1⟩=>?_);obtain ⟨⟨a,rfl⟩,q1⟩:=q1;obtain ⟨t,rfl⟩:=_root_.id r1;exact ⟨"str",_,F.plainAttrs_str,slot,ty,typeIs_str _ _ _,(λ_ e=>nomatch e),Calls.callWith_builtin rfl (PySem.evalArgs_none (rule pins s1 σ H1 _ [] _ [] Q I1 r1 .nil q1))⟩
theorem X3 {id:String}{name:Str}{apos pos:Pos}{r:V->List V->Hp->VK->Prop}(slot:Slot "str" name id)(ty:typeOf (.builtin id)=pure (.type "method_descriptor"))(rule:LY X id r)(ho:PE X o to)(he:PE X e te)
  (hs:starEach [e] X.env=[(false,eval e X.env)]:=by rfl) (j5:attributeBase o name X.env (eval o X.env)=eval o X.env:=by rfl) (j6:(apos.endLine == pos.line)=true:=by rfl) :
  PE X (.Call (.Attribute o name apos) [e] [] pos) (YI r to te):=by
 intro pins s σ H Q I h;refine PySem.Call_method1 j5 hs j6 (cT (ho pins s σ H _ I h) λv s1 ⟨x,H1,I1,r1,q1⟩=>?_);obtain ⟨⟨a,rfl⟩,q1⟩:=q1;obtain ⟨t,rfl⟩:=_root_.id r1;refine ⟨"str",_,F.plainAttrs_str,slot,ty,typeIs_str _ _ _,(λ_ e=>nomatch e),Calls.callWith_builtin rfl (Calls.evalArgs_plain (Calls.spliced_cons ?_))⟩;exact cT (he pins s1 σ H1 _ I1 q1) λu s2 ⟨y,H2,I2,r2,q2⟩=>Calls.spliced_nil (rule pins s2 σ H2 _ [y] _ [u] Q I2 r1 (.cons r2 .nil) q2)
theorem RK {apos pos:Pos}(ho:PE X o to)(j5:attributeBase o "split" X.env (eval o X.env)=eval o X.env:=by rfl)(j6:(apos.endLine == pos.line)=true:=by rfl) :
  PE X (.Call (.Attribute o "split" apos) [] [] pos) (YH (λx xs H Q=>∃a,x=.str a/\xs=[]/\a.length+2<=sizeLine/\Ca (Txt.words a) H Q) to) :=
 X2 F.slot_str_split F.type_str_split RJ ho j5 j6
theorem Az {apos pos:Pos}(ho:PE X o to)(he:PE X e te)(hs:starEach [e] X.env=[(false,eval e X.env)]:=by rfl)(j5:attributeBase o "join" X.env (eval o X.env)=eval o X.env:=by rfl)(j6:(apos.endLine == pos.line)=true:=by rfl) :
  PE X (.Call (.Attribute o "join" apos) [e] [] pos) (YI (λx xs H Q=>∃a p,∃ys:List Str,x=.str a/\xs=[.ref p]/\(bY X.K H p (ys.map V.str)\/cA X.K H p (ys.map V.str)) /\
   (ys.map (·.length)).sum+ys.length*a.length<=16777216/\Q (.str (Txt.join a ys)) H) to te) :=
 X3 F.slot_str_join F.type_str_join UH ho he hs j5 j6
end
end L2
namespace L2
open PySem PySem.Spec PyProof.Rows
section
variable {X:Cx}
theorem Nz:gZ X (compareOp .In) (λx y H Q=>∃(c:Nat)(z:Str),x=.str ⟨#[c]⟩/\y=.str z/\Q (.bl (decide (c∈z.cps.toList))) H):=by intro pins s σ H x y v u Q I rx ry h;obtain ⟨c,z,rfl,rfl,q⟩:=h;obtain ⟨t,rfl⟩:=rx;obtain ⟨t',rfl⟩:=ry;exact PyProof.Rows.in_str (de I q (PySem.StrLaws.found_one z c).symm)
end
end L2
namespace Att
open PySem PySem.W PySem.Calls PyProof.Rows
section
variable {prog:Program}{w:World}{A:Around}{E:Value->Shared->Prop}{s:Shared}{K:Frag}
end
end Att
namespace L2
open PySem PySem.Spec PyProof.Rows
end L2
namespace L2
open PySem PySem.Spec PyProof.Rows
end L2
namespace L2
open PySem PySem.Spec PyProof.Rows
def inClass (s:Stmt)(j:Nat):Stmt:=match s with
 | .ClassDef _ _ _ body _ _ _ _ _ _ _=>body.getD j (.Pass ⟨0,0,0,0⟩)
 | _=>.Pass ⟨0,0,0,0⟩
def lV (s:Stmt):Arguments:=match s with
 | .FunctionDef _ a _ _ _ _ _ _ _ _=>a
 | _=>{posonlyargs:=[],args:=[],vararg:=none,kwonlyargs:=[],kw_defaults:=[],kwarg:=none,defaults:=[]}
def gW (s:Stmt):List Stmt:=match s with
 | .FunctionDef _ _ b _ _ _ _ _ _ _=>b
 | _=>[]
def bV (s:Stmt):Scope:=match s with
 | .FunctionDef _ _ _ _ _ _ sc _ _ _=>sc
 | _=>{kind:=.function,names:=[],isGenerator:=false,isCoroutine:=false}
abbrev qZ:xN:=λ_ _ _ _ _ _=>False
abbrev E0:XK:=λ_ _ _=>False
theorem Ds {X:Cx}:Passes qZ X E0:=λ_ _ _ _ _ _ _ h=>h.elim
structure Dt (K:PySem.W.Frag)(x qual:Str)(st:Stmt)(f:Addr)(fd:FuncData):Prop where
 ex:∃(oc:Value)(od:Option Addr)(kV doc pm:Value)(an:Option Addr)(du ct:Value)(osl:Array (Option Value)),
  fd=PySem.W.fnOf x qual (lV st) (gW st) (bV st) .none kV doc pm an du ct/\K.lookup f=some ⟨oc,od,.func fd,osl⟩/\PySem.W.codeIn K du qual=true
 kp:PySem.W.keepIn K (.ref f)=true
section
variable {P:Program}{w:World}{K:PySem.W.Frag}{mg:Str->Option Value}{base:Heap}
theorem Dt.ok {x qual:Str}{st:Stmt}{f:Addr}{fd:FuncData}{N ps:List Str}{k:Nat}{sp:Sp}(F:Dt K x qual st f fd)(S:bX N ps (bV st))(len:∀vs H Q E,sp vs H Q E->vs.length=ps.length)
  (qr:∀(du:Value)(A:Around)(outer:List Env)(s:Shared)(H:Hp)(vs:List V)(Q:VK)(E:XK),eE k (A.deeper (envOfC qual (bV st) s.heap.objs.size f du))->sp vs H Q E ->
   ∃t,p6 (wj qZ P w K mg base N qual (bV st) f du A outer s H E).Ij (gW st) t/\t {nx:=λ_ H'=>Q .cw H',rt:=Q} (start N vs) H):jD P w K mg base qZ (k+1) f fd ps sp:=by
 obtain ⟨oc,od,kV,doc,pm,an,du,ct,osl,rfl,lk,oO⟩:=F.ex;refine XX lk oO S len λA outer s H vs Q E hr oS=>?_;obtain ⟨t,h,q⟩:=qr du A outer s H vs Q E hr oS;exact ⟨t,h.Ij,q⟩
theorem Dt.binds {x qual:Str}{st:Stmt}{f:Addr}{fd:FuncData}{ps:List Str}(F:Dt K x qual st f fd)
  (h:∀(kV doc pm:Value)(an:Option Addr)(du ct:Value)(us:List Value),us.length=ps.length->bindArgs (PySem.W.fnOf x qual (lV st) (gW st) (bV st) .none kV doc pm an du ct) ⟨us,[]⟩=pure (ps.zip us)):Binds K fd ps []:=by
 obtain ⟨oc,od,kV,doc,pm,an,du,ct,osl,rfl,lk,oO⟩:=F.ex;exact .all (h kV doc pm an du ct)
theorem Du {x qual:Str}{st:Stmt}{f:Addr}{oc:Value}{od an:Option Addr}{osl:Array (Option Value)}{kV doc pm du ct:Value}(l:K.lookup f=some ⟨oc,od,.func (PySem.W.fnOf x qual (lV st) (gW st) (bV st) .none kV doc pm an du ct),osl⟩)
  (c:PySem.W.codeIn K du qual=true) (k:PySem.W.keepIn K (.ref f)=true):Dt K x qual st f (PySem.W.fnOf x qual (lV st) (gW st) (bV st) .none kV doc pm an du ct):=⟨⟨oc,od,kV,doc,pm,an,du,ct,osl,rfl,l,c⟩,k⟩
end
theorem jo {A:Around}{k:Nat}(hr:eE k A):A.units+1<cLine:=aC (Nat.add_le_add_left (by decide:1<=64) _) hr.units
theorem cx {n:Nat}(h:n<=1000):n<sizeLine:=aC h (by decide)
section
variable {X:Cx}
theorem pv (i:Nat){x:Str}{pos:Pos}(hN:X.N[i]?=some x:=by rfl)(hv:LO X.env.scope x:=by first | exact Or.inl rfl | exact Or.inr (Or.inl rfl) | exact Or.inr (Or.inr rfl))(hd:(x == ("__debug__":Str))=false:=by decide)
  (oO:(x == ("__classdict__":Str))=false:=by decide):PE X (.Name x pos) (lB i):=Vr hN hv hd oO
end
theorem m9 {A B:Prop}(h:B):if false=true then A else B:=by rw [aa aL];exact h
theorem nc {A B:Prop}(h:A):if true=true then A else B:=by rw [ab rfl];exact h
theorem df {c A B:Prop}[Decidable c](h1:c->A)(h2:¬c->B):if c then A else B:=by
 by_cases h:c
 ·rw [ab h];exact h1 h
 ·rw [aa h];exact h2 h
def bS (H H':Hp):Prop:=∀b o,H b=some o->H' b=some o
theorem bS.refl (H:Hp):bS H H:=λ_ _ h=>h
theorem bS.trans {H H1 H2:Hp}(a:bS H H1)(b:bS H1 H2):bS H H2:=λc o h=>b c o (a c o h)
theorem bS.free {H H':Hp}(e:bS H H'){l:Addr}(h:H' l=Option.none):H l=Option.none:=by
 cases q:H l with
 | none=>rfl
 | some o =>rw [e l o q] at h;cases h
theorem bS.seq {K:PySem.W.Frag}{H H':Hp}{a:Addr}{xs:List V}(e:bS H H')(h:bY K H a xs):bY K H' a xs:=by
 rcases h with (h | ⟨o,h⟩) | h
 ·exact .inl (.inl (e _ _ h))
 ·exact .inl (.inr ⟨o,e _ _ h⟩)
 ·exact .inr h
section
variable {κ:Type}[DecidableEq κ]
theorem RM {kvs:List (κ×V)}{k:κ}(h:dU kvs k=none):¬k∈kvs.map (·.1):=by intro m;obtain ⟨p,hp,e⟩:=aQ.mp m;have q:(kvs.any λkv=>decide (kv.1=k))=true:=List.any_eq_true.mpr ⟨p,hp,aj e⟩;rw [iL,h] at q;exact ai q (by simp)
theorem L6:∀{l:List κ}{k:κ},l.Nodup->¬k∈l->(l++[k]).Nodup
 | [],k,_,_=>by simp
 | a::r,k,h,hk=>by
  obtain ⟨h1,h2⟩:=List.nodup_cons.mp h;show (a::(r++[k])).Nodup;refine List.nodup_cons.mpr ⟨λm=>?_,L6 h2 λm=>hk (ak.mpr (Or.inr m))⟩;rcases aY.mp m with q | q
  ·exact h1 q
  ·exact hk (ak.mpr (Or.inl (aK.mp q).symm))
end
end L2
namespace L2
open PySem PySem.Spec PyProof.Rows
open PySem.W (WData Codec OpenSpec Well WellAll ReadsW ReadsAllW)
mutual
inductive Dw (K:PySem.W.Frag)(H:Hp):V->WData->Prop
 | cw:Dw K H .cw .none
 | bl (b:Bool):Dw K H (.bl b) (.bool b)
 | int (i:Int):Dw K H (.int i) (.int i)
 | str (x:Str):Dw K H (.str x) (.str x)
 | pZ (b:Array UInt8):Dw K H (.pZ b) (.bytes b.toList)
 | lst {a:Addr} {xs:List V} {ds:List WData}:bY K H a xs->j8 K H xs ds->Dw K H (.ref a) (.list ds)
 | tup {a:Addr} {xs:List V} {ds:List WData}:cA K H a xs->j8 K H xs ds->Dw K H (.ref a) (.tuple ds)
inductive j8 (K:PySem.W.Frag)(H:Hp):List V->List WData->Prop
 | nil:j8 K H [] []
 | cons {v:V} {vs:List V} {d:WData} {ds:List WData}:Dw K H v d->j8 K H vs ds->j8 K H (v::vs) (d::ds)
end
theorem L7 {K:PySem.W.Frag}{H:Hp}:∀ns:List Int,j8 K H (ns.map V.int) (ns.map WData.int)
 | []=>.nil
 | n::r=>.cons (.int n) (L7 r)
theorem L8 {K:PySem.W.Frag}{H:Hp}:∀(ns:List Int)(xs:List V),j8 K H xs (ns.map WData.int)->xs=ns.map V.int
 | [],xs,h=>by cases h;rfl
 | n::r,xs,h=>by
  cases h with
  | cons h1 h2 =>cases h1;rw [L8 r _ h2] <;> rfl
section
variable {P:Program}{w:World}{K:PySem.W.Frag}{H:Hp}{h:Heap}{R:PySem.W.WRecords}{cl:Str->Option Addr}
theorem Wf {a:Addr}{xs:List V}(cn:dN P w H h)(KX:K.In h)(q:bY K H a xs):∃(bZ:List Value)(o:Obj)(n:Nat),Vals xs bZ/\h.get? a=some o/\o.cls=.type "list"/\o.data=.seq bZ.toArray n:=by
 rcases q with q | ⟨o,bZ,n,e,hc,_,hd,_,hv⟩
 ·obtain ⟨_,bZ,n,hv,e⟩:=(show dw P w H h a (.lst xs) from q.ok cn)
  exact ⟨bZ,_,n,hv,e,rfl,rfl⟩
 ·exact ⟨bZ.toList,o,n,hv,KX _ _ e,hc,by simp [hd]⟩
theorem Wg {a:Addr}{xs:List V}(cn:dN P w H h)(KX:K.In h)(q:cA K H a xs):∃(bZ:List Value)(o:Obj)(n:Nat),Vals xs bZ/\h.get? a=some o/\o.cls=.type "tuple"/\o.data=.seq bZ.toArray n:=by
 rcases q with q | ⟨o,bZ,n,e,hc,hd,_,hv⟩
 ·obtain ⟨_,bZ,hv,o,e,hc,n,hd⟩:=(show dw P w H h a (.tup xs) from q.ok cn)
  exact ⟨bZ,o,n,hv,e,hc,hd⟩
 ·exact ⟨bZ.toList,o,n,hv,KX _ _ e,hc,by simp [hd]⟩
mutual
theorem Dw.reads (cn:dN P w H h)(KX:K.In h):∀(d:WData)(v:V)(u:Value),Dw K H v d->RelV v u->∃as,ReadsW R cl h u d as
 | .none,_,_,x,r=>by cases x;cases r;exact ⟨_,ReadsW.none⟩
 | .bool b,_,_,x,r=>by cases x;cases r;exact ⟨_,ReadsW.bool b⟩
 | .int i,_,_,x,r=>by cases x;obtain ⟨t,rfl⟩:=r;exact ⟨_,ReadsW.int i t⟩
 | .str s,_,_,x,r=>by cases x;obtain ⟨t,rfl⟩:=r;exact ⟨_,ReadsW.str s t⟩
 | .bytes b,_,_,x,r=>by cases x;obtain ⟨t,rfl⟩:=r;exact ⟨_,ReadsW.bytes _ t⟩
 | .list ds,_,_,x,r=>by
  cases x with
  | lst hs ha =>cases r;obtain ⟨bZ,o,n,rv,ho,hc,hd⟩:=Wf cn KX hs;obtain ⟨as,hr⟩:=Dw.readsAll cn KX ds _ bZ ha rv;exact ⟨_,ReadsW.list ho hc hd hr⟩
 | .tuple ds,_,_,x,r=>by
  cases x with
  | tup hs ha =>cases r;obtain ⟨bZ,o,n,rv,ho,hc,hd⟩:=Wg cn KX hs;obtain ⟨as,hr⟩:=Dw.readsAll cn KX ds _ bZ ha rv;exact ⟨_,ReadsW.tuple ho hc hd hr⟩
 | .float _,_,_,x,_=>by cases x
 | .dict _,_,_,x,_=>by cases x
 | .bytearray _,_,_,x,_=>by cases x
 | .set _,_,_,x,_=>by cases x
 | .frozenset _,_,_,x,_=>by cases x
 | .obj _ _,_,_,x,_=>by cases x
theorem Dw.readsAll (cn:dN P w H h)(KX:K.In h):∀(ds:List WData)(vs:List V)(us:List Value),j8 K H vs ds->Vals vs us->∃as,ReadsAllW R cl h us ds as
 | [],_,_,x,r=>by cases x;cases r;exact ⟨_,ReadsAllW.nil⟩
 | d::ds,_,_,x,r=>by
  cases x with
  | cons h1 h2 =>
   cases r with
   | cons r1 r2 =>obtain ⟨as,q1⟩:=Dw.reads cn KX d _ _ h1 r1;obtain ⟨bs,q2⟩:=Dw.readsAll cn KX ds _ _ h2 r2;exact ⟨_,ReadsAllW.cons q1 q2⟩
end
end
mutual
def tX:WData->Bool
 | .none=>true
 | .bool _=>true
 | .int _=>true
 | .str _=>true
 | .bytes _=>true
 | .list xs=>pA xs
 | .tuple xs=>pA xs
 | _=>false
def pA:List WData->Bool
 | []=>true
 | x::r=>tX x && pA r
end
theorem IQ {α:Type}{f:α->WData}(h:∀a,tX (f a)=true):∀l:List α,pA (l.map f)=true
 | []=>rfl
 | x::r=>by show (tX (f x) && pA (r.map f))=true;rw [h x,IQ h r] <;> rfl
theorem oV:∀(c:Codec)(a:c.denote),tX (c.enc a)=true
 | .unit,_=>rfl
 | .bool,_=>rfl
 | .int _ _,_=>rfl
 | .nat _ _,_=>rfl
 | .u8,_=>rfl
 | .bytes _ _,_=>rfl
 | .text _ _ _ _,_=>rfl
 | .list _ _ c,a=>IQ (λx=>oV c x) a
 | .pair c d,a=>by show (tX (c.enc a.1) && (tX (d.enc a.2) && true))=true;rw [oV c a.1,oV d a.2] <;> rfl
 | .triple c d e,a=>by show (tX (c.enc a.1) && (tX (d.enc a.2.1) && (tX (e.enc a.2.2) && true)))=true;rw [oV c a.1,oV d a.2.1,oV e a.2.2] <;> rfl
 | .option c,none=>rfl
 | .option c,some x=>oV c x
theorem Gf:∀(cs:List Codec)(a:Codec.denoteAll cs),pA (Codec.encAll cs a)=true
 | [],_=>rfl
 | c::cs,a=>by show (tX (c.enc a.1) && pA (Codec.encAll cs a.2))=true;rw [oV c a.1,Gf cs a.2] <;> rfl
theorem wu:∀{xs:List WData}{d:WData},d∈xs->d.weight<=WData.weightAll xs
 | [],d,h=>ai h (by simp)
 | x::r,d,h=>by
  show d.weight<=x.weight+1+WData.weightAll r;rcases ak.mp h with e | m
  ·rw [e];omega
  ·have z:=wu m;omega
def toV:Value->V
 | .none=>.cw
 | .bool b=>.bl b
 | .int i _=>.int i
 | .str x _=>.str x
 | .bytes b _=>.pZ b
 | .ref a=>.ref a
 | _=>.cw
def vt (A:List Addr):Value->Prop
 | .none=>True
 | .bool _=>True
 | .int _ _=>True
 | .str _ _=>True
 | .bytes _ _=>True
 | .ref a=>a∈A
 | _=>False
theorem vt.mono {A B:List Addr}(h:∀a∈A,a∈B):∀{u:Value},vt A u->vt B u:=λ{u} x=>by
 cases u with
 | ref a=>exact h a x
 | none=>trivial
 | bool b=>trivial
 | int i t=>trivial
 | str s t=>trivial
 | bytes b t=>trivial
 | _=>exact False.elim x
theorem RN {A:List Addr}{u:Value}(x:vt A u):RelV (toV u) u:=by
 cases u with
 | ref a=>rfl
 | none=>rfl
 | bool b=>rfl
 | int i t=>exact ⟨t,rfl⟩
 | str s t=>exact ⟨t,rfl⟩
 | bytes b t=>exact ⟨t,rfl⟩
 | _=>exact False.elim x
theorem ng {A:List Addr}:∀{vs:List Value},(∀u∈vs,vt A u)->Vals (vs.map toV) vs
 | [],_=>.nil
 | u::r,h=>.cons (RN (h u (aE ..))) (ng λx hx=>h x (aA _ hx))
def lg (h:Heap)(A:List Addr)(a:Addr):Prop:=∃vs:List Value,vs.length<=sizeLine/\(∀u∈vs,vt A u) /\
 (h.get? a=some {cls:=.type "list",data:=.seq vs.toArray}\/h.get? a=some {cls:=.type "tuple",data:=.seq vs.toArray})
theorem lg.mono {h:Heap}{A B:List Addr}{a:Addr}(k:∀a∈A,a∈B)(x:lg h A a):lg h B a:=by obtain ⟨vs,h1,h2,h3⟩:=x;exact ⟨vs,h1,λu hu=>(h2 u hu).mono k,h3⟩
theorem ox {P:Params}{h:Heap}:∀{vs:List Value}{ds:List WData},WellAll P h vs ds->vs.length=ds.length
 | _,_,.nil=>rfl
 | _,_,.cons _ b=>by show _+1=_+1;rw [ox b]
theorem Gg {P:Params}{h:Heap}{v:Value}{ds:List WData}(x:Well P h v (.list ds)):∃(a:Addr)(vs:List Value),v=.ref a/\h.get? a=some {cls:=.type "list",data:=.seq vs.toArray}/\WellAll P h vs ds:=by
 cases x with
 | list ho gh=>exact ⟨_,_,rfl,ho,gh⟩
theorem Dv {P:Params}{h:Heap}{v:Value}{ds:List WData}(x:Well P h v (.tuple ds)):∃(a:Addr)(vs:List Value),v=.ref a/\h.get? a=some {cls:=.type "tuple",data:=.seq vs.toArray}/\WellAll P h vs ds:=by
 cases x with
 | tuple ho gh=>exact ⟨_,_,rfl,ho,gh⟩
theorem Gh {P:Params}{h:Heap}{us:List Value}{d:WData}{ds:List WData}(x:WellAll P h us (d::ds)):∃(v:Value)(vs:List Value),us=v::vs/\Well P h v d/\WellAll P h vs ds:=by
 cases x with
 | cons a b=>exact ⟨_,_,rfl,a,b⟩
theorem L9 {n:Nat}(h:n<=1048576):n<=sizeLine:=aN h (by decide)
section
variable {P:Params}{h:Heap}
mutual
theorem RO:∀(d:WData)(v:Value),Well P h v d->tX d=true->d.weight<=1048576->∃A:List Addr,vt A v/\∀a∈A,lg h A a
 | .none,_,x,_,_=>by cases x;exact ⟨[],trivial,λa m=>ai m (by simp)⟩
 | .bool b,_,x,_,_=>by cases x;exact ⟨[],trivial,λa m=>ai m (by simp)⟩
 | .int i,_,x,_,_=>by cases x;exact ⟨[],trivial,λa m=>ai m (by simp)⟩
 | .str s,_,x,_,_=>by cases x;exact ⟨[],trivial,λa m=>ai m (by simp)⟩
 | .bytes b,_,x,_,_=>by cases x;exact ⟨[],trivial,λa m=>ai m (by simp)⟩
 | .list ds,_,x,p,z=>by
  obtain ⟨a,vs,rfl,ho,gh⟩:=Gg x;have z2:WData.weightAll ds<=1048576:=z;obtain ⟨A,h1,h2⟩:=wx ds _ gh p λd hd=>aN (wu hd) z2;have k:∀b∈A,b∈a::A:=λb hb=>aA _ hb;refine ⟨a::A,aE ..,λb hb=>?_⟩;rcases ak.mp hb with e | m
  ·rw [e];exact ⟨vs,L9 (by rw [ox gh];exact aN (PySem.W.length_le_weightAllW ds) z2),λu hu=>(h1 u hu).mono k,.inl ho⟩
  ·exact (h2 b m).mono k
 | .tuple ds,_,x,p,z=>by
  obtain ⟨a,vs,rfl,ho,gh⟩:=Dv x;have z2:WData.weightAll ds<=1048576:=z;obtain ⟨A,h1,h2⟩:=wx ds _ gh p λd hd=>aN (wu hd) z2;have k:∀b∈A,b∈a::A:=λb hb=>aA _ hb;refine ⟨a::A,aE ..,λb hb=>?_⟩;rcases ak.mp hb with e | m
  ·rw [e];exact ⟨vs,L9 (by rw [ox gh];exact aN (PySem.W.length_le_weightAllW ds) z2),λu hu=>(h1 u hu).mono k,.inr ho⟩
  ·exact (h2 b m).mono k
 | .float _,_,_,p,_=>Bool.noConfusion (show false=true from p)
 | .dict _,_,_,p,_=>Bool.noConfusion (show false=true from p)
 | .bytearray _,_,_,p,_=>Bool.noConfusion (show false=true from p)
 | .set _,_,_,p,_=>Bool.noConfusion (show false=true from p)
 | .frozenset _,_,_,p,_=>Bool.noConfusion (show false=true from p)
 | .obj _ _,_,_,p,_=>Bool.noConfusion (show false=true from p)
theorem wx:∀(ds:List WData)(vs:List Value),WellAll P h vs ds->pA ds=true->(∀d∈ds,d.weight<=1048576)->∃A:List Addr,(∀u∈vs,vt A u)/\∀a∈A,lg h A a
 | [],_,x,_,_=>by cases x;exact ⟨[],λu m=>ai m (by simp),λa m=>ai m (by simp)⟩
 | d::ds,_,x,p,z=>by
  obtain ⟨v,vs,rfl,x1,x2⟩:=Gh x;have q:tX d=true/\pA ds=true:=Bool.and_eq_true_iff.mp p;obtain ⟨A,a1,a2⟩:=RO d v x1 q.1 (z d (aE ..));obtain ⟨B,b1,b2⟩:=wx ds vs x2 q.2 λe he=>z e (aA _ he);have kA:∀b∈A,b∈A++B:=λb hb=>aY.mpr (.inl hb);have kB:∀b∈B,b∈A++B:=λb hb=>aY.mpr (.inr hb);refine ⟨A++B,λu hu=>?_,λb hb=>?_⟩
  ·rcases ak.mp hu with e | m
   ·rw [e];exact a1.mono kA
   ·exact (b1 u m).mono kB
  ·rcases aY.mp hb with m | m
   ·exact (a2 b m).mono kA
   ·exact (b2 b m).mono kB
end
end
def NA (o:Obj):Option HO:=match o.data with
 | .seq vs _=>if (o.cls == Value.type "list")=true then some (.e7 o (.lst (vs.toList.map toV))) else some (.e7 o (.tup (vs.toList.map toV)))
 | _=>none
def iM (K:PySem.W.Frag)(h:Heap)(A:List Addr):Hp:=λb=>if b∈A then (if (K.lookup b).isNone=true then (h.get? b).bind NA else none) else none
def Dx (H:Hp):Prop:=∀b,H b=none\/∃o u,H b=some (.e7 o u)
theorem IS (vs:List Value):NA {cls:=.type "list",data:=.seq vs.toArray}=some (.e7 {cls:=.type "list",data:=.seq vs.toArray} (.lst (vs.map toV))):=by show (if (Value.type "list" == Value.type "list")=true then some (HO.e7 {cls:=.type "list",data:=.seq vs.toArray} (.lst (vs.toArray.toList.map toV))) else some (HO.e7 {cls:=.type "list",data:=.seq vs.toArray} (.tup (vs.toArray.toList.map toV))))=_;rw [ab (beq_self_eq_true _)]
theorem IT (vs:List Value):NA {cls:=.type "tuple",data:=.seq vs.toArray}=some (.e7 {cls:=.type "tuple",data:=.seq vs.toArray} (.tup (vs.map toV))):=by show (if (Value.type "tuple" == Value.type "list")=true then some (HO.e7 {cls:=.type "tuple",data:=.seq vs.toArray} (.lst (vs.toArray.toList.map toV))) else some (HO.e7 {cls:=.type "tuple",data:=.seq vs.toArray} (.tup (vs.toArray.toList.map toV))))=_;rw [aa (by decide)]
section
variable {P:Program}{w:World}{K:PySem.W.Frag}{h:Heap}{A:List Addr}
theorem AA {b:Addr}{o:Obj}(hb:b∈A)(hk:K.lookup b=none)(e:h.get? b=some o):iM K h A b=NA o:=by unfold iM;rw [ab hb,hk,ab (show (none:Option Obj).isNone=true from rfl),e] <;> rfl
theorem UI {b:Addr}{u:HO}(q:iM K h A b=some u):b∈A/\K.lookup b=none:=by
 unfold iM at q
 by_cases hb:b∈A
 ·rw [ab hb] at q;cases hk:K.lookup b with
  | none=>exact ⟨hb,rfl⟩
  | some o =>rw [hk,aa (by simp)] at q;cases q
 ·rw [aa hb] at q;cases q
theorem AB (ar:∀a∈A,lg h A a){b:Addr}{u:HO}(q:iM K h A b=some u):K.lookup b=none/\∃vs:List Value,vs.length<=sizeLine/\(∀u∈vs,vt A u) /\
  ((h.get? b=some {cls:=.type "list",data:=.seq vs.toArray}/\u=.e7 {cls:=.type "list",data:=.seq vs.toArray} (.lst (vs.map toV))) \/
   (h.get? b=some {cls:=.type "tuple",data:=.seq vs.toArray}/\u=.e7 {cls:=.type "tuple",data:=.seq vs.toArray} (.tup (vs.map toV)))):=by
 obtain ⟨hb,hk⟩:=UI q;obtain ⟨vs,h1,h2,h3⟩:=ar b hb;refine ⟨hk,vs,h1,h2,?_⟩;rcases h3 with e | e
 ·rw [AA hb hk e,IS] at q;exact .inl ⟨e,(ao q).symm⟩
 ·rw [AA hb hk e,IT] at q;exact .inr ⟨e,(ao q).symm⟩
theorem PM (ar:∀a∈A,lg h A a):Dx (iM K h A):=λb=>by
 cases q:iM K h A b with
 | none=>exact .inl rfl
 | some u =>
  obtain ⟨_,vs,_,_,⟨_,e⟩ | ⟨_,e⟩⟩:=AB ar q
  ·exact .inr ⟨_,_,by rw [e]⟩
  ·exact .inr ⟨_,_,by rw [e]⟩
theorem UJ (ar:∀a∈A,lg h A a):dN P w (iM K h A) h:=λb u q=>by
 obtain ⟨_,vs,h1,h2,⟨e,rfl⟩ | ⟨e,rfl⟩⟩:=AB ar q
 ·exact ⟨e,by rw [af];exact h1,vs,_,ng h2,e⟩
 ·exact ⟨e,by rw [af];exact h1,vs,ng h2,_,e,rfl,_,rfl⟩
theorem AD {c c':Value}{vs us:List Value}(e:(some {cls:=c,data:=.seq vs.toArray}:Option Obj)=some {cls:=c',data:=.seq us.toArray}):c=c'/\vs=us:=by
 have e1:=ao e;have e2:c=c':=congrArg Obj.cls e1;have e3:Data.seq vs.toArray=Data.seq us.toArray:=congrArg Obj.data e1;injection e3 with e4
 refine ⟨e2,?_⟩;have e5:=congrArg Array.toList e4;simpa using e5
theorem aab (KX:K.In h)(ar:∀a∈A,lg h A a){a:Addr}{vs:List Value}(ha:a∈A)(e:h.get? a=some {cls:=.type "list",data:=.seq vs.toArray}):(∀u∈vs,vt A u)/\bY K (iM K h A) a (vs.map toV):=by
 obtain ⟨us,h1,h2,h3⟩:=ar a ha;have hu:us=vs:=by
  rcases h3 with q | q
  ·rw [e] at q;exact (AD q).2.symm
  ·rw [e] at q;exact ai (Value.type.inj (AD q).1) (by decide)
 subst hu;refine ⟨h2,?_⟩;cases hk:K.lookup a with
 | none=>exact .inl (.inr ⟨_,by rw [AA ha hk e,IS]⟩)
 | some o =>have e2:=KX a o hk;rw [e] at e2;obtain rfl:=ao e2;exact .inr ⟨_,us.toArray,_,hk,rfl,rfl,rfl,by rw [aG];exact h1,by simpa using ng h2⟩
theorem aac (KX:K.In h)(ar:∀a∈A,lg h A a){a:Addr}{vs:List Value}(ha:a∈A)(e:h.get? a=some {cls:=.type "tuple",data:=.seq vs.toArray}):(∀u∈vs,vt A u)/\cA K (iM K h A) a (vs.map toV):=by
 obtain ⟨us,h1,h2,h3⟩:=ar a ha;have hu:us=vs:=by
  rcases h3 with q | q
  ·rw [e] at q;exact ai (Value.type.inj (AD q).1) (by decide)
  ·rw [e] at q;exact (AD q).2.symm
 subst hu;refine ⟨h2,?_⟩;cases hk:K.lookup a with
 | none=>exact .inl (.inr ⟨_,by rw [AA ha hk e,IT]⟩)
 | some o =>have e2:=KX a o hk;rw [e] at e2;obtain rfl:=ao e2;exact .inr ⟨_,us.toArray,_,hk,rfl,rfl,by rw [aG];exact h1,by simpa using ng h2⟩
mutual
theorem Wh {Pm:Params}(KX:K.In h)(ar:∀a∈A,lg h A a):∀(d:WData)(v:Value),Well Pm h v d->tX d=true->vt A v->Dw K (iM K h A) (toV v) d
 | .none,_,x,_,_=>by cases x;exact .cw
 | .bool b,_,x,_,_=>by cases x;exact .bl b
 | .int i,_,x,_,_=>by cases x;exact .int i
 | .str s,_,x,_,_=>by cases x;exact .str s
 | .bytes b,_,x,_,_=>by cases x;have z:=Dw.pZ (K:=K) (H:=iM K h A) b.toArray;exact z
 | .list ds,_,x,p,hu=>by obtain ⟨a,vs,rfl,ho,gh⟩:=Gg x;obtain ⟨h2,hs⟩:=aab KX ar hu ho;exact .lst hs (Dy KX ar ds _ gh p h2)
 | .tuple ds,_,x,p,hu=>by obtain ⟨a,vs,rfl,ho,gh⟩:=Dv x;obtain ⟨h2,hs⟩:=aac KX ar hu ho;exact .tup hs (Dy KX ar ds _ gh p h2)
 | .float _,_,_,p,_=>Bool.noConfusion (show false=true from p)
 | .dict _,_,_,p,_=>Bool.noConfusion (show false=true from p)
 | .bytearray _,_,_,p,_=>Bool.noConfusion (show false=true from p)
 | .set _,_,_,p,_=>Bool.noConfusion (show false=true from p)
 | .frozenset _,_,_,p,_=>Bool.noConfusion (show false=true from p)
 | .obj _ _,_,_,p,_=>Bool.noConfusion (show false=true from p)
theorem Dy {Pm:Params}(KX:K.In h)(ar:∀a∈A,lg h A a):∀(ds:List WData)(vs:List Value),WellAll Pm h vs ds->pA ds=true->(∀u∈vs,vt A u)->j8 K (iM K h A) (vs.map toV) ds
 | [],_,x,_,_=>by cases x;exact .nil
 | d::ds,_,x,p,hu=>by obtain ⟨v,vs,rfl,x1,x2⟩:=Gh x;have q:tX d=true/\pA ds=true:=Bool.and_eq_true_iff.mp p;exact .cons (Wh KX ar d v x1 q.1 (hu _ (aE ..))) (Dy KX ar ds vs x2 q.2 λu m=>hu u (aA _ m))
end
end
theorem PN {P:Program}{w:World}{K:PySem.W.Frag}{mg mb:Str->Option Value}{CX:xN}{k:Nat}{fa:Addr}{fd:FuncData}{ps:List Str}{sp:Sp}{s₁:Shared}{vals:List Value}{ds:List WData}{R:PySem.W.WRecords}{cl:Str->Option Addr}{d0:WData}
  (KX:K.In s₁.heap) (PQ:s₁.heap.Ns mainGlobals mg) (hb:s₁.heap.Ns builtinsNs mb) (hbb:∀x:Str,x≠"__name__"->mb x=bootBuiltins x) (aad:s₁.heap.NoLimit) (hg:s₁.gens=#[])
  (Gi:WellAll w.params s₁.heap vals ds) (ib:pA ds=true) (IU:∀d∈ds,d.weight<=1048576) (hr:eE k callerA)
  (F:∀base:Heap,K.In base->base.Ns mainGlobals mg->jD P w K mg base CX k fa fd ps sp) (X4:∀(s:Shared)(us:List Value),us.length=ps.length->BindsTo s fd ⟨us,[]⟩ (ps.zip us)) (hlen:ds.length=ps.length)
  (oS:∀(H:Hp)(xs:List V),Dx H->j8 K H xs ds->sp xs H (λv H'=>Dw K H' v d0) λ_ _ _=>False)
  (PR:∀H e s',CX [] H s₁ (λ_ _ _=>False) e s'->False) :
  codeAny (model P w) callerA (.call (.ref fa) ⟨vals,[]⟩) (λr s'=>∃u as,r=.ok (.ret u)/\ReadsW R cl s'.heap u d0 as/\OldK s₁.heap s'.heap/\s'.os=s₁.os/\AllBare s'.gens) s₁:=by
 obtain ⟨A,ho,ar⟩:=wx ds vals Gi ib IU;have hO:Dx (iM K s₁.heap A):=PM ar;have cn:dN P w (iM K s₁.heap A) s₁.heap:=UJ ar;have hS:=Dy KX ar ds vals Gi ib ho;have hV:=ng ho;have hK:∀b u,iM K s₁.heap A b=some u->K.lookup b=none:=λb u q=>(AB ar q).1;have noA:∀{b:Addr}{o:Obj}{es:Array DictEntry}{ep:Nat},s₁.heap.get? b=some o->o.data=.dict es ep->iM K s₁.heap A b=none:=λ{b o es ep} e d=>by
  cases q:iM K s₁.heap A b with
  | none=>rfl
  | some u =>
   obtain ⟨_,vs,_,_,⟨e2,_⟩ | ⟨e2,_⟩⟩:=AB ar q
   ·rw [e2] at e;cases e;have d':Data.seq vs.toArray _=Data.dict es ep:=d;cases d'
   ·rw [e2] at e;cases e;have d':Data.seq vs.toArray _=Data.dict es ep:=d;cases d'
 generalize iM K s₁.heap A=H at hO cn hS hK noA
 have base_of:∀{b:Addr}{o:Obj},s₁.heap.get? b=some o->H b=none->(vZ s₁.heap H).get? b=some o:=λe n=>Rk e n;have nsK:∀{b:Addr}{m:Str->Option Value},s₁.heap.Ns b m->(vZ s₁.heap H).Ns b m:=λ{b m} ⟨o,es,ep,e,d,r⟩=>⟨o,es,ep,base_of e (noA e d),d,r⟩
 have nK:∀b o,K.lookup b=some o->H b=none:=λb o e=>by
  cases q:H b with
  | none=>rfl
  | some u =>rw [hK b u q] at e;cases e
 have YJ:K.In (vZ s₁.heap H):=λb o e=>base_of (KX b o e) (nK b o e);have hM:Mod K mg (vZ s₁.heap H):=⟨YJ,nsK PQ,⟨mb,nsK hb,hbb⟩,let ⟨mc,h1,h2⟩:=aad;⟨mc,nsK h1,h2⟩⟩
 have e0:B7 P w K mg (vZ s₁.heap H) callerA [] s₁ H:=⟨rfl,hM,λb o e=>Up e,Nat.le_of_eq (O1 _ _),trivial,λb hb=>ai (show b∈([]:List Addr) from hb) (by simp),cn,.of_eq hg⟩
 have hl:vals.length=ps.length:=by rw [ox Gi];exact hlen
 refine codeAny_mono ((F _ YJ (nsK PQ)).run callerA [] s₁ H ⟨vals,[]⟩ vals (vals.map toV) _ _ hr e0 (X4 s₁ vals hl) hV (oS H _ hO hS)) λr s' x=>?_;cases r with
 | error e=>exact (PR H e s' x).elim
 | ok fl =>
  cases fl with
  | next=>exact False.elim x
  | brk=>exact False.elim x
  | cont=>exact False.elim x
  | ret u =>
   obtain ⟨v,H',os,bare,un,Wi,r',q⟩:=x;have kept:∀b o,s₁.heap.get? b=some o->s'.heap.get? b=some o:=λb o e=>by
    cases q2:H b with
    | none=>exact un.keep b o e q2 (by intro z;exact ai (show b∈([]:List Addr) from z) (by simp)) (by simp)
    | some u2 =>
     rcases hO b with z | ⟨ob,u3,z⟩
     ·rw [q2] at z;cases z
     ·have z2:=un.vY b ob _ z;obtain ⟨e1,_⟩:=cn b _ z;obtain ⟨e2,_⟩:=Wi b _ z2;rw [e] at e1;cases e1;exact e2
   have KX':K.In s'.heap:=λb o e=>kept b o (KX b o e);obtain ⟨as,xS⟩:=Dw.reads (R:=R) (cl:=cl) Wi KX' d0 v u q r';exact ⟨u,as,rfl,xS,OldK.of_keep kept,os,bare⟩
theorem Fb {ds:List WData}(h:WData.layableAll ds=true):∀d∈ds,d.weight<=1048576:=λd hd =>(PySem.W.layableW_iff.mp (br.mp h d hd)).2.2
theorem Dz:∀(cs:List Codec)(a:Codec.denoteAll cs),(Codec.encAll cs a).length=cs.length
 | [],_=>rfl
 | c::cs,a=>by show (Codec.encAll cs a.2).length+1=cs.length+1;rw [Dz cs a.2]
theorem PU {r:OpenSpec}{k:Nat}{q:Program}{loose:List Str}{XP:(Str->Option Value)->Heap->Prop}{YP:World->Heap->Prop}{d:DefRec}{K:Params->PySem.W.Frag}{CX:World->xN}{ps:List Str}{sp:World->Sp}
  (NB:r.wellSaid=true) (YK:d.params.defaults=[]) (hlen:r.args.length=ps.length) (hr:eE k callerA)
  (hY:∀(w:World)(h:Heap),YP w h->(K w.params).In h)
  (F:∀(w:World)(mg:Str->Option Value)(fa:Addr)(h:Heap),YP w h->(K w.params).In h->h.Ns mainGlobals mg->mg d.name=some (.ref fa) ->
   ∃fd:FuncData,(∀(s:Shared)(us:List Value),us.length=ps.length->BindsTo s fd ⟨us,[]⟩ (ps.zip us)) /\
    ∀base:Heap,(K w.params).In base->base.Ns mainGlobals mg->jD r.prog w (K w.params) mg base (CX w) k fa fd ps (sp w))
  (oS:∀(w:World)(H:Hp)(xs:List V)(a:Codec.denoteAll r.args),Dx H->Codec.withinAll r.args a=true->Codec.app r.args r.asked a=true->j8 (K w.params) H xs (Codec.encAll r.args a) ->
   sp w xs H (λv H'=>Dw (K w.params) H' v (r.ret.enc (Codec.app r.args r.f a))) λ_ _ _=>False)
  (PR:∀(w:World)(H:Hp)(s:Shared)(e:Value)(s':Shared),CX w [] H s (λ_ _ _=>False) e s'->False) :
  PySem.W.WalkOS q loose XP YP r d [] (λf vs=>PySem.call f vs):=by
 intro w lT s₁ mg mb G Y fa o pm cd doc dV kV ho hd oO hD Wj hg args vals as aae aaf xS Gi Bp;obtain ⟨a,e1,e2⟩:=PySem.W.os_pre_some aae;obtain ⟨e3,Ma⟩:=Codec.encAll_of_decAll r.args args a e1;subst e3;have KX:=hY w _ Y;obtain ⟨fd,hb,hF⟩:=F w mg fa _ Y KX G.T.g Wj;refine PySem.W.enter_call (codeAny_mono (PN (R:=[]) (cl:=classAt lT.heap) (d0:=r.ret.enc (Codec.app r.args r.f a)) KX G.T.g G.T.b G.T.builtins G.T.nolimit hg Gi (Gf _ _) (Fb aaf) hr hF hb (by rw [Dz];exact hlen)
  (λH xs hO hS=>oS w H xs a hO Ma e2 hS) λH e s'=>PR w H s₁ e s') λr' s' hq=>?_)
 obtain ⟨u,Bq,rfl,h1,h2,h3,h4⟩:=hq;exact ⟨.inl ⟨u,_,Bq,rfl,λ_=>rfl,h1,(OpenSpec.post_iff NB Ma _ _).mpr rfl,λz=>Bool.noConfusion (show false=true from z)⟩,h2,h3,h4⟩
theorem NC {r:OpenSpec}{k:Nat}{q:Program}{loose:List Str}{XP:(Str->Option Value)->Heap->Prop}{YP:World->Heap->Prop}{d:DefRec}{K:Params->PySem.W.Frag}{CX:xN}{ps:List Str}{sp:PySem.W.Frag->Sp}
  (NB:r.wellSaid=true) (YK:d.params.defaults=[]) (hlen:r.args.length=ps.length) (hr:eE k callerA)
  (hY:∀(w:World)(h:Heap),YP w h->(K w.params).In h)
  (F:∀(w:World)(mg:Str->Option Value)(fa:Addr)(h:Heap),YP w h->(K w.params).In h->h.Ns mainGlobals mg->mg d.name=some (.ref fa) ->
   ∃fd:FuncData,(∀(s:Shared)(us:List Value),us.length=ps.length->BindsTo s fd ⟨us,[]⟩ (ps.zip us)) /\
    ∀base:Heap,(K w.params).In base->base.Ns mainGlobals mg->jD r.prog w (K w.params) mg base CX k fa fd ps (sp (K w.params)))
  (oS:∀(K:PySem.W.Frag)(H:Hp)(xs:List V)(a:Codec.denoteAll r.args),Dx H->Codec.withinAll r.args a=true->Codec.app r.args r.asked a=true->j8 K H xs (Codec.encAll r.args a) ->
   sp K xs H (λv H'=>Dw K H' v (r.ret.enc (Codec.app r.args r.f a))) λ_ _ _=>False)
  (PR:∀(H:Hp)(s:Shared)(e:Value)(s':Shared),CX [] H s (λ_ _ _=>False) e s'->False) :
  PySem.W.WalkOS q loose XP YP r d [] (λf vs=>PySem.call f vs) :=
 PU (K:=K) (CX:=λ_=>CX) (sp:=λw=>sp (K w.params)) NB YK hlen hr hY F (λw H xs a h1 h2 h3 h4=>oS (K w.params) H xs a h1 h2 h3 h4) λ_ H s e s'=>PR H s e s'
end L2
namespace Hy
open Ks337 (Bytes Cond Thing Line House NOT AND OR EQ GT THEN RULE NEVER IN OUT)
abbrev mZ:Bytes:=Ks337.LT
inductive Part where
 | pB | nh | vv | cmp (o:Bytes) (t v:Nat)
deriving DecidableEq
def flat:Cond->List Part
 | .is t v=>[.cmp EQ t v]
 | .less t v=>[.cmp mZ t v]
 | .more t v=>[.cmp GT t v]
 | .not_ c=>.pB::flat c
 | .and_ a b=>.nh::(flat a++flat b)
 | .or_ a b=>.vv::(flat a++flat b)
def e9:Part->Nat
 | .cmp _ _ _=>3
 | _=>1
def arity:Part->Nat
 | .pB=>1
 | .nh=>2
 | .vv=>2
 | .cmp _ _ _=>0
def dR (ts:List Thing):List Bytes->Option Part
 | [n,o,d]=>if o=EQ\/o=mZ\/o=GT then (match Ks337.find ts n with
   | some t=>(match Ks337.digit d with
    | some v=>if v<=Ks337.most ts t then some (.cmp o t v) else none
    | none=>none)
   | none=>none) else none
 | _=>none
def jG (ts:List Thing):List Bytes->Option Part
 | []=>none
 | w::r=>if w=NOT then some .pB else if w=AND then some .nh else if w=OR then some .vv else dR ts ((w::r).take 3)
theorem fB (ts:List Thing)(n:Nat)(w:Bytes)(r:List Bytes):Ks337.cond ts (n+1) (w::r) =
  if w=NOT then (match Ks337.cond ts n r with | some x=>some (.not_ x.1,x.2) | none=>none)
  else if w=AND\/w=OR then (match Ks337.cond ts n r with
    | some x=>(match Ks337.cond ts n x.2 with
     | some y=>some (if w=AND then .and_ x.1 y.1 else .or_ x.1 y.1,y.2)
     | none=>none)
    | none=>none)
  else match Ks337.find ts w,r with
    | some t,o::d::rest=>(match Ks337.digit d with
     | some v=>if Ks337.most ts t<v then none else (match Ks337.compare o t v with
      | some c=>some (c,rest)
      | none=>none)
     | none=>none)
    | _,_=>none:=rfl
theorem q5 (ts:List Thing):∀(f:Nat)(ws:List Bytes)(c:Cond)(r:List Bytes),Ks337.cond ts f ws=some (c,r)->r.length<ws.length
 | 0,_,_,_,h=>by simp [Ks337.cond] at h
 | f+1,[],_,_,h=>by simp [Ks337.cond] at h
 | f+1,w::r,c,q,h=>by
  rw [fB] at h
  split at h
  ·split at h
   ·rename_i x e
    have:=q5 ts f r x.1 x.2 e
    simp at h;obtain ⟨_,rfl⟩:=h;simp;omega
   ·simp at h
  ·split at h
   ·split at h
    ·rename_i x e;have h1:=q5 ts f r x.1 x.2 e
     split at h
     ·rename_i y e2;have h2:=q5 ts f x.2 y.1 y.2 e2;simp at h;obtain ⟨_,rfl⟩:=h;simp;omega
     ·simp at h
    ·simp at h
   ·split at h
    ·split at h
     ·split at h
      ·simp at h
      ·split at h
       ·simp at h;obtain ⟨_,rfl⟩:=h;simp;omega
       ·simp at h
     ·simp at h
    ·simp at h
theorem oW (ts:List Thing):∀(n:Nat)(f g:Nat)(ws:List Bytes),ws.length<=n->ws.length<f->ws.length<g->Ks337.cond ts f ws=Ks337.cond ts g ws
 | n,0,_,_,_,h,_=>by omega
 | n,_+1,0,_,_,_,h=>by omega
 | n,f+1,g+1,[],_,_,_=>by simp [Ks337.cond]
 | 0,f+1,g+1,w::r,h,_,_=>by simp at h
 | n+1,f+1,g+1,w::r,h0,h1,h2=>by
  have e1:Ks337.cond ts f r=Ks337.cond ts g r:=oW ts n f g r (by simp at h0;omega) (by simp at h1;omega) (by simp at h2;omega);rw [fB,fB,e1]
  split
  ·rfl
  ·split
   ·cases e:Ks337.cond ts g r with
    | none=>rfl
    | some x =>
     have:=q5 ts g r x.1 x.2 e
     have e2:Ks337.cond ts f x.2=Ks337.cond ts g x.2:=oW ts n f g x.2 (by simp at h0;omega) (by simp at h1;omega) (by simp at h2;omega);simp only [e2]
   ·rfl
def dz (ts:List Thing)(ws:List Bytes):Option (Cond×List Bytes):=Ks337.cond ts (ws.length+1) ws
def dD (ts:List Thing):Nat->List Bytes->Option (List Part×List Bytes)
 | 0,ws=>some ([],ws)
 | n+1,ws=>match dz ts ws with
  | none=>none
  | some x=>match dD ts n x.2 with
   | none=>none
   | some y=>some (flat x.1++y.1,y.2)
theorem RP (ts:List Thing)(w:Bytes)(r:List Bytes):dz ts (w::r) =
  if w=NOT then (match dz ts r with | some x=>some (.not_ x.1,x.2) | none=>none)
  else if w=AND\/w=OR then (match dz ts r with
    | some x=>(match dz ts x.2 with
     | some y=>some (if w=AND then .and_ x.1 y.1 else .or_ x.1 y.1,y.2)
     | none=>none)
    | none=>none)
  else match dR ts ((w::r).take 3) with
   | some (.cmp o t v)=>some (if o=EQ then .is t v else if o=mZ then .less t v else .more t v,(w::r).drop 3)
   | _=>none:=by
 unfold dz;rw [fB];have e1:Ks337.cond ts (w::r).length r=Ks337.cond ts (r.length+1) r:=oW ts r.length _ _ r (by omega) (by simp) (by omega);rw [e1]
 split
 ·rfl
 ·split
  ·cases e:Ks337.cond ts (r.length+1) r with
   | none=>rfl
   | some x =>
    have:=q5 ts _ r x.1 x.2 e
    have e2:Ks337.cond ts (w::r).length x.2=Ks337.cond ts (x.2.length+1) x.2:=oW ts r.length _ _ x.2 (by omega) (by simp;omega) (by omega);simp only [e2]
  ·match r with
   | []=>simp [dR]
   | [a]=>simp [dR]
   | o::d::rest =>
    simp only [List.take,List.drop,dR];cases Ks337.find ts w with
    | none=>simp
    | some t =>
     simp only [];cases Ks337.digit d with
     | none=>simp
     | some v =>
      simp only [Ks337.compare]
      by_cases hv:Ks337.most ts t<v
      ·have:¬v<=Ks337.most ts t:=by omega
       simp [hv,this]
      ·have:v<=Ks337.most ts t:=by omega
       simp only [hv,this,if_true,if_false]
       by_cases o1:o=EQ
       ·subst o1;simp
       ·by_cases o2:o=mZ
        ·subst o2;simp [o1]
        ·by_cases o3:o=GT
         ·subst o3;simp [o1,o2]
         ·simp [o1,o2,o3]
theorem j9 {ts:List Thing}{ws:List Bytes}{p:Part}(h:dR ts ws=some p):∃n o d t v,ws=[n,o,d]/\p=.cmp o t v/\(o=EQ\/o=mZ\/o=GT)/\Ks337.find ts n=some t/\Ks337.digit d=some v/\v<=Ks337.most ts t:=by
 match ws,h with
 | [n,o,d],h =>
  simp only [dR] at h
  split at h
  ·rename_i ho
   split at h
   ·rename_i t et
    split at h
    ·rename_i v ev
     split at h
     ·rename_i hv;injection h with h
      exact ⟨n,o,d,t,v,rfl,h.symm,ho,et,ev,hv⟩
     ·exact nomatch h
    ·exact nomatch h
   ·exact nomatch h
  ·exact nomatch h
theorem DA (ts:List Thing)(ws:List Bytes):dD ts 1 ws=(dz ts ws).map λx=>(flat x.1,x.2):=by
 rw [dD];cases dz ts ws with
 | none=>rfl
 | some x=>simp [dD]
theorem K4 (ts:List Thing)(n:Nat)(ws:List Bytes):dD ts (n+1) ws=match jG ts ws with
  | none=>none
  | some p=>match dD ts (n+arity p) (ws.drop (e9 p)) with
   | none=>none
   | some y=>some (p::y.1,y.2):=by
 match ws with
 | []=>simp [dD,dz,Ks337.cond,jG]
 | w::r =>
  rw [dD,RP,jG]
  by_cases h1:w=NOT
  ·simp only [h1,if_true,arity,e9,List.drop_one,List.tail_cons];rw [dD];cases dz ts r with
   | none=>rfl
   | some x =>
    simp only [];cases dD ts n x.2 with
    | none=>rfl
    | some y=>simp [flat]
  ·simp only [h1,if_false]
   by_cases h2:w=AND
   ·simp only [h2,true_or,if_true,arity,e9,List.drop_one,List.tail_cons];rw [show n+2=(n+1)+1 by omega,dD];cases dz ts r with
    | none=>rfl
    | some x =>
     simp only [];rw [dD];cases dz ts x.2 with
     | none=>rfl
     | some y =>
      simp only [];cases dD ts n y.2 with
      | none=>rfl
      | some z=>simp [flat]
   ·by_cases h3:w=OR
    ·have h4:OR≠AND:=by decide
     simp only [h3,or_true,if_true,arity,e9,List.drop_one,List.tail_cons,h4,if_false];rw [show n+2=(n+1)+1 by omega,dD];cases dz ts r with
     | none=>rfl
     | some x =>
      simp only [];rw [dD];cases dz ts x.2 with
      | none=>rfl
      | some y =>
       simp only [];cases dD ts n y.2 with
       | none=>rfl
       | some z=>simp [flat]
    ·simp only [h2,h3,or_self,if_false];cases e:dR ts ((w::r).take 3) with
     | none=>rfl
     | some p =>
      obtain ⟨m,o,d,t,v,e0,rfl,ho,_⟩:=j9 e;simp only [arity,e9,Nat.add_zero];cases dD ts n ((w::r).drop 3) with
      | none=>rfl
      | some y =>
       rcases ho with rfl | rfl | rfl
       ·simp [flat]
       ·have:mZ≠EQ:=by decide
        simp [flat,this]
       ·have q1:GT≠EQ:=by decide
        have q2:GT≠mZ:=by decide
        simp [flat,q1,q2]
def condOf (ts:List Thing)(ws:List Bytes):Option Cond:=match dz ts ws with
 | some x=>if x.2=[] then some x.1 else none
 | none=>none
theorem K5 {ts:List Thing}{ws:List Bytes}{p:Part}(h:jG ts ws=some p):e9 p<=ws.length:=by
 match ws,h with
 | w::r,h =>
  rw [jG] at h
  split at h
  ·cases h;simp [e9]
  ·split at h
   ·cases h;simp [e9]
   ·split at h
    ·cases h;simp [e9]
    ·obtain ⟨m,o,d,t,v,e0,rfl,_⟩:=j9 h
     have:=congrArg List.length e0
     rw [aO] at this;simp only [e9];simp only [au,List.length_nil] at this ⊢;omega
def ni (o:Bytes)(x v:Nat):Bool:=if o=EQ then x == v else if o=mZ then decide (x<v) else decide (v<x)
def app (s:Ks338.State):Part->List Bool->List Bool
 | .pB,b::k=>(!b)::k
 | .nh,a::b::k=>(a && b)::k
 | .vv,a::b::k=>(a || b)::k
 | .cmp o t v,k=>ni o (Ks338.value s t) v::k
 | _,k=>k
def jB (s:Ks338.State):List Part->List Bool
 | []=>[]
 | p::r=>app s p (jB s r)
def Good (s:Ks338.State):List Part->Prop
 | []=>True
 | p::r=>arity p<=(jB s r).length/\Good s r
theorem iN (s:Ks338.State):∀(c:Cond)(r:List Part),jB s (flat c++r)=Ks338.holds s c::jB s r
 | .is t v,r=>by simp [flat,jB,app,ni,Ks338.holds]
 | .less t v,r=>by
  have:mZ≠EQ:=by decide
  simp [flat,jB,app,ni,Ks338.holds,this]
 | .more t v,r=>by
  have q1:GT≠EQ:=by decide
  have q2:GT≠mZ:=by decide
  simp [flat,jB,app,ni,Ks338.holds,q1,q2]
 | .not_ c,r=>by simp [flat,jB,iN s c r,app,Ks338.holds]
 | .and_ a b,r=>by simp only [flat,bh,aT,jB];rw [iN s a,iN s b];simp [app,Ks338.holds]
 | .or_ a b,r=>by simp only [flat,bh,aT,jB];rw [iN s a,iN s b];simp [app,Ks338.holds]
theorem good_flat (s:Ks338.State):∀(c:Cond)(r:List Part),Good s r->Good s (flat c++r)
 | .is t v,r,h=>by simp [flat,Good,arity,h]
 | .less t v,r,h=>by simp [flat,Good,arity,h]
 | .more t v,r,h=>by simp [flat,Good,arity,h]
 | .not_ c,r,h=>by simp only [flat,bh,Good];exact ⟨by simp [iN,arity],good_flat s c r h⟩
 | .and_ a b,r,h=>by simp only [flat,bh,aT,Good];exact ⟨by simp [iN,arity],good_flat s a _ (good_flat s b r h)⟩
 | .or_ a b,r,h=>by simp only [flat,bh,aT,Good];exact ⟨by simp [iN,arity],good_flat s a _ (good_flat s b r h)⟩
theorem Gj {s:Ks338.State}:∀{l:List Part}(i:Nat),Good s l->Good s (l.drop i)
 | _,0,h=>h
 | [],_+1,_=>trivial
 | _::r,i+1,h=>Gj (l:=r) i h.2
theorem Mb {s:Ks338.State}:∀(l:List Part),(jB s l).length<=l.length
 | []=>ag _
 | p::r=>by
  have:=Mb (s:=s) r
  simp only [jB,au]
  revert this
  generalize jB s r=k
  intro h
  match p,k,h with
  | .pB,[],h=>simp [app]
  | .pB,_::_,h=>simp [app] at *;omega
  | .nh,[],h=>simp [app]
  | .nh,[_],h=>simp [app]
  | .nh,_::_::_,h=>simp [app] at *;omega
  | .vv,[],h=>simp [app]
  | .vv,[_],h=>simp [app]
  | .vv,_::_::_,h=>simp [app] at *;omega
  | .cmp _ _ _,_,h=>simp [app] at *;omega
theorem find_some {ts:List Thing}{w:Bytes}{t:Nat}(h:Ks337.find ts w=some t):∃th,ts[t]?=some th/\th.name=w:=by
 unfold Ks337.find at h;simp only [] at h
 split at h
 ·rename_i hl;injection h with h
  subst h;refine ⟨ts[ts.findIdx λt=>t.name == w],aI hl,?_⟩
  have:=List.findIdx_getElem (w:=hl)
  simpa using this
 ·exact nomatch h
theorem Mc {ts:List Thing}{w:Bytes}{t:Nat}(h:Ks337.find ts w=some t):t<ts.length:=by obtain ⟨th,h,_⟩:=find_some h;exact (aH.mp h).1
theorem find_none {ts:List Thing}{w:Bytes}(h:∀(j:Nat)(th:Thing),ts[j]?=some th->th.name≠w):Ks337.find ts w=none:=by
 cases e:Ks337.find ts w with
 | none=>rfl
 | some t =>obtain ⟨th,h1,h2⟩:=find_some e;exact ai h2 (h t th h1)
theorem Me {ts:List Thing}{w:Bytes}{i:Nat}{th:Thing}(h:∀j<i,∀x:Thing,ts[j]?=some x->x.name≠w)(hi:ts[i]?=some th)(hw:th.name=w):Ks337.find ts w=some i:=by
 have hl:i<ts.length:=(aH.mp hi).1;have e0:ts[i]=th:=(aH.mp hi).2;have e:(ts.findIdx λt=>t.name == w)=i:=by
  rw [List.findIdx_eq hl];refine ⟨by rw [e0];simpa using hw,λj hj=>?_⟩
  have:=h j hj ts[j] (aI (by omega))
  simpa using this
 unfold Ks337.find;simp only [e,hl,if_true]
theorem iO {d:Bytes}{v:Nat}(h:Ks337.digit d=some v):d=[48+v]/\v<=3:=by
 unfold Ks337.digit at h
 split at h
 ·rename_i b
  split at h
  ·injection h with h
   refine ⟨?_,by omega⟩;rw [<-h]
   congr 1
   omega
  ·exact nomatch h
 ·exact nomatch h
theorem IV {v:Nat}(h:v<=3):Ks337.digit [48+v]=some v:=by
 unfold Ks337.digit;simp only [];rw [ab (by omega)]
 congr 1;omega
theorem yL {ts:List Thing}{t:Nat}{th:Thing}(h:ts[t]?=some th):Ks337.nameOf ts t=th.name:=by unfold Ks337.nameOf;rw [h]
theorem ka {ts:List Thing}{t:Nat}{th:Thing}(h:ts[t]?=some th):Ks337.most ts t=th.most:=by unfold Ks337.most;rw [h]
theorem qu {ts:List Thing}{t:Nat}(xs:List Thing)(h:t<ts.length):Ks337.nameOf (ts++xs) t=Ks337.nameOf ts t:=by unfold Ks337.nameOf;rw [bu h]
theorem RQ {ts:List Thing}{t:Nat}(xs:List Thing)(h:t<ts.length):Ks337.most (ts++xs) t=Ks337.most ts t:=by unfold Ks337.most;rw [bu h]
def jH (ts:List Thing):Cond->Prop
 | .is t v=>t<ts.length/\v<=3
 | .less t v=>t<ts.length/\v<=3
 | .more t v=>t<ts.length/\v<=3
 | .not_ c=>jH ts c
 | .and_ a b=>jH ts a/\jH ts b
 | .or_ a b=>jH ts a/\jH ts b
def Gk (ts:List Thing):Line->Prop
 | .rule c t v=>jH ts c/\t<ts.length/\v<=Ks337.most ts t/\v<=3
 | .never c=>jH ts c
theorem jH.app {ts:List Thing}(xs:List Thing):∀{c:Cond},jH ts c->jH (ts++xs) c
 | .is t v,h=>⟨by rw [ay];have:=h.1;omega,h.2⟩
 | .less t v,h=>⟨by rw [ay];have:=h.1;omega,h.2⟩
 | .more t v,h=>⟨by rw [ay];have:=h.1;omega,h.2⟩
 | .not_ c,h=>jH.app (c:=c) xs h
 | .and_ a b,h=>⟨jH.app (c:=a) xs h.1,jH.app (c:=b) xs h.2⟩
 | .or_ a b,h=>⟨jH.app (c:=a) xs h.1,jH.app (c:=b) xs h.2⟩
theorem Gk.app {ts:List Thing}(xs:List Thing):∀{l:Line},Gk ts l->Gk (ts++xs) l
 | .rule c t v,h=>⟨h.1.app xs,by rw [ay];have:=h.2.1;omega,by rw [RQ xs h.2.1];exact h.2.2.1,h.2.2.2⟩
 | .never c,h=>jH.app (c:=c) xs h
theorem gM {ts:List Thing}(xs:List Thing):∀{c:Cond},jH ts c->Ks337.toldCond (ts++xs) c=Ks337.toldCond ts c
 | .is t v,h=>by simp only [Ks337.toldCond,qu xs h.1]
 | .less t v,h=>by simp only [Ks337.toldCond,qu xs h.1]
 | .more t v,h=>by simp only [Ks337.toldCond,qu xs h.1]
 | .not_ c,h=>by simp only [Ks337.toldCond,gM (c:=c) xs h]
 | .and_ a b,h=>by simp only [Ks337.toldCond,gM (c:=a) xs h.1,gM (c:=b) xs h.2]
 | .or_ a b,h=>by simp only [Ks337.toldCond,gM (c:=a) xs h.1,gM (c:=b) xs h.2]
def dQ (ts:List Thing):Line->List Bytes
 | .rule c t v=>RULE::(Ks337.toldCond ts c++[THEN,Ks337.nameOf ts t,EQ,[48+v]])
 | .never c=>NEVER::Ks337.toldCond ts c
theorem iq (ts:List Thing)(l:Line):Ks337.toldLine ts l=Ks337.joined (dQ ts l):=by cases l <;> rfl
theorem xT {ts:List Thing}(xs:List Thing):∀{l:Line},Gk ts l->dQ (ts++xs) l=dQ ts l
 | .rule c t v,h=>by simp only [dQ,gM xs h.1,qu xs h.2.1]
 | .never c,h=>by simp only [dQ,gM (c:=c) xs h]
theorem oX (ts:List Thing):∀(f:Nat)(ws:List Bytes)(c:Cond)(r:List Bytes),Ks337.cond ts f ws=some (c,r) ->
  ws=Ks337.toldCond ts c++r/\jH ts c/\∀y,Ks337.cond ts f (Ks337.toldCond ts c++y)=some (c,y)
 | 0,_,_,_,h=>by simp [Ks337.cond] at h
 | f+1,[],_,_,h=>by simp [Ks337.cond] at h
 | f+1,w::r,c,q,h=>by
  rw [fB] at h
  by_cases h1:w=NOT
  ·rw [ab h1] at h;cases e:Ks337.cond ts f r with
   | none=>rw [e] at h;exact nomatch h
   | some x =>rw [e] at h;simp only [Option.some.injEq,Prod.mk.injEq] at h;obtain ⟨rfl,rfl⟩:=h;obtain ⟨a1,a2,a3⟩:=oX ts f r x.1 x.2 e;refine ⟨by simp only [Ks337.toldCond,bh];rw [<-a1,h1],a2,λy=>?_⟩;simp only [Ks337.toldCond,bh];rw [fB,ab rfl,a3 y]
  ·rw [aa h1] at h
   by_cases h2:w=AND\/w=OR
   ·rw [ab h2] at h;cases e:Ks337.cond ts f r with
    | none=>rw [e] at h;exact nomatch h
    | some x =>
     rw [e] at h;simp only [] at h;cases e2:Ks337.cond ts f x.2 with
     | none=>rw [e2] at h;exact nomatch h
     | some z =>
      rw [e2] at h;simp only [Option.some.injEq,Prod.mk.injEq] at h;obtain ⟨hc,rfl⟩:=h;obtain ⟨a1,a2,a3⟩:=oX ts f r x.1 x.2 e;obtain ⟨b1,b2,b3⟩:=oX ts f x.2 z.1 z.2 e2
      by_cases h3:w=AND
      ·rw [ab h3] at hc;subst hc;refine ⟨by simp only [Ks337.toldCond,bh,aT];rw [<-b1,<-a1,h3],⟨a2,b2⟩,λy=>?_⟩;simp only [Ks337.toldCond,bh,aT];rw [fB,aa (by decide),ab (Or.inl rfl),a3];simp only [b3 y,if_true]
      ·rw [aa h3] at hc;subst hc;have h4:w=OR:=by rcases h2 with h2 | h2;exact ai h2 h3;exact h2
       refine ⟨by simp only [Ks337.toldCond,bh,aT];rw [<-b1,<-a1,h4],⟨a2,b2⟩,λy=>?_⟩;simp only [Ks337.toldCond,bh,aT];rw [fB,aa (by decide),ab (Or.inr rfl),a3];have h5:OR≠AND:=by decide
       simp only [b3 y,h5,if_false]
   ·rw [aa h2] at h;cases e:Ks337.find ts w with
    | none=>rw [e] at h;exact nomatch h
    | some t =>
     rw [e] at h
     match r,h with
     | [],h=>exact nomatch h
     | [_],h=>exact nomatch h
     | o::d::rest,h =>
      simp only [] at h;cases e2:Ks337.digit d with
      | none=>rw [e2] at h;exact nomatch h
      | some v =>
       rw [e2] at h;simp only [] at h
       by_cases hm:Ks337.most ts t<v
       ·rw [ab hm] at h;exact nomatch h
       ·rw [aa hm] at h;cases e3:Ks337.compare o t v with
        | none=>rw [e3] at h;exact nomatch h
        | some c' =>
         rw [e3] at h;simp only [Option.some.injEq,Prod.mk.injEq] at h;obtain ⟨rfl,rfl⟩:=h;obtain ⟨d1,d2⟩:=iO e2;obtain ⟨th,t1,t2⟩:=find_some e;have t3:Ks337.nameOf ts t=w:=(yL t1).trans t2;have t4:=Mc e;have key:∀y,Ks337.cond ts (f+1) (w::o::[48+v]::y)=some (c',y):=λy=>by rw [fB,aa h1,aa h2,e];simp only [IV d2,aa hm,e3]
         unfold Ks337.compare at e3
         by_cases o1:o=EQ
         ·rw [ab o1] at e3;injection e3 with e3
          subst e3;subst o1;refine ⟨by simp [Ks337.toldCond,t3,d1],⟨t4,d2⟩,λy=>?_⟩;simp only [Ks337.toldCond,t3];exact key y
         ·rw [aa o1] at e3
          by_cases o2:o=Ks337.LT
          ·rw [ab o2] at e3;injection e3 with e3
           subst e3;subst o2;refine ⟨by simp [Ks337.toldCond,t3,d1],⟨t4,d2⟩,λy=>?_⟩;simp only [Ks337.toldCond,t3];exact key y
          ·rw [aa o2] at e3
           by_cases o3:o=GT
           ·rw [ab o3] at e3;injection e3 with e3
            subst e3;subst o3;refine ⟨by simp [Ks337.toldCond,t3,d1],⟨t4,d2⟩,λy=>?_⟩;simp only [Ks337.toldCond,t3];exact key y
           ·rw [aa o3] at e3;exact nomatch e3
theorem DB {ts:List Thing}{ws:List Bytes}{c:Cond}{r:List Bytes}(h:dz ts ws=some (c,r)):ws=Ks337.toldCond ts c++r/\jH ts c:=by obtain ⟨a,b,_⟩:=oX ts _ ws c r h;exact ⟨a,b⟩
theorem DC {ts:List Thing}{ws:List Bytes}{c:Cond}{r:List Bytes}(h:dz ts ws=some (c,r))(y:List Bytes):dz ts (Ks337.toldCond ts c++y)=some (c,y):=by
 obtain ⟨a,_,k⟩:=oX ts _ ws c r h;have e:=k y;have hz:(Ks337.toldCond ts c).length<=ws.length:=by rw [a,ay];omega
 by_cases hy:(Ks337.toldCond ts c++y).length<ws.length+1
 ·unfold dz;rw [oW ts (Ks337.toldCond ts c++y).length _ (ws.length+1) _ (ag _) (by omega) hy];exact e
 ·exact AE ts (ws.length+1) _ _ _ e ((Ks337.toldCond ts c++y).length+1) (by omega)
where
 AE (ts:List Thing):∀(f:Nat)(ws:List Bytes)(c:Cond)(r:List Bytes),Ks337.cond ts f ws=some (c,r)->∀g,f<=g->Ks337.cond ts g ws=some (c,r)
  | 0,_,_,_,h,_,_=>by simp [Ks337.cond] at h
  | f+1,[],_,_,h,_,_=>by simp [Ks337.cond] at h
  | f+1,w::r,c,q,h,0,hg=>by omega
  | f+1,w::r,c,q,h,g+1,hg=>by
   rw [fB] at h ⊢
   by_cases h1:w=NOT
   ·rw [ab h1] at h ⊢;cases e:Ks337.cond ts f r with
    | none=>rw [e] at h;exact nomatch h
    | some x =>rw [e] at h;rw [AE ts f r x.1 x.2 e g (by omega)];exact h
   ·rw [aa h1] at h ⊢
    by_cases h2:w=AND\/w=OR
    ·rw [ab h2] at h ⊢;cases e:Ks337.cond ts f r with
     | none=>rw [e] at h;exact nomatch h
     | some x =>
      rw [e] at h;rw [AE ts f r x.1 x.2 e g (by omega)];simp only [] at h ⊢;cases e2:Ks337.cond ts f x.2 with
      | none=>rw [e2] at h;exact nomatch h
      | some z =>rw [e2] at h;rw [AE ts f x.2 z.1 z.2 e2 g (by omega)];exact h
    ·rw [aa h2] at h ⊢;exact h
theorem oy {ts:List Thing}{ws:List Bytes}{c:Cond}(h:condOf ts ws=some c):dz ts ws=some (c,[])/\ws=Ks337.toldCond ts c/\jH ts c:=by
 unfold condOf at h;cases e:dz ts ws with
 | none=>rw [e] at h;exact nomatch h
 | some x =>
  rw [e] at h;simp only [] at h
  split at h
  ·rename_i hx;injection h with h
   subst h;obtain ⟨a,b⟩:=DB (show dz ts ws=some (x.1,x.2) from e);rw [hx,aX] at a;refine ⟨?_,a,b⟩;rw [<-hx]
  ·exact nomatch h
def hC (ts:List Thing)(r:List Bytes):Option Line:=match condOf ts (r.take (r.length - 4)) with
 | none=>none
 | some c=>match r.drop (r.length - 4) with
  | [a,n,e,d]=>if a=THEN then (match dR ts [n,e,d] with
    | some (.cmp o t v)=>if o=EQ/\(match ts[t]? with | some th=>th.out | none=>false)=true then some (.rule c t v) else none
    | _=>none) else none
  | _=>none
def lh (ts:List Thing)(r:List Bytes):Option Line:=match condOf ts r with
 | none=>none
 | some c=>some (.never c)
def entryOf (ts:List Thing):List Bytes->Option Line
 | []=>none
 | w::r=>if w=RULE then hC ts r else if w=NEVER then lh ts r else none
theorem Gm (ts:List Thing)(r:List Bytes):Ks337.line ts (RULE::r)=hC ts r:=by
 show (if RULE=RULE then (match dz ts r with
   | some x=>(match x.2 with
    | [a,n,e,d]=>if a=THEN/\e=EQ then (match Ks337.find ts n,Ks337.digit d with
      | some t,some v=>if (match ts[t]? with
        | some th=>th.out && decide (v<=th.most)
        | none=>false)=true then some (Line.rule x.1 t v) else none
      | _,_=>none) else none
    | _=>none)
   | none=>none) else (if RULE=NEVER then (match dz ts r with
   | some x=>if x.2=[] then some (Line.never x.1) else none
   | none=>none)
  else none))=_
 rw [ab rfl];unfold hC;cases hc:condOf ts (r.take (r.length - 4)) with
 | none =>
  simp only [];cases e:dz ts r with
  | none=>rfl
  | some x =>
   simp only []
   split
   ·rename_i a n e' d hx;exfalso;obtain ⟨h1,_⟩:=DB (show dz ts r=some (x.1,x.2) from e);have h2:=DC (show dz ts r=some (x.1,x.2) from e) [];rw [aX] at h2;have h3:r.take (r.length - 4)=Ks337.toldCond ts x.1:=by
     have hl:r.length=(Ks337.toldCond ts x.1).length+4:=by
      have:=congrArg List.length h1
      rw [ay,hx] at this;simpa using this
     rw [show r.length - 4=(Ks337.toldCond ts x.1).length by omega,h1,List.take_left]
    rw [h3] at hc;unfold condOf at hc;rw [h2] at hc;simp at hc
   ·rfl
 | some c =>
  simp only [];obtain ⟨h1,h2,_⟩:=oy hc;have h3:=DC h1 (r.drop (r.length - 4));rw [<-h2,List.take_append_drop] at h3;rw [h3];simp only []
  split
  ·rename_i a n e' d hx
   by_cases ha:a=THEN
   ·by_cases he:e'=EQ
    ·rw [ab ⟨ha,he⟩,ab ha];simp only [dR];rw [ab (Or.inl he)];cases ef:Ks337.find ts n with
     | none=>rfl
     | some t =>
      simp only [];cases ed:Ks337.digit d with
      | none=>rfl
      | some v =>
       simp only [];obtain ⟨th,t1,_⟩:=find_some ef;rw [ka t1]
       by_cases hv:v<=th.most
       ·rw [ab hv];simp only [t1,he,hv,decide_true,Bool.and_true,true_and]
       ·rw [aa hv];simp only [t1,hv,decide_false,Bool.and_false];simp
    ·rw [aa (λz=>he z.2),ab ha];cases ec:dR ts [n,e',d] with
     | none=>rfl
     | some p =>
      obtain ⟨n',o',d',t,v,q1,rfl,_⟩:=j9 ec;injection q1 with _ q1
      injection q1 with q1 _
      simp only [];rw [aa (λz=>he (q1.trans z.1))]
   ·rw [aa (λz=>ha z.1),aa ha]
  ·rfl
theorem IW (ts:List Thing)(r:List Bytes):Ks337.line ts (NEVER::r)=lh ts r:=by
 have e:Ks337.line ts (NEVER::r)=(match dz ts r with
   | some x=>if x.2=[] then some (Line.never x.1) else none
   | none=>none):=by
  unfold Ks337.line;have h1:NEVER≠RULE:=by decide
  simp only [h1,if_false,if_true];rfl
 rw [e];unfold lh condOf;cases dz ts r with
 | none=>rfl
 | some x =>
  simp only []
  split <;> rfl
theorem mq (ts:List Thing)(ws:List Bytes):Ks337.line ts ws=entryOf ts ws:=by
 match ws with
 | []=>rfl
 | w::r =>
  simp only [entryOf]
  by_cases h1:w=RULE
  ·rw [ab h1,h1];exact Gm ts r
  ·rw [aa h1]
   by_cases h2:w=NEVER
   ·rw [ab h2,h2];exact IW ts r
   ·rw [aa h2];unfold Ks337.line;simp only [aa h1,aa h2]
theorem yM {ts:List Thing}{ws:List Bytes}{l:Line}(h:Ks337.line ts ws=some l):ws=dQ ts l/\Gk ts l:=by
 rw [mq] at h
 match ws,h with
 | w::r,h =>
  simp only [entryOf] at h
  by_cases h1:w=RULE
  ·rw [ab h1] at h;unfold hC at h;cases hc:condOf ts (r.take (r.length - 4)) with
   | none=>rw [hc] at h;exact nomatch h
   | some c =>
    rw [hc] at h;simp only [] at h;obtain ⟨_,h2,h3⟩:=oy hc
    split at h
    ·rename_i a n e d hx
     split at h
     ·rename_i ha;cases ec:dR ts [n,e,d] with
      | none=>rw [ec] at h;exact nomatch h
      | some p =>
       rw [ec] at h;obtain ⟨n',o',d',t,v,q1,rfl,qo,qf,qd,qm⟩:=j9 ec;simp only [] at h
       by_cases hh:o'=EQ/\(match ts[t]? with | some th=>th.out | none=>false)=true
       ·rw [ab hh] at h;injection h with h
        subst h;simp only [List.cons.injEq,and_true] at q1;obtain ⟨rfl,rfl,rfl⟩:=q1;obtain ⟨d1,d2⟩:=iO qd;obtain ⟨th,t1,t2⟩:=find_some qf;refine ⟨?_,h3,Mc qf,qm,d2⟩;unfold dQ;simp only [];rw [yL t1,t2,<-h2,<-d1,<-hh.1,<-ha,<-hx,List.take_append_drop,h1]
       ·rw [aa hh] at h;exact nomatch h
     ·exact nomatch h
    ·exact nomatch h
  ·rw [aa h1] at h
   by_cases h2:w=NEVER
   ·rw [ab h2] at h;unfold lh at h;cases hc:condOf ts r with
    | none=>rw [hc] at h;exact nomatch h
    | some c =>
     rw [hc] at h;injection h with h
     subst h;obtain ⟨_,h3,h4⟩:=oy hc;refine ⟨?_,h4⟩;simp only [dQ];rw [<-h3,h2]
   ·rw [aa h2] at h;exact nomatch h
def yN (st:List Bytes×Bytes)(c:Nat):List Bytes×Bytes :=if c=32 then (if st.2=[] then st else (st.1++[st.2],[])) else (st.1,st.2++[c])
def PV (st:List Bytes×Bytes):List Bytes:=if st.2=[] then st.1 else st.1++[st.2]
theorem dropWhile_len {α:Type}(p:α->Bool):∀l:List α,(l.dropWhile p).length<=l.length
 | []=>ag _
 | x::r=>by
  rw [List.dropWhile_cons]
  split
  ·have:=dropWhile_len p r;simp;omega
  ·exact ag _
theorem wy:∀(k n m:Nat)(l:Bytes),l.length<=k->l.length<n->l.length<m->Ks337.words n l=Ks337.words m l
 | _,0,_,_,_,h,_=>by omega
 | _,_+1,0,_,_,_,h=>by omega
 | k,n+1,m+1,l,h0,h1,h2=>by
  unfold Ks337.words;simp only [];cases e:l.dropWhile (λb=>b == 32) with
  | nil=>simp
  | cons x r =>
   have hx:(x::r).length<=l.length:=by rw [<-e];exact dropWhile_len _ l
   have hd:((x::r).dropWhile (λb=>b != 32)).length<(x::r).length:=by
    rw [List.dropWhile_cons];have aag:(x != 32)=true:=by
     have:=List.head?_dropWhile_not (λb=>b == 32) l
     rw [e] at this;simpa using this
    rw [ab aag]
    have:=dropWhile_len (λb:Nat=>b != 32) r
    simp;omega
   simp only [reduceCtorEq,if_false]
   congr 1
   cases k with
   | zero=>simp at hx;omega
   | succ k=>exact wy k n m _ (by omega) (by omega) (by omega)
theorem kP:Ks337.wordsOf []=[]:=rfl
theorem gj (l:Bytes):Ks337.wordsOf (32::l)=Ks337.wordsOf l:=by
 unfold Ks337.wordsOf;have e:Ks337.words ((32::l).length+1) (32::l)=Ks337.words ((32::l).length+1) l:=by rw [Ks337.words,Ks337.words];simp
 rw [e];exact wy l.length _ _ l (ag _) (by simp;omega) (by omega)
theorem jI {c:Nat}(h:c≠32)(l:Bytes):Ks337.wordsOf (c::l)=(c::l.takeWhile (λb=>b != 32))::Ks337.wordsOf (l.dropWhile (λb=>b != 32)):=by
 show Ks337.words ((c::l).length+1) (c::l)=_;rw [Ks337.words];have e1:(c::l).dropWhile (λb=>b == 32)=c::l:=by rw [List.dropWhile_cons,aa (by simpa using h)]
 simp only [e1,reduceCtorEq,if_false];have h2:(c != 32)=true:=by simpa using h
 rw [List.takeWhile_cons,ab h2,List.dropWhile_cons,ab h2]
 congr 1
 have:=dropWhile_len (λb:Nat=>b != 32) l
 exact wy l.length _ _ _ this (by simp;omega) (by omega)
theorem HR:∀(l:Bytes)(ws:List Bytes)(u:Bytes),PV (l.foldl yN (ws,u))=ws++(if u=[] then Ks337.wordsOf l else (u++l.takeWhile (λb=>b != 32))::Ks337.wordsOf (l.dropWhile (λb=>b != 32)))
 | [],ws,u=>by
  show PV (ws,u)=_;unfold PV
  by_cases hu:u=[]
  ·simp [hu,kP]
  ·simp [hu,kP]
 | c::l,ws,u=>by
  rw [List.foldl_cons]
  by_cases hc:c=32
  ·subst hc
   by_cases hu:u=[]
   ·have:yN (ws,u) 32=(ws,u):=by simp [yN,hu]
    rw [this,HR l ws u,ab hu,ab hu,gj]
   ·have:yN (ws,u) 32=(ws++[u],[]):=by simp [yN,hu]
    rw [this,HR l (ws++[u]) [],ab rfl,aa hu];have e1:(32::l:Bytes).takeWhile (λb=>b != 32)=[]:=by rw [List.takeWhile_cons];rfl
    have e2:(32::l:Bytes).dropWhile (λb=>b != 32)=32::l:=by rw [List.dropWhile_cons];rfl
    rw [e1,e2,gj];simp
  ·have:yN (ws,u) c=(ws,u++[c]):=by simp [yN,hc]
   rw [this,HR l ws (u++[c]),aa (by simp)];have h2:(c != 32)=true:=by simpa using hc
   by_cases hu:u=[]
   ·rw [ab hu,jI hc,hu];simp
   ·rw [aa hu,List.takeWhile_cons,ab h2,List.dropWhile_cons,ab h2];simp
theorem PX (l:Bytes):PV (l.foldl yN ([],[]))=Ks337.wordsOf l:=by rw [HR l [] [],ab rfl,List.nil_append]
def signs:List Nat:=[32,97,98,99,100,101,102,103,104,105,106,107,108,109,110,111,112,113,114,115,116,117,118,119,120,121,122,48,49,50,51,52,53,54,55,56,57,61,60,62,45]
def sg (b:Nat):Nat:=if b∈signs then b else 63
def dE (w:Bytes):Bytes:=w.map sg
def Plain (w:Bytes):Prop:=∀b∈w,b∈signs
theorem AF {b:Nat}(h:b∈signs):sg b=b:=ab h
theorem DD {b:Nat}(h:¬b∈signs):sg b=63:=aa h
theorem X5:¬63∈signs:=by decide
theorem Ts {b c:Nat}(h:c∈signs):sg b=c↔b=c:=by
 by_cases hb:b∈signs
 ·rw [AF hb]
 ·rw [DD hb];constructor
  ·intro e;rw [<-e] at h;exact ai h X5
  ·intro e;rw [e] at hb;exact ai h hb
theorem Wk {w:Bytes}(h:Plain w):dE w=w:=by
 unfold dE
 conv=>rhs;rw [<-List.map_id w]
 exact List.map_congr_left λb hb=>AF (h b hb)
theorem eC:∀{w v:Bytes},Plain v->(dE w=v↔w=v)
 | [],[],_=>by simp [dE]
 | [],_::_,_=>by simp [dE]
 | _::_,[],_=>by simp [dE]
 | a::w,b::v,h=>by have ih:=eC (w:=w) (v:=v) λc hc=>h c (aA _ hc);have hb:=h b (aE ..);simp only [dE,aw,List.cons.injEq] at ih ⊢;rw [Ts hb,ih]
theorem Fc {b:Nat}:sg b=32↔b=32:=Ts (by decide)
theorem fR {w:Bytes}(h:w.all (λb=>decide (b∈signs))=true):Plain w:=λb hb=>by
 have:=br.mp h b hb
 simpa using this
theorem IX (l:Bytes):(dE l).takeWhile (λb=>b != 32)=dE (l.takeWhile (λb=>b != 32)):=by
 induction l with
 | nil=>rfl
 | cons a l ih =>
  simp only [dE,aw,List.takeWhile_cons] at ih ⊢
  by_cases h:a=32
  ·simp [h,Fc.mpr]
  ·have h2:sg a≠32:=λe=>h (Fc.mp e);simp [h,h2,ih]
theorem IY (l:Bytes):(dE l).dropWhile (λb=>b != 32)=dE (l.dropWhile (λb=>b != 32)):=by
 induction l with
 | nil=>rfl
 | cons a l ih =>
  simp only [dE,aw,List.dropWhile_cons] at ih ⊢
  by_cases h:a=32
  ·simp [h,Fc.mpr]
  ·have h2:sg a≠32:=λe=>h (Fc.mp e);simp [h,h2,ih]
theorem wA:∀(n:Nat)(l:Bytes),l.length<=n->Ks337.wordsOf (dE l)=(Ks337.wordsOf l).map dE
 | _,[],_=>rfl
 | 0,_::_,h=>by simp at h
 | n+1,a::l,h=>by
  by_cases ha:a=32
  ·have e:dE (a::l)=32::dE l:=by simp only [dE,aw];rw [Fc.mpr ha]
   rw [e,ha,gj,gj];exact wA n l (by simp at h;omega)
  ·have e:dE (a::l)=sg a::dE l:=rfl
   have:=dropWhile_len (λb:Nat=>b != 32) l
   rw [e,jI (λz=>ha (Fc.mp z)),jI ha,IX,IY,wA n _ (by simp at h;omega)];rfl
def rb (ts:List Thing):Prop:=∀(t:Nat)(th:Thing),ts[t]?=some th->Plain th.name
theorem xU {α:Type}{p q:α->Bool}:∀{l:List α},(∀x∈l,p x=q x)->l.findIdx p=l.findIdx q
 | [],_=>rfl
 | x::r,h=>by rw [List.findIdx_cons,List.findIdx_cons,h x (aE ..),xU (l:=r) λy hy=>h y (aA _ hy)]
theorem Fe {ts:List Thing}(h:rb ts)(w:Bytes):Ks337.find ts (dE w)=Ks337.find ts w:=by
 unfold Ks337.find;have e:(ts.findIdx λt=>t.name == dE w)=ts.findIdx λt=>t.name == w:=xU λx hx=>by
  obtain ⟨t,ht⟩:=List.getElem?_of_mem hx;have hp:=h t x ht
  by_cases q:w=x.name
  ·rw [(eC hp).mpr q,q]
  ·have q2:dE w≠x.name:=λz=>q ((eC hp).mp z);have a1:(x.name == dE w)=false:=by simpa using λz=>q2 z.symm
   have a2:(x.name == w)=false:=by simpa using λz=>q z.symm
   rw [a1,a2]
 simp only [e]
theorem Cb (d:Bytes):Ks337.digit (dE d)=Ks337.digit d:=by
 match d with
 | []=>rfl
 | _::_::_=>rfl
 | [b] =>
  show Ks337.digit [sg b]=_
  by_cases hb:b∈signs
  ·rw [AF hb]
  ·rw [DD hb]
   have:¬(48<=b/\b<=51):=λz=>hb (by
    have:b=48\/b=49\/b=50\/b=51:=by omega
    rcases this with rfl | rfl | rfl | rfl <;> decide)
   simp only [Ks337.digit,aa this];rfl
theorem Wl:Plain NOT:=fR (by decide)
theorem Wm:Plain AND:=fR (by decide)
theorem YL:Plain OR:=fR (by decide)
theorem Wn:Plain EQ:=fR (by decide)
theorem YM:Plain Ks337.LT:=fR (by decide)
theorem YN:Plain GT:=fR (by decide)
theorem X6:Plain THEN:=fR (by decide)
theorem Tu:Plain RULE:=fR (by decide)
theorem PY:Plain NEVER:=fR (by decide)
theorem YO:Plain IN:=fR (by decide)
theorem ND:Plain OUT:=fR (by decide)
theorem NF (o:Bytes)(t v:Nat):Ks337.compare (dE o) t v=Ks337.compare o t v:=by unfold Ks337.compare;simp only [eC Wn,eC YM,eC YN]
theorem AG {ts:List Thing}(h:rb ts):∀(f:Nat)(ws:List Bytes),Ks337.cond ts f (ws.map dE)=(Ks337.cond ts f ws).map λx=>(x.1,x.2.map dE)
 | 0,_=>rfl
 | f+1,[]=>rfl
 | f+1,w::r=>by
  rw [aw,fB,fB];simp only [eC Wl,eC Wm,eC YL,Fe h]
  by_cases h1:w=NOT
  ·rw [ab h1,ab h1,AG h f r];cases Ks337.cond ts f r <;> rfl
  ·rw [aa h1,aa h1]
   by_cases h2:w=AND\/w=OR
   ·rw [ab h2,ab h2,AG h f r];cases Ks337.cond ts f r with
    | none=>rfl
    | some x =>simp only [Option.map_some];rw [AG h f x.2];cases Ks337.cond ts f x.2 <;> rfl
   ·rw [aa h2,aa h2];cases Ks337.find ts w with
    | none=>rfl
    | some t =>
     match r with
     | []=>rfl
     | [_]=>rfl
     | o::d::rest =>
      simp only [aw,Cb,NF];cases Ks337.digit d with
      | none=>rfl
      | some v =>
       simp only []
       by_cases hm:Ks337.most ts t<v
       ·rw [ab hm,ab hm];rfl
       ·rw [aa hm,aa hm];cases Ks337.compare o t v <;> rfl
theorem RR {ts:List Thing}(h:rb ts)(ws:List Bytes):dz ts (ws.map dE)=(dz ts ws).map λx=>(x.1,x.2.map dE):=by unfold dz;rw [af];exact AG h _ ws
theorem K6 {α β:Type}{f:α->β}{l:List α}:l.map f=[]↔l=[]:=List.map_eq_nil_iff
theorem yO {ts:List Thing}(h:rb ts)(ws:List Bytes):condOf ts (ws.map dE)=condOf ts ws:=by
 unfold condOf;rw [RR h];cases dz ts ws with
 | none=>rfl
 | some x=>simp only [Option.map_some,K6]
theorem Mf {ts:List Thing}(h:rb ts)(ws:List Bytes):Ks337.line ts (ws.map dE)=Ks337.line ts ws:=by
 rw [mq,mq]
 match ws with
 | []=>rfl
 | w::r =>
  simp only [aw,entryOf,eC Tu,eC PY]
  by_cases h1:w=RULE
  ·rw [ab h1,ab h1];unfold hC;rw [af,<-List.map_take,<-List.map_drop,yO h];cases condOf ts (r.take (r.length - 4)) with
   | none=>rfl
   | some c =>
    simp only []
    match r.drop (r.length - 4) with
    | []=>rfl
    | [_]=>rfl
    | [_,_]=>rfl
    | [_,_,_]=>rfl
    | _::_::_::_::_::_=>rfl
    | [a,n,e,d] =>
     simp only [aw,List.map_nil,eC X6,dR,eC Wn,eC YM,eC YN,Fe h,Cb]
     by_cases ha:a=THEN
     ·rw [ab ha,ab ha]
      by_cases he:e=EQ\/e=mZ\/e=GT
      ·rw [ab he,ab he];cases Ks337.find ts n with
       | none=>rfl
       | some t =>
        simp only [];cases Ks337.digit d with
        | none=>rfl
        | some v =>
         simp only []
         by_cases hv:v<=Ks337.most ts t
         ·simp only [ab hv,eC Wn]
         ·simp only [aa hv]
      ·rw [aa he,aa he]
     ·rw [aa ha,aa ha]
  ·rw [aa h1,aa h1]
   by_cases h2:w=NEVER
   ·rw [ab h2,ab h2];unfold lh;rw [yO h]
   ·rw [aa h2,aa h2]
theorem Br {b:Nat}(h1:97<=b)(h2:b<=122):b∈signs :=(by decide:∀b<123,97<=b->b∈signs) b (Nat.lt_succ_of_le h2) h1
theorem yP {w:Bytes}(h:Ks337.isName w=true):Plain w:=λb hb=>by unfold Ks337.isName at h;simp only [bc,br,decide_eq_true_eq] at h;obtain ⟨⟨_,h⟩,_⟩:=h;obtain ⟨h1,h2⟩:=h b hb;exact Br h1 h2
theorem PZ (w:Bytes):Ks337.isName (dE w)=Ks337.isName w:=by
 unfold Ks337.isName;have e1:(dE w).length=w.length:=af ..;have e2:(dE w).all (λb=>decide (97<=b) && decide (b<=122))=w.all (λb=>decide (97<=b) && decide (b<=122)):=by
  unfold dE;rw [List.all_map]
  congr 1
  funext b
  simp only [Function.comp]
  by_cases hb:b∈signs
  ·rw [AF hb]
  ·rw [DD hb]
   by_cases z:97<=b/\b<=122
   ·exact ai (Br z.1 z.2) hb
   ·have:(decide (97<=b) && decide (b<=122))=false:=by simp;omega
    rw [this];decide
 have e3:Ks337.keywords.contains (dE w)=Ks337.keywords.contains w:=by
  have hp:∀v∈Ks337.keywords,(dE w == v)=(w == v):=λv hv=>by
   have pv:Plain v:=by
    simp only [Ks337.keywords,ak,List.not_mem_nil,or_false] at hv;rcases hv with rfl | rfl | rfl | rfl | rfl | rfl | rfl
    ·exact YO
    ·exact ND
    ·exact Tu
    ·exact PY
    ·exact Wm
    ·exact YL
    ·exact Wl
   by_cases q:w=v
   ·rw [(eC pv).mpr q,q]
   ·have q2:dE w≠v:=λz=>q ((eC pv).mp z);rw [beq_eq_false_iff_ne.mpr q,beq_eq_false_iff_ne.mpr q2]
  rw [List.contains_eq_any_beq,List.contains_eq_any_beq,Bool.eq_iff_iff,List.any_eq_true,List.any_eq_true];constructor
  ·rintro ⟨v,hv,e⟩;exact ⟨v,hv,by rw [<-hp v hv];exact e⟩
  ·rintro ⟨v,hv,e⟩;exact ⟨v,hv,by rw [hp v hv];exact e⟩
 rw [e1,e2,e3]
theorem RS {ts:List Thing}(h:rb ts)(ws:List Bytes):Ks337.thing ts (ws.map dE)=Ks337.thing ts ws:=by
 match ws with
 | []=>rfl
 | [_]=>rfl
 | [_,_]=>rfl
 | _::_::_::_::_=>rfl
 | [w,n,d] =>
  simp only [aw,List.map_nil,Ks337.thing,eC YO,eC ND,PZ,Fe h,Cb]
  by_cases hc:(w=IN\/w=OUT)/\Ks337.isName n=true/\Ks337.find ts n=none
  ·rw [ab hc,ab hc,Wk (yP hc.2.1)]
   have:(dE w == OUT)=(w == OUT):=by
    by_cases q:w=OUT
    ·rw [(eC ND).mpr q,q]
    ·have q2:dE w≠OUT:=λz=>q ((eC ND).mp z);rw [beq_eq_false_iff_ne.mpr q,beq_eq_false_iff_ne.mpr q2]
   rw [this]
  ·rw [aa hc,aa hc]
theorem Gn:∀(k n m:Nat)(l:Bytes),l.length<=k->l.length<n->l.length<m->Ks337.rows n l=Ks337.rows m l
 | _,0,_,_,_,h,_=>by omega
 | _,_+1,0,_,_,_,h=>by omega
 | k,n+1,m+1,l,h0,h1,h2=>by
  unfold Ks337.rows;cases l with
  | nil=>simp
  | cons x r =>
   simp only [reduceCtorEq,if_false]
   congr 1
   have hd:(((x::r).dropWhile (λb=>b != 10)).drop 1).length<=r.length:=by
    have:=dropWhile_len (λb:Nat=>b != 10) (x::r)
    rw [bg];simp at this ⊢;omega
   simp only [au] at h0 h1 h2;cases k with
   | zero=>omega
   | succ k=>exact Gn k n m _ (by omega) (by omega) (by omega)
theorem NG:Ks337.rowsOf []=[]:=rfl
theorem vw:∀{line:Bytes}(r:Bytes),(∀b∈line,b≠10)->(line++10::r).takeWhile (λb=>b != 10)=line/\(line++10::r).dropWhile (λb=>b != 10)=10::r
 | [],r,_=>by
  constructor
  ·rw [List.nil_append,List.takeWhile_cons];rfl
  ·rw [List.nil_append,List.dropWhile_cons];rfl
 | a::l,r,h=>by
  have ha:(a != 10)=true:=by simpa using h a (aE ..)
  obtain ⟨i1,i2⟩:=vw (line:=l) r λb hb=>h b (aA _ hb);constructor
  ·rw [bh,List.takeWhile_cons,ab ha,i1]
  ·rw [bh,List.dropWhile_cons,ab ha,i2]
theorem K7 {line:Bytes}(r:Bytes)(h:∀b∈line,b≠10):Ks337.rowsOf (line++10::r)=line::Ks337.rowsOf r:=by
 show Ks337.rows ((line++10::r).length+1) (line++10::r)=_;obtain ⟨i1,i2⟩:=vw r h;rw [Ks337.rows,aa (by simp),i1,i2]
 congr 1
 exact Gn r.length _ _ _ (by simp) (by simp;omega) (by simp)
theorem vx:∀{line:Bytes},(∀b∈line,b≠10)->line.takeWhile (λb=>b != 10)=line/\line.dropWhile (λb=>b != 10)=[]
 | [],_=>⟨rfl,rfl⟩
 | a::l,h=>by
  have ha:(a != 10)=true:=by simpa using h a (aE ..)
  obtain ⟨i1,i2⟩:=vx (line:=l) λb hb=>h b (aA _ hb);constructor
  ·rw [List.takeWhile_cons,ab ha,i1]
  ·rw [List.dropWhile_cons,ab ha,i2]
theorem K8 {line:Bytes}(h:∀b∈line,b≠10)(hn:line≠[]):Ks337.rowsOf line=[line]:=by
 show Ks337.rows (line.length+1) line=_;obtain ⟨i1,i2⟩:=vx h;rw [Ks337.rows,aa hn,i1,i2]
 congr 1
 cases line with
 | nil=>exact ai rfl hn
 | cons a l =>
  show Ks337.rows (l.length+1) []=[]
  rfl
theorem oz (w:Bytes)(x:Bytes)(r:List Bytes):Ks337.joined (w::x::r)=w++32::Ks337.joined (x::r):=rfl
theorem DE (w:Bytes)(r:List Bytes):(Ks337.joined (w::r)).length<=w.length+1+(Ks337.joined r).length:=by
 cases r with
 | nil=>simp [Ks337.joined]
 | cons x r=>rw [oz];simp;omega
theorem iP:∀(n:Nat)(l:Bytes),l.length<=n->(Ks337.joined (Ks337.wordsOf l)).length<=l.length
 | _,[],_=>by simp [kP,Ks337.joined]
 | 0,_::_,h=>by simp at h
 | n+1,a::l,h=>by
  by_cases ha:a=32
  ·rw [ha,gj]
   have:=iP n l (by simp at h;omega)
   simp;omega
  ·rw [jI ha];have hd:=dropWhile_len (λb:Nat=>b != 32) l;have NH:(l.takeWhile (λb=>b != 32)).length+(l.dropWhile (λb=>b != 32)).length=l.length:=by
    rw [<-ay,List.takeWhile_append_dropWhile]
   cases e:l.dropWhile (λb=>b != 32) with
   | nil =>rw [e] at NH;simp only [kP,Ks337.joined,au];simp at NH;omega
   | cons b r =>
    have hb:b=32:=by
     have:=List.head?_dropWhile_not (λb:Nat=>b != 32) l
     rw [e] at this;simpa using this
    subst hb;rw [gj];rw [e] at NH hd;simp only [au] at NH hd h ⊢
    have:=iP n r (by omega)
    have h2:=DE (a::l.takeWhile (λb=>b != 32)) (Ks337.wordsOf r);simp only [au] at h2;omega
theorem Cc:∀(n:Nat)(l:Bytes),l.length<=n->∀w∈Ks337.wordsOf l,w≠[]
 | _,[],_,w,hw=>by simp [kP] at hw
 | 0,_::_,h,_,_=>by simp at h
 | n+1,a::l,h,w,hw=>by
  by_cases ha:a=32
  ·rw [ha,gj] at hw;exact Cc n l (by simp at h;omega) w hw
  ·rw [jI ha] at hw;rcases ak.mp hw with rfl | hw
   ·simp
   ·have hd:=dropWhile_len (λb:Nat=>b != 32) l;exact Cc n _ (by simp at h;omega) w hw
structure Ff (ts:List Thing):Prop where
 name:∀(t:Nat)(th:Thing),ts[t]?=some th->Ks337.isName th.name=true
 most:∀(t:Nat)(th:Thing),ts[t]?=some th->1<=th.most/\th.most<=3
def jJ (ts:List Thing)(l:Line):Prop:=Gk ts l/\(Ks337.toldLine ts l).length<=100
structure fC (h:House):Prop where
 ts:Ff h.things
 da:h.things.length<=6
 kC:h.lines.length<=16
 ok:∀l∈h.lines,jJ h.things l
theorem Ff.plain {ts:List Thing}(h:Ff ts):rb ts:=λt th e=>yP (h.name t th e)
theorem jJ.app {ts:List Thing}(xs:List Thing){l:Line}(h:jJ ts l):jJ (ts++xs) l :=⟨h.1.app xs,by rw [iq,xT xs h.1,<-iq];exact h.2⟩
theorem Fg {ts:List Thing}{row:Bytes}{l:Line}(hr:Ks337.okRow row=true)(h:Ks337.line ts (Ks337.wordsOf row)=some l):jJ ts l:=by
 obtain ⟨a,b⟩:=yM h;refine ⟨b,?_⟩;rw [iq,<-a]
 have:=iP row.length row (ag _)
 unfold Ks337.okRow at hr;simp only [bc,decide_eq_true_eq] at hr;have h2:row.length<=100:=hr.1;omega
theorem IZ {ts:List Thing}{ws:List Bytes}{x:Thing}(h:Ks337.thing ts ws=some x):∃w n d,ws=[w,n,d]/\(w=IN\/w=OUT)/\Ks337.isName n=true/\Ks337.find ts n=none/\1<=x.most/\x.most<=3/\d=[48+x.most]/\x.name=n/\x.out=(w == OUT):=by
 match ws,h with
 | [w,n,d],h =>
  simp only [Ks337.thing] at h
  by_cases hc:(w=IN\/w=OUT)/\Ks337.isName n=true/\Ks337.find ts n=none
  ·rw [ab hc] at h;cases e:Ks337.digit d with
   | none=>rw [e] at h;exact nomatch h
   | some v =>
    rw [e] at h;simp only [] at h
    by_cases hv:v=0
    ·rw [ab hv] at h;exact nomatch h
    ·rw [aa hv] at h;injection h with h
     subst h;obtain ⟨d1,d2⟩:=iO e;exact ⟨w,n,d,rfl,hc.1,hc.2.1,hc.2.2,by simp only [];omega,d2,d1,rfl,rfl⟩
  ·rw [aa hc] at h;exact nomatch h
theorem Ff.app {ts:List Thing}{x:Thing}(h:Ff ts)(h1:Ks337.isName x.name=true)(h2:1<=x.most)(h3:x.most<=3):Ff (ts++[x]):=by
 constructor
 ·intro t th e;rw [List.getElem?_append] at e
  split at e
  ·exact h.name t th e
  ·have:=aM e
   simp at this;rw [this];exact h1
 ·intro t th e;rw [List.getElem?_append] at e
  split at e
  ·exact h.most t th e
  ·have:=aM e
   simp at this;rw [this];exact ⟨h2,h3⟩
theorem Mg {h g:House}{row:Bytes}(w:fC h)(e:Ks337.step h row=some g):fC g:=by
 unfold Ks337.step at e
 by_cases hr:Ks337.okRow row=false
 ·rw [ab hr] at e;exact nomatch e
 ·rw [aa hr] at e;have hr':Ks337.okRow row=true:=by simpa using hr
  cases e1:Ks337.thing h.things (Ks337.wordsOf row) with
  | some x =>
   rw [e1] at e;simp only [] at e
   by_cases hl:Ks337.THINGS<=h.things.length
   ·rw [ab hl] at e;exact nomatch e
   ·rw [aa hl] at e;injection e with e
    subst e;obtain ⟨_,n,_,_,_,hn,_,m1,m2,_,rfl,_⟩:=IZ e1;refine ⟨w.ts.app hn m1 m2,?_,w.kC,λl hl=>(w.ok l hl).app [x]⟩
    have:Ks337.THINGS=6:=rfl
    simp;omega
  | none =>
   rw [e1] at e;simp only [] at e;cases e2:Ks337.line h.things (Ks337.wordsOf row) with
   | none=>rw [e2] at e;exact nomatch e
   | some x =>
    rw [e2] at e;simp only [] at e
    by_cases hl:Ks337.LINES<=h.lines.length
    ·rw [ab hl] at e;exact nomatch e
    ·rw [aa hl] at e;injection e with e
     subst e;refine ⟨w.ts,w.da,?_,λl hl=>?_⟩
     ·have:Ks337.LINES=16:=rfl
      simp;omega
     ·rcases aY.mp hl with hl | hl
      ·exact w.ok l hl
      ·rw [aK.mp hl];exact Fg hr' e2
theorem I0:∀{rows:List Bytes}{k:Nat}{h g:House},fC h->Ks337.build k h rows=.ok g->fC g
 | [],_,_,_,w,e=>by
  injection e with e
  rw [<-e];exact w
 | t::l,k,h,g,w,e=>by
  unfold Ks337.build at e;cases e1:Ks337.step h t with
  | none=>rw [e1] at e;exact nomatch e
  | some h' =>rw [e1] at e;exact I0 (rows:=l) (Mg w e1) e
theorem Ja:fC {}:=⟨⟨λt th e=>by simp at e,λt th e=>by simp at e⟩,by decide,by decide,λl hl=>by simp at hl⟩
theorem Mh {t:Bytes}{g:House}(e:Ks337.read t=.ok g):fC g:=I0 Ja e
end Hy
namespace Hy
open Ks337 (Bytes Cond Thing Line House)
open Ks338 (State)
open Ks339 (Event Spot)
def Ok:List Thing->State->Prop
 | [],[]=>True
 | t::ts,v::s=>v<=t.most/\Ok ts s
 | _,_=>False
theorem Ok.len:∀{ts:List Thing}{s:State},Ok ts s->s.length=ts.length
 | [],[],_=>rfl
 | _::_,_::_,h=>by simp [Ok.len h.2]
theorem Ok.at:∀{ts:List Thing}{s:State}{i v:Nat}{th:Thing},Ok ts s->ts[i]?=some th->s[i]?=some v->v<=th.most
 | [],[],_,_,_,_,h,_=>by simp at h
 | _::_,_::_,0,_,_,h,e1,e2=>by simp at e1 e2;subst e1;subst e2;exact h.1
 | _::ts,_::s,i+1,v,th,h,e1,e2=>Ok.at (ts:=ts) (s:=s) (i:=i) h.2 (by simpa using e1) (by simpa using e2)
theorem Ok.mk:∀{ts:List Thing}{s:State},s.length=ts.length->(∀(i v:Nat)(th:Thing),ts[i]?=some th->s[i]?=some v->v<=th.most)->Ok ts s
 | [],[],_,_=>trivial
 | [],_::_,h,_=>by simp at h
 | _::_,[],h,_=>by simp at h
 | t::ts,v::s,h,k=>⟨k 0 v t rfl rfl,Ok.mk (by simpa using h) λi v' th e1 e2=>k (i+1) v' th (by simpa using e1) (by simpa using e2)⟩
theorem Ok.set {ts:List Thing}{s:State}{t v:Nat}(h:Ok ts s)(hv:v<=Ks337.most ts t):Ok ts (s.set t v):=by
 refine Ok.mk (by rw [List.length_set];exact h.len) λi x th e1 e2=>?_;rw [List.getElem?_set] at e2
 split at e2
 ·rename_i hi;subst hi
  split at e2
  ·injection e2 with e2
   rw [<-e2,<-ka e1];exact hv
  ·exact nomatch e2
 ·exact h.at e1 e2
def lW:List Thing->List State
 | []=>[[]]
 | t::ts=>(List.range (t.most+1)).flatMap λv=>(lW ts).map (v::·)
theorem Ok.mem:∀{ts:List Thing}{s:State},Ok ts s->s∈lW ts
 | [],[],_=>by simp [lW]
 | t::ts,v::s,h=>by simp only [lW,bq,bj,aQ];exact ⟨v,by have:=h.1;omega,s,Ok.mem h.2,rfl⟩
def prod:List Thing->Nat
 | []=>1
 | t::ts=>(t.most+1)*prod ts
theorem Bs {α β:Type}(f:α->List β)(n:Nat):∀(l:List α),(∀x∈l,(f x).length=n)->(l.flatMap f).length=l.length*n
 | [],_=>by simp
 | x::r,h=>by rw [List.flatMap_cons,ay,h x (aE ..),Bs f n r λy hy=>h y (aA _ hy),au,Nat.add_mul];omega
theorem xV:∀ts:List Thing,(lW ts).length=prod ts
 | []=>rfl
 | t::ts=>by simp only [lW,prod];rw [Bs _ (prod ts) _ λv _=>by rw [af,xV ts],bo]
theorem DF:∀(ts:List Thing)(a:Nat),(ts.map λt=>t.most+1).foldl (·*·) a=a*prod ts
 | [],a=>by simp [prod]
 | t::ts,a=>by simp only [aw,List.foldl_cons,prod];rw [DF ts,Nat.mul_assoc]
theorem oA (h:House):Ks337.states h=prod h.things:=by unfold Ks337.states;rw [DF,Nat.one_mul]
theorem Cd {α:Type}[DecidableEq α]:∀{l m:List α},l.Nodup->(∀x∈l,x∈m)->l.length<=m.length
 | [],_,_,_=>aW _
 | x::r,m,hn,h=>by
  have hx:x∈m:=h x (aE ..);have S0:=List.nodup_cons.mp hn;have ih:=Cd (l:=r) (m:=m.erase x) S0.2 λy hy=>by have dP:y≠x:=λe=>S0.1 (e▸hy);exact (List.mem_erase_of_ne dP).mpr (h y (aA _ hy))
  rw [List.length_erase_of_mem hx] at ih
  have:=List.length_pos_of_mem hx
  simp;omega
theorem mr {ts:List Thing}{l:List State}(hs:prod ts<=64)(hn:l.Nodup)(ho:∀s∈l,Ok ts s):l.length<=64:=by
 have:=Cd hn λs hs=>(ho s hs).mem
 rw [xV] at this;omega
theorem rf {h:House}{s:State}{t i:Nat}(e:Ks338.decides h s t=some i):∃c v,h.lines[i]?=some (.rule c t v)/\Ks338.holds s c=true:=by
 unfold Ks338.decides at e;simp only [] at e
 split at e
 ·rename_i hl;injection e with e
  subst e
  have:=List.findIdx_getElem (w:=hl)
  cases el:h.lines[h.lines.findIdx (Ks338.sets s t)] with
  | never c=>rw [el] at this;simp [Ks338.sets] at this
  | rule c x v =>rw [el] at this;simp only [Ks338.sets,bc,beq_iff_eq] at this;obtain ⟨rfl,h2⟩:=this;exact ⟨c,v,by rw [aI hl,el],h2⟩
 ·exact nomatch e
theorem P0 {α:Type}{p:α->Bool}{l:List α}{i:Nat}{x:α}(h:∀j<i,∀y,l[j]?=some y->p y=false)(hi:l[i]?=some x)(hx:p x=true):l.findIdx p=i:=by
 have hl:i<l.length:=(aH.mp hi).1;have e0:l[i]=x:=(aH.mp hi).2;rw [List.findIdx_eq hl];refine ⟨by rw [e0];exact hx,λj hj=>?_⟩
 have:=h j hj l[j] (aI (by omega))
 simpa using this
theorem Jb {α:Type}{p:α->Bool}{l:List α}(h:∀(j:Nat) y,l[j]?=some y->p y=false):¬l.findIdx p<l.length:=by
 intro hl
 have:=List.findIdx_getElem (w:=hl)
 rw [h _ _ (aI hl)] at this;exact nomatch this
theorem NI {h:House}{s:State}{t i:Nat}{x:Line}(k:∀j<i,∀y,h.lines[j]?=some y->Ks338.sets s t y=false)(hi:h.lines[i]?=some x)(hx:Ks338.sets s t x=true):Ks338.decides h s t=some i:=by unfold Ks338.decides;simp only [P0 k hi hx];rw [ab (aH.mp hi).1]
theorem Jc {h:House}{s:State}{t:Nat}(k:∀(j:Nat) y,h.lines[j]?=some y->Ks338.sets s t y=false):Ks338.decides h s t=none:=by unfold Ks338.decides;simp only [];rw [aa (Jb k)]
theorem Jd {h:House}{s:State}{i:Nat}{x:Line}(k:∀j<i,∀y,h.lines[j]?=some y->Ks338.isNever s y=false)(hi:h.lines[i]?=some x)(hx:Ks338.isNever s x=true):Ks338.forbidden h s=some i:=by unfold Ks338.forbidden;simp only [P0 k hi hx];rw [ab (aH.mp hi).1]
theorem Fh {h:House}{s:State}(k:∀(j:Nat) y,h.lines[j]?=some y->Ks338.isNever s y=false):Ks338.forbidden h s=none:=by unfold Ks338.forbidden;simp only [];rw [aa (Jb k)]
theorem Je (h:House)(s:State):(Ks338.pass h s).length=s.length:=by unfold Ks338.pass;rw [af,List.length_zipIdx]
def yQ (h:House)(s:State)(t v:Nat):Nat:=match Ks338.decides h s t with
 | some i=>Ks338.valueOf h i
 | none=>v
theorem Mi (h:House)(s:State)(i:Nat):(Ks338.pass h s)[i]?=s[i]?.map (yQ h s i):=by
 unfold Ks338.pass;rw [aS,List.getElem?_zipIdx];cases s[i]? with
 | none=>rfl
 | some v =>simp only [Option.map_some,Nat.zero_add];rfl
def eJ (h:House):Prop:=∀l∈h.lines,Gk h.things l
theorem fC.lines {h:House}(w:fC h):eJ h:=λl hl=>(w.ok l hl).1
theorem Ok.pass {h:House}{s:State}(w:eJ h)(o:Ok h.things s):Ok h.things (Ks338.pass h s):=by
 refine Ok.mk (by rw [Je];exact o.len) λi v th e1 e2=>?_;rw [Mi] at e2;cases es:s[i]? with
 | none=>rw [es] at e2;exact nomatch e2
 | some x =>
  rw [es] at e2;simp only [Option.map_some,Option.some.injEq] at e2;subst e2;unfold yQ;cases ed:Ks338.decides h s i with
  | none=>exact o.at e1 es
  | some k =>
   obtain ⟨c,v,hk,_⟩:=rf ed;have hw:=w _ (aM hk);simp only [Ks338.valueOf,hk,Ks338.setTo]
   have:=hw.2.2.1
   rw [ka e1] at this;exact this
def it (h:House):Nat->State->State
 | 0,s=>s
 | n+1,s=>Ks338.pass h (it h n s)
theorem je (h:House):∀(n:Nat)(s:State),it h n (Ks338.pass h s)=it h (n+1) s
 | 0,_=>rfl
 | n+1,s=>by show Ks338.pass h (it h n (Ks338.pass h s))=Ks338.pass h (it h (n+1) s);rw [je h n s]
theorem Ok.it {h:House}{s:State}(w:eJ h)(o:Ok h.things s):∀n,Ok h.things (it h n s)
 | 0=>o
 | n+1=>(Ok.it w o n).pass w
theorem yR (h:House):∀(k f n:Nat)(s:State),k<f->(∀j<k,Ks338.pass h (it h j s)≠it h j s)->Ks338.pass h (it h k s)=it h k s->Ks338.passes h f n s=some (n+k,it h k s)
 | _,0,_,_,h1,_,_=>by omega
 | 0,f+1,n,s,_,_,h3=>by rw [Ks338.passes,ab (show Ks338.pass h s=s from h3)];rfl
 | k+1,f+1,n,s,h1,h2,h3=>by
  rw [Ks338.passes,aa (show ¬Ks338.pass h s=s from h2 0 (by omega)),yR h k f (n+1) (Ks338.pass h s) (by omega) (λj hj=>by rw [je];exact h2 (j+1) (by omega)) (by rw [je];exact h3),je]
  congr 2
  omega
theorem yS (h:House):∀(f n:Nat)(s:State),(∀j,Ks338.pass h (it h j s)≠it h j s)->Ks338.passes h f n s=none
 | 0,_,_,_=>rfl
 | f+1,n,s,k=>by rw [Ks338.passes,aa (show ¬Ks338.pass h s=s from k 0),yS h f (n+1) _ λj=>by rw [je];exact k (j+1)]
theorem uA (h:House):∀(f n:Nat)(s:State)(m:Nat)(s':State),Ks338.passes h f n s=some (m,s')->∃k,k<f/\m=n+k/\s'=it h k s/\Ks338.pass h s'=s'/\∀j<k,Ks338.pass h (it h j s)≠it h j s
 | 0,_,_,_,_,e=>by simp [Ks338.passes] at e
 | f+1,n,s,m,s',e=>by
  rw [Ks338.passes] at e
  by_cases hp:Ks338.pass h s=s
  ·rw [ab hp] at e;simp only [Option.some.injEq,Prod.mk.injEq] at e;obtain ⟨rfl,rfl⟩:=e;exact ⟨0,by omega,rfl,rfl,hp,λj hj=>by omega⟩
  ·rw [aa hp] at e;obtain ⟨k,h1,h2,h3,h4,h5⟩:=uA h f (n+1) _ m s' e;refine ⟨k+1,by omega,by omega,by rw [h3,je],h4,λj hj=>?_⟩;cases j with
   | zero=>exact hp
   | succ j =>
    have:=h5 j (by omega)
    rw [je] at this;exact this
theorem yT {h:House}{s:State}{k:Nat}(hk:k<65)(h1:∀j<k,Ks338.pass h (it h j s)≠it h j s)(h2:Ks338.pass h (it h k s)=it h k s):Ks338.settle h s=some (k,it h k s):=by
 have:=yR h k 65 0 s hk h1 h2
 rw [Nat.zero_add] at this;exact this
theorem DG {h:House}{s:State}(hp:Ks338.pass h s=s):Ks338.settle h s=some (0,s):=yT (k:=0) (by omega) (λj hj=>by omega) hp
def bZ (h:House)(k:Nat)(s:State):List State:=(List.range k).map λj=>it h j s
theorem wB (h:House)(k:Nat)(s:State):bZ h (k+1) s=bZ h k s++[it h k s]:=by unfold bZ;rw [List.range_succ,aB];rfl
theorem kb (h:House)(k:Nat)(s:State):(bZ h k s).length=k:=by unfold bZ;rw [af,bo]
theorem AH {h:House}{k:Nat}{s x:State}:x∈bZ h k s↔∃j,j<k/\it h j s=x:=by unfold bZ;simp only [aQ,bj]
theorem xW (h:House):∀(k f:Nat)(s:State),k<f->(∀j<k,Ks338.pass h (it h j s)≠it h j s)->Ks338.pass h (it h k s)=it h k s->Ks339.through h f s=bZ h (k+1) s
 | _,0,_,h1,_,_=>by omega
 | 0,f+1,s,_,_,h3=>by rw [Ks339.through,ab (show Ks338.pass h s=s from h3)];rfl
 | k+1,f+1,s,h1,h2,h3=>by
  rw [Ks339.through,aa (show ¬Ks338.pass h s=s from h2 0 (by omega)),xW h k f (Ks338.pass h s) (by omega) (λj hj=>by rw [je];exact h2 (j+1) (by omega)) (by rw [je];exact h3)];unfold bZ;rw [List.range_succ_eq_map (n:=k+1),aw,bf]
  congr 1
  apply List.map_congr_left;intro j _;show it h j (Ks338.pass h s)=it h (j+1) s;rw [je]
def eK (h:House)(s:State):Option (List State):=match Ks338.settle h s with
 | none=>none
 | some x=>some (bZ h (x.1+1) s)
theorem K9 {h:House}{s:State}{k:Nat}(w:eJ h)(hs:prod h.things<=64)(o:Ok h.things s)(hn:(bZ h (k+1) s).Nodup)(h1:∀j<k,Ks338.pass h (it h j s)≠it h j s)(h2:Ks338.pass h (it h k s)=it h k s) :
  Ks338.settle h s=some (k,it h k s)/\eK h s=some (bZ h (k+1) s):=by
 have hl:(bZ h (k+1) s).length<=64:=mr hs hn λx hx=>by obtain ⟨j,_,rfl⟩:=AH.mp hx;exact o.it w j
 rw [kb] at hl;have e:=yT (by omega) h1 h2;exact ⟨e,by unfold eK;rw [e]⟩
theorem NJ {h:House}{s:State}{k:Nat}(h0:it h k s∈bZ h k s)(h1:∀j<k,Ks338.pass h (it h j s)≠it h j s):Ks338.settle h s=none/\eK h s=none:=by
 obtain ⟨i,hi,ei⟩:=AH.mp h0;have all:∀n,∃j,j<k/\it h n s=it h j s:=by
  intro n
  induction n with
  | zero=>exact ⟨0,by omega,rfl⟩
  | succ n ih =>
   obtain ⟨j,hj,e⟩:=ih
   by_cases Wo:j+1<k
   ·exact ⟨j+1,Wo,by show Ks338.pass h (it h n s)=Ks338.pass h (it h j s);rw [e]⟩
   ·have:j+1=k:=by omega
    refine ⟨i,hi,?_⟩;show Ks338.pass h (it h n s)=_;rw [e,ei,<-this];rfl
 have e:Ks338.settle h s=none:=yS h 65 0 s λn=>by obtain ⟨j,hj,e⟩:=all n;rw [e];exact h1 j hj
 exact ⟨e,by unfold eK;rw [e]⟩
theorem UK {h:House}{s:State}{k:Nat}(w:eJ h)(hs:prod h.things<=64)(o:Ok h.things s)(hn:(bZ h k s).Nodup):k<=64:=by
 have hl:(bZ h k s).length<=64:=mr hs hn λx hx=>by obtain ⟨j,_,rfl⟩:=AH.mp hx;exact o.it w j
 rw [kb] at hl;exact hl
theorem lX {h:House}{s:State}{n:Nat}{s':State}(e:Ks338.settle h s=some (n,s')):n<65/\s'=it h n s/\Ks338.pass h s'=s':=by
 obtain ⟨k,h1,h2,h3,h4,_⟩:=uA h _ 0 s n s' e
 have:k=n:=by omega
 subst this;exact ⟨h1,h3,h4⟩
def eT:Nat->List Thing->List Event
 | _,[]=>[]
 | k,t::ts=>((List.range (t.most+1)).map λv=>(k,v))++eT (k+1) ts
def dh (ts:List Thing):List Event:=eT 0 ts
theorem Bt:∀(ts:List Thing)(k:Nat),eT k ts=(ts.zipIdx k).flatMap λx=>(List.range (x.1.most+1)).map λv=>(x.2,v)
 | [],_=>rfl
 | t::ts,k=>by rw [eT,Bt ts (k+1),List.zipIdx_cons,List.flatMap_cons]
theorem lj (h:House)(s:State):Ks339.events h s=(dh h.things).filter λe=>e.2 != Ks338.value s e.1:=by
 unfold Ks339.events dh;rw [Bt,List.filter_flatMap]
 congr 1
 funext x
 rw [List.filter_map];rfl
theorem Bu:∀{ts:List Thing}{k:Nat}{e:Event},e∈eT k ts->k<=e.1/\∃th,ts[e.1 - k]?=some th/\e.2<=th.most
 | [],_,_,h=>by simp [eT] at h
 | t::ts,k,e,h=>by
  rw [eT] at h;rcases aY.mp h with h | h
  ·obtain ⟨v,hv,rfl⟩:=aQ.mp h;refine ⟨ag _,t,by simp,?_⟩
   have:=bj.mp hv
   omega
  ·obtain ⟨h1,th,h2,h3⟩:=Bu h;refine ⟨by omega,th,?_,h3⟩;rw [show e.1 - k=(e.1 - (k+1))+1 by omega];simpa using h2
theorem DH:∀{ts:List Thing}{k i v:Nat}{th:Thing},ts[i]?=some th->v<=th.most->(k+i,v)∈eT k ts
 | [],_,_,_,_,h,_=>by simp at h
 | t::ts,k,0,v,th,h,hv=>by rw [eT];simp at h;subst h;exact List.mem_append_left _ (aQ.mpr ⟨v,bj.mpr (by omega),rfl⟩)
 | t::ts,k,i+1,v,th,h,hv=>by
  rw [eT]
  have:=DH (ts:=ts) (k:=k+1) (i:=i) (v:=v) (by simpa using h) hv
  rw [show k+(i+1)=k+1+i by omega];exact List.mem_append_right _ this
theorem yU {ts:List Thing}{e:Event}(h:e∈dh ts):e.1<ts.length/\e.2<=Ks337.most ts e.1:=by obtain ⟨_,th,h2,h3⟩:=Bu h;rw [Nat.sub_zero] at h2;exact ⟨(aH.mp h2).1,by rw [ka h2];exact h3⟩
theorem Ce {ts:List Thing}{t v:Nat}(h1:t<ts.length)(h2:v<=Ks337.most ts t):(t,v)∈dh ts:=by
 have:=DH (ts:=ts) (k:=0) (i:=t) (v:=v) (aI h1) (by rw [ka (aI h1)] at h2;exact h2)
 rw [Nat.zero_add] at this;exact this
def ia (h:House)(x:Spot)(e:Event)(L:List Spot):Except (List Event) (List Spot):=match Ks339.after h x.state e with
 | none=>.error (e::x.way)
 | some s=>.ok (if Ks339.had L s then L else L++[⟨s,e::x.way⟩])
def tryAll (h:House)(x:Spot):List Event->List Spot->Except (List Event) (List Spot)
 | [],L=>.ok L
 | e::r,L=>match ia h x e L with
  | .error w=>.error w
  | .ok L'=>tryAll h x r L'
theorem qI (a b:List Spot)(s:State):Ks339.had (a++b) s=(Ks339.had a s || Ks339.had b s):=by unfold Ks339.had;rw [List.any_append]
theorem Cf (h:House)(x:Spot):∀(es:List Event)(all new:List Spot),tryAll h x es (all++new)=match Ks339.tried h x es all new with
  | .error w=>.error w
  | .ok n=>.ok (all++n)
 | [],all,new=>rfl
 | e::r,all,new=>by
  rw [tryAll,Ks339.tried,ia];cases Ks339.after h x.state e with
  | none=>rfl
  | some s =>
   simp only [qI]
   by_cases hh:(Ks339.had all s || Ks339.had new s)=true
   ·rw [ab hh,ab hh];exact Cf h x r all new
   ·rw [aa hh,aa hh,aT];exact Cf h x r all _
theorem set_same:∀(s:State)(t:Nat),s.set t (Ks338.value s t)=s
 | [],_=>rfl
 | v::s,0=>rfl
 | v::s,t+1=>by show v::s.set t (Ks338.value s t)=_;rw [set_same s t]
theorem P1 {h:House}{x:Spot}{e:Event}{L:List Spot}(hp:Ks338.pass h x.state=x.state)(hx:Ks339.had L x.state=true)(he:e.2=Ks338.value x.state e.1):ia h x e L=.ok L:=by unfold ia Ks339.after;rw [he,set_same,DG hp];simp only [Option.map_some,hx,if_true]
theorem Jf {h:House}{x:Spot}{e:Event}{L L':List Spot}(k:ia h x e L=.ok L'):∃m,L'=L++m:=by
 unfold ia at k;cases ea:Ks339.after h x.state e with
 | none=>rw [ea] at k;exact nomatch k
 | some s =>
  rw [ea] at k;injection k with k
  by_cases hh:Ks339.had L s=true
  ·rw [ab hh] at k;exact ⟨[],by rw [<-k,aX]⟩
  ·rw [aa hh] at k;exact ⟨_,k.symm⟩
theorem pC {h:House}{x:Spot}(hp:Ks338.pass h x.state=x.state):∀(es:List Event)(L:List Spot),Ks339.had L x.state=true->tryAll h x (es.filter λe=>e.2 != Ks338.value x.state e.1) L=tryAll h x es L
 | [],_,_=>rfl
 | e::r,L,hx=>by
  by_cases he:e.2=Ks338.value x.state e.1
  ·rw [List.filter_cons,aa (by simpa using he),tryAll,P1 hp hx he];exact pC hp r L hx
  ·rw [List.filter_cons,ab (by simpa using he),tryAll,tryAll];cases k:ia h x e L with
   | error w=>rfl
   | ok L' =>obtain ⟨m,rfl⟩:=Jf k;exact pC hp r _ (by rw [qI,hx];rfl)
def go (h:House):Nat->Nat->List Spot->Except (List Event) (List Spot)
 | 0,_,L=>.ok L
 | f+1,k,L=>match L[k]? with
  | none=>.ok L
  | some x=>match tryAll h x (dh h.things) L with
   | .error w=>.error w
   | .ok L'=>go h f (k+1) L'
structure m5 (h:House)(L:List Spot):Prop where
 nd:(L.map Spot.state).Nodup
 ok:∀p∈L,Ok h.things p.state/\Ks338.pass h p.state=p.state
theorem nj {L:List Spot}{s:State}:Ks339.had L s=true↔s∈L.map Spot.state:=by
 unfold Ks339.had;rw [List.any_eq_true,aQ];constructor
 ·rintro ⟨p,h1,h2⟩;exact ⟨p,h1,by simpa using h2⟩
 ·rintro ⟨p,h1,h2⟩;exact ⟨p,h1,by simpa using h2⟩
theorem m5.da {h:House}{L:List Spot}(w:m5 h L)(hs:prod h.things<=64):L.length<=64:=by
 have:=mr hs w.nd λs hs=>by obtain ⟨p,h1,rfl⟩:=aQ.mp hs;exact (w.ok p h1).1
 rw [af] at this;exact this
theorem RT {h:House}{s s':State}{e:Event}(w:eJ h)(o:Ok h.things s)(he:e.2<=Ks337.most h.things e.1)(k:Ks339.after h s e=some s'):Ok h.things s'/\Ks338.pass h s'=s':=by
 unfold Ks339.after at k;cases es:Ks338.settle h (s.set e.1 e.2) with
 | none=>rw [es] at k;exact nomatch k
 | some x =>rw [es] at k;simp only [Option.map_some,Option.some.injEq] at k;obtain ⟨n,q⟩:=x;obtain ⟨_,h2,h3⟩:=lX es;simp only [] at k;subst k;exact ⟨by rw [h2];exact (o.set he).it w n,h3⟩
theorem Mj {h:House}{x:Spot}{e:Event}{L L':List Spot}(w:eJ h)(hx:Ok h.things x.state)(he:e∈dh h.things)(lo:m5 h L)(k:ia h x e L=.ok L'):m5 h L'/\(∃s,Ks339.after h x.state e=some s/\Ks339.had L' s=true):=by
 unfold ia at k;cases ea:Ks339.after h x.state e with
 | none=>rw [ea] at k;exact nomatch k
 | some s =>
  rw [ea] at k;injection k with k
  have ho:=RT w hx (yU he).2 ea
  by_cases hh:Ks339.had L s=true
  ·rw [ab hh] at k;subst k;exact ⟨lo,s,rfl,hh⟩
  ·rw [aa hh] at k;subst k;refine ⟨⟨?_,λp hp=>?_⟩,s,rfl,?_⟩
   ·rw [aB];refine List.nodup_append.mpr ⟨lo.nd,by simp,λa ha b hb=>?_⟩
    have:b=s:=by simpa using hb
    subst this;intro e;subst e;exact hh (nj.mpr ha)
   ·rcases aY.mp hp with hp | hp
    ·exact lo.ok p hp
    ·rw [aK.mp hp];exact ho
   ·rw [qI];unfold Ks339.had;simp
theorem yV {h:House}{x:Spot}(w:eJ h)(hx:Ok h.things x.state):∀{es:List Event}{L L':List Spot},(∀e∈es,e∈dh h.things)->m5 h L->tryAll h x es L=.ok L'->m5 h L'/\(∃m,L'=L++m)/\∀e∈es,∃s,Ks339.after h x.state e=some s/\Ks339.had L' s=true
 | [],L,L',_,lo,k=>by
  injection k with k
  subst k;exact ⟨lo,⟨[],(aX _).symm⟩,λe he=>by simp at he⟩
 | e::r,L,L',he,lo,k=>by
  rw [tryAll] at k;cases k1:ia h x e L with
  | error w=>rw [k1] at k;exact nomatch k
  | ok M =>
   rw [k1] at k;obtain ⟨m,rfl⟩:=Jf k1;obtain ⟨a1,s,a2,a3⟩:=Mj w hx (he e (aE ..)) lo k1;obtain ⟨b1,⟨m2,b2⟩,b3⟩:=yV w hx (λe' h'=>he e' (aA _ h')) a1 k;refine ⟨b1,⟨m++m2,by rw [b2,aT]⟩,λe' h'=>?_⟩;rcases ak.mp h' with rfl | h'
   ·exact ⟨s,a2,by rw [b2,qI,a3];rfl⟩
   ·exact b3 e' h'
theorem Bv {h:House}(w:eJ h)(hs:prod h.things<=64):∀(f k:Nat)(L:List Spot),k<=L.length->m5 h L->Ks339.explored h f (L.take k) (L.drop k)=go h f k L
 | 0,k,L,_,_=>by show Except.ok (L.take k++L.drop k)=Except.ok L;rw [List.take_append_drop]
 | f+1,k,L,hk,lo=>by
  rw [go];cases e:L[k]? with
  | none =>have hl:L.length<=k:=List.getElem?_eq_none_iff.mp e;rw [List.drop_eq_nil_of_le hl,List.take_of_length_le hl];rfl
  | some x =>
   obtain ⟨hl,ex⟩:=aH.mp e;have Jg:x∈L:=aM e;rw [List.drop_eq_getElem_cons hl,ex];show (match Ks339.tried h x (Ks339.events h x.state) (L.take k++x::L.drop (k+1)) [] with
    | .error w=>Except.error w
    | .ok new=>Ks339.explored h f (L.take k++[x]) (L.drop (k+1)++new))=_
   simp only [];have t1:L.take k++x::L.drop (k+1)=L:=by rw [<-ex,<-List.drop_eq_getElem_cons hl,List.take_append_drop]
   have hx:=lo.ok x Jg;have t2:=Cf h x (Ks339.events h x.state) L [];rw [aX,lj,pC hx.2 _ _ (nj.mpr (aQ.mpr ⟨x,Jg,rfl⟩)),<-lj] at t2;rw [t1,t2];cases k1:Ks339.tried h x (Ks339.events h x.state) L [] with
   | error w=>rfl
   | ok n =>
    simp only [];rw [k1] at t2;obtain ⟨l2,_,_⟩:=yV w hx.1 (λe he=>he) lo t2;have t3:=Bv w hs f (k+1) (L++n) (by rw [ay];omega) l2;rw [<-t3]
    congr 1
    ·rw [List.take_append_of_le_length (by omega),List.take_succ_eq_append_getElem hl,ex]
    ·rw [List.drop_append_of_le_length (by omega)]
theorem rg {h:House}(w:eJ h)(hs:prod h.things<=64){s:State}(o:Ok h.things s)(hp:Ks338.pass h s=s):Ks339.reach h s=go h 65 0 [⟨s,[]⟩]:=by
 have:=Bv w hs 65 0 [⟨s,[]⟩] (by simp) ⟨by simp,λp tY=>by rw [aK.mp tY];exact ⟨o,hp⟩⟩
 exact this
theorem tZ {h:House}{s:State}(o:Ok h.things s)(hp:Ks338.pass h s=s):m5 h [⟨s,[]⟩]:=⟨by simp,λp tY=>by rw [aK.mp tY];exact ⟨o,hp⟩⟩
theorem UL {h:House}{k:Nat}{L:List Spot}(hs:prod h.things<=64)(lo:m5 h L){x:Spot}(e:L[k]?=some x):go h (65 - k) k L=match tryAll h x (dh h.things) L with
  | .error w=>.error w
  | .ok L'=>go h (65 - (k+1)) (k+1) L':=by
 have hl:=(aH.mp e).1
 have:=lo.da hs
 rw [show 65 - k=(65 - (k+1))+1 by omega,go,e]
theorem Wq {h:House}{f k:Nat}{L:List Spot}(e:L[k]?=none):go h f k L=.ok L:=by
 cases f with
 | zero=>rfl
 | succ f=>rw [go,e]
theorem t5 {h:House}(w:eJ h)(hs:prod h.things<=64):∀(f k:Nat)(L M:List Spot),65<=f+k->k<=L.length->m5 h L ->
  (∀(j:Nat)(p:Spot),j<k->L[j]?=some p->∀e∈dh h.things,∃s,Ks339.after h p.state e=some s/\Ks339.had L s=true) ->
  go h f k L=.ok M->m5 h M/\(∃m,M=L++m)/\∀p∈M,∀e∈dh h.things,∃s,Ks339.after h p.state e=some s/\Ks339.had M s=true
 | 0,k,L,M,hf,hk,lo,_,_=>by
  have:=lo.da hs
  omega
 | f+1,k,L,M,hf,hk,lo,c,g=>by
  rw [go] at g;cases e:L[k]? with
  | none =>
   rw [e] at g;injection g with g
   subst g;refine ⟨lo,⟨[],(aX _).symm⟩,λp hp=>?_⟩;obtain ⟨j,hj⟩:=List.getElem?_of_mem hp;have hl:L.length<=k:=List.getElem?_eq_none_iff.mp e
   have:=(aH.mp hj).1
   exact c j p (by omega) hj
  | some x =>
   rw [e] at g;simp only [] at g;obtain ⟨hl,ex⟩:=aH.mp e;have Jg:x∈L:=aM e;cases t:tryAll h x (dh h.things) L with
   | error w=>rw [t] at g;exact nomatch g
   | ok L' =>
    rw [t] at g;obtain ⟨l2,⟨m,rfl⟩,l3⟩:=yV w (lo.ok x Jg).1 (λe he=>he) lo t;obtain ⟨r1,⟨m2,r2⟩,r3⟩:=t5 w hs f (k+1) (L++m) M (by omega) (by rw [ay];omega) l2 (λj p hj hp e' he=>by
     rw [bu (by omega)] at hp
     by_cases Wo:j=k
     ·subst Wo
      have:x=p:=ao (e▸hp▸rfl)
      subst this;exact l3 e' he
     ·obtain ⟨s,s1,s2⟩:=c j p (by omega) hp e' he;exact ⟨s,s1,by rw [qI,s2];rfl⟩) g
    exact ⟨r1,⟨m++m2,by rw [r2,aT]⟩,r3⟩
end Hy
namespace Hy
open Ks337 (Bytes Cond Thing Line House)
open Ks338 (State)
open Ks339 (Event Spot)
open Ks340 (Abs Past Ans Call)
structure yW (h:House)(S:State->Prop):Prop where
 ok:∀s,S s->Ok h.things s
 fix:∀s,S s->Ks338.pass h s=s
 next:∀s,S s->∀e∈dh h.things,∃s',Ks339.after h s e=some s'/\S s'
theorem Ok.zeros (h:House):Ok h.things (Ks340.zeros h):=by
 unfold Ks340.zeros
 generalize h.things=ts
 induction ts with
 | nil=>trivial
 | cons t ts ih=>exact ⟨aW _,ih⟩
theorem yX {h:House}{s s':State}{L:List Spot}(w:eJ h)(hs:prod h.things<=64)(o:Ok h.things s)(e:Ks339.verdict h s=.fine s' L) :
  (∃n,Ks338.settle h s=some (n,s'))/\Ks339.reach h s'=.ok L/\yW h (λx=>Ks339.had L x=true)/\Ks339.had L s'=true:=by
 unfold Ks339.verdict at e;cases es:Ks338.settle h s with
 | none=>rw [es] at e;exact nomatch e
 | some x =>
  obtain ⟨n,q⟩:=x;rw [es] at e;simp only [] at e;cases er:Ks339.reach h q with
  | error w=>rw [er] at e;exact nomatch e
  | ok M =>
   rw [er] at e;simp only [] at e;cases ef:M.find? λp=>(Ks338.forbidden h p.state).isSome with
   | some p=>rw [ef] at e;exact nomatch e
   | none =>
    rw [ef] at e;injection e with e1 e2
    subst e1;subst e2;obtain ⟨_,q1,q2⟩:=lX es;have qo:Ok h.things q:=by rw [q1];exact o.it w n
    have g:=er;rw [rg w hs qo q2] at g;obtain ⟨c1,⟨m,c2⟩,c3⟩:=t5 w hs 65 0 [⟨q,[]⟩] M (by omega) (by omega) (tZ qo q2) (λj p hj=>by omega) g;refine ⟨⟨n,rfl⟩,er,⟨λx hx=>?_,λx hx=>?_,λx hx e he=>?_⟩,?_⟩
    ·obtain ⟨p,h1,rfl⟩:=aQ.mp (nj.mp hx);exact (c1.ok p h1).1
    ·obtain ⟨p,h1,rfl⟩:=aQ.mp (nj.mp hx);exact (c1.ok p h1).2
    ·obtain ⟨p,h1,rfl⟩:=aQ.mp (nj.mp hx);exact c3 p h1 e he
    ·rw [c2,qI]
     have:Ks339.had [⟨q,[]⟩] q=true:=nj.mpr (by simp)
     rw [this];rfl
theorem Bw {h:House}{S:State->Prop}(c:yW h S){x:Spot}(hx:S x.state):∀(es:List Event)(L:List Spot),(∀e∈es,e∈dh h.things)->(∀p∈L,S p.state)->∃L',tryAll h x es L=.ok L'/\∀p∈L',S p.state
 | [],L,_,hl=>⟨L,rfl,hl⟩
 | e::r,L,he,hl=>by
  obtain ⟨s',a1,a2⟩:=c.next x.state hx e (he e (aE ..));have t1:ia h x e L=.ok (if Ks339.had L s' then L else L++[⟨s',e::x.way⟩]):=by unfold ia;rw [a1]
  have Vq:∀p∈(if Ks339.had L s' then L else L++[⟨s',e::x.way⟩]),S p.state:=by
   split
   ·exact hl
   ·intro p hp;rcases aY.mp hp with hp | hp
    ·exact hl p hp
    ·rw [aK.mp hp];exact a2
  obtain ⟨L',b1,b2⟩:=Bw c hx r _ (λe' h'=>he e' (aA _ h')) Vq;exact ⟨L',by rw [tryAll,t1];exact b1,b2⟩
theorem Ml {h:House}{S:State->Prop}(c:yW h S):∀(f k:Nat)(L:List Spot),(∀p∈L,S p.state)->∃L',go h f k L=.ok L'/\∀p∈L',S p.state
 | 0,_,L,hl=>⟨L,rfl,hl⟩
 | f+1,k,L,hl=>by
  rw [go];cases e:L[k]? with
  | none=>exact ⟨L,rfl,hl⟩
  | some x =>obtain ⟨M,m1,m2⟩:=Bw c (hl x (aM e)) (dh h.things) L (λ_ he=>he) hl;simp only [m1];exact Ml c f (k+1) M m2
theorem NK {h:House}{S:State->Prop}(w:eJ h)(hs:prod h.things<=64)(c:yW h S){s:State}(hp:S s):∃L,Ks339.reach h s=.ok L/\m5 h L/\(∀p∈L,S p.state)/\(∀p∈L,∀e∈dh h.things,∃s,Ks339.after h p.state e=some s/\Ks339.had L s=true):=by
 rw [rg w hs (c.ok s hp) (c.fix s hp)];obtain ⟨L,a,b⟩:=Ml c 65 0 [⟨s,[]⟩] λp h'=>by rw [aK.mp h'];exact hp
 obtain ⟨c1,_,c3⟩:=t5 w hs 65 0 [⟨s,[]⟩] L (by omega) (by omega) (tZ (c.ok s hp) (c.fix s hp)) (λj p hj=>by omega) a;exact ⟨L,a,c1,b,c3⟩
def fb (ts:List Thing)(l:List Line):Prop:=l.length<=16/\∀x∈l,jJ ts x
structure On (a:Abs):Prop where
 wf:fC a.house
 some:a.house.things≠[]
 da:prod a.house.things<=64
 safe:∃S,yW a.house S/\S a.now/\(∀p∈a.past,S p.before)/\∀p∈a.ahead,S p.before
 xX:∀p,p∈a.past\/p∈a.ahead->p.event.1<a.house.things.length/\p.event.2<=Ks337.most a.house.things p.event.1
 past:a.past.length+a.ahead.length<=50
 edits:a.edits.length+a.unedits.length<=20
 lines:∀l,l∈a.edits\/l∈a.unedits->fb a.house.things l
structure Inv (a:Abs):Prop where
 off:a.on=false->a={}
 on:a.on=true->On a
theorem jE:Inv {}:=⟨λ_=>rfl,λh=>nomatch h⟩
theorem fC.all {h:House}(w:fC h):fb h.things h.lines:=⟨w.kC,w.ok⟩
theorem Fi {h:House}{l:List Line}(w:fC h)(k:fb h.things l):fC (Ks340.withLines h l):=⟨w.ts,w.da,k.1,k.2⟩
theorem wC {a:Abs}{l:List Line}{ed un:List (List Line)}{v:Nat}(i:Inv a)(on:a.on=true)(k:fb a.house.things l)(h1:ed.length+un.length<=20)(h2:∀l,l∈ed\/l∈un->fb a.house.things l):Inv (Ks340.change a l ed un v).1:=by
 have o:=i.on on;unfold Ks340.change;cases e:Ks339.verdict (Ks340.withLines a.house l) a.now with
 | forever w=>exact i
 | never w n=>exact i
 | fine s L =>
  have w2:=Fi o.wf k;obtain ⟨S,c,s1,s2,s3⟩:=o.safe;obtain ⟨_,_,c1,c2⟩:=yX w2.lines o.da (c.ok _ s1) e;refine ⟨λh=>?_,λ_=>⟨w2,o.some,o.da,⟨_,c1,c2,λp hp=>by simp at hp,λp hp=>by simp at hp⟩,λp hp=>by simp at hp,by simp,h1,h2⟩⟩
  have:a.on=false:=h
  rw [on] at this;exact nomatch this
theorem rh {α:Type}{l:List α}{n:Nat}{x:α}(h:x∈l.take n):x∈l:=List.mem_of_mem_take h
theorem uB {a:Abs}{l:List Line}{v:Nat}(i:Inv a)(on:a.on=true)(k:fb a.house.things l):Inv (Ks340.changed a l v).1:=by
 have o:=i.on on;refine wC i on k ?_ λx hx=>?_
 ·rw [aO]
  have:Ks340.EDITS=20:=rfl
  simp;omega
 ·rcases hx with hx | hx
  ·have:=rh hx
   rcases ak.mp this with rfl | h'
   ·exact o.wf.all
   ·exact o.lines x (.inl h')
  ·simp at hx
theorem rj {ts:List Thing}{l:List Line}{i:Nat}{x:Line}(h:fb ts l)(hl:l.length<16)(hx:jJ ts x):fb ts (Ks340.inserted l i x):=by
 unfold Ks340.inserted;refine ⟨?_,λy hy=>?_⟩
 ·rw [ay,au,aO,bg];omega
 ·rcases aY.mp hy with hy | hy
  ·exact h.2 y (List.mem_of_mem_take hy)
  ·rcases ak.mp hy with rfl | hy
   ·exact hx
   ·exact h.2 y (List.mem_of_mem_drop hy)
theorem yY {ts:List Thing}{l:List Line}{i:Nat}(h:fb ts l):fb ts (l.eraseIdx i):=by
 refine ⟨?_,λy hy=>h.2 y (List.mem_of_mem_eraseIdx hy)⟩
 have:=List.length_eraseIdx_le l i
 have:=h.1
 omega
theorem Gp {ts:List Thing}{l:List Line}{i j:Nat}(h:fb ts l):fb ts (Ks340.moved l i j):=by
 unfold Ks340.moved;cases e:l[i]? with
 | none=>exact h
 | some x =>
  have hi:=(aH.mp e).1;refine rj (yY h) ?_ (h.2 x (aM e));rw [List.length_eraseIdx_of_lt hi]
  have:=h.1
  omega
def qJ (a:Abs)(t:Option Bytes):Abs×Ans:=match t with
 | none=>(a,Ks340.no (-22))
 | some t=>match Ks337.read t with
  | .error k=>(a,Ks340.no (-1000 - (k:Int)))
  | .ok h=>if h.things=[]\/Ks337.STATES<Ks337.states h then (a,Ks340.no (-28)) else match Ks339.verdict h (Ks340.zeros h) with
   | .forever _=>(a,Ks340.no (-41))
   | .never _ _=>(a,Ks340.no (-42))
   | .fine s _=>({on:=true,house:=h,now:=s},Ks340.no h.things.length)
theorem RU (a:Abs)(t:Option Bytes):Ks340.act a (.load t)=(let x:=Ks340.loaded t λh=>Ks340.judged h (Ks340.zeros h)
  if x.ret<0 then (a,x) else if x.ret=1 then (a,Ks340.no (-41)) else if x.ret=2 then (a,Ks340.no (-42)) else (match t with
   | none=>(a,Ks340.no (-22))
   | some t=>match Ks337.read t with
    | .error k=>(a,Ks340.no (-1000 - (k:Int)))
    | .ok h=>match Ks338.settle h (Ks340.zeros h) with
     | none=>(a,Ks340.no (-41))
     | some s=>({on:=true,house:=h,now:=s.2},Ks340.no h.things.length))):=by
 unfold Ks340.act;rw [aa (λh=>nomatch h.2)];rfl
theorem AI (a:Abs)(t:Option Bytes):Ks340.act a (.load t)=qJ a t:=by
 rw [RU];unfold qJ;simp only [];cases t with
 | none =>have ex:(Ks340.loaded none λh=>Ks340.judged h (Ks340.zeros h))=Ks340.no (-22):=rfl;rw [ex,ab (show (Ks340.no (-22)).ret<0 by decide)]
 | some t =>
  simp only [];cases er:Ks337.read t with
  | error k =>
   have ex:(Ks340.loaded (some t) λh=>Ks340.judged h (Ks340.zeros h))=Ks340.no (-1000 - (k:Int)):=by unfold Ks340.loaded;simp only [er]
   rw [ex,ab (show (Ks340.no (-1000 - (k:Int))).ret<0 by show (-1000 - (k:Int))<0;omega)]
  | ok h =>
   simp only []
   by_cases hc:h.things=[]\/Ks337.STATES<Ks337.states h
   ·have ex:(Ks340.loaded (some t) λh=>Ks340.judged h (Ks340.zeros h))=Ks340.no (-28):=by
     unfold Ks340.loaded;simp only [er,ab hc]
    rw [ex,ab hc,ab (show (Ks340.no (-28)).ret<0 by decide)]
   ·have ex:(Ks340.loaded (some t) λh=>Ks340.judged h (Ks340.zeros h))=Ks340.judged h (Ks340.zeros h):=by
     unfold Ks340.loaded;simp only [er,aa hc]
    rw [ex,aa hc];cases ev:Ks339.verdict h (Ks340.zeros h) with
    | forever w =>
     have ej:(Ks340.judged h (Ks340.zeros h)).ret=1:=by unfold Ks340.judged;simp only [ev]
     rw [aa (by rw [ej];decide),ab ej]
    | never w k =>
     have ej:(Ks340.judged h (Ks340.zeros h)).ret=2:=by unfold Ks340.judged;simp only [ev]
     rw [aa (by rw [ej];decide),aa (by rw [ej];decide),ab ej]
    | fine s L =>
     have ej:(Ks340.judged h (Ks340.zeros h)).ret=0:=by unfold Ks340.judged;simp only [ev];rfl
     rw [aa (by rw [ej];decide),aa (by rw [ej];decide),aa (by rw [ej];decide)];have eg:Ks338.settle h (Ks340.zeros h)≠none/\∀x,Ks338.settle h (Ks340.zeros h)=some x->x.2=s:=by
      unfold Ks339.verdict at ev;cases es:Ks338.settle h (Ks340.zeros h) with
      | none=>rw [es] at ev;exact nomatch ev
      | some x =>
       rw [es] at ev;simp only [] at ev;cases eq:Ks339.reach h x.2 with
       | error w=>rw [eq] at ev;exact nomatch ev
       | ok M =>
        rw [eq] at ev;simp only [] at ev;cases ef:M.find? λp=>(Ks338.forbidden h p.state).isSome with
        | some p=>rw [ef] at ev;exact nomatch ev
        | none =>
         rw [ef] at ev;injection ev with e1 e2
         exact ⟨λz=>(nomatch z),λy hy=>by rw [<-ao hy];exact e1⟩
     cases es:Ks338.settle h (Ks340.zeros h) with
     | none=>exact ai es eg.1
     | some x =>
      have:=eg.2 x es
      subst this;rfl
theorem Jh {a:Abs}(i:Inv a)(t:Option Bytes):Inv (qJ a t).1:=by
 unfold qJ;cases t with
 | none=>exact i
 | some t =>
  simp only [];cases er:Ks337.read t with
  | error k=>exact i
  | ok h =>
   simp only []
   by_cases hc:h.things=[]\/Ks337.STATES<Ks337.states h
   ·rw [ab hc];exact i
   ·rw [aa hc];cases ev:Ks339.verdict h (Ks340.zeros h) with
    | forever w=>exact i
    | never w k=>exact i
    | fine s L =>
     simp only [];have w:=Mh er;have hp:prod h.things<=64:=by
      rw [<-oA]
      have:¬Ks337.STATES<Ks337.states h:=λz=>hc (.inr z)
      have e:Ks337.STATES=64:=rfl;omega
     obtain ⟨_,_,c1,c2⟩:=yX w.lines hp (Ok.zeros h) ev;exact ⟨λh=>(nomatch h),λ_=>⟨w,λz=>hc (.inl z),hp,⟨_,c1,c2,λp hp=>by simp at hp,λp hp=>by simp at hp⟩,λp hp=>by simp at hp,by simp,by simp,λl hl=>by simp at hl⟩⟩
theorem Bx {a:Abs}(o:On a){t v:Nat}(ht:t<a.house.things.length)(hv:v<=Ks337.most a.house.things t):∃n s',Ks338.settle a.house (a.now.set t v)=some (n,s'):=by
 obtain ⟨S,c,s1,_⟩:=o.safe;obtain ⟨s',e,_⟩:=c.next a.now s1 (t,v) (Ce ht hv);unfold Ks339.after at e;cases es:Ks338.settle a.house (a.now.set t v) with
 | none=>rw [es] at e;exact nomatch e
 | some x=>exact ⟨x.1,x.2,rfl⟩
theorem set_inv {a:Abs}{t v n:Nat}{s':State}(o:On a)(on:a.on=true)(ht:t<a.house.things.length)(hv:v<=Ks337.most a.house.things t)(es:Ks338.settle a.house (a.now.set t v)=some (n,s')) :
  Inv {a with now:=s',past:=(⟨a.now,(t,v)⟩::a.past).take Ks340.PAST,ahead:=[]}:=by
 refine ⟨λh=>?_,λ_=>?_⟩
 ·have:a.on=false:=h
  rw [on] at this;exact nomatch this
 ·obtain ⟨S,c,s1,s2,s3⟩:=o.safe;obtain ⟨q,e,hq⟩:=c.next a.now s1 (t,v) (Ce ht hv)
  have:q=s':=by unfold Ks339.after at e;simp only [es,Option.map_some,Option.some.injEq] at e;exact e.symm
  subst this;refine ⟨o.wf,o.some,o.da,⟨S,c,hq,λp hp=>?_,λp hp=>by simp at hp⟩,λp hp=>?_,?_,o.edits,o.lines⟩
  ·rcases ak.mp (rh hp) with rfl | hp
   ·exact s1
   ·exact s2 p hp
  ·rcases hp with hp | hp
   ·rcases ak.mp (rh hp) with rfl | hp
    ·exact ⟨ht,hv⟩
    ·exact o.xX p (.inl hp)
   ·simp at hp
  ·rw [aO]
   have:Ks340.PAST=50:=rfl
   simp;omega
theorem UM {a:Abs}(i:Inv a)(c:Call):Inv (Ks340.act a c).1:=by
 by_cases h0:a.on=false/\Ks340.alone c=false
 ·unfold Ks340.act;rw [ab h0];exact i
 ·by_cases By:a.on=true
  ·have o:=i.on By;cases c with
   | load t=>rw [AI];exact Jh i t
   | begin=>unfold Ks340.act;rw [aa h0];exact jE
   | mayLoad t=>unfold Ks340.act;rw [aa h0];exact i
   | tell=>unfold Ks340.act;rw [aa h0];exact i
   | state=>unfold Ks340.act;rw [aa h0];exact i
   | values=>unfold Ks340.act;rw [aa h0];exact i
   | count=>unfold Ks340.act;rw [aa h0];exact i
   | idle=>unfold Ks340.act;rw [aa h0];exact i
   | value t=>unfold Ks340.act;rw [aa h0];simp only [];split <;> exact i
   | name t=>unfold Ks340.act;rw [aa h0];simp only [];split <;> exact i
   | line t=>unfold Ks340.act;rw [aa h0];simp only [];split <;> exact i
   | find t=>unfold Ks340.act;rw [aa h0];simp only [];split <;> exact i
   | log t=>unfold Ks340.act;rw [aa h0];simp only [];split <;> exact i
   | why t=>unfold Ks340.act;rw [aa h0];simp only [];split;exact i;split <;> exact i
   | could t=>unfold Ks340.act;rw [aa h0];simp only [];split;exact i;split <;> exact i
   | mayAdd k t=>unfold Ks340.act;rw [aa h0];simp only [];split;exact i;split;exact i;split <;> exact i
   | mayDrop k=>unfold Ks340.act;rw [aa h0];simp only [];split <;> exact i
   | mayMove k j=>unfold Ks340.act;rw [aa h0];simp only [];split <;> exact i
   | look t v=>unfold Ks340.act;rw [aa h0];simp only [];split;exact i;split;exact i;split <;> exact i
   | add k t =>
    unfold Ks340.act;rw [aa h0];simp only []
    split
    ·exact i
    ·split
     ·exact i
     ·rename_i x ex
      split
      ·exact i
      ·rename_i hl;refine uB i By (rj o.wf.all ?_ ?_)
       ·have:Ks337.LINES=16:=rfl
        omega
       ·unfold Ks340.lineOf at ex
        split at ex
        ·exact nomatch ex
        ·rename_i hr;exact Fg (by simpa using hr) ex
   | drop k =>
    unfold Ks340.act;rw [aa h0];simp only []
    split
    ·exact i
    ·exact uB i By (yY o.wf.all)
   | move k j =>
    unfold Ks340.act;rw [aa h0];simp only []
    split
    ·exact i
    ·exact uB i By (Gp o.wf.all)
   | unedit =>
    unfold Ks340.act;rw [aa h0];simp only [];cases e:a.edits with
    | nil=>exact i
    | cons l r =>
     refine wC i By (o.lines l (.inl (by rw [e];simp))) ?_ λx hx=>?_
     ·have:=o.edits
      rw [e] at this;simp at this ⊢;omega
     ·rcases hx with hx | hx
      ·exact o.lines x (.inl (by rw [e];exact aA _ hx))
      ·rcases ak.mp hx with rfl | hx
       ·exact o.wf.all
       ·exact o.lines x (.inr hx)
   | reedit =>
    unfold Ks340.act;rw [aa h0];simp only [];cases e:a.unedits with
    | nil=>exact i
    | cons l r =>
     refine wC i By (o.lines l (.inr (by rw [e];simp))) ?_ λx hx=>?_
     ·have:=o.edits
      rw [e] at this;simp at this ⊢;omega
     ·rcases hx with hx | hx
      ·rcases ak.mp hx with rfl | hx
       ·exact o.wf.all
       ·exact o.lines x (.inl hx)
      ·exact o.lines x (.inr (by rw [e];exact aA _ hx))
   | set t v =>
    unfold Ks340.act;rw [aa h0];simp only []
    split
    ·exact i
    ·rename_i h1
     split
     ·exact i
     ·rename_i h2
      split
      ·exact i
      ·rename_i x ex;obtain ⟨n,s'⟩:=x;exact set_inv o By (by simpa [Ks340.isThing] using h1) (by simpa [Ks340.mayBe] using h2) ex
   | back =>
    unfold Ks340.act;rw [aa h0];simp only [];cases e:a.past with
    | nil=>exact i
    | cons p r =>
     obtain ⟨S,c,s1,s2,s3⟩:=o.safe;have t6:=o.past;rw [e] at t6 s2;refine ⟨λh=>?_,λ_=>⟨o.wf,o.some,o.da,⟨S,c,s2 p (aE ..),λq hq=>s2 q (aA _ hq),λq hq=>?_⟩,λq hq=>?_,?_,o.edits,o.lines⟩⟩
     ·have:a.on=false:=h
      rw [By] at this;exact nomatch this
     ·rcases ak.mp hq with rfl | hq
      ·exact s1
      ·exact s3 q hq
     ·rcases hq with hq | hq
      ·exact o.xX q (.inl (by rw [e];exact aA _ hq))
      ·rcases ak.mp hq with rfl | hq
       ·exact o.xX p (.inl (by rw [e];exact aE ..))
       ·exact o.xX q (.inr hq)
     ·simp at t6 ⊢;omega
   | again =>
    unfold Ks340.act;rw [aa h0];simp only [];cases e:a.ahead with
    | nil=>exact i
    | cons p r =>
     obtain ⟨S,c,s1,s2,s3⟩:=o.safe;have t6:=o.past;rw [e] at t6 s3;refine ⟨λh=>?_,λ_=>⟨o.wf,o.some,o.da,⟨S,c,s3 p (aE ..),λq hq=>?_,λq hq=>s3 q (aA _ hq)⟩,λq hq=>?_,?_,o.edits,o.lines⟩⟩
     ·have:a.on=false:=h
      rw [By] at this;exact nomatch this
     ·rcases ak.mp hq with rfl | hq
      ·exact s1
      ·exact s2 q hq
     ·rcases hq with hq | hq
      ·rcases ak.mp hq with rfl | hq
       ·exact o.xX p (.inr (by rw [e];exact aE ..))
       ·exact o.xX q (.inl hq)
      ·exact o.xX q (.inr (by rw [e];exact aA _ hq))
     ·simp at t6 ⊢;omega
  ·have aah:a.on=false:=by simpa using By
   have e:=i.off aah;subst e;cases c with
   | load t=>rw [AI];exact Jh i t
   | begin=>exact jE
   | mayLoad t=>exact jE
   | state=>exact jE
   | _=>exact ai ⟨rfl,rfl⟩ h0
def Tv (h:House):State->List Past->Prop
 | _,[]=>True
 | now,p::r=>Ks339.after h p.before p.event=some now/\Tv h p.before r
def YQ (h:House):State->List Past->Prop
 | _,[]=>True
 | now,p::r=>Ks339.after h now p.event=some p.before/\YQ h p.before r
structure Ji (a:Abs):Prop where
 past:Tv a.house a.now a.past
 ahead:YQ a.house a.now a.ahead
structure St (a:Abs):Prop where
 inv:Inv a
 Wr:Ji a
theorem Jj (h:House):∀(n:Nat)(now:State)(l:List Past),Tv h now l->Tv h now (l.take n)
 | 0,_,_,_=>trivial
 | n+1,_,[],_=>trivial
 | n+1,now,p::r,⟨a,b⟩=>⟨a,Jj h n p.before r b⟩
theorem kQ {a:Abs}(w:Ji a)(l:List Line)(ed un:List (List Line))(v:Nat):Ji (Ks340.change a l ed un v).1:=by
 unfold Ks340.change;cases Ks339.verdict (Ks340.withLines a.house l) a.now with
 | forever w'=>exact w
 | never w' n=>exact w
 | fine s L=>exact ⟨trivial,trivial⟩
theorem RV {a:Abs}(w:Ji a)(c:Call):Ji (Ks340.act a c).1:=by
 by_cases h0:a.on=false/\Ks340.alone c=false
 ·unfold Ks340.act;rw [ab h0];exact w
 ·cases c with
  | load t =>
   rw [AI];unfold qJ
   split
   ·exact w
   ·split
    ·exact w
    ·split
     ·exact w
     ·split
      ·exact w
      ·exact w
      ·exact ⟨trivial,trivial⟩
  | begin=>unfold Ks340.act;rw [aa h0];exact ⟨trivial,trivial⟩
  | mayLoad t=>unfold Ks340.act;rw [aa h0];exact w
  | tell=>unfold Ks340.act;rw [aa h0];exact w
  | state=>unfold Ks340.act;rw [aa h0];exact w
  | values=>unfold Ks340.act;rw [aa h0];exact w
  | count=>unfold Ks340.act;rw [aa h0];exact w
  | idle=>unfold Ks340.act;rw [aa h0];exact w
  | value t=>unfold Ks340.act;rw [aa h0];simp only [];split <;> exact w
  | name t=>unfold Ks340.act;rw [aa h0];simp only [];split <;> exact w
  | line t=>unfold Ks340.act;rw [aa h0];simp only [];split <;> exact w
  | find t=>unfold Ks340.act;rw [aa h0];simp only [];split <;> exact w
  | log t=>unfold Ks340.act;rw [aa h0];simp only [];split <;> exact w
  | why t=>unfold Ks340.act;rw [aa h0];simp only [];split;exact w;split <;> exact w
  | could t=>unfold Ks340.act;rw [aa h0];simp only [];split;exact w;split <;> exact w
  | mayAdd k t=>unfold Ks340.act;rw [aa h0];simp only [];split;exact w;split;exact w;split <;> exact w
  | mayDrop k=>unfold Ks340.act;rw [aa h0];simp only [];split <;> exact w
  | mayMove k j=>unfold Ks340.act;rw [aa h0];simp only [];split <;> exact w
  | look t v=>unfold Ks340.act;rw [aa h0];simp only [];split;exact w;split;exact w;split <;> exact w
  | add k t =>
   unfold Ks340.act;rw [aa h0];simp only []
   split
   ·exact w
   ·split
    ·exact w
    ·split
     ·exact w
     ·exact kQ w _ _ _ _
  | drop k =>
   unfold Ks340.act;rw [aa h0];simp only []
   split
   ·exact w
   ·exact kQ w _ _ _ _
  | move k j =>
   unfold Ks340.act;rw [aa h0];simp only []
   split
   ·exact w
   ·exact kQ w _ _ _ _
  | unedit =>
   unfold Ks340.act;rw [aa h0];simp only []
   split
   ·exact w
   ·exact kQ w _ _ _ _
  | reedit =>
   unfold Ks340.act;rw [aa h0];simp only []
   split
   ·exact w
   ·exact kQ w _ _ _ _
  | set t v =>
   unfold Ks340.act;rw [aa h0];simp only []
   split
   ·exact w
   ·split
    ·exact w
    ·split
     ·exact w
     ·rename_i x ex;refine ⟨Jj _ _ _ _ ⟨?_,w.past⟩,trivial⟩;show (Ks338.settle a.house (a.now.set t v)).map Prod.snd=some x.2;rw [ex];rfl
  | back =>
   unfold Ks340.act;rw [aa h0];simp only [];cases e:a.past with
   | nil=>exact w
   | cons p r =>have hp:=w.past;rw [e] at hp;exact ⟨hp.2,hp.1,w.ahead⟩
  | again =>
   unfold Ks340.act;rw [aa h0];simp only [];cases e:a.ahead with
   | nil=>exact w
   | cons p r =>have hp:=w.ahead;rw [e] at hp;exact ⟨⟨hp.1,w.past⟩,hp.2⟩
theorem Ws {a:Abs}(w:St a)(c:Call):St (Ks340.act a c).1:=⟨UM w.inv c,RV w.Wr c⟩
theorem RW:St {}:=⟨jE,trivial,trivial⟩
end Hy
namespace Hy
open Ks337 (Bytes Cond Thing Line House)
open Ks338 (State)
open Ks339 (Event Spot Verdict)
open Ks340 (Abs Past Ans Call)
def Jk (n:Nat):Except (List Event) (List Spot)->Prop
 | .ok M=>∀q∈M,q.way.length<=n
 | .error w=>w.length<=n
theorem yZ {h:House}{x:Spot}{k:Nat}(hx:x.way.length<=k):∀(es:List Event)(L:List Spot),(∀q∈L,q.way.length<=k+1)->Jk (k+1) (tryAll h x es L)
 | [],L,hL=>hL
 | e::es,L,hL=>by
  unfold tryAll;cases ht:ia h x e L with
  | error w =>
   unfold ia at ht
   split at ht
   ·injection ht with ht
    subst ht;show (e::x.way).length<=k+1;rw [au];omega
   ·cases ht
  | ok L' =>
   refine yZ hx es L' ?_;unfold ia at ht
   split at ht
   ·cases ht
   ·injection ht with ht
    subst ht;intro q hq
    split at hq
    ·exact hL q hq
    ·rcases aY.mp hq with hq | hq
     ·exact hL q hq
     ·rw [aK.mp hq];show (e::x.way).length<=k+1;rw [au];omega
theorem go_short (h:House):∀(f k:Nat)(L:List Spot),(∀q∈L,q.way.length<=k)->Jk (k+f) (go h f k L)
 | 0,k,L,hL=>hL
 | f+1,k,L,hL=>by
  rw [go];cases e:L[k]? with
  | none=>exact λq hq=>aN (hL q hq) (by omega)
  | some x =>
   have hx:=hL x (aM e);have t:=yZ (h:=h) hx (dh h.things) L λq hq=>aN (hL q hq) (by omega);simp only [];cases et:tryAll h x (dh h.things) L with
   | error w =>rw [et] at t;exact aN t (by omega)
   | ok M =>rw [et] at t;have g:=go_short h f (k+1) M t;rw [show k+1+f=k+(f+1) by omega] at g;exact g
theorem Bz {h:House}(w:eJ h)(hs:prod h.things<=64){s:State}(o:Ok h.things s)(hp:Ks338.pass h s=s):Jk 65 (Ks339.reach h s):=by
 rw [rg w hs o hp]
 have:=go_short h 65 0 [⟨s,[]⟩] λq hq=>by rw [aK.mp hq];exact ag _
 rw [Nat.zero_add] at this;exact this
def i9 (h:House)(s:State)(e:Event):List State:=(eK h (s.set e.1 e.2)).getD []
def DI (h:House)(L:List Spot):List State:=L.flatMap λp=>(dh h.things).flatMap λe=>i9 h p.state e
theorem vy {h:House}{s s':State}{n:Nat}(e:Ks338.settle h s=some (n,s')):Ks339.through h (Ks337.STATES+1) s=bZ h (n+1) s:=by
 obtain ⟨k,hk,hm,_,hf,hj⟩:=uA h (Ks337.STATES+1) 0 s n s' e
 have:n=k:=by omega
 subst this;obtain ⟨_,q1,q2⟩:=lX e;rw [q1] at q2;exact xW h n (Ks337.STATES+1) s hk hj q2
theorem ll {h:House}{s s':State}{n:Nat}{e:Event}(q:Ks338.settle h (s.set e.1 e.2)=some (n,s')):i9 h s e=bZ h (n+1) (s.set e.1 e.2):=by unfold i9 eK;rw [q];rfl
theorem rk {h:House}{s s':State}{e:Event}(q:Ks339.after h s e=some s'):∃n,Ks338.settle h (s.set e.1 e.2)=some (n,s'):=by
 unfold Ks339.after at q;cases es:Ks338.settle h (s.set e.1 e.2) with
 | none=>rw [es] at q;cases q
 | some y =>
  rw [es] at q
  have:y.2=s':=ao q
  exact ⟨y.1,by rw [<-this]⟩
theorem BA {h:House}{s:State}{e:Event}(hp:Ks338.pass h s=s)(he:e.2=Ks338.value s e.1):i9 h s e=[s]:=by
 have q:Ks338.settle h (s.set e.1 e.2)=some (0,s):=by rw [he,set_same];exact DG hp
 rw [ll q,he,set_same];rfl
theorem Gq {h:House}{L:List Spot}(lo:m5 h L)(hn:h.things≠[])(gh:∀p∈L,∀e∈dh h.things,∃s,Ks339.after h p.state e=some s)(s:State):s∈Ks339.asked h L↔s∈DI h L:=by
 unfold Ks339.asked DI;rw [bq,bq];constructor
 ·rintro ⟨p,hp,hs⟩;refine ⟨p,hp,bq.mpr ?_⟩;obtain ⟨pok,pfix⟩:=lo.ok p hp;rcases ak.mp hs with hs | hs
  ·have hl:0<h.things.length:=List.length_pos_iff.mpr hn;have fz:0<p.state.length:=by rw [pok.len];exact hl
   have hv:p.state[0]?=some (Ks338.value p.state 0):=by unfold Ks338.value;rw [List.getD_eq_getElem?_getD,aI fz];rfl
   have hm:Ks338.value p.state 0<=Ks337.most h.things 0:=by rw [ka (aI hl)];exact pok.at (aI hl) hv
   refine ⟨(0,Ks338.value p.state 0),Ce hl hm,?_⟩;rw [BA pfix rfl,hs];exact aK.mpr rfl
  ·obtain ⟨e,he,hs⟩:=bq.mp hs;rw [lj] at he;have hm:=(List.mem_filter.mp he).1;obtain ⟨s',ha⟩:=gh p hp e hm;obtain ⟨n,q⟩:=rk ha;rw [vy q] at hs;exact ⟨e,hm,by rw [ll q];exact hs⟩
 ·rintro ⟨p,hp,hs⟩;refine ⟨p,hp,?_⟩;obtain ⟨pok,pfix⟩:=lo.ok p hp;obtain ⟨e,he,hs⟩:=bq.mp hs
  by_cases hv:e.2=Ks338.value p.state e.1
  ·rw [BA pfix hv] at hs;rw [aK.mp hs];exact aE ..
  ·obtain ⟨s',ha⟩:=gh p hp e he;obtain ⟨n,q⟩:=rk ha;rw [ll q] at hs;refine aA _ (bq.mpr ⟨e,?_,by rw [vy q];exact hs⟩);rw [lj];exact List.mem_filter.mpr ⟨he,by simpa using hv⟩
def kR (h:House)(i:Nat):Bool:=match h.lines[i]? with
 | some x=>Ks339.isRule x
 | none=>false
theorem UN {h:House}{L:List Spot}{ws:List Nat}(lo:m5 h L)(hn:h.things≠[])(gh:∀p∈L,∀e∈dh h.things,∃s,Ks339.after h p.state e=some s)
  (P2:∀i,i∈ws↔∃s∈DI h L,∃t,t<h.things.length/\Ks338.decides h s t=some i):Ks339.idle h L=(List.range h.lines.length).filter λi=>kR h i && !ws.contains i:=by
 unfold Ks339.idle;simp only [];refine List.filter_congr λi _=>?_;have e:((Ks339.asked h L).flatMap λs=>(List.range h.things.length).filterMap λt=>Ks338.decides h s t).contains i=ws.contains i:=by
  rw [Bool.eq_iff_iff,List.contains_iff_mem,List.contains_iff_mem,P2,bq];constructor
  ·rintro ⟨s,hs,hi⟩;obtain ⟨t,ht,hd⟩:=List.mem_filterMap.mp hi;exact ⟨s,(Gq lo hn gh s).mp hs,t,bj.mp ht,hd⟩
  ·rintro ⟨s,hs,t,ht,hd⟩;exact ⟨s,(Gq lo hn gh s).mpr hs,List.mem_filterMap.mpr ⟨t,bj.mpr ht,hd⟩⟩
 rw [e];rfl
theorem rm {a:Abs}(o:On a):∃L,Ks339.reach a.house a.now=.ok L/\Ks340.spots a=L/\m5 a.house L/\Ok a.house.things a.now/\Ks338.pass a.house a.now=a.now/\∀p∈L,∀e∈dh a.house.things,∃s,Ks339.after a.house p.state e=some s:=by obtain ⟨S,c,s1,_⟩:=o.safe;obtain ⟨L,e,lo,_,hc⟩:=NK o.wf.lines o.da c s1;exact ⟨L,e,by unfold Ks340.spots;rw [e],lo,c.ok _ s1,c.fix _ s1,λp hp ev vz=>let ⟨s,h1,_⟩:=hc p hp ev vz;⟨s,h1⟩⟩
end Hy
namespace L2
open PySem PySem.Spec PyProof.Rows
section
variable {X:Cx}
inductive P4 (K:PySem.W.Frag)(x:V)(y:V)(H:Hp)(Q:VK):Prop | mk a b ys:x=.ref a->y=.ref b->cA K H a []->cA K H b ys->Q (.ref b) H->P4 K x y H Q
theorem RX:gZ X (binaryOp .Add) (P4 X.K):=by
 intro pins s σ H x y v u Q I rx ry h;obtain ⟨a,b,ys,rfl,rfl,ha,hb,q⟩:=h;cases rx;cases ry;obtain ⟨bZ,r1,p1,_⟩:=I.tuple ha;obtain ⟨gg,r2,p2,_⟩:=I.tuple hb;cases r1;obtain ⟨⟨cls,dd,data,sl⟩,ho,hc,n,hd⟩:=id p1;obtain ⟨⟨cls2,dd2,data2,sl2⟩,Di,eB,n2,hd2⟩:=id p2;simp only at hc hd eB hd2;subst hc hd eB hd2;exact concat_meets ⟨_,ho,rfl⟩ ⟨_,Di,rfl⟩ noFill_tuple_add seq_tuple_add PySem.F.slot_tuple_add PySem.F.entry_tuple_add (PySem.F.args_tuple_add_2 _ _)
  (tuple_addW0 a b #[] gg.toArray n n2 dd dd2 sl sl2 rfl) ⟨ho,Di,⟨.ref b,H,I,rfl,q⟩⟩
inductive HS (K:PySem.W.Frag)(x:V)(y:V)(H:Hp)(Q:VK):Prop | mk a b xs ys:x=.ref a->y=.ref b->cA K H a xs->cA K H b ys->xs.length+ys.length<=sizeLine->(xs=[]->Q (.ref b) H)->(xs≠[]->ys=[]->Q (.ref a) H)->(xs≠[]->ys≠[]->∀p,H p=none->Q (.ref p) (upd H p (.tup (xs++ys))))->HS K x y H Q
theorem Fj:gZ X (binaryOp .Add) (HS X.K):=by
 intro pins s σ H x y v u Q I rx ry h;obtain ⟨a,b,xs,ys,ex,ey,ha,hb,hz,q0,q1,q2⟩:=h
 by_cases hx:xs=[]
 ·subst hx;exact RX pins s σ H x y v u Q I rx ry ⟨a,b,ys,ex,ey,ha,hb,q0 rfl⟩
 ·exact Ux pins s σ H x y v u Q I rx ry ⟨a,b,xs,ys,ex,ey,ha,hb,hx,hz,q1 hx,q2 hx⟩
inductive Jl (x:V)(vs:List V)(H:Hp)(Q:VK):Prop | mk l b xs zs:x=.ref l->vs=[.ref b]->H l=some (.lst xs)->H b=some (.tup zs)->xs.length+zs.length<=sizeLine->Q .cw (upd H l (.lst (xs++zs)))->Jl x vs H Q
theorem UO (l:Addr)(bZ:Array Value)(n:Nat)(b:Addr)(gg:Array Value)(n2:Nat)(dd:Option Addr)(sl:Array (Option Value))(YR:¬(!bZ.isEmpty && Builtin.List.listTooLong (bZ.size+gg.size))=true)(fc:bZ.size<=sizeLine)(fP:bZ.size+gg.size<=sizeLine+1) :
  Meets (Builtin.«list.extend» ⟨[.ref l,.ref b],[]⟩) (λ_ R s=>s.heap.get? l=some {cls:=.type "list",dict:=none,data:=.seq bZ n,slots:=#[]}/\s.heap.get? b=some {cls:=.type "tuple",dict:=dd,data:=.seq gg n2,slots:=sl} /\
   R (.ok (.ret Value.none)) {s with heap:=s.heap.update l (Obj.mapSeq λx=>x++gg),toks:=s.toks}) :=
 .of_wp λprog w A R s h=>by
  obtain ⟨hp,g,d,tk,os⟩:=s;obtain ⟨hl,hb,h⟩:=h;have f1:=AutoSeq1.idx_int;have f2:=AutoSeq1.sub_tuple_tuple;have f3:=AutoSeq1.sub_list_list;have f4:=AutoSeq1.sub_tuple_list;have f5:=AutoSeq1.sub_list_tuple;have Mm:(bZ++gg).size<=sizeLine+1:=by rw [Array.size_append];exact fP
  wp_walk using (wpAny_updateSeq hl rfl (hz:=fc) (_hz':=Mm)),AutoSeq1.wpAny_loadPart' hl,AutoSeq1.wpAny_loadPart' hb
  exact ⟨_,rfl,h⟩
theorem NL:Tn X "list.extend" Jl:=by
 intro pins s σ H x vs v us Q I rx rv h;obtain ⟨l,b,xs,zs,rfl,rfl,hH,hB,hz,q⟩:=h;cases rx;obtain ⟨u,rfl,ru⟩:=rv.one;cases ru;obtain ⟨z,bZ,n,r,hl,e⟩:=I.B9 hH;obtain ⟨gg,r2,p2,_⟩:=I.tuple (cA.of hB);have fz:=r2.length;obtain ⟨⟨cls2,dd2,data2,sl2⟩,Di,eB,n2,hd2⟩:=id p2;simp only at eB hd2;subst eB hd2;have hsz:bZ.toArray.size+gg.toArray.size<=sizeLine:=by rw [aG,aG];omega
 have Nt:¬(!bZ.toArray.isEmpty && Builtin.List.listTooLong (bZ.toArray.size+gg.toArray.size))=true:=by rw [IB hsz,Bool.and_false];exact aL
 refine call_meets F.slot_list_extend ⟨_,e,rfl⟩ F.entry_list_extend (F.args_list_extend_2 _ _)
  (UO l bZ.toArray n b gg.toArray n2 dd2 sl2 Nt (by rw [aG];omega) (by omega)) ⟨e,Di,?_⟩
 refine ⟨.cw,_,I.Nr (its':=bZ++gg) hH e (by simp) (r.append r2) ?_,rfl,q⟩;rw [ay];omega
theorem P5 {prog:Program}{w:World}{A:Around}{E:Value->Shared->Prop}{s:Shared}{t sl:Addr}{items:Array Value}{vl vu:Value}{lo hi:Option Int}{Q:Value->Shared->Prop}(ht:IsTup s.heap t items)(hs:s.heap.IsSliceOf sl vl vu .none)(pl:IsPart vl lo)(pu:IsPart vu hi)
  (hw:HT.cZ items.size 0 lo=0/\HT.cZ items.size items.size hi=items.size) (h:Q (.ref t) s):wpAny (model prog w) A (getItem (.ref t) (.ref sl)) Q E s:=by
 obtain ⟨os,Iv,Bj,Pk⟩:=id hs;have VN:s.TypeIs (.ref sl) "slice":=⟨os,Iv,Bj⟩
 unfold getItem
 try with_reducible refine wpAny_holding ?_
 first | refine ae (ah ?_) | skip
 refine ae (wpAny_sequenceKey ht.typeIs (by decide) ?_);refine ae (wpAny_callSpecial?_slot (name:=Str.ofString "__getitem__") ht.typeIs PyProof.Rows.slot_tuple_getitem
  (wpAny_call_entry PyProof.Rows.slot_tuple_getitem ht.typeIs entry_tuple_getitem ?_ (args_tuple_getitem _ _)))
 show wpAny _ _ (Builtin.Tuple.tupleItemsOf (.ref t) >>= _) _ _ s;refine ae (tupleItemsOf_ ht ?_);refine ae (wpAny_typeOf VN ?_);rw [ab (by decide)];refine ae (HT.qS hs pl pu ?_);have RY:(((HT.cZ items.size 0 lo:Nat):Int) == 0 && (1:Int) == 1 && (HT.cZ items.size items.size hi - HT.cZ items.size 0 lo) == items.size)=true:=by rw [hw.1,hw.2];simp
 show wpAny _ _ (if (((HT.cZ items.size 0 lo:Nat):Int) == 0 && (1:Int) == 1 && (HT.cZ items.size items.size hi - HT.cZ items.size 0 lo) == items.size)=true then _ else _) _ _ s;rw [ab RY];unfold Builtin.Tuple.tupleIsExact;refine ae (ae (wpAny_typeOf ht.typeIs (ah ?_)));rw [ab (by decide)];exact ae (wpAny_rule (ah ⟨_,rfl,ah h⟩))
inductive Tw (K:PySem.W.Frag)(x:V)(lo:Option Int)(hi:Option Int)(H:Hp)(Q:VK):Prop | mk a xs:x=.ref a->cA K H a xs->(HT.cZ xs.length 0 lo=0/\HT.cZ xs.length xs.length hi=xs.length)->Q (.ref a) H->Tw K x lo hi H Q
theorem UP:Pn X (Tw X.K):=by
 intro pins s σ H x v vl vu lo hi sl Q I rx hs pl pu h;obtain ⟨a,xs,rfl,hx,hw,q⟩:=h;cases rx;obtain ⟨bZ,r,ht,hz⟩:=I.tuple hx;have hlen:bZ.toArray.size=xs.length:=by rw [aG];exact r.length.symm
 refine ⟨"tuple",_,PyProof.Rows.slot_tuple_getitem.lookup,ht.typeIs,?_⟩;exact P5 ht hs pl pu (by rw [hlen];exact hw) ⟨.ref a,H,I,rfl,q⟩
inductive Jm (K:PySem.W.Frag)(x:V)(lo:Option Int)(hi:Option Int)(H:Hp)(Q:VK):Prop | mk a xs:x=.ref a->cA K H a xs->(HT.cZ xs.length 0 lo=0/\HT.cZ xs.length xs.length hi=xs.length->Q (.ref a) H)->(¬(HT.cZ xs.length 0 lo=0/\HT.cZ xs.length xs.length hi=xs.length)->∀p,H p=none->Q (.ref p) (upd H p (.tup (fE xs lo hi))))->Jm K x lo hi H Q
theorem Fl:Pn X (Jm X.K):=by
 intro pins s σ H x v vl vu lo hi sl Q I rx hs pl pu h;obtain ⟨a,xs,ex,hx,h1,h2⟩:=h
 by_cases hw:HT.cZ xs.length 0 lo=0/\HT.cZ xs.length xs.length hi=xs.length
 ·exact UP pins s σ H x v vl vu lo hi sl Q I rx hs pl pu ⟨a,xs,ex,hx,hw,h1 hw⟩
 ·exact VQ pins s σ H x v vl vu lo hi sl Q I rx hs pl pu ⟨a,xs,ex,hx,hw,h2 hw⟩
end
section
variable {X:Cx}{pins:List (Addr×Obj)}{σ:St}{H:Hp}{s:Shared}{d:Addr}
theorem Inv.HU {kvs:List (List Key×V)}(I:Inv X pins σ H s)(h:Rd H d (.dT kvs)) :
  (d == sysModules)=false/\kvs.length<=sizeLine/\∃(o:Obj)(es:Array DictEntry)(ep:Nat),s.heap.get? d=some o/\o.ExactDict/\o.data=.dict es ep/\es.size=kvs.length /\
   ∀(i:Nat)(k:List Key)(v:V),kvs[i]?=some (k,v)->∃(en:DictEntry)(q:Addr),es[i]?=some en/\en.key=.ref q/\H q=some (.tup (k.map kV))/\RelV v en.val:=by
 obtain ⟨z,hs,xs,pr,o,es,ep,ho,hx,gq,he,_⟩:=(show dw X.prog X.w H s.heap d (.dT kvs) from Nv I.cn h)
 refine ⟨hs,z,o,es,ep,ho,hx,gq,?_,λi k v e=>?_⟩
 ·have l1:es.size=xs.length:=size_of_entries he;have l2:kvs.length=xs.length:=Paired.length pr;omega
 ·obtain ⟨b,hb,e1,e2,e3⟩:=c5 pr e;have q:=entry_at he i;rw [hb] at q;exact ⟨_,b.2.1,q,rfl,e2,e3⟩
theorem UQ {A:Around}{E:Value->Shared->Prop}{o:Obj}{es:Array DictEntry}{ep:Nat}{Q:Value->Shared->Prop}(hd:(d == sysModules)=false)(ho:s.heap.get? d=some o)(hx:o.ExactDict)(gq:o.data=.dict es ep)(acq:(es.size:Int)<2 ^ 63)
  (h:Q (.int es.size (s.toks+1)) {s with toks:=s.toks+1+1}):wpAny (model X.prog X.w) A (call (.builtin "len") [.ref d]) Q E s:=by
 have hT:s.TypeIs (.ref d) "dict":=⟨o,ho,hx.1⟩
 refine Calls.call_function_entry kind_len plain_len entry_len (args_len1 _) ?_;unfold Builtin.«len»;refine ae (m:=oneArg "len" _) (ah ?_);refine ae (m:=callSpecial? (.ref d) (Str.ofString "__len__")) (wpAny_callSpecial?_slot (name:=Str.ofString "__len__") hT F.slot_dict_len
  (wpAny_call_entry F.slot_dict_len hT F.entry_dict_len ?_ (F.args_dict_len_1 _)))
 show wpAny _ _ (dictSize d >>= _) _ _ s;unfold dictSize;refine ae (ae (wpAny_dictEntries ho gq (ah ?_)));show wpAny _ _ (Builtin.Dict.pendingCount d >>= _) _ _ s;refine ae (wpAny_pendingCount_other hd (wpAny_ret_mkInt ?_));show wpAny _ _ _ _ _ {s with toks:=s.toks+1};refine ae (wpAny_holding (ah ?_));refine ae (wpAny_letGo ?_);have e0:((es.size:Nat):Int)+((0:Nat):Int)=(es.size:Int):=by omega
 show wpAny _ _ (if ((es.size:Nat):Int)+((0:Nat):Int)<0 then _ else _) _ _ _;rw [aa (by omega)];show wpAny _ _ (if ((es.size:Nat):Int)+((0:Nat):Int)≥2 ^ 63 then _ else _) _ _ _;rw [aa (by omega)];refine ae (wpAny_mkInt (ah ⟨_,rfl,?_⟩));rw [e0];exact h
theorem P6:j3 X (.builtin "len") (λxs H Q=>∃a kvs,xs=[V.ref a]/\H a=some (.dT kvs)/\Q (.int kvs.length) H):=by intro pins s σ H xs us Q I r h;obtain ⟨a,kvs,rfl,ha,q⟩:=h;obtain ⟨u,rfl,ru⟩:=vals1 r;cases ru;obtain ⟨hs,z,o,es,ep,ho,hx,gq,hsz,_⟩:=I.HU (.inl ha);refine UQ hs ho hx gq (by rw [hsz];rw [sizeLine_eq] at z;omega) ?_;rw [hsz];exact ⟨.int _,H,I.tok _,⟨_,rfl⟩,q⟩
theorem UR {P:Program}{w:World}{o:Obj}{es:Array DictEntry}{ep:Nat}(hd:(d == sysModules)=false)(hx:o.ExactDict)(gq:o.data=.dict es ep) :
  PySem.W.KdlSrc P w "dict" d d es.size (λi v=>∃en:DictEntry,es[i]?=some en/\v=en.key) (λh=>h.get? d=some o) where
 type:=λ_ hm=>⟨o,hm,hx.1⟩
 there:=λ_ hm=>⟨ax hm,ax hm⟩
 keep:=λ_ _ hm hk=>hk d (.inl rfl) o hm
 notList:=by decide
 notTuple:=by decide
 hint:=λ_ _ _ _ hm hq=>PySem.W.kdl_hint_dict ⟨o,hm,hx.1⟩ hq
 iter:=λA s hh hm=>by
  have dP:d≠s.heap.objs.size:=aU (ax hm);refine ⟨_,λi h=>h.IsKeyIter s.heap.objs.size d i es.size ep/\h.get? d=some o,(λE Q hq=>Ga hd hm hx gq hq),?_,⟨⟨_,aF _ rfl,rfl,rfl⟩,aq _ hm⟩⟩;exact {
   sub:=λb hb=>by simp at hb;simp [hb]
   frame:=λ_ _ _ st hk=>⟨st.1.at λo e=>hk _ (by simp) o e,hk d (by simp) o st.2⟩
   item:=λi s' Q E hi st hQ=>by
    refine xP st.1 st.2 gq rfl (Array.getElem?_eq_getElem hi) λh' yI Mn=>?_;exact hQ _ h' s'.toks ⟨es[i],Array.getElem?_eq_getElem hi,rfl⟩ ⟨yI,Mn.extBut _ _ dP st.2⟩ λb o hb e=>Mn.extBut b o (λh=>hb (by simp [h])) e
   done:=λs' Q E st hQ=>yJ hh st.1 st.2 gq rfl (ag _) λh' xQ=>hQ h' s'.toks λb o hb e=>xQ b o (λh=>hb (by simp [h])) e
   self:=λ_ _ _ _ st hQ=>wpAny_pyIter_keyiter st.1 hQ}
inductive P7 (xs:List V)(H:Hp)(Q:VK):Prop | mk a kvs:xs=[V.ref a]->H a=some (.dT kvs)->(∀l (qs:List Addr),H l=none->Paired (λ(p:List Key×V)(q:Addr)=>H q=some (.tup (p.1.map kV))) kvs qs->Q (.ref l) (upd H l (.lst (qs.map V.ref))))->P7 xs H Q
theorem y3 {P:Nat->Value->Prop}{acc:Array Value}{n:Nat}(h:ItemsOf P acc n):acc.toList.length=n/\∀(j:Nat)(v:Value),acc.toList[j]?=some v->P j v :=⟨by rw [Array.length_toList];exact h.1,λj v e=>h.2 j v (by rw [<-Array.getElem?_toList];exact e)⟩
theorem BB {H:Hp}:∀(kvs:List (List Key×V))(us:List Value),us.length=kvs.length ->
  (∀(j:Nat)(u:Value)(p:List Key×V),us[j]?=some u->kvs[j]?=some p->∃q,u=Value.ref q/\H q=some (.tup (p.1.map kV))) ->
  ∃qs:List Addr,us=qs.map Value.ref/\Paired (λ(p:List Key×V)(q:Addr)=>H q=some (.tup (p.1.map kV))) kvs qs
 | [],[],_,_=>⟨[],rfl,.nil⟩
 | p::kvs,u::us,hl,h=>by obtain ⟨q,hu,hq⟩:=h 0 u p rfl rfl;obtain ⟨qs,V0,hp⟩:=BB kvs us (by simpa using hl) λj u' p' e1 e2=>h (j+1) u' p' (by simpa using e1) (by simpa using e2);exact ⟨q::qs,by rw [hu,V0];rfl,.cons hq hp⟩
 | [],_::_,hl,_=>by simp at hl
 | _::_,[],hl,_=>by simp at hl
theorem Gs:∀qs:List Addr,Vals (qs.map V.ref) (qs.map Value.ref)
 | []=>.nil
 | _::r=>.cons rfl (Gs r)
theorem DJ (NM:X.calm=true):j3 X (.type "list") P7:=by
 intro pins s σ H xs us Q I r h;obtain ⟨a,kvs,rfl,ha,q⟩:=h;obtain ⟨u,rfl,ru⟩:=vals1 r;cases ru;obtain ⟨hs,z,o,es,ep,ho,hx,gq,hsz,ent⟩:=I.HU (.inl ha);refine PySem.W.kdl_call (UR hs hx gq) (I.ok.hd NM) ho (by rw [hsz];exact z) λh' tk acc c' hk hl RZ=>?_;obtain ⟨hlen,hit⟩:=y3 RZ;obtain ⟨qs,eqs,hp⟩:=BB (H:=H) kvs acc.toList (by rw [hlen,hsz]) λj u p e1 e2=>by obtain ⟨en,he,hv⟩:=hit j u e1;obtain ⟨en',q',xQ,Pu,Bh,_⟩:=ent j p.1 p.2 e2;rw [he] at xQ;cases xQ;exact ⟨q',hv.trans Pu,Bh⟩
 have hn:H s.heap.objs.size=none:=I.cn.fresh (ag _);have hqs:qs.length=kvs.length:=(Paired.length hp).symm;have new:dw X.prog X.w (upd H s.heap.objs.size (.lst (qs.map V.ref))) h' s.heap.objs.size (.lst (qs.map V.ref)) :=⟨by rw [af,hqs];exact z,qs.map Value.ref,c',Gs qs,by rw [hl,<-eqs]⟩
 exact ⟨.ref s.heap.objs.size,_,I.laid (t':=tk) hk (ag _) new,rfl,q _ qs hn hp⟩
inductive P8 (xs:List V)(H:Hp)(Q:VK):Prop | mk a kvs:xs=[V.ref a]->H a=some (.dK kvs)->(∀l,H l=none->Q (.ref l) (upd H l (.lst (kvs.map λp=>kV p.1))))->P8 xs H Q
theorem Gu:∀(kvs:List (Key×V))(us:List Value),us.length=kvs.length->(∀(j:Nat)(u:Value)(p:Key×V),us[j]?=some u->kvs[j]?=some p->tP p.1 u=true)->Vals (kvs.map λp=>kV p.1) us
 | [],[],_,_=>.nil
 | p::kvs,u::us,hl,h=>.cons (RG (h 0 u p rfl rfl)) (Gu kvs us (by simpa using hl) λj u' p' e1 e2=>h (j+1) u' p' (by simpa using e1) (by simpa using e2))
 | [],_::_,hl,_=>by simp at hl
 | _::_,[],hl,_=>by simp at hl
theorem NN (NM:X.calm=true):j3 X (.type "list") P8:=by
 intro pins s σ H xs us Q I r h;obtain ⟨a,kvs,rfl,ha,q⟩:=h;obtain ⟨u,rfl,ru⟩:=vals1 r;cases ru;obtain ⟨z,hs,vs,rel,dd⟩:=To I.cn ha;obtain ⟨o,es,ep,ho,hx,gq,r0⟩:=dd;have YS:kvs.length=vs.length:=Paired.length rel;refine PySem.W.kdl_call (PySem.W.kdl_dict (knd:=fk X.prog X.w) (kvs:=vs) (ep:=ep) hs) (I.ok.hd NM) ⟨o,es,ho,hx,gq,r0⟩ (by rw [<-YS];exact z) λh' tk acc c' hk hl RZ=>?_;obtain ⟨hlen,hit⟩:=y3 RZ;have X7:Vals (kvs.map λp=>kV p.1) acc.toList:=Gu kvs acc.toList (by rw [hlen,YS]) λj u p e1 e2=>by obtain ⟨k,x,e3,e4⟩:=hit j u e1;obtain ⟨w',e5,_⟩:=Wc rel (i:=j) (k:=p.1) (v:=p.2) e2;rw [e5] at e3;cases e3;exact e4
 have hn:H s.heap.objs.size=none:=I.cn.fresh (ag _);have new:dw X.prog X.w (upd H s.heap.objs.size (.lst (kvs.map λp=>kV p.1))) h' s.heap.objs.size (.lst (kvs.map λp=>kV p.1)) :=⟨by rw [af];exact z,acc.toList,c',X7,by rw [hl]⟩
 exact ⟨.ref s.heap.objs.size,_,I.laid (t':=tk) hk (ag _) new,rfl,q _ hn⟩
def Wt (tk tv:TE):TE:=λσ H Q=>∀p,H p=none->tk σ (upd H p (.dT [])) λx H1=>tv σ H1 λy H2=>H2 p=some (.dT [])/\∃b ks,x=.ref b/\H2 b=some (.tup (List.map kV ks))/\Q (.ref p) (upd H2 p (.dT [(ks,y)]))
theorem R0 {e f:Expr}{tk tv:TE}{pos:Pos}(hu:X.A.units+1<cLine)(he:PE X e tk)(hf:PE X f tv):PE X (.Dict [some e] [f] pos) (Wt tk tv):=by
 intro pins s σ H Q I q;have hn:=I.cn.fresh (ag s.heap.objs.size);have I1:=I.laid (a:=s.heap.objs.size) (o:=.dT []) (h':=s.heap.push {cls:=.type "dict",data:=.dict #[]}) (t':=s.toks) (λ_ _ q=>aq _ q) (ag _) (IH s.heap I.big);refine wpAny_Dict_any rfl rfl (by simp) (by simp) (pairTrees_cons_walk ?_);refine cT (he pins _ σ _ _ I1 (q _ hn)) λu s1 ⟨x,H1,I2,rx,q1⟩=>cT (hf pins s1 σ H1 _ I2 q1) λu2 s2 ⟨y,H2,I3,ry,hp,b,ks,ex,hb,q2⟩=>pairTrees_nil_walk ?_;subst ex;cases rx;unfold storeAll;rw [List.forIn_cons];obtain ⟨z,hd,xs,rel,dd⟩:=Tp I3.cn hp;have hr:(tupleKind (fk X.prog X.w)).room X.A:=show X.A.units<cLine from by omega
 refine ae (ae (wpAny_dictSet_heap (knd:=tupleKind (fk X.prog X.w)) (hsz:=by have e:=Paired.length rel;rw [<-e];exact aW _) hr (yG I3.cn hb) dd λh' dd' hs=>ah ?_));dsimp only;rw [List.forIn_nil];refine ah ⟨.ref s.heap.objs.size,_,?_,rfl,q2⟩;obtain ⟨qo,es,ep,hq,h2,h3,h4,_,h5⟩:=dd';have aai:KT H2 [(ks,y)] (storedH xs ks b u2):=rel.put ks hb ry;refine E6 I3 (by rw [hp];exact True.intro) hs ⟨qo,hq⟩ ⟨by show 1<=sizeLine;decide,hd,_,aai.keeps λc ys ec=>?_,qo,es,ep,hq,h2,h3,h4,h5⟩;rw [bR (tQ ec hp (λz=>nomatch z))];exact ec
end
section
variable {prog:Program}{w:World}{A:Around}{E:Value->Shared->Prop}{s:Shared}
theorem NO {d:Addr}{o:Obj}{es:Array DictEntry}{ep:Nat}(hd:(d == sysModules)=false):MeetsIn prog w (Builtin.«dict.items» ⟨[.ref d],[]⟩) (λ_ R s=>(∃o:Obj,s.heap.get? d=some o/\o.cls=.type "dict") /\
  R (.ok (.ret (.ref s.heap.objs.size))) {s with heap:=s.heap.push {cls:=.type "dict_items",data:=.fields #[.ref d]}}) :=
 .of_wp λA R s ⟨⟨o,ho,hc⟩,h⟩=>by unfold Builtin.«dict.items»;refine ae ?_;unfold Builtin.Dict.noArgs;refine ae (wpAny_notOrdered_dict ⟨o,ho,hc⟩ ?_);show wpAny _ _ (pure d) _ _ s;refine ah ?_;show wpAny _ _ (Builtin.Dict.showsAll d >>= _) _ _ s;unfold Builtin.Dict.showsAll;rw [aa (by rw [hd];exact aL)];exact ae (ah (ae (wpAny_newObj_type (ah ⟨_,rfl,h⟩))))
theorem NP {v d:Addr}{o:Obj}{es:Array DictEntry}{ep:Nat}{Q:Value->Shared->Prop}(hv:s.heap.IsItemsView v d)(ho:s.heap.get? d=some o)(IK:o.data=.dict es ep)
  (hQ:Q (.ref s.heap.objs.size) {s with heap:=s.heap.push {cls:=.type "dict_itemiterator",data:=.fields #[.none,.bool false,.ref d,.int 0 0,.int es.size 0,.int ep 0,.none,.none]}}) :
  wpAny (model prog w) A (pyIter (.ref v)) Q E s:=by
 obtain ⟨ov,hov,hcv,hdv⟩:=id hv;refine wpAny_pyIter_slot hv.typeIs F.slot_dict_items_iter (wpAny_call_entry F.slot_dict_items_iter hv.typeIs F.entry_dict_items_iter ?_ (F.args_dict_items_iter_1 _));unfold Builtin.«dict_items.__iter__»;refine ae (ah (ae ?_));unfold Builtin.Dict_items.dictOf;refine ae (aR hov hdv (x:=.ref d) rfl (ah (ae ?_)));unfold Builtin.Dict_items.newIterator;refine ae (wpAny_dictEntries ho IK (ae (wpAny_dictEpoch ho IK ?_)));have wt:Builtin.Dict_items.ownsTuple "dict_itemiterator"=true:=by decide
 simp only [wt,if_true];refine wpAny_newObj_type (ah ⟨_,rfl,"dict_itemiterator",_,⟨_,aF _ rfl,rfl⟩,F.slot_dict_itemiterator_next.lookup,?_⟩)
  (by simp only [sizeOk,Builtin.Dict_items.ownedTupleFields,aG,ay,au,List.length_nil,sizeLine_eq];omega)
 simpa [rawInt,Builtin.Dict_items.ownedTupleFields] using hQ
theorem NQ {it d:Addr}{i n ep:Nat}{od:Obj}{es:Array DictEntry}{en:DictEntry}{ok ov:Value}{Q:Option Value->Shared->Prop}(hit:IsItemIter s.heap it d i n ep ok ov)(oU:s.heap.get? d=some od)(qX:od.data=.dict es ep)
  (hsz:es.size=n) (hx:es[i]?=some en)
  (hQ:∀h',IsItemIterOut h' it d (i+1) n ep en.key en.val s.heap.objs.size->h'.get? s.heap.objs.size=some {cls:=.type "tuple",data:=.seq #[en.key,en.val]}->h'.objs.size=s.heap.objs.size+1 ->
   (∀b o,b≠it->s.heap.get? b=some o->h'.get? b=some o)->Q (some (.ref s.heap.objs.size)) {s with heap:=h'}) :
  wpAny (model prog w) A (pyNext (.ref it)) Q E s:=by
 obtain ⟨hp,g,dr,tk,os⟩:=s;have hT:Shared.TypeIs ⟨hp,g,dr,tk,os⟩ (.ref it) "dict_itemiterator":=⟨_,hit,rfl⟩
 unfold pyNext;refine ae (wpAny_attempt (wpAny_callSpecial?_slot (name:=Str.ofString "__next__") hT F.slot_dict_itemiterator_next
  (wpAny_call_entry F.slot_dict_itemiterator_next hT F.entry_dict_itemiterator_next ?_ (F.args_dict_itemiterator_next_1 _))))
 refine ae (ah (ae (ae ?_)))
 first | refine ae (wpAny_typeNameOfWhole_itemiter hT (ah ?_)) | refine ae (wpAny_typeNameOf_itemiter hT (ah ?_))
 refine ae (wpAny_fieldsOf hit rfl ?_);have wt:Builtin.Dict_items.ownsTuple "dict_itemiterator"=true:=by decide
 simp only [wt,if_true];show wpAny _ _ (if (Value.ref d == Value.none)=true then _ else _) _ _ _;rw [aa (show ¬((Value.ref d == Value.none)=true) from aL)];refine ae (ah (ae (wpAny_dictEntries oU qX ?_)));rw [aa (by rw [hsz];simp)];refine ae (ah (ae (wpAny_dictEpoch oU qX ?_)));rw [aa (by simp)];refine ah ?_;obtain ⟨RE,vp⟩:=Array.getElem?_eq_some_iff.mp hx;simp only [show ¬((i:Int)<0) from by omega,if_false,Int.toNat_natCast,Array.getElem?_eq_getElem RE];rw [vp];refine ae ?_
 first | refine ae (wpAny_typeNameOfWhole_itemiter hT (ah ?_)) | refine ae (wpAny_typeNameOf_itemiter hT (ah ?_))
 refine ae (wpAny_isOneOf_itemiter hT ?_);show wpAny _ _ (setField (.ref it) 3 (rawInt ((i:Int)+1)) >>= _) _ _ ⟨hp,g,dr,tk,os⟩;refine ae (wpAny_setField_rec hit (by simp) λh1 BC fc=>?_)
 replace fc:Heap.SameBut it hp h1:=fc
 replace BC:IsItemIter h1 it d (i+1) n ep ok ov:=by
  have e:((i+1:Nat):Int)=(i:Int)+1:=by omega
  unfold IsItemIter;rw [e];simpa [rawInt] using BC
 have Wu:Shared.TypeIs ⟨h1,g,dr,tk,os⟩ (.ref it) "dict_itemiterator":=⟨_,BC,rfl⟩
 refine ae (wpAny_holding (ae (wpAny_isOneOf_itemiter Wu (ae (wpAny_isOneOf_itemiter Wu ?_)))));show wpAny _ _ (Builtin.Dict_items.pairFromOwner (.ref it) 6 en.key en.val) _ _ ⟨h1,g,dr,tk,os⟩;unfold Builtin.Dict_items.pairFromOwner;refine ae (wpAny_newTuple ?_);have BD:IsItemIter (h1.push {cls:=.type "tuple",data:=.seq #[en.key,en.val]}) it d (i+1) n ep ok ov:=aq _ BC
 generalize lY:h1.push {cls:=.type "tuple",data:=.seq #[en.key,en.val]}=h2 at BD
 have oY:h1.objs.size=hp.objs.size:=fc.1;have Dq:it<hp.objs.size:=ax hit;have ht2:h2.get? hp.objs.size=some {cls:=.type "tuple",data:=.seq #[en.key,en.val]}:=by rw [<-lY,<-oY];exact aF _ rfl
 have Mm:h2.objs.size=hp.objs.size+1:=by rw [<-lY,aV,oY]
 have Jn:∀b o,b≠it->hp.get? b=some o->h2.get? b=some o:=λb o hb e=>by rw [<-lY];exact aq _ (fc.extBut b o hb e)
 show wpAny _ _ (Builtin.Dict_items.ownedTupleIsFree (.ref it) >>= _) _ _ ⟨h2,g,dr,tk,os⟩;rw [oY];clear lY BC fc Wu oY h1;refine ae ?_;unfold Builtin.Dict_items.ownedTupleIsFree;refine ae (aR BD rfl (x:=.none) rfl (ah ?_));simp only [if_true];refine ae (aR BD rfl (x:=ok) rfl (ae (aR BD rfl (x:=ov) rfl ?_)));refine ae (wpAny_setField_rec BD (by simp) λh3 Gv fW=>?_)
 replace fW:Heap.SameBut it h2 h3:=fW
 replace Gv:IsItemIter h3 it d (i+1) n ep en.key ov:=Gv
 refine ae (wpAny_setField_rec Gv (by simp) λh4 Gw p8=>?_)
 replace p8:Heap.SameBut it h3 h4:=p8
 replace Gw:IsItemIter h4 it d (i+1) n ep en.key en.val:=Gw
 refine ae (wpAny_setField_rec Gw (by simp) λh5 Jo kT=>?_)
 replace kT:Heap.SameBut it h4 h5:=kT
 replace Jo:IsItemIterOut h5 it d (i+1) n ep en.key en.val hp.objs.size:=Jo
 refine ae (wpAny_setField_rec Jo (by simp) λh6 Jp xY=>?_)
 replace xY:Heap.SameBut it h5 h6:=xY
 replace Jp:IsItemIterOut h6 it d (i+1) n ep en.key en.val hp.objs.size:=Jp
 refine ae (wpAny_letGo (ah (ah ⟨_,rfl,ah (hQ h6 Jp ?_ ?_ ?_)⟩)))
 ·exact xY.extBut _ _ (Nat.ne_of_gt Dq) (kT.extBut _ _ (Nat.ne_of_gt Dq) (p8.extBut _ _ (Nat.ne_of_gt Dq) (fW.extBut _ _ (Nat.ne_of_gt Dq) ht2)))
 ·show h6.objs.size=hp.objs.size+1;rw [xY.1,kT.1,p8.1,fW.1,Mm]
 ·exact λb o hb e=>xY.extBut b o hb (kT.extBut b o hb (p8.extBut b o hb (fW.extBut b o hb (Jn b o hb e))))
theorem P9 {it d:Addr}{i n ep:Nat}{od:Obj}{es:Array DictEntry}{ok ov:Value}{Q:Option Value->Shared->Prop}(hh:A.handled=none)(hit:IsItemIter s.heap it d i n ep ok ov)(oU:s.heap.get? d=some od)(qX:od.data=.dict es ep)
  (hsz:es.size=n) (fX:n<=i) (hQ:∀h',Heap.ExtBut it s.heap h'->Q none {s with heap:=h'}):wpAny (model prog w) A (pyNext (.ref it)) Q E s:=by
 have hT:s.TypeIs (.ref it) "dict_itemiterator":=⟨_,hit,rfl⟩
 unfold pyNext;refine ae (wpAny_attempt (wpAny_callSpecial?_slot (name:=Str.ofString "__next__") hT F.slot_dict_itemiterator_next
  (wpAny_call_entry F.slot_dict_itemiterator_next hT F.entry_dict_itemiterator_next ?_ (F.args_dict_itemiterator_next_1 _))))
 refine ae (ah (ae (ae ?_)))
 first | refine ae (wpAny_typeNameOfWhole_itemiter hT (ah ?_)) | refine ae (wpAny_typeNameOf_itemiter hT (ah ?_))
 refine ae (wpAny_fieldsOf hit rfl ?_);have wt:Builtin.Dict_items.ownsTuple "dict_itemiterator"=true:=by decide
 simp only [wt,if_true];show wpAny _ _ (if (Value.ref d == Value.none)=true then _ else _) _ _ s;rw [aa (show ¬((Value.ref d == Value.none)=true) from aL)];refine ae (ah (ae (wpAny_dictEntries oU qX ?_)));rw [aa (by rw [hsz];simp)];refine ae (ah (ae (wpAny_dictEpoch oU qX ?_)));rw [aa (by simp)];refine ah ?_;have RF:es.size<=i:=by rw [hsz];exact fX
 simp only [show ¬((i:Int)<0) from by omega,if_false,Int.toNat_natCast,Array.getElem?_eq_none RF];refine ae ?_
 first | refine ae (wpAny_typeNameOfWhole_itemiter hT (ah ?_)) | refine ae (wpAny_typeNameOf_itemiter hT (ah ?_))
 show wpAny _ _ (setField (.ref it) 2 .none >>= _) _ _ s;refine ae (wpAny_setField hit rfl (by simp) ?_);show wpAny _ _ (newExc (.type "StopIteration") [] >>= _) _ _ _;refine ae ?_;simp only [newExc,newTuple];refine ae (wpAny_newObj_type ?_ (by size_fits));refine ae (m:=firstArgMember _ _) (wpAny_of_eq (a:=Value.none) (by first | rfl | (simp only [firstArgMember];rfl)) ?_);refine wpAny_newObj_type ?_ (by size_fits);simp only [raiseNew];refine ae (wpAny_handled ?_);rw [show A.in1.handled=none from hh];refine ae (ah (wpAny_throw ?_));refine ae (wpAny_isInstance (T:="StopIteration") (b:=true) ⟨_,aF _ rfl,rfl⟩ isSubtype_stop ?_);exact ah (hQ _ (((Heap.SameBut.update ..).extBut.push _).push _))
end
def Fm (d:Addr)(o:Obj)(kvs:List (List Key×V)):It :=⟨λi H=>H d=some (.e7 o (.dT kvs))/\i<kvs.length,λi H x H'=>∃T k v q,kvs[i]?=some (k,v)/\x=.ref T/\H T=none/\H q=some (.tup (List.map kV k))/\H'=upd H T (.tup [.ref q,v]),λi H=>H d=some (.e7 o (.dT kvs))/\kvs.length<=i⟩
section
variable {P:Program}{w:World}{K:PySem.W.Frag}{d:Addr}{o:Obj}{es:Array DictEntry}{ep:Nat}
theorem La {kvs:List (List Key×V)}{elts:List Expr}{kk:Nat}{jm:Pos}(it:Addr)(oU:o.data=.dict es ep) :
  Turn P w K (.Tuple elts kk jm) (Fm d o kvs) [it] it (λi h=>∃ok ov,IsItemIter h it d i kvs.length ep ok ov) where
 mem:=by simp
 obj:=λi h st b hb=>by
  have e:b=it:=by simpa using hb
  subst e;obtain ⟨ok,ov,e⟩:=st;exact ⟨_,e,λv z=>nomatch z⟩
 keep:=λi h h' st k=>let ⟨ok,ov,e⟩:=st;⟨ok,ov,k it (by simp) _ e⟩
 item:=by
  intro X hP hw hK hc i pins s σ H E I hf st hg;subst hP hw hK;obtain ⟨hd,hi⟩:=hg;obtain ⟨hs,z,o',Bc,Bd,qa,hx,gq,hsz,ent⟩:=I.HU (.inr ⟨o,hd⟩);have Gx:s.heap.get? d=some o:=(I.cn d _ hd).1;rw [Gx] at qa;cases qa;obtain ⟨rfl,rfl⟩:=Aw oU gq;obtain ⟨⟨k,v⟩,PF⟩:∃p,kvs[i]?=some p:=⟨kvs[i],aI hi⟩
  obtain ⟨en,q,vp,Ip,hq,rv⟩:=ent i k v PF;obtain ⟨ok,ov,he⟩:=st;have c9:it<s.heap.objs.size:=ax he;refine NQ he Gx gq hsz vp λh' ho hT hz hk=>?_;refine ⟨_,rfl,wpAny_letOwnedTupleGo_items (s:={s with heap:=h'}) ho λp9 xQ sb=>?_⟩;have IL:p9.get? s.heap.objs.size=some {cls:=.type "tuple",data:=.seq #[en.key,en.val]}:=(sb.2 _ (Nat.ne_of_gt c9)).trans hT;have new:dw X.prog X.w (upd H s.heap.objs.size (.tup [.ref q,v])) p9 s.heap.objs.size (.tup [.ref q,v]) :=⟨by show 2<=sizeLine;decide,[en.key,en.val],.cons Ip (.cons rv .nil),⟨_,IL,rfl,_,rfl⟩⟩
  have I1:Inv X pins σ (upd H s.heap.objs.size (.tup [.ref q,v])) {s with heap:=p9} :=I.tV (t':=s.toks) (ch:=[it]) (λb ob hb e=>(sb.2 b (by simpa using hb)).trans (hk b ob (by simpa using hb) e)) hf (ag _) new
  refine ⟨.ref s.heap.objs.size,_,I1,rfl,⟨_,k,v,q,PF,rfl,I.cn.fresh (ag _),hq,rfl⟩,⟨en.key,en.val,xQ⟩,λb hb=>?_⟩;have e:b=it:=by simpa using hb
  rw [e,bR (aU c9)];exact (hf it (by simp)).1
 done:=by
  intro X hP hw hK hc i pins s σ H E I hf st hg;subst hP hw hK;obtain ⟨hd,hi⟩:=hg;obtain ⟨f0,f1,f2,f3,f4,f5⟩:=hf it (by simp);obtain ⟨hs,z,o',Bc,Bd,qa,hx,gq,hsz,ent⟩:=I.HU (.inr ⟨o,hd⟩);have Gx:s.heap.get? d=some o:=(I.cn d _ hd).1;rw [Gx] at qa;cases qa;obtain ⟨rfl,rfl⟩:=Aw oU gq;obtain ⟨ok,ov,he⟩:=st;exact P9 (I.ok.hd hc) he Gx gq hsz hi λh' eb=>⟨rfl,I.turned (t':=s.toks) (λb ob hb e=>eb b ob hb e) f0 f1 f3 f4 f5⟩
 self:=λA i s Q E st h=>let ⟨_,_,e⟩:=st;PySem.W.kcp_self e h
end
inductive Qa (R:It->Hp->Prop)(x:V)(H1:Hp):Prop | mk d kvs:x=.ref d->H1 d=some (.dT kvs)->(∀o,R (E9 d o kvs) (upd H1 d (.e7 o (.dT kvs))))->Qa R x H1
def Wv (td:TE):TI:=λσ H R=>td σ H λx H1=>Qa R x H1
inductive Mo (R:It->Hp->Prop)(x:V)(H1:Hp):Prop | mk d kvs:x=.ref d->H1 d=some (.dT kvs)->(∀o,R (Fm d o kvs) (upd H1 d (.e7 o (.dT kvs))))->Mo R x H1
def US (td:TE):TI:=λσ H R=>td σ H λx H1=>Mo R x H1
section
variable {X:Cx}{tg e:Expr}{td:TE}{apos gL:Pos}
theorem R1 (he:PE X e td):PI X tg e (Wv td):=by intro pins s σ H R I h;refine cT (he pins s σ H _ I h) λu s1 ⟨x,H1,I1,rx,d,kvs,ex,hd,q⟩=>?_;subst ex;obtain rfl:u=Value.ref d:=rx;obtain ⟨od,I2⟩:=I1.lock hd True.intro;obtain ⟨hs,qa,hx,es,ep,gq,hsz,ent⟩:=I2.Nw bN;refine Ga hs qa hx gq (yH (tk:=s1.toks) I2 _ (Ny _ gq) ⟨_,aF _ rfl,rfl,?_⟩ (q od));rw [hsz] <;> rfl
theorem Gy {elts:List Expr}{kk:Nat}{jm:Pos}(he:PE X e td)(j5:attributeBase e "items" X.env (eval e X.env)=eval e X.env:=by rfl)(j6:(apos.endLine == gL.line)=true:=by rfl) :
  PI X (.Tuple elts kk jm) (.Call (.Attribute e "items" apos) [] [] gL) (US td):=by
 intro pins s σ H R I h;refine wpAny_Call_method (T:="dict") (id:="dict.items") j5 rfl j6 F.plainAttrs_dict F.slot_dict_items F.type_dict_items (cT (he pins s σ H _ I h) λu s1 ⟨x,H1,I1,rx,d,kvs,ex,hd,q⟩=>?_);subst ex;obtain rfl:u=Value.ref d:=rx;obtain ⟨od,I2⟩:=I1.lock hd True.intro;obtain ⟨hs,qa,hx,es,ep,gq,hsz,ent⟩:=I2.Nw bN;have hT:s1.TypeIs (.ref d) "dict":=⟨od,qa,hx.1⟩
 refine ⟨hT,λb q=>?_,?_⟩
 ·cases q;exact ⟨od,qa,hx.2.1⟩
 have I3:Inv X pins σ (upd H1 d (.e7 od (.dT kvs))) {s1 with heap:=s1.heap.push {cls:=.type "dict_items",data:=.fields #[.ref d]}}:=I2.kept (t':=s1.toks) λb ob q=>aq _ q;have fin:wpAny (model X.prog X.w) X.A (pyIter (.ref s1.heap.objs.size)) (S7 X pins σ (.Tuple elts kk jm) R) X.xe {s1 with heap:=s1.heap.push {cls:=.type "dict_items",data:=.fields #[.ref d]}}:=by refine NP (d:=d) (o:=od) ⟨_,aF _ rfl,rfl,rfl⟩ (aq _ qa) gq (yH (tk:=s1.toks) I3 _ (La _ gq) ⟨.none,.none,?_⟩ (q od));rw [hsz];exact aF _ rfl
 show wpAny _ _ (callWith gL (.builtin "dict.items") [.ref d] [] []) _ X.xe s1;exact method_meetsIn F.slot_dict_items F.entry_dict_items rfl (PySem.evalArgs_none ⟨rfl,hT,F.args_dict_items_1 _,_,NO (o:=od) (es:=es) (ep:=ep) hs,⟨od,qa,hx.1⟩,fin⟩)
end
end L2
namespace L2
open PySem PySem.Spec PyProof.Rows
open AutoSeq1 (wpAny_loadPart')
section
variable {prog:Program}{w:World}{A:Around}{E:Value->Shared->Prop}{s:Shared}
theorem R4 (a v:Value):checkTypeCall "enumerate" ⟨[a],[("start",v)]⟩=pure ():=by kernel_rfl
theorem R5 (a v:Value):checkBuiltinCall "enumerate.__new__" ⟨[.type "enumerate",a],[("start",v)]⟩=pure ():=by kernel_rfl
theorem Qb (l:Addr)(items:Array Value)(n:Nat)(dct:Option Addr)(sl:Array (Option Value))(t:Tok) :
  Meets (Builtin.«enumerate.__new__» ⟨[.type "enumerate",.ref l],[("start",.int 1 t)]⟩) (λ_ R s=>s.heap.get? l=some {cls:=.type "list",dict:=dct,data:=.seq items n,slots:=sl} /\
   R (.ok (.ret (.ref (s.heap.push {cls:=.type "list_iterator",data:=.fields #[.ref l,.int 0 0]}).objs.size)))
    {s with heap:=(s.heap.push {cls:=.type "list_iterator",data:=.fields #[.ref l,.int 0 0]}).push {cls:=.type "enumerate",data:=.fields #[.none,.bool false,.ref s.heap.objs.size,rawInt 1,.none,.none]}}) :=
 .of_wp λprog w A R s h=>by
  obtain ⟨hp,g,d,tk,os⟩:=s;obtain ⟨hl,h⟩:=h;have NR:=sub_enumerate;have hL:Heap.IsList (Shared.heap ⟨hp,g,d,tk,os⟩) l items:=⟨_,hl,rfl,n,rfl⟩
  wp_walk using wpAny_loadPart' hl
  refine wpAny_stack_any λst=>ah ?_
  split
  ·rename_i c _ _ _ _ _;cases (c == Value.type "enumerate")
   ·wp_walk using wpAny_loadPart' hl,wpAny_pyIter_list hL
    exact ⟨_,rfl,h⟩
   ·wp_walk using wpAny_loadPart' hl,wpAny_pyIter_list hL
    exact ⟨_,rfl,h⟩
  ·wp_walk using wpAny_loadPart' hl,wpAny_pyIter_list hL
   exact ⟨_,rfl,h⟩
end
end L2
namespace L2
open PySem PySem.Spec PyProof.Rows
section
variable {prog:Program}{w:World}{A:Around}{E:Value->Shared->Prop}{s:Shared}
theorem DK {T newId initId:String}{Bn Bi:Builtin}{args:List Value}{kw:List (Str×Value)}{S:PySem.Spec}{Q Q1:Value->Shared->Prop}(ft:TypeCalled T newId initId)
  (hct:checkTypeCall T ⟨args,kw⟩=pure ()) (hcn:checkBuiltinCall newId ⟨.type T::args,kw⟩=pure ())
  (entryN:entryFor table newId=some Bn) (entryI:entryFor table initId=some Bi) (g:Meets (Bn ⟨.type T::args,kw⟩) S)
  (h:S A.in1 (wants Q1 E) s)
  (X8:∀obj s₁,Q1 obj s₁->s₁.TypeIs obj T/\argsOk initId ⟨obj::args,kw⟩/\∃Si,Meets (Bi ⟨obj::args,kw⟩) Si/\Si A.in1 (wants (λr s₂=>r=.none/\Q obj s₂) E) s₁) :
  wpAny (model prog w) A (call (.type T) args kw) Q E s:=by
 obtain ⟨c,tl,acr⟩:=ft.mro;have acn:=ft.made;have NR:=ft.sub;refine wpAny_call (codeAny_of_tree ?_);show wpAny _ _ (callAny (.type T) _) _ _ _;refine ah ⟨Code.quiet_builtin _ (by decide +kernel),codeAny_builtin F.entry_type_call ?_⟩;rw [Around.under_plain (weight_type_call_type T args kw) (units_type_call_type T args kw)];have h1:=ft.notType;have h2:=ft.canCreate
 repeat (any_goals (first | assumption | wp_step))
 refine codeAny_mono (codeAny_call_builtin ft.plain entryN (wpAny_of_eq hcn (g prog w A.in1 _ s h))) λr s₁ hr=>?_;cases r with
 | error e=>exact hr
 | ok fl =>
  cases fl with
  | ret obj =>
   obtain ⟨hT,cn,Si,gi,Mp⟩:=X8 _ _ hr;have Gz:=ft.init.lookup;have Mq:=ft.init.bind obj
   repeat (any_goals (first | assumption | wp_step))
   refine codeAny_mono (codeAny_call_builtin ft.init.plain entryI (ft.init.check _ _ _ _ _ _ _ _ hT cn (gi prog w A.in1 _ s₁ Mp))) λr₂ s₂ hr₂=>?_;cases r₂ with
   | error e=>exact hr₂
   | ok fl₂ =>
    cases fl₂ with
    | ret r =>
     obtain ⟨rfl,hq⟩:=hr₂
     repeat (any_goals (first | assumption | wp_step))
    | _=>exact hr₂.elim
  | _=>exact hr.elim
theorem Lb {T newId:String}{self:Value}{a:Value}{kw:List (Str×Value)}(hl:typeLookup (.type T) "__init__"=pure (some (.builtin "object.__init__")))
  (hm:Bind.madeBy (.type T)=pure (some newId)) (dP:(some newId != some "object.__new__")=true) :
  Meets (Builtin.«object.__init__» ⟨[self,a],kw⟩) (λ_ R s=>s.TypeIs self T/\R (.ok (.ret .none)) s):=by
 refine Meets.of_wp λprog w A R s hs=>?_;obtain ⟨hT,hq⟩:=hs
 repeat (any_goals (first | assumption | wp_step))
 exact ⟨_,rfl,hq⟩
theorem R6 (obj a v:Value):argsOk "object.__init__" ⟨[obj,a],[("start",v)]⟩:=by unfold argsOk;rw [signature?_of (id:="object.__init__") (n:=['_','_','t','i','n','i','_','_']) (o:=['t','c','e','j','b','o']) (by kernel_rfl) F.owner_object];kernel_rfl
theorem NS {l:Addr}{items:Array Value}{t:Tok}{Q:Value->Shared->Prop}(hL:s.heap.IsList l items)
  (h:∀h',IsEnum h' (s.heap.objs.size+1) s.heap.objs.size 1 .none->h'.IsListIter s.heap.objs.size l 0->h'.objs.size=s.heap.objs.size+2 ->
   (∀b o,s.heap.get? b=some o->h'.get? b=some o)->Q (.ref (s.heap.objs.size+1)) {s with heap:=h'}) :
  wpAny (model prog w) A (call (.type "enumerate") [.ref l] [("start",.int 1 t)]) Q E s:=by
 obtain ⟨⟨c,dct,dt,sl⟩,hl,hc,n,hd⟩:=hL
 replace hc:c=.type "list":=hc
 replace hd:dt=.seq items n:=hd
 subst hc hd;refine DK F.called_enumerate (R4 _ _) (R5 _ _) F.entry_enumerate_new F.entry_object_init (Qb l items n dct sl t)
  (Q1:=λobj s₁=>s₁.TypeIs obj "enumerate"/\Q obj s₁) ⟨hl,?_⟩ λobj s₁ hq=>⟨hq.1,R6 _ _ _,_,Lb F.called_enumerate.init.lookup F.called_enumerate.made (by decide),hq.1,rfl,hq.2⟩
 have hz:(s.heap.push {cls:=.type "list_iterator",data:=.fields #[.ref l,.int 0 0]}).objs.size=s.heap.objs.size+1:=aV ..;show _/\_;rw [hz];have he:IsEnum ((s.heap.push {cls:=.type "list_iterator",data:=.fields #[.ref l,.int 0 0]}).push
   {cls:=.type "enumerate",data:=.fields #[.none,.bool false,.ref s.heap.objs.size,rawInt 1,.none,.none]}) (s.heap.objs.size+1) s.heap.objs.size 1 .none:=by
  have:=aF (s.heap.push {cls:=.type "list_iterator",data:=.fields #[.ref l,.int 0 0]})
   (o:={cls:=.type "enumerate",data:=.fields #[.none,.bool false,.ref s.heap.objs.size,rawInt 1,.none,.none]}) rfl
  rw [hz] at this;exact this
 exact ⟨⟨_,he,rfl⟩,h _ he ⟨_,aq _ (aF _ rfl),rfl,rfl⟩ (by rw [aV,hz]) λb o x=>aq _ (aq _ x)⟩
end
section
variable {prog:Program}{w:World}{A:Around}{E:Value->Shared->Prop}{s:Shared}
theorem NT {e it l:Addr}{i:Nat}{j:Int}{items:Array Value}{x old:Value}{Q:Option Value->Shared->Prop}
  (he:IsEnum s.heap e it j old) (hit:s.heap.IsListIter it l i) (hl:s.heap.IsList l items) (hx:items[i]?=some x) (dP:e≠it)
  (hQ:∀h',IsEnumOut h' e it (j+1) x s.heap.objs.size->h'.IsListIter it l (i+1) ->
   h'.get? s.heap.objs.size=some {cls:=.type "tuple",data:=.seq #[.int j s.toks,x]}->h'.objs.size=s.heap.objs.size+1 ->
   (∀b o,b≠e->b≠it->s.heap.get? b=some o->h'.get? b=some o)->Q (some (.ref s.heap.objs.size)) {s with heap:=h',toks:=s.toks+1}) :
  wpAny (model prog w) A (pyNext (.ref e)) Q E s:=by
 have hT:s.TypeIs (.ref e) "enumerate":=⟨_,he,rfl⟩
 unfold pyNext;refine ae (wpAny_attempt (wpAny_callSpecial?_slot (name:=Str.ofString "__next__") hT F.slot_enumerate_next
  (wpAny_call_entry F.slot_enumerate_next hT F.entry_enumerate_next ?_ (F.args_enumerate_next_1 _))))
 obtain ⟨hp,g,d,tk,os⟩:=s;show wpAny _ _ (field (.ref e) 2 >>= _) _ _ _;refine ae (aR he rfl (x:=.ref it) rfl (ae (wpAny_nextOf_list_item hit hl hx λh1 Ww fc=>?_)))
 replace fc:Heap.SameBut it hp h1:=fc
 have BC:IsEnum h1 e it j old:=(fc.2 e dP).trans he;show wpAny _ _ (field (.ref e) 3 >>= _) _ _ ⟨h1,g,d,tk,os⟩;refine ae (aR BC rfl (x:=rawInt j) rfl ?_);show wpAny _ _ (field (.ref e) 4 >>= _) _ _ ⟨h1,g,d,tk,os⟩;refine ae (aR BC rfl (x:=.none) rfl ?_);show wpAny _ _ (mkInt j >>= _) _ _ ⟨h1,g,d,tk,os⟩;refine ae (wpAny_mkInt ?_);show wpAny _ _ (setField (.ref e) 3 (rawInt (j+1)) >>= _) _ _ ⟨h1,g,d,tk+1,os⟩;refine ae (wpAny_setField_rec BC (by simp) λh2 BD fP=>?_)
 replace fP:Heap.SameBut e h1 h2:=fP
 replace BD:IsEnum h2 e it (j+1) old:=BD
 show wpAny _ _ (setField (.ref e) 4 .none >>= _) _ _ ⟨h2,g,d,tk+1,os⟩;refine ae (wpAny_setField_rec BD (by simp) λh3 Gv fW=>?_)
 replace fW:Heap.SameBut e h2 h3:=fW
 replace Gv:IsEnum h3 e it (j+1) old:=Gv
 show wpAny _ _ (newTuple [.int j tk,x] >>= _) _ _ ⟨h3,g,d,tk+1,os⟩;refine ae (wpAny_newTuple ?_);have Gw:IsEnum (h3.push {cls:=.type "tuple",data:=.seq #[.int j tk,x]}) e it (j+1) old:=aq _ Gv
 generalize Qc:h3.push {cls:=.type "tuple",data:=.seq #[.int j tk,x]}=h4 at Gw
 have hsz:h3.objs.size=hp.objs.size:=by rw [fW.1,fP.1,fc.1]
 have dC:e<hp.objs.size:=ax he;have ht4:h4.get? hp.objs.size=some {cls:=.type "tuple",data:=.seq #[.int j tk,x]}:=by rw [<-Qc,<-hsz];exact aF _ rfl
 have Tz:h4.objs.size=hp.objs.size+1:=by rw [<-Qc,aV,hsz]
 have hk4:∀b o,b≠e->b≠it->hp.get? b=some o->h4.get? b=some o:=λb o qN Mq hb=>by rw [<-Qc];exact aq _ (fW.extBut b o qN (fP.extBut b o qN (fc.extBut b o Mq hb)))
 have aaj:h4.IsListIter it l (i+1):=by rw [<-Qc];obtain ⟨o,ho,r⟩:=(Ww.extBut fP.extBut (Ne.symm dP)).extBut fW.extBut (Ne.symm dP);exact ⟨o,aq _ ho,r⟩
 show wpAny _ _ (Builtin.SmallTypes.ownedTupleIsFree (.ref e) >>= _) _ _ ⟨h4,g,d,tk+1,os⟩;rw [hsz];clear Qc Gv fW BD fP BC fc Ww hsz h3 h2 h1;refine ae ?_;unfold Builtin.SmallTypes.ownedTupleIsFree;refine ae (aR Gw rfl (x:=.none) rfl (ah ?_));simp only [if_true];refine ae (wpAny_rule (ae (aR Gw rfl (x:=old) rfl ?_)));refine ae (wpAny_setField_rec Gw (by simp) λh5 Jo kT=>?_)
 replace kT:Heap.SameBut e h4 h5:=kT
 replace Jo:IsEnum h5 e it (j+1) x:=Jo
 show wpAny _ _ (Builtin.SmallTypes.ownedTupleHandOut (.ref e) (.ref hp.objs.size) >>= _) _ _ ⟨h5,g,d,tk+1,os⟩;refine ae ?_;unfold Builtin.SmallTypes.ownedTupleHandOut;refine ae (wpAny_setField_rec Jo (by simp) λh6 Jp xY=>?_)
 replace xY:Heap.SameBut e h5 h6:=xY
 replace Jp:IsEnumOut h6 e it (j+1) x hp.objs.size:=Jp
 refine wpAny_setField_rec Jp (by simp) λh7 Wx BE=>?_
 replace BE:Heap.SameBut e h6 h7:=BE
 replace Wx:IsEnumOut h7 e it (j+1) x hp.objs.size:=Wx
 refine ae (wpAny_letGo (ah ⟨_,rfl,ah (hQ h7 Wx ?_ ?_ ?_ ?_)⟩))
 ·exact ((aaj.extBut kT.extBut (Ne.symm dP)).extBut xY.extBut (Ne.symm dP)).extBut BE.extBut (Ne.symm dP)
 ·exact BE.extBut _ _ (Nat.ne_of_gt dC) (xY.extBut _ _ (Nat.ne_of_gt dC) (kT.extBut _ _ (Nat.ne_of_gt dC) ht4))
 ·show h7.objs.size=hp.objs.size+1;rw [BE.1,xY.1,kT.1,Tz]
 ·exact λb o qN Mq hb=>BE.extBut b o qN (xY.extBut b o qN (kT.extBut b o qN (hk4 b o qN Mq hb)))
theorem Qe {e it l:Addr}{i:Nat}{j:Int}{items:Array Value}{old:Value}{Q:Option Value->Shared->Prop}(hh:A.handled=none)
  (he:IsEnum s.heap e it j old) (hit:s.heap.IsListIter it l i) (hl:s.heap.IsList l items) (hx:items[i]?=none)
  (hQ:∀h',Heap.ExtBut it s.heap h'->Q none {s with heap:=h'}):wpAny (model prog w) A (pyNext (.ref e)) Q E s:=by
 have hT:s.TypeIs (.ref e) "enumerate":=⟨_,he,rfl⟩
 unfold pyNext;refine ae (wpAny_attempt (wpAny_callSpecial?_slot (name:=Str.ofString "__next__") hT F.slot_enumerate_next
  (wpAny_call_entry F.slot_enumerate_next hT F.entry_enumerate_next ?_ (F.args_enumerate_next_1 _))))
 show wpAny _ _ (field (.ref e) 2 >>= _) _ _ _;refine ae (aR he rfl (x:=.ref it) rfl (ae (wpAny_nextOf_list_end hh hit hl hx λh' x xQ hx'=>?_)));obtain ⟨o,ho,hc⟩:=hx';refine ae (wpAny_isInstance (T:="StopIteration") (b:=true) ⟨o,ho,hc⟩ isSubtype_stop ?_);exact ah (hQ _ xQ)
theorem Fo {M:Model}{pos:Pos}{T:String}{first:List Value}{args:List (Bool×Sem Value)}{keywords:List (Option Str×Sem Value)}{Q:Value->Shared->Prop}
  (IA:args.any (·.1)=false) (hkw:keywords.any (·.1.isNone)=false)
  (h:wpAny M A (evalArgs (.type T) true args keywords) (λa s₁=>wpAny M A (call (.type T) (first++a.pos) a.kw) Q E s₁) E s) :
  wpAny M A (callWith pos (.type T) first args keywords) Q E s:=by
 unfold callWith;refine ae (wpAny_holding (wpAny_mono h (λa s₁ h₁=>ae (wpAny_standAt ?_)) λ_ _ x=>x));simp only [IA,hkw,Bool.or_false];exact ae (ah (ae (wpAny_mono h₁ (λr s₂ hr=>ae (wpAny_holding (wpAny_point (ah hr)))) λ_ _ x=>x)))
end
def Fp (K:PySem.W.Frag)(a:Addr):It :=⟨λi H=>∃(xs:List V)(x:V),bY K H a xs/\xs[i]?=some x,λi H v H'=>∃T x,v=.ref T/\H T=none/\H'=upd H T (.tup [.int ((i:Int)+1),x])/\∀xs,bY K H a xs->xs[i]?=some x,λi H=>∃xs:List V,bY K H a xs/\xs.length<=i⟩
theorem NU {P:Program}{w:World}{K:PySem.W.Frag}{elts:List Expr}{kk:Nat}{jm:Pos}(a e it:Addr) :
  Turn P w K (.Tuple elts kk jm) (Fp K a) [e,it] e (λi h=>(∃old,IsEnum h e it ((i:Int)+1) old)/\h.IsListIter it a i/\e≠it) where
 mem:=by simp
 obj:=λi h st b hb=>by
  obtain ⟨⟨old,he⟩,⟨o,ho,hc,hd⟩,_⟩:=st;have e':b=e\/b=it:=by simpa using hb
  rcases e' with z | z
  ·rw [z];exact ⟨_,he,λv q=>nomatch q⟩
  ·rw [z];exact ⟨o,ho,λv q=>by rw [hd] at q;cases q⟩
 keep:=λi h h' st k=>let ⟨⟨old,he⟩,hi,dP⟩:=st;⟨⟨old,k e (by simp) _ he⟩,hi.at λo q=>k it (by simp) o q,dP⟩
 item:=by
  intro X hP hw hK hc i pins s σ H E I hf st hg;subst hP hw hK;obtain ⟨⟨old,he⟩,hit,dP⟩:=st;obtain ⟨xs,x,hq,hx⟩:=hg;obtain ⟨bZ,rv,p,hz⟩:=I.list hq;obtain ⟨u,hu,ru⟩:=rv.get hx;have dC:e<s.heap.objs.size:=ax he;have Dq:it<s.heap.objs.size:=by obtain ⟨_,q,_⟩:=hit;exact ax q
  refine NT he hit p.isList (x:=u) (by simpa using hu) dP λh' ho yI hT hsz hk=>?_;refine ⟨_,rfl,wpAny_letOwnedTupleGo_enum (s:={s with heap:=h',toks:=s.toks+1}) ho λp9 xQ sb=>?_⟩;have IL:p9.get? s.heap.objs.size=some {cls:=.type "tuple",data:=.seq #[.int ((i:Int)+1) s.toks,u]}:=(sb.2 _ (Nat.ne_of_gt dC)).trans hT;have new:dw X.prog X.w (upd H s.heap.objs.size (.tup [.int ((i:Int)+1),x])) p9 s.heap.objs.size (.tup [.int ((i:Int)+1),x]) :=⟨by show 2<=sizeLine;decide,[.int ((i:Int)+1) s.toks,u],.cons ⟨_,rfl⟩ (.cons ru .nil),⟨_,IL,rfl,_,rfl⟩⟩
  have I1:Inv X pins σ (upd H s.heap.objs.size (.tup [.int ((i:Int)+1),x])) {s with heap:=p9,toks:=s.toks+1} :=I.tV (ch:=[e,it]) (λb ob hb q=>(sb.2 b (λz=>hb (by simp [z]))).trans (hk b ob (λz=>hb (by simp [z])) (λz=>hb (by simp [z])) q)) hf (ag _) new
  refine ⟨.ref s.heap.objs.size,_,I1,rfl,⟨_,x,rfl,I.cn.fresh (ag _),rfl,λys hy=>by rw [I.qP hy hq];exact hx⟩,⟨⟨u,?_⟩,yI.at λo q=>(sb.2 it (Ne.symm dP)).trans q,dP⟩,λb hb=>?_⟩
  ·have e1:((i+1:Nat):Int)+1=(i:Int)+1+1:=by omega
   rw [e1];exact xQ
  ·have Gb:b<s.heap.objs.size:=by
    have e':b=e\/b=it:=by simpa using hb
    rcases e' with z | z
    ·rw [z];exact dC
    ·rw [z];exact Dq
   rw [bR (aU Gb)];exact (hf b hb).1
 done:=by
  intro X hP hw hK hc i pins s σ H E I hf st hg;subst hP hw hK;obtain ⟨⟨old,he⟩,hit,dP⟩:=st;obtain ⟨xs,hq,hx⟩:=hg;obtain ⟨bZ,rv,p,hz⟩:=I.list hq;obtain ⟨f0,f1,f2,f3,f4,f5⟩:=hf it (by simp);have hl:=rv.length;exact Qe (I.ok.hd hc) he hit p.isList (by simp;omega) λh' eb=>⟨rfl,I.turned (t':=s.toks) (λb o hb q=>eb b o hb q) f0 f1 f3 f4 f5⟩
 self:=λA i s Q E st h=>let ⟨⟨_,he⟩,_⟩:=st;wpAny_pyIter_enum he h
inductive Mr (K:PySem.W.Frag)(R:It->Hp->Prop)(vs:List V)(H1:Hp):Prop | mk a xs:vs=[.ref a]->bY K H1 a xs->R (Fp K a) H1->Mr K R vs H1
def Wy (K:PySem.W.Frag)(ta:TA):TI:=λσ H R=>ta σ H λvs H1=>Mr K R vs H1
theorem R7 {X:Cx}{e:Expr}{ta:TA}{p pos jm kp cp:Pos}{j:Nat}{elts:List Expr}{kk:Nat}(hg:Gl X "enumerate")(hm:X.mg "enumerate"=none)(ha:PA X [e] ta)(hs:starEach [e] X.env=[(false,eval e X.env)]:=by rfl) :
  PI X (.Tuple elts kk jm) (.Call (.Name "enumerate" p) [e] [⟨some "start",.Constant (.int 1) j cp,kp⟩] pos) (Wy X.K ta):=by
 intro pins s σ H R I h;refine wpAny_Call_Name_kw (qO I hg hm boot_enumerate ?_);refine Fo (by rw [hs];rfl) rfl ?_;rw [hs];refine evalArgs_kwB rfl ?_;have h2:=ha pos pins s σ H _ I h;rw [hs] at h2;refine cT h2 λus s1 ⟨vs,H1,I1,r1,q1⟩=>kws_cons (wpAny_Constant_int (kws_nil ?_));obtain ⟨a,xs,ex,hq,q⟩:=q1;subst ex;cases r1 with
 | cons r rr =>
  cases rr;cases r;have I1':=I1.tok (s1.toks+1);obtain ⟨bZ,rv,p',hz⟩:=I1'.list hq;refine NS p'.isList λh' he hit hsz hk=>wpAny_pyIter_enum he ?_;have I2:Inv X pins σ H1 {s1 with heap:=h',toks:=s1.toks+1}:=I1'.kept (t':=s1.toks+1) hk;refine ⟨s1.heap.objs.size+1,[s1.heap.objs.size+1,s1.heap.objs.size],_,_,H1,rfl,I2,NU a (s1.heap.objs.size+1) s1.heap.objs.size,⟨⟨.none,he⟩,hit,Nat.succ_ne_self _⟩,λb hb=>?_,q⟩;have e':b=s1.heap.objs.size+1\/b=s1.heap.objs.size:=by simpa using hb
  have hle:s1.heap.objs.size<=b:=by
   rcases e' with z | z
   ·rw [z];exact bw _ _
   ·rw [z];exact ag _
  exact I1.yw hle (I1.cn.fresh hle)
section
variable {prog:Program}{w:World}{A:Around}{E:Value->Shared->Prop}{s:Shared}
theorem NV {it t:Addr}{i:Nat}{items}{x:Value}{Q:Value->Shared->Prop}(hit:s.heap.IsTupleIter it t i)(ht:s.heap.IsTuple t items)(hx:items[i]?=some x)
  (hQ:∀h',h'.IsTupleIter it t (i+1)->Heap.SameBut it s.heap h'->Q x {s with heap:=h'}):wpAny (model prog w) A (Builtin.SmallTypes.nextOf (.ref it)) Q E s:=by
 obtain ⟨o,ho,hc,hd⟩:=id hit;obtain ⟨ol,Wz,_,nl,WA⟩:=ht;unfold Builtin.SmallTypes.nextOf;refine ae (wpAny_callSpecial?_slot (name:=Str.ofString "__next__") hit.typeIs F.slot_tuple_iterator_next
  (wpAny_call_entry F.slot_tuple_iterator_next hit.typeIs F.entry_tuple_iterator_next ?_ (F.args_tuple_iterator_next_1 _)))
 show wpAny _ _ (field (.ref it) 0 >>= _) _ _ s;refine ae (aR ho hd (x:=.ref t) rfl ?_);show wpAny _ _ (if (Value.ref t == Value.none)=true then _ else _) _ _ s;rw [aa (show ¬((Value.ref t == Value.none)=true) from aL)];show wpAny _ _ (field (.ref it) 1 >>= _) _ _ s;refine ae (aR ho hd (x:=.int i 0) rfl ?_);show wpAny _ _ (seqItems? (.ref t) >>= _) _ _ s;refine ae (wpAny_seqItems Wz WA ?_);simp only [Int.toNat_natCast,hx];refine ae (wpAny_setField ho hd (by simp) (ah ⟨x,rfl,ah (hQ _ ?_ (Heap.SameBut.update ..))⟩));exact ⟨_,Heap.get?_update_self _ ho (Obj.isFreed_of_fields (Obj.data_mapFields hd _)),(Obj.cls_mapFields ..).trans hc,by rw [Obj.data_mapFields hd];simp [rawInt]⟩
theorem Qg {it t:Addr}{i:Nat}{items}{Q:Value->Shared->Prop}(hh:A.handled=none)(hit:s.heap.IsTupleIter it t i)(ht:s.heap.IsTuple t items)(hx:items[i]?=none)
  (hE:∀h' e,Heap.ExtBut it s.heap h'->(∃o,h'.get? e=some o/\o.cls=.type "StopIteration")->E (.ref e) {s with heap:=h'}) :
  wpAny (model prog w) A (Builtin.SmallTypes.nextOf (.ref it)) Q E s:=by
 obtain ⟨o,ho,hc,hd⟩:=id hit;obtain ⟨ol,Wz,_,nl,WA⟩:=ht;unfold Builtin.SmallTypes.nextOf;refine ae (wpAny_callSpecial?_slot (name:=Str.ofString "__next__") hit.typeIs F.slot_tuple_iterator_next
  (wpAny_call_entry F.slot_tuple_iterator_next hit.typeIs F.entry_tuple_iterator_next ?_ (F.args_tuple_iterator_next_1 _)))
 show wpAny _ _ (field (.ref it) 0 >>= _) _ _ s;refine ae (aR ho hd (x:=.ref t) rfl ?_);show wpAny _ _ (if (Value.ref t == Value.none)=true then _ else _) _ _ s;rw [aa (show ¬((Value.ref t == Value.none)=true) from aL)];show wpAny _ _ (field (.ref it) 1 >>= _) _ _ s;refine ae (aR ho hd (x:=.int i 0) rfl ?_);show wpAny _ _ (seqItems? (.ref t) >>= _) _ _ s;refine ae (wpAny_seqItems Wz WA ?_);simp only [Int.toNat_natCast,hx];refine ae (wpAny_rule (ae (wpAny_setField ho hd (by simp) ?_)));show wpAny _ _ (newExc (.type "StopIteration") [] >>= _) _ _ _;refine ae ?_;simp only [newExc,newTuple];refine ae (wpAny_newObj_type ?_ (by size_fits));refine ae (m:=firstArgMember _ _) (wpAny_of_eq (a:=Value.none) (by first | rfl | (simp only [firstArgMember];rfl)) ?_);refine wpAny_newObj_type ?_ (by size_fits);simp only [raiseNew];refine ae (wpAny_handled ?_)
 first | rw [show A.in1.handled=none from hh] | rw [hh]
 refine ae (ah (wpAny_throw ?_));exact hE _ _ (((Heap.SameBut.update ..).extBut.push _).push _) ⟨_,aF _ rfl,rfl⟩
theorem Qh {z TI TO i1 i2 l1 l2:Addr}{k1 k2:Nat}{xs ys:Array Value}{x y a b:Value}{Q:Option Value->Shared->Prop}(D:ZipApart z TI TO i1 i2 l1 l2)
  (hz:IsZip s.heap z TI TO .none) (rn:IsPair s.heap TI (.ref i1) (.ref i2)) (t7:IsPair s.heap TO a b)
  (h1:s.heap.IsListIter i1 l1 k1) (h2:s.heap.IsTupleIter i2 l2 k2) (jK:s.heap.IsList l1 xs) (fz:s.heap.IsTuple l2 ys) (hx:xs[k1]?=some x) (hy:ys[k2]?=some y)
  (hQ:∀h',IsZip h' z TI TO (rawInt s.heap.objs.size)->IsPair h' TO x y->h'.IsListIter i1 l1 (k1+1)->h'.IsTupleIter i2 l2 (k2+1)->IsPair h' s.heap.objs.size x y->h'.objs.size=s.heap.objs.size+1 ->
   (∀c o,c≠z->c≠TO->c≠i1->c≠i2->s.heap.get? c=some o->h'.get? c=some o)->Q (some (.ref s.heap.objs.size)) {s with heap:=h'}) :
  wpAny (model prog w) A (pyNext (.ref z)) Q E s:=by
 have hT:s.TypeIs (.ref z) "zip":=⟨_,hz,rfl⟩
 unfold pyNext;refine ae (wpAny_attempt (wpAny_callSpecial?_slot (name:=Str.ofString "__next__") hT F.slot_zip_next
  (wpAny_call_entry F.slot_zip_next hT F.entry_zip_next ?_ (F.args_zip_next_1 _))))
 show wpAny _ _ (field (.ref z) 2 >>= _) _ _ _;refine ae (aR hz rfl (x:=.bool false) rfl ?_);show wpAny _ _ (field (.ref z) 3 >>= _) _ _ _;refine ae (aR hz rfl (x:=.ref TI) rfl (ae (wpAny_seqItems rn rfl ?_)));show wpAny _ _ (Builtin.SmallTypes.ownedTupleIsFree (.ref z) >>= _) _ _ _;refine ae ?_;unfold Builtin.SmallTypes.ownedTupleIsFree;refine ae (aR hz rfl (x:=.none) rfl (ah ?_));simp only [if_true];refine ae (wpAny_rule (ae (aR hz rfl (x:=.ref TO) rfl ?_)));refine ae (wpAny_setField_rec hz (by simp) λg1 oY fc=>?_)
 replace oY:IsZip g1 z TI TO .ellipsis:=oY
 refine ae ?_;simp only [List.zipIdx_cons,List.zipIdx_nil,List.forIn_cons,List.forIn_nil];refine ae (ae (wpAny_onRaise ?_));show wpAny _ _ (Builtin.SmallTypes.nextOf (.ref i1) >>= _) _ _ _;refine ae (wpAny_nextOf_list_item (h1.extBut fc.extBut D.i1z) (jK.extBut fc.extBut D.l1z) hx λg2 kU fP=>ah ?_);have Jq:IsPair g2 TO a b:=fP.extBut _ _ D.TOi1 (fc.extBut _ _ D.TOz t7);refine ae (wpAny_seqItems Jq rfl (ae (wpAny_updateSeq_pair Jq λg3 NW fW=>?_)))
 replace NW:IsPair g3 TO x b:=NW
 refine ae (wpAny_letGo (ah (ae (ae (wpAny_onRaise ?_)))));show wpAny _ _ (Builtin.SmallTypes.nextOf (.ref i2) >>= _) _ _ _;refine ae (NV (((h2.extBut fc.extBut D.i2z).extBut fP.extBut D.i12.symm).extBut fW.extBut D.TOi2.symm)
  (((fz.extBut fc.extBut D.l2z).extBut fP.extBut D.l2i1).extBut fW.extBut D.l2TO) hy λg4 YT p8=>ah ?_)
 have WB:IsPair g4 TO x b:=p8.extBut _ _ D.TOi2 NW;refine ae (wpAny_seqItems WB rfl (ae (wpAny_updateSeq_pair WB λg5 NX kT=>?_)))
 replace NX:IsPair g5 TO x y:=NX
 refine ae (wpAny_letGo (ah (ah ?_)));refine ae (wpAny_seqItems NX rfl (ae (wpAny_newTuple ?_)));have hsz:g5.objs.size=s.heap.objs.size:=by rw [kT.1,p8.1,fW.1,fP.1,fc.1]
 have YU:IsZip g5 z TI TO .ellipsis:=kT.extBut _ _ D.TOz.symm (p8.extBut _ _ D.i2z.symm (fW.extBut _ _ D.TOz.symm (fP.extBut _ _ D.i1z.symm oY)));have hk5:∀c o,c≠z->c≠TO->c≠i1->c≠i2->s.heap.get? c=some o->g5.get? c=some o:=λc o c1 c2 c3 c4 e =>kT.extBut _ _ c2 (p8.extBut _ _ c4 (fW.extBut _ _ c2 (fP.extBut _ _ c3 (fc.extBut _ _ c1 e))))
 have h15:g5.IsListIter i1 l1 (k1+1):=((kU.extBut fW.extBut D.TOi1.symm).extBut p8.extBut D.i12).extBut kT.extBut D.TOi1.symm;have h25:g5.IsTupleIter i2 l2 (k2+1):=YT.extBut kT.extBut D.TOi2.symm;have WC:z<g5.objs.size:=ax YU;show wpAny _ _ (Builtin.SmallTypes.ownedTupleHandOut (.ref z) (.ref g5.objs.size) >>= _) _ _ _;refine ae ?_;unfold Builtin.SmallTypes.ownedTupleHandOut;have hz6:IsZip (g5.push {cls:=.type "tuple",data:=.seq #[x,y]}) z TI TO .ellipsis:=aq _ YU;refine ae (wpAny_setField_rec hz6 (by simp) λg7 WD BE=>?_)
 replace WD:IsZip g7 z TI TO (rawInt g5.objs.size):=WD
 refine wpAny_setField_rec WD (by simp) λg8 TB WE=>?_
 replace TB:IsZip g8 z TI TO (rawInt g5.objs.size):=TB
 have up:∀c o,c≠z->g5.get? c=some o->g8.get? c=some o:=λc o c1 e=>WE.extBut _ _ c1 (BE.extBut _ _ c1 (aq _ e));have YV:IsPair g8 g5.objs.size x y:=WE.extBut _ _ (Nat.ne_of_gt WC) (BE.extBut _ _ (Nat.ne_of_gt WC) (aF _ rfl));have YW:g8.objs.size=g5.objs.size+1:=by rw [WE.1,BE.1,aV]
 rw [hsz] at TB YV YW;refine ah ⟨_,rfl,?_⟩;rw [hsz];exact ah (hQ g8 TB (up _ _ D.TOz NX) (h15.at λo e=>up _ o D.i1z e) (h25.at λo e=>up _ o D.i2z e) YV YW λc o c1 c2 c3 c4 e=>up c o c1 (hk5 c o c1 c2 c3 c4 e))
theorem R8 {z TI TO i1 i2 l1 l2:Addr}{k1 k2:Nat}{xs ys:Array Value}{a b:Value}{Q:Option Value->Shared->Prop}(hh:A.handled=none)(D:ZipApart z TI TO i1 i2 l1 l2)
  (hz:IsZip s.heap z TI TO .none) (rn:IsPair s.heap TI (.ref i1) (.ref i2)) (t7:IsPair s.heap TO a b)
  (h1:s.heap.IsListIter i1 l1 k1) (h2:s.heap.IsTupleIter i2 l2 k2) (jK:s.heap.IsList l1 xs) (fz:s.heap.IsTuple l2 ys) (uC:xs[k1]?=none\/ys[k2]?=none)
  (hQ:∀h',(∀c o,c≠z->c≠TO->c≠i1->c≠i2->s.heap.get? c=some o->h'.get? c=some o)->Q none {s with heap:=h'}):wpAny (model prog w) A (pyNext (.ref z)) Q E s:=by
 have hT:s.TypeIs (.ref z) "zip":=⟨_,hz,rfl⟩
 unfold pyNext;refine ae (wpAny_attempt (wpAny_callSpecial?_slot (name:=Str.ofString "__next__") hT F.slot_zip_next
  (wpAny_call_entry F.slot_zip_next hT F.entry_zip_next ?_ (F.args_zip_next_1 _))))
 have fin:∀(h':Heap)(e:Addr),(∀c o,c≠z->c≠TO->c≠i1->c≠i2->s.heap.get? c=some o->h'.get? c=some o)->(∃o,h'.get? e=some o/\o.cls=.type "StopIteration") ->
   wpAny (model prog w) A (do if <-isInstance (.ref e) (.type "StopIteration") then pure none else throw (.ref e):Sem (Option Value)) Q E {s with heap:=h'}:=λh' e hk he=>by
  obtain ⟨o,ho,hc⟩:=he;refine ae (wpAny_isInstance (T:="StopIteration") (b:=true) ⟨o,ho,hc⟩ isSubtype_stop ?_);exact ah (hQ _ hk)
 show wpAny _ _ (field (.ref z) 2 >>= _) _ _ _;refine ae (aR hz rfl (x:=.bool false) rfl ?_);show wpAny _ _ (field (.ref z) 3 >>= _) _ _ _;refine ae (aR hz rfl (x:=.ref TI) rfl (ae (wpAny_seqItems rn rfl ?_)));show wpAny _ _ (Builtin.SmallTypes.ownedTupleIsFree (.ref z) >>= _) _ _ _;refine ae ?_;unfold Builtin.SmallTypes.ownedTupleIsFree;refine ae (aR hz rfl (x:=.none) rfl (ah ?_));simp only [if_true];refine ae (wpAny_rule (ae (aR hz rfl (x:=.ref TO) rfl ?_)));refine ae (wpAny_setField_rec hz (by simp) λg1 oY fc=>?_)
 replace oY:IsZip g1 z TI TO .ellipsis:=oY
 refine ae ?_;simp only [List.zipIdx_cons,List.zipIdx_nil,List.forIn_cons,List.forIn_nil];refine ae (ae (wpAny_onRaise ?_));show wpAny _ _ (Builtin.SmallTypes.nextOf (.ref i1) >>= _) _ _ _;cases hx:xs[k1]? with
 | none =>
  refine ae (wpAny_nextOf_list_end hh (h1.extBut fc.extBut D.i1z) (jK.extBut fc.extBut D.l1z) hx λg2 e fP he=>?_);obtain ⟨oe,xZ,IE⟩:=he;have Mm:IsZip g2 z TI TO .ellipsis:=fP _ _ D.i1z.symm oY;have WG:e≠z:=λx=>by subst x;rw [Mm] at xZ;cases xZ;simp at IE
  exact wpAny_setField_rec Mm (by simp) λg3 _ fW=>fin g3 e (λc o c1 _ c3 _ x=>fW.extBut _ _ c1 (fP _ _ c3 (fc.extBut _ _ c1 x))) ⟨oe,fW.extBut _ _ WG xZ,IE⟩
 | some x =>
  have hy:ys[k2]?=none:=by rcases uC with h | h;rw [hx] at h;cases h;exact h
  refine ae (wpAny_nextOf_list_item (h1.extBut fc.extBut D.i1z) (jK.extBut fc.extBut D.l1z) hx λg2 kU fP=>ah ?_);have Jq:IsPair g2 TO a b:=fP.extBut _ _ D.TOi1 (fc.extBut _ _ D.TOz t7);refine ae (wpAny_seqItems Jq rfl (ae (wpAny_updateSeq_pair Jq λg3 NW fW=>?_)));refine ae (wpAny_letGo (ah (ae (ae (wpAny_onRaise ?_)))));show wpAny _ _ (Builtin.SmallTypes.nextOf (.ref i2) >>= _) _ _ _;refine ae (Qg hh (((h2.extBut fc.extBut D.i2z).extBut fP.extBut D.i12.symm).extBut fW.extBut D.TOi2.symm)
   (((fz.extBut fc.extBut D.l2z).extBut fP.extBut D.l2i1).extBut fW.extBut D.l2TO) hy λg4 e p8 he=>?_)
  obtain ⟨oe,xZ,IE⟩:=he;have Tz:IsZip g4 z TI TO .ellipsis:=p8 _ _ D.i2z.symm (fW.extBut _ _ D.TOz.symm (fP.extBut _ _ D.i1z.symm oY));have WG:e≠z:=λx=>by subst x;rw [Tz] at xZ;cases xZ;simp at IE
  exact wpAny_setField_rec Tz (by simp) λg5 _ kT=>fin g5 e (λc o c1 c2 c3 c4 x=>kT.extBut _ _ c1 (p8 _ _ c4 (fW.extBut _ _ c2 (fP.extBut _ _ c3 (fc.extBut _ _ c1 x))))) ⟨oe,kT.extBut _ _ WG xZ,IE⟩
abbrev TC (h:Heap)(l1:Addr):Heap:=h.push {cls:=.type "list_iterator",data:=.fields #[.ref l1,.int 0 0]}
abbrev TF (h:Heap)(l1 l2:Addr):Heap:=(TC h l1).push {cls:=.type "tuple_iterator",data:=.fields #[.ref l2,.int 0 0]}
abbrev TH (h:Heap)(l1 l2:Addr):Heap:=(TF h l1 l2).push {cls:=.type "tuple",data:=.seq #[.ref h.objs.size,.ref (TC h l1).objs.size]}
abbrev TJ (h:Heap)(l1 l2:Addr):Heap:=(TH h l1 l2).push {cls:=.type "tuple",data:=.seq #[.none,.none]}
abbrev Jr (h:Heap)(l1 l2:Addr):Heap:=(TJ h l1 l2).push {cls:=.type "zip",data:=.fields #[.none,.bool false,.bool false,.ref (TF h l1 l2).objs.size,.ref (TH h l1 l2).objs.size]}
theorem R9 (l1 l2:Addr)(xs ys:Array Value):Meets (Builtin.«zip.__new__» ⟨[.type "zip",.ref l1,.ref l2],[]⟩) (λ_ R s=>s.heap.IsList l1 xs/\s.heap.IsTuple l2 ys /\
   R (.ok (.ret (.ref (TJ s.heap l1 l2).objs.size))) {s with heap:=Jr s.heap l1 l2}) :=
 .of_wp λprog w A R s h=>by
  obtain ⟨hp,g,d,tk,os⟩:=s;obtain ⟨jK,fz,h⟩:=h;have NR:=sub_zip;have hL1:Heap.IsList (Shared.heap ⟨hp,g,d,tk,os⟩) l1 xs:=jK;have DL:Heap.IsTuple (Shared.heap ⟨hp.push {cls:=.type "list_iterator",data:=.fields #[.ref l1,.int 0 0]},g,d,tk,os⟩) l2 ys:=Heap.IsTuple.push fz _
  wp_walk using wpAny_pyIter_list hL1,wpAny_pyIter_tuple DL
  exact ⟨_,rfl,h⟩
theorem Qi {l1 l2:Addr}{xs ys:Array Value}{Q:Value->Shared->Prop}(jK:s.heap.IsList l1 xs)(fz:s.heap.IsTuple l2 ys)
  (h:∀h',IsZip h' (s.heap.objs.size+4) (s.heap.objs.size+2) (s.heap.objs.size+3) .none->IsPair h' (s.heap.objs.size+2) (.ref s.heap.objs.size) (.ref (s.heap.objs.size+1)) ->
   IsPair h' (s.heap.objs.size+3) .none .none->h'.IsListIter s.heap.objs.size l1 0->h'.IsTupleIter (s.heap.objs.size+1) l2 0->h'.objs.size=s.heap.objs.size+5 ->
   (∀c o,s.heap.get? c=some o->h'.get? c=some o)->Q (.ref (s.heap.objs.size+4)) {s with heap:=h'}) :
  wpAny (model prog w) A (call (.type "zip") [.ref l1,.ref l2]) Q E s:=by
 refine callType_new F.called_zip (by decide) (F.typeCall_zip_2 _ _) (F.newCall_zip_2 _ _) (λobj=>F.args_object_init_3 obj _ _) F.entry_zip_new (R9 l1 l2 xs ys) ⟨jK,fz,?_⟩;have z1:(TC s.heap l1).objs.size=s.heap.objs.size+1:=aV ..;have z2:(TF s.heap l1 l2).objs.size=s.heap.objs.size+2:=by rw [aV,z1]
 have z3:(TH s.heap l1 l2).objs.size=s.heap.objs.size+3:=by rw [aV,z2]
 have z4:(TJ s.heap l1 l2).objs.size=s.heap.objs.size+4:=by rw [aV,z3]
 have z5:(Jr s.heap l1 l2).objs.size=s.heap.objs.size+5:=by rw [aV,z4]
 have g5:(Jr s.heap l1 l2).get? (TJ s.heap l1 l2).objs.size=some _:=aF _ rfl;have g4:(Jr s.heap l1 l2).get? (TH s.heap l1 l2).objs.size=some _:=aq _ (aF _ rfl);have g3:(Jr s.heap l1 l2).get? (TF s.heap l1 l2).objs.size=some _:=aq _ (aq _ (aF _ rfl));have g2:(Jr s.heap l1 l2).get? (TC s.heap l1).objs.size=some _:=aq _ (aq _ (aq _ (aF _ rfl)));have g1:(Jr s.heap l1 l2).get? s.heap.objs.size=some _:=aq _ (aq _ (aq _ (aq _ (aF _ rfl))));show _/\_;rw [z2,z3,z4] at g5;rw [z1,z2] at g3;rw [z3] at g4;rw [z1] at g2;rw [z4];exact ⟨⟨_,g5,rfl⟩,h _ g5 g3 g4 ⟨_,g1,rfl,rfl⟩ ⟨_,g2,rfl,rfl⟩ z5 λc o x =>aq _ (aq _ (aq _ (aq _ (aq _ x))))⟩
end
def Fq (K:PySem.W.Frag)(a b:Addr):It :=
 ⟨λi H=>∃(xs ys:List V)(x y:V),bY K H a xs/\cA K H b ys/\xs[i]?=some x/\ys[i]?=some y,
  λi H v H'=>∃T x y,v=.ref T/\H T=none/\H'=upd H T (.tup [x,y])/\(∀xs,bY K H a xs->xs[i]?=some x)/\∀ys,cA K H b ys->ys[i]?=some y,
  λi H=>∃xs ys:List V,bY K H a xs/\cA K H b ys/\(xs.length<=i\/ys.length<=i)⟩
theorem Qj {P:Program}{w:World}{K:PySem.W.Frag}{elts:List Expr}{kk:Nat}{jm:Pos}{a b z TI TO i1 i2:Addr}(D:ZipApart z TI TO i1 i2 a b) :
  Turn P w K (.Tuple elts kk jm) (Fq K a b) [z,TI,TO,i1,i2] z (λi h=>IsZip h z TI TO .none/\IsPair h TI (.ref i1) (.ref i2)/\(∃x y,IsPair h TO x y)/\h.IsListIter i1 a i/\h.IsTupleIter i2 b i) where
 mem:=by simp
 obj:=λi h st c hc=>by
  obtain ⟨hz,rn,⟨x,y,t7⟩,⟨o1,e1,_,d1⟩,⟨o2,e2,_,d2⟩⟩:=st;have e':c=z\/c=TI\/c=TO\/c=i1\/c=i2:=by simpa using hc
  rcases e' with q | q | q | q | q
  ·rw [q];exact ⟨_,hz,λv q=>nomatch q⟩
  ·rw [q];exact ⟨_,rn,λv q=>nomatch q⟩
  ·rw [q];exact ⟨_,t7,λv q=>nomatch q⟩
  ·rw [q];exact ⟨o1,e1,λv q=>by rw [d1] at q;cases q⟩
  ·rw [q];exact ⟨o2,e2,λv q=>by rw [d2] at q;cases q⟩
 keep:=λi h h' st k=>by
  obtain ⟨hz,rn,⟨x,y,t7⟩,h1,h2⟩:=st;exact ⟨k z (by simp) _ hz,k TI (by simp) _ rn,⟨x,y,k TO (by simp) _ t7⟩,h1.at λo q=>k i1 (by simp) o q,h2.at λo q=>k i2 (by simp) o q⟩
 item:=by
  intro X hP hw hK hc i pins s σ H E I hf st hg;subst hP hw hK;obtain ⟨hz,rn,⟨x0,y0,t7⟩,h1,h2⟩:=st;obtain ⟨xs,ys,x,y,Ms,Mu,hx,hy⟩:=hg;obtain ⟨bZ,rv,p,_⟩:=I.list Ms;obtain ⟨gg,rv2,p2,_⟩:=I.tuple Mu;obtain ⟨u,hu,ru⟩:=rv.get hx;obtain ⟨u2,hu2,ru2⟩:=rv2.get hy;have YX:z<s.heap.objs.size:=ax hz;refine Qh D hz rn t7 h1 h2 p.isList p2 (x:=u) (y:=u2) (by simpa using hu) (by simpa using hu2) λh' z' TO' h1' WH hT hsz hk=>?_;refine ⟨_,rfl,wpAny_letOwnedTupleGo_zip (s:={s with heap:=h'}) z' λp9 z'' sb=>?_⟩;have IL:p9.get? s.heap.objs.size=some {cls:=.type "tuple",data:=.seq #[u,u2]}:=(sb.2 _ (Nat.ne_of_gt YX)).trans hT;have new:dw X.prog X.w (upd H s.heap.objs.size (.tup [x,y])) p9 s.heap.objs.size (.tup [x,y]) :=⟨by show 2<=sizeLine;decide,[u,u2],.cons ru (.cons ru2 .nil),⟨_,IL,rfl,_,rfl⟩⟩
  have I1:Inv X pins σ (upd H s.heap.objs.size (.tup [x,y])) {s with heap:=p9} :=I.tV (t':=s.toks) (ch:=[z,TI,TO,i1,i2]) (λc o hb q=>(sb.2 c (λq'=>hb (by simp [q']))).trans (hk c o (λq'=>hb (by simp [q'])) (λq'=>hb (by simp [q'])) (λq'=>hb (by simp [q'])) (λq'=>hb (by simp [q'])) q)) hf (ag _) new
  refine ⟨.ref s.heap.objs.size,_,I1,rfl,⟨_,x,y,rfl,I.cn.fresh (ag _),rfl,λl hl=>by rw [I.qP hl Ms];exact hx,λl hl=>by rw [I.F0 hl Mu];exact hy⟩,⟨z'',?_,⟨u,u2,?_⟩,?_,?_⟩,λc TK=>?_⟩
  ·exact (sb.2 _ D.TIz).trans (hk _ _ D.TIz D.TITO D.TIi1 D.TIi2 rn)
  ·exact (sb.2 _ D.TOz).trans TO'
  ·exact h1'.at λo q=>(sb.2 _ D.i1z).trans q
  ·exact WH.at λo q=>(sb.2 _ D.i2z).trans q
  ·have c9:c<s.heap.objs.size:=by
    have e':c=z\/c=TI\/c=TO\/c=i1\/c=i2:=by simpa using TK
    rcases e' with q | q | q | q | q
    ·rw [q];exact YX
    ·rw [q];exact ax rn
    ·rw [q];exact ax t7
    ·rw [q];obtain ⟨_,e1,_⟩:=h1;exact ax e1
    ·rw [q];obtain ⟨_,e2,_⟩:=h2;exact ax e2
   rw [bR (aU c9)];exact (hf c TK).1
 done:=by
  intro X hP hw hK hc i pins s σ H E I hf st hg;subst hP hw hK;obtain ⟨hz,rn,⟨x0,y0,t7⟩,h1,h2⟩:=st;obtain ⟨xs,ys,Ms,Mu,uC⟩:=hg;obtain ⟨bZ,rv,p,_⟩:=I.list Ms;obtain ⟨gg,rv2,p2,_⟩:=I.tuple Mu;have l1:=rv.length;have l2:=rv2.length;have he:bZ.toArray[i]?=none\/gg.toArray[i]?=none:=by
   rcases uC with q | q
   ·exact .inl (by simp;omega)
   ·exact .inr (by simp;omega)
  exact R8 (I.ok.hd hc) D hz rn t7 h1 h2 p.isList p2 he λh' hk=>⟨rfl,I.UE (t':=s.toks) (ch:=[z,TI,TO,i1,i2]) (λc o hb q =>hk c o (λq'=>hb (by simp [q'])) (λq'=>hb (by simp [q'])) (λq'=>hb (by simp [q'])) (λq'=>hb (by simp [q'])) q) hf⟩
 self:=λA i s Q E st h=>wpAny_pyIter_zip st.1 h
inductive TM (K:PySem.W.Frag)(R:It->Hp->Prop)(vs:List V)(H1:Hp):Prop | mk a b xs ys:vs=[.ref a,.ref b]->bY K H1 a xs->cA K H1 b ys->R (Fq K a b) H1->TM K R vs H1
def X9 (K:PySem.W.Frag)(ta:TA):TI:=λσ H R=>ta σ H λvs H1=>TM K R vs H1
theorem UT {X:Cx}{e e2:Expr}{ta:TA}{p pos jm:Pos}{elts:List Expr}{kk:Nat}(hg:Gl X "zip")(hm:X.mg "zip"=none)(ha:PA X [e,e2] ta)
  (hs:starEach [e,e2] X.env=(false,eval e X.env)::starEach [e2] X.env:=by rfl) (ib:(backTo pos (starEach [e2] X.env)).any (·.1)=false:=by rfl) :
  PI X (.Tuple elts kk jm) (.Call (.Name "zip" p) [e,e2] [] pos) (X9 X.K ta):=by
 intro pins s σ H R I h;refine Call_ (qO I hg hm PL (PyProof.Rows.callWith_type1 (cT (ha pos pins s σ H _ I h) λus s1 ⟨vs,H1,I1,r1,q1⟩=>?_) hs ib));obtain ⟨a,b,xs,ys,ex,Ms,Mu,q⟩:=q1;subst ex;cases r1 with
 | cons r rr =>
  cases rr with
  | cons r' rr =>
   cases rr;cases r;cases r';obtain ⟨bZ,rv,p1,_⟩:=I1.list Ms;obtain ⟨gg,rv2,p2,_⟩:=I1.tuple Mu;have la:a<s1.heap.objs.size:=p1.lt;have lb:b<s1.heap.objs.size:=(let ⟨_,q,_⟩:=p2;ax q)
   refine Qi p1.isList p2 λh' hz rn t7 h1 h2 hsz hk=>wpAny_pyIter_zip hz ?_;have I2:Inv X pins σ H1 {s1 with heap:=h'}:=I1.kept (t':=s1.toks) hk;refine ⟨s1.heap.objs.size+4,[s1.heap.objs.size+4,s1.heap.objs.size+2,s1.heap.objs.size+3,s1.heap.objs.size,s1.heap.objs.size+1],_,_,H1,rfl,I2,Qj (PySem.W.ktu_apart s1.heap.objs.size a b la lb),⟨hz,rn,⟨_,_,t7⟩,h1,h2⟩,λc TK=>?_,q⟩;have e':c=s1.heap.objs.size+4\/c=s1.heap.objs.size+2\/c=s1.heap.objs.size+3\/c=s1.heap.objs.size\/c=s1.heap.objs.size+1:=by simpa using TK
   have hle:s1.heap.objs.size<=c:=by
    rcases e' with z | z | z | z | z
    ·rw [z];exact bw _ _
    ·rw [z];exact bw _ _
    ·rw [z];exact bw _ _
    ·rw [z];exact ag _
    ·rw [z];exact bw _ _
   exact I1.yw hle (I1.cn.fresh hle)
structure KD (w:World)(K:PySem.W.Frag)(a:Addr)(f:Str->Option V):Prop where
 ex:∃(es:Array DictEntry)(n:Nat),K.lookup a=some ⟨.type "dict",none,.dict es n,#[]⟩/\PySem.W.KeysLit w.params es.toList/\∀x,iI (f x) (findBy Value.isStrOf es x)
 ns:(a == sysModules)=false
section
variable {X:Cx}{e g:Expr}{te tg':TE}{a:Addr}{f:Str->Option V}
inductive WI (a:Addr)(f:Str->Option V)(neg:Bool)(x:V)(y:V)(H:Hp)(Q:VK):Prop | mk z:x=.str z->y=.ref a->Q (.bl (if neg then !(f z).isSome else (f z).isSome)) H->WI a f neg x y H Q
theorem Js (D:KD X.w X.K a f):gZ X (compareOp .In) (WI a f false):=by intro pins s σ H x y v u Q I rx ry h;obtain ⟨z,rfl,rfl,q⟩:=h;obtain ⟨t,rfl⟩:=rx;cases ry;obtain ⟨es,n,hl,hk,hf⟩:=D.ex;refine wpAny_in_of (strKind_is X.prog X.w z t) D.ns (PySem.W.mapOf_K (prog:=X.prog) I.mX hl hk) ?_;rw [<-(hf z).tT];exact ⟨.bl _,H,I.tok _,rfl,q⟩
def Ya (a:Addr)(f:Str->Option V)(td te tx:TE):TE:=λσ H Q=>td σ H λd H1=>d=.ref a/\te σ H1 λy H2=>tx σ H2 λz H3=>∃k,y=.str k/\Q ((f k).getD z) H3
theorem UU {o:Expr}{td tx:TE}{apos gL:Pos}(D:KD X.w X.K a f)(ho:PE X o td)(he:PE X e te)(hf:PE X g tx)(m:M2 X o "get" apos e g gL):PE X (.Call (.Attribute o "get" apos) [e,g] [] gL) (Ya a f td te tx):=by
 intro pins s σ H Q I h;refine wpAny_Call_method m.base m.da m.line PySem.F.plainAttrs_dict PySem.F.slot_dict_get PySem.F.type_dict_get (cT (ho pins s σ H _ I h) λu s1 ⟨x,H1,I1,rx,ex,q1⟩=>?_);subst ex;obtain rfl:u=Value.ref a:=rx;obtain ⟨es,n,hl,hk,O5⟩:=D.ex;have Gx:s1.heap.get? a=some ⟨.type "dict",none,.dict es n,#[]⟩:=I1.mX _ _ hl;refine ⟨⟨_,Gx,rfl⟩,λb q=>by cases q;exact ⟨_,Gx,rfl⟩,?_⟩;rw [m.trees];refine Calls.callWith_builtin rfl (Calls.evalArgs_plain (Calls.spliced_cons (cT (he pins s1 σ H1 _ I1 q1) λiv s2 ⟨y,H2,I2,ry,q2⟩ =>Calls.spliced_cons (cT (hf pins s2 σ H2 _ I2 q2) λfv s3 ⟨z,H3,I3,rz,k,ey,q3⟩=>Calls.spliced_nil ?_))))
 subst ey;obtain ⟨t,rfl⟩:=ry;have WJ:=PySem.W.mapOf_K (prog:=X.prog) I3.mX hl hk;refine call_meetsIn PySem.F.slot_dict_get WJ.typeIs PySem.F.entry_dict_get (PySem.F.args_dict_get_3 _ _ _) (meets_dict_get_default (strKind X.prog X.w) a (strKind_is X.prog X.w k t) D.ns fv) ⟨_,WJ,?_⟩;exact ⟨_,H3,I3.tok _,(O5 k).getD rz,q3⟩
end
theorem ro {J:It}{n:Nat}{g:TG}{tb:TS}{D:Ends}{σ:St}{H:Hp}(Pv:Nat->St->Hp->Prop)(h0:Pv 0 σ H)(vA:∀i σ H,i<n->Pv i σ H->J.go i H)(qQ:∀σ H,Pv n σ H->J.stop n H)
  (hs:∀i σ H x H',i<n->Pv i σ H->J.lU i H x H'->g x σ H' λσ2 H2=>tb {D with nx:=Pv (i+1),ct:=Pv (i+1),bk:=D.nx} σ2 H2) (hd:∀σ H,Pv n σ H->D.nx σ H) :
  ∃W:Nat->Nat->St->Hp->Prop,(∃m,W 0 m σ H)/\∀i m σ H,W i m σ H ->
   (J.stop i H/\D.nx σ H)\/(J.go i H/\∃N:St->Hp->Prop,(∀σ' H',N σ' H'->∃m',m'<m/\W (i+1) m' σ' H')/\∀x H',J.lU i H x H'->g x σ H' λσ2 H2=>tb {D with nx:=N,ct:=N,bk:=D.nx} σ2 H2):=by
 refine ⟨λi m σ H=>m=n - i/\i<=n/\Pv i σ H,⟨n,by simp,aW _,h0⟩,?_⟩;rintro i m σ H ⟨rfl,hi,p⟩
 by_cases c9:i<n
 ·exact .inr ⟨vA i σ H c9 p,Pv (i+1),λσ' H' p'=>⟨n - (i+1),by omega,rfl,c9,p'⟩,λx H' y=>hs i σ H x H' c9 p y⟩
 ·have e:i=n:=by omega
  subst e;exact .inl ⟨qQ σ H p,hd σ H p⟩
theorem Yb {J:It}{n:Nat}{g:TG}{tt:TT}{te:TE}{vs:List Nat}{σ:St}{H1:Hp}{D:Addr}{Qd:Hp->Prop}(Pv:Nat->Hp->Prop)(h0:Pv 0 (upd H1 D (.lst [])))(vA:∀i H,i<n->Pv i H->J.go i H)(qQ:∀H,Pv n H->J.stop n H)
  (hs:∀i H x H',i<n->Pv i H->J.lU i H x H'->g x (wipe σ vs) H' λσ2 H2=>wipe σ2 vs=wipe σ vs/\tt σ2 H2 λb H3 =>
   if b=true then te σ2 H3 λy H4=>∃acc,H4 D=some (.lst acc)/\acc.length<sizeLine/\Pv (i+1) (upd H4 D (.lst (acc++[y]))) else Pv (i+1) H3) (hd:∀H,Pv n H->Qd H) :
  ∃W:Nat->Nat->Hp->Prop,(∃m,W 0 m (upd H1 D (.lst [])))/\∀i m H,W i m H ->
   (J.stop i H/\Qd H)\/(J.go i H/\∃Nx:Hp->Prop,(∀H',Nx H'->∃m',m'<m/\W (i+1) m' H')/\∀x H',J.lU i H x H'->g x (wipe σ vs) H' λσ2 H2=>wipe σ2 vs=wipe σ vs/\tt σ2 H2 λb H3 =>if b=true then te σ2 H3 λy H4=>∃acc,H4 D=some (.lst acc)/\acc.length<sizeLine/\Nx (upd H4 D (.lst (acc++[y]))) else Nx H3):=by
 refine ⟨λi m H=>m=n - i/\i<=n/\Pv i H,⟨n,by simp,aW _,h0⟩,?_⟩;rintro i m H ⟨rfl,hi,p⟩
 by_cases c9:i<n
 ·exact .inr ⟨vA i H c9 p,Pv (i+1),λH' p'=>⟨n - (i+1),by omega,rfl,c9,p'⟩,λx H' y=>hs i H x H' c9 p y⟩
 ·have e:i=n:=by omega
  subst e;exact .inl ⟨qQ H p,hd H p⟩
section
variable {K:PySem.W.Frag}{a b d:Addr}{xs ys:List V}{g:TG}{tb:TS}{D:Ends}{σ:St}{H:Hp}
theorem nk (Pv:Nat->St->Hp->Prop)(h0:Pv 0 σ H)(hl:∀i σ H,i<=xs.length->Pv i σ H->bY K H a xs)
  (hs:∀i x σ H T,xs[i]?=some x->Pv i σ H->H T=none->g (.ref T) σ (upd H T (.tup [.int (i:Nat),x])) λσ2 H2=>tb {D with nx:=Pv (i+1),ct:=Pv (i+1),bk:=D.nx} σ2 H2) (hd:∀σ H,Pv xs.length σ H->D.nx σ H) :
  ∃W:Nat->Nat->St->Hp->Prop,(∃m,W 0 m σ H)/\∀i m σ H,W i m σ H ->
   ((L4 K a).stop i H/\D.nx σ H)\/((L4 K a).go i H/\∃N:St->Hp->Prop,(∀σ' H',N σ' H'->∃m',m'<m/\W (i+1) m' σ' H')/\∀x H',(L4 K a).lU i H x H'->g x σ H' λσ2 H2=>tb {D with nx:=N,ct:=N,bk:=D.nx} σ2 H2) :=
 ro (J:=L4 K a) (n:=xs.length) Pv h0 (λi σ H hi p=>⟨xs,xs[i],hl i σ H (aJ hi) p,aI hi⟩) (λσ H p=>⟨xs,hl _ σ H (ag _) p,ag _⟩)
  (λi σ H v H' hi p y=>by obtain ⟨T,x,rfl,hT,rfl,hx⟩:=y;exact hs i x σ H T (hx xs (hl i σ H (aJ hi) p)) p hT) hd
theorem Qk (Pv:Nat->St->Hp->Prop)(h0:Pv 0 σ H)(hl:∀i σ H,i<=xs.length->Pv i σ H->bY K H a xs)
  (hs:∀i x σ H T,xs[i]?=some x->Pv i σ H->H T=none->g (.ref T) σ (upd H T (.tup [.int ((i:Int)+1),x])) λσ2 H2=>tb {D with nx:=Pv (i+1),ct:=Pv (i+1),bk:=D.nx} σ2 H2) (hd:∀σ H,Pv xs.length σ H->D.nx σ H) :
  ∃W:Nat->Nat->St->Hp->Prop,(∃m,W 0 m σ H)/\∀i m σ H,W i m σ H ->
   ((Fp K a).stop i H/\D.nx σ H)\/((Fp K a).go i H/\∃N:St->Hp->Prop,(∀σ' H',N σ' H'->∃m',m'<m/\W (i+1) m' σ' H')/\∀x H',(Fp K a).lU i H x H'->g x σ H' λσ2 H2=>tb {D with nx:=N,ct:=N,bk:=D.nx} σ2 H2) :=
 ro (J:=Fp K a) (n:=xs.length) Pv h0 (λi σ H hi p=>⟨xs,xs[i],hl i σ H (aJ hi) p,aI hi⟩) (λσ H p=>⟨xs,hl _ σ H (ag _) p,ag _⟩)
  (λi σ H v H' hi p y=>by obtain ⟨T,x,rfl,hT,rfl,hx⟩:=y;exact hs i x σ H T (hx xs (hl i σ H (aJ hi) p)) p hT) hd
theorem Sa (YY:ys.length=xs.length)(Pv:Nat->St->Hp->Prop)(h0:Pv 0 σ H)(hl:∀i σ H,i<=xs.length->Pv i σ H->bY K H a xs/\cA K H b ys)
  (hs:∀i x y σ H T,xs[i]?=some x->ys[i]?=some y->Pv i σ H->H T=none->g (.ref T) σ (upd H T (.tup [x,y])) λσ2 H2=>tb {D with nx:=Pv (i+1),ct:=Pv (i+1),bk:=D.nx} σ2 H2) (hd:∀σ H,Pv xs.length σ H->D.nx σ H) :
  ∃W:Nat->Nat->St->Hp->Prop,(∃m,W 0 m σ H)/\∀i m σ H,W i m σ H ->
   ((Fq K a b).stop i H/\D.nx σ H)\/((Fq K a b).go i H/\∃N:St->Hp->Prop,(∀σ' H',N σ' H'->∃m',m'<m/\W (i+1) m' σ' H')/\∀x H',(Fq K a b).lU i H x H'->g x σ H' λσ2 H2=>tb {D with nx:=N,ct:=N,bk:=D.nx} σ2 H2) :=
 ro (J:=Fq K a b) (n:=xs.length) Pv h0 (λi σ H hi p=>⟨xs,ys,xs[i],ys[i]'(by omega),(hl i σ H (aJ hi) p).1,(hl i σ H (aJ hi) p).2,aI hi,aI (by omega)⟩)
  (λσ H p=>⟨xs,ys,(hl _ σ H (ag _) p).1,(hl _ σ H (ag _) p).2,.inl (ag _)⟩)
  (λi σ H v H' hi p y=>by obtain ⟨T,x,y,rfl,hT,rfl,hx,hy⟩:=y;have q:=hl i σ H (aJ hi) p;exact hs i x y σ H T (hx xs q.1) (hy ys q.2) p hT) hd
theorem UW (Pv:Nat->St->Hp->Prop)(h0:Pv 0 σ H)(hl:∀i σ H,i<=xs.length->Pv i σ H->bY K H a xs)
  (hs:∀i x σ H,i<xs.length->xs[xs.length - 1 - i]?=some x->Pv i σ H->g x σ H λσ2 H2=>tb {D with nx:=Pv (i+1),ct:=Pv (i+1),bk:=D.nx} σ2 H2) (hd:∀σ H,Pv xs.length σ H->D.nx σ H) :
  ∃W:Nat->Nat->St->Hp->Prop,(∃m,W 0 m σ H)/\∀i m σ H,W i m σ H ->
   ((L3 K a xs.length).stop i H/\D.nx σ H)\/((L3 K a xs.length).go i H/\∃N:St->Hp->Prop,(∀σ' H',N σ' H'->∃m',m'<m/\W (i+1) m' σ' H')/\∀x H',(L3 K a xs.length).lU i H x H'->g x σ H' λσ2 H2=>tb {D with nx:=N,ct:=N,bk:=D.nx} σ2 H2) :=
 ro (J:=L3 K a xs.length) (n:=xs.length) Pv h0 (λi σ H hi p=>⟨hi,xs,xs[xs.length - 1 - i]'(by omega),hl i σ H (aJ hi) p,aI (by omega)⟩) (λσ H p=>ag _)
  (λi σ H v H' hi p y=>by obtain ⟨rfl,hx⟩:=y;exact hs i v σ _ hi (hx xs (hl i σ _ (aJ hi) p)) p) hd
theorem UX {x:Str}(Pv:Nat->St->Hp->Prop)(h0:Pv 0 σ H)
  (hs:∀i ch σ H,x.cps.toList[i]?=some ch->Pv i σ H->g (.str ⟨#[ch]⟩) σ H λσ2 H2=>tb {D with nx:=Pv (i+1),ct:=Pv (i+1),bk:=D.nx} σ2 H2) (hd:∀σ H,Pv x.cps.toList.length σ H->D.nx σ H) :
  ∃W:Nat->Nat->St->Hp->Prop,(∃m,W 0 m σ H)/\∀i m σ H,W i m σ H ->
   ((Bo x).stop i H/\D.nx σ H)\/((Bo x).go i H/\∃N:St->Hp->Prop,(∀σ' H',N σ' H'->∃m',m'<m/\W (i+1) m' σ' H')/\∀y H',(Bo x).lU i H y H'->g y σ H' λσ2 H2=>tb {D with nx:=N,ct:=N,bk:=D.nx} σ2 H2) :=
 ro (J:=Bo x) (n:=x.cps.toList.length) Pv h0 (λi σ H hi p=>by rw [Array.length_toList] at hi;exact hi) (λσ H p=>by show x.cps.size<=_;rw [Array.length_toList];exact ag _)
  (λi σ H v H' hi p y=>by obtain ⟨rfl,ch,hc,rfl⟩:=y;exact hs i ch σ _ (by rw [Array.getElem?_toList];exact hc) p) hd
theorem Ql {o:Obj}{kvs:List (List Key×V)}(Pv:Nat->St->Hp->Prop)(h0:Pv 0 σ H)(hl:∀i σ H,i<=kvs.length->Pv i σ H->H d=some (.e7 o (.dT kvs)))
  (hs:∀i k v q σ H,kvs[i]?=some (k,v)->H q=some (.tup (List.map kV k))->Pv i σ H->g (.ref q) σ H λσ2 H2=>tb {D with nx:=Pv (i+1),ct:=Pv (i+1),bk:=D.nx} σ2 H2) (hd:∀σ H,Pv kvs.length σ H->D.nx σ H) :
  ∃W:Nat->Nat->St->Hp->Prop,(∃m,W 0 m σ H)/\∀i m σ H,W i m σ H ->
   ((E9 d o kvs).stop i H/\D.nx σ H)\/((E9 d o kvs).go i H/\∃N:St->Hp->Prop,(∀σ' H',N σ' H'->∃m',m'<m/\W (i+1) m' σ' H')/\∀y H',(E9 d o kvs).lU i H y H'->g y σ H' λσ2 H2=>tb {D with nx:=N,ct:=N,bk:=D.nx} σ2 H2) :=
 ro (J:=E9 d o kvs) (n:=kvs.length) Pv h0 (λi σ H hi p=>⟨hl i σ H (aJ hi) p,hi⟩) (λσ H p=>⟨hl _ σ H (ag _) p,ag _⟩)
  (λi σ H v H' hi p y=>by obtain ⟨rfl,k,v,q,e,rfl,hq⟩:=y;exact hs i k v q σ _ e hq p) hd
theorem DM {o:Obj}{kvs:List (List Key×V)}(Pv:Nat->St->Hp->Prop)(h0:Pv 0 σ H)(hl:∀i σ H,i<=kvs.length->Pv i σ H->H d=some (.e7 o (.dT kvs)))
  (hs:∀i k v q T σ H,kvs[i]?=some (k,v)->H q=some (.tup (List.map kV k))->H T=none->Pv i σ H->g (.ref T) σ (upd H T (.tup [.ref q,v])) λσ2 H2=>tb {D with nx:=Pv (i+1),ct:=Pv (i+1),bk:=D.nx} σ2 H2) (hd:∀σ H,Pv kvs.length σ H->D.nx σ H) :
  ∃W:Nat->Nat->St->Hp->Prop,(∃m,W 0 m σ H)/\∀i m σ H,W i m σ H ->
   ((Fm d o kvs).stop i H/\D.nx σ H)\/((Fm d o kvs).go i H/\∃N:St->Hp->Prop,(∀σ' H',N σ' H'->∃m',m'<m/\W (i+1) m' σ' H')/\∀y H',(Fm d o kvs).lU i H y H'->g y σ H' λσ2 H2=>tb {D with nx:=N,ct:=N,bk:=D.nx} σ2 H2) :=
 ro (J:=Fm d o kvs) (n:=kvs.length) Pv h0 (λi σ H hi p=>⟨hl i σ H (aJ hi) p,hi⟩) (λσ H p=>⟨hl _ σ H (ag _) p,ag _⟩)
  (λi σ H v H' hi p y=>by obtain ⟨T,k,v,q,e,rfl,hT,hq,rfl⟩:=y;exact hs i k v q T σ _ e hq hT p) hd
end
theorem Qm {x:Str}{g:TG}{tt:TT}{te:TE}{vs:List Nat}{σ:St}{H1:Hp}{D:Addr}{Qd:Hp->Prop}(Pv:Nat->Hp->Prop)(h0:Pv 0 (upd H1 D (.lst [])))
  (hs:∀i ch H,x.cps.toList[i]?=some ch->Pv i H->g (.str ⟨#[ch]⟩) (wipe σ vs) H λσ2 H2=>wipe σ2 vs=wipe σ vs/\tt σ2 H2 λb H3 =>
   if b=true then te σ2 H3 λy H4=>∃acc,H4 D=some (.lst acc)/\acc.length<sizeLine/\Pv (i+1) (upd H4 D (.lst (acc++[y]))) else Pv (i+1) H3) (hd:∀H,Pv x.cps.toList.length H->Qd H) :
  ∃W:Nat->Nat->Hp->Prop,(∃m,W 0 m (upd H1 D (.lst [])))/\∀i m H,W i m H ->
   ((Bo x).stop i H/\Qd H)\/((Bo x).go i H/\∃Nx:Hp->Prop,(∀H',Nx H'->∃m',m'<m/\W (i+1) m' H')/\∀y H',(Bo x).lU i H y H'->g y (wipe σ vs) H' λσ2 H2=>wipe σ2 vs=wipe σ vs/\tt σ2 H2 λb H3 =>if b=true then te σ2 H3 λy H4=>∃acc,H4 D=some (.lst acc)/\acc.length<sizeLine/\Nx (upd H4 D (.lst (acc++[y]))) else Nx H3) :=
 Yb (J:=Bo x) (n:=x.cps.toList.length) Pv h0 (λi H hi p=>by rw [Array.length_toList] at hi;exact hi) (λH p=>by show x.cps.size<=_;rw [Array.length_toList];exact ag _)
  (λi H v H' hi p y=>by obtain ⟨rfl,ch,hc,rfl⟩:=y;exact hs i ch _ (by rw [Array.getElem?_toList];exact hc) p) hd
end L2
namespace Hz
open PySem PySem.Spec PyProof.Rows L2
def YZ (N P:List Str)(sc:Scope):Bool:=(match sc.kind with | .function=>true | _=>false) && (!sc.isCoroutine && (!sc.isGenerator && (decide N.Nodup && (decide (N.take P.length=P) && (P.all (λx=>match sc.names.lookup x with | some .local=>true | some .cell=>true | _=>false) && sc.names.all (λy=>match y.2 with | .free=>false | _=>true))))))
theorem cj {N P:List Str}{sc:Scope}(h:YZ N P sc=true):bX N P sc:=by
 unfold YZ at h;simp only [bc,Bool.not_eq_true',decide_eq_true_eq,br] at h;obtain ⟨h1,h2,h3,h4,h5,h6,h7⟩:=h;refine ⟨?_,h2,h3,h4,h5,λx hx=>?_,λy hy e=>?_⟩
 ·split at h1
  ·assumption
  ·cases h1
 ·have q:=h6 x hx
  split at q
  ·exact .inl (by assumption)
  ·exact .inr (by assumption)
  ·cases q
 ·have q:=h7 y hy;rw [e] at q;cases q
def top (i:Nat):Stmt:=PySem.Challenge.pw_houserulesyard_s01_answers.main.body.getD i (.Pass ⟨0,0,0,0⟩)
abbrev rp:Stmt:=inClass (top 1) 0
abbrev rq:Stmt:=inClass (top 2) 0
abbrev rA:Stmt:=inClass (top 3) 0
abbrev vB:Stmt:=top 4
abbrev vC:Stmt:=top 5
abbrev t8:Stmt:=top 11
abbrev GA:Stmt:=top 12
abbrev vD:Stmt:=top 13
abbrev DN:Stmt:=top 14
abbrev Mv:Stmt:=top 15
abbrev qb:Stmt:=inClass (top 20) 0
abbrev qc:Stmt:=inClass (top 20) 1
abbrev vE:Stmt:=inClass (top 20) 2
abbrev rB:Stmt:=inClass (top 21) 0
abbrev oZ:Stmt:=inClass (top 22) 0
abbrev t9:Stmt:=top 23
abbrev y4:Stmt:=top 24
abbrev Mw:Stmt:=top 25
abbrev y6:Stmt:=top 26
abbrev BF:Stmt:=top 27
abbrev y8:Stmt:=top 28
abbrev y9:Stmt:=top 29
abbrev Mx:Stmt:=top 30
abbrev GB:Stmt:=top 50
abbrev GC:Stmt:=top 51
abbrev DO:Stmt:=top 52
abbrev DP:Stmt:=top 53
abbrev DQ:Stmt:=top 54
abbrev GD:Stmt:=top 56
abbrev za:Stmt:=top 57
abbrev zb:Stmt:=top 58
abbrev zc:Stmt:=top 59
abbrev BG:Stmt:=top 60
abbrev BH:Stmt:=top 61
abbrev zd:Stmt:=top 62
abbrev DR:Stmt:=top 63
abbrev vF:Stmt:=top 64
abbrev DS:Stmt:=top 66
abbrev ze:Stmt:=top 67
abbrev Jt:Stmt:=top 68
abbrev Ju:Stmt:=top 69
abbrev My:Stmt:=top 70
abbrev o4:Stmt:=inClass (top 81) 0
abbrev x8:Stmt:=top 82
abbrev DT:Stmt:=top 83
abbrev GF:Stmt:=top 84
abbrev Jv:Stmt:=top 85
abbrev DU:Stmt:=top 86
abbrev BI:Stmt:=top 87
abbrev BJ:Stmt:=top 88
abbrev rC:Stmt:=inClass (top 91) 0
abbrev o5:Stmt:=inClass (top 92) 0
abbrev ua:Stmt:=top 93
abbrev rD:Stmt:=top 94
abbrev qe:Stmt:=top 95
abbrev BK:Stmt:=top 96
abbrev Mz:Stmt:=top 97
abbrev DV:Stmt:=top 98
abbrev s_load:Stmt:=top 99
abbrev GG:Stmt:=top 100
abbrev ub:Stmt:=top 101
abbrev x9:Stmt:=top 102
abbrev Jw:Stmt:=top 103
abbrev BL:Stmt:=top 104
abbrev zf:Stmt:=top 105
abbrev BM:Stmt:=top 106
abbrev DW:Stmt:=top 107
abbrev qg:Stmt:=inClass (top 110) 0
abbrev GH:Stmt:=top 111
abbrev DX:Stmt:=top 112
abbrev GI:Stmt:=top 113
abbrev DY:Stmt:=top 114
abbrev GJ:Stmt:=top 115
abbrev zg:Stmt:=top 116
abbrev vG:Stmt:=top 117
abbrev Qn:Stmt:=top 118
abbrev DZ:Stmt:=top 119
abbrev GK:Stmt:=top 120
abbrev Jx:Stmt:=top 121
abbrev Jy:Stmt:=top 122
abbrev D0:Stmt:=top 124
abbrev zh:Stmt:=top 125
abbrev vH:Stmt:=top 126
abbrev vI:Stmt:=top 127
abbrev uc:Stmt:=top 128
abbrev zi:Stmt:=top 129
abbrev ud:Stmt:=inClass (top 137) 0
abbrev GL:Stmt:=top 138
abbrev ue:Stmt:=top 139
abbrev uf:Stmt:=top 140
abbrev o6:Stmt:=top 141
abbrev qh:Stmt:=top 142
abbrev rE:Stmt:=top 143
abbrev qi:Stmt:=top 144
abbrev BN:Stmt:=top 145
abbrev ug:Stmt:=top 146
theorem A2:bX ["self","kind","name","top"] ["self","kind","name","top"] (bV rp):=cj (by decide +kernel)
theorem A3:bX ["self","words","condition","thing","value"] ["self","words","condition","thing","value"] (bV rq):=cj (by decide +kernel)
theorem A4:bX ["self","things","entries"] ["self","things","entries"] (bV rA):=cj (by decide +kernel)
theorem mv:bX ["name","things","number","thing"] ["name","things"] (bV vB):=cj (by decide +kernel)
theorem jq:bX ["things","states","thing"] ["things"] (bV vC):=cj (by decide +kernel)
theorem rF:bX ["words","things","thing"] ["words","things"] (bV t8):=cj (by decide +kernel)
theorem NY:bX ["words","place","things"] ["words","place","things"] (bV GA):=cj (by decide +kernel)
theorem fe:bX ["words","things","parts","place","wanted","part"] ["words","things"] (bV vD):=cj (by decide +kernel)
theorem Lc:bX ["value","sign","digit"] ["value","sign","digit"] (bV DN):=cj (by decide +kernel)
theorem lD:bX ["condition","state","known","sign","thing","digit","one","other"] ["condition","state"] (bV Mv):=cj (by decide +kernel)
theorem zj:bX ["self","entries"] ["self","entries"] (bV qb):=cj (by decide +kernel)
theorem jL:bX ["self","state","thing"] ["self","state"] (bV qc):=cj (by decide +kernel)
theorem D1:bX ["self","state"] ["self","state"] (bV vE):=cj (by decide +kernel)
theorem A5:bX ["self","ways","endless"] ["self","ways","endless"] (bV rB):=cj (by decide +kernel)
theorem yk:bX ["self","outcome","ban","way","settled"] ["self","outcome","ban","way","settled"] (bV oZ):=cj (by decide +kernel)
theorem lE:bX ["entries","thing","state","number","entry"] ["entries","thing","state"] (bV t9):=cj (by decide +kernel)
theorem lr:bX ["entries","rules","state","values","rule","value"] ["entries","rules","state"] (bV y4):=cj (by decide +kernel)
theorem wD:bX ["passes","state","gone","following"] ["passes","state"] (bV Mw):=cj (by decide +kernel)
theorem Hl:bX ["state","thing","value"] ["state","thing","value"] (bV y6):=cj (by decide +kernel)
theorem jM:bX ["things","events","number","thing","value"] ["things"] (bV BF):=cj (by decide +kernel)
theorem d9:bX ["things","passes","start","events","ways","found","place","state","event","way","states"] ["things","passes","start"] (bV y8):=cj (by decide +kernel)
theorem pD:bX ["entries","state","number","entry"] ["entries","state"] (bV y9):=cj (by decide +kernel)
theorem lF:bX ["house","state","passes","states","reach","reached","way","ban"] ["house","state"] (bV Mx):=cj (by decide +kernel)
theorem D4:bX ["byte","sign"] ["byte"] (bV GB):=cj (by decide +kernel)
theorem wF:bX ["row","byte"] ["row"] (bV GC):=cj (by decide +kernel)
theorem uD:bX ["row","byte"] ["row"] (bV DO):=cj (by decide +kernel)
theorem kW:bX ["text","lines","line","byte"] ["text"] (bV DP):=cj (by decide +kernel)
theorem uE:bX ["text","sign"] ["text"] (bV DQ):=cj (by decide +kernel)
theorem NZ:bX ["numbers"] ["numbers"] (bV GD):=cj (by decide +kernel)
theorem Hm:bX ["thing"] ["thing"] (bV za):=cj (by decide +kernel)
theorem Hn:bX ["entry"] ["entry"] (bV zb):=cj (by decide +kernel)
theorem fD:bX ["house","lines","thing","entry","line"] ["house"] (bV zc):=cj (by decide +kernel)
theorem Jz:bX ["house","number"] ["house","number"] (bV BG):=cj (by decide +kernel)
theorem JA:bX ["house","number"] ["house","number"] (bV BH):=cj (by decide +kernel)
theorem pE:bX ["house","row","number","thing"] ["house","row"] (bV zd):=cj (by decide +kernel)
theorem uF:bX ["way","told","event"] ["way"] (bV DR):=cj (by decide +kernel)
theorem D5:bX ["verdict"] ["verdict"] (bV vF):=cj (by decide +kernel)
theorem Ld:bX ["running","thing"] ["running","thing"] (bV DS):=cj (by decide +kernel)
theorem Ho:bX ["running"] ["running"] (bV ze):=cj (by decide +kernel)
theorem GN:bX ["running","thing","rule"] ["running","thing"] (bV Jt):=cj (by decide +kernel)
theorem GO:bX ["running","number","event"] ["running","number"] (bV Ju):=cj (by decide +kernel)
theorem Cg:bX ["running","house","past"] ["running"] (bV My):=cj (by decide +kernel)
theorem yl:bX ["self","refusal","house"] ["self","refusal","house"] (bV o4):=cj (by decide +kernel)
theorem nq:bX ["word","things","sign"] ["word","things"] (bV x8):=cj (by decide +kernel)
theorem Le:bX ["words","things"] ["words","things"] (bV DT):=cj (by decide +kernel)
theorem wG:bX ["words","things","condition","setting"] ["words","things"] (bV GF):=cj (by decide +kernel)
theorem GP:bX ["words","things","condition"] ["words","things"] (bV Jv):=cj (by decide +kernel)
theorem Lf:bX ["words","things"] ["words","things"] (bV DU):=cj (by decide +kernel)
theorem mw:bX ["house","line","words","thing","entry"] ["house","line"] (bV BI):=cj (by decide +kernel)
theorem mx:bX ["text","house","number","line"] ["text"] (bV BJ):=cj (by decide +kernel)
theorem A6:bX ["self","thing","value","before"] ["self","thing","value","before"] (bV rC):=cj (by decide +kernel)
theorem ym:bX ["self"] ["self"] (bV o5):=cj (by decide +kernel)
theorem Ci:bX ["running"] ["running"] (bV ua):=cj (by decide +kernel)
theorem A7:bX ["running"] ["running"] (bV rD):=cj (by decide +kernel)
theorem zk:bX ["verdict"] ["verdict"] (bV qe):=cj (by decide +kernel)
theorem rG:bX ["running","house","state","verdict","refusal"] ["running","house","state"] (bV BK):=cj (by decide +kernel)
theorem Sb:bX ["running"] ["running"] (bV Mz):=cj (by decide +kernel)
theorem uG:bX ["things","thing"] ["things"] (bV DV):=cj (by decide +kernel)
theorem Fs:bX ["running","text","reading","refusal"] ["running","text"] (bV s_load):=cj (by decide +kernel)
theorem D6:bX ["text","reading"] ["text"] (bV GG):=cj (by decide +kernel)
theorem Cj:bX ["things","thing","value"] ["things","thing","value"] (bV ub):=cj (by decide +kernel)
theorem Ft:bX ["running","thing","value"] ["running","thing","value"] (bV x9):=cj (by decide +kernel)
theorem GQ:bX ["running","thing","value","states"] ["running","thing","value"] (bV Jw):=cj (by decide +kernel)
theorem zl:bX ["running","thing","value","refusal"] ["running","thing","value"] (bV BL):=cj (by decide +kernel)
theorem pF:bX ["running","thing","value","refusal","states"] ["running","thing","value"] (bV zf):=cj (by decide +kernel)
theorem zm:bX ["running","event"] ["running"] (bV BM):=cj (by decide +kernel)
theorem BO:bX ["running","event"] ["running"] (bV DW):=cj (by decide +kernel)
theorem zo:bX ["self","refusal","entries","answer"] ["self","refusal","entries","answer"] (bV qg):=cj (by decide +kernel)
theorem N0:bX ["refusal"] ["refusal"] (bV GH):=cj (by decide +kernel)
theorem Lg:bX ["entries","number","entry"] ["entries","number","entry"] (bV DX):=cj (by decide +kernel)
theorem N1:bX ["entries","number"] ["entries","number"] (bV GI):=cj (by decide +kernel)
theorem uH:bX ["house","number","line","entries","entry"] ["house","number","line"] (bV DY):=cj (by decide +kernel)
theorem D7:bX ["house","number","entries"] ["house","number"] (bV GJ):=cj (by decide +kernel)
theorem ya:bX ["house","number","place","entries"] ["house","number","place"] (bV zg):=cj (by decide +kernel)
theorem D8:bX ["running","entries"] ["running","entries"] (bV vG):=cj (by decide +kernel)
theorem Fu:bX ["running","wanted","before","refusal"] ["running","wanted"] (bV Qn):=cj (by decide +kernel)
theorem Lh:bX ["running","wanted"] ["running","wanted"] (bV DZ):=cj (by decide +kernel)
theorem wH:bX ["running","source","goal","there","refusal"] ["running","source","goal"] (bV GK):=cj (by decide +kernel)
theorem Qo:bX ["running"] ["running"] (bV Jx):=cj (by decide +kernel)
theorem Qp:bX ["running"] ["running"] (bV Jy):=cj (by decide +kernel)
theorem Li:bX ["running","passes"] ["running","passes"] (bV D0):=cj (by decide +kernel)
theorem lu:bX ["running","row","condition","state","way"] ["running","row"] (bV zh):=cj (by decide +kernel)
theorem D9:bX ["running"] ["running"] (bV vH):=cj (by decide +kernel)
theorem fY:bX ["running","passes","events","gone","state","event","between"] ["running","passes"] (bV vI):=cj (by decide +kernel)
theorem gN:bX ["running","passes","working","state","rule"] ["running"] (bV uc):=cj (by decide +kernel)
theorem ja:bX ["running","working","idle","number","entry"] ["running"] (bV zi):=cj (by decide +kernel)
theorem Ck:bX ["self","name","numbers","row","behind"] ["self","name","numbers","row","behind"] (bV ud):=cj (by decide +kernel)
theorem ke:bX ["calls","place","form","behind","numbers","row_at"] ["calls","place"] (bV GL):=cj (by decide +kernel)
theorem Cm:bX ["house","call"] ["house","call"] (bV ue):=cj (by decide +kernel)
theorem Cn:bX ["running","name","row"] ["running","name","row"] (bV uf):=cj (by decide +kernel)
theorem yn:bX ["running","name","number"] ["running","name","number"] (bV o6):=cj (by decide +kernel)
theorem zp:bX ["running","name","thing","value"] ["running","name","thing","value"] (bV qh):=cj (by decide +kernel)
theorem A8:bX ["running","name"] ["running","name"] (bV rE):=cj (by decide +kernel)
theorem zq:bX ["running","call"] ["running","call"] (bV qi):=cj (by decide +kernel)
theorem JB:bX ["running","call"] ["running","call"] (bV BN):=cj (by decide +kernel)
theorem iQ:bX ["calls","running","answered","place","call","answer"] ["calls"] (bV ug):=cj (by decide +kernel)
theorem hJ:0<=sizeLine:=by decide
theorem dI:1<=sizeLine:=by decide
theorem BP:2<=sizeLine:=by decide
theorem TN:3<=sizeLine:=by decide
theorem sz4:4<=sizeLine:=by decide
theorem sz7:7<=sizeLine:=by decide
theorem iF {B:Prop}(h:B):if false=true then True else B:=m9 h
theorem iT {A:Prop}(h:A):if true=true then A else True:=nc h
theorem cJ {X:Cx}{ps:List Str}{S:Scope}(sc:bX X.N ps S)(i:Nat){x:Str}{e:Expr}{te:TE}{pos pos':Pos}(he:PE X e te)(hi:X.N[i]?=some x:=by rfl)(hx:Loc X.env.scope x:=by exact Or.inl rfl)(hs:swapsWith e (some (.Name x pos')) pos.line X.env=pure false:=by rfl)
  (hf:X.fn x=true\/X.env.scope.names.lookup x=some .local:=by first | exact .inl rfl | exact .inr rfl | assumption):PS X (.Assign [.Name x pos'] e pos) (Rl te (Dc i)):=VA sc.nd hi hx he hs hf
theorem eO {X:Cx}{ps:List Str}{S:Scope}(sc:bX X.N ps S)(i:Nat){x:Str}{pos:Pos}(hi:X.N[i]?=some x:=by rfl)(hx:Loc X.env.scope x:=by exact Or.inl rfl)(hf:X.fn x=true\/X.env.scope.names.lookup x=some .local:=by first | exact .inl rfl | exact .inr rfl | assumption):PG X (.Name x pos) (Dc i):=Uq sc.nd hi hx hf
def Fd (K:PySem.W.Frag)(mg:Str->Option Value)(x:Str)(st:Stmt)(ps:List Str):Prop:=∃f fd,Dt K x x st f fd/\mg x=some (.ref f)/\Binds K fd ps []
def Fn (P:Program)(w:World)(K:PySem.W.Frag)(mg:Str->Option Value)(base:Heap)(x:Str)(k:Nat)(ps:List Str)(sp:Sp):Prop :=∃f fd,jD P w K mg base qZ k f fd ps sp/\mg x=some (.ref f)/\PySem.W.keepIn K (.ref f)=true/\Binds K fd ps []
def Md (K:PySem.W.Frag)(C:Addr)(m q:Str)(st:Stmt)(ps:List Str):Prop:=∃f fd,Dt K m q st f fd/\PySem.W.findIn K (.ref C) m=some (some (.ref f))/\PySem.W.isFn K (.ref f)=true/\Binds K fd ps []
def Mt (P:Program)(w:World)(K:PySem.W.Frag)(mg:Str->Option Value)(base:Heap)(C:Addr)(m:Str)(k:Nat)(ps:List Str)(sp:Sp):Prop :=∃f fd,jD P w K mg base qZ k f fd ps sp/\Meth K C m f/\Binds K fd ps []
structure yb (K:PySem.W.Frag)(mg:Str->Option Value)(x:Str)(C:Addr)(fs:List Str):Prop where
 cl:i7 K C
 zr:PySem.W.makesIn K C=true
 kp:PySem.W.keepIn K (.ref C)=true
 mg:mg x=some (.ref C)
 no:∀f∈fs,dY K C f
section
variable {P:Program}{w:World}{K:PySem.W.Frag}{mg:Str->Option Value}{base:Heap}
theorem Fd.ok {x:Str}{st:Stmt}{N ps:List Str}{k:Nat}{sp:Sp}(D:Fd K mg x st ps)(S:bX N ps (bV st))
  (qr:∀{f:Addr}{du:Value}{A:Around}{outer:List Env}{s:Shared}{vs:List V}(H:Hp)(Q:VK)(E:XK),eE k (A.deeper (envOfC x (bV st) s.heap.objs.size f du))->sp vs H Q E ->
   ∃t,p6 (wj qZ P w K mg base N x (bV st) f du A outer s H E).Ij (gW st) t/\t {nx:=λ_ H'=>Q .cw H',rt:=Q} (start N vs) H)
  (len:∀vs H Q E,sp vs H Q E->vs.length=ps.length:=by intro vs H Q E h;first | (cases h;subst_vars;rfl) | (cases h;rename_i h;cases h;subst_vars;rfl)):Fn P w K mg base x (k+1) ps sp:=by
 obtain ⟨f,fd,F,hm,hb⟩:=D;exact ⟨f,fd,F.ok S len (λdu A outer s H vs Q E hr h=>qr H Q E hr h),hm,F.kp,hb⟩
theorem Md.ok {C:Addr}{m q:Str}{st:Stmt}{N ps:List Str}{k:Nat}{sp:Sp}(D:Md K C m q st ps)(S:bX N ps (bV st))
  (qr:∀{f:Addr}{du:Value}{A:Around}{outer:List Env}{s:Shared}{vs:List V}(H:Hp)(Q:VK)(E:XK),eE k (A.deeper (envOfC q (bV st) s.heap.objs.size f du))->sp vs H Q E ->
   ∃t,p6 (wj qZ P w K mg base N q (bV st) f du A outer s H E).Ij (gW st) t/\t {nx:=λ_ H'=>Q .cw H',rt:=Q} (start N vs) H)
  (len:∀vs H Q E,sp vs H Q E->vs.length=ps.length:=by intro vs H Q E h;first | (cases h;subst_vars;rfl) | (cases h;rename_i h;cases h;subst_vars;rfl)):Mt P w K mg base C m (k+1) ps sp:=by
 obtain ⟨f,fd,F,hm,hf,hb⟩:=D;exact ⟨f,fd,F.ok S len (λdu A outer s H vs Q E hr h=>qr H Q E hr h),⟨hm,hf,F.kp⟩,hb⟩
theorem Md.zt {C:Addr}{m q:Str}{st:Stmt}{N ps:List Str}{k:Nat}{sp:Sp}(D:Md K C m q st ps)(S:bX N ps (bV st))(len:∀vs H Q E,sp vs H Q E->vs.length=ps.length)
  (qr:∀(f:Addr)(du:Value)(A:Around)(outer:List Env)(s:Shared)(H:Hp)(vs:List V)(Q:VK)(E:XK),eE k (A.deeper (envOfC q (bV st) s.heap.objs.size f du))->sp vs H Q E ->
   ∃t,p6 (wj qZ P w K mg base N q (bV st) f du A outer s H E).Ij (gW st) t/\t {nx:=λ_ H'=>Q .cw H',rt:=Q} (start N vs) H):Mt P w K mg base C m (k+1) ps sp:=by
 obtain ⟨f,fd,F,hm,hf,hb⟩:=D;exact ⟨f,fd,F.ok S len (λdu A outer s H vs Q E hr h=>qr f du A outer s H vs Q E hr h),⟨hm,hf,F.kp⟩,hb⟩
end
section
variable {X:Cx}{x m:Str}{k j:Nat}{ps:List Str}{sp:Sp}{p pos apos:Pos}{e o:Expr}{es:List Expr}{t:TA}{ta:TE}{C:Addr}
theorem b6 (F:Fn X.prog X.w X.K X.mg X.base x k ps sp)(hr:eE j X.A)(ha:PA X (e::es) t)(hk:k<=j:=by decide)(hg:Gl X x:=by rfl)(Dh:(x == ("__debug__":Str))=false:=by decide)
  (he:starEach (e::es) X.env=(false,eval e X.env)::starEach es X.env:=by rfl) (ib:(backTo pos (starEach es X.env)).any (·.1)=false:=by rfl):PE X (.Call (.Name x p) (e::es) [] pos) (HJ sp [] E0 t):=by
 obtain ⟨f,fd,G,hm,hkp,hb⟩:=F;exact Uu G (hr.mono hk) hg hm hkp hb .nil Ds ha Dh he ib
theorem N2 {pl:Sem Bool}(he:PE X o ta)(G:i7 X.K C/\Mt X.prog X.w X.K X.mg X.base C m k ps sp)(hr:eE j X.A)(ha:PA X (e::es) t)(hk:k<=j:=by decide)
  (qQ:starEach (e::es) X.env=(false,eval e X.env)::starEach es X.env:=by rfl) (ib:(backTo pos (starEach es X.env)).any (·.1)=false:=by rfl)
  (ht:eval (.Call (.Attribute o m apos) (e::es) [] pos) X.env=(do
   let ov <-eval o X.env
   standAt apos.atName
   let (f,first) <-holding [ov] (getMethod ov m pl)
   callWith pos f first (backTo pos (starEach (e::es) X.env)) (backToKw pos (keywordEach [] X.env))):=by rfl) :
  PE X (.Call (.Attribute o m apos) (e::es) [] pos) (Th C m sp [] E0 ta t):=by
 obtain ⟨c,f,fd,G,hm,hb⟩:=G;exact Uv he c hm G (hr.mono hk) hb .nil Ds ha qQ ib ht
inductive my (C:Addr)(fs:List Str)(vs:List V)(H:Hp)(Q:VK)(E:XK):Prop | mk (p dx:Addr) (us:List V):vs=.ref p::us->us.length=fs.length->H p=some (.ins C dx [])->Q .cw (upd H p (.ins C dx (fs.zip us)))->my C fs vs H Q E
def Made (P:Program)(w:World)(K:PySem.W.Frag)(mg:Str->Option Value)(base:Heap)(x:Str)(C:Addr)(k:Nat)(ps fs:List Str):Prop :=∃fI fd,Mk K C fI/\jD P w K mg base qZ k fI fd ps (my C fs)/\Binds K fd ps []/\mg x=some (.ref C)
inductive TQ (C:Addr)(fs:List Str)(Q:VK)(vs:List V)(H1:Hp):Prop | mk:vs.length=fs.length->(∀x dx,H1 x=none->H1 dx=none->dx≠x->Q (.ref x) (upd (upd H1 dx (.own x)) x (.ins C dx (fs.zip vs))))->TQ C fs Q vs H1
def aak (C:Addr)(fs:List Str)(t:TA):TE:=λσ H Q=>t σ H λvs H1=>TQ C fs Q vs H1
theorem ff {fs:List Str}(M:Made X.prog X.w X.K X.mg X.base x C k ps fs)(hr:eE j X.A)(ha:PA X (e::es) t)(hk:k+1<=j:=by decide)(hg:Gl X x:=by rfl)(Dh:(x == ("__debug__":Str))=false:=by decide)
  (he:starEach (e::es) X.env=(false,eval e X.env)::starEach es X.env:=by rfl) (ib:(backTo pos (starEach es X.env)).any (·.1)=false:=by rfl):PE X (.Call (.Name x p) (e::es) [] pos) (aak C fs t):=by
 obtain ⟨fI,fd,M,F,hb,hm⟩:=M;intro pins s σ H Q I h;refine wpAny_Call_Name_kw (vi I hg hm ?_ Dh);refine PySem.W.callWith_K (h₀:=X.base) I.ok.mod.LN M.kp (cT (ha pos pins s σ H _ I h) λus s1 ⟨vs,H1,I1,r,hl,q⟩=>⟨I1.mX,?_⟩) he ib;refine B8 (E:=E0) M F (hr.mono hk) hb .nil Ds I1 r λx dx nx nd ne=>⟨x,dx,vs,by rw [aX],hl,bN,rfl,?_⟩
 rw [fo];exact q x dx nx nd ne
theorem cG {n:Int}(h:∃t,X.mg x=some (.int n t))(hg:Gl X x:=by rfl)(hd:(x == ("__debug__":Str))=false:=by decide):PE X (.Name x pos) (tC (.int n)):=by obtain ⟨t,h⟩:=h;exact EZ hg h ⟨t,rfl⟩ hd
theorem JC {z:Str}(h:∃t,X.mg x=some (.str z t))(hg:Gl X x:=by rfl)(hd:(x == ("__debug__":Str))=false:=by decide):PE X (.Name x pos) (tC (.str z)):=by obtain ⟨t,h⟩:=h;exact EZ hg h ⟨t,rfl⟩ hd
theorem hR {a:Addr}(h:X.mg x=some (.ref a))(hg:Gl X x:=by rfl)(hd:(x == ("__debug__":Str))=false:=by decide):PE X (.Name x pos) (tC (.ref a)):=EZ hg h rfl hd
end
structure Gr (ms:List Addr)(G H G' H':Hp):Prop where
 kp:∀b o,H b=some o->b∉ms->H' b=some o
 up:bS G G'
 sub:bS G' H'
 fr:∀b o,G' b=some o->G b=some o\/H b=none\/∃xs,o=.tup xs
 th:∀b,H' b=none->H b=none
section
variable {ms eG:List Addr}{G H G1 H1 G2 H2:Hp}{m p x dx:Addr}{o:HO}
theorem Gr.refl (w:bS G H):Gr ms G H G H:=⟨λ_ _ e _=>e,bS.refl _,w,λ_ _ e=>.inl e,λ_ e=>e⟩
theorem Gr.trans (a:Gr ms G H G1 H1)(b:Gr ms G1 H1 G2 H2):Gr ms G H G2 H2 :=⟨λc o e h=>b.kp c o (a.kp c o e h) h,a.up.trans b.up,b.sub,λc o e=>(b.fr c o e).elim (λe1=>a.fr c o e1) λe1=>e1.elim (λe2=>.inr (.inl (a.th c e2))) λe2=>.inr (.inr e2),λc e=>a.th c (b.th c e)⟩
theorem Gr.mono (a:Gr ms G H G1 H1)(h:∀b∈ms,b∈eG):Gr eG G H G1 H1:=⟨λc o e n=>a.kp c o e λq=>n (h c q),a.up,a.sub,a.fr,a.th⟩
theorem Gr.any (a:Gr [] G H G1 H1):Gr ms G H G1 H1:=a.mono λ_ h=>nomatch h
theorem Gr.same (a:Gr [] G H G1 H1):bS H H1:=λb o e=>a.kp b o e (by simp)
theorem Gr.dS (w:bS G H)(s:bS H H1):Gr ms G H G H1:=⟨λb o e _=>s b o e,bS.refl _,w.trans s,λ_ _ e=>.inl e,λ_ e=>s.free e⟩
theorem Gr.out (a:Gr ms G H G1 H1)(hG:G m=none)(hH:H m≠none)(hT:∀xs,H1 m≠some (.tup xs)):G1 m=none:=by
 cases e:G1 m with
 | none=>rfl
 | some o =>
  rcases a.fr m o e with q | q | ⟨xs,q⟩
  ·rw [hG] at q;cases q
  ·exact ai q hH
  ·rw [q] at e;exact ai (a.sub _ _ e) (hT xs)
theorem Gr.new (a:Gr ms G H G1 H1)(hp:H1 p=none):Gr ms G H (upd G1 p o) (upd H1 p o):=by
 have hG:G1 p=none:=a.sub.free hp;refine ⟨λb u e n=>?_,λb u e=>?_,λb u e=>?_,λb u e=>?_,λb e=>?_⟩
 ·have q:=a.kp b u e n;rw [bR (cb q hp)];exact q
 ·have q:=a.up b u e;rw [bR (cb q hG)];exact q
 ·by_cases hb:b=p
  ·subst hb;rw [bN] at e ⊢;exact e
  ·rw [bR hb] at e ⊢;exact a.sub b u e
 ·by_cases hb:b=p
  ·subst hb;exact .inr (.inl (a.th _ hp))
  ·rw [bR hb] at e;exact a.fr b u e
 ·by_cases hb:b=p
  ·subst hb;exact a.th _ hp
  ·rw [bR hb] at e;exact a.th b e
theorem Gr.cX (a:Gr ms G H G1 H1)(hp:H1 p=none):Gr ms G H G1 (upd H1 p o):=by
 refine ⟨λb u e n=>?_,a.up,λb u e=>?_,a.fr,λb e=>?_⟩
 ·have q:=a.kp b u e n;rw [bR (cb q hp)];exact q
 ·have q:=a.sub b u e;rw [bR (cb q hp)];exact q
 ·by_cases hb:b=p
  ·subst hb;exact a.th _ hp
  ·rw [bR hb] at e;exact a.th b e
theorem Gr.wr (a:Gr ms G H G1 H1)(h:H m=none\/m∈ms)(hG:G1 m=none):Gr ms G H G1 (upd H1 m o):=by
 refine ⟨λb u e n=>?_,a.up,λb u e=>?_,a.fr,λb e=>?_⟩
 ·have q:=a.kp b u e n;rw [bR (λz=>?_)]
  ·exact q
  ·subst z;rcases h with h | h
   ·rw [h] at e;cases e
   ·exact n h
 ·rw [bR (cb e hG)];exact a.sub b u e
 ·by_cases hb:b=m
  ·subst hb;rw [bN] at e;cases e
  ·rw [bR hb] at e;exact a.th b e
theorem Gr.rH (a:Gr ms G H G1 H1)(h:H m=none)(e:H1 m=some o)(hG:G1 m=none):Gr ms G H (upd G1 m o) H1:=by
 refine ⟨a.kp,λb u q=>?_,λb u q=>?_,λb u q=>?_,a.th⟩
 ·have z:=a.up b u q;rw [bR (cb z hG)];exact z
 ·by_cases hb:b=m
  ·subst hb;rw [bN] at q;cases q;exact e
  ·rw [bR hb] at q;exact a.sub b u q
 ·by_cases hb:b=m
  ·subst hb;exact .inr (.inl h)
  ·rw [bR hb] at q;exact a.fr b u q
def nu (G H:Hp):Hp:=λb=>match H b with
 | some (.tup xs)=>some (.tup xs)
 | _=>G b
theorem wI {xs:List V}{b:Addr}(e:H b=some (.tup xs)):nu G H b=some (.tup xs):=by unfold nu;rw [e]
theorem MA (w:bS G H):bS G (nu G H):=λb o e=>by
 have q:=w b o e;unfold nu;rw [q];cases o with
 | tup xs=>rfl
 | _=>exact e
theorem Co (w:bS G H):bS (nu G H) H:=λb o e=>by
 unfold nu at e
 split at e
 ·rename_i xs h;rw [h];exact e
 ·exact w b o e
theorem zu {b:Addr}(h:G b=none)(hT:∀xs,H b≠some (.tup xs)):nu G H b=none:=by
 unfold nu
 split
 ·rename_i xs e;exact ai e (hT xs)
 ·exact h
theorem Gr.Cp (a:Gr ms G H G1 H1):Gr ms G H (nu G1 H1) H1 :=
 ⟨a.kp,a.up.trans (MA a.sub),Co a.sub,λb o e=>by
  unfold nu at e
  split at e
  ·rename_i xs h;cases e;exact .inr (.inr ⟨xs,rfl⟩)
  ·exact a.fr b o e,a.th⟩
theorem Gr.ins (a:Gr ms G H G1 H1){C:Addr}{fs:List (Str×V)}(nx:H1 x=none)(nd:H1 dx=none)(ne:dx≠x) :
  Gr ms G H (upd (upd G1 dx (.own x)) x (.ins C dx fs)) (upd (upd H1 dx (.own x)) x (.ins C dx fs)) :=
 (a.new nd).new (by rw [bR (λz=>ne z.symm)];exact nx)
theorem bS.new (hp:H p=none):bS H (upd H p o):=λb u e=>by rw [bR (cb e hp)];exact e
theorem bS.ins (nx:H x=none)(nd:H dx=none)(ne:dx≠x){C:Addr}{fs:List (Str×V)}:bS H (upd (upd H dx (.own x)) x (.ins C dx fs)) :=(bS.new nd).trans (bS.new (by rw [bR (λz=>ne z.symm)];exact nx))
end
end Hz
namespace Hz
open PySem PySem.Spec PyProof.Rows L2 TL
open Ks337 (Bytes Cond Thing Line House)
theorem Qq:bootBuiltins "int"=some (.type "int"):=by decide +kernel
theorem WK:bootBuiltins "str"=some (.type "str"):=by decide +kernel
theorem vJ:bootBuiltins "list"=some (.type "list"):=by decide +kernel
theorem JD:bootBuiltins "tuple"=some (.type "tuple"):=by decide +kernel
theorem Qr:bootBuiltins "ord"=some (.builtin "ord"):=by decide +kernel
theorem Qs:bootBuiltins "all"=some (.builtin "all"):=by decide +kernel
def jf (x:Str):Option V:=if x="not" then some (.int 1) else if x="and" then some (.int 2) else if x="or" then some (.int 2) else none
def hU:List (Str×Nat×Bool):=[("begin",0,false),("load",0,true),("mayload",0,true),("tell",0,false),("add",1,true),("mayadd",1,true),("drop",1,false),("maydrop",1,false),("move",2,false),("maymove",2,false),("unedit",0,false),("reedit",0,false),("set",2,false),("look",2,false),("back",0,false),("again",0,false),("value",1,false),("values",0,false),("why",1,false),("line",1,false),("name",1,false),("find",0,true),("could",0,true),("count",0,false),("idle",0,false),("log",1,false),("state",0,false)]
def rJ:List (List V):=hU.map λr=>[.str r.1,.int r.2.1,.bl r.2.2]
structure Cs where
 Thing:Addr
 Entry:Addr
 House:Addr
 Passes:Addr
 Reach:Addr
 Verdict:Addr
 dm:Addr
 Event:Addr
 b7:Addr
 dA:Addr
 Call:Addr
 MB:Addr
 zw:Addr
 Qt:Addr
 wJ:Addr
 Sd:Addr
 N3:Addr
 JE:Addr
 mz:Addr
 nv:Addr
 kX:Addr
 qv:Addr
structure Tx (w:World)(K:PySem.W.Frag)(mg:Str->Option Value)(c:Cs):Prop where
 lZ:yb K mg "Thing" c.Thing ["kind","name","top"]
 lG:Md K c.Thing "__init__" "Thing.__init__" rp ["self","kind","name","top"]
 ny:yb K mg "Entry" c.Entry ["words","condition","thing","value"]
 lH:Md K c.Entry "__init__" "Entry.__init__" rq ["self","words","condition","thing","value"]
 nz:yb K mg "House" c.House ["things","entries"]
 lI:Md K c.House "__init__" "House.__init__" rA ["self","things","entries"]
 iR:yb K mg "Passes" c.Passes ["entries","deciding","following"]
 kD:Md K c.Passes "__init__" "Passes.__init__" qb ["self","entries"]
 kE:Md K c.Passes "rules_in" "Passes.rules_in" qc ["self","state"]
 nA:Md K c.Passes "after" "Passes.after" vE ["self","state"]
 nB:yb K mg "Reach" c.Reach ["ways","endless"]
 lJ:Md K c.Reach "__init__" "Reach.__init__" rB ["self","ways","endless"]
 jN:yb K mg "Verdict" c.Verdict ["outcome","ban","way","settled"]
 jO:Md K c.Verdict "__init__" "Verdict.__init__" oZ ["self","outcome","ban","way","settled"]
 jP:yb K mg "Reading" c.dm ["refusal","house"]
 jQ:Md K c.dm "__init__" "Reading.__init__" o4 ["self","refusal","house"]
 nE:yb K mg "Event" c.Event ["thing","value","before"]
 lK:Md K c.Event "__init__" "Event.__init__" rC ["self","thing","value","before"]
 jR:yb K mg "Running" c.b7 ["house","state","events","events_back","changes","changes_back"]
 jS:Md K c.b7 "__init__" "Running.__init__" o5 ["self"]
 lL:yb K mg "Wanted" c.dA ["refusal","entries","answer"]
 kF:Md K c.dA "__init__" "Wanted.__init__" qg ["self","refusal","entries","answer"]
 rK:yb K mg "Call" c.Call ["name","numbers","row","behind"]
 mB:Md K c.Call "__init__" "Call.__init__" ud ["self","name","numbers","row","behind"]
 nG:Fd K mg "thing_called" vB ["name","things"]
 nH:Fd K mg "count_states" vC ["things"]
 mC:Fd K mg "comparison_of" t8 ["words","things"]
 zx:Fd K mg "part_at" GA ["words","place","things"]
 nI:Fd K mg "condition_of" vD ["words","things"]
 wK:Fd K mg "compares" DN ["value","sign","digit"]
 Fv:Fd K mg "holds" Mv ["condition","state"]
 mD:Fd K mg "deciding_rule" t9 ["entries","thing","state"]
 rL:Fd K mg "after_pass" y4 ["entries","rules","state"]
 Fw:Fd K mg "trail" Mw ["passes","state"]
 rM:Fd K mg "with_value" y6 ["state","thing","value"]
 uI:Fd K mg "events_of" BF ["things"]
 rN:Fd K mg "reach_from" y8 ["things","passes","start"]
 rO:Fd K mg "broken_ban" y9 ["entries","state"]
 Fx:Fd K mg "judge" Mx ["house","state"]
 zy:Fd K mg "sign_of" GB ["byte"]
 zz:Fd K mg "is_line" GC ["row"]
 wL:Fd K mg "words_of" DO ["row"]
 wM:Fd K mg "lines_of" DP ["text"]
 wN:Fd K mg "bytes_of" DQ ["text"]
 zA:Fd K mg "counted" GD ["numbers"]
 rP:Fd K mg "thing_line" za ["thing"]
 rQ:Fd K mg "entry_line" zb ["entry"]
 rR:Fd K mg "tell_house" zc ["house"]
 uJ:Fd K mg "tell_line" BG ["house","number"]
 uK:Fd K mg "tell_name" BH ["house","number"]
 rS:Fd K mg "find_thing" zd ["house","row"]
 wO:Fd K mg "tell_way" DR ["way"]
 nJ:Fd K mg "tell_verdict" vF ["verdict"]
 wQ:Fd K mg "value_of" DS ["running","thing"]
 rT:Fd K mg "all_values" ze ["running"]
 Cq:Fd K mg "why_so" Jt ["running","thing"]
 Cr:Fd K mg "logged" Ju ["running","number"]
 Fy:Fd K mg "sizes" My ["running"]
 pG:Fd K mg "is_new_name" x8 ["word","things"]
 wR:Fd K mg "thing_of" DT ["words","things"]
 zB:Fd K mg "rule_of" GF ["words","things"]
 Ct:Fd K mg "ban_of" Jv ["words","things"]
 wU:Fd K mg "entry_of" DU ["words","things"]
 uL:Fd K mg "take_line" BI ["house","line"]
 uM:Fd K mg "read_text" BJ ["text"]
 mE:Fd K mg "forget_events" ua ["running"]
 lM:Fd K mg "forget_changes" rD ["running"]
 kG:Fd K mg "verdict_refusal" qe ["verdict"]
 uN:Fd K mg "settle_in" BK ["running","house","state"]
 Fz:Fd K mg "begin" Mz ["running"]
 wW:Fd K mg "all_zero" DV ["things"]
 JF:Fd K mg "load" s_load ["running","text"]
 zC:Fd K mg "mayload" GG ["text"]
 mF:Fd K mg "event_refusal" ub ["things","thing","value"]
 pH:Fd K mg "event_trail" x9 ["running","thing","value"]
 Cu:Fd K mg "happen" Jw ["running","thing","value"]
 uO:Fd K mg "set_thing" BL ["running","thing","value"]
 rV:Fd K mg "look_ahead" zf ["running","thing","value"]
 uP:Fd K mg "take_back" BM ["running"]
 wX:Fd K mg "do_again" DW ["running"]
 zD:Fd K mg "refused" GH ["refusal"]
 wY:Fd K mg "inserted" DX ["entries","number","entry"]
 zE:Fd K mg "without" GI ["entries","number"]
 wZ:Fd K mg "addition" DY ["house","number","line"]
 zF:Fd K mg "removal" GJ ["house","number"]
 rW:Fd K mg "relocation" zg ["house","number","place"]
 nL:Fd K mg "take_entries" vG ["running","entries"]
 JG:Fd K mg "make" Qn ["running","wanted"]
 w6:Fd K mg "may_make" DZ ["running","wanted"]
 zG:Fd K mg "go_over" GK ["running","source","goal"]
 Cv:Fd K mg "unedit" Jx ["running"]
 Cw:Fd K mg "reedit" Jy ["running"]
 w8:Fd K mg "ways_now" D0 ["running","passes"]
 rX:Fd K mg "could_come" zh ["running","row"]
 nM:Fd K mg "count_coming" vH ["running"]
 nN:Fd K mg "gone_through" vI ["running","passes"]
 mG:Fd K mg "rules_at_work" uc ["running"]
 rY:Fd K mg "idle_rules" zi ["running"]
 zH:Fd K mg "call_at" GL ["calls","place"]
 mH:Fd K mg "wanted_change" ue ["house","call"]
 mI:Fd K mg "answer_to_row" uf ["running","name","row"]
 jT:Fd K mg "answer_to_number" o6 ["running","name","number"]
 kH:Fd K mg "answer_to_event" qh ["running","name","thing","value"]
 lN:Fd K mg "answer_to_name" rE ["running","name"]
 kI:Fd K mg "answer_in_house" qi ["running","call"]
 uQ:Fd K mg "answer_to" BN ["running","call"]
 zI:Fd K mg "answers" ug ["calls"]
 fS:∃t,mg "COMPARISON_WORDS"=some (.int (3) t)
 zJ:∃t,mg "FINE"=some (.int (0) t)
 o7:∃t,mg "ENDLESS"=some (.int (1) t)
 nO:∃t,mg "BROKEN"=some (.int (2) t)
 fT:∃t,mg "NO_SUCH"=some (.int (-2) t)
 fZ:∃t,mg "THERE_IS_NONE"=some (.int (-6) t)
 JH:∃t,mg "FULL"=some (.int (-12) t)
 qw:∃t,mg "TOO_MUCH"=some (.int (-22) t)
 w9:∃t,mg "BAD_SIZE"=some (.int (-28) t)
 pI:∃t,mg "NEVER_COMES"=some (.int (-33) t)
 mJ:∃t,mg "NO_SUCH_VALUE"=some (.int (-34) t)
 jU:∃t,mg "GOES_ON_FOR_EVER"=some (.int (-41) t)
 nP:∃t,mg "BREAKS_A_BAN"=some (.int (-42) t)
 xb:∃t,mg "NO_HOUSE"=some (.int (-61) t)
 oB:∃t,mg "BAD_WORDS"=some (.int (-71) t)
 nQ:∃t,mg "BEFORE_LINES"=some (.int (-1000) t)
 FC:∃t,mg "SIGNS"=some (.str " abcdefghijklmnopqrstuvwxyz0123456789=<>-" t)
 rZ:∃t,mg "OTHER_SIGN"=some (.str "?" t)
 xc:∃t,mg "LINE_END"=some (.int (10) t)
 r8:∃t,mg "FIRST_BYTE"=some (.int (32) t)
 uR:∃t,mg "LAST_BYTE"=some (.int (126) t)
 nR:∃t,mg "LONGEST_LINE"=some (.int (100) t)
 zK:∃t,mg "LETTERS"=some (.str "abcdefghijklmnopqrstuvwxyz" t)
 nS:∃t,mg "LONGEST_NAME"=some (.int (8) t)
 gO:∃t,mg "RULE_END_WORDS"=some (.int (4) t)
 r9:∃t,mg "MOST_BYTES"=some (.int (1200) t)
 pJ:∃t,mg "MOST_THINGS"=some (.int (6) t)
 kf:∃t,mg "MOST_ENTRIES"=some (.int (16) t)
 pK:∃t,mg "MOST_STATES"=some (.int (64) t)
 pL:∃t,mg "MOST_EVENTS"=some (.int (50) t)
 nT:∃t,mg "MOST_CHANGES"=some (.int (20) t)
 cW:mg "len"=none
 HV:mg "ord"=none
 N4:mg "str"=none
 HW:mg "int"=none
 sj:mg "list"=none
 AJ:mg "tuple"=none
 HX:mg "all"=none
 fN:mg "enumerate"=none
 N5:mg "zip"=none
 AK:mg "range"=none
 xf:mg "reversed"=none
 l0:mg "JOINING"=some (.ref c.MB)
 uS:mg "COMPARING"=some (.ref c.zw)
 Cy:mg "DIGITS"=some (.ref c.Qt)
 sk:mg "KEPT_WORDS"=some (.ref c.wJ)
 JI:mg "TOPS"=some (.ref c.Sd)
 FD:mg "CALLS"=some (.ref c.N3)
 Cz:mg "MAKING"=some (.ref c.JE)
 CA:mg "ASKING"=some (.ref c.mz)
 xg:mg "WITH_ROW"=some (.ref c.nv)
 pM:mg "WITH_NUMBER"=some (.ref c.kX)
 sq:mg "WITH_EVENT"=some (.ref c.qv)
 uT:∀H,cA K H c.zw [.str "=",.str "<",.str ">"]
 CB:∀H,cA K H c.Qt [.str "0",.str "1",.str "2",.str "3"]
 sr:∀H,cA K H c.wJ [.str "in",.str "out",.str "rule",.str "never",.str "and",.str "or",.str "not"]
 JJ:∀H,cA K H c.Sd [.str "1",.str "2",.str "3"]
 CC:∀H,cA K H c.JE [.str "add",.str "drop",.str "move"]
 iS:∀H,cA K H c.mz [.str "mayadd",.str "maydrop",.str "maymove"]
 kg:∀H,cA K H c.nv [.str "find",.str "could"]
 jb:∀H,cA K H c.kX [.str "value",.str "why",.str "line",.str "name",.str "log"]
 mK:∀H,cA K H c.qv [.str "set",.str "look"]
 FE:∃as:List Addr,(∀H,cA K H c.N3 (as.map V.ref))/\Paired (λa r=>∀H,cA K H a r) as rJ
 qK:KD w K c.MB jf
section
variable {w:World}{K:PySem.W.Frag}{mg:Str->Option Value}{c:Cs}(T:Tx w K mg c)
include T
theorem Tx.fF:i7 K c.Thing:=T.lZ.cl
theorem Tx.fG {f:Str}(h:f∈(["kind","name","top"]:List Str):=by simp):dY K c.Thing f:=T.lZ.no f h
theorem Tx.ir:i7 K c.Entry:=T.ny.cl
theorem Tx.iu {f:Str}(h:f∈(["words","condition","thing","value"]:List Str):=by simp):dY K c.Entry f:=T.ny.no f h
theorem Tx.cH:i7 K c.House:=T.nz.cl
theorem Tx.cI {f:Str}(h:f∈(["things","entries"]:List Str):=by simp):dY K c.House f:=T.nz.no f h
theorem Tx.fH:i7 K c.Passes:=T.iR.cl
theorem Tx.fJ {f:Str}(h:f∈(["entries","deciding","following"]:List Str):=by simp):dY K c.Passes f:=T.iR.no f h
theorem Tx.nU:i7 K c.Reach:=T.nB.cl
theorem Tx.nV {f:Str}(h:f∈(["ways","endless"]:List Str):=by simp):dY K c.Reach f:=T.nB.no f h
theorem Tx.d3:i7 K c.Verdict:=T.jN.cl
theorem Tx.d4 {f:Str}(h:f∈(["outcome","ban","way","settled"]:List Str):=by simp):dY K c.Verdict f:=T.jN.no f h
theorem Tx.eU:i7 K c.dm:=T.jP.cl
theorem Tx.eV {f:Str}(h:f∈(["refusal","house"]:List Str):=by simp):dY K c.dm f:=T.jP.no f h
theorem Tx.l4:i7 K c.Event:=T.nE.cl
theorem Tx.l5 {f:Str}(h:f∈(["thing","value","before"]:List Str):=by simp):dY K c.Event f:=T.nE.no f h
theorem Tx.b0:i7 K c.b7:=T.jR.cl
theorem Tx.b4 {f:Str}(h:f∈(["house","state","events","events_back","changes","changes_back"]:List Str):=by simp):dY K c.b7 f:=T.jR.no f h
theorem Tx.gk:i7 K c.dA:=T.lL.cl
theorem Tx.gn {f:Str}(h:f∈(["refusal","entries","answer"]:List Str):=by simp):dY K c.dA f:=T.lL.no f h
theorem Tx.cy:i7 K c.Call:=T.rK.cl
theorem Tx.cz {f:Str}(h:f∈(["name","numbers","row","behind"]:List Str):=by simp):dY K c.Call f:=T.rK.no f h
end
def S (w:Bytes):Str:=⟨w.toArray⟩
theorem nW (w:Bytes):tl (S w)=w:=rfl
theorem Ea {a b:Bytes}(h:S a=S b):a=b:=by have e:=congrArg tl h;exact e
theorem aal {a b:Bytes}:S a=S b↔a=b:=⟨Ea,λh=>by rw [h]⟩
theorem oC (w:Bytes):(S w).length=w.length:=by rw [IM];rfl
theorem N6:S Ks337.NOT=("not":Str):=by decide +kernel
theorem TR:S Ks337.AND=("and":Str):=by decide +kernel
theorem WL:S Ks337.OR=("or":Str):=by decide +kernel
theorem N7:S Ks337.EQ=("=":Str):=by decide +kernel
theorem WM:S Ks337.LT=("<":Str):=by decide +kernel
theorem aam:S Ks337.GT=(">":Str):=by decide +kernel
theorem WN:S Ks337.IN=("in":Str):=by decide +kernel
theorem TU:S Ks337.OUT=("out":Str):=by decide +kernel
theorem WO:S Ks337.RULE=("rule":Str):=by decide +kernel
theorem UY:S Ks337.NEVER=("never":Str):=by decide +kernel
theorem WQ:S Ks337.THEN=("->":Str):=by decide +kernel
theorem Yc:∀v:Nat,v<=3->S [48+v]=Str.ofString (toString (v:Int)):=by decide +kernel
def wV (ws:List Bytes):List V:=ws.map λw=>V.str (S w)
def fq (H:Hp)(a:Addr)(ws:List Bytes):Prop:=H a=some (.lst (wV ws))
def dc (H:Hp)(a:Addr)(ns:List Int):Prop:=H a=some (.lst (ns.map V.int))
def Eb (t:Thing):List (Str×V):=[("kind",.str (if t.out then "out" else "in")),("name",.str (S t.name)),("top",.int (t.most:Int))]
def jg (c:Cs)(H:Hp)(a:Addr)(t:Thing):Prop:=∃dx,H a=some (.ins c.Thing dx (Eb t))
def dG (c:Cs)(H:Hp)(l:Addr)(ts:List Thing):Prop:=∃as:List Addr,H l=some (.lst (as.map V.ref))/\Paired (jg c H) as ts
theorem Ec (t:Thing):(Eb t).lookup ("kind":Str)=some (.str (if t.out then "out" else "in")):=by rfl
theorem qx (t:Thing):(Eb t).lookup ("name":Str)=some (.str (S t.name)):=by rfl
theorem l6 (t:Thing):(Eb t).lookup ("top":Str)=some (.int (t.most:Int)):=by rfl
def xh:Hy.Part->List V
 | .pB=>[.str "not",.cw,.cw]
 | .nh=>[.str "and",.cw,.cw]
 | .vv=>[.str "or",.cw,.cw]
 | .cmp o t v=>[.str (S o),.int (t:Int),.int (v:Int)]
def jV (H:Hp)(a:Addr)(p:Hy.Part):Prop:=H a=some (.tup (xh p))
def iw (H:Hp)(a:Addr)(ps:List Hy.Part):Prop:=∃as:List Addr,H a=some (.lst (as.map V.ref))/\Paired (jV H) as ps
def Ed (H:Hp)(a:Addr)(cd:Cond):Prop:=iw H a (Hy.flat cd)
def lx:Line->Cond
 | .rule cd _ _=>cd
 | .never cd=>cd
def jW:Line->V
 | .rule _ t _=>.int (t:Int)
 | .never _=>.cw
def Qu:Line->V
 | .rule _ _ v=>.int (v:Int)
 | .never _=>.cw
def zL (w cd:Addr)(l:Line):List (Str×V):=[("words",.ref w),("condition",.ref cd),("thing",jW l),("value",Qu l)]
def eM (c:Cs)(ts:List Thing)(H:Hp)(a:Addr)(l:Line):Prop:=∃dx w cd,H a=some (.ins c.Entry dx (zL w cd l))/\fq H w (Hy.dQ ts l)/\Ed H cd (lx l)
def cY (c:Cs)(ts:List Thing)(H:Hp)(l:Addr)(ls:List Line):Prop:=∃as:List Addr,H l=some (.lst (as.map V.ref))/\Paired (eM c ts H) as ls
theorem Lj (w cd:Addr)(l:Line):(zL w cd l).lookup ("words":Str)=some (.ref w):=by rfl
theorem Ee (w cd:Addr)(l:Line):(zL w cd l).lookup ("condition":Str)=some (.ref cd):=by rfl
theorem uU (w cd:Addr)(l:Line):(zL w cd l).lookup ("thing":Str)=some (jW l):=by rfl
theorem Lk (w cd:Addr)(l:Line):(zL w cd l).lookup ("value":Str)=some (Qu l):=by rfl
def kY (tl el:Addr):List (Str×V):=[("things",.ref tl),("entries",.ref el)]
def eN (c:Cs)(H:Hp)(a:Addr)(h:House):Prop:=∃dx tl el,H a=some (.ins c.House dx (kY tl el))/\dG c H tl h.things/\cY c h.things H el h.lines
theorem cS (tl el:Addr):(kY tl el).lookup ("things":Str)=some (.ref tl):=by rfl
theorem cU (tl el:Addr):(kY tl el).lookup ("entries":Str)=some (.ref el):=by rfl
section
variable {c:Cs}{H H':Hp}{a:Addr}
theorem fq.up {ws:List Bytes}(h:fq H a ws)(s:bS H H'):fq H' a ws:=s _ _ h
theorem dc.up {ns:List Int}(h:dc H a ns)(s:bS H H'):dc H' a ns:=s _ _ h
theorem jg.up {t:Thing}(h:jg c H a t)(s:bS H H'):jg c H' a t:=let ⟨dx,e⟩:=h;⟨dx,s _ _ e⟩
theorem dG.up {ts:List Thing}(h:dG c H a ts)(s:bS H H'):dG c H' a ts:=let ⟨as,e,p⟩:=h;⟨as,s _ _ e,Paired.imp' (λ_ _ q=>q.up s) p⟩
theorem jV.up {p:Hy.Part}(h:jV H a p)(s:bS H H'):jV H' a p:=s _ _ h
theorem iw.up {ps:List Hy.Part}(h:iw H a ps)(s:bS H H'):iw H' a ps:=let ⟨as,e,p⟩:=h;⟨as,s _ _ e,Paired.imp' (λ_ _ q=>jV.up q s) p⟩
theorem eM.up {ts:List Thing}{l:Line}(h:eM c ts H a l)(s:bS H H'):eM c ts H' a l:=let ⟨dx,w,cd,e,h1,h2⟩:=h;⟨dx,w,cd,s _ _ e,fq.up h1 s,iw.up h2 s⟩
theorem cY.up {ts:List Thing}{ls:List Line}(h:cY c ts H a ls)(s:bS H H'):cY c ts H' a ls:=let ⟨as,e,p⟩:=h;⟨as,s _ _ e,Paired.imp' (λ_ _ q=>eM.up q s) p⟩
theorem eN.up {h:House}(x:eN c H a h)(s:bS H H'):eN c H' a h:=let ⟨dx,tl,el,e,h1,h2⟩:=x;⟨dx,tl,el,s _ _ e,h1.up s,h2.up s⟩
end
theorem Paired.lO {α β:Type}{G:α->β->Prop}{l1:List α}{l2:List β}(h:Paired G l1 l2):∀{i:Nat}{b:β},l2[i]?=some b->∃a,l1[i]?=some a/\G a b:=by
 induction h with
 | nil=>intro i b e;simp at e
 | @cons a b l1 l2 r t ih =>
  intro i b' e;cases i with
  | zero =>simp only [List.getElem?_cons_zero,Option.some.injEq] at e;subst e;exact ⟨a,rfl,r⟩
  | succ j =>simp only [List.getElem?_cons_succ] at e ⊢;exact ih e
theorem d5 {as:List Addr}{i:Nat}{y:V}(h:(as.map V.ref)[i]?=some y):∃a,as[i]?=some a/\y=.ref a:=by
 rw [aS] at h;cases e:as[i]? with
 | none=>rw [e] at h;cases h
 | some a=>rw [e] at h;exact ⟨a,rfl,(ao h).symm⟩
theorem qL {α:Type}{f:α->V}{l:List α}{i:Nat}{y:V}(h:(l.map f)[i]?=some y):∃a,l[i]?=some a/\y=f a:=by
 rw [aS] at h;cases e:l[i]? with
 | none=>rw [e] at h;cases h
 | some a=>rw [e] at h;exact ⟨a,rfl,(ao h).symm⟩
def optN:Option Nat->V
 | some n=>.int (n:Int)
 | none=>.cw
theorem bS.aan {K:PySem.W.Frag}{H H':Hp}{a:Addr}{xs:List V}(e:bS H H')(h:cA K H a xs):cA K H' a xs:=by
 rcases h with (h | ⟨o,h⟩) | h
 ·exact .inl (.inl (e _ _ h))
 ·exact .inl (.inr ⟨o,e _ _ h⟩)
 ·exact .inr h
theorem zM (xs:List V)(k:Nat):fE xs none (some (k:Int))=xs.take k:=by
 unfold fE;rw [HT.wk,HT.m8,List.drop_zero,Nat.sub_zero];rcases Nat.le_total k xs.length with h | h
 ·rw [Nat.min_eq_left h]
 ·rw [Nat.min_eq_right h,aZ,List.take_of_length_le h]
theorem zN (xs:List V)(k:Nat):fE xs (some (k:Int)) none=xs.drop k:=by
 unfold fE;rw [HT.wk,HT.m8];rcases Nat.le_total k xs.length with h | h
 ·rw [Nat.min_eq_left h,List.take_of_length_le (by simp)]
 ·rw [Nat.min_eq_right h,List.drop_length,List.drop_eq_nil_of_le h];simp
theorem GR {K:PySem.W.Frag}{H:Hp}{a:Addr}{xs:List V}{k:Nat}{Q:VK}(h:cA K H a xs)(q:∀H' p,bS H H'->cA K H' p (xs.take k)->Q (.ref p) H'):Jm K (.ref a) none (some (k:Int)) H Q:=by
 refine ⟨a,xs,rfl,h,λe=>?_,λ_ p hp=>?_⟩
 ·refine q H a (bS.refl _) ?_;have e2:=e.2;rw [HT.m8] at e2;rw [List.take_of_length_le (by omega)];exact h
 ·refine q _ p (bS.new hp) ?_;rw [zM];exact cA.of bN
theorem Qv {K:PySem.W.Frag}{H:Hp}{a:Addr}{xs:List V}{k:Nat}{Q:VK}(h:cA K H a xs)(q:∀H' p,bS H H'->cA K H' p (xs.drop k)->Q (.ref p) H'):Jm K (.ref a) (some (k:Int)) none H Q:=by
 refine ⟨a,xs,rfl,h,λe=>?_,λ_ p hp=>?_⟩
 ·refine q H a (bS.refl _) ?_;have e1:=e.1;rw [HT.m8] at e1;have e3:k=0\/xs.length=0:=by omega
  rcases e3 with e3 | e3
  ·subst e3;exact h
  ·rw [List.drop_eq_nil_of_le (by omega)];rw [bt e3] at h;exact h
 ·refine q _ p (bS.new hp) ?_;rw [zN];exact cA.of bN
theorem JK (xs:List V)(k n:Nat):fE xs (some (k:Int)) (some ((k+n:Nat):Int))=(xs.drop k).take n:=by
 unfold fE;rw [HT.m8,HT.m8];rcases Nat.le_total k xs.length with h | h
 ·rw [Nat.min_eq_left h];rcases Nat.le_total (k+n) xs.length with h2 | h2
  ·rw [Nat.min_eq_left h2,Nat.add_sub_cancel_left]
  ·rw [Nat.min_eq_right h2,List.take_of_length_le (by simp),List.take_of_length_le (by simp;omega)]
 ·rw [Nat.min_eq_right h,List.drop_length,List.drop_eq_nil_of_le h];simp
theorem Yd (a b:Bytes):Bl (.str (S a)) (.str (S b))=decide (a=b):=by
 show decide (S a=S b)=decide (a=b)
 by_cases h:a=b
 ·rw [h];simp
 ·rw [az h,az (λe=>h (Ea e))]
theorem l7 (x:Bytes):∀ws:List Bytes,gU (.str (S x)) (wV ws)=decide (x∈ws)
 | []=>by simp [gU,wV]
 | a::ws=>by
  have ih:=l7 x ws;unfold gU wV at ih ⊢;rw [aw,List.any_cons,ih,Yd]
  by_cases h:a=x
  ·subst h;simp
  ·rw [az h,Bool.false_or]
   by_cases h2:x∈ws
   ·simp [h2]
   ·rw [az h2,az (λe=>by rcases ak.mp e with e | e;exact h e.symm;exact h2 e)]
theorem N8 (ws:List Bytes):(wV ws).all iJ=true:=by unfold wV;rw [List.all_map,br];intro x _;rfl
theorem JL:([.str "=",.str "<",.str ">"]:List V)=wV [Ks337.EQ,Ks337.LT,Ks337.GT]:=by simp only [wV,aw,List.map_nil,N7,WM,aam]
theorem digits_eq:([.str "0",.str "1",.str "2",.str "3"]:List V)=wV [[48],[49],[50],[51]]:=by decide +kernel
theorem eI {ws:List Bytes}{i:Nat}{x:Bytes}(h:ws[i]?=some x):(wV ws)[i]?=some (.str (S x)):=by unfold wV;rw [aS,h];rfl
theorem iy (ws:List Bytes):(wV ws).length=ws.length:=af ..
theorem AL (ws:List Bytes)(k:Nat):(wV ws).take k=wV (ws.take k):=by unfold wV;rw [List.map_take]
theorem FF (ws:List Bytes)(k:Nat):(wV ws).drop k=wV (ws.drop k):=by unfold wV;rw [List.map_drop]
theorem N9 {ts:List Thing}{ws:List Bytes}(h:ws.length≠3):Hy.dR ts ws=none:=by
 match ws,h with
 | [],_=>rfl
 | [_],_=>rfl
 | [_,_],_=>rfl
 | [_,_,_],h=>exact ai rfl h
 | _::_::_::_::_,_=>rfl
theorem uV (ts:List Thing)(w:Bytes)(r:List Bytes):Hy.jG ts (w::r)=if w=Ks337.NOT then some .pB else if w=Ks337.AND then some .nh else if w=Ks337.OR then some .vv else Hy.dR ts ((w::r).take 3):=rfl
theorem mL (ts:List Thing)(n o d:Bytes):Hy.dR ts [n,o,d]=if o=Ks337.EQ\/o=Hy.mZ\/o=Ks337.GT then (match Ks337.find ts n with
   | some t=>(match Ks337.digit d with
    | some v=>if v<=Ks337.most ts t then some (.cmp o t v) else none
    | none=>none)
   | none=>none) else none:=rfl
theorem Se {α:Type}{o a b c:α}:o∈[a,b,c]↔o=a\/o=b\/o=c:=by simp
theorem AM {P:Prop}[Decidable P]{x:Bool}(e:(if true=true then !decide P else x)=true):¬P:=λq=>by rw [ab rfl,aj q] at e;cases e
theorem AN {P:Prop}[Decidable P]{x:Bool}(e:¬(if true=true then !decide P else x)=true):P:=by
 by_cases q:P
 ·exact q
 ·exact ai (by rw [ab rfl,az q];rfl) e
theorem aao {P:Prop}[Decidable P]{x:Bool}(e:(if false=true then x else decide P)=true):P:=by rw [aa (by decide)] at e;exact aD e
theorem aap {P:Prop}[Decidable P]{x:Bool}(e:¬(if false=true then x else decide P)=true):¬P:=λq=>e (by rw [aa (by decide)];exact aj q)
theorem three {ws:List Bytes}(h:ws.length=3):∃n o d,ws=[n,o,d]:=by
 match ws,h with
 | [n,o,d],_=>exact ⟨n,o,d,rfl⟩
theorem MC:∀v:Nat,v<=3->PySem.intText? (S [48+v])=some (v:Int):=by
 intro v hv;have h:v=0\/v=1\/v=2\/v=3:=by omega
 rcases h with rfl | rfl | rfl | rfl <;> decide +kernel
theorem JM {d:Bytes}{m:Nat}:d∈([[48],[49],[50],[51]]:List Bytes).take (m+1)↔∃v,Ks337.digit d=some v/\v<=m:=by
 constructor
 ·intro h;have h3:∃j,j<m+1/\j<4/\d=[48+j]:=by
   obtain ⟨j,hj,e⟩:=List.mem_iff_getElem.mp h;rw [aO] at hj;refine ⟨j,by omega,by simp at hj;omega,?_⟩;rw [List.getElem_take] at e;have hj4:j<4:=by simp at hj;omega
   have:j=0\/j=1\/j=2\/j=3:=by omega
   rcases this with rfl | rfl | rfl | rfl <;> exact e.symm
  obtain ⟨j,h1,h2,rfl⟩:=h3;exact ⟨j,Hy.IV (by omega),by omega⟩
 ·rintro ⟨v,h1,h2⟩;obtain ⟨rfl,h3⟩:=Hy.iO h1;have h:v=0\/v=1\/v=2\/v=3:=by omega
  refine List.mem_iff_getElem?.mpr ⟨v,?_⟩;rw [List.getElem?_take_of_lt (by omega)];rcases h with rfl | rfl | rfl | rfl <;> rfl
section
variable {P:Program}{w:World}{K:PySem.W.Frag}{mg:Str->Option Value}{base:Heap}{c:Cs}
inductive jr (c:Cs)(vs:List V)(H:Hp)(Q:VK)(E:XK):Prop | mk (l:Addr) (n:Bytes) (ts:List Thing):vs=[.str (S n),.ref l]->dG c H l ts->(∀H',bS H H'->Q (optN (Ks337.find ts n)) H')->jr c vs H Q E
theorem Ef (T:Tx w K mg c):Fn P w K mg base "thing_called" 1 ["name","things"] (jr c):=by
 refine T.nG.ok mv λH Q E hr h=>?_
 ·obtain ⟨l,n,ts,rfl,⟨as,hl,ha⟩,k⟩:=h;refine ⟨_,(bP (eA PassesOwn.never rfl (qH (by rfl) T.fN (bM (pv 1) bO)) (jC rfl (di (eO mv 2) (di (eO mv 3) ik))) (bQ (cg (bW dk (bT (pv 3) rfl) (pv 0) (b9 _)) (bQ (bU (pv 2))) b5)))
   (bQ (bU cF))),?_⟩
  refine ⟨_,rfl,l,_,rfl,bY.of hl,nk (K:=K) (a:=l) (xs:=as.map V.ref) (λi σ H'=>(∃v3 v4,σ=[some (.str (S n)),some (.ref l),v3,v4])/\bS H H'/\∀j<i,∀th:Thing,ts[j]?=some th->th.name≠n)
   ⟨⟨_,_,rfl⟩,bS.refl _,λj hj=>by omega⟩ (λi σ H' _ p=>bY.of (p.2.1 _ _ hl)) ?_ ?_⟩
  ·rintro i y σ H' z hi ⟨⟨v3,v4,rfl⟩,sm,p⟩ hz;obtain ⟨a,f6,rfl⟩:=d5 hi;obtain ⟨th,eQ,dx,kx⟩:=c5 ha f6;refine ⟨z,_,rfl,cA.of bN,rfl,_,_,rfl,_,_,rfl,rfl,_,rfl,_,c.Thing,dx,_,_,rfl,?_,T.fF,T.fG,qx th,_,rfl,rfl,_,rfl,?_⟩
   ·exact (sm.trans (bS.new hz)) _ _ kx
   ·refine df (λe=>?_) (λe=>?_)
    ·refine ⟨_,rfl,?_⟩;have e':th.name=n:=Ea (by have:=aD e;injection this);have q:=k _ (sm.trans (bS.new (o:=.tup [.int (i:Nat),.ref a]) hz));rw [Hy.Me p eQ e'] at q;exact q
    ·refine ⟨⟨_,_,rfl⟩,sm.trans (bS.new hz),λj hj x hx=>?_⟩
     by_cases su:j=i
     ·subst su;rw [eQ] at hx;cases hx;exact λe2=>e (by rw [e2];exact aj rfl)
     ·exact p j (by omega) x hx
  ·rintro σ H' ⟨⟨v3,v4,rfl⟩,sm,p⟩;have q:=k _ sm;rw [Hy.find_none (λj th hj=>p j (by
    obtain ⟨a,e,_⟩:=Paired.lO ha hj;rw [af];exact (aH.mp e).1) th hj)] at q
   exact q
inductive mM (c:Cs)(vs:List V)(H:Hp)(Q:VK)(E:XK):Prop | mk (l:Addr) (ts:List Thing):vs=[.ref l]->dG c H l ts->(∀th∈ts,th.most<=3)->(∀H',bS H H'->Q (.int (Hy.prod ts:Nat)) H')->mM c vs H Q E
theorem Qw {ts:List Thing}{i:Nat}{th:Thing}(h:ts[i]?=some th):Hy.prod (ts.take (i+1))=Hy.prod (ts.take i)*(th.most+1):=by
 induction ts generalizing i with
 | nil=>simp at h
 | cons t ts ih =>
  cases i with
  | zero =>simp only [List.getElem?_cons_zero,Option.some.injEq] at h;subst h;show (t.most+1)*1=1*(t.most+1);omega
  | succ j =>simp only [List.getElem?_cons_succ] at h;show (t.most+1)*Hy.prod (ts.take (j+1))=(t.most+1)*Hy.prod (ts.take j)*(th.most+1);rw [ih h,Nat.mul_assoc]
theorem Eg (T:Tx w K mg c):Fn P w K mg base "count_states" 1 ["things"] (mM c):=by
 refine T.nH.ok jq λH Q E hr h=>?_
 ·obtain ⟨l,ts,rfl,⟨as,hl,ha⟩,h3,k⟩:=h;have hlen:=Paired.length ha;refine ⟨_,(bP (cJ jq 1 b8)
   (bP (eA PassesOwn.never rfl (gC (pv 0)) (eO jq 2) (bQ (cJ jq 1 (dj VG (pv 1) (dj i6 (bT (pv 2) rfl) b8)))))
   (bQ (bU (pv 1))))),?_⟩
  refine ⟨_,rfl,l,rfl,⟨_,bY.of hl⟩,lC (K:=K) (a:=l) (xs:=as.map V.ref) (λi σ H'=>(∃v3,σ=[some (.ref l),some (.int (Hy.prod (ts.take i):Nat)),v3])/\H'=H)
   ⟨⟨_,rfl⟩,rfl⟩ (λi σ H' _ p=>by rw [p.2];exact bY.of hl) ?_ ?_⟩
  ·rintro i y σ H' hi ⟨⟨v3,rfl⟩,rfl⟩;obtain ⟨a,f6,rfl⟩:=d5 hi;obtain ⟨th,eQ,dx,kx⟩:=c5 ha f6;have hm:=h3 th (aM eQ);refine ⟨_,rfl,_,rfl,_,c.Thing,dx,_,_,rfl,kx,T.fF,T.fG,l6 th,_,_,rfl,rfl,_,_,rfl,rfl,.inr ⟨by omega,by omega⟩,⟨some (.ref a),?_⟩,rfl⟩;rw [Qw eQ];show _=_;have e:((Hy.prod (ts.take i)*(th.most+1):Nat):Int)=(Hy.prod (ts.take i):Int)*((th.most:Int)+1):=by
    rw [Int.natCast_mul];rfl
   rw [e];rfl
  ·rintro σ H' ⟨⟨v3,rfl⟩,rfl⟩;refine ⟨_,rfl,?_⟩;rw [af,hlen,aZ];exact k _ (bS.refl _)
def TV (G:Hp)(v:V):Option Hy.Part->Prop
 | none=>v=.cw
 | some p=>∃a,v=.ref a/\jV G a p
inductive gP (c:Cs)(vs:List V)(H:Hp)(Q:VK)(E:XK):Prop | mk (G:Hp) (wa la:Addr) (ws:List Bytes) (ts:List Thing):vs=[.ref wa,.ref la]->bS G H->fq H wa ws->dG c H la ts->(∀v G' H',Gr [] G H G' H'->TV G' v (Hy.dR ts ws)->Q v H')->gP c vs H Q E
theorem CD (T:Tx w K mg c)(gG:Fn P w K mg base "thing_called" 1 ["name","things"] (jr c)):Fn P w K mg base "comparison_of" 2 ["words","things"] (gP c):=by
 refine T.mC.ok rF λH Q E hr h=>?_
 ·obtain ⟨G,wa,la,ws,ts,rfl,hG,hw,ht,k⟩:=h;refine ⟨_,(bP (cg (ot (bW De (cv cf (by rfl) T.cW PySem.boot_len (bM (pv 0) bO)) (cG T.fS) (b9 _)) (oQ (bW jF (cQ cR (pv 0) b8 (λ_ _=>rfl)) (hR T.uS) (by with_unfolding_all rfl)))).pt (bQ (bU cF)) b5)
   (bP (cJ rF 2 (b6 gG hr (bM (cQ cR (pv 0) b8 (λ_ _=>rfl)) (bM (pv 1) bO))))
   (bP (cg (ot (bW gJ (pv 2) cF (b9 _)) (oQ (bW jF (cQ cR (pv 0) b8 (λ_ _=>rfl)) (dZ Fl (hR T.Cy) gE (dJ (dj i6 (bT (cQ cR (pv 1) (pv 2) (λ_ _=>rfl)) rfl) b8))) (by with_unfolding_all rfl)))).pt (bQ (bU cF)) b5)
   (bQ (bU (ip (bM (cQ cR (pv 0) b8 (λ_ _=>rfl)) (bM (pv 2) (bM (gy yK (by rfl) T.HW Qq (bM (cQ cR (pv 0) b8 (λ_ _=>rfl)) bO)) bO))))))))),?_⟩
  refine ⟨_,rfl,wa,_,rfl,.inl (bY.of hw),rfl,_,rfl,?_⟩;rw [iy];refine df (λe=>?_) (λe=>?_)
  ·refine nc ?_;refine k _ G H (Gr.refl hG) ?_;rw [N9 (λq=>by rw [q] at e;simp at e)];rfl
  ·have mN:ws.length=3:=by
    by_cases q:ws.length=3
    ·exact q
    ·exact ai (by simp;omega) e
   obtain ⟨n,o,d,rfl⟩:=three mN;refine ⟨_,rfl,wa,_,_,_,rfl,rfl,bY.of hw,cD (j:=1) (eI (x:=o) rfl),c.zw,_,rfl,.inr (T.uT _),rfl,by decide,_,rfl,?_⟩;rw [JL,l7];refine df (λe1=>?_) (λe1=>?_)
   ·have hn:=AM e1;refine k _ G H (Gr.refl hG) ?_;have hc:Hy.dR ts [n,o,d]=none:=by
     rw [mL,aa (λq=>hn (Se.mpr q))]
    rw [hc];rfl
   ·have p0:o=Ks337.EQ\/o=Hy.mZ\/o=Ks337.GT:=Se.mp (AN e1);refine ⟨_,rfl,wa,_,_,_,rfl,rfl,bY.of hw,cD (j:=0) (eI (x:=n) rfl),_,rfl,la,n,ts,rfl,ht,λH1 s1=>?_⟩;refine ⟨_,rfl,rfl,_,rfl,?_⟩;have g1:Gr [] G H G H1:=Gr.dS hG s1;cases hf:Ks337.find ts n with
    | none =>
     refine nc (nc ?_);refine k _ G H1 g1 ?_;have hc:Hy.dR ts [n,o,d]=none:=by rw [mL,ab p0,hf]
     rw [hc];rfl
    | some t =>
     refine m9 ?_;obtain ⟨as,hl,ha⟩:=ht;obtain ⟨th,eQ,_⟩:=Hy.find_some hf;obtain ⟨a,f6,dx,kx⟩:=Paired.lO ha eQ;have yc:H1 wa=some (.lst (wV [n,o,d])):=s1 _ _ hw;refine ⟨_,rfl,wa,_,_,_,rfl,rfl,bY.of yc,cD (j:=2) (eI (x:=d) rfl),_,rfl,_,rfl,la,_,_,_,rfl,rfl,bY.of (s1 _ _ hl),cD (j:=t) (v:=.ref a) (by rw [aS,f6];rfl),
      _,c.Thing,dx,_,_,rfl,s1 _ _ kx,T.fF,T.fG,l6 th,_,_,rfl,rfl,_,rfl,?_⟩
     refine GR (k:=th.most+1) (T.CB _) λH2 p s2 hp=>?_;rw [digits_eq,AL] at hp;refine ⟨p,_,rfl,.inr hp,rfl,N8 _,_,rfl,?_⟩;rw [l7];have g2:Gr [] G H G H2:=Gr.dS hG (s1.trans s2);have hm:Ks337.most ts t=th.most:=Hy.ka eQ;refine df (λe2=>?_) (λe2=>?_)
     ·have hd:¬d∈([[48],[49],[50],[51]]:List Bytes).take (th.most+1):=AM e2;refine k _ G H2 g2 ?_;have hc:Hy.dR ts [n,o,d]=none:=by
       rw [mL,ab p0,hf];cases qX:Ks337.digit d with
       | none=>rfl
       | some v =>show (if v<=Ks337.most ts t then _ else _)=_;rw [aa (λq=>hd (JM.mpr ⟨v,qX,by rw [hm] at q;exact q⟩))]
      rw [hc];rfl
     ·have hd:d∈([[48],[49],[50],[51]]:List Bytes).take (th.most+1):=AN e2;obtain ⟨v,hv,Y0⟩:=JM.mp hd;obtain ⟨kZ,GS⟩:=Hy.iO hv;have MD:H2 wa=some (.lst (wV [n,o,d])):=s2 _ _ yc;refine ⟨_,rfl,wa,_,_,_,rfl,rfl,bY.of MD,cD (j:=1) (eI (x:=o) rfl),_,rfl,_,rfl,wa,_,_,_,rfl,rfl,bY.of MD,cD (j:=2) (eI (x:=d) rfl),S d,(v:Int),rfl,(by rw [kZ];exact MC v GS),(by rw [oC,kZ];show 1<=640;decide),?_⟩;refine ⟨(TN),λq hq=>?_⟩;refine k _ _ _ (g2.new hq) ?_;have hc:Hy.dR ts [n,o,d]=some (.cmp o t v):=by
       rw [mL,ab p0,hf,hv];show (if v<=Ks337.most ts t then _ else _)=_;rw [ab (by rw [hm];exact Y0)]
      rw [hc];exact ⟨q,rfl,bN⟩
theorem Sf (x:Bytes):jf (S x)=if x=Ks337.NOT then some (.int 1) else if x=Ks337.AND then some (.int 2) else if x=Ks337.OR then some (.int 2) else none:=by unfold jf;rw [<-N6,<-TR,<-WL];simp only [aal]
inductive xi (c:Cs)(vs:List V)(H:Hp)(Q:VK)(E:XK):Prop | mk (G:Hp) (wa la:Addr) (ws:List Bytes) (ts:List Thing) (pl:Nat):vs=[.ref wa,.int (pl:Int),.ref la]->bS G H->fq H wa ws->dG c H la ts->(∀v G' H',Gr [] G H G' H'->TV G' v (Hy.jG ts (ws.drop pl))->Q v H')->xi c vs H Q E
theorem Oa (T:Tx w K mg c)(f7:Fn P w K mg base "comparison_of" 2 ["words","things"] (gP c)):Fn P w K mg base "part_at" 3 ["words","place","things"] (xi c):=by
 refine T.zx.ok NY λH Q E hr h=>?_
 ·obtain ⟨G,wa,la,ws,ts,pl,rfl,hG,hw,ht,k⟩:=h;refine ⟨_,(bP (cg (vj (bW ie (pv 1) (cv cf (by rfl) T.cW PySem.boot_len (bM (pv 0) bO)) (b9 _)) (qD (bW (Js T.qK) (cQ cR (pv 0) (pv 1) (λ_ _=>rfl)) (hR T.l0) (by with_unfolding_all rfl)))).pt (bQ (bU (ip (bM (cQ cR (pv 0) (pv 1) (λ_ _=>rfl)) (bM cF (bM cF bO)))))) b5)
   (bQ (bU (b6 f7 hr (bM (dZ fV (pv 0) (dJ (pv 1)) (dJ (dj i6 (pv 1) (cG T.fS)))) (bM (pv 2) bO)))))),?_⟩
  have last:∀(yz:∀x r,ws.drop pl=x::r->x≠Ks337.NOT/\x≠Ks337.AND/\x≠Ks337.OR),Nc (HJ (gP c) [] E0 (wg (VO (Rw K) (lB 0) (HL (lB 1)) (HL (F3 (xM λi j=>.int (i+j)) (lB 1) (tC (.int 3))))) (wg (lB 2) Ir)))
    {nx:=λx H'=>Q V.cw H',rt:=Q} [some (.ref wa),some (.int (pl:Int)),some (.ref la)] H:=λyz=>by
   refine ⟨_,rfl,_,rfl,_,rfl,_,rfl,_,_,rfl,rfl,_,rfl,wa,_,rfl,bY.of hw,λp hp=>⟨_,rfl,G,p,la,(ws.drop pl).take 3,ts,rfl,hG.trans (bS.new hp),?_,ht.up (bS.new hp),λv G' H' g hv=>k v G' H' ?_ ?_⟩⟩
   ·show upd H p _ p=_;rw [bN];have e:((pl:Int)+3)=((pl+3:Nat):Int):=by omega
    rw [e,JK,FF,AL]
   ·exact ((Gr.refl hG).cX hp).trans g
   ·have e:Hy.jG ts (ws.drop pl)=Hy.dR ts ((ws.drop pl).take 3):=by
     cases hd:ws.drop pl with
     | nil=>rfl
     | cons x r =>obtain ⟨h1,h2,h3⟩:=yz x r hd;rw [uV];rw [aa h1,aa h2,aa h3]
    rw [e];exact hv
  refine ⟨_,rfl,_,rfl,wa,_,rfl,.inl (bY.of hw),_,_,rfl,rfl,_,rfl,?_⟩;rw [iy];refine df (λe=>?_) (λe=>?_)
  ·have c9:pl<ws.length:=by have:=aD e;omega
   obtain ⟨x,hx⟩:∃x,ws[pl]?=some x:=⟨ws[pl],aI c9⟩
   have Y1:ws.drop pl=x::ws.drop (pl+1):=by rw [List.drop_eq_getElem_cons c9];rw [aI c9] at hx;rw [ao hx]
   refine ⟨_,rfl,_,rfl,wa,_,_,_,rfl,rfl,bY.of hw,cD (eI hx),_,rfl,rfl,_,rfl,?_⟩;rw [Sf]
   by_cases h1:x=Ks337.NOT\/x=Ks337.AND\/x=Ks337.OR
   ·have hp:∃p,Hy.jG ts (ws.drop pl)=some p/\xh p=[.str (S x),.cw,.cw]:=by
     rw [Y1];rw [uV];rcases h1 with h1 | h1 | h1
     ·rw [ab h1,h1,N6];exact ⟨_,rfl,rfl⟩
     ·rw [aa (by rw [h1];decide),ab h1,h1,TR];exact ⟨_,rfl,rfl⟩
     ·rw [aa (by rw [h1];decide),aa (by rw [h1];decide),ab h1,h1,WL];exact ⟨_,rfl,rfl⟩
    obtain ⟨p,Qx,kO⟩:=hp;have hs:(if x=Ks337.NOT then some (V.int 1) else if x=Ks337.AND then some (V.int 2) else if x=Ks337.OR then some (V.int 2) else none).isSome=true:=by
     rcases h1 with h1 | h1 | h1
     ·rw [ab h1];rfl
     ·rw [aa (by rw [h1];decide),ab h1];rfl
     ·rw [aa (by rw [h1];decide),aa (by rw [h1];decide),ab h1];rfl
    rw [hs];refine nc ?_;refine ⟨_,rfl,_,rfl,wa,_,_,_,rfl,rfl,bY.of hw,cD (eI hx),(TN),λq hq=>?_⟩;refine k _ _ _ ((Gr.refl hG).new hq) ?_;rw [Qx];exact ⟨q,rfl,by show upd G q _ q=_;rw [bN,kO]⟩
   ·have hs:(if x=Ks337.NOT then some (V.int 1) else if x=Ks337.AND then some (V.int 2) else if x=Ks337.OR then some (V.int 2) else none).isSome=false:=by
     rw [aa (λq=>h1 (.inl q)),aa (λq=>h1 (.inr (.inl q))),aa (λq=>h1 (.inr (.inr q)))];rfl
    rw [hs];refine m9 ?_;refine last λy r hy=>?_;rw [Y1] at hy;cases hy;exact ⟨λq=>h1 (.inl q),λq=>h1 (.inr (.inl q)),λq=>h1 (.inr (.inr q))⟩
  ·refine m9 ?_;refine last λy r hy=>?_;have fX:ws.length<=pl:=by
    rcases ba pl ws.length with q | q
    ·exact ai (by simp;omega) e
    ·exact q
   rw [List.drop_eq_nil_of_le fX] at hy;cases hy
def Ye (G:Hp)(v:V):Option Cond->Prop
 | none=>v=.cw
 | some cd=>∃a,v=.ref a/\Ed G a cd
inductive hW (c:Cs)(vs:List V)(H:Hp)(Q:VK)(E:XK):Prop | mk (G:Hp) (wa la:Addr) (ws:List Bytes) (ts:List Thing):vs=[.ref wa,.ref la]->bS G H->fq H wa ws->dG c H la ts->ws.length<=1000->(∀v G' H',Gr [] G H G' H'->Ye G' v (Hy.condOf ts ws)->Q v H')->hW c vs H Q E
def jw:Hy.Part->Option V
 | .cmp _ _ _=>none
 | .pB=>some (.int ((1:Nat):Int))
 | .nh=>some (.int ((2:Nat):Int))
 | .vv=>some (.int ((2:Nat):Int))
theorem UZ (p:Hy.Part):(jw p=none/\Hy.e9 p=3/\Hy.arity p=0)\/∃a:Nat,jw p=some (.int (a:Int))/\Hy.e9 p=1/\Hy.arity p=a:=by
 cases p with
 | pB=>exact .inr ⟨1,rfl,rfl,rfl⟩
 | nh=>exact .inr ⟨2,rfl,rfl,rfl⟩
 | vv=>exact .inr ⟨2,rfl,rfl,rfl⟩
 | cmp o t v=>exact .inl ⟨rfl,rfl,rfl⟩
theorem U0 (p:Hy.Part)(hp:∀o t v,p=.cmp o t v->o=Ks337.EQ\/o=Hy.mZ\/o=Ks337.GT):∃z,(xh p)[0]?=some (.str z)/\jf z=jw p:=by
 cases p with
 | pB=>exact ⟨_,rfl,by decide +kernel⟩
 | nh=>exact ⟨_,rfl,by decide +kernel⟩
 | vv=>exact ⟨_,rfl,by decide +kernel⟩
 | cmp o t v =>refine ⟨_,rfl,?_⟩;rw [Sf];show _=none;rcases hp o t v rfl with h | h | h <;> subst h <;> decide +kernel
theorem Ll {ts:List Thing}{ws:List Bytes}{p:Hy.Part}(h:Hy.jG ts ws=some p):∀o t v,p=.cmp o t v->o=Ks337.EQ\/o=Hy.mZ\/o=Ks337.GT:=by
 intro o t v e;subst e;cases ws with
 | nil=>cases h
 | cons x r =>
  rw [uV] at h
  split at h
  ·cases h
  ·split at h
   ·cases h
   ·split at h
    ·cases h
    ·obtain ⟨n,o',d,t',v',_,e2,ho,_⟩:=Hy.j9 h;cases e2;exact ho
theorem Paired.js {α β:Type}{G:α->β->Prop}{l1:List α}{l2:List β}{a:α}{b:β}(h:Paired G l1 l2)(r:G a b):Paired G (l1++[a]) (l2++[b]):=by
 induction h with
 | nil=>exact .cons r .nil
 | cons x _ ih=>exact .cons x ih
theorem Eh (T:Tx w K mg c)(zO:Fn P w K mg base "part_at" 3 ["words","place","things"] (xi c)):Fn P w K mg base "condition_of" 4 ["words","things"] (hW c):=by
 refine T.nI.ok fe λH Q E hr h=>?_
 ·obtain ⟨G,wa,la,ws,ts,rfl,hG,hw,ht,hsz,k⟩:=h;refine ⟨_,(bP (cJ fe 2 (ck bO))
   (bP (cJ fe 3 b8)
   (bP (cJ fe 4 b8)
   (bP (wb PassesOwn.never (bW ql (pv 4) b8 (b9 _)) (bP (cJ fe 5 (b6 zO hr (bM (pv 0) (bM (pv 3) (bM (pv 1) bO)))))
   (bP (cg (bW gJ (pv 5) cF (b9 _)) (bQ (bU cF)) b5)
   (bP (dy (gT PySem.F.plainAttrs_list PySem.F.slot_list_append PySem.F.type_list_append dO (pv 2) (bM (pv 5) bO)))
   (bP (Ik (i:=3) (fe).nd rfl (Or.inl rfl) (B5 (bW (Js T.qK) (cQ fQ (pv 5) b8 (λ_ _=>rfl)) (hR T.l0) (by with_unfolding_all rfl)) b8 (cG T.fS)) Il)
   (bQ (Ik (i:=4) (fe).nd rfl (Or.inl rfl) (dj qR (UU T.qK (hR T.l0) (cQ fQ (pv 5) b8 (λ_ _=>rfl)) b8 ⟨rfl,rfl,rfl,rfl⟩) b8) Il)))))))
   (bP (cg (bW ie (pv 3) (cv cf (by rfl) T.cW PySem.boot_len (bM (pv 0) bO)) (b9 _)) (bQ (bU cF)) b5)
   (bQ (bU (pv 2)))))))),?_⟩
  refine ⟨(hJ),λD hD=>?_⟩;refine ⟨λm σ H1=>∃(G1:Hp)(as:List Addr)(ps:List Hy.Part)(pl wn:Nat)(v5:Option V),m=ws.length - pl/\σ=[some (.ref wa),some (.ref la),some (.ref D),some (.int (pl:Int)),some (.int (wn:Int)),v5] /\
   Gr [] G H G1 H1/\G1 D=none/\H1 D=some (.lst (as.map V.ref))/\Paired (jV G1) as ps/\ps.length<=pl/\pl<=ws.length /\
   Hy.dD ts 1 ws=(match Hy.dD ts wn (ws.drop pl) with | none=>none | some y=>some (ps++y.1,y.2)),⟨_,G,[],[],0,1,none,rfl,rfl,(Gr.refl hG).cX hD,hG.free hD,bN,.nil,ag _,aW _,?_⟩,?_⟩
  ·rw [List.drop_zero];cases Hy.dD ts 1 ws with
   | none=>rfl
   | some y=>rfl
  ·rintro m σ H1 ⟨G1,as,ps,pl,wn,v5,rfl,rfl,g1,gA,fg,hp,ib,aaq,zP⟩;refine ⟨_,rfl,_,_,rfl,rfl,_,rfl,?_⟩;have yc:fq H1 wa ws:=fq.up hw g1.same;refine df (λe=>?_) (λe=>?_)
   ·have Y2:0<wn:=by have:=aD e;omega
    obtain ⟨wn',rfl⟩:∃n,wn=n+1:=⟨wn - 1,by omega⟩
    refine ⟨λσ' H'=>∃m',m'<ws.length - pl/\∃(G1:Hp)(as:List Addr)(ps:List Hy.Part)(pl wn:Nat)(v5:Option V),m'=ws.length - pl/\σ'=[some (.ref wa),some (.ref la),some (.ref D),some (.int (pl:Int)),some (.int (wn:Int)),v5] /\
     Gr [] G H G1 H'/\G1 D=none/\H' D=some (.lst (as.map V.ref))/\Paired (jV G1) as ps/\ps.length<=pl/\pl<=ws.length /\
     Hy.dD ts 1 ws=(match Hy.dD ts wn (ws.drop pl) with | none=>none | some y=>some (ps++y.1,y.2)),λσ' H' q=>q,?_⟩
    refine ⟨_,rfl,_,rfl,_,rfl,G1,wa,la,ws,ts,pl,rfl,g1.sub,yc,ht.up g1.same,λv G2 H2 g2 hv=>?_⟩;have iG:=g1.trans g2;have Sg:H2 D=some (.lst (as.map V.ref)):=g2.same _ _ fg;have Sh:G2 D=none:=g2.out gA (by rw [fg];simp) (λxs=>by rw [Sg];simp);refine ⟨_,rfl,rfl,_,rfl,?_⟩;rw [Hy.K4 ts wn' (ws.drop pl)] at zP;cases Ei:Hy.jG ts (ws.drop pl) with
    | none =>
     rw [Ei] at hv zP;have Bf:v=.cw:=hv;subst Bf;refine nc ?_;refine k _ G2 H2 iG ?_;have hc:Hy.condOf ts ws=none:=by
      rw [Hy.DA] at zP;unfold Hy.condOf;cases h1:Hy.dz ts ws with
      | none=>rfl
      | some x=>rw [h1] at zP;cases zP
     rw [hc];rfl
    | some p =>
     rw [Ei] at hv zP;obtain ⟨pa,rfl,Y3⟩:=hv;have hps:=Hy.K5 Ei;rw [bg] at hps;have Qx:1<=Hy.e9 p:=by cases p <;> simp [Hy.e9]
     obtain ⟨z,hz0,WR⟩:=U0 p (Ll Ei);refine m9 ?_;refine ⟨_,rfl,.inl ⟨rfl,_,bY.of Sg⟩,_,rfl,D,_,_,rfl,rfl,Sg,(by rw [af,Paired.length hp];exact aC (aN ib (aN aaq hsz)) (by decide)),?_⟩;have g3:Gr [] G H G2 (upd H2 D (.lst (as.map V.ref++[.ref pa]))):=iG.wr (.inl hD) Sh;have GU:cA K (upd H2 D (.lst (as.map V.ref++[.ref pa]))) pa (xh p):=cA.of (g3.sub _ _ Y3);have oY:qT (xh p) 0=some (.str z):=cD (j:=0) hz0;refine ⟨_,rfl,_,rfl,pa,_,_,_,rfl,rfl,GU,oY,z,rfl,rfl,_,rfl,?_⟩;rw [WR];have TX:ps.length+1<=pl+Hy.e9 p:=by omega
     have Ob:upd H2 D (.lst (as.map V.ref++[.ref pa])) D=some (.lst ((as++[pa]).map V.ref)):=by rw [bN,aB];rfl
     have yd:Paired (jV G2) (as++[pa]) (ps++[p]):=Paired.js (Paired.imp' (λ_ _ q=>jV.up q g2.up) hp) Y3;have TY:Hy.dD ts 1 ws=(match Hy.dD ts (wn'+Hy.arity p) (ws.drop (pl+Hy.e9 p)) with | none=>none | some y=>some ((ps++[p])++y.1,y.2)):=by
      rw [zP];dsimp only;rw [bz];cases Hy.dD ts (wn'+Hy.arity p) (ws.drop (pl+Hy.e9 p)) with
      | none=>rfl
      | some y=>simp
     rcases UZ p with ⟨hj,WS,ME⟩ | ⟨ar,hj,WS,ME⟩
     ·rw [hj];refine m9 ⟨_,_,rfl,rfl,?_⟩;refine ⟨_,rfl,rfl,_,rfl,pa,_,_,_,rfl,rfl,GU,oY,z,rfl,_,_,(by rw [WR,hj];rfl),rfl,_,_,rfl,rfl,?_⟩;refine ⟨ws.length - (pl+Hy.e9 p),by omega,G2,as++[pa],ps++[p],pl+Hy.e9 p,wn'+Hy.arity p,some (.ref pa),rfl,?_,g3,Sh,Ob,yd,by rw [ay];exact TX,by omega,TY⟩;have e1:(pl:Int)+3=((pl+Hy.e9 p:Nat):Int):=by rw [WS];rfl
      have e2:((wn'+1:Nat):Int)+(0 - 1)=((wn'+Hy.arity p:Nat):Int):=by rw [ME];omega
      rw [<-e1,<-e2];rfl
     ·rw [hj];refine nc ⟨_,_,rfl,rfl,?_⟩;refine ⟨_,rfl,rfl,_,rfl,pa,_,_,_,rfl,rfl,GU,oY,z,rfl,_,_,(by rw [WR,hj];rfl),rfl,_,_,rfl,rfl,?_⟩;refine ⟨ws.length - (pl+Hy.e9 p),by omega,G2,as++[pa],ps++[p],pl+Hy.e9 p,wn'+Hy.arity p,some (.ref pa),rfl,?_,g3,Sh,Ob,yd,by rw [ay];exact TX,by omega,TY⟩;have e1:(pl:Int)+1=((pl+Hy.e9 p:Nat):Int):=by rw [WS];rfl
      have e2:((wn'+1:Nat):Int)+((ar:Int) - 1)=((wn'+Hy.arity p:Nat):Int):=by rw [ME];omega
      rw [<-e1,<-e2];rfl
   ·have Y2:wn=0:=by
     rcases Nat.eq_zero_or_pos wn with q | q
     ·exact q
     ·exact ai (by simp;omega) e
    subst Y2;have TZ:Hy.dD ts 1 ws=some (ps,ws.drop pl):=by rw [zP];show some (ps++[],_)=_;rw [aX]
    rw [Hy.DA] at TZ;obtain ⟨x,Y4,T1⟩:=Option.map_eq_some_iff.mp TZ;have e3:Hy.flat x.1=ps:=congrArg Prod.fst T1;have e4:x.2=ws.drop pl:=congrArg Prod.snd T1;refine ⟨_,rfl,_,rfl,wa,_,rfl,.inl (bY.of yc),_,_,rfl,rfl,_,rfl,?_⟩;rw [iy];refine df (λe5=>?_) (λe5=>?_)
    ·have c9:pl<ws.length:=by have:=aD e5;omega
     refine k _ G1 H1 g1 ?_;have hc:Hy.condOf ts ws=none:=by unfold Hy.condOf;rw [Y4];show (if x.2=[] then _ else _)=_;rw [aa (λq=>by rw [e4] at q;have:=congrArg List.length q;rw [bg] at this;simp at this;omega)]
     rw [hc];rfl
    ·have fX:ws.length<=pl:=by
      rcases ba pl ws.length with q | q
      ·exact ai (by simp;omega) e5
      ·exact q
     refine ⟨_,rfl,?_⟩;refine k _ _ _ (g1.rH hD fg gA) ?_;have hc:Hy.condOf ts ws=some x.1:=by unfold Hy.condOf;rw [Y4];show (if x.2=[] then _ else _)=_;rw [ab (by rw [e4];exact List.drop_eq_nil_of_le fX)]
     rw [hc];refine ⟨D,rfl,as,bN,?_⟩;rw [e3];exact Paired.imp' (λ_ _ q=>jV.up q (bS.new gA)) hp
inductive uW (vs:List V)(H:Hp)(Q:VK)(E:XK):Prop | mk (x v:Nat) (o:Bytes):vs=[.int (x:Int),.str (S o),.int (v:Int)]->(o=Ks337.EQ\/o=Hy.mZ\/o=Ks337.GT)->Q (.bl (Hy.ni o x v)) H->uW vs H Q E
theorem JN {a b:Bytes}:decide (V.str (S a)=V.str (S b))=decide (a=b):=by
 by_cases h:a=b
 ·rw [h];simp
 ·rw [az h,az (λe=>h (Ea (by injection e)))]
theorem Lm (T:Tx w K mg c):Fn P w K mg base "compares" 1 ["value","sign","digit"] uW:=by
 refine T.wK.ok Lc λH Q E hr h=>?_
 ·obtain ⟨x,v,o,rfl,ho,k⟩:=h;refine ⟨_,(bP (cg (bW dk (pv 1) c6 (b9 _)) (bQ (bU (vk dk (pv 0) (pv 2) (b9 _)))) b5)
   (bP (cg (bW dk (pv 1) c6 (b9 _)) (bQ (bU (vk ie (pv 0) (pv 2) (b9 _)))) b5)
   (bQ (bU (vk ql (pv 0) (pv 2) (b9 _)))))),?_⟩
  refine ⟨_,rfl,rfl,_,rfl,?_⟩;rw [<-N7,JN];refine df (λe=>?_) (λe=>?_)
  ·have e:=aD e;refine ⟨_,rfl,_,rfl,rfl,?_⟩;have q:Hy.ni o x v=decide ((V.int (x:Int))=.int (v:Int)):=by
    unfold Hy.ni;rw [ab e]
    by_cases h:x=v
    ·subst h;simp
    ·have:¬(V.int (x:Int)=V.int (v:Int)):=λq=>h (by injection q;omega)
     rw [az this];simp [h]
   rw [<-q];exact k
  ·have e:¬o=Ks337.EQ:=λq=>e (aj q);refine ⟨_,rfl,rfl,_,rfl,?_⟩;rw [<-WM,JN];refine df (λe2=>?_) (λe2=>?_)
   ·have e2:=aD e2;refine ⟨_,rfl,_,rfl,_,_,rfl,rfl,?_⟩;have q:Hy.ni o x v=decide ((x:Int)<(v:Int)):=by
     unfold Hy.ni;rw [aa e,ab e2]
     by_cases h:x<v
     ·rw [aj h,aj (by omega)]
     ·rw [az h,az (by omega)]
    rw [q] at k;exact k
   ·have e2:¬o=Hy.mZ:=λq=>e2 (aj q);refine ⟨_,rfl,_,rfl,_,_,rfl,rfl,?_⟩;have q:Hy.ni o x v=decide ((v:Int)<(x:Int)):=by
     unfold Hy.ni;rw [aa e,aa e2]
     by_cases h:v<x
     ·rw [aj h,aj (by omega)]
     ·rw [az h,az (by omega)]
    rw [q] at k;exact k
def c0 (s:List Nat):List V:=s.map λ(n:Nat)=>V.int (n:Int)
def cu (H:Hp)(a:Addr)(s:List Nat):Prop:=H a=some (.tup (c0 s))
theorem cu.up {H H':Hp}{a:Addr}{s:List Nat}(h:cu H a s)(e:bS H H'):cu H' a s:=e _ _ h
theorem AO {s:List Nat}{t v:Nat}(h:s[t]?=some v):(c0 s)[t]?=some (.int (v:Int)):=by unfold c0;rw [aS,h];rfl
theorem l8:∀(cd:Cond)(o:Bytes)(t v:Nat),Hy.Part.cmp o t v∈Hy.flat cd->o=Ks337.EQ\/o=Hy.mZ\/o=Ks337.GT
 | .is _ _,o,t,v,h=>by simp [Hy.flat] at h;exact .inl h.1
 | .less _ _,o,t,v,h=>by simp [Hy.flat] at h;exact .inr (.inl h.1)
 | .more _ _,o,t,v,h=>by simp [Hy.flat] at h;exact .inr (.inr h.1)
 | .not_ cd,o,t,v,h=>by simp [Hy.flat] at h;exact l8 cd o t v h
 | .and_ a b,o,t,v,h=>by simp [Hy.flat] at h;exact h.elim (l8 a o t v) (l8 b o t v)
 | .or_ a b,o,t,v,h=>by simp [Hy.flat] at h;exact h.elim (l8 a o t v) (l8 b o t v)
theorem l9 {ts:List Thing}:∀(cd:Cond)(o:Bytes)(t v:Nat),Hy.jH ts cd->Hy.Part.cmp o t v∈Hy.flat cd->t<ts.length
 | .is _ _,o,t,v,w,h=>by simp [Hy.flat] at h;rw [h.2.1];exact w.1
 | .less _ _,o,t,v,w,h=>by simp [Hy.flat] at h;rw [h.2.1];exact w.1
 | .more _ _,o,t,v,w,h=>by simp [Hy.flat] at h;rw [h.2.1];exact w.1
 | .not_ cd,o,t,v,w,h=>by simp [Hy.flat] at h;exact l9 cd o t v w h
 | .and_ a b,o,t,v,w,h=>by simp [Hy.flat] at h;exact h.elim (l9 a o t v w.1) (l9 b o t v w.2)
 | .or_ a b,o,t,v,w,h=>by simp [Hy.flat] at h;exact h.elim (l9 a o t v w.1) (l9 b o t v w.2)
inductive sy (vs:List V)(H:Hp)(Q:VK)(E:XK):Prop | mk (ca sa:Addr) (cd:Cond) (s:List Nat):vs=[.ref ca,.ref sa]->Ed H ca cd->cu H sa s->(Hy.flat cd).length<=1000->(∀o t v,Hy.Part.cmp o t v∈Hy.flat cd->t<s.length)->(∀H',bS H H'->Q (.bl (Ks338.holds s cd)) H')->sy vs H Q E
def fh (l:List Bool):List V:=l.reverse.map V.bl
theorem nX (b:Bool)(l:List Bool):fh (b::l)=fh l++[.bl b]:=by unfold fh;simp
theorem sC (b:Bool)(l:List Bool):(fh (b::l))[(fh (b::l)).length - 1]?=some (.bl b):=by rw [nX];simp
theorem nY (b:Bool)(l:List Bool):(fh (b::l)).dropLast=fh l:=by rw [nX];simp
theorem Sj (T:Tx w K mg c)(xj:Fn P w K mg base "compares" 1 ["value","sign","digit"] uW):Fn P w K mg base "holds" 2 ["condition","state"] sy:=by
 refine T.Fv.ok lD λH Q E hr h=>?_
 ·obtain ⟨ca,sa,cd,st,rfl,⟨as,c7,ha⟩,hs,hsz,cn,k⟩:=h;have hlen:=Paired.length ha;refine ⟨_,(bP (cJ lD 2 (ck bO))
   (bP (eA PassesOwn.never rfl (K3 (by rfl) T.xf (bM (pv 0) bO)) (jC rfl (di (eO lD 3) (di (eO lD 4) (di (eO lD 5) ik)))) (bQ (cg (bW dk (pv 3) c6 (b9 _)) (bQ (dy (gT PySem.F.plainAttrs_list PySem.F.slot_list_append PySem.F.type_list_append dO (pv 2) (bM (Vv (vn PySem.F.plainAttrs_list PySem.F.slot_list_pop PySem.F.type_list_pop vo (pv 2))) bO)))) (bQ (cg (bW (Js T.qK) (pv 3) (hR T.l0) (by with_unfolding_all rfl)) (bP (cJ lD 6 (vn PySem.F.plainAttrs_list PySem.F.slot_list_pop PySem.F.type_list_pop vo (pv 2)))
   (bP (cJ lD 7 (vn PySem.F.plainAttrs_list PySem.F.slot_list_pop PySem.F.type_list_pop vo (pv 2)))
   (bQ (dy (gT PySem.F.plainAttrs_list PySem.F.slot_list_append PySem.F.type_list_append dO (pv 2) (bM (B5 (bW dk (pv 3) c6 (b9 _)) (Vu (pv 6) (O6 (pv 7))) (XS (pv 6) (O6 (pv 7)))) bO)))))) (bQ (dy (gT PySem.F.plainAttrs_list PySem.F.slot_list_append PySem.F.type_list_append dO (pv 2) (bM (b6 xj hr (bM (cQ fQ (pv 1) (pv 4) (λ_ _=>rfl)) (bM (pv 3) (bM (pv 5) bO)))) bO)))))))))
   (bQ (bU (cQ cR (pv 2) b8 (λ_ _=>rfl)))))),?_⟩
  refine ⟨(hJ),λD hD=>?_⟩;have sD:bS H (upd H D (.lst [])):=bS.new hD;have gd:Hy.Good st (Hy.flat cd):=by have:=Hy.good_flat st cd [] True.intro;rwa [aX] at this
  refine ⟨_,rfl,ca,_,rfl,bY.of (sD _ _ c7),UW (K:=K) (a:=ca) (xs:=as.map V.ref) (λi σ H'=>(∃v3 v4 v5 v6 v7,σ=[some (.ref ca),some (.ref sa),some (.ref D),v3,v4,v5,v6,v7])/\bS H H'/\H' D=some (.lst (fh (Hy.jB st ((Hy.flat cd).drop ((Hy.flat cd).length - i))))))
   ⟨⟨_,_,_,_,_,rfl⟩,sD,?_⟩ (λi σ H' _ p=>bY.of (p.2.1 _ _ c7)) ?_ ?_⟩
  ·rw [Nat.sub_zero,List.drop_length];exact bN
  ·rintro i y σ H' hi hy ⟨⟨v3,v4,v5,v6,v7,rfl⟩,sm,hk⟩;obtain ⟨a,f6,rfl⟩:=d5 hy;rw [af] at hi f6;obtain ⟨p,hp,Ei⟩:=c5 ha f6;have GU:cA K H' a (xh p):=cA.of (sm _ _ Ei);have Y5:p∈Hy.flat cd:=aM hp;have e1:as.length - 1 - i=(Hy.flat cd).length - (i+1):=by omega
   rw [e1] at hp;have uh:(Hy.flat cd).drop ((Hy.flat cd).length - (i+1))=p::(Hy.flat cd).drop ((Hy.flat cd).length - i):=by
    have c9:(Hy.flat cd).length - (i+1)<(Hy.flat cd).length:=by omega
    rw [List.drop_eq_getElem_cons c9];rw [aI c9] at hp;rw [ao hp,show (Hy.flat cd).length - (i+1)+1=(Hy.flat cd).length - i by omega]
   have hg:=Hy.Gj ((Hy.flat cd).length - (i+1)) gd;rw [uh] at hg;obtain ⟨MF,_⟩:=hg;have FG:(Hy.jB st ((Hy.flat cd).drop ((Hy.flat cd).length - i))).length<=1000:=aN (Hy.Mb _) (by rw [bg];omega);rw [uh];show _;have aar:Hy.jB st (p::(Hy.flat cd).drop ((Hy.flat cd).length - i))=Hy.app st p (Hy.jB st ((Hy.flat cd).drop ((Hy.flat cd).length - i))):=rfl;rw [aar]
   generalize Hy.jB st ((Hy.flat cd).drop ((Hy.flat cd).length - i))=kn at hk MF FG ⊢
   have apnd:∀(l:List V)(H2:Hp)(b:Bool)(k2:List Bool),bS H H2->H2 D=some (.lst (fh k2))->bS H (upd H2 D (.lst (fh k2++[.bl b])))/\upd H2 D (.lst (fh k2++[.bl b])) D=some (.lst (fh (b::k2))):=λl H2 b k2 s2 e=>by refine ⟨λq o eq=>?_,by rw [bN,nX]⟩;rw [bR (λz=>by rw [z,hD] at eq;cases eq)];exact s2 _ _ eq
   cases p with
   | pB =>
    obtain ⟨b,kn,rfl⟩:∃b k2,kn=b::k2:=by
     cases kn with
     | nil=>simp [Hy.arity] at MF
     | cons b k2=>exact ⟨b,k2,rfl⟩
    refine ⟨a,_,rfl,GU,rfl,_,_,rfl,_,_,rfl,_,_,rfl,rfl,_,rfl,rfl,_,rfl,?_⟩;refine nc ?_;refine ⟨_,rfl,.inl ⟨rfl,_,bY.of hk⟩,_,rfl,.inl ⟨rfl,_,bY.of hk⟩,D,_,_,rfl,rfl,hk,sC b kn,b,rfl,D,_,_,rfl,rfl,bN,?_,?_⟩
    ·rw [nY];unfold fh;rw [af,aP];rw [au] at FG;exact aC (aN (Nat.le_succ _) FG) (by decide)
    ·rw [nY,fo];have q:=apnd [] H' (!b) (b::kn) sm hk;refine ⟨⟨_,_,_,_,_,rfl⟩,λx o e=>?_,by rw [bN];show _=some (HO.lst (fh ((!b)::kn)));rw [nX]⟩;rw [bR (λz=>by rw [z,hD] at e;cases e)];exact sm _ _ e
   | nh =>
    obtain ⟨b1,b2,kn,rfl⟩:∃b1 b2 k2,kn=b1::b2::k2:=by
     cases kn with
     | nil=>simp [Hy.arity] at MF
     | cons b1 k2 =>
      cases k2 with
      | nil=>simp [Hy.arity] at MF
      | cons b2 k3=>exact ⟨b1,b2,k3,rfl⟩
    refine ⟨a,_,rfl,GU,rfl,_,_,rfl,_,_,rfl,_,_,rfl,rfl,_,rfl,rfl,_,rfl,?_⟩;refine m9 ?_;refine ⟨_,rfl,_,rfl,rfl,_,rfl,?_⟩;refine nc ?_;refine ⟨_,rfl,.inl ⟨rfl,_,bY.of hk⟩,D,_,_,rfl,rfl,hk,sC b1 (b2::kn),?_⟩;rw [nY];have Jn:upd H' D (.lst (fh (b2::kn))) D=some (.lst (fh (b2::kn))):=bN;refine ⟨_,rfl,.inl ⟨rfl,_,bY.of Jn⟩,D,_,_,rfl,rfl,Jn,sC b2 kn,?_⟩;rw [nY,fo];have Ej:upd H' D (.lst (fh kn)) D=some (.lst (fh kn)):=bN;have mN:(fh kn).length<sizeLine:=by unfold fh;rw [af,aP];rw [au,au] at FG;exact cx (by omega)
    have fin:bS H (upd (upd H' D (.lst (fh kn))) D (.lst (fh kn++[.bl (b1 && b2)])))/\(upd (upd H' D (.lst (fh kn))) D (.lst (fh kn++[.bl (b1 && b2)]))) D=some (.lst (fh ((b1 && b2)::kn))):=by rw [fo];exact ⟨λx o e=>by rw [bR (λz=>by rw [z,hD] at e;cases e)];exact sm _ _ e,by rw [bN,nX]⟩
    refine ⟨_,rfl,.inl ⟨rfl,_,bY.of Ej⟩,_,rfl,rfl,_,rfl,?_⟩;refine nc ⟨_,rfl,b1,rfl,?_⟩;cases b1
    ·exact m9 ⟨D,_,_,rfl,rfl,Ej,mN,⟨_,_,_,_,_,rfl⟩,fin.1,fin.2⟩
    ·exact nc ⟨_,rfl,D,_,_,rfl,rfl,Ej,mN,⟨_,_,_,_,_,rfl⟩,fin.1,fin.2⟩
   | vv =>
    obtain ⟨b1,b2,kn,rfl⟩:∃b1 b2 k2,kn=b1::b2::k2:=by
     cases kn with
     | nil=>simp [Hy.arity] at MF
     | cons b1 k2 =>
      cases k2 with
      | nil=>simp [Hy.arity] at MF
      | cons b2 k3=>exact ⟨b1,b2,k3,rfl⟩
    refine ⟨a,_,rfl,GU,rfl,_,_,rfl,_,_,rfl,_,_,rfl,rfl,_,rfl,rfl,_,rfl,?_⟩;refine m9 ?_;refine ⟨_,rfl,_,rfl,rfl,_,rfl,?_⟩;refine nc ?_;refine ⟨_,rfl,.inl ⟨rfl,_,bY.of hk⟩,D,_,_,rfl,rfl,hk,sC b1 (b2::kn),?_⟩;rw [nY];have Jn:upd H' D (.lst (fh (b2::kn))) D=some (.lst (fh (b2::kn))):=bN;refine ⟨_,rfl,.inl ⟨rfl,_,bY.of Jn⟩,D,_,_,rfl,rfl,Jn,sC b2 kn,?_⟩;rw [nY,fo];have Ej:upd H' D (.lst (fh kn)) D=some (.lst (fh kn)):=bN;have mN:(fh kn).length<sizeLine:=by unfold fh;rw [af,aP];rw [au,au] at FG;exact cx (by omega)
    have fin:bS H (upd (upd H' D (.lst (fh kn))) D (.lst (fh kn++[.bl (b1 || b2)])))/\(upd (upd H' D (.lst (fh kn))) D (.lst (fh kn++[.bl (b1 || b2)]))) D=some (.lst (fh ((b1 || b2)::kn))):=by rw [fo];exact ⟨λx o e=>by rw [bR (λz=>by rw [z,hD] at e;cases e)];exact sm _ _ e,by rw [bN,nX]⟩
    refine ⟨_,rfl,.inl ⟨rfl,_,bY.of Ej⟩,_,rfl,rfl,_,rfl,?_⟩;refine m9 ⟨_,rfl,b1,rfl,?_⟩;cases b1
    ·exact m9 ⟨_,rfl,D,_,_,rfl,rfl,Ej,mN,⟨_,_,_,_,_,rfl⟩,fin.1,fin.2⟩
    ·exact nc ⟨D,_,_,rfl,rfl,Ej,mN,⟨_,_,_,_,_,rfl⟩,fin.1,fin.2⟩
   | cmp o t v =>
    have WT:=l8 cd o t v Y5;obtain ⟨x,hx⟩:∃x,st[t]?=some x:=⟨st[t]'(cn o t v Y5),aI _⟩
    have JO:Ks338.value st t=x:=by unfold Ks338.value;rw [List.getD_eq_getElem?_getD,hx];rfl
    have hj:jf (S o)=none:=by rw [Sf];rcases WT with h | h | h <;> subst h <;> decide +kernel
    refine ⟨a,_,rfl,GU,rfl,_,_,rfl,_,_,rfl,_,_,rfl,rfl,_,rfl,rfl,_,rfl,?_⟩;rw [<-N6,JN,az (show ¬o=Ks337.NOT by rcases WT with h | h | h <;> subst h <;> decide)];refine m9 ?_;refine ⟨_,rfl,_,rfl,rfl,_,rfl,?_⟩;rw [hj];refine m9 ?_;have Ej:(fh kn).length<sizeLine:=by unfold fh;rw [af,aP];exact aC FG (by decide)
    refine ⟨_,rfl,.inl ⟨rfl,_,bY.of hk⟩,_,rfl,_,rfl,sa,_,_,_,rfl,rfl,cA.of (sm _ _ hs),cD (AO hx),_,rfl,_,rfl,x,v,o,rfl,WT,D,_,_,rfl,rfl,hk,Ej,?_⟩;have q:=apnd [] H' (Hy.ni o x v) kn sm hk;refine ⟨⟨_,_,_,_,_,rfl⟩,q.1,?_⟩;rw [q.2];show _=some (HO.lst (fh (Hy.ni o (Ks338.value st t) v::kn)));rw [JO]
  ·rintro σ H' ⟨⟨v3,v4,v5,v6,v7,rfl⟩,sm,hk⟩;rw [af,hlen,Nat.sub_self,List.drop_zero] at hk;have e:=Hy.iN st cd [];rw [aX] at e;rw [e] at hk;refine ⟨_,rfl,D,_,_,_,rfl,rfl,bY.of hk,cD (j:=0) (v:=.bl (Ks338.holds st cd)) rfl,?_⟩;exact k _ sm
end
def dF (H:Hp)(a:Addr)(bs:List Nat):Prop:=H a=some (.lst (c0 bs))
theorem dF.up {H H':Hp}{a:Addr}{bs:List Nat}(h:dF H a bs)(s:bS H H'):dF H' a bs:=s _ _ h
theorem JP:tl (" abcdefghijklmnopqrstuvwxyz0123456789=<>-":Str)=Hy.signs:=by decide +kernel
theorem U1:S [63]=("?":Str):=by decide +kernel
theorem dq (s:List Nat):(c0 s).length=s.length:=af ..
theorem take_snoc {α:Type}{l:List α}{i:Nat}{x:α}(h:l[i]?=some x):l.take (i+1)=l.take i++[x]:=by rw [List.take_succ,h];rfl
theorem nZ (a b:List Nat):c0 (a++b)=c0 a++c0 b:=aB
theorem zQ:∀ps:List (List Nat),mn [] ps=ps.flatten
 | []=>rfl
 | [p]=>by simp [mn]
 | p::q::r=>by show p++([]++mn [] (q::r))=_;rw [zQ (q::r),List.nil_append];rfl
theorem U2 {x:Nat}(h:x∈Hy.signs\/x=63):Unicode.isSpace x=decide (x=32):=by
 by_cases e:x=32
 ·subst e;decide +kernel
 ·rw [az e];have h2:∀y∈Hy.signs,y≠32->33<=y/\y<=126:=by decide
  rcases h with h | h
  ·exact xR (h2 x h e).1 (h2 x h e).2
  ·subst h;exact xR (by decide) (by decide)
theorem T2 (b:Nat):Hy.sg b∈Hy.signs\/Hy.sg b=63:=by
 by_cases h:b∈Hy.signs
 ·rw [Hy.AF h];exact .inl h
 ·exact .inr (Hy.DD h)
theorem MG:∀(l:List Nat)(st:List Bytes×Bytes),(∀x∈l,x∈Hy.signs\/x=63)->l.foldl k9 st=l.foldl Hy.yN st
 | [],_,_=>rfl
 | x::l,st,h=>by
  have hx:=U2 (h x (aE ..));rw [List.foldl_cons,List.foldl_cons];have e:k9 st x=Hy.yN st x:=by
   unfold k9 Hy.yN;rw [hx]
   by_cases q:x=32
   ·rw [ab (aj q),ab q]
   ·rw [aa (by rw [az q];decide),aa q]
  rw [e];exact MG l _ λy hy=>h y (aA _ hy)
theorem GV (bs:List Nat):tl (Txt.join ("":Str) (bs.map λb=>S [Hy.sg b]))=Hy.dE bs:=by
 rw [join_eq,Ax];show mn [] _=_;rw [zQ,bf];show (bs.map λb=>[Hy.sg b]).flatten=bs.map Hy.sg
 induction bs with
 | nil=>rfl
 | cons x l ih=>rw [aw,List.flatten_cons,ih];rfl
def eY (bs:Bytes):List Bytes:=if Ks337.okRow bs=true then (Ks337.wordsOf bs).map Hy.dE else []
theorem Ek {z:Str}{bs:Bytes}(hz:tl z=Hy.dE bs):Txt.words z=((Ks337.wordsOf bs).map Hy.dE).map S:=by
 refine Dr ?_;rw [RI,hz,MG _ _ (λx hx=>by obtain ⟨b,_,rfl⟩:=aQ.mp hx;exact T2 b)];show Hy.PV _=_;rw [Hy.PX,Hy.wA _ bs (ag _),bf];have e:(tl∘S)=id:=by funext x;rfl
 rw [e,List.map_id]
theorem ui (bs:Bytes):(eY bs).length<=1000:=by
 unfold eY
 by_cases h:Ks337.okRow bs=true
 ·rw [ab h];have h1:=IP (S (Hy.dE bs));rw [Ek (z:=S (Hy.dE bs)) (bs:=bs) rfl,af,oC] at h1;have h2:bs.length<=100:=by unfold Ks337.okRow at h;simp at h;exact h.1
  have h3:(Hy.dE bs).length=bs.length:=af ..;omega
 ·rw [aa h];decide
section
variable {P:Program}{w:World}{K:PySem.W.Frag}{mg:Str->Option Value}{base:Heap}{c:Cs}
inductive xk (vs:List V)(H:Hp)(Q:VK)(E:XK):Prop | mk (b:Nat):vs=[.int (b:Int)]->Q (.str (S [Hy.sg b])) H->xk vs H Q E
theorem Oc (T:Tx w K mg c):Fn P w K mg base "sign_of" 1 ["byte"] xk:=by
 refine T.zy.ok D4 λH Q E hr h=>?_
 ·obtain ⟨b,rfl,k⟩:=h;refine ⟨_,(bP (eA PassesOwn.never rfl (IJ (JC T.FC)) (eO D4 1) (bQ (cg (bW dk (cv Io (by rfl) T.HV Qr (bM (pv 1) bO)) (pv 0) (b9 _)) (bQ (bU (pv 1))) b5)))
   (bQ (bU (JC T.rZ)))),?_⟩
  refine ⟨_,rfl,UX (λi σ H'=>(∃v,σ=[some (.int (b:Int)),v])/\H'=H/\∀j<i,∀x:Nat,Hy.signs[j]?=some x->x≠b) ⟨⟨_,rfl⟩,rfl,λj hj=>by omega⟩ ?_ ?_⟩
  ·rintro i ch σ H' hi ⟨⟨v,rfl⟩,rfl,p⟩;have T3:Hy.signs[i]?=some ch:=by rw [<-JP];exact hi
   refine ⟨_,rfl,_,rfl,rfl,_,rfl,rfl,_,rfl,?_⟩;refine df (λe=>?_) (λe=>?_)
   ·have e':ch=b:=by have:=aD e;injection this with this;exact Int.ofNat.inj this
    refine ⟨_,rfl,?_⟩;subst e';have q:Hy.sg ch=ch:=Hy.AF (aM T3);rw [q] at k;exact k
   ·refine ⟨⟨_,rfl⟩,rfl,λj hj x hx=>?_⟩
    by_cases su:j=i
    ·subst su;rw [T3] at hx;cases hx;exact λq=>e (aj (by rw [q];rfl))
    ·exact p j (by omega) x hx
  ·rintro σ H' ⟨⟨v,rfl⟩,rfl,p⟩;have q:Hy.sg b=63:=Hy.DD λhm=>by
    obtain ⟨j,hj⟩:=List.mem_iff_getElem?.mp hm;have hl:=(aH.mp hj).1;rw [<-JP] at hl;exact p j hl b hj rfl
   rw [q,U1] at k;exact k
inductive xl (vs:List V)(H:Hp)(Q:VK)(E:XK):Prop | mk (a:Addr) (bs:List Nat):vs=[.ref a]->dF H a bs->(∀H',bS H H'->Q (.bl (Ks337.okRow bs)) H')->xl vs H Q E
theorem Od (T:Tx w K mg c):Fn P w K mg base "is_line" 1 ["row"] xl:=by
 refine T.zz.ok wF λH Q E hr h=>?_
 ·obtain ⟨a,bs,rfl,ha,k⟩:=h;refine ⟨_,(bP (cg (bW ql (cv cf (by rfl) T.cW PySem.boot_len (bM (pv 0) bO)) (cG T.nR) (b9 _)) (bQ (bU qk)) b5)
   (bQ (bU (cv (Pr rfl) (by rfl) T.HX Qs (bM (qt (own:=[("byte",1)]) rfl (wF).nd (gC (pv 0)) (iK (by rfl)) (λ_ _ _ _ _=>eO wF 1) (λ_ _ _ _ _=>j7) (λ_ _ _ _ _=>(Rr Tb Tb (cG T.r8) (pv 1) (cG T.uR)))) bO))))),?_⟩
  refine ⟨_,rfl,a,_,rfl,.inl (bY.of ha),_,_,rfl,rfl,_,rfl,?_⟩;rw [dq];refine df (λe=>?_) (λe=>?_)
  ·have Y6:100<bs.length:=by have:=aD e;omega
   have q:=k H (bS.refl _);have h0:Ks337.okRow bs=false:=by unfold Ks337.okRow;rw [az (by show ¬bs.length<=100;omega),Bool.false_and]
   rw [h0] at q;exact q
  ·have hle:bs.length<=100:=by
    rcases ba 100 bs.length with q | q
    ·exact ai (by simp;omega) e
    ·exact q
   refine ⟨_,rfl,a,rfl,⟨_,bY.of ha⟩,λD hD=>?_⟩;have sD:bS H (upd H D (.lst [])):=bS.new hD;refine qF (K:=K) (a:=a) (xs:=c0 bs) (λi H'=>bS H H'/\H' D=some (.lst (((bs.take i).map λb=>decide (32<=b) && decide (b<=126)).map V.bl))) ⟨sD,bN⟩ (λi H' _ p=>bY.of (p.1 _ _ ha)) ?_ ?_
   ·rintro i x H' hi ⟨sm,hd⟩;obtain ⟨b,hb,rfl⟩:=qL hi;refine ⟨rfl,?_⟩;refine iT ⟨_,rfl,_,_,rfl,rfl,_,rfl,?_⟩;have fin:∀z:Bool,z=(decide (32<=b) && decide (b<=126))->bS H (upd H' D (.lst ((((bs.take i).map λb=>decide (32<=b) && decide (b<=126)).map V.bl)++[.bl z]))) /\
      upd H' D (.lst ((((bs.take i).map λb=>decide (32<=b) && decide (b<=126)).map V.bl)++[.bl z])) D=some (.lst (((bs.take (i+1)).map λb=>decide (32<=b) && decide (b<=126)).map V.bl)):=λz hz=>by
     refine ⟨λq o eq=>?_,?_⟩
     ·rw [bR (λz=>by rw [z,hD] at eq;cases eq)];exact sm _ _ eq
     ·rw [bN,take_snoc hb,aB,aB,hz];rfl
    have hsz:(((bs.take i).map λb=>decide (32<=b) && decide (b<=126)).map V.bl).length<sizeLine:=by rw [af,af,aO];exact cx (by omega)
    refine df (λe1=>?_) (λe1=>?_)
    ·have h1:32<=b:=by have:=aD e1;omega
     refine ⟨_,_,rfl,rfl,_,hd,hsz,?_⟩;have q:=fin (decide ((b:Int)<=126)) (by rw [aj h1,Bool.true_and];by_cases h2:b<=126;rw [aj h2,aj (by omega)];rw [az h2,az (by omega)]);exact q
    ·have h1:¬32<=b:=λq=>e1 (aj (by omega));refine ⟨_,hd,hsz,?_⟩;exact fin false (by rw [az h1,Bool.false_and])
   ·rintro H' ⟨sm,hd⟩;rw [dq,aZ] at hd;refine ⟨D,_,rfl,bY.of hd,?_⟩;have q:=k H' sm;have h0:Ks337.okRow bs=List.all (bs.map λb=>decide (32<=b) && decide (b<=126)) id:=by
     unfold Ks337.okRow;rw [aj (show bs.length<=Ks337.ROW from hle),Bool.true_and,List.all_map];rfl
    rw [h0] at q;exact q
inductive k0 (vs:List V)(H:Hp)(Q:VK)(E:XK):Prop | mk (G:Hp) (a:Addr) (bs:List Nat):vs=[.ref a]->bS G H->dF H a bs->(∀p G' H',Gr [] G H G' H'->fq G' p (eY bs)->Q (.ref p) H')->k0 vs H Q E
theorem Ln (T:Tx w K mg c)(zR:Fn P w K mg base "is_line" 1 ["row"] xl)(zS:Fn P w K mg base "sign_of" 1 ["byte"] xk):Fn P w K mg base "words_of" 2 ["row"] k0:=by
 refine T.wL.ok uD λH Q E hr h=>?_
 ·obtain ⟨G,a,bs,rfl,hG,ha,k⟩:=h;refine ⟨_,(bP (cg (yu (oP (b6 zR hr (bM (pv 0) bO)))) (bQ (bU (ck bO))) b5)
   (bQ (bU (RK (Az c6 (qt (own:=[("byte",1)]) rfl (uD).nd (gC (pv 0)) (iK (by rfl)) (λ_ _ _ _ _=>eO uD 1) (λ_ _ _ _ _=>j7) (λ_ _ _ _ _=>(b6 zS hr (bM (pv 1) bO))))))))),?_⟩
  refine ⟨_,rfl,a,bs,rfl,ha,λH1 s1=>⟨_,rfl,?_⟩⟩;have g1:Gr [] G H G H1:=Gr.dS hG s1;cases cn:Ks337.okRow bs with
  | false =>refine iT ⟨hJ,λp hp=>?_⟩;refine k p _ _ (g1.new hp) ?_;show upd G p _ p=_;rw [bN];unfold eY;rw [aa (by rw [cn];decide)];rfl
  | true =>
   have h2:bs.length<=100:=by unfold Ks337.okRow at cn;simp at cn;exact cn.1
   have Y7:H1 a=some (.lst (c0 bs)):=s1 _ _ ha;refine iF ⟨⟨_,rfl⟩,_,rfl,a,rfl,⟨_,bY.of Y7⟩,λD hD=>?_⟩;refine qF (K:=K) (a:=a) (xs:=c0 bs) (λi H'=>bS H1 H'/\H' D=some (.lst (((bs.take i).map λb=>S [Hy.sg b]).map V.str))) ⟨bS.new hD,bN⟩ (λi H' _ p=>bY.of (p.1 _ _ Y7)) ?_ ?_
   ·rintro i x H' hi ⟨sm,hd⟩;obtain ⟨b,hb,rfl⟩:=qL hi;refine ⟨rfl,iT ⟨_,rfl,b,rfl,_,hd,?_,?_,?_⟩⟩
    ·rw [af,af,aO];exact cx (by omega)
    ·intro q o eq;rw [bR (λz=>by rw [z,hD] at eq;cases eq)];exact sm _ _ eq
    ·rw [bN,take_snoc hb,aB,aB];rfl
   ·rintro H' ⟨sm,hd⟩;rw [dq,aZ] at hd;refine ⟨_,D,_,rfl,rfl,.inl (bY.of hd),?_,⟨_,rfl⟩,_,rfl,rfl,?_,λp hp=>?_⟩
    ·have e:∀l:List Nat,((l.map λb=>S [Hy.sg b]).map (·.length)).sum=l.length:=by
      intro l
      induction l with
      | nil=>rfl
      | cons x l ih=>rw [aw,aw,List.sum_cons,ih,oC,au];simp [Nat.add_comm]
     rw [e];show bs.length+_*0<=_;omega
    ·rw [IM,GV];show (bs.map Hy.sg).length+2<=sizeLine;rw [af];exact aJ (cx (by omega))
    ·have g2:Gr [] G H G H':=Gr.dS hG (s1.trans sm);refine k p _ _ (g2.new hp) ?_;show upd G p _ p=_;rw [bN,Ek (GV bs)];unfold eY wV;rw [ab cn,bf];rfl
def El (H:Hp)(a:Addr)(rs:List Bytes):Prop:=∃as:List Addr,H a=some (.lst (as.map V.ref))/\Paired (dF H) as rs
theorem El.up {H H':Hp}{a:Addr}{rs:List Bytes}(h:El H a rs)(s:bS H H'):El H' a rs:=let ⟨as,e,p⟩:=h;⟨as,s _ _ e,Paired.imp' (λ_ _ q=>dF.up q s) p⟩
inductive uX (vs:List V)(H:Hp)(Q:VK)(E:XK):Prop | mk (G:Hp) (a:Addr) (bs:List Nat):vs=[.ref a]->bS G H->dF H a bs->bs.length<=100000->(∀p G' H',Gr [] G H G' H'->El G' p (Ks337.rowsOf bs)->Q (.ref p) H')->uX vs H Q E
theorem iH {n:Nat}(h:n<=100000):n<sizeLine:=aC h (by decide)
theorem Lo (T:Tx w K mg c):Fn P w K mg base "lines_of" 1 ["text"] uX:=by
 refine T.wM.ok kW λH Q E hr h=>?_
 ·obtain ⟨G,a,bs,rfl,hG,ha,hsz,k⟩:=h;refine ⟨_,(bP (cJ kW 1 (ck bO))
   (bP (cJ kW 2 (ck bO))
   (bP (eA PassesOwn.never rfl (gC (pv 0)) (eO kW 3) (bQ (cg (bW dk (pv 3) (cG T.xc) (b9 _)) (bP (dy (gT PySem.F.plainAttrs_list PySem.F.slot_list_append PySem.F.type_list_append dO (pv 1) (bM (pv 2) bO)))
   (bQ (cJ kW 2 (ck bO)))) (bQ (dy (gT PySem.F.plainAttrs_list PySem.F.slot_list_append PySem.F.type_list_append dO (pv 2) (bM (pv 3) bO)))))))
   (bP (cg (bW ql (cv cf (by rfl) T.cW PySem.boot_len (bM (pv 2) bO)) b8 (b9 _)) (bQ (dy (gT PySem.F.plainAttrs_list PySem.F.slot_list_append PySem.F.type_list_append dO (pv 1) (bM (pv 2) bO)))) b5)
   (bQ (bU (pv 1))))))),?_⟩
  refine ⟨hJ,λD hD=>⟨hJ,λL hL=>?_⟩⟩;have sD:bS H (upd H D (.lst [])):=bS.new hD;have WU:L≠D:=λz=>by rw [z,bN] at hL;cases hL
  have Y8:H L=none:=by rw [bR WU] at hL;exact hL
  have g0:Gr [] G H G (upd (upd H D (.lst [])) L (.lst [])):=((Gr.refl hG).cX hD).cX hL;refine ⟨_,rfl,a,rfl,⟨_,bY.of (g0.same _ _ ha)⟩,lC (K:=K) (a:=a) (xs:=c0 bs) (λi σ H'=>∃(G1:Hp)(L1:Addr)(as:List Addr)(rs:List Bytes)(cur:Bytes)(v:Option V),σ=[some (.ref a),some (.ref D),some (.ref L1),v]/\Gr [] G H G1 H'/\G1 D=none/\G1 L1=none/\H L1=none/\L1≠D /\
   H' D=some (.lst (as.map V.ref))/\H' L1=some (.lst (c0 cur))/\Paired (dF G1) as rs/\(∀b∈cur,b≠10)/\rs.length<=i/\cur.length<=i/\Ks337.rowsOf bs=rs++Ks337.rowsOf (cur++bs.drop i))
   ⟨G,L,[],[],[],none,rfl,g0,hG.free hD,hG.free Y8,Y8,WU,by rw [bR (λz=>WU z.symm),bN];rfl,by rw [bN];rfl,.nil,λb hb=>(by simp at hb),ag _,ag _,by rw [List.drop_zero];rfl⟩
   (λi σ H' _ p=>by obtain ⟨G1,L1,as,rs,cur,v,_,g,_⟩:=p;exact bY.of (g.same _ _ ha)) ?_ ?_⟩
  ·rintro i x σ H' hi ⟨G1,L1,as,rs,cur,v,rfl,g1,gA,JQ,Qy,dP,hd,hl,hp,Oe,Y9,Za,iz⟩;obtain ⟨b,hb,rfl⟩:=qL hi;have ye:i<bs.length:=(aH.mp hb).1;have uh:bs.drop i=b::bs.drop (i+1):=by
    rw [List.drop_eq_getElem_cons ye];rw [aI ye] at hb;rw [ao hb]
   rw [uh] at iz;refine ⟨_,rfl,rfl,_,rfl,?_⟩;refine df (λe=>?_) (λe=>?_)
   ·have e:b=10:=by have:=aD e;injection this with this;omega
    subst e;refine ⟨_,rfl,.inl ⟨rfl,_,bY.of hd⟩,_,rfl,D,_,_,rfl,rfl,hd,by rw [af,Paired.length hp];exact iH (by omega),?_⟩;have g2:Gr [] G H G1 (upd H' D (.lst (as.map V.ref++[.ref L1]))):=g1.wr (.inl hD) gA;refine ⟨hJ,λL2 DL=>?_⟩;have WV:L2≠D:=λz=>by rw [z,bN] at DL;cases DL
    have fz:upd H' D (.lst (as.map V.ref++[.ref L1])) L1=some (.lst (c0 cur)):=by rw [bR dP];exact hl
    have acs:L2≠L1:=λz=>by rw [z,fz] at DL;cases DL
    have g3:=g2.rH Qy fz JQ;have g4:=g3.cX (o:=.lst []) DL;have hG2:upd G1 L1 (.lst (c0 cur)) L2=none:=g3.sub.free DL;refine ⟨upd G1 L1 (.lst (c0 cur)),L2,as++[L1],rs++[cur],[],_,rfl,g4,by rw [bR (λz=>dP z.symm)];exact gA,hG2,g2.th _ DL,WV,?_,by rw [bN];rfl,?_,λb hb=>(by simp at hb),by rw [ay];simp;omega,aW _,?_⟩
    ·rw [bR (λz=>WV z.symm),bN,aB];rfl
    ·exact Paired.js (Paired.imp' (λ_ _ q=>dF.up q (bS.new JQ)) hp) bN
    ·rw [iz,Hy.K7 _ Oe,aT];rfl
   ·have e:b≠10:=λz=>e (aj (by rw [z];rfl));refine ⟨_,rfl,.inl ⟨rfl,_,bY.of hl⟩,_,rfl,L1,_,_,rfl,rfl,hl,by rw [dq];exact iH (by omega),?_⟩;refine ⟨G1,L1,as,rs,cur++[b],_,rfl,g1.wr (.inl Qy) JQ,gA,JQ,Qy,dP,by rw [bR (λz=>dP z.symm)];exact hd,by rw [bN,nZ];rfl,hp,λx hx=>?_,by omega,by rw [ay];simp;omega,?_⟩
    ·rcases aY.mp hx with hx | hx
     ·exact Oe x hx
     ·rw [aK.mp hx];exact e
    ·rw [iz,aT];rfl
  ·rintro σ H' ⟨G1,L1,as,rs,cur,v,rfl,g1,gA,JQ,Qy,dP,hd,hl,hp,Oe,Y9,Za,iz⟩;rw [dq] at Y9 Za iz;rw [List.drop_length,aX] at iz;refine ⟨_,rfl,L1,_,rfl,.inl (bY.of hl),_,_,rfl,rfl,_,rfl,?_⟩;rw [dq];refine df (λe=>?_) (λe=>?_)
   ·have hn:cur≠[]:=λz=>by rw [z] at e;simp at e
    refine ⟨_,rfl,.inl ⟨rfl,_,bY.of hd⟩,_,rfl,D,_,_,rfl,rfl,hd,by rw [af,Paired.length hp];exact iH (by omega),?_⟩;have g2:Gr [] G H G1 (upd H' D (.lst (as.map V.ref++[.ref L1]))):=g1.wr (.inl hD) gA;have fz:upd H' D (.lst (as.map V.ref++[.ref L1])) L1=some (.lst (c0 cur)):=by rw [bR dP];exact hl
    have g3:=g2.rH Qy fz JQ;have n0:upd G1 L1 (.lst (c0 cur)) D=none:=by rw [bR (λz=>dP z.symm)];exact gA
    refine ⟨_,rfl,?_⟩;refine k D _ _ (g3.rH (o:=.lst ((as++[L1]).map V.ref)) hD (by rw [bN,aB];rfl) n0) ⟨as++[L1],bN,?_⟩;rw [iz,Hy.K8 Oe hn];exact Paired.imp' (λ_ _ q=>dF.up q (bS.new n0)) (Paired.js (Paired.imp' (λ_ _ q=>dF.up q (bS.new JQ)) hp) bN)
   ·have hn:cur=[]:=by
     cases cur with
     | nil=>rfl
     | cons x l=>exact ai (by simp) e
    refine ⟨_,rfl,?_⟩;refine k D _ _ (g1.rH hD hd gA) ⟨as,bN,?_⟩;rw [iz,hn,Hy.NG,aX];exact Paired.imp' (λ_ _ q=>dF.up q (bS.new gA)) hp
inductive jh (vs:List V)(H:Hp)(Q:VK)(E:XK):Prop | mk (G:Hp) (z:Str):vs=[.str z]->bS G H->(tl z).length<=100000->(∀p G' H',Gr [] G H G' H'->H p=none->dF G' p (tl z)->Q (.ref p) H')->jh vs H Q E
theorem Lp (T:Tx w K mg c):Fn P w K mg base "bytes_of" 1 ["text"] jh:=by
 refine T.wN.ok uE λH Q E hr h=>?_
 ·obtain ⟨G,z,rfl,hG,hz,k⟩:=h;refine ⟨_,(bQ (bU (qt (own:=[("sign",1)]) rfl (uE).nd (IJ (pv 0)) (iK (by rfl)) (λ_ _ _ _ _=>eO uE 1) (λ_ _ _ _ _=>j7) (λ_ _ _ _ _=>(cv Io (by rfl) T.HV Qr (bM (pv 1) bO)))))),?_⟩;refine ⟨_,rfl,z,rfl,λD hD=>?_⟩;refine Qm (x:=z) (λi H'=>Gr [] G H G H'/\H' D=some (.lst (c0 ((tl z).take i)))) ⟨(Gr.refl hG).cX hD,bN⟩ ?_ ?_
  ·rintro i ch H' hi ⟨g,hd⟩;refine ⟨rfl,iT ⟨_,rfl,_,rfl,rfl,_,hd,?_,?_,?_⟩⟩
   ·rw [dq,aO];exact iH (by omega)
   ·exact g.wr (.inl hD) (hG.free hD)
   ·rw [bN,take_snoc hi,nZ];rfl
  ·rintro H' ⟨g,hd⟩;rw [aZ] at hd;exact k D _ _ (g.rH hD hd (hG.free hD)) hD bN
end
theorem dW {n:Nat}{f:Str}{v:V}{fs:List (Str×V)}(h:fs.length<=n):(gK f v fs).length<=n+1:=aN (uv _ _ _) (by omega)
section
variable {P:Program}{w:World}{K:PySem.W.Frag}{mg:Str->Option Value}{base:Heap}{c:Cs}
theorem Of (T:Tx w K mg c):Made P w K mg base "Thing" c.Thing 1 ["self","kind","name","top"] ["kind","name","top"]:=by
 obtain ⟨f,fd,F,hm,hb⟩:=T.lG.zt (P:=P) (w:=w) (mg:=mg) (base:=base) (k:=0) (sp:=my c.Thing ["kind","name","top"]) A2 (λvs H Q E h=>by obtain ⟨p,dx,us,rfl,hl,_⟩:=h;simpa using hl) (λf du A outer s H vs Q E hr h=>by
  obtain ⟨p,dx,us,rfl,hl,hp,k⟩:=h;obtain ⟨u0,u1,u2,rfl⟩:∃u0 u1 u2,us=[u0,u1,u2]:=by
   match us,hl with
   | [u0,u1,u2],_=>exact ⟨_,_,_,rfl⟩
  refine ⟨_,(bP (cK (pv 0) (pv 1) rfl)
   (bP (cK (pv 0) (pv 2) rfl)
   (bQ (cK (pv 0) (pv 3) rfl)))),?_⟩
  refine ⟨_,rfl,_,rfl,_,c.Thing,dx,_,rfl,hp,T.fF,T.fG,aC (ag 0) (by decide),_,rfl,_,rfl,_,c.Thing,dx,_,rfl,bN,T.fF,T.fG,aC (dW (ag 0)) (by decide),_,rfl,_,rfl,_,c.Thing,dx,_,rfl,bN,T.fF,T.fG,aC (dW (dW (ag 0))) (by decide),?_⟩;simp only [fo];exact k)
 exact ⟨f,fd,⟨T.lZ.zr,hm.at_,hm.fn,T.lZ.kp⟩,F,hb,T.lZ.mg⟩
theorem Og (T:Tx w K mg c):Made P w K mg base "Entry" c.Entry 1 ["self","words","condition","thing","value"] ["words","condition","thing","value"]:=by
 obtain ⟨f,fd,F,hm,hb⟩:=T.lH.zt (P:=P) (w:=w) (mg:=mg) (base:=base) (k:=0) (sp:=my c.Entry ["words","condition","thing","value"]) A3 (λvs H Q E h=>by obtain ⟨p,dx,us,rfl,hl,_⟩:=h;simpa using hl) (λf du A outer s H vs Q E hr h=>by
  obtain ⟨p,dx,us,rfl,hl,hp,k⟩:=h;obtain ⟨u0,u1,u2,u3,rfl⟩:∃u0 u1 u2 u3,us=[u0,u1,u2,u3]:=by
   match us,hl with
   | [u0,u1,u2,u3],_=>exact ⟨_,_,_,_,rfl⟩
  refine ⟨_,(bP (cK (pv 0) (pv 1) rfl)
   (bP (cK (pv 0) (pv 2) rfl)
   (bP (cK (pv 0) (pv 3) rfl)
   (bQ (cK (pv 0) (pv 4) rfl))))),?_⟩
  refine ⟨_,rfl,_,rfl,_,c.Entry,dx,_,rfl,hp,T.ir,T.iu,aC (ag 0) (by decide),_,rfl,_,rfl,_,c.Entry,dx,_,rfl,bN,T.ir,T.iu,aC (dW (ag 0)) (by decide),_,rfl,_,rfl,_,c.Entry,dx,_,rfl,bN,T.ir,T.iu,aC (dW (dW (ag 0))) (by decide),_,rfl,_,rfl,_,c.Entry,dx,_,rfl,bN,T.ir,T.iu,aC (dW (dW (dW (ag 0)))) (by decide),?_⟩;simp only [fo];exact k)
 exact ⟨f,fd,⟨T.ny.zr,hm.at_,hm.fn,T.ny.kp⟩,F,hb,T.ny.mg⟩
theorem Oh (T:Tx w K mg c):Made P w K mg base "House" c.House 1 ["self","things","entries"] ["things","entries"]:=by
 obtain ⟨f,fd,F,hm,hb⟩:=T.lI.zt (P:=P) (w:=w) (mg:=mg) (base:=base) (k:=0) (sp:=my c.House ["things","entries"]) A4 (λvs H Q E h=>by obtain ⟨p,dx,us,rfl,hl,_⟩:=h;simpa using hl) (λf du A outer s H vs Q E hr h=>by
  obtain ⟨p,dx,us,rfl,hl,hp,k⟩:=h;obtain ⟨u0,u1,rfl⟩:∃u0 u1,us=[u0,u1]:=by
   match us,hl with
   | [u0,u1],_=>exact ⟨_,_,rfl⟩
  refine ⟨_,(bP (cK (pv 0) (pv 1) rfl)
   (bQ (cK (pv 0) (pv 2) rfl))),?_⟩
  refine ⟨_,rfl,_,rfl,_,c.House,dx,_,rfl,hp,T.cH,T.cI,aC (ag 0) (by decide),_,rfl,_,rfl,_,c.House,dx,_,rfl,bN,T.cH,T.cI,aC (dW (ag 0)) (by decide),?_⟩;simp only [fo];exact k)
 exact ⟨f,fd,⟨T.nz.zr,hm.at_,hm.fn,T.nz.kp⟩,F,hb,T.nz.mg⟩
theorem Oi (T:Tx w K mg c):Made P w K mg base "Reach" c.Reach 1 ["self","ways","endless"] ["ways","endless"]:=by
 obtain ⟨f,fd,F,hm,hb⟩:=T.lJ.zt (P:=P) (w:=w) (mg:=mg) (base:=base) (k:=0) (sp:=my c.Reach ["ways","endless"]) A5 (λvs H Q E h=>by obtain ⟨p,dx,us,rfl,hl,_⟩:=h;simpa using hl) (λf du A outer s H vs Q E hr h=>by
  obtain ⟨p,dx,us,rfl,hl,hp,k⟩:=h;obtain ⟨u0,u1,rfl⟩:∃u0 u1,us=[u0,u1]:=by
   match us,hl with
   | [u0,u1],_=>exact ⟨_,_,rfl⟩
  refine ⟨_,(bP (cK (pv 0) (pv 1) rfl)
   (bQ (cK (pv 0) (pv 2) rfl))),?_⟩
  refine ⟨_,rfl,_,rfl,_,c.Reach,dx,_,rfl,hp,T.nU,T.nV,aC (ag 0) (by decide),_,rfl,_,rfl,_,c.Reach,dx,_,rfl,bN,T.nU,T.nV,aC (dW (ag 0)) (by decide),?_⟩;simp only [fo];exact k)
 exact ⟨f,fd,⟨T.nB.zr,hm.at_,hm.fn,T.nB.kp⟩,F,hb,T.nB.mg⟩
theorem JR (T:Tx w K mg c):Made P w K mg base "Verdict" c.Verdict 1 ["self","outcome","ban","way","settled"] ["outcome","ban","way","settled"]:=by
 obtain ⟨f,fd,F,hm,hb⟩:=T.jO.zt (P:=P) (w:=w) (mg:=mg) (base:=base) (k:=0) (sp:=my c.Verdict ["outcome","ban","way","settled"]) yk (λvs H Q E h=>by obtain ⟨p,dx,us,rfl,hl,_⟩:=h;simpa using hl) (λf du A outer s H vs Q E hr h=>by
  obtain ⟨p,dx,us,rfl,hl,hp,k⟩:=h;obtain ⟨u0,u1,u2,u3,rfl⟩:∃u0 u1 u2 u3,us=[u0,u1,u2,u3]:=by
   match us,hl with
   | [u0,u1,u2,u3],_=>exact ⟨_,_,_,_,rfl⟩
  refine ⟨_,(bP (cK (pv 0) (pv 1) rfl)
   (bP (cK (pv 0) (pv 2) rfl)
   (bP (cK (pv 0) (pv 3) rfl)
   (bQ (cK (pv 0) (pv 4) rfl))))),?_⟩
  refine ⟨_,rfl,_,rfl,_,c.Verdict,dx,_,rfl,hp,T.d3,T.d4,aC (ag 0) (by decide),_,rfl,_,rfl,_,c.Verdict,dx,_,rfl,bN,T.d3,T.d4,aC (dW (ag 0)) (by decide),_,rfl,_,rfl,_,c.Verdict,dx,_,rfl,bN,T.d3,T.d4,aC (dW (dW (ag 0))) (by decide),_,rfl,_,rfl,_,c.Verdict,dx,_,rfl,bN,T.d3,T.d4,aC (dW (dW (dW (ag 0)))) (by decide),?_⟩;simp only [fo];exact k)
 exact ⟨f,fd,⟨T.jN.zr,hm.at_,hm.fn,T.jN.kp⟩,F,hb,T.jN.mg⟩
theorem JS (T:Tx w K mg c):Made P w K mg base "Reading" c.dm 1 ["self","refusal","house"] ["refusal","house"]:=by
 obtain ⟨f,fd,F,hm,hb⟩:=T.jQ.zt (P:=P) (w:=w) (mg:=mg) (base:=base) (k:=0) (sp:=my c.dm ["refusal","house"]) yl (λvs H Q E h=>by obtain ⟨p,dx,us,rfl,hl,_⟩:=h;simpa using hl) (λf du A outer s H vs Q E hr h=>by
  obtain ⟨p,dx,us,rfl,hl,hp,k⟩:=h;obtain ⟨u0,u1,rfl⟩:∃u0 u1,us=[u0,u1]:=by
   match us,hl with
   | [u0,u1],_=>exact ⟨_,_,rfl⟩
  refine ⟨_,(bP (cK (pv 0) (pv 1) rfl)
   (bQ (cK (pv 0) (pv 2) rfl))),?_⟩
  refine ⟨_,rfl,_,rfl,_,c.dm,dx,_,rfl,hp,T.eU,T.eV,aC (ag 0) (by decide),_,rfl,_,rfl,_,c.dm,dx,_,rfl,bN,T.eU,T.eV,aC (dW (ag 0)) (by decide),?_⟩;simp only [fo];exact k)
 exact ⟨f,fd,⟨T.jP.zr,hm.at_,hm.fn,T.jP.kp⟩,F,hb,T.jP.mg⟩
theorem Oj (T:Tx w K mg c):Made P w K mg base "Event" c.Event 1 ["self","thing","value","before"] ["thing","value","before"]:=by
 obtain ⟨f,fd,F,hm,hb⟩:=T.lK.zt (P:=P) (w:=w) (mg:=mg) (base:=base) (k:=0) (sp:=my c.Event ["thing","value","before"]) A6 (λvs H Q E h=>by obtain ⟨p,dx,us,rfl,hl,_⟩:=h;simpa using hl) (λf du A outer s H vs Q E hr h=>by
  obtain ⟨p,dx,us,rfl,hl,hp,k⟩:=h;obtain ⟨u0,u1,u2,rfl⟩:∃u0 u1 u2,us=[u0,u1,u2]:=by
   match us,hl with
   | [u0,u1,u2],_=>exact ⟨_,_,_,rfl⟩
  refine ⟨_,(bP (cK (pv 0) (pv 1) rfl)
   (bP (cK (pv 0) (pv 2) rfl)
   (bQ (cK (pv 0) (pv 3) rfl)))),?_⟩
  refine ⟨_,rfl,_,rfl,_,c.Event,dx,_,rfl,hp,T.l4,T.l5,aC (ag 0) (by decide),_,rfl,_,rfl,_,c.Event,dx,_,rfl,bN,T.l4,T.l5,aC (dW (ag 0)) (by decide),_,rfl,_,rfl,_,c.Event,dx,_,rfl,bN,T.l4,T.l5,aC (dW (dW (ag 0))) (by decide),?_⟩;simp only [fo];exact k)
 exact ⟨f,fd,⟨T.nE.zr,hm.at_,hm.fn,T.nE.kp⟩,F,hb,T.nE.mg⟩
theorem Lq (T:Tx w K mg c):Made P w K mg base "Wanted" c.dA 1 ["self","refusal","entries","answer"] ["refusal","entries","answer"]:=by
 obtain ⟨f,fd,F,hm,hb⟩:=T.kF.zt (P:=P) (w:=w) (mg:=mg) (base:=base) (k:=0) (sp:=my c.dA ["refusal","entries","answer"]) zo (λvs H Q E h=>by obtain ⟨p,dx,us,rfl,hl,_⟩:=h;simpa using hl) (λf du A outer s H vs Q E hr h=>by
  obtain ⟨p,dx,us,rfl,hl,hp,k⟩:=h;obtain ⟨u0,u1,u2,rfl⟩:∃u0 u1 u2,us=[u0,u1,u2]:=by
   match us,hl with
   | [u0,u1,u2],_=>exact ⟨_,_,_,rfl⟩
  refine ⟨_,(bP (cK (pv 0) (pv 1) rfl)
   (bP (cK (pv 0) (pv 2) rfl)
   (bQ (cK (pv 0) (pv 3) rfl)))),?_⟩
  refine ⟨_,rfl,_,rfl,_,c.dA,dx,_,rfl,hp,T.gk,T.gn,aC (ag 0) (by decide),_,rfl,_,rfl,_,c.dA,dx,_,rfl,bN,T.gk,T.gn,aC (dW (ag 0)) (by decide),_,rfl,_,rfl,_,c.dA,dx,_,rfl,bN,T.gk,T.gn,aC (dW (dW (ag 0))) (by decide),?_⟩;simp only [fo];exact k)
 exact ⟨f,fd,⟨T.lL.zr,hm.at_,hm.fn,T.lL.kp⟩,F,hb,T.lL.mg⟩
theorem Qz (T:Tx w K mg c):Made P w K mg base "Call" c.Call 1 ["self","name","numbers","row","behind"] ["name","numbers","row","behind"]:=by
 obtain ⟨f,fd,F,hm,hb⟩:=T.mB.zt (P:=P) (w:=w) (mg:=mg) (base:=base) (k:=0) (sp:=my c.Call ["name","numbers","row","behind"]) Ck (λvs H Q E h=>by obtain ⟨p,dx,us,rfl,hl,_⟩:=h;simpa using hl) (λf du A outer s H vs Q E hr h=>by
  obtain ⟨p,dx,us,rfl,hl,hp,k⟩:=h;obtain ⟨u0,u1,u2,u3,rfl⟩:∃u0 u1 u2 u3,us=[u0,u1,u2,u3]:=by
   match us,hl with
   | [u0,u1,u2,u3],_=>exact ⟨_,_,_,_,rfl⟩
  refine ⟨_,(bP (cK (pv 0) (pv 1) rfl)
   (bP (cK (pv 0) (pv 2) rfl)
   (bP (cK (pv 0) (pv 3) rfl)
   (bQ (cK (pv 0) (pv 4) rfl))))),?_⟩
  refine ⟨_,rfl,_,rfl,_,c.Call,dx,_,rfl,hp,T.cy,T.cz,aC (ag 0) (by decide),_,rfl,_,rfl,_,c.Call,dx,_,rfl,bN,T.cy,T.cz,aC (dW (ag 0)) (by decide),_,rfl,_,rfl,_,c.Call,dx,_,rfl,bN,T.cy,T.cz,aC (dW (dW (ag 0))) (by decide),_,rfl,_,rfl,_,c.Call,dx,_,rfl,bN,T.cy,T.cz,aC (dW (dW (dW (ag 0)))) (by decide),?_⟩;simp only [fo];exact k)
 exact ⟨f,fd,⟨T.rK.zr,hm.at_,hm.fn,T.rK.kp⟩,F,hb,T.rK.mg⟩
end
theorem U3:([.str "in",.str "out",.str "rule",.str "never",.str "and",.str "or",.str "not"]:List V)=wV Ks337.keywords:=by decide +kernel
theorem U4:([.str "1",.str "2",.str "3"]:List V)=wV [[49],[50],[51]]:=by decide +kernel
theorem Sk:([.str "in",.str "out"]:List V)=wV [Ks337.IN,Ks337.OUT]:=by decide +kernel
theorem Ol (x:Nat):x∈tl ("abcdefghijklmnopqrstuvwxyz":Str)↔97<=x/\x<=122:=by
 have e:tl ("abcdefghijklmnopqrstuvwxyz":Str)=(List.range 26).map (97+·):=by decide +kernel
 rw [e];constructor
 ·intro h;obtain ⟨y,hy,rfl⟩:=aQ.mp h
  have:=bj.mp hy
  omega
 ·intro h;exact aQ.mpr ⟨x - 97,bj.mpr (by omega),by omega⟩
def newName (ts:List Thing)(x:Bytes):Bool:=!(decide (8<x.length) || decide (x∈Ks337.keywords)) && (x.all λb=>decide (97<=b) && decide (b<=122)) && (Ks337.find ts x).isNone
theorem Om {ts:List Thing}{x:Bytes}(h:x≠[]):newName ts x=(Ks337.isName x && (Ks337.find ts x).isNone):=by
 unfold newName Ks337.isName;have e1:decide (1<=x.length)=true:=aj (by cases x with | nil=>exact ai rfl h | cons=>simp);have e2:decide (x.length<=Ks337.NAME)=!decide (8<x.length):=by
  show decide (x.length<=8)=_
  by_cases q:8<x.length
  ·rw [aj q,az (by omega)];rfl
  ·rw [az q,aj (by omega)];rfl
 have e3:Ks337.keywords.contains x=decide (x∈Ks337.keywords):=by
  by_cases q:x∈Ks337.keywords
  ·rw [aj q];exact List.contains_iff_mem.mpr q
  ·rw [az q];cases hc:Ks337.keywords.contains x with
   | false=>rfl
   | true=>exact ai (List.contains_iff_mem.mp hc) q
 rw [e1,e2,e3,Bool.true_and];cases decide (8<x.length) <;> cases decide (x∈Ks337.keywords) <;> simp
section
variable {P:Program}{w:World}{K:PySem.W.Frag}{mg:Str->Option Value}{base:Heap}{c:Cs}
inductive n6 (c:Cs)(vs:List V)(H:Hp)(Q:VK)(E:XK):Prop | mk (l:Addr) (x:Bytes) (ts:List Thing):vs=[.str (S x),.ref l]->dG c H l ts->x.length<=1000->(∀H',bS H H'->Q (.bl (newName ts x)) H')->n6 c vs H Q E
theorem FH (T:Tx w K mg c)(gG:Fn P w K mg base "thing_called" 1 ["name","things"] (jr c)):Fn P w K mg base "is_new_name" 2 ["word","things"] (n6 c):=by
 refine T.pG.ok nq λH Q E hr h=>?_
 ·obtain ⟨l,x,ts,rfl,ht,hsz,k⟩:=h;refine ⟨_,(bP (cg (ot (bW ql (cv Iz (by rfl) T.cW PySem.boot_len (bM (pv 0) bO)) (cG T.nS) (b9 _)) (oQ (bW iE (pv 0) (hR T.sk) (by with_unfolding_all rfl)))).pt (bQ (bU qk)) b5)
   (bP (cg (yu (oP (cv (Pr rfl) (by rfl) T.HX Qs (bM (qt (own:=[("sign",2)]) rfl (nq).nd (IJ (pv 0)) (iK (by rfl)) (λ_ _ _ _ _=>eO nq 2) (λ_ _ _ _ _=>j7) (λ_ _ _ _ _=>(vk Nz (pv 2) (JC T.zK) (by with_unfolding_all rfl)))) bO)))) (bQ (bU qk)) b5)
   (bQ (bU (vk gJ (b6 gG hr (bM (pv 0) (bM (pv 1) bO))) cF (b9 _)))))),?_⟩
  refine ⟨_,rfl,_,rfl,by rw [oC];exact aJ (cx hsz),_,_,rfl,rfl,_,rfl,?_⟩;rw [oC];refine df (λe=>?_) (λe=>?_)
  ·have h8:8<x.length:=by have:=aD e;omega
   refine iT ?_;have q:=k H (bS.refl _);have e0:newName ts x=false:=by unfold newName;rw [aj h8];rfl
   rw [e0] at q;exact q
  ·have h8:¬8<x.length:=λq=>e (aj (by omega));refine ⟨_,rfl,c.wJ,_,rfl,.inr (T.sr _),rfl,by decide,_,rfl,?_⟩;rw [U3,l7];refine df (λe1=>?_) (λe1=>?_)
   ·have hk:=aao e1;have q:=k H (bS.refl _);have e0:newName ts x=false:=by unfold newName;rw [aj hk,Bool.or_true];rfl
    rw [e0] at q;exact q
   ·have hk:=aap e1;refine ⟨_,rfl,_,rfl,λD hD=>?_⟩;refine Qm (x:=S x) (λi H'=>bS H H'/\H' D=some (.lst (((x.take i).map λb=>decide (97<=b) && decide (b<=122)).map V.bl))) ⟨bS.new hD,bN⟩ ?_ ?_
    ·rintro i ch H' hi ⟨sm,hd⟩;have T3:x[i]?=some ch:=hi;refine ⟨rfl,iT ⟨_,rfl,ch,_,rfl,rfl,_,hd,?_,?_,?_⟩⟩
     ·rw [af,af,aO];exact cx (by omega)
     ·intro q o eq;rw [bR (λz=>by rw [z,hD] at eq;cases eq)];exact sm _ _ eq
     ·rw [bN,take_snoc T3,aB,aB];have e2:decide (ch∈(Str.ofString "abcdefghijklmnopqrstuvwxyz").cps.toList)=(decide (97<=ch) && decide (ch<=122)):=by
       rw [<-Bool.decide_and];exact decide_eq_decide.mpr (Ol ch)
      rw [e2];rfl
    ·rintro H' ⟨sm,hd⟩;have hl:(S x).cps.toList.length=x.length:=rfl;rw [hl,aZ] at hd;refine ⟨D,_,rfl,bY.of hd,_,rfl,?_⟩;have e3:((x.map λb=>decide (97<=b) && decide (b<=122)).all id)=x.all λb=>decide (97<=b) && decide (b<=122):=by rw [List.all_map];rfl
     rw [e3];cases Zb:(x.all λb=>decide (97<=b) && decide (b<=122)) with
     | false =>
      refine iT ?_;have q:=k H' sm;have e0:newName ts x=false:=by unfold newName;rw [Zb,Bool.and_false];rfl
      rw [e0] at q;exact q
     | true =>
      refine iF ⟨_,rfl,_,rfl,l,x,ts,rfl,ht.up sm,λH2 s2=>⟨rfl,?_⟩⟩;have q:=k H2 (sm.trans s2);have e0:newName ts x=(Ks337.find ts x).isNone:=by unfold newName;rw [Zb,az h8,az hk];rfl
      rw [e0] at q;have e4:decide (optN (Ks337.find ts x)=V.cw)=(Ks337.find ts x).isNone:=by
       cases Ks337.find ts x with
       | none=>rfl
       | some n=>rfl
      rw [<-e4] at q;exact q
def WW (c:Cs)(G:Hp)(v:V):Option Thing->Prop
 | none=>v=.cw
 | some t=>∃a,v=.ref a/\jg c G a t
inductive uY (c:Cs)(vs:List V)(H:Hp)(Q:VK)(E:XK):Prop | mk (G:Hp) (wa la:Addr) (ws:List Bytes) (ts:List Thing):vs=[.ref wa,.ref la]->bS G H->fq H wa ws->dG c H la ts->(∀x∈ws,x≠[]/\x.length<=1000)->(∀v G' H',Gr [] G H G' H'->WW c G' v (Ks337.thing ts ws)->Q v H')->uY c vs H Q E
theorem QA {ts:List Thing}{ws:List Bytes}(h:ws.length≠3):Ks337.thing ts ws=none:=by
 match ws,h with
 | [],_=>rfl
 | [_],_=>rfl
 | [_,_],_=>rfl
 | [_,_,_],h=>exact ai rfl h
 | _::_::_::_::_,_=>rfl
theorem oE (ts:List Thing)(w n d:Bytes):Ks337.thing ts [w,n,d]=if (w=Ks337.IN\/w=Ks337.OUT)/\Ks337.isName n=true/\Ks337.find ts n=none then (match Ks337.digit d with
   | some v=>if v=0 then none else some ⟨n,v,w == Ks337.OUT⟩
   | none=>none) else none:=rfl
theorem WX {α:Type}{o a b:α}:o∈[a,b]↔o=a\/o=b:=by simp
theorem MH {d:Bytes}:d∈([[49],[50],[51]]:List Bytes)↔∃v,Ks337.digit d=some v/\v≠0:=by
 constructor
 ·intro h;rcases Se.mp h with rfl | rfl | rfl
  ·exact ⟨1,rfl,by decide⟩
  ·exact ⟨2,rfl,by decide⟩
  ·exact ⟨3,rfl,by decide⟩
 ·rintro ⟨v,h1,h2⟩;obtain ⟨rfl,h3⟩:=Hy.iO h1;have h:v=1\/v=2\/v=3:=by omega
  rcases h with rfl | rfl | rfl <;> decide
theorem Lr (T:Tx w K mg c)(pN:Fn P w K mg base "is_new_name" 2 ["word","things"] (n6 c))(FI:Made P w K mg base "Thing" c.Thing 1 ["self","kind","name","top"] ["kind","name","top"]) :
  Fn P w K mg base "thing_of" 3 ["words","things"] (uY c):=by
 refine T.wR.ok Le λH Q E hr h=>?_
 ·obtain ⟨G,wa,la,ws,ts,rfl,hG,hw,ht,P2,k⟩:=h;refine ⟨_,(bP (cg (ot (bW De (cv cf (by rfl) T.cW PySem.boot_len (bM (pv 0) bO)) b8 (b9 _)) (ot (bW jF (cQ cR (pv 0) b8 (λ_ _=>rfl)) (ip (bM c6 (bM c6 bO))) (by with_unfolding_all rfl)) (oQ (bW jF (cQ cR (pv 0) b8 (λ_ _=>rfl)) (hR T.JI) (by with_unfolding_all rfl))))).pt (bQ (bU cF)) b5)
   (bP (cg (yu (oP (b6 pN hr (bM (cQ cR (pv 0) b8 (λ_ _=>rfl)) (bM (pv 1) bO))))) (bQ (bU cF)) b5)
   (bQ (bU (ff FI hr (bM (cQ cR (pv 0) b8 (λ_ _=>rfl)) (bM (cQ cR (pv 0) b8 (λ_ _=>rfl)) (bM (gy yK (by rfl) T.HW Qq (bM (cQ cR (pv 0) b8 (λ_ _=>rfl)) bO)) bO)))))))),?_⟩
  refine ⟨_,rfl,wa,_,rfl,.inl (bY.of hw),rfl,_,rfl,?_⟩;rw [iy];have sE:∀H',bS H H'->Ks337.thing ts ws=none->Q .cw H':=λH' sm e=>k _ G H' (Gr.dS hG sm) (by rw [e];rfl);refine df (λe=>?_) (λe=>?_)
  ·exact iT (sE H (bS.refl _) (QA (λq=>by rw [q] at e;simp at e)))
  ·have mN:ws.length=3:=by
    by_cases q:ws.length=3
    ·exact q
    ·exact ai (by simp;omega) e
   obtain ⟨kd,n,d,rfl⟩:=three mN;refine ⟨_,rfl,wa,_,_,_,rfl,rfl,bY.of hw,cD (j:=0) (eI (x:=kd) rfl),BP,λp hp=>⟨p,_,rfl,.inr (cA.of bN),rfl,by decide,_,rfl,?_⟩⟩;have s1:bS H (upd H p (.tup [.str "in",.str "out"])):=bS.new hp;have yc:=s1 _ _ hw;rw [Sk,l7];refine df (λe1=>?_) (λe1=>?_)
   ·have hn:=AM e1;exact iT (sE _ s1 (by rw [oE,aa (λq=>hn (WX.mpr q.1))]))
   ·have hk:=WX.mp (AN e1);refine ⟨_,rfl,wa,_,_,_,rfl,rfl,bY.of yc,cD (j:=2) (eI (x:=d) rfl),c.Sd,_,rfl,.inr (T.JJ _),rfl,by decide,_,rfl,?_⟩;rw [U4,l7];refine df (λe2=>?_) (λe2=>?_)
    ·have hn:=AM e2;refine sE _ s1 ?_;rw [oE]
     split
     ·cases hd:Ks337.digit d with
      | none=>rfl
      | some v =>
       show (if v=0 then _ else _)=_
       by_cases q:v=0
       ·rw [ab q]
       ·exact ai (MH.mpr ⟨v,hd,q⟩) hn
     ·rfl
    ·obtain ⟨v,hv,hv0⟩:=MH.mp (AN e2);obtain ⟨kZ,GS⟩:=Hy.iO hv;have Zc:=P2 n (by simp);refine ⟨_,rfl,wa,_,_,_,rfl,rfl,bY.of yc,cD (j:=1) (eI (x:=n) rfl),_,rfl,la,n,ts,rfl,ht.up s1,Zc.2,λH2 s2=>⟨_,rfl,?_⟩⟩;rw [Om Zc.1];cases WY:(Ks337.isName n && (Ks337.find ts n).isNone) with
     | false =>refine iT (sE _ (s1.trans s2) ?_);rw [oE,aa (λq=>by rw [q.2.1,q.2.2] at WY;cases WY)]
     | true =>
      have WZ:=Bool.and_eq_true_iff.mp WY;have MD:=s2 _ _ yc;refine iF ⟨_,rfl,wa,_,_,_,rfl,rfl,bY.of MD,cD (j:=0) (eI (x:=kd) rfl),_,rfl,wa,_,_,_,rfl,rfl,bY.of MD,cD (j:=1) (eI (x:=n) rfl),_,rfl,wa,_,_,_,rfl,rfl,bY.of MD,cD (j:=2) (eI (x:=d) rfl),S d,(v:Int),rfl,(by rw [kZ];exact MC v GS),(by rw [oC,kZ];show 1<=640;decide),rfl,λx dx nx nd ne=>?_⟩;refine k _ _ _ ((Gr.dS hG (s1.trans s2)).ins nx nd ne) ?_;have e5:Ks337.thing ts [kd,n,d]=some ⟨n,v,kd == Ks337.OUT⟩:=by rw [oE,ab ⟨hk,WZ.1,Option.isNone_iff_eq_none.mp WZ.2⟩,hv];show (if v=0 then _ else _)=_;rw [aa hv0]
      rw [e5];refine ⟨x,rfl,dx,?_⟩;rw [bN];have e6:S kd=if (kd == Ks337.OUT)=true then ("out":Str) else "in":=by
       rcases hk with rfl | rfl
       ·rw [aa (by decide),WN]
       ·rw [ab (by decide),TU]
      show some (HO.ins c.Thing dx [("kind",V.str (S kd)),("name",V.str (S n)),("top",V.int (v:Int))])=_;rw [e6];rfl
end
section
variable {K:PySem.W.Frag}{H:Hp}{a b:Addr}{Q:VK}
theorem FJ:∀ws:List Bytes,tR K H (wV ws) (ws.map λw=>PyData.str (S w))
 | []=>.nil
 | w::ws=>.cons (.str _) (FJ ws)
theorem CF:∀ws:List Bytes,(∀w∈ws,PyData.strOk (S w)=true)->PyData.canLayAll0 (ws.map λw=>PyData.str (S w))=true
 | [],_=>by simp [PyData.canLayAll0]
 | w::ws,h=>by
  have:=CF ws λx hx=>h x (aA _ hx)
  simp only [aw,PyData.canLayAll0,PyData.canLay0];rw [h w (aE ..),Bool.true_and];exact this
theorem xm:∀ws:List Bytes,PyData.depthAll (ws.map λw=>PyData.str (S w))=0
 | []=>by simp [PyData.depthAll]
 | w::ws=>by
  have:=xm ws
  simp only [aw,PyData.depthAll,PyData.depth,this];rfl
theorem JT:∀ws vs:List Bytes,PyData.eqvAll (ws.map λw=>PyData.str (S w)) (vs.map λw=>PyData.str (S w))=decide (ws=vs)
 | [],[]=>by simp [PyData.eqvAll]
 | [],_::_=>by simp [PyData.eqvAll]
 | _::_,[]=>by simp [PyData.eqvAll]
 | x::ws,y::vs=>by
  have ih:=JT ws vs;simp only [aw,PyData.eqvAll,PyData.eqv,ih]
  by_cases e:x=y
  ·subst e;simp
  ·have:¬S x=S y:=λq=>e (Ea q)
   simp [e,this]
theorem JU {ws vs:List Bytes}(o1:∀w∈ws,PyData.strOk (S w)=true)(o2:∀w∈vs,PyData.strOk (S w)=true)(ha:bY K H a (wV ws))(hb:bY K H b (wV vs))(q:Q (.bl (decide (ws=vs))) H):IC K (.ref a) (.ref b) H Q:=by
 refine ⟨_,_,.lst ha (FJ ws),.lst hb (FJ vs),?_,?_,?_⟩
 ·unfold SeqAt.shaped;simp only [PyData.canLay0,PyData.depth,CF ws o1,xm];rfl
 ·unfold SeqAt.shaped;simp only [PyData.canLay0,PyData.depth,CF vs o2,xm];rfl
 ·simp only [PyData.eqv,JT];exact q
theorem vK:∀ns:List Nat,tR K H (c0 ns) (ns.map λ(n:Nat)=>PyData.int (n:Int))
 | []=>.nil
 | n::ns=>.cons (.int _) (vK ns)
theorem sF:∀ns:List Nat,PyData.canLayAll0 (ns.map λ(n:Nat)=>PyData.int (n:Int))=true
 | []=>by simp [PyData.canLayAll0]
 | w::ws=>by
  have:=sF ws
  simp only [aw,PyData.canLayAll0,PyData.canLay0,Bool.true_and];exact this
theorem mO:∀ns:List Nat,PyData.depthAll (ns.map λ(n:Nat)=>PyData.int (n:Int))=0
 | []=>by simp [PyData.depthAll]
 | w::ws=>by
  have:=mO ws
  simp only [aw,PyData.depthAll,PyData.depth,this];rfl
theorem CG:∀ws vs:List Nat,PyData.eqvAll (ws.map λ(n:Nat)=>PyData.int (n:Int)) (vs.map λ(n:Nat)=>PyData.int (n:Int))=decide (ws=vs)
 | [],[]=>by simp [PyData.eqvAll]
 | [],_::_=>by simp [PyData.eqvAll]
 | _::_,[]=>by simp [PyData.eqvAll]
 | x::ws,y::vs=>by
  have ih:=CG ws vs;simp only [aw,PyData.eqvAll,PyData.eqv,ih]
  by_cases e:x=y
  ·subst e;simp
  ·have:¬(x:Int)=(y:Int):=λq=>e (by omega)
   simp [e,this]
theorem QB {ws vs:List Nat}(ha:bY K H a (c0 ws))(hb:bY K H b (c0 vs))(q:Q (.bl (decide (ws=vs))) H):IC K (.ref a) (.ref b) H Q:=by
 refine ⟨_,_,.lst ha (vK ws),.lst hb (vK vs),?_,?_,?_⟩
 ·unfold SeqAt.shaped;simp only [PyData.canLay0,PyData.depth,sF,mO];rfl
 ·unfold SeqAt.shaped;simp only [PyData.canLay0,PyData.depth,sF,mO];rfl
 ·simp only [PyData.eqv,CG];exact q
theorem QC {ws vs:List Nat}(ha:cA K H a (c0 ws))(hb:cA K H b (c0 vs))(q:Q (.bl (decide (ws=vs))) H):IC K (.ref a) (.ref b) H Q:=by
 refine ⟨_,_,.tup ha (vK ws),.tup hb (vK vs),?_,?_,?_⟩
 ·unfold SeqAt.shaped;simp only [PyData.canLay0,PyData.depth,sF,mO];rfl
 ·unfold SeqAt.shaped;simp only [PyData.canLay0,PyData.depth,sF,mO];rfl
 ·simp only [PyData.eqv,CG];exact q
end
theorem W0 (xs:List V):fE xs (some 1) (some (-4))=(xs.drop 1).take (xs.length - 5):=by
 have e1:HT.cZ xs.length 0 (some 1)=min 1 xs.length:=HT.m8 _ _ 1;have e2:HT.cZ xs.length xs.length (some (-4))=xs.length - 4:=by unfold HT.cZ;dsimp only;rw [ab (by decide)];omega
 unfold fE;rw [e1,e2];cases xs with
 | nil=>rfl
 | cons x r=>rw [Nat.min_eq_left (by simp)];rfl
theorem Yf (xs:List V):fE xs (some (-3)) none=xs.drop (xs.length - 3):=by
 have e1:HT.cZ xs.length 0 (some (-3))=xs.length - 3:=by unfold HT.cZ;dsimp only;rw [ab (by decide)];omega
 unfold fE;rw [e1,HT.wk,List.take_of_length_le (by rw [bg];omega)]
theorem at_neg {α:Type}{xs:List α}{n:Nat}{x:α}(hn:0<n)(hl:n<=xs.length)(h:xs[xs.length - n]?=some x):qT xs (-(n:Int))=some x:=by
 unfold qT Iw;rw [aa (by omega),ab (by omega)];have e:(-(n:Int)+(xs.length:Int)).toNat=xs.length - n:=by omega
 rw [e];exact h
section
variable {P:Program}{w:World}{K:PySem.W.Frag}{mg:Str->Option Value}{base:Heap}{c:Cs}
def Em (c:Cs)(ts:List Thing)(G:Hp)(v:V):Option Line->Prop
 | none=>v=.cw
 | some l=>∃a,v=.ref a/\eM c ts G a l
inductive xn (c:Cs)(vs:List V)(H:Hp)(Q:VK)(E:XK):Prop | mk (G:Hp) (wa la:Addr) (r:List Bytes) (ts:List Thing):vs=[.ref wa,.ref la]->bS G H->fq G wa (Ks337.RULE::r)->dG c H la ts->r.length<=1000->(∀v G' H',Gr [] G H G' H'->Em c ts G' v (Hy.hC ts r)->Q v H')->xn c vs H Q E
def FK (ts:List Thing)(cd:Cond):List Bytes->Option Line
 | [a,n,e,d]=>if a=Ks337.THEN then (match Hy.dR ts [n,e,d] with
    | some (.cmp o t v)=>if o=Ks337.EQ/\(match ts[t]? with | some th=>th.out | none=>false)=true then some (.rule cd t v) else none
    | _=>none) else none
 | _=>none
theorem uZ {ts:List Thing}{r:List Bytes}{cd:Cond}(h:Hy.condOf ts (r.take (r.length - 4))=some cd):Hy.hC ts r=FK ts cd (r.drop (r.length - 4)):=by unfold Hy.hC;rw [h];rfl
theorem Ls {ts:List Thing}{r:List Bytes}(h:Hy.condOf ts (r.take (r.length - 4))=none):Hy.hC ts r=none:=by unfold Hy.hC;rw [h]
theorem Oo (ts:List Thing):Hy.condOf ts []=none:=rfl
theorem Oq (T:Tx w K mg c)(eu:Fn P w K mg base "condition_of" 4 ["words","things"] (hW c))(f7:Fn P w K mg base "comparison_of" 2 ["words","things"] (gP c))
  (qM:Made P w K mg base "Entry" c.Entry 1 ["self","words","condition","thing","value"] ["words","condition","thing","value"]):Fn P w K mg base "rule_of" 5 ["words","things"] (xn c):=by
 refine T.zB.ok wG λH Q E hr h=>?_
 ·obtain ⟨G,wa,la,r,ts,rfl,hG,hw,ht,hsz,k⟩:=h;refine ⟨_,(bP (cJ wG 2 (b6 eu hr (bM (dZ fV (pv 0) (dJ b8) (dJ (j4 il (cG T.gO)))) (bM (pv 1) bO))))
   (bP (cg (ot (bW gJ (pv 2) cF (b9 _)) (oQ (bW De (cQ cR (pv 0) (j4 il (cG T.gO)) (λ_ _=>rfl)) c6 (b9 _)))).pt (bQ (bU cF)) b5)
   (bP (cJ wG 3 (b6 f7 hr (bM (dZ fV (pv 0) (dJ (dj qR b8 (cG T.gO))) gE) (bM (pv 1) bO))))
   (bP (cg (ot (bW gJ (pv 3) cF (b9 _)) (ot (bW De (cQ fQ (pv 3) b8 (λ_ _=>rfl)) c6 (b9 _)) (oQ (bW De (bT (cQ cR (pv 1) (cQ fQ (pv 3) b8 (λ_ _=>rfl)) (λ_ _=>rfl)) rfl) c6 (b9 _))))).pt (bQ (bU cF)) b5)
   (bQ (bU (ff qM hr (bM (pv 0) (bM (pv 2) (bM (cQ fQ (pv 3) b8 (λ_ _=>rfl)) (bM (cQ fQ (pv 3) b8 (λ_ _=>rfl)) bO))))))))))),?_⟩
  refine ⟨_,rfl,_,rfl,_,rfl,_,rfl,wa,_,rfl,bY.of (hG _ _ hw),λp hp=>⟨_,rfl,G,p,la,r.take (r.length - 4),ts,rfl,hG.trans (bS.new hp),?_,ht.up (bS.new hp),by rw [aO];omega,λv G1 H1 g1 hv=>?_⟩⟩
  ·show upd H p _ p=_;rw [bN];have e:=W0 (wV (Ks337.RULE::r));rw [iy] at e;rw [show (-(4:Int))=-4 from rfl,e,FF,AL];rfl
  ·have g1:Gr [] G H G1 H1:=((Gr.refl hG).cX hp).trans g1;refine ⟨_,rfl,rfl,_,rfl,?_⟩;cases hc:Hy.condOf ts (r.take (r.length - 4)) with
   | none =>rw [hc] at hv;cases (show v=.cw from hv);refine iT (iT (k _ G1 H1 g1 ?_));rw [Ls hc];rfl
   | some cd =>
    rw [hc] at hv;obtain ⟨ca,rfl,c7⟩:=hv;refine iF ?_;have hr5:5<=r.length:=by
     rcases ba r.length 5 with q | q
     ·rw [show r.length - 4=0 by omega,List.take_zero,Oo] at hc;cases hc
     ·exact q
    obtain ⟨a,n,e,d,uC⟩:∃a n e d,r.drop (r.length - 4)=[a,n,e,d]:=by
     have hl:(r.drop (r.length - 4)).length=4:=by rw [bg];omega
     match r.drop (r.length - 4),hl with
     | [a,n,e,d],_=>exact ⟨a,n,e,d,rfl⟩
    have abK:r=r.take (r.length - 4)++[a,n,e,d]:=by rw [<-uC,List.take_append_drop]
    have yc:H1 wa=some (.lst (wV (Ks337.RULE::r))):=g1.same _ _ (hG _ _ hw);have iA:(Ks337.RULE::r)[(Ks337.RULE::r).length - 4]?=some a:=by
     rw [au,show r.length+1 - 4=(r.length - 4)+1 by omega,List.getElem?_cons_succ];have q:(r.drop (r.length - 4))[0]?=some a:=by rw [uC];rfl
     rw [bC] at q;exact q
    have aas:qT (wV (Ks337.RULE::r)) (-(4:Int))=some (.str (S a)):=at_neg (n:=4) (by decide) (by rw [iy,au];omega) (by rw [iy];exact eI iA);refine ⟨_,rfl,_,rfl,wa,_,_,_,rfl,rfl,bY.of yc,aas,rfl,_,rfl,?_⟩;rw [<-WQ,JN]
    by_cases ha:a=Ks337.THEN
    ·rw [aj ha];refine iF ?_;refine ⟨_,rfl,_,_,rfl,rfl,_,rfl,wa,_,rfl,bY.of yc,λp2 kO=>⟨_,rfl,G1,p2,la,[n,e,d],ts,rfl,g1.sub.trans (bS.new kO),?_,(ht.up g1.same).up (bS.new kO),λv2 G2 H2 g2i En=>?_⟩⟩
     ·show upd H1 p2 _ p2=_;rw [bN];have e3:=Yf (wV (Ks337.RULE::r));rw [show ((1:Int) - 4)=-3 from rfl,e3,iy,FF,au];rw [show r.length+1 - 3=(r.length - 4)+1+1 by omega,List.drop_succ_cons,<-bz,uC];rfl
     ·have g2:Gr [] G H G2 H2:=g1.trans (((Gr.refl g1.sub).cX kO).trans g2i);refine ⟨_,rfl,rfl,_,rfl,?_⟩;have sE:∀H',bS H2 H'->FK ts cd [a,n,e,d]=none->Q .cw H':=λH' sm q=>k _ G2 H' (g2.trans (Gr.dS g2.sub sm)) (by rw [uZ hc,uC,q];rfl);cases MI:Hy.dR ts [n,e,d] with
      | none =>rw [MI] at En;cases (show v2=.cw from En);refine iT (iT (sE _ (bS.refl _) ?_));show (if a=Ks337.THEN then _ else _)=_;rw [ab ha,MI]
      | some pt =>
       rw [MI] at En;obtain ⟨sa,rfl,JV⟩:=En;obtain ⟨n',o,d',t,v,dP,rfl,ho,hf,hdg,Y0⟩:=Hy.j9 MI;have fP:cA K H2 sa (xh (.cmp o t v)):=cA.of (g2.sub _ _ JV);have T4:¬(o=Ks337.EQ/\(match ts[t]? with | some th=>th.out | none=>false)=true)->FK ts cd [a,n,e,d]=none:=λq=>by show (if a=Ks337.THEN then _ else _)=_;rw [ab ha,MI];show (if o=Ks337.EQ/\_ then _ else _)=_;rw [aa q]
       refine iF ?_;refine ⟨_,rfl,sa,_,_,_,rfl,rfl,fP,cD (j:=0) rfl,rfl,_,rfl,?_⟩;rw [<-N7,JN]
       by_cases xZ:o=Ks337.EQ
       ·rw [aj xZ];refine iF ?_;obtain ⟨as,hl,kx⟩:=ht.up g2.same;obtain ⟨th,eQ,_⟩:=Hy.find_some hf;obtain ⟨ta,f6,dx,htt⟩:=Paired.lO kx eQ;refine ⟨_,rfl,_,rfl,sa,_,_,_,rfl,rfl,fP,cD (j:=1) rfl,la,_,_,_,rfl,rfl,bY.of hl,cD (j:=t) (v:=.ref ta) (by rw [aS,f6];rfl),_,c.Thing,dx,_,_,rfl,htt,T.fF,T.fG,Ec th,rfl,_,rfl,?_⟩;cases W2:th.out with
        | false =>
         refine iT (sE _ (bS.refl _) (T4 λq=>?_));rw [eQ] at q
         have:=q.2
         rw [show (match some th with | some th=>th.out | none=>false)=th.out from rfl,W2] at this;cases this
        | true =>
         refine iF ⟨_,rfl,_,rfl,_,rfl,sa,_,_,_,rfl,rfl,fP,cD (j:=1) rfl,_,rfl,sa,_,_,_,rfl,rfl,fP,cD (j:=2) rfl,rfl,λx dx nx nd ne=>?_⟩;refine k _ _ _ (g2.ins nx nd ne) ?_;have er:Hy.hC ts r=some (.rule cd t v):=by rw [uZ hc,uC];show (if a=Ks337.THEN then _ else _)=_;rw [ab ha,MI];show (if o=Ks337.EQ/\_ then _ else _)=_;rw [ab ⟨xZ,by rw [eQ];exact W2⟩]
         have el:=(Hy.Gm ts r).trans er;obtain ⟨W3,_⟩:=Hy.yM el;rw [er];have sup:bS G2 (upd (upd G2 dx (.own x)) x (.ins c.Entry dx [("words",V.ref wa),("condition",V.ref ca),("thing",V.int (t:Int)),("value",V.int (v:Int))])):=bS.ins (g2.sub.free nx) (g2.sub.free nd) ne;refine ⟨x,rfl,dx,wa,ca,bN,?_,?_⟩
         ·rw [<-W3];exact sup _ _ (g2.up _ _ hw)
         ·refine iw.up (H:=G2) ?_ sup;exact iw.up c7 g2i.up
       ·rw [az xZ];exact iT (iT (sE _ (bS.refl _) (T4 λq=>xZ q.1)))
    ·rw [az ha];refine iT (k _ G1 H1 g1 ?_);rw [uZ hc,uC];show Em c ts G1 V.cw (if a=Ks337.THEN then _ else _);rw [aa ha];rfl
inductive zT (c:Cs)(vs:List V)(H:Hp)(Q:VK)(E:XK):Prop | mk (G:Hp) (wa la:Addr) (r:List Bytes) (ts:List Thing):vs=[.ref wa,.ref la]->bS G H->fq G wa (Ks337.NEVER::r)->dG c H la ts->r.length<=1000->(∀v G' H',Gr [] G H G' H'->Em c ts G' v (Hy.lh ts r)->Q v H')->zT c vs H Q E
theorem QD (T:Tx w K mg c)(eu:Fn P w K mg base "condition_of" 4 ["words","things"] (hW c))
  (qM:Made P w K mg base "Entry" c.Entry 1 ["self","words","condition","thing","value"] ["words","condition","thing","value"]):Fn P w K mg base "ban_of" 5 ["words","things"] (zT c):=by
 refine T.Ct.ok GP λH Q E hr h=>?_
 ·obtain ⟨G,wa,la,r,ts,rfl,hG,hw,ht,hsz,k⟩:=h;refine ⟨_,(bP (cJ GP 2 (b6 eu hr (bM (dZ fV (pv 0) (dJ b8) gE) (bM (pv 1) bO))))
   (bP (cg (bW gJ (pv 2) cF (b9 _)) (bQ (bU cF)) b5)
   (bQ (bU (ff qM hr (bM (pv 0) (bM (pv 2) (bM cF (bM cF bO))))))))),?_⟩
  refine ⟨_,rfl,_,rfl,wa,_,rfl,bY.of (hG _ _ hw),λp hp=>⟨_,rfl,G,p,la,r,ts,rfl,hG.trans (bS.new hp),?_,ht.up (bS.new hp),hsz,λv G1 H1 g1i hv=>?_⟩⟩
  ·show upd H p _ p=_;rw [bN];have e:=zN (wV (Ks337.NEVER::r)) 1;rw [show ((1:Nat):Int)=1 from rfl] at e;rw [e];rfl
  ·have g1:Gr [] G H G1 H1:=((Gr.refl hG).cX hp).trans g1i;refine ⟨_,rfl,rfl,_,rfl,?_⟩;cases hc:Hy.condOf ts r with
   | none =>rw [hc] at hv;cases (show v=.cw from hv);refine iT (k _ G1 H1 g1 ?_);unfold Hy.lh;rw [hc];rfl
   | some cd =>
    rw [hc] at hv;obtain ⟨ca,rfl,c7⟩:=hv;refine iF ⟨_,rfl,_,rfl,rfl,λx dx nx nd ne=>?_⟩;refine k _ _ _ (g1.ins nx nd ne) ?_;have er:Hy.lh ts r=some (.never cd):=by unfold Hy.lh;rw [hc]
    obtain ⟨W3,_⟩:=Hy.yM ((Hy.IW ts r).trans er);rw [er];have sup:bS G1 (upd (upd G1 dx (.own x)) x (.ins c.Entry dx [("words",V.ref wa),("condition",V.ref ca),("thing",V.cw),("value",V.cw)])):=bS.ins (g1.sub.free nx) (g1.sub.free nd) ne;refine ⟨x,rfl,dx,wa,ca,bN,?_,iw.up c7 sup⟩;rw [<-W3];exact sup _ _ (g1.up _ _ hw)
inductive k4 (c:Cs)(vs:List V)(H:Hp)(Q:VK)(E:XK):Prop | mk (G:Hp) (wa la:Addr) (ws:List Bytes) (ts:List Thing):vs=[.ref wa,.ref la]->bS G H->fq G wa ws->dG c H la ts->ws.length<=1000->(∀x∈ws,PyData.strOk (S x)=true)->(∀v G' H',Gr [] G H G' H'->Em c ts G' v (Hy.entryOf ts ws)->Q v H')->k4 c vs H Q E
theorem xo (ws:List Bytes)(x:Bytes):decide (ws.take 1=[x])=true↔∃r,ws=x::r:=by
 rw [decide_eq_true_iff];cases ws with
 | nil=>simp
 | cons y r=>simp
theorem Lu (T:Tx w K mg c)(zU:Fn P w K mg base "rule_of" 5 ["words","things"] (xn c))(CH:Fn P w K mg base "ban_of" 5 ["words","things"] (zT c)):Fn P w K mg base "entry_of" 6 ["words","things"] (k4 c):=by
 refine T.wU.ok Lf λH Q E hr h=>?_
 ·obtain ⟨G,wa,la,ws,ts,rfl,hG,hw,ht,hsz,cn,k⟩:=h;refine ⟨_,(bP (cg (bW (Dk hr.units) (dZ fV (pv 0) gE (dJ b8)) (ck (bM c6 bO)) (b9 _)) (bQ (bU (b6 zU hr (bM (pv 0) (bM (pv 1) bO))))) b5)
   (bP (cg (bW (Dk hr.units) (dZ fV (pv 0) gE (dJ b8)) (ck (bM c6 bO)) (b9 _)) (bQ (bU (b6 CH hr (bM (pv 0) (bM (pv 1) bO))))) b5)
   (bQ (bU cF)))),?_⟩
  have ct:∀ws:List Bytes,fE (wV ws) none (some 1)=wV (ws.take 1):=λws=>by have e:=zM (wV ws) 1;rw [show ((1:Nat):Int)=1 from rfl] at e;rw [e,AL]
  refine ⟨_,rfl,_,rfl,wa,_,rfl,bY.of (hG _ _ hw),λp hp=>⟨dI,λp2 kO=>?_⟩⟩;rw [ct] at kO ⊢;have sA:bS H (upd (upd H p (.lst (wV (ws.take 1)))) p2 (.lst [.str "rule"])):=(bS.new hp).trans (bS.new kO);have W4:p≠p2:=λz=>by rw [<-z,bN] at kO;cases kO
  refine JU (ws:=ws.take 1) (vs:=[Ks337.RULE]) (λx hx=>cn x (List.mem_of_mem_take hx)) (by decide +kernel) (bY.of (by rw [bR W4,bN])) (bY.of (by rw [bN];show _=some (HO.lst [V.str (S Ks337.RULE)]);rw [WO])) ⟨_,rfl,?_⟩;refine df (λe=>?_) (λe=>?_)
  ·obtain ⟨r,rfl⟩:=(xo _ _).mp e;refine ⟨_,rfl,_,rfl,G,wa,la,r,ts,rfl,hG.trans sA,hw,ht.up sA,by simp at hsz;omega,λv G' H' g hv=>k v G' H' ((Gr.dS hG sA).trans g) ?_⟩;have en:Hy.entryOf ts (Ks337.RULE::r)=Hy.hC ts r:=by
    show (if Ks337.RULE=Ks337.RULE then Hy.hC ts r else if Ks337.RULE=Ks337.NEVER then Hy.lh ts r else none)=_;rw [ab rfl]
   rw [en];exact hv
  ·refine ⟨_,rfl,_,rfl,wa,_,rfl,bY.of (sA _ _ (hG _ _ hw)),λp hp=>⟨dI,λp2 kO=>?_⟩⟩;rw [ct] at kO ⊢
   generalize hHA:upd (upd H _ (.lst (wV (ws.take 1)))) _ (.lst [.str "rule"])=HA at sA hp kO ⊢
   have sB:bS H (upd (upd HA p (.lst (wV (ws.take 1)))) p2 (.lst [.str "never"])):=sA.trans ((bS.new hp).trans (bS.new kO));have W4:p≠p2:=λz=>by rw [<-z,bN] at kO;cases kO
   refine JU (ws:=ws.take 1) (vs:=[Ks337.NEVER]) (λx hx=>cn x (List.mem_of_mem_take hx)) (by decide +kernel) (bY.of (by rw [bR W4,bN])) (bY.of (by rw [bN];show _=some (HO.lst [V.str (S Ks337.NEVER)]);rw [UY])) ⟨_,rfl,?_⟩;refine df (λe2=>?_) (λe2=>?_)
   ·obtain ⟨r,rfl⟩:=(xo _ _).mp e2;refine ⟨_,rfl,_,rfl,G,wa,la,r,ts,rfl,hG.trans sB,hw,ht.up sB,by simp at hsz;omega,λv G' H' g hv=>k v G' H' ((Gr.dS hG sB).trans g) ?_⟩;have en:Hy.entryOf ts (Ks337.NEVER::r)=Hy.lh ts r:=by
     show (if Ks337.NEVER=Ks337.RULE then Hy.hC ts r else if Ks337.NEVER=Ks337.NEVER then Hy.lh ts r else none)=_;rw [aa (by decide),ab rfl]
    rw [en];exact hv
   ·refine k _ G _ (Gr.dS hG sB) ?_;have en:Hy.entryOf ts ws=none:=by
     cases ws with
     | nil=>rfl
     | cons x r =>show (if x=Ks337.RULE then _ else if x=Ks337.NEVER then _ else _)=_;rw [aa (λq=>e ((xo _ _).mpr ⟨r,by rw [q]⟩)),aa (λq=>e2 ((xo _ _).mpr ⟨r,by rw [q]⟩))]
    rw [en];rfl
end
theorem Eo:∀(ws:List Bytes)(x:Bytes),x∈ws->x.length<=(Ks337.joined ws).length
 | [],x,h=>by simp at h
 | [w],x,h=>by rw [aK.mp h];exact ag _
 | w::v::r,x,h=>by
  rw [Hy.oz,ay,au];rcases ak.mp h with e | e
  ·rw [e];omega
  ·have:=Eo (v::r) x e
   omega
theorem W5 (x:Bytes):PyData.strOk (S (Hy.dE x))=true:=by
 unfold PyData.strOk;have e:(S (Hy.dE x)).cps=(Hy.dE x).toArray:=rfl;rw [e,List.all_toArray,br];intro y hy;obtain ⟨b,_,rfl⟩:=aQ.mp hy;have h2:∀z∈Hy.signs,z<1114112:=by decide
 rcases T2 b with h | h
 ·exact aj (h2 _ h)
 ·rw [h];decide
theorem JW (bs:Bytes):∀x∈eY bs,x≠[]/\x.length<=1000/\PyData.strOk (S x)=true:=by
 intro x hx;unfold eY at hx
 by_cases h:Ks337.okRow bs=true
 ·rw [ab h] at hx;obtain ⟨y,hy,rfl⟩:=aQ.mp hx;have h1:=Hy.Cc _ bs (ag _) y hy;have h2:=Eo _ y hy;have h3:=Hy.iP _ bs (ag _);have h4:bs.length<=100:=by unfold Ks337.okRow at h;simp at h;exact h.1
  have h5:(Hy.dE y).length=y.length:=af ..;refine ⟨λq=>h1 ?_,by omega,W5 y⟩
  have:=congrArg List.length q
  rw [h5] at this;exact bt this
 ·rw [aa h] at hx;simp at hx
theorem QE {h:House}(w:Hy.fC h)(row:Bytes):Ks337.step h row=match Ks337.thing h.things (eY row) with
  | some x=>if 6<=h.things.length then none else some {h with things:=h.things++[x]}
  | none=>match Hy.entryOf h.things (eY row) with
   | some x=>if 16<=h.lines.length then none else some {h with lines:=h.lines++[x]}
   | none=>none:=by
 unfold Ks337.step eY
 by_cases hr:Ks337.okRow row=true
 ·rw [aa (by rw [hr];decide),ab hr,Hy.RS w.ts.plain,<-Hy.mq,Hy.Mf w.ts.plain];rfl
 ·rw [ab (by cases q:Ks337.okRow row with | false=>rfl | true=>exact ai q hr),aa hr];rfl
theorem FL {ts:List Thing}{ws:List Bytes}{x:Thing}(h:Ks337.thing ts ws=some x):Hy.entryOf ts ws=none:=by
 obtain ⟨w,n,d,rfl,hw,_⟩:=Hy.IZ h;show (if w=Ks337.RULE then _ else if w=Ks337.NEVER then _ else _)=_;rcases hw with rfl | rfl
 ·rw [aa (by decide),aa (by decide)]
 ·rw [aa (by decide),aa (by decide)]
structure Grows (c:Cs)(G H:Hp)(tl el:Addr)(as bs:List Addr)(h:House):Prop where
 gt:G tl=none
 ge:G el=none
 ne:tl≠el
 ht:H tl=some (.lst (as.map V.ref))
 he:H el=some (.lst (bs.map V.ref))
 pt:Paired (jg c G) as h.things
 pe:Paired (eM c h.things G) bs h.lines
theorem Grows.up {c:Cs}{G H G' H':Hp}{tl el:Addr}{as bs:List Addr}{h:House}(g:Grows c G H tl el as bs h)(u:Gr [] G H G' H'):Grows c G' H' tl el as bs h :=⟨u.out g.gt (by rw [g.ht];simp) (λxs=>by rw [u.same _ _ g.ht];simp),u.out g.ge (by rw [g.he];simp) (λxs=>by rw [u.same _ _ g.he];simp),g.ne,u.same _ _ g.ht,u.same _ _ g.he,Paired.imp' (λ_ _ q=>jg.up q u.up) g.pt,Paired.imp' (λ_ _ q=>eM.up q u.up) g.pe⟩
theorem Grows.things {c:Cs}{G H:Hp}{tl el:Addr}{as bs:List Addr}{h:House}(g:Grows c G H tl el as bs h)(s:bS G H):dG c H tl h.things:=⟨as,g.ht,Paired.imp' (λ_ _ q=>jg.up q s) g.pt⟩
theorem vL {α β:Type}{R R':α->β->Prop}:∀{l:List α}{m:List β},Paired R l m->(∀a b,b∈m->R a b->R' a b)->Paired R' l m
 | _,_,.nil,_=>.nil
 | _,_,.cons r t,h=>.cons (h _ _ (aE ..) r) (vL t λa b hb=>h a b (aA _ hb))
theorem JX {c:Cs}{G:Hp}{bs:List Addr}{ls:List Line}{ts:List Thing}(x:Thing)(hw:∀l∈ls,Hy.Gk ts l)(h:Paired (eM c ts G) bs ls):Paired (eM c (ts++[x]) G) bs ls :=vL h λa l hl ⟨dx,w,cd,e,h1,h2⟩=>⟨dx,w,cd,e,by rw [Hy.xT [x] (hw l hl)];exact h1,h2⟩
section
variable {P:Program}{w:World}{K:PySem.W.Frag}{mg:Str->Option Value}{base:Heap}{c:Cs}
def Yg (c:Cs)(G H:Hp)(tl el:Addr)(v:V):Option House->Prop
 | none=>v=.bl false
 | some h=>v=.bl true/\∃as bs,Grows c G H tl el as bs h
inductive sG (c:Cs)(vs:List V)(H:Hp)(Q:VK)(E:XK):Prop | mk (G:Hp) (ha tl el la dx:Addr) (as bs:List Addr) (h:House) (row:Bytes):vs=[.ref ha,.ref la]->bS G H->H ha=some (.ins c.House dx (kY tl el))->Grows c G H tl el as bs h->dF H la row->Hy.fC h->(∀v G' H',Gr [tl,el] G H G' H'->Yg c G' H' tl el v (Ks337.step h row)->Q v H')->sG c vs H Q E
theorem JY (T:Tx w K mg c)(gu:Fn P w K mg base "words_of" 2 ["row"] k0)(xp:Fn P w K mg base "thing_of" 3 ["words","things"] (uY c))(kh:Fn P w K mg base "entry_of" 6 ["words","things"] (k4 c)) :
  Fn P w K mg base "take_line" 7 ["house","line"] (sG c):=by
 refine T.uL.ok mw λH Q E hr h=>?_
 ·obtain ⟨G,ha,tl,el,la,dx,as,bs,h,row,rfl,hG,hh,gr,iz,wf,k⟩:=h;have Ep:=QE wf row;refine ⟨_,(bP (cJ mw 2 (b6 gu hr (bM (pv 1) bO)))
   (bP (cJ mw 3 (b6 xp hr (bM (pv 2) (bM (bT (pv 0) rfl) bO))))
   (bP (cg (vj (bW qE (pv 3) cF (b9 _)) (qD (bW ie (cv cf (by rfl) T.cW PySem.boot_len (bM (bT (pv 0) rfl) bO)) (cG T.pJ) (b9 _)))).pt (bP (dy (gT PySem.F.plainAttrs_list PySem.F.slot_list_append PySem.F.type_list_append dO (bT (pv 0) rfl) (bM (pv 3) bO)))
   (bQ (bU qk))) b5)
   (bP (cJ mw 4 (b6 kh hr (bM (pv 2) (bM (bT (pv 0) rfl) bO))))
   (bP (cg (vj (bW qE (pv 4) cF (b9 _)) (qD (bW ie (cv cf (by rfl) T.cW PySem.boot_len (bM (bT (pv 0) rfl) bO)) (cG T.kf) (b9 _)))).pt (bP (dy (gT PySem.F.plainAttrs_list PySem.F.slot_list_append PySem.F.type_list_append dO (bT (pv 0) rfl) (bM (pv 4) bO)))
   (bQ (bU qk))) b5)
   (bQ (bU qk))))))),?_⟩
  refine ⟨_,rfl,G,la,row,rfl,hG,iz,λwa G1 H1 g1 hw=>?_⟩;have Zd:=gr.up g1;have GW:=g1.same _ _ hh;have W6:=JW row;refine ⟨_,rfl,_,rfl,_,c.House,dx,_,_,rfl,GW,T.cH,T.cI,cS tl el,G1,wa,tl,eY row,h.things,rfl,g1.sub,g1.sub _ _ hw,Zd.things g1.sub,λx hx=>⟨(W6 x hx).1,(W6 x hx).2.1⟩,λv2 G2 H2 g2 En=>?_⟩;have iG:=g1.trans g2;have sH:=Zd.up g2;have lY:=g2.same _ _ GW;have c9:as.length=h.things.length:=Paired.length gr.pt;have hle:bs.length=h.lines.length:=Paired.length gr.pe;have ent:∀(Sl:Ks337.thing h.things (eY row)=none\/(6<=h.things.length/\Hy.entryOf h.things (eY row)=none)),∀σ3:Option V,
    Nb (Rl (HJ (k4 c) [] E0 (wg (lB 2) (wg (Iq K (lB 0) "things") Ir))) (Dc 4)) (Nb (Vw (Vs (Nh (F3 (λx y H Q=>y=V.cw/\Q (V.bl (!decide (x=V.cw))) H) (lB 4) (tC V.cw))) (Nh (F3 (xM λi j=>.bl (decide (i<j))) (VL (λxs H Q=>∃p ys,xs=[.ref p]/\(bY K H p ys\/cA K H p ys)/\Q (.int ys.length) H) (wg (Iq K (lB 0) "entries") Ir)) (tC (.int 16)))))
     (Nb (S4 (YB K "list" E4 (Iq K (lB 0) "entries") (wg (lB 4) Ir))) (Nc (tC (.bl true)))) S3) (Nc (tC (.bl false)))) {nx:=λx H'=>Q V.cw H',rt:=Q} [some (.ref ha),some (.ref la),some (.ref wa),σ3,none] H2:=λSl σ3=>by
   have yz:∀G3 H3,Gr [] G2 H2 G3 H3->(Hy.entryOf h.things (eY row)=none\/16<=h.lines.length)->Q (.bl false) H3:=λG3 H3 g3 q=>k _ G3 H3 (iG.trans g3).any (by
    have e:Ks337.step h row=none:=by
     rw [Ep];rcases Sl with q1 | ⟨q1,q2⟩
     ·rw [q1];rcases q with q | q
      ·rw [q]
      ·cases q3:Hy.entryOf h.things (eY row) with
       | none=>rfl
       | some x=>show (if 16<=h.lines.length then _ else _)=_;rw [ab q]
     ·cases q3:Ks337.thing h.things (eY row) with
      | none=>rw [q2]
      | some x=>show (if 6<=h.things.length then _ else _)=_;rw [ab q1]
    rw [e];rfl)
   refine ⟨_,rfl,_,rfl,_,c.House,dx,_,_,rfl,lY,T.cH,T.cI,cS tl el,G2,wa,tl,eY row,h.things,rfl,g2.sub,g2.up _ _ hw,sH.things g2.sub,ui row,λx hx=>(W6 x hx).2.2,λv3 G3 H3 g3 GS=>?_⟩;have vM:=sH.up g3;have Ze:=g3.same _ _ lY;refine ⟨_,rfl,rfl,_,rfl,?_⟩;cases vp:Hy.entryOf h.things (eY row) with
   | none =>rw [vp] at GS;cases (show v3=.cw from GS);exact iF (iF (yz G3 H3 g3 (.inl vp)))
   | some x =>
    rw [vp] at GS;obtain ⟨xa,rfl,W7⟩:=GS;refine iT ⟨_,rfl,_,c.House,dx,_,_,rfl,Ze,T.cH,T.cI,cU tl el,el,_,rfl,.inl (bY.of vM.he),_,_,rfl,rfl,_,rfl,?_⟩;rw [af,hle];refine df (λe=>?_) (λe=>?_)
    ·have aco:h.lines.length<16:=by have:=aD e;omega
     refine ⟨_,rfl,_,c.House,dx,_,_,rfl,Ze,T.cH,T.cI,cU tl el,.inl ⟨rfl,_,bY.of vM.he⟩,_,rfl,el,_,_,rfl,rfl,vM.he,by rw [af];exact cx (by omega),?_⟩;have g4:Gr [tl,el] G H G3 (upd H3 el (.lst (bs.map V.ref++[.ref xa]))):=(iG.trans g3).any.wr (.inr (by simp)) vM.ge;refine k _ G3 _ g4 ?_;have et:Ks337.thing h.things (eY row)=none:=by
      rcases Sl with q | ⟨_,q⟩
      ·exact q
      ·rw [vp] at q;cases q
     have es:Ks337.step h row=some {h with lines:=h.lines++[x]}:=by rw [Ep,et,vp];show (if 16<=h.lines.length then _ else _)=_;rw [aa (by omega)]
     rw [es];refine ⟨rfl,as,bs++[xa],vM.gt,vM.ge,vM.ne,by rw [bR vM.ne];exact vM.ht,by rw [bN,aB];rfl,vM.pt,Paired.js vM.pe W7⟩
    ·exact yz G3 H3 g3 (.inr (by
      rcases ba h.lines.length 16 with q | q
      ·exact ai (aj (by omega)) e
      ·exact q))
  refine ⟨_,rfl,rfl,_,rfl,?_⟩;cases eQ:Ks337.thing h.things (eY row) with
  | none =>rw [eQ] at En;cases (show v2=.cw from En);exact iF (iF (ent (.inl eQ) _))
  | some x =>
   rw [eQ] at En;obtain ⟨xa,rfl,W7⟩:=En;refine iT ⟨_,rfl,_,c.House,dx,_,_,rfl,lY,T.cH,T.cI,cS tl el,tl,_,rfl,.inl (bY.of sH.ht),_,_,rfl,rfl,_,rfl,?_⟩;rw [af,c9];refine df (λe=>?_) (λe=>?_)
   ·have acu:h.things.length<6:=by have:=aD e;omega
    refine ⟨_,rfl,_,c.House,dx,_,_,rfl,lY,T.cH,T.cI,cS tl el,.inl ⟨rfl,_,bY.of sH.ht⟩,_,rfl,tl,_,_,rfl,rfl,sH.ht,by rw [af];exact cx (by omega),?_⟩;have g4:Gr [tl,el] G H G2 (upd H2 tl (.lst (as.map V.ref++[.ref xa]))):=iG.any.wr (.inr (by simp)) sH.gt;refine k _ G2 _ g4 ?_;have es:Ks337.step h row=some {h with things:=h.things++[x]}:=by rw [Ep,eQ];show (if 6<=h.things.length then _ else _)=_;rw [aa (by omega)]
    rw [es];refine ⟨rfl,as++[xa],bs,sH.gt,sH.ge,sH.ne,by rw [bN,aB];rfl,by rw [bR (λz=>sH.ne z.symm)];exact sH.he,Paired.js sH.pt W7,JX x (λl hl=>(wf.ok l hl).1) sH.pe⟩
   ·exact ent (.inr ⟨by
      rcases ba h.things.length 6 with q | q
      ·exact ai (aj (by omega)) e
      ·exact q,FL eQ⟩) _
theorem Gr.trans' {ms:List Addr}{G H G1 H1 G2 H2:Hp}(a:Gr [] G H G1 H1)(b:Gr ms G1 H1 G2 H2)(h:∀m∈ms,H m=none):Gr [] G H G2 H2 :=⟨λc o e _=>b.kp c o (a.kp c o e (by simp)) (λq=>by rw [h c q] at e;cases e),a.up.trans b.up,b.sub,λc o e=>(b.fr c o e).elim (λe1=>a.fr c o e1) λe1=>e1.elim (λe2=>.inr (.inl (a.th c e2))) λe2=>.inr (.inr e2),λc e=>a.th c (b.th c e)⟩
def gv (bs:Bytes):Except Int House:=if 1200<bs.length then .error (-22) else match Ks337.read bs with
 | .error k=>.error (-1000 - (k:Int))
 | .ok h=>if h.things=[]\/64<Ks337.states h then .error (-28) else .ok h
def QF (c:Cs)(G:Hp)(p:Addr):Except Int House->Prop
 | .error n=>∃dx,G p=some (.ins c.dm dx [("refusal",.int n),("house",.cw)])
 | .ok h=>∃dx ha,G p=some (.ins c.dm dx [("refusal",.int 0),("house",.ref ha)])/\eN c G ha h
inductive mP (c:Cs)(vs:List V)(H:Hp)(Q:VK)(E:XK):Prop | mk (G:Hp) (a:Addr) (bs:Bytes):vs=[.ref a]->bS G H->dF H a bs->(∀p G' H',Gr [] G H G' H'->QF c G' p (gv bs)->Q (.ref p) H')->mP c vs H Q E
theorem build_cons {k:Nat}{h:House}{r:Bytes}{l:List Bytes}:Ks337.build k h (r::l)=match Ks337.step h r with | none=>.error k | some g=>Ks337.build (k+1) g l:=rfl
theorem JZ (T:Tx w K mg c)(xq:Fn P w K mg base "lines_of" 1 ["text"] uX)(u5:Fn P w K mg base "take_line" 7 ["house","line"] (sG c))(n8:Fn P w K mg base "count_states" 1 ["things"] (mM c))
  (ki:Made P w K mg base "House" c.House 1 ["self","things","entries"] ["things","entries"]) (ma:Made P w K mg base "Reading" c.dm 1 ["self","refusal","house"] ["refusal","house"]) :
  Fn P w K mg base "read_text" 8 ["text"] (mP c):=by
 refine T.uM.ok mx λH Q E hr h=>?_
 ·obtain ⟨G,a,bs,rfl,hG,ha,k⟩:=h;refine ⟨_,(bP (cg (bW ql (cv cf (by rfl) T.cW PySem.boot_len (bM (pv 0) bO)) (cG T.r9) (b9 _)) (bQ (bU (ff ma hr (bM (cG T.qw) (bM cF bO))))) b5)
   (bP (cJ mx 1 (ff ki hr (bM (ck bO) (bM (ck bO) bO))))
   (bP (eA PassesOwn.never rfl (R7 (by rfl) T.fN (bM (b6 xq hr (bM (pv 0) bO)) bO)) (jC rfl (di (eO mx 2) (di (eO mx 3) ik))) (bQ (cg (yu (oP (b6 u5 hr (bM (pv 1) (bM (pv 3) bO))))) (bQ (bU (ff ma hr (bM (dj qR (cG T.nQ) (pv 2)) (bM cF bO))))) b5)))
   (bP (cg (ot (bW dk (cv cf (by rfl) T.cW PySem.boot_len (bM (bT (pv 1) rfl) bO)) b8 (b9 _)) (oQ (bW ql (b6 n8 hr (bM (bT (pv 1) rfl) bO)) (cG T.pK) (b9 _)))).pt (bQ (bU (ff ma hr (bM (cG T.w9) (bM cF bO))))) b5)
   (bQ (bU (ff ma hr (bM b8 (bM (pv 1) bO))))))))),?_⟩
  refine ⟨_,rfl,a,_,rfl,.inl (bY.of ha),_,_,rfl,rfl,_,rfl,?_⟩;rw [dq];refine df (λe=>?_) (λe=>?_)
  ·have Y6:1200<bs.length:=by have:=aD e;omega
   refine ⟨rfl,λx dx nx nd ne=>k x _ _ ((Gr.refl hG).ins nx nd ne) ?_⟩;have er:gv bs=.error (-22):=by unfold gv;rw [ab Y6]
   rw [er];exact ⟨dx,bN⟩
  ·have hle:¬1200<bs.length:=λq=>e (aj (by omega));refine ⟨hJ,λtl o8=>⟨hJ,λel dC=>⟨rfl,λhx dx nx nd ne=>?_⟩⟩⟩;have g0:=(((Gr.refl (ms:=[]) hG).cX (o:=.lst []) o8).cX (o:=.lst []) dC)
   have dP:tl≠el:=λz=>by rw [<-z,bN] at dC;cases dC
   have g1:=g0.ins (C:=c.House) (fs:=[("things",V.ref tl),("entries",V.ref el)]) nx nd ne;have Sm:H tl=none:=o8;have Sn:H el=none:=by rw [bR (λz=>dP z.symm)] at dC;exact dC
   have t1:upd (upd H tl (.lst [])) el (.lst []) tl=some (.lst []):=by rw [bR dP,bN]
   have t2:upd (upd H tl (.lst [])) el (.lst []) el=some (.lst []):=bN;have sI:=bS.ins (H:=upd (upd H tl (.lst [])) el (.lst [])) (C:=c.House) (fs:=[("things",V.ref tl),("entries",V.ref el)]) nx nd ne;have gr0:Grows c (upd (upd G dx (.own hx)) hx (.ins c.House dx [("things",V.ref tl),("entries",V.ref el)])) (upd (upd (upd (upd H tl (.lst [])) el (.lst [])) dx (.own hx)) hx (.ins c.House dx [("things",V.ref tl),("entries",V.ref el)])) tl el [] [] {}:=by
    refine ⟨?_,?_,dP,sI _ _ t1,sI _ _ t2,.nil,.nil⟩
    ·rw [bR (cb t1 nx),bR (cb t1 nd)];exact hG.free Sm
    ·rw [bR (cb t2 nx),bR (cb t2 nd)];exact hG.free Sn
   have QG:(upd (upd G dx (.own hx)) hx (.ins c.House dx [("things",V.ref tl),("entries",V.ref el)])) hx=some (.ins c.House dx (kY tl el)):=bN;refine ⟨_,rfl,_,a,bs,rfl,g1.sub,g1.same _ _ ha,by omega,λlp G2 H2 g2 xr=>?_⟩;have iG:=g1.trans g2;have sH:=gr0.up g2;have lY:=g2.up _ _ QG;obtain ⟨ras,Zf,ky⟩:=xr;have hlen:=Paired.length ky;refine ⟨lp,_,rfl,bY.of (g2.sub _ _ Zf),Qk (K:=K) (a:=lp) (xs:=ras.map V.ref) (λi σ H'=>∃(G':Hp)(as o9:List Addr)(h:House)(v3 v4:Option V),σ=[some (.ref a),some (.ref hx),v3,v4]/\Gr [] G H G' H'/\bS G2 G'/\Grows c G' H' tl el as o9 h/\Hy.fC h /\
     Ks337.read bs=Ks337.build (i+1) h ((Ks337.rowsOf bs).drop i))
    ⟨G2,[],[],{},_,_,rfl,iG,bS.refl _,sH,Hy.Ja,rfl⟩ (λi σ H' _ p=>by obtain ⟨G',_,_,_,_,_,_,g,sm,_⟩:=p;exact bY.of (g.sub _ _ (sm _ _ Zf))) ?_ ?_⟩
   ·rintro i y σ H' z hi ⟨G',as,o9,h,v3,v4,rfl,g',sm,uj,wf,hb⟩ hz;obtain ⟨ra,f6,rfl⟩:=d5 hi;obtain ⟨row,iz,aat⟩:=c5 ky f6;have ye:=(aH.mp iz).1;have uh:(Ks337.rowsOf bs).drop i=row::(Ks337.rowsOf bs).drop (i+1):=by
     rw [List.drop_eq_getElem_cons ye];rw [aI ye] at iz;rw [ao iz]
    rw [uh,build_cons] at hb;have gz:Gr [] G' H' G' (upd H' z (.tup [.int ((i:Int)+1),.ref ra])):=(Gr.refl g'.sub).cX hz;have grz:=uj.up gz;refine ⟨z,_,rfl,cA.of bN,rfl,_,_,rfl,_,_,rfl,rfl,?_⟩;refine ⟨_,rfl,_,rfl,G',hx,tl,el,ra,dx,as,o9,h,row,rfl,gz.sub,gz.sub _ _ (sm _ _ lY),grz,gz.sub _ _ (sm _ _ aat),wf,λv G3 H3 g3 hv=>?_⟩;have vN:Gr [] G H G3 H3:=(g'.trans gz).trans' g3 (λm hm=>by
     rcases ak.mp hm with e | e
     ·rw [e];exact Sm
     ·rw [aK.mp e];exact Sn)
    cases qQ:Ks337.step h row with
    | none =>
     rw [qQ] at hv hb;cases (show v=.bl false from hv);refine ⟨_,rfl,iT ⟨_,rfl,_,_,rfl,rfl,rfl,λx dx nx nd ne=>k x _ _ (vN.ins nx nd ne) ?_⟩⟩;have er:gv bs=.error (-1000 - ((i+1:Nat):Int)):=by unfold gv;rw [aa hle,hb]
     rw [er];exact ⟨dx,by rw [bN];rfl⟩
    | some h' =>rw [qQ] at hv hb;obtain ⟨rfl,Bq,aau,vM⟩:=hv;exact ⟨_,rfl,iF ⟨G3,Bq,aau,h',_,_,rfl,vN,sm.trans g3.up,vM,Hy.Mg wf qQ,hb⟩⟩
   ·rintro σ H' ⟨G',as,o9,h,v3,v4,rfl,g',sm,uj,wf,hb⟩;rw [af,hlen,List.drop_length] at hb;have Gb:Ks337.read bs=.ok h:=hb;have Zg:H' hx=some (.ins c.House dx (kY tl el)):=g'.sub _ _ (sm _ _ lY);have c9:as.length=h.things.length:=Paired.length uj.pt;have bad:∀H3,bS H' H3->(h.things=[]\/64<Ks337.states h)->∀x dx,H3 x=none->H3 dx=none->dx≠x->Q (.ref x) (upd (upd H3 dx (.own x)) x (.ins c.dm dx [("refusal",V.int (-28)),("house",V.cw)])):=λH3 s3 q x dx nx nd ne=>by
     refine k x _ _ ((g'.trans (Gr.dS g'.sub s3)).ins nx nd ne) ?_;have er:gv bs=.error (-28):=by unfold gv;rw [aa hle,Gb];show (if _ then _ else _)=_;rw [ab q]
     rw [er];exact ⟨dx,bN⟩
    refine ⟨_,rfl,_,c.House,dx,_,_,rfl,Zg,T.cH,T.cI,cS tl el,tl,_,rfl,.inl (bY.of uj.ht),rfl,_,rfl,?_⟩;rw [af,c9];refine df (λe=>?_) (λe=>?_)
    ·have h0:h.things=[]:=by
      have q:=aD e;injection q with q
      exact bt (by omega)
     exact iT ⟨rfl,bad H' (bS.refl _) (.inl h0)⟩
    ·have h0:h.things≠[]:=λq=>e (aj (by rw [q];rfl));refine ⟨_,rfl,_,c.House,dx,_,_,rfl,Zg,T.cH,T.cI,cS tl el,tl,h.things,rfl,uj.things g'.sub,λth eQ=>?_,λH3 s3=>⟨_,_,rfl,rfl,_,rfl,?_⟩⟩
     ·obtain ⟨j,hj⟩:=List.mem_iff_getElem?.mp eQ;exact (wf.ts.most j th hj).2
     ·refine df (λe2=>?_) (λe2=>?_)
      ·have MJ:64<Ks337.states h:=by rw [Hy.oA];have:=aD e2;omega
       exact ⟨rfl,bad H3 s3 (.inr MJ)⟩
      ·have MJ:¬64<Ks337.states h:=λq=>e2 (aj (by rw [Hy.oA] at q;omega));refine ⟨_,rfl,rfl,λx BQ nx nd ne=>?_⟩;have g3:=g'.trans (Gr.dS g'.sub s3);have p1:=g3.rH Sm (s3 _ _ uj.ht) uj.gt;have Zh:upd G' tl (.lst (as.map V.ref)) el=none:=by rw [bR (λq=>uj.ne q.symm)];exact uj.ge
       have p2:=p1.rH Sn (s3 _ _ uj.he) Zh;have p3:=p2.ins (C:=c.dm) (fs:=[("refusal",V.int 0),("house",V.ref hx)]) nx nd ne;refine k x _ _ p3 ?_;have er:gv bs=.ok h:=by unfold gv;rw [aa hle,Gb];show (if _ then _ else _)=_;rw [aa (λq=>q.elim h0 MJ)]
       rw [er];have u1:bS G' (upd (upd G' tl (.lst (as.map V.ref))) el (.lst (o9.map V.ref))):=(bS.new uj.gt).trans (bS.new Zh);have u2:=bS.ins (H:=upd (upd G' tl (.lst (as.map V.ref))) el (.lst (o9.map V.ref))) (C:=c.dm) (fs:=[("refusal",V.int 0),("house",V.ref hx)]) (p2.sub.free nx) (p2.sub.free nd) ne;refine ⟨BQ,hx,bN,dx,tl,el,u2 _ _ (u1 _ _ (sm _ _ lY)),⟨as,u2 _ _ ?_,Paired.imp' (λ_ _ q=>jg.up q (u1.trans u2)) uj.pt⟩,⟨o9,u2 _ _ bN,Paired.imp' (λ_ _ q=>eM.up q (u1.trans u2)) uj.pe⟩⟩;rw [bR uj.ne,bN]
end
end Hz
namespace Hz
open PySem PySem.Spec PyProof.Rows L2 TL
open Ks337 (Bytes Cond Thing Line House)
open Ks338 (State)
theorem jX (ts:List Thing):∀cd:Cond,(Hy.flat cd).length<=(Ks337.toldCond ts cd).length
 | .is _ _=>by simp [Hy.flat,Ks337.toldCond]
 | .less _ _=>by simp [Hy.flat,Ks337.toldCond]
 | .more _ _=>by simp [Hy.flat,Ks337.toldCond]
 | .not_ cd=>by have:=jX ts cd;simp [Hy.flat,Ks337.toldCond];exact this
 | .and_ a b=>by have:=jX ts a;have:=jX ts b;simp [Hy.flat,Ks337.toldCond];omega
 | .or_ a b=>by have:=jX ts a;have:=jX ts b;simp [Hy.flat,Ks337.toldCond];omega
theorem sJ:∀ws:List Bytes,ws.length<=(Ks337.joined ws).length+1
 | []=>by simp
 | [w]=>by simp
 | w::v::r=>by
  have:=sJ (v::r)
  rw [Hy.oz];simp only [ay,au] at this ⊢;omega
theorem Er {ts:List Thing}{l:Line}(h:Hy.jJ ts l):(Hy.flat (lx l)).length<=1000:=by
 have h1:=h.2;rw [Hy.iq] at h1;have h2:=sJ (Hy.dQ ts l);have h3:=jX ts (lx l);cases l with
 | rule cd t v=>simp [Hy.dQ] at h1 h2;simp only [lx] at h3 ⊢;omega
 | never cd=>simp [Hy.dQ] at h1 h2;simp only [lx] at h3 ⊢;omega
theorem MK {ts:List Thing}{l:Line}(h:Hy.jJ ts l):Hy.jH ts (lx l):=by
 cases l with
 | rule cd t v=>exact h.1.1
 | never cd=>exact h.1
def LsOk (h:House):Prop:=∀l∈h.lines,Hy.jJ h.things l
theorem LsOk.lines {h:House}(w:LsOk h):Hy.eJ h:=λl hl=>(w l hl).1
def HY (t:Nat):Line->Bool
 | .rule _ x _=>x == t
 | .never _=>false
def eD (h:House)(s:State):List V:=(List.range s.length).map λt=>optN (Ks338.decides h s t)
section
variable {P:Program}{w:World}{K:PySem.W.Frag}{mg:Str->Option Value}{base:Heap}{c:Cs}
inductive iU (c:Cs)(vs:List V)(H:Hp)(Q:VK)(E:XK):Prop | mk (el sa:Addr) (h:House) (s:State) (t:Nat):vs=[.ref el,.int (t:Int),.ref sa]->cY c h.things H el h.lines->cu H sa s->LsOk h->s.length=h.things.length->(∀H',bS H H'->Q (optN (Ks338.decides h s t)) H')->iU c vs H Q E
theorem Ot (l:Line)(t:Nat):Rq (jW l) (.int (t:Int))=true/\decide (jW l=.int (t:Int))=(HY t l):=by
 cases l with
 | rule cd x v =>
  refine ⟨rfl,?_⟩;show decide (V.int (x:Int)=V.int (t:Int))=(x == t)
  by_cases e:x=t
  ·subst e;simp
  ·have:¬V.int (x:Int)=V.int (t:Int):=λq=>e (by injection q;omega)
   rw [az this];simp [e]
 | never cd=>exact ⟨rfl,rfl⟩
theorem U5 (s:State)(t:Nat)(l:Line):Ks338.sets s t l=((HY t l) && Ks338.holds s (lx l)):=by cases l <;> rfl
theorem CI (T:Tx w K mg c)(kj:Fn P w K mg base "holds" 2 ["condition","state"] sy):Fn P w K mg base "deciding_rule" 3 ["entries","thing","state"] (iU c):=by
 refine T.mD.ok lE λH Q E hr h=>?_
 ·obtain ⟨el,sa,h,st,t,rfl,⟨as,hl,ha⟩,hs,cn,W8,k⟩:=h;refine ⟨_,(bP (eA PassesOwn.never rfl (qH (by rfl) T.fN (bM (pv 0) bO)) (jC rfl (di (eO lE 3) (di (eO lE 4) ik))) (bQ (cg (vj (bW dk (bT (pv 4) rfl) (pv 1) (b9 _)) (qD (oP (b6 kj hr (bM (bT (pv 4) rfl) (bM (pv 2) bO)))))).pt (bQ (bU (pv 3))) b5)))
   (bQ (bU cF))),?_⟩
  refine ⟨_,rfl,el,_,rfl,bY.of hl,nk (K:=K) (a:=el) (xs:=as.map V.ref) (λi σ H'=>(∃v3 v4,σ=[some (.ref el),some (.int (t:Int)),some (.ref sa),v3,v4])/\bS H H'/\∀j<i,∀l:Line,h.lines[j]?=some l->Ks338.sets st t l=false)
   ⟨⟨_,_,rfl⟩,bS.refl _,λj hj=>by omega⟩ (λi σ H' _ p=>bY.of (p.2.1 _ _ hl)) ?_ ?_⟩
  ·rintro i y σ H' z hi ⟨⟨v3,v4,rfl⟩,sm,p⟩ hz;obtain ⟨a,f6,rfl⟩:=d5 hi;obtain ⟨l,Gz,dx,wa,ca,ic,jt,c7⟩:=c5 ha f6;have Bp:=cn l (aM Gz);have s1:bS H (upd H' z (.tup [.int (i:Nat),.ref a])):=sm.trans (bS.new hz);have nxt:∀H2,bS H H2->Ks338.sets st t l=false->(∃v3 v4,[some (V.ref el),some (V.int (t:Int)),some (V.ref sa),some (V.int ((i:Nat):Int)),some (V.ref a)]=[some (.ref el),some (.int (t:Int)),some (.ref sa),v3,v4])/\bS H H2/\∀j<i+1,∀l:Line,h.lines[j]?=some l->Ks338.sets st t l=false:=λH2 s2 q=>⟨⟨_,_,rfl⟩,s2,λj hj x hx=>by
    by_cases su:j=i
    ·subst su;rw [Gz] at hx;cases hx;exact q
    ·exact p j (by omega) x hx⟩
   refine ⟨z,_,rfl,cA.of bN,rfl,_,_,rfl,_,_,rfl,rfl,?_⟩;obtain ⟨e1,e2⟩:=Ot l t;refine ⟨_,rfl,_,c.Entry,dx,_,_,rfl,s1 _ _ ic,T.ir,T.iu,uU wa ca l,_,rfl,e1,_,rfl,?_⟩;rw [e2];have eW:=U5 st t l;refine df (λe=>?_) (λe=>?_)
   ·rw [e,Bool.true_and] at eW;refine ⟨_,rfl,_,c.Entry,dx,_,_,rfl,s1 _ _ ic,T.ir,T.iu,Ee wa ca l,_,rfl,ca,sa,lx l,st,rfl,iw.up c7 s1,hs.up s1,Er Bp,λo t v hm=>by rw [W8];exact l9 _ o t v (MK Bp) hm,λH2 s2=>⟨_,rfl,?_⟩⟩;refine df (λe3=>?_) (λe3=>?_)
    ·refine ⟨_,rfl,?_⟩;have q:=k H2 (s1.trans s2);rw [Hy.NI p Gz (eW.trans e3)] at q;exact q
    ·exact nxt H2 (s1.trans s2) (by rw [eW];cases q:Ks338.holds st (lx l) with | false=>rfl | true=>exact ai q e3)
   ·have e':(HY t l)=false:=by
     cases q:(HY t l) with
     | false=>rfl
     | true=>exact ai q e
    exact iF (nxt _ s1 (by rw [eW,e',Bool.false_and]))
  ·rintro σ H' ⟨⟨v3,v4,rfl⟩,sm,p⟩;have q:=k _ sm;rw [Hy.Jc (λj l hj=>p j (by
    obtain ⟨a,e,_⟩:=Paired.lO ha hj;rw [af];exact (aH.mp e).1) l hj)] at q
   exact q
inductive pO (c:Cs)(vs:List V)(H:Hp)(Q:VK)(E:XK):Prop | mk (el sa:Addr) (h:House) (s:State):vs=[.ref el,.ref sa]->cY c h.things H el h.lines->cu H sa s->LsOk h->s.length=h.things.length->(∀H',bS H H'->Q (optN (Ks338.forbidden h s)) H')->pO c vs H Q E
theorem Ou (s:State)(l:Line):Ks338.isNever s l=(decide (jW l=.cw) && Ks338.holds s (lx l)):=by cases l <;> rfl
theorem Hq (T:Tx w K mg c)(kj:Fn P w K mg base "holds" 2 ["condition","state"] sy):Fn P w K mg base "broken_ban" 3 ["entries","state"] (pO c):=by
 refine T.rO.ok pD λH Q E hr h=>?_
 ·obtain ⟨el,sa,h,st,rfl,⟨as,hl,ha⟩,hs,cn,W8,k⟩:=h;refine ⟨_,(bP (eA PassesOwn.never rfl (qH (by rfl) T.fN (bM (pv 0) bO)) (jC rfl (di (eO pD 2) (di (eO pD 3) ik))) (bQ (cg (vj (bW gJ (bT (pv 3) rfl) cF (b9 _)) (qD (oP (b6 kj hr (bM (bT (pv 3) rfl) (bM (pv 1) bO)))))).pt (bQ (bU (pv 2))) b5)))
   (bQ (bU cF))),?_⟩
  refine ⟨_,rfl,el,_,rfl,bY.of hl,nk (K:=K) (a:=el) (xs:=as.map V.ref) (λi σ H'=>(∃v3 v4,σ=[some (.ref el),some (.ref sa),v3,v4])/\bS H H'/\∀j<i,∀l:Line,h.lines[j]?=some l->Ks338.isNever st l=false)
   ⟨⟨_,_,rfl⟩,bS.refl _,λj hj=>by omega⟩ (λi σ H' _ p=>bY.of (p.2.1 _ _ hl)) ?_ ?_⟩
  ·rintro i y σ H' z hi ⟨⟨v3,v4,rfl⟩,sm,p⟩ hz;obtain ⟨a,f6,rfl⟩:=d5 hi;obtain ⟨l,Gz,dx,wa,ca,ic,jt,c7⟩:=c5 ha f6;have Bp:=cn l (aM Gz);have s1:bS H (upd H' z (.tup [.int (i:Nat),.ref a])):=sm.trans (bS.new hz);have nxt:∀H2,bS H H2->Ks338.isNever st l=false->(∃v3 v4,[some (V.ref el),some (V.ref sa),some (V.int ((i:Nat):Int)),some (V.ref a)]=[some (.ref el),some (.ref sa),v3,v4])/\bS H H2/\∀j<i+1,∀l:Line,h.lines[j]?=some l->Ks338.isNever st l=false:=λH2 s2 q=>⟨⟨_,_,rfl⟩,s2,λj hj x hx=>by
    by_cases su:j=i
    ·subst su;rw [Gz] at hx;cases hx;exact q
    ·exact p j (by omega) x hx⟩
   refine ⟨z,_,rfl,cA.of bN,rfl,_,_,rfl,_,_,rfl,rfl,?_⟩;have eW:=Ou st l;refine ⟨_,rfl,_,c.Entry,dx,_,_,rfl,s1 _ _ ic,T.ir,T.iu,uU wa ca l,rfl,_,rfl,?_⟩;refine df (λe=>?_) (λe=>?_)
   ·rw [e,Bool.true_and] at eW;refine ⟨_,rfl,_,c.Entry,dx,_,_,rfl,s1 _ _ ic,T.ir,T.iu,Ee wa ca l,_,rfl,ca,sa,lx l,st,rfl,iw.up c7 s1,hs.up s1,Er Bp,λo t v hm=>by rw [W8];exact l9 _ o t v (MK Bp) hm,λH2 s2=>⟨_,rfl,?_⟩⟩;refine df (λe3=>?_) (λe3=>?_)
    ·refine ⟨_,rfl,?_⟩;have q:=k H2 (s1.trans s2);rw [Hy.Jd p Gz (eW.trans e3)] at q;exact q
    ·exact nxt H2 (s1.trans s2) (by rw [eW];cases q:Ks338.holds st (lx l) with | false=>rfl | true=>exact ai q e3)
   ·have e':decide (jW l=V.cw)=false:=by
     cases q:decide (jW l=V.cw) with
     | false=>rfl
     | true=>exact ai q e
    exact iF (nxt _ s1 (by rw [eW,e',Bool.false_and]))
  ·rintro σ H' ⟨⟨v3,v4,rfl⟩,sm,p⟩;have q:=k _ sm;rw [Hy.Fh (λj l hj=>p j (by
    obtain ⟨a,e,_⟩:=Paired.lO ha hj;rw [af];exact (aH.mp e).1) l hj)] at q
   exact q
inductive pP (c:Cs)(vs:List V)(H:Hp)(Q:VK)(E:XK):Prop | mk (G:Hp) (el ra sa:Addr) (h:House) (s:State):vs=[.ref el,.ref ra,.ref sa]->bS G H->cY c h.things H el h.lines->H ra=some (.lst (eD h s))->cu H sa s->s.length<=1000->(∀p G' H',Gr [] G H G' H'->cu G' p (Ks338.pass h s)->Q (.ref p) H')->pP c vs H Q E
theorem Hr (T:Tx w K mg c):Fn P w K mg base "after_pass" 1 ["entries","rules","state"] (pP c):=by
 refine T.rL.ok lr λH Q E hr h=>?_
 ·obtain ⟨G,el,ra,sa,h,st,rfl,hG,⟨as,hl,ha⟩,ky,hs,hsz,k⟩:=h;have ib:=Hy.Je h st;refine ⟨_,(bP (cJ lr 3 (ck bO))
   (bP (eA PassesOwn.never rfl (UT (by rfl) T.N5 (bM (pv 1) (bM (pv 2) bO))) (jC rfl (di (eO lr 4) (di (eO lr 5) ik))) (bQ (dy (gT PySem.F.plainAttrs_list PySem.F.slot_list_append PySem.F.type_list_append dO (pv 3) (bM (B5 (bW gJ (pv 4) cF (b9 _)) (pv 5) (bT (cQ cR (pv 0) (pv 4) (λ_ _=>rfl)) rfl)) bO)))))
   (bQ (bU (gy xO (by rfl) T.AJ JD (bM (pv 3) bO)))))),?_⟩
  refine ⟨hJ,λD hD=>?_⟩;have g0:Gr [] G H G (upd H D (.lst [])):=(Gr.refl hG).cX hD;have Es:(eD h st).length=st.length:=by unfold eD;rw [af,bo]
  refine ⟨_,rfl,_,rfl,ra,sa,_,_,rfl,bY.of (g0.same _ _ ky),cA.of (g0.same _ _ hs),Sa (K:=K) (a:=ra) (b:=sa) (xs:=eD h st) (ys:=c0 st) (by rw [dq,Es])
   (λi σ H'=>(∃v4 v5,σ=[some (.ref el),some (.ref ra),some (.ref sa),some (.ref D),v4,v5])/\Gr [] G H G H'/\H' D=some (.lst (c0 ((Ks338.pass h st).take i))))
   ⟨⟨_,_,rfl⟩,g0,bN⟩ (λi σ H' _ p=>⟨bY.of (p.2.1.same _ _ ky),cA.of (p.2.1.same _ _ hs)⟩) ?_ ?_⟩
  ·rintro i x y σ H' z hi hy ⟨⟨v4,v5,rfl⟩,g,hd⟩ hz;obtain ⟨n,hn,rfl⟩:=qL hy;have ye:=(aH.mp hn).1;obtain ⟨t,ht,rfl⟩:=qL hi;have hti:t=i:=by rw [List.getElem?_range ye] at ht;exact (ao ht).symm
   subst hti;have Ei:=Hy.Mi h st t;rw [hn] at Ei;have g1:=g.cX (o:=.tup [optN (Ks338.decides h st t),.int (n:Int)]) hz;have kZ:=(bS.new (H:=H') (o:=.tup [optN (Ks338.decides h st t),.int (n:Int)]) hz) _ _ hd;refine ⟨z,_,rfl,cA.of bN,rfl,_,_,rfl,_,_,rfl,rfl,?_⟩;refine ⟨_,rfl,.inl ⟨rfl,_,bY.of kZ⟩,_,rfl,rfl,_,rfl,?_⟩;have fz:(c0 ((Ks338.pass h st).take t)).length<sizeLine:=by rw [dq,aO];exact cx (by omega)
   have fin:∀v:Nat,Hy.yQ h st t n=v->(∃v4 v5,[some (V.ref el),some (V.ref ra),some (V.ref sa),some (V.ref D),some (optN (Ks338.decides h st t)),some (V.int (n:Int))]=[some (.ref el),some (.ref ra),some (.ref sa),some (.ref D),v4,v5])/\Gr [] G H G (upd (upd H' z (.tup [optN (Ks338.decides h st t),.int (n:Int)])) D (.lst (c0 ((Ks338.pass h st).take t)++[.int (v:Int)]))) /\
     (upd (upd H' z (.tup [optN (Ks338.decides h st t),.int (n:Int)])) D (.lst (c0 ((Ks338.pass h st).take t)++[.int (v:Int)]))) D=some (.lst (c0 ((Ks338.pass h st).take (t+1)))):=λv hv=>by
    refine ⟨⟨_,_,rfl⟩,g1.wr (.inl hD) (hG.free hD),?_⟩;rw [bN,take_snoc (x:=v) (by rw [Ei,Option.map_some,hv]),nZ];rfl
   cases QH:Ks338.decides h st t with
   | none =>rw [QH] at kZ fin;exact iT ⟨_,rfl,D,_,_,rfl,rfl,kZ,fz,fin n (by unfold Hy.yQ;rw [QH])⟩
   | some j =>obtain ⟨cd,v,Zi,_⟩:=Hy.rf QH;obtain ⟨ea,haj,dx,wa,ca,ic,_⟩:=Paired.lO ha Zi;rw [QH] at kZ fin g1;have g1s:=g1.same;refine iF ⟨_,rfl,_,rfl,el,_,_,_,rfl,rfl,bY.of (g1s _ _ hl),cD (j:=j) (v:=.ref ea) (by rw [aS,haj];rfl),_,c.Entry,dx,_,_,rfl,g1s _ _ ic,T.ir,T.iu,Lk wa ca _,D,_,_,rfl,rfl,kZ,fz,?_⟩;exact fin v (by unfold Hy.yQ;rw [QH];show Ks338.valueOf h j=v;unfold Ks338.valueOf;rw [Zi];rfl)
  ·rintro σ H' ⟨⟨v4,v5,rfl⟩,g,hd⟩;rw [Es,<-ib,aZ] at hd;refine ⟨_,rfl,D,_,rfl,.inl ⟨bY.of hd,λp hp=>k p _ _ (g.new hp) bN⟩⟩
def kS (s:State):List Key:=s.map λ(n:Nat)=>Sum.inl (n:Int)
theorem sL (s:State):List.map kV (kS s)=c0 s:=by unfold kS c0;rw [bf];rfl
theorem Et {a b:State}(h:kS a=kS b):a=b:=by
 have e:=congrArg (List.map kV) h;rw [sL,sL] at e;have inj:∀(a b:State),c0 a=c0 b->a=b:=by
  intro a
  induction a with
  | nil=>intro b e;cases b with | nil=>rfl | cons=>cases e
  | cons x l ih =>
   intro b e;cases b with
   | nil=>cases e
   | cons y m =>
    have e1:V.int (x:Int)=V.int (y:Int):=(List.cons.inj e).1;have e2:=ih m (List.cons.inj e).2;injection e1 with e1
    rw [e2,show x=y by omega]
 exact inj a b e
theorem cu.key {H:Hp}{a:Addr}{s:State}(h:cu H a s):H a=some (.tup (List.map kV (kS s))):=by rw [sL];exact h
theorem zV {α β:Type}(f:α->β):∀{l:List α},(l.map f).Nodup->l.Nodup
 | [],_=>List.nodup_nil
 | a::l,h=>by rw [aw,List.nodup_cons] at h;exact List.nodup_cons.mpr ⟨λq=>h.1 (aQ.mpr ⟨a,q,rfl⟩),zV f h.2⟩
structure Memo (ts:List Thing)(R:V->State->Prop)(kvs:List (List Key×V)):Prop where
 nd:(kvs.map (·.1)).Nodup
 ok:∀p∈kvs,∃s,p.1=kS s/\Hy.Ok ts s/\R p.2 s
theorem Memo.imp {ts:List Thing}{R R':V->State->Prop}{kvs:List (List Key×V)}(m:Memo ts R kvs)(h:∀v s,R v s->R' v s):Memo ts R' kvs:=⟨m.nd,λp hp=>let ⟨s,a,b,d⟩:=m.ok p hp;⟨s,a,b,h _ _ d⟩⟩
theorem So {kvs:List (List Key×V)}{k:List Key}{v:V}(h:dU kvs k=some v):(k,v)∈kvs:=by
 induction kvs with
 | nil=>cases h
 | cons p r ih =>
  by_cases e:p.1=k
  ·rw [eR e] at h;cases h;rw [<-e];exact aE ..
  ·rw [eF e] at h;exact aA _ (ih h)
theorem Memo.get {ts:List Thing}{R:V->State->Prop}{kvs:List (List Key×V)}{s:State}{v:V}(m:Memo ts R kvs)(h:dU kvs (kS s)=some v):R v s:=by obtain ⟨s',e,_,r⟩:=m.ok _ (So h);rw [Et e];exact r
theorem Memo.put {ts:List Thing}{R:V->State->Prop}{kvs:List (List Key×V)}{s:State}{v:V}(m:Memo ts R kvs)(h:dU kvs (kS s)=none)(o:Hy.Ok ts s)(r:R v s):putK kvs (kS s) v=kvs++[(kS s,v)]/\Memo ts R (kvs++[(kS s,v)]):=by
 refine ⟨qW v h,?_,λp hp=>?_⟩
 ·rw [aB];exact L6 m.nd (RM h)
 ·rcases aY.mp hp with q | q
  ·exact m.ok p q
  ·rw [aK.mp q];exact ⟨s,rfl,o,r⟩
theorem Memo.aav {ts:List Thing}{R:V->State->Prop}{kvs:List (List Key×V)}{s:State}{v:V}(m:Memo ts R kvs)(o:Hy.Ok ts s)(r:R v s):Memo ts R (putK kvs (kS s) v):=by
 cases h:dU kvs (kS s) with
 | none=>have q:=m.put h o r;rw [q.1];exact q.2
 | some w =>
  have e:putK kvs (kS s) v=kvs.map λkv=>if kv.1=kS s then (kv.1,v) else kv:=by unfold putK;rw [ab (by rw [iL,h];rfl)]
  rw [e];refine ⟨?_,λp hp=>?_⟩
  ·have e2:((kvs.map λkv=>if kv.1=kS s then (kv.1,v) else kv).map (·.1))=kvs.map (·.1):=by
    rw [bf];refine List.map_congr_left λkv _=>?_;show (if kv.1=kS s then (kv.1,v) else kv).1=kv.1
    split <;> rfl
   rw [e2];exact m.nd
  ·obtain ⟨q,hq,rfl⟩:=aQ.mp hp
   by_cases z:q.1=kS s
   ·rw [ab z];exact ⟨s,z,o,r⟩
   ·rw [aa z];exact m.ok q hq
theorem cu.Eu {H:Hp}{a b:Addr}{s:State}{k:List (List Key×V)}(h:cu H a s)(e:H b=some (.dT k)):a≠b:=tQ h e (λz=>nomatch z)
theorem Memo.states {ts:List Thing}{R:V->State->Prop}:∀{kvs:List (List Key×V)},Memo ts R kvs->∃l:List State,kvs.map (·.1)=l.map kS/\(∀s∈l,Hy.Ok ts s)
 | [],_=>⟨[],rfl,λs hs=>by simp at hs⟩
 | p::r,m=>by obtain ⟨s,e,o,_⟩:=m.ok p (aE ..);obtain ⟨l,e2,h2⟩:=Memo.states (kvs:=r) ⟨(List.nodup_cons.mp m.nd).2,λq hq=>m.ok q (aA _ hq)⟩;exact ⟨s::l,by rw [aw,aw,e,e2],λx hx=>by rcases ak.mp hx with z | z;rw [z];exact o;exact h2 x z⟩
theorem Memo.da {ts:List Thing}{R:V->State->Prop}{kvs:List (List Key×V)}(m:Memo ts R kvs)(hs:Hy.prod ts<=64):kvs.length<=64:=by
 obtain ⟨l,e,o⟩:=m.states;have hl:kvs.length=l.length:=by have:=congrArg List.length e;rwa [af,af] at this
 rw [hl];refine Hy.mr hs ?_ o;have nd:=m.nd;rw [e] at nd;exact zV kS nd
def QI (h:House)(G:Hp):V->State->Prop:=λv s=>∃l,v=.ref l/\G l=some (.lst (eD h s))
def Yh (h:House)(G:Hp):V->State->Prop:=λv s=>∃a,v=.ref a/\cu G a (Ks338.pass h s)
structure c8 (c:Cs)(h:House)(G H:Hp)(p d1 d2 el:Addr):Prop where
 ins:∃dx,G p=some (.ins c.Passes dx [("entries",.ref el),("deciding",.ref d1),("following",.ref d2)])
 ent:cY c h.things G el h.lines
 g1:G d1=none
 g2:G d2=none
 ne:d1≠d2
 m1:∃k1,H d1=some (.dT k1)/\Memo h.things (QI h G) k1
 m2:∃k2,H d2=some (.dT k2)/\Memo h.things (Yh h G) k2
 ok:LsOk h
 da:Hy.prod h.things<=64
theorem c8.up {c:Cs}{h:House}{G H G' H':Hp}{p d1 d2 el:Addr}(m:c8 c h G H p d1 d2 el)(u:Gr [] G H G' H'):c8 c h G' H' p d1 d2 el:=by
 obtain ⟨k1,e1,n1⟩:=m.m1;obtain ⟨k2,e2,n2⟩:=m.m2;obtain ⟨dx,hi⟩:=m.ins;exact ⟨⟨dx,u.up _ _ hi⟩,m.ent.up u.up,u.out m.g1 (by rw [e1];simp) (λxs=>by rw [u.same _ _ e1];simp),u.out m.g2 (by rw [e2];simp) (λxs=>by rw [u.same _ _ e2];simp),m.ne,
  ⟨k1,u.same _ _ e1,n1.imp λv s ⟨l,a,b⟩=>⟨l,a,u.up _ _ b⟩⟩,⟨k2,u.same _ _ e2,n2.imp λv s ⟨l,a,b⟩=>⟨l,a,u.up _ _ b⟩⟩,m.ok,m.da⟩
theorem ML (el d1 d2:Addr):([("entries",V.ref el),("deciding",V.ref d1),("following",V.ref d2)]:List (Str×V)).lookup ("entries":Str)=some (.ref el):=by rfl
theorem AQ (el d1 d2:Addr):([("entries",V.ref el),("deciding",V.ref d1),("following",V.ref d2)]:List (Str×V)).lookup ("deciding":Str)=some (.ref d1):=by rfl
theorem AR (el d1 d2:Addr):([("entries",V.ref el),("deciding",V.ref d1),("following",V.ref d2)]:List (Str×V)).lookup ("following":Str)=some (.ref d2):=by rfl
theorem MM (el d1 d2:Addr):([("entries",V.ref el),("deciding",V.ref d1),("following",V.ref d2)]:List (Str×V)).lookup ("rules_in":Str)=none:=by rfl
theorem U6 (el d1 d2:Addr):([("entries",V.ref el),("deciding",V.ref d1),("following",V.ref d2)]:List (Str×V)).lookup ("after":Str)=none:=by rfl
theorem U7 {X:Cx}{e:Expr}{ta:TE}{f:Str}{pos:Pos}(hK:X.K=K)(he:PE X e ta)(hb:attributeBase e f X.env (eval e X.env)=eval e X.env):PE X (.Attribute e f pos) (Iq K ta f):=by rw [<-hK];exact bT he hb
inductive oF (c:Cs)(vs:List V)(H:Hp)(Q:VK)(E:XK):Prop | mk (G:Hp) (p d1 d2 el sa:Addr) (h:House) (s:State):vs=[.ref p,.ref sa]->bS G H->c8 c h G H p d1 d2 el->cu H sa s->Hy.Ok h.things s->h.things.length<=1000->(∀l G' H',Gr [d1,d2] G H G' H'->c8 c h G' H' p d1 d2 el->G' l=some (.lst (eD h s))->Q (.ref l) H')->oF c vs H Q E
theorem Lv (T:Tx w K mg c)(f9:Fn P w K mg base "deciding_rule" 3 ["entries","thing","state"] (iU c)):Mt P w K mg base c.Passes "rules_in" 4 ["self","state"] (oF c):=by
 refine T.kE.ok jL λH Q E hr h=>?_
 ·obtain ⟨G,p,d1,d2,el,sa,h,st,rfl,hG,ps,hs,cn,hsz,k⟩:=h;obtain ⟨dx,hi⟩:=ps.ins;obtain ⟨k1,e1,n1⟩:=ps.m1;have hlen:=cn.len;refine ⟨_,(bP (cg (C9 (tU (jo hr) (pv 1) (bT (pv 0) rfl))) (bQ (qG (jo hr) (bT (pv 0) rfl) (pv 1) (qt (own:=[("thing",2)]) rfl (jL).nd (F2 (by rfl) T.AK (bM (cv cf (by rfl) T.cW PySem.boot_len (bM (pv 1) bO)) bO)) (iK (by rfl)) (λ_ _ _ _ _=>eO jL 2) (λ_ _ _ _ _=>j7) (λ_ _ _ _ _=>(b6 f9 hr (bM (U7 (K:=K) (by rfl) (pv 0) (by rfl)) (bM (pv 2) (bM (pv 1) bO)))))) rfl)) b5)
   (bQ (bU (E7 (jo hr) (bT (pv 0) rfl) (pv 1) (λ_ _=>rfl))))),?_⟩
  refine ⟨_,rfl,_,rfl,_,c.Passes,dx,_,_,rfl,hG _ _ hi,T.fH,T.fJ,AQ el d1 d2,d1,_,rfl,kz.t e1 hs.key,_,rfl,?_⟩;cases hv:dU k1 (kS st) with
  | some v =>obtain ⟨l,rfl,hl⟩:=n1.get hv;refine iF ⟨_,rfl,_,c.Passes,dx,_,_,rfl,hG _ _ hi,T.fH,T.fJ,AQ el d1 d2,_,rfl,d1,_,rfl,by have q:=kz.t e1 hs.key;rw [hv] at q;exact q,?_⟩;exact k l G H (Gr.refl hG) ps hl
  | none =>
   refine iT ⟨_,rfl,sa,_,rfl,.inr (cA.of hs),_,rfl,by omega,by rw [dq];omega,λD hD=>?_⟩;have hn:(((c0 st).length:Nat):Int).toNat=st.length:=by rw [dq];rfl
   have Es:(eD h st).length=st.length:=by unfold eD;rw [af,bo]
   refine Ry (n:=(((c0 st).length:Nat):Int).toNat) (λi H'=>Gr [] G H G H'/\H' D=some (.lst ((eD h st).take i))) ⟨(Gr.refl hG).cX hD,bN⟩ ?_ ?_
   ·rintro i H' PD ⟨g,hd⟩;rw [hn] at PD;refine ⟨rfl,iT ⟨_,rfl,_,c.Passes,dx,_,_,rfl,g.sub _ _ hi,T.fH,T.fJ,ML el d1 d2,_,rfl,_,rfl,el,sa,h,st,i,by rw [Int.zero_add];rfl,(ps.ent.up hG).up g.same,hs.up g.same,ps.ok,hlen,λH2 s2=>⟨_,s2 _ _ hd,?_,?_,?_⟩⟩⟩
    ·rw [aO]
     have:(eD h st).length=st.length:=by unfold eD;rw [af,bo]
     exact cx (by omega)
    ·exact (g.trans (Gr.dS g.sub s2)).wr (.inl hD) (hG.free hD)
    ·rw [bN,take_snoc (x:=optN (Ks338.decides h st i))];unfold eD;rw [aS,List.getElem?_range PD];rfl
   ·rintro H' ⟨g,hd⟩;rw [hn,<-Es,aZ] at hd;have g2:=g.rH hD hd (hG.free hD);have gm:Gr [d1,d2] G H (upd G D (.lst (eD h st))) H':=g2.any;have aaw:d1≠D:=λz=>by rw [z,hD] at e1;cases e1
    obtain ⟨k2,e2,n2⟩:=ps.m2;have aax:d2≠D:=λz=>by rw [z,hD] at e2;cases e2
    have up:=bS.new (H:=G) (o:=.lst (eD h st)) (hG.free hD);obtain ⟨Sq,Ov⟩:=(n1.imp (R':=QI h (upd G D (.lst (eD h st)))) λv s ⟨l,a,b⟩=>⟨l,a,up _ _ b⟩).put (v:=.ref D) hv cn ⟨D,rfl,bN⟩;have e1':H' d1=some (.dT k1):=g.same _ _ e1;refine ⟨_,rfl,_,c.Passes,dx,_,_,rfl,g.sub _ _ hi,T.fH,T.fJ,AQ el d1 d2,_,rfl,d1,_,rfl,pz.t e1' (hs.up g.same).key (cx (aN (n1.da ps.da) (by decide))),?_⟩;rw [Sq];have Zj:upd G D (.lst (eD h st)) d1=none:=by rw [bR aaw];exact ps.g1
    have g3:Gr [d1,d2] G H (upd G D (.lst (eD h st))) (upd H' d1 (.dT (k1++[(kS st,.ref D)]))):=gm.wr (.inr (by simp)) Zj;have fW:cu (upd H' d1 (.dT (k1++[(kS st,.ref D)]))) sa st:=by unfold cu;rw [bR (hs.Eu e1)];exact hs.up g.same
    have JO:dU (k1++[(kS st,V.ref D)]) (kS st)=some (.ref D):=by rw [yF _ _ _ _ hv,ab rfl]
    refine ⟨_,rfl,_,c.Passes,dx,_,_,rfl,g3.sub _ _ (up _ _ hi),T.fH,T.fJ,AQ el d1 d2,_,rfl,d1,_,rfl,by have q:=kz.t (H:=upd H' d1 (.dT (k1++[(kS st,.ref D)]))) bN fW.key;rw [JO] at q;exact q,?_⟩;refine k D _ _ g3 ⟨⟨dx,up _ _ hi⟩,ps.ent.up up,Zj,by rw [bR aax];exact ps.g2,ps.ne,⟨_,bN,Ov⟩,⟨k2,by rw [bR (λz=>ps.ne z.symm)];exact g.same _ _ e2,n2.imp λv s ⟨l,a,b⟩=>⟨l,a,up _ _ b⟩⟩,ps.ok,ps.da⟩ bN
inductive CJ (c:Cs)(vs:List V)(H:Hp)(Q:VK)(E:XK):Prop | mk (G:Hp) (p d1 d2 el sa:Addr) (h:House) (s:State):vs=[.ref p,.ref sa]->bS G H->c8 c h G H p d1 d2 el->cu H sa s->Hy.Ok h.things s->h.things.length<=1000->(∀a G' H',Gr [d1,d2] G H G' H'->c8 c h G' H' p d1 d2 el->cu G' a (Ks338.pass h s)->Q (.ref a) H')->CJ c vs H Q E
theorem Sr (T:Tx w K mg c)(fw:i7 K c.Passes/\Mt P w K mg base c.Passes "rules_in" 4 ["self","state"] (oF c))(sM:Fn P w K mg base "after_pass" 1 ["entries","rules","state"] (pP c)):Mt P w K mg base c.Passes "after" 5 ["self","state"] (CJ c):=by
 refine T.nA.ok D1 λH Q E hr h=>?_
 ·obtain ⟨G,p,d1,d2,el,sa,h,st,rfl,hG,ps,hs,cn,hsz,k⟩:=h;obtain ⟨dx,hi⟩:=ps.ins;obtain ⟨k2,e2,n2⟩:=ps.m2;have hlen:=cn.len;refine ⟨_,(bP (cg (C9 (tU (jo hr) (pv 1) (bT (pv 0) rfl))) (bQ (qG (jo hr) (bT (pv 0) rfl) (pv 1) (b6 sM hr (bM (bT (pv 0) rfl) (bM (N2 (pv 0) fw hr (bM (pv 1) bO)) (bM (pv 1) bO)))) rfl)) b5)
   (bQ (bU (E7 (jo hr) (bT (pv 0) rfl) (pv 1) (λ_ _=>rfl))))),?_⟩
  refine ⟨_,rfl,_,rfl,_,c.Passes,dx,_,_,rfl,hG _ _ hi,T.fH,T.fJ,AR el d1 d2,d2,_,rfl,kz.t e2 hs.key,_,rfl,?_⟩;cases hv:dU k2 (kS st) with
  | some v =>obtain ⟨l,rfl,hl⟩:=n2.get hv;refine iF ⟨_,rfl,_,c.Passes,dx,_,_,rfl,hG _ _ hi,T.fH,T.fJ,AR el d1 d2,_,rfl,d2,_,rfl,by have q:=kz.t e2 hs.key;rw [hv] at q;exact q,?_⟩;exact k l G H (Gr.refl hG) ps hl
  | none =>
   refine iT ⟨_,rfl,_,c.Passes,dx,_,_,rfl,hG _ _ hi,T.fH,T.fJ,ML el d1 d2,_,rfl,p,dx,_,rfl,hG _ _ hi,MM el d1 d2,_,rfl,G,p,d1,d2,el,sa,h,st,rfl,hG,ps,hs,cn,hsz,λl G1 H1 g1 zW hl=>?_⟩;have W9:∀b,b∈[d1,d2]->sa≠b:=λb hb z=>by
    rcases ak.mp hb with q | q
    ·obtain ⟨k1,e1,_⟩:=ps.m1;exact hs.Eu e1 (z.trans q)
    ·exact hs.Eu e2 (z.trans (aK.mp q))
   have fc:cu H1 sa st:=g1.kp _ _ hs (λq=>W9 sa q rfl);refine ⟨_,rfl,G1,el,l,sa,h,st,rfl,g1.sub,zW.ent.up g1.sub,g1.sub _ _ hl,fc,by omega,λa G2 H2 g2 ha=>?_⟩;have mQ:=zW.up g2;obtain ⟨BQ,ye⟩:=mQ.ins;have qX:BQ=dx:=by have q:=g2.up _ _ (g1.up _ _ hi);rw [ye] at q;cases q;rfl
   subst qX;obtain ⟨k2',e2',n2'⟩:=mQ.m2;have fP:cu H2 sa st:=g2.same _ _ fc;have iG:Gr [d1,d2] G H G2 H2:=g1.trans g2.any;have Ov:=n2'.aav (v:=.ref a) cn ⟨a,rfl,ha⟩;refine ⟨_,rfl,_,c.Passes,BQ,_,_,rfl,g2.sub _ _ ye,T.fH,T.fJ,AR el d1 d2,_,rfl,d2,_,rfl,pz.t e2' fP.key (cx (aN (n2'.da ps.da) (by decide))),?_⟩;have g3:Gr [d1,d2] G H G2 (upd H2 d2 (.dT (putK k2' (kS st) (.ref a)))):=iG.wr (.inr (by simp)) mQ.g2;have fW:cu (upd H2 d2 (.dT (putK k2' (kS st) (.ref a)))) sa st:=by unfold cu;rw [bR (W9 d2 (by simp))];exact fP
   have JO:dU (putK k2' (kS st) (V.ref a)) (kS st)=some (.ref a):=by rw [Rz,ab rfl]
   refine ⟨_,rfl,_,c.Passes,BQ,_,_,rfl,g3.sub _ _ ye,T.fH,T.fJ,AR el d1 d2,_,rfl,d2,_,rfl,by have q:=kz.t (H:=upd H2 d2 (.dT (putK k2' (kS st) (.ref a)))) bN fW.key;rw [JO] at q;exact q,?_⟩;obtain ⟨k1,e1,n1⟩:=mQ.m1;exact k a _ _ g3 ⟨⟨BQ,ye⟩,mQ.ent,mQ.g1,mQ.g2,mQ.ne,⟨k1,by rw [bR mQ.ne];exact e1,n1⟩,⟨_,bN,Ov⟩,mQ.ok,mQ.da⟩ ha
end
end Hz
namespace Hz
open PySem PySem.Spec PyProof.Rows L2 TL
open Ks337 (Bytes Cond Thing Line House)
open Ks338 (State)
open Ks339 (Spot)
abbrev Ev:=Ks339.Event
theorem c8.mono {c:Cs}{h:House}{G H G' H':Hp}{p d1 d2 el:Addr}(m:c8 c h G H p d1 d2 el)(up:bS G G')(h1:G' d1=none)(h2:G' d2=none)(q1:H' d1=H d1)(q2:H' d2=H d2):c8 c h G' H' p d1 d2 el:=by obtain ⟨k1,e1,n1⟩:=m.m1;obtain ⟨k2,e2,n2⟩:=m.m2;obtain ⟨dx,hi⟩:=m.ins;exact ⟨⟨dx,up _ _ hi⟩,m.ent.up up,h1,h2,m.ne,⟨k1,q1.trans e1,n1.imp λv s ⟨l,a,b⟩=>⟨l,a,up _ _ b⟩⟩,⟨k2,q2.trans e2,n2.imp λv s ⟨l,a,b⟩=>⟨l,a,up _ _ b⟩⟩,m.ok,m.da⟩
theorem c8.Ew {c:Cs}{h:House}{G H:Hp}{p d1 d2 el:Addr}(m:c8 c h G H p d1 d2 el):(∃k,H d1=some (.dT k))/\∃k,H d2=some (.dT k):=by obtain ⟨k1,e1,_⟩:=m.m1;obtain ⟨k2,e2,_⟩:=m.m2;exact ⟨⟨k1,e1⟩,⟨k2,e2⟩⟩
theorem c8.wr {c:Cs}{h:House}{G H:Hp}{p d1 d2 el D:Addr}{o:HO}(m:c8 c h G H p d1 d2 el)(n1:d1≠D)(n2:d2≠D):c8 c h G (upd H D o) p d1 d2 el:=m.mono (bS.refl _) m.g1 m.g2 (bR n1) (bR n2)
theorem c8.Cp {c:Cs}{h:House}{G H:Hp}{p d1 d2 el:Addr}(m:c8 c h G H p d1 d2 el)(w:bS G H):c8 c h (nu G H) H p d1 d2 el:=by obtain ⟨⟨k1,e1⟩,k2,e2⟩:=m.Ew;exact m.mono (MA w) (zu m.g1 λxs=>by rw [e1];simp) (zu m.g2 λxs=>by rw [e2];simp) rfl rfl
theorem c8.rH {c:Cs}{h:House}{G H:Hp}{p d1 d2 el D:Addr}{o:HO}(m:c8 c h G H p d1 d2 el)(hG:G D=none)(n1:d1≠D)(n2:d2≠D):c8 c h (upd G D o) H p d1 d2 el :=m.mono (bS.new hG) (by rw [bR n1];exact m.g1) (by rw [bR n2];exact m.g2) rfl rfl
theorem k5 (v:V)(s:State):∀l:List State,dU (l.map λx=>(kS x,v)) (kS s)=if s∈l then some v else none
 | []=>by simp [IF]
 | x::l=>by
  have ih:=k5 v s l;rw [aw]
  by_cases e:x=s
  ·subst e;rw [eR rfl,ab (aE ..)]
  ·rw [eF (λq=>e (Et q)),ih]
   by_cases h:s∈l
   ·rw [ab h,ab (aA _ h)]
   ·rw [aa h,aa (λq=>by rcases ak.mp q with z | z;exact e z.symm;exact h z)]
theorem pQ {H G:Hp}{v:V}(hT:∀q xs,H q=some (.tup xs)->G q=some (.tup xs)):∀{l:List State}{qs:List Addr},Paired (λ(p:List Key×V)(q:Addr)=>H q=some (.tup (List.map kV p.1))) (l.map λx=>(kS x,v)) qs->Paired (cu G) qs l
 | [],_,h=>by rw [List.map_nil] at h;cases h;exact .nil
 | x::l,_,h=>by
  rw [aw] at h;cases h with
  | @cons a b as bs r t =>refine .cons ?_ (pQ hT t);show G b=some (.tup (c0 x));rw [<-sL];exact hT _ _ r
def QJ (G:Hp)(v:V):Option (List State)->Prop
 | none=>v=.cw
 | some l=>∃(a:Addr)(as:List Addr),v=.ref a/\G a=some (.lst (as.map V.ref))/\Paired (cu G) as l
section
variable {P:Program}{w:World}{K:PySem.W.Frag}{mg:Str->Option Value}{base:Heap}{c:Cs}
inductive CK (c:Cs)(vs:List V)(H:Hp)(Q:VK)(E:XK):Prop | mk (p dx el:Addr):vs=[.ref p,.ref el]->H p=some (.ins c.Passes dx [])->(∀d1 d2,H d1=none->H d2=none->d1≠d2->Q .cw (upd (upd (upd H d1 (.dT [])) d2 (.dT [])) p (.ins c.Passes dx [("entries",.ref el),("deciding",.ref d1),("following",.ref d2)])))->CK c vs H Q E
def xt (P:Program)(w:World)(K:PySem.W.Frag)(mg:Str->Option Value)(base:Heap)(c:Cs):Prop:=∃fI fd,Mk K c.Passes fI/\jD P w K mg base qZ 1 fI fd ["self","entries"] (CK c)/\Binds K fd ["self","entries"] []/\mg "Passes"=some (.ref c.Passes)
theorem Lw (T:Tx w K mg c):xt P w K mg base c:=by
 obtain ⟨f,fd,F,hm,hb⟩:=T.kD.zt (P:=P) (w:=w) (mg:=mg) (base:=base) (k:=0) (sp:=CK c) zj (λvs H Q E h=>by obtain ⟨p,dx,el,rfl,_⟩:=h;rfl) (λf du A outer s H vs Q E hr h=>by
  obtain ⟨p,dx,el,rfl,hp,k⟩:=h;refine ⟨_,(bP (cK (pv 0) (pv 1) rfl)
   (bP (cK (pv 0) wo rfl)
   (bQ (cK (pv 0) wo rfl)))),?_⟩
  refine ⟨_,rfl,_,rfl,_,c.Passes,dx,_,rfl,hp,T.fH,T.fJ,by decide,λd1 h1=>?_⟩;have p1:p≠d1:=λz=>by rw [<-z,bN] at h1;cases h1
  refine ⟨_,rfl,_,c.Passes,dx,_,rfl,by rw [bR p1,bN],T.fH,T.fJ,aC (dW (ag 0)) (by decide),λd2 h2=>?_⟩;have p2:p≠d2:=λz=>by rw [<-z,bN] at h2;cases h2
  have kU:d1≠d2:=λz=>by rw [<-z,bR (λq=>p1 q.symm),bN] at h2;cases h2
  refine ⟨_,rfl,_,c.Passes,dx,_,rfl,by rw [bR p2,bN],T.fH,T.fJ,aC (dW (dW (ag 0))) (by decide),?_⟩;have q:=k d1 d2 (by rw [bR (λz=>p1 z.symm)] at h1;exact h1) (by rw [bR (λz=>p2 z.symm),bR (λz=>kU z.symm),bR (λz=>p2 z.symm)] at h2;exact h2) kU;refine Eq.mp (congrArg (Q V.cw) ?_) q
  funext b
  by_cases e1:b=p
  ·subst e1;rw [bN,bN];rfl
  ·rw [bR e1,bR e1]
   by_cases e2:b=d2
   ·subst e2;rw [bN,bN]
   ·rw [bR e2,bR e2,bR e1]
    by_cases e3:b=d1
    ·subst e3;rw [bN,bN]
    ·rw [bR e3,bR e3,bR e1])
 exact ⟨f,fd,⟨T.iR.zr,hm.at_,hm.fn,T.iR.kp⟩,F,hb,T.iR.mg⟩
def AS (c:Cs)(H:Hp)(p dx d1 d2 el:Addr):Hp:=upd (upd (upd (upd H dx (.own p)) d1 (.dT [])) d2 (.dT [])) p (.ins c.Passes dx [("entries",.ref el),("deciding",.ref d1),("following",.ref d2)])
def Yi (c:Cs)(t:TA):TE:=λσ H Q=>t σ H λvs H1=>∃el,vs=[.ref el]/\∀p dx d1 d2:Addr,H1 p=none->H1 dx=none->dx≠p->H1 d1=none->H1 d2=none->d1≠d2->d1≠p->d2≠p->d1≠dx->d2≠dx->Q (.ref p) (AS c H1 p dx d1 d2 el)
theorem zX {X:Cx}{j:Nat}{p pos:Pos}{e:Expr}{es:List Expr}{t:TA}(M:xt X.prog X.w X.K X.mg X.base c)(hr:eE j X.A)(ha:PA X (e::es) t)(hk:2<=j:=by decide)(hg:Gl X "Passes":=by rfl)
  (he:starEach (e::es) X.env=(false,eval e X.env)::starEach es X.env:=by rfl) (ib:(backTo pos (starEach es X.env)).any (·.1)=false:=by rfl):PE X (.Call (.Name "Passes" p) (e::es) [] pos) (Yi c t):=by
 obtain ⟨fI,fd,M,F,hb,hm⟩:=M;intro pins s σ H Q I h;refine wpAny_Call_Name_kw (vi I hg hm ?_ (by decide));refine PySem.W.callWith_K (h₀:=X.base) I.ok.mod.LN M.kp (cT (ha pos pins s σ H _ I h) λus s1 ⟨vs,H1,I1,r,el,hv,q⟩=>⟨I1.mX,?_⟩) he ib;subst hv;refine B8 (E:=E0) M F (hr.mono hk) hb .nil Ds I1 r λx dx nx nd ne=>⟨x,dx,el,rfl,bN,λd1 d2 h1 h2 kU=>⟨rfl,?_⟩⟩
 have x1:d1≠x:=λz=>by rw [z,bN] at h1;cases h1
 have x2:d2≠x:=λz=>by rw [z,bN] at h2;cases h2
 have y1:d1≠dx:=λz=>by rw [z,bR ne,bN] at h1;cases h1
 have y2:d2≠dx:=λz=>by rw [z,bR ne,bN] at h2;cases h2
 have qq:=q x dx d1 d2 nx nd ne (by rw [bR x1,bR y1] at h1;exact h1) (by rw [bR x2,bR y2] at h2;exact h2) kU x1 x2 y1 y2;refine Eq.mp (congrArg (Q (V.ref x)) ?_) qq
 funext b
 unfold AS
 by_cases e1:b=x
 ·subst e1;rw [bN,bN]
 ·rw [bR e1,bR e1]
  by_cases e2:b=d2
  ·subst e2;rw [bN,bN]
  ·rw [bR e2,bR e2]
   by_cases e3:b=d1
   ·subst e3;rw [bN,bN]
   ·rw [bR e3,bR e3,bR e1]
theorem sN {h:House}{G H:Hp}{p dx d1 d2 el:Addr}(hG:bS G H)(hE:cY c h.things G el h.lines)(ok:LsOk h)(da:Hy.prod h.things<=64)(np:H p=none)(nd:H dx=none)(ne:dx≠p)(n1:H d1=none)(n2:H d2=none)(kU:d1≠d2)(x1:d1≠p)(x2:d2≠p)(y1:d1≠dx)(y2:d2≠dx) :
  ∃G',Gr [] G H G' (AS c H p dx d1 d2 el)/\c8 c h G' (AS c H p dx d1 d2 el) p d1 d2 el:=by
 have a0:Gr [] G H (upd G dx (.own p)) (upd H dx (.own p)):=(Gr.refl hG).new nd;have a1:=a0.cX (p:=d1) (o:=.dT []) (by rw [bR y1];exact n1);have a2:=a1.cX (p:=d2) (o:=.dT []) (by rw [bR (λz=>kU z.symm),bR y2];exact n2);have a3:=a2.new (p:=p) (o:=.ins c.Passes dx [("entries",.ref el),("deciding",.ref d1),("following",.ref d2)]) (by rw [bR (λz=>x2 z.symm),bR (λz=>x1 z.symm),bR (λz=>ne z.symm)];exact np);refine ⟨_,a3,⟨dx,bN⟩,hE.up a3.up,?_,?_,kU,⟨[],?_,?_⟩,⟨[],?_,?_⟩,ok,da⟩
 ·rw [bR x1,bR y1];exact hG.free n1
 ·rw [bR x2,bR y2];exact hG.free n2
 ·unfold AS;rw [bR x1,bR kU,bN]
 ·exact ⟨List.nodup_nil,λq hq=>by simp at hq⟩
 ·unfold AS;rw [bR x2,bN]
 ·exact ⟨List.nodup_nil,λq hq=>by simp at hq⟩
inductive n9 (c:Cs)(vs:List V)(H:Hp)(Q:VK)(E:XK):Prop | mk (G:Hp) (p d1 d2 el sa:Addr) (h:House) (s:State):vs=[.ref p,.ref sa]->bS G H->c8 c h G H p d1 d2 el->cu H sa s->Hy.Ok h.things s->h.things.length<=1000->(∀v G' H',Gr [d1,d2] G H G' H'->c8 c h G' H' p d1 d2 el->QJ G' v (Hy.eK h s)->Q v H')->n9 c vs H Q E
theorem Ex {α:Type}{l:List α}{x:α}(h:l.Nodup)(hx:x∉l):(l++[x]).Nodup:=List.nodup_append.mpr ⟨h,List.nodup_cons.mpr ⟨by simp,List.nodup_nil⟩,λa ha b hb=>by rw [aK.mp hb];exact λz=>hx (z▸ha)⟩
theorem Ss (T:Tx w K mg c)(oa:i7 K c.Passes/\Mt P w K mg base c.Passes "after" 5 ["self","state"] (CJ c)):Fn P w K mg base "trail" 6 ["passes","state"] (n9 c):=by
 refine T.Fw.ok wD λH Q E hr h=>?_
 ·obtain ⟨G,p,d1,d2,el,sa,h,st,rfl,hG,ps,hs,cn,hsz,k⟩:=h;obtain ⟨⟨k1,e1⟩,k2,e2⟩:=ps.Ew;refine ⟨_,(bP (cJ wD 2 wo)
   (bP (wb PassesOwn.never (C9 (tU (jo hr) (pv 1) (pv 2))) (bP (qG (jo hr) (pv 2) (pv 1) qk rfl)
   (bP (cJ wD 3 (N2 (pv 0) oa hr (bM (pv 1) bO)))
   (bP (cg (bW (Dk hr.units) (pv 3) (pv 1) (b9 _)) (bQ (bU (gy (DJ rfl) (by rfl) T.sj vJ (bM (pv 2) bO)))) b5)
   (bQ (cJ wD 1 (pv 3)))))))
   (bQ (bU cF)))),?_⟩
  refine λD hD=>?_;have kZ:d1≠D:=cb e1 hD;have hd2:d2≠D:=cb e2 hD;have ow:=ps.ok.lines;refine ⟨λm σ H1=>∃(G1:Hp)(i:Nat)(si:Addr)(v3:Option V),m=65 - i/\σ=[some (.ref p),some (.ref si),some (.ref D),v3]/\Gr [d1,d2] G H G1 H1/\c8 c h G1 H1 p d1 d2 el/\G1 D=none/\H1 D=some (.dT ((Hy.bZ h i st).map λx=>(kS x,.bl true))) /\
   cu H1 si (Hy.it h i st)/\(Hy.bZ h i st).Nodup/\∀j<i,Ks338.pass h (Hy.it h j st)≠Hy.it h j st,⟨_,G,0,sa,none,rfl,rfl,((Gr.refl hG).cX hD),ps.wr kZ hd2,hG.free hD,bN,hs.up (bS.new hD),List.nodup_nil,λj hj=>by omega⟩,?_⟩
  rintro m σ H1 ⟨G1,i,si,v3,rfl,rfl,g1,zW,gA,fg,Mp,Zk,dP⟩;have acv:=Hy.UK ow ps.da cn Zk;have oki:=cn.it ow i;refine ⟨_,rfl,_,rfl,D,_,rfl,kz.t fg Mp.key,_,rfl,?_⟩;rw [k5]
  by_cases wm:Hy.it h i st∈Hy.bZ h i st
  ·rw [ab wm];refine iF (k _ G1 H1 g1 zW ?_);rw [(Hy.NJ wm dP).2];rfl
  ·rw [aa wm];refine iT ⟨_,λσ' H' q=>q,?_⟩;have Sq:putK ((Hy.bZ h i st).map λx=>(kS x,V.bl true)) (kS (Hy.it h i st)) (.bl true)=(Hy.bZ h (i+1) st).map λx=>(kS x,V.bl true):=by
    rw [qW _ (by rw [k5,aa wm]),Hy.wB,aB];rfl
   have Xa:(Hy.bZ h (i+1) st).Nodup:=by rw [Hy.wB];exact Ex Zk wm
   refine ⟨_,rfl,_,rfl,D,_,rfl,pz.t fg Mp.key (by rw [af,Hy.kb];exact cx (by omega)),?_⟩;rw [Sq];have g2:Gr [d1,d2] G H G1 (upd H1 D (.dT ((Hy.bZ h (i+1) st).map λx=>(kS x,V.bl true)))):=g1.wr (.inl hD) gA;have mQ:=zW.wr (o:=.dT ((Hy.bZ h (i+1) st).map λx=>(kS x,V.bl true))) kZ hd2;have Ow:cu (upd H1 D (.dT ((Hy.bZ h (i+1) st).map λx=>(kS x,V.bl true)))) si (Hy.it h i st):=by unfold cu;rw [bR (Mp.Eu fg)];exact Mp
   obtain ⟨dx,hi⟩:=mQ.ins;refine ⟨_,rfl,p,dx,_,rfl,g2.sub _ _ hi,U6 el d1 d2,_,rfl,G1,p,d1,d2,el,si,h,_,rfl,g2.sub,mQ,Ow,oki,hsz,λa G3 H3 g3 vO ha=>?_⟩;have vN:=g2.trans g3;have mR:H3 D=some (.dT ((Hy.bZ h (i+1) st).map λx=>(kS x,V.bl true))):=g3.kp _ _ bN (λq=>by
    rcases ak.mp q with z | z
    ·exact kZ z.symm
    ·exact hd2 (aK.mp z).symm)
   have n0:G3 D=none:=g3.out gA (by rw [bN];simp) (λxs=>by rw [mR];simp);have aay:cu H3 si (Hy.it h i st):=g3.kp _ _ Ow (λq=>by
    obtain ⟨⟨k1',e1'⟩,k2',e2'⟩:=mQ.Ew;rcases ak.mp q with z | z
    ·exact Ow.Eu e1' z
    ·exact Ow.Eu e2' (aK.mp z))
   have ME:cu H3 a (Hy.it h (i+1) st):=g3.sub _ _ ha;refine ⟨_,rfl,_,rfl,QC (cA.of ME) (cA.of aay) ⟨_,rfl,?_⟩⟩;refine df (λe=>?_) (λe=>?_)
   ·have Ox:Ks338.pass h (Hy.it h i st)=Hy.it h i st:=aD e;refine ⟨_,rfl,D,_,rfl,mR,λl qs hl hq=>?_⟩;have g4:=vN.Cp.new (o:=.lst (qs.map V.ref)) hl;obtain ⟨⟨k1',e1'⟩,k2',e2'⟩:=vO.Ew;refine k _ _ _ g4 ?_ ?_
    ·refine ((vO.Cp g3.sub).rH (o:=.lst (qs.map V.ref)) ((Co g3.sub).free hl) (cb e1' hl) (cb e2' hl)).wr (cb e1' hl) (cb e2' hl)
    ·rw [(Hy.K9 ow ps.da cn Xa dP Ox).2];refine ⟨l,qs,rfl,bN,?_⟩;exact pQ (λq xs e=>by have e':=wI (G:=G3) e;rw [bR (cb e hl)];exact e') hq
   ·have hnf:Ks338.pass h (Hy.it h i st)≠Hy.it h i st:=λq=>e (aj q);refine ⟨_,rfl,65 - (i+1),by omega,G3,i+1,a,_,rfl,rfl,vN,vO,n0,mR,ME,Xa,λj hj=>?_⟩
    by_cases su:j=i
    ·rw [su];exact hnf
    ·exact dP j (by omega)
inductive jc (vs:List V)(H:Hp)(Q:VK)(E:XK):Prop | mk (G:Hp) (sa:Addr) (s:State) (t v:Nat):vs=[.ref sa,.int (t:Int),.int (v:Int)]->bS G H->cu H sa s->t<s.length->s.length<=1000->(∀p G' H',Gr [] G H G' H'->cu G' p (s.set t v)->Q (.ref p) H')->jc vs H Q E
theorem QK (s:State)(t v:Nat)(h:t<s.length):s.set t v=s.take t++v::s.drop (t+1):=by rw [List.set_eq_take_append_cons_drop,ab h]
theorem J0 (s:State)(k:Nat):(c0 s).take k=c0 (s.take k):=by unfold c0;rw [List.map_take]
theorem J1 (s:State)(k:Nat):(c0 s).drop k=c0 (s.drop k):=by unfold c0;rw [List.map_drop]
theorem Hs (T:Tx w K mg c):Fn P w K mg base "with_value" 1 ["state","thing","value"] jc:=by
 refine T.rM.ok Hl λH Q E hr h=>?_
 ·obtain ⟨G,sa,st,t,v,rfl,hG,hs,ht,hsz,k⟩:=h;refine ⟨_,(bQ (bU (dj Fj (dj Fj (dZ Fl (pv 0) gE (dJ (pv 1))) (ip (bM (pv 2) bO))) (dZ Fl (pv 0) (dJ (dj i6 (pv 1) b8)) gE)))),?_⟩;refine ⟨_,rfl,_,rfl,_,rfl,GR (k:=t) (cA.of hs) λH1 p1 s1 Qx=>⟨_,rfl,dI,λp2 kO=>?_⟩⟩;rw [J0] at Qx;have s2:bS H (upd H1 p2 (.tup [.int (v:Int)])):=s1.trans (bS.new kO);have aaz:cA K (upd H1 p2 (.tup [.int (v:Int)])) p1 (c0 (st.take t)):=bS.aan (bS.new kO) Qx;have WH:cA K (upd H1 p2 (.tup [.int (v:Int)])) p2 (c0 [v]):=cA.of bN;have fin:∀(H3:Hp)(p3:Addr),bS H H3->H3 p3=some (.tup (c0 (st.take t++[v])))->VO (Jm K) (lB 0) (HL (F3 (xM λi j=>.int (i+j)) (lB 1) (tC (.int 1)))) E2 [some (.ref sa),some (.int (t:Int)),some (.int (v:Int))] H3 λy H4=>HS K (.ref p3) y H4 λr H5=>Q r H5:=λH3 p3 s3 yd=>by
   refine ⟨_,rfl,_,rfl,_,_,rfl,rfl,_,rfl,?_⟩;have e1:(t:Int)+1=((t+1:Nat):Int):=rfl;rw [e1];dsimp only [E2];refine Qv (k:=t+1) (cA.of (hs.up s3)) λH4 p4 s4 J2=>?_;rw [J1] at J2;have Xb:H4 p3=some (.tup (c0 (st.take t++[v]))):=s4 _ _ yd;have g4:Gr [] G H G H4:=Gr.dS hG (s3.trans s4);have dH:=QK st t v ht;refine ⟨p3,p4,_,_,rfl,rfl,cA.of Xb,J2,?_,λe=>?_,λ_ e=>?_,λ_ _ p5 hp5=>?_⟩
   ·rw [dq,dq,ay,aO,bg];refine aJ (cx ?_);simp;omega
   ·have:=congrArg List.length e
    rw [dq,ay] at this;simp at this
   ·refine k _ _ _ g4.Cp ?_;have e2:st.drop (t+1)=[]:=by have:=congrArg List.length e;rw [dq] at this;exact bt this
    rw [dH,e2];exact wI Xb
   ·refine k _ _ _ (g4.new hp5) ?_;rw [dH];show upd G p5 _ p5=_;rw [bN,<-nZ,aT];rfl
  refine ⟨p1,p2,_,_,rfl,rfl,aaz,WH,?_,λe=>?_,λ_ e=>?_,λ_ _ p3 yd=>?_⟩
  ·rw [dq,dq,aO];refine aJ (cx ?_);simp;omega
  ·refine fin _ p2 s2 ?_;rw [bN];have e2:st.take t=[]:=by have:=congrArg List.length e;rw [dq] at this;exact bt this
   rw [e2];rfl
  ·cases e
  ·refine fin _ p3 (s2.trans (bS.new yd)) ?_;rw [bN,<-nZ]
def og (G:Hp)(a:Addr)(e:Ev):Prop:=G a=some (.tup [.int (e.1:Int),.int (e.2:Int)])
theorem og.up {H H':Hp}{a:Addr}{e:Ev}(h:og H a e)(s:bS H H'):og H' a e:=s _ _ h
def AU (G:Hp)(l:Addr)(es:List Ev):Prop:=∃as:List Addr,G l=some (.lst (as.map V.ref))/\Paired (og G) as es
theorem AU.up {H H':Hp}{a:Addr}{e:List Ev}(h:AU H a e)(s:bS H H'):AU H' a e:=let ⟨as,e,p⟩:=h;⟨as,s _ _ e,Paired.imp' (λ_ _ q=>og.up q s) p⟩
inductive mS (c:Cs)(vs:List V)(H:Hp)(Q:VK)(E:XK):Prop | mk (G:Hp) (l:Addr) (ts:List Thing):vs=[.ref l]->bS G H->dG c H l ts->(∀th∈ts,th.most<=3)->ts.length<=6->(∀p G' H',Gr [] G H G' H'->AU G' p (Hy.dh ts)->Q (.ref p) H')->mS c vs H Q E
theorem zY:∀(ts:List Thing)(th:Thing)(k:Nat),Hy.eT k (ts++[th])=Hy.eT k ts++(List.range (th.most+1)).map λv=>(k+ts.length,v)
 | [],th,k=>by show ((List.range (th.most+1)).map λv=>(k,v))++[]=[]++_;simp
 | t::ts,th,k=>by
  show ((List.range (t.most+1)).map λv=>(k,v))++Hy.eT (k+1) (ts++[th])=_;rw [zY ts th (k+1),<-aT];have e:k+1+ts.length=k+(t::ts).length:=by rw [au];omega
  rw [e];rfl
theorem BR:∀(ts:List Thing)(k:Nat),(∀th∈ts,th.most<=3)->(Hy.eT k ts).length<=4*ts.length
 | [],_,_=>ag _
 | t::ts,k,h=>by have ih:=BR ts (k+1) λx hx=>h x (aA _ hx);have ht:=h t (aE ..);show (((List.range (t.most+1)).map λv=>(k,v))++Hy.eT (k+1) ts).length<=_;rw [ay,af,bo,au];omega
theorem J3 (T:Tx w K mg c):Fn P w K mg base "events_of" 1 ["things"] (mS c):=by
 refine T.uI.ok jM λH Q E hr h=>?_
 ·obtain ⟨G,l,ts,rfl,hG,⟨as,hl,ha⟩,h3,h6,k⟩:=h;have hlen:=Paired.length ha;refine ⟨_,(bP (cJ jM 1 (ck bO))
   (bP (eA PassesOwn.never rfl (qH (by rfl) T.fN (bM (pv 0) bO)) (jC rfl (di (eO jM 2) (di (eO jM 3) ik))) (bQ (eA PassesOwn.never rfl (F2 (by rfl) T.AK (bM (dj i6 (bT (pv 3) rfl) b8) bO)) (eO jM 4) (bQ (dy (gT PySem.F.plainAttrs_list PySem.F.slot_list_append PySem.F.type_list_append dO (pv 1) (bM (ip (bM (pv 2) (bM (pv 4) bO))) bO)))))))
   (bQ (bU (pv 1))))),?_⟩
  refine ⟨hJ,λD hD=>?_⟩;have g0:Gr [] G H G (upd H D (.lst [])):=(Gr.refl hG).cX hD;refine ⟨_,rfl,l,_,rfl,bY.of (g0.same _ _ hl),nk (K:=K) (a:=l) (xs:=as.map V.ref) (λi σ H'=>∃(G1:Hp)(es:List Addr)(v2 v3 v4:Option V),σ=[some (.ref l),some (.ref D),v2,v3,v4]/\Gr [] G H G1 H'/\G1 D=none/\H' D=some (.lst (es.map V.ref))/\Paired (og G1) es (Hy.eT 0 (ts.take i)))
   ⟨G,[],_,_,_,rfl,g0,hG.free hD,bN,.nil⟩ (λi σ H' _ p=>by obtain ⟨_,_,_,_,_,_,g,_⟩:=p;exact bY.of (g.same _ _ hl)) ?_ ?_⟩
  ·rintro i y σ H' z hi ⟨G1,es,v2,v3,v4,rfl,g1,gA,fg,hp⟩ hz;obtain ⟨a,f6,rfl⟩:=d5 hi;obtain ⟨th,eQ,dx,kx⟩:=c5 ha f6;have hm:=h3 th (aM eQ);have hi6:i<6:=by have:=(aH.mp eQ).1;omega
   have g2:=g1.cX (o:=.tup [.int ((i:Nat):Int),.ref a]) hz;have aaA:=(bS.new (H:=H') (o:=.tup [.int ((i:Nat):Int),.ref a]) hz) _ _ fg;refine ⟨z,_,rfl,cA.of bN,rfl,_,_,rfl,_,_,rfl,rfl,?_⟩;refine ⟨_,rfl,_,c.Thing,dx,_,_,rfl,g2.same _ _ kx,T.fF,T.fG,l6 th,_,_,rfl,rfl,_,rfl,by omega,by omega,?_⟩;have hn:((th.most:Int)+1).toNat=th.most+1:=by omega
   refine Pc (n:=((th.most:Int)+1).toNat) (λj σ H'=>∃(G1:Hp)(es:List Addr)(v4:Option V),σ=[some (.ref l),some (.ref D),some (.int ((i:Nat):Int)),some (.ref a),v4]/\Gr [] G H G1 H'/\G1 D=none/\H' D=some (.lst (es.map V.ref))/\Paired (og G1) es (Hy.eT 0 (ts.take i)++(List.range j).map λv=>(i,v)))
    ⟨G1,es,_,rfl,g2,gA,aaA,by rw [List.range_zero,List.map_nil,aX];exact hp⟩ ?_ ?_
   ·rintro j σ H' hj ⟨G1,es,v4,rfl,g1,gA,fg,hp⟩;have Yj:=Paired.length hp;have hle:=BR (ts.take i) 0 λx hx=>h3 x (List.mem_of_mem_take hx);rw [ay,af,bo] at Yj;rw [aO] at hle;refine ⟨_,rfl,.inl ⟨rfl,_,bY.of fg⟩,_,rfl,_,rfl,BP,λq hq=>?_⟩;have g3:=g1.new (o:=.tup [.int ((i:Nat):Int),.int ((0:Int)+(j:Int))]) hq;have T5:D≠q:=cb fg hq;have Ob:upd H' q (.tup [.int ((i:Nat):Int),.int ((0:Int)+(j:Int))]) D=some (.lst (es.map V.ref)):=by rw [bR T5];exact fg
    have n0:upd G1 q (.tup [.int ((i:Nat):Int),.int ((0:Int)+(j:Int))]) D=none:=by rw [bR T5];exact gA
    refine ⟨D,_,_,rfl,rfl,Ob,by rw [af];exact cx (by omega),_,es++[q],_,rfl,g3.wr (.inl hD) n0,n0,by rw [bN,aB];rfl,?_⟩;rw [List.range_succ,aB,<-aT];refine Paired.js (Paired.imp' (λ_ _ r=>og.up r (bS.new (g1.sub.free hq))) hp) ?_;show upd G1 q _ q=_;rw [bN,Int.zero_add]
   ·rintro σ H' ⟨G1,es,v4,rfl,g1,gA,fg,hp⟩;refine ⟨G1,es,_,_,_,rfl,g1,gA,fg,?_⟩;rw [take_snoc eQ,zY,hn.symm,aO,Nat.min_eq_left (by have:=(aH.mp eQ).1;omega),Nat.zero_add];exact hp
  ·rintro σ H' ⟨G1,es,v2,v3,v4,rfl,g1,gA,fg,hp⟩;rw [af,hlen,aZ] at hp;exact ⟨_,rfl,k D _ _ (g1.rH hD fg gA) ⟨es,bN,Paired.imp' (λ_ _ r=>og.up r (bS.new gA)) hp⟩⟩
end
def ju (G:Hp)(a:Addr)(w:List Ev):Prop:=∃as:List Addr,G a=some (.tup (as.map V.ref))/\Paired (og G) as w
theorem ju.up {H H':Hp}{a:Addr}{e:List Ev}(h:ju H a e)(s:bS H H'):ju H' a e:=let ⟨as,e,p⟩:=h;⟨as,s _ _ e,Paired.imp' (λ_ _ q=>og.up q s) p⟩
def qy (G:Hp)(kv:List Key×V)(p:Spot):Prop:=kv.1=kS p.state/\∃a,kv.2=.ref a/\ju G a p.way.reverse
theorem qy.up {G G':Hp}{kv:List Key×V}{p:Spot}(h:qy G kv p)(s:bS G G'):qy G' kv p:=⟨h.1,let ⟨a,e,w⟩:=h.2;⟨a,e,w.up s⟩⟩
theorem CL {G:Hp}:∀{kvs:List (List Key×V)}{L:List Spot},Paired (qy G) kvs L->∀s:State,(Ks339.had L s=true->∃(x:Spot)(a:Addr),x∈L/\x.state=s/\dU kvs (kS s)=some (.ref a)/\ju G a x.way.reverse)/\(Ks339.had L s=false->dU kvs (kS s)=none)
 | _,_,.nil,s=>⟨λh=>(by cases h),λ_=>rfl⟩
 | _,_,.cons (a:=kv) (b:=p) (l₁:=kvs) (l₂:=L) r t,s=>by
  obtain ⟨h1,h2⟩:=CL t s;have e:Ks339.had (p::L) s=(p.state == s || Ks339.had L s):=rfl
  by_cases q:p.state=s
  ·refine ⟨λ_=>?_,λz=>?_⟩
   ·obtain ⟨a,e1,w⟩:=r.2;exact ⟨p,a,aE ..,q,by rw [eR (by rw [r.1,q]),e1],w⟩
   ·rw [e,q] at z;simp at z
  ·have q':(p.state == s)=false:=by simpa using q
   rw [e,q',Bool.false_or];refine ⟨λz=>?_,λz=>?_⟩
   ·obtain ⟨x,a,m,e1,e2,w⟩:=h1 z;exact ⟨x,a,aA _ m,e1,by rw [eF (by rw [r.1];exact λk=>q (Et k)),e2],w⟩
   ·rw [eF (by rw [r.1];exact λk=>q (Et k))];exact h2 z
theorem U8 {G:Hp}{h:House}{kvs:List (List Key×V)}{L:List Spot}{x:Spot}(pk:Paired (qy G) kvs L)(m6:Hy.m5 h L)(hx:x∈L):∃a,dU kvs (kS x.state)=some (.ref a)/\ju G a x.way.reverse:=by
 obtain ⟨h1,_⟩:=CL pk x.state;obtain ⟨y,a,hy,e,hv,w⟩:=h1 (Hy.nj.mpr (aQ.mpr ⟨x,hx,rfl⟩));have YY:y=x:=by
  have inj:∀(l:List Spot),(l.map Spot.state).Nodup->∀a∈l,∀b∈l,a.state=b.state->a=b:=by
   intro l
   induction l with
   | nil=>intro _ a ha;simp at ha
   | cons z l ih =>
    intro nd a ha b hb e;rw [aw,List.nodup_cons] at nd;rcases ak.mp ha with ha | ha
    ·rcases ak.mp hb with hb | hb
     ·rw [ha,hb]
     ·exact ai (aQ.mpr ⟨b,hb,by rw [<-e,ha]⟩) nd.1
    ·rcases ak.mp hb with hb | hb
     ·exact ai (aQ.mpr ⟨a,ha,by rw [e,hb]⟩) nd.1
     ·exact ih nd.2 a ha b hb e
  exact inj L m6.nd y hy x hx e
 subst YY;exact ⟨a,hv,w⟩
def U9 (c:Cs)(H0 G H:Hp)(r:Addr)(res:Except (List Ev) (List Spot)):Prop:=∃(dx d:Addr)(kvs:List (List Key×V))(e:V),G r=some (.ins c.Reach dx [("ways",.ref d),("endless",e)])/\G d=none/\H0 d=none/\H d=some (.dT kvs) /\
 match res with
 | .ok L=>e=.cw/\Paired (qy G) kvs L/\kvs.length<=64
 | .error w=>∃a,e=.ref a/\ju G a w.reverse
structure sO (c:Cs)(h:House)(p d1 d2 el ea D F:Addr)(G H G1 H1:Hp)(L:List Spot)(kvs:List (List Key×V))(fs:List Addr):Prop where
 g:Gr [d1,d2] G H G1 H1
 ps:c8 c h G1 H1 p d1 d2 el
 ev:AU G1 ea (Hy.dh h.things)
 gD:G1 D=none
 gF:G1 F=none
 hD:H1 D=some (.dT kvs)
 hF:H1 F=some (.lst (fs.map V.ref))
 pk:Paired (qy G1) kvs L
 pf:Paired (cu G1) fs (L.map Spot.state)
 m6:Hy.m5 h L
 wl:∀(i:Nat)(q:Spot),L[i]?=some q->q.way.length<=i
section
variable {c:Cs}{h:House}{p d1 d2 el ea D F:Addr}{G H G1 H1 G2 H2:Hp}{L:List Spot}{kvs:List (List Key×V)}{fs:List Addr}
theorem sO.up (r:sO c h p d1 d2 el ea D F G H G1 H1 L kvs fs)(n1:D∉[d1,d2])(n2:F∉[d1,d2])(u:Gr [d1,d2] G1 H1 G2 H2)(ps:c8 c h G2 H2 p d1 d2 el):sO c h p d1 d2 el ea D F G H G2 H2 L kvs fs :=
 have e1:=u.kp _ _ r.hD n1;have e2:=u.kp _ _ r.hF n2
 ⟨r.g.trans u,ps,r.ev.up u.up,u.out r.gD (by rw [r.hD];simp) (λxs=>by rw [e1];simp),u.out r.gF (by rw [r.hF];simp) (λxs=>by rw [e2];simp),e1,e2,Paired.imp' (λ_ _ q=>qy.up q u.up) r.pk,Paired.imp' (λ_ _ q=>cu.up q u.up) r.pf,r.m6,r.wl⟩
theorem sO.MN (r:sO c h p d1 d2 el ea D F G H G1 H1 L kvs fs)(n1:D∉[d1,d2])(n2:F∉[d1,d2])(u:Gr [] G1 H1 G2 H2):sO c h p d1 d2 el ea D F G H G2 H2 L kvs fs:=r.up n1 n2 u.any (r.ps.up u)
end
section
variable {P:Program}{w:World}{K:PySem.W.Frag}{mg:Str->Option Value}{base:Heap}{c:Cs}
theorem Su {K:PySem.W.Frag}{H:Hp}{a b:Addr}{xs ys:List V}{Q:VK}(ha:cA K H a xs)(hb:cA K H b ys)(hs:xs.length+ys.length<=sizeLine)(hy:ys≠[])
  (k:∀p H',(xs=[]/\p=b/\H'=H)\/(H p=none/\H'=upd H p (.tup (xs++ys)))->Q (.ref p) H'):HS K (.ref a) (.ref b) H Q :=
 ⟨a,b,xs,ys,rfl,rfl,ha,hb,hs,λe=>k b H (.inl ⟨e,rfl,rfl⟩),λ_ e=>ai e hy,λ_ _ p hp=>k p _ (.inr ⟨hp,rfl⟩)⟩
inductive ly (c:Cs)(vs:List V)(H:Hp)(Q:VK)(E:XK):Prop | mk (G:Hp) (tl p d1 d2 el sa:Addr) (h:House) (s:State):vs=[.ref tl,.ref p,.ref sa]->bS G H->dG c H tl h.things->c8 c h G H p d1 d2 el->cu G sa s->Hy.Ok h.things s->Ks338.pass h s=s->(∀th∈h.things,th.most<=3)->h.things.length<=6->(∀r G' H',Gr [d1,d2] G H G' H'->c8 c h G' H' p d1 d2 el->U9 c H G' H' r (Ks339.reach h s)->Q (.ref r) H')->ly c vs H Q E
theorem Ht (T:Tx w K mg c)(ji:Fn P w K mg base "events_of" 1 ["things"] (mS c))(gX:Fn P w K mg base "trail" 6 ["passes","state"] (n9 c))(fi:Fn P w K mg base "with_value" 1 ["state","thing","value"] jc)
  (AV:Made P w K mg base "Reach" c.Reach 1 ["self","ways","endless"] ["ways","endless"]):Fn P w K mg base "reach_from" 7 ["things","passes","start"] (ly c):=by
 refine T.rN.ok d9 λH Q E hr h=>?_
 ·obtain ⟨G,tl,p,d1,d2,el,sa,h,st,rfl,hG,ht,ps,hs,cn,Ox,h3,h6,k⟩:=h;obtain ⟨⟨k1,e1⟩,k2,e2⟩:=ps.Ew;have ow:=ps.ok.lines;refine ⟨_,(bP (cJ d9 3 (b6 ji hr (bM (pv 0) bO)))
   (bP (cJ d9 4 (R0 (jo hr) (pv 2) (ip bO)))
   (bP (cJ d9 5 (ck (bM (pv 2) bO)))
   (bP (cJ d9 6 b8)
   (bP (wb PassesOwn.never (bW ie (pv 6) (cv cf (by rfl) T.cW PySem.boot_len (bM (pv 5) bO)) (b9 _)) (bP (cJ d9 7 (cQ cR (pv 5) (pv 6) (λ_ _=>rfl)))
   (bP (Ik (i:=6) (d9).nd rfl (Or.inl rfl) b8 Il)
   (bQ (eA PassesOwn.never rfl (gC (pv 3)) (eO d9 8) (bP (cJ d9 9 (dj Fj (E7 (jo hr) (pv 4) (pv 7) (λ_ _=>rfl)) (ip (bM (pv 8) bO))))
   (bP (cJ d9 10 (b6 gX hr (bM (pv 1) (bM (b6 fi hr (bM (pv 7) (bM (cQ fQ (pv 8) b8 (λ_ _=>rfl)) (bM (cQ fQ (pv 8) b8 (λ_ _=>rfl)) bO)))) bO))))
   (bP (cg (bW gJ (pv 10) cF (b9 _)) (bQ (bU (ff AV hr (bM (pv 4) (bM (pv 9) bO))))) b5)
   (bQ (cg (C9 (tU (jo hr) (cQ cR (pv 10) (j4 il b8) (λ_ _=>rfl)) (pv 4))) (bP (qG (jo hr) (pv 4) (cQ cR (pv 10) (j4 il b8) (λ_ _=>rfl)) (pv 9) rfl)
   (bQ (dy (gT PySem.F.plainAttrs_list PySem.F.slot_list_append PySem.F.type_list_append dO (pv 5) (bM (cQ cR (pv 10) (j4 il b8) (λ_ _=>rfl)) bO))))) b5))))))))))
   (bQ (bU (ff AV hr (bM (pv 4) (bM cF bO)))))))))),?_⟩
  refine ⟨_,rfl,G,tl,h.things,rfl,hG,ht,h3,h6,λea G1 H1 g1 vz=>?_⟩;have fc:cu H1 sa st:=g1.same _ _ (hG _ _ hs);refine λD hD=>⟨_,rfl,hJ,λe0 zZ=>?_⟩
  have T6:D≠e0:=λz=>by rw [<-z,bN] at zZ;cases zZ
  have lP:H1 e0=none:=by rw [bR (λz=>T6 z.symm)] at zZ;exact zZ
  have hsD:sa≠D:=cb fc hD;have eW:sa≠e0:=cb fc lP;refine ⟨by rw [bR T6,bN],sa,kS st,rfl,?_,?_⟩
  ·rw [bR eW,bR hsD];exact fc.key
  refine ⟨_,rfl,dI,λF hF=>?_⟩;have QL:F≠D:=λz=>by rw [z,bN] at hF;cases hF
  have Zl:F≠e0:=λz=>by rw [z,bR (λq=>T6 q.symm),bN] at hF;cases hF
  have Zm:H1 F=none:=by rw [bR QL,bR Zl,bR QL] at hF;exact hF
  have fg:H D=none:=g1.th _ hD;have QM:H F=none:=g1.th _ Zm;have nD:D∉[d1,d2]:=λq=>by
   rcases ak.mp q with z | z
   ·rw [z,e1] at fg;cases fg
   ·rw [aK.mp z,e2] at fg;cases fg
  have nF:F∉[d1,d2]:=λq=>by
   rcases ak.mp q with z | z
   ·rw [z,e1] at QM;cases QM
   ·rw [aK.mp z,e2] at QM;cases QM
  have n1D:d1≠D:=λz=>nD (by rw [z];simp);have n2D:d2≠D:=λz=>nD (by rw [z];simp);have n1F:d1≠F:=λz=>nF (by rw [z];simp);have n2F:d2≠F:=λz=>nF (by rw [z];simp);have r0:sO c h p d1 d2 el ea D F G H (upd G1 e0 (.tup [])) (upd (upd (upd (upd H1 D (.dT [])) e0 (.tup [])) D (.dT [(kS st,.ref e0)])) F (.lst [.ref sa])) [⟨st,[]⟩] [(kS st,.ref e0)] [sa]:=by
   have a1:=(g1.cX (o:=.dT []) hD).new (o:=.tup []) zZ;have gA:upd G1 e0 (.tup []) D=none:=by rw [bR T6];exact g1.sub.free hD
   have a2:=a1.wr (o:=.dT [(kS st,.ref e0)]) (.inl fg) gA;have a3:=a2.cX (o:=.lst [.ref sa]) hF;have ups:bS G1 (upd G1 e0 (.tup [])):=bS.new (g1.sub.free lP);have pp:=(ps.up g1).rH (o:=.tup []) (g1.sub.free lP) (λz=>by rw [<-z] at lP;rw [g1.same _ _ e1] at lP;cases lP) (λz=>by rw [<-z] at lP;rw [g1.same _ _ e2] at lP;cases lP);have ne1:d1≠e0:=λz=>by rw [<-z] at lP;rw [g1.same _ _ e1] at lP;cases lP
   have ne2:d2≠e0:=λz=>by rw [<-z] at lP;rw [g1.same _ _ e2] at lP;cases lP
   refine ⟨a3.any,(((pp.wr n1D n2D).wr ne1 ne2).wr n1D n2D).wr n1F n2F,vz.up ups,gA,by rw [bR Zl];exact g1.sub.free Zm,by rw [bR (λz=>QL z.symm),bN],by rw [bN];rfl,.cons ⟨rfl,e0,rfl,[],bN,.nil⟩ .nil,.cons ((hs.up g1.up).up ups) .nil,Hy.tZ cn Ox,λi q hq=>by cases i with | zero=>simp at hq;rw [<-hq];exact ag _ | succ i=>simp at hq⟩
  have fin:∀(G' H':Hp)(L:List Spot)(kvs:List (List Key×V))(fs:List Addr)(e:V),sO c h p d1 d2 el ea D F G H G' H' L kvs fs->(match Ks339.reach h st with | .ok L'=>e=.cw/\L'=L | .error w=>∃a,e=.ref a/\ju G' a w.reverse) ->
    ∀x dx,H' x=none->H' dx=none->dx≠x->Q (.ref x) (upd (upd H' dx (.own x)) x (.ins c.Reach dx [("ways",.ref D),("endless",e)])):=λG' H' L kvs fs e r xu x dx nx nd ne=>by
   have gi:Gr [] G' H' _ _:=(Gr.refl r.g.sub).ins (C:=c.Reach) (fs:=[("ways",V.ref D),("endless",e)]) nx nd ne;have ri:=r.MN nD nF gi;refine k x _ _ ri.g ri.ps ⟨dx,D,kvs,e,bN,ri.gD,fg,ri.hD,?_⟩;cases hr:Ks339.reach h st with
   | ok L' =>rw [hr] at xu;obtain ⟨q1,q2⟩:=xu;subst q2;exact ⟨q1,ri.pk,by rw [Paired.length ri.pk];exact ri.m6.da ps.da⟩
   | error w =>rw [hr] at xu;obtain ⟨a,q1,q2⟩:=xu;exact ⟨a,q1,q2.up gi.up⟩
  refine ⟨λm σ H'=>∃(G':Hp)(kk:Nat)(L:List Spot)(kvs:List (List Key×V))(fs:List Addr)(v7 v8 v9 v10:Option V),m=65 - kk/\σ=[some (.ref tl),some (.ref p),some (.ref sa),some (.ref ea),some (.ref D),some (.ref F),some (.int (kk:Int)),v7,v8,v9,v10] /\
   sO c h p d1 d2 el ea D F G H G' H' L kvs fs/\kk<=L.length/\Ks339.reach h st=Hy.go h (65 - kk) kk L,⟨_,_,0,_,_,_,_,_,_,_,rfl,rfl,r0,aW _,Hy.rg ow ps.da cn Ox⟩,?_⟩
  rintro m σ H' ⟨G',kk,L,kvs,fs,v7,v8,v9,v10,rfl,rfl,r,hkL,vA⟩;have T7:fs.length=L.length:=by have:=Paired.length r.pf;rwa [af] at this
  have acw:=r.m6.da ps.da;refine ⟨_,rfl,_,rfl,F,_,rfl,.inl (bY.of r.hF),_,_,rfl,rfl,_,rfl,?_⟩;rw [af,T7];refine df (λe=>?_) (λe=>?_)
  ·have c9:kk<L.length:=by have:=aD e;omega
   obtain ⟨x,hx⟩:∃x,L[kk]?=some x:=⟨L[kk],aI c9⟩
   have Jg:x∈L:=aM hx;obtain ⟨sx,T8,Sv⟩:=Paired.lO r.pf (i:=kk) (b:=x.state) (by rw [aS,hx];rfl);rw [Hy.UL ps.da r.m6 hx] at vA;obtain ⟨MO,aaB⟩:=r.m6.ok x Jg;refine ⟨_,λσ' H' q=>q,?_⟩;refine ⟨_,rfl,_,rfl,F,_,_,_,rfl,rfl,bY.of r.hF,cD (j:=kk) (v:=.ref sx) (by rw [aS,T8];rfl),?_⟩;refine ⟨_,rfl,_,_,rfl,rfl,?_⟩;obtain ⟨xX,J4,J5⟩:=r.ev;have J6:=Paired.length J5;refine ⟨_,rfl,ea,rfl,⟨_,bY.of (r.g.sub _ _ J4)⟩,lC (K:=K) (a:=ea) (xs:=xX.map V.ref) (λj σ H2=>∃(G2:Hp)(L2:List Spot)(kvs fs:_)(v8 v9 v10:Option V),σ=[some (.ref tl),some (.ref p),some (.ref sa),some (.ref ea),some (.ref D),some (.ref F),some (.int ((kk:Int)+1)),some (.ref sx),v8,v9,v10] /\
     bS G' G2/\sO c h p d1 d2 el ea D F G H G2 H2 L2 kvs fs/\(∃m,L2=L++m)/\Hy.tryAll h x (Hy.dh h.things) L=Hy.tryAll h x ((Hy.dh h.things).drop j) L2)
    ⟨G',L,kvs,fs,_,_,_,rfl,bS.refl _,r,⟨[],by rw [aX]⟩,rfl⟩ (λj σ H2 _ q=>by obtain ⟨G2,_,_,_,_,_,_,_,sm,r2,_⟩:=q;exact bY.of (r2.g.sub _ _ (sm _ _ J4))) ?_ ?_⟩
   ·rintro j y σ H2 hj ⟨G2,L2,kvs,fs,v8,v9,v10,rfl,sm,r,⟨mm,J7⟩,CM⟩;obtain ⟨ev,Sw,rfl⟩:=d5 hj;obtain ⟨e,he,ic⟩:=c5 J5 Sw;have QN:e∈Hy.dh h.things:=aM he;have Zn:=(aH.mp he).1;have uh:(Hy.dh h.things).drop j=e::(Hy.dh h.things).drop (j+1):=by
     rw [List.drop_eq_getElem_cons Zn];rw [aI Zn] at he;rw [ao he]
    rw [uh] at CM;have aaC:x∈L2:=by rw [J7];exact List.mem_append_left _ Jg
    obtain ⟨wa,hwv,z0,IU,QO⟩:=U8 r.pk r.m6 aaC;have Xc:cu G2 sx x.state:=Sv.up sm;have Sx:og G2 ev e:=ic.up sm;have evl:=Hy.yU QN;refine ⟨_,rfl,_,rfl,D,_,rfl,(by have q:=kz.t r.hD (r.g.sub _ _ Xc.key);rw [hwv] at q;exact q),_,rfl,dI,λq1 Zo=>?_⟩;have gq1:Gr [] G2 H2 (upd G2 q1 (.tup [.ref ev])) (upd H2 q1 (.tup [.ref ev])):=(Gr.refl r.g.sub).new Zo;have r1:=r.MN nD nF gq1;have hxw:x.way.length<=kk:=by
     have T1:L2[kk]?=some x:=by rw [J7,bu c9];exact hx
     exact r.wl kk x T1
    have wasLen:z0.length=x.way.length:=by rw [Paired.length QO,aP]
    have aaD:upd H2 q1 (.tup [.ref ev]) wa=some (.tup (z0.map V.ref)):=by rw [bR (cb (r.g.sub _ _ IU) Zo)];exact r.g.sub _ _ IU
    refine Su (cA.of aaD) (cA.of bN) (by rw [af,wasLen];exact aJ (cx (by show x.way.length+1<=1000;omega))) (λz=>nomatch z) λwq H3 Yk=>?_;obtain ⟨G3,r3,sm3,Sy⟩:∃G3,sO c h p d1 d2 el ea D F G H G3 H3 L2 kvs fs/\bS G2 G3/\ju G3 wq (e::x.way).reverse:=by
     rcases Yk with ⟨ee,rfl,rfl⟩ | ⟨z6,rfl⟩
     ·refine ⟨_,r1,gq1.up,[ev],bN,?_⟩;have hw0:z0=[]:=by cases z0 with | nil=>rfl | cons a l=>cases ee
      subst hw0;have hx0:x.way=[]:=bt wasLen.symm;rw [hx0];exact .cons (Sx.up gq1.up) .nil
     ·have gq2:Gr [] _ _ (upd (upd G2 q1 (.tup [.ref ev])) wq (.tup (z0.map V.ref++[.ref ev]))) (upd (upd H2 q1 (.tup [.ref ev])) wq (.tup (z0.map V.ref++[.ref ev]))):=(Gr.refl r1.g.sub).new z6;refine ⟨_,r1.MN nD nF gq2,gq1.up.trans gq2.up,z0++[ev],by rw [bN,aB];rfl,?_⟩;rw [bp];exact Paired.js (Paired.imp' (λ_ _ z=>og.up z (gq1.up.trans gq2.up)) QO) (Sx.up (gq1.up.trans gq2.up))
    have Xd:H3 ev=some (.tup [.int (e.1:Int),.int (e.2:Int)]):=r3.g.sub _ _ (Sx.up sm3);have aaE:cu H3 sx x.state:=r3.g.sub _ _ (Xc.up sm3);refine ⟨_,rfl,_,rfl,_,rfl,ev,_,_,_,rfl,rfl,cA.of Xd,cD (j:=0) rfl,_,rfl,ev,_,_,_,rfl,rfl,cA.of Xd,cD (j:=1) rfl,G3,sx,x.state,e.1,e.2,rfl,r3.g.sub,aaE,by rw [MO.len];exact evl.1,by rw [MO.len];omega,λvq G4 H4 g4 Xe=>?_⟩;have r4:=r3.MN nD nF g4;refine ⟨G4,p,d1,d2,el,vq,h,_,rfl,r4.g.sub,r4.ps,r4.g.sub _ _ Xe,MO.set evl.2,by omega,λv5 G5 H5 g5 QP md=>?_⟩;have r5:=r4.up nD nF g5 QP;have sm5:bS G2 G5:=(sm3.trans g4.up).trans g5.up;have T9:ju G5 wq (e::x.way).reverse:=(Sy.up g4.up).up g5.up;have Oy:Hy.tryAll h x (e::(Hy.dh h.things).drop (j+1)) L2=match Hy.ia h x e L2 with | .error w=>.error w | .ok L'=>Hy.tryAll h x ((Hy.dh h.things).drop (j+1)) L':=rfl
    have QQ:Ks339.after h x.state e=(Ks338.settle h (x.state.set e.1 e.2)).map Prod.snd:=rfl;refine ⟨_,rfl,rfl,_,rfl,?_⟩;cases eW:Ks338.settle h (x.state.set e.1 e.2) with
    | none =>
     have J8:Hy.eK h (x.state.set e.1 e.2)=none:=by unfold Hy.eK;rw [eW]
     rw [J8] at md;cases (show v5=.cw from md);refine iT ⟨_,rfl,_,rfl,rfl,fin G5 H5 L2 kvs fs (.ref wq) r5 ?_⟩;have MP:Hy.ia h x e L2=.error (e::x.way):=by unfold Hy.ia;rw [QQ,eW];rfl
     have MQ:Ks339.reach h st=.error (e::x.way):=by rw [vA,CM,Oy,MP]
     rw [MQ];exact ⟨wq,rfl,T9⟩
    | some y =>
     obtain ⟨n,s'⟩:=y;have J8:Hy.eK h (x.state.set e.1 e.2)=some (Hy.bZ h (n+1) (x.state.set e.1 e.2)):=by unfold Hy.eK;rw [eW]
     rw [J8] at md;obtain ⟨la,BS,rfl,m7,sP⟩:=md;obtain ⟨_,Mn,_⟩:=Hy.lX eW;have FN:BS.length=n+1:=by rw [Paired.length sP,Hy.kb]
     have Oz:(Hy.bZ h (n+1) (x.state.set e.1 e.2))[n]?=some s':=by rw [Hy.wB,bA (by rw [Hy.kb];exact ag _),Hy.kb,Nat.sub_self,Mn];rfl
     obtain ⟨lq,Xf,sQ⟩:=Paired.lO sP Oz;have iA:qT (BS.map V.ref) (-1)=some (.ref lq):=at_neg (n:=1) (by decide) (by rw [af];omega) (by rw [af,FN,aS,show n+1 - 1=n by omega,Xf];rfl);have Xg:H5 la=some (.lst (BS.map V.ref)):=r5.g.sub _ _ m7;have Xh:cu H5 lq s':=r5.g.sub _ _ sQ;have MP:Hy.ia h x e L2=.ok (if Ks339.had L2 s' then L2 else L2++[⟨s',e::x.way⟩]):=by unfold Hy.ia;rw [QQ,eW];rfl
     obtain ⟨v1,v2⟩:=CL r5.pk s';refine iF ⟨_,rfl,_,rfl,la,_,_,_,rfl,rfl,bY.of Xg,iA,_,rfl,D,_,rfl,kz.t r5.hD Xh.key,_,rfl,?_⟩;cases OA:Ks339.had L2 s' with
     | true =>obtain ⟨_,wz,_,_,hvz,_⟩:=v1 OA;rw [hvz];rw [OA] at MP;refine iF ⟨G5,L2,kvs,fs,_,_,_,rfl,sm.trans sm5,r5,⟨mm,J7⟩,?_⟩;rw [CM,Oy,MP];rfl
     | false =>
      have Zp:=v2 OA;rw [Zp];rw [OA] at MP;have Xi:Hy.ia h x e L2=.ok (L2++[⟨s',e::x.way⟩]):=MP;have Xj:=(Hy.Mj ow MO QN r5.m6 Xi).1;have MJ:(L2++[(⟨s',e::x.way⟩:Spot)]).length<=64:=Xj.da ps.da;rw [ay] at MJ;simp at MJ;have J9:kvs.length=L2.length:=Paired.length r5.pk;have aaF:fs.length=L2.length:=by have:=Paired.length r5.pf;rwa [af] at this
      refine iT ⟨_,rfl,_,rfl,_,rfl,_,rfl,la,_,_,_,rfl,rfl,bY.of Xg,iA,D,_,rfl,pz.t r5.hD Xh.key (by rw [J9];exact cx (by omega)),?_⟩;rw [qW _ Zp];have g6:Gr [d1,d2] G H G5 (upd H5 D (.dT (kvs++[(kS s',.ref wq)]))):=r5.g.wr (.inl fg) r5.gD;have Zq:upd H5 D (.dT (kvs++[(kS s',V.ref wq)])) F=some (.lst (fs.map V.ref)):=by rw [bR QL];exact r5.hF
      have aaG:upd H5 D (.dT (kvs++[(kS s',V.ref wq)])) la=some (.lst (BS.map V.ref)):=g6.sub _ _ m7;refine ⟨_,rfl,.inl ⟨rfl,_,bY.of Zq⟩,_,rfl,_,rfl,la,_,_,_,rfl,rfl,bY.of aaG,iA,F,_,_,rfl,rfl,Zq,by rw [af,aaF];exact cx (by omega),?_⟩;have g7:Gr [d1,d2] G H G5 (upd (upd H5 D (.dT (kvs++[(kS s',.ref wq)]))) F (.lst (fs.map V.ref++[.ref lq]))):=g6.wr (.inl QM) r5.gF;refine ⟨G5,L2++[⟨s',e::x.way⟩],kvs++[(kS s',.ref wq)],fs++[lq],_,_,_,rfl,sm.trans sm5,⟨g7,(r5.ps.wr n1D n2D).wr n1F n2F,r5.ev,r5.gD,r5.gF,by rw [bR (λz=>QL z.symm),bN],by rw [bN,aB];rfl,Paired.js r5.pk ⟨rfl,wq,rfl,T9⟩,by rw [aB];exact Paired.js r5.pf sQ,Xj,λi q hq=>?_⟩,⟨mm++[⟨s',e::x.way⟩],by rw [J7,aT]⟩,?_⟩
      ·rcases ba i L2.length with z | z
       ·rw [bu z] at hq;exact r5.wl i q hq
       ·rw [bA z] at hq;have hi0:i - L2.length=0:=by
         have:=(aH.mp hq).1
         simp at this;omega
        rw [hi0] at hq;simp at hq;rw [<-hq];show x.way.length+1<=i;have Zr:L.length<=L2.length:=by rw [J7,ay];omega
        omega
      ·rw [CM,Oy,Xi]
   ·rintro σ H2 ⟨G2,L2,kvs,fs,v8,v9,v10,rfl,sm,r,⟨mm,J7⟩,CM⟩;rw [af,J6,List.drop_length] at CM;have Yl:Hy.tryAll h x (Hy.dh h.things) L=.ok L2:=CM;rw [Yl] at vA;refine ⟨65 - (kk+1),by omega,G2,kk+1,L2,kvs,fs,_,_,_,_,rfl,rfl,r,?_,vA⟩;rw [J7,ay];omega
  ·have fX:L.length<=kk:=by
    rcases ba kk L.length with q | q
    ·exact ai (aj (by omega)) e
    ·exact q
   rw [Hy.Wq (bx fX)] at vA;refine ⟨_,rfl,rfl,fin G' H' L kvs fs .cw r ?_⟩;rw [vA];exact ⟨rfl,rfl⟩
end
end Hz
namespace Hz
open PySem PySem.Spec PyProof.Rows L2 TL
open Ks337 (Bytes Cond Thing Line House)
open Ks338 (State)
open Ks339 (Spot Verdict)
def Xk:Verdict->Int
 | .fine _ _=>0
 | .forever _=>1
 | .never _ _=>2
def Sz:Verdict->V
 | .never _ k=>.int (k:Int)
 | _=>.cw
def z7:Verdict->List Ev
 | .fine _ _=>[]
 | .forever w=>w
 | .never w _=>w
def sR (G:Hp)(sv:V):Verdict->Prop
 | .fine s _=>∃a,sv=.ref a/\cu G a s
 | _=>True
def CN (vd:Verdict)(wa:Addr)(sv:V):List (Str×V):=[("outcome",.int (Xk vd)),("ban",Sz vd),("way",.ref wa),("settled",sv)]
theorem oh (vd:Verdict)(wa:Addr)(sv:V):(CN vd wa sv).lookup ("outcome":Str)=some (.int (Xk vd)):=by rfl
theorem Va (vd:Verdict)(wa:Addr)(sv:V):(CN vd wa sv).lookup ("ban":Str)=some (Sz vd):=by rfl
theorem MR (vd:Verdict)(wa:Addr)(sv:V):(CN vd wa sv).lookup ("way":Str)=some (.ref wa):=by rfl
theorem Vb (vd:Verdict)(wa:Addr)(sv:V):(CN vd wa sv).lookup ("settled":Str)=some sv:=by rfl
def jY (c:Cs)(G:Hp)(r:Addr)(vd:Verdict):Prop:=∃dx wa sv,G r=some (.ins c.Verdict dx (CN vd wa sv))/\ju G wa (z7 vd)/\sR G sv vd
theorem sR.up {G G':Hp}{sv:V}:∀{vd:Verdict},sR G sv vd->bS G G'->sR G' sv vd
 | .fine s _,⟨a,e,h⟩,u=>⟨a,e,h.up u⟩
 | .forever _,_,_=>trivial
 | .never _ _,_,_=>trivial
theorem jY.up {c:Cs}{G G':Hp}{r:Addr}{vd:Verdict}(h:jY c G r vd)(u:bS G G'):jY c G' r vd:=let ⟨dx,wa,sv,a,b,d⟩:=h;⟨dx,wa,sv,u _ _ a,b.up u,d.up u⟩
theorem uk {c:Cs}{G H:Hp}{vd:Verdict}{wa:Addr}{sv:V}(hG:bS G H)(hw:ju G wa (z7 vd))(hs:sR G sv vd){x dx:Addr}(nx:H x=none)(nd:H dx=none)(ne:dx≠x) :
  ∃G',Gr [] G H G' (upd (upd H dx (.own x)) x (.ins c.Verdict dx (CN vd wa sv)))/\jY c G' x vd:=by
 have g:=(Gr.refl (ms:=[]) hG).ins (C:=c.Verdict) (fs:=CN vd wa sv) nx nd ne;exact ⟨_,g,dx,wa,sv,bN,hw.up g.up,hs.up g.up⟩
theorem sS {h:House}(w:Hy.fC h):LsOk h:=w.ok
theorem AW {h:House}(w:Hy.fC h):∀th∈h.things,th.most<=3:=λth m=>by obtain ⟨i,e⟩:=List.getElem?_of_mem m;exact (w.ts.most i th e).2
theorem CO {α:Type}{p:α->Bool}:∀{l:List α}{i:Nat}{x:α},(∀j<i,∀y,l[j]?=some y->p y=false)->l[i]?=some x->p x=true->l.find? p=some x
 | [],i,x,_,h,_=>by simp at h
 | a::l,0,x,_,h,q=>by simp at h;subst h;rw [List.find?_cons_of_pos q]
 | a::l,i+1,x,k,h,q=>by have ha:=k 0 (by omega) a rfl;rw [List.find?_cons_of_neg (by rw [ha];decide)];exact CO (i:=i) (λj hj y hy=>k (j+1) (by omega) y (by simpa using hy)) (by simpa using h) q
theorem MS {α:Type}{p:α->Bool}{l:List α}(h:∀(j:Nat) y,l[j]?=some y->p y=false):l.find? p=none:=by
 rw [List.find?_eq_none];intro x hx;obtain ⟨j,e⟩:=List.getElem?_of_mem hx;rw [h j x e]
 decide
theorem sT {h:House}{s s':State}{n:Nat}(w:Hy.eJ h)(o:Hy.Ok h.things s)(e:Ks338.settle h s=some (n,s')):Hy.Ok h.things s'/\Ks338.pass h s'=s':=by obtain ⟨_,q1,q2⟩:=Hy.lX e;exact ⟨by rw [q1];exact o.it w n,q2⟩
theorem QR {h:House}{s:State}{L:List Spot}(w:Hy.eJ h)(hs:Hy.prod h.things<=64)(o:Hy.Ok h.things s)(hp:Ks338.pass h s=s)(e:Ks339.reach h s=.ok L):Hy.m5 h L:=by rw [Hy.rg w hs o hp] at e;exact (Hy.t5 w hs 65 0 [⟨s,[]⟩] L (by omega) (by omega) (Hy.tZ o hp) (λj p hj=>by omega) e).1
theorem xw {G:Hp}{h:House}{s s':State}{n:Nat}{as:List Addr}(e:Ks338.settle h s=some (n,s'))(hp:Paired (cu G) as (Hy.bZ h (n+1) s)):as.length=n+1/\∃a,qT (as.map V.ref) (-1)=some (.ref a)/\cu G a s':=by
 obtain ⟨_,Mn,_⟩:=Hy.lX e;have hl:as.length=n+1:=by rw [Paired.length hp,Hy.kb]
 have Oz:(Hy.bZ h (n+1) s)[n]?=some s':=by rw [Hy.wB,bA (by rw [Hy.kb];exact ag _),Hy.kb,Nat.sub_self,Mn];rfl
 obtain ⟨lq,Xf,sQ⟩:=Paired.lO hp Oz;exact ⟨hl,lq,at_neg (n:=1) (by decide) (by rw [af];omega) (by rw [af,hl,aS,show n+1 - 1=n by omega,Xf];rfl),sQ⟩
section
variable {P:Program}{w:World}{K:PySem.W.Frag}{mg:Str->Option Value}{base:Heap}{c:Cs}
inductive sU (c:Cs)(vs:List V)(H:Hp)(Q:VK)(E:XK):Prop | mk (G:Hp) (ha sa:Addr) (h:House) (s:State):vs=[.ref ha,.ref sa]->bS G H->eN c G ha h->cu G sa s->Hy.Ok h.things s->Hy.fC h->Hy.prod h.things<=64->(∀r G' H',Gr [] G H G' H'->jY c G' r (Ks339.verdict h s)->Q (.ref r) H')->sU c vs H Q E
theorem SA (T:Tx w K mg c)(eS:xt P w K mg base c)(gX:Fn P w K mg base "trail" 6 ["passes","state"] (n9 c))(iB:Fn P w K mg base "reach_from" 7 ["things","passes","start"] (ly c))
  (sV:Fn P w K mg base "broken_ban" 3 ["entries","state"] (pO c)) (me:Made P w K mg base "Verdict" c.Verdict 1 ["self","outcome","ban","way","settled"] ["outcome","ban","way","settled"]):Fn P w K mg base "judge" 8 ["house","state"] (sU c):=by
 refine T.Fx.ok lF λH Q E hr h=>?_
 ·obtain ⟨G,ha,sa,h,st,rfl,hG,hh,hs,cn,wf,Ey,k⟩:=h;have ow:=wf.lines;obtain ⟨dX,tl,el,dv,hT,hE⟩:=hh;refine ⟨_,(bP (cJ lF 2 (zX eS hr (bM (bT (pv 0) rfl) bO)))
   (bP (cJ lF 3 (b6 gX hr (bM (pv 2) (bM (pv 1) bO))))
   (bP (cg (bW gJ (pv 3) cF (b9 _)) (bQ (bU (ff me hr (bM (cG T.o7) (bM cF (bM (ip bO) (bM cF bO))))))) b5)
   (bP (cJ lF 4 (b6 iB hr (bM (bT (pv 0) rfl) (bM (pv 2) (bM (cQ cR (pv 3) (j4 il b8) (λ_ _=>rfl)) bO)))))
   (bP (cg (bW qE (bT (pv 4) rfl) cF (b9 _)) (bQ (bU (ff me hr (bM (cG T.o7) (bM cF (bM (bT (pv 4) rfl) (bM cF bO))))))) b5)
   (bP (eA PassesOwn.never rfl (Gy (bT (pv 4) rfl)) (jC rfl (di (eO lF 5) (di (eO lF 6) ik))) (bP (cJ lF 7 (b6 sV hr (bM (bT (pv 0) rfl) (bM (pv 5) bO))))
   (bQ (cg (bW qE (pv 7) cF (b9 _)) (bQ (bU (ff me hr (bM (cG T.nO) (bM (pv 7) (bM (pv 6) (bM cF bO))))))) b5))))
   (bQ (bU (ff me hr (bM (cG T.zJ) (bM cF (bM (ip bO) (bM (cQ cR (pv 3) (j4 il b8) (λ_ _=>rfl)) bO))))))))))))),?_⟩
  refine ⟨_,rfl,_,c.House,dX,_,_,rfl,hG _ _ dv,T.cH,T.cI,cU tl el,el,rfl,λp dx d1 d2 np nd ne n1 n2 kU x1 x2 y1 y2=>?_⟩;obtain ⟨G1,g1,zW⟩:=sN hG hE (sS wf) Ey np nd ne n1 n2 kU x1 x2 y1 y2;have nn:∀m∈[d1,d2],H m=none:=λm hm=>by
   rcases ak.mp hm with z | z
   ·rw [z];exact n1
   ·rw [aK.mp z];exact n2
  refine ⟨_,rfl,_,rfl,G1,p,d1,d2,el,sa,h,st,rfl,g1.sub,zW,g1.sub _ _ (g1.up _ _ hs),cn,by have:=wf.da;omega,λv2 G2 H2 g2 mQ md=>?_⟩;have Ez:=g1.trans' g2 nn;refine ⟨_,rfl,rfl,_,rfl,?_⟩;cases eW:Ks338.settle h st with
  | none =>
   have hv:Ks339.verdict h st=.forever []:=by unfold Ks339.verdict;rw [eW]
   have J8:Hy.eK h st=none:=by unfold Hy.eK;rw [eW]
   rw [J8] at md;cases (show v2=.cw from md);refine iT ⟨hJ,λe0 zZ=>⟨rfl,λx dx nx nd ne=>?_⟩⟩;have g3:=Ez.new (o:=.tup []) zZ;obtain ⟨G',g4,v4⟩:=uk (c:=c) (vd:=.forever []) (sv:=.cw) g3.sub ⟨[],bN,.nil⟩ trivial nx nd ne;refine k x G' _ (g3.trans g4) ?_;rw [hv];exact v4
  | some y =>
   obtain ⟨n,s'⟩:=y;have J8:Hy.eK h st=some (Hy.bZ h (n+1) st):=by unfold Hy.eK;rw [eW]
   rw [J8] at md;obtain ⟨la,BS,rfl,m7,sP⟩:=md;obtain ⟨FN,lq,iA,sQ⟩:=xw eW sP;obtain ⟨Xl,Xm⟩:=sT ow cn eW;refine iF ⟨_,rfl,_,c.House,dX,_,_,rfl,Ez.sub _ _ (Ez.up _ _ dv),T.cH,T.cI,cS tl el,_,rfl,_,rfl,_,rfl,la,_,_,_,rfl,rfl,bY.of (Ez.sub _ _ m7),iA,G2,tl,p,d1,d2,el,lq,h,s',rfl,Ez.sub,(hT.up Ez.up).up Ez.sub,mQ,sQ,Xl,Xm,AW wf,wf.da,λr G3 H3 g3 vO MQ=>?_⟩;have EA:=Ez.trans' g3 nn;obtain ⟨MT,d,kvs,ev,Ka,EB,BU,hd,xu⟩:=MQ;have aaH:H d=none:=Ez.th _ BU;cases QS:Ks339.reach h s' with
   | error w =>
    rw [QS] at xu;obtain ⟨wa,rfl,jt⟩:=xu;have hv:Ks339.verdict h st=.forever w.reverse:=by unfold Ks339.verdict;rw [eW];simp only [];rw [QS]
    refine ⟨_,rfl,_,c.Reach,MT,_,_,rfl,EA.sub _ _ Ka,T.nU,T.nV,by rfl,rfl,_,rfl,?_⟩;refine iT ⟨_,rfl,_,c.Reach,MT,_,_,rfl,EA.sub _ _ Ka,T.nU,T.nV,by rfl,rfl,λx dx nx nd ne=>?_⟩;obtain ⟨G',g4,v4⟩:=uk (c:=c) (vd:=.forever w.reverse) (sv:=.cw) EA.sub jt trivial nx nd ne;refine k x G' _ (EA.trans g4) ?_;rw [hv];exact v4
   | ok L =>
    rw [QS] at xu;obtain ⟨rfl,yf,J9⟩:=xu;have m6:=QR ow Ey Xl Xm QS;have hv:Ks339.verdict h st=match L.find? λp=>(Ks338.forbidden h p.state).isSome with
      | some p=>.never p.way.reverse ((Ks338.forbidden h p.state).getD 0)
      | none=>.fine s' L:=by unfold Ks339.verdict;rw [eW];simp only [];rw [QS];rfl
    refine ⟨_,rfl,_,c.Reach,MT,_,_,rfl,EA.sub _ _ Ka,T.nU,T.nV,by rfl,rfl,_,rfl,?_⟩;refine iF ⟨_,rfl,_,c.Reach,MT,_,_,rfl,EA.sub _ _ Ka,T.nU,T.nV,by rfl,d,kvs,rfl,hd,λo=>?_⟩;have g4:Gr [] G H G3 (upd H3 d (.e7 o (.dT kvs))):=EA.wr (.inl aaH) EB;refine DM (Pv:=λi σ H'=>(∃v5 v6 v7,σ=[some (.ref ha),some (.ref sa),some (.ref p),some (.ref la),some (.ref r),v5,v6,v7])/\bS (upd H3 d (.e7 o (.dT kvs))) H'/\∀j<i,∀q:Spot,L[j]?=some q->(Ks338.forbidden h q.state).isSome=false)
     ⟨⟨_,_,_,rfl⟩,bS.refl _,λj hj=>by omega⟩ (λi σ H' _ q=>q.2.1 _ _ bN) ?_ ?_
    ·rintro i kk v q Tt σ H' hi hq QT ⟨⟨v5,v6,v7,rfl⟩,sm,pr⟩;obtain ⟨x,hx,hk,wa,rfl,jt⟩:=c5 yf hi;simp only at hk;rw [hk,sL] at hq;obtain ⟨MO,aaB⟩:=m6.ok x (aM hx);have sm1:bS (upd H3 d (.e7 o (.dT kvs))) (upd H' Tt (.tup [.ref q,.ref wa])):=sm.trans (bS.new QT);have g5:Gr [] G H G3 (upd H' Tt (.tup [.ref q,.ref wa])):=g4.trans (Gr.dS g4.sub sm1);refine ⟨Tt,_,rfl,cA.of bN,rfl,_,_,rfl,_,_,rfl,rfl,?_⟩;refine ⟨_,rfl,_,c.House,dX,_,_,rfl,g5.sub _ _ (g5.up _ _ dv),T.cH,T.cI,cU tl el,_,rfl,el,q,h,x.state,rfl,(hE.up g5.up).up g5.sub,cu.up (show cu H' q x.state from hq) (bS.new QT),sS wf,MO.len,λH6 s6=>?_⟩;have g6:Gr [] G H G3 H6:=g5.trans (Gr.dS g5.sub s6);refine ⟨_,rfl,rfl,_,rfl,?_⟩;cases hf:Ks338.forbidden h x.state with
     | none =>
      refine iF ⟨⟨_,_,_,rfl⟩,sm1.trans s6,λj hj y hy=>?_⟩
      by_cases su:j=i
      ·subst su;rw [hx] at hy;cases hy;rw [hf];rfl
      ·exact pr j (by omega) y hy
     | some b =>
      refine iT ⟨_,rfl,_,rfl,rfl,λx' dx nx nd ne=>?_⟩;have Bf:Ks339.verdict h st=.never x.way.reverse b:=by rw [hv,CO pr hx (by rw [hf];rfl)];show Verdict.never _ ((Ks338.forbidden h x.state).getD 0)=_;rw [hf];rfl
      obtain ⟨G',g7,v7⟩:=uk (c:=c) (vd:=.never x.way.reverse b) (sv:=.cw) g6.sub jt trivial nx nd ne;refine k x' G' _ (g6.trans g7) ?_;rw [Bf];exact v7
    ·rintro σ H' ⟨⟨v5,v6,v7,rfl⟩,sm,pr⟩;have g5:Gr [] G H G3 H':=g4.trans (Gr.dS g4.sub sm);have Bf:Ks339.verdict h st=.fine s' L:=by
      rw [hv,MS (λj y hy=>pr j (by rw [Paired.length yf];exact (aH.mp hy).1) y hy)]
     refine ⟨hJ,λe0 zZ=>?_⟩;have g6:=g5.new (o:=.tup []) zZ;refine ⟨_,rfl,_,rfl,la,_,_,_,rfl,rfl,bY.of (g6.sub _ _ (((bS.trans g3.up (bS.new (g5.sub.free zZ)))) _ _ m7)),iA,rfl,λx dx nx nd ne=>?_⟩;obtain ⟨G',g7,v7⟩:=uk (c:=c) (vd:=.fine s' L) (sv:=.ref lq) g6.sub ⟨[],bN,.nil⟩ ⟨lq,rfl,sQ.up (bS.trans g3.up (bS.new (g5.sub.free zZ)))⟩ nx nd ne;refine k x G' _ (g6.trans g7) ?_;rw [Bf];exact v7
end
theorem Xn (z:Str):S (tl z)=z:=by
 unfold S tl;cases z with
 | mk a=>simp
theorem Kb {a b:Str}(h:tl a=tl b):a=b:=by rw [<-Xn a,<-Xn b,h]
theorem BV:∀ws:List Bytes,mn [32] ws=Ks337.joined ws
 | []=>rfl
 | [w]=>rfl
 | w::v::r=>by show w++([32]++mn [32] (v::r))=_;rw [BV (v::r)];rfl
theorem EC (ws:List Bytes):Txt.join (" ":Str) (ws.map S)=S (Ks337.joined ws):=by
 refine Kb ?_;rw [join_eq,Ax,nW,bf];show mn [32] (ws.map (tl∘S))=_;have e:ws.map (tl∘S)=ws:=by
  have:(tl∘S)=(id:Bytes->Bytes):=rfl
  rw [this,List.map_id]
 rw [e,BV]
theorem OB (ws:List Bytes):Txt.join ("":Str) (ws.map λw=>S (w++[10]))=S (ws.flatMap λw=>w++[10]):=by refine Kb ?_;rw [join_eq,Ax,nW,bf];show mn [] _=_;rw [zQ,List.flatMap_def];rfl
theorem Ym (a b:Bytes):S a++S b=S (a++b):=by refine Kb ?_;rw [tW,nW,nW,nW]
theorem aaI:S [10]=("\n":Str):=by decide +kernel
theorem xx:∀ws:List Bytes,((ws.map S).map (·.length)).sum<=(Ks337.joined ws).length
 | []=>ag _
 | [w]=>by simp [oC,Ks337.joined]
 | w::v::r=>by
  have:=xx (v::r)
  rw [Hy.oz];rw [aw,aw,List.sum_cons,oC,ay,au];omega
theorem Xo (ws:List Bytes):wV ws=(ws.map S).map V.str:=by unfold wV;rw [bf];rfl
theorem OC {w:Bytes}(h:Ks337.isName w=true):w.length<=8:=by unfold Ks337.isName at h;simp only [bc,decide_eq_true_eq] at h;exact h.1.1.2
def ez (a:Ks340.Ans):List Int:=a.ret::a.out.map Int.ofNat
theorem CP (l:List Nat):c0 l=(l.map Int.ofNat).map V.int:=by unfold c0;rw [bf];rfl
theorem pb {H:Hp}{a:Addr}{l:List Nat}(h:dF H a l):dc H a (l.map Int.ofNat):=by unfold dF at h;unfold dc;rw [<-CP];exact h
section
variable {P:Program}{w:World}{K:PySem.W.Frag}{mg:Str->Option Value}{base:Heap}{c:Cs}
inductive iV (vs:List V)(H:Hp)(Q:VK)(E:XK):Prop | mk (G:Hp) (l:Addr) (ns:List Int):vs=[.ref l]->bS G H->dc H l ns->ns.length<=90000->(∀p G' H',Gr [] G H G' H'->H p=none->dc G' p ((ns.length:Int)::ns)->Q (.ref p) H')->iV vs H Q E
theorem OD (T:Tx w K mg c):Fn P w K mg base "counted" 1 ["numbers"] iV:=by
 refine T.zA.ok NZ λH Q E hr h=>?_
 ·obtain ⟨G,l,ns,rfl,hG,hl,hn,k⟩:=h;refine ⟨_,(bQ (bU (dj i8 (ck (bM (cv cf (by rfl) T.cW PySem.boot_len (bM (pv 0) bO)) bO)) (pv 0)))),?_⟩;refine ⟨_,rfl,l,_,rfl,.inl (bY.of hl),dI,λp hp=>⟨_,rfl,p,l,_,_,rfl,rfl,bN,(bS.new hp) _ _ hl,?_,λq hq=>?_⟩⟩
  ·rw [af];show 1+ns.length<=_;exact aJ (iH (by omega))
  ·have hq0:H q=none:=by
    by_cases z:q=p
    ·rw [z,bN] at hq;cases hq
    ·rw [bR z] at hq;exact hq
   refine k q _ _ (((Gr.refl hG).cX hp).new hq) hq0 ?_;show upd G q _ q=_;rw [bN,af];rfl
inductive pR (c:Cs)(vs:List V)(H:Hp)(Q:VK)(E:XK):Prop | mk (a:Addr) (th:Thing):vs=[.ref a]->jg c H a th->th.most<=3->th.name.length<=8->(∀H',bS H H'->Q (.str (S (Ks337.toldThing th))) H')->pR c vs H Q E
theorem yg {th:Thing}(h:th.name.length<=8):(Ks337.toldThing th).length<=100:=by unfold Ks337.toldThing;show (_++32::(_++32::[48+th.most])).length<=100;cases th.out <;> simp [Ks337.IN,Ks337.OUT] <;> omega
theorem Hu (T:Tx w K mg c):Fn P w K mg base "thing_line" 1 ["thing"] (pR c):=by
 refine T.rP.ok Hm λH Q E hr h=>?_
 ·obtain ⟨a,th,rfl,⟨dx,ha⟩,h3,h8,k⟩:=h;refine ⟨_,(bQ (bU (Az c6 (ck (bM (bT (pv 0) rfl) (bM (bT (pv 0) rfl) (bM (gy Im (by rfl) T.N4 WK (bM (bT (pv 0) rfl) bO)) bO))))))),?_⟩;have F:∀f,f∈[("kind":Str),"name","top"]->dY K c.Thing f:=λf hf=>T.lZ.no f hf;refine ⟨⟨_,rfl⟩,_,rfl,_,c.Thing,dx,_,_,rfl,ha,T.fF,T.fG,Ec th,_,rfl,_,c.Thing,dx,_,_,rfl,ha,T.fF,T.fG,qx th,_,rfl,_,c.Thing,dx,_,_,rfl,ha,T.fF,T.fG,l6 th,_,rfl,?_,TN,λp hp=>?_⟩
  ·have:((th.most:Int)).natAbs=th.most:=rfl
   rw [this];have h0:th.most.log2<=th.most:=Nat.log2_le_self _;omega
  ·have ek:(V.str (if th.out then "out" else "in"))=V.str (S (if th.out then Ks337.OUT else Ks337.IN)):=by
    cases th.out
    ·rw [show S (if false=true then Ks337.OUT else Ks337.IN)=("in":Str) from WN];rfl
    ·rw [show S (if true=true then Ks337.OUT else Ks337.IN)=("out":Str) from TU];rfl
   have et:V.str (toString (th.most:Int))=V.str (S [48+th.most]):=by rw [Yc _ h3]
   have e:upd H p (.lst [.str (if th.out then "out" else "in"),.str (S th.name),.str (toString (th.most:Int))]) p=some (.lst (([if th.out then Ks337.OUT else Ks337.IN,th.name,[48+th.most]].map S).map V.str)):=by rw [bN,ek,et];rfl
   refine ⟨_,p,_,rfl,rfl,.inl (bY.of e),?_,?_⟩
   ·have h1:=xx [if th.out then Ks337.OUT else Ks337.IN,th.name,[48+th.most]];have h2:=yg h8;unfold Ks337.toldThing at h2;have h3:([if th.out then Ks337.OUT else Ks337.IN,th.name,[48+th.most]].map S).length*(" ":Str).length=3:=rfl;rw [h3];omega
   ·rw [EC];exact k _ (bS.new hp)
inductive lz (c:Cs)(vs:List V)(H:Hp)(Q:VK)(E:XK):Prop | mk (a:Addr) (ts:List Thing) (l:Line):vs=[.ref a]->eM c ts H a l->Hy.jJ ts l->Q (.str (S (Ks337.toldLine ts l))) H->lz c vs H Q E
theorem Hv (T:Tx w K mg c):Fn P w K mg base "entry_line" 1 ["entry"] (lz c):=by
 refine T.rQ.ok Hn λH Q E hr h=>?_
 ·obtain ⟨a,ts,l,rfl,⟨dx,wa,ca,ha,jt,c7⟩,hl,k⟩:=h;refine ⟨_,(bQ (bU (Az c6 (bT (pv 0) rfl)))),?_⟩;have fz:=hl.2;rw [Hy.iq] at fz k;have h1:=xx (Hy.dQ ts l);have h2:=sJ (Hy.dQ ts l);unfold fq at jt;rw [Xo] at jt;refine ⟨⟨_,rfl⟩,_,rfl,_,c.Entry,dx,_,_,rfl,ha,T.ir,T.iu,Lj wa ca l,_,wa,_,rfl,rfl,.inl (bY.of jt),?_,?_⟩
  ·have h3:((Hy.dQ ts l).map S).length*(" ":Str).length=(Hy.dQ ts l).length:=by rw [af];exact Nat.mul_one _
   rw [h3];omega
  ·rw [EC];exact k
inductive pS (c:Cs)(vs:List V)(H:Hp)(Q:VK)(E:XK):Prop | mk (G:Hp) (ha:Addr) (h:House):vs=[.ref ha]->bS G H->eN c H ha h->Hy.fC h->(∀p G' H',Gr [] G H G' H'->dc G' p (ez (Ks340.told (Ks337.told h)))->Q (.ref p) H')->pS c vs H Q E
def hZ (h:House):List Bytes:=h.things.map Ks337.toldThing++h.lines.map (Ks337.toldLine h.things)
theorem ED (h:House):Ks337.told h=(hZ h).flatMap λw=>w++[10]:=by unfold Ks337.told hZ;rw [List.flatMap_append,List.flatMap_map,List.flatMap_map]
theorem AX {h:House}(w:Hy.fC h){th:Thing}(m:th∈h.things):th.name.length<=8:=by obtain ⟨i,e⟩:=List.getElem?_of_mem m;exact OC (w.ts.name i th e)
theorem GX {h:House}(w:Hy.fC h):∀x∈hZ h,x.length<=100:=λx hx=>by
 unfold hZ at hx;rcases aY.mp hx with hx | hx
 ·obtain ⟨t,m,rfl⟩:=aQ.mp hx;exact yg (AX w m)
 ·obtain ⟨l,m,rfl⟩:=aQ.mp hx;exact (w.ok l m).2
theorem OE {h:House}(w:Hy.fC h):(hZ h).length<=22:=by
 unfold hZ;rw [ay,af,af]
 have:=w.da;have:=w.kC
 omega
theorem MU:∀(l:List Bytes),(∀x∈l,x.length<=100)->(l.flatMap λw=>w++[10]).length<=l.length*101
 | [],_=>aW _
 | x::l,h=>by have ih:=MU l λy hy=>h y (aA _ hy);have hx:=h x (aE ..);rw [List.flatMap_cons,ay,ay,au,au];simp only [List.length_nil];omega
theorem GY:∀(l:List Bytes),((l.map λw=>S (w++[10])).map (·.length)).sum=(l.flatMap λw=>w++[10]).length
 | []=>rfl
 | x::l=>by have ih:=GY l;rw [aw,aw,List.sum_cons,ih,List.flatMap_cons,ay,oC]
theorem Hw (T:Tx w K mg c)(sW:Fn P w K mg base "thing_line" 1 ["thing"] (pR c))(iC:Fn P w K mg base "entry_line" 1 ["entry"] (lz c))(eP:Fn P w K mg base "bytes_of" 1 ["text"] jh)(d6:Fn P w K mg base "counted" 1 ["numbers"] iV) :
  Fn P w K mg base "tell_house" 2 ["house"] (pS c):=by
 refine T.rR.ok fD λH Q E hr h=>?_
 ·obtain ⟨G,ha,h,rfl,hG,⟨dx,tl,el,dv,⟨GZ,o8,kx⟩,⟨MV,dC,ic⟩⟩,wf,k⟩:=h;refine ⟨_,(bP (cJ fD 1 (dj i8 (qt (own:=[("thing",2)]) rfl (fD).nd (gC (bT (pv 0) rfl)) (iK (by rfl)) (λ_ _ _ _ _=>eO fD 2) (λ_ _ _ _ _=>j7) (λ_ _ _ _ _=>(b6 sW hr (bM (pv 2) bO)))) (qt (own:=[("entry",3)]) rfl (fD).nd (gC (bT (pv 0) rfl)) (iK (by rfl)) (λ_ _ _ _ _=>eO fD 3) (λ_ _ _ _ _=>j7) (λ_ _ _ _ _=>(b6 iC hr (bM (pv 3) bO))))))
   (bQ (bU (b6 d6 hr (bM (b6 eP hr (bM (Az c6 (qt (own:=[("line",4)]) rfl (fD).nd (gC (pv 1)) (iK (by rfl)) (λ_ _ _ _ _=>eO fD 4) (λ_ _ _ _ _=>j7) (λ_ _ _ _ _=>(dj Ni (pv 4) c6)))) bO)) bO))))),?_⟩
  refine ⟨_,rfl,_,c.House,dx,_,_,rfl,dv,T.cH,T.cI,cS tl el,tl,rfl,⟨_,bY.of o8⟩,λD hD=>?_⟩;refine qF (K:=K) (a:=tl) (xs:=GZ.map V.ref) (λi H'=>bS H H'/\H' D=some (.lst (wV ((h.things.take i).map Ks337.toldThing)))) ⟨bS.new hD,bN⟩ (λi H' _ p=>bY.of (p.1 _ _ o8)) ?_ ?_
  ·rintro i x H' hi ⟨sm,hd⟩;obtain ⟨a,f6,rfl⟩:=d5 hi;obtain ⟨th,eQ,iA⟩:=c5 kx f6;have hm:=aM eQ;refine ⟨rfl,iT ⟨_,rfl,a,th,rfl,iA.up sm,AW wf th hm,AX wf hm,λH2 s2=>?_⟩⟩;refine ⟨_,s2 _ _ hd,?_,?_,?_⟩
   ·rw [iy,af,aO]
    have:=wf.da
    exact cx (by omega)
   ·intro q o eq;rw [bR (λz=>by rw [z,hD] at eq;cases eq)];exact s2 _ _ (sm _ _ eq)
   ·rw [bN,take_snoc eQ,aB];unfold wV;rw [aB];rfl
  ·rintro H1 ⟨s1,kZ⟩;rw [af,Paired.length kx,aZ] at kZ;refine ⟨_,rfl,_,c.House,dx,_,_,rfl,s1 _ _ dv,T.cH,T.cI,cU tl el,el,rfl,⟨_,bY.of (s1 _ _ dC)⟩,λD2 Kc=>?_⟩;refine qF (K:=K) (a:=el) (xs:=MV.map V.ref) (λi H'=>bS H1 H'/\H' D2=some (.lst (wV ((h.lines.take i).map (Ks337.toldLine h.things))))) ⟨bS.new Kc,bN⟩ (λi H' _ p=>bY.of (p.1 _ _ (s1 _ _ dC))) ?_ ?_
   ·rintro i x H' hi ⟨sm,hd⟩;obtain ⟨a,f6,rfl⟩:=d5 hi;obtain ⟨l,hl,iA⟩:=c5 ic f6;have hm:=aM hl;refine ⟨rfl,iT ⟨_,rfl,a,h.things,l,rfl,eM.up iA (s1.trans sm),wf.ok l hm,?_⟩⟩;refine ⟨_,hd,?_,?_,?_⟩
    ·rw [iy,af,aO]
     have:=wf.kC
     exact cx (by omega)
    ·intro q o eq;rw [bR (λz=>by rw [z,Kc] at eq;cases eq)];exact sm _ _ eq
    ·rw [bN,take_snoc hl,aB];unfold wV;rw [aB];rfl
   ·rintro H2 ⟨s2,hd2⟩;rw [af,Paired.length ic,aZ] at hd2;have acx:=OE wf;refine ⟨D,D2,_,_,rfl,rfl,s2 _ _ kZ,hd2,?_,λp hp=>?_⟩
    ·rw [iy,iy,af,af]
     have:=wf.da;have:=wf.kC
     exact aJ (cx (by omega))
    ·have e:wV (h.things.map Ks337.toldThing)++wV (h.lines.map (Ks337.toldLine h.things))=wV (hZ h):=by unfold wV hZ;rw [aB]
     rw [e];have s3:bS H (upd H2 p (.lst (wV (hZ h)))):=(s1.trans s2).trans (bS.new hp);have hle:=MU (hZ h) (GX wf);refine ⟨⟨_,rfl⟩,_,rfl,p,rfl,⟨_,bY.of bN⟩,λD3 mR=>?_⟩;refine qF (K:=K) (a:=p) (xs:=wV (hZ h)) (λi H'=>bS (upd H2 p (.lst (wV (hZ h)))) H'/\H' D3=some (.lst ((((hZ h).take i).map λw=>S (w++[10])).map V.str))) ⟨bS.new mR,bN⟩ (λi H' _ q=>bY.of (q.1 _ _ bN)) ?_ ?_
     ·rintro i x H' hi ⟨sm,hd⟩;obtain ⟨b,hb,rfl⟩:=qL hi;have hb1:=GX wf b (aM hb);refine ⟨rfl,iT ⟨_,rfl,_,_,rfl,rfl,?_,_,hd,?_,?_,?_⟩⟩
      ·rw [oC];show b.length+1<=_;exact aJ (cx (by omega))
      ·rw [af,af,aO];exact cx (by omega)
      ·intro q o eq;rw [bR (λz=>by rw [z,mR] at eq;cases eq)];exact sm _ _ eq
      ·rw [bN,take_snoc hb,aB,aB,<-aaI,Ym];rfl
     ·rintro H3 ⟨sm3,QU⟩;rw [iy,aZ] at QU;refine ⟨_,D3,_,rfl,rfl,.inl (bY.of QU),?_,?_⟩
      ·rw [GY]
       have:((hZ h).map λw=>S (w++[10])).length*("":Str).length=0:=Nat.mul_zero _
       rw [this];omega
      ·rw [OB,<-ED];rw [<-ED] at hle;have g3:Gr [] G H G H3:=Gr.dS hG (s3.trans sm3);refine ⟨G,_,rfl,g3.sub,by rw [nW];omega,λq G4 H4 g4 hq hn=>?_⟩;rw [nW] at hn;refine ⟨G4,q,_,rfl,g4.sub,dc.up (pb hn) g4.sub,by rw [af];omega,λq2 G5 H5 g5 _ G8=>?_⟩;refine k q2 G5 H5 ((g3.trans g4).trans g5) ?_;rw [af] at G8;exact G8
def vP (h:House)(i:Nat):Ks340.Ans:=match h.lines[i]? with
 | none=>Ks340.no (-2)
 | some x=>Ks340.told (Ks337.toldLine h.things x)
inductive sX (c:Cs)(vs:List V)(H:Hp)(Q:VK)(E:XK):Prop | mk (G:Hp) (ha:Addr) (h:House) (i:Nat):vs=[.ref ha,.int (i:Int)]->bS G H->eN c H ha h->Hy.fC h->(∀p G' H',Gr [] G H G' H'->dc G' p (ez (vP h i))->Q (.ref p) H')->sX c vs H Q E
theorem Kd (T:Tx w K mg c)(iC:Fn P w K mg base "entry_line" 1 ["entry"] (lz c))(eP:Fn P w K mg base "bytes_of" 1 ["text"] jh)(d6:Fn P w K mg base "counted" 1 ["numbers"] iV) :
  Fn P w K mg base "tell_line" 2 ["house","number"] (sX c):=by
 refine T.uJ.ok Jz λH Q E hr h=>?_
 ·obtain ⟨G,ha,h,i,rfl,hG,⟨dx,tl,el,dv,_,⟨MV,dC,ic⟩⟩,wf,k⟩:=h;have hlen:=Paired.length ic;refine ⟨_,(bP (cg (bW qp (pv 1) (cv cf (by rfl) T.cW PySem.boot_len (bM (bT (pv 0) rfl) bO)) (b9 _)) (bQ (bU (ck (bM (cG T.fT) bO)))) b5)
   (bQ (bU (b6 d6 hr (bM (b6 eP hr (bM (b6 iC hr (bM (cQ cR (bT (pv 0) rfl) (pv 1) (λ_ _=>rfl)) bO)) bO)) bO))))),?_⟩
  refine ⟨_,rfl,_,rfl,_,c.House,dx,_,_,rfl,dv,T.cH,T.cI,cU tl el,el,_,rfl,.inl (bY.of dC),_,_,rfl,rfl,_,rfl,?_⟩;rw [af,hlen];refine df (λe=>?_) (λe=>?_)
  ·have fX:h.lines.length<=i:=by have:=aD e;omega
   refine ⟨dI,λp hp=>k p _ _ ((Gr.refl hG).new hp) ?_⟩;unfold vP;rw [bx fX];exact bN
  ·have c9:i<h.lines.length:=by
    rcases ba i h.lines.length with q | q
    ·exact q
    ·exact ai (aj (by omega)) e
   obtain ⟨l,hl⟩:∃l,h.lines[i]?=some l:=⟨_,aI c9⟩
   obtain ⟨a,f6,iA⟩:=Paired.lO ic hl;have Bp:=wf.ok l (aM hl);refine ⟨_,rfl,_,c.House,dx,_,_,rfl,dv,T.cH,T.cI,cU tl el,_,rfl,el,_,_,_,rfl,rfl,bY.of dC,cD (j:=i) (v:=.ref a) (by rw [aS,f6];rfl),a,h.things,l,rfl,iA,Bp,?_⟩;refine ⟨G,_,rfl,hG,by rw [nW];have:=Bp.2;omega,λq G4 H4 g4 hq hn=>?_⟩;rw [nW] at hn;refine ⟨G4,q,_,rfl,g4.sub,dc.up (pb hn) g4.sub,by rw [af];have:=Bp.2;omega,λq2 G5 H5 g5 _ G8=>?_⟩;refine k q2 G5 H5 (g4.trans g5) ?_;rw [af] at G8;unfold vP;rw [hl];exact G8
def vQ (h:House)(t:Nat):Ks340.Ans:=if t<h.things.length then Ks340.told (Ks337.nameOf h.things t) else Ks340.no (-2)
inductive sY (c:Cs)(vs:List V)(H:Hp)(Q:VK)(E:XK):Prop | mk (G:Hp) (ha:Addr) (h:House) (i:Nat):vs=[.ref ha,.int (i:Int)]->bS G H->eN c H ha h->Hy.fC h->(∀p G' H',Gr [] G H G' H'->dc G' p (ez (vQ h i))->Q (.ref p) H')->sY c vs H Q E
theorem Ke (T:Tx w K mg c)(eP:Fn P w K mg base "bytes_of" 1 ["text"] jh)(d6:Fn P w K mg base "counted" 1 ["numbers"] iV) :
  Fn P w K mg base "tell_name" 2 ["house","number"] (sY c):=by
 refine T.uK.ok JA λH Q E hr h=>?_
 ·obtain ⟨G,ha,h,i,rfl,hG,⟨dx,tl,el,dv,⟨GZ,o8,kx⟩,_⟩,wf,k⟩:=h;have hlen:=Paired.length kx;refine ⟨_,(bP (cg (bW qp (pv 1) (cv cf (by rfl) T.cW PySem.boot_len (bM (bT (pv 0) rfl) bO)) (b9 _)) (bQ (bU (ck (bM (cG T.fT) bO)))) b5)
   (bQ (bU (b6 d6 hr (bM (b6 eP hr (bM (bT (cQ cR (bT (pv 0) rfl) (pv 1) (λ_ _=>rfl)) rfl) bO)) bO))))),?_⟩
  refine ⟨_,rfl,_,rfl,_,c.House,dx,_,_,rfl,dv,T.cH,T.cI,cS tl el,tl,_,rfl,.inl (bY.of o8),_,_,rfl,rfl,_,rfl,?_⟩;rw [af,hlen];refine df (λe=>?_) (λe=>?_)
  ·have fX:¬i<h.things.length:=by have:=aD e;omega
   refine ⟨dI,λp hp=>k p _ _ ((Gr.refl hG).new hp) ?_⟩;unfold vQ;rw [aa fX];exact bN
  ·have c9:i<h.things.length:=by
    rcases ba i h.things.length with q | q
    ·exact q
    ·exact ai (aj (by omega)) e
   obtain ⟨th,eQ⟩:∃l,h.things[i]?=some l:=⟨_,aI c9⟩
   obtain ⟨a,f6,MW,iA⟩:=Paired.lO kx eQ;have h8:=AX wf (aM eQ);refine ⟨_,rfl,_,c.House,dx,_,_,rfl,dv,T.cH,T.cI,cS tl el,_,rfl,tl,_,_,_,rfl,rfl,bY.of o8,cD (j:=i) (v:=.ref a) (by rw [aS,f6];rfl),_,c.Thing,MW,_,_,rfl,iA,T.fF,T.fG,qx th,?_⟩;refine ⟨G,_,rfl,hG,by rw [nW];omega,λq G4 H4 g4 hq hn=>?_⟩;rw [nW] at hn;refine ⟨G4,q,_,rfl,g4.sub,dc.up (pb hn) g4.sub,by rw [af];omega,λq2 G5 H5 g5 _ G8=>?_⟩;refine k q2 G5 H5 (g4.trans g5) ?_;rw [af] at G8;unfold vQ;rw [ab c9,Hy.yL eQ];exact G8
def vR (h:House)(n:Bytes):Ks340.Ans:=match Ks337.find h.things n with
 | none=>Ks340.no (-2)
 | some t=>{ret:=t,out:=[Ks337.most h.things t]}
inductive pT (c:Cs)(vs:List V)(H:Hp)(Q:VK)(E:XK):Prop | mk (G:Hp) (ha ra:Addr) (h:House) (n:Bytes):vs=[.ref ha,.ref ra]->bS G H->eN c H ha h->dF H ra n->Hy.fC h->(∀p G' H',Gr [] G H G' H'->dc G' p (ez (vR h n))->Q (.ref p) H')->pT c vs H Q E
theorem Hx (T:Tx w K mg c)(eP:Fn P w K mg base "bytes_of" 1 ["text"] jh) :
  Fn P w K mg base "find_thing" 2 ["house","row"] (pT c):=by
 refine T.rS.ok pE λH Q E hr h=>?_
 ·obtain ⟨G,ha,ra,h,n,rfl,hG,⟨dx,tl,el,dv,⟨GZ,o8,kx⟩,_⟩,ky,wf,k⟩:=h;have hlen:=Paired.length kx;refine ⟨_,(bP (eA PassesOwn.never rfl (qH (by rfl) T.fN (bM (bT (pv 0) rfl) bO)) (jC rfl (di (eO pE 2) (di (eO pE 3) ik))) (bQ (cg (bW (Dk hr.units) (b6 eP hr (bM (bT (pv 3) rfl) bO)) (pv 1) (b9 _)) (bQ (bU (ck (bM (pv 2) (bM (bT (pv 3) rfl) bO))))) b5)))
   (bQ (bU (ck (bM (cG T.fT) bO))))),?_⟩
  refine ⟨_,rfl,_,c.House,dx,_,_,rfl,dv,T.cH,T.cI,cS tl el,tl,_,rfl,bY.of o8,nk (K:=K) (a:=tl) (xs:=GZ.map V.ref) (λi σ H'=>(∃v2 v3,σ=[some (.ref ha),some (.ref ra),v2,v3])/\(∃G1,Gr [] G H G1 H')/\∀j<i,∀x:Thing,h.things[j]?=some x->x.name≠n)
   ⟨⟨_,_,rfl⟩,⟨G,Gr.refl hG⟩,λj hj=>by omega⟩ (λi σ H' _ p=>by obtain ⟨_,⟨G1,g⟩,_⟩:=p;exact bY.of (g.same _ _ o8)) ?_ ?_⟩
  ·rintro i y σ H' z hi ⟨⟨v2,v3,rfl⟩,⟨G1,g1⟩,pr⟩ hz;obtain ⟨a,f6,rfl⟩:=d5 hi;obtain ⟨th,eQ,MW,iA⟩:=c5 kx f6;have h8:=AX wf (aM eQ);have g2:=g1.cX (o:=.tup [.int ((i:Nat):Int),.ref a]) hz;refine ⟨z,_,rfl,cA.of bN,rfl,_,_,rfl,_,_,rfl,rfl,?_⟩;refine ⟨_,rfl,_,c.Thing,MW,_,_,rfl,g2.same _ _ iA,T.fF,T.fG,qx th,G1,_,rfl,g2.sub,by rw [nW];omega,λq G4 H4 g4 hq hn=>?_⟩;rw [nW] at hn;have QV:=g2.trans g4;refine ⟨_,rfl,QB (bY.of (QV.sub _ _ hn)) (bY.of (QV.same _ _ ky)) ⟨_,rfl,?_⟩⟩;refine df (λe=>?_) (λe=>?_)
   ·have Yn:th.name=n:=aD e;refine ⟨_,rfl,_,rfl,_,c.Thing,MW,_,_,rfl,QV.same _ _ iA,T.fF,T.fG,l6 th,BP,λp hp=>k p _ _ (QV.new hp) ?_⟩;unfold vR;rw [Hy.Me pr eQ Yn];show upd _ p _ p=_;rw [bN];unfold ez;simp only [Hy.ka eQ];rfl
   ·refine ⟨⟨_,_,rfl⟩,⟨G4,QV⟩,λj hj x hx=>?_⟩
    by_cases su:j=i
    ·subst su;rw [eQ] at hx;cases hx;exact λq=>e (aj q)
    ·exact pr j (by omega) x hx
  ·rintro σ H' ⟨⟨v2,v3,rfl⟩,⟨G1,g1⟩,pr⟩;refine ⟨dI,λp hp=>k p _ _ (g1.new hp) ?_⟩;unfold vR;rw [Hy.find_none (λj x hx=>pr j (by rw [af,hlen];exact (aH.mp hx).1) x hx)];exact bN
def z8 (w:List Ev):List Int:=(Ks339.toldWay w).map Int.ofNat
theorem QW (w:List Ev)(e:Ev):z8 (w++[e])=z8 w++[(e.1:Int),(e.2:Int)]:=by unfold z8 Ks339.toldWay;rw [List.flatMap_append,aB];rfl
theorem xy (w:List Ev):(z8 w).length=2*w.length:=by
 unfold z8 Ks339.toldWay;rw [af]
 induction w with
 | nil=>rfl
 | cons e l ih=>rw [List.flatMap_cons,ay,ih,au];simp only [au,List.length_nil];omega
inductive oG (vs:List V)(H:Hp)(Q:VK)(E:XK):Prop | mk (G:Hp) (a:Addr) (w:List Ev):vs=[.ref a]->bS G H->ju H a w->w.length<=1000->(∀p G' H',Gr [] G H G' H'->dc G' p (z8 w)->Q (.ref p) H')->oG vs H Q E
theorem Lx (T:Tx w K mg c):Fn P w K mg base "tell_way" 1 ["way"] oG:=by
 refine T.wO.ok uF λH Q E hr h=>?_
 ·obtain ⟨G,a,w,rfl,hG,⟨as,ha,hp⟩,hw,k⟩:=h;have hlen:=Paired.length hp;refine ⟨_,(bP (cJ uF 1 (ck bO))
   (bP (eA PassesOwn.never rfl (VD (pv 0)) (eO uF 2) (bQ (dy (gT PySem.F.plainAttrs_list PySem.F.slot_list_extend PySem.F.type_list_extend NL (pv 1) (bM (pv 2) bO)))))
   (bQ (bU (pv 1))))),?_⟩
  refine ⟨hJ,λD hD=>?_⟩;have g0:Gr [] G H G (upd H D (.lst [])):=(Gr.refl hG).cX hD;refine ⟨_,rfl,a,rfl,⟨_,cA.of (g0.same _ _ ha)⟩,Ur (K:=K) (a:=a) (xs:=as.map V.ref) (λi σ H'=>(∃v2,σ=[some (.ref a),some (.ref D),v2])/\Gr [] G H G H'/\H' D=some (.lst ((z8 (w.take i)).map V.int)))
   ⟨⟨_,rfl⟩,g0,bN⟩ (λi σ H' _ p=>cA.of (p.2.1.same _ _ ha)) ?_ ?_⟩
  ·rintro i y σ H' hi ⟨⟨v2,rfl⟩,g,hd⟩;obtain ⟨b,Mq,rfl⟩:=d5 hi;obtain ⟨e,he,hb⟩:=c5 hp Mq;have Gb:H' b=some (.tup [.int (e.1:Int),.int (e.2:Int)]):=g.same _ _ hb;refine ⟨_,rfl,.inl ⟨rfl,_,bY.of hd⟩,_,rfl,D,b,_,_,rfl,rfl,hd,Gb,?_,⟨_,rfl⟩,g.wr (.inl hD) (hG.free hD),?_⟩
   ·rw [af,xy,aO];show _+2<=sizeLine;exact aJ (iH (by omega))
   ·rw [bN,take_snoc he,QW,aB];rfl
  ·rintro σ H' ⟨⟨v2,rfl⟩,g,hd⟩;rw [af,hlen,aZ] at hd;exact ⟨_,rfl,k D _ _ (g.rH hD hd (hG.free hD)) bN⟩
def EE:Verdict->Ks340.Ans
 | .fine _ _=>Ks340.no 0
 | .forever w=>{ret:=1,out:=Ks339.toldWay w}
 | .never w k=>{ret:=2,out:=k::Ks339.toldWay w}
inductive jv (c:Cs)(vs:List V)(H:Hp)(Q:VK)(E:XK):Prop | mk (G:Hp) (a:Addr) (vd:Verdict):vs=[.ref a]->bS G H->jY c H a vd->(z7 vd).length<=1000->(∀p G' H',Gr [] G H G' H'->dc G' p (ez (EE vd))->Q (.ref p) H')->jv c vs H Q E
theorem EF (T:Tx w K mg c)(iW:Fn P w K mg base "tell_way" 1 ["way"] oG):Fn P w K mg base "tell_verdict" 2 ["verdict"] (jv c):=by
 refine T.nJ.ok D5 λH Q E hr h=>?_
 ·obtain ⟨G,a,vd,rfl,hG,⟨dx,wa,sv,ha,jt,hsv⟩,hw,k⟩:=h;refine ⟨_,(bP (cg (bW dk (bT (pv 0) rfl) (cG T.zJ) (b9 _)) (bQ (bU (ck (bM (cG T.zJ) bO)))) b5)
   (bP (cg (bW dk (bT (pv 0) rfl) (cG T.nO) (b9 _)) (bQ (bU (dj i8 (ck (bM (cG T.nO) (bM (bT (pv 0) rfl) bO))) (b6 iW hr (bM (bT (pv 0) rfl) bO))))) b5)
   (bQ (bU (dj i8 (ck (bM (bT (pv 0) rfl) bO)) (b6 iW hr (bM (bT (pv 0) rfl) bO))))))),?_⟩
  refine ⟨_,rfl,_,c.Verdict,dx,_,_,rfl,ha,T.d3,T.d4,oh vd wa sv,rfl,_,rfl,?_⟩;cases vd with
  | fine s' L=>exact iT ⟨dI,λp hp=>k p _ _ ((Gr.refl hG).new hp) bN⟩
  | forever w =>refine iF ⟨_,rfl,_,c.Verdict,dx,_,_,rfl,ha,T.d3,T.d4,oh _ wa sv,rfl,_,rfl,?_⟩;refine iF ⟨_,rfl,_,c.Verdict,dx,_,_,rfl,ha,T.d3,T.d4,oh _ wa sv,dI,λp hp=>?_⟩;have g1:=(Gr.refl (ms:=[]) hG).cX (o:=.lst [.int 1]) hp;refine ⟨_,rfl,_,c.Verdict,dx,_,_,rfl,g1.same _ _ ha,T.d3,T.d4,MR _ wa sv,G,wa,_,rfl,g1.sub,jt.up g1.same,hw,λq G4 H4 g4 hq=>?_⟩;refine ⟨p,q,_,_,rfl,rfl,g4.same _ _ bN,g4.sub _ _ hq,?_,λq2 z6=>k q2 _ _ ((g1.trans g4).new z6) bN⟩;rw [af,xy];exact aJ (iH (by simp only [z7] at hw;simp only [z7,au,List.length_nil];omega))
  | never w n =>refine iF ⟨_,rfl,_,c.Verdict,dx,_,_,rfl,ha,T.d3,T.d4,oh _ wa sv,rfl,_,rfl,?_⟩;refine iT ⟨_,rfl,_,c.Verdict,dx,_,_,rfl,ha,T.d3,T.d4,Va _ wa sv,BP,λp hp=>?_⟩;have g1:=(Gr.refl (ms:=[]) hG).cX (o:=.lst [.int 2,Sz (.never w n)]) hp;refine ⟨_,rfl,_,c.Verdict,dx,_,_,rfl,g1.same _ _ ha,T.d3,T.d4,MR _ wa sv,G,wa,_,rfl,g1.sub,jt.up g1.same,hw,λq G4 H4 g4 hq=>?_⟩;refine ⟨p,q,_,_,rfl,rfl,g4.same _ _ bN,g4.sub _ _ hq,?_,λq2 z6=>k q2 _ _ ((g1.trans g4).new z6) bN⟩;rw [af,xy];exact aJ (iH (by simp only [z7] at hw;simp only [z7,au,List.length_nil];omega))
end
end Hz
namespace Hz
open PySem PySem.Spec PyProof.Rows L2 TL
open Ks337 (Bytes Cond Thing Line House)
open Ks338 (State)
open Ks339 (Spot Verdict)
open Ks340 (Abs Past)
structure RL where
 dx:Addr
 hv:V
 sa:Addr
 e1:Addr
 e2:Addr
 c1:Addr
 c2:Addr
def fK (R:RL):List (Str×V):=[("house",R.hv),("state",.ref R.sa),("events",.ref R.e1),("events_back",.ref R.e2),("changes",.ref R.c1),("changes_back",.ref R.c2)]
theorem z9 (R:RL):(fK R).lookup ("house":Str)=some R.hv:=by rfl
theorem gB (R:RL):(fK R).lookup ("state":Str)=some (.ref R.sa):=by rfl
theorem iX (R:RL):(fK R).lookup ("events":Str)=some (.ref R.e1):=by rfl
theorem pd (R:RL):(fK R).lookup ("events_back":Str)=some (.ref R.e2):=by rfl
theorem oH (R:RL):(fK R).lookup ("changes":Str)=some (.ref R.c1):=by rfl
theorem Aa (R:RL):(fK R).lookup ("changes_back":Str)=some (.ref R.c2):=by rfl
theorem Ha (R:RL)(v:V):gK ("house":Str) v (fK R)=fK {R with hv:=v}:=by rfl
theorem um (R:RL)(a:Addr):gK ("state":Str) (.ref a) (fK R)=fK {R with sa:=a}:=by rfl
theorem EG (R:RL)(a:Addr):gK ("events":Str) (.ref a) (fK R)=fK {R with e1:=a}:=by rfl
theorem Hb (R:RL)(a:Addr):gK ("events_back":Str) (.ref a) (fK R)=fK {R with e2:=a}:=by rfl
theorem BW (R:RL)(a:Addr):gK ("changes":Str) (.ref a) (fK R)=fK {R with c1:=a}:=by rfl
theorem Hc (R:RL)(a:Addr):gK ("changes_back":Str) (.ref a) (fK R)=fK {R with c2:=a}:=by rfl
def RL.ms (r:Addr)(R:RL):List Addr:=[r,R.e1,R.e2,R.c1,R.c2]
structure oj (c:Cs)(G H:Hp)(r:Addr)(R:RL)(cE cP cC cN:List Addr):Prop where
 gr:G r=none
 g1:G R.e1=none
 g2:G R.e2=none
 g3:G R.c1=none
 g4:G R.c2=none
 hr:H r=some (.ins c.b7 R.dx (fK R))
 h1:H R.e1=some (.lst (cE.map V.ref))
 h2:H R.e2=some (.lst (cP.map V.ref))
 h3:H R.c1=some (.lst (cC.map V.ref))
 h4:H R.c2=some (.lst (cN.map V.ref))
 sZ:R.e1≠R.e2
 tf:R.e1≠R.c1
 tj:R.e1≠R.c2
 tm:R.e2≠R.c1
 tp:R.e2≠R.c2
 tq:R.c1≠R.c2
structure jx (ms:List Addr)(G H:Hp)(eG:List Addr)(G' H':Hp):Prop where
 gr:Gr ms G H G' H'
 nw:∀b∈eG,b∈ms\/H b=none
theorem jx.refl {ms:List Addr}{G H:Hp}(w:bS G H):jx ms G H ms G H:=⟨Gr.refl w,λ_ h=>.inl h⟩
theorem jx.trans {ms QX MX:List Addr}{G H G1 H1 G2 H2:Hp}(a:jx ms G H QX G1 H1)(b:jx QX G1 H1 MX G2 H2):jx ms G H MX G2 H2 :=
 ⟨⟨λx o e n=>b.gr.kp x o (a.gr.kp x o e n) λq=>(a.nw x q).elim n λz=>(by rw [z] at e;cases e),a.gr.up.trans b.gr.up,b.gr.sub,
  λx o e=>(b.gr.fr x o e).elim (λe1=>a.gr.fr x o e1) λe1=>e1.elim (λe2=>.inr (.inl (a.gr.th x e2))) λe2=>.inr (.inr e2),λx e=>a.gr.th x (b.gr.th x e)⟩,
  λx h=>(b.nw x h).elim (λq=>a.nw x q) λq=>.inr (a.gr.th x q)⟩
theorem jx.up {ms QX:List Addr}{G H G1 H1 G2 H2:Hp}(a:jx ms G H QX G1 H1)(b:Gr [] G1 H1 G2 H2):jx ms G H QX G2 H2:=⟨a.gr.trans b.any,a.nw⟩
structure Rn (c:Cs)(jd:List Addr)(G0 H0 G H:Hp)(r:Addr)(R:RL)(cE cP cC cN:List Addr):Prop where
 st:jx jd G0 H0 (R.ms r) G H
 rs:oj c G H r R cE cP cC cN
section
variable {c:Cs}{jd:List Addr}{G0 H0 G H G1 H1:Hp}{r p:Addr}{R:RL}{cE cP cC cN as:List Addr}
theorem oj.up (x:oj c G H r R cE cP cC cN)(u:Gr [] G H G1 H1):oj c G1 H1 r R cE cP cC cN :=
 have k:∀b o,H b=some o->H1 b=some o:=λb o e=>u.same b o e
 ⟨u.out x.gr (by rw [x.hr];simp) (λxs=>by rw [k _ _ x.hr];simp),u.out x.g1 (by rw [x.h1];simp) (λxs=>by rw [k _ _ x.h1];simp),u.out x.g2 (by rw [x.h2];simp) (λxs=>by rw [k _ _ x.h2];simp),
  u.out x.g3 (by rw [x.h3];simp) (λxs=>by rw [k _ _ x.h3];simp),u.out x.g4 (by rw [x.h4];simp) (λxs=>by rw [k _ _ x.h4];simp),
  k _ _ x.hr,k _ _ x.h1,k _ _ x.h2,k _ _ x.h3,k _ _ x.h4,x.sZ,x.tf,x.tj,x.tm,x.tp,x.tq⟩
theorem oj.nr (x:oj c G H r R cE cP cC cN):R.e1≠r/\R.e2≠r/\R.c1≠r/\R.c2≠r :=⟨tQ x.h1 x.hr (λz=>nomatch z),tQ x.h2 x.hr (λz=>nomatch z),tQ x.h3 x.hr (λz=>nomatch z),tQ x.h4 x.hr (λz=>nomatch z)⟩
theorem Rn.start (x:oj c G H r R cE cP cC cN)(w:bS G H):Rn c (R.ms r) G H G H r R cE cP cC cN:=⟨jx.refl w,x⟩
theorem Rn.up (x:Rn c jd G0 H0 G H r R cE cP cC cN)(u:Gr [] G H G1 H1):Rn c jd G0 H0 G1 H1 r R cE cP cC cN:=⟨x.st.up u,x.rs.up u⟩
theorem Rn.hv (x:Rn c jd G0 H0 G H r R cE cP cC cN)(v:V):Rn c jd G0 H0 G (upd H r (.ins c.b7 R.dx (fK {R with hv:=v}))) r {R with hv:=v} cE cP cC cN:=by obtain ⟨q1,q2,q3,q4⟩:=x.rs.nr;refine ⟨⟨x.st.gr.wr ?_ x.rs.gr,x.st.nw⟩,x.rs.gr,x.rs.g1,x.rs.g2,x.rs.g3,x.rs.g4,bN,by rw [bR q1];exact x.rs.h1,by rw [bR q2];exact x.rs.h2,by rw [bR q3];exact x.rs.h3,by rw [bR q4];exact x.rs.h4,x.rs.sZ,x.rs.tf,x.rs.tj,x.rs.tm,x.rs.tp,x.rs.tq⟩;exact (x.st.nw r (by simp [RL.ms])).elim .inr .inl
theorem Rn.sa (x:Rn c jd G0 H0 G H r R cE cP cC cN)(v:Addr):Rn c jd G0 H0 G (upd H r (.ins c.b7 R.dx (fK {R with sa:=v}))) r {R with sa:=v} cE cP cC cN:=by obtain ⟨q1,q2,q3,q4⟩:=x.rs.nr;refine ⟨⟨x.st.gr.wr ?_ x.rs.gr,x.st.nw⟩,x.rs.gr,x.rs.g1,x.rs.g2,x.rs.g3,x.rs.g4,bN,by rw [bR q1];exact x.rs.h1,by rw [bR q2];exact x.rs.h2,by rw [bR q3];exact x.rs.h3,by rw [bR q4];exact x.rs.h4,x.rs.sZ,x.rs.tf,x.rs.tj,x.rs.tm,x.rs.tp,x.rs.tq⟩;exact (x.st.nw r (by simp [RL.ms])).elim .inr .inl
theorem Rn.fresh (x:Rn c jd G0 H0 G H r R cE cP cC cN)(hp:H p=none):r≠p/\R.e1≠p/\R.e2≠p/\R.c1≠p/\R.c2≠p/\G p=none/\H0 p=none :=⟨cb x.rs.hr hp,cb x.rs.h1 hp,cb x.rs.h2 hp,cb x.rs.h3 hp,cb x.rs.h4 hp,x.st.gr.sub.free hp,x.st.gr.th _ hp⟩
theorem Rn.e1 (x:Rn c jd G0 H0 G H r R cE cP cC cN)(hp:H p=none):Rn c jd G0 H0 G (upd (upd H p (.lst (as.map V.ref))) r (.ins c.b7 R.dx (fK {R with e1:=p}))) r {R with e1:=p} as cP cC cN:=by
 obtain ⟨q1,q2,q3,q4⟩:=x.rs.nr;obtain ⟨nr,n1,n2,n3,n4,hg,h0⟩:=x.fresh hp;refine ⟨⟨(x.st.gr.cX hp).wr ((x.st.nw r (by simp [RL.ms])).elim .inr .inl) x.rs.gr,λb hb=>?_⟩,x.rs.gr,hg,x.rs.g2,x.rs.g3,x.rs.g4,bN,by rw [bR (λz=>nr z.symm),bN],by rw [bR q2,bR n2];exact x.rs.h2,by rw [bR q3,bR n3];exact x.rs.h3,by rw [bR q4,bR n4];exact x.rs.h4,λz=>n2 z.symm,λz=>n3 z.symm,λz=>n4 z.symm,x.rs.tm,x.rs.tp,x.rs.tq⟩;simp only [RL.ms,ak,List.not_mem_nil,or_false] at hb;rcases hb with rfl | rfl | rfl | rfl | rfl
 ·exact x.st.nw _ (by simp [RL.ms])
 ·exact .inr h0
 ·exact x.st.nw _ (by simp [RL.ms])
 ·exact x.st.nw _ (by simp [RL.ms])
 ·exact x.st.nw _ (by simp [RL.ms])
theorem Rn.e2 (x:Rn c jd G0 H0 G H r R cE cP cC cN)(hp:H p=none):Rn c jd G0 H0 G (upd (upd H p (.lst (as.map V.ref))) r (.ins c.b7 R.dx (fK {R with e2:=p}))) r {R with e2:=p} cE as cC cN:=by
 obtain ⟨q1,q2,q3,q4⟩:=x.rs.nr;obtain ⟨nr,n1,n2,n3,n4,hg,h0⟩:=x.fresh hp;refine ⟨⟨(x.st.gr.cX hp).wr ((x.st.nw r (by simp [RL.ms])).elim .inr .inl) x.rs.gr,λb hb=>?_⟩,x.rs.gr,x.rs.g1,hg,x.rs.g3,x.rs.g4,bN,by rw [bR q1,bR n1];exact x.rs.h1,by rw [bR (λz=>nr z.symm),bN],by rw [bR q3,bR n3];exact x.rs.h3,by rw [bR q4,bR n4];exact x.rs.h4,n1,x.rs.tf,x.rs.tj,λz=>n3 z.symm,λz=>n4 z.symm,x.rs.tq⟩;simp only [RL.ms,ak,List.not_mem_nil,or_false] at hb;rcases hb with rfl | rfl | rfl | rfl | rfl
 ·exact x.st.nw _ (by simp [RL.ms])
 ·exact x.st.nw _ (by simp [RL.ms])
 ·exact .inr h0
 ·exact x.st.nw _ (by simp [RL.ms])
 ·exact x.st.nw _ (by simp [RL.ms])
theorem Rn.c1 (x:Rn c jd G0 H0 G H r R cE cP cC cN)(hp:H p=none):Rn c jd G0 H0 G (upd (upd H p (.lst (as.map V.ref))) r (.ins c.b7 R.dx (fK {R with c1:=p}))) r {R with c1:=p} cE cP as cN:=by
 obtain ⟨q1,q2,q3,q4⟩:=x.rs.nr;obtain ⟨nr,n1,n2,n3,n4,hg,h0⟩:=x.fresh hp;refine ⟨⟨(x.st.gr.cX hp).wr ((x.st.nw r (by simp [RL.ms])).elim .inr .inl) x.rs.gr,λb hb=>?_⟩,x.rs.gr,x.rs.g1,x.rs.g2,hg,x.rs.g4,bN,by rw [bR q1,bR n1];exact x.rs.h1,by rw [bR q2,bR n2];exact x.rs.h2,by rw [bR (λz=>nr z.symm),bN],by rw [bR q4,bR n4];exact x.rs.h4,x.rs.sZ,n1,x.rs.tj,n2,x.rs.tp,λz=>n4 z.symm⟩;simp only [RL.ms,ak,List.not_mem_nil,or_false] at hb;rcases hb with rfl | rfl | rfl | rfl | rfl
 ·exact x.st.nw _ (by simp [RL.ms])
 ·exact x.st.nw _ (by simp [RL.ms])
 ·exact x.st.nw _ (by simp [RL.ms])
 ·exact .inr h0
 ·exact x.st.nw _ (by simp [RL.ms])
theorem Rn.c2 (x:Rn c jd G0 H0 G H r R cE cP cC cN)(hp:H p=none):Rn c jd G0 H0 G (upd (upd H p (.lst (as.map V.ref))) r (.ins c.b7 R.dx (fK {R with c2:=p}))) r {R with c2:=p} cE cP cC as:=by
 obtain ⟨q1,q2,q3,q4⟩:=x.rs.nr;obtain ⟨nr,n1,n2,n3,n4,hg,h0⟩:=x.fresh hp;refine ⟨⟨(x.st.gr.cX hp).wr ((x.st.nw r (by simp [RL.ms])).elim .inr .inl) x.rs.gr,λb hb=>?_⟩,x.rs.gr,x.rs.g1,x.rs.g2,x.rs.g3,hg,bN,by rw [bR q1,bR n1];exact x.rs.h1,by rw [bR q2,bR n2];exact x.rs.h2,by rw [bR q3,bR n3];exact x.rs.h3,by rw [bR (λz=>nr z.symm),bN],x.rs.sZ,x.rs.tf,n1,x.rs.tm,n2,n3⟩;simp only [RL.ms,ak,List.not_mem_nil,or_false] at hb;rcases hb with rfl | rfl | rfl | rfl | rfl
 ·exact x.st.nw _ (by simp [RL.ms])
 ·exact x.st.nw _ (by simp [RL.ms])
 ·exact x.st.nw _ (by simp [RL.ms])
 ·exact x.st.nw _ (by simp [RL.ms])
 ·exact .inr h0
theorem Rn.w1 (x:Rn c jd G0 H0 G H r R cE cP cC cN):Rn c jd G0 H0 G (upd H R.e1 (.lst (as.map V.ref))) r R as cP cC cN:=by obtain ⟨q1,q2,q3,q4⟩:=x.rs.nr;exact ⟨⟨x.st.gr.wr ((x.st.nw R.e1 (by simp [RL.ms])).elim .inr .inl) x.rs.g1,x.st.nw⟩,x.rs.gr,x.rs.g1,x.rs.g2,x.rs.g3,x.rs.g4,by rw [bR (λz=>q1 z.symm)];exact x.rs.hr,bN,by rw [bR (λz=>x.rs.sZ z.symm)];exact x.rs.h2,by rw [bR (λz=>x.rs.tf z.symm)];exact x.rs.h3,by rw [bR (λz=>x.rs.tj z.symm)];exact x.rs.h4,x.rs.sZ,x.rs.tf,x.rs.tj,x.rs.tm,x.rs.tp,x.rs.tq⟩
theorem Rn.w2 (x:Rn c jd G0 H0 G H r R cE cP cC cN):Rn c jd G0 H0 G (upd H R.e2 (.lst (as.map V.ref))) r R cE as cC cN:=by obtain ⟨q1,q2,q3,q4⟩:=x.rs.nr;exact ⟨⟨x.st.gr.wr ((x.st.nw R.e2 (by simp [RL.ms])).elim .inr .inl) x.rs.g2,x.st.nw⟩,x.rs.gr,x.rs.g1,x.rs.g2,x.rs.g3,x.rs.g4,by rw [bR (λz=>q2 z.symm)];exact x.rs.hr,by rw [bR x.rs.sZ];exact x.rs.h1,bN,by rw [bR (λz=>x.rs.tm z.symm)];exact x.rs.h3,by rw [bR (λz=>x.rs.tp z.symm)];exact x.rs.h4,x.rs.sZ,x.rs.tf,x.rs.tj,x.rs.tm,x.rs.tp,x.rs.tq⟩
theorem Rn.w3 (x:Rn c jd G0 H0 G H r R cE cP cC cN):Rn c jd G0 H0 G (upd H R.c1 (.lst (as.map V.ref))) r R cE cP as cN:=by obtain ⟨q1,q2,q3,q4⟩:=x.rs.nr;exact ⟨⟨x.st.gr.wr ((x.st.nw R.c1 (by simp [RL.ms])).elim .inr .inl) x.rs.g3,x.st.nw⟩,x.rs.gr,x.rs.g1,x.rs.g2,x.rs.g3,x.rs.g4,by rw [bR (λz=>q3 z.symm)];exact x.rs.hr,by rw [bR x.rs.tf];exact x.rs.h1,by rw [bR x.rs.tm];exact x.rs.h2,bN,by rw [bR (λz=>x.rs.tq z.symm)];exact x.rs.h4,x.rs.sZ,x.rs.tf,x.rs.tj,x.rs.tm,x.rs.tp,x.rs.tq⟩
theorem Rn.w4 (x:Rn c jd G0 H0 G H r R cE cP cC cN):Rn c jd G0 H0 G (upd H R.c2 (.lst (as.map V.ref))) r R cE cP cC as:=by obtain ⟨q1,q2,q3,q4⟩:=x.rs.nr;exact ⟨⟨x.st.gr.wr ((x.st.nw R.c2 (by simp [RL.ms])).elim .inr .inl) x.rs.g4,x.st.nw⟩,x.rs.gr,x.rs.g1,x.rs.g2,x.rs.g3,x.rs.g4,by rw [bR (λz=>q4 z.symm)];exact x.rs.hr,by rw [bR x.rs.tj];exact x.rs.h1,by rw [bR x.rs.tp];exact x.rs.h2,by rw [bR x.rs.tq];exact x.rs.h3,bN,x.rs.sZ,x.rs.tf,x.rs.tj,x.rs.tm,x.rs.tp,x.rs.tq⟩
end
def Xp (c:Cs)(G:Hp)(hv:V)(a:Abs):Prop:=(a.on=false->hv=.cw)/\(a.on=true->∃ha,hv=.ref ha/\eN c G ha a.house)
def MY (e:Ev)(sv:V):List (Str×V):=[("thing",.int (e.1:Int)),("value",.int (e.2:Int)),("before",sv)]
theorem Kf (e:Ev)(sv:V):(MY e sv).lookup ("thing":Str)=some (.int (e.1:Int)):=by rfl
theorem Kg (e:Ev)(sv:V):(MY e sv).lookup ("value":Str)=some (.int (e.2:Int)):=by rfl
theorem QY (e:Ev)(sv:V):(MY e sv).lookup ("before":Str)=some sv:=by rfl
def Ab (c:Cs)(G:Hp)(a:Addr)(p:Past):Prop:=∃dx sa,G a=some (.ins c.Event dx (MY p.event (.ref sa)))/\cu G sa p.before
def vS (c:Cs)(G:Hp)(a:Addr)(p:Past):Prop:=∃dx sv,G a=some (.ins c.Event dx (MY p.event sv))
theorem Ab.up {c:Cs}{G G':Hp}{a:Addr}{p:Past}(h:Ab c G a p)(u:bS G G'):Ab c G' a p:=let ⟨dx,sa,x,y⟩:=h;⟨dx,sa,u _ _ x,y.up u⟩
theorem vS.up {c:Cs}{G G':Hp}{a:Addr}{p:Past}(h:vS c G a p)(u:bS G G'):vS c G' a p:=let ⟨dx,sa,x⟩:=h;⟨dx,sa,u _ _ x⟩
structure u6 (c:Cs)(G:Hp)(R:RL)(cE cP cC cN:List Addr)(a:Abs):Prop where
 house:Xp c G R.hv a
 now:cu G R.sa a.now
 past:Paired (Ab c G) cE a.past.reverse
 ahead:Paired (vS c G) cP a.ahead.reverse
 edits:Paired (cY c a.house.things G) cC a.edits.reverse
 unedits:Paired (cY c a.house.things G) cN a.unedits.reverse
theorem u6.up {c:Cs}{G G':Hp}{R:RL}{cE cP cC cN:List Addr}{a:Abs}(x:u6 c G R cE cP cC cN a)(u:bS G G'):u6 c G' R cE cP cC cN a :=⟨⟨x.house.1,λh=>let ⟨ha,e,q⟩:=x.house.2 h;⟨ha,e,q.up u⟩⟩,x.now.up u,Paired.imp' (λ_ _ q=>Ab.up q u) x.past,Paired.imp' (λ_ _ q=>vS.up q u) x.ahead,Paired.imp' (λ_ _ q=>cY.up q u) x.edits,Paired.imp' (λ_ _ q=>cY.up q u) x.unedits⟩
def Run (c:Cs)(G H:Hp)(r:Addr)(ms:List Addr)(a:Abs):Prop:=∃(R:RL)(cE cP cC cN:List Addr),ms=R.ms r/\oj c G H r R cE cP cC cN/\u6 c G R cE cP cC cN a
theorem Run.up {c:Cs}{G H G' H':Hp}{r:Addr}{ms:List Addr}{a:Abs}(x:Run c G H r ms a)(u:Gr [] G H G' H'):Run c G' H' r ms a :=let ⟨R,cE,cP,cC,cN,e,s,v⟩:=x;⟨R,cE,cP,cC,cN,e,s.up u,v.up u.up⟩
section
variable {P:Program}{w:World}{K:PySem.W.Frag}{mg:Str->Option Value}{base:Heap}{c:Cs}
structure OF (c:Cs)(H H':Hp)(r:Addr)(R:RL):Prop where
 sm:∀b o,b≠r->H b=some o->H' b=some o
 th:∀b,H' b=none->H b=none
 f1:H R.e1=none
 f2:H R.e2=none
 f3:H R.c1=none
 f4:H R.c2=none
 hr:H' r=some (.ins c.b7 R.dx (fK R))
 hs:H' R.sa=some (.tup [])
 h1:H' R.e1=some (.lst [])
 h2:H' R.e2=some (.lst [])
 h3:H' R.c1=some (.lst [])
 h4:H' R.c2=some (.lst [])
 sZ:R.e1≠R.e2
 tf:R.e1≠R.c1
 tj:R.e1≠R.c2
 tm:R.e2≠R.c1
 tp:R.e2≠R.c2
 tq:R.c1≠R.c2
 hv:R.hv=.cw
inductive Ac (c:Cs)(vs:List V)(H:Hp)(Q:VK)(E:XK):Prop | mk (p dx:Addr):vs=[.ref p]->H p=some (.ins c.b7 dx [])->(∀R H',OF c H H' p R->Q .cw H')->Ac c vs H Q E
def HZ (P:Program)(w:World)(K:PySem.W.Frag)(mg:Str->Option Value)(base:Heap)(c:Cs):Prop:=∃fI fd,Mk K c.b7 fI/\jD P w K mg base qZ 1 fI fd ["self"] (Ac c)/\Binds K fd ["self"] []/\mg "Running"=some (.ref c.b7)
theorem cq {H:Hp}{p q:Addr}{o:HO}(h:upd H p o q=none):q≠p/\H q=none:=by
 have n:q≠p:=λz=>by rw [z,bN] at h;cases h
 exact ⟨n,by rw [bR n] at h;exact h⟩
theorem Kh (T:Tx w K mg c):HZ P w K mg base c:=by
 obtain ⟨f,fd,F,hm,hb⟩:=T.jS.zt (P:=P) (w:=w) (mg:=mg) (base:=base) (k:=0) (sp:=Ac c) ym (λvs H Q E h=>by obtain ⟨p,dx,rfl,_⟩:=h;rfl) (λf du A outer s H vs Q E hr h=>by
  obtain ⟨p,dx,rfl,hp,k⟩:=h;refine ⟨_,(bP (cK (pv 0) cF rfl)
   (bP (cK (pv 0) (ip bO) rfl)
   (bP (cK (pv 0) (ck bO) rfl)
   (bP (cK (pv 0) (ck bO) rfl)
   (bP (cK (pv 0) (ck bO) rfl)
   (bQ (cK (pv 0) (ck bO) rfl))))))),?_⟩
  refine ⟨_,rfl,_,c.b7,dx,_,rfl,hp,T.b0,T.b4,by decide,?_⟩;refine ⟨hJ,λsa JV=>?_⟩;obtain ⟨ns,JV⟩:=cq JV;refine ⟨_,rfl,_,c.b7,dx,_,rfl,by rw [bR (λz=>ns z.symm),bN],T.b0,T.b4,aC (dW (ag 0)) (by decide),?_⟩;refine ⟨hJ,λe1 h1=>?_⟩;obtain ⟨n1,h1⟩:=cq h1;obtain ⟨n1s,h1⟩:=cq h1;obtain ⟨_,h1⟩:=cq h1;refine ⟨_,rfl,_,c.b7,dx,_,rfl,by rw [bR (λz=>n1 z.symm),bN],T.b0,T.b4,aC (dW (dW (ag 0))) (by decide),?_⟩;refine ⟨hJ,λe2 h2=>?_⟩;obtain ⟨n2,h2⟩:=cq h2;obtain ⟨n21,h2⟩:=cq h2;obtain ⟨_,h2⟩:=cq h2;obtain ⟨n2s,h2⟩:=cq h2;obtain ⟨_,h2⟩:=cq h2;refine ⟨_,rfl,_,c.b7,dx,_,rfl,by rw [bR (λz=>n2 z.symm),bN],T.b0,T.b4,aC (dW (dW (dW (ag 0)))) (by decide),?_⟩;refine ⟨hJ,λc1 h3=>?_⟩;obtain ⟨n3,h3⟩:=cq h3;obtain ⟨n32,h3⟩:=cq h3;obtain ⟨_,h3⟩:=cq h3;obtain ⟨n31,h3⟩:=cq h3;obtain ⟨_,h3⟩:=cq h3;obtain ⟨n3s,h3⟩:=cq h3;obtain ⟨_,h3⟩:=cq h3;refine ⟨_,rfl,_,c.b7,dx,_,rfl,by rw [bR (λz=>n3 z.symm),bN],T.b0,T.b4,aC (dW (dW (dW (dW (ag 0))))) (by decide),?_⟩;refine ⟨hJ,λc2 h4=>?_⟩;obtain ⟨n4,h4⟩:=cq h4;obtain ⟨n43,h4⟩:=cq h4;obtain ⟨_,h4⟩:=cq h4;obtain ⟨n42,h4⟩:=cq h4;obtain ⟨_,h4⟩:=cq h4;obtain ⟨n41,h4⟩:=cq h4;obtain ⟨_,h4⟩:=cq h4;obtain ⟨n4s,h4⟩:=cq h4;obtain ⟨_,h4⟩:=cq h4;refine ⟨_,rfl,_,c.b7,dx,_,rfl,by rw [bR (λz=>n4 z.symm),bN],T.b0,T.b4,aC (dW (dW (dW (dW (dW (ag 0)))))) (by decide),?_⟩;refine k ⟨dx,.cw,sa,e1,e2,c1,c2⟩ _ ⟨λb o nb e=>?_,λb e=>?_,h1,h2,h3,h4,bN,?_,?_,?_,?_,?_,λz=>n21 z.symm,λz=>n31 z.symm,λz=>n41 z.symm,λz=>n32 z.symm,λz=>n42 z.symm,λz=>n43 z.symm,rfl⟩
  ·rw [bR nb,bR (cb e h4),bR nb,bR (cb e h3),bR nb,bR (cb e h2),bR nb,bR (cb e h1),bR nb,bR (cb e JV),bR nb];exact e
  ·exact (cq (cq (cq (cq (cq (cq (cq (cq (cq (cq (cq e).2).2).2).2).2).2).2).2).2).2).2
  ·rw [bR ns,bR (λz=>n4s z.symm),bR ns,bR (λz=>n3s z.symm),bR ns,bR (λz=>n2s z.symm),bR ns,bR (λz=>n1s z.symm),bR ns,bN]
  ·rw [bR n1,bR (λz=>n41 z.symm),bR n1,bR (λz=>n31 z.symm),bR n1,bR (λz=>n21 z.symm),bR n1,bN]
  ·rw [bR n2,bR (λz=>n42 z.symm),bR n2,bR (λz=>n32 z.symm),bR n2,bN]
  ·rw [bR n3,bR (λz=>n43 z.symm),bR n3,bN]
  ·rw [bR n4,bN])
 exact ⟨f,fd,⟨T.jR.zr,hm.at_,hm.fn,T.jR.kp⟩,F,hb,T.jR.mg⟩
def Ua (c:Cs):TE:=λ_ H Q=>∀r R H',H r=none->bS H H'->OF c H H' r R->Q (.ref r) H'
theorem Xq {X:Cx}{j:Nat}{p pos:Pos}(M:HZ X.prog X.w X.K X.mg X.base c)(hr:eE j X.A)(hk:2<=j:=by decide)(hg:Gl X "Running":=by rfl):PE X (.Call (.Name "Running" p) [] [] pos) (Ua c):=by
 obtain ⟨fI,fd,M,F,hb,hm⟩:=M;intro pins s σ H Q I h;refine wpAny_Call_Name_kw (vi I hg hm ?_ (by decide));refine PySem.W.callWith_K0 I.mX M.kp ?_;refine B8 (us:=[]) (vs:=[]) (E:=E0) M F (hr.mono hk) hb .nil Ds I .nil λx dx nx nd ne=>⟨x,dx,rfl,bN,λR H' nr=>⟨rfl,?_⟩⟩
 have u:∀{b:Addr},upd (upd H dx (.own x)) x (.ins c.b7 dx []) b=none->H b=none:=λe=>(cq (cq e).2).2;refine h x R H' nx (λb o e=>nr.sm b o (cb e nx) (by rw [bR (cb e nx),bR (cb e nd)];exact e)) ⟨λb o nb e=>nr.sm b o nb (by rw [bR nb,bR (cb e nd)];exact e),λb e=>u (nr.th b e),u nr.f1,u nr.f2,u nr.f3,u nr.f4,nr.hr,nr.hs,nr.h1,nr.h2,nr.h3,nr.h4,nr.sZ,nr.tf,nr.tj,nr.tm,nr.tp,nr.tq,nr.hv⟩
inductive iY (c:Cs)(vs:List V)(H:Hp)(Q:VK)(E:XK):Prop | mk (G:Hp) (r:Addr) (R:RL) (cE cP cC cN:List Addr):vs=[.ref r]->bS G H->oj c G H r R cE cP cC cN->(∀p1 p2 H',Rn c (R.ms r) G H G H' r {R with e1:=p1,e2:=p2} [] [] cC cN->Q .cw H')->iY c vs H Q E
theorem CQ (T:Tx w K mg c):Fn P w K mg base "forget_events" 1 ["running"] (iY c):=by
 refine T.mE.ok Ci λH Q E hr h=>?_
 ·obtain ⟨G,r,R,cE,cP,cC,cN,rfl,hG,x,k⟩:=h;refine ⟨_,(bP (cK (pv 0) (ck bO) rfl)
   (bQ (cK (pv 0) (ck bO) rfl))),?_⟩
  refine ⟨hJ,λp1 h1=>⟨_,rfl,_,c.b7,R.dx,_,rfl,(bS.new h1) _ _ x.hr,T.b0,T.b4,by show 6<_;decide,?_⟩⟩;have x1:=(Rn.start x hG).e1 (as:=[]) h1;refine ⟨hJ,λp2 h2=>?_⟩;rw [EG] at h2 ⊢;refine ⟨_,rfl,_,c.b7,R.dx,_,rfl,(bS.new h2) _ _ x1.rs.hr,T.b0,T.b4,by show 6<_;decide,?_⟩;rw [Hb];exact k p1 p2 _ (x1.e2 (as:=[]) h2)
inductive ig (c:Cs)(vs:List V)(H:Hp)(Q:VK)(E:XK):Prop | mk (G:Hp) (r:Addr) (R:RL) (cE cP cC cN:List Addr):vs=[.ref r]->bS G H->oj c G H r R cE cP cC cN->(∀p1 p2 H',Rn c (R.ms r) G H G H' r {R with c1:=p1,c2:=p2} cE cP [] []->Q .cw H')->ig c vs H Q E
theorem A9 (T:Tx w K mg c):Fn P w K mg base "forget_changes" 1 ["running"] (ig c):=by
 refine T.lM.ok A7 λH Q E hr h=>?_
 ·obtain ⟨G,r,R,cE,cP,cC,cN,rfl,hG,x,k⟩:=h;refine ⟨_,(bP (cK (pv 0) (ck bO) rfl)
   (bQ (cK (pv 0) (ck bO) rfl))),?_⟩
  refine ⟨hJ,λp1 h1=>⟨_,rfl,_,c.b7,R.dx,_,rfl,(bS.new h1) _ _ x.hr,T.b0,T.b4,by show 6<_;decide,?_⟩⟩;have x1:=(Rn.start x hG).c1 (as:=[]) h1;refine ⟨hJ,λp2 h2=>?_⟩;rw [BW] at h2 ⊢;refine ⟨_,rfl,_,c.b7,R.dx,_,rfl,(bS.new h2) _ _ x1.rs.hr,T.b0,T.b4,by show 6<_;decide,?_⟩;rw [Hc];exact k p1 p2 _ (x1.c2 (as:=[]) h2)
inductive CS (c:Cs)(vs:List V)(H:Hp)(Q:VK)(E:XK):Prop | mk (G:Hp) (r:Addr) (ms:List Addr) (a:Abs):vs=[.ref r]->bS G H->Run c G H r ms a->(∀p G' H' eG,jx ms G H eG G' H'->Run c G' H' r eG {}->dc G' p [0]->Q (.ref p) H')->CS c vs H Q E
theorem SD (T:Tx w K mg c)(gb:Fn P w K mg base "forget_events" 1 ["running"] (iY c))(fL:Fn P w K mg base "forget_changes" 1 ["running"] (ig c)):Fn P w K mg base "begin" 2 ["running"] (CS c):=by
 refine T.Fz.ok Sb λH Q E hr h=>?_
 ·obtain ⟨G,r,ms,a,rfl,hG,⟨R,cE,cP,cC,cN,rfl,x,xv⟩,k⟩:=h;refine ⟨_,(bP (cK (pv 0) cF rfl)
   (bP (cK (pv 0) (ip bO) rfl)
   (bP (dy (b6 gb hr (bM (pv 0) bO)))
   (bP (dy (b6 fL hr (bM (pv 0) bO)))
   (bQ (bU (ck (bM b8 bO)))))))),?_⟩
  refine ⟨_,rfl,_,c.b7,R.dx,_,rfl,x.hr,T.b0,T.b4,by show 6<_;decide,?_⟩;rw [Ha];have x1:=(Rn.start x hG).hv .cw;refine ⟨hJ,λs0 YR=>?_⟩;have g2:=(Gr.refl (ms:=[]) x1.st.gr.sub).new (o:=.tup []) YR;have x2:=x1.up g2;refine ⟨_,rfl,_,c.b7,R.dx,_,rfl,x2.rs.hr,T.b0,T.b4,by show 6<_;decide,?_⟩;rw [um];have x3:=x2.sa s0;refine ⟨_,rfl,_,r,_,_,_,_,_,rfl,x3.st.gr.sub,x3.rs,λp1 p2 H4 x4=>?_⟩;refine ⟨_,rfl,_,r,_,_,_,_,_,rfl,x4.st.gr.sub,x4.rs,λp3 p4 H5 x5=>?_⟩;refine ⟨dI,λp hp=>?_⟩;have g6:=(Gr.refl (ms:=[]) x5.st.gr.sub).new (o:=.lst [.int 0]) hp;have x6:=x5.up g6;refine k p _ _ _ (((x3.st.trans x4.st).trans x5.st).up g6) ⟨_,_,_,_,_,rfl,x6.rs,⟨⟨λ_=>rfl,λh=>nomatch h⟩,?_,.nil,.nil,.nil,.nil⟩⟩ bN;exact g6.up _ _ bN
def aaJ:Verdict->Int
 | .fine _ _=>0
 | .forever _=>-41
 | .never _ _=>-42
inductive jZ (c:Cs)(vs:List V)(H:Hp)(Q:VK)(E:XK):Prop | mk (a:Addr) (vd:Verdict):vs=[.ref a]->jY c H a vd->Q (.int (aaJ vd)) H->jZ c vs H Q E
theorem Ad (T:Tx w K mg c):Fn P w K mg base "verdict_refusal" 1 ["verdict"] (jZ c):=by
 refine T.kG.ok zk λH Q E hr h=>?_
 ·obtain ⟨a,vd,rfl,⟨dx,wa,sv,ha,jt,hsv⟩,k⟩:=h;refine ⟨_,(bP (cg (bW dk (bT (pv 0) rfl) (cG T.o7) (b9 _)) (bQ (bU (cG T.jU))) b5)
   (bP (cg (bW dk (bT (pv 0) rfl) (cG T.nO) (b9 _)) (bQ (bU (cG T.nP))) b5)
   (bQ (bU b8)))),?_⟩
  refine ⟨_,rfl,_,c.Verdict,dx,_,_,rfl,ha,T.d3,T.d4,oh vd wa sv,rfl,_,rfl,?_⟩;cases vd with
  | fine s' L=>exact iF ⟨_,rfl,_,c.Verdict,dx,_,_,rfl,ha,T.d3,T.d4,oh _ wa sv,rfl,_,rfl,iF k⟩
  | forever w=>exact iT k
  | never w n=>exact iF ⟨_,rfl,_,c.Verdict,dx,_,_,rfl,ha,T.d3,T.d4,oh _ wa sv,rfl,_,rfl,iT k⟩
def MZ (c:Cs)(G H G' H':Hp)(r:Addr)(R:RL)(cC cN:List Addr)(ha:Addr)(v:V):Verdict->Prop
 | .fine s _=>v=.int 0/\∃p1 p2 sa,Rn c (R.ms r) G H G' H' r {R with hv:=.ref ha,sa:=sa,e1:=p1,e2:=p2} [] [] cC cN/\cu G' sa s
 | .forever _=>v=.int (-41)/\Gr [] G H G' H'
 | .never _ _=>v=.int (-42)/\Gr [] G H G' H'
inductive mT (c:Cs)(vs:List V)(H:Hp)(Q:VK)(E:XK):Prop | mk (G:Hp) (r:Addr) (R:RL) (cE cP cC cN:List Addr) (ha sa:Addr) (h:House) (s:State):vs=[.ref r,.ref ha,.ref sa]->bS G H->oj c G H r R cE cP cC cN->eN c G ha h->cu G sa s->Hy.Ok h.things s->Hy.fC h->Hy.prod h.things<=64->(∀v G' H',bS G G'->MZ c G H G' H' r R cC cN ha v (Ks339.verdict h s)->Q v H')->mT c vs H Q E
theorem Ki (T:Tx w K mg c)(kl:Fn P w K mg base "judge" 8 ["house","state"] (sU c))(kJ:Fn P w K mg base "verdict_refusal" 1 ["verdict"] (jZ c))(gb:Fn P w K mg base "forget_events" 1 ["running"] (iY c)) :
  Fn P w K mg base "settle_in" 9 ["running","house","state"] (mT c):=by
 refine T.uN.ok rG λH Q E hr h=>?_
 ·obtain ⟨G,r,R,cE,cP,cC,cN,ha,sa,h,st,rfl,hG,x,hh,hs,cn,wf,Ey,k⟩:=h;refine ⟨_,(bP (cJ rG 3 (b6 kl hr (bM (pv 1) (bM (pv 2) bO))))
   (bP (cJ rG 4 (b6 kJ hr (bM (pv 3) bO)))
   (bP (cg (bW dk (pv 4) b8 (b9 _)) (bP (cK (pv 0) (pv 1) rfl)
   (bP (cK (pv 0) (bT (pv 3) rfl) rfl)
   (bQ (dy (b6 gb hr (bM (pv 0) bO)))))) b5)
   (bQ (bU (pv 4)))))),?_⟩
  refine ⟨_,rfl,_,rfl,G,ha,sa,h,st,rfl,hG,hh,hs,cn,wf,Ey,λvr G1 H1 g1 hv=>?_⟩;refine ⟨_,rfl,vr,_,rfl,hv.up g1.sub,?_⟩;have x1:=(Rn.start x hG).up g1;refine ⟨_,rfl,rfl,_,rfl,?_⟩;cases mf:Ks339.verdict h st with
  | forever w =>refine iF ⟨_,rfl,k _ G1 H1 g1.up ?_⟩;rw [mf];exact ⟨rfl,g1⟩
  | never w n =>refine iF ⟨_,rfl,k _ G1 H1 g1.up ?_⟩;rw [mf];exact ⟨rfl,g1⟩
  | fine s' L =>rw [mf] at hv;obtain ⟨dxv,wa,sv,hvr,_,sb,rfl,Ae⟩:=hv;refine iT ⟨_,rfl,_,rfl,_,c.b7,R.dx,_,rfl,x1.rs.hr,T.b0,T.b4,by show 6<_;decide,?_⟩;rw [Ha];have x2:=x1.hv (.ref ha);refine ⟨_,rfl,_,c.Verdict,dxv,_,_,rfl,x2.st.gr.sub _ _ hvr,T.d3,T.d4,Vb _ wa (.ref sb),_,rfl,_,c.b7,R.dx,_,rfl,x2.rs.hr,T.b0,T.b4,by show 6<_;decide,?_⟩;rw [um];have x3:=x2.sa sb;refine ⟨_,rfl,G1,r,_,_,_,_,_,rfl,x3.st.gr.sub,x3.rs,λp1 p2 H4 x4=>⟨_,rfl,k _ G1 H4 g1.up ?_⟩⟩;rw [mf];exact ⟨rfl,p1,p2,sb,⟨x3.st.trans x4.st,x4.rs⟩,Ae⟩
inductive oI (c:Cs)(vs:List V)(H:Hp)(Q:VK)(E:XK):Prop | mk (G:Hp) (l:Addr) (h:House):vs=[.ref l]->bS G H->dG c H l h.things->h.things.length<=6->(∀p G' H',Gr [] G H G' H'->cu G' p (Ks340.zeros h)->Q (.ref p) H')->oI c vs H Q E
theorem Ly (T:Tx w K mg c):Fn P w K mg base "all_zero" 1 ["things"] (oI c):=by
 refine T.wW.ok uG λH Q E hr h=>?_
 ·obtain ⟨G,l,h,rfl,hG,⟨as,hl,ha⟩,h6,k⟩:=h;refine ⟨_,(bQ (bU (gy xO (by rfl) T.AJ JD (bM (qt (own:=[("thing",1)]) rfl (uG).nd (gC (pv 0)) (iK (by rfl)) (λ_ _ _ _ _=>eO uG 1) (λ_ _ _ _ _=>j7) (λ_ _ _ _ _=>b8)) bO)))),?_⟩;refine ⟨_,rfl,l,rfl,⟨_,bY.of hl⟩,λD hD=>?_⟩;refine qF (K:=K) (a:=l) (xs:=as.map V.ref) (λi H'=>bS H H'/\H' D=some (.lst (c0 ((h.things.take i).map λ_=>0)))) ⟨bS.new hD,bN⟩ (λi H' _ p=>bY.of (p.1 _ _ hl)) ?_ ?_
  ·rintro i x H' hi ⟨sm,hd⟩;obtain ⟨a,f6,rfl⟩:=d5 hi;obtain ⟨th,eQ,_⟩:=c5 ha f6;refine ⟨rfl,iT ⟨_,hd,?_,?_,?_⟩⟩
   ·rw [dq,af,aO];exact cx (by omega)
   ·intro q o eq;rw [bR (λz=>by rw [z,hD] at eq;cases eq)];exact sm _ _ eq
   ·rw [bN,take_snoc eQ,aB,nZ];rfl
  ·rintro H1 ⟨s1,hd⟩;rw [af,Paired.length ha,aZ] at hd;refine ⟨D,_,rfl,.inl ⟨bY.of hd,λp hp=>?_⟩⟩;exact k p _ _ ((Gr.dS hG s1).new hp) bN
end
theorem cV {R:RL}{ha:Addr}(e:R.hv=.ref ha):(fK R).lookup ("house":Str)=some (.ref ha):=by rw [<-e];exact z9 R
theorem M0 (xs:List V)(n:Nat)(hn:0<n):fE xs (some (-(n:Int))) none=xs.drop (xs.length - n):=by
 have e1:HT.cZ xs.length 0 (some (-(n:Int)))=xs.length - n:=by unfold HT.cZ;dsimp only;rw [ab (by omega)];omega
 unfold fE;rw [e1,HT.wk,List.take_of_length_le (by rw [bg];omega)]
structure dN (a:Abs):Prop where
 on:a.on=true
 wf:Hy.fC a.house
 da:Hy.prod a.house.things<=64
 ok:Hy.Ok a.house.things a.now
 Ub:a.past.length<=50
theorem dN.of {a:Abs}(i:Hy.Inv a)(on:a.on=true):dN a:=by have o:=i.on on;obtain ⟨S,c,s1,_⟩:=o.safe;exact ⟨on,o.wf,o.da,c.ok _ s1,by have:=o.past;omega⟩
theorem k6 {α β:Type}{R:α->β->Prop}:∀{l:List α}{m:List β}(n:Nat),Paired R l m->Paired R (l.drop n) (m.drop n)
 | _,_,0,h=>h
 | _,_,n+1,.nil=>.nil
 | _,_,n+1,.cons r t=>k6 n t
theorem ij {α β:Type}{R:α->β->Prop}{l:List α}{m:List β}{b:β}(h:Paired R l (m++[b])):∃l' a,l=l'++[a]/\Paired R l' m/\R a b:=by
 induction m generalizing l with
 | nil =>
  cases h with
  | cons r t=>cases t;exact ⟨[],_,rfl,.nil,r⟩
 | cons y m ih =>
  cases h with
  | cons r t =>obtain ⟨l',a,e,p,q⟩:=ih t;exact ⟨_::l',a,by rw [e];rfl,.cons r p,q⟩
section
variable {P:Program}{w:World}{K:PySem.W.Frag}{mg:Str->Option Value}{base:Heap}{c:Cs}
def vT (bs:Bytes):Ks340.Ans:=match gv bs with
 | .error n=>Ks340.no n
 | .ok h=>EE (Ks339.verdict h (Ks340.zeros h))
theorem Hd {bs:Bytes}{n:Int}(h:gv bs=.error n):n<0:=by
 unfold gv at h
 split at h
 ·injection h with e;omega
 ·split at h
  ·injection h with e;omega
  ·split at h
   ·injection h with e;omega
   ·cases h
theorem Kj {bs:Bytes}{h:House}(e:gv bs=.ok h):Hy.fC h/\Hy.prod h.things<=64/\h.things≠[]/\¬1200<bs.length/\Ks337.read bs=.ok h:=by
 unfold gv at e
 split at e
 ·cases e
 ·rename_i h1
  split at e
  ·cases e
  ·rename_i g hr
   split at e
   ·cases e
   ·rename_i h2;injection e with e
    subst e;exact ⟨Hy.Mh hr,by rw [<-Hy.oA];rcases ba 64 (Ks337.states g) with q | q;exact ai (.inr q) h2;exact q,λq=>h2 (.inl q),h1,hr⟩
theorem BX {h:House}{s:State}(w:Hy.eJ h)(hs:Hy.prod h.things<=64)(o:Hy.Ok h.things s):(z7 (Ks339.verdict h s)).length<=1000:=by
 unfold Ks339.verdict;cases es:Ks338.settle h s with
 | none=>exact aW _
 | some x =>
  obtain ⟨so,sf⟩:=sT (s':=x.2) (n:=x.1) w o es;have sh:=Hy.Bz w hs so sf;simp only [];cases er:Ks339.reach h x.2 with
  | error w' =>rw [er] at sh;show w'.reverse.length<=1000;rw [aP];exact aN sh (by decide)
  | ok L =>
   rw [er] at sh;simp only [];cases ef:L.find? λp=>(Ks338.forbidden h p.state).isSome with
   | none=>exact aW _
   | some p =>show p.way.reverse.length<=1000;rw [aP];exact aN (sh p (List.mem_of_find?_eq_some ef)) (by decide)
inductive xA (c:Cs)(vs:List V)(H:Hp)(Q:VK)(E:XK):Prop | mk (G:Hp) (a:Addr) (bs:Bytes):vs=[.ref a]->bS G H->dF H a bs->(∀p G' H',Gr [] G H G' H'->dc G' p (ez (vT bs))->Q (.ref p) H')->xA c vs H Q E
theorem OG (T:Tx w K mg c)(jk:Fn P w K mg base "read_text" 8 ["text"] (mP c))(km:Fn P w K mg base "all_zero" 1 ["things"] (oI c))(kl:Fn P w K mg base "judge" 8 ["house","state"] (sU c))(gH:Fn P w K mg base "tell_verdict" 2 ["verdict"] (jv c)) :
  Fn P w K mg base "mayload" 9 ["text"] (xA c):=by
 refine T.zC.ok D6 λH Q E hr h=>?_
 ·obtain ⟨G,a,bs,rfl,hG,ha,k⟩:=h;refine ⟨_,(bP (cJ D6 1 (b6 jk hr (bM (pv 0) bO)))
   (bP (cg (bW ie (bT (pv 1) rfl) b8 (b9 _)) (bQ (bU (ck (bM (bT (pv 1) rfl) bO)))) b5)
   (bQ (bU (b6 gH hr (bM (b6 kl hr (bM (bT (pv 1) rfl) (bM (b6 km hr (bM (bT (bT (pv 1) rfl) rfl) bO)) bO))) bO)))))),?_⟩
  refine ⟨_,rfl,G,a,bs,rfl,hG,ha,λp G1 H1 g1 xS=>?_⟩;cases hp:gv bs with
  | error n =>rw [hp] at xS;obtain ⟨dx,ph⟩:=xS;refine ⟨_,rfl,_,c.dm,dx,_,_,rfl,g1.sub _ _ ph,T.eU,T.eV,by rfl,_,_,rfl,rfl,_,rfl,?_⟩;rw [aj (Hd hp)];refine iT ⟨_,rfl,_,c.dm,dx,_,_,rfl,g1.sub _ _ ph,T.eU,T.eV,by rfl,dI,λq hq=>k q _ _ (g1.new hq) ?_⟩;unfold vT;rw [hp];exact bN
  | ok h =>rw [hp] at xS;obtain ⟨dx,Uc,ph,hh⟩:=xS;obtain ⟨wf,Ey,_⟩:=Kj hp;have QG:=hh;obtain ⟨dX,tl,el,dv,hT,hE⟩:=QG;refine ⟨_,rfl,_,c.dm,dx,_,_,rfl,g1.sub _ _ ph,T.eU,T.eV,by rfl,_,_,rfl,rfl,_,rfl,?_⟩;refine iF ⟨_,rfl,_,c.dm,dx,_,_,rfl,g1.sub _ _ ph,T.eU,T.eV,by rfl,?_⟩;refine ⟨_,rfl,_,c.dm,dx,_,_,rfl,g1.sub _ _ ph,T.eU,T.eV,by rfl,_,c.House,dX,_,_,rfl,g1.sub _ _ dv,T.cH,T.cI,cS tl el,?_⟩;refine ⟨G1,tl,h,rfl,g1.sub,hT.up g1.sub,wf.da,λz G2 H2 g2 hz=>?_⟩;refine ⟨G2,Uc,z,h,_,rfl,g2.sub,hh.up g2.up,hz,Hy.Ok.zeros h,wf,Ey,λvr G3 H3 g3 hv=>?_⟩;refine ⟨G3,vr,_,rfl,g3.sub,hv.up g3.sub,BX wf.lines Ey (Hy.Ok.zeros h),λq G4 H4 g4 hq=>k q G4 H4 (((g1.trans g2).trans g3).trans g4) ?_⟩;unfold vT;rw [hp];exact hq
def lA (a:Abs)(bs:Bytes):Abs×Ks340.Ans:=match gv bs with
 | .error n=>(a,Ks340.no n)
 | .ok h=>match Ks339.verdict h (Ks340.zeros h) with
  | .forever _=>(a,Ks340.no (-41))
  | .never _ _=>(a,Ks340.no (-42))
  | .fine s _=>({on:=true,house:=h,now:=s},Ks340.no h.things.length)
theorem Kk (a:Abs)(bs:Bytes):Ks340.act a (.load (if Ks337.TEXT<bs.length then none else some bs))=lA a bs:=by
 rw [Hy.AI];unfold Hy.qJ lA gv;have e0:Ks337.TEXT=1200:=rfl;rw [e0]
 by_cases h1:1200<bs.length
 ·rw [ab h1,ab h1]
 ·rw [aa h1,aa h1];simp only [];cases hr:Ks337.read bs with
  | error k=>rfl
  | ok h =>
   simp only [];have e1:Ks337.STATES=64:=rfl;rw [e1]
   by_cases h2:h.things=[]\/64<Ks337.states h
   ·rw [ab h2,ab h2]
   ·rw [aa h2,aa h2]
    try rfl
theorem qz (h:House)(s:State):Ks340.judged h s=EE (Ks339.verdict h s):=by unfold Ks340.judged;cases Ks339.verdict h s <;> rfl
theorem EH (a:Abs)(bs:Bytes):Ks340.act a (.mayLoad (if Ks337.TEXT<bs.length then none else some bs))=(a,vT bs):=by
 have e:∀t,Ks340.act a (.mayLoad t)=(a,Ks340.loaded t λh=>Ks340.judged h (Ks340.zeros h)):=λt=>by unfold Ks340.act;rw [aa (λh=>nomatch h.2)]
 rw [e];refine congrArg (Prod.mk a) ?_;unfold Ks340.loaded vT gv;have e0:Ks337.TEXT=1200:=rfl;rw [e0]
 by_cases h1:1200<bs.length
 ·rw [ab h1,ab h1]
 ·rw [aa h1,aa h1];simp only [];cases hr:Ks337.read bs with
  | error k=>rfl
  | ok h =>
   simp only [];have e1:Ks337.STATES=64:=rfl;rw [e1]
   by_cases h2:h.things=[]\/64<Ks337.states h
   ·rw [ab h2,ab h2]
   ·rw [aa h2,aa h2];exact qz _ _
inductive FO (c:Cs)(vs:List V)(H:Hp)(Q:VK)(E:XK):Prop | mk (G:Hp) (r:Addr) (ms:List Addr) (a:Abs) (ta:Addr) (bs:Bytes):vs=[.ref r,.ref ta]->bS G H->Run c G H r ms a->dF H ta bs->(∀p G' H' eG,jx ms G H eG G' H'->Run c G' H' r eG (lA a bs).1->dc G' p (ez (lA a bs).2)->Q (.ref p) H')->FO c vs H Q E
theorem Vc (T:Tx w K mg c)(jk:Fn P w K mg base "read_text" 8 ["text"] (mP c))(km:Fn P w K mg base "all_zero" 1 ["things"] (oI c))(jl:Fn P w K mg base "settle_in" 9 ["running","house","state"] (mT c))(fL:Fn P w K mg base "forget_changes" 1 ["running"] (ig c)) :
  Fn P w K mg base "load" 10 ["running","text"] (FO c):=by
 refine T.JF.ok Fs λH Q E hr h=>?_
 ·obtain ⟨G,r,ms,a,ta,bs,rfl,hG,⟨R,cE,cP,cC,cN,rfl,x,xv⟩,kx,k⟩:=h;refine ⟨_,(bP (cJ Fs 2 (b6 jk hr (bM (pv 1) bO)))
   (bP (cg (bW ie (bT (pv 2) rfl) b8 (b9 _)) (bQ (bU (ck (bM (bT (pv 2) rfl) bO)))) b5)
   (bP (cJ Fs 3 (b6 jl hr (bM (pv 0) (bM (bT (pv 2) rfl) (bM (b6 km hr (bM (bT (bT (pv 2) rfl) rfl) bO)) bO)))))
   (bP (cg (bW ie (pv 3) b8 (b9 _)) (bQ (bU (ck (bM (pv 3) bO)))) b5)
   (bP (dy (b6 fL hr (bM (pv 0) bO)))
   (bQ (bU (ck (bM (cv cf (by rfl) T.cW PySem.boot_len (bM (bT (bT (pv 2) rfl) rfl) bO)) bO))))))))),?_⟩
  refine ⟨_,rfl,G,ta,bs,rfl,hG,kx,λp G1 H1 g1 xS=>?_⟩;have x1:=(Rn.start x hG).up g1;cases hp:gv bs with
  | error n =>
   rw [hp] at xS;obtain ⟨dx,ph⟩:=xS;have eL:lA a bs=(a,Ks340.no n):=by unfold lA;rw [hp]
   rw [eL] at k;refine ⟨_,rfl,_,c.dm,dx,_,_,rfl,g1.sub _ _ ph,T.eU,T.eV,by rfl,_,_,rfl,rfl,_,rfl,?_⟩;rw [aj (Hd hp)];refine iT ⟨_,rfl,_,c.dm,dx,_,_,rfl,g1.sub _ _ ph,T.eU,T.eV,by rfl,dI,λq hq=>?_⟩;have g2:=(Gr.refl (ms:=[]) g1.sub).new (o:=.lst [.int n]) hq;have x2:=x1.up g2;exact k q _ _ _ x2.st ⟨R,_,_,_,_,rfl,x2.rs,xv.up (g1.up.trans g2.up)⟩ bN
  | ok h =>
   rw [hp] at xS;obtain ⟨dx,Uc,ph,hh⟩:=xS;obtain ⟨wf,Ey,_⟩:=Kj hp;have QG:=hh;obtain ⟨dX,tl,el,dv,hT,hE⟩:=QG;refine ⟨_,rfl,_,c.dm,dx,_,_,rfl,g1.sub _ _ ph,T.eU,T.eV,by rfl,_,_,rfl,rfl,_,rfl,?_⟩;refine iF ⟨_,rfl,_,rfl,_,c.dm,dx,_,_,rfl,g1.sub _ _ ph,T.eU,T.eV,by rfl,?_⟩;refine ⟨_,rfl,_,c.dm,dx,_,_,rfl,g1.sub _ _ ph,T.eU,T.eV,by rfl,_,c.House,dX,_,_,rfl,g1.sub _ _ dv,T.cH,T.cI,cS tl el,?_⟩;refine ⟨G1,tl,h,rfl,g1.sub,hT.up g1.sub,wf.da,λz G2 H2 g2 hz=>?_⟩;have x2:=x1.up g2;have Zs:=xv.up (g1.up.trans g2.up);refine ⟨G2,r,R,cE,cP,cC,cN,Uc,z,h,_,rfl,g2.sub,x2.rs,hh.up g2.up,hz,Hy.Ok.zeros h,wf,Ey,λv G3 H3 u3 dH=>?_⟩;cases hv:Ks339.verdict h (Ks340.zeros h) with
   | forever w =>
    rw [hv] at dH;obtain ⟨rfl,g3⟩:=dH;have eL:lA a bs=(a,Ks340.no (-41)):=by unfold lA;rw [hp];simp only [];rw [hv]
    rw [eL] at k;refine ⟨_,rfl,_,_,rfl,rfl,_,rfl,iT ⟨_,rfl,dI,λq hq=>?_⟩⟩;have g4:=(Gr.refl (ms:=[]) g3.sub).new (o:=.lst [.int (-41)]) hq;have x4:=(x2.up g3).up g4;exact k q _ _ _ x4.st ⟨R,_,_,_,_,rfl,x4.rs,Zs.up (g3.up.trans g4.up)⟩ bN
   | never w n =>
    rw [hv] at dH;obtain ⟨rfl,g3⟩:=dH;have eL:lA a bs=(a,Ks340.no (-42)):=by unfold lA;rw [hp];simp only [];rw [hv]
    rw [eL] at k;refine ⟨_,rfl,_,_,rfl,rfl,_,rfl,iT ⟨_,rfl,dI,λq hq=>?_⟩⟩;have g4:=(Gr.refl (ms:=[]) g3.sub).new (o:=.lst [.int (-42)]) hq;have x4:=(x2.up g3).up g4;exact k q _ _ _ x4.st ⟨R,_,_,_,_,rfl,x4.rs,Zs.up (g3.up.trans g4.up)⟩ bN
   | fine s' L =>
    rw [hv] at dH;obtain ⟨rfl,p1,p2,sb,x3,Ae⟩:=dH;have eL:lA a bs=({on:=true,house:=h,now:=s'},Ks340.no h.things.length):=by unfold lA;rw [hp];simp only [];rw [hv]
    rw [eL] at k;refine ⟨_,rfl,_,_,rfl,rfl,_,rfl,iF ⟨_,rfl,G3,r,_,_,_,_,_,rfl,x3.st.gr.sub,x3.rs,λp3 p4 H4 x4=>?_⟩⟩;have u13:=g2.up.trans u3;refine ⟨_,rfl,_,c.dm,dx,_,_,rfl,x4.st.gr.sub _ _ (u13 _ _ ph),T.eU,T.eV,by rfl,_,c.House,dX,_,_,rfl,x4.st.gr.sub _ _ (u13 _ _ dv),T.cH,T.cI,cS tl el,?_⟩;obtain ⟨GZ,o8,aaK⟩:=hT;refine ⟨tl,_,rfl,.inl (bY.of (x4.st.gr.sub _ _ (u13 _ _ o8))),dI,λq hq=>?_⟩;have g5:=(Gr.refl (ms:=[]) x4.st.gr.sub).new (o:=.lst [.int ((GZ.map V.ref).length:Int)]) hq;have x5:=x4.up g5;refine k q _ _ _ (((x2.st.trans x3.st).trans x4.st).up g5) ⟨_,_,_,_,_,rfl,x5.rs,⟨⟨λh=>(nomatch h),λ_=>⟨Uc,rfl,hh.up (u13.trans g5.up)⟩⟩,Ae.up g5.up,.nil,.nil,.nil,.nil⟩⟩ ?_;show upd _ q _ q=_;rw [bN,af,Paired.length aaK];rfl
def h9 (ts:List Thing)(t v:Nat):Int:=if ts.length<=t then -2 else if Ks337.most ts t<v then -34 else 0
inductive iZ (c:Cs)(vs:List V)(H:Hp)(Q:VK)(E:XK):Prop | mk (l:Addr) (ts:List Thing) (t v:Nat):vs=[.ref l,.int (t:Int),.int (v:Int)]->dG c H l ts->Q (.int (h9 ts t v)) H->iZ c vs H Q E
theorem CT (T:Tx w K mg c):Fn P w K mg base "event_refusal" 1 ["things","thing","value"] (iZ c):=by
 refine T.mF.ok Cj λH Q E hr h=>?_
 ·obtain ⟨l,ts,t,v,rfl,⟨as,hl,ha⟩,k⟩:=h;have hlen:=Paired.length ha;refine ⟨_,(bP (cg (bW qp (pv 1) (cv cf (by rfl) T.cW PySem.boot_len (bM (pv 0) bO)) (b9 _)) (bQ (bU (cG T.fT))) b5)
   (bP (cg (bW ql (pv 2) (bT (cQ cR (pv 0) (pv 1) (λ_ _=>rfl)) rfl) (b9 _)) (bQ (bU (cG T.mJ))) b5)
   (bQ (bU b8)))),?_⟩
  refine ⟨_,rfl,_,rfl,l,_,rfl,.inl (bY.of hl),_,_,rfl,rfl,_,rfl,?_⟩;rw [af,hlen];refine df (λe=>?_) (λe=>?_)
  ·have fX:ts.length<=t:=by have:=aD e;omega
   unfold h9 at k;rw [ab fX] at k;exact k
  ·have c9:t<ts.length:=by
    rcases ba t ts.length with q | q
    ·exact q
    ·exact ai (aj (by omega)) e
   unfold h9 at k;rw [aa (by omega)] at k;obtain ⟨th,eQ⟩:∃l,ts[t]?=some l:=⟨_,aI c9⟩
   obtain ⟨a,f6,MW,iA⟩:=Paired.lO ha eQ;rw [Hy.ka eQ] at k;refine ⟨_,rfl,_,rfl,_,rfl,l,_,_,_,rfl,rfl,bY.of hl,cD (j:=t) (v:=.ref a) (by rw [aS,f6];rfl),_,c.Thing,MW,_,_,rfl,iA,T.fF,T.fG,l6 th,_,_,rfl,rfl,_,rfl,?_⟩;refine df (λe2=>?_) (λe2=>?_)
   ·have:th.most<v:=by have:=aD e2;omega
    rw [ab this] at k;exact k
   ·have:¬th.most<v:=λq=>e2 (aj (by omega))
    rw [aa this] at k;exact k
inductive ko (c:Cs)(vs:List V)(H:Hp)(Q:VK)(E:XK):Prop | mk (G:Hp) (r:Addr) (ms:List Addr) (a:Abs) (t v:Nat):vs=[.ref r,.int (t:Int),.int (v:Int)]->bS G H->Run c G H r ms a->dN a->t<a.house.things.length->v<=Ks337.most a.house.things t->(∀u G' H',Gr [] G H G' H'->QJ G' u (Hy.eK a.house (a.now.set t v))->Q u H')->ko c vs H Q E
theorem FP (T:Tx w K mg c)(eS:xt P w K mg base c)(gX:Fn P w K mg base "trail" 6 ["passes","state"] (n9 c))(fi:Fn P w K mg base "with_value" 1 ["state","thing","value"] jc) :
  Fn P w K mg base "event_trail" 7 ["running","thing","value"] (ko c):=by
 refine T.pH.ok Ft λH Q E hr h=>?_
 ·obtain ⟨G,r,ms,a,t,v,rfl,hG,⟨R,cE,cP,cC,cN,rfl,x,xv⟩,ho,ht,hv,k⟩:=h;obtain ⟨ha,d7,hh⟩:=xv.house.2 ho.on;obtain ⟨dX,tl,el,dv,hT,hE⟩:=hh;refine ⟨_,(bQ (bU (b6 gX hr (bM (zX eS hr (bM (bT (bT (pv 0) rfl) rfl) bO)) (bM (b6 fi hr (bM (bT (pv 0) rfl) (bM (pv 1) (bM (pv 2) bO)))) bO))))),?_⟩;refine ⟨_,rfl,_,c.b7,R.dx,_,_,rfl,x.hr,T.b0,T.b4,cV d7,_,c.House,dX,_,_,rfl,hG _ _ dv,T.cH,T.cI,cU tl el,el,rfl,λp dx d1 d2 np nd ne n1 n2 kU x1 x2 y1 y2=>?_⟩;obtain ⟨G1,g1,zW⟩:=sN hG hE (sS ho.wf) ho.da np nd ne n1 n2 kU x1 x2 y1 y2;have nn:∀m∈[d1,d2],H m=none:=λm hm=>by
   rcases ak.mp hm with z | z
   ·rw [z];exact n1
   ·rw [aK.mp z];exact n2
  have da:=ho.wf.da;refine ⟨_,rfl,_,c.b7,R.dx,_,_,rfl,g1.same _ _ x.hr,T.b0,T.b4,gB R,_,rfl,_,rfl,G1,R.sa,a.now,t,v,rfl,g1.sub,(xv.now.up g1.up).up g1.sub,by rw [ho.ok.len];exact ht,by rw [ho.ok.len];omega,λq G2 H2 g2 hq=>?_⟩;refine ⟨G2,p,d1,d2,el,q,a.house,_,rfl,g2.sub,zW.up g2,hq.up g2.sub,ho.ok.set hv,by omega,λu G3 H3 g3 _ md=>?_⟩;exact k u G3 H3 ((g1.trans g2).trans' g3 nn) md
theorem CU {h:House}{s s':State}{n:Nat}(e:Ks338.settle h s=some (n,s')):Hy.eK h s=some (Hy.bZ h (n+1) s):=by unfold Hy.eK;rw [e]
def CV (a:Abs)(t v:Nat)(s':State):Abs:={a with now:=s',past:=(⟨a.now,(t,v)⟩::a.past).take 50}
inductive uo (c:Cs)(vs:List V)(H:Hp)(Q:VK)(E:XK):Prop | mk (G:Hp) (r:Addr) (ms:List Addr) (a:Abs) (t v n:Nat) (s':State):vs=[.ref r,.int (t:Int),.int (v:Int)]->bS G H->Run c G H r ms a->dN a->t<a.house.things.length->v<=Ks337.most a.house.things t->Ks338.settle a.house (a.now.set t v)=some (n,s')->(∀G' H' eG,jx ms G H eG G' H'->Run c G' H' r eG (CV a t v s')->Q (.int (n:Int)) H')->uo c vs H Q E
theorem QZ (T:Tx w K mg c)(gY:Fn P w K mg base "event_trail" 7 ["running","thing","value"] (ko c))(FQ:Made P w K mg base "Event" c.Event 1 ["self","thing","value","before"] ["thing","value","before"]) :
  Fn P w K mg base "happen" 8 ["running","thing","value"] (uo c):=by
 refine T.Cu.ok GQ λH Q E hr h=>?_
 ·obtain ⟨G,r,ms,a,t,v,n,s',rfl,hG,cO,ho,ht,hv,eW,k⟩:=h;refine ⟨_,(bP (cJ GQ 3 (b6 gY hr (bM (pv 0) (bM (pv 1) (bM (pv 2) bO)))))
   (bP (cK (pv 0) (dZ fV (dj i8 (bT (pv 0) rfl) (ck (bM (ff FQ hr (bM (pv 1) (bM (pv 2) (bM (bT (pv 0) rfl) bO)))) bO))) (dJ (j4 il (cG T.pL))) gE) rfl)
   (bP (cK (pv 0) (cQ cR (pv 3) (j4 il b8) (λ_ _=>rfl)) rfl)
   (bQ (bU (dj qR (cv cf (by rfl) T.cW PySem.boot_len (bM (pv 3) bO)) b8)))))),?_⟩
  refine ⟨_,rfl,_,rfl,_,rfl,G,r,ms,a,t,v,rfl,hG,cO,ho,ht,hv,λu G1 H1 g1 md=>?_⟩;obtain ⟨R,cE,cP,cC,cN,rfl,x,xv⟩:=cO;rw [CU eW] at md;obtain ⟨la,BS,rfl,m7,sP⟩:=md;obtain ⟨FN,lq,iA,sQ⟩:=xw eW sP;have x1:=(Rn.start x hG).up g1;have Kl:=xv.up g1.up;have jK:cE.length=a.past.length:=by rw [Paired.length xv.past,aP]
  have Ub:=ho.Ub;refine ⟨_,rfl,_,c.b7,R.dx,_,_,rfl,x1.rs.hr,T.b0,T.b4,iX R,_,rfl,_,rfl,_,rfl,_,c.b7,R.dx,_,_,rfl,x1.rs.hr,T.b0,T.b4,gB R,rfl,λev yh nx nd ne=>?_⟩;have g2:=(Gr.refl (ms:=[]) x1.st.gr.sub).ins (C:=c.Event) (fs:=MY (t,v) (.ref R.sa)) nx nd ne;have x2:=x1.up g2;refine ⟨dI,λl1 aaL=>?_⟩;have g3:=(Gr.refl (ms:=[]) x2.st.gr.sub).cX (o:=.lst [.ref ev]) aaL;have x3:=x2.up g3;refine ⟨R.e1,l1,_,_,rfl,rfl,x3.rs.h1,bN,?_,λl2 fz=>?_⟩
  ·rw [af];show cE.length+1<=_;exact aJ (cx (by omega))
  have g4:=(Gr.refl (ms:=[]) x3.st.gr.sub).cX (o:=.lst (cE.map V.ref++[.ref ev])) fz;have x4:=x3.up g4;have SE:fE (cE.map V.ref++[V.ref ev]) (some (-(50:Int))) none=((cE++[ev]).drop (cE.length+1 - 50)).map V.ref:=by have q:=M0 (cE.map V.ref++[V.ref ev]) 50 (by decide);rw [show (-((50:Nat):Int))=-(50:Int) from rfl] at q;rw [q,ay,af,List.map_drop,aB];rfl
  refine ⟨_,rfl,_,rfl,l2,_,rfl,bY.of bN,λp hp=>?_⟩;rw [SE];refine ⟨_,rfl,_,c.b7,R.dx,_,rfl,(bS.new hp) _ _ x4.rs.hr,T.b0,T.b4,by show 6<_;decide,?_⟩;rw [EG];have x5:=x4.e1 (as:=(cE++[ev]).drop (cE.length+1 - 50)) hp;have u4:=(g2.up.trans g3.up).trans g4.up;refine ⟨_,rfl,_,rfl,la,_,_,_,rfl,rfl,bY.of (x5.st.gr.sub _ _ (u4 _ _ m7)),iA,_,rfl,_,c.b7,R.dx,_,rfl,x5.rs.hr,T.b0,T.b4,by show 6<_;decide,?_⟩;rw [um];have x6:=x5.sa lq;refine ⟨_,rfl,la,_,rfl,.inl (bY.of (x6.st.gr.sub _ _ (u4 _ _ m7))),_,_,rfl,rfl,?_⟩;rw [af,FN];show Q (.int (((n+1:Nat):Int) - 1)) _;rw [show (((n+1:Nat):Int) - 1)=(n:Int) by omega];have M3:=Kl.up u4;refine k _ _ _ x6.st ⟨_,_,_,_,_,rfl,x6.rs,⟨M3.house,sQ.up u4,?_,M3.ahead,M3.edits,M3.unedits⟩⟩;show Paired _ _ (((⟨a.now,(t,v)⟩::a.past).take 50).reverse);rw [List.reverse_take,bp,au,jK];refine k6 _ (Paired.js M3.past ⟨yh,R.sa,?_,M3.now⟩);exact (g3.up.trans g4.up) _ _ bN
end
section
variable {a:Abs}
theorem dB (on:a.on=true){q:Prop}:¬(a.on=false/\q):=λh=>by rw [on] at h;exact nomatch h.1
theorem Vd (on:a.on=true)(t v:Nat):Ks340.act a (.set t v)=if h9 a.house.things t v<0 then (a,Ks340.no (h9 a.house.things t v)) else match Ks338.settle a.house (a.now.set t v) with
  | none=>(a,Ks340.no (-41))
  | some s=>({a with now:=s.2,past:=(⟨a.now,(t,v)⟩::a.past).take Ks340.PAST,ahead:=[]},Ks340.no s.1):=by
 unfold Ks340.act;rw [aa (dB on)];unfold h9 Ks340.isThing Ks340.mayBe;simp only []
 by_cases h1:a.house.things.length<=t
 ·rw [ab h1,ab (by rw [az (by omega)])];rfl
 ·rw [aa h1,aa (by rw [aj (by omega)];decide)]
  by_cases h2:Ks337.most a.house.things t<v
  ·rw [ab h2,ab (by rw [az (by omega)])];rfl
  ·rw [aa h2,aa (by rw [aj (by omega)];decide)];rfl
theorem Km (on:a.on=true)(t v:Nat):Ks340.act a (.look t v)=if h9 a.house.things t v<0 then (a,Ks340.no (h9 a.house.things t v)) else match Ks338.settle a.house (a.now.set t v) with
  | none=>(a,Ks340.no (-41))
  | some s=>(a,{ret:=s.1,out:=s.2}):=by
 unfold Ks340.act;rw [aa (dB on)];unfold h9 Ks340.isThing Ks340.mayBe;simp only []
 by_cases h1:a.house.things.length<=t
 ·rw [ab h1,ab (by rw [az (by omega)])];rfl
 ·rw [aa h1,aa (by rw [aj (by omega)];decide)]
  by_cases h2:Ks337.most a.house.things t<v
  ·rw [ab h2,ab (by rw [az (by omega)])];rfl
  ·rw [aa h2,aa (by rw [aj (by omega)];decide)];rfl
theorem Kn {ts:List Thing}{t v:Nat}(h:¬h9 ts t v<0):t<ts.length/\v<=Ks337.most ts t/\h9 ts t v=0:=by
 unfold h9 at h ⊢
 by_cases h1:ts.length<=t
 ·rw [ab h1] at h;exact ai (by decide) h
 ·rw [aa h1] at h ⊢
  by_cases h2:Ks337.most ts t<v
  ·rw [ab h2] at h;exact ai (by decide) h
  ·rw [aa h2];exact ⟨by omega,by omega,rfl⟩
theorem Ko (on:a.on=true)(h:a.past=[]):Ks340.act a .back=(a,Ks340.no (-6)):=by unfold Ks340.act;rw [aa (dB on)];simp only [];rw [h]
theorem HB (on:a.on=true){p:Past}{r:List Past}(h:a.past=p::r):Ks340.act a .back=({a with now:=p.before,past:=r,ahead:=⟨a.now,p.event⟩::a.ahead},Ks340.no r.length):=by unfold Ks340.act;rw [aa (dB on)];simp only [];rw [h]
theorem HC (on:a.on=true)(h:a.ahead=[]):Ks340.act a .again=(a,Ks340.no (-6)):=by unfold Ks340.act;rw [aa (dB on)];simp only [];rw [h]
theorem FR (on:a.on=true){p:Past}{r:List Past}(h:a.ahead=p::r):Ks340.act a .again=({a with now:=p.before,past:=(⟨a.now,p.event⟩::a.past),ahead:=r},Ks340.no r.length):=by unfold Ks340.act;rw [aa (dB on)];simp only [];rw [h]
theorem He (on:a.on=true)(t:Nat):Ks340.act a (.value t)=(a,if t<a.house.things.length then Ks340.no (Ks338.value a.now t) else Ks340.no (-2)):=by
 unfold Ks340.act;rw [aa (dB on)];unfold Ks340.isThing;simp only []
 by_cases h:t<a.house.things.length
 ·rw [ab h,aa (by rw [aj h];decide)]
 ·rw [aa h,ab (by rw [az h])]
theorem EI (on:a.on=true):Ks340.act a .values=(a,{ret:=a.now.length,out:=a.now}):=by unfold Ks340.act;rw [aa (dB on)]
def EJ (h:House)(s:State)(t:Nat):Ks340.Ans:=match Ks338.decides h s t with
 | none=>Ks340.no (-6)
 | some i=>Ks340.no i
theorem M4 (on:a.on=true)(t:Nat):Ks340.act a (.why t)=(a,if t<a.house.things.length then EJ a.house a.now t else Ks340.no (-2)):=by
 unfold Ks340.act;rw [aa (dB on)];unfold Ks340.isThing EJ;simp only []
 by_cases h:t<a.house.things.length
 ·rw [ab h,aa (by rw [aj h];decide)];cases Ks338.decides a.house a.now t <;> rfl
 ·rw [aa h,ab (by rw [az h])]
def EK (l:List Past)(k:Nat):Ks340.Ans:=match l[k]? with
 | none=>Ks340.no (-2)
 | some p=>{ret:=p.event.1,out:=[p.event.2]}
theorem M5 (on:a.on=true)(k:Nat):Ks340.act a (.log k)=(a,EK a.past k):=by unfold Ks340.act;rw [aa (dB on)];unfold EK;simp only [];cases a.past[k]? <;> rfl
theorem Hf (a:Abs):Ks340.act a .state=(a,{ret:=if a.on then 1 else 0,out:=[a.house.things.length,a.house.lines.length,a.past.length,a.ahead.length,a.edits.length,a.unedits.length]}):=by unfold Ks340.act;rw [aa (λh=>nomatch h.2)]
end
section
variable {P:Program}{w:World}{K:PySem.W.Frag}{mg:Str->Option Value}{base:Heap}{c:Cs}
inductive tu (c:Cs)(vs:List V)(H:Hp)(Q:VK)(E:XK):Prop | mk (G:Hp) (r:Addr) (ms:List Addr) (a:Abs) (t v:Nat):vs=[.ref r,.int (t:Int),.int (v:Int)]->bS G H->Run c G H r ms a->Hy.Inv a->a.on=true->(∀p G' H' eG,jx ms G H eG G' H'->Run c G' H' r eG (Ks340.act a (.set t v)).1->dc G' p (ez (Ks340.act a (.set t v)).2)->Q (.ref p) H')->tu c vs H Q E
theorem Kp (T:Tx w K mg c)(gc:Fn P w K mg base "event_refusal" 1 ["things","thing","value"] (iZ c))(om:Fn P w K mg base "happen" 8 ["running","thing","value"] (uo c)):Fn P w K mg base "set_thing" 9 ["running","thing","value"] (tu c):=by
 refine T.uO.ok zl λH Q E hr h=>?_
 ·obtain ⟨G,r,ms,a,t,v,rfl,hG,⟨R,cE,cP,cC,cN,rfl,x,xv⟩,inv,on,k⟩:=h;have ho:=dN.of inv on;obtain ⟨ha,d7,hh⟩:=xv.house.2 on;obtain ⟨dX,tl,el,dv,hT,hE⟩:=hh;rw [Vd on] at k;refine ⟨_,(bP (cJ zl 3 (b6 gc hr (bM (bT (bT (pv 0) rfl) rfl) (bM (pv 1) (bM (pv 2) bO)))))
   (bP (cg (bW ie (pv 3) b8 (b9 _)) (bQ (bU (ck (bM (pv 3) bO)))) b5)
   (bP (cK (pv 0) (ck bO) rfl)
   (bQ (bU (ck (bM (b6 om hr (bM (pv 0) (bM (pv 1) (bM (pv 2) bO)))) bO))))))),?_⟩
  refine ⟨_,rfl,_,c.b7,R.dx,_,_,rfl,x.hr,T.b0,T.b4,cV d7,_,c.House,dX,_,_,rfl,hG _ _ dv,T.cH,T.cI,cS tl el,_,rfl,_,rfl,tl,_,t,v,rfl,hT.up hG,?_⟩;refine ⟨_,rfl,_,_,rfl,rfl,_,rfl,?_⟩;refine df (λe=>?_) (λe=>?_)
  ·have c9:h9 a.house.things t v<0:=aD e;rw [ab c9] at k;refine ⟨_,rfl,dI,λq hq=>?_⟩;have g1:=(Gr.refl (ms:=[]) hG).new (o:=.lst [.int (h9 a.house.things t v)]) hq;have x1:=(Rn.start x hG).up g1;exact k q _ _ _ x1.st ⟨_,_,_,_,_,rfl,x1.rs,xv.up g1.up⟩ bN
  ·have fX:¬h9 a.house.things t v<0:=λq=>e (aj q);rw [aa fX] at k;obtain ⟨ht,hv,_⟩:=Kn fX;obtain ⟨n,s',eW⟩:=Hy.Bx (inv.on on) ht hv;rw [eW] at k;refine ⟨hJ,λl hl=>⟨_,rfl,_,c.b7,R.dx,_,rfl,(bS.new hl) _ _ x.hr,T.b0,T.b4,by show 6<_;decide,?_⟩⟩;rw [Hb];have x1:=(Rn.start x hG).e2 (as:=[]) hl;refine ⟨_,rfl,_,rfl,_,rfl,G,r,_,{a with ahead:=[]},t,v,n,s',rfl,x1.st.gr.sub,⟨_,_,_,_,_,rfl,x1.rs,⟨xv.house,xv.now,xv.past,.nil,xv.edits,xv.unedits⟩⟩,⟨on,ho.wf,ho.da,ho.ok,ho.Ub⟩,ht,hv,eW,λG2 H2 MX Be r2=>?_⟩;refine ⟨dI,λq hq=>?_⟩;have g3:=(Gr.refl (ms:=[]) Be.gr.sub).new (o:=.lst [.int (n:Int)]) hq;exact k q _ _ _ ((x1.st.trans Be).up g3) (r2.up g3) bN
inductive pU (c:Cs)(vs:List V)(H:Hp)(Q:VK)(E:XK):Prop | mk (G:Hp) (r:Addr) (ms:List Addr) (a:Abs) (t v:Nat):vs=[.ref r,.int (t:Int),.int (v:Int)]->bS G H->Run c G H r ms a->Hy.Inv a->a.on=true->(∀p G' H',Gr [] G H G' H'->dc G' p (ez (Ks340.act a (.look t v)).2)->Q (.ref p) H')->pU c vs H Q E
theorem HD (T:Tx w K mg c)(gc:Fn P w K mg base "event_refusal" 1 ["things","thing","value"] (iZ c))(gY:Fn P w K mg base "event_trail" 7 ["running","thing","value"] (ko c)):Fn P w K mg base "look_ahead" 8 ["running","thing","value"] (pU c):=by
 refine T.rV.ok pF λH Q E hr h=>?_
 ·obtain ⟨G,r,ms,a,t,v,rfl,hG,cO,inv,on,k⟩:=h;have fO:=cO;obtain ⟨R,cE,cP,cC,cN,rfl,x,xv⟩:=fO;have ho:=dN.of inv on;obtain ⟨ha,d7,hh⟩:=xv.house.2 on;obtain ⟨dX,tl,el,dv,hT,hE⟩:=hh;rw [Km on] at k;refine ⟨_,(bP (cJ pF 3 (b6 gc hr (bM (bT (bT (pv 0) rfl) rfl) (bM (pv 1) (bM (pv 2) bO)))))
   (bP (cg (bW ie (pv 3) b8 (b9 _)) (bQ (bU (ck (bM (pv 3) bO)))) b5)
   (bP (cJ pF 4 (b6 gY hr (bM (pv 0) (bM (pv 1) (bM (pv 2) bO)))))
   (bQ (bU (dj i8 (ck (bM (dj qR (cv cf (by rfl) T.cW PySem.boot_len (bM (pv 4) bO)) b8) bO)) (gy yA (by rfl) T.sj vJ (bM (cQ cR (pv 4) (j4 il b8) (λ_ _=>rfl)) bO)))))))),?_⟩
  refine ⟨_,rfl,_,c.b7,R.dx,_,_,rfl,x.hr,T.b0,T.b4,cV d7,_,c.House,dX,_,_,rfl,hG _ _ dv,T.cH,T.cI,cS tl el,_,rfl,_,rfl,tl,_,t,v,rfl,hT.up hG,?_⟩;refine ⟨_,rfl,_,_,rfl,rfl,_,rfl,?_⟩;refine df (λe=>?_) (λe=>?_)
  ·have c9:h9 a.house.things t v<0:=aD e;rw [ab c9] at k;exact ⟨_,rfl,dI,λq hq=>k q _ _ ((Gr.refl hG).new hq) bN⟩
  ·have fX:¬h9 a.house.things t v<0:=λq=>e (aj q);rw [aa fX] at k;obtain ⟨ht,hv,_⟩:=Kn fX;obtain ⟨n,s',eW⟩:=Hy.Bx (inv.on on) ht hv;rw [eW] at k;refine ⟨_,rfl,_,rfl,_,rfl,G,r,_,a,t,v,rfl,hG,cO,ho,ht,hv,λu G1 H1 g1 md=>?_⟩;rw [CU eW] at md;obtain ⟨la,BS,rfl,m7,sP⟩:=md;obtain ⟨FN,lq,iA,sQ⟩:=xw eW sP;refine ⟨_,rfl,la,_,rfl,.inl (bY.of (g1.sub _ _ m7)),_,_,rfl,rfl,dI,λl1 jK=>?_⟩;have g2:=g1.cX (o:=.lst [.int ((((BS.map V.ref).length:Nat):Int) - 1)]) jK;refine ⟨_,rfl,_,rfl,la,_,_,_,rfl,rfl,bY.of (g2.sub _ _ m7),iA,lq,_,rfl,.inr (cA.of (g2.sub _ _ sQ)),λl2 fz=>?_⟩;have g3:=g2.cX (o:=.lst (c0 s')) fz;have Xl:=(sT ho.wf.lines (ho.ok.set hv) eW).1.len;have da:=ho.wf.da;refine ⟨l1,l2,_,_,rfl,rfl,(bS.new fz) _ _ bN,bN,?_,λq hq=>?_⟩
   ·rw [dq];show 1+s'.length<=_;exact aJ (cx (by omega))
   ·refine k q _ _ (g3.new hq) ?_;show upd _ q _ q=_;rw [bN,CP,af,FN];dsimp only;rw [show (((n+1:Nat):Int) - 1)=(n:Int) by omega];rfl
inductive tw (c:Cs)(vs:List V)(H:Hp)(Q:VK)(E:XK):Prop | mk (G:Hp) (r:Addr) (ms:List Addr) (a:Abs):vs=[.ref r]->bS G H->Run c G H r ms a->Hy.Inv a->a.on=true->(∀p G' H' eG,jx ms G H eG G' H'->Run c G' H' r eG (Ks340.act a .back).1->dc G' p (ez (Ks340.act a .back).2)->Q (.ref p) H')->tw c vs H Q E
theorem CW (as:List Addr)(e:Addr):as.map V.ref++[V.ref e]=(as++[e]).map V.ref:=by rw [aB];rfl
theorem pj (as:List Addr)(e:Addr):((as++[e]).map V.ref)[((as++[e]).map V.ref).length - 1]?=some (.ref e):=by simp
theorem uq (as:List Addr)(e:Addr):((as++[e]).map V.ref).dropLast=as.map V.ref:=by rw [aB];simp
theorem Kq (T:Tx w K mg c):Fn P w K mg base "take_back" 1 ["running"] (tw c):=by
 refine T.uP.ok zm λH Q E hr h=>?_
 ·obtain ⟨G,r,ms,a,rfl,hG,⟨R,cE,cP,cC,cN,rfl,x,xv⟩,inv,on,k⟩:=h;have o:=inv.on on;have jK:cE.length=a.past.length:=by rw [Paired.length xv.past,aP]
  have fz:cP.length=a.ahead.length:=by rw [Paired.length xv.ahead,aP]
  have o50:=o.past;refine ⟨_,(bP (cg (bW dk (cv cf (by rfl) T.cW PySem.boot_len (bM (bT (pv 0) rfl) bO)) b8 (b9 _)) (bQ (bU (ck (bM (cG T.fZ) bO)))) b5)
   (bP (cJ zm 1 (vn PySem.F.plainAttrs_list PySem.F.slot_list_pop PySem.F.type_list_pop vo (bT (pv 0) rfl)))
   (bP (dy (gT PySem.F.plainAttrs_list PySem.F.slot_list_append PySem.F.type_list_append dO (bT (pv 0) rfl) (bM (pv 1) bO)))
   (bP (cK (pv 0) (bT (pv 1) rfl) rfl)
   (bQ (bU (ck (bM (cv cf (by rfl) T.cW PySem.boot_len (bM (bT (pv 0) rfl) bO)) bO)))))))),?_⟩
  refine ⟨_,rfl,_,c.b7,R.dx,_,_,rfl,x.hr,T.b0,T.b4,iX R,R.e1,_,rfl,.inl (bY.of x.h1),rfl,_,rfl,?_⟩;rw [af,jK];cases hp:a.past with
  | nil =>rw [Ko on hp] at k;refine iT ⟨dI,λq hq=>?_⟩;have g1:=(Gr.refl (ms:=[]) hG).new (o:=.lst [.int (-6)]) hq;have x1:=(Rn.start x hG).up g1;exact k q _ _ _ x1.st ⟨_,_,_,_,_,rfl,x1.rs,xv.up g1.up⟩ bN
  | cons p r' =>
   rw [HB on hp] at k;rw [hp] at o50;have t6:=xv.past;rw [hp,bp] at t6;obtain ⟨Bq,ev,rfl,tY,yh,sb,vz,Ae⟩:=ij t6;refine iF ?_;refine ⟨_,rfl,_,c.b7,R.dx,_,_,rfl,x.hr,T.b0,T.b4,iX R,.inl ⟨rfl,_,bY.of x.h1⟩,R.e1,_,_,rfl,rfl,x.h1,pj Bq ev,?_⟩;rw [uq];have x1:=(Rn.start x hG).w1 (as:=Bq);refine ⟨_,rfl,_,c.b7,R.dx,_,_,rfl,x1.rs.hr,T.b0,T.b4,pd R,.inl ⟨rfl,_,bY.of x1.rs.h2⟩,_,rfl,R.e2,_,_,rfl,rfl,x1.rs.h2,?_,?_⟩
   ·rw [af,fz];exact cx (by rw [au] at o50;omega)
   rw [CW];have x2:=x1.w2 (as:=cP++[ev]);refine ⟨_,rfl,_,c.Event,yh,_,_,rfl,x2.st.gr.sub _ _ vz,T.l4,T.l5,QY _ _,_,rfl,_,c.b7,R.dx,_,rfl,x2.rs.hr,T.b0,T.b4,by show 6<_;decide,?_⟩;rw [um];have x3:=x2.sa sb;refine ⟨_,rfl,_,c.b7,R.dx,_,_,rfl,x3.rs.hr,T.b0,T.b4,iX _,R.e1,_,rfl,.inl (bY.of x3.rs.h1),dI,λq hq=>?_⟩;have g4:=(Gr.refl (ms:=[]) x3.st.gr.sub).new (o:=.lst [.int ((Bq.map V.ref).length:Int)]) hq;have x4:=x3.up g4;refine k q _ _ _ x4.st ⟨_,_,_,_,_,rfl,x4.rs,u6.up (a:={a with now:=p.before,past:=r',ahead:=⟨a.now,p.event⟩::a.ahead}) ⟨xv.house,Ae,tY,?_,xv.edits,xv.unedits⟩ g4.up⟩ ?_
   ·show Paired _ _ ((⟨a.now,p.event⟩::a.ahead:List Past).reverse);rw [bp];exact Paired.js xv.ahead ⟨yh,_,vz⟩
   ·show upd _ q _ q=_;rw [bN,af,Paired.length tY,aP];rfl
inductive u7 (c:Cs)(vs:List V)(H:Hp)(Q:VK)(E:XK):Prop | mk (G:Hp) (r:Addr) (ms:List Addr) (a:Abs):vs=[.ref r]->bS G H->Run c G H r ms a->Hy.St a->a.on=true->(∀p G' H' eG,jx ms G H eG G' H'->Run c G' H' r eG (Ks340.act a .again).1->dc G' p (ez (Ks340.act a .again).2)->Q (.ref p) H')->u7 c vs H Q E
theorem Lz (T:Tx w K mg c)(om:Fn P w K mg base "happen" 8 ["running","thing","value"] (uo c)):Fn P w K mg base "do_again" 9 ["running"] (u7 c):=by
 refine T.wX.ok BO λH Q E hr h=>?_
 ·obtain ⟨G,r,ms,a,rfl,hG,⟨R,cE,cP,cC,cN,rfl,x,xv⟩,st,on,k⟩:=h;have o:=st.inv.on on;have ho:=dN.of st.inv on;have fz:cP.length=a.ahead.length:=by rw [Paired.length xv.ahead,aP]
  have o50:=o.past;refine ⟨_,(bP (cg (bW dk (cv cf (by rfl) T.cW PySem.boot_len (bM (bT (pv 0) rfl) bO)) b8 (b9 _)) (bQ (bU (ck (bM (cG T.fZ) bO)))) b5)
   (bP (cJ BO 1 (vn PySem.F.plainAttrs_list PySem.F.slot_list_pop PySem.F.type_list_pop vo (bT (pv 0) rfl)))
   (bP (dy (b6 om hr (bM (pv 0) (bM (bT (pv 1) rfl) (bM (bT (pv 1) rfl) bO)))))
   (bQ (bU (ck (bM (cv cf (by rfl) T.cW PySem.boot_len (bM (bT (pv 0) rfl) bO)) bO))))))),?_⟩
  refine ⟨_,rfl,_,c.b7,R.dx,_,_,rfl,x.hr,T.b0,T.b4,pd R,R.e2,_,rfl,.inl (bY.of x.h2),rfl,_,rfl,?_⟩;rw [af,fz];cases hp:a.ahead with
  | nil =>rw [HC on hp] at k;refine iT ⟨dI,λq hq=>?_⟩;have g1:=(Gr.refl (ms:=[]) hG).new (o:=.lst [.int (-6)]) hq;have x1:=(Rn.start x hG).up g1;exact k q _ _ _ x1.st ⟨_,_,_,_,_,rfl,x1.rs,xv.up g1.up⟩ bN
  | cons p r' =>
   rw [FR on hp] at k;rw [hp,au] at o50;have Zt:=xv.ahead;rw [hp,bp] at Zt;obtain ⟨Bq,ev,rfl,tY,yh,sv,vz⟩:=ij Zt;have vh:=st.Wr.ahead;rw [hp] at vh;obtain ⟨n,eW⟩:∃n,Ks338.settle a.house (a.now.set p.event.1 p.event.2)=some (n,p.before):=by
    have q:=vh.1;unfold Ks339.after at q;cases e:Ks338.settle a.house (a.now.set p.event.1 p.event.2) with
    | none=>rw [e] at q;cases q
    | some y =>
     rw [e] at q
     have:y.2=p.before:=ao q
     exact ⟨y.1,by rw [<-this]⟩
   obtain ⟨ht,hv⟩:=o.xX p (.inr (by rw [hp];exact aE ..));refine iF ?_;refine ⟨_,rfl,_,c.b7,R.dx,_,_,rfl,x.hr,T.b0,T.b4,pd R,.inl ⟨rfl,_,bY.of x.h2⟩,R.e2,_,_,rfl,rfl,x.h2,pj Bq ev,?_⟩;rw [uq];have x1:=(Rn.start x hG).w2 (as:=Bq);refine ⟨_,rfl,_,rfl,_,c.Event,yh,_,_,rfl,x1.st.gr.sub _ _ vz,T.l4,T.l5,Kf _ _,_,rfl,_,c.Event,yh,_,_,rfl,x1.st.gr.sub _ _ vz,T.l4,T.l5,Kg _ _,?_⟩;refine ⟨G,r,_,{a with ahead:=r'},p.event.1,p.event.2,n,p.before,rfl,x1.st.gr.sub,⟨_,_,_,_,_,rfl,x1.rs,⟨xv.house,xv.now,xv.past,tY,xv.edits,xv.unedits⟩⟩,⟨on,ho.wf,ho.da,ho.ok,ho.Ub⟩,ht,hv,eW,λG2 H2 MX Be r2=>?_⟩;have eh:CV {a with ahead:=r'} p.event.1 p.event.2 p.before={a with now:=p.before,past:=(⟨a.now,p.event⟩::a.past),ahead:=r'}:=by
    unfold CV
    have:(⟨a.now,(p.event.1,p.event.2)⟩::a.past:List Past).take 50=⟨a.now,p.event⟩::a.past:=List.take_of_length_le (by rw [au];omega)
    simp only [];rw [this]
   rw [eh] at r2;have r20:=r2;obtain ⟨R2,cs1,cs2,ds1,ds2,rfl,y,yv⟩:=r20;refine ⟨_,rfl,_,c.b7,R2.dx,_,_,rfl,y.hr,T.b0,T.b4,pd R2,R2.e2,_,rfl,.inl (bY.of y.h2),dI,λq hq=>?_⟩;have g3:=(Gr.refl (ms:=[]) Be.gr.sub).new (o:=.lst [.int ((cs2.map V.ref).length:Int)]) hq;refine k q _ _ _ ((x1.st.trans Be).up g3) (r2.up g3) ?_;show upd _ q _ q=_;rw [bN,af,Paired.length yv.ahead,aP];rfl
end
section
variable {P:Program}{w:World}{K:PySem.W.Frag}{mg:Str->Option Value}{base:Heap}{c:Cs}
inductive xB (c:Cs)(rest:List V)(ans:Abs->Ks340.Ans)(vs:List V)(H:Hp)(Q:VK)(E:XK):Prop | mk (G:Hp) (r:Addr) (ms:List Addr) (a:Abs):vs=.ref r::rest->bS G H->Run c G H r ms a->Hy.Inv a->a.on=true->(∀p G' H',Gr [] G H G' H'->dc G' p (ez (ans a))->Q (.ref p) H')->xB c rest ans vs H Q E
inductive u9 (c:Cs)(vs:List V)(H:Hp)(Q:VK)(E:XK):Prop | mk (t:Nat):xB c [.int (t:Int)] (λa=>(Ks340.act a (.value t)).2) vs H Q E->u9 c vs H Q E
theorem LA (T:Tx w K mg c):Fn P w K mg base "value_of" 1 ["running","thing"] (u9 c):=by
 refine T.wQ.ok Ld λH Q E hr h=>?_
 ·obtain ⟨t,G,r,ms,a,rfl,hG,⟨R,cE,cP,cC,cN,rfl,x,xv⟩,inv,on,k⟩:=h;have ho:=dN.of inv on;simp only [He on] at k;refine ⟨_,(bP (cg (bW qp (pv 1) (cv cf (by rfl) T.cW PySem.boot_len (bM (bT (pv 0) rfl) bO)) (b9 _)) (bQ (bU (ck (bM (cG T.fT) bO)))) b5)
   (bQ (bU (ck (bM (cQ fQ (bT (pv 0) rfl) (pv 1) (λ_ _=>rfl)) bO))))),?_⟩
  refine ⟨_,rfl,_,rfl,_,c.b7,R.dx,_,_,rfl,x.hr,T.b0,T.b4,gB R,R.sa,_,rfl,.inr (cA.of (hG _ _ xv.now)),_,_,rfl,rfl,_,rfl,?_⟩;rw [dq,ho.ok.len];refine df (λe=>?_) (λe=>?_)
  ·have fX:¬t<a.house.things.length:=by have:=aD e;omega
   rw [aa fX] at k;exact ⟨dI,λq hq=>k q _ _ ((Gr.refl hG).new hq) bN⟩
  ·have c9:t<a.house.things.length:=by
    rcases ba t a.house.things.length with q | q
    ·exact q
    ·exact ai (aj (by omega)) e
   rw [ab c9] at k;have hx:a.now[t]?=some (Ks338.value a.now t):=by
    have:t<a.now.length:=by rw [ho.ok.len];exact c9
    unfold Ks338.value;rw [List.getD_eq_getElem?_getD,aI this];rfl
   exact ⟨_,rfl,_,c.b7,R.dx,_,_,rfl,x.hr,T.b0,T.b4,gB R,_,rfl,R.sa,_,_,_,rfl,rfl,cA.of (hG _ _ xv.now),cD (AO hx),dI,λq hq=>k q _ _ ((Gr.refl hG).new hq) bN⟩
def yi (c:Cs):Sp:=λvs H Q E=>xB c [] (λa=>(Ks340.act a .values).2) vs H Q E
theorem HE (T:Tx w K mg c)(d6:Fn P w K mg base "counted" 1 ["numbers"] iV):Fn P w K mg base "all_values" 2 ["running"] (yi c):=by
 refine T.rT.ok Ho λH Q E hr h=>?_
 ·obtain ⟨G,r,ms,a,rfl,hG,⟨R,cE,cP,cC,cN,rfl,x,xv⟩,inv,on,k⟩:=h;have ho:=dN.of inv on;simp only [EI on] at k;refine ⟨_,(bQ (bU (b6 d6 hr (bM (gy yA (by rfl) T.sj vJ (bM (bT (pv 0) rfl) bO)) bO)))),?_⟩;refine ⟨_,rfl,_,c.b7,R.dx,_,_,rfl,x.hr,T.b0,T.b4,gB R,R.sa,_,rfl,.inr (cA.of (hG _ _ xv.now)),λl hl=>?_⟩;have g1:=(Gr.refl (ms:=[]) hG).cX (o:=.lst (c0 a.now)) hl;have da:=ho.wf.da;have hlen:=ho.ok.len;refine ⟨G,l,_,rfl,g1.sub,pb bN,by rw [af];omega,λq G2 H2 g2 _ hq=>k q G2 H2 (g1.trans g2) ?_⟩;rw [af] at hq;exact hq
inductive Af (c:Cs)(vs:List V)(H:Hp)(Q:VK)(E:XK):Prop | mk (t:Nat):xB c [.int (t:Int)] (λa=>(Ks340.act a (.why t)).2) vs H Q E->Af c vs H Q E
theorem Q0 (T:Tx w K mg c)(f9:Fn P w K mg base "deciding_rule" 3 ["entries","thing","state"] (iU c)):Fn P w K mg base "why_so" 4 ["running","thing"] (Af c):=by
 refine T.Cq.ok GN λH Q E hr h=>?_
 ·obtain ⟨t,G,r,ms,a,rfl,hG,⟨R,cE,cP,cC,cN,rfl,x,xv⟩,inv,on,k⟩:=h;have ho:=dN.of inv on;obtain ⟨ha,d7,hh⟩:=xv.house.2 on;obtain ⟨dX,tl,el,dv,hT,hE⟩:=hh;simp only [M4 on] at k;refine ⟨_,(bP (cg (bW qp (pv 1) (cv cf (by rfl) T.cW PySem.boot_len (bM (bT (pv 0) rfl) bO)) (b9 _)) (bQ (bU (ck (bM (cG T.fT) bO)))) b5)
   (bP (cJ GN 2 (b6 f9 hr (bM (bT (bT (pv 0) rfl) rfl) (bM (pv 1) (bM (bT (pv 0) rfl) bO)))))
   (bP (cg (bW gJ (pv 2) cF (b9 _)) (bQ (bU (ck (bM (cG T.fZ) bO)))) b5)
   (bQ (bU (ck (bM (pv 2) bO))))))),?_⟩
  refine ⟨_,rfl,_,rfl,_,c.b7,R.dx,_,_,rfl,x.hr,T.b0,T.b4,gB R,R.sa,_,rfl,.inr (cA.of (hG _ _ xv.now)),_,_,rfl,rfl,_,rfl,?_⟩;rw [dq,ho.ok.len];refine df (λe=>?_) (λe=>?_)
  ·have fX:¬t<a.house.things.length:=by have:=aD e;omega
   rw [aa fX] at k;exact ⟨dI,λq hq=>k q _ _ ((Gr.refl hG).new hq) bN⟩
  ·have c9:t<a.house.things.length:=by
    rcases ba t a.house.things.length with q | q
    ·exact q
    ·exact ai (aj (by omega)) e
   rw [ab c9] at k;refine ⟨_,rfl,_,c.b7,R.dx,_,_,rfl,x.hr,T.b0,T.b4,cV d7,_,c.House,dX,_,_,rfl,hG _ _ dv,T.cH,T.cI,cU tl el,_,rfl,_,rfl,_,c.b7,R.dx,_,_,rfl,x.hr,T.b0,T.b4,gB R,el,R.sa,a.house,a.now,t,rfl,hE.up hG,xv.now.up hG,sS ho.wf,ho.ok.len,λH1 s1=>?_⟩;have g1:Gr [] G H G H1:=Gr.dS hG s1;refine ⟨_,rfl,rfl,_,rfl,?_⟩;cases hd:Ks338.decides a.house a.now t with
   | none =>refine iT ⟨dI,λq hq=>k q _ _ (g1.new hq) ?_⟩;unfold EJ;rw [hd];exact bN
   | some i =>refine iF ⟨_,rfl,dI,λq hq=>k q _ _ (g1.new hq) ?_⟩;unfold EJ;rw [hd];exact bN
inductive Ag (c:Cs)(vs:List V)(H:Hp)(Q:VK)(E:XK):Prop | mk (t:Nat):xB c [.int (t:Int)] (λa=>(Ks340.act a (.log t)).2) vs H Q E->Ag c vs H Q E
theorem Q2 (T:Tx w K mg c):Fn P w K mg base "logged" 1 ["running","number"] (Ag c):=by
 refine T.Cr.ok GO λH Q E hr h=>?_
 ·obtain ⟨t,G,r,ms,a,rfl,hG,⟨R,cE,cP,cC,cN,rfl,x,xv⟩,inv,on,k⟩:=h;have jK:cE.length=a.past.length:=by rw [Paired.length xv.past,aP]
  simp only [M5 on] at k;refine ⟨_,(bP (cg (bW qp (pv 1) (cv cf (by rfl) T.cW PySem.boot_len (bM (bT (pv 0) rfl) bO)) (b9 _)) (bQ (bU (ck (bM (cG T.fT) bO)))) b5)
   (bP (cJ GO 2 (cQ cR (bT (pv 0) rfl) (dj qR (j4 il b8) (pv 1)) (λ_ _=>rfl)))
   (bQ (bU (ck (bM (bT (pv 2) rfl) (bM (bT (pv 2) rfl) bO))))))),?_⟩
  refine ⟨_,rfl,_,rfl,_,c.b7,R.dx,_,_,rfl,x.hr,T.b0,T.b4,iX R,R.e1,_,rfl,.inl (bY.of x.h1),_,_,rfl,rfl,_,rfl,?_⟩;rw [af,jK];refine df (λe=>?_) (λe=>?_)
  ·have fX:a.past.length<=t:=by have:=aD e;omega
   refine ⟨dI,λq hq=>k q _ _ ((Gr.refl hG).new hq) ?_⟩;unfold EK;rw [bx fX];exact bN
  ·have c9:t<a.past.length:=by
    rcases ba t a.past.length with q | q
    ·exact q
    ·exact ai (aj (by omega)) e
   obtain ⟨p,hp⟩:∃p,a.past[t]?=some p:=⟨_,aI c9⟩
   have aaM:a.past.reverse[a.past.length - 1 - t]?=some p:=by rw [List.getElem?_reverse (by omega),show a.past.length - 1 - (a.past.length - 1 - t)=t by omega];exact hp
   obtain ⟨ev,vz,yh,sb,Xr,_⟩:=Paired.lO xv.past aaM;have iA:qT (cE.map V.ref) (-1 - (t:Int))=some (.ref ev):=by
    have:=at_neg (xs:=cE.map V.ref) (n:=t+1) (x:=.ref ev) (by omega) (by rw [af];omega) (by rw [af,jK,show a.past.length - (t+1)=a.past.length - 1 - t by omega,aS,vz];rfl)
    rw [show (-1 - (t:Int))=-((t+1:Nat):Int) by omega];exact this
   refine ⟨_,rfl,_,c.b7,R.dx,_,_,rfl,x.hr,T.b0,T.b4,iX R,_,rfl,_,rfl,_,_,rfl,rfl,R.e1,_,_,_,rfl,rfl,bY.of x.h1,iA,?_⟩;refine ⟨_,rfl,_,c.Event,yh,_,_,rfl,hG _ _ Xr,T.l4,T.l5,Kf _ _,_,rfl,_,c.Event,yh,_,_,rfl,hG _ _ Xr,T.l4,T.l5,Kg _ _,BP,λq hq=>k q _ _ ((Gr.refl hG).new hq) ?_⟩;unfold EK;rw [hp];exact bN
inductive CY (c:Cs)(vs:List V)(H:Hp)(Q:VK)(E:XK):Prop | mk (G:Hp) (r:Addr) (ms:List Addr) (a:Abs):vs=[.ref r]->bS G H->Run c G H r ms a->Hy.Inv a->(∀p G' H',Gr [] G H G' H'->dc G' p (ez (Ks340.act a .state).2)->Q (.ref p) H')->CY c vs H Q E
theorem SF (T:Tx w K mg c):Fn P w K mg base "sizes" 1 ["running"] (CY c):=by
 refine T.Fy.ok Cg λH Q E hr h=>?_
 ·obtain ⟨G,r,ms,a,rfl,hG,⟨R,cE,cP,cC,cN,rfl,x,xv⟩,inv,k⟩:=h;rw [Hf] at k;refine ⟨_,(bP (cJ Cg 1 (bT (pv 0) rfl))
   (bP (cg (bW gJ (pv 1) cF (b9 _)) (bQ (bU (ck (bM b8 (bM b8 (bM b8 (bM b8 (bM b8 (bM b8 (bM b8 bO)))))))))) b5)
   (bP (cJ Cg 2 (ck (bM (cv cf (by rfl) T.cW PySem.boot_len (bM (bT (pv 0) rfl) bO)) (bM (cv cf (by rfl) T.cW PySem.boot_len (bM (bT (pv 0) rfl) bO)) (bM (cv cf (by rfl) T.cW PySem.boot_len (bM (bT (pv 0) rfl) bO)) (bM (cv cf (by rfl) T.cW PySem.boot_len (bM (bT (pv 0) rfl) bO)) bO))))))
   (bQ (bU (dj i8 (ck (bM b8 (bM (cv cf (by rfl) T.cW PySem.boot_len (bM (bT (pv 1) rfl) bO)) (bM (cv cf (by rfl) T.cW PySem.boot_len (bM (bT (pv 1) rfl) bO)) bO)))) (pv 2))))))),?_⟩
  refine ⟨_,rfl,_,c.b7,R.dx,_,_,rfl,x.hr,T.b0,T.b4,z9 R,?_⟩;refine ⟨_,rfl,rfl,_,rfl,?_⟩;cases on:a.on with
  | false =>rw [xv.house.1 on];have e:=inv.off on;refine iT ⟨sz7,λq hq=>k q _ _ ((Gr.refl hG).new hq) ?_⟩;rw [e];exact bN
  | true =>
   obtain ⟨ha,d7,hh⟩:=xv.house.2 on;obtain ⟨dX,tl,el,dv,⟨GZ,o8,kx⟩,⟨MV,dC,ic⟩⟩:=hh;rw [d7];have jK:cE.length=a.past.length:=by rw [Paired.length xv.past,aP]
   have fz:cP.length=a.ahead.length:=by rw [Paired.length xv.ahead,aP]
   have mN:cC.length=a.edits.length:=by rw [Paired.length xv.edits,aP]
   have EL:cN.length=a.unedits.length:=by rw [Paired.length xv.unedits,aP]
   refine iF ⟨_,rfl,_,c.b7,R.dx,_,_,rfl,x.hr,T.b0,T.b4,iX R,R.e1,_,rfl,.inl (bY.of x.h1),_,rfl,_,c.b7,R.dx,_,_,rfl,x.hr,T.b0,T.b4,pd R,R.e2,_,rfl,.inl (bY.of x.h2),_,rfl,_,c.b7,R.dx,_,_,rfl,x.hr,T.b0,T.b4,oH R,R.c1,_,rfl,.inl (bY.of x.h3),_,rfl,_,c.b7,R.dx,_,_,rfl,x.hr,T.b0,T.b4,Aa R,R.c2,_,rfl,.inl (bY.of x.h4),sz4,λl1 h1=>?_⟩;have g1:=(Gr.refl (ms:=[]) hG).cX (o:=.lst [.int ((cE.map V.ref).length:Int),.int ((cP.map V.ref).length:Int),.int ((cC.map V.ref).length:Int),.int ((cN.map V.ref).length:Int)]) h1;refine ⟨_,rfl,_,c.House,dX,_,_,rfl,g1.sub _ _ dv,T.cH,T.cI,cS tl el,tl,_,rfl,.inl (bY.of (g1.sub _ _ o8)),_,rfl,_,c.House,dX,_,_,rfl,g1.sub _ _ dv,T.cH,T.cI,cU tl el,el,_,rfl,.inl (bY.of (g1.sub _ _ dC)),TN,λl2 h2=>?_⟩;have g2:=g1.cX (o:=.lst [.int 1,.int ((GZ.map V.ref).length:Int),.int ((MV.map V.ref).length:Int)]) h2;refine ⟨_,rfl,l2,l1,_,_,rfl,rfl,bN,(bS.new h2) _ _ bN,by show 3+4<=sizeLine;decide,λq hq=>k q _ _ (g2.new hq) ?_⟩;show upd _ q _ q=_;rw [bN,on];simp only [af,jK,fz,mN,EL,Paired.length kx,Paired.length ic];rfl
end
theorem xC {α β:Type}{R:α->β->Prop}:∀{l1 l2:List α}{m1 m2:List β},Paired R l1 m1->Paired R l2 m2->Paired R (l1++l2) (m1++m2)
 | _,_,_,_,.nil,h=>h
 | _,_,_,_,.cons r t,h=>.cons r (xC t h)
theorem va {α β:Type}{R:α->β->Prop}:∀{l:List α}{m:List β}(n:Nat),Paired R l m->Paired R (l.take n) (m.take n)
 | _,_,0,h=>.nil
 | _,_,n+1,.nil=>.nil
 | _,_,n+1,.cons r t=>.cons r (va n t)
theorem Ah (as:List Addr)(n:Nat):fE (as.map V.ref) none (some (n:Int))=(as.take n).map V.ref:=by rw [zM,List.map_take]
theorem Ai (as:List Addr)(n:Nat):fE (as.map V.ref) (some (n:Int)) none=(as.drop n).map V.ref:=by rw [zN,List.map_drop]
def k7 (c:Cs)(ts:List Thing)(G:Hp)(p:Addr):Except Int (List Line×Nat)->Prop
 | .error n=>n<0/\∃dx,G p=some (.ins c.dA dx [("refusal",.int n),("entries",.cw),("answer",.cw)])
 | .ok x=>∃dx el,G p=some (.ins c.dA dx [("refusal",.int 0),("entries",.ref el),("answer",.int (x.2:Int))])/\cY c ts G el x.1
theorem k7.up {c:Cs}{ts:List Thing}{G G':Hp}{p:Addr}:∀{x:Except Int (List Line×Nat)},k7 c ts G p x->bS G G'->k7 c ts G' p x
 | .error n,⟨l,dx,h⟩,u=>⟨l,dx,u _ _ h⟩
 | .ok x,⟨dx,el,h,e⟩,u=>⟨dx,el,u _ _ h,e.up u⟩
def gf (h:House)(i:Nat)(bs:Bytes):Except Int (List Line×Nat):=if h.lines.length<i then .error (-22) else match Ks340.lineOf h bs with
 | none=>.error (-71)
 | some x=>if 16<=h.lines.length then .error (-12) else .ok (Ks340.inserted h.lines i x,h.lines.length+1)
def gQ (h:House)(i:Nat):Except Int (List Line×Nat):=if h.lines.length<=i then .error (-2) else .ok (h.lines.eraseIdx i,h.lines.length - 1)
def gR (h:House)(i j:Nat):Except Int (List Line×Nat):=if h.lines.length<=i\/h.lines.length<=j then .error (-2) else .ok (Ks340.moved h.lines i j,j)
theorem OH {h:House}(w:Hy.fC h)(bs:Bytes):Hy.entryOf h.things (eY bs)=Ks340.lineOf h bs:=by
 unfold Ks340.lineOf eY;cases hr:Ks337.okRow bs with
 | false=>rw [aa (by decide),ab rfl];rfl
 | true=>rw [ab rfl,aa (by decide),<-Hy.mq,Hy.Mf w.ts.plain]
section
variable {P:Program}{w:World}{K:PySem.W.Frag}{mg:Str->Option Value}{base:Heap}{c:Cs}
inductive kq (c:Cs)(vs:List V)(H:Hp)(Q:VK)(E:XK):Prop | mk (G:Hp) (n:Int):vs=[.int n]->bS G H->n<0->(∀p G' H',Gr [] G H G' H'->(∀ts,k7 c ts G' p (.error n))->Q (.ref p) H')->kq c vs H Q E
theorem OI (T:Tx w K mg c)(gp:Made P w K mg base "Wanted" c.dA 1 ["self","refusal","entries","answer"] ["refusal","entries","answer"]):Fn P w K mg base "refused" 3 ["refusal"] (kq c):=by
 refine T.zD.ok N0 λH Q E hr h=>?_
 ·obtain ⟨G,n,rfl,hG,hn,k⟩:=h;refine ⟨_,(bQ (bU (ff gp hr (bM (pv 0) (bM cF (bM cF bO)))))),?_⟩;exact ⟨_,rfl,rfl,λx dx nx nd ne=>k x _ _ ((Gr.refl hG).ins nx nd ne) λts=>⟨hn,dx,bN⟩⟩
inductive oJ (c:Cs)(vs:List V)(H:Hp)(Q:VK)(E:XK):Prop | mk (G:Hp) (el ea:Addr) (i:Nat) (ts:List Thing) (ls:List Line) (l:Line):vs=[.ref el,.int (i:Int),.ref ea]->bS G H->cY c ts G el ls->eM c ts G ea l->ls.length<=100->(∀p G' H',Gr [] G H G' H'->cY c ts G' p (Ks340.inserted ls i l)->Q (.ref p) H')->oJ c vs H Q E
theorem LB (T:Tx w K mg c):Fn P w K mg base "inserted" 1 ["entries","number","entry"] (oJ c):=by
 refine T.wY.ok Lg λH Q E hr h=>?_
 ·obtain ⟨G,el,ea,i,ts,ls,l,rfl,hG,⟨as,dC,has⟩,ic,hl,k⟩:=h;have hlen:=Paired.length has;refine ⟨_,(bQ (bU (dj i8 (dj i8 (dZ fV (pv 0) gE (dJ (pv 1))) (ck (bM (pv 2) bO))) (dZ fV (pv 0) (dJ (pv 1)) gE)))),?_⟩;refine ⟨_,rfl,_,rfl,_,rfl,el,_,rfl,bY.of (hG _ _ dC),λp1 h1=>?_⟩;rw [Ah];have g1:=(Gr.refl (ms:=[]) hG).cX (o:=.lst ((as.take i).map V.ref)) h1;refine ⟨_,rfl,dI,λp2 h2=>?_⟩;have g2:=g1.cX (o:=.lst [.ref ea]) h2;refine ⟨p1,p2,_,_,rfl,rfl,(bS.new h2) _ _ bN,bN,?_,λp3 h3=>?_⟩
  ·rw [af,aO];show _+1<=sizeLine;exact aJ (cx (by omega))
  have g3:=g2.cX (o:=.lst ((as.take i).map V.ref++[.ref ea])) h3;refine ⟨_,rfl,_,rfl,_,rfl,el,_,rfl,bY.of (g3.sub _ _ dC),λp4 h4=>?_⟩;rw [Ai];have g4:=g3.cX (o:=.lst ((as.drop i).map V.ref)) h4;refine ⟨p3,p4,_,_,rfl,rfl,(bS.new h4) _ _ bN,bN,?_,λp5 h5=>?_⟩
  ·rw [ay,af,aO,af,bg];show _+1+_<=sizeLine;exact aJ (cx (by omega))
  have g5:=g4.new (o:=.lst ((as.take i).map V.ref++[.ref ea]++(as.drop i).map V.ref)) h5;refine k p5 _ _ g5 ⟨as.take i++ea::as.drop i,?_,?_⟩
  ·rw [bN,aB,aw,aT];rfl
  ·exact xC (va i (Paired.imp' (λ_ _ q=>eM.up q g5.up) has)) (.cons (ic.up g5.up) (k6 i (Paired.imp' (λ_ _ q=>eM.up q g5.up) has)))
inductive qA (c:Cs)(vs:List V)(H:Hp)(Q:VK)(E:XK):Prop | mk (G:Hp) (el:Addr) (i:Nat) (ts:List Thing) (ls:List Line):vs=[.ref el,.int (i:Int)]->bS G H->cY c ts G el ls->ls.length<=100->(∀p G' H',Gr [] G H G' H'->cY c ts G' p (ls.eraseIdx i)->Q (.ref p) H')->qA c vs H Q E
theorem OJ (T:Tx w K mg c):Fn P w K mg base "without" 1 ["entries","number"] (qA c):=by
 refine T.zE.ok N1 λH Q E hr h=>?_
 ·obtain ⟨G,el,i,ts,ls,rfl,hG,⟨as,dC,has⟩,hl,k⟩:=h;have hlen:=Paired.length has;refine ⟨_,(bQ (bU (dj i8 (dZ fV (pv 0) gE (dJ (pv 1))) (dZ fV (pv 0) (dJ (dj i6 (pv 1) b8)) gE)))),?_⟩;refine ⟨_,rfl,_,rfl,_,rfl,el,_,rfl,bY.of (hG _ _ dC),λp1 h1=>?_⟩;rw [Ah];have g1:=(Gr.refl (ms:=[]) hG).cX (o:=.lst ((as.take i).map V.ref)) h1;refine ⟨_,rfl,_,rfl,_,_,rfl,rfl,_,rfl,el,_,rfl,bY.of (g1.sub _ _ dC),λp4 h4=>?_⟩;have ec:fE (as.map V.ref) (some ((i:Int)+1)) none=(as.drop (i+1)).map V.ref:=by
   have:=Ai as (i+1)
   rw [show (((i+1:Nat)):Int)=(i:Int)+1 by omega] at this;exact this
  rw [ec];have g4:=g1.cX (o:=.lst ((as.drop (i+1)).map V.ref)) h4;refine ⟨p1,p4,_,_,rfl,rfl,(bS.new h4) _ _ bN,bN,?_,λp5 h5=>?_⟩
  ·rw [af,aO,af,bg];exact aJ (cx (by omega))
  have g5:=g4.new (o:=.lst ((as.take i).map V.ref++(as.drop (i+1)).map V.ref)) h5;refine k p5 _ _ g5 ⟨as.take i++as.drop (i+1),?_,?_⟩
  ·rw [bN,aB]
  ·rw [List.eraseIdx_eq_take_drop_succ];exact xC (va i (Paired.imp' (λ_ _ q=>eM.up q g5.up) has)) (k6 (i+1) (Paired.imp' (λ_ _ q=>eM.up q g5.up) has))
inductive oK (c:Cs)(vs:List V)(H:Hp)(Q:VK)(E:XK):Prop | mk (G:Hp) (ha la:Addr) (i:Nat) (h:House) (bs:Bytes):vs=[.ref ha,.int (i:Int),.ref la]->bS G H->eN c G ha h->dF H la bs->Hy.fC h->(∀p G' H',Gr [] G H G' H'->k7 c h.things G' p (gf h i bs)->Q (.ref p) H')->oK c vs H Q E
theorem LC (T:Tx w K mg c)(fU:Fn P w K mg base "refused" 3 ["refusal"] (kq c))(kh:Fn P w K mg base "entry_of" 6 ["words","things"] (k4 c))(gu:Fn P w K mg base "words_of" 2 ["row"] k0)(kr:Fn P w K mg base "inserted" 1 ["entries","number","entry"] (oJ c))
  (gp:Made P w K mg base "Wanted" c.dA 1 ["self","refusal","entries","answer"] ["refusal","entries","answer"]):Fn P w K mg base "addition" 7 ["house","number","line"] (oK c):=by
 refine T.wZ.ok uH λH Q E hr h=>?_
 ·obtain ⟨G,ha,la,i,h,bs,rfl,hG,⟨dX,tl,el,dv,hT,hE⟩,m7,wf,k⟩:=h;have Q3:=hE;obtain ⟨as,dC,has⟩:=Q3;have hlen:=Paired.length has;have kC:=wf.kC;refine ⟨_,(bP (cJ uH 3 (bT (pv 0) rfl))
   (bP (cg (bW ql (pv 1) (cv cf (by rfl) T.cW PySem.boot_len (bM (pv 3) bO)) (b9 _)) (bQ (bU (b6 fU hr (bM (cG T.qw) bO)))) b5)
   (bP (cJ uH 4 (b6 kh hr (bM (b6 gu hr (bM (pv 2) bO)) (bM (bT (pv 0) rfl) bO))))
   (bP (cg (bW gJ (pv 4) cF (b9 _)) (bQ (bU (b6 fU hr (bM (cG T.oB) bO)))) b5)
   (bP (cg (bW dk (cv cf (by rfl) T.cW PySem.boot_len (bM (pv 3) bO)) (cG T.kf) (b9 _)) (bQ (bU (b6 fU hr (bM (cG T.JH) bO)))) b5)
   (bQ (bU (ff gp hr (bM b8 (bM (b6 kr hr (bM (pv 3) (bM (pv 1) (bM (pv 4) bO)))) (bM (dj i6 (cv cf (by rfl) T.cW PySem.boot_len (bM (pv 3) bO)) b8) bO))))))))))),?_⟩
  refine ⟨_,rfl,_,c.House,dX,_,_,rfl,hG _ _ dv,T.cH,T.cI,cU tl el,?_⟩;refine ⟨_,rfl,_,rfl,el,_,rfl,.inl (bY.of (hG _ _ dC)),_,_,rfl,rfl,_,rfl,?_⟩;rw [af,hlen];refine df (λe=>?_) (λe=>?_)
  ·have c9:h.lines.length<i:=by have:=aD e;omega
   refine ⟨G,_,rfl,hG,by decide,λp G1 H1 g1 hw=>k p G1 H1 g1 ?_⟩;unfold gf;rw [ab c9];exact hw _
  ·have fX:¬h.lines.length<i:=λq=>e (aj (by omega));refine ⟨_,rfl,G,la,bs,rfl,hG,m7,λwa G1 H1 g1 jt=>?_⟩;refine ⟨_,rfl,_,c.House,dX,_,_,rfl,g1.sub _ _ (g1.up _ _ dv),T.cH,T.cI,cS tl el,?_⟩;refine ⟨G1,wa,tl,_,h.things,rfl,g1.sub,jt,(hT.up g1.up).up g1.sub,ui bs,λx hx=>(JW bs x hx).2.2,λv G2 H2 g2 hv=>?_⟩;rw [OH wf] at hv;have iG:=g1.trans g2;refine ⟨_,rfl,rfl,_,rfl,?_⟩;cases hl:Ks340.lineOf h bs with
   | none =>rw [hl] at hv;cases (show v=.cw from hv);refine iT ⟨G2,_,rfl,g2.sub,by decide,λp G3 H3 g3 hw=>k p G3 H3 (iG.trans g3) ?_⟩;unfold gf;rw [aa fX,hl];exact hw _
   | some l =>
    rw [hl] at hv;obtain ⟨ea,rfl,ic⟩:=hv;refine iF ⟨_,rfl,el,_,rfl,.inl (bY.of (iG.sub _ _ (iG.up _ _ dC))),rfl,_,rfl,?_⟩;rw [af,hlen];refine df (λe=>?_) (λe=>?_)
    ·have Xs:16<=h.lines.length:=by
      have:=aD e
      injection this with this
      omega
     refine ⟨G2,_,rfl,g2.sub,by decide,λp G3 H3 g3 hw=>k p G3 H3 (iG.trans g3) ?_⟩;unfold gf;rw [aa fX,hl];simp only [];rw [ab Xs];exact hw _
    ·have Xs:¬16<=h.lines.length:=λq=>e (aj (by rw [show h.lines.length=16 by omega];rfl));refine ⟨_,rfl,_,rfl,_,rfl,G2,el,ea,i,h.things,h.lines,l,rfl,g2.sub,hE.up iG.up,ic,by omega,λp3 G3 H3 g3 yd=>?_⟩;have vN:=iG.trans g3;refine ⟨_,rfl,el,_,rfl,.inl (bY.of (vN.sub _ _ (vN.up _ _ dC))),_,_,rfl,rfl,rfl,λx dx nx nd ne=>?_⟩;have gi:=(Gr.refl (ms:=[]) vN.sub).ins (C:=c.dA) (fs:=[("refusal",.int 0),("entries",.ref p3),("answer",.int ((((as.map V.ref).length:Nat):Int)+1))]) nx nd ne;refine k x _ _ (vN.trans gi) ?_;unfold gf;rw [aa fX,hl];simp only [];rw [aa Xs];refine ⟨dx,p3,?_,yd.up gi.up⟩;rw [bN,af,hlen];rfl
inductive xD (c:Cs)(vs:List V)(H:Hp)(Q:VK)(E:XK):Prop | mk (G:Hp) (ha:Addr) (i:Nat) (h:House):vs=[.ref ha,.int (i:Int)]->bS G H->eN c G ha h->Hy.fC h->(∀p G' H',Gr [] G H G' H'->k7 c h.things G' p (gQ h i)->Q (.ref p) H')->xD c vs H Q E
theorem OK (T:Tx w K mg c)(fU:Fn P w K mg base "refused" 3 ["refusal"] (kq c))(mh:Fn P w K mg base "without" 1 ["entries","number"] (qA c))
  (gp:Made P w K mg base "Wanted" c.dA 1 ["self","refusal","entries","answer"] ["refusal","entries","answer"]):Fn P w K mg base "removal" 4 ["house","number"] (xD c):=by
 refine T.zF.ok D7 λH Q E hr h=>?_
 ·obtain ⟨G,ha,i,h,rfl,hG,⟨dX,tl,el,dv,hT,hE⟩,wf,k⟩:=h;have Q3:=hE;obtain ⟨as,dC,has⟩:=Q3;have hlen:=Paired.length has;have kC:=wf.kC;refine ⟨_,(bP (cJ D7 2 (bT (pv 0) rfl))
   (bP (cg (bW qp (pv 1) (cv cf (by rfl) T.cW PySem.boot_len (bM (pv 2) bO)) (b9 _)) (bQ (bU (b6 fU hr (bM (cG T.fT) bO)))) b5)
   (bQ (bU (ff gp hr (bM b8 (bM (b6 mh hr (bM (pv 2) (bM (pv 1) bO))) (bM (dj qR (cv cf (by rfl) T.cW PySem.boot_len (bM (pv 2) bO)) b8) bO)))))))),?_⟩
  refine ⟨_,rfl,_,c.House,dX,_,_,rfl,hG _ _ dv,T.cH,T.cI,cU tl el,?_⟩;refine ⟨_,rfl,_,rfl,el,_,rfl,.inl (bY.of (hG _ _ dC)),_,_,rfl,rfl,_,rfl,?_⟩;rw [af,hlen];refine df (λe=>?_) (λe=>?_)
  ·have hle:h.lines.length<=i:=by have:=aD e;omega
   refine ⟨G,_,rfl,hG,by decide,λp G1 H1 g1 hw=>k p G1 H1 g1 ?_⟩;unfold gQ;rw [ab hle];exact hw _
  ·have c9:¬h.lines.length<=i:=λq=>e (aj (by omega));refine ⟨_,rfl,_,rfl,G,el,i,h.things,h.lines,rfl,hG,hE,by omega,λp3 G3 H3 g3 yd=>?_⟩;refine ⟨_,rfl,el,_,rfl,.inl (bY.of (g3.sub _ _ (g3.up _ _ dC))),_,_,rfl,rfl,rfl,λx dx nx nd ne=>?_⟩;have gi:=(Gr.refl (ms:=[]) g3.sub).ins (C:=c.dA) (fs:=[("refusal",.int 0),("entries",.ref p3),("answer",.int ((((as.map V.ref).length:Nat):Int) - 1))]) nx nd ne;refine k x _ _ (g3.trans gi) ?_;unfold gQ;rw [aa c9];refine ⟨dx,p3,?_,yd.up gi.up⟩;rw [bN,af,hlen,show ((h.lines.length:Nat):Int) - 1=((h.lines.length - 1:Nat):Int) by omega]
inductive pV (c:Cs)(vs:List V)(H:Hp)(Q:VK)(E:XK):Prop | mk (G:Hp) (ha:Addr) (i j:Nat) (h:House):vs=[.ref ha,.int (i:Int),.int (j:Int)]->bS G H->eN c G ha h->Hy.fC h->(∀p G' H',Gr [] G H G' H'->k7 c h.things G' p (gR h i j)->Q (.ref p) H')->pV c vs H Q E
theorem HF (T:Tx w K mg c)(fU:Fn P w K mg base "refused" 3 ["refusal"] (kq c))(mh:Fn P w K mg base "without" 1 ["entries","number"] (qA c))(kr:Fn P w K mg base "inserted" 1 ["entries","number","entry"] (oJ c))
  (gp:Made P w K mg base "Wanted" c.dA 1 ["self","refusal","entries","answer"] ["refusal","entries","answer"]):Fn P w K mg base "relocation" 4 ["house","number","place"] (pV c):=by
 refine T.rW.ok ya λH Q E hr h=>?_
 ·obtain ⟨G,ha,i,j,h,rfl,hG,⟨dX,tl,el,dv,hT,hE⟩,wf,k⟩:=h;have Q3:=hE;obtain ⟨as,dC,has⟩:=Q3;have hlen:=Paired.length has;have kC:=wf.kC;refine ⟨_,(bP (cJ ya 3 (bT (pv 0) rfl))
   (bP (cg (ot (bW qp (pv 1) (cv cf (by rfl) T.cW PySem.boot_len (bM (pv 3) bO)) (b9 _)) (oQ (bW qp (pv 2) (cv cf (by rfl) T.cW PySem.boot_len (bM (pv 3) bO)) (b9 _)))).pt (bQ (bU (b6 fU hr (bM (cG T.fT) bO)))) b5)
   (bQ (bU (ff gp hr (bM b8 (bM (b6 kr hr (bM (b6 mh hr (bM (pv 3) (bM (pv 1) bO))) (bM (pv 2) (bM (cQ cR (pv 3) (pv 1) (λ_ _=>rfl)) bO)))) (bM (pv 2) bO)))))))),?_⟩
  refine ⟨_,rfl,_,c.House,dX,_,_,rfl,hG _ _ dv,T.cH,T.cI,cU tl el,?_⟩;have sE:(h.lines.length<=i\/h.lines.length<=j)->kq c [.int (-2)] H Q E0:=λhle=>by refine ⟨G,_,rfl,hG,by decide,λp G1 H1 g1 hw=>k p G1 H1 g1 ?_⟩;unfold gR;rw [ab hle];exact hw _
  refine ⟨_,rfl,_,rfl,el,_,rfl,.inl (bY.of (hG _ _ dC)),_,_,rfl,rfl,_,rfl,?_⟩;rw [af,hlen];refine df (λe=>?_) (λe=>?_)
  ·exact iT (sE (.inl (by have:=aD e;omega)))
  ·have h1:¬h.lines.length<=i:=λq=>e (aj (by omega));refine ⟨_,rfl,_,rfl,el,_,rfl,.inl (bY.of (hG _ _ dC)),_,_,rfl,rfl,_,rfl,?_⟩;rw [af,hlen];refine df (λe2=>?_) (λe2=>?_)
   ·exact sE (.inr (by have:=aD e2;omega))
   ·have h2:¬h.lines.length<=j:=λq=>e2 (aj (by omega));obtain ⟨l,hl⟩:∃l,h.lines[i]?=some l:=⟨_,aI (by omega)⟩
    obtain ⟨ea,f6,ic⟩:=Paired.lO has hl;refine ⟨_,rfl,_,rfl,G,el,i,h.things,h.lines,rfl,hG,hE,by omega,λp3 G3 H3 g3 yd=>?_⟩;refine ⟨_,rfl,_,rfl,_,rfl,el,_,_,_,rfl,rfl,bY.of (g3.sub _ _ (g3.up _ _ dC)),cD (j:=i) (v:=.ref ea) (by rw [aS,f6];rfl),?_⟩;have aaN:(h.lines.eraseIdx i).length<=100:=by have:=List.length_eraseIdx_le h.lines i;omega
    refine ⟨G3,p3,ea,j,h.things,h.lines.eraseIdx i,l,rfl,g3.sub,yd,ic.up g3.up,aaN,λp4 G4 H4 g4 J2=>?_⟩;refine ⟨_,rfl,rfl,λx dx nx nd ne=>?_⟩;have gi:=(Gr.refl (ms:=[]) g4.sub).ins (C:=c.dA) (fs:=[("refusal",.int 0),("entries",.ref p4),("answer",.int (j:Int))]) nx nd ne;refine k x _ _ ((g3.trans g4).trans gi) ?_;unfold gR;rw [aa (λq=>q.elim h1 h2)];refine ⟨dx,p4,bN,?_⟩;have em:Ks340.moved h.lines i j=Ks340.inserted (h.lines.eraseIdx i) j l:=by unfold Ks340.moved;rw [hl]
    show cY c h.things _ p4 (Ks340.moved h.lines i j);rw [em];exact J2.up gi.up
end
def xE (a:Abs):Except Int (List Line×Nat)->Abs×Ks340.Ans
 | .error n=>(a,Ks340.no n)
 | .ok x=>Ks340.changed a x.1 x.2
def Kr (a:Abs):Except Int (List Line×Nat)->Ks340.Ans
 | .error n=>Ks340.no n
 | .ok x=>EE (Ks339.verdict (Ks340.withLines a.house x.1) a.now)
def tD (ts:List Thing):Except Int (List Line×Nat)->Prop
 | .error _=>True
 | .ok x=>Hy.fb ts x.1
section
variable {a:Abs}
theorem Ve (on:a.on=true)(i:Nat)(t:Bytes):Ks340.act a (.add i t)=xE a (gf a.house i t):=by
 unfold Ks340.act;rw [aa (dB on)];unfold gf;simp only []
 by_cases h:a.house.lines.length<i
 ·rw [ab h,ab h];rfl
 ·rw [aa h,aa h];cases Ks340.lineOf a.house t with
  | none=>rfl
  | some x =>
   simp only [];rw [show Ks337.LINES=16 from rfl]
   by_cases h2:16<=a.house.lines.length
   ·rw [ab h2,ab h2];rfl
   ·rw [aa h2,aa h2];rfl
theorem OL (on:a.on=true)(i:Nat)(t:Bytes):Ks340.act a (.mayAdd i t)=(a,Kr a (gf a.house i t)):=by
 unfold Ks340.act;rw [aa (dB on)];unfold gf;simp only []
 by_cases h:a.house.lines.length<i
 ·rw [ab h,ab h];rfl
 ·rw [aa h,aa h];cases Ks340.lineOf a.house t with
  | none=>rfl
  | some x =>
   simp only [];rw [show Ks337.LINES=16 from rfl]
   by_cases h2:16<=a.house.lines.length
   ·rw [ab h2,ab h2];rfl
   ·rw [aa h2,aa h2,qz];rfl
theorem SG (on:a.on=true)(i:Nat):Ks340.act a (.drop i)=xE a (gQ a.house i):=by
 unfold Ks340.act;rw [aa (dB on)];unfold gQ;simp only []
 by_cases h:a.house.lines.length<=i
 ·rw [ab h,ab h];rfl
 ·rw [aa h,aa h];rfl
theorem LD (on:a.on=true)(i:Nat):Ks340.act a (.mayDrop i)=(a,Kr a (gQ a.house i)):=by
 unfold Ks340.act;rw [aa (dB on)];unfold gQ;simp only []
 by_cases h:a.house.lines.length<=i
 ·rw [ab h,ab h];rfl
 ·rw [aa h,aa h,qz];rfl
theorem SH (on:a.on=true)(i j:Nat):Ks340.act a (.move i j)=xE a (gR a.house i j):=by
 unfold Ks340.act;rw [aa (dB on)];unfold gR;simp only []
 by_cases h:a.house.lines.length<=i\/a.house.lines.length<=j
 ·rw [ab h,ab h];rfl
 ·rw [aa h,aa h];rfl
theorem LF (on:a.on=true)(i j:Nat):Ks340.act a (.mayMove i j)=(a,Kr a (gR a.house i j)):=by
 unfold Ks340.act;rw [aa (dB on)];unfold gR;simp only []
 by_cases h:a.house.lines.length<=i\/a.house.lines.length<=j
 ·rw [ab h,ab h];rfl
 ·rw [aa h,aa h,qz];rfl
theorem EM {h:House}(w:Hy.fC h)(i:Nat)(t:Bytes):tD h.things (gf h i t):=by
 unfold gf
 by_cases h1:h.lines.length<i
 ·rw [ab h1];trivial
 ·rw [aa h1];cases hl:Ks340.lineOf h t with
  | none=>trivial
  | some x =>
   simp only []
   by_cases h2:16<=h.lines.length
   ·rw [ab h2];trivial
   ·rw [aa h2];refine Hy.rj w.all (by omega) ?_;unfold Ks340.lineOf at hl
    split at hl
    ·exact nomatch hl
    ·rename_i hr;exact Hy.Fg (by simpa using hr) hl
theorem BY {h:House}(w:Hy.fC h)(i:Nat):tD h.things (gQ h i):=by
 unfold gQ
 by_cases h1:h.lines.length<=i
 ·rw [ab h1];trivial
 ·rw [aa h1];exact Hy.yY w.all
theorem BZ {h:House}(w:Hy.fC h)(i j:Nat):tD h.things (gR h i j):=by
 unfold gR
 by_cases h1:h.lines.length<=i\/h.lines.length<=j
 ·rw [ab h1];trivial
 ·rw [aa h1];exact Hy.Gp w.all
theorem FT (on:a.on=true)(h:a.edits=[]):Ks340.act a .unedit=(a,Ks340.no (-6)):=by unfold Ks340.act;rw [aa (dB on)];simp only [];rw [h]
theorem EN (on:a.on=true){l:List Line}{r:List (List Line)}(h:a.edits=l::r):Ks340.act a .unedit=Ks340.change a l r (a.house.lines::a.unedits) r.length:=by unfold Ks340.act;rw [aa (dB on)];simp only [];rw [h]
theorem FU (on:a.on=true)(h:a.unedits=[]):Ks340.act a .reedit=(a,Ks340.no (-6)):=by unfold Ks340.act;rw [aa (dB on)];simp only [];rw [h]
theorem EO (on:a.on=true){l:List Line}{r:List (List Line)}(h:a.unedits=l::r):Ks340.act a .reedit=Ks340.change a l (a.house.lines::a.edits) r r.length:=by unfold Ks340.act;rw [aa (dB on)];simp only [];rw [h]
end
section
variable {P:Program}{w:World}{K:PySem.W.Frag}{mg:Str->Option Value}{base:Heap}{c:Cs}
inductive jy (c:Cs)(vs:List V)(H:Hp)(Q:VK)(E:XK):Prop | mk (G:Hp) (r:Addr) (R:RL) (cE cP cC cN:List Addr) (a:Abs) (el:Addr) (l:List Line):vs=[.ref r,.ref el]->bS G H->oj c G H r R cE cP cC cN->u6 c G R cE cP cC cN a->dN a->cY c a.house.things G el l->Hy.fb a.house.things l->(∀v G' H' ha,bS G G'->eN c G' ha (Ks340.withLines a.house l)->MZ c G H G' H' r R cC cN ha v (Ks339.verdict (Ks340.withLines a.house l) a.now)->Q v H')->jy c vs H Q E
theorem ER (T:Tx w K mg c)(jl:Fn P w K mg base "settle_in" 9 ["running","house","state"] (mT c))(ki:Made P w K mg base "House" c.House 1 ["self","things","entries"] ["things","entries"]):Fn P w K mg base "take_entries" 10 ["running","entries"] (jy c):=by
 refine T.nL.ok D8 λH Q E hr h=>?_
 ·obtain ⟨G,r,R,cE,cP,cC,cN,a,el,l,rfl,hG,x,xv,ho,dC,m7,k⟩:=h;obtain ⟨ha,d7,hh⟩:=xv.house.2 ho.on;obtain ⟨dX,tl,mi,dv,hT,hE⟩:=hh;refine ⟨_,(bQ (bU (b6 jl hr (bM (pv 0) (bM (ff ki hr (bM (bT (bT (pv 0) rfl) rfl) (bM (pv 1) bO))) (bM (bT (pv 0) rfl) bO)))))),?_⟩;refine ⟨_,rfl,_,rfl,_,c.b7,R.dx,_,_,rfl,x.hr,T.b0,T.b4,cV d7,_,c.House,dX,_,_,rfl,hG _ _ dv,T.cH,T.cI,cS tl mi,_,rfl,rfl,λh2 dx nx nd ne=>?_⟩;have gi:=(Gr.refl (ms:=[]) hG).ins (C:=c.House) (fs:=kY tl el) nx nd ne;have x1:=(Rn.start x hG).up gi;have lY:eN c (upd (upd G dx (.own h2)) h2 (.ins c.House dx (kY tl el))) h2 (Ks340.withLines a.house l):=⟨dx,tl,el,bN,hT.up gi.up,dC.up gi.up⟩
  refine ⟨_,rfl,_,c.b7,R.dx,_,_,rfl,x1.rs.hr,T.b0,T.b4,gB R,?_⟩;refine ⟨_,r,R,cE,cP,cC,cN,h2,R.sa,_,a.now,rfl,gi.sub,x1.rs,lY,xv.now.up gi.up,ho.ok,Hy.Fi ho.wf m7,ho.da,λv G' H' u dH=>k v G' H' h2 (gi.up.trans u) (lY.up u) ?_⟩;cases mf:Ks339.verdict (Ks340.withLines a.house l) a.now with
  | forever w=>rw [mf] at dH;exact ⟨dH.1,gi.trans dH.2⟩
  | never w n=>rw [mf] at dH;exact ⟨dH.1,gi.trans dH.2⟩
  | fine s' L =>rw [mf] at dH;obtain ⟨e,p1,p2,sb,x2,hs⟩:=dH;exact ⟨e,p1,p2,sb,⟨x1.st.trans x2.st,x2.rs⟩,hs⟩
inductive AY (c:Cs)(vs:List V)(H:Hp)(Q:VK)(E:XK):Prop | mk (G:Hp) (r:Addr) (ms:List Addr) (a:Abs) (wa:Addr) (x:Except Int (List Line×Nat)):vs=[.ref r,.ref wa]->bS G H->Run c G H r ms a->Hy.Inv a->a.on=true->k7 c a.house.things G wa x->tD a.house.things x->(∀p G' H' eG,jx ms G H eG G' H'->Run c G' H' r eG (xE a x).1->dc G' p (ez (xE a x).2)->Q (.ref p) H')->AY c vs H Q E
theorem Vf (T:Tx w K mg c)(gI:Fn P w K mg base "take_entries" 10 ["running","entries"] (jy c)):Fn P w K mg base "make" 11 ["running","wanted"] (AY c):=by
 refine T.JG.ok Fu λH Q E hr h=>?_
 ·obtain ⟨G,r,ms,a,wa,y,rfl,hG,⟨R,cE,cP,cC,cN,rfl,x,xv⟩,inv,on,jt,Ks,k⟩:=h;have ho:=dN.of inv on;have o:=inv.on on;have mN:cC.length=a.edits.length:=by rw [Paired.length xv.edits,aP]
  have o20:=o.edits;obtain ⟨ha,d7,hh⟩:=xv.house.2 on;obtain ⟨dX,tl,mi,dv,hT,hE⟩:=hh;refine ⟨_,(bP (cg (bW ie (bT (pv 1) rfl) b8 (b9 _)) (bQ (bU (ck (bM (bT (pv 1) rfl) bO)))) b5)
   (bP (cJ Fu 2 (bT (bT (pv 0) rfl) rfl))
   (bP (cJ Fu 3 (b6 gI hr (bM (pv 0) (bM (bT (pv 1) rfl) bO))))
   (bP (cg (bW ie (pv 3) b8 (b9 _)) (bQ (bU (ck (bM (pv 3) bO)))) b5)
   (bP (cK (pv 0) (dZ fV (dj i8 (bT (pv 0) rfl) (ck (bM (pv 2) bO))) (dJ (j4 il (cG T.nT))) gE) rfl)
   (bP (cK (pv 0) (ck bO) rfl)
   (bQ (bU (ck (bM (bT (pv 1) rfl) bO)))))))))),?_⟩
  cases y with
  | error n =>obtain ⟨hn,dx,hw⟩:=jt;refine ⟨_,rfl,_,c.dA,dx,_,_,rfl,hG _ _ hw,T.gk,T.gn,by rfl,_,_,rfl,rfl,_,rfl,?_⟩;rw [aj hn];refine iT ⟨_,rfl,_,c.dA,dx,_,_,rfl,hG _ _ hw,T.gk,T.gn,by rfl,dI,λq hq=>?_⟩;have g1:=(Gr.refl (ms:=[]) hG).new (o:=.lst [.int n]) hq;have x1:=(Rn.start x hG).up g1;exact k q _ _ _ x1.st ⟨_,_,_,_,_,rfl,x1.rs,xv.up g1.up⟩ bN
  | ok y =>
   obtain ⟨l,av⟩:=y;obtain ⟨dx,el,hw,dC⟩:=jt;refine ⟨_,rfl,_,c.dA,dx,_,_,rfl,hG _ _ hw,T.gk,T.gn,by rfl,_,_,rfl,rfl,_,rfl,?_⟩;refine iF ⟨_,rfl,_,c.b7,R.dx,_,_,rfl,x.hr,T.b0,T.b4,cV d7,_,c.House,dX,_,_,rfl,hG _ _ dv,T.cH,T.cI,cU tl mi,?_⟩;refine ⟨_,rfl,_,rfl,_,c.dA,dx,_,_,rfl,hG _ _ hw,T.gk,T.gn,by rfl,?_⟩;refine ⟨G,r,R,cE,cP,cC,cN,a,el,l,rfl,hG,x,xv,ho,dC,Ks,λv G1 H1 h2 u1 GW dH=>?_⟩;have hmk:xE a (.ok (l,av))=Ks340.change a l ((a.house.lines::a.edits).take Ks340.EDITS) [] av:=rfl;rw [hmk] at k;unfold Ks340.change at k;refine ⟨_,rfl,?_⟩;cases mf:Ks339.verdict (Ks340.withLines a.house l) a.now with
   | forever w =>rw [mf] at dH k;obtain ⟨rfl,g1⟩:=dH;refine ⟨_,_,rfl,rfl,_,rfl,iT ⟨_,rfl,dI,λq hq=>?_⟩⟩;have g2:=(Gr.refl (ms:=[]) g1.sub).new (o:=.lst [.int (-41)]) hq;have x2:=((Rn.start x hG).up g1).up g2;exact k q _ _ _ x2.st ⟨_,_,_,_,_,rfl,x2.rs,xv.up (g1.up.trans g2.up)⟩ bN
   | never w n =>rw [mf] at dH k;obtain ⟨rfl,g1⟩:=dH;refine ⟨_,_,rfl,rfl,_,rfl,iT ⟨_,rfl,dI,λq hq=>?_⟩⟩;have g2:=(Gr.refl (ms:=[]) g1.sub).new (o:=.lst [.int (-42)]) hq;have x2:=((Rn.start x hG).up g1).up g2;exact k q _ _ _ x2.st ⟨_,_,_,_,_,rfl,x2.rs,xv.up (g1.up.trans g2.up)⟩ bN
   | fine s' L =>
    rw [mf] at dH k;obtain ⟨rfl,p1,p2,sb,x1,Ae⟩:=dH;refine ⟨_,_,rfl,rfl,_,rfl,iF ?_⟩;refine ⟨_,rfl,_,c.b7,R.dx,_,_,rfl,x1.rs.hr,T.b0,T.b4,oH _,_,rfl,dI,λl1 jK=>?_⟩;have g2:=(Gr.refl (ms:=[]) x1.st.gr.sub).cX (o:=.lst [.ref mi]) jK;have x2:=x1.up g2;refine ⟨R.c1,l1,_,_,rfl,rfl,x2.rs.h3,bN,?_,λl2 fz=>?_⟩
    ·rw [af];show cC.length+1<=_;exact aJ (cx (by omega))
    have g3:=(Gr.refl (ms:=[]) x2.st.gr.sub).cX (o:=.lst (cC.map V.ref++[.ref mi])) fz;have x3:=x2.up g3;have SE:fE (cC.map V.ref++[V.ref mi]) (some (-(20:Int))) none=((cC++[mi]).drop (cC.length+1 - 20)).map V.ref:=by have q:=M0 (cC.map V.ref++[V.ref mi]) 20 (by decide);rw [show (-((20:Nat):Int))=-(20:Int) from rfl] at q;rw [q,ay,af,List.map_drop,aB];rfl
    refine ⟨_,rfl,_,rfl,l2,_,rfl,bY.of bN,λp hp=>?_⟩;rw [SE];refine ⟨_,rfl,_,c.b7,R.dx,_,rfl,(bS.new hp) _ _ x3.rs.hr,T.b0,T.b4,by show 6<_;decide,?_⟩;rw [BW];have x4:=x3.c1 (as:=(cC++[mi]).drop (cC.length+1 - 20)) hp;refine ⟨hJ,λp4 J2=>⟨_,rfl,_,c.b7,R.dx,_,rfl,(bS.new J2) _ _ x4.rs.hr,T.b0,T.b4,by show 6<_;decide,?_⟩⟩;rw [Hc];have x5:=x4.c2 (as:=[]) J2;refine ⟨_,rfl,_,c.dA,dx,_,_,rfl,x5.st.gr.sub _ _ (u1 _ _ hw),T.gk,T.gn,by rfl,dI,λq hq=>?_⟩;have g6:=(Gr.refl (ms:=[]) x5.st.gr.sub).new (o:=.lst [.int (av:Int)]) hq;have x6:=x5.up g6;have Kl:=xv.up u1;refine k q _ _ _ x6.st ⟨_,_,_,_,_,rfl,x6.rs,u6.up (a:={a with house:=Ks340.withLines a.house l,now:=s',past:=[],ahead:=[],edits:=(a.house.lines::a.edits).take Ks340.EDITS,unedits:=[]}) ⟨⟨λz=>(by rw [on] at z;cases z),λ_=>⟨h2,rfl,GW⟩⟩,Ae,.nil,.nil,?_,.nil⟩ g6.up⟩ bN;show Paired (cY c a.house.things G1) _ (((a.house.lines::a.edits).take 20).reverse);rw [List.reverse_take,bp,au,mN];exact k6 _ (Paired.js Kl.edits (hE.up u1))
inductive oM (c:Cs)(vs:List V)(H:Hp)(Q:VK)(E:XK):Prop | mk (G:Hp) (r:Addr) (ms:List Addr) (a:Abs) (wa:Addr) (x:Except Int (List Line×Nat)):vs=[.ref r,.ref wa]->bS G H->Run c G H r ms a->Hy.Inv a->a.on=true->k7 c a.house.things G wa x->tD a.house.things x->(∀p G' H',Gr [] G H G' H'->dc G' p (ez (Kr a x))->Q (.ref p) H')->oM c vs H Q E
theorem LG (T:Tx w K mg c)(kl:Fn P w K mg base "judge" 8 ["house","state"] (sU c))(gH:Fn P w K mg base "tell_verdict" 2 ["verdict"] (jv c))(ki:Made P w K mg base "House" c.House 1 ["self","things","entries"] ["things","entries"]):Fn P w K mg base "may_make" 9 ["running","wanted"] (oM c):=by
 refine T.w6.ok Lh λH Q E hr h=>?_
 ·obtain ⟨G,r,ms,a,wa,y,rfl,hG,⟨R,cE,cP,cC,cN,rfl,x,xv⟩,inv,on,jt,Ks,k⟩:=h;have ho:=dN.of inv on;obtain ⟨ha,d7,hh⟩:=xv.house.2 on;obtain ⟨dX,tl,mi,dv,hT,hE⟩:=hh;refine ⟨_,(bP (cg (bW ie (bT (pv 1) rfl) b8 (b9 _)) (bQ (bU (ck (bM (bT (pv 1) rfl) bO)))) b5)
   (bQ (bU (b6 gH hr (bM (b6 kl hr (bM (ff ki hr (bM (bT (bT (pv 0) rfl) rfl) (bM (bT (pv 1) rfl) bO))) (bM (bT (pv 0) rfl) bO))) bO))))),?_⟩
  cases y with
  | error n =>obtain ⟨hn,dx,hw⟩:=jt;refine ⟨_,rfl,_,c.dA,dx,_,_,rfl,hG _ _ hw,T.gk,T.gn,by rfl,_,_,rfl,rfl,_,rfl,?_⟩;rw [aj hn];exact iT ⟨_,rfl,_,c.dA,dx,_,_,rfl,hG _ _ hw,T.gk,T.gn,by rfl,dI,λq hq=>k q _ _ ((Gr.refl hG).new hq) bN⟩
  | ok y =>
   obtain ⟨l,av⟩:=y;obtain ⟨dx,el,hw,dC⟩:=jt;refine ⟨_,rfl,_,c.dA,dx,_,_,rfl,hG _ _ hw,T.gk,T.gn,by rfl,_,_,rfl,rfl,_,rfl,?_⟩;refine iF ⟨_,rfl,_,c.b7,R.dx,_,_,rfl,x.hr,T.b0,T.b4,cV d7,_,c.House,dX,_,_,rfl,hG _ _ dv,T.cH,T.cI,cS tl mi,_,rfl,_,c.dA,dx,_,_,rfl,hG _ _ hw,T.gk,T.gn,by rfl,rfl,λh2 BQ nx nd ne=>?_⟩;have gi:=(Gr.refl (ms:=[]) hG).ins (C:=c.House) (fs:=kY tl el) nx nd ne;have lY:eN c (upd (upd G BQ (.own h2)) h2 (.ins c.House BQ (kY tl el))) h2 (Ks340.withLines a.house l):=⟨BQ,tl,el,bN,hT.up gi.up,dC.up gi.up⟩
   have wf2:=Hy.Fi ho.wf Ks;refine ⟨_,rfl,_,c.b7,R.dx,_,_,rfl,gi.same _ _ x.hr,T.b0,T.b4,gB R,?_⟩;refine ⟨_,h2,R.sa,_,a.now,rfl,gi.sub,lY,xv.now.up gi.up,ho.ok,wf2,ho.da,λvr G3 H3 g3 hv=>?_⟩;exact ⟨G3,vr,_,rfl,g3.sub,hv.up g3.sub,BX wf2.lines ho.da ho.ok,λq G4 H4 g4 hq=>k q G4 H4 ((gi.trans g3).trans g4) hq⟩
def Ud (b:Bool):Ks340.Call:=if b then .unedit else .reedit
inductive qB (c:Cs)(vs:List V)(H:Hp)(Q:VK)(E:XK):Prop | mk (G:Hp) (r:Addr) (R:RL) (cE cP cC cN:List Addr) (a:Abs) (b:Bool):vs=[.ref r,.ref (if b then R.c1 else R.c2),.ref (if b then R.c2 else R.c1)]->bS G H->oj c G H r R cE cP cC cN->u6 c G R cE cP cC cN a->Hy.Inv a->a.on=true->(∀p G' H' eG,jx (R.ms r) G H eG G' H'->Run c G' H' r eG (Ks340.act a (Ud b)).1->dc G' p (ez (Ks340.act a (Ud b)).2)->Q (.ref p) H')->qB c vs H Q E
theorem Kt (as:List Addr)(e:Addr):qT ((as++[e]).map V.ref) (-1)=some (.ref e):=at_neg (n:=1) (by decide) (by simp) (pj as e)
theorem OM (T:Tx w K mg c)(gI:Fn P w K mg base "take_entries" 10 ["running","entries"] (jy c)):Fn P w K mg base "go_over" 11 ["running","source","goal"] (qB c):=by
 refine T.zG.ok wH λH Q E hr h=>?_
 ·obtain ⟨G,r,R,cE,cP,cC,cN,a,b,rfl,hG,x,xv,inv,on,k⟩:=h;have ho:=dN.of inv on;have o:=inv.on on;have mN:cC.length=a.edits.length:=by rw [Paired.length xv.edits,aP]
  have EL:cN.length=a.unedits.length:=by rw [Paired.length xv.unedits,aP]
  have o20:=o.edits;obtain ⟨ha,d7,hh⟩:=xv.house.2 on;obtain ⟨dX,tl,mi,dv,hT,hE⟩:=hh;refine ⟨_,(bP (cg (bW dk (cv cf (by rfl) T.cW PySem.boot_len (bM (pv 1) bO)) b8 (b9 _)) (bQ (bU (ck (bM (cG T.fZ) bO)))) b5)
   (bP (cJ wH 3 (bT (bT (pv 0) rfl) rfl))
   (bP (cJ wH 4 (b6 gI hr (bM (pv 0) (bM (cQ cR (pv 1) (j4 il b8) (λ_ _=>rfl)) bO))))
   (bP (cg (bW ie (pv 4) b8 (b9 _)) (bQ (bU (ck (bM (pv 4) bO)))) b5)
   (bP (dy (vn PySem.F.plainAttrs_list PySem.F.slot_list_pop PySem.F.type_list_pop vo (pv 1)))
   (bP (dy (gT PySem.F.plainAttrs_list PySem.F.slot_list_append PySem.F.type_list_append dO (pv 2) (bM (pv 3) bO)))
   (bQ (bU (ck (bM (cv cf (by rfl) T.cW PySem.boot_len (bM (pv 1) bO)) bO)))))))))),?_⟩
  cases b with
  | true =>
   have k1:∀p G' H' eG,jx (R.ms r) G H eG G' H'->Run c G' H' r eG (Ks340.act a .unedit).1->dc G' p (ez (Ks340.act a .unedit).2)->Q (.ref p) H':=k;refine ⟨_,rfl,R.c1,_,rfl,.inl (bY.of x.h3),rfl,_,rfl,?_⟩;rw [af,mN];cases hp:a.edits with
   | nil =>rw [FT on hp] at k1;refine iT ⟨dI,λq hq=>?_⟩;have g1:=(Gr.refl (ms:=[]) hG).new (o:=.lst [.int (-6)]) hq;have x1:=(Rn.start x hG).up g1;exact k1 q _ _ _ x1.st ⟨_,_,_,_,_,rfl,x1.rs,xv.up g1.up⟩ bN
   | cons l r' =>
    rw [EN on hp] at k1;unfold Ks340.change at k1;have Q4:=xv.edits;rw [hp,bp] at Q4;obtain ⟨o9,el,rfl,tY,dC⟩:=ij Q4;refine iF ⟨_,rfl,_,c.b7,R.dx,_,_,rfl,x.hr,T.b0,T.b4,cV d7,_,c.House,dX,_,_,rfl,hG _ _ dv,T.cH,T.cI,cU tl mi,?_⟩;refine ⟨_,rfl,_,rfl,_,rfl,R.c1,_,_,_,rfl,rfl,bY.of x.h3,Kt o9 el,?_⟩;refine ⟨G,r,R,cE,cP,_,cN,a,el,l,rfl,hG,x,xv,ho,dC,o.lines l (.inl (by rw [hp];exact aE ..)),λv G1 H1 h2 u1 GW dH=>?_⟩;refine ⟨_,rfl,?_⟩;cases mf:Ks339.verdict (Ks340.withLines a.house l) a.now with
    | forever w =>rw [mf] at dH k1;obtain ⟨rfl,g1⟩:=dH;refine ⟨_,_,rfl,rfl,_,rfl,iT ⟨_,rfl,dI,λq hq=>?_⟩⟩;have g2:=(Gr.refl (ms:=[]) g1.sub).new (o:=.lst [.int (-41)]) hq;have x2:=((Rn.start x hG).up g1).up g2;exact k1 q _ _ _ x2.st ⟨_,_,_,_,_,rfl,x2.rs,xv.up (g1.up.trans g2.up)⟩ bN
    | never w n =>rw [mf] at dH k1;obtain ⟨rfl,g1⟩:=dH;refine ⟨_,_,rfl,rfl,_,rfl,iT ⟨_,rfl,dI,λq hq=>?_⟩⟩;have g2:=(Gr.refl (ms:=[]) g1.sub).new (o:=.lst [.int (-42)]) hq;have x2:=((Rn.start x hG).up g1).up g2;exact k1 q _ _ _ x2.st ⟨_,_,_,_,_,rfl,x2.rs,xv.up (g1.up.trans g2.up)⟩ bN
    | fine s' L =>
     rw [mf] at dH k1;obtain ⟨rfl,p1,p2,sb,x1,Ae⟩:=dH;refine ⟨_,_,rfl,rfl,_,rfl,iF ?_⟩;refine ⟨_,rfl,.inl ⟨rfl,_,bY.of x1.rs.h3⟩,R.c1,_,_,rfl,rfl,x1.rs.h3,pj o9 el,?_⟩;rw [uq];have x2:=x1.w3 (as:=o9);refine ⟨_,rfl,.inl ⟨rfl,_,bY.of x2.rs.h4⟩,_,rfl,R.c2,_,_,rfl,rfl,x2.rs.h4,?_,?_⟩
     ·rw [af,EL];exact cx (by omega)
     rw [CW];have x3:=x2.w4 (as:=cN++[mi]);refine ⟨_,rfl,R.c1,_,rfl,.inl (bY.of x3.rs.h3),dI,λq hq=>?_⟩;have g4:=(Gr.refl (ms:=[]) x3.st.gr.sub).new (o:=.lst [.int ((o9.map V.ref).length:Int)]) hq;have x4:=x3.up g4;have Kl:=xv.up u1;refine k1 q _ _ _ x4.st ⟨_,_,_,_,_,rfl,x4.rs,u6.up (a:={a with house:=Ks340.withLines a.house l,now:=s',past:=[],ahead:=[],edits:=r',unedits:=a.house.lines::a.unedits}) ⟨⟨λz=>(by rw [on] at z;cases z),λ_=>⟨h2,rfl,GW⟩⟩,Ae,.nil,.nil,Paired.imp' (λ_ _ q=>cY.up q u1) tY,?_⟩ g4.up⟩ ?_
     ·show Paired (cY c a.house.things G1) _ ((a.house.lines::a.unedits).reverse);rw [bp];exact Paired.js Kl.unedits (hE.up u1)
     ·show upd _ q _ q=_;rw [bN,af,Paired.length tY,aP];rfl
  | false =>
   have k1:∀p G' H' eG,jx (R.ms r) G H eG G' H'->Run c G' H' r eG (Ks340.act a .reedit).1->dc G' p (ez (Ks340.act a .reedit).2)->Q (.ref p) H':=k;refine ⟨_,rfl,R.c2,_,rfl,.inl (bY.of x.h4),rfl,_,rfl,?_⟩;rw [af,EL];cases hp:a.unedits with
   | nil =>rw [FU on hp] at k1;refine iT ⟨dI,λq hq=>?_⟩;have g1:=(Gr.refl (ms:=[]) hG).new (o:=.lst [.int (-6)]) hq;have x1:=(Rn.start x hG).up g1;exact k1 q _ _ _ x1.st ⟨_,_,_,_,_,rfl,x1.rs,xv.up g1.up⟩ bN
   | cons l r' =>
    rw [EO on hp] at k1;unfold Ks340.change at k1;have Q4:=xv.unedits;rw [hp,bp] at Q4;obtain ⟨o9,el,rfl,tY,dC⟩:=ij Q4;refine iF ⟨_,rfl,_,c.b7,R.dx,_,_,rfl,x.hr,T.b0,T.b4,cV d7,_,c.House,dX,_,_,rfl,hG _ _ dv,T.cH,T.cI,cU tl mi,?_⟩;refine ⟨_,rfl,_,rfl,_,rfl,R.c2,_,_,_,rfl,rfl,bY.of x.h4,Kt o9 el,?_⟩;refine ⟨G,r,R,cE,cP,cC,_,a,el,l,rfl,hG,x,xv,ho,dC,o.lines l (.inr (by rw [hp];exact aE ..)),λv G1 H1 h2 u1 GW dH=>?_⟩;refine ⟨_,rfl,?_⟩;cases mf:Ks339.verdict (Ks340.withLines a.house l) a.now with
    | forever w =>rw [mf] at dH k1;obtain ⟨rfl,g1⟩:=dH;refine ⟨_,_,rfl,rfl,_,rfl,iT ⟨_,rfl,dI,λq hq=>?_⟩⟩;have g2:=(Gr.refl (ms:=[]) g1.sub).new (o:=.lst [.int (-41)]) hq;have x2:=((Rn.start x hG).up g1).up g2;exact k1 q _ _ _ x2.st ⟨_,_,_,_,_,rfl,x2.rs,xv.up (g1.up.trans g2.up)⟩ bN
    | never w n =>rw [mf] at dH k1;obtain ⟨rfl,g1⟩:=dH;refine ⟨_,_,rfl,rfl,_,rfl,iT ⟨_,rfl,dI,λq hq=>?_⟩⟩;have g2:=(Gr.refl (ms:=[]) g1.sub).new (o:=.lst [.int (-42)]) hq;have x2:=((Rn.start x hG).up g1).up g2;exact k1 q _ _ _ x2.st ⟨_,_,_,_,_,rfl,x2.rs,xv.up (g1.up.trans g2.up)⟩ bN
    | fine s' L =>
     rw [mf] at dH k1;obtain ⟨rfl,p1,p2,sb,x1,Ae⟩:=dH;refine ⟨_,_,rfl,rfl,_,rfl,iF ?_⟩;refine ⟨_,rfl,.inl ⟨rfl,_,bY.of x1.rs.h4⟩,R.c2,_,_,rfl,rfl,x1.rs.h4,pj o9 el,?_⟩;rw [uq];have x2:=x1.w4 (as:=o9);refine ⟨_,rfl,.inl ⟨rfl,_,bY.of x2.rs.h3⟩,_,rfl,R.c1,_,_,rfl,rfl,x2.rs.h3,?_,?_⟩
     ·rw [af,mN];exact cx (by omega)
     rw [CW];have x3:=x2.w3 (as:=cC++[mi]);refine ⟨_,rfl,R.c2,_,rfl,.inl (bY.of x3.rs.h4),dI,λq hq=>?_⟩;have g4:=(Gr.refl (ms:=[]) x3.st.gr.sub).new (o:=.lst [.int ((o9.map V.ref).length:Int)]) hq;have x4:=x3.up g4;have Kl:=xv.up u1;refine k1 q _ _ _ x4.st ⟨_,_,_,_,_,rfl,x4.rs,u6.up (a:={a with house:=Ks340.withLines a.house l,now:=s',past:=[],ahead:=[],edits:=a.house.lines::a.edits,unedits:=r'}) ⟨⟨λz=>(by rw [on] at z;cases z),λ_=>⟨h2,rfl,GW⟩⟩,Ae,.nil,.nil,?_,Paired.imp' (λ_ _ q=>cY.up q u1) tY⟩ g4.up⟩ ?_
     ·show Paired (cY c a.house.things G1) _ ((a.house.lines::a.edits).reverse);rw [bp];exact Paired.js Kl.edits (hE.up u1)
     ·show upd _ q _ q=_;rw [bN,af,Paired.length tY,aP];rfl
inductive Ku (c:Cs)(rest:List V)(cl:Ks340.Call)(vs:List V)(H:Hp)(Q:VK)(E:XK):Prop | mk (G:Hp) (r:Addr) (ms:List Addr) (a:Abs):vs=.ref r::rest->bS G H->Run c G H r ms a->Hy.St a->a.on=true->(∀p G' H' eG,jx ms G H eG G' H'->Run c G' H' r eG (Ks340.act a cl).1->dc G' p (ez (Ks340.act a cl).2)->Q (.ref p) H')->Ku c rest cl vs H Q E
theorem Q5 (T:Tx w K mg c)(mj:Fn P w K mg base "go_over" 11 ["running","source","goal"] (qB c)):Fn P w K mg base "unedit" 12 ["running"] (Ku c [] .unedit):=by
 refine T.Cv.ok Qo λH Q E hr h=>?_
 ·obtain ⟨G,r,ms,a,rfl,hG,⟨R,cE,cP,cC,cN,rfl,x,xv⟩,st,on,k⟩:=h;refine ⟨_,(bQ (bU (b6 mj hr (bM (pv 0) (bM (bT (pv 0) rfl) (bM (bT (pv 0) rfl) bO)))))),?_⟩;exact ⟨_,rfl,_,rfl,_,c.b7,R.dx,_,_,rfl,x.hr,T.b0,T.b4,oH R,_,rfl,_,c.b7,R.dx,_,_,rfl,x.hr,T.b0,T.b4,Aa R,G,r,R,cE,cP,cC,cN,a,true,rfl,hG,x,xv,st.inv,on,k⟩
theorem Q6 (T:Tx w K mg c)(mj:Fn P w K mg base "go_over" 11 ["running","source","goal"] (qB c)):Fn P w K mg base "reedit" 12 ["running"] (Ku c [] .reedit):=by
 refine T.Cw.ok Qp λH Q E hr h=>?_
 ·obtain ⟨G,r,ms,a,rfl,hG,⟨R,cE,cP,cC,cN,rfl,x,xv⟩,st,on,k⟩:=h;refine ⟨_,(bQ (bU (b6 mj hr (bM (pv 0) (bM (bT (pv 0) rfl) (bM (bT (pv 0) rfl) bO)))))),?_⟩;exact ⟨_,rfl,_,rfl,_,c.b7,R.dx,_,_,rfl,x.hr,T.b0,T.b4,Aa R,_,rfl,_,c.b7,R.dx,_,_,rfl,x.hr,T.b0,T.b4,oH R,G,r,R,cE,cP,cC,cN,a,false,rfl,hG,x,xv,st.inv,on,k⟩
end
theorem Q7 {h:House}(w:Hy.fC h)(bs:Bytes):Hy.condOf h.things (eY bs)=Ks339.condOf h bs:=by
 unfold Ks339.condOf eY;cases hr:Ks337.okRow bs with
 | false=>rw [aa (by decide),ab rfl];rfl
 | true =>rw [ab rfl,aa (by decide),Hy.yO w.ts.plain];rfl
theorem SI {ts:List Thing}{ws:List Bytes}{cd:Cond}(h:Hy.condOf ts ws=some cd)(hw:ws.length<=1000):(Hy.flat cd).length<=1000/\Hy.jH ts cd:=by
 obtain ⟨_,e,wc⟩:=Hy.oy h
 have:=jX ts cd
 rw [<-e] at this;exact ⟨by omega,wc⟩
def tE (h:House)(L:List Spot)(bs:Bytes):Ks340.Ans:=match Ks339.condOf h bs with
 | none=>Ks340.no (-71)
 | some cd=>match Ks339.could L cd with
  | none=>Ks340.no (-33)
  | some w=>{ret:=w.length,out:=Ks339.toldWay w}
section
variable {a:Abs}
theorem Hg (on:a.on=true)(bs:Bytes):Ks340.act a (.could bs)=(a,tE a.house (Ks340.spots a) bs):=by
 unfold Ks340.act;rw [aa (dB on)];unfold tE;simp only [];cases Ks339.condOf a.house bs with
 | none=>rfl
 | some cd =>simp only [];cases Ks339.could (Ks340.spots a) cd <;> rfl
theorem Hh (on:a.on=true):Ks340.act a .count=(a,Ks340.no (Ks340.spots a).length):=by unfold Ks340.act;rw [aa (dB on)]
theorem Kv (on:a.on=true):Ks340.act a .idle=(a,{ret:=(Ks339.idle a.house (Ks340.spots a)).length,out:=Ks339.idle a.house (Ks340.spots a)}):=by unfold Ks340.act;rw [aa (dB on)]
end
theorem Ue {H:Hp}{d1 d2:Addr}(n1:H d1=none)(n2:H d2=none):∀m∈[d1,d2],H m=none:=λm hm=>by
 rcases ak.mp hm with z | z
 ·rw [z];exact n1
 ·rw [aK.mp z];exact n2
theorem LH {gs:List State}{s:State}:putK (gs.map λx=>(kS x,V.bl true)) (kS s) (.bl true)=(if s∈gs then gs else gs++[s]).map λx=>(kS x,V.bl true):=by
 by_cases h:s∈gs
 ·rw [ab h];unfold putK;rw [ab (by rw [iL,k5,ab h];rfl),bf];refine List.map_congr_left λx _=>?_;simp only [Function.comp]
  by_cases e:kS x=kS s
  ·rw [ab e]
  ·rw [aa e]
 ·rw [aa h,qW _ (by rw [k5,aa h]),aB];rfl
def kN (n:Nat):Key:=Sum.inl (n:Int)
theorem Xt {a b:Nat}(h:kN a=kN b):a=b:=by unfold kN at h;injection h with h;omega
theorem Aj (v:V)(n:Nat):∀l:List Nat,dU (l.map λx=>(kN x,v)) (kN n)=if n∈l then some v else none
 | []=>by simp [IF]
 | x::l=>by
  have ih:=Aj v n l;rw [aw]
  by_cases e:x=n
  ·subst e;rw [eR rfl,ab (aE ..)]
  ·rw [eF (λq=>e (Xt q)),ih]
   by_cases h:n∈l
   ·rw [ab h,ab (aA _ h)]
   ·rw [aa h,aa (λq=>by rcases ak.mp q with z | z;exact e z.symm;exact h z)]
theorem Q8 {gs:List Nat}{n:Nat}:putK (gs.map λx=>(kN x,V.bl true)) (kN n) (.bl true)=(if n∈gs then gs else gs++[n]).map λx=>(kN x,V.bl true):=by
 by_cases h:n∈gs
 ·rw [ab h];unfold putK;rw [ab (by rw [iL,Aj,ab h];rfl),bf];refine List.map_congr_left λx _=>?_;simp only [Function.comp]
  by_cases e:kN x=kN n
  ·rw [ab e]
  ·rw [aa e]
 ·rw [aa h,qW _ (by rw [Aj,aa h]),aB];rfl
theorem Hi {α:Type}{gs:List α}{s:α}[Decidable (s∈gs)](h:gs.Nodup):(if s∈gs then gs else gs++[s]).Nodup:=by
 by_cases q:s∈gs
 ·rw [ab q];exact h
 ·rw [aa q];exact Ex h q
theorem AZ {α:Type}{gs:List α}{s x:α}[Decidable (s∈gs)]:x∈(if s∈gs then gs else gs++[s])↔x∈gs\/x=s:=by
 by_cases q:s∈gs
 ·rw [ab q];exact ⟨.inl,λh=>h.elim id λe=>by rw [e];exact q⟩
 ·rw [aa q,aY,aK]
section
variable {P:Program}{w:World}{K:PySem.W.Frag}{mg:Str->Option Value}{base:Heap}{c:Cs}
inductive k8 (c:Cs)(vs:List V)(H:Hp)(Q:VK)(E:XK):Prop | mk (G:Hp) (r:Addr) (ms:List Addr) (a:Abs) (p d1 d2 el:Addr) (L:List Spot):vs=[.ref r,.ref p]->bS G H->Run c G H r ms a->Hy.On a->a.on=true->c8 c a.house G H p d1 d2 el->Ks339.reach a.house a.now=.ok L->(∀d kvs G' H',Gr [d1,d2] G H G' H'->c8 c a.house G' H' p d1 d2 el->G' d=none->H d=none->H' d=some (.dT kvs)->Paired (qy G') kvs L->kvs.length<=64->Q (.ref d) H')->k8 c vs H Q E
theorem LI (T:Tx w K mg c)(iB:Fn P w K mg base "reach_from" 7 ["things","passes","start"] (ly c)):Fn P w K mg base "ways_now" 8 ["running","passes"] (k8 c):=by
 refine T.w8.ok Li λH Q E hr h=>?_
 ·obtain ⟨G,r,ms,a,p,d1,d2,el,L,rfl,hG,⟨R,cE,cP,cC,cN,rfl,x,xv⟩,o,on,ps,hL,k⟩:=h;obtain ⟨ha,d7,hh⟩:=xv.house.2 on;obtain ⟨dX,tl,mi,dv,hT,hE⟩:=hh;obtain ⟨_,_,_,_,M6,FV,_⟩:=Hy.rm o;refine ⟨_,(bQ (bU (bT (b6 iB hr (bM (bT (bT (pv 0) rfl) rfl) (bM (pv 1) (bM (bT (pv 0) rfl) bO)))) rfl))),?_⟩;refine ⟨_,rfl,_,c.b7,R.dx,_,_,rfl,x.hr,T.b0,T.b4,cV d7,_,c.House,dX,_,_,rfl,hG _ _ dv,T.cH,T.cI,cS tl mi,_,rfl,_,rfl,_,c.b7,R.dx,_,_,rfl,x.hr,T.b0,T.b4,gB R,?_⟩;refine ⟨G,tl,p,d1,d2,el,R.sa,a.house,a.now,rfl,hG,hT.up hG,ps,xv.now,M6,FV,AW o.wf,o.wf.da,λq G1 H1 g1 zW MQ=>?_⟩;rw [hL] at MQ;obtain ⟨MT,d,kvs,ev,hq,EB,BU,hd,_,yf,J9⟩:=MQ;exact ⟨_,c.Reach,MT,_,_,rfl,g1.sub _ _ hq,T.nU,T.nV,by rfl,k d kvs G1 H1 g1 zW EB BU hd yf J9⟩
inductive pW (c:Cs)(vs:List V)(H:Hp)(Q:VK)(E:XK):Prop | mk (G:Hp) (r:Addr) (ms:List Addr) (a:Abs) (ra:Addr) (bs:Bytes):vs=[.ref r,.ref ra]->bS G H->Run c G H r ms a->Hy.Inv a->a.on=true->dF H ra bs->(∀p G' H',Gr [] G H G' H'->dc G' p (ez (Ks340.act a (.could bs)).2)->Q (.ref p) H')->pW c vs H Q E
theorem HG (T:Tx w K mg c)(eu:Fn P w K mg base "condition_of" 4 ["words","things"] (hW c))(gu:Fn P w K mg base "words_of" 2 ["row"] k0)(gx:Fn P w K mg base "ways_now" 8 ["running","passes"] (k8 c))(eS:xt P w K mg base c)
  (kj:Fn P w K mg base "holds" 2 ["condition","state"] sy) (iW:Fn P w K mg base "tell_way" 1 ["way"] oG):Fn P w K mg base "could_come" 9 ["running","row"] (pW c):=by
 refine T.rX.ok lu λH Q E hr h=>?_
 ·obtain ⟨G,r,ms,a,ra,bs,rfl,hG,cO,inv,on,ky,k⟩:=h;have fO:=cO;obtain ⟨R,cE,cP,cC,cN,rfl,x,xv⟩:=fO;have o:=inv.on on;obtain ⟨ha,d7,hh⟩:=xv.house.2 on;obtain ⟨dX,tl,el,dv,hT,hE⟩:=hh;obtain ⟨L,hL,oS,m6,M6,FV,gh⟩:=Hy.rm o;have Q9:=Hy.Bz o.wf.lines o.da M6 FV;rw [hL] at Q9;rw [Hg on,oS] at k;refine ⟨_,(bP (cJ lu 2 (b6 eu hr (bM (b6 gu hr (bM (pv 1) bO)) (bM (bT (bT (pv 0) rfl) rfl) bO))))
   (bP (cg (bW gJ (pv 2) cF (b9 _)) (bQ (bU (ck (bM (cG T.oB) bO)))) b5)
   (bP (eA PassesOwn.never rfl (Gy (b6 gx hr (bM (pv 0) (bM (zX eS hr (bM (bT (bT (pv 0) rfl) rfl) bO)) bO)))) (jC rfl (di (eO lu 3) (di (eO lu 4) ik))) (bQ (cg (oP (b6 kj hr (bM (pv 2) (bM (pv 3) bO)))) (bQ (bU (dj i8 (ck (bM (cv cf (by rfl) T.cW PySem.boot_len (bM (pv 4) bO)) bO)) (b6 iW hr (bM (pv 4) bO))))) b5)))
   (bQ (bU (ck (bM (cG T.pI) bO))))))),?_⟩
  refine ⟨_,rfl,G,ra,bs,rfl,hG,ky,λwa G1 H1 g1 jt=>?_⟩;refine ⟨_,rfl,_,c.b7,R.dx,_,_,rfl,g1.same _ _ x.hr,T.b0,T.b4,cV d7,_,c.House,dX,_,_,rfl,g1.sub _ _ (g1.up _ _ dv),T.cH,T.cI,cS tl el,?_⟩;refine ⟨G1,wa,tl,_,a.house.things,rfl,g1.sub,jt.up g1.sub,(hT.up g1.up).up g1.sub,ui bs,λv G2 H2 g2 hv=>?_⟩;have iG:=g1.trans g2;have ecp:=Q7 o.wf bs;rw [ecp] at hv;refine ⟨_,rfl,rfl,_,rfl,?_⟩;cases oO:Ks339.condOf a.house bs with
  | none =>rw [oO] at hv;cases (show v=.cw from hv);refine iT ⟨dI,λq hq=>k q _ _ (iG.new hq) ?_⟩;unfold tE;rw [oO];exact bN
  | some cd =>
   rw [oO] at hv;obtain ⟨ca,rfl,c7⟩:=hv;obtain ⟨T7,hwc⟩:=SI (ecp.trans oO) (ui bs);refine iF ?_;refine ⟨_,rfl,_,rfl,_,c.b7,R.dx,_,_,rfl,iG.same _ _ x.hr,T.b0,T.b4,cV d7,_,c.House,dX,_,_,rfl,iG.sub _ _ (iG.up _ _ dv),T.cH,T.cI,cU tl el,el,rfl,λp dx d1 d2 np nd ne n1 n2 kU x1 x2 y1 y2=>?_⟩;obtain ⟨G3,g3,vO⟩:=sN iG.sub (hE.up iG.up) (sS o.wf) o.da np nd ne n1 n2 kU x1 x2 y1 y2;have vN:=iG.trans g3;refine ⟨G3,r,_,a,p,d1,d2,el,L,rfl,g3.sub,cO.up vN,o,on,vO,hL,λd kvs G4 H4 g4 Xu EB BU hd yf J9=>?_⟩;have g14:=iG.trans (g3.trans' g4 (Ue n1 n2));have Kw:H d=none:=vN.th _ BU;refine ⟨d,kvs,rfl,hd,λob=>?_⟩;have g5:Gr [] G H G4 (upd H4 d (.e7 ob (.dT kvs))):=g14.wr (.inl Kw) EB;refine DM (Pv:=λi σ H'=>(∃v3 v4,σ=[some (.ref r),some (.ref ra),some (.ref ca),v3,v4])/\bS (upd H4 d (.e7 ob (.dT kvs))) H'/\∀j<i,∀q:Spot,L[j]?=some q->Ks338.holds q.state cd=false)
     ⟨⟨_,_,rfl⟩,bS.refl _,λj hj=>by omega⟩ (λi σ H' _ q=>q.2.1 _ _ bN) ?_ ?_
   ·rintro i kk v q Tt σ H' hi hq QT ⟨⟨v3,v4,rfl⟩,sm,pr⟩;obtain ⟨y,hy,hk,way,rfl,Sy⟩:=c5 yf hi;simp only at hk;rw [hk,sL] at hq;have Ra:=aM hy;obtain ⟨M7,_⟩:=m6.ok y Ra;have sm1:bS (upd H4 d (.e7 ob (.dT kvs))) (upd H' Tt (.tup [.ref q,.ref way])):=sm.trans (bS.new QT);have g6:Gr [] G H G4 (upd H' Tt (.tup [.ref q,.ref way])):=g5.trans (Gr.dS g5.sub sm1);have aaO:Ed (upd H' Tt (.tup [.ref q,.ref way])) ca cd:=iw.up c7 ((bS.trans g3.up g4.up).trans g6.sub);refine ⟨Tt,_,rfl,cA.of bN,rfl,_,_,rfl,_,_,rfl,rfl,?_⟩;refine ⟨_,rfl,_,rfl,ca,q,cd,y.state,rfl,aaO,cu.up (show cu H' q y.state from hq) (bS.new QT),T7,λo' t v hm=>by rw [M7.len];exact l9 _ o' t v hwc hm,λH7 s7=>⟨_,rfl,?_⟩⟩;have g7:Gr [] G H G4 H7:=g6.trans (Gr.dS g6.sub s7);refine df (λe=>?_) (λe=>?_)
    ·obtain ⟨z0,IU,QO⟩:=Sy;have Gi:z0.length=y.way.length:=by rw [Paired.length QO,aP]
     have acy:=Q9 y Ra;refine ⟨_,rfl,way,_,rfl,.inr (cA.of (g7.sub _ _ IU)),dI,λl1 jK=>?_⟩;have g8:=g7.cX (o:=.lst [.int (((z0.map V.ref).length:Nat):Int)]) jK;refine ⟨_,rfl,G4,way,y.way.reverse,rfl,g8.sub,ju.up ⟨z0,IU,QO⟩ g8.sub,by rw [aP];omega,λl2 G9 H9 g9 fz=>?_⟩;refine ⟨l1,l2,_,_,rfl,rfl,g9.same _ _ bN,g9.sub _ _ fz,?_,λq2 z6=>k q2 _ _ ((g8.trans g9).new z6) ?_⟩
     ·show 1+(List.map V.int (z8 y.way.reverse)).length<=sizeLine;rw [af,xy,aP];exact aJ (cx (by omega))
     ·have hc:Ks339.could L cd=some y.way.reverse:=by unfold Ks339.could;rw [CO (p:=λq:Spot=>Ks338.holds q.state cd) pr hy e];rfl
      unfold tE;rw [oO];simp only [];rw [hc];show upd _ q2 _ q2=_;rw [bN,af,Gi];unfold ez;simp only [aP];rfl
    ·refine ⟨⟨_,_,rfl⟩,sm1.trans s7,λj hj z hz=>?_⟩
     by_cases su:j=i
     ·subst su;rw [hy] at hz;cases hz;cases lY:Ks338.holds y.state cd with
      | false=>rfl
      | true=>exact ai lY e
     ·exact pr j (by omega) z hz
   ·rintro σ H' ⟨⟨v3,v4,rfl⟩,sm,pr⟩;have g6:Gr [] G H G4 H':=g5.trans (Gr.dS g5.sub sm);refine ⟨dI,λq hq=>k q _ _ (g6.new hq) ?_⟩;have hc:Ks339.could L cd=none:=by
     unfold Ks339.could;rw [MS (p:=λq:Spot=>Ks338.holds q.state cd) (λj y hy=>pr j (by rw [Paired.length yf];exact (aH.mp hy).1) y hy)];rfl
    unfold tE;rw [oO];simp only [];rw [hc];exact bN
def ur (c:Cs):Sp:=λvs H Q E=>xB c [] (λa=>(Ks340.act a .count).2) vs H Q E
theorem ES (T:Tx w K mg c)(gx:Fn P w K mg base "ways_now" 8 ["running","passes"] (k8 c))(eS:xt P w K mg base c):Fn P w K mg base "count_coming" 9 ["running"] (ur c):=by
 refine T.nM.ok D9 λH Q E hr h=>?_
 ·obtain ⟨G,r,ms,a,rfl,hG,cO,inv,on,k⟩:=h;have fO:=cO;obtain ⟨R,cE,cP,cC,cN,rfl,x,xv⟩:=fO;have o:=inv.on on;obtain ⟨ha,d7,hh⟩:=xv.house.2 on;obtain ⟨dX,tl,el,dv,hT,hE⟩:=hh;obtain ⟨L,hL,oS,m6,M6,FV,gh⟩:=Hy.rm o;simp only [Hh on,oS] at k;refine ⟨_,(bQ (bU (ck (bM (cv P6 (by rfl) T.cW PySem.boot_len (bM (b6 gx hr (bM (pv 0) (bM (zX eS hr (bM (bT (bT (pv 0) rfl) rfl) bO)) bO))) bO)) bO)))),?_⟩;refine ⟨_,rfl,_,rfl,_,c.b7,R.dx,_,_,rfl,x.hr,T.b0,T.b4,cV d7,_,c.House,dX,_,_,rfl,hG _ _ dv,T.cH,T.cI,cU tl el,el,rfl,λp dx d1 d2 np nd ne n1 n2 kU x1 x2 y1 y2=>?_⟩;obtain ⟨G3,g3,vO⟩:=sN hG hE (sS o.wf) o.da np nd ne n1 n2 kU x1 x2 y1 y2;refine ⟨G3,r,_,a,p,d1,d2,el,L,rfl,g3.sub,cO.up g3,o,on,vO,hL,λd kvs G4 H4 g4 Xu EB BU hd yf J9=>?_⟩;refine ⟨d,kvs,rfl,hd,dI,λq hq=>k q _ _ ((g3.trans' g4 (Ue n1 n2)).new hq) ?_⟩;show upd _ q _ q=_;rw [bN,Paired.length yf];rfl
end
structure pX (c:Cs)(h:House)(p d1 d2 el ea D d:Addr)(o:Obj)(kvs:List (List Key×V))(G H G1 H1:Hp)(gs M:List State):Prop where
 g:Gr [d1,d2] G H G1 H1
 ps:c8 c h G1 H1 p d1 d2 el
 ev:AU G1 ea (Hy.dh h.things)
 gD:G1 D=none
 hD:H1 D=some (.dT (gs.map λx=>(kS x,V.bl true)))
 gd:G1 d=none
 hd:H1 d=some (.e7 o (.dT kvs))
 nd:gs.Nodup
 ok:∀s∈gs,Hy.Ok h.things s
 mem:∀s,s∈gs↔s∈M
section
variable {c:Cs}{h:House}{p d1 d2 el ea D d:Addr}{o:Obj}{kvs:List (List Key×V)}{G H G1 H1 G2 H2:Hp}{gs M:List State}
theorem pX.up (r:pX c h p d1 d2 el ea D d o kvs G H G1 H1 gs M)(n1:D∉[d1,d2])(n2:d∉[d1,d2])(u:Gr [d1,d2] G1 H1 G2 H2)(ps:c8 c h G2 H2 p d1 d2 el):pX c h p d1 d2 el ea D d o kvs G H G2 H2 gs M :=
 have e1:=u.kp _ _ r.hD n1;have e2:=u.kp _ _ r.hd n2
 ⟨r.g.trans u,ps,r.ev.up u.up,u.out r.gD (by rw [r.hD];simp) (λxs=>by rw [e1];simp),e1,u.out r.gd (by rw [r.hd];simp) (λxs=>by rw [e2];simp),e2,r.nd,r.ok,r.mem⟩
theorem pX.MN (r:pX c h p d1 d2 el ea D d o kvs G H G1 H1 gs M)(n1:D∉[d1,d2])(n2:d∉[d1,d2])(u:Gr [] G1 H1 G2 H2):pX c h p d1 d2 el ea D d o kvs G H G2 H2 gs M:=r.up n1 n2 u.any (r.ps.up u)
theorem pX.da (r:pX c h p d1 d2 el ea D d o kvs G H G1 H1 gs M):gs.length<=64:=Hy.mr r.ps.da r.nd r.ok
end
theorem Ak {α β:Type}(f:α->List β){l:List α}{i:Nat}{x:α}(h:l[i]?=some x):(l.take (i+1)).flatMap f=(l.take i).flatMap f++f x:=by rw [take_snoc h,List.flatMap_append,List.flatMap_cons,List.flatMap_nil,aX]
section
variable {P:Program}{w:World}{K:PySem.W.Frag}{mg:Str->Option Value}{base:Heap}{c:Cs}
inductive mU (c:Cs)(vs:List V)(H:Hp)(Q:VK)(E:XK):Prop | mk (G:Hp) (r:Addr) (ms:List Addr) (a:Abs) (p d1 d2 el:Addr) (L:List Spot):vs=[.ref r,.ref p]->bS G H->Run c G H r ms a->Hy.On a->a.on=true->c8 c a.house G H p d1 d2 el->Ks339.reach a.house a.now=.ok L->(∀l as gs G' H',Gr [d1,d2] G H G' H'->c8 c a.house G' H' p d1 d2 el->G' l=some (.lst (as.map V.ref))->Paired (cu G') as gs->(∀s∈gs,Hy.Ok a.house.things s)->gs.length<=64->(∀s,s∈gs↔s∈Hy.DI a.house L)->Q (.ref l) H')->mU c vs H Q E
theorem ET (T:Tx w K mg c)(ji:Fn P w K mg base "events_of" 1 ["things"] (mS c))(gx:Fn P w K mg base "ways_now" 8 ["running","passes"] (k8 c))(gX:Fn P w K mg base "trail" 6 ["passes","state"] (n9 c))
  (fi:Fn P w K mg base "with_value" 1 ["state","thing","value"] jc):Fn P w K mg base "gone_through" 9 ["running","passes"] (mU c):=by
 refine T.nN.ok fY λH Q E hr h=>?_
 ·obtain ⟨G,r,ms,a,p,d1,d2,el,L,rfl,hG,cO,o,on,ps,hL,k⟩:=h;have fO:=cO;obtain ⟨R,cE,cP,cC,cN,rfl,x,xv⟩:=fO;obtain ⟨ha,d7,hh⟩:=xv.house.2 on;obtain ⟨dX,tl,mi,dv,hT,hE⟩:=hh;obtain ⟨L',Zu,oS,m6,M6,FV,gh⟩:=Hy.rm o;have Zr:L'=L:=by rw [hL] at Zu;injection Zu with e;exact e.symm
  subst Zr;obtain ⟨⟨k1,e1⟩,k2,e2⟩:=ps.Ew;have da:=o.wf.da;refine ⟨_,(bP (cJ fY 2 (b6 ji hr (bM (bT (bT (pv 0) rfl) rfl) bO)))
   (bP (cJ fY 3 wo)
   (bP (eA PassesOwn.never rfl (R1 (b6 gx hr (bM (pv 0) (bM (pv 1) bO)))) (eO fY 4) (bQ (eA PassesOwn.never rfl (gC (pv 2)) (eO fY 5) (bQ (eA PassesOwn.never rfl (gC (b6 gX hr (bM (pv 1) (bM (b6 fi hr (bM (pv 4) (bM (cQ fQ (pv 5) b8 (λ_ _=>rfl)) (bM (cQ fQ (pv 5) b8 (λ_ _=>rfl)) bO)))) bO)))) (eO fY 6) (bQ (qG (jo hr) (pv 3) (pv 6) qk rfl)))))))
   (bQ (bU (gy (DJ rfl) (by rfl) T.sj vJ (bM (pv 3) bO))))))),?_⟩
  refine ⟨_,rfl,_,c.b7,R.dx,_,_,rfl,x.hr,T.b0,T.b4,cV d7,_,c.House,dX,_,_,rfl,hG _ _ dv,T.cH,T.cI,cS tl mi,?_⟩;refine ⟨G,tl,a.house.things,rfl,hG,hT.up hG,AW o.wf,da,λea G1 H1 g1 vz=>?_⟩;refine λD hD=>?_;have fg:H D=none:=g1.th _ hD;have nD:D∉[d1,d2]:=λq=>by
   rcases ak.mp q with z | z
   ·rw [z,e1] at fg;cases fg
   ·rw [aK.mp z,e2] at fg;cases fg
  have n1D:d1≠D:=λz=>nD (by rw [z];simp);have n2D:d2≠D:=λz=>nD (by rw [z];simp);have g2:=g1.cX (o:=.dT []) hD;have mQ:=(ps.up g1).wr (D:=D) (o:=.dT []) n1D n2D;refine ⟨_,rfl,_,rfl,G1,r,_,a,p,d1,d2,el,L',rfl,g2.sub,cO.up g2,o,on,mQ,hL,λd kvs G3 H3 g3 vO EB BU hd yf J9=>?_⟩;have Kw:H d=none:=g2.th _ BU;have Tc:d≠D:=λz=>by rw [z,bN] at BU;cases BU
  have nd:d∉[d1,d2]:=λq=>by
   rcases ak.mp q with z | z
   ·rw [z,e1] at Kw;cases Kw
   ·rw [aK.mp z,e2] at Kw;cases Kw
  have n1d:d1≠d:=λz=>nd (by rw [z];simp);have n2d:d2≠d:=λz=>nd (by rw [z];simp);have EA:Gr [d1,d2] G H G3 H3:=(g2.any).trans g3;have mR:H3 D=some (.dT []):=g3.kp _ _ bN nD;have n0:G3 D=none:=g3.out (by exact g1.sub.free hD) (by rw [bN];simp) (λxs=>by rw [mR];simp);refine ⟨d,kvs,rfl,hd,λob=>?_⟩;have r0:pX c a.house p d1 d2 el ea D d ob kvs G H G3 (upd H3 d (.e7 ob (.dT kvs))) [] []:=⟨EA.wr (.inl Kw) EB,vO.wr n1d n2d,vz.up g3.up,n0,by rw [bR (λz=>Tc z.symm)];exact mR,EB,bN,List.nodup_nil,λs hs=>by simp at hs,λs=>Iff.rfl⟩
  refine Ql (Pv:=λi σ H'=>∃(G':Hp)(gs:List State)(v4 v5 v6:Option V),σ=[some (.ref r),some (.ref p),some (.ref ea),some (.ref D),v4,v5,v6]/\pX c a.house p d1 d2 el ea D d ob kvs G H G' H' gs ((L'.take i).flatMap λq=>(Hy.dh a.house.things).flatMap λe=>Hy.i9 a.house q.state e))
   ⟨G3,[],_,_,_,rfl,r0⟩ (λi σ H' _ q=>by obtain ⟨_,_,_,_,_,_,q⟩:=q;exact q.hd) ?_ ?_
  ·rintro i kk v q σ H' hi hq ⟨G',gs,v4,v5,v6,rfl,gi⟩;obtain ⟨y,hy,hk,_⟩:=c5 yf hi;simp only at hk;rw [hk,sL] at hq;have Ra:=aM hy;obtain ⟨M7,acz⟩:=m6.ok y Ra;obtain ⟨xX,J4,J5⟩:=gi.ev;have J6:=Paired.length J5;refine ⟨_,rfl,ea,rfl,⟨_,bY.of (gi.g.sub _ _ J4)⟩,lC (K:=K) (a:=ea) (xs:=xX.map V.ref) (λj σ H2=>∃(G2:Hp)(gs:List State)(v5 v6:Option V),σ=[some (.ref r),some (.ref p),some (.ref ea),some (.ref D),some (.ref q),v5,v6]/\bS G' G2/\cu H2 q y.state /\
     pX c a.house p d1 d2 el ea D d ob kvs G H G2 H2 gs (((L'.take i).flatMap λq=>(Hy.dh a.house.things).flatMap λe=>Hy.i9 a.house q.state e)++((Hy.dh a.house.things).take j).flatMap λe=>Hy.i9 a.house y.state e))
    ⟨G',gs,_,_,rfl,bS.refl _,hq,by rw [List.take_zero,List.flatMap_nil,aX];exact gi⟩ (λj σ H2 _ q=>by obtain ⟨G2,_,_,_,_,sm,_,r2⟩:=q;exact bY.of (r2.g.sub _ _ (sm _ _ J4))) ?_ ?_⟩
   ·rintro j z σ H2 hj ⟨G2,Xv,v5,v6,rfl,sm,z6,M8⟩;obtain ⟨ev,Sw,rfl⟩:=d5 hj;obtain ⟨e,he,ic⟩:=c5 J5 Sw;have QN:e∈Hy.dh a.house.things:=aM he;have evl:=Hy.yU QN;obtain ⟨s',haf⟩:=gh y Ra e QN;obtain ⟨n,eW⟩:=Hy.rk haf;have Xw:H2 ev=some (.tup [.int (e.1:Int),.int (e.2:Int)]):=M8.g.sub _ _ (ic.up sm);refine ⟨_,rfl,_,rfl,_,rfl,ev,_,_,_,rfl,rfl,cA.of Xw,cD (j:=0) rfl,_,rfl,ev,_,_,_,rfl,rfl,cA.of Xw,cD (j:=1) rfl,G2,q,y.state,e.1,e.2,rfl,M8.g.sub,z6,by rw [M7.len];exact evl.1,by rw [M7.len];omega,λvq G4 H4 g4 Xe=>?_⟩;have Rb:=M8.MN nD nd g4;have Rc:cu H4 q y.state:=g4.same _ _ z6;refine ⟨G4,p,d1,d2,el,vq,a.house,_,rfl,Rb.g.sub,Rb.ps,Rb.g.sub _ _ Xe,M7.set evl.2,by omega,λv7 G5 H5 g5 QP md=>?_⟩;have Zv:=Rb.up nD nd g5 QP;have hq5:cu H5 q y.state:=g5.kp _ _ Rc (λz=>by
     obtain ⟨⟨k1',e1'⟩,k2',e2'⟩:=Rb.ps.Ew;rcases ak.mp z with z | z
     ·exact Rc.Eu e1' z
     ·exact Rc.Eu e2' (aK.mp z))
    rw [CU eW] at md;obtain ⟨la,BS,rfl,m7,sP⟩:=md;have vA:=Hy.ll eW;have Yo:=Paired.length sP;refine ⟨la,rfl,⟨_,bY.of (Zv.g.sub _ _ m7)⟩,lC (K:=K) (a:=la) (xs:=BS.map V.ref) (λm σ H6=>∃(gs:List State)(v6:Option V),σ=[some (.ref r),some (.ref p),some (.ref ea),some (.ref D),some (.ref q),some (.ref ev),v6]/\cu H6 q y.state /\
      pX c a.house p d1 d2 el ea D d ob kvs G H G5 H6 gs (((L'.take i).flatMap λq=>(Hy.dh a.house.things).flatMap λe=>Hy.i9 a.house q.state e)++(((Hy.dh a.house.things).take j).flatMap λe=>Hy.i9 a.house y.state e)++(Hy.i9 a.house y.state e).take m))
     ⟨Xv,_,rfl,hq5,by rw [List.take_zero,aX];exact Zv⟩ (λm σ H6 _ z=>by obtain ⟨_,_,_,_,r6⟩:=z;exact bY.of (r6.g.sub _ _ m7)) ?_ ?_⟩
    ·rintro m z σ H6 hm ⟨Zw,v6,rfl,Ug,pq⟩;obtain ⟨sb,aaP,rfl⟩:=d5 hm;obtain ⟨sx,T8,Sv⟩:=c5 sP aaP;have aaQ:cu H6 sb sx:=pq.g.sub _ _ Sv;have ON:Hy.Ok a.house.things sx:=by
      obtain ⟨jj,_,e3⟩:=Hy.AH.mp (aM T8);rw [<-e3];exact (M7.set evl.2).it o.wf.lines jj
     refine ⟨_,rfl,_,rfl,D,_,rfl,pz.t pq.hD aaQ.key (by rw [af];exact cx (by have:=pq.da;omega)),?_⟩;rw [LH];refine ⟨_,_,rfl,?_,⟨pq.g.wr (.inl fg) pq.gD,pq.ps.wr n1D n2D,pq.ev,pq.gD,bN,pq.gd,by rw [bR Tc];exact pq.hd,Hi pq.nd,λs hs=>?_,λs=>?_⟩⟩
     ·unfold cu;rw [bR (Ug.Eu pq.hD)];exact Ug
     ·rcases AZ.mp hs with hs | hs
      ·exact pq.ok s hs
      ·rw [hs];exact ON
     ·rw [AZ,pq.mem,vA,take_snoc T8];simp only [aY,aK,or_assoc]
    ·rintro σ H6 ⟨Zw,v6,rfl,Ug,pq⟩;rw [af,Yo,<-vA,aZ,aT,<-Ak (λe=>Hy.i9 a.house y.state e) he] at pq;exact ⟨G5,Zw,_,_,rfl,(sm.trans g4.up).trans g5.up,Ug,pq⟩
   ·rintro σ H2 ⟨G2,Xv,v5,v6,rfl,sm,z6,M8⟩;rw [af,J6,aZ,<-Ak (λq:Spot=>(Hy.dh a.house.things).flatMap λe=>Hy.i9 a.house q.state e) hy] at M8;exact ⟨G2,Xv,_,_,_,rfl,M8⟩
  ·rintro σ H' ⟨G',gs,v4,v5,v6,rfl,gi⟩;rw [Paired.length yf,aZ] at gi;refine ⟨_,rfl,D,_,rfl,gi.hD,λl qs hl hq=>?_⟩;have g4:=gi.g.Cp.new (o:=.lst (qs.map V.ref)) hl;obtain ⟨⟨k1',e1'⟩,k2',e2'⟩:=gi.ps.Ew;refine k l qs gs _ _ g4 ?_ bN ?_ gi.ok gi.da gi.mem
   ·exact ((gi.ps.Cp gi.g.sub).rH (o:=.lst (qs.map V.ref)) ((Co gi.g.sub).free hl) (cb e1' hl) (cb e2' hl)).wr (cb e1' hl) (cb e2' hl)
   ·exact pQ (λq xs e=>by have e':=wI (G:=G') e;rw [bR (cb e hl)];exact e') hq
def Yp (h:House)(L:List Spot)(ws:List Nat):Prop:=∀i,i∈ws↔∃s∈Hy.DI h L,∃t,t<h.things.length/\Ks338.decides h s t=some i
def OO (h:House)(s:State):List Nat:=(List.range h.things.length).filterMap λt=>Ks338.decides h s t
theorem OP {h:House}{s:State}{t i:Nat}(e:Ks338.decides h s t=some i):i<h.lines.length:=by obtain ⟨_,_,q,_⟩:=Hy.rf e;exact (aH.mp q).1
theorem SJ {l:List Nat}{n:Nat}(hn:l.Nodup)(h:∀x∈l,x<n):l.length<=n:=by
 have:=Hy.Cd (m:=List.range n) hn λx hx=>bj.mpr (h x hx)
 rwa [bo] at this
inductive lQ (c:Cs)(vs:List V)(H:Hp)(Q:VK)(E:XK):Prop | mk (G:Hp) (r:Addr) (ms:List Addr) (a:Abs) (L:List Spot):vs=[.ref r]->bS G H->Run c G H r ms a->Hy.On a->a.on=true->Ks339.reach a.house a.now=.ok L->(∀l ws G' H',Gr [] G H G' H'->H' l=some (.lst (c0 ws))->Yp a.house L ws->Q (.ref l) H')->lQ c vs H Q E
theorem CZ (T:Tx w K mg c)(eS:xt P w K mg base c)(oo:Fn P w K mg base "gone_through" 9 ["running","passes"] (mU c))(fw:i7 K c.Passes/\Mt P w K mg base c.Passes "rules_in" 4 ["self","state"] (oF c)) :
  Fn P w K mg base "rules_at_work" 10 ["running"] (lQ c):=by
 refine T.mG.ok gN λH Q E hr h=>?_
 ·obtain ⟨G,r,ms,a,L,rfl,hG,cO,o,on,hL,k⟩:=h;have fO:=cO;obtain ⟨R,cE,cP,cC,cN,rfl,x,xv⟩:=fO;obtain ⟨ha,d7,hh⟩:=xv.house.2 on;obtain ⟨dX,tl,el,dv,hT,hE⟩:=hh;have da:=o.wf.da;have kC:=o.wf.kC;refine ⟨_,(bP (cJ gN 1 (zX eS hr (bM (bT (bT (pv 0) rfl) rfl) bO)))
   (bP (cJ gN 2 RC)
   (bP (eA PassesOwn.never rfl (gC (b6 oo hr (bM (pv 0) (bM (pv 1) bO)))) (eO gN 3) (bQ (eA PassesOwn.never rfl (gC (N2 (pv 1) fw hr (bM (pv 3) bO))) (eO gN 4) (bQ (cg (bW qE (pv 4) cF (b9 _)) (bQ (qG (jo hr) (pv 2) (pv 4) qk rfl)) b5)))))
   (bQ (bU (gy (NN rfl) (by rfl) T.sj vJ (bM (pv 2) bO))))))),?_⟩
  refine ⟨_,rfl,_,c.b7,R.dx,_,_,rfl,x.hr,T.b0,T.b4,cV d7,_,c.House,dX,_,_,rfl,hG _ _ dv,T.cH,T.cI,cU tl el,el,rfl,λp dx d1 d2 np nd ne n1 n2 kU x1 x2 y1 y2=>?_⟩;obtain ⟨G3,g3,vO⟩:=sN hG hE (sS o.wf) o.da np nd ne n1 n2 kU x1 x2 y1 y2;refine λD hD=>?_;obtain ⟨⟨k1,e1⟩,k2,e2⟩:=vO.Ew;have n1D:d1≠D:=cb e1 hD;have n2D:d2≠D:=cb e2 hD;have nD:D∉[d1,d2]:=λq=>by
   rcases ak.mp q with z | z
   ·exact n1D z.symm
   ·exact n2D (aK.mp z).symm
  have fg:H D=none:=g3.th _ hD;have g4:=g3.cX (o:=.dK []) hD;have Xu:=vO.wr (D:=D) (o:=.dK []) n1D n2D;refine ⟨_,rfl,_,rfl,G3,r,_,a,p,d1,d2,el,L,rfl,g4.sub,cO.up g4,o,on,Xu,hL,λgl gas gs G5 H5 g5 QP Zx Xx aaR acA Zy=>?_⟩;have Zz:=g4.trans' g5 (Ue n1 n2);have ZA:H5 D=some (.dK []):=g5.kp _ _ bN nD;have aaS:G5 D=none:=g5.out (g3.sub.free hD) (by rw [bN];simp) (λxs=>by rw [ZA];simp);have aaT:=Paired.length Xx;refine ⟨gl,rfl,⟨_,bY.of (Zz.sub _ _ Zx)⟩,lC (K:=K) (a:=gl) (xs:=gas.map V.ref) (λi σ H6=>∃(G6:Hp)(ws:List Nat)(v3 v4:Option V),σ=[some (.ref r),some (.ref p),some (.ref D),v3,v4]/\bS G5 G6/\Gr [] G H G6 H6/\c8 c a.house G6 H6 p d1 d2 el/\G6 D=none/\H6 D=some (.dK (ws.map λx=>(kN x,V.bl true))) /\
    ws.Nodup/\(∀n∈ws,n<a.house.lines.length)/\∀n,n∈ws↔n∈(gs.take i).flatMap (OO a.house))
   ⟨G5,[],_,_,rfl,bS.refl _,Zz,QP,aaS,ZA,List.nodup_nil,λn hn=>by simp at hn,λn=>Iff.rfl⟩ (λi σ H6 _ q=>by obtain ⟨_,_,_,_,_,sm,g6,_⟩:=q;exact bY.of (g6.sub _ _ (sm _ _ Zx))) ?_ ?_⟩
  ·rintro i z σ H6 hi ⟨G6,ws,v3,v4,rfl,sm,g6,Xy,gA,OQ,ZC,ZD,OS⟩;obtain ⟨sa,aaU,rfl⟩:=d5 hi;obtain ⟨s,hs,JV⟩:=c5 Xx aaU;have ON:=aaR s (aM hs);obtain ⟨dxp,hp⟩:=Xy.ins;refine ⟨_,rfl,p,dxp,_,rfl,g6.sub _ _ hp,MM el d1 d2,_,rfl,G6,p,d1,d2,el,sa,a.house,s,rfl,g6.sub,Xy,(JV.up sm).up g6.sub,ON,by omega,λrl G7 H7 g7 ps7 Es=>?_⟩;have ZE:=g6.trans' g7 (Ue n1 n2);have ZF:=g7.kp _ _ OQ nD;have Xz:G7 D=none:=g7.out gA (by rw [OQ];simp) (λxs=>by rw [ZF];simp);refine ⟨rl,rfl,⟨_,bY.of (ZE.sub _ _ Es)⟩,lC (K:=K) (a:=rl) (xs:=eD a.house s) (λj σ H8=>∃(ws:List Nat)(v4:Option V),σ=[some (.ref r),some (.ref p),some (.ref D),some (.ref sa),v4]/\Gr [] G H G7 H8/\c8 c a.house G7 H8 p d1 d2 el/\H8 D=some (.dK (ws.map λx=>(kN x,V.bl true))) /\
     ws.Nodup/\(∀n∈ws,n<a.house.lines.length)/\∀n,n∈ws↔n∈(gs.take i).flatMap (OO a.house)\/∃t,t<j/\Ks338.decides a.house s t=some n)
    ⟨ws,_,rfl,ZE,ps7,ZF,ZC,ZD,λn=>by rw [OS];exact ⟨.inl,λh=>h.elim id λ⟨t,ht,_⟩=>by omega⟩⟩ (λj σ H8 _ q=>by obtain ⟨_,_,_,g8,_⟩:=q;exact bY.of (g8.sub _ _ Es)) ?_ ?_⟩
   ·rintro j z σ H8 hj ⟨ws8,v4,rfl,g8,Uh,Ui,Kx,Ky,EU⟩;have hjl:j<s.length:=by
     have:=(aH.mp hj).1
     unfold eD at this;rwa [af,bo] at this
    have hz:z=optN (Ks338.decides a.house s j):=by unfold eD at hj;rw [aS,List.getElem?_range hjl] at hj;exact (ao hj).symm
    subst hz;refine ⟨_,rfl,rfl,_,rfl,?_⟩;cases hd:Ks338.decides a.house s j with
    | none =>
     refine iF ⟨ws8,_,rfl,g8,Uh,Ui,Kx,Ky,λn=>?_⟩;rw [EU];refine or_congr Iff.rfl ⟨λ⟨t,ht,e⟩=>⟨t,by omega,e⟩,λ⟨t,ht,e⟩=>⟨t,?_,e⟩⟩
     by_cases q:t=j
     ·rw [q,hd] at e;cases e
     ·omega
    | some b =>
     have hb:=OP hd;have Gi:ws8.length<=16:=aN (SJ Kx Ky) kC;refine iT ⟨_,rfl,_,rfl,D,_,rfl,pz.k (k:=kN b) Ui (by rw [af];exact cx (by omega)),?_⟩;rw [Q8];refine ⟨_,_,rfl,g8.wr (.inl fg) Xz,Uh.wr n1D n2D,bN,Hi Kx,λn hn=>?_,λn=>?_⟩
     ·rcases AZ.mp hn with hn | hn
      ·exact Ky n hn
      ·rw [hn];exact hb
     ·rw [AZ,EU,or_assoc];refine or_congr Iff.rfl ⟨λhh=>?_,λ⟨t,ht,e⟩=>?_⟩
      ·rcases hh with ⟨t,ht,e⟩ | e
       ·exact ⟨t,by omega,e⟩
       ·exact ⟨j,by omega,by rw [hd,e]⟩
      ·by_cases q:t=j
       ·rw [q,hd] at e;exact .inr (ao e).symm
       ·exact .inl ⟨t,by omega,e⟩
   ·rintro σ H8 ⟨ws8,v4,rfl,g8,Uh,Ui,Kx,Ky,EU⟩;have el2:(eD a.house s).length=a.house.things.length:=by unfold eD;rw [af,bo,ON.len]
    rw [el2] at EU;refine ⟨G7,ws8,_,_,rfl,sm.trans g7.up,g8,Uh,Xz,Ui,Kx,Ky,λn=>?_⟩;rw [EU,Ak _ hs,aY];refine or_congr Iff.rfl ?_;unfold OO;rw [List.mem_filterMap];exact ⟨λ⟨t,ht,e⟩=>⟨t,bj.mpr ht,e⟩,λ⟨t,ht,e⟩=>⟨t,bj.mp ht,e⟩⟩
  ·rintro σ H6 ⟨G6,ws,v3,v4,rfl,sm,g6,Xy,gA,OQ,ZC,ZD,OS⟩;rw [af,aaT,aZ] at OS;refine ⟨_,rfl,D,_,rfl,OQ,λl hl=>k l ws _ _ (g6.cX hl) ?_ λn=>?_⟩
   ·rw [bN,bf];rfl
   ·rw [OS,bq];unfold OO;exact ⟨λ⟨s,hs,hn⟩=>by
      obtain ⟨t,ht,e⟩:=List.mem_filterMap.mp hn;exact ⟨s,(Zy s).mp hs,t,bj.mp ht,e⟩,
     λ⟨s,hs,t,ht,e⟩=>⟨s,(Zy s).mpr hs,List.mem_filterMap.mpr ⟨t,bj.mpr ht,e⟩⟩⟩
theorem Kz (x:Nat):∀ws:List Nat,gU (.int (x:Int)) (c0 ws)=ws.contains x
 | []=>rfl
 | y::ws=>by
  have ih:=Kz x ws;unfold gU c0 at ih ⊢;rw [aw,List.any_cons,ih,List.contains_cons]
  have:Bl (.int (y:Int)) (.int (x:Int))=(x == y):=by
   show ((y:Int) == (x:Int))=(x == y)
   by_cases e:x=y
   ·subst e;simp
   ·rw [beq_false_of_ne e,beq_false_of_ne (λq=>e (by omega))]
  rw [this]
theorem Rf (ws:List Nat):(c0 ws).all iJ=true:=by unfold c0;rw [List.all_map,br];intro x _;rfl
theorem B0 (l:Line):decide (jW l=.cw)=!Ks339.isRule l:=by cases l <;> rfl
def yj (c:Cs):Sp:=λvs H Q E=>xB c [] (λa=>(Ks340.act a .idle).2) vs H Q E
theorem HH (T:Tx w K mg c)(mV:Fn P w K mg base "rules_at_work" 10 ["running"] (lQ c))(d6:Fn P w K mg base "counted" 1 ["numbers"] iV):Fn P w K mg base "idle_rules" 11 ["running"] (yj c):=by
 refine T.rY.ok ja λH Q E hr h=>?_
 ·obtain ⟨G,r,ms,a,rfl,hG,cO,inv,on,k⟩:=h;have fO:=cO;obtain ⟨R,cE,cP,cC,cN,rfl,x,xv⟩:=fO;have o:=inv.on on;obtain ⟨ha,d7,hh⟩:=xv.house.2 on;obtain ⟨dX,tl,el,dv,hT,hE⟩:=hh;obtain ⟨L,hL,oS,m6,M6,FV,gh⟩:=Hy.rm o;obtain ⟨MV,dC,ic⟩:=hE;have Yq:=Paired.length ic;have kC:=o.wf.kC;simp only [Kv on,oS] at k;refine ⟨_,(bP (cJ ja 1 (b6 mV hr (bM (pv 0) bO)))
   (bP (cJ ja 2 (ck bO))
   (bP (eA PassesOwn.never rfl (qH (by rfl) T.fN (bM (bT (bT (pv 0) rfl) rfl) bO)) (jC rfl (di (eO ja 3) (di (eO ja 4) ik))) (bQ (cg (vj (bW qE (bT (pv 4) rfl) cF (b9 _)) (qD (bW jF (pv 3) (pv 1) (by with_unfolding_all rfl)))).pt (bQ (dy (gT PySem.F.plainAttrs_list PySem.F.slot_list_append PySem.F.type_list_append dO (pv 2) (bM (pv 3) bO)))) b5)))
   (bQ (bU (b6 d6 hr (bM (pv 2) bO))))))),?_⟩
  refine ⟨_,rfl,G,r,_,a,L,rfl,hG,cO,o,on,hL,λl ws G1 H1 g1 hl P2=>?_⟩;have Uj:=Hy.UN m6 o.some gh P2;refine ⟨hJ,λD hD=>?_⟩;have fg:H D=none:=g1.th _ hD;have g2:=g1.cX (o:=.lst []) hD;refine ⟨_,rfl,_,c.b7,R.dx,_,_,rfl,g2.same _ _ x.hr,T.b0,T.b4,cV d7,_,c.House,dX,_,_,rfl,g2.sub _ _ (g2.up _ _ dv),T.cH,T.cI,cU tl el,el,_,rfl,bY.of (g2.sub _ _ (g2.up _ _ dC)),?_⟩;refine nk (K:=K) (a:=el) (xs:=MV.map V.ref) (λi σ H'=>(∃v3 v4,σ=[some (.ref r),some (.ref l),some (.ref D),v3,v4])/\Gr [] G H G1 H'/\H' l=some (.lst (c0 ws))/\H' D=some (.lst (c0 ((List.range i).filter λn=>Hy.kR a.house n && !ws.contains n))))
   ⟨⟨_,_,rfl⟩,g2,(bS.new hD) _ _ hl,bN⟩ (λi σ H' _ q=>bY.of (q.2.1.sub _ _ (q.2.1.up _ _ dC))) ?_ ?_
  ·rintro i y σ H' z hi ⟨⟨v3,v4,rfl⟩,g3,mN,mR⟩ hz;obtain ⟨e,hei,rfl⟩:=d5 hi;obtain ⟨ln,ZG,yh,wa,ca,hee,jt,c7⟩:=c5 ic hei;have Dq:=(aH.mp ZG).1;have g4:=g3.cX (o:=.tup [.int ((i:Nat):Int),.ref e]) hz;have EL:=(bS.new (o:=.tup [.int ((i:Nat):Int),.ref e]) hz) _ _ mN;have KA:=(bS.new (o:=.tup [.int ((i:Nat):Int),.ref e]) hz) _ _ mR;have ky:Hy.kR a.house i=Ks339.isRule ln:=by unfold Hy.kR;rw [ZG]
   have T7:((List.range i).filter λn=>Hy.kR a.house n && !ws.contains n).length<=i:=by
    have:=List.length_filter_le (λn=>Hy.kR a.house n && !ws.contains n) (List.range i)
    rwa [bo] at this
   have same:(Hy.kR a.house i && !ws.contains i)=false->(List.range (i+1)).filter (λn=>Hy.kR a.house n && !ws.contains n)=(List.range i).filter λn=>Hy.kR a.house n && !ws.contains n:=λq=>by rw [List.range_succ,List.filter_append,List.filter_cons_of_neg (by rw [q];decide)];simp
   refine ⟨z,_,rfl,cA.of bN,rfl,_,_,rfl,_,_,rfl,rfl,?_⟩;refine ⟨_,rfl,_,c.Entry,yh,_,_,rfl,g4.sub _ _ (g4.up _ _ hee),T.ir,T.iu,uU wa ca ln,rfl,_,rfl,?_⟩;cases Uk:Ks339.isRule ln with
   | false =>
    have:jW ln=.cw:=by have q:=B0 ln;rw [Uk] at q;exact aD q
    rw [this];refine iF (iF ⟨⟨_,_,rfl⟩,g4,EL,?_⟩);rw [same (by rw [ky,Uk];rfl)];exact KA
   | true =>
    have dP:decide (jW ln=.cw)=false:=by rw [B0,Uk];rfl
    rw [show (!decide (jW ln=V.cw))=true by rw [dP];rfl];refine iT ⟨_,rfl,_,rfl,l,_,rfl,.inl (bY.of EL),rfl,Rf ws,_,rfl,?_⟩;rw [Kz];refine df (λe2=>?_) (λe2=>?_)
    ·have yz:ws.contains i=false:=by
      cases q:ws.contains i with
      | false=>rfl
      | true=>rw [q] at e2;exact ai e2 (by decide)
     refine ⟨_,rfl,.inl ⟨rfl,_,bY.of KA⟩,_,rfl,D,_,_,rfl,rfl,KA,by rw [dq];exact cx (by omega),⟨_,_,rfl⟩,g4.wr (.inl fg) (g1.sub.free hD),?_,?_⟩
     ·rw [bR (λq=>by rw [q,hD] at hl;cases hl)];exact EL
     ·rw [bN,List.range_succ,List.filter_append,List.filter_cons_of_pos (by rw [ky,Uk,yz];rfl),List.filter_nil,nZ];rfl
    ·have RY:ws.contains i=true:=by
      cases q:ws.contains i with
      | true=>rfl
      | false=>rw [q] at e2;exact ai rfl e2
     refine ⟨⟨_,_,rfl⟩,g4,EL,?_⟩;rw [same (by rw [RY];simp)];exact KA
  ·rintro σ H' ⟨⟨v3,v4,rfl⟩,g3,mN,mR⟩;rw [af,Yq,<-Uj] at mR;have hlen:(Ks339.idle a.house L).length<=16:=by
    rw [Uj]
    have:=List.length_filter_le (λn=>Hy.kR a.house n && !ws.contains n) (List.range a.house.lines.length)
    rw [bo] at this;omega
   refine ⟨_,rfl,G1,D,_,rfl,g3.sub,pb mR,by rw [af];omega,λq G5 H5 g5 _ hq=>k q G5 H5 (g3.trans g5) ?_⟩;rw [af] at hq;exact hq
end
theorem eX {a b:Str}{A B:Prop}(h:a=b)(p:A):if decide (V.str a=V.str b)=true then A else B:=by rw [ab (aj (by rw [h]))];exact p
theorem cM {a b:Str}{A B:Prop}(h:a≠b)(p:B):if decide (V.str a=V.str b)=true then A else B:=by rw [aa (λq=>h (by have:=aD q;injection this))];exact p
theorem iD {x:V}{xs:List V}{A B:Prop}(h:gU x xs=true)(p:A):if (if false=true then !gU x xs else gU x xs)=true then A else B:=by rw [ab (by rw [aa (by decide)];exact h)];exact p
theorem fj {x:V}{xs:List V}{A B:Prop}(h:gU x xs=false)(p:B):if (if false=true then !gU x xs else gU x xs)=true then A else B:=by rw [aa (by rw [aa (by decide),h];decide)];exact p
def oN (nm:Str)(na ra:Addr)(b:Nat):List (Str×V):=[("name",.str nm),("numbers",.ref na),("row",.ref ra),("behind",.int (b:Int))]
theorem cB (nm:Str)(na ra:Addr)(b:Nat):(oN nm na ra b).lookup ("name":Str)=some (.str nm):=by rfl
theorem d8 (nm:Str)(na ra:Addr)(b:Nat):(oN nm na ra b).lookup ("numbers":Str)=some (.ref na):=by rfl
theorem tF (nm:Str)(na ra:Addr)(b:Nat):(oN nm na ra b).lookup ("row":Str)=some (.ref ra):=by rfl
theorem LJ (nm:Str)(na ra:Addr)(b:Nat):(oN nm na ra b).lookup ("behind":Str)=some (.int (b:Int)):=by rfl
def tG (c:Cs)(G:Hp)(p:Addr)(nm:Str)(ns row:List Nat)(b:Nat):Prop:=∃dx na ra,G p=some (.ins c.Call dx (oN nm na ra b))/\dF G na ns/\dF G ra row
theorem tG.up {c:Cs}{G G':Hp}{p:Addr}{nm:Str}{ns row:List Nat}{b:Nat}(h:tG c G p nm ns row b)(u:bS G G'):tG c G' p nm ns row b:=let ⟨dx,na,ra,x,y,z⟩:=h;⟨dx,na,ra,u _ _ x,y.up u,z.up u⟩
section
variable {a:Abs}
theorem KC (on:a.on=true)(n:Bytes):Ks340.act a (.find n)=(a,vR a.house n):=by unfold Ks340.act;rw [aa (dB on)];unfold vR;simp only [];cases Ks337.find a.house.things n <;> rfl
theorem KG (on:a.on=true)(i:Nat):Ks340.act a (.line i)=(a,vP a.house i):=by unfold Ks340.act;rw [aa (dB on)];unfold vP;simp only [];cases a.house.lines[i]? <;> rfl
theorem KH (on:a.on=true)(t:Nat):Ks340.act a (.name t)=(a,vQ a.house t):=by
 unfold Ks340.act;rw [aa (dB on)];unfold vQ Ks340.isThing;simp only []
 by_cases h:t<a.house.things.length
 ·rw [ab h,aa (by rw [aj h];decide)]
 ·rw [aa h,ab (by rw [az h])]
theorem KI (on:a.on=true):Ks340.act a .tell=(a,Ks340.told (Ks337.told a.house)):=by unfold Ks340.act;rw [aa (dB on)]
theorem look_same (on:a.on=true)(t v:Nat):(Ks340.act a (.look t v)).1=a:=by
 rw [Km on]
 split
 ·rfl
 ·split <;> rfl
end
inductive RowC:Str->Bytes->Ks340.Call->Prop
 | find (row:Bytes):RowC "find" row (.find row)
 | could (row:Bytes):RowC "could" row (.could row)
inductive C0:Str->Nat->Ks340.Call->Prop
 | value (n:Nat):C0 "value" n (.value n)
 | why (n:Nat):C0 "why" n (.why n)
 | line (n:Nat):C0 "line" n (.line n)
 | name (n:Nat):C0 "name" n (.name n)
 | log (n:Nat):C0 "log" n (.log n)
inductive Ul:Str->Nat->Nat->Ks340.Call->Prop
 | set (t v:Nat):Ul "set" t v (.set t v)
 | look (t v:Nat):Ul "look" t v (.look t v)
inductive B1:Str->Ks340.Call->Prop
 | unedit:B1 "unedit" .unedit
 | reedit:B1 "reedit" .reedit
 | back:B1 "back" .back
 | again:B1 "again" .again
 | values:B1 "values" .values
 | count:B1 "count" .count
 | idle:B1 "idle" .idle
 | tell:B1 "tell" .tell
inductive qC (h:House):Str->List Nat->Bytes->Except Int (List Line×Nat)->Prop
 | add (i:Nat) (row:Bytes):qC h "add" [i] row (gf h i row)
 | Al (i:Nat) (row:Bytes):qC h "mayadd" [i] row (gf h i row)
 | drop (i:Nat) (row:Bytes):qC h "drop" [i] row (gQ h i)
 | vU (i:Nat) (row:Bytes):qC h "maydrop" [i] row (gQ h i)
 | move (i j:Nat) (row:Bytes):qC h "move" [i,j] row (gR h i j)
 | vV (i j:Nat) (row:Bytes):qC h "maymove" [i,j] row (gR h i j)
inductive qj:Str->List Nat->Bytes->Ks340.Call->Prop
 | add (i:Nat) (row:Bytes):qj "add" [i] row (.add i row)
 | Al (i:Nat) (row:Bytes):qj "mayadd" [i] row (.mayAdd i row)
 | drop (i:Nat) (row:Bytes):qj "drop" [i] row (.drop i)
 | vU (i:Nat) (row:Bytes):qj "maydrop" [i] row (.mayDrop i)
 | move (i j:Nat) (row:Bytes):qj "move" [i,j] row (.move i j)
 | vV (i j:Nat) (row:Bytes):qj "maymove" [i,j] row (.mayMove i j)
 | row {nm:Str} {row:Bytes} {cl:Ks340.Call} (h:RowC nm row cl):qj nm [] row cl
 | num {nm:Str} {n:Nat} {row:Bytes} {cl:Ks340.Call} (h:C0 nm n cl):qj nm [n] row cl
 | ev {nm:Str} {t v:Nat} {row:Bytes} {cl:Ks340.Call} (h:Ul nm t v cl):qj nm [t,v] row cl
 | Am {nm:Str} {row:Bytes} {cl:Ks340.Call} (h:B1 nm cl):qj nm [] row cl
section
variable {P:Program}{w:World}{K:PySem.W.Frag}{mg:Str->Option Value}{base:Heap}{c:Cs}
inductive gS (c:Cs)(vs:List V)(H:Hp)(Q:VK)(E:XK):Prop | mk (G:Hp) (ha ca:Addr) (h:House) (nm:Str) (ns row:List Nat) (b:Nat) (x:Except Int (List Line×Nat)):vs=[.ref ha,.ref ca]->bS G H->eN c G ha h->tG c G ca nm ns row b->Hy.fC h->qC h nm ns row x->(∀p G' H',Gr [] G H G' H'->k7 c h.things G' p x->Q (.ref p) H')->gS c vs H Q E
theorem C1 (T:Tx w K mg c)(xF:Fn P w K mg base "addition" 7 ["house","number","line"] (oK c))(An:Fn P w K mg base "removal" 4 ["house","number"] (xD c))(tH:Fn P w K mg base "relocation" 4 ["house","number","place"] (pV c)) :
  Fn P w K mg base "wanted_change" 8 ["house","call"] (gS c):=by
 refine T.mH.ok Cm λH Q E hr h=>?_
 ·obtain ⟨G,ha,ca,h,nm,ns,row,b,x,rfl,hG,hh,⟨dx,na,ra,c7,vW,ky⟩,wf,hx,k⟩:=h;refine ⟨_,(bP (cg (bW iE (bT (pv 1) rfl) (ip (bM c6 (bM c6 bO))) (by with_unfolding_all rfl)) (bQ (bU (b6 xF hr (bM (pv 0) (bM (cQ cR (bT (pv 1) rfl) b8 (λ_ _=>rfl)) (bM (bT (pv 1) rfl) bO)))))) b5)
   (bP (cg (bW iE (bT (pv 1) rfl) (ip (bM c6 (bM c6 bO))) (by with_unfolding_all rfl)) (bQ (bU (b6 An hr (bM (pv 0) (bM (cQ cR (bT (pv 1) rfl) b8 (λ_ _=>rfl)) bO))))) b5)
   (bQ (bU (b6 tH hr (bM (pv 0) (bM (cQ cR (bT (pv 1) rfl) b8 (λ_ _=>rfl)) (bM (cQ cR (bT (pv 1) rfl) b8 (λ_ _=>rfl)) bO)))))))),?_⟩
  refine ⟨_,rfl,_,c.Call,dx,_,_,rfl,hG _ _ c7,T.cy,T.cz,cB nm na ra b,BP,λt1 h1=>?_⟩;have g1:=(Gr.refl (ms:=[]) hG).cX (o:=.tup [.str "add",.str "mayadd"]) h1;refine ⟨t1,_,rfl,.inr (cA.of bN),rfl,by decide +kernel,_,rfl,?_⟩;have h0:∀{i:Nat}{r:List Nat},ns=i::r->qT (c0 ns) ((0:Int))=some (.int (i:Int)):=λe=>by rw [e];exact cD (j:=0) rfl
  have Rg:∀i,ns=[i]->x=gf h i row->oK c [.ref ha,.int (i:Int),.ref ra] (upd H t1 (.tup [.str "add",.str "mayadd"])) Q E0:=λi e1 e2=>⟨G,ha,ra,i,h,row,rfl,g1.sub,hh,ky.up g1.sub,wf,λp G' H' g hw=>k p G' H' (g1.trans g) (by rw [e2];exact hw)⟩
  cases hx with
  | add i row =>exact iD (by decide +kernel) ⟨_,rfl,_,rfl,_,c.Call,dx,_,_,rfl,g1.sub _ _ c7,T.cy,T.cz,d8 _ na ra b,na,_,_,_,rfl,rfl,bY.of (g1.sub _ _ vW),h0 rfl,_,rfl,_,c.Call,dx,_,_,rfl,g1.sub _ _ c7,T.cy,T.cz,tF _ na ra b,Rg i rfl rfl⟩
  | Al i row =>exact iD (by decide +kernel) ⟨_,rfl,_,rfl,_,c.Call,dx,_,_,rfl,g1.sub _ _ c7,T.cy,T.cz,d8 _ na ra b,na,_,_,_,rfl,rfl,bY.of (g1.sub _ _ vW),h0 rfl,_,rfl,_,c.Call,dx,_,_,rfl,g1.sub _ _ c7,T.cy,T.cz,tF _ na ra b,Rg i rfl rfl⟩
  | drop i row =>refine fj (by decide +kernel) ⟨_,rfl,_,c.Call,dx,_,_,rfl,g1.sub _ _ c7,T.cy,T.cz,cB _ na ra b,BP,λt2 h2=>?_⟩;have g2:=g1.cX (o:=.tup [.str "drop",.str "maydrop"]) h2;refine ⟨t2,_,rfl,.inr (cA.of bN),rfl,by decide +kernel,_,rfl,iD (by decide +kernel) ?_⟩;exact ⟨_,rfl,_,rfl,_,c.Call,dx,_,_,rfl,g2.sub _ _ c7,T.cy,T.cz,d8 _ na ra b,na,_,_,_,rfl,rfl,bY.of (g2.sub _ _ vW),h0 rfl,G,ha,i,h,rfl,g2.sub,hh,wf,λp G' H' g hw=>k p G' H' (g2.trans g) hw⟩
  | vU i row =>refine fj (by decide +kernel) ⟨_,rfl,_,c.Call,dx,_,_,rfl,g1.sub _ _ c7,T.cy,T.cz,cB _ na ra b,BP,λt2 h2=>?_⟩;have g2:=g1.cX (o:=.tup [.str "drop",.str "maydrop"]) h2;refine ⟨t2,_,rfl,.inr (cA.of bN),rfl,by decide +kernel,_,rfl,iD (by decide +kernel) ?_⟩;exact ⟨_,rfl,_,rfl,_,c.Call,dx,_,_,rfl,g2.sub _ _ c7,T.cy,T.cz,d8 _ na ra b,na,_,_,_,rfl,rfl,bY.of (g2.sub _ _ vW),h0 rfl,G,ha,i,h,rfl,g2.sub,hh,wf,λp G' H' g hw=>k p G' H' (g2.trans g) hw⟩
  | move i j row =>refine fj (by decide +kernel) ⟨_,rfl,_,c.Call,dx,_,_,rfl,g1.sub _ _ c7,T.cy,T.cz,cB _ na ra b,BP,λt2 h2=>?_⟩;have g2:=g1.cX (o:=.tup [.str "drop",.str "maydrop"]) h2;refine ⟨t2,_,rfl,.inr (cA.of bN),rfl,by decide +kernel,_,rfl,fj (by decide +kernel) ?_⟩;exact ⟨_,rfl,_,rfl,_,c.Call,dx,_,_,rfl,g2.sub _ _ c7,T.cy,T.cz,d8 _ na ra b,na,_,_,_,rfl,rfl,bY.of (g2.sub _ _ vW),h0 rfl,_,rfl,_,c.Call,dx,_,_,rfl,g2.sub _ _ c7,T.cy,T.cz,d8 _ na ra b,na,_,_,_,rfl,rfl,bY.of (g2.sub _ _ vW),cD (j:=1) rfl,G,ha,i,j,h,rfl,g2.sub,hh,wf,λp G' H' g hw=>k p G' H' (g2.trans g) hw⟩
  | vV i j row =>refine fj (by decide +kernel) ⟨_,rfl,_,c.Call,dx,_,_,rfl,g1.sub _ _ c7,T.cy,T.cz,cB _ na ra b,BP,λt2 h2=>?_⟩;have g2:=g1.cX (o:=.tup [.str "drop",.str "maydrop"]) h2;refine ⟨t2,_,rfl,.inr (cA.of bN),rfl,by decide +kernel,_,rfl,fj (by decide +kernel) ?_⟩;exact ⟨_,rfl,_,rfl,_,c.Call,dx,_,_,rfl,g2.sub _ _ c7,T.cy,T.cz,d8 _ na ra b,na,_,_,_,rfl,rfl,bY.of (g2.sub _ _ vW),h0 rfl,_,rfl,_,c.Call,dx,_,_,rfl,g2.sub _ _ c7,T.cy,T.cz,d8 _ na ra b,na,_,_,_,rfl,rfl,bY.of (g2.sub _ _ vW),cD (j:=1) rfl,G,ha,i,j,h,rfl,g2.sub,hh,wf,λp G' H' g hw=>k p G' H' (g2.trans g) hw⟩
def Due (c:Cs)(G H:Hp)(r:Addr)(ms:List Addr)(a:Abs)(cl:Ks340.Call)(Q:VK):Prop:=∀p G' H' eG,jx ms G H eG G' H'->Run c G' H' r eG (Ks340.act a cl).1->dc G' p (ez (Ks340.act a cl).2)->Q (.ref p) H'
theorem Due.ask {G H:Hp}{r:Addr}{ms:List Addr}{a:Abs}{cl:Ks340.Call}{Q:VK}(d:Due c G H r ms a cl Q)(cO:Run c G H r ms a)(e:(Ks340.act a cl).1=a):∀p G' H',Gr [] G H G' H'->dc G' p (ez (Ks340.act a cl).2)->Q (.ref p) H' :=λp G' H' g h=>d p G' H' ms ⟨g.any,λ_ q=>.inl q⟩ (by rw [e];exact cO.up g) h
inductive lR (c:Cs)(vs:List V)(H:Hp)(Q:VK)(E:XK):Prop | mk (G:Hp) (r:Addr) (ms:List Addr) (a:Abs) (nm:Str) (ra:Addr) (row:Bytes) (cl:Ks340.Call):vs=[.ref r,.str nm,.ref ra]->bS G H->Run c G H r ms a->Hy.St a->a.on=true->dF H ra row->RowC nm row cl->Due c G H r ms a cl Q->lR c vs H Q E
theorem C2 (T:Tx w K mg c)(tI:Fn P w K mg base "find_thing" 2 ["house","row"] (pT c))(tJ:Fn P w K mg base "could_come" 9 ["running","row"] (pW c)):Fn P w K mg base "answer_to_row" 10 ["running","name","row"] (lR c):=by
 refine T.mI.ok Cn λH Q E hr h=>?_
 ·obtain ⟨G,r,ms,a,nm,ra,row,cl,rfl,hG,cO,st,on,ky,hc,k⟩:=h;have fO:=cO;obtain ⟨R,cE,cP,cC,cN,rfl,x,xv⟩:=fO;obtain ⟨ha,d7,hh⟩:=xv.house.2 on;have wf:=(st.inv.on on).wf;refine ⟨_,(bP (cg (bW dk (pv 1) c6 (b9 _)) (bQ (bU (b6 tI hr (bM (bT (pv 0) rfl) (bM (pv 2) bO))))) b5)
   (bQ (bU (b6 tJ hr (bM (pv 0) (bM (pv 2) bO)))))),?_⟩
  cases hc with
  | find row =>refine ⟨_,rfl,rfl,_,rfl,eX rfl ⟨_,rfl,_,c.b7,R.dx,_,_,rfl,x.hr,T.b0,T.b4,cV d7,_,rfl,G,ha,ra,a.house,row,rfl,hG,hh.up hG,ky,wf,?_⟩⟩;have q:=k.ask cO (by rw [KC on]);rw [KC on] at q;exact q
  | could row =>exact ⟨_,rfl,rfl,_,rfl,cM (by decide +kernel) ⟨_,rfl,_,rfl,G,r,_,a,ra,row,rfl,hG,cO,st.inv,on,ky,k.ask cO (by rw [Hg on])⟩⟩
inductive jn (c:Cs)(vs:List V)(H:Hp)(Q:VK)(E:XK):Prop | mk (G:Hp) (r:Addr) (ms:List Addr) (a:Abs) (nm:Str) (n:Nat) (cl:Ks340.Call):vs=[.ref r,.str nm,.int (n:Int)]->bS G H->Run c G H r ms a->Hy.St a->a.on=true->C0 nm n cl->Due c G H r ms a cl Q->jn c vs H Q E
theorem yo (T:Tx w K mg c)(xG:Fn P w K mg base "value_of" 1 ["running","thing"] (u9 c))(C3:Fn P w K mg base "why_so" 4 ["running","thing"] (Af c))(vb:Fn P w K mg base "tell_line" 2 ["house","number"] (sX c))(vc:Fn P w K mg base "tell_name" 2 ["house","number"] (sY c))(C4:Fn P w K mg base "logged" 1 ["running","number"] (Ag c)) :
  Fn P w K mg base "answer_to_number" 5 ["running","name","number"] (jn c):=by
 refine T.jT.ok yn λH Q E hr h=>?_
 ·obtain ⟨G,r,ms,a,nm,n,cl,rfl,hG,cO,st,on,hc,k⟩:=h;have fO:=cO;obtain ⟨R,cE,cP,cC,cN,rfl,x,xv⟩:=fO;obtain ⟨ha,d7,hh⟩:=xv.house.2 on;have wf:=(st.inv.on on).wf;refine ⟨_,(bP (cg (bW dk (pv 1) c6 (b9 _)) (bQ (bU (b6 xG hr (bM (pv 0) (bM (pv 2) bO))))) b5)
   (bP (cg (bW dk (pv 1) c6 (b9 _)) (bQ (bU (b6 C3 hr (bM (pv 0) (bM (pv 2) bO))))) b5)
   (bP (cg (bW dk (pv 1) c6 (b9 _)) (bQ (bU (b6 vb hr (bM (bT (pv 0) rfl) (bM (pv 2) bO))))) b5)
   (bP (cg (bW dk (pv 1) c6 (b9 _)) (bQ (bU (b6 vc hr (bM (bT (pv 0) rfl) (bM (pv 2) bO))))) b5)
   (bQ (bU (b6 C4 hr (bM (pv 0) (bM (pv 2) bO))))))))),?_⟩
  cases hc with
  | value n=>exact ⟨_,rfl,rfl,_,rfl,eX rfl ⟨_,rfl,_,rfl,n,G,r,_,a,rfl,hG,cO,st.inv,on,k.ask cO (by rw [He on])⟩⟩
  | why n=>exact ⟨_,rfl,rfl,_,rfl,cM (by decide +kernel) ⟨_,rfl,rfl,_,rfl,eX rfl ⟨_,rfl,_,rfl,n,G,r,_,a,rfl,hG,cO,st.inv,on,k.ask cO (by rw [M4 on])⟩⟩⟩
  | line n =>refine ⟨_,rfl,rfl,_,rfl,cM (by decide +kernel) ⟨_,rfl,rfl,_,rfl,cM (by decide +kernel) ⟨_,rfl,rfl,_,rfl,eX rfl ⟨_,rfl,_,c.b7,R.dx,_,_,rfl,x.hr,T.b0,T.b4,cV d7,_,rfl,G,ha,a.house,n,rfl,hG,hh.up hG,wf,?_⟩⟩⟩⟩;have q:=k.ask cO (by rw [KG on]);rw [KG on] at q;exact q
  | name n =>refine ⟨_,rfl,rfl,_,rfl,cM (by decide +kernel) ⟨_,rfl,rfl,_,rfl,cM (by decide +kernel) ⟨_,rfl,rfl,_,rfl,cM (by decide +kernel) ⟨_,rfl,rfl,_,rfl,eX rfl ⟨_,rfl,_,c.b7,R.dx,_,_,rfl,x.hr,T.b0,T.b4,cV d7,_,rfl,G,ha,a.house,n,rfl,hG,hh.up hG,wf,?_⟩⟩⟩⟩⟩;have q:=k.ask cO (by rw [KH on]);rw [KH on] at q;exact q
  | log n=>exact ⟨_,rfl,rfl,_,rfl,cM (by decide +kernel) ⟨_,rfl,rfl,_,rfl,cM (by decide +kernel) ⟨_,rfl,rfl,_,rfl,cM (by decide +kernel) ⟨_,rfl,rfl,_,rfl,cM (by decide +kernel) ⟨_,rfl,_,rfl,n,G,r,_,a,rfl,hG,cO,st.inv,on,k.ask cO (by rw [M5 on])⟩⟩⟩⟩⟩
inductive j0 (c:Cs)(vs:List V)(H:Hp)(Q:VK)(E:XK):Prop | mk (G:Hp) (r:Addr) (ms:List Addr) (a:Abs) (nm:Str) (t v:Nat) (cl:Ks340.Call):vs=[.ref r,.str nm,.int (t:Int),.int (v:Int)]->bS G H->Run c G H r ms a->Hy.St a->a.on=true->Ul nm t v cl->Due c G H r ms a cl Q->j0 c vs H Q E
theorem Ao (T:Tx w K mg c)(ve:Fn P w K mg base "set_thing" 9 ["running","thing","value"] (tu c))(tK:Fn P w K mg base "look_ahead" 8 ["running","thing","value"] (pU c)):Fn P w K mg base "answer_to_event" 10 ["running","name","thing","value"] (j0 c):=by
 refine T.kH.ok zp λH Q E hr h=>?_
 ·obtain ⟨G,r,ms,a,nm,t,v,cl,rfl,hG,cO,st,on,hc,k⟩:=h;refine ⟨_,(bP (cg (bW dk (pv 1) c6 (b9 _)) (bQ (bU (b6 ve hr (bM (pv 0) (bM (pv 2) (bM (pv 3) bO)))))) b5)
   (bQ (bU (b6 tK hr (bM (pv 0) (bM (pv 2) (bM (pv 3) bO))))))),?_⟩
  cases hc with
  | set t v=>exact ⟨_,rfl,rfl,_,rfl,eX rfl ⟨_,rfl,_,rfl,_,rfl,G,r,ms,a,t,v,rfl,hG,cO,st.inv,on,k⟩⟩
  | look t v=>exact ⟨_,rfl,rfl,_,rfl,cM (by decide +kernel) ⟨_,rfl,_,rfl,_,rfl,G,r,ms,a,t,v,rfl,hG,cO,st.inv,on,k.ask cO (look_same on t v)⟩⟩
inductive kK (c:Cs)(vs:List V)(H:Hp)(Q:VK)(E:XK):Prop | mk (G:Hp) (r:Addr) (ms:List Addr) (a:Abs) (nm:Str) (cl:Ks340.Call):vs=[.ref r,.str nm]->bS G H->Run c G H r ms a->Hy.St a->a.on=true->B1 nm cl->Due c G H r ms a cl Q->kK c vs H Q E
theorem Ba (T:Tx w K mg c)(C5:Fn P w K mg base "unedit" 12 ["running"] (Ku c [] .unedit))(C6:Fn P w K mg base "reedit" 12 ["running"] (Ku c [] .reedit))(vf:Fn P w K mg base "take_back" 1 ["running"] (tw c))(xH:Fn P w K mg base "do_again" 9 ["running"] (u7 c))
  (tL:Fn P w K mg base "all_values" 2 ["running"] (yi c)) (oq:Fn P w K mg base "count_coming" 9 ["running"] (ur c)) (tM:Fn P w K mg base "idle_rules" 11 ["running"] (yj c)) (tN:Fn P w K mg base "tell_house" 2 ["house"] (pS c)) :
  Fn P w K mg base "answer_to_name" 13 ["running","name"] (kK c):=by
 refine T.lN.ok A8 λH Q E hr h=>?_
 ·obtain ⟨G,r,ms,a,nm,cl,rfl,hG,cO,st,on,hc,k⟩:=h;have fO:=cO;obtain ⟨R,cE,cP,cC,cN,rfl,x,xv⟩:=fO;obtain ⟨ha,d7,hh⟩:=xv.house.2 on;have wf:=(st.inv.on on).wf;refine ⟨_,(bP (cg (bW dk (pv 1) c6 (b9 _)) (bQ (bU (b6 C5 hr (bM (pv 0) bO)))) b5)
   (bP (cg (bW dk (pv 1) c6 (b9 _)) (bQ (bU (b6 C6 hr (bM (pv 0) bO)))) b5)
   (bP (cg (bW dk (pv 1) c6 (b9 _)) (bQ (bU (b6 vf hr (bM (pv 0) bO)))) b5)
   (bP (cg (bW dk (pv 1) c6 (b9 _)) (bQ (bU (b6 xH hr (bM (pv 0) bO)))) b5)
   (bP (cg (bW dk (pv 1) c6 (b9 _)) (bQ (bU (b6 tL hr (bM (pv 0) bO)))) b5)
   (bP (cg (bW dk (pv 1) c6 (b9 _)) (bQ (bU (b6 oq hr (bM (pv 0) bO)))) b5)
   (bP (cg (bW dk (pv 1) c6 (b9 _)) (bQ (bU (b6 tM hr (bM (pv 0) bO)))) b5)
   (bQ (bU (b6 tN hr (bM (bT (pv 0) rfl) bO))))))))))),?_⟩
  cases hc with
  | unedit=>exact ⟨_,rfl,rfl,_,rfl,eX rfl ⟨_,rfl,G,r,_,a,rfl,hG,cO,st,on,k⟩⟩
  | reedit=>exact ⟨_,rfl,rfl,_,rfl,cM (by decide +kernel) ⟨_,rfl,rfl,_,rfl,eX rfl ⟨_,rfl,G,r,_,a,rfl,hG,cO,st,on,k⟩⟩⟩
  | back=>exact ⟨_,rfl,rfl,_,rfl,cM (by decide +kernel) ⟨_,rfl,rfl,_,rfl,cM (by decide +kernel) ⟨_,rfl,rfl,_,rfl,eX rfl ⟨_,rfl,G,r,_,a,rfl,hG,cO,st.inv,on,k⟩⟩⟩⟩
  | again=>exact ⟨_,rfl,rfl,_,rfl,cM (by decide +kernel) ⟨_,rfl,rfl,_,rfl,cM (by decide +kernel) ⟨_,rfl,rfl,_,rfl,cM (by decide +kernel) ⟨_,rfl,rfl,_,rfl,eX rfl ⟨_,rfl,G,r,_,a,rfl,hG,cO,st,on,k⟩⟩⟩⟩⟩
  | values=>exact ⟨_,rfl,rfl,_,rfl,cM (by decide +kernel) ⟨_,rfl,rfl,_,rfl,cM (by decide +kernel) ⟨_,rfl,rfl,_,rfl,cM (by decide +kernel) ⟨_,rfl,rfl,_,rfl,cM (by decide +kernel) ⟨_,rfl,rfl,_,rfl,eX rfl ⟨_,rfl,G,r,_,a,rfl,hG,cO,st.inv,on,k.ask cO (by rw [EI on])⟩⟩⟩⟩⟩⟩
  | count=>exact ⟨_,rfl,rfl,_,rfl,cM (by decide +kernel) ⟨_,rfl,rfl,_,rfl,cM (by decide +kernel) ⟨_,rfl,rfl,_,rfl,cM (by decide +kernel) ⟨_,rfl,rfl,_,rfl,cM (by decide +kernel) ⟨_,rfl,rfl,_,rfl,cM (by decide +kernel) ⟨_,rfl,rfl,_,rfl,eX rfl ⟨_,rfl,G,r,_,a,rfl,hG,cO,st.inv,on,k.ask cO (by rw [Hh on])⟩⟩⟩⟩⟩⟩⟩
  | idle=>exact ⟨_,rfl,rfl,_,rfl,cM (by decide +kernel) ⟨_,rfl,rfl,_,rfl,cM (by decide +kernel) ⟨_,rfl,rfl,_,rfl,cM (by decide +kernel) ⟨_,rfl,rfl,_,rfl,cM (by decide +kernel) ⟨_,rfl,rfl,_,rfl,cM (by decide +kernel) ⟨_,rfl,rfl,_,rfl,cM (by decide +kernel) ⟨_,rfl,rfl,_,rfl,eX rfl ⟨_,rfl,G,r,_,a,rfl,hG,cO,st.inv,on,k.ask cO (by rw [Kv on])⟩⟩⟩⟩⟩⟩⟩⟩
  | tell =>refine ⟨_,rfl,rfl,_,rfl,cM (by decide +kernel) ⟨_,rfl,rfl,_,rfl,cM (by decide +kernel) ⟨_,rfl,rfl,_,rfl,cM (by decide +kernel) ⟨_,rfl,rfl,_,rfl,cM (by decide +kernel) ⟨_,rfl,rfl,_,rfl,cM (by decide +kernel) ⟨_,rfl,rfl,_,rfl,cM (by decide +kernel) ⟨_,rfl,rfl,_,rfl,cM (by decide +kernel) ⟨_,rfl,_,c.b7,R.dx,_,_,rfl,x.hr,T.b0,T.b4,cV d7,G,ha,a.house,rfl,hG,hh.up hG,wf,?_⟩⟩⟩⟩⟩⟩⟩⟩;have q:=k.ask cO (by rw [KI on]);rw [KI on] at q;exact q
end
def intsOf (l:List Nat):List Int:=l.map Int.ofNat
theorem SK:∀i<27,∀fm,hU[i]?=some fm->PyKs340.shape (Int.ofNat i)=some (fm.2.1,if fm.2.2 then 1 else 0):=by
 intro i hi fm h
 have:∀i<27,(hU[i]?.map λfm=>PyKs340.shape (Int.ofNat i) == some (fm.2.1,if fm.2.2 then 1 else 0))=some true:=by decide +kernel
 have q:=this i hi;rw [h] at q;have q2:=ao q;exact eq_of_beq q2
theorem Rh {i:Nat}(h:27<=i):PyKs340.shape (Int.ofNat i)=none:=by
 have e:∀z:Int,z<27->¬Int.ofNat i=z:=λz hz q=>by
  have:(i:Int)=z:=q
  omega
 unfold PyKs340.shape;rw [aa (e 0 (by decide)),aa (e 1 (by decide)),aa (e 2 (by decide)),aa (e 3 (by decide)),aa (e 4 (by decide)),aa (e 5 (by decide)),aa (e 6 (by decide)),aa (e 7 (by decide)),aa (e 8 (by decide)),
  aa (e 9 (by decide)),aa (e 10 (by decide)),aa (e 11 (by decide)),aa (e 12 (by decide)),aa (e 13 (by decide)),aa (e 14 (by decide)),aa (e 15 (by decide)),aa (e 16 (by decide)),aa (e 17 (by decide)),
  aa (e 18 (by decide)),aa (e 19 (by decide)),aa (e 20 (by decide)),aa (e 21 (by decide)),aa (e 22 (by decide)),aa (e 23 (by decide)),aa (e 24 (by decide)),aa (e 25 (by decide)),aa (e 26 (by decide))]
theorem SM {i:Nat}(h:i<27):∃fm,hU[i]?=some fm:=⟨_,aI (show i<hU.length from h)⟩
structure A0 (L:List Nat)(c:List (List Int))(i:Nat)(fm:Str×Nat×Bool)(ns row tl:List Nat):Prop where
 form:hU[i]?=some fm
 da:ns.length=fm.2.1
 list:(fm.2.2=false/\row=[]/\L=i::(ns++tl)/\c=[intsOf (i::ns)])\/(fm.2.2=true/\L=i::(ns++row.length::(row++tl))/\c=[intsOf (i::ns),intsOf row])
theorem SN {L:List Nat}{c:List (List Int)}{t:List Int}(h:PyFlat.call PyKs340.shape (intsOf L)=some (c,t)):∃i fm ns row tl,t=intsOf tl/\A0 L c i fm ns row tl:=by
 cases L with
 | nil=>cases h
 | cons i r =>
  rcases ba i 27 with hi | hi
  ·obtain ⟨fm,XA⟩:=SM hi;have hsh:=SK i hi fm XA;have hc:(match PyKs340.shape (Int.ofNat i) with
    | none=>none
    | some (n,k)=>if (intsOf r).length<n then none else match PyFlat.rows k ((intsOf r).drop n) with
     | none=>none
     | some (xs,t)=>some ((Int.ofNat i::(intsOf r).take n)::xs,t))=some (c,t):=h
   rw [hsh] at hc;simp only [] at hc
   by_cases hl:(intsOf r).length<fm.2.1
   ·rw [ab hl] at hc;cases hc
   ·rw [aa hl] at hc;have fz:fm.2.1<=r.length:=by unfold intsOf at hl;rw [af] at hl;omega
    have PQ:(r.take fm.2.1).length=fm.2.1:=by rw [aO];omega
    have htk:(intsOf r).take fm.2.1=intsOf (r.take fm.2.1):=by unfold intsOf;rw [List.map_take]
    have hdr:(intsOf r).drop fm.2.1=intsOf (r.drop fm.2.1):=by unfold intsOf;rw [List.map_drop]
    rw [htk,hdr] at hc;cases hb:fm.2.2 with
    | false =>
     rw [hb] at hc;have eB:(some ((Int.ofNat i::intsOf (r.take fm.2.1))::[],intsOf (r.drop fm.2.1)):Option (List (List Int)×List Int))=some (c,t):=hc;injection eB with eB
     injection eB with e1 e2
     exact ⟨i,fm,r.take fm.2.1,[],r.drop fm.2.1,e2.symm,XA,PQ,.inl ⟨hb,rfl,by rw [List.take_append_drop],e1.symm⟩⟩
    | true =>
     rw [hb] at hc;cases hd:r.drop fm.2.1 with
     | nil =>rw [hd] at hc;cases hc
     | cons m q =>
      rw [hd] at hc
      by_cases hm:m<=q.length
      ·have iz:PyFlat.row (intsOf (m::q))=some (intsOf (q.take m),intsOf (q.drop m)):=by
        show (if 0<=Int.ofNat m/\(Int.ofNat m).toNat<=(intsOf q).length then some ((intsOf q).take (Int.ofNat m).toNat,(intsOf q).drop (Int.ofNat m).toNat) else none)=_;rw [ab ⟨Int.natCast_nonneg m,by unfold intsOf;rw [af];exact hm⟩];unfold intsOf;rw [List.map_take,List.map_drop];rfl
       have xr:PyFlat.rows 1 (intsOf (m::q))=some ([intsOf (q.take m)],intsOf (q.drop m)):=by
        show (match PyFlat.row (intsOf (m::q)) with
         | none=>none
         | some (x,s)=>match PyFlat.rows 0 s with
          | none=>none
          | some (xs,t)=>some (x::xs,t))=_
        rw [iz];rfl
       have eB:(match PyFlat.rows 1 (intsOf (m::q)) with
         | none=>none
         | some (xs,t)=>some ((Int.ofNat i::intsOf (r.take fm.2.1))::xs,t))=some (c,t):=hc
       rw [xr] at eB;injection eB with eB
       injection eB with e1 e2
       have hml:(q.take m).length=m:=by rw [aO];omega
       refine ⟨i,fm,r.take fm.2.1,q.take m,q.drop m,e2.symm,XA,PQ,.inr ⟨hb,?_,e1.symm⟩⟩;rw [hml,List.take_append_drop,<-hd,List.take_append_drop]
      ·have iz:PyFlat.row (intsOf (m::q))=none:=by
        show (if 0<=Int.ofNat m/\(Int.ofNat m).toNat<=(intsOf q).length then some ((intsOf q).take (Int.ofNat m).toNat,(intsOf q).drop (Int.ofNat m).toNat) else none)=_;rw [aa (λz=>hm (by have:=z.2;unfold intsOf at this;rw [af] at this;exact this))]
       have eB:(match PyFlat.rows 1 (intsOf (m::q)) with
         | none=>none
         | some (xs,t)=>some ((Int.ofNat i::intsOf (r.take fm.2.1))::xs,t))=some (c,t):=hc
       have xr:PyFlat.rows 1 (intsOf (m::q))=none:=by
        show (match PyFlat.row (intsOf (m::q)) with
         | none=>none
         | some (x,s)=>match PyFlat.rows 0 s with
          | none=>none
          | some (xs,t)=>some (x::xs,t))=_
        rw [iz]
       rw [xr] at eB;cases eB
  ·have hc:(match PyKs340.shape (Int.ofNat i) with
    | none=>none
    | some (n,k)=>if (intsOf r).length<n then none else match PyFlat.rows k ((intsOf r).drop n) with
     | none=>none
     | some (xs,t)=>some ((Int.ofNat i::(intsOf r).take n)::xs,t))=some (c,t):=h
   rw [Rh hi] at hc;cases hc
inductive C7:Str->List Nat->Bytes->Ks340.Call->Prop
 | begin (row:Bytes):C7 "begin" [] row .begin
 | load (row:Bytes):C7 "load" [] row (.load (if Ks337.TEXT<row.length then none else some row))
 | M9 (row:Bytes):C7 "mayload" [] row (.mayLoad (if Ks337.TEXT<row.length then none else some row))
 | state (row:Bytes):C7 "state" [] row .state
 | jz {nm:Str} {ns:List Nat} {row:Bytes} {cl:Ks340.Call} (h:qj nm ns row cl):C7 nm ns row cl
theorem qj.alone {nm:Str}{ns:List Nat}{row:Bytes}{cl:Ks340.Call}(h:qj nm ns row cl):Ks340.alone cl=false:=by
 cases h with
 | row h=>cases h <;> rfl
 | num h=>cases h <;> rfl
 | ev h=>cases h <;> rfl
 | Am h=>cases h <;> rfl
 | _=>rfl
theorem Vg (l:List Nat):Ks340Neutral.nats (intsOf l)=l:=by
 unfold Ks340Neutral.nats intsOf;rw [bf]
 have:(Int.toNat∘Int.ofNat)=id:=rfl
 rw [this,List.map_id]
theorem vX (x:List Int)(l:List Nat):Ks340Neutral.row [x,intsOf l] 1=l:=Vg l
theorem len0 {l:List Nat}(h:l.length=0):l=[]:=bt h
theorem xI {l:List Nat}(h:l.length=1):∃x,l=[x]:=by
 match l,h with
 | [x],_=>exact ⟨x,rfl⟩
theorem OT {l:List Nat}(h:l.length=2):∃x y,l=[x,y]:=by
 match l,h with
 | [x,y],_=>exact ⟨x,y,rfl⟩
theorem Vh {L:List Nat}{c:List (List Int)}{i:Nat}{fm:Str×Nat×Bool}{ns row tl:List Nat}(o:A0 L c i fm ns row tl):∃cl,C7 fm.1 ns row cl/\∀a,Ks340Neutral.step a c=((Ks340.act a cl).1,ez (Ks340.act a cl).2):=by
 obtain ⟨hf,hn,hl⟩:=o;have hi:i<27:=by
  rcases ba i 27 with q | q
  ·exact q
  ·have:hU[i]?=none:=bx (show hU.length<=i from q)
   rw [this] at hf;cases hf
 have no:fm.2.2=false->c=[intsOf (i::ns)]:=λe=>by
  rcases hl with ⟨_,_,_,q⟩ | ⟨q,_⟩
  ·exact q
  ·rw [e] at q;cases q
 have yes:fm.2.2=true->c=[intsOf (i::ns),intsOf row]:=λe=>by
  rcases hl with ⟨q,_⟩ | ⟨_,_,q⟩
  ·rw [e] at q;cases q
  ·exact q
 match i,hi with
 | 0,_=>obtain rfl:=ao hf;rw [no rfl,len0 hn];exact ⟨_,.begin row,λa=>rfl⟩
 | 1,_=>obtain rfl:=ao hf;rw [yes rfl,len0 hn];refine ⟨_,.load row,λa=>?_⟩;show Ks340Neutral.sa (Ks340.act a (.load (if Ks337.TEXT<(Ks340Neutral.row [[1],intsOf row] 1).length then none else some (Ks340Neutral.row [[1],intsOf row] 1))))=_;rw [vX];rfl
 | 2,_=>obtain rfl:=ao hf;rw [yes rfl,len0 hn];refine ⟨_,.M9 row,λa=>?_⟩;show Ks340Neutral.sa (Ks340.act a (.mayLoad (if Ks337.TEXT<(Ks340Neutral.row [[2],intsOf row] 1).length then none else some (Ks340Neutral.row [[2],intsOf row] 1))))=_;rw [vX];rfl
 | 3,_=>obtain rfl:=ao hf;rw [no rfl,len0 hn];exact ⟨_,.jz (.Am .tell),λa=>rfl⟩
 | 4,_=>obtain rfl:=ao hf;obtain ⟨x,rfl⟩:=xI hn;rw [yes rfl];refine ⟨_,.jz (.add x row),λa=>?_⟩;show Ks340Neutral.sa (Ks340.act a (.add x (Ks340Neutral.row [[4,Int.ofNat x],intsOf row] 1)))=_;rw [vX];rfl
 | 5,_=>obtain rfl:=ao hf;obtain ⟨x,rfl⟩:=xI hn;rw [yes rfl];refine ⟨_,.jz (.Al x row),λa=>?_⟩;show Ks340Neutral.sa (Ks340.act a (.mayAdd x (Ks340Neutral.row [[5,Int.ofNat x],intsOf row] 1)))=_;rw [vX];rfl
 | 6,_=>obtain rfl:=ao hf;obtain ⟨x,rfl⟩:=xI hn;rw [no rfl];exact ⟨_,.jz (.drop x row),λa=>rfl⟩
 | 7,_=>obtain rfl:=ao hf;obtain ⟨x,rfl⟩:=xI hn;rw [no rfl];exact ⟨_,.jz (.vU x row),λa=>rfl⟩
 | 8,_=>obtain rfl:=ao hf;obtain ⟨x,y,rfl⟩:=OT hn;rw [no rfl];exact ⟨_,.jz (.move x y row),λa=>rfl⟩
 | 9,_=>obtain rfl:=ao hf;obtain ⟨x,y,rfl⟩:=OT hn;rw [no rfl];exact ⟨_,.jz (.vV x y row),λa=>rfl⟩
 | 10,_=>obtain rfl:=ao hf;rw [no rfl,len0 hn];exact ⟨_,.jz (.Am .unedit),λa=>rfl⟩
 | 11,_=>obtain rfl:=ao hf;rw [no rfl,len0 hn];exact ⟨_,.jz (.Am .reedit),λa=>rfl⟩
 | 12,_=>obtain rfl:=ao hf;obtain ⟨x,y,rfl⟩:=OT hn;rw [no rfl];exact ⟨_,.jz (.ev (.set x y)),λa=>rfl⟩
 | 13,_=>obtain rfl:=ao hf;obtain ⟨x,y,rfl⟩:=OT hn;rw [no rfl];exact ⟨_,.jz (.ev (.look x y)),λa=>rfl⟩
 | 14,_=>obtain rfl:=ao hf;rw [no rfl,len0 hn];exact ⟨_,.jz (.Am .back),λa=>rfl⟩
 | 15,_=>obtain rfl:=ao hf;rw [no rfl,len0 hn];exact ⟨_,.jz (.Am .again),λa=>rfl⟩
 | 16,_=>obtain rfl:=ao hf;obtain ⟨x,rfl⟩:=xI hn;rw [no rfl];exact ⟨_,.jz (.num (.value x)),λa=>rfl⟩
 | 17,_=>obtain rfl:=ao hf;rw [no rfl,len0 hn];exact ⟨_,.jz (.Am .values),λa=>rfl⟩
 | 18,_=>obtain rfl:=ao hf;obtain ⟨x,rfl⟩:=xI hn;rw [no rfl];exact ⟨_,.jz (.num (.why x)),λa=>rfl⟩
 | 19,_=>obtain rfl:=ao hf;obtain ⟨x,rfl⟩:=xI hn;rw [no rfl];exact ⟨_,.jz (.num (.line x)),λa=>rfl⟩
 | 20,_=>obtain rfl:=ao hf;obtain ⟨x,rfl⟩:=xI hn;rw [no rfl];exact ⟨_,.jz (.num (.name x)),λa=>rfl⟩
 | 21,_=>obtain rfl:=ao hf;rw [yes rfl,len0 hn];refine ⟨_,.jz (.row (.find row)),λa=>?_⟩;show Ks340Neutral.sa (Ks340.act a (.find (Ks340Neutral.row [[21],intsOf row] 1)))=_;rw [vX];rfl
 | 22,_=>obtain rfl:=ao hf;rw [yes rfl,len0 hn];refine ⟨_,.jz (.row (.could row)),λa=>?_⟩;show Ks340Neutral.sa (Ks340.act a (.could (Ks340Neutral.row [[22],intsOf row] 1)))=_;rw [vX];rfl
 | 23,_=>obtain rfl:=ao hf;rw [no rfl,len0 hn];exact ⟨_,.jz (.Am .count),λa=>rfl⟩
 | 24,_=>obtain rfl:=ao hf;rw [no rfl,len0 hn];exact ⟨_,.jz (.Am .idle),λa=>rfl⟩
 | 25,_=>obtain rfl:=ao hf;obtain ⟨x,rfl⟩:=xI hn;rw [no rfl];exact ⟨_,.jz (.num (.log x)),λa=>rfl⟩
 | 26,_=>obtain rfl:=ao hf;rw [no rfl,len0 hn];exact ⟨_,.state row,λa=>rfl⟩
section
variable {P:Program}{w:World}{K:PySem.W.Frag}{mg:Str->Option Value}{base:Heap}{c:Cs}
inductive j1 (c:Cs)(vs:List V)(H:Hp)(Q:VK)(E:XK):Prop | mk (G:Hp) (r:Addr) (ms:List Addr) (a:Abs) (ca:Addr) (nm:Str) (ns row:List Nat) (b:Nat) (cl:Ks340.Call):vs=[.ref r,.ref ca]->bS G H->Run c G H r ms a->Hy.St a->a.on=true->tG c G ca nm ns row b->qj nm ns row cl->Due c G H r ms a cl Q->j1 c vs H Q E
theorem Ap (T:Tx w K mg c)(jA:Fn P w K mg base "wanted_change" 8 ["house","call"] (gS c))(KJ:Fn P w K mg base "make" 11 ["running","wanted"] (AY c))(xJ:Fn P w K mg base "may_make" 9 ["running","wanted"] (oM c))(mW:Fn P w K mg base "answer_to_row" 10 ["running","name","row"] (lR c))
  (j2:Fn P w K mg base "answer_to_number" 5 ["running","name","number"] (jn c)) (kL:Fn P w K mg base "answer_to_event" 10 ["running","name","thing","value"] (j0 c)) (lS:Fn P w K mg base "answer_to_name" 13 ["running","name"] (kK c)) :
  Fn P w K mg base "answer_in_house" 14 ["running","call"] (j1 c):=by
 refine T.kI.ok zq λH Q E hr h=>?_
 ·obtain ⟨G,r,ms,a,ca,nm,ns,row,b,cl,rfl,hG,cO,st,on,FW,hc,k⟩:=h;have FX:=FW;obtain ⟨dx,na,ra,c7,vW,ky⟩:=FX;have fO:=cO;obtain ⟨R,cE,cP,cC,cN,rfl,x,xv⟩:=fO;obtain ⟨ha,d7,hh⟩:=xv.house.2 on;have wf:=(st.inv.on on).wf;refine ⟨_,(bP (cg (bW iE (bT (pv 1) rfl) (hR T.Cz) (by with_unfolding_all rfl)) (bQ (bU (b6 KJ hr (bM (pv 0) (bM (b6 jA hr (bM (bT (pv 0) rfl) (bM (pv 1) bO))) bO))))) b5)
   (bP (cg (bW iE (bT (pv 1) rfl) (hR T.CA) (by with_unfolding_all rfl)) (bQ (bU (b6 xJ hr (bM (pv 0) (bM (b6 jA hr (bM (bT (pv 0) rfl) (bM (pv 1) bO))) bO))))) b5)
   (bP (cg (bW iE (bT (pv 1) rfl) (hR T.xg) (by with_unfolding_all rfl)) (bQ (bU (b6 mW hr (bM (pv 0) (bM (bT (pv 1) rfl) (bM (bT (pv 1) rfl) bO)))))) b5)
   (bP (cg (bW iE (bT (pv 1) rfl) (hR T.pM) (by with_unfolding_all rfl)) (bQ (bU (b6 j2 hr (bM (pv 0) (bM (bT (pv 1) rfl) (bM (cQ cR (bT (pv 1) rfl) b8 (λ_ _=>rfl)) bO)))))) b5)
   (bP (cg (bW iE (bT (pv 1) rfl) (hR T.sq) (by with_unfolding_all rfl)) (bQ (bU (b6 kL hr (bM (pv 0) (bM (bT (pv 1) rfl) (bM (cQ cR (bT (pv 1) rfl) b8 (λ_ _=>rfl)) (bM (cQ cR (bT (pv 1) rfl) b8 (λ_ _=>rfl)) bO))))))) b5)
   (bQ (bU (b6 lS hr (bM (pv 0) (bM (bT (pv 1) rfl) bO)))))))))),?_⟩
  have mk:∀y,qC a.house nm ns row y->tD a.house.things y->(Ks340.act a cl=xE a y)->∀(Z:Prop),Z=(∃v',(V.ref r)=v'/\True)->gS c [.ref ha,.ref ca] H (λv1 H1=>AY c [.ref r,v1] H1 Q E0) E0:=λy hy Ks he Z _=>by refine ⟨G,ha,ca,a.house,nm,ns,row,b,y,rfl,hG,hh,FW,wf,hy,λp G1 H1 g1 hw=>?_⟩;refine ⟨G1,r,_,a,p,y,rfl,g1.sub,cO.up g1,st.inv,on,hw,Ks,λq G2 H2 MX s2 r2 h2=>k q G2 H2 MX ?_ (by rw [he];exact r2) (by rw [he];exact h2)⟩;exact (jx.trans ⟨g1.any,λ_ z=>.inl z⟩ s2)
  have may:∀y,qC a.house nm ns row y->tD a.house.things y->(Ks340.act a cl=(a,Kr a y))->gS c [.ref ha,.ref ca] H (λv1 H1=>oM c [.ref r,v1] H1 Q E0) E0:=λy hy Ks he=>by refine ⟨G,ha,ca,a.house,nm,ns,row,b,y,rfl,hG,hh,FW,wf,hy,λp G1 H1 g1 hw=>?_⟩;refine ⟨G1,r,_,a,p,y,rfl,g1.sub,cO.up g1,st.inv,on,hw,Ks,λq G2 H2 g2 h2=>?_⟩;exact k.ask cO (by rw [he]) q G2 H2 (g1.trans g2) (by rw [he];exact h2)
  have fl1:([.str "add",.str "drop",.str "move"]:List V).all iJ=true:=by decide +kernel
  have fl2:([.str "mayadd",.str "maydrop",.str "maymove"]:List V).all iJ=true:=by decide +kernel
  have fl3:([.str "find",.str "could"]:List V).all iJ=true:=by decide +kernel
  have fl4:([.str "value",.str "why",.str "line",.str "name",.str "log"]:List V).all iJ=true:=by decide +kernel
  have fl5:([.str "set",.str "look"]:List V).all iJ=true:=by decide +kernel
  refine ⟨_,rfl,_,c.Call,dx,_,_,rfl,hG _ _ c7,T.cy,T.cz,cB _ na ra b,⟨c.JE,_,rfl,.inr (T.CC _),rfl,fl1,_,rfl,?_⟩⟩;cases hc with
  | add i row=>exact iD (by decide +kernel) ⟨_,rfl,_,rfl,_,c.b7,R.dx,_,_,rfl,x.hr,T.b0,T.b4,cV d7,_,rfl,mk _ (.add i row) (EM wf i row) (Ve on i row) _ rfl⟩
  | drop i row=>exact iD (by decide +kernel) ⟨_,rfl,_,rfl,_,c.b7,R.dx,_,_,rfl,x.hr,T.b0,T.b4,cV d7,_,rfl,mk _ (.drop i row) (BY wf i) (SG on i) _ rfl⟩
  | move i j row=>exact iD (by decide +kernel) ⟨_,rfl,_,rfl,_,c.b7,R.dx,_,_,rfl,x.hr,T.b0,T.b4,cV d7,_,rfl,mk _ (.move i j row) (BZ wf i j) (SH on i j) _ rfl⟩
  | Al i row=>exact fj (by decide +kernel) ⟨_,rfl,_,c.Call,dx,_,_,rfl,hG _ _ c7,T.cy,T.cz,cB _ na ra b,⟨c.mz,_,rfl,.inr (T.iS _),rfl,fl2,_,rfl,iD (by decide +kernel) ⟨_,rfl,_,rfl,_,c.b7,R.dx,_,_,rfl,x.hr,T.b0,T.b4,cV d7,_,rfl,may _ (.Al i row) (EM wf i row) (OL on i row)⟩⟩⟩
  | vU i row=>exact fj (by decide +kernel) ⟨_,rfl,_,c.Call,dx,_,_,rfl,hG _ _ c7,T.cy,T.cz,cB _ na ra b,⟨c.mz,_,rfl,.inr (T.iS _),rfl,fl2,_,rfl,iD (by decide +kernel) ⟨_,rfl,_,rfl,_,c.b7,R.dx,_,_,rfl,x.hr,T.b0,T.b4,cV d7,_,rfl,may _ (.vU i row) (BY wf i) (LD on i)⟩⟩⟩
  | vV i j row=>exact fj (by decide +kernel) ⟨_,rfl,_,c.Call,dx,_,_,rfl,hG _ _ c7,T.cy,T.cz,cB _ na ra b,⟨c.mz,_,rfl,.inr (T.iS _),rfl,fl2,_,rfl,iD (by decide +kernel) ⟨_,rfl,_,rfl,_,c.b7,R.dx,_,_,rfl,x.hr,T.b0,T.b4,cV d7,_,rfl,may _ (.vV i j row) (BZ wf i j) (LF on i j)⟩⟩⟩
  | row eB =>
   have i1:gU (.str nm) [.str "add",.str "drop",.str "move"]=false:=by cases eB <;> decide +kernel
   have i2:gU (.str nm) [.str "mayadd",.str "maydrop",.str "maymove"]=false:=by cases eB <;> decide +kernel
   have i3:gU (.str nm) [.str "find",.str "could"]=true:=by cases eB <;> decide +kernel
   refine fj i1 ⟨_,rfl,_,c.Call,dx,_,_,rfl,hG _ _ c7,T.cy,T.cz,cB _ na ra b,⟨c.mz,_,rfl,.inr (T.iS _),rfl,fl2,_,rfl,fj i2 ⟨_,rfl,_,c.Call,dx,_,_,rfl,hG _ _ c7,T.cy,T.cz,cB _ na ra b,⟨c.nv,_,rfl,.inr (T.kg _),rfl,fl3,_,rfl,iD i3 ?_⟩⟩⟩⟩;exact ⟨_,rfl,_,rfl,_,c.Call,dx,_,_,rfl,hG _ _ c7,T.cy,T.cz,cB _ na ra b,⟨_,rfl,_,c.Call,dx,_,_,rfl,hG _ _ c7,T.cy,T.cz,tF nm na ra b,G,r,_,a,nm,ra,_,cl,rfl,hG,cO,st,on,ky.up hG,eB,k⟩⟩
  | num eB =>
   have i1:gU (.str nm) [.str "add",.str "drop",.str "move"]=false:=by cases eB <;> decide +kernel
   have i2:gU (.str nm) [.str "mayadd",.str "maydrop",.str "maymove"]=false:=by cases eB <;> decide +kernel
   have i3:gU (.str nm) [.str "find",.str "could"]=false:=by cases eB <;> decide +kernel
   have i4:gU (.str nm) [.str "value",.str "why",.str "line",.str "name",.str "log"]=true:=by cases eB <;> decide +kernel
   refine fj i1 ⟨_,rfl,_,c.Call,dx,_,_,rfl,hG _ _ c7,T.cy,T.cz,cB _ na ra b,⟨c.mz,_,rfl,.inr (T.iS _),rfl,fl2,_,rfl,fj i2 ⟨_,rfl,_,c.Call,dx,_,_,rfl,hG _ _ c7,T.cy,T.cz,cB _ na ra b,⟨c.nv,_,rfl,.inr (T.kg _),rfl,fl3,_,rfl,fj i3 ⟨_,rfl,_,c.Call,dx,_,_,rfl,hG _ _ c7,T.cy,T.cz,cB _ na ra b,⟨c.kX,_,rfl,.inr (T.jb _),rfl,fl4,_,rfl,iD i4 ?_⟩⟩⟩⟩⟩⟩;exact ⟨_,rfl,_,rfl,_,c.Call,dx,_,_,rfl,hG _ _ c7,T.cy,T.cz,cB _ na ra b,⟨_,rfl,_,c.Call,dx,_,_,rfl,hG _ _ c7,T.cy,T.cz,d8 nm na ra b,na,_,_,_,rfl,rfl,bY.of (hG _ _ vW),cD (j:=0) rfl,G,r,_,a,nm,_,cl,rfl,hG,cO,st,on,eB,k⟩⟩
  | ev eB =>
   have i1:gU (.str nm) [.str "add",.str "drop",.str "move"]=false:=by cases eB <;> decide +kernel
   have i2:gU (.str nm) [.str "mayadd",.str "maydrop",.str "maymove"]=false:=by cases eB <;> decide +kernel
   have i3:gU (.str nm) [.str "find",.str "could"]=false:=by cases eB <;> decide +kernel
   have i4:gU (.str nm) [.str "value",.str "why",.str "line",.str "name",.str "log"]=false:=by cases eB <;> decide +kernel
   have i5:gU (.str nm) [.str "set",.str "look"]=true:=by cases eB <;> decide +kernel
   refine fj i1 ⟨_,rfl,_,c.Call,dx,_,_,rfl,hG _ _ c7,T.cy,T.cz,cB _ na ra b,⟨c.mz,_,rfl,.inr (T.iS _),rfl,fl2,_,rfl,fj i2 ⟨_,rfl,_,c.Call,dx,_,_,rfl,hG _ _ c7,T.cy,T.cz,cB _ na ra b,⟨c.nv,_,rfl,.inr (T.kg _),rfl,fl3,_,rfl,fj i3 ⟨_,rfl,_,c.Call,dx,_,_,rfl,hG _ _ c7,T.cy,T.cz,cB _ na ra b,⟨c.kX,_,rfl,.inr (T.jb _),rfl,fl4,_,rfl,fj i4 ⟨_,rfl,_,c.Call,dx,_,_,rfl,hG _ _ c7,T.cy,T.cz,cB _ na ra b,⟨c.qv,_,rfl,.inr (T.mK _),rfl,fl5,_,rfl,iD i5 ?_⟩⟩⟩⟩⟩⟩⟩⟩;exact ⟨_,rfl,_,rfl,_,c.Call,dx,_,_,rfl,hG _ _ c7,T.cy,T.cz,cB _ na ra b,⟨_,rfl,_,c.Call,dx,_,_,rfl,hG _ _ c7,T.cy,T.cz,d8 nm na ra b,na,_,_,_,rfl,rfl,bY.of (hG _ _ vW),cD (j:=0) rfl,_,rfl,_,c.Call,dx,_,_,rfl,hG _ _ c7,T.cy,T.cz,d8 nm na ra b,na,_,_,_,rfl,rfl,bY.of (hG _ _ vW),cD (j:=1) rfl,G,r,_,a,nm,_,_,cl,rfl,hG,cO,st,on,eB,k⟩⟩
  | Am eB =>
   have i1:gU (.str nm) [.str "add",.str "drop",.str "move"]=false:=by cases eB <;> decide +kernel
   have i2:gU (.str nm) [.str "mayadd",.str "maydrop",.str "maymove"]=false:=by cases eB <;> decide +kernel
   have i3:gU (.str nm) [.str "find",.str "could"]=false:=by cases eB <;> decide +kernel
   have i4:gU (.str nm) [.str "value",.str "why",.str "line",.str "name",.str "log"]=false:=by cases eB <;> decide +kernel
   have i5:gU (.str nm) [.str "set",.str "look"]=false:=by cases eB <;> decide +kernel
   refine fj i1 ⟨_,rfl,_,c.Call,dx,_,_,rfl,hG _ _ c7,T.cy,T.cz,cB _ na ra b,⟨c.mz,_,rfl,.inr (T.iS _),rfl,fl2,_,rfl,fj i2 ⟨_,rfl,_,c.Call,dx,_,_,rfl,hG _ _ c7,T.cy,T.cz,cB _ na ra b,⟨c.nv,_,rfl,.inr (T.kg _),rfl,fl3,_,rfl,fj i3 ⟨_,rfl,_,c.Call,dx,_,_,rfl,hG _ _ c7,T.cy,T.cz,cB _ na ra b,⟨c.kX,_,rfl,.inr (T.jb _),rfl,fl4,_,rfl,fj i4 ⟨_,rfl,_,c.Call,dx,_,_,rfl,hG _ _ c7,T.cy,T.cz,cB _ na ra b,⟨c.qv,_,rfl,.inr (T.mK _),rfl,fl5,_,rfl,fj i5 ?_⟩⟩⟩⟩⟩⟩⟩⟩;exact ⟨_,rfl,_,rfl,_,c.Call,dx,_,_,rfl,hG _ _ c7,T.cy,T.cz,cB _ na ra b,⟨G,r,_,a,nm,cl,rfl,hG,cO,st,on,eB,k⟩⟩
inductive tO (c:Cs)(vs:List V)(H:Hp)(Q:VK)(E:XK):Prop | mk (G:Hp) (r:Addr) (ms:List Addr) (a:Abs) (ca:Addr) (nm:Str) (ns row:List Nat) (b:Nat) (cl:Ks340.Call):vs=[.ref r,.ref ca]->bS G H->Run c G H r ms a->Hy.St a->tG c G ca nm ns row b->C7 nm ns row cl->Due c G H r ms a cl Q->tO c vs H Q E
theorem qj.names {nm:Str}{ns:List Nat}{row:Bytes}{cl:Ks340.Call}(h:qj nm ns row cl):nm≠"begin"/\nm≠"load"/\nm≠"mayload"/\nm≠"state":=by
 cases h with
 | row h=>cases h <;> decide +kernel
 | num h=>cases h <;> decide +kernel
 | ev h=>cases h <;> decide +kernel
 | Am h=>cases h <;> decide +kernel
 | _=>decide +kernel
theorem Hj (a:Abs):Ks340.act a .begin=({},Ks340.no 0):=by unfold Ks340.act;rw [aa (λh=>nomatch h.2)]
theorem KL (T:Tx w K mg c)(FY:Fn P w K mg base "begin" 2 ["running"] (CS c))(KN:Fn P w K mg base "load" 10 ["running","text"] (FO c))(Aq:Fn P w K mg base "mayload" 9 ["text"] (xA c))(FZ:Fn P w K mg base "sizes" 1 ["running"] (CY c))(kM:Fn P w K mg base "answer_in_house" 14 ["running","call"] (j1 c)) :
  Fn P w K mg base "answer_to" 15 ["running","call"] (tO c):=by
 refine T.uQ.ok JB λH Q E hr h=>?_
 ·obtain ⟨G,r,ms,a,ca,nm,ns,row,b,cl,rfl,hG,cO,st,FW,hc,k⟩:=h;have FX:=FW;obtain ⟨dx,na,ra,c7,vW,ky⟩:=FX;have fO:=cO;obtain ⟨R,cE,cP,cC,cN,rfl,x,xv⟩:=fO;refine ⟨_,(bP (cg (bW dk (bT (pv 1) rfl) c6 (b9 _)) (bQ (bU (b6 FY hr (bM (pv 0) bO)))) b5)
   (bP (cg (bW dk (bT (pv 1) rfl) c6 (b9 _)) (bQ (bU (b6 KN hr (bM (pv 0) (bM (bT (pv 1) rfl) bO))))) b5)
   (bP (cg (bW dk (bT (pv 1) rfl) c6 (b9 _)) (bQ (bU (b6 Aq hr (bM (bT (pv 1) rfl) bO)))) b5)
   (bP (cg (bW dk (bT (pv 1) rfl) c6 (b9 _)) (bQ (bU (b6 FZ hr (bM (pv 0) bO)))) b5)
   (bP (cg (bW gJ (bT (pv 0) rfl) cF (b9 _)) (bQ (bU (ck (bM (cG T.xb) bO)))) b5)
   (bQ (bU (b6 kM hr (bM (pv 0) (bM (pv 1) bO)))))))))),?_⟩
  refine ⟨_,rfl,_,c.Call,dx,_,_,rfl,hG _ _ c7,T.cy,T.cz,cB _ na ra b,⟨rfl,_,rfl,?_⟩⟩;cases hc with
  | begin row =>
   refine eX rfl ⟨_,rfl,G,r,_,a,rfl,hG,cO,λp G' H' eG s' r' h'=>k p G' H' eG s' ?_ ?_⟩
   ·rw [Hj];exact r'
   ·rw [Hj];exact h'
  | load row =>
   refine cM (by decide +kernel) ⟨_,rfl,_,c.Call,dx,_,_,rfl,hG _ _ c7,T.cy,T.cz,cB _ na ra b,⟨rfl,_,rfl,eX rfl ⟨_,rfl,_,rfl,_,c.Call,dx,_,_,rfl,hG _ _ c7,T.cy,T.cz,tF _ na ra b,G,r,_,a,ra,row,rfl,hG,cO,ky.up hG,λp G' H' eG s' r' h'=>k p G' H' eG s' ?_ ?_⟩⟩⟩
   ·rw [Kk];exact r'
   ·rw [Kk];exact h'
  | M9 row =>refine cM (by decide +kernel) ⟨_,rfl,_,c.Call,dx,_,_,rfl,hG _ _ c7,T.cy,T.cz,cB _ na ra b,⟨rfl,_,rfl,cM (by decide +kernel) ⟨_,rfl,_,c.Call,dx,_,_,rfl,hG _ _ c7,T.cy,T.cz,cB _ na ra b,⟨rfl,_,rfl,eX rfl ⟨_,rfl,_,c.Call,dx,_,_,rfl,hG _ _ c7,T.cy,T.cz,tF _ na ra b,G,ra,row,rfl,hG,ky.up hG,?_⟩⟩⟩⟩⟩;have q:=k.ask cO (by rw [EH]);rw [EH] at q;exact q
  | state row =>exact cM (by decide +kernel) ⟨_,rfl,_,c.Call,dx,_,_,rfl,hG _ _ c7,T.cy,T.cz,cB _ na ra b,⟨rfl,_,rfl,cM (by decide +kernel) ⟨_,rfl,_,c.Call,dx,_,_,rfl,hG _ _ c7,T.cy,T.cz,cB _ na ra b,⟨rfl,_,rfl,cM (by decide +kernel) ⟨_,rfl,_,c.Call,dx,_,_,rfl,hG _ _ c7,T.cy,T.cz,cB _ na ra b,⟨rfl,_,rfl,eX rfl ⟨_,rfl,G,r,_,a,rfl,hG,cO,st.inv,k.ask cO (by rw [Hf])⟩⟩⟩⟩⟩⟩⟩
  | jz hi =>
   obtain ⟨m1,m2,m3,m4⟩:=hi.names;refine cM m1 ⟨_,rfl,_,c.Call,dx,_,_,rfl,hG _ _ c7,T.cy,T.cz,cB _ na ra b,⟨rfl,_,rfl,cM m2 ⟨_,rfl,_,c.Call,dx,_,_,rfl,hG _ _ c7,T.cy,T.cz,cB _ na ra b,⟨rfl,_,rfl,cM m3 ⟨_,rfl,_,c.Call,dx,_,_,rfl,hG _ _ c7,T.cy,T.cz,cB _ na ra b,⟨rfl,_,rfl,cM m4 ?_⟩⟩⟩⟩⟩⟩;refine ⟨_,rfl,_,c.b7,R.dx,_,_,rfl,x.hr,T.b0,T.b4,z9 R,rfl,_,rfl,?_⟩;cases on:a.on with
   | false =>
    rw [xv.house.1 on];have he:Ks340.act a cl=(a,Ks340.no (-61)):=by unfold Ks340.act;rw [ab ⟨on,hi.alone⟩]
    refine iT ⟨dI,λq hq=>?_⟩;refine k.ask cO (by rw [he]) q _ _ ((Gr.refl hG).new hq) ?_;rw [he];exact bN
   | true =>obtain ⟨ha,d7,hh⟩:=xv.house.2 on;rw [d7];exact iF ⟨_,rfl,_,rfl,G,r,_,a,ca,nm,ns,row,b,cl,rfl,hG,cO,st,on,FW,hi,k⟩
end
theorem KO {L X:List Nat}{pl i:Nat}(h:L.drop pl=i::X):L[pl]?=some i/\L.drop (pl+1)=X:=by
 refine ⟨?_,?_⟩
 ·have:(L.drop pl)[0]?=some i:=by rw [h];rfl
  rw [bC] at this;exact this
 ·rw [<-bz,h];rfl
theorem KP (L:List Nat)(k n:Nat):fE (c0 L) (some (k:Int)) (some ((k:Int)+(n:Int)))=c0 ((L.drop k).take n):=by
 have:=JK (c0 L) k n
 rw [show (((k+n:Nat)):Int)=(k:Int)+(n:Int) by omega] at this;rw [this,J1,J0]
theorem KQ {l m:List Nat}{n:Nat}(h:l.length=n):(l++m).take n=l:=by subst h;exact List.take_left
theorem KR {l m:List Nat}{n:Nat}(h:l.length=n):(l++m).drop n=m:=by subst h;exact List.drop_left
theorem Vi {K:PySem.W.Frag}{H H':Hp}{a:Addr}{xs:List V}(h:bY K H a xs)(k:∀o,H a=some o->H' a=some o):bY K H' a xs:=by
 rcases h with h | h
 ·refine .inl ?_;rcases h with h | ⟨o,h⟩
  ·exact .inl (k _ h)
  ·exact .inr ⟨o,k _ h⟩
 ·exact .inr h
theorem Vj {i:Nat}{fm:Str×Nat×Bool}(h:hU[i]?=some fm):rJ[i]?=some [.str fm.1,.int fm.2.1,.bl fm.2.2]:=by unfold rJ;rw [aS,h];rfl
section
variable {P:Program}{w:World}{K:PySem.W.Frag}{mg:Str->Option Value}{base:Heap}{c:Cs}
inductive xK (K:PySem.W.Frag)(c:Cs)(vs:List V)(H:Hp)(Q:VK)(E:XK):Prop | mk (G:Hp) (ca:Addr) (L:List Nat) (pl:Nat) (cc:List (List Int)) (i:Nat) (fm:Str×Nat×Bool) (ns row tl:List Nat):vs=[.ref ca,.int (pl:Int)]->bS G H->bY K H ca (c0 L)->A0 (L.drop pl) cc i fm ns row tl->(∀p b G' H',Gr [] G H G' H'->tG c G' p fm.1 ns row b->pl<b->L.drop b=tl->Q (.ref p) H')->xK K c vs H Q E
theorem OU (T:Tx w K mg c)(EV:Made P w K mg base "Call" c.Call 1 ["self","name","numbers","row","behind"] ["name","numbers","row","behind"]):Fn P w K mg base "call_at" 3 ["calls","place"] (xK K c):=by
 refine T.zH.ok ke λH Q E hr h=>?_
 ·obtain ⟨G,ca,L,pl,cc,i,fm,ns,row,tl,rfl,hG,c7,⟨hf,hn,hl⟩,k⟩:=h;obtain ⟨cas,XB,xr⟩:=T.FE;obtain ⟨fa,XC,Dn⟩:=Paired.lO xr (Vj hf);obtain ⟨X,hX⟩:∃X,L.drop pl=i::(ns++X):=by
   rcases hl with ⟨_,_,e,_⟩ | ⟨_,e,_⟩
   ·exact ⟨_,e⟩
   ·exact ⟨_,e⟩
  obtain ⟨hi,kZ⟩:=KO hX;have aaV:(L.drop (pl+1)).take fm.2.1=ns:=by rw [kZ];exact KQ hn
  have hd2:L.drop (pl+1+fm.2.1)=X:=by rw [<-bz,kZ];exact KR hn
  refine ⟨_,(bP (cJ ke 2 (cQ fQ (hR T.FD) (cQ cR (pv 0) (pv 1) (λ_ _=>rfl)) (λ_ _=>rfl)))
   (bP (cJ ke 3 (dj i6 (dj i6 (pv 1) b8) (cQ fQ (pv 2) b8 (λ_ _=>rfl))))
   (bP (cJ ke 4 (dZ fV (pv 0) (dJ (dj i6 (pv 1) b8)) (dJ (pv 3))))
   (bP (cg (yu (oP (cQ fQ (pv 2) b8 (λ_ _=>rfl)))) (bQ (bU (ff EV hr (bM (cQ fQ (pv 2) b8 (λ_ _=>rfl)) (bM (pv 4) (bM (ck bO) (bM (pv 3) bO))))))) b5)
   (bP (cJ ke 5 (dj i6 (pv 3) b8))
   (bP (cJ ke 3 (dj i6 (pv 5) (cQ cR (pv 0) (pv 3) (λ_ _=>rfl))))
   (bQ (bU (ff EV hr (bM (cQ fQ (pv 2) b8 (λ_ _=>rfl)) (bM (pv 4) (bM (dZ fV (pv 0) (dJ (pv 5)) (dJ (pv 3))) (bM (pv 3) bO))))))))))))),?_⟩
  refine ⟨_,rfl,_,rfl,ca,_,_,_,rfl,rfl,c7,cD (j:=pl) (AO hi),c.N3,_,_,_,rfl,rfl,XB _,cD (j:=i) (v:=.ref fa) (by rw [aS,XC];rfl),?_⟩;refine ⟨_,rfl,_,_,rfl,rfl,_,rfl,fa,_,_,_,rfl,rfl,Dn _,cD (j:=1) rfl,_,_,rfl,rfl,?_⟩;refine ⟨_,rfl,_,rfl,_,_,rfl,rfl,_,rfl,_,rfl,_,rfl,ca,_,rfl,c7,λp1 h1=>?_⟩;have ec:fE (c0 L) (some ((pl:Int)+1)) (some ((pl:Int)+1+(fm.2.1:Int)))=c0 ns:=by
   have:=KP L (pl+1) fm.2.1
   rw [aaV] at this;exact this
  rw [ec];have g1:=(Gr.refl (ms:=[]) hG).new (o:=.lst (c0 ns)) h1;have FX:bY K _ ca (c0 L):=bS.seq g1.same c7;refine ⟨_,rfl,fa,_,_,_,rfl,rfl,Dn _,cD (j:=2) rfl,_,rfl,?_⟩;rcases hl with ⟨hb,iz,e,_⟩ | ⟨hb,e,_⟩
  ·rw [hb];refine iT ⟨_,rfl,fa,_,_,_,rfl,rfl,Dn _,cD (j:=0) rfl,_,rfl,hJ,λp2 h2=>?_⟩;have g2:=g1.new (o:=.lst []) h2;refine ⟨_,rfl,rfl,λx dx nx nd ne=>?_⟩;have g3:=g2.ins (C:=c.Call) (fs:=oN fm.1 p1 p2 (pl+1+fm.2.1)) nx nd ne;have u2:bS (upd (upd G p1 (.lst (c0 ns))) p2 (.lst [])) _:=((Gr.refl (ms:=[]) g2.sub).ins (C:=c.Call) (fs:=oN fm.1 p1 p2 (pl+1+fm.2.1)) nx nd ne).up;refine k x (pl+1+fm.2.1) _ _ g3 ⟨dx,p1,p2,bN,?_,?_⟩ (by omega) ?_
   ·exact u2 _ _ ((bS.new (g1.sub.free h2)) _ _ bN)
   ·rw [iz];exact u2 _ _ bN
   ·rw [hd2];rw [e] at hX;injection hX with _ hX
    exact (bB hX).symm
  ·rw [hb];rw [e] at hX;injection hX with _ hX
   have hXe:=bB hX;subst hXe;obtain ⟨Es,QU⟩:=KO hd2;have hd4:L.drop (pl+1+fm.2.1+1+row.length)=tl:=by rw [<-bz,QU];exact KR rfl
   have hrw:(L.drop (pl+1+fm.2.1+1)).take row.length=row:=by rw [QU];exact KQ rfl
   refine iF ⟨_,rfl,_,_,rfl,rfl,?_⟩;refine ⟨_,rfl,_,rfl,_,rfl,ca,_,_,_,rfl,rfl,FX,cD (j:=pl+1+fm.2.1) (AO Es),_,_,rfl,rfl,?_⟩;refine ⟨_,rfl,fa,_,_,_,rfl,rfl,Dn _,cD (j:=0) rfl,_,rfl,_,rfl,_,rfl,_,rfl,_,rfl,_,rfl,ca,_,rfl,FX,λp2 h2=>?_⟩;have ec2:fE (c0 L) (some ((pl:Int)+1+(fm.2.1:Int)+1)) (some ((pl:Int)+1+(fm.2.1:Int)+1+(row.length:Int)))=c0 row:=by
    have:=KP L (pl+1+fm.2.1+1) row.length
    rw [hrw] at this;exact this
   rw [ec2];have g2:=g1.new (o:=.lst (c0 row)) h2;refine ⟨_,rfl,rfl,λx dx nx nd ne=>?_⟩;have g3:=g2.ins (C:=c.Call) (fs:=oN fm.1 p1 p2 (pl+1+fm.2.1+1+row.length)) nx nd ne;have u2:bS (upd (upd G p1 (.lst (c0 ns))) p2 (.lst (c0 row))) _:=((Gr.refl (ms:=[]) g2.sub).ins (C:=c.Call) (fs:=oN fm.1 p1 p2 (pl+1+fm.2.1+1+row.length)) nx nd ne).up;refine k x (pl+1+fm.2.1+1+row.length) _ _ g3 ⟨dx,p1,p2,bN,?_,?_⟩ (by omega) hd4
   ·exact u2 _ _ ((bS.new (g1.sub.free h2)) _ _ bN)
   ·exact u2 _ _ bN
theorem XD {X:Cx}{j:Nat}{p pos:Pos}(M:HZ X.prog X.w X.K X.mg X.base c)(hr:eE j X.A)(hk:2<=j:=by decide)(hg:Gl X "Running":=by rfl):PE X (.Call (.Name "Running" p) [] [] pos) (Ua c):=Xq M hr hk hg
theorem OF.run {G H H':Hp}{r:Addr}{R:RL}(w:bS G H)(hr:H r=none)(sm:bS H H')(n:OF c H H' r R):∃G',Gr [] G H G' H'/\Run c G' H' r (R.ms r) {}:=by have g0:Gr [] G H (nu G H') H':=(Gr.dS w sm).Cp;have nt:∀{b:Addr},H b=none->(∀xs,H' b≠some (.tup xs))->nu G H' b=none:=λhb ht=>zu (w.free hb) ht;refine ⟨_,g0,R,[],[],[],[],rfl,⟨nt hr (λxs=>by rw [n.hr];simp),nt n.f1 (λxs=>by rw [n.h1];simp),nt n.f2 (λxs=>by rw [n.h2];simp),nt n.f3 (λxs=>by rw [n.h3];simp),nt n.f4 (λxs=>by rw [n.h4];simp),n.hr,n.h1,n.h2,n.h3,n.h4,n.sZ,n.tf,n.tj,n.tm,n.tp,n.tq⟩,⟨⟨λ_=>n.hv,λh=>nomatch h⟩,wI n.hs,.nil,.nil,.nil,.nil⟩⟩
theorem C8 (a b:List (List Int)):PyFlat.told (a++b)=PyFlat.told a++PyFlat.told b:=by unfold PyFlat.told;rw [List.flatMap_append]
theorem KS (x:List Int):PyFlat.told [x]=(x.length:Int)::x:=by unfold PyFlat.told;rw [List.flatMap_cons,List.flatMap_nil,aX]
theorem SO:∀c:List (List Int),PyKs340.whole c=c:=by
 have k (p:Nat) (l:List Int) (s:List (List Int)):PyKs340.whole ((.ofNat p::l)::s)=(.ofNat p::l)::s:=by rcases s with _ | ⟨y,_ | ⟨z,t⟩⟩ <;> rcases l with _ | ⟨q,_ | ⟨r,_ | ⟨u,v⟩⟩⟩ <;> (iterate 27 (cases p with | zero=>rfl | succ p=>?_)) <;> rfl
 rintro (_ | ⟨_ | ⟨p | p,l⟩,s⟩)
 ·rfl
 ·rfl
 ·exact k p l s
 ·rfl
theorem OV {f:Nat}{L:List Nat}{rest:List (List (List Int))}(h:PyFlat.calls PyKs340.shape f (intsOf L)=some rest)(hL:L≠[]):∃f' c tl cs i fm ns row,rest=c::cs/\A0 L c i fm ns row tl/\PyFlat.calls PyKs340.shape f' (intsOf tl)=some cs:=by
 cases L with
 | nil=>exact ai rfl hL
 | cons p r =>
  cases f with
  | zero=>cases h
  | succ f =>
   have h2:(match PyFlat.call PyKs340.shape (intsOf (p::r)) with
    | none=>none
    | some (c,t)=>match PyFlat.calls PyKs340.shape f t with
     | none=>none
     | some cs=>some (c::cs))=some rest:=h
   cases hc:PyFlat.call PyKs340.shape (intsOf (p::r)) with
   | none=>rw [hc] at h2;cases h2
   | some x =>
    obtain ⟨c,t⟩:=x;rw [hc] at h2;simp only [] at h2;obtain ⟨i,fm,ns,row,tl,rfl,o⟩:=SN hc;cases Bj:PyFlat.calls PyKs340.shape f (intsOf tl) with
    | none=>rw [Bj] at h2;cases h2
    | some cs =>rw [Bj] at h2;exact ⟨f,c,tl,cs,i,fm,ns,row,(ao h2).symm,o,Bj⟩
theorem Ri {f:Nat}{rest:List (List (List Int))}(h:PyFlat.calls PyKs340.shape f (intsOf [])=some rest):rest=[]:=by
 cases f with
 | zero=>exact (ao h).symm
 | succ f=>exact (ao h).symm
theorem B2:∀(cs:List (List (List Int)))(a:Abs),PyFlat.played Ks340Neutral.step a cs=Ks340Neutral.runs a cs
 | [],_=>rfl
 | c::cs,a=>by show (Ks340Neutral.step a c).2::PyFlat.played Ks340Neutral.step (Ks340Neutral.step a c).1 cs=(Ks340Neutral.step a c).2::Ks340Neutral.runs (Ks340Neutral.step a c).1 cs;rw [B2 cs]
theorem SQ (l:List (List Int)):(PyFlat.told l).length=(l.map List.length).foldl (·+·) 0+l.length:=by
 have e:∀(l:List (List Int))(k:Nat),(l.map List.length).foldl (·+·) k=k+(l.map List.length).sum:=by
  intro l
  induction l with
  | nil=>intro k;simp
  | cons x l ih=>intro k;rw [aw,List.foldl_cons,ih,List.sum_cons];omega
 rw [e]
 induction l with
 | nil=>rfl
 | cons x l ih =>
  have:PyFlat.told (x::l)=(x.length:Int)::x++PyFlat.told l:=rfl
  rw [this,ay,au,ih,aw,List.sum_cons,au];omega
inductive ku (K:PySem.W.Frag)(vs:List V)(H:Hp)(Q:VK)(E:XK):Prop | mk (ca:Addr) (L:List Nat):vs=[.ref ca]->bY K H ca (c0 L)->PyKs340.answers_asked (intsOf L)=true->(∀p H',H' p=some (.lst ((PyKs340.answers (intsOf L)).map V.int))->Q (.ref p) H')->ku K vs H Q E
theorem OW {fA:Addr}{Rj:FuncData}(FA:Dt K "answers" "answers" ug fA Rj)(T:Tx w K mg c)(Ar:HZ P w K mg base c)(As:Fn P w K mg base "call_at" 3 ["calls","place"] (xK K c))(vg:Fn P w K mg base "answer_to" 15 ["running","call"] (tO c)):jD P w K mg base qZ 16 fA Rj ["calls"] (ku K):=by
 refine FA.ok iQ (λvs H Q E h=>?_) (λdu A outer s H vs Q E hr h=>?_)
 ·obtain ⟨ca,L,rfl,_⟩:=h;rfl
 ·obtain ⟨ca,L,rfl,c7,pY,k⟩:=h;obtain ⟨cs,Bj,aaW,aaX⟩:∃cs,PyFlat.calls PyKs340.shape (intsOf L).length (intsOf L)=some cs/\PyKs340.answers (intsOf L)=PyFlat.told (PyFlat.played Ks340Neutral.step {} cs)/\(PyFlat.told (PyFlat.played Ks340Neutral.step {} cs)).length<1000400:=by
   unfold PyKs340.answers_asked PyKs340.calls at pY;cases hc:PyFlat.calls PyKs340.shape (intsOf L).length (intsOf L) with
   | none=>rw [hc] at pY;cases pY
   | some cs =>
    rw [hc] at pY;simp only [] at pY;have ZH:cs.map PyKs340.whole=cs:=by
     have:PyKs340.whole=id:=funext SO
     rw [this,List.map_id]
    rw [ZH] at pY;rw [bc] at pY;obtain ⟨aaY,h2⟩:=pY;have acp:cs.length<=300:=aD aaY;unfold Ks340Neutral.asked at h2;rw [bc] at h2;have h3:=aD h2.2;refine ⟨cs,rfl,?_,?_⟩
    ·unfold PyKs340.answers PyKs340.calls;rw [hc];simp only [];rw [ZH];rfl
    ·rw [SQ,B2];have hl:∀(cs:List (List (List Int)))(a:Abs),(Ks340Neutral.runs a cs).length=cs.length:=by
      intro cs
      induction cs with
      | nil=>intro a;rfl
      | cons c cs ih=>intro a;show ((Ks340Neutral.step a c).2::Ks340Neutral.runs (Ks340Neutral.step a c).1 cs).length=_;rw [au,ih,au]
     rw [hl];have h4:((Ks340Neutral.runs {} cs).map List.length).foldl (·+·) 0<1000000:=h3;omega
  rw [aaW] at k;refine ⟨_,(bP (cJ iQ 1 (XD Ar hr))
   (bP (cJ iQ 2 (ck bO))
   (bP (cJ iQ 3 b8)
   (bP (wb PassesOwn.never (bW ie (pv 3) (cv cf (by rfl) T.cW PySem.boot_len (bM (pv 0) bO)) (b9 _)) (bP (cJ iQ 4 (b6 As hr (bM (pv 0) (bM (pv 3) bO))))
   (bP (cJ iQ 5 (b6 vg hr (bM (pv 1) (bM (pv 4) bO))))
   (bP (dy (gT PySem.F.plainAttrs_list PySem.F.slot_list_append PySem.F.type_list_append dO (pv 2) (bM (cv cf (by rfl) T.cW PySem.boot_len (bM (pv 5) bO)) bO)))
   (bP (dy (gT PySem.F.plainAttrs_list PySem.F.slot_list_extend PySem.F.type_list_extend Pq (pv 2) (bM (pv 5) bO)))
   (bQ (cJ iQ 3 (bT (pv 4) rfl))))))))
   (bQ (bU (pv 2))))))),?_⟩
  refine λr R H1 Ka sm1 nr=>?_;obtain ⟨G1,g1,XE⟩:=nr.run (G:=λ_=>none) (λ_ _ e=>by cases e) Ka sm1;have kc1:∀o,H ca=some o->H1 ca=some o:=λo e=>sm1 _ _ e;refine ⟨hJ,λD hD=>?_⟩;have g2:=(Gr.refl (ms:=[]) g1.sub).cX (o:=.lst []) hD;have SR:=XE.up g2;have aaZ:H ca≠none->ca≠D:=λz=>by
   cases e:H ca with
   | none=>exact ai e z
   | some o=>exact cb (kc1 o e) hD
  have hnD:∀b∈R.ms r,b≠D:=λb hb=>by
   obtain ⟨R',a1,a2,b1,b2,e,x,_⟩:=XE;rw [e] at hb;simp only [RL.ms,ak,List.not_mem_nil,or_false] at hb;rcases hb with rfl | rfl | rfl | rfl | rfl
   ·exact cb x.hr hD
   ·exact cb x.h1 hD
   ·exact cb x.h2 hD
   ·exact cb x.h3 hD
   ·exact cb x.h4 hD
  have hnC:H ca≠none->∀b∈R.ms r,b≠ca:=λy b hb z=>by
   have:H ca=none:=by
    simp only [RL.ms,ak,List.not_mem_nil,or_false] at hb;rcases hb with e | e | e | e | e
    ·rw [<-z,e];exact Ka
    ·rw [<-z,e];exact nr.f1
    ·rw [<-z,e];exact nr.f2
    ·rw [<-z,e];exact nr.f3
    ·rw [<-z,e];exact nr.f4
   exact y this
  refine ⟨λm σ H'=>∃(G':Hp)(ms:List Addr)(a:Abs)(pl f:Nat)(dn:List (List Int))(rest:List (List (List Int)))(v4 v5:Option V),m=rest.length/\σ=[some (.ref ca),some (.ref r),some (.ref D),some (.int (pl:Int)),v4,v5]/\bS G' H'/\Run c G' H' r ms a/\Hy.St a/\(∀o,H ca=some o->H' ca=some o)/\(∀b∈ms,b≠D/\(H ca≠none->b≠ca))/\G' D=none/\H' D=some (.lst ((PyFlat.told dn).map V.int)) /\
    PyFlat.calls PyKs340.shape f (intsOf (L.drop pl))=some rest/\PyFlat.played Ks340Neutral.step {} cs=dn++PyFlat.played Ks340Neutral.step a rest,
   ⟨_,G1,_,{},0,_,[],cs,_,_,rfl,rfl,g2.sub,SR,Hy.RW,λo e=>g2.same _ _ (kc1 o e),λb hb=>⟨hnD b hb,λy=>hnC y b hb⟩,g1.sub.free hD,bN,Bj,rfl⟩,?_⟩
  rintro m σ H' ⟨G',ms,a,pl,fu,dn,rest,v4,v5,rfl,rfl,NR,cO,st,XF,XG,gA,fg,OX,ib⟩;have XH:bY K H' ca (c0 L):=Vi c7 XF;refine ⟨_,rfl,_,rfl,ca,_,rfl,.inl XH,_,_,rfl,rfl,_,rfl,?_⟩;rw [dq];refine df (λe=>?_) (λe=>?_)
  ·have c9:pl<L.length:=by have:=aD e;omega
   have dP:L.drop pl≠[]:=λz=>by
    have:=congrArg List.length z
    rw [bg] at this;simp at this;omega
   obtain ⟨f',cc,tl,cs',i,fm,ns,row,rfl,one,aa0⟩:=OV OX dP;obtain ⟨cl,aa1,Ep⟩:=Vh one;refine ⟨_,λσ' H' q=>q,?_⟩;refine ⟨_,rfl,_,rfl,G',ca,L,pl,cc,i,fm,ns,row,tl,rfl,NR,XH,one,λp b G2 H2 g2 Um hb o8=>?_⟩;have SR:=cO.up g2;refine ⟨_,rfl,_,rfl,G2,r,ms,a,p,fm.1,ns,row,b,cl,rfl,g2.sub,SR,st,Um,aa1,λq G3 H3 ZI s3 aa2 hq=>?_⟩;have Kc:=g2.same _ _ fg;have mR:H3 D=some (.lst ((PyFlat.told dn).map V.int)):=s3.gr.kp _ _ Kc λz=>(XG D z).1 rfl;have aa3:G2 D=none:=g2.out gA (by rw [fg];simp) (λxs=>by rw [Kc];simp);have n0:G3 D=none:=s3.gr.out aa3 (by rw [Kc];simp) (λxs=>by rw [mR];simp);have aa4:∀o,H ca=some o->H3 ca=some o:=λo e=>s3.gr.kp _ _ (g2.same _ _ (XF o e)) λz=>(XG ca z).2 (by rw [e];simp) rfl;have ZJ:=s3.gr.sub _ _ hq;have XI:∀b∈ZI,b≠D/\(H ca≠none->b≠ca):=λb hb=>by
    rcases s3.nw b hb with z | z
    ·exact XG b z
    ·refine ⟨λy=>(by rw [y,Kc] at z;cases z),λx y=>?_⟩;cases e:H ca with
     | none=>exact x e
     | some o=>rw [y,g2.same _ _ (XF o e)] at z;cases z
   have qQ:=Ep a;have Uo:PyFlat.played Ks340Neutral.step {} cs=(dn++[ez (Ks340.act a cl).2])++PyFlat.played Ks340Neutral.step (Ks340.act a cl).1 cs':=by rw [ib,aT];show dn++((Ks340Neutral.step a cc).2::PyFlat.played Ks340Neutral.step (Ks340Neutral.step a cc).1 cs')=_;rw [qQ];rfl
   have hsz:(PyFlat.told dn).length+1+(ez (Ks340.act a cl).2).length<1000400:=by rw [Uo,C8,C8,KS,ay,ay,au] at aaX;omega
   have YT:1000400<sizeLine:=by decide
   refine ⟨_,rfl,.inl ⟨rfl,_,bY.of mR⟩,_,rfl,q,_,rfl,.inl (bY.of ZJ),D,_,_,rfl,rfl,mR,?_,?_⟩
   ·rw [af];omega
   rw [af];have T5:q≠D:=λz=>by rw [z] at hq;unfold dc at hq;rw [n0] at hq;cases hq
   have KA:upd H3 D (.lst ((PyFlat.told dn).map V.int++[.int ((ez (Ks340.act a cl).2).length:Int)])) D=some (.lst ((PyFlat.told dn).map V.int++[.int ((ez (Ks340.act a cl).2).length:Int)])):=bN;have Rc:upd H3 D (.lst ((PyFlat.told dn).map V.int++[.int ((ez (Ks340.act a cl).2).length:Int)])) q=some (.lst ((ez (Ks340.act a cl).2).map V.int)):=by rw [bR T5];exact ZJ
   refine ⟨_,rfl,.inl ⟨rfl,_,bY.of KA⟩,_,rfl,D,q,_,_,rfl,rfl,KA,Rc,?_,?_⟩
   ·rw [ay,af,af];simp only [au,List.length_nil];omega
   rw [fo];obtain ⟨ZK,na,ra,Dm,_,_⟩:=Um;have ph:H3 p=some (.ins c.Call ZK (oN fm.1 na ra b)):=s3.gr.sub _ _ (s3.gr.up _ _ Dm);have hpD:p≠D:=tQ ph mR (λz=>nomatch z);have gw:Gr [D] G3 H3 G3 (upd H3 D (.lst ((PyFlat.told dn).map V.int++[.int ((ez (Ks340.act a cl).2).length:Int)]++(ez (Ks340.act a cl).2).map V.int))):=(Gr.refl s3.gr.sub).wr (.inr (aK.mpr rfl)) n0;refine ⟨_,rfl,_,c.Call,ZK,_,_,rfl,by rw [bR hpD];exact ph,T.cy,T.cz,LJ _ na ra b,?_⟩;refine ⟨cs'.length,by rw [au];omega,G3,ZI,_,b,f',dn++[ez (Ks340.act a cl).2],cs',_,_,rfl,rfl,gw.sub,?_,Hy.Ws st cl,?_,XI,n0,?_,by rw [o8];exact aa0,Uo⟩
   ·obtain ⟨R3,x1,x2,y1,y2,em,xs,xv⟩:=aa2;have KU:∀b∈R3.ms r,b≠D:=λb hb=>(XI b (by rw [em];exact hb)).1;refine ⟨R3,x1,x2,y1,y2,em,⟨xs.gr,xs.g1,xs.g2,xs.g3,xs.g4,?_,?_,?_,?_,?_,xs.sZ,xs.tf,xs.tj,xs.tm,xs.tp,xs.tq⟩,xv⟩
    ·rw [bR (KU _ (by simp [RL.ms]))];exact xs.hr
    ·rw [bR (KU _ (by simp [RL.ms]))];exact xs.h1
    ·rw [bR (KU _ (by simp [RL.ms]))];exact xs.h2
    ·rw [bR (KU _ (by simp [RL.ms]))];exact xs.h3
    ·rw [bR (KU _ (by simp [RL.ms]))];exact xs.h4
   ·intro o e;rw [bR (aaZ (by rw [e];simp))];exact aa4 o e
   ·rw [bN,C8,KS,aB,aw,aT];rfl
  ·have fX:L.length<=pl:=by
    rcases ba pl L.length with q | q
    ·exact ai (aj (by omega)) e
    ·exact q
   rw [List.drop_eq_nil_of_le fX] at OX
   have:=Ri OX
   subst this;refine ⟨_,rfl,k D H' ?_⟩;rw [ib];show _=some (HO.lst ((PyFlat.told (dn++[])).map V.int));rw [aX];exact fg
end
end Hz
namespace Hz
open PySem PySem.Spec PyProof.Rows L2 TL
theorem bn1 {P:List Value->Prop}(h:∀a,P [a]):∀us:List Value,us.length=1->P us
 | [a],_=>h a
theorem bn2 {P:List Value->Prop}(h:∀a b,P [a,b]):∀us:List Value,us.length=2->P us
 | [a,b],_=>h a b
theorem bn3 {P:List Value->Prop}(h:∀a b c,P [a,b,c]):∀us:List Value,us.length=3->P us
 | [a,b,c],_=>h a b c
theorem bn4 {P:List Value->Prop}(h:∀a b c d,P [a,b,c,d]):∀us:List Value,us.length=4->P us
 | [a,b,c,d],_=>h a b c d
theorem bn5 {P:List Value->Prop}(h:∀a b c d e,P [a,b,c,d,e]):∀us:List Value,us.length=5->P us
 | [a,b,c,d,e],_=>h a b c d e
section
variable {K:PySem.W.Frag}{h:Heap}{mg:Str->Option Value}{x m q:Str}{st:Stmt}{ps:List Str}{f C:Addr}{oc kV doc pm du ct:Value}{od an:Option Addr}{sl:Array (Option Value)}
theorem Ia (X:K.In h)(G:h.Ns mainGlobals mg)(a:PySem.W.nsIn K mainGlobals x=some (some (.ref f)))(l:K.lookup f=some ⟨oc,od,.func (PySem.W.fnOf x x (lV st) (gW st) (bV st) .none kV doc pm an du ct),sl⟩)
  (c:PySem.W.codeIn K du x=true) (k:PySem.W.keepIn K (.ref f)=true) (b:∀(kV doc pm:Value)(an:Option Addr)(du ct:Value)(us:List Value),us.length=ps.length->bindArgs (PySem.W.fnOf x x (lV st) (gW st) (bV st) .none kV doc pm an du ct) ⟨us,[]⟩=pure (ps.zip us)):Fd K mg x st ps :=
 ⟨f,_,Du l c k,PySem.W.mg_of X G a,(Du l c k).binds b⟩
theorem EW (a:PySem.W.findIn K (.ref C) m=some (some (.ref f)))(i:PySem.W.isFn K (.ref f)=true)(l:K.lookup f=some ⟨oc,od,.func (PySem.W.fnOf m q (lV st) (gW st) (bV st) .none kV doc pm an du ct),sl⟩)
  (c:PySem.W.codeIn K du q=true) (k:PySem.W.keepIn K (.ref f)=true) (b:∀(kV doc pm:Value)(an:Option Addr)(du ct:Value)(us:List Value),us.length=ps.length->bindArgs (PySem.W.fnOf m q (lV st) (gW st) (bV st) .none kV doc pm an du ct) ⟨us,[]⟩=pure (ps.zip us)):Md K C m q st ps :=
 ⟨f,_,Du l c k,a,i,(Du l c k).binds b⟩
theorem EX:∀f∈([]:List Str),dY K C f:=λ_ h=>nomatch h
theorem fM {g:Str}{gs:List Str}(a:PySem.W.findIn K (.ref C) g=some none)(r:∀f∈gs,dY K C f):∀f∈g::gs,dY K C f:=λf hf=>by
 rcases ak.mp hf with e | e
 ·rw [e];exact a
 ·exact r f e
theorem EY {fs:List Str}(X:K.In h)(G:h.Ns mainGlobals mg)(a:PySem.W.nsIn K mainGlobals x=some (some (.ref C)))(pg:PySem.W.plainGet K C Str.empty=true)(hd:PySem.W.hasDictIn K C=true)(po:PySem.W.plainOver K C=true)
  (sa:PySem.W.findIn K (.ref C) "__setattr__"=some (some (.builtin "object.__setattr__"))) (mk:PySem.W.makesIn K C=true) (kc:PySem.W.keepIn K (.ref C)=true) (no:∀f∈fs,dY K C f):yb K mg x C fs:=⟨⟨pg,hd,po,sa⟩,mk,kc,PySem.W.mg_of X G a,no⟩
theorem dg {a:Addr}{d:Option Addr}{bZ:List Value}{n:Nat}{xs:List V}(l:K.lookup a=some ⟨.type "tuple",d,.seq bZ.toArray n,sl⟩)(v:Vals xs bZ)(hs:bZ.length<=sizeLine:=by decide):∀H,cA K H a xs :=λH=>.inr ⟨_,bZ.toArray,n,l,rfl,rfl,hs,v⟩
theorem SS {a:Addr}{d:Option Addr}{bZ:List Value}{n:Nat}{as:List Addr}(l:K.lookup a=some ⟨.type "tuple",d,.seq bZ.toArray n,sl⟩)(v:Vals (as.map V.ref) bZ)(r:Paired (λa r=>∀H,cA K H a r) as rJ)(hs:bZ.length<=sizeLine:=by decide) :
  ∃as:List Addr,(∀H,cA K H a (as.map V.ref))/\Paired (λa r=>∀H,cA K H a r) as rJ:=⟨as,dg l v hs,r⟩
theorem v3 {x:Str}{i:Int}{b:Bool}{t u:Tok}:Vals [.str x,.int i,.bl b] [.str x t,.int i u,.bool b]:=.cons ⟨_,rfl⟩ (.cons ⟨_,rfl⟩ (.cons rfl .nil))
theorem LK (x y:Str)(t:Tok):Value.isStrOf x (.str y t)=decide (x=y):=by
 show (y == x)=decide (x=y)
 by_cases e:x=y
 ·subst e;simp
 ·rw [az e];exact beq_eq_false_iff_ne.mpr λq=>e q.symm
theorem OY {w:World}{a:Addr}{h1 h2 h3:Int}{t1 t2 t3 u1 u2 u3:Tok}{n:Nat}
  (l:K.lookup a=some ⟨.type "dict",none,.dict #[⟨h1,.str "not" t1,.int 1 u1⟩,⟨h2,.str "and" t2,.int 2 u2⟩,⟨h3,.str "or" t3,.int 2 u3⟩] n,#[]⟩)
  (e1:h1=PyData.keyHash w.params "not") (e2:h2=PyData.keyHash w.params "and") (e3:h3=PyData.keyHash w.params "or") (ns:(a == sysModules)=false):KD w K a jf:=by
 refine ⟨⟨_,n,l,⟨⟨_,_,rfl,e1⟩,⟨_,_,rfl,e2⟩,⟨_,_,rfl,e3⟩,trivial⟩,λx=>?_⟩,ns⟩;unfold findBy jf;rw [<-Array.find?_toList];simp only [List.find?_cons,List.find?_nil,LK]
 by_cases c1:x="not"
 ·rw [ab c1,aj c1];exact ⟨_,rfl⟩
 ·rw [aa c1,az c1]
  by_cases c2:x="and"
  ·rw [ab c2,aj c2];exact ⟨_,rfl⟩
  ·rw [aa c2,az c2]
   by_cases c3:x="or"
   ·rw [ab c3,aj c3];exact ⟨_,rfl⟩
   ·rw [aa c3,az c3];trivial
end
theorem SU {l:List Int}(h:∀x∈l,0<=x):∃L:List Nat,l=intsOf L:=⟨l.map Int.toNat,by
 unfold intsOf;rw [bf]
 have:∀x∈l,(Int.ofNat∘Int.toNat) x=x:=λx hx=>Int.toNat_of_nonneg (h x hx)
 exact ((List.map_congr_left (g:=id) this).trans (List.map_id l)).symm⟩
theorem request {K:PySem.W.Frag}{H:Hp}{xs:List V}{a:PySem.W.Codec.denoteAll PySem.Challenge.rw_houserulesyard_s01_answers.args}(Ma:PySem.W.Codec.withinAll PySem.Challenge.rw_houserulesyard_s01_answers.args a=true)
  (pY:PySem.W.Codec.app PySem.Challenge.rw_houserulesyard_s01_answers.args PySem.Challenge.rw_houserulesyard_s01_answers.asked a=true) (hx:j8 K H xs (PySem.W.Codec.encAll PySem.Challenge.rw_houserulesyard_s01_answers.args a)) :
  ku K xs H (λv H'=>Dw K H' v (PySem.Challenge.rw_houserulesyard_s01_answers.ret.enc (PySem.W.Codec.app PySem.Challenge.rw_houserulesyard_s01_answers.args PySem.Challenge.rw_houserulesyard_s01_answers.f a))) λ_ _ _=>False:=by
 cases hx with
 | cons h1 h2 =>
  cases h2;cases h1 with
  | lst hs ha =>
   have e:=L2.L8 a.1 _ ha;subst e;have q:((PySem.W.Codec.inLen 0 30000 a.1 && a.1.all (PySem.W.Codec.inInt 0 4294967295)) && true)=true:=Ma;rw [bc,bc] at q;have h0:∀x∈a.1,0<=x:=λx hx=>by have q2:=br.mp q.1.2 x hx;unfold PySem.W.Codec.inInt at q2;rw [bc] at q2;exact aD q2.1
   obtain ⟨L,hL⟩:=SU h0;have Yr:PyKs340.answers_asked (intsOf L)=true:=by rw [<-hL];exact pY
   refine ⟨_,L,rfl,by rw [CP,show List.map Int.ofNat L=a.1 from hL.symm];exact hs,Yr,λp H' hp=>?_⟩;have e3:PySem.Challenge.rw_houserulesyard_s01_answers.ret.enc (PySem.W.Codec.app PySem.Challenge.rw_houserulesyard_s01_answers.args PySem.Challenge.rw_houserulesyard_s01_answers.f a)=PySem.Challenge.rw_houserulesyard_s01_answers.ret.enc (PyKs340.answers (intsOf L)):=by rw [<-hL];rfl
   rw [e3];exact .lst (L2.bY.of hp) (L2.L7 _)
theorem XJ {P:Program}{w:World}{K:PySem.W.Frag}{mg:Str->Option Value}{base:Heap}{c:Cs}{fA:Addr}{Rj:FuncData}(FA:Dt K "answers" "answers" ug fA Rj)(T:Tx w K mg c):jD P w K mg base qZ 16 fA Rj ["calls"] (ku K):=by have gG:=Ef (P:=P) (base:=base) T;have n8:=Eg (P:=P) (base:=base) T;have f7:=CD (P:=P) (base:=base) T gG;have zO:=Oa (P:=P) (base:=base) T f7;have eu:=Eh (P:=P) (base:=base) T zO;have xj:=Lm (P:=P) (base:=base) T;have kj:=Sj (P:=P) (base:=base) T xj;have zS:=Oc (P:=P) (base:=base) T;have zR:=Od (P:=P) (base:=base) T;have gu:=Ln (P:=P) (base:=base) T zR zS;have xq:=Lo (P:=P) (base:=base) T;have eP:=Lp (P:=P) (base:=base) T;have FI:=Of (P:=P) (base:=base) T;have qM:=Og (P:=P) (base:=base) T;have ki:=Oh (P:=P) (base:=base) T;have AV:=Oi (P:=P) (base:=base) T;have me:=JR (P:=P) (base:=base) T;have ma:=JS (P:=P) (base:=base) T;have FQ:=Oj (P:=P) (base:=base) T;have gp:=Lq (P:=P) (base:=base) T;have EV:=Qz (P:=P) (base:=base) T;have pN:=FH (P:=P) (base:=base) T gG;have xp:=Lr (P:=P) (base:=base) T pN FI;have zU:=Oq (P:=P) (base:=base) T eu f7 qM;have CH:=QD (P:=P) (base:=base) T eu qM;have kh:=Lu (P:=P) (base:=base) T zU CH;have u5:=JY (P:=P) (base:=base) T gu xp kh;have jk:=JZ (P:=P) (base:=base) T xq u5 n8 ki ma;have f9:=CI (P:=P) (base:=base) T kj;have sV:=Hq (P:=P) (base:=base) T kj;have sM:=Hr (P:=P) (base:=base) T;have fw:=And.intro T.iR.cl (Lv (P:=P) (base:=base) T f9);have oa:=And.intro T.iR.cl (Sr (P:=P) (base:=base) T fw sM);have eS:=Lw (P:=P) (base:=base) T;have gX:=Ss (P:=P) (base:=base) T oa;have fi:=Hs (P:=P) (base:=base) T;have ji:=J3 (P:=P) (base:=base) T;have iB:=Ht (P:=P) (base:=base) T ji gX fi AV;have kl:=SA (P:=P) (base:=base) T eS gX iB sV me;have d6:=OD (P:=P) (base:=base) T;have sW:=Hu (P:=P) (base:=base) T;have iC:=Hv (P:=P) (base:=base) T;have tN:=Hw (P:=P) (base:=base) T sW iC eP d6;have vb:=Kd (P:=P) (base:=base) T iC eP d6;have vc:=Ke (P:=P) (base:=base) T eP d6;have tI:=Hx (P:=P) (base:=base) T eP;have iW:=Lx (P:=P) (base:=base) T;have gH:=EF (P:=P) (base:=base) T iW;have Ar:=Kh (P:=P) (base:=base) T;have gb:=CQ (P:=P) (base:=base) T;have fL:=A9 (P:=P) (base:=base) T;have FY:=SD (P:=P) (base:=base) T gb fL;have kJ:=Ad (P:=P) (base:=base) T;have jl:=Ki (P:=P) (base:=base) T kl kJ gb;have km:=Ly (P:=P) (base:=base) T;have Aq:=OG (P:=P) (base:=base) T jk km kl gH;have KN:=Vc (P:=P) (base:=base) T jk km jl fL;have gc:=CT (P:=P) (base:=base) T;have gY:=FP (P:=P) (base:=base) T eS gX fi;have om:=QZ (P:=P) (base:=base) T gY FQ;have ve:=Kp (P:=P) (base:=base) T gc om;have tK:=HD (P:=P) (base:=base) T gc gY;have vf:=Kq (P:=P) (base:=base) T;have xH:=Lz (P:=P) (base:=base) T om;have xG:=LA (P:=P) (base:=base) T;have tL:=HE (P:=P) (base:=base) T d6;have C3:=Q0 (P:=P) (base:=base) T f9;have C4:=Q2 (P:=P) (base:=base) T;have FZ:=SF (P:=P) (base:=base) T;have fU:=OI (P:=P) (base:=base) T gp;have kr:=LB (P:=P) (base:=base) T;have mh:=OJ (P:=P) (base:=base) T;have xF:=LC (P:=P) (base:=base) T fU kh gu kr gp;have An:=OK (P:=P) (base:=base) T fU mh gp;have tH:=HF (P:=P) (base:=base) T fU mh kr gp;have gI:=ER (P:=P) (base:=base) T jl ki;have KJ:=Vf (P:=P) (base:=base) T gI;have xJ:=LG (P:=P) (base:=base) T kl gH ki;have mj:=OM (P:=P) (base:=base) T gI;have C5:=Q5 (P:=P) (base:=base) T mj;have C6:=Q6 (P:=P) (base:=base) T mj;have gx:=LI (P:=P) (base:=base) T iB;have tJ:=HG (P:=P) (base:=base) T eu gu gx eS kj iW;have oq:=ES (P:=P) (base:=base) T gx eS;have oo:=ET (P:=P) (base:=base) T ji gx gX fi;have mV:=CZ (P:=P) (base:=base) T eS oo fw;have tM:=HH (P:=P) (base:=base) T mV d6;have jA:=C1 (P:=P) (base:=base) T xF An tH;have mW:=C2 (P:=P) (base:=base) T tI tJ;have j2:=yo (P:=P) (base:=base) T xG C3 vb vc C4;have kL:=Ao (P:=P) (base:=base) T ve tK;have lS:=Ba (P:=P) (base:=base) T C5 C6 vf xH tL oq tM tN;have kM:=Ap (P:=P) (base:=base) T jA KJ xJ mW j2 kL lS;have vg:=KL (P:=P) (base:=base) T FY KN Aq FZ kM;have As:=OU (P:=P) (base:=base) T EV;exact OW FA T Ar As vg
theorem XM {P:Program}{w:World}{K:PySem.W.Frag}{mg:Str->Option Value}{fa a0 a1 a2 a3 a4 a5 a6 a7 a8 a9 a10 a11 a12 a13 a14 a15 a16 a17 a18 a19 a20 a21:Addr}(XC:mg "answers"=some (.ref fa))(T:Tx w K mg ⟨a0,a1,a2,a3,a4,a5,a6,a7,a8,a9,a10,a11,a12,a13,a14,a15,a16,a17,a18,a19,a20,a21⟩) :
  ∃fd:FuncData,(∀(s:Shared)(us:List Value),us.length=(["calls"]:List Str).length->BindsTo s fd ⟨us,[]⟩ ((["calls"]:List Str).zip us))/\∀base:Heap,K.In base->base.Ns mainGlobals mg->jD P w K mg base qZ 16 fa fd ["calls"] (ku K):=by
 obtain ⟨f,fd,F,hm,hb⟩:=T.zI;have e:=XC.symm.trans hm;cases e;obtain ⟨oc,od,kV,doc,pm,an,du,ct,osl,rfl,lk,oO⟩:=F.ex;exact ⟨_,λs us hu=>match us,hu with | [_],_=>.of_eq rfl,λbase _ _=>XJ F T⟩
end Hz
open PySem PySem.W PyProof.Rows
theorem PySem.Challenge.cw_houserulesyard_s01_answers_holds : PySem.Challenge.rw_houserulesyard_s01_answers.Holds := by
 refine zhead ?_
 k_fillS
 refine L2.NC (r:=PySem.Challenge.rw_houserulesyard_s01_answers) (k:=16) (CX:=L2.qZ) (ps:=["calls"]) (sp:=Hz.ku) (by decide +kernel) rfl rfl ⟨rfl,by decide,by decide⟩ (λw h Y=>PySem.W.kIn_of Y) ?F ?S (λ_ _ _ _ z=>z)
 case F =>
  intro w mg fa h Y KX G Wj
  refine' Hz.XM Wj (Hz.Tx.mk ?lZ ?lG ?ny ?lH ?nz ?lI ?iR ?kD ?kE ?nA ?nB ?lJ ?jN ?jO ?jP ?jQ ?nE ?lK ?jR ?jS ?lL ?kF ?rK ?mB ?nG ?nH ?mC ?zx ?nI ?wK ?Fv ?mD ?rL ?Fw ?rM ?uI ?rN ?rO ?Fx ?zy ?zz ?wL ?wM ?wN ?zA ?rP ?rQ ?rR ?uJ ?uK ?rS ?wO ?nJ ?wQ ?rT ?Cq ?Cr ?Fy ?pG ?wR ?zB ?Ct ?wU ?uL ?uM ?mE ?lM ?kG ?uN ?Fz ?wW ?JF ?zC ?mF ?pH ?Cu ?uO ?rV ?uP ?wX ?zD ?wY ?zE ?wZ ?zF ?rW ?nL ?JG ?w6 ?zG ?Cv ?Cw ?w8 ?rX ?nM ?nN ?mG ?rY ?zH ?mH ?mI ?jT ?kH ?lN ?kI ?uQ ?zI ?fS ?zJ ?o7 ?nO ?fT ?fZ ?JH ?qw ?w9 ?pI ?mJ ?jU ?nP ?xb ?oB ?nQ ?FC ?rZ ?xc ?r8 ?uR ?nR ?zK ?nS ?gO ?r9 ?pJ ?kf ?pK ?pL ?nT ?cW ?HV ?N4 ?HW ?sj ?AJ ?HX ?fN ?N5 ?AK ?xf ?l0 ?uS ?Cy ?sk ?JI ?FD ?Cz ?CA ?xg ?pM ?sq ?uT ?CB ?sr ?JJ ?CC ?iS ?kg ?jb ?mK ?FE ?qK)
  case l0 | uS | Cy | sk | JI | FD | Cz | CA | xg | pM | sq=>(try dsimp only);exact PySem.W.mg_of KX G (by k_is)
  case lZ | iR | nE | lL=>(try dsimp only);exact Hz.EY KX G (by k_is) (by k_is) (by k_is) (by k_is) (by k_is) (by k_is) (by k_is) (Hz.fM (by k_is) (Hz.fM (by k_is) (Hz.fM (by k_is) Hz.EX)))
  case ny | jN | rK=>(try dsimp only);exact Hz.EY KX G (by k_is) (by k_is) (by k_is) (by k_is) (by k_is) (by k_is) (by k_is) (Hz.fM (by k_is) (Hz.fM (by k_is) (Hz.fM (by k_is) (Hz.fM (by k_is) Hz.EX))))
  case nz | nB | jP=>(try dsimp only);exact Hz.EY KX G (by k_is) (by k_is) (by k_is) (by k_is) (by k_is) (by k_is) (by k_is) (Hz.fM (by k_is) (Hz.fM (by k_is) Hz.EX))
  case jR=>(try dsimp only);exact Hz.EY KX G (by k_is) (by k_is) (by k_is) (by k_is) (by k_is) (by k_is) (by k_is) (Hz.fM (by k_is) (Hz.fM (by k_is) (Hz.fM (by k_is) (Hz.fM (by k_is) (Hz.fM (by k_is) (Hz.fM (by k_is) Hz.EX))))))
  case lG | lK | kF=>(try dsimp only);exact Hz.EW (by k_is) (by k_is) (by k_is) (by k_is) (by k_is) λ_ _ _ _ _ _=>Hz.bn4 λ_ _ _ _=>rfl
  case lH | jO | mB=>(try dsimp only);exact Hz.EW (by k_is) (by k_is) (by k_is) (by k_is) (by k_is) λ_ _ _ _ _ _=>Hz.bn5 λ_ _ _ _ _=>rfl
  case lI | lJ | jQ=>(try dsimp only);exact Hz.EW (by k_is) (by k_is) (by k_is) (by k_is) (by k_is) λ_ _ _ _ _ _=>Hz.bn3 λ_ _ _=>rfl
  case kD | kE | nA=>(try dsimp only);exact Hz.EW (by k_is) (by k_is) (by k_is) (by k_is) (by k_is) λ_ _ _ _ _ _=>Hz.bn2 λ_ _=>rfl
  case jS=>(try dsimp only);exact Hz.EW (by k_is) (by k_is) (by k_is) (by k_is) (by k_is) λ_ _ _ _ _ _=>Hz.bn1 λ_=>rfl
  case nG | mC | nI | Fv | Fw | rO | Fx | uJ | uK | rS | wQ | Cq | Cr | pG | wR | zB | Ct | wU | uL | JF | zE | zF | nL | JG | w6 | w8 | rX | nN | zH | mH | lN | kI | uQ=>(try dsimp only);exact Hz.Ia KX G (by k_is) (by k_is) (by k_is) (by k_is) λ_ _ _ _ _ _=>Hz.bn2 λ_ _=>rfl
  case nH | uI | zy | zz | wL | wM | wN | zA | rP | rQ | rR | wO | nJ | rT | Fy | uM | mE | lM | kG | Fz | wW | zC | uP | wX | zD | Cv | Cw | nM | mG | rY | zI=>(try dsimp only);exact Hz.Ia KX G (by k_is) (by k_is) (by k_is) (by k_is) λ_ _ _ _ _ _=>Hz.bn1 λ_=>rfl
  case zx | wK | mD | rL | rM | rN | uN | mF | pH | Cu | uO | rV | wY | wZ | rW | zG | mI | jT=>(try dsimp only);exact Hz.Ia KX G (by k_is) (by k_is) (by k_is) (by k_is) λ_ _ _ _ _ _=>Hz.bn3 λ_ _ _=>rfl
  case kH=>(try dsimp only);exact Hz.Ia KX G (by k_is) (by k_is) (by k_is) (by k_is) λ_ _ _ _ _ _=>Hz.bn4 λ_ _ _ _=>rfl
  case fS | zJ | o7 | nO | fT | fZ | JH | qw | w9 | pI | mJ | jU | nP | xb | oB | nQ | FC | rZ | xc | r8 | uR | nR | zK | nS | gO | r9 | pJ | kf | pK | pL | nT=>(try dsimp only);exact ⟨_,PySem.W.mg_of KX G (by k_is)⟩
  case cW | HV | N4 | HW | sj | AJ | HX | fN | N5 | AK | xf=>(try dsimp only);exact PySem.W.mg_none_of KX G (by k_is)
  case uT | JJ | CC | iS=>(try dsimp only);exact Hz.dg (by k_is) (.cons ⟨_,rfl⟩ (.cons ⟨_,rfl⟩ (.cons ⟨_,rfl⟩ .nil)))
  case CB=>(try dsimp only);exact Hz.dg (by k_is) (.cons ⟨_,rfl⟩ (.cons ⟨_,rfl⟩ (.cons ⟨_,rfl⟩ (.cons ⟨_,rfl⟩ .nil))))
  case sr=>(try dsimp only);exact Hz.dg (by k_is) (.cons ⟨_,rfl⟩ (.cons ⟨_,rfl⟩ (.cons ⟨_,rfl⟩ (.cons ⟨_,rfl⟩ (.cons ⟨_,rfl⟩ (.cons ⟨_,rfl⟩ (.cons ⟨_,rfl⟩ .nil)))))))
  case kg | mK=>(try dsimp only);exact Hz.dg (by k_is) (.cons ⟨_,rfl⟩ (.cons ⟨_,rfl⟩ .nil))
  case jb=>(try dsimp only);exact Hz.dg (by k_is) (.cons ⟨_,rfl⟩ (.cons ⟨_,rfl⟩ (.cons ⟨_,rfl⟩ (.cons ⟨_,rfl⟩ (.cons ⟨_,rfl⟩ .nil)))))
  case FE=>(try dsimp only);exact Hz.SS (as:=[_,_,_,_,_,_,_,_,_,_,_,_,_,_,_,_,_,_,_,_,_,_,_,_,_,_,_]) (by k_is) (.cons rfl (.cons rfl (.cons rfl (.cons rfl (.cons rfl (.cons rfl (.cons rfl (.cons rfl (.cons rfl (.cons rfl (.cons rfl (.cons rfl (.cons rfl (.cons rfl (.cons rfl (.cons rfl (.cons rfl (.cons rfl (.cons rfl (.cons rfl (.cons rfl (.cons rfl (.cons rfl (.cons rfl (.cons rfl (.cons rfl (.cons rfl .nil))))))))))))))))))))))))))) (.cons (Hz.dg (by k_is) Hz.v3) (.cons (Hz.dg (by k_is) Hz.v3) (.cons (Hz.dg (by k_is) Hz.v3) (.cons (Hz.dg (by k_is) Hz.v3) (.cons (Hz.dg (by k_is) Hz.v3) (.cons (Hz.dg (by k_is) Hz.v3) (.cons (Hz.dg (by k_is) Hz.v3) (.cons (Hz.dg (by k_is) Hz.v3) (.cons (Hz.dg (by k_is) Hz.v3) (.cons (Hz.dg (by k_is) Hz.v3) (.cons (Hz.dg (by k_is) Hz.v3) (.cons (Hz.dg (by k_is) Hz.v3) (.cons (Hz.dg (by k_is) Hz.v3) (.cons (Hz.dg (by k_is) Hz.v3) (.cons (Hz.dg (by k_is) Hz.v3) (.cons (Hz.dg (by k_is) Hz.v3) (.cons (Hz.dg (by k_is) Hz.v3) (.cons (Hz.dg (by k_is) Hz.v3) (.cons (Hz.dg (by k_is) Hz.v3) (.cons (Hz.dg (by k_is) Hz.v3) (.cons (Hz.dg (by k_is) Hz.v3) (.cons (Hz.dg (by k_is) Hz.v3) (.cons (Hz.dg (by k_is) Hz.v3) (.cons (Hz.dg (by k_is) Hz.v3) (.cons (Hz.dg (by k_is) Hz.v3) (.cons (Hz.dg (by k_is) Hz.v3) (.cons (Hz.dg (by k_is) Hz.v3) .nil)))))))))))))))))))))))))))
  case qK=>(try dsimp only);exact Hz.OY (by k_is) rfl rfl rfl rfl
 case S =>intro K H xs a hO Ma pY hx;exact Hz.request Ma pY hx
