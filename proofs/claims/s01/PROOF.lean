import PyProof.Rows.All
import Wide.All
import OpenK.AllK
import Wide.FinOn
import Sa76Neutral
import PyFlatLaws
import PyProof.EqAt
import PyProof.EqKinds
import PyProof.TupleCall
import KE.BitLaws
import Open.Spec
import Open.SpecLaws
import KE.OsHead
import KE.OsGo
import KE.KSortTupG
import KE.KDictSum
import PySem.Challenge.RW_keptbymany_s01_answers
set_option Elab.async false
set_option linter.all false
set_option maxRecDepth 100000
set_option maxHeartbeats 4000000
def asQ:=@List.nodup_nil
def ak9:=@List.map_append
def atN:=@List.nodup_append
def aoF:=@List.mem_append
def arD:=@congrArg
def asO:=@List.findIdx_lt_length_of_exists
def aou:=@List.mem_map
def afO:=@if_pos
def acK:=@if_neg
def asC:=@List.mem_map_of_mem
def ajM:=@List.mem_cons_self
def asI:=@List.foldl_cons
def asV:=@List.flatMap_cons
def aiy:=@List.mem_cons_of_mem
def aty:=@List.reverse_append
def atk:=@List.flatMap_append
def ao9:=@List.mem_filter
def arF:=@List.mem_flatMap
def akS:=@List.mem_cons
def aqh:=@List.map_congr_left
def aiM:=@Nat.le_refl
def ao0:=@Nat.le_trans
def ass:=@List.filter_append
def ada:=@List.length_append
def aq9:=@List.length_filter_le
def ar1:=@List.length_singleton
def anr:=@Bool.and_eq_true
def asP:=@List.all_eq_true
def arX:=@List.filter_cons
def asD:=@Bool.false_eq_true
def atd:=@if_false
def ajk:=@List.length_cons
def as4:=@List.pairwise_cons
def atO:=@List.foldl_append
def ajR:=@List.map_cons
def arA:=@List.nodup_cons
def aoI:=@List.mem_append_left
def apc:=@List.append_nil
def aqx:=@List.getD_eq_getElem?_getD
def aqt:=@List.mem_of_getElem?
def aq8:=@List.length_take
def aqy:=@Option.map_eq_some_iff
def atM:=@Option.bind_eq_some_iff
def asW:=@decide_eq_true_eq
def ak7:=@Bool.false_ne_true
def atl:=@List.filter_sublist
def aah:=@List.length_map
def asx:=@List.sum_cons
def aqP:=@List.mem_append_right
def asR:=@beq_iff_eq
def arH:=@beq_eq_false_iff_ne
def atJ:=@Bool.false_and
def ao8:=@List.map_map
def atq:=@List.getElem?_set_self
def atu:=@List.getElem?_eq_none
def atx:=@List.getElem?_set_ne
def atB:=@List.length_set
def as2:=@Int.toNat_of_nonneg
def aoU:=@List.append_assoc
def aqz:=@decide_eq_false
def asz:=@List.drop_eq_nil_of_le
def aqv:=@Option.isSome_iff_exists
def atP:=@List.pairwise_map
def aoJ:=@List.mem_singleton
def atv:=@List.map_nil
def ase:=@Bool.eq_iff_iff
def asE:=@decide_eq_true_iff
def ata:=@of_decide_eq_true
def arC:=@decide_eq_true
def atV:=@List.any_cons
def asX:=@Bool.or_false
def atD:=@List.nil_append
def atb:=@List.reverse_cons
def aqu:=@Nat.zero_le
def asw:=@List.length_drop
def atm:=@List.length_reverse
def apa:=@Option.some.inj
def anR:=@PySem.Heap.lt_size
def apb:=@Nat.lt_of_lt_of_le
def asy:=@Nat.lt_irrefl
def arB:=@Nat.ne_of_lt
def ate:=@Nat.le_of_lt
def aox:=@List.getElem?_eq_some_iff
def asL:=@PySem.wpAny_mono
def asB:=@PySem.wpAny_truthy_bool
def atz:=@Array.length_toList
def adg:=@PySem.wpAny_bind
def asM:=@PySem.wpAny_holding
def as7:=@PySem.wpAny_passesOwn
def alu:=@PySem.wpAny_pure
def akR:=@PySem.Heap.get?_push_of_some
def anF:=@PySem.Heap.get?_push_size
def asJ:=@PyProof.Rows.callWith_type1
def atF:=@Int.natCast_nonneg
def atr:=@PySem.sizeLine_eq
def anq:=@List.size_toArray
def ar3:=@PySem.Heap.size_push
def atf:=@Nat.lt_succ_self
def arQ:=@PySem.W.kia_one
def atG:=@PySem.Calls.spliced_cons
def asG:=@PySem.wpAny_Call_Name_kw
def atH:=@PySem.W.callWith_K
def aqF:=@PySem.mem_of_lookup
def att:=@Int.toNat_natCast
def atw:=@PySem.Heap.get?_update_self
def ats:=@PySem.Calls.callWith_builtin
def atn:=@List.replicate_succ
def atQ:=@List.flatten_cons
def apf:=@PySem.F.slot_list_append
def arz:=@Bool.and_false
def asT:=@PySem.F.slot_list_extend
def as8:=@Array.getElem?_toList
def ant:=@List.getElem?_map
def as3:=@List.lookup_cons
def atR:=@Nat.le_of_succ_le
def atU:=@Nat.lt_succ_of_lt
def asS:=@List.find?_cons
def atp:=@List.length_nil
def as5:=@PySem.tupleKind_room_in1
def atg:=@PySem.wpAny_call_entry
def atc:=@PySem.wpAny_dictEntries
def ar5:=@PySem.F.slot_dict_keyiterator_next
def asY:=@PySem.wpAny_typeNameOfWhole_keyiter
def ath:=@PySem.wpAny_typeNameOf_keyiter
def atE:=@Array.getElem?_eq_getElem
def atA:=@PySem.Heap.SameBut.update
def ato:=@List.getElem?_cons_zero
def asZ:=@List.getElem?_cons_succ
def as9:=@PySem.size_of_entries
def aqw:=@List.getElem?_eq_getElem
def as6:=@List.zip_cons_cons
def atW:=@Nat.succ.inj
def arE:=@PySem.W.mg_none_of
def asH:=@List.length_range
def arV:=@PySem.PassesOwn.never
def atL:=@List.drop_zero
def asK:=@Nat.min_eq_left
def ati:=@decide_eq_decide
def asA:=@List.take_of_length_le
def anK:=@PySem.F.plainAttrs_list
def apl:=@PySem.F.type_list_append
def asU:=@PySem.F.type_list_extend
def atj:=@List.take_length
def as1:=@Int.eq_ofNat_of_zero_le
namespace M
open Sa76
inductive Wf:List Op→Prop
 |nil:Wf []
 |snoc {l:List Op} {o:Op}:Wf l→(∀ i∈told o,i=ROOT∨i∈l.map Op.id)→o.id∉l.map Op.id→1≤o.t→Wf (l++[o])
theorem Wf.nodup{l:List Op}(h:Wf l):(l.map Op.id).Nodup:=by
 induction h with
 |nil=>exact asQ
 |snoc _ _ hn _ ih=>
  rw[ak9,atN];refine⟨ih,by simp,?_⟩;intro x hx y hy e;simp at hy;subst hy e;exact hn hx
theorem Wf.zq{l:List Op}(h:Wf l):∀ o∈l,o.id≠ROOT:=by
 induction h with
 |nil=>intro o ho;cases ho
 |@snoc l p _ _ _ ht ih=>
  intro o ho;rcases aoF.mp ho with ho|ho
  ·exact ih o ho
  ·simp at ho;subst ho;intro e;have:o.t=0:=arD Prod.fst e;omega
def rk(l:List Op)(i:Id):Nat:=if i=ROOT then 0 else l.findIdx (fun o=>o.id == i)+1
theorem aqA{l:List Op}{i:Id}:rk l i≤l.length+1:=by
 unfold rk;split
 ·omega
 ·have:=List.findIdx_le_length (p:=fun o:Op=>o.id == i) (xs:=l);omega
theorem ala{l:List Op}{o:Op}(ho:o∈l):rk l o.id≤l.length:=by
 unfold rk;split
 ·omega
 ·have:=asO (p:=fun p:Op=>p.id == o.id) (xs:=l) ⟨o,ho,by simp⟩;omega
theorem oG{l:List Op}{o:Op}{i:Id}(h:i∈l.map Op.id):(l++[o]).findIdx (fun o=>o.id == i)=l.findIdx (fun o=>o.id == i):=by
 obtain⟨p,hp,e⟩:=aou.mp h;rw[List.findIdx_append,afO];exact asO ⟨p,hp,by simp[e]⟩
theorem ZV{l:List Op}(h:Wf l):∀ o∈l,∀ i∈told o,rk l i < rk l o.id:=by
 induction h with
 |nil=>intro o ho;cases ho
 |@snoc l p hw ht hn h1 ih=>
  intro o ho i hi;have hor:o.id≠ROOT:=(Wf.snoc hw ht hn h1).zq o ho;rcases aoF.mp ho with ho|ho
  ·have hx:=ih o ho i hi;unfold rk at hx ⊢;rw[acK hor] at hx ⊢;rw[oG (asC ho)];by_cases hir:i=ROOT
   ·rw[afO hir];omega
   ·rw[acK hir] at hx ⊢;have him:i∈l.map Op.id:=by
     have hl:=asO (p:=fun p:Op=>p.id == o.id) (xs:=l) ⟨o,ho,by simp⟩;have hl2:l.findIdx (fun o=>o.id == i) < l.length:=by omega
     obtain⟨q,hq,e⟩:=List.findIdx_lt_length.mp hl2;exact List.mem_map.mpr ⟨q,hq,by simpa using e⟩
    rw[oG him];exact hx
  ·simp at ho;subst ho;have e2:(l++[o]).findIdx (fun p=>p.id == o.id)=l.length:=by
    rw[List.findIdx_append,acK]
    ·simp
    ·intro hl;obtain⟨q,hq,e⟩:=List.findIdx_lt_length.mp hl;exact hn (List.mem_map.mpr ⟨q,hq,by simpa using e⟩)
   unfold rk;rw[acK hor,e2];by_cases hir:i=ROOT
   ·rw[afO hir];omega
   ·rw[acK hir];have him:=(ht i hi).resolve_left hir;rw[oG him];obtain⟨q,hq,e⟩:=aou.mp him;have:=asO (p:=fun p:Op=>p.id == i) (xs:=l) ⟨q,hq,by simp[e]⟩;omega
theorem acL(o:Op):o.obj∈told o:=ajM
theorem N8{l:List Op}(h:Wf l){o:Op}(ho:o∈l):rk l o.obj < rk l o.id:=ZV h o ho _ (acL o)
theorem wm{o p:Op}:∀ {l:List Op},p∈firstGreat o l↔p=o∨p∈l
 |[]=>by simp[firstGreat]
 |x::r=>by
  unfold firstGreat;split
  ·simp
  ·simp[wm (l:=r)];constructor
   ·rintro(h|h|h) <;> simp[h]
   ·rintro(h|h|h) <;> simp[h]
theorem uL{p:Op}:∀ {l a:List Op},p∈l.foldl (fun a o=>firstGreat o a) a↔p∈l∨p∈a
 |[],a=>by simp
 |x::r,a=>by
  rw[asI,uL (l:=r),wm];simp;constructor
  ·rintro(h|h|h) <;> simp[h]
  ·rintro((h|h)|h) <;> simp[h]
def gv(obj i:Id)(o:Op):Bool:=o.obj == obj && (match o.act with|.insert b _=>b == i|_=>false)
theorem Ep(l:List Op)(obj i:Id):children l obj i=(l.filter (gv obj i)).foldl (fun a o=>firstGreat o a) []:=rfl
theorem be{l:List Op}{obj i:Id}{p:Op}:p∈children l obj i↔p∈l∧gv obj i p=true:=by
 rw[Ep,uL];simp
theorem Ja{obj i:Id}{o:Op}(h:gv obj i o=true):i∈told o:=by
 unfold gv at h;unfold told;cases o with
 |mk r n t ob act=>
  cases act <;> simp at h ⊢;exact .inr h.2.symm
theorem wk{obj i:Id}{o:Op}(h:gv obj i o=true):o.obj=obj:=by
 unfold gv at h;simp at h;exact h.1
theorem Er{l:List Op}(h:Wf l){obj i:Id}{p:Op}(hp:p∈children l obj i):rk l i < rk l p.id:=by
 obtain⟨h1,h2⟩:=be.mp hp;exact ZV h p h1 i (Ja h2)
theorem wo{α β:Type}{f g:α→List β}:∀ {l:List α},(∀ a∈l,f a=g a)→l.flatMap f=l.flatMap g
 |[],_=>rfl
 |a::l,h=>by
  rw[asV,asV,h a ajM,wo fun b hb=>h b (aiy _ hb)]
theorem Qz{l:List Op}(h:Wf l)(obj:Id):∀ (f:Nat) (i:Id),l.length < f+rk l i→behind l obj f i=behind l obj (f+1) i
 |0,i,hf=>by
  show []=(children l obj i).flatMap _;cases hc:children l obj i with
  |nil=>rfl
  |cons p r=>
   have h1:=Er h (show p∈children l obj i by rw[hc];exact ajM);have h2:=ala (be.mp (show p∈children l obj i by rw[hc];exact ajM)).1;omega
 |f+1,i,hf=>by
  show(children l obj i).flatMap (fun o=>o::behind l obj f o.id)=(children l obj i).flatMap (fun o=>o::behind l obj (f+1) o.id);refine wo fun p hp=>?_;have h1:=Er h hp;rw[Qz h obj f p.id (by omega)]
def B(l:List Op)(obj i:Id):List Op:=behind l obj (l.length+1) i
theorem anu{l:List Op}(h:Wf l)(obj i:Id):B l obj i=(children l obj i).flatMap fun o=>o::B l obj o.id:=by
 show(children l obj i).flatMap (fun o=>o::behind l obj l.length o.id)=_;refine wo fun p hp=>?_;have h1:=Er h hp;rw[Qz h obj l.length p.id (by omega)];rfl
theorem afP(l:List Op)(obj:Id):elements l obj=B l obj ROOT:=rfl
def un(l:List Op)(obj:Id)(st:List Op):List Op:=st.reverse.flatMap fun o=>o::B l obj o.id
theorem anv{l:List Op}(h:Wf l)(obj:Id)(st:List Op)(e:Op):un l obj (st++[e])=e::un l obj (st++(children l obj e.id).reverse):=by
 unfold un;rw[aty,aty,List.reverse_reverse,List.reverse_singleton,atk,atk,← anu h];simp
theorem alb{l:List Op}(h:Wf l)(obj:Id):un l obj (children l obj ROOT).reverse=elements l obj:=by
 unfold un;rw[List.reverse_reverse,← anu h,afP]
theorem Bv{l:List Op}{o:Op}(h:latest l=some o):o∈l:=by
 unfold latest at h;have all:∀ (l:List Op) (m:Option Op) (o:Op),l.foldl (fun(m:Option Op) (o:Op)=>match m with
   |none=>some o
   |some p=>if less p.id o.id=true then some o else some p) m=some o→o∈l∨m=some o:=by
  intro l;induction l with
  |nil=>intro m o h;exact .inr h
  |cons x r ih=>
   intro m o h;rw[asI] at h;rcases ih _ _ h with h|h
   ·exact .inl (aiy _ h)
   ·cases m with
    |none=>
     simp at h;exact .inl (by rw[h];exact ajM)
    |some p=>
     simp only at h;split at h
     ·cases h;exact .inl ajM
     ·exact .inr h
 rcases all l none o h with h|h
 ·exact h
 ·cases h
theorem entry_mem{l:List Op}{i:Id}{k:Bytes}{o:Op}(h:entry l i k=some o):o∈l∧o.obj=i:=by
 have h1:=Bv h;unfold setsOf at h1;rw[ao9] at h1;obtain⟨h2,h3⟩:=h1;simp at h3;exact⟨h2,h3.1⟩
theorem alc{l:List Op}{obj:Id}:∀ {f:Nat} {i:Id} {o:Op},o∈behind l obj f i→o∈l∧o.obj=obj
 |0,i,o,h=>by cases h
 |f+1,i,o,h=>by
  obtain⟨p,hp,h⟩:=arF.mp (show o∈(children l obj i).flatMap (fun o=>o::behind l obj f o.id) from h);rcases akS.mp h with h|h
  ·subst h;obtain⟨h1,h2⟩:=be.mp hp;exact⟨h1,wk h2⟩
  ·exact alc h
theorem mR{l:List Op}{obj:Id}{o:Op}(h:o∈seen l obj):o∈l∧o.obj=obj:=alc (ao9.mp h).1
theorem kH{l:List Op}{obj:Id}{e:Op}(he:e∈l∧e.obj=obj):valueOf l obj e∈l∧(valueOf l obj e).obj=obj:=by
 unfold valueOf;cases h:latest (e::l.filter fun p=>p.obj == obj && (match p.act with
  |.put e' _=>e' == e.id
  |_=>false)) with
 |none=>exact he
 |some p=>
  rcases akS.mp (Bv h) with q|q
  ·subst q;exact he
  ·rw[ao9] at q;obtain⟨h2,h3⟩:=q;simp at h3;exact⟨h2,h3.1⟩
theorem N9{l:List Op}(h:Wf l):∀ (f:Nat) (i:Id) (v:Val),l.length+1 < f+rk l i→tell l f i v=tell l (f+1) i v
 |0,i,v,hf=>by
  have:=aqA (l:=l) (i:=i);omega
 |f+1,i,v,hf=>by
  cases v with
  |nothing=>rfl
  |int z=>rfl
  |text b=>rfl
  |counter=>rfl
  |map=>
   show 123::(commas ((keys l i).map fun k=>quoted k++(58::(match entry l i k with|some o=>tell l f o.id ((madeBy o).getD .nothing)|none=>[])))++[125])=123::(commas ((keys l i).map fun k=>quoted k++(58::(match entry l i k with|some o=>tell l (f+1) o.id ((madeBy o).getD .nothing)|none=>[])))++[125]);congr 3;refine aqh fun k _=>?_;cases he:entry l i k with
   |none=>rfl
   |some o=>
    obtain⟨h1,h2⟩:=entry_mem he;have h3:=N8 h h1;rw[h2] at h3;simp only;rw[N9 h f o.id _ (by omega)]
  |list=>
   show 91::(commas ((seen l i).map fun e=>tell l f (valueOf l i e).id ((madeBy (valueOf l i e)).getD .nothing))++[93])=91::(commas ((seen l i).map fun e=>tell l (f+1) (valueOf l i e).id ((madeBy (valueOf l i e)).getD .nothing))++[93]);congr 3;refine aqh fun e he=>?_;obtain⟨h1,h2⟩:=kH (mR he);have h3:=N8 h h1;rw[h2] at h3;exact N9 h f _ _ (by omega)
def TL(l:List Op)(i:Id)(v:Val):Bytes:=tell l (l.length+2) i v
def TLo(l:List Op)(o:Op):Bytes:=TL l o.id ((madeBy o).getD .nothing)
theorem aio{l:List Op}(h:Wf l){o:Op}(ho:o∈l)(v:Val):tell l (l.length+1) o.id v=TL l o.id v:=by
 have h3:=N8 h ho;exact N9 h (l.length+1) _ _ (by omega)
theorem aoY{l:List Op}(h:Wf l)(i:Id):TL l i .map=123::(commas ((keys l i).map fun k=>quoted k++(58::(match entry l i k with|some o=>TLo l o|none=>[])))++[125]):=by
 show 123::(commas ((keys l i).map fun k=>quoted k++(58::(match entry l i k with|some o=>tell l (l.length+1) o.id ((madeBy o).getD .nothing)|none=>[])))++[125])=_;congr 3;refine aqh fun k _=>?_;cases he:entry l i k with
 |none=>rfl
 |some o=>
  simp only;rw[aio h (entry_mem he).1];rfl
theorem anw{l:List Op}(h:Wf l)(i:Id):TL l i .list=91::(commas ((seen l i).map fun e=>TLo l (valueOf l i e))++[93]):=by
 show 91::(commas ((seen l i).map fun e=>tell l (l.length+1) (valueOf l i e).id ((madeBy (valueOf l i e)).getD .nothing))++[93])=_;congr 3;refine aqh fun e he=>?_;exact aio h (kH (mR he)).1 _
theorem QA(l:List Op):document l=TL l ROOT .map:=rfl
end M
namespace M
open Sa76
def Xq(i:Id):Prop:=i.1 < 2 ^ 32∧i.2 < 256
def vm(b:Bytes):Prop:=∀ c∈b,c < 256
def CJ:Val→Prop
 |.int z=>-(2 ^ 63)≤z∧z < 2 ^ 63
 |.text b=>b.length≤64∧vm b
 |_=>True
def acM:Act→Prop
 |.set k v=>1≤k.length∧k.length≤32∧vm k∧CJ v
 |.insert b v=>Xq b∧CJ v∧v≠.nothing
 |.put e v=>Xq e∧CJ v∧v≠.nothing
 |.remove e=>Xq e
 |.add d=>-(2 ^ 63)≤d∧d < 2 ^ 63
structure oS(o:Op):Prop where
 r:o.r < 8
 n1:1≤o.n
 n2:o.n < 2 ^ 32
 t1:1≤o.t
 t2:o.t < 2 ^ 32
 obj:Xq o.obj
 act:acM o.act
theorem oS.id{o:Op}(h:oS o):Xq o.id:=⟨h.t2,Nat.lt_trans h.r (by decide)⟩
structure Good(s:St):Prop where
 me:s.me < 8
 wf:Wf s.log
 log:∀ o∈s.log,oS o
 waits:∀ o∈s.waits,oS o
 Rv:s.log.length≤4096
 aqB:s.waits.length≤256
theorem afQ{k:Nat}(h:k < 8):Good (begun k):=⟨h,.nil,(fun _ h=>nomatch h),(fun _ h=>nomatch h),(by show 0≤4096;omega),(by show 0≤256;omega)⟩
theorem KS:∀ (l:List Nat) (a:Nat),a≤l.foldl max a
 |[],a=>aiM a
 |x::r,a=>ao0 (Nat.le_max_left a x) (KS r (max a x))
theorem tK:∀ {l:List Nat} {a x:Nat},x∈l→x≤l.foldl max a
 |y::r,a,x,h=>by
  rw[asI];rcases akS.mp h with h|h
  ·subst h;exact ao0 (Nat.le_max_right a x) (KS r _)
  ·exact tK h
theorem Bw:∀ {l:List Nat} {a b:Nat},a < b→(∀ x∈l,x < b)→l.foldl max a < b
 |[],a,b,h,_=>h
 |y::r,a,b,h,hl=>by
  rw[asI];exact Bw (Nat.max_lt.mpr ⟨h,hl y ajM⟩) fun x hx=>hl x (aiy _ hx)
theorem acN{s:St}{o:Op}(h:o∈s.log):o.t≤clock s:=tK (asC h)
theorem afR(s:St)(o:Op)(w:List Op):clock { s with log:=s.log++[o],waits:=w }=max (clock s) o.t:=by
 unfold clock;simp
theorem acO(s:St)(o:Op)(w:List Op)(r:Nat):had { s with log:=s.log++[o],waits:=w } r=had s r+if o.r=r then 1 else 0:=by
 unfold had;simp only[ass,ada];congr 1;by_cases e:o.r=r
 ·simp[e]
 ·simp[e]
theorem aoZ(s:St)(r:Nat):had s r≤s.log.length:=aq9 _ _
theorem Yv{s:St}(h:Good s){o:Op}{w:List Op}(ho:oS o)(hk:∀ i∈told o,i=ROOT∨i∈s.log.map Op.id)(hn:o.id∉s.log.map Op.id)(hl:s.log.length < 4096)(hw:∀ p∈w,p∈s.waits)(hwl:w.length≤256) :
  Good { s with log:=s.log++[o],waits:=w }:=by
 refine⟨h.me,.snoc h.wf hk hn ho.t1,fun p hp=>?_,fun p hp=>h.waits p (hw p hp),?_,hwl⟩
 ·rcases aoF.mp hp with hp|hp
  ·exact h.log p hp
  ·simp at hp;subst hp;exact ho
 ·show(s.log++[o]).length≤4096;rw[ada,ar1];omega
theorem ajd{s:St}{i:Id}:known s i=true↔i=ROOT∨i∈s.log.map Op.id:=by
 unfold known;simp
theorem Yw{s:St}{o:Op}(h:ready s o=true):(∀ i∈told o,i=ROOT∨i∈s.log.map Op.id)∧o.id∉s.log.map Op.id:=by
 unfold ready at h;rw[anr,anr] at h;obtain⟨_,h2,h3⟩:=h;rw[asP] at h2 h3;refine⟨fun i hi=>ajd.mp (h3 i hi),fun hm=>?_⟩;obtain⟨p,hp,e⟩:=aou.mp hm;have h4:=h2 p hp;have e1:p.t=o.t:=arD Prod.fst e;have e2:p.r=o.r:=arD Prod.snd e;rw[e1,e2] at h4;simp at h4
def next(s:St):Option Op:=if OPS≤s.log.length then none else s.waits.find? (ready s)
def Xr(s:St)(o:Op):St:={ s with log:=s.log++[o],waits:=s.waits.filter fun p=>!(p.r == o.r && p.n == o.n) }
theorem Oa(f:Nat)(s:St):settle (f+1) s=match next s with|some o=>settle f (Xr s o)|none=>s:=rfl
theorem Td{s:St}{o:Op}(h:next s=some o):o∈s.waits∧ready s o=true∧s.log.length < 4096:=by
 unfold next at h
 split at h
 ·cases h
 ·rename_i hl;refine⟨List.mem_of_find?_eq_some h,List.find?_some h,?_⟩;unfold OPS at hl;omega
theorem filter_lt{α:Type}{p:α→Bool}:∀ {l:List α} {a:α},a∈l→p a=false→(l.filter p).length < l.length
 |x::r,a,h,hp=>by
  rw[arX];rcases akS.mp h with h|h
  ·subst h;rw[hp];simp only[asD,atd,ajk];have:=aq9 p r;omega
  ·have ih:=filter_lt h hp;split
   ·rw[ajk,ajk];omega
   ·rw[ajk];omega
theorem sG{s:St}{o:Op}(h:next s=some o):(Xr s o).waits.length < s.waits.length:=filter_lt (Td h).1 (by simp)
theorem Ob{s:St}(g:Good s){o:Op}(h:next s=some o):Good (Xr s o):=by
 obtain⟨h1,h2,h3⟩:=Td h;obtain⟨h4,h5⟩:=Yw h2;refine Yv g (g.waits o h1) h4 h5 h3 (fun p hp=>(ao9.mp hp).1) ?_;exact ao0 (aq9 _ _) g.aqB
theorem Ig:∀ (f:Nat) (s:St),s.waits.length < f→settle f s=settle (f+1) s
 |0,s,h=>by omega
 |f+1,s,h=>by
  rw[Oa,Oa];cases e:next s with
  |none=>rfl
  |some o=>
   have:=sG e;exact Ig f _ (by omega)
theorem Te{s:St}:∀ (f g:Nat),s.waits.length < f→f≤g→settle f s=settle g s
 |f,g,h,hg=>by
  induction g with
  |zero=>omega
  |succ g ih=>
   by_cases e:f=g+1
   ·rw[e]
   ·rw[ih (by omega),Ig g s (by omega)]
def fin(s:St):St:=settle (s.waits.length+1) s
theorem Oc(s:St):fin s=match next s with|some o=>fin (Xr s o)|none=>s:=by
 unfold fin;rw[Oa];cases e:next s with
 |none=>rfl
 |some o=>
  have:=sG e;exact(Te _ _ (by omega) (by omega)).symm
theorem afS{s:St}{f:Nat}(h:s.waits.length < f):settle f s=fin s:=(Te _ _ (by omega) (by omega)).symm
theorem acP:∀ (n:Nat) {s:St},s.waits.length≤n→Good s→Good (fin s)
 |n,s,hn,g=>by
  rw[Oc];cases e:next s with
  |none=>exact g
  |some o=>
   have h1:=sG e
   match n,hn with
   |0,hn=>omega
   |n+1,hn=>exact acP n (by omega) (Ob g e)
def out(s:St)(o:Op):Prop:=o.r=s.me∨o.n≤had s o.r∨(s.waits.any fun p=>p.r == o.r && p.n == o.n)=true∨WAITS≤s.waits.length
instance (s:St) (o:Op):Decidable (out s o):=by unfold out;infer_instance
theorem SA(s:St)(o:Op):come s o=if out s o then s else fin { s with waits:=s.waits++[o] }:=by
 show(if out s o then s else settle (s.waits.length+2) { s with waits:=s.waits++[o] })=_;split
 ·rfl
 ·exact afS (by simp)
theorem aje{s:St}(g:Good s){o:Op}(ho:oS o):Good (come s o):=by
 rw[SA];split
 ·exact g
 ·rename_i h;have hw:s.waits.length < 256:=by
   unfold out WAITS at h;simp only[not_or] at h;omega
  refine acP _ (aiM _) ⟨g.me,g.wf,g.log,fun p hp=>?_,g.Rv,?_⟩
  ·rcases aoF.mp hp with hp|hp
   ·exact g.waits p hp
   ·simp at hp;subst hp;exact ho
  ·show(s.waits++[o]).length≤256;rw[ada,ar1];omega
theorem Yx:∀ (n:Nat) (s:St),s.waits.length≤n→s.log.length≤(fin s).log.length∧(fin s).me=s.me
 |n,s,hn=>by
  rw[Oc];cases e:next s with
  |none=>exact⟨aiM _,rfl⟩
  |some o=>
   have h1:=sG e
   match n,hn with
   |0,hn=>omega
   |n+1,hn=>
    have ih:=Yx n (Xr s o) (by omega);have e2:(Xr s o).log.length=s.log.length+1:=by
     show(s.log++[o]).length=_;simp
    exact⟨by show s.log.length≤(fin (Xr s o)).log.length;omega,ih.2⟩
theorem ZW{s:St}{obj:Id}{x:Act}:doIt s obj x=if 4096≤s.log.length∨2 ^ 32 - 1≤clock s then none else some ({ s with log:=s.log++[⟨s.me,had s s.me+1,clock s+1,obj,x⟩] },(clock s+1,s.me)):=rfl
theorem ajf{s t:St}{obj i:Id}{x:Act}(g:Good s)(hobj:Xq obj)(hx:acM x)(hk:∀ i∈told ⟨s.me,had s s.me+1,clock s+1,obj,x⟩,i=ROOT∨i∈s.log.map Op.id)(h:doIt s obj x=some (t,i)):Good t:=by
 rw[ZW] at h;split at h
 ·cases h
 ·rename_i hc;simp only[not_or,Nat.not_le] at hc;cases h;have hl:=aoZ s s.me;refine Yv (w:=s.waits) g ⟨g.me,Nat.le_add_left _ _,by show had s s.me+1 < 2 ^ 32;omega,Nat.le_add_left _ _,by show clock s+1 < 2 ^ 32;omega,hobj,hx⟩ hk (fun hm=>?_) hc.1 (fun _ h=>h) g.aqB;obtain⟨p,hp,e⟩:=aou.mp hm;have h1:=acN hp;have e1:p.t=clock s+1:=arD Prod.fst e;omega
theorem QB(l:List Op):kindOf l ROOT=some .map:=afO rfl
theorem ir{l:List Op}{i:Id}{v:Val}(h:kindOf l i=some v):i=ROOT∨i∈l.map Op.id:=by
 unfold kindOf at h;by_cases e:i=ROOT
 ·exact .inl e
 ·rw[acK e] at h;cases hf:l.find? fun o=>o.id == i with
  |none=>rw[hf] at h;cases h
  |some o=>
   exact .inr (List.mem_map.mpr ⟨o,List.mem_of_find?_eq_some hf,by simpa using List.find?_some hf⟩)
def Bx(o:Op):Option Val:=(madeBy o).bind fun v=>if isObject v=true then some v else none
theorem acQ{l:List Op}{o:Op}(h:Wf (l++[o]))(i:Id):kindOf (l++[o]) i=if i=o.id then Bx o else kindOf l i:=by
 have hn:o.id∉l.map Op.id:=by
  have:=h.nodup;rw[ak9,atN] at this;intro hm;exact this.2.2 _ hm _ (by simp) rfl
 have hr:o.id≠ROOT:=h.zq o (by simp);unfold kindOf;by_cases e:i=o.id
 ·rw[afO e,e,acK hr];have:(l++[o]).find? (fun p=>p.id == o.id)=some o:=by
   rw[List.find?_append];have:l.find? (fun p=>p.id == o.id)=none:=by
    rw[List.find?_eq_none];intro p hp hq;exact hn (List.mem_map.mpr ⟨p,hp,by simpa using hq⟩)
   rw[this];simp
  rw[this];rfl
 ·rw[acK e];by_cases e2:i=ROOT
  ·rw[afO e2,afO e2]
  ·rw[acK e2,acK e2];congr 2;rw[List.find?_append];have:[o].find? (fun p=>p.id == i)=none:=by
    simp;exact fun q=>e q.symm
   rw[this];simp
end M
namespace M
open Sa76
theorem Tf{a b:Id}:less a b=true↔a.1 < b.1∨(a.1=b.1∧a.2 < b.2):=by
 unfold less;simp
theorem QC(a:Id):less a a=false:=by
 cases h:less a a with
 |false=>rfl
 |true=>rw[Tf] at h;omega
theorem Th{a b c:Id}(h1:less a b=true)(h2:less b c=true):less a c=true:=by
 rw[Tf] at *;omega
theorem Ti{a b:Id}(h1:less a b=false)(h2:less b a=false):a=b:=by
 have h3:¬ less a b=true:=by rw[h1];simp
 have h4:¬ less b a=true:=by rw[h2];simp
 rw[Tf] at h3 h4;obtain⟨x,y⟩:=a;obtain⟨z,w⟩:=b;simp only[not_or,not_and,Nat.not_lt] at h3 h4;have e1:x=z:=by omega
 subst e1;have e2:y=w:=by
  have:=h3.2 rfl;have:=h4.2 rfl;omega
 subst e2;rfl
theorem afT{a b:Id}(h:less a b=true):less b a=false:=by
 cases h2:less b a with
 |false=>rfl
 |true=>
  have:=Th h h2;rw[QC] at this;cases this
def ajg(l:List Op):Prop:=l.Pairwise fun x y=>less y.id x.id=true
theorem CK{o:Op}:∀ {l:List Op},ajg l→(∀ p∈l,p.id≠o.id)→ajg (firstGreat o l)
 |[],_,_=>by simp[firstGreat,ajg]
 |x::r,h,hn=>by
  unfold firstGreat;obtain⟨h1,h2⟩:=as4.mp h;split
  ·rename_i hl;refine as4.mpr ⟨fun y hy=>?_,h⟩;rcases akS.mp hy with hy|hy
   ·subst hy;exact hl
   ·exact Th (h1 y hy) hl
  ·rename_i hl;refine as4.mpr ⟨fun y hy=>?_,CK h2 fun p hp=>hn p (aiy _ hp)⟩;rcases wm.mp hy with hy|hy
   ·subst hy;cases h3:less y.id x.id with
    |true=>rfl
    |false=>exact absurd (Ti (by simpa using hl) h3) (hn x List.mem_cons_self)
   ·exact h1 y hy
theorem iE(l:List Op)(o:Op)(obj i:Id):children (l++[o]) obj i=if gv obj i o=true then firstGreat o (children l obj i) else children l obj i:=by
 rw[Ep,Ep,ass,atO];by_cases h:gv obj i o=true
 ·rw[afO h];simp[h]
 ·rw[acK h];simp[h]
theorem zu{l:List Op}(h:Wf l)(obj i:Id):ajg (children l obj i):=by
 induction h with
 |nil=>exact List.Pairwise.nil
 |@snoc l o hw ht hn h1 ih=>
  rw[iE];split
  ·refine CK ih fun p hp e=>hn ?_;rw[← e];exact asC (be.mp hp).1
  ·exact ih
theorem CL(o:Op):∀ (l:List Op),(firstGreat o l).Perm (o::l)
 |[]=>.refl _
 |x::r=>by
  unfold firstGreat;split
  ·exact .refl _
  ·exact((CL o r).cons x).trans (.swap _ _ _)
inductive Ih (l:List Op) (obj i:Id):Op→Prop
 |base {p:Op}:p∈children l obj i→Ih l obj i p
 |step {p q:Op}:Ih l obj i q→p∈children l obj q.id→Ih l obj i p
theorem Ih.lift{l:List Op}{obj i:Id}{c p:Op}(hc:c∈children l obj i)(h:Ih l obj c.id p):Ih l obj i p:=by
 induction h with
 |base hp=>exact .step (.base hc) hp
 |step _ hp ih=>exact .step ih hp
theorem Ii{l:List Op}{obj:Id}:∀ {f:Nat} {i:Id} {p:Op},p∈behind l obj f i→Ih l obj i p
 |0,_,_,h=>by cases h
 |f+1,i,p,h=>by
  obtain⟨c,hc,h⟩:=arF.mp (show p∈(children l obj i).flatMap (fun o=>o::behind l obj f o.id) from h);rcases akS.mp h with h|h
  ·subst h;exact .base hc
  ·exact(Ii h).lift hc
theorem aip{l:List Op}(h:Wf l){obj i:Id}{p:Op}(hp:p∈children l obj i):p∈B l obj i:=by
 rw[anu h];exact arF.mpr ⟨p,hp,ajM⟩
theorem aiq{l:List Op}(h:Wf l){obj:Id}:∀ {f:Nat} {i:Id} {q p:Op},q∈behind l obj f i→p∈B l obj q.id→p∈B l obj i
 |0,_,_,_,hq,_=>by cases hq
 |f+1,i,q,p,hq,hp=>by
  obtain⟨c,hc,hq⟩:=arF.mp (show q∈(children l obj i).flatMap (fun o=>o::behind l obj f o.id) from hq);rw[anu h];refine arF.mpr ⟨c,hc,?_⟩;rcases akS.mp hq with e|hq
  ·subst e;exact aiy _ hp
  ·exact aiy _ (aiq h hq hp)
theorem aqC{l:List Op}(h:Wf l){obj i:Id}{p:Op}:p∈B l obj i↔Ih l obj i p:=by
 refine⟨Ii,fun r=>?_⟩;induction r with
 |base hp=>exact aip h hp
 |step _ hp ih=>exact aiq h ih (aip h hp)
def El(l:List Op)(obj e:Id):Prop:=e=ROOT∨∃ p,Ih l obj ROOT p∧p.id=e
theorem tL{l:List Op}{obj i:Id}{p:Op}(h:Ih l obj i p):p∈l∧∃ b,gv obj b p=true:=by
 cases h with
 |base h=>exact⟨(be.mp h).1,_,(be.mp h).2⟩
 |step _ h=>exact⟨(be.mp h).1,_,(be.mp h).2⟩
theorem acR{l:List Op}{obj e:Id}(h:El l obj e):e=ROOT∨e∈l.map Op.id:=by
 rcases h with h|⟨p,hp,e⟩
 ·exact .inl h
 ·exact .inr (aou.mpr ⟨p,(tL hp).1,e⟩)
theorem ajh{obj b c:Id}{o:Op}(h1:gv obj b o=true)(h2:gv obj c o=true):b=c:=by
 unfold gv at h1 h2;cases o with
 |mk r n t ob act=>
  cases act <;> simp at h1 h2;exact h1.2.symm.trans h2.2
theorem Es{l:List Op}(h:Wf l){p q:Op}(hp:p∈l)(hq:q∈l)(e:p.id=q.id):p=q:=by
 have hn:=h.nodup;induction l with
 |nil=>cases hp
 |cons x r ih=>
  clear h;have ind:∀ (l:List Op),(l.map Op.id).Nodup→∀ p q,p∈l→q∈l→p.id=q.id→p=q:=by
   intro l;induction l with
   |nil=>intro _ p q hp;cases hp
   |cons x r ih=>
    intro hn p q hp hq e;rw[ajR,arA] at hn;rcases akS.mp hp with h1|h1
    ·rcases akS.mp hq with h2|h2
     ·rw[h1,h2]
     ·exact absurd (aou.mpr ⟨q,h2,by rw[← e,h1]⟩) hn.1
    ·rcases akS.mp hq with h2|h2
     ·exact absurd (aou.mpr ⟨p,h1,by rw[e,h2]⟩) hn.1
     ·exact ih hn.2 p q h1 h2 e
  exact ind _ hn p q hp hq e
theorem Tj{l:List Op}{o:Op}{obj i:Id}{p:Op}(h:Ih l obj i p):Ih (l++[o]) obj i p:=by
 induction h with
 |base hp=>
  obtain⟨h1,h2⟩:=be.mp hp;exact .base (be.mpr ⟨aoI _ h1,h2⟩)
 |step _ hp ih=>
  obtain⟨h1,h2⟩:=be.mp hp;exact .step ih (be.mpr ⟨aoI _ h1,h2⟩)
theorem KU{l:List Op}{o:Op}(h:Wf (l++[o])){obj e:Id}:El (l++[o]) obj e↔El l obj e∨(e=o.id∧∃ b,gv obj b o=true∧El l obj b):=by
 have hw:Wf l∧(∀ i∈told o,i=ROOT∨i∈l.map Op.id)∧o.id∉l.map Op.id:=by
  generalize e:l++[o]=m at h;cases h with
  |nil=>simp at e
  |snoc hw ht hn h1=>
   obtain⟨e1,e2⟩:=List.append_inj' e rfl;simp at e2;subst e1 e2;exact⟨hw,ht,hn⟩
 have fwd:∀ p,Ih (l++[o]) obj ROOT p→(p∈l∧Ih l obj ROOT p)∨(p=o∧∃ b,gv obj b o=true∧El l obj b):=by
  intro p hp;induction hp with
  |@base p hp=>
   obtain⟨h1,h2⟩:=be.mp hp;rcases aoF.mp h1 with h1|h1
   ·exact .inl ⟨h1,.base (be.mpr ⟨h1,h2⟩)⟩
   ·simp at h1;subst h1;exact .inr ⟨rfl,ROOT,h2,.inl rfl⟩
  |@step p q hq hp ih=>
   obtain⟨h1,h2⟩:=be.mp hp;rcases ih with⟨h3,h4⟩|⟨h3,_⟩
   ·rcases aoF.mp h1 with h1|h1
    ·exact .inl ⟨h1,.step h4 (be.mpr ⟨h1,h2⟩)⟩
    ·simp at h1;subst h1;exact .inr ⟨rfl,q.id,h2,.inr ⟨q,h4,rfl⟩⟩
   ·subst h3;have hk:=Er h hp;have hb:=ala (l:=l++[q]) h1;have h5:q.id∈told p:=Ja h2;rcases aoF.mp h1 with h1|h1
    ·
     exfalso;have all:∀ (m:List Op),Wf m→∀ p∈m,∀ i∈told p,i=ROOT∨i∈m.map Op.id:=by
      intro m hm;induction hm with
      |nil=>intro p hp;cases hp
      |@snoc m x _ ht _ _ ih=>
       intro p hp i hi;rcases aoF.mp hp with hp|hp
       ·rcases ih p hp i hi with z|z
        ·exact .inl z
        ·exact .inr (by rw[ak9];exact aoI _ z)
       ·simp at hp;subst hp;rcases ht i hi with z|z
        ·exact .inl z
        ·exact .inr (by rw[ak9];exact aoI _ z)
     rcases all l hw.1 p h1 _ h5 with z|z
     ·exact h.zq q (by simp) z
     ·exact hw.2.2 z
    ·simp at h1;subst h1;omega
 constructor
 ·rintro(h1|⟨p,hp,rfl⟩)
  ·exact .inl (.inl h1)
  ·rcases fwd p hp with⟨_,h2⟩|⟨h1,h2⟩
   ·exact .inl (.inr ⟨p,h2,rfl⟩)
   ·exact .inr ⟨by rw[h1],h2⟩
 ·rintro((h1|⟨p,hp,rfl⟩)|⟨rfl,b,hb,hE⟩)
  ·exact .inl h1
  ·exact .inr ⟨p,Tj hp,rfl⟩
  ·refine .inr ⟨o,?_,rfl⟩;rcases hE with e|⟨q,hq,e⟩
   ·subst e;exact .base (be.mpr ⟨by simp,hb⟩)
   ·subst e;exact .step (Tj hq) (be.mpr ⟨by simp,hb⟩)
theorem Wf.inv{l:List Op}{o:Op}(h:Wf (l++[o])):Wf l∧(∀ i∈told o,i=ROOT∨i∈l.map Op.id)∧o.id∉l.map Op.id∧1≤o.t:=by
 generalize e:l++[o]=m at h;cases h with
 |nil=>simp at e
 |snoc hw ht hn h1=>
  obtain⟨e1,e2⟩:=List.append_inj' e rfl;simp at e2;subst e1 e2;exact⟨hw,ht,hn,h1⟩
theorem j7(l:List Op)(o:Op)(obj e:Id):isRemoved (l++[o]) obj e=(isRemoved l obj e || (o.obj == obj && o.act == .remove e)):=by
 unfold isRemoved;simp
theorem QD(l:List Op)(o:Op):latest (l++[o])=match latest l with|none=>some o|some p=>if less p.id o.id=true then some o else some p:=by
 unfold latest;rw[atO];rfl
theorem QE(l:List Op)(o:Op)(obj:Id)(k:Bytes):setsOf (l++[o]) obj k=setsOf l obj k++setsOf [o] obj k:=by
 unfold setsOf;rw[ass]
theorem j8{l:List Op}{o:Op}{obj:Id}{k:Bytes}(h:setsOf [o] obj k=[]):entry (l++[o]) obj k=entry l obj k:=by
 unfold entry;rw[QE,h,apc]
theorem Tn{l:List Op}{o:Op}{obj:Id}{k:Bytes}{v:Val}(h1:o.obj=obj)(h2:o.act=.set k v):entry (l++[o]) obj k=match entry l obj k with|none=>some o|some p=>if less p.id o.id=true then some o else some p:=by
 have e:setsOf [o] obj k=[o]:=by
  unfold setsOf;simp[h1,h2]
 unfold entry;rw[QE,e,QD]
end M
namespace M
open Sa76
theorem aji:natOf []=0:=rfl
theorem By(c:Nat)(b:Bytes):natOf (c::b)=c+256 * natOf b:=rfl
theorem To:∀ {b:Bytes},vm b→natOf b < 256 ^ b.length
 |[],_=>by show 0 < 1;omega
 |c::b,h=>by
  have ih:=To (b:=b) fun x hx=>h x (aiy _ hx);have hc:=h c ajM;rw[By,ajk,Nat.pow_succ];omega
theorem Ac{b:Bytes}(h:vm b)(n:Nat):vm (b.take n):=fun c hc=>h c (List.mem_of_mem_take hc)
theorem iN{b:Bytes}(h:vm b)(n:Nat):vm (b.drop n):=fun c hc=>h c (List.mem_of_mem_drop hc)
theorem ald{b:Bytes}(h:vm b)(n:Nat):b.getD n 0 < 256:=by
 rw[aqx];cases e:b[n]? with
 |none=>show 0 < 256;omega
 |some c=>exact h c (aqt e)
theorem afU{b:Bytes}(h:vm b)(hl:b.length≤4):natOf b < 2 ^ 32:=by
 have h1:=To h;have h2:256 ^ b.length≤256 ^ 4:=Nat.pow_le_pow_right (by omega) hl;have h3:(256:Nat) ^ 4=2 ^ 32:=by decide
 omega
theorem GR{b:Bytes}(h:vm b):Xq (idOf b):=⟨afU (Ac h 4) (by rw[aq8];omega),ald h 4⟩
theorem BA(z:Int):-(2 ^ 63)≤wrap z∧wrap z < 2 ^ 63:=by
 unfold wrap;omega
theorem tV{b:Bytes}{x:Val}(h:vm b)(e:valOf b=some x):CJ x:=by
 unfold valOf at e;split at e
 ·cases e;trivial
 ·cases e;trivial
 ·cases e;trivial
 ·cases e;trivial
 ·split at e
  ·cases e;exact BA _
  ·cases e
 ·rename_i k r;split at e
  ·rename_i hc;cases e;exact⟨by omega,fun c hc=>h c (aiy _ (aiy _ hc))⟩
  ·cases e
 ·cases e
theorem ajj{b:Bytes}{o:Op}(h:vm b)(e:opOf b=some o):oS o:=by
 unfold opOf at e;simp only at e;split at e
 ·cases e
 ·rename_i hc;simp only[not_or,Nat.not_lt,Nat.not_le] at hc;obtain⟨h15,hr,hn,ht⟩:=hc;obtain⟨x,hx,rfl⟩:=aqy.mp e;refine⟨hr,Nat.one_le_iff_ne_zero.mpr hn,afU (Ac (iN h 2) 4) (by rw[aq8];omega),Nat.one_le_iff_ne_zero.mpr ht,afU (Ac (iN h 6) 4) (by rw[aq8];omega),GR (iN h 10),?_⟩;have hq:=iN h 15;generalize hqd:b.drop 15=q at hx hq;clear hqd;split at hx
  ·cases q with
   |nil=>cases hx
   |cons m p=>
    simp only at hx;split at hx
    ·rename_i hm;obtain⟨v,hv,rfl⟩:=aqy.mp hx;have hp:vm p:=fun c hc=>hq c (aiy _ hc);exact⟨by rw[aq8];omega,by rw[aq8];omega,Ac hp m,tV (iN hp m) hv⟩
    ·cases hx
  ·split at hx
   ·split at hx
    ·cases hx
    ·obtain⟨v,hv,rfl⟩:=aqy.mp hx;obtain⟨y,hy,hv⟩:=atM.mp hv;split at hv
     ·cases hv
     ·cases hv;exact⟨GR hq,tV (iN hq 5) hy,by assumption⟩
   ·split at hx
    ·split at hx
     ·cases hx
     ·obtain⟨v,hv,rfl⟩:=aqy.mp hx;obtain⟨y,hy,hv⟩:=atM.mp hv;split at hv
      ·cases hv
      ·cases hv;exact⟨GR hq,tV (iN hq 5) hy,by assumption⟩
    ·split at hx
     ·split at hx
      ·cases hx;exact GR hq
      ·cases hx
     ·split at hx
      ·split at hx
       ·cases hx;exact BA _
       ·cases hx
      ·cases hx
theorem Tp:∀ {f:Nat} {b:Bytes} {l:List Op},vm b→opsOf f b=some l→∀ o∈l,oS o
 |0,b,l,_,e=>by cases e
 |f+1,b,l,h,e=>by
  unfold opsOf at e;split at e
  ·cases e;intro o ho;cases ho
  ·simp only at e;split at e
   ·cases e
   ·obtain⟨x,hx,e⟩:=atM.mp e;obtain⟨r,hr,rfl⟩:=aqy.mp e;intro o ho;rcases akS.mp ho with ho|ho
    ·subst ho;exact ajj (Ac (iN h 2) _) hx
    ·exact Tp (iN h _) hr o ho
theorem eB(n x:Nat):(le n x).length=n:=by simp[le]
theorem Od(n x:Nat):vm (le n x):=fun c hc=>by
 obtain⟨i,_,rfl⟩:=aou.mp hc;exact Nat.mod_lt _ (by omega)
theorem dj(i:Id):(Id.bytes i).length=5:=by simp[Id.bytes,eB]
theorem jm{v:Val}(h:CJ v):v.bytes.length≤66:=by
 cases v with
 |nothing=>simp[Val.bytes]
 |int z=>simp[Val.bytes,eight,eB]
 |text b=>simp only[Val.bytes,ajk];have:=h.1;omega
 |map=>simp[Val.bytes]
 |list=>simp[Val.bytes]
 |counter=>simp[Val.bytes]
theorem wq{o:Op}(h:oS o):o.bytes.length≤114:=by
 have hx:=h.act;cases o with
 |mk r n t ob act=>
  cases act with
  |set k v=>
   obtain⟨_,h2,_,h4⟩:=hx;have:=jm h4;simp[Op.bytes,eB,dj];omega
  |insert b v=>
   obtain⟨_,h4,_⟩:=hx;have:=jm h4;simp[Op.bytes,eB,dj];omega
  |put b v=>
   obtain⟨_,h4,_⟩:=hx;have:=jm h4;simp[Op.bytes,eB,dj];omega
  |remove e=>simp[Op.bytes,eB,dj]
  |add d=>simp[Op.bytes,eB,dj,eight]
theorem Ij{o:Op}(h:oS o):(framed o).length≤116:=by
 have:=wq h;simp[framed,eB];omega
theorem ale(c:List (List Int)):PySa76.whole c=c:=by
 rcases c with _|⟨r,t⟩
 ·rfl
 ·rcases r with _|⟨n,xs⟩
  ·rfl
  ·rcases n with n|n
   ·rcases n with _|_|_|_|_|_|_|_|_|_|_|n
    all_goals first|rfl|(rcases xs with _|⟨a,_|⟨b,_|⟨d,_|⟨e,_|⟨f,_|⟨g,xs⟩⟩⟩⟩⟩⟩ <;> first|rfl|(rcases t with _|⟨s,_|⟨u,_|⟨v,t⟩⟩⟩ <;> rfl))
   ·rfl
theorem alf{l:List Int}{cs:List (List (List Int))}(h:PySa76.calls l=some cs):l=PyFlat.put cs∧∀ c∈cs,PyFlat.okCall PySa76.shape c:=by
 unfold PySa76.calls at h;split at h
 ·cases h
 ·rename_i ds e;cases h;have e2:ds.map PySa76.whole=ds:=by
   rw[aqh fun c _=>ale c];exact List.map_id' ds
  rw[e2];exact PyFlat.put_calls _ _ _ e
def after:Sa76Neutral.S→List Sa76Neutral.Call→Sa76Neutral.S
 |s,[]=>s
 |s,c::r=>after (Sa76Neutral.step s c).1 r
theorem QF:∀ (s:Sa76Neutral.S) (l:List Sa76Neutral.Call) (c:Sa76Neutral.Call),PyFlat.played Sa76Neutral.step s (l++[c])=PyFlat.played Sa76Neutral.step s l++[(Sa76Neutral.step (after s l) c).2]
 |s,[],c=>rfl
 |s,d::l,c=>by
  show(Sa76Neutral.step s d).2::PyFlat.played Sa76Neutral.step (Sa76Neutral.step s d).1 (l++[c])=_;rw[QF];rfl
theorem Tq:∀ (s:Sa76Neutral.S) (l:List Sa76Neutral.Call) (c:Sa76Neutral.Call),after s (l++[c])=(Sa76Neutral.step (after s l) c).1
 |s,[],c=>rfl
 |s,d::l,c=>Tq _ l c
theorem Yy:∀ (s:Sa76Neutral.S) (l r:List Sa76Neutral.Call),Sa76Neutral.total s (l++r)=Sa76Neutral.total s l+Sa76Neutral.total (after s l) r
 |s,[],r=>by
  show _=0+_;rw[Nat.zero_add];rfl
 |s,d::l,r=>by
  show(Sa76Neutral.step s d).2.length+Sa76Neutral.total (Sa76Neutral.step s d).1 (l++r)=(Sa76Neutral.step s d).2.length+Sa76Neutral.total (Sa76Neutral.step s d).1 l+_;rw[Yy,Nat.add_assoc];rfl
theorem Yz(l:List (List Int))(a:List Int):PyFlat.told (l++[a])=PyFlat.told l++((a.length:Int)::a):=by
 unfold PyFlat.told;rw[atk];simp
theorem Tr:∀ (s:Sa76Neutral.S) (l:List Sa76Neutral.Call),(PyFlat.told (PyFlat.played Sa76Neutral.step s l)).length=l.length+Sa76Neutral.total s l
 |s,[]=>rfl
 |s,c::r=>by
  have ih:=Tr (Sa76Neutral.step s c).1 r;show(((Sa76Neutral.step s c).2.length:Int)::(Sa76Neutral.step s c).2++PyFlat.told (PyFlat.played Sa76Neutral.step (Sa76Neutral.step s c).1 r)).length=(r.length+1)+((Sa76Neutral.step s c).2.length+Sa76Neutral.total (Sa76Neutral.step s c).1 r);rw[ada,ih,ajk];omega
structure aqD(l:List Int)(cs:List Sa76Neutral.Call):Prop where
 put:l=PyFlat.put cs
 ok:∀ c∈cs,PyFlat.okCall PySa76.shape c
 ans:PySa76.answers l=PyFlat.told (PyFlat.played Sa76Neutral.step Sa76Neutral.start cs)
 all:∀ c∈cs,Sa76Neutral.asked1 c=true
 Rv:cs.length≤200
 begun:Sa76Neutral.begun [] cs=true
 total:Sa76Neutral.total Sa76Neutral.start cs < 1000000
theorem alg{l:List Int}(h:PySa76.answers_asked l=true):∃ cs,aqD l cs:=by
 unfold PySa76.answers_asked at h;split at h
 ·cases h
 ·rename_i cs e;obtain⟨h1,h2⟩:=alf e;unfold Sa76Neutral.asked at h;simp only[anr,asW,asP] at h;obtain⟨_,h3,_,h4,h5,h6⟩:=h;refine⟨cs,h1,h2,?_,h3,h4,h5,h6⟩;unfold PySa76.answers;rw[e]
end M
namespace M
open Sa76 Sa76Neutral
theorem tW{b:List Int}{n:Int}{c:Bool}(h:bytes b n c=true):(∀ z∈b,0≤z∧z < 256)∧(b.length:Int)=if c=true then n else 0:=by
 unfold bytes at h;rw[anr,asP,asW] at h;refine⟨fun z hz=>?_,h.2⟩;have:=h.1 z hz;unfold natural at this;simp only[anr,asW] at this;exact⟨this.1,by have:=this.2;omega⟩
theorem BB{z:Int}{n:Nat}(h:natural z n=true):0≤z∧z < 2 ^ n:=by
 unfold natural at h;simpa using h
theorem wu{z:Int}(h:whole z 32=true):-2147483648≤z∧z≤2147483647:=by
 unfold whole at h;simp at h;omega
theorem afV{z:Int}(h:whole z 64=true):-(2 ^ 63)≤z∧z < 2 ^ 63:=by
 unfold whole at h;simp at h;omega
theorem cf{o:Int}(h:object o=true):0≤o∧o≤2:=by
 unfold object at h;simpa using h
theorem Ik{t r:Int}(h:Sa76Neutral.id t r=true):(0≤t∧t < 2 ^ 32)∧0≤r∧r < 2 ^ 8:=by
 unfold Sa76Neutral.id at h;rw[anr] at h;exact⟨BB h.1,BB h.2⟩
def okR(b:List Int):Prop:=∀ z∈b,0≤z∧z < 256
inductive Form:Sa76Neutral.Call→Prop
 |begin_ {o k:Int}:0≤o→o≤2→-2147483648≤k→k≤2147483647→Form [[0,o,k]]
 |set {o t r k n:Int} {key v:List Int}:0≤o→o≤2→(0≤t∧t < 2 ^ 32)→(0≤r∧r < 2 ^ 8)→okR key→okR v→
   ((key.length:Int)=if (between k 1 32 && between n 1 66)=true then k else 0)→((v.length:Int)=if (between k 1 32 && between n 1 66)=true then n else 0)→Form [[1,o,t,r,k,n],key,v]
 |insert {o t r z n:Int} {v:List Int}:0≤o→o≤2→(0≤t∧t < 2 ^ 32)→(0≤r∧r < 2 ^ 8)→okR v→((v.length:Int)=if between n 1 66=true then n else 0)→Form [[2,o,t,r,z,n],v]
 |put {o t r z n:Int} {v:List Int}:0≤o→o≤2→(0≤t∧t < 2 ^ 32)→(0≤r∧r < 2 ^ 8)→okR v→((v.length:Int)=if between n 1 66=true then n else 0)→Form [[3,o,t,r,z,n],v]
 |remove {o t r z:Int}:0≤o→o≤2→(0≤t∧t < 2 ^ 32)→(0≤r∧r < 2 ^ 8)→Form [[4,o,t,r,z]]
 |add {o t r d:Int}:0≤o→o≤2→(0≤t∧t < 2 ^ 32)→(0≤r∧r < 2 ^ 8)→(-(2 ^ 63)≤d∧d < 2 ^ 63)→Form [[5,o,t,r,d]]
 |since {o m:Int} {h:List Int}:0≤o→o≤2→(-2147483648≤m∧m≤2147483647)→(∀ z∈h,0≤z∧z < 2 ^ 32)→h.length=8→Form [[6,o,m],h]
 |take {o:Int} {b:List Int}:0≤o→o≤2→okR b→Form [[7,o],b]
 |had {o:Int}:0≤o→o≤2→Form [[8,o]]
 |tell {o m:Int}:0≤o→o≤2→(-2147483648≤m∧m≤2147483647)→Form [[9,o,m]]
 |hand {o p m:Int}:0≤o→o≤2→0≤p→p≤2→(-2147483648≤m∧m≤2147483647)→Form [[10,o,p,m]]
theorem zf0{o k:Int}(h:(object o && whole k 32)=true):Form [[0,o,k]]:=by
 simp only[anr] at h;exact .begin_ (cf h.1).1 (cf h.1).2 (wu h.2).1 (wu h.2).2
theorem zf1{o t r k n:Int}{key:List Int}{v:List Int}(h:(object o && (id t r && (whole k 32 && (whole n 32 && (bytes key k (between k 1 32 && between n 1 66) && bytes v n (between k 1 32 && between n 1 66))))))=true):Form [[1,o,t,r,k,n],key,v]:=by
 simp only[anr] at h;obtain⟨h1,h2,_,_,h5,h6⟩:=h;exact .set (cf h1).1 (cf h1).2 (Ik h2).1 (Ik h2).2 (tW h5).1 (tW h6).1 (tW h5).2 (tW h6).2
theorem zf2{o t r z n:Int}{v:List Int}(h:(object o && (id t r && (whole z 32 && (whole n 32 && bytes v n (between n 1 66)))))=true):Form [[2,o,t,r,z,n],v]:=by
 simp only[anr] at h;obtain⟨h1,h2,_,_,h5⟩:=h;exact .insert (cf h1).1 (cf h1).2 (Ik h2).1 (Ik h2).2 (tW h5).1 (tW h5).2
theorem zf3{o t r z n:Int}{v:List Int}(h:(object o && (id t r && (whole z 32 && (whole n 32 && bytes v n (between n 1 66)))))=true):Form [[3,o,t,r,z,n],v]:=by
 simp only[anr] at h;obtain⟨h1,h2,_,_,h5⟩:=h;exact .put (cf h1).1 (cf h1).2 (Ik h2).1 (Ik h2).2 (tW h5).1 (tW h5).2
theorem zf4{o t r z:Int}(h:(object o && (id t r && whole z 32))=true):Form [[4,o,t,r,z]]:=by
 simp only[anr] at h;obtain⟨h1,h2,_⟩:=h;exact .remove (cf h1).1 (cf h1).2 (Ik h2).1 (Ik h2).2
theorem zf5{o t r d:Int}(h:(object o && (id t r && whole d 64))=true):Form [[5,o,t,r,d]]:=by
 simp only[anr] at h;obtain⟨h1,h2,h3⟩:=h;exact .add (cf h1).1 (cf h1).2 (Ik h2).1 (Ik h2).2 (afV h3)
theorem zf6{o m:Int}{v:List Int}(h:(object o && (whole m 32 && (v.all (fun(z:Int)=>natural z 32) && decide (v.length=8))))=true):Form [[6,o,m],v]:=by
 simp only[anr,asP,asW] at h;obtain⟨h1,h2,h3,h4⟩:=h;exact .since (cf h1).1 (cf h1).2 (wu h2) (fun z hz=>BB (h3 z hz)) h4
theorem zf7{o:Int}{v:List Int}(h:(object o && (v.all (fun(z:Int)=>natural z 8) && decide (v.length≤70000)))=true):Form [[7,o],v]:=by
 simp only[anr,asP] at h;obtain⟨h1,h2,_⟩:=h;exact .take (cf h1).1 (cf h1).2 (fun z hz=>by have:=BB (h2 z hz);exact⟨this.1,by have:=this.2;omega⟩)
theorem zf8{o:Int}(h:(object o)=true):Form [[8,o]]:=by
 exact .had (cf h).1 (cf h).2
theorem zf9{o m:Int}(h:(object o && whole m 32)=true):Form [[9,o,m]]:=by
 simp only[anr] at h;exact .tell (cf h.1).1 (cf h.1).2 (wu h.2)
theorem zf10{o p m:Int}(h:(object o && (object p && whole m 32))=true):Form [[10,o,p,m]]:=by
 simp only[anr] at h;exact .hand (cf h.1).1 (cf h.1).2 (cf h.2.1).1 (cf h.2.1).2 (wu h.2.2)
theorem anx{c:Sa76Neutral.Call}(h:asked1 c=true):Form c:=by
 rcases c with _|⟨r,t⟩
 ·exact absurd h ak7
 ·rcases r with _|⟨n,xs⟩
  ·exact absurd h ak7
  ·rcases n with n|n
   ·rcases n with _|_|_|_|_|_|_|_|_|_|_|n
    all_goals first|exact absurd h ak7|(rcases xs with _|⟨a,_|⟨b,_|⟨d,_|⟨e,_|⟨f,_|⟨g,xs⟩⟩⟩⟩⟩⟩ <;> first|exact absurd h ak7|(rcases t with _|⟨s,_|⟨u,_|⟨v,t⟩⟩⟩ <;> first|exact absurd h ak7|exact zf0 h|exact zf1 h|exact zf2 h|exact zf3 h|exact zf4 h|exact zf5 h|exact zf6 h|exact zf7 h|exact zf8 h|exact zf9 h|exact zf10 h))
   ·exact absurd h ak7
theorem Et{b:List Int}(h:okR b):vm (nats b):=fun c hc=>by
 obtain⟨z,hz,rfl⟩:=aou.mp hc;have:=h z hz;omega
theorem Eu(b:List Int):(nats b).length=b.length:=by simp[nats]
theorem afW{s:St}{obj:Id}{o:Op}(h:o∈seen s.log obj):o.id∈s.log.map Op.id:=asC (mR h).1
theorem KW(s:St)(obj:Id)(n:Nat):before s obj n=ROOT∨before s obj n∈s.log.map Op.id:=by
 unfold before;split
 ·exact .inl rfl
 ·cases e:(seen s.log obj)[n - 1]? with
  |none=>exact .inl rfl
  |some o=>exact .inr (afW (aqt e))
theorem sH{s:St}(g:Good s){i:Id}(h:i=ROOT∨i∈s.log.map Op.id):Xq i:=by
 rcases h with h|h
 ·subst h;exact⟨by decide,by decide⟩
 ·obtain⟨o,ho,rfl⟩:=aou.mp h;exact(g.log o ho).id
end M
namespace M
open Sa76
inductive Via (par:Op→Id) (l:List Op) (c:Op):Op→Prop
 |refl:Via par l c c
 |step {p q:Op}:q∈l→p∈l→Via par l c q→par p=q.id→Via par l c p
section
variable{par:Op→Id}{l:List Op}(hpar:∀ o∈l,rk l (par o) < rk l o.id)
include hpar
theorem ZX{c p:Op}(v:Via par l c p):rk l c.id≤rk l p.id:=by
 induction v with
 |refl=>exact aiM _
 |step hq hp _ e ih=>
  have:=hpar _ hp;rw[e] at this;omega
theorem air(h:Wf l){c d p:Op}{i:Id}(hc:c∈l)(hd:d∈l)(ec:par c=i)(ed:par d=i)(v:Via par l c p)(w:Via par l d p):c=d:=by
 induction v with
 |refl=>
  cases w with
  |refl=>rfl
  |@step _ q hq hp w e=>
   exfalso;have h1:=ZX hpar w;have h2:=hpar _ hd;rw[ed,← ec,e] at h2;omega
 |@step p q hq hp v e ih=>
  cases w with
  |refl=>
   exfalso;have h1:=ZX hpar v;have h2:=hpar _ hc;rw[ec,← ed,e] at h2;omega
  |@step _ q' hq' hp' w e'=>
   have eq:q=q':=Es h hq hq' (e.symm.trans e');subst eq;exact ih w
end
theorem alh{par:Op→Id}{l:List Op}{c k p:Op}(hc:c∈l)(hk:k∈l)(e:par k=c.id)(v:Via par l k p):Via par l c p:=by
 induction v with
 |refl=>exact .step hc hk .refl e
 |step hq hp _ e ih=>exact .step hq hp ih e
def kids(l:List Op)(i:Id):List Op:=l.filter fun o=>o.obj == i
theorem tX{l:List Op}{i:Id}{o:Op}:o∈kids l i↔o∈l∧o.obj=i:=by
 unfold kids;rw[ao9];simp
def D(l:List Op):Nat→Id→List Op
 |0,_=>[]
 |f+1,i=>(kids l i).flatMap fun o=>o::D l f o.id
theorem acS{l:List Op}:∀ {f:Nat} {c p:Op},c∈l→p∈c::D l f c.id→p∈l∧Via Op.obj l c p
 |0,c,p,hc,h=>by
  have:p=c:=by simpa [D] using h
  subst this;exact⟨hc,.refl⟩
 |f+1,c,p,hc,h=>by
  rcases akS.mp h with h|h
  ·subst h;exact⟨hc,.refl⟩
  ·obtain⟨k,hk,h⟩:=arF.mp (show p∈(kids l c.id).flatMap (fun o=>o::D l f o.id) from h);obtain⟨h1,h2⟩:=tX.mp hk;obtain⟨h3,h4⟩:=acS h1 h;exact⟨h3,alh hc h1 h2 h4⟩
theorem Jb{α β:Type}{f:α→List β}:∀ {l:List α},l.Nodup→(∀ a∈l,(f a).Nodup)→(∀ a∈l,∀ b∈l,∀ x,x∈f a→x∈f b→a=b)→(l.flatMap f).Nodup
 |[],_,_,_=>asQ
 |a::l,h,h1,h2=>by
  obtain⟨h3,h4⟩:=arA.mp h;rw[asV,atN];refine⟨h1 a ajM,Jb h4 (fun b hb=>h1 b (aiy _ hb)) (fun b hb c hc=>h2 b (aiy _ hb) c (aiy _ hc)),?_⟩;intro x hx y hy e;subst e;obtain⟨b,hb,hy⟩:=arF.mp hy;have:=h2 a ajM b (aiy _ hb) x hx hy;subst this;exact h3 hb
theorem Wf.nd{l:List Op}(h:Wf l):l.Nodup:=by
 have h1:=h.nodup;clear h;induction l with
 |nil=>exact asQ
 |cons x r ih=>
  rw[ajR,arA] at h1;exact arA.mpr ⟨fun hm=>h1.1 (asC hm),ih h1.2⟩
theorem ais{l:List Op}(h:Wf l):∀ (f:Nat) (i:Id),(D l f i).Nodup
 |0,_=>asQ
 |f+1,i=>by
  refine Jb (h.nd.sublist atl) (fun c hc=>?_) fun c hc d hd x hx hy=>?_
  ·obtain⟨h1,_⟩:=tX.mp hc;refine arA.mpr ⟨fun hm=>?_,ais h f c.id⟩;cases f with
   |zero=>cases hm
   |succ f=>
    obtain⟨k,hk,hm⟩:=arF.mp (show c∈(kids l c.id).flatMap (fun o=>o::D l f o.id) from hm);obtain⟨h3,h4⟩:=tX.mp hk;obtain⟨_,v⟩:=acS h3 hm;have h5:=ZX (fun o ho=>N8 h ho) v;have h6:=N8 h h3;rw[h4] at h6;omega
  ·obtain⟨h1,h2⟩:=tX.mp hc;obtain⟨h3,h4⟩:=tX.mp hd;exact air (fun o ho=>N8 h ho) h h1 h3 h2 h4 (acS h1 hx).2 (acS h3 hy).2
theorem aqE{l:List Op}(h:Wf l)(f:Nat)(i:Id):(D l f i).length≤l.length:=by
 refine(ais h f i).length_le_of_subset fun p hp=>?_;cases f with
 |zero=>cases hp
 |succ f=>
  obtain⟨k,hk,hm⟩:=arF.mp (show p∈(kids l i).flatMap (fun o=>o::D l f o.id) from hp);exact(acS (tX.mp hk).1 hm).1
theorem pZ{z:Int}(h:-(2 ^ 63)≤z∧z < 2 ^ 63):(decimal z).length≤21:=by
 unfold decimal;rw[ada,aah];have h1:(Nat.toDigits 10 z.natAbs).length≤20:=(Nat.length_toDigits_le_iff (by omega) (by omega)).mpr (by omega);split
 ·show 1+_≤21;omega
 ·show 0+_≤21;omega
theorem BC(b:Bytes):(quoted b).length≤2 * b.length+2:=by
 unfold quoted;rw[ajk,ada];have:∀ b:Bytes,(b.flatMap fun c=>if c=34∨c=92 then [92,c] else [c]).length≤2 * b.length:=by
  intro b;induction b with
  |nil=>simp
  |cons c r ih=>
   rw[asV,ada,ajk];split
   ·show 2+_≤_;omega
   ·show 1+_≤_;omega
 have:=this b;simp only[ar1];omega
theorem Jc:∀ (l:List Bytes),(commas l).length≤(l.map fun b=>b.length+1).sum
 |[]=>by simp[commas]
 |[x]=>by simp[commas]
 |x::y::r=>by
  have ih:=Jc (y::r);show(x++(44::commas (y::r))).length≤_;rw[ada,ajk,ajR,asx];omega
theorem afX{α:Type}{f g:α→Nat}:∀ {l:List α},(∀ a∈l,f a≤g a)→(l.map f).sum≤(l.map g).sum
 |[],_=>by simp
 |a::l,h=>by
  have h1:=h a ajM;have h2:=afX (l:=l) fun b hb=>h b (aiy _ hb);rw[ajR,ajR,asx,asx];omega
theorem ZY{α:Type}{g:α→Nat}:∀ {l m:List α},l.Nodup→l ⊆ m→(l.map g).sum≤(m.map g).sum
 |[],m,_,_=>by simp
 |a::l,m,hn,hs=>by
  obtain⟨h1,h2⟩:=arA.mp hn;obtain⟨s,t,rfl⟩:=List.append_of_mem (hs ajM);have h3:l ⊆ s++t:=fun b hb=>by
   have hm:=hs (aiy a hb);rcases aoF.mp hm with h|h
   ·exact aoI _ h
   ·rcases akS.mp h with h|h
    ·subst h;exact absurd hb h1
    ·exact aqP _ h
  have ih:=ZY (g:=g) h2 h3;rw[ak9,List.sum_append] at ih;rw[ajR,asx,ak9,List.sum_append,ajR,asx];omega
theorem BD{α β:Type}{f:α→β}:∀ {l:List α},l.Nodup→(∀ a∈l,∀ b∈l,f a=f b→a=b)→(l.map f).Nodup
 |[],_,_=>asQ
 |a::l,h,hi=>by
  obtain⟨h1,h2⟩:=arA.mp h;rw[ajR,arA];refine⟨fun hm=>?_,BD h2 fun b hb c hc=>hi b (aiy _ hb) c (aiy _ hc)⟩;obtain⟨b,hb,e⟩:=aou.mp hm;have:=hi b (aiy _ hb) a ajM e;subst this;exact h1 hb
theorem Oe{k x:Bytes}:∀ {l:List Bytes},x∈putIn k l↔x=k∨x∈l
 |[]=>by simp[putIn]
 |y::r=>by
  unfold putIn;split
  ·rename_i e;subst e;simp
  ·split
   ·simp
   ·simp[Oe (l:=r)];constructor
    ·rintro(h|h|h) <;> simp[h]
    ·rintro(h|h|h) <;> simp[h]
theorem BE:∀ (b:Bytes),lessBytes b b=false
 |[]=>rfl
 |c::r=>by
  unfold lessBytes;simp[BE r]
theorem Ew:∀ {a b c:Bytes},lessBytes a b=true→lessBytes b c=true→lessBytes a c=true
 |_,[],_,h,_=>by cases ‹Bytes› <;> simp[lessBytes] at h
 |_,_::_,[],_,h=>by simp[lessBytes] at h
 |[],_::_,_::_,_,_=>rfl
 |x::a,y::b,z::c,h1,h2=>by
  unfold lessBytes at h1 h2 ⊢;simp only[Bool.or_eq_true,anr,asW,asR] at h1 h2 ⊢;rcases h1 with h1|⟨e1,h1⟩
  ·rcases h2 with h2|⟨e2,h2⟩
   ·exact .inl (by omega)
   ·exact .inl (by omega)
  ·rcases h2 with h2|⟨e2,h2⟩
   ·exact .inl (by omega)
   ·exact .inr ⟨by omega,Ew h1 h2⟩
theorem Ex:∀ {a b:Bytes},lessBytes a b=false→lessBytes b a=false→a=b
 |[],[],_,_=>rfl
 |[],_::_,h,_=>by simp[lessBytes] at h
 |_::_,[],_,h=>by simp[lessBytes] at h
 |x::a,y::b,h1,h2=>by
  unfold lessBytes at h1 h2;simp only[Bool.or_eq_false_iff,Bool.and_eq_false_iff,decide_eq_false_iff_not,arH] at h1 h2;have e:x=y:=by omega
  subst e;rw[Ex (h1.2.resolve_left (fun z=>z rfl)) (h2.2.resolve_left (fun z=>z rfl))]
def Asc(l:List Bytes):Prop:=l.Pairwise fun x y=>lessBytes x y=true
theorem YA{k:Bytes}:∀ {l:List Bytes},Asc l→Asc (putIn k l)
 |[],_=>by simp[putIn,Asc]
 |y::r,h=>by
  obtain⟨h1,h2⟩:=as4.mp h;unfold putIn;split
  ·exact h
  ·rename_i hne;split
   ·rename_i hl;refine as4.mpr ⟨fun x hx=>?_,h⟩;rcases akS.mp hx with hx|hx
    ·subst hx;exact hl
    ·exact Ew hl (h1 x hx)
   ·rename_i hl;refine as4.mpr ⟨fun x hx=>?_,YA h2⟩;rcases Oe.mp hx with hx|hx
    ·subst hx;cases h3:lessBytes y x with
     |true=>rfl
     |false=>exact absurd (Ex (by simpa using hl) h3) hne
    ·exact h1 x hx
def iZ(l:List Op)(obj:Id):List Bytes:=(l.filter fun o=>o.obj == obj).foldl (fun(a:List Bytes) (o:Op)=>match o.act with
 |.set k _=>putIn k a
 |_=>a) []
theorem keys_eq(l:List Op)(obj:Id):keys l obj=(iZ l obj).filter fun k=>(entry l obj k).any fun o=>madeBy o != some .nothing:=rfl
theorem Ey(l:List Op)(obj:Id):Asc (iZ l obj):=by
 unfold iZ;have all:∀ (l:List Op) (a:List Bytes),Asc a→Asc (l.foldl (fun(a:List Bytes) (o:Op)=>match o.act with
   |.set k _=>putIn k a
   |_=>a) a):=by
  intro l;induction l with
  |nil=>intro a h;exact h
  |cons o r ih=>
   intro a h;rw[asI];refine ih _ ?_;split
   ·exact YA h
   ·exact h
 exact all _ _ List.Pairwise.nil
theorem ali(l:List Op)(obj:Id):Asc (keys l obj):=by
 rw[keys_eq];exact(Ey l obj).sublist atl
theorem Of{l:List Bytes}(h:Asc l):l.Nodup:=h.imp fun hl e=>by
 subst e;rw[BE] at hl;cases hl
theorem Ez{l:List Op}{obj:Id}{k:Bytes}:k∈iZ l obj↔setsOf l obj k≠[]:=by
 unfold iZ;have all:∀ (l:List Op) (a:List Bytes),k∈(l.filter fun o=>o.obj == obj).foldl (fun(a:List Bytes) (o:Op)=>match o.act with
   |.set k _=>putIn k a
   |_=>a) a↔k∈a∨setsOf l obj k≠[]:=by
  intro l;induction l with
  |nil=>intro a;simp[setsOf]
  |cons o r ih=>
   intro a;unfold setsOf at ih ⊢;rw[arX,arX];by_cases ho:o.obj=obj
   ·simp only[ho,beq_self_eq_true,if_true,Bool.true_and,asI];rw[ih];cases hx:o.act with
    |set k' v=>
     simp only;rw[Oe];by_cases e:k'=k
     ·subst e;simp
     ·have e':¬ k=k':=fun z=>e z.symm;simp[e,e']
    |insert b v=>simp
    |put b v=>simp
    |remove b=>simp
    |add d=>simp
   ·have ho':(o.obj == obj)=false:=by simpa using ho
    simp only[ho',asD,atd,atJ];exact ih a
 rw[all];simp
theorem sI{l:List Op}{i:Id}{k:Bytes}{o:Op}(h:entry l i k=some o):∃ v,o.act=.set k v:=by
 have h1:=Bv h;unfold setsOf at h1;rw[ao9] at h1;obtain⟨_,h3⟩:=h1;rw[anr] at h3;cases hx:o.act with
 |set k' v=>
  rw[hx] at h3;simp at h3;exact⟨v,by rw[h3.2]⟩
 |insert b v=>rw[hx] at h3;simp at h3
 |put b v=>rw[hx] at h3;simp at h3
 |remove b=>rw[hx] at h3;simp at h3
 |add d=>rw[hx] at h3;simp at h3
def anz(o:Op):Id:=match o.act with
 |.insert b _=>b
 |_=>o.obj
theorem Tt{obj i:Id}{o:Op}(h:gv obj i o=true):anz o=i:=by
 unfold gv at h;cases o with
 |mk r n t ob act=>
  cases act <;> simp at h;exact h.2
theorem ait{l:List Op}(h:Wf l):∀ o∈l,rk l (anz o) < rk l o.id:=fun o ho=>by
 refine ZV h o ho _ ?_;unfold anz told;cases o.act <;> simp
theorem BF{l:List Op}{obj:Id}:∀ {f:Nat} {c p:Op},c∈l→p∈c::behind l obj f c.id→p∈l∧Via anz l c p
 |0,c,p,hc,h=>by
  have:p=c:=by simpa [behind] using h
  subst this;exact⟨hc,.refl⟩
 |f+1,c,p,hc,h=>by
  rcases akS.mp h with h|h
  ·subst h;exact⟨hc,.refl⟩
  ·obtain⟨k,hk,h⟩:=arF.mp (show p∈(children l obj c.id).flatMap (fun o=>o::behind l obj f o.id) from h);obtain⟨h1,h2⟩:=be.mp hk;obtain⟨h3,h4⟩:=BF h1 h;exact⟨h3,alh hc h1 (Tt h2) h4⟩
theorem Tu{l:List Op}(h:ajg l):l.Nodup:=h.imp fun hl e=>by
 subst e;rw[QC] at hl;cases hl
theorem KY{l:List Op}(h:Wf l)(obj:Id):∀ (f:Nat) (i:Id),(behind l obj f i).Nodup
 |0,_=>asQ
 |f+1,i=>by
  show((children l obj i).flatMap (fun o=>o::behind l obj f o.id)).Nodup;refine Jb (Tu (zu h obj i)) (fun c hc=>?_) fun c hc d hd x hx hy=>?_
  ·obtain⟨h1,_⟩:=be.mp hc;refine arA.mpr ⟨fun hm=>?_,KY h obj f c.id⟩;cases f with
   |zero=>cases hm
   |succ f=>
    obtain⟨k,hk,hm⟩:=arF.mp (show c∈(children l obj c.id).flatMap (fun o=>o::behind l obj f o.id) from hm);obtain⟨h3,h4⟩:=be.mp hk;obtain⟨_,v⟩:=BF h3 hm;have h5:=ZX (ait h) v;have h6:=Er h hk;omega
  ·obtain⟨h1,h2⟩:=be.mp hc;obtain⟨h3,h4⟩:=be.mp hd;exact air (ait h) h h1 h3 (Tt h2) (Tt h4) (BF h1 hx).2 (BF h3 hy).2
theorem EA{l:List Op}(h:Wf l)(obj:Id):(elements l obj).Nodup:=KY h obj _ _
theorem afY{l:List Op}(h:Wf l)(obj:Id):(seen l obj).Nodup:=(EA h obj).sublist atl
theorem wz{l:List Op}{obj:Id}:∀ {f:Nat} {i:Id} {o:Op},o∈behind l obj f i→∃ b v,o.act=.insert b v
 |0,i,o,h=>by cases h
 |f+1,i,o,h=>by
  obtain⟨p,hp,h⟩:=arF.mp (show o∈(children l obj i).flatMap (fun o=>o::behind l obj f o.id) from h);rcases akS.mp h with h|h
  ·subst h;have h2:=(be.mp hp).2;unfold gv at h2;cases hx:o.act with
   |insert b v=>exact⟨b,v,rfl⟩
   |set b v=>rw[hx] at h2;simp at h2
   |put b v=>rw[hx] at h2;simp at h2
   |remove b=>rw[hx] at h2;simp at h2
   |add b=>rw[hx] at h2;simp at h2
  ·exact wz h
theorem oT{l:List Op}{obj:Id}(e:Op):valueOf l obj e=e∨∃ v,(valueOf l obj e).act=.put e.id v:=by
 unfold valueOf;cases h:latest (e::l.filter fun p=>p.obj == obj && (match p.act with
  |.put e' _=>e' == e.id
  |_=>false)) with
 |none=>exact .inl rfl
 |some p=>
  rcases akS.mp (Bv h) with q|q
  ·exact .inl q
  ·rw[ao9] at q;obtain⟨_,h3⟩:=q;rw[anr] at h3;show p=e∨_;cases hx:p.act with
   |put e' v=>
    rw[hx] at h3;simp at h3;exact .inr ⟨v,by show p.act=_;rw[hx,h3.2]⟩
   |set b v=>rw[hx] at h3;simp at h3
   |insert b v=>rw[hx] at h3;simp at h3
   |remove b=>rw[hx] at h3;simp at h3
   |add b=>rw[hx] at h3;simp at h3
theorem acT{l:List Op}(h:Wf l){obj:Id}{e d:Op}(he:e∈seen l obj)(hd:d∈seen l obj)(q:valueOf l obj e=valueOf l obj d):e=d:=by
 obtain⟨b,v,hb⟩:=wz (ao9.mp he).1;obtain⟨b',v',hb'⟩:=wz (ao9.mp hd).1;rcases oT (l:=l) (obj:=obj) e with h1|⟨w,h1⟩
 ·rcases oT (l:=l) (obj:=obj) d with h2|⟨w',h2⟩
  ·rw[← h1,q,h2]
  ·rw[← q,h1,hb] at h2;cases h2
 ·rcases oT (l:=l) (obj:=obj) d with h2|⟨w',h2⟩
  ·rw[q,h2,hb'] at h1;cases h1
  ·rw[q,h2] at h1;injection h1 with h1 _;exact Es h (mR he).1 (mR hd).1 h1.symm
theorem acU{α β:Type}{f:α→List β}:∀ {l:List α},(l.flatMap f).length=(l.map fun a=>(f a).length).sum
 |[]=>rfl
 |a::l=>by rw[asV,ada,ajR,asx,acU]
theorem aoG(l:List Op)(f:Nat)(i:Id):(D l (f+1) i).length=((kids l i).map fun o=>1+(D l f o.id).length).sum:=by
 show((kids l i).flatMap (fun o=>o::D l f o.id)).length=_;rw[acU];congr 1;refine aqh fun o _=>?_;rw[ajk];omega
theorem ZZ{α:Type}(c:Nat)(g:α→Nat):∀ (l:List α),(l.map fun a=>c * g a).sum=c * (l.map g).sum
 |[]=>by simp
 |a::l=>by rw[ajR,ajR,asx,asx,ZZ c g l,Nat.mul_add]
theorem Tv{o:Op}(h:oS o):CJ ((madeBy o).getD .nothing):=by
 have hx:=h.act;unfold madeBy;cases e:o.act with
 |set k v=>rw[e] at hx;exact hx.2.2.2
 |insert b v=>rw[e] at hx;exact hx.2.1
 |put b v=>rw[e] at hx;exact hx.2.1
 |remove b=>trivial
 |add d=>trivial
theorem Tw{l:List Op}(h:Wf l)(ho:∀ o∈l,oS o):∀ (f:Nat) (i:Id) (v:Val),CJ v→(tell l f i v).length≤132+230 * (D l f i).length
 |0,i,v,_=>by show 0≤_;omega
 |f+1,i,v,hv=>by
  cases v with
  |nothing=>show 0≤_;omega
  |int z=>
   show(decimal z).length≤_;have:=pZ hv;omega
  |text b=>
   show(quoted b).length≤_;have:=BC b;have:=hv.1;omega
  |counter=>
   show(35::decimal (total l i)).length≤_;have:(decimal (total l i)).length≤21:=by
    unfold total;exact pZ (BA _)
   rw[ajk];omega
  |map=>
   show(123::(commas ((keys l i).map fun k=>quoted k++(58::(match entry l i k with|some o=>tell l f o.id ((madeBy o).getD .nothing)|none=>[])))++[125])).length≤_;rw[ajk,ada,ar1];have h1:=Jc ((keys l i).map fun k=>quoted k++(58::(match entry l i k with|some o=>tell l f o.id ((madeBy o).getD .nothing)|none=>[])));rw[ao8] at h1;have hkey:∀ k∈keys l i,∃ o,entry l i k=some o:=fun k hk=>by
    rw[keys_eq,ao9] at hk;cases e:entry l i k with
    |none=>rw[e] at hk;simp at hk
    |some o=>exact⟨o,rfl⟩
   let g:Op→Nat:=fun o=>230 * (1+(D l f o.id).length)
   have h2:((keys l i).map ((fun b:Bytes=>b.length+1) ∘ fun k=>quoted k++(58::(match entry l i k with|some o=>tell l f o.id ((madeBy o).getD .nothing)|none=>[])))).sum≤((keys l i).map fun k=>g ((entry l i k).getD ⟨0,0,0,ROOT,.add 0⟩)).sum:=by
    refine afX fun k hk=>?_;obtain⟨o,e⟩:=hkey k hk;obtain⟨m1,m2⟩:=entry_mem e;obtain⟨v,ev⟩:=sI e;have hox:=(ho o m1).act;rw[ev] at hox;have h3:=Tw h ho f o.id _ (Tv (ho o m1));have h4:=BC k;have h5:=hox.2.1;simp only[Function.comp,e,Option.getD_some,ada,ajk,g];omega
   have h3:((keys l i).map fun k=>g ((entry l i k).getD ⟨0,0,0,ROOT,.add 0⟩)).sum≤((kids l i).map g).sum:=by
    have e:((keys l i).map fun k=>g ((entry l i k).getD ⟨0,0,0,ROOT,.add 0⟩))=((keys l i).map fun k=>(entry l i k).getD ⟨0,0,0,ROOT,.add 0⟩).map g:=by rw[ao8];rfl
    rw[e];refine ZY (BD (Of (ali l i)) fun k hk k' hk' eq=>?_) fun o hm=>?_
    ·obtain⟨o,e⟩:=hkey k hk;obtain⟨o',e'⟩:=hkey k' hk';rw[e,e'] at eq;have eq:o=o':=eq;subst eq;obtain⟨v,ev⟩:=sI e;obtain⟨v',ev'⟩:=sI e';rw[ev] at ev';injection ev'
    ·obtain⟨k,hk,rfl⟩:=aou.mp hm;obtain⟨o,e⟩:=hkey k hk;rw[e];exact tX.mpr (entry_mem e)
   have h4:((kids l i).map g).sum=230 * (D l (f+1) i).length:=by rw[aoG];exact ZZ 230 _ _
   omega
  |list=>
   show(91::(commas ((seen l i).map fun e=>tell l f (valueOf l i e).id ((madeBy (valueOf l i e)).getD .nothing))++[93])).length≤_;rw[ajk,ada,ar1];have h1:=Jc ((seen l i).map fun e=>tell l f (valueOf l i e).id ((madeBy (valueOf l i e)).getD .nothing));rw[ao8] at h1
   let g:Op→Nat:=fun o=>230 * (1+(D l f o.id).length)
   have h2:((seen l i).map ((fun b:Bytes=>b.length+1) ∘ fun e=>tell l f (valueOf l i e).id ((madeBy (valueOf l i e)).getD .nothing))).sum≤((seen l i).map fun e=>g (valueOf l i e)).sum:=by
    refine afX fun e he=>?_;obtain⟨m1,m2⟩:=kH (mR he);have h3:=Tw h ho f (valueOf l i e).id _ (Tv (ho _ m1));simp only[Function.comp,g];omega
   have h3:((seen l i).map fun e=>g (valueOf l i e)).sum≤((kids l i).map g).sum:=by
    have e:((seen l i).map fun e=>g (valueOf l i e))=((seen l i).map fun e=>valueOf l i e).map g:=by rw[ao8];rfl
    rw[e];refine ZY (BD (afY h i) fun e he d hd q=>acT h he hd q) fun o hm=>?_;obtain⟨e,he,rfl⟩:=aou.mp hm;exact tX.mpr (kH (mR he))
   have h4:((kids l i).map g).sum=230 * (D l (f+1) i).length:=by rw[aoG];exact ZZ 230 _ _
   omega
theorem KZ{s:St}(g:Good s):(document s.log).length≤1000000:=by
 have h1:=Tw g.wf g.log (s.log.length+2) ROOT .map trivial;have h2:=aqE g.wf (s.log.length+2) ROOT;have h3:=g.Rv;unfold document;omega
end M
namespace M
open Sa76 Sa76Neutral
theorem afZ(s:St)(obj:Id)(x:Act):(acted (some s) s obj x).1.isSome=true:=by
 unfold acted;split <;> rfl
theorem YB(s:St)(c:Sa76.Call):(does (some s) c).1.isSome=true:=by
 cases c <;> unfold does <;> simp only <;> repeat' split
 all_goals first|rfl|exact afZ _ _ _
theorem EB{α:Type}{l:List α}{i j:Nat}{x d:α}:(l.set i x).getD j d=if i=j∧i < l.length then x else l.getD j d:=by
 rw[aqx,aqx];by_cases h:i=j
 ·subst h;by_cases h2:i < l.length
  ·rw[afO ⟨rfl,h2⟩,atq h2];rfl
  ·rw[acK (fun z=>h2 z.2),List.getElem?_set_self'];rw[atu (by omega)];rfl
 ·rw[acK (fun z=>h z.1),atx h]
theorem anA(l:S)(o:Int)(c:Sa76.Call):(did l o c).1.length=l.length:=by
 unfold did;simp
theorem alj{l:S}{c:Sa76Neutral.Call}(h:Form c):(step l c).1.length=l.length:=by
 cases h <;> first|exact anA _ _ _|exact atB
theorem lO{l:S}{o:Int}{c:Sa76.Call}{j:Nat}(h:(l.getD j none).isSome=true):((did l o c).1.getD j none).isSome=true:=by
 unfold did;simp only;rw[EB];split
 ·rename_i e;obtain⟨e,_⟩:=e;rw[e];cases q:l.getD j none with
  |none=>rw[q] at h;cases h
  |some s=>exact YB s c
 ·exact h
theorem af0{l:S}{c:Sa76Neutral.Call}(h:Form c){j:Nat}(hj:(l.getD j none).isSome=true):((step l c).1.getD j none).isSome=true:=by
 cases h with
 |hand _ _ _ _ _=>
  show((List.set l _ _).getD j none).isSome=true;rw[EB];split
  ·rename_i e;obtain⟨e,_⟩:=e;rw[e];cases q:l.getD j none with
   |none=>rw[q] at hj;cases hj
   |some s=>exact YB s _
  ·exact hj
 |begin_ _ _ _ _=>exact lO hj
 |set _ _ _ _ _ _ _ _=>exact lO hj
 |insert _ _ _ _ _ _=>exact lO hj
 |put _ _ _ _ _ _=>exact lO hj
 |remove _ _ _ _=>exact lO hj
 |add _ _ _ _ _=>exact lO hj
 |since _ _ _ _ _=>exact lO hj
 |take _ _ _=>exact lO hj
 |had _ _=>exact lO hj
 |tell _ _ _=>exact lO hj
def Bg(s:S):Sa76Neutral.Call→Prop
 |[[0,_,_]]=>True
 |[[10,o,p,_]]=>(s.getD o.toNat none).isSome=true∧(s.getD p.toNat none).isSome=true
 |(_::o::_)::_=>(s.getD o.toNat none).isSome=true
 |_=>True
def Bl(b:List Int)(s:S):Prop:=∀ o∈b,(s.getD o.toNat none).isSome=true
theorem af1{b:List Int}{s:S}{c:Sa76Neutral.Call}{r:List Sa76Neutral.Call}(hf:Form c)(hs:s.length=3)(hb:Bl b s)(h:begun b (c::r)=true):Bg s c∧∃ b',Bl b' (step s c).1∧begun b' r=true:=by
 have keep:∀ b,Bl b s→Bl b (step s c).1:=fun b hb o ho=>af0 hf (hb o ho);have plain:∀ {o:Int},(b.contains o && begun b r)=true→(s.getD o.toNat none).isSome=true∧∃ b',Bl b' (step s c).1∧begun b' r=true:=fun{o} h=>by
  rw[anr] at h;exact⟨hb o (by simpa using h.1),b,keep b hb,h.2⟩
 cases hf with
 |@begin_ o k h0 h2 _ _=>
  refine⟨trivial,?_⟩;have h:begun (if 0≤k∧k≤7 then o::b else b) r=true:=h;by_cases hk:0≤k∧k≤7
  ·rw[afO hk] at h;refine⟨o::b,fun x hx=>?_,h⟩;rcases akS.mp hx with hx|hx
   ·subst hx;show((did s x (.begin_ k)).1.getD x.toNat none).isSome=true;unfold did;simp only;rw[EB,afO ⟨rfl,by omega⟩];have hw:within k 0 7=true:=by
     unfold within;simp[hk.1,hk.2]
    unfold does;simp[hw]
   ·exact keep b hb x hx
  ·rw[acK hk] at h;exact⟨b,keep b hb,h⟩
 |@hand o p m _ _ _ _ _=>
  have h:(b.contains o && (b.contains p && begun b r))=true:=h;simp only[anr] at h;exact⟨⟨hb o (by simpa using h.1),hb p (by simpa using h.2.1)⟩,b,keep b hb,h.2.2⟩
 |set _ _ _ _ _ _ _ _=>exact plain h
 |insert _ _ _ _ _ _=>exact plain h
 |put _ _ _ _ _ _=>exact plain h
 |remove _ _ _ _=>exact plain h
 |add _ _ _ _ _=>exact plain h
 |since _ _ _ _ _=>exact plain h
 |take _ _ _=>exact plain h
 |had _ _=>exact plain h
 |tell _ _ _=>exact plain h
end M
namespace M
open Sa76
theorem le_succ(n x:Nat):le (n+1) x=x % 256::le n (x / 256):=by
 unfold le;rw[List.range_succ_eq_map,ajR,ao8];congr 1
 ·simp
 ·apply aqh;intro i _;show x / 256 ^ (i+1) % 256=x / 256 / 256 ^ i % 256;rw[Nat.div_div_eq_div_mul,Nat.pow_succ,Nat.mul_comm]
theorem le_zero(x:Nat):le 0 x=[]:=rfl
theorem acV:∀ {b:Bytes},vm b→le b.length (natOf b)=b
 |[],_=>rfl
 |c::b,h=>by
  have hc:c < 256:=h c ajM;have ih:=acV (b:=b) fun d hd=>h d (aiy _ hd);rw[ajk,le_succ,By];have e1:(c+256 * natOf b) % 256=c:=by omega
  have e2:(c+256 * natOf b) / 256=natOf b:=by omega
  rw[e1,e2,ih]
theorem ao1{r:Nat}(h:r < 256):le 1 r=[r]:=by
 rw[le_succ,le_zero];congr 1;omega
theorem af2{i:Id}(h:i.2 < 256):Id.bytes i=le 4 i.1++[i.2]:=by
 unfold Id.bytes;rw[ao1 h]
theorem alk(z:Int):wrap z % 2 ^ 64=z % 2 ^ 64:=by
 unfold wrap;omega
theorem Z0{b:Bytes}(h:vm b)(hl:b.length=8):eight (signed b)=b:=by
 unfold eight signed;rw[alk];have h1:=To h;rw[hl] at h1;have e:(((natOf b:Nat):Int) % 2 ^ 64).toNat=natOf b:=by
  have h2:(natOf b:Int) < 2 ^ 64:=by
   have:(256:Nat) ^ 8=2 ^ 64:=by decide
   omega
  omega
 rw[e,← hl];exact acV h
theorem YC(z:Int):vm (eight z):=Od _ _
theorem acW:∀ (n x:Nat),natOf (le n x)=x % 256 ^ n
 |0,x=>by rw[le_zero,aji,Nat.pow_zero];omega
 |n+1,x=>by
  rw[le_succ,By,acW n,Nat.pow_succ,Nat.mul_comm (256 ^ n) 256,Nat.mod_mul]
theorem Z1{z:Int}(h:-(2 ^ 63)≤z∧z < 2 ^ 63):signed (eight z)=z:=by
 unfold signed eight;rw[acW];have e:(z % 2 ^ 64).toNat % 256 ^ 8=(z % 2 ^ 64).toNat:=by
  apply Nat.mod_eq_of_lt;have:(256:Nat) ^ 8=2 ^ 64:=by decide
  omega
 rw[e,as2 (by omega)];unfold wrap;omega
theorem tY{b:Bytes}{v:Val}(h:vm b)(e:valOf b=some v):v.bytes=b:=by
 unfold valOf at e;split at e
 ·cases e;rfl
 ·cases e;rfl
 ·cases e;rfl
 ·cases e;rfl
 ·rename_i r;split at e
  ·rename_i hl;cases e;show 1::eight (signed r)=1::r;rw[Z0 (fun c hc=>h c (aiy _ hc)) hl]
  ·cases e
 ·rename_i k r;split at e
  ·rename_i hl;cases e;show 2::r.length::r=2::k::r;rw[hl.1]
  ·cases e
 ·cases e
def qA:Nat→Nat
 |0=>1
 |1=>9
 |2=>2
 |_=>1
def jJ:Bytes→Bool
 |[]=>false
 |k::r=>if 5 < k∨r.length+1 < qA k then false else if k=2 then(match r with|[]=>false|c::r=>decide (c≤64) && decide (r.length=c)) else decide (r.length+1=qA k)
theorem Ad(b:Bytes):jJ b=(valOf b).isSome:=by
 match b with
 |[]=>rfl
 |0::[]=>rfl
 |0::x::r=>simp[jJ,qA,valOf]
 |1::r=>
  simp only[jJ,qA,valOf];by_cases h:r.length=8
  ·rw[afO h];simp[h]
  ·rw[acK h];by_cases h2:r.length+1 < 9
   ·simp[h2]
   ·simp[h2];omega
 |2::[]=>rfl
 |2::c::r=>
  simp only[jJ,qA,valOf];by_cases h:r.length=c∧c≤64
  ·rw[afO h];have:r.length+1+1 < 2↔False:=by constructor;omega;exact False.elim
   simp[this,h.1,h.2]
  ·rw[acK h];have:r.length+1+1 < 2↔False:=by constructor;omega;exact False.elim
   simp[this];intro h1 h2;exact h ⟨h2,h1⟩
 |3::[]=>rfl
 |3::x::r=>simp[jJ,qA,valOf]
 |4::[]=>rfl
 |4::x::r=>simp[jJ,qA,valOf]
 |5::[]=>rfl
 |5::x::r=>simp[jJ,qA,valOf]
 |(n+6)::r=>
  have:valOf ((n+6)::r)=none:=by
   unfold valOf;split <;> first|rfl|(rename_i h;injection h with h1 h2;omega)
  rw[this];simp[jJ]
def ig:Val→Nat
 |.nothing=>0
 |.int _=>1
 |.text _=>2
 |.map=>3
 |.list=>4
 |.counter=>5
theorem BG(v:Val):∃ r,v.bytes=ig v::r:=by
 cases v <;> exact⟨_,rfl⟩
theorem EC(v:Val):isObject v=decide (3≤ig v∧ig v≤5):=by cases v <;> rfl
theorem zw(v:Val):(v=.nothing)↔ig v=0:=by cases v <;> simp[ig]
theorem Og{v:Val}(h:CJ v):vm v.bytes:=by
 cases v with
 |int z=>
  intro c hc;rcases akS.mp hc with e|hc
  ·omega
  ·exact YC z c hc
 |text b=>
  obtain⟨h1,h2⟩:=h;intro c hc;rcases akS.mp hc with e|hc
  ·omega
  ·rcases akS.mp hc with e|hc
   ·omega
   ·exact h2 c hc
 |_=>intro c hc;simp[Val.bytes] at hc;omega
end M
namespace M
open Sa76
def alm:Act→Bytes
 |.set k v=>k.length::(k++v.bytes)
 |.insert b v=>Id.bytes b++v.bytes
 |.put e v=>Id.bytes e++v.bytes
 |.remove e=>Id.bytes e
 |.add d=>eight d
def kOf:Act→Nat
 |.set _ _=>1
 |.insert _ _=>2
 |.put _ _=>3
 |.remove _=>4
 |.add _=>5
theorem Tz(o:Op):o.bytes=[kOf o.act,o.r]++le 4 o.n++le 4 o.t++Id.bytes o.obj++alm o.act:=by
 unfold Op.bytes;cases o.act <;> simp[alm,kOf,aoU]
def ajl:Bytes→Option Act
 |m::p=>if 1≤m∧m≤32∧m≤p.length then(valOf (p.drop m)).map fun v=>Act.set (p.take m) v else none
 |[]=>none
theorem GS(m:Nat)(p:Bytes):ajl (m::p)=if 1≤m∧m≤32∧m≤p.length then(valOf (p.drop m)).map fun v=>Act.set (p.take m) v else none:=rfl
def K0(v:Option Val):Option Val:=v.bind fun x=>if x=.nothing then none else some x
def acX(q:Bytes):Option Val:=if q.length < 5 then none else K0 (valOf (q.drop 5))
def ajm(k:Nat)(q:Bytes):Option Act:=
 if k=1 then ajl q
 else if k=2 then(acX q).map fun v=>Act.insert (idOf q) v
 else if k=3 then(acX q).map fun v=>Act.put (idOf q) v
 else if k=4 then(if q.length=5 then some (.remove (idOf q)) else none)
 else if k=5 then(if q.length=8 then some (.add (signed q)) else none)
 else none
theorem anB(b:Bytes):opOf b=if b.length < 15∨8≤b.getD 1 0∨natOf ((b.drop 2).take 4)=0∨natOf ((b.drop 6).take 4)=0 then none
  else(ajm (b.getD 0 0) (b.drop 15)).map fun x=>⟨b.getD 1 0,natOf ((b.drop 2).take 4),natOf ((b.drop 6).take 4),idOf (b.drop 10),x⟩:=by
 have e:∀ k q,ajm k q=(if k=1 then(match q with
   |m::p=>if 1≤m∧m≤32∧m≤p.length then(valOf (p.drop m)).map fun v=>Act.set (p.take m) v else none
   |[]=>none)
  else if k=2 then(if q.length < 5 then none else(K0 (valOf (q.drop 5))).map fun v=>Act.insert (idOf q) v)
  else if k=3 then(if q.length < 5 then none else(K0 (valOf (q.drop 5))).map fun v=>Act.put (idOf q) v)
  else if k=4 then(if q.length=5 then some (.remove (idOf q)) else none)
  else if k=5 then(if q.length=8 then some (.add (signed q)) else none)
  else none):=by
  intro k q;unfold ajm ajl acX;by_cases h:q.length < 5
  ·simp only[afO h,Option.map_none]
  ·simp only[acK h]
 rw[e];rfl
theorem YD(q:Bytes):idOf (q.take 5)=idOf q:=by
 unfold idOf;rw[List.take_take,aqx,aqx,List.getElem?_take];rfl
def ED(b:Bytes):Bool:=jJ b && !decide (b.getD 0 0=0)
theorem SD{b:Bytes}(h:vm b):(K0 (valOf b)).isSome=ED b:=by
 unfold ED K0;rw[Ad];cases e:valOf b with
 |none=>rfl
 |some v=>
  have hb:=tY h e;obtain⟨r,hr⟩:=BG v;rw[hb] at hr;rw[hr];show(if v=.nothing then none else some v).isSome=!decide (ig v=0);by_cases hv:v=.nothing
  ·rw[afO hv,(zw v).mp hv];rfl
  ·rw[acK hv,aqz (fun z=>hv ((zw v).mpr z))];rfl
theorem Ae{b:Bytes}{v:Val}(e:K0 (valOf b)=some v):valOf b=some v∧v≠.nothing:=by
 unfold K0 at e;cases h:valOf b with
 |none=>rw[h] at e;cases e
 |some x=>
  rw[h] at e;have e:(if x=.nothing then none else some x)=some v:=e;by_cases hx:x=.nothing
  ·rw[afO hx] at e;cases e
  ·rw[acK hx] at e;cases e;exact⟨rfl,hx⟩
theorem ajn{q:Bytes}(h:vm q)(e:ED (q.drop 5)=false):acX q=none:=by
 unfold acX;by_cases h5:q.length < 5
 ·rw[afO h5]
 ·rw[acK h5];rw[← SD (iN h 5)] at e;exact Option.isNone_iff_eq_none.mp (by cases h:K0 (valOf (q.drop 5)) with
   |none=>rfl
   |some x=>rw[h] at e;cases e)
theorem ajo{q:Bytes}(h:vm q)(e:ED (q.drop 5)=true):∃ v,acX q=some v∧v.bytes=q.drop 5∧5≤q.length:=by
 have h5:¬ q.length < 5:=by
  intro z;rw[asz (by omega)] at e;cases e
 unfold acX;rw[acK h5];rw[← SD (iN h 5)] at e;obtain⟨v,hv⟩:=aqv.mp e;exact⟨v,hv,tY (iN h 5) (Ae hv).1,by omega⟩
theorem ajp{q:Bytes}(h:vm q){m:Nat}{p:Bytes}(e:q=m::p)(hw:jJ (p.drop m)=false):ajl q=none:=by
 subst e;rw[GS];by_cases hm:1≤m∧m≤32∧m≤p.length
 ·rw[afO hm];rw[Ad] at hw;cases hv:valOf (p.drop m) with
  |none=>rfl
  |some x=>rw[hv] at hw;cases hw
 ·rw[acK hm]
theorem ajq{m:Nat}{p:Bytes}(h:vm (m::p))(hm:1≤m∧m≤32)(hw:jJ (p.drop m)=true):∃ v,ajl (m::p)=some (.set (p.take m) v)∧v.bytes=p.drop m∧m≤p.length:=by
 have hl:m≤p.length:=by
  rcases Nat.lt_or_ge p.length m with z|z
  ·rw[asz (by omega)] at hw;cases hw
  ·exact z
 rw[Ad] at hw;obtain⟨v,hv⟩:=aqv.mp hw;refine⟨v,?_,tY (iN (fun c hc=>h c (aiy _ hc)) m) hv,hl⟩;rw[GS,afO ⟨hm.1,hm.2,hl⟩,hv];rfl
end M
namespace M
open Sa76
theorem Z2{l m:List Id}(hp:l.Perm m)(hl:l.Pairwise fun x y=>less y x=false)(hm:m.Pairwise fun x y=>less y x=false):l=m:=by
 refine List.Perm.eq_of_pairwise (le:=fun x y=>less y x=false) (fun a b _ _ h1 h2=>Ti h2 h1) hl hm hp
theorem acY{l:List Op}(h:ajg l):(l.map Op.id).reverse.Pairwise fun x y=>less y x=false:=by
 rw[List.pairwise_reverse,atP];exact h.imp fun z=>afT z
theorem Jd{l:List Op}{o:Op}{obj i:Id}(h:gv obj i o=true):((children (l++[o]) obj i).map Op.id).Perm (o.id::(children l obj i).map Op.id):=by
 rw[iE,afO h];exact(CL o _).map Op.id
theorem Rw{l:List Op}{o:Op}{obj i:Id}(hw:Wf (l++[o]))(h:gv obj i o=true){ids:List Id}(hp:ids.Perm (((children l obj i).map Op.id).reverse++[o.id]))(hs:ids.Pairwise fun x y=>less y x=false) :
  ids=((children (l++[o]) obj i).map Op.id).reverse:=by
 refine Z2 (hp.trans ?_) hs (acY (zu hw obj i));refine List.Perm.trans ?_ (List.reverse_perm _).symm;refine List.Perm.trans ?_ (Jd h).symm;refine List.perm_append_comm.trans ?_;exact(List.reverse_perm _).cons _
theorem af3{l:List Op}(hw:Wf l):∀ p∈l,∀ i∈told p,i=ROOT∨i∈l.map Op.id:=by
 induction hw with
 |nil=>intro p hp;cases hp
 |@snoc l o hw ht hn h1 ih=>
  intro p hp i hi;rw[ak9];rcases aoF.mp hp with hp|hp
  ·exact(ih p hp i hi).imp id fun z=>aoI _ z
  ·rw[aoJ.mp hp] at hi;exact(ht i hi).imp id fun z=>aoI _ z
theorem aln{l:List Op}(hw:Wf l){i:Id}(hi:i∉l.map Op.id)(hr:i≠ROOT){p:Op}(hp:p∈l):i∉told p:=fun z=>by
 rcases af3 hw p hp i z with e|e
 ·exact hr e
 ·exact hi e
theorem BH{l:List Op}{o:Op}(hw:Wf (l++[o])){p:Op}(hp:p∈l++[o]):o.id∉told p:=by
 obtain⟨h1,h2,h3,h4⟩:=hw.inv;have hr:o.id≠ROOT:=hw.zq o (by simp);rcases aoF.mp hp with hp|hp
 ·exact aln h1 h3 hr hp
 ·rw[aoJ.mp hp];intro z;rcases h2 _ z with e|e
  ·exact hr e
  ·exact h3 e
theorem af4{l:List Op}{o:Op}(hw:Wf (l++[o])){p:Op}(hp:p∈l++[o]):p.obj≠o.id:=fun e=>BH hw hp (e▸acL p)
theorem Z3{l:List Op}{o:Op}(hw:Wf (l++[o]))(obj:Id):children (l++[o]) obj o.id=[]:=by
 cases h:children (l++[o]) obj o.id with
 |nil=>rfl
 |cons p r=>
  have hp:p∈children (l++[o]) obj o.id:=by rw[h];exact ajM
  rw[be] at hp;exact absurd (Ja hp.2) (BH hw hp.1)
theorem Xs{l:List Op}{obj i:Id}(h:∀ p∈l,p.obj≠obj):children l obj i=[]:=by
 cases e:children l obj i with
 |nil=>rfl
 |cons p r=>
  have hp:p∈children l obj i:=by rw[e];exact ajM
  rw[be] at hp;exact absurd (wk hp.2) (h p hp.1)
theorem anC{l:List Op}{obj e:Id}(h:∀ p∈l,p.obj≠obj):El l obj e↔e=ROOT:=by
 constructor
 ·intro z;rcases z with z|⟨p,hp,_⟩
  ·exact z
  ·obtain⟨h1,b,h2⟩:=tL hp;exact absurd (wk h2) (h p h1)
 ·exact .inl
theorem TF{l:List Op}{obj e:Id}(h:∀ p∈l,p.obj≠obj):isRemoved l obj e=false:=by
 unfold isRemoved;rw[List.any_eq_false];intro p hp z;rw[anr] at z;exact h p hp (eq_of_beq z.1)
theorem TH{l:List Op}{obj:Id}{k:Bytes}(h:∀ p∈l,p.obj≠obj):entry l obj k=none:=by
 cases e:entry l obj k with
 |none=>rfl
 |some p=>
  obtain⟨h1,h2⟩:=entry_mem e;exact absurd h2 (h p h1)
def qB(l:List Op)(obj:Id):Int:=(l.map fun o=>if o.obj=obj then(match o.act with|.add d=>d|_=>0) else 0).sum
theorem ajr(l:List Op)(obj:Id):total l obj=wrap (qB l obj):=rfl
theorem alo{l:List Op}{obj:Id}(h:∀ p∈l,p.obj≠obj):qB l obj=0:=by
 unfold qB;have e:(l.map fun o=>if o.obj=obj then(match o.act with|.add d=>d|_=>0) else 0)=l.map fun _=>(0:Int):=by
  apply aqh;intro p hp;rw[acK (h p hp)]
 rw[e];clear e h;induction l with
 |nil=>rfl
 |cons p r ih=>rw[ajR,asx,ih];rfl
theorem acZ(l:List Op)(o:Op)(obj:Id):qB (l++[o]) obj=qB l obj+if o.obj=obj then(match o.act with|.add d=>d|_=>0) else 0:=by
 unfold qB;rw[ak9,List.sum_append,ajR,atv,asx,List.sum_nil,Int.add_zero]
def ou(obj e:Id)(p:Op):Bool:=p.obj == obj && (match p.act with|.put x _=>x == e|_=>false)
theorem Je(l:List Op)(obj:Id)(o:Op):valueOf l obj o=(latest (o::l.filter (ou obj o.id))).getD o:=rfl
theorem yh(o:Op)(r:List Op):∃ p,latest (o::r)=some p:=by
 show ∃ p,r.foldl (fun(m:Option Op) (o:Op)=>match m with|none=>some o|some p=>if less p.id o.id=true then some o else some p) (some o)=some p;induction r generalizing o with
 |nil=>exact⟨o,rfl⟩
 |cons x r ih=>
  rw[asI];by_cases h:less o.id x.id=true
  ·simp only[afO h];exact ih x
  ·simp only[acK h];exact ih o
theorem kJ(l:List Op)(o e:Op)(obj:Id):valueOf (l++[o]) obj e=if ou obj e.id o=true∧less (valueOf l obj e).id o.id=true then o else valueOf l obj e:=by
 rw[Je,Je,ass];obtain⟨p,hp⟩:=yh e (l.filter (ou obj e.id));by_cases h:ou obj e.id o=true
 ·have e1:[o].filter (ou obj e.id)=[o]:=by simp[h]
  rw[e1,← List.cons_append,QD,hp];simp only[Option.getD_some,h,true_and];by_cases h2:less p.id o.id=true
  ·rw[afO h2,afO h2];rfl
  ·rw[acK h2,acK h2];rfl
 ·have e1:[o].filter (ou obj e.id)=[]:=by simp[h]
  rw[e1,apc,acK (fun z=>h z.1)]
theorem ac0{l:List Op}{o:Op}(hw:Wf (l++[o]))(obj:Id):valueOf (l++[o]) obj o=o:=by
 rw[Je];have e:(l++[o]).filter (ou obj o.id)=[]:=by
  apply List.filter_eq_nil_iff.mpr;intro p hp z;refine BH hw hp ?_;unfold ou at z;rw[anr] at z;have z:=z.2;cases h:p.act with
  |put x v=>
   rw[h] at z;have z:x=o.id:=eq_of_beq z;unfold told;rw[h];simp[z]
  |_=>rw[h] at z;cases z
 rw[e];rfl
def K1(l:List Op)(r:Nat):Nat:=((l.filter fun o=>o.r == r).map fun o=>o.t).foldl max 0
theorem TJ(l:List Op)(o:Op)(r:Nat)(h:∀ p∈l,p.r=o.r→p.t < o.t):K1 (l++[o]) r=if o.r=r then o.t else K1 l r:=by
 unfold K1;rw[ass];by_cases e:o.r=r
 ·have e1:([o].filter fun o=>o.r == r)=[o]:=by simp[e]
  rw[e1,ak9,atO,afO e];show max _ o.t=o.t;apply Nat.max_eq_right;have:((l.filter fun o=>o.r == r).map fun o=>o.t).foldl max 0 < o.t+1:=Bw (by omega) fun x hx=>by
   obtain⟨p,hp,rfl⟩:=aou.mp hx;rw[ao9] at hp;have:=h p hp.1 ((eq_of_beq hp.2).trans e.symm);omega
  omega
 ·have e1:([o].filter fun o=>o.r == r)=[]:=by simp[e]
  rw[e1,apc,acK e]
theorem ajs{l:List Op}{o:Op}(h1:1≤o.t):(l.all fun p=>p.r != o.r || decide (p.t < o.t))=decide (K1 l o.r < o.t):=by
 rw[ase,asP,asE];constructor
 ·intro h;refine Bw (by omega) fun x hx=>?_;obtain⟨p,hp,rfl⟩:=aou.mp hx;rw[ao9] at hp;have:=h p hp.1;rw[Bool.or_eq_true] at this;rcases this with z|z
  ·rw[bne_iff_ne] at z;exact absurd (eq_of_beq hp.2) z
  ·exact ata z
 ·intro h p hp;rw[Bool.or_eq_true];by_cases e:p.r=o.r
  ·refine .inr (arC (Nat.lt_of_le_of_lt ?_ h));exact tK (asC (ao9.mpr ⟨hp,by simp[e]⟩))
  ·exact .inl (by rw[bne_iff_ne];exact e)
theorem ajt{l:List Op}{o:Op}(h:K1 l o.r < o.t):∀ p∈l,p.r=o.r→p.t < o.t:=fun p hp e=>
 Nat.lt_of_le_of_lt (tK (asC (ao9.mpr ⟨hp,by simp[e]⟩))) h
theorem ac1{s:St}{o:Op}(h1:1≤o.t):ready s o=(decide (o.n=had s o.r+1) && (decide (K1 s.log o.r < o.t) && (told o).all (known s))):=by
 unfold ready;rw[ajs h1];congr 1
theorem af5{s:St}{o:Op}(h1:1≤o.t)(h:ready s o=true):∀ p∈s.log,p.r=o.r→p.t < o.t:=by
 rw[ac1 h1,anr,anr] at h;exact ajt (ata h.2.1)
theorem af6(s:St)(o:Op)(w:List Op)(i:Id):known { s with log:=s.log++[o],waits:=w } i=(known s i || i == o.id):=by
 unfold known;simp only[List.any_append,atV,List.any_nil,asX];rw[Bool.or_assoc];congr 2;rw[ase];simp;exact⟨fun h=>h.symm,fun h=>h.symm⟩
end M
namespace M
open Sa76
inductive Piece where
 |b (x:Bytes)
 |o (i:Id)
def EE(l:List Op)(i:Id):Val:=(kindOf l i).getD .nothing
def jW(l:List Op):Piece→Bytes
 |.b x=>x
 |.o i=>TL l i (EE l i)
def flat(l:List Op)(ps:List Piece):Bytes:=ps.flatMap (jW l)
def Oh(i:Id):Val→Piece
 |.int z=>.b (decimal z)
 |.text b=>.b (quoted b)
 |.nothing=>.b []
 |_=>.o i
def pieceOf(o:Op):Piece:=Oh o.id ((madeBy o).getD .nothing)
theorem sJ{l:List Op}(h:Wf l){o:Op}(ho:o∈l):kindOf l o.id=Bx o:=by
 unfold kindOf Bx;rw[acK (h.zq o ho)];have e:(l.find? fun p=>p.id == o.id)=some o:=by
  cases q:l.find? fun p=>p.id == o.id with
  |none=>
   rw[List.find?_eq_none] at q;exact absurd (q o ho) (by simp)
  |some p=>
   have h1:=List.find?_some q;have h2:=List.mem_of_find?_eq_some q;rw[Es h h2 ho (eq_of_beq h1)]
 rw[e];rfl
theorem sL{o:Op}{v:Val}(e:madeBy o=some v)(h:isObject v=true):Bx o=some v:=by
 unfold Bx;rw[e];show(if isObject v=true then some v else none)=_;rw[afO h]
theorem K2{l:List Op}(h:Wf l){o:Op}(ho:o∈l):jW l (pieceOf o)=TLo l o:=by
 unfold pieceOf TLo;cases e:madeBy o with
 |none=>rfl
 |some v=>
  show jW l (Oh o.id v)=TL l o.id v;cases v with
  |int z=>rfl
  |text b=>rfl
  |nothing=>rfl
  |map=>
   show TL l o.id (EE l o.id)=_;unfold EE;rw[sJ h ho,sL e rfl];rfl
  |list=>
   show TL l o.id (EE l o.id)=_;unfold EE;rw[sJ h ho,sL e rfl];rfl
  |counter=>
   show TL l o.id (EE l o.id)=_;unfold EE;rw[sJ h ho,sL e rfl];rfl
def Af:Bytes→List Bytes→Bytes
 |_,[]=>[]
 |c,x::r=>c++x++Af [44] r
theorem ac2:∀ (x:Bytes) (r:List Bytes),Af [44] (x::r)=44::commas (x::r)
 |x,[]=>by simp[Af,commas]
 |x,y::r=>by
  show [44]++x++Af [44] (y::r)=44::(x++(44::commas (y::r)));rw[ac2 y r];rfl
theorem ac3:∀ (xs:List Bytes),Af [] xs=commas xs
 |[]=>rfl
 |[x]=>by simp[Af,commas]
 |x::y::r=>by
  show []++x++Af [44] (y::r)=x++(44::commas (y::r));rw[ac2];rfl
def Jf:Bytes→List (Bytes×Piece)→List Piece
 |_,[]=>[]
 |c,(h,p)::r=>.b (c++h)::p::Jf [44] r
def comma(i:Nat):Bytes:=if i=0 then [] else [44]
theorem TM:∀ (c:Bytes) (xs:List (Bytes×Piece)) (h:Bytes) (p:Piece),Jf c (xs++[(h,p)])=Jf c xs++[.b ((if xs=[] then c else [44])++h),p]
 |c,[],h,p=>rfl
 |c,(h',p')::r,h,p=>by
  show .b (c++h')::p'::Jf [44] (r++[(h,p)])=.b (c++h')::p'::(Jf [44] r++_);rw[TM [44] r h p];by_cases e:r=[]
  ·subst e;rfl
  ·rw[acK e,acK (by simp)]
theorem sM(l:List Op)(p:Piece)(r:List Piece):flat l (p::r)=jW l p++flat l r:=asV
theorem tZ(l:List Op)(p r:List Piece):flat l (p++r)=flat l p++flat l r:=atk
theorem EF(l:List Op):∀ (c:Bytes) (xs:List (Bytes×Piece)),flat l (Jf c xs)=Af c (xs.map fun x=>x.1++jW l x.2)
 |_,[]=>rfl
 |c,(h,p)::r=>by
  show flat l (.b (c++h)::p::Jf [44] r)=c++(h++jW l p)++Af [44] (r.map fun x=>x.1++jW l x.2);rw[sM,sM,EF l [44] r];show c++h++(jW l p++_)=_;simp[aoU]
def jK(l:List Op)(i:Id)(k:Bytes):Op:=(entry l i k).getD ⟨0,0,0,ROOT,.remove ROOT⟩
def Oi(l:List Op)(i:Id):List (Bytes×Piece):=(keys l i).map fun k=>(quoted k++[58],pieceOf (jK l i k))
def Oj(l:List Op)(i:Id):List (Bytes×Piece):=(seen l i).map fun e=>([],pieceOf (valueOf l i e))
def piecesOf(l:List Op)(i:Id):Val→List Piece
 |.map=>.b [123]::(Jf [] (Oi l i)++[.b [125]])
 |.list=>.b [91]::(Jf [] (Oj l i)++[.b [93]])
 |_=>[.b (35::decimal (total l i))]
theorem wA{l:List Op}{i:Id}{k:Bytes}(h:k∈keys l i):∃ o,entry l i k=some o∧jK l i k=o∧madeBy o≠some .nothing:=by
 have h:=(ao9.mp h).2;cases e:entry l i k with
 |none=>rw[e] at h;cases h
 |some o=>
  rw[e] at h;have h:(madeBy o != some .nothing)=true:=h;refine⟨o,rfl,?_,by rw[bne_iff_ne] at h;exact h⟩;unfold jK;rw[e];rfl
theorem Il{l:List Op}(h:Wf l)(i:Id){v:Val}(hv:isObject v=true):flat l (piecesOf l i v)=TL l i v:=by
 cases v with
 |map=>
  rw[aoY h];show flat l (.b [123]::(Jf [] (Oi l i)++[.b [125]]))=_;rw[sM,tZ,EF,ac3];show 123::(commas _++[125])=_;congr 3;unfold Oi;rw[ao8];apply aqh;intro k hk;obtain⟨o,e1,e2,_⟩:=wA hk;show quoted k++[58]++jW l (pieceOf (jK l i k))=_;rw[e2,e1,K2 h (entry_mem e1).1,aoU];rfl
 |list=>
  rw[anw h];show flat l (.b [91]::(Jf [] (Oj l i)++[.b [93]]))=_;rw[sM,tZ,EF,ac3];show 91::(commas _++[93])=_;congr 3;unfold Oj;rw[ao8];apply aqh;intro e he;show []++jW l (pieceOf (valueOf l i e))=_;rw[atD,K2 h (kH (mR he)).1]
 |counter=>
  show jW l (.b (35::decimal (total l i)))++[]=_;rw[apc];rfl
 |_=>cases hv
def wt(l:List Op):Piece→Nat
 |.b _=>1
 |.o i=>4 * (jW l (.o i)).length
def TN(l:List Op)(ps:List Piece):Nat:=(ps.map (wt l)).sum
theorem lK(l:List Op)(p:Piece)(r:List Piece):TN l (p::r)=wt l p+TN l r:=by unfold TN;rw[ajR,asx]
theorem wB(l:List Op)(p r:List Piece):TN l (p++r)=TN l p+TN l r:=by unfold TN;rw[ak9,List.sum_append]
theorem QG(l:List Op):∀ (r:List Piece),TN l r.reverse=TN l r
 |[]=>rfl
 |p::r=>by rw[atb,wB,QG l r,lK,lK];show _+(_+0)=_;omega
def okP:Piece→Prop
 |.b x=>x≠[]
 |.o _=>True
theorem aoH{l:List Op}{p:Piece}(h:okP p):wt l p≤4 * (jW l p).length:=by
 cases p with
 |b x=>
  show 1≤4 * x.length;cases x with
  |nil=>exact absurd rfl h
  |cons c r=>rw[ajk];omega
 |o i=>exact aiM _
theorem YE(l:List Op):∀ (xs:List (Bytes×Piece)),(∀ x∈xs,okP x.2)→TN l (Jf [44] xs)≤4 * (Af [44] (xs.map fun x=>x.1++jW l x.2)).length
 |[],_=>aqu _
 |(h,p)::r,hp=>by
  have ih:=YE l r fun x hx=>hp x (aiy _ hx);have h1:=aoH (l:=l) (hp (h,p) ajM);show TN l (.b ([44]++h)::p::Jf [44] r)≤4 * ([44]++(h++jW l p)++Af [44] (r.map fun(x:Bytes×Piece)=>x.1++jW l x.2)).length;rw[lK,lK,ada,ada,ada];show 1+(wt l p+_)≤4 * (1+(h.length+(jW l p).length)+_);have h1:wt l p≤4 * (jW l p).length:=h1;omega
theorem aiu(l:List Op)(xs:List (Bytes×Piece))(hp:∀ x∈xs,okP x.2):TN l (Jf [] xs)≤4 * (Af [] (xs.map fun x=>x.1++jW l x.2)).length+1:=by
 cases xs with
 |nil=>exact aqu _
 |cons x r=>
  obtain⟨h,p⟩:=x;have ih:=YE l r fun x hx=>hp x (aiy _ hx);have h1:wt l p≤4 * (jW l p).length:=aoH (hp (h,p) ajM);show TN l (.b ([]++h)::p::Jf [44] r)≤4 * ([]++(h++jW l p)++Af [44] (r.map fun(x:Bytes×Piece)=>x.1++jW l x.2)).length+1;rw[lK,lK,ada,ada,ada];show 1+(wt l p+_)≤4 * (0+(h.length+(jW l p).length)+_)+1;omega
theorem af7(z:Int):decimal z≠[]:=by
 unfold decimal;intro h;rw[List.append_eq_nil_iff] at h;have h:=List.map_eq_nil_iff.mp h.2;exact absurd (arD List.length h) (by have:=Nat.length_toDigits_pos (b:=10) (n:=z.natAbs);simp)
theorem aju(b:Bytes):quoted b≠[]:=by unfold quoted;simp
theorem Jg{i:Id}{v:Val}(h:v≠.nothing):okP (Oh i v):=by
 cases v with
 |nothing=>exact absurd rfl h
 |int z=>exact af7 z
 |text b=>exact aju b
 |_=>trivial
theorem Im{l:List Op}(h:Wf l)(ho:∀ o∈l,oS o)(i:Id){v:Val}(hv:isObject v=true):TN l (piecesOf l i v) < 4 * (TL l i v).length:=by
 rw[← Il h i hv];cases v with
 |map=>
  have h1:=aiu l (Oi l i) fun x hx=>by
   obtain⟨k,hk,rfl⟩:=aou.mp hx;obtain⟨o,e1,e2,e3⟩:=wA hk;show okP (pieceOf (jK l i k));rw[e2];unfold pieceOf;obtain⟨v,hv⟩:=sI e1;have e4:madeBy o=some v:=by unfold madeBy;rw[hv]
   rw[e4];rw[e4] at e3;exact Jg (i:=o.id) (v:=v) fun z=>e3 (by rw[z])
  show TN l (.b [123]::(Jf [] (Oi l i)++[.b [125]])) < 4 * (flat l (.b [123]::(Jf [] (Oi l i)++[.b [125]]))).length;rw[lK,wB,lK,sM,tZ,EF,ada,ada];show 1+(_+(1+0)) < 4 * (1+(_+1));omega
 |list=>
  have h1:=aiu l (Oj l i) fun x hx=>by
   obtain⟨e,he,rfl⟩:=aou.mp hx;show okP (pieceOf (valueOf l i e));unfold pieceOf;have hm:=kH (mR he);have ha:=(ho _ hm.1).act;have hi:=wz (ao9.mp he).1;rcases oT (l:=l) (obj:=i) e with q|⟨v,q⟩
   ·obtain⟨b,v,q2⟩:=hi;rw[q] at ha ⊢;have e4:madeBy e=some v:=by unfold madeBy;rw[q2]
    rw[q2] at ha;rw[e4];exact Jg ha.2.2
   ·have e4:madeBy (valueOf l i e)=some v:=by unfold madeBy;rw[q]
    rw[q] at ha;rw[e4];exact Jg ha.2.2
  show TN l (.b [91]::(Jf [] (Oj l i)++[.b [93]])) < 4 * (flat l (.b [91]::(Jf [] (Oj l i)++[.b [93]]))).length;rw[lK,wB,lK,sM,tZ,EF,ada,ada];show 1+(_+(1+0)) < 4 * (1+(_+1));omega
 |counter=>
  show 1+0 < 4 * ((35::decimal (total l i))++[]).length;rw[ada,ajk];omega
 |_=>cases hv
def todo(l:List Op)(st:List Piece):Bytes:=flat l st.reverse
theorem ajv(l:List Op)(st:List Piece)(p:Piece):todo l (st++[p])=jW l p++todo l st:=by
 unfold todo;rw[aty,atb,List.reverse_nil,atD];exact sM l p _
theorem ajw(l:List Op)(st ps:List Piece):todo l (st++ps.reverse)=flat l ps++todo l st:=by
 unfold todo;rw[aty,List.reverse_reverse,tZ]
theorem af8{l:List Op}{i:Id}{v:Val}(h:kindOf l i=some v):wt l (.o i)=4 * (TL l i v).length:=by
 show 4 * (TL l i (EE l i)).length=_;unfold EE;rw[h];rfl
theorem YF{l:List Op}{i:Id}{v:Val}(h:kindOf l i=some v):jW l (.o i)=TL l i v:=by
 show TL l i (EE l i)=_;unfold EE;rw[h];rfl
theorem pK{l:List Op}{i:Id}{v:Val}(h:kindOf l i=some v):isObject v=true:=by
 unfold kindOf at h;split at h
 ·cases h;rfl
 ·cases e:(l.find? fun o=>o.id == i).bind madeBy with
  |none=>rw[e] at h;cases h
  |some x=>
   rw[e] at h;have h:(if isObject x=true then some x else none)=some v:=h;split at h
   ·rename_i hx;cases h;exact hx
   ·cases h
end M
namespace M
open Sa76
theorem af9:∀ (f:Nat) (b:Bytes),b.length < f→opsOf f b=opsOf (b.length+1) b:=by
 have key:∀ (n f g:Nat) (b:Bytes),b.length≤n→b.length < f→b.length < g→opsOf f b=opsOf g b:=by
  intro n;induction n with
  |zero=>
   intro f g b hb hf hg
   match f,g,hf,hg with
   |f+1,g+1,_,_=>
    have e:b=[]:=List.eq_nil_of_length_eq_zero (by omega);subst e;rfl
  |succ n ih=>
   intro f g b hb hf hg
   match f,g,hf,hg with
   |f+1,g+1,hf,hg=>
    unfold opsOf;by_cases e:b=[]
    ·rw[afO e,afO e]
    ·rw[acK e,acK e];dsimp only;have hl:0 < b.length:=List.length_pos_iff.mpr e;by_cases h:b.length < 2+natOf (b.take 2)
     ·rw[afO h,afO h]
     ·rw[acK h,acK h];have hd:(b.drop (2+natOf (b.take 2))).length=b.length - (2+natOf (b.take 2)):=asw;rw[ih f g (b.drop (2+natOf (b.take 2))) (by omega) (by omega) (by omega)]
 intro f b h;exact key b.length f (b.length+1) b (aiM _) h (by omega)
def Ag(b:Bytes):Option (List Op):=opsOf (b.length+1) b
theorem aiv(b:Bytes):Ag b=if b=[] then some [] else if b.length < 2+natOf (b.take 2) then none else(opOf ((b.drop 2).take (natOf (b.take 2)))).bind fun o=>(Ag (b.drop (2+natOf (b.take 2)))).map fun l=>o::l:=by
 unfold Ag;rw[opsOf];by_cases e:b=[]
 ·rw[afO e,afO e]
 ·rw[acK e,acK e];dsimp only;by_cases h:b.length < 2+natOf (b.take 2)
  ·rw[afO h,afO h]
  ·rw[acK h,acK h];rw[af9 b.length (b.drop (2+natOf (b.take 2))) (by rw[asw];have:=List.length_pos_iff.mpr e;omega)]
theorem alp:Ag []=some []:=rfl
theorem ajx{b:Bytes}{pos:Nat}(hp:pos < b.length):Ag (b.drop pos)=if b.length < pos+2+natOf ((b.drop pos).take 2) then none else
  (opOf ((b.drop (pos+2)).take (natOf ((b.drop pos).take 2)))).bind fun o=>(Ag (b.drop (pos+2+natOf ((b.drop pos).take 2)))).map fun l=>o::l:=by
 rw[aiv];have hl:(b.drop pos).length=b.length - pos:=asw;rw[acK (by intro z;rw[z] at hl;simp at hl;omega)];rw[List.drop_drop,List.drop_drop,hl];by_cases h:b.length < pos+2+natOf ((b.drop pos).take 2)
 ·rw[afO h,afO (by omega)]
 ·rw[acK h,acK (by omega),Nat.add_assoc]
theorem alq:∀ (n:Nat) {b:Bytes} {l:List Op},b.length≤n→Ag b=some l→l.length≤b.length:=by
 intro n;induction n with
 |zero=>
  intro b l hb e;have eb:b=[]:=List.eq_nil_of_length_eq_zero (by omega);subst eb;cases e;exact aiM _
 |succ n ih=>
  intro b l hb e;rw[aiv] at e;by_cases eb:b=[]
  ·rw[afO eb] at e;cases e;exact aqu _
  ·rw[acK eb] at e;by_cases h:b.length < 2+natOf (b.take 2)
   ·rw[afO h] at e;cases e
   ·rw[acK h] at e;cases ho:opOf ((b.drop 2).take (natOf (b.take 2))) with
    |none=>rw[ho] at e;cases e
    |some o=>
     rw[ho] at e;have e:(Ag (b.drop (2+natOf (b.take 2)))).map (fun l=>o::l)=some l:=e;cases hr:Ag (b.drop (2+natOf (b.take 2))) with
     |none=>rw[hr] at e;cases e
     |some r=>
      rw[hr] at e;cases e;have hd:(b.drop (2+natOf (b.take 2))).length=b.length - (2+natOf (b.take 2)):=asw;have:=ih (by omega) hr;rw[ajk];omega
def YG(v:List Nat)(n:Nat):List Op→Bytes→Bytes
 |[],g=>g
 |o::r,g=>if v.getD o.r 0 < o.n then(if n < g.length+(framed o).length then g else YG v n r (g++framed o)) else YG v n r g
theorem aga(v:List Nat):∀ (l:List Op) (n:Nat) (g:Bytes),g.length≤n→YG v n l g=g++fitting (n - g.length) (l.filter fun o=>decide (v.getD o.r 0 < o.n))
 |[],n,g,_=>by show g=g++[];rw[apc]
 |o::r,n,g,h=>by
  unfold YG;by_cases e:v.getD o.r 0 < o.n
  ·rw[afO e,arX,afO (arC e)];by_cases h2:n < g.length+(framed o).length
   ·rw[afO h2,fitting,afO (by omega),apc]
   ·rw[acK h2,fitting,acK (by omega),aga v r n (g++framed o) (by rw[ada];omega),ada,aoU];congr 3;omega
  ·rw[acK e,arX,acK (by rw[asE];exact e),aga v r n g h]
end M
namespace M
open Sa76
theorem EG{l:List Op}{o:Op}(hw:Wf (l++[o])){obj:Id}{p:Op}:Ih (l++[o]) obj ROOT p↔Ih l obj ROOT p∨(p=o∧∃ b,gv obj b o=true∧El l obj b):=by
 constructor
 ·intro h;have hm:=tL h;have hE:El (l++[o]) obj p.id:=.inr ⟨p,h,rfl⟩;rcases(KU hw).mp hE with z|⟨z,b,h1,h2⟩
  ·rcases z with z|⟨p',h1,h2⟩
   ·exact absurd z (hw.zq p hm.1)
   ·have:p'=p:=Es hw (aoI _ (tL h1).1) hm.1 h2;rw[← this];exact .inl h1
  ·exact .inr ⟨Es hw hm.1 (by simp) z,b,h1,h2⟩
 ·intro h;rcases h with h|⟨rfl,b,h1,h2⟩
  ·exact Tj h
  ·have hE:El (l++[p]) obj p.id:=(KU hw).mpr (.inr ⟨rfl,b,h1,h2⟩);rcases hE with z|⟨p',h1,h2⟩
   ·exact absurd z (hw.zq p (by simp))
   ·have:p'=p:=Es hw (tL h1).1 (by simp) h2;rw[this] at h1;exact h1
theorem alr{l:List Op}{obj:Id}{p:Op}(h:∀ p∈l,p.obj≠obj):¬ Ih l obj ROOT p:=fun z=>by
 obtain⟨h1,b,h2⟩:=tL z;exact h p h1 (wk h2)
theorem agb{l:List Op}{obj:Id}{p:Op}(h:Ih l obj ROOT p):El l obj p.id:=.inr ⟨p,h,rfl⟩
theorem YH{l:List Op}{obj e:Id}{p:Op}(he:El l obj e)(hp:p∈children l obj e):Ih l obj ROOT p:=by
 rcases he with rfl|⟨q,hq,rfl⟩
 ·exact .base hp
 ·exact .step hq hp
theorem vn{l:List Op}(h:Wf l)(obj:Id):(elements l obj).length≤l.length:=
 (EA h obj).length_le_of_subset fun _ hx=>(alc hx).1
theorem Z4{l:List Op}(h:Wf l){obj:Id}{p:Op}:p∈elements l obj↔Ih l obj ROOT p:=aqC h
theorem ao2(l:List Op)(obj:Id):∀ (st:List Op),st.length≤(un l obj st).length:=fun st=>by
 unfold un;rw[← atm];induction st.reverse with
 |nil=>exact aqu _
 |cons x r ih=>
  rw[asV,ada,ajk,ajk];omega
theorem ao3(l:List Op)(obj:Id):un l obj []=[]:=rfl
end M
abbrev Fg:=PySem.W.Frag
def ze_2{A:Sort _}{B:Sort _}(p:A→B→Prop)(a:A):Prop:=Exists (p a)
def zx_2{A:Sort _}{B:Sort _}(p:A→B→Prop):Prop:=Exists (ze_2 p)
def ze_3{A:Sort _}{B:Sort _}{C:Sort _}(p:A→B→C→Prop)(a:A):Prop:=zx_2 (p a)
def zx_3{A:Sort _}{B:Sort _}{C:Sort _}(p:A→B→C→Prop):Prop:=Exists (ze_3 p)
def ze_4{A:Sort _}{B:Sort _}{C:Sort _}{D:Sort _}(p:A→B→C→D→Prop)(a:A):Prop:=zx_3 (p a)
def zx_4{A:Sort _}{B:Sort _}{C:Sort _}{D:Sort _}(p:A→B→C→D→Prop):Prop:=Exists (ze_4 p)
def ze_5{A:Sort _}{B:Sort _}{C:Sort _}{D:Sort _}{E:Sort _}(p:A→B→C→D→E→Prop)(a:A):Prop:=zx_4 (p a)
def zx_5{A:Sort _}{B:Sort _}{C:Sort _}{D:Sort _}{E:Sort _}(p:A→B→C→D→E→Prop):Prop:=Exists (ze_5 p)
def ze_6{A:Sort _}{B:Sort _}{C:Sort _}{D:Sort _}{E:Sort _}{F:Sort _}(p:A→B→C→D→E→F→Prop)(a:A):Prop:=zx_5 (p a)
def zx_6{A:Sort _}{B:Sort _}{C:Sort _}{D:Sort _}{E:Sort _}{F:Sort _}(p:A→B→C→D→E→F→Prop):Prop:=Exists (ze_6 p)
namespace L2
open PySem PySem.Spec PyProof.Rows
abbrev Key:=Sum Int Str
def QH:Key→Value→Bool
 |.inl k,v=>Value.isInt k v
 |.inr x,v=>Value.isStrOf x v
def arG(w:World):Key→Int
 |.inl k=>hashInt k
 |.inr x=>hashStr w x
theorem iF:∀ {k:Key} {v:Value},QH k v=true→(∃ i t,k=Sum.inl i∧v=Value.int i t)∨(∃ x t,k=Sum.inr x∧v=Value.str x t)
 |.inl i,v,h=>by
  obtain⟨t,e⟩:=Value.isInt_shape (k:=i) (v:=v) h;exact .inl ⟨i,t,rfl,e⟩
 |.inr x,v,h=>by
  obtain⟨t,e⟩:=Value.isStrOf_shape (x:=x) (v:=v) h;exact .inr ⟨x,t,rfl,e⟩
theorem ajy(i:Int)(t:Tok):QH (.inl i) (.int i t)=true:=by simp[QH,Value.isInt]
theorem ajz(x:Str)(t:Tok):QH (.inr x) (.str x t)=true:=by simp[QH,Value.isStrOf]
theorem ao4(a b:Int):decide ((Sum.inl a:Key)=Sum.inl b)=(a == b):=by
 by_cases e:a=b
 ·subst e;simp
 ·have h:¬ (Sum.inl a:Key)=Sum.inl b:=fun q=>e (Sum.inl.inj q);rw[aqz h];exact(arH.mpr e).symm
theorem ao5(a b:Str):decide ((Sum.inr a:Key)=Sum.inr b)=decide (a=b):=by
 by_cases e:a=b
 ·subst e;simp
 ·have h:¬ (Sum.inr a:Key)=Sum.inr b:=fun q=>e (Sum.inr.inj q);rw[aqz h,aqz e]
theorem ao6(a:Int)(b:Str):decide ((Sum.inl a:Key)=Sum.inr b)=false:=aqz (fun q=>nomatch q)
theorem ao7(a:Str)(b:Int):decide ((Sum.inr a:Key)=Sum.inl b)=false:=aqz (fun q=>nomatch q)
def i6(prog:Program)(w:World):PySem.KeyKind prog w Key where
 is:=QH
 hash:=arG w
 inj:=fun v a b ha hb=>by
  rcases iF ha with⟨i,t,rfl,rfl⟩|⟨x,t,rfl,rfl⟩
  ·rcases iF hb with⟨j,u,rfl,e⟩|⟨y,u,rfl,e⟩
   ·injection e with e1 _;rw[e1]
   ·exact nomatch e
  ·rcases iF hb with⟨j,u,rfl,e⟩|⟨y,u,rfl,e⟩
   ·exact nomatch e
   ·injection e with e1 _;rw[e1]
 byValue:=fun k v h=>by
  rcases iF h with⟨i,t,rfl,rfl⟩|⟨x,t,rfl,rfl⟩ <;> rfl
 pyHash:=fun hv h=>by
  rcases iF hv with⟨i,t,rfl,rfl⟩|⟨x,t,rfl,rfl⟩
  ·exact wpAny_pyHash_int h
  ·exact wpAny_pyHash_str h
 eqBool:=fun hu hv h=>by
  rcases iF hu with⟨i,t,rfl,rfl⟩|⟨x,t,rfl,rfl⟩
  ·rcases iF hv with⟨j,u,rfl,rfl⟩|⟨y,u,rfl,rfl⟩
   ·rw[ao4] at h;exact wpAny_eqBool_int h
   ·rw[ao6] at h;exact SeqAt.EqAt.int_str i t y u _ _ _ _ h
  ·rcases iF hv with⟨j,u,rfl,rfl⟩|⟨y,u,rfl,rfl⟩
   ·rw[ao7] at h;exact SeqAt.EqAt.str_int x t j u _ _ _ _ h
   ·rw[ao5] at h;exact wpAny_eqBool_str h
 «strs»:=fun k x t v h=>by
  rcases iF h with⟨i,u,rfl,e⟩|⟨y,u,rfl,e⟩
  ·exact nomatch e
  ·injection e with e1 _;subst e1;cases v <;> rfl
theorem ac4(prog:Program)(w:World)(i:Int)(t:Tok):(i6 prog w).is (.inl i) (.int i t)=true:=ajy i t
theorem ac5(prog:Program)(w:World)(x:Str)(t:Tok):(i6 prog w).is (.inr x) (.str x t)=true:=ajz x t
inductive V where
 |dN|bl (b:Bool)|int (i:Int)|str (x:Str)|byt (b:Array UInt8)|flt (b:UInt64)|ref (a:Addr)|ty (n:String)
 deriving DecidableEq
def RelV:V→Value→Prop
 |.dN,u=>u=Value.none
 |.bl b,u=>u=Value.bool b
 |.int i,u=>∃ t,u=Value.int i t
 |.str x,u=>∃ t,u=Value.str x t
 |.byt b,u=>∃ t,u=Value.bytes b t
 |.flt b,u=>∃ t,u=Value.float b t
 |.ref a,u=>u=Value.ref a
 |.ty n,u=>u=Value.type n
abbrev bK:List V→List Value→Prop:=Paired RelV
theorem bK.length{xs:List V}{us:List Value}(r:bK xs us):xs.length=us.length:=Paired.length r
theorem bK.get:∀ {xs:List V} {us:List Value} {i:Nat} {x:V},bK xs us→xs[i]?=some x→∃ u,us[i]?=some u∧RelV x u
 |_,_,_,_,.nil,e=>by simp at e
 |_,_,0,_,.cons r _,e=>by simp at e;subst e;exact⟨_,rfl,r⟩
 |_,_,i+1,x,.cons _ t,e=>by
  obtain⟨u,h1,h2⟩:=bK.get (i:=i) (x:=x) t (by simpa using e);exact⟨u,by simpa using h1,h2⟩
theorem bK.set{x:V}{u:Value}(r:RelV x u):∀ {xs:List V} {us:List Value} (i:Nat),bK xs us→bK (xs.set i x) (us.set i u)
 |_,_,_,.nil=>.nil
 |_,_,0,.cons _ t=>.cons r t
 |_,_,i+1,.cons q t=>.cons q (bK.set r i t)
theorem bK.append:∀ {xs ys:List V} {us ws:List Value},bK xs us→bK ys ws→bK (xs++ys) (us++ws)
 |_,_,_,_,.nil,s=>s
 |_,_,_,_,.cons r t,s=>.cons r (bK.append t s)
theorem bK.take:∀ {xs:List V} {us:List Value} (n:Nat),bK xs us→bK (xs.take n) (us.take n)
 |_,_,0,_=>.nil
 |_,_,_+1,.nil=>.nil
 |_,_,n+1,.cons r t=>.cons r (bK.take n t)
theorem bK.drop:∀ {xs:List V} {us:List Value} (n:Nat),bK xs us→bK (xs.drop n) (us.drop n)
 |_,_,0,r=>r
 |_,_,_+1,.nil=>.nil
 |_,_,n+1,.cons _ t=>bK.drop n t
theorem bK.none_of:∀ {xs:List V} {us:List Value} {i:Nat},bK xs us→xs[i]?=none→us[i]?=none:=fun{xs us i} r e=>by
 have h1:=r.length;have h2:xs.length≤i:=List.getElem?_eq_none_iff.mp e;exact List.getElem?_eq_none_iff.mpr (by omega)
def BI:Option V→Option Value→Prop
 |some v,some u=>RelV v u
 |none,none=>True
 |_,_=>False
def KV{κ:Type}:List (κ×V)→List (κ×Value)→Prop:=Paired fun(p:κ×V) (q:κ×Value)=>p.1=q.1∧RelV p.2 q.2
def kV:Key→V
 |.inl i=>.int i
 |.inr x=>.str x
inductive HO where
 |lst (xs:List V)
 |tup (xs:List V)
 |dK (kvs:List (Key×V))|dT (kvs:List (List Key×V))
 |set (S:Int→Bool) (n:Nat)
 |ins (C dx:Addr) (fs:List (Str×V))
 |own (x:Addr)
 |xd (fs:List (Str×V))
 |met (f x:Addr)
 |rng (lo hi:Int)
 |uD (o:Obj) (u:HO)
 |tbl (ps:Array Value)
 |ext (φ:Heap→Prop)
abbrev Hp:=Addr→Option HO
def upd(H:Hp)(a:Addr)(o:HO):Hp:=fun b=>if b=a then some o else H b
theorem ae{H:Hp}{a:Addr}{o:HO}:upd H a o a=some o:=by unfold upd;rw[afO rfl]
theorem ak{H:Hp}{a b:Addr}{o:HO}(h:b≠a):upd H a o b=H b:=by unfold upd;rw[acK h]
theorem fJ{H:Hp}{a:Addr}{o u:HO}:upd (upd H a o) a u=upd H a u:=by
 funext b;unfold upd;split <;> rfl
theorem ac6{H:Hp}{a b:Addr}{o u:HO}(h:H a=some o)(h':H b=some u)(d:o≠u):a≠b:=by
 intro e;subst e;rw[h] at h';exact d (apa h')
theorem au{H:Hp}{a b:Addr}{o:HO}(h:H a=some o)(h':H b=none):a≠b:=by
 intro e;subst e;rw[h] at h';cases h'
def ajA(K:Fg)(a:Addr)(xs:List V):Prop:=
 ∃ (o:Obj) (its:Array Value) (n:Nat),K.lookup a=some o∧o.cls=.type "tuple"∧o.data=.seq its n∧its.size≤sizeLine∧bK xs its.toList
def TupAt(K:Fg)(H:Hp)(a:Addr)(xs:List V):Prop:=H a=some (.tup xs)∨ajA K a xs
theorem TupAt.keep{K:Fg}{H H':Hp}{a:Addr}{xs:List V}(x:TupAt K H a xs)(ht:∀ b ys,H b=some (.tup ys)→H' b=some (.tup ys)):TupAt K H' a xs:=x.imp (fun q=>ht _ _ q) fun q=>q
section
variable(P:Program)(w:World)(K:Fg)
def iG(H:Hp)(h:Heap)(a:Addr):HO→Prop
 |.lst xs=>xs.length≤sizeLine∧∃ (its:List Value) (n:Nat),bK xs its∧h.get? a=some { cls:=.type "list",data:=.seq its.toArray n }
 |.tup xs=>xs.length≤sizeLine∧∃ its:List Value,bK xs its∧IsTup h a its.toArray
 |.dK kvs=>kvs.length≤sizeLine∧(a == sysModules)=false∧∃ vs,KV kvs vs∧h.DictOf (i6 P w) a vs
 |.dT kvs=>kvs.length≤sizeLine∧(a == sysModules)=false∧∃ xs:List (List Key×Addr×Value),
   Paired (fun(p:List Key×V) (q:List Key×Addr×Value)=>p.1=q.1∧TupAt K H q.2.1 (p.1.map kV)∧RelV p.2 q.2.2) kvs xs∧
   ∃ o es ep,h.get? a=some o∧o.ExactDict∧o.data=.dict es ep∧es.toList=xs.map (entryOfKey (tupleKind (i6 P w)))∧(xs.map (·.1)).Nodup
 |.set S n=>h.SetOf (intKind P w) a S n
 |.ins C dx fs=>H dx=some (.own a)∧fs.length≤1000∧dx≠a∧h.get? a=some (PySem.W.instObj C dx)∧
   ∃ mA,h.Ns1 dx mA∧(∀ f,BI (fs.lookup f) (mA f))∧PySem.Within mA (fs.map (·.1))
 |.own _=>∃ o,h.get? a=some o
 |.xd fs=>∃ mA,h.Ns1 a mA∧∀ f,BI (fs.lookup f) (mA f)
 |.rng lo hi=>∃ t u v,h.get? a=some { cls:=.type "range",data:=.fields #[.int lo t,.int hi u,.int 1 v] }
 |.uD o u=>h.get? a=some o∧iG H h a u
 |.tbl ps=>h.get? a=some { cls:=.none,data:=.fields ps }
 |.met f x=>h.get? a=some (PySem.W.methodObj (.ref f) (.ref x))
 |.ext φ=>φ h∧(∃ o,h.get? a=some o)∧∀ h1 h2:Heap,φ h1→(∀ o,h1.get? a=some o→h2.get? a=some o)→φ h2
def EH(H:Hp)(h:Heap):Prop:=∀ a o,H a=some o→iG P w K H h a o
end
section
variable{P:Program}{w:World}{K:Fg}{H H':Hp}{h h':Heap}{a:Addr}{o:HO}
theorem iG.lt(x:iG P w K H h a o):a < h.objs.size:=by
 cases o with
 |lst xs=>obtain⟨_,_,_,_,e⟩:=x;exact anR e
 |tup xs=>obtain⟨_,_,_,p⟩:=x;exact p.lt
 |dK kvs=>obtain⟨_,_,_,_,o,_,_,e,_⟩:=x;exact anR e
 |dT kvs=>obtain⟨_,_,_,_,o,_,_,e,_⟩:=x;exact anR e
 |set S n=>obtain⟨o,_,_,_,e,_⟩:=x;exact anR e
 |ins C dx fs=>obtain⟨_,_,_,e,_⟩:=x;exact anR e
 |own y=>obtain⟨_,e⟩:=x;exact anR e
 |xd fs=>obtain⟨_,⟨_,_,_,e,_⟩,_⟩:=x;exact anR e
 |rng lo hi=>obtain⟨_,_,_,e⟩:=x;exact anR e
 |uD ob u=>obtain⟨e,_⟩:=x;exact anR e
 |tbl ps=>exact anR (show h.get? a=some _ from x)
 |met f y=>exact anR (show h.get? a=some _ from x)
 |ext φ=>obtain⟨_,⟨_,e⟩,_⟩:=x;exact anR e
theorem Paired.anD{α β:Type}{F G:α→β→Prop}:∀ {l₁:List α} {l₂:List β},Paired F l₁ l₂→(∀ a b,F a b→G a b)→Paired G l₁ l₂
 |_,_,.nil,_=>.nil
 |_,_,.cons r t,f=>.cons (f _ _ r) (Paired.anD t f)
theorem iG.Z5(x:iG P w K H h a o)(k:∀ b u,(b=a∨H b=some (.own a))→h.get? b=some u→h'.get? b=some u)
  (ho:∀ b,H b=some (.own a)→H' b=some (.own a)) (ht:∀ b xs,H b=some (.tup xs)→H' b=some (.tup xs)):iG P w K H' h' a o:=by
 induction o with
 |lst xs=>obtain⟨z,its,n,r,e⟩:=x;exact⟨z,its,n,r,k _ _ (.inl rfl) e⟩
 |tup xs=>obtain⟨z,its,r,ob,e,c⟩:=x;exact⟨z,its,r,ob,k _ _ (.inl rfl) e,c⟩
 |dK kvs=>obtain⟨z,y,vs,r,ob,es,ep,e,c⟩:=x;exact⟨z,y,vs,r,ob,es,ep,k _ _ (.inl rfl) e,c⟩
 |dT kvs=>
  obtain⟨z,y,xs,r,ob,es,ep,e,c⟩:=x;exact⟨z,y,xs,Paired.anD r fun p q z=>⟨z.1,z.2.1.keep ht,z.2.2⟩,ob,es,ep,k _ _ (.inl rfl) e,c⟩
 |set S n=>obtain⟨ob,es,ep,t,e,c⟩:=x;exact⟨ob,es,ep,t,k _ _ (.inl rfl) e,c⟩
 |ins C dx fs=>
  obtain⟨d,z,ne,e,mA,⟨od,es,ep,e2,c⟩,r⟩:=x;exact⟨ho _ d,z,ne,k _ _ (.inl rfl) e,mA,⟨od,es,ep,k _ _ (.inr d) e2,c⟩,r⟩
 |own y=>obtain⟨ob,e⟩:=x;exact⟨ob,k _ _ (.inl rfl) e⟩
 |xd fs=>obtain⟨mA,⟨od,es,ep,e,c⟩,r⟩:=x;exact⟨mA,⟨od,es,ep,k _ _ (.inl rfl) e,c⟩,r⟩
 |rng lo hi=>obtain⟨t,u,v,e⟩:=x;exact⟨t,u,v,k _ _ (.inl rfl) e⟩
 |uD ob u ih=>obtain⟨e,q⟩:=x;exact⟨k _ _ (.inl rfl) e,ih q⟩
 |tbl ps=>
  have e:h.get? a=some { cls:=.none,data:=.fields ps }:=x;show h'.get? a=some { cls:=.none,data:=.fields ps };exact k a _ (.inl rfl) e
 |met f y=>
  have e:h.get? a=some (PySem.W.methodObj (.ref f) (.ref y)):=x;show h'.get? a=some (PySem.W.methodObj (.ref f) (.ref y));exact k a _ (.inl rfl) e
 |ext φ=>obtain⟨p,⟨o,e⟩,st⟩:=x;exact⟨st _ _ p fun o q=>k _ _ (.inl rfl) q,⟨o,k _ _ (.inl rfl) e⟩,st⟩
theorem EH.lt(x:EH P w K H h)(e:H a=some o):a < h.objs.size:=(x a o e).lt
theorem EH.fresh(x:EH P w K H h)(e:h.objs.size≤a):H a=none:=by
 cases q:H a with
 |none=>rfl
 |some u=>exact absurd (apb (x.lt q) e) (asy _)
theorem EH.kept(x:EH P w K H h)(k:∀ b u,h.get? b=some u→h'.get? b=some u):EH P w K H h':=fun a o e=>
 (x a o e).Z5 (fun b u _ q=>k b u q) (fun _ q=>q) fun _ _ q=>q
theorem EH.laid(x:EH P w K H h)(k:∀ b u,h.get? b=some u→h'.get? b=some u)(hp:h.objs.size≤a)(new:iG P w K (upd H a o) h' a o):EH P w K (upd H a o) h':=fun b u e=>by
 have hn:=x.fresh hp;by_cases hb:b=a
 ·subst hb;rw[ae] at e;cases e;exact new
 ·rw[ak hb] at e;exact(x b u e).Z5 (fun c v _ q=>k c v q) (fun c q=>by rw[ak (au q hn)];exact q) fun c xs q=>by rw[ak (au q hn)];exact q
end
def Rd(H:Hp)(a:Addr)(u:HO):Prop:=H a=some u∨∃ o,H a=some (.uD o u)
theorem Rd.ok{P:Program}{w:World}{K:Fg}{H:Hp}{h:Heap}{a:Addr}{u:HO}(r:Rd H a u)(x:EH P w K H h):iG P w K H h a u:=by
 rcases r with r|⟨o,r⟩
 ·exact x a u r
 ·obtain⟨_,q⟩:=x a _ r;exact q
def Mut:Option HO→Prop
 |some (.lst _)=>True
 |some (.dK _)=>True
 |some (.dT _)=>True
 |some (.set _ _)=>True
 |some (.ins _ _ _)=>True
 |some (.ext _)=>True
 |_=>False
section
variable{P:Program}{w:World}{K:Fg}{H:Hp}{h h':Heap}{x e:Addr}{o':HO}
theorem EH.write(ok:EH P w K H h)(mu:Mut (H x))(he:e=x∨H e=some (.own x))(k:∀ b u,b≠e→h.get? b=some u→h'.get? b=some u)(heo:∃ u,h'.get? e=some u)
  (new:iG P w K (upd H x o') h' x o'):EH P w K (upd H x o') h':=fun b u q=>by
 have nown:∀ c y,H c=some (.own y)→c≠x:=fun c y r z=>by subst z;rw[r] at mu;exact mu
 have ntup:∀ c xs,H c=some (.tup xs)→c≠x:=fun c xs r z=>by subst z;rw[r] at mu;exact mu
 by_cases hb:b=x
 ·subst hb;rw[ae] at q;cases q;exact new
 ·rw[ak hb] at q;by_cases hbe:b=e
  ·have q':H b=some (.own x):=by
    rcases he with z|z
    ·exact absurd (hbe.trans z) hb
    ·rw[hbe];exact z
   rw[q] at q';cases q';obtain⟨v,hv⟩:=heo;exact⟨v,by rw[hbe];exact hv⟩
  ·refine(ok b u q).Z5 (fun c v hc r=>k c v ?_ r) (fun c r=>by rw[ak (nown c b r)];exact r) fun c xs r=>by rw[ak (ntup c xs r)];exact r
   rcases hc with rfl|hc
   ·exact hbe
   ·rintro rfl;rcases he with z|z
    ·exact nown c b hc z
    ·rw[hc] at z;cases z;exact hb rfl
end
structure Un(fs ex:List Addr)(H H':Hp)(h h':Heap):Prop where
 keep:∀ b o,h.get? b=some o→H b=none→b∉fs→b∉ex→h'.get? b=some o
 slot:∀ b o,h.get? b=some o→H b=none→b∈fs→b∉ex→∃ sl,h'.get? b=some { o with slots:=sl }
 free:∀ b o,h.get? b=some o→H b=none→b∉ex→H' b=none
 there:∀ b o,h.get? b=some o→b∉ex→∃ o',h'.get? b=some o'
 Ol:∀ b xs,H b=some (.tup xs)→H' b=some (.tup xs)
 TQ:∀ b o u,H b=some (.uD o u)→H' b=some (.uD o u)
 Z6:∀ b ps,H b=some (.tbl ps)→∃ more,H' b=some (.tbl (ps++more))
section
variable{fs fs' ex ex':List Addr}{H H1 H2:Hp}{h h1 h2 h':Heap}{a x e:Addr}{o:HO}
theorem Un.any(u:Un fs ex H H1 h h1){b:Addr}{ob:Obj}(q:h.get? b=some ob)(n:H b=none)(hx:b∉ex):∃ sl,h1.get? b=some { ob with slots:=sl }:=by
 by_cases hb:b∈fs
 ·exact u.slot b ob q n hb hx
 ·exact⟨ob.slots,u.keep b ob q n hb hx⟩
theorem Un.kept(k:∀ b u,h.get? b=some u→h'.get? b=some u):Un fs ex H H h h':=
 ⟨fun b ob q _ _ _=>k b ob q,fun b ob q _ _ _=>⟨ob.slots,k b ob q⟩,fun _ _ _ n _=>n,fun b ob q _=>⟨ob,k b ob q⟩,fun _ _ q=>q,fun _ _ _ q=>q,fun _ ps q=>⟨#[],by rw[q];simp⟩⟩
theorem Un.refl:Un fs ex H H h h:=Un.kept fun _ _ q=>q
theorem Un.laid(k:∀ b u,h.get? b=some u→h'.get? b=some u)(hp:h.objs.size≤a)(hn:H a=none):Un fs ex H (upd H a o) h h' where
 keep:=fun b u q _ _ _=>k b u q
 slot:=fun b u q _ _ _=>⟨u.slots,k b u q⟩
 free:=fun b u q n _=>by rw[ak (arB (apb (anR q) hp))];exact n
 there:=fun b u q _=>⟨u,k b u q⟩
 Ol:=fun b xs q=>by rw[ak (au q hn)];exact q
 TQ:=fun b u xs q=>by rw[ak (au q hn)];exact q
 Z6:=fun b ps q=>⟨#[],by rw[ak (au q hn),q];simp⟩
theorem Un.write(mu:Mut (H x))(he:e=x∨H e=some (.own x))(k:∀ b u,b≠e→h.get? b=some u→h'.get? b=some u)(heo:∃ u,h'.get? e=some u):Un fs ex H (upd H x o) h h':=by
 have hx:∀ b,H b=none→b≠x:=fun b n z=>by subst z;rw[n] at mu;exact mu
 have hb:∀ b,H b=none→b≠e:=fun b n z=>by
  subst z;rcases he with r|r
  ·exact hx b n r
  ·rw[n] at r;cases r
 have hm:∀ b u,H b=some u→¬ Mut (some u)→b≠x:=fun b u q nm z=>by subst z;rw[q] at mu;exact nm mu
 refine⟨fun b u q n _ _=>k b u (hb b n) q,fun b u q n _ _=>⟨u.slots,k b u (hb b n) q⟩,fun b u q n _=>by rw[ak (hx b n)];exact n,fun b u q _=>?_,
  fun b xs q=>by rw[ak (hm b _ q fun z=>z)];exact q,fun b u xs q=>by rw[ak (hm b _ q fun z=>z)];exact q,fun b ps q=>⟨#[],by rw[ak (hm b _ q fun z=>z),q];simp⟩⟩
 by_cases hbe:b=e
 ·subst hbe;exact heo
 ·exact⟨u,k b u hbe q⟩
end
def trk(h:Heap)(H:Hp):List Addr:=(List.range h.objs.size).filter fun a=>(H a).isSome
def Z7(h:Heap)(H:Hp):Heap:=PySem.W.hideAll h (trk h H)
theorem ajB(h:Heap)(H:Hp):(Z7 h H).objs.size=h.objs.size:=PySem.W.hideAll_size _ _
theorem als{h:Heap}{H:Hp}{b:Addr}{o:Obj}(e:h.get? b=some o)(n:H b=none):(Z7 h H).get? b=some o:=
 PySem.W.hideAll_get _ e fun hm=>by
  have q:(H b).isSome=true:=(ao9.mp hm).2;rw[n] at q;simp at q
theorem anE{h:Heap}{H:Hp}{b:Addr}{o:Obj}(e:(Z7 h H).get? b=some o):h.get? b=some o∧H b=none:=by
 have e':h.get? b=some o:=PySem.W.of_hideAll (trk h H) e;refine⟨e',?_⟩;cases q:H b with
 |none=>rfl
 |some x=>
  have hm:b∈trk h H:=ao9.mpr ⟨List.mem_range.mpr (anR e'),by simp[q]⟩;have z:(Z7 h H).get? b=none:=PySem.W.hideAll_none (trk h H) hm;rw[z] at e;cases e
structure Mod(K:Fg)(mg:Str→Option Value)(base:Heap):Prop where
 Xu:K.In base
 glob:base.Ns mainGlobals mg
 blt:∃ mb,base.Ns builtinsNs mb∧∀ x:Str,x≠"__name__"→mb x=bootBuiltins x
 nolimit:base.NoLimit
structure Cx where
 prog:Program
 w:World
 K:Fg
 mg:Str→Option Value
 base:Heap
 A:Around
 N:List Str
 YI:Shared
 H_0:Hp
 env:Env
 outer:List Env
 stack:List Env
 ex:List Addr
 fn:Str→Bool
 calm:Bool
 pn:List (Addr×Obj)
 xe:Value→Shared→Prop
def frs(l:List Env):List Addr:=l.filterMap (·.frame)
abbrev Cx.fs(X:Cx):List Addr:=frs X.outer
def Vis(sc:Scope)(x:Str):Prop:=sc.names.lookup x=some .local∨sc.names.lookup x=some .cell∨sc.names.lookup x=some .free
def Loc(sc:Scope)(x:Str):Prop:=sc.names.lookup x=some .local∨sc.names.lookup x=some .cell
def Look(env:Env)(h:Heap)(m:Str→Option Value)(x:Str)(u:Value):Prop:=
 (env.kindOf x=some .local∧m x=some u)∨((env.kindOf x=some .cell∨env.kindOf x=some .free)∧∃ c,env.cells.lookup x=some c∧h.IsCell c (some u))
structure Cx.Ok(X:Cx):Prop where
 mod:Mod X.K X.mg X.base
 kind:X.env.scope.kind=.function
 glob:X.env.globals=mainGlobals
 blt:X.env.builtins=builtinsNs
 above:X.YI.heap.objs.size≤X.env.locals
 inj:∀ x y c,X.env.cells.lookup x=some c→X.env.cells.lookup y=some c→x=y
 has:∀ x,(X.env.kindOf x=some .cell∨X.env.kindOf x=some .free)→∃ c,X.env.cells.lookup x=some c
 cab:∀ x c,X.fn x=true→X.env.cells.lookup x=some c→X.YI.heap.objs.size≤c
 hd:X.calm=true→X.A.handled=none
 frames:X.A.frames=some X.stack
 stk:X.stack=X.outer∨(X.stack=X.env::X.outer∧X.env.frame=some X.env.locals)
 exf:∀ b∈X.ex,b≠X.env.locals∧∀ x c,X.env.cells.lookup x=some c→c≠b
 bs:∀ b o,X.base.get? b=some o→X.YI.heap.get? b=some o∧X.H_0 b=none
 bsz:X.base.objs.size≤X.YI.heap.objs.size
 alv:∀ b o,X.base.get? b=some o→b∉X.ex
 alw:∀ b∈X.ex,b∉X.fs
 Rx:X.YI.heap.FunFrames X.base X.outer
 frf:∀ b∈X.fs,X.H_0 b=none
structure Inv(X:Cx)(pins:List (Addr×Obj))(σ:List (Option V))(H:Hp)(s:Shared):Prop where
 ok:X.Ok
 os:s.os=X.YI.os
 bare:AllBare s.gens
 base:Un X.fs X.ex X.H_0 H X.YI.heap s.heap
 loc:∃ m,s.heap.Ns X.env.locals m∧∀ (i:Nat) (x:Str) (v:V),X.N[i]?=some x→σ[i]?=some (some v)→Vis X.env.scope x→∃ u,RelV v u∧Look X.env s.heap m x u
 cell:∀ x c,X.env.cells.lookup x=some c→∃ v,s.heap.IsCell c v
 free:H X.env.locals=none
 Ah:∀ x c,X.env.cells.lookup x=some c→H c=none
 pin:∀ p∈X.pn++pins,s.heap.get? p.1=some p.2∧H p.1=none∧p.1≠X.env.locals∧p.1∉X.fs∧∀ v,p.2.data≠.cell v
 cI:EH X.prog X.w X.K H s.heap
 len:σ.length=X.N.length
section
variable{X:Cx}{pins:List (Addr×Obj)}{σ:List (Option V)}{H H':Hp}{s:Shared}{h':Heap}
theorem Cx.Ok.arI(ok:X.Ok){b:Addr}{o:Obj}(e:X.base.get? b=some o):b∉X.fs:=fun hb=>by
 have:=(ok.Rx.mem hb).1;rw[e] at this;cases this
theorem Inv.bs(I:Inv X pins σ H s):∀ b o,X.base.get? b=some o→s.heap.get? b=some o∧H b=none:=fun b o e=>
 ⟨I.base.keep b o (I.ok.bs b o e).1 (I.ok.bs b o e).2 (I.ok.arI e) (I.ok.alv b o e),I.base.free b o (I.ok.bs b o e).1 (I.ok.bs b o e).2 (I.ok.alv b o e)⟩
theorem Inv.bk(I:Inv X pins σ H s):∀ b o,X.base.get? b=some o→s.heap.get? b=some o:=fun b o e=>(I.bs b o e).1
theorem Inv.mod(I:Inv X pins σ H s):Mod X.K X.mg X.base:=I.ok.mod
theorem Inv.uM(I:Inv X pins σ H s):X.K.In s.heap:=I.ok.mod.Xu.keeps I.bk
theorem Inv.lt(I:Inv X pins σ H s):X.env.locals < s.heap.objs.size:=let ⟨_,hn,_⟩:=I.loc;hn.lt
theorem Inv.sz(I:Inv X pins σ H s):X.YI.heap.objs.size≤s.heap.objs.size:=ao0 I.ok.above (ate I.lt)
theorem Inv.arJ(I:Inv X pins σ H s){a:Addr}(h:s.heap.objs.size≤a):a∉X.fs:=fun hb=>by
 obtain⟨_,o,ho,_⟩:=I.ok.Rx.mem hb;exact absurd (apb (anR ho) (ao0 I.sz h)) (asy _)
theorem Inv.cne(I:Inv X pins σ H s):∀ x c,X.env.cells.lookup x=some c→c≠X.env.locals:=fun x c e z=>by
 obtain⟨v,o,ho,hd⟩:=I.cell x c e;obtain⟨m,⟨o',es,ep,ho',hd',_⟩,_⟩:=I.loc;rw[z,ho'] at ho;cases ho;rw[hd'] at hd;cases hd
theorem Inv.Rx(I:Inv X pins σ H s):s.heap.FunFrames X.base X.outer:=by
 have all:∀ (l:List Env),(∀ b∈frs l,b∈X.fs)→X.YI.heap.FunFrames X.base l→s.heap.FunFrames X.base l:=by
  intro l;induction l with
  |nil=>intro _ _;trivial
  |cons env r ih=>
   intro hs hl;obtain⟨hk,⟨L,o,hf,hn,ho,hd⟩,hr⟩:=hl;have hL:L∈X.fs:=hs L (by unfold frs;rw[List.filterMap_cons,hf];exact ajM);obtain⟨sl,e⟩:=I.base.slot L o ho (I.ok.frf L hL) hL fun z=>I.ok.alw L z hL;exact⟨hk,⟨L,_,hf,hn,e,hd⟩,ih (fun b hb=>hs b (by unfold frs;rw[List.filterMap_cons,hf];exact aiy _ hb)) hr⟩
 exact all X.outer (fun _ hb=>hb) I.ok.Rx
theorem Inv.stack(I:Inv X pins σ H s):s.heap.FunFrames X.base X.stack:=by
 rcases I.ok.stk with e|⟨e,hf⟩
 ·rw[e];exact I.Rx
 ·rw[e];obtain⟨m,hn,_⟩:=I.loc;refine .cons (by rw[I.ok.kind];decide) hf hn ?_ I.Rx;exact Heap.get?_none_of_le (ao0 I.ok.bsz I.ok.above)
theorem Inv.agc(I:Inv X pins σ H s):∀ b∈frs X.stack,b∈X.env.locals::X.fs:=fun b hb=>by
 rcases I.ok.stk with e|⟨e,hf⟩
 ·rw[e] at hb;exact aiy _ hb
 ·rw[e] at hb;unfold frs at hb;rw[List.filterMap_cons,hf] at hb;exact hb
theorem Inv.aiw(I:Inv X pins σ H s):∀ b∈frs X.stack,H b=none:=fun b hb=>by
 rcases akS.mp (I.agc b hb) with e|hb
 ·rw[e];exact I.free
 ·obtain⟨_,o,ho,_⟩:=I.ok.Rx.mem hb;exact I.base.free b o ho (I.ok.frf b hb) fun z=>I.ok.alw b z hb
theorem Inv.step{g':Array GenState}{t':Nat}{d':Drawn}{ch:List Addr}(I:Inv X pins σ H s)
  (hch:∀ b∈ch,(b∈X.ex∨X.YI.heap.objs.size≤b)∧b≠X.env.locals∧(∀ x c,X.env.cells.lookup x=some c→c≠b)∧∀ p∈X.pn++pins,p.1≠b)
  (keep:∀ b o,b≠X.env.locals→b∉X.fs→b∉ch→s.heap.get? b=some o→H b=none→h'.get? b=some o)
  (slot:∀ b o,b≠X.env.locals→b∈X.fs→b∉ch→s.heap.get? b=some o→H b=none→∃ sl,h'.get? b=some { o with slots:=sl }) (free:∀ b o,b∉ch→s.heap.get? b=some o→H b=none→H' b=none)
  (there:∀ b o,b∉ch→s.heap.get? b=some o→∃ o',h'.get? b=some o')
  (Ol:∀ b xs,H b=some (.tup xs)→H' b=some (.tup xs)) (TQ:∀ b o u,H b=some (.uD o u)→H' b=some (.uD o u)) (Z6:∀ b ps,H b=some (.tbl ps)→∃ more,H' b=some (.tbl (ps++more)))
  (ns:∀ m,s.heap.Ns X.env.locals m→h'.Ns X.env.locals m) (cI:EH X.prog X.w X.K H' h') (hg:AllBare g') :
  Inv X pins σ H' { s with heap:=h',gens:=g',drawn:=d',toks:=t' }:=by
 have neL:∀ b o,X.YI.heap.get? b=some o→b≠X.env.locals:=fun b o e=>arB (apb (anR e) I.ok.above);have neC:∀ b o,X.YI.heap.get? b=some o→b∉X.ex→b∉ch:=fun b o e hx hb=>by
  rcases(hch b hb).1 with z|z
  ·exact hx z
  ·exact absurd (apb (anR e) z) (asy _)
 have cellK:∀ x c,X.env.cells.lookup x=some c→∀ v,s.heap.IsCell c v→h'.IsCell c v:=fun x c e v ⟨o,ho,hd⟩=>by
  have nch:c∉ch:=fun z=>(hch c z).2.2.1 x c e rfl;by_cases hc:c∈X.fs
  ·obtain⟨sl,q⟩:=slot c o (I.cne x c e) hc nch ho (I.Ah x c e);exact⟨_,q,hd⟩
  ·exact⟨o,keep c o (I.cne x c e) hc nch ho (I.Ah x c e),hd⟩
 refine⟨I.ok,I.os,hg,⟨fun b o e n hb hx=>?_,fun b o e n hb hx=>?_,fun b o e n hx=>?_,fun b o e hx=>?_,fun b xs e=>Ol b xs (I.base.Ol b xs e),fun b o xs e=>TQ b o xs (I.base.TQ b o xs e),fun b ps e=>?_⟩,?_,fun x c e=>?_,?_,fun x c e=>?_,fun p hp=>?_,cI,I.len⟩
 ·exact keep b o (neL b o e) hb (neC b o e hx) (I.base.keep b o e n hb hx) (I.base.free b o e n hx)
 ·obtain⟨sl,e1⟩:=I.base.slot b o e n hb hx;obtain⟨sl',e2⟩:=slot b _ (neL b o e) hb (neC b o e hx) e1 (I.base.free b o e n hx);exact⟨sl',e2⟩
 ·obtain⟨o',e1⟩:=I.base.there b o e hx;exact free b o' (neC b o e hx) e1 (I.base.free b o e n hx)
 ·obtain⟨o',e1⟩:=I.base.there b o e hx;exact there b o' (neC b o e hx) e1
 ·obtain⟨m1,e1⟩:=I.base.Z6 b ps e;obtain⟨m2,e2⟩:=Z6 b _ e1;exact⟨m1++m2,by rw[e2,Array.append_assoc]⟩
 ·obtain⟨m,hn,hl⟩:=I.loc;refine⟨m,ns m hn,fun i x v e1 e2 e3=>?_⟩;obtain⟨u,r,l⟩:=hl i x v e1 e2 e3;refine⟨u,r,?_⟩;rcases l with l|⟨k,c,e,z⟩
  ·exact .inl l
  ·exact .inr ⟨k,c,e,cellK x c e _ z⟩
 ·obtain⟨v,z⟩:=I.cell x c e;exact⟨v,cellK x c e v z⟩
 ·obtain⟨m,⟨o,_,_,ho,_⟩,_⟩:=I.loc;exact free _ o (fun z=>(hch _ z).2.1 rfl) ho I.free
 ·obtain⟨v,o,ho,hd⟩:=I.cell x c e;exact free c o (fun z=>(hch c z).2.2.1 x c e rfl) ho (I.Ah x c e)
 ·obtain⟨e,n,ne,nf,d⟩:=I.pin p hp;have nch:p.1∉ch:=fun z=>(hch p.1 z).2.2.2 p hp rfl;exact⟨keep p.1 p.2 ne nf nch e n,free p.1 p.2 nch e n,ne,nf,d⟩
theorem Inv.un{t':Nat}(I:Inv X pins σ H s)(u:Un X.fs [] H H' s.heap h')(cI:EH X.prog X.w X.K H' h'):Inv X pins σ H' { s with heap:=h',toks:=t' }:=by
 obtain⟨m,⟨o,es,ep,ho,r⟩,_⟩:=id I.loc;obtain⟨sl,hL⟩:=u.any ho I.free (by simp);exact I.step (g':=s.gens) (d':=s.drawn) (ch:=[]) (fun _ z=>nomatch z) (fun b o _ hb _ e n=>u.keep b o e n hb (by simp)) (fun b o _ hb _ e n=>u.slot b o e n hb (by simp)) (fun b o _ e n=>u.free b o e n (by simp)) (fun b o _ e=>u.there b o e (by simp)) u.Ol u.TQ u.Z6 (fun m' hm=>by
  obtain⟨o',es',ep',ho',r'⟩:=hm;rw[ho] at ho';cases ho';exact⟨_,es',ep',hL,r'⟩) cI I.bare
theorem Inv.call{g':Array GenState}{t':Nat}{d':Drawn}{ch:List Addr}(I:Inv X pins σ H s)(u:Un (frs X.stack) ch H H' s.heap h')(cI:EH X.prog X.w X.K H' h')(hg:AllBare g')
  (hch:∀ b∈ch,(b∈X.ex∨X.YI.heap.objs.size≤b)∧b≠X.env.locals∧(∀ x c,X.env.cells.lookup x=some c→c≠b)∧∀ p∈X.pn++pins,p.1≠b) :
  Inv X pins σ H' { s with heap:=h',gens:=g',drawn:=d',toks:=t' }:=by
 obtain⟨m,⟨o,es,ep,ho,r⟩,_⟩:=id I.loc;obtain⟨sl,hL⟩:=u.any ho I.free fun z=>(hch _ z).2.1 rfl;exact I.step (ch:=ch) hch (fun b o hL hb hc e n=>u.keep b o e n (fun z=>(akS.mp (I.agc b z)).elim hL hb) hc) (fun b o _ _ hc e n=>u.any e n hc) (fun b o hc e n=>u.free b o e n hc) (fun b o hc e=>u.there b o e hc) u.Ol u.TQ u.Z6 (fun m' hm=>by
  obtain⟨o',es',ep',ho',r'⟩:=hm;rw[ho] at ho';cases ho';exact⟨_,es',ep',hL,r'⟩) cI hg
theorem Inv.turned{t':Nat}{it:Addr}(I:Inv X pins σ H s)(k:∀ b o,b≠it→s.heap.get? b=some o→h'.get? b=some o)(hn:H it=none)(hL:it≠X.env.locals)
  (h1:it∈X.ex∨X.YI.heap.objs.size≤it) (h2:∀ x c,X.env.cells.lookup x=some c→c≠it) (h3:∀ p∈X.pn++pins,p.1≠it):Inv X pins σ H { s with heap:=h',toks:=t' }:=by
 have nit:∀ b u,H b=some u→b≠it:=fun b u e z=>by rw[z,hn] at e;cases e
 refine I.step (g':=s.gens) (d':=s.drawn) (ch:=[it]) (fun b hb=>?_) (fun b o _ _ hc e _=>k b o (fun z=>hc (by simp[z])) e) (fun b o _ _ hc e _=>⟨o.slots,k b o (fun z=>hc (by simp[z])) e⟩) (fun _ _ _ _ n=>n)
  (fun b o hc e=>⟨o,k b o (fun z=>hc (by simp[z])) e⟩) (fun _ _ e=>e) (fun _ _ _ e=>e) (fun b ps e=>⟨#[],by rw[e];simp⟩) (fun m hm=>?_) (fun b u e=>?_) I.bare
 ·have e:b=it:=by simpa using hb
  subst e;exact⟨h1,hL,h2,h3⟩
 ·obtain⟨o,es,ep,ho,r⟩:=hm;exact⟨o,es,ep,k _ o (Ne.symm hL) ho,r⟩
 ·refine(I.cI b u e).Z5 (fun c v hc q=>k c v ?_ q) (fun _ q=>q) fun _ _ q=>q;rcases hc with z|z
  ·rw[z];exact nit b u e
  ·exact nit c _ z
theorem Inv.tok(I:Inv X pins σ H s)(t:Nat):Inv X pins σ H { s with toks:=t }:=I.un (h':=s.heap) (t':=t) Un.refl I.cI
theorem Inv.kept{t':Nat}(I:Inv X pins σ H s)(k:∀ b u,s.heap.get? b=some u→h'.get? b=some u):Inv X pins σ H { s with heap:=h',toks:=t' }:=I.un (Un.kept k) (I.cI.kept k)
theorem Inv.laid{a:Addr}{o:HO}{t':Nat}(I:Inv X pins σ H s)(k:∀ b u,s.heap.get? b=some u→h'.get? b=some u)(hp:s.heap.objs.size≤a)(new:iG X.prog X.w X.K (upd H a o) h' a o) :
  Inv X pins σ (upd H a o) { s with heap:=h',toks:=t' }:=I.un (Un.laid k hp (I.cI.fresh hp)) (I.cI.laid k hp new)
theorem Inv.write{x e:Addr}{o:HO}{t':Nat}(I:Inv X pins σ H s)(mu:Mut (H x))(he:e=x∨H e=some (.own x))(k:∀ b u,b≠e→s.heap.get? b=some u→h'.get? b=some u)(heo:∃ u,h'.get? e=some u)
  (new:iG X.prog X.w X.K (upd H x o) h' x o):Inv X pins σ (upd H x o) { s with heap:=h',toks:=t' }:=I.un (Un.write mu he k heo) (I.cI.write mu he k heo new)
theorem Inv.weak{σ':List (Option V)}(I:Inv X pins σ H s)(hl:σ'.length=σ.length)(w:∀ (i:Nat) v,σ'[i]?=some (some v)→σ[i]?=some (some v)):Inv X pins σ' H s:=
 ⟨I.ok,I.os,I.bare,I.base,let ⟨m,hn,hl'⟩:=I.loc;⟨m,hn,fun i x v e1 e2 e3=>hl' i x v e1 (w i v e2) e3⟩,I.cell,I.free,I.Ah,I.pin,I.cI,hl.trans I.len⟩
theorem Inv.aix{pins':List (Addr×Obj)}(I:Inv X pins σ H s)(h:∀ p∈pins',s.heap.get? p.1=some p.2∧H p.1=none∧p.1≠X.env.locals∧p.1∉X.fs∧∀ v,p.2.data≠.cell v):Inv X pins' σ H s:=
 ⟨I.ok,I.os,I.bare,I.base,I.loc,I.cell,I.free,I.Ah,fun p hp=>(aoF.mp hp).elim (fun z=>I.pin p (aoI _ z)) (h p),I.cI,I.len⟩
theorem TR{N:List Str}(hN:N.Nodup){i j:Nat}{x:Str}(a:N[i]?=some x)(b:N[j]?=some x):i=j:=by
 obtain⟨h1,e1⟩:=aox.mp a;obtain⟨h2,e2⟩:=aox.mp b;exact(List.getElem_inj hN).mp (e1.trans e2.symm)
theorem YJ{M:Model}{A:Around}{E:Value→Shared→Prop}{i:Nat}{x:Str}{v:V}{u:Value}{Q:Unit→Shared→Prop}(I:Inv X pins σ H s)(hN:X.N.Nodup)(hi:X.N[i]?=some x)(hx:Loc X.env.scope x)(r:RelV v u)
  (h:∀ s',Inv X pins (σ.set i (some v)) H s'→(∃ a,Heap.SameBut a s.heap s'.heap∧(a=X.env.locals∨X.env.cells.lookup x=some a))→Q () s') (hf:X.fn x=true∨X.env.scope.names.lookup x=some .local:=by first|exact .inl rfl|exact .inr rfl|assumption):wpAny M A (storeName X.env x u) Q E s:=by
 obtain⟨m,hn,hl⟩:=id I.loc;have hcls:(X.env.scope.kind == .class || (X.env.scope.kind == .module && X.env.locals != X.env.globals))=false:=by rw[I.ok.kind];rfl
 have hiσ:i < σ.length:=by rw[I.len];exact(aox.mp hi).1
 have cne:=I.cne;have tracked:∀ {a:Addr} {h':Heap},(∃ o,s.heap.get? a=some o∧H a=none)→Heap.SameBut a s.heap h'→EH X.prog X.w X.K H h':=fun{a h'} ha hs b ob e=>by
  obtain⟨_,_,hfree⟩:=ha;refine(I.cI b ob e).Z5 (fun c w' hc q=>(hs.2 c ?_).trans q) (fun _ q=>q) fun _ _ q=>q;rintro rfl;rcases hc with rfl|hc
  ·rw[hfree] at e;cases e
  ·rw[hfree] at hc;cases hc
 rcases hx with hk|hk
 ·refine wpAny_storeName_local hk hn (fun h' hn' hs=>?_) hcls;obtain⟨oL,_,_,hoL,_⟩:=id hn;refine h _ ⟨I.ok,I.os,I.bare,⟨fun b o e n hb hx=>?_,fun b o e n hb hx=>?_,I.base.free,fun b o e hx=>?_,I.base.Ol,I.base.TQ,I.base.Z6⟩,⟨_,hn',fun j y v' e1 e2 e3=>?_⟩,fun y c e=>?_,I.free,I.Ah,fun p hp=>?_,tracked ⟨oL,hoL,I.free⟩ hs,by simpa using I.len⟩ ⟨_,hs,.inl rfl⟩
  ·exact(hs.2 b (arB (apb (anR e) I.ok.above))).trans (I.base.keep b o e n hb hx)
  ·obtain⟨sl,e1⟩:=I.base.slot b o e n hb hx;exact⟨sl,(hs.2 b (arB (apb (anR e) I.ok.above))).trans e1⟩
  ·obtain⟨o',e1⟩:=I.base.there b o e hx;exact⟨o',(hs.2 b (arB (apb (anR e) I.ok.above))).trans e1⟩
  ·by_cases hj:j=i
   ·subst hj;rw[hi] at e1;cases e1;rw[atq hiσ] at e2;cases e2;exact⟨u,r,.inl ⟨hk,by simp⟩⟩
   ·rw[atx (Ne.symm hj)] at e2;obtain⟨u',r',q⟩:=hl j y v' e1 e2 e3;refine⟨u',r',?_⟩;rcases q with⟨k,e⟩|⟨k,c,e,z⟩
    ·refine .inl ⟨k,?_⟩;have:y≠x:=fun e=>hj (TR hN e1 (e▸hi));simp[this,e]
    ·exact .inr ⟨k,c,e,z.sameBut hs (cne y c e)⟩
  ·obtain⟨w',z⟩:=I.cell y c e;exact⟨w',z.sameBut hs (cne y c e)⟩
  ·obtain⟨e,n,ne,nf,d⟩:=I.pin p hp;exact⟨(hs.2 p.1 ne).trans e,n,ne,nf,d⟩
 ·have hfn:X.fn x=true:=by
   rcases hf with z|z
   ·exact z
   ·rw[z] at hk;cases hk
  obtain⟨c,hc⟩:=I.ok.has x (.inl hk);obtain⟨w',z⟩:=I.cell x c hc;refine wpAny_storeName_cell I.ok.kind hk hc z (fun h' hc' hs=>?_);obtain⟨oc,hoc,hocd⟩:=id z;refine h { s with heap:=h' } ⟨I.ok,I.os,I.bare,⟨fun b o e n hb hx=>?_,fun b o e n hb hx=>?_,I.base.free,fun b o e hx=>?_,I.base.Ol,I.base.TQ,I.base.Z6⟩,⟨m,hn.sameBut hs (Ne.symm (cne x c hc)),fun j y v' e1 e2 e3=>?_⟩,fun y c' e=>?_,I.free,I.Ah,fun p hp=>?_,tracked ⟨oc,hoc,I.Ah x c hc⟩ hs,by simpa using I.len⟩ ⟨c,hs,.inr hc⟩
  ·exact(hs.2 b (arB (apb (anR e) (I.ok.cab x c hfn hc)))).trans (I.base.keep b o e n hb hx)
  ·obtain⟨sl,e1⟩:=I.base.slot b o e n hb hx;exact⟨sl,(hs.2 b (arB (apb (anR e) (I.ok.cab x c hfn hc)))).trans e1⟩
  ·obtain⟨o',e1⟩:=I.base.there b o e hx;exact⟨o',(hs.2 b (arB (apb (anR e) (I.ok.cab x c hfn hc)))).trans e1⟩
  ·by_cases hj:j=i
   ·subst hj;rw[hi] at e1;cases e1;rw[atq hiσ] at e2;cases e2;exact⟨u,r,.inr ⟨.inl hk,c,hc,hc'⟩⟩
   ·rw[atx (Ne.symm hj)] at e2;obtain⟨u',r',q⟩:=hl j y v' e1 e2 e3;refine⟨u',r',?_⟩;rcases q with q|⟨k,c',e,z'⟩
    ·exact .inl q
    ·refine .inr ⟨k,c',e,z'.sameBut hs ?_⟩;rintro rfl;exact hj (TR hN e1 (I.ok.inj _ _ _ e hc▸hi))
  ·by_cases hcc:c'=c
   ·subst hcc;exact⟨_,hc'⟩
   ·obtain⟨w2,z2⟩:=I.cell y c' e;exact⟨w2,z2.sameBut hs hcc⟩
  ·obtain⟨e,n,ne,nf,d⟩:=I.pin p hp;refine⟨(hs.2 p.1 ?_).trans e,n,ne,nf,d⟩;intro q;rw[q,hoc] at e;have q':oc=p.2:=apa e;exact d w' (by rw[← q'];exact hocd)
theorem TU{M:Model}{A:Around}{E:Value→Shared→Prop}{i:Nat}{x:Str}{v:V}{u:Value}{Q:Unit→Shared→Prop}(I:Inv X pins σ H s)(hN:X.N.Nodup)(hi:X.N[i]?=some x)(hx:Loc X.env.scope x)(r:RelV v u)
  (h:∀ s',Inv X pins (σ.set i (some v)) H s'→Q () s') (hf:X.fn x=true∨X.env.scope.names.lookup x=some .local:=by first|exact .inl rfl|exact .inr rfl|assumption):wpAny M A (storeName X.env x u) Q E s:=
 YJ I hN hi hx r (fun s' I' _=>h s' I') hf
theorem Inv.aqG{s':Shared}{ch:List Addr}(I:Inv X pins σ H s)(ho:s'.os=s.os)(u:Un (frs X.stack) ch H H' s.heap s'.heap)(cI:EH X.prog X.w X.K H' s'.heap)(hg:AllBare s'.gens)
  (hch:∀ b∈ch,(b∈X.ex∨X.YI.heap.objs.size≤b)∧b≠X.env.locals∧(∀ x c,X.env.cells.lookup x=some c→c≠b)∧∀ p∈X.pn++pins,p.1≠b):Inv X pins σ H' s':=by
 obtain⟨h',g',d',t',o'⟩:=s';have e:o'=s.os:=ho;subst e;exact I.call (g':=g') (t':=t') (d':=d') u cI hg hch
end
abbrev XK:=Value→Option Addr→Hp→Prop
abbrev St:=List (Option V)
abbrev VK:=V→Hp→Prop
abbrev TE:=St→Hp→VK→Prop
abbrev TT:=St→Hp→(Bool→Hp→Prop)→Prop
abbrev TA:=St→Hp→(List V→Hp→Prop)→Prop
structure Ends where
 nx:St→Hp→Prop
 rt:VK
 bk:St→Hp→Prop:=fun _ _=>False
 ct:St→Hp→Prop:=fun _ _=>False
abbrev TS:=Ends→St→Hp→Prop
def EP(X:Cx)(pins:List (Addr×Obj))(σ:St)(Q:VK)(u:Value)(s':Shared):Prop:=∃ v H',Inv X pins σ H' s'∧RelV v u∧Q v H'
def TP(X:Cx)(pins:List (Addr×Obj))(σ:St)(Q:Bool→Hp→Prop)(b:Bool)(s':Shared):Prop:=∃ H',Inv X pins σ H' s'∧Q b H'
def AP(X:Cx)(pins:List (Addr×Obj))(σ:St)(Q:List V→Hp→Prop)(us:List Value)(s':Shared):Prop:=∃ vs H',Inv X pins σ H' s'∧bK vs us∧Q vs H'
def SP(X:Cx)(pins:List (Addr×Obj))(D:Ends)(f:Flow)(s':Shared):Prop:=
 match f with
 |.next=>∃ σ' H',Inv X pins σ' H' s'∧D.nx σ' H'
 |.brk=>∃ σ' H',Inv X pins σ' H' s'∧D.bk σ' H'
 |.cont=>∃ σ' H',Inv X pins σ' H' s'∧D.ct σ' H'
 |.ret u=>∃ v σ' H',Inv X pins σ' H' s'∧RelV v u∧D.rt v H'
def PE(X:Cx)(e:Expr)(t:TE):Prop:=
 ∀ (pins:List (Addr×Obj)) (s:Shared) (σ:St) (H:Hp) (Q:VK),Inv X pins σ H s→t σ H Q→wpAny (model X.prog X.w) X.A (eval e X.env) (EP X pins σ Q) X.xe s
def PT(X:Cx)(e:Expr)(t:TT):Prop:=
 ∀ (pins:List (Addr×Obj)) (s:Shared) (σ:St) (H:Hp) (Q:Bool→Hp→Prop),Inv X pins σ H s→t σ H Q→wpAny (model X.prog X.w) X.A (isTrue e X.env (eval e X.env)) (TP X pins σ Q) X.xe s
def PW(X:Cx)(e:Expr)(t:TT):Prop:=
 ∀ (whole:Sem Value) (pins:List (Addr×Obj)) (s:Shared) (σ:St) (H:Hp) (Q:Bool→Hp→Prop),Inv X pins σ H s→t σ H Q→wpAny (model X.prog X.w) X.A (isTrue e X.env whole) (TP X pins σ Q) X.xe s
theorem PW.pt{X:Cx}{e:Expr}{t:TT}(h:PW X e t):PT X e t:=h _
def PA(X:Cx)(es:List Expr)(t:TA):Prop:=
 ∀ (pos:Pos) (pins:List (Addr×Obj)) (s:Shared) (σ:St) (H:Hp) (Q:List V→Hp→Prop),Inv X pins σ H s→t σ H Q→wpAny (model X.prog X.w) X.A (spliced (backTo pos (starEach es X.env))) (AP X pins σ Q) X.xe s
def PS(X:Cx)(st:Stmt)(t:TS):Prop:=
 ∀ (pins:List (Addr×Obj)) (s:Shared) (σ:St) (H:Hp) (D:Ends),Inv X pins σ H s→t D σ H→wpAny (model X.prog X.w) X.A (exec st X.env) (SP X pins D) X.xe s
def PSs(X:Cx)(st:List Stmt)(t:TS):Prop:=
 ∀ (pins:List (Addr×Obj)) (s:Shared) (σ:St) (H:Hp) (D:Ends),Inv X pins σ H s→t D σ H→wpAny (model X.prog X.w) X.A (execs st X.env) (SP X pins D) X.xe s
theorem gf{α:Type}{t:Sem α}{Q Q':α→Shared→Prop}{M:Model}{A:Around}{E:Value→Shared→Prop}{s:Shared}(h:wpAny M A t Q E s)(hQ:∀ a s,Q a s→Q' a s):wpAny M A t Q' E s:=asL h hQ fun _ _ x=>x
section
variable{X:Cx}
def zx0(i:Nat)(σ:St)(H:Hp)(Q:VK):=fun v=>(σ[i]?=some (some v)∧Q v H)
def Om(i:Nat):TE:=fun σ H Q=>Exists (zx0 i σ H Q)
def tC(v:V):TE:=fun _ H Q=>Q v H
theorem apd{i:Nat}{x:Str}{pos:Pos}(hN:X.N[i]?=some x)(hv:Vis X.env.scope x)(hd:(x == ("__debug__" : Str))=false:=by decide)(hcd:(x == ("__classdict__" : Str))=false:=by decide):PE X (.Name x pos) (Om i):=by
 intro pins s σ H Q I h;obtain⟨v,e,h⟩:=h;obtain⟨m,hn,hl⟩:=I.loc;obtain⟨u,r,l⟩:=hl i x v hN e hv;have fin:EP X pins σ Q u s:=⟨v,H,I,r,h⟩;rcases l with⟨hk,hm⟩|⟨hk,c,hc,hcell⟩
 ·exact wpAny_Name (wpAny_loadName_local I.ok.kind hk hn hm fin) hd
 ·rcases hk with hk|hk
  ·exact wpAny_Name (wpAny_loadName_cell I.ok.kind hk hc hcell fin) hd
  ·exact wpAny_Name (wpAny_loadName_free I.ok.kind hk hc hcell fin hcd) hd
theorem aW{i j pos}:PE X (.Constant (.int i) j pos) (tC (.int i)):=fun _ _ _ H _ I h=>wpAny_Constant_int ⟨.int i,H,I.tok _,⟨_,rfl⟩,h⟩
theorem TV{b j pos}:PE X (.Constant (.bool b) j pos) (tC (.bl b)):=fun _ _ _ H _ I h=>Constant_bool ⟨.bl b,H,I,rfl,h⟩
theorem jL{j pos}:PE X (.Constant .none j pos) (tC .dN):=fun _ _ _ H _ I h=>Constant_none ⟨.dN,H,I,rfl,h⟩
def Gl(X:Cx)(x:Str):Prop:=X.env.kindOf x=some .globalImplicit
theorem K3{E:Value→Shared→Prop}{pins:List (Addr×Obj)}{s:Shared}{σ:St}{H:Hp}{x:Str}{u:Value}{pos:Pos}{Q:Value→Shared→Prop}(I:Inv X pins σ H s)(hg:Gl X x)(hm:X.mg x=some u)(h:Q u s)
  (hd:(x == ("__debug__" : Str))=false:=by decide):wpAny (model X.prog X.w) X.A (eval (.Name x pos) X.env) Q E s:=
 Calls.Name_function_global I.ok.kind hg (Calls.loadGlobal_global (by rw[I.ok.glob];exact I.mod.glob.keeps I.bk) hm h) hd
theorem Jh{E:Value→Shared→Prop}{pins:List (Addr×Obj)}{s:Shared}{σ:St}{H:Hp}{x:Str}{u:Value}{pos:Pos}{Q:Value→Shared→Prop}(I:Inv X pins σ H s)(hg:Gl X x)(hm:X.mg x=none)(hv:bootBuiltins x=some u)(h:Q u s)
  (hn:x≠"__name__":=by decide) (hd:(x == ("__debug__" : Str))=false:=by decide):wpAny (model X.prog X.w) X.A (eval (.Name x pos) X.env) Q E s:=by
 obtain⟨mb,h1,h2⟩:=I.mod.blt;exact Calls.Name_function_global I.ok.kind hg (Calls.loadGlobal_builtin (by rw[I.ok.glob];exact I.mod.glob.keeps I.bk) hm (by rw[I.ok.blt];exact h1.keeps I.bk) ((h2 x hn).trans hv) h) hd
theorem lZ{x:Str}{v:V}{u:Value}{pos:Pos}(hg:Gl X x)(hm:X.mg x=some u)(r:RelV v u)(hd:(x == ("__debug__" : Str))=false:=by decide):PE X (.Name x pos) (tC v):=
 fun _ _ _ H _ I h=>K3 I hg hm ⟨v,H,I,r,h⟩ hd
theorem anG{x:Str}{v:V}{u:Value}{pos:Pos}(hg:Gl X x)(hm:X.mg x=none)(hv:bootBuiltins x=some u)(r:RelV v u)(hn:x≠"__name__":=by decide)(hd:(x == ("__debug__" : Str))=false:=by decide):PE X (.Name x pos) (tC v):=
 fun _ _ _ H _ I h=>Jh I hg hm hv ⟨v,H,I,r,h⟩ hn hd
variable{a b:Expr}{ta tb:TE}{pos:Pos}
def PC(X:Cx)(op:CmpOp)(a b:Expr)(t:TE):Prop:=
 ∀ (pins:List (Addr×Obj)) (s:Shared) (σ:St) (H:Hp) (Q:VK),Inv X pins σ H s→t σ H Q→
  wpAny (model X.prog X.w) X.A (eval a X.env) (fun v s₁=>wpAny (model X.prog X.w) X.A (eval b X.env) (fun u s₂=>wpAny (model X.prog X.w) X.A (compareOp op v u) (EP X pins σ Q) X.xe s₂) X.xe s₁) X.xe s
def zx1(Q:Bool→Hp→Prop)(x:V)(H1:Hp):=fun c=>(x=.bl c∧Q c H1)
def tB(t:TE):TT:=fun σ H Q=>t σ H fun x H1=>Exists (zx1 Q x H1)
theorem alx{op:CmpOp}{t:TE}(h:PC X op a b t)(h1:behindInMarks op b=false:=by first|exact aly _ (by decide) (by decide)|rfl):PE X (.Compare a [op] [b] pos) t:=fun pins s σ H Q I hw=>wpAny_Compare1 (h pins s σ H Q I hw) h1
theorem Z8{op:CmpOp}{t:TE}(h:PC X op a b t)(h1:behindInMarks op b=false:=by first|exact aly _ (by decide) (by decide)|rfl):PT X (.Compare a [op] [b] pos) (tB t):=by
 intro pins s σ H Q I hw;refine wpAny_isTrue_Compare1 (gf (h pins s σ H _ I hw) fun v s1 h1=>gf h1 fun u s2 h2=>gf h2 fun c s3 ⟨x,H1,I1,r1,q1⟩=>?_) h1;obtain⟨d,rfl,q⟩:=q1;cases r1;exact asB ⟨H1,I1,q⟩
variable{tA tB':TT}{rest:List Expr}
def arK(t u:TT):TT:=fun σ H Q=>t σ H fun c H1=>if c=true then u σ H1 Q else Q false H1
def tOr(t u:TT):TT:=fun σ H Q=>t σ H fun c H1=>if c=true then Q true H1 else u σ H1 Q
def arL(t:TT):TT:=fun σ H Q=>t σ H fun c H1=>Q (!c) H1
theorem Z9(ha:PT X a tA):PW X (.BoolOp .And [a] pos) tA:=by
 intro wh pins s σ H Q I h;refine isTrue_and (gf (ha pins s σ H Q I h) fun c s1 e=>?_);cases c with
 |true=>exact isTrue_and_nil e
 |false=>exact e
theorem uE(ha:PT X a tA):PW X (.BoolOp .Or [a] pos) tA:=by
 intro wh pins s σ H Q I h;refine isTrue_or (gf (ha pins s σ H Q I h) fun c s1 e=>?_);cases c with
 |false=>exact isTrue_or_nil e
 |true=>exact e
theorem agd(ha:PT X a tA)(hb:PW X (.BoolOp .And (b::rest) pos) tB'):PW X (.BoolOp .And (a::b::rest) pos) (arK tA tB'):=by
 intro wh pins s σ H Q I h;refine isTrue_and (gf (ha pins s σ H _ I h) fun c s1 ⟨H1,I1,q1⟩=>?_);cases c with
 |true=>exact hb wh pins s1 σ H1 Q I1 q1
 |false=>exact⟨H1,I1,q1⟩
theorem yi(ha:PT X a tA)(hb:PW X (.BoolOp .Or (b::rest) pos) tB'):PW X (.BoolOp .Or (a::b::rest) pos) (tOr tA tB'):=by
 intro wh pins s σ H Q I h;refine isTrue_or (gf (ha pins s σ H _ I h) fun c s1 ⟨H1,I1,q1⟩=>?_);cases c with
 |true=>exact⟨H1,I1,q1⟩
 |false=>exact hb wh pins s1 σ H1 Q I1 q1
theorem lP(ha:PT X a tA):PT X (.UnaryOp .Not a pos) (arL tA):=by
 intro pins s σ H Q I h;exact isTrue_not (ha pins s σ H (fun c H1=>Q (!c) H1) I h)
def zx2(tb:TE)(σ:St)(Q:VK)(x:V)(H1:Hp):=fun c=>(x=.bl c∧if c=true then tb σ H1 Q else Q (.bl false) H1)
def aqH(ta tb:TE):TE:=fun σ H Q=>ta σ H fun x H1=>Exists (zx2 tb σ Q x H1)
def zx3(tb:TE)(σ:St)(Q:VK)(x:V)(H1:Hp):=fun c=>(x=.bl c∧if c=true then Q (.bl true) H1 else tb σ H1 Q)
def arM(ta tb:TE):TE:=fun σ H Q=>ta σ H fun x H1=>Exists (zx3 tb σ Q x H1)
theorem aaa{op}{t:TE}(h:PE X a t):PE X (.BoolOp op [a] pos) t:=fun pins s σ H Q I hw=>BoolOp_one (h pins s σ H Q I hw)
theorem age(ha:PE X a ta)(hb:PE X (.BoolOp .And (b::rest) pos) tb):PE X (.BoolOp .And (a::b::rest) pos) (aqH ta tb):=by
 intro pins s σ H Q I h;refine BoolOp_and (gf (ha pins s σ H _ I h) fun v s1 ⟨x,H1,I1,r1,q1⟩=>?_);obtain⟨c,rfl,q1⟩:=q1;cases r1;refine asB ?_;cases c with
 |true=>exact hb pins s1 σ H1 Q I1 q1
 |false=>exact⟨.bl false,H1,I1,rfl,q1⟩
theorem aqI(ha:PE X a ta)(hb:PE X (.BoolOp .Or (b::rest) pos) tb):PE X (.BoolOp .Or (a::b::rest) pos) (arM ta tb):=by
 intro pins s σ H Q I h;refine BoolOp_or (gf (ha pins s σ H _ I h) fun v s1 ⟨x,H1,I1,r1,q1⟩=>?_);obtain⟨c,rfl,q1⟩:=q1;cases r1;refine asB ?_;cases c with
 |false=>exact hb pins s1 σ H1 Q I1 q1
 |true=>exact⟨.bl true,H1,I1,rfl,q1⟩
end
def cJ(K:Fg)(H:Hp)(a:Addr)(xs:List V):Prop:=
 Rd H a (.lst xs)∨
  ∃ (o:Obj) (its:Array Value) (n:Nat),K.lookup a=some o∧o.cls=.type "list"∧o.dict=none∧o.data=.seq its n∧its.size≤sizeLine∧bK xs its.toList
def Io(K:Fg)(H:Hp)(a:Addr)(xs:List V):Prop:=
 Rd H a (.tup xs)∨
  ∃ (o:Obj) (its:Array Value) (n:Nat),K.lookup a=some o∧o.cls=.type "tuple"∧o.data=.seq its n∧its.size≤sizeLine∧bK xs its.toList
def arN:Value→Option V
 |.none=>some .dN
 |.bool b=>some (.bl b)
 |.int i _=>some (.int i)
 |.str x _=>some (.str x)
 |.bytes b _=>some (.byt b)
 |.float b _=>some (.flt b)
 |.ref a=>some (.ref a)
 |.type n=>some (.ty n)
 |_=>none
theorem RelV.abs{x:V}{u:Value}(r:RelV x u):arN u=some x:=by
 cases x with
 |dN=>cases r;rfl
 |bl _=>cases r;rfl
 |int _=>obtain⟨t,rfl⟩:=r;rfl
 |str _=>obtain⟨t,rfl⟩:=r;rfl
 |byt _=>obtain⟨t,rfl⟩:=r;rfl
 |flt _=>obtain⟨t,rfl⟩:=r;rfl
 |ref _=>cases r;rfl
 |ty _=>cases r;rfl
theorem RelV.inj{x y:V}{u:Value}(r:RelV x u)(q:RelV y u):x=y:=apa (r.abs.symm.trans q.abs)
theorem bK.inj:∀ {xs ys:List V} {us:List Value},bK xs us→bK ys us→xs=ys
 |_,_,_,.nil,.nil=>rfl
 |_,_,_,.cons r t,.cons r' t'=>by rw[r.inj r',bK.inj t t']
section
variable{X:Cx}{pins:List (Addr×Obj)}{σ:St}{H:Hp}{s:Shared}{a:Addr}{xs ys:List V}
theorem cJ.of{K:Fg}(h:H a=some (.lst xs)):cJ K H a xs:=.inl (.inl h)
theorem Io.of{K:Fg}(h:H a=some (.tup xs)):Io K H a xs:=.inl (.inl h)
theorem Inv.list(I:Inv X pins σ H s)(h:cJ X.K H a xs):∃ its:List Value,bK xs its∧PlainL s.heap a its.toArray∧xs.length≤sizeLine:=by
 rcases h with h|⟨o,its,n,hk,hc,hd,hs,hz,r⟩
 ·obtain⟨z,its,n,r,e⟩:=h.ok I.cI;exact⟨its,r,⟨_,n,e,rfl,rfl,rfl⟩,z⟩
 ·refine⟨its.toList,r,⟨o,n,I.uM a o hk,hc,hd,by simpa using hs⟩,?_⟩;have e:=r.length;simp only[atz] at e;omega
theorem Inv.tuple(I:Inv X pins σ H s)(h:Io X.K H a xs):∃ its:List Value,bK xs its∧IsTup s.heap a its.toArray∧xs.length≤sizeLine:=by
 rcases h with h|⟨o,its,n,hk,hc,hs,hz,r⟩
 ·obtain⟨z,its,r,p⟩:=h.ok I.cI;exact⟨its,r,p,z⟩
 ·refine⟨its.toList,r,⟨o,I.uM a o hk,hc,n,by simpa using hs⟩,?_⟩;have e:=r.length;simp only[atz] at e;omega
theorem Inv.ac7(I:Inv X pins σ H s)(h:cJ X.K H a xs)(h':cJ X.K H a ys):xs=ys:=by
 obtain⟨its,r,⟨o,n,e,_,_,d⟩,_⟩:=I.list h;obtain⟨its',r',⟨o',n',e',_,_,d'⟩,_⟩:=I.list h';rw[e] at e';cases e';rw[d] at d';injection d' with d1 _;have:its=its':=by simpa using congrArg Array.toList d1
 subst this;exact r.inj r'
theorem Inv.ajC(I:Inv X pins σ H s)(h:Io X.K H a xs)(h':Io X.K H a ys):xs=ys:=by
 obtain⟨its,r,⟨o,e,_,n,d⟩,_⟩:=I.tuple h;obtain⟨its',r',⟨o',e',_,n',d'⟩,_⟩:=I.tuple h';rw[e] at e';cases e';rw[d] at d';injection d' with d1 _;have:its=its':=by simpa using congrArg Array.toList d1
 subst this;exact r.inj r'
end
abbrev Cx.Xv(X:Cx)(E:Value→Shared→Prop):Cx:={ X with xe:=E }
abbrev Cx.nox(X:Cx):Cx:=X.Xv fun _ _=>False
theorem Cx.Ok.Xv{X:Cx}(ok:X.Ok)(E:Value→Shared→Prop):(X.Xv E).Ok:=
 ⟨ok.mod,ok.kind,ok.glob,ok.blt,ok.above,ok.inj,ok.has,ok.cab,ok.hd,ok.frames,ok.stk,ok.exf,ok.bs,ok.bsz,ok.alv,ok.alw,ok.Rx,ok.frf⟩
theorem Cx.Ok.EI{X:Cx}{E:Value→Shared→Prop}(ok:(X.Xv E).Ok):X.Ok:=
 ⟨ok.mod,ok.kind,ok.glob,ok.blt,ok.above,ok.inj,ok.has,ok.cab,ok.hd,ok.frames,ok.stk,ok.exf,ok.bs,ok.bsz,ok.alv,ok.alw,ok.Rx,ok.frf⟩
section
variable{X:Cx}{pins:List (Addr×Obj)}{σ:St}{H:Hp}{s:Shared}{E:Value→Shared→Prop}
theorem Inv.Xv(I:Inv X pins σ H s)(E:Value→Shared→Prop):Inv (X.Xv E) pins σ H s:=⟨I.ok.Xv E,I.os,I.bare,I.base,I.loc,I.cell,I.free,I.Ah,I.pin,I.cI,I.len⟩
theorem Inv.EI(I:Inv (X.Xv E) pins σ H s):Inv X pins σ H s:=⟨I.ok.EI,I.os,I.bare,I.base,I.loc,I.cell,I.free,I.Ah,I.pin,I.cI,I.len⟩
theorem SP.EI{D:Ends}{f:Flow}{s':Shared}(h:SP (X.Xv E) pins D f s'):SP X pins D f s':=by
 cases f with
 |next=>obtain⟨σ',H',I,q⟩:=h;exact⟨σ',H',I.EI,q⟩
 |brk=>obtain⟨σ',H',I,q⟩:=h;exact⟨σ',H',I.EI,q⟩
 |cont=>obtain⟨σ',H',I,q⟩:=h;exact⟨σ',H',I.EI,q⟩
 |ret u=>obtain⟨v,σ',H',I,r,q⟩:=h;exact⟨v,σ',H',I.EI,r,q⟩
theorem PSs.nox{st:List Stmt}{t:TS}(h:PSs X.nox st t):PSs X st t:=fun pins s σ H D I hw=>
 asL (h pins s σ H D (I.Xv _) hw) (fun _ _ q=>q.EI) fun _ _ z=>False.elim z
end
section
variable{X:Cx}{st:Stmt}{rest:List Stmt}{t u:TS}{e:Expr}{te:TE}{pos:Pos}
def aqJ:TS:=fun D σ H=>D.nx σ H
def aab(t u:TS):TS:=fun D σ H=>t { D with nx:=u D } σ H
theorem aZ:PSs X [] aqJ:=fun _ _ σ H _ I h=>wpAny_execs_nil ⟨σ,H,I,h⟩
theorem ah(h1:PS X st t)(h2:PSs X rest u):PSs X (st::rest) (aab t u):=by
 intro pins s σ H D I h;refine wpAny_execs_cons (gf (h1 pins s σ H { D with nx:=u D } I h) fun f s1 q=>?_);cases f with
 |next=>
  obtain⟨σ',H',I',q⟩:=q;exact h2 pins s1 σ' H' D I' q
 |ret v=>exact q
 |brk=>exact q
 |cont=>exact q
theorem ao(h1:PS X st t):PSs X [st] t:=by
 intro pins s σ H D I h;refine wpAny_execs_cons (gf (h1 pins s σ H D I h) fun f s1 q=>?_);cases f with
 |next=>exact wpAny_execs_nil q
 |ret v=>exact q
 |brk=>exact q
 |cont=>exact q
def ape:TS:=fun D σ H=>D.bk σ H
theorem alz:PS X (.Break pos) ape:=fun _ _ σ H _ I h=>wpAny_Break ⟨σ,H,I,h⟩
theorem Inv.quiet{pins:List (Addr×Obj)}{σ:St}{H:Hp}{s:Shared}(I:Inv X pins σ H s):interactive X.env=false:=by simp[interactive,I.ok.kind]
def aqK(te:TE):TS:=fun D σ H=>te σ H fun _ H1=>D.nx σ H1
theorem di(he:PE X e te)(hs:swapsWith e none pos.line X.env=pure false:=by rfl):PS X (.Expr e pos) (aqK te):=by
 intro pins s σ H D I h;exact wpAny_Expr_any (gf (he pins s σ H _ I h) fun v s1 ⟨x,H1,I1,r1,q1⟩=>⟨σ,H1,I1,q1⟩) I.quiet hs
def arO(te:TE):TS:=fun D σ H=>te σ H D.rt
theorem aJ(he:PE X e te):PS X (.Return (some e) pos) (arO te):=by
 intro pins s σ H D I h;exact wpAny_Return_some (gf (he pins s σ H _ I h) fun v s1 ⟨x,H1,I1,r1,q1⟩=>⟨x,σ,H1,I1,r1,q1⟩)
def aqL:TS:=fun D _ H=>D.rt .dN H
theorem SE:PS X (.Return none pos) aqL:=fun _ _ σ H _ I h=>wpAny_Return_none ⟨.dN,σ,H,I,rfl,h⟩
def arP(c:TT)(t u:TS):TS:=fun D σ H=>c σ H fun b H1=>if b=true then t D σ H1 else u D σ H1
theorem bQ{c:Expr}{a b:List Stmt}{tc:TT}(hc:PT X c tc)(ha:PSs X a t)(hb:PSs X b u):PS X (.If c a b pos) (arP tc t u):=by
 intro pins s σ H D I h;refine wpAny_If (gf (hc pins s σ H _ I h) fun d s1 ⟨H1,I1,q1⟩=>?_);cases d with
 |true=>exact ha pins s1 σ H1 D I1 q1
 |false=>exact hb pins s1 σ H1 D I1 q1
end
abbrev TG:=V→St→Hp→(St→Hp→Prop)→Prop
abbrev TGs:=List V→St→Hp→(St→Hp→Prop)→Prop
def PG(X:Cx)(target:Expr)(t:TG):Prop:=
 ∀ (pins:List (Addr×Obj)) (s:Shared) (σ:St) (H:Hp) (v:V) (u:Value) (Q:St→Hp→Prop),Inv X pins σ H s→RelV v u→t v σ H Q→
  wpAny (model X.prog X.w) X.A (assign target X.env u) (fun _ s'=>∃ σ' H',Inv X pins σ' H' s'∧Q σ' H') X.xe s
def PGs(X:Cx)(ts:List Expr)(t:TGs):Prop:=
 ∀ (pins:List (Addr×Obj)) (s:Shared) (σ:St) (H:Hp) (vs:List V) (us:List Value) (Q:St→Hp→Prop),Inv X pins σ H s→bK vs us→t vs σ H Q→
  wpAny (model X.prog X.w) X.A (assignInOrder ((assignEach ts X.env).map (·.2)) us) (fun _ s'=>∃ σ' H',Inv X pins σ' H' s'∧Q σ' H') X.xe s
abbrev alA:=V→V→V→Hp→(Hp→Prop)→Prop
def apg(X:Cx)(t:alA):Prop:=
 ∀ (pins:List (Addr×Obj)) (s:Shared) (σ:St) (H:Hp) (o i v:V) (ov iv u:Value) (Q:Hp→Prop),Inv X pins σ H s→RelV o ov→RelV i iv→RelV v u→t o i v H Q→
  wpAny (model X.prog X.w) X.A (setItem ov iv u) (fun _ s'=>∃ H',Inv X pins σ H' s'∧Q H') X.xe s
abbrev TIp:=V→V→Hp→VK→Prop
def PIp(X:Cx)(op:Operator)(t:TIp):Prop:=
 ∀ (pins:List (Addr×Obj)) (s:Shared) (σ:St) (H:Hp) (x y:V) (v u:Value) (Q:VK),Inv X pins σ H s→RelV x v→RelV y u→t x y H Q→
  wpAny (model X.prog X.w) X.A (inplaceOp op v u) (EP X pins σ Q) X.xe s
section
variable{X:Cx}{pos:Pos}
def aiz(i:Nat):TG:=fun v σ H Q=>Q (σ.set i (some v)) H
theorem l0{i:Nat}{x:Str}(hN:X.N.Nodup)(hi:X.N[i]?=some x)(hx:Loc X.env.scope x)(hf:X.fn x=true∨X.env.scope.names.lookup x=some .local:=by first|exact .inl rfl|exact .inr rfl|assumption):PG X (.Name x pos) (aiz i):=by
 intro pins s σ H v u Q I r h;exact wpAny_assign_Name (TU I hN hi hx r (fun s' I'=>⟨_,H,I',h⟩) hf)
def arR:TGs:=fun vs σ H Q=>vs=[]∧Q σ H
def zx4(t:TG)(u:TGs)(vs:List V)(σ:St)(H:Hp)(Q:St→Hp→Prop):=fun v r=>(vs=v::r∧t v σ H fun σ' H'=>u r σ' H' Q)
def aqM(t:TG)(u:TGs):TGs:=fun vs σ H Q=>zx_2 (zx4 t u vs σ H Q)
theorem anH:PGs X [] arR:=by
 intro pins s σ H vs us Q I r h;obtain⟨e,h⟩:=h;subst e;cases r;exact assignInOrder_nil ⟨σ,H,I,h⟩
theorem ac8{e:Expr}{es:List Expr}{t:TG}{u:TGs}(h1:PG X e t)(h2:PGs X es u)
  (hs:(assignEach (e::es) X.env).map (·.2)=assign e X.env::(assignEach es X.env).map (·.2):=by rfl):PGs X (e::es) (aqM t u):=by
 intro pins s σ H vs us Q I r h;obtain⟨v,vr,e1,h⟩:=h;subst e1;cases r with
 |cons r rr=>
  rw[hs];refine assignInOrder_cons (gf (h1 pins s σ H _ _ _ I r h) fun _ s1 ⟨σ1,H1,I1,q1⟩=>?_);exact h2 pins s1 σ1 H1 _ _ Q I1 rr q1
def zx5(K:Fg)(n:Nat)(t:TGs)(v:V)(σ:St)(H:Hp)(Q:St→Hp→Prop):=fun a xs=>(v=.ref a∧Io K H a xs∧xs.length=n∧t xs σ H Q)
def arS(K:Fg)(n:Nat)(t:TGs):TG:=fun v σ H Q=>zx_2 (zx5 K n t v σ H Q)
theorem aph{es:List Expr}{k:Nat}{t:TGs}{n:Nat}(hc:X.calm=true)(h:PGs X es t)
  (hn:(assignEach es X.env).length=n:=by rfl) (hst:(assignEach es X.env).findIdx? (·.1)=none:=by rfl):PG X (.Tuple es k pos) (arS X.K n t):=by
 intro pins s σ H v u Q I r hw;obtain⟨a,xs,e1,hq,hl,hw⟩:=hw;subst e1;cases r;obtain⟨its,rv,ht,hz⟩:=I.tuple hq;refine assign_Tuple_tuple (I.ok.hd hc) ht (by simp[hn,← hl,rv.length]) hst fun h' hx=>?_;have I1:Inv X pins σ H { s with heap:=h' }:=I.kept (t':=s.toks) fun b o e=>hx b o (arB (anR e)) e;exact h pins _ σ H xs _ Q I1 (by simpa using rv) hw
def arT(to ti:TE)(t:alA):TG:=fun v σ H Q=>to σ H fun o H1=>ti σ H1 fun i H2=>t o i v H2 fun H3=>Q σ H3
theorem alB{o i:Expr}{to ti:TE}{t:alA}(ho:PE X o to)(hi:PE X i ti)(hs:apg X t)
  (ha:∀ v,assign (.Subscript o i pos) X.env v=(do
   let ov ← holding [v] (eval o X.env)
   let iv ← holding [v,ov] (eval i X.env)
   standAt pos
   holding [v,ov,iv] (setItem ov iv v)
   release [v,ov,iv] []):=by intro _;rfl):PG X (.Subscript o i pos) (arT to ti t):=by
 intro pins s σ H v u Q I r h;rw[ha];refine adg (asM (gf (ho pins s σ H _ I h) fun ov s1 ⟨x,H1,I1,r1,q1⟩=>?_));refine adg (asM (gf (hi pins s1 σ H1 _ I1 q1) fun iv s2 ⟨y,H2,I2,r2,q2⟩=>?_));refine adg (wpAny_standAt (adg (asM (gf (hs pins s2 σ H2 x y v ov iv u _ I2 r1 r2 r q2) fun _ s3 ⟨H3,I3,q3⟩=>?_))));exact wpAny_release ⟨σ,H3,I3,q3⟩
def api(te:TE)(g:TG):TS:=fun D σ H=>te σ H fun x H1=>g x σ H1 D.nx
theorem alC{tg e:Expr}{te:TE}{g:TG}(he:PE X e te)(hg:PG X tg g)(hs:swapsWithSole [tg] e pos.line X.env=pure false:=by rfl)(hw:swappedStores [tg] e X.env=pure none:=by rfl)
  (h1:(assignEach [tg] X.env).map (·.2)=[assign tg X.env]:=by rfl):PS X (.Assign [tg] e pos) (api te g):=by
 intro pins s σ H D I h;refine wpAny_Assign_stores (gf (he pins s σ H _ I h) fun v s1 ⟨x,H1,I1,r1,q1⟩=>?_) hs hw;rw[h1];exact gf (hg pins s1 σ H1 x v _ I1 r1 q1) fun _ s2 q=>q
theorem aP{i:Nat}{x:Str}{e:Expr}{te:TE}{pos':Pos}(hN:X.N.Nodup)(hi:X.N[i]?=some x)(hx:Loc X.env.scope x)(he:PE X e te)(hs:swapsWith e (some (.Name x pos')) pos.line X.env=pure false:=by rfl)(hf:X.fn x=true∨X.env.scope.names.lookup x=some .local:=by first|exact .inl rfl|exact .inr rfl|assumption) :
  PS X (.Assign [.Name x pos'] e pos) (api te (aiz i)):=by
 intro pins s σ H D I h;refine wpAny_Assign_Name (gf (he pins s σ H _ I h) fun v s1 ⟨y,H1,I1,r1,q1⟩=>?_) hs;exact TU I1 hN hi hx r1 (fun s2 I2=>⟨_,H1,I2,q1⟩) hf
def zx6(i:Nat)(te:TE)(ti:TIp)(D:Ends)(σ:St)(H:Hp):=fun x=>(σ[i]?=some (some x)∧te σ H fun y H1=>ti x y H1 fun z H2=>D.nx (σ.set i (some z)) H2)
def arU(i:Nat)(te:TE)(ti:TIp):TS:=fun D σ H=>Exists (zx6 i te ti D σ H)
theorem alD{i:Nat}{x:Str}{e:Expr}{te:TE}{op:Operator}{ti:TIp}{pos':Pos}(hN:X.N.Nodup)(hi:X.N[i]?=some x)(hx:Loc X.env.scope x)(he:PE X e te)(ho:PIp X op ti)(hf:X.fn x=true∨X.env.scope.names.lookup x=some .local:=by first|exact .inl rfl|exact .inr rfl|assumption) :
  PS X (.AugAssign (.Name x pos') op e pos) (arU i te ti):=by
 intro pins s σ H D I h;obtain⟨v,e1,h⟩:=h;obtain⟨m,hn,hl⟩:=I.loc;have vis:Vis X.env.scope x:=by rcases hx with k|k;exact .inl k;exact .inr (.inl k)
 obtain⟨u,r,l⟩:=hl i x v hi e1 vis;refine wpAny_AugAssign_Name ?_;have go:wpAny (model X.prog X.w) X.A (eval e X.env) (fun w s₂=>wpAny (model X.prog X.w) X.A (inplaceOp op u w) (fun r s₃=>wpAny (model X.prog X.w) X.A (storeName X.env x r) (fun _=>SP X pins D .next) X.xe s₃) X.xe s₂) X.xe s:=by
  refine gf (he pins s σ H _ I h) fun w s1 ⟨y,H1,I1,r1,q1⟩=>?_;refine gf (ho pins s1 σ H1 v y u w _ I1 r r1 q1) fun z s2 ⟨zv,H2,I2,r2,q2⟩=>?_;exact TU I2 hN hi hx r2 (fun s3 I3=>⟨_,H2,I3,q2⟩) hf
 rcases l with⟨hk,hm⟩|⟨hk,c,hc,hcell⟩
 ·exact wpAny_loadName_local I.ok.kind hk hn hm go
 ·rcases hk with hk|hk
  ·exact wpAny_loadName_cell I.ok.kind hk hc hcell go
  ·rcases hx with k|k
   ·have:X.env.scope.names.lookup x=some .free:=hk;rw[k] at this;cases this
   ·have:X.env.scope.names.lookup x=some .free:=hk;rw[k] at this;cases this
def aqN(to ti te:TE)(tget:V→V→Hp→VK→Prop)(tip:TIp)(tset:alA):TS:=fun D σ H=>to σ H fun o H1=>ti σ H1 fun i H2=>tget o i H2 fun x H3=>te σ H3 fun y H4=>tip x y H4 fun z H5=>tset o i z H5 fun H6=>D.nx σ H6
def aqO(X:Cx)(t:V→V→Hp→VK→Prop):Prop:=
 ∀ (pins:List (Addr×Obj)) (s:Shared) (σ:St) (H:Hp) (o i:V) (ov iv:Value) (Q:VK),Inv X pins σ H s→RelV o ov→RelV i iv→t o i H Q→
  wpAny (model X.prog X.w) X.A (getItem ov iv) (EP X pins σ Q) X.xe s
theorem anI{o i e:Expr}{to ti te:TE}{tget:V→V→Hp→VK→Prop}{tip:TIp}{tset:alA}{op:Operator}{tpos:Pos}(ho:PE X o to)(hi:PE X i ti)(hg:aqO X tget)(he:PE X e te)(hp:PIp X op tip)(hs:apg X tset)
  (ha:∀ ov iv new,augStore i ov iv new=(do holding [new,ov,iv] (setItem ov iv new);release [new,ov,iv] [];pure .next):=by intros;rfl):PS X (.AugAssign (.Subscript o i tpos) op e pos) (aqN to ti te tget tip tset):=by
 intro pins s σ H D I h;refine wpAny_AugAssign_SubscriptAny (gf (ho pins s σ H _ I h) fun ov s1 ⟨x1,H1,I1,r1,q1⟩=>?_) ha;refine gf (hi pins s1 σ H1 _ I1 q1) fun iv s2 ⟨x2,H2,I2,r2,q2⟩=>?_;refine gf (hg pins s2 σ H2 x1 x2 ov iv _ I2 r1 r2 q2) fun old s3 ⟨x3,H3,I3,r3,q3⟩=>?_;refine gf (he pins s3 σ H3 _ I3 q3) fun v s4 ⟨x4,H4,I4,r4,q4⟩=>?_;refine gf (hp pins s4 σ H4 x3 x4 old v _ I4 r3 r4 q4) fun new s5 ⟨x5,H5,I5,r5,q5⟩=>?_;exact gf (hs pins s5 σ H5 x1 x2 x5 ov iv new _ I5 r1 r2 r5 q5) fun _ s6 ⟨H6,I6,q6⟩=>⟨σ,H6,I6,q6⟩
def zx7(f:Int→Int→Int)(x:V)(y:V)(H:Hp)(Q:VK):=fun i j=>(x=.int i∧y=.int j∧Q (.int (f i j)) H)
def ipI(f:Int→Int→Int):TIp:=fun x y H Q=>zx_2 (zx7 f x y H Q)
theorem agf:PIp X .Add (ipI fun i j=>i+j):=by
 intro pins s σ H x y v u Q I r1 r2 h;obtain⟨i,j,e1,e2,q⟩:=h;subst e1;subst e2;obtain⟨t,rfl⟩:=r1;obtain⟨t',rfl⟩:=r2;exact iadd_int ⟨.int _,H,I.tok _,⟨_,rfl⟩,q⟩
end
section
variable{X:Cx}{pos:Pos}
def apj(c:TT)(tb:TS):TS:=fun D σ H=>∃ W:Nat→St→Hp→Prop,(∃ m,W m σ H)∧∀ m σ H,W m σ H→
 c σ H fun b H1=>if b=true then ∃ N:St→Hp→Prop,(∀ σ' H',N σ' H'→∃ m',m' < m∧W m' σ' H')∧tb { D with nx:=N,ct:=N,bk:=D.nx } σ H1 else D.nx σ H1
theorem EJ{c:Expr}{body:List Stmt}{tc:TT}{tb:TS}(hp:PassesOwn (model X.prog X.w) X.A X.env X.xe)(hc:PT X c tc)(hb:PSs X body tb):PS X (.While c body [] pos) (apj tc tb):=by
 intro pins s σ H D I h;obtain⟨W,⟨m0,w0⟩,turn⟩:=h;refine wpAny_While (codeAny_whileLoop (fun n s'=>∃ σ' H',Inv X pins σ' H' s'∧W n σ' H') ?_ m0 ⟨σ,H,I,w0⟩);rintro n s1 ⟨σ1,H1,I1,w1⟩;refine as7 hp (gf (hc pins s1 σ1 H1 _ I1 (turn n σ1 H1 w1)) fun b s2 ⟨H2,I2,q2⟩=>?_);cases b with
 |true=>
  obtain⟨N,hN,q2⟩:=q2;rw[afO rfl];refine as7 hp (gf (hb pins s2 σ1 H2 _ I2 q2) fun f s3 q3=>?_);cases f with
  |next=>
   obtain⟨σ3,H3,I3,n3⟩:=q3;obtain⟨m',hm,w3⟩:=hN σ3 H3 n3;exact⟨m',hm,σ3,H3,I3,w3⟩
  |cont=>
   obtain⟨σ3,H3,I3,n3⟩:=q3;obtain⟨m',hm,w3⟩:=hN σ3 H3 n3;exact⟨m',hm,σ3,H3,I3,w3⟩
  |brk=>exact q3
  |ret v=>exact q3
 |false=>
  rw[acK ak7];exact wpAny_execs_nil ⟨σ1,H2,I2,q2⟩
end
structure It where
 go:Nat→Hp→Prop
 yld:Nat→Hp→V→Hp→Prop
 stop:Nat→Hp→Prop
def TX(X:Cx)(pins:List (Addr×Obj))(H:Hp)(b:Addr):Prop:=
 H b=none∧b≠X.env.locals∧b∉X.fs∧(b∈X.ex∨X.YI.heap.objs.size≤b)∧(∀ x c,X.env.cells.lookup x=some c→c≠b)∧∀ p∈X.pn++pins,p.1≠b
theorem Inv.ajD{X:Cx}{pins:List (Addr×Obj)}{σ:St}{H H':Hp}{s:Shared}{b:Addr}(I:Inv X pins σ H s)(hb:s.heap.objs.size≤b)(hn:H' b=none):TX X pins H' b:=by
 refine⟨hn,Nat.ne_of_gt (apb I.lt hb),I.arJ hb,.inr (ao0 I.sz hb),fun x c e z=>?_,fun p hp z=>?_⟩
 ·obtain⟨v,q⟩:=I.cell x c e;exact absurd (apb q.lt (by rw[z];exact hb)) (asy _)
 ·exact absurd (apb (anR (I.pin p hp).1) (by rw[z];exact hb)) (asy _)
structure Turn(P:Program)(w:World)(K:Fg)(tg:Expr)(J:It)(fp:List Addr)(it:Addr)(tn:Nat→Heap→Prop):Prop where
 mem:it∈fp
 obj:∀ i h,tn i h→∀ b∈fp,∃ o,h.get? b=some o∧∀ v,o.data≠.cell v
 keep:∀ i h h',tn i h→(∀ b∈fp,∀ o,h.get? b=some o→h'.get? b=some o)→tn i h'
 item:∀ (X:Cx),X.prog=P→X.w=w→X.K=K→X.calm=true→∀ (i:Nat) (pins:List (Addr×Obj)) (s:Shared) (σ:St) (H:Hp) (E:Value→Shared→Prop),Inv X pins σ H s→(∀ b∈fp,TX X pins H b)→tn i s.heap→J.go i H→
  wpAny (model P w) X.A (pyNext (.ref it)) (fun r s1=>∃ u,r=some u∧
   wpAny (model P w) X.A (letOwnedTupleGo tg (.ref it) u) (fun _ s2=>∃ x H',Inv X pins σ H' s2∧RelV x u∧J.yld i H x H'∧tn (i+1) s2.heap∧∀ b∈fp,H' b=none) E s1) E s
 done:∀ (X:Cx),X.prog=P→X.w=w→X.K=K→X.calm=true→∀ (i:Nat) (pins:List (Addr×Obj)) (s:Shared) (σ:St) (H:Hp) (E:Value→Shared→Prop),Inv X pins σ H s→(∀ b∈fp,TX X pins H b)→tn i s.heap→J.stop i H→
  wpAny (model P w) X.A (pyNext (.ref it)) (fun r s1=>r=none∧Inv X pins σ H s1) E s
 self:∀ (A:Around) (i:Nat) (s:Shared) (Q:Value→Shared→Prop) (E:Value→Shared→Prop),tn i s.heap→Q (.ref it) s→wpAny (model P w) A (pyIter (.ref it)) Q E s
abbrev TI:=St→Hp→(It→Hp→Prop)→Prop
def PIE(X:Cx)(pins:List (Addr×Obj))(σ:St)(tg:Expr)(R:It→Hp→Prop)(itv:Value)(s2:Shared):Prop:=
 ∃ (it:Addr) (fp:List Addr) (tn:Nat→Heap→Prop) (J:It) (H':Hp),itv=.ref it∧Inv X pins σ H' s2∧Turn X.prog X.w X.K tg J fp it tn∧tn 0 s2.heap∧(∀ b∈fp,TX X pins H' b)∧R J H'
def PI(X:Cx)(tg iter:Expr)(wi:TI):Prop:=
 ∀ (pins:List (Addr×Obj)) (s:Shared) (σ:St) (H:Hp) (R:It→Hp→Prop),Inv X pins σ H s→wi σ H R→
  wpAny (model X.prog X.w) X.A (eval iter X.env) (fun v s1=>wpAny (model X.prog X.w) X.A (pyIter v) (PIE X pins σ tg R) X.xe s1) X.xe s
theorem TY{M:Model}{A:Around}{E:Value→Shared→Prop}{s:Shared}{tg:Expr}{it:Addr}{u:Value}{o:Obj}{n:String}{vs:Array Value}{Q:Unit→Shared→Prop}(ho:s.heap.get? it=some o)(hc:o.cls=.type n)(hd:o.data=.fields vs)
    (hn:["enumerate","zip","dict_itemiterator","dict_reverseitemiterator","odict_iterator","itertools.zip_longest","itertools.pairwise"].contains n=false) (hQ:Q () s):wpAny M A (letOwnedTupleGo tg (.ref it) u) Q E s:=by
  unfold letOwnedTupleGo;cases tg <;> first
    | exact alu hQ
    | (cases u <;> first
        | exact alu hQ
        | (refine adg (wpAny_load ho ?_)
           rw[hc,hd];show wpAny M A (if (["enumerate","zip","dict_itemiterator","dict_reverseitemiterator","odict_iterator","itertools.zip_longest","itertools.pairwise"].contains n && vs[0]? == some (rawInt _))=true then _ else _) Q E s;rw[acK (by intro h;rw[hn,atJ] at h;cases h)];exact alu hQ))
def Itl(K:Fg)(a:Addr):It:=
 ⟨fun i H=>∃ xs x,cJ K H a xs∧xs[i]?=some x,fun i H x H'=>H'=H∧∀ xs,cJ K H a xs→xs[i]?=some x,fun i H=>∃ xs,cJ K H a xs∧xs.length≤i⟩
def Itt(K:Fg)(a:Addr):It:=
 ⟨fun i H=>∃ xs x,Io K H a xs∧xs[i]?=some x,fun i H x H'=>H'=H∧∀ xs,Io K H a xs→xs[i]?=some x,fun i H=>∃ xs,Io K H a xs∧xs.length≤i⟩
def Itr(lo:Int)(n:Nat):It:=⟨fun i _=>i < n,fun i H x H'=>H'=H∧x=.int (lo+i),fun i _=>n≤i⟩
theorem ajE{P:Program}{w:World}{K:Fg}{tg:Expr}(a it:Addr):Turn P w K tg (Itl K a) [it] it (fun i h=>h.IsListIter it a i) where
 mem:=by simp
 obj:=fun i h st b hb=>by
  have e:b=it:=by simpa using hb
  subst e;obtain⟨o,e,c,d⟩:=st;exact⟨o,e,fun v z=>by rw[d] at z;cases z⟩
 keep:=fun i h h' st k=>st.at fun o e=>k it (by simp) o e
 item:=by
  intro X hP hw hK hc i pins s σ H E I hf st hg;subst hP hw hK;obtain⟨xs,x,hq,hx⟩:=hg;obtain⟨its,rv,p,hz⟩:=I.list hq;obtain⟨u,hu,ru⟩:=rv.get hx;obtain⟨f0,f1,f2,f3,f4,f5⟩:=hf it (by simp);refine wpAny_pyNext_list_item st p.isList (x:=u) (by simpa using hu) fun h' st' sb=>?_;have I1:Inv X pins σ H { s with heap:=h' }:=I.turned (t':=s.toks) (fun b o hb e=>(sb.2 b hb).trans e) f0 f1 f3 f4 f5;obtain⟨o,e,c,d⟩:=id st';exact⟨u,rfl,TY (s:={ s with heap:=h' }) e c d (by decide) ⟨x,H,I1,ru,⟨rfl,fun ys hy=>by rw[I.ac7 hy hq];exact hx⟩,st',fun b hb=>(hf b hb).1⟩⟩
 done:=by
  intro X hP hw hK hc i pins s σ H E I hf st hg;subst hP hw hK;obtain⟨xs,hq,hx⟩:=hg;obtain⟨its,rv,p,hz⟩:=I.list hq;obtain⟨f0,f1,f2,f3,f4,f5⟩:=hf it (by simp);have hl:=rv.length;exact wpAny_pyNext_list_end (I.ok.hd hc) st p.isList (by simp;omega) fun h' eb=>⟨rfl,I.turned (t':=s.toks) (fun b o hb e=>eb b o hb e) f0 f1 f3 f4 f5⟩
 self:=fun _ _ _ _ _ st h=>wpAny_pyIter_listiter st h
theorem agg{P:Program}{w:World}{K:Fg}{tg:Expr}(a it:Addr):Turn P w K tg (Itt K a) [it] it (fun i h=>h.IsTupleIter it a i) where
 mem:=by simp
 obj:=fun i h st b hb=>by
  have e:b=it:=by simpa using hb
  subst e;obtain⟨o,e,c,d⟩:=st;exact⟨o,e,fun v z=>by rw[d] at z;cases z⟩
 keep:=fun i h h' st k=>st.at fun o e=>k it (by simp) o e
 item:=by
  intro X hP hw hK hc i pins s σ H E I hf st hg;subst hP hw hK;obtain⟨xs,x,hq,hx⟩:=hg;obtain⟨its,rv,p,hz⟩:=I.tuple hq;obtain⟨u,hu,ru⟩:=rv.get hx;obtain⟨f0,f1,f2,f3,f4,f5⟩:=hf it (by simp);refine wpAny_pyNext_tuple_item st (show s.heap.IsTuple a its.toArray from p) (x:=u) (by simpa using hu) fun h' st' sb=>?_;have I1:Inv X pins σ H { s with heap:=h' }:=I.turned (t':=s.toks) (fun b o hb e=>(sb.2 b hb).trans e) f0 f1 f3 f4 f5;obtain⟨o,e,c,d⟩:=id st';exact⟨u,rfl,TY (s:={ s with heap:=h' }) e c d (by decide) ⟨x,H,I1,ru,⟨rfl,fun ys hy=>by rw[I.ajC hy hq];exact hx⟩,st',fun b hb=>(hf b hb).1⟩⟩
 done:=by
  intro X hP hw hK hc i pins s σ H E I hf st hg;subst hP hw hK;obtain⟨xs,hq,hx⟩:=hg;obtain⟨its,rv,p,hz⟩:=I.tuple hq;obtain⟨f0,f1,f2,f3,f4,f5⟩:=hf it (by simp);have hl:=rv.length;exact wpAny_pyNext_tuple_end (I.ok.hd hc) st (show s.heap.IsTuple a its.toArray from p) (by simp;omega) fun h' eb=>⟨rfl,I.turned (t':=s.toks) (fun b o hb e=>eb b o hb e) f0 f1 f3 f4 f5⟩
 self:=fun _ _ _ _ _ st h=>wpAny_pyIter_tupleiter st h
theorem agh{P:Program}{w:World}{K:Fg}{tg:Expr}(it:Addr)(lo:Int)(n:Nat):Turn P w K tg (Itr lo n) [it] it (fun i h=>IsRangeIter h it (lo+(i:Nat) * 1) ((n:Int) - (i:Nat)) 1) where
 mem:=by simp
 obj:=fun i h st b hb=>by
  have e:b=it:=by simpa using hb
  subst e;exact⟨_,st,fun v z=>by
   have z':Data.fields _=Data.cell v:=z;cases z'⟩
 keep:=fun i h h' st k=>k it (by simp) _ st
 item:=by
  intro X hP hw hK hc i pins s σ H E I hf st hg;subst hP hw hK;obtain⟨f0,f1,f2,f3,f4,f5⟩:=hf it (by simp);have W:=Walks.range (prog:=X.prog) (w:=X.w) (I.ok.hd hc) it lo 1 n;refine W.item i s _ _ hg st fun v h' tk hv st' kk=>?_;obtain⟨t,rfl⟩:=hv;have I1:Inv X pins σ H { s with heap:=h',toks:=tk }:=I.turned (fun b o hb e=>kk b o (by simpa using hb) e) f0 f1 f3 f4 f5;refine⟨_,rfl,TY (s:={ s with heap:=h',toks:=tk }) (n:="range_iterator") st' rfl rfl (by decide) ⟨.int (lo+i),H,I1,⟨t,?_⟩,⟨rfl,rfl⟩,st',fun b hb=>(hf b hb).1⟩⟩;rw[Int.mul_one]
 done:=by
  intro X hP hw hK hc i pins s σ H E I hf st hg;subst hP hw hK;obtain⟨f0,f1,f2,f3,f4,f5⟩:=hf it (by simp);exact wpAny_pyNext_range_end (I.ok.hd hc) st (by have:n≤i:=hg;omega) fun h' eb=>⟨rfl,I.turned (t':=s.toks) (fun b o hb e=>eb b o hb e) f0 f1 f3 f4 f5⟩
 self:=fun _ _ _ _ _ st h=>wpAny_pyIter_rangeiter st h
section
variable{X:Cx}{tg:Expr}
def zx8(K:Fg)(R:It→Hp→Prop)(x:V)(H1:Hp):=fun a=>(x=.ref a∧(∃ xs,cJ K H1 a xs)∧R (Itl K a) H1)
def aoK(K:Fg)(tl:TE):TI:=fun σ H R=>tl σ H fun x H1=>Exists (zx8 K R x H1)
def zx9(K:Fg)(R:It→Hp→Prop)(x:V)(H1:Hp):=fun a=>(x=.ref a∧(∃ xs,Io K H1 a xs)∧R (Itt K a) H1)
def aqQ(K:Fg)(tl:TE):TI:=fun σ H R=>tl σ H fun x H1=>Exists (zx9 K R x H1)
theorem vo{l:Expr}{tl:TE}(hl:PE X l tl):PI X tg l (aoK X.K tl):=by
 intro pins s σ H R I h;refine gf (hl pins s σ H _ I h) fun v s1 ⟨x,H1,I1,r1,q1⟩=>?_;obtain⟨a,e,⟨xs,hq⟩,q⟩:=q1;subst e;cases r1;obtain⟨its,rv,p,hz⟩:=I1.list hq;refine wpAny_pyIter_list p.isList ?_;refine⟨s1.heap.objs.size,[s1.heap.objs.size],_,_,H1,rfl,I1.kept (t':=s1.toks) fun b o e=>akR _ e,ajE a _,⟨_,anF _ rfl,rfl,rfl⟩,fun b hb=>?_,q⟩;have e:b=s1.heap.objs.size:=by simpa using hb
 subst e;exact I1.ajD (aiM _) (I1.cI.fresh (aiM _))
theorem apk{l:Expr}{tl:TE}(hl:PE X l tl):PI X tg l (aqQ X.K tl):=by
 intro pins s σ H R I h;refine gf (hl pins s σ H _ I h) fun v s1 ⟨x,H1,I1,r1,q1⟩=>?_;obtain⟨a,e,⟨xs,hq⟩,q⟩:=q1;subst e;cases r1;obtain⟨its,rv,p,hz⟩:=I1.tuple hq;refine wpAny_pyIter_tuple (show s1.heap.IsTuple a its.toArray from p) ?_;refine⟨s1.heap.objs.size,[s1.heap.objs.size],_,_,H1,rfl,I1.kept (t':=s1.toks) fun b o e=>akR _ e,agg a _,⟨_,anF _ rfl,rfl,rfl⟩,fun b hb=>?_,q⟩;have e:b=s1.heap.objs.size:=by simpa using hb
 subst e;exact I1.ajD (aiM _) (I1.cI.fresh (aiM _))
theorem alE{pins:List (Addr×Obj)}{σ:St}{H:Hp}{s:Shared}{R:It→Hp→Prop}{E:Value→Shared→Prop}{lo hi:Int}{t u v:Tok}{tk:Nat}(I:Inv X pins σ H s)(h1:-(2 ^ 62)≤lo)(h2:lo < 2 ^ 62)(h3:-(2 ^ 62)≤hi)(h4:hi < 2 ^ 62)
  (q:R (Itr lo (hi - lo).toNat) H):wpAny (model X.prog X.w) X.A (pyIter (.ref s.heap.objs.size)) (PIE X pins σ tg R) E { s with heap:=s.heap.push { cls:=.type "range",data:=.fields #[.int lo t,.int hi u,.int 1 v] },toks:=tk }:=by
 refine wpAny_pyIter_range (IsRange.new ..) (small_one h1 h2 h3 h4) ?_;have I1:Inv X pins σ H { s with heap:=s.heap.push { cls:=.type "range",data:=.fields #[.int lo t,.int hi u,.int 1 v] },toks:=tk }:=I.kept fun b o e=>akR _ e;refine⟨(s.heap.push { cls:=.type "range",data:=.fields #[.int lo t,.int hi u,.int 1 v] }).objs.size,[(s.heap.push { cls:=.type "range",data:=.fields #[.int lo t,.int hi u,.int 1 v] }).objs.size],_,_,H,rfl,
  I1.kept (t':=tk) fun b o e=>akR _ e,agh _ lo (hi - lo).toNat,?_,fun b hb=>?_,q⟩
 ·have e1:lo+((0:Nat):Int) * 1=lo:=by simp
  have e2:(((hi - lo).toNat:Nat):Int) - ((0:Nat):Int)=Builtin.Range.rangeSize lo hi 1:=by rw[rangeSize_one];split <;> omega
  show IsRangeIter _ _ (lo+((0:Nat):Int) * 1) ((((hi - lo).toNat:Nat):Int) - ((0:Nat):Int)) 1;rw[e1,e2];exact anF _ rfl
 ·have e:b=(s.heap.push { cls:=.type "range",data:=.fields #[.int lo t,.int hi u,.int 1 v] }).objs.size:=by simpa using hb
  subst e;exact I1.ajD (aiM _) (I1.cI.fresh (aiM _))
def zx10(R:It→Hp→Prop)(vs:List V)(H1:Hp):=fun(j:Int)=>(vs=[.int j]∧-(2 ^ 62)≤j∧j < 2 ^ 62∧R (Itr 0 j.toNat) H1)
def aqR(ta:TA):TI:=fun σ H R=>ta σ H fun vs H1=>Exists (zx10 R vs H1)
theorem ajF{a:Expr}{ta:TA}{p pos:Pos}(hg:Gl X "range")(hm:X.mg "range"=none)(ha:PA X [a] ta)(hs:starEach [a] X.env=[(false,eval a X.env)]:=by rfl):PI X tg (.Call (.Name "range" p) [a] [] pos) (aqR ta):=by
 intro pins s σ H R I h;refine Call_ (Jh I hg hm boot_range (asJ (gf (ha pos pins s σ H _ I h) fun us s1 ⟨vs,H1,I1,r1,q1⟩=>?_) hs rfl));obtain⟨j,e,q1,q2,q⟩:=q1;subst e;cases r1 with
 |cons r rr=>
  cases rr;obtain⟨t,rfl⟩:=r;exact call_range_1 (alE I1 (by omega) (by omega) q1 q2 (by simpa using q))
def aqS(wi:TI)(g:TG)(tb:TS):TS:=fun D σ H=>wi σ H fun J H1=>∃ W:Nat→Nat→St→Hp→Prop,(∃ m,W 0 m σ H1)∧∀ i m σ H,W i m σ H→
 (J.stop i H∧D.nx σ H)∨(J.go i H∧∃ N:St→Hp→Prop,(∀ σ' H',N σ' H'→∃ m',m' < m∧W (i+1) m' σ' H')∧∀ x H',J.yld i H x H'→g x σ H' fun σ2 H2=>tb { D with nx:=N,ct:=N,bk:=D.nx } σ2 H2)
def TZ(fp:List Addr)(h:Heap):List (Addr×Obj):=fp.filterMap fun b=>(h.get? b).map fun o=>(b,o)
theorem Ji{fp:List Addr}{h:Heap}{b:Addr}{o:Obj}(hb:b∈fp)(e:h.get? b=some o):(b,o)∈TZ fp h:=List.mem_filterMap.mpr ⟨b,hb,by rw[e];rfl⟩
theorem ajG{fp:List Addr}{h:Heap}{p:Addr×Obj}(hp:p∈TZ fp h):p.1∈fp∧h.get? p.1=some p.2:=by
 obtain⟨b,hb,e⟩:=List.mem_filterMap.mp hp;cases q:h.get? b with
 |none=>rw[q] at e;cases e
 |some o=>
  rw[q] at e;have e':(b,o)=p:=apa e;subst e';exact⟨hb,q⟩
theorem Inv.pinned{pins:List (Addr×Obj)}{σ:St}{H:Hp}{s:Shared}{fp:List Addr}(I:Inv X pins σ H s)(hf:∀ b∈fp,TX X pins H b)(ho:∀ b∈fp,∃ o,s.heap.get? b=some o∧∀ v,o.data≠.cell v):Inv X (pins++TZ fp s.heap) σ H s:=
 I.aix fun p hp=>(aoF.mp hp).elim (fun z=>I.pin p (aqP _ z)) fun z=>by
  obtain⟨hb,e⟩:=ajG z;obtain⟨f0,f1,f2,_⟩:=hf p.1 hb;obtain⟨o,e',d⟩:=ho p.1 hb;rw[e] at e';cases e';exact⟨e,f0,f1,f2,d⟩
theorem Inv.K4{pins pl:List (Addr×Obj)}{σ:St}{H:Hp}{s:Shared}(I:Inv X (pins++pl) σ H s):Inv X pins σ H s:=I.aix fun p hp=>I.pin p (aqP _ (aoI _ hp))
theorem Jj{iter:Expr}{body:List Stmt}{wi:TI}{g:TG}{tb:TS}{pos:Pos}(hp:PassesOwn (model X.prog X.w) X.A X.env X.xe)(hc:X.calm=true)(hi:PI X tg iter wi)(hg:PG X tg g)(hb:PSs X body tb)
  (hs:∀ x,foldedSetIterable iter X.env x=pure x:=by intro _;rfl):PS X (.For tg iter body [] pos) (aqS wi g tb):=by
 intro pins s σ H D I h;refine wpAny_For (gf (hi pins s σ H _ I h) fun v s1 h1=>gf h1 fun itv s2 h2=>?_) hs;obtain⟨it,fp,tn,J,H2,e,I2,T,st2,f2,W,⟨m0,w0⟩,turn⟩:=h2;subst e;have stat:∀ {H':Hp},(∀ b∈fp,H' b=none)→∀ b∈fp,TX X pins H' b:=fun hn b hb=>⟨hn b hb,(f2 b hb).2⟩;refine codeAny_forLoop_any (fun n s'=>∃ i σ' H',Inv X pins σ' H' s'∧tn i s'.heap∧(∀ b∈fp,H' b=none)∧W i n σ' H') ?_ m0 ⟨0,σ,H2,I2,st2,fun b hb=>(f2 b hb).1,w0⟩;rintro n s3 ⟨i,σ3,H3,I3,st3,fr3,w3⟩;rcases turn i n σ3 H3 w3 with⟨stop,qn⟩|⟨go,N,hN,step⟩
 ·refine as7 hp (gf (T.done X rfl rfl rfl hc i pins s3 σ3 H3 X.xe I3 (stat fr3) st3 stop) fun r s4 ⟨hr,I4⟩=>?_);subst hr;exact wpAny_execs_nil ⟨σ3,H3,I4,qn⟩
 ·refine as7 hp (gf (T.item X rfl rfl rfl hc i pins s3 σ3 H3 X.xe I3 (stat fr3) st3 go) fun r s4 ⟨u,hr,h4⟩=>?_);subst hr;refine as7 hp (gf h4 fun _ s5 ⟨x,H5,I5,r5,y5,st5,fr5⟩=>?_);have I5':=I5.pinned (stat fr5) (T.obj _ _ st5);refine as7 hp (gf (hg _ s5 σ3 H5 x u _ I5' r5 (step x H5 y5)) fun _ s6 ⟨σ6,H6,I6,q6⟩=>?_);refine as7 hp (gf (hb _ s6 σ6 H6 _ I6 q6) fun f s7 q7=>?_);have again:∀ {σ7:St} {H7:Hp},Inv X (pins++TZ fp s5.heap) σ7 H7 s7→N σ7 H7→∃ m,m < n∧∃ i σ' H',Inv X pins σ' H' s7∧tn i s7.heap∧(∀ b∈fp,H' b=none)∧W i m σ' H':=fun{σ7 H7} I7 n7=>by
   obtain⟨m',hm,w7⟩:=hN σ7 H7 n7;refine⟨m',hm,i+1,σ7,H7,I7.K4,T.keep _ _ _ st5 fun b hb o e=>(I7.pin (b,o) (aqP _ (aqP _ (Ji hb e)))).1,fun b hb=>?_,w7⟩;obtain⟨o,e,d⟩:=T.obj _ _ st5 b hb;exact(I7.pin (b,o) (aqP _ (aqP _ (Ji hb e)))).2.1
  cases f with
  |next=>obtain⟨σ7,H7,I7,n7⟩:=q7;exact again I7 n7
  |cont=>obtain⟨σ7,H7,I7,n7⟩:=q7;exact again I7 n7
  |brk=>obtain⟨σ7,H7,I7,q7⟩:=q7;exact⟨σ7,H7,I7.K4,q7⟩
  |ret v=>obtain⟨x7,σ7,H7,I7,r7,q7⟩:=q7;exact⟨x7,σ7,H7,I7.K4,r7,q7⟩
end
theorem EK{K:Fg}{a:Addr}{xs:List V}{g:TG}{tb:TS}{D:Ends}{σ:St}{H:Hp}(Pv:Nat→St→Hp→Prop)(h0:Pv 0 σ H)(hl:∀ i σ H,i≤xs.length→Pv i σ H→cJ K H a xs)
  (hs:∀ i x σ H,xs[i]?=some x→Pv i σ H→g x σ H fun σ2 H2=>tb { D with nx:=Pv (i+1),ct:=Pv (i+1),bk:=D.nx } σ2 H2) (hd:∀ σ H,Pv xs.length σ H→D.nx σ H) :
  ∃ W:Nat→Nat→St→Hp→Prop,(∃ m,W 0 m σ H)∧∀ i m σ H,W i m σ H→
   ((Itl K a).stop i H∧D.nx σ H)∨((Itl K a).go i H∧∃ N:St→Hp→Prop,(∀ σ' H',N σ' H'→∃ m',m' < m∧W (i+1) m' σ' H')∧∀ x H',(Itl K a).yld i H x H'→g x σ H' fun σ2 H2=>tb { D with nx:=N,ct:=N,bk:=D.nx } σ2 H2):=by
 refine⟨fun i m σ H=>m=xs.length - i∧i≤xs.length∧Pv i σ H,⟨xs.length,by simp,aqu _,h0⟩,?_⟩;rintro i m σ H ⟨rfl,hi,p⟩;have q:=hl i σ H hi p;by_cases hlt:i < xs.length
 ·refine .inr ⟨⟨xs,xs[i],q,by simp[hlt]⟩,Pv (i+1),fun σ' H' p'=>⟨xs.length - (i+1),by omega,rfl,hlt,p'⟩,fun x H' y=>?_⟩;obtain⟨e,y⟩:=y;subst e;exact hs i x σ _ (y xs q) p
 ·have e:i=xs.length:=by omega
  subst e;exact .inl ⟨⟨xs,q,aiM _⟩,hd σ H p⟩
theorem anJ{K:Fg}{a:Addr}{xs:List V}{g:TG}{tb:TS}{D:Ends}{σ:St}{H:Hp}(Pv:Nat→St→Hp→Prop)(h0:Pv 0 σ H)(hl:∀ i σ H,i≤xs.length→Pv i σ H→Io K H a xs)
  (hs:∀ i x σ H,xs[i]?=some x→Pv i σ H→g x σ H fun σ2 H2=>tb { D with nx:=Pv (i+1),ct:=Pv (i+1),bk:=D.nx } σ2 H2) (hd:∀ σ H,Pv xs.length σ H→D.nx σ H) :
  ∃ W:Nat→Nat→St→Hp→Prop,(∃ m,W 0 m σ H)∧∀ i m σ H,W i m σ H→
   ((Itt K a).stop i H∧D.nx σ H)∨((Itt K a).go i H∧∃ N:St→Hp→Prop,(∀ σ' H',N σ' H'→∃ m',m' < m∧W (i+1) m' σ' H')∧∀ x H',(Itt K a).yld i H x H'→g x σ H' fun σ2 H2=>tb { D with nx:=N,ct:=N,bk:=D.nx } σ2 H2):=by
 refine⟨fun i m σ H=>m=xs.length - i∧i≤xs.length∧Pv i σ H,⟨xs.length,by simp,aqu _,h0⟩,?_⟩;rintro i m σ H ⟨rfl,hi,p⟩;have q:=hl i σ H hi p;by_cases hlt:i < xs.length
 ·refine .inr ⟨⟨xs,xs[i],q,by simp[hlt]⟩,Pv (i+1),fun σ' H' p'=>⟨xs.length - (i+1),by omega,rfl,hlt,p'⟩,fun x H' y=>?_⟩;obtain⟨e,y⟩:=y;subst e;exact hs i x σ _ (y xs q) p
 ·have e:i=xs.length:=by omega
  subst e;exact .inl ⟨⟨xs,q,aiM _⟩,hd σ H p⟩
abbrev R2:=V→V→Hp→VK→Prop
def Oo(X:Cx)(f:Value→Value→Sem Value)(r:R2):Prop:=
 ∀ (pins:List (Addr×Obj)) (s:Shared) (σ:St) (H:Hp) (x y:V) (v u:Value) (Q:VK),Inv X pins σ H s→RelV x v→RelV y u→r x y H Q→
  wpAny (model X.prog X.w) X.A (f v u) (EP X pins σ Q) X.xe s
def Ai(X:Cx)(f:Value)(r:List V→Hp→VK→Prop):Prop:=
 ∀ (pins:List (Addr×Obj)) (s:Shared) (σ:St) (H:Hp) (xs:List V) (us:List Value) (Q:VK),Inv X pins σ H s→bK xs us→r xs H Q→
  wpAny (model X.prog X.w) X.A (call f us) (EP X pins σ Q) X.xe s
def arW(X:Cx)(r:V→Hp→(Bool→Hp→Prop)→Prop):Prop:=
 ∀ (pins:List (Addr×Obj)) (s:Shared) (σ:St) (H:Hp) (x:V) (v:Value) (Q:Bool→Hp→Prop),Inv X pins σ H s→RelV x v→r x H Q→
  wpAny (model X.prog X.w) X.A (truthy v) (TP X pins σ Q) X.xe s
def tOp(r:R2)(ta tb:TE):TE:=fun σ H Q=>ta σ H fun x H1=>tb σ H1 fun y H2=>r x y H2 Q
def zx11(C:Int→Int→Prop)(g:Int→Int→V)(x:V)(y:V)(H:Hp)(Q:VK):=fun i j=>(x=.int i∧y=.int j∧C i j∧Q (g i j) H)
def rI(C:Int→Int→Prop)(g:Int→Int→V):R2:=fun x y H Q=>zx_2 (zx11 C g x y H Q)
def zx12(g:Int→Int→V)(x:V)(y:V)(H:Hp)(Q:VK):=fun i j=>(x=.int i∧y=.int j∧Q (g i j) H)
def rI0(g:Int→Int→V):R2:=fun x y H Q=>zx_2 (zx12 g x y H Q)
section
variable{X:Cx}{a b c:Expr}{ta tb tc:TE}{pos:Pos}
theorem apm(ha:PE X a ta)(hb:PE X b tb){pins:List (Addr×Obj)}{s:Shared}{σ:St}{H:Hp}{R:V→V→Hp→Prop}(I:Inv X pins σ H s)
  (h:ta σ H fun x H1=>tb σ H1 fun y H2=>R x y H2) {Q:Value→Shared→Prop} {f:Value→Value→Sem Value}
  (hf:∀ v u s2 x y H2,Inv X pins σ H2 s2→RelV x v→RelV y u→R x y H2→wpAny (model X.prog X.w) X.A (f v u) Q X.xe s2) :
  wpAny (model X.prog X.w) X.A (eval a X.env) (fun v s₁=>wpAny (model X.prog X.w) X.A (eval b X.env) (fun u s₂=>wpAny (model X.prog X.w) X.A (f v u) Q X.xe s₂) X.xe s₁) X.xe s:=by
 refine gf (ha pins s σ H _ I h) fun v s1 ⟨x,H1,I1,r1,q1⟩=>?_;refine gf (hb pins s1 σ H1 _ I1 q1) fun u s2 ⟨y,H2,I2,r2,q2⟩=>?_;exact hf v u s2 x y H2 I2 r1 r2 q2
theorem fZ{op:Operator}{r:R2}(ho:Oo X (binaryOp op) r)(ha:PE X a ta)(hb:PE X b tb):PE X (.BinOp a op b pos) (tOp r ta tb):=by
 intro pins s σ H Q I h;exact wpAny_BinOp (apm ha hb I h fun v u s2 x y H2 I2 rx ry q=>ho pins s2 σ H2 x y v u Q I2 rx ry q)
theorem opI{f:Value→Value→Sem Value}{C:Int→Int→Prop}{g:Int→Int→Int}
  (rule:∀ (i j:Int) (t u:Tok) (s:Shared) (Q:Value→Shared→Prop) (E:Value→Shared→Prop),C i j→Q (.int (g i j) s.toks) { s with toks:=s.toks+1 }→wpAny (model X.prog X.w) X.A (f (.int i t) (.int j u)) Q E s) :
  Oo X f (rI C fun i j=>.int (g i j)):=by
 intro pins s σ H x y v u Q I rx ry h;obtain⟨i,j,rfl,rfl,hc,q⟩:=h;obtain⟨t,rfl⟩:=rx;obtain⟨t',rfl⟩:=ry;exact rule i j t t' s _ _ hc ⟨.int (g i j),H,I.tok _,⟨_,rfl⟩,q⟩
theorem apn{f:Value→Value→Sem Value}{g:Int→Int→Int}
  (rule:∀ (i j:Int) (t u:Tok) (s:Shared) (Q:Value→Shared→Prop) (E:Value→Shared→Prop),Q (.int (g i j) s.toks) { s with toks:=s.toks+1 }→wpAny (model X.prog X.w) X.A (f (.int i t) (.int j u)) Q E s) :
  Oo X f (rI0 fun i j=>.int (g i j)):=by
 intro pins s σ H x y v u Q I rx ry h;obtain⟨i,j,rfl,rfl,q⟩:=h;obtain⟨t,rfl⟩:=rx;obtain⟨t',rfl⟩:=ry;exact rule i j t t' s _ _ ⟨.int (g i j),H,I.tok _,⟨_,rfl⟩,q⟩
theorem anL{f:Value→Value→Sem Value}{g:Int→Int→Bool}
  (rule:∀ (i j:Int) (t u:Tok) (s:Shared) (Q:Value→Shared→Prop) (E:Value→Shared→Prop),Q (.bool (g i j)) s→wpAny (model X.prog X.w) X.A (f (.int i t) (.int j u)) Q E s) :
  Oo X f (rI0 fun i j=>.bl (g i j)):=by
 intro pins s σ H x y v u Q I rx ry h;obtain⟨i,j,rfl,rfl,q⟩:=h;obtain⟨t,rfl⟩:=rx;obtain⟨t',rfl⟩:=ry;exact rule i j t t' s _ _ ⟨.bl (g i j),H,I,rfl,q⟩
def apo(i j:Int):Prop:=(-(2 ^ 64) < i∧i < 2 ^ 64)∨(-(2 ^ 64) < j∧j < 2 ^ 64)
theorem apo.ok{i j:Int}(h:apo i j):IntMulOk i j:=by
 rcases h with⟨h1,h2⟩|⟨h1,h2⟩
 ·exact .of_left (intBits_le_64 h1 h2)
 ·exact .of_right (intBits_le_64 h1 h2)
theorem agi(k:Nat):(0:Int)≤2 ^ k:=by
 rw[two_pow_cast];exact atF _
theorem uF:Oo X (binaryOp .Add) (rI0 fun i j=>.int (i+j)):=apn fun _ _ _ _ _ _ _ q=>add_int q
theorem apq:Oo X (binaryOp .Sub) (rI0 fun i j=>.int (i - j)):=apn fun _ _ _ _ _ _ _ q=>sub_int q
theorem alF:Oo X (binaryOp .Mult) (rI apo fun i j=>.int (i * j)):=opI fun _ _ _ _ _ _ _ hc q=>mul_int q hc.ok
theorem apr:Oo X (binaryOp .Mod) (rI (fun _ j=>0 < j) fun i j=>.int (i % j)):=opI fun i j _ _ _ _ _ hc q=>by
 have h1:(0:Int) < j:=hc;exact mod_int' (by omega) (by rw[Int.fmod_eq_emod_of_nonneg i (by omega)];exact q)
theorem aps:Oo X (binaryOp .RShift) (rI (fun _ j=>0≤j) fun i j=>.int (i / 2 ^ j.toNat)):=opI fun i j _ _ _ _ _ hc q=>
 rshift_int hc (by rw[Int.fdiv_eq_ediv_of_nonneg i (agi _)];exact q)
theorem apt:Oo X (binaryOp .BitAnd) (rI0 fun i j=>.int (Builtin.bitAnd i j)):=apn fun _ _ _ _ _ _ _ q=>and_int q
end
def apu:V→V→Bool
 |.dN,.dN=>true|.dN,.int _=>true|.int _,.dN=>true|.dN,.bl _=>true|.bl _,.dN=>true|.dN,.str _=>true|.str _,.dN=>true
 |.int _,.int _=>true|.bl _,.bl _=>true|.str _,.str _=>true|.byt _,.byt _=>true
 |.int _,.str _=>true|.str _,.int _=>true|.bl _,.str _=>true|.str _,.bl _=>true
 |_,_=>false
def rEq:R2:=fun x y H Q=>apu x y=true∧Q (.bl (decide (x=y))) H
def rNe:R2:=fun x y H Q=>apu x y=true∧Q (.bl (!decide (x=y))) H
theorem aiA{i j:Int}:decide (V.int i=V.int j)=(i == j):=by
 rw[ase];simp
theorem alG{i j:Bool}:decide (V.bl i=V.bl j)=(i == j):=by
 rw[ase];simp
theorem aiB{i j:Str}:decide (V.str i=V.str j)=(i == j):=by
 rw[ase];simp
theorem aiC{i j:Array UInt8}:decide (V.byt i=V.byt j)=(i.toList == j.toList):=by
 rw[ase];cases i;cases j;simp
section
variable{X:Cx}{a b c:Expr}{ta tb tc:TE}{pos:Pos}
theorem eG{pins:List (Addr×Obj)}{σ:St}{H:Hp}{s:Shared}{Q:VK}{k k':Bool}(I:Inv X pins σ H s)(q:Q (.bl k) H)(e:k=k'):EP X pins σ Q (.bool k') s:=by
 subst e;exact⟨.bl k,H,I,rfl,q⟩
theorem jr:Oo X (compareOp .Eq) rEq:=by
 intro pins s σ H x y v u Q I rx ry h;obtain⟨hs,q⟩:=h;cases x with
 |dN=>
  cases rx;cases y with
  |dN=>cases ry;exact PySem.EqNone.eq_none_none (eG I q (by simp))
  |bl j=>cases ry;exact PySem.EqNone.eq_none_bool (eG I q (by simp))
  |int j=>obtain⟨t',rfl⟩:=ry;exact PySem.EqNone.eq_none_int (eG I q (by simp))
  |str j=>obtain⟨t',rfl⟩:=ry;exact PySem.EqNone.eq_none_str (eG I q (by simp))
  |_=>exact absurd (show false=true from hs) ak7
 |bl i=>
  cases rx;cases y with
  |dN=>cases ry;exact PySem.EqNone.eq_bool_none (eG I q (by simp))
  |bl j=>cases ry;exact eq_bool (eG I q alG)
  |str j=>obtain⟨t',rfl⟩:=ry;exact PySem.EqMixed.eq_bool_str (eG I q (by simp))
  |_=>exact absurd (show false=true from hs) ak7
 |int i=>
  obtain⟨t,rfl⟩:=rx;cases y with
  |dN=>cases ry;exact PySem.EqNone.eq_int_none (eG I q (by simp))
  |int j=>obtain⟨t',rfl⟩:=ry;exact eq_int (eG I q aiA)
  |str j=>obtain⟨t',rfl⟩:=ry;exact PySem.EqMixed.eq_int_str (eG I q (by simp))
  |_=>exact absurd (show false=true from hs) ak7
 |str i=>
  obtain⟨t,rfl⟩:=rx;cases y with
  |dN=>cases ry;exact PySem.EqNone.eq_str_none (eG I q (by simp))
  |bl j=>cases ry;exact PySem.EqMixed.eq_str_bool (eG I q (by simp))
  |int j=>obtain⟨t',rfl⟩:=ry;exact PySem.EqMixed.eq_str_int (eG I q (by simp))
  |str j=>obtain⟨t',rfl⟩:=ry;exact eq_str (eG I q aiB)
  |_=>exact absurd (show false=true from hs) ak7
 |byt i=>
  obtain⟨t,rfl⟩:=rx;cases y with
  |byt j=>obtain⟨t',rfl⟩:=ry;exact PySem.W.eq_bytes (eG I q aiC)
  |_=>exact absurd (show false=true from hs) ak7
 |_=>cases y <;> exact absurd (show false=true from hs) ak7
theorem K5:Oo X (compareOp .NotEq) rNe:=by
 intro pins s σ H x y v u Q I rx ry h;obtain⟨hs,q⟩:=h;cases x with
 |dN=>
  cases rx;cases y with
  |dN=>cases ry;exact PySem.EqNone.ne_none_none (eG I q (by simp))
  |bl j=>cases ry;exact PySem.EqNone.ne_none_bool (eG I q (by simp))
  |int j=>obtain⟨t',rfl⟩:=ry;exact PySem.EqNone.ne_none_int (eG I q (by simp))
  |str j=>obtain⟨t',rfl⟩:=ry;exact PySem.EqNone.ne_none_str (eG I q (by simp))
  |_=>exact absurd (show false=true from hs) ak7
 |bl i=>
  cases rx;cases y with
  |dN=>cases ry;exact PySem.EqNone.ne_bool_none (eG I q (by simp))
  |bl j=>cases ry;exact ne_bool (eG I q (arD not alG))
  |str j=>obtain⟨t',rfl⟩:=ry;exact PySem.EqMixed.ne_bool_str (eG I q (by simp))
  |_=>exact absurd (show false=true from hs) ak7
 |int i=>
  obtain⟨t,rfl⟩:=rx;cases y with
  |dN=>cases ry;exact PySem.EqNone.ne_int_none (eG I q (by simp))
  |int j=>obtain⟨t',rfl⟩:=ry;exact ne_int (eG I q (arD not aiA))
  |str j=>obtain⟨t',rfl⟩:=ry;exact PySem.EqMixed.ne_int_str (eG I q (by simp))
  |_=>exact absurd (show false=true from hs) ak7
 |str i=>
  obtain⟨t,rfl⟩:=rx;cases y with
  |dN=>cases ry;exact PySem.EqNone.ne_str_none (eG I q (by simp))
  |bl j=>cases ry;exact PySem.EqMixed.ne_str_bool (eG I q (by simp))
  |int j=>obtain⟨t',rfl⟩:=ry;exact PySem.EqMixed.ne_str_int (eG I q (by simp))
  |str j=>obtain⟨t',rfl⟩:=ry;exact ne_str (eG I q (arD not aiB))
  |_=>exact absurd (show false=true from hs) ak7
 |byt i=>
  obtain⟨t,rfl⟩:=rx;cases y with
  |byt j=>obtain⟨t',rfl⟩:=ry;exact PySem.W.ne_bytes (eG I q (arD not aiC))
  |_=>exact absurd (show false=true from hs) ak7
 |_=>cases y <;> exact absurd (show false=true from hs) ak7
theorem EL:Oo X (compareOp .Lt) (rI0 fun i j=>.bl (decide (i < j))):=anL fun _ _ _ _ _ _ _ q=>lt_int q
theorem rR:Oo X (compareOp .LtE) (rI0 fun i j=>.bl (decide (i≤j))):=anL fun _ _ _ _ _ _ _ q=>le_int q
theorem YK:Oo X (compareOp .Gt) (rI0 fun i j=>.bl (decide (j < i))):=anL fun _ _ _ _ _ _ _ q=>gt_int q
theorem aoL:Oo X (compareOp .GtE) (rI0 fun i j=>.bl (decide (j≤i))):=anL fun _ _ _ _ _ _ _ q=>ge_int q
theorem T3:Oo X (compareOp .Is) (fun x y H Q=>y=.dN∧Q (.bl (decide (x=.dN))) H):=by
 intro pins s σ H x y v u Q I rx ry h;obtain⟨rfl,q⟩:=h;cases ry;refine is_none_gen (eG I q ?_);cases x <;> first
  |(cases rx;rfl)
  |(obtain⟨t,rfl⟩:=rx;rfl)
theorem anM:Oo X (compareOp .IsNot) (fun x y H Q=>y=.dN∧Q (.bl (!decide (x=.dN))) H):=by
 intro pins s σ H x y v u Q I rx ry h;obtain⟨rfl,q⟩:=h;cases ry;refine isnot_none_gen (eG I q ?_);cases x <;> first
  |(cases rx;rfl)
  |(obtain⟨t,rfl⟩:=rx;rfl)
theorem bf(b:Expr){op:CmpOp}(h:op≠.In:=by decide)(h2:op≠.NotIn:=by decide):behindInMarks op b=false:=by
 have e1:(op == CmpOp.In)=false:=by cases op <;> first|rfl|exact absurd rfl h
 have e2:(op == CmpOp.NotIn)=false:=by cases op <;> first|rfl|exact absurd rfl h2
 cases b <;> simp[behindInMarks,e1,e2]
theorem yj{op:CmpOp}{r:R2}(ho:Oo X (compareOp op) r)(ha:PE X a ta)(hb:PE X b tb)(hm:behindInMarks op b=false):PE X (.Compare a [op] [b] pos) (tOp r ta tb):=by
 intro pins s σ H Q I h;exact wpAny_Compare1 (apm ha hb I h fun v u s2 x y H2 I2 rx ry q=>ho pins s2 σ H2 x y v u Q I2 rx ry q) hm
def zx13(Q:Bool→Hp→Prop)(x:V)(H':Hp):=fun k=>(x=.bl k∧Q k H')
def alH(t:TE):TT:=fun σ H Q=>t σ H fun x H'=>Exists (zx13 Q x H')
theorem aY{op:CmpOp}{r:R2}(ho:Oo X (compareOp op) r)(ha:PE X a ta)(hb:PE X b tb)(hm:behindInMarks op b=false):PT X (.Compare a [op] [b] pos) (alH (tOp r ta tb)):=by
 intro pins s σ H Q I h;refine wpAny_isTrue_Compare1 (gf (ha pins s σ H _ I h) fun v s1 ⟨x,H1,I1,r1,q1⟩=>gf (hb pins s1 σ H1 _ I1 q1) fun u s2 ⟨y,H2,I2,r2,q2⟩=>
  gf (ho pins s2 σ H2 x y v u _ I2 r1 r2 q2) fun c s3 ⟨z,H3,I3,r3,k,e,q3⟩=>?_) hm
 subst e;cases r3;exact asB ⟨H3,I3,q3⟩
def zx14(r':R2)(tc:TE)(σ:St)(Q:VK)(y:V)(z:V)(H3:Hp):=fun k=>(z=.bl k∧(if k=true then tc σ H3 fun w' H4=>r' y w' H4 Q else Q (.bl false) H3))
def alI(r r':R2)(ta tb tc:TE):TE:=fun σ H Q=>ta σ H fun x H1=>tb σ H1 fun y H2=>r x y H2 fun z H3=>Exists (zx14 r' tc σ Q y z H3)
theorem alJ{op op':CmpOp}{r r':R2}(ho:Oo X (compareOp op) r)(ho':Oo X (compareOp op') r')(ha:PE X a ta)(hb:PE X b tb)(hc:PE X c tc)
  (hm:lastMarks [op,op'] [b,c]=false:=by with_unfolding_all rfl):PE X (.Compare a [op,op'] [b,c] pos) (alI r r' ta tb tc):=by
 intro pins s σ H Q I h;refine Compare_chain (gf (ha pins s σ H _ I h) fun v s1 ⟨x,H1,I1,r1,q1⟩=>chain_link (gf (hb pins s1 σ H1 _ I1 q1) fun u s2 ⟨y,H2,I2,r2,q2⟩=>
  gf (ho pins s2 σ H2 x y v u _ I2 r1 r2 q2) fun d s3 ⟨z,H3,I3,r3,k,e,q3⟩=>?_)) hm
 subst e;cases r3;refine asB ?_;cases k with
 |false=>exact ite_ff ⟨.bl false,H3,I3,rfl,q3⟩
 |true=>exact ite_tt (chain_last (gf (hc pins s3 σ H3 _ I3 q3) fun w' s4 ⟨z',H4,I4,r4,q4⟩=>ho' pins s4 σ H4 y z' u w' Q I4 r2 r4 q4))
theorem t7{op op':CmpOp}{r r':R2}(ho:Oo X (compareOp op) r)(ho':Oo X (compareOp op') r')(ha:PE X a ta)(hb:PE X b tb)(hc:PE X c tc)
  (hm:lastMarks [op,op'] [b,c]=false:=by with_unfolding_all rfl):PT X (.Compare a [op,op'] [b,c] pos) (alH (alI r r' ta tb tc)):=by
 intro pins s σ H Q I h;refine isTrue_chain (gf (ha pins s σ H _ I h) fun v s1 ⟨x,H1,I1,r1,q1⟩=>test_link (gf (hb pins s1 σ H1 _ I1 q1) fun u s2 ⟨y,H2,I2,r2,q2⟩=>
  gf (ho pins s2 σ H2 x y v u _ I2 r1 r2 q2) fun d s3 ⟨z,H3,I3,r3,k,e,q3⟩=>?_)) hm
 subst e;cases r3;refine asB ?_;cases k with
 |false=>
  obtain⟨k',e',q'⟩:=q3;cases e';exact ite_ff ⟨H3,I3,q'⟩
 |true=>
  refine ite_tt (test_last (gf (hc pins s3 σ H3 _ I3 q3) fun w' s4 ⟨z',H4,I4,r4,q4⟩=>gf (ho' pins s4 σ H4 y z' u w' _ I4 r2 r4 q4) fun d' s5 ⟨z2,H5,I5,r5,k2,e2,q5⟩=>?_));subst e2;cases r5;exact asB ⟨H5,I5,q5⟩
def aqT(K:Fg)(x:V)(H:Hp)(k:Bool):Prop:=
 match x with
 |.dN=>k=false
 |.bl b=>k=b
 |.int i=>k=(i != 0)
 |.str y=>y.length≤sizeLine∧k=((y.length:Int) != 0)
 |.byt y=>y.size≤sizeLine∧k=((y.size:Int) != 0)
 |.ref p=>(∃ xs,cJ K H p xs∧k=!xs.isEmpty)∨(∃ xs,Io K H p xs∧k=!xs.isEmpty)∨∃ kvs,H p=some (.dK kvs)∧k=!kvs.isEmpty
 |_=>False
theorem agj{κ:Type}{kvs:List (κ×V)}{vs:List (κ×Value)}(r:KV kvs vs):(!vs.isEmpty)=!kvs.isEmpty:=by
 cases r <;> rfl
theorem T4{xs:List V}{its:List Value}(r:bK xs its):(!its.toArray.isEmpty)=!xs.isEmpty:=by
 cases r <;> simp
theorem Oq:(sizeLine:Nat) < 2 ^ 63:=by rw[atr];decide
theorem apv:arW X (fun x H Q=>∃ k,aqT X.K x H k∧Q k H):=by
 intro pins s σ H x v Q I rx h;obtain⟨k,e,q⟩:=h;have hl:=Oq;have hs:sizeLine=16777216:=atr;cases x with
 |dN=>
  cases rx;have e':k=false:=e;subst e';exact truthy_none ⟨H,I,q⟩
 |bl b=>
  cases rx;have e':k=b:=e;subst e';exact asB ⟨H,I,q⟩
 |int i=>
  obtain⟨t,rfl⟩:=rx;have e':k=(i != 0):=e;subst e';exact PySem.P.truthy_int ⟨H,I,q⟩
 |str y=>
  obtain⟨t,rfl⟩:=rx;obtain⟨hy,e'⟩:y.length≤sizeLine∧k=((y.length:Int) != 0):=e;subst e';exact PySem.P.truthy_str (by omega) ⟨H,I.tok _,q⟩
 |byt y=>
  obtain⟨t,rfl⟩:=rx;obtain⟨hy,e'⟩:y.size≤sizeLine∧k=((y.size:Int) != 0):=e;subst e';exact PySem.W.truthy_bytes (by omega) ⟨H,I.tok _,q⟩
 |ref p=>
  cases rx;have e':(∃ xs,cJ X.K H p xs∧k=!xs.isEmpty)∨(∃ xs,Io X.K H p xs∧k=!xs.isEmpty)∨∃ kvs,H p=some (.dK kvs)∧k=!kvs.isEmpty:=e;rcases e' with⟨xs,hx,e'⟩|⟨xs,hx,e'⟩|⟨kvs,hx,e'⟩
  ·subst e';obtain⟨its,r,pl,hz⟩:=I.list hx;have hlen:=r.length;exact wpAny_truthy_list pl.isList (by simp only[anq];omega) ⟨H,I.tok _,by rw[T4 r];exact q⟩
  ·subst e';obtain⟨its,r,pl,hz⟩:=I.tuple hx;have hlen:=r.length;exact truthy_tuple pl (by simp only[anq];omega) ⟨H,I.tok _,by rw[T4 r];exact q⟩
  ·subst e';obtain⟨hz,hS,vs,r,m⟩:kvs.length≤sizeLine∧(p == sysModules)=false∧∃ vs,KV kvs vs∧s.heap.DictOf (i6 X.prog X.w) p vs:=I.cI p _ hx;have hlen:kvs.length=vs.length:=Paired.length r;exact wpAny_truthy_dict hS m (by omega) ⟨H,I.tok _,by rw[agj r];exact q⟩
 |_=>exact(show False from e).elim
theorem gD(ha:PE X a ta)(he:∀ whole,isTrue a X.env whole=(do let v ← whole;standAt a.pos;holding [v] (truthy v))) :
  PT X a (fun σ H Q=>ta σ H fun x H'=>∃ k,aqT X.K x H' k∧Q k H'):=by
 intro pins s σ H Q I h;exact isTrue_plain (gf (ha pins s σ H _ I h) fun v s1 ⟨x,H1,I1,r1,q1⟩=>apv pins s1 σ H1 x v Q I1 r1 q1) (he _)
theorem vals1{x:V}{us:List Value}(r:bK [x] us):∃ u,us=[u]∧RelV x u:=by
 cases r with
 |cons r1 r2=>cases r2;exact⟨_,rfl,r1⟩
theorem vals2{x y:V}{us:List Value}(r:bK [x,y] us):∃ u w',us=[u,w']∧RelV x u∧RelV y w':=by
 cases r with
 |cons r1 r2=>
  cases r2 with
  |cons r3 r4=>cases r4;exact⟨_,_,rfl,r1,r3⟩
theorem ajH(hc:X.calm=true):Ai X (.builtin "max") (fun xs H Q=>∃ i j,xs=[.int i,.int j]∧Q (.int (if j > i then j else i)) H):=by
 intro pins s σ H xs us Q I r h;obtain⟨i,j,rfl,q⟩:=h;obtain⟨u,w',rfl,⟨t,rfl⟩,⟨t',rfl⟩⟩:=vals2 r;refine max_two_ints (I.ok.hd hc) fun h' tk k=>⟨_,H,I.kept k,?_,q⟩;by_cases hj:j > i
 ·rw[afO hj,afO hj];exact⟨_,rfl⟩
 ·rw[acK hj,acK hj];exact⟨_,rfl⟩
theorem aac:Ai X (.type "str") (fun xs H Q=>∃ i,xs=[.int i]∧i.natAbs.log2 < 1920∧Q (.str (toString i)) H):=by
 intro pins s σ H xs us Q I r h;obtain⟨i,rfl,hz,q⟩:=h;obtain⟨u,rfl,t,rfl⟩:=vals1 r;exact PySem.P.str_of_int hz ⟨.str _,H,I.tok _,⟨_,rfl⟩,q⟩
theorem alK:Ai X (.builtin "ord") (fun xs H Q=>∃ x,xs=[.str x]∧x.length=1∧Q (.int (x.cps.getD 0 0:Nat)) H):=by
 intro pins s σ H xs us Q I r h;obtain⟨x,rfl,hz,q⟩:=h;obtain⟨u,rfl,t,rfl⟩:=vals1 r;exact ord_of_one hz ⟨.int _,H,I.tok _,⟨_,rfl⟩,q⟩
end
structure agk(h:Heap)(x dx C:Addr)(mA:Str→Option Value):Prop where
 obj:h.get? x=some (PySem.W.instObj C dx)
 ns:h.Ns1 dx mA
 ne:dx≠x
theorem ajI{h:Heap}{dx:Addr}{mA:Str→Option Value}(n:h.Ns1 dx mA):∃ od,h.get? dx=some od∧∀ name,PySem.W.lookIn name od=some (mA name):=by
 obtain⟨o,es,ep,ho,hd,hk,_,hm⟩:=n;refine⟨o,ho,fun name=>?_⟩;have e:=hm name;unfold nsFind findBy at e;rw[← Array.find?_toList] at e;unfold PySem.W.lookIn;rw[hd];dsimp only;split
 ·rename_i y q;rw[q] at e;exact arD some e
 ·rename_i q;rw[q] at e;have a:es.toList.any (·.refKey)=false:=by
   rw[List.any_eq_false];intro y hy;obtain⟨z,t,hkey⟩:=hk y (Array.mem_toList_iff.mp hy);simp[DictEntry.refKey,hkey]
  have a':¬ es.toList.any (·.refKey)=true:=by rw[a];exact ak7
  rw[acK a'];exact arD some e
theorem agk.look{h:Heap}{x dx C:Addr}{mA:Str→Option Value}(I:agk h x dx C mA):∃ od,PySem.W.InstAt h x (PySem.W.instObj C dx) C (some od)∧∀ name,PySem.W.lookIn name od=some (mA name):=
 let ⟨od,ho,hl⟩:=ajI I.ns
 ⟨od,⟨I.obj,rfl,rfl,ho⟩,hl⟩
section
variable{prog:Program}{w:World}{A:Around}{E:Value→Shared→Prop}{s:Shared}{K:Fg}{x dx C f:Addr}{mA:Str→Option Value}{name:Str}{v:Value}
theorem get_map{expr:Bool}{Q:Value→Shared→Prop}(X:K.In s.heap)(I:agk s.heap x dx C mA)(hg:PySem.W.plainGet K C name=true)(hh:PySem.W.hasDictIn K C=true)
  (ha:PySem.W.findIn K (.ref C) name=some none) (hv:mA name=some v) (hv':PySem.W.handedIn v=true) (h:Q v { s with toks:=s.toks+1 }) :
  wpAny (model prog w) A (getAttr (.ref x) name expr) Q E s:=by
 obtain⟨od,J,hl⟩:=I.look;exact PySem.W.get_value X J (PySem.W.plainGet_of hg).1 (PySem.W.findObj_own hh ha rfl (by rw[hl,hv])) hv' h
theorem alL{pl:Sem Bool}{Q:Value×List Value→Shared→Prop}(X:K.In s.heap)(I:agk s.heap x dx C mA)(hg:PySem.W.plainGet K C name=true)
  (hf:PySem.W.findIn K (.ref C) name=some (some (.ref f))) (ht:PySem.W.isFn K (.ref f)=true) (hv:mA name=none) (h:Q (.ref f,[.ref x]) s) :
  wpAny (model prog w) A (getMethod (.ref x) name pl) Q E s:=by
 obtain⟨od,J,hl⟩:=I.look;exact PySem.W.method_fn X J (PySem.W.plainGet_of hg).1 (PySem.W.plainGet_of hg).2 hf (asR.mp ht) (by show(PySem.W.lookIn name od).map (·.isSome)=some false;rw[hl,hv];rfl) h
theorem anN{ns:List Str}{Q:Unit→Shared→Prop}(X:K.In s.heap)(I:agk s.heap x dx C mA)
  (hs:PySem.W.findIn K (.ref C) "__setattr__"=some (some (.builtin "object.__setattr__"))) (hp:PySem.W.plainOver K C=true) (ht:PySem.W.takerIn K C name=some none) (hh:PySem.W.hasDictIn K C=true)
  (hw:PySem.Within mA ns) (hsz:ns.length≤sizeLine)
  (h:∀ h',agk h' x dx C (fun y=>if y=name then some v else mA y)→Heap.SameBut dx s.heap h'→Q () { s with heap:=h',toks:=s.toks+2 }) :
  wpAny (model prog w) A (setAttr (.ref x) name v) Q E s:=by
 obtain⟨od,J,hl⟩:=I.look;refine PySem.W.set_plain X J hs (PySem.W.osa_open (s:={ s with toks:=s.toks+1 }) (r:=none) X J hp ht fun b=>?_);obtain⟨cd,hc,hd'⟩:=PySem.W.any_some hh;have hx:s.heap.get? x=some ⟨.ref C,some dx,.plain,#[]⟩:=I.obj;refine adg (alu (adg (adg (wpAny_loadPart hx (adg (PySem.W.Looks.here (s:={ s with toks:=s.toks+1 }) (PySem.W.looks_clsIn X hc) ?_))))));rw[hd'];refine alu (a:=some dx) (adg (alu (adg ?_)));refine wpAny_nsSet1 (s:={ s with toks:=s.toks+1 }) I.ns fun h' hn2 hs2=>?_;obtain⟨oD,esD,epD,hoD,hdD,hcD⟩:=hn2.count (PySem.Within.cons name v hw);refine adg (wpAny_lookBehind hoD (by rw[hdD];exact pastItsLine_dict (ao0 hcD (by rw[ajk];omega))) ?_);exact alu (h _ ⟨(hs2.2 _ (Ne.symm I.ne)).trans I.obj,hn2,I.ne⟩ hs2)
theorem ac9{R:Result→Shared→Prop}{vs:List Value}{kw:List (Str×Value)}(X:K.In s.heap)(hm:PySem.W.makesIn K C=true)
  (hi:PySem.W.findIn K (.ref C) "__init__"=some (some (.ref f))) (hf:PySem.W.typeIn K (.ref f)=some (.type "function"))
  (h:codeAny (model prog w) (A.under (.builtin "type.__call__" ⟨.ref C::vs,kw⟩)) (.call (.ref f) ⟨.ref (s.heap.objs.size+1)::vs,kw⟩) (PySem.W.InitBack (s.heap.objs.size+1) R)
   { s with heap:=(s.heap.push PySem.W.emptyDict).push (PySem.W.instObj C s.heap.objs.size) }) :
  codeAny (model prog w) A (.call (.ref C) ⟨vs,kw⟩) R s:=by
 obtain⟨hh,g,d,t,os⟩:=s;exact PySem.W.make_core (PySem.W.makes_of X hm) (PySem.W.looks_findIn X hi) (fun self=>PySem.W.bind_fn X self hf) (.inl rfl) h
end
def EM(f:Str)(v:V):List (Str×V)→List (Str×V)
 |[]=>[(f,v)]
 |(g,x)::r=>if g=f then(g,v)::r else(g,x)::EM f v r
theorem QI(f g:Str)(v:V):∀ fs:List (Str×V),(EM f v fs).lookup g=if g=f then some v else fs.lookup g
 |[]=>by
  show List.lookup g [(f,v)]=_;by_cases h:g=f
  ·have hb:(g == f)=true:=asR.mpr h;simp only[List.lookup,hb,afO h]
  ·have hb:(g == f)=false:=arH.mpr h;simp only[List.lookup,hb,acK h]
 |(k,x)::r=>by
  have ih:=QI f g v r;rw[show EM f v ((k,x)::r)=(if k=f then(k,v)::r else(k,x)::EM f v r) from rfl];by_cases hk:k=f
  ·rw[afO hk];by_cases h:g=k
   ·have hb:(g == k)=true:=asR.mpr h;simp only[List.lookup,hb,afO (h.trans hk)]
   ·have hb:(g == k)=false:=arH.mpr h;simp only[List.lookup,hb,acK (fun e:g=f=>h (e.trans hk.symm))]
  ·rw[acK hk];by_cases h:g=k
   ·have hb:(g == k)=true:=asR.mpr h;simp only[List.lookup,hb,acK (fun e:g=f=>hk (h.symm.trans e))]
   ·have hb:(g == k)=false:=arH.mpr h;simp only[List.lookup,hb];exact ih
theorem Ot(f:Str)(v:V):∀ fs:List (Str×V),f∈(EM f v fs).map (·.1)∧∀ g,g∈fs.map (·.1)→g∈(EM f v fs).map (·.1)
 |[]=>⟨by simp[EM],fun g h=>by simp at h⟩
 |(k,x)::r=>by
  obtain⟨i1,i2⟩:=Ot f v r;rw[show EM f v ((k,x)::r)=(if k=f then(k,v)::r else(k,x)::EM f v r) from rfl];by_cases hk:k=f
  ·rw[afO hk];subst hk;exact⟨by simp,fun g h=>by simpa using h⟩
  ·rw[acK hk];refine⟨?_,fun g h=>?_⟩
   ·rw[ajR];exact aiy _ i1
   ·rw[ajR] at h ⊢;rcases akS.mp h with e|e
    ·exact akS.mpr (.inl e)
    ·exact aiy _ (i2 g e)
theorem QJ(f:Str)(v:V):∀ fs:List (Str×V),(EM f v fs).length≤fs.length+1
 |[]=>by simp[EM]
 |(k,x)::r=>by
  have ih:=QJ f v r;rw[show EM f v ((k,x)::r)=(if k=f then(k,v)::r else(k,x)::EM f v r) from rfl];by_cases hk:k=f
  ·rw[afO hk,ajk,ajk];omega
  ·rw[acK hk,ajk,ajk];omega
theorem BI.some_of{v:V}{o:Option Value}(r:BI (some v) o):∃ u,o=some u∧RelV v u:=by
 cases o with
 |none=>exact(show False from r).elim
 |some u=>exact⟨u,rfl,r⟩
theorem BI.none_of{o:Option Value}(r:BI none o):o=none:=by
 cases o with
 |none=>rfl
 |some u=>exact(show False from r).elim
theorem ajJ{v:V}{u:Value}(r:RelV v u):PySem.W.handedIn u=true:=by
 cases v with
 |dN=>cases (show u=Value.none from r);rfl
 |bl b=>cases (show u=Value.bool b from r);rfl
 |int i=>obtain⟨t,e⟩:=(show ∃ t,u=Value.int i t from r);cases e;rfl
 |str x=>obtain⟨t,e⟩:=(show ∃ t,u=Value.str x t from r);cases e;rfl
 |byt b=>obtain⟨t,e⟩:=(show ∃ t,u=Value.bytes b t from r);cases e;rfl
 |flt b=>obtain⟨t,e⟩:=(show ∃ t,u=Value.float b t from r);cases e;rfl
 |ref a=>cases (show u=Value.ref a from r);rfl
 |ty n=>cases (show u=Value.type n from r);rfl
section
variable{P:Program}{w:World}{H H':Hp}{h h':Heap}{a C dx:Addr}{fs fs':List (Str×V)}
theorem SG{K:Fg}(cI:EH P w K H h)(e:H a=some (.ins C dx fs)):∃ mA,agk h a dx C mA∧(∀ f,BI (fs.lookup f) (mA f))∧PySem.Within mA (fs.map (·.1))∧fs.length≤1000∧H dx=some (.own a):=by
 obtain⟨d,z,ne,ob,mA,n,r,q⟩:=(show iG P w K H h a (.ins C dx fs) from cI a _ e);exact⟨mA,⟨ob,n,ne⟩,r,q,z,d⟩
end
structure Cls(K:Fg)(C:Addr):Prop where
 pg:PySem.W.plainGet K C Str.empty=true
 hd:PySem.W.hasDictIn K C=true
 po:PySem.W.plainOver K C=true
 sa:PySem.W.findIn K (.ref C) "__setattr__"=some (some (.builtin "object.__setattr__"))
theorem Cls.get{K:Fg}{C:Addr}(c:Cls K C)(f:Str):PySem.W.plainGet K C f=true:=c.pg
def dO(K:Fg)(C:Addr)(f:Str):Prop:=PySem.W.findIn K (.ref C) f=some none
theorem dO.aqU{K:Fg}{C:Addr}{f:Str}(n:dO K C f):PySem.W.takerIn K C f=some none:=by
 unfold PySem.W.takerIn;rw[show PySem.W.findIn K (.ref C) f=some none from n];rfl
structure oH(K:Fg)(C:Addr)(m:Str)(f:Addr):Prop where
 at_:PySem.W.findIn K (.ref C) m=some (some (.ref f))
 fn:PySem.W.isFn K (.ref f)=true
 kp:PySem.W.keepIn K (.ref f)=true
section
variable{X:Cx}{pins:List (Addr×Obj)}{σ:St}{H:Hp}{s:Shared}{a C dx:Addr}{fs:List (Str×V)}{f:Str}{v:V}{A:Around}{E:Value→Shared→Prop}
theorem T5{b:Bool}{Q:Value→Shared→Prop}(I:Inv X pins σ H s)(e:H a=some (.ins C dx fs))(c:Cls X.K C)(n:dO X.K C f)(l:fs.lookup f=some v)
  (h:∀ u s',Inv X pins σ H s'→RelV v u→Q u s'):wpAny (model X.prog X.w) A (getAttr (.ref a) f b) Q E s:=by
 obtain⟨mA,O,r,_,_,_⟩:=SG I.cI e;obtain⟨u,hu,ru⟩:=BI.some_of (v:=v) (o:=mA f) (by rw[← l];exact r f);exact get_map I.uM O (c.get f) c.hd n hu (ajJ ru) (h u _ (I.tok _) ru)
theorem T6{m:Str}{g:Addr}{pl:Sem Bool}{Q:Value×List Value→Shared→Prop}(I:Inv X pins σ H s)(e:H a=some (.ins C dx fs))(c:Cls X.K C)(k:oH X.K C m g)(l:fs.lookup m=none)
  (h:Q (.ref g,[.ref a]) s):wpAny (model X.prog X.w) A (getMethod (.ref a) m pl) Q E s:=by
 obtain⟨mA,O,r,_,_,_⟩:=SG I.cI e;have hn:mA m=none:=BI.none_of (by rw[← l];exact r m);exact alL I.uM O (c.get m) k.at_ k.fn hn h
theorem T7{y:V}{u:Value}{Q:Unit→Shared→Prop}(I:Inv X pins σ H s)(e:H a=some (.ins C dx fs))(c:Cls X.K C)(n:dO X.K C f)(hl:fs.length < 1000)(ry:RelV y u)
  (h:∀ s',Inv X pins σ (upd H a (.ins C dx (EM f y fs))) s'→Q () s'):wpAny (model X.prog X.w) A (setAttr (.ref a) f u) Q E s:=by
 obtain⟨mA,O,r,wi,_,ho⟩:=SG I.cI e;have hz:(fs.map (·.1)).length≤sizeLine:=by rw[aah,atr];omega
 refine anN I.uM O c.sa c.po n.aqU c.hd wi hz fun h' O' sb=>h _ ?_;have hd:∃ o,h'.get? dx=some o:=let ⟨o,_,_,e',_⟩:=O'.ns;⟨o,e'⟩
 refine I.write (x:=a) (e:=dx) (by rw[e];exact True.intro) (.inr ho) (fun b q hb z=>(sb.2 b hb).trans z) hd ?_;refine⟨by rw[ak O.ne];exact ho,?_,O.ne,O'.obj,_,O'.ns,fun g=>?_,fun g hg=>?_⟩
 ·have:=QJ f y fs;omega
 ·show BI ((EM f y fs).lookup g) (if g=f then some u else mA g);rw[QI];by_cases q:g=f
  ·rw[afO q,afO q];exact ry
  ·rw[acK q,acK q];exact r g
 ·by_cases q:g=f
  ·rw[q];exact(Ot f y fs).1
  ·refine(Ot f y fs).2 g (wi g fun z=>hg ?_);show(if g=f then some u else mA g)=none;rw[acK q];exact z
theorem Inv.made(I:Inv X pins σ H s):Inv X pins σ (upd (upd H s.heap.objs.size (.own (s.heap.objs.size+1))) (s.heap.objs.size+1) (.ins C s.heap.objs.size []))
  { s with heap:=(s.heap.push PySem.W.emptyDict).push (PySem.W.instObj C s.heap.objs.size) }:=by
 have e1:(s.heap.push PySem.W.emptyDict).get? s.heap.objs.size=some PySem.W.emptyDict:=anF s.heap rfl;have e2:((s.heap.push PySem.W.emptyDict).push (PySem.W.instObj C s.heap.objs.size)).get? (s.heap.objs.size+1)=some (PySem.W.instObj C s.heap.objs.size):=by
  have:=anF (s.heap.push PySem.W.emptyDict) (o:=PySem.W.instObj C s.heap.objs.size) rfl
  rwa [ar3] at this
 have e3:(s.heap.push PySem.W.emptyDict).Ns s.heap.objs.size (fun _=>none):=⟨PySem.W.emptyDict,#[],_,e1,rfl,(fun e he=>absurd he (by simp)),fun _=>rfl⟩;have I1:=I.laid (a:=s.heap.objs.size) (o:=.own (s.heap.objs.size+1)) (h':=s.heap.push PySem.W.emptyDict) (t':=s.toks) (fun b u q=>akR _ q) (aiM _) ⟨_,e1⟩;refine I1.laid (a:=s.heap.objs.size+1) (o:=.ins C s.heap.objs.size []) (t':=s.toks) (fun b u q=>akR _ q) (Nat.le_of_eq (ar3 _ _)) ?_;have ne:s.heap.objs.size≠s.heap.objs.size+1:=arB (atf _);refine⟨by rw[ak ne,ae],aqu _,ne,e2,fun _=>none,(Heap.Ns1.of_empty e3).at fun o q=>akR _ q,fun _=>True.intro,fun y hy=>absurd rfl hy⟩
theorem anO{prog:Program}{w:World}{env:Env}{e:Expr}{f:Str}{pos:Pos}{s:Shared}{Q:Value→Shared→Prop}(hb:attributeBase e f env (eval e env)=eval e env)
  (h:wpAny (model prog w) A (eval e env) (fun o s₁=>wpAny (model prog w) A (getAttr o f true) Q E s₁) E s):wpAny (model prog w) A (eval (.Attribute e f pos) env) Q E s:=
 Attribute_any_ h (by rw[arm_eval_Attribute,hb])
end
def zx15(K:Fg)(f:Str)(Q:VK)(x:V)(H1:Hp):=fun a C dx fs v=>(x=.ref a∧H1 a=some (.ins C dx fs)∧Cls K C∧dO K C f∧fs.lookup f=some v∧Q v H1)
def apw(K:Fg)(ta:TE)(f:Str):TE:=fun σ H Q=>ta σ H fun x H1=>zx_5 (zx15 K f Q x H1)
def zx16(K:Fg)(f:Str)(D:Ends)(σ:St)(y:V)(x:V)(H2:Hp):=fun a C dx fs=>(x=.ref a∧H2 a=some (.ins C dx fs)∧Cls K C∧dO K C f∧fs.length < 1000∧D.nx σ (upd H2 a (.ins C dx (EM f y fs))))
def arY(K:Fg)(ta tv:TE)(f:Str):TS:=fun D σ H=>tv σ H fun y H1=>ta σ H1 fun x H2=>zx_4 (zx16 K f D σ y x H2)
def apx(X:Cx)(op:Operator)(rd:V→V→Hp→VK→Prop):Prop:=
 ∀ (pins:List (Addr×Obj)) (s:Shared) (σ:St) (H:Hp) (x y:V) (u v:Value) (Q:VK),Inv X pins σ H s→RelV x u→RelV y v→rd x y H Q→wpAny (model X.prog X.w) X.A (inplaceOp op u v) (EP X pins σ Q) X.xe s
def zx17(K:Fg)(tv:TE)(rd:V→V→Hp→VK→Prop)(f:Str)(D:Ends)(σ:St)(x:V)(H1:Hp):=fun a C dx fs v=>(x=.ref a∧H1 a=some (.ins C dx fs)∧Cls K C∧dO K C f∧fs.lookup f=some v∧tv σ H1 fun y H2=>rd v y H2 fun z H3=>∃ dx' fs',H3 a=some (.ins C dx' fs')∧fs'.length < 1000∧D.nx σ (upd H3 a (.ins C dx' (EM f z fs'))))
def anP(K:Fg)(ta tv:TE)(rd:V→V→Hp→VK→Prop)(f:Str):TS:=fun D σ H=>ta σ H fun x H1=>zx_5 (zx17 K tv rd f D σ x H1)
section
variable{X:Cx}{o e value:Expr}{f:Str}{pos pos' tpos:Pos}{ta tv:TE}
theorem aA(he:PE X e ta)(hb:attributeBase e f X.env (eval e X.env)=eval e X.env):PE X (.Attribute e f pos) (apw X.K ta f):=by
 intro pins s σ H Q I h;refine anO hb (gf (he pins s σ H _ I h) fun u s1 ⟨x,H1,I1,rx,a,C,dx,fs,v,ex,ea,c,n,l,q⟩=>?_);subst ex;obtain rfl:u=Value.ref a:=rx;exact T5 I1 ea c n l fun u' s2 I2 ru=>⟨v,H1,I2,ru,q⟩
theorem fK(ha:PE X o ta)(hv:PE X value tv)(hs:swapsWith value (some (.Attribute o f pos')) pos.line X.env=pure false):PS X (.Assign [.Attribute o f pos'] value pos) (arY X.K ta tv f):=by
 intro pins s σ H D I h;refine plainObj_wpAny_Assign_Attribute (gf (hv pins s σ H _ I h) fun u s1 ⟨y,H1,I1,ry,q⟩=>gf (ha pins s1 σ H1 _ I1 q) fun ov s2 ⟨x,H2,I2,rx,a,C,dx,fs,ex,ea,c,n,l,q2⟩=>?_) hs;subst ex;obtain rfl:ov=Value.ref a:=rx;exact T7 I2 ea c n l ry fun s3 I3=>⟨σ,_,I3,q2⟩
theorem ajK{op:Operator}{rd:V→V→Hp→VK→Prop}(ha:PE X o ta)(hv:PE X value tv)(hop:apx X op rd):PS X (.AugAssign (.Attribute o f tpos) op value pos) (anP X.K ta tv rd f):=by
 intro pins s σ H D I h;refine wpAny_AugAssign_AttributeAny (gf (ha pins s σ H _ I h) fun ov s1 ⟨x,H1,I1,rx,a,C,dx,fs,v,ex,ea,c,n,l,q⟩=>?_);subst ex;obtain rfl:ov=Value.ref a:=rx;refine T5 I1 ea c n l fun u s2 I2 ru=>gf (hv pins s2 σ H1 _ I2 q) fun w3 s3 ⟨y,H2,I3,ry,q3⟩=>gf (hop pins s3 σ H2 v y u w3 _ I3 ru ry q3) fun w4 s4 ⟨z,H3,I4,rz,dx',fs',ea',l',q4⟩=>?_;exact T7 I4 ea' c n l' rz fun s5 I5=>⟨σ,_,I5,q4⟩
def zx18(x:V)(y:V)(H:Hp)(Q:VK):=fun i j=>(x=.int i∧y=.int j∧Q (.int (i+j)) H)
def arZ:V→V→Hp→VK→Prop:=fun x y H Q=>zx_2 (zx18 x y H Q)
theorem alM:apx X .Add arZ:=by
 rintro pins s σ H x y u v Q I rx ry ⟨i,j,rfl,rfl,q⟩;obtain⟨t,rfl⟩:=(show ∃ t,u=Value.int i t from rx);obtain⟨t',rfl⟩:=(show ∃ t',v=Value.int j t' from ry);exact PyProof.Rows.iadd_int ⟨.int (i+j),H,I.tok _,⟨_,rfl⟩,q⟩
end
section
variable{X:Cx}{pins:List (Addr×Obj)}{σ:St}{H:Hp}{s:Shared}{A:Around}{E:Value→Shared→Prop}{Q:Value→Shared→Prop}{c:Value}{b:Bool}
inductive Ry (K:Fg) (H:Hp):V→Value→Prop where
 |dN:Ry K H .dN (.type "NoneType")
 |bl (x:Bool):Ry K H (.bl x) (.type "bool")
 |int (i:Int):Ry K H (.int i) (.type "int")
 |str (x:Str):Ry K H (.str x) (.type "str")
 |flt (x:UInt64):Ry K H (.flt x) (.type "float")
 |lst {a:Addr} {xs:List V} (e:H a=some (.lst xs)):Ry K H (.ref a) (.type "list")
 |uD {a:Addr} {o:Obj} {xs:List V} (e:H a=some (.uD o (.lst xs))):Ry K H (.ref a) (.type "list")
 |tup {a:Addr} {xs:List V} (e:H a=some (.tup xs)):Ry K H (.ref a) (.type "tuple")
 |dK {a:Addr} {kvs:List (Key×V)} (e:H a=some (.dK kvs)):Ry K H (.ref a) (.type "dict")
 |dT {a:Addr} {kvs:List (List Key×V)} (e:H a=some (.dT kvs)):Ry K H (.ref a) (.type "dict")
 |ins {a C dx:Addr} {fs:List (Str×V)} (e:H a=some (.ins C dx fs)) (cl:Cls K C) (ha:PySem.W.findIn K (.ref C) "__class__"=some (some (.builtin "object.__class__")))
   (hn:PySem.W.specialIn K (.builtin "object.__class__") "__get__"=some (some (.builtin "getset_descriptor.__get__"))) (htk:PySem.W.takesIn K (.builtin "object.__class__")=some true)
   (hm:PySem.W.mroIn K C (.type "object")=some true):Ry K H (.ref a) (.ref C)
theorem ajL{x:V}{u t:Value}(I:Inv X pins σ H s)(rx:RelV x u)(ty:Ry X.K H x t)(e:PySem.W.kitOne X.K t c=some b)(h:∀ tk,Q (.bool b) { s with toks:=tk }) :
  wpAny (model X.prog X.w) A (call (.builtin "isinstance") [u,c]) Q E s:=by
 cases ty with
 |dN=>cases (show u=Value.none from rx);exact arQ PySem.W.kitx_none I.uM True.intro e (fun z=>nomatch z) h
 |bl y=>cases (show u=Value.bool y from rx);exact arQ PySem.W.kitx_bool I.uM True.intro e (fun z=>nomatch z) h
 |int i=>obtain⟨t,q⟩:=(show ∃ t,u=Value.int i t from rx);cases q;exact arQ PySem.W.kitx_int I.uM True.intro e (fun z=>nomatch z) h
 |str y=>obtain⟨t,q⟩:=(show ∃ t,u=Value.str y t from rx);cases q;exact arQ PySem.W.kitx_str I.uM True.intro e (fun z=>nomatch z) h
 |flt y=>obtain⟨t,q⟩:=(show ∃ t,u=Value.float y t from rx);cases q;exact arQ PySem.W.kitx_float I.uM True.intro e (fun z=>nomatch z) h
 |@lst a xs ea=>
  cases (show u=Value.ref a from rx);obtain⟨_,_,n,_,h1⟩:=(show iG X.prog X.w X.K H s.heap a (.lst xs) from I.cI a _ ea);exact arQ PySem.W.kitx_list I.uM ⟨_,h1,rfl⟩ e (fun z=>nomatch z) h
 |@uD a ob xs ea=>
  cases (show u=Value.ref a from rx);obtain⟨_,_,_,n,_,h1⟩:=(show iG X.prog X.w X.K H s.heap a (.uD ob (.lst xs)) from I.cI a _ ea);exact arQ PySem.W.kitx_list I.uM ⟨_,h1,rfl⟩ e (fun z=>nomatch z) h
 |@tup a xs ea=>
  cases (show u=Value.ref a from rx);obtain⟨_,_,_,p⟩:=(show iG X.prog X.w X.K H s.heap a (.tup xs) from I.cI a _ ea);obtain⟨o,h1,h2,_⟩:=p;exact arQ PySem.W.kitx_tuple I.uM ⟨o,h1,h2⟩ e (fun z=>nomatch z) h
 |@dK a kvs ea=>
  cases (show u=Value.ref a from rx);obtain⟨_,_,vs,_,p⟩:=(show iG X.prog X.w X.K H s.heap a (.dK kvs) from I.cI a _ ea);obtain⟨o,es,ep,h1,h2,_⟩:=p;exact arQ PySem.W.kitx_dict I.uM ⟨o,h1,h2.1⟩ e (fun z=>nomatch z) h
 |@dT a kvs ea=>
  cases (show u=Value.ref a from rx);obtain⟨_,_,xs,_,o,es,ep,h1,h2,_⟩:=(show iG X.prog X.w X.K H s.heap a (.dT kvs) from I.cI a _ ea);exact arQ PySem.W.kitx_dict I.uM ⟨o,h1,h2.1⟩ e (fun z=>nomatch z) h
 |@ins a C dx fs ea cl ha hn htk hm=>
  cases (show u=Value.ref a from rx);obtain⟨mA,O,_⟩:=SG I.cI ea;obtain⟨od,J,_⟩:=O.look;exact arQ (PySem.W.kitx_own (cl.get _) cl.hd ha hn htk hm) I.uM J e (fun z=>nomatch z) h
end
structure pL(k:Nat)(A:Around):Prop where
 hd:A.handled=none
 dp:A.depth+3 * k+5 < recursionLimit
 un:A.units+16 * k+200 < cLine
theorem pL.mono{j k:Nat}{A:Around}(r:pL k A)(h:j≤k):pL j A:=⟨r.hd,by have:=r.dp;omega,by have:=r.un;omega⟩
theorem pL.deeper{k:Nat}{A:Around}(r:pL (k+1) A)(env:Env):pL k (A.deeper env):=
 ⟨r.hd,by have:=r.dp;show A.depth+1+3 * k+5 < _;omega,by have:=r.un;show A.units+3+16 * k+200 < _;omega⟩
theorem agl{A:Around}{C:Addr}{us:List Value}{kw:List (Str×Value)}:(A.under (.builtin "type.__call__" ⟨.ref C::us,kw⟩)).depth=A.depth+1:=by
 first|rfl|simp[Around.under,Code.weight,Code.isCreation,Code.isGuard,Code.isCaller,Code.frames,Code.isFrame,guardIds]
theorem agm{A:Around}{C:Addr}{us:List Value}{kw:List (Str×Value)}:(A.under (.builtin "type.__call__" ⟨.ref C::us,kw⟩)).units=A.units+1:=by
 first|rfl|simp[Around.under,Code.cUnits,Code.frames,Code.isFrame]
theorem pL.make{k:Nat}{A:Around}(r:pL (k+1) A)(C:Addr)(us:List Value)(kw:List (Str×Value)):pL k (A.under (.builtin "type.__call__" ⟨.ref C::us,kw⟩)):=
 ⟨r.hd,by have:=r.dp;rw[agl];omega,by have:=r.un;rw[agm];omega⟩
theorem pL.depth{k:Nat}{A:Around}(r:pL k A):A.depth < recursionLimit:=by have:=r.dp;omega
theorem pL.units{k:Nat}{A:Around}(r:pL k A):A.units+64 < cLine:=by have:=r.un;omega
def Xw:TA:=fun _ H Q=>Q [] H
def aiD(ta:TE)(tr:TA):TA:=fun σ H Q=>ta σ H fun x H1=>tr σ H1 fun xs H2=>Q (x::xs) H2
section
variable{X:Cx}{e:Expr}{es:List Expr}{te:TE}{t:TA}{pos:Pos}
theorem aj:PA X [] Xw:=fun _ _ _ _ H Q I h=>Calls.spliced_nil ⟨[],H,I,.nil,h⟩
theorem af(ha:PE X e te)(hr:PA X es t)(hs:starEach (e::es) X.env=(false,eval e X.env)::starEach es X.env:=by rfl):PA X (e::es) (aiD te t):=by
 intro pos pins s σ H Q I h;rw[hs];show wpAny _ _ (spliced ((false,eval e X.env)::backTo pos (starEach es X.env))) _ _ s;refine atG (gf (ha pins s σ H _ I h) fun u s1 ⟨x,H1,I1,r1,q1⟩=>?_);exact gf (hr pos pins s1 σ H1 _ I1 q1) fun us s2 ⟨xs,H2,I2,r2,q2⟩=>⟨x::xs,H2,I2,.cons r1 r2,q2⟩
def aqV(t:TA):TE:=fun σ H Q=>t σ H fun xs H1=>xs.length≤sizeLine∧∀ p,H1 p=none→Q (.ref p) (upd H1 p (.tup xs))
def ar0(t:TA):TE:=fun σ H Q=>t σ H fun xs H1=>xs.length≤sizeLine∧∀ p,H1 p=none→Q (.ref p) (upd H1 p (.lst xs))
theorem BJ{x1}(h:PA X es t):PE X (.Tuple es x1 pos) (aqV t):=by
 intro pins s σ H Q I hq;refine wpAny_Tuple_spliced (gf (h pos pins s σ H _ I hq) fun us s1 ⟨xs,H1,I1,r,z,q⟩=>⟨by rw[← r.length];exact z,?_⟩);have hf:H1 s1.heap.objs.size=none:=I1.cI.fresh (aiM _);refine⟨.ref s1.heap.objs.size,upd H1 s1.heap.objs.size (.tup xs),I1.laid (t':=s1.toks) (fun b u e=>akR _ e) (aiM _) ?_,rfl,q _ hf⟩;exact⟨z,us,r,⟨_,anF _ rfl,rfl,_,rfl⟩⟩
theorem bz(h:PA X es t):PE X (.List es pos) (ar0 t):=by
 intro pins s σ H Q I hq;refine wpAny_List_spliced (gf (h pos pins s σ H _ I hq) fun us s1 ⟨xs,H1,I1,r,z,q⟩=>⟨by rw[← r.length];exact z,?_⟩);have hf:H1 s1.heap.objs.size=none:=I1.cI.fresh (aiM _);refine⟨.ref s1.heap.objs.size,upd H1 s1.heap.objs.size (.lst xs),I1.laid (t':=s1.toks) (fun b u e=>akR _ e) (aiM _) ?_,rfl,q _ hf⟩;exact⟨z,us,0,r,anF _ rfl⟩
end
abbrev Sp:=List V→Hp→VK→XK→Prop
abbrev CXT:=List Env→Hp→Shared→XK→Value→Shared→Prop
structure agn(P:Program)(w:World)(K:Fg)(mg:Str→Option Value)(base:Heap)(A:Around)(outer:List Env)(s:Shared)(H:Hp):Prop where
 frames:A.frames=some outer
 mod:Mod K mg base
 bs:∀ b o,base.get? b=some o→s.heap.get? b=some o∧H b=none
 bsz:base.objs.size≤s.heap.objs.size
 Rx:s.heap.FunFrames base outer
 frf:∀ b∈frs outer,H b=none
 cI:EH P w K H s.heap
 bare:AllBare s.gens
def CE(outer:List Env)(P:Program)(w:World)(K:Fg)(H:Hp)(s:Shared)(Q:VK)(u:Value)(s':Shared):Prop:=
 ∃ v H',s'.os=s.os∧AllBare s'.gens∧Un (frs outer) [] H H' s.heap s'.heap∧EH P w K H' s'.heap∧RelV v u∧Q v H'
def CR(CX:CXT)(outer:List Env)(P:Program)(w:World)(K:Fg)(H:Hp)(s:Shared)(Q:VK)(E:XK)(r:Result)(s':Shared):Prop:=
 match r with
 |.ok (.ret u)=>CE outer P w K H s Q u s'
 |.ok _=>False
 |.error e=>CX outer H s E e s'
structure bL(P:Program)(w:World)(K:Fg)(mg:Str→Option Value)(base:Heap)(CX:CXT)(k:Nat)(f:Addr)(fd:FuncData)(ps:List Str)(sp:Sp):Prop where
 len:∀ vs H Q E,sp vs H Q E→vs.length=ps.length
 run:∀ (A:Around) (outer:List Env) (s:Shared) (H:Hp) (args:Args) (us:List Value) (vs:List V) (Q:VK) (E:XK),pL k A→agn P w K mg base A outer s H→BindsTo s fd args (ps.zip us)→bK vs us→sp vs H Q E→
  codeAny (model P w) A (.call (.ref f) args) (CR CX outer P w K H s Q E) s
theorem agn.make{P:Program}{w:World}{K:Fg}{mg:Str→Option Value}{base:Heap}{A:Around}{outer:List Env}{s:Shared}{H:Hp}(e:agn P w K mg base A outer s H)(C:Addr)(us:List Value)(kw:List (Str×Value)) :
  agn P w K mg base (A.under (.builtin "type.__call__" ⟨.ref C::us,kw⟩)) outer s H:=⟨by first|exact e.frames|(simpa [Around.under,Code.envs,Code.isFrame,pushEnvs] using e.frames),e.mod,e.bs,e.bsz,e.Rx,e.frf,e.cI,e.bare⟩
section
variable{X:Cx}{pins:List (Addr×Obj)}{σ:St}{H:Hp}{s s':Shared}
theorem Inv.apy(I:Inv X pins σ H s):agn X.prog X.w X.K X.mg X.base X.A X.stack s H:=
 ⟨I.ok.frames,I.ok.mod,I.bs,ao0 I.ok.bsz I.sz,I.stack,I.aiw,I.cI,I.bare⟩
theorem Inv.after{Q:VK}{u:Value}(I:Inv X pins σ H s)(h:CE X.stack X.prog X.w X.K H s Q u s'):EP X pins σ Q u s':=by
 obtain⟨v,H',os,bare,un,cI,r,q⟩:=h;obtain⟨hh,g,d,t,os'⟩:=s';obtain rfl:os'=s.os:=os;exact⟨v,H',I.call (h':=hh) (g':=g) (d':=d) (t':=t) (ch:=[]) un cI bare (fun b z=>absurd z (by simp)),r,q⟩
end
def aqW(sp:Sp)(dvs:List V)(E:XK)(t:TA):TE:=fun σ H Q=>t σ H fun vs H1=>sp (vs++dvs) H1 Q E
def zx19(C:Addr)(m:Str)(sp:Sp)(dvs:List V)(E:XK)(t:TA)(σ:St)(Q:VK)(x:V)(H1:Hp):=fun a dx fs=>(x=.ref a∧H1 a=some (.ins C dx fs)∧fs.lookup m=none∧t σ H1 fun vs H2=>sp (x::(vs++dvs)) H2 Q E)
def aoM(C:Addr)(m:Str)(sp:Sp)(dvs:List V)(E:XK)(ta:TE)(t:TA):TE:=fun σ H Q=>ta σ H fun x H1=>zx_3 (zx19 C m sp dvs E t σ Q x H1)
def aoN(C:Addr)(sp:Sp)(dvs:List V)(E:XK)(t:TA):TE:=fun σ H Q=>t σ H fun vs H1=>∀ x dx,H1 x=none→H1 dx=none→dx≠x→
 sp (.ref x::(vs++dvs)) (upd (upd H1 dx (.own x)) x (.ins C dx [])) (fun v H2=>v=.dN∧Q (.ref x) H2) E
def Binds(K:Fg)(fd:FuncData)(ps:List Str)(ds:List Value):Prop:=
 ∀ (s:Shared) (us:List Value),K.In s.heap→(us++ds).length=ps.length→BindsTo s fd ⟨us,[]⟩ (ps.zip (us++ds))
theorem Binds.all{K:Fg}{fd:FuncData}{ps:List Str}(h:∀ us:List Value,us.length=ps.length→bindArgs fd ⟨us,[]⟩=pure (ps.zip us)):Binds K fd ps []:=fun s us _ hl=>by
 rw[apc] at hl ⊢;exact .of_eq (h us hl)
def wC(CX:CXT)(X:Cx)(E:XK):Prop:=∀ (pins:List (Addr×Obj)) (σ:St) (H:Hp) (s:Shared) (e:Value) (s':Shared),Inv X pins σ H s→CX X.stack H s E e s'→X.xe e s'
section
variable{X:Cx}{CX:CXT}{k:Nat}{f C:Addr}{fd:FuncData}{ps:List Str}{sp:Sp}{dvs:List V}{ds:List Value}{E:XK}{x m:Str}{p pos apos:Pos}{e o:Expr}{es:List Expr}{ta:TE}{t:TA}
theorem aad{pins:List (Addr×Obj)}{σ:St}{H:Hp}{s:Shared}{Q:VK}{us:List Value}{vs:List V}(F:bL X.prog X.w X.K X.mg X.base CX k f fd ps sp)(hr:pL k X.A)(hb:Binds X.K fd ps ds)(hd:bK dvs ds)(hx:wC CX X E)
  (I:Inv X pins σ H s) (r:bK vs us) (h:sp (vs++dvs) H Q E):wpAny (model X.prog X.w) X.A (call (.ref f) us) (EP X pins σ Q) X.xe s:=by
 have r2:bK (vs++dvs) (us++ds):=r.append hd;have hl:(us++ds).length=ps.length:=by rw[← r2.length];exact F.len _ _ _ _ h
 refine wpAny_call (codeAny_mono (F.run X.A X.stack s H ⟨us,[]⟩ (us++ds) (vs++dvs) Q E hr I.apy (hb s us I.uM hl) r2 h) fun r s' hq=>?_);cases r with
 |error e=>exact hx pins σ H s e s' I hq
 |ok fl=>
  cases fl with
  |ret u=>exact I.after hq
  |next=>exact False.elim hq
  |brk=>exact False.elim hq
  |cont=>exact False.elim hq
theorem aR(F:bL X.prog X.w X.K X.mg X.base CX k f fd ps sp)(hr:pL k X.A)(hg:Gl X x)(hm:X.mg x=some (.ref f))(hk:PySem.W.keepIn X.K (.ref f)=true)(hb:Binds X.K fd ps ds)(hd:bK dvs ds)(hx:wC CX X E)
  (ha:PA X (e::es) t) (hdb:(x == ("__debug__" : Str))=false:=by decide) (he:starEach (e::es) X.env=(false,eval e X.env)::starEach es X.env:=by rfl) (hpl:(backTo pos (starEach es X.env)).any (·.1)=false:=by rfl) :
  PE X (.Call (.Name x p) (e::es) [] pos) (aqW sp dvs E t):=by
 intro pins s σ H Q I h;refine asG (K3 I hg hm ?_ hdb);refine atH (h₀:=X.base) I.ok.mod.Xu hk (gf (ha pos pins s σ H _ I h) fun us s1 ⟨vs,H1,I1,r,q⟩=>⟨I1.uM,?_⟩) he hpl;exact aad F hr hb hd hx I1 r q
theorem dP{pl:Sem Bool}(he:PE X o ta)(c:Cls X.K C)(hm:oH X.K C m f)(F:bL X.prog X.w X.K X.mg X.base CX k f fd ps sp)(hr:pL k X.A)(hb:Binds X.K fd ps ds)(hd:bK dvs ds)(hx:wC CX X E)(ha:PA X (e::es) t)
  (hst:starEach (e::es) X.env=(false,eval e X.env)::starEach es X.env:=by rfl) (hpl:(backTo pos (starEach es X.env)).any (·.1)=false:=by rfl)
  (ht:eval (.Call (.Attribute o m apos) (e::es) [] pos) X.env=(do
   let ov ← eval o X.env
   standAt apos.atName
   let (f,first) ← holding [ov] (getMethod ov m pl)
   callWith pos f first (backTo pos (starEach (e::es) X.env)) (backToKw pos (keywordEach [] X.env))):=by rfl) :
  PE X (.Call (.Attribute o m apos) (e::es) [] pos) (aoM C m sp dvs E ta t):=by
 intro pins s σ H Q I h;refine PySem.W.methodCall_KW (pl:=pl) (gf (he pins s σ H _ I h) fun u s1 ⟨x,H1,I1,rx,a,dx,fs,ex,ea,l,q⟩=>?_) ht;subst ex;obtain rfl:u=Value.ref a:=rx;refine T6 I1 ea c hm l ?_;refine atH (first:=[.ref a]) (h₀:=X.base) I.ok.mod.Xu hm.kp (gf (ha pos pins s1 σ H1 _ I1 q) fun us s2 ⟨vs,H2,I2,r,q2⟩=>⟨I2.uM,?_⟩) hst hpl;exact aad (us:=.ref a::us) (vs:=.ref a::vs) F hr hb hd hx I2 (.cons rfl r) q2
theorem aT{pl:Sem Bool}(he:PE X o ta)(c:Cls X.K C)(hm:oH X.K C m f)(F:bL X.prog X.w X.K X.mg X.base CX k f fd ps sp)(hr:pL k X.A)(hb:Binds X.K fd ps ds)(hd:bK dvs ds)(hx:wC CX X E)
  (ht:eval (.Call (.Attribute o m apos) [] [] pos) X.env=(do
   let ov ← eval o X.env
   standAt apos.atName
   let (f,first) ← holding [ov] (getMethod ov m pl)
   callWith pos f first (backTo pos (starEach [] X.env)) (backToKw pos (keywordEach [] X.env))):=by rfl) :
  PE X (.Call (.Attribute o m apos) [] [] pos) (aoM C m sp dvs E ta Xw):=by
 intro pins s σ H Q I h;refine PySem.W.methodCall_KW (pl:=pl) (gf (he pins s σ H _ I h) fun u s1 ⟨x,H1,I1,rx,a,dx,fs,ex,ea,l,q⟩=>?_) ht;subst ex;obtain rfl:u=Value.ref a:=rx;refine T6 I1 ea c hm l ?_;exact PySem.W.callWith_K0 (first:=[.ref a]) I1.uM hm.kp (aad (us:=[.ref a]) (vs:=[.ref a]) F hr hb hd hx I1 (.cons rfl .nil) q)
structure Mk(K:Fg)(C f:Addr):Prop where
 makes:PySem.W.makesIn K C=true
 init:PySem.W.findIn K (.ref C) "__init__"=some (some (.ref f))
 fn:PySem.W.isFn K (.ref f)=true
 kp:PySem.W.keepIn K (.ref C)=true
theorem adb{pins:List (Addr×Obj)}{σ:St}{H:Hp}{s:Shared}{Q:VK}{us:List Value}{vs:List V}(M:Mk X.K C f)(F:bL X.prog X.w X.K X.mg X.base CX k f fd ps sp)(hr:pL (k+1) X.A)(hb:Binds X.K fd ps ds)(hd:bK dvs ds)
  (hx:wC CX X E) (I:Inv X pins σ H s) (r:bK vs us)
  (h:∀ x dx,H x=none→H dx=none→dx≠x→sp (.ref x::(vs++dvs)) (upd (upd H dx (.own x)) x (.ins C dx [])) (fun v H2=>v=.dN∧Q (.ref x) H2) E) :
  wpAny (model X.prog X.w) X.A (call (.ref C) us) (EP X pins σ Q) X.xe s:=by
 have hq:=h (s.heap.objs.size+1) s.heap.objs.size (I.cI.fresh (Nat.le_succ _)) (I.cI.fresh (aiM _)) (arB (atf _));have I2:=Inv.made (C:=C) I;have r2:bK (V.ref (s.heap.objs.size+1)::(vs++dvs)) (Value.ref (s.heap.objs.size+1)::(us++ds)):=.cons rfl (r.append hd);have hl:(Value.ref (s.heap.objs.size+1)::us++ds).length=ps.length:=by
  have e:=r2.length;rw[F.len _ _ _ _ hq] at e;exact e.symm
 refine wpAny_call (ac9 (f:=f) I.uM M.makes M.init (asR.mp M.fn) (codeAny_mono (F.run _ X.stack _ _ ⟨Value.ref (s.heap.objs.size+1)::us,[]⟩ (Value.ref (s.heap.objs.size+1)::(us++ds)) _ _ E (hr.make C us [])
  (I2.apy.make C us []) (hb _ (Value.ref (s.heap.objs.size+1)::us) I2.uM hl) r2 hq) fun r s' hq'=>?_))
 cases r with
 |error e=>exact hx pins σ _ _ e s' I2 hq'
 |ok fl=>
  cases fl with
  |ret u=>
   obtain⟨v,H',I3,rv,ev,q3⟩:=I2.after hq';subst ev;exact⟨rv,⟨V.ref (s.heap.objs.size+1),H',I3,rfl,q3⟩⟩
  |next=>exact False.elim hq'
  |brk=>exact False.elim hq'
  |cont=>exact False.elim hq'
theorem SH(M:Mk X.K C f)(F:bL X.prog X.w X.K X.mg X.base CX k f fd ps sp)(hr:pL (k+1) X.A)(hg:Gl X x)(hm:X.mg x=some (.ref C))(hb:Binds X.K fd ps ds)(hd:bK dvs ds)(hx:wC CX X E)
  (ha:PA X (e::es) t) (hdb:(x == ("__debug__" : Str))=false:=by decide) (he:starEach (e::es) X.env=(false,eval e X.env)::starEach es X.env:=by rfl) (hpl:(backTo pos (starEach es X.env)).any (·.1)=false:=by rfl) :
  PE X (.Call (.Name x p) (e::es) [] pos) (aoN C sp dvs E t):=by
 intro pins s σ H Q I h;refine asG (K3 I hg hm ?_ hdb);refine atH (h₀:=X.base) I.ok.mod.Xu M.kp (gf (ha pos pins s σ H _ I h) fun us s1 ⟨vs,H1,I1,r,q⟩=>⟨I1.uM,?_⟩) he hpl;exact adb M F hr hb hd hx I1 r q
theorem ade(M:Mk X.K C f)(F:bL X.prog X.w X.K X.mg X.base CX k f fd ps sp)(hr:pL (k+1) X.A)(hg:Gl X x)(hm:X.mg x=some (.ref C))(hb:Binds X.K fd ps ds)(hd:bK dvs ds)(hx:wC CX X E)
  (hdb:(x == ("__debug__" : Str))=false:=by decide):PE X (.Call (.Name x p) [] [] pos) (aoN C sp dvs E Xw):=by
 intro pins s σ H Q I h;refine asG (K3 I hg hm ?_ hdb);exact PySem.W.callWith_K0 I.uM M.kp (adb (us:=[]) M F hr hb hd hx I .nil h)
end
def PK(X:Cx)(wD:List Keyword)(t:TA):Prop:=
 ∀ (pos:Pos) (pins:List (Addr×Obj)) (s:Shared) (σ:St) (H:Hp) (Q:List V→Hp→Prop),Inv X pins σ H s→t σ H Q→wpAny (model X.prog X.w) X.A (evalAll ((backToKw pos (keywordEach wD X.env)).map (·.2))) (AP X pins σ Q) X.xe s
section
variable{X:Cx}{CX:CXT}{k:Nat}{f C:Addr}{fd:FuncData}{ps ks:List Str}{sp:Sp}{E:XK}{x m:Str}{p pos apos kpos:Pos}{e o:Expr}{es:List Expr}{wD:List Keyword}{te ta:TE}{t tk:TA}{nm:Option Str}
theorem EN:PK X [] Xw:=fun _ _ _ _ H Q I h=>wpAny_evalAll_nil ⟨[],H,I,.nil,h⟩
theorem ny(ha:PE X e te)(hr:PK X wD t):PK X (⟨nm,e,kpos⟩::wD) (aiD te t):=by
 intro pos pins s σ H Q I h;show wpAny _ _ (evalAll ((do let v ← eval e X.env;standAt pos;pure v)::(backToKw pos (keywordEach wD X.env)).map (·.2))) _ _ s;refine wpAny_evalAll_cons (adg (gf (ha pins s σ H _ I h) fun u s1 ⟨x,H1,I1,r1,q1⟩=>adg (wpAny_standAt (alu ?_))));exact gf (hr pos pins s1 σ H1 _ I1 q1) fun us s2 ⟨xs,H2,I2,r2,q2⟩=>⟨x::xs,H2,I2,.cons r1 r2,q2⟩
structure zx(K:Fg)(fd:FuncData)(ps ks:List Str)(g:List Value→List Value→List Value)(gV:List V→List V→List V):Prop where
 to:∀ (s:Shared) (us ws:List Value),K.In s.heap→(g us ws).length=ps.length→BindsTo s fd ⟨us,ks.zip ws⟩ (ps.zip (g us ws))
 rel:∀ {vs:List V} {us:List Value} {zs:List V} {ws:List Value},bK vs us→bK zs ws→bK (gV vs zs) (g us ws)
variable{g:List Value→List Value→List Value}{gV:List V→List V→List V}
end
structure aK(N P:List Str)(sc:Scope):Prop where
 kind:sc.kind=.function
 co:sc.isCoroutine=false
 gen:sc.isGenerator=false
 nd:N.Nodup
 pre:N.take P.length=P
 par:∀ x∈P,sc.names.lookup x=some .local∨sc.names.lookup x=some .cell
 apz:∀ y∈sc.names,y.2≠.free
theorem YL{kindOf:Str→Option NameKind}{x:Str}:∀ {binds:List (Str×Value)} {m:Str→Option Value},(∀ v,(x,v)∉binds)→bindL kindOf binds m x=m x
 |[],_,_=>rfl
 |(n,v)::r,m,h=>by
  unfold bindL;rw[YL fun w hw=>h w (aiy _ hw)];split
  ·have:x≠n:=by rintro rfl;exact h v ajM
   simp[this]
  ·rfl
theorem YM{kindOf:Str→Option NameKind}{x:Str}:∀ {binds:List (Str×Value)} {m:Str→Option Value},(∀ v,(x,v)∉binds)→bindC kindOf binds m x=m x
 |[],_,_=>rfl
 |(n,v)::r,m,h=>by
  unfold bindC;rw[YM fun w hw=>h w (aiy _ hw)];split
  ·rfl
  ·have:x≠n:=by rintro rfl;exact h v ajM
   simp[this]
theorem YN{kindOf:Str→Option NameKind}{x:Str}{v:Value}:∀ {P:List Str} {vs:List Value} {i:Nat} {m:Str→Option Value},P.Nodup→P[i]?=some x→vs[i]?=some v→kindOf x=some .local→
  bindL kindOf (P.zip vs) m x=some v
 |[],_,_,_,_,h,_,_=>by simp at h
 |_::_,[],_,_,_,_,h,_=>by simp at h
 |p::P,w::vs,0,m,nd,h1,h2,hk=>by
  simp at h1 h2;subst h1;subst h2;show bindL kindOf ((p,w)::P.zip vs) m p=_;unfold bindL;rw[YL fun v hv=>(arA.mp nd).1 (List.of_mem_zip hv).1,afO hk];simp
 |p::P,w::vs,i+1,m,nd,h1,h2,hk=>by
  show bindL kindOf ((p,w)::P.zip vs) m x=_;unfold bindL;exact YN (i:=i) (List.nodup_cons.mp nd).2 (by simpa using h1) (by simpa using h2) hk
theorem YO{kindOf:Str→Option NameKind}{x:Str}{v:Value}:∀ {P:List Str} {vs:List Value} {i:Nat} {m:Str→Option Value},P.Nodup→P[i]?=some x→vs[i]?=some v→kindOf x≠some .local→
  bindC kindOf (P.zip vs) m x=some v
 |[],_,_,_,_,h,_,_=>by simp at h
 |_::_,[],_,_,_,_,h,_=>by simp at h
 |p::P,w::vs,0,m,nd,h1,h2,hk=>by
  simp at h1 h2;subst h1;subst h2;show bindC kindOf ((p,w)::P.zip vs) m p=_;unfold bindC;rw[YM fun v hv=>(arA.mp nd).1 (List.of_mem_zip hv).1,acK hk];simp
 |p::P,w::vs,i+1,m,nd,h1,h2,hk=>by
  show bindC kindOf ((p,w)::P.zip vs) m x=_;unfold bindC;exact YO (i:=i) (List.nodup_cons.mp nd).2 (by simpa using h1) (by simpa using h2) hk
def start(N:List Str)(vs:List V):St:=vs.map some++List.replicate (N.length - vs.length) none
def ago(CX:CXT)(P:Program)(w:World)(K:Fg)(mg:Str→Option Value)(base:Heap)(N:List Str)(qual:Str)(scope:Scope)(f:Addr)(cd:Value)(A:Around)(outer:List Env)(s:Shared)(H:Hp)(E:XK):Cx where
 prog:=P
 w:=w
 K:=K
 mg:=mg
 base:=base
 A:=A.deeper (envOfC qual scope s.heap.objs.size f cd)
 N:=N
 YI:=s
 H_0:=H
 env:=envOfC qual scope s.heap.objs.size f cd
 outer:=outer
 stack:=envOfC qual scope s.heap.objs.size f cd::outer
 ex:=[]
 calm:=true
 fn:=fun _=>true
 pn:=[]
 xe:=fun e s'=>wpAny (model P w) (A.deeper (envOfC qual scope s.heap.objs.size f cd)) (leaving (envOfC qual scope s.heap.objs.size f cd) e) (fun _ s''=>CX outer H s E e s'') (fun e' s''=>CX outer H s E e' s'') s'
theorem adf{sc:Scope}{n:Nat}{x:Str}(h:sc.names.lookup x=some .cell):∃ c,(cellsFrom n sc.names []).lookup x=some c:=by
 have q:=PySem.W.cellsFrom_some sc.names n [] (.inl h);exact aqv.mp q
theorem ajN{CX:CXT}{P:Program}{w:World}{K:Fg}{mg:Str→Option Value}{base:Heap}{N ps:List Str}{qual:Str}{scope:Scope}{f:Addr}{cd:Value}{A:Around}{outer:List Env}{s s1:Shared}{H:Hp}{E:XK}{us:List Value}{vs:List V}
  (S:aK N ps scope) (hd:A.handled=none) (e0:agn P w K mg base A outer s H) (hl:vs.length=ps.length) (r:bK vs us)
  (x:InCallC s s.heap.objs.size (bindL (envOfC qual scope s.heap.objs.size f cd).kindOf (ps.zip us) fun _=>none) (cellsFrom (s.heap.objs.size+1) scope.names []) (bindC (envOfC qual scope s.heap.objs.size f cd).kindOf (ps.zip us) fun _=>none) s1) :
  Inv (ago CX P w K mg base N qual scope f cd A outer s H E) [] (start N vs) H s1:=by
 have hpl:ps.length≤N.length:=by have:=arD List.length S.pre;rw[aq8] at this;omega
 obtain⟨h1,tk,rfl,hk⟩:=x.done;have noA:∀ b:Addr,b∉(ago CX P w K mg base N qual scope f cd A outer s H E).ex:=fun b z=>absurd (show b∈([]:List Addr) from z) (by simp);refine⟨⟨e0.mod,S.kind,rfl,rfl,aiM _,fun y z c h1 h2=>?_,fun y hy=>?_,fun y c _ h=>?_,fun _=>hd,Around.frames_deeper e0.frames,.inr ⟨rfl,rfl⟩,fun b z=>absurd z (noA b),e0.bs,e0.bsz,fun b _ _=>noA b,fun b z=>absurd z (noA b),e0.Rx,e0.frf⟩,
  rfl,e0.bare,Un.kept hk,⟨_,x.toInCall.ns,fun i y v h1 h2 h3=>?_⟩,fun y c h=>⟨_,x.cell y c h⟩,e0.cI.fresh (aiM _),fun y c h=>?_,fun p hp=>absurd (show p∈([]:List (Addr×Obj)) from hp) (by simp),e0.cI.kept hk,?_⟩
 ·exact name_of_addr x.apart (aqF h1) (aqF h2)
 ·have hy:scope.names.lookup y=some .cell∨scope.names.lookup y=some .free:=hy;rcases hy with hy|hy
  ·exact adf hy
  ·exact absurd rfl (S.apz _ (aqF hy))
 ·exact ate (x.above y c (aqF h))
 ·have hi:i < vs.length:=by
   unfold start at h2;by_cases hi:i < vs.length
   ·exact hi
   ·rw[List.getElem?_append_right (by simpa using hi)] at h2;rw[List.getElem?_replicate] at h2;split at h2 <;> cases h2
  have ha:vs[i]?=some v:=by
   unfold start at h2;rw[List.getElem?_append_left (by simpa using hi),List.getElem?_map] at h2;cases e:vs[i]? with
   |none=>rw[e] at h2;cases h2
   |some a=>rw[e] at h2;cases h2;rfl
  obtain⟨u,hu,rv⟩:=r.get ha;have hp:ps[i]?=some y:=by
   rw[← S.pre,List.getElem?_take_of_lt (by omega)];exact h1
  have ndP:ps.Nodup:=by rw[← S.pre];exact S.nd.sublist (List.take_sublist _ _)
  refine⟨u,rv,?_⟩;rcases S.par y (aqt hp) with k|k
  ·exact .inl ⟨k,YN ndP hp hu k⟩
  ·obtain⟨c,e⟩:=adf (n:=s.heap.objs.size+1) k;refine .inr ⟨.inl k,c,e,?_⟩;have q:=x.cell y c e;rw[YO ndP hp hu (by show scope.names.lookup y≠_;rw[k];decide)] at q;exact q
 ·exact e0.cI.fresh (ate (x.above y c (aqF h)))
 ·unfold start;show _=N.length;rw[ada,aah,List.length_replicate];omega
theorem aoO{CX:CXT}{P:Program}{w:World}{K:Fg}{mg:Str→Option Value}{base:Heap}{k:Nat}{f:Addr}{name qual:Str}{params:Arguments}{body:List Stmt}{scope:Scope}{dV kV doc pm cdv ct oc:Value}{an od:Option Addr}
  {osl:Array (Option Value)} {N ps:List Str} {sp:Sp} (lk:K.lookup f=some ⟨oc,od,.func (PySem.W.fnOf name qual params body scope dV kV doc pm an cdv ct),osl⟩) (hcd:PySem.W.codeIn K cdv qual=true) (S:aK N ps scope)
  (len:∀ vs H Q E,sp vs H Q E→vs.length=ps.length)
  (hbody:∀ (A:Around) (outer:List Env) (s:Shared) (H:Hp) (vs:List V) (Q:VK) (E:XK),pL k (A.deeper (envOfC qual scope s.heap.objs.size f cdv))→sp vs H Q E→
   ∃ t,PSs (ago CX P w K mg base N qual scope f cdv A outer s H E) body t∧t { nx:=fun _ H'=>Q .dN H',rt:=Q } (start N vs) H) :
  bL P w K mg base CX (k+1) f (PySem.W.fnOf name qual params body scope dV kV doc pm an cdv ct) ps sp:=by
 refine⟨len,fun A outer s H args us vs Q E hr e0 hb r hsp=>?_⟩;have hl:=len _ _ _ _ hsp;have KX:K.In s.heap:=e0.mod.Xu.keeps fun b o e=>(e0.bs b o e).1;have lim:s.heap.NoLimit:=e0.mod.nolimit.keeps fun b o e=>(e0.bs b o e).1;have hkind:∀ y∈ps.zip us,scope.names.lookup y.1=some .local∨(scope.names.lookup y.1=some .cell∧((cellsFrom (s.heap.objs.size+1) scope.names []).lookup y.1).isSome=true):=fun⟨n,v⟩ hy=>by
  rcases S.par n (List.of_mem_zip hy).1 with q|q
  ·exact .inl q
  ·exact .inr ⟨q,PySem.W.cellsFrom_some _ _ _ (.inl q)⟩
 refine codeAny_call_function hr.depth (KX _ _ lk) rfl S.co S.gen rfl (PySem.W.codeRec_of KX hcd) (hb _ _ _ _ ?_);refine wpAny_newFunctionEnv_cells S.kind hkind fun env he s1 x=>?_;subst he;refine⟨lim.keeps x.toInCall.keep,codeAny_func ?_⟩;obtain⟨t,ht,hq⟩:=hbody A outer s H vs Q E (hr.deeper _) hsp;have I:Inv (ago CX P w K mg base N qual scope f cdv A outer s H E) [] (start N vs) H s1:=ajN S hr.hd e0 hl r x;refine asL (ht [] s1 (start N vs) H _ I hq) (fun fl s' hs=>?_) fun e s' hs=>hs;have fin:∀ {σ':St} {H':Hp} {v:V} {u:Value},Inv (ago CX P w K mg base N qual scope f cdv A outer s H E) [] σ' H' s'→RelV v u→Q v H'→CE outer P w K H s Q u s':=
  fun{σ' H' v u} J rv q=>⟨v,H',J.os,J.bare,J.base,J.cI,rv,q⟩
 cases fl with
 |ret u=>
  obtain⟨v,σ',H',J,rv,q⟩:=hs;exact fin J rv q
 |next=>
  obtain⟨σ',H',J,q⟩:=hs;exact fin (v:=V.dN) (u:=Value.none) J rfl q
 |brk=>
  obtain⟨_,_,_,q⟩:=hs;exact False.elim q
 |cont=>
  obtain⟨_,_,_,q⟩:=hs;exact False.elim q
section
variable{X:Cx}{x:Str}{p pos:Pos}{e:Expr}{es:List Expr}{t:TA}{id T:String}{r:List V→Hp→VK→Prop}
def tCB(r:List V→Hp→VK→Prop)(t:TA):TE:=fun σ H Q=>t σ H fun vs H1=>r vs H1 Q
theorem cj(hc:Ai X (.builtin id) r)(hg:Gl X x)(hm:X.mg x=none)(hv:bootBuiltins x=some (.builtin id))(ha:PA X (e::es) t)(hn:x≠"__name__":=by decide)(hdb:(x == ("__debug__" : Str))=false:=by decide)
  (he:starEach (e::es) X.env=(false,eval e X.env)::starEach es X.env:=by rfl) (hpl:(backTo pos (starEach es X.env)).any (·.1)=false:=by rfl):PE X (.Call (.Name x p) (e::es) [] pos) (tCB r t):=by
 intro pins s σ H Q I h;refine asG (Jh I hg hm hv ?_ hn hdb);exact PyProof.Rows.callWith_builtin1 (gf (ha pos pins s σ H _ I h) fun us s1 ⟨vs,H1,I1,r1,q1⟩=>hc pins s1 σ H1 vs us Q I1 r1 q1) he hpl
theorem Ou(hc:Ai X (.type T) r)(hg:Gl X x)(hm:X.mg x=none)(hv:bootBuiltins x=some (.type T))(ha:PA X (e::es) t)(hn:x≠"__name__":=by decide)(hdb:(x == ("__debug__" : Str))=false:=by decide)
  (he:starEach (e::es) X.env=(false,eval e X.env)::starEach es X.env:=by rfl) (hpl:(backTo pos (starEach es X.env)).any (·.1)=false:=by rfl):PE X (.Call (.Name x p) (e::es) [] pos) (tCB r t):=by
 intro pins s σ H Q I h;refine asG (Jh I hg hm hv ?_ hn hdb);exact asJ (gf (ha pos pins s σ H _ I h) fun us s1 ⟨vs,H1,I1,r1,q1⟩=>hc pins s1 σ H1 vs us Q I1 r1 q1) he hpl
end
end L2
namespace HT
open PySem PyProof.Rows
def lexLt:List Int→List Int→Bool
 |[],[]=>false
 |[],_::_=>true
 |_::_,[]=>false
 |x::xs,y::ys=>if x=y then lexLt xs ys else decide (x < y)
theorem wF(x y:Int)(xs ys:List Int):lexLt (x::xs) (y::ys)=if x=y then lexLt xs ys else decide (x < y):=rfl
theorem Ip:lexLt [] []=false:=rfl
theorem T8(y:Int)(ys:List Int):lexLt [] (y::ys)=true:=rfl
theorem T9(x:Int)(xs:List Int):lexLt (x::xs) []=false:=rfl
theorem alN(A:Around)(s:Shared)(a:Int)(t:Tok)(c:Int)(u:Tok):∃ e,SeqAt.EqAt A s (.int a t) (.int c u) e∧(e=true↔a=c):=
 ⟨(a == c),SeqAt.EqAt.int_int a t c u,by simp⟩
section
variable{prog:Program}{w:World}{A:Around}{E:Value→Shared→Prop}{s:Shared}
def sIx(n d:Nat):Option Int→Nat
 |none=>d
 |some v=>if v < 0 then(v+(n:Int)).toNat else min v.toNat n
theorem K6(n d:Nat):sIx n d none=d:=rfl
theorem yk(n d k:Nat):sIx n d (some (k:Int))=min k n:=by
 show(if (k:Int) < 0 then((k:Int)+(n:Int)).toNat else min (k:Int).toNat n)=min k n;rw[acK (by omega),att]
end
end HT
namespace L2
open PySem PySem.Spec PyProof.Rows
abbrev TO:=St→Hp→(Option Int→Hp→Prop)→Prop
def PO(X:Cx)(e:Option Expr)(t:TO):Prop:=
 ∀ (pins:List (Addr×Obj)) (s:Shared) (σ:St) (H:Hp) (Q:Option Int→Hp→Prop),Inv X pins σ H s→t σ H Q→
  wpAny (model X.prog X.w) X.A (evalPart e X.env) (fun u s'=>∃ o H',Inv X pins σ H' s'∧IsPart u o∧Q o H') X.xe s
def anQ:TO:=fun _ H Q=>Q none H
def zx20(Q:Option Int→Hp→Prop)(x:V)(H1:Hp):=fun i=>(x=.int i∧Q (some i) H1)
def aqX(t:TE):TO:=fun σ H Q=>t σ H fun x H1=>Exists (zx20 Q x H1)
theorem intsAre_of{ns:List Int}:∀ {us:List Value},bK (ns.map V.int) us→IntsAre us ns:=by
 induction ns with
 |nil=>intro us r;rw[atv] at r;cases r;exact .nil
 |cons n ns ih=>
  intro us r;rw[ajR] at r;cases r with
  |cons r1 r2=>
   obtain⟨t,e⟩:=r1;subst e;exact .cons n t (ih r2)
section
variable{X:Cx}{e:Expr}{te:TE}{lo hi:Option Expr}{tl th:TO}{pos p2:Pos}
theorem vp:PO X none anQ:=by
 intro pins s σ H Q I h;rw[evalPart_none];exact alu ⟨none,H,I,.none,h⟩
theorem fL(h:PE X e te):PO X (some e) (aqX te):=by
 intro pins s σ H Q I hw;rw[evalPart_some];refine gf (h pins s σ H _ I hw) fun u s1 ⟨x,H1,I1,r1,q1⟩=>?_;obtain⟨i,rfl,q⟩:=q1;obtain⟨t,rfl⟩:=r1;exact⟨some i,H1,I1,.int i t,q⟩
def SlR(X:Cx)(r:V→Option Int→Option Int→Hp→VK→Prop):Prop:=
 ∀ (pins:List (Addr×Obj)) (s:Shared) (σ:St) (H:Hp) (x:V) (v vl vu:Value) (lo hi:Option Int) (sl:Addr) (Q:VK),Inv X pins σ H s→RelV x v→s.heap.IsSliceOf sl vl vu .none→IsPart vl lo→IsPart vu hi→r x lo hi H Q→
  ∃ T id,typeLookup (.type T) "__getitem__"=pure (some (.builtin id))∧s.TypeIs v T∧wpAny (model X.prog X.w) X.A (getItem v (.ref sl)) (EP X pins σ Q) X.xe s
def tSl(r:V→Option Int→Option Int→Hp→VK→Prop)(te:TE)(tl th:TO):TE:=fun σ H Q=>te σ H fun x H1=>tl σ H1 fun l H2=>th σ H2 fun u H3=>r x l u H3 Q
theorem ik{r:V→Option Int→Option Int→Hp→VK→Prop}(hr:SlR X r)(he:PE X e te)(hl:PO X lo tl)(hu:PO X hi th):PE X (.Subscript e (.Slice lo hi none p2) pos) (tSl r te tl th):=by
 intro pins s σ H Q I h;refine Subscript_ (gf (he pins s σ H _ I h) fun v s1 ⟨x,H1,I1,r1,q1⟩=>?_);refine wpAny_Slice (gf (hl pins s1 σ H1 _ I1 q1) fun vl s2 ⟨l,H2,I2,pl,q2⟩=>gf (hu pins s2 σ H2 _ I2 q2) fun vu s3 ⟨u,H3,I3,pu,q3⟩=>?_);rw[evalPart_none];refine alu ?_;have I4:Inv X pins σ H3 { s3 with heap:=s3.heap.push { cls:=.type "slice",data:=.fields #[vl,vu,.none] } }:=I3.kept (t':=s3.toks) fun b ob q=>akR _ q;obtain⟨T,id,hT,ht,hg⟩:=hr pins { s3 with heap:=s3.heap.push { cls:=.type "slice",data:=.fields #[vl,vu,.none] } } σ H3 x v vl vu l u s3.heap.objs.size Q I4 r1 (Heap.IsSliceOf.new ..) pl pu q3;show wpAny (model X.prog X.w) X.A (subscriptTail e (.Slice lo hi none p2) v (.ref s3.heap.objs.size)) (EP X pins σ Q) X.xe { s3 with heap:=s3.heap.push { cls:=.type "slice",data:=.fields #[vl,vu,.none] } };exact tail_any (ops:=[.ref s3.heap.objs.size,v]) ht hT hg (by with_unfolding_all rfl)
def qC(xs:List V)(lo hi:Option Int):List V:=(xs.drop (HT.sIx xs.length 0 lo)).take (HT.sIx xs.length xs.length hi - HT.sIx xs.length 0 lo)
theorem adh(xs:List V)(lo hi:Option Int):(qC xs lo hi).length≤xs.length:=by
 unfold qC;rw[aq8,asw];omega
end
def ixN(n:Nat)(i:Int):Option Nat:=if 0≤i then(if i < n then some i.toNat else none) else if -(n:Int)≤i then some (i+n).toNat else none
def atI{α:Type}(xs:List α)(i:Int):Option α:=(ixN xs.length i).bind fun j=>xs[j]?
theorem aiE{n:Nat}{i:Int}{j:Nat}(h:ixN n i=some j):seqIndex? i n=some j∧j < n∧-(n:Int)≤i∧i < n:=by
 unfold ixN at h;by_cases h0:0≤i
 ·rw[afO h0] at h;by_cases h1:i < n
  ·rw[afO h1] at h;have e:i.toNat=j:=apa h;exact⟨by rw[seqIndex_of h0 h1,e],by omega,by omega,h1⟩
  ·rw[acK h1] at h;cases h
 ·rw[acK h0] at h;by_cases h1:-(n:Int)≤i
  ·rw[afO h1] at h;have e:(i+n).toNat=j:=apa h;exact⟨by rw[seqIndex_neg (by omega) h1,e],by omega,h1,by omega⟩
  ·rw[acK h1] at h;cases h
theorem aae{α:Type}{xs:List α}{i:Int}{v:α}(h:atI xs i=some v):∃ j,seqIndex? i xs.length=some j∧xs[j]?=some v∧j < xs.length∧-(xs.length:Int)≤i∧i < xs.length:=by
 unfold atI at h;cases e:ixN xs.length i with
 |none=>rw[e] at h;cases h
 |some j=>
  rw[e] at h;obtain⟨h1,h2,h3,h4⟩:=aiE e;exact⟨j,h1,h,h2,h3,h4⟩
theorem l5{α:Type}{xs:List α}{j:Nat}{v:α}(h:xs[j]?=some v):atI xs (j:Int)=some v:=by
 have hj:j < xs.length:=(aox.mp h).1;have e:ixN xs.length (j:Int)=some j:=by
  unfold ixN;rw[afO (by omega),afO (by omega)];simp
 unfold atI;rw[e];exact h
def anS(b:Expr):Prop:=∀ o i,subscripted b false o i=operate [o,i] (getItem o i)
def IxR(X:Cx)(r:R2):Prop:=
 ∀ (value slice:Expr) (pins:List (Addr×Obj)) (s:Shared) (σ:St) (H:Hp) (x y:V) (v u:Value) (Q:VK),Inv X pins σ H s→RelV x v→RelV y u→r x y H Q→
  subscripted slice false v u=operate [v,u] (getItem v u)→wpAny (model X.prog X.w) X.A (subscriptTail value slice v u) (EP X pins σ Q) X.xe s
def MtR(X:Cx)(id:String)(r:V→List V→Hp→VK→Prop):Prop:=
 ∀ (pins:List (Addr×Obj)) (s:Shared) (σ:St) (H:Hp) (x:V) (xs:List V) (v:Value) (us:List Value) (Q:VK),Inv X pins σ H s→RelV x v→bK xs us→r x xs H Q→
  wpAny (model X.prog X.w) X.A (call (.builtin id) (v::us)) (EP X pins σ Q) X.xe s
section
variable{X:Cx}{a b:Expr}{ta tb:TE}{pos:Pos}
theorem c9{r:R2}(hr:IxR X r)(ha:PE X a ta)(hb:PE X b tb)(hs:anS b):PE X (.Subscript a b pos) (tOp r ta tb):=by
 intro pins s σ H Q I h;exact Subscript_ (apm ha hb I h fun v u s2 x y H2 I2 rx ry q=>hr a b pins s2 σ H2 x y v u Q I2 rx ry q (hs _ _))
def zx21(K:Fg)(x:V)(y:V)(H:Hp)(Q:VK):=fun p xs i v=>(x=.ref p∧y=.int i∧cJ K H p xs∧atI xs i=some v∧Q v H)
def apA(K:Fg):R2:=fun x y H Q=>zx_4 (zx21 K x y H Q)
def zx22(K:Fg)(x:V)(y:V)(H:Hp)(Q:VK):=fun p xs i v=>(x=.ref p∧y=.int i∧Io K H p xs∧atI xs i=some v∧Q v H)
def aqY(K:Fg):R2:=fun x y H Q=>zx_4 (zx22 K x y H Q)
theorem bS:IxR X (apA X.K):=by
 intro value slice pins s σ H x y v u Q I rx ry h hs;obtain⟨p,xs,i,z,rfl,rfl,hq,he,q⟩:=h;cases rx;obtain⟨t,rfl⟩:=ry;obtain⟨its,r,pl,hz⟩:=I.list hq;obtain⟨j,h1,h2,h3,h4,h5⟩:=aae he;obtain⟨w,ew,rw'⟩:=r.get h2;have hl:=r.length;have hn:=Oq;have fin:EP X pins σ Q w s:=⟨z,H,I,rw',q⟩;by_cases h0:0≤i
 ·have hj:i.toNat=j:=by
   rw[seqIndex_of h0 h5] at h1;exact apa h1
  exact item_listR pl.isList h0 (by omega) (by rw[hj];simpa using ew) fin hs
 ·have hj:(i+(its.toArray.size:Int)).toNat=j:=by
   rw[seqIndex_neg (by omega) h4] at h1;rw[anq,← hl];exact apa h1
  exact subscriptTail_builtinR (x:=w) pl.isList.typeIs slot_list_getitem.lookup
   (wpAny_getItem_list_neg (Q:=fun r s'=>r=w∧EP X pins σ Q r s') pl.isList (by omega) (by rw[List.size_toArray] <;> omega) (by omega) (by rw[hj];simpa using ew) ⟨rfl,fin⟩) hs
theorem wG:IxR X (aqY X.K):=by
 intro value slice pins s σ H x y v u Q I rx ry h hs;obtain⟨p,xs,i,z,rfl,rfl,hq,he,q⟩:=h;cases rx;obtain⟨t,rfl⟩:=ry;obtain⟨its,r,pl,hz⟩:=I.tuple hq;obtain⟨j,h1,h2,h3,h4,h5⟩:=aae he;obtain⟨w,ew,rw'⟩:=r.get h2;have hl:=r.length;have hn:=Oq;have fin:EP X pins σ Q w s:=⟨z,H,I,rw',q⟩;exact subscriptTail_builtinR (x:=w) pl.typeIs slot_tuple_getitem.lookup
  (getItem_tuple (j:=j) (Q:=fun r s'=>r=w∧EP X pins σ Q r s') pl (by omega) (by omega) (by rw[List.size_toArray,← hl];exact h1) (by simpa using ew) ⟨rfl,fin⟩) hs
theorem agp(its:List Value)(n j:Nat)(u:Value):Obj.mapSeq (·.setIfInBounds j u) { cls:=.type "list",data:=.seq its.toArray n }={ cls:=.type "list",data:=.seq (its.set j u).toArray n }:=by
 simp[Obj.mapSeq]
theorem Inv.lst{pins:List (Addr×Obj)}{σ:St}{H:Hp}{s:Shared}{p:Addr}{xs:List V}(I:Inv X pins σ H s)(h:H p=some (.lst xs)) :
  ∃ (its:List Value) (n:Nat),bK xs its∧s.heap.get? p=some { cls:=.type "list",data:=.seq its.toArray n }∧xs.length≤sizeLine:=by
 obtain⟨z,its,n,r,e⟩:=I.cI p _ h;exact⟨its,n,r,e,z⟩
theorem Inv.apB{pins:List (Addr×Obj)}{σ:St}{H:Hp}{s:Shared}{p:Addr}{xs ys:List V}{its its':List Value}{n n':Nat}{f:Obj→Obj}(I:Inv X pins σ H s)(h:H p=some (.lst xs))
  (ho:s.heap.get? p=some { cls:=.type "list",data:=.seq its.toArray n }) (hf:f { cls:=.type "list",data:=.seq its.toArray n }={ cls:=.type "list",data:=.seq its'.toArray n' }) (r:bK ys its') (hz:ys.length≤sizeLine) (t:Nat) :
  Inv X pins σ (upd H p (.lst ys)) { s with heap:=s.heap.update p f,toks:=t }:=by
 have e:(s.heap.update p f).get? p=some { cls:=.type "list",data:=.seq its'.toArray n' }:=by
  rw[atw f ho (by rw[hf] <;> rfl),hf]
 refine I.write (x:=p) (e:=p) (by rw[h];trivial) (.inl rfl) (fun b u hb q=>(Heap.get?_update_other _ _ (Ne.symm hb)).trans q) ⟨_,e⟩ ?_;exact⟨hz,its',n',r,e⟩
def zx23(o:V)(i:V)(v:V)(H:Hp)(Q:Hp→Prop):=fun p xs k j=>(o=.ref p∧i=.int k∧H p=some (.lst xs)∧ixN xs.length k=some j∧Q (upd H p (.lst (xs.set j v))))
def aqZ:V→V→V→Hp→(Hp→Prop)→Prop:=fun o i v H Q=>zx_4 (zx23 o i v H Q)
theorem set_list:apg X aqZ:=by
 intro pins s σ H o i v ov iv u Q I ro ri rv h;obtain⟨p,xs,k,j,rfl,rfl,hp,hj,q⟩:=h;cases ro;obtain⟨t,rfl⟩:=ri;obtain⟨its,n,r,ho,hz⟩:=I.lst hp;obtain⟨h1,h2,h3,h4⟩:=aiE hj;have hl:=r.length;have hn:=Oq;have I':Inv X pins σ (upd H p (.lst (xs.set j v))) { s with heap:=s.heap.update p (Obj.mapSeq (·.setIfInBounds j u)) }:=
  I.apB hp ho (agp its n j u) (r.set rv j) (by rw[atB];exact hz) s.toks
 by_cases h0:0≤k
 ·have hk:k.toNat=j:=by
   rw[seqIndex_of h0 h4] at h1;exact apa h1
  exact PySem.W.ki_setAt ho h0 (by omega) (by rw[anq,← hl];exact h4) (by rw[hk];exact⟨_,I',q⟩)
 ·have hk:(k+(its.toArray.size:Int)).toNat=j:=by
   rw[seqIndex_neg (by omega) h3] at h1;rw[anq,← hl];exact apa h1
  exact PySem.W.ki_setBack ho (by omega) (by rw[anq,← hl];exact h3) (by omega) (by rw[hk];exact⟨_,I',q⟩)
theorem aaf(lo hi:Option Int)(n:Nat):(sliceBounds lo hi none n).1=((HT.sIx n 0 lo:Nat):Int)∧(sliceBounds lo hi none n).2.1=((HT.sIx n n hi:Nat):Int)∧(sliceBounds lo hi none n).2.2=1:=by
 refine⟨?_,?_,rfl⟩
 ·cases lo with
  |none=>simp[sliceBounds,HT.sIx]
  |some i=>
   simp only[sliceBounds,HT.sIx,Option.getD_none,show(1:Int) > 0 by decide,if_true];by_cases h:i < 0
   ·simp only[h,if_true] <;> omega
   ·simp only[h,atd] <;> omega
 ·cases hi with
  |none=>simp[sliceBounds,HT.sIx]
  |some i=>
   simp only[sliceBounds,HT.sIx,Option.getD_none,show(1:Int) > 0 by decide,if_true];by_cases h:i < 0
   ·simp only[h,if_true] <;> omega
   ·simp only[h,atd] <;> omega
theorem Xx(its:List Value)(lo hi:Option Int):slicePick its.toArray lo hi none=((its.drop (HT.sIx its.length 0 lo)).take (HT.sIx its.length its.length hi - HT.sIx its.length 0 lo)).toArray:=by
 obtain⟨h1,h2,h3⟩:=aaf lo hi its.toArray.size;unfold slicePick;rw[h1,h2,h3];simp only[sliceRange_one,pick_run,anq] <;> rfl
def zx24(K:Fg)(x:V)(lo:Option Int)(hi:Option Int)(H:Hp)(Q:VK):=fun a xs=>(x=.ref a∧cJ K H a xs∧∀ p,H p=none→Q (.ref p) (upd H p (.lst (qC xs lo hi))))
def ar2(K:Fg):V→Option Int→Option Int→Hp→VK→Prop:=fun x lo hi H Q=>zx_2 (zx24 K x lo hi H Q)
theorem jX:SlR X (ar2 X.K):=by
 intro pins s σ H x v vl vu lo hi sl Q I rx hs pl pu h;obtain⟨a,xs,rfl,hx,q⟩:=h;cases rx;obtain⟨its,r,ht,hz⟩:=I.list hx;have hlen:=r.length;refine⟨"list",_,slot_list_getitem.lookup,ht.isList.typeIs,?_⟩;refine wpAny_getItem_list_slice ht.isList hs pl pu .none (by simp) ?_ (by rw[anq] <;> omega);rw[Xx,← hlen];refine⟨.ref s.heap.objs.size,_,I.laid (t':=s.toks) (o:=.lst (qC xs lo hi)) (fun b ob q=>akR _ q) (aiM _) ?_,rfl,q _ (I.cI.fresh (aiM _))⟩;exact⟨ao0 (adh xs lo hi) hz,_,0,(r.drop (HT.sIx xs.length 0 lo)).take (HT.sIx xs.length xs.length hi - HT.sIx xs.length 0 lo),anF _ rfl⟩
theorem bC:Ai X (.builtin "len") (fun xs H Q=>∃ p ys,xs=[.ref p]∧(cJ X.K H p ys∨Io X.K H p ys)∧Q (.int ys.length) H):=by
 intro pins s σ H xs us Q I r h;obtain⟨p,ys,rfl,hq,q⟩:=h;obtain⟨u,rfl,rx⟩:=vals1 r;cases rx;have hn:=Oq;rcases hq with hq|hq
 ·obtain⟨its,r',pl,hz⟩:=I.list hq;have hlen:=r'.length;exact Calls.call_len_list pl.isList (by simp only[anq] <;> omega) ⟨.int ys.length,H,I.tok _,⟨s.toks+1,by rw[anq,hlen]⟩,q⟩
 ·obtain⟨its,r',pl,hz⟩:=I.tuple hq;have hlen:=r'.length;exact len_tuple pl (by simp only[anq] <;> omega) ⟨.int ys.length,H,I.tok _,⟨s.toks+1,by rw[anq,hlen]⟩,q⟩
theorem aag:Ai X (.type "list") (fun xs H Q=>∃ p ys,xs=[.ref p]∧(cJ X.K H p ys∨Io X.K H p ys)∧∀ l,H l=none→Q (.ref l) (upd H l (.lst ys))):=by
 intro pins s σ H xs us Q I r h;obtain⟨p,ys,rfl,hq,q⟩:=h;obtain⟨u,rfl,rx⟩:=vals1 r;cases rx;have fin:∀ (its:List Value),bK ys its→ys.length≤sizeLine→∀ (h':Heap) (c':Nat),(∀ b o',s.heap.get? b=some o'→h'.get? b=some o')→
   h'.get? s.heap.objs.size=some { cls:=.type "list",dict:=none,data:=.seq its.toArray c',slots:=#[] }→EP X pins σ Q (.ref s.heap.objs.size) { s with heap:=h' }:=fun its r' hz h' c' kp e=>
  ⟨.ref s.heap.objs.size,_,I.laid (t':=s.toks) kp (aiM _) (show iG X.prog X.w X.K _ h' _ (.lst ys) from⟨hz,its,c',r',e⟩),rfl,q _ (I.cI.fresh (aiM _))⟩
 rcases hq with hq|hq
 ·obtain⟨its,r',pl,hz⟩:=I.list hq;have hlen:=r'.length;obtain⟨o,ho,hc,n,hd⟩:=pl.isList;exact call_list_seq p (.inl rfl) ho hc hd (fun h' c' kp e=>fin its r' hz h' c' kp e) (by simp only[anq] <;> omega)
 ·obtain⟨its,r',pl,hz⟩:=I.tuple hq;have hlen:=r'.length;obtain⟨o,ho,hc,n,hd⟩:=pl;exact call_list_seq p (.inr rfl) ho hc hd (fun h' c' kp e=>fin its r' hz h' c' kp e) (by simp only[anq] <;> omega)
theorem Xy:Ai X (.type "tuple") (fun xs H Q=>∃ p ys,xs=[.ref p]∧((cJ X.K H p ys∧∀ l,H l=none→Q (.ref l) (upd H l (.tup ys)))∨(Io X.K H p ys∧Q (.ref p) H))):=by
 intro pins s σ H xs us Q I r h;obtain⟨p,ys,rfl,h⟩:=h;obtain⟨u,rfl,rx⟩:=vals1 r;cases rx;rcases h with⟨hq,q⟩|⟨hq,q⟩
 ·obtain⟨its,r',pl,hz⟩:=I.list hq;have hlen:=r'.length;refine call_tuple_list pl.isList (fun h' kp=>?_) (by simp only[anq] <;> omega);have I1:Inv X pins σ H { s with heap:=h' }:=I.kept (t':=s.toks) kp;have I2:Inv X pins σ (upd H h'.objs.size (.tup ys)) { s with heap:=h'.push { cls:=.type "tuple",data:=.seq its.toArray } }:=
   I1.laid (t':=s.toks) (fun b o e=>akR _ e) (aiM _) (show iG X.prog X.w X.K _ _ _ (.tup ys) from⟨hz,its,r',IsTup.new _ _⟩)
  exact⟨.ref h'.objs.size,_,I2,rfl,q _ (I1.cI.fresh (aiM _))⟩
 ·obtain⟨its,r',pl,hz⟩:=I.tuple hq;exact call_tuple_same pl ⟨.ref p,H,I,rfl,q⟩
def tyV(K:Fg)(T:String)(x:V)(H:Hp):Prop:=match x with
 |.str _=>T="str"
 |.int _=>T="int"
 |.ref p=>(T="list"∧∃ xs,cJ K H p xs)∨(T="tuple"∧∃ o,K.lookup p=some o∧o.cls=.type "tuple"∧o.dict=none)∨
   (T="dict"∧((∃ kvs,H p=some (.dK kvs))∨∃ kvs,H p=some (.dT kvs)))∨(T="set"∧∃ S n,H p=some (.set S n))
 |_=>False
theorem alO{pins:List (Addr×Obj)}{σ:St}{H:Hp}{s:Shared}{T:String}{x:V}{v:Value}(I:Inv X pins σ H s)(r:RelV x v)(ty:tyV X.K T x H) :
  s.TypeIs v T∧∀ a,v=.ref a→∃ ob,s.heap.get? a=some ob∧ob.dict=none:=by
 cases x with
 |str z=>
  obtain⟨t,rfl⟩:=r;cases (show T="str" from ty);exact⟨typeIs_str s z t,fun _ e=>nomatch e⟩
 |int i=>
  obtain⟨t,rfl⟩:=r;cases (show T="int" from ty);exact⟨typeIs_int s i t,fun _ e=>nomatch e⟩
 |ref p=>
  cases r;rcases ty with⟨rfl,xs,hq⟩|⟨rfl,o,hk,hc,hd⟩|⟨rfl,hk⟩|⟨rfl,S,n,hk⟩
  ·obtain⟨its,_,pl,_⟩:=I.list hq;refine⟨pl.isList.typeIs,fun a e=>?_⟩;cases e;obtain⟨o,n,e,c,hd,_⟩:=pl;exact⟨o,e,hd⟩
  ·refine⟨⟨o,I.uM p o hk,hc⟩,fun a e=>?_⟩;cases e;exact⟨o,I.uM _ o hk,hd⟩
  ·have z:∃ o,s.heap.get? p=some o∧o.ExactDict:=by
    rcases hk with⟨kvs,hk⟩|⟨kvs,hk⟩
    ·obtain⟨_,_,_,_,o,_,_,e,ex,_⟩:=I.cI p _ hk;exact⟨o,e,ex⟩
    ·obtain⟨_,_,_,_,o,_,_,e,ex,_⟩:=I.cI p _ hk;exact⟨o,e,ex⟩
   obtain⟨o,e,ex⟩:=z;refine⟨⟨o,e,ex.1⟩,fun a e2=>?_⟩;cases e2;exact⟨o,e,ex.2.1⟩
  ·obtain⟨o,_,_,_,e,ex,_⟩:=I.cI p _ hk;refine⟨⟨o,e,ex.1⟩,fun a e2=>?_⟩;cases e2;exact⟨o,e,ex.2.1⟩
 |_=>exact False.elim ty
def ar4(K:Fg)(T:String)(r:V→List V→Hp→VK→Prop)(to:TE):TE:=fun σ H Q=>to σ H fun x H1=>tyV K T x H1∧r x [] H1 Q
def tBM(K:Fg)(T:String)(r:V→List V→Hp→VK→Prop)(to:TE)(t:TA):TE:=fun σ H Q=>to σ H fun x H1=>tyV K T x H1∧t σ H1 fun xs H2=>r x xs H2 Q
variable{o e:Expr}{es:List Expr}{to:TE}{t:TA}{name:Str}{apos cpos:Pos}{T id:String}{r:V→List V→Hp→VK→Prop}
theorem alP(pa:PlainAttrs T)(slot:Slot T name id)(hty:typeOf (.builtin id)=pure (.type "method_descriptor"))(hm:MtR X id r)(ho:PE X o to)
  (hbase:attributeBase o name X.env (eval o X.env)=eval o X.env:=by rfl) (hline:(apos.endLine == cpos.line)=true:=by rfl):PE X (.Call (.Attribute o name apos) [] [] cpos) (ar4 X.K T r to):=by
 intro pins s σ H Q I h;refine wpAny_Call_method0_late hbase hline (gf (ho pins s σ H _ I h) fun v s1 ⟨x,H1,I1,r1,ty,q1⟩=>?_);obtain⟨h1,h2⟩:=alO I1 r1 ty;exact⟨T,id,pa,slot,hty,h1,h2,ats rfl (PySem.evalArgs_none (hm pins s1 σ H1 x [] v [] Q I1 r1 .nil q1))⟩
theorem rS(pa:PlainAttrs T)(slot:Slot T name id)(hty:typeOf (.builtin id)=pure (.type "method_descriptor"))(hm:MtR X id r)(ho:PE X o to)(ha:PA X (e::es) t)
  (hbase:attributeBase o name X.env (eval o X.env)=eval o X.env:=by rfl)
  (hfew:((backTo cpos (starEach (e::es) X.env)).all (fun x=>!x.1) && (backToKw cpos (keywordEach [] X.env)).all (fun x=>x.1.isSome)
   && decide ((e::es).length+([]:List Keyword).length+(if ([]:List Keyword).isEmpty then 0 else 1) < 30))=true:=by rfl)
  (hline:(apos.endLine == cpos.line)=true:=by rfl) (hs:starEach (e::es) X.env=(false,eval e X.env)::starEach es X.env:=by rfl) (hplain:(backTo cpos (starEach es X.env)).any (·.1)=false:=by rfl) :
  PE X (.Call (.Attribute o name apos) (e::es) [] cpos) (tBM X.K T r to t):=by
 intro pins s σ H Q I h;refine wpAny_Call_method_late hbase hfew hline rfl (gf (ho pins s σ H _ I h) fun v s1 ⟨x,H1,I1,r1,ty,q1⟩=>?_);obtain⟨h1,h2⟩:=alO I1 r1 ty;refine⟨T,id,pa,slot,hty,h1,h2,?_⟩;have hA:=ha cpos pins s1 σ H1 _ I1 q1;rw[hs] at hA ⊢;refine ats (by show(false || (backTo cpos (starEach es X.env)).any (·.1))=false;rw[hplain] <;> rfl) (Calls.evalArgs_plain ?_);exact gf hA fun us s2 ⟨vs,H2,I2,r2,q2⟩=>hm pins s2 σ H2 x vs v us Q I2 r1 r2 q2
end
def MtM(X:Cx)(id:String)(r:V→List V→Hp→VK→Prop):Prop:=
 ∀ (pins:List (Addr×Obj)) (s:Shared) (σ:St) (H:Hp) (x:V) (xs:List V) (v:Value) (us:List Value) (Q:VK),Inv X pins σ H s→RelV x v→bK xs us→r x xs H Q→
  wpAny (model X.prog X.w) X.A (call (.builtin id) (v::us)) (EP X pins σ Q) X.xe s
theorem bK.one:∀ {x:V} {us:List Value},bK [x] us→∃ u,us=[u]∧RelV x u
 |_,_,.cons r .nil=>⟨_,rfl,r⟩
theorem bK.zero:∀ {us:List Value},bK [] us→us=[]
 |_,.nil=>rfl
theorem bK.dropLast{xs:List V}{us:List Value}(h:bK xs us):bK xs.dropLast us.dropLast:=by
 induction h with
 |nil=>exact .nil
 |cons r t ih=>
  cases t with
  |nil=>exact .nil
  |cons q t'=>exact .cons r ih
theorem bK.reverse{xs:List V}{us:List Value}(h:bK xs us):bK xs.reverse us.reverse:=by
 induction h with
 |nil=>exact .nil
 |cons r t ih=>rw[atb,atb];exact bK.append ih (.cons r .nil)
theorem bK.rep{xs:List V}{us:List Value}(h:bK xs us):∀ k:Nat,bK (List.replicate k xs).flatten (List.replicate k us).flatten
 |0=>.nil
 |k+1=>by
  rw[atn,atn,atQ,atQ];exact bK.append h (bK.rep h k)
theorem agq{α:Type}(l:List α):l.eraseIdx (l.length - 1)=l.dropLast:=by
 induction l with
 |nil=>rfl
 |cons a r ih=>
  cases r with
  |nil=>rfl
  |cons b r=>
   have e:(a::b::r).length - 1=((b::r).length - 1)+1:=by
    have h1:(a::b::r).length=r.length+2:=rfl;have h2:(b::r).length=r.length+1:=rfl;omega
   rw[e,List.eraseIdx_cons_succ,ih]
   all_goals rfl
theorem foldl_rep(its:List Value):∀ (k:Nat) (acc:List Value),
  List.foldl (fun x1 x2=>x1++x2) acc.toArray (List.replicate k its.toArray)=(acc++(List.replicate k its).flatten).toArray
 |0,acc=>by simp
 |k+1,acc=>by
  have e:acc.toArray++its.toArray=(acc++its).toArray:=by simp
  have e2:(acc++its)++(List.replicate k its).flatten=acc++(List.replicate (k+1) its).flatten:=by
   rw[atn,atQ,aoU]
  rw[← e2,← foldl_rep its k (acc++its),← e,atn,asI]
section
variable{X:Cx}{pins:List (Addr×Obj)}{σ:St}{H:Hp}{s:Shared}{l b:Addr}{xs ys zs:List V}
theorem Inv.apC{its its':List Value}{n:Nat}{f:Array Value→Array Value}{t':Nat}(I:Inv X pins σ H s)(hH:H l=some (.lst xs))
  (e:s.heap.get? l=some { cls:=.type "list",data:=.seq its.toArray n }) (hf:f its.toArray=its'.toArray) (hv:bK ys its') (hz:ys.length≤sizeLine) :
  Inv X pins σ (upd H l (.lst ys)) { s with heap:=s.heap.update l (Obj.mapSeq f),toks:=t' }:=by
 have q:=PySem.IsL.update e f;rw[hf] at q;refine I.write (x:=l) (e:=l) (by rw[hH];exact trivial) (.inl rfl) (fun b' u hb hu=>(Heap.get?_update_other s.heap (Obj.mapSeq f) (Ne.symm hb)).trans hu) ⟨_,q⟩ ?_;exact⟨hz,its',_,hv,q⟩
theorem Inv.aq0{its:List Value}{t':Nat}(I:Inv X pins σ H s)(hv:bK ys its)(hz:ys.length≤sizeLine) :
  Inv X pins σ (upd H s.heap.objs.size (.lst ys)) { s with heap:=s.heap.push { cls:=.type "list",data:=.seq its.toArray },toks:=t' }:=
 I.laid (fun _ _ q=>akR _ q) (aiM _) ⟨hz,its,0,hv,anF _ rfl⟩
theorem Inv.fresh(I:Inv X pins σ H s):H s.heap.objs.size=none:=I.cI.fresh (aiM _)
theorem Inv.agr(I:Inv X pins σ H s)(hH:H l=some (.lst xs)):xs.length≤sizeLine∧∃ (its:List Value) (n:Nat),bK xs its∧xs.length=its.length∧s.heap.get? l=some { cls:=.type "list",data:=.seq its.toArray n }:=by
 obtain⟨z,its,n,r,e⟩:=I.cI l _ hH;exact⟨z,its,n,r,r.length,e⟩
theorem adi{n:Nat}(h:n≤sizeLine):Builtin.List.listTooLong n=false:=by
 unfold Builtin.List.listTooLong;exact aqz (by omega)
end
section
variable{X:Cx}
def zx25(x:V)(vs:List V)(H:Hp)(Q:VK):=fun l xs y=>(x=.ref l∧vs=[y]∧H l=some (.lst xs)∧xs.length < sizeLine∧Q .dN (upd H l (.lst (xs++[y]))))
def anT:V→List V→Hp→VK→Prop:=fun x vs H Q=>zx_3 (zx25 x vs H Q)
theorem iK:MtM X "list.append" anT:=by
 intro pins s σ H x vs v us Q I rx rv h;obtain⟨l,xs,y,rfl,rfl,hH,hz,q⟩:=h;cases rx;obtain⟨u,rfl,ru⟩:=rv.one;obtain⟨z,its,n,r,hl,e⟩:=I.agr hH;refine call_meets apf ⟨_,e,rfl⟩ F.entry_list_append (F.args_list_append_2 _ _) (PySem.list_append l its.toArray n u (by rw[anq];omega)) ⟨e,?_⟩;refine⟨.dN,_,I.apC (its':=its++[u]) hH e (by simp) (r.append (.cons ru .nil)) ?_,rfl,q⟩;rw[ada,ar1];omega
def zx26(x:V)(vs:List V)(H:Hp)(Q:VK):=fun l b xs zs=>(x=.ref l∧vs=[.ref b]∧H l=some (.lst xs)∧H b=some (.lst zs)∧xs.length+zs.length≤sizeLine∧Q .dN (upd H l (.lst (xs++zs))))
def anU:V→List V→Hp→VK→Prop:=fun x vs H Q=>zx_4 (zx26 x vs H Q)
theorem Aj:MtM X "list.extend" anU:=by
 intro pins s σ H x vs v us Q I rx rv h;obtain⟨l,b,xs,zs,rfl,rfl,hH,hB,hz,q⟩:=h;cases rx;obtain⟨u,rfl,ru⟩:=rv.one;cases ru;obtain⟨z,its,n,r,hl,e⟩:=I.agr hH;obtain⟨z2,its2,n2,r2,hl2,e2⟩:=I.agr hB;have hsz:its.toArray.size+its2.toArray.size≤sizeLine:=by rw[anq,anq];omega
 have hlong:¬ (!its.toArray.isEmpty && Builtin.List.listTooLong (its.toArray.size+its2.toArray.size))=true:=by
  rw[adi hsz,arz];exact ak7
 refine call_meets asT ⟨_,e,rfl⟩ F.entry_list_extend (F.args_list_extend_2 _ _)
  (AutoSeq1.list_extend_list_list_0 l its.toArray n b its2.toArray n2 hlong (by rw[anq];omega) (by omega)) ⟨e,e2,?_⟩
 refine⟨.dN,_,I.apC (its':=its++its2) hH e (by simp) (r.append r2) ?_,rfl,q⟩;rw[ada];omega
def zx27(x:V)(vs:List V)(H:Hp)(Q:VK):=fun l xs y=>(x=.ref l∧vs=[]∧H l=some (.lst xs)∧xs[xs.length - 1]?=some y∧Q y (upd H l (.lst xs.dropLast)))
def ar6:V→List V→Hp→VK→Prop:=fun x vs H Q=>zx_3 (zx27 x vs H Q)
theorem alQ:MtM X "list.pop" ar6:=by
 intro pins s σ H x vs v us Q I rx rv h;obtain⟨l,xs,y,rfl,rfl,hH,hy,q⟩:=h;cases rx;have hus:=rv.zero;subst hus;obtain⟨z,its,n,r,hl,e⟩:=I.agr hH;obtain⟨u,hu,ru⟩:=r.get hy;have hy':its.toArray[its.toArray.size - 1]?=some u:=by
  show its.toArray[its.length - 1]?=some u;rw[← as8,← hl];exact hu
 refine call_meets F.slot_list_pop ⟨_,e,rfl⟩ F.entry_list_pop (F.args_list_pop_1 _) (MeetsSeq.list_pop_last l its.toArray n u hy' (by rw[anq];omega)) ⟨e,?_⟩;refine⟨y,_,I.apC (its':=its.dropLast) hH e ?_ r.dropLast ?_,ru,q⟩
 ·show its.toArray.eraseIdxIfInBounds (its.toArray.size - 1)=its.dropLast.toArray;rw[anq,List.eraseIdxIfInBounds_toArray,agq]
 ·rw[List.length_dropLast];omega
def zx28(x:V)(y:V)(H:Hp)(Q:VK):=fun l b xs zs=>(x=.ref l∧y=.ref b∧H l=some (.lst xs)∧H b=some (.lst zs)∧xs.length+zs.length≤sizeLine∧∀ p,H p=none→Q (.ref p) (upd H p (.lst (xs++zs))))
def ar7:R2:=fun x y H Q=>zx_4 (zx28 x y H Q)
theorem lQ:Oo X (binaryOp .Add) ar7:=by
 intro pins s σ H x y v u Q I rx ry h;obtain⟨l,b,xs,zs,rfl,rfl,hH,hB,hz,q⟩:=h;cases rx;cases ry;obtain⟨z,its,n,r,hl,e⟩:=I.agr hH;obtain⟨z2,its2,n2,r2,hl2,e2⟩:=I.agr hB;refine PySem.P.add_list e e2 ?_ (by rw[anq,anq];omega);have ea:its.toArray++its2.toArray=(its++its2).toArray:=by simp
 rw[ea];exact⟨.ref _,_,I.aq0 (t':=s.toks) (r.append r2) (by rw[ada];omega),rfl,q _ I.fresh⟩
def ar8:R2:=fun x y H Q=>∃ l k xs,x=.ref l∧y=.int k∧H l=some (.lst xs)∧-(2 ^ 63)≤k∧k < 2 ^ 63∧xs.length * k.toNat≤sizeLine∧
 ∀ p,H p=none→Q (.ref p) (upd H p (.lst (List.replicate k.toNat xs).flatten))
theorem len_rep{α:Type}(xs:List α)(k:Nat):(List.replicate k xs).flatten.length=k * xs.length:=by
 induction k with
 |zero=>simp
 |succ k ih=>rw[atn,atQ,ada,ih,Nat.succ_mul,Nat.add_comm]
theorem alR:Oo X (binaryOp .Mult) ar8:=by
 intro pins s σ H x y v u Q I rx ry h;obtain⟨l,k,xs,rfl,rfl,hH,h1,h2,hz,q⟩:=h;cases rx;obtain⟨t,rfl⟩:=ry;obtain⟨z,its,n,r,hl,e⟩:=I.agr hH;have hlen:its.toArray.size * k.toNat≤sizeLine:=by rw[anq,← hl];exact hz
 have hcap:¬ its.toArray.size * k.toNat > (2 ^ 63 - 1) / 8:=by
  have:(sizeLine:Nat)≤(2 ^ 63 - 1) / 8:=by decide
  omega
 have hfit:¬ (!Builtin.List.listFitsIndex k)=true:=by
  rw[fitsIndex_both h1 h2];exact ak7
 have hlong:¬ Builtin.List.listTooLong (its.toArray.size * k.toNat)=true:=by
  rw[adi hlen];exact ak7
 have hnew:List.foldl (fun x1 x2=>x1++x2) #[] (List.replicate (if its.toArray.isEmpty=true then 0 else k.toNat) its.toArray)=(List.replicate k.toNat its).flatten.toArray:=by
  have f0:∀ m:Nat,List.foldl (fun x1 x2=>x1++x2) #[] (List.replicate m its.toArray)=(List.replicate m its).flatten.toArray:=fun m=>by
   have:=foldl_rep its m [];rw[atD] at this;exact this
  rw[f0];cases its with
  |nil=>simp
  |cons a r'=>rw[acK (by simp)]
 refine wpAny_binaryOp_repeat_ref (T:="list") (U:="int") (by decide) ⟨_,e,rfl⟩ (fun s'=>typeIs_int s' k t) noFill_list_mul F.fills_int_mul F.slot_int_rmul repeat_list F.slot_int_index.lookup
  (call_meets F.slot_int_rmul (typeIs_int s k t) F.entry_int_rmul (F.args_int_rmul_2 _ _) (int___rmul___int_list k t l its.toArray n)
   ⟨e,rfl,⟨_,e,rfl⟩,call_meets F.slot_list_mul ⟨_,e,rfl⟩ F.entry_list_mul (F.args_list_mul_2 _ _) (AutoListH.list___mul___list_int_3 l its.toArray n k t hfit hcap hlong) ⟨e,?_⟩⟩)
 rw[hnew];exact⟨.ref _,_,I.aq0 (t':=s.toks) (r.rep k.toNat) (by rw[len_rep,Nat.mul_comm];exact hz),rfl,q _ I.fresh⟩
end
section
variable{prog:Program}{w:World}{A:Around}{E:Value→Shared→Prop}{s:Shared}
set_option maxRecDepth 100000 in
end
theorem bK.bls:∀ {bs:List Bool} {us:List Value},bK (bs.map V.bl) us→us=bs.map Value.bool
 |[],us,h=>by
  rw[atv] at h;cases h;rfl
 |b::bs,us,h=>by
  rw[ajR] at h;cases h with
  |cons r t=>
   cases r;rw[bK.bls t,ajR]
theorem bK.ar9{a:Addr}{us:List Value}(r:bK [V.ref a] us):us=[Value.ref a]:=by
 cases r with
 |cons r t=>
  cases t;cases r;rfl
theorem alS{prog:Program}{w:World}{A:Around}{E:Value→Shared→Prop}{s:Shared}{l:Addr}{items:Array Value}{Q:Value→Shared→Prop}(hl:s.heap.IsList l items)
  (h:∀ s₂:Shared,s₂={ s with heap:=s.heap.push { cls:=.type "list_iterator",data:=.fields #[.ref l,.int 0 0] } }→
   (s₂.heap.IsListIter s.heap.objs.size l 0∧s₂.heap.IsList l items)→l≠s.heap.objs.size→Q (.ref s.heap.objs.size) s₂):wpAny (model prog w) A (pyIter (.ref l)) Q E s:=by
 have hlt:l < s.heap.objs.size:=by obtain⟨_,e,_⟩:=hl;exact anR e
 exact wpAny_pyIter_list hl (h _ rfl ⟨⟨_,anF _ rfl,rfl,rfl⟩,hl.push _⟩ (arB hlt))
theorem adj{prog:Program}{w:World}{A:Around}{bs:List Bool}{its:List Value}(e:its=bs.map Value.bool) :
  TruthOf prog w A (fun i v=>its.toArray[i]?=some v) (fun i=>bs.getD i false):=fun i v s Q E hv hq=>by
 have hv':its[i]?=some v:=by simpa using hv
 rw[e,ant] at hv';obtain⟨b,hb,rfl⟩:=aqy.mp hv';have hg:bs.getD i false=b:=by rw[aqx,hb] <;> rfl
 have hq':Q (bs.getD i false) s:=hq;rw[hg] at hq';exact asB hq'
theorem all_range:∀ bs:List Bool,(List.range bs.length).all (fun i=>bs.getD i false)=bs.all id
 |[]=>rfl
 |b::bs=>by
  rw[ajk,List.range_succ_eq_map,List.all_cons,List.all_map,List.all_cons,← all_range bs]
  all_goals rfl
section
variable{X:Cx}
def asa(K:Fg):List V→Hp→VK→Prop:=fun vs H Q=>∃ (a:Addr) (bs:List Bool),vs=[V.ref a]∧cJ K H a (bs.map V.bl)∧Q (.bl (bs.all id)) H
theorem apD(hc:X.calm=true):Ai X (.builtin "all") (asa X.K):=by
 intro pins s σ H vs us Q I r h;obtain⟨a,bs,rfl,hs,q⟩:=h;obtain⟨its,rv,hl,_⟩:=I.list hs;rw[bK.ar9 r];have hb:=rv.bls;refine call_all_walk (alS hl.isList fun s₂ e2 st hne=>?_);subst e2;refine⟨_,_,_,_,_,_,_,rfl,Walks.list (A:=X.A.in1) (I.ok.hd hc) _ a hne its.toArray,st,adj hb,fun h' tk hk=>?_⟩;refine⟨.bl _,H,I.kept fun b o eo=>hk b o (fun hmem=>?_) (akR _ eo),?_,q⟩
 ·rcases akS.mp hmem with e1|hmem
  ·exact absurd (e1▸anR eo) (asy _)
  ·cases hmem
 ·show Value.bool _=Value.bool _;rw[← all_range,hb,anq,aah]
end
abbrev alT(h:Heap)(c:Addr)(v:Option Value):Prop:=h.IsCell c v
def asb(scope sc:Scope):Scope:=
 { scope with names:=scope.names.map fun(n,k)=>if (k == .free && sc.kind == .function && sc.names.lookup n == some .cell) then(n,.cell) else(n,k) }
def gw(cells:List (Str×Addr)):List (Str×NameKind)→List (Str×Addr)→List (Str×Addr)
 |[],acc=>acc
 |(n,k)::r,acc=>if k == .free then gw cells r ((n,(cells.lookup n).getD 0)::acc) else gw cells r acc
theorem K7(env:Env)(f:Str×NameKind→List (Str×Addr)→Sem (ForInStep (List (Str×Addr))))
  (hf:∀ n k c,f (n,k) c=if k == .free then(do let a ← cellOf env n;pure (.yield ((n,a)::c))) else pure (.yield c)) :
  ∀ (names:List (Str×NameKind)) (acc:List (Str×Addr)),(∀ y∈names,y.2=.free→∃ c,env.cells.lookup y.1=some c)→forIn names acc f=pure (gw env.cells names acc)
 |[],acc,_=>by rw[List.forIn_nil];rfl
 |(n,k)::r,acc,h=>by
  rw[List.forIn_cons,hf];have ih:=fun acc=>K7 env f hf r acc fun y hy=>h y (aiy _ hy);unfold gw;by_cases hk:(k == NameKind.free)=true
  ·rw[afO hk,afO hk];obtain⟨c,hc⟩:=h (n,k) List.mem_cons_self (by simpa using hk);have e:cellOf env n=pure c:=by unfold cellOf;rw[hc]
   rw[e];have e2:(env.cells.lookup n).getD 0=c:=by rw[hc];rfl
   rw[e2];exact ih _
  ·rw[acK hk,acK hk];exact ih _
theorem ags{scope:Scope}{env:Env}(h:∀ y∈scope.names,y.2=.free→∃ c,env.cells.lookup y.1=some c):closureFor scope env=pure (gw env.cells scope.names []):=by
 simp only[closureFor];rw[K7 env _ (fun n k c=>rfl) scope.names [] h];rfl
theorem mem_lookup{α:Type}:∀ {l:List (Str×α)} {n:Str} {c:α},(n,c)∈l→∃ c',l.lookup n=some c'
 |(k,v)::r,n,c,h=>by
  rw[as3];cases hb:n == k with
  |true=>exact⟨_,rfl⟩
  |false=>
   rcases akS.mp h with e|h
   ·cases e;simp at hb
   ·exact mem_lookup h
theorem yl{cells:List (Str×Addr)}:∀ {names:List (Str×NameKind)} {acc:List (Str×Addr)} {n:Str} {c:Addr},(n,c)∈gw cells names acc→(n,c)∈acc∨((n,.free)∈names∧c=(cells.lookup n).getD 0)
 |[],_,_,_,h=>.inl h
 |(m,k)::r,acc,n,c,h=>by
  unfold gw at h;split at h
  ·rename_i hk;have hk:k=.free:=by simpa using hk
   rcases yl h with h|⟨h1,h2⟩
   ·rcases akS.mp h with e|h
    ·cases e;exact .inr ⟨hk▸ajM,rfl⟩
    ·exact .inl h
   ·exact .inr ⟨aiy _ h1,h2⟩
  ·rcases yl h with h|⟨h1,h2⟩
   ·exact .inl h
   ·exact .inr ⟨aiy _ h1,h2⟩
theorem EO{cells:List (Str×Addr)}:∀ {names:List (Str×NameKind)} {acc:List (Str×Addr)} {p:Str×Addr},p∈acc→p∈gw cells names acc
 |[],_,_,h=>h
 |(m,k)::r,acc,p,h=>by
  unfold gw;split
  ·exact EO (aiy _ h)
  ·exact EO h
theorem ER{cells:List (Str×Addr)}:∀ {names:List (Str×NameKind)} {acc:List (Str×Addr)} {n:Str},(n,.free)∈names→(n,(cells.lookup n).getD 0)∈gw cells names acc
 |(m,k)::r,acc,n,h=>by
  unfold gw;rcases akS.mp h with e|h
  ·cases e;exact EO ajM
  ·split
   ·exact ER h
   ·exact ER h
theorem Ak:∀ {names:List (Str×NameKind)} {h:Heap} {acc:List (Str×Addr)} {x:Str} {c:Addr},(x,c)∈cellsFrom h.objs.size names acc→
  (x,c)∈acc∨((x,.cell)∈names∧h.objs.size≤c∧alT (pushCells h names) c none)
 |[],_,_,_,_,h=>.inl h
 |(n,k)::r,h,acc,x,c,hm=>by
  unfold cellsFrom at hm;unfold pushCells;split at hm
  ·rename_i hk;rw[afO hk];have hk:k=.cell:=by simpa using hk
   rw[← ar3 h { cls:=.type "cell",data:=.cell none }] at hm;rcases Ak hm with hm|⟨h1,h2,h3⟩
   ·rcases akS.mp hm with e|hm
    ·cases e;exact .inr ⟨hk▸ajM,aiM _,_,pushCells_keeps r _ _ _ (anF _ rfl),rfl⟩
    ·exact .inl hm
   ·rw[ar3] at h2;exact .inr ⟨aiy _ h1,atR h2,h3⟩
  ·rename_i hk;rw[acK hk];rcases Ak hm with hm|⟨h1,h2,h3⟩
   ·exact .inl hm
   ·exact .inr ⟨aiy _ h1,h2,h3⟩
theorem GU:∀ {names:List (Str×NameKind)} {n:Nat} {acc:List (Str×Addr)} {p:Str×Addr},p∈acc→p∈cellsFrom n names acc
 |[],_,_,_,h=>h
 |(m,k)::r,n,acc,p,h=>by
  unfold cellsFrom;split
  ·exact GU (aiy _ h)
  ·exact GU h
theorem Ov:∀ {names:List (Str×NameKind)} {n:Nat} {acc:List (Str×Addr)} {x:Str},(x,.cell)∈names→∃ c,(x,c)∈cellsFrom n names acc
 |(m,k)::r,n,acc,x,h=>by
  unfold cellsFrom;rcases akS.mp h with e|h
  ·cases e;exact⟨n,GU ajM⟩
  ·split
   ·exact Ov h
   ·exact Ov h
theorem Ow:∀ {names:List (Str×NameKind)} {h:Heap} {acc:List (Str×Addr)} {x y:Str} {c:Addr},(∀ p∈acc,p.2 < h.objs.size)→(∀ x y c,(x,c)∈acc→(y,c)∈acc→x=y)→
  (x,c)∈cellsFrom h.objs.size names acc→(y,c)∈cellsFrom h.objs.size names acc→x=y
 |[],_,_,_,_,_,_,hi,h1,h2=>hi _ _ _ h1 h2
 |(n,k)::r,h,acc,x,y,c,hl,hi,h1,h2=>by
  unfold cellsFrom at h1 h2;split at h1
  ·rename_i hk;rw[afO hk] at h2;rw[← ar3 h { cls:=.type "cell",data:=.cell none }] at h1 h2;refine Ow (h:=h.push _) (fun p hp=>?_) (fun x y c a b=>?_) h1 h2
   ·rw[ar3];rcases akS.mp hp with rfl|hp
    ·exact atf _
    ·exact atU (hl p hp)
   ·rcases akS.mp a with e|a <;> rcases akS.mp b with e'|b
    ·cases e;cases e';rfl
    ·cases e;exact absurd (hl _ b) (asy _)
    ·cases e';exact absurd (hl _ a) (asy _)
    ·exact hi _ _ _ a b
  ·rename_i hk;rw[acK hk] at h2;exact Ow hl hi h1 h2
theorem adk{M:Model}{A:Around}{E:Value→Shared→Prop}{s:Shared}{scope:Scope}{globals:Addr}{closure:List (Str×Addr)}{qual:Str}{func:Option Addr}{code:Value}{around:Env}{builtins:Addr}{Q:Env→Shared→Prop}
  (h:Q (newEnv scope s.heap.objs.size globals (cellsFrom (s.heap.objs.size+1) scope.names closure) qual func code (some around) builtins)
   { s with heap:=pushCells (s.heap.push { cls:=.type "dict",data:=.dict #[] }) scope.names }) :
  wpAny M A (newFunctionEnv scope globals closure [] qual func code (some around) builtins) Q E s:=by
 simp only[newFunctionEnv,Option.isSome_some,if_true];refine adg (wpAny_alloc ?_);refine adg (wpAny_layCells _ (fun n k c=>rfl) scope.names closure _ _ ?_);rw[show({ s with heap:=s.heap.push { cls:=.type "dict",data:=.dict #[] } }:Shared).heap.objs.size=s.heap.objs.size+1 from ar3 ..];rw[List.forIn_nil];exact adg (alu (alu h))
theorem ES{sc:Scope}:∀ {names:List (Str×NameKind)} {x:Str} {k:NameKind},
  (names.map fun(n,k)=>if (k == NameKind.free && sc.kind == .function && sc.names.lookup n == some .cell) then(n,NameKind.cell) else(n,k)).lookup x=some k→
  ∃ k',names.lookup x=some k'∧(k=k'∨(k'=.free∧k=.cell))
 |[],_,_,h=>by simp at h
 |(n,k₀)::r,x,k,h=>by
  have ih:=@ES sc r x k;have h':List.lookup x ((if (k₀ == NameKind.free && sc.kind == .function && sc.names.lookup n == some .cell)=true then(n,NameKind.cell) else(n,k₀))::(r.map _))=some k:=h;cases hx:x == n with
  |true=>
   simp only[as3,hx];by_cases hc:(k₀ == NameKind.free && sc.kind == .function && sc.names.lookup n == some .cell)=true
   ·rw[afO hc] at h';simp only[as3,hx] at h';cases h';simp only[anr,asR] at hc;exact⟨k₀,rfl,.inr ⟨hc.1.1,rfl⟩⟩
   ·rw[acK hc] at h';simp only[as3,hx] at h';cases h';exact⟨_,rfl,.inl rfl⟩
  |false=>
   simp only[as3,hx];by_cases hc:(k₀ == NameKind.free && sc.kind == .function && sc.names.lookup n == some .cell)=true
   ·rw[afO hc] at h';simp only[as3,hx] at h';exact ih h'
   ·rw[acK hc] at h';simp only[as3,hx] at h';exact ih h'
structure adl(N:List Str)(sc scope:Scope)(own:List (Str×Nat)):Prop where
 kind:scope.kind=.function
 uniq:∀ y∈scope.names,scope.names.lookup y.1=some y.2
 ix:∀ p∈own,N[p.2]?=some p.1
 free:∀ y∈scope.names,y.2=.free→sc.names.lookup y.1=some .cell∨sc.names.lookup y.1=some .free
 own:∀ y∈scope.names,y.2=.local∨y.2=.cell→y.1∈own.map (·.1)∨y.1∉N
def wipe(σ:St):List Nat→St
 |[]=>σ
 |v::vs=>(wipe σ vs).set v none
theorem ET(σ:St):∀ vs:List Nat,(wipe σ vs).length=σ.length
 |[]=>rfl
 |v::vs=>by unfold wipe;rw[atB,ET σ vs]
theorem Ox{σ:St}{i:Nat}{x:V}:∀ {vs:List Nat},(wipe σ vs)[i]?=some (some x)→σ[i]?=some (some x)∧i∉vs
 |[],h=>⟨h,by simp⟩
 |v::vs,h=>by
  unfold wipe at h;by_cases hi:v=i
  ·subst hi;by_cases hv:v < (wipe σ vs).length
   ·rw[atq hv] at h;cases h
   ·rw[List.getElem?_eq_none (by simpa using hv)] at h;cases h
  ·rw[atx hi] at h;obtain⟨h1,h2⟩:=Ox h;exact⟨h1,by simp only[akS,not_or];exact⟨fun e=>hi e.symm,h2⟩⟩
abbrev Cx.blk(X:Cx)(s:Shared)(H:Hp)(scope:Scope)(cenv:Env)(fp:List Addr):Cx:={ X with YI:=s,H_0:=H,env:=cenv,outer:=X.stack,ex:=fp,fn:=fun x=>scope.names.lookup x == some .cell,pn:=[],xe:=fun _ _=>False }
section
variable{X:Cx}{pins:List (Addr×Obj)}{σ:St}{H:Hp}{s:Shared}
theorem adm{scope:Scope}{own:List (Str×Nat)}{fp:List Addr}(I:Inv X pins σ H s)(ok:adl X.N X.env.scope scope own)(hN:X.N.Nodup)(hfp:∀ b∈fp,TX X pins H b∧b < s.heap.objs.size) :
  Inv (X.blk s H scope (compEnvC scope (cellsFrom (s.heap.objs.size+1) scope.names (gw X.env.cells scope.names [])) s.heap.objs.size X.env) fp) [] (wipe σ (own.map (·.2))) H { s with heap:=pushCells (s.heap.push { cls:=.type "dict",data:=.dict #[] }) scope.names }:=by
 have hfree:∀ y∈scope.names,y.2=.free→∃ c,X.env.cells.lookup y.1=some c:=fun y hy e=>by
  rcases ok.free y hy e with k|k
  ·exact I.ok.has _ (.inl k)
  ·exact I.ok.has _ (.inr k)
 generalize hcenv:compEnvC scope (cellsFrom (s.heap.objs.size+1) scope.names (gw X.env.cells scope.names [])) s.heap.objs.size X.env=cenv;have kp:∀ b o,s.heap.get? b=some o→(pushCells (s.heap.push { cls:=.type "dict",data:=.dict #[] }) scope.names).get? b=some o:=fun b o e=>pushCells_keeps _ _ _ _ (akR _ e);have hL:cenv.locals=s.heap.objs.size:=by rw[← hcenv];rfl
 have hcl:cenv.cells=cellsFrom (s.heap.objs.size+1) scope.names (gw X.env.cells scope.names []):=by rw[← hcenv];rfl
 have hsc:cenv.scope=asb scope X.env.scope:=by rw[← hcenv];rfl
 rw[← ar3 s.heap { cls:=.type "dict",data:=.dict #[] }] at hcl;have cm:∀ {y c},(y,c)∈gw X.env.cells scope.names []→X.env.cells.lookup y=some c∧c < s.heap.objs.size:=fun{y c} hm=>by
  rcases yl hm with hm|⟨h1,rfl⟩
  ·cases hm
  ·obtain⟨c,hc⟩:=hfree _ h1 rfl;rw[hc];obtain⟨w,z⟩:=I.cell _ _ hc;exact⟨rfl,z.lt⟩
 have mem:∀ {y c},cenv.cells.lookup y=some c→(X.env.cells.lookup y=some c∧c < s.heap.objs.size)∨(s.heap.objs.size+1≤c∧alT (pushCells (s.heap.push { cls:=.type "dict",data:=.dict #[] }) scope.names) c none):=fun{y c} e=>by
  rw[hcl] at e;rcases Ak (aqF e) with hm|⟨_,h2,h3⟩
  ·exact .inl (cm hm)
  ·rw[ar3] at h2;exact .inr ⟨h2,h3⟩
 have look:∀ {y},scope.names.lookup y=some .free→∃ c,cenv.cells.lookup y=some c∧X.env.cells.lookup y=some c:=fun{y} hl=>by
  have hy:(y,NameKind.free)∈scope.names:=aqF hl;obtain⟨c',e'⟩:=mem_lookup (GU (names:=scope.names) (n:=(s.heap.push { cls:=.type "dict",data:=.dict #[] }).objs.size) (ER (cells:=X.env.cells) (acc:=[]) hy));rw[← hcl] at e';refine⟨c',e',?_⟩;rw[hcl] at e';rcases Ak (aqF e') with hm|⟨h1,_,_⟩
  ·exact(cm hm).1
  ·have:=ok.uniq _ h1;rw[hl] at this;cases this
 have vm:(X.blk s H scope cenv fp).Ok:=by
  refine⟨I.ok.mod,by show cenv.scope.kind=_;rw[hsc];exact ok.kind,by show cenv.globals=_;rw[← hcenv];exact I.ok.glob,by show cenv.builtins=_;rw[← hcenv];exact I.ok.blt,by show s.heap.objs.size≤cenv.locals;rw[hL];exact aiM _,
   fun y z c e1 e2=>?_,fun y hy=>?_,fun y c z e=>?_,I.ok.hd,I.ok.frames,.inl rfl,fun b hb=>⟨?_,fun y c e z=>?_⟩,I.bs,ao0 I.ok.bsz I.sz,fun b o e hb=>?_,fun b hb z=>?_,I.stack,I.aiw⟩
  ·have e1:cenv.cells.lookup y=some c:=e1;have e2:cenv.cells.lookup z=some c:=e2;rw[hcl] at e1 e2;refine Ow (fun p hp=>?_) (fun y z c a b=>I.ok.inj y z c (cm a).1 (cm b).1) (aqF e1) (aqF e2);rw[ar3];exact atU (cm (y:=p.1) (c:=p.2) hp).2
  ·show ∃ c,cenv.cells.lookup y=some c;have key:∀ k,cenv.kindOf y=some k→(k=.cell∨k=.free)→∃ c,cenv.cells.lookup y=some c:=fun k hk hk'=>by
    unfold Env.kindOf at hk;rw[hsc] at hk;obtain⟨k',e,r⟩:=ES hk;have:k'=.cell∨k'=.free:=by
     rcases r with rfl|⟨rfl,_⟩
     ·exact hk'
     ·exact .inr rfl
    rcases this with rfl|rfl
    ·obtain⟨c,hm⟩:=Ov (n:=(s.heap.push { cls:=.type "dict",data:=.dict #[] }).objs.size) (acc:=gw X.env.cells scope.names []) (aqF e);obtain⟨c',e'⟩:=mem_lookup hm;exact⟨c',by rw[hcl];exact e'⟩
    ·obtain⟨c,h1,_⟩:=look e;exact⟨c,h1⟩
   rcases hy with hy|hy
   ·exact key _ hy (.inl rfl)
   ·exact key _ hy (.inr rfl)
  ·have z:(scope.names.lookup y == some NameKind.cell)=true:=z;have z:scope.names.lookup y=some .cell:=by simpa using z
   have e:cenv.cells.lookup y=some c:=e;rw[hcl] at e;rcases Ak (aqF e) with hm|⟨_,h2,_⟩
   ·rcases yl hm with hm|⟨h1,_⟩
    ·cases hm
    ·have q:=ok.uniq _ h1;rw[z] at q;cases q
   ·rw[ar3] at h2;exact atR h2
  ·show b≠cenv.locals;rw[hL];exact arB (hfp b hb).2
  ·have e:cenv.cells.lookup y=some c:=e;rcases mem e with⟨h1,_⟩|⟨h1,_⟩
   ·exact(hfp b hb).1.2.2.2.2.1 y c h1 z
   ·have h2:s.heap.objs.size+1≤b:=by rw[← z];exact h1
    exact absurd (apb (hfp b hb).2 (atR h2)) (asy _)
  ·rcases(hfp b hb).1.2.2.2.1 with z|z
   ·exact I.ok.alv b o e z
   ·exact absurd (apb (anR e) (ao0 I.ok.bsz z)) (asy _)
  ·rcases akS.mp (I.agc b z) with z|z
   ·exact(hfp b hb).1.2.1 z
   ·exact(hfp b hb).1.2.2.1 z
 refine⟨vm,rfl,I.bare,Un.kept kp,⟨fun _=>none,?_,fun i y av e1 e2 e3=>?_⟩,fun y c e=>?_,?_,fun y c e=>?_,fun p hp=>?_,I.cI.kept kp,by rw[ET];exact I.len⟩
 ·show Heap.Ns _ cenv.locals _;rw[hL];exact Heap.Ns.keeps (Heap.Ns.new ..) fun b o e=>pushCells_keeps _ _ _ _ e
 ·obtain⟨e2,hne⟩:=Ox e2;have hfr:scope.names.lookup y=some .free∧(cenv.kindOf y=some .cell∨cenv.kindOf y=some .free):=by
   have key:∀ k,cenv.scope.names.lookup y=some k→k=.local∨k=.cell∨k=.free→scope.names.lookup y=some .free∧(cenv.kindOf y=some .cell∨cenv.kindOf y=some .free):=fun k hk hk'=>by
    have hk0:=hk;rw[hsc] at hk;obtain⟨k',e,r⟩:=ES hk;have no:¬ (k'=.local∨k'=.cell):=fun hh=>by
     rcases ok.own _ (aqF e) hh with e'|e'
     ·obtain⟨p,hp,hpy⟩:=aou.mp e';have e3:=ok.ix p hp;have:p.1=y:=hpy;rw[this] at e3;exact hne (aou.mpr ⟨p,hp,TR hN e3 e1⟩)
     ·exact e' (aqt e1)
    rcases r with rfl|⟨rfl,rfl⟩
    ·rcases hk' with rfl|rfl|rfl
     ·exact absurd (.inl rfl) no
     ·exact absurd (.inr rfl) no
     ·exact⟨e,.inr hk0⟩
    ·exact⟨e,.inl hk0⟩
   have e3:Vis cenv.scope y:=e3;rcases e3 with e3|e3|e3
   ·exact key _ e3 (.inl rfl)
   ·exact key _ e3 (.inr (.inl rfl))
   ·exact key _ e3 (.inr (.inr rfl))
  obtain⟨m,hn,hl⟩:=I.loc;have hvis:Vis X.env.scope y:=(ok.free _ (aqF hfr.1) rfl).elim (fun k=>.inr (.inl k)) (fun k=>.inr (.inr k));obtain⟨w,r,q⟩:=hl i y av e1 e2 hvis;refine⟨w,r,.inr ⟨hfr.2,?_⟩⟩;obtain⟨c,h1,h2⟩:=look hfr.1;rcases q with⟨k,_⟩|⟨_,c',e',z⟩
  ·have k:X.env.scope.names.lookup y=some .local:=k;rcases ok.free _ (aqF hfr.1) rfl with k'|k' <;> rw[show X.env.scope.names.lookup y=_ from k'] at k <;> cases k
  ·rw[h2] at e';cases e';exact⟨c,h1,z.keeps kp⟩
 ·have e:cenv.cells.lookup y=some c:=e;rcases mem e with⟨h1,_⟩|⟨_,z⟩
  ·obtain⟨w,z⟩:=I.cell y c h1;exact⟨w,z.keeps kp⟩
  ·exact⟨_,z⟩
 ·show H cenv.locals=none;rw[hL];exact I.cI.fresh (aiM _)
 ·have e:cenv.cells.lookup y=some c:=e;rcases mem e with⟨h1,_⟩|⟨h1,_⟩
  ·exact I.Ah y c h1
  ·exact I.cI.fresh (atR h1)
 ·exact absurd (show p∈([]:List (Addr×Obj))++[] from hp) (by simp)
theorem apE{E:Value→Shared→Prop}{D:Addr}{xs:List V}{y:V}{v:Value}{Q:Value→Shared→Prop}(I:Inv X pins σ H s)(hD:H D=some (.lst xs))(hz:xs.length < sizeLine)(r:RelV y v)
  (h:∀ s',Inv X pins σ (upd H D (.lst (xs++[y]))) s'→Q .none s'):wpAny (model X.prog X.w) X.A (call (.builtin "list.append") [.ref D,v]) Q E s:=by
 obtain⟨hz',its,n,ri,e⟩:=I.cI D _ hD;have hl:=ri.length;refine append_at (hsz:=by rw[anq];omega) e fun h' sb ho'=>?_;refine h { s with heap:=h' } (I.write (t':=s.toks) (by rw[hD];trivial) (.inl rfl) (fun b u hb q=>(sb.2 b hb).trans q) ⟨_,ho'⟩ ⟨by rw[ada];exact hz,its++[v],n+1,ri.append (.cons r .nil),?_⟩);rw[ho'];simp
def PTs(X:Cx)(ifs:List Expr)(t:TT):Prop:=
 ∀ (pins:List (Addr×Obj)) (s:Shared) (σ:St) (H:Hp) (Q:Bool→Hp→Prop),Inv X pins σ H s→t σ H Q→
  wpAny (model X.prog X.w) X.A (forIn ifs true fun c r=>if r=true then do let ok ← isTrue c X.env (eval c X.env);pure (ForInStep.yield ok) else pure (ForInStep.yield r)) (TP X pins σ Q) X.xe s
def asc:TT:=fun _ H Q=>Q true H
theorem K8:PTs X [] asc:=fun _ _ _ H _ I h=>wpAny_tests_nil ⟨H,I,h⟩
theorem anV{c:Expr}{t:TT}(h:PT X c t):PTs X [c] t:=fun pins s σ H Q I hw=>wpAny_tests_one (h pins s σ H Q I hw)
end
theorem ajO{α:Type}{t:Sem α}{Q Q':α→Shared→Prop}{M:Model}{A:Around}{E:Value→Shared→Prop}{s:Shared}(h:wpAny M A t Q (fun _ _=>False) s)(hQ:∀ a s,Q a s→Q' a s):wpAny M A t Q' E s:=asL h hQ fun _ _ z=>False.elim z
theorem aai{prog:Program}{w:World}{A:Around}{R:Result→Shared→Prop}{s:Shared}{elt target iter:Expr}{ifs:List Expr}{scope:Scope}{pos:Pos}{it acc:Value}{env:Env}(I:Nat→Shared→Prop)
  (turn:∀ n s,I n s→wpAny (model prog w) A (pyNext it) (fun r s₁=>match r with
   |none=>R (.ok .next) s₁
   |some v=>wpAny (model prog w) A (letOwnedTupleGo target it v) (fun _ s₁'=>wpAny (model prog w) A (assign target env v) (fun _ s₂=>
     wpAny (model prog w) A (forIn ifs true fun c r=>if r=true then do let ok ← isTrue c env (eval c env);pure (ForInStep.yield ok) else pure (ForInStep.yield r)) (fun ok s₃=>
      if ok=true then wpAny (model prog w) A (eval elt env) (fun x s₄=>
       wpAny (model prog w) A (call (.builtin "list.append") [acc,x]) (fun _ s₅=>∃ m,m < n∧I m s₅) (notedBy (model prog w) A env fun e s'=>R (.error e) s') s₄) (notedBy (model prog w) A env fun e s'=>R (.error e) s') s₃
      else ∃ m,m < n∧I m s₃) (notedBy (model prog w) A env fun e s'=>R (.error e) s') s₂) (notedBy (model prog w) A env fun e s'=>R (.error e) s') s₁') (notedBy (model prog w) A env fun e s'=>R (.error e) s') s₁) (notedBy (model prog w) A env fun e s'=>R (.error e) s') s)
  (n:Nat) (h:I n s) :
  codeAny (model prog w) A (.compLoop (.ListComp elt [⟨target,iter,ifs,0⟩] scope pos) 0 it acc env) R s:=by
 refine codeAny_loop rfl I (fun n s hI=>?_) n h;show wpAny _ A ((compTurn (.ListComp elt [⟨target,iter,ifs,0⟩] scope pos) 0 it acc env).onRaise (fun x=>do noteFrame x env;theTreesLotGoes x)) _ _ s;refine wpAny_noted ?_;rw[compTurn_list];refine adg (wpAny_standAt (adg (asL (turn n s hI) (fun r s₁ h₁=>?_) fun _ _ h'=>h')));cases r with
 |none=>exact alu h₁
 |some v=>
  refine adg (asL h₁ (fun _ s₁' h₁'=>?_) fun _ _ h'=>h');refine adg (asL h₁' (fun _ s₂ h₂=>adg (asL h₂ (fun ok s₃ h₃=>?_) fun _ _ h'=>h')) fun _ _ h'=>h');cases ok with
  |false=>exact alu ⟨rfl,h₃⟩
  |true=>
   exact adg (adg (asL h₃ (fun x s₄ h₄=>adg (asL h₄ (fun _ s₅ h₅=>alu (alu ⟨rfl,h₅⟩)) fun _ _ h'=>h')) fun _ _ h'=>h'))
section
variable{X:Cx}
def tLc(wi:TI)(g:TG)(tt:TT)(te:TE)(vs:List Nat):TE:=fun σ H Q=>wi σ H fun J H1=>∀ D,H1 D=none→∃ W:Nat→Nat→Hp→Prop,(∃ m,W 0 m (upd H1 D (.lst [])))∧∀ i m H,W i m H→
 (J.stop i H∧Q (.ref D) H)∨(J.go i H∧∃ Nx:Hp→Prop,(∀ H',Nx H'→∃ m',m' < m∧W (i+1) m' H')∧∀ x H',J.yld i H x H'→g x (wipe σ vs) H' fun σ2 H2=>wipe σ2 vs=wipe σ vs∧tt σ2 H2 fun b H3=>
  if b=true then te σ2 H3 fun y H4=>∃ acc,H4 D=some (.lst acc)∧acc.length < sizeLine∧Nx (upd H4 D (.lst (acc++[y]))) else Nx H3)
theorem aiF{pins:List (Addr×Obj)}{s:Shared}{σ:St}{H:Hp}{Q:VK}{elt tg iter:Expr}{ifs:List Expr}{scope:Scope}{own:List (Str×Nat)}{pos pos':Pos}{wi:TI}{g:TG}{tt:TT}{te:TE}{use:Option (Value→Sem Unit)}{Qf:Value→Shared→Prop}
  (hc:X.calm=true) (hN:X.N.Nodup) (I:Inv X pins σ H s) (hi:PI X tg iter wi) (ok:adl X.N X.env.scope scope own)
  (hg:∀ (s:Shared) (H:Hp) (C:Addr) (cl:List (Str×Addr)) (fp:List Addr),PG (X.blk s H scope (compEnvC scope cl C X.env) fp) tg g) (ht:∀ (s:Shared) (H:Hp) (C:Addr) (cl:List (Str×Addr)) (fp:List Addr),PTs (X.blk s H scope (compEnvC scope cl C X.env) fp) ifs tt)
  (he:∀ (s:Shared) (H:Hp) (C:Addr) (cl:List (Str×Addr)) (fp:List Addr),PE (X.blk s H scope (compEnvC scope cl C X.env) fp) elt te) (hs:∀ x,foldedSetIterable iter X.env x=pure x)
  (h:tLc wi g tt te (own.map (·.2)) σ H Q)
  (hRR:∀ D C s' m H',Inv X pins σ H' s'→Q (.ref D) H'→s'.heap.Ns C m→TX X pins H' C→compPost (model X.prog X.w) X.A X.xe use Qf (.ref D) C (.ok .next) s') :
  wpAny (model X.prog X.w) X.A (comprehension (.ListComp elt [⟨tg,iter,ifs,0⟩] scope pos) scope X.env pos' (newList []) false (eval iter X.env) use) Qf X.xe s:=by
 have hfree:∀ y∈scope.names,y.2=.free→∃ c,X.env.cells.lookup y.1=some c:=fun y hy e=>by
  rcases ok.free y hy e with k|k
  ·exact I.ok.has _ (.inl k)
  ·exact I.ok.has _ (.inr k)
 refine wpAny_comprehension_free (use:=use) rfl hs (ags hfree) ok.kind (fun y hy e=>by rw[ok.uniq y hy,e])
  (gf (hi pins s σ H _ I h) fun xv s1 hx=>gf hx fun itv s2 h2=>?_)
 obtain⟨it,fp,tn,J,H2,e,I2,T,st2,f2,q⟩:=h2;subst e;refine wpAny_newObj_type (adk ?_) (by show 0≤sizeLine;decide);generalize hD:s2.heap.objs.size=D;have hDn:H2 D=none:=I2.cI.fresh (Nat.le_of_eq hD);obtain⟨W,⟨m0,w0⟩,turn⟩:=q D hDn;generalize hs3:({ s2 with heap:=s2.heap.push { cls:=.type "list",data:=.seq ([]:List Value).toArray } }:Shared)=s3;have I3:Inv X pins σ (upd H2 D (.lst [])) s3:=by
  rw[← hs3];refine I2.laid (t':=s2.toks) (fun b o e=>akR _ e) (Nat.le_of_eq hD) ⟨aqu _,[],0,.nil,?_⟩;rw[← hD];exact anF _ rfl
 have h3:s3.heap=s2.heap.push { cls:=.type "list",data:=.seq ([]:List Value).toArray }:=by rw[← hs3]
 have sz:∀ b∈fp,b < s2.heap.objs.size:=fun b hb=>by
  obtain⟨o,e,_⟩:=T.obj _ _ st2 b hb;exact anR e
 have f3:∀ b∈fp,TX X pins (upd H2 D (.lst [])) b∧b < s3.heap.objs.size:=fun b hb=>by
  have hlt:=sz b hb;refine⟨⟨?_,(f2 b hb).2⟩,by rw[h3,ar3];exact atU hlt⟩;rw[ak (by rw[← hD];exact arB hlt)];exact(f2 b hb).1
 have st3:tn 0 s3.heap:=T.keep _ _ _ st2 fun b _ o e=>by rw[h3];exact akR _ e
 have I4:=adm I3 ok hN f3;have pg:=hg s3 (upd H2 D (.lst [])) s3.heap.objs.size (cellsFrom (s3.heap.objs.size+1) scope.names (gw X.env.cells scope.names [])) fp;have pt:=ht s3 (upd H2 D (.lst [])) s3.heap.objs.size (cellsFrom (s3.heap.objs.size+1) scope.names (gw X.env.cells scope.names [])) fp;have pe:=he s3 (upd H2 D (.lst [])) s3.heap.objs.size (cellsFrom (s3.heap.objs.size+1) scope.names (gw X.env.cells scope.names [])) fp;show codeAny _ _ (.compStart (.ListComp elt [⟨tg,iter,ifs,0⟩] scope pos) 0 (.ref it) (.ref D) (compEnvC scope (cellsFrom (s3.heap.objs.size+1) scope.names (gw X.env.cells scope.names [])) s3.heap.objs.size X.env)) (compPost (model X.prog X.w) X.A X.xe use Qf (.ref D) s3.heap.objs.size) { s3 with heap:=pushCells (s3.heap.push { cls:=.type "dict",data:=.dict #[] }) scope.names };have nfp:∀ b∈fp,(upd H2 D (.lst [])) b=none:=fun b hb=>(f3 b hb).1.1;generalize hce:compEnvC scope (cellsFrom (s3.heap.objs.size+1) scope.names (gw X.env.cells scope.names [])) s3.heap.objs.size X.env=ce at I4 pg pt pe ⊢;have cL:ce.locals=s3.heap.objs.size:=by subst hce;rfl
 generalize hH3:upd H2 D (.lst [])=H3 at I3 I4 pg pt pe w0 nfp f3;generalize hs4:({ s3 with heap:=pushCells (s3.heap.push { cls:=.type "dict",data:=.dict #[] }) scope.names }:Shared)=s4 at I4 ⊢;have st4:tn 0 s4.heap:=T.keep _ _ _ st3 fun b _ o e=>by rw[← hs4];exact pushCells_keeps _ _ _ _ (akR _ e)
 have stat:∀ {σ':St} {H':Hp} {s':Shared},Inv (X.blk s3 H3 scope ce fp) [] σ' H' s'→(∀ b∈fp,H' b=none)→∀ b∈fp,TX (X.blk s3 H3 scope ce fp) [] H' b:=fun{σ' H' s'} I' hn b hb=>
  ⟨hn b hb,(I'.ok.exf b hb).1,I'.ok.alw b hb,.inl hb,fun x c e=>(I'.ok.exf b hb).2 x c e,fun p hp=>absurd (show p∈([]:List (Addr×Obj))++[] from hp) (by simp)⟩
 have loop:codeAny (model X.prog X.w) X.A (.compLoop (.ListComp elt [⟨tg,iter,ifs,0⟩] scope pos) 0 (.ref it) (.ref D) ce) (compPost (model X.prog X.w) X.A X.xe use Qf (.ref D) s3.heap.objs.size) s4:=by
  refine aai (fun n s'=>∃ i H',Inv (X.blk s3 H3 scope ce fp) [] (wipe σ (own.map (·.2))) H' s'∧tn i s'.heap∧(∀ b∈fp,H' b=none)∧W i n H') ?_ m0 ⟨0,H3,I4,st4,nfp,w0⟩;rintro n s5 ⟨i,H5,I5,st5,n5,w5⟩;rcases turn i n H5 w5 with⟨stop,qq⟩|⟨go,Nx,hNx,step⟩
  ·have td:=T.done (X.blk s3 H3 scope ce fp) rfl rfl rfl hc i [] s5 _ H5 (fun _ _=>False) I5 (stat I5 n5) st5 stop
   refine ajO td fun r s6 ⟨hr,I6⟩=>?_;subst hr;have I7:Inv X pins σ H5 s6:=I3.aqG (ch:=fp) I6.os I6.base I6.cI I6.bare fun b hb=>⟨(f3 b hb).1.2.2.2.1,(f3 b hb).1.2.1,(f3 b hb).1.2.2.2.2.1,(f3 b hb).1.2.2.2.2.2⟩;have nC:H5 s3.heap.objs.size=none:=by
    have z:H5 ce.locals=none:=I6.free;rw[cL] at z;exact z
   obtain⟨m,hn,_⟩:=I6.loc;have hn:s6.heap.Ns ce.locals m:=hn;rw[cL] at hn;exact hRR D s3.heap.objs.size s6 m H5 I7 qq hn (I3.ajD (aiM _) nC)
  ·have ti:=T.item (X.blk s3 H3 scope ce fp) rfl rfl rfl hc i [] s5 _ H5 (fun _ _=>False) I5 (stat I5 n5) st5 go;refine ajO ti fun r s6 ⟨u,hr,h6⟩=>?_;subst hr;refine ajO h6 fun _ s7 ⟨x,H7,I7,r7,y7,st7,n7⟩=>?_;have I7':=I7.pinned (stat I7 n7) (T.obj _ _ st7);refine ajO (pg _ s7 _ H7 x u _ I7' r7 (step x H7 y7)) fun _ s8 ⟨σ8,H8,I8,hw8,q8⟩=>?_;refine ajO (pt _ s8 σ8 H8 _ I8 q8) fun b s9 ⟨H9,I9,q9⟩=>?_;have fin:∀ {s':Shared} {H':Hp},Inv (X.blk s3 H3 scope ce fp) ([]++TZ fp s7.heap) σ8 H' s'→Nx H'→∃ m,m < n∧∃ i H',Inv (X.blk s3 H3 scope ce fp) [] (wipe σ (own.map (·.2))) H' s'∧tn i s'.heap∧(∀ b∈fp,H' b=none)∧W i m H':=fun{s' H'} I' nx=>by
    obtain⟨m',hm,w'⟩:=hNx H' nx;have pin':∀ b∈fp,∀ o,s7.heap.get? b=some o→s'.heap.get? b=some o∧H' b=none:=fun b hb o e=>
     let z:=I'.pin (b,o) (aqP _ (aqP _ (Ji hb e)))
     ⟨z.1,z.2.1⟩
    have hl:(wipe σ (own.map (·.2))).length=σ8.length:=by rw[← hw8,ET]
    refine⟨m',hm,i+1,H',(I'.K4 (pins:=[])).weak hl (fun j v e=>?_),T.keep _ _ _ st7 fun b hb o e=>(pin' b hb o e).1,fun b hb=>?_,w'⟩
    ·rw[← hw8] at e;exact(Ox e).1
    ·obtain⟨o,e,_⟩:=T.obj _ _ st7 b hb;exact(pin' b hb o e).2
   cases b with
   |false=>
    simp only[asD,atd] at q9 ⊢;exact fin I9 q9
   |true=>
    simp only[if_true] at q9 ⊢;refine ajO (pe _ s9 σ8 H9 _ I9 q9) fun z s10 ⟨yv,H10,I10,r10,acc,hD10,hz10,nx⟩=>?_;exact apE (X:=X.blk s3 H3 scope ce fp) I10 hD10 hz10 r10 fun s11 I11=>fin I11 nx
 exact codeAny_compStart_list loop (T.self X.A 0 _ _ _ st4 loop)
theorem adn{elt tg iter:Expr}{ifs:List Expr}{scope:Scope}{own:List (Str×Nat)}{pos:Pos}{wi:TI}{g:TG}{tt:TT}{te:TE}(hc:X.calm=true)(hN:X.N.Nodup)(hi:PI X tg iter wi)(ok:adl X.N X.env.scope scope own)
  (hg:∀ (s:Shared) (H:Hp) (C:Addr) (cl:List (Str×Addr)) (fp:List Addr),PG (X.blk s H scope (compEnvC scope cl C X.env) fp) tg g) (ht:∀ (s:Shared) (H:Hp) (C:Addr) (cl:List (Str×Addr)) (fp:List Addr),PTs (X.blk s H scope (compEnvC scope cl C X.env) fp) ifs tt)
  (he:∀ (s:Shared) (H:Hp) (C:Addr) (cl:List (Str×Addr)) (fp:List Addr),PE (X.blk s H scope (compEnvC scope cl C X.env) fp) elt te) (hs:∀ x,foldedSetIterable iter X.env x=pure x:=by intro _;rfl) :
  PE X (.ListComp elt [⟨tg,iter,ifs,0⟩] scope pos) (tLc wi g tt te (own.map (·.2))):=by
 intro pins s σ H Q I h;rw[eval_ListComp];refine aiF hc hN I hi ok hg ht he hs h fun D C s' m H' I' q hn f=>⟨m,hn,fun h'' sb=>?_⟩;obtain⟨f0,f1,f2,f3,f4,f5⟩:=f;exact⟨.ref D,H',I'.turned (t':=s'.toks) (fun b o hb e=>(sb.2 b hb).trans e) f0 f1 f3 f4 f5,rfl,q⟩
theorem alU{i:Nat}{y:Str}{py:Pos}{elt tg iter:Expr}{ifs:List Expr}{scope:Scope}{own:List (Str×Nat)}{pos spos:Pos}{wi:TI}{g:TG}{tt:TT}{te:TE}(hc:X.calm=true)(hN:X.N.Nodup)(hy:X.N[i]?=some y)(hyl:X.env.scope.names.lookup y=some .local)
  (hsw:swapsWith (.ListComp elt [⟨tg,iter,ifs,0⟩] scope pos) (some (.Name y py)) spos.line X.env=pure true) (hi:PI X tg iter wi) (ok:adl X.N X.env.scope scope own)
  (hg:∀ (s:Shared) (H:Hp) (C:Addr) (cl:List (Str×Addr)) (fp:List Addr),PG (X.blk s H scope (compEnvC scope cl C X.env) fp) tg g) (ht:∀ (s:Shared) (H:Hp) (C:Addr) (cl:List (Str×Addr)) (fp:List Addr),PTs (X.blk s H scope (compEnvC scope cl C X.env) fp) ifs tt)
  (he:∀ (s:Shared) (H:Hp) (C:Addr) (cl:List (Str×Addr)) (fp:List Addr),PE (X.blk s H scope (compEnvC scope cl C X.env) fp) elt te) (hs:∀ x,foldedSetIterable iter X.env x=pure x:=by intro _;rfl) :
  PS X (.Assign [.Name y py] (.ListComp elt [⟨tg,iter,ifs,0⟩] scope pos) spos) (api (tLc wi g tt te (own.map (·.2))) (aiz i)):=by
 intro pins s σ H D I h;rw[exec_Assign_Name_used _ _ _ _ hsw];refine adg (wpAny_standAt (adg ?_));show wpAny _ X.A (do let _ ← comprehension (.ListComp elt [⟨tg,iter,ifs,0⟩] scope pos) scope X.env (firstIterPos [⟨tg,iter,ifs,0⟩] pos) (newList []) false (eval iter X.env) (some (assign (.Name y py) X.env))) _ _ s;have h:tLc wi g tt te (own.map (·.2)) σ H (fun x H1=>aiz i x σ H1 D.nx):=h;refine adg (gf (aiF (Qf:=fun _ s'=>SP X pins D .next s') hc hN I hi ok hg ht he hs h fun L C s' m H' I' q hn f=>?_) fun _ s' hq=>alu (alu hq));show wpAny _ _ (assign (.Name y py) X.env (.ref L)) _ _ _;refine wpAny_assign_Name (YJ (v:=V.ref L) I' hN hy (.inl hyl) rfl (fun s2 I2 ⟨a,sb,ha⟩=>?_) (.inr hyl));obtain⟨f0,f1,f2,f3,f4,f5⟩:=f;have haC:C≠a:=by
  rcases ha with z|z
  ·rw[z];exact f1
  ·exact fun e=>f4 y a z e.symm
 refine⟨m,hn.sameBut sb haC,fun h3 sb3=>?_⟩;exact⟨_,H',I2.turned (t':=s2.toks) (fun b o hb e=>(sb3.2 b hb).trans e) f0 f1 f3 f4 f5,q⟩
theorem anW{elt:Expr}{gs:List Comprehension}{scope:Scope}{pos py:Pos}{y:Str}{l:Nat}{env:Env}(hk:env.scope.kind=.function)(hy:env.scope.names.lookup y=some .local)(hl:(py.line == pos.line)=true)
  (ha:(scope.names.any fun(n,k)=>n == y && (k == .local || k == .cell))=false):swapsWith (.ListComp elt gs scope pos) (some (.Name y py)) l env=pure true:=by
 have ky:env.kindOf y=some .local:=hy;have hb:env.blockKind=.function:=by unfold Env.blockKind;rw[hk];rfl
 unfold swapsWith;simp only[hb,ky,ha,Expr.pos,hl];rfl
end
theorem alV{lo:Int}{n:Nat}{g:TG}{tt:TT}{te:TE}{vs:List Nat}{σ:St}{H1:Hp}{D:Addr}{Qd:Hp→Prop}(Pv:Nat→Hp→Prop)(h0:Pv 0 (upd H1 D (.lst [])))
  (hs:∀ i H,i < n→Pv i H→g (.int (lo+i)) (wipe σ vs) H fun σ2 H2=>wipe σ2 vs=wipe σ vs∧tt σ2 H2 fun b H3=>
   if b=true then te σ2 H3 fun y H4=>∃ acc,H4 D=some (.lst acc)∧acc.length < sizeLine∧Pv (i+1) (upd H4 D (.lst (acc++[y]))) else Pv (i+1) H3) (hd:∀ H,Pv n H→Qd H) :
  ∃ W:Nat→Nat→Hp→Prop,(∃ m,W 0 m (upd H1 D (.lst [])))∧∀ i m H,W i m H→
   ((Itr lo n).stop i H∧Qd H)∨((Itr lo n).go i H∧∃ Nx:Hp→Prop,(∀ H',Nx H'→∃ m',m' < m∧W (i+1) m' H')∧∀ x H',(Itr lo n).yld i H x H'→g x (wipe σ vs) H' fun σ2 H2=>wipe σ2 vs=wipe σ vs∧tt σ2 H2 fun b H3=>
    if b=true then te σ2 H3 fun y H4=>∃ acc,H4 D=some (.lst acc)∧acc.length < sizeLine∧Nx (upd H4 D (.lst (acc++[y]))) else Nx H3):=by
 refine⟨fun i m H=>m=n - i∧i≤n∧Pv i H,⟨n,by simp,aqu _,h0⟩,?_⟩;rintro i m H ⟨rfl,hi,p⟩;by_cases hlt:i < n
 ·refine .inr ⟨hlt,Pv (i+1),fun H' p'=>⟨n - (i+1),by omega,rfl,hlt,p'⟩,fun x H' y=>?_⟩;obtain⟨e,y⟩:=y;subst e y;exact hs i _ hlt p
 ·have e:i=n:=by omega
  subst e;exact .inl ⟨aiM _,hd H p⟩
theorem SI{K:Fg}{a:Addr}{xs:List V}{g:TG}{tt:TT}{te:TE}{vs:List Nat}{σ:St}{H1:Hp}{D:Addr}{Qd:Hp→Prop}(Pv:Nat→Hp→Prop)(h0:Pv 0 (upd H1 D (.lst [])))(hl:∀ i H,i≤xs.length→Pv i H→cJ K H a xs)
  (hs:∀ i x H,xs[i]?=some x→Pv i H→g x (wipe σ vs) H fun σ2 H2=>wipe σ2 vs=wipe σ vs∧tt σ2 H2 fun b H3=>
   if b=true then te σ2 H3 fun y H4=>∃ acc,H4 D=some (.lst acc)∧acc.length < sizeLine∧Pv (i+1) (upd H4 D (.lst (acc++[y]))) else Pv (i+1) H3) (hd:∀ H,Pv xs.length H→Qd H) :
  ∃ W:Nat→Nat→Hp→Prop,(∃ m,W 0 m (upd H1 D (.lst [])))∧∀ i m H,W i m H→
   ((Itl K a).stop i H∧Qd H)∨((Itl K a).go i H∧∃ Nx:Hp→Prop,(∀ H',Nx H'→∃ m',m' < m∧W (i+1) m' H')∧∀ x H',(Itl K a).yld i H x H'→g x (wipe σ vs) H' fun σ2 H2=>wipe σ2 vs=wipe σ vs∧tt σ2 H2 fun b H3=>
    if b=true then te σ2 H3 fun y H4=>∃ acc,H4 D=some (.lst acc)∧acc.length < sizeLine∧Nx (upd H4 D (.lst (acc++[y]))) else Nx H3):=by
 refine⟨fun i m H=>m=xs.length - i∧i≤xs.length∧Pv i H,⟨xs.length,by simp,aqu _,h0⟩,?_⟩;rintro i m H ⟨rfl,hi,p⟩;have q:=hl i H hi p;by_cases hlt:i < xs.length
 ·refine .inr ⟨⟨xs,xs[i],q,by simp[hlt]⟩,Pv (i+1),fun H' p'=>⟨xs.length - (i+1),by omega,rfl,hlt,p'⟩,fun x H' y=>?_⟩;obtain⟨e,y⟩:=y;subst e;exact hs i x _ (y xs q) p
 ·have e:i=xs.length:=by omega
  subst e;exact .inl ⟨⟨xs,q,aiM _⟩,hd H p⟩
def aq1(N:List Str)(sc scope:Scope)(own:List (Str×Nat)):Bool:=
 (match scope.kind with|.function=>true|_=>false) && (scope.names.all fun y=>decide (scope.names.lookup y.1=some y.2)) && (own.all fun p=>decide (N[p.2]?=some p.1)) &&
  (scope.names.all fun y=>match y.2 with
   |.free=>(match sc.names.lookup y.1 with|some .cell=>true|some .free=>true|_=>false)
   |.local=>decide (y.1∈own.map (·.1)) || decide (y.1∉N)
   |.cell=>decide (y.1∈own.map (·.1)) || decide (y.1∉N)
   |_=>true)
theorem Al{N:List Str}{sc scope:Scope}{own:List (Str×Nat)}(h:aq1 N sc scope own=true):adl N sc scope own:=by
 unfold aq1 at h;simp only[anr,asP,asW] at h;obtain⟨⟨⟨h1,h2⟩,h3⟩,h4⟩:=h;refine⟨?_,h2,h3,fun y hy e=>?_,fun y hy e=>?_⟩
 ·split at h1
  ·assumption
  ·cases h1
 ·have q:=h4 y hy;simp only[e] at q;split at q <;> first|exact .inl (by assumption)|exact .inr (by assumption)|cases q
 ·have q:=h4 y hy;rcases e with e|e <;> (simp only[e,Bool.or_eq_true,asW] at q;exact q)
section
variable{κ:Type}[DecidableEq κ]
def fM(kvs:List (κ×V))(k:κ):Option V:=(kvs.find? fun kv=>decide (kv.1=k)).map (·.2)
def putK(kvs:List (κ×V))(k:κ)(v:V):List (κ×V):=
 if (kvs.any fun kv=>decide (kv.1=k))=true then kvs.map (fun kv=>if kv.1=k then(kv.1,v) else kv) else kvs++[(k,v)]
def Ua(kvs:List (κ×V))(k:κ):List (κ×V):=kvs.filter fun kv=>decide (kv.1≠k)
theorem gE{p:κ×V}{r:List (κ×V)}{k:κ}(e:p.1=k):fM (p::r) k=some p.2:=by simp[fM,asS,e]
theorem iq{p:κ×V}{r:List (κ×V)}{k:κ}(e:¬ p.1=k):fM (p::r) k=fM r k:=by simp[fM,asS,e]
theorem qD(k:κ):∀ kvs:List (κ×V),(kvs.any fun kv=>decide (kv.1=k))=(fM kvs k).isSome
 |[]=>rfl
 |p::r=>by
  rw[atV];by_cases e:p.1=k
  ·simp only[gE e,arC e,Bool.true_or,Option.isSome_some]
  ·rw[iq e,aqz e,Bool.false_or];exact qD k r
theorem ado(k j:κ)(y:V):∀ kvs:List (κ×V),fM (kvs.map fun kv=>if kv.1=k then(kv.1,y) else kv) j=(fM kvs j).map fun x=>if j=k then y else x
 |[]=>rfl
 |p::r=>by
  have ih:=ado k j y r;rw[ajR];by_cases h:p.1=k
  ·rw[afO h];by_cases e:p.1=j
   ·rw[gE (p:=(p.1,y)) e,gE e,Option.map_some,afO (e.symm.trans h)]
   ·rw[iq (p:=(p.1,y)) e,iq e,ih]
  ·rw[acK h];by_cases e:p.1=j
   ·rw[gE (p:=p) e,gE e,Option.map_some,acK (fun z=>h (e.trans z))]
   ·rw[iq (p:=p) e,iq e,ih]
theorem YQ(k j:κ)(y:V):∀ kvs:List (κ×V),fM kvs k=none→fM (kvs++[(k,y)]) j=if j=k then some y else fM kvs j
 |[],_=>by
  by_cases e:k=j
  ·rw[afO e.symm];exact gE (p:=(k,y)) e
  ·rw[acK (fun z=>e z.symm)];exact iq (p:=(k,y)) e
 |p::r,hn=>by
  rw[List.cons_append];have hk:¬ p.1=k:=fun z=>by rw[gE z] at hn;cases hn
  rw[iq hk] at hn;have ih:=YQ k j y r hn;by_cases e:p.1=j
  ·rw[gE e,gE e,acK (fun z=>hk (e.trans z))]
  ·rw[iq e,iq e,ih]
theorem adp(kvs:List (κ×V))(k j:κ)(y:V):fM (putK kvs k y) j=if j=k then some y else fM kvs j:=by
 unfold putK;by_cases a:(kvs.any fun kv=>decide (kv.1=k))=true
 ·rw[afO a,ado];rw[qD] at a;by_cases e:j=k
  ·obtain⟨x,hx⟩:=aqv.mp a;rw[afO e,e,hx,Option.map_some,afO rfl]
  ·rw[acK e];cases fM kvs j with
   |none=>rfl
   |some x=>rw[Option.map_some,acK e]
 ·rw[acK a];refine YQ k j y kvs ?_;rw[qD] at a;cases q:fM kvs k with
  |none=>rfl
  |some x=>rw[q] at a;exact(a rfl).elim
theorem fh(kvs:List (κ×V))(k:κ)(v:V):(putK kvs k v).length≤kvs.length+1:=by
 unfold putK;split
 ·rw[aah];omega
 ·rw[ada,ajk,atp];omega
theorem alW{kvs:List (κ×V)}{k:κ}(v:V)(h:fM kvs k=none):putK kvs k v=kvs++[(k,v)]:=by
 unfold putK;rw[qD,h];exact acK (by decide)
theorem BI.Am{o:Option V}{u:Option Value}(r:BI o u):o.isSome=u.isSome:=by
 cases o with
 |none=>cases u with
  |none=>rfl
  |some _=>exact(show False from r).elim
 |some _=>cases u with
  |none=>exact(show False from r).elim
  |some _=>rfl
theorem BI.getD{o:Option V}{u:Option Value}{d:V}{d':Value}(r:BI o u)(rd:RelV d d'):RelV (o.getD d) (u.getD d'):=by
 cases o with
 |none=>cases u with
  |none=>exact rd
  |some _=>exact(show False from r).elim
 |some _=>cases u with
  |none=>exact(show False from r).elim
  |some _=>exact r
theorem KV.val{kvs:List (κ×V)}{vs:List (κ×Value)}(r:KV kvs vs)(k:κ):BI (fM kvs k) (valueAt vs k):=by
 unfold KV at r;induction r with
 |nil=>exact True.intro
 |@cons p q ps qs h t ih=>
  obtain⟨h1,h2⟩:=h;by_cases e:p.1=k
  ·have e':q.1=k:=h1.symm.trans e;have b:valueAt (q::qs) k=some q.2:=by simp[valueAt,asS,e']
   rw[gE e,b];exact h2
  ·have e':¬ q.1=k:=fun z=>e (h1.trans z);have b:valueAt (q::qs) k=valueAt qs k:=by simp[valueAt,asS,e']
   rw[iq e,b];exact ih
theorem KV.any{kvs:List (κ×V)}{vs:List (κ×Value)}(r:KV kvs vs)(k:κ):(kvs.any fun kv=>decide (kv.1=k))=vs.any fun kv=>decide (kv.1=k):=by
 unfold KV at r;induction r with
 |nil=>rfl
 |cons h t ih=>rw[atV,atV,ih,h.1]
theorem KV.apF{kvs:List (κ×V)}{vs:List (κ×Value)}(r:KV kvs vs)(k:κ){y:V}{u:Value}(ry:RelV y u) :
  KV (kvs.map fun kv=>if kv.1=k then(kv.1,y) else kv) (vs.map fun kv=>if kv.1=k then(kv.1,u) else kv):=by
 unfold KV at r ⊢;induction r with
 |nil=>exact .nil
 |@cons p q ps qs h t ih=>
  rw[ajR,ajR];refine .cons ?_ ih;obtain⟨h1,h2⟩:=h;by_cases e:p.1=k
  ·rw[afO e,afO (h1.symm.trans e)];exact⟨h1,ry⟩
  ·rw[acK e,acK (fun z=>e (h1.trans z))];exact⟨h1,h2⟩
theorem KV.put{kvs:List (κ×V)}{vs:List (κ×Value)}(r:KV kvs vs)(k:κ){y:V}{u:Value}(ry:RelV y u):KV (putK kvs k y) (stored vs k u):=by
 unfold putK stored;rw[r.any k];by_cases e:(vs.any fun kv=>decide (kv.1=k))=true
 ·rw[afO e,afO e];exact r.apF k ry
 ·rw[acK e,acK e];exact Paired.snoc r ⟨rfl,ry⟩
theorem KV.length{kvs:List (κ×V)}{vs:List (κ×Value)}(r:KV kvs vs):kvs.length=vs.length:=Paired.length r
theorem alX(kvs:List (κ×V))(k:κ):(Ua kvs k).length≤kvs.length:=aq9 _ _
end
theorem YR{P:Program}{w:World}{k:Key}{u:Value}(r:RelV (kV k) u):(i6 P w).is k u=true:=by
 cases k with
 |inl i=>obtain⟨t,e⟩:=(show ∃ t,u=Value.int i t from r);subst e;exact ac4 P w i t
 |inr x=>obtain⟨t,e⟩:=(show ∃ t,u=Value.str x t from r);subst e;exact ac5 P w x t
theorem Oz{P:Program}{w:World}:∀ {ks:List Key} {us:List Value},bK (ks.map kV) us→ItemsAre (i6 P w) ks us
 |[],_,r=>by rw[atv] at r;cases r;exact .nil
 |k::ks,_,r=>by
  rw[ajR] at r;cases r with
  |cons h t=>exact .cons (YR h) (Oz t)
abbrev KT(K:Fg)(H:Hp):List (List Key×V)→List (List Key×Addr×Value)→Prop:=Paired fun p q=>p.1=q.1∧TupAt K H q.2.1 (p.1.map kV)∧RelV p.2 q.2.2
theorem KT.val{K:Fg}{H:Hp}{kvs:List (List Key×V)}{xs:List (List Key×Addr×Value)}(r:KT K H kvs xs)(k:List Key):BI (fM kvs k) ((atKey xs k).map (·.2)):=by
 induction r with
 |nil=>exact True.intro
 |@cons p q ps qs h t ih=>
  obtain⟨h1,_,h2⟩:=h;by_cases e:p.1=k
  ·have e':q.1=k:=h1.symm.trans e;have b:atKey (q::qs) k=some q.2:=by simp[atKey,asS,e']
   rw[gE e,b];exact h2
  ·have e':¬ q.1=k:=fun z=>e (h1.trans z);have b:atKey (q::qs) k=atKey qs k:=by simp[atKey,asS,e']
   rw[iq e,b];exact ih
theorem KT.apF{K:Fg}{H:Hp}{kvs:List (List Key×V)}{xs:List (List Key×Addr×Value)}(r:KT K H kvs xs)(k:List Key){y:V}{u:Value}(ry:RelV y u) :
  KT K H (kvs.map fun kv=>if kv.1=k then(kv.1,y) else kv) (xs.map (putAt k u)):=by
 induction r with
 |nil=>exact .nil
 |@cons p q ps qs h t ih=>
  rw[ajR,ajR];refine .cons ?_ ih;obtain⟨h1,h2,h3⟩:=h;unfold putAt;by_cases e:p.1=k
  ·rw[afO e,afO (h1.symm.trans e)];exact⟨h1,h2,ry⟩
  ·rw[acK e,acK (fun z=>e (h1.trans z))];exact⟨h1,h2,h3⟩
theorem KT.put{K:Fg}{H:Hp}{kvs:List (List Key×V)}{xs:List (List Key×Addr×Value)}(r:KT K H kvs xs)(k:List Key){b:Addr}{y:V}{u:Value}(hb:TupAt K H b (k.map kV))(ry:RelV y u) :
  KT K H (putK kvs k y) (storedH xs k b u):=by
 have e:(kvs.any fun kv=>decide (kv.1=k))=(atKey xs k).isSome:=by
  rw[qD,(r.val k).Am,Option.isSome_map]
 unfold putK storedH;rw[e];by_cases q:(atKey xs k).isSome=true
 ·rw[afO q,afO q];exact r.apF k ry
 ·rw[acK q,acK q];exact Paired.snoc r ⟨rfl,hb,ry⟩
theorem KT.keeps{K:Fg}{H H':Hp}{kvs:List (List Key×V)}{xs:List (List Key×Addr×Value)}(r:KT K H kvs xs)(ht:∀ b ys,H b=some (.tup ys)→H' b=some (.tup ys)):KT K H' kvs xs:=
 Paired.anD r fun _ _ z=>⟨z.1,z.2.1.keep ht,z.2.2⟩
section
variable{P:Program}{w:World}{K:Fg}{H:Hp}{h:Heap}{a:Addr}
theorem aoP{u:HO}(ok:EH P w K H h)(e:Rd H a u):iG P w K H h a u:=e.ok ok
theorem Ub{kvs:List (Key×V)}(ok:EH P w K H h)(e:Rd H a (.dK kvs)):kvs.length≤sizeLine∧(a == sysModules)=false∧∃ vs,KV kvs vs∧h.DictOf (i6 P w) a vs:=
 show iG P w K H h a (.dK kvs) from aoP ok e
theorem aq2{kvs:List (Key×V)}(ok:EH P w K H h)(e:H a=some (.dK kvs)):kvs.length≤sizeLine∧(a == sysModules)=false∧∃ vs,KV kvs vs∧h.DictOf (i6 P w) a vs:=Ub ok (.inl e)
theorem EU{ks:List Key}(Xu:K.In h)(ok:EH P w K H h)(e:TupAt K H a (ks.map kV)):(tupleKind (i6 P w)).is h ks a:=by
 rcases e with e|⟨o,its,n,h1,h2,h3,_,r⟩
 ·obtain⟨_,its,r,o,h1,h2,n,h3⟩:=(show iG P w K H h a (.tup (ks.map kV)) from ok a _ e);exact⟨o,its.toArray,n,h1,h2,h3,by simpa using Oz r⟩
 ·exact⟨o,its,n,Xu a o h1,h2,h3,Oz r⟩
theorem K9{kvs:List (List Key×V)}(Xu:K.In h)(ok:EH P w K H h)(e:Rd H a (.dT kvs)):kvs.length≤sizeLine∧(a == sysModules)=false∧
  ∃ xs,KT K H kvs xs∧h.DictOfH (tupleKind (i6 P w)) a xs:=by
 obtain⟨z,y,xs,r,o,es,ep,h1,h2,h3,h4,h5⟩:=(show iG P w K H h a (.dT kvs) from aoP ok e);refine⟨z,y,xs,r,o,es,ep,h1,h2,h3,h4,fun x hx=>?_,h5⟩;have all:∀ {l:List (List Key×V)} {m:List (List Key×Addr×Value)},KT K H l m→∀ x∈m,(tupleKind (i6 P w)).is h x.1 x.2.1:=by
  intro l m q;induction q with
  |nil=>intro x hx;exact nomatch hx
  |@cons p q ps qs hq t ih=>
   intro x hx;rcases akS.mp hx with e|hx
   ·subst e;exact EU Xu ok (by rw[← hq.1];exact hq.2.1)
   ·exact ih x hx
 exact all r x hx
theorem alY{kvs:List (List Key×V)}(Xu:K.In h)(ok:EH P w K H h)(e:H a=some (.dT kvs)):kvs.length≤sizeLine∧(a == sysModules)=false∧
  ∃ xs,KT K H kvs xs∧h.DictOfH (tupleKind (i6 P w)) a xs:=K9 Xu ok (.inl e)
end
def mP(K:Fg)(H:Hp)(a:Addr)(y:V)(r:Option V):Prop:=
 (∃ kvs k,Rd H a (.dK kvs)∧y=kV k∧r=fM kvs k)∨∃ kvs k b,Rd H a (.dT kvs)∧y=.ref b∧TupAt K H b (k.map kV)∧r=fM kvs k
def BK(K:Fg)(H:Hp)(a:Addr)(y v:V)(H':Hp):Prop:=
 (∃ kvs k,H a=some (.dK kvs)∧y=kV k∧kvs.length < sizeLine∧H'=upd H a (.dK (putK kvs k v)))∨
 ∃ kvs k b,H a=some (.dT kvs)∧y=.ref b∧TupAt K H b (k.map kV)∧kvs.length < sizeLine∧H'=upd H a (.dT (putK kvs k v))
theorem mP.t{K:Fg}{H:Hp}{a b:Addr}{kvs:List (List Key×V)}{k:List Key}(e:H a=some (.dT kvs))(eb:TupAt K H b (k.map kV)):mP K H a (.ref b) (fM kvs k):=.inr ⟨kvs,k,b,.inl e,rfl,eb,rfl⟩
theorem BK.t{K:Fg}{H:Hp}{a b:Addr}{kvs:List (List Key×V)}{k:List Key}{v:V}(e:H a=some (.dT kvs))(eb:TupAt K H b (k.map kV))(hl:kvs.length < sizeLine) :
  BK K H a (.ref b) v (upd H a (.dT (putK kvs k v))):=.inr ⟨kvs,k,b,e,rfl,eb,hl,rfl⟩
section
variable{X:Cx}{pins:List (Addr×Obj)}{σ:St}{H:Hp}{s:Shared}{a:Addr}{y v:V}{u r:Value}{o:Option V}{A:Around}{E:Value→Shared→Prop}
theorem Inv.big(I:Inv X pins σ H s):sysModules < s.heap.objs.size:=by
 have h:mainGlobals < s.heap.objs.size:=(I.mod.glob.keeps I.bk).lt;exact Nat.lt_trans (by decide) h
theorem YS{Q:Value→Shared→Prop}(hu:A.units+1 < cLine)(I:Inv X pins σ H s)(g:mP X.K H a y (some v))(ry:RelV y u)(h:∀ w' s',Inv X pins σ H s'→RelV v w'→Q w' s') :
  wpAny (model X.prog X.w) A (getItem (.ref a) u) Q E s:=by
 rcases g with⟨kvs,k,e,ey,l⟩|⟨kvs,k,b,e,ey,eb,l⟩
 ·subst ey;obtain⟨z,hd,vs,rel,dd⟩:=Ub I.cI e;obtain⟨w',hw,rw'⟩:=BI.some_of (v:=v) (o:=valueAt vs k) (by rw[l];exact rel.val k);exact wpAny_getItem_of (YR ry) dd.mapOf hw (h w' _ (I.tok _) rw')
 ·subst ey;cases (show u=Value.ref b from ry);obtain⟨z,hd,xs,rel,dd⟩:=K9 I.uM I.cI e;obtain⟨w',hw,rw'⟩:=BI.some_of (v:=v) (o:=(atKey xs k).map (·.2)) (by rw[l];exact rel.val k);obtain⟨p,hp,hp2⟩:=aqy.mp hw;refine wpAny_getItem_heap (as5 hu) (EU I.uM I.cI eb) dd hp ?_;rw[hp2];exact h w' _ (I.tok _) rw'
theorem asd{Q:Value→Shared→Prop}(hu:A.units+1 < cLine)(I:Inv X pins σ H s)(g:mP X.K H a y o)(ry:RelV y u)(h:∀ s',Inv X pins σ H s'→Q (.bool o.isSome) s') :
  wpAny (model X.prog X.w) A (compareOp .In u (.ref a)) Q E s:=by
 rcases g with⟨kvs,k,e,ey,l⟩|⟨kvs,k,b,e,ey,eb,l⟩
 ·subst ey;obtain⟨z,hd,vs,rel,dd⟩:=Ub I.cI e;refine wpAny_in_of (YR ry) hd dd.mapOf ?_;rw[← (rel.val k).Am,← l];exact h _ (I.tok _)
 ·subst ey;cases (show u=Value.ref b from ry);obtain⟨z,hd,xs,rel,dd⟩:=K9 I.uM I.cI e;refine wpAny_in_heap (as5 hu) (EU I.uM I.cI eb) hd dd ?_;have q:=(rel.val k).Am;rw[Option.isSome_map] at q;rw[← q,← l];exact h _ (I.tok _)
theorem anX{Q:Value→Shared→Prop}(hu:A.units+1 < cLine)(I:Inv X pins σ H s)(g:mP X.K H a y o)(ry:RelV y u)(h:∀ s',Inv X pins σ H s'→Q (.bool (!o.isSome)) s') :
  wpAny (model X.prog X.w) A (compareOp .NotIn u (.ref a)) Q E s:=by
 rcases g with⟨kvs,k,e,ey,l⟩|⟨kvs,k,b,e,ey,eb,l⟩
 ·subst ey;obtain⟨z,hd,vs,rel,dd⟩:=Ub I.cI e;refine wpAny_notIn_of (YR ry) hd dd.mapOf ?_;rw[← (rel.val k).Am,← l];exact h _ (I.tok _)
 ·subst ey;cases (show u=Value.ref b from ry);obtain⟨z,hd,xs,rel,dd⟩:=K9 I.uM I.cI e;refine wpAny_notIn_heap (as5 hu) (EU I.uM I.cI eb) hd dd ?_;have q:=(rel.val k).Am;rw[Option.isSome_map] at q;rw[← q,← l];exact h _ (I.tok _)
theorem SJ{h':Heap}{t':Nat}{ob:HO}(I:Inv X pins σ H s)(mu:Mut (H a))(hs:Heap.SameBut a s.heap h')(he:∃ q,h'.get? a=some q)(new:iG X.prog X.w X.K (upd H a ob) h' a ob) :
  Inv X pins σ (upd H a ob) { s with heap:=h',toks:=t' }:=
 I.write (x:=a) (e:=a) mu (.inl rfl) (fun b q hb z=>(hs.2 b hb).trans z) he new
theorem apG{P:Program}{w:World}{K:Fg}{H':Hp}{h':Heap}{kvs:List (Key×V)}{vs:List (Key×Value)}(z:kvs.length≤sizeLine)(hd:(a == sysModules)=false)(rel:KV kvs vs)(dd:h'.DictOf (i6 P w) a vs) :
  iG P w K H' h' a (.dK kvs):=⟨z,hd,vs,rel,dd⟩
theorem YT{H':Hp}{Q:Unit→Shared→Prop}(hu:A.units+1 < cLine)(I:Inv X pins σ H s)(g:BK X.K H a y v H')(ry:RelV y u)(rv:RelV v r)(h:∀ s',Inv X pins σ H' s'→Q () s') :
  wpAny (model X.prog X.w) A (setItem (.ref a) u r) Q E s:=by
 rcases g with⟨kvs,k,e,ey,l,eH⟩|⟨kvs,k,b,e,ey,eb,l,eH⟩
 ·subst ey eH;obtain⟨z,hd,vs,rel,dd⟩:=aq2 I.cI e;have hz:vs.length≤sizeLine:=by rw[← rel.length];exact z
  have hl:(putK kvs k v).length≤sizeLine:=by have:=fh kvs k v;omega
  refine wpAny_setItem_pairs (hsz:=hz) (YR ry) dd fun h' dd' hs=>h _ ?_;have he:∃ q,h'.get? a=some q:=let ⟨q,_,_,hq,_⟩:=dd';⟨q,hq⟩
  exact SJ I (by rw[e];exact True.intro) hs he (apG hl hd (rel.put k rv) dd')
 ·subst ey eH;cases (show u=Value.ref b from ry);obtain⟨z,hd,xs,rel,dd⟩:=alY I.uM I.cI e;have hz:xs.length≤sizeLine:=by rw[← Paired.length rel];exact z
  have hl:(putK kvs k v).length≤sizeLine:=by have:=fh kvs k v;omega
  refine wpAny_setItem_heap (hsz:=hz) (as5 hu) (EU I.uM I.cI eb) dd fun h' dd' hs=>h _ ?_;obtain⟨q,es,ep,hq,h2,h3,h4,_,h5⟩:=dd';refine SJ I (by rw[e];exact True.intro) hs ⟨q,hq⟩ ⟨hl,hd,_,(rel.put k eb rv).keeps fun c ys ec=>?_,q,es,ep,hq,h2,h3,h4,h5⟩;rw[ak (ac6 ec e (fun z=>nomatch z))];exact ec
end
def aq3(i:Expr):Prop:=∀ ov iv,subscripted i false ov iv=operate [ov,iv] (getItem ov iv)
theorem anY{prog:Program}{w:World}{A:Around}{E:Value→Shared→Prop}{s:Shared}{env:Env}{value slice:Expr}{pos:Pos}{T id:String}{Q:Value→Shared→Prop}
  (hl:typeLookup (.type T) "__getitem__"=pure (some (.builtin id))) (hs:aq3 slice)
  (h:wpAny (model prog w) A (eval value env) (fun o s₁=>wpAny (model prog w) A (eval slice env) (fun i s₂=>s₂.TypeIs o T∧wpAny (model prog w) A (getItem o i) Q E s₂) E s₁) E s) :
  wpAny (model prog w) A (eval (.Subscript value slice pos) env) Q E s:=by
 refine Subscript_ (asL h (fun o s₁ h₁=>asL h₁ (fun i s₂ h₂=>?_) fun _ _ x=>x) fun _ _ x=>x);obtain⟨hT,h₂⟩:=h₂;unfold subscriptTail;refine adg ?_;rw[getitemInPython_of_ne hT.not_modules];refine adg (wpAny_specialOf hT hl ?_);have fin:wpAny (model prog w) A (subscripted slice false o i) (fun r s₃=>wpAny (model prog w) A (letTemporaryGo value o r >>= fun _=>pure r) Q E s₃) E s₂:=by
  rw[hs o i];exact wpAny_operating (asL h₂ (fun r s₃ h₃=>adg (wpAny_letTemporaryGo (alu h₃))) fun _ _ x=>x)
 first
  |exact alu (adg fin)
  |exact adg (alu (adg fin))
  |exact adg fin
theorem adq{X:Cx}{pins:List (Addr×Obj)}{σ:St}{H:Hp}{s:Shared}{a:Addr}{y:V}{o:Option V}(I:Inv X pins σ H s)(g:mP X.K H a y o):s.TypeIs (.ref a) "dict":=by
 rcases g with⟨kvs,k,e,_,_⟩|⟨kvs,k,b,e,_,_,_⟩
 ·obtain⟨_,_,vs,_,dd⟩:=Ub I.cI e;exact dd.typeIs
 ·obtain⟨_,_,xs,_,dd⟩:=K9 I.uM I.cI e;exact dd.typeIs
def zx29(K:Fg)(Q:VK)(x:V)(y:V)(H2:Hp):=fun a v=>(x=.ref a∧mP K H2 a y (some v)∧Q v H2)
def aiG(K:Fg)(td ty:TE):TE:=fun σ H Q=>td σ H fun x H1=>ty σ H1 fun y H2=>zx_2 (zx29 K Q x y H2)
def zx30(K:Fg)(Q:VK)(y:V)(x:V)(H2:Hp):=fun a o=>(x=.ref a∧mP K H2 a y o∧Q (.bl o.isSome) H2)
def aq4(K:Fg)(ty td:TE):TE:=fun σ H Q=>ty σ H fun y H1=>td σ H1 fun x H2=>zx_2 (zx30 K Q y x H2)
def zx31(K:Fg)(Q:VK)(y:V)(x:V)(H2:Hp):=fun a o=>(x=.ref a∧mP K H2 a y o∧Q (.bl (!o.isSome)) H2)
def anZ(K:Fg)(ty td:TE):TE:=fun σ H Q=>ty σ H fun y H1=>td σ H1 fun x H2=>zx_2 (zx31 K Q y x H2)
def zx32(K:Fg)(D:Ends)(σ:St)(v:V)(x:V)(y:V)(H3:Hp):=fun a H4=>(x=.ref a∧BK K H3 a y v H4∧D.nx σ H4)
def aq5(K:Fg)(td ty tv:TE):TS:=fun D σ H=>tv σ H fun v H1=>td σ H1 fun x H2=>ty σ H2 fun y H3=>zx_2 (zx32 K D σ v x y H3)
def zx33(K:Fg)(tv:TE)(rd:V→V→Hp→VK→Prop)(D:Ends)(σ:St)(x:V)(y:V)(H2:Hp):=fun a v=>(x=.ref a∧mP K H2 a y (some v)∧tv σ H2 fun y2 H3=>rd v y2 H3 fun z H4=>∃ H5,BK K H4 a y z H5∧D.nx σ H5)
def aq6(K:Fg)(td ty tv:TE)(rd:V→V→Hp→VK→Prop):TS:=fun D σ H=>td σ H fun x H1=>ty σ H1 fun y H2=>zx_2 (zx33 K tv rd D σ x y H2)
section
variable{X:Cx}{o i e value:Expr}{pos pos' tpos:Pos}{td ty tv:TE}
theorem kK(hu:X.A.units+1 < cLine)(ho:PE X o td)(hi:PE X i ty)(hs:aq3 i):PE X (.Subscript o i pos) (aiG X.K td ty):=by
 intro pins s σ H Q I h;refine anY PySem.F.slot_dict_getitem.lookup hs (gf (ho pins s σ H _ I h) fun u s1 ⟨x,H1,I1,rx,q1⟩=>gf (hi pins s1 σ H1 _ I1 q1) fun iv s2 ⟨y,H2,I2,ry,a,v,ex,g,q2⟩=>?_);subst ex;obtain rfl:u=Value.ref a:=rx;exact⟨adq I2 g,YS hu I2 g ry fun w' s3 I3 rw'=>⟨v,H2,I3,rw',q2⟩⟩
theorem agt(hu:X.A.units+1 < cLine)(hi:PE X i ty)(ho:PE X o td):PC X .In i o (aq4 X.K ty td):=by
 intro pins s σ H Q I h;refine gf (hi pins s σ H _ I h) fun iv s1 ⟨y,H1,I1,ry,q1⟩=>gf (ho pins s1 σ H1 _ I1 q1) fun u s2 ⟨x,H2,I2,rx,a,ov,ex,g,q2⟩=>?_;subst ex;obtain rfl:u=Value.ref a:=rx;exact asd hu I2 g ry fun s3 I3=>⟨.bl ov.isSome,H2,I3,rfl,q2⟩
theorem OA(hu:X.A.units+1 < cLine)(hi:PE X i ty)(ho:PE X o td):PC X .NotIn i o (anZ X.K ty td):=by
 intro pins s σ H Q I h;refine gf (hi pins s σ H _ I h) fun iv s1 ⟨y,H1,I1,ry,q1⟩=>gf (ho pins s1 σ H1 _ I1 q1) fun u s2 ⟨x,H2,I2,rx,a,ov,ex,g,q2⟩=>?_;subst ex;obtain rfl:u=Value.ref a:=rx;exact anX hu I2 g ry fun s3 I3=>⟨.bl (!ov.isSome),H2,I3,rfl,q2⟩
theorem o9(hu:X.A.units+1 < cLine)(ho:PE X o td)(hi:PE X i ty)(hv:PE X value tv)(hs:swapsWith value (some (.Subscript o i pos')) pos.line X.env=pure false) :
  PS X (.Assign [.Subscript o i pos'] value pos) (aq5 X.K td ty tv):=by
 intro pins s σ H D I h;refine wpAny_Assign_Subscript (gf (hv pins s σ H _ I h) fun r s1 ⟨v,H1,I1,rv,q1⟩=>gf (ho pins s1 σ H1 _ I1 q1) fun u s2 ⟨x,H2,I2,rx,q2⟩=>gf (hi pins s2 σ H2 _ I2 q2) fun iv s3 ⟨y,H3,I3,ry,a,H4,ex,g,q3⟩=>?_) hs;subst ex;obtain rfl:u=Value.ref a:=rx;exact YT hu I3 g ry rv fun s4 I4=>⟨σ,H4,I4,q3⟩
theorem an0{op:Operator}{rd:V→V→Hp→VK→Prop}(hu:X.A.units+1 < cLine)(ho:PE X o td)(hi:PE X i ty)(hv:PE X value tv)(hop:apx X op rd)
  (ha:∀ ov iv new,augStore i ov iv new=(do holding [new,ov,iv] (setItem ov iv new);release [new,ov,iv] [];pure .next)):PS X (.AugAssign (.Subscript o i tpos) op value pos) (aq6 X.K td ty tv rd):=by
 intro pins s σ H D I h;refine wpAny_AugAssign_SubscriptAny (gf (ho pins s σ H _ I h) fun u s1 ⟨x,H1,I1,rx,q1⟩=>gf (hi pins s1 σ H1 _ I1 q1) fun iv s2 ⟨y,H2,I2,ry,a,v,ex,g,q2⟩=>?_) ha;subst ex;obtain rfl:u=Value.ref a:=rx;refine YS hu I2 g ry fun w' s3 I3 rw'=>gf (hv pins s3 σ H2 _ I3 q2) fun w2 s4 ⟨y2,H3,I4,ry2,q3⟩=>gf (hop pins s4 σ H3 v y2 w' w2 _ I4 rw' ry2 q3) fun w3 s5 ⟨z,H4,I5,rz,H5,g5,q4⟩=>?_;exact YT hu I5 g5 ry rz fun s6 I6=>⟨σ,H5,I6,q4⟩
end
theorem ads{P:Program}{w:World}{K:Fg}{H:Hp}(h:Heap)(hb:sysModules < h.objs.size):iG P w K H (h.push { cls:=.type "dict",data:=.dict #[] }) h.objs.size (.dT []):=
 ⟨aqu _,arH.mpr (Ne.symm (arB hb)),[],.nil,_,#[],0,anF _ rfl,⟨rfl,rfl,rfl⟩,rfl,rfl,asQ⟩
def apH:TE:=fun _ H Q=>∀ p,H p=none→Q (.ref p) (upd H p (.dT []))
section
variable{X:Cx}{pos:Pos}
theorem wH:PE X (.Dict [] [] pos) apH:=fun pins s σ H Q I h=>
 wpAny_Dict_empty ⟨.ref s.heap.objs.size,_,I.laid (a:=s.heap.objs.size) (o:=.dT []) (t':=s.toks) (fun _ _ q=>akR _ q) (aiM _) (ads s.heap I.big),rfl,h _ (I.cI.fresh (aiM _))⟩
end
structure M1(X:Cx)(o:Expr)(m:Str)(apos:Pos)(e:Expr)(cpos:Pos):Prop where
 base:attributeBase o m X.env (eval o X.env)=eval o X.env
 Rv:((backTo cpos (starEach [e] X.env)).all (fun x=>!x.1) && (backToKw cpos (keywordEach [] X.env)).all (fun x=>x.1.isSome)
  && decide (([e]:List Expr).length+([]:List Keyword).length+(if ([]:List Keyword).isEmpty then 0 else 1) < 30))=true
 line:(apos.endLine == cpos.line)=true
 trees:backTo cpos (starEach [e] X.env)=[(false,eval e X.env)]
def IsD(H:Hp)(a:Addr):Prop:=(∃ kvs,Rd H a (.dK kvs))∨∃ kvs,Rd H a (.dT kvs)
theorem alZ{X:Cx}{pins:List (Addr×Obj)}{σ:St}{H:Hp}{s:Shared}{a:Addr}(I:Inv X pins σ H s)(d:IsD H a) :
  s.TypeIs (.ref a) "dict"∧(∀ b,Value.ref a=.ref b→∃ ob,s.heap.get? b=some ob∧ob.dict=none)∧(a == sysModules)=false:=by
 rcases d with⟨kvs,e⟩|⟨kvs,e⟩
 ·obtain⟨_,hd,vs,_,dd⟩:=Ub I.cI e;refine⟨dd.typeIs,fun b q=>?_,hd⟩;cases q;obtain⟨ob,_,_,h1,h2,_⟩:=dd;exact⟨ob,h1,h2.2.1⟩
 ·obtain⟨_,hd,xs,_,dd⟩:=K9 I.uM I.cI e;refine⟨dd.typeIs,fun b q=>?_,hd⟩;cases q;obtain⟨ob,_,_,h1,h2,_⟩:=dd;exact⟨ob,h1,h2.2.1⟩
section
variable{X:Cx}{pins:List (Addr×Obj)}{σ:St}{H:Hp}{s:Shared}{a:Addr}{y d:V}{u r:Value}{o:Option V}{A:Around}{E:Value→Shared→Prop}
theorem apI{Q:Value→Shared→Prop}(hu:A.units+1 < cLine)(I:Inv X pins σ H s)(g:mP X.K H a y o)(ry:RelV y u)(h:∀ w' s',Inv X pins σ H s'→RelV (o.getD .dN) w'→Q w' s') :
  wpAny (model X.prog X.w) A (call (.builtin "dict.get") [.ref a,u]) Q E s:=by
 rcases g with⟨kvs,k,e,ey,l⟩|⟨kvs,k,b,e,ey,eb,l⟩
 ·subst ey;obtain⟨z,hd,vs,rel,dd⟩:=Ub I.cI e;refine call_meetsIn PySem.F.slot_dict_get dd.typeIs PySem.F.entry_dict_get (PySem.F.args_dict_get_2 _ _) (meets_dict_get (i6 X.prog X.w) a (YR ry) hd) ⟨_,dd.mapOf,h _ _ (I.tok _) ?_⟩;rw[l];exact(rel.val k).getD rfl
 ·subst ey;cases (show u=Value.ref b from ry);obtain⟨z,hd,xs,rel,dd⟩:=K9 I.uM I.cI e;refine call_meetsIn PySem.F.slot_dict_get dd.typeIs PySem.F.entry_dict_get (PySem.F.args_dict_get_2 _ _) (meetsH_dict_get (tupleKind (i6 X.prog X.w)) a b hd) ⟨as5 hu,k,xs,EU I.uM I.cI eb,dd,h _ _ (I.tok _) ?_⟩;rw[l];exact(rel.val k).getD rfl
end
def zx34(K:Fg)(ty:TE)(σ:St)(Q:VK)(x:V)(H1:Hp):=fun a=>(x=.ref a∧IsD H1 a∧ty σ H1 fun y H2=>∃ o,mP K H2 a y o∧Q (o.getD .dN) H2)
def apJ(K:Fg)(td ty:TE):TE:=fun σ H Q=>td σ H fun x H1=>Exists (zx34 K ty σ Q x H1)
section
variable{X:Cx}{o e f:Expr}{apos cpos:Pos}{td ty tx:TE}
theorem al0(hu:X.A.units+1 < cLine)(ho:PE X o td)(he:PE X e ty)(m:M1 X o "get" apos e cpos):PE X (.Call (.Attribute o "get" apos) [e] [] cpos) (apJ X.K td ty):=by
 intro pins s σ H Q I h;refine wpAny_Call_method m.base m.Rv m.line PySem.F.plainAttrs_dict PySem.F.slot_dict_get PySem.F.type_dict_get (gf (ho pins s σ H _ I h) fun u s1 ⟨x,H1,I1,rx,a,ex,d,q1⟩=>?_);subst ex;obtain rfl:u=Value.ref a:=rx;obtain⟨t1,t2,_⟩:=alZ I1 d;refine⟨t1,t2,?_⟩;rw[m.trees];refine ats rfl (Calls.evalArgs_plain (atG (gf (he pins s1 σ H1 _ I1 q1) fun iv s2 ⟨y,H2,I2,ry,ov,g,q2⟩=>Calls.spliced_nil ?_)));exact apI hu I2 g ry fun w' s3 I3 rw'=>⟨_,H2,I3,rw',q2⟩
end
theorem EV:bootBuiltins "reversed"=some (.type "reversed"):=by decide +kernel
section
variable{X:Cx}{pins:List (Addr×Obj)}{σ:St}{H:Hp}{s:Shared}{h':Heap}
theorem Inv.ajP{t':Nat}{ch:List Addr}{T:Addr}{ob:HO}(I:Inv X pins σ H s)(k:∀ b o,b∉ch→s.heap.get? b=some o→h'.get? b=some o)(hf:∀ b∈ch,TX X pins H b)(hT:s.heap.objs.size≤T)
  (new:iG X.prog X.w X.K (upd H T ob) h' T ob):Inv X pins σ (upd H T ob) { s with heap:=h',toks:=t' }:=by
 have hn:H T=none:=I.cI.fresh hT;have nit:∀ b u,H b=some u→b∉ch:=fun b u e z=>by
  have q:=(hf b z).1;rw[q] at e;cases e
 refine I.step (g':=s.gens) (d':=s.drawn) (ch:=ch) (fun b hb=>⟨(hf b hb).2.2.2.1,(hf b hb).2.1,(hf b hb).2.2.2.2.1,(hf b hb).2.2.2.2.2⟩) (fun b o _ _ hc e _=>k b o hc e) (fun b o _ _ hc e _=>⟨o.slots,k b o hc e⟩)
  (fun b o _ e n=>?_) (fun b o hc e=>⟨o,k b o hc e⟩) (fun b xs e=>?_) (fun b o u e=>?_) (fun b ps e=>⟨#[],?_⟩) (fun m hm=>?_) (fun b u e=>?_) I.bare
 ·rw[ak (arB (apb (anR e) hT))];exact n
 ·rw[ak (au e hn)];exact e
 ·rw[ak (au e hn)];exact e
 ·rw[ak (au e hn),e];simp
 ·obtain⟨o,es,ep,ho,r⟩:=hm;exact⟨o,es,ep,k _ o (fun z=>(hf _ z).2.1 rfl) ho,r⟩
 ·by_cases hb:b=T
  ·subst hb;rw[ae] at e;cases e;exact new
  ·rw[ak hb] at e;refine(I.cI b u e).Z5 (fun c v hc q=>k c v ?_ q) (fun c q=>by rw[ak (au q hn)];exact q) fun c xs q=>by rw[ak (au q hn)];exact q
   rcases hc with z|z
   ·rw[z];exact nit b u e
   ·exact nit c _ z
theorem Inv.lock{d:Addr}{u:HO}(I:Inv X pins σ H s)(h:H d=some u)(mu:Mut (some u)):∃ od,Inv X pins σ (upd H d (.uD od u)) s:=by
 have x:=I.cI d u h;have ex:∃ od,s.heap.get? d=some od:=by
  cases u with
  |lst xs=>obtain⟨_,_,_,_,e⟩:=x;exact⟨_,e⟩
  |dK kvs=>obtain⟨_,_,_,_,o,_,_,e,_⟩:=x;exact⟨o,e⟩
  |dT kvs=>obtain⟨_,_,_,_,o,_,_,e,_⟩:=x;exact⟨o,e⟩
  |set S n=>obtain⟨o,_,_,_,e,_⟩:=x;exact⟨o,e⟩
  |ins C dx fs=>obtain⟨_,_,_,e,_⟩:=x;exact⟨_,e⟩
  |ext φ=>obtain⟨_,⟨_,e⟩,_⟩:=x;exact⟨_,e⟩
  |_=>exact False.elim mu
 obtain⟨od,e⟩:=ex;have new:iG X.prog X.w X.K (upd H d (.uD od u)) s.heap d (.uD od u):=by
  refine⟨e,x.Z5 (fun b v _ q=>q) (fun b q=>?_) fun b xs q=>?_⟩
  ·rw[ak (fun z=>by rw[z,h] at q;cases q;exact mu)];exact q
  ·rw[ak (fun z=>by rw[z,h] at q;cases q;exact mu)];exact q
 exact⟨od,I.write (x:=d) (e:=d) (t':=s.toks) (h':=s.heap) (by rw[h];exact mu) (.inl rfl) (fun b v _ q=>q) ⟨od,e⟩ new⟩
theorem Inv.aiH{d:Addr}{u:HO}(I:Inv X pins σ H s)(h:H d=some u)(mu:Mut (some u)):∀ o' u',X.H_0 d≠some (.uD o' u'):=fun o' u' e=>by
 have q:=I.base.TQ d o' u' e;rw[h] at q;cases q;exact mu
theorem Inv.unlock{d:Addr}{od:Obj}{u:HO}(I:Inv X pins σ H s)(h:H d=some (.uD od u))(hn:∀ o' u',X.H_0 d≠some (.uD o' u')):Inv X pins σ (upd H d u) s:=by
 have neH:∀ b o,H b=some o→(∀ o' u',o≠.uD o' u')→b≠d:=fun b o e hne z=>by
  rw[z,h] at e;cases e;exact hne _ _ rfl
 have neN:∀ b,H b=none→b≠d:=fun b e z=>by rw[z,h] at e;cases e
 refine⟨I.ok,I.os,I.bare,⟨I.base.keep,I.base.slot,fun b o e n hx=>?_,I.base.there,fun b xs e=>?_,fun b o x e=>?_,fun b ps e=>?_⟩,I.loc,I.cell,?_,fun x c e=>?_,fun p hp=>?_,fun b o e=>?_,I.len⟩
 ·rw[ak (neN b (I.base.free b o e n hx))];exact I.base.free b o e n hx
 ·have q:=I.base.Ol b xs e;rw[ak (neH b _ q (fun _ _ z=>nomatch z))];exact q
 ·have q:=I.base.TQ b o x e;rw[ak (fun z=>by rw[z] at e;exact hn _ _ e)];exact q
 ·obtain⟨m,q⟩:=I.base.Z6 b ps e;exact⟨m,by rw[ak (neH b _ q (fun _ _ z=>nomatch z))];exact q⟩
 ·rw[ak (neN _ I.free)];exact I.free
 ·rw[ak (neN c (I.Ah x c e))];exact I.Ah x c e
 ·obtain⟨e,n,r⟩:=I.pin p hp;exact⟨e,by rw[ak (neN _ n)];exact n,r⟩
 ·by_cases hb:b=d
  ·rw[hb,ae] at e;cases e;rw[hb];obtain⟨_,x⟩:=I.cI d _ h;exact x.Z5 (fun c v _ q=>q) (fun c q=>by rw[ak (neH c _ q (fun _ _ z=>nomatch z))];exact q) fun c xs q=>by rw[ak (neH c _ q (fun _ _ z=>nomatch z))];exact q
  ·rw[ak hb] at e;exact(I.cI b o e).Z5 (fun c v _ q=>q) (fun c q=>by rw[ak (neH c _ q (fun _ _ z=>nomatch z))];exact q) fun c xs q=>by rw[ak (neH c _ q (fun _ _ z=>nomatch z))];exact q
end
def aq7(t:TS):TS:=fun D σ H=>∃ d u,H d=some u∧Mut (some u)∧∀ od,t ⟨fun σ' H'=>H' d=some (.uD od u)∧D.nx σ' (upd H' d u),fun v H'=>H' d=some (.uD od u)∧D.rt v (upd H' d u),fun σ' H'=>H' d=some (.uD od u)∧D.bk σ' (upd H' d u),fun σ' H'=>H' d=some (.uD od u)∧D.ct σ' (upd H' d u)⟩ σ (upd H d (.uD od u))
section
variable{X:Cx}
theorem an1{st:Stmt}{t:TS}(h:PS X st t):PS X st (aq7 t):=by
 intro pins s σ H D I hw;obtain⟨d,u,hd,mu,hw⟩:=hw;obtain⟨od,I1⟩:=I.lock hd mu;refine gf (h pins s σ _ _ I1 (hw od)) fun f s1 q=>?_;cases f with
 |next=>obtain⟨σ',H',I2,e,q⟩:=q;exact⟨σ',_,I2.unlock e (I.aiH hd mu),q⟩
 |brk=>obtain⟨σ',H',I2,e,q⟩:=q;exact⟨σ',_,I2.unlock e (I.aiH hd mu),q⟩
 |cont=>obtain⟨σ',H',I2,e,q⟩:=q;exact⟨σ',_,I2.unlock e (I.aiH hd mu),q⟩
 |ret v=>obtain⟨x,σ',H',I2,r,e,q⟩:=q;exact⟨x,σ',_,I2.unlock e (I.aiH hd mu),r,q⟩
theorem Uc{tg:Expr}{pins:List (Addr×Obj)}{σ:St}{H:Hp}{s:Shared}{R:It→Hp→Prop}{J:It}{tn:Nat→Heap→Prop}{tk:Nat}(I:Inv X pins σ H s)(o:Obj)
  (T:Turn X.prog X.w X.K tg J [s.heap.objs.size] s.heap.objs.size tn) (st:tn 0 (s.heap.push o)) (q:R J H):PIE X pins σ tg R (.ref s.heap.objs.size) { s with heap:=s.heap.push o,toks:=tk }:=by
 refine⟨s.heap.objs.size,[s.heap.objs.size],tn,J,H,rfl,I.kept fun b ob e=>akR _ e,T,st,fun b hb=>?_,q⟩;have e:b=s.heap.objs.size:=by simpa using hb
 subst e;exact I.ajD (aiM _) (I.cI.fresh (aiM _))
end
def Itv(K:Fg)(a:Addr)(n:Nat):It:=
 ⟨fun i H=>i < n∧∃ (xs:List V) (x:V),cJ K H a xs∧xs[n - 1 - i]?=some x,fun i H x H'=>H'=H∧∀ xs,cJ K H a xs→xs[n - 1 - i]?=some x,fun i _=>n≤i⟩
theorem al1{P:Program}{w:World}{K:Fg}{tg:Expr}(a it:Addr)(n:Nat):Turn P w K tg (Itv K a n) [it] it (fun i h=>i≤n∧h.IsRevIter it a ((n:Int) - 1 - (i:Nat))) where
 mem:=by simp
 obj:=fun i h st b hb=>by
  have e:b=it:=by simpa using hb
  subst e;obtain⟨_,o,e,c,d⟩:=st;exact⟨o,e,fun v z=>by rw[d] at z;cases z⟩
 keep:=fun i h h' st k=>⟨st.1,st.2.at fun o e=>k it (by simp) o e⟩
 item:=by
  intro X hP hw hK hc i pins s σ H E I hf st hg;subst hP hw hK;obtain⟨hin,xs,x,hq,hx⟩:=hg;obtain⟨its,rv,p,hz⟩:=I.list hq;obtain⟨u,hu,ru⟩:=rv.get hx;obtain⟨f0,f1,f2,f3,f4,f5⟩:=hf it (by simp);obtain⟨_,hit⟩:=st;have e1:(n:Int) - 1 - ((i:Nat):Int)=((n - 1 - i:Nat):Int):=by omega
  rw[e1] at hit;refine wpAny_pyNext_rev_item hit p.isList (x:=u) (by simpa using hu) fun h' st' sb=>?_;have e2:((n - 1 - i:Nat):Int) - 1=(n:Int) - 1 - ((i+1:Nat):Int):=by omega
  rw[e2] at st';have I1:Inv X pins σ H { s with heap:=h' }:=I.turned (t':=s.toks) (fun b o hb e=>(sb.2 b hb).trans e) f0 f1 f3 f4 f5;obtain⟨o,e,c,d⟩:=id st';exact⟨u,rfl,TY (s:={ s with heap:=h' }) e c d (by decide) ⟨x,H,I1,ru,⟨rfl,fun ys hy=>by rw[I.ac7 hy hq];exact hx⟩,⟨hin,st'⟩,fun b hb=>(hf b hb).1⟩⟩
 done:=by
  intro X hP hw hK hc i pins s σ H E I hf st hg;subst hP hw hK;obtain⟨f0,f1,f2,f3,f4,f5⟩:=hf it (by simp);obtain⟨hin,hit⟩:=st;have hge:n≤i:=hg;have e1:(n:Int) - 1 - ((i:Nat):Int)=-1:=by omega
  rw[e1] at hit;exact wpAny_pyNext_rev_end (I.ok.hd hc) hit fun h' eb=>⟨rfl,I.turned (t':=s.toks) (fun b o hb e=>eb b o hb e) f0 f1 f3 f4 f5⟩
 self:=fun A i s Q E st h=>wpAny_pyIter_revIter st.2 h
def zx35(K:Fg)(R:It→Hp→Prop)(vs:List V)(H1:Hp):=fun(a:Addr) (xs:List V)=>(vs=[.ref a]∧cJ K H1 a xs∧R (Itv K a xs.length) H1)
def asf(K:Fg)(ta:TA):TI:=fun σ H R=>ta σ H fun vs H1=>zx_2 (zx35 K R vs H1)
section
variable{X:Cx}{tg:Expr}
theorem adt{e:Expr}{ta:TA}{p pos:Pos}(hg:Gl X "reversed")(hm:X.mg "reversed"=none)(ha:PA X [e] ta)(hs:starEach [e] X.env=[(false,eval e X.env)]:=by rfl):PI X tg (.Call (.Name "reversed" p) [e] [] pos) (asf X.K ta):=by
 intro pins s σ H R I h;refine Call_ (Jh I hg hm EV (asJ (gf (ha pos pins s σ H _ I h) fun us s1 ⟨vs,H1,I1,r1,q1⟩=>?_) hs rfl));obtain⟨a,xs,e,hq,q⟩:=q1;subst e;cases r1 with
 |cons r rr=>
  cases rr;cases r;obtain⟨its,rv,p',hz⟩:=I1.list hq;have hl:=rv.length;have e1:((its.toArray.size:Nat):Int) - 1=(xs.length:Int) - 1 - ((0:Nat):Int):=by simp only[anq];omega
  refine call_reversed_list p'.isList (wpAny_pyIter_revIter (l:=a) (i:=((its.toArray.size:Nat):Int) - 1) ⟨_,anF _ rfl,rfl,rfl⟩ ?_);refine Uc (tk:=s1.toks) I1 _ (al1 a _ xs.length) ⟨aqu _,?_⟩ q;rw[← e1];exact⟨_,anF _ rfl,rfl,rfl⟩
end
def Its(x:Str):It:=⟨fun i _=>i < x.cps.size,fun i H v H'=>H'=H∧∃ c,x.cps[i]?=some c∧v=.str ⟨#[c]⟩,fun i _=>x.cps.size≤i⟩
theorem adu{P:Program}{w:World}{K:Fg}{tg:Expr}(it:Addr)(x:Str)(t:Tok)(ty:String)(hty:ty="str_ascii_iterator"∨ty="str_iterator") :
  Turn P w K tg (Its x) [it] it (fun i h=>h.IsStrIter it ty x t i) where
 mem:=by simp
 obj:=fun i h st b hb=>by
  have e:b=it:=by simpa using hb
  subst e;obtain⟨o,e,c,d⟩:=st;exact⟨o,e,fun v z=>by rw[d] at z;cases z⟩
 keep:=fun i h h' st k=>let ⟨o,ho,r⟩:=st;⟨o,k it (by simp) o ho,r⟩
 item:=by
  intro X hP hw hK hc i pins s σ H E I hf st hg;subst hP hw hK;obtain⟨f0,f1,f2,f3,f4,f5⟩:=hf it (by simp);have W:Walks X.prog X.w X.A it [it] [it] x.cps.size (SignAt x) (fun i h=>h.IsStrIter it ty x t i):=by
   rcases hty with e|e
   ·rw[e];exact Walks.strAscii (I.ok.hd hc) it x t
   ·rw[e];exact Walks.strWide (I.ok.hd hc) it x t
  have hno:["enumerate","zip","dict_itemiterator","dict_reverseitemiterator","odict_iterator","itertools.zip_longest","itertools.pairwise"].contains ty=false:=by
   rcases hty with e|e
   ·rw[e];decide
   ·rw[e];decide
  refine W.item i s _ _ hg st fun v h' tk hv st' kk=>?_;obtain⟨c,u,hcx,rfl⟩:=hv;have I1:Inv X pins σ H { s with heap:=h',toks:=tk }:=I.turned (fun b o hb e=>kk b o (by simpa using hb) e) f0 f1 f3 f4 f5;obtain⟨oi,e,cc,dd⟩:=id st';exact⟨_,rfl,TY (s:={ s with heap:=h',toks:=tk }) e cc dd hno ⟨.str ⟨#[c]⟩,H,I1,⟨u,rfl⟩,⟨rfl,c,hcx,rfl⟩,st',fun b hb=>(hf b hb).1⟩⟩
 done:=by
  intro X hP hw hK hc i pins s σ H E I hf st hg;subst hP hw hK;obtain⟨f0,f1,f2,f3,f4,f5⟩:=hf it (by simp);have hx:x.cps[i]?=none:=Array.getElem?_eq_none hg;rcases hty with e|e
  ·rw[e] at st;exact wpAny_pyNext_ascii_end (I.ok.hd hc) st hx fun h' eb=>⟨rfl,I.turned (t':=s.toks) (fun b o hb e=>eb b o hb e) f0 f1 f3 f4 f5⟩
  ·rw[e] at st;exact wpAny_pyNext_wide_end (I.ok.hd hc) st hx fun h' eb=>⟨rfl,I.turned (t':=s.toks) (fun b o hb e=>eb b o hb e) f0 f1 f3 f4 f5⟩
 self:=fun A i s Q E st h=>by
  rcases hty with e|e
  ·rw[e] at st;exact wpAny_pyIter_striter_ascii st h
  ·rw[e] at st;exact wpAny_pyIter_striter_wide st h
def ash(te:TE):TI:=fun σ H R=>te σ H fun v H1=>∃ x,v=.str x∧R (Its x) H1
theorem apK{X:Cx}{tg e:Expr}{te:TE}(he:PE X e te):PI X tg e (ash te):=by
 intro pins s σ H R I h;refine gf (he pins s σ H _ I h) fun v s1 ⟨y,H1,I1,r1,x,ex,q⟩=>?_;subst ex;obtain⟨t,rfl⟩:=r1;cases ha:x.cps.all (· < 128)
 ·exact wpAny_pyIter_wide ha (Uc (tk:=s1.toks) I1 _ (adu _ x t "str_iterator" (.inr rfl)) ⟨_,anF _ rfl,rfl,rfl⟩ q)
 ·exact wpAny_pyIter_ascii ha (Uc (tk:=s1.toks) I1 _ (adu _ x t "str_ascii_iterator" (.inl rfl)) ⟨_,anF _ rfl,rfl,rfl⟩ q)
section
variable{prog:Program}{w:World}{A:Around}{E:Value→Shared→Prop}{s:Shared}
theorem OB{d:Addr}{o:Obj}{es:Array DictEntry}{ep:Nat}{Q:Value→Shared→Prop}(hd:(d == sysModules)=false)(ho:s.heap.get? d=some o)(hc:o.ExactDict)(hdat:o.data=.dict es ep)
  (hQ:Q (.ref s.heap.objs.size) { s with heap:=s.heap.push { cls:=.type "dict_keyiterator",data:=.fields #[.ref d,.int 0 0,.int es.size 0,.int ep 0] } }) :
  wpAny (model prog w) A (pyIter (.ref d)) Q E s:=by
 have hT:s.TypeIs (.ref d) "dict":=⟨o,ho,hc.1⟩;refine wpAny_pyIter_slot hT F.slot_dict_iter (atg F.slot_dict_iter hT F.entry_dict_iter ?_ (F.args_dict_iter_1 _));unfold Builtin.«dict.__iter__»;refine adg ?_;unfold Builtin.Dict.dictSlotNone;refine adg (wpAny_notOrdered_dict hT ?_);show wpAny _ _ (pure (Value.ref d)) _ _ s;refine alu ?_;show wpAny _ _ (Builtin.Dict.showsAll d >>= _) _ _ s;unfold Builtin.Dict.showsAll;rw[acK (by rw[hd];exact ak7)];refine adg (alu ?_);refine adg (atc ho hdat ?_);refine adg (wpAny_dictEpoch ho hdat ?_);refine adg (wpAny_newObj_type (alu ⟨_,rfl,"dict_keyiterator",_,⟨_,anF _ rfl,rfl⟩,ar5.lookup,?_⟩));simpa [rawInt] using hQ
theorem Iq{it d:Addr}{i n ep:Nat}{od:Obj}{es:Array DictEntry}{en:DictEntry}{Q:Option Value→Shared→Prop}(hit:s.heap.IsKeyIter it d i n ep)(hod:s.heap.get? d=some od)(hdd:od.data=.dict es ep)
  (hsz:es.size=n) (hx:es[i]?=some en) (hQ:∀ h',h'.IsKeyIter it d (i+1) n ep→Heap.SameBut it s.heap h'→Q (some en.key) { s with heap:=h' }):wpAny (model prog w) A (pyNext (.ref it)) Q E s:=by
 obtain⟨o,ho,hc,hd⟩:=id hit;unfold pyNext;refine adg (wpAny_attempt (wpAny_callSpecial?_slot (name:=Str.ofString "__next__") hit.typeIs ar5
  (atg ar5 hit.typeIs F.entry_dict_keyiterator_next ?_ (F.args_dict_keyiterator_next_1 _))))
 refine adg (alu ?_);refine adg ?_;refine adg ?_
 first|refine adg (asY hit.typeIs (alu ?_))|refine adg (ath hit.typeIs (alu ?_))
 refine adg (wpAny_fieldsOf ho hd ?_);have hown:Builtin.Dict_items.ownsTuple "dict_keyiterator"=false:=by decide
 simp only[hown,asD,atd];show wpAny _ _ (if (Value.ref d == Value.none)=true then _ else _) _ _ s;rw[acK (show ¬ ((Value.ref d == Value.none)=true) from ak7)];refine adg (alu ?_);refine adg (atc hod hdd ?_);rw[acK (by rw[hsz];simp)];refine adg (alu ?_);refine adg (wpAny_dictEpoch hod hdd ?_);rw[acK (by simp)];refine alu ?_;obtain⟨hlt',hen⟩:=Array.getElem?_eq_some_iff.mp hx;simp only[show ¬ ((i:Int) < 0) from by omega,atd,att,atE hlt'];refine adg ?_
 first|refine adg (asY hit.typeIs (alu ?_))|refine adg (ath hit.typeIs (alu ?_))
 refine adg (wpAny_isOneOf_keyiter hit.typeIs ?_);show wpAny _ _ (setField (.ref it) 1 (rawInt ((i:Int)+1)) >>= _) _ _ s;refine adg (wpAny_setField ho hd (by simp) ?_);have hit':(s.heap.update it (Obj.mapFields (·.setIfInBounds 1 (rawInt ((i:Int)+1))))).IsKeyIter it d (i+1) n ep:=
  ⟨_,atw _ ho (Obj.isFreed_of_fields (Obj.data_mapFields hd _)),(Obj.cls_mapFields ..).trans hc,by rw[Obj.data_mapFields hd];simp[rawInt]⟩
 refine adg (asM ?_);refine adg (wpAny_isOneOf_keyiter (s:={ s with heap:=s.heap.update it (Obj.mapFields (·.setIfInBounds 1 (rawInt ((i:Int)+1)))) }) hit'.typeIs ?_);show wpAny _ _ (pure es[i].key) _ _ _;rw[hen];exact alu (alu ⟨_,rfl,alu (hQ _ hit' (atA ..))⟩)
theorem BL{it d:Addr}{i n ep:Nat}{od:Obj}{es:Array DictEntry}{Q:Option Value→Shared→Prop}(hh:A.handled=none)(hit:s.heap.IsKeyIter it d i n ep)(hod:s.heap.get? d=some od)(hdd:od.data=.dict es ep)
  (hsz:es.size=n) (hge:n≤i) (hQ:∀ h',Heap.ExtBut it s.heap h'→Q none { s with heap:=h' }):wpAny (model prog w) A (pyNext (.ref it)) Q E s:=by
 obtain⟨o,ho,hc,hd⟩:=id hit;unfold pyNext;refine adg (wpAny_attempt (wpAny_callSpecial?_slot (name:=Str.ofString "__next__") hit.typeIs ar5
  (atg ar5 hit.typeIs F.entry_dict_keyiterator_next ?_ (F.args_dict_keyiterator_next_1 _))))
 refine adg (alu ?_);refine adg ?_;refine adg ?_
 first|refine adg (asY hit.typeIs (alu ?_))|refine adg (ath hit.typeIs (alu ?_))
 refine adg (wpAny_fieldsOf ho hd ?_);have hown:Builtin.Dict_items.ownsTuple "dict_keyiterator"=false:=by decide
 simp only[hown,asD,atd];show wpAny _ _ (if (Value.ref d == Value.none)=true then _ else _) _ _ s;rw[acK (show ¬ ((Value.ref d == Value.none)=true) from ak7)];refine adg (alu ?_);refine adg (atc hod hdd ?_);rw[acK (by rw[hsz];simp)];refine adg (alu ?_);refine adg (wpAny_dictEpoch hod hdd ?_);rw[acK (by simp)];refine alu ?_;have hge':es.size≤i:=by rw[hsz];exact hge
 simp only[show ¬ ((i:Int) < 0) from by omega,atd,att,Array.getElem?_eq_none hge'];refine adg ?_
 first|refine adg (asY hit.typeIs (alu ?_))|refine adg (ath hit.typeIs (alu ?_))
 show wpAny _ _ (setField (.ref it) 0 .none >>= _) _ _ s;refine adg (wpAny_setField ho hd (by simp) ?_);show wpAny _ _ (newExc (.type "StopIteration") [] >>= _) _ _ _;refine adg ?_;simp only[newExc,newTuple];refine adg (wpAny_newObj_type ?_ (by size_fits));refine adg (m:=firstArgMember _ _) (wpAny_of_eq (a:=Value.none) (by first|rfl|(simp only[firstArgMember];rfl)) ?_);refine wpAny_newObj_type ?_ (by size_fits);simp only[raiseNew];refine adg (wpAny_handled ?_);rw[show A.in1.handled=none from hh];refine adg (alu (wpAny_throw ?_));refine adg (wpAny_isInstance (T:="StopIteration") (b:=true) ⟨_,anF _ rfl,rfl⟩ isSubtype_stop ?_);exact alu (hQ _ (((atA ..).extBut.push _).push _))
end
theorem apL{κ:Type}{kvs:List (κ×V)}{vs:List (κ×Value)}(h:KV kvs vs):∀ {i:Nat} {k:κ} {v:V},kvs[i]?=some (k,v)→∃ u,vs[i]?=some (k,u)∧RelV v u:=by
 unfold KV at h;induction h with
 |nil=>intro i k v e;simp at e
 |@cons a b l₁ l₂ r t ih=>
  intro i k v e;cases i with
  |zero=>
   simp only[ato,Option.some.injEq] at e;subst e;refine⟨b.2,?_,r.2⟩;simp only[ato];exact arD some (Prod.ext r.1.symm rfl)
  |succ j=>
   simp only[asZ] at e ⊢;exact ih e
theorem agu{α β:Type}{G:α→β→Prop}{l₁:List α}{l₂:List β}(h:Paired G l₁ l₂):∀ {i:Nat} {a:α},l₁[i]?=some a→∃ b,l₂[i]?=some b∧G a b:=by
 induction h with
 |nil=>intro i a e;simp at e
 |@cons a b l₁ l₂ r t ih=>
  intro i a' e;cases i with
  |zero=>
   simp only[ato,Option.some.injEq] at e;subst e;exact⟨b,rfl,r⟩
  |succ j=>
   simp only[asZ] at e ⊢;exact ih e
theorem al2{k:Key}{u:Value}(h:QH k u=true):RelV (kV k) u:=by
 rcases iF h with⟨i,t,rfl,rfl⟩|⟨x,t,rfl,rfl⟩
 ·exact⟨t,rfl⟩
 ·exact⟨t,rfl⟩
section
variable{X:Cx}{pins:List (Addr×Obj)}{σ:St}{H:Hp}{s:Shared}{d:Addr}{o:Obj}
theorem Inv.apM{kvs:List (Key×V)}(I:Inv X pins σ H s)(h:H d=some (.uD o (.dK kvs))) :
  (d == sysModules)=false∧s.heap.get? d=some o∧o.ExactDict∧∃ (es:Array DictEntry) (ep:Nat) (vs:List (Key×Value)),o.data=.dict es ep∧es.size=kvs.length∧KV kvs vs∧s.heap.DictAt (i6 X.prog X.w) d vs ep:=by
 obtain⟨hd,z,hs,vs,kv,o',es,ep,ho,hx,hdt,r⟩:=I.cI d _ h;rw[hd] at ho;cases ho;refine⟨hs,hd,hx,es,ep,vs,hdt,?_,kv,o,es,hd,hx,hdt,r⟩;have l1:=r.2.1.length;have l2:kvs.length=vs.length:=Paired.length kv;rw[atz] at l1;omega
theorem Inv.apN{kvs:List (List Key×V)}(I:Inv X pins σ H s)(h:H d=some (.uD o (.dT kvs))) :
  (d == sysModules)=false∧s.heap.get? d=some o∧o.ExactDict∧∃ (es:Array DictEntry) (ep:Nat),o.data=.dict es ep∧es.size=kvs.length∧
   ∀ (i:Nat) (k:List Key) (v:V),kvs[i]?=some (k,v)→∃ (en:DictEntry) (q:Addr),es[i]?=some en∧en.key=.ref q∧TupAt X.K H q (k.map kV):=by
 obtain⟨hd,z,hs,xs,pr,o',es,ep,ho,hx,hdt,he,_⟩:=I.cI d _ h;rw[hd] at ho;cases ho;refine⟨hs,hd,hx,es,ep,hdt,?_,fun i k v e=>?_⟩
 ·have l1:es.size=xs.length:=as9 he;have l2:kvs.length=xs.length:=Paired.length pr;omega
 ·obtain⟨b,hb,e1,e2,_⟩:=agu pr e;have q:=entry_at he i;rw[hb] at q;exact⟨_,b.2.1,q,rfl,e2⟩
end
def Itk(d:Addr)(o:Obj)(kvs:List (Key×V)):It:=
 ⟨fun i H=>H d=some (.uD o (.dK kvs))∧i < kvs.length,fun i H x H'=>H'=H∧∃ k v,kvs[i]?=some (k,v)∧x=kV k,fun i H=>H d=some (.uD o (.dK kvs))∧kvs.length≤i⟩
def al3(K:Fg)(d:Addr)(o:Obj)(kvs:List (List Key×V)):It:=
 ⟨fun i H=>H d=some (.uD o (.dT kvs))∧i < kvs.length,fun i H x H'=>H'=H∧∃ (k:List Key) (v:V) (q:Addr),kvs[i]?=some (k,v)∧x=.ref q∧TupAt K H q (k.map kV),fun i H=>H d=some (.uD o (.dT kvs))∧kvs.length≤i⟩
theorem SK{o:Obj}{es es':Array DictEntry}{ep ep':Nat}(h:o.data=.dict es ep)(h':o.data=.dict es' ep'):es'=es∧ep'=ep:=by
 rw[h] at h';cases h';exact⟨rfl,rfl⟩
section
variable{P:Program}{w:World}{K:Fg}{tg:Expr}{d:Addr}{o:Obj}{es:Array DictEntry}{ep:Nat}
theorem ajQ{kvs:List (Key×V)}(it:Addr)(hod:o.data=.dict es ep):Turn P w K tg (Itk d o kvs) [it] it (fun i h=>h.IsKeyIter it d i kvs.length ep) where
 mem:=by simp
 obj:=fun i h st b hb=>by
  have e:b=it:=by simpa using hb
  subst e;obtain⟨oi,e,c,dd⟩:=st;exact⟨oi,e,fun v z=>by rw[dd] at z;cases z⟩
 keep:=fun i h h' st k=>st.at fun oi e=>k it (by simp) oi e
 item:=by
  intro X hP hw hK hc i pins s σ H E I hf st hg;subst hP hw hK;obtain⟨hd,hi⟩:=hg;obtain⟨f0,f1,f2,f3,f4,f5⟩:=hf it (by simp);obtain⟨hs,hgd,hx,es',ep',vs,hdt,hsz,kv,hm⟩:=I.apM hd;obtain⟨rfl,rfl⟩:=SK hod hdt;obtain⟨⟨k,v⟩,hkv⟩:∃ p,kvs[i]?=some p:=⟨kvs[i],aqw hi⟩;obtain⟨u,hu,ru⟩:=apL kv hkv;have hl:kvs.length=vs.length:=Paired.length kv;rw[hl] at st;refine wpAny_pyNext_dict_item st hm hu fun key h' hkey st' sb=>?_;have I1:Inv X pins σ H { s with heap:=h' }:=I.turned (t':=s.toks) (fun b ob hb e=>(sb.2 b hb).trans e) f0 f1 f3 f4 f5;obtain⟨oi,e,c,dd⟩:=id st';refine⟨key,rfl,TY (s:={ s with heap:=h' }) e c dd (by decide) ⟨kV k,H,I1,al2 (show QH k key=true from hkey),⟨rfl,k,v,hkv,rfl⟩,?_,fun b hb=>(hf b hb).1⟩⟩;show h'.IsKeyIter it d (i+1) kvs.length _;rw[hl];exact st'
 done:=by
  intro X hP hw hK hc i pins s σ H E I hf st hg;subst hP hw hK;obtain⟨hd,hi⟩:=hg;obtain⟨f0,f1,f2,f3,f4,f5⟩:=hf it (by simp);obtain⟨hs,hgd,hx,es',ep',vs,hdt,hsz,kv,hm⟩:=I.apM hd;obtain⟨rfl,rfl⟩:=SK hod hdt;exact BL (I.ok.hd hc) st hgd hdt hsz hi fun h' eb=>⟨rfl,I.turned (t':=s.toks) (fun b ob hb e=>eb b ob hb e) f0 f1 f3 f4 f5⟩
 self:=fun A i s Q E st h=>wpAny_pyIter_keyiter st h
theorem agv{kvs:List (List Key×V)}(it:Addr)(hod:o.data=.dict es ep):Turn P w K tg (al3 K d o kvs) [it] it (fun i h=>h.IsKeyIter it d i kvs.length ep) where
 mem:=by simp
 obj:=fun i h st b hb=>by
  have e:b=it:=by simpa using hb
  subst e;obtain⟨oi,e,c,dd⟩:=st;exact⟨oi,e,fun v z=>by rw[dd] at z;cases z⟩
 keep:=fun i h h' st k=>st.at fun oi e=>k it (by simp) oi e
 item:=by
  intro X hP hw hK hc i pins s σ H E I hf st hg;subst hP hw hK;obtain⟨hd,hi⟩:=hg;obtain⟨f0,f1,f2,f3,f4,f5⟩:=hf it (by simp);obtain⟨hs,hgd,hx,es',ep',hdt,hsz,ent⟩:=I.apN hd;obtain⟨rfl,rfl⟩:=SK hod hdt;obtain⟨⟨k,v⟩,hkv⟩:∃ p,kvs[i]?=some p:=⟨kvs[i],aqw hi⟩;obtain⟨en,q,hen,hkey,hq⟩:=ent i k v hkv;refine Iq st hgd hdt hsz hen fun h' st' sb=>?_;have I1:Inv X pins σ H { s with heap:=h' }:=I.turned (t':=s.toks) (fun b ob hb e=>(sb.2 b hb).trans e) f0 f1 f3 f4 f5;obtain⟨oi,e,c,dd⟩:=id st';exact⟨en.key,rfl,TY (s:={ s with heap:=h' }) e c dd (by decide) ⟨.ref q,H,I1,hkey,⟨rfl,k,v,q,hkv,rfl,hq⟩,st',fun b hb=>(hf b hb).1⟩⟩
 done:=by
  intro X hP hw hK hc i pins s σ H E I hf st hg;subst hP hw hK;obtain⟨hd,hi⟩:=hg;obtain⟨f0,f1,f2,f3,f4,f5⟩:=hf it (by simp);obtain⟨hs,hgd,hx,es',ep',hdt,hsz,ent⟩:=I.apN hd;obtain⟨rfl,rfl⟩:=SK hod hdt;exact BL (I.ok.hd hc) st hgd hdt hsz hi fun h' eb=>⟨rfl,I.turned (t':=s.toks) (fun b ob hb e=>eb b ob hb e) f0 f1 f3 f4 f5⟩
 self:=fun A i s Q E st h=>by
  refine wpAny_pyIter_slot st.typeIs F.slot_dict_keyiterator_iter (atg F.slot_dict_keyiterator_iter st.typeIs F.entry_dict_keyiterator_iter ?_ (F.args_dict_keyiterator_iter_1 _));show wpAny _ _ (ret (.ref it)) _ _ s;exact alu ⟨_,rfl,"dict_keyiterator",_,st.typeIs,ar5.lookup,h⟩
end
def ara(K:Fg)(td:TE):TI:=fun σ H R=>td σ H fun x H1=>∃ d o,x=.ref d∧((∃ kvs,H1 d=some (.uD o (.dK kvs))∧R (Itk d o kvs) H1)∨∃ kvs,H1 d=some (.uD o (.dT kvs))∧R (al3 K d o kvs) H1)
section
variable{X:Cx}{tg e:Expr}{td:TE}{apos cpos:Pos}
theorem an2(he:PE X e td):PI X tg e (ara X.K td):=by
 intro pins s σ H R I h;refine gf (he pins s σ H _ I h) fun u s1 ⟨x,H1,I1,rx,d,o,ex,q⟩=>?_;subst ex;obtain rfl:u=Value.ref d:=rx;rcases q with⟨kvs,hd,q⟩|⟨kvs,hd,q⟩
 ·obtain⟨hs,hgd,hx,es,ep,vs,hdt,hsz,kv,hm⟩:=I1.apM hd;refine OB hs hgd hx hdt (Uc (tk:=s1.toks) I1 _ (ajQ _ hdt) ⟨_,anF _ rfl,rfl,?_⟩ q);rw[hsz] <;> rfl
 ·obtain⟨hs,hgd,hx,es,ep,hdt,hsz,ent⟩:=I1.apN hd;refine OB hs hgd hx hdt (Uc (tk:=s1.toks) I1 _ (agv _ hdt) ⟨_,anF _ rfl,rfl,?_⟩ q);rw[hsz] <;> rfl
end
abbrev KOf{K:Fg}{h:Heap}(_:K.In h):Fg:=K
def inClass(s:Stmt)(j:Nat):Stmt:=match s with
 |.ClassDef _ _ _ body _ _ _ _ _ _ _=>body.getD j (.Pass ⟨0,0,0,0⟩)
 |_=>.Pass ⟨0,0,0,0⟩
def aE(s:Stmt):Arguments:=match s with
 |.FunctionDef _ a _ _ _ _ _ _ _ _=>a
 |_=>{ posonlyargs:=[],args:=[],vararg:=none,kwonlyargs:=[],kw_defaults:=[],kwarg:=none,defaults:=[] }
def aD(s:Stmt):List Stmt:=match s with
 |.FunctionDef _ _ b _ _ _ _ _ _ _=>b
 |_=>[]
def ai(s:Stmt):Scope:=match s with
 |.FunctionDef _ _ _ _ _ _ sc _ _ _=>sc
 |_=>{ kind:=.function,names:=[],isGenerator:=false,isCoroutine:=false }
abbrev jk:CXT:=fun _ _ _ _ _ _=>False
abbrev E0:XK:=fun _ _ _=>False
theorem aG{X:Cx}:wC jk X E0:=fun _ _ _ _ _ _ _ h=>h.elim
structure jM(K:Fg)(x qual:Str)(st:Stmt)(f:Addr)(fd:FuncData):Prop where
 ex:∃ (oc:Value) (od:Option Addr) (kV doc pm:Value) (an:Option Addr) (cdv ct:Value) (osl:Array (Option Value)),
  fd=PySem.W.fnOf x qual (aE st) (aD st) (ai st) .none kV doc pm an cdv ct∧K.lookup f=some ⟨oc,od,.func fd,osl⟩∧PySem.W.codeIn K cdv qual=true
 kp:PySem.W.keepIn K (.ref f)=true
section
variable{P:Program}{w:World}{K:Fg}{mg:Str→Option Value}{base:Heap}
theorem jM.ok{x qual:Str}{st:Stmt}{f:Addr}{fd:FuncData}{N ps:List Str}{k:Nat}{sp:Sp}(F:jM K x qual st f fd)(S:aK N ps (ai st))(len:∀ vs H Q E,sp vs H Q E→vs.length=ps.length)
  (hbody:∀ (cdv:Value) (A:Around) (outer:List Env) (s:Shared) (H:Hp) (vs:List V) (Q:VK) (E:XK),pL k (A.deeper (envOfC qual (ai st) s.heap.objs.size f cdv))→sp vs H Q E→
   ∃ t,PSs (ago jk P w K mg base N qual (ai st) f cdv A outer s H E).nox (aD st) t∧t { nx:=fun _ H'=>Q .dN H',rt:=Q } (start N vs) H):bL P w K mg base jk (k+1) f fd ps sp:=by
 obtain⟨oc,od,kV,doc,pm,an,cdv,ct,osl,rfl,lk,hcd⟩:=F.ex;refine aoO lk hcd S len fun A outer s H vs Q E hr hsp=>?_;obtain⟨t,h,q⟩:=hbody cdv A outer s H vs Q E hr hsp;exact⟨t,h.nox,q⟩
theorem jM.binds{x qual:Str}{st:Stmt}{f:Addr}{fd:FuncData}{ps:List Str}(F:jM K x qual st f fd)
  (h:∀ (kV doc pm:Value) (an:Option Addr) (cdv ct:Value) (us:List Value),us.length=ps.length→bindArgs (PySem.W.fnOf x qual (aE st) (aD st) (ai st) .none kV doc pm an cdv ct) ⟨us,[]⟩=pure (ps.zip us)):Binds K fd ps []:=by
 obtain⟨oc,od,kV,doc,pm,an,cdv,ct,osl,rfl,lk,hcd⟩:=F.ex;exact .all (h kV doc pm an cdv ct)
theorem ay{x qual:Str}{st:Stmt}{f:Addr}{oc:Value}{od an:Option Addr}{osl:Array (Option Value)}{kV doc pm cdv ct:Value}(l:K.lookup f=some ⟨oc,od,.func (PySem.W.fnOf x qual (aE st) (aD st) (ai st) .none kV doc pm an cdv ct),osl⟩)
  (c:PySem.W.codeIn K cdv qual=true) (k:PySem.W.keepIn K (.ref f)=true):jM K x qual st f (PySem.W.fnOf x qual (aE st) (aD st) (ai st) .none kV doc pm an cdv ct):=⟨⟨oc,od,kV,doc,pm,an,cdv,ct,osl,rfl,l,c⟩,k⟩
end
theorem eV{A:Around}{k:Nat}(hr:pL k A):A.units+1 < cLine:=Nat.lt_of_le_of_lt (Nat.add_le_add_left (by decide:1≤64) _) hr.units
section
variable{X:Cx}
theorem pv(i:Nat){x:Str}{pos:Pos}(hN:X.N[i]?=some x:=by rfl)(hv:Vis X.env.scope x:=by first|exact Or.inl rfl|exact Or.inr (Or.inl rfl)|exact Or.inr (Or.inr rfl))(hd:(x == ("__debug__" : Str))=false:=by decide)
  (hcd:(x == ("__classdict__" : Str))=false:=by decide):PE X (.Name x pos) (Om i):=apd hN hv hd hcd
end
theorem zy{A B:Prop}(h:B):if false=true then A else B:=by
 rw[acK ak7];exact h
theorem iO{A B:Prop}(h:A):if true=true then A else B:=by
 rw[afO rfl];exact h
def aM(H H':Hp):Prop:=∀ b o,H b=some o→H' b=some o
theorem aM.refl(H:Hp):aM H H:=fun _ _ h=>h
theorem aM.trans{H H1 H2:Hp}(a:aM H H1)(b:aM H1 H2):aM H H2:=fun c o h=>b c o (a c o h)
theorem aM.free{H H':Hp}(e:aM H H'){l:Addr}(h:H' l=Option.none):H l=Option.none:=by
 cases q:H l with
 |none=>rfl
 |some o=>
  rw[e l o q] at h;cases h
section
variable{κ:Type}[DecidableEq κ]
theorem aiI{kvs:List (κ×V)}{k:κ}{v:V}(h:fM kvs k=some v):k∈kvs.map (·.1):=by
 have q:(kvs.any fun kv=>decide (kv.1=k))=true:=by
  rw[qD,h]
  all_goals rfl
 obtain⟨p,hp,e⟩:=List.any_eq_true.mp q;exact aou.mpr ⟨p,hp,ata e⟩
theorem aiJ:∀ {l:List κ} {k:κ},l.Nodup→¬ k∈l→(l++[k]).Nodup
 |[],k,_,_=>by simp
 |a::r,k,h,hk=>by
  obtain⟨h1,h2⟩:=arA.mp h;show(a::(r++[k])).Nodup;refine arA.mpr ⟨fun m=>?_,aiJ h2 fun m=>hk (akS.mpr (Or.inr m))⟩;rcases aoF.mp m with q|q
  ·exact h1 q
  ·exact hk (akS.mpr (Or.inl (aoJ.mp q).symm))
end
theorem at_of{xs:List V}{z:Int}{j:Nat}{v:V}(e:z=(j:Int))(h:xs[j]?=some v):atI xs z=some v:=by
 rw[e];exact l5 h
theorem aM.made{H H1:Hp}{x dx C:Addr}(nx:H x=Option.none)(nd:H dx=Option.none)(k:∀ b o,(upd (upd H dx (.own x)) x (.ins C dx [])) b=some o→b≠x→H1 b=some o):aM H H1:=fun b o e=>
 k b o (by rw[ak (au e nx),ak (au e nd)];exact e) (au e nx)
open PySem.W (WData Codec OpenSpec Well WellAll ReadsW ReadsAllW)
mutual
inductive Dw (K:Fg) (H:Hp):V→WData→Prop
 |dN:Dw K H .dN .none
 |bl (b:Bool):Dw K H (.bl b) (.bool b)
 |int (i:Int):Dw K H (.int i) (.int i)
 |str (x:Str):Dw K H (.str x) (.str x)
 |byt (b:Array UInt8):Dw K H (.byt b) (.bytes b.toList)
 |lst {a:Addr} {xs:List V} {ds:List WData}:cJ K H a xs→CM K H xs ds→Dw K H (.ref a) (.list ds)
 |tup {a:Addr} {xs:List V} {ds:List WData}:Io K H a xs→CM K H xs ds→Dw K H (.ref a) (.tuple ds)
inductive CM (K:Fg) (H:Hp):List V→List WData→Prop
 |nil:CM K H [] []
 |cons {v:V} {vs:List V} {d:WData} {ds:List WData}:Dw K H v d→CM K H vs ds→CM K H (v::vs) (d::ds)
end
theorem aiK{K:Fg}{H:Hp}:∀ ns:List Int,CM K H (ns.map V.int) (ns.map WData.int)
 |[]=>.nil
 |n::r=>.cons (.int n) (aiK r)
theorem aiL{K:Fg}{H:Hp}:∀ (ns:List Int) (xs:List V),CM K H xs (ns.map WData.int)→xs=ns.map V.int
 |[],xs,h=>by
  cases h;rfl
 |n::r,xs,h=>by
  cases h with
  |cons h1 h2=>
   cases h1;rw[aiL r _ h2] <;> rfl
section
variable{P:Program}{w:World}{K:Fg}{H:Hp}{h:Heap}{R:PySem.W.WRecords}{cl:Str→Option Addr}
theorem apO{a:Addr}{xs:List V}(cI:EH P w K H h)(KX:K.In h)(q:cJ K H a xs):∃ (its:List Value) (o:Obj) (n:Nat),bK xs its∧h.get? a=some o∧o.cls=.type "list"∧o.data=.seq its.toArray n:=by
 rcases q with q|⟨o,its,n,e,hc,_,hd,_,hv⟩
 ·obtain⟨_,its,n,hv,e⟩:=(show iG P w K H h a (.lst xs) from q.ok cI);exact⟨its,_,n,hv,e,rfl,rfl⟩
 ·exact⟨its.toList,o,n,hv,KX _ _ e,hc,by simp[hd]⟩
theorem apP{a:Addr}{xs:List V}(cI:EH P w K H h)(KX:K.In h)(q:Io K H a xs):∃ (its:List Value) (o:Obj) (n:Nat),bK xs its∧h.get? a=some o∧o.cls=.type "tuple"∧o.data=.seq its.toArray n:=by
 rcases q with q|⟨o,its,n,e,hc,hd,_,hv⟩
 ·obtain⟨_,its,hv,o,e,hc,n,hd⟩:=(show iG P w K H h a (.tup xs) from q.ok cI);exact⟨its,o,n,hv,e,hc,hd⟩
 ·exact⟨its.toList,o,n,hv,KX _ _ e,hc,by simp[hd]⟩
mutual
theorem Dw.reads(cI:EH P w K H h)(KX:K.In h):∀ (d:WData) (v:V) (u:Value),Dw K H v d→RelV v u→∃ as,ReadsW R cl h u d as
 |.none,_,_,x,r=>by
  cases x;cases r;exact⟨_,ReadsW.none⟩
 |.bool b,_,_,x,r=>by
  cases x;cases r;exact⟨_,ReadsW.bool b⟩
 |.int i,_,_,x,r=>by
  cases x;obtain⟨t,rfl⟩:=r;exact⟨_,ReadsW.int i t⟩
 |.str s,_,_,x,r=>by
  cases x;obtain⟨t,rfl⟩:=r;exact⟨_,ReadsW.str s t⟩
 |.bytes b,_,_,x,r=>by
  cases x;obtain⟨t,rfl⟩:=r;exact⟨_,ReadsW.bytes _ t⟩
 |.list ds,_,_,x,r=>by
  cases x with
  |lst hs ha=>
   cases r;obtain⟨its,o,n,rv,ho,hc,hd⟩:=apO cI KX hs;obtain⟨as,hr⟩:=Dw.readsAll cI KX ds _ its ha rv;exact⟨_,ReadsW.list ho hc hd hr⟩
 |.tuple ds,_,_,x,r=>by
  cases x with
  |tup hs ha=>
   cases r;obtain⟨its,o,n,rv,ho,hc,hd⟩:=apP cI KX hs;obtain⟨as,hr⟩:=Dw.readsAll cI KX ds _ its ha rv;exact⟨_,ReadsW.tuple ho hc hd hr⟩
 |.float _,_,_,x,_=>by cases x
 |.dict _,_,_,x,_=>by cases x
 |.bytearray _,_,_,x,_=>by cases x
 |.set _,_,_,x,_=>by cases x
 |.frozenset _,_,_,x,_=>by cases x
 |.obj _ _,_,_,x,_=>by cases x
theorem Dw.readsAll(cI:EH P w K H h)(KX:K.In h):∀ (ds:List WData) (vs:List V) (us:List Value),CM K H vs ds→bK vs us→∃ as,ReadsAllW R cl h us ds as
 |[],_,_,x,r=>by
  cases x;cases r;exact⟨_,ReadsAllW.nil⟩
 |d::ds,_,_,x,r=>by
  cases x with
  |cons h1 h2=>
   cases r with
   |cons r1 r2=>
    obtain⟨as,q1⟩:=Dw.reads cI KX d _ _ h1 r1;obtain⟨bs,q2⟩:=Dw.readsAll cI KX ds _ _ h2 r2;exact⟨_,ReadsAllW.cons q1 q2⟩
end
end
mutual
def plW:WData→Bool
 |.none=>true
 |.bool _=>true
 |.int _=>true
 |.str _=>true
 |.bytes _=>true
 |.list xs=>Rz xs
 |.tuple xs=>Rz xs
 |_=>false
def Rz:List WData→Bool
 |[]=>true
 |x::r=>plW x && Rz r
end
theorem adv{α:Type}{f:α→WData}(h:∀ a,plW (f a)=true):∀ l:List α,Rz (l.map f)=true
 |[]=>rfl
 |x::r=>by
  show(plW (f x) && Rz (r.map f))=true;rw[h x,adv h r] <;> rfl
theorem EW:∀ (c:Codec) (a:c.denote),plW (c.enc a)=true
 |.unit,_=>rfl
 |.bool,_=>rfl
 |.int _ _,_=>rfl
 |.nat _ _,_=>rfl
 |.u8,_=>rfl
 |.bytes _ _,_=>rfl
 |.text _ _ _ _,_=>rfl
 |.list _ _ c,a=>adv (fun x=>EW c x) a
 |.pair c d,a=>by
  show(plW (c.enc a.1) && (plW (d.enc a.2) && true))=true;rw[EW c a.1,EW d a.2] <;> rfl
 |.triple c d e,a=>by
  show(plW (c.enc a.1) && (plW (d.enc a.2.1) && (plW (e.enc a.2.2) && true)))=true;rw[EW c a.1,EW d a.2.1,EW e a.2.2] <;> rfl
 |.option c,none=>rfl
 |.option c,some x=>EW c x
theorem YU:∀ (cs:List Codec) (a:Codec.denoteAll cs),Rz (Codec.encAll cs a)=true
 |[],_=>rfl
 |c::cs,a=>by
  show(plW (c.enc a.1) && Rz (Codec.encAll cs a.2))=true;rw[EW c a.1,YU cs a.2] <;> rfl
theorem Jk:∀ {xs:List WData} {d:WData},d∈xs→d.weight≤WData.weightAll xs
 |[],d,h=>absurd h (by simp)
 |x::r,d,h=>by
  show d.weight≤x.weight+1+WData.weightAll r;rcases akS.mp h with e|m
  ·rw[e];omega
  ·have z:=Jk m;omega
def toV:Value→V
 |.none=>.dN
 |.bool b=>.bl b
 |.int i _=>.int i
 |.str x _=>.str x
 |.bytes b _=>.byt b
 |.ref a=>.ref a
 |_=>.dN
def OkU(A:List Addr):Value→Prop
 |.none=>True
 |.bool _=>True
 |.int _ _=>True
 |.str _ _=>True
 |.bytes _ _=>True
 |.ref a=>a∈A
 |_=>False
theorem OkU.mono{A B:List Addr}(h:∀ a∈A,a∈B):∀ {u:Value},OkU A u→OkU B u:=fun{u} x=>by
 cases u with
 |ref a=>exact h a x
 |none=>trivial
 |bool b=>trivial
 |int i t=>trivial
 |str s t=>trivial
 |bytes b t=>trivial
 |_=>exact False.elim x
theorem al4{A:List Addr}{u:Value}(x:OkU A u):RelV (toV u) u:=by
 cases u with
 |ref a=>rfl
 |none=>rfl
 |bool b=>rfl
 |int i t=>exact⟨t,rfl⟩
 |str s t=>exact⟨t,rfl⟩
 |bytes b t=>exact⟨t,rfl⟩
 |_=>exact False.elim x
theorem An{A:List Addr}:∀ {vs:List Value},(∀ u∈vs,OkU A u)→bK (vs.map toV) vs
 |[],_=>.nil
 |u::r,h=>.cons (al4 (h u (ajM ..))) (An fun x hx=>h x (aiy _ hx))
def CN(h:Heap)(A:List Addr)(a:Addr):Prop:=∃ vs:List Value,vs.length≤sizeLine∧(∀ u∈vs,OkU A u)∧
 (h.get? a=some { cls:=.type "list",data:=.seq vs.toArray }∨h.get? a=some { cls:=.type "tuple",data:=.seq vs.toArray })
theorem CN.mono{h:Heap}{A B:List Addr}{a:Addr}(k:∀ a∈A,a∈B)(x:CN h A a):CN h B a:=by
 obtain⟨vs,h1,h2,h3⟩:=x;exact⟨vs,h1,fun u hu=>(h2 u hu).mono k,h3⟩
theorem ym{P:Params}{h:Heap}:∀ {vs:List Value} {ds:List WData},WellAll P h vs ds→vs.length=ds.length
 |_,_,.nil=>rfl
 |_,_,.cons _ b=>by
  show _+1=_+1;rw[ym b]
theorem YV{P:Params}{h:Heap}{v:Value}{ds:List WData}(x:Well P h v (.list ds)):∃ (a:Addr) (vs:List Value),v=.ref a∧h.get? a=some { cls:=.type "list",data:=.seq vs.toArray }∧WellAll P h vs ds:=by
 cases x with
 |list ho hall=>exact⟨_,_,rfl,ho,hall⟩
theorem Ud{P:Params}{h:Heap}{v:Value}{ds:List WData}(x:Well P h v (.tuple ds)):∃ (a:Addr) (vs:List Value),v=.ref a∧h.get? a=some { cls:=.type "tuple",data:=.seq vs.toArray }∧WellAll P h vs ds:=by
 cases x with
 |tuple ho hall=>exact⟨_,_,rfl,ho,hall⟩
theorem YW{P:Params}{h:Heap}{us:List Value}{d:WData}{ds:List WData}(x:WellAll P h us (d::ds)):∃ (v:Value) (vs:List Value),us=v::vs∧Well P h v d∧WellAll P h vs ds:=by
 cases x with
 |cons a b=>exact⟨_,_,rfl,a,b⟩
theorem aiN{n:Nat}(h:n≤1048576):n≤sizeLine:=ao0 h (by decide)
section
variable{P:Params}{h:Heap}
mutual
theorem al5:∀ (d:WData) (v:Value),Well P h v d→plW d=true→d.weight≤1048576→∃ A:List Addr,OkU A v∧∀ a∈A,CN h A a
 |.none,_,x,_,_=>by
  cases x;exact⟨[],trivial,fun a m=>absurd m (by simp)⟩
 |.bool b,_,x,_,_=>by
  cases x;exact⟨[],trivial,fun a m=>absurd m (by simp)⟩
 |.int i,_,x,_,_=>by
  cases x;exact⟨[],trivial,fun a m=>absurd m (by simp)⟩
 |.str s,_,x,_,_=>by
  cases x;exact⟨[],trivial,fun a m=>absurd m (by simp)⟩
 |.bytes b,_,x,_,_=>by
  cases x;exact⟨[],trivial,fun a m=>absurd m (by simp)⟩
 |.list ds,_,x,p,z=>by
  obtain⟨a,vs,rfl,ho,hall⟩:=YV x;have z2:WData.weightAll ds≤1048576:=z;obtain⟨A,h1,h2⟩:=La ds _ hall p fun d hd=>ao0 (Jk hd) z2;have k:∀ b∈A,b∈a::A:=fun b hb=>aiy _ hb;refine⟨a::A,ajM ..,fun b hb=>?_⟩;rcases akS.mp hb with e|m
  ·rw[e];exact⟨vs,aiN (by rw[ym hall];exact ao0 (PySem.W.length_le_weightAllW ds) z2),fun u hu=>(h1 u hu).mono k,.inl ho⟩
  ·exact(h2 b m).mono k
 |.tuple ds,_,x,p,z=>by
  obtain⟨a,vs,rfl,ho,hall⟩:=Ud x;have z2:WData.weightAll ds≤1048576:=z;obtain⟨A,h1,h2⟩:=La ds _ hall p fun d hd=>ao0 (Jk hd) z2;have k:∀ b∈A,b∈a::A:=fun b hb=>aiy _ hb;refine⟨a::A,ajM ..,fun b hb=>?_⟩;rcases akS.mp hb with e|m
  ·rw[e];exact⟨vs,aiN (by rw[ym hall];exact ao0 (PySem.W.length_le_weightAllW ds) z2),fun u hu=>(h1 u hu).mono k,.inr ho⟩
  ·exact(h2 b m).mono k
 |.float _,_,_,p,_=>Bool.noConfusion (show false=true from p)
 |.dict _,_,_,p,_=>Bool.noConfusion (show false=true from p)
 |.bytearray _,_,_,p,_=>Bool.noConfusion (show false=true from p)
 |.set _,_,_,p,_=>Bool.noConfusion (show false=true from p)
 |.frozenset _,_,_,p,_=>Bool.noConfusion (show false=true from p)
 |.obj _ _,_,_,p,_=>Bool.noConfusion (show false=true from p)
theorem La:∀ (ds:List WData) (vs:List Value),WellAll P h vs ds→Rz ds=true→(∀ d∈ds,d.weight≤1048576)→∃ A:List Addr,(∀ u∈vs,OkU A u)∧∀ a∈A,CN h A a
 |[],_,x,_,_=>by
  cases x;exact⟨[],fun u m=>absurd m (by simp),fun a m=>absurd m (by simp)⟩
 |d::ds,_,x,p,z=>by
  obtain⟨v,vs,rfl,x1,x2⟩:=YW x;have q:plW d=true∧Rz ds=true:=Bool.and_eq_true_iff.mp p;obtain⟨A,a1,a2⟩:=al5 d v x1 q.1 (z d (ajM ..));obtain⟨B,b1,b2⟩:=La ds vs x2 q.2 fun e he=>z e (aiy _ he);have kA:∀ b∈A,b∈A++B:=fun b hb=>aoF.mpr (.inl hb);have kB:∀ b∈B,b∈A++B:=fun b hb=>aoF.mpr (.inr hb);refine⟨A++B,fun u hu=>?_,fun b hb=>?_⟩
  ·rcases akS.mp hu with e|m
   ·rw[e];exact a1.mono kA
   ·exact(b1 u m).mono kB
  ·rcases aoF.mp hb with m|m
   ·exact(a2 b m).mono kA
   ·exact(b2 b m).mono kB
end
end
def an3(o:Obj):Option HO:=match o.data with
 |.seq vs _=>if (o.cls == Value.type "list")=true then some (.uD o (.lst (vs.toList.map toV))) else some (.uD o (.tup (vs.toList.map toV)))
 |_=>none
def BN(K:Fg)(h:Heap)(A:List Addr):Hp:=fun b=>if b∈A then(if (K.lookup b).isNone=true then(h.get? b).bind an3 else none) else none
def adw(H:Hp):Prop:=∀ b,H b=none∨∃ o u,H b=some (.uD o u)
theorem adx(vs:List Value):an3 { cls:=.type "list",data:=.seq vs.toArray }=some (.uD { cls:=.type "list",data:=.seq vs.toArray } (.lst (vs.map toV))):=by
 show(if (Value.type "list" == Value.type "list")=true then some (HO.uD { cls:=.type "list",data:=.seq vs.toArray } (.lst (vs.toArray.toList.map toV))) else some (HO.uD { cls:=.type "list",data:=.seq vs.toArray } (.tup (vs.toArray.toList.map toV))))=_;rw[afO (beq_self_eq_true _)]
theorem ady(vs:List Value):an3 { cls:=.type "tuple",data:=.seq vs.toArray }=some (.uD { cls:=.type "tuple",data:=.seq vs.toArray } (.tup (vs.map toV))):=by
 show(if (Value.type "tuple" == Value.type "list")=true then some (HO.uD { cls:=.type "tuple",data:=.seq vs.toArray } (.lst (vs.toArray.toList.map toV))) else some (HO.uD { cls:=.type "tuple",data:=.seq vs.toArray } (.tup (vs.toArray.toList.map toV))))=_;rw[acK (by decide)]
section
variable{P:Program}{w:World}{K:Fg}{h:Heap}{A:List Addr}
theorem SM{b:Addr}{o:Obj}(hb:b∈A)(hk:K.lookup b=none)(e:h.get? b=some o):BN K h A b=an3 o:=by
 unfold BN;rw[afO hb,hk,afO (show(none:Option Obj).isNone=true from rfl),e] <;> rfl
theorem an4{b:Addr}{u:HO}(q:BN K h A b=some u):b∈A∧K.lookup b=none:=by
 unfold BN at q;by_cases hb:b∈A
 ·rw[afO hb] at q;cases hk:K.lookup b with
  |none=>exact⟨hb,rfl⟩
  |some o=>
   rw[hk,acK (by simp)] at q;cases q
 ·rw[acK hb] at q;cases q
theorem SN(ar:∀ a∈A,CN h A a){b:Addr}{u:HO}(q:BN K h A b=some u):K.lookup b=none∧∃ vs:List Value,vs.length≤sizeLine∧(∀ u∈vs,OkU A u)∧
    ((h.get? b=some { cls:=.type "list",data:=.seq vs.toArray }∧u=.uD { cls:=.type "list",data:=.seq vs.toArray } (.lst (vs.map toV)))∨
     (h.get? b=some { cls:=.type "tuple",data:=.seq vs.toArray }∧u=.uD { cls:=.type "tuple",data:=.seq vs.toArray } (.tup (vs.map toV)))):=by
  obtain⟨hb,hk⟩:=an4 q;obtain⟨vs,h1,h2,h3⟩:=ar b hb;refine⟨hk,vs,h1,h2,?_⟩;rcases h3 with e|e
  · rw[SM hb hk e,adx] at q
    exact .inl ⟨e,(apa q).symm⟩
  · rw[SM hb hk e,ady] at q
    exact .inr ⟨e,(apa q).symm⟩
theorem ajS(ar:∀ a∈A,CN h A a):adw (BN K h A):=fun b=>by
 cases q:BN K h A b with
 |none=>exact .inl rfl
 |some u=>
  obtain⟨_,vs,_,_,⟨_,e⟩|⟨_,e⟩⟩:=SN ar q
  ·exact .inr ⟨_,_,by rw[e]⟩
  ·exact .inr ⟨_,_,by rw[e]⟩
theorem an5(ar:∀ a∈A,CN h A a):EH P w K (BN K h A) h:=fun b u q=>by
 obtain⟨_,vs,h1,h2,⟨e,rfl⟩|⟨e,rfl⟩⟩:=SN ar q
 ·exact⟨e,by rw[aah];exact h1,vs,_,An h2,e⟩
 ·exact⟨e,by rw[aah];exact h1,vs,An h2,_,e,rfl,_,rfl⟩
theorem SO{c c':Value}{vs us:List Value}(e:(some { cls:=c,data:=.seq vs.toArray }:Option Obj)=some { cls:=c',data:=.seq us.toArray }):c=c'∧vs=us:=by
 have e1:=apa e;have e2:c=c':=arD Obj.cls e1;have e3:Data.seq vs.toArray=Data.seq us.toArray:=arD Obj.data e1;injection e3 with e4;refine⟨e2,?_⟩;have e5:=arD Array.toList e4;simpa using e5
theorem asi(KX:K.In h)(ar:∀ a∈A,CN h A a){a:Addr}{vs:List Value}(ha:a∈A)(e:h.get? a=some { cls:=.type "list",data:=.seq vs.toArray }):(∀ u∈vs,OkU A u)∧cJ K (BN K h A) a (vs.map toV):=by
 obtain⟨us,h1,h2,h3⟩:=ar a ha;have hu:us=vs:=by
  rcases h3 with q|q
  ·rw[e] at q;exact(SO q).2.symm
  ·rw[e] at q;exact absurd (Value.type.inj (SO q).1) (by decide)
 subst hu;refine⟨h2,?_⟩;cases hk:K.lookup a with
 |none=>exact .inl (.inr ⟨_,by rw[SM ha hk e,adx]⟩)
 |some o=>
  have e2:=KX a o hk;rw[e] at e2;obtain rfl:=apa e2;exact .inr ⟨_,us.toArray,_,hk,rfl,rfl,rfl,by rw[List.size_toArray];exact h1,by simpa using An h2⟩
theorem asj(KX:K.In h)(ar:∀ a∈A,CN h A a){a:Addr}{vs:List Value}(ha:a∈A)(e:h.get? a=some { cls:=.type "tuple",data:=.seq vs.toArray }):(∀ u∈vs,OkU A u)∧Io K (BN K h A) a (vs.map toV):=by
 obtain⟨us,h1,h2,h3⟩:=ar a ha;have hu:us=vs:=by
  rcases h3 with q|q
  ·rw[e] at q;exact absurd (Value.type.inj (SO q).1) (by decide)
  ·rw[e] at q;exact(SO q).2.symm
 subst hu;refine⟨h2,?_⟩;cases hk:K.lookup a with
 |none=>exact .inl (.inr ⟨_,by rw[SM ha hk e,ady]⟩)
 |some o=>
  have e2:=KX a o hk;rw[e] at e2;obtain rfl:=apa e2;exact .inr ⟨_,us.toArray,_,hk,rfl,rfl,by rw[List.size_toArray];exact h1,by simpa using An h2⟩
mutual
theorem apQ{Pm:Params}(KX:K.In h)(ar:∀ a∈A,CN h A a):∀ (d:WData) (v:Value),Well Pm h v d→plW d=true→OkU A v→Dw K (BN K h A) (toV v) d
 |.none,_,x,_,_=>by
  cases x;exact .dN
 |.bool b,_,x,_,_=>by
  cases x;exact .bl b
 |.int i,_,x,_,_=>by
  cases x;exact .int i
 |.str s,_,x,_,_=>by
  cases x;exact .str s
 |.bytes b,_,x,_,_=>by
  cases x;have z:=Dw.byt (K:=K) (H:=BN K h A) b.toArray;exact z
 |.list ds,_,x,p,hu=>by
  obtain⟨a,vs,rfl,ho,hall⟩:=YV x;obtain⟨h2,hs⟩:=asi KX ar hu ho;exact .lst hs (aaj KX ar ds _ hall p h2)
 |.tuple ds,_,x,p,hu=>by
  obtain⟨a,vs,rfl,ho,hall⟩:=Ud x;obtain⟨h2,hs⟩:=asj KX ar hu ho;exact .tup hs (aaj KX ar ds _ hall p h2)
 |.float _,_,_,p,_=>Bool.noConfusion (show false=true from p)
 |.dict _,_,_,p,_=>Bool.noConfusion (show false=true from p)
 |.bytearray _,_,_,p,_=>Bool.noConfusion (show false=true from p)
 |.set _,_,_,p,_=>Bool.noConfusion (show false=true from p)
 |.frozenset _,_,_,p,_=>Bool.noConfusion (show false=true from p)
 |.obj _ _,_,_,p,_=>Bool.noConfusion (show false=true from p)
theorem aaj{Pm:Params}(KX:K.In h)(ar:∀ a∈A,CN h A a):∀ (ds:List WData) (vs:List Value),WellAll Pm h vs ds→Rz ds=true→(∀ u∈vs,OkU A u)→CM K (BN K h A) (vs.map toV) ds
 |[],_,x,_,_=>by
  cases x;exact .nil
 |d::ds,_,x,p,hu=>by
  obtain⟨v,vs,rfl,x1,x2⟩:=YW x;have q:plW d=true∧Rz ds=true:=Bool.and_eq_true_iff.mp p;exact .cons (apQ KX ar d v x1 q.1 (hu _ (ajM ..))) (aaj KX ar ds vs x2 q.2 fun u m=>hu u (aiy _ m))
end
end
theorem ajT{P:Program}{w:World}{K:Fg}{mg mb:Str→Option Value}{CX:CXT}{k:Nat}{fa:Addr}{fd:FuncData}{ps:List Str}{sp:Sp}{s₁:Shared}{vals:List Value}{ds:List WData}{R:PySem.W.WRecords}{cl:Str→Option Addr}{d0:WData}
  (KX:K.In s₁.heap) (hns:s₁.heap.Ns mainGlobals mg) (hb:s₁.heap.Ns builtinsNs mb) (hbb:∀ x:Str,x≠"__name__"→mb x=bootBuiltins x) (hlim:s₁.heap.NoLimit) (hg:s₁.gens=#[])
  (hwl:WellAll w.params s₁.heap vals ds) (hpl:Rz ds=true) (hwt:∀ d∈ds,d.weight≤1048576) (hr:pL k callerA)
  (F:∀ base:Heap,K.In base→base.Ns mainGlobals mg→bL P w K mg base CX k fa fd ps sp) (hbind:∀ (s:Shared) (us:List Value),us.length=ps.length→BindsTo s fd ⟨us,[]⟩ (ps.zip us)) (hlen:ds.length=ps.length)
  (hsp:∀ (H:Hp) (xs:List V),adw H→CM K H xs ds→sp xs H (fun v H'=>Dw K H' v d0) fun _ _ _=>False)
  (hCX:∀ H e s',CX [] H s₁ (fun _ _ _=>False) e s'→False) :
  codeAny (model P w) callerA (.call (.ref fa) ⟨vals,[]⟩) (fun r s'=>∃ u as,r=.ok (.ret u)∧ReadsW R cl s'.heap u d0 as∧OldK s₁.heap s'.heap∧s'.os=s₁.os∧AllBare s'.gens) s₁:=by
 obtain⟨A,ho,ar⟩:=La ds vals hwl hpl hwt;have hO:adw (BN K s₁.heap A):=ajS ar;have cI:EH P w K (BN K s₁.heap A) s₁.heap:=an5 ar;have hS:=aaj KX ar ds vals hwl hpl ho;have hV:=An ho;have hK:∀ b u,BN K s₁.heap A b=some u→K.lookup b=none:=fun b u q=>(SN ar q).1;have noA:∀ {b:Addr} {o:Obj} {es:Array DictEntry} {ep:Nat},s₁.heap.get? b=some o→o.data=.dict es ep→BN K s₁.heap A b=none:=fun{b o es ep} e d=>by
  cases q:BN K s₁.heap A b with
  |none=>rfl
  |some u=>
   obtain⟨_,vs,_,_,⟨e2,_⟩|⟨e2,_⟩⟩:=SN ar q
   ·rw[e2] at e;cases e;have d':Data.seq vs.toArray _=Data.dict es ep:=d;cases d'
   ·rw[e2] at e;cases e;have d':Data.seq vs.toArray _=Data.dict es ep:=d;cases d'
 generalize BN K s₁.heap A=H at hO cI hS hK noA;have base_of:∀ {b:Addr} {o:Obj},s₁.heap.get? b=some o→H b=none→(Z7 s₁.heap H).get? b=some o:=fun e n=>als e n;have nsK:∀ {b:Addr} {m:Str→Option Value},s₁.heap.Ns b m→(Z7 s₁.heap H).Ns b m:=fun{b m} ⟨o,es,ep,e,d,r⟩=>⟨o,es,ep,base_of e (noA e d),d,r⟩;have nK:∀ b o,K.lookup b=some o→H b=none:=fun b o e=>by
  cases q:H b with
  |none=>rfl
  |some u=>
   rw[hK b u q] at e;cases e
 have hKb:K.In (Z7 s₁.heap H):=fun b o e=>base_of (KX b o e) (nK b o e);have hM:Mod K mg (Z7 s₁.heap H):=⟨hKb,nsK hns,⟨mb,nsK hb,hbb⟩,let ⟨mc,h1,h2⟩:=hlim;⟨mc,nsK h1,h2⟩⟩;have e0:agn P w K mg (Z7 s₁.heap H) callerA [] s₁ H:=⟨rfl,hM,fun b o e=>anE e,Nat.le_of_eq (ajB _ _),trivial,fun b hb=>absurd (show b∈([]:List Addr) from hb) (by simp),cI,.of_eq hg⟩;have hl:vals.length=ps.length:=by rw[ym hwl];exact hlen
 refine codeAny_mono ((F _ hKb (nsK hns)).run callerA [] s₁ H ⟨vals,[]⟩ vals (vals.map toV) _ _ hr e0 (hbind s₁ vals hl) hV (hsp H _ hO hS)) fun r s' x=>?_;cases r with
 |error e=>exact(hCX H e s' x).elim
 |ok fl=>
  cases fl with
  |next=>exact False.elim x
  |brk=>exact False.elim x
  |cont=>exact False.elim x
  |ret u=>
   obtain⟨v,H',os,bare,un,hok',r',q⟩:=x;have kept:∀ b o,s₁.heap.get? b=some o→s'.heap.get? b=some o:=fun b o e=>by
    cases q2:H b with
    |none=>exact un.keep b o e q2 (by intro z;exact absurd (show b∈([]:List Addr) from z) (by simp)) (by simp)
    |some u2=>
     rcases hO b with z|⟨ob,u3,z⟩
     ·rw[q2] at z;cases z
     ·have z2:=un.TQ b ob _ z;obtain⟨e1,_⟩:=cI b _ z;obtain⟨e2,_⟩:=hok' b _ z2;rw[e] at e1;cases e1;exact e2
   have KX':K.In s'.heap:=fun b o e=>kept b o (KX b o e);obtain⟨as,hrd⟩:=Dw.reads (R:=R) (cl:=cl) hok' KX' d0 v u q r';exact⟨u,as,rfl,hrd,OldK.of_keep kept,os,bare⟩
theorem Ue{ds:List WData}(h:WData.layableAll ds=true):∀ d∈ds,d.weight≤1048576:=fun d hd=>
 (PySem.W.layableW_iff.mp (asP.mp h d hd)).2.2
theorem Ug:∀ (cs:List Codec) (a:Codec.denoteAll cs),(Codec.encAll cs a).length=cs.length
 |[],_=>rfl
 |c::cs,a=>by
  show(Codec.encAll cs a.2).length+1=cs.length+1;rw[Ug cs a.2]
theorem ajU{r:OpenSpec}{k:Nat}{q:Program}{loose:List Str}{XP:(Str→Option Value)→Heap→Prop}{YP:World→Heap→Prop}{d:DefRec}{K:Params→Fg}{CX:World→CXT}{ps:List Str}{sp:World→Sp}
  (hwell:r.wellSaid=true) (hdf:d.params.defaults=[]) (hlen:r.args.length=ps.length) (hr:pL k callerA)
  (hY:∀ (w:World) (h:Heap),YP w h→(K w.params).In h)
  (F:∀ (w:World) (mg:Str→Option Value) (fa:Addr) (h:Heap),YP w h→(K w.params).In h→h.Ns mainGlobals mg→mg d.name=some (.ref fa)→
   ∃ fd:FuncData,(∀ (s:Shared) (us:List Value),us.length=ps.length→BindsTo s fd ⟨us,[]⟩ (ps.zip us))∧
    ∀ base:Heap,(K w.params).In base→base.Ns mainGlobals mg→bL r.prog w (K w.params) mg base (CX w) k fa fd ps (sp w))
  (hsp:∀ (w:World) (H:Hp) (xs:List V) (a:Codec.denoteAll r.args),adw H→Codec.withinAll r.args a=true→Codec.app r.args r.asked a=true→CM (K w.params) H xs (Codec.encAll r.args a)→
   sp w xs H (fun v H'=>Dw (K w.params) H' v (r.ret.enc (Codec.app r.args r.f a))) fun _ _ _=>False)
  (hCX:∀ (w:World) (H:Hp) (s:Shared) (e:Value) (s':Shared),CX w [] H s (fun _ _ _=>False) e s'→False) :
  PySem.W.WalkOS q loose XP YP r d [] (fun f vs=>PySem.call f vs):=by
 intro w YI s₁ mg mb G Y fa o pm cd doc dV kV ho hd hcd hD hmg hg args vals as hpre hlay hrd hwl hlo;obtain⟨a,e1,e2⟩:=PySem.W.os_pre_some hpre;obtain⟨e3,hwi⟩:=Codec.encAll_of_decAll r.args args a e1;subst e3;have KX:=hY w _ Y;obtain⟨fd,hb,hF⟩:=F w mg fa _ Y KX G.T.g hmg;refine PySem.W.enter_call (codeAny_mono (ajT (R:=[]) (cl:=classAt YI.heap) (d0:=r.ret.enc (Codec.app r.args r.f a)) KX G.T.g G.T.b G.T.builtins G.T.nolimit hg hwl (YU _ _) (Ue hlay) hr hF hb (by rw[Ug];exact hlen)
  (fun H xs hO hS=>hsp w H xs a hO hwi e2 hS) fun H e s'=>hCX w H s₁ e s') fun r' s' hq=>?_)
 obtain⟨u,as',rfl,h1,h2,h3,h4⟩:=hq;exact⟨.inl ⟨u,_,as',rfl,fun _=>rfl,h1,(OpenSpec.post_iff hwell hwi _ _).mpr rfl,fun z=>Bool.noConfusion (show false=true from z)⟩,h2,h3,h4⟩
theorem agw{r:OpenSpec}{k:Nat}{q:Program}{loose:List Str}{XP:(Str→Option Value)→Heap→Prop}{YP:World→Heap→Prop}{d:DefRec}{K:Params→Fg}{CX:CXT}{ps:List Str}{sp:Fg→Sp}
  (hwell:r.wellSaid=true) (hdf:d.params.defaults=[]) (hlen:r.args.length=ps.length) (hr:pL k callerA)
  (hY:∀ (w:World) (h:Heap),YP w h→(K w.params).In h)
  (F:∀ (w:World) (mg:Str→Option Value) (fa:Addr) (h:Heap),YP w h→(K w.params).In h→h.Ns mainGlobals mg→mg d.name=some (.ref fa)→
   ∃ fd:FuncData,(∀ (s:Shared) (us:List Value),us.length=ps.length→BindsTo s fd ⟨us,[]⟩ (ps.zip us))∧
    ∀ base:Heap,(K w.params).In base→base.Ns mainGlobals mg→bL r.prog w (K w.params) mg base CX k fa fd ps (sp (K w.params)))
  (hsp:∀ (K:Fg) (H:Hp) (xs:List V) (a:Codec.denoteAll r.args),adw H→Codec.withinAll r.args a=true→Codec.app r.args r.asked a=true→CM K H xs (Codec.encAll r.args a)→
   sp K xs H (fun v H'=>Dw K H' v (r.ret.enc (Codec.app r.args r.f a))) fun _ _ _=>False)
  (hCX:∀ (H:Hp) (s:Shared) (e:Value) (s':Shared),CX [] H s (fun _ _ _=>False) e s'→False) :
  PySem.W.WalkOS q loose XP YP r d [] (fun f vs=>PySem.call f vs):=
 ajU (K:=K) (CX:=fun _=>CX) (sp:=fun w=>sp (K w.params)) hwell hdf hlen hr hY F (fun w H xs a h1 h2 h3 h4=>hsp (K w.params) H xs a h1 h2 h3 h4) fun _ H s e s'=>hCX H s e s'
section
variable{X:Cx}{CX:CXT}{k:Nat}{f C:Addr}{fd:FuncData}{ps ks:List Str}{sp:Sp}{E:XK}{x m:Str}{p pos apos kpos:Pos}{e o:Expr}{es:List Expr}{wD:List Keyword}{te ta:TE}{t tk:TA}
theorem gI{x:Str}{n:Int}{pos:Pos}(h:∃ t,X.mg x=some (.int n t))(hg:Gl X x:=by rfl)(hd:(x == ("__debug__" : Str))=false:=by decide):PE X (.Name x pos) (tC (.int n)):=by
 obtain⟨t,e⟩:=h;exact lZ hg e ⟨t,rfl⟩ hd
theorem ajV:aqO X (apA X.K):=by
 intro pins s σ H x y v u Q I rx ry h;obtain⟨p,xs,i,z,rfl,rfl,hq,he,q⟩:=h;cases rx;obtain⟨t,rfl⟩:=ry;obtain⟨its,r,pl,hz⟩:=I.list hq;obtain⟨j,h1,h2,h3,h4,h5⟩:=aae he;obtain⟨w,ew,rw'⟩:=r.get h2;have hl:=r.length;have hn:=Oq;have fin:EP X pins σ Q w s:=⟨z,H,I,rw',q⟩;by_cases h0:0≤i
 ·have hj:i.toNat=j:=by
   rw[seqIndex_of h0 h5] at h1;exact apa h1
  exact wpAny_getItem_list pl.isList h0 (by omega) (by rw[hj];simpa using ew) fin
 ·have hj:(i+(its.toArray.size:Int)).toNat=j:=by
   rw[seqIndex_neg (by omega) h4] at h1;rw[anq,← hl];exact apa h1
  exact wpAny_getItem_list_neg pl.isList (by omega) (by rw[List.size_toArray] <;> omega) (by omega) (by rw[hj];simpa using ew) fin
def zx36(K:Fg)(Q:VK)(x:V)(y:V)(H2:Hp)(p:Addr):=fun b ks=>(x=.ref b∧TupAt K H2 b (ks.map kV)∧Q (.ref p) (upd H2 p (.dT [(ks,y)])))
def apR(K:Fg)(tk tv:TE):TE:=fun σ H Q=>∀ p,H p=none→tk σ (upd H p (.dT [])) fun x H1=>tv σ H1 fun y H2=>H2 p=some (.dT [])∧zx_2 (zx36 K Q x y H2 p)
theorem Lb{k v:Expr}{tk tv:TE}(hu:X.A.units+1 < cLine)(hk:PE X k tk)(hv:PE X v tv):PE X (.Dict [some k] [v] pos) (apR X.K tk tv):=by
 intro pins s σ H Q I q;have hn:=I.cI.fresh (aiM s.heap.objs.size);have I1:=I.laid (a:=s.heap.objs.size) (o:=.dT []) (h':=s.heap.push { cls:=.type "dict",data:=.dict #[] }) (t':=s.toks) (fun _ _ q=>akR _ q) (aiM _) (ads s.heap I.big);have hs:=zip_pairTrees [some k] [v] X.env pos (by rfl) (by rfl);rw[arm_eval_Dict,hs,dictDisplay_pairs _ (by simp[pairTrees]) (by simp[pairTrees])];refine adg (wpAny_standAt (adg ?_));unfold subDict;refine adg (wpAny_alloc ?_);refine adg (asM ?_);rw[afO (by simp[pairTrees])];refine adg ?_;have hp:wpAny (model X.prog X.w) X.A (evalPairs (pairTrees [some k] [v] X.env pos)) (fun vs s'=>∃ u w2 x y H2,vs=[(u,w2)]∧Inv X pins σ H2 s'∧RelV x u∧RelV y w2∧H2 s.heap.objs.size=some (.dT [])∧
   ∃ b ks,x=.ref b∧TupAt X.K H2 b (ks.map kV)∧Q (.ref s.heap.objs.size) (upd H2 s.heap.objs.size (.dT [(ks,y)]))) X.xe { s with heap:=s.heap.push { cls:=.type "dict",data:=.dict #[] } }:=
  pairTrees_cons_walk (gf (hk pins _ σ _ _ I1 (q _ hn)) fun u s1 ⟨x,H1,I1,rx,q1⟩=>gf (hv pins s1 σ H1 _ I1 q1) fun w2 s2 ⟨y,H2,I2,ry,q2⟩=>
   pairTrees_nil_walk ⟨u,w2,x,y,H2,rfl,I2,rx,ry,q2⟩)
 refine gf hp fun vs s1 ⟨u,w2,x,y,H2,evs,I2,rx,ry,e,b,ks,ex,tb,q2⟩=>?_;subst evs ex;cases (show u=Value.ref b from rx);obtain⟨z,hd,xs,rel,dd⟩:=alY I2.uM I2.cI e;cases rel;refine asM ?_;rw[List.forIn_cons];refine adg (adg (adg (wpAny_dictSet_heap (hsz:=aqu _) (show(tupleKind (i6 X.prog X.w)).room X.A from Nat.lt_of_succ_lt hu) (EU I2.uM I2.cI tb) dd fun h' dd' hs=>alu ?_)));dsimp only;rw[List.forIn_nil];refine alu (alu (alu (alu ⟨.ref s.heap.objs.size,_,?_,rfl,q2⟩)));obtain⟨q,es,ep,hq,h2,h3,h4,_,h5⟩:=dd';have rel':KT X.K H2 [(ks,y)] [(ks,b,w2)]:=.cons ⟨rfl,tb,ry⟩ .nil;refine SJ I2 (by rw[e];exact True.intro) hs ⟨q,hq⟩ ⟨by rw[atr];show 1≤_;omega,hd,_,rel'.keeps fun c ys ec=>?_,q,es,ep,hq,h2,h3,h4,h5⟩;rw[ak (ac6 ec e (fun z=>nomatch z))];exact ec
structure FnV(X:Cx)(f:Addr)(sp:Sp):Prop where
 ex:∃ (k:Nat) (fd:FuncData) (ps:List Str),bL X.prog X.w X.K X.mg X.base jk k f fd ps sp∧pL k X.A∧Binds X.K fd ps []
 kp:PySem.W.keepIn X.K (.ref f)=true
def zx37(X:Cx)(t:TA)(σ:St)(Q:VK)(x:V)(H1:Hp):=fun f sp=>(x=.ref f∧FnV X f sp∧t σ H1 fun vs H2=>sp vs H2 Q E0)
def apS(X:Cx)(ta:TE)(t:TA):TE:=fun σ H Q=>ta σ H fun x H1=>zx_2 (zx37 X t σ Q x H1)
theorem adz(hf:PE X (.Name x p) ta)(ha:PA X (e::es) t)(hx:wC jk X E0:=by exact aG)(he:starEach (e::es) X.env=(false,eval e X.env)::starEach es X.env:=by rfl)(hpl:(backTo pos (starEach es X.env)).any (·.1)=false:=by rfl) :
  PE X (.Call (.Name x p) (e::es) [] pos) (apS X ta t):=by
 intro pins s σ H Q I h;refine asG (gf (hf pins s σ H _ I h) fun u s1 ⟨v,H1,I1,rv,f,sp,ev,F,q⟩=>?_);subst ev;cases (show u=Value.ref f from rv);obtain⟨⟨k,fd,ps,F,hr,hb⟩,kp⟩:=F;refine atH (h₀:=X.base) I.ok.mod.Xu kp (gf (ha pos pins s1 σ H1 _ I1 q) fun us s2 ⟨vs,H2,I2,r,q2⟩=>⟨I2.uM,?_⟩) he hpl;exact aad (dvs:=[]) F hr hb .nil hx I2 r (by rw[apc];exact q2)
def apT(C:Addr)(sp:Sp)(gV:List V→List V→List V)(E:XK)(t tk:TA):TE:=fun σ H Q=>t σ H fun vs H1=>tk σ H1 fun zs H2=>∀ x dx,H2 x=none→H2 dx=none→dx≠x→
 sp (gV (.ref x::vs) zs) (upd (upd H2 dx (.own x)) x (.ins C dx [])) (fun v H3=>v=.dN∧Q (.ref x) H3) E
variable{g:List Value→List Value→List Value}{gV:List V→List V→List V}
theorem ajW{pins:List (Addr×Obj)}{σ:St}{H:Hp}{s:Shared}{Q:VK}{us ws:List Value}{vs zs:List V}(M:Mk X.K C f)(F:bL X.prog X.w X.K X.mg X.base CX k f fd ps sp)(hr:pL (k+1) X.A)(hb:zx X.K fd ps ks g gV)
  (hx:wC CX X E) (I:Inv X pins σ H s) (r:bK vs us) (rz:bK zs ws)
  (h:∀ x dx,H x=none→H dx=none→dx≠x→sp (gV (.ref x::vs) zs) (upd (upd H dx (.own x)) x (.ins C dx [])) (fun v H2=>v=.dN∧Q (.ref x) H2) E) :
  wpAny (model X.prog X.w) X.A (call (.ref C) us (ks.zip ws)) (EP X pins σ Q) X.xe s:=by
 have hq:=h (s.heap.objs.size+1) s.heap.objs.size (I.cI.fresh (Nat.le_succ _)) (I.cI.fresh (aiM _)) (arB (atf _));have I2:=Inv.made (C:=C) I;have r1:bK (V.ref (s.heap.objs.size+1)::vs) (Value.ref (s.heap.objs.size+1)::us):=.cons rfl r;have r2:=hb.rel r1 rz;have hl:(g (Value.ref (s.heap.objs.size+1)::us) ws).length=ps.length:=by
  have e:=r2.length;rw[F.len _ _ _ _ hq] at e;exact e.symm
 refine wpAny_call (ac9 (f:=f) I.uM M.makes M.init (asR.mp M.fn) (codeAny_mono (F.run _ X.stack _ _ ⟨Value.ref (s.heap.objs.size+1)::us,ks.zip ws⟩ _ _ _ E (hr.make C us (ks.zip ws))
  (I2.apy.make C us (ks.zip ws)) (hb.to _ (Value.ref (s.heap.objs.size+1)::us) ws I2.uM hl) r2 hq) fun r s' hq'=>?_))
 cases r with
 |error e=>exact hx pins σ _ _ e s' I2 hq'
 |ok fl=>
  cases fl with
  |ret u=>
   obtain⟨v,H',I3,rv,ev,q3⟩:=I2.after hq';subst ev;exact⟨rv,⟨V.ref (s.heap.objs.size+1),H',I3,rfl,q3⟩⟩
  |next=>exact False.elim hq'
  |brk=>exact False.elim hq'
  |cont=>exact False.elim hq'
theorem t8(M:Mk X.K C f)(F:bL X.prog X.w X.K X.mg X.base CX k f fd ps sp)(hr:pL (k+1) X.A)(hg:Gl X x)(hm:X.mg x=some (.ref C))(hb:zx X.K fd ps ks g gV)(hx:wC CX X E)
  (ha:PA X (e::es) t) (hkw:PK X wD tk) (hall:(backToKw pos (keywordEach wD X.env)).all (·.1.isSome)=true:=by rfl) (hks:(backToKw pos (keywordEach wD X.env)).filterMap (·.1)=ks:=by rfl)
  (hdb:(x == ("__debug__" : Str))=false:=by decide) (he:starEach (e::es) X.env=(false,eval e X.env)::starEach es X.env:=by rfl)
  (hpl:((backTo pos (starEach (e::es) X.env)).any (·.1) || (backToKw pos (keywordEach wD X.env)).any (·.1.isNone))=false:=by rfl) :
  PE X (.Call (.Name x p) (e::es) wD pos) (apT C sp gV E t tk):=by
 intro pins s σ H Q I h;refine asG (K3 I hg hm ?_ hdb);refine PySem.W.callWith_KW (h₀:=X.base) I.ok.mod.Xu M.kp hall (gf (ha pos pins s σ H _ I h) fun us s1 ⟨vs,H1,I1,r,q⟩=>?_) hpl he;refine gf (hkw pos pins s1 σ H1 _ I1 q) fun ws s2 ⟨zs,H2,I2,rz,q2⟩=>⟨I2.uM,?_⟩;rw[hks];exact ajW M F hr hb hx I2 r rz q2
end
theorem aak:∀ (a b:List Int),PyProof.Rows.lexLt PyProof.Rows.itemOrd (a.map Sum.inl) (b.map Sum.inl)=HT.lexLt a b
 |[],[]=>rfl
 |[],_::_=>rfl
 |_::_,[]=>rfl
 |x::r,y::t=>by
  have ih:=aak r t;rw[ajR,ajR,PyProof.Rows.lex_cons,HT.wF,ih];show(decide (x < y) || (!decide (y < x) && HT.lexLt r t))=_;by_cases h:x=y
  ·subst h;simp
  ·rw[acK h];by_cases h1:x < y
   ·simp[h1]
   ·have h2:y < x:=by omega
    simp[h1,h2]
theorem Lc{α β:Type}(f:α→β){l l':List β}(h:l.Perm l'):∀ (m:List α),l'=m.map f→∃ m':List α,m'.Perm m∧l=m'.map f:=by
 induction h with
 |nil=>intro m e;exact⟨m,.refl _,e⟩
 |cons x h ih=>
  intro m e;cases m with
  |nil=>cases e
  |cons y m=>
   rw[ajR] at e;injection e with e1 e2;obtain⟨m',p,e'⟩:=ih m e2;exact⟨y::m',p.cons y,by rw[ajR,e1,e']⟩
 |swap x y l=>
  intro m e
  match m,e with
  |a::b::m,e=>
   rw[ajR,ajR] at e;injection e with e1 e2;injection e2 with e2 e3;exact⟨b::a::m,.swap _ _ _,by rw[ajR,ajR,e1,e2,e3]⟩
  |[_],e=>simp at e
 |trans h1 h2 ih1 ih2=>
  intro m e;obtain⟨m1,p1,e1⟩:=ih2 m e;obtain⟨m2,p2,e2⟩:=ih1 m1 e1;exact⟨m2,p2.trans p1,e2⟩
theorem BO{α β:Type}(f:α→β):∀ l:List α,(l.map f).zip (l.map f)=l.map fun a=>(f a,f a)
 |[]=>rfl
 |a::l=>by rw[ajR,as6,BO f l];rfl
theorem Jl:∀ {ns:List Int} {us:List Value} (i:Nat),bK (ns.map V.int) us→PyProof.Rows.tupItems (fun _=>false) i us=some (ns.map Sum.inl)
 |[],_,i,r=>by rw[atv] at r;cases r;rfl
 |n::ns,_,i,r=>by
  rw[ajR] at r;cases r with
  |cons h t=>
   obtain⟨tk,rfl⟩:=h;show Option.map (Sum.inl n::·) (PyProof.Rows.tupItems (fun _=>false) (i+1) _)=_;rw[Jl (i+1) t];rfl
theorem YX{α:Type}(f:α→Addr):∀ {l:List α} {us:List Value},bK (l.map fun a=>V.ref (f a)) us→us=l.map fun a=>Value.ref (f a)
 |[],_,r=>by rw[atv] at r;cases r;rfl
 |a::l,_,r=>by
  rw[ajR] at r;cases r with
  |cons h t=>
   cases (show _=Value.ref (f a) from h);rw[YX f t];rfl
theorem OC{α:Type}(f:α→Addr):∀ (l:List α),bK (l.map fun a=>V.ref (f a)) (l.map fun a=>Value.ref (f a))
 |[]=>.nil
 |a::l=>.cons rfl (OC f l)
def adA(K:Fg):List V→Hp→VK→Prop:=fun vs H Q=>∃ (a:Addr) (prs:List (Addr×List Int)),vs=[.ref a]∧cJ K H a (prs.map fun p=>V.ref p.1)∧(∀ p∈prs,Io K H p.1 (p.2.map V.int)∧p.2≠[])∧
 ∀ (prs':List (Addr×List Int)) (q:Addr),prs'.Perm prs→prs'.Pairwise (fun x y=>HT.lexLt y.2 x.2=false)→H q=none→Q (.ref q) (upd H q (.lst (prs'.map fun p=>V.ref p.1)))
section
variable{X:Cx}
theorem agx:Ai X (.builtin "sorted") (adA X.K):=by
 intro pins s σ H xs us Q I r h;obtain⟨a,prs,rfl,hl,ht,q⟩:=h;obtain⟨u,rfl,ru⟩:=vals1 r;cases ru;obtain⟨its,ri,pl,hz⟩:=I.list hl;have ei:=YX (fun p:Addr×List Int=>p.1) ri;subst ei;have key:∀ p∈prs,G.tupKeyC s.heap (fun _=>false) (.ref p.1)=some (p.2.map Sum.inl):=fun p hp=>by
  obtain⟨its,r,⟨o,h1,h2,n,h3⟩,_⟩:=I.tuple (ht p hp).1;unfold G.tupKeyC;have e1:G.isTupObj s.heap (.ref p.1)=true:=by simp[G.isTupObj,h1,h2]
  rw[afO e1];simp only[tupKey,h1,h3];exact Jl 0 r
 have Ol:∀ l:List (Addr×List Int),(∀ p∈l,p∈prs)→∃ fs,TupsOf s.heap (fun _=>false) (l.map fun p=>Value.ref p.1) fs:=by
  intro l;induction l with
  |nil=>intro _;exact⟨[],.nil⟩
  |cons p l ih=>
   intro hp;obtain⟨fs,hf⟩:=ih fun z hz=>hp z (aiy _ hz);obtain⟨hT,hne⟩:=ht p (hp p ajM);obtain⟨its,r,⟨o,h1,h2,n,h3⟩,_⟩:=I.tuple hT;cases e:p.2 with
   |nil=>exact absurd e hne
   |cons y ys=>
    rw[e,ajR] at r;cases r with
    |cons hh tt=>
     obtain⟨tk,rfl⟩:=hh;exact⟨_::fs,.cons ⟨p.1,o,_,n,rfl,h1,h2,h3,rfl,fun _=>⟨y,tk,rfl⟩,fun z=>nomatch z⟩ hf⟩
 obtain⟨fs,hfs⟩:=Ol prs fun _ z=>z;refine G.sorted_tups (shape:=fun _=>false) (fs:=fs) pl.isList hfs (fun v hv=>?_) (by rw[← ri.length];exact hz) fun st' hp hs _=>?_
 ·obtain⟨p,hp,rfl⟩:=aou.mp hv;exact⟨_,key p hp⟩
 ·have hl2:(arrOf st').toList.Perm (prs.map fun p=>((Value.ref p.1,Value.ref p.1):Keyed)):=by
   have e:=Array.perm_iff_toList_perm.mp hp;rw[pairsOf_toList,BO] at e;exact e
  obtain⟨prs',hperm,hout⟩:=Lc _ hl2 prs rfl;have hsz:(arrOf st').size=prs'.length:=by
   have:=arD List.length hout;rw[aah,atz] at this;exact this
  have kk:∀ (i:Nat) (p:Addr×List Int),prs'[i]?=some p→KK (G.tupKindC s.heap (fun _=>false)) (arrOf st') i=p.2.map Sum.inl:=fun i p e=>by
   have e2:(arrOf st')[i]?=some (Value.ref p.1,Value.ref p.1):=by
    rw[← as8,hout,ant,e];rfl
   unfold KK;rw[e2];show(G.tupKeyC s.heap (fun _=>false) (.ref p.1)).getD _=_;rw[key p (hperm.mem_iff.mp (aqt e))];rfl
  have hpw:prs'.Pairwise (fun x y=>HT.lexLt y.2 x.2=false):=by
   rw[List.pairwise_iff_getElem];intro i j hi hj hij;have h1:=hs i j (ate hij) (by rw[pairsOf_size,aah,← hperm.length_eq];exact hj);rw[kk i _ (aqw hi),kk j _ (aqw hj)] at h1;rw[← aak];exact h1
  have eout:((arrOf st').map (·.2)).toList=prs'.map fun p=>Value.ref p.1:=by
   rw[Array.toList_map,hout,ao8];rfl
  obtain⟨ep,he'⟩:=sortedAll_at s.heap (prs.map fun p=>Value.ref p.1) ((arrOf st').map (·.2));refine⟨.ref _,upd H (s.heap.objs.size+1) (.lst (prs'.map fun p=>V.ref p.1)),I.laid (t':=s.toks) (fun _ _=>sortedAll_old) (Nat.le_succ _) ⟨?_,prs'.map fun p=>Value.ref p.1,ep,OC _ _,?_⟩,rfl,q prs' _ hperm hpw (I.cI.fresh (Nat.le_succ _))⟩
  ·rw[aah,hperm.length_eq];rw[aah] at hz;exact hz
  ·rw[he'];have e3:((arrOf st').map (·.2))=(prs'.map fun p=>Value.ref p.1).toArray:=by
    apply Array.toList_inj.mp;rw[eout]
   rw[e3]
end
section
open PySem.SeqAt HT
open PySem.AutoSeq1 (wpAny_loadPart')
open PySem.MeetsSeq PySem.MeetsSeq2 PySem.MeetsSeq3
theorem al6(A:Around)(s:Shared)(a:Int)(t:Tok)(c:Int)(u:Tok)(prog:Program)(w:World)(E:Value→Shared→Prop)(Q:Value→Shared→Prop)(h:Q (.bool (decide (c < a))) s) :
  wpAny (model prog w) A (richCompare .Gt (.int a t) (.int c u)) Q E s:=
 (PyProof.Rows.gt_int h:wpAny (model prog w) A (compareOp .Gt (.int a t) (.int c u)) Q E s)
theorem agy(x y:Int)(xs ys:List Int):HT.lexLt (y::ys) (x::xs)=if x=y then HT.lexLt ys xs else decide (y < x):=by
 rw[HT.wF];by_cases h:x=y
 ·rw[afO h,afO h.symm]
 ·rw[acK h,acK (fun q=>h q.symm)]
theorem Xz(l b:Addr)(items items2:Array Value)(n n2:Nat)(dd dd2:Option Addr)(sl sl2:Array (Option Value))(ns ms:List Int)(hi:IntsAre items.toList ns)(hj:IntsAre items2.toList ms) :
  Meets (Builtin.«tuple.__gt__» ⟨[.ref l,.ref b],[]⟩)
   (fun _ R s=>s.heap.get? l=some { cls:=.type "tuple",dict:=dd,data:=.seq items n,slots:=sl }∧s.heap.get? b=some { cls:=.type "tuple",dict:=dd2,data:=.seq items2 n2,slots:=sl2 }∧
    R (.ok (.ret (.bool (HT.lexLt ms ns)))) s):=
 .of_wp fun prog w A R s h=>by
  obtain⟨hp,g,d,tk,os⟩:=s;obtain⟨hl,hb,h⟩:=h;have f2:=AutoSeq1.sub_tuple_tuple;have z1:items.size=ns.length:=by rw[← hi.length];simp
  have z2:items2.size=ms.length:=by rw[← hj.length];simp
  wp_walk using wpAny_loadPart' hl,wpAny_loadPart' hb,wpAny_forIn_list _ (fun rest b s'=>b.1=none∧s'=⟨hp,g,d,tk,os⟩∧∃ (vs ws:List Value) (ns' ms':List Int),rest=vs.zip ws∧
   IntsAre vs ns'∧IntsAre ws ms'∧ns'.length+items2.size=ms'.length+items.size∧R (.ok (.ret (.bool (HT.lexLt ms' ns')))) ⟨hp,g,d,tk,os⟩) _
  case turn=>
   rintro⟨y,x⟩ rest b s' ⟨hb',rfl,vs,ws,ns',ms',hz,hvi,hwi,hlen,hR⟩;cases hvi with
   |nil=>rw[List.zip_nil_left] at hz;cases hz
   |cons a t hvi'=>
    cases hwi with
    |nil=>rw[List.zip_nil_right] at hz;cases hz
    |cons c u hwi'=>
     rw[as6] at hz;injection hz with hyx hrest;injection hyx with hy hx;subst hy hx;rw[agy] at hR;simp only[ajk] at hlen;obtain⟨e,he,hiff⟩:=HT.alN A.in1 ⟨hp,g,d,tk,os⟩ a t c u;refine adg (he prog w _ _ ?_);cases e with
     |true=>
      rw[afO (hiff.mp rfl)] at hR
      wp_walk
      exact⟨rfl,rfl,_,_,_,_,hrest,hvi',hwi',by omega,hR⟩
     |false=>
      rw[acK (fun q=>absurd (hiff.mpr q) ak7)] at hR;have hri:=al6 A.in1 ⟨hp,g,d,tk,os⟩ a t c u prog w
      wp_walk using hri
      exact⟨_,rfl,by simpa using hR⟩
  case fin=>
   rintro⟨b1,b2⟩ s' ⟨hb',rfl,vs,ws,ns',ms',hz,hvi,hwi,hlen,hR⟩;simp only at hb';subst hb';have hv:HT.lexLt ms' ns'=decide (items2.size < items.size):=by
    cases hvi with
    |nil=>
     cases hwi with
     |nil=>
      simp only[atp] at hlen;rw[HT.Ip];exact(aqz (by omega)).symm
     |cons c u hw=>
      simp only[atp,ajk] at hlen;rw[HT.T9];exact(aqz (by omega)).symm
    |cons a t hv=>
     cases hwi with
     |nil=>
      simp only[atp,ajk] at hlen;rw[HT.T8];exact(arC (by omega)).symm
     |cons c u hw=>
      rw[as6] at hz;cases hz
   rw[hv] at hR
   wp_walk
   exact⟨_,rfl,by simpa [Builtin.Tuple.tupleCompareSizes] using hR⟩
  case h=>
   exact⟨rfl,rfl,items.toList,items2.toList,ns,ms,rfl,hi,hj,by omega,h⟩
end
section
variable{prog:Program}{w:World}{A:Around}{E:Value→Shared→Prop}{s:Shared}
theorem agz{l b:Addr}{items items2:Array Value}{ns ms:List Int}{Q:Value→Shared→Prop}(hl:IsTup s.heap l items)(hb:IsTup s.heap b items2)(hi:IntsAre items.toList ns)(hj:IntsAre items2.toList ms)
  (hu:A.units < cLine) (h:Q (.bool (HT.lexLt ms ns)) s):wpAny (model prog w) A (compareOp .Gt (.ref l) (.ref b)) Q E s:=by
 obtain⟨⟨cls,dd,data,sl⟩,ho,hc,n,hd⟩:=id hl;obtain⟨⟨cls2,dd2,data2,sl2⟩,ho2,hc2,n2,hd2⟩:=id hb;simp only at hc hd hc2 hd2;subst hc hd hc2 hd2;exact richCompare_meets_room (op:=.Gt) ⟨_,ho,rfl⟩ ⟨_,ho2,rfl⟩ PySem.F.slot_tuple_gt PySem.F.entry_tuple_gt (PySem.F.args_tuple_gt_2 _ _) (Xz l b items items2 n n2 dd dd2 sl sl2 ns ms hi hj)
  ⟨ho,ho2,show Value.bool (HT.lexLt ms ns)≠Value.notImplemented∧Q (.bool (HT.lexLt ms ns)) s from⟨(fun x=>nomatch x),h⟩⟩ hu
end
section
variable{X:Cx}
theorem Inv.adB{pins:List (Addr×Obj)}{σ:St}{H:Hp}{s:Shared}{a:Addr}{xs:List V}(I:Inv X pins σ H s)(h:TupAt X.K H a xs):∃ its:List Value,bK xs its∧IsTup s.heap a its.toArray∧xs.length≤sizeLine:=by
 rcases h with h|⟨o,its,n,h1,h2,h3,h4,r⟩
 ·exact I.tuple (Io.of h)
 ·exact⟨its.toList,r,⟨o,I.uM a o h1,h2,n,by simpa using h3⟩,by rw[r.length,Array.length_toList];exact h4⟩
def zx38(K:Fg)(x:V)(y:V)(H:Hp)(Q:VK):=fun a b ns ms=>(x=.ref a∧y=.ref b∧TupAt K H a (ns.map V.int)∧TupAt K H b (ms.map V.int)∧Q (.bl (HT.lexLt ms ns)) H)
def asm(K:Fg):R2:=fun x y H Q=>zx_4 (zx38 K x y H Q)
theorem al7(hu:X.A.units+1 < cLine):Oo X (compareOp .Gt) (asm X.K):=by
 intro pins s σ H x y v u Q I rx ry h;obtain⟨a,b,ns,ms,rfl,rfl,ha,hb,q⟩:=h;cases rx;cases ry;obtain⟨its,r1,p1,_⟩:=I.adB ha;obtain⟨its2,r2,p2,_⟩:=I.adB hb;have i1:IntsAre its.toArray.toList ns:=intsAre_of r1;have i2:IntsAre its2.toArray.toList ms:=intsAre_of r2;exact agz p1 p2 i1 i2 (Nat.lt_of_succ_lt hu) ⟨.bl (HT.lexLt ms ns),H,I,rfl,q⟩
theorem p9{K:Fg}{H:Hp}{a:Addr}{xs:List V}(h:TupAt K H a xs):Io K H a xs:=by
 rcases h with h|⟨o,its,n,h1,h2,h3,h4,r⟩
 ·exact Io.of h
 ·exact .inr ⟨o,its,n,h1,h2,h3,h4,r⟩
def arb(K:Fg)(tl:TE):TI:=fun σ H R=>aoK K tl σ H R∨aqQ K tl σ H R
theorem apU{tg l:Expr}{tl:TE}(hl:PE X l tl):PI X tg l (arb X.K tl):=by
 intro pins s σ H R I h;rcases h with h|h
 ·exact vo hl pins s σ H R I h
 ·exact apk hl pins s σ H R I h
theorem agA:Ai X (.builtin "isinstance") (fun xs H Q=>∃ a,xs=[.ref a,.ty "tuple"]∧((∃ ys,TupAt X.K H a ys∧Q (.bl true) H)∨∃ ys,H a=some (.lst ys)∧Q (.bl false) H)):=by
 intro pins s σ H xs us Q I r h;obtain⟨a,rfl,h⟩:=h;obtain⟨u,w',rfl,ru,rw'⟩:=vals2 r;cases ru;cases (show w'=Value.type "tuple" from rw');rcases h with⟨ys,ht,q⟩|⟨ys,hl,q⟩
 ·obtain⟨its,rv,⟨o,h1,h2,_⟩,_⟩:=I.adB ht;exact arQ PySem.W.kitx_tuple I.uM ⟨o,h1,h2⟩ (show PySem.W.kitOne X.K (.type "tuple") (.type "tuple")=some true by rfl) (fun z=>nomatch z) fun tk=>⟨.bl true,H,I.tok _,rfl,q⟩
 ·exact ajL I (show RelV (.ref a) (Value.ref a) from rfl) (.lst hl) (show PySem.W.kitOne X.K (.type "list") (.type "tuple")=some false by rfl) fun tk=>⟨.bl false,H,I.tok _,rfl,q⟩
end
theorem OD:bootBuiltins "isinstance"=some (.builtin "isinstance"):=by decide +kernel
theorem adC:bootBuiltins "tuple"=some (.type "tuple"):=by decide +kernel
theorem bK.getD{xs:List V}{us:List Value}(r:bK xs us)(i:Nat):RelV (xs.getD i .dN) (us.getD i .none):=by
 rw[aqx,aqx];cases e:xs[i]? with
 |none=>rw[r.none_of e];rfl
 |some x=>
  obtain⟨u,h1,h2⟩:=r.get e;rw[h1];exact h2
structure an6(K:Fg)(x qual:Str)(st:Stmt)(f:Addr)(fd:FuncData):Prop where
 ex:∃ (oc:Value) (od:Option Addr) (dV kV doc pm:Value) (an:Option Addr) (cdv ct:Value) (osl:Array (Option Value)),
  fd=PySem.W.fnOf x qual (aE st) (aD st) (ai st) dV kV doc pm an cdv ct∧K.lookup f=some ⟨oc,od,.func fd,osl⟩∧PySem.W.codeIn K cdv qual=true
 kp:PySem.W.keepIn K (.ref f)=true
section
variable{P:Program}{w:World}{K:Fg}{mg:Str→Option Value}{base:Heap}
theorem an6.ok{x qual:Str}{st:Stmt}{f:Addr}{fd:FuncData}{N ps:List Str}{k:Nat}{sp:Sp}(F:an6 K x qual st f fd)(S:aK N ps (ai st))(len:∀ vs H Q E,sp vs H Q E→vs.length=ps.length)
  (hbody:∀ (cdv:Value) (A:Around) (outer:List Env) (s:Shared) (H:Hp) (vs:List V) (Q:VK) (E:XK),pL k (A.deeper (envOfC qual (ai st) s.heap.objs.size f cdv))→sp vs H Q E→
   ∃ t,PSs (ago jk P w K mg base N qual (ai st) f cdv A outer s H E).nox (aD st) t∧t { nx:=fun _ H'=>Q .dN H',rt:=Q } (start N vs) H):bL P w K mg base jk (k+1) f fd ps sp:=by
 obtain⟨oc,od,dV,kV,doc,pm,an,cdv,ct,osl,rfl,lk,hcd⟩:=F.ex;refine aoO lk hcd S len fun A outer s H vs Q E hr hsp=>?_;obtain⟨t,h,q⟩:=hbody cdv A outer s H vs Q E hr hsp;exact⟨t,h.nox,q⟩
theorem an7{x qual:Str}{st:Stmt}{f:Addr}{oc:Value}{od an:Option Addr}{osl:Array (Option Value)}{dV kV doc pm cdv ct:Value}(l:K.lookup f=some ⟨oc,od,.func (PySem.W.fnOf x qual (aE st) (aD st) (ai st) dV kV doc pm an cdv ct),osl⟩)
  (c:PySem.W.codeIn K cdv qual=true) (k:PySem.W.keepIn K (.ref f)=true):an6 K x qual st f (PySem.W.fnOf x qual (aE st) (aD st) (ai st) dV kV doc pm an cdv ct):=⟨⟨oc,od,dV,kV,doc,pm,an,cdv,ct,osl,rfl,l,c⟩,k⟩
end
def wI{K:Type}[DecidableEq K](xs:List (K×Addr×Value))(k:K):List (K×Addr×Value):=xs.filter fun x=>decide (x.1≠k)
theorem EX{K β:Type}[DecidableEq K](f:K×Addr×Value→β)(k:K):∀ {xs:List (K×Addr×Value)} {j:Nat} {p:Addr×Value},(xs.map (·.1)).Nodup→xs[j]?=some (k,p)→(xs.map f).eraseIdx j=(wI xs k).map f
 |[],j,p,_,hj=>by simp at hj
 |x::r,0,p,hn,hj=>by
  simp only[ato,Option.some.injEq] at hj;subst hj;rw[ajR,arA] at hn;have e:wI ((k,p)::r) k=r:=by
   unfold wI;rw[arX,acK (by simp)];apply List.filter_eq_self.mpr;intro y hy;exact arC fun q=>hn.1 (show k∈r.map (·.1) from q▸aou.mpr ⟨y,hy,rfl⟩)
  rw[e];rfl
 |x::r,j+1,p,hn,hj=>by
  simp only[asZ] at hj;rw[ajR,arA] at hn;have hne:x.1≠k:=fun q=>hn.1 (q▸aou.mpr ⟨(k,p),aqt hj,rfl⟩);have ih:=EX f k hn.2 hj;unfold wI at ih ⊢;rw[arX,afO (arC hne),ajR,ajR,List.eraseIdx_cons_succ,ih]
section
variable{prog:Program}{w:World}{K:Type}[DecidableEq K]{knd:HeapKind prog w K}{A:Around}{E:Value→Shared→Prop}{s:Shared}
theorem aal{d a:Addr}{xs:List (K×Addr×Value)}{k:K}{p:Addr×Value}{Q:Option DictEntry→Shared→Prop}(hu:knd.room A)(hkey:knd.is s.heap k a)(hm:s.heap.DictOfH knd d xs)(hp:atKey xs k=some p)(hsz:xs.length≤sizeLine)
  (hQ:∀ e:DictEntry,e.val=p.2→∀ h',h'.DictOfH knd d (wI xs k)→Heap.SameBut d s.heap h'→Q (some e) { s with heap:=h',toks:=s.toks+knd.draws k }) :
  wpAny (model prog w) A (Builtin.Dict.takeOut d (.ref a)) Q E s:=by
 obtain⟨o,es,ep,ho,hc,hd,he,his,hn⟩:=hm;unfold Builtin.Dict.takeOut
 try with_reducible refine asM ?_
 refine adg (knd.pyHash hu hkey (adg (wpAny_dictFind_heap (s:={ s with toks:=s.toks+knd.draws k }) hu hkey ho hd he his hn ?_ ?_)))
 ·intro hno;rw[atKey_none_of_get hno] at hp;cases hp
 ·intro j p' hj;rw[atKey_of_get hn hj] at hp;cases hp;refine adg (atc (s:={ s with toks:=s.toks+knd.draws k }) ho hd ?_);rw[entry_at he j,hj];refine adg (wpAny_updateDictKeys (hz:=by have e:=as9 he;omega) (s:={ s with toks:=s.toks+knd.draws k }) ho hd (alu (hQ _ rfl _ ⟨_,_,ep+1,atw _ ho (Obj.isFreed_of_dict (Obj.data_mapDictKeys hd _)),
   hc.mapDictKeys _,Obj.data_mapDictKeys hd _,?_,?_,?_⟩ (atA ..))))
  ·have:=EX (entryOfKey knd) k hn hj;rw[← he] at this;obtain⟨l⟩:=es;simpa using this
  ·intro x hx;exact knd.keeps (his x (ao9.mp hx).1) ho hd (atA ..)
  ·exact hn.sublist (List.Sublist.map _ atl)
end
theorem KT.drop{K:Fg}{H:Hp}{kvs:List (List Key×V)}{xs:List (List Key×Addr×Value)}(r:KT K H kvs xs)(k:List Key):KT K H (Ua kvs k) (wI xs k):=by
 induction r with
 |nil=>exact .nil
 |@cons p q l m h t ih=>
  unfold Ua wI at ih ⊢;rw[arX,arX];by_cases e:p.1=k
  ·rw[acK (by simp[e]),acK (by rw[← h.1];simp[e])];exact ih
  ·rw[afO (arC e),afO (by rw[← h.1];exact arC e)];exact .cons h ih
section
variable{X:Cx}{pins:List (Addr×Obj)}{σ:St}{H:Hp}{s:Shared}{a b:Addr}{kvs:List (List Key×V)}{k:List Key}{A:Around}{E:Value→Shared→Prop}
theorem apV{v:V}{Q:Value→Shared→Prop}(hu:A.units+1 < cLine)(I:Inv X pins σ H s)(e:H a=some (.dT kvs))(eb:TupAt X.K H b (k.map kV))(l:fM kvs k=some v)
  (h:∀ w' s',Inv X pins σ (upd H a (.dT (Ua kvs k))) s'→RelV v w'→Q w' s'):wpAny (model X.prog X.w) A (call (.builtin "dict.pop") [.ref a,.ref b]) Q E s:=by
 obtain⟨z,hd,xs,rel,dd⟩:=alY I.uM I.cI e;obtain⟨w',hw,rw'⟩:=BI.some_of (v:=v) (o:=(atKey xs k).map (·.2)) (by rw[← l];exact rel.val k);obtain⟨p,hp,hp2⟩:=aqy.mp hw;have hz:xs.length≤sizeLine:=by rw[← Paired.length rel];exact z
 refine atg PySem.F.slot_dict_pop dd.typeIs PySem.F.entry_dict_pop ?_ (PySem.F.args_dict_pop_2 _ _);unfold Builtin.«dict.pop»;refine adg ?_;unfold Builtin.Dict.keyAndDefault;refine adg (wpAny_notOrdered_dict dd.typeIs ?_);show wpAny _ _ (pure (a,Value.ref b,none)) _ _ s;refine alu ?_;obtain⟨o,es,ep,ho,hc,hdat,he,his,hn⟩:=id dd;have hkp:(keyPart (Value.ref b)).isSome=false:=rfl;simp only[hkp,asD,atd];refine adg (atc ho hdat (adg (alu ?_)));have hes:es.isEmpty=false:=by
  have:=as9 he;cases xs with
  |nil=>cases hp
  |cons x r=>
   rw[ajk] at this;rw[Array.isEmpty,aqz (by omega)]
 simp only[hes,asD,atd];refine adg (aal (as5 hu) (EU I.uM I.cI eb) dd hp hz fun e' hev h' dd' hs=>?_);simp only[Option.isNone_some,asD,atd];refine adg (wpAny_letGo (alu ⟨e'.val,rfl,?_⟩));rw[hev,hp2];obtain⟨q,es',ep',hq,h2,h3,h4,_,h5⟩:=dd';refine h w' _ (SJ I (by rw[e];exact True.intro) hs ⟨q,hq⟩ ⟨ao0 (alX kvs k) z,hd,_,(rel.drop k).keeps fun c ys ec=>?_,q,es',ep',hq,h2,h3,h4,h5⟩) rw';rw[ak (ac6 ec e (fun z=>nomatch z))];exact ec
theorem agB{prog:Program}{w:World}{K:Type}[DecidableEq K]{knd:HeapKind prog w K}{d:Addr}(hd:(d == sysModules)=false) :
  MeetsIn prog w (Builtin.«dict.__len__» ⟨[.ref d],[]⟩) (fun _ R s=>∃ xs,s.heap.DictOfH knd d xs∧R (.ok (.ret (.int xs.length s.toks))) { s with toks:=s.toks+1 }):=
 .of_wp fun A R s ⟨xs,hm,h⟩=>by
  obtain⟨o,es,ep,ho,hc,hdat,he,his,hn⟩:=hm;show wpAny _ _ (dictSize d >>= _) _ _ s;unfold dictSize;refine adg (adg (atc ho hdat (alu ?_)));show wpAny _ _ (Builtin.Dict.pendingCount d >>= _) _ _ s;refine adg (wpAny_pendingCount_other hd ?_);refine wpAny_ret_mkInt ?_;have:es.size=xs.length:=as9 he;rw[Nat.add_zero,this];exact h
theorem apW{Q:Value→Shared→Prop}(I:Inv X pins σ H s)(e:Rd H a (.dT kvs))(h:∀ t s',Inv X pins σ H s'→Q (.int kvs.length t) s'):wpAny (model X.prog X.w) A (call (.builtin "len") [.ref a]) Q E s:=by
 obtain⟨z,hd,xs,rel,dd⟩:=K9 I.uM I.cI e;have hsz:kvs.length=xs.length:=Paired.length rel;have hfit:(xs.length:Int) < 2 ^ 63:=by rw[atr] at z;omega
 refine Calls.call_function_entry kind_len plain_len entry_len (args_len1 _) ?_;unfold Builtin.«len»;refine adg (m:=oneArg "len" _) (alu ?_);refine adg (m:=callSpecial? (.ref a) (Str.ofString "__len__")) (wpAny_callSpecial?_slot (name:=Str.ofString "__len__") dd.typeIs PySem.F.slot_dict_len
  (call_meetsIn PySem.F.slot_dict_len dd.typeIs PySem.F.entry_dict_len (PySem.F.args_dict_len_1 _) (agB hd) ⟨xs,dd,?_⟩))
 show wpAny _ _ _ _ _ { s with toks:=s.toks+1 };refine adg (asM (alu ?_));refine adg (wpAny_letGo ?_);show wpAny _ _ (if ((xs.length:Nat):Int) < 0 then _ else _) _ _ _;rw[acK (by omega)];show wpAny _ _ (if ((xs.length:Nat):Int)≥2 ^ 63 then _ else _) _ _ _;rw[acK (by omega)];refine adg (wpAny_mkInt (alu ⟨_,rfl,?_⟩));rw[← hsz];exact h _ _ (I.tok _)
theorem agC:Ai X (.builtin "len") (fun xs H Q=>∃ a kvs,xs=[V.ref a]∧Rd H a (.dT kvs)∧Q (.int kvs.length) H):=by
 intro pins s σ H xs us Q I r h;obtain⟨a,kvs,rfl,ha,q⟩:=h;obtain⟨u,rfl,ru⟩:=vals1 r;cases ru;exact apW I ha fun t s' I'=>⟨.int kvs.length,H,I',⟨t,rfl⟩,q⟩
def zx39(K:Fg)(ty:TE)(σ:St)(Q:VK)(x:V)(H1:Hp):=fun a=>(x=.ref a∧IsD H1 a∧ty σ H1 fun y H2=>∃ kvs k b v,H2 a=some (.dT kvs)∧y=.ref b∧TupAt K H2 b (k.map kV)∧fM kvs k=some v∧Q v (upd H2 a (.dT (Ua kvs k))))
def apX(K:Fg)(td ty:TE):TE:=fun σ H Q=>td σ H fun x H1=>Exists (zx39 K ty σ Q x H1)
theorem al8{o e:Expr}{apos cpos:Pos}{td ty:TE}(hu:X.A.units+1 < cLine)(ho:PE X o td)(he:PE X e ty)(m:M1 X o "pop" apos e cpos):PE X (.Call (.Attribute o "pop" apos) [e] [] cpos) (apX X.K td ty):=by
 intro pins s σ H Q I h;refine wpAny_Call_method m.base m.Rv m.line PySem.F.plainAttrs_dict PySem.F.slot_dict_pop PySem.F.type_dict_pop (gf (ho pins s σ H _ I h) fun u s1 ⟨x,H1,I1,rx,a,ex,d,q1⟩=>?_);subst ex;obtain rfl:u=Value.ref a:=rx;obtain⟨t1,t2,_⟩:=alZ I1 d;refine⟨t1,t2,?_⟩;rw[m.trees];refine ats rfl (Calls.evalArgs_plain (atG (gf (he pins s1 σ H1 _ I1 q1) fun iv s2 ⟨y,H2,I2,ry,kvs,k,b,v,ea,ey,eb,l,q2⟩=>Calls.spliced_nil ?_)));subst ey;cases (show iv=Value.ref b from ry);exact apV hu I2 ea eb l fun w' s3 I3 rw'=>⟨v,_,I3,rw',q2⟩
end
theorem al9{prog:Program}{w:World}{d:Addr}{o:Obj}{es:Array DictEntry}{ep:Nat}(lo:(d == sysModules)=false)(hc:o.ExactDict)(hd:o.data=.dict es ep) :
  PySem.W.KdlSrc prog w "dict" d d es.size (fun i v=>∃ en,es[i]?=some en∧v=en.key) (fun h=>h.get? d=some o) where
 type:=fun s hm=>⟨o,hm,hc.1⟩
 there:=fun h hm=>⟨anR hm,anR hm⟩
 keep:=fun h h' hm hk=>hk d (.inl rfl) o hm
 notList:=by decide
 notTuple:=by decide
 hint:=fun _ _ s _ hm hq=>PySem.W.kdl_hint_dict (s:=s) ⟨o,hm,hc.1⟩ hq
 iter:=fun A s hh hm=>by
  have hne:d≠s.heap.objs.size:=arB (anR hm);refine⟨_,fun i h=>h.IsKeyIter s.heap.objs.size d i es.size ep∧h.get? d=some o,fun _ _ hq=>OB lo hm hc hd hq,?_,⟨⟨_,anF _ rfl,rfl,rfl⟩,akR _ hm⟩⟩;exact{
   sub:=fun b hb=>by simp at hb ⊢;exact .inl hb
   frame:=fun i h h' st hk=>⟨st.1.at fun o e=>hk _ (by simp) o e,hk d (by simp) o st.2⟩
   item:=fun i s1 Q E hi st hQ=>Iq st.1 st.2 hd rfl (atE hi) fun h' it' sb=>
    hQ _ h' s1.toks ⟨_,Array.getElem?_eq_getElem hi,rfl⟩ ⟨it',(sb.2 d hne).trans st.2⟩ fun b o hb e=>(sb.2 b (by simpa using hb)).trans e
   done:=fun s1 Q E st hQ=>BL hh st.1 st.2 hd rfl (Nat.le_refl _) fun h' eb=>hQ h' s1.toks fun b o hb e=>eb b o (by simpa using hb) e
   self:=fun i s1 Q E st hQ=>wpAny_pyIter_keyiter st.1 hQ }
theorem OE{h:Heap}{a b:Addr}{vs:List Value}{out:Array Value}{o:Obj}(hb:h.get? b=some o)(ne:b≠a):(sortedHeap h a vs out).get? b=some o:=by
 unfold sortedHeap;rw[Heap.get?_update_ne _ _ _ _ ne];exact akR _ (akR _ (by rw[Heap.get?_update_ne _ _ _ _ ne];exact hb))
theorem RA{h:Heap}{a:Addr}{vs:List Value}{out xs:Array Value}{n:Nat}(ha:h.get? a=some (seqObj "list" xs n)):∃ e,(sortedHeap h a vs out).get? a=some (seqObj "list" out e):=by
 unfold sortedHeap;have h1:=get?_update_seq ha (fun _=>#[]);have h2:=akR (seqObj "tuple" vs.toArray 0) h1;have h3:=akR (seqObj "list" #[] 0) h2;exact⟨_,get?_update_seq h3 (fun _=>out)⟩
def adD(K:Fg):List V→Hp→VK→Prop:=fun vs H Q=>∃ (a:Addr) (kvs:List (List Key×V)) (ks:List (List Int)),vs=[.ref a]∧Rd H a (.dT kvs)∧kvs.map (·.1)=ks.map (·.map Sum.inl)∧(∀ k∈ks,k≠[])∧
 ∀ (prs:List (Addr×List Int)) (q:Addr),(prs.map (·.2)).Perm ks→prs.Pairwise (fun x y=>HT.lexLt y.2 x.2=false)→(∀ p∈prs,TupAt K H p.1 (p.2.map V.int))→H q=none→Q (.ref q) (upd H q (.lst (prs.map fun p=>V.ref p.1)))
theorem an8(k:List Int):(k.map Sum.inl).map kV=k.map V.int:=by rw[ao8];rfl
theorem YY{K:Fg}{H:Hp}:∀ {kvs:List (List Key×V)} {xs:List (List Key×Addr×Value)} {ks:List (List Int)},KT K H kvs xs→kvs.map (·.1)=ks.map (·.map Sum.inl)→
  ∃ prs:List (Addr×List Int),prs.map (·.2)=ks∧prs.map (fun p=>Value.ref p.1)=xs.map (fun x=>Value.ref x.2.1)∧∀ p∈prs,TupAt K H p.1 (p.2.map V.int)
 |_,_,[],.nil,_=>⟨[],rfl,rfl,fun _ h=>nomatch h⟩
 |_,_,_::_,.nil,e=>by cases e
 |_,_,[],.cons _ _,e=>by cases e
 |_,_,k::ks,.cons (a:=p) (b:=q) h t,e=>by
  rw[ajR,ajR] at e;injection e with e1 e2;obtain⟨prs,h1,h2,h3⟩:=YY t e2;refine⟨(q.2.1,k)::prs,by rw[ajR,h1],by rw[ajR,ajR,h2],fun z hz=>?_⟩;rcases akS.mp hz with rfl|hz
  ·have:=h.2.1;rw[e1,an8] at this;exact this
  ·exact h3 z hz
section
variable{X:Cx}
theorem agD(hcalm:X.calm=true):Ai X (.builtin "sorted") (adD X.K):=by
 intro pins s σ H xs us Q I r h;obtain⟨a,kvs,ks,rfl,hr,hks,hne,q⟩:=h;obtain⟨u,rfl,ru⟩:=vals1 r;cases ru;obtain⟨z,lo,ys,rel,dd⟩:=K9 I.uM I.cI hr;obtain⟨o,es,ep,ho,hc,hdat,he,his,hn⟩:=id dd;obtain⟨prs,e1,e2,ht⟩:=YY rel hks;have hlen:es.size≤sizeLine:=by rw[as9 he,← Paired.length rel];exact z
 refine Calls.call_function_entry kind_sorted plain_sorted entry_sorted (args_sorted1 _) ?_;unfold Builtin.«sorted»;refine adg (m:=checkCount "sorted" 1 1 _) (alu ?_);refine adg (PySem.W.kdu_collect (A:=X.A.in1) (al9 lo hc hdat) (I.ok.hd hcalm) ho hlen fun h' tk acc hk hacc=>?_);have hvs:acc.toList=prs.map fun p=>Value.ref p.1:=by
  rw[e2];apply List.ext_getElem?;intro i;rw[as8];cases e:acc[i]? with
  |none=>
   have:acc.size≤i:=Array.getElem?_eq_none_iff.mp e;rw[ant,atu (by rw[← as9 he,← hacc.1];exact this)];rfl
  |some v=>
   obtain⟨en,h1,h2⟩:=hacc.2 i v e;rw[entry_at he i] at h1;rw[ant];cases e':ys[i]? with
   |none=>rw[e'] at h1;cases h1
   |some y=>
    rw[e'] at h1;cases h1;subst h2;rfl
 rw[hvs];have hl:prs.length≤sizeLine:=by
  have:=arD List.length e2;rw[aah,aah,← as9 he] at this;rw[this];exact hlen
 refine adg (wpAny_newList ?_ (by rw[aah];exact hl));have hoL:(h'.push { cls:=.type "list",data:=.seq (prs.map fun p=>Value.ref p.1).toArray }).get? h'.objs.size=some (seqObj "list" (prs.map fun p=>Value.ref p.1).toArray 0):=anF _ rfl;have keepH:∀ b ob,s.heap.get? b=some ob→(h'.push { cls:=.type "list",data:=.seq (prs.map fun p=>Value.ref p.1).toArray }).get? b=some ob:=fun b ob e=>akR _ (hk b ob e);have key:∀ p∈prs,G.tupKeyC (h'.push { cls:=.type "list",data:=.seq (prs.map fun p=>Value.ref p.1).toArray }) (fun _=>false) (.ref p.1)=some (p.2.map Sum.inl):=fun p hp=>by
  obtain⟨its,r,⟨o,h1,h2,n,h3⟩,_⟩:=I.adB (ht p hp);have h1:=keepH _ _ h1;unfold G.tupKeyC;have e1:G.isTupObj (h'.push { cls:=.type "list",data:=.seq (prs.map fun p=>Value.ref p.1).toArray }) (.ref p.1)=true:=by simp only[G.isTupObj,h1,h2];rfl
  rw[afO e1];simp only[tupKey,h1,h3];exact Jl 0 r
 have Ol:∀ l:List (Addr×List Int),(∀ p∈l,p∈prs)→∃ fs,TupsOf (h'.push { cls:=.type "list",data:=.seq (prs.map fun p=>Value.ref p.1).toArray }) (fun _=>false) (l.map fun p=>Value.ref p.1) fs:=by
  intro l;induction l with
  |nil=>intro _;exact⟨[],.nil⟩
  |cons p l ih=>
   intro hp;obtain⟨fs,hf⟩:=ih fun z hz=>hp z (aiy _ hz);have hpp:=hp p ajM;obtain⟨its,r,⟨o,h1,h2,n,h3⟩,_⟩:=I.adB (ht p hpp);cases e:p.2 with
   |nil=>exact absurd e (hne _ (e1▸asC hpp))
   |cons y ys=>
    rw[e,ajR] at r;cases r with
    |cons hh tt=>
     obtain⟨tk,rfl⟩:=hh;exact⟨_::fs,.cons ⟨p.1,o,_,n,rfl,keepH _ _ h1,h2,h3,rfl,fun _=>⟨y,tk,rfl⟩,fun z=>nomatch z⟩ hf⟩
 obtain⟨fs,hfs⟩:=Ol prs fun _ z=>z;refine adg (asM (atg slot_list_sort ⟨_,hoL,rfl⟩ entry_list_sort (G.list_sort_tups (shape:=fun _=>false) (fs:=fs) hoL hfs (fun v hv=>?hk) (by rw[aah];exact hl) fun st' hp hs _=>⟨_,rfl,?ret⟩) (args_list_sort _)))
 case hk=>
  obtain⟨p,hp,rfl⟩:=aou.mp hv;exact⟨_,key p hp⟩
 case ret=>
  refine alu ⟨_,rfl,?_⟩;have hl2:(arrOf st').toList.Perm (prs.map fun p=>((Value.ref p.1,Value.ref p.1):Keyed)):=by
   have e:=Array.perm_iff_toList_perm.mp hp;rw[pairsOf_toList,BO] at e;exact e
  obtain⟨prs',hperm,hout⟩:=Lc _ hl2 prs rfl;have kk:∀ (i:Nat) (p:Addr×List Int),prs'[i]?=some p→KK (G.tupKindC (h'.push { cls:=.type "list",data:=.seq (prs.map fun p=>Value.ref p.1).toArray }) (fun _=>false)) (arrOf st') i=p.2.map Sum.inl:=fun i p e=>by
   have e2:(arrOf st')[i]?=some (Value.ref p.1,Value.ref p.1):=by
    rw[← as8,hout,ant,e];rfl
   unfold KK;rw[e2];show(G.tupKeyC _ (fun _=>false) (.ref p.1)).getD _=_;rw[key p (hperm.mem_iff.mp (aqt e))];rfl
  have hpw:prs'.Pairwise (fun x y=>HT.lexLt y.2 x.2=false):=by
   rw[List.pairwise_iff_getElem];intro i j hi hj hij;have h1:=hs i j (ate hij) (by rw[pairsOf_size,aah,← hperm.length_eq];exact hj);rw[kk i _ (aqw hi),kk j _ (aqw hj)] at h1;rw[← aak];exact h1
  have eout:((arrOf st').map (·.2))=(prs'.map fun p=>Value.ref p.1).toArray:=by
   apply Array.toList_inj.mp;rw[Array.toList_map,hout,ao8];rfl
  rw[eout];obtain⟨ep',he'⟩:=RA (vs:=prs.map fun p=>Value.ref p.1) (out:=(prs'.map fun p=>Value.ref p.1).toArray) hoL;have I1:Inv X pins σ H { s with heap:=h',toks:=tk }:=I.kept hk;refine⟨.ref _,upd H h'.objs.size (.lst (prs'.map fun p=>V.ref p.1)),I1.laid (t':=tk) (fun b ob e=>OE (akR _ e) (arB (anR e))) (aiM _) ⟨?_,prs'.map fun p=>Value.ref p.1,ep',OC _ _,he'⟩,rfl,
   q prs' _ (e1▸hperm.map _) hpw (fun p hp=>ht p (hperm.mem_iff.mp hp)) (I1.cI.fresh (aiM _))⟩
  rw[aah,hperm.length_eq];exact hl
end
theorem ajX:typeLookup (.type "list_reverseiterator") "__len__"=pure none:=by rw[typeLookup_type,builtinLookup_eq_fast];kernel_rfl
theorem ama:typeLookup (.type "list_reverseiterator") "__length_hint__"=pure (some (.builtin "list_reverseiterator.__length_hint__")):=by rw[typeLookup_type,builtinLookup_eq_fast];kernel_rfl
section
variable{prog:Program}{w:World}{A:Around}{s:Shared}{R:Result→Shared→Prop}{E:Value→Shared→Prop}
variable{I:Addr}{fp wr:List Addr}{G:Array GenState→Array GenState→Prop}{n:Nat}{P:Nat→Value→Prop}{St:Nat→Shared→Prop}
theorem agE(W:WalksS prog w A.in1 I fp wr G n P St)(hT:∀ i s,St i s→s.TypeIs (.ref I) "list_reverseiterator")(S:Addr)(res:Value)(c₀:Nat)(hst:St 0 s)(hSf:S∉fp)(hI:I∈fp)
  (hS:s.heap.get? S=some { cls:=.type "list",data:=.seq #[] c₀ })
  (hR:∀ s' acc' c',Moved (S::wr) G s s'→s'.heap.get? S=some { cls:=.type "list",dict:=none,data:=.seq acc' c',slots:=#[] }→ItemsOf P acc' n→R (.ok (.ret res)) s') (hn:n≤sizeLine) :
  wpAny (model prog w) A.in1 (Builtin.List.listExtendWith (.ref S) (.ref I) res)
   (fun fin s'=>match fin with|.done f=>R (.ok f) s'|.again c'=>c'.quiet=true∧codeAny (model prog w) A c' R s') (fun e s'=>R (.error e) s') s:=by
 have hSI:S≠I:=fun e=>hSf (e▸hI);have h1:Builtin.List.listSameRef (.ref S) (.ref I)=false:=by simp[Builtin.List.listSameRef,hSI]
 unfold Builtin.List.listExtendWith;refine adg (wpAny_typeOf (hT 0 _ hst) ?_);rw[acK (by rw[h1];decide)];refine adg (W.self 0 _ _ _ hst ?_);refine adg (asM ?_);unfold Builtin.List.listLengthHint;refine adg (wpAny_specialOf (hT 0 _ hst) ajX ?_);show wpAny _ A.in1 (specialOf (Value.ref I) (Str.ofString "__length_hint__") >>= _) _ _ _;refine adg (wpAny_specialOf (hT 0 _ hst) ama ?_)
 (generalize hid:("list_reverseiterator.__length_hint__" : String)=id0;(fail_if_success (clear hid id0));wp_delta;rw[show splitId id0=some ("list_reverseiterator","__length_hint__") from by subst hid;decide +kernel];subst hid)
 refine adg (wpAny_isInstance (b:=true) (hT 0 _ hst) (by rw[isSubtype_type];kernel_rfl) ?_);refine alu ?_;rw[acK (by decide)];exact alu ⟨plainId_quiet PySem.F.plain_extend_loop _,codeAny_extend_loopS W hn _ hSf _ n 0 _ _ _ rfl (aqu _) hst hS (ItemsOf.nil P) hR⟩
theorem XA(W:WalksS prog w A.in1 I fp wr G n P St)(hT:∀ i s,St i s→s.TypeIs (.ref I) "list_reverseiterator")(S:Addr)(hst:St 0 s)(hSf:S∉fp)(hI:I∈fp)
  (hS:s.heap.get? S=some { cls:=.type "list",data:=.seq #[] })
  (hR:∀ s' acc' c',Moved (S::wr) G s s'→s'.heap.get? S=some { cls:=.type "list",dict:=none,data:=.seq acc' c',slots:=#[] }→ItemsOf P acc' n→R (.ok (.ret .none)) s') (hn:n≤sizeLine) :
  wpAny (model prog w) A.in1 (Builtin.«list.__init__» ⟨[.ref S,.ref I],[]⟩)
   (fun fin s'=>match fin with|.done f=>R (.ok f) s'|.again c'=>c'.quiet=true∧codeAny (model prog w) A c' R s') (fun e s'=>R (.error e) s') s:=by
 show wpAny _ A.in1 (do let old ← Builtin.List.listItems (.ref S);Builtin.List.listUpdate (.ref S) (fun _=>#[]);letGo old.toList.reverse;Builtin.List.listExtendWith (.ref S) (.ref I) .none) _ _ s;refine adg ?_;unfold Builtin.List.listItems;refine adg (wpAny_seqItems hS rfl (alu ?_));show wpAny _ A.in1 (updateSeq S (fun _=>#[]) >>= fun _=>letGo (#[]:Array Value).toList.reverse >>= fun _=>Builtin.List.listExtendWith (.ref S) (.ref I) .none) _ _ s;refine adg (wpAny_updateSeq hS rfl ?_);have hS₂:=atw (Obj.mapSeq (fun _=>(#[]:Array Value))) hS rfl;have oth:∀ b o,b≠S→s.heap.get? b=some o→(s.heap.update S (Obj.mapSeq (fun _=>(#[]:Array Value)))).get? b=some o:=
  fun b o hb e=>(Heap.get?_update_other _ _ (Ne.symm hb)).trans e
 refine adg (wpAny_letGo ?_);refine agE (hn:=hn) W hT S .none _ (W.frame 0 s _ s.toks hst (aiM _) fun b hb o e=>oth b o (fun h=>hSf (h▸hb)) e) hSf hI hS₂ fun s' acc' c' hm hS' hacc=>?_;exact hR s' acc' c' (Moved.trans W.gtrans ((Moved.refl W.grefl).then_heap (aiM _) fun b o hb e=>oth b o (fun h=>hb (h▸ajM)) e) hm) hS' hacc
theorem XC{Q:Value→Shared→Prop}(W:WalksS prog w A.in1.in1 I fp wr G n P St)(hT:∀ i s,St i s→s.TypeIs (.ref I) "list_reverseiterator")(hst:St 0 s)(hfp:∀ b∈fp,b < s.heap.objs.size)(hI:I∈fp)
  (hQ:∀ s' acc' c',Moved (s.heap.objs.size::wr) G { s with heap:=s.heap.push { cls:=.type "list",data:=.seq #[] } } s'→
   s'.heap.get? s.heap.objs.size=some { cls:=.type "list",dict:=none,data:=.seq acc' c',slots:=#[] }→ItemsOf P acc' n→Q (.ref s.heap.objs.size) s') (hn:n≤sizeLine) :
  wpAny (model prog w) A (call (.type "list") [.ref I]) Q E s:=by
 have hSf:s.heap.objs.size∉fp:=fun hm=>asy _ (hfp _ hm);refine callType_codes (Q₁:=fun obj s₁=>obj=.ref s.heap.objs.size∧s₁={ s with heap:=s.heap.push { cls:=.type "list",data:=.seq #[] } }) PySem.F.called_list (PySem.F.typeCall_list_1 _) PySem.F.entry_list_init
  (code_list_new _ ⟨rfl,rfl⟩) fun obj s₁ h₁=>?_
 obtain⟨rfl,rfl⟩:=h₁;have hS:(s.heap.push { cls:=.type "list",data:=.seq #[] }).get? s.heap.objs.size=some { cls:=.type "list",data:=.seq #[] }:=anF _ rfl;refine⟨⟨_,hS,rfl⟩,PySem.F.args_list_init_2 _ _,XA (hn:=hn) W hT _ (W.frame 0 s _ s.toks hst (aiM _) fun b _ o e=>akR _ e) hSf hI hS fun s' acc' c' hm hS' hacc=>?_⟩;exact⟨rfl,hQ s' acc' c' hm hS' hacc⟩
theorem ajY(hh:A.handled=none)(it l:Addr)(hne:l≠it)(ol:Obj)(items:Array Value)(hl:∀ h:Heap,h.get? l=some ol→h.IsList l items) :
  Walks prog w A it [it,l] [it] items.size (fun i v=>items[items.size - 1 - i]?=some v) (fun i h=>i≤items.size∧h.IsRevIter it l ((items.size:Int) - 1 - (i:Nat))∧h.get? l=some ol) where
 sub:=fun b hb=>by simp at hb ⊢;exact .inl hb
 frame:=fun i h h' st hk=>⟨st.1,st.2.1.at fun o e=>hk it (by simp) o e,hk l (by simp) ol st.2.2⟩
 item:=fun i s1 Q E hi st hQ=>by
  obtain⟨hin,hit,hl0⟩:=st;have e1:(items.size:Int) - 1 - ((i:Nat):Int)=((items.size - 1 - i:Nat):Int):=by omega
  rw[e1] at hit;have hx:items[items.size - 1 - i]?=some (items[items.size - 1 - i]'(by omega)):=atE _;refine wpAny_pyNext_rev_item hit (hl _ hl0) hx fun h' st' sb=>?_;have e2:((items.size - 1 - i:Nat):Int) - 1=(items.size:Int) - 1 - ((i+1:Nat):Int):=by omega
  rw[e2] at st';exact hQ _ h' s1.toks hx ⟨hi,st',(sb.2 l hne).trans hl0⟩ fun b o hb e=>(sb.2 b (by simpa using hb)).trans e
 done:=fun s1 Q E st hQ=>by
  obtain⟨hin,hit,hl0⟩:=st;have e1:(items.size:Int) - 1 - ((items.size:Nat):Int)=-1:=by omega
  rw[e1] at hit;exact wpAny_pyNext_rev_end hh hit fun h' eb=>hQ h' s1.toks fun b o hb e=>eb b o (by simpa using hb) e
 self:=fun i s1 Q E st hQ=>wpAny_pyIter_revIter st.2.1 hQ
end
section
variable{X:Cx}
def amb(K:Fg)(ta:TA):TE:=fun σ H Q=>ta σ H fun vs H1=>∃ (a:Addr) (xs:List V),vs=[.ref a]∧H1 a=some (.lst xs)∧∀ l,H1 l=none→Q (.ref l) (upd H1 l (.lst xs.reverse))
theorem agF{e:Expr}{ta:TA}{p p2 pos pos2:Pos}(hc:X.calm=true)(hg:Gl X "reversed")(hm:X.mg "reversed"=none)(hg2:Gl X "list")(hm2:X.mg "list"=none)(ha:PA X [e] ta)(hs:starEach [e] X.env=[(false,eval e X.env)]:=by rfl)
  (hs2:starEach [(Expr.Call (.Name "reversed" p) [e] [] pos)] X.env=[(false,eval (Expr.Call (.Name "reversed" p) [e] [] pos) X.env)]:=by rfl) :
  PE X (.Call (.Name "list" p2) [(Expr.Call (.Name "reversed" p) [e] [] pos)] [] pos2) (amb X.K ta):=by
 intro pins s σ H Q I h;refine asG (Jh I hg2 hm2 PyProof.Rows.boot_list (asJ ?_ hs2 rfl));rw[hs2];show wpAny _ _ (spliced ((false,eval (Expr.Call (.Name "reversed" p) [e] [] pos) X.env)::backTo pos2 [])) _ _ s;refine atG ?_;refine Call_ (Jh I hg hm EV (asJ (gf (ha pos pins s σ H _ I h) fun us s1 ⟨vs,H1,I1,r1,q1⟩=>?_) hs rfl));obtain⟨a,xs,ev,hq,q⟩:=q1;subst ev;cases r1 with
 |cons r rr=>
  cases rr;cases r;obtain⟨hz,its,n,rv,ho⟩:=(show iG X.prog X.w X.K H1 s1.heap a (.lst xs) from I1.cI a _ hq);have hl:=rv.length;refine call_reversed_list (items:=its.toArray) ⟨_,ho,rfl,n,rfl⟩ ?_;refine Calls.spliced_nil ?_;have hne:a≠s1.heap.objs.size:=arB (anR ho);have I2:Inv X pins σ H1 { s1 with heap:=s1.heap.push (revObj a ((its.toArray.size:Int) - 1)) }:=I1.kept (t':=s1.toks) fun _ _ q=>akR _ q;have e1:((its.toArray.size:Nat):Int) - 1=(its.toArray.size:Int) - 1 - ((0:Nat):Int):=by omega
  have W:=(ajY (prog:=X.prog) (w:=X.w) (A:=X.A.in1.in1) (I1.ok.hd hc) s1.heap.objs.size a hne { cls:=.type "list",data:=.seq its.toArray n } its.toArray (fun h hh=>⟨_,hh,rfl,n,rfl⟩)).toS;refine XC W (fun i s st=>st.2.1.typeIs) ⟨aqu _,?_,akR _ ho⟩ (fun b hb=>?_) (by simp) (fun s' acc c' hm' hS hacc=>?_) (by rw[anq,← hl];exact hz)
  ·rw[← e1];exact⟨_,anF _ rfl,rfl,rfl⟩
  ·show b < (s1.heap.push _).objs.size;rw[size_push'];rcases akS.mp hb with e|hb
   ·rw[e];exact atf _
   ·rw[aoJ.mp hb];exact atU (anR ho)
  ·rw[Moved.eq_with hm'];have hacc2:acc.toList=its.reverse:=by
    apply List.ext_getElem?;intro i;rw[as8];cases e:acc[i]? with
    |none=>
     have h1:acc.size≤i:=Array.getElem?_eq_none_iff.mp e;have h2:acc.size=its.length:=hacc.1.trans (anq ..);rw[atu (by rw[atm];omega)]
    |some v=>
     have h1:=hacc.2 i v e;have h2:i < acc.size:=(Array.getElem?_eq_some_iff.mp e).1;rw[hacc.1,anq] at h2;rw[anq,List.getElem?_toArray] at h1;rw[List.getElem?_reverse h2,h1]
   have hS':s'.heap.get? (s1.heap.push (revObj a ((its.toArray.size:Int) - 1))).objs.size=some { cls:=.type "list",data:=.seq its.reverse.toArray c' }:=by
    rw[← hacc2,Array.toArray_toList];exact hS
   refine⟨.ref _,upd H1 (s1.heap.push (revObj a ((its.toArray.size:Int) - 1))).objs.size (.lst xs.reverse),I2.ajP (ch:=[s1.heap.objs.size]) (fun b ob hb eb=>hm'.heap b ob (fun hm2=>?_) (akR _ eb)) (fun b hb=>?_) (aiM _) ⟨by rw[atm];exact hz,_,c',rv.reverse,hS'⟩,rfl,q _ (I2.cI.fresh (aiM _))⟩
   ·rcases akS.mp hm2 with e|hm2
    ·exact absurd (anR eb) (by rw[e];exact asy _)
    ·exact hb hm2
   ·rw[aoJ.mp hb];exact I1.ajD (aiM _) (I1.cI.fresh (aiM _))
end
end L2
@[elab_as_elim]
theorem zl0{A:Type}{p:List A→Prop}(us:List A)(h:us.length=0)(k:p []):p us:=by
 cases us with
 |nil=>exact k
 |cons _ _=>cases h
@[elab_as_elim]
theorem zl1{A:Type}{p:List A→Prop}(us:List A)(h:us.length=1)(k:∀ a0,p [a0]):p us:=by
 cases us with
 |nil=>cases h
 |cons a us=>exact zl0 (p:=fun us=>p (a::us)) us (atW h) (k a)
@[elab_as_elim]
theorem zl2{A:Type}{p:List A→Prop}(us:List A)(h:us.length=2)(k:∀ a0 a1,p [a0,a1]):p us:=by
 cases us with
 |nil=>cases h
 |cons a us=>exact zl1 (p:=fun us=>p (a::us)) us (atW h) (k a)
@[elab_as_elim]
theorem zl3{A:Type}{p:List A→Prop}(us:List A)(h:us.length=3)(k:∀ a0 a1 a2,p [a0,a1,a2]):p us:=by
 cases us with
 |nil=>cases h
 |cons a us=>exact zl2 (p:=fun us=>p (a::us)) us (atW h) (k a)
@[elab_as_elim]
theorem zl4{A:Type}{p:List A→Prop}(us:List A)(h:us.length=4)(k:∀ a0 a1 a2 a3,p [a0,a1,a2,a3]):p us:=by
 cases us with
 |nil=>cases h
 |cons a us=>exact zl3 (p:=fun us=>p (a::us)) us (atW h) (k a)
@[elab_as_elim]
theorem zl5{A:Type}{p:List A→Prop}(us:List A)(h:us.length=5)(k:∀ a0 a1 a2 a3 a4,p [a0,a1,a2,a3,a4]):p us:=by
 cases us with
 |nil=>cases h
 |cons a us=>exact zl4 (p:=fun us=>p (a::us)) us (atW h) (k a)
@[elab_as_elim]
theorem zl6{A:Type}{p:List A→Prop}(us:List A)(h:us.length=6)(k:∀ a0 a1 a2 a3 a4 a5,p [a0,a1,a2,a3,a4,a5]):p us:=by
 cases us with
 |nil=>cases h
 |cons a us=>exact zl5 (p:=fun us=>p (a::us)) us (atW h) (k a)
namespace KB
open PySem PySem.Spec PyProof.Rows L2
open PySem.W (fnOf nsIn mg_of keepIn codeIn findIn isFn plainGet hasDictIn plainOver makesIn)
def top(i:Nat):Stmt:=PySem.Challenge.pw_keptbymany_s01_answers.main.body.getD i (.Pass ⟨0,0,0,0⟩)
abbrev bA:Stmt:=(inClass (top 8) 0)
abbrev eI:List Str:=["self","kind","target","key","element","value","amount"]
theorem Uh:aK ["self","kind","target","key","element","value","amount"] eI (ai bA):=⟨rfl,rfl,rfl,by decide +kernel,rfl,by decide +kernel,by decide +kernel⟩
abbrev bV:Stmt:=(inClass (top 8) 1)
abbrev gh:List Str:=["self"]
theorem xT:aK ["self"] gh (ai bV):=⟨rfl,rfl,rfl,by decide +kernel,rfl,by decide +kernel,by decide +kernel⟩
abbrev mS:Stmt:=(inClass (top 9) 0)
abbrev yn:List Str:=["self","keeper","n","t","change"]
theorem adE:aK ["self","keeper","n","t","change"] yn (ai mS):=⟨rfl,rfl,rfl,by decide +kernel,rfl,by decide +kernel,by decide +kernel⟩
abbrev gU:Stmt:=(inClass (top 9) 1)
abbrev pq:List Str:=["self"]
theorem RB:aK ["self"] pq (ai gU):=⟨rfl,rfl,rfl,by decide +kernel,rfl,by decide +kernel,by decide +kernel⟩
abbrev gj:Stmt:=(top 13)
abbrev nA:List Str:=["number","size"]
theorem sN:aK ["number","size","place"] nA (ai gj):=⟨rfl,rfl,rfl,by decide +kernel,rfl,by decide +kernel,by decide +kernel⟩
abbrev cV:Stmt:=(top 14)
abbrev i8:List Str:=["row"]
theorem i9:aK ["row","number","byte"] i8 (ai cV):=⟨rfl,rfl,rfl,by decide +kernel,rfl,by decide +kernel,by decide +kernel⟩
abbrev kL:Stmt:=(top 15)
abbrev vt:List Str:=["number"]
theorem aam:aK ["number"] vt (ai kL):=⟨rfl,rfl,rfl,by decide +kernel,rfl,by decide +kernel,by decide +kernel⟩
abbrev fN:Stmt:=(top 20)
abbrev l7:List Str:=["identity"]
theorem Ld:aK ["identity"] l7 (ai fN):=⟨rfl,rfl,rfl,by decide +kernel,rfl,by decide +kernel,by decide +kernel⟩
abbrev gk:Stmt:=(top 21)
abbrev nB:List Str:=["row"]
theorem OF:aK ["row"] nB (ai gk):=⟨rfl,rfl,rfl,by decide +kernel,rfl,by decide +kernel,by decide +kernel⟩
abbrev fO:Stmt:=(top 36)
abbrev l8:List Str:=["value"]
theorem yo:aK ["value","kind"] l8 (ai fO):=⟨rfl,rfl,rfl,by decide +kernel,rfl,by decide +kernel,by decide +kernel⟩
abbrev cW:Stmt:=(top 37)
abbrev jb:List Str:=["value"]
theorem Dr:aK ["value"] jb (ai cW):=⟨rfl,rfl,rfl,by decide +kernel,rfl,by decide +kernel,by decide +kernel⟩
abbrev fP:Stmt:=(top 38)
abbrev l9:List Str:=["kind"]
theorem Le:aK ["kind"] l9 (ai fP):=⟨rfl,rfl,rfl,by decide +kernel,rfl,by decide +kernel,by decide +kernel⟩
abbrev sO:Stmt:=(top 41)
abbrev GV:List Str:=["keeper","target","k","n","key","value"]
theorem ajZ:aK ["keeper","target","k","n","key","value"] GV (ai sO):=⟨rfl,rfl,rfl,by decide +kernel,rfl,by decide +kernel,by decide +kernel⟩
abbrev kM:Stmt:=(top 42)
abbrev vy:List Str:=["keeper","target","at","n","value"]
theorem Lf:aK ["keeper","target","at","n","value","there"] vy (ai kM):=⟨rfl,rfl,rfl,by decide +kernel,rfl,by decide +kernel,by decide +kernel⟩
abbrev sP:Stmt:=(top 43)
abbrev GW:List Str:=["keeper","target","at","n","value"]
theorem aj0:aK ["keeper","target","at","n","value"] GW (ai sP):=⟨rfl,rfl,rfl,by decide +kernel,rfl,by decide +kernel,by decide +kernel⟩
abbrev kO:Stmt:=(top 44)
abbrev vz:List Str:=["keeper","target","at"]
theorem aan:aK ["keeper","target","at"] vz (ai kO):=⟨rfl,rfl,rfl,by decide +kernel,rfl,by decide +kernel,by decide +kernel⟩
abbrev wJ:Stmt:=(top 45)
abbrev Lg:List Str:=["keeper","kind","target","at","value"]
theorem adF:aK ["keeper","kind","target","at","value","there"] Lg (ai wJ):=⟨rfl,rfl,rfl,by decide +kernel,rfl,by decide +kernel,by decide +kernel⟩
abbrev sQ:Stmt:=(top 46)
abbrev GX:List Str:=["keeper","target","amount"]
theorem aj1:aK ["keeper","target","amount"] GX (ai sQ):=⟨rfl,rfl,rfl,by decide +kernel,rfl,by decide +kernel,by decide +kernel⟩
abbrev kP:Stmt:=(top 47)
abbrev vB:List Str:=["keeper","change"]
theorem Lh:aK ["keeper","change","act"] vB (ai kP):=⟨rfl,rfl,rfl,by decide +kernel,rfl,by decide +kernel,by decide +kernel⟩
abbrev jN:Stmt:=(top 52)
abbrev tM:List Str:=["act"]
theorem Ir:aK ["act","head"] tM (ai jN):=⟨rfl,rfl,rfl,by decide +kernel,rfl,by decide +kernel,by decide +kernel⟩
abbrev pM:Stmt:=(top 53)
abbrev BP:List Str:=["change"]
theorem agG:aK ["change"] BP (ai pM):=⟨rfl,rfl,rfl,by decide +kernel,rfl,by decide +kernel,by decide +kernel⟩
abbrev iP:Stmt:=(top 54)
abbrev qE:List Str:=["message"]
theorem Ui:aK ["message"] qE (ai iP):=⟨rfl,rfl,rfl,by decide +kernel,rfl,by decide +kernel,by decide +kernel⟩
abbrev pN:Stmt:=(top 55)
abbrev BQ:List Str:=["row"]
theorem pO:aK ["row","acts","position","start","end","act"] BQ (ai pN):=⟨rfl,rfl,rfl,by decide +kernel,rfl,by decide +kernel,by decide +kernel⟩
abbrev mT:Stmt:=(top 56)
abbrev yp:List Str:=["message"]
theorem t9:aK ["message","keeper","n","t","change"] yp (ai mT):=⟨rfl,rfl,rfl,by decide +kernel,rfl,by decide +kernel,by decide +kernel⟩
abbrev iQ:Stmt:=(top 57)
abbrev qF:List Str:=["kind","target","rest"]
theorem Uj:aK ["kind","target","rest"] qF (ai iQ):=⟨rfl,rfl,rfl,by decide +kernel,rfl,by decide +kernel,by decide +kernel⟩
abbrev mU:Stmt:=(top 58)
abbrev yq:List Str:=["target","rest"]
theorem QK:aK ["target","rest","end"] yq (ai mU):=⟨rfl,rfl,rfl,by decide +kernel,rfl,by decide +kernel,by decide +kernel⟩
abbrev dw:Stmt:=(top 59)
abbrev jt:List Str:=["kind","target","rest"]
theorem ua:aK ["kind","target","rest","value"] jt (ai dw):=⟨rfl,rfl,rfl,by decide +kernel,rfl,by decide +kernel,by decide +kernel⟩
abbrev mV:Stmt:=(top 62)
abbrev yr:List Str:=["keeper","most","had"]
theorem yt:aK ["keeper","most","had","given","act","message"] yr (ai mV):=⟨rfl,rfl,rfl,by decide +kernel,rfl,by decide +kernel,by decide +kernel⟩
abbrev pP:Stmt:=(top 63)
abbrev BR:List Str:=["keeper","row"]
theorem wK:aK ["keeper","row","acts","count","act"] BR (ai pP):=⟨rfl,rfl,rfl,by decide +kernel,rfl,by decide +kernel,by decide +kernel⟩
abbrev pQ:Stmt:=(top 64)
abbrev BS:List Str:=["giver","taker","most"]
theorem Jm:aK ["giver","taker","most","given","taken"] BS (ai pQ):=⟨rfl,rfl,rfl,by decide +kernel,rfl,by decide +kernel,by decide +kernel⟩
abbrev gm:Stmt:=(inClass (top 66) 0)
abbrev nD:List Str:=["self"]
theorem OG:aK ["self"] nD (ai gm):=⟨rfl,rfl,rfl,by decide +kernel,rfl,by decide +kernel,by decide +kernel⟩
abbrev fQ:Stmt:=(inClass (top 66) 1)
abbrev mh:List Str:=["self","element","before","value"]
theorem Li:aK ["self","element","before","value"] mh (ai fQ):=⟨rfl,rfl,rfl,by decide +kernel,rfl,by decide +kernel,by decide +kernel⟩
abbrev gW:Stmt:=(inClass (top 66) 2)
abbrev pA:List Str:=["self","element","identity","value"]
theorem RC:aK ["self","element","identity","value"] pA (ai gW):=⟨rfl,rfl,rfl,by decide +kernel,rfl,by decide +kernel,by decide +kernel⟩
abbrev dz:Stmt:=(inClass (top 66) 3)
abbrev ju:List Str:=["self","element"]
theorem EY:aK ["self","element"] ju (ai dz):=⟨rfl,rfl,rfl,by decide +kernel,rfl,by decide +kernel,by decide +kernel⟩
abbrev dY:Stmt:=(inClass (top 66) 4)
abbrev jY:List Str:=["self"]
theorem jZ:aK ["self","there","to_visit","element"] jY (ai dY):=⟨rfl,rfl,rfl,by decide +kernel,rfl,by decide +kernel,by decide +kernel⟩
abbrev bM:Stmt:=(inClass (top 66) 5)
abbrev fz:List Str:=["self"]
theorem iu:aK ["self","element"] fz (ai bM):=⟨rfl,rfl,rfl,by decide +kernel,rfl,by decide +kernel,by decide +kernel⟩
abbrev gn:Stmt:=(inClass (top 68) 0)
abbrev nE:List Str:=["self"]
theorem OH:aK ["self"] nE (ai gn):=⟨rfl,rfl,rfl,by decide +kernel,rfl,by decide +kernel,by decide +kernel⟩
abbrev dZ:Stmt:=(inClass (top 68) 1)
abbrev j1:List Str:=["self","target"]
theorem G8:aK ["self","target"] j1 (ai dZ):=⟨rfl,rfl,rfl,by decide +kernel,rfl,by decide +kernel,by decide +kernel⟩
abbrev ef:Stmt:=(inClass (top 68) 2)
abbrev j2:List Str:=["self","target"]
theorem G9:aK ["self","target"] j2 (ai ef):=⟨rfl,rfl,rfl,by decide +kernel,rfl,by decide +kernel,by decide +kernel⟩
abbrev cy:Stmt:=(inClass (top 68) 3)
abbrev gJ:List Str:=["self","target"]
theorem dh:aK ["self","target","entries","keys","key"] gJ (ai cy):=⟨rfl,rfl,rfl,by decide +kernel,rfl,by decide +kernel,by decide +kernel⟩
abbrev bY:Stmt:=(inClass (top 68) 4)
abbrev gx:List Str:=["self","target"]
theorem zz:aK ["self","target"] gx (ai bY):=⟨rfl,rfl,rfl,by decide +kernel,rfl,by decide +kernel,by decide +kernel⟩
abbrev eW:Stmt:=(inClass (top 68) 5)
abbrev kQ:List Str:=["self","target"]
theorem Jo:aK ["self","target"] kQ (ai eW):=⟨rfl,rfl,rfl,by decide +kernel,rfl,by decide +kernel,by decide +kernel⟩
abbrev fR:Stmt:=(inClass (top 68) 6)
abbrev mj:List Str:=["self","act"]
theorem Lj:aK ["self","act"] mj (ai fR):=⟨rfl,rfl,rfl,by decide +kernel,rfl,by decide +kernel,by decide +kernel⟩
abbrev bZ:Stmt:=(inClass (top 68) 7)
abbrev gy:List Str:=["self","act"]
theorem jO:aK ["self","act","value","identity"] gy (ai bZ):=⟨rfl,rfl,rfl,by decide +kernel,rfl,by decide +kernel,by decide +kernel⟩
abbrev cM:Stmt:=(inClass (top 68) 8)
abbrev iw:List Str:=["self","act"]
theorem kR:aK ["self","act","entries","key"] iw (ai cM):=⟨rfl,rfl,rfl,by decide +kernel,rfl,by decide +kernel,by decide +kernel⟩
abbrev bR:Stmt:=(inClass (top 68) 9)
abbrev fS:List Str:=["self","act"]
theorem wL:aK ["self","act"] fS (ai bR):=⟨rfl,rfl,rfl,by decide +kernel,rfl,by decide +kernel,by decide +kernel⟩
abbrev cz:Stmt:=(inClass (top 68) 10)
abbrev gK:List Str:=["self","act"]
theorem j9:aK ["self","act","change","sequence"] gK (ai cz):=⟨rfl,rfl,rfl,by decide +kernel,rfl,by decide +kernel,by decide +kernel⟩
abbrev iR:Stmt:=(inClass (top 73) 0)
abbrev qG:List Str:=["self","who"]
theorem Uk:aK ["self","who"] qG (ai iR):=⟨rfl,rfl,rfl,by decide +kernel,rfl,by decide +kernel,by decide +kernel⟩
abbrev eX:Stmt:=(inClass (top 73) 1)
abbrev kT:List Str:=["self"]
theorem Jp:aK ["self"] kT (ai eX):=⟨rfl,rfl,rfl,by decide +kernel,rfl,by decide +kernel,by decide +kernel⟩
abbrev cX:Stmt:=(inClass (top 73) 2)
abbrev jc:List Str:=["self"]
theorem Ds:aK ["self"] jc (ai cX):=⟨rfl,rfl,rfl,by decide +kernel,rfl,by decide +kernel,by decide +kernel⟩
abbrev kU:Stmt:=(inClass (top 73) 3)
abbrev vC:List Str:=["self","change"]
theorem Lk:aK ["self","change","act"] vC (ai kU):=⟨rfl,rfl,rfl,by decide +kernel,rfl,by decide +kernel,by decide +kernel⟩
abbrev iS:Stmt:=(inClass (top 73) 4)
abbrev qH:List Str:=["self","act"]
theorem Ul:aK ["self","act"] qH (ai iS):=⟨rfl,rfl,rfl,by decide +kernel,rfl,by decide +kernel,by decide +kernel⟩
abbrev iT:Stmt:=(inClass (top 73) 5)
abbrev qI:List Str:=["self","act"]
theorem Um:aK ["self","act"] qI (ai iT):=⟨rfl,rfl,rfl,by decide +kernel,rfl,by decide +kernel,by decide +kernel⟩
abbrev dB:Stmt:=(inClass (top 73) 6)
abbrev jv:List Str:=["self","act"]
theorem EZ:aK ["self","act"] jv (ai dB):=⟨rfl,rfl,rfl,by decide +kernel,rfl,by decide +kernel,by decide +kernel⟩
abbrev cN:Stmt:=(inClass (top 73) 7)
abbrev iy:List Str:=["self"]
theorem fT:aK ["self","count","place"] iy (ai cN):=⟨rfl,rfl,rfl,by decide +kernel,rfl,by decide +kernel,by decide +kernel⟩
abbrev cY:Stmt:=(inClass (top 73) 8)
abbrev jd:List Str:=["self"]
theorem rT:aK ["self","place"] jd (ai cY):=⟨rfl,rfl,rfl,by decide +kernel,rfl,by decide +kernel,by decide +kernel⟩
abbrev eY:Stmt:=(inClass (top 73) 9)
abbrev kW:List Str:=["self","act"]
theorem pR:aK ["self","act","identity"] kW (ai eY):=⟨rfl,rfl,rfl,by decide +kernel,rfl,by decide +kernel,by decide +kernel⟩
abbrev iU:Stmt:=(inClass (top 75) 0)
abbrev qJ:List Str:=["self","numbers"]
theorem Uo:aK ["self","numbers"] qJ (ai iU):=⟨rfl,rfl,rfl,by decide +kernel,rfl,by decide +kernel,by decide +kernel⟩
abbrev eZ:Stmt:=(inClass (top 75) 1)
abbrev kX:List Str:=["self"]
theorem Jq:aK ["self"] kX (ai eZ):=⟨rfl,rfl,rfl,by decide +kernel,rfl,by decide +kernel,by decide +kernel⟩
abbrev cZ:Stmt:=(inClass (top 75) 2)
abbrev je:List Str:=["self"]
theorem rU:aK ["self","number"] je (ai cZ):=⟨rfl,rfl,rfl,by decide +kernel,rfl,by decide +kernel,by decide +kernel⟩
abbrev cA:Stmt:=(inClass (top 75) 3)
abbrev gM:List Str:=["self"]
theorem qe:aK ["self","t"] gM (ai cA):=⟨rfl,rfl,rfl,by decide +kernel,rfl,by decide +kernel,by decide +kernel⟩
abbrev fb:Stmt:=(inClass (top 75) 4)
abbrev kY:List Str:=["self"]
theorem wM:aK ["self","start"] kY (ai fb):=⟨rfl,rfl,rfl,by decide +kernel,rfl,by decide +kernel,by decide +kernel⟩
abbrev pS:Stmt:=(top 86)
abbrev BU:List Str:=["keeper","most"]
theorem Up:aK ["keeper","most","told"] BU (ai pS):=⟨rfl,rfl,rfl,by decide +kernel,rfl,by decide +kernel,by decide +kernel⟩
abbrev gp:Stmt:=(top 87)
abbrev nF:List Str:=["document"]
theorem nG:aK ["document","told","to_tell","piece"] nF (ai gp):=⟨rfl,rfl,rfl,by decide +kernel,rfl,by decide +kernel,by decide +kernel⟩
abbrev kZ:Stmt:=(top 88)
abbrev vD:List Str:=["document","target"]
theorem Ll:aK ["document","target","kind"] vD (ai kZ):=⟨rfl,rfl,rfl,by decide +kernel,rfl,by decide +kernel,by decide +kernel⟩
abbrev gq:Stmt:=(top 89)
abbrev nH:List Str:=["entries"]
theorem iL:aK ["entries","pieces","comma","key","entry"] nH (ai gq):=⟨rfl,rfl,rfl,by decide +kernel,rfl,by decide +kernel,by decide +kernel⟩
abbrev fU:Stmt:=(top 90)
abbrev mo:List Str:=["entries"]
theorem jw:aK ["entries","pieces","comma","entry"] mo (ai fU):=⟨rfl,rfl,rfl,by decide +kernel,rfl,by decide +kernel,by decide +kernel⟩
abbrev fV:Stmt:=(top 91)
abbrev mq:List Str:=["entry"]
theorem yu:aK ["entry","value"] mq (ai fV):=⟨rfl,rfl,rfl,by decide +kernel,rfl,by decide +kernel,by decide +kernel⟩
abbrev gX:Stmt:=(top 92)
abbrev pB:List Str:=["number"]
theorem uG:aK ["number","sign"] pB (ai gX):=⟨rfl,rfl,rfl,by decide +kernel,rfl,by decide +kernel,by decide +kernel⟩
abbrev k6:Stmt:=(top 93)
abbrev vE:List Str:=["content"]
theorem BV:aK ["content","told","byte"] vE (ai k6):=⟨rfl,rfl,rfl,by decide +kernel,rfl,by decide +kernel,by decide +kernel⟩
abbrev jP:Stmt:=(top 95)
abbrev tN:List Str:=["keepers","reader"]
theorem zA:aK ["keepers","reader","o","who"] tN (ai jP):=⟨rfl,rfl,rfl,by decide +kernel,rfl,by decide +kernel,by decide +kernel⟩
abbrev mW:Stmt:=(top 96)
abbrev yw:List Str:=["keepers","reader"]
theorem mX:aK ["keepers","reader","keeper","target","k","n","key","value"] yw (ai mW):=⟨rfl,rfl,rfl,by decide +kernel,rfl,by decide +kernel,by decide +kernel⟩
abbrev iV:Stmt:=(top 97)
abbrev qK:List Str:=["keepers","reader"]
theorem Uq:aK ["keepers","reader"] qK (ai iV):=⟨rfl,rfl,rfl,by decide +kernel,rfl,by decide +kernel,by decide +kernel⟩
abbrev mY:Stmt:=(top 98)
abbrev yx:List Str:=["keepers","reader"]
theorem adG:aK ["keepers","reader"] yx (ai mY):=⟨rfl,rfl,rfl,by decide +kernel,rfl,by decide +kernel,by decide +kernel⟩
abbrev ff:Stmt:=(top 99)
abbrev k7:List Str:=["keepers","reader","do"]
theorem gr:aK ["keepers","reader","do","keeper","target","at","n","value"] k7 (ai ff):=⟨rfl,rfl,rfl,by decide +kernel,rfl,by decide +kernel,by decide +kernel⟩
abbrev iW:Stmt:=(top 100)
abbrev qL:List Str:=["keepers","reader"]
theorem qM:aK ["keepers","reader","keeper","target","at"] qL (ai iW):=⟨rfl,rfl,rfl,by decide +kernel,rfl,by decide +kernel,by decide +kernel⟩
abbrev mZ:Stmt:=(top 101)
abbrev yy:List Str:=["keepers","reader"]
theorem yz:aK ["keepers","reader","keeper","target","amount"] yy (ai mZ):=⟨rfl,rfl,rfl,by decide +kernel,rfl,by decide +kernel,by decide +kernel⟩
abbrev jQ:Stmt:=(top 102)
abbrev tO:List Str:=["keepers","reader"]
theorem tP:aK ["keepers","reader","keeper","most","had"] tO (ai jQ):=⟨rfl,rfl,rfl,by decide +kernel,rfl,by decide +kernel,by decide +kernel⟩
abbrev k8:Stmt:=(top 103)
abbrev vF:List Str:=["keepers","reader"]
theorem Lm:aK ["keepers","reader","keeper"] vF (ai k8):=⟨rfl,rfl,rfl,by decide +kernel,rfl,by decide +kernel,by decide +kernel⟩
abbrev m5:Stmt:=(top 104)
abbrev yC:List Str:=["keepers","reader"]
theorem QL:aK ["keepers","reader","keeper"] yC (ai m5):=⟨rfl,rfl,rfl,by decide +kernel,rfl,by decide +kernel,by decide +kernel⟩
abbrev k9:Stmt:=(top 105)
abbrev vG:List Str:=["keepers","reader"]
theorem Ln:aK ["keepers","reader","keeper"] vG (ai k9):=⟨rfl,rfl,rfl,by decide +kernel,rfl,by decide +kernel,by decide +kernel⟩
abbrev lg:Stmt:=(top 106)
abbrev vH:List Str:=["keepers","reader"]
theorem BW:aK ["keepers","reader","giver","taker"] vH (ai lg):=⟨rfl,rfl,rfl,by decide +kernel,rfl,by decide +kernel,by decide +kernel⟩
abbrev pT:Stmt:=(top 108)
abbrev BX:List Str:=["calls"]
theorem sR:aK ["calls","keepers","reader","answered","call","answer"] BX (ai pT):=⟨rfl,rfl,rfl,by decide +kernel,rfl,by decide +kernel,by decide +kernel⟩
def jR:List V→List V→List V:=fun us ws=>if us.length=3∧ws.length=2 then [us.getD 0 .dN,us.getD 1 .dN,us.getD 2 .dN,ws.getD 0 .dN,.dN,ws.getD 1 .dN,.int 0] else []
def jS(kd:Tok):List Value→List Value→List Value:=fun us ws=>if us.length=3∧ws.length=2 then [us.getD 0 .none,us.getD 1 .none,us.getD 2 .none,ws.getD 0 .none,.none,ws.getD 1 .none,.int 0 kd] else []
theorem xU{K:Fg}{qn nm:Str}{dv:Addr}{odd:Option Addr}{kd:Tok}{nd:Nat}{sld:Array (Option Value)}{kV dc pm cd ct:Value}{an:Option Addr}
  (hd:K.lookup dv=some ⟨.type "tuple",odd,.seq #[.none,.none,.none,.int 0 kd] nd,sld⟩) :
  ∃ g,zx K (fnOf nm qn (aE bA) (aD bA) (ai bA) (.ref dv) kV dc pm an cd ct) eI ["key","value"] g jR:=by
 refine⟨jS kd,fun s us ws Xu hl=>?_,fun{vs us zs ws} r z=>?_⟩
 ·by_cases h:us.length=3∧ws.length=2
  ·match us,ws,h with
   |[u0,u1,u2],[w0,w1],_=>exact .of_defaults (T:=dv) rfl (Xu _ _ hd) rfl rfl rfl
  ·unfold jS at hl;rw[acK h] at hl;cases hl
 ·unfold jR jS;rw[← r.length,← z.length];by_cases h:vs.length=3∧zs.length=2
  ·rw[afO h,afO h];exact .cons (r.getD 0) (.cons (r.getD 1) (.cons (r.getD 2) (.cons (z.getD 0) (.cons rfl (.cons (z.getD 1) (.cons ⟨_,rfl⟩ (.nil)))))))
  ·rw[acK h,acK h];exact .nil
def gY:List V→List V→List V:=fun us ws=>if us.length=3∧ws.length=2 then [us.getD 0 .dN,us.getD 1 .dN,us.getD 2 .dN,.dN,ws.getD 0 .dN,ws.getD 1 .dN,.int 0] else []
def gZ(kd:Tok):List Value→List Value→List Value:=fun us ws=>if us.length=3∧ws.length=2 then [us.getD 0 .none,us.getD 1 .none,us.getD 2 .none,.none,ws.getD 0 .none,ws.getD 1 .none,.int 0 kd] else []
theorem uc{K:Fg}{qn nm:Str}{dv:Addr}{odd:Option Addr}{kd:Tok}{nd:Nat}{sld:Array (Option Value)}{kV dc pm cd ct:Value}{an:Option Addr}
  (hd:K.lookup dv=some ⟨.type "tuple",odd,.seq #[.none,.none,.none,.int 0 kd] nd,sld⟩) :
  ∃ g,zx K (fnOf nm qn (aE bA) (aD bA) (ai bA) (.ref dv) kV dc pm an cd ct) eI ["element","value"] g gY:=by
 refine⟨gZ kd,fun s us ws Xu hl=>?_,fun{vs us zs ws} r z=>?_⟩
 ·by_cases h:us.length=3∧ws.length=2
  ·match us,ws,h with
   |[u0,u1,u2],[w0,w1],_=>exact .of_defaults (T:=dv) rfl (Xu _ _ hd) rfl rfl rfl
  ·unfold gZ at hl;rw[acK h] at hl;cases hl
 ·unfold gY gZ;rw[← r.length,← z.length];by_cases h:vs.length=3∧zs.length=2
  ·rw[afO h,afO h];exact .cons (r.getD 0) (.cons (r.getD 1) (.cons (r.getD 2) (.cons rfl (.cons (z.getD 0) (.cons (z.getD 1) (.cons ⟨_,rfl⟩ (.nil)))))))
  ·rw[acK h,acK h];exact .nil
def lR:List V→List V→List V:=fun us ws=>if us.length=3∧ws.length=1 then [us.getD 0 .dN,us.getD 1 .dN,us.getD 2 .dN,.dN,.dN,.dN,ws.getD 0 .dN] else []
def lS(kd:Tok):List Value→List Value→List Value:=fun us ws=>if us.length=3∧ws.length=1 then [us.getD 0 .none,us.getD 1 .none,us.getD 2 .none,.none,.none,.none,ws.getD 0 .none] else []
theorem BY{K:Fg}{qn nm:Str}{dv:Addr}{odd:Option Addr}{kd:Tok}{nd:Nat}{sld:Array (Option Value)}{kV dc pm cd ct:Value}{an:Option Addr}
  (hd:K.lookup dv=some ⟨.type "tuple",odd,.seq #[.none,.none,.none,.int 0 kd] nd,sld⟩) :
  ∃ g,zx K (fnOf nm qn (aE bA) (aD bA) (ai bA) (.ref dv) kV dc pm an cd ct) eI ["amount"] g lR:=by
 refine⟨lS kd,fun s us ws Xu hl=>?_,fun{vs us zs ws} r z=>?_⟩
 ·by_cases h:us.length=3∧ws.length=1
  ·match us,ws,h with
   |[u0,u1,u2],[w0],_=>exact .of_defaults (T:=dv) rfl (Xu _ _ hd) rfl rfl rfl
  ·unfold lS at hl;rw[acK h] at hl;cases hl
 ·unfold lR lS;rw[← r.length,← z.length];by_cases h:vs.length=3∧zs.length=1
  ·rw[afO h,afO h];exact .cons (r.getD 0) (.cons (r.getD 1) (.cons (r.getD 2) (.cons rfl (.cons rfl (.cons rfl (.cons (z.getD 0) (.nil)))))))
  ·rw[acK h,acK h];exact .nil
def lj:List V→List V→List V:=fun us ws=>if us.length=3∧ws.length=1 then [us.getD 0 .dN,us.getD 1 .dN,us.getD 2 .dN,.dN,ws.getD 0 .dN,.dN,.int 0] else []
def lq(kd:Tok):List Value→List Value→List Value:=fun us ws=>if us.length=3∧ws.length=1 then [us.getD 0 .none,us.getD 1 .none,us.getD 2 .none,.none,ws.getD 0 .none,.none,.int 0 kd] else []
theorem Ao{K:Fg}{qn nm:Str}{dv:Addr}{odd:Option Addr}{kd:Tok}{nd:Nat}{sld:Array (Option Value)}{kV dc pm cd ct:Value}{an:Option Addr}
  (hd:K.lookup dv=some ⟨.type "tuple",odd,.seq #[.none,.none,.none,.int 0 kd] nd,sld⟩) :
  ∃ g,zx K (fnOf nm qn (aE bA) (aD bA) (ai bA) (.ref dv) kV dc pm an cd ct) eI ["element"] g lj:=by
 refine⟨lq kd,fun s us ws Xu hl=>?_,fun{vs us zs ws} r z=>?_⟩
 ·by_cases h:us.length=3∧ws.length=1
  ·match us,ws,h with
   |[u0,u1,u2],[w0],_=>exact .of_defaults (T:=dv) rfl (Xu _ _ hd) rfl rfl rfl
  ·unfold lq at hl;rw[acK h] at hl;cases hl
 ·unfold lj lq;rw[← r.length,← z.length];by_cases h:vs.length=3∧zs.length=1
  ·rw[afO h,afO h];exact .cons (r.getD 0) (.cons (r.getD 1) (.cons (r.getD 2) (.cons rfl (.cons (z.getD 0) (.cons rfl (.cons ⟨_,rfl⟩ (.nil)))))))
  ·rw[acK h,acK h];exact .nil
set_option genInjectivity false in
structure dX where
 bH:Addr
 iH:Addr
 aU:Addr
 aI:Addr
 az:Addr
 aV:Addr
 fD:Addr
 iX:FuncData
 bu:Addr
 gi:FuncData
 jT:Addr
 yD:FuncData
 eJ:Addr
 pC:FuncData
 eM:Addr
 nI:FuncData
 bW:Addr
 jf:FuncData
 jx:Addr
 vI:FuncData
 dQ:Addr
 mw:FuncData
 eN:Addr
 nJ:FuncData
 dR:Addr
 my:FuncData
 bX:Addr
 jg:FuncData
 dS:Addr
 mz:FuncData
 qN:Addr
 GY:FuncData
 fm:Addr
 vJ:FuncData
 kg:Addr
 GZ:FuncData
 jy:Addr
 vK:FuncData
 vL:Addr
 Lo:FuncData
 qO:Addr
 G0:FuncData
 jz:Addr
 vM:FuncData
 iA:Addr
 tQ:FuncData
 nL:Addr
 BZ:FuncData
 gz:Addr
 qP:FuncData
 nM:Addr
 B0:FuncData
 lu:Addr
 yE:FuncData
 gA:Addr
 qQ:FuncData
 ly:Addr
 yF:FuncData
 ck:Addr
 jB:FuncData
 lz:Addr
 yG:FuncData
 nN:Addr
 B3:FuncData
 nO:Addr
 B4:FuncData
 dG:Addr
 nP:FuncData
 cR:Addr
 mC:FuncData
 eK:Addr
 pD:FuncData
 bT:Addr
 jC:FuncData
 b5:Addr
 j3:FuncData
 bg:Addr
 fB:FuncData
 dH:Addr
 nQ:FuncData
 b7:Addr
 j4:FuncData
 b8:Addr
 j5:FuncData
 bD:Addr
 gO:FuncData
 bw:Addr
 gB:FuncData
 cC:Addr
 lA:FuncData
 cS:Addr
 mD:FuncData
 bx:Addr
 gC:FuncData
 bI:Addr
 iC:FuncData
 bj:Addr
 fW:FuncData
 bE:Addr
 gP:FuncData
 fE:Addr
 qR:FuncData
 cD:Addr
 lB:FuncData
 bN:Addr
 jh:FuncData
 iJ:Addr
 vN:FuncData
 fF:Addr
 qS:FuncData
 fG:Addr
 qT:FuncData
 bU:Addr
 jD:FuncData
 bJ:Addr
 iD:FuncData
 bO:Addr
 ji:FuncData
 cE:Addr
 lC:FuncData
 fH:Addr
 qU:FuncData
 cF:Addr
 lD:FuncData
 bP:Addr
 jj:FuncData
 bF:Addr
 gQ:FuncData
 cG:Addr
 lE:FuncData
 nR:Addr
 B5:FuncData
 eO:Addr
 nS:FuncData
 jE:Addr
 vO:FuncData
 eR:Addr
 nT:FuncData
 dU:Addr
 mE:FuncData
 dW:Addr
 mF:FuncData
 fX:Addr
 pF:FuncData
 jF:Addr
 vP:FuncData
 eS:Addr
 tR:FuncData
 g4:Addr
 yH:FuncData
 dI:Addr
 qV:FuncData
 g6:Addr
 yI:FuncData
 c8:Addr
 lF:FuncData
 dJ:Addr
 qW:FuncData
 g7:Addr
 yJ:FuncData
 eT:Addr
 tS:FuncData
 f7:Addr
 vQ:FuncData
 g8:Addr
 yK:FuncData
 f9:Addr
 vR:FuncData
 gb:Addr
 vS:FuncData
 nU:Addr
 sS:FuncData
 kh:Addr
 fC:Addr
 nV:Addr
 vU:Addr
structure Txt(K:Fg)(mg:Str→Option Value)(a:dX):Prop where
 aN:Cls K a.bH
 qX:mg "Change"=some (.ref a.bH)
 nW:Mk K a.bH a.fD
 br:dO K a.bH "kind"
 cB:dO K a.bH "target"
 oU:dO K a.bH "key"
 cH:dO K a.bH "element"
 dM:dO K a.bH "value"
 nX:dO K a.bH "amount"
 ow:oH K a.bH "told_identities" a.bu
 bG:Cls K a.iH
 amc:mg "Act"=some (.ref a.iH)
 agH:Mk K a.iH a.jT
 cT:dO K a.iH "keeper"
 ud:dO K a.iH "n"
 wN:dO K a.iH "t"
 bq:dO K a.iH "change"
 gc:oH K a.iH "identity" a.eJ
 bB:Cls K a.aU
 Ur:mg "Sequence"=some (.ref a.aU)
 QM:Mk K a.aU a.dG
 cO:dO K a.aU "behind"
 fg:dO K a.aU "newest"
 j6:dO K a.aU "removed"
 yL:oH K a.aU "place" a.cR
 CO:oH K a.aU "put" a.eK
 ue:oH K a.aU "take_out" a.bT
 oJ:oH K a.aU "present" a.b5
 mG:oH K a.aU "entries_present" a.bg
 aS:Cls K a.aI
 Us:mg "Document"=some (.ref a.aI)
 QN:Mk K a.aI a.dH
 mH:dO K a.aI "kinds"
 ki:dO K a.aI "maps"
 eE:dO K a.aI "sequences"
 kj:dO K a.aI "sums"
 cu:oH K a.aI "kind_of" a.b7
 oK:oH K a.aI "present" a.b8
 qf:oH K a.aI "map_entries" a.bD
 oV:oH K a.aI "list_entries" a.bw
 wO:oH K a.aI "sum_of" a.cC
 yM:oH K a.aI "apply" a.cS
 oW:oH K a.aI "bring_object" a.bx
 qY:oH K a.aI "change_map" a.bI
 m6:oH K a.aI "change_counter" a.bj
 qg:oH K a.aI "change_list" a.bE
 aO:Cls K a.az
 adH:mg "Keeper"=some (.ref a.az)
 YZ:Mk K a.az a.fE
 oX:dO K a.az "who"
 m7:dO K a.az "acts"
 fq:dO K a.az "counts"
 jG:dO K a.az "last_times"
 ko:dO K a.az "time"
 pG:dO K a.az "known"
 eu:dO K a.az "waiting"
 b9:dO K a.az "document"
 pU:oH K a.az "has_room" a.cD
 rV:oH K a.az "can_do_more" a.bN
 Lp:oH K a.az "do" a.iJ
 wQ:oH K a.az "have" a.fF
 E2:oH K a.az "come" a.fG
 uf:oH K a.az "leaves_out" a.bU
 qZ:oH K a.az "have_waiting" a.bJ
 lT:oH K a.az "first_ready" a.bO
 wR:oH K a.az "is_ready" a.cE
 aQ:Cls K a.aV
 adI:mg "Reader"=some (.ref a.aV)
 Y0:Mk K a.aV a.fH
 gR:dO K a.aV "numbers"
 cP:dO K a.aV "position"
 wU:oH K a.aV "has_more" a.cF
 aC:oH K a.aV "read_number" a.bP
 fu:oH K a.aV "read_identity" a.bF
 gu:oH K a.aV "read_row" a.cG
 Iu:an6 K "__init__" "Change.__init__" bA a.fD a.iX
 jU:∃ g,zx K a.iX eI ["key","value"] g jR
 eU:∃ g,zx K a.iX eI ["element","value"] g gY
 lU:∃ g,zx K a.iX eI ["amount"] g lR
 rf:∃ g,zx K a.iX eI ["element"] g lj
 oY:jM K "told_identities" "Change.told_identities" bV a.bu a.gi
 oZ:Binds K a.gi gh []
 Ut:jM K "__init__" "Act.__init__" mS a.jT a.yD
 Jr:Binds K a.yD yn []
 E3:jM K "identity" "Act.identity" gU a.eJ a.pC
 gF:Binds K a.pC pq []
 g9:jM K "little_endian" "little_endian" gj a.eM a.nI
 jn:Binds K a.nI nA []
 jo:mg "little_endian"=some (.ref a.eM)
 cK:jM K "from_little_endian" "from_little_endian" cV a.bW a.jf
 dD:Binds K a.jf i8 []
 dF:mg "from_little_endian"=some (.ref a.bW)
 ug:jM K "with_sign" "with_sign" kL a.jx a.vI
 yN:Binds K a.vI vt []
 yO:mg "with_sign"=some (.ref a.jx)
 iM:jM K "identity_bytes" "identity_bytes" fN a.dQ a.mw
 ku:Binds K a.mw l7 []
 kC:mg "identity_bytes"=some (.ref a.dQ)
 lM:jM K "identity_from" "identity_from" gk a.eN a.nJ
 pH:Binds K a.nJ nB []
 pI:mg "identity_from"=some (.ref a.eN)
 kD:jM K "is_whole_value" "is_whole_value" fO a.dR a.my
 nY:Binds K a.my l8 []
 nZ:mg "is_whole_value"=some (.ref a.dR)
 gG:jM K "is_whole_something" "is_whole_something" cW a.bX a.jg
 jH:Binds K a.jg jb []
 jI:mg "is_whole_something"=some (.ref a.bX)
 oh:jM K "is_object_kind" "is_object_kind" fP a.dS a.mz
 sU:Binds K a.mz l9 []
 sV:mg "is_object_kind"=some (.ref a.dS)
 Uu:jM K "do_set" "do_set" sO a.qN a.GY
 adJ:Binds K a.GY GV []
 adK:mg "do_set"=some (.ref a.qN)
 E4:jM K "do_insert" "do_insert" kM a.fm a.vJ
 QO:Binds K a.vJ vy []
 QS:mg "do_insert"=some (.ref a.fm)
 Uv:jM K "do_put" "do_put" sP a.kg a.GZ
 adL:Binds K a.GZ GW []
 adM:mg "do_put"=some (.ref a.kg)
 E5:jM K "do_remove" "do_remove" kO a.jy a.vK
 QT:Binds K a.vK vz []
 QU:mg "do_remove"=some (.ref a.jy)
 SQ:jM K "do_at" "do_at" wJ a.vL a.Lo
 aao:Binds K a.Lo Lg []
 aap:mg "do_at"=some (.ref a.vL)
 Uw:jM K "do_add" "do_add" sQ a.qO a.G0
 adN:Binds K a.G0 GX []
 adO:mg "do_add"=some (.ref a.qO)
 qh:jM K "do_change" "do_change" kP a.jz a.vM
 uh:Binds K a.vM vB []
 um:mg "do_change"=some (.ref a.jz)
 B6:jM K "message_of" "message_of" jN a.iA a.tQ
 Lq:Binds K a.tQ tM []
 Lr:mg "message_of"=some (.ref a.iA)
 OI:jM K "rest_of" "rest_of" pM a.nL a.BZ
 Y3:Binds K a.BZ BP []
 Y4:mg "rest_of"=some (.ref a.nL)
 zC:jM K "with_length" "with_length" iP a.gz a.qP
 Iv:Binds K a.qP qE []
 Iw:mg "with_length"=some (.ref a.gz)
 OJ:jM K "acts_in" "acts_in" pN a.nM a.B0
 Y5:Binds K a.B0 BQ []
 Y6:mg "acts_in"=some (.ref a.nM)
 Js:jM K "act_from" "act_from" mT a.lu a.yE
 Ux:Binds K a.yE yp []
 Uy:mg "act_from"=some (.ref a.lu)
 zD:jM K "change_from" "change_from" iQ a.gA a.qQ
 Iz:Binds K a.qQ qF []
 IA:mg "change_from"=some (.ref a.gA)
 Jt:jM K "set_from" "set_from" mU a.ly a.yF
 Uz:Binds K a.yF yq []
 UA:mg "set_from"=some (.ref a.ly)
 oM:jM K "value_change_from" "value_change_from" dw a.ck a.jB
 uN:Binds K a.jB jt []
 uO:mg "value_change_from"=some (.ref a.ck)
 B7:jM K "do_since" "do_since" mV a.lz a.yG
 Ju:Binds K a.yG yr []
 Jv:mg "do_since"=some (.ref a.lz)
 G5:jM K "do_take" "do_take" pP a.nN a.B3
 OL:Binds K a.B3 BR []
 OM:mg "do_take"=some (.ref a.nN)
 ON:jM K "do_hand" "do_hand" pQ a.nO a.B4
 Y7:Binds K a.B4 BS []
 Y8:mg "do_hand"=some (.ref a.nO)
 CQ:jM K "__init__" "Sequence.__init__" gm a.dG a.nP
 CS:Binds K a.nP nD []
 Aq:jM K "place" "Sequence.place" fQ a.cR a.mC
 Ar:Binds K a.mC mh []
 E6:jM K "put" "Sequence.put" gW a.eK a.pD
 E7:Binds K a.pD pA []
 uP:jM K "take_out" "Sequence.take_out" dz a.bT a.jC
 uQ:Binds K a.jC ju []
 wV:jM K "present" "Sequence.present" dY a.b5 a.j3
 pV:Binds K a.j3 jY []
 m8:jM K "entries_present" "Sequence.entries_present" bM a.bg a.fB
 m9:Binds K a.fB fz []
 CT:jM K "__init__" "Document.__init__" gn a.dH a.nQ
 CU:Binds K a.nQ nE []
 wW:jM K "kind_of" "Document.kind_of" dZ a.b7 a.j4
 cQ:Binds K a.j4 j1 []
 wX:jM K "present" "Document.present" ef a.b8 a.j5
 pW:Binds K a.j5 j2 []
 rg:jM K "map_entries" "Document.map_entries" cy a.bD a.gO
 rh:Binds K a.gO gJ []
 qi:jM K "list_entries" "Document.list_entries" bY a.bw a.gB
 qj:Binds K a.gB gx []
 yP:jM K "sum_of" "Document.sum_of" eW a.cC a.lA
 yQ:Binds K a.lA kQ []
 As:jM K "apply" "Document.apply" fR a.cS a.mD
 Au:Binds K a.mD mj []
 qo:jM K "bring_object" "Document.bring_object" bZ a.bx a.gC
 qp:Binds K a.gC gy []
 rW:jM K "change_map" "Document.change_map" cM a.bI a.iC
 rX:Binds K a.iC iw []
 oz:jM K "change_counter" "Document.change_counter" bR a.bj a.fW
 oA:Binds K a.fW fS []
 rj:jM K "change_list" "Document.change_list" cz a.bE a.gP
 rm:Binds K a.gP gK []
 IB:jM K "__init__" "Keeper.__init__" iR a.fE a.qR
 IC:Binds K a.qR qG []
 yR:jM K "has_room" "Keeper.has_room" eX a.cD a.lB
 rq:Binds K a.lB kT []
 uo:jM K "can_do_more" "Keeper.can_do_more" cX a.bN a.jh
 uq:Binds K a.jh jc []
 QV:jM K "do" "Keeper.do" kU a.iJ a.vN
 QW:Binds K a.vN vC []
 ID:jM K "have" "Keeper.have" iS a.fF a.qS
 zE:Binds K a.qS qH []
 IE:jM K "come" "Keeper.come" iT a.fG a.qT
 IF:Binds K a.qT qI []
 uR:jM K "leaves_out" "Keeper.leaves_out" dB a.bU a.jD
 uS:Binds K a.jD jv []
 rY:jM K "have_waiting" "Keeper.have_waiting" cN a.bJ a.iD
 rZ:Binds K a.iD iy []
 ur:jM K "first_ready" "Keeper.first_ready" cY a.bO a.ji
 ng:Binds K a.ji jd []
 yS:jM K "is_ready" "Keeper.is_ready" eY a.cE a.lC
 yT:Binds K a.lC kW []
 IG:jM K "__init__" "Reader.__init__" iU a.fH a.qU
 II:Binds K a.qU qJ []
 yU:jM K "has_more" "Reader.has_more" eZ a.cF a.lD
 yV:Binds K a.lD kX []
 uu:jM K "read_number" "Reader.read_number" cZ a.bP a.jj
 aH:Binds K a.jj je []
 rA:jM K "read_identity" "Reader.read_identity" cA a.bF a.gQ
 fY:Binds K a.gQ gM []
 yW:jM K "read_row" "Reader.read_row" fb a.cG a.lE
 gS:Binds K a.lE kY []
 OO:jM K "do_tell" "do_tell" pS a.nR a.B5
 Y9:Binds K a.B5 BU []
 Za:mg "do_tell"=some (.ref a.nR)
 uH:jM K "tell_document" "tell_document" gp a.eO a.nS
 CV:Binds K a.nS nF []
 CW:mg "tell_document"=some (.ref a.eO)
 E8:jM K "pieces_of" "pieces_of" kZ a.jE a.vO
 QX:Binds K a.vO vD []
 QY:mg "pieces_of"=some (.ref a.jE)
 uI:jM K "pieces_of_map" "pieces_of_map" gq a.eR a.nT
 CY:Binds K a.nT nH []
 CZ:mg "pieces_of_map"=some (.ref a.eR)
 sW:jM K "pieces_of_list" "pieces_of_list" fU a.dU a.mE
 Av:Binds K a.mE mo []
 Aw:mg "pieces_of_list"=some (.ref a.dU)
 oj:jM K "piece_of_entry" "piece_of_entry" fV a.dW a.mF
 sX:Binds K a.mF mq []
 sY:mg "piece_of_entry"=some (.ref a.dW)
 rB:jM K "told_decimal" "told_decimal" gX a.fX a.pF
 wY:Binds K a.pF pB []
 wZ:mg "told_decimal"=some (.ref a.fX)
 yX:jM K "told_text" "told_text" k6 a.jF a.vP
 E9:Binds K a.vP vE []
 Fb:mg "told_text"=some (.ref a.jF)
 B8:jM K "call_begin" "call_begin" jP a.eS a.tR
 Ls:Binds K a.tR tN []
 aaq:mg "call_begin"=some (.ref a.eS)
 Jw:jM K "call_set" "call_set" mW a.g4 a.yH
 UB:Binds K a.yH yw []
 agI:mg "call_set"=some (.ref a.g4)
 zF:jM K "call_insert" "call_insert" iV a.dI a.qV
 IJ:Binds K a.qV qK []
 XD:mg "call_insert"=some (.ref a.dI)
 Jx:jM K "call_put" "call_put" mY a.g6 a.yI
 UC:Binds K a.yI yx []
 agJ:mg "call_put"=some (.ref a.g6)
 mJ:jM K "call_with_value" "call_with_value" ff a.c8 a.lF
 rC:Binds K a.lF k7 []
 rD:mg "call_with_value"=some (.ref a.c8)
 zG:jM K "call_remove" "call_remove" iW a.dJ a.qW
 IK:Binds K a.qW qL []
 XE:mg "call_remove"=some (.ref a.dJ)
 Jy:jM K "call_add" "call_add" mZ a.g7 a.yJ
 UD:Binds K a.yJ yy []
 agK:mg "call_add"=some (.ref a.g7)
 B9:jM K "call_since" "call_since" jQ a.eT a.tS
 Lu:Binds K a.tS tO []
 aar:mg "call_since"=some (.ref a.eT)
 Fc:jM K "call_take" "call_take" k8 a.f7 a.vQ
 QZ:Binds K a.vQ vF []
 adP:mg "call_take"=some (.ref a.f7)
 Jz:jM K "call_had" "call_had" m5 a.g8 a.yK
 UE:Binds K a.yK yC []
 agL:mg "call_had"=some (.ref a.g8)
 Fd:jM K "call_tell" "call_tell" k9 a.f9 a.vR
 Q0:Binds K a.vR vG []
 adQ:mg "call_tell"=some (.ref a.f9)
 Fe:jM K "call_hand" "call_hand" lg a.gb a.vS
 Q2:Binds K a.vS vH []
 adR:mg "call_hand"=some (.ref a.gb)
 OP:jM K "answers" "answers" pT a.nU a.sS
 aj2:Binds K a.sS BX []
 Zb:mg "answers"=some (.ref a.nU)
 Ax:∃ t,mg "KEEPERS"=some (.int (8) t)
 sZ:∃ t,mg "MOST_KEY_BYTES"=some (.int (32) t)
 Zc:∃ t,mg "SET"=some (.int (1) t)
 Lv:∃ t,mg "INSERT"=some (.int (2) t)
 aiO:∃ t,mg "PUT"=some (.int (3) t)
 Ay:∃ t,mg "REMOVE"=some (.int (4) t)
 Zd:∃ t,mg "ADD"=some (.int (5) t)
 agM:∃ t,mg "HALF"=some (.int (9223372036854775808) t)
 aiP:∃ t,mg "ROUND"=some (.int (18446744073709551616) t)
 UG:mg "ROOT"=some (.ref a.kh)
 Lw:ajA K a.kh [.int 0,.int 0]
 SR:mg "FRONT"=some (.ref a.fC)
 Lx:ajA K a.fC [.int 0,.int 0]
 om:∃ t,mg "IDENTITY_BYTES"=some (.int (5) t)
 UH:∃ t,mg "TOO_LONG"=some (.int (-1) t)
 tT:∃ t,mg "WRONG"=some (.int (-2) t)
 uv:∃ t,mg "NO_OBJECT"=some (.int (-3) t)
 IL:∃ t,mg "NO_MESSAGES"=some (.int (-3) t)
 Ze:∃ t,mg "NO_ROOM"=some (.int (-4) t)
 OQ:∃ t,mg "NOTHING"=some (.int (0) t)
 adS:∃ t,mg "NUMBER"=some (.int (1) t)
 amd:∃ t,mg "TEXT"=some (.int (2) t)
 UI:∃ t,mg "MAP"=some (.int (3) t)
 OR:∃ t,mg "LIST"=some (.int (4) t)
 Az:∃ t,mg "COUNTER"=some (.int (5) t)
 yY:∃ t,mg "MOST_TEXT_BYTES"=some (.int (64) t)
 SS:mg "SIZES"=some (.ref a.nV)
 Ly:ajA K a.nV [.int 1,.int 9,.int 2,.int 1,.int 1,.int 1]
 lG:∃ t,mg "MOST_VALUE_BYTES"=some (.int (66) t)
 w9:∃ t,mg "LENGTH_BYTES"=some (.int (2) t)
 vV:∃ t,mg "HEAD_BYTES"=some (.int (15) t)
 xg:∃ t,mg "AMOUNT_BYTES"=some (.int (8) t)
 xh:∃ t,mg "MOST_TAKEN_BYTES"=some (.int (65536) t)
 Q3:∃ t,mg "MOST_ACTS"=some (.int (4096) t)
 Ff:∃ t,mg "MOST_WAITING"=some (.int (256) t)
 Q4:∃ t,mg "LAST_TIME"=some (.int (4294967295) t)
 SV:∃ t,mg "QUOTE"=some (.int (34) t)
 ame:∃ t,mg "HASH"=some (.int (35) t)
 aas:∃ t,mg "COMMA"=some (.int (44) t)
 aiQ:∃ t,mg "COLON"=some (.int (58) t)
 IM:∃ t,mg "LIST_BEGINS"=some (.int (91) t)
 Fi:∃ t,mg "BACKSLASH"=some (.int (92) t)
 Q5:∃ t,mg "LIST_ENDS"=some (.int (93) t)
 Lz:∃ t,mg "MAP_BEGINS"=some (.int (123) t)
 UJ:∃ t,mg "MAP_ENDS"=some (.int (125) t)
 aiR:mg "CALLS"=some (.ref a.vU)
 adT:ajA K a.vU [.ref a.eS,.ref a.g4,.ref a.dI,.ref a.g6,.ref a.dJ,.ref a.g7,.ref a.eT,.ref a.f7,.ref a.g8,.ref a.f9,.ref a.gb]
 aiS:mg "range"=none
 JA:mg "reversed"=none
 nh:mg "len"=none
 UK:mg "sorted"=none
 agN:mg "list"=none
 aat:mg "tuple"=none
 aoQ:mg "max"=none
 aoR:mg "all"=none
 LA:mg "isinstance"=none
 aoS:mg "ord"=none
 aoT:mg "str"=none
theorem apY{K:Fg}{h:Heap}{mg:Str→Option Value}(X:K.In h)(G:h.Ns mainGlobals mg)
    {bH iH aU aI az aV fD Fj bu jT eJ eM bW jx dQ eN dR bX dS qN fm kg jy vL qO jz iA nL gz nM lu gA ly ck lz nN nO dG cR eK bT b5 bg dH b7 b8 bD bw cC cS bx bI bj bE fE cD bN iJ fF fG bU bJ bO cE fH cF bP bF cG nR eO jE eR dU dW fX jF eS g4 dI g6 c8 dJ g7 eT f7 g8 f9 gb nU kh fC nV vU:Addr}
    {UL UM UN UO Fk UP xV xW xX xY oB xZ adU adV adW adX Q6 adY RD RE RG RH C0 RI OS OT OU OV AA OW Dt Du Dv Dy r6 Dz aau aav aaw aax LB aay LC LD LF LG yZ LH OX OY OZ O0 AB O1 LI LJ LK LL y9 LM DA DB DC DE r8 DF LN LO LP LQ za LR aj3 aj4 aj5 aj6 Zf aj7 aaz aaA aaB aaC LS aaD aj8 aj9 aka akb Zg akc aaE aaF aaG aaH LU aaI amf amg amh ami adZ amj akd ake akf akg Zh akh aaJ aaK aaL aaM LV aaN XF XG XH XI IP XJ agO agP agQ agR UQ agS UR US UT UU Fl UW agT agU agV agW UX agX ad0 ad1 ad2 ad3 Q7 ad4 UY UZ U0 U1 Fo U3 ad5 ad6 ad7 ad8 Q8 ad9 Fp Fq Ft Fv uw Fw aea aeb aec aed Q9 aee agY agZ ag0 ag1 U4 ag2 ag3 ag4 ag5 ag6 U5 ag7 O2 O3 O4 O5 AD O6 LW LX LY LZ zb L0 RJ RK RL RM C1 RN Fx Fy Fz FD ux FE Hg Hh Hi Hj uT Hl vW vX vY vZ mK v7 O7 O8 O9 Pa AE Pb Ho Hq Hr Hs uU Ht Hu Hv Hw Hx uV Hy AF AG AH AI qt AJ zH zI zJ zK o4 zL JB JC JD JE xj JF L1 L3 L4 L5 zc L6 zM zN zO zP o5 zQ Ca Cb Cc Cd rE Ce xm xn xo xq ni xr AK AL AM AN qu AO U6 U7 U8 U9 FF Va JG JH JI JJ xu JK DG DH DI DJ r9 DK aaO aaP aaQ aaR L7 aaS Vb Vc Vd Ve FG Vf Vg Vh Vi Vj FH Vk FI FJ FL FN uy FO Cf Cg Ci Cj rF Ck DL DM DN DO sd DP JL JM JN JO xw JP Vl Vm Vn Vo FP Vp JQ JR JS JT xx JU DQ DR DS DT se DU AQ AR AS AU qv AV JV JW JX JY xy JZ ag8 ag9 aha ahb Vq ahc Pc Pd Pe Pf AW Pg aaT aaU aaV aaW L8 aaX Ph Pj Pk Pn AX Po Ma Mb Mc Me zd Mf Mg Mh Mi Mj ze Ml RO RQ RS RT C2 RU aaY aaZ aa0 aa1 Mm aa2 XM XN XO XQ IQ XR aef aeg aeh aei Ra aej Vr Vs Vt Vu FQ Vv aek ael aem aen Rb aeo J0 J1 J2 J3 xA J4 Vw Vx Vy Vz FT VA aep aeq aer aes Rc aet XS XT XU XW IS XX aa3 aa4 aa5 aa6 Mn aa7 aeu aev aew aex Rf aey aa8 aa9 aba abb Mp abc abd abe abf abg Mq abh ahd ahe ahf ahg VB ahh:Value}
    {VC VD x8 x9 aez aeA RV RW Pp Pq DV DW abi abj Mr Ms Pr Pu Mt Mu DX DY Mv Mw aki akj abk abl akk akl abm abn amk aml akm akn abo abp XY XZ ahi ahj VE VF ahk ahl aeB aeC VG VH aeD aeE FU FW aeF aeG ahm ahn aho ahp Pw Px Mx My RX RY FY FZ Hz HG v8 v9 Py Pz HH HJ HK HL AY AZ zR zS J5 J6 Mz MA zT zU Cm Cn xB xC A0 A1 VI VJ J7 J8 DZ D0 abq abr VL VM VN VO F9 Ga Co Cp D3 D4 J9 Ka VP VQ Kc Kd D5 D6 A2 A3 Ke Kf ahq ahr PB PD abt abu PF PJ MB MC MD ME RZ R0 abv abw X0 X3 aeH aeI VR VS aeJ aeK Kg Kh VT VU aeL aeM X4 X5 abx aby aeN aeO abz abA abB abC ahs aht an9 amm amn amo R1:Option Addr} {VV ya aeP R3 PL D7 abD MF PM MG D8 MH ako abE akp abF amq akq abG X6 ahu VW ahv aeQ VX aeR Gb aeS ahw ahx PN MI R4 Gc HM wc PR HN HP A4 zV Kl MJ zW Cq xD A5 VY Km D9 abH VZ V0 Gd Cr Ea Kn V1 Ko Eb A6 Kp ahy PU abI PV MK ML R5 abJ X7 aeT V2 aeU Kq V3 aeV X8 abK aeW abL abM ahz aoa amr ams amt R6:Array (Option Value)}
    {akr PX arc amu ard amv arf apZ aob amw amx aks akt PY ahA aoc aeX X9 aku akv amy ap0 arh ap1 akw MM akx aky akz akA akB akC Kr V4 abN V5 Ks aeY V6 aeZ aod ap2 aoe aof Yb ae0 ae1 abO ahB kd_Change_init_3:Tok} {ap3 aog aoh aoi V7:Nat}
    (aoj:nsIn K mainGlobals "Change"=some (some (.ref bH)))
    (amz:plainGet K bH Str.empty=true)
    (amA:hasDictIn K bH=true)
    (amB:plainOver K bH=true)
    (amC:findIn K (.ref bH) "__setattr__"=some (some (.builtin "object.__setattr__")))
    (amD:makesIn K bH=true)
    (amE:keepIn K (.ref bH)=true)
    (Yc:findIn K (.ref bH) "kind"=some none)
    (R7:findIn K (.ref bH) "target"=some none)
    (abP:findIn K (.ref bH) "key"=some none)
    (PZ:findIn K (.ref bH) "element"=some none)
    (V8:findIn K (.ref bH) "value"=some none)
    (R8:findIn K (.ref bH) "amount"=some none)
    (asn:nsIn K mainGlobals "Act"=some (some (.ref iH)))
    (ari:plainGet K iH Str.empty=true)
    (arj:hasDictIn K iH=true)
    (ark:plainOver K iH=true)
    (arl:findIn K (.ref iH) "__setattr__"=some (some (.builtin "object.__setattr__")))
    (arn:makesIn K iH=true)
    (aro:keepIn K (.ref iH)=true)
    (abQ:findIn K (.ref iH) "keeper"=some none)
    (aok:findIn K (.ref iH) "n"=some none)
    (aol:findIn K (.ref iH) "t"=some none)
    (abR:findIn K (.ref iH) "change"=some none)
    (akD:nsIn K mainGlobals "Sequence"=some (some (.ref aU)))
    (ahC:plainGet K aU Str.empty=true)
    (ahD:hasDictIn K aU=true)
    (ahE:plainOver K aU=true)
    (ahF:findIn K (.ref aU) "__setattr__"=some (some (.builtin "object.__setattr__")))
    (ahG:makesIn K aU=true)
    (ahH:keepIn K (.ref aU)=true)
    (MN:findIn K (.ref aU) "behind"=some none)
    (MO:findIn K (.ref aU) "newest"=some none)
    (Ku:findIn K (.ref aU) "removed"=some none)
    (akE:nsIn K mainGlobals "Document"=some (some (.ref aI)))
    (ahI:plainGet K aI Str.empty=true)
    (ahJ:hasDictIn K aI=true)
    (ahK:plainOver K aI=true)
    (ahL:findIn K (.ref aI) "__setattr__"=some (some (.builtin "object.__setattr__")))
    (ahM:makesIn K aI=true)
    (ahN:keepIn K (.ref aI)=true)
    (P0:findIn K (.ref aI) "kinds"=some none)
    (R9:findIn K (.ref aI) "maps"=some none)
    (Ge:findIn K (.ref aI) "sequences"=some none)
    (Se:findIn K (.ref aI) "sums"=some none)
    (aom:nsIn K mainGlobals "Keeper"=some (some (.ref az)))
    (amF:plainGet K az Str.empty=true)
    (amG:hasDictIn K az=true)
    (amH:plainOver K az=true)
    (amI:findIn K (.ref az) "__setattr__"=some (some (.builtin "object.__setattr__")))
    (amJ:makesIn K az=true)
    (amK:keepIn K (.ref az)=true)
    (abS:findIn K (.ref az) "who"=some none)
    (Yd:findIn K (.ref az) "acts"=some none)
    (Sf:findIn K (.ref az) "counts"=some none)
    (HQ:findIn K (.ref az) "last_times"=some none)
    (Ye:findIn K (.ref az) "time"=some none)
    (V9:findIn K (.ref az) "known"=some none)
    (P1:findIn K (.ref az) "waiting"=some none)
    (MP:findIn K (.ref az) "document"=some none)
    (aon:nsIn K mainGlobals "Reader"=some (some (.ref aV)))
    (amL:plainGet K aV Str.empty=true)
    (amM:hasDictIn K aV=true)
    (amN:plainOver K aV=true)
    (amO:findIn K (.ref aV) "__setattr__"=some (some (.builtin "object.__setattr__")))
    (amP:makesIn K aV=true)
    (amQ:keepIn K (.ref aV)=true)
    (P4:findIn K (.ref aV) "numbers"=some none)
    (MQ:findIn K (.ref aV) "position"=some none)
    (abT:findIn K (.ref bH) "__init__"=some (some (.ref fD)))
    (abU:isFn K (.ref fD)=true)
    (abV:K.lookup fD=some ⟨UL,VC,.func (fnOf "__init__" "Change.__init__" (aE bA) (aD bA) (ai bA) (.ref Fj) UM UN UO VD Fk UP),VV⟩)
    (abW:codeIn K Fk "Change.__init__"=true)
    (abX:keepIn K (.ref fD)=true)
    (wd:K.lookup Fj=some ⟨.type "tuple",R1,.seq #[.none,.none,.none,.int 0 kd_Change_init_3] V7,R6⟩)
    (A7:findIn K (.ref bH) "told_identities"=some (some (.ref bu)))
    (A8:isFn K (.ref bu)=true)
    (qx:K.lookup bu=some ⟨xV,x8,.func (fnOf "told_identities" "Change.told_identities" (aE bV) (aD bV) (ai bV) .none xW xX xY x9 oB xZ),ya⟩)
    (qy:codeIn K oB "Change.told_identities"=true)
    (kE:keepIn K (.ref bu)=true)
    (akF:findIn K (.ref iH) "__init__"=some (some (.ref jT)))
    (akG:isFn K (.ref jT)=true)
    (Zi:K.lookup jT=some ⟨adU,aez,.func (fnOf "__init__" "Act.__init__" (aE mS) (aD mS) (ai mS) .none adV adW adX aeA Q6 adY),aeP⟩)
    (Zj:codeIn K Q6 "Act.__init__"=true)
    (Zk:keepIn K (.ref jT)=true)
    (Yg:findIn K (.ref iH) "identity"=some (some (.ref eJ)))
    (Yh:isFn K (.ref eJ)=true)
    (IT:K.lookup eJ=some ⟨RD,RV,.func (fnOf "identity" "Act.identity" (aE gU) (aD gU) (ai gU) .none RE RG RH RW C0 RI),R3⟩)
    (IU:codeIn K C0 "Act.identity"=true)
    (zX:keepIn K (.ref eJ)=true)
    (Wa:nsIn K mainGlobals "little_endian"=some (some (.ref eM)))
    (Gf:K.lookup eM=some ⟨OS,Pp,.func (fnOf "little_endian" "little_endian" (aE gj) (aD gj) (ai gj) .none OT OU OV Pq AA OW),PL⟩)
    (Gg:codeIn K AA "little_endian"=true)
    (Gh:keepIn K (.ref eM)=true)
    (HR:nsIn K mainGlobals "from_little_endian"=some (some (.ref bW)))
    (uW:K.lookup bW=some ⟨Dt,DV,.func (fnOf "from_little_endian" "from_little_endian" (aE cV) (aD cV) (ai cV) .none Du Dv Dy DW r6 Dz),D7⟩)
    (uX:codeIn K r6 "from_little_endian"=true)
    (uY:keepIn K (.ref bW)=true)
    (ahO:nsIn K mainGlobals "with_sign"=some (some (.ref jx)))
    (Wb:K.lookup jx=some ⟨aau,abi,.func (fnOf "with_sign" "with_sign" (aE kL) (aD kL) (ai kL) .none aav aaw aax abj LB aay),abD⟩)
    (Wc:codeIn K LB "with_sign"=true)
    (We:keepIn K (.ref jx)=true)
    (Sg:nsIn K mainGlobals "identity_bytes"=some (some (.ref dQ)))
    (C3:K.lookup dQ=some ⟨LC,Mr,.func (fnOf "identity_bytes" "identity_bytes" (aE fN) (aD fN) (ai fN) .none LD LF LG Ms yZ LH),MF⟩)
    (C4:codeIn K yZ "identity_bytes"=true)
    (C5:keepIn K (.ref dQ)=true)
    (Wg:nsIn K mainGlobals "identity_from"=some (some (.ref eN)))
    (Gi:K.lookup eN=some ⟨OX,Pr,.func (fnOf "identity_from" "identity_from" (aE gk) (aD gk) (ai gk) .none OY OZ O0 Pu AB O1),PM⟩)
    (Gj:codeIn K AB "identity_from"=true)
    (Gk:keepIn K (.ref eN)=true)
    (Sh:nsIn K mainGlobals "is_whole_value"=some (some (.ref dR)))
    (C6:K.lookup dR=some ⟨LI,Mt,.func (fnOf "is_whole_value" "is_whole_value" (aE fO) (aD fO) (ai fO) .none LJ LK LL Mu y9 LM),MG⟩)
    (C7:codeIn K y9 "is_whole_value"=true)
    (C8:keepIn K (.ref dR)=true)
    (HS:nsIn K mainGlobals "is_whole_something"=some (some (.ref bX)))
    (uZ:K.lookup bX=some ⟨DA,DX,.func (fnOf "is_whole_something" "is_whole_something" (aE cW) (aD cW) (ai cW) .none DB DC DE DY r8 DF),D8⟩)
    (u6:codeIn K r8 "is_whole_something"=true)
    (u7:keepIn K (.ref bX)=true)
    (Si:nsIn K mainGlobals "is_object_kind"=some (some (.ref dS)))
    (C9:K.lookup dS=some ⟨LN,Mv,.func (fnOf "is_object_kind" "is_object_kind" (aE fP) (aD fP) (ai fP) .none LO LP LQ Mw za LR),MH⟩)
    (Dc:codeIn K za "is_object_kind"=true)
    (Dd:keepIn K (.ref dS)=true)
    (aoo:nsIn K mainGlobals "do_set"=some (some (.ref qN)))
    (aiT:K.lookup qN=some ⟨aj3,aki,.func (fnOf "do_set" "do_set" (aE sO) (aD sO) (ai sO) .none aj4 aj5 aj6 akj Zf aj7),ako⟩)
    (aiU:codeIn K Zf "do_set"=true)
    (aiV:keepIn K (.ref qN)=true)
    (ahP:nsIn K mainGlobals "do_insert"=some (some (.ref fm)))
    (Wh:K.lookup fm=some ⟨aaz,abk,.func (fnOf "do_insert" "do_insert" (aE kM) (aD kM) (ai kM) .none aaA aaB aaC abl LS aaD),abE⟩)
    (Wi:codeIn K LS "do_insert"=true)
    (Wj:keepIn K (.ref fm)=true)
    (aop:nsIn K mainGlobals "do_put"=some (some (.ref kg)))
    (aiW:K.lookup kg=some ⟨aj8,akk,.func (fnOf "do_put" "do_put" (aE sP) (aD sP) (ai sP) .none aj9 aka akb akl Zg akc),akp⟩)
    (aiX:codeIn K Zg "do_put"=true)
    (aiY:keepIn K (.ref kg)=true)
    (ahQ:nsIn K mainGlobals "do_remove"=some (some (.ref jy)))
    (Wk:K.lookup jy=some ⟨aaE,abm,.func (fnOf "do_remove" "do_remove" (aE kO) (aD kO) (ai kO) .none aaF aaG aaH abn LU aaI),abF⟩)
    (Wl:codeIn K LU "do_remove"=true)
    (Wm:keepIn K (.ref jy)=true)
    (ap4:nsIn K mainGlobals "do_at"=some (some (.ref vL)))
    (amR:K.lookup vL=some ⟨amf,amk,.func (fnOf "do_at" "do_at" (aE wJ) (aD wJ) (ai wJ) .none amg amh ami aml adZ amj),amq⟩)
    (amS:codeIn K adZ "do_at"=true)
    (amT:keepIn K (.ref vL)=true)
    (aoq:nsIn K mainGlobals "do_add"=some (some (.ref qO)))
    (aiZ:K.lookup qO=some ⟨akd,akm,.func (fnOf "do_add" "do_add" (aE sQ) (aD sQ) (ai sQ) .none ake akf akg akn Zh akh),akq⟩)
    (ai0:codeIn K Zh "do_add"=true)
    (ai1:keepIn K (.ref qO)=true)
    (ahR:nsIn K mainGlobals "do_change"=some (some (.ref jz)))
    (Wn:K.lookup jz=some ⟨aaJ,abo,.func (fnOf "do_change" "do_change" (aE kP) (aD kP) (ai kP) .none aaK aaL aaM abp LV aaN),abG⟩)
    (Wo:codeIn K LV "do_change"=true)
    (Wp:keepIn K (.ref jz)=true)
    (ae2:nsIn K mainGlobals "message_of"=some (some (.ref iA)))
    (Rg:K.lookup iA=some ⟨XF,XY,.func (fnOf "message_of" "message_of" (aE jN) (aD jN) (ai jN) .none XG XH XI XZ IP XJ),X6⟩)
    (Rh:codeIn K IP "message_of"=true)
    (Ri:keepIn K (.ref iA)=true)
    (amU:nsIn K mainGlobals "rest_of"=some (some (.ref nL)))
    (ae3:K.lookup nL=some ⟨agO,ahi,.func (fnOf "rest_of" "rest_of" (aE pM) (aD pM) (ai pM) .none agP agQ agR ahj UQ agS),ahu⟩)
    (ae4:codeIn K UQ "rest_of"=true)
    (ae5:keepIn K (.ref nL)=true)
    (abY:nsIn K mainGlobals "with_length"=some (some (.ref gz)))
    (MR:K.lookup gz=some ⟨UR,VE,.func (fnOf "with_length" "with_length" (aE iP) (aD iP) (ai iP) .none US UT UU VF Fl UW),VW⟩)
    (MS:codeIn K Fl "with_length"=true)
    (MT:keepIn K (.ref gz)=true)
    (amV:nsIn K mainGlobals "acts_in"=some (some (.ref nM)))
    (ae6:K.lookup nM=some ⟨agT,ahk,.func (fnOf "acts_in" "acts_in" (aE pN) (aD pN) (ai pN) .none agU agV agW ahl UX agX),ahv⟩)
    (ae7:codeIn K UX "acts_in"=true)
    (ae8:keepIn K (.ref nM)=true)
    (akH:nsIn K mainGlobals "act_from"=some (some (.ref lu)))
    (Zl:K.lookup lu=some ⟨ad0,aeB,.func (fnOf "act_from" "act_from" (aE mT) (aD mT) (ai mT) .none ad1 ad2 ad3 aeC Q7 ad4),aeQ⟩)
    (Zm:codeIn K Q7 "act_from"=true)
    (Zn:keepIn K (.ref lu)=true)
    (abZ:nsIn K mainGlobals "change_from"=some (some (.ref gA)))
    (MU:K.lookup gA=some ⟨UY,VG,.func (fnOf "change_from" "change_from" (aE iQ) (aD iQ) (ai iQ) .none UZ U0 U1 VH Fo U3),VX⟩)
    (MV:codeIn K Fo "change_from"=true)
    (MW:keepIn K (.ref gA)=true)
    (akI:nsIn K mainGlobals "set_from"=some (some (.ref ly)))
    (Zo:K.lookup ly=some ⟨ad5,aeD,.func (fnOf "set_from" "set_from" (aE mU) (aD mU) (ai mU) .none ad6 ad7 ad8 aeE Q8 ad9),aeR⟩)
    (Zp:codeIn K Q8 "set_from"=true)
    (Zq:keepIn K (.ref ly)=true)
    (Kv:nsIn K mainGlobals "value_change_from"=some (some (.ref ck)))
    (xE:K.lookup ck=some ⟨Fp,FU,.func (fnOf "value_change_from" "value_change_from" (aE dw) (aD dw) (ai dw) .none Fq Ft Fv FW uw Fw),Gb⟩)
    (xF:codeIn K uw "value_change_from"=true)
    (xG:keepIn K (.ref ck)=true)
    (akJ:nsIn K mainGlobals "do_since"=some (some (.ref lz)))
    (Zr:K.lookup lz=some ⟨aea,aeF,.func (fnOf "do_since" "do_since" (aE mV) (aD mV) (ai mV) .none aeb aec aed aeG Q9 aee),aeS⟩)
    (Zs:codeIn K Q9 "do_since"=true)
    (Zt:keepIn K (.ref lz)=true)
    (amW:nsIn K mainGlobals "do_take"=some (some (.ref nN)))
    (ae9:K.lookup nN=some ⟨agY,ahm,.func (fnOf "do_take" "do_take" (aE pP) (aD pP) (ai pP) .none agZ ag0 ag1 ahn U4 ag2),ahw⟩)
    (afa:codeIn K U4 "do_take"=true)
    (afb:keepIn K (.ref nN)=true)
    (amX:nsIn K mainGlobals "do_hand"=some (some (.ref nO)))
    (afc:K.lookup nO=some ⟨ag3,aho,.func (fnOf "do_hand" "do_hand" (aE pQ) (aD pQ) (ai pQ) .none ag4 ag5 ag6 ahp U5 ag7),ahx⟩)
    (afd:codeIn K U5 "do_hand"=true)
    (afe:keepIn K (.ref nO)=true)
    (Wq:findIn K (.ref aU) "__init__"=some (some (.ref dG)))
    (Wr:isFn K (.ref dG)=true)
    (Gm:K.lookup dG=some ⟨O2,Pw,.func (fnOf "__init__" "Sequence.__init__" (aE gm) (aD gm) (ai gm) .none O3 O4 O5 Px AD O6),PN⟩)
    (Gn:codeIn K AD "Sequence.__init__"=true)
    (Gp:keepIn K (.ref dG)=true)
    (Sj:findIn K (.ref aU) "place"=some (some (.ref cR)))
    (Sk:isFn K (.ref cR)=true)
    (De:K.lookup cR=some ⟨LW,Mx,.func (fnOf "place" "Sequence.place" (aE fQ) (aD fQ) (ai fQ) .none LX LY LZ My zb L0),MI⟩)
    (Df:codeIn K zb "Sequence.place"=true)
    (uJ:keepIn K (.ref cR)=true)
    (Yi:findIn K (.ref aU) "put"=some (some (.ref eK)))
    (Yj:isFn K (.ref eK)=true)
    (IV:K.lookup eK=some ⟨RJ,RX,.func (fnOf "put" "Sequence.put" (aE gW) (aD gW) (ai gW) .none RK RL RM RY C1 RN),R4⟩)
    (IW:codeIn K C1 "Sequence.put"=true)
    (zY:keepIn K (.ref eK)=true)
    (Kw:findIn K (.ref aU) "take_out"=some (some (.ref bT)))
    (Kx:isFn K (.ref bT)=true)
    (xH:K.lookup bT=some ⟨Fx,FY,.func (fnOf "take_out" "Sequence.take_out" (aE dz) (aD dz) (ai dz) .none Fy Fz FD FZ ux FE),Gc⟩)
    (xJ:codeIn K ux "Sequence.take_out"=true)
    (pX:keepIn K (.ref bT)=true)
    (MX:findIn K (.ref aU) "present"=some (some (.ref b5)))
    (MY:isFn K (.ref b5)=true)
    (zf:K.lookup b5=some ⟨Hg,Hz,.func (fnOf "present" "Sequence.present" (aE dY) (aD dY) (ai dY) .none Hh Hi Hj HG uT Hl),HM⟩)
    (zg:codeIn K uT "Sequence.present"=true)
    (rG:keepIn K (.ref b5)=true)
    (yb:findIn K (.ref aU) "entries_present"=some (some (.ref bg)))
    (yd:isFn K (.ref bg)=true)
    (oE:K.lookup bg=some ⟨vW,v8,.func (fnOf "entries_present" "Sequence.entries_present" (aE bM) (aD bM) (ai bM) .none vX vY vZ v9 mK v7),wc⟩)
    (oF:codeIn K mK "Sequence.entries_present"=true)
    (jl:keepIn K (.ref bg)=true)
    (Ws:findIn K (.ref aI) "__init__"=some (some (.ref dH)))
    (Wt:isFn K (.ref dH)=true)
    (Gq:K.lookup dH=some ⟨O7,Py,.func (fnOf "__init__" "Document.__init__" (aE gn) (aD gn) (ai gn) .none O8 O9 Pa Pz AE Pb),PR⟩)
    (Gr:codeIn K AE "Document.__init__"=true)
    (Gs:keepIn K (.ref dH)=true)
    (MZ:findIn K (.ref aI) "kind_of"=some (some (.ref b7)))
    (M0:isFn K (.ref b7)=true)
    (zh:K.lookup b7=some ⟨Ho,HH,.func (fnOf "kind_of" "Document.kind_of" (aE dZ) (aD dZ) (ai dZ) .none Hq Hr Hs HJ uU Ht),HN⟩)
    (zj:codeIn K uU "Document.kind_of"=true)
    (rH:keepIn K (.ref b7)=true)
    (Na:findIn K (.ref aI) "present"=some (some (.ref b8)))
    (Nb:isFn K (.ref b8)=true)
    (zk:K.lookup b8=some ⟨Hu,HK,.func (fnOf "present" "Document.present" (aE ef) (aD ef) (ai ef) .none Hv Hw Hx HL uV Hy),HP⟩)
    (zl:codeIn K uV "Document.present"=true)
    (rJ:keepIn K (.ref b8)=true)
    (Ec:findIn K (.ref aI) "map_entries"=some (some (.ref bD)))
    (Ed:isFn K (.ref bD)=true)
    (sf:K.lookup bD=some ⟨AF,AY,.func (fnOf "map_entries" "Document.map_entries" (aE cy) (aD cy) (ai cy) .none AG AH AI AZ qt AJ),A4⟩)
    (sq:codeIn K qt "Document.map_entries"=true)
    (lV:keepIn K (.ref bD)=true)
    (Cs:findIn K (.ref aI) "list_entries"=some (some (.ref bw)))
    (Ct:isFn K (.ref bw)=true)
    (rK:K.lookup bw=some ⟨zH,zR,.func (fnOf "list_entries" "Document.list_entries" (aE bY) (aD bY) (ai bY) .none zI zJ zK zS o4 zL),zV⟩)
    (rL:codeIn K o4 "Document.list_entries"=true)
    (lH:keepIn K (.ref bw)=true)
    (P5:findIn K (.ref aI) "sum_of"=some (some (.ref cC)))
    (P6:isFn K (.ref cC)=true)
    (A9:K.lookup cC=some ⟨JB,J5,.func (fnOf "sum_of" "Document.sum_of" (aE eW) (aD eW) (ai eW) .none JC JD JE J6 xj JF),Kl⟩)
    (Ba:codeIn K xj "Document.sum_of"=true)
    (tw:keepIn K (.ref cC)=true)
    (Sl:findIn K (.ref aI) "apply"=some (some (.ref cS)))
    (Sm:isFn K (.ref cS)=true)
    (Dg:K.lookup cS=some ⟨L1,Mz,.func (fnOf "apply" "Document.apply" (aE fR) (aD fR) (ai fR) .none L3 L4 L5 MA zc L6),MJ⟩)
    (Dh:codeIn K zc "Document.apply"=true)
    (uK:keepIn K (.ref cS)=true)
    (Cu:findIn K (.ref aI) "bring_object"=some (some (.ref bx)))
    (Cv:isFn K (.ref bx)=true)
    (rM:K.lookup bx=some ⟨zM,zT,.func (fnOf "bring_object" "Document.bring_object" (aE bZ) (aD bZ) (ai bZ) .none zN zO zP zU o5 zQ),zW⟩)
    (rN:codeIn K o5 "Document.bring_object"=true)
    (lI:keepIn K (.ref bx)=true)
    (Gu:findIn K (.ref aI) "change_map"=some (some (.ref bI)))
    (Gv:isFn K (.ref bI)=true)
    (uz:K.lookup bI=some ⟨Ca,Cm,.func (fnOf "change_map" "Document.change_map" (aE cM) (aD cM) (ai cM) .none Cb Cc Cd Cn rE Ce),Cq⟩)
    (uA:codeIn K rE "Document.change_map"=true)
    (nt:keepIn K (.ref bI)=true)
    (zZ:findIn K (.ref aI) "change_counter"=some (some (.ref bj)))
    (z0:isFn K (.ref bj)=true)
    (o6:K.lookup bj=some ⟨xm,xB,.func (fnOf "change_counter" "Document.change_counter" (aE bR) (aD bR) (ai bR) .none xn xo xq xC ni xr),xD⟩)
    (o7:codeIn K ni "Document.change_counter"=true)
    (jV:keepIn K (.ref bj)=true)
    (Ef:findIn K (.ref aI) "change_list"=some (some (.ref bE)))
    (Eg:isFn K (.ref bE)=true)
    (sr:K.lookup bE=some ⟨AK,A0,.func (fnOf "change_list" "Document.change_list" (aE cz) (aD cz) (ai cz) .none AL AM AN A1 qu AO),A5⟩)
    (su:codeIn K qu "Document.change_list"=true)
    (lW:keepIn K (.ref bE)=true)
    (ab0:findIn K (.ref az) "__init__"=some (some (.ref fE)))
    (ab1:isFn K (.ref fE)=true)
    (Nc:K.lookup fE=some ⟨U6,VI,.func (fnOf "__init__" "Keeper.__init__" (aE iR) (aD iR) (ai iR) .none U7 U8 U9 VJ FF Va),VY⟩)
    (Nf:codeIn K FF "Keeper.__init__"=true)
    (Ng:keepIn K (.ref fE)=true)
    (P7:findIn K (.ref az) "has_room"=some (some (.ref cD)))
    (P8:isFn K (.ref cD)=true)
    (Bb:K.lookup cD=some ⟨JG,J7,.func (fnOf "has_room" "Keeper.has_room" (aE eX) (aD eX) (ai eX) .none JH JI JJ J8 xu JK),Km⟩)
    (Bc:codeIn K xu "Keeper.has_room"=true)
    (tD:keepIn K (.ref cD)=true)
    (HU:findIn K (.ref az) "can_do_more"=some (some (.ref bN)))
    (HV:isFn K (.ref bN)=true)
    (u9:K.lookup bN=some ⟨DG,DZ,.func (fnOf "can_do_more" "Keeper.can_do_more" (aE cX) (aD cX) (ai cX) .none DH DI DJ D0 r9 DK),D9⟩)
    (vc:codeIn K r9 "Keeper.can_do_more"=true)
    (oN:keepIn K (.ref bN)=true)
    (ahS:findIn K (.ref az) "do"=some (some (.ref iJ)))
    (ahT:isFn K (.ref iJ)=true)
    (Wu:K.lookup iJ=some ⟨aaO,abq,.func (fnOf "do" "Keeper.do" (aE kU) (aD kU) (ai kU) .none aaP aaQ aaR abr L7 aaS),abH⟩)
    (Wv:codeIn K L7 "Keeper.do"=true)
    (Ky:keepIn K (.ref iJ)=true)
    (ab2:findIn K (.ref az) "have"=some (some (.ref fF)))
    (ab3:isFn K (.ref fF)=true)
    (Nh:K.lookup fF=some ⟨Vb,VL,.func (fnOf "have" "Keeper.have" (aE iS) (aD iS) (ai iS) .none Vc Vd Ve VM FG Vf),VZ⟩)
    (Ni:codeIn K FG "Keeper.have"=true)
    (Cw:keepIn K (.ref fF)=true)
    (ab4:findIn K (.ref az) "come"=some (some (.ref fG)))
    (ab5:isFn K (.ref fG)=true)
    (Nj:K.lookup fG=some ⟨Vg,VN,.func (fnOf "come" "Keeper.come" (aE iT) (aD iT) (ai iT) .none Vh Vi Vj VO FH Vk),V0⟩)
    (Nk:codeIn K FH "Keeper.come"=true)
    (Cy:keepIn K (.ref fG)=true)
    (Kz:findIn K (.ref az) "leaves_out"=some (some (.ref bU)))
    (KA:isFn K (.ref bU)=true)
    (xK:K.lookup bU=some ⟨FI,F9,.func (fnOf "leaves_out" "Keeper.leaves_out" (aE dB) (aD dB) (ai dB) .none FJ FL FN Ga uy FO),Gd⟩)
    (xM:codeIn K uy "Keeper.leaves_out"=true)
    (pY:keepIn K (.ref bU)=true)
    (Gw:findIn K (.ref az) "have_waiting"=some (some (.ref bJ)))
    (Gx:isFn K (.ref bJ)=true)
    (uB:K.lookup bJ=some ⟨Cf,Co,.func (fnOf "have_waiting" "Keeper.have_waiting" (aE cN) (aD cN) (ai cN) .none Cg Ci Cj Cp rF Ck),Cr⟩)
    (uC:codeIn K rF "Keeper.have_waiting"=true)
    (nu:keepIn K (.ref bJ)=true)
    (HW:findIn K (.ref az) "first_ready"=some (some (.ref bO)))
    (HX:isFn K (.ref bO)=true)
    (vd:K.lookup bO=some ⟨DL,D3,.func (fnOf "first_ready" "Keeper.first_ready" (aE cY) (aD cY) (ai cY) .none DM DN DO D4 sd DP),Ea⟩)
    (ve:codeIn K sd "Keeper.first_ready"=true)
    (oO:keepIn K (.ref bO)=true)
    (P9:findIn K (.ref az) "is_ready"=some (some (.ref cE)))
    (Qa:isFn K (.ref cE)=true)
    (Bd:K.lookup cE=some ⟨JL,J9,.func (fnOf "is_ready" "Keeper.is_ready" (aE eY) (aD eY) (ai eY) .none JM JN JO Ka xw JP),Kn⟩)
    (Be:codeIn K xw "Keeper.is_ready"=true)
    (tE:keepIn K (.ref cE)=true)
    (ab6:findIn K (.ref aV) "__init__"=some (some (.ref fH)))
    (ab7:isFn K (.ref fH)=true)
    (Nl:K.lookup fH=some ⟨Vl,VP,.func (fnOf "__init__" "Reader.__init__" (aE iU) (aD iU) (ai iU) .none Vm Vn Vo VQ FP Vp),V1⟩)
    (Nm:codeIn K FP "Reader.__init__"=true)
    (Nn:keepIn K (.ref fH)=true)
    (Qc:findIn K (.ref aV) "has_more"=some (some (.ref cF)))
    (Qe:isFn K (.ref cF)=true)
    (Bf:K.lookup cF=some ⟨JQ,Kc,.func (fnOf "has_more" "Reader.has_more" (aE eZ) (aD eZ) (ai eZ) .none JR JS JT Kd xx JU),Ko⟩)
    (Bh:codeIn K xx "Reader.has_more"=true)
    (tF:keepIn K (.ref cF)=true)
    (HY:findIn K (.ref aV) "read_number"=some (some (.ref bP)))
    (HZ:isFn K (.ref bP)=true)
    (vf:K.lookup bP=some ⟨DQ,D5,.func (fnOf "read_number" "Reader.read_number" (aE cZ) (aD cZ) (ai cZ) .none DR DS DT D6 se DU),Eb⟩)
    (vg:codeIn K se "Reader.read_number"=true)
    (oQ:keepIn K (.ref bP)=true)
    (Eh:findIn K (.ref aV) "read_identity"=some (some (.ref bF)))
    (Ei:isFn K (.ref bF)=true)
    (sA:K.lookup bF=some ⟨AQ,A2,.func (fnOf "read_identity" "Reader.read_identity" (aE cA) (aD cA) (ai cA) .none AR AS AU A3 qv AV),A6⟩)
    (sC:codeIn K qv "Reader.read_identity"=true)
    (lX:keepIn K (.ref bF)=true)
    (Qg:findIn K (.ref aV) "read_row"=some (some (.ref cG)))
    (Qh:isFn K (.ref cG)=true)
    (Bj:K.lookup cG=some ⟨JV,Ke,.func (fnOf "read_row" "Reader.read_row" (aE fb) (aD fb) (ai fb) .none JW JX JY Kf xy JZ),Kp⟩)
    (Bk:codeIn K xy "Reader.read_row"=true)
    (tG:keepIn K (.ref cG)=true)
    (amY:nsIn K mainGlobals "do_tell"=some (some (.ref nR)))
    (afg:K.lookup nR=some ⟨ag8,ahq,.func (fnOf "do_tell" "do_tell" (aE pS) (aD pS) (ai pS) .none ag9 aha ahb ahr Vq ahc),ahy⟩)
    (afh:codeIn K Vq "do_tell"=true)
    (afi:keepIn K (.ref nR)=true)
    (Ww:nsIn K mainGlobals "tell_document"=some (some (.ref eO)))
    (Gy:K.lookup eO=some ⟨Pc,PB,.func (fnOf "tell_document" "tell_document" (aE gp) (aD gp) (ai gp) .none Pd Pe Pf PD AW Pg),PU⟩)
    (Gz:codeIn K AW "tell_document"=true)
    (GA:keepIn K (.ref eO)=true)
    (ahU:nsIn K mainGlobals "pieces_of"=some (some (.ref jE)))
    (Wx:K.lookup jE=some ⟨aaT,abt,.func (fnOf "pieces_of" "pieces_of" (aE kZ) (aD kZ) (ai kZ) .none aaU aaV aaW abu L8 aaX),abI⟩)
    (Wy:codeIn K L8 "pieces_of"=true)
    (Wz:keepIn K (.ref jE)=true)
    (WA:nsIn K mainGlobals "pieces_of_map"=some (some (.ref eR)))
    (GB:K.lookup eR=some ⟨Ph,PF,.func (fnOf "pieces_of_map" "pieces_of_map" (aE gq) (aD gq) (ai gq) .none Pj Pk Pn PJ AX Po),PV⟩)
    (GC:codeIn K AX "pieces_of_map"=true)
    (GD:keepIn K (.ref eR)=true)
    (Sn:nsIn K mainGlobals "pieces_of_list"=some (some (.ref dU)))
    (Di:K.lookup dU=some ⟨Ma,MB,.func (fnOf "pieces_of_list" "pieces_of_list" (aE fU) (aD fU) (ai fU) .none Mb Mc Me MC zd Mf),MK⟩)
    (Dj:codeIn K zd "pieces_of_list"=true)
    (Dk:keepIn K (.ref dU)=true)
    (So:nsIn K mainGlobals "piece_of_entry"=some (some (.ref dW)))
    (Dl:K.lookup dW=some ⟨Mg,MD,.func (fnOf "piece_of_entry" "piece_of_entry" (aE fV) (aD fV) (ai fV) .none Mh Mi Mj ME ze Ml),ML⟩)
    (Dm:codeIn K ze "piece_of_entry"=true)
    (Dn:keepIn K (.ref dW)=true)
    (Yk:nsIn K mainGlobals "told_decimal"=some (some (.ref fX)))
    (IX:K.lookup fX=some ⟨RO,RZ,.func (fnOf "told_decimal" "told_decimal" (aE gX) (aD gX) (ai gX) .none RQ RS RT R0 C2 RU),R5⟩)
    (IY:codeIn K C2 "told_decimal"=true)
    (IZ:keepIn K (.ref fX)=true)
    (ahV:nsIn K mainGlobals "told_text"=some (some (.ref jF)))
    (WB:K.lookup jF=some ⟨aaY,abv,.func (fnOf "told_text" "told_text" (aE k6) (aD k6) (ai k6) .none aaZ aa0 aa1 abw Mm aa2),abJ⟩)
    (WC:codeIn K Mm "told_text"=true)
    (WD:keepIn K (.ref jF)=true)
    (afj:nsIn K mainGlobals "call_begin"=some (some (.ref eS)))
    (Rj:K.lookup eS=some ⟨XM,X0,.func (fnOf "call_begin" "call_begin" (aE jP) (aD jP) (ai jP) .none XN XO XQ X3 IQ XR),X7⟩)
    (Rk:codeIn K IQ "call_begin"=true)
    (Rl:keepIn K (.ref eS)=true)
    (akK:nsIn K mainGlobals "call_set"=some (some (.ref g4)))
    (Zu:K.lookup g4=some ⟨aef,aeH,.func (fnOf "call_set" "call_set" (aE mW) (aD mW) (ai mW) .none aeg aeh aei aeI Ra aej),aeT⟩)
    (Zv:codeIn K Ra "call_set"=true)
    (Zw:keepIn K (.ref g4)=true)
    (ab8:nsIn K mainGlobals "call_insert"=some (some (.ref dI)))
    (Np:K.lookup dI=some ⟨Vr,VR,.func (fnOf "call_insert" "call_insert" (aE iV) (aD iV) (ai iV) .none Vs Vt Vu VS FQ Vv),V2⟩)
    (Nq:codeIn K FQ "call_insert"=true)
    (Nr:keepIn K (.ref dI)=true)
    (akL:nsIn K mainGlobals "call_put"=some (some (.ref g6)))
    (Zx:K.lookup g6=some ⟨aek,aeJ,.func (fnOf "call_put" "call_put" (aE mY) (aD mY) (ai mY) .none ael aem aen aeK Rb aeo),aeU⟩)
    (Zy:codeIn K Rb "call_put"=true)
    (Zz:keepIn K (.ref g6)=true)
    (Qi:nsIn K mainGlobals "call_with_value"=some (some (.ref c8)))
    (Bm:K.lookup c8=some ⟨J0,Kg,.func (fnOf "call_with_value" "call_with_value" (aE ff) (aD ff) (ai ff) .none J1 J2 J3 Kh xA J4),Kq⟩)
    (Bo:codeIn K xA "call_with_value"=true)
    (Bp:keepIn K (.ref c8)=true)
    (ab9:nsIn K mainGlobals "call_remove"=some (some (.ref dJ)))
    (Nt:K.lookup dJ=some ⟨Vw,VT,.func (fnOf "call_remove" "call_remove" (aE iW) (aD iW) (ai iW) .none Vx Vy Vz VU FT VA),V3⟩)
    (Nu:codeIn K FT "call_remove"=true)
    (Nv:keepIn K (.ref dJ)=true)
    (akM:nsIn K mainGlobals "call_add"=some (some (.ref g7)))
    (ZA:K.lookup g7=some ⟨aep,aeL,.func (fnOf "call_add" "call_add" (aE mZ) (aD mZ) (ai mZ) .none aeq aer aes aeM Rc aet),aeV⟩)
    (ZC:codeIn K Rc "call_add"=true)
    (ZD:keepIn K (.ref g7)=true)
    (afk:nsIn K mainGlobals "call_since"=some (some (.ref eT)))
    (Rm:K.lookup eT=some ⟨XS,X4,.func (fnOf "call_since" "call_since" (aE jQ) (aD jQ) (ai jQ) .none XT XU XW X5 IS XX),X8⟩)
    (Rn:codeIn K IS "call_since"=true)
    (Ro:keepIn K (.ref eT)=true)
    (ahW:nsIn K mainGlobals "call_take"=some (some (.ref f7)))
    (WE:K.lookup f7=some ⟨aa3,abx,.func (fnOf "call_take" "call_take" (aE k8) (aD k8) (ai k8) .none aa4 aa5 aa6 aby Mn aa7),abK⟩)
    (WG:codeIn K Mn "call_take"=true)
    (WH:keepIn K (.ref f7)=true)
    (akN:nsIn K mainGlobals "call_had"=some (some (.ref g8)))
    (ZE:K.lookup g8=some ⟨aeu,aeN,.func (fnOf "call_had" "call_had" (aE m5) (aD m5) (ai m5) .none aev aew aex aeO Rf aey),aeW⟩)
    (ZF:codeIn K Rf "call_had"=true)
    (ZG:keepIn K (.ref g8)=true)
    (ahX:nsIn K mainGlobals "call_tell"=some (some (.ref f9)))
    (WI:K.lookup f9=some ⟨aa8,abz,.func (fnOf "call_tell" "call_tell" (aE k9) (aD k9) (ai k9) .none aa9 aba abb abA Mp abc),abL⟩)
    (WJ:codeIn K Mp "call_tell"=true)
    (WK:keepIn K (.ref f9)=true)
    (ahY:nsIn K mainGlobals "call_hand"=some (some (.ref gb)))
    (WL:K.lookup gb=some ⟨abd,abB,.func (fnOf "call_hand" "call_hand" (aE lg) (aD lg) (ai lg) .none abe abf abg abC Mq abh),abM⟩)
    (WM:codeIn K Mq "call_hand"=true)
    (WN:keepIn K (.ref gb)=true)
    (amZ:nsIn K mainGlobals "answers"=some (some (.ref nU)))
    (afl:K.lookup nU=some ⟨ahd,ahs,.func (fnOf "answers" "answers" (aE pT) (aD pT) (ai pT) .none ahe ahf ahg aht VB ahh),ahz⟩)
    (afm:codeIn K VB "answers"=true)
    (afn:keepIn K (.ref nU)=true)
    (am0:nsIn K mainGlobals "KEEPERS"=some (some (.int (8) akr)))
    (Sq:nsIn K mainGlobals "MOST_KEY_BYTES"=some (some (.int (32) PX)))
    (aso:nsIn K mainGlobals "SET"=some (some (.int (1) arc)))
    (aor:nsIn K mainGlobals "INSERT"=some (some (.int (2) amu)))
    (asp:nsIn K mainGlobals "PUT"=some (some (.int (3) ard)))
    (aos:nsIn K mainGlobals "REMOVE"=some (some (.int (4) amv)))
    (asq:nsIn K mainGlobals "ADD"=some (some (.int (5) arf)))
    (arp:nsIn K mainGlobals "HALF"=some (some (.int (9223372036854775808) apZ)))
    (ap5:nsIn K mainGlobals "ROUND"=some (some (.int (18446744073709551616) aob)))
    (arq:nsIn K mainGlobals "ROOT"=some (some (.ref kh)))
    (ars:K.lookup kh=some ⟨.type "tuple",an9,.seq #[.int 0 amw,.int 0 amx] ap3,aoa⟩)
    (ap6:nsIn K mainGlobals "FRONT"=some (some (.ref fC)))
    (ap7:K.lookup fC=some ⟨.type "tuple",amm,.seq #[.int 0 aks,.int 0 akt] aog,amr⟩)
    (Ss:nsIn K mainGlobals "IDENTITY_BYTES"=some (some (.int (5) PY)))
    (akO:nsIn K mainGlobals "TOO_LONG"=some (some (.int (-1) ahA)))
    (ap8:nsIn K mainGlobals "WRONG"=some (some (.int (-2) aoc)))
    (ahZ:nsIn K mainGlobals "NO_OBJECT"=some (some (.int (-3) aeX)))
    (acd:nsIn K mainGlobals "NO_MESSAGES"=some (some (.int (-3) X9)))
    (am1:nsIn K mainGlobals "NO_ROOM"=some (some (.int (-4) aku)))
    (am2:nsIn K mainGlobals "NOTHING"=some (some (.int (0) akv)))
    (aot:nsIn K mainGlobals "NUMBER"=some (some (.int (1) amy)))
    (art:nsIn K mainGlobals "TEXT"=some (some (.int (2) ap0)))
    (asr:nsIn K mainGlobals "MAP"=some (some (.int (3) arh)))
    (aru:nsIn K mainGlobals "LIST"=some (some (.int (4) ap1)))
    (am3:nsIn K mainGlobals "COUNTER"=some (some (.int (5) akw)))
    (Qj:nsIn K mainGlobals "MOST_TEXT_BYTES"=some (some (.int (64) MM)))
    (ap9:nsIn K mainGlobals "SIZES"=some (some (.ref nV)))
    (aqa:K.lookup nV=some ⟨.type "tuple",amn,.seq #[.int 1 akx,.int 9 aky,.int 2 akz,.int 1 akA,.int 1 akB,.int 1 akC] aoh,ams⟩)
    (Ny:nsIn K mainGlobals "MOST_VALUE_BYTES"=some (some (.int (66) Kr)))
    (Yl:nsIn K mainGlobals "LENGTH_BYTES"=some (some (.int (2) V4)))
    (afo:nsIn K mainGlobals "HEAD_BYTES"=some (some (.int (15) abN)))
    (Ym:nsIn K mainGlobals "AMOUNT_BYTES"=some (some (.int (8) V5)))
    (Nz:nsIn K mainGlobals "MOST_TAKEN_BYTES"=some (some (.int (65536) Ks)))
    (ah0:nsIn K mainGlobals "MOST_ACTS"=some (some (.int (4096) aeY)))
    (Yn:nsIn K mainGlobals "MOST_WAITING"=some (some (.int (256) V6)))
    (ah1:nsIn K mainGlobals "LAST_TIME"=some (some (.int (4294967295) aeZ)))
    (aqb:nsIn K mainGlobals "QUOTE"=some (some (.int (34) aod)))
    (arv:nsIn K mainGlobals "HASH"=some (some (.int (35) ap2)))
    (aqc:nsIn K mainGlobals "COMMA"=some (some (.int (44) aoe)))
    (aqd:nsIn K mainGlobals "COLON"=some (some (.int (58) aof)))
    (ace:nsIn K mainGlobals "LIST_BEGINS"=some (some (.int (91) Yb)))
    (ah2:nsIn K mainGlobals "BACKSLASH"=some (some (.int (92) ae0)))
    (ah3:nsIn K mainGlobals "LIST_ENDS"=some (some (.int (93) ae1)))
    (afp:nsIn K mainGlobals "MAP_BEGINS"=some (some (.int (123) abO)))
    (akP:nsIn K mainGlobals "MAP_ENDS"=some (some (.int (125) ahB)))
    (aqe:nsIn K mainGlobals "CALLS"=some (some (.ref vU)))
    (aqf:K.lookup vU=some ⟨.type "tuple",amo,.seq #[.ref eS,.ref g4,.ref dI,.ref g6,.ref dJ,.ref g7,.ref eT,.ref f7,.ref g8,.ref f9,.ref gb] aoi,amt⟩)
    (aqg:nsIn K mainGlobals "range"=some none)
    (akQ:nsIn K mainGlobals "reversed"=some none)
    (nlen:nsIn K mainGlobals "len"=some none)
    (nsorted:nsIn K mainGlobals "sorted"=some none)
    (nlist:nsIn K mainGlobals "list"=some none)
    (ntuple:nsIn K mainGlobals "tuple"=some none)
    (nmax:nsIn K mainGlobals "max"=some none)
    (nall:nsIn K mainGlobals "all"=some none)
    (afq:nsIn K mainGlobals "isinstance"=some none)
    (nord:nsIn K mainGlobals "ord"=some none)
    (nstr:nsIn K mainGlobals "str"=some none):∃ a:dX,Txt K mg a:=
  ⟨{ bH:=bH,
     iH:=iH,
     aU:=aU,
     aI:=aI,
     az:=az,
     aV:=aV,
     fD:=fD,
     iX:=_,
     bu:=bu,
     gi:=_,
     jT:=jT,
     yD:=_,
     eJ:=eJ,
     pC:=_,
     eM:=eM,
     nI:=_,
     bW:=bW,
     jf:=_,
     jx:=jx,
     vI:=_,
     dQ:=dQ,
     mw:=_,
     eN:=eN,
     nJ:=_,
     dR:=dR,
     my:=_,
     bX:=bX,
     jg:=_,
     dS:=dS,
     mz:=_,
     qN:=qN,
     GY:=_,
     fm:=fm,
     vJ:=_,
     kg:=kg,
     GZ:=_,
     jy:=jy,
     vK:=_,
     vL:=vL,
     Lo:=_,
     qO:=qO,
     G0:=_,
     jz:=jz,
     vM:=_,
     iA:=iA,
     tQ:=_,
     nL:=nL,
     BZ:=_,
     gz:=gz,
     qP:=_,
     nM:=nM,
     B0:=_,
     lu:=lu,
     yE:=_,
     gA:=gA,
     qQ:=_,
     ly:=ly,
     yF:=_,
     ck:=ck,
     jB:=_,
     lz:=lz,
     yG:=_,
     nN:=nN,
     B3:=_,
     nO:=nO,
     B4:=_,
     dG:=dG,
     nP:=_,
     cR:=cR,
     mC:=_,
     eK:=eK,
     pD:=_,
     bT:=bT,
     jC:=_,
     b5:=b5,
     j3:=_,
     bg:=bg,
     fB:=_,
     dH:=dH,
     nQ:=_,
     b7:=b7,
     j4:=_,
     b8:=b8,
     j5:=_,
     bD:=bD,
     gO:=_,
     bw:=bw,
     gB:=_,
     cC:=cC,
     lA:=_,
     cS:=cS,
     mD:=_,
     bx:=bx,
     gC:=_,
     bI:=bI,
     iC:=_,
     bj:=bj,
     fW:=_,
     bE:=bE,
     gP:=_,
     fE:=fE,
     qR:=_,
     cD:=cD,
     lB:=_,
     bN:=bN,
     jh:=_,
     iJ:=iJ,
     vN:=_,
     fF:=fF,
     qS:=_,
     fG:=fG,
     qT:=_,
     bU:=bU,
     jD:=_,
     bJ:=bJ,
     iD:=_,
     bO:=bO,
     ji:=_,
     cE:=cE,
     lC:=_,
     fH:=fH,
     qU:=_,
     cF:=cF,
     lD:=_,
     bP:=bP,
     jj:=_,
     bF:=bF,
     gQ:=_,
     cG:=cG,
     lE:=_,
     nR:=nR,
     B5:=_,
     eO:=eO,
     nS:=_,
     jE:=jE,
     vO:=_,
     eR:=eR,
     nT:=_,
     dU:=dU,
     mE:=_,
     dW:=dW,
     mF:=_,
     fX:=fX,
     pF:=_,
     jF:=jF,
     vP:=_,
     eS:=eS,
     tR:=_,
     g4:=g4,
     yH:=_,
     dI:=dI,
     qV:=_,
     g6:=g6,
     yI:=_,
     c8:=c8,
     lF:=_,
     dJ:=dJ,
     qW:=_,
     g7:=g7,
     yJ:=_,
     eT:=eT,
     tS:=_,
     f7:=f7,
     vQ:=_,
     g8:=g8,
     yK:=_,
     f9:=f9,
     vR:=_,
     gb:=gb,
     vS:=_,
     nU:=nU,
     sS:=_,
     kh:=kh,
     fC:=fC,
     nV:=nV,
     vU:=vU },
   { aN:=⟨amz,amA,amB,amC⟩,
     qX:=mg_of X G aoj,
     br:=Yc,
     cB:=R7,
     oU:=abP,
     cH:=PZ,
     dM:=V8,
     nX:=R8,
     bG:=⟨ari,arj,ark,arl⟩,
     amc:=mg_of X G asn,
     cT:=abQ,
     ud:=aok,
     wN:=aol,
     bq:=abR,
     bB:=⟨ahC,ahD,ahE,ahF⟩,
     Ur:=mg_of X G akD,
     cO:=MN,
     fg:=MO,
     j6:=Ku,
     aS:=⟨ahI,ahJ,ahK,ahL⟩,
     Us:=mg_of X G akE,
     mH:=P0,
     ki:=R9,
     eE:=Ge,
     kj:=Se,
     aO:=⟨amF,amG,amH,amI⟩,
     adH:=mg_of X G aom,
     oX:=abS,
     m7:=Yd,
     fq:=Sf,
     jG:=HQ,
     ko:=Ye,
     pG:=V9,
     eu:=P1,
     b9:=MP,
     aQ:=⟨amL,amM,amN,amO⟩,
     adI:=mg_of X G aon,
     gR:=P4,
     cP:=MQ,
     nW:=⟨amD,abT,abU,amE⟩,
     Iu:=an7 (st:=bA) abV abW abX,
     jU:=xU wd,
     eU:=uc wd,
     lU:=BY wd,
     rf:=Ao wd,
     ow:=⟨A7,A8,kE⟩,
     oY:=ay (st:=bV) qx qy kE,
     oZ:=(ay (st:=bV) qx qy kE).binds (ps:=gh) fun _ _ _ _ _ _ us hl=>zl1 us hl fun _=>rfl,
     agH:=⟨arn,akF,akG,aro⟩,
     Ut:=ay (st:=mS) Zi Zj Zk,
     Jr:=(ay (st:=mS) Zi Zj Zk).binds (ps:=yn) fun _ _ _ _ _ _ us hl=>zl5 us hl fun _ _ _ _ _=>rfl,
     gc:=⟨Yg,Yh,zX⟩,
     E3:=ay (st:=gU) IT IU zX,
     gF:=(ay (st:=gU) IT IU zX).binds (ps:=pq) fun _ _ _ _ _ _ us hl=>zl1 us hl fun _=>rfl,
     jo:=mg_of X G Wa,
     g9:=ay (st:=gj) Gf Gg Gh,
     jn:=(ay (st:=gj) Gf Gg Gh).binds (ps:=nA) fun _ _ _ _ _ _ us hl=>zl2 us hl fun _ _=>rfl,
     dF:=mg_of X G HR,
     cK:=ay (st:=cV) uW uX uY,
     dD:=(ay (st:=cV) uW uX uY).binds (ps:=i8) fun _ _ _ _ _ _ us hl=>zl1 us hl fun _=>rfl,
     yO:=mg_of X G ahO,
     ug:=ay (st:=kL) Wb Wc We,
     yN:=(ay (st:=kL) Wb Wc We).binds (ps:=vt) fun _ _ _ _ _ _ us hl=>zl1 us hl fun _=>rfl,
     kC:=mg_of X G Sg,
     iM:=ay (st:=fN) C3 C4 C5,
     ku:=(ay (st:=fN) C3 C4 C5).binds (ps:=l7) fun _ _ _ _ _ _ us hl=>zl1 us hl fun _=>rfl,
     pI:=mg_of X G Wg,
     lM:=ay (st:=gk) Gi Gj Gk,
     pH:=(ay (st:=gk) Gi Gj Gk).binds (ps:=nB) fun _ _ _ _ _ _ us hl=>zl1 us hl fun _=>rfl,
     nZ:=mg_of X G Sh,
     kD:=ay (st:=fO) C6 C7 C8,
     nY:=(ay (st:=fO) C6 C7 C8).binds (ps:=l8) fun _ _ _ _ _ _ us hl=>zl1 us hl fun _=>rfl,
     jI:=mg_of X G HS,
     gG:=ay (st:=cW) uZ u6 u7,
     jH:=(ay (st:=cW) uZ u6 u7).binds (ps:=jb) fun _ _ _ _ _ _ us hl=>zl1 us hl fun _=>rfl,
     sV:=mg_of X G Si,
     oh:=ay (st:=fP) C9 Dc Dd,
     sU:=(ay (st:=fP) C9 Dc Dd).binds (ps:=l9) fun _ _ _ _ _ _ us hl=>zl1 us hl fun _=>rfl,
     adK:=mg_of X G aoo,
     Uu:=ay (st:=sO) aiT aiU aiV,
     adJ:=(ay (st:=sO) aiT aiU aiV).binds (ps:=GV) fun _ _ _ _ _ _ us hl=>zl6 us hl fun _ _ _ _ _ _=>rfl,
     QS:=mg_of X G ahP,
     E4:=ay (st:=kM) Wh Wi Wj,
     QO:=(ay (st:=kM) Wh Wi Wj).binds (ps:=vy) fun _ _ _ _ _ _ us hl=>zl5 us hl fun _ _ _ _ _=>rfl,
     adM:=mg_of X G aop,
     Uv:=ay (st:=sP) aiW aiX aiY,
     adL:=(ay (st:=sP) aiW aiX aiY).binds (ps:=GW) fun _ _ _ _ _ _ us hl=>zl5 us hl fun _ _ _ _ _=>rfl,
     QU:=mg_of X G ahQ,
     E5:=ay (st:=kO) Wk Wl Wm,
     QT:=(ay (st:=kO) Wk Wl Wm).binds (ps:=vz) fun _ _ _ _ _ _ us hl=>zl3 us hl fun _ _ _=>rfl,
     aap:=mg_of X G ap4,
     SQ:=ay (st:=wJ) amR amS amT,
     aao:=(ay (st:=wJ) amR amS amT).binds (ps:=Lg) fun _ _ _ _ _ _ us hl=>zl5 us hl fun _ _ _ _ _=>rfl,
     adO:=mg_of X G aoq,
     Uw:=ay (st:=sQ) aiZ ai0 ai1,
     adN:=(ay (st:=sQ) aiZ ai0 ai1).binds (ps:=GX) fun _ _ _ _ _ _ us hl=>zl3 us hl fun _ _ _=>rfl,
     um:=mg_of X G ahR,
     qh:=ay (st:=kP) Wn Wo Wp,
     uh:=(ay (st:=kP) Wn Wo Wp).binds (ps:=vB) fun _ _ _ _ _ _ us hl=>zl2 us hl fun _ _=>rfl,
     Lr:=mg_of X G ae2,
     B6:=ay (st:=jN) Rg Rh Ri,
     Lq:=(ay (st:=jN) Rg Rh Ri).binds (ps:=tM) fun _ _ _ _ _ _ us hl=>zl1 us hl fun _=>rfl,
     Y4:=mg_of X G amU,
     OI:=ay (st:=pM) ae3 ae4 ae5,
     Y3:=(ay (st:=pM) ae3 ae4 ae5).binds (ps:=BP) fun _ _ _ _ _ _ us hl=>zl1 us hl fun _=>rfl,
     Iw:=mg_of X G abY,
     zC:=ay (st:=iP) MR MS MT,
     Iv:=(ay (st:=iP) MR MS MT).binds (ps:=qE) fun _ _ _ _ _ _ us hl=>zl1 us hl fun _=>rfl,
     Y6:=mg_of X G amV,
     OJ:=ay (st:=pN) ae6 ae7 ae8,
     Y5:=(ay (st:=pN) ae6 ae7 ae8).binds (ps:=BQ) fun _ _ _ _ _ _ us hl=>zl1 us hl fun _=>rfl,
     Uy:=mg_of X G akH,
     Js:=ay (st:=mT) Zl Zm Zn,
     Ux:=(ay (st:=mT) Zl Zm Zn).binds (ps:=yp) fun _ _ _ _ _ _ us hl=>zl1 us hl fun _=>rfl,
     IA:=mg_of X G abZ,
     zD:=ay (st:=iQ) MU MV MW,
     Iz:=(ay (st:=iQ) MU MV MW).binds (ps:=qF) fun _ _ _ _ _ _ us hl=>zl3 us hl fun _ _ _=>rfl,
     UA:=mg_of X G akI,
     Jt:=ay (st:=mU) Zo Zp Zq,
     Uz:=(ay (st:=mU) Zo Zp Zq).binds (ps:=yq) fun _ _ _ _ _ _ us hl=>zl2 us hl fun _ _=>rfl,
     uO:=mg_of X G Kv,
     oM:=ay (st:=dw) xE xF xG,
     uN:=(ay (st:=dw) xE xF xG).binds (ps:=jt) fun _ _ _ _ _ _ us hl=>zl3 us hl fun _ _ _=>rfl,
     Jv:=mg_of X G akJ,
     B7:=ay (st:=mV) Zr Zs Zt,
     Ju:=(ay (st:=mV) Zr Zs Zt).binds (ps:=yr) fun _ _ _ _ _ _ us hl=>zl3 us hl fun _ _ _=>rfl,
     OM:=mg_of X G amW,
     G5:=ay (st:=pP) ae9 afa afb,
     OL:=(ay (st:=pP) ae9 afa afb).binds (ps:=BR) fun _ _ _ _ _ _ us hl=>zl2 us hl fun _ _=>rfl,
     Y8:=mg_of X G amX,
     ON:=ay (st:=pQ) afc afd afe,
     Y7:=(ay (st:=pQ) afc afd afe).binds (ps:=BS) fun _ _ _ _ _ _ us hl=>zl3 us hl fun _ _ _=>rfl,
     QM:=⟨ahG,Wq,Wr,ahH⟩,
     CQ:=ay (st:=gm) Gm Gn Gp,
     CS:=(ay (st:=gm) Gm Gn Gp).binds (ps:=nD) fun _ _ _ _ _ _ us hl=>zl1 us hl fun _=>rfl,
     yL:=⟨Sj,Sk,uJ⟩,
     Aq:=ay (st:=fQ) De Df uJ,
     Ar:=(ay (st:=fQ) De Df uJ).binds (ps:=mh) fun _ _ _ _ _ _ us hl=>zl4 us hl fun _ _ _ _=>rfl,
     CO:=⟨Yi,Yj,zY⟩,
     E6:=ay (st:=gW) IV IW zY,
     E7:=(ay (st:=gW) IV IW zY).binds (ps:=pA) fun _ _ _ _ _ _ us hl=>zl4 us hl fun _ _ _ _=>rfl,
     ue:=⟨Kw,Kx,pX⟩,
     uP:=ay (st:=dz) xH xJ pX,
     uQ:=(ay (st:=dz) xH xJ pX).binds (ps:=ju) fun _ _ _ _ _ _ us hl=>zl2 us hl fun _ _=>rfl,
     oJ:=⟨MX,MY,rG⟩,
     wV:=ay (st:=dY) zf zg rG,
     pV:=(ay (st:=dY) zf zg rG).binds (ps:=jY) fun _ _ _ _ _ _ us hl=>zl1 us hl fun _=>rfl,
     mG:=⟨yb,yd,jl⟩,
     m8:=ay (st:=bM) oE oF jl,
     m9:=(ay (st:=bM) oE oF jl).binds (ps:=fz) fun _ _ _ _ _ _ us hl=>zl1 us hl fun _=>rfl,
     QN:=⟨ahM,Ws,Wt,ahN⟩,
     CT:=ay (st:=gn) Gq Gr Gs,
     CU:=(ay (st:=gn) Gq Gr Gs).binds (ps:=nE) fun _ _ _ _ _ _ us hl=>zl1 us hl fun _=>rfl,
     cu:=⟨MZ,M0,rH⟩,
     wW:=ay (st:=dZ) zh zj rH,
     cQ:=(ay (st:=dZ) zh zj rH).binds (ps:=j1) fun _ _ _ _ _ _ us hl=>zl2 us hl fun _ _=>rfl,
     oK:=⟨Na,Nb,rJ⟩,
     wX:=ay (st:=ef) zk zl rJ,
     pW:=(ay (st:=ef) zk zl rJ).binds (ps:=j2) fun _ _ _ _ _ _ us hl=>zl2 us hl fun _ _=>rfl,
     qf:=⟨Ec,Ed,lV⟩,
     rg:=ay (st:=cy) sf sq lV,
     rh:=(ay (st:=cy) sf sq lV).binds (ps:=gJ) fun _ _ _ _ _ _ us hl=>zl2 us hl fun _ _=>rfl,
     oV:=⟨Cs,Ct,lH⟩,
     qi:=ay (st:=bY) rK rL lH,
     qj:=(ay (st:=bY) rK rL lH).binds (ps:=gx) fun _ _ _ _ _ _ us hl=>zl2 us hl fun _ _=>rfl,
     wO:=⟨P5,P6,tw⟩,
     yP:=ay (st:=eW) A9 Ba tw,
     yQ:=(ay (st:=eW) A9 Ba tw).binds (ps:=kQ) fun _ _ _ _ _ _ us hl=>zl2 us hl fun _ _=>rfl,
     yM:=⟨Sl,Sm,uK⟩,
     As:=ay (st:=fR) Dg Dh uK,
     Au:=(ay (st:=fR) Dg Dh uK).binds (ps:=mj) fun _ _ _ _ _ _ us hl=>zl2 us hl fun _ _=>rfl,
     oW:=⟨Cu,Cv,lI⟩,
     qo:=ay (st:=bZ) rM rN lI,
     qp:=(ay (st:=bZ) rM rN lI).binds (ps:=gy) fun _ _ _ _ _ _ us hl=>zl2 us hl fun _ _=>rfl,
     qY:=⟨Gu,Gv,nt⟩,
     rW:=ay (st:=cM) uz uA nt,
     rX:=(ay (st:=cM) uz uA nt).binds (ps:=iw) fun _ _ _ _ _ _ us hl=>zl2 us hl fun _ _=>rfl,
     m6:=⟨zZ,z0,jV⟩,
     oz:=ay (st:=bR) o6 o7 jV,
     oA:=(ay (st:=bR) o6 o7 jV).binds (ps:=fS) fun _ _ _ _ _ _ us hl=>zl2 us hl fun _ _=>rfl,
     qg:=⟨Ef,Eg,lW⟩,
     rj:=ay (st:=cz) sr su lW,
     rm:=(ay (st:=cz) sr su lW).binds (ps:=gK) fun _ _ _ _ _ _ us hl=>zl2 us hl fun _ _=>rfl,
     YZ:=⟨amJ,ab0,ab1,amK⟩,
     IB:=ay (st:=iR) Nc Nf Ng,
     IC:=(ay (st:=iR) Nc Nf Ng).binds (ps:=qG) fun _ _ _ _ _ _ us hl=>zl2 us hl fun _ _=>rfl,
     pU:=⟨P7,P8,tD⟩,
     yR:=ay (st:=eX) Bb Bc tD,
     rq:=(ay (st:=eX) Bb Bc tD).binds (ps:=kT) fun _ _ _ _ _ _ us hl=>zl1 us hl fun _=>rfl,
     rV:=⟨HU,HV,oN⟩,
     uo:=ay (st:=cX) u9 vc oN,
     uq:=(ay (st:=cX) u9 vc oN).binds (ps:=jc) fun _ _ _ _ _ _ us hl=>zl1 us hl fun _=>rfl,
     Lp:=⟨ahS,ahT,Ky⟩,
     QV:=ay (st:=kU) Wu Wv Ky,
     QW:=(ay (st:=kU) Wu Wv Ky).binds (ps:=vC) fun _ _ _ _ _ _ us hl=>zl2 us hl fun _ _=>rfl,
     wQ:=⟨ab2,ab3,Cw⟩,
     ID:=ay (st:=iS) Nh Ni Cw,
     zE:=(ay (st:=iS) Nh Ni Cw).binds (ps:=qH) fun _ _ _ _ _ _ us hl=>zl2 us hl fun _ _=>rfl,
     E2:=⟨ab4,ab5,Cy⟩,
     IE:=ay (st:=iT) Nj Nk Cy,
     IF:=(ay (st:=iT) Nj Nk Cy).binds (ps:=qI) fun _ _ _ _ _ _ us hl=>zl2 us hl fun _ _=>rfl,
     uf:=⟨Kz,KA,pY⟩,
     uR:=ay (st:=dB) xK xM pY,
     uS:=(ay (st:=dB) xK xM pY).binds (ps:=jv) fun _ _ _ _ _ _ us hl=>zl2 us hl fun _ _=>rfl,
     qZ:=⟨Gw,Gx,nu⟩,
     rY:=ay (st:=cN) uB uC nu,
     rZ:=(ay (st:=cN) uB uC nu).binds (ps:=iy) fun _ _ _ _ _ _ us hl=>zl1 us hl fun _=>rfl,
     lT:=⟨HW,HX,oO⟩,
     ur:=ay (st:=cY) vd ve oO,
     ng:=(ay (st:=cY) vd ve oO).binds (ps:=jd) fun _ _ _ _ _ _ us hl=>zl1 us hl fun _=>rfl,
     wR:=⟨P9,Qa,tE⟩,
     yS:=ay (st:=eY) Bd Be tE,
     yT:=(ay (st:=eY) Bd Be tE).binds (ps:=kW) fun _ _ _ _ _ _ us hl=>zl2 us hl fun _ _=>rfl,
     Y0:=⟨amP,ab6,ab7,amQ⟩,
     IG:=ay (st:=iU) Nl Nm Nn,
     II:=(ay (st:=iU) Nl Nm Nn).binds (ps:=qJ) fun _ _ _ _ _ _ us hl=>zl2 us hl fun _ _=>rfl,
     wU:=⟨Qc,Qe,tF⟩,
     yU:=ay (st:=eZ) Bf Bh tF,
     yV:=(ay (st:=eZ) Bf Bh tF).binds (ps:=kX) fun _ _ _ _ _ _ us hl=>zl1 us hl fun _=>rfl,
     aC:=⟨HY,HZ,oQ⟩,
     uu:=ay (st:=cZ) vf vg oQ,
     aH:=(ay (st:=cZ) vf vg oQ).binds (ps:=je) fun _ _ _ _ _ _ us hl=>zl1 us hl fun _=>rfl,
     fu:=⟨Eh,Ei,lX⟩,
     rA:=ay (st:=cA) sA sC lX,
     fY:=(ay (st:=cA) sA sC lX).binds (ps:=gM) fun _ _ _ _ _ _ us hl=>zl1 us hl fun _=>rfl,
     gu:=⟨Qg,Qh,tG⟩,
     yW:=ay (st:=fb) Bj Bk tG,
     gS:=(ay (st:=fb) Bj Bk tG).binds (ps:=kY) fun _ _ _ _ _ _ us hl=>zl1 us hl fun _=>rfl,
     Za:=mg_of X G amY,
     OO:=ay (st:=pS) afg afh afi,
     Y9:=(ay (st:=pS) afg afh afi).binds (ps:=BU) fun _ _ _ _ _ _ us hl=>zl2 us hl fun _ _=>rfl,
     CW:=mg_of X G Ww,
     uH:=ay (st:=gp) Gy Gz GA,
     CV:=(ay (st:=gp) Gy Gz GA).binds (ps:=nF) fun _ _ _ _ _ _ us hl=>zl1 us hl fun _=>rfl,
     QY:=mg_of X G ahU,
     E8:=ay (st:=kZ) Wx Wy Wz,
     QX:=(ay (st:=kZ) Wx Wy Wz).binds (ps:=vD) fun _ _ _ _ _ _ us hl=>zl2 us hl fun _ _=>rfl,
     CZ:=mg_of X G WA,
     uI:=ay (st:=gq) GB GC GD,
     CY:=(ay (st:=gq) GB GC GD).binds (ps:=nH) fun _ _ _ _ _ _ us hl=>zl1 us hl fun _=>rfl,
     Aw:=mg_of X G Sn,
     sW:=ay (st:=fU) Di Dj Dk,
     Av:=(ay (st:=fU) Di Dj Dk).binds (ps:=mo) fun _ _ _ _ _ _ us hl=>zl1 us hl fun _=>rfl,
     sY:=mg_of X G So,
     oj:=ay (st:=fV) Dl Dm Dn,
     sX:=(ay (st:=fV) Dl Dm Dn).binds (ps:=mq) fun _ _ _ _ _ _ us hl=>zl1 us hl fun _=>rfl,
     wZ:=mg_of X G Yk,
     rB:=ay (st:=gX) IX IY IZ,
     wY:=(ay (st:=gX) IX IY IZ).binds (ps:=pB) fun _ _ _ _ _ _ us hl=>zl1 us hl fun _=>rfl,
     Fb:=mg_of X G ahV,
     yX:=ay (st:=k6) WB WC WD,
     E9:=(ay (st:=k6) WB WC WD).binds (ps:=vE) fun _ _ _ _ _ _ us hl=>zl1 us hl fun _=>rfl,
     aaq:=mg_of X G afj,
     B8:=ay (st:=jP) Rj Rk Rl,
     Ls:=(ay (st:=jP) Rj Rk Rl).binds (ps:=tN) fun _ _ _ _ _ _ us hl=>zl2 us hl fun _ _=>rfl,
     agI:=mg_of X G akK,
     Jw:=ay (st:=mW) Zu Zv Zw,
     UB:=(ay (st:=mW) Zu Zv Zw).binds (ps:=yw) fun _ _ _ _ _ _ us hl=>zl2 us hl fun _ _=>rfl,
     XD:=mg_of X G ab8,
     zF:=ay (st:=iV) Np Nq Nr,
     IJ:=(ay (st:=iV) Np Nq Nr).binds (ps:=qK) fun _ _ _ _ _ _ us hl=>zl2 us hl fun _ _=>rfl,
     agJ:=mg_of X G akL,
     Jx:=ay (st:=mY) Zx Zy Zz,
     UC:=(ay (st:=mY) Zx Zy Zz).binds (ps:=yx) fun _ _ _ _ _ _ us hl=>zl2 us hl fun _ _=>rfl,
     rD:=mg_of X G Qi,
     mJ:=ay (st:=ff) Bm Bo Bp,
     rC:=(ay (st:=ff) Bm Bo Bp).binds (ps:=k7) fun _ _ _ _ _ _ us hl=>zl3 us hl fun _ _ _=>rfl,
     XE:=mg_of X G ab9,
     zG:=ay (st:=iW) Nt Nu Nv,
     IK:=(ay (st:=iW) Nt Nu Nv).binds (ps:=qL) fun _ _ _ _ _ _ us hl=>zl2 us hl fun _ _=>rfl,
     agK:=mg_of X G akM,
     Jy:=ay (st:=mZ) ZA ZC ZD,
     UD:=(ay (st:=mZ) ZA ZC ZD).binds (ps:=yy) fun _ _ _ _ _ _ us hl=>zl2 us hl fun _ _=>rfl,
     aar:=mg_of X G afk,
     B9:=ay (st:=jQ) Rm Rn Ro,
     Lu:=(ay (st:=jQ) Rm Rn Ro).binds (ps:=tO) fun _ _ _ _ _ _ us hl=>zl2 us hl fun _ _=>rfl,
     adP:=mg_of X G ahW,
     Fc:=ay (st:=k8) WE WG WH,
     QZ:=(ay (st:=k8) WE WG WH).binds (ps:=vF) fun _ _ _ _ _ _ us hl=>zl2 us hl fun _ _=>rfl,
     agL:=mg_of X G akN,
     Jz:=ay (st:=m5) ZE ZF ZG,
     UE:=(ay (st:=m5) ZE ZF ZG).binds (ps:=yC) fun _ _ _ _ _ _ us hl=>zl2 us hl fun _ _=>rfl,
     adQ:=mg_of X G ahX,
     Fd:=ay (st:=k9) WI WJ WK,
     Q0:=(ay (st:=k9) WI WJ WK).binds (ps:=vG) fun _ _ _ _ _ _ us hl=>zl2 us hl fun _ _=>rfl,
     adR:=mg_of X G ahY,
     Fe:=ay (st:=lg) WL WM WN,
     Q2:=(ay (st:=lg) WL WM WN).binds (ps:=vH) fun _ _ _ _ _ _ us hl=>zl2 us hl fun _ _=>rfl,
     Zb:=mg_of X G amZ,
     OP:=ay (st:=pT) afl afm afn,
     aj2:=(ay (st:=pT) afl afm afn).binds (ps:=BX) fun _ _ _ _ _ _ us hl=>zl1 us hl fun _=>rfl,
     Ax:=⟨_,mg_of X G am0⟩,
     sZ:=⟨_,mg_of X G Sq⟩,
     Zc:=⟨_,mg_of X G aso⟩,
     Lv:=⟨_,mg_of X G aor⟩,
     aiO:=⟨_,mg_of X G asp⟩,
     Ay:=⟨_,mg_of X G aos⟩,
     Zd:=⟨_,mg_of X G asq⟩,
     agM:=⟨_,mg_of X G arp⟩,
     aiP:=⟨_,mg_of X G ap5⟩,
     UG:=mg_of X G arq,
     Lw:=⟨_,_,_,ars,rfl,rfl,(by show 2≤sizeLine;decide),(.cons ⟨_,rfl⟩ (.cons ⟨_,rfl⟩ .nil))⟩,
     SR:=mg_of X G ap6,
     Lx:=⟨_,_,_,ap7,rfl,rfl,(by show 2≤sizeLine;decide),(.cons ⟨_,rfl⟩ (.cons ⟨_,rfl⟩ .nil))⟩,
     om:=⟨_,mg_of X G Ss⟩,
     UH:=⟨_,mg_of X G akO⟩,
     tT:=⟨_,mg_of X G ap8⟩,
     uv:=⟨_,mg_of X G ahZ⟩,
     IL:=⟨_,mg_of X G acd⟩,
     Ze:=⟨_,mg_of X G am1⟩,
     OQ:=⟨_,mg_of X G am2⟩,
     adS:=⟨_,mg_of X G aot⟩,
     amd:=⟨_,mg_of X G art⟩,
     UI:=⟨_,mg_of X G asr⟩,
     OR:=⟨_,mg_of X G aru⟩,
     Az:=⟨_,mg_of X G am3⟩,
     yY:=⟨_,mg_of X G Qj⟩,
     SS:=mg_of X G ap9,
     Ly:=⟨_,_,_,aqa,rfl,rfl,(by show 6≤sizeLine;decide),(.cons ⟨_,rfl⟩ (.cons ⟨_,rfl⟩ (.cons ⟨_,rfl⟩ (.cons ⟨_,rfl⟩ (.cons ⟨_,rfl⟩ (.cons ⟨_,rfl⟩ .nil))))))⟩,
     lG:=⟨_,mg_of X G Ny⟩,
     w9:=⟨_,mg_of X G Yl⟩,
     vV:=⟨_,mg_of X G afo⟩,
     xg:=⟨_,mg_of X G Ym⟩,
     xh:=⟨_,mg_of X G Nz⟩,
     Q3:=⟨_,mg_of X G ah0⟩,
     Ff:=⟨_,mg_of X G Yn⟩,
     Q4:=⟨_,mg_of X G ah1⟩,
     SV:=⟨_,mg_of X G aqb⟩,
     ame:=⟨_,mg_of X G arv⟩,
     aas:=⟨_,mg_of X G aqc⟩,
     aiQ:=⟨_,mg_of X G aqd⟩,
     IM:=⟨_,mg_of X G ace⟩,
     Fi:=⟨_,mg_of X G ah2⟩,
     Q5:=⟨_,mg_of X G ah3⟩,
     Lz:=⟨_,mg_of X G afp⟩,
     UJ:=⟨_,mg_of X G akP⟩,
     aiR:=mg_of X G aqe,
     adT:=⟨_,_,_,aqf,rfl,rfl,(by show 11≤sizeLine;decide),(.cons rfl (.cons rfl (.cons rfl (.cons rfl (.cons rfl (.cons rfl (.cons rfl (.cons rfl (.cons rfl (.cons rfl (.cons rfl .nil)))))))))))⟩,
     aiS:=arE X G aqg,
     JA:=arE X G akQ,
     nh:=arE X G nlen,
     UK:=arE X G nsorted,
     agN:=arE X G nlist,
     aat:=arE X G ntuple,
     aoQ:=arE X G nmax,
     aoR:=arE X G nall,
     LA:=arE X G afq,
     aoS:=arE X G nord,
     aoT:=arE X G nstr }⟩
end KB
def ze_7{A B C D E F G:Type _}(p:A→B→C→D→E→F→G→Prop)(a:A):Prop:=zx_6 (p a)
def zx_7{A B C D E F G:Type _}(p:A→B→C→D→E→F→G→Prop):Prop:=Exists (ze_7 p)
def ze_8{A B C D E F G H:Type _}(p:A→B→C→D→E→F→G→H→Prop)(a:A):Prop:=zx_7 (p a)
def zx_8{A B C D E F G H:Type _}(p:A→B→C→D→E→F→G→H→Prop):Prop:=Exists (ze_8 p)
def ze_9{A B C D E F G H I:Type _}(p:A→B→C→D→E→F→G→H→I→Prop)(a:A):Prop:=zx_8 (p a)
def zx_9{A B C D E F G H I:Type _}(p:A→B→C→D→E→F→G→H→I→Prop):Prop:=Exists (ze_9 p)
def ze_10{A B C D E F G H I J:Type _}(p:A→B→C→D→E→F→G→H→I→J→Prop)(a:A):Prop:=zx_9 (p a)
def zx_10{A B C D E F G H I J:Type _}(p:A→B→C→D→E→F→G→H→I→J→Prop):Prop:=Exists (ze_10 p)
def ze_11{A B C D E F G H I J K:Type _}(p:A→B→C→D→E→F→G→H→I→J→K→Prop)(a:A):Prop:=zx_10 (p a)
def zx_11{A B C D E F G H I J K:Type _}(p:A→B→C→D→E→F→G→H→I→J→K→Prop):Prop:=Exists (ze_11 p)
def ze_12{A B C D E F G H I J K L:Type _}(p:A→B→C→D→E→F→G→H→I→J→K→L→Prop)(a:A):Prop:=zx_11 (p a)
def zx_12{A B C D E F G H I J K L:Type _}(p:A→B→C→D→E→F→G→H→I→J→K→L→Prop):Prop:=Exists (ze_12 p)
def ze_13{A B C D E F G H I J K L M:Type _}(p:A→B→C→D→E→F→G→H→I→J→K→L→M→Prop)(a:A):Prop:=zx_12 (p a)
def zx_13{A B C D E F G H I J K L M:Type _}(p:A→B→C→D→E→F→G→H→I→J→K→L→M→Prop):Prop:=Exists (ze_13 p)
def ze_14{A B C D E F G H I J K L M N:Type _}(p:A→B→C→D→E→F→G→H→I→J→K→L→M→N→Prop)(a:A):Prop:=zx_13 (p a)
def zx_14{A B C D E F G H I J K L M N:Type _}(p:A→B→C→D→E→F→G→H→I→J→K→L→M→N→Prop):Prop:=Exists (ze_14 p)
def ze_15{A B C D E F G H I J K L M N O:Type _}(p:A→B→C→D→E→F→G→H→I→J→K→L→M→N→O→Prop)(a:A):Prop:=zx_14 (p a)
def zx_15{A B C D E F G H I J K L M N O:Type _}(p:A→B→C→D→E→F→G→H→I→J→K→L→M→N→O→Prop):Prop:=Exists (ze_15 p)
namespace KB
open PySem PySem.Spec PyProof.Rows L2
open Sa76 (Id Op Val Bytes ROOT)
theorem le0:0≤sizeLine:=aqu _
theorem tU:1≤sizeLine:=by decide
theorem le2:2≤sizeLine:=by decide
theorem le3:3≤sizeLine:=by decide
theorem Rp{n:Nat}(h:n≤16000000):n≤sizeLine:=by rw[atr];omega
theorem G6{n:Nat}(h:n≤16000000):n < sizeLine:=by rw[atr];omega
theorem rO{c A B:Prop}[Decidable c](h:c)(k:A):if decide c=true then A else B:=by rw[afO (arC h)];exact k
theorem mQ{c A B:Prop}[Decidable c](h:¬ c)(k:B):if decide c=true then A else B:=by rw[acK (by rw[asE];exact h)];exact k
theorem Cz{c A B:Prop}[Decidable c](h:¬ c)(k:A):if (!decide c)=true then A else B:=by rw[afO (by rw[aqz h];rfl)];exact k
theorem CA{c A B:Prop}[Decidable c](h:c)(k:B):if (!decide c)=true then A else B:=by rw[acK (by rw[arC h];decide)];exact k
inductive Part where
 |kp|Yo|counts|I0|known|waiting|kinds|NB|KC|sums|ent (i:Id)|NC (i:Id)|new (i:Id)|rem (i:Id)
 deriving DecidableEq
inductive Tag where
 |hU|own (k:Nat) (p:Part)|top (n:Nat)
 deriving DecidableEq
abbrev aL:=Addr→Tag
def Tg(H:Hp)(τ:aL):Prop:=∀ b,H b=none→τ b=.hU
def bh(τ:aL)(q:Addr)(t:Tag):aL:=fun b=>if b=q then t else τ b
theorem cg{τ:aL}{q:Addr}{t:Tag}:bh τ q t q=t:=afO rfl
theorem aX{τ:aL}{q b:Addr}{t:Tag}(h:b≠q):bh τ q t b=τ b:=acK h
structure Fr(P:Tag→Prop)(H:Hp)(τ:aL)(H':Hp)(τ':aL):Prop where
 keep:∀ b o,H b=some o→P (τ b)→H' b=some o
 tag:∀ b o,H b=some o→τ' b=τ b
 dom:∀ b o,H b=some o→∃ o',H' b=some o'
 tg:Tg H' τ'
theorem aM.tg{H H':Hp}{τ:aL}(s:aM H H')(t:Tg H τ):Tg H' τ:=fun b e=>t b (s.free e)
section
variable{P P':Tag→Prop}{H H1 H2:Hp}{τ τ1 τ2:aL}
theorem Fr.trans(f:Fr P H τ H1 τ1)(g:Fr P H1 τ1 H2 τ2):Fr P H τ H2 τ2 where
 keep:=fun b o e p=>g.keep b o (f.keep b o e p) (by rw[f.tag b o e];exact p)
 tag:=fun b o e=>by
  obtain⟨o',e'⟩:=f.dom b o e;rw[g.tag b o' e',f.tag b o e]
 dom:=fun b o e=>by
  obtain⟨o',e'⟩:=f.dom b o e;exact g.dom b o' e'
 tg:=g.tg
theorem Fr.mono(f:Fr P H τ H1 τ1)(h:∀ t,P' t→P t):Fr P' H τ H1 τ1:=⟨fun b o e p=>f.keep b o e (h _ p),f.tag,f.dom,f.tg⟩
theorem Fr.free(f:Fr P H τ H1 τ1){b:Addr}(e:H1 b=none):H b=none:=by
 cases q:H b with
 |none=>rfl
 |some o=>
  obtain⟨o',e'⟩:=f.dom b o q;rw[e] at e';cases e'
theorem Fr.same(s:aM H H1)(t:Tg H τ):Fr P H τ H1 τ:=⟨fun b o e _=>s b o e,fun _ _ _=>rfl,fun b o e=>⟨o,s b o e⟩,aM.tg s t⟩
theorem Fr.refl(t:Tg H τ):Fr P H τ H τ:=Fr.same (aM.refl H) t
theorem Fr.upd{a:Addr}{o o':HO}(e:H a=some o)(n:¬ P (τ a))(t:Tg H τ):Fr P H τ (upd H a o') τ where
 keep:=fun b u eb p=>by
  by_cases h:b=a
  ·subst h;exact absurd p n
  ·rw[ak h];exact eb
 tag:=fun _ _ _=>rfl
 dom:=fun b u eb=>by
  by_cases h:b=a
  ·subst h;exact⟨_,ae⟩
  ·exact⟨u,by rw[ak h];exact eb⟩
 tg:=fun b eb=>by
  by_cases h:b=a
  ·subst h;rw[ae] at eb;cases eb
  ·rw[ak h] at eb;exact t b eb
theorem Fr.GF{q:Addr}{o:HO}{t:Tag}(s:aM H H1)(n:H q=none)(e:H1 q=some o)(g:Tg H τ):Fr P H τ H1 (bh τ q t) where
 keep:=fun b o e _=>s b o e
 tag:=fun b o e=>aX (au e n)
 dom:=fun b o e=>⟨o,s b o e⟩
 tg:=fun b eb=>by
  have h:b≠q:=fun z=>by subst z;rw[e] at eb;cases eb
  rw[aX h];exact aM.tg s g b eb
end
theorem aq{H:Hp}{q:Addr}{o:HO}(n:H q=none):aM H (L2.upd H q o):=fun b u e=>by rw[ak (au e n)];exact e
theorem oq{H:Hp}{x dx:Addr}{o o':HO}(nx:H x=none)(nd:H dx=none):aM H (L2.upd (L2.upd H dx o') x o):=fun b u e=>by
 rw[ak (au e nx),ak (au e nd)];exact e
def kI(i:Id):List Key:=[.inl (i.1:Int),.inl (i.2:Int)]
def kB(b:Bytes):List Key:=b.map fun(c:Nat)=>.inl (c:Int)
abbrev iB(b:Bytes):List V:=b.map fun(c:Nat)=>V.int (c:Int)
abbrev iI(i:Id):List V:=[.int (i.1:Int),.int (i.2:Int)]
theorem oR{i j:Id}(h:kI i=kI j):i=j:=by
 obtain⟨a,b⟩:=i;obtain⟨c,d⟩:=j;simp[kI] at h;rw[Prod.mk.injEq];exact⟨by omega,by omega⟩
theorem acf:∀ {a b:Bytes},kB a=kB b→a=b
 |[],[],_=>rfl
 |[],_::_,h=>by cases h
 |_::_,[],h=>by cases h
 |x::a,y::b,h=>by
  simp only[kB,ajR] at h;injection h with h1 h2;injection h1 with h1;rw[acf h2,show x=y by omega]
theorem am4(b:Bytes):(kB b).map kV=iB b:=by unfold kB;rw[ao8];rfl
def eL(K:Fg)(H:Hp)(τ:aL)(b:Addr)(i:Id):Prop:=(H b=some (.tup (iI i))∧τ b=.hU)∨ajA K b (iI i)
def o8(H:Hp)(τ:aL)(b:Addr)(x:Bytes):Prop:=H b=some (.lst (iB x))∧τ b=.hU
theorem eL.tup{K:Fg}{H:Hp}{τ:aL}{b:Addr}{i:Id}(h:eL K H τ b i):TupAt K H b (iI i):=h.imp (fun q=>q.1) fun q=>q
theorem eL.key{K:Fg}{H:Hp}{τ:aL}{b:Addr}{i:Id}(h:eL K H τ b i):TupAt K H b ((kI i).map kV):=h.tup
section
variable{P:Tag→Prop}{K:Fg}{H H':Hp}{τ τ':aL}{b:Addr}
theorem Fr.im(f:Fr P H τ H' τ')(hP:P .hU){o:HO}(h:H b=some o∧τ b=.hU):H' b=some o∧τ' b=.hU:=⟨f.keep b o h.1 (by rw[h.2];exact hP),by rw[f.tag b o h.1];exact h.2⟩
theorem eL.keep{i:Id}(h:eL K H τ b i)(f:Fr P H τ H' τ')(hP:P .hU):eL K H' τ' b i:=h.imp (fun q=>f.im hP q) fun q=>q
theorem o8.keep{x:Bytes}(h:o8 H τ b x)(f:Fr P H τ H' τ')(hP:P .hU):o8 H' τ' b x:=f.im hP h
end
def keyOf:Sa76.Act→Option Bytes
 |.set k _=>some k
 |_=>none
def Su:Sa76.Act→Option Id
 |.insert b _=>some b
 |.put e _=>some e
 |.remove e=>some e
 |_=>none
def vOf:Sa76.Act→Option Val
 |.set _ v=>some v
 |.insert _ v=>some v
 |.put _ v=>some v
 |_=>none
def am5:Sa76.Act→Int
 |.add d=>d
 |_=>0
abbrev kOf:Sa76.Act→Nat:=M.kOf
theorem tH(o:Op):Sa76.madeBy o=vOf o.act:=by
 unfold Sa76.madeBy vOf;split <;> simp_all
theorem Qk(o:Op):Sa76.told o=o.obj::(Su o.act).toList:=by
 unfold Sa76.told Su;cases o.act <;> rfl
def WO{α:Type}(R:Addr→α→Prop)(v:V):Option α→Prop
 |none=>v=.dN
 |some x=>∃ b,v=.ref b∧R b x
theorem WO.imp{α:Type}{R S:Addr→α→Prop}{v:V}{o:Option α}(h:WO R v o)(f:∀ b x,R b x→S b x):WO S v o:=by
 cases o with
 |none=>exact h
 |some x=>
  obtain⟨b,e,r⟩:=h;exact⟨b,e,f b x r⟩
abbrev chF(k:Int)(t key el v:V)(am:Int):List (Str×V):=[("kind",.int k),("target",t),("key",key),("element",el),("value",v),("amount",.int am)]
abbrev acF(r n t:Int)(c:V):List (Str×V):=[("keeper",.int r),("n",.int n),("t",.int t),("change",c)]
structure Ia(K:Fg)(a:dX)(H:Hp)(τ:aL)(p:Addr)(obj:Id)(x:Sa76.Act):Prop where
 ex:∃ (dx ta:Addr) (key el v:V),(H p=some (.ins a.bH dx (chF (kOf x) (.ref ta) key el v (am5 x)))∧τ p=.hU)∧eL K H τ ta obj∧WO (o8 H τ) key (keyOf x)∧WO (eL K H τ) el (Su x)∧WO (fun b (v:Val)=>o8 H τ b v.bytes) v (vOf x)
structure lN(K:Fg)(a:dX)(H:Hp)(τ:aL)(p:Addr)(o:Op):Prop where
 ex:∃ (dx c:Addr),(H p=some (.ins a.iH dx (acF o.r o.n o.t (.ref c)))∧τ p=.hU)∧Ia K a H τ c o.obj o.act
section
variable{P:Tag→Prop}{K:Fg}{a:dX}{H H':Hp}{τ τ':aL}{p:Addr}
theorem Ia.keep{obj:Id}{x:Sa76.Act}(h:Ia K a H τ p obj x)(f:Fr P H τ H' τ')(hP:P .hU):Ia K a H' τ' p obj x:=by
 obtain⟨dx,ta,key,el,v,h1,h2,h3,h4,h5⟩:=h.ex;exact⟨dx,ta,key,el,v,f.im hP h1,h2.keep f hP,h3.imp fun _ _ q=>q.keep f hP,h4.imp fun _ _ q=>q.keep f hP,h5.imp fun _ _ q=>q.keep f hP⟩
theorem lN.keep{o:Op}(h:lN K a H τ p o)(f:Fr P H τ H' τ')(hP:P .hU):lN K a H' τ' p o:=by
 obtain⟨dx,c,h1,h2⟩:=h.ex;exact⟨dx,c,f.im hP h1,h2.keep f hP⟩
end
theorem Paired.ye{α β:Type}{F G:α→β→Prop}{l:List α}{m:List β}(h:Paired F l m)(f:∀ x y,F x y→G x y):Paired G l m:=L2.Paired.anD h f
end KB
namespace L2
open PySem PySem.Spec PyProof.Rows
theorem aov{K:Fg}{a:Addr}{xs:List V}{g:TG}{tb:TS}{D:Ends}{σ:St}{H:Hp}(Pv:Nat→St→Hp→Prop)(h0:Pv 0 σ H)(hl:∀ i σ H,i≤xs.length→Pv i σ H→cJ K H a xs)
  (hs:∀ i x σ H,i < xs.length→xs[xs.length - 1 - i]?=some x→Pv i σ H→g x σ H fun σ2 H2=>tb { D with nx:=Pv (i+1),ct:=Pv (i+1),bk:=D.nx } σ2 H2) (hd:∀ σ H,Pv xs.length σ H→D.nx σ H) :
  ∃ W:Nat→Nat→St→Hp→Prop,(∃ m,W 0 m σ H)∧∀ i m σ H,W i m σ H→
   ((Itv K a xs.length).stop i H∧D.nx σ H)∨((Itv K a xs.length).go i H∧∃ N:St→Hp→Prop,(∀ σ' H',N σ' H'→∃ m',m' < m∧W (i+1) m' σ' H')∧∀ x H',(Itv K a xs.length).yld i H x H'→g x σ H' fun σ2 H2=>tb { D with nx:=N,ct:=N,bk:=D.nx } σ2 H2):=by
 refine⟨fun i m σ H=>m=xs.length - i∧i≤xs.length∧Pv i σ H,⟨xs.length,by simp,aqu _,h0⟩,?_⟩;rintro i m σ H ⟨rfl,hi,p⟩;have q:=hl i σ H hi p;by_cases hlt:i < xs.length
 ·refine .inr ⟨⟨hlt,xs,xs[xs.length - 1 - i],q,by simp⟩,Pv (i+1),fun σ' H' p'=>⟨xs.length - (i+1),by omega,rfl,hlt,p'⟩,fun x H' y=>?_⟩;obtain⟨e,y⟩:=y;subst e;exact hs i x σ _ hlt (y xs q) p
 ·have e:i=xs.length:=by omega
  subst e;exact .inl ⟨aiM _,hd σ H p⟩
end L2
namespace KB
open PySem PySem.Spec PyProof.Rows L2
open Sa76 (Id Op Val Bytes ROOT)
def lev(s:Nat)(n:Int):List V:=(List.range s).map fun p=>V.int (n / 256 ^ p % 256)
theorem pJ(s x:Nat):lev s (x:Int)=iB (Sa76.le s x):=by
 unfold lev Sa76.le iB;rw[ao8];apply aqh;intro p _;show V.int ((x:Int) / 256 ^ p % 256)=V.int (((x / 256 ^ p % 256:Nat)):Int);congr 1
theorem akT(d:Int):lev 8 d=iB (Sa76.eight d):=by
 unfold lev Sa76.eight Sa76.le iB;rw[ao8];apply aqh;intro p hp;have hp:=List.mem_range.mp hp;show V.int (d / 256 ^ p % 256)=V.int ((((d % 2 ^ 64).toNat / 256 ^ p % 256:Nat)):Int);congr 1
 match p,hp with
 |0,_=>omega
 |1,_=>omega
 |2,_=>omega
 |3,_=>omega
 |4,_=>omega
 |5,_=>omega
 |6,_=>omega
 |7,_=>omega
 |p+8,h=>omega
theorem fy(x y:Bytes):iB (x++y)=iB x++iB y:=ak9
theorem aB(x:Bytes):(iB x).length=x.length:=aah _
theorem ah4{x:Bytes}{i:Nat}{c:Nat}(h:x[i]?=some c):(iB x)[i]?=some (.int (c:Int)):=by rw[ant,h];rfl
theorem acg(x:Bytes)(n:Nat):(iB x).drop n=iB (x.drop n):=List.map_drop.symm
theorem SW(x:Bytes)(n:Nat):(iB x).take n=iB (x.take n):=List.map_take.symm
theorem ah5{b:Bytes}{i:Nat}{c:Nat}(h:i < b.length)(e:b[b.length - 1 - i]?=some c):Sa76.natOf (b.drop (b.length - (i+1)))=c+256 * Sa76.natOf (b.drop (b.length - i)):=by
 obtain⟨hl,e⟩:=aox.mp e;have e1:b.length - (i+1)=b.length - 1 - i:=by omega
 have e2:b.length - 1 - i+1=b.length - i:=by omega
 rw[e1,List.drop_eq_getElem_cons hl,M.By,e,e2]
section
variable{P:Program}{w:World}{K:Fg}{mg:Str→Option Value}{base:Heap}{a:dX}
def zx40(vs:List V)(H:Hp)(Q:VK):=fun(n:Int) (s:Nat)=>(vs=[.int n,.int s]∧s≤8∧∀ H' q,aM H H'→H q=none→H' q=some (.lst (lev s n))→Q (.ref q) H')
def Ql:Sp:=fun vs H Q _=>zx_2 (zx40 vs H Q)
theorem kF(T:Txt K mg a):bL P w K mg base jk 1 a.eM a.nI nA (Ql):=by
 refine T.g9.ok sN (fun vs H Q E h=>?_) (fun cdv A outer s H vs Q E hr h=>?_)
 ·obtain⟨n,s,rfl,_⟩:=h;rfl
 ·obtain⟨n,s,rfl,hs,k⟩:=h;refine⟨_,(ao (aJ (adn (own:=[("place",2)]) rfl sN.nd (ajF rfl T.aiS (af (pv 1) aj)) (Al (by kernel_rfl)) (fun _ _ _ _ _=>(l0 (i:=2) sN.nd rfl (.inl rfl))) (fun _ _ _ _ _=>K8) (fun _ _ _ _ _=>(fZ apt (fZ aps (pv 0) (fZ alF aW (pv 2))) aW))))),?_⟩;refine⟨_,rfl,_,rfl,by omega,by omega,fun D hD=>?_⟩;refine alV (Pv:=fun i H'=>aM H H'∧H' D=some (.lst (lev i n))) ⟨aq hD,ae⟩ ?_ ?_
  ·intro i H' hi ⟨S,e⟩;refine⟨rfl,_,rfl,_,rfl,_,_,rfl,rfl,.inl (by decide),_,_,rfl,rfl,?_,_,_,rfl,rfl,_,e,?_,?_,?_⟩
   ·omega
   ·unfold lev;rw[aah,asH,atr];omega
   ·exact fun b o eb=>by
     rw[ak (au eb hD)];exact S b o eb
   ·rw[ae];congr 2;unfold lev;rw[List.range_succ,ak9];congr 1;show [V.int _]=[V.int _];congr 2;rw[bitAnd_m8];have e2:(8 * (0+(i:Int))).toNat=8 * i:=by omega
    rw[e2,Int.pow_mul];rfl
  ·intro H' ⟨S,e⟩;refine k H' D S hD ?_;exact e
def zx41(K:Fg)(vs:List V)(H:Hp)(Q:VK):=fun(l:Addr) (b:Bytes)=>(vs=[.ref l]∧cJ K H l (iB b)∧Q (.int (Sa76.natOf b:Nat)) H)
def Ej(K:Fg):Sp:=fun vs H Q _=>zx_2 (zx41 K vs H Q)
theorem eF(T:Txt K mg a):bL P w K mg base jk 1 a.bW a.jf i8 (Ej K):=by
 refine T.cK.ok i9 (fun vs H Q E h=>?_) (fun cdv A outer s H vs Q E hr h=>?_)
 ·obtain⟨l,b,rfl,_⟩:=h;rfl
 ·obtain⟨l,b,rfl,hl,k⟩:=h;refine⟨_,(ah (aP (i:=1) i9.nd rfl (.inl rfl) aW)
   (ah (Jj arV rfl (adt rfl T.JA (af (pv 0) aj)) (l0 (i:=2) i9.nd rfl (.inl rfl)) (ao (aP (i:=1) i9.nd rfl (.inl rfl) (fZ uF (fZ alF (pv 1) aW) (pv 2)))))
   (ao (aJ (pv 1))))),?_⟩
  refine⟨_,rfl,l,_,rfl,hl,?_⟩;refine aov (K:=K) (a:=l) (xs:=iB b) (fun i σ H'=>H'=H∧∃ v,σ=[some (.ref l),some (.int (Sa76.natOf (b.drop (b.length - i)):Nat)),v]) ⟨rfl,none,by rw[Nat.sub_zero,List.drop_length];rfl⟩ (fun i σ H' _ ⟨e,_⟩=>e▸hl) ?_ ?_
  ·rintro i x σ H' hi hx ⟨rfl,v,rfl⟩;rw[aB] at hi hx;obtain⟨c,hc,rfl⟩:∃ c,b[b.length - 1 - i]?=some c∧x=V.int (c:Int):=by
    rw[ant] at hx;cases e:b[b.length - 1 - i]? with
    |none=>rw[e] at hx;cases hx
    |some c=>rw[e] at hx;exact⟨c,rfl,(apa hx).symm⟩
   refine⟨_,rfl,_,_,rfl,rfl,.inr (by decide),_,rfl,_,_,rfl,rfl,rfl,some (.int (c:Int)),?_⟩;rw[ah5 hi hc];have e3:((Sa76.natOf (b.drop (b.length - i)):Nat):Int) * 256+(c:Int)=((c+256 * Sa76.natOf (b.drop (b.length - i)):Nat):Int):=by omega
   rw[← e3];rfl
  ·rintro σ H' ⟨rfl,v,rfl⟩;refine⟨_,rfl,?_⟩;rw[aB,Nat.sub_self,atL];exact k
def zx42(vs:List V)(H:Hp)(Q:VK):=fun(n:Int)=>(vs=[.int n]∧∀ m,m=Sa76.wrap n→Q (.int m) H)
def ach:Sp:=fun vs H Q _=>Exists (zx42 vs H Q)
theorem CB(T:Txt K mg a):bL P w K mg base jk 1 a.jx a.vI vt (ach):=by
 refine T.ug.ok aam (fun vs H Q E h=>?_) (fun cdv A outer s H vs Q E hr h=>?_)
 ·obtain⟨n,rfl,_⟩:=h;rfl
 ·obtain⟨n,rfl,k⟩:=h;refine⟨_,(ao (aJ (fZ apq (fZ apr (fZ uF (pv 0) (gI T.agM)) (gI T.aiP)) (gI T.agM)))),?_⟩;exact⟨_,rfl,_,_,rfl,rfl,_,_,rfl,rfl,(by show(0:Int) < 18446744073709551616;decide),_,_,rfl,rfl,k _ rfl⟩
def zx43(K:Fg)(vs:List V)(H:Hp)(Q:VK):=fun(b:Addr) (i:Id)=>(vs=[.ref b]∧TupAt K H b (iI i)∧i.2 < 256∧∀ H' q,aM H H'→H q=none→H' q=some (.lst (iB (Sa76.Id.bytes i)))→Q (.ref q) H')
def ND(K:Fg):Sp:=fun vs H Q _=>zx_2 (zx43 K vs H Q)
theorem mL(T:Txt K mg a):bL P w K mg base jk 2 a.dQ a.mw l7 (ND K):=by
 refine T.iM.ok Ld (fun vs H Q E h=>?_) (fun cdv A outer s H vs Q E hr h=>?_)
 ·obtain⟨b,i,rfl,_⟩:=h;rfl
 ·obtain⟨b,i,rfl,hb,hi,k⟩:=h;refine⟨_,(ao (aJ (fZ lQ (aR (kF T) (hr.mono (by decide)) rfl T.jo T.g9.kp T.jn .nil aG (af (c9 wG (pv 0) aW (fun _ _=>rfl)) (af aW aj))) (bz (af (c9 wG (pv 0) aW (fun _ _=>rfl)) aj))))),?_⟩;refine⟨_,rfl,b,_,_,_,rfl,rfl,p9 hb,at_of (j:=0) rfl rfl,_,4,rfl,by decide,fun H1 q1 S1 n1 e1=>?_⟩;have hb1:TupAt K H1 b (iI i):=hb.keep fun c ys e=>S1 c _ e;refine⟨_,rfl,b,_,_,_,rfl,rfl,p9 hb1,at_of (j:=1) rfl rfl,tU,fun q2 n2=>?_⟩;refine⟨q1,q2,_,_,rfl,rfl,(aq n2) _ _ e1,ae,?_,fun q3 n3=>?_⟩
  ·rw[pJ,aB,M.eB];show 5≤sizeLine;decide
  ·have S2:=aq (o:=HO.lst [V.int (i.2:Int)]) n2;refine k _ q3 ((S1.trans S2).trans (aq n3)) (S1.free (S2.free n3)) ?_;rw[ae,M.af2 hi,fy,pJ];rfl
def zx44(vs:List V)(H:Hp)(Q:VK):=fun(l:Addr) (b:Bytes)=>(vs=[.ref l]∧H l=some (.lst (iB b))∧5≤b.length∧∀ H' q,aM H H'→H q=none→H' q=some (.tup (iI (Sa76.idOf b)))→Q (.ref q) H')
def Qm(K:Fg):Sp:=fun vs H Q _=>zx_2 (zx44 vs H Q)
theorem tI(T:Txt K mg a):bL P w K mg base jk 2 a.eN a.nJ nB (Qm K):=by
 refine T.lM.ok OF (fun vs H Q E h=>?_) (fun cdv A outer s H vs Q E hr h=>?_)
 ·obtain⟨l,b,rfl,_⟩:=h;rfl
 ·obtain⟨l,b,rfl,hl,h5,k⟩:=h;refine⟨_,(ao (aJ (BJ (af (aR (eF T) (hr.mono (by decide)) rfl T.dF T.cK.kp T.dD .nil aG (af (ik jX (pv 0) vp (fL aW)) aj)) (af (c9 bS (pv 0) aW (fun _ _=>rfl)) aj))))),?_⟩;refine⟨_,rfl,_,rfl,l,_,rfl,cJ.of hl,fun q1 n1=>?_⟩;have e1:qC (iB b) none (some 4)=iB (b.take 4):=by
   unfold qC;rw[show(4:Int)=((4:Nat):Int) from rfl,HT.yk,HT.K6,aB,asK (by omega),atL,Nat.sub_zero,SW]
  rw[e1];obtain⟨c,hc⟩:∃ c,b[4]?=some c:=⟨_,aqw (by omega)⟩;have S1:=aq (o:=HO.lst (iB (b.take 4))) n1;refine⟨q1,_,rfl,cJ.of ae,_,rfl,l,_,_,_,rfl,rfl,cJ.of (S1 _ _ hl),at_of (j:=4) rfl (ah4 hc),le2,fun q2 n2=>?_⟩;refine k _ q2 (S1.trans (aq n2)) (S1.free n2) ?_;rw[ae];unfold Sa76.idOf;rw[aqx,hc];rfl
theorem afr:∀ k:Nat,k≤5→([.int 1,.int 9,.int 2,.int 1,.int 1,.int 1]:List V)[k]?=some (.int (M.qA k:Nat))
 |0,_=>rfl
 |1,_=>rfl
 |2,_=>rfl
 |3,_=>rfl
 |4,_=>rfl
 |5,_=>rfl
 |k+6,h=>by omega
def zx45(K:Fg)(vs:List V)(H:Hp)(Q:VK):=fun(l:Addr) (b:Bytes)=>(vs=[.ref l]∧cJ K H l (iB b)∧Q (.bl (M.jJ b)) H)
def NF(K:Fg):Sp:=fun vs H Q _=>zx_2 (zx45 K vs H Q)
theorem rP(T:Txt K mg a):bL P w K mg base jk 1 a.dR a.my l8 (NF K):=by
 refine T.kD.ok yo (fun vs H Q E h=>?_) (fun cdv A outer s H vs Q E hr h=>?_)
 ·obtain⟨l,b,rfl,_⟩:=h;rfl
 ·obtain⟨l,b,rfl,hl,k⟩:=h;refine⟨_,(ah (bQ (lP (gD (pv 0) (fun _=>rfl))) (ao (aJ TV)) aZ)
   (ah (aP (i:=1) yo.nd rfl (.inl rfl) (c9 bS (pv 0) aW (fun _ _=>rfl)))
   (ah (bQ (PW.pt (yi (aY YK (pv 1) (gI T.Az) (bf _)) (uE (aY EL (cj bC (by rfl) T.nh (by decide +kernel) (af (pv 0) aj)) (c9 wG (lZ (v:=.ref a.nV) rfl T.SS rfl) (pv 1) (fun _ _=>rfl)) (bf _))))) (ao (aJ TV)) aZ)
   (ah (bQ (aY jr (pv 1) (gI T.amd) (bf _)) (ao (aJ (age (yj rR (c9 bS (pv 0) aW (fun _ _=>rfl)) (gI T.yY) (bf _)) (aaa (yj jr (cj bC (by rfl) T.nh (by decide +kernel) (af (pv 0) aj)) (fZ uF (c9 wG (lZ (v:=.ref a.nV) rfl T.SS rfl) (pv 1) (fun _ _=>rfl)) (c9 bS (pv 0) aW (fun _ _=>rfl))) (bf _)))))) aZ)
   (ao (aJ (yj jr (cj bC (by rfl) T.nh (by decide +kernel) (af (pv 0) aj)) (c9 wG (lZ (v:=.ref a.nV) rfl T.SS rfl) (pv 1) (fun _ _=>rfl)) (bf _)))))))),?_⟩
  cases b with
  |nil=>exact⟨_,rfl,false,.inl ⟨_,hl,rfl⟩,iO k⟩
  |cons c r=>
   refine⟨_,rfl,true,.inl ⟨_,hl,rfl⟩,zy ?_⟩;refine⟨_,rfl,l,_,_,_,rfl,rfl,hl,at_of (j:=0) rfl rfl,?_⟩;refine⟨_,rfl,_,_,rfl,rfl,_,rfl,?_⟩;by_cases h5:5 < c
   ·have e:M.jJ (c::r)=false:=by
     show(if 5 < c∨r.length+1 < M.qA c then false else _)=false;rw[afO (.inl h5)]
    rw[e] at k;exact rO (by omega) (iO k)
   ·refine mQ (by omega) ?_;refine⟨_,rfl,l,_,rfl,.inl hl,_,rfl,a.nV,_,_,_,rfl,rfl,p9 (.inr T.Ly),l5 (afr c (by omega)),_,_,rfl,rfl,_,rfl,?_⟩;have el:((iB (c::r)).length:Int)=((r.length+1:Nat):Int):=by rw[aB];rfl
    by_cases hs:r.length+1 < M.qA c
    ·have e:M.jJ (c::r)=false:=by
      show(if 5 < c∨r.length+1 < M.qA c then false else _)=false;rw[afO (.inr hs)]
     rw[e] at k;exact rO (by rw[el];omega) k
    ·refine mQ (by rw[el];omega) ?_;refine⟨_,rfl,rfl,_,rfl,?_⟩;by_cases h2:c=2
     ·subst h2;refine rO rfl ?_;cases r with
      |nil=>exact absurd (show 0+1 < M.qA 2 by decide) hs
      |cons d r=>
       have e:M.jJ (2::d::r)=(decide (d≤64) && decide (r.length=d)):=by
        show(if 5 < 2∨r.length+1+1 < M.qA 2 then false else if 2=2 then decide (d≤64) && decide (r.length=d) else decide (r.length+1+1=M.qA 2))=_;rw[acK (by intro z;rcases z with z|z;exact h5 z;exact hs z),afO rfl]
       rw[e] at k;refine⟨_,rfl,l,_,_,_,rfl,rfl,hl,at_of (j:=1) rfl rfl,_,_,rfl,rfl,_,rfl,?_⟩;by_cases hd:d≤64
       ·refine rO (by omega) ?_;refine⟨_,rfl,l,_,rfl,.inl hl,_,rfl,a.nV,_,_,_,rfl,rfl,p9 (.inr T.Ly),at_of (j:=2) rfl rfl,_,rfl,l,_,_,_,rfl,rfl,hl,at_of (j:=1) rfl rfl,_,_,rfl,rfl,rfl,?_⟩;have e3:(decide (d≤64) && decide (r.length=d))=decide (r.length=d):=by rw[arC hd];rfl
        have e2:decide (V.int ((iB (2::d::r)).length:Int)=V.int (2+(d:Int)))=decide (r.length=d):=by
         rw[aB];simp only[ajk,V.int.injEq,ati];omega
        rw[e3,← e2] at k;exact k
       ·refine mQ (by omega) ?_;rw[show(decide (d≤64) && decide (r.length=d))=false by rw[aqz hd];rfl] at k;exact k
     ·refine mQ (by intro z;injection z with z;omega) ?_;have e:M.jJ (c::r)=decide (r.length+1=M.qA c):=by
       show(if 5 < c∨r.length+1 < M.qA c then false else if c=2 then _ else _)=_;rw[acK (by intro z;rcases z with z|z;exact h5 z;exact hs z),acK h2]
      rw[e] at k;refine⟨_,rfl,l,_,rfl,.inl hl,_,rfl,a.nV,_,_,_,rfl,rfl,p9 (.inr T.Ly),l5 (afr c (by omega)),rfl,?_⟩;have e2:decide (V.int ((iB (c::r)).length:Int)=V.int (M.qA c:Nat))=decide (r.length+1=M.qA c):=by
       rw[el];simp only[V.int.injEq,ati];omega
      rw[← e2] at k;exact k
def zx46(K:Fg)(vs:List V)(H:Hp)(Q:VK):=fun(l:Addr) (b:Bytes)=>(vs=[.ref l]∧cJ K H l (iB b)∧Q (.bl (M.ED b)) H)
def Ek(K:Fg):Sp:=fun vs H Q _=>zx_2 (zx46 K vs H Q)
theorem lY(T:Txt K mg a):bL P w K mg base jk 2 a.bX a.jg jb (Ek K):=by
 refine T.gG.ok Dr (fun vs H Q E h=>?_) (fun cdv A outer s H vs Q E hr h=>?_)
 ·obtain⟨l,b,rfl,_⟩:=h;rfl
 ·obtain⟨l,b,rfl,hl,k⟩:=h;refine⟨_,(ao (aJ (age (aR (rP T) (hr.mono (by decide)) rfl T.nZ T.kD.kp T.nY .nil aG (af (pv 0) aj)) (aaa (yj K5 (c9 bS (pv 0) aW (fun _ _=>rfl)) (gI T.OQ) (bf _)))))),?_⟩;refine⟨_,rfl,l,b,rfl,hl,_,rfl,?_⟩;unfold M.ED at k;cases e:M.jJ b with
  |false=>
   rw[e] at k;exact zy k
  |true=>
   rw[e] at k;refine iO ?_;cases b with
   |nil=>cases e
   |cons c r=>
    refine⟨_,rfl,l,_,_,_,rfl,rfl,hl,at_of (j:=0) rfl rfl,rfl,?_⟩;have e2:(!decide (V.int (c:Int)=V.int 0))=(true && !decide ((c::r).getD 0 0=0)):=by
     show _=!decide (c=0);congr 1;simp only[V.int.injEq,ati];omega
    rw[e2];exact k
def zx47(vs:List V)(H:Hp)(Q:VK):=fun(k:Nat)=>(vs=[.int k]∧Q (.bl (decide (3≤k∧k≤5))) H)
def NG:Sp:=fun vs H Q _=>Exists (zx47 vs H Q)
theorem zm(T:Txt K mg a):bL P w K mg base jk 1 a.dS a.mz l9 (NG):=by
 refine T.oh.ok Le (fun vs H Q E h=>?_) (fun cdv A outer s H vs Q E hr h=>?_)
 ·obtain⟨n,rfl,_⟩:=h;rfl
 ·obtain⟨n,rfl,k⟩:=h;refine⟨_,(ao (aJ (alJ rR rR (gI T.UI) (pv 0) (gI T.Az)))),?_⟩;refine⟨_,rfl,_,_,rfl,rfl,_,rfl,?_⟩;by_cases h3:3≤n
  ·refine rO (by omega) ?_;refine⟨_,_,rfl,rfl,?_⟩;have e:decide ((n:Int)≤5)=decide (3≤n∧n≤5):=by
    simp only[ati];omega
   show Q (.bl (decide ((n:Int)≤5))) H;rw[e];exact k
  ·refine mQ (by omega) ?_;have e:decide (3≤n∧n≤5)=false:=aqz (by omega);rw[e] at k;exact k
end
end KB
namespace KB
open PySem PySem.Spec PyProof.Rows L2
open Sa76 (Id Op Val Bytes ROOT)
section
variable{P:Program}{w:World}{K:Fg}{mg:Str→Option Value}{base:Heap}{a:dX}
abbrev ZH(l:Addr)(p:Int):List (Str×V):=[("numbers",.ref l),("position",.int p)]
def zx48(a:dX)(vs:List V)(H:Hp)(Q:VK):=fun(r dx l:Addr)=>(vs=[.ref r,.ref l]∧H r=some (.ins a.aV dx [])∧Q .dN (upd H r (.ins a.aV dx (ZH l 0))))
def WQ(a:dX):Sp:=fun vs H Q _=>zx_3 (zx48 a vs H Q)
theorem WR(T:Txt K mg a):bL P w K mg base jk 1 a.fH a.qU qJ (WQ a):=by
 refine T.IG.ok Uo (fun vs H Q E h=>?_) (fun cdv A outer s H vs Q E hr h=>?_)
 ·obtain⟨r,dx,l,rfl,_⟩:=h;rfl
 ·obtain⟨r,dx,l,rfl,hp,k⟩:=h;refine⟨_,(ah (fK (pv 0) (pv 1) rfl)
   (ao (fK (pv 0) aW rfl))),?_⟩
  refine⟨_,rfl,_,rfl,r,_,dx,_,rfl,hp,T.aQ,T.gR,(by show 0 < 1000;decide),?_⟩;refine⟨_,rfl,r,_,dx,_,rfl,ae,T.aQ,T.cP,(by show 1 < 1000;decide),?_⟩;rw[fJ];exact k
def zx49(K:Fg)(a:dX)(vs:List V)(H:Hp)(Q:VK):=fun(r dx l:Addr) (p:Int) (xs:List V)=>(vs=[.ref r]∧H r=some (.ins a.aV dx (ZH l p))∧cJ K H l xs∧Q (.bl (decide (p < xs.length))) H)
def KD(K:Fg)(a:dX):Sp:=fun vs H Q _=>zx_5 (zx49 K a vs H Q)
theorem KG(T:Txt K mg a):bL P w K mg base jk 1 a.cF a.lD kX (KD K a):=by
 refine T.yU.ok Jq (fun vs H Q E h=>?_) (fun cdv A outer s H vs Q E hr h=>?_)
 ·obtain⟨r,dx,l,p,xs,rfl,_⟩:=h;rfl
 ·obtain⟨r,dx,l,p,xs,rfl,hp,hl,k⟩:=h;refine⟨_,(ao (aJ (yj EL (aA (pv 0) rfl) (cj bC (by rfl) T.nh (by decide +kernel) (af (aA (pv 0) rfl) aj)) (bf _)))),?_⟩;refine⟨_,rfl,r,_,dx,_,_,rfl,hp,T.aQ,T.cP,rfl,?_⟩;exact⟨_,rfl,r,_,dx,_,_,rfl,hp,T.aQ,T.gR,rfl,l,_,rfl,.inl hl,_,_,rfl,rfl,k⟩
def zx50(K:Fg)(a:dX)(vs:List V)(H:Hp)(Q:VK):=fun(r dx l:Addr) (p:Nat) (xs:List V) (v:V)=>(vs=[.ref r]∧H r=some (.ins a.aV dx (ZH l p))∧cJ K H l xs∧xs[p]?=some v∧Q v (upd H r (.ins a.aV dx (ZH l ((p+1:Nat):Int)))))
def sD(K:Fg)(a:dX):Sp:=fun vs H Q _=>zx_6 (zx50 K a vs H Q)
theorem aF(T:Txt K mg a):bL P w K mg base jk 1 a.bP a.jj je (sD K a):=by
 refine T.uu.ok rU (fun vs H Q E h=>?_) (fun cdv A outer s H vs Q E hr h=>?_)
 ·obtain⟨r,dx,l,p,xs,v,rfl,_⟩:=h;rfl
 ·obtain⟨r,dx,l,p,xs,v,rfl,hp,hl,hv,k⟩:=h;refine⟨_,(ah (aP (i:=1) rU.nd rfl (.inl rfl) (c9 bS (aA (pv 0) rfl) (aA (pv 0) rfl) (fun _ _=>rfl)))
   (ah (ajK (pv 0) aW alM)
   (ao (aJ (pv 1))))),?_⟩
  refine⟨_,rfl,r,_,dx,_,_,rfl,hp,T.aQ,T.gR,rfl,_,rfl,r,_,dx,_,_,rfl,hp,T.aQ,T.cP,rfl,l,_,_,_,rfl,rfl,hl,l5 hv,?_⟩;refine⟨_,rfl,r,_,dx,_,_,rfl,hp,T.aQ,T.cP,rfl,?_⟩;exact⟨_,_,rfl,rfl,dx,_,hp,(by show 2 < 1000;decide),_,rfl,k⟩
def zx51(K:Fg)(a:dX)(vs:List V)(H:Hp)(Q:VK):=fun(r dx l:Addr) (p:Nat) (xs:List V) (v u:V)=>(vs=[.ref r]∧H r=some (.ins a.aV dx (ZH l p))∧(∀ H',(∀ b o,H b=some o→b≠r→H' b=some o)→cJ K H' l xs)∧xs[p]?=some v∧xs[p+1]?=some u∧∀ q,H q=none→Q (.ref q) (upd (upd H r (.ins a.aV dx (ZH l ((p+2:Nat):Int)))) q (.tup [v,u])))
def qz(K:Fg)(a:dX):Sp:=fun vs H Q _=>zx_7 (zx51 K a vs H Q)
theorem gT(T:Txt K mg a):bL P w K mg base jk 2 a.bF a.gQ gM (qz K a):=by
 refine T.rA.ok qe (fun vs H Q E h=>?_) (fun cdv A outer s H vs Q E hr h=>?_)
 ·obtain⟨r,dx,l,p,xs,v,u,rfl,_⟩:=h;rfl
 ·obtain⟨r,dx,l,p,xs,v,u,rfl,hp,hl,hv,hu,k⟩:=h;refine⟨_,(ah (aP (i:=1) qe.nd rfl (.inl rfl) (aT (pv 0) T.aQ T.aC (aF T) (hr.mono (by decide)) T.aH .nil aG))
   (ao (aJ (BJ (af (pv 1) (af (aT (pv 0) T.aQ T.aC (aF T) (hr.mono (by decide)) T.aH .nil aG) aj)))))),?_⟩
  refine⟨_,rfl,r,dx,_,rfl,hp,rfl,r,dx,l,p,xs,v,rfl,hp,hl _ (fun _ _ e _=>e),hv,?_⟩;refine⟨_,rfl,_,rfl,r,dx,_,rfl,ae,rfl,r,dx,l,p+1,xs,u,rfl,ae,hl _ (fun b o e n=>by rw[ak n];exact e),hu,?_⟩;rw[fJ];refine⟨le2,fun q hq=>k q ?_⟩;by_cases e:q=r
  ·subst e;rw[ae] at hq;cases hq
  ·rw[ak e] at hq;exact hq
def zx52(K:Fg)(a:dX)(vs:List V)(H:Hp)(Q:VK):=fun(r dx l:Addr) (p n:Nat) (xs:List V)=>(vs=[.ref r]∧H r=some (.ins a.aV dx (ZH l p))∧(∀ H',(∀ b o,H b=some o→b≠r→H' b=some o)→cJ K H' l xs)∧xs[p]?=some (.int n)∧p+1+n≤xs.length∧∀ q,H q=none→Q (.ref q) (upd (upd H r (.ins a.aV dx (ZH l ((p+1+n:Nat):Int)))) q (.lst ((xs.drop (p+1)).take n))))
def xN(K:Fg)(a:dX):Sp:=fun vs H Q _=>zx_6 (zx52 K a vs H Q)
theorem iY(T:Txt K mg a):bL P w K mg base jk 1 a.cG a.lE kY (xN K a):=by
 refine T.yW.ok wM (fun vs H Q E h=>?_) (fun cdv A outer s H vs Q E hr h=>?_)
 ·obtain⟨r,dx,l,p,n,xs,rfl,_⟩:=h;rfl
 ·obtain⟨r,dx,l,p,n,xs,rfl,hp,hl,hv,hu,k⟩:=h;refine⟨_,(ah (aP (i:=1) wM.nd rfl (.inl rfl) (fZ uF (aA (pv 0) rfl) aW))
   (ah (fK (pv 0) (fZ uF (pv 1) (c9 bS (aA (pv 0) rfl) (aA (pv 0) rfl) (fun _ _=>rfl))) rfl)
   (ao (aJ (ik jX (aA (pv 0) rfl) (fL (pv 1)) (fL (aA (pv 0) rfl))))))),?_⟩
  refine⟨_,rfl,r,_,dx,_,_,rfl,hp,T.aQ,T.cP,rfl,_,_,rfl,rfl,?_⟩;refine⟨_,rfl,_,rfl,r,_,dx,_,_,rfl,hp,T.aQ,T.gR,rfl,_,rfl,r,_,dx,_,_,rfl,hp,T.aQ,T.cP,rfl,l,_,_,_,rfl,rfl,hl _ (fun _ _ e _=>e),l5 hv,_,_,rfl,rfl,?_⟩;refine⟨_,rfl,r,_,dx,_,rfl,hp,T.aQ,T.cP,(by show 2 < 1000;decide),?_⟩;refine⟨_,rfl,r,_,dx,_,_,rfl,ae,T.aQ,T.gR,rfl,_,rfl,_,rfl,_,rfl,r,_,dx,_,_,rfl,ae,T.aQ,T.cP,rfl,_,rfl,l,xs,rfl,hl _ (fun b o e m=>by rw[ak m];exact e),fun q hq=>?_⟩;have e1:((p:Int)+1+(n:Int))=((p+1+n:Nat):Int):=by omega
  have e2:((p:Int)+1)=((p+1:Nat):Int):=by omega
  have e3:qC xs (some ((p:Int)+1)) (some ((p:Int)+1+(n:Int)))=(xs.drop (p+1)).take n:=by
   unfold qC;rw[e1,e2,HT.yk,HT.yk,asK hu,asK (show p+1≤xs.length by omega)];congr 1;omega
  rw[e3];have k':=k q (by
   by_cases e:q=r
   ·subst e;rw[ae] at hq;cases hq
   ·rw[ak e] at hq;exact hq)
  rw[← e1] at k';exact k'
def zx53(a:dX)(vs:List V)(H:Hp)(Q:VK):=fun(p dx:Addr) (kd am:Int) (t key el v:V)=>(vs=[.ref p,.int kd,t,key,el,v,.int am]∧H p=some (.ins a.bH dx [])∧Q .dN (upd H p (.ins a.bH dx (chF kd t key el v am))))
def WS(a:dX):Sp:=fun vs H Q _=>zx_8 (zx53 a vs H Q)
theorem gH(T:Txt K mg a):bL P w K mg base jk 1 a.fD a.iX eI (WS a):=by
 refine T.Iu.ok Uh (fun vs H Q E h=>?_) (fun cdv A outer s H vs Q E hr h=>?_)
 ·obtain⟨p,dx,kd,am,t,key,el,v,rfl,_⟩:=h;rfl
 ·obtain⟨p,dx,kd,am,t,key,el,v,rfl,hp,k⟩:=h;refine⟨_,(ah (fK (pv 0) (pv 1) rfl)
   (ah (fK (pv 0) (pv 2) rfl)
   (ah (fK (pv 0) (pv 3) rfl)
   (ah (fK (pv 0) (pv 4) rfl)
   (ah (fK (pv 0) (pv 5) rfl)
   (ao (fK (pv 0) (pv 6) rfl))))))),?_⟩
  refine⟨_,rfl,_,rfl,p,_,dx,_,rfl,hp,T.aN,T.br,(by show 0 < 1000;decide),?_⟩;refine⟨_,rfl,_,rfl,p,_,dx,_,rfl,ae,T.aN,T.cB,(by show 1 < 1000;decide),?_⟩;refine⟨_,rfl,_,rfl,p,_,dx,_,rfl,ae,T.aN,T.oU,(by show 2 < 1000;decide),?_⟩;refine⟨_,rfl,_,rfl,p,_,dx,_,rfl,ae,T.aN,T.cH,(by show 3 < 1000;decide),?_⟩;refine⟨_,rfl,_,rfl,p,_,dx,_,rfl,ae,T.aN,T.dM,(by show 4 < 1000;decide),?_⟩;refine⟨_,rfl,_,rfl,p,_,dx,_,rfl,ae,T.aN,T.nX,(by show 5 < 1000;decide),?_⟩;rw[fJ,fJ,fJ,fJ,fJ];exact k
def zx54(a:dX)(vs:List V)(H:Hp)(Q:VK):=fun(p dx:Addr) (kd am:Int) (t key el v:V)=>(vs=[.ref p]∧H p=some (.ins a.bH dx (chF kd t key el v am))∧∀ q,H q=none→Q (.ref q) (upd H q (.lst (if el=.dN then [t] else [t,el]))))
def yf(a:dX):Sp:=fun vs H Q _=>zx_8 (zx54 a vs H Q)
theorem yg(T:Txt K mg a):bL P w K mg base jk 1 a.bu a.gi gh (yf a):=by
 refine T.oY.ok xT (fun vs H Q E h=>?_) (fun cdv A outer s H vs Q E hr h=>?_)
 ·obtain⟨p,dx,kd,am,t,key,el,v,rfl,_⟩:=h;rfl
 ·obtain⟨p,dx,kd,am,t,key,el,v,rfl,hp,k⟩:=h;refine⟨_,(ah (bQ (aY T3 (aA (pv 0) rfl) jL (bf _)) (ao (aJ (bz (af (aA (pv 0) rfl) aj)))) aZ)
   (ao (aJ (bz (af (aA (pv 0) rfl) (af (aA (pv 0) rfl) aj)))))),?_⟩
  refine⟨_,rfl,p,_,dx,_,_,rfl,hp,T.aN,T.cH,rfl,rfl,_,rfl,?_⟩;by_cases e:el=.dN
  ·refine rO e ⟨_,rfl,p,_,dx,_,_,rfl,hp,T.aN,T.cB,rfl,tU,fun q n=>?_⟩;have k:=k q n;rw[afO e] at k;exact k
  ·refine mQ e ⟨_,rfl,p,_,dx,_,_,rfl,hp,T.aN,T.cB,rfl,_,rfl,p,_,dx,_,_,rfl,hp,T.aN,T.cH,rfl,le2,fun q n=>?_⟩;have k:=k q n;rw[acK e] at k;exact k
def zx55(a:dX)(vs:List V)(H:Hp)(Q:VK):=fun(p dx:Addr) (r n t:Int) (c:V)=>(vs=[.ref p,.int r,.int n,.int t,c]∧H p=some (.ins a.iH dx [])∧Q .dN (upd H p (.ins a.iH dx (acF r n t c))))
def afs(a:dX):Sp:=fun vs H Q _=>zx_6 (zx55 a vs H Q)
theorem Rq(T:Txt K mg a):bL P w K mg base jk 1 a.jT a.yD yn (afs a):=by
 refine T.Ut.ok adE (fun vs H Q E h=>?_) (fun cdv A outer s H vs Q E hr h=>?_)
 ·obtain⟨p,dx,r,n,t,c,rfl,_⟩:=h;rfl
 ·obtain⟨p,dx,r,n,t,c,rfl,hp,k⟩:=h;refine⟨_,(ah (fK (pv 0) (pv 1) rfl)
   (ah (fK (pv 0) (pv 2) rfl)
   (ah (fK (pv 0) (pv 3) rfl)
   (ao (fK (pv 0) (pv 4) rfl))))),?_⟩
  refine⟨_,rfl,_,rfl,p,_,dx,_,rfl,hp,T.bG,T.cT,(by show 0 < 1000;decide),?_⟩;refine⟨_,rfl,_,rfl,p,_,dx,_,rfl,ae,T.bG,T.ud,(by show 1 < 1000;decide),?_⟩;refine⟨_,rfl,_,rfl,p,_,dx,_,rfl,ae,T.bG,T.wN,(by show 2 < 1000;decide),?_⟩;refine⟨_,rfl,_,rfl,p,_,dx,_,rfl,ae,T.bG,T.bq,(by show 3 < 1000;decide),?_⟩;rw[fJ,fJ,fJ];exact k
def zx56(a:dX)(vs:List V)(H:Hp)(Q:VK):=fun(p dx:Addr) (r n t:Int) (c:V)=>(vs=[.ref p]∧H p=some (.ins a.iH dx (acF r n t c))∧∀ q,H q=none→Q (.ref q) (upd H q (.tup [.int t,.int r])))
def Sv(a:dX):Sp:=fun vs H Q _=>zx_6 (zx56 a vs H Q)
theorem ic(T:Txt K mg a):bL P w K mg base jk 1 a.eJ a.pC pq (Sv a):=by
 refine T.E3.ok RB (fun vs H Q E h=>?_) (fun cdv A outer s H vs Q E hr h=>?_)
 ·obtain⟨p,dx,r,n,t,c,rfl,_⟩:=h;rfl
 ·obtain⟨p,dx,r,n,t,c,rfl,hp,k⟩:=h;refine⟨_,(ao (aJ (BJ (af (aA (pv 0) rfl) (af (aA (pv 0) rfl) aj))))),?_⟩;exact⟨_,rfl,p,_,dx,_,_,rfl,hp,T.bG,T.wN,rfl,_,rfl,p,_,dx,_,_,rfl,hp,T.bG,T.cT,rfl,le2,k⟩
end
end KB
namespace KB
open PySem PySem.Spec PyProof.Rows L2
open Sa76 (Id Op Val Bytes ROOT)
section
variable{P:Program}{w:World}{K:Fg}{mg:Str→Option Value}{base:Heap}{a:dX}
abbrev akU(H:Hp)(Q:VK)(b:Bytes):Prop:=∀ H' q,aM H H'→H q=none→H' q=some (.lst (iB b))→Q (.ref q) H'
theorem aM.im{H H':Hp}{τ:aL}{b:Addr}{o:HO}(s:aM H H')(h:H b=some o∧τ b=.hU):H' b=some o∧τ b=.hU:=⟨s b o h.1,h.2⟩
theorem aM.tup{K:Fg}{H H':Hp}{b:Addr}{xs:List V}(s:aM H H')(h:TupAt K H b xs):TupAt K H' b xs:=h.keep fun c ys e=>s c _ e
def zx57(K:Fg)(a:dX)(vs:List V)(H:Hp)(Q:VK):=fun(τ:aL) (p:Addr) (obj:Id) (x:Sa76.Act)=>(vs=[.ref p]∧Ia K a H τ p obj x∧M.acM x∧akU H Q (M.alm x))
def ah6(K:Fg)(a:dX):Sp:=fun vs H Q _=>zx_4 (zx57 K a vs H Q)
theorem ah7(T:Txt K mg a):bL P w K mg base jk 3 a.nL a.BZ BP (ah6 K a):=by
 refine T.OI.ok agG (fun vs H Q E h=>?_) (fun cdv A outer s H vs Q E hr h=>?_)
 ·obtain⟨τ,p,obj,x,rfl,_⟩:=h;rfl
 ·obtain⟨τ,p,obj,x,rfl,hc,hx,k⟩:=h;obtain⟨dx,ta,key,el,v,⟨hp,_⟩,ht,hkey,hel,hv⟩:=hc.ex;refine⟨_,(ah (bQ (aY jr (aA (pv 0) rfl) (gI T.Zc) (bf _)) (ao (aJ (fZ lQ (fZ lQ (bz (af (cj bC (by rfl) T.nh (by decide +kernel) (af (aA (pv 0) rfl) aj)) aj)) (aA (pv 0) rfl)) (aA (pv 0) rfl)))) aZ)
   (ah (bQ (aY jr (aA (pv 0) rfl) (gI T.Zd) (bf _)) (ao (aJ (aR (kF T) (hr.mono (by decide)) rfl T.jo T.g9.kp T.jn .nil aG (af (aA (pv 0) rfl) (af (gI T.xg) aj))))) aZ)
   (ah (bQ (aY jr (aA (pv 0) rfl) (gI T.Ay) (bf _)) (ao (aJ (aR (mL T) (hr.mono (by decide)) rfl T.kC T.iM.kp T.ku .nil aG (af (aA (pv 0) rfl) aj)))) aZ)
   (ao (aJ (fZ lQ (aR (mL T) (hr.mono (by decide)) rfl T.kC T.iM.kp T.ku .nil aG (af (aA (pv 0) rfl) aj)) (aA (pv 0) rfl))))))),?_⟩
  refine⟨_,rfl,p,_,dx,_,_,rfl,hp,T.aN,T.br,rfl,rfl,_,rfl,?_⟩;cases x with
  |set kb vv=>
   obtain⟨ka,rfl,hk,_⟩:=hkey;obtain⟨va,rfl,hv,_⟩:=hv;have hl1:=hx.2.1;have hl2:=M.jm hx.2.2.2;refine rO rfl ?_;refine⟨_,rfl,p,_,dx,_,_,rfl,hp,T.aN,T.oU,rfl,ka,_,rfl,.inl (cJ.of hk),tU,fun q1 n1=>?_⟩;have S1:=aq (o:=HO.lst [V.int ((iB kb).length:Int)]) n1;refine⟨_,rfl,p,_,dx,_,_,rfl,S1 _ _ hp,T.aN,T.oU,rfl,q1,ka,_,_,rfl,rfl,ae,S1 _ _ hk,Rp (by rw[aB];show 1+_≤_;omega),fun q2 n2=>?_⟩;have S2:=aq (o:=HO.lst ([V.int ((iB kb).length:Int)]++iB kb)) n2;refine⟨_,rfl,p,_,dx,_,_,rfl,S2 _ _ (S1 _ _ hp),T.aN,T.dM,rfl,q2,va,_,_,rfl,rfl,ae,S2 _ _ (S1 _ _ hv),Rp (by rw[ada,aB,aB];show 1+_+_≤_;omega),fun q3 n3=>?_⟩;refine k _ q3 ((S1.trans S2).trans (aq n3)) (S1.free (S2.free n3)) ?_;rw[ae];congr 2;rw[aB];show _=iB (kb.length::(kb++vv.bytes));simp[iB]
  |add d=>
   refine mQ (by intro z;injection z with z;cases z) ?_;refine⟨_,rfl,p,_,dx,_,_,rfl,hp,T.aN,T.br,rfl,rfl,_,rfl,?_⟩;refine rO rfl ?_;refine⟨_,rfl,p,_,dx,_,_,rfl,hp,T.aN,T.nX,rfl,d,8,rfl,by decide,fun H1 q1 S1 n1 e1=>?_⟩;exact k H1 q1 S1 n1 (by rw[e1,akT];rfl)
  |remove e=>
   obtain⟨ea,rfl,he⟩:=hel;refine mQ (by intro z;injection z with z;cases z) ?_;refine⟨_,rfl,p,_,dx,_,_,rfl,hp,T.aN,T.br,rfl,rfl,_,rfl,?_⟩;refine mQ (by intro z;injection z with z;cases z) ?_;refine⟨_,rfl,p,_,dx,_,_,rfl,hp,T.aN,T.br,rfl,rfl,_,rfl,?_⟩;refine rO rfl ?_;exact⟨_,rfl,p,_,dx,_,_,rfl,hp,T.aN,T.cH,rfl,ea,e,rfl,he.tup,hx.2,k⟩
  |insert b vv=>
   obtain⟨ea,rfl,he⟩:=hel;obtain⟨va,rfl,hv,_⟩:=hv;have hl2:=M.jm hx.2.1;refine mQ (by intro z;injection z with z;cases z) ?_;refine⟨_,rfl,p,_,dx,_,_,rfl,hp,T.aN,T.br,rfl,rfl,_,rfl,?_⟩;refine mQ (by intro z;injection z with z;cases z) ?_;refine⟨_,rfl,p,_,dx,_,_,rfl,hp,T.aN,T.br,rfl,rfl,_,rfl,?_⟩;refine mQ (by intro z;injection z with z;cases z) ?_;refine⟨_,rfl,p,_,dx,_,_,rfl,hp,T.aN,T.cH,rfl,ea,b,rfl,he.tup,hx.1.2,fun H1 q1 S1 n1 e1=>?_⟩;refine⟨_,rfl,p,_,dx,_,_,rfl,S1 _ _ hp,T.aN,T.dM,rfl,q1,va,_,_,rfl,rfl,e1,S1 _ _ hv,Rp (by rw[aB,aB,M.dj];omega),fun q3 n3=>?_⟩;refine k _ q3 (S1.trans (aq n3)) (S1.free n3) ?_;rw[ae,← fy];rfl
  |put b vv=>
   obtain⟨ea,rfl,he⟩:=hel;obtain⟨va,rfl,hv,_⟩:=hv;have hl2:=M.jm hx.2.1;refine mQ (by intro z;injection z with z;cases z) ?_;refine⟨_,rfl,p,_,dx,_,_,rfl,hp,T.aN,T.br,rfl,rfl,_,rfl,?_⟩;refine mQ (by intro z;injection z with z;cases z) ?_;refine⟨_,rfl,p,_,dx,_,_,rfl,hp,T.aN,T.br,rfl,rfl,_,rfl,?_⟩;refine mQ (by intro z;injection z with z;cases z) ?_;refine⟨_,rfl,p,_,dx,_,_,rfl,hp,T.aN,T.cH,rfl,ea,b,rfl,he.tup,hx.1.2,fun H1 q1 S1 n1 e1=>?_⟩;refine⟨_,rfl,p,_,dx,_,_,rfl,S1 _ _ hp,T.aN,T.dM,rfl,q1,va,_,_,rfl,rfl,e1,S1 _ _ hv,Rp (by rw[aB,aB,M.dj];omega),fun q3 n3=>?_⟩;refine k _ q3 (S1.trans (aq n3)) (S1.free n3) ?_;rw[ae,← fy];rfl
theorem Ia.same{H H':Hp}{τ:aL}{p:Addr}{obj:Id}{x:Sa76.Act}(h:Ia K a H τ p obj x)(s:aM H H'):Ia K a H' τ p obj x:=by
 obtain⟨dx,ta,key,el,v,h1,h2,h3,h4,h5⟩:=h.ex;exact⟨dx,ta,key,el,v,aM.im s h1,h2.imp (fun q=>aM.im s q) fun q=>q,h3.imp fun _ _ q=>aM.im s q,h4.imp fun _ _ q=>q.imp (fun q=>aM.im s q) fun q=>q,h5.imp fun _ _ q=>aM.im s q⟩
theorem lN.same{H H':Hp}{τ:aL}{p:Addr}{o:Op}(h:lN K a H τ p o)(s:aM H H'):lN K a H' τ p o:=by
 obtain⟨dx,c,h1,h2⟩:=h.ex;exact⟨dx,c,aM.im s h1,h2.same s⟩
def zx58(K:Fg)(a:dX)(vs:List V)(H:Hp)(Q:VK):=fun(τ:aL) (p:Addr) (o:Op)=>(vs=[.ref p]∧lN K a H τ p o∧M.oS o∧akU H Q o.bytes)
def Yp(K:Fg)(a:dX):Sp:=fun vs H Q _=>zx_3 (zx58 K a vs H Q)
theorem Yq(T:Txt K mg a):bL P w K mg base jk 4 a.iA a.tQ tM (Yp K a):=by
 refine T.B6.ok Ir (fun vs H Q E h=>?_) (fun cdv A outer s H vs Q E hr h=>?_)
 ·obtain⟨τ,p,o,rfl,_⟩:=h;rfl
 ·obtain⟨τ,p,o,rfl,ha,ho,k⟩:=h;obtain⟨dx,c,⟨hp,_⟩,hc⟩:=ha.ex;obtain⟨dc,ta,key,el,v,⟨hcc,_⟩,ht,_⟩:=hc.ex;have hl:=M.wq ho;rw[M.Tz] at k hl;simp only[ada,M.eB,M.dj] at hl;refine⟨_,(ah (aP (i:=1) Ir.nd rfl (.inl rfl) (fZ lQ (fZ lQ (bz (af (aA (aA (pv 0) rfl) rfl) (af (aA (pv 0) rfl) aj))) (aR (kF T) (hr.mono (by decide)) rfl T.jo T.g9.kp T.jn .nil aG (af (aA (pv 0) rfl) (af aW aj)))) (aR (kF T) (hr.mono (by decide)) rfl T.jo T.g9.kp T.jn .nil aG (af (aA (pv 0) rfl) (af aW aj)))))
   (ao (aJ (fZ lQ (fZ lQ (pv 1) (aR (mL T) (hr.mono (by decide)) rfl T.kC T.iM.kp T.ku .nil aG (af (aA (aA (pv 0) rfl) rfl) aj))) (aR (ah7 T) (hr.mono (by decide)) rfl T.Y4 T.OI.kp T.Y3 .nil aG (af (aA (pv 0) rfl) aj)))))),?_⟩
  refine⟨_,rfl,p,_,dx,_,_,rfl,hp,T.bG,T.bq,rfl,c,_,dc,_,_,rfl,hcc,T.aN,T.br,rfl,_,rfl,p,_,dx,_,_,rfl,hp,T.bG,T.cT,rfl,le2,fun q1 n1=>?_⟩;have S1:=aq (o:=HO.lst [V.int (kOf o.act:Nat),V.int (o.r:Int)]) n1;refine⟨_,rfl,p,_,dx,_,_,rfl,S1 _ _ hp,T.bG,T.ud,rfl,o.n,4,rfl,by decide,fun H2 q2 S2 n2 e2=>?_⟩;refine⟨q1,q2,_,_,rfl,rfl,S2 _ _ ae,e2,Rp (by rw[pJ,aB,M.eB];show 2+4≤_;decide),fun q3 n3=>?_⟩;have S3:=aq (o:=HO.lst ([V.int (kOf o.act:Nat),V.int (o.r:Int)]++lev 4 o.n)) n3;have S13:=(S1.trans S2).trans S3;refine⟨_,rfl,p,_,dx,_,_,rfl,S13 _ _ hp,T.bG,T.wN,rfl,o.t,4,rfl,by decide,fun H4 q4 S4 n4 e4=>?_⟩;refine⟨q3,q4,_,_,rfl,rfl,S4 _ _ ae,e4,Rp (by rw[ada,pJ,pJ,aB,aB,M.eB,M.eB];show 2+4+4≤_;decide),fun q5 n5=>?_⟩;have S5:=aq (o:=HO.lst ([V.int (kOf o.act:Nat),V.int (o.r:Int)]++lev 4 o.n++lev 4 o.t)) n5;have S15:=(S13.trans S4).trans S5;refine⟨_,rfl,_,rfl,p,_,dx,_,_,rfl,S15 _ _ hp,T.bG,T.bq,rfl,c,_,dc,_,_,rfl,S15 _ _ hcc,T.aN,T.cB,rfl,ta,o.obj,rfl,aM.tup S15 ht.tup,ho.obj.2,fun H6 q6 S6 n6 e6=>?_⟩;refine⟨q5,q6,_,_,rfl,rfl,S6 _ _ ae,e6,Rp (by rw[ada,ada,pJ,pJ,aB,aB,aB,M.eB,M.eB,M.dj];show 2+4+4+5≤_;decide),fun q7 n7=>?_⟩;have S7:=aq (o:=HO.lst ([V.int (kOf o.act:Nat),V.int (o.r:Int)]++lev 4 o.n++lev 4 o.t++iB (Sa76.Id.bytes o.obj))) n7;have S17:=(S15.trans S6).trans S7;refine⟨_,rfl,p,_,dx,_,_,rfl,S17 _ _ hp,T.bG,T.bq,rfl,τ,c,o.obj,o.act,rfl,hc.same S17,ho.act,fun H8 q8 S8 n8 e8=>?_⟩;refine⟨q7,q8,_,_,rfl,rfl,S8 _ _ ae,e8,Rp (by rw[ada,ada,ada,pJ,pJ,aB,aB,aB,aB,M.eB,M.eB,M.dj];show 2+4+4+5+_≤_;omega),fun q9 n9=>?_⟩;refine k _ q9 ((S17.trans S8).trans (aq n9)) (S17.free (S8.free n9)) ?_;rw[ae,pJ,pJ,fy,fy,fy,fy];rfl
def zx59(vs:List V)(H:Hp)(Q:VK):=fun(l:Addr) (b:Bytes)=>(vs=[.ref l]∧H l=some (.lst (iB b))∧b.length≤1000∧akU H Q (Sa76.le 2 b.length++b))
def WT:Sp:=fun vs H Q _=>zx_2 (zx59 vs H Q)
theorem WU(T:Txt K mg a):bL P w K mg base jk 2 a.gz a.qP qE (WT):=by
 refine T.zC.ok Ui (fun vs H Q E h=>?_) (fun cdv A outer s H vs Q E hr h=>?_)
 ·obtain⟨l,b,rfl,_⟩:=h;rfl
 ·obtain⟨l,b,rfl,hl,hb,k⟩:=h;refine⟨_,(ao (aJ (fZ lQ (aR (kF T) (hr.mono (by decide)) rfl T.jo T.g9.kp T.jn .nil aG (af (cj bC (by rfl) T.nh (by decide +kernel) (af (pv 0) aj)) (af (gI T.w9) aj))) (pv 0)))),?_⟩;refine⟨_,rfl,l,_,rfl,.inl (cJ.of hl),_,2,rfl,by decide,fun H1 q1 S1 n1 e1=>?_⟩;rw[pJ] at e1;refine⟨_,rfl,q1,l,_,_,rfl,rfl,e1,S1 _ _ hl,Rp (by rw[aB,aB,M.eB];omega),fun q2 n2=>?_⟩;refine k _ q2 (S1.trans (aq n2)) (S1.free n2) ?_;rw[ae,fy,aB]
end
end KB
namespace KB
open PySem PySem.Spec PyProof.Rows L2
open Sa76 (Id Op Val Bytes ROOT)
theorem aqi(b:Bytes)(n:Nat)(h:n≤b.length):qC (iB b) none (some (n:Int))=iB (b.take n):=by
 unfold qC;rw[HT.yk,HT.K6,aB,asK h,atL,Nat.sub_zero,SW]
theorem NH(b:Bytes)(n:Nat):qC (iB b) (some (n:Int)) none=iB (b.drop n):=by
 unfold qC;rw[HT.yk,HT.K6,aB];rcases Nat.le_total n b.length with h|h
 ·rw[asK h,asA (by rw[asw,aB];omega),acg]
 ·rw[Nat.min_eq_right h,asz (by rw[aB];omega),asz h,List.take_nil];rfl
theorem Qn(b:Bytes)(m n:Nat)(h:m≤n):qC (iB b) (some (m:Int)) (some (n:Int))=iB ((b.drop m).take (n - m)):=by
 unfold qC;rw[HT.yk,HT.yk,aB];rcases Nat.le_total n b.length with h2|h2
 ·rw[asK h2,asK (by omega),acg,SW]
 ·rw[Nat.min_eq_right h2];rcases Nat.le_total m b.length with h3|h3
  ·rw[asK h3,acg,SW,asA (by rw[asw];omega),asA (by rw[asw];omega)]
  ·rw[Nat.min_eq_right h3,asz (by rw[aB];omega),asz h3,List.take_nil,List.take_nil];rfl
section
variable{P:Program}{w:World}{K:Fg}{mg:Str→Option Value}{base:Heap}{a:dX}
abbrev am6(K:Fg)(a:dX)(H:Hp)(τ:aL)(Q:VK)(obj:Id)(o:Option Sa76.Act):Prop:=
 (o=none→∀ H',aM H H'→Q .dN H')∧∀ x,o=some x→∀ H' c,aM H H'→Ia K a H' τ c obj x→Q (.ref c) H'
theorem NI{H H':Hp}{τ:aL}{x dx ta:Addr}{obj:Id}{y:Sa76.Act}{key el v:V}(nx:H x=none)(nd:H dx=none)(g:Tg H τ)(ht:eL K H τ ta obj)(hk:WO (o8 H τ) key (keyOf y))(he:WO (eL K H τ) el (Su y))(hv:WO (fun b (v:Val)=>o8 H τ b v.bytes) v (vOf y))
  (e:H'=upd (upd H dx (.own x)) x (.ins a.bH dx (chF (kOf y) (.ref ta) key el v (am5 y)))):aM H H'∧Ia K a H' τ x obj y:=by
 subst e;have S:aM H (upd (upd H dx (.own x)) x (.ins a.bH dx (chF (kOf y) (.ref ta) key el v (am5 y)))):=oq nx nd;refine⟨S,dx,ta,key,el,v,⟨ae,g x nx⟩,ht.imp (fun q=>aM.im S q) fun q=>q,hk.imp fun _ _ q=>aM.im S q,he.imp fun _ _ q=>q.imp (fun q=>aM.im S q) fun q=>q,hv.imp fun _ _ q=>aM.im S q⟩
def zx60(K:Fg)(a:dX)(vs:List V)(H:Hp)(Q:VK):=fun(τ:aL) (kd:Nat) (ta l:Addr) (obj:Id) (q:Bytes)=>(vs=[.int kd,.ref ta,.ref l]∧Tg H τ∧eL K H τ ta obj∧H l=some (.lst (iB q))∧M.vm q∧(kd=2∨kd=3)∧am6 K a H τ Q obj ((M.acX q).map fun v=>if kd=2 then .insert (Sa76.idOf q) v else .put (Sa76.idOf q) v))
def GG(K:Fg)(a:dX):Sp:=fun vs H Q _=>zx_6 (zx60 K a vs H Q)
theorem GH(T:Txt K mg a):bL P w K mg base jk 3 a.ck a.jB jt (GG K a):=by
 refine T.oM.ok ua (fun vs H Q E h=>?_) (fun cdv A outer s H vs Q E hr h=>?_)
 ·obtain⟨τ,kd,ta,l,obj,q,rfl,_⟩:=h;rfl
 ·obtain⟨τ,kd,ta,l,obj,q,rfl,g,ht,hl,hq,hkd,k0,k1⟩:=h;refine⟨_,(ah (aP (i:=3) ua.nd rfl (.inl rfl) (ik jX (pv 2) (fL (gI T.om)) vp))
   (ah (bQ (lP (gD (aR (lY T) (hr.mono (by decide)) rfl T.jI T.gG.kp T.jH .nil aG (af (pv 3) aj)) (fun _=>rfl))) (ao (aJ jL)) aZ)
   (ao (aJ (t8 T.nW (gH T) (hr.mono (by decide)) rfl T.qX (T.eU).choose_spec aG (af (pv 0) (af (pv 1) aj)) (ny (aR (tI T) (hr.mono (by decide)) rfl T.pI T.lM.kp T.pH .nil aG (af (ik jX (pv 2) vp (fL (gI T.om))) aj)) (ny (pv 3) EN))))))),?_⟩
  refine⟨_,rfl,_,rfl,l,_,rfl,cJ.of hl,fun q1 n1=>?_⟩;have ec:qC (iB q) (some 5) none=iB (q.drop 5):=NH q 5;rw[ec];have S1:=aq (o:=HO.lst (iB (q.drop 5))) n1;refine⟨_,rfl,q1,_,rfl,cJ.of ae,_,rfl,?_⟩;cases e:M.ED (q.drop 5) with
  |false=>
   refine iO ?_;exact k0 (by rw[M.ajn hq e];rfl) _ S1
  |true=>
   obtain⟨v,ev,hb,h5⟩:=M.ajo hq e;refine zy ?_;refine⟨_,rfl,_,rfl,_,rfl,_,rfl,l,_,rfl,cJ.of (S1 _ _ hl),fun q2 n2=>?_⟩;have ec2:qC (iB q) none (some 5)=iB (q.take 5):=aqi q 5 h5;rw[ec2];have S2:=aq (o:=HO.lst (iB (q.take 5))) n2;refine⟨q2,_,rfl,ae,by rw[aq8];omega,fun H3 q3 S3 n3 e3=>?_⟩;rw[M.YD] at e3;have S13:=(S1.trans S2).trans S3;have g3:=aM.tg S13 g;have i3:eL K H3 τ q3 (Sa76.idOf q):=.inl ⟨e3,aM.tg (S1.trans S2) g q3 n3⟩;have b3:o8 H3 τ q1 v.bytes:=⟨by rw[hb];exact S3 _ _ (S2 _ _ ae),g q1 n1⟩;have t3:eL K H3 τ ta obj:=ht.imp (fun q=>aM.im S13 q) fun q=>q;refine⟨_,rfl,fun x dx nx nd ne=>⟨x,dx,kd,0,.ref ta,.dN,.ref q3,.ref q1,rfl,ae,rfl,?_⟩⟩;rw[fJ];rcases hkd with rfl|rfl
   ·obtain⟨S4,c4⟩:=NI (y:=.insert (Sa76.idOf q) v) nx nd g3 t3 rfl ⟨q3,rfl,i3⟩ ⟨q1,rfl,b3⟩ rfl;exact k1 _ (by rw[ev];rfl) _ x (S13.trans S4) c4
   ·obtain⟨S4,c4⟩:=NI (y:=.put (Sa76.idOf q) v) nx nd g3 t3 rfl ⟨q3,rfl,i3⟩ ⟨q1,rfl,b3⟩ rfl;exact k1 _ (by rw[ev];rfl) _ x (S13.trans S4) c4
def zx61(K:Fg)(a:dX)(vs:List V)(H:Hp)(Q:VK):=fun(τ:aL) (ta l:Addr) (obj:Id) (q:Bytes)=>(vs=[.ref ta,.ref l]∧Tg H τ∧eL K H τ ta obj∧H l=some (.lst (iB q))∧M.vm q∧am6 K a H τ Q obj (M.ajl q))
def aft(K:Fg)(a:dX):Sp:=fun vs H Q _=>zx_5 (zx61 K a vs H Q)
theorem afu(T:Txt K mg a):bL P w K mg base jk 3 a.ly a.yF yq (aft K a):=by
 refine T.Jt.ok QK (fun vs H Q E h=>?_) (fun cdv A outer s H vs Q E hr h=>?_)
 ·obtain⟨τ,ta,l,obj,q,rfl,_⟩:=h;rfl
 ·obtain⟨τ,ta,l,obj,q,rfl,g,ht,hl,hq,k0,k1⟩:=h;refine⟨_,(ah (bQ (PW.pt (yi (lP (gD (pv 1) (fun _=>rfl))) (uE (lP (t7 rR rR aW (c9 bS (pv 1) aW (fun _ _=>rfl)) (gI T.sZ)))))) (ao (aJ jL)) aZ)
   (ah (aP (i:=2) QK.nd rfl (.inl rfl) (fZ uF aW (c9 bS (pv 1) aW (fun _ _=>rfl))))
   (ah (bQ (lP (gD (aR (rP T) (hr.mono (by decide)) rfl T.nZ T.kD.kp T.nY .nil aG (af (ik jX (pv 1) (fL (pv 2)) vp) aj)) (fun _=>rfl))) (ao (aJ jL)) aZ)
   (ao (aJ (t8 T.nW (gH T) (hr.mono (by decide)) rfl T.qX (T.jU).choose_spec aG (af (gI T.Zc) (af (pv 0) aj)) (ny (ik jX (pv 1) (fL aW) (fL (pv 2))) (ny (ik jX (pv 1) (fL (pv 2)) vp) EN)))))))),?_⟩
  cases q with
  |nil=>exact⟨_,rfl,false,.inl ⟨_,cJ.of hl,rfl⟩,iO (iO (k0 rfl _ (aM.refl H)))⟩
  |cons m p=>
   refine⟨_,rfl,true,.inl ⟨_,cJ.of hl,rfl⟩,zy ?_⟩;refine⟨_,rfl,l,_,_,_,rfl,rfl,cJ.of hl,at_of (j:=0) rfl rfl,_,_,rfl,rfl,_,rfl,?_⟩;by_cases h1:1≤m
   ·refine rO (by omega) ?_;refine⟨_,_,rfl,rfl,_,rfl,?_⟩;by_cases h2:m≤32
    ·refine CA (by omega) ?_;refine⟨_,rfl,l,_,_,_,rfl,rfl,cJ.of hl,at_of (j:=0) rfl rfl,_,_,rfl,rfl,?_⟩;have e1:(1:Int)+(m:Int)=((1+m:Nat):Int):=by omega
     refine⟨_,rfl,_,rfl,_,rfl,l,_,rfl,cJ.of hl,fun q1 n1=>?_⟩;have ec:qC (iB (m::p)) (some ((1:Int)+(m:Int))) none=iB (p.drop m):=by rw[e1,NH,show(m::p).drop (1+m)=p.drop m by rw[Nat.add_comm];rfl]
     rw[ec];have S1:=aq (o:=HO.lst (iB (p.drop m))) n1;refine⟨q1,_,rfl,cJ.of ae,?_⟩;cases e:M.jJ (p.drop m) with
     |false=>exact⟨_,rfl,iO (k0 (M.ajp hq rfl e) _ S1)⟩
     |true=>
      obtain⟨v,ev,hb,hm⟩:=M.ajq hq ⟨h1,h2⟩ e;refine⟨_,rfl,zy ?_⟩;refine⟨_,rfl,_,rfl,_,rfl,_,rfl,_,rfl,l,_,rfl,cJ.of (S1 _ _ hl),fun q2 n2=>?_⟩;have ec2:qC (iB (m::p)) (some 1) (some ((1:Int)+(m:Int)))=iB (p.take m):=by
       rw[e1];refine(Qn (m::p) 1 (1+m) (by omega)).trans ?_;rw[show 1+m - 1=m by omega];rfl
      rw[ec2];have S2:=aq (o:=HO.lst (iB (p.take m))) n2;refine⟨_,rfl,_,rfl,_,rfl,l,_,rfl,cJ.of (S2 _ _ (S1 _ _ hl)),fun q3 n3=>?_⟩;rw[ec];have S3:=aq (o:=HO.lst (iB (p.drop m))) n3;have S13:=(S1.trans S2).trans S3;refine fun x dx nx nd ne=>⟨x,dx,1,0,.ref ta,.ref q2,.dN,.ref q3,rfl,ae,rfl,?_⟩;rw[fJ];obtain⟨S4,c4⟩:=NI (a:=a) (y:=.set (p.take m) v) nx nd (aM.tg S13 g) (ht.imp (fun q=>aM.im S13 q) fun q=>q) ⟨q2,rfl,S3 _ _ ae,aM.tg S1 g q2 n2⟩ rfl ⟨q3,rfl,by rw[hb];exact ae,aM.tg (S1.trans S2) g q3 n3⟩ rfl;exact k1 _ ev _ x (S13.trans S4) c4
    ·refine Cz (by omega) (k0 ?_ _ (aM.refl H));rw[M.GS,acK (by omega)]
   ·refine mQ (by omega) ?_;refine⟨_,rfl,iO (k0 ?_ _ (aM.refl H))⟩;rw[M.GS,acK (by omega)]
end
end KB
namespace KB
open PySem PySem.Spec PyProof.Rows L2
open Sa76 (Id Op Val Bytes ROOT)
section
variable{P:Program}{w:World}{K:Fg}{mg:Str→Option Value}{base:Heap}{a:dX}
def zx62(K:Fg)(a:dX)(vs:List V)(H:Hp)(Q:VK):=fun(τ:aL) (kd:Nat) (ta l:Addr) (obj:Id) (q:Bytes)=>(vs=[.int kd,.ref ta,.ref l]∧Tg H τ∧eL K H τ ta obj∧H l=some (.lst (iB q))∧M.vm q∧am6 K a H τ Q obj (M.ajm kd q))
def WV(K:Fg)(a:dX):Sp:=fun vs H Q _=>zx_6 (zx62 K a vs H Q)
theorem WW(T:Txt K mg a):bL P w K mg base jk 4 a.gA a.qQ qF (WV K a):=by
 refine T.zD.ok Uj (fun vs H Q E h=>?_) (fun cdv A outer s H vs Q E hr h=>?_)
 ·obtain⟨τ,kd,ta,l,obj,q,rfl,_⟩:=h;rfl
 ·obtain⟨τ,kd,ta,l,obj,q,rfl,g,ht,hl,hq,k⟩:=h;refine⟨_,(ah (bQ (aY jr (pv 0) (gI T.Zc) (bf _)) (ao (aJ (aR (afu T) (hr.mono (by decide)) rfl T.UA T.Jt.kp T.Uz .nil aG (af (pv 1) (af (pv 2) aj))))) aZ)
   (ah (bQ (PW.pt (yi (aY jr (pv 0) (gI T.Lv) (bf _)) (uE (aY jr (pv 0) (gI T.aiO) (bf _))))) (ao (aJ (aR (GH T) (hr.mono (by decide)) rfl T.uO T.oM.kp T.uN .nil aG (af (pv 0) (af (pv 1) (af (pv 2) aj)))))) aZ)
   (ah (bQ (PW.pt (agd (aY jr (pv 0) (gI T.Ay) (bf _)) (Z9 (aY jr (cj bC (by rfl) T.nh (by decide +kernel) (af (pv 2) aj)) (gI T.om) (bf _))))) (ao (aJ (t8 T.nW (gH T) (hr.mono (by decide)) rfl T.qX (T.rf).choose_spec aG (af (gI T.Ay) (af (pv 1) aj)) (ny (aR (tI T) (hr.mono (by decide)) rfl T.pI T.lM.kp T.pH .nil aG (af (pv 2) aj)) EN)))) aZ)
   (ah (bQ (PW.pt (agd (aY jr (pv 0) (gI T.Zd) (bf _)) (Z9 (aY jr (cj bC (by rfl) T.nh (by decide +kernel) (af (pv 2) aj)) (gI T.xg) (bf _))))) (ao (aJ (t8 T.nW (gH T) (hr.mono (by decide)) rfl T.qX (T.lU).choose_spec aG (af (gI T.Zd) (af (pv 1) aj)) (ny (aR (CB T) (hr.mono (by decide)) rfl T.yO T.ug.kp T.yN .nil aG (af (aR (eF T) (hr.mono (by decide)) rfl T.dF T.cK.kp T.dD .nil aG (af (pv 2) aj)) aj)) EN)))) aZ)
   (ao (aJ jL)))))),?_⟩
  have nk:∀ {i j:Nat},i≠j→¬ V.int (i:Int)=V.int (j:Int):=fun h z=>h (by injection z with z;omega);refine⟨_,rfl,rfl,_,rfl,?_⟩;by_cases h1:kd=1
  ·subst h1;exact rO rfl ⟨_,rfl,_,rfl,τ,ta,l,obj,q,rfl,g,ht,hl,hq,k⟩
  refine mQ (nk (j:=1) h1) ?_;refine⟨_,rfl,rfl,_,rfl,?_⟩;by_cases h2:kd=2
  ·subst h2;exact rO rfl (iO ⟨_,rfl,_,rfl,_,rfl,τ,2,ta,l,obj,q,rfl,g,ht,hl,hq,.inl rfl,k⟩)
  refine mQ (nk (j:=2) h2) ?_;refine⟨_,rfl,rfl,_,rfl,?_⟩;by_cases h3:kd=3
  ·subst h3;exact rO rfl ⟨_,rfl,_,rfl,_,rfl,τ,3,ta,l,obj,q,rfl,g,ht,hl,hq,.inr rfl,k⟩
  refine mQ (nk (j:=3) h3) ?_;refine⟨_,rfl,rfl,_,rfl,?_⟩;have e0:M.ajm kd q=if kd=4 then(if q.length=5 then some (.remove (Sa76.idOf q)) else none) else if kd=5 then(if q.length=8 then some (.add (Sa76.signed q)) else none) else none:=by
   unfold M.ajm;rw[acK h1,acK h2,acK h3]
  rw[e0] at k;obtain⟨k0,k1⟩:=k;by_cases h4:kd=4
  ·subst h4;rw[afO rfl] at k0 k1;refine rO rfl ?_;refine⟨_,rfl,l,_,rfl,.inl (cJ.of hl),rfl,_,rfl,?_⟩;by_cases h5:q.length=5
   ·rw[afO h5] at k1;refine rO (by rw[aB,h5];rfl) ?_;refine⟨_,rfl,_,rfl,l,q,rfl,hl,by omega,fun H1 q1 S1 n1 e1=>?_⟩;refine fun x dx nx nd ne=>⟨x,dx,4,0,.ref ta,.dN,.ref q1,.dN,rfl,ae,rfl,?_⟩;rw[fJ];obtain⟨S4,c4⟩:=NI (a:=a) (y:=.remove (Sa76.idOf q)) nx nd (aM.tg S1 g) (ht.imp (fun q=>aM.im S1 q) fun q=>q) rfl ⟨q1,rfl,.inl ⟨e1,g q1 n1⟩⟩ rfl rfl;exact k1 _ rfl _ x (S1.trans S4) c4
   ·rw[acK h5] at k0;refine mQ (by rw[aB];intro z;injection z with z;exact h5 (by omega)) ?_;refine⟨_,rfl,rfl,_,rfl,?_⟩;refine mQ (by intro z;injection z with z;cases z) ?_;exact k0 rfl _ (aM.refl H)
  refine mQ (nk (j:=4) h4) ?_;rw[acK h4] at k0 k1;refine⟨_,rfl,rfl,_,rfl,?_⟩;by_cases h5:kd=5
  ·subst h5;rw[afO rfl] at k0 k1;refine rO rfl ?_;refine⟨_,rfl,l,_,rfl,.inl (cJ.of hl),rfl,_,rfl,?_⟩;by_cases h8:q.length=8
   ·rw[afO h8] at k1;refine rO (by rw[aB,h8];rfl) ?_;refine⟨_,rfl,_,rfl,l,q,rfl,cJ.of hl,_,rfl,fun z hz=>?_⟩;have hz:z=Sa76.signed q:=hz;rw[← hz] at k1;refine fun x dx nx nd ne=>⟨x,dx,5,z,.ref ta,.dN,.dN,.dN,rfl,ae,rfl,?_⟩;rw[fJ];obtain⟨S4,c4⟩:=NI (a:=a) (y:=.add z) nx nd g ht rfl rfl rfl rfl;exact k1 _ rfl _ x S4 c4
   ·rw[acK h8] at k0;refine mQ (by rw[aB];intro z;injection z with z;exact h8 (by omega)) ?_;exact k0 rfl _ (aM.refl H)
  refine mQ (nk (j:=5) h5) ?_;rw[acK h5] at k0;exact k0 rfl _ (aM.refl H)
end
end KB
namespace KB
open PySem PySem.Spec PyProof.Rows L2
open Sa76 (Id Op Val Bytes ROOT)
section
variable{P:Program}{w:World}{K:Fg}{mg:Str→Option Value}{base:Heap}{a:dX}
theorem getD_at{b:Bytes}{i:Nat}(h:i < b.length):b[i]?=some (b.getD i 0):=by
 rw[aqx,aqw h];rfl
theorem am7{H:Hp}{τ:aL}{x dx c:Addr}{o:Op}(nx:H x=none)(nd:H dx=none)(g:Tg H τ)(hc:Ia K a H τ c o.obj o.act) :
  aM H (upd (upd H dx (.own x)) x (.ins a.iH dx (acF o.r o.n o.t (.ref c))))∧lN K a (upd (upd H dx (.own x)) x (.ins a.iH dx (acF o.r o.n o.t (.ref c)))) τ x o:=by
 have S:aM H (upd (upd H dx (.own x)) x (.ins a.iH dx (acF o.r o.n o.t (.ref c)))):=oq nx nd;exact⟨S,dx,c,⟨ae,g x nx⟩,hc.same S⟩
abbrev aqj(K:Fg)(a:dX)(H:Hp)(τ:aL)(Q:VK)(o:Option Op):Prop:=
 (o=none→∀ H',aM H H'→Q .dN H')∧∀ x,o=some x→∀ H' c,aM H H'→lN K a H' τ c x→Q (.ref c) H'
def zx63(K:Fg)(a:dX)(vs:List V)(H:Hp)(Q:VK):=fun(τ:aL) (l:Addr) (b:Bytes)=>(vs=[.ref l]∧Tg H τ∧H l=some (.lst (iB b))∧M.vm b∧aqj K a H τ Q (Sa76.opOf b))
def afv(K:Fg)(a:dX):Sp:=fun vs H Q _=>zx_3 (zx63 K a vs H Q)
theorem afw(T:Txt K mg a):bL P w K mg base jk 5 a.lu a.yE yp (afv K a):=by
 refine T.Js.ok t9 (fun vs H Q E h=>?_) (fun cdv A outer s H vs Q E hr h=>?_)
 ·obtain⟨τ,l,b,rfl,_⟩:=h;rfl
 ·obtain⟨τ,l,b,rfl,g,hl,hb,k0,k1⟩:=h;rw[M.anB] at k0 k1;refine⟨_,(ah (bQ (aY EL (cj bC (by rfl) T.nh (by decide +kernel) (af (pv 0) aj)) (gI T.vV) (bf _)) (ao (aJ jL)) aZ)
   (ah (aP (i:=1) t9.nd rfl (.inl rfl) (c9 bS (pv 0) aW (fun _ _=>rfl)))
   (ah (aP (i:=2) t9.nd rfl (.inl rfl) (aR (eF T) (hr.mono (by decide)) rfl T.dF T.cK.kp T.dD .nil aG (af (ik jX (pv 0) (fL aW) (fL aW)) aj)))
   (ah (aP (i:=3) t9.nd rfl (.inl rfl) (aR (eF T) (hr.mono (by decide)) rfl T.dF T.cK.kp T.dD .nil aG (af (ik jX (pv 0) (fL aW) (fL aW)) aj)))
   (ah (bQ (PW.pt (yi (aY aoL (pv 1) (gI T.Ax) (bf _)) (yi (aY jr (pv 2) aW (bf _)) (uE (aY jr (pv 3) aW (bf _)))))) (ao (aJ jL)) aZ)
   (ah (aP (i:=4) t9.nd rfl (.inl rfl) (aR (WW T) (hr.mono (by decide)) rfl T.IA T.zD.kp T.Iz .nil aG (af (c9 bS (pv 0) aW (fun _ _=>rfl)) (af (aR (tI T) (hr.mono (by decide)) rfl T.pI T.lM.kp T.pH .nil aG (af (ik jX (pv 0) (fL aW) (fL (gI T.vV))) aj)) (af (ik jX (pv 0) (fL (gI T.vV)) vp) aj)))))
   (ah (bQ (aY T3 (pv 4) jL (bf _)) (ao (aJ jL)) aZ)
   (ao (aJ (SH T.agH (Rq T) (hr.mono (by decide)) rfl T.amc T.Jr .nil aG (af (pv 1) (af (pv 2) (af (pv 3) (af (pv 4) aj)))))))))))))),?_⟩
  refine⟨_,rfl,l,_,rfl,.inl (cJ.of hl),_,_,rfl,rfl,_,rfl,?_⟩;by_cases h15:b.length < 15
  ·refine rO (by rw[aB];omega) ?_;exact k0 (by rw[afO (.inl h15)]) _ (aM.refl H)
  refine mQ (by rw[aB];omega) ?_;refine⟨_,rfl,l,_,_,_,rfl,rfl,cJ.of hl,at_of (j:=1) rfl (ah4 (getD_at (by omega))),?_⟩;have ec1:qC (iB b) (some 2) (some 6)=iB ((b.drop 2).take 4):=Qn b 2 6 (by decide);have ec2:qC (iB b) (some 6) (some 10)=iB ((b.drop 6).take 4):=Qn b 6 10 (by decide);have ec3:qC (iB b) (some 10) (some 15)=iB ((b.drop 10).take 5):=Qn b 10 15 (by decide);have ec4:qC (iB b) (some 15) none=iB (b.drop 15):=NH b 15;refine⟨_,rfl,_,rfl,_,rfl,l,_,rfl,cJ.of hl,fun q1 n1=>?_⟩;rw[ec1];have S1:=aq (o:=HO.lst (iB ((b.drop 2).take 4))) n1;refine⟨q1,_,rfl,cJ.of ae,?_⟩;refine⟨_,rfl,_,rfl,_,rfl,l,_,rfl,cJ.of (S1 _ _ hl),fun q2 n2=>?_⟩;rw[ec2];have S2:=aq (o:=HO.lst (iB ((b.drop 6).take 4))) n2;refine⟨q2,_,rfl,cJ.of ae,?_⟩;have S12:=S1.trans S2;generalize Sa76.natOf ((b.drop 2).take 4)=nn at *;generalize Sa76.natOf ((b.drop 6).take 4)=tt at *;refine⟨_,rfl,_,_,rfl,rfl,_,rfl,?_⟩;by_cases h8:8≤b.getD 1 0
  ·exact rO (by omega) (iO (k0 (by rw[afO (.inr (.inl h8))]) _ S12))
  refine mQ (by omega) ?_;refine⟨_,rfl,rfl,_,rfl,?_⟩;by_cases hn:nn=0
  ·exact rO (by rw[hn];rfl) (iO (k0 (by rw[afO (.inr (.inr (.inl hn)))]) _ S12))
  refine mQ (by intro z;injection z with z;omega) ?_;refine⟨_,rfl,rfl,_,rfl,?_⟩;by_cases ht:tt=0
  ·exact rO (by rw[ht];rfl) (k0 (by rw[afO (.inr (.inr (.inr ht)))]) _ S12)
  refine mQ (by intro z;injection z with z;omega) ?_;rw[acK (by omega)] at k0 k1;refine⟨_,rfl,l,_,_,_,rfl,rfl,cJ.of (S12 _ _ hl),at_of (j:=0) rfl (ah4 (getD_at (by omega))),?_⟩;refine⟨_,rfl,_,rfl,_,rfl,l,_,rfl,cJ.of (S12 _ _ hl),fun q3 n3=>?_⟩;rw[ec3];have S3:=aq (o:=HO.lst (iB ((b.drop 10).take 5))) n3;refine⟨q3,_,rfl,ae,by rw[aq8,asw];omega,fun H4 q4 S4 n4 e4=>?_⟩;rw[M.YD] at e4;have S14:=(S12.trans S3).trans S4;refine⟨_,rfl,_,rfl,l,_,rfl,cJ.of (S14 _ _ hl),fun q5 n5=>?_⟩;rw[ec4];have S5:=aq (o:=HO.lst (iB (b.drop 15))) n5;have S15:=S14.trans S5;refine⟨τ,_,q4,q5,_,_,rfl,aM.tg S15 g,.inl ⟨S5 _ _ e4,aM.tg (S12.trans S3) g q4 n4⟩,ae,M.iN hb 15,fun e0 H6 S6=>?_,fun x ex H6 c S6 hc=>?_⟩
  ·refine⟨_,rfl,rfl,_,rfl,rO rfl ?_⟩;exact k0 (by rw[e0];rfl) _ (S15.trans S6)
  ·refine⟨_,rfl,rfl,_,rfl,mQ (fun z=>nomatch z) ?_⟩;refine⟨_,rfl,_,rfl,_,rfl,_,rfl,fun x6 dx6 nx nd ne=>⟨x6,dx6,_,_,_,_,rfl,ae,rfl,?_⟩⟩;rw[fJ];obtain⟨S7,c7⟩:=am7 (a:=a) (o:=⟨b.getD 1 0,nn,tt,Sa76.idOf (b.drop 10),x⟩) nx nd (aM.tg (S15.trans S6) g) hc;exact k1 _ (by rw[ex];rfl) _ x6 ((S15.trans S6).trans S7) c7
theorem eL.weak{H:Hp}{τ τ':aL}{b:Addr}{i:Id}(h:eL K H τ b i)(f:∀ b,τ b=.hU→τ' b=.hU):eL K H τ' b i:=h.imp (fun q=>⟨q.1,f _ q.2⟩) fun q=>q
theorem Ia.weak{H:Hp}{τ τ':aL}{p:Addr}{obj:Id}{x:Sa76.Act}(h:Ia K a H τ p obj x)(f:∀ b,τ b=.hU→τ' b=.hU):Ia K a H τ' p obj x:=by
 obtain⟨dx,ta,key,el,v,h1,h2,h3,h4,h5⟩:=h.ex;exact⟨dx,ta,key,el,v,⟨h1.1,f _ h1.2⟩,h2.weak f,h3.imp fun _ _ q=>⟨q.1,f _ q.2⟩,h4.imp fun _ _ q=>q.weak f,h5.imp fun _ _ q=>⟨q.1,f _ q.2⟩⟩
theorem lN.weak{H:Hp}{τ τ':aL}{p:Addr}{o:Op}(h:lN K a H τ p o)(f:∀ b,τ b=.hU→τ' b=.hU):lN K a H τ' p o:=by
 obtain⟨dx,c,h1,h2⟩:=h.ex;exact⟨dx,c,⟨h1.1,f _ h1.2⟩,h2.weak f⟩
theorem eA{α β:Type}{F:α→β→Prop}{x:α}{y:β}(hf:F x y):∀ {l:List α} {m:List β},Paired F l m→Paired F (l++[x]) (m++[y])
 |_,_,.nil=>.cons hf .nil
 |_,_,.cons h t=>.cons h (eA hf t)
theorem WX{H:Hp}{τ:aL}{q:Addr}{o:HO}{t:Tag}(n:H q=none)(g:Tg H τ):Tg (upd H q o) (bh τ q t):=(Fr.GF (P:=fun _=>True) (aq n) n ae g).tg
theorem aci{τ:aL}{q:Addr}{t:Tag}(h:t≠.hU):∀ b,bh τ q t b=.hU→τ b=.hU:=fun b e=>by
 by_cases z:b=q
 ·subst z;rw[cg] at e;exact absurd e h
 ·rw[aX z] at e;exact e
abbrev aow(K:Fg)(a:dX)(H:Hp)(τ:aL)(Q:VK)(o:Option (List Op)):Prop:=
 (o=none→∀ H',aM H H'→Q .dN H')∧∀ ops,o=some ops→∀ H' q as,aM H H'→H q=none→H' q=some (.lst (as.map V.ref))→Paired (lN K a H' τ) as ops→Q (.ref q) H'
def zx64(K:Fg)(a:dX)(vs:List V)(H:Hp)(Q:VK):=fun(τ:aL) (l:Addr) (b:Bytes)=>(vs=[.ref l]∧Tg H τ∧H l=some (.lst (iB b))∧M.vm b∧b.length≤1000000∧aow K a H τ Q (M.Ag b))
def ah8(K:Fg)(a:dX):Sp:=fun vs H Q _=>zx_3 (zx64 K a vs H Q)
theorem ah9(T:Txt K mg a):bL P w K mg base jk 6 a.nM a.B0 BQ (ah8 K a):=by
 refine T.OJ.ok pO (fun vs H Q E h=>?_) (fun cdv A outer s H vs Q E hr h=>?_)
 ·obtain⟨τ,l,b,rfl,_⟩:=h;rfl
 ·obtain⟨τ,l,b,rfl,g,hl,hb,hbl,k0,k1⟩:=h;refine⟨_,(ah (aP (i:=1) pO.nd rfl (.inl rfl) (bz aj))
   (ah (aP (i:=2) pO.nd rfl (.inl rfl) aW)
   (ah (EJ arV (aY EL (pv 2) (cj bC (by rfl) T.nh (by decide +kernel) (af (pv 0) aj)) (bf _)) (ah (aP (i:=3) pO.nd rfl (.inl rfl) (fZ uF (pv 2) (gI T.w9)))
   (ah (aP (i:=4) pO.nd rfl (.inl rfl) (fZ uF (pv 3) (aR (eF T) (hr.mono (by decide)) rfl T.dF T.cK.kp T.dD .nil aG (af (ik jX (pv 0) (fL (pv 2)) (fL (pv 3))) aj))))
   (ah (bQ (aY YK (pv 4) (cj bC (by rfl) T.nh (by decide +kernel) (af (pv 0) aj)) (bf _)) (ao (aJ jL)) aZ)
   (ah (aP (i:=5) pO.nd rfl (.inl rfl) (aR (afw T) (hr.mono (by decide)) rfl T.Uy T.Js.kp T.Ux .nil aG (af (ik jX (pv 0) (fL (pv 3)) (fL (pv 4))) aj)))
   (ah (bQ (aY T3 (pv 5) jL (bf _)) (ao (aJ jL)) aZ)
   (ah (di (rS anK apf apl iK (pv 1) (af (pv 5) aj)))
   (ao (aP (i:=2) pO.nd rfl (.inl rfl) (pv 4))))))))))
   (ao (aJ (pv 1)))))),?_⟩
  refine⟨le0,fun q0 n0=>?_⟩;have g0:Tg (upd H q0 (.lst [])) (bh τ q0 (.top 9)):=WX n0 g;have t0:bh τ q0 (.top 9) q0=.top 9:=cg;have w0:=aci (τ:=τ) (q:=q0) (t:=.top 9) (fun z=>nomatch z);generalize bh τ q0 (.top 9)=τ2 at g0 t0 w0;refine⟨fun m σ H'=>∃ (pos:Nat) (as:List Addr) (done:List Op) (v3 v4 v5:Option V),m=b.length - pos∧pos≤b.length∧σ=[some (.ref l),some (.ref q0),some (.int pos),v3,v4,v5]∧aM H H'∧Tg H' τ2∧H' q0=some (.lst (as.map V.ref))∧Paired (lN K a H' τ2) as done∧as.length≤pos∧
   M.Ag b=(M.Ag (b.drop pos)).map fun r=>done++r,⟨b.length,0,[],[],none,none,none,rfl,aqu _,rfl,aq n0,g0,ae,.nil,aiM _,?_⟩,?_⟩
  ·rw[atL];show _=Option.map (fun r=>r) _;cases M.Ag b <;> rfl
  ·rintro m σ H1 ⟨pos,as,done,v3,v4,v5,rfl,hp,rfl,S1,g1,e1,ha,hal,hops⟩;refine⟨_,rfl,_,rfl,l,_,rfl,.inl (cJ.of (S1 _ _ hl)),_,_,rfl,rfl,_,rfl,?_⟩;by_cases hlt:pos < b.length
   ·refine rO (by rw[aB];omega) ?_;have hst:=M.ajx hlt;refine⟨fun σ' H'=>∃ (pos':Nat) (as:List Addr) (done:List Op) (v3 v4 v5:Option V),pos < pos'∧pos'≤b.length∧σ'=[some (.ref l),some (.ref q0),some (.int pos'),v3,v4,v5]∧aM H H'∧Tg H' τ2∧H' q0=some (.lst (as.map V.ref))∧Paired (lN K a H' τ2) as done∧as.length≤pos'∧
     M.Ag b=(M.Ag (b.drop pos')).map fun r=>done++r,?_,?_⟩
    ·rintro σ' H' ⟨pos',as',done',v3,v4,v5,h1,h2,h3,h4⟩;exact⟨b.length - pos',by omega,pos',as',done',v3,v4,v5,rfl,h2,h3,h4⟩
    ·refine⟨_,rfl,_,_,rfl,rfl,?_⟩;have e2:(pos:Int)+2=((pos+2:Nat):Int):=by omega
     refine⟨_,rfl,_,rfl,_,rfl,_,rfl,_,rfl,_,rfl,l,_,rfl,cJ.of (S1 _ _ hl),fun q1 n1=>?_⟩;have ec1:qC (iB b) (some (pos:Int)) (some ((pos:Int)+2))=iB ((b.drop pos).take 2):=by
      rw[e2];refine(Qn b pos (pos+2) (by omega)).trans ?_;rw[show pos+2 - pos=2 by omega]
     rw[ec1];have S2:=aq (o:=HO.lst (iB ((b.drop pos).take 2))) n1;refine⟨q1,_,rfl,cJ.of ae,_,_,rfl,rfl,?_⟩;generalize Sa76.natOf ((b.drop pos).take 2)=kk at hst;have e3:(pos:Int)+2+(kk:Int)=((pos+2+kk:Nat):Int):=by omega
     have S12:=S1.trans S2;refine⟨_,rfl,_,rfl,l,_,rfl,.inl (cJ.of (S12 _ _ hl)),_,_,rfl,rfl,_,rfl,?_⟩;by_cases hover:b.length < pos+2+kk
     ·refine rO (by rw[aB];omega) ?_;rw[afO hover] at hst;rw[hst] at hops;exact k0 hops _ S12
     ·refine mQ (by rw[aB];omega) ?_;rw[acK hover] at hst;refine⟨_,rfl,_,rfl,_,rfl,_,rfl,_,rfl,l,_,rfl,cJ.of (S12 _ _ hl),fun q3 n3=>?_⟩;have ec3:qC (iB b) (some ((pos:Int)+2)) (some ((pos:Int)+2+(kk:Int)))=iB ((b.drop (pos+2)).take kk):=by
       rw[e3,e2];refine(Qn b (pos+2) (pos+2+kk) (by omega)).trans ?_;rw[show pos+2+kk - (pos+2)=kk by omega]
      rw[ec3];have S3:=aq (o:=HO.lst (iB ((b.drop (pos+2)).take kk))) n3;have S13:=S12.trans S3;refine⟨τ2,q3,_,rfl,aM.tg (S2.trans S3) g1,ae,M.Ac (M.iN hb _) _,fun e0 H4 S4=>?_,fun o eo H4 c S4 hc=>?_⟩
      ·refine⟨_,rfl,rfl,_,rfl,rO rfl ?_⟩;rw[e0] at hst;rw[hst] at hops;exact k0 hops _ (S13.trans S4)
      ·refine⟨_,rfl,rfl,_,rfl,mQ (fun z=>nomatch z) ?_⟩;have S24:aM H1 H4:=(S2.trans S3).trans S4;refine⟨_,rfl,.inl ⟨rfl,_,cJ.of (S24 _ _ e1)⟩,_,rfl,q0,_,_,rfl,rfl,S24 _ _ e1,G6 (by rw[aah];omega),?_⟩;refine⟨_,rfl,?_⟩;have hq0:∀ b o,H b=some o→b≠q0:=fun b o e=>au e n0;have F:Fr (fun t=>t=.hU) H4 τ2 (upd H4 q0 (.lst (as.map V.ref++[V.ref c]))) τ2:=Fr.upd (S24 _ _ e1) (by rw[t0];exact fun z=>nomatch z) (aM.tg S24 g1);refine⟨pos+2+kk,as++[c],done++[o],_,_,_,by omega,by omega,by rw[← e3];rfl,?_,F.tg,?_,?_,?_,?_⟩
       ·exact fun b o e=>by rw[ak (hq0 b o e)];exact(S13.trans S4) b o e
       ·rw[ae,ak9];rfl
       ·exact eA (hc.keep F rfl) (Paired.ye ha fun _ _ h=>(h.same S24).keep F rfl)
       ·rw[ada];show as.length+1≤_;omega
       ·rw[hops,hst,eo];show Option.map _ (Option.map _ (M.Ag _))=_;rw[Option.map_map];congr 1;funext r;show done++(o::r)=done++[o]++r;rw[aoU];rfl
   ·refine mQ (by rw[aB];omega) ?_;have e:pos=b.length:=by omega
    subst e;rw[List.drop_length,M.alp] at hops;refine⟨_,rfl,?_⟩;have hops:M.Ag b=some (done++[]):=hops;rw[apc] at hops;exact k1 done hops H1 q0 as S1 n0 e1 (Paired.ye ha fun _ _ h=>h.weak w0)
end
end KB
namespace KB
open PySem PySem.Spec PyProof.Rows L2
open Sa76 (Id Op Val Bytes ROOT)
theorem WY(i j:Id):HT.lexLt [(i.1:Int),(i.2:Int)] [(j.1:Int),(j.2:Int)]=Sa76.less i j:=by
 obtain⟨a,b⟩:=i;obtain⟨c,d⟩:=j;rw[HT.wF,HT.wF,HT.Ip];unfold Sa76.less;show(if (a:Int)=c then(if (b:Int)=d then false else decide ((b:Int) < d)) else decide ((a:Int) < c))=(decide (a < c) || (a == c && decide (b < d)));rw[ase];by_cases h:a=c
 ·subst h;by_cases h2:b=d
  ·subst h2;simp
  ·have h3:¬ (b:Int)=d:=by omega
   simp[h3]
 ·rw[acK (fun z=>h (by omega))];simp[h]
theorem eL.same{K:Fg}{H H':Hp}{τ:aL}{b:Addr}{i:Id}(h:eL K H τ b i)(s:aM H H'):eL K H' τ b i:=h.imp (fun q=>aM.im s q) fun q=>q
theorem WZ{α β:Type}{F:α→β→Prop}:∀ {l:List α} {m:List β},Paired F l m→(l.zip m).map (·.1)=l∧(l.zip m).map (·.2)=m∧∀ p∈l.zip m,F p.1 p.2
 |_,_,.nil=>⟨rfl,rfl,fun _ h=>nomatch h⟩
 |_,_,.cons h t=>by
  obtain⟨h1,h2,h3⟩:=WZ t;refine⟨by rw[as6,ajR,h1],by rw[as6,ajR,h2],fun p hp=>?_⟩;rw[as6] at hp;rcases akS.mp hp with rfl|hp
  ·exact h
  ·exact h3 p hp
theorem W0{α β:Type}{F:α→β→Prop}:∀ {l:List (α×β)},(∀ p∈l,F p.1 p.2)→Paired F (l.map (·.1)) (l.map (·.2))
 |[],_=>.nil
 |p::r,h=>.cons (h p ajM) (W0 fun q hq=>h q (aiy _ hq))
theorem am8{K:Fg}{H:Hp}{τ:aL}{cs:List Addr}{ids:List Id}{q:Addr}{Q:VK}(hp:Paired (eL K H τ) cs ids)(hl:H q=some (.lst (cs.map V.ref)))
  (k:∀ (cs':List Addr) (ids':List Id) (q':Addr),ids'.Perm ids→ids'.Pairwise (fun x y=>Sa76.less y x=false)→Paired (eL K H τ) cs' ids'→cs'.length=cs.length→H q'=none→Q (.ref q') (upd H q' (.lst (cs'.map V.ref)))):adA K [.ref q] H Q:=by
 obtain⟨h1,h2,h3⟩:=WZ hp;generalize cs.zip ids=zs at h1 h2 h3;refine⟨q,zs.map (fun p:Addr×Id=>(p.1,[(p.2.1:Int),(p.2.2:Int)])),rfl,?_,fun p hpz=>?_,fun prs' q' hperm hpw hq'=>?_⟩
 ·rw[ao8];have e:zs.map ((fun p:Addr×List Int=>V.ref p.1) ∘ fun p:Addr×Id=>(p.1,[(p.2.1:Int),(p.2.2:Int)]))=cs.map V.ref:=by
   rw[← h1,ao8];rfl
  rw[e];exact cJ.of hl
 ·obtain⟨z,hz,rfl⟩:=aou.mp hpz;exact⟨p9 (h3 z hz).tup,by simp⟩
 ·obtain⟨zs',hperm',rfl⟩:=Lc _ hperm zs rfl;have e:(zs'.map (fun p:Addr×Id=>(p.1,[(p.2.1:Int),(p.2.2:Int)]))).map (fun p:Addr×List Int=>V.ref p.1)=(zs'.map (·.1)).map V.ref:=by
   rw[ao8,ao8];rfl
  rw[e];refine k (zs'.map (·.1)) (zs'.map (·.2)) q' (h2▸hperm'.map _) ?_ (W0 fun p hp=>h3 p (hperm'.mem_iff.mp hp)) (by rw[aah,hperm'.length_eq,← h1,aah]) hq';rw[atP] at hpw ⊢;exact hpw.imp fun{x y} h=>by
   rw[← WY];exact h
def bytesOf(o:Op):Bytes:=((Sa76.madeBy o).getD .nothing).bytes
def ZI(K:Fg)(H:Hp)(τ:aL)(tu:Addr)(i:Id)(b:Bytes):Prop:=∃ ia va,(H tu=some (.tup [.ref ia,.ref va])∧τ tu=.hU)∧eL K H τ ia i∧o8 H τ va b
def ai2(K:Fg)(H:Hp)(τ:aL)(ba:Addr)(l:List Op)(id:Id):Prop:=∃ kvs,H ba=some (.dT kvs)∧kvs.length≤l.length+1∧
 ∀ e,(M.El l id e→∃ la cs,fM kvs (kI e)=some (.ref la)∧(H la=some (.lst (cs.map V.ref))∧τ la=.hU)∧Paired (eL K H τ) cs ((Sa76.children l id e).map Op.id).reverse)∧(¬ M.El l id e→fM kvs (kI e)=none)
def ai3(K:Fg)(H:Hp)(τ:aL)(na:Addr)(l:List Op)(id:Id):Prop:=∃ kvs,H na=some (.dT kvs)∧kvs.length≤l.length∧
 (∀ p,M.Ih l id ROOT p→∃ tu,fM kvs (kI p.id)=some (.ref tu)∧ZI K H τ tu (Sa76.valueOf l id p).id (bytesOf (Sa76.valueOf l id p)))∧∀ e,(¬ ∃ p,M.Ih l id ROOT p∧p.id=e)→fM kvs (kI e)=none
def ai4(H:Hp)(ra:Addr)(l:List Op)(id:Id):Prop:=∃ kvs,H ra=some (.dT kvs)∧kvs.length≤l.length∧∀ e,(fM kvs (kI e)).isSome=Sa76.isRemoved l id e
abbrev sqF(b n r:V):List (Str×V):=[("behind",b),("newest",n),("removed",r)]
structure SeqAt(K:Fg)(a:dX)(H:Hp)(τ:aL)(i:Nat)(q:Addr)(l:List Op)(id:Id):Prop where
 ex:∃ dx ba na ra,(H q=some (.ins a.aU dx (sqF (.ref ba) (.ref na) (.ref ra)))∧τ q=.hU)∧τ ba=.own i (.NC id)∧τ na=.own i (.new id)∧τ ra=.own i (.rem id)∧ai2 K H τ ba l id∧ai3 K H τ na l id∧ai4 H ra l id
section
variable{P:Tag→Prop}{K:Fg}{a:dX}{H H':Hp}{τ τ':aL}{i:Nat}{l:List Op}{id:Id}{o:Op}
theorem ZI.keep{tu:Addr}{j:Id}{b:Bytes}(h:ZI K H τ tu j b)(f:Fr P H τ H' τ')(hP:P .hU):ZI K H' τ' tu j b:=by
 obtain⟨ia,va,h1,h2,h3⟩:=h;exact⟨ia,va,f.im hP h1,h2.keep f hP,h3.keep f hP⟩
theorem ai2.keep{ba:Addr}(h:ai2 K H τ ba l id)(f:Fr P H τ H' τ')(hP:P .hU)(hb:P (τ ba)):ai2 K H' τ' ba l id:=by
 obtain⟨kvs,h1,h2,h3⟩:=h;refine⟨kvs,f.keep _ _ h1 hb,h2,fun e=>⟨fun he=>?_,(h3 e).2⟩⟩;obtain⟨la,cs,q1,q2,q3⟩:=(h3 e).1 he;exact⟨la,cs,q1,f.im hP q2,Paired.ye q3 fun _ _ z=>z.keep f hP⟩
theorem ai3.keep{na:Addr}(h:ai3 K H τ na l id)(f:Fr P H τ H' τ')(hP:P .hU)(hb:P (τ na)):ai3 K H' τ' na l id:=by
 obtain⟨kvs,h1,h2,h3,h4⟩:=h;refine⟨kvs,f.keep _ _ h1 hb,h2,fun p hp=>?_,h4⟩;obtain⟨tu,q1,q2⟩:=h3 p hp;exact⟨tu,q1,q2.keep f hP⟩
theorem ai4.keep{ra:Addr}(h:ai4 H ra l id)(f:Fr P H τ H' τ')(hb:P (τ ra)):ai4 H' ra l id:=by
 obtain⟨kvs,h1,h2⟩:=h;exact⟨kvs,f.keep _ _ h1 hb,h2⟩
theorem SeqAt.keep{q:Addr}(h:SeqAt K a H τ i q l id)(f:Fr P H τ H' τ')(hP:P .hU)(h1:P (.own i (.NC id)))(h2:P (.own i (.new id)))(h3:P (.own i (.rem id))):SeqAt K a H' τ' i q l id:=by
 obtain⟨dx,ba,na,ra,q0,q1,q2,q3,q4,q5,q6⟩:=h.ex;have tb:∀ {b:Addr} {kvs:List (List Key×V)} {t:Tag},H b=some (.dT kvs)→τ b=t→τ' b=t:=fun e z=>(f.tag _ _ e).trans z;refine⟨dx,ba,na,ra,f.im hP q0,?_,?_,?_,q4.keep f hP (q1▸h1),q5.keep f hP (q2▸h2),q6.keep f (q3▸h3)⟩
 ·obtain⟨kvs,e,_⟩:=q4;exact tb e q1
 ·obtain⟨kvs,e,_⟩:=q5;exact tb e q2
 ·obtain⟨kvs,e,_⟩:=q6;exact tb e q3
theorem SeqAt.other{q:Addr}(h:SeqAt K a H τ i q l id)(hw:M.Wf (l++[o]))(h1:∀ b,M.gv id b o=true→¬ M.El l id b)(h2:∀ e,M.ou id e o=false)(h3:∀ e,¬ (o.obj=id∧o.act=.remove e)):SeqAt K a H τ i q (l++[o]) id:=by
 obtain⟨dx,ba,na,ra,q0,q1,q2,q3,⟨kb,b1,b2,b3⟩,⟨kn,n1,n2,n3,n4⟩,⟨kr,r1,r2,r3⟩⟩:=h.ex;have hE:∀ e,M.El (l++[o]) id e↔M.El l id e:=fun e=>by
  rw[M.KU hw];exact⟨fun z=>z.elim (fun z=>z) fun⟨_,b,z1,z2⟩=>absurd z2 (h1 b z1),.inl⟩
 have hR:∀ p,M.Ih (l++[o]) id ROOT p↔M.Ih l id ROOT p:=fun p=>by
  rw[M.EG hw];exact⟨fun z=>z.elim (fun z=>z) fun⟨_,b,z1,z2⟩=>absurd z2 (h1 b z1),.inl⟩
 have hl:(l++[o]).length=l.length+1:=by rw[ada];rfl
 refine⟨dx,ba,na,ra,q0,q1,q2,q3,⟨kb,b1,by omega,fun e=>?_⟩,⟨kn,n1,by omega,fun p hp=>?_,fun e he=>n4 e fun⟨p,z1,z2⟩=>he ⟨p,(hR p).mpr z1,z2⟩⟩,⟨kr,r1,by omega,fun e=>?_⟩⟩
 ·rw[hE];refine⟨fun he=>?_,(b3 e).2⟩;have ec:Sa76.children (l++[o]) id e=Sa76.children l id e:=by
   rw[M.iE,acK (fun z=>h1 e z he)]
  rw[ec];exact(b3 e).1 he
 ·have ev:Sa76.valueOf (l++[o]) id p=Sa76.valueOf l id p:=by
   rw[M.kJ,acK (fun z=>by rw[h2] at z;exact absurd z.1 ak7)]
  rw[ev];exact n3 p ((hR p).mp hp)
 ·rw[r3,M.j7];have z:(o.obj == id && o.act == Sa76.Act.remove e)=false:=by
   cases hz:(o.obj == id && o.act == Sa76.Act.remove e) with
   |false=>rfl
   |true=>
    rw[anr] at hz;exact absurd ⟨eq_of_beq hz.1,eq_of_beq hz.2⟩ (h3 e)
  rw[z,asX]
end
end KB
namespace KB
open PySem PySem.Spec PyProof.Rows L2
open Sa76 (Id Op Val Bytes ROOT)
theorem SX{l:List Op}{o:Op}{id:Id}(hw:M.Wf (l++[o]))(n1:∀ b,M.gv id b o=false)(x:Id):M.El (l++[o]) id x↔M.El l id x:=by
 rw[M.KU hw];exact⟨fun z=>z.elim (fun z=>z) fun⟨_,b,z1,_⟩=>absurd z1 (by rw[n1];exact ak7),.inl⟩
theorem NJ{l:List Op}{o:Op}{id:Id}(hw:M.Wf (l++[o]))(n1:∀ b,M.gv id b o=false)(p:Op):M.Ih (l++[o]) id ROOT p↔M.Ih l id ROOT p:=by
 rw[M.EG hw];exact⟨fun z=>z.elim (fun z=>z) fun⟨_,b,z1,_⟩=>absurd z1 (by rw[n1];exact ak7),.inl⟩
theorem acj{τ:aL}{b c:Addr}{t u:Tag}(h:τ b=t)(h':τ c=u)(n:t≠u):b≠c:=fun e=>n (by rw[← h,← h',e])
theorem jq{κ:Type}[DecidableEq κ]{kvs:List (κ×V)}{k:κ}{y:V}:fM (putK kvs k y) k=some y:=by rw[adp,afO rfl]
theorem mO{κ:Type}[DecidableEq κ]{kvs:List (κ×V)}{k j:κ}{y:V}(h:j≠k):fM (putK kvs k y) j=fM kvs j:=by rw[adp,acK h]
section
variable{P:Program}{w:World}{K:Fg}{mg:Str→Option Value}{base:Heap}{a:dX}
def zx65(K:Fg)(a:dX)(vs:List V)(H:Hp)(Q:VK):=fun(τ:aL) (i:Nat) (q ea:Addr) (l:List Op) (o:Op) (e:Id)=>(vs=[.ref q,.ref ea]∧Tg H τ∧SeqAt K a H τ i q l o.obj∧M.Wf (l++[o])∧l.length≤5000∧o.act=.remove e∧eL K H τ ea e∧∀ H',SeqAt K a H' τ i q (l++[o]) o.obj→Fr (fun t=>t≠.own i (.rem o.obj)) H τ H' τ→Q .dN H')
def GI(K:Fg)(a:dX):Sp:=fun vs H Q _=>zx_7 (zx65 K a vs H Q)
theorem GJ(T:Txt K mg a):bL P w K mg base jk 1 a.bT a.jC ju (GI K a):=by
 refine T.uP.ok EY (fun vs H Q E h=>?_) (fun cdv A outer s H vs Q E hr h=>?_)
 ·obtain⟨τ,i,q,ea,l,o,e,rfl,_⟩:=h;rfl
 ·obtain⟨τ,i,q,ea,l,o,e,rfl,g,hs,hw,hl,ho,he,k⟩:=h;refine⟨_,(ao (o9 (eV hr) (aA (pv 0) rfl) (pv 1) TV rfl)),?_⟩;obtain⟨dx,ba,na,ra,q0,q1,q2,q3,hB,hN,⟨kr,r1,r2,r3⟩⟩:=hs.ex;refine⟨_,rfl,q,_,dx,_,_,rfl,q0.1,T.bB,T.j6,rfl,_,rfl,ra,_,rfl,BK.t r1 he.key (G6 (by omega)),?_⟩;have F:Fr (fun t=>t≠.own i (.rem o.obj)) H τ (upd H ra (.dT (putK kr (kI e) (.bl true)))) τ:=Fr.upd r1 (by rw[q3];exact fun z=>z rfl) g;refine k _ ?_ F;have hl1:(l++[o]).length=l.length+1:=by rw[ada];rfl
  have n1:∀ b,M.gv o.obj b o=false:=fun b=>by unfold M.gv;rw[ho];exact arz _
  have n2:∀ b,M.ou o.obj b o=false:=fun b=>by unfold M.ou;rw[ho];exact arz _
  have hE:=SX hw n1;have hR:=NJ hw n1;obtain⟨kb,b1,b2,b3⟩:=hB.keep F (fun z=>nomatch z) (by rw[q1];exact fun z=>nomatch z);obtain⟨kn,m1,m2,m3,m4⟩:=hN.keep F (fun z=>nomatch z) (by rw[q2];exact fun z=>nomatch z);refine⟨dx,ba,na,ra,F.im (fun z=>nomatch z) q0,q1,q2,q3,⟨kb,b1,by omega,fun x=>?_⟩,⟨kn,m1,by omega,fun p hp=>?_,fun x hx=>m4 x fun⟨p,z1,z2⟩=>hx ⟨p,(hR p).mpr z1,z2⟩⟩,⟨_,ae,?_,fun x=>?_⟩⟩
  ·rw[hE,M.iE,acK (by rw[n1];exact ak7)];exact b3 x
  ·rw[M.kJ,acK (fun z=>by rw[n2] at z;exact absurd z.1 ak7)];exact m3 p ((hR p).mp hp)
  ·have:=fh kr (kI e) (.bl true);omega
  ·rw[M.j7,← r3];by_cases hx:x=e
   ·subst hx;rw[jq,ho];simp
   ·rw[mO (fun z=>hx (oR z)),ho];have z:(Sa76.Act.remove e == Sa76.Act.remove x)=false:=by
     rw[arH];intro z;injection z with z;exact hx z.symm
    rw[z,arz,asX]
def zx66(K:Fg)(a:dX)(vs:List V)(H:Hp)(Q:VK):=fun(τ:aL) (i:Nat) (q ea ia va:Addr) (l:List Op) (o:Op) (e:Id) (v:Val)=>(vs=[.ref q,.ref ea,.ref ia,.ref va]∧Tg H τ∧SeqAt K a H τ i q l o.obj∧M.Wf (l++[o])∧l.length≤5000∧o.act=.put e v∧eL K H τ ea e∧eL K H τ ia o.id∧o8 H τ va v.bytes∧∀ H',SeqAt K a H' τ i q (l++[o]) o.obj→Fr (fun t=>t≠.own i (.new o.obj)) H τ H' τ→Q .dN H')
def Sw(K:Fg)(a:dX):Sp:=fun vs H Q _=>zx_10 (zx66 K a vs H Q)
theorem Sy(T:Txt K mg a):bL P w K mg base jk 1 a.eK a.pD pA (Sw K a):=by
 refine T.E6.ok RC (fun vs H Q E h=>?_) (fun cdv A outer s H vs Q E hr h=>?_)
 ·obtain⟨τ,i,q,ea,ia,va,l,o,e,v,rfl,_⟩:=h;rfl
 ·obtain⟨τ,i,q,ea,ia,va,l,o,e,v,rfl,g,hs,hw,hl,ho,he,hi,hv,k⟩:=h;refine⟨_,(ao (bQ (PW.pt (agd (Z8 (agt (eV hr) (pv 1) (aA (pv 0) rfl))) (Z9 (aY (al7 (eV hr)) (pv 2) (c9 wG (kK (eV hr) (aA (pv 0) rfl) (pv 1) (fun _ _=>rfl)) aW (fun _ _=>rfl)) (bf _))))) (ao (o9 (eV hr) (aA (pv 0) rfl) (pv 1) (BJ (af (pv 2) (af (pv 3) aj))) rfl)) aZ)),?_⟩;obtain⟨dx,ba,na,ra,q0,q1,q2,q3,hB,⟨kn,m1,m2,m3,m4⟩,hRm⟩:=hs.ex;have hl1:(l++[o]).length=l.length+1:=by rw[ada];rfl
  have n1:∀ b,M.gv o.obj b o=false:=fun b=>by unfold M.gv;rw[ho];exact arz _
  have n2:∀ x,M.ou o.obj x o=decide (e=x):=fun x=>by
   unfold M.ou;rw[ho,beq_self_eq_true,Bool.true_and];show(e == x)=_;rw[ase];simp
  have n3:∀ x,¬ (o.obj=o.obj∧o.act=.remove x):=fun x z=>by rw[ho] at z;exact absurd z.2 (fun z=>nomatch z)
  refine⟨_,rfl,_,rfl,q,_,dx,_,_,rfl,q0.1,T.bB,T.fg,rfl,na,_,rfl,mP.t m1 he.key,_,rfl,?_⟩;by_cases hx:∃ p,M.Ih l o.obj ROOT p∧p.id=e
  ·obtain⟨p,hp,rfl⟩:=hx;obtain⟨tu,t1,t2⟩:=m3 p hp;rw[t1];refine iO ?_;obtain⟨ja,wa,u1,u2,u3⟩:=t2;have d:=mP.t m1 he.key;rw[t1] at d;refine⟨_,rfl,_,rfl,q,_,dx,_,_,rfl,q0.1,T.bB,T.fg,rfl,_,rfl,na,_,rfl,d,tu,_,_,_,rfl,rfl,Io.of u1.1,at_of (j:=0) rfl rfl,ia,ja,[(o.id.1:Int),(o.id.2:Int)],[((Sa76.valueOf l o.obj p).id.1:Int),((Sa76.valueOf l o.obj p).id.2:Int)],rfl,rfl,hi.tup,u2.tup,_,rfl,?_⟩;rw[WY];cases hlt:Sa76.less (Sa76.valueOf l o.obj p).id o.id with
   |false=>
    refine zy ?_;refine k H ?_ (Fr.refl g);have hE:=SX hw n1;have hR:=NJ hw n1;obtain⟨kb,b1,b2,b3⟩:=hB;obtain⟨kr,r1,r2,r3⟩:=hRm;refine⟨dx,ba,na,ra,q0,q1,q2,q3,⟨kb,b1,by omega,fun x=>?_⟩,⟨kn,m1,by omega,fun p' hp'=>?_,fun x hx=>m4 x fun⟨p,z1,z2⟩=>hx ⟨p,(hR p).mpr z1,z2⟩⟩,⟨kr,r1,by omega,fun x=>?_⟩⟩
    ·rw[hE,M.iE,acK (by rw[n1];exact ak7)];exact b3 x
    ·have hp'':=(hR p').mp hp';rw[M.kJ,acK]
     ·exact m3 p' hp''
     ·rintro⟨z1,z2⟩;rw[n2] at z1;have z1:p.id=p'.id:=ata z1;have:p=p':=M.Es hw (aoI _ (M.tL hp).1) (aoI _ (M.tL hp'').1) z1;subst this;rw[hlt] at z2;cases z2
    ·rw[r3,M.j7];have z:(o.obj == o.obj && o.act == Sa76.Act.remove x)=false:=by rw[ho];exact arz _
     rw[z,asX]
   |true=>
    refine iO ?_;refine⟨_,rfl,_,rfl,le2,fun q5 n5=>?_⟩;have S5:=aq (o:=HO.tup [V.ref ia,V.ref va]) n5;have F5:Fr (fun t=>t≠.own i (.new o.obj)) H τ (upd H q5 (.tup [.ref ia,.ref va])) τ:=Fr.same S5 g;refine⟨_,rfl,q,_,dx,_,_,rfl,S5 _ _ q0.1,T.bB,T.fg,rfl,_,rfl,na,_,rfl,BK.t (S5 _ _ m1) (aM.tup S5 he.key) (G6 (by omega)),?_⟩;have F6:Fr (fun t=>t≠.own i (.new o.obj)) (upd H q5 (.tup [.ref ia,.ref va])) τ (upd (upd H q5 (.tup [.ref ia,.ref va])) na (.dT (putK kn (kI p.id) (.ref q5)))) τ:=Fr.upd (S5 _ _ m1) (by rw[q2];exact fun z=>z rfl) F5.tg;have F:=F5.trans F6;refine k _ ?_ F;have hE:=SX hw n1;have hR:=NJ hw n1;obtain⟨kb,b1,b2,b3⟩:=hB.keep F (fun z=>nomatch z) (by rw[q1];exact fun z=>nomatch z);obtain⟨kr,r1,r2,r3⟩:=hRm.keep F (by rw[q3];exact fun z=>nomatch z);have i0:(Tag.hU:Tag)≠.own i (.new o.obj):=fun z=>nomatch z;refine⟨dx,ba,na,ra,F.im i0 q0,q1,q2,q3,⟨kb,b1,by omega,fun x=>?_⟩,⟨_,ae,?_,fun p' hp'=>?_,fun x hx=>?_⟩,⟨kr,r1,by omega,fun x=>?_⟩⟩
    ·rw[hE,M.iE,acK (by rw[n1];exact ak7)];exact b3 x
    ·have:=fh kn (kI p.id) (.ref q5);omega
    ·have hp'':=(hR p').mp hp';by_cases z1:p.id=p'.id
     ·have:p=p':=M.Es hw (aoI _ (M.tL hp).1) (aoI _ (M.tL hp'').1) z1;subst this;rw[M.kJ,afO ⟨by rw[n2];exact arC rfl,hlt⟩];refine⟨q5,jq,ia,va,F6.im i0 ⟨ae,g q5 n5⟩,hi.keep F i0,?_⟩;have eb:bytesOf o=v.bytes:=by unfold bytesOf;rw[tH,ho];rfl
      rw[eb];exact hv.keep F i0
     ·rw[M.kJ,acK (fun z=>z1 (by have z:=z.1;rw[n2] at z;exact ata z))];obtain⟨tu',t1',t2'⟩:=m3 p' hp'';exact⟨tu',by rw[mO (fun z=>z1 (oR z).symm)];exact t1',t2'.keep F i0⟩
    ·rw[mO (fun z=>hx ⟨p,(hR p).mpr hp,(oR z).symm⟩)];exact m4 x fun⟨p',z1,z2⟩=>hx ⟨p',(hR p').mpr z1,z2⟩
    ·rw[r3,M.j7];have z:(o.obj == o.obj && o.act == Sa76.Act.remove x)=false:=by rw[ho];exact arz _
     rw[z,asX]
  ·rw[m4 e hx];refine zy ?_;refine k H ?_ (Fr.refl g);have hE:=SX hw n1;have hR:=NJ hw n1;obtain⟨kb,b1,b2,b3⟩:=hB;obtain⟨kr,r1,r2,r3⟩:=hRm;refine⟨dx,ba,na,ra,q0,q1,q2,q3,⟨kb,b1,by omega,fun x=>?_⟩,⟨kn,m1,by omega,fun p' hp'=>?_,fun x hx=>m4 x fun⟨p,z1,z2⟩=>hx ⟨p,(hR p).mpr z1,z2⟩⟩,⟨kr,r1,by omega,fun x=>?_⟩⟩
   ·rw[hE,M.iE,acK (by rw[n1];exact ak7)];exact b3 x
   ·have hp'':=(hR p').mp hp';rw[M.kJ,acK]
    ·exact m3 p' hp''
    ·rintro⟨z1,z2⟩;rw[n2] at z1;exact hx ⟨p',hp'',(ata z1).symm⟩
   ·rw[r3,M.j7];have z:(o.obj == o.obj && o.act == Sa76.Act.remove x)=false:=by rw[ho];exact arz _
    rw[z,asX]
end
end KB
namespace KB
open PySem PySem.Spec PyProof.Rows L2
open Sa76 (Id Op Val Bytes ROOT)
section
variable{P:Program}{w:World}{K:Fg}{mg:Str→Option Value}{base:Heap}{a:dX}
def zx67(K:Fg)(a:dX)(vs:List V)(H:Hp)(Q:VK):=fun(τ:aL) (i:Nat) (q ea fa va:Addr) (l:List Op) (o:Op) (b:Id) (v:Val)=>(vs=[.ref q,.ref ea,.ref fa,.ref va]∧Tg H τ∧SeqAt K a H τ i q l o.obj∧M.Wf (l++[o])∧l.length≤5000∧o.act=.insert b v∧eL K H τ ea o.id∧eL K H τ fa b∧o8 H τ va v.bytes∧∀ H',SeqAt K a H' τ i q (l++[o]) o.obj→Fr (fun t=>t≠.own i (.NC o.obj)∧t≠.own i (.new o.obj)) H τ H' τ→Q .dN H')
def NL(K:Fg)(a:dX):Sp:=fun vs H Q _=>zx_10 (zx67 K a vs H Q)
theorem NN(T:Txt K mg a):bL P w K mg base jk 1 a.cR a.mC mh (NL K a):=by
 refine T.Aq.ok Li (fun vs H Q E h=>?_) (fun cdv A outer s H vs Q E hr h=>?_)
 ·obtain⟨τ,i,q,ea,fa,va,l,o,b,v,rfl,_⟩:=h;rfl
 ·obtain⟨τ,i,q,ea,fa,va,l,o,b,v,rfl,g,hs,hw,hl,ho,he,hb,hv,k⟩:=h;refine⟨_,(ah (bQ (Z8 (OA (eV hr) (pv 2) (aA (pv 0) rfl))) (ao SE) aZ)
   (ah (o9 (eV hr) (aA (pv 0) rfl) (pv 2) (cj agx (by rfl) T.UK (by decide +kernel) (af (fZ lQ (kK (eV hr) (aA (pv 0) rfl) (pv 2) (fun _ _=>rfl)) (bz (af (pv 1) aj))) aj)) rfl)
   (ah (o9 (eV hr) (aA (pv 0) rfl) (pv 1) (bz aj) rfl)
   (ao (o9 (eV hr) (aA (pv 0) rfl) (pv 1) (BJ (af (pv 1) (af (pv 3) aj))) rfl))))),?_⟩
  obtain⟨dx,ba,na,ra,q0,q1,q2,q3,⟨kb,b1,b2,b3⟩,⟨kn,m1,m2,m3,m4⟩,hRm⟩:=hs.ex;have hl1:(l++[o]).length=l.length+1:=by rw[ada];rfl
  have hins:M.gv o.obj b o=true:=by
   unfold M.gv;rw[ho];show(o.obj == o.obj && b == b)=true;simp
  have n1:∀ x,M.gv o.obj x o=true→x=b:=fun x hx=>M.ajh hx hins;have n2:∀ x,M.ou o.obj x o=false:=fun b=>by unfold M.ou;rw[ho];exact arz _
  have n3:∀ x,¬ (o.obj=o.obj∧o.act=.remove x):=fun x z=>by rw[ho] at z;exact absurd z.2 (fun z=>nomatch z)
  refine⟨_,rfl,_,rfl,q,_,dx,_,_,rfl,q0.1,T.bB,T.cO,rfl,ba,_,rfl,mP.t b1 hb.key,_,rfl,?_⟩;by_cases hEb:M.El l o.obj b
  ·obtain⟨la,cs,c1,c2,c3⟩:=(b3 b).1 hEb;rw[c1];refine zy ?_;have d:=mP.t b1 hb.key;rw[c1] at d;have hcl:cs.length≤5000:=by
    have e1:=Paired.length c3;rw[atm,aah] at e1;have e2:(Sa76.children l o.obj b).length≤l.length:=(M.Tu (M.zu hw.inv.1 o.obj b)).length_le_of_subset fun p hp=>(M.be.mp hp).1;omega
   refine⟨_,rfl,q,_,dx,_,_,rfl,q0.1,T.bB,T.cO,rfl,_,rfl,ba,_,rfl,d,_,rfl,tU,fun p1 s1=>?_⟩;have S1:=aq (o:=HO.lst [V.ref ea]) s1;refine⟨la,p1,_,_,rfl,rfl,S1 _ _ c2.1,ae,Rp (by rw[aah];show _+1≤_;omega),fun p2 s2=>?_⟩;have S2:=aq (o:=HO.lst (cs.map V.ref++[V.ref ea])) s2;have S12:=S1.trans S2;have c4:Paired (eL K (upd (upd H p1 (.lst [.ref ea])) p2 (.lst (cs.map V.ref++[.ref ea]))) τ) (cs++[ea]) (((Sa76.children l o.obj b).map Op.id).reverse++[o.id]):=
    eA (eL.same he S12) (Paired.ye c3 fun _ _ h=>eL.same h S12)
   dsimp only[Xw];refine am8 c4 (by rw[ae,ak9];rfl) fun cs' ids' p3 hp hpw c5 hlen s3=>?_;have eids:=M.Rw hw hins hp hpw;subst eids;have S3:=aq (o:=HO.lst (cs'.map V.ref)) s3;have S13:=S12.trans S3;have F3:Fr (fun t=>t≠.own i (.NC o.obj)) H τ (upd (upd (upd H p1 (.lst [.ref ea])) p2 (.lst (cs.map V.ref++[.ref ea]))) p3 (.lst (cs'.map V.ref))) τ:=Fr.same S13 g;have c6:Paired (eL K (upd (upd (upd H p1 (.lst [.ref ea])) p2 (.lst (cs.map V.ref++[.ref ea]))) p3 (.lst (cs'.map V.ref))) τ) cs' (((Sa76.children (l++[o]) o.obj b).map Op.id).reverse):=Paired.ye c5 fun _ _ h=>eL.same h S3;have t3:τ p3=.hU:=aM.tg S12 g p3 s3;generalize hH3:upd (upd (upd H p1 (.lst [.ref ea])) p2 (.lst (cs.map V.ref++[.ref ea]))) p3 (.lst (cs'.map V.ref))=H3 at S13 F3 c6;have e3:H3 p3=some (.lst (cs'.map V.ref)):=by rw[← hH3];exact ae
   refine⟨_,rfl,q,_,dx,_,_,rfl,S13 _ _ q0.1,T.bB,T.cO,rfl,_,rfl,ba,_,rfl,BK.t (S13 _ _ b1) (aM.tup S13 hb.key) (G6 (by omega)),?_⟩;have F4:Fr (fun t=>t≠.own i (.NC o.obj)) H3 τ (upd H3 ba (.dT (putK kb (kI b) (.ref p3)))) τ:=Fr.upd (S13 _ _ b1) (by rw[q1];exact fun z=>z rfl) F3.tg;have i0:(Tag.hU:Tag)≠.own i (.NC o.obj):=fun z=>nomatch z;refine⟨le0,fun p4 s4=>?_⟩;have S4:=aq (o:=HO.lst []) s4;have F5:Fr (fun t=>t≠.own i (.NC o.obj)) (upd H3 ba (.dT (putK kb (kI b) (.ref p3)))) τ (upd (upd H3 ba (.dT (putK kb (kI b) (.ref p3)))) p4 (.lst [])) τ:=Fr.same S4 F4.tg;have F35:=(F3.trans F4).trans F5;refine⟨_,rfl,q,_,dx,_,_,rfl,(F35.im i0 q0).1,T.bB,T.cO,rfl,_,rfl,ba,_,rfl,BK.t (S4 _ _ ae) (he.keep F35 i0).key (G6 (by have:=fh kb (kI b) (.ref p3);omega)),?_⟩;have F6:Fr (fun t=>t≠.own i (.NC o.obj)) (upd (upd H3 ba (.dT (putK kb (kI b) (.ref p3)))) p4 (.lst [])) τ (upd (upd (upd H3 ba (.dT (putK kb (kI b) (.ref p3)))) p4 (.lst [])) ba (.dT (putK (putK kb (kI b) (.ref p3)) (kI o.id) (.ref p4)))) τ:=Fr.upd (S4 _ _ ae) (by rw[q1];exact fun z=>z rfl) F5.tg;have F36:=F35.trans F6;have t4:τ p4=.hU:=F4.tg p4 s4;have e4:=F6.im i0 (show upd (upd H3 ba (.dT (putK kb (kI b) (.ref p3)))) p4 (.lst []) p4=some (.lst [])∧τ p4=.hU from⟨ae,t4⟩);have e3':=(F4.trans (F5.trans F6)).im i0 ⟨e3,t3⟩;have c7:=Paired.ye c6 fun _ _ h=>h.keep (F4.trans (F5.trans F6)) i0;have eb:(upd (upd (upd H3 ba (.dT (putK kb (kI b) (.ref p3)))) p4 (.lst [])) ba (.dT (putK (putK kb (kI b) (.ref p3)) (kI o.id) (.ref p4)))) ba=some (.dT (putK (putK kb (kI b) (.ref p3)) (kI o.id) (.ref p4))):=ae;generalize upd (upd (upd H3 ba (.dT (putK kb (kI b) (.ref p3)))) p4 (.lst [])) ba (.dT (putK (putK kb (kI b) (.ref p3)) (kI o.id) (.ref p4)))=H6 at F6 F36 e4 e3' c7 eb;clear F4 F5 F6 F35 F3;refine⟨_,rfl,_,rfl,le2,fun p5 s5=>?_⟩;have S7:=aq (o:=HO.tup [V.ref ea,V.ref va]) s5;have F7:Fr (fun t=>t≠.own i (.NC o.obj)) H6 τ (upd H6 p5 (.tup [.ref ea,.ref va])) τ:=Fr.same S7 F36.tg;have F37:=F36.trans F7;have m1':(upd H6 p5 (.tup [.ref ea,.ref va])) na=some (.dT kn):=F37.keep _ _ m1 (by rw[q2];exact fun z=>nomatch z);refine⟨_,rfl,q,_,dx,_,_,rfl,(F37.im i0 q0).1,T.bB,T.fg,rfl,_,rfl,na,_,rfl,BK.t m1' (he.keep F37 i0).key (G6 (by omega)),?_⟩;have j0:(Tag.hU:Tag)≠.own i (.NC o.obj)∧(Tag.hU:Tag)≠.own i (.new o.obj):=⟨(fun z=>nomatch z),(fun z=>nomatch z)⟩;have F8:Fr (fun t=>t≠.own i (.new o.obj)) (upd H6 p5 (.tup [.ref ea,.ref va])) τ (upd (upd H6 p5 (.tup [.ref ea,.ref va])) na (.dT (putK kn (kI o.id) (.ref p5)))) τ:=Fr.upd m1' (by rw[q2];exact fun z=>z rfl) F37.tg;have k0:(Tag.hU:Tag)≠.own i (.new o.obj):=fun z=>nomatch z;have F:Fr (fun t=>t≠.own i (.NC o.obj)∧t≠.own i (.new o.obj)) H τ (upd (upd H6 p5 (.tup [.ref ea,.ref va])) na (.dT (putK kn (kI o.id) (.ref p5)))) τ:=(F37.mono fun _ z=>z.1).trans (F8.mono fun _ z=>z.2);have F68:Fr (fun t=>t≠.own i (.new o.obj)) H6 τ (upd (upd H6 p5 (.tup [.ref ea,.ref va])) na (.dT (putK kn (kI o.id) (.ref p5)))) τ:=(Fr.same S7 F36.tg).trans F8;refine k _ ?_ F;have hnb:o.id≠b:=fun z=>by
    rcases M.acR hEb with y|y
    ·exact hw.zq o (by simp) (z.trans y)
    ·exact hw.inv.2.2.1 (z▸y)
   have hEo:¬ M.El l o.obj o.id:=fun z=>by
    rcases M.acR z with y|y
    ·exact hw.zq o (by simp) y
    ·exact hw.inv.2.2.1 y
   refine⟨dx,ba,na,ra,F.im j0 q0,q1,q2,q3,⟨_,F68.keep _ _ eb (by rw[q1];exact fun z=>nomatch z),?_,fun x=>?_⟩,⟨_,ae,?_,fun p hp=>?_,fun x hx=>?_⟩,?_⟩
   ·have h1:=fh (putK kb (kI b) (.ref p3)) (kI o.id) (.ref p4);have h2:(putK kb (kI b) (.ref p3)).length=kb.length:=by
     unfold putK;rw[afO (by rw[qD,c1];rfl),aah]
    omega
   ·rw[M.KU hw];by_cases hxo:x=o.id
    ·subst hxo;refine⟨fun _=>⟨p4,[],jq,F68.im k0 e4,?_⟩,fun z=>absurd (.inr ⟨rfl,b,hins,hEb⟩) z⟩;rw[M.Z3 hw];exact .nil
    ·rw[mO (fun z=>hxo (oR z))];by_cases hxb:x=b
     ·subst hxb;refine⟨fun _=>⟨p3,cs',jq,F68.im k0 e3',Paired.ye c7 fun _ _ h=>h.keep F68 k0⟩,fun z=>absurd (.inl hEb) z⟩
     ·rw[mO (fun z=>hxb (oR z))];refine⟨fun z=>?_,fun z=>(b3 x).2 fun y=>z (.inl y)⟩;have hx:M.El l o.obj x:=z.elim (fun z=>z) fun z=>absurd z.1 hxo;obtain⟨la',cs2,d1,d2,d3⟩:=(b3 x).1 hx;rw[M.iE,acK (fun z=>hxb (n1 x z))];exact⟨la',cs2,d1,F.im j0 d2,Paired.ye d3 fun _ _ h=>h.keep F j0⟩
   ·have:=fh kn (kI o.id) (.ref p5);omega
   ·rcases(M.EG hw).mp hp with hp'|⟨rfl,_⟩
    ·have hne:p.id≠o.id:=fun z=>hEo (z▸M.agb hp');rw[mO (fun z=>hne (oR z)),M.kJ,acK (fun z=>by rw[n2] at z;exact absurd z.1 ak7)];obtain⟨tu,t1,t2⟩:=m3 p hp';exact⟨tu,t1,t2.keep F j0⟩
    ·rw[M.ac0 hw];have eby:bytesOf p=v.bytes:=by unfold bytesOf;rw[tH,ho];rfl
     rw[eby];exact⟨p5,jq,ea,va,F8.im k0 ⟨ae,F36.tg p5 s5⟩,he.keep F j0,hv.keep F j0⟩
   ·have hne:x≠o.id:=fun z=>hx ⟨o,(M.EG hw).mpr (.inr ⟨rfl,b,hins,hEb⟩),z.symm⟩;rw[mO (fun z=>hne (oR z))];exact m4 x fun⟨p,z1,z2⟩=>hx ⟨p,(M.EG hw).mpr (.inl z1),z2⟩
   ·obtain⟨kr,r1,r2,r3⟩:=hRm.keep F (by rw[q3];exact⟨(fun z=>nomatch z),(fun z=>nomatch z)⟩);refine⟨kr,r1,by omega,fun x=>?_⟩;rw[r3,M.j7];have z:(o.obj == o.obj && o.act == Sa76.Act.remove x)=false:=by rw[ho];exact arz _
    rw[z,asX]
  ·rw[(b3 b).2 hEb];refine iO ?_;exact k H (hs.other hw (fun x hx=>by rw[n1 x hx];exact hEb) n2 n3) (Fr.refl g)
end
end KB
namespace KB
open PySem PySem.Spec PyProof.Rows L2
open Sa76 (Id Op Val Bytes ROOT)
theorem GK{α β:Type}{F:α→β→Prop}{y:β}:∀ {m:List β} {l:List α},Paired F l (m++[y])→∃ l' x,l=l'++[x]∧Paired F l' m∧F x y
 |[],_,.cons h .nil=>⟨[],_,rfl,.nil,h⟩
 |z::m,_,.cons h t=>by
  obtain⟨l',x,rfl,h1,h2⟩:=GK t;exact⟨_::l',x,rfl,.cons h h1,h2⟩
theorem KH{α β:Type}{F:α→β→Prop}:∀ {l l':List α} {m m':List β},Paired F l m→Paired F l' m'→Paired F (l++l') (m++m')
 |_,_,_,_,.nil,h=>h
 |_,_,_,_,.cons h t,h'=>.cons h (KH t h')
section
variable{P:Program}{w:World}{K:Fg}{mg:Str→Option Value}{base:Heap}{a:dX}
def zx68(a:dX)(vs:List V)(H:Hp)(Q:VK):=fun(p dx:Addr)=>(vs=[.ref p]∧H p=some (.ins a.aU dx [])∧∀ H' ba la na ra,H ba=none→H la=none→H na=none→H ra=none→H' p=some (.ins a.aU dx (sqF (.ref ba) (.ref na) (.ref ra)))→H' ba=some (.dT [(kI ROOT,.ref la)])→H' la=some (.lst [])→H' na=some (.dT [])→H' ra=some (.dT [])→na≠ra→(∀ b o,H b=some o→b≠p→H' b=some o)→Q .dN H')
def Qo(a:dX):Sp:=fun vs H Q _=>zx_2 (zx68 a vs H Q)
theorem Qp(T:Txt K mg a):bL P w K mg base jk 1 a.dG a.nP nD (Qo a):=by
 refine T.CQ.ok OG (fun vs H Q E h=>?_) (fun cdv A outer s H vs Q E hr h=>?_)
 ·obtain⟨p,dx,rfl,_⟩:=h;rfl
 ·obtain⟨p,dx,rfl,hp,k⟩:=h;refine⟨_,(ah (fK (pv 0) (Lb (eV hr) (lZ (v:=.ref a.fC) rfl T.SR rfl) (bz aj)) rfl)
   (ah (fK (pv 0) wH rfl)
   (ao (fK (pv 0) wH rfl)))),?_⟩
  refine fun ba n1=>⟨le0,fun la n2=>?_⟩;have e1:la≠ba:=fun z=>by subst z;rw[ae] at n2;cases n2
  have e2:p≠ba:=au hp n1;have e3:p≠la:=fun z=>by subst z;rw[ak e2] at n2;rw[hp] at n2;cases n2
  have n2':H la=none:=by rw[ak e1] at n2;exact n2
  refine⟨by rw[ak e1.symm,ae],a.fC,kI ROOT,rfl,.inr T.Lx,_,rfl,p,_,dx,_,rfl,by rw[ak e2,ak e3,ak e2];exact hp,T.bB,T.cO,(by show 0 < 1000;decide),?_⟩;refine fun na n3=>?_;have e4:na≠p:=fun z=>by subst z;rw[ae] at n3;cases n3
  have e5:na≠ba:=fun z=>by subst z;rw[ak e4,ae] at n3;cases n3
  have e6:na≠la:=fun z=>by subst z;rw[ak e4,ak e5,ae] at n3;cases n3
  have n3':H na=none:=by rw[ak e4,ak e5,ak e6,ak e5] at n3;exact n3
  refine⟨_,rfl,p,_,dx,_,rfl,by rw[ak e4.symm,ae],T.bB,T.fg,(by show 1 < 1000;decide),?_⟩;refine fun ra n4=>?_;have e7:ra≠p:=fun z=>by subst z;rw[ae] at n4;cases n4
  have e8:ra≠na:=fun z=>by subst z;rw[ak e7,ae] at n4;cases n4
  have e9:ra≠ba:=fun z=>by subst z;rw[ak e7,ak e8,ak e7,ae] at n4;cases n4
  have e10:ra≠la:=fun z=>by subst z;rw[ak e7,ak e8,ak e7,ak e9,ae] at n4;cases n4
  have n4':H ra=none:=by rw[ak e7,ak e8,ak e7,ak e9,ak e10,ak e9] at n4;exact n4
  refine⟨_,rfl,p,_,dx,_,rfl,by rw[ak e7.symm,ae],T.bB,T.j6,(by show 2 < 1000;decide),?_⟩;refine k _ ba la na ra n1 n2' n3' n4' ae ?_ ?_ ?_ ?_ (fun z=>e8 z.symm) fun b o hb hbp=>?_
  ·rw[ak e2.symm,ak e9.symm,ak e2.symm,ak e5.symm,ak e2.symm,ae]
  ·rw[ak e3.symm,ak e10.symm,ak e3.symm,ak e6.symm,ak e3.symm,ak e1,ae]
  ·rw[ak e4,ak e8.symm,ak e4,ae]
  ·rw[ak e7,ae]
  ·rw[ak hbp,ak (au hb n4'),ak hbp,ak (au hb n3'),ak hbp,ak (au hb n1),ak (au hb n2'),ak (au hb n1)];exact hb
def zx69(K:Fg)(a:dX)(vs:List V)(H:Hp)(Q:VK):=fun(τ:aL) (i:Nat) (q:Addr) (l:List Op) (id:Id)=>(vs=[.ref q]∧SeqAt K a H τ i q l id∧M.Wf l∧l.length≤5000∧∀ H' r cs,aM H H'→H r=none→H' r=some (.lst (cs.map V.ref))→Paired (eL K H τ) cs ((Sa76.seen l id).map Op.id)→Q (.ref r) H')
def Ib(K:Fg)(a:dX):Sp:=fun vs H Q _=>zx_5 (zx69 K a vs H Q)
theorem vh(T:Txt K mg a):bL P w K mg base jk 1 a.b5 a.j3 jY (Ib K a):=by
 refine T.wV.ok jZ (fun vs H Q E h=>?_) (fun cdv A outer s H vs Q E hr h=>?_)
 ·obtain⟨τ,i,q,l,id,rfl,_⟩:=h;rfl
 ·obtain⟨τ,i,q,l,id,rfl,hs,hw,hl,k⟩:=h;refine⟨_,(ah (aP (i:=1) jZ.nd rfl (.inl rfl) (bz aj))
   (ah (aP (i:=2) jZ.nd rfl (.inl rfl) (Ou aag (by rfl) T.agN (by decide +kernel) (af (kK (eV hr) (aA (pv 0) rfl) (lZ (v:=.ref a.fC) rfl T.SR rfl) (fun _ _=>rfl)) aj)))
   (ah (EJ arV (gD (pv 2) (fun _=>rfl)) (ah (aP (i:=3) jZ.nd rfl (.inl rfl) (alP anK PySem.F.slot_list_pop PySem.F.type_list_pop alQ (pv 2)))
   (ah (bQ (Z8 (OA (eV hr) (pv 3) (aA (pv 0) rfl))) (ao (di (rS anK apf apl iK (pv 1) (af (pv 3) aj)))) aZ)
   (ao (di (rS anK asT asU Aj (pv 2) (af (kK (eV hr) (aA (pv 0) rfl) (pv 3) (fun _ _=>rfl)) aj)))))))
   (ao (aJ (pv 1)))))),?_⟩
  obtain⟨dx,ba,na,ra,q0,t1,t2,t3,⟨kb,b1,b2,b3⟩,_,⟨kr,r1,r2,r3⟩⟩:=hs.ex;refine⟨le0,fun p0 n0=>?_⟩;have S0:=aq (o:=HO.lst []) n0;obtain⟨la,cs,c1,c2,c3⟩:=(b3 ROOT).1 (.inl rfl);have fk:∀ H',TupAt K H' a.fC ((kI ROOT).map kV):=fun H'=>.inr T.Lx;have d:=mP.t (S0 _ _ b1) (fk (upd H p0 (.lst [])));rw[c1] at d;refine⟨_,rfl,q,_,dx,_,_,rfl,S0 _ _ q0.1,T.bB,T.cO,rfl,ba,_,rfl,d,la,_,rfl,.inl (cJ.of (S0 _ _ c2.1)),fun p1 n1=>?_⟩;have S1:=aq (o:=HO.lst (cs.map V.ref)) n1;have e01:p0≠p1:=fun z=>by subst z;rw[ae] at n1;cases n1
  have n1':H p1=none:=S0.free n1;have hel:=M.vn hw id;refine⟨fun m σ H'=>∃ (st vis:List Op) (ss ts:List Addr) (v3:Option V),m=(M.un l id st).length∧σ=[some (.ref q),some (.ref p0),some (.ref p1),v3]∧aM H H'∧H' p0=some (.lst (ts.map V.ref))∧H' p1=some (.lst (ss.map V.ref))∧
   Paired (eL K H τ) ss (st.map Op.id)∧Paired (eL K H τ) ts ((vis.filter fun o=>!Sa76.isRemoved l id o.id).map Op.id)∧(∀ p∈st,M.Ih l id ROOT p)∧Sa76.elements l id=vis++M.un l id st,
   ⟨_,(Sa76.children l id ROOT).reverse,[],cs,[],none,rfl,rfl,S0.trans S1,S1 _ _ ae,ae,by rw[List.map_reverse];exact c3,.nil,fun p hp=>M.YH (.inl rfl) (List.mem_reverse.mp hp),by rw[M.alb hw];rfl⟩,?_⟩
  rintro m σ H1 ⟨st,vis,ss,ts,v3,rfl,rfl,S,f0,f1,hss,hts,hst,hev⟩;refine⟨_,rfl,_,.inl ⟨_,cJ.of f1,rfl⟩,?_⟩;have hvl:vis.length+(M.un l id st).length≤5000:=by
   have:=arD List.length hev;rw[ada] at this;omega
  rcases List.eq_nil_or_concat st with rfl|⟨st',e,rfl⟩
  ·cases hss;refine zy ?_;refine⟨_,rfl,?_⟩;refine k H1 p0 ts S n0 f0 ?_;rw[M.ao3,apc] at hev;unfold Sa76.seen;rw[hev];exact hts
  ·rw[List.concat_eq_append] at *;rw[ak9] at hss;obtain⟨ss',c,rfl,hss',hc⟩:=GK hss;have htrue:(!(((ss'++[c]).map V.ref).isEmpty))=true:=by simp
   rw[htrue];refine iO ?_;have hun:=M.anv hw id st' e;have hRe:M.Ih l id ROOT e:=hst e (by simp);have hrem:Sa76.isRemoved l id e.id=(fM kr (kI e.id)).isSome:=(r3 e.id).symm;refine⟨fun σ' H'=>∃ (st2 vis2:List Op) (ss2 ts2:List Addr) (v3:Option V),(M.un l id st2).length < (M.un l id (st'++[e])).length∧σ'=[some (.ref q),some (.ref p0),some (.ref p1),v3]∧aM H H'∧H' p0=some (.lst (ts2.map V.ref))∧H' p1=some (.lst (ss2.map V.ref))∧
    Paired (eL K H τ) ss2 (st2.map Op.id)∧Paired (eL K H τ) ts2 ((vis2.filter fun o=>!Sa76.isRemoved l id o.id).map Op.id)∧(∀ p∈st2,M.Ih l id ROOT p)∧Sa76.elements l id=vis2++M.un l id st2,?_,?_⟩
   ·rintro σ' H' ⟨st2,vis2,ss2,ts2,v3,h1,h2⟩;exact⟨_,h1,st2,vis2,ss2,ts2,v3,rfl,h2⟩
   ·refine⟨_,rfl,.inl ⟨rfl,_,cJ.of f1⟩,p1,_,.ref c,rfl,rfl,f1,by rw[ak9];simp,?_⟩;have ed:((ss'++[c]).map V.ref).dropLast=ss'.map V.ref:=by rw[ak9];simp
    rw[ed];have S2:aM H (upd H1 p1 (.lst (ss'.map V.ref))):=fun b o hb=>by rw[ak (au hb n1')];exact S b o hb
    have g0:upd H1 p1 (.lst (ss'.map V.ref)) p0=some (.lst (ts.map V.ref)):=by rw[ak e01];exact f0
    have g1:upd H1 p1 (.lst (ss'.map V.ref)) p1=some (.lst (ss'.map V.ref)):=ae;generalize upd H1 p1 (.lst (ss'.map V.ref))=H2 at S2 g0 g1;refine⟨_,rfl,_,rfl,q,_,dx,_,_,rfl,S2 _ _ q0.1,T.bB,T.j6,rfl,ra,_,rfl,mP.t (S2 _ _ r1) (aM.tup S2 hc.key),_,rfl,?_⟩;have fin:∀ (H3:Hp) (ts2:List Addr),aM H H3→H3 p0=some (.lst (ts2.map V.ref))→H3 p1=some (.lst (ss'.map V.ref))→Paired (eL K H τ) ts2 (((vis++[e]).filter fun o=>!Sa76.isRemoved l id o.id).map Op.id)→
      ∃ (la':Addr) (cs':List Addr),mP K H3 ba (.ref c) (some (.ref la'))∧H3 la'=some (.lst (cs'.map V.ref))∧ss'.length+cs'.length≤5000∧(∃ (st2 vis2:List Op) (ss2 ts2:List Addr) (v3:Option V),(M.un l id st2).length < (M.un l id (st'++[e])).length∧[some (.ref q),some (.ref p0),some (.ref p1),some (.ref c)]=[some (.ref q),some (.ref p0),some (.ref p1),v3]∧aM H (upd H3 p1 (.lst (ss'.map V.ref++cs'.map V.ref)))∧(upd H3 p1 (.lst (ss'.map V.ref++cs'.map V.ref))) p0=some (.lst (ts2.map V.ref))∧(upd H3 p1 (.lst (ss'.map V.ref++cs'.map V.ref))) p1=some (.lst (ss2.map V.ref))∧
       Paired (eL K H τ) ss2 (st2.map Op.id)∧Paired (eL K H τ) ts2 ((vis2.filter fun o=>!Sa76.isRemoved l id o.id).map Op.id)∧(∀ p∈st2,M.Ih l id ROOT p)∧Sa76.elements l id=vis2++M.un l id st2):=by
     intro H3 ts2 S3 f0 f1 hts2;obtain⟨la',cs',d1,d2,d3⟩:=(b3 e.id).1 (M.agb hRe);have dd:=mP.t (S3 _ _ b1) (aM.tup S3 hc.key);rw[d1] at dd;have hpz:Paired (eL K H τ) (ss'++cs') ((st'++(Sa76.children l id e.id).reverse).map Op.id):=by
      rw[ak9,List.map_reverse];exact KH hss' d3
     have hlen:(ss'++cs').length≤5000:=by
      rw[Paired.length hpz,aah];have h1:=M.ao2 l id (st'++(Sa76.children l id e.id).reverse);have h2:=arD List.length hun;rw[ajk] at h2;omega
     rw[ada] at hlen;refine⟨la',cs',dd,S3 _ _ d2.1,hlen,st'++(Sa76.children l id e.id).reverse,vis++[e],ss'++cs',ts2,_,?_,rfl,?_,?_,?_,hpz,hts2,?_,?_⟩
     ·rw[hun,ajk];exact atf _
     ·exact fun b o hb=>by rw[ak (au hb n1')];exact S3 b o hb
     ·rw[ak e01];exact f0
     ·rw[ae,ak9]
     ·intro p hp;rcases aoF.mp hp with hp|hp
      ·exact hst p (aoI _ hp)
      ·exact M.YH (M.agb hRe) (List.mem_reverse.mp hp)
     ·rw[hev,hun,aoU];rfl
    cases hv:fM kr (kI e.id) with
    |none=>
     rw[hv] at hrem;refine iO ?_;refine⟨_,rfl,.inl ⟨rfl,_,cJ.of g0⟩,_,rfl,p0,_,_,rfl,rfl,g0,G6 (by
      rw[aah,Paired.length hts,aah];have:=aq9 (fun o=>!Sa76.isRemoved l id o.id) vis;omega),?_⟩
     have S3:aM H (upd H2 p0 (.lst (ts.map V.ref++[V.ref c]))):=fun b o hb=>by rw[ak (au hb n0)];exact S2 b o hb
     obtain⟨la',cs',dd,d2,hlen,hfin⟩:=fin (upd H2 p0 (.lst (ts.map V.ref++[V.ref c]))) (ts++[c]) S3 (by rw[ae,ak9];rfl) (by rw[ak e01.symm];exact g1) (by
      rw[ass,ak9];have e1:([e].filter fun o=>!Sa76.isRemoved l id o.id)=[e]:=by simp[hrem]
      rw[e1];exact eA hc hts)
     exact⟨_,rfl,.inl ⟨rfl,_,cJ.of (by rw[ak e01.symm];exact g1)⟩,_,rfl,q,_,dx,_,_,rfl,S3 _ _ q0.1,T.bB,T.cO,rfl,_,rfl,ba,_,rfl,dd,p1,la',_,_,rfl,rfl,by rw[ak e01.symm];exact g1,d2,Rp (by rw[aah,aah];omega),hfin⟩
    |some u=>
     rw[hv] at hrem;refine zy ?_;obtain⟨la',cs',dd,d2,hlen,hfin⟩:=fin H2 ts S2 g0 g1 (by
      rw[ass];have e1:([e].filter fun o=>!Sa76.isRemoved l id o.id)=[]:=by simp[hrem]
      rw[e1,apc];exact hts)
     exact⟨_,rfl,.inl ⟨rfl,_,cJ.of g1⟩,_,rfl,q,_,dx,_,_,rfl,S2 _ _ q0.1,T.bB,T.cO,rfl,_,rfl,ba,_,rfl,dd,p1,la',_,_,rfl,rfl,g1,d2,Rp (by rw[aah,aah];omega),hfin⟩
end
end KB
namespace KB
open PySem PySem.Spec PyProof.Rows L2
open Sa76 (Id Op Val Bytes ROOT)
theorem take_snoc{α:Type}:∀ {l:List α} {i:Nat} {x:α},l[i]?=some x→l.take (i+1)=l.take i++[x]
 |[],i,x,h=>by simp at h
 |b::l,0,x,h=>by
  have e:b=x:=apa h;subst e;rfl
 |b::l,i+1,x,h=>by
  have ih:=take_snoc (l:=l) (i:=i) (x:=x) h;show b::l.take (i+1)=b::l.take i++[x];rw[ih];rfl
theorem kG{α β:Type}{F:α→β→Prop}:∀ {l:List α} {m:List β} {i:Nat} {x:α},Paired F l m→l[i]?=some x→∃ y,m[i]?=some y∧F x y
 |_,_,_,_,.nil,h=>by simp at h
 |_,_,0,_,.cons h _,e=>by simp at e;subst e;exact⟨_,rfl,h⟩
 |_,_,i+1,x,.cons _ t,e=>by
  obtain⟨y,h1,h2⟩:=kG (i:=i) (x:=x) t (by simpa using e);exact⟨y,by simpa using h1,h2⟩
theorem GL{cs:List Addr}{i:Nat}{x:V}(h:(cs.map V.ref)[i]?=some x):∃ c,cs[i]?=some c∧x=.ref c:=by
 rw[ant] at h;cases e:cs[i]? with
 |none=>rw[e] at h;cases h
 |some c=>rw[e] at h;exact⟨c,rfl,(apa h).symm⟩
section
variable{P:Program}{w:World}{K:Fg}{mg:Str→Option Value}{base:Heap}{a:dX}
abbrev sE(K:Fg)(H:Hp)(τ:aL)(tu:Addr)(o:Op):Prop:=ZI K H τ tu o.id (bytesOf o)
def zx70(K:Fg)(a:dX)(vs:List V)(H:Hp)(Q:VK):=fun(τ:aL) (i:Nat) (q:Addr) (l:List Op) (id:Id)=>(vs=[.ref q]∧SeqAt K a H τ i q l id∧M.Wf l∧l.length≤5000∧∀ H' r tus,aM H H'→H r=none→H' r=some (.lst (tus.map V.ref))→Paired (sE K H τ) tus ((Sa76.seen l id).map (Sa76.valueOf l id))→Q (.ref r) H')
def we(K:Fg)(a:dX):Sp:=fun vs H Q _=>zx_5 (zx70 K a vs H Q)
theorem wg(T:Txt K mg a):bL P w K mg base jk 2 a.bg a.fB fz (we K a):=by
 refine T.m8.ok iu (fun vs H Q E h=>?_) (fun cdv A outer s H vs Q E hr h=>?_)
 ·obtain⟨τ,i,q,l,id,rfl,_⟩:=h;rfl
 ·obtain⟨τ,i,q,l,id,rfl,hs,hw,hl,k⟩:=h;refine⟨_,(ao (aJ (adn (own:=[("element",1)]) rfl iu.nd (vo (aT (pv 0) T.bB T.oJ (vh T) (hr.mono (by decide)) T.pV .nil aG)) (Al (by kernel_rfl)) (fun _ _ _ _ _=>(l0 (i:=1) iu.nd rfl (.inl rfl))) (fun _ _ _ _ _=>K8) (fun _ _ _ _ _=>(show PE _ _ (aiG K (apw K (Om 0) "newest") (Om 1)) from(kK (eV hr) (aA (pv 0) rfl) (pv 1) (fun _ _=>rfl))))))),?_⟩;obtain⟨dx,ba,na,ra,q0,t1,t2,t3,_,⟨kn,m1,m2,m3,m4⟩,_⟩:=hs.ex;refine⟨_,rfl,q,dx,_,rfl,q0.1,rfl,τ,i,q,l,id,rfl,hs,hw,hl,fun H1 r cs S1 n1 e1 hp=>⟨r,rfl,⟨_,cJ.of e1⟩,fun D hD=>?_⟩⟩;have hDr:r≠D:=au e1 hD;have hlen:cs.length≤5000:=by
   rw[Paired.length hp,aah];have h1:=M.vn hw id;have h2:(Sa76.seen l id).length≤(Sa76.elements l id).length:=aq9 _ _;omega
  refine SI (K:=K) (a:=r) (xs:=cs.map V.ref) (Pv:=fun j H'=>aM H1 H'∧∃ tus,H' D=some (.lst (tus.map V.ref))∧Paired (sE K H τ) tus (((Sa76.seen l id).map (Sa76.valueOf l id)).take j)) ⟨aq hD,[],ae,by rw[List.take_zero];exact .nil⟩ (fun j H' _ ⟨S,_⟩=>cJ.of (S _ _ e1)) ?_ ?_
  ·rintro j x H' hx ⟨S,tus,f1,f2⟩;obtain⟨c,hc,rfl⟩:=GL hx;obtain⟨y,hy,hcy⟩:=kG hp hc;rw[ant] at hy;obtain⟨p,hpj,rfl⟩:=aqy.mp hy;have S':=S1.trans S;have hR:M.Ih l id ROOT p:=(M.Z4 hw).mp (ao9.mp (aqt hpj)).1;obtain⟨tu,u1,u2⟩:=m3 p hR;have d:=mP.t (S' _ _ m1) (aM.tup S' hcy.key);rw[u1] at d;refine⟨rfl,_,rfl,q,_,dx,_,_,rfl,S' _ _ q0.1,T.bB,T.fg,rfl,_,rfl,na,_,rfl,d,_,f1,G6 ?_,?_,tus++[tu],?_,?_⟩
   ·rw[aah,Paired.length f2,aq8,aah];have:=Paired.length hp;rw[aah] at this;omega
   ·exact fun b o hb=>by rw[ak (au hb hD)];exact S b o hb
   ·rw[ae,ak9];rfl
   ·rw[take_snoc (x:=Sa76.valueOf l id p) (by rw[ant,hpj];rfl)];exact eA (F:=sE K H τ) u2 f2
  ·rintro H' ⟨S,tus,f1,f2⟩;refine k H' D tus (S1.trans S) (S1.free hD) f1 ?_;have e:(cs.map V.ref).length=((Sa76.seen l id).map (Sa76.valueOf l id)).length:=by
    have:=Paired.length hp;rw[aah] at this;rw[aah,aah,this]
   rw[e,atj] at f2;exact f2
end
end KB
namespace KB
open PySem PySem.Spec PyProof.Rows L2
open Sa76 (Id Op Val Bytes ROOT)
def NO:Option Val→V
 |none=>.dN
 |some v=>.int (M.ig v:Nat)
def G7(H:Hp)(ka:Addr)(lk:List Op):Prop:=∃ kvs,H ka=some (.dT kvs)∧kvs.length≤lk.length+1∧∀ j,(fM kvs (kI j)).getD .dN=NO (Sa76.kindOf lk j)
def NP(K:Fg)(H:Hp)(τ:aL)(e:Addr)(l:List Op)(j:Id):Prop:=∃ (ks:List Bytes) (kvs:List (List Key×V)),H e=some (.dT kvs)∧kvs.length≤l.length∧kvs.map (·.1)=ks.map kB∧ks.Nodup∧(∀ k,k∈ks↔(Sa76.entry l j k).isSome=true)∧
 ∀ k o,Sa76.entry l j k=some o→∃ tu,fM kvs (kB k)=some (.ref tu)∧sE K H τ tu o
def xO(K:Fg)(H:Hp)(τ:aL)(i:Nat)(ma:Addr)(lk l:List Op):Prop:=∃ kvs,H ma=some (.dT kvs)∧kvs.length≤lk.length+1∧∀ j,Sa76.kindOf lk j=some .map→∃ e,fM kvs (kI j)=some (.ref e)∧τ e=.own i (.ent j)∧NP K H τ e l j
def z5(K:Fg)(a:dX)(H:Hp)(τ:aL)(i:Nat)(sa:Addr)(lk l:List Op):Prop:=∃ kvs,H sa=some (.dT kvs)∧kvs.length≤lk.length∧∀ j,Sa76.kindOf lk j=some .list→∃ q,fM kvs (kI j)=some (.ref q)∧SeqAt K a H τ i q l j
def CC(H:Hp)(ca:Addr)(lk l:List Op):Prop:=∃ kvs,H ca=some (.dT kvs)∧kvs.length≤lk.length∧∀ j,Sa76.kindOf lk j=some .counter→fM kvs (kI j)=some (.int (M.qB l j))
abbrev aqk(k m s c:V):List (Str×V):=[("kinds",k),("maps",m),("sequences",s),("sums",c)]
structure Bq(K:Fg)(a:dX)(H:Hp)(τ:aL)(i:Nat)(d:Addr)(lk l:List Op):Prop where
 ex:∃ dx ka ma sa ca,(H d=some (.ins a.aI dx (aqk (.ref ka) (.ref ma) (.ref sa) (.ref ca)))∧τ d=.hU)∧τ ka=.own i .kinds∧τ ma=.own i .NB∧τ sa=.own i .KC∧τ ca=.own i .sums∧G7 H ka lk∧xO K H τ i ma lk l∧z5 K a H τ i sa lk l∧CC H ca lk l
abbrev zo(K:Fg)(a:dX)(H:Hp)(τ:aL)(i:Nat)(d:Addr)(l:List Op):Prop:=Bq K a H τ i d l l
def SY:Part→Bool
 |.kinds=>true
 |.NB=>true
 |.KC=>true
 |.sums=>true
 |.ent _=>true
 |.NC _=>true
 |.new _=>true
 |.rem _=>true
 |_=>false
section
variable{P:Tag→Prop}{K:Fg}{a:dX}{H H':Hp}{τ τ':aL}{i:Nat}{l lk:List Op}{o:Op}
theorem NP.keep{e:Addr}{j:Id}(h:NP K H τ e l j)(f:Fr P H τ H' τ')(hP:P .hU)(hb:P (τ e)):NP K H' τ' e l j:=by
 obtain⟨ks,kvs,h1,h2,h3,h4,h5,h6⟩:=h;refine⟨ks,kvs,f.keep _ _ h1 hb,h2,h3,h4,h5,fun k o ho=>?_⟩;obtain⟨tu,q1,q2⟩:=h6 k o ho;exact⟨tu,q1,q2.keep f hP⟩
theorem xO.keep{ma:Addr}(h:xO K H τ i ma lk l)(f:Fr P H τ H' τ')(hP:P .hU)(hb:P (τ ma))(he:∀ j,P (.own i (.ent j))):xO K H' τ' i ma lk l:=by
 obtain⟨kvs,h1,h2,h3⟩:=h;refine⟨kvs,f.keep _ _ h1 hb,h2,fun j hj=>?_⟩;obtain⟨e,q1,q2,q3⟩:=h3 j hj;obtain⟨ks,kv2,r1,_⟩:=id q3;exact⟨e,q1,(f.tag _ _ r1).trans q2,q3.keep f hP (q2▸he j)⟩
theorem z5.keep{sa:Addr}(h:z5 K a H τ i sa lk l)(f:Fr P H τ H' τ')(hP:P .hU)(hb:P (τ sa))(h1:∀ j,P (.own i (.NC j)))(h2:∀ j,P (.own i (.new j)))(h3:∀ j,P (.own i (.rem j))):z5 K a H' τ' i sa lk l:=by
 obtain⟨kvs,q1,q2,q3⟩:=h;refine⟨kvs,f.keep _ _ q1 hb,q2,fun j hj=>?_⟩;obtain⟨q,r1,r2⟩:=q3 j hj;exact⟨q,r1,r2.keep f hP (h1 j) (h2 j) (h3 j)⟩
theorem Bq.keep{d:Addr}(h:Bq K a H τ i d lk l)(f:Fr P H τ H' τ')(hP:P .hU)(hO:∀ p,SY p=true→P (.own i p)):Bq K a H' τ' i d lk l:=by
 obtain⟨dx,ka,ma,sa,ca,q0,q1,q2,q3,q4,q5,q6,q7,q8⟩:=h.ex;have tb:∀ {b:Addr} {kvs:List (List Key×V)} {t:Tag},H b=some (.dT kvs)→τ b=t→τ' b=t:=fun e z=>(f.tag _ _ e).trans z;refine⟨dx,ka,ma,sa,ca,f.im hP q0,?_,?_,?_,?_,?_,q6.keep f hP (q2▸hO _ rfl) (fun j=>hO _ rfl),q7.keep f hP (q3▸hO _ rfl) (fun j=>hO _ rfl) (fun j=>hO _ rfl) (fun j=>hO _ rfl),?_⟩
 ·obtain⟨_,e,_⟩:=q5;exact tb e q1
 ·obtain⟨_,e,_⟩:=q6;exact tb e q2
 ·obtain⟨_,e,_⟩:=q7;exact tb e q3
 ·obtain⟨_,e,_⟩:=q8;exact tb e q4
 ·obtain⟨kvs,e,r⟩:=q5;exact⟨kvs,f.keep _ _ e (q1▸hO _ rfl),r⟩
 ·obtain⟨kvs,e,r⟩:=q8;exact⟨kvs,f.keep _ _ e (q4▸hO _ rfl),r⟩
theorem NP.other{e:Addr}{j:Id}(h:NP K H τ e l j)(ho:∀ k,Sa76.setsOf [o] j k=[]):NP K H τ e (l++[o]) j:=by
 obtain⟨ks,kvs,h1,h2,h3,h4,h5,h6⟩:=h;refine⟨ks,kvs,h1,by rw[ada];omega,h3,h4,fun k=>?_,fun k p hp=>?_⟩
 ·rw[M.j8 (ho k)];exact h5 k
 ·rw[M.j8 (ho k)] at hp;exact h6 k p hp
theorem xO.other{ma:Addr}(h:xO K H τ i ma lk l)(ho:∀ j,Sa76.kindOf lk j=some .map→∀ k,Sa76.setsOf [o] j k=[]):xO K H τ i ma lk (l++[o]):=by
 obtain⟨kvs,h1,h2,h3⟩:=h;refine⟨kvs,h1,h2,fun j hj=>?_⟩;obtain⟨e,q1,q2,q3⟩:=h3 j hj;exact⟨e,q1,q2,q3.other (ho j hj)⟩
theorem z5.other{sa:Addr}(h:z5 K a H τ i sa lk l)(hw:M.Wf (l++[o]))(ho:∀ j,Sa76.kindOf lk j=some .list→(∀ b,M.gv j b o=true→¬ M.El l j b)∧(∀ e,M.ou j e o=false)∧∀ e,¬ (o.obj=j∧o.act=.remove e)):z5 K a H τ i sa lk (l++[o]):=by
 obtain⟨kvs,h1,h2,h3⟩:=h;refine⟨kvs,h1,h2,fun j hj=>?_⟩;obtain⟨q,q1,q2⟩:=h3 j hj;obtain⟨r1,r2,r3⟩:=ho j hj;exact⟨q,q1,q2.other hw r1 r2 r3⟩
theorem CC.other{ca:Addr}(h:CC H ca lk l)(ho:∀ j,Sa76.kindOf lk j=some .counter→¬ (o.obj=j∧∃ d,o.act=.add d)):CC H ca lk (l++[o]):=by
 obtain⟨kvs,h1,h2,h3⟩:=h;refine⟨kvs,h1,h2,fun j hj=>?_⟩;rw[h3 j hj,M.acZ];by_cases e:o.obj=j
 ·rw[afO e];cases hact:o.act with
  |add d=>exact absurd ⟨e,d,hact⟩ (ho j hj)
  |_=>simp
 ·rw[acK e,Int.add_zero]
theorem CD{j:Id}{k:Bytes}(h:∀ v,¬ (o.obj=j∧o.act=.set k v)):Sa76.setsOf [o] j k=[]:=by
 unfold Sa76.setsOf;rw[List.filter_eq_nil_iff];intro p hp z;rw[aoJ.mp hp] at z;rw[anr] at z;cases hact:o.act with
 |set k' v=>
  rw[hact] at z;have e:k'=k:=eq_of_beq z.2;exact h v ⟨eq_of_beq z.1,by rw[hact,e]⟩
 |_=>rw[hact] at z;exact absurd z.2 ak7
end
end KB
namespace KB
open PySem PySem.Spec PyProof.Rows L2
open Sa76 (Id Op Val Bytes ROOT)
section
variable{P:Program}{w:World}{K:Fg}{mg:Str→Option Value}{base:Heap}{a:dX}
def zx71(K:Fg)(a:dX)(vs:List V)(H:Hp)(Q:VK):=fun(τ:aL) (i:Nat) (d ta:Addr) (lk l:List Op) (j:Id)=>(vs=[.ref d,.ref ta]∧Bq K a H τ i d lk l∧TupAt K H ta (iI j)∧Q (NO (Sa76.kindOf lk j)) H)
def Ic(K:Fg)(a:dX):Sp:=fun vs H Q _=>zx_7 (zx71 K a vs H Q)
theorem cU(T:Txt K mg a):bL P w K mg base jk 1 a.b7 a.j4 j1 (Ic K a):=by
 refine T.wW.ok G8 (fun vs H Q E h=>?_) (fun cdv A outer s H vs Q E hr h=>?_)
 ·obtain⟨τ,i,d,ta,lk,l,j,rfl,_⟩:=h;rfl
 ·obtain⟨τ,i,d,ta,lk,l,j,rfl,hd,ht,k⟩:=h;refine⟨_,(ao (aJ (al0 (eV hr) (aA (pv 0) rfl) (pv 1) ⟨rfl,rfl,rfl,rfl⟩))),?_⟩;obtain⟨dx,ka,ma,sa,ca,q0,q1,q2,q3,q4,⟨kk,k1,k2,k3⟩,q6,q7,q8⟩:=hd.ex;refine⟨_,rfl,d,_,dx,_,_,rfl,q0.1,T.aS,T.mH,rfl,ka,rfl,.inr ⟨kk,.inl k1⟩,_,rfl,_,mP.t (k:=kI j) k1 ht,?_⟩;rw[k3 j];exact k
def zx72(K:Fg)(a:dX)(vs:List V)(H:Hp)(Q:VK):=fun(τ:aL) (i:Nat) (d ta:Addr) (l:List Op) (j:Id)=>(vs=[.ref d,.ref ta]∧zo K a H τ i d l∧TupAt K H ta (iI j)∧Sa76.kindOf l j=some .list∧M.Wf l∧l.length≤5000∧∀ H' r cs,aM H H'→H r=none→H' r=some (.lst (cs.map V.ref))→Paired (eL K H τ) cs ((Sa76.seen l j).map Op.id)→Q (.ref r) H')
def Ie(K:Fg)(a:dX):Sp:=fun vs H Q _=>zx_6 (zx72 K a vs H Q)
theorem vj(T:Txt K mg a):bL P w K mg base jk 2 a.b8 a.j5 j2 (Ie K a):=by
 refine T.wX.ok G9 (fun vs H Q E h=>?_) (fun cdv A outer s H vs Q E hr h=>?_)
 ·obtain⟨τ,i,d,ta,l,j,rfl,_⟩:=h;rfl
 ·obtain⟨τ,i,d,ta,l,j,rfl,hd,ht,hk,hw,hl,k⟩:=h;refine⟨_,(ao (aJ (aT (kK (eV hr) (aA (pv 0) rfl) (pv 1) (fun _ _=>rfl)) T.bB T.oJ (vh T) (hr.mono (by decide)) T.pV .nil aG))),?_⟩;obtain⟨dx,ka,ma,sa,ca,q0,q1,q2,q3,q4,_,q6,⟨ks,s1,s2,s3⟩,q8⟩:=hd.ex;obtain⟨q,u1,u2⟩:=s3 j hk;obtain⟨dq,ba,na,ra,r0,_⟩:=u2.ex;have dg:=mP.t (k:=kI j) s1 ht;rw[u1] at dg;exact⟨_,rfl,d,_,dx,_,_,rfl,q0.1,T.aS,T.eE,rfl,_,rfl,sa,_,rfl,dg,q,dq,_,rfl,r0.1,rfl,τ,i,q,l,j,rfl,u2,hw,hl,k⟩
def zx73(K:Fg)(a:dX)(vs:List V)(H:Hp)(Q:VK):=fun(τ:aL) (i:Nat) (d ta:Addr) (l:List Op) (j:Id)=>(vs=[.ref d,.ref ta]∧zo K a H τ i d l∧TupAt K H ta (iI j)∧Sa76.kindOf l j=some .list∧M.Wf l∧l.length≤5000∧∀ H' r tus,aM H H'→H r=none→H' r=some (.lst (tus.map V.ref))→Paired (sE K H τ) tus ((Sa76.seen l j).map (Sa76.valueOf l j))→Q (.ref r) H')
def z6(K:Fg)(a:dX):Sp:=fun vs H Q _=>zx_6 (zx73 K a vs H Q)
theorem z7(T:Txt K mg a):bL P w K mg base jk 3 a.bw a.gB gx (z6 K a):=by
 refine T.qi.ok zz (fun vs H Q E h=>?_) (fun cdv A outer s H vs Q E hr h=>?_)
 ·obtain⟨τ,i,d,ta,l,j,rfl,_⟩:=h;rfl
 ·obtain⟨τ,i,d,ta,l,j,rfl,hd,ht,hk,hw,hl,k⟩:=h;refine⟨_,(ao (aJ (aT (kK (eV hr) (aA (pv 0) rfl) (pv 1) (fun _ _=>rfl)) T.bB T.mG (wg T) (hr.mono (by decide)) T.m9 .nil aG))),?_⟩;obtain⟨dx,ka,ma,sa,ca,q0,q1,q2,q3,q4,_,q6,⟨ks,s1,s2,s3⟩,q8⟩:=hd.ex;obtain⟨q,u1,u2⟩:=s3 j hk;obtain⟨dq,ba,na,ra,r0,_⟩:=u2.ex;have dg:=mP.t (k:=kI j) s1 ht;rw[u1] at dg;exact⟨_,rfl,d,_,dx,_,_,rfl,q0.1,T.aS,T.eE,rfl,_,rfl,sa,_,rfl,dg,q,dq,_,rfl,r0.1,rfl,τ,i,q,l,j,rfl,u2,hw,hl,k⟩
def zx74(K:Fg)(a:dX)(vs:List V)(H:Hp)(Q:VK):=fun(τ:aL) (i:Nat) (d ta:Addr) (l:List Op) (j:Id)=>(vs=[.ref d,.ref ta]∧zo K a H τ i d l∧TupAt K H ta (iI j)∧Sa76.kindOf l j=some .counter∧∀ m,m=Sa76.total l j→Q (.int m) H)
def KI(K:Fg)(a:dX):Sp:=fun vs H Q _=>zx_6 (zx74 K a vs H Q)
theorem KJ(T:Txt K mg a):bL P w K mg base jk 2 a.cC a.lA kQ (KI K a):=by
 refine T.yP.ok Jo (fun vs H Q E h=>?_) (fun cdv A outer s H vs Q E hr h=>?_)
 ·obtain⟨τ,i,d,ta,l,j,rfl,_⟩:=h;rfl
 ·obtain⟨τ,i,d,ta,l,j,rfl,hd,ht,hk,k⟩:=h;refine⟨_,(ao (aJ (aR (CB T) (hr.mono (by decide)) rfl T.yO T.ug.kp T.yN .nil aG (af (kK (eV hr) (aA (pv 0) rfl) (pv 1) (fun _ _=>rfl)) aj)))),?_⟩;obtain⟨dx,ka,ma,sa,ca,q0,q1,q2,q3,q4,_,q6,_,⟨ks,s1,s2,s3⟩⟩:=hd.ex;have dg:=mP.t (k:=kI j) s1 ht;rw[s3 j hk] at dg;exact⟨_,rfl,d,_,dx,_,_,rfl,q0.1,T.aS,T.kj,rfl,_,rfl,ca,_,rfl,dg,_,rfl,fun m hm=>k m (hm.trans (M.ajr l j).symm)⟩
def zx75(a:dX)(vs:List V)(H:Hp)(Q:VK):=fun(p dx:Addr)=>(vs=[.ref p]∧H p=some (.ins a.aI dx [])∧∀ H' ka ma ea sa ca,H ka=none→H ma=none→H ea=none→H sa=none→H ca=none→ka≠ma→ea≠ka→ea≠ma→sa≠ka→sa≠ma→sa≠ea→ca≠ka→ca≠ma→ca≠ea→ca≠sa→H' p=some (.ins a.aI dx (aqk (.ref ka) (.ref ma) (.ref sa) (.ref ca)))→H' ka=some (.dT [(kI ROOT,.int 3)])→H' ma=some (.dT [(kI ROOT,.ref ea)])→H' ea=some (.dT [])→H' sa=some (.dT [])→H' ca=some (.dT [])→(∀ b o,H b=some o→b≠p→H' b=some o)→Q .dN H')
def Qq(a:dX):Sp:=fun vs H Q _=>zx_2 (zx75 a vs H Q)
theorem Qs(T:Txt K mg a):bL P w K mg base jk 1 a.dH a.nQ nE (Qq a):=by
 refine T.CT.ok OH (fun vs H Q E h=>?_) (fun cdv A outer s H vs Q E hr h=>?_)
 ·obtain⟨p,dx,rfl,_⟩:=h;rfl
 ·obtain⟨p,dx,rfl,hp,k⟩:=h;refine⟨_,(ah (fK (pv 0) (Lb (eV hr) (lZ (v:=.ref a.kh) rfl T.UG rfl) (gI T.UI)) rfl)
   (ah (fK (pv 0) (Lb (eV hr) (lZ (v:=.ref a.kh) rfl T.UG rfl) wH) rfl)
   (ah (fK (pv 0) wH rfl)
   (ao (fK (pv 0) wH rfl))))),?_⟩
  refine fun ka n1=>?_;have e1:ka≠p:=(au hp n1).symm;refine⟨ae,a.kh,kI ROOT,rfl,.inr T.Lw,_,rfl,p,_,dx,_,rfl,by rw[ak e1.symm,ak e1.symm];exact hp,T.aS,T.mH,(by show 0 < 1000;decide),?_⟩;rw[fJ];have S1:∀ b o,H b=some o→b≠p→(upd (upd H ka (.dT [(kI ROOT,.int 3)])) p (.ins a.aI dx [("kinds",.ref ka)])) b=some o:=fun b o hb hbp=>by
   rw[ak hbp,ak (au hb n1)];exact hb
  have f1:(upd (upd H ka (.dT [(kI ROOT,.int 3)])) p (.ins a.aI dx [("kinds",.ref ka)])) p=some (.ins a.aI dx [("kinds",.ref ka)]):=ae;have f2:(upd (upd H ka (.dT [(kI ROOT,.int 3)])) p (.ins a.aI dx [("kinds",.ref ka)])) ka=some (.dT [(kI ROOT,.int 3)]):=by rw[ak e1,ae]
  have dm:∀ b,(upd (upd H ka (.dT [(kI ROOT,.int 3)])) p (.ins a.aI dx [("kinds",.ref ka)])) b=none→H b=none:=fun b hb=>by
   by_cases z:b=p
   ·subst z;rw[ae] at hb;cases hb
   ·rw[ak z] at hb;by_cases y:b=ka
    ·subst y;exact n1
    ·rw[ak y] at hb;exact hb
  show aab _ _ _ _ (upd (upd H ka (.dT [(kI ROOT,.int 3)])) p (.ins a.aI dx [("kinds",.ref ka)]));generalize upd (upd H ka (.dT [(kI ROOT,.int 3)])) p (.ins a.aI dx [("kinds",.ref ka)])=H1 at S1 f1 f2 dm;refine fun ma n2=>?_;have e2:p≠ma:=au f1 n2;have e3:ka≠ma:=au f2 n2;refine fun ea n3=>?_;have e4:ma≠ea:=fun z=>by subst z;rw[ae] at n3;cases n3
  have n3':H1 ea=none:=by rw[ak e4.symm] at n3;exact n3
  have e5:p≠ea:=au f1 n3';have e6:ka≠ea:=au f2 n3';refine⟨by rw[ak e4,ae],a.kh,kI ROOT,rfl,.inr T.Lw,_,rfl,p,_,dx,_,rfl,by rw[ak e2,ak e5,ak e2];exact f1,T.aS,T.ki,(by show 1 < 1000;decide),?_⟩;refine fun sa n4=>?_;have e7:sa≠p:=fun z=>by subst z;rw[ae] at n4;cases n4
  have e8:sa≠ma:=fun z=>by subst z;rw[ak e7,ae] at n4;cases n4
  have e9:sa≠ea:=fun z=>by subst z;rw[ak e7,ak e8,ae] at n4;cases n4
  have n4':H1 sa=none:=by rw[ak e7,ak e8,ak e9,ak e8] at n4;exact n4
  have e10:ka≠sa:=au f2 n4';refine⟨_,rfl,p,_,dx,_,rfl,by rw[ak e7.symm,ae],T.aS,T.eE,(by show 2 < 1000;decide),?_⟩;refine fun ca n5=>?_;have e11:ca≠p:=fun z=>by subst z;rw[ae] at n5;cases n5
  have e12:ca≠sa:=fun z=>by subst z;rw[ak e11,ae] at n5;cases n5
  have e13:ca≠ma:=fun z=>by subst z;rw[ak e11,ak e12,ak e11,ae] at n5;cases n5
  have e14:ca≠ea:=fun z=>by subst z;rw[ak e11,ak e12,ak e11,ak e13,ae] at n5;cases n5
  have n5':H1 ca=none:=by rw[ak e11,ak e12,ak e11,ak e13,ak e14,ak e13] at n5;exact n5
  have e15:ka≠ca:=au f2 n5';refine⟨_,rfl,p,_,dx,_,rfl,by rw[ak e11.symm,ae],T.aS,T.kj,(by show 3 < 1000;decide),?_⟩;refine k _ ka ma ea sa ca n1 (dm _ n2) (dm _ n3') (dm _ n4') (dm _ n5') e3 e6.symm e4.symm e10.symm e8 e9 e15.symm e13 e14 e12 ae ?_ ?_ ?_ ?_ ?_ fun b o hb hbp=>?_
  ·rw[ak e1,ak e15,ak e1,ak e10,ak e1,ak e3,ak e6,ak e3];exact f2
  ·rw[ak e2.symm,ak e13.symm,ak e2.symm,ak e8.symm,ak e2.symm,ae]
  ·rw[ak e5.symm,ak e14.symm,ak e5.symm,ak e9.symm,ak e5.symm,ak e4.symm,ae]
  ·rw[ak e7,ak e12.symm,ak e7,ae]
  ·rw[ak e11,ae]
  ·have hb1:=S1 b o hb hbp;rw[ak hbp,ak (au hb1 n5'),ak hbp,ak (au hb1 n4'),ak hbp,ak (au hb1 n2),ak (au hb1 n3'),ak (au hb1 n2)];exact hb1
end
end KB
namespace KB
open PySem PySem.Spec PyProof.Rows L2
open Sa76 (Id Op Val Bytes ROOT)
abbrev W7(i:Nat):Tag→Prop:=fun t=>∀ p,SY p=true→t≠.own i p
theorem W8(i:Nat):W7 i .hU:=fun _ _ z=>nomatch z
theorem NQ{i:Nat}{p:Part}(h:SY p=true):∀ t,W7 i t→t≠.own i p:=fun _ z=>z p h
section
variable{K:Fg}{a:dX}{H:Hp}{τ:aL}{i:Nat}{l lk lk':List Op}{o:Op}
theorem xO.more{ma:Addr}(h:xO K H τ i ma lk l)(hk:∀ j,Sa76.kindOf lk' j=some .map→Sa76.kindOf lk j=some .map)(hl:lk.length≤lk'.length):xO K H τ i ma lk' l:=by
 obtain⟨kvs,h1,h2,h3⟩:=h;exact⟨kvs,h1,by omega,fun j hj=>h3 j (hk j hj)⟩
theorem z5.more{sa:Addr}(h:z5 K a H τ i sa lk l)(hk:∀ j,Sa76.kindOf lk' j=some .list→Sa76.kindOf lk j=some .list)(hl:lk.length≤lk'.length):z5 K a H τ i sa lk' l:=by
 obtain⟨kvs,h1,h2,h3⟩:=h;exact⟨kvs,h1,by omega,fun j hj=>h3 j (hk j hj)⟩
theorem CC.more{ca:Addr}(h:CC H ca lk l)(hk:∀ j,Sa76.kindOf lk' j=some .counter→Sa76.kindOf lk j=some .counter)(hl:lk.length≤lk'.length):CC H ca lk' l:=by
 obtain⟨kvs,h1,h2,h3⟩:=h;exact⟨kvs,h1,by omega,fun j hj=>h3 j (hk j hj)⟩
theorem G7.more{ka:Addr}(h:G7 H ka lk)(hk:∀ j,Sa76.kindOf lk' j=Sa76.kindOf lk j)(hl:lk.length≤lk'.length):G7 H ka lk':=by
 obtain⟨kvs,h1,h2,h3⟩:=h;exact⟨kvs,h1,by omega,fun j=>by rw[hk j];exact h3 j⟩
theorem Bq.more{d:Addr}(h:Bq K a H τ i d lk l)(hk:∀ j,Sa76.kindOf lk' j=Sa76.kindOf lk j)(hl:lk.length≤lk'.length):Bq K a H τ i d lk' l:=by
 obtain⟨dx,ka,ma,sa,ca,q0,q1,q2,q3,q4,q5,q6,q7,q8⟩:=h.ex;exact⟨dx,ka,ma,sa,ca,q0,q1,q2,q3,q4,q5.more hk hl,q6.more (fun j z=>by rw[← hk j];exact z) hl,q7.more (fun j z=>by rw[← hk j];exact z) hl,q8.more (fun j z=>by rw[← hk j];exact z) hl⟩
theorem am9(hw:M.Wf (l++[o])):Sa76.kindOf l o.id=none:=by
 cases e:Sa76.kindOf l o.id with
 |none=>rfl
 |some v=>
  rcases M.ir e with z|z
  ·exact absurd z (hw.zq o (by simp))
  ·exact absurd z hw.inv.2.2.1
theorem ZJ{e:Addr}{j:Id}(he:H e=some (.dT []))(hn:∀ p∈l,p.obj≠j):NP K H τ e l j:=
 ⟨[],[],he,aqu _,rfl,asQ,fun k=>⟨(fun z=>nomatch z),fun z=>by rw[M.TH hn] at z;cases z⟩,fun k p hp=>by rw[M.TH hn] at hp;cases hp⟩
theorem akV{q dx ba la na ra:Addr}{j:Id}(hq:H q=some (.ins a.aU dx (sqF (.ref ba) (.ref na) (.ref ra)))∧τ q=.hU)(t1:τ ba=.own i (.NC j))(t2:τ na=.own i (.new j))(t3:τ ra=.own i (.rem j))
  (hb:H ba=some (.dT [(kI ROOT,.ref la)])) (hla:H la=some (.lst [])∧τ la=.hU) (hn:H na=some (.dT [])) (hr:H ra=some (.dT [])) (hno:∀ p∈l,p.obj≠j):SeqAt K a H τ i q l j:=by
 refine⟨dx,ba,na,ra,hq,t1,t2,t3,⟨_,hb,by show 1≤_;omega,fun e=>?_⟩,⟨_,hn,aqu _,fun p hp=>absurd hp (M.alr hno),fun e _=>rfl⟩,⟨_,hr,aqu _,fun e=>by rw[M.TF hno];rfl⟩⟩;rw[M.anC hno];refine⟨fun he=>⟨la,[],?_,hla,?_⟩,fun he=>?_⟩
 ·subst he;rw[gE rfl]
 ·rw[M.Xs hno];exact .nil
 ·rw[iq (fun z=>he (oR z).symm)];rfl
end
section
variable{P:Program}{w:World}{K:Fg}{mg:Str→Option Value}{base:Heap}{a:dX}
def zx76(K:Fg)(a:dX)(vs:List V)(H:Hp)(Q:VK):=fun(τ:aL) (i:Nat) (d p:Addr) (l:List Op) (o:Op)=>(vs=[.ref d,.ref p]∧Tg H τ∧zo K a H τ i d l∧lN K a H τ p o∧M.Wf (l++[o])∧l.length≤5000∧∀ H' τ',Bq K a H' τ' i d (l++[o]) l→Fr (W7 i) H τ H' τ'→Q .dN H')
def z8(K:Fg)(a:dX):Sp:=fun vs H Q _=>zx_6 (zx76 K a vs H Q)
theorem z9(T:Txt K mg a):bL P w K mg base jk 3 a.bx a.gC gy (z8 K a):=by
 refine T.qo.ok jO (fun vs H Q E h=>?_) (fun cdv A outer s H vs Q E hr h=>?_)
 ·obtain⟨τ,i,d,p,l,o,rfl,_⟩:=h;rfl
 ·obtain⟨τ,i,d,p,l,o,rfl,g,hd,hact,hw,hl,k⟩:=h;refine⟨_,(ah (aP (i:=2) jO.nd rfl (.inl rfl) (aA (aA (pv 1) rfl) rfl))
   (ah (bQ (PW.pt (yi (aY T3 (pv 2) jL (bf _)) (uE (lP (gD (aR (zm T) (hr.mono (by decide)) rfl T.sV T.oh.kp T.sU .nil aG (af (c9 bS (pv 2) aW (fun _ _=>rfl)) aj)) (fun _=>rfl)))))) (ao SE) aZ)
   (ah (aP (i:=3) jO.nd rfl (.inl rfl) (aT (pv 1) T.bG T.gc (ic T) (hr.mono (by decide)) T.gF .nil aG))
   (ah (o9 (eV hr) (aA (pv 0) rfl) (pv 3) (c9 bS (pv 2) aW (fun _ _=>rfl)) rfl)
   (ao (bQ (aY jr (c9 bS (pv 2) aW (fun _ _=>rfl)) (gI T.UI) (bf _)) (ao (o9 (eV hr) (aA (pv 0) rfl) (pv 3) wH rfl)) (ao (bQ (aY jr (c9 bS (pv 2) aW (fun _ _=>rfl)) (gI T.OR) (bf _)) (ao (o9 (eV hr) (aA (pv 0) rfl) (pv 3) (ade T.QM (Qp T) (hr.mono (by decide)) rfl T.Ur T.CS .nil aG) rfl)) (ao (o9 (eV hr) (aA (pv 0) rfl) (pv 3) aW rfl)))))))))),?_⟩
  obtain⟨pdx,c,hp,hch⟩:=hact.ex;obtain⟨cdx,ta,key,el,vv,hc,hta,_,_,hv⟩:=hch.ex;have hl1:(l++[o]).length=l.length+1:=by rw[ada];rfl
  have hks:=M.acQ hw;have hkn:=am9 hw;have hno:∀ x∈l,x.obj≠o.id:=fun x hx=>M.af4 hw (aoI _ hx);refine⟨_,rfl,p,_,pdx,_,_,rfl,hp.1,T.bG,T.bq,rfl,c,_,cdx,_,_,rfl,hc.1,T.aN,T.dM,rfl,?_⟩;refine⟨_,rfl,rfl,_,rfl,?_⟩;have same:M.Bx o=none→Bq K a H τ i d (l++[o]) l:=fun hb=>hd.more (fun j=>by
   rw[hks j];by_cases e:j=o.id
   ·rw[afO e,hb,e,hkn]
   ·rw[acK e]) (by omega)
  cases hvo:vOf o.act with
  |none=>
   rw[hvo] at hv;refine rO hv (iO ?_);exact k H τ (same (by unfold M.Bx;rw[tH,hvo];rfl)) (Fr.refl g)
  |some v=>
   rw[hvo] at hv;obtain⟨va,rfl,hv⟩:=hv;refine mQ (fun z=>nomatch z) ?_;obtain⟨r,hr⟩:=M.BG v;have hat:(iB v.bytes)[0]?=some (.int (M.ig v:Nat)):=by rw[hr];rfl
   refine⟨_,rfl,va,_,_,_,rfl,rfl,cJ.of hv.1,at_of (j:=0) rfl hat,M.ig v,rfl,_,rfl,?_⟩;have hbr:M.Bx o=if Sa76.isObject v=true then some v else none:=by unfold M.Bx;rw[tH,hvo];rfl
   rw[M.EC] at hbr;by_cases hob:3≤M.ig v∧M.ig v≤5
   ·refine CA hob ?_;rw[afO (arC hob)] at hbr;refine⟨_,rfl,p,pdx,_,rfl,hp.1,rfl,p,pdx,_,_,_,_,rfl,hp.1,fun ia n1=>?_⟩;have S1:=aq (o:=HO.tup [V.int (o.t:Int),V.int (o.r:Int)]) n1;have e1:eL K (upd H ia (.tup [.int (o.t:Int),.int (o.r:Int)])) τ ia o.id:=.inl ⟨ae,g ia n1⟩;have g1:=aM.tg S1 g;generalize upd H ia (.tup [.int (o.t:Int),.int (o.r:Int)])=H1 at S1 e1 g1;have hd1:zo K a H1 τ i d l:=hd.keep (P:=fun _=>True) (Fr.same S1 g) trivial fun _ _=>trivial;obtain⟨dx,ka,ma,sa,ca,q0,q1,q2,q3,q4,⟨kk,k1,k2,k3⟩,qm,qs,qc⟩:=hd1.ex;have F01:Fr (W7 i) H τ H1 τ:=Fr.same S1 g;refine⟨_,rfl,va,_,_,_,rfl,rfl,cJ.of (S1 _ _ hv.1),at_of (j:=0) rfl hat,_,rfl,d,_,dx,_,_,rfl,q0.1,T.aS,T.mH,rfl,_,rfl,ka,_,rfl,BK.t k1 e1.key (G6 (by omega)),?_⟩;have F2:Fr (fun t=>t≠.own i .kinds) H1 τ (upd H1 ka (.dT (putK kk (kI o.id) (.int (M.ig v:Nat))))) τ:=Fr.upd k1 (by rw[q1];exact fun z=>z rfl) g1;have ek:(upd H1 ka (.dT (putK kk (kI o.id) (.int (M.ig v:Nat))))) ka=some (.dT (putK kk (kI o.id) (.int (M.ig v:Nat)))):=ae;generalize upd H1 ka (.dT (putK kk (kI o.id) (.int (M.ig v:Nat))))=H2 at F2 ek;have i2:(Tag.hU:Tag)≠.own i .kinds:=fun z=>nomatch z;have ho2:∀ {x:Part},x≠.kinds→(Tag.own i x:Tag)≠.own i .kinds:=fun h z=>h (by injection z);have p0:=F2.im i2 q0;have e2:=e1.keep F2 i2;have hv2:=F2.im i2 ⟨S1 _ _ hv.1,hv.2⟩;have pm:=qm.keep F2 i2 (by rw[q2];exact fun z=>nomatch z) (fun j=>fun z=>nomatch z);have ps:=qs.keep F2 i2 (by rw[q3];exact fun z=>nomatch z) (fun j=>fun z=>nomatch z) (fun j=>fun z=>nomatch z) (fun j=>fun z=>nomatch z);have pc:CC H2 ca l l:=by
     obtain⟨kvs,z1,z2⟩:=qc;exact⟨kvs,F2.keep _ _ z1 (by rw[q4];exact fun z=>nomatch z),z2⟩
    have pk:G7 H2 ka (l++[o]):=⟨_,ek,by have:=fh kk (kI o.id) (.int (M.ig v:Nat));omega,fun j=>by
     rw[hks j];by_cases e:j=o.id
     ·subst e;rw[jq,afO rfl,hbr];rfl
     ·rw[mO (fun z=>e (oR z)),acK e];exact k3 j⟩
    have F02:Fr (W7 i) H τ H2 τ:=F01.trans (F2.mono (NQ rfl));have old:∀ {j:Id} {u:Val},u≠v→Sa76.kindOf (l++[o]) j=some u→Sa76.kindOf l j=some u:=fun{j u} hne hj=>by
     rw[hks j] at hj;by_cases e:j=o.id
     ·rw[afO e,hbr] at hj;cases hj;exact absurd rfl hne
     ·rw[acK e] at hj;exact hj
    clear F2 F01 qm qs qc k1 k3;refine⟨_,rfl,va,_,_,_,rfl,rfl,cJ.of hv2.1,at_of (j:=0) rfl hat,rfl,_,rfl,?_⟩;cases v with
    |nothing=>exact absurd hob.1 (by decide)
    |int z=>exact absurd hob.1 (by show ¬ 3≤1;decide)
    |text z=>exact absurd hob.1 (by show ¬ 3≤2;decide)
    |map=>
     refine rO rfl ?_;refine fun ea n3=>?_;have S3:=aq (o:=HO.dT []) n3;have F3:Fr (W7 i) H2 τ (upd H2 ea (.dT [])) (bh τ ea (.own i (.ent o.id))):=Fr.GF S3 n3 ae F02.tg;have F3':Fr (fun _=>True) H2 τ (upd H2 ea (.dT [])) (bh τ ea (.own i (.ent o.id))):=Fr.GF S3 n3 ae F02.tg;have ee:(upd H2 ea (.dT [])) ea=some (.dT []):=ae;have te:bh τ ea (.own i (.ent o.id)) ea=.own i (.ent o.id):=cg;have tk:=fun(b:Addr) (x:HO) (hb:H2 b=some x)=>F3'.tag b x hb;obtain⟨km,m1,m2,m3⟩:=pm;obtain⟨ks,s1,s2⟩:=id ps;obtain⟨kc,c1,c2⟩:=id pc;have tm:=(tk ma _ m1).trans q2;have ts:=(tk sa _ s1).trans q3;have tc:=(tk ca _ c1).trans q4;have tka:=(tk ka _ ek).trans q1;have m1':=S3 _ _ m1;have p0':=F3'.im trivial p0;have ps':=ps.keep F3' trivial trivial (fun _=>trivial) (fun _=>trivial) (fun _=>trivial);generalize bh τ ea (.own i (.ent o.id))=τ3 at *;refine⟨_,rfl,d,_,dx,_,_,rfl,p0'.1,T.aS,T.ki,rfl,_,rfl,ma,_,rfl,BK.t m1' (e2.keep F3' trivial).key (G6 (by omega)),?_⟩;have F4:Fr (fun t=>t≠.own i .NB) (upd H2 ea (.dT [])) τ3 (upd (upd H2 ea (.dT [])) ma (.dT (putK km (kI o.id) (.ref ea)))) τ3:=Fr.upd m1' (by rw[tm];exact fun z=>z rfl) F3.tg;have i4:(Tag.hU:Tag)≠.own i .NB:=fun z=>nomatch z;refine k _ τ3 ⟨dx,ka,ma,sa,ca,F4.im i4 p0',tka,tm,ts,tc,?_,⟨_,ae,?_,fun j hj=>?_⟩,(ps'.keep F4 i4 (by rw[ts];exact fun z=>nomatch z) (fun j=>fun z=>nomatch z) (fun j=>fun z=>nomatch z) (fun j=>fun z=>nomatch z)).more (fun j hj=>old (fun z=>nomatch z) hj) (by omega),?_⟩ ((F02.trans F3).trans (F4.mono (NQ rfl)))
     ·obtain⟨kvs,z1,z2⟩:=pk;exact⟨kvs,F4.keep _ _ (S3 _ _ z1) (by rw[tka];exact fun z=>nomatch z),z2⟩
     ·have:=fh km (kI o.id) (.ref ea);omega
     ·by_cases e:j=o.id
      ·subst e;refine⟨ea,jq,te,ZJ (F4.keep _ _ ee (by rw[te];exact fun z=>nomatch z)) hno⟩
      ·rw[mO (fun z=>e (oR z))];obtain⟨x,x1,x2,x3⟩:=m3 j (by rw[hks j,acK e] at hj;exact hj);obtain⟨kx,kvx,y1,_⟩:=id x3;have x3':=x3.keep F3' trivial trivial;have tx:=(tk x _ y1).trans x2;exact⟨x,x1,tx,x3'.keep F4 i4 (by rw[tx];exact fun z=>nomatch z)⟩
     ·obtain⟨kvs,z1,z2,z3⟩:=pc;exact⟨kvs,F4.keep _ _ (S3 _ _ z1) (by rw[tc];exact fun z=>nomatch z),by omega,fun j hj=>z3 j (old (fun z=>nomatch z) hj)⟩
    |list=>
     refine mQ (by intro z;injection z with z;cases z) ?_;refine⟨_,rfl,va,_,_,_,rfl,rfl,cJ.of hv2.1,at_of (j:=0) rfl hat,rfl,_,rfl,?_⟩;refine rO rfl ?_;refine fun x xd nx nxd nex=>⟨x,xd,rfl,ae,fun H3 ba la na ra u1 u2 u3 u4 f0 f1 f2 f3 f4 fne fk=>⟨rfl,?_⟩⟩;have S3:aM H2 H3:=aM.made nx nxd fk;have nb:H2 ba=none:=(oq (o:=.ins a.aU xd []) (o':=.own x) nx nxd).free u1;have nn:H2 na=none:=(oq (o:=.ins a.aU xd []) (o':=.own x) nx nxd).free u3;have nr:H2 ra=none:=(oq (o:=.ins a.aU xd []) (o':=.own x) nx nxd).free u4;have nla:H2 la=none:=(oq (o:=.ins a.aU xd []) (o':=.own x) nx nxd).free u2;have dbn:na≠ba:=fun z=>by rw[z,f1] at f3;cases f3
     have dbr:ra≠ba:=fun z=>by rw[z,f1] at f4;cases f4
     have dlb:la≠ba:=fun z=>by rw[z,f1] at f2;cases f2
     have dln:la≠na:=fun z=>by rw[z,f3] at f2;cases f2
     have dlr:la≠ra:=fun z=>by rw[z,f4] at f2;cases f2
     have dxb:x≠ba:=fun z=>by rw[z,f1] at f0;cases f0
     have dxn:x≠na:=fun z=>by rw[z,f3] at f0;cases f0
     have dxr:x≠ra:=fun z=>by rw[z,f4] at f0;cases f0
     have F3:Fr (fun _=>True) H2 τ H3 (bh (bh (bh τ ba (.own i (.NC o.id))) na (.own i (.new o.id))) ra (.own i (.rem o.id))):=by
      refine⟨fun b y hb _=>S3 b y hb,fun b y hb=>?_,fun b y hb=>⟨y,S3 b y hb⟩,fun b hb=>?_⟩
      ·rw[aX (au hb nr),aX (au hb nn),aX (au hb nb)]
      ·rw[aX (fun z=>by rw[z,f4] at hb;cases hb),aX (fun z=>by rw[z,f3] at hb;cases hb),aX (fun z=>by rw[z,f1] at hb;cases hb)];exact F02.tg b (S3.free hb)
     have tb:(bh (bh (bh τ ba (.own i (.NC o.id))) na (.own i (.new o.id))) ra (.own i (.rem o.id))) ba=.own i (.NC o.id):=by rw[aX dbr.symm,aX dbn.symm,cg]
     have tn:(bh (bh (bh τ ba (.own i (.NC o.id))) na (.own i (.new o.id))) ra (.own i (.rem o.id))) na=.own i (.new o.id):=by rw[aX fne,cg]
     have tr:(bh (bh (bh τ ba (.own i (.NC o.id))) na (.own i (.new o.id))) ra (.own i (.rem o.id))) ra=.own i (.rem o.id):=cg;have tl:(bh (bh (bh τ ba (.own i (.NC o.id))) na (.own i (.new o.id))) ra (.own i (.rem o.id))) la=.hU:=by rw[aX dlr,aX dln,aX dlb];exact F02.tg la nla
     have tx:(bh (bh (bh τ ba (.own i (.NC o.id))) na (.own i (.new o.id))) ra (.own i (.rem o.id))) x=.hU:=by rw[aX dxr,aX dxn,aX dxb];exact F02.tg x nx
     generalize bh (bh (bh τ ba (.own i (.NC o.id))) na (.own i (.new o.id))) ra (.own i (.rem o.id))=τ3 at *;have tk:=fun(b:Addr) (y:HO) (hb:H2 b=some y)=>F3.tag b y hb;obtain⟨km,m1,m2⟩:=id pm;obtain⟨ks,s1,s2,s3⟩:=ps;obtain⟨kc,c1,c2⟩:=id pc;have tm:=(tk ma _ m1).trans q2;have ts:=(tk sa _ s1).trans q3;have tc:=(tk ca _ c1).trans q4;have tka:=(tk ka _ ek).trans q1;have s1':=S3 _ _ s1;have p0':=F3.im trivial p0;have pm':=pm.keep F3 trivial trivial (fun _=>trivial);refine⟨_,rfl,d,_,dx,_,_,rfl,p0'.1,T.aS,T.eE,rfl,_,rfl,sa,_,rfl,BK.t s1' (e2.keep F3 trivial).key (G6 (by omega)),?_⟩;have F4:Fr (fun t=>t≠.own i .KC) H3 τ3 (upd H3 sa (.dT (putK ks (kI o.id) (.ref x)))) τ3:=Fr.upd s1' (by rw[ts];exact fun z=>z rfl) F3.tg;have i4:(Tag.hU:Tag)≠.own i .KC:=fun z=>nomatch z;refine k _ τ3 ⟨dx,ka,ma,sa,ca,F4.im i4 p0',tka,tm,ts,tc,?_,(pm'.keep F4 i4 (by rw[tm];exact fun z=>nomatch z) (fun j=>fun z=>nomatch z)).more (fun j hj=>old (fun z=>nomatch z) hj) (by omega),⟨_,ae,?_,fun j hj=>?_⟩,?_⟩ ((F02.trans (F3.mono fun _ _=>trivial)).trans (F4.mono (NQ rfl)))
     ·obtain⟨kvs,z1,z2⟩:=pk;exact⟨kvs,F4.keep _ _ (S3 _ _ z1) (by rw[tka];exact fun z=>nomatch z),z2⟩
     ·have:=fh ks (kI o.id) (.ref x);omega
     ·by_cases e:j=o.id
      ·subst e;have kp:∀ {b:Addr} {y:HO} {u:Part},H3 b=some y→τ3 b=.own i u→u≠.KC→(upd H3 sa (.dT (putK ks (kI o.id) (.ref x)))) b=some y:=fun hb hu hne=>F4.keep _ _ hb (by rw[hu];exact fun z=>hne (by injection z));exact⟨x,jq,akV (F4.im i4 ⟨f0,tx⟩) tb tn tr (kp f1 tb (fun z=>nomatch z)) (F4.im i4 ⟨f2,tl⟩) (kp f3 tn (fun z=>nomatch z)) (kp f4 tr (fun z=>nomatch z)) hno⟩
      ·rw[mO (fun z=>e (oR z))];obtain⟨y,y1,y2⟩:=s3 j (by rw[hks j,acK e] at hj;exact hj);exact⟨y,y1,(y2.keep F3 trivial trivial trivial trivial).keep F4 i4 (fun z=>nomatch z) (fun z=>nomatch z) (fun z=>nomatch z)⟩
     ·obtain⟨kvs,z1,z2,z3⟩:=pc;exact⟨kvs,F4.keep _ _ (S3 _ _ z1) (by rw[tc];exact fun z=>nomatch z),by omega,fun j hj=>z3 j (old (fun z=>nomatch z) hj)⟩
    |counter=>
     refine mQ (by intro z;injection z with z;cases z) ?_;refine⟨_,rfl,va,_,_,_,rfl,rfl,cJ.of hv2.1,at_of (j:=0) rfl hat,rfl,_,rfl,?_⟩;refine mQ (by intro z;injection z with z;cases z) ?_;obtain⟨km,m1,m2⟩:=id pm;obtain⟨ks,s1,s2⟩:=id ps;obtain⟨kc,c1,c2,c3⟩:=pc;refine⟨_,rfl,d,_,dx,_,_,rfl,p0.1,T.aS,T.kj,rfl,_,rfl,ca,_,rfl,BK.t c1 e2.key (G6 (by omega)),?_⟩;have F4:Fr (fun t=>t≠.own i .sums) H2 τ (upd H2 ca (.dT (putK kc (kI o.id) (.int 0)))) τ:=Fr.upd c1 (by rw[q4];exact fun z=>z rfl) F02.tg;have i4:(Tag.hU:Tag)≠.own i .sums:=fun z=>nomatch z;refine k _ τ ⟨dx,ka,ma,sa,ca,F4.im i4 p0,q1,q2,q3,q4,?_,(pm.keep F4 i4 (by rw[q2];exact fun z=>nomatch z) (fun j=>fun z=>nomatch z)).more (fun j hj=>old (fun z=>nomatch z) hj) (by omega),(ps.keep F4 i4 (by rw[q3];exact fun z=>nomatch z) (fun j=>fun z=>nomatch z) (fun j=>fun z=>nomatch z) (fun j=>fun z=>nomatch z)).more (fun j hj=>old (fun z=>nomatch z) hj) (by omega),⟨_,ae,?_,fun j hj=>?_⟩⟩ (F02.trans (F4.mono (NQ rfl)))
     ·obtain⟨kvs,z1,z2⟩:=pk;exact⟨kvs,F4.keep _ _ z1 (by rw[q1];exact fun z=>nomatch z),z2⟩
     ·have:=fh kc (kI o.id) (.int 0);omega
     ·by_cases e:j=o.id
      ·subst e;rw[jq,M.alo hno]
      ·rw[mO (fun z=>e (oR z))];exact c3 j (by rw[hks j,acK e] at hj;exact hj)
   ·refine Cz hob ?_;rw[acK (by rw[asE];exact hob)] at hbr;exact k H τ (same hbr) (Fr.refl g)
end
end KB
namespace KB
open PySem PySem.Spec PyProof.Rows L2
open Sa76 (Id Op Val Bytes ROOT)
theorem tJ(o:Option Val)(n:Int):apu (NO o) (.int n)=true:=by cases o <;> rfl
theorem S9{o:Option Val}{v:Val}(h:NO o=.int (M.ig v:Nat))(hv:∀ u,o=some u→Sa76.isObject u=true)(hov:Sa76.isObject v=true):o=some v:=by
 cases o with
 |none=>cases h
 |some u=>
  have h:V.int (M.ig u:Nat)=V.int (M.ig v:Nat):=h;injection h with h;have h:M.ig u=M.ig v:=by omega
  have hu:=hv u rfl;cases u <;> cases v <;> first|rfl|exact absurd hu ak7|exact absurd hov ak7|exact absurd h (by decide)
theorem akW{κ:Type}[DecidableEq κ](kvs:List (κ×V))(k:κ)(v:V):(putK kvs k v).map (·.1)=if (fM kvs k).isSome=true then kvs.map (·.1) else kvs.map (·.1)++[k]:=by
 unfold putK;rw[qD];by_cases h:(fM kvs k).isSome=true
 ·rw[afO h,afO h,ao8];apply aqh;intro p _;show(if p.1=k then(p.1,v) else p).1=p.1;split <;> rfl
 ·rw[acK h,acK h,ak9];rfl
section
variable{K:Fg}{a:dX}{H H':Hp}{τ:aL}{i:Nat}{l lk:List Op}{o:Op}
theorem Bq.NR{d:Addr}(h:Bq K a H τ i d lk l)(hw:M.Wf (l++[o]))(h1:∀ k v,o.act=.set k v→Sa76.kindOf lk o.obj≠some .map)(h2:∀ x,o.act=.add x→Sa76.kindOf lk o.obj≠some .counter)
  (h3:Sa76.kindOf lk o.obj=some .list→(∃ k v,o.act=.set k v)∨∃ x,o.act=.add x):Bq K a H τ i d lk (l++[o]):=by
 obtain⟨dx,ka,ma,sa,ca,q0,q1,q2,q3,q4,q5,q6,q7,q8⟩:=h.ex;refine⟨dx,ka,ma,sa,ca,q0,q1,q2,q3,q4,q5,q6.other fun j hj k=>CD fun v ⟨z1,z2⟩=>h1 k v z2 (z1▸hj),q7.other hw fun j hj=>?_,q8.other fun j hj ⟨z1,x,z2⟩=>h2 x z2 (z1▸hj)⟩;have hz:∀ {x},o.obj=j→x=o.act→(∃ k v,x=Sa76.Act.set k v)∨∃ y,x=Sa76.Act.add y:=fun z1 z2=>by rw[z2];exact h3 (z1▸hj)
 refine⟨fun b hb=>?_,fun e=>?_,fun e ⟨z1,z2⟩=>?_⟩
 ·have z1:=M.wk hb;rcases hz z1 rfl with⟨k,v,z⟩|⟨y,z⟩
  ·unfold M.gv at hb;rw[z] at hb;rw[arz] at hb;cases hb
  ·unfold M.gv at hb;rw[z] at hb;rw[arz] at hb;cases hb
 ·cases hb:M.ou j e o with
  |false=>rfl
  |true=>
   unfold M.ou at hb;rw[anr] at hb;rcases hz (eq_of_beq hb.1) rfl with⟨k,v,z⟩|⟨y,z⟩
   ·rw[z] at hb;exact absurd hb.2 ak7
   ·rw[z] at hb;exact absurd hb.2 ak7
 ·rcases hz z1 z2.symm with⟨k,v,z⟩|⟨y,z⟩ <;> cases z
end
section
variable{P:Program}{w:World}{K:Fg}{mg:Str→Option Value}{base:Heap}{a:dX}
abbrev ack(K:Fg)(a:dX)(H:Hp)(τ:aL)(i:Nat)(d p:Addr)(l:List Op)(o:Op):Prop:=Tg H τ∧Bq K a H τ i d (l++[o]) l∧lN K a H τ p o∧M.Wf (l++[o])∧M.oS o∧l.length≤5000
abbrev Tc(K:Fg)(a:dX)(H:Hp)(τ:aL)(i:Nat)(d:Addr)(l:List Op)(o:Op)(Q:VK):Prop:=∀ H',zo K a H' τ i d (l++[o])→Fr (W7 i) H τ H' τ→Q .dN H'
def zx77(K:Fg)(a:dX)(vs:List V)(H:Hp)(Q:VK):=fun(τ:aL) (i:Nat) (d p:Addr) (l:List Op) (o:Op) (x:Int)=>(vs=[.ref d,.ref p]∧ack K a H τ i d p l o∧o.act=.add x∧Tc K a H τ i d l o Q)
def xP(K:Fg)(a:dX):Sp:=fun vs H Q _=>zx_7 (zx77 K a vs H Q)
theorem xQ(T:Txt K mg a):bL P w K mg base jk 2 a.bj a.fW fS (xP K a):=by
 refine T.oz.ok wL (fun vs H Q E h=>?_) (fun cdv A outer s H vs Q E hr h=>?_)
 ·obtain⟨τ,i,d,p,l,o,x,rfl,_⟩:=h;rfl
 ·obtain⟨τ,i,d,p,l,o,x,rfl,⟨g,hd,hact,hw,cI,hl⟩,hx,k⟩:=h;refine⟨_,(ao (bQ (aY jr (dP (pv 0) T.aS T.cu (cU T) (hr.mono (by decide)) T.cQ .nil aG (af (aA (aA (pv 1) rfl) rfl) aj)) (gI T.Az) (bf _)) (ao (an0 (eV hr) (aA (pv 0) rfl) (aA (aA (pv 1) rfl) rfl) (aA (aA (pv 1) rfl) rfl) alM (fun _ _ _=>rfl))) aZ)),?_⟩;obtain⟨pdx,c,hp,hch⟩:=hact.ex;obtain⟨cdx,ta,key,el,vv,hc,hta,_,_,_⟩:=hch.ex;have hl1:(l++[o]).length=l.length+1:=by rw[ada];rfl
  obtain⟨dx,ka,ma,sa,ca,q0,q1,q2,q3,q4,q5,q6,q7,⟨kc,c1,c2,c3⟩⟩:=id hd.ex;refine⟨_,rfl,d,dx,_,rfl,q0.1,rfl,_,rfl,p,_,pdx,_,_,rfl,hp.1,T.bG,T.bq,rfl,c,_,cdx,_,_,rfl,hc.1,T.aN,T.cB,rfl,τ,i,d,ta,l++[o],l,o.obj,rfl,hd,hta.tup,tJ _ _,_,rfl,?_⟩;by_cases hk:Sa76.kindOf (l++[o]) o.obj=some .counter
  ·refine rO (by rw[hk];rfl) ?_;have dg:=mP.t (k:=kI o.obj) c1 hta.tup;rw[c3 _ hk] at dg;have am:am5 o.act=x:=by rw[hx];rfl
   refine⟨_,rfl,d,_,dx,_,_,rfl,q0.1,T.aS,T.kj,rfl,_,rfl,p,_,pdx,_,_,rfl,hp.1,T.bG,T.bq,rfl,c,_,cdx,_,_,rfl,hc.1,T.aN,T.cB,rfl,ca,_,rfl,dg,_,rfl,p,_,pdx,_,_,rfl,hp.1,T.bG,T.bq,rfl,c,_,cdx,_,_,rfl,hc.1,T.aN,T.nX,rfl,_,_,rfl,rfl,_,BK.t (k:=kI o.obj) c1 hta.tup (G6 (by omega)),?_⟩;rw[am];have F4:Fr (fun t=>t≠.own i .sums) H τ (upd H ca (.dT (putK kc (kI o.obj) (.int (M.qB l o.obj+x))))) τ:=Fr.upd c1 (by rw[q4];exact fun z=>z rfl) g;have i4:(Tag.hU:Tag)≠.own i .sums:=fun z=>nomatch z;refine k _ ⟨dx,ka,ma,sa,ca,F4.im i4 q0,q1,q2,q3,q4,?_,(q6.other fun j hj kk=>CD fun v ⟨z1,z2⟩=>by rw[hx] at z2;cases z2).keep F4 i4 (by rw[q2];exact fun z=>nomatch z) (fun j=>fun z=>nomatch z),(q7.other hw fun j hj=>⟨fun b hb=>?_,fun e=>?_,fun e ⟨_,z2⟩=>by rw[hx] at z2;cases z2⟩).keep F4 i4 (by rw[q3];exact fun z=>nomatch z) (fun j=>fun z=>nomatch z) (fun j=>fun z=>nomatch z) (fun j=>fun z=>nomatch z),⟨_,ae,?_,fun j hj=>?_⟩⟩ (F4.mono (NQ rfl))
   ·obtain⟨kvs,z1,z2⟩:=q5;exact⟨kvs,F4.keep _ _ z1 (by rw[q1];exact fun z=>nomatch z),z2⟩
   ·unfold M.gv at hb;rw[hx,arz] at hb;cases hb
   ·unfold M.ou;rw[hx];exact arz _
   ·have h2:(putK kc (kI o.obj) (.int (M.qB l o.obj+x))).length=kc.length:=by
     unfold putK;rw[afO (by rw[qD,c3 _ hk];rfl),aah]
    omega
   ·rw[M.acZ,hx];by_cases e:j=o.obj
    ·subst e;rw[jq,afO rfl]
    ·rw[mO (fun z=>e (oR z)),acK (fun z=>e z.symm),Int.add_zero];exact c3 j hj
  ·refine mQ (fun z=>hk (S9 (v:=.counter) z (fun u hu=>M.pK hu) rfl)) ?_;exact k H (hd.NR hw (fun kk v z=>by rw[hx] at z;cases z) (fun y _=>hk) fun _=>.inr ⟨x,hx⟩) (Fr.refl g)
def zx78(K:Fg)(a:dX)(vs:List V)(H:Hp)(Q:VK):=fun(τ:aL) (i:Nat) (d p:Addr) (l:List Op) (o:Op) (kb:Bytes) (vv:Val)=>(vs=[.ref d,.ref p]∧ack K a H τ i d p l o∧o.act=.set kb vv∧Tc K a H τ i d l o Q)
def CF(K:Fg)(a:dX):Sp:=fun vs H Q _=>zx_8 (zx78 K a vs H Q)
theorem CG(T:Txt K mg a):bL P w K mg base jk 2 a.bI a.iC iw (CF K a):=by
 refine T.rW.ok kR (fun vs H Q E h=>?_) (fun cdv A outer s H vs Q E hr h=>?_)
 ·obtain⟨τ,i,d,p,l,o,kb,vv,rfl,_⟩:=h;rfl
 ·obtain⟨τ,i,d,p,l,o,kb,vv,rfl,⟨g,hd,hact,hw,cI,hl⟩,hx,k⟩:=h;refine⟨_,(ah (bQ (aY K5 (dP (pv 0) T.aS T.cu (cU T) (hr.mono (by decide)) T.cQ .nil aG (af (aA (aA (pv 1) rfl) rfl) aj)) (gI T.UI) (bf _)) (ao SE) aZ)
   (ah (aP (i:=2) kR.nd rfl (.inl rfl) (kK (eV hr) (aA (pv 0) rfl) (aA (aA (pv 1) rfl) rfl) (fun _ _=>rfl)))
   (ah (aP (i:=3) kR.nd rfl (.inl rfl) (Ou Xy (by rfl) T.aat (by decide +kernel) (af (aA (aA (pv 1) rfl) rfl) aj)))
   (ao (bQ (PW.pt (yi (Z8 (OA (eV hr) (pv 3) (pv 2))) (uE (aY (al7 (eV hr)) (aT (pv 1) T.bG T.gc (ic T) (hr.mono (by decide)) T.gF .nil aG) (c9 wG (kK (eV hr) (pv 2) (pv 3) (fun _ _=>rfl)) aW (fun _ _=>rfl)) (bf _))))) (ao (o9 (eV hr) (pv 2) (pv 3) (BJ (af (aT (pv 1) T.bG T.gc (ic T) (hr.mono (by decide)) T.gF .nil aG) (af (aA (aA (pv 1) rfl) rfl) aj))) rfl)) aZ))))),?_⟩
  obtain⟨pdx,c,hp,hch⟩:=hact.ex;obtain⟨cdx,ta,key,el,vx,hc,hta,hkey,_,hval⟩:=hch.ex;have hl1:(l++[o]).length=l.length+1:=by rw[ada];rfl
  obtain⟨dx,ka,ma,sa,ca,q0,q1,q2,q3,q4,q5,⟨km,m1,m2,m3⟩,q7,q8⟩:=id hd.ex;refine⟨_,rfl,d,dx,_,rfl,q0.1,rfl,_,rfl,p,_,pdx,_,_,rfl,hp.1,T.bG,T.bq,rfl,c,_,cdx,_,_,rfl,hc.1,T.aN,T.cB,rfl,τ,i,d,ta,l++[o],l,o.obj,rfl,hd,hta.tup,tJ _ _,_,rfl,?_⟩;by_cases hk:Sa76.kindOf (l++[o]) o.obj=some .map
  ·refine CA (by rw[hk];rfl) ?_;obtain⟨e,me1,me2,hmap⟩:=m3 _ hk;obtain⟨ks,kvs,e1,e2,e3,e4,e5,e6⟩:=id hmap;have dg:=mP.t (k:=kI o.obj) m1 hta.tup;rw[me1] at dg;have ek:keyOf o.act=some kb:=by rw[hx];rfl
   have ev:vOf o.act=some vv:=by rw[hx];rfl
   rw[ek] at hkey;rw[ev] at hval;obtain⟨kA,rfl,hkA⟩:=hkey;obtain⟨vA,rfl,hvA⟩:=hval;refine⟨_,rfl,d,_,dx,_,_,rfl,q0.1,T.aS,T.ki,rfl,_,rfl,p,_,pdx,_,_,rfl,hp.1,T.bG,T.bq,rfl,c,_,cdx,_,_,rfl,hc.1,T.aN,T.cB,rfl,ma,_,rfl,dg,?_⟩;refine⟨_,rfl,p,_,pdx,_,_,rfl,hp.1,T.bG,T.bq,rfl,c,_,cdx,_,_,rfl,hc.1,T.aN,T.oU,rfl,kA,_,rfl,.inl ⟨cJ.of hkA.1,fun t1 n1=>?_⟩⟩;have S1:=aq (o:=HO.tup (iB kb)) n1;have hT1:TupAt K (upd H t1 (.tup (iB kb))) t1 ((kB kb).map kV):=by rw[am4];exact .inl ae
   generalize upd H t1 (.tup (iB kb))=H1 at S1 hT1;refine⟨_,rfl,_,rfl,e,_,rfl,mP.t (S1 _ _ e1) hT1,_,rfl,?_⟩;have fin:∀ (H4:Hp) (ib tu:Addr),aM H H4→H4 tu=some (.tup [.ref ib,.ref vA])→H tu=none→H4 ib=some (.tup (iI o.id))→H ib=none→Sa76.entry (l++[o]) o.obj kb=some o→(kvs.length < sizeLine)∧Q .dN (upd H4 e (.dT (putK kvs (kB kb) (.ref tu)))):=by
    intro H4 ib tu S4 f1 f1n f2 f2n hen;refine⟨G6 (by omega),?_⟩;have F4:Fr (fun t=>t≠.own i (.ent o.obj)) H τ (upd H4 e (.dT (putK kvs (kB kb) (.ref tu)))) τ:=(Fr.same S4 g).trans (Fr.upd (S4 _ _ e1) (by rw[me2];exact fun z=>z rfl) (aM.tg S4 g));have G4:Fr (fun t=>t≠.own i (.ent o.obj)) H4 τ (upd H4 e (.dT (putK kvs (kB kb) (.ref tu)))) τ:=Fr.upd (S4 _ _ e1) (by rw[me2];exact fun z=>z rfl) (aM.tg S4 g);have i4:(Tag.hU:Tag)≠.own i (.ent o.obj):=fun z=>nomatch z;have nin:∀ j,o.obj≠j→∀ kk,Sa76.setsOf [o] j kk=[]:=fun j hj kk=>CD fun v ⟨z1,_⟩=>hj z1;refine k _ ⟨dx,ka,ma,sa,ca,F4.im i4 q0,q1,q2,q3,q4,?_,⟨km,F4.keep _ _ m1 (by rw[q2];exact fun z=>nomatch z),m2,fun j hj=>?_⟩,(q7.other hw fun j hj=>⟨fun b hb=>?_,fun x=>?_,fun x ⟨_,z2⟩=>by rw[hx] at z2;cases z2⟩).keep F4 i4 (by rw[q3];exact fun z=>nomatch z) (fun j=>fun z=>nomatch z) (fun j=>fun z=>nomatch z) (fun j=>fun z=>nomatch z),?_⟩ (F4.mono fun t z=>z (.ent o.obj) rfl)
    ·obtain⟨kz,z1,z2⟩:=q5;exact⟨kz,F4.keep _ _ z1 (by rw[q1];exact fun z=>nomatch z),z2⟩
    ·by_cases hj0:j=o.obj
     ·subst hj0;refine⟨e,me1,me2,if (fM kvs (kB kb)).isSome=true then ks else ks++[kb],_,ae,?_,?_,?_,fun kk=>?_,fun kk x hxx=>?_⟩
      ·have:=fh kvs (kB kb) (.ref tu);omega
      ·rw[akW,e3];by_cases hz:(fM kvs (kB kb)).isSome=true
       ·rw[afO hz,afO hz]
       ·rw[acK hz,acK hz,ak9];rfl
      ·by_cases hz:(fM kvs (kB kb)).isSome=true
       ·rw[afO hz];exact e4
       ·rw[acK hz];refine aiJ e4 fun hm=>?_;obtain⟨y,hy⟩:=aqv.mp ((e5 kb).mp hm);obtain⟨tu',h1,_⟩:=e6 kb y hy;rw[h1] at hz;exact hz rfl
      ·by_cases hkk:kk=kb
       ·subst hkk;rw[hen];refine⟨fun _=>rfl,fun _=>?_⟩;by_cases hz:(fM kvs (kB kk)).isSome=true
        ·rw[afO hz];have:kB kk∈kvs.map (·.1):=by
          obtain⟨y,hy⟩:=aqv.mp hz;exact aiI hy
         rw[e3] at this;obtain⟨k2,h1,h2⟩:=aou.mp this;rw[← acf h2];exact h1
        ·rw[acK hz];exact aqP _ ajM
       ·rw[M.j8 (CD fun v ⟨_,z2⟩=>by rw[hx] at z2;injection z2 with z2;exact hkk z2.symm),← e5 kk];by_cases hz:(fM kvs (kB kb)).isSome=true
        ·rw[afO hz]
        ·rw[acK hz,aoF];exact⟨fun z=>z.elim (fun z=>z) fun z=>absurd (aoJ.mp z) hkk,.inl⟩
      ·by_cases hkk:kk=kb
       ·subst hkk;rw[hen] at hxx;cases hxx;refine⟨tu,jq,ib,vA,G4.im i4 ⟨f1,g tu f1n⟩,(show eL K H4 τ ib o.id from .inl ⟨f2,g ib f2n⟩).keep G4 i4,?_⟩;have eb:bytesOf o=vv.bytes:=by unfold bytesOf;rw[tH,hx];rfl
        rw[eb];exact hvA.keep F4 i4
       ·rw[M.j8 (CD fun v ⟨_,z2⟩=>by rw[hx] at z2;injection z2 with z2;exact hkk z2.symm)] at hxx;obtain⟨tu',h1,h2⟩:=e6 kk x hxx;exact⟨tu',by rw[mO (fun z=>hkk (acf z))];exact h1,h2.keep F4 i4⟩
     ·obtain⟨e',h1,h2,h3⟩:=m3 j hj;exact⟨e',h1,h2,(h3.other (nin j fun z=>hj0 z.symm)).keep F4 i4 (by rw[h2];exact fun z=>hj0 (by injection z with _ z;injection z))⟩
    ·unfold M.gv at hb;rw[hx,arz] at hb;cases hb
    ·unfold M.ou;rw[hx];exact arz _
    ·obtain⟨kz,z1,z2,z3⟩:=q8.other (o:=o) fun j hj ⟨_,y,z2⟩=>by rw[hx] at z2;cases z2
     exact⟨kz,F4.keep _ _ z1 (by rw[q4];exact fun z=>nomatch z),z2,z3⟩
   have hes:=M.Tn (l:=l) (o:=o) (obj:=o.obj) (k:=kb) rfl hx;have row:∀ H2,aM H H2→TupAt K H2 t1 ((kB kb).map kV)→Sa76.entry (l++[o]) o.obj kb=some o→∀ (ib:Addr),H2 ib=none→∀ tu,(upd H2 ib (.tup [.int (o.t:Int),.int (o.r:Int)])) tu=none→
     BK K (upd (upd H2 ib (.tup [.int (o.t:Int),.int (o.r:Int)])) tu (.tup [.ref ib,.ref vA])) e (.ref t1) (.ref tu) (upd (upd (upd H2 ib (.tup [.int (o.t:Int),.int (o.r:Int)])) tu (.tup [.ref ib,.ref vA])) e (.dT (putK kvs (kB kb) (.ref tu))))∧Q .dN (upd (upd (upd H2 ib (.tup [.int (o.t:Int),.int (o.r:Int)])) tu (.tup [.ref ib,.ref vA])) e (.dT (putK kvs (kB kb) (.ref tu)))):=by
    intro H2 S2 hT hen ib nib tu ntu;have S3:=aq (o:=HO.tup [V.int (o.t:Int),V.int (o.r:Int)]) nib;have S4:=aq (o:=HO.tup [V.ref ib,V.ref vA]) ntu;have S24:=(S2.trans S3).trans S4;obtain⟨r1,r2⟩:=fin _ ib tu S24 ae ((S2.trans S3).free ntu) (S4 _ _ ae) (S2.free nib) hen;exact⟨BK.t (S24 _ _ e1) (aM.tup (S3.trans S4) hT) r1,r2⟩
   cases hv:fM kvs (kB kb) with
   |none=>
    refine iO (iO ?_);have hen:Sa76.entry (l++[o]) o.obj kb=some o:=by
     cases hz:Sa76.entry l o.obj kb with
     |none=>rw[hes,hz]
     |some y=>
      obtain⟨tu',h1,_⟩:=e6 kb y hz;rw[hv] at h1;cases h1
    refine⟨_,rfl,p,pdx,_,rfl,S1 _ _ hp.1,rfl,p,pdx,_,_,_,_,rfl,S1 _ _ hp.1,fun ib nib=>?_⟩;have S3:=S1.trans (aq (o:=HO.tup [V.int (o.t:Int),V.int (o.r:Int)]) nib);refine⟨_,rfl,p,_,pdx,_,_,rfl,S3 _ _ hp.1,T.bG,T.bq,rfl,c,_,cdx,_,_,rfl,S3 _ _ hc.1,T.aN,T.dM,rfl,le2,fun tu ntu=>?_⟩;obtain⟨r1,r2⟩:=row H1 S1 hT1 hen ib nib tu ntu;exact⟨_,rfl,_,rfl,e,_,rfl,r1,r2⟩
   |some u=>
    refine zy ?_;have hin:∃ y,Sa76.entry l o.obj kb=some y:=by
     have h1:=aiI hv;rw[e3] at h1;obtain⟨k2,h2,h3⟩:=aou.mp h1;rw[acf h3] at h2;exact aqv.mp ((e5 kb).mp h2)
    obtain⟨y,hy⟩:=hin;obtain⟨tu0,h1,ja,wa,u1,u2,u3⟩:=e6 kb y hy;rw[hv] at h1;cases h1;refine⟨_,rfl,p,pdx,_,rfl,S1 _ _ hp.1,rfl,p,pdx,_,_,_,_,rfl,S1 _ _ hp.1,fun ia nia=>?_⟩;have S2':=aq (o:=HO.tup [V.int (o.t:Int),V.int (o.r:Int)]) nia;have S2:=S1.trans S2';have hT2:=aM.tup S2' hT1;have eia:(upd H1 ia (.tup [.int (o.t:Int),.int (o.r:Int)])) ia=some (.tup (iI o.id)):=ae;generalize upd H1 ia (.tup [.int (o.t:Int),.int (o.r:Int)])=H2 at S2 hT2 eia;have dg2:=mP.t (S2 _ _ e1) hT2;rw[hv] at dg2;refine⟨_,rfl,_,rfl,e,_,rfl,dg2,tu0,_,_,_,rfl,rfl,Io.of (S2 _ _ u1.1),at_of (j:=0) rfl rfl,ia,ja,[(o.id.1:Int),(o.id.2:Int)],[(y.id.1:Int),(y.id.2:Int)],rfl,rfl,.inl eia,aM.tup S2 u2.tup,_,rfl,?_⟩;rw[WY];cases hlt:Sa76.less y.id o.id with
    |true=>
     refine iO ?_;have hen:Sa76.entry (l++[o]) o.obj kb=some o:=by
      rw[hes,hy];show(if Sa76.less y.id o.id=true then some o else some y)=some o;rw[afO hlt]
     refine⟨_,rfl,p,pdx,_,rfl,S2 _ _ hp.1,rfl,p,pdx,_,_,_,_,rfl,S2 _ _ hp.1,fun ib nib=>?_⟩;have S3:=S2.trans (aq (o:=HO.tup [V.int (o.t:Int),V.int (o.r:Int)]) nib);refine⟨_,rfl,p,_,pdx,_,_,rfl,S3 _ _ hp.1,T.bG,T.bq,rfl,c,_,cdx,_,_,rfl,S3 _ _ hc.1,T.aN,T.dM,rfl,le2,fun tu ntu=>?_⟩;obtain⟨r1,r2⟩:=row H2 S2 hT2 hen ib nib tu ntu;exact⟨_,rfl,_,rfl,e,_,rfl,r1,r2⟩
    |false=>
     refine zy ?_;have hen:Sa76.entry (l++[o]) o.obj kb=some y:=by
      rw[hes,hy];show(if Sa76.less y.id o.id=true then some o else some y)=some y;rw[hlt];rfl
     have F2:Fr (W7 i) H τ H2 τ:=Fr.same S2 g;refine k H2 ?_ F2;have F2':Fr (fun _=>True) H τ H2 τ:=Fr.same S2 g;have hd2:Bq K a H2 τ i d (l++[o]) l:=hd.keep F2' trivial fun _ _=>trivial;obtain⟨dx,ka,ma,sa,ca,q0,q1,q2,q3,q4,q5,⟨km,m1,m2,m3⟩,q7,q8⟩:=hd2.ex;refine⟨dx,ka,ma,sa,ca,q0,q1,q2,q3,q4,q5,⟨km,m1,m2,fun j hj=>?_⟩,q7.other hw fun j hj=>⟨fun b hb=>?_,fun x=>?_,fun x ⟨_,z2⟩=>by rw[hx] at z2;cases z2⟩,q8.other fun j hj ⟨_,y,z2⟩=>by rw[hx] at z2;cases z2⟩
     ·obtain⟨e',h1,h2,h3⟩:=m3 j hj;refine⟨e',h1,h2,?_⟩;have esame:∀ kk,Sa76.entry (l++[o]) j kk=Sa76.entry l j kk:=fun kk=>by
       by_cases hz:o.obj=j∧kk=kb
       ·obtain⟨rfl,rfl⟩:=hz;rw[hen,hy]
       ·exact M.j8 (CD fun v ⟨z1,z2⟩=>hz ⟨z1,by rw[hx] at z2;injection z2 with z2;exact z2.symm⟩)
      obtain⟨ks',kvs',h4,h5,h6,h7,h8,h9⟩:=h3;exact⟨ks',kvs',h4,by omega,h6,h7,fun kk=>by rw[esame];exact h8 kk,fun kk x hxx=>h9 kk x (by rw[← esame];exact hxx)⟩
     ·unfold M.gv at hb;rw[hx,arz] at hb;cases hb
     ·unfold M.ou;rw[hx];exact arz _
  ·refine Cz (fun z=>hk (S9 (v:=.map) z (fun u hu=>M.pK hu) rfl)) ?_;exact k H (hd.NR hw (fun kk v _=>hk) (fun y z=>by rw[hx] at z;cases z) fun _=>.inl ⟨kb,vv,hx⟩) (Fr.refl g)
end
end KB
namespace KB
open PySem PySem.Spec PyProof.Rows L2
open Sa76 (Id Op Val Bytes ROOT)
section
variable{K:Fg}{a:dX}{H H':Hp}{τ:aL}{i:Nat}{l lk:List Op}{o:Op}
theorem Bq.seq{d q dx ka ma sa ca:Addr}{ks:List (List Key×V)}(hw:M.Wf (l++[o]))(ho:(∃ b v,o.act=.insert b v)∨(∃ b v,o.act=.put b v)∨∃ b,o.act=.remove b)
  (q0:H d=some (.ins a.aI dx (aqk (.ref ka) (.ref ma) (.ref sa) (.ref ca)))∧τ d=.hU) (q1:τ ka=.own i .kinds) (q2:τ ma=.own i .NB) (q3:τ sa=.own i .KC) (q4:τ ca=.own i .sums) (q5:G7 H ka lk) (q6:xO K H τ i ma lk l) (q8:CC H ca lk l)
  (s1:H sa=some (.dT ks)) (s2:ks.length≤lk.length) (s3:∀ j,Sa76.kindOf lk j=some .list→∃ q,fM ks (kI j)=some (.ref q)∧SeqAt K a H τ i q l j) (hq:fM ks (kI o.obj)=some (.ref q))
  (F:Fr (fun t=>t≠.own i (.NC o.obj)∧t≠.own i (.new o.obj)∧t≠.own i (.rem o.obj)) H τ H' τ) (hs:SeqAt K a H' τ i q (l++[o]) o.obj):Bq K a H' τ i d lk (l++[o])∧Fr (W7 i) H τ H' τ:=by
 have i4:(Tag.hU:Tag)≠.own i (.NC o.obj)∧(Tag.hU:Tag)≠.own i (.new o.obj)∧(Tag.hU:Tag)≠.own i (.rem o.obj):=⟨(fun z=>nomatch z),(fun z=>nomatch z),(fun z=>nomatch z)⟩;have nset:∀ k v,o.act≠.set k v:=fun k v z=>by rcases ho with⟨b,v,h⟩|⟨b,v,h⟩|⟨b,h⟩ <;> rw[h] at z <;> cases z
 have nadd:∀ x,o.act≠.add x:=fun x z=>by rcases ho with⟨b,v,h⟩|⟨b,v,h⟩|⟨b,h⟩ <;> rw[h] at z <;> cases z
 refine⟨⟨dx,ka,ma,sa,ca,F.im i4 q0,q1,q2,q3,q4,?_,(q6.other fun j hj k=>CD fun v ⟨_,z⟩=>nset k v z).keep F i4 (by rw[q2];exact⟨(fun z=>nomatch z),(fun z=>nomatch z),(fun z=>nomatch z)⟩) (fun j=>⟨(fun z=>nomatch z),(fun z=>nomatch z),(fun z=>nomatch z)⟩),⟨ks,F.keep _ _ s1 (by rw[q3];exact⟨(fun z=>nomatch z),(fun z=>nomatch z),(fun z=>nomatch z)⟩),s2,fun j hj=>?_⟩,?_⟩,F.mono fun t z=>⟨z _ rfl,z _ rfl,z _ rfl⟩⟩
 ·obtain⟨kvs,z1,z2⟩:=q5;exact⟨kvs,F.keep _ _ z1 (by rw[q1];exact⟨(fun z=>nomatch z),(fun z=>nomatch z),(fun z=>nomatch z)⟩),z2⟩
 ·by_cases hj0:j=o.obj
  ·subst hj0;exact⟨q,hq,hs⟩
  ·obtain⟨q',h1,h2⟩:=s3 j hj;have nj:∀ {x y:Id→Part},x j=y o.obj→(x=.NC∨x=.new∨x=.rem)→(y=.NC∨y=.new∨y=.rem)→False:=fun{x y} h hx hy=>by
    rcases hx with rfl|rfl|rfl <;> rcases hy with rfl|rfl|rfl <;> first|(injection h with h;exact hj0 h)|cases h
   have kp:∀ {x:Id→Part},(x=.NC∨x=.new∨x=.rem)→(Tag.own i (x j):Tag)≠.own i (.NC o.obj)∧(Tag.own i (x j):Tag)≠.own i (.new o.obj)∧(Tag.own i (x j):Tag)≠.own i (.rem o.obj):=fun{x} hx=>
    ⟨fun z=>nj (y:=.NC) (by injection z) hx (.inl rfl),fun z=>nj (y:=.new) (by injection z) hx (.inr (.inl rfl)),fun z=>nj (y:=.rem) (by injection z) hx (.inr (.inr rfl))⟩
   refine⟨q',h1,(h2.other hw (fun b hb=>absurd (M.wk hb) fun z=>hj0 z.symm) (fun e=>?_) fun e z=>hj0 z.1.symm).keep F i4 (kp (.inl rfl)) (kp (.inr (.inl rfl))) (kp (.inr (.inr rfl)))⟩;unfold M.ou;rw[show(o.obj == j)=false by rw[arH];exact fun z=>hj0 z.symm];rfl
 ·obtain⟨kvs,z1,z2⟩:=q8.other (o:=o) fun j hj ⟨_,x,z⟩=>nadd x z;exact⟨kvs,F.keep _ _ z1 (by rw[q4];exact⟨(fun z=>nomatch z),(fun z=>nomatch z),(fun z=>nomatch z)⟩),z2⟩
end
section
variable{P:Program}{w:World}{K:Fg}{mg:Str→Option Value}{base:Heap}{a:dX}
def zx79(K:Fg)(a:dX)(vs:List V)(H:Hp)(Q:VK):=fun(τ:aL) (i:Nat) (d p:Addr) (l:List Op) (o:Op)=>(vs=[.ref d,.ref p]∧ack K a H τ i d p l o∧((∃ b v,o.act=.insert b v)∨(∃ b v,o.act=.put b v)∨∃ b,o.act=.remove b)∧Tc K a H τ i d l o Q)
def Br(K:Fg)(a:dX):Sp:=fun vs H Q _=>zx_6 (zx79 K a vs H Q)
theorem Bs(T:Txt K mg a):bL P w K mg base jk 2 a.bE a.gP gK (Br K a):=by
 refine T.rj.ok j9 (fun vs H Q E h=>?_) (fun cdv A outer s H vs Q E hr h=>?_)
 ·obtain⟨τ,i,d,p,l,o,rfl,_⟩:=h;rfl
 ·obtain⟨τ,i,d,p,l,o,rfl,⟨g,hd,hact,hw,cI,hl⟩,ho,k⟩:=h;refine⟨_,(ah (bQ (aY K5 (dP (pv 0) T.aS T.cu (cU T) (hr.mono (by decide)) T.cQ .nil aG (af (aA (aA (pv 1) rfl) rfl) aj)) (gI T.OR) (bf _)) (ao SE) aZ)
   (ah (aP (i:=2) j9.nd rfl (.inl rfl) (aA (pv 1) rfl))
   (ah (aP (i:=3) j9.nd rfl (.inl rfl) (kK (eV hr) (aA (pv 0) rfl) (aA (pv 2) rfl) (fun _ _=>rfl)))
   (ao (bQ (aY jr (aA (pv 2) rfl) (gI T.Lv) (bf _)) (ao (di (dP (pv 3) T.bB T.yL (NN T) (hr.mono (by decide)) T.Ar .nil aG (af (aT (pv 1) T.bG T.gc (ic T) (hr.mono (by decide)) T.gF .nil aG) (af (aA (pv 2) rfl) (af (aA (pv 2) rfl) aj)))))) (ao (bQ (aY jr (aA (pv 2) rfl) (gI T.aiO) (bf _)) (ao (di (dP (pv 3) T.bB T.CO (Sy T) (hr.mono (by decide)) T.E7 .nil aG (af (aA (pv 2) rfl) (af (aT (pv 1) T.bG T.gc (ic T) (hr.mono (by decide)) T.gF .nil aG) (af (aA (pv 2) rfl) aj)))))) (ao (bQ (aY jr (aA (pv 2) rfl) (gI T.Ay) (bf _)) (ao (di (dP (pv 3) T.bB T.ue (GJ T) (hr.mono (by decide)) T.uQ .nil aG (af (aA (pv 2) rfl) aj)))) aZ))))))))),?_⟩
  obtain⟨pdx,c,hp,hch⟩:=hact.ex;obtain⟨cdx,ta,key,el,vx,hc,hta,_,hel,hval⟩:=hch.ex;have hl1:(l++[o]).length=l.length+1:=by rw[ada];rfl
  have nset:∀ k v,o.act≠.set k v:=fun k v z=>by rcases ho with⟨b,v,h⟩|⟨b,v,h⟩|⟨b,h⟩ <;> rw[h] at z <;> cases z
  have nadd:∀ x,o.act≠.add x:=fun x z=>by rcases ho with⟨b,v,h⟩|⟨b,v,h⟩|⟨b,h⟩ <;> rw[h] at z <;> cases z
  obtain⟨dx,ka,ma,sa,ca,q0,q1,q2,q3,q4,q5,q6,⟨ks,s1,s2,s3⟩,q8⟩:=id hd.ex;refine⟨_,rfl,d,dx,_,rfl,q0.1,rfl,_,rfl,p,_,pdx,_,_,rfl,hp.1,T.bG,T.bq,rfl,c,_,cdx,_,_,rfl,hc.1,T.aN,T.cB,rfl,τ,i,d,ta,l++[o],l,o.obj,rfl,hd,hta.tup,tJ _ _,_,rfl,?_⟩;by_cases hk:Sa76.kindOf (l++[o]) o.obj=some .list
  ·refine CA (by rw[hk];rfl) ?_;obtain⟨q,hq,hs⟩:=s3 _ hk;obtain⟨dq,ba,na,ra,r0,_⟩:=hs.ex;have dg:=mP.t (k:=kI o.obj) s1 hta.tup;rw[hq] at dg;refine⟨_,rfl,p,_,pdx,_,_,rfl,hp.1,T.bG,T.bq,rfl,?_⟩;refine⟨_,rfl,d,_,dx,_,_,rfl,q0.1,T.aS,T.eE,rfl,_,rfl,c,_,cdx,_,_,rfl,hc.1,T.aN,T.cB,rfl,sa,_,rfl,dg,?_⟩;refine⟨_,rfl,c,_,cdx,_,_,rfl,hc.1,T.aN,T.br,rfl,rfl,_,rfl,?_⟩;rcases ho with⟨b,v,ha⟩|⟨b,v,ha⟩|⟨b,ha⟩
   ·have e1:kOf o.act=2:=by rw[ha];rfl
    have e2:Su o.act=some b:=by rw[ha];rfl
    have e3:vOf o.act=some v:=by rw[ha];rfl
    rw[e2] at hel;rw[e3] at hval;obtain⟨ea,rfl,he⟩:=hel;obtain⟨va,rfl,hv⟩:=hval;refine rO (by rw[e1];rfl) ?_;refine⟨_,rfl,q,dq,_,rfl,r0.1,rfl,_,rfl,p,pdx,_,rfl,hp.1,rfl,p,pdx,_,_,_,_,rfl,hp.1,fun ia n1=>?_⟩;have S1:=aq (o:=HO.tup [V.int (o.t:Int),V.int (o.r:Int)]) n1;have f1:eL K (upd H ia (.tup [.int (o.t:Int),.int (o.r:Int)])) τ ia o.id:=.inl ⟨ae,g ia n1⟩;generalize upd H ia (.tup [.int (o.t:Int),.int (o.r:Int)])=H1 at S1 f1;have F1:Fr (fun _=>True) H τ H1 τ:=Fr.same S1 g;refine⟨_,rfl,c,_,cdx,_,_,rfl,S1 _ _ hc.1,T.aN,T.cH,rfl,_,rfl,c,_,cdx,_,_,rfl,S1 _ _ hc.1,T.aN,T.dM,rfl,τ,i,q,ia,ea,va,l,o,b,v,rfl,F1.tg,hs.keep F1 trivial trivial trivial trivial,hw,hl,ha,f1,he.keep F1 trivial,hv.keep F1 trivial,fun H' hs' F'=>?_⟩;obtain⟨r1,r2⟩:=Bq.seq hw (.inl ⟨b,v,ha⟩) q0 q1 q2 q3 q4 q5 q6 q8 s1 s2 s3 hq ((F1.mono fun _ _=>trivial).trans (F'.mono fun t z=>⟨z.1,z.2.1⟩)) hs';exact k H' r1 r2
   ·have e1:kOf o.act=3:=by rw[ha];rfl
    have e2:Su o.act=some b:=by rw[ha];rfl
    have e3:vOf o.act=some v:=by rw[ha];rfl
    rw[e2] at hel;rw[e3] at hval;obtain⟨ea,rfl,he⟩:=hel;obtain⟨va,rfl,hv⟩:=hval;refine mQ (by rw[e1];intro z;injection z with z;cases z) ?_;refine⟨_,rfl,c,_,cdx,_,_,rfl,hc.1,T.aN,T.br,rfl,rfl,_,rfl,?_⟩;refine rO (by rw[e1];rfl) ?_;refine⟨_,rfl,q,dq,_,rfl,r0.1,rfl,_,rfl,c,_,cdx,_,_,rfl,hc.1,T.aN,T.cH,rfl,_,rfl,p,pdx,_,rfl,hp.1,rfl,p,pdx,_,_,_,_,rfl,hp.1,fun ia n1=>?_⟩;have S1:=aq (o:=HO.tup [V.int (o.t:Int),V.int (o.r:Int)]) n1;have f1:eL K (upd H ia (.tup [.int (o.t:Int),.int (o.r:Int)])) τ ia o.id:=.inl ⟨ae,g ia n1⟩;generalize upd H ia (.tup [.int (o.t:Int),.int (o.r:Int)])=H1 at S1 f1;have F1:Fr (fun _=>True) H τ H1 τ:=Fr.same S1 g;refine⟨_,rfl,c,_,cdx,_,_,rfl,S1 _ _ hc.1,T.aN,T.dM,rfl,τ,i,q,ea,ia,va,l,o,b,v,rfl,F1.tg,hs.keep F1 trivial trivial trivial trivial,hw,hl,ha,he.keep F1 trivial,f1,hv.keep F1 trivial,fun H' hs' F'=>?_⟩;obtain⟨r1,r2⟩:=Bq.seq hw (.inr (.inl ⟨b,v,ha⟩)) q0 q1 q2 q3 q4 q5 q6 q8 s1 s2 s3 hq ((F1.mono fun _ _=>trivial).trans (F'.mono fun t z=>z.2.1)) hs';exact k H' r1 r2
   ·have e1:kOf o.act=4:=by rw[ha];rfl
    have e2:Su o.act=some b:=by rw[ha];rfl
    rw[e2] at hel;obtain⟨ea,rfl,he⟩:=hel;refine mQ (by rw[e1];intro z;injection z with z;cases z) ?_;refine⟨_,rfl,c,_,cdx,_,_,rfl,hc.1,T.aN,T.br,rfl,rfl,_,rfl,?_⟩;refine mQ (by rw[e1];intro z;injection z with z;cases z) ?_;refine⟨_,rfl,c,_,cdx,_,_,rfl,hc.1,T.aN,T.br,rfl,rfl,_,rfl,?_⟩;refine rO (by rw[e1];rfl) ?_;refine⟨_,rfl,q,dq,_,rfl,r0.1,rfl,_,rfl,c,_,cdx,_,_,rfl,hc.1,T.aN,T.cH,rfl,τ,i,q,ea,l,o,b,rfl,g,hs,hw,hl,ha,he,fun H' hs' F'=>?_⟩;obtain⟨r1,r2⟩:=Bq.seq hw (.inr (.inr ⟨b,ha⟩)) q0 q1 q2 q3 q4 q5 q6 q8 s1 s2 s3 hq (F'.mono fun t z=>z.2.2) hs';exact k H' r1 r2
  ·refine Cz (fun z=>hk (S9 (v:=.list) z (fun u hu=>M.pK hu) rfl)) ?_;exact k H (hd.NR hw (fun kk v z=>absurd z (nset kk v)) (fun y z=>absurd z (nadd y)) fun z=>absurd z hk) (Fr.refl g)
def zx80(K:Fg)(a:dX)(vs:List V)(H:Hp)(Q:VK):=fun(τ:aL) (i:Nat) (d p:Addr) (l:List Op) (o:Op)=>(vs=[.ref d,.ref p]∧Tg H τ∧zo K a H τ i d l∧lN K a H τ p o∧M.Wf (l++[o])∧M.oS o∧l.length≤5000∧∀ H' τ',zo K a H' τ' i d (l++[o])→Fr (W7 i) H τ H' τ'→Q .dN H')
def NS(K:Fg)(a:dX):Sp:=fun vs H Q _=>zx_6 (zx80 K a vs H Q)
theorem NT(T:Txt K mg a):bL P w K mg base jk 4 a.cS a.mD mj (NS K a):=by
 refine T.As.ok Lj (fun vs H Q E h=>?_) (fun cdv A outer s H vs Q E hr h=>?_)
 ·obtain⟨τ,i,d,p,l,o,rfl,_⟩:=h;rfl
 ·obtain⟨τ,i,d,p,l,o,rfl,g,hd,hact,hw,cI,hl,k⟩:=h;refine⟨_,(ah (di (dP (pv 0) T.aS T.oW (z9 T) (hr.mono (by decide)) T.qp .nil aG (af (pv 1) aj)))
   (ao (bQ (aY jr (aA (aA (pv 1) rfl) rfl) (gI T.Zc) (bf _)) (ao (di (dP (pv 0) T.aS T.qY (CG T) (hr.mono (by decide)) T.rX .nil aG (af (pv 1) aj)))) (ao (bQ (aY jr (aA (aA (pv 1) rfl) rfl) (gI T.Zd) (bf _)) (ao (di (dP (pv 0) T.aS T.m6 (xQ T) (hr.mono (by decide)) T.oA .nil aG (af (pv 1) aj)))) (ao (di (dP (pv 0) T.aS T.qg (Bs T) (hr.mono (by decide)) T.rm .nil aG (af (pv 1) aj))))))))),?_⟩
  obtain⟨dx,ka,ma,sa,ca,q0,_⟩:=hd.ex;refine⟨_,rfl,d,dx,_,rfl,q0.1,rfl,_,rfl,τ,i,d,p,l,o,rfl,g,hd,hact,hw,hl,fun H1 τ1 hd1 F1=>?_⟩;have hact1:=hact.keep F1 (W8 i);have q01:=F1.im (W8 i) q0;obtain⟨pdx,c,hp,hch⟩:=hact1.ex;obtain⟨cdx,ta,key,el,vx,hc,_⟩:=hch.ex;refine⟨_,rfl,p,_,pdx,_,_,rfl,hp.1,T.bG,T.bq,rfl,c,_,cdx,_,_,rfl,hc.1,T.aN,T.br,rfl,rfl,_,rfl,?_⟩;have pre:ack K a H1 τ1 i d p l o:=⟨F1.tg,hd1,hact1,hw,cI,hl⟩;have post:Tc K a H1 τ1 i d l o Q:=fun H2 hd2 F2=>k H2 τ1 hd2 (F1.trans F2);cases ha:o.act with
  |set kb vv=>
   refine rO rfl ?_;exact⟨_,rfl,d,dx,_,rfl,q01.1,rfl,_,rfl,τ1,i,d,p,l,o,kb,vv,rfl,pre,ha,post⟩
  |add x=>
   refine mQ (by intro z;injection z with z;cases z) ?_;rw[ha] at hc;refine⟨_,rfl,p,_,pdx,_,_,rfl,hp.1,T.bG,T.bq,rfl,c,_,cdx,_,_,rfl,hc.1,T.aN,T.br,rfl,rfl,_,rfl,?_⟩;refine rO rfl ?_;exact⟨_,rfl,d,dx,_,rfl,q01.1,rfl,_,rfl,τ1,i,d,p,l,o,x,rfl,pre,ha,post⟩
  |insert b v=>
   refine mQ (by intro z;injection z with z;cases z) ?_;rw[ha] at hc;refine⟨_,rfl,p,_,pdx,_,_,rfl,hp.1,T.bG,T.bq,rfl,c,_,cdx,_,_,rfl,hc.1,T.aN,T.br,rfl,rfl,_,rfl,?_⟩;refine mQ (by intro z;injection z with z;cases z) ?_;exact⟨_,rfl,d,dx,_,rfl,q01.1,rfl,_,rfl,τ1,i,d,p,l,o,rfl,pre,.inl ⟨b,v,ha⟩,post⟩
  |put b v=>
   refine mQ (by intro z;injection z with z;cases z) ?_;rw[ha] at hc;refine⟨_,rfl,p,_,pdx,_,_,rfl,hp.1,T.bG,T.bq,rfl,c,_,cdx,_,_,rfl,hc.1,T.aN,T.br,rfl,rfl,_,rfl,?_⟩;refine mQ (by intro z;injection z with z;cases z) ?_;exact⟨_,rfl,d,dx,_,rfl,q01.1,rfl,_,rfl,τ1,i,d,p,l,o,rfl,pre,.inr (.inl ⟨b,v,ha⟩),post⟩
  |remove b=>
   refine mQ (by intro z;injection z with z;cases z) ?_;rw[ha] at hc;refine⟨_,rfl,p,_,pdx,_,_,rfl,hp.1,T.bG,T.bq,rfl,c,_,cdx,_,_,rfl,hc.1,T.aN,T.br,rfl,rfl,_,rfl,?_⟩;refine mQ (by intro z;injection z with z;cases z) ?_;exact⟨_,rfl,d,dx,_,rfl,q01.1,rfl,_,rfl,τ1,i,d,p,l,o,rfl,pre,.inr (.inr ⟨b,ha⟩),post⟩
end
end KB
namespace KB
open PySem PySem.Spec PyProof.Rows L2
open Sa76 (Id Op Val Bytes ROOT)
abbrev zB(k:Bytes):List Int:=k.map fun(c:Nat)=>(c:Int)
theorem ZK:∀ (x y:Bytes),HT.lexLt (zB x) (zB y)=Sa76.lessBytes x y
 |[],[]=>rfl
 |[],_::_=>rfl
 |_::_,[]=>rfl
 |a::r,b::s=>by
  show HT.lexLt ((a:Int)::zB r) ((b:Int)::zB s)=(decide (a < b) || (a == b && Sa76.lessBytes r s));rw[HT.wF,ZK r s];by_cases h:a=b
  ·subst h;simp
  ·rw[acK (fun z=>h (by omega)),show(a == b)=false by rw[arH];exact h];rw[atJ,asX,ase];simp
theorem ZL{α β:Type}{F:α→β→Prop}:∀ {l:List α} {m:List β},l.length=m.length→(∀ (i:Nat) (x:α),l[i]?=some x→∃ y,m[i]?=some y∧F x y)→Paired F l m
 |[],[],_,_=>.nil
 |[],_::_,h,_=>by cases h
 |_::_,[],h,_=>by cases h
 |x::l,y::m,h,k=>by
  obtain⟨y',h1,h2⟩:=k 0 x rfl;cases h1;exact .cons h2 (ZL (by simpa using h) fun i z hz=>by simpa using k (i+1) z (by simpa using hz))
theorem arw(k:Bytes):kB k=(zB k).map Sum.inl:=by unfold kB;rw[ao8];rfl
theorem arx(k:Bytes):(zB k).map V.int=iB k:=by rw[ao8];rfl
theorem keys_perm{l:List Op}{j:Id}{ks ks':List Bytes}(hn:ks.Nodup)(hm:∀ k,k∈ks↔(Sa76.entry l j k).isSome=true)(hp:ks'.Perm ks)(hs:ks'.Pairwise fun x y=>Sa76.lessBytes y x=false):ks'=M.iZ l j:=by
 have hall:∀ k,k∈M.iZ l j↔(Sa76.entry l j k).isSome=true:=fun k=>by
  rw[M.Ez];unfold Sa76.entry;constructor
  ·intro h;cases e:Sa76.setsOf l j k with
   |nil=>exact absurd e h
   |cons p r=>
    obtain⟨q,hq⟩:=M.yh p r;rw[hq];rfl
  ·intro h e;rw[e] at h;cases h
 have hA:=M.Ey l j;have hp2:ks.Perm (M.iZ l j):=(List.perm_ext_iff_of_nodup hn (M.Of hA)).mpr fun k=>(hm k).trans (hall k).symm;refine List.Perm.eq_of_pairwise (le:=fun x y=>Sa76.lessBytes y x=false) (fun x y _ _ h1 h2=>M.Ex h2 h1) hs ?_ (hp.trans hp2);exact hA.imp fun{x y} h=>by
  cases e:Sa76.lessBytes y x with
  |false=>rfl
  |true=>
   have:=M.Ew h e;rw[M.BE] at this;cases this
section
variable{P:Program}{w:World}{K:Fg}{mg:Str→Option Value}{base:Heap}{a:dX}
theorem akX{H:Hp}{τ:aL}{e:Addr}{l:List Op}{j:Id}{Q:VK}(hm:NP K H τ e l j)(hne:∀ k,(Sa76.entry l j k).isSome=true→k≠[])
  (k:∀ (cs:List Addr) (q:Addr),Paired (fun c kb=>TupAt K H c (iB kb)) cs (M.iZ l j)→H q=none→Q (.ref q) (upd H q (.lst (cs.map V.ref)))):adD K [.ref e] H Q:=by
 obtain⟨ks,kvs,h1,h2,h3,h4,h5,h6⟩:=hm;refine⟨e,kvs,ks.map zB,rfl,.inl h1,?_,fun x hx=>?_,fun prs q hp hpw ht hq=>?_⟩
 ·rw[h3,ao8];apply aqh;intro x _;exact arw x
 ·obtain⟨y,hy,rfl⟩:=aou.mp hx;intro z;exact hne y ((h5 y).mp hy) (List.map_eq_nil_iff.mp z)
 ·obtain⟨ks',hp',e'⟩:=Lc zB hp ks rfl;have hs:ks'.Pairwise fun x y=>Sa76.lessBytes y x=false:=by
   have h:(prs.map (·.2)).Pairwise fun x y=>HT.lexLt y x=false:=atP.mpr hpw;rw[e',atP] at h;exact h.imp fun{x y} h=>by rw[← ZK];exact h
  have ek:=keys_perm h4 h5 hp' hs;subst ek;have:=k (prs.map (·.1)) q ?_ hq
  ·rw[ao8] at this;exact this
  ·have hz:∀ (ps:List (Addr×List Int)) (kk:List Bytes),ps.map (·.2)=kk.map zB→(∀ p∈ps,TupAt K H p.1 (p.2.map V.int))→Paired (fun c kb=>TupAt K H c (iB kb)) (ps.map (·.1)) kk:=by
    intro ps;induction ps with
    |nil=>
     intro kk ekk _;cases kk with
     |nil=>exact .nil
     |cons _ _=>cases ekk
    |cons p ps ih=>
     intro kk ekk hh;cases kk with
     |nil=>cases ekk
     |cons y kk=>
      rw[ajR,ajR] at ekk;injection ekk with z1 z2;refine .cons ?_ (ih kk z2 fun p hp=>hh p (aiy _ hp));have:=hh p ajM;rw[z1,arx] at this;exact this
   exact hz prs _ e' ht
def ana(K:Fg)(H:Hp)(τ:aL)(l:List Op)(j:Id)(p:Addr)(kb:Bytes):Prop:=∃ ka tu,H p=some (.tup [.ref ka,.ref tu])∧TupAt K H ka (iB kb)∧sE K H τ tu (M.jK l j kb)
def zx81(K:Fg)(a:dX)(vs:List V)(H:Hp)(Q:VK):=fun(τ:aL) (i:Nat) (d ta:Addr) (l:List Op) (j:Id)=>(vs=[.ref d,.ref ta]∧zo K a H τ i d l∧TupAt K H ta (iI j)∧Sa76.kindOf l j=some .map∧(∀ o∈l,M.oS o)∧l.length≤5000∧∀ H' r ps,aM H H'→H r=none→H' r=some (.lst (ps.map V.ref))→Paired (ana K H' τ l j) ps (Sa76.keys l j)→Q (.ref r) H')
def Bt(K:Fg)(a:dX):Sp:=fun vs H Q _=>zx_6 (zx81 K a vs H Q)
theorem sE.same{H H':Hp}{τ:aL}{tu:Addr}{o:Op}(h:sE K H τ tu o)(s:aM H H'):sE K H' τ tu o:=by
 obtain⟨ia,va,h1,h2,h3⟩:=h;exact⟨ia,va,aM.im s h1,eL.same h2 s,aM.im s h3⟩
theorem Bu(T:Txt K mg a):bL P w K mg base jk 1 a.bD a.gO gJ (Bt K a):=by
 refine T.rg.ok dh (fun vs H Q E h=>?_) (fun cdv A outer s H vs Q E hr h=>?_)
 ·obtain⟨τ,i,d,ta,l,j,rfl,_⟩:=h;rfl
 ·obtain⟨τ,i,d,ta,l,j,rfl,hd,ht,hk,cI,hl,k⟩:=h;refine⟨_,(ah (aP (i:=2) dh.nd rfl (by first|exact Or.inl rfl|exact Or.inr rfl) (kK (eV hr) (aA (pv 0) rfl) (pv 1) (fun _ _=>rfl)))
   (ah (alU (i:=3) (own:=[("key",4)]) rfl dh.nd rfl rfl (anW rfl rfl rfl rfl) (vo (cj (agD rfl) (by rfl) T.UK (by decide +kernel) (af (pv 2) aj))) (Al (by kernel_rfl)) (fun _ _ _ _ _=>(l0 (i:=4) dh.nd rfl (by first|exact Or.inl rfl|exact Or.inr rfl))) (fun _ _ _ _ _=>(show PTs _ _ (alH (tOp rNe (tOp (apA K) (tOp (aqY K) (aiG K (Om 2) (Om 4)) (tC (.int 1))) (tC (.int 0))) (tC (.int 0)))) from(anV (aY K5 (c9 bS (c9 wG (kK (eV hr) (pv 2) (pv 4) (fun _ _=>rfl)) aW (fun _ _=>rfl)) aW (fun _ _=>rfl)) (gI T.OQ) (bf _))))) (fun _ _ _ _ _=>(show PE _ _ (Om 4) from(pv 4))))
   (ao (aJ (adn (own:=[("key",4)]) rfl dh.nd (vo (pv 3)) (Al (by kernel_rfl)) (fun _ _ _ _ _=>(l0 (i:=4) dh.nd rfl (by first|exact Or.inl rfl|exact Or.inr rfl))) (fun _ _ _ _ _=>K8) (fun _ _ _ _ _=>(show PE _ _ (aqV (aiD (Om 4) (aiD (aiG K (Om 2) (Om 4)) (Xw)))) from(BJ (af (pv 4) (af (kK (eV hr) (pv 2) (pv 4) (fun _ _=>rfl)) aj)))))))))),?_⟩
  obtain⟨dx,ka,ma,sa,ca,q0,q1,q2,q3,q4,_,⟨km,m1,m2,m3⟩,_⟩:=hd.ex;obtain⟨e,me1,me2,hmap⟩:=m3 j hk;obtain⟨ks,kvs,h1,h2,h3,h4,h5,h6⟩:=id hmap;have dg:=mP.t (k:=kI j) m1 ht;rw[me1] at dg;refine⟨_,rfl,d,_,dx,_,_,rfl,q0.1,T.aS,T.ki,rfl,_,rfl,ma,_,rfl,dg,?_⟩;have hne:∀ kk,(Sa76.entry l j kk).isSome=true→kk≠[]:=fun kk hs=>by
   obtain⟨o,ho⟩:=aqv.mp hs;obtain⟨v,hv⟩:=M.sI ho;have:=(cI o (M.entry_mem ho).1).act;rw[hv] at this;intro z;rw[z] at this;exact absurd this.1 (by decide)
  have hakl:(M.iZ l j).length≤5000:=by
   have hs:∀ x∈M.iZ l j,x∈ks:=fun x hx=>(h5 x).mpr (by
    have:=M.Ez.mp hx;unfold Sa76.entry;cases ee:Sa76.setsOf l j x with
    |nil=>exact absurd ee this
    |cons p r=>
     obtain⟨q,hq⟩:=M.yh p r;rw[hq];rfl)
   have h7:=(M.Of (M.Ey l j)).length_le_of_subset hs;have h8:=arD List.length h3;rw[aah,aah] at h8;omega
  refine⟨_,rfl,?_⟩;dsimp only[Xw];refine akX (τ:=τ) hmap hne fun cs r1 hcs n1=>?_;have S1:=aq (o:=HO.lst (cs.map V.ref)) n1;have e1:(upd H r1 (.lst (cs.map V.ref))) r1=some (.lst (cs.map V.ref)):=ae;generalize upd H r1 (.lst (cs.map V.ref))=H1 at S1 e1;have hcl:cs.length≤5000:=by rw[Paired.length hcs];exact hakl
  refine⟨r1,rfl,⟨_,cJ.of e1⟩,fun D hD=>?_⟩;have at1:∀ {H2:Hp} {c:Addr} {kb:Bytes},aM H1 H2→TupAt K H c (iB kb)→(Sa76.entry l j kb).isSome=true→∃ tu o,Sa76.entry l j kb=some o∧mP K H2 e (.ref c) (some (.ref tu))∧sE K H τ tu o:=fun{H2 c kb} S hc hs=>by
   obtain⟨o,ho⟩:=aqv.mp hs;obtain⟨tu,u1,u2⟩:=h6 kb o ho;have S':=S1.trans S;have dd:=mP.t (k:=kB kb) (S' _ _ h1) (by rw[am4];exact aM.tup S' hc);rw[u1] at dd;exact⟨tu,o,ho,dd,u2⟩
  have inall:∀ {x:Bytes},x∈M.iZ l j→(Sa76.entry l j x).isSome=true:=fun{x} hx=>by
   have:=M.Ez.mp hx;unfold Sa76.entry;cases ee:Sa76.setsOf l j x with
   |nil=>exact absurd ee this
   |cons p r=>
    obtain⟨q,hq⟩:=M.yh p r;rw[hq];rfl
  refine SI (K:=K) (a:=r1) (xs:=cs.map V.ref) (Pv:=fun n H'=>aM H1 H'∧∃ cs2,H' D=some (.lst (cs2.map V.ref))∧Paired (fun c kb=>TupAt K H c (iB kb)) cs2 (((M.iZ l j).take n).filter fun kb=>(Sa76.entry l j kb).any fun o=>Sa76.madeBy o != some .nothing)) ⟨aq hD,[],ae,by rw[List.take_zero];exact .nil⟩ (fun n H' _ ⟨S,_⟩=>cJ.of (S _ _ e1)) ?_ ?_
  ·rintro n x H' hx ⟨S,cs2,f1,f2⟩;obtain⟨c,hc,rfl⟩:=GL hx;obtain⟨kb,hkb,hckb⟩:=kG hcs hc;have hin:=inall (aqt hkb);obtain⟨tu,o,ho,dd,hent⟩:=at1 S hckb hin;obtain⟨ia,va,u1,u2,u3⟩:=hent;have S':=S1.trans S;obtain⟨v,hv⟩:=M.sI ho;have hmb:Sa76.madeBy o=some v:=by rw[tH,hv];rfl
   have hby:bytesOf o=v.bytes:=by unfold bytesOf;rw[hmb];rfl
   rw[hby] at u3;obtain⟨rr,hrr⟩:=M.BG v;have hat:(iB v.bytes)[0]?=some (.int (M.ig v:Nat)):=by rw[hrr];rfl
   refine⟨rfl,_,rfl,_,rfl,e,_,rfl,dd,tu,_,_,_,rfl,rfl,Io.of (S' _ _ u1.1),at_of (j:=1) rfl rfl,va,_,_,_,rfl,rfl,cJ.of (S' _ _ u3.1),at_of (j:=0) rfl hat,rfl,_,rfl,?_⟩;have hcond:((Sa76.entry l j kb).any fun o=>Sa76.madeBy o != some .nothing)=!decide (M.ig v=0):=by
    rw[ho];show(Sa76.madeBy o != some .nothing)=_;rw[hmb,ase,bne_iff_ne,Bool.not_eq_true',decide_eq_false_iff_not,← M.zw];exact⟨fun z y=>z (by rw[y]),fun z y=>z (apa y)⟩
   have htk:(M.iZ l j).take (n+1)=(M.iZ l j).take n++[kb]:=take_snoc hkb;by_cases hk0:M.ig v=0
   ·refine CA (by rw[hk0];rfl) ?_;refine⟨S,cs2,f1,?_⟩;rw[htk,ass,show([kb].filter fun kb=>(Sa76.entry l j kb).any fun o=>Sa76.madeBy o != some .nothing)=[] by simp only[arX,List.filter_nil,hcond,arC hk0];rfl,apc];exact f2
   ·refine Cz (by intro z;injection z with z;omega) ?_;refine⟨_,rfl,_,f1,G6 ?_,?_,cs2++[c],?_,?_⟩
    ·rw[aah,Paired.length f2];have:=aq9 (fun kb=>(Sa76.entry l j kb).any fun o=>Sa76.madeBy o != some .nothing) ((M.iZ l j).take n);rw[aq8] at this;omega
    ·exact fun b o hb=>by rw[ak (au hb hD)];exact S b o hb
    ·rw[ae,ak9];rfl
    ·rw[htk,ass,show([kb].filter fun kb=>(Sa76.entry l j kb).any fun o=>Sa76.madeBy o != some .nothing)=[kb] by simp only[arX,List.filter_nil,hcond,aqz hk0];rfl];exact eA (F:=fun c kb=>TupAt K H c (iB kb)) hckb f2
  ·rintro H2 ⟨S2,cs2,f1,f2⟩;have ekeys:Paired (fun c kb=>TupAt K H c (iB kb)) cs2 (Sa76.keys l j):=by
    have el:(cs.map V.ref).length=(M.iZ l j).length:=by rw[aah,Paired.length hcs]
    rw[el,atj] at f2;exact f2
   have hkl:cs2.length≤5000:=by
    rw[Paired.length ekeys];have:(Sa76.keys l j).length≤(M.iZ l j).length:=aq9 _ _;omega
   refine⟨_,rfl,D,rfl,⟨_,cJ.of f1⟩,fun D2 hD2=>?_⟩;have S12:=S1.trans S2;refine SI (K:=K) (a:=D) (xs:=cs2.map V.ref) (Pv:=fun n H'=>aM H2 H'∧∃ ps,H' D2=some (.lst (ps.map V.ref))∧ps.length=n∧∀ (m:Nat) (p:Addr),ps[m]?=some p→∃ kb c tu,(Sa76.keys l j)[m]?=some kb∧H' p=some (.tup [.ref c,.ref tu])∧TupAt K H c (iB kb)∧sE K H τ tu (M.jK l j kb)) ⟨aq hD2,[],ae,rfl,fun m p hp=>by simp at hp⟩ (fun n H' _ ⟨S,_⟩=>cJ.of (S _ _ f1)) ?_ ?_
   ·rintro n x H' hx ⟨S,ps,g1,g2,g3⟩;obtain⟨c,hc,rfl⟩:=GL hx;obtain⟨kb,hkb,hckb⟩:=kG ekeys hc;obtain⟨o,ho,hoD,_⟩:=M.wA (aqt hkb);obtain⟨tu,o',ho',dd,hent⟩:=at1 (S2.trans S) hckb (by rw[ho];rfl);have eo:o'=M.jK l j kb:=by rw[hoD];rw[ho] at ho';exact(apa ho').symm
    subst eo;refine⟨rfl,_,rfl,_,rfl,_,rfl,e,_,rfl,dd,le2,fun tp ntp=>?_⟩;have S3:=aq (o:=HO.tup [V.ref c,V.ref tu]) ntp;have eD2:D2≠tp:=au g1 ntp;refine⟨_,by rw[ak eD2];exact g1,G6 ?_,?_,ps++[tp],?_,?_,fun m p hp=>?_⟩
    ·rw[aah];have:=(aox.mp hc).1;omega
    ·exact fun b o hb=>by rw[ak (au hb hD2)];exact S3 _ _ (S b o hb)
    ·rw[ae,ak9];rfl
    ·rw[ada,g2];rfl
    ·rcases Nat.lt_or_ge m ps.length with hm|hm
     ·rw[List.getElem?_append_left hm] at hp;obtain⟨kb',c',tu',z1,z2,z3,z4⟩:=g3 m p hp;refine⟨kb',c',tu',z1,?_,z3,z4⟩;rw[ak (ac6 z2 g1 (fun z=>nomatch z)),ak (au z2 ntp)];exact z2
     ·rw[List.getElem?_append_right hm] at hp;have hm0:m - ps.length=0:=by
       have:=(aox.mp hp).1;rw[ar1] at this;omega
      rw[hm0] at hp;cases hp;have hmn:m=n:=by omega
      subst hmn;exact⟨kb,c,tu,hkb,by rw[ak eD2.symm,ae],hckb,hent⟩
   ·rintro H' ⟨S,ps,g1,g2,g3⟩;refine k H' D2 ps (S12.trans S) (S12.free hD2) g1 ?_;refine ZL ?_ fun m p hp=>?_
    ·rw[g2,aah,Paired.length ekeys]
    ·obtain⟨kb,c,tu,z1,z2,z3,z4⟩:=g3 m p hp;exact⟨kb,z1,c,tu,z2,aM.tup (S12.trans S) z3,z4.same (S12.trans S)⟩
end
end KB
namespace KB
open PySem PySem.Spec PyProof.Rows L2
open Sa76 (Id Op Val Bytes ROOT)
def kN(o:Op):List Key:=[.inl (o.r:Int),.inl (o.n:Int)]
theorem acm{o p:Op}:kN o=kN p↔o.r=p.r∧o.n=p.n:=by
 unfold kN;constructor
 ·intro h;injection h with h1 h2;injection h2 with h2 _;injection h1 with h1;injection h2 with h2;exact⟨by omega,by omega⟩
 ·rintro⟨h1,h2⟩;rw[h1,h2]
abbrev wD(ws:List (Addr×Op)):List (List Key×V):=ws.map fun w=>(kN w.2,V.ref w.1)
abbrev kpF(me:Int)(aa ca la:V)(t:Int)(ka wa d:V):List (Str×V):=[("who",.int me),("acts",aa),("counts",ca),("last_times",la),("time",.int t),("known",ka),("waiting",wa),("document",d)]
abbrev NU(s:Sa76.St):List V:=(List.range 8).map fun r=>V.int (Sa76.had s r:Nat)
abbrev Qt(l:List Op):List V:=(List.range 8).map fun r=>V.int (M.K1 l r:Nat)
structure Ab(K:Fg)(a:dX)(H:Hp)(τ:aL)(i:Nat)(p:Addr)(s:Sa76.St):Prop where
 ex:∃ dx aa ca la ka wa d,(H p=some (.ins a.az dx (kpF s.me (.ref aa) (.ref ca) (.ref la) (Sa76.clock s:Nat) (.ref ka) (.ref wa) (.ref d)))∧τ p=.own i .kp)∧τ aa=.own i .Yo∧τ ca=.own i .counts∧τ la=.own i .I0∧τ ka=.own i .known∧τ wa=.own i .waiting∧
  (∃ as,H aa=some (.lst (as.map V.ref))∧Paired (lN K a H τ) as s.log)∧H ca=some (.lst (NU s))∧H la=some (.lst (Qt s.log))∧
  (∃ kvs,H ka=some (.dT kvs)∧kvs.length≤s.log.length+1∧∀ j,(fM kvs (kI j)).isSome=Sa76.known s j)∧
  (∃ ws,H wa=some (.dT (wD ws))∧ws.map (·.2)=s.waits∧∀ w∈ws,lN K a H τ w.1 w.2)∧zo K a H τ i d s.log
abbrev KP(i:Nat):Tag→Prop:=fun t=>∀ p,t≠.own i p
theorem Qu(i:Nat):KP i .hU:=fun _ z=>nomatch z
theorem aoV{i:Nat}(p:Part):∀ t,KP i t→t≠.own i p:=fun _ z=>z p
theorem aql{i:Nat}:∀ t,KP i t→W7 i t:=fun _ z p _=>z p
section
variable{P:Tag→Prop}{K:Fg}{a:dX}{H H':Hp}{τ τ':aL}{i:Nat}{p:Addr}{s:Sa76.St}
theorem Ab.keep(h:Ab K a H τ i p s)(f:Fr P H τ H' τ')(hP:P .hU)(hO:∀ x,P (.own i x)):Ab K a H' τ' i p s:=by
 obtain⟨dx,aa,ca,la,ka,wa,d,q0,q1,q2,q3,q4,q5,⟨as,a1,a2⟩,q6,q7,⟨kk,k1,k2⟩,⟨ws,w1,w2,w3⟩,q8⟩:=h.ex;have kp:∀ {b:Addr} {o:HO} {x:Part},H b=some o→τ b=.own i x→H' b=some o:=fun e z=>f.keep _ _ e (z▸hO _);have tb:∀ {b:Addr} {o:HO} {t:Tag},H b=some o→τ b=t→τ' b=t:=fun e z=>(f.tag _ _ e).trans z;exact⟨dx,aa,ca,la,ka,wa,d,⟨kp q0.1 q0.2,tb q0.1 q0.2⟩,tb a1 q1,tb q6 q2,tb q7 q3,tb k1 q4,tb w1 q5,⟨as,kp a1 q1,Paired.ye a2 fun _ _ z=>z.keep f hP⟩,kp q6 q2,kp q7 q3,⟨kk,kp k1 q4,k2⟩,⟨ws,kp w1 q5,w2,fun w hw=>(w3 w hw).keep f hP⟩,q8.keep f hP fun x _=>hO x⟩
theorem Ab.same(h:Ab K a H τ i p s)(S:aM H H')(g:Tg H τ):Ab K a H' τ i p s:=h.keep (P:=fun _=>True) (Fr.same S g) trivial fun _=>trivial
end
theorem GN{f:Nat→V}{r:Nat}(h:r < 8):((List.range 8).map f)[r]?=some (f r):=by rw[ant,List.getElem?_range h];rfl
theorem ZM{f g:Nat→V}{r:Nat}{v:V}(h1:g r=v)(h2:∀ x,x≠r→g x=f x):((List.range 8).map f).set r v=(List.range 8).map g:=by
 apply List.ext_getElem?;intro j;rw[List.getElem?_set,ant,aah,asH];by_cases e:r=j
 ·subst e;rw[afO rfl];by_cases hr:r < 8
  ·rw[afO hr,ant,List.getElem?_range hr,← h1];rfl
  ·rw[acK hr,ant,atu (by rw[asH];omega)];rfl
 ·rw[acK e,ant];cases hj:(List.range 8)[j]? with
  |none=>rfl
  |some x=>
   have:x=j:=by
    obtain⟨h,hx⟩:=aox.mp hj;rw[List.getElem_range] at hx;exact hx.symm
   subst this;show some (f x)=some (g x);rw[h2 x (fun z=>e z.symm)]
theorem aia{n r:Nat}(h:r < n):ixN n (r:Int)=some r:=by
 unfold ixN;rw[afO (by omega),afO (by omega)];congr 1
def Nd(s:Sa76.St):Prop:=(s.waits.map fun o=>(o.r,o.n)).Nodup
theorem anb(k:Nat):Nd (Sa76.begun k):=asQ
theorem acn{s:Sa76.St}{o:Op}(h:Nd s):Nd (M.Xr s o):=h.sublist (List.Sublist.map _ atl)
theorem aqm:∀ (n:Nat) {s:Sa76.St},s.waits.length≤n→Nd s→Nd (M.fin s):=by
 intro n;induction n with
 |zero=>
  intro s hn h;rw[M.Oc];cases e:M.next s with
  |none=>exact h
  |some o=>
   have:=M.sG e;omega
 |succ n ih=>
  intro s hn h;rw[M.Oc];cases e:M.next s with
  |none=>exact h
  |some o=>exact ih (by have:=M.sG e;omega) (acn h)
theorem ai5{s:Sa76.St}{o:Op}(h:Nd s)(hn:(s.waits.any fun p=>p.r == o.r && p.n == o.n)=false):Nd { s with waits:=s.waits++[o] }:=by
 unfold Nd at h ⊢;rw[ak9,atN];refine⟨h,by simp,fun x hx y hy e=>?_⟩;obtain⟨q,hq,rfl⟩:=aou.mp hx;rw[ajR,atv,aoJ] at hy;subst hy;rw[List.any_eq_false] at hn;refine hn q hq ?_;rw[Prod.mk.injEq] at e;rw[anr,asR,asR];exact e
theorem aoy{s:Sa76.St}{o:Op}(h:Nd s):Nd (Sa76.come s o):=by
 rw[M.SA];by_cases e:M.out s o
 ·rw[afO e];exact h
 ·rw[acK e];refine aqm _ (aiM _) (ai5 h ?_);cases hz:(s.waits.any fun p=>p.r == o.r && p.n == o.n) with
  |false=>rfl
  |true=>exact absurd (.inr (.inr (.inl hz))) e
theorem W9:∀ {ws:List (Addr×Op)} {o:Op},(fM (wD ws) (kN o)).isSome=(ws.map (·.2)).any fun p=>p.r == o.r && p.n == o.n
 |[],o=>rfl
 |w::ws,o=>by
  show(fM ((kN w.2,V.ref w.1)::wD ws) (kN o)).isSome=_;rw[ajR,atV,← W9];by_cases e:kN w.2=kN o
  ·rw[gE e];have:=acm.mp e;simp[this.1,this.2]
  ·rw[iq e];have z:(w.2.r == o.r && w.2.n == o.n)=false:=by
    cases hz:(w.2.r == o.r && w.2.n == o.n) with
    |false=>rfl
    |true=>
     rw[anr,asR,asR] at hz;exact absurd (acm.mpr hz) e
   rw[z,Bool.false_or]
theorem aco:∀ {ws:List (Addr×Op)} {w:Addr×Op},(ws.map fun w=>(w.2.r,w.2.n)).Nodup→w∈ws→fM (wD ws) (kN w.2)=some (.ref w.1)
 |x::ws,w,hn,hw=>by
  show fM ((kN x.2,V.ref x.1)::wD ws) (kN w.2)=_;rw[ajR,arA] at hn;rcases akS.mp hw with rfl|hw
  ·rw[gE rfl]
  ·rw[iq (fun e=>hn.1 (by
    rw[acm] at e;rw[e.1,e.2];exact aou.mpr ⟨w,hw,rfl⟩))]
   exact aco hn.2 hw
theorem akY(ws:List (Addr×Op))(o:Op):Ua (wD ws) (kN o)=wD (ws.filter fun w=>!(w.2.r == o.r && w.2.n == o.n)):=by
 unfold Ua wD;rw[List.filter_map];congr 1;apply List.filter_congr;intro w _;show decide (kN w.2≠kN o)=_;rw[ase,asE];simp only[ne_eq,acm,Bool.not_eq_true',Bool.and_eq_false_iff,arH];constructor
 ·intro h;by_cases e:w.2.r=o.r
  ·exact .inr fun z=>h ⟨e,z⟩
  ·exact .inl e
 ·rintro(h|h) ⟨z1,z2⟩
  ·exact h z1
  ·exact h z2
theorem aib(ws:List (Addr×Op))(o:Op):(ws.filter fun w=>!(w.2.r == o.r && w.2.n == o.n)).map (·.2)=(ws.map (·.2)).filter fun p=>!(p.r == o.r && p.n == o.n):=by
 rw[List.filter_map];rfl
end KB
namespace KB
open PySem PySem.Spec PyProof.Rows L2
open Sa76 (Id Op Val Bytes ROOT)
section
variable{P:Program}{w:World}{K:Fg}{mg:Str→Option Value}{base:Heap}{a:dX}
def zx82(K:Fg)(a:dX)(vs:List V)(H:Hp)(Q:VK):=fun(τ:aL) (i:Nat) (p:Addr) (s:Sa76.St)=>(vs=[.ref p]∧Ab K a H τ i p s∧Q (.bl (decide (s.log.length < 4096))) H)
def KL(K:Fg)(a:dX):Sp:=fun vs H Q _=>zx_4 (zx82 K a vs H Q)
theorem xR(T:Txt K mg a):bL P w K mg base jk 1 a.cD a.lB kT (KL K a):=by
 refine T.yR.ok Jp (fun vs H Q E h=>?_) (fun cdv A outer sh H vs Q E hr h=>?_)
 ·obtain⟨τ,i,p,s,rfl,_⟩:=h;rfl
 ·obtain⟨τ,i,p,s,rfl,hk,k⟩:=h;refine⟨_,(ao (aJ (yj EL (cj bC (by rfl) T.nh (by decide +kernel) (af (aA (pv 0) rfl) aj)) (gI T.Q3) (bf _)))),?_⟩;obtain⟨dx,aa,ca,la,ka,wa,d,q0,q1,q2,q3,q4,q5,⟨as,a1,a2⟩,_⟩:=hk.ex;refine⟨_,rfl,p,_,dx,_,_,rfl,q0.1,T.aO,T.m7,rfl,aa,_,rfl,.inl (cJ.of a1),_,_,rfl,rfl,?_⟩;have e:decide (((as.map V.ref).length:Int) < 4096)=decide (s.log.length < 4096):=by
   rw[aah,Paired.length a2,ati];omega
  show Q (.bl (decide (((as.map V.ref).length:Int) < 4096))) H;rw[e];exact k
def zx83(K:Fg)(a:dX)(vs:List V)(H:Hp)(Q:VK):=fun(τ:aL) (i:Nat) (p:Addr) (s:Sa76.St)=>(vs=[.ref p]∧Ab K a H τ i p s∧∀ b:Bool,b=decide (s.log.length < 4096∧Sa76.clock s < 4294967295)→Q (.bl b) H)
def Em(K:Fg)(a:dX):Sp:=fun vs H Q _=>zx_4 (zx83 K a vs H Q)
theorem En(T:Txt K mg a):bL P w K mg base jk 2 a.bN a.jh jc (Em K a):=by
 refine T.uo.ok Ds (fun vs H Q E h=>?_) (fun cdv A outer sh H vs Q E hr h=>?_)
 ·obtain⟨τ,i,p,s,rfl,_⟩:=h;rfl
 ·obtain⟨τ,i,p,s,rfl,hk,k⟩:=h;refine⟨_,(ao (aJ (age (aT (pv 0) T.aO T.pU (xR T) (hr.mono (by decide)) T.rq .nil aG) (aaa (yj EL (aA (pv 0) rfl) (gI T.Q4) (bf _)))))),?_⟩;obtain⟨dx,aa,ca,la,ka,wa,d,q0,_⟩:=hk.ex;refine⟨_,rfl,p,dx,_,rfl,q0.1,rfl,τ,i,p,s,rfl,hk,_,rfl,?_⟩;by_cases h:s.log.length < 4096
  ·refine rO h ?_;refine⟨_,rfl,p,_,dx,_,_,rfl,q0.1,T.aO,T.ko,rfl,_,_,rfl,rfl,?_⟩;refine k _ ?_;rw[ati];exact⟨fun z=>⟨h,by omega⟩,fun z=>by have:=z.2;omega⟩
  ·refine mQ h ?_;exact k _ (aqz fun z=>h z.1).symm
def zx84(K:Fg)(a:dX)(vs:List V)(H:Hp)(Q:VK):=fun(τ:aL) (i:Nat) (p x:Addr) (s:Sa76.St) (o:Op)=>(vs=[.ref p,.ref x]∧Tg H τ∧Ab K a H τ i p s∧lN K a H τ x o∧M.oS o∧M.Wf (s.log++[o])∧s.log.length≤4096∧(∀ q∈s.log,q.r=o.r→q.t < o.t)∧∀ H' τ',Ab K a H' τ' i p { s with log:=s.log++[o] }→Fr (KP i) H τ H' τ'→Q .dN H')
def Xa(K:Fg)(a:dX):Sp:=fun vs H Q _=>zx_6 (zx84 K a vs H Q)
theorem GO(T:Txt K mg a):bL P w K mg base jk 5 a.fF a.qS qH (Xa K a):=by
 refine T.ID.ok Ul (fun vs H Q E h=>?_) (fun cdv A outer sh H vs Q E hr h=>?_)
 ·obtain⟨τ,i,p,x,s,o,rfl,_⟩:=h;rfl
 ·obtain⟨τ,i,p,x,s,o,rfl,g,hk,hx,cI,hw,hl,hlast,k⟩:=h;refine⟨_,(ah (di (rS anK apf apl iK (aA (pv 0) rfl) (af (pv 1) aj)))
   (ah (anI (aA (pv 0) rfl) (aA (pv 1) rfl) ajV aW agf set_list)
   (ah (alC (aA (pv 1) rfl) (alB (aA (pv 0) rfl) (aA (pv 1) rfl) set_list))
   (ah (fK (pv 0) (cj (ajH rfl) (by rfl) T.aoQ (by decide +kernel) (af (aA (pv 0) rfl) (af (aA (pv 1) rfl) aj))) rfl)
   (ah (o9 (eV hr) (aA (pv 0) rfl) (aT (pv 1) T.bG T.gc (ic T) (hr.mono (by decide)) T.gF .nil aG) TV rfl)
   (ao (di (dP (aA (pv 0) rfl) T.aS T.yM (NT T) (hr.mono (by decide)) T.Au .nil aG (af (pv 1) aj))))))))),?_⟩
  obtain⟨dx,aa,ca,la,ka,wa,d,q0,q1,q2,q3,q4,q5,⟨as,a1,a2⟩,q6,q7,⟨kk,k1,k2,k3⟩,⟨ws,w1,w2,w3⟩,hd⟩:=hk.ex;obtain⟨xdx,c,hx0,hxc⟩:=hx.ex;obtain⟨ddx,dk,dm,ds,dc,hd0,_⟩:=id hd.ex;have hr8:o.r < 8:=cI.r;have hl1:(s.log++[o]).length=s.log.length+1:=by rw[ada];rfl
  have asl:as.length=s.log.length:=Paired.length a2;refine⟨_,rfl,p,_,dx,_,_,rfl,q0.1,T.aO,T.m7,rfl,.inl ⟨rfl,_,cJ.of a1⟩,_,rfl,aa,_,_,rfl,rfl,a1,G6 (by rw[aah];omega),?_⟩;have F1:Fr (fun t=>t≠.own i .Yo) H τ (upd H aa (.lst (as.map V.ref++[.ref x]))) τ:=Fr.upd a1 (by rw[q1];exact fun z=>z rfl) g;have b1:(upd H aa (.lst (as.map V.ref++[.ref x]))) aa=some (.lst (as.map V.ref++[.ref x])):=ae;generalize upd H aa (.lst (as.map V.ref++[.ref x]))=H1 at F1 b1;have i1:(Tag.hU:Tag)≠.own i .Yo:=fun z=>nomatch z;have p1:=F1.keep _ _ q0.1 (by rw[q0.2];exact fun z=>nomatch z);have x1:=(F1.im i1 hx0).1;have c1:=F1.keep _ _ q6 (by rw[q2];exact fun z=>nomatch z);refine⟨_,rfl,p,_,dx,_,_,rfl,p1,T.aO,T.fq,rfl,_,rfl,x,_,xdx,_,_,rfl,x1,T.bG,T.cT,rfl,ca,_,_,_,rfl,rfl,cJ.of c1,l5 (GN hr8),_,_,rfl,rfl,ca,_,_,o.r,rfl,rfl,c1,aia (by rw[aah,asH];exact hr8),?_⟩;have ec:((List.range 8).map fun r=>V.int (Sa76.had s r:Nat)).set o.r (.int ((Sa76.had s o.r:Nat)+1))=NU { s with log:=s.log++[o] }:=by
   refine ZM ?_ fun y hy=>?_
   ·rw[M.acO s o s.waits o.r,afO rfl];rfl
   ·rw[M.acO s o s.waits y,acK (fun z=>hy z.symm)];rfl
  rw[ec];have F2:Fr (fun t=>t≠.own i .counts) H1 τ (upd H1 ca (.lst (NU { s with log:=s.log++[o] }))) τ:=Fr.upd c1 (by rw[q2];exact fun z=>z rfl) F1.tg;have b2:(upd H1 ca (.lst (NU { s with log:=s.log++[o] }))) ca=some (.lst (NU { s with log:=s.log++[o] })):=ae;generalize upd H1 ca (.lst (NU { s with log:=s.log++[o] }))=H2 at F2 b2;have i2:(Tag.hU:Tag)≠.own i .counts:=fun z=>nomatch z;have p2:=F2.keep _ _ p1 (by rw[q0.2];exact fun z=>nomatch z);have x2:=(F2.im i2 ⟨x1,hx0.2⟩).1;have l2:=F2.keep _ _ (F1.keep _ _ q7 (by rw[q3];exact fun z=>nomatch z)) (by rw[q3];exact fun z=>nomatch z);refine⟨_,rfl,x,_,xdx,_,_,rfl,x2,T.bG,T.wN,rfl,_,rfl,p,_,dx,_,_,rfl,p2,T.aO,T.jG,rfl,_,rfl,x,_,xdx,_,_,rfl,x2,T.bG,T.cT,rfl,la,_,_,o.r,rfl,rfl,l2,aia (by rw[aah,asH];exact hr8),?_⟩;have el:((List.range 8).map fun r=>V.int (M.K1 s.log r:Nat)).set o.r (.int (o.t:Int))=Qt (s.log++[o]):=by
   refine ZM ?_ fun y hy=>?_
   ·rw[M.TJ _ _ _ hlast,afO rfl]
   ·rw[M.TJ _ _ _ hlast,acK (fun z=>hy z.symm)]
  rw[el];have F3:Fr (fun t=>t≠.own i .I0) H2 τ (upd H2 la (.lst (Qt (s.log++[o])))) τ:=Fr.upd l2 (by rw[q3];exact fun z=>z rfl) F2.tg;have b3:(upd H2 la (.lst (Qt (s.log++[o])))) la=some (.lst (Qt (s.log++[o]))):=ae;generalize upd H2 la (.lst (Qt (s.log++[o])))=H3 at F3 b3;have i3:(Tag.hU:Tag)≠.own i .I0:=fun z=>nomatch z;have p3:=F3.keep _ _ p2 (by rw[q0.2];exact fun z=>nomatch z);have x3:=(F3.im i3 ⟨x2,hx0.2⟩).1;refine⟨_,rfl,p,_,dx,_,_,rfl,p3,T.aO,T.ko,rfl,_,rfl,x,_,xdx,_,_,rfl,x3,T.bG,T.wN,rfl,_,_,rfl,_,rfl,p,_,dx,_,rfl,p3,T.aO,T.ko,(by show 8 < 1000;decide),?_⟩;have et:(if (o.t:Int) > (Sa76.clock s:Nat) then(o.t:Int) else(Sa76.clock s:Nat))=((Sa76.clock { s with log:=s.log++[o] }:Nat):Int):=by
   rw[M.afR s o s.waits];by_cases z:(o.t:Int) > (Sa76.clock s:Nat)
   ·rw[afO z,Nat.max_eq_right (by omega)]
   ·rw[acK z,Nat.max_eq_left (by omega)]
  rw[et];have F4:Fr (fun t=>t≠.own i .kp) H3 τ (upd H3 p (.ins a.az dx (kpF s.me (.ref aa) (.ref ca) (.ref la) (Sa76.clock { s with log:=s.log++[o] }:Nat) (.ref ka) (.ref wa) (.ref d)))) τ:=Fr.upd p3 (by rw[q0.2];exact fun z=>z rfl) F3.tg;have b4:(upd H3 p (.ins a.az dx (kpF s.me (.ref aa) (.ref ca) (.ref la) (Sa76.clock { s with log:=s.log++[o] }:Nat) (.ref ka) (.ref wa) (.ref d)))) p=some (.ins a.az dx (kpF s.me (.ref aa) (.ref ca) (.ref la) (Sa76.clock { s with log:=s.log++[o] }:Nat) (.ref ka) (.ref wa) (.ref d))):=ae;have i4:(Tag.hU:Tag)≠.own i .kp:=fun z=>nomatch z;have x4:=(F4.im i4 ⟨x3,hx0.2⟩).1;have kn4:=F4.keep _ _ (F3.keep _ _ (F2.keep _ _ (F1.keep _ _ k1 (by rw[q4];exact fun z=>nomatch z)) (by rw[q4];exact fun z=>nomatch z)) (by rw[q4];exact fun z=>nomatch z)) (by rw[q4];exact fun z=>nomatch z);show aab _ _ _ _ (upd H3 p (.ins a.az dx (kpF s.me (.ref aa) (.ref ca) (.ref la) (Sa76.clock { s with log:=s.log++[o] }:Nat) (.ref ka) (.ref wa) (.ref d))));generalize upd H3 p (.ins a.az dx (kpF s.me (.ref aa) (.ref ca) (.ref la) (Sa76.clock { s with log:=s.log++[o] }:Nat) (.ref ka) (.ref wa) (.ref d)))=H4 at F4 b4 x4 kn4;refine⟨_,rfl,p,_,dx,_,_,rfl,b4,T.aO,T.pG,rfl,_,rfl,x,xdx,_,rfl,x4,rfl,x,xdx,_,_,_,_,rfl,x4,fun ia n5=>?_⟩;have S5:=aq (o:=HO.tup [V.int (o.t:Int),V.int (o.r:Int)]) n5;have e5:TupAt K (upd H4 ia (.tup [.int (o.t:Int),.int (o.r:Int)])) ia ((kI o.id).map kV):=.inl ae;generalize upd H4 ia (.tup [.int (o.t:Int),.int (o.r:Int)])=H5 at S5 e5;have F5:Fr (fun _=>True) H4 τ H5 τ:=Fr.same S5 F4.tg;refine⟨ka,_,rfl,BK.t (S5 _ _ kn4) e5 (G6 (by omega)),?_⟩;have F6:Fr (fun t=>t≠.own i .known) H5 τ (upd H5 ka (.dT (putK kk (kI o.id) (.bl true)))) τ:=Fr.upd (S5 _ _ kn4) (by rw[q4];exact fun z=>z rfl) F5.tg;have b6:(upd H5 ka (.dT (putK kk (kI o.id) (.bl true)))) ka=some (.dT (putK kk (kI o.id) (.bl true))):=ae;generalize upd H5 ka (.dT (putK kk (kI o.id) (.bl true)))=H6 at F6 b6;have FA:Fr (fun t=>t≠.own i .Yo∧t≠.own i .counts∧t≠.own i .I0∧t≠.own i .kp∧t≠.own i .known) H τ H6 τ:=
   ((((F1.mono fun _ z=>z.1).trans (F2.mono fun _ z=>z.2.1)).trans (F3.mono fun _ z=>z.2.2.1)).trans (F4.mono fun _ z=>z.2.2.2.1)).trans ((F5.mono fun _ _=>trivial).trans (F6.mono fun _ z=>z.2.2.2.2))
  have jA:(Tag.hU:Tag)≠.own i .Yo∧(Tag.hU:Tag)≠.own i .counts∧(Tag.hU:Tag)≠.own i .I0∧(Tag.hU:Tag)≠.own i .kp∧(Tag.hU:Tag)≠.own i .known:=⟨(fun z=>nomatch z),(fun z=>nomatch z),(fun z=>nomatch z),(fun z=>nomatch z),(fun z=>nomatch z)⟩;have p6:=F6.keep _ _ (S5 _ _ b4) (by rw[q0.2];exact fun z=>nomatch z);have d6:zo K a H6 τ i d s.log:=hd.keep FA jA fun y hy=>by
   cases y <;> first|(cases hy;done)|exact⟨(fun z=>nomatch z),(fun z=>nomatch z),(fun z=>nomatch z),(fun z=>nomatch z),(fun z=>nomatch z)⟩
  have hd6:=FA.im jA hd0;have hx6:=hx.keep FA jA;have a6:=F6.keep _ _ (S5 _ _ (F4.keep _ _ (F3.keep _ _ (F2.keep _ _ b1 (by rw[q1];exact fun z=>nomatch z)) (by rw[q1];exact fun z=>nomatch z)) (by rw[q1];exact fun z=>nomatch z))) (by rw[q1];exact fun z=>nomatch z);have c6:=F6.keep _ _ (S5 _ _ (F4.keep _ _ (F3.keep _ _ b2 (by rw[q2];exact fun z=>nomatch z)) (by rw[q2];exact fun z=>nomatch z))) (by rw[q2];exact fun z=>nomatch z);have l6:=F6.keep _ _ (S5 _ _ (F4.keep _ _ b3 (by rw[q3];exact fun z=>nomatch z))) (by rw[q3];exact fun z=>nomatch z);have w6:=FA.keep _ _ w1 (by rw[q5];exact⟨(fun z=>nomatch z),(fun z=>nomatch z),(fun z=>nomatch z),(fun z=>nomatch z),(fun z=>nomatch z)⟩);refine⟨_,rfl,p,_,dx,_,_,rfl,p6,T.aO,T.b9,rfl,d,ddx,_,rfl,hd6.1,rfl,_,rfl,τ,i,d,x,s.log,o,rfl,FA.tg,d6,hx6,hw,cI,by omega,fun H7 τ7 hd7 F7=>?_⟩;have kp7:∀ {b:Addr} {y:HO} {u:Part},H6 b=some y→τ b=.own i u→SY u=false→H7 b=some y∧τ7 b=.own i u:=fun{b y u} e t hu=>⟨F7.keep _ _ e (by rw[t];exact fun v hv z=>by injection z with _ z;rw[z,hv] at hu;cases hu),(F7.tag _ _ e).trans t⟩;have F:Fr (KP i) H τ H7 τ7:=(FA.mono fun _ z=>⟨z _,z _,z _,z _,z _⟩).trans (F7.mono fun t z=>aql t z);have i7:=W8 i;refine k H7 τ7 ⟨dx,aa,ca,la,ka,wa,d,kp7 p6 q0.2 rfl,(kp7 a6 q1 rfl).2,(kp7 c6 q2 rfl).2,(kp7 l6 q3 rfl).2,(kp7 b6 q4 rfl).2,(kp7 w6 q5 rfl).2,⟨as++[x],?_,?_⟩,(kp7 c6 q2 rfl).1,(kp7 l6 q3 rfl).1,⟨_,(kp7 b6 q4 rfl).1,?_,fun j=>?_⟩,⟨ws,(kp7 w6 q5 rfl).1,w2,fun v hv=>((w3 v hv).keep FA jA).keep F7 i7⟩,hd7⟩ F
  ·rw[ak9];exact(kp7 a6 q1 rfl).1
  ·exact eA (hx6.keep F7 i7) (Paired.ye a2 fun _ _ z=>(z.keep FA jA).keep F7 i7)
  ·have:=fh kk (kI o.id) (.bl true);show _≤(s.log++[o]).length+1;omega
  ·rw[M.af6 s o s.waits j,← k3 j];by_cases e:j=o.id
   ·subst e;rw[jq];simp
   ·rw[mO (fun z=>e (oR z))];simp[e]
end
end KB
namespace L2
open PySem PySem.Spec PyProof.Rows
theorem akZ{K:Fg}{d:Addr}{od:Obj}{kvs:List (List Key×V)}{g:TG}{tb:TS}{D:Ends}{σ:St}{H:Hp}(Pv:Nat→St→Hp→Prop)(h0:Pv 0 σ H)(hl:∀ i σ H,i≤kvs.length→Pv i σ H→H d=some (.uD od (.dT kvs)))
  (hs:∀ i k v q σ H,kvs[i]?=some (k,v)→TupAt K H q (k.map kV)→Pv i σ H→g (.ref q) σ H fun σ2 H2=>tb { D with nx:=Pv (i+1),ct:=Pv (i+1),bk:=D.nx } σ2 H2) (hd:∀ σ H,Pv kvs.length σ H→D.nx σ H) :
  ∃ W:Nat→Nat→St→Hp→Prop,(∃ m,W 0 m σ H)∧∀ i m σ H,W i m σ H→
   ((al3 K d od kvs).stop i H∧D.nx σ H)∨((al3 K d od kvs).go i H∧∃ N:St→Hp→Prop,(∀ σ' H',N σ' H'→∃ m',m' < m∧W (i+1) m' σ' H')∧∀ x H',(al3 K d od kvs).yld i H x H'→g x σ H' fun σ2 H2=>tb { D with nx:=N,ct:=N,bk:=D.nx } σ2 H2):=by
 refine⟨fun i m σ H=>m=kvs.length - i∧i≤kvs.length∧Pv i σ H,⟨kvs.length,by simp,aqu _,h0⟩,?_⟩;rintro i m σ H ⟨rfl,hi,p⟩;have q:=hl i σ H hi p;by_cases hlt:i < kvs.length
 ·refine .inr ⟨⟨q,hlt⟩,Pv (i+1),fun σ' H' p'=>⟨kvs.length - (i+1),by omega,rfl,hlt,p'⟩,fun x H' y=>?_⟩;obtain⟨e,k,v,b,h1,h2,h3⟩:=y;subst e h2;exact hs i k v b σ _ h1 h3 p
 ·have e:i=kvs.length:=by omega
  subst e;exact .inl ⟨⟨q,aiM _⟩,hd σ H p⟩
end L2
namespace KB
open PySem PySem.Spec PyProof.Rows L2
open Sa76 (Id Op Val Bytes ROOT)
theorem afx{K:Fg}{H:Hp}{τ:aL}{ta:Addr}{el:V}{o:Op}(ht:eL K H τ ta o.obj)(he:WO (eL K H τ) el (Su o.act)):∃ ids:List Addr,(if el=.dN then [V.ref ta] else [V.ref ta,el])=ids.map V.ref∧Paired (eL K H τ) ids (Sa76.told o):=by
 rw[Qk];cases e:Su o.act with
 |none=>
  rw[e] at he;have he:el=.dN:=he;rw[afO he];exact⟨[ta],rfl,.cons ht .nil⟩
 |some b=>
  rw[e] at he;obtain⟨ea,rfl,h⟩:=he;rw[acK (fun z=>nomatch z)];exact⟨[ta,ea],rfl,.cons ht (.cons h .nil)⟩
section
variable{P:Program}{w:World}{K:Fg}{mg:Str→Option Value}{base:Heap}{a:dX}
def zx85(K:Fg)(a:dX)(vs:List V)(H:Hp)(Q:VK):=fun(τ:aL) (i:Nat) (p c:Addr) (s:Sa76.St) (o:Op)=>(vs=[.ref p,.ref c]∧Tg H τ∧Ab K a H τ i p s∧Ia K a H τ c o.obj o.act∧o.r=s.me∧o.n=Sa76.had s s.me+1∧o.t=Sa76.clock s+1∧M.oS o∧M.Wf (s.log++[o])∧s.log.length≤4096∧∀ H' τ' y,Ab K a H' τ' i p { s with log:=s.log++[o] }→Fr (KP i) H τ H' τ'→lN K a H' τ' y o→Q (.ref y) H')
def acp(K:Fg)(a:dX):Sp:=fun vs H Q _=>zx_6 (zx85 K a vs H Q)
theorem acq(T:Txt K mg a):bL P w K mg base jk 6 a.iJ a.vN vC (acp K a):=by
 refine T.QV.ok Lk (fun vs H Q E h=>?_) (fun cdv A outer sh H vs Q E hr h=>?_)
 ·obtain⟨τ,i,p,c,s,o,rfl,_⟩:=h;rfl
 ·obtain⟨τ,i,p,c,s,o,rfl,g,hk,hc,h1,h2,h3,cI,hw,hl,k⟩:=h;refine⟨_,(ah (aP (i:=2) Lk.nd rfl (.inl rfl) (SH T.agH (Rq T) (hr.mono (by decide)) rfl T.amc T.Jr .nil aG (af (aA (pv 0) rfl) (af (fZ uF (c9 bS (aA (pv 0) rfl) (aA (pv 0) rfl) (fun _ _=>rfl)) aW) (af (fZ uF (aA (pv 0) rfl) aW) (af (pv 1) aj))))))
   (ah (di (dP (pv 0) T.aO T.wQ (GO T) (hr.mono (by decide)) T.zE .nil aG (af (pv 2) aj)))
   (ao (aJ (pv 2))))),?_⟩
  obtain⟨dx,aa,ca,la,ka,wa,d,q0,q1,q2,q3,q4,q5,_,q6,_⟩:=hk.ex;have hr8:s.me < 8:=h1▸cI.r;refine⟨_,rfl,p,_,dx,_,_,rfl,q0.1,T.aO,T.oX,rfl,_,rfl,p,_,dx,_,_,rfl,q0.1,T.aO,T.fq,rfl,_,rfl,p,_,dx,_,_,rfl,q0.1,T.aO,T.oX,rfl,ca,_,_,_,rfl,rfl,cJ.of q6,l5 (GN hr8),_,_,rfl,rfl,_,rfl,p,_,dx,_,_,rfl,q0.1,T.aO,T.ko,rfl,_,_,rfl,rfl,_,rfl,fun x xd nx nxd ne=>⟨x,xd,_,_,_,_,rfl,ae,rfl,?_⟩⟩;rw[fJ];have e2:((Sa76.had s s.me:Nat):Int)+1=((o.n:Nat):Int):=by rw[h2];omega
  have e3:((Sa76.clock s:Nat):Int)+1=((o.t:Nat):Int):=by rw[h3];omega
  rw[e2,e3,← h1];obtain⟨S1,c1⟩:=am7 (a:=a) nx nxd g hc;generalize upd (upd H xd (.own x)) x (.ins a.iH xd (acF o.r o.n o.t (.ref c)))=H1 at S1 c1;have hk1:=hk.same S1 g;obtain⟨dx1,_,_,_,_,_,_,q01,_⟩:=id hk1.ex;have hlast:∀ q∈s.log,q.r=o.r→q.t < o.t:=fun q hq _=>by
   have:=M.acN hq;omega
  refine⟨_,rfl,p,dx1,_,rfl,q01.1,rfl,_,rfl,τ,i,p,x,s,o,rfl,aM.tg S1 g,hk1,c1,cI,hw,hl,hlast,fun H2 τ2 hk2 F2=>?_⟩;refine⟨_,rfl,?_⟩;exact k H2 τ2 x hk2 ((Fr.same S1 g).trans F2) (c1.keep F2 (Qu i))
def zx86(K:Fg)(a:dX)(vs:List V)(H:Hp)(Q:VK):=fun(τ:aL) (i:Nat) (p x:Addr) (s:Sa76.St) (o:Op)=>(vs=[.ref p,.ref x]∧Ab K a H τ i p s∧lN K a H τ x o∧M.oS o∧∀ H' (b:Bool),aM H H'→(b=true↔M.out s o)→Q (.bl b) H')
def GP(K:Fg)(a:dX):Sp:=fun vs H Q _=>zx_6 (zx86 K a vs H Q)
theorem GQ(T:Txt K mg a):bL P w K mg base jk 1 a.bU a.jD jv (GP K a):=by
 refine T.uR.ok EZ (fun vs H Q E h=>?_) (fun cdv A outer sh H vs Q E hr h=>?_)
 ·obtain⟨τ,i,p,x,s,o,rfl,_⟩:=h;rfl
 ·obtain⟨τ,i,p,x,s,o,rfl,hk,hx,cI,k⟩:=h;refine⟨_,(ah (bQ (PW.pt (yi (aY jr (aA (pv 1) rfl) (aA (pv 0) rfl) (bf _)) (uE (aY rR (aA (pv 1) rfl) (c9 bS (aA (pv 0) rfl) (aA (pv 1) rfl) (fun _ _=>rfl)) (bf _))))) (ao (aJ TV)) aZ)
   (ao (aJ (aqI (alx (agt (eV hr) (BJ (af (aA (pv 1) rfl) (af (aA (pv 1) rfl) aj))) (aA (pv 0) rfl))) (aaa (yj aoL (cj agC (by rfl) T.nh PySem.boot_len (af (aA (pv 0) rfl) aj)) (gI T.Ff) (bf _))))))),?_⟩
  obtain⟨dx,aa,ca,la,ka,wa,d,q0,q1,q2,q3,q4,q5,_,q6,_,_,⟨ws,w1,w2,w3⟩,_⟩:=hk.ex;obtain⟨xdx,c,hx0,_⟩:=hx.ex;refine⟨_,rfl,x,_,xdx,_,_,rfl,hx0.1,T.bG,T.cT,rfl,_,rfl,p,_,dx,_,_,rfl,q0.1,T.aO,T.oX,rfl,rfl,_,rfl,?_⟩;by_cases h1:o.r=s.me
  ·exact rO (by rw[h1]) (iO (k H true (aM.refl H) ⟨fun _=>.inl h1,fun _=>rfl⟩))
  refine mQ (by intro z;injection z with z;exact h1 (by omega)) ?_;refine⟨_,rfl,x,_,xdx,_,_,rfl,hx0.1,T.bG,T.ud,rfl,_,rfl,p,_,dx,_,_,rfl,q0.1,T.aO,T.fq,rfl,_,rfl,x,_,xdx,_,_,rfl,hx0.1,T.bG,T.cT,rfl,ca,_,_,_,rfl,rfl,cJ.of q6,l5 (GN cI.r),_,_,rfl,rfl,_,rfl,?_⟩;by_cases h2:o.n≤Sa76.had s o.r
  ·exact rO (by omega) (k H true (aM.refl H) ⟨fun _=>.inr (.inl h2),fun _=>rfl⟩)
  refine mQ (by omega) ?_;refine⟨_,rfl,x,_,xdx,_,_,rfl,hx0.1,T.bG,T.cT,rfl,_,rfl,x,_,xdx,_,_,rfl,hx0.1,T.bG,T.ud,rfl,le2,fun t1 n1=>?_⟩;have S1:=aq (o:=HO.tup [V.int (o.r:Int),V.int (o.n:Int)]) n1;have e1:TupAt K (upd H t1 (.tup [.int (o.r:Int),.int (o.n:Int)])) t1 ((kN o).map kV):=.inl ae;generalize upd H t1 (.tup [.int (o.r:Int),.int (o.n:Int)])=H1 at S1 e1;refine⟨_,rfl,p,_,dx,_,_,rfl,S1 _ _ q0.1,T.aO,T.eu,rfl,wa,_,rfl,mP.t (S1 _ _ w1) e1,_,rfl,?_⟩;rw[W9,w2];cases h3:s.waits.any fun q=>q.r == o.r && q.n == o.n with
  |true=>exact iO (k H1 true S1 ⟨fun _=>.inr (.inr (.inl h3)),fun _=>rfl⟩)
  |false=>
   refine zy ?_;refine⟨_,rfl,p,_,dx,_,_,rfl,S1 _ _ q0.1,T.aO,T.eu,rfl,wa,_,rfl,.inl (S1 _ _ w1),_,_,rfl,rfl,?_⟩;refine k H1 _ S1 ?_;rw[asE,aah];have el:ws.length=s.waits.length:=by rw[← w2,aah]
   unfold M.out;rw[h3,el];constructor
   ·intro z;exact .inr (.inr (.inr (by show 256≤_;omega)))
   ·rintro(z|z|z|z)
    ·exact absurd z h1
    ·exact absurd z h2
    ·cases z
    ·have z:256≤s.waits.length:=z;omega
def zx87(K:Fg)(a:dX)(vs:List V)(H:Hp)(Q:VK):=fun(τ:aL) (p dx x aa ca la ka wa d:Addr) (s:Sa76.St) (o:Op) (kvs:List (List Key×V))=>(vs=[.ref p,.ref x]∧H p=some (.ins a.az dx (kpF s.me (.ref aa) (.ref ca) (.ref la) (Sa76.clock s:Nat) (.ref ka) (.ref wa) (.ref d)))∧H ca=some (.lst (NU s))∧H la=some (.lst (Qt s.log))∧H ka=some (.dT kvs)∧(∀ j,(fM kvs (kI j)).isSome=Sa76.known s j)∧lN K a H τ x o∧M.oS o∧∀ H',aM H H'→Q (.bl (Sa76.ready s o)) H')
def KN(K:Fg)(a:dX):Sp:=fun vs H Q _=>zx_13 (zx87 K a vs H Q)
theorem KO(T:Txt K mg a):bL P w K mg base jk 2 a.cE a.lC kW (KN K a):=by
 refine T.yS.ok pR (fun vs H Q E h=>?_) (fun cdv A outer sh H vs Q E hr h=>?_)
 ·obtain⟨τ,p,dx,x,aa,ca,la,ka,wa,d,s,o,kvs,rfl,_⟩:=h;rfl
 ·obtain⟨τ,p,dx,x,aa,ca,la,ka,wa,d,s,o,kvs,rfl,q0,q6,q7,k1,k2,hx,cI,k⟩:=h;refine⟨_,(ah (bQ (PW.pt (yi (aY K5 (aA (pv 1) rfl) (fZ uF (c9 bS (aA (pv 0) rfl) (aA (pv 1) rfl) (fun _ _=>rfl)) aW) (bf _)) (uE (aY rR (aA (pv 1) rfl) (c9 bS (aA (pv 0) rfl) (aA (pv 1) rfl) (fun _ _=>rfl)) (bf _))))) (ao (aJ TV)) aZ)
   (ao (aJ (cj (apD rfl) (by rfl) T.aoR (by decide +kernel) (af (adn (own:=[("identity",2)]) rfl pR.nd (vo (aT (aA (pv 1) rfl) T.aN T.ow (yg T) (hr.mono (by decide)) T.oZ .nil aG)) (Al (by kernel_rfl)) (fun _ _ _ _ _=>(l0 (i:=2) pR.nd rfl (.inl rfl))) (fun _ _ _ _ _=>K8) (fun _ _ _ _ _=>(show PE _ _ (aq4 K (Om 2) (apw K (Om 0) "known")) from(alx (agt (eV hr) (pv 2) (aA (pv 0) rfl)))))) aj))))),?_⟩
  obtain⟨xdx,c,hx0,hxc⟩:=hx.ex;obtain⟨cdx,ta,key,el,vv,hc0,hta,_,hel,_⟩:=hxc.ex;rw[M.ac1 cI.t1] at k;refine⟨_,rfl,x,_,xdx,_,_,rfl,hx0.1,T.bG,T.ud,rfl,_,rfl,p,_,dx,_,_,rfl,q0,T.aO,T.fq,rfl,_,rfl,x,_,xdx,_,_,rfl,hx0.1,T.bG,T.cT,rfl,ca,_,_,_,rfl,rfl,cJ.of q6,l5 (GN cI.r),_,_,rfl,rfl,rfl,_,rfl,?_⟩;by_cases h1:o.n=Sa76.had s o.r+1
  ·refine CA (by rw[h1];rfl) ?_;rw[arC h1,Bool.true_and] at k;refine⟨_,rfl,x,_,xdx,_,_,rfl,hx0.1,T.bG,T.wN,rfl,_,rfl,p,_,dx,_,_,rfl,q0,T.aO,T.jG,rfl,_,rfl,x,_,xdx,_,_,rfl,hx0.1,T.bG,T.cT,rfl,la,_,_,_,rfl,rfl,cJ.of q7,l5 (GN cI.r),_,_,rfl,rfl,_,rfl,?_⟩;by_cases h2:M.K1 s.log o.r < o.t
   ·refine mQ (by omega) ?_;rw[arC h2,Bool.true_and] at k;obtain⟨ids,hids,hp⟩:=afx hta hel;refine⟨_,rfl,x,_,xdx,_,_,rfl,hx0.1,T.bG,T.bq,rfl,c,cdx,_,rfl,hc0.1,rfl,c,cdx,_,_,_,_,_,_,rfl,hc0.1,fun r n1=>?_⟩;rw[hids];have S1:=aq (o:=HO.lst (ids.map V.ref)) n1;have e1:(upd H r (.lst (ids.map V.ref))) r=some (.lst (ids.map V.ref)):=ae;generalize upd H r (.lst (ids.map V.ref))=H1 at S1 e1;refine⟨r,rfl,⟨_,cJ.of e1⟩,fun D hD=>?_⟩;have hil:ids.length≤10:=by
     rw[Paired.length hp,Qk];cases Su o.act with
     |none=>show 1≤10;decide
     |some _=>show 2≤10;decide
    refine SI (K:=K) (a:=r) (xs:=ids.map V.ref) (Pv:=fun n H'=>aM H1 H'∧H' D=some (.lst ((((Sa76.told o).take n).map (Sa76.known s)).map V.bl))) ⟨aq hD,ae⟩ (fun n H' _ ⟨S,_⟩=>cJ.of (S _ _ e1)) ?_ ?_
    ·rintro n y H' hy ⟨S,f1⟩;obtain⟨b,hb,rfl⟩:=GL hy;obtain⟨j,hj,hbj⟩:=kG hp hb;have S':=S1.trans S;refine⟨rfl,_,rfl,_,rfl,p,_,dx,_,_,rfl,S' _ _ q0,T.aO,T.pG,rfl,ka,_,rfl,mP.t (S' _ _ k1) (aM.tup S' hbj.key),_,f1,G6 ?_,?_,?_⟩
     ·rw[aah,aah,aq8];have:=Paired.length hp;omega
     ·exact fun b o hb=>by rw[ak (au hb hD)];exact S b o hb
     ·rw[ae,take_snoc hj,ak9,ak9,k2 j];rfl
    ·rintro H' ⟨S,f1⟩;refine⟨D,_,rfl,cJ.of f1,?_⟩;have el:(ids.map V.ref).length=(Sa76.told o).length:=by rw[aah,Paired.length hp]
     rw[el,atj,List.all_map];exact k H' (S1.trans S)
   ·refine rO (by omega) ?_;rw[aqz h2,atJ] at k;exact k H (aM.refl H)
  ·refine Cz (by intro z;injection z with z;exact h1 (by omega)) (iO ?_);rw[aqz h1,atJ] at k;exact k H (aM.refl H)
end
end KB
namespace KB
open PySem PySem.Spec PyProof.Rows L2
open Sa76 (Id Op Val Bytes ROOT)
theorem ai6{α:Type}{p:α→Bool}:∀ {l:List α} {n:Nat} {y:α},(∀ m x,m < n→l[m]?=some x→p x=false)→l[n]?=some y→p y=true→l.find? p=some y
 |[],n,y,_,h,_=>by simp at h
 |x::l,0,y,_,h,hy=>by
  simp at h;subst h;rw[asS,hy]
 |x::l,n+1,y,hn,h,hy=>by
  rw[asS,hn 0 x (Nat.succ_pos _) rfl];exact ai6 (n:=n) (fun m z hm hz=>hn (m+1) z (by omega) (by simpa using hz)) (by simpa using h) hy
theorem find_none{α:Type}{p:α→Bool}{l:List α}(h:∀ (m:Nat) x,l[m]?=some x→p x=false):l.find? p=none:=by
 rw[List.find?_eq_none];intro x hx;obtain⟨m,hm⟩:=List.mem_iff_getElem?.mp hx;rw[h m x hm];exact ak7
section
variable{P:Program}{w:World}{K:Fg}{mg:Str→Option Value}{base:Heap}{a:dX}
def aqn(K:Fg)(H:Hp)(s:Sa76.St)(v:V):Prop:=(M.next s=none∧v=.dN)∨∃ o t,M.next s=some o∧v=.ref t∧TupAt K H t ((kN o).map kV)
def zx88(K:Fg)(a:dX)(vs:List V)(H:Hp)(Q:VK):=fun(τ:aL) (i:Nat) (p:Addr) (s:Sa76.St)=>(vs=[.ref p]∧Tg H τ∧Ab K a H τ i p s∧(∀ o∈s.waits,M.oS o)∧Nd s∧∀ H' v,aM H H'→aqn K H' s v→Q v H')
def Eo(K:Fg)(a:dX):Sp:=fun vs H Q _=>zx_4 (zx88 K a vs H Q)
theorem sF(T:Txt K mg a):bL P w K mg base jk 3 a.bO a.ji jd (Eo K a):=by
 refine T.ur.ok rT (fun vs H Q E h=>?_) (fun cdv A outer sh H vs Q E hr h=>?_)
 ·obtain⟨τ,i,p,s,rfl,_⟩:=h;rfl
 ·obtain⟨τ,i,p,s,rfl,g,hk,cI,hnd,k⟩:=h;refine⟨_,(ah (bQ (lP (gD (aT (pv 0) T.aO T.pU (xR T) (hr.mono (by decide)) T.rq .nil aG) (fun _=>rfl))) (ao (aJ jL)) aZ)
   (ah (an1 (Jj arV rfl (an2 (aA (pv 0) rfl)) (l0 (i:=1) rT.nd rfl (.inl rfl)) (ao (bQ (gD (dP (pv 0) T.aO T.wR (KO T) (hr.mono (by decide)) T.yT .nil aG (af (kK (eV hr) (aA (pv 0) rfl) (pv 1) (fun _ _=>rfl)) aj)) (fun _=>rfl)) (ao (aJ (pv 1))) aZ))))
   (ao (aJ jL)))),?_⟩
  obtain⟨dx,aa,ca,la,ka,wa,d,q0,q1,q2,q3,q4,q5,_,q6,q7,⟨kk,k1,_,k3⟩,⟨ws,w1,w2,w3⟩,_⟩:=hk.ex;refine⟨_,rfl,p,dx,_,rfl,q0.1,rfl,τ,i,p,s,rfl,hk,_,rfl,?_⟩;by_cases hroom:s.log.length < 4096
  ·refine CA hroom ?_;have hnx:M.next s=s.waits.find? (Sa76.ready s):=by
    unfold M.next;rw[acK (by show ¬ 4096≤_;omega)]
   refine⟨wa,_,w1,trivial,fun od=>?_⟩;have hf:∀ {b:Addr} {o:HO},H b=some o→b≠wa→(upd H wa (.uD od (.dT (wD ws)))) b=some o:=fun e n=>by rw[ak n];exact e
   have ew:(upd H wa (.uD od (.dT (wD ws)))) wa=some (.uD od (.dT (wD ws))):=ae;have F:Fr (fun t=>t=.hU) H τ (upd H wa (.uD od (.dT (wD ws)))) τ:=Fr.upd w1 (by rw[q5];exact fun z=>nomatch z) g;have fp:=hf q0.1 (acj q0.2 q5 (fun z=>nomatch z));have fc:=hf q6 (acj q2 q5 (fun z=>nomatch z));have fl:=hf q7 (acj q3 q5 (fun z=>nomatch z));have fk:=hf k1 (acj q4 q5 (fun z=>nomatch z));have back:∀ {H2:Hp},aM (upd H wa (.uD od (.dT (wD ws)))) H2→aM H (upd H2 wa (.dT (wD ws))):=fun{H2} S b o e=>by
    by_cases z:b=wa
    ·subst z;rw[ae];rw[w1] at e;exact e
    ·rw[ak z];exact S _ _ (hf e z)
   generalize upd H wa (.uD od (.dT (wD ws)))=Hf at *;have tback:∀ {H2:Hp} {t:Addr} {xs:List V},H2 wa=some (.uD od (.dT (wD ws)))→TupAt K H2 t xs→TupAt K (upd H2 wa (.dT (wD ws))) t xs:=fun e h=>h.keep fun c ys ec=>by
    rw[ak (ac6 ec e (fun z=>nomatch z))];exact ec
   refine⟨_,rfl,p,_,dx,_,_,rfl,fp,T.aO,T.eu,rfl,wa,od,rfl,.inr ⟨wD ws,ew,?_⟩⟩;refine akZ (K:=K) (d:=wa) (od:=od) (kvs:=wD ws) (fun n σ H'=>(∃ v,σ=[some (.ref p),v])∧aM Hf H'∧∀ (m:Nat) (z:Addr×Op),m < n→ws[m]?=some z→Sa76.ready s z.2=false) ⟨⟨none,rfl⟩,aM.refl _,fun m z hm=>absurd hm (Nat.not_lt_zero m)⟩ (fun n σ H' _ ⟨_,S,_⟩=>S _ _ ew) ?_ ?_
   ·rintro n kq vq t σ H' hkv ht ⟨⟨v,rfl⟩,S,hno⟩;rw[ant] at hkv;obtain⟨z,hz,e⟩:=aqy.mp hkv;cases e;have hzm:z∈ws:=aqt hz;have hzw:z.2∈s.waits:=by rw[← w2];exact aou.mpr ⟨z,hzm,rfl⟩
    have hv:fM (wD ws) (kN z.2)=some (.ref z.1):=aco (by
     have:=hnd;unfold Nd at this;rw[← w2,ao8] at this;exact this) hzm
    have dg:mP K H' wa (.ref t) (some (.ref z.1)):=.inr ⟨wD ws,kN z.2,t,.inr ⟨od,S _ _ ew⟩,rfl,ht,hv.symm⟩;refine⟨_,rfl,p,dx,_,rfl,S _ _ fp,rfl,_,rfl,p,_,dx,_,_,rfl,S _ _ fp,T.aO,T.eu,rfl,_,rfl,wa,_,rfl,dg,τ,p,dx,z.1,aa,ca,la,ka,wa,d,s,z.2,kk,rfl,S _ _ fp,S _ _ fc,S _ _ fl,S _ _ fk,k3,((w3 z hzm).keep F rfl).same S,cI _ hzw,fun H2 S2=>⟨_,rfl,?_⟩⟩;have S':=S.trans S2;cases hrd:Sa76.ready s z.2 with
    |true=>
     refine iO ?_;refine⟨_,rfl,S' _ _ ew,?_⟩;refine k _ _ (back S') (.inr ⟨z.2,t,?_,rfl,tback (S' _ _ ew) (aM.tup S2 ht)⟩);rw[hnx,← w2];refine ai6 (n:=n) (fun m y hm hy=>?_) (by rw[ant,hz];rfl) hrd;rw[ant] at hy;obtain⟨y',hy',rfl⟩:=aqy.mp hy;exact hno m y' hm hy'
    |false=>
     refine zy ?_;refine⟨⟨_,rfl⟩,S',fun m y hm hy=>?_⟩;rcases Nat.lt_succ_iff_lt_or_eq.mp hm with hm|rfl
     ·exact hno m y hm hy
     ·rw[hz] at hy;cases hy;exact hrd
   ·rintro σ H' ⟨⟨v,rfl⟩,S,hno⟩;refine⟨S _ _ ew,?_⟩;refine k _ _ (back S) (.inl ⟨?_,rfl⟩);rw[hnx,← w2];refine find_none fun m y hy=>?_;rw[ant] at hy;obtain⟨y',hy',rfl⟩:=aqy.mp hy;exact hno m y' (by rw[aah];exact(aox.mp hy').1) hy'
  ·refine Cz hroom ?_;refine k H _ (aM.refl H) (.inl ⟨?_,rfl⟩);unfold M.next;rw[afO (by show 4096≤_;omega)]
def zx89(K:Fg)(a:dX)(vs:List V)(H:Hp)(Q:VK):=fun(τ:aL) (i:Nat) (p:Addr) (s:Sa76.St)=>(vs=[.ref p]∧Tg H τ∧Ab K a H τ i p s∧M.Good s∧Nd s∧∀ H' τ',Ab K a H' τ' i p (M.fin s)→Fr (KP i) H τ H' τ'→Q (.int ((M.fin s).log.length - s.log.length:Nat)) H')
def CH(K:Fg)(a:dX):Sp:=fun vs H Q _=>zx_4 (zx89 K a vs H Q)
theorem CI(T:Txt K mg a):bL P w K mg base jk 6 a.bJ a.iD iy (CH K a):=by
 refine T.rY.ok fT (fun vs H Q E h=>?_) (fun cdv A outer sh H vs Q E hr h=>?_)
 ·obtain⟨τ,i,p,s,rfl,_⟩:=h;rfl
 ·obtain⟨τ,i,p,s,rfl,g,hk,hg,hnd,k⟩:=h;refine⟨_,(ah (aP (i:=1) fT.nd rfl (.inl rfl) aW)
   (ah (aP (i:=2) fT.nd rfl (.inl rfl) (aT (pv 0) T.aO T.lT (sF T) (hr.mono (by decide)) T.ng .nil aG))
   (ah (EJ arV (aY anM (pv 2) jL (bf _)) (ah (di (dP (pv 0) T.aO T.wQ (GO T) (hr.mono (by decide)) T.zE .nil aG (af (al8 (eV hr) (aA (pv 0) rfl) (pv 2) ⟨rfl,rfl,rfl,rfl⟩) aj)))
   (ah (alD (i:=1) fT.nd rfl (.inl rfl) aW agf)
   (ao (aP (i:=2) fT.nd rfl (.inl rfl) (aT (pv 0) T.aO T.lT (sF T) (hr.mono (by decide)) T.ng .nil aG))))))
   (ao (aJ (pv 1)))))),?_⟩
  obtain⟨dx,aa,ca,la,ka,wa,d,q0,_⟩:=id hk.ex;refine⟨_,rfl,p,dx,_,rfl,q0.1,rfl,τ,i,p,s,rfl,g,hk,hg.waits,hnd,fun H1 v S1 hpl=>?_⟩;refine⟨fun m σ H'=>∃ (s':Sa76.St) (τ':aL) (n:Nat) (v:V),m=s'.waits.length∧σ=[some (.ref p),some (.int n),some v]∧Ab K a H' τ' i p s'∧Fr (KP i) H τ H' τ'∧M.Good s'∧Nd s'∧M.fin s=M.fin s'∧s'.log.length=s.log.length+n∧aqn K H' s' v,⟨_,s,τ,0,v,rfl,rfl,hk.same S1 g,Fr.same S1 g,hg,hnd,rfl,rfl,hpl⟩,?_⟩;rintro m σ H2 ⟨s',τ',n,v,rfl,rfl,hk',F',hg',hnd',hfin,hlen,hpl⟩;refine⟨_,rfl,rfl,_,rfl,?_⟩;rcases hpl with⟨hnx,rfl⟩|⟨o,t,hnx,rfl,ht⟩
  ·refine CA rfl ?_;refine⟨_,rfl,?_⟩;have e:M.fin s=s':=by rw[hfin,M.Oc,hnx]
   have k':=k H2 τ';rw[e] at k';have e2:s'.log.length - s.log.length=n:=by omega
   rw[e2] at k';exact k' hk' F'
  ·refine Cz (fun z=>nomatch z) ?_;obtain⟨hmem,hrd,hroom⟩:=M.Td hnx;have hoko:=hg'.waits o hmem;have hless:=M.sG hnx;refine⟨fun σ'' H''=>∃ (s2:Sa76.St) (τ':aL) (n:Nat) (v:V),s2.waits.length < s'.waits.length∧σ''=[some (.ref p),some (.int n),some v]∧Ab K a H'' τ' i p s2∧Fr (KP i) H τ H'' τ'∧M.Good s2∧Nd s2∧M.fin s=M.fin s2∧s2.log.length=s.log.length+n∧aqn K H'' s2 v,?_,?_⟩
   ·rintro σ'' H'' ⟨s2,τ2,n2,v2,h1,h2⟩;exact⟨_,h1,s2,τ2,n2,v2,rfl,h2⟩
   ·obtain⟨dx,aa,ca,la,ka,wa,d,q0,q1,q2,q3,q4,q5,qa,q6,q7,qk,⟨ws,w1,w2,w3⟩,hd⟩:=id hk'.ex;obtain⟨z,hzm,hzo⟩:∃ z∈ws,z.2=o:=by
     rw[← w2] at hmem;obtain⟨z,h1,h2⟩:=aou.mp hmem;exact⟨z,h1,h2⟩
    subst hzo;have hv:fM (wD ws) (kN z.2)=some (.ref z.1):=aco (by
     have:=hnd';unfold Nd at this;rw[← w2,ao8] at this;exact this) hzm
    refine⟨_,rfl,p,dx,_,rfl,q0.1,rfl,_,rfl,p,_,dx,_,_,rfl,q0.1,T.aO,T.eu,rfl,wa,rfl,.inr ⟨_,.inl w1⟩,_,rfl,wD ws,kN z.2,t,_,w1,rfl,ht,hv,?_⟩;rw[akY];have F3:Fr (fun t=>t≠.own i .waiting) H2 τ' (upd H2 wa (.dT (wD (ws.filter fun w=>!(w.2.r == z.2.r && w.2.n == z.2.n))))) τ':=Fr.upd w1 (by rw[q5];exact fun z=>z rfl) F'.tg;have b3:(upd H2 wa (.dT (wD (ws.filter fun w=>!(w.2.r == z.2.r && w.2.n == z.2.n))))) wa=some (.dT (wD (ws.filter fun w=>!(w.2.r == z.2.r && w.2.n == z.2.n)))):=ae;generalize upd H2 wa (.dT (wD (ws.filter fun w=>!(w.2.r == z.2.r && w.2.n == z.2.n))))=H3 at F3 b3;have i3:(Tag.hU:Tag)≠.own i .waiting:=fun z=>nomatch z;have kp3:∀ {b:Addr} {y:HO} {u:Part},H2 b=some y→τ' b=.own i u→u≠.waiting→H3 b=some y:=fun e t hu=>F3.keep _ _ e (by rw[t];exact fun z=>hu (by injection z));have hk3:Ab K a H3 τ' i p { s' with waits:=s'.waits.filter fun q=>!(q.r == z.2.r && q.n == z.2.n) }:=by
     obtain⟨as,a1,a2⟩:=qa;obtain⟨kk,k1,k2,k3⟩:=qk;exact⟨dx,aa,ca,la,ka,wa,d,⟨kp3 q0.1 q0.2 (fun z=>nomatch z),q0.2⟩,q1,q2,q3,q4,q5,⟨as,kp3 a1 q1 (fun z=>nomatch z),Paired.ye a2 fun _ _ y=>y.keep F3 i3⟩,kp3 q6 q2 (fun z=>nomatch z),kp3 q7 q3 (fun z=>nomatch z),⟨kk,kp3 k1 q4 (fun z=>nomatch z),k2,k3⟩,⟨_,b3,by rw[aib,w2],fun y hy=>(w3 y (ao9.mp hy).1).keep F3 i3⟩,hd.keep F3 i3 fun y hy z=>by injection z with _ z;rw[z] at hy;cases hy⟩
    have hx3:=(w3 z hzm).keep F3 i3;obtain⟨hkn,hni⟩:=M.Yw hrd;have hw3:M.Wf (s'.log++[z.2]):=.snoc hg'.wf hkn hni hoko.t1;refine⟨τ',i,p,z.1,{ s' with waits:=s'.waits.filter fun q=>!(q.r == z.2.r && q.n == z.2.n) },z.2,rfl,F3.tg,hk3,hx3,hoko,hw3,ate hroom,M.af5 hoko.t1 hrd,fun H4 τ4 hk4 F4=>?_⟩;have hk4:Ab K a H4 τ4 i p (M.Xr s' z.2):=hk4;have F24:Fr (KP i) H τ H4 τ4:=(F'.trans (F3.mono (aoV _))).trans F4;refine⟨_,rfl,_,_,rfl,rfl,?_⟩;obtain⟨dx4,_,_,_,_,_,_,q04,_⟩:=id hk4.ex;refine⟨_,rfl,p,dx4,_,rfl,q04.1,rfl,τ4,i,p,_,rfl,F24.tg,hk4,(M.Ob hg' hnx).waits,acn hnd',fun H5 v5 S5 hpl5=>?_⟩;refine⟨M.Xr s' z.2,τ4,n+1,v5,hless,rfl,hk4.same S5 F24.tg,F24.trans (Fr.same S5 F24.tg),M.Ob hg' hnx,acn hnd',?_,?_,hpl5⟩
    ·rw[hfin,M.Oc s',hnx]
    ·show(s'.log++[z.2]).length=_;rw[ada,hlen];rfl
def zx90(K:Fg)(a:dX)(vs:List V)(H:Hp)(Q:VK):=fun(τ:aL) (i:Nat) (p x:Addr) (s:Sa76.St) (o:Op)=>(vs=[.ref p,.ref x]∧Tg H τ∧Ab K a H τ i p s∧lN K a H τ x o∧M.oS o∧M.Good s∧Nd s∧∀ H' τ',Ab K a H' τ' i p (Sa76.come s o)→Fr (KP i) H τ H' τ'→Q (.int ((Sa76.come s o).log.length - s.log.length:Nat)) H')
def Xb(K:Fg)(a:dX):Sp:=fun vs H Q _=>zx_6 (zx90 K a vs H Q)
theorem Xc(T:Txt K mg a):bL P w K mg base jk 7 a.fG a.qT qI (Xb K a):=by
 refine T.IE.ok Um (fun vs H Q E h=>?_) (fun cdv A outer sh H vs Q E hr h=>?_)
 ·obtain⟨τ,i,p,x,s,o,rfl,_⟩:=h;rfl
 ·obtain⟨τ,i,p,x,s,o,rfl,g,hk,hx,cI,hg,hnd,k⟩:=h;refine⟨_,(ah (bQ (gD (dP (pv 0) T.aO T.uf (GQ T) (hr.mono (by decide)) T.uS .nil aG (af (pv 1) aj)) (fun _=>rfl)) (ao (aJ aW)) aZ)
   (ah (o9 (eV hr) (aA (pv 0) rfl) (BJ (af (aA (pv 1) rfl) (af (aA (pv 1) rfl) aj))) (pv 1) rfl)
   (ao (aJ (aT (pv 0) T.aO T.qZ (CI T) (hr.mono (by decide)) T.rZ .nil aG))))),?_⟩
  obtain⟨dx0,_,_,_,_,_,_,q00,_⟩:=id hk.ex;refine⟨_,rfl,p,dx0,_,rfl,q00.1,rfl,_,rfl,τ,i,p,x,s,o,rfl,hk,hx,cI,fun H1 b S1 hb=>⟨_,rfl,?_⟩⟩;rw[M.SA] at k;have hk1:=hk.same S1 g;have hx1:=hx.same S1;have g1:=aM.tg S1 g;cases b with
  |true=>
   refine iO ?_;rw[afO (hb.mp rfl),Nat.sub_self] at k;exact k H1 τ hk1 (Fr.same S1 g)
  |false=>
   refine zy ?_;have hout:¬ M.out s o:=fun z=>ak7 (hb.mpr z);rw[acK hout] at k;obtain⟨dx,aa,ca,la,ka,wa,d,q0,q1,q2,q3,q4,q5,qa,q6,q7,qk,⟨ws,w1,w2,w3⟩,hd⟩:=id hk1.ex;obtain⟨xdx,c,hx0,_⟩:=id hx1.ex;refine⟨_,rfl,_,rfl,p,_,dx,_,_,rfl,q0.1,T.aO,T.eu,rfl,_,rfl,x,_,xdx,_,_,rfl,hx0.1,T.bG,T.cT,rfl,_,rfl,x,_,xdx,_,_,rfl,hx0.1,T.bG,T.ud,rfl,le2,fun t2 n2=>?_⟩;have S2:=aq (o:=HO.tup [V.int (o.r:Int),V.int (o.n:Int)]) n2;have e2:TupAt K (upd H1 t2 (.tup [.int (o.r:Int),.int (o.n:Int)])) t2 ((kN o).map kV):=.inl ae;generalize upd H1 t2 (.tup [.int (o.r:Int),.int (o.n:Int)])=H2 at S2 e2;have hwl:ws.length=s.waits.length:=by rw[← w2,aah]
   have hfew:s.waits.length < 256:=by
    rcases Nat.lt_or_ge s.waits.length 256 with z|z
    ·exact z
    ·exact absurd (.inr (.inr (.inr z))) hout
   refine⟨wa,_,rfl,BK.t (S2 _ _ w1) e2 (G6 (by rw[aah];omega)),?_⟩;have hany:(s.waits.any fun q=>q.r == o.r && q.n == o.n)=false:=by
    cases hz:(s.waits.any fun q=>q.r == o.r && q.n == o.n) with
    |false=>rfl
    |true=>exact absurd (.inr (.inr (.inl hz))) hout
   have hvn:fM (wD ws) (kN o)=none:=by
    have:=W9 (ws:=ws) (o:=o);rw[w2,hany] at this;cases hz:fM (wD ws) (kN o) with
    |none=>rfl
    |some u=>rw[hz] at this;cases this
   have ep:putK (wD ws) (kN o) (.ref x)=wD (ws++[(x,o)]):=by
    rw[alW _ hvn];show _=(ws++[(x,o)]).map _;rw[ak9];rfl
   rw[ep];have F2:Fr (fun _=>True) H1 τ H2 τ:=Fr.same S2 g1;have F3:Fr (fun t=>t≠.own i .waiting) H2 τ (upd H2 wa (.dT (wD (ws++[(x,o)])))) τ:=Fr.upd (S2 _ _ w1) (by rw[q5];exact fun z=>z rfl) F2.tg;have b3:(upd H2 wa (.dT (wD (ws++[(x,o)])))) wa=some (.dT (wD (ws++[(x,o)]))):=ae;generalize upd H2 wa (.dT (wD (ws++[(x,o)])))=H3 at F3 b3;have i3:(Tag.hU:Tag)≠.own i .waiting:=fun z=>nomatch z;have kp3:∀ {b:Addr} {y:HO} {u:Part},H1 b=some y→τ b=.own i u→u≠.waiting→H3 b=some y:=fun e t hu=>F3.keep _ _ (S2 _ _ e) (by rw[t];exact fun z=>hu (by injection z));have hk3:Ab K a H3 τ i p { s with waits:=s.waits++[o] }:=by
    obtain⟨as,a1,a2⟩:=qa;obtain⟨kk,k1,k2,k3⟩:=qk;refine⟨dx,aa,ca,la,ka,wa,d,⟨kp3 q0.1 q0.2 (fun z=>nomatch z),q0.2⟩,q1,q2,q3,q4,q5,⟨as,kp3 a1 q1 (fun z=>nomatch z),Paired.ye a2 fun _ _ y=>(y.keep F2 trivial).keep F3 i3⟩,kp3 q6 q2 (fun z=>nomatch z),kp3 q7 q3 (fun z=>nomatch z),⟨kk,kp3 k1 q4 (fun z=>nomatch z),k2,k3⟩,⟨_,b3,by rw[ak9,w2];rfl,fun y hy=>?_⟩,(hd.keep F2 trivial fun _ _=>trivial).keep F3 i3 fun y hy z=>by injection z with _ z;rw[z] at hy;cases hy⟩;rcases aoF.mp hy with hy|hy
    ·exact((w3 y hy).keep F2 trivial).keep F3 i3
    ·rw[aoJ.mp hy];exact(hx1.keep F2 trivial).keep F3 i3
   have F13:Fr (KP i) H τ H3 τ:=((Fr.same S1 g).trans (F2.mono fun _ _=>trivial)).trans (F3.mono (aoV _));have hg3:M.Good { s with waits:=s.waits++[o] }:=⟨hg.me,hg.wf,hg.log,fun q hq=>by
    rcases aoF.mp hq with hq|hq
    ·exact hg.waits q hq
    ·rw[aoJ.mp hq];exact cI,hg.Rv,by rw[ada];show _+1≤256;omega⟩
   obtain⟨dx3,_,_,_,_,_,_,q03,_⟩:=id hk3.ex;exact⟨_,rfl,p,dx3,_,rfl,q03.1,rfl,τ,i,p,_,rfl,F13.tg,hk3,hg3,ai5 hnd hany,fun H4 τ4 hk4 F4=>k H4 τ4 hk4 (F13.trans F4)⟩
end
end KB
namespace KB
open PySem PySem.Spec PyProof.Rows L2
open Sa76 (Id Op Val Bytes ROOT)
theorem afy(s:Sa76.St)(obj:Id)(x:Sa76.Act):Sa76.acted (some s) s obj x=if 4096≤s.log.length∨4294967295≤Sa76.clock s then(some s,Sa76.ok (-4)) else(some { s with log:=s.log++[⟨s.me,Sa76.had s s.me+1,Sa76.clock s+1,obj,x⟩] },⟨0,Sa76.Id.bytes (Sa76.clock s+1,s.me)⟩):=by
 unfold Sa76.acted;rw[M.ZW];by_cases h:4096≤s.log.length∨2 ^ 32 - 1≤Sa76.clock s
 ·rw[afO h,afO h]
 ·rw[acK h,acK h]
section
variable{P:Program}{w:World}{K:Fg}{mg:Str→Option Value}{base:Heap}{a:dX}
abbrev KQ(K:Fg)(a:dX)(H:Hp)(τ:aL)(i:Nat)(p:Addr)(s:Sa76.St)(Q:VK)(r:Sa76.Abs×Sa76.Ans):Prop:=
 ∀ s' H' τ' q,r.1=some s'→(M.Good s→Nd s→M.Good s'∧Nd s')→Ab K a H' τ' i p s'→Fr (KP i) H τ H' τ'→H q=none→H' q=some (.lst (.int r.2.v::iB r.2.l))→Q (.ref q) H'
theorem KQ.same{H H':Hp}{τ:aL}{i:Nat}{p:Addr}{s:Sa76.St}{Q:VK}{r:Sa76.Abs×Sa76.Ans}(h:KQ K a H τ i p s Q r)(S:aM H H')(g:Tg H τ):KQ K a H' τ i p s Q r:=fun s' H'' τ' q e1 e0 e2 e3 e4 e5=>h s' H'' τ' q e1 e0 e2 ((Fr.same S g).trans e3) (S.free e4) e5
theorem KQ.no{H:Hp}{τ:aL}{i:Nat}{p q:Addr}{Q:VK}{s:Sa76.St}{v:Int}(h:KQ K a H τ i p s Q (some s,Sa76.ok v))(hk:Ab K a H τ i p s)(g:Tg H τ)(n:H q=none):Q (.ref q) (upd H q (.lst [.int v])):=
 h s _ τ q rfl (fun z y=>⟨z,y⟩) (hk.same (aq n) g) (Fr.same (aq n) g) n ae
def zx91(K:Fg)(a:dX)(vs:List V)(H:Hp)(Q:VK):=fun(τ:aL) (i:Nat) (p c:Addr) (s:Sa76.St) (obj:Id) (x:Sa76.Act)=>(vs=[.ref p,.ref c]∧Tg H τ∧Ab K a H τ i p s∧Ia K a H τ c obj x∧M.Good s∧M.Xq obj∧M.acM x∧(∀ j∈Sa76.told ⟨s.me,Sa76.had s s.me+1,Sa76.clock s+1,obj,x⟩,j=ROOT∨j∈s.log.map Op.id)∧KQ K a H τ i p s Q (Sa76.acted (some s) s obj x))
def acr(K:Fg)(a:dX):Sp:=fun vs H Q _=>zx_7 (zx91 K a vs H Q)
theorem wj(T:Txt K mg a):bL P w K mg base jk 7 a.jz a.vM vB (acr K a):=by
 refine T.qh.ok Lh (fun vs H Q E h=>?_) (fun cdv A outer sh H vs Q E hr h=>?_)
 ·obtain⟨τ,i,p,c,s,obj,x,rfl,_⟩:=h;rfl
 ·obtain⟨τ,i,p,c,s,obj,x,rfl,g,hk,hc,hg,hobj,hx,hto,k⟩:=h;refine⟨_,(ah (bQ (lP (gD (aT (pv 0) T.aO T.rV (En T) (hr.mono (by decide)) T.uq .nil aG) (fun _=>rfl))) (ao (aJ (bz (af (gI T.Ze) aj)))) aZ)
   (ah (aP (i:=2) Lh.nd rfl (.inl rfl) (dP (pv 0) T.aO T.Lp (acq T) (hr.mono (by decide)) T.QW .nil aG (af (pv 1) aj)))
   (ao (aJ (fZ lQ (bz (af aW aj)) (aR (mL T) (hr.mono (by decide)) rfl T.kC T.iM.kp T.ku .nil aG (af (aT (pv 2) T.bG T.gc (ic T) (hr.mono (by decide)) T.gF .nil aG) aj))))))),?_⟩
  obtain⟨dx,aa,ca,la,ka,wa,d,q0,_⟩:=id hk.ex;refine⟨_,rfl,p,dx,_,rfl,q0.1,rfl,τ,i,p,s,rfl,hk,fun b hb=>⟨_,rfl,?_⟩⟩;rw[afy] at k;by_cases h:4096≤s.log.length∨4294967295≤Sa76.clock s
  ·rw[afO h] at k;have hb:b=false:=by rw[hb];exact aqz (by omega)
   subst hb;refine iO ?_;exact⟨tU,fun q n=>k.no hk g n⟩
  ·have hgd:M.Good { s with log:=s.log++[⟨s.me,Sa76.had s s.me+1,Sa76.clock s+1,obj,x⟩] }:=M.ajf (i:=(Sa76.clock s+1,s.me)) hg hobj hx hto (by
    rw[M.ZW,acK (by show ¬ (_∨4294967295≤_);exact h)])
   rw[acK h] at k;have hb:b=true:=by rw[hb];exact arC (by omega)
   subst hb;refine zy ?_;have cI:=hgd.log ⟨s.me,Sa76.had s s.me+1,Sa76.clock s+1,obj,x⟩ (aqP _ (aoJ.mpr rfl));refine⟨_,rfl,p,dx,_,rfl,q0.1,rfl,_,rfl,τ,i,p,c,s,⟨s.me,Sa76.had s s.me+1,Sa76.clock s+1,obj,x⟩,rfl,g,hk,hc,rfl,rfl,rfl,cI,hgd.wf,hg.Rv,fun H1 τ1 y hk1 F1 hy=>?_⟩;obtain⟨ydx,yc,hy0,_⟩:=id hy.ex;refine⟨tU,fun q2 n2=>?_⟩;have S2:=aq (o:=HO.lst [V.int 0]) n2;have e2:(upd H1 q2 (.lst [.int 0])) q2=some (.lst [.int 0]):=ae;generalize upd H1 q2 (.lst [.int 0])=H2 at S2 e2;refine⟨_,rfl,y,ydx,_,rfl,S2 _ _ hy0.1,rfl,y,ydx,_,_,_,_,rfl,S2 _ _ hy0.1,fun q3 n3=>?_⟩;have S3:=aq (o:=HO.tup [V.int ((Sa76.clock s+1:Nat):Int),V.int (s.me:Int)]) n3;have e3:TupAt K (upd H2 q3 (.tup [.int ((Sa76.clock s+1:Nat):Int),.int (s.me:Int)])) q3 (iI (Sa76.clock s+1,s.me)):=.inl ae;generalize upd H2 q3 (.tup [.int ((Sa76.clock s+1:Nat):Int),.int (s.me:Int)])=H3 at S3 e3;refine⟨q3,(Sa76.clock s+1,s.me),rfl,e3,cI.id.2,fun H4 q4 S4 n4 e4=>?_⟩;refine⟨q2,q4,_,_,rfl,rfl,S4 _ _ (S3 _ _ e2),e4,Rp (by rw[aB,M.dj];show 6≤_;decide),fun q5 n5=>?_⟩;have S5:=aq (o:=HO.lst ([V.int 0]++iB (Sa76.Id.bytes (Sa76.clock s+1,s.me)))) n5;have S25:=((S2.trans S3).trans S4).trans S5;exact k _ _ τ1 q5 rfl (fun _ y=>⟨hgd,y⟩) (hk1.same S25 F1.tg) (F1.trans (Fr.same S25 F1.tg)) (F1.free (S2.free (S3.free (S4.free n5)))) ae
end
end KB
namespace KB
open PySem PySem.Spec PyProof.Rows L2
open Sa76 (Id Op Val Bytes ROOT)
theorem ZN{s:Sa76.St}{obj j:Id}{n:Nat}(h:(ROOT::(Sa76.seen s.log obj).map Op.id)[n]?=some j):Sa76.before s obj n=j:=by
 unfold Sa76.before;cases n with
 |zero=>
  rw[afO rfl];simpa using h
 |succ n=>
  rw[acK (Nat.succ_ne_zero n)];rw[asZ,ant] at h;show((Sa76.seen s.log obj)[n]?.map Op.id).getD ROOT=j;rw[h];rfl
theorem lJ{z lo hi:Int}:Sa76.within z lo hi=true↔lo≤z∧z≤hi:=by
 unfold Sa76.within;rw[anr,asE,asE]
theorem nv{z lo hi:Int}:Sa76.within z lo hi=false↔¬ (lo≤z∧z≤hi):=by rw[← lJ,Bool.not_eq_true]
section
variable{P:Program}{w:World}{K:Fg}{mg:Str→Option Value}{base:Heap}{a:dX}
theorem ai7{l:List Op}{j:Id}{v:Val}(hv:Sa76.isObject v=true)(h:¬ Sa76.kindOf l j=some v):¬ NO (Sa76.kindOf l j)=.int (M.ig v:Nat):=fun z=>h (S9 z (fun _ e=>M.pK e) hv)
def zx92(K:Fg)(a:dX)(vs:List V)(H:Hp)(Q:VK):=fun(τ:aL) (i:Nat) (p ta:Addr) (s:Sa76.St) (obj:Id) (x:Int)=>(vs=[.ref p,.ref ta,.int x]∧Tg H τ∧Ab K a H τ i p s∧eL K H τ ta obj∧M.Good s∧(-(2 ^ 63)≤x∧x < 2 ^ 63)∧KQ K a H τ i p s Q (Sa76.does (some s) (.add obj x)))
def ak0(K:Fg)(a:dX):Sp:=fun vs H Q _=>zx_7 (zx92 K a vs H Q)
theorem ak1(T:Txt K mg a):bL P w K mg base jk 8 a.qO a.G0 GX (ak0 K a):=by
 refine T.Uw.ok aj1 (fun vs H Q E h=>?_) (fun cdv A outer sh H vs Q E hr h=>?_)
 ·obtain⟨τ,i,p,ta,s,obj,x,rfl,_⟩:=h;rfl
 ·obtain⟨τ,i,p,ta,s,obj,x,rfl,g,hk,ht,hg,hx,k⟩:=h;refine⟨_,(ah (bQ (aY K5 (dP (aA (pv 0) rfl) T.aS T.cu (cU T) (hr.mono (by decide)) T.cQ .nil aG (af (pv 1) aj)) (gI T.Az) (bf _)) (ao (aJ (bz (af (gI T.uv) aj)))) aZ)
   (ao (aJ (aR (wj T) (hr.mono (by decide)) rfl T.um T.qh.kp T.uh .nil aG (af (pv 0) (af (t8 T.nW (gH T) (hr.mono (by decide)) rfl T.qX (T.lU).choose_spec aG (af (gI T.Zd) (af (pv 1) aj)) (ny (pv 2) EN)) aj)))))),?_⟩
  obtain⟨dx,aa,ca,la,ka,wa,d,q0,q1,q2,q3,q4,q5,_,q6,q7,_,_,hd⟩:=id hk.ex;obtain⟨ddx,_,_,_,_,d0,_⟩:=id hd.ex;have k:KQ K a H τ i p s Q (if Sa76.kindOf s.log obj≠some .counter then(some s,Sa76.ok (-3)) else Sa76.acted (some s) s obj (.add x)):=k;refine⟨_,rfl,p,_,dx,_,_,rfl,q0.1,T.aO,T.b9,rfl,d,ddx,_,rfl,d0.1,rfl,_,rfl,τ,i,d,ta,s.log,s.log,obj,rfl,hd,ht.tup,tJ _ _,_,rfl,?_⟩;by_cases h:Sa76.kindOf s.log obj=some .counter
  ·rw[acK (by rw[h];exact fun z=>z rfl)] at k;refine CA (by rw[h];rfl) ?_;refine⟨_,rfl,_,rfl,_,rfl,fun y dy nx nd ne=>⟨y,dy,5,x,.ref ta,.dN,.dN,.dN,rfl,ae,rfl,?_⟩⟩;rw[fJ];obtain⟨S4,c4⟩:=NI (a:=a) (y:=.add x) nx nd g ht rfl rfl rfl rfl;exact⟨τ,i,p,y,s,obj,.add x,rfl,aM.tg S4 g,hk.same S4 g,c4,hg,M.sH hg (M.ir h),hx,fun j hj=>by
    rw[show j=obj from aoJ.mp hj];exact M.ir h,k.same S4 g⟩
  ·rw[afO h] at k;refine Cz (ai7 rfl h) ?_;exact⟨tU,fun q n=>k.no hk g n⟩
def zx93(K:Fg)(a:dX)(vs:List V)(H:Hp)(Q:VK):=fun(τ:aL) (i:Nat) (p ta:Addr) (s:Sa76.St) (obj:Id) (kd:Nat) (z:Int) (vv:V) (f:Id→Sa76.Act)=>(vs=[.ref p,.int kd,.ref ta,.int z,vv]∧Tg H τ∧Ab K a H τ i p s∧eL K H τ ta obj∧M.Good s∧(∀ e,kOf (f e)=kd∧am5 (f e)=0∧keyOf (f e)=none∧Su (f e)=some e∧WO (fun b (v:Val)=>o8 H τ b v.bytes) vv (vOf (f e))∧(M.Xq e→M.acM (f e)))∧KQ K a H τ i p s Q (if Sa76.kindOf s.log obj≠some .list then(some s,Sa76.ok (-3)) else if Sa76.within z 0 ((Sa76.seen s.log obj).length - 1:Int)=false then(some s,Sa76.ok (-2)) else Sa76.acted (some s) s obj (f (Sa76.before s obj (z.toNat+1)))))
def anc(K:Fg)(a:dX):Sp:=fun vs H Q _=>zx_10 (zx93 K a vs H Q)
theorem afz(T:Txt K mg a):bL P w K mg base jk 8 a.vL a.Lo Lg (anc K a):=by
 refine T.SQ.ok adF (fun vs H Q E h=>?_) (fun cdv A outer sh H vs Q E hr h=>?_)
 ·obtain⟨τ,i,p,ta,s,obj,kd,z,vv,f,rfl,_⟩:=h;rfl
 ·obtain⟨τ,i,p,ta,s,obj,kd,z,vv,f,rfl,g,hk,ht,hg,hf,k⟩:=h;refine⟨_,(ah (bQ (aY K5 (dP (aA (pv 0) rfl) T.aS T.cu (cU T) (hr.mono (by decide)) T.cQ .nil aG (af (pv 2) aj)) (gI T.OR) (bf _)) (ao (aJ (bz (af (gI T.uv) aj)))) aZ)
   (ah (aP (i:=5) adF.nd rfl (.inl rfl) (dP (aA (pv 0) rfl) T.aS T.oK (vj T) (hr.mono (by decide)) T.pW .nil aG (af (pv 2) aj)))
   (ah (bQ (lP (t7 rR EL aW (pv 3) (cj bC (by rfl) T.nh (by decide +kernel) (af (pv 5) aj)))) (ao (aJ (bz (af (gI T.tT) aj)))) aZ)
   (ao (aJ (aR (wj T) (hr.mono (by decide)) rfl T.um T.qh.kp T.uh .nil aG (af (pv 0) (af (t8 T.nW (gH T) (hr.mono (by decide)) rfl T.qX (T.eU).choose_spec aG (af (pv 1) (af (pv 2) aj)) (ny (c9 bS (pv 5) (pv 3) (fun _ _=>rfl)) (ny (pv 4) EN))) aj)))))))),?_⟩
  obtain⟨dx,aa,ca,la,ka,wa,d,q0,q1,q2,q3,q4,q5,_,q6,q7,_,_,hd⟩:=id hk.ex;obtain⟨ddx,_,_,_,_,d0,_⟩:=id hd.ex;refine⟨_,rfl,p,_,dx,_,_,rfl,q0.1,T.aO,T.b9,rfl,d,ddx,_,rfl,d0.1,rfl,_,rfl,τ,i,d,ta,s.log,s.log,obj,rfl,hd,ht.tup,tJ _ _,_,rfl,?_⟩;by_cases h:Sa76.kindOf s.log obj=some .list
  ·rw[acK (by rw[h];exact fun z=>z rfl)] at k;refine CA (by rw[h];rfl) ?_;refine⟨_,rfl,p,_,dx,_,_,rfl,q0.1,T.aO,T.b9,rfl,d,ddx,_,rfl,d0.1,rfl,_,rfl,τ,i,d,ta,s.log,obj,rfl,hd,ht.tup,h,hg.wf,by have:=hg.Rv;omega,fun H1 r cs S1 n1 e1 hp=>?_⟩;have hlen:cs.length=(Sa76.seen s.log obj).length:=by rw[Paired.length hp,aah]
   have g1:=aM.tg S1 g;have hk1:=hk.same S1 g;have k1:=KQ.same k S1 g;have no:¬ (0≤z∧z < ((cs.map V.ref).length:Int))→KQ K a H1 τ i p s Q (some s,Sa76.ok (-2)):=fun hz=>by
    rw[afO (by rw[nv];rw[aah] at hz;omega)] at k1;exact k1
   refine⟨_,rfl,_,_,rfl,rfl,_,rfl,?_⟩;by_cases h1:0≤z
   ·refine rO h1 ?_;refine⟨_,rfl,r,_,rfl,.inl (cJ.of e1),_,_,rfl,rfl,_,rfl,?_⟩;by_cases h2:z < ((cs.map V.ref).length:Int)
    ·refine CA h2 ?_;rw[aah] at h2;rw[acK (by rw[nv];omega)] at k1;obtain⟨n,rfl⟩:=as1 h1;obtain⟨c,hc⟩:∃ c,cs[n]?=some c:=⟨_,aqw (by omega)⟩;obtain⟨j,hj,hcj⟩:=kG hp hc;have eb:Sa76.before s obj ((n:Int).toNat+1)=j:=by
      refine ZN ?_;rw[asZ,att];exact hj
     rw[eb] at k1;have hjk:j=ROOT∨j∈s.log.map Op.id:=by rw[← eb];exact M.KW s obj _
     obtain⟨f1,f2,f3,f4,f5,f6⟩:=hf j;refine⟨_,rfl,_,rfl,_,rfl,_,rfl,_,rfl,r,_,_,_,rfl,rfl,cJ.of e1,l5 (by rw[ant,hc];rfl),_,rfl,fun y dy nx nd ne=>⟨y,dy,kd,0,.ref ta,.dN,.ref c,vv,rfl,ae,rfl,?_⟩⟩;rw[fJ];obtain⟨S4,c4⟩:=NI (a:=a) (H':=upd (upd H1 dy (.own y)) y (.ins a.bH dy (chF kd (.ref ta) .dN (.ref c) vv 0))) (y:=f j) (key:=.dN) (el:=.ref c) (v:=vv) nx nd g1 (ht.imp (fun q=>aM.im S1 q) fun q=>q) (by rw[f3];exact rfl) (by rw[f4];exact⟨c,rfl,hcj.imp (fun q=>aM.im S1 q) fun q=>q⟩) (f5.imp fun _ _ q=>aM.im S1 q) (by rw[f1,f2]);exact⟨τ,i,p,y,s,obj,f j,rfl,aM.tg S4 g1,hk1.same S4 g1,c4,hg,M.sH hg (M.ir h),f6 (M.sH hg hjk),fun i hi=>by
      rw[Qk] at hi;show _;rw[show Su (f j)=some j from f4] at hi;rcases akS.mp hi with rfl|hi
      ·exact M.ir h
      ·rw[show i=j from aoJ.mp hi];exact hjk,k1.same S4 g1⟩
    ·exact Cz h2 ⟨tU,fun q n=>(no fun z=>h2 z.2).no hk1 g1 n⟩
   ·exact mQ h1 ⟨_,rfl,iO ⟨tU,fun q n=>(no fun z=>h1 z.1).no hk1 g1 n⟩⟩
  ·rw[afO h] at k;refine Cz (ai7 rfl h) ?_;exact⟨tU,fun q n=>k.no hk g n⟩
end
end KB
namespace KB
open PySem PySem.Spec PyProof.Rows L2
open Sa76 (Id Op Val Bytes ROOT)
theorem Ae{b:Bytes}(h:M.vm b)(e:M.ED b=true):∃ v,Sa76.valOf b=some v∧v≠.nothing∧v.bytes=b∧M.CJ v:=by
 have:=M.SD h;rw[e,aqv] at this;obtain⟨v,hv⟩:=this;obtain⟨h1,h2⟩:=M.Ae hv;exact⟨v,h1,h2,M.tY h h1,M.tV h h1⟩
theorem ZO{b:Bytes}(h:M.vm b)(e:M.ED b=false):Sa76.valOf b=none∨Sa76.valOf b=some .nothing:=by
 have:=M.SD h;rw[e] at this;cases hv:Sa76.valOf b with
 |none=>exact .inl rfl
 |some v=>
  rw[hv] at this;by_cases z:v=.nothing
  ·exact .inr (by rw[z])
  ·unfold M.K0 at this;rw[Option.bind_some,acK z] at this;cases this
theorem aic{b:Bytes}(h:M.vm b)(e:M.jJ b=true):∃ v,Sa76.valOf b=some v∧v.bytes=b∧M.CJ v:=by
 rw[M.Ad,aqv] at e;obtain⟨v,hv⟩:=e;exact⟨v,hv,M.tY h hv,M.tV h hv⟩
theorem aid{b:Bytes}(e:M.jJ b=false):Sa76.valOf b=none:=by
 rw[M.Ad] at e;cases hv:Sa76.valOf b with
 |none=>rfl
 |some v=>rw[hv] at e;cases e
section
variable{P:Program}{w:World}{K:Fg}{mg:Str→Option Value}{base:Heap}{a:dX}
def zx94(K:Fg)(a:dX)(vs:List V)(H:Hp)(Q:VK):=fun(τ:aL) (i:Nat) (p ta:Addr) (s:Sa76.St) (obj:Id) (z:Int)=>(vs=[.ref p,.ref ta,.int z]∧Tg H τ∧Ab K a H τ i p s∧eL K H τ ta obj∧M.Good s∧KQ K a H τ i p s Q (Sa76.does (some s) (.remove obj z)))
def acs(K:Fg)(a:dX):Sp:=fun vs H Q _=>zx_7 (zx94 K a vs H Q)
theorem acu(T:Txt K mg a):bL P w K mg base jk 9 a.jy a.vK vz (acs K a):=by
 refine T.E5.ok aan (fun vs H Q E h=>?_) (fun cdv A outer sh H vs Q E hr h=>?_)
 ·obtain⟨τ,i,p,ta,s,obj,z,rfl,_⟩:=h;rfl
 ·obtain⟨τ,i,p,ta,s,obj,z,rfl,g,hk,ht,hg,k⟩:=h;refine⟨_,(ao (aJ (aR (afz T) (hr.mono (by decide)) rfl T.aap T.SQ.kp T.aao .nil aG (af (pv 0) (af (gI T.Ay) (af (pv 1) (af (pv 2) (af jL aj)))))))),?_⟩;exact⟨_,rfl,_,rfl,_,rfl,τ,i,p,ta,s,obj,4,z,.dN,fun e=>.remove e,rfl,g,hk,ht,hg,fun e=>⟨rfl,rfl,rfl,rfl,rfl,fun z=>z⟩,k⟩
theorem afA(s:Sa76.St)(obj:Id)(z:Int)(v:Bytes)(n:Int):Sa76.does (some s) (.put obj z v n)=(match (if Sa76.within n 1 66=true then Sa76.valOf v else none) with
  |none=>(some s,Sa76.ok (-2))
  |some x=>if x=.nothing then(some s,Sa76.ok (-2)) else if Sa76.kindOf s.log obj≠some .list then(some s,Sa76.ok (-3)) else if Sa76.within z 0 ((Sa76.seen s.log obj).length - 1:Int)=false then(some s,Sa76.ok (-2)) else Sa76.acted (some s) s obj (.put (Sa76.before s obj (z.toNat+1)) x)):=rfl
theorem Rr(s:Sa76.St)(obj:Id)(z:Int)(v:Bytes)(n:Int):Sa76.does (some s) (.insert obj z v n)=(match (if Sa76.within n 1 66=true then Sa76.valOf v else none) with
  |none=>(some s,Sa76.ok (-2))
  |some x=>if x=.nothing then(some s,Sa76.ok (-2)) else if Sa76.kindOf s.log obj≠some .list then(some s,Sa76.ok (-3)) else if Sa76.within z 0 (Sa76.seen s.log obj).length=false then(some s,Sa76.ok (-2)) else Sa76.acted (some s) s obj (.insert (Sa76.before s obj z.toNat) x)):=rfl
theorem afB(s:Sa76.St)(obj:Id)(key:Bytes)(k:Int)(v:Bytes)(n:Int):Sa76.does (some s) (.set obj key k v n)=(match (if (Sa76.within k 1 32 && Sa76.within n 1 66)=true then Sa76.valOf v else none) with
  |none=>(some s,Sa76.ok (-2))
  |some x=>if Sa76.kindOf s.log obj≠some .map then(some s,Sa76.ok (-3)) else Sa76.acted (some s) s obj (.set key x)):=rfl
def zx95(K:Fg)(a:dX)(c:Id→Int→Bytes→Int→Sa76.Call)(vs:List V)(H:Hp)(Q:VK):=fun(τ:aL) (i:Nat) (p ta va:Addr) (s:Sa76.St) (obj:Id) (z n:Int) (b:Bytes)=>(vs=[.ref p,.ref ta,.int z,.int n,.ref va]∧Tg H τ∧Ab K a H τ i p s∧eL K H τ ta obj∧o8 H τ va b∧M.vm b∧M.Good s∧KQ K a H τ i p s Q (Sa76.does (some s) (c obj z b n)))
abbrev spV(K:Fg)(a:dX)(c:Id→Int→Bytes→Int→Sa76.Call):Sp:=fun vs H Q _=>zx_10 (zx95 K a c vs H Q)
def ZP(K:Fg)(a:dX):Sp:=spV K a Sa76.Call.put
theorem ak2(T:Txt K mg a):bL P w K mg base jk 9 a.kg a.GZ GW (ZP K a):=by
 refine T.Uv.ok aj0 (fun vs H Q E h=>?_) (fun cdv A outer sh H vs Q E hr h=>?_)
 ·obtain⟨τ,i,p,ta,va,s,obj,z,n,b,rfl,_⟩:=h;rfl
 ·obtain⟨τ,i,p,ta,va,s,obj,z,n,b,rfl,g,hk,ht,hv,hb,hg,k⟩:=h;refine⟨_,(ah (bQ (PW.pt (yi (lP (t7 rR rR aW (pv 3) (gI T.lG))) (uE (lP (gD (aR (lY T) (hr.mono (by decide)) rfl T.jI T.gG.kp T.jH .nil aG (af (pv 4) aj)) (fun _=>rfl)))))) (ao (aJ (bz (af (gI T.tT) aj)))) aZ)
   (ao (aJ (aR (afz T) (hr.mono (by decide)) rfl T.aap T.SQ.kp T.aao .nil aG (af (pv 0) (af (gI T.aiO) (af (pv 1) (af (pv 2) (af (pv 4) aj))))))))),?_⟩
  rw[afA] at k;refine⟨_,rfl,_,_,rfl,rfl,_,rfl,?_⟩;have no:¬ (1≤n∧n≤66)→KQ K a H τ i p s Q (some s,Sa76.ok (-2)):=fun hn=>by
   rw[acK (by rw[lJ];exact hn)] at k;exact k
  by_cases h1:1≤n
  ·refine rO h1 ?_;refine⟨_,_,rfl,rfl,_,rfl,?_⟩;by_cases h2:n≤66
   ·refine CA h2 ?_;rw[afO (by rw[lJ];exact⟨h1,h2⟩)] at k;refine⟨_,rfl,va,b,rfl,cJ.of hv.1,?_⟩;cases e:M.ED b with
    |false=>
     refine⟨_,rfl,iO ?_⟩;refine⟨tU,fun q nq=>?_⟩;rcases ZO hb e with e1|e1
     ·rw[e1] at k;exact KQ.no k hk g nq
     ·rw[e1] at k;exact KQ.no k hk g nq
    |true=>
     obtain⟨v,e1,e2,e3,e4⟩:=Ae hb e;rw[e1] at k;refine⟨_,rfl,zy ?_⟩;have k:KQ K a H τ i p s Q (if v=.nothing then(some s,Sa76.ok (-2)) else if Sa76.kindOf s.log obj≠some .list then(some s,Sa76.ok (-3)) else if Sa76.within z 0 ((Sa76.seen s.log obj).length - 1:Int)=false then(some s,Sa76.ok (-2)) else Sa76.acted (some s) s obj (.put (Sa76.before s obj (z.toNat+1)) v)):=k;rw[acK e2] at k;exact⟨_,rfl,_,rfl,_,rfl,_,rfl,τ,i,p,ta,s,obj,3,z,.ref va,fun e=>.put e v,rfl,g,hk,ht,hg,fun e=>⟨rfl,rfl,rfl,rfl,⟨va,rfl,(show o8 H τ va v.bytes by rw[e3];exact hv)⟩,fun z=>⟨z,e4,e2⟩⟩,k⟩
   ·exact Cz h2 (iO ⟨tU,fun q nq=>(no fun z=>h2 z.2).no hk g nq⟩)
  ·exact mQ h1 ⟨_,rfl,iO (iO ⟨tU,fun q nq=>(no fun z=>h1 z.1).no hk g nq⟩)⟩
def NV(K:Fg)(a:dX):Sp:=spV K a Sa76.Call.insert
theorem acv(T:Txt K mg a):bL P w K mg base jk 8 a.fm a.vJ vy (NV K a):=by
 refine T.E4.ok Lf (fun vs H Q E h=>?_) (fun cdv A outer sh H vs Q E hr h=>?_)
 ·obtain⟨τ,i,p,ta,va,s,obj,z,n,b,rfl,_⟩:=h;rfl
 ·obtain⟨τ,i,p,ta,va,s,obj,z,n,b,rfl,g,hk,ht,hv,hb,hg,k⟩:=h;refine⟨_,(ah (bQ (PW.pt (yi (lP (t7 rR rR aW (pv 3) (gI T.lG))) (uE (lP (gD (aR (lY T) (hr.mono (by decide)) rfl T.jI T.gG.kp T.jH .nil aG (af (pv 4) aj)) (fun _=>rfl)))))) (ao (aJ (bz (af (gI T.tT) aj)))) aZ)
   (ah (bQ (aY K5 (dP (aA (pv 0) rfl) T.aS T.cu (cU T) (hr.mono (by decide)) T.cQ .nil aG (af (pv 1) aj)) (gI T.OR) (bf _)) (ao (aJ (bz (af (gI T.uv) aj)))) aZ)
   (ah (aP (i:=5) Lf.nd rfl (.inl rfl) (fZ lQ (bz (af (lZ (v:=.ref a.fC) rfl T.SR rfl) aj)) (dP (aA (pv 0) rfl) T.aS T.oK (vj T) (hr.mono (by decide)) T.pW .nil aG (af (pv 1) aj))))
   (ah (bQ (lP (t7 rR EL aW (pv 2) (cj bC (by rfl) T.nh (by decide +kernel) (af (pv 5) aj)))) (ao (aJ (bz (af (gI T.tT) aj)))) aZ)
   (ao (aJ (aR (wj T) (hr.mono (by decide)) rfl T.um T.qh.kp T.uh .nil aG (af (pv 0) (af (t8 T.nW (gH T) (hr.mono (by decide)) rfl T.qX (T.eU).choose_spec aG (af (gI T.Lv) (af (pv 1) aj)) (ny (c9 bS (pv 5) (pv 2) (fun _ _=>rfl)) (ny (pv 4) EN))) aj))))))))),?_⟩
  rw[Rr] at k;refine⟨_,rfl,_,_,rfl,rfl,_,rfl,?_⟩;have no:¬ (1≤n∧n≤66)→KQ K a H τ i p s Q (some s,Sa76.ok (-2)):=fun hn=>by
   rw[acK (by rw[lJ];exact hn)] at k;exact k
  by_cases h1:1≤n
  ·refine rO h1 ?_;refine⟨_,_,rfl,rfl,_,rfl,?_⟩;by_cases h2:n≤66
   ·refine CA h2 ?_;rw[afO (by rw[lJ];exact⟨h1,h2⟩)] at k;refine⟨_,rfl,va,b,rfl,cJ.of hv.1,?_⟩;cases e:M.ED b with
    |false=>
     refine⟨_,rfl,iO ?_⟩;refine⟨tU,fun q nq=>?_⟩;rcases ZO hb e with e1|e1
     ·rw[e1] at k;exact KQ.no k hk g nq
     ·rw[e1] at k;exact KQ.no k hk g nq
    |true=>
     obtain⟨v,e1,e2,e3,e4⟩:=Ae hb e;rw[e1] at k;refine⟨_,rfl,zy ?_⟩;have k:KQ K a H τ i p s Q (if v=.nothing then(some s,Sa76.ok (-2)) else if Sa76.kindOf s.log obj≠some .list then(some s,Sa76.ok (-3)) else if Sa76.within z 0 (Sa76.seen s.log obj).length=false then(some s,Sa76.ok (-2)) else Sa76.acted (some s) s obj (.insert (Sa76.before s obj z.toNat) v)):=k;rw[acK e2] at k;obtain⟨dx,aa,ca,la,ka,wa,d,q0,q1,q2,q3,q4,q5,_,q6,q7,_,_,hd⟩:=id hk.ex;obtain⟨ddx,_,_,_,_,d0,_⟩:=id hd.ex;refine⟨_,rfl,p,_,dx,_,_,rfl,q0.1,T.aO,T.b9,rfl,d,ddx,_,rfl,d0.1,rfl,_,rfl,τ,i,d,ta,s.log,s.log,obj,rfl,hd,ht.tup,tJ _ _,_,rfl,?_⟩;by_cases h:Sa76.kindOf s.log obj=some .list
     ·rw[acK (by rw[h];exact fun z=>z rfl)] at k;refine CA (by rw[h];rfl) ?_;refine⟨tU,fun q1 n1=>?_⟩;have S1:=aq (o:=HO.lst [V.ref a.fC]) n1;have e11:(upd H q1 (.lst [.ref a.fC])) q1=some (.lst [.ref a.fC]):=ae;generalize upd H q1 (.lst [.ref a.fC])=H1 at S1 e11;have hd1:=hd.keep (Fr.same (P:=fun _=>True) S1 g) trivial fun _ _=>trivial;refine⟨_,rfl,p,_,dx,_,_,rfl,S1 _ _ q0.1,T.aO,T.b9,rfl,d,ddx,_,rfl,S1 _ _ d0.1,rfl,_,rfl,τ,i,d,ta,s.log,obj,rfl,hd1,aM.tup S1 ht.tup,h,hg.wf,by have:=hg.Rv;omega,fun H2 r cs S2 n2 e22 hp=>?_⟩;have hlen:cs.length=(Sa76.seen s.log obj).length:=by rw[Paired.length hp,aah]
      have hfew:(Sa76.seen s.log obj).length≤s.log.length:=ao0 (aq9 _ _) (M.vn hg.wf obj);refine⟨q1,r,_,_,rfl,rfl,S2 _ _ e11,e22,Rp (by rw[aah];have:=hg.Rv;show 1+_≤_;omega),fun q3 n3=>?_⟩;have S3:=aq (o:=HO.lst ([V.ref a.fC]++cs.map V.ref)) n3;have e33:(upd H2 q3 (.lst ([.ref a.fC]++cs.map V.ref))) q3=some (.lst ((a.fC::cs).map V.ref)):=ae;generalize upd H2 q3 (.lst ([.ref a.fC]++cs.map V.ref))=H3 at S3 e33;have S13:=(S1.trans S2).trans S3;have hp3:Paired (eL K H3 τ) (a.fC::cs) (ROOT::(Sa76.seen s.log obj).map Op.id):=.cons (.inr T.Lx) (Paired.ye hp fun _ _ z=>z.same (S2.trans S3));have g3:=aM.tg S13 g;have hk3:=hk.same S13 g;have k3:=KQ.same k S13 g;have no:¬ (0≤z∧z < (((a.fC::cs).map V.ref).length:Int))→KQ K a H3 τ i p s Q (some s,Sa76.ok (-2)):=fun hz=>by
       rw[afO (by rw[nv];rw[aah,ajk] at hz;omega)] at k3;exact k3
      refine⟨_,rfl,_,_,rfl,rfl,_,rfl,?_⟩;by_cases h1:0≤z
      ·refine rO h1 ?_;refine⟨_,rfl,q3,_,rfl,.inl (cJ.of e33),_,_,rfl,rfl,_,rfl,?_⟩;by_cases h2:z < (((a.fC::cs).map V.ref).length:Int)
       ·refine CA h2 ?_;rw[aah,ajk] at h2;rw[acK (by rw[nv];omega)] at k3;obtain⟨n,rfl⟩:=as1 h1;obtain⟨c,hc⟩:∃ c,(a.fC::cs)[n]?=some c:=⟨_,aqw (by rw[ajk];omega)⟩;obtain⟨j,hj,hcj⟩:=kG hp3 hc;have eb:Sa76.before s obj (n:Int).toNat=j:=by
         refine ZN ?_;rw[att];exact hj
        rw[eb] at k3;have hjk:j=ROOT∨j∈s.log.map Op.id:=by rw[← eb];exact M.KW s obj _
        refine⟨_,rfl,_,rfl,_,rfl,_,rfl,q3,_,_,_,rfl,rfl,cJ.of e33,l5 (by rw[ant,hc];rfl),_,rfl,fun y dy nx nd ne=>⟨y,dy,2,0,.ref ta,.dN,.ref c,.ref va,rfl,ae,rfl,?_⟩⟩;rw[fJ];obtain⟨S4,c4⟩:=NI (a:=a) (y:=.insert j v) nx nd g3 (ht.imp (fun q=>aM.im S13 q) fun q=>q) rfl ⟨c,rfl,hcj⟩ ⟨va,rfl,(show o8 H3 τ va v.bytes by rw[e3];exact aM.im S13 hv)⟩ rfl;exact⟨τ,i,p,y,s,obj,.insert j v,rfl,aM.tg S4 g3,hk3.same S4 g3,c4,hg,M.sH hg (M.ir h),⟨M.sH hg hjk,e4,e2⟩,fun i hi=>by
         rcases akS.mp hi with rfl|hi
         ·exact M.ir h
         ·rw[show i=j from aoJ.mp hi];exact hjk,k3.same S4 g3⟩
       ·exact Cz h2 ⟨tU,fun q n=>(no fun z=>h2 z.2).no hk3 g3 n⟩
      ·exact mQ h1 ⟨_,rfl,iO ⟨tU,fun q n=>(no fun z=>h1 z.1).no hk3 g3 n⟩⟩
     ·rw[afO h] at k;refine Cz (ai7 rfl h) ?_;exact⟨tU,fun q n=>k.no hk g n⟩
   ·exact Cz h2 (iO ⟨tU,fun q nq=>(no fun z=>h2 z.2).no hk g nq⟩)
  ·exact mQ h1 ⟨_,rfl,iO (iO ⟨tU,fun q nq=>(no fun z=>h1 z.1).no hk g nq⟩)⟩
def zx96(K:Fg)(a:dX)(vs:List V)(H:Hp)(Q:VK):=fun(τ:aL) (i:Nat) (p ta ka va:Addr) (s:Sa76.St) (obj:Id) (m n:Int) (key b:Bytes)=>(vs=[.ref p,.ref ta,.int m,.int n,.ref ka,.ref va]∧Tg H τ∧Ab K a H τ i p s∧eL K H τ ta obj∧o8 H τ ka key∧o8 H τ va b∧M.vm key∧M.vm b∧((1≤m∧m≤32)∧(1≤n∧n≤66)→(key.length:Int)=m)∧M.Good s∧KQ K a H τ i p s Q (Sa76.does (some s) (.set obj key m b n)))
def ak3(K:Fg)(a:dX):Sp:=fun vs H Q _=>zx_12 (zx96 K a vs H Q)
theorem ak4(T:Txt K mg a):bL P w K mg base jk 8 a.qN a.GY GV (ak3 K a):=by
 refine T.Uu.ok ajZ (fun vs H Q E h=>?_) (fun cdv A outer sh H vs Q E hr h=>?_)
 ·obtain⟨τ,i,p,ta,ka,va,s,obj,m,n,key,b,rfl,_⟩:=h;rfl
 ·obtain⟨τ,i,p,ta,ka,va,s,obj,m,n,key,b,rfl,g,hk,ht,hkey,hv,hkb,hb,hlen,hg,k⟩:=h;refine⟨_,(ah (bQ (PW.pt (yi (lP (t7 rR rR aW (pv 2) (gI T.sZ))) (yi (lP (t7 rR rR aW (pv 3) (gI T.lG))) (uE (lP (gD (aR (rP T) (hr.mono (by decide)) rfl T.nZ T.kD.kp T.nY .nil aG (af (pv 5) aj)) (fun _=>rfl))))))) (ao (aJ (bz (af (gI T.tT) aj)))) aZ)
   (ah (bQ (aY K5 (dP (aA (pv 0) rfl) T.aS T.cu (cU T) (hr.mono (by decide)) T.cQ .nil aG (af (pv 1) aj)) (gI T.UI) (bf _)) (ao (aJ (bz (af (gI T.uv) aj)))) aZ)
   (ao (aJ (aR (wj T) (hr.mono (by decide)) rfl T.um T.qh.kp T.uh .nil aG (af (pv 0) (af (t8 T.nW (gH T) (hr.mono (by decide)) rfl T.qX (T.jU).choose_spec aG (af (gI T.Zc) (af (pv 1) aj)) (ny (pv 4) (ny (pv 5) EN))) aj))))))),?_⟩
  rw[afB] at k;have no:¬ ((1≤m∧m≤32)∧(1≤n∧n≤66))→KQ K a H τ i p s Q (some s,Sa76.ok (-2)):=fun hn=>by
   rw[acK (by rw[anr,lJ,lJ];exact hn)] at k;exact k
  refine⟨_,rfl,_,_,rfl,rfl,_,rfl,?_⟩;by_cases h1:1≤m
  ·refine rO h1 ?_;refine⟨_,_,rfl,rfl,_,rfl,?_⟩;by_cases h2:m≤32
   ·refine CA h2 ?_;refine⟨_,rfl,_,_,rfl,rfl,_,rfl,?_⟩;by_cases h3:1≤n
    ·refine rO h3 ?_;refine⟨_,_,rfl,rfl,_,rfl,?_⟩;by_cases h4:n≤66
     ·refine CA h4 ?_;rw[afO (by rw[anr,lJ,lJ];exact⟨⟨h1,h2⟩,h3,h4⟩)] at k;have hlen:=hlen ⟨⟨h1,h2⟩,h3,h4⟩;refine⟨_,rfl,va,b,rfl,cJ.of hv.1,?_⟩;cases e:M.jJ b with
      |false=>
       rw[aid e] at k;refine⟨_,rfl,iO ?_⟩;exact⟨tU,fun q nq=>KQ.no k hk g nq⟩
      |true=>
       obtain⟨v,e1,e3,e4⟩:=aic hb e;rw[e1] at k;refine⟨_,rfl,zy ?_⟩;have k:KQ K a H τ i p s Q (if Sa76.kindOf s.log obj≠some .map then(some s,Sa76.ok (-3)) else Sa76.acted (some s) s obj (.set key v)):=k;obtain⟨dx,aa,ca,la,ka,wa,d,q0,q1,q2,q3,q4,q5,_,q6,q7,_,_,hd⟩:=id hk.ex;obtain⟨ddx,_,_,_,_,d0,_⟩:=id hd.ex;refine⟨_,rfl,p,_,dx,_,_,rfl,q0.1,T.aO,T.b9,rfl,d,ddx,_,rfl,d0.1,rfl,_,rfl,τ,i,d,ta,s.log,s.log,obj,rfl,hd,ht.tup,tJ _ _,_,rfl,?_⟩;by_cases h:Sa76.kindOf s.log obj=some .map
       ·rw[acK (by rw[h];exact fun z=>z rfl)] at k;refine CA (by rw[h];rfl) ?_;refine⟨_,rfl,_,rfl,_,rfl,_,rfl,fun y dy nx nd ne=>⟨y,dy,1,0,.ref ta,_,.dN,.ref va,rfl,ae,rfl,?_⟩⟩;rw[fJ];obtain⟨S4,c4⟩:=NI (a:=a) (y:=.set key v) nx nd g ht ⟨_,rfl,hkey⟩ rfl ⟨va,rfl,(show o8 H τ va v.bytes by rw[e3];exact hv)⟩ rfl;exact⟨τ,i,p,y,s,obj,.set key v,rfl,aM.tg S4 g,hk.same S4 g,c4,hg,M.sH hg (M.ir h),⟨by omega,by omega,hkb,e4⟩,fun j hj=>by
         rw[show j=obj from aoJ.mp hj];exact M.ir h,k.same S4 g⟩
       ·rw[afO h] at k;refine Cz (ai7 rfl h) ?_;exact⟨tU,fun q n=>k.no hk g n⟩
     ·exact Cz h4 (iO ⟨tU,fun q nq=>(no fun z=>h4 z.2.2).no hk g nq⟩)
    ·exact mQ h3 ⟨_,rfl,iO (iO ⟨tU,fun q nq=>(no fun z=>h3 z.2.1).no hk g nq⟩)⟩
   ·exact Cz h2 (iO ⟨tU,fun q nq=>(no fun z=>h2 z.1.2).no hk g nq⟩)
  ·exact mQ h1 ⟨_,rfl,iO (iO ⟨tU,fun q nq=>(no fun z=>h1 z.1.1).no hk g nq⟩)⟩
end
end KB
namespace KB
open PySem PySem.Spec PyProof.Rows L2
open Sa76 (Id Op Val Bytes ROOT)
theorem ane(v:List Nat)(n:Nat)(o:Op)(r:List Op)(g:Bytes):M.YG v n (o::r) g=if v.getD o.r 0 < o.n then(if n < g.length+(Sa76.framed o).length then g else M.YG v n r (g++Sa76.framed o)) else M.YG v n r g:=rfl
theorem ai8(v:List Nat)(n:Nat):∀ (l:List Op) (g:Bytes),(∀ o∈l,M.oS o)→(M.YG v n l g).length≤g.length+116 * l.length
 |[],g,_=>Nat.le_add_right _ _
 |o::r,g,h=>by
  have h1:=M.Ij (h o ajM);have ih:=ai8 v n r;unfold M.YG;rw[ajk];split
  ·split
   ·omega
   ·have:=ih (g++Sa76.framed o) fun q hq=>h q (aiy _ hq);rw[ada] at this;omega
  ·have:=ih g fun q hq=>h q (aiy _ hq);omega
section
variable{P:Program}{w:World}{K:Fg}{mg:Str→Option Value}{base:Heap}{a:dX}
abbrev anf(H:Hp)(Q:VK)(x:Sa76.Ans):Prop:=∀ H' q,aM H H'→H q=none→H' q=some (.lst (.int x.v::iB x.l))→Q (.ref q) H'
def zx97(K:Fg)(a:dX)(vs:List V)(H:Hp)(Q:VK):=fun(τ:aL) (i:Nat) (p ha:Addr) (s:Sa76.St) (m:Int) (v:List Nat)=>(vs=[.ref p,.int m,.ref ha]∧Tg H τ∧Ab K a H τ i p s∧H ha=some (.lst (iB v))∧v.length=8∧M.Good s∧anf H Q (Sa76.does (some s) (.since v m)).2)
def afC(K:Fg)(a:dX):Sp:=fun vs H Q _=>zx_7 (zx97 K a vs H Q)
theorem Rt(T:Txt K mg a):bL P w K mg base jk 5 a.lz a.yG yr (afC K a):=by
 refine T.B7.ok yt (fun vs H Q E h=>?_) (fun cdv A outer sh H vs Q E hr h=>?_)
 ·obtain⟨τ,i,p,ha,s,m,v,rfl,_⟩:=h;rfl
 ·obtain⟨τ,i,p,ha,s,m,v,rfl,g,hk,hv,hv8,hg,k⟩:=h;refine⟨_,(ah (bQ (aY EL (pv 1) aW (bf _)) (ao (aJ (bz (af (gI T.tT) aj)))) aZ)
   (ah (aP (i:=3) yt.nd rfl (.inl rfl) (bz aj))
   (ah (Jj arV rfl (vo (aA (pv 0) rfl)) (l0 (i:=4) yt.nd rfl (.inl rfl)) (ao (bQ (aY YK (aA (pv 4) rfl) (c9 bS (pv 2) (aA (pv 4) rfl) (fun _ _=>rfl)) (bf _)) (ah (aP (i:=5) yt.nd rfl (.inl rfl) (aR (WU T) (hr.mono (by decide)) rfl T.Iw T.zC.kp T.Iv .nil aG (af (aR (Yq T) (hr.mono (by decide)) rfl T.Lr T.B6.kp T.Lq .nil aG (af (pv 4) aj)) aj)))
   (ah (bQ (aY YK (fZ uF (cj bC (by rfl) T.nh (by decide +kernel) (af (pv 3) aj)) (cj bC (by rfl) T.nh (by decide +kernel) (af (pv 5) aj))) (pv 1) (bf _)) (ao alz) aZ)
   (ao (di (rS anK asT asU Aj (pv 3) (af (pv 5) aj)))))) aZ)))
   (ao (aJ (fZ lQ (bz (af (cj bC (by rfl) T.nh (by decide +kernel) (af (pv 3) aj)) aj)) (pv 3))))))),?_⟩
  obtain⟨dx,aa,ca,la,ka,wa,d,q0,q1,q2,q3,q4,q5,⟨as,a1,a2⟩,_⟩:=id hk.ex;have k:anf H Q (if m < 0 then(some s,Sa76.ok (-2)) else(some s,⟨((Sa76.fitting m.toNat (Sa76.since s v)).length:Int),Sa76.fitting m.toNat (Sa76.since s v)⟩):Sa76.Abs×Sa76.Ans).2:=by
   have e:Sa76.does (some s) (.since v m)=(if m < 0 then(some s,Sa76.ok (-2)) else(some s,⟨((Sa76.fitting m.toNat (Sa76.since s v)).length:Int),Sa76.fitting m.toNat (Sa76.since s v)⟩):Sa76.Abs×Sa76.Ans):=rfl;rw[e] at k;exact k
  refine⟨_,rfl,_,_,rfl,rfl,_,rfl,?_⟩;by_cases hm:m < 0
  ·rw[afO hm] at k;exact rO hm ⟨tU,fun q n=>k _ q (aq n) n ae⟩
  ·rw[acK hm] at k;refine mQ hm ?_;obtain⟨n,rfl⟩:=as1 (show 0≤m by omega);have eg:Sa76.fitting (n:Int).toNat (Sa76.since s v)=M.YG v n s.log []:=by
    rw[M.aga v s.log n [] (aqu _)];rfl
   rw[eg] at k;refine⟨le0,fun p0 n0=>?_⟩;have S0:=aq (o:=HO.lst []) n0;have e0:(upd H p0 (.lst [])) p0=some (.lst (iB [])):=ae;generalize upd H p0 (.lst [])=H0 at S0 e0;have hfew:=hg.Rv;have hgl:=ai8 v n s.log [] hg.log;have fin:∀ (H':Hp) (q1 q2:Addr),aM H H'→H' p0=some (.lst (iB (M.YG v n s.log [])))→H' q1=none→(upd H' q1 (.lst [.int ((iB (M.YG v n s.log [])).length:Int)])) q2=none→Q (.ref q2) (upd (upd H' q1 (.lst [.int ((iB (M.YG v n s.log [])).length:Int)])) q2 (.lst ([.int ((iB (M.YG v n s.log [])).length:Int)]++iB (M.YG v n s.log [])))):=fun H' q1 q2 S e n1 n2=>by
    have S1:=aq (o:=HO.lst [V.int ((iB (M.YG v n s.log [])).length:Int)]) n1;refine k _ q2 ((S.trans S1).trans (aq n2)) (S.free (S1.free n2)) ?_;rw[ae,aB];rfl
   have szf:1+(iB (M.YG v n s.log [])).length≤sizeLine:=Rp (by rw[aB];have:([]:Bytes).length=0:=rfl;omega);refine⟨_,rfl,p,_,dx,_,_,rfl,S0 _ _ q0.1,T.aO,T.m7,rfl,aa,rfl,⟨_,cJ.of (S0 _ _ a1)⟩,?_⟩;refine EK (K:=K) (a:=aa) (xs:=as.map V.ref) (fun j σ H'=>(∃ v4 v5,σ=[some (.ref p),some (.int (n:Int)),some (.ref ha),some (.ref p0),v4,v5])∧aM H H'∧∃ b,H' p0=some (.lst (iB b))∧b.length≤116 * j∧M.YG v n s.log []=M.YG v n (s.log.drop j) b) ⟨⟨none,none,rfl⟩,S0,[],e0,aiM _,rfl⟩ (fun j σ H' _ ⟨_,S,_⟩=>cJ.of (S _ _ a1)) ?_ ?_
   ·rintro j y σ H' hy ⟨⟨v4,v5,rfl⟩,S,b,hb,hbl,hgv⟩;obtain⟨c,hc,rfl⟩:=GL hy;obtain⟨o,ho,hco⟩:=kG a2 hc;have cI:=hg.log o (aqt ho);have hj:j < s.log.length:=(aox.mp ho).1;have hd:s.log.drop j=o::s.log.drop (j+1):=by
     rw[List.drop_eq_getElem_cons hj];congr 1;exact(aox.mp ho).2
    rw[hd] at hgv;have hc1:=hco.same S;obtain⟨cdx,cc,c0,_⟩:=id hc1.ex;have hvr:(iB v)[o.r]?=some (.int (v.getD o.r 0:Nat)):=by
     rw[ant,aqw (show o.r < v.length by have:=cI.r;omega),aqx,aqw (show o.r < v.length by have:=cI.r;omega)];rfl
    refine⟨_,rfl,c,_,cdx,_,_,rfl,c0.1,T.bG,T.ud,rfl,_,rfl,_,rfl,c,_,cdx,_,_,rfl,c0.1,T.bG,T.cT,rfl,ha,_,_,_,rfl,rfl,cJ.of (S _ _ hv),l5 hvr,_,_,rfl,rfl,_,rfl,?_⟩;rw[ane] at hgv;have hfl:=M.Ij cI;have hol:=M.wq cI;by_cases h1:v.getD o.r 0 < o.n
    ·refine rO (by omega) ?_;rw[afO h1] at hgv;refine⟨_,rfl,τ,c,o,rfl,hc1,cI,fun H1 r1 S1 n1 e1=>?_⟩;refine⟨r1,_,rfl,e1,by omega,fun H2 r2 S2 n2 e2=>?_⟩;have S12:=S1.trans S2;have n2':H' r2=none:=S1.free n2;have e2:H2 r2=some (.lst (iB (Sa76.framed o))):=e2;refine⟨_,rfl,p0,_,rfl,.inl (cJ.of (S12 _ _ hb)),_,rfl,r2,_,rfl,.inl (cJ.of e2),_,_,rfl,rfl,_,rfl,_,_,rfl,rfl,_,rfl,?_⟩;rw[aB,aB];by_cases h2:n < b.length+(Sa76.framed o).length
     ·refine rO (by omega) ?_;rw[afO h2] at hgv;rw[← hgv] at hb;exact⟨_,rfl,p0,_,rfl,.inl (cJ.of (S12 _ _ hb)),tU,fun r3 n3=>⟨_,rfl,r3,p0,_,_,rfl,rfl,ae,aq n3 _ _ (S12 _ _ hb),szf,fun r4 n4=>fin _ r3 r4 (S.trans S12) (S12 _ _ hb) n3 n4⟩⟩
     ·refine mQ (by omega) ?_;rw[acK h2] at hgv;refine⟨_,rfl,.inl ⟨rfl,_,cJ.of (S12 _ _ hb)⟩,_,rfl,p0,r2,_,_,rfl,rfl,S12 _ _ hb,e2,Rp (by rw[aB,aB];omega),⟨_,_,rfl⟩,?_,b++Sa76.framed o,by rw[ae,fy],by rw[ada];omega,hgv⟩;exact fun b o e=>by rw[ak (au e n0)];exact(S.trans S12) b o e
    ·refine mQ (by omega) ?_;rw[acK h1] at hgv;exact⟨⟨_,_,rfl⟩,S,b,hb,by omega,hgv⟩
   ·rintro σ H' ⟨⟨v4,v5,rfl⟩,S,b,hb,hbl,hgv⟩;have e:s.log.drop (as.map V.ref).length=[]:=asz (by rw[aah,Paired.length a2];exact aiM _);rw[e] at hgv;have hgv:M.YG v n s.log []=b:=hgv;rw[← hgv] at hb;exact⟨_,rfl,p0,_,rfl,.inl (cJ.of hb),tU,fun r3 n3=>⟨_,rfl,r3,p0,_,_,rfl,rfl,ae,aq n3 _ _ hb,szf,fun r4 n4=>fin _ r3 r4 S hb n3 n4⟩⟩
end
end KB
namespace KB
open PySem PySem.Spec PyProof.Rows L2
open Sa76 (Id Op Val Bytes ROOT)
theorem ak5(s:Sa76.St)(o:Op):s.log.length≤(Sa76.come s o).log.length:=by
 rw[M.SA];split
 ·exact aiM _
 ·exact(M.Yx _ { s with waits:=s.waits++[o] } (aiM _)).1
section
variable{P:Program}{w:World}{K:Fg}{mg:Str→Option Value}{base:Heap}{a:dX}
def zx98(K:Fg)(a:dX)(vs:List V)(H:Hp)(Q:VK):=fun(τ:aL) (i:Nat) (p l:Addr) (s:Sa76.St) (b:Bytes)=>(vs=[.ref p,.ref l]∧Tg H τ∧Ab K a H τ i p s∧H l=some (.lst (iB b))∧M.vm b∧M.Good s∧Nd s∧KQ K a H τ i p s Q (Sa76.does (some s) (.take b b.length)))
def aie(K:Fg)(a:dX):Sp:=fun vs H Q _=>zx_6 (zx98 K a vs H Q)
theorem Xd(T:Txt K mg a):bL P w K mg base jk 8 a.nN a.B3 BR (aie K a):=by
 refine T.G5.ok wK (fun vs H Q E h=>?_) (fun cdv A outer sh H vs Q E hr h=>?_)
 ·obtain⟨τ,i,p,l,s,b,rfl,_⟩:=h;rfl
 ·obtain⟨τ,i,p,l,s,b,rfl,g,hk,hl,hb,hg,hnd,k⟩:=h;refine⟨_,(ah (bQ (aY YK (cj bC (by rfl) T.nh (by decide +kernel) (af (pv 1) aj)) (gI T.xh) (bf _)) (ao (aJ (bz (af (gI T.tT) aj)))) aZ)
   (ah (aP (i:=2) wK.nd rfl (.inl rfl) (aR (ah9 T) (hr.mono (by decide)) rfl T.Y6 T.OJ.kp T.Y5 .nil aG (af (pv 1) aj)))
   (ah (bQ (aY T3 (pv 2) jL (bf _)) (ao (aJ (bz (af (gI T.IL) aj)))) aZ)
   (ah (aP (i:=3) wK.nd rfl (.inl rfl) aW)
   (ah (Jj arV rfl (vo (pv 2)) (l0 (i:=4) wK.nd rfl (.inl rfl)) (ao (alD (i:=3) wK.nd rfl (.inl rfl) (dP (pv 0) T.aO T.E2 (Xc T) (hr.mono (by decide)) T.IF .nil aG (af (pv 4) aj)) agf)))
   (ao (aJ (bz (af (pv 3) aj))))))))),?_⟩
  have k:KQ K a H τ i p s Q (if Sa76.within (b.length:Int) 0 65536=false then(some s,Sa76.ok (-2)) else match M.Ag b with
   |none=>(some s,Sa76.ok (-3))
   |some l=>(some (l.foldl Sa76.come s),Sa76.ok (((l.foldl Sa76.come s).log.length - s.log.length:Nat):Int))):=k
  refine⟨_,rfl,l,_,rfl,.inl (cJ.of hl),_,_,rfl,rfl,_,rfl,?_⟩;rw[aB];by_cases hm:(b.length:Int) > 65536
  ·rw[afO (by rw[nv];omega)] at k;exact rO hm ⟨tU,fun q n=>k.no hk g n⟩
  ·rw[acK (by rw[nv];omega)] at k;refine mQ hm ?_;refine⟨_,rfl,τ,l,b,rfl,g,hl,hb,by omega,fun e H1 S1=>?_,fun ops e H1 q as S1 n1 e1 hp=>?_⟩
   ·rw[e] at k;refine⟨_,rfl,rfl,_,rfl,?_⟩;exact rO rfl ⟨tU,fun q n=>KQ.no (k.same S1 g) (hk.same S1 g) (aM.tg S1 g) n⟩
   ·rw[e] at k;have hops:∀ o∈ops,M.oS o:=M.Tp hb e;have hol:ops.length≤b.length:=M.alq _ (aiM _) e;refine⟨_,rfl,rfl,_,rfl,?_⟩;refine mQ (fun z=>nomatch z) ?_;have tq:τ q=.hU:=g q n1;refine⟨_,rfl,q,rfl,⟨_,cJ.of e1⟩,?_⟩;have g1:=aM.tg S1 g;refine EK (K:=K) (a:=q) (xs:=as.map V.ref) (fun j σ H'=>∃ (v4:Option V) (τ':aL),σ=[some (.ref p),some (.ref l),some (.ref q),some (.int ((((ops.take j).foldl Sa76.come s).log.length - s.log.length:Nat):Int)),v4]∧Ab K a H' τ' i p ((ops.take j).foldl Sa76.come s)∧Fr (KP i) H1 τ H' τ'∧M.Good ((ops.take j).foldl Sa76.come s)∧Nd ((ops.take j).foldl Sa76.come s)∧s.log.length≤((ops.take j).foldl Sa76.come s).log.length) ?_ ?_ ?_ ?_
    ·rw[List.take_zero];refine⟨none,τ,?_,hk.same S1 g,Fr.refl g1,hg,hnd,aiM _⟩;show _=[some (V.ref p),some (V.ref l),some (V.ref q),some (V.int ((s.log.length - s.log.length:Nat):Int)),none];rw[Nat.sub_self];rfl
    ·rintro j σ H' _ ⟨_,τ',_,_,F,_⟩;exact cJ.of (F.keep _ _ e1 (by rw[tq];exact Qu i))
    ·rintro j y σ H' hy ⟨v4,τ',rfl,hk',F,hg',hnd',hle⟩;obtain⟨c,hc,rfl⟩:=GL hy;obtain⟨o,ho,hco⟩:=kG hp hc;have cI:=hops o (aqt ho);obtain⟨dx,_,_,_,_,_,_,q0,_⟩:=id hk'.ex;have ht:=take_snoc ho;rw[ht,atO];show _;generalize (ops.take j).foldl Sa76.come s=sj at *;have hge:=ak5 sj o;refine⟨_,rfl,_,rfl,p,dx,_,rfl,q0.1,rfl,_,rfl,τ',i,p,c,sj,o,rfl,F.tg,hk',hco.keep F (Qu i),cI,hg',hnd',fun H2 τ2 hk2 F2=>?_⟩;refine⟨_,_,rfl,rfl,?_⟩;have ec:((sj.log.length - s.log.length:Nat):Int)+(((Sa76.come sj o).log.length - sj.log.length:Nat):Int)=(((Sa76.come sj o).log.length - s.log.length:Nat):Int):=by omega
     exact⟨some (.ref c),τ2,(by
      show _=[some (V.ref p),some (V.ref l),some (V.ref q),some (V.int (((Sa76.come sj o).log.length - s.log.length:Nat):Int)),some (.ref c)];rw[← ec];rfl),hk2,F.trans F2,M.aje hg' cI,aoy hnd',ao0 hle hge⟩
    ·rintro σ H' ⟨v4,τ',rfl,hk',F,hg',hnd',hle⟩;have et:ops.take (as.map V.ref).length=ops:=asA (by rw[aah,Paired.length hp];exact aiM _);rw[et] at hk' hg' hnd' hle ⊢;refine⟨_,rfl,tU,fun q2 n2=>?_⟩;have S2:=aq (o:=HO.lst [V.int (((ops.foldl Sa76.come s).log.length - s.log.length:Nat):Int)]) n2;exact k _ _ τ' q2 rfl (fun _ _=>⟨hg',hnd'⟩) (hk'.same S2 F.tg) (((Fr.same S1 g).trans F).trans (Fr.same S2 F.tg)) (S1.free (F.free n2)) ae
end
end KB
namespace KB
open PySem PySem.Spec PyProof.Rows L2
open Sa76 (Id Op Val Bytes ROOT)
theorem rQ{x y:Bytes}(h:M.vm x)(k:M.vm y):M.vm (x++y):=fun c hc=>(aoF.mp hc).elim (h c) (k c)
theorem aoz{n:Nat}(h:n < 256):M.vm [n]:=fun c hc=>by rw[aoJ.mp hc];exact h
theorem acw(i:Id):M.vm (Sa76.Id.bytes i):=rQ (M.Od _ _) (M.Od _ _)
theorem aqo{o:Op}(h:M.oS o):M.vm o.bytes:=by
 rw[M.Tz];have hr:=h.r;have ha:=h.act;refine rQ (rQ (rQ (rQ (fun c hc=>?_) (M.Od _ _)) (M.Od _ _)) (acw _)) ?_
 ·rcases akS.mp hc with rfl|hc
  ·cases o.act <;> simp[M.kOf]
  ·rw[aoJ.mp hc];omega
 ·cases hact:o.act with
  |set k v=>
   rw[hact] at ha;exact rQ (x:=[k.length]) (aoz (by have:=ha.2.1;omega)) (rQ ha.2.2.1 (M.Og ha.2.2.2))
  |insert b v=>
   rw[hact] at ha;exact rQ (acw _) (M.Og ha.2.1)
  |put b v=>
   rw[hact] at ha;exact rQ (acw _) (M.Og ha.2.1)
  |remove e=>exact acw _
  |add d=>exact M.YC _
theorem aif{o:Op}(h:M.oS o):M.vm (Sa76.framed o):=rQ (M.Od _ _) (aqo h)
theorem Ru:∀ {l:List Op} (n:Nat),(∀ o∈l,M.oS o)→M.vm (Sa76.fitting n l)
 |[],n,_=>fun c hc=>by cases hc
 |o::r,n,h=>by
  rw[Sa76.fitting];split
  ·exact fun c hc=>by cases hc
  ·exact rQ (aif (h o ajM)) (Ru _ fun q hq=>h q (aiy _ hq))
theorem ak6{s:Sa76.St}(hg:M.Good s)(v:List Nat)(m:Int):M.vm (Sa76.does (some s) (.since v m)).2.l:=by
 have e:Sa76.does (some s) (.since v m)=(if m < 0 then(some s,Sa76.ok (-2)) else(some s,⟨((Sa76.fitting m.toNat (Sa76.since s v)).length:Int),Sa76.fitting m.toNat (Sa76.since s v)⟩):Sa76.Abs×Sa76.Ans):=rfl;rw[e];split
 ·exact fun c hc=>by cases hc
 ·exact Ru _ fun o ho=>hg.log o (ao9.mp ho).1
theorem afD(v:V)(xs:List V):qC (v::xs) (some 1) none=xs:=by
 have h:qC (v::xs) (some ((1:Nat):Int)) none=xs:=by
  unfold qC;rw[HT.yk,HT.K6,ajk,asK (by omega)];show xs.take (xs.length+1 - 1)=xs;rw[asA (by omega)]
 exact h
theorem ang(s:Sa76.St):NU s=iB ((List.range 8).map (Sa76.had s)):=by
 show(List.range 8).map _=((List.range 8).map (Sa76.had s)).map _;rw[ao8];rfl
section
variable{P:Program}{w:World}{K:Fg}{mg:Str→Option Value}{base:Heap}{a:dX}
def zx99(K:Fg)(a:dX)(vs:List V)(H:Hp)(Q:VK):=fun(τ:aL) (i1 i2:Nat) (p1 p2:Addr) (s1 s2:Sa76.St) (m:Int)=>(vs=[.ref p1,.ref p2,.int m]∧Tg H τ∧Ab K a H τ i1 p1 s1∧Ab K a H τ i2 p2 s2∧M.Good s1∧M.Good s2∧Nd s2∧∀ x y,x=(Sa76.does (some s1) (.since ((List.range 8).map (Sa76.had s2)) m)).2→y=Sa76.does (some s2) (.take x.l (x.l.length:Nat))→∀ s' H' τ' q,y.1=some s'→(M.Good s2→Nd s2→M.Good s'∧Nd s')→Ab K a H' τ' i2 p2 s'→Fr (KP i2) H τ H' τ'→H q=none→H' q=some (.lst [.int x.v,.int y.2.v])→Q (.ref q) H')
def aih(K:Fg)(a:dX):Sp:=fun vs H Q _=>zx_8 (zx99 K a vs H Q)
theorem aii(T:Txt K mg a):bL P w K mg base jk 9 a.nO a.B4 BS (aih K a):=by
 refine T.ON.ok Jm (fun vs H Q E h=>?_) (fun cdv A outer sh H vs Q E hr h=>?_)
 ·obtain⟨τ,i1,i2,p1,p2,s1,s2,m,rfl,_⟩:=h;rfl
 ·obtain⟨τ,i1,i2,p1,p2,s1,s2,m,rfl,g,hk1,hk2,hg1,hg2,hnd,k⟩:=h;refine⟨_,(ah (aP (i:=3) Jm.nd rfl (.inl rfl) (aR (Rt T) (hr.mono (by decide)) rfl T.Jv T.B7.kp T.Ju .nil aG (af (pv 0) (af (pv 2) (af (aA (pv 1) rfl) aj)))))
   (ah (aP (i:=4) Jm.nd rfl (.inl rfl) (aR (Xd T) (hr.mono (by decide)) rfl T.OM T.G5.kp T.OL .nil aG (af (pv 1) (af (ik jX (pv 3) (fL aW) vp) aj))))
   (ao (aJ (bz (af (c9 bS (pv 3) aW (fun _ _=>rfl)) (af (c9 bS (pv 4) aW (fun _ _=>rfl)) aj))))))),?_⟩
  obtain⟨dx,aa,ca,la,ka,wa,d,q0,q1,q2,q3,q4,q5,_,q6,_⟩:=id hk2.ex;have hob:=ak6 hg1 ((List.range 8).map (Sa76.had s2)) m;rw[ang] at q6;refine⟨_,rfl,_,rfl,_,rfl,p2,_,dx,_,_,rfl,q0.1,T.aO,T.fq,rfl,τ,i1,p1,ca,s1,m,_,rfl,g,hk1,q6,by rw[aah,asH],hg1,fun H1 r1 S1 n1 e1=>?_⟩;have k:=k _ _ rfl rfl;generalize (Sa76.does (some s1) (.since ((List.range 8).map (Sa76.had s2)) m)).2=x at *;have g1:=aM.tg S1 g;have t1:τ r1=.hU:=g r1 n1;refine⟨_,rfl,_,rfl,_,rfl,r1,_,rfl,cJ.of e1,fun r2 n2=>?_⟩;rw[afD];have S2:=aq (o:=HO.lst (iB x.l)) n2;have e2:(upd H1 r2 (.lst (iB x.l))) r2=some (.lst (iB x.l)):=ae;generalize upd H1 r2 (.lst (iB x.l))=H2 at S2 e2;have S12:=S1.trans S2;have g2:=aM.tg S12 g;refine⟨τ,i2,p2,r2,s2,x.l,rfl,g2,hk2.same S12 g,e2,hob,hg2,hnd,fun s' H3 τ3 r3 es eg hk3 F3 n3 e3=>?_⟩;have e13:=F3.keep _ _ (S2 _ _ e1) (by rw[t1];exact Qu i2);refine⟨_,rfl,r1,_,_,_,rfl,rfl,cJ.of e13,at_of (j:=0) rfl rfl,_,rfl,r3,_,_,_,rfl,rfl,cJ.of e3,at_of (j:=0) rfl rfl,le2,fun r4 n4=>?_⟩;have S4:=aq (o:=HO.lst [V.int x.v,V.int (Sa76.does (some s2) (.take x.l (x.l.length:Nat))).2.v]) n4;exact k s' _ τ3 r4 es eg (hk3.same S4 F3.tg) (((Fr.same S12 g).trans F3).trans (Fr.same S4 F3.tg)) (S12.free (F3.free n4)) ae
end
end KB
namespace KB
open PySem PySem.Spec PyProof.Rows L2
open Sa76 (Id Op Val Bytes ROOT)
abbrev NK(i:Nat):Tag→Prop:=fun t=>t≠.own i .kp
theorem Fr.any{P:Tag→Prop}{H H':Hp}{τ τ':aL}(S:aM H H')(h1:∀ b o,H b=some o→τ' b=τ b)(h2:Tg H' τ'):Fr P H τ H' τ':=⟨fun b o e _=>S b o e,h1,fun b o e=>⟨o,S b o e⟩,h2⟩
theorem Dp{i:Nat}{H H':Hp}{τ τ':aL}{b:Addr}{o:HO}{x:Part}(F:Fr (NK i) H τ H' τ')(h:H b=some o∧τ b=.own i x)(hx:x≠.kp):H' b=some o∧τ' b=.own i x:=⟨F.keep _ _ h.1 (by rw[h.2];exact fun z=>hx (by injection z)),(F.tag _ _ h.1).trans h.2⟩
section
variable{P:Program}{w:World}{K:Fg}{mg:Str→Option Value}{base:Heap}{a:dX}
theorem NW{j:Id}{v:Val}(h:Sa76.kindOf [] j=some v):j=ROOT∧v=.map:=by
 unfold Sa76.kindOf at h;by_cases e:j=ROOT
 ·rw[afO e] at h;cases h;exact⟨e,rfl⟩
 ·rw[acK e] at h;cases h
def zx100(K:Fg)(a:dX)(vs:List V)(H:Hp)(Q:VK):=fun(τ:aL) (i:Nat) (p dx:Addr) (me:Nat)=>(vs=[.ref p,.int me]∧Tg H τ∧H p=some (.ins a.az dx [])∧τ p=.own i .kp∧∀ H' τ',Ab K a H' τ' i p (Sa76.begun me)→Fr (NK i) H τ H' τ'→Q .dN H')
def Xe(K:Fg)(a:dX):Sp:=fun vs H Q _=>zx_5 (zx100 K a vs H Q)
theorem Xf(T:Txt K mg a):bL P w K mg base jk 3 a.fE a.qR qG (Xe K a):=by
 refine T.IB.ok Uk (fun vs H Q E h=>?_) (fun cdv A outer sh H vs Q E hr h=>?_)
 ·obtain⟨τ,i,p,dx,me,rfl,_⟩:=h;rfl
 ·obtain⟨τ,i,p,dx,me,rfl,g,hp,tp,k⟩:=h;refine⟨_,(ah (fK (pv 0) (pv 1) rfl)
   (ah (fK (pv 0) (bz aj) rfl)
   (ah (fK (pv 0) (fZ alR (bz (af aW aj)) (gI T.Ax)) rfl)
   (ah (fK (pv 0) (fZ alR (bz (af aW aj)) (gI T.Ax)) rfl)
   (ah (fK (pv 0) aW rfl)
   (ah (fK (pv 0) (Lb (eV hr) (lZ (v:=.ref a.kh) rfl T.UG rfl) TV) rfl)
   (ah (fK (pv 0) wH rfl)
   (ao (fK (pv 0) (ade T.QN (Qs T) (hr.mono (by decide)) rfl T.Us T.CU .nil aG) rfl))))))))),?_⟩
  refine⟨_,rfl,_,rfl,p,_,dx,_,rfl,hp,T.aO,T.oX,(by show 0 < 1000;decide),?_⟩;have F1:Fr (NK i) H τ (upd H p (.ins a.az dx [("who",.int me)])) τ:=Fr.upd hp (by rw[tp];exact fun z=>z rfl) g;have p1:(upd H p (.ins a.az dx [("who",.int me)])) p=some (.ins a.az dx [("who",.int me)]):=ae;show aab _ _ _ _ (upd H p (.ins a.az dx [("who",.int me)]));generalize upd H p (.ins a.az dx [("who",.int me)])=H1 at F1 p1;refine⟨le0,fun aa n1=>?_⟩;have G1:Fr (NK i) H1 τ (upd H1 aa (.lst [])) (bh τ aa (.own i .Yo)):=Fr.GF (aq n1) n1 ae F1.tg;have qa:(upd H1 aa (.lst [])) aa=some (.lst [])∧bh τ aa (.own i .Yo) aa=.own i .Yo:=⟨ae,cg⟩;have pt:bh τ aa (.own i .Yo) p=.own i .kp:=(aX (au p1 n1)).trans tp;have p2:=aq (o:=HO.lst []) n1 _ _ p1;generalize upd H1 aa (.lst [])=H2 at G1 qa p2;generalize bh τ aa (.own i .Yo)=τ2 at G1 qa pt;refine⟨_,rfl,p,_,dx,_,rfl,p2,T.aO,T.m7,(by show 1 < 1000;decide),?_⟩;have F2:Fr (NK i) H2 τ2 (upd H2 p (.ins a.az dx [("who",.int me),("acts",.ref aa)])) τ2:=Fr.upd p2 (by rw[pt];exact fun z=>z rfl) G1.tg;have p3:(upd H2 p (.ins a.az dx [("who",.int me),("acts",.ref aa)])) p=some (.ins a.az dx [("who",.int me),("acts",.ref aa)]):=ae;show aab _ _ _ _ (upd H2 p (.ins a.az dx [("who",.int me),("acts",.ref aa)]));generalize upd H2 p (.ins a.az dx [("who",.int me),("acts",.ref aa)])=H3 at F2 p3
  replace qa:=Dp F2 qa (fun z=>nomatch z)
  have F:=(F1.trans G1).trans F2;clear F1 G1 F2 p1 p2 n1;refine⟨tU,fun z1 m1=>?_⟩;have S1:=aq (o:=HO.lst [V.int 0]) m1;have y1:(upd H3 z1 (.lst [.int 0])) z1=some (.lst [.int 0]):=ae;have p4:=S1 _ _ p3;have E1:Fr (NK i) H3 τ2 (upd H3 z1 (.lst [.int 0])) τ2:=Fr.same S1 F.tg;generalize upd H3 z1 (.lst [.int 0])=H4 at E1 y1 p4;refine⟨z1,8,_,rfl,rfl,y1,by decide,by decide,Rp (by decide),fun ca n1=>?_⟩;have G1:Fr (NK i) H4 τ2 (upd H4 ca (.lst (NU (Sa76.begun me)))) (bh τ2 ca (.own i .counts)):=Fr.GF (aq n1) n1 ae E1.tg;have qc:(upd H4 ca (.lst (NU (Sa76.begun me)))) ca=some (.lst (NU (Sa76.begun me)))∧bh τ2 ca (.own i .counts) ca=.own i .counts:=⟨ae,cg⟩;have pt2:bh τ2 ca (.own i .counts) p=.own i .kp:=(aX (au p4 n1)).trans pt;have p5:=aq (o:=HO.lst (NU (Sa76.begun me))) n1 _ _ p4;have er:(List.replicate (8:Int).toNat [V.int 0]).flatten=NU (Sa76.begun me):=rfl;rw[er];generalize upd H4 ca (.lst (NU (Sa76.begun me)))=H5 at G1 qc p5;generalize bh τ2 ca (.own i .counts)=τ3 at G1 qc pt2;refine⟨_,rfl,p,_,dx,_,rfl,p5,T.aO,T.fq,(by show 2 < 1000;decide),?_⟩;have F2:Fr (NK i) H5 τ3 (upd H5 p (.ins a.az dx [("who",.int me),("acts",.ref aa),("counts",.ref ca)])) τ3:=Fr.upd p5 (by rw[pt2];exact fun z=>z rfl) G1.tg;have p6:(upd H5 p (.ins a.az dx [("who",.int me),("acts",.ref aa),("counts",.ref ca)])) p=some (.ins a.az dx [("who",.int me),("acts",.ref aa),("counts",.ref ca)]):=ae;show aab _ _ _ _ (upd H5 p (.ins a.az dx [("who",.int me),("acts",.ref aa),("counts",.ref ca)]));generalize upd H5 p (.ins a.az dx [("who",.int me),("acts",.ref aa),("counts",.ref ca)])=H6 at F2 p6
  replace qa:=Dp ((E1.trans G1).trans F2) qa (fun z=>nomatch z)
  replace qc:=Dp F2 qc (fun z=>nomatch z)
  replace F:=F.trans ((E1.trans G1).trans F2)
  clear E1 G1 F2 p3 p4 p5 S1 y1 m1 n1 pt;refine⟨tU,fun z2 m1=>?_⟩;have S1:=aq (o:=HO.lst [V.int 0]) m1;have y1:(upd H6 z2 (.lst [.int 0])) z2=some (.lst [.int 0]):=ae;have p4:=S1 _ _ p6;have E1:Fr (NK i) H6 τ3 (upd H6 z2 (.lst [.int 0])) τ3:=Fr.same S1 F.tg;generalize upd H6 z2 (.lst [.int 0])=H7 at E1 y1 p4;refine⟨z2,8,_,rfl,rfl,y1,by decide,by decide,Rp (by decide),fun la n1=>?_⟩;have G1:Fr (NK i) H7 τ3 (upd H7 la (.lst (Qt []))) (bh τ3 la (.own i .I0)):=Fr.GF (aq n1) n1 ae E1.tg;have ql:(upd H7 la (.lst (Qt []))) la=some (.lst (Qt []))∧bh τ3 la (.own i .I0) la=.own i .I0:=⟨ae,cg⟩;have pt:bh τ3 la (.own i .I0) p=.own i .kp:=(aX (au p4 n1)).trans pt2;have p5:=aq (o:=HO.lst (Qt [])) n1 _ _ p4;have er:(List.replicate (8:Int).toNat [V.int 0]).flatten=Qt []:=rfl;rw[er];generalize upd H7 la (.lst (Qt []))=H8 at G1 ql p5;generalize bh τ3 la (.own i .I0)=τ4 at G1 ql pt;refine⟨_,rfl,p,_,dx,_,rfl,p5,T.aO,T.jG,(by show 3 < 1000;decide),?_⟩;have F2:Fr (NK i) H8 τ4 (upd H8 p (.ins a.az dx [("who",.int me),("acts",.ref aa),("counts",.ref ca),("last_times",.ref la)])) τ4:=Fr.upd p5 (by rw[pt];exact fun z=>z rfl) G1.tg;have p6:(upd H8 p (.ins a.az dx [("who",.int me),("acts",.ref aa),("counts",.ref ca),("last_times",.ref la)])) p=some (.ins a.az dx [("who",.int me),("acts",.ref aa),("counts",.ref ca),("last_times",.ref la)]):=ae;show aab _ _ _ _ (upd H8 p (.ins a.az dx [("who",.int me),("acts",.ref aa),("counts",.ref ca),("last_times",.ref la)]));generalize upd H8 p (.ins a.az dx [("who",.int me),("acts",.ref aa),("counts",.ref ca),("last_times",.ref la)])=H9 at F2 p6
  replace qa:=Dp ((E1.trans G1).trans F2) qa (fun z=>nomatch z)
  replace qc:=Dp ((E1.trans G1).trans F2) qc (fun z=>nomatch z)
  replace ql:=Dp F2 ql (fun z=>nomatch z)
  replace F:=F.trans ((E1.trans G1).trans F2)
  clear E1 G1 F2 p4 p5 S1 y1 m1 n1 pt2;refine⟨_,rfl,p,_,dx,_,rfl,p6,T.aO,T.ko,(by show 4 < 1000;decide),?_⟩;have F2:Fr (NK i) H9 τ4 (upd H9 p (.ins a.az dx [("who",.int me),("acts",.ref aa),("counts",.ref ca),("last_times",.ref la),("time",.int 0)])) τ4:=Fr.upd p6 (by rw[pt];exact fun z=>z rfl) F.tg;have p7:(upd H9 p (.ins a.az dx [("who",.int me),("acts",.ref aa),("counts",.ref ca),("last_times",.ref la),("time",.int 0)])) p=some (.ins a.az dx [("who",.int me),("acts",.ref aa),("counts",.ref ca),("last_times",.ref la),("time",.int 0)]):=ae;show aab _ _ _ _ (upd H9 p (.ins a.az dx [("who",.int me),("acts",.ref aa),("counts",.ref ca),("last_times",.ref la),("time",.int 0)]));generalize upd H9 p (.ins a.az dx [("who",.int me),("acts",.ref aa),("counts",.ref ca),("last_times",.ref la),("time",.int 0)])=HA at F2 p7
  replace qa:=Dp F2 qa (fun z=>nomatch z)
  replace qc:=Dp F2 qc (fun z=>nomatch z)
  replace ql:=Dp F2 ql (fun z=>nomatch z)
  replace F:=F.trans F2
  clear F2 p6;refine fun ka n1=>?_;refine⟨ae,a.kh,kI ROOT,rfl,.inr T.Lw,?_⟩;rw[fJ];have G1:Fr (NK i) HA τ4 (upd HA ka (.dT [(kI ROOT,.bl true)])) (bh τ4 ka (.own i .known)):=Fr.GF (aq n1) n1 ae F.tg;have qk:(upd HA ka (.dT [(kI ROOT,.bl true)])) ka=some (.dT [(kI ROOT,.bl true)])∧bh τ4 ka (.own i .known) ka=.own i .known:=⟨ae,cg⟩;have pt2:bh τ4 ka (.own i .known) p=.own i .kp:=(aX (au p7 n1)).trans pt;have p5:=aq (o:=HO.dT [(kI ROOT,V.bl true)]) n1 _ _ p7;generalize upd HA ka (.dT [(kI ROOT,.bl true)])=HB at G1 qk p5;generalize bh τ4 ka (.own i .known)=τ5 at G1 qk pt2;refine⟨_,rfl,p,_,dx,_,rfl,p5,T.aO,T.pG,(by show 5 < 1000;decide),?_⟩;have F2:Fr (NK i) HB τ5 (upd HB p (.ins a.az dx [("who",.int me),("acts",.ref aa),("counts",.ref ca),("last_times",.ref la),("time",.int 0),("known",.ref ka)])) τ5:=Fr.upd p5 (by rw[pt2];exact fun z=>z rfl) G1.tg;have p6:(upd HB p (.ins a.az dx [("who",.int me),("acts",.ref aa),("counts",.ref ca),("last_times",.ref la),("time",.int 0),("known",.ref ka)])) p=some (.ins a.az dx [("who",.int me),("acts",.ref aa),("counts",.ref ca),("last_times",.ref la),("time",.int 0),("known",.ref ka)]):=ae;show aab _ _ _ _ (upd HB p (.ins a.az dx [("who",.int me),("acts",.ref aa),("counts",.ref ca),("last_times",.ref la),("time",.int 0),("known",.ref ka)]));generalize upd HB p (.ins a.az dx [("who",.int me),("acts",.ref aa),("counts",.ref ca),("last_times",.ref la),("time",.int 0),("known",.ref ka)])=HC at F2 p6
  replace qa:=Dp (G1.trans F2) qa (fun z=>nomatch z)
  replace qc:=Dp (G1.trans F2) qc (fun z=>nomatch z)
  replace ql:=Dp (G1.trans F2) ql (fun z=>nomatch z)
  replace qk:=Dp F2 qk (fun z=>nomatch z)
  replace F:=F.trans (G1.trans F2)
  clear G1 F2 p5 p7 n1 pt;refine fun wa n1=>?_;have G1:Fr (NK i) HC τ5 (upd HC wa (.dT [])) (bh τ5 wa (.own i .waiting)):=Fr.GF (aq n1) n1 ae F.tg;have qw:(upd HC wa (.dT [])) wa=some (.dT [])∧bh τ5 wa (.own i .waiting) wa=.own i .waiting:=⟨ae,cg⟩;have pt:bh τ5 wa (.own i .waiting) p=.own i .kp:=(aX (au p6 n1)).trans pt2;have p5:=aq (o:=HO.dT []) n1 _ _ p6;generalize upd HC wa (.dT [])=HD at G1 qw p5;generalize bh τ5 wa (.own i .waiting)=τ6 at G1 qw pt;refine⟨_,rfl,p,_,dx,_,rfl,p5,T.aO,T.eu,(by show 6 < 1000;decide),?_⟩;have F2:Fr (NK i) HD τ6 (upd HD p (.ins a.az dx [("who",.int me),("acts",.ref aa),("counts",.ref ca),("last_times",.ref la),("time",.int 0),("known",.ref ka),("waiting",.ref wa)])) τ6:=Fr.upd p5 (by rw[pt];exact fun z=>z rfl) G1.tg;have p7:(upd HD p (.ins a.az dx [("who",.int me),("acts",.ref aa),("counts",.ref ca),("last_times",.ref la),("time",.int 0),("known",.ref ka),("waiting",.ref wa)])) p=some (.ins a.az dx [("who",.int me),("acts",.ref aa),("counts",.ref ca),("last_times",.ref la),("time",.int 0),("known",.ref ka),("waiting",.ref wa)]):=ae;show(_:TS) _ _ (upd HD p (.ins a.az dx [("who",.int me),("acts",.ref aa),("counts",.ref ca),("last_times",.ref la),("time",.int 0),("known",.ref ka),("waiting",.ref wa)]));generalize upd HD p (.ins a.az dx [("who",.int me),("acts",.ref aa),("counts",.ref ca),("last_times",.ref la),("time",.int 0),("known",.ref ka),("waiting",.ref wa)])=HE at F2 p7
  replace qa:=Dp (G1.trans F2) qa (fun z=>nomatch z)
  replace qc:=Dp (G1.trans F2) qc (fun z=>nomatch z)
  replace ql:=Dp (G1.trans F2) ql (fun z=>nomatch z)
  replace qk:=Dp (G1.trans F2) qk (fun z=>nomatch z)
  replace qw:=Dp F2 qw (fun z=>nomatch z)
  replace F:=F.trans (G1.trans F2)
  clear G1 F2 p5 p6 n1 pt2;refine fun x xd nx nxd nex=>⟨x,xd,rfl,ae,fun HF da ma ea sa sc u1 u2 u3 u4 u5 d1 d2 d3 d4 d5 d6 d7 d8 d9 d10 f0 f1 f2 f3 f4 f5 fk=>⟨rfl,?_⟩⟩;have S3:aM HE HF:=aM.made nx nxd fk;have nw:∀ {b:Addr},(upd (upd HE xd (.own x)) x (.ins a.aI xd [])) b=none→HE b=none:=fun z=>(oq (o:=.ins a.aI xd []) (o':=.own x) nx nxd).free z;have nex:∀ {b:Addr},(upd (upd HE xd (.own x)) x (.ins a.aI xd [])) b=none→x≠b:=fun{b} z e=>by rw[← e,ae] at z;cases z
  have G3:Fr (NK i) HE τ6 HF (bh (bh (bh (bh (bh τ6 da (.own i .kinds)) ma (.own i .NB)) ea (.own i (.ent ROOT))) sa (.own i .KC)) sc (.own i .sums)):=by
   refine Fr.any S3 (fun b y hb=>?_) (fun b hb=>?_)
   ·rw[aX (au hb (nw u5)),aX (au hb (nw u4)),aX (au hb (nw u3)),aX (au hb (nw u2)),aX (au hb (nw u1))]
   ·rw[aX (fun z=>by rw[z,f5] at hb;cases hb),aX (fun z=>by rw[z,f4] at hb;cases hb),aX (fun z=>by rw[z,f3] at hb;cases hb),aX (fun z=>by rw[z,f2] at hb;cases hb),aX (fun z=>by rw[z,f1] at hb;cases hb)];exact F.tg b (S3.free hb)
  have t1:(bh (bh (bh (bh (bh τ6 da (.own i .kinds)) ma (.own i .NB)) ea (.own i (.ent ROOT))) sa (.own i .KC)) sc (.own i .sums)) da=.own i .kinds:=by rw[aX d7.symm,aX d4.symm,aX d2.symm,aX d1,cg]
  have t2:(bh (bh (bh (bh (bh τ6 da (.own i .kinds)) ma (.own i .NB)) ea (.own i (.ent ROOT))) sa (.own i .KC)) sc (.own i .sums)) ma=.own i .NB:=by rw[aX d8.symm,aX d5.symm,aX d3.symm,cg]
  have t3:(bh (bh (bh (bh (bh τ6 da (.own i .kinds)) ma (.own i .NB)) ea (.own i (.ent ROOT))) sa (.own i .KC)) sc (.own i .sums)) ea=.own i (.ent ROOT):=by rw[aX d9.symm,aX d6.symm,cg]
  have t4:(bh (bh (bh (bh (bh τ6 da (.own i .kinds)) ma (.own i .NB)) ea (.own i (.ent ROOT))) sa (.own i .KC)) sc (.own i .sums)) sa=.own i .KC:=by rw[aX d10.symm,cg]
  have t5:(bh (bh (bh (bh (bh τ6 da (.own i .kinds)) ma (.own i .NB)) ea (.own i (.ent ROOT))) sa (.own i .KC)) sc (.own i .sums)) sc=.own i .sums:=cg;have t6:(bh (bh (bh (bh (bh τ6 da (.own i .kinds)) ma (.own i .NB)) ea (.own i (.ent ROOT))) sa (.own i .KC)) sc (.own i .sums)) x=.hU:=by
   rw[aX (nex u5),aX (nex u4),aX (nex u3),aX (nex u2),aX (nex u1)];exact F.tg x nx
  generalize bh (bh (bh (bh (bh τ6 da (.own i .kinds)) ma (.own i .NB)) ea (.own i (.ent ROOT))) sa (.own i .KC)) sc (.own i .sums)=τ7 at *;have p8:=S3 _ _ p7;have pt8:=(G3.tag _ _ p7).trans pt
  replace qa:=Dp G3 qa (fun z=>nomatch z)
  replace qc:=Dp G3 qc (fun z=>nomatch z)
  replace ql:=Dp G3 ql (fun z=>nomatch z)
  replace qk:=Dp G3 qk (fun z=>nomatch z)
  replace qw:=Dp G3 qw (fun z=>nomatch z)
  replace F:=F.trans G3
  refine⟨_,rfl,p,_,dx,_,rfl,p8,T.aO,T.b9,(by show 7 < 1000;decide),?_⟩;have F2:Fr (NK i) HF τ7 (upd HF p (.ins a.az dx (kpF me (.ref aa) (.ref ca) (.ref la) 0 (.ref ka) (.ref wa) (.ref x)))) τ7:=Fr.upd p8 (by rw[pt8];exact fun z=>z rfl) F.tg;have i2:NK i .hU:=fun z=>nomatch z;refine k (upd HF p (.ins a.az dx (kpF me (.ref aa) (.ref ca) (.ref la) 0 (.ref ka) (.ref wa) (.ref x)))) τ7 ⟨dx,aa,ca,la,ka,wa,x,⟨ae,pt8⟩,(Dp F2 qa (fun z=>nomatch z)).2,(Dp F2 qc (fun z=>nomatch z)).2,(Dp F2 ql (fun z=>nomatch z)).2,(Dp F2 qk (fun z=>nomatch z)).2,(Dp F2 qw (fun z=>nomatch z)).2,⟨[],(Dp F2 qa (fun z=>nomatch z)).1,.nil⟩,(Dp F2 qc (fun z=>nomatch z)).1,(Dp F2 ql (fun z=>nomatch z)).1,⟨_,(Dp F2 qk (fun z=>nomatch z)).1,aiM _,fun j=>?_⟩,⟨[],(Dp F2 qw (fun z=>nomatch z)).1,rfl,fun _ z=>nomatch z⟩,xd,da,ma,sa,sc,F2.im i2 ⟨f0,t6⟩,t1,t2,t4,t5,⟨_,(Dp F2 ⟨f1,t1⟩ (fun z=>nomatch z)).1,aiM _,fun j=>?_⟩,⟨_,(Dp F2 ⟨f2,t2⟩ (fun z=>nomatch z)).1,aiM _,fun j hj=>?_⟩,⟨_,(Dp F2 ⟨f4,t4⟩ (fun z=>nomatch z)).1,aiM _,fun j hj=>absurd (NW hj).2 (fun z=>nomatch z)⟩,⟨_,(Dp F2 ⟨f5,t5⟩ (fun z=>nomatch z)).1,aiM _,fun j hj=>absurd (NW hj).2 (fun z=>nomatch z)⟩⟩ (F.trans F2)
  ·show _=(j == ROOT || false);rw[asX];by_cases e:j=ROOT
   ·subst e;rw[gE rfl];rfl
   ·rw[iq (fun z=>e (oR z).symm),beq_false_of_ne e];rfl
  ·by_cases e:j=ROOT
   ·subst e;rw[gE rfl,M.QB];rfl
   ·rw[iq (fun z=>e (oR z).symm)];have:Sa76.kindOf [] j=none:=by
     cases h:Sa76.kindOf [] j with
     |none=>rfl
     |some v=>exact absurd (NW h).1 e
    rw[show(Sa76.begun me).log=[] from rfl,this];rfl
  ·obtain⟨rfl,_⟩:=NW hj;exact⟨ea,gE rfl,t3,ZJ (Dp F2 ⟨f3,t3⟩ (fun z=>nomatch z)).1 (fun _ z=>nomatch z)⟩
end
end KB
namespace L2
open PySem PySem.Spec PyProof.Rows
theorem aqp{x:Str}{g:TG}{tt:TT}{te:TE}{vs:List Nat}{σ:St}{H1:Hp}{D:Addr}{Qd:Hp→Prop}(Pv:Nat→Hp→Prop)(h0:Pv 0 (upd H1 D (.lst [])))
  (hs:∀ i c H,x.cps[i]?=some c→Pv i H→g (.str ⟨#[c]⟩) (wipe σ vs) H fun σ2 H2=>wipe σ2 vs=wipe σ vs∧tt σ2 H2 fun b H3=>
   if b=true then te σ2 H3 fun y H4=>∃ acc,H4 D=some (.lst acc)∧acc.length < sizeLine∧Pv (i+1) (upd H4 D (.lst (acc++[y]))) else Pv (i+1) H3) (hd:∀ H,Pv x.cps.size H→Qd H) :
  ∃ W:Nat→Nat→Hp→Prop,(∃ m,W 0 m (upd H1 D (.lst [])))∧∀ i m H,W i m H→
   ((Its x).stop i H∧Qd H)∨((Its x).go i H∧∃ Nx:Hp→Prop,(∀ H',Nx H'→∃ m',m' < m∧W (i+1) m' H')∧∀ y H',(Its x).yld i H y H'→g y (wipe σ vs) H' fun σ2 H2=>wipe σ2 vs=wipe σ vs∧tt σ2 H2 fun b H3=>
    if b=true then te σ2 H3 fun y H4=>∃ acc,H4 D=some (.lst acc)∧acc.length < sizeLine∧Nx (upd H4 D (.lst (acc++[y]))) else Nx H3):=by
 refine⟨fun i m H=>m=x.cps.size - i∧i≤x.cps.size∧Pv i H,⟨x.cps.size,by simp,aqu _,h0⟩,?_⟩;rintro i m H ⟨rfl,hi,p⟩;by_cases hlt:i < x.cps.size
 ·refine .inr ⟨hlt,Pv (i+1),fun H' p'=>⟨x.cps.size - (i+1),by omega,rfl,hlt,p'⟩,fun y H' z=>?_⟩;obtain⟨e,c,h1,h2⟩:=z;subst e h2;exact hs i c _ h1 p
 ·have e:i=x.cps.size:=by omega
  subst e;exact .inl ⟨aiM _,hd H p⟩
theorem anh{K:Fg}{n:Nat}{l:Addr}{xs:List V}{g:TG}{tb:TS}{D:Ends}{σ:St}{H:Hp}(hv:σ[n]?=some (some (.ref l)))(Pv:Nat→St→Hp→Prop)(h0:Pv 0 σ H)
  (hl:(∀ i σ H,i≤xs.length→Pv i σ H→cJ K H l xs)∨(∀ i σ H,i≤xs.length→Pv i σ H→Io K H l xs))
  (hs:∀ i x σ H,xs[i]?=some x→Pv i σ H→g x σ H fun σ2 H2=>tb { D with nx:=Pv (i+1),ct:=Pv (i+1),bk:=D.nx } σ2 H2) (hd:∀ σ H,Pv xs.length σ H→D.nx σ H):aqS (arb K (Om n)) g tb D σ H:=by
 rcases hl with hl|hl
 ·exact .inl ⟨_,hv,l,rfl,⟨_,hl 0 σ H (aqu _) h0⟩,EK Pv h0 hl hs hd⟩
 ·exact .inr ⟨_,hv,l,rfl,⟨_,hl 0 σ H (aqu _) h0⟩,anJ Pv h0 hl hs hd⟩
end L2
namespace KB
open PySem PySem.Spec PyProof.Rows L2
open Sa76 (Id Op Val Bytes ROOT)
theorem afE(z:Int):(Str.ofString (toString z)).cps=(Sa76.decimal z).toArray:=by
 rw[Str.ofString_eq_toList];show(List.map Char.toNat (toString z).toList).toArray=_;congr 1;unfold Sa76.decimal;cases z with
 |ofNat n=>
  rw[acK (by show ¬ (Int.ofNat n < 0);exact Int.not_lt.mpr (atF n))];show List.map Char.toNat (String.ofList (Nat.toDigits 10 n)).toList=[]++_;rw[String.toList_ofList,atD];rfl
 |negSucc n=>
  rw[afO (Int.negSucc_lt_zero n)];show List.map Char.toNat ("-"++String.ofList (Nat.toDigits 10 (n+1))).toList=_;rw[String.toList_append,ak9];have e:(String.ofList (Nat.toDigits 10 (n+1))).toList=Nat.toDigits 10 (n+1):=String.toList_ofList;rw[e];rfl
theorem pZ{z:Int}(h:-(2 ^ 63)≤z∧z < 2 ^ 63):z.natAbs.log2 < 1920:=by
 by_cases e:z.natAbs=0
 ·rw[e];decide
 ·rw[Nat.log2_lt e];refine apb (show z.natAbs < 2 ^ 64 by omega) (Nat.pow_le_pow_right (by decide) (by decide))
section
variable{P:Program}{w:World}{K:Fg}{mg:Str→Option Value}{base:Heap}{a:dX}
def zx101(vs:List V)(H:Hp)(Q:VK):=fun(z:Int)=>(vs=[.int z]∧(-(2 ^ 63)≤z∧z < 2 ^ 63)∧(Sa76.decimal z).length≤1000000∧akU H Q (Sa76.decimal z))
def Sz:Sp:=fun vs H Q _=>Exists (zx101 vs H Q)
theorem Dq(T:Txt K mg a):bL P w K mg base jk 1 a.fX a.pF pB (Sz):=by
 refine T.rB.ok uG (fun vs H Q E h=>?_) (fun cdv A outer sh H vs Q E hr h=>?_)
 ·obtain⟨z,rfl,_⟩:=h;rfl
 ·obtain⟨z,rfl,hz,hl,k⟩:=h;refine⟨_,(ao (aJ (adn (own:=[("sign",1)]) rfl uG.nd (apK (Ou aac (by rfl) T.aoT (by decide +kernel) (af (pv 0) aj))) (Al (by kernel_rfl)) (fun _ _ _ _ _=>(l0 (i:=1) uG.nd rfl (.inl rfl))) (fun _ _ _ _ _=>K8) (fun _ _ _ _ _=>(cj alK (by rfl) T.aoS (by decide +kernel) (af (pv 1) aj)))))),?_⟩;refine⟨_,rfl,z,rfl,pZ hz,_,rfl,fun D hD=>?_⟩;have es:=afE z;generalize Str.ofString (toString z)=x at es;refine aqp (x:=x) (Pv:=fun j H'=>aM H H'∧H' D=some (.lst (iB ((Sa76.decimal z).take j)))) ⟨aq hD,ae⟩ ?_ ?_
  ·rintro j c H' hc ⟨S,f1⟩;have hj:(Sa76.decimal z)[j]?=some c:=by rw[es] at hc;simpa using hc
   refine⟨rfl,_,rfl,⟨#[c]⟩,rfl,rfl,_,f1,G6 ?_,?_,?_⟩
   ·rw[aB,aq8];omega
   ·exact fun b o hb=>by rw[ak (au hb hD)];exact S b o hb
   ·rw[ae,take_snoc hj,fy];rfl
  ·rintro H' ⟨S,f1⟩;refine k H' D S hD ?_;rw[f1,es,anq,atj]
def esc(b:Bytes):Bytes:=b.flatMap fun c=>if c=34∨c=92 then [92,c] else [c]
theorem ani{b:Bytes}{j c:Nat}(h:b[j]?=some c):esc (b.take (j+1))=esc (b.take j)++(if c=34∨c=92 then [92,c] else [c]):=by
 unfold esc;rw[take_snoc h,atk,List.flatMap_singleton]
theorem ai9(b:Bytes):(esc b).length≤2 * b.length:=by
 unfold esc;rw[List.length_flatMap];induction b with
 |nil=>exact aiM _
 |cons c r ih=>
  rw[ajR,asx,ajk];have:(if c=34∨c=92 then [92,c] else [c]).length≤2:=by split <;> simp
  omega
theorem ZQ(b:Bytes):Sa76.quoted b=[34]++esc b++[34]:=rfl
def zx102(K:Fg)(vs:List V)(H:Hp)(Q:VK):=fun(l:Addr) (b:Bytes)=>(vs=[.ref l]∧((H l=some (.lst (iB b)))∨TupAt K H l (iB b))∧b.length≤100000∧akU H Q (Sa76.quoted b))
def acy(K:Fg):Sp:=fun vs H Q _=>zx_2 (zx102 K vs H Q)
theorem NX(T:Txt K mg a):bL P w K mg base jk 1 a.jF a.vP vE (acy K):=by
 refine T.yX.ok BV (fun vs H Q E h=>?_) (fun cdv A outer sh H vs Q E hr h=>?_)
 ·obtain⟨l,b,rfl,_⟩:=h;rfl
 ·obtain⟨l,b,rfl,hl,hb,k⟩:=h;refine⟨_,(ah (aP (i:=1) BV.nd rfl (.inl rfl) (bz (af (gI T.SV) aj)))
   (ah (Jj arV rfl (apU (pv 0)) (l0 (i:=2) BV.nd rfl (.inl rfl)) (ah (bQ (PW.pt (yi (aY jr (pv 2) (gI T.SV) (bf _)) (uE (aY jr (pv 2) (gI T.Fi) (bf _))))) (ao (di (rS anK apf apl iK (pv 1) (af (gI T.Fi) aj)))) aZ)
   (ao (di (rS anK apf apl iK (pv 1) (af (pv 2) aj))))))
   (ah (di (rS anK apf apl iK (pv 1) (af (gI T.SV) aj)))
   (ao (aJ (pv 1)))))),?_⟩
  refine⟨tU,fun p0 n0=>?_⟩;have S0:=aq (o:=HO.lst [V.int 34]) n0;have e0:(upd H p0 (.lst [.int 34])) p0=some (.lst (iB ([34]++esc (b.take 0)))):=ae;generalize upd H p0 (.lst [.int 34])=H0 at S0 e0;have keep:∀ {H':Hp} {xs:List V},aM H H'→aM H (upd H' p0 (.lst xs)):=fun S b o e=>by rw[ak (au e n0)];exact S b o e
  have two:∀ (n:Nat),n≤b.length→([34]++esc (b.take n)).length≤400000:=fun n hn=>by
   have:=ai9 (b.take n);rw[ada,ar1];rw[aq8] at this;omega
  have hsq:(∀ H',aM H H'→cJ K H' l (iB b))∨(∀ H',aM H H'→Io K H' l (iB b)):=hl.imp (fun h H' S=>cJ.of (S _ _ h)) fun h H' S=>p9 (aM.tup S h);refine anh (K:=K) (l:=l) (xs:=iB b) rfl (fun j σ H'=>(∃ v,σ=[some (.ref l),some (.ref p0),v])∧aM H H'∧H' p0=some (.lst (iB ([34]++esc (b.take j))))) ⟨⟨none,rfl⟩,S0,e0⟩ (hsq.imp (fun h _ _ H' _ q=>h H' q.2.1) fun h _ _ H' _ q=>h H' q.2.1) ?_ ?_
  ·rintro j y σ H' hy ⟨⟨v,rfl⟩,S,f⟩;rw[ant] at hy;obtain⟨c,hc,rfl⟩:=aqy.mp hy;have hj:j < b.length:=(aox.mp hc).1;have h2:=two j (ate hj);have es:=ani hc;have nk:∀ {m:Nat},c≠m→¬ V.int (c:Int)=V.int (m:Int):=fun h z=>h (by injection z with z;omega);refine⟨_,rfl,rfl,_,rfl,?_⟩;by_cases h1:c=34
   ·refine rO (by rw[h1];rfl) (iO ?_);rw[afO (.inl h1)] at es;refine⟨_,rfl,.inl ⟨rfl,_,cJ.of f⟩,p0,_,_,rfl,rfl,f,G6 (by rw[aB];omega),_,rfl,.inl ⟨rfl,_,cJ.of ae⟩,_,rfl,p0,_,_,rfl,rfl,ae,G6 (by rw[ada,aB];show _+1≤_;omega),⟨_,rfl⟩,keep (keep S),?_⟩;rw[ae,es,← aoU,fy ([34]++esc _),aoU];rfl
   refine mQ (nk h1) ?_;refine⟨_,rfl,rfl,_,rfl,?_⟩;by_cases h2:c=92
   ·refine rO (by rw[h2];rfl) ?_;rw[afO (.inr h2)] at es;refine⟨_,rfl,.inl ⟨rfl,_,cJ.of f⟩,p0,_,_,rfl,rfl,f,G6 (by rw[aB];omega),_,rfl,.inl ⟨rfl,_,cJ.of ae⟩,_,rfl,p0,_,_,rfl,rfl,ae,G6 (by rw[ada,aB];show _+1≤_;omega),⟨_,rfl⟩,keep (keep S),?_⟩;rw[ae,es,← aoU,fy ([34]++esc _),aoU];rfl
   refine mQ (nk h2) ?_;rw[acK (by omega)] at es;refine⟨_,rfl,.inl ⟨rfl,_,cJ.of f⟩,_,rfl,p0,_,_,rfl,rfl,f,G6 (by rw[aB];omega),⟨_,rfl⟩,keep S,?_⟩;rw[ae,es,← aoU,fy ([34]++esc _)];rfl
  ·rintro σ H' ⟨⟨v,rfl⟩,S,f⟩;have h2:=two b.length (aiM _);rw[aB,atj] at f;rw[atj] at h2;refine⟨_,rfl,.inl ⟨rfl,_,cJ.of f⟩,p0,_,_,rfl,rfl,f,G6 (by rw[aB];omega),?_⟩;refine⟨_,rfl,?_⟩;refine k _ p0 (keep S) n0 ?_;rw[ae,ZQ,fy (_++_)];rfl
end
end KB
namespace KB
open PySem PySem.Spec PyProof.Rows L2
open Sa76 (Id Op Val Bytes ROOT)
def ie(K:Fg)(H:Hp)(τ:aL)(q:Addr):M.Piece→Prop
 |.b x=>o8 H τ q x
 |.o i=>eL K H τ q i
section
variable{P:Tag→Prop}{K:Fg}{H H':Hp}{τ τ':aL}{q:Addr}{x:M.Piece}
theorem ie.keep(h:ie K H τ q x)(f:Fr P H τ H' τ')(hP:P .hU):ie K H' τ' q x:=by
 cases x with
 |b x=>exact o8.keep h f hP
 |o i=>exact eL.keep h f hP
theorem ie.same(h:ie K H τ q x)(s:aM H H'):ie K H' τ q x:=by
 cases x with
 |b x=>exact aM.im s h
 |o i=>exact eL.same h s
theorem ie.weak(h:ie K H τ q x)(f:∀ b,τ b=.hU→τ' b=.hU):ie K H τ' q x:=by
 cases x with
 |b x=>exact⟨h.1,f _ h.2⟩
 |o i=>exact h.imp (fun z=>⟨z.1,f _ z.2⟩) fun z=>z
end
section
variable{P:Program}{w:World}{K:Fg}{mg:Str→Option Value}{base:Heap}{a:dX}
def zx103(K:Fg)(vs:List V)(H:Hp)(Q:VK):=fun(τ:aL) (tu:Addr) (o:Op) (v:Val)=>(vs=[.ref tu]∧Tg H τ∧sE K H τ tu o∧Sa76.madeBy o=some v∧v≠.nothing∧M.CJ v∧∀ H' q,aM H H'→ie K H' τ q (M.pieceOf o)→Q (.ref q) H')
def NY(K:Fg)(a:dX):Sp:=fun vs H Q _=>zx_4 (zx103 K vs H Q)
theorem zp(T:Txt K mg a):bL P w K mg base jk 2 a.dW a.mF mq (NY K a):=by
 refine T.oj.ok yu (fun vs H Q E h=>?_) (fun cdv A outer sh H vs Q E hr h=>?_)
 ·obtain⟨τ,tu,o,v,rfl,_⟩:=h;rfl
 ·obtain⟨τ,tu,o,v,rfl,g,he,hm,hn,hv,k⟩:=h;refine⟨_,(ah (aP (i:=1) yu.nd rfl (.inl rfl) (c9 wG (pv 0) aW (fun _ _=>rfl)))
   (ah (bQ (gD (aR (zm T) (hr.mono (by decide)) rfl T.sV T.oh.kp T.sU .nil aG (af (c9 bS (pv 1) aW (fun _ _=>rfl)) aj)) (fun _=>rfl)) (ao (aJ (c9 wG (pv 0) aW (fun _ _=>rfl)))) aZ)
   (ah (bQ (aY jr (c9 bS (pv 1) aW (fun _ _=>rfl)) (gI T.adS) (bf _)) (ao (aJ (aR (Dq T) (hr.mono (by decide)) rfl T.wZ T.rB.kp T.wY .nil aG (af (aR (CB T) (hr.mono (by decide)) rfl T.yO T.ug.kp T.yN .nil aG (af (aR (eF T) (hr.mono (by decide)) rfl T.dF T.cK.kp T.dD .nil aG (af (ik jX (pv 1) (fL aW) vp) aj)) aj)) aj)))) aZ)
   (ao (aJ (aR (NX T) (hr.mono (by decide)) rfl T.Fb T.yX.kp T.E9 .nil aG (af (ik jX (pv 1) (fL aW) vp) aj))))))),?_⟩
  obtain⟨ia,va,h1,h2,h3⟩:=id he;have eb:bytesOf o=v.bytes:=by unfold bytesOf;rw[hm];rfl
  have ep:M.pieceOf o=M.Oh o.id v:=by unfold M.pieceOf;rw[hm];rfl
  rw[eb] at h3;rw[ep] at k;have hh:=M.EC v;obtain⟨r,er⟩:=M.BG v;rw[er] at h3;have h0:(iB (M.ig v::r))[0]?=some (.int (M.ig v:Nat)):=rfl;refine⟨_,rfl,tu,_,_,_,rfl,rfl,Io.of h1.1,at_of (j:=1) rfl rfl,?_⟩;refine⟨_,rfl,va,_,_,_,rfl,rfl,cJ.of h3.1,at_of (j:=0) rfl h0,M.ig v,rfl,_,rfl,?_⟩;by_cases hob:3≤M.ig v∧M.ig v≤5
  ·refine rO hob ?_;refine⟨_,rfl,tu,_,_,_,rfl,rfl,Io.of h1.1,at_of (j:=0) rfl rfl,?_⟩;refine k H ia (aM.refl H) ?_;have e:M.Oh o.id v=.o o.id:=by
    cases v with
    |map=>rfl
    |list=>rfl
    |counter=>rfl
    |nothing=>exact absurd rfl hn
    |int z=>exact absurd hob.1 (by show ¬ 3≤1;decide)
    |text b=>exact absurd hob.1 (by show ¬ 3≤2;decide)
   rw[e];exact h2
  ·refine mQ hob ?_;refine⟨_,rfl,va,_,_,_,rfl,rfl,cJ.of h3.1,at_of (j:=0) rfl h0,rfl,_,rfl,?_⟩;cases v with
   |nothing=>exact absurd rfl hn
   |map=>exact absurd ⟨aiM 3,by decide⟩ hob
   |list=>exact absurd ⟨by decide,by decide⟩ hob
   |counter=>exact absurd ⟨by decide,aiM 5⟩ hob
   |int z=>
    refine rO rfl ?_;have er:r=Sa76.eight z:=by
     have er:1::Sa76.eight z=1::r:=er;injection er with _ er;exact er.symm
    subst er;refine⟨_,rfl,_,rfl,va,_,rfl,cJ.of h3.1,fun q1 n1=>?_⟩;have ec:qC (iB (M.ig (.int z)::Sa76.eight z)) (some 1) none=iB (Sa76.eight z):=afD _ _;rw[ec];have S1:=aq (o:=HO.lst (iB (Sa76.eight z))) n1;refine⟨q1,_,rfl,cJ.of ae,_,rfl,fun m hmz=>?_⟩;have em:m=z:=hmz.trans (M.Z1 hv);subst em;refine⟨m,rfl,hv,by have:=M.pZ hv;omega,fun H2 q2 S2 n2 e2=>?_⟩;exact k H2 q2 (S1.trans S2) ⟨e2,g q2 (S1.free n2)⟩
   |text b=>
    refine mQ (by intro z;injection z with z;cases z) ?_;have er:r=b.length::b:=by
     have er:2::b.length::b=2::r:=er;injection er with _ er;exact er.symm
    subst er;refine⟨_,rfl,_,rfl,va,_,rfl,cJ.of h3.1,fun q1 n1=>?_⟩;have ec:qC (iB (M.ig (.text b)::b.length::b)) (some 2) none=iB b:=NH (M.ig (.text b)::b.length::b) 2;rw[ec];have S1:=aq (o:=HO.lst (iB b)) n1;refine⟨q1,b,rfl,.inl ae,by have:=hv.1;omega,fun H2 q2 S2 n2 e2=>?_⟩;exact k H2 q2 (S1.trans S2) ⟨e2,g q2 (S1.free n2)⟩
end
end KB
namespace KB
open PySem PySem.Spec PyProof.Rows L2
open Sa76 (Id Op Val Bytes ROOT)
theorem NZ:∀ (c:Bytes) (xs:List (Bytes×M.Piece)),(M.Jf c xs).length=2 * xs.length
 |_,[]=>rfl
 |c,(h,p)::r=>by
  show(M.Jf [44] r).length+1+1=2 * (r.length+1);rw[NZ];omega
theorem Xg{α:Type}{xs:List α}{n:Nat}(h:n < xs.length):(if xs.take n=[] then([]:Bytes) else [44])=M.comma n:=by
 unfold M.comma;by_cases e:n=0
 ·subst e;rfl
 ·rw[acK e,acK (fun z=>by have:=arD List.length z;rw[aq8,atp] at this;omega)]
def okE(o:Op):Prop:=∃ v,Sa76.madeBy o=some v∧v≠.nothing∧M.CJ v
section
variable{P:Program}{w:World}{K:Fg}{mg:Str→Option Value}{base:Heap}{a:dX}
theorem sE.to{H H':Hp}{τ τ':aL}{tu:Addr}{o:Op}(h:sE K H τ tu o)(S:aM H H')(h1:∀ b o,H b=some o→τ' b=τ b)(g:Tg H' τ'):sE K H' τ' tu o:=ZI.keep h (Fr.any (P:=fun _=>True) S h1 g) trivial
abbrev ZR(K:Fg)(H:Hp)(τ:aL)(Q:VK)(ps:List M.Piece):Prop:=∀ H' q as,aM H H'→H q=none→H' q=some (.lst (as.map V.ref))→Paired (ie K H' τ) as ps→Q (.ref q) H'
def zx104(K:Fg)(vs:List V)(H:Hp)(Q:VK):=fun(τ:aL) (r:Addr) (tus:List Addr) (os:List Op)=>(vs=[.ref r]∧Tg H τ∧H r=some (.lst (tus.map V.ref))∧Paired (sE K H τ) tus os∧(∀ o∈os,okE o)∧os.length≤5000∧ZR K H τ Q (.b [91]::(M.Jf [] (os.map fun o=>([],M.pieceOf o))++[.b [93]])))
def N1(K:Fg)(a:dX):Sp:=fun vs H Q _=>zx_4 (zx104 K vs H Q)
theorem N3(T:Txt K mg a):bL P w K mg base jk 3 a.dU a.mE mo (N1 K a):=by
 refine T.sW.ok jw (fun vs H Q E h=>?_) (fun cdv A outer sh H vs Q E hr h=>?_)
 ·obtain⟨τ,r,tus,os,rfl,_⟩:=h;rfl
 ·obtain⟨τ,r,tus,os,rfl,g,hr0,hp,ho,hl,k⟩:=h;refine⟨_,(ah (aP (i:=1) jw.nd rfl (.inl rfl) (bz (af (bz (af (gI T.IM) aj)) aj)))
   (ah (aP (i:=2) jw.nd rfl (.inl rfl) (bz aj))
   (ah (Jj arV rfl (vo (pv 0)) (l0 (i:=3) jw.nd rfl (.inl rfl)) (ah (di (rS anK apf apl iK (pv 1) (af (pv 2) aj)))
   (ah (di (rS anK apf apl iK (pv 1) (af (aR (zp T) (hr.mono (by decide)) rfl T.sY T.oj.kp T.sX .nil aG (af (pv 3) aj)) aj)))
   (ao (aP (i:=2) jw.nd rfl (.inl rfl) (bz (af (gI T.aas) aj)))))))
   (ah (di (rS anK apf apl iK (pv 1) (af (bz (af (gI T.Q5) aj)) aj)))
   (ao (aJ (pv 1))))))),?_⟩
  refine⟨tU,fun q1 n1=>⟨tU,fun p0 n0=>?_⟩⟩;have S1:=aq (o:=HO.lst [V.int 91]) n1;have e1:(upd H q1 (.lst [.int 91])) q1=some (.lst (iB [91])):=ae;have t1:=g q1 n1;generalize upd H q1 (.lst [.int 91])=H1 at S1 e1 n0;have np:H p0=none:=S1.free n0;have S2:=aq (o:=HO.lst [V.ref q1]) n0;have e2:(upd H1 p0 (.lst [.ref q1])) p0=some (.lst ([q1].map V.ref)):=ae;have g2:Tg (upd H1 p0 (.lst [.ref q1])) (bh τ p0 (.top 7)):=WX n0 (aM.tg S1 g);have t0:bh τ p0 (.top 7) p0=.top 7:=cg;have w0:=aci (τ:=τ) (q:=p0) (t:=.top 7) (fun z=>nomatch z);have h1:∀ b o,H b=some o→bh τ p0 (.top 7) b=τ b:=fun b o e=>aX (au e np);have b1:o8 (upd H1 p0 (.lst [.ref q1])) (bh τ p0 (.top 7)) q1 [91]:=⟨S2 _ _ e1,by rw[aX (au e1 n0)];exact t1⟩;have S12:=S1.trans S2;generalize upd H1 p0 (.lst [.ref q1])=H2 at S2 e2 g2 b1 S12;generalize bh τ p0 (.top 7)=τ2 at g2 t0 w0 h1 b1;refine⟨le0,fun c0 nc=>?_⟩;have S3:=aq (o:=HO.lst []) nc;have e3:o8 (upd H2 c0 (.lst [])) τ2 c0 []:=⟨ae,g2 c0 nc⟩;generalize upd H2 c0 (.lst [])=H3 at S3 e3;have S13:=S12.trans S3;refine⟨_,rfl,r,rfl,⟨_,cJ.of (S13 _ _ hr0)⟩,?_⟩;refine EK (K:=K) (a:=r) (xs:=tus.map V.ref) (fun j σ H'=>∃ (c:Addr) (v:Option V) (as:List Addr),σ=[some (.ref r),some (.ref p0),some (.ref c),v]∧aM H H'∧Tg H' τ2∧o8 H' τ2 c (M.comma j)∧H' p0=some (.lst (as.map V.ref))∧Paired (ie K H' τ2) as (.b [91]::M.Jf [] ((os.map fun o=>(([]:Bytes),M.pieceOf o)).take j))) ⟨c0,none,[q1],rfl,S13,aM.tg S3 g2,e3,S3 _ _ e2,.cons (aM.im S3 b1) .nil⟩ (fun j σ H' _ ⟨_,_,_,_,S,_⟩=>cJ.of (S _ _ hr0)) ?_ ?_
  ·rintro j y σ H' hy ⟨c,v,as,rfl,S,gg,hc,f,ha⟩;obtain⟨tu,htu,rfl⟩:=GL hy;obtain⟨o,hoj,he⟩:=kG hp htu;obtain⟨v1,m1,m2,m3⟩:=ho o (aqt hoj);have hjl:j < os.length:=(aox.mp hoj).1;have hit:(os.map fun o=>(([]:Bytes),M.pieceOf o))[j]?=some ([],M.pieceOf o):=by rw[ant,hoj];rfl
   have hal:as.length≤10001:=by
    rw[Paired.length ha,ajk,NZ,aq8];omega
   refine⟨_,rfl,.inl ⟨rfl,_,cJ.of f⟩,_,rfl,p0,_,_,rfl,rfl,f,G6 (by rw[aah];omega),?_⟩;have F4:Fr (fun t=>t=.hU) H' τ2 (upd H' p0 (.lst (as.map V.ref++[V.ref c]))) τ2:=Fr.upd f (by rw[t0];exact fun z=>nomatch z) gg;have S4:aM H (upd H' p0 (.lst (as.map V.ref++[V.ref c]))):=fun b o e=>by rw[ak (au e np)];exact S b o e
   have f4:(upd H' p0 (.lst (as.map V.ref++[V.ref c]))) p0=some (.lst ((as++[c]).map V.ref)):=by rw[ae,ak9];rfl
   generalize upd H' p0 (.lst (as.map V.ref++[V.ref c]))=H4 at F4 S4 f4;refine⟨_,rfl,.inl ⟨rfl,_,cJ.of f4⟩,_,rfl,τ2,tu,o,v1,rfl,F4.tg,sE.to he S4 h1 F4.tg,m1,m2,m3,fun H5 q5 S5 h5=>?_⟩;refine⟨p0,_,_,rfl,rfl,S5 _ _ f4,G6 (by rw[aah,ada];show _+1≤_;omega),?_⟩;have F6:Fr (fun t=>t=.hU) H5 τ2 (upd H5 p0 (.lst ((as++[c]).map V.ref++[V.ref q5]))) τ2:=Fr.upd (S5 _ _ f4) (by rw[t0];exact fun z=>nomatch z) (aM.tg S5 F4.tg);have S6:aM H (upd H5 p0 (.lst ((as++[c]).map V.ref++[V.ref q5]))):=fun b o e=>by rw[ak (au e np)];exact(S4.trans S5) b o e
   have f6:(upd H5 p0 (.lst ((as++[c]).map V.ref++[V.ref q5]))) p0=some (.lst ((as++[c]++[q5]).map V.ref)):=by rw[ae,ak9 (l₁:=as++[c])];rfl
   generalize upd H5 p0 (.lst ((as++[c]).map V.ref++[V.ref q5]))=H6 at F6 S6 f6;refine⟨tU,fun c7 n7=>?_⟩;have S7:=aq (o:=HO.lst [V.int 44]) n7;have F46:Fr (fun t=>t=.hU) H' τ2 H6 τ2:=(F4.trans (Fr.same S5 F4.tg)).trans F6;refine⟨c7,_,as++[c]++[q5],rfl,S6.trans S7,aM.tg S7 F6.tg,⟨ae,F6.tg c7 n7⟩,S7 _ _ f6,?_⟩;rw[take_snoc hit,M.TM,Xg (by rw[aah];exact hjl),apc];have hz:Paired (ie K (upd H6 c7 (.lst [.int 44])) τ2) (as++[c]++[q5]) ((.b [91]::M.Jf [] ((os.map fun o=>(([]:Bytes),M.pieceOf o)).take j))++[.b (M.comma j)]++[M.pieceOf o]):=by
    refine eA (ie.same (ie.keep h5 F6 rfl) S7) (eA (ie.same (ie.keep (x:=.b (M.comma j)) hc F46 rfl) S7) (Paired.ye ha fun _ _ z=>ie.same (ie.keep z F46 rfl) S7))
   rw[aoU (M.Piece.b [91]::_)] at hz;exact hz
  ·rintro σ H' ⟨c,v,as,rfl,S,gg,hc,f,ha⟩;have et:(os.map fun o=>(([]:Bytes),M.pieceOf o)).take (tus.map V.ref).length=os.map fun o=>(([]:Bytes),M.pieceOf o):=asA (by rw[aah,aah,Paired.length hp];exact aiM _);rw[et] at ha;have hal:as.length≤10001:=by
    rw[Paired.length ha,ajk,NZ,aah];omega
   refine⟨_,rfl,.inl ⟨rfl,_,cJ.of f⟩,tU,fun q7 n7=>?_⟩;have S7:=aq (o:=HO.lst [V.int 93]) n7;have e7:o8 (upd H' q7 (.lst [.int 93])) τ2 q7 [93]:=⟨ae,gg q7 n7⟩;generalize upd H' q7 (.lst [.int 93])=H7 at S7 e7;refine⟨p0,_,_,rfl,rfl,S7 _ _ f,G6 (by rw[aah];omega),_,rfl,?_⟩;have F8:Fr (fun t=>t=.hU) H7 τ2 (upd H7 p0 (.lst (as.map V.ref++[V.ref q7]))) τ2:=Fr.upd (S7 _ _ f) (by rw[t0];exact fun z=>nomatch z) (aM.tg S7 gg);refine k _ p0 (as++[q7]) (fun b o e=>by rw[ak (au e np)];exact(S.trans S7) b o e) np (by rw[ae,ak9];rfl) ?_;have hz:Paired (ie K (upd H7 p0 (.lst (as.map V.ref++[V.ref q7]))) τ) (as++[q7]) ((.b [91]::M.Jf [] (os.map fun o=>(([]:Bytes),M.pieceOf o)))++[.b [93]]):=by
    refine eA (ie.weak (ie.keep (x:=.b [93]) e7 F8 rfl) w0) (Paired.ye ha fun _ _ z=>ie.weak (ie.keep (ie.same z S7) F8 rfl) w0)
   exact hz
end
end KB
namespace KB
open PySem PySem.Spec PyProof.Rows L2
open Sa76 (Id Op Val Bytes ROOT)
theorem BC(b:Bytes):(Sa76.quoted b).length≤2 * b.length+2:=by
 have:=ai9 b;rw[ZQ,ada,ada];show 1+_+1≤_;omega
section
variable{P:Program}{w:World}{K:Fg}{mg:Str→Option Value}{base:Heap}{a:dX}
def zx105(K:Fg)(vs:List V)(H:Hp)(Q:VK):=fun(τ:aL) (r:Addr) (ps:List Addr) (l:List Op) (i:Id) (ks:List Bytes)=>(vs=[.ref r]∧Tg H τ∧H r=some (.lst (ps.map V.ref))∧Paired (ana K H τ l i) ps ks∧(∀ kb∈ks,kb.length≤32∧okE (M.jK l i kb))∧ks.length≤5000∧ZR K H τ Q (.b [123]::(M.Jf [] (ks.map fun kb=>(Sa76.quoted kb++[58],M.pieceOf (M.jK l i kb)))++[.b [125]])))
def Qv(K:Fg)(a:dX):Sp:=fun vs H Q _=>zx_6 (zx105 K vs H Q)
theorem Qw(T:Txt K mg a):bL P w K mg base jk 3 a.eR a.nT nH (Qv K a):=by
 refine T.uI.ok iL (fun vs H Q E h=>?_) (fun cdv A outer sh H vs Q E hr h=>?_)
 ·obtain⟨τ,r,ps,l,i,ks,rfl,_⟩:=h;rfl
 ·obtain⟨τ,r,ps,l,i,ks,rfl,g,hr0,hp,ho,hl,k⟩:=h;refine⟨_,(ah (aP (i:=1) iL.nd rfl (.inl rfl) (bz (af (bz (af (gI T.Lz) aj)) aj)))
   (ah (aP (i:=2) iL.nd rfl (.inl rfl) (bz aj))
   (ah (Jj arV rfl (vo (pv 0)) (aph (n:=2) rfl (ac8 (l0 (i:=3) iL.nd rfl (.inl rfl)) (ac8 (l0 (i:=4) iL.nd rfl (.inl rfl)) anH))) (ah (di (rS anK apf apl iK (pv 1) (af (fZ lQ (fZ lQ (pv 2) (aR (NX T) (hr.mono (by decide)) rfl T.Fb T.yX.kp T.E9 .nil aG (af (pv 3) aj))) (bz (af (gI T.aiQ) aj))) aj)))
   (ah (di (rS anK apf apl iK (pv 1) (af (aR (zp T) (hr.mono (by decide)) rfl T.sY T.oj.kp T.sX .nil aG (af (pv 4) aj)) aj)))
   (ao (aP (i:=2) iL.nd rfl (.inl rfl) (bz (af (gI T.aas) aj)))))))
   (ah (di (rS anK apf apl iK (pv 1) (af (bz (af (gI T.UJ) aj)) aj)))
   (ao (aJ (pv 1))))))),?_⟩
  refine⟨tU,fun q1 n1=>⟨tU,fun p0 n0=>?_⟩⟩;have S1:=aq (o:=HO.lst [V.int 123]) n1;have e1:(upd H q1 (.lst [.int 123])) q1=some (.lst (iB [123])):=ae;have t1:=g q1 n1;generalize upd H q1 (.lst [.int 123])=H1 at S1 e1 n0;have np:H p0=none:=S1.free n0;have S2:=aq (o:=HO.lst [V.ref q1]) n0;have e2:(upd H1 p0 (.lst [.ref q1])) p0=some (.lst ([q1].map V.ref)):=ae;have g2:Tg (upd H1 p0 (.lst [.ref q1])) (bh τ p0 (.top 7)):=WX n0 (aM.tg S1 g);have t0:bh τ p0 (.top 7) p0=.top 7:=cg;have w0:=aci (τ:=τ) (q:=p0) (t:=.top 7) (fun z=>nomatch z);have h1:∀ b o,H b=some o→bh τ p0 (.top 7) b=τ b:=fun b o e=>aX (au e np);have b1:o8 (upd H1 p0 (.lst [.ref q1])) (bh τ p0 (.top 7)) q1 [123]:=⟨S2 _ _ e1,by rw[aX (au e1 n0)];exact t1⟩;have S12:=S1.trans S2;generalize upd H1 p0 (.lst [.ref q1])=H2 at S2 e2 g2 b1 S12;generalize bh τ p0 (.top 7)=τ2 at g2 t0 w0 h1 b1;refine⟨le0,fun c0 nc=>?_⟩;have S3:=aq (o:=HO.lst []) nc;have e3:o8 (upd H2 c0 (.lst [])) τ2 c0 []:=⟨ae,g2 c0 nc⟩;generalize upd H2 c0 (.lst [])=H3 at S3 e3;have S13:=S12.trans S3;refine⟨_,rfl,r,rfl,⟨_,cJ.of (S13 _ _ hr0)⟩,?_⟩;refine EK (K:=K) (a:=r) (xs:=ps.map V.ref) (fun j σ H'=>∃ (c:Addr) (v u:Option V) (as:List Addr),σ=[some (.ref r),some (.ref p0),some (.ref c),v,u]∧aM H H'∧Tg H' τ2∧o8 H' τ2 c (M.comma j)∧H' p0=some (.lst (as.map V.ref))∧Paired (ie K H' τ2) as (.b [123]::M.Jf [] ((ks.map fun kb=>(Sa76.quoted kb++[58],M.pieceOf (M.jK l i kb))).take j))) ⟨c0,none,none,[q1],rfl,S13,aM.tg S3 g2,e3,S3 _ _ e2,.cons (aM.im S3 b1) .nil⟩ (fun j σ H' _ ⟨_,_,_,_,_,S,_⟩=>cJ.of (S _ _ hr0)) ?_ ?_
  ·rintro j y σ H' hy ⟨c,v,u,as,rfl,S,gg,hc,f,ha⟩;obtain⟨pa,hpa,rfl⟩:=GL hy;obtain⟨kb,hkb,ka,tu,he0,he1,he⟩:=kG hp hpa;obtain⟨hk32,v1,m1,m2,m3⟩:=ho kb (aqt hkb);have hjl:j < ks.length:=(aox.mp hkb).1;have hit:(ks.map fun kb=>(Sa76.quoted kb++[58],M.pieceOf (M.jK l i kb)))[j]?=some (Sa76.quoted kb++[58],M.pieceOf (M.jK l i kb)):=by rw[ant,hkb];rfl
   have hal:as.length≤10001:=by
    rw[Paired.length ha,ajk,NZ,aq8];omega
   have hql:=BC kb;have hcl:(M.comma j).length≤1:=by unfold M.comma;split <;> decide
   refine⟨pa,_,rfl,Io.of (S _ _ he0),rfl,_,_,rfl,_,_,rfl,rfl,?_⟩;refine⟨_,rfl,.inl ⟨rfl,_,cJ.of f⟩,_,rfl,_,rfl,ka,kb,rfl,.inr (aM.tup S he1),by omega,fun Ha qa Sa na ea=>?_⟩;refine⟨c,qa,_,_,rfl,rfl,Sa _ _ hc.1,ea,Rp (by rw[aB,aB];omega),fun qb nb=>?_⟩;have Sb:=aq (o:=HO.lst (iB (M.comma j)++iB (Sa76.quoted kb))) nb;have eb:(upd Ha qb (.lst (iB (M.comma j)++iB (Sa76.quoted kb)))) qb=some (.lst (iB (M.comma j++Sa76.quoted kb))):=by rw[ae,fy]
   generalize upd Ha qb (.lst (iB (M.comma j)++iB (Sa76.quoted kb)))=Hb at Sb eb;refine⟨tU,fun qc nc=>?_⟩;have Sc:=aq (o:=HO.lst [V.int 58]) nc;have ec:(upd Hb qc (.lst [.int 58])) qc=some (.lst (iB [58])):=ae;generalize upd Hb qc (.lst [.int 58])=Hc at Sc ec;refine⟨qb,qc,_,_,rfl,rfl,Sc _ _ eb,ec,Rp (by rw[aB,aB,ada];show _+1≤_;omega),fun qd nd=>?_⟩;have Sd:=aq (o:=HO.lst (iB (M.comma j++Sa76.quoted kb)++iB [58])) nd;have Sx:=((Sa.trans Sb).trans Sc).trans Sd;have ed:o8 (upd Hc qd (.lst (iB (M.comma j++Sa76.quoted kb)++iB [58]))) τ2 qd (M.comma j++(Sa76.quoted kb++[58])):=⟨by rw[ae,← fy,aoU],gg qd (Sa.free (Sb.free (Sc.free nd)))⟩;generalize upd Hc qd (.lst (iB (M.comma j++Sa76.quoted kb)++iB [58]))=Hd at Sx ed;refine⟨p0,_,_,rfl,rfl,Sx _ _ f,G6 (by rw[aah];omega),?_⟩;have gd:=aM.tg Sx gg;have F4:Fr (fun t=>t=.hU) Hd τ2 (upd Hd p0 (.lst (as.map V.ref++[V.ref qd]))) τ2:=Fr.upd (Sx _ _ f) (by rw[t0];exact fun z=>nomatch z) gd;have S4:aM H (upd Hd p0 (.lst (as.map V.ref++[V.ref qd]))):=fun b o e=>by rw[ak (au e np)];exact(S.trans Sx) b o e
   have f4:(upd Hd p0 (.lst (as.map V.ref++[V.ref qd]))) p0=some (.lst ((as++[qd]).map V.ref)):=by rw[ae,ak9];rfl
   generalize upd Hd p0 (.lst (as.map V.ref++[V.ref qd]))=H4 at F4 S4 f4;refine⟨_,rfl,.inl ⟨rfl,_,cJ.of f4⟩,_,rfl,τ2,tu,M.jK l i kb,v1,rfl,F4.tg,sE.to he S4 h1 F4.tg,m1,m2,m3,fun H5 q5 S5 h5=>?_⟩;refine⟨p0,_,_,rfl,rfl,S5 _ _ f4,G6 (by rw[aah,ada];show _+1≤_;omega),?_⟩;have F6:Fr (fun t=>t=.hU) H5 τ2 (upd H5 p0 (.lst ((as++[qd]).map V.ref++[V.ref q5]))) τ2:=Fr.upd (S5 _ _ f4) (by rw[t0];exact fun z=>nomatch z) (aM.tg S5 F4.tg);have S6:aM H (upd H5 p0 (.lst ((as++[qd]).map V.ref++[V.ref q5]))):=fun b o e=>by rw[ak (au e np)];exact(S4.trans S5) b o e
   have f6:(upd H5 p0 (.lst ((as++[qd]).map V.ref++[V.ref q5]))) p0=some (.lst ((as++[qd]++[q5]).map V.ref)):=by rw[ae,ak9 (l₁:=as++[qd])];rfl
   generalize upd H5 p0 (.lst ((as++[qd]).map V.ref++[V.ref q5]))=H6 at F6 S6 f6;refine⟨tU,fun c7 n7=>?_⟩;have S7:=aq (o:=HO.lst [V.int 44]) n7;have F46:Fr (fun t=>t=.hU) Hd τ2 H6 τ2:=(F4.trans (Fr.same S5 F4.tg)).trans F6;refine⟨c7,_,_,as++[qd]++[q5],rfl,S6.trans S7,aM.tg S7 F6.tg,⟨ae,F6.tg c7 n7⟩,S7 _ _ f6,?_⟩;rw[take_snoc hit,M.TM,Xg (by rw[aah];exact hjl)];have hz:Paired (ie K (upd H6 c7 (.lst [.int 44])) τ2) (as++[qd]++[q5]) ((.b [123]::M.Jf [] ((ks.map fun kb=>(Sa76.quoted kb++[58],M.pieceOf (M.jK l i kb))).take j))++[.b (M.comma j++(Sa76.quoted kb++[58]))]++[M.pieceOf (M.jK l i kb)]):=by
    refine eA (ie.same (ie.keep h5 F6 rfl) S7) (eA (ie.same (ie.keep (x:=.b (M.comma j++(Sa76.quoted kb++[58]))) ed F46 rfl) S7) (Paired.ye ha fun _ _ z=>ie.same (ie.keep (ie.same z Sx) F46 rfl) S7))
   rw[aoU (M.Piece.b [123]::_)] at hz;exact hz
  ·rintro σ H' ⟨c,v,u,as,rfl,S,gg,hc,f,ha⟩;have et:(ks.map fun kb=>(Sa76.quoted kb++[58],M.pieceOf (M.jK l i kb))).take (ps.map V.ref).length=ks.map fun kb=>(Sa76.quoted kb++[58],M.pieceOf (M.jK l i kb)):=asA (by rw[aah,aah,Paired.length hp];exact aiM _);rw[et] at ha;have hal:as.length≤10001:=by
    rw[Paired.length ha,ajk,NZ,aah];omega
   refine⟨_,rfl,.inl ⟨rfl,_,cJ.of f⟩,tU,fun q7 n7=>?_⟩;have S7:=aq (o:=HO.lst [V.int 125]) n7;have e7:o8 (upd H' q7 (.lst [.int 125])) τ2 q7 [125]:=⟨ae,gg q7 n7⟩;generalize upd H' q7 (.lst [.int 125])=H7 at S7 e7;refine⟨p0,_,_,rfl,rfl,S7 _ _ f,G6 (by rw[aah];omega),_,rfl,?_⟩;have F8:Fr (fun t=>t=.hU) H7 τ2 (upd H7 p0 (.lst (as.map V.ref++[V.ref q7]))) τ2:=Fr.upd (S7 _ _ f) (by rw[t0];exact fun z=>nomatch z) (aM.tg S7 gg);refine k _ p0 (as++[q7]) (fun b o e=>by rw[ak (au e np)];exact(S.trans S7) b o e) np (by rw[ae,ak9];rfl) ?_;have hz:Paired (ie K (upd H7 p0 (.lst (as.map V.ref++[V.ref q7]))) τ) (as++[q7]) ((.b [123]::M.Jf [] (ks.map fun kb=>(Sa76.quoted kb++[58],M.pieceOf (M.jK l i kb))))++[.b [125]]):=by
    refine eA (ie.weak (ie.keep (x:=.b [125]) e7 F8 rfl) w0) (Paired.ye ha fun _ _ z=>ie.weak (ie.keep (ie.same z S7) F8 rfl) w0)
   exact hz
end
end KB
namespace KB
open PySem PySem.Spec PyProof.Rows L2
open Sa76 (Id Op Val Bytes ROOT)
theorem ZS(k:Bytes):∀ (l:List Bytes),(Sa76.putIn k l).length≤l.length+1
 |[]=>aiM _
 |x::r=>by
  have:=ZS k r;unfold Sa76.putIn;split
  ·omega
  ·split
   ·exact aiM _
   ·rw[ajk,ajk];omega
theorem anj(l:List Op)(j:Id):(Sa76.keys l j).length≤l.length:=by
 unfold Sa76.keys;refine ao0 (aq9 _ _) ?_;refine ao0 ?_ (aq9 (fun o=>o.obj == j) l);generalize l.filter (fun o=>o.obj == j)=m;have:∀ (m:List Op) (acc:List Bytes),(m.foldl (fun(a:List Bytes) (o:Op)=>match o.act with
   |.set k _=>Sa76.putIn k a
   |_=>a) acc).length≤acc.length+m.length:=by
  intro m;induction m with
  |nil=>exact fun acc=>aiM _
  |cons o r ih=>
   intro acc;rw[asI,ajk];cases o.act with
   |set k v=>exact ao0 (ih (Sa76.putIn k acc)) (by have:=ZS k acc;omega)
   |_=>exact ao0 (ih acc) (by omega)
 have:=this m [];rw[atp,Nat.zero_add] at this;exact this
theorem aoA{l:List Op}{j:Id}{kb:Bytes}(ho:∀ o∈l,M.oS o)(h:kb∈Sa76.keys l j):kb.length≤32∧okE (M.jK l j kb):=by
 obtain⟨o,e1,e2,e3⟩:=M.wA h;obtain⟨v,hv⟩:=M.sI e1;have e4:Sa76.madeBy o=some v:=by unfold Sa76.madeBy;rw[hv]
 have ha:=(ho o (M.entry_mem e1).1).act;rw[hv] at ha;rw[e2];exact⟨ha.2.1,v,e4,fun z=>e3 (by rw[e4,z]),ha.2.2.2⟩
theorem aoB{l:List Op}{j:Id}{e:Op}(ho:∀ o∈l,M.oS o)(he:e∈Sa76.seen l j):okE (Sa76.valueOf l j e):=by
 have hm:=M.kH (M.mR he);have ha:=(ho _ hm.1).act;obtain⟨b,v,q2⟩:=M.wz (ao9.mp he).1;rcases M.oT (l:=l) (obj:=j) e with q|⟨v,q⟩
 ·rw[q] at ha ⊢;rw[q2] at ha;exact⟨v,by unfold Sa76.madeBy;rw[q2],ha.2.2,ha.2.1⟩
 ·rw[q] at ha;exact⟨v,by unfold Sa76.madeBy;rw[q],ha.2.2,ha.2.1⟩
section
variable{P:Program}{w:World}{K:Fg}{mg:Str→Option Value}{base:Heap}{a:dX}
theorem ZR.same{H H':Hp}{τ:aL}{Q:VK}{ps:List M.Piece}(h:ZR K H τ Q ps)(S:aM H H'):ZR K H' τ Q ps:=fun H2 q as S2 n e p=>h H2 q as (S.trans S2) (S.free n) e p
def zx106(K:Fg)(a:dX)(vs:List V)(H:Hp)(Q:VK):=fun(τ:aL) (i:Nat) (d ta:Addr) (l:List Op) (j:Id) (v:Val)=>(vs=[.ref d,.ref ta]∧Tg H τ∧zo K a H τ i d l∧TupAt K H ta (iI j)∧Sa76.kindOf l j=some v∧M.Wf l∧(∀ o∈l,M.oS o)∧l.length≤5000∧ZR K H τ Q (M.piecesOf l j v))
def acz(K:Fg)(a:dX):Sp:=fun vs H Q _=>zx_7 (zx106 K a vs H Q)
theorem acA(T:Txt K mg a):bL P w K mg base jk 4 a.jE a.vO vD (acz K a):=by
 refine T.E8.ok Ll (fun vs H Q E h=>?_) (fun cdv A outer sh H vs Q E hr h=>?_)
 ·obtain⟨τ,i,d,ta,l,j,v,rfl,_⟩:=h;rfl
 ·obtain⟨τ,i,d,ta,l,j,v,rfl,g,hd,ht,hk,hw,ho,hl,k⟩:=h;refine⟨_,(ah (aP (i:=2) Ll.nd rfl (.inl rfl) (dP (pv 0) T.aS T.cu (cU T) (hr.mono (by decide)) T.cQ .nil aG (af (pv 1) aj)))
   (ah (bQ (aY jr (pv 2) (gI T.UI) (bf _)) (ao (aJ (aR (Qw T) (hr.mono (by decide)) rfl T.CZ T.uI.kp T.CY .nil aG (af (dP (pv 0) T.aS T.qf (Bu T) (hr.mono (by decide)) T.rh .nil aG (af (pv 1) aj)) aj)))) aZ)
   (ah (bQ (aY jr (pv 2) (gI T.OR) (bf _)) (ao (aJ (aR (N3 T) (hr.mono (by decide)) rfl T.Aw T.sW.kp T.Av .nil aG (af (dP (pv 0) T.aS T.oV (z7 T) (hr.mono (by decide)) T.qj .nil aG (af (pv 1) aj)) aj)))) aZ)
   (ao (aJ (bz (af (fZ lQ (bz (af (gI T.ame) aj)) (aR (Dq T) (hr.mono (by decide)) rfl T.wZ T.rB.kp T.wY .nil aG (af (dP (pv 0) T.aS T.wO (KJ T) (hr.mono (by decide)) T.yQ .nil aG (af (pv 1) aj)) aj))) aj))))))),?_⟩
  obtain⟨ddx,_,_,_,_,d0,_⟩:=id hd.ex;have hv:=M.pK hk;refine⟨_,rfl,d,ddx,_,rfl,d0.1,rfl,_,rfl,τ,i,d,ta,l,l,j,rfl,hd,ht,?_⟩;rw[hk];refine⟨_,rfl,rfl,_,rfl,?_⟩;cases v with
  |nothing=>cases hv
  |int z=>cases hv
  |text b=>cases hv
  |map=>
   refine rO rfl ?_;refine⟨_,rfl,d,ddx,_,rfl,d0.1,rfl,_,rfl,τ,i,d,ta,l,j,rfl,hd,ht,hk,ho,hl,fun H1 r ps S1 n1 e1 hp=>?_⟩;exact⟨τ,r,ps,l,j,_,rfl,aM.tg S1 g,e1,hp,fun kb hkb=>aoA ho hkb,ao0 (anj l j) hl,k.same S1⟩
  |list=>
   refine mQ (by intro z;injection z with z;cases z) ?_;refine⟨_,rfl,rfl,_,rfl,rO rfl ?_⟩;refine⟨_,rfl,d,ddx,_,rfl,d0.1,rfl,_,rfl,τ,i,d,ta,l,j,rfl,hd,ht,hk,hw,hl,fun H1 r tus S1 n1 e1 hp=>?_⟩;refine⟨τ,r,tus,_,rfl,aM.tg S1 g,e1,Paired.ye hp fun _ _ z=>z.same S1,fun o hov=>?_,?_,?_⟩
   ·obtain⟨e,he,rfl⟩:=aou.mp hov;exact aoB ho he
   ·rw[aah];exact ao0 (aq9 _ _) (ao0 (M.vn hw j) hl)
   ·rw[ao8];exact k.same S1
  |counter=>
   refine mQ (by intro z;injection z with z;cases z) ?_;refine⟨_,rfl,rfl,_,rfl,mQ (by intro z;injection z with z;cases z) ?_⟩;refine⟨tU,fun q1 n1=>?_⟩;have S1:=aq (o:=HO.lst [V.int 35]) n1;have e1:(upd H q1 (.lst [.int 35])) q1=some (.lst (iB [35])):=ae;generalize upd H q1 (.lst [.int 35])=H1 at S1 e1;have hd1:=hd.keep (Fr.same (P:=fun _=>True) S1 g) trivial fun _ _=>trivial;refine⟨_,rfl,d,ddx,_,rfl,S1 _ _ d0.1,rfl,_,rfl,τ,i,d,ta,l,j,rfl,hd1,aM.tup S1 ht,hk,fun m hm=>?_⟩;have hr:=M.BA ((l.map fun o=>if o.obj=j then(match o.act with|.add d=>d|_=>0) else 0).sum);have hr:-(2 ^ 63)≤m∧m < 2 ^ 63:=by rw[hm];exact hr
   have hdl:=M.pZ hr;refine⟨m,rfl,hr,by omega,fun H2 q2 S2 n2 e2=>?_⟩;refine⟨q1,q2,_,_,rfl,rfl,S2 _ _ e1,e2,Rp (by rw[aB,aB];show 1+_≤_;omega),fun q3 n3=>?_⟩;have S3:=aq (o:=HO.lst (iB [35]++iB (Sa76.decimal m))) n3;have e3:o8 (upd H2 q3 (.lst (iB [35]++iB (Sa76.decimal m)))) τ q3 (35::Sa76.decimal (Sa76.total l j)):=⟨by rw[ae,← hm];rfl,g q3 (S1.free (S2.free n3))⟩;generalize upd H2 q3 (.lst (iB [35]++iB (Sa76.decimal m)))=H3 at S3 e3;refine⟨tU,fun q4 n4=>?_⟩;have S4:=aq (o:=HO.lst [V.ref q3]) n4;exact k _ q4 [q3] (((S1.trans S2).trans S3).trans S4) (S1.free (S2.free (S3.free n4))) ae (.cons (ie.same (x:=.b (35::Sa76.decimal (Sa76.total l j))) e3 S4) .nil)
end
end KB
namespace KB
open PySem PySem.Spec PyProof.Rows L2
open Sa76 (Id Op Val Bytes ROOT)
theorem Xh{α β:Type}{F:α→β→Prop}:∀ {l:List α} {m:List β},Paired F l m→Paired F l.reverse m.reverse
 |_,_,.nil=>.nil
 |_,_,.cons h t=>by
  rw[atb,atb];exact eA h (Xh t)
def okO(l:List Op):M.Piece→Prop
 |.b _=>True
 |.o i=>∃ v,Sa76.kindOf l i=some v
theorem ZT{l:List Op}(hw:M.Wf l){o:Op}(ho:o∈l):okO l (M.pieceOf o):=by
 unfold M.pieceOf;cases e:Sa76.madeBy o with
 |none=>exact trivial
 |some v=>
  show okO l (M.Oh o.id v);cases v with
  |int z=>exact trivial
  |text b=>exact trivial
  |nothing=>exact trivial
  |map=>exact⟨_,(M.sJ hw ho).trans (M.sL e rfl)⟩
  |list=>exact⟨_,(M.sJ hw ho).trans (M.sL e rfl)⟩
  |counter=>exact⟨_,(M.sJ hw ho).trans (M.sL e rfl)⟩
theorem aja{l:List Op}:∀ (c:Bytes) (xs:List (Bytes×M.Piece)),(∀ x∈xs,okO l x.2)→∀ p∈M.Jf c xs,okO l p
 |_,[],_,p,hp=>by cases hp
 |c,(h,q)::r,hx,p,hp=>by
  rcases akS.mp hp with rfl|hp
  ·exact trivial
  ·rcases akS.mp hp with rfl|hp
   ·exact hx (h,p) ajM
   ·exact aja [44] r (fun x hx'=>hx x (aiy _ hx')) p hp
theorem Xi{l:List Op}(hw:M.Wf l)(j:Id)(v:Val):∀ p∈M.piecesOf l j v,okO l p:=by
 intro p hp;have one:∀ {q:M.Piece} {x:Bytes},q∈[M.Piece.b x]→okO l q:=fun h=>by rw[aoJ.mp h];exact trivial
 have mid:∀ {x y:Bytes} {xs:List (Bytes×M.Piece)},(∀ z∈xs,okO l z.2)→∀ q∈M.Piece.b x::(M.Jf [] xs++[M.Piece.b y]),okO l q:=fun h q hq=>by
  rcases akS.mp hq with rfl|hq
  ·exact trivial
  ·rcases aoF.mp hq with hq|hq
   ·exact aja _ _ h q hq
   ·exact one hq
 cases v with
 |map=>
  refine mid (fun z hz=>?_) p hp;obtain⟨k,hk,rfl⟩:=aou.mp hz;obtain⟨o,e1,e2,_⟩:=M.wA hk;show okO l (M.pieceOf (M.jK l j k));rw[e2];exact ZT hw (M.entry_mem e1).1
 |list=>
  refine mid (fun z hz=>?_) p hp;obtain⟨e,he,rfl⟩:=aou.mp hz;exact ZT hw (M.kH (M.mR he)).1
 |nothing=>exact one hp
 |int z=>exact one hp
 |text b=>exact one hp
 |counter=>exact one hp
theorem acB{l:List Op}(hw:M.Wf l)(ho:∀ o∈l,M.oS o):∀ (st:List M.Piece),(∀ p∈st,okO l p)→st.length≤M.TN l st
 |[],_=>aqu _
 |p::r,h=>by
  have ih:=acB hw ho r fun q hq=>h q (aiy _ hq);rw[M.lK,ajk];have:1≤M.wt l p:=by
   have hp:=h p ajM;cases p with
   |b x=>exact aiM _
   |o i=>
    obtain⟨v,hv⟩:=hp;rw[M.af8 hv];have:=M.Im hw ho i (M.pK hv);omega
  omega
section
variable{P:Program}{w:World}{K:Fg}{mg:Str→Option Value}{base:Heap}{a:dX}
def zx107(K:Fg)(a:dX)(vs:List V)(H:Hp)(Q:VK):=fun(τ:aL) (i:Nat) (d:Addr) (s:Sa76.St)=>(vs=[.ref d]∧Tg H τ∧zo K a H τ i d s.log∧M.Good s∧akU H Q (Sa76.document s.log))
def Qx(K:Fg)(a:dX):Sp:=fun vs H Q _=>zx_4 (zx107 K a vs H Q)
theorem Qy(T:Txt K mg a):bL P w K mg base jk 5 a.eO a.nS nF (Qx K a):=by
 refine T.uH.ok nG (fun vs H Q E h=>?_) (fun cdv A outer sh H vs Q E hr h=>?_)
 ·obtain⟨τ,i,d,s,rfl,_⟩:=h;rfl
 ·obtain⟨τ,i,d,s,rfl,g,hd,hg,k⟩:=h;have hdl:=M.KZ hg;have hw:=hg.wf;have ho:=hg.log;have hl:s.log.length≤5000:=by have:=hg.Rv;omega
  generalize s.log=l at hd k hdl hw ho hl;refine⟨_,(ah (aP (i:=1) nG.nd rfl (.inl rfl) (bz aj))
   (ah (aP (i:=2) nG.nd rfl (.inl rfl) (bz (af (lZ (v:=.ref a.kh) rfl T.UG rfl) aj)))
   (ah (EJ arV (gD (pv 2) (fun _=>rfl)) (ah (aP (i:=3) nG.nd rfl (.inl rfl) (alP anK PySem.F.slot_list_pop PySem.F.type_list_pop alQ (pv 2)))
   (ao (bQ (gD (cj agA (by rfl) T.LA OD (af (pv 3) (af (anG (v:=.ty "tuple") rfl T.aat adC rfl) aj))) (fun _=>rfl)) (ao (di (rS anK asT asU Aj (pv 2) (af (agF rfl rfl T.JA rfl T.agN (af (aR (acA T) (hr.mono (by decide)) rfl T.QY T.E8.kp T.QX .nil aG (af (pv 0) (af (pv 3) aj))) aj)) aj)))) (ao (di (rS anK asT asU Aj (pv 1) (af (pv 3) aj))))))))
   (ao (aJ (pv 1)))))),?_⟩
  refine⟨le0,fun p0 n0=>?_⟩;have S0:=aq (o:=HO.lst []) n0;have e0:(upd H p0 (.lst [])) p0=some (.lst (iB [])):=ae;have g0:Tg (upd H p0 (.lst [])) (bh τ p0 (.top 9)):=WX n0 g;generalize upd H p0 (.lst [])=H0 at S0 e0 g0;refine⟨tU,fun p1 n1=>?_⟩;have S1:=aq (o:=HO.lst [V.ref a.kh]) n1;have e1:(upd H0 p1 (.lst [.ref a.kh])) p1=some (.lst ([a.kh].map V.ref)):=ae;have n1':H p1=none:=S0.free n1;have ne:p0≠p1:=au e0 n1;have g1:Tg (upd H0 p1 (.lst [.ref a.kh])) (bh (bh τ p0 (.top 9)) p1 (.top 8)):=WX n1 g0;have t0:bh (bh τ p0 (.top 9)) p1 (.top 8) p0=.top 9:=by rw[aX ne,cg]
  have t1:bh (bh τ p0 (.top 9)) p1 (.top 8) p1=.top 8:=cg;have h1:∀ b o,H b=some o→bh (bh τ p0 (.top 9)) p1 (.top 8) b=τ b:=fun b o e=>by rw[aX (au e n1'),aX (au e n0)]
  have S01:=S0.trans S1;have e01:=S1 _ _ e0;generalize upd H0 p1 (.lst [.ref a.kh])=H1 at e1 g1 S01 e01;generalize bh (bh τ p0 (.top 9)) p1 (.top 8)=τ2 at g1 t0 t1 h1;have hroot:Sa76.kindOf l ROOT=some .map:=M.QB l;have efl:M.jW l (.o ROOT)=Sa76.document l:=by rw[M.YF hroot,M.QA]
  have einit:Sa76.document l=[]++M.todo l [.o ROOT]:=by
   rw[← efl,atD];unfold M.todo;show _=M.jW l (.o ROOT)++[];rw[apc]
  have winit:M.TN l [.o ROOT]≤4000000:=by
   show M.wt l (.o ROOT)+0≤_;rw[M.af8 hroot,← M.QA];omega
  refine⟨fun m σ H'=>∃ (b:Bytes) (st:List M.Piece) (ss:List Addr) (v:Option V),m=M.TN l st∧m≤4000000∧σ=[some (.ref d),some (.ref p0),some (.ref p1),v]∧aM H H'∧Tg H' τ2∧H' p0=some (.lst (iB b))∧H' p1=some (.lst (ss.map V.ref))∧Paired (ie K H' τ2) ss st∧(∀ p∈st,okO l p)∧Sa76.document l=b++M.todo l st,
   ⟨_,[],[.o ROOT],[a.kh],none,rfl,winit,rfl,S01,g1,e01,e1,.cons (.inr T.Lw) .nil,fun p hp=>by rw[aoJ.mp hp];exact⟨_,hroot⟩,einit⟩,?_⟩
  rintro m σ H2 ⟨b,st,ss,v,rfl,hm,rfl,S,gg,f0,f1,hss,cI,hdoc⟩;have hbl:b.length≤1000000:=by
   have:=arD List.length hdoc;rw[ada] at this;omega
  refine⟨_,rfl,_,.inl ⟨_,cJ.of f1,rfl⟩,?_⟩;rcases List.eq_nil_or_concat st with rfl|⟨st',pc,rfl⟩
  ·cases hss;refine zy ?_;refine⟨_,rfl,?_⟩;refine k H2 p0 S n0 ?_;rw[hdoc];show H2 p0=some (.lst (iB (b++[])));rw[apc];exact f0
  ·rw[List.concat_eq_append] at *;obtain⟨ss',c,rfl,hss',hc⟩:=GK hss;have htrue:(!(((ss'++[c]).map V.ref).isEmpty))=true:=by simp
   rw[htrue];refine iO ?_;have hok':∀ p∈st',okO l p:=fun p hp=>cI p (aoI _ hp);have hpc:=cI pc (aqP _ (aoJ.mpr rfl));have hwt:M.TN l (st'++[pc])=M.TN l st'+M.wt l pc:=by rw[M.wB,M.lK];rfl
   have hsl:=acB hw ho st' hok';have hssl:ss'.length=st'.length:=Paired.length hss';rw[M.ajv] at hdoc;refine⟨fun σ' H'=>∃ (b:Bytes) (st2:List M.Piece) (ss:List Addr) (v:Option V),M.TN l st2 < M.TN l (st'++[pc])∧σ'=[some (.ref d),some (.ref p0),some (.ref p1),v]∧aM H H'∧Tg H' τ2∧H' p0=some (.lst (iB b))∧H' p1=some (.lst (ss.map V.ref))∧Paired (ie K H' τ2) ss st2∧(∀ p∈st2,okO l p)∧Sa76.document l=b++M.todo l st2,?_,?_⟩
   ·rintro σ' H' ⟨b,st2,ss,v,q1,q2⟩;exact⟨_,q1,b,st2,ss,v,rfl,ao0 (ate q1) hm,q2⟩
   ·refine⟨_,rfl,.inl ⟨rfl,_,cJ.of f1⟩,p1,_,.ref c,rfl,rfl,f1,by rw[ak9];simp,?_⟩;have ed:((ss'++[c]).map V.ref).dropLast=ss'.map V.ref:=by rw[ak9];simp
    rw[ed];have F3:Fr (fun t=>t=.hU) H2 τ2 (upd H2 p1 (.lst (ss'.map V.ref))) τ2:=Fr.upd f1 (by rw[t1];exact fun z=>nomatch z) gg;have S3:aM H (upd H2 p1 (.lst (ss'.map V.ref))):=fun b o e=>by rw[ak (au e n1')];exact S b o e
    have f03:(upd H2 p1 (.lst (ss'.map V.ref))) p0=some (.lst (iB b)):=by rw[ak ne];exact f0
    have f13:(upd H2 p1 (.lst (ss'.map V.ref))) p1=some (.lst (ss'.map V.ref)):=ae;generalize upd H2 p1 (.lst (ss'.map V.ref))=H3 at F3 S3 f03 f13;have hss3:Paired (ie K H3 τ2) ss' st':=Paired.ye hss' fun _ _ z=>ie.keep z F3 rfl;have hc3:=ie.keep hc F3 rfl;cases pc with
    |b x=>
     have hc3:o8 H3 τ2 c x:=hc3;have hxl:b.length+x.length≤1000000:=by
      have:=arD List.length hdoc;rw[ada,ada] at this;have e:(M.jW l (.b x)).length=x.length:=rfl;omega
     refine⟨_,rfl,c,rfl,.inr ⟨_,hc3.1,_,rfl,zy ?_⟩⟩;refine⟨_,rfl,.inl ⟨rfl,_,cJ.of f03⟩,_,rfl,p0,c,_,_,rfl,rfl,f03,hc3.1,Rp (by rw[aB,aB];omega),b++x,st',ss',_,?_,rfl,?_⟩
     ·rw[hwt];show _ < _+1;omega
     ·have F4:Fr (fun t=>t=.hU) H3 τ2 (upd H3 p0 (.lst (iB b++iB x))) τ2:=Fr.upd f03 (by rw[t0];exact fun z=>nomatch z) F3.tg;refine⟨fun b o e=>by rw[ak (au e n0)];exact S3 b o e,F4.tg,by rw[ae,fy],by rw[ak ne.symm];exact f13,Paired.ye hss3 fun _ _ z=>ie.keep z F4 rfl,hok',?_⟩;rw[hdoc,aoU];rfl
    |o j=>
     have hc3:eL K H3 τ2 c j:=hc3;obtain⟨vk,hvk⟩:=hpc;have hob:=M.pK hvk;have hless:=M.Im hw ho j hob;rw[← M.af8 hvk] at hless;have hd3:zo K a H3 τ2 i d l:=hd.keep (Fr.any (P:=fun _=>True) S3 h1 F3.tg) trivial fun _ _=>trivial;refine⟨_,rfl,c,rfl,.inl ⟨_,hc3.tup,_,rfl,iO ?_⟩⟩;refine⟨_,rfl,.inl ⟨rfl,_,cJ.of f13⟩,_,rfl,_,rfl,τ2,i,d,c,l,j,vk,rfl,F3.tg,hd3,hc3.tup,hvk,hw,ho,hl,fun H4 q4 as S4 n4 e4 hp4=>?_⟩;refine⟨q4,_,rfl,e4,fun q5 n5=>?_⟩;have S5:=aq (o:=HO.lst (as.map V.ref).reverse) n5;have e5:(upd H4 q5 (.lst (as.map V.ref).reverse)) q5=some (.lst (as.reverse.map V.ref)):=by rw[ae,List.map_reverse]
     generalize upd H4 q5 (.lst (as.map V.ref).reverse)=H5 at S5 e5;have S45:=S4.trans S5;have hpl:=acB hw ho _ (Xi hw j vk);have hal:as.length=(M.piecesOf l j vk).length:=Paired.length hp4;refine⟨p1,q5,_,_,rfl,rfl,S45 _ _ f13,e5,Rp (by rw[aah,aah,atm];omega),b,st'++(M.piecesOf l j vk).reverse,ss'++as.reverse,_,?_,rfl,?_⟩
     ·rw[M.wB,M.QG,hwt];omega
     ·have F6:Fr (fun t=>t=.hU) H5 τ2 (upd H5 p1 (.lst (ss'.map V.ref++as.reverse.map V.ref))) τ2:=Fr.upd (S45 _ _ f13) (by rw[t1];exact fun z=>nomatch z) (aM.tg S45 F3.tg);refine⟨fun b o e=>by rw[ak (au e n1')];exact(S3.trans S45) b o e,F6.tg,by rw[ak ne];exact S45 _ _ f03,by rw[ae,ak9],?_,fun p hp=>?_,?_⟩
      ·refine KH (Paired.ye hss3 fun _ _ z=>ie.keep (ie.same z S45) F6 rfl) (Xh (Paired.ye hp4 fun _ _ z=>ie.keep (ie.same z S5) F6 rfl))
      ·rcases aoF.mp hp with hp|hp
       ·exact hok' p hp
       ·exact Xi hw j vk p (List.mem_reverse.mp hp)
      ·rw[M.ajw,M.Il hw j hob,← M.YF hvk];exact hdoc
def zx108(K:Fg)(a:dX)(vs:List V)(H:Hp)(Q:VK):=fun(τ:aL) (i:Nat) (p:Addr) (s:Sa76.St) (m:Int)=>(vs=[.ref p,.int m]∧Tg H τ∧Ab K a H τ i p s∧M.Good s∧anf H Q (Sa76.does (some s) (.tell m)).2)
def aij(K:Fg)(a:dX):Sp:=fun vs H Q _=>zx_5 (zx108 K a vs H Q)
theorem aik(T:Txt K mg a):bL P w K mg base jk 6 a.nR a.B5 BU (aij K a):=by
 refine T.OO.ok Up (fun vs H Q E h=>?_) (fun cdv A outer sh H vs Q E hr h=>?_)
 ·obtain⟨τ,i,p,s,m,rfl,_⟩:=h;rfl
 ·obtain⟨τ,i,p,s,m,rfl,g,hk,hg,k⟩:=h;refine⟨_,(ah (bQ (aY EL (pv 1) aW (bf _)) (ao (aJ (bz (af (gI T.tT) aj)))) aZ)
   (ah (aP (i:=2) Up.nd rfl (.inl rfl) (aR (Qy T) (hr.mono (by decide)) rfl T.CW T.uH.kp T.CV .nil aG (af (aA (pv 0) rfl) aj)))
   (ah (bQ (aY YK (cj bC (by rfl) T.nh (by decide +kernel) (af (pv 2) aj)) (pv 1) (bf _)) (ao (aJ (bz (af (gI T.UH) aj)))) aZ)
   (ao (aJ (fZ lQ (bz (af (cj bC (by rfl) T.nh (by decide +kernel) (af (pv 2) aj)) aj)) (pv 2))))))),?_⟩
  obtain⟨dx,aa,ca,la,ka,wa,d,q0,q1,q2,q3,q4,q5,_,q6,q7,_,_,hd⟩:=id hk.ex;have e:(Sa76.does (some s) (.tell m)).2=if m < 0 then Sa76.ok (-2) else if m < ((Sa76.document s.log).length:Int) then Sa76.ok (-1) else⟨((Sa76.document s.log).length:Int),Sa76.document s.log⟩:=by
   show(if m < 0 then(some s,Sa76.ok (-2)) else if m < ((Sa76.document s.log).length:Int) then(some s,Sa76.ok (-1)) else(some s,⟨((Sa76.document s.log).length:Int),Sa76.document s.log⟩):Sa76.Abs×Sa76.Ans).2=_;by_cases h1:m < 0
   ·rw[afO h1,afO h1]
   ·rw[acK h1,acK h1];by_cases h2:m < ((Sa76.document s.log).length:Int)
    ·rw[afO h2,afO h2]
    ·rw[acK h2,acK h2]
  rw[e] at k;refine⟨_,rfl,_,_,rfl,rfl,_,rfl,?_⟩;by_cases hm:m < 0
  ·rw[afO hm] at k;exact rO hm ⟨tU,fun q n=>k _ q (aq n) n ae⟩
  ·rw[acK hm] at k;refine mQ hm ?_;have hdl:=M.KZ hg;refine⟨_,rfl,p,_,dx,_,_,rfl,q0.1,T.aO,T.b9,rfl,τ,i,d,s,rfl,g,hd,hg,fun H1 r1 S1 n1 e1=>?_⟩;generalize Sa76.document s.log=D at k hdl e1;refine⟨_,rfl,r1,_,rfl,.inl (cJ.of e1),_,rfl,_,_,rfl,rfl,_,rfl,?_⟩;rw[aB];by_cases h2:m < (D.length:Int)
   ·rw[afO h2] at k;exact rO h2 ⟨tU,fun q n=>k _ q (S1.trans (aq n)) (S1.free n) ae⟩
   ·rw[acK h2] at k;refine mQ h2 ?_;refine⟨_,rfl,r1,_,rfl,.inl (cJ.of e1),tU,fun r3 n3=>?_⟩;have S3:=aq (o:=HO.lst [V.int ((iB D).length:Int)]) n3;refine⟨_,rfl,r3,r1,_,_,rfl,rfl,ae,S3 _ _ e1,Rp (by rw[aB];show 1+_≤_;omega),fun r4 n4=>?_⟩;refine k _ r4 ((S1.trans S3).trans (aq n4)) (S1.free (S3.free n4)) ?_;rw[ae,aB];rfl
end
end KB
namespace KB
open PySem PySem.Spec PyProof.Rows L2
open Sa76 (Id Op Val Bytes ROOT)
structure Ev where
 H0:Hp
 l:Addr
 r:Addr
 kl:Addr
 xs:List Int
abbrev iz(xs:List Int):List V:=xs.map V.int
def Slot(K:Fg)(a:dX)(H:Hp)(τ:aL)(v:V)(g:Nat):Sa76.Abs→Prop
 |none=>v=.dN
 |some s=>∃ p,v=.ref p∧Ab K a H τ g p s∧M.Good s∧Nd s
structure Wd(K:Fg)(a:dX)(e:Ev)(H:Hp)(τ:aL)(rest:List Int)(S:Sa76Neutral.S)(N:Nat)(vs:Nat→V)(gs:Nat→Nat):Prop where
 tg:Tg H τ
 old:∀ b o,e.H0 b=some o→H b=some o∧τ b=.hU
 num:∀ H',aM e.H0 H'→cJ K H' e.l (iz e.xs)
 rd:∃ (dx:Addr) (pos:Nat),(H e.r=some (.ins a.aV dx (ZH e.l pos))∧τ e.r=.top 1)∧e.xs.drop pos=rest
 len:S.length=3
 kl:H e.kl=some (.lst ((List.range 3).map vs))∧τ e.kl=.top 2
 inj:∀ j k,j < 3→k < 3→gs j=gs k→j=k
 Rv:∀ j,j < 3→gs j < N
 slot:∀ j,j < 3→Slot K a H τ (vs j) (gs j) (S.getD j none)
abbrev RP:Tag→Prop:=fun t=>t≠.top 1
section
variable{P:Tag→Prop}{K:Fg}{a:dX}{e:Ev}{H H':Hp}{τ τ':aL}{rest rest':List Int}{S:Sa76Neutral.S}{N:Nat}{vs:Nat→V}{gs:Nat→Nat}
theorem Slot.keep{v:V}{g:Nat}{s:Sa76.Abs}(h:Slot K a H τ v g s)(f:Fr P H τ H' τ')(hP:P .hU)(hO:∀ x,P (.own g x)):Slot K a H' τ' v g s:=by
 cases s with
 |none=>exact h
 |some s=>
  obtain⟨p,h1,h2,h3,h4⟩:=h;exact⟨p,h1,h2.keep f hP hO,h3,h4⟩
theorem Wd.ank(h:Wd K a e H τ rest S N vs gs):aM e.H0 H:=fun b o z=>(h.old b o z).1
theorem Wd.asu(h:Wd K a e H τ rest S N vs gs):e.H0 e.r=none:=by
 cases q:e.H0 e.r with
 |none=>rfl
 |some o=>
  obtain⟨_,_,⟨_,t⟩,_⟩:=h.rd;have:=(h.old _ _ q).2;rw[t] at this;cases this
theorem Wd.move(h:Wd K a e H τ rest S N vs gs)(f:Fr RP H τ H' τ')(hr:∃ (dx:Addr) (pos:Nat),H' e.r=some (.ins a.aV dx (ZH e.l pos))∧e.xs.drop pos=rest'):Wd K a e H' τ' rest' S N vs gs where
 tg:=f.tg
 old:=fun b o z=>f.im (fun z=>nomatch z) (h.old b o z)
 num:=h.num
 rd:=by
  obtain⟨_,_,⟨q,t⟩,_⟩:=h.rd;obtain⟨dx,pos,h1,h2⟩:=hr;exact⟨dx,pos,⟨h1,(f.tag _ _ q).trans t⟩,h2⟩
 len:=h.len
 kl:=⟨f.keep _ _ h.kl.1 (by rw[h.kl.2];exact fun z=>nomatch z),(f.tag _ _ h.kl.1).trans h.kl.2⟩
 inj:=h.inj
 Rv:=h.Rv
 slot:=fun j hj=>(h.slot j hj).keep f (fun z=>nomatch z) fun x z=>nomatch z
theorem Wd.NR(h:Wd K a e H τ rest S N vs gs)(s:aM H H'):Wd K a e H' τ rest S N vs gs:=by
 obtain⟨dx,pos,⟨q,_⟩,h2⟩:=h.rd;exact h.move (Fr.same s h.tg) ⟨dx,pos,s _ _ q,h2⟩
theorem N4{z:Int}{pos:Nat}{xs rest:List Int}(h:xs.drop pos=z::rest):xs[pos]?=some z∧xs.drop (pos+1)=rest:=by
 constructor
 ·have:=arD (fun l=>l[0]?) h;simp only[List.getElem?_drop,Nat.add_zero] at this;exact this
 ·have:=arD List.tail h;rw[List.tail_drop] at this;exact this
theorem ajb{xs:List Int}{n:Nat}{z:Int}(h:xs[n]?=some z):(iz xs)[n]?=some (.int z):=by rw[ant,h];rfl
theorem Wd.ary(h:Wd K a e H τ rest S N vs gs):∀ H',(∀ b o,H b=some o→b≠e.r→H' b=some o)→cJ K H' e.l (iz e.xs):=fun H' k=>h.num H' fun b o z=>k b o (h.ank b o z) (au z h.asu)
theorem Wd.read{z:Int}{Q:VK}{σ:L2.St}(h:Wd K a e H τ (z::rest) S N vs gs)(k:∀ H',Wd K a e H' τ rest S N vs gs→Fr RP H τ H' τ→Q (.int z) H') :
  ∃ p dx fs,V.ref e.r=.ref p∧H p=some (.ins a.aV dx fs)∧fs.lookup ("read_number" : Str)=none∧(Xw σ H fun us H2=>sD K a (V.ref e.r::(us++[])) H2 Q E0):=by
 obtain⟨dx,pos,⟨q,t⟩,hx⟩:=h.rd;obtain⟨h1,h2⟩:=N4 hx;have F:Fr RP H τ (upd H e.r (.ins a.aV dx (ZH e.l ((pos+1:Nat):Int)))) τ:=Fr.upd q (by rw[t];exact fun z=>z rfl) h.tg;exact⟨e.r,dx,_,rfl,q,rfl,e.r,dx,e.l,pos,iz e.xs,.int z,rfl,q,h.num H h.ank,ajb h1,k _ (h.move F ⟨dx,pos+1,ae,h2⟩) F⟩
theorem Wd.acC{t u:Int}{Q:VK}{σ:L2.St}(h:Wd K a e H τ (t::u::rest) S N vs gs)(ht:0≤t)(hu:0≤u)(k:∀ H' q,Wd K a e H' τ rest S N vs gs→Fr RP H τ H' τ→eL K H' τ q (t.toNat,u.toNat)→Q (.ref q) H') :
  ∃ p dx fs,V.ref e.r=.ref p∧H p=some (.ins a.aV dx fs)∧fs.lookup ("read_identity" : Str)=none∧(Xw σ H fun us H2=>qz K a (V.ref e.r::(us++[])) H2 Q E0):=by
 obtain⟨dx,pos,⟨q,tt⟩,hx⟩:=h.rd;obtain⟨h1,h2⟩:=N4 hx;obtain⟨h3,h4⟩:=N4 h2;have F:Fr RP H τ (upd H e.r (.ins a.aV dx (ZH e.l ((pos+2:Nat):Int)))) τ:=Fr.upd q (by rw[tt];exact fun z=>z rfl) h.tg;refine⟨e.r,dx,_,rfl,q,rfl,e.r,dx,e.l,pos,iz e.xs,.int t,.int u,rfl,q,h.ary,ajb h1,ajb h3,fun c nc=>?_⟩;have nc':(upd H e.r (.ins a.aV dx (ZH e.l ((pos+2:Nat):Int)))) c=none:=by rw[ak (fun z=>by rw[z,q] at nc;cases nc)];exact nc
 have S2:=aq (o:=HO.tup [V.int t,V.int u]) nc';refine k _ c ((h.move F ⟨dx,pos+2,ae,h4⟩).NR S2) (F.trans (Fr.same S2 F.tg)) (.inl ⟨?_,h.tg c nc⟩);rw[ae];show _=some (HO.tup [V.int (t.toNat:Int),V.int (u.toNat:Int)]);rw[as2 ht,as2 hu]
theorem Wd.N5{row:List Int}{Q:VK}{σ:L2.St}(h:Wd K a e H τ ((row.length:Int)::(row++rest)) S N vs gs)(k:∀ H' q,Wd K a e H' τ rest S N vs gs→Fr RP H τ H' τ→H q=none→(H' q=some (.lst (iz row))∧τ q=.hU)→Q (.ref q) H') :
  ∃ p dx fs,V.ref e.r=.ref p∧H p=some (.ins a.aV dx fs)∧fs.lookup ("read_row" : Str)=none∧(Xw σ H fun us H2=>xN K a (V.ref e.r::(us++[])) H2 Q E0):=by
 obtain⟨dx,pos,⟨q,tt⟩,hx⟩:=h.rd;obtain⟨h1,h2⟩:=N4 hx;have hlen:pos+1+row.length≤e.xs.length:=by
  have:=arD List.length h2;rw[asw,ada] at this;have:=(aox.mp h1).1;omega
 have h3:e.xs.drop (pos+1+row.length)=rest:=by
  rw[← List.drop_drop,h2,List.drop_left]
 have F:Fr RP H τ (upd H e.r (.ins a.aV dx (ZH e.l ((pos+1+row.length:Nat):Int)))) τ:=Fr.upd q (by rw[tt];exact fun z=>z rfl) h.tg;refine⟨e.r,dx,_,rfl,q,rfl,e.r,dx,e.l,pos,row.length,iz e.xs,rfl,q,h.ary,ajb h1,by rw[aah];exact hlen,fun c nc=>?_⟩;have er:((iz e.xs).drop (pos+1)).take row.length=iz row:=by
  rw[← List.map_drop,h2,ak9,List.take_left' (aah _)]
 rw[er];have nc':(upd H e.r (.ins a.aV dx (ZH e.l ((pos+1+row.length:Nat):Int)))) c=none:=by rw[ak (fun z=>by rw[z,q] at nc;cases nc)];exact nc
 have S2:=aq (o:=HO.lst (iz row)) nc';exact k _ c ((h.move F ⟨dx,_,ae,h3⟩).NR S2) (F.trans (Fr.same S2 F.tg)) nc ⟨ae,h.tg c nc⟩
theorem ak8{f:Nat→V}{n:Nat}(h:n < 3):((List.range 3).map f)[n]?=some (f n):=by rw[ant,List.getElem?_range h];rfl
theorem Wd.get{o:Int}(h:Wd K a e H τ rest S N vs gs)(h0:0≤o)(h2:o≤2)(hb:(S.getD o.toNat none).isSome=true):∃ s p,S.getD o.toNat none=some s∧vs o.toNat=.ref p∧Ab K a H τ (gs o.toNat) p s∧M.Good s∧Nd s:=by
 have hj:=h.slot o.toNat (by omega);obtain⟨s,hs⟩:=aqv.mp hb;rw[hs] at hj;obtain⟨p,q1,q2,q3,q4⟩:=hj;exact⟨s,p,hs,q1,q2,q3,q4⟩
theorem Wd.atK{o:Int}(h:Wd K a e H τ rest S N vs gs)(h0:0≤o)(h2:o≤2):cJ K H e.kl ((List.range 3).map vs)∧atI ((List.range 3).map vs) o=some (vs o.toNat):=by
 refine⟨cJ.of h.kl.1,?_⟩;have:=l5 (ak8 (f:=vs) (n:=o.toNat) (by omega));rw[as2 h0] at this;exact this
theorem Wd.put{j:Nat}{p:Addr}{s':Sa76.St}(h:Wd K a e H τ rest S N vs gs)(hj:j < 3)(hv:vs j=.ref p)(f:Fr (KP (gs j)) H τ H' τ')(hk:Ab K a H' τ' (gs j) p s')(hg:M.Good s'∧Nd s'):Wd K a e H' τ' rest (S.set j (some s')) N vs gs where
 tg:=f.tg
 old:=fun b o z=>f.im (Qu _) (h.old b o z)
 num:=h.num
 rd:=by
  obtain⟨dx,pos,⟨q,t⟩,hx⟩:=h.rd;exact⟨dx,pos,⟨f.keep _ _ q (by rw[t];exact fun _ z=>nomatch z),(f.tag _ _ q).trans t⟩,hx⟩
 len:=by rw[atB];exact h.len
 kl:=⟨f.keep _ _ h.kl.1 (by rw[h.kl.2];exact fun _ z=>nomatch z),(f.tag _ _ h.kl.1).trans h.kl.2⟩
 inj:=h.inj
 Rv:=h.Rv
 slot:=fun k hk3=>by
  rw[M.EB];by_cases z:j=k
  ·subst z;rw[afO ⟨rfl,by rw[h.len];exact hj⟩];exact⟨p,hv,hk,hg⟩
  ·rw[acK (fun y=>z y.1)];exact(h.slot k hk3).keep f (Qu _) fun x q y=>by injection y with y;exact z (h.inj j k hj hk3 y.symm)
end
abbrev CP:Tag→Prop:=fun t=>t=.hU∨t=.top 3
abbrev N7(K:Fg)(a:dX)(e:Ev)(H:Hp)(τ:aL)(Q:VK)(rest:List Int)(R:Sa76Neutral.S×List Int):Prop:=
 ∀ H' τ' q N' vs' gs',Wd K a e H' τ' rest R.1 N' vs' gs'→Fr CP H τ H' τ'→H q=none→H' q=some (.lst (iz R.2))→Q (.ref q) H'
theorem aqq{s:Sa76.St}{c:Sa76.Call}:(Sa76.does (some s) c).2.v < 0→(Sa76.does (some s) c).2.l=[]:=by
 have ha:∀ (obj:Id) (x:Sa76.Act),(Sa76.acted (some s) s obj x).2.v < 0→(Sa76.acted (some s) s obj x).2.l=[]:=fun obj x=>by
  rw[afy];split
  ·exact fun _=>rfl
  ·exact fun z=>absurd z (by show ¬ (0:Int) < 0;decide)
 cases c with
 |begin_ k=>
  show(if _ then _ else _:Sa76.Abs×Sa76.Ans).2.v < 0→(if _ then _ else _:Sa76.Abs×Sa76.Ans).2.l=[];split <;> exact fun _=>rfl
 |set obj key k v n=>
  rw[afB];split
  ·exact fun _=>rfl
  ·split
   ·exact fun _=>rfl
   ·exact ha _ _
 |insert obj z v n=>
  rw[Rr];split
  ·exact fun _=>rfl
  ·split
   ·exact fun _=>rfl
   ·split
    ·exact fun _=>rfl
    ·split
     ·exact fun _=>rfl
     ·exact ha _ _
 |put obj z v n=>
  rw[afA];split
  ·exact fun _=>rfl
  ·split
   ·exact fun _=>rfl
   ·split
    ·exact fun _=>rfl
    ·split
     ·exact fun _=>rfl
     ·exact ha _ _
 |remove obj z=>
  show(if _ then _ else if _ then _ else _:Sa76.Abs×Sa76.Ans).2.v < 0→(if _ then _ else if _ then _ else _:Sa76.Abs×Sa76.Ans).2.l=[];split
  ·exact fun _=>rfl
  ·split
   ·exact fun _=>rfl
   ·exact ha _ _
 |add obj d=>
  show(if _ then _ else _:Sa76.Abs×Sa76.Ans).2.v < 0→(if _ then _ else _:Sa76.Abs×Sa76.Ans).2.l=[];split
  ·exact fun _=>rfl
  ·exact ha _ _
 |since v m=>
  show(if m < 0 then(some s,Sa76.ok (-2)) else(some s,⟨((Sa76.fitting m.toNat (Sa76.since s v)).length:Int),Sa76.fitting m.toNat (Sa76.since s v)⟩):Sa76.Abs×Sa76.Ans).2.v < 0→(if m < 0 then(some s,Sa76.ok (-2)) else(some s,⟨((Sa76.fitting m.toNat (Sa76.since s v)).length:Int),Sa76.fitting m.toNat (Sa76.since s v)⟩):Sa76.Abs×Sa76.Ans).2.l=[];split
  ·exact fun _=>rfl
  ·exact fun z=>absurd z (Int.not_lt.mpr (atF _))
 |take b n=>
  show(if Sa76.within n 0 65536=false then(some s,Sa76.ok (-2)) else match M.Ag b with
   |none=>(some s,Sa76.ok (-3))
   |some l=>(some (l.foldl Sa76.come s),Sa76.ok (((l.foldl Sa76.come s).log.length - s.log.length:Nat):Int)):Sa76.Abs×Sa76.Ans).2.v < 0→(if Sa76.within n 0 65536=false then(some s,Sa76.ok (-2)) else match M.Ag b with
   |none=>(some s,Sa76.ok (-3))
   |some l=>(some (l.foldl Sa76.come s),Sa76.ok (((l.foldl Sa76.come s).log.length - s.log.length:Nat):Int)):Sa76.Abs×Sa76.Ans).2.l=[]
  split
  ·exact fun _=>rfl
  ·split <;> exact fun _=>rfl
 |had=>exact fun z=>absurd z (by show ¬ (0:Int) < 0;decide)
 |tell m=>
  show(if m < 0 then(some s,Sa76.ok (-2)) else if m < ((Sa76.document s.log).length:Int) then(some s,Sa76.ok (-1)) else(some s,⟨((Sa76.document s.log).length:Int),Sa76.document s.log⟩):Sa76.Abs×Sa76.Ans).2.v < 0→(if m < 0 then(some s,Sa76.ok (-2)) else if m < ((Sa76.document s.log).length:Int) then(some s,Sa76.ok (-1)) else(some s,⟨((Sa76.document s.log).length:Int),Sa76.document s.log⟩):Sa76.Abs×Sa76.Ans).2.l=[];split
  ·exact fun _=>rfl
  ·split
   ·exact fun _=>rfl
   ·exact fun z=>absurd z (Int.not_lt.mpr (atF _))
theorem aoC(l:List Nat):iz (Sa76Neutral.ints l)=iB l:=by
 show(l.map _).map _=l.map _;rw[ao8];rfl
theorem ajc{S:Sa76Neutral.S}{o:Int}{c:Sa76.Call}{s:Sa76.St}(hs:S.getD o.toNat none=some s):iz (Sa76Neutral.did S o c).2=.int (Sa76.does (some s) c).2.v::iB (Sa76.does (some s) c).2.l:=by
 unfold Sa76Neutral.did;rw[hs];show V.int _::iz (if (Sa76.does (some s) c).2.v < 0 then [] else Sa76Neutral.ints (Sa76.does (some s) c).2.l)=_;by_cases h:(Sa76.does (some s) c).2.v < 0
 ·rw[afO h,aqq h];rfl
 ·rw[acK h,aoC]
theorem anl{S:Sa76Neutral.S}{o:Int}{c:Sa76.Call}{s:Sa76.St}(hs:S.getD o.toNat none=some s):(Sa76Neutral.did S o c).1=S.set o.toNat (Sa76.does (some s) c).1:=by
 unfold Sa76Neutral.did;rw[hs]
theorem aoD{b:List Int}(h:M.okR b):iz b=iB (Sa76Neutral.nats b):=by
 show b.map _=(b.map _).map _;rw[ao8];apply aqh;intro z hz;show V.int z=V.int ((z.toNat:Nat):Int);rw[as2 (h z hz).1]
end KB
namespace KB
open PySem PySem.Spec PyProof.Rows L2
open Sa76 (Id Op Val Bytes ROOT)
theorem Xj{α:Type}{d:α}:∀ {l:List α} {j:Nat},l.set j (l.getD j d)=l
 |[],_=>rfl
 |x::l,0=>rfl
 |x::l,j+1=>by
  show x::l.set j (l.getD j d)=_;rw[Xj]
theorem ail{f:Nat→V}{v:V}:∀ {j:Nat},j < 3→((List.range 3).map f).set j v=(List.range 3).map fun k=>if k=j then v else f k
 |0,_=>rfl
 |1,_=>rfl
 |2,_=>rfl
theorem ix3{f:Nat→V}{o:Int}(h0:0≤o)(h2:o≤2):ixN ((List.range 3).map f).length o=some o.toNat:=by
 obtain⟨n,rfl⟩:=as1 h0;rw[aah,asH];exact aia (by omega)
theorem afF:∀ t,CP t→RP t:=fun t h=>by
 rcases h with rfl|rfl
 ·exact fun z=>nomatch z
 ·exact fun z=>nomatch z
theorem aoW{i:Nat}:∀ t,CP t→KP i t:=fun t h=>by
 rcases h with rfl|rfl
 ·exact fun _ z=>nomatch z
 ·exact fun _ z=>nomatch z
section
variable{K:Fg}{a:dX}{e:Ev}{H H0:Hp}{τ:aL}{rest:List Int}{S:Sa76Neutral.S}{N:Nat}{vs:Nat→V}{gs:Nat→Nat}
theorem Wd.ans{o:Int}{c:Sa76.Call}{s:Sa76.St}{p:Addr}{Q:VK}(W:Wd K a e H τ rest S N vs gs)(h0:0≤o)(h2:o≤2)(hs:S.getD o.toNat none=some s)(hv:vs o.toNat=.ref p)(hg:M.Good s)(hn:Nd s)(F0:Fr RP H0 τ H τ)(k:N7 K a e H0 τ Q rest (Sa76Neutral.did S o c)):KQ K a H τ (gs o.toNat) p s Q (Sa76.does (some s) c):=fun s' H' τ' q e1 e0 hk F n ee=>
 k H' τ' q N vs gs (by rw[anl hs,e1];exact W.put (by omega) hv F hk (e0 hg hn)) ((F0.mono afF).trans (F.mono aoW)) (F0.free n) (by rw[ajc hs];exact ee)
theorem Wd.aqr{o:Int}{c:Sa76.Call}{s:Sa76.St}{Q:VK}(W:Wd K a e H τ rest S N vs gs)(hs:S.getD o.toNat none=some s)(hc:(Sa76.does (some s) c).1=some s)(F0:Fr RP H0 τ H τ)(k:N7 K a e H0 τ Q rest (Sa76Neutral.did S o c)):anf H Q (Sa76.does (some s) c).2:=fun H' q S' n ee=>
 k H' τ q N vs gs (by rw[anl hs,hc,← hs,Xj];exact W.NR S') ((F0.mono afF).trans (Fr.same S' F0.tg)) (F0.free n) (by rw[ajc hs];exact ee)
end
section
variable{P:Program}{w:World}{K:Fg}{mg:Str→Option Value}{base:Heap}{a:dX}
def zx109(K:Fg)(a:dX)(args:List V)(H:Hp)(Q:VK):=fun(e:Ev) (τ:aL) (rest:List Int) (S:Sa76Neutral.S) (N:Nat) (vs:Nat→V) (gs:Nat→Nat) (o m:Int)=>(args=[.ref e.kl,.ref e.r]∧Wd K a e H τ (o::m::rest) S N vs gs∧0≤o∧o≤2∧N7 K a e H τ Q rest (Sa76Neutral.did S o (.begin_ m)))
def Yr(K:Fg)(a:dX):Sp:=fun args H Q _=>zx_9 (zx109 K a args H Q)
theorem Ys(T:Txt K mg a):bL P w K mg base jk 5 a.eS a.tR tN (Yr K a):=by
 refine T.B8.ok zA (fun vs H Q E h=>?_) (fun cdv A outer sh H vs Q E hr h=>?_)
 ·obtain⟨e,τ,rest,S,N,vs,gs,o,m,rfl,_⟩:=h;rfl
 ·obtain⟨e,τ,rest,S,N,vs,gs,o,m,rfl,W,h0,h2,k⟩:=h;refine⟨_,(ah (aP (i:=2) zA.nd rfl (.inl rfl) (aT (pv 1) T.aQ T.aC (aF T) (hr.mono (by decide)) T.aH .nil aG))
   (ah (aP (i:=3) zA.nd rfl (.inl rfl) (aT (pv 1) T.aQ T.aC (aF T) (hr.mono (by decide)) T.aH .nil aG))
   (ah (bQ (lP (t7 rR EL aW (pv 3) (gI T.Ax))) (ao (aJ (bz (af (gI T.tT) aj)))) aZ)
   (ah (alC (SH T.YZ (Xf T) (hr.mono (by decide)) rfl T.adH T.IC .nil aG (af (pv 3) aj)) (alB (pv 0) (pv 2) set_list))
   (ao (aJ (bz (af aW aj)))))))),?_⟩
  refine⟨_,rfl,W.read fun H1 W1 F1=>?_⟩;refine⟨_,rfl,W1.read fun H2 W2 F2=>?_⟩;have F12:=F1.trans F2;have ed:Sa76Neutral.did S o (.begin_ m)=if 0≤m∧m≤7 then(S.set o.toNat (some (Sa76.begun m.toNat)),[0]) else(S,[-2]):=by
   unfold Sa76Neutral.did;have hd:Sa76.does (S.getD o.toNat none) (.begin_ m)=if Sa76.within m 0 7=false then(S.getD o.toNat none,Sa76.ok (-2)) else(some (Sa76.begun m.toNat),Sa76.ok 0):=by
    unfold Sa76.does;rfl
   rw[hd];by_cases hm:0≤m∧m≤7
   ·rw[afO hm,acK (by rw[nv];exact fun z=>z hm)];rfl
   ·rw[acK hm,afO (by rw[nv];exact hm)];show(S.set o.toNat (S.getD o.toNat none),_)=_;rw[Xj];rfl
  rw[ed] at k;have no:¬ (0≤m∧m≤7)→∀ q,H2 q=none→Q (.ref q) (upd H2 q (.lst [.int (-2)])):=fun hm q n=>by
   rw[acK hm] at k;exact k _ τ q N vs gs (W2.NR (aq n)) ((F12.mono afF).trans (Fr.same (aq n) F12.tg)) (F12.free n) ae
  refine⟨_,rfl,_,_,rfl,rfl,_,rfl,?_⟩;by_cases h1:0≤m
  ·refine rO h1 ?_;refine⟨_,_,rfl,rfl,_,rfl,?_⟩;by_cases h3:m < 8
   ·refine CA h3 ?_;rw[afO ⟨h1,by omega⟩] at k;obtain⟨me,rfl⟩:=as1 h1;refine⟨_,rfl,fun x dx nx nd ne=>?_⟩;have S3:=oq (o:=HO.ins a.az dx []) (o':=HO.own x) nx nd;have G3:Fr (NK N) H2 τ (upd (upd H2 dx (.own x)) x (.ins a.az dx [])) (bh τ x (.own N .kp)):=by
     refine Fr.any S3 (fun b y hb=>aX (au hb nx)) (fun b hb=>?_);rw[aX (fun z=>by rw[z,ae] at hb;cases hb)];exact F12.tg b (S3.free hb)
    refine⟨bh τ x (.own N .kp),N,x,dx,me,rfl,G3.tg,ae,cg,fun H4 τ4 hk4 F4=>⟨rfl,?_⟩⟩;have F24:=G3.trans F4;have kl4:H4 e.kl=some (.lst ((List.range 3).map vs))∧τ4 e.kl=.top 2:=⟨F24.keep _ _ W2.kl.1 (by rw[W2.kl.2];exact fun z=>nomatch z),(F24.tag _ _ W2.kl.1).trans W2.kl.2⟩;refine⟨_,rfl,_,rfl,e.kl,_,_,_,rfl,rfl,kl4.1,ix3 h0 h2,?_⟩;rw[ail (by omega)];have F5:Fr (fun t=>t≠.top 2) H4 τ4 (upd H4 e.kl (.lst ((List.range 3).map fun j=>if j=o.toNat then V.ref x else vs j))) τ4:=Fr.upd kl4.1 (by rw[kl4.2];exact fun z=>z rfl) F4.tg;have e5:(upd H4 e.kl (.lst ((List.range 3).map fun j=>if j=o.toNat then V.ref x else vs j))) e.kl=some (.lst ((List.range 3).map fun j=>if j=o.toNat then V.ref x else vs j)):=ae;generalize upd H4 e.kl (.lst ((List.range 3).map fun j=>if j=o.toNat then V.ref x else vs j))=H5 at F5 e5;have F25:Fr (fun t=>t≠.own N .kp∧t≠.top 2) H2 τ H5 τ4:=(F24.mono fun _ z=>z.1).trans (F5.mono fun _ z=>z.2);have W5:Wd K a e H5 τ4 rest (S.set o.toNat (some (Sa76.begun me))) (N+1) (fun j=>if j=o.toNat then V.ref x else vs j) (fun j=>if j=o.toNat then N else gs j):=by
     refine⟨F5.tg,fun b y z=>F25.im ⟨(fun z=>nomatch z),(fun z=>nomatch z)⟩ (W2.old b y z),W2.num,?_,by rw[atB];exact W2.len,⟨e5,kl4.2⟩,fun j k' hj hk' z=>?_,fun j hj=>?_,fun j hj=>?_⟩
     ·obtain⟨rx,pos,⟨q,t⟩,hx⟩:=W2.rd;exact⟨rx,pos,⟨F25.keep _ _ q (by rw[t];exact⟨(fun z=>nomatch z),(fun z=>nomatch z)⟩),(F25.tag _ _ q).trans t⟩,hx⟩
     ·have fj:=W2.Rv j hj;have fk:=W2.Rv k' hk';have z:(if j=o.toNat then N else gs j)=(if k'=o.toNat then N else gs k'):=z;by_cases ej:j=o.toNat
      ·by_cases ek:k'=o.toNat
       ·rw[ej,ek]
       ·rw[afO ej,acK ek] at z;omega
      ·by_cases ek:k'=o.toNat
       ·rw[acK ej,afO ek] at z;omega
       ·rw[acK ej,acK ek] at z;exact W2.inj j k' hj hk' z
     ·have fj:=W2.Rv j hj;show(if j=o.toNat then N else gs j) < N+1;split <;> omega
     ·rw[M.EB];show Slot K a H5 τ4 (if j=o.toNat then V.ref x else vs j) (if j=o.toNat then N else gs j) _;by_cases ej:j=o.toNat
      ·rw[afO ej,afO ej,afO ⟨ej.symm,by rw[W2.len];omega⟩];refine⟨x,rfl,hk4.keep F5 (fun z=>nomatch z) (fun _ z=>nomatch z),M.afQ (by omega),anb _⟩
      ·rw[acK ej,acK ej,acK (fun z=>ej z.1.symm)];have fj:=W2.Rv j hj;exact(W2.slot j hj).keep F25 ⟨(fun z=>nomatch z),(fun z=>nomatch z)⟩ fun y=>⟨fun z=>by injection z with z;omega,fun z=>nomatch z⟩
    refine⟨tU,fun q n=>?_⟩;exact k _ τ4 q (N+1) _ _ (W5.NR (aq n)) (((F12.mono afF).trans (F25.mono fun t z=>by rcases z with rfl|rfl <;> exact⟨(fun z=>nomatch z),(fun z=>nomatch z)⟩)).trans (Fr.same (aq n) F5.tg)) (F12.free (F25.free n)) ae
   ·exact Cz h3 ⟨tU,fun q n=>no (by omega) q n⟩
  ·exact mQ h1 ⟨_,rfl,iO ⟨tU,fun q n=>no (by omega) q n⟩⟩
end
end KB
namespace KB
open PySem PySem.Spec PyProof.Rows L2
open Sa76 (Id Op Val Bytes ROOT)
theorem Aa:RP .hU:=fun z=>nomatch z
section
variable{P:Program}{w:World}{K:Fg}{mg:Str→Option Value}{base:Heap}{a:dX}
theorem Xk{H:Hp}{τ:aL}{q:Addr}{b:List Int}(h:H q=some (.lst (iz b))∧τ q=.hU)(hb:M.okR b):o8 H τ q (Sa76Neutral.nats b):=⟨by rw[← aoD hb];exact h.1,h.2⟩
def zx110(K:Fg)(a:dX)(args:List V)(H:Hp)(Q:VK):=fun(e:Ev) (τ:aL) (rest:List Int) (S:Sa76Neutral.S) (N:Nat) (vs:Nat→V) (gs:Nat→Nat) (o t u m n:Int) (key v:List Int)=>(args=[.ref e.kl,.ref e.r]∧Wd K a e H τ (o::t::u::m::n::(key.length:Int)::(key++((v.length:Int)::(v++rest)))) S N vs gs∧0≤o∧o≤2∧0≤t∧0≤u∧M.okR key∧M.okR v∧((1≤m∧m≤32)∧(1≤n∧n≤66)→(key.length:Int)=m)∧(S.getD o.toNat none).isSome=true∧N7 K a e H τ Q rest (Sa76Neutral.did S o (.set (t.toNat,u.toNat) (Sa76Neutral.nats key) m (Sa76Neutral.nats v) n)))
def afG(K:Fg)(a:dX):Sp:=fun args H Q _=>zx_14 (zx110 K a args H Q)
theorem afH(T:Txt K mg a):bL P w K mg base jk 9 a.g4 a.yH yw (afG K a):=by
 refine T.Jw.ok mX (fun vs H Q E h=>?_) (fun cdv A outer sh H vs Q E hr h=>?_)
 ·obtain⟨e,τ,rest,S,N,vs,gs,o,t,u,m,n,key,v,rfl,_⟩:=h;rfl
 ·obtain⟨e,τ,rest,S,N,vs,gs,o,t,u,m,n,key,v,rfl,W,h0,h2,ht,hu,hkey,hv,hlen,hb,k⟩:=h;refine⟨_,(ah (aP (i:=2) mX.nd rfl (.inl rfl) (c9 bS (pv 0) (aT (pv 1) T.aQ T.aC (aF T) (hr.mono (by decide)) T.aH .nil aG) (fun _ _=>rfl)))
   (ah (aP (i:=3) mX.nd rfl (.inl rfl) (aT (pv 1) T.aQ T.fu (gT T) (hr.mono (by decide)) T.fY .nil aG))
   (ah (aP (i:=4) mX.nd rfl (.inl rfl) (aT (pv 1) T.aQ T.aC (aF T) (hr.mono (by decide)) T.aH .nil aG))
   (ah (aP (i:=5) mX.nd rfl (.inl rfl) (aT (pv 1) T.aQ T.aC (aF T) (hr.mono (by decide)) T.aH .nil aG))
   (ah (aP (i:=6) mX.nd rfl (.inl rfl) (aT (pv 1) T.aQ T.gu (iY T) (hr.mono (by decide)) T.gS .nil aG))
   (ah (aP (i:=7) mX.nd rfl (.inl rfl) (aT (pv 1) T.aQ T.gu (iY T) (hr.mono (by decide)) T.gS .nil aG))
   (ao (aJ (aR (ak4 T) (hr.mono (by decide)) rfl T.adK T.Uu.kp T.adJ .nil aG (af (pv 2) (af (pv 3) (af (pv 4) (af (pv 5) (af (pv 6) (af (pv 7) aj))))))))))))))),?_⟩
  refine⟨_,rfl,_,rfl,W.read fun H1 W1 F1=>?_⟩;refine⟨e.kl,_,_,_,rfl,rfl,(W1.atK h0 h2).1,(W1.atK h0 h2).2,?_⟩;refine⟨_,rfl,W1.acC ht hu fun H2 q2 W2 F2 i2=>?_⟩;refine⟨_,rfl,W2.read fun H3 W3 F3=>?_⟩;refine⟨_,rfl,W3.read fun H4 W4 F4=>?_⟩;refine⟨_,rfl,W4.N5 fun H5 q5 W5 F5 n5 e5=>?_⟩;refine⟨_,rfl,W5.N5 fun H6 q6 W6 F6 n6 e6=>?_⟩;obtain⟨s,p,hs,hp,hk,hg,hn⟩:=W6.get h0 h2 hb;have F16:=((((F1.trans F2).trans F3).trans F4).trans F5).trans F6;exact⟨_,rfl,_,rfl,_,rfl,_,rfl,_,rfl,_,rfl,τ,gs o.toNat,p,q2,q5,q6,s,(t.toNat,u.toNat),m,n,Sa76Neutral.nats key,Sa76Neutral.nats v,by rw[hp];rfl,W6.tg,hk,((((i2.keep F3 Aa).keep F4 Aa).keep F5 Aa).keep F6 Aa),(Xk e5 hkey).keep F6 Aa,Xk e6 hv,M.Et hkey,M.Et hv,fun z=>by rw[M.Eu];exact hlen z,hg,W6.ans h0 h2 hs hp hg hn F16 k⟩
def zx111(K:Fg)(a:dX)(args:List V)(H:Hp)(Q:VK):=fun(e:Ev) (τ:aL) (rest:List Int) (S:Sa76Neutral.S) (N:Nat) (vs:Nat→V) (gs:Nat→Nat) (o t u z n:Int) (v:List Int) (f:Addr) (c:Id→Int→Bytes→Int→Sa76.Call)=>(args=[.ref e.kl,.ref e.r,.ref f]∧((f=a.fm∧c=Sa76.Call.insert)∨(f=a.kg∧c=Sa76.Call.put))∧Wd K a e H τ (o::t::u::z::n::(v.length:Int)::(v++rest)) S N vs gs∧0≤o∧o≤2∧0≤t∧0≤u∧M.okR v∧(S.getD o.toNat none).isSome=true∧N7 K a e H τ Q rest (Sa76Neutral.did S o (c (t.toNat,u.toNat) z (Sa76Neutral.nats v) n)))
def KR(K:Fg)(a:dX):Sp:=fun args H Q _=>zx_15 (zx111 K a args H Q)
theorem xS(T:Txt K mg a):bL P w K mg base jk 10 a.c8 a.lF k7 (KR K a):=by
 refine T.mJ.ok gr (fun vs H Q E h=>?_) (fun cdv A outer sh H vs Q E hr h=>?_)
 ·obtain⟨e,τ,rest,S,N,vs,gs,o,t,u,z,n,v,f,c,rfl,_⟩:=h;rfl
 ·obtain⟨e,τ,rest,S,N,vs,gs,o,t,u,z,n,v,f,c,rfl,hf,W,h0,h2,ht,hu,hv,hb,k⟩:=h;refine⟨_,(ah (aP (i:=3) gr.nd rfl (.inl rfl) (c9 bS (pv 0) (aT (pv 1) T.aQ T.aC (aF T) (hr.mono (by decide)) T.aH .nil aG) (fun _ _=>rfl)))
   (ah (aP (i:=4) gr.nd rfl (.inl rfl) (aT (pv 1) T.aQ T.fu (gT T) (hr.mono (by decide)) T.fY .nil aG))
   (ah (aP (i:=5) gr.nd rfl (.inl rfl) (aT (pv 1) T.aQ T.aC (aF T) (hr.mono (by decide)) T.aH .nil aG))
   (ah (aP (i:=6) gr.nd rfl (.inl rfl) (aT (pv 1) T.aQ T.aC (aF T) (hr.mono (by decide)) T.aH .nil aG))
   (ah (aP (i:=7) gr.nd rfl (.inl rfl) (aT (pv 1) T.aQ T.gu (iY T) (hr.mono (by decide)) T.gS .nil aG))
   (ao (aJ (adz (pv 2) (af (pv 3) (af (pv 4) (af (pv 5) (af (pv 6) (af (pv 7) aj))))))))))))),?_⟩
  refine⟨_,rfl,_,rfl,W.read fun H1 W1 F1=>?_⟩;refine⟨e.kl,_,_,_,rfl,rfl,(W1.atK h0 h2).1,(W1.atK h0 h2).2,?_⟩;refine⟨_,rfl,W1.acC ht hu fun H2 q2 W2 F2 i2=>?_⟩;refine⟨_,rfl,W2.read fun H3 W3 F3=>?_⟩;refine⟨_,rfl,W3.read fun H4 W4 F4=>?_⟩;refine⟨_,rfl,W4.N5 fun H5 q5 W5 F5 n5 e5=>?_⟩;obtain⟨s,p,hs,hp,hk,hg,hn⟩:=W5.get h0 h2 hb;have F15:=(((F1.trans F2).trans F3).trans F4).trans F5;have kq:=W5.ans h0 h2 hs hp hg hn F15 k;have i5:=((i2.keep F3 Aa).keep F4 Aa).keep F5 Aa;rcases hf with⟨rfl,rfl⟩|⟨rfl,rfl⟩
  ·exact⟨_,rfl,a.fm,NV K a,rfl,⟨⟨_,_,_,acv T,hr.mono (by decide),T.QO⟩,T.E4.kp⟩,_,rfl,_,rfl,_,rfl,_,rfl,_,rfl,τ,gs o.toNat,p,q2,q5,s,(t.toNat,u.toNat),z,n,Sa76Neutral.nats v,by rw[hp],W5.tg,hk,i5,Xk e5 hv,M.Et hv,hg,kq⟩
  ·exact⟨_,rfl,a.kg,ZP K a,rfl,⟨⟨_,_,_,ak2 T,hr.mono (by decide),T.adL⟩,T.Uv.kp⟩,_,rfl,_,rfl,_,rfl,_,rfl,_,rfl,τ,gs o.toNat,p,q2,q5,s,(t.toNat,u.toNat),z,n,Sa76Neutral.nats v,by rw[hp],W5.tg,hk,i5,Xk e5 hv,M.Et hv,hg,kq⟩
def zx112(K:Fg)(a:dX)(c:Id→Int→Bytes→Int→Sa76.Call)(args:List V)(H:Hp)(Q:VK):=fun(e:Ev) (τ:aL) (rest:List Int) (S:Sa76Neutral.S) (N:Nat) (vs:Nat→V) (gs:Nat→Nat) (o t u z n:Int) (v:List Int)=>(args=[.ref e.kl,.ref e.r]∧Wd K a e H τ (o::t::u::z::n::(v.length:Int)::(v++rest)) S N vs gs∧0≤o∧o≤2∧0≤t∧0≤u∧M.okR v∧(S.getD o.toNat none).isSome=true∧N7 K a e H τ Q rest (Sa76Neutral.did S o (c (t.toNat,u.toNat) z (Sa76Neutral.nats v) n)))
abbrev aoX(K:Fg)(a:dX)(c:Id→Int→Bytes→Int→Sa76.Call):Sp:=fun args H Q _=>zx_13 (zx112 K a c args H Q)
def Xl(K:Fg)(a:dX):Sp:=aoX K a Sa76.Call.insert
theorem Xm(T:Txt K mg a):bL P w K mg base jk 11 a.dI a.qV qK (Xl K a):=by
 refine T.zF.ok Uq (fun vs H Q E h=>?_) (fun cdv A outer sh H vs Q E hr h=>?_)
 ·obtain⟨e,τ,rest,S,N,vs,gs,o,t,u,z,n,v,rfl,_⟩:=h;rfl
 ·obtain⟨e,τ,rest,S,N,vs,gs,o,t,u,z,n,v,rfl,hh⟩:=h;refine⟨_,(ao (aJ (aR (xS T) (hr.mono (by decide)) rfl T.rD T.mJ.kp T.rC .nil aG (af (pv 0) (af (pv 1) (af (lZ (v:=.ref a.fm) rfl T.QS rfl) aj)))))),?_⟩;exact⟨_,rfl,_,rfl,e,τ,rest,S,N,vs,gs,o,t,u,z,n,v,a.fm,Sa76.Call.insert,rfl,.inl ⟨rfl,rfl⟩,hh⟩
def afI(K:Fg)(a:dX):Sp:=aoX K a Sa76.Call.put
theorem afJ(T:Txt K mg a):bL P w K mg base jk 11 a.g6 a.yI yx (afI K a):=by
 refine T.Jx.ok adG (fun vs H Q E h=>?_) (fun cdv A outer sh H vs Q E hr h=>?_)
 ·obtain⟨e,τ,rest,S,N,vs,gs,o,t,u,z,n,v,rfl,_⟩:=h;rfl
 ·obtain⟨e,τ,rest,S,N,vs,gs,o,t,u,z,n,v,rfl,hh⟩:=h;refine⟨_,(ao (aJ (aR (xS T) (hr.mono (by decide)) rfl T.rD T.mJ.kp T.rC .nil aG (af (pv 0) (af (pv 1) (af (lZ (v:=.ref a.kg) rfl T.adM rfl) aj)))))),?_⟩;exact⟨_,rfl,_,rfl,e,τ,rest,S,N,vs,gs,o,t,u,z,n,v,a.kg,Sa76.Call.put,rfl,.inr ⟨rfl,rfl⟩,hh⟩
def zx113(K:Fg)(a:dX)(args:List V)(H:Hp)(Q:VK):=fun(e:Ev) (τ:aL) (rest:List Int) (S:Sa76Neutral.S) (N:Nat) (vs:Nat→V) (gs:Nat→Nat) (o t u z:Int)=>(args=[.ref e.kl,.ref e.r]∧Wd K a e H τ (o::t::u::z::rest) S N vs gs∧0≤o∧o≤2∧0≤t∧0≤u∧(S.getD o.toNat none).isSome=true∧N7 K a e H τ Q rest (Sa76Neutral.did S o (.remove (t.toNat,u.toNat) z)))
def Xn(K:Fg)(a:dX):Sp:=fun args H Q _=>zx_11 (zx113 K a args H Q)
theorem Xo(T:Txt K mg a):bL P w K mg base jk 10 a.dJ a.qW qL (Xn K a):=by
 refine T.zG.ok qM (fun vs H Q E h=>?_) (fun cdv A outer sh H vs Q E hr h=>?_)
 ·obtain⟨e,τ,rest,S,N,vs,gs,o,t,u,z,rfl,_⟩:=h;rfl
 ·obtain⟨e,τ,rest,S,N,vs,gs,o,t,u,z,rfl,W,h0,h2,ht,hu,hb,k⟩:=h;refine⟨_,(ah (aP (i:=2) qM.nd rfl (.inl rfl) (c9 bS (pv 0) (aT (pv 1) T.aQ T.aC (aF T) (hr.mono (by decide)) T.aH .nil aG) (fun _ _=>rfl)))
   (ah (aP (i:=3) qM.nd rfl (.inl rfl) (aT (pv 1) T.aQ T.fu (gT T) (hr.mono (by decide)) T.fY .nil aG))
   (ah (aP (i:=4) qM.nd rfl (.inl rfl) (aT (pv 1) T.aQ T.aC (aF T) (hr.mono (by decide)) T.aH .nil aG))
   (ao (aJ (aR (acu T) (hr.mono (by decide)) rfl T.QU T.E5.kp T.QT .nil aG (af (pv 2) (af (pv 3) (af (pv 4) aj))))))))),?_⟩
  refine⟨_,rfl,_,rfl,W.read fun H1 W1 F1=>?_⟩;refine⟨e.kl,_,_,_,rfl,rfl,(W1.atK h0 h2).1,(W1.atK h0 h2).2,?_⟩;refine⟨_,rfl,W1.acC ht hu fun H2 q2 W2 F2 i2=>?_⟩;refine⟨_,rfl,W2.read fun H3 W3 F3=>?_⟩;obtain⟨s,p,hs,hp,hk,hg,hn⟩:=W3.get h0 h2 hb;exact⟨_,rfl,_,rfl,_,rfl,τ,gs o.toNat,p,q2,s,(t.toNat,u.toNat),z,by rw[hp];rfl,W3.tg,hk,i2.keep F3 Aa,hg,W3.ans h0 h2 hs hp hg hn ((F1.trans F2).trans F3) k⟩
def zx114(K:Fg)(a:dX)(args:List V)(H:Hp)(Q:VK):=fun(e:Ev) (τ:aL) (rest:List Int) (S:Sa76Neutral.S) (N:Nat) (vs:Nat→V) (gs:Nat→Nat) (o t u z:Int)=>(args=[.ref e.kl,.ref e.r]∧Wd K a e H τ (o::t::u::z::rest) S N vs gs∧0≤o∧o≤2∧0≤t∧0≤u∧(-(2 ^ 63)≤z∧z < 2 ^ 63)∧(S.getD o.toNat none).isSome=true∧N7 K a e H τ Q rest (Sa76Neutral.did S o (.add (t.toNat,u.toNat) z)))
def afK(K:Fg)(a:dX):Sp:=fun args H Q _=>zx_11 (zx114 K a args H Q)
theorem afL(T:Txt K mg a):bL P w K mg base jk 9 a.g7 a.yJ yy (afK K a):=by
 refine T.Jy.ok yz (fun vs H Q E h=>?_) (fun cdv A outer sh H vs Q E hr h=>?_)
 ·obtain⟨e,τ,rest,S,N,vs,gs,o,t,u,z,rfl,_⟩:=h;rfl
 ·obtain⟨e,τ,rest,S,N,vs,gs,o,t,u,z,rfl,W,h0,h2,ht,hu,hz,hb,k⟩:=h;refine⟨_,(ah (aP (i:=2) yz.nd rfl (.inl rfl) (c9 bS (pv 0) (aT (pv 1) T.aQ T.aC (aF T) (hr.mono (by decide)) T.aH .nil aG) (fun _ _=>rfl)))
   (ah (aP (i:=3) yz.nd rfl (.inl rfl) (aT (pv 1) T.aQ T.fu (gT T) (hr.mono (by decide)) T.fY .nil aG))
   (ah (aP (i:=4) yz.nd rfl (.inl rfl) (aT (pv 1) T.aQ T.aC (aF T) (hr.mono (by decide)) T.aH .nil aG))
   (ao (aJ (aR (ak1 T) (hr.mono (by decide)) rfl T.adO T.Uw.kp T.adN .nil aG (af (pv 2) (af (pv 3) (af (pv 4) aj))))))))),?_⟩
  refine⟨_,rfl,_,rfl,W.read fun H1 W1 F1=>?_⟩;refine⟨e.kl,_,_,_,rfl,rfl,(W1.atK h0 h2).1,(W1.atK h0 h2).2,?_⟩;refine⟨_,rfl,W1.acC ht hu fun H2 q2 W2 F2 i2=>?_⟩;refine⟨_,rfl,W2.read fun H3 W3 F3=>?_⟩;obtain⟨s,p,hs,hp,hk,hg,hn⟩:=W3.get h0 h2 hb;exact⟨_,rfl,_,rfl,_,rfl,τ,gs o.toNat,p,q2,s,(t.toNat,u.toNat),z,by rw[hp];rfl,W3.tg,hk,i2.keep F3 Aa,hg,hz,W3.ans h0 h2 hs hp hg hn ((F1.trans F2).trans F3) k⟩
theorem anm(s:Sa76.St)(v:List Nat)(m:Int):(Sa76.does (some s) (.since v m)).1=some s:=by
 show(if m < 0 then(some s,Sa76.ok (-2)) else(some s,⟨((Sa76.fitting m.toNat (Sa76.since s v)).length:Int),Sa76.fitting m.toNat (Sa76.since s v)⟩):Sa76.Abs×Sa76.Ans).1=_;split <;> rfl
theorem aoE(s:Sa76.St)(m:Int):(Sa76.does (some s) (.tell m)).1=some s:=by
 show(if m < 0 then(some s,Sa76.ok (-2)) else if m < ((Sa76.document s.log).length:Int) then(some s,Sa76.ok (-1)) else(some s,⟨((Sa76.document s.log).length:Int),Sa76.document s.log⟩):Sa76.Abs×Sa76.Ans).1=_;split
 ·rfl
 ·split <;> rfl
def zx115(K:Fg)(a:dX)(args:List V)(H:Hp)(Q:VK):=fun(e:Ev) (τ:aL) (rest:List Int) (S:Sa76Neutral.S) (N:Nat) (vs:Nat→V) (gs:Nat→Nat) (o m:Int) (v:List Int)=>(args=[.ref e.kl,.ref e.r]∧Wd K a e H τ (o::m::(v.length:Int)::(v++rest)) S N vs gs∧0≤o∧o≤2∧(∀ z∈v,0≤z)∧v.length=8∧(S.getD o.toNat none).isSome=true∧N7 K a e H τ Q rest (Sa76Neutral.did S o (.since (Sa76Neutral.nats v) m)))
def Yt(K:Fg)(a:dX):Sp:=fun args H Q _=>zx_10 (zx115 K a args H Q)
theorem Yu(T:Txt K mg a):bL P w K mg base jk 6 a.eT a.tS tO (Yt K a):=by
 refine T.B9.ok tP (fun vs H Q E h=>?_) (fun cdv A outer sh H vs Q E hr h=>?_)
 ·obtain⟨e,τ,rest,S,N,vs,gs,o,m,v,rfl,_⟩:=h;rfl
 ·obtain⟨e,τ,rest,S,N,vs,gs,o,m,v,rfl,W,h0,h2,hv,hv8,hb,k⟩:=h;refine⟨_,(ah (aP (i:=2) tP.nd rfl (.inl rfl) (c9 bS (pv 0) (aT (pv 1) T.aQ T.aC (aF T) (hr.mono (by decide)) T.aH .nil aG) (fun _ _=>rfl)))
   (ah (aP (i:=3) tP.nd rfl (.inl rfl) (aT (pv 1) T.aQ T.aC (aF T) (hr.mono (by decide)) T.aH .nil aG))
   (ah (aP (i:=4) tP.nd rfl (.inl rfl) (aT (pv 1) T.aQ T.gu (iY T) (hr.mono (by decide)) T.gS .nil aG))
   (ao (aJ (aR (Rt T) (hr.mono (by decide)) rfl T.Jv T.B7.kp T.Ju .nil aG (af (pv 2) (af (pv 3) (af (pv 4) aj))))))))),?_⟩
  refine⟨_,rfl,_,rfl,W.read fun H1 W1 F1=>?_⟩;refine⟨e.kl,_,_,_,rfl,rfl,(W1.atK h0 h2).1,(W1.atK h0 h2).2,?_⟩;refine⟨_,rfl,W1.read fun H2 W2 F2=>?_⟩;refine⟨_,rfl,W2.N5 fun H3 q3 W3 F3 n3 e3=>?_⟩;obtain⟨s,p,hs,hp,hk,hg,hn⟩:=W3.get h0 h2 hb;have ez:iz v=iB (Sa76Neutral.nats v):=by
   show v.map _=(v.map _).map _;rw[ao8];apply aqh;intro z hz;show V.int z=V.int ((z.toNat:Nat):Int);rw[as2 (hv z hz)]
  exact⟨_,rfl,_,rfl,_,rfl,τ,gs o.toNat,p,q3,s,m,Sa76Neutral.nats v,by rw[hp];rfl,W3.tg,hk,by rw[← ez];exact e3.1,by rw[M.Eu];exact hv8,hg,W3.aqr hs (anm s _ m) ((F1.trans F2).trans F3) k⟩
def zx116(K:Fg)(a:dX)(args:List V)(H:Hp)(Q:VK):=fun(e:Ev) (τ:aL) (rest:List Int) (S:Sa76Neutral.S) (N:Nat) (vs:Nat→V) (gs:Nat→Nat) (o:Int) (b:List Int)=>(args=[.ref e.kl,.ref e.r]∧Wd K a e H τ (o::(b.length:Int)::(b++rest)) S N vs gs∧0≤o∧o≤2∧M.okR b∧(S.getD o.toNat none).isSome=true∧N7 K a e H τ Q rest (Sa76Neutral.did S o (.take (Sa76Neutral.nats b) (Sa76Neutral.len b))))
def acD(K:Fg)(a:dX):Sp:=fun args H Q _=>zx_9 (zx116 K a args H Q)
theorem acE(T:Txt K mg a):bL P w K mg base jk 9 a.f7 a.vQ vF (acD K a):=by
 refine T.Fc.ok Lm (fun vs H Q E h=>?_) (fun cdv A outer sh H vs Q E hr h=>?_)
 ·obtain⟨e,τ,rest,S,N,vs,gs,o,b,rfl,_⟩:=h;rfl
 ·obtain⟨e,τ,rest,S,N,vs,gs,o,b,rfl,W,h0,h2,hv,hb,k⟩:=h;refine⟨_,(ah (aP (i:=2) Lm.nd rfl (.inl rfl) (c9 bS (pv 0) (aT (pv 1) T.aQ T.aC (aF T) (hr.mono (by decide)) T.aH .nil aG) (fun _ _=>rfl)))
   (ao (aJ (aR (Xd T) (hr.mono (by decide)) rfl T.OM T.G5.kp T.OL .nil aG (af (pv 2) (af (aT (pv 1) T.aQ T.gu (iY T) (hr.mono (by decide)) T.gS .nil aG) aj)))))),?_⟩
  have el:Sa76Neutral.len b=((Sa76Neutral.nats b).length:Int):=by rw[M.Eu];rfl
  rw[el] at k;refine⟨_,rfl,_,rfl,W.read fun H1 W1 F1=>?_⟩;refine⟨e.kl,_,_,_,rfl,rfl,(W1.atK h0 h2).1,(W1.atK h0 h2).2,?_⟩;refine⟨_,rfl,_,rfl,W1.N5 fun H2 q2 W2 F2 n2 e2=>?_⟩;obtain⟨s,p,hs,hp,hk,hg,hn⟩:=W2.get h0 h2 hb;exact⟨τ,gs o.toNat,p,q2,s,Sa76Neutral.nats b,by rw[hp];rfl,W2.tg,hk,(Xk e2 hv).1,M.Et hv,hg,hn,W2.ans h0 h2 hs hp hg hn (F1.trans F2) k⟩
def zx117(K:Fg)(a:dX)(args:List V)(H:Hp)(Q:VK):=fun(e:Ev) (τ:aL) (rest:List Int) (S:Sa76Neutral.S) (N:Nat) (vs:Nat→V) (gs:Nat→Nat) (o:Int)=>(args=[.ref e.kl,.ref e.r]∧Wd K a e H τ (o::rest) S N vs gs∧0≤o∧o≤2∧(S.getD o.toNat none).isSome=true∧N7 K a e H τ Q rest (Sa76Neutral.did S o .had))
def afM(K:Fg)(a:dX):Sp:=fun args H Q _=>zx_8 (zx117 K a args H Q)
theorem afN(T:Txt K mg a):bL P w K mg base jk 2 a.g8 a.yK yC (afM K a):=by
 refine T.Jz.ok QL (fun vs H Q E h=>?_) (fun cdv A outer sh H vs Q E hr h=>?_)
 ·obtain⟨e,τ,rest,S,N,vs,gs,o,rfl,_⟩:=h;rfl
 ·obtain⟨e,τ,rest,S,N,vs,gs,o,rfl,W,h0,h2,hb,k⟩:=h;refine⟨_,(ah (aP (i:=2) QL.nd rfl (.inl rfl) (c9 bS (pv 0) (aT (pv 1) T.aQ T.aC (aF T) (hr.mono (by decide)) T.aH .nil aG) (fun _ _=>rfl)))
   (ao (aJ (fZ lQ (bz (af aW aj)) (aA (pv 2) rfl))))),?_⟩
  refine⟨_,rfl,_,rfl,W.read fun H1 W1 F1=>?_⟩;refine⟨e.kl,_,_,_,rfl,rfl,(W1.atK h0 h2).1,(W1.atK h0 h2).2,?_⟩;obtain⟨s,p,hs,hp,hk,hg,hn⟩:=W1.get h0 h2 hb;have na:anf H1 Q (Sa76.does (some s) .had).2:=W1.aqr hs rfl F1 k;obtain⟨dx,aa,ca,la,ka,wa,d,q0,q1,q2,q3,q4,q5,_,q6,_⟩:=id hk.ex;rw[ang] at q6;refine⟨tU,fun r1 n1=>?_⟩;have S1:=aq (o:=HO.lst [V.int 0]) n1;have e1:(upd H1 r1 (.lst [.int 0])) r1=some (.lst [.int 0]):=ae;generalize upd H1 r1 (.lst [.int 0])=H2 at S1 e1;rw[hp];refine⟨_,rfl,p,_,dx,_,_,rfl,S1 _ _ q0.1,T.aO,T.fq,rfl,r1,ca,_,_,rfl,rfl,e1,S1 _ _ q6,Rp (by rw[aB,aah,asH];decide),fun r2 n2=>?_⟩;exact na _ r2 (S1.trans (aq n2)) (S1.free n2) ae
def zx118(K:Fg)(a:dX)(args:List V)(H:Hp)(Q:VK):=fun(e:Ev) (τ:aL) (rest:List Int) (S:Sa76Neutral.S) (N:Nat) (vs:Nat→V) (gs:Nat→Nat) (o m:Int)=>(args=[.ref e.kl,.ref e.r]∧Wd K a e H τ (o::m::rest) S N vs gs∧0≤o∧o≤2∧(S.getD o.toNat none).isSome=true∧N7 K a e H τ Q rest (Sa76Neutral.did S o (.tell m)))
def acG(K:Fg)(a:dX):Sp:=fun args H Q _=>zx_9 (zx118 K a args H Q)
theorem acH(T:Txt K mg a):bL P w K mg base jk 7 a.f9 a.vR vG (acG K a):=by
 refine T.Fd.ok Ln (fun vs H Q E h=>?_) (fun cdv A outer sh H vs Q E hr h=>?_)
 ·obtain⟨e,τ,rest,S,N,vs,gs,o,m,rfl,_⟩:=h;rfl
 ·obtain⟨e,τ,rest,S,N,vs,gs,o,m,rfl,W,h0,h2,hb,k⟩:=h;refine⟨_,(ah (aP (i:=2) Ln.nd rfl (.inl rfl) (c9 bS (pv 0) (aT (pv 1) T.aQ T.aC (aF T) (hr.mono (by decide)) T.aH .nil aG) (fun _ _=>rfl)))
   (ao (aJ (aR (aik T) (hr.mono (by decide)) rfl T.Za T.OO.kp T.Y9 .nil aG (af (pv 2) (af (aT (pv 1) T.aQ T.aC (aF T) (hr.mono (by decide)) T.aH .nil aG) aj)))))),?_⟩
  refine⟨_,rfl,_,rfl,W.read fun H1 W1 F1=>?_⟩;refine⟨e.kl,_,_,_,rfl,rfl,(W1.atK h0 h2).1,(W1.atK h0 h2).2,?_⟩;refine⟨_,rfl,_,rfl,W1.read fun H2 W2 F2=>?_⟩;obtain⟨s,p,hs,hp,hk,hg,hn⟩:=W2.get h0 h2 hb;exact⟨τ,gs o.toNat,p,s,m,by rw[hp];rfl,W2.tg,hk,hg,W2.aqr hs (aoE s m) (F1.trans F2) k⟩
def zx119(K:Fg)(a:dX)(args:List V)(H:Hp)(Q:VK):=fun(e:Ev) (τ:aL) (rest:List Int) (S:Sa76Neutral.S) (N:Nat) (vs:Nat→V) (gs:Nat→Nat) (o u m:Int)=>(args=[.ref e.kl,.ref e.r]∧Wd K a e H τ (o::u::m::rest) S N vs gs∧0≤o∧o≤2∧0≤u∧u≤2∧(S.getD o.toNat none).isSome=true∧(S.getD u.toNat none).isSome=true∧N7 K a e H τ Q rest (Sa76Neutral.step S [[10,o,u,m]]))
def acI(K:Fg)(a:dX):Sp:=fun args H Q _=>zx_10 (zx119 K a args H Q)
theorem acJ(T:Txt K mg a):bL P w K mg base jk 10 a.gb a.vS vH (acI K a):=by
 refine T.Fe.ok BW (fun vs H Q E h=>?_) (fun cdv A outer sh H vs Q E hr h=>?_)
 ·obtain⟨e,τ,rest,S,N,vs,gs,o,u,m,rfl,_⟩:=h;rfl
 ·obtain⟨e,τ,rest,S,N,vs,gs,o,u,m,rfl,W,h0,h2,u0,u2,hb,hbu,k⟩:=h;refine⟨_,(ah (aP (i:=2) BW.nd rfl (.inl rfl) (c9 bS (pv 0) (aT (pv 1) T.aQ T.aC (aF T) (hr.mono (by decide)) T.aH .nil aG) (fun _ _=>rfl)))
   (ah (aP (i:=3) BW.nd rfl (.inl rfl) (c9 bS (pv 0) (aT (pv 1) T.aQ T.aC (aF T) (hr.mono (by decide)) T.aH .nil aG) (fun _ _=>rfl)))
   (ao (aJ (aR (aii T) (hr.mono (by decide)) rfl T.Y8 T.ON.kp T.Y7 .nil aG (af (pv 2) (af (pv 3) (af (aT (pv 1) T.aQ T.aC (aF T) (hr.mono (by decide)) T.aH .nil aG) aj)))))))),?_⟩
  refine⟨_,rfl,_,rfl,W.read fun H1 W1 F1=>?_⟩;refine⟨e.kl,_,_,_,rfl,rfl,(W1.atK h0 h2).1,(W1.atK h0 h2).2,?_⟩;refine⟨_,rfl,_,rfl,W1.read fun H2 W2 F2=>?_⟩;refine⟨e.kl,_,_,_,rfl,rfl,(W2.atK u0 u2).1,(W2.atK u0 u2).2,?_⟩;refine⟨_,rfl,_,rfl,_,rfl,W2.read fun H3 W3 F3=>?_⟩;obtain⟨s1,p1,hs1,hp1,hk1,hg1,hn1⟩:=W3.get h0 h2 hb;obtain⟨s2,p2,hs2,hp2,hk2,hg2,hn2⟩:=W3.get u0 u2 hbu;have F13:=(F1.trans F2).trans F3;refine⟨τ,gs o.toNat,gs u.toNat,p1,p2,s1,s2,m,by rw[hp1,hp2];rfl,W3.tg,hk1,hk2,hg1,hg2,hn2,fun x y hx hy s' H' τ' q es eg hk F n ee=>?_⟩;have est:Sa76Neutral.step S [[10,o,u,m]]=(S.set u.toNat y.1,[x.v,y.2.v]):=by
   rw[hy,hx];show(let h:=(Sa76.does (S.getD u.toNat none) .had).2.l
    let x:=(Sa76.does (S.getD o.toNat none) (.since h m)).2
    let y:=Sa76.does (S.getD u.toNat none) (.take x.l (x.l.length:Nat))
    (S.set u.toNat y.1,[x.v,y.2.v]):Sa76Neutral.S×List Int)=_
   rw[hs1,hs2];rfl
  rw[est,es] at k;exact k H' τ' q N vs gs (W3.put (by omega) hp2 F hk (eg hg2 hn2)) ((F13.mono afF).trans (F.mono aoW)) (F13.free n) ee
end
end KB
namespace KB
open PySem PySem.Spec PyProof.Rows L2
open Sa76 (Id Op Val Bytes ROOT)
theorem aim{k n:Int}{key:List Int}(h:(key.length:Int)=if (Sa76Neutral.between k 1 32 && Sa76Neutral.between n 1 66)=true then k else 0):(1≤k∧k≤32)∧(1≤n∧n≤66)→(key.length:Int)=k:=fun z=>by
 rw[afO (by
  unfold Sa76Neutral.between;simp[z.1.1,z.1.2,z.2.1,z.2.2])] at h
 exact h
section
variable{P:Program}{w:World}{K:Fg}{mg:Str→Option Value}{base:Heap}{a:dX}
abbrev asv(a:dX):List V:=[.ref a.eS,.ref a.g4,.ref a.dI,.ref a.g6,.ref a.dJ,.ref a.g7,.ref a.eT,.ref a.f7,.ref a.g8,.ref a.f9,.ref a.gb]
theorem ano(T:Txt K mg a){e:Ev}{H:Hp}{τ:aL}{S:Sa76Neutral.S}{N:Nat}{vs:Nat→V}{gs:Nat→Nat}{x:Int}{args rest:List Int}{rows:List (List Int)}(hf:M.Form ((x::args)::rows))(hb:M.Bg S ((x::args)::rows))(W:Wd K a e H τ (args++(PyFlat.putRows rows++rest)) S N vs gs) :
  ∃ (f:Addr) (sp:Sp) (k:Nat) (fd:FuncData) (ps:List Str),atI (asv a) x=some (.ref f)∧bL P w K mg base jk k f fd ps sp∧k≤11∧Binds K fd ps []∧PySem.W.keepIn K (.ref f)=true∧∀ Q,N7 K a e H τ Q rest (Sa76Neutral.step S ((x::args)::rows))→sp [.ref e.kl,.ref e.r] H Q E0:=by
 generalize hc:(x::args)::rows=c at hf hb;cases hf with
 |@begin_ o k h0 h2 _ _=>
  cases hc;exact⟨_,_,_,_,_,at_of (j:=0) rfl rfl,Ys T,by decide,T.Ls,T.B8.kp,fun Q k=>⟨e,τ,rest,S,N,vs,gs,o,_,rfl,W,h0,h2,k⟩⟩
 |@set o t u m n key v h0 h2 ht hu hkey hv hl _=>
  cases hc;have W:Wd K a e H τ (o::t::u::m::n::(((key.length:Int)::key++((v.length:Int)::v++[]))++rest)) S N vs gs:=W;rw[apc,aoU] at W;exact⟨_,_,_,_,_,at_of (j:=1) rfl rfl,afH T,by decide,T.UB,T.Jw.kp,fun Q k=>⟨e,τ,rest,S,N,vs,gs,o,t,u,m,n,key,v,rfl,W,h0,h2,ht.1,hu.1,hkey,hv,aim hl,hb,k⟩⟩
 |@insert o t u z n v h0 h2 ht hu hv _=>
  cases hc;have W:Wd K a e H τ (o::t::u::z::n::(((v.length:Int)::v++[])++rest)) S N vs gs:=W;rw[apc] at W;exact⟨_,_,_,_,_,at_of (j:=2) rfl rfl,Xm T,by decide,T.IJ,T.zF.kp,fun Q k=>⟨e,τ,rest,S,N,vs,gs,o,t,u,z,n,v,rfl,W,h0,h2,ht.1,hu.1,hv,hb,k⟩⟩
 |@put o t u z n v h0 h2 ht hu hv _=>
  cases hc;have W:Wd K a e H τ (o::t::u::z::n::(((v.length:Int)::v++[])++rest)) S N vs gs:=W;rw[apc] at W;exact⟨_,_,_,_,_,at_of (j:=3) rfl rfl,afJ T,by decide,T.UC,T.Jx.kp,fun Q k=>⟨e,τ,rest,S,N,vs,gs,o,t,u,z,n,v,rfl,W,h0,h2,ht.1,hu.1,hv,hb,k⟩⟩
 |@remove o t u z h0 h2 ht hu=>
  cases hc;exact⟨_,_,_,_,_,at_of (j:=4) rfl rfl,Xo T,by decide,T.IK,T.zG.kp,fun Q k=>⟨e,τ,rest,S,N,vs,gs,o,t,u,z,rfl,W,h0,h2,ht.1,hu.1,hb,k⟩⟩
 |@add o t u z h0 h2 ht hu hz=>
  cases hc;exact⟨_,_,_,_,_,at_of (j:=5) rfl rfl,afL T,by decide,T.UD,T.Jy.kp,fun Q k=>⟨e,τ,rest,S,N,vs,gs,o,t,u,z,rfl,W,h0,h2,ht.1,hu.1,hz,hb,k⟩⟩
 |@since o m v h0 h2 _ hv hv8=>
  cases hc;have W:Wd K a e H τ (o::m::(((v.length:Int)::v++[])++rest)) S N vs gs:=W;rw[apc] at W;exact⟨_,_,_,_,_,at_of (j:=6) rfl rfl,Yu T,by decide,T.Lu,T.B9.kp,fun Q k=>⟨e,τ,rest,S,N,vs,gs,o,m,v,rfl,W,h0,h2,fun z hz=>(hv z hz).1,hv8,hb,k⟩⟩
 |@take o b h0 h2 hv=>
  cases hc;have W:Wd K a e H τ (o::(((b.length:Int)::b++[])++rest)) S N vs gs:=W;rw[apc] at W;exact⟨_,_,_,_,_,at_of (j:=7) rfl rfl,acE T,by decide,T.QZ,T.Fc.kp,fun Q k=>⟨e,τ,rest,S,N,vs,gs,o,b,rfl,W,h0,h2,hv,hb,k⟩⟩
 |@had o h0 h2=>
  cases hc;exact⟨_,_,_,_,_,at_of (j:=8) rfl rfl,afN T,by decide,T.UE,T.Jz.kp,fun Q k=>⟨e,τ,rest,S,N,vs,gs,o,rfl,W,h0,h2,hb,k⟩⟩
 |@tell o m h0 h2 _=>
  cases hc;exact⟨_,_,_,_,_,at_of (j:=9) rfl rfl,acH T,by decide,T.Q0,T.Fd.kp,fun Q k=>⟨e,τ,rest,S,N,vs,gs,o,m,rfl,W,h0,h2,hb,k⟩⟩
 |@hand o u m h0 h2 u0 u2 _=>
  cases hc;exact⟨_,_,_,_,_,at_of (j:=10) rfl rfl,acJ T,by decide,T.Q2,T.Fe.kp,fun Q k=>⟨e,τ,rest,S,N,vs,gs,o,u,m,rfl,W,h0,h2,u0,u2,hb.1,hb.2,k⟩⟩
end
end KB
namespace KB
open PySem PySem.Spec PyProof.Rows L2
open Sa76 (Id Op Val Bytes ROOT)
theorem cJ.same{K:Fg}{H H':Hp}{l:Addr}{xs:List V}(h:cJ K H l xs)(S:aM H H'):cJ K H' l xs:=h.imp (fun z=>z.imp (fun y=>S _ _ y) fun⟨o,y⟩=>⟨o,S _ _ y⟩) fun z=>z
theorem ZU{cs:List Sa76Neutral.Call}:∀ {dn:List Sa76Neutral.Call} {S:Sa76Neutral.S},(∀ c∈dn,M.Form c)→(M.after S dn).length=S.length
 |[],_,_=>rfl
 |c::r,S,h=>by
  show(M.after (Sa76Neutral.step S c).1 r).length=_;rw[ZU (cs:=cs) fun d hd=>h d (aiy _ hd),M.alj (h c ajM)]
section
variable{P:Program}{w:World}{K:Fg}{mg:Str→Option Value}{base:Heap}{a:dX}
theorem Wd.other{e:Ev}{H H':Hp}{τ τ':aL}{rest:List Int}{S:Sa76Neutral.S}{N:Nat}{vs:Nat→V}{gs:Nat→Nat}(h:Wd K a e H τ rest S N vs gs)(f:Fr (fun t=>t≠.top 3) H τ H' τ'):Wd K a e H' τ' rest S N vs gs where
 tg:=f.tg
 old:=fun b o z=>f.im (fun z=>nomatch z) (h.old b o z)
 num:=h.num
 rd:=by
  obtain⟨dx,pos,⟨q,t⟩,h2⟩:=h.rd;exact⟨dx,pos,⟨f.keep _ _ q (by rw[t];exact fun z=>nomatch z),(f.tag _ _ q).trans t⟩,h2⟩
 len:=h.len
 kl:=⟨f.keep _ _ h.kl.1 (by rw[h.kl.2];exact fun z=>nomatch z),(f.tag _ _ h.kl.1).trans h.kl.2⟩
 inj:=h.inj
 Rv:=h.Rv
 slot:=fun j hj=>(h.slot j hj).keep f (fun z=>nomatch z) fun x z=>nomatch z
def zx120(K:Fg)(vs:List V)(H:Hp)(Q:VK):=fun(l:Addr) (xs:List Int)=>(vs=[.ref l]∧cJ K H l (iz xs)∧PySa76.answers_asked xs=true∧∀ H' q,H' q=some (.lst (iz (PySa76.answers xs)))→Q (.ref q) H')
def Xp(K:Fg):Sp:=fun vs H Q _=>zx_2 (zx120 K vs H Q)
theorem ain(T:Txt K mg a):bL P w K mg base jk 12 a.nU a.sS BX (Xp K):=by
 refine T.OP.ok sR (fun vs H Q E h=>?_) (fun cdv A outer sh H vs Q E hr h=>?_)
 ·obtain⟨l,xs,rfl,_⟩:=h;rfl
 ·obtain⟨l,xs,rfl,hl,hask,k⟩:=h;refine⟨_,(ah (aP (i:=1) sR.nd rfl (.inl rfl) (bz (af jL (af jL (af jL aj)))))
   (ah (aP (i:=2) sR.nd rfl (.inl rfl) (SH T.Y0 (WR T) (hr.mono (by decide)) rfl T.adI T.II .nil aG (af (pv 0) aj)))
   (ah (aP (i:=3) sR.nd rfl (.inl rfl) (bz aj))
   (ah (EJ arV (gD (aT (pv 2) T.aQ T.wU (KG T) (hr.mono (by decide)) T.yV .nil aG) (fun _=>rfl)) (ah (aP (i:=4) sR.nd rfl (.inl rfl) (c9 wG (lZ (v:=.ref a.vU) rfl T.aiR rfl) (aT (pv 2) T.aQ T.aC (aF T) (hr.mono (by decide)) T.aH .nil aG) (fun _ _=>rfl)))
   (ah (aP (i:=5) sR.nd rfl (.inl rfl) (adz (pv 4) (af (pv 1) (af (pv 2) aj))))
   (ah (di (rS anK apf apl iK (pv 3) (af (cj bC (by rfl) T.nh (by decide +kernel) (af (pv 5) aj)) aj)))
   (ao (di (rS anK asT asU Aj (pv 3) (af (pv 5) aj))))))))
   (ao (aJ (pv 3))))))),?_⟩
  obtain⟨cs,A⟩:=M.alg hask;rw[A.ans] at k;refine⟨le3,fun kl n1=>?_⟩;have S1:=aq (o:=HO.lst [V.dN,V.dN,V.dN]) n1;have G1:Fr (fun _=>True) H (fun _=>.hU) (upd H kl (.lst [.dN,.dN,.dN])) (bh (fun _=>.hU) kl (.top 2)):=Fr.GF S1 n1 ae fun _ _=>rfl;have q1:(upd H kl (.lst [.dN,.dN,.dN])) kl=some (.lst ((List.range 3).map fun _=>V.dN))∧bh (fun _=>Tag.hU) kl (.top 2) kl=.top 2:=⟨ae,cg⟩;have o1:∀ b o,H b=some o→(upd H kl (.lst [.dN,.dN,.dN])) b=some o∧bh (fun _=>Tag.hU) kl (.top 2) b=.hU:=fun b o z=>⟨S1 b o z,aX (au z n1)⟩;generalize upd H kl (.lst [.dN,.dN,.dN])=H1 at S1 G1 q1 o1;generalize bh (fun _=>Tag.hU) kl (.top 2)=τ1 at G1 q1 o1;refine⟨_,rfl,fun r dx nr nd ne=>⟨r,dx,l,rfl,ae,rfl,?_⟩⟩;rw[fJ];have S2:aM H1 (upd (upd H1 dx (.own r)) r (.ins a.aV dx (ZH l 0))):=oq nr nd;have G2:Fr (fun _=>True) H1 τ1 (upd (upd H1 dx (.own r)) r (.ins a.aV dx (ZH l 0))) (bh τ1 r (.top 1)):=Fr.GF S2 nr ae G1.tg;have q2:(upd (upd H1 dx (.own r)) r (.ins a.aV dx (ZH l 0))) r=some (.ins a.aV dx (ZH l ((0:Nat):Int)))∧bh τ1 r (.top 1) r=.top 1:=⟨ae,cg⟩
  replace q1:_∧_:=⟨S2 _ _ q1.1,(G2.tag _ _ q1.1).trans q1.2⟩
  replace o1:=fun b o z=>G2.im (b:=b) (o:=o) trivial (o1 b o z)
  generalize upd (upd H1 dx (.own r)) r (.ins a.aV dx (ZH l 0))=H2 at S2 G2 q1 q2 o1;generalize bh τ1 r (.top 1)=τ2 at G2 q1 q2 o1;refine⟨le0,fun al n3=>?_⟩;have S3:=aq (o:=HO.lst []) n3;have G3:Fr (fun _=>True) H2 τ2 (upd H2 al (.lst [])) (bh τ2 al (.top 3)):=Fr.GF S3 n3 ae G2.tg;have q3:(upd H2 al (.lst [])) al=some (.lst (iz []))∧bh τ2 al (.top 3) al=.top 3:=⟨ae,cg⟩
  replace q1:_∧_:=⟨S3 _ _ q1.1,(G3.tag _ _ q1.1).trans q1.2⟩
  replace q2:_∧_:=⟨S3 _ _ q2.1,(G3.tag _ _ q2.1).trans q2.2⟩
  replace o1:=fun b o z=>G3.im (b:=b) (o:=o) trivial (o1 b o z)
  generalize upd H2 al (.lst [])=H3 at S3 G3 q1 q2 q3 o1;generalize bh τ2 al (.top 3)=τ3 at G3 q1 q2 q3 o1;have hW:Wd K a ⟨H,l,r,kl,xs⟩ H3 τ3 (PyFlat.put cs) Sa76Neutral.start 3 (fun _=>V.dN) (fun j=>j):=by
   refine⟨G3.tg,o1,fun H' S=>cJ.same hl S,⟨dx,0,q2,by rw[atL];exact A.put⟩,rfl,q1,fun _ _ _ _ z=>z,fun j hj=>hj,fun j hj=>?_⟩;have e:Sa76Neutral.start.getD j none=none:=by
    match j,hj with
    |0,_=>rfl
    |1,_=>rfl
    |2,_=>rfl
   rw[e];exact rfl
  have hforms:∀ c∈cs,M.Form c:=fun c hc=>M.anx (A.all c hc);refine⟨fun m σ H'=>∃ (dn td:List Sa76Neutral.Call) (τ':aL) (N:Nat) (vs:Nat→V) (gs:Nat→Nat) (b:List Int) (v4 v5:Option V),m=td.length∧σ=[some (.ref l),some (.ref kl),some (.ref r),some (.ref al),v4,v5]∧cs=dn++td∧Wd K a ⟨H,l,r,kl,xs⟩ H' τ' (PyFlat.put td) (M.after Sa76Neutral.start dn) N vs gs∧(H' al=some (.lst (iz (PyFlat.told (PyFlat.played Sa76Neutral.step Sa76Neutral.start dn))))∧τ' al=.top 3)∧M.Bl b (M.after Sa76Neutral.start dn)∧Sa76Neutral.begun b td=true,
   ⟨_,[],cs,τ3,3,_,_,[],none,none,rfl,rfl,rfl,hW,q3,(fun o ho=>by cases ho),A.begun⟩,?_⟩
  rintro m σ H4 ⟨dn,td,τ',N,vs,gs,b,v4,v5,rfl,rfl,hcs,W,qa,hbl,hbg⟩;obtain⟨rx,pos,⟨hrd,_⟩,hx⟩:=id W.rd;refine⟨_,rfl,r,rx,_,rfl,hrd,rfl,r,rx,l,pos,iz xs,rfl,hrd,W.num H4 W.ank,_,rfl,?_⟩;cases td with
  |nil=>
   have hp:¬ (pos:Int) < ((iz xs).length:Int):=by
    have:xs.drop pos=[]:=hx;rw[List.drop_eq_nil_iff] at this;rw[aah];omega
   refine mQ hp ?_;rw[apc] at hcs;subst hcs;exact⟨_,rfl,k H4 al qa.1⟩
  |cons c td=>
   have hcm:c∈cs:=by rw[hcs];exact aqP _ ajM
   have hf:=hforms c hcm;obtain⟨x,args,rows,rfl,_⟩:=A.ok c hcm;have eput:PyFlat.put (((x::args)::rows)::td)=x::(args++(PyFlat.putRows rows++PyFlat.put td)):=by
    show((x::args)++PyFlat.putRows rows)++PyFlat.put td=_;rw[aoU];rfl
   rw[eput] at W hx;have hp:(pos:Int) < ((iz xs).length:Int):=by
    have h1:=(aox.mp (N4 hx).1).1;rw[aah];exact Int.ofNat_lt.mpr h1
   refine rO hp ?_;have hlenS:(M.after Sa76Neutral.start dn).length=3:=ZU (cs:=cs) fun d hd=>hforms d (by rw[hcs];exact aoI _ hd);obtain⟨hBg,b',hbl',hbg'⟩:=M.af1 hf hlenS hbl hbg;have easn:=M.Tq Sa76Neutral.start dn ((x::args)::rows);have eply:=M.QF Sa76Neutral.start dn ((x::args)::rows);have etold:PyFlat.told (PyFlat.played Sa76Neutral.step Sa76Neutral.start (dn++[(x::args)::rows]))=PyFlat.told (PyFlat.played Sa76Neutral.step Sa76Neutral.start dn++[(Sa76Neutral.step (M.after Sa76Neutral.start dn) ((x::args)::rows)).2]):=by rw[eply]
   have htot:=A.total;have hlt:=M.Tr Sa76Neutral.start (dn++[(x::args)::rows]);have hfew:=A.Rv;rw[hcs,show dn++((x::args)::rows)::td=(dn++[(x::args)::rows])++td by rw[aoU];rfl,M.Yy] at htot;rw[hcs,ada,ajk] at hfew;rw[ada,eply,M.Yz,ada,ajk] at hlt;have hsz:(PyFlat.told (PyFlat.played Sa76Neutral.step Sa76Neutral.start dn)).length+((Sa76Neutral.step (M.after Sa76Neutral.start dn) ((x::args)::rows)).2.length+1)≤1000300:=by
    have:[(x::args)::rows].length=1:=rfl;omega
   refine⟨fun σ' H'=>∃ (dn2 td2:List Sa76Neutral.Call) (τ':aL) (N:Nat) (vs:Nat→V) (gs:Nat→Nat) (b:List Int) (v4 v5:Option V),td2=td∧σ'=[some (.ref l),some (.ref kl),some (.ref r),some (.ref al),v4,v5]∧cs=dn2++td2∧Wd K a ⟨H,l,r,kl,xs⟩ H' τ' (PyFlat.put td2) (M.after Sa76Neutral.start dn2) N vs gs∧(H' al=some (.lst (iz (PyFlat.told (PyFlat.played Sa76Neutral.step Sa76Neutral.start dn2))))∧τ' al=.top 3)∧M.Bl b (M.after Sa76Neutral.start dn2)∧Sa76Neutral.begun b td2=true,?_,?_⟩
   ·rintro σ' H' ⟨dn2,td2,τ2',N2,vs2,gs2,b2,w4,w5,rfl,q⟩;exact⟨td2.length,by rw[ajk];omega,dn2,td2,τ2',N2,vs2,gs2,b2,w4,w5,rfl,q⟩
   ·refine⟨_,rfl,W.read fun H5 W5 F5=>?_⟩;obtain⟨f,sp,kk,fd,ps,hat,cI,hkk,hbind,hkeep,hsp⟩:=ano (P:=P) (w:=w) (base:=base) T hf hBg W5;refine⟨a.vU,_,_,_,rfl,rfl,p9 (.inr T.adT),hat,?_⟩;refine⟨_,rfl,f,sp,rfl,⟨⟨kk,fd,ps,cI,hr.mono (ao0 hkk (by decide)),hbind⟩,hkeep⟩,_,rfl,_,rfl,hsp _ ?_⟩;intro H6 τ6 q N6 vs6 gs6 W6 F6 n6 e6;have a6:H6 al=some (.lst (iz (PyFlat.told (PyFlat.played Sa76Neutral.step Sa76Neutral.start dn))))∧τ6 al=.top 3:=by
     have h5:=F5.keep _ _ qa.1 (by rw[qa.2];exact fun z=>nomatch z);have t5:=(F5.tag _ _ qa.1).trans qa.2;exact⟨F6.keep _ _ h5 (by rw[t5];exact .inr rfl),(F6.tag _ _ h5).trans t5⟩
    have e6:H6 q=some (.lst (iz (Sa76Neutral.step (M.after Sa76Neutral.start dn) ((x::args)::rows)).2)):=e6;have hqa:q≠al:=fun z=>by
     have h5:=F5.keep _ _ qa.1 (by rw[qa.2];exact fun z=>nomatch z);rw[z,h5] at n6;cases n6
    rw[← easn] at W6 hbl';rw[M.Yz] at etold;generalize (Sa76Neutral.step (M.after Sa76Neutral.start dn) ((x::args)::rows)).2=R at e6 hsz etold;generalize PyFlat.told (PyFlat.played Sa76Neutral.step Sa76Neutral.start dn)=Tl at a6 hsz etold;refine⟨_,rfl,.inl ⟨rfl,_,cJ.of a6.1⟩,_,rfl,q,_,rfl,.inl (cJ.of e6),al,_,_,rfl,rfl,a6.1,G6 (by rw[aah];omega),?_⟩;have F7:Fr (fun t=>t≠.top 3) H6 τ6 (upd H6 al (.lst (iz Tl++[.int ((iz R).length:Int)]))) τ6:=Fr.upd a6.1 (by rw[a6.2];exact fun z=>z rfl) F6.tg;have a7:(upd H6 al (.lst (iz Tl++[.int ((iz R).length:Int)]))) al=some (.lst (iz Tl++[.int ((iz R).length:Int)])):=ae;have e7:(upd H6 al (.lst (iz Tl++[.int ((iz R).length:Int)]))) q=some (.lst (iz R)):=by rw[ak hqa];exact e6
    generalize upd H6 al (.lst (iz Tl++[.int ((iz R).length:Int)]))=H7 at F7 a7 e7;refine⟨_,rfl,.inl ⟨rfl,_,cJ.of a7⟩,_,rfl,al,q,_,_,rfl,rfl,a7,e7,Rp (by rw[ada,aah,aah];show _+1+_≤_;omega),?_⟩;have F8:Fr (fun t=>t≠.top 3) H7 τ6 (upd H7 al (.lst (iz Tl++[.int ((iz R).length:Int)]++iz R))) τ6:=Fr.upd a7 (by rw[a6.2];exact fun z=>z rfl) F7.tg;refine⟨dn++[(x::args)::rows],td,τ6,N6,vs6,gs6,b',_,_,rfl,rfl,by rw[hcs,aoU];rfl,W6.other (F7.trans F8),⟨?_,a6.2⟩,hbl',hbg'⟩;have ez:iz (Tl++(R.length:Int)::R)=iz Tl++[V.int ((iz R).length:Int)]++iz R:=by
     show List.map _ (Tl++(R.length:Int)::R)=_;rw[ak9,aoU,aah];rfl
    rw[ae,etold,ez]
end
end KB
namespace KB
open PySem PySem.Spec PyProof.Rows L2
theorem aqs{K:Fg}{mg:Str→Option Value}{a:dX}(T:Txt K mg a):∀ (s:Shared) (us:List Value),us.length=(["calls"]:List Str).length→BindsTo s a.sS ⟨us,[]⟩ ((["calls"]:List Str).zip us):=by
 obtain⟨oc,od,kV,doc,pm,an,cdv,ct,osl,e,lk,hcd⟩:=T.OP.ex;intro s us hu;rw[e]
 match us,hu with
 |[_],_=>exact .of_eq rfl
end KB
def PySem.W.Fast.tw17105248553087445465:Nat:=0
def PySem.W.Fast.tw10369517753935803558:Nat:=0
def PySem.W.Fast.tw14173968398530377746:Nat:=0
def PySem.W.Fast.tw7786851577576247923:Nat:=0
def PySem.W.Fast.tw10597533558031189161:Nat:=0
def PySem.W.Fast.tw975608404230629735:Nat:=0
def PySem.W.Fast.tw9597664737722709108:Nat:=0
def PySem.W.Fast.tw14268229381412349041:Nat:=0
def PySem.W.Fast.tw11217162219010739118:Nat:=0
def PySem.W.Fast.tw41645719081027754:Nat:=0
def PySem.W.Fast.tw6557641732351504091:Nat:=0
def PySem.W.Fast.tw16181214387171028284:Nat:=0
def PySem.W.Fast.tw14366282835487062737:Nat:=0
def PySem.W.Fast.tw12204454380334862767:Nat:=0
def PySem.W.Fast.tw17445601205597808240:Nat:=0
def PySem.W.Fast.tw4834401098906069589:Nat:=0
def PySem.W.Fast.tw9753772508425963484:Nat:=0
def PySem.W.Fast.tw14265363441589230042:Nat:=0
def PySem.W.Fast.tw4604823287994366911:Nat:=0
def PySem.W.Fast.tw3602858800907724027:Nat:=0
def PySem.W.Fast.tw608281252836692117:Nat:=0
def PySem.W.Fast.tw14889116257703349138:Nat:=0
def PySem.W.Fast.tw15478667213274081615:Nat:=0
def PySem.W.Fast.tw13955695719713707290:Nat:=0
def PySem.W.Fast.tw16722654938450760396:Nat:=0
def PySem.W.Fast.tw7814419531037564748:Nat:=0
def PySem.W.Fast.tw1148048401066182261:Nat:=0
def PySem.W.Fast.tw6615820106424422231:Nat:=0
def PySem.W.Fast.tw7705524781448870365:Nat:=0
def PySem.W.Fast.tw9838674768922106967:Nat:=0
def PySem.W.Fast.tw15561509972397980185:Nat:=0
def PySem.W.Fast.tw2136256001115588471:Nat:=0
def PySem.W.Fast.tw11002797179275994969:Nat:=0
def PySem.W.Fast.tw11498743824256566183:Nat:=0
def PySem.W.Fast.tw2914822477992474501:Nat:=0
def PySem.W.Fast.tw14206790521442795991:Nat:=0
def PySem.W.Fast.tw18234525240882705429:Nat:=0
def PySem.W.Fast.tw12098796294648859400:Nat:=0
def PySem.W.Fast.tw12531016212062747087:Nat:=0
def PySem.W.Fast.tw7222165520881692401:Nat:=0
def PySem.W.Fast.tw17368037791432211190:Nat:=0
def PySem.W.Fast.tw7719647053558885113:Nat:=0
def PySem.W.Fast.tw2240439898307880003:Nat:=0
def PySem.W.Fast.tw1381967401660585228:Nat:=0
def PySem.W.Fast.tw6723529304692296927:Nat:=0
def PySem.W.Fast.tw13848095285639864627:Nat:=0
def PySem.W.Fast.tw10574056643962744501:Nat:=0
def PySem.W.Fast.tw3143407620844519461:Nat:=0
def PySem.W.Fast.tw4218575822942019515:Nat:=0
def PySem.W.Fast.tw2472834161148602347:Nat:=0
def PySem.W.Fast.tw13170945358356087300:Nat:=0
def PySem.W.Fast.tw12323446844606420755:Nat:=0
def PySem.W.Fast.tw14948573595659371564:Nat:=0
def PySem.W.Fast.tw11021279061943081822:Nat:=0
def PySem.W.Fast.tw2083194229945980320:Nat:=0
def PySem.W.Fast.tw4142217942154739592:Nat:=0
def PySem.W.Fast.tw3499470349702714224:Nat:=0
def PySem.W.Fast.tw8282388430771315971:Nat:=0
def PySem.W.Fast.tw13837254967556807886:Nat:=0
def PySem.W.Fast.tw11594360303375475091:Nat:=0
def PySem.W.Fast.tw3818475168845379637:Nat:=0
def PySem.W.Fast.tw1304861122270477557:Nat:=0
def PySem.W.Fast.tw10184309766849863417:Nat:=0
def PySem.W.Fast.tw18307762874229055193:Nat:=0
def PySem.W.Fast.tw1316698598735019463:Nat:=0
def PySem.W.Fast.tw9607839701973519372:Nat:=0
def PySem.W.Fast.tw6492513484140095443:Nat:=0
def PySem.W.Fast.tw334051507790659675:Nat:=0
def PySem.W.Fast.tw5977249614043117361:Nat:=0
def PySem.W.Fast.tw2735059844881343469:Nat:=0
def PySem.W.Fast.tw17276552410905788189:Nat:=0
def PySem.W.Fast.tw15797968312327457409:Nat:=0
def PySem.W.Fast.tw9243602388975672212:Nat:=0
def PySem.W.Fast.tw11224179397943239355:Nat:=0
def PySem.W.Fast.tw7257102373925654137:Nat:=0
def PySem.W.Fast.tw3802828770446131165:Nat:=0
def PySem.W.Fast.tw7788088198169026467:Nat:=0
def PySem.W.Fast.tw4391645759754627748:Nat:=0
def PySem.W.Fast.tw14483399065814577544:Nat:=0
def PySem.W.Fast.tw5731761675140252653:Nat:=0
def PySem.W.Fast.tw9804778734861024098:Nat:=0
def PySem.W.Fast.tw11850279768065377299:Nat:=0
def PySem.W.Fast.tw1665706757509253868:Nat:=0
def PySem.W.Fast.tw9187124406022319699:Nat:=0
def PySem.W.Fast.tw3162174590059328415:Nat:=0
def PySem.W.Fast.tw2442457698673606187:Nat:=0
def PySem.W.Fast.tw18376700639648759643:Nat:=0
def PySem.W.Fast.tw18172092760817472603:Nat:=0
def PySem.W.Fast.tw3034620747390976579:Nat:=0
def PySem.W.Fast.tw1480551496736401474:Nat:=0
def PySem.W.Fast.tw4738264862425604705:Nat:=0
def PySem.W.Fast.tw3127327651207705818:Nat:=0
def PySem.W.Fast.tw2769292671505431616:Nat:=0
def PySem.W.Fast.tw10005345766517437736:Nat:=0
def PySem.W.Fast.tw11305299969990148653:Nat:=0
def PySem.W.Fast.tw715696784441059379:Nat:=0
def PySem.W.Fast.tw9927571775421486431:Nat:=0
def PySem.W.Fast.tw8930036442014120266:Nat:=0
def PySem.W.Fast.tw2687742031231877782:Nat:=0
def PySem.W.Fast.tw10587720338272501124:Nat:=0
def PySem.W.Fast.tw12928811150414839708:Nat:=0
def PySem.W.Fast.tw10751812116176624084:Nat:=0
def PySem.W.Fast.tw3923792583953386277:Nat:=0
def PySem.W.Fast.tw11820346900091478033:Nat:=0
def PySem.W.Fast.tw10611036034788508923:Nat:=0
def PySem.W.Fast.tw17826097627180647011:Nat:=0
def PySem.W.Fast.tw9074719217720539144:Nat:=0
def PySem.W.Fast.tw5969933092110861310:Nat:=0
def PySem.W.Fast.tw10795703362832041176:Nat:=0
def PySem.W.Fast.tw2014381464005343073:Nat:=0
def PySem.W.Fast.tw14275980706792669457:Nat:=0
def PySem.W.Fast.tw18174070950128391654:Nat:=0
def PySem.W.Fast.tw10108013212243654335:Nat:=0
def PySem.W.Fast.tw17509337284310345802:Nat:=0
def PySem.W.Fast.tw1169502161381377909:Nat:=0
def PySem.W.Fast.tw6895318754561769298:Nat:=0
def PySem.W.Fast.tw18113710398321945849:Nat:=0
def PySem.W.Fast.tw555313431426719475:Nat:=0
def PySem.W.Fast.tw8608048168416764725:Nat:=0
def PySem.W.Fast.tw3187507667072524346:Nat:=0
def PySem.W.Fast.tw17534595428940840081:Nat:=0
def PySem.W.Fast.tw2130577447106680064:Nat:=0
def PySem.W.Fast.tw15240165584535393174:Nat:=0
def PySem.W.Fast.tw17013509549246365857:Nat:=0
def PySem.W.Fast.tw7905552064717082505:Nat:=0
def PySem.W.Fast.tw1177610963236515561:Nat:=0
def PySem.W.Fast.tw15593719518071779587:Nat:=0
def PySem.W.Fast.tw2331192782012090119:Nat:=0
def PySem.W.Fast.tw5309794821436807847:Nat:=0
def PySem.W.Fast.tw10625789279061831702:Nat:=0
def PySem.W.Fast.tw12152245549807521329:Nat:=0
def PySem.W.Fast.tw9782370233043231482:Nat:=0
def PySem.W.Fast.tw9949893715953311071:Nat:=0
def PySem.W.Fast.tw16316933502404341288:Nat:=0
def PySem.W.Fast.tw260694157878658941:Nat:=0
def PySem.W.Fast.tw9775143807327303406:Nat:=0
def PySem.W.Fast.tw12048373733246650598:Nat:=0
def PySem.W.Fast.tw7813898168895527800:Nat:=0
def PySem.W.Fast.tw9647394388093276005:Nat:=0
open PySem PySem.W PyProof.Rows
set_option maxRecDepth 100000 in
set_option maxHeartbeats 0 in
theorem PySem.Challenge.cw_keptbymany_s01_answers_holds : PySem.Challenge.rw_keptbymany_s01_answers.Holds := by
 w_on;k_headS;(case hw=>exact⟨[.list [.int 0,.int 0,.int 1]],by decide +kernel,by decide +kernel⟩)
 k_fillS
 refine L2.agw (r:=PySem.Challenge.rw_keptbymany_s01_answers) (k:=12) (CX:=L2.jk) (ps:=["calls"]) (sp:=KB.Xp) (by decide +kernel) rfl rfl ⟨rfl,by decide,by decide⟩ (fun w h Y=>PySem.W.kIn_of Y) ?F ?S (fun _ _ _ _ z=>z)
 case F=>
  intro w mg fa h Y KX G hmg;have T:∃ a:KB.dX,KB.Txt (L2.KOf KX) mg a:=by
   dsimp only[L2.KOf];refine' KB.apY KX G ?aoj ?amz ?amA ?amB ?amC ?amD ?amE ?Yc ?R7 ?abP ?PZ ?V8 ?R8 ?asn ?ari ?arj ?ark ?arl ?arn ?aro ?abQ ?aok ?aol ?abR ?akD ?ahC ?ahD ?ahE ?ahF ?ahG ?ahH ?MN ?MO ?Ku ?akE ?ahI ?ahJ ?ahK ?ahL ?ahM ?ahN ?P0 ?R9 ?Ge ?Se ?aom ?amF ?amG ?amH ?amI ?amJ ?amK ?abS ?Yd ?Sf ?HQ ?Ye ?V9 ?P1 ?MP ?aon ?amL ?amM ?amN ?amO ?amP ?amQ ?P4 ?MQ ?abT ?abU ?abV ?abW ?abX ?wd ?A7 ?A8 ?qx ?qy ?kE ?akF ?akG ?Zi ?Zj ?Zk ?Yg ?Yh ?IT ?IU ?zX ?Wa ?Gf ?Gg ?Gh ?HR ?uW ?uX ?uY ?ahO ?Wb ?Wc ?We ?Sg ?C3 ?C4 ?C5 ?Wg ?Gi ?Gj ?Gk ?Sh ?C6 ?C7 ?C8 ?HS ?uZ ?u6 ?u7 ?Si ?C9 ?Dc ?Dd ?aoo ?aiT ?aiU ?aiV ?ahP ?Wh ?Wi ?Wj ?aop ?aiW ?aiX ?aiY ?ahQ ?Wk ?Wl ?Wm ?ap4 ?amR ?amS ?amT ?aoq ?aiZ ?ai0 ?ai1 ?ahR ?Wn ?Wo ?Wp ?ae2 ?Rg ?Rh ?Ri ?amU ?ae3 ?ae4 ?ae5 ?abY ?MR ?MS ?MT ?amV ?ae6 ?ae7 ?ae8 ?akH ?Zl ?Zm ?Zn ?abZ ?MU ?MV ?MW ?akI ?Zo ?Zp ?Zq ?Kv ?xE ?xF ?xG ?akJ ?Zr ?Zs ?Zt ?amW ?ae9 ?afa ?afb ?amX ?afc ?afd ?afe ?Wq ?Wr ?Gm ?Gn ?Gp ?Sj ?Sk ?De ?Df ?uJ ?Yi ?Yj ?IV ?IW ?zY ?Kw ?Kx ?xH ?xJ ?pX ?MX ?MY ?zf ?zg ?rG ?yb ?yd ?oE ?oF ?jl ?Ws ?Wt ?Gq ?Gr ?Gs ?MZ ?M0 ?zh ?zj ?rH ?Na ?Nb ?zk ?zl ?rJ ?Ec ?Ed ?sf ?sq ?lV ?Cs ?Ct ?rK ?rL ?lH ?P5 ?P6 ?A9 ?Ba ?tw ?Sl ?Sm ?Dg ?Dh ?uK ?Cu ?Cv ?rM ?rN ?lI ?Gu ?Gv ?uz ?uA ?nt ?zZ ?z0 ?o6 ?o7 ?jV ?Ef ?Eg ?sr ?su ?lW ?ab0 ?ab1 ?Nc ?Nf ?Ng ?P7 ?P8 ?Bb ?Bc ?tD ?HU ?HV ?u9 ?vc ?oN ?ahS ?ahT ?Wu ?Wv ?Ky ?ab2 ?ab3 ?Nh ?Ni ?Cw ?ab4 ?ab5 ?Nj ?Nk ?Cy ?Kz ?KA ?xK ?xM ?pY ?Gw ?Gx ?uB ?uC ?nu ?HW ?HX ?vd ?ve ?oO ?P9 ?Qa ?Bd ?Be ?tE ?ab6 ?ab7 ?Nl ?Nm ?Nn ?Qc ?Qe ?Bf ?Bh ?tF ?HY ?HZ ?vf ?vg ?oQ ?Eh ?Ei ?sA ?sC ?lX ?Qg ?Qh ?Bj ?Bk ?tG ?amY ?afg ?afh ?afi ?Ww ?Gy ?Gz ?GA ?ahU ?Wx ?Wy ?Wz ?WA ?GB ?GC ?GD ?Sn ?Di ?Dj ?Dk ?So ?Dl ?Dm ?Dn ?Yk ?IX ?IY ?IZ ?ahV ?WB ?WC ?WD ?afj ?Rj ?Rk ?Rl ?akK ?Zu ?Zv ?Zw ?ab8 ?Np ?Nq ?Nr ?akL ?Zx ?Zy ?Zz ?Qi ?Bm ?Bo ?Bp ?ab9 ?Nt ?Nu ?Nv ?akM ?ZA ?ZC ?ZD ?afk ?Rm ?Rn ?Ro ?ahW ?WE ?WG ?WH ?akN ?ZE ?ZF ?ZG ?ahX ?WI ?WJ ?WK ?ahY ?WL ?WM ?WN ?amZ ?afl ?afm ?afn ?am0 ?Sq ?aso ?aor ?asp ?aos ?asq ?arp ?ap5 ?arq ?ars ?ap6 ?ap7 ?Ss ?akO ?ap8 ?ahZ ?acd ?am1 ?am2 ?aot ?art ?asr ?aru ?am3 ?Qj ?ap9 ?aqa ?Ny ?Yl ?afo ?Ym ?Nz ?ah0 ?Yn ?ah1 ?aqb ?arv ?aqc ?aqd ?ace ?ah2 ?ah3 ?afp ?akP ?aqe ?aqf ?aqg ?akQ ?nlen ?nsorted ?nlist ?ntuple ?nmax ?nall ?afq ?nord ?nstr
   (case aoj=>k_is)
   (case amz=>k_is)
   (case amA=>k_is)
   (case amB=>k_is)
   (case amC=>k_is)
   (case amD=>k_is)
   (case amE=>k_is)
   (case Yc=>k_is)
   (case R7=>k_is)
   (case abP=>k_is)
   (case PZ=>k_is)
   (case V8=>k_is)
   (case R8=>k_is)
   (case asn=>k_is)
   (case ari=>k_is)
   (case arj=>k_is)
   (case ark=>k_is)
   (case arl=>k_is)
   (case arn=>k_is)
   (case aro=>k_is)
   (case abQ=>k_is)
   (case aok=>k_is)
   (case aol=>k_is)
   (case abR=>k_is)
   (case akD=>k_is)
   (case ahC=>k_is)
   (case ahD=>k_is)
   (case ahE=>k_is)
   (case ahF=>k_is)
   (case ahG=>k_is)
   (case ahH=>k_is)
   (case MN=>k_is)
   (case MO=>k_is)
   (case Ku=>k_is)
   (case akE=>k_is)
   (case ahI=>k_is)
   (case ahJ=>k_is)
   (case ahK=>k_is)
   (case ahL=>k_is)
   (case ahM=>k_is)
   (case ahN=>k_is)
   (case P0=>k_is)
   (case R9=>k_is)
   (case Ge=>k_is)
   (case Se=>k_is)
   (case aom=>k_is)
   (case amF=>k_is)
   (case amG=>k_is)
   (case amH=>k_is)
   (case amI=>k_is)
   (case amJ=>k_is)
   (case amK=>k_is)
   (case abS=>k_is)
   (case Yd=>k_is)
   (case Sf=>k_is)
   (case HQ=>k_is)
   (case Ye=>k_is)
   (case V9=>k_is)
   (case P1=>k_is)
   (case MP=>k_is)
   (case aon=>k_is)
   (case amL=>k_is)
   (case amM=>k_is)
   (case amN=>k_is)
   (case amO=>k_is)
   (case amP=>k_is)
   (case amQ=>k_is)
   (case P4=>k_is)
   (case MQ=>k_is)
   (case abT=>k_is)
   (case abU=>k_is)
   (case abV=>k_is)
   (case abW=>k_is)
   (case abX=>k_is)
   (case wd=>k_is)
   (case A7=>k_is)
   (case A8=>k_is)
   (case qx=>k_is)
   (case qy=>k_is)
   (case kE=>k_is)
   (case akF=>k_is)
   (case akG=>k_is)
   (case Zi=>k_is)
   (case Zj=>k_is)
   (case Zk=>k_is)
   (case Yg=>k_is)
   (case Yh=>k_is)
   (case IT=>k_is)
   (case IU=>k_is)
   (case zX=>k_is)
   (case Wa=>k_is)
   (case Gf=>k_is)
   (case Gg=>k_is)
   (case Gh=>k_is)
   (case HR=>k_is)
   (case uW=>k_is)
   (case uX=>k_is)
   (case uY=>k_is)
   (case ahO=>k_is)
   (case Wb=>k_is)
   (case Wc=>k_is)
   (case We=>k_is)
   (case Sg=>k_is)
   (case C3=>k_is)
   (case C4=>k_is)
   (case C5=>k_is)
   (case Wg=>k_is)
   (case Gi=>k_is)
   (case Gj=>k_is)
   (case Gk=>k_is)
   (case Sh=>k_is)
   (case C6=>k_is)
   (case C7=>k_is)
   (case C8=>k_is)
   (case HS=>k_is)
   (case uZ=>k_is)
   (case u6=>k_is)
   (case u7=>k_is)
   (case Si=>k_is)
   (case C9=>k_is)
   (case Dc=>k_is)
   (case Dd=>k_is)
   (case aoo=>k_is)
   (case aiT=>k_is)
   (case aiU=>k_is)
   (case aiV=>k_is)
   (case ahP=>k_is)
   (case Wh=>k_is)
   (case Wi=>k_is)
   (case Wj=>k_is)
   (case aop=>k_is)
   (case aiW=>k_is)
   (case aiX=>k_is)
   (case aiY=>k_is)
   (case ahQ=>k_is)
   (case Wk=>k_is)
   (case Wl=>k_is)
   (case Wm=>k_is)
   (case ap4=>k_is)
   (case amR=>k_is)
   (case amS=>k_is)
   (case amT=>k_is)
   (case aoq=>k_is)
   (case aiZ=>k_is)
   (case ai0=>k_is)
   (case ai1=>k_is)
   (case ahR=>k_is)
   (case Wn=>k_is)
   (case Wo=>k_is)
   (case Wp=>k_is)
   (case ae2=>k_is)
   (case Rg=>k_is)
   (case Rh=>k_is)
   (case Ri=>k_is)
   (case amU=>k_is)
   (case ae3=>k_is)
   (case ae4=>k_is)
   (case ae5=>k_is)
   (case abY=>k_is)
   (case MR=>k_is)
   (case MS=>k_is)
   (case MT=>k_is)
   (case amV=>k_is)
   (case ae6=>k_is)
   (case ae7=>k_is)
   (case ae8=>k_is)
   (case akH=>k_is)
   (case Zl=>k_is)
   (case Zm=>k_is)
   (case Zn=>k_is)
   (case abZ=>k_is)
   (case MU=>k_is)
   (case MV=>k_is)
   (case MW=>k_is)
   (case akI=>k_is)
   (case Zo=>k_is)
   (case Zp=>k_is)
   (case Zq=>k_is)
   (case Kv=>k_is)
   (case xE=>k_is)
   (case xF=>k_is)
   (case xG=>k_is)
   (case akJ=>k_is)
   (case Zr=>k_is)
   (case Zs=>k_is)
   (case Zt=>k_is)
   (case amW=>k_is)
   (case ae9=>k_is)
   (case afa=>k_is)
   (case afb=>k_is)
   (case amX=>k_is)
   (case afc=>k_is)
   (case afd=>k_is)
   (case afe=>k_is)
   (case Wq=>k_is)
   (case Wr=>k_is)
   (case Gm=>k_is)
   (case Gn=>k_is)
   (case Gp=>k_is)
   (case Sj=>k_is)
   (case Sk=>k_is)
   (case De=>k_is)
   (case Df=>k_is)
   (case uJ=>k_is)
   (case Yi=>k_is)
   (case Yj=>k_is)
   (case IV=>k_is)
   (case IW=>k_is)
   (case zY=>k_is)
   (case Kw=>k_is)
   (case Kx=>k_is)
   (case xH=>k_is)
   (case xJ=>k_is)
   (case pX=>k_is)
   (case MX=>k_is)
   (case MY=>k_is)
   (case zf=>k_is)
   (case zg=>k_is)
   (case rG=>k_is)
   (case yb=>k_is)
   (case yd=>k_is)
   (case oE=>k_is)
   (case oF=>k_is)
   (case jl=>k_is)
   (case Ws=>k_is)
   (case Wt=>k_is)
   (case Gq=>k_is)
   (case Gr=>k_is)
   (case Gs=>k_is)
   (case MZ=>k_is)
   (case M0=>k_is)
   (case zh=>k_is)
   (case zj=>k_is)
   (case rH=>k_is)
   (case Na=>k_is)
   (case Nb=>k_is)
   (case zk=>k_is)
   (case zl=>k_is)
   (case rJ=>k_is)
   (case Ec=>k_is)
   (case Ed=>k_is)
   (case sf=>k_is)
   (case sq=>k_is)
   (case lV=>k_is)
   (case Cs=>k_is)
   (case Ct=>k_is)
   (case rK=>k_is)
   (case rL=>k_is)
   (case lH=>k_is)
   (case P5=>k_is)
   (case P6=>k_is)
   (case A9=>k_is)
   (case Ba=>k_is)
   (case tw=>k_is)
   (case Sl=>k_is)
   (case Sm=>k_is)
   (case Dg=>k_is)
   (case Dh=>k_is)
   (case uK=>k_is)
   (case Cu=>k_is)
   (case Cv=>k_is)
   (case rM=>k_is)
   (case rN=>k_is)
   (case lI=>k_is)
   (case Gu=>k_is)
   (case Gv=>k_is)
   (case uz=>k_is)
   (case uA=>k_is)
   (case nt=>k_is)
   (case zZ=>k_is)
   (case z0=>k_is)
   (case o6=>k_is)
   (case o7=>k_is)
   (case jV=>k_is)
   (case Ef=>k_is)
   (case Eg=>k_is)
   (case sr=>k_is)
   (case su=>k_is)
   (case lW=>k_is)
   (case ab0=>k_is)
   (case ab1=>k_is)
   (case Nc=>k_is)
   (case Nf=>k_is)
   (case Ng=>k_is)
   (case P7=>k_is)
   (case P8=>k_is)
   (case Bb=>k_is)
   (case Bc=>k_is)
   (case tD=>k_is)
   (case HU=>k_is)
   (case HV=>k_is)
   (case u9=>k_is)
   (case vc=>k_is)
   (case oN=>k_is)
   (case ahS=>k_is)
   (case ahT=>k_is)
   (case Wu=>k_is)
   (case Wv=>k_is)
   (case Ky=>k_is)
   (case ab2=>k_is)
   (case ab3=>k_is)
   (case Nh=>k_is)
   (case Ni=>k_is)
   (case Cw=>k_is)
   (case ab4=>k_is)
   (case ab5=>k_is)
   (case Nj=>k_is)
   (case Nk=>k_is)
   (case Cy=>k_is)
   (case Kz=>k_is)
   (case KA=>k_is)
   (case xK=>k_is)
   (case xM=>k_is)
   (case pY=>k_is)
   (case Gw=>k_is)
   (case Gx=>k_is)
   (case uB=>k_is)
   (case uC=>k_is)
   (case nu=>k_is)
   (case HW=>k_is)
   (case HX=>k_is)
   (case vd=>k_is)
   (case ve=>k_is)
   (case oO=>k_is)
   (case P9=>k_is)
   (case Qa=>k_is)
   (case Bd=>k_is)
   (case Be=>k_is)
   (case tE=>k_is)
   (case ab6=>k_is)
   (case ab7=>k_is)
   (case Nl=>k_is)
   (case Nm=>k_is)
   (case Nn=>k_is)
   (case Qc=>k_is)
   (case Qe=>k_is)
   (case Bf=>k_is)
   (case Bh=>k_is)
   (case tF=>k_is)
   (case HY=>k_is)
   (case HZ=>k_is)
   (case vf=>k_is)
   (case vg=>k_is)
   (case oQ=>k_is)
   (case Eh=>k_is)
   (case Ei=>k_is)
   (case sA=>k_is)
   (case sC=>k_is)
   (case lX=>k_is)
   (case Qg=>k_is)
   (case Qh=>k_is)
   (case Bj=>k_is)
   (case Bk=>k_is)
   (case tG=>k_is)
   (case amY=>k_is)
   (case afg=>k_is)
   (case afh=>k_is)
   (case afi=>k_is)
   (case Ww=>k_is)
   (case Gy=>k_is)
   (case Gz=>k_is)
   (case GA=>k_is)
   (case ahU=>k_is)
   (case Wx=>k_is)
   (case Wy=>k_is)
   (case Wz=>k_is)
   (case WA=>k_is)
   (case GB=>k_is)
   (case GC=>k_is)
   (case GD=>k_is)
   (case Sn=>k_is)
   (case Di=>k_is)
   (case Dj=>k_is)
   (case Dk=>k_is)
   (case So=>k_is)
   (case Dl=>k_is)
   (case Dm=>k_is)
   (case Dn=>k_is)
   (case Yk=>k_is)
   (case IX=>k_is)
   (case IY=>k_is)
   (case IZ=>k_is)
   (case ahV=>k_is)
   (case WB=>k_is)
   (case WC=>k_is)
   (case WD=>k_is)
   (case afj=>k_is)
   (case Rj=>k_is)
   (case Rk=>k_is)
   (case Rl=>k_is)
   (case akK=>k_is)
   (case Zu=>k_is)
   (case Zv=>k_is)
   (case Zw=>k_is)
   (case ab8=>k_is)
   (case Np=>k_is)
   (case Nq=>k_is)
   (case Nr=>k_is)
   (case akL=>k_is)
   (case Zx=>k_is)
   (case Zy=>k_is)
   (case Zz=>k_is)
   (case Qi=>k_is)
   (case Bm=>k_is)
   (case Bo=>k_is)
   (case Bp=>k_is)
   (case ab9=>k_is)
   (case Nt=>k_is)
   (case Nu=>k_is)
   (case Nv=>k_is)
   (case akM=>k_is)
   (case ZA=>k_is)
   (case ZC=>k_is)
   (case ZD=>k_is)
   (case afk=>k_is)
   (case Rm=>k_is)
   (case Rn=>k_is)
   (case Ro=>k_is)
   (case ahW=>k_is)
   (case WE=>k_is)
   (case WG=>k_is)
   (case WH=>k_is)
   (case akN=>k_is)
   (case ZE=>k_is)
   (case ZF=>k_is)
   (case ZG=>k_is)
   (case ahX=>k_is)
   (case WI=>k_is)
   (case WJ=>k_is)
   (case WK=>k_is)
   (case ahY=>k_is)
   (case WL=>k_is)
   (case WM=>k_is)
   (case WN=>k_is)
   (case amZ=>k_is)
   (case afl=>k_is)
   (case afm=>k_is)
   (case afn=>k_is)
   (case am0=>k_is)
   (case Sq=>k_is)
   (case aso=>k_is)
   (case aor=>k_is)
   (case asp=>k_is)
   (case aos=>k_is)
   (case asq=>k_is)
   (case arp=>k_is)
   (case ap5=>k_is)
   (case arq=>k_is)
   (case ars=>k_is)
   (case ap6=>k_is)
   (case ap7=>k_is)
   (case Ss=>k_is)
   (case akO=>k_is)
   (case ap8=>k_is)
   (case ahZ=>k_is)
   (case acd=>k_is)
   (case am1=>k_is)
   (case am2=>k_is)
   (case aot=>k_is)
   (case art=>k_is)
   (case asr=>k_is)
   (case aru=>k_is)
   (case am3=>k_is)
   (case Qj=>k_is)
   (case ap9=>k_is)
   (case aqa=>k_is)
   (case Ny=>k_is)
   (case Yl=>k_is)
   (case afo=>k_is)
   (case Ym=>k_is)
   (case Nz=>k_is)
   (case ah0=>k_is)
   (case Yn=>k_is)
   (case ah1=>k_is)
   (case aqb=>k_is)
   (case arv=>k_is)
   (case aqc=>k_is)
   (case aqd=>k_is)
   (case ace=>k_is)
   (case ah2=>k_is)
   (case ah3=>k_is)
   (case afp=>k_is)
   (case akP=>k_is)
   (case aqe=>k_is)
   (case aqf=>k_is)
   (case aqg=>k_is)
   (case akQ=>k_is)
   (case nlen=>k_is)
   (case nsorted=>k_is)
   (case nlist=>k_is)
   (case ntuple=>k_is)
   (case nmax=>k_is)
   (case nall=>k_is)
   (case afq=>k_is)
   (case nord=>k_is)
   (case nstr=>k_is)
  obtain⟨a,T⟩:=T;cases (hmg.symm.trans T.Zb);exact⟨a.sS,KB.aqs T,fun base _ _=>KB.ain T⟩
 case S=>
  intro K H xs a hO hwi hask hx;cases hx with
  |cons h1 h2=>
   cases h2;cases h1 with
   |lst hs ha=>
    have e:=L2.aiL a.1 _ ha;subst e;exact⟨_,a.1,rfl,hs,hask,fun H' p hp=>.lst (L2.cJ.of hp) (L2.aiK _)⟩
