import PyProof.Rows.All
import Wide.All
import OpenK.AllK
import Wide.FinOn
import PyProof.EqAt
import PyProof.EqKinds
import PyProof.TupleCall
import KE.BitLaws
import Open.SpecLaws
import KE.OsHead
import KE.OsGo
import KE.KSortTupG
import KE.KSetInts
import PyProof.RaisesMany
import PyProof.ExcInit
import PyProof.InstStoreFacts
import PyProof.ListRange
import PyProof.ExcAttrAll.Exception
import PyProof.InstLoad
import PyProof.RulesAs
import PySem.Challenge.RW_wheelwriters_s01_answers
set_option Elab.async false
set_option linter.all false
set_option maxRecDepth 100000
open List (all_cons all_eq_true all_map any_cons any_eq_true any_map append_assoc append_nil drop_eq_getElem_cons ext_getElem? filterMap_cons filter_congr filter_eq_self find?_cons flatMap_append flatMap_cons flatten_cons foldl_append forIn_nil getD_eq_getElem?_getD getElem?_append_left getElem?_append_right getElem?_drop getElem?_eq_getElem getElem?_eq_none getElem?_map getElem?_range getElem?_replicate getElem?_set_ne getElem?_set_self getElem_mem getElem_of_mem length_append length_cons length_drop length_eq_zero_iff length_filter_le length_map length_range length_range' length_replicate length_set length_singleton length_take length_zip lookup_cons map_append map_congr_left map_cons map_drop map_id map_map map_nil map_take mem_append mem_append_left mem_append_right mem_cons mem_cons_of_mem mem_cons_self mem_filter mem_flatMap mem_map mem_of_getElem? mem_of_mem_take mem_range mem_singleton nil_append nodup_cons nodup_nil not_mem_nil of_mem_zip pairwise_lt_range pairwise_map range_eq_range' range_succ replicate_succ size_toArray sum_cons take_add_one take_length take_of_length_le take_succ)
open PySem.W (Frag findIn keepIn fnOf isFn emptyDict instObj codeIn plainGet nsIn mg_of lookIn hasDictIn methodObj)
namespace L2
open PySem PySem.Spec PyProof.Rows
abbrev Key:=Sum Int Str
def Zb7:Key->Value->Bool
 |.inl k,v=>Value.isInt k v
 |.inr x,v=>Value.isStrOf x v
def Zn1(w:World):Key->Int
 |.inl k=>hashInt k
 |.inr x=>hashStr w x
def Je:∀{k:Key} {v:Value},Zb7 k v=true->(∃i t,k=Sum.inl i/\v=Value.int i t)\/(∃x t,k=Sum.inr x/\v=Value.str x t)
 |.inl i,v,h=>by
  obtain⟨t,e⟩:=Value.isInt_shape (k:=i) (v:=v) h;exact .inl ⟨i,t,rfl,e⟩
 |.inr x,v,h=>by
  obtain⟨t,e⟩:=Value.isStrOf_shape (x:=x) (v:=v) h;exact .inr ⟨x,t,rfl,e⟩
def ZgL(i:Int)(t:Tok):Zb7 (.inl i) (.int i t)=true:=by simp[Zb7,Value.isInt]
def Zhb(x:Str)(t:Tok):Zb7 (.inr x) (.str x t)=true:=by simp[Zb7,Value.isStrOf]
def Zlb(a b:Int):decide ((Sum.inl a:Key)=Sum.inl b)=(a==b):=by
 by_cases e:a=b
 ·subst e;simp
 ·have h:¬ (Sum.inl a:Key)=Sum.inl b:=λq=>e (Sum.inl.inj q)
  rw[decide_eq_false h];exact(beq_eq_false_iff_ne.mpr e).symm
def Zlv(a b:Str):decide ((Sum.inr a:Key)=Sum.inr b)=decide (a=b):=by
 by_cases e:a=b
 ·subst e;simp
 ·have h:¬ (Sum.inr a:Key)=Sum.inr b:=λq=>e (Sum.inr.inj q)
  rw[decide_eq_false h,decide_eq_false e]
def ZkY(a:Int)(b:Str):decide ((Sum.inl a:Key)=Sum.inr b)=false:=decide_eq_false (λq=>nomatch q)
def Zlr(a:Str)(b:Int):decide ((Sum.inr a:Key)=Sum.inl b)=false:=decide_eq_false (λq=>nomatch q)
def JF(prog:Program)(w:World):PySem.KeyKind prog w Key where
 is:=Zb7
 hash:=Zn1 w
 inj:=λv a b ha hb=>by
  rcases Je ha with⟨i,t,rfl,rfl⟩|⟨x,t,rfl,rfl⟩
  ·rcases Je hb with⟨j,u,rfl,e⟩|⟨y,u,rfl,e⟩
   ·injection e with e1 _;rw[e1]
   ·exact nomatch e
  ·rcases Je hb with⟨j,u,rfl,e⟩|⟨y,u,rfl,e⟩
   ·exact nomatch e
   ·injection e with e1 _;rw[e1]
 byValue:=λk v h=>by
  rcases Je h with⟨i,t,rfl,rfl⟩|⟨x,t,rfl,rfl⟩<;>rfl
 pyHash:=λhv h=>by
  rcases Je hv with⟨i,t,rfl,rfl⟩|⟨x,t,rfl,rfl⟩
  ·exact wpAny_pyHash_int h
  ·exact wpAny_pyHash_str h
 eqBool:=λhu hv h=>by
  rcases Je hu with⟨i,t,rfl,rfl⟩|⟨x,t,rfl,rfl⟩
  ·rcases Je hv with⟨j,u,rfl,rfl⟩|⟨y,u,rfl,rfl⟩
   ·rw[Zlb] at h;exact wpAny_eqBool_int h
   ·rw[ZkY] at h;exact SeqAt.EqAt.int_str i t y u _ _ _ _ h
  ·rcases Je hv with⟨j,u,rfl,rfl⟩|⟨y,u,rfl,rfl⟩
   ·rw[Zlr] at h;exact SeqAt.EqAt.str_int x t j u _ _ _ _ h
   ·rw[Zlv] at h;exact wpAny_eqBool_str h
 «strs»:=λk x t v h=>by
  rcases Je h with⟨i,u,rfl,e⟩|⟨y,u,rfl,e⟩
  ·exact nomatch e
  ·injection e with e1 _
   subst e1;cases v<;>rfl
def Zei(prog:Program)(w:World)(i:Int)(t:Tok):(JF prog w).is (.inl i) (.int i t)=true:=ZgL i t
def ZdF(prog:Program)(w:World)(x:Str)(t:Tok):(JF prog w).is (.inr x) (.str x t)=true:=Zhb x t
inductive V where
 |non|bl (b:Bool)|int (i:Int)|str (x:Str)|byt (b:Array UInt8)|flt (b:UInt64)|ref (a:Addr)|ty (n:String)
 deriving DecidableEq
def ZL:V->Value->Prop
 |.non,u=>u=Value.none
 |.bl b,u=>u=Value.bool b
 |.int i,u=>∃t,u=Value.int i t
 |.str x,u=>∃t,u=Value.str x t
 |.byt b,u=>∃t,u=Value.bytes b t
 |.flt b,u=>∃t,u=Value.float b t
 |.ref a,u=>u=Value.ref a
 |.ty n,u=>u=Value.type n
abbrev Zy:List V->List Value->Prop:=Paired ZL
theorem Zy.length{xs:List V}{us:List Value}(r:Zy xs us):xs.length=us.length:=Paired.length r
theorem Zy.get:∀{xs:List V} {us:List Value} {i:Nat} {x:V},Zy xs us->xs[i]? = some x->∃u,us[i]? = some u/\ZL x u
 |_,_,_,_,.nil,e=>by simp at e
 |_,_,0,_,.cons r _,e=>by simp at e;subst e;exact⟨_,rfl,r⟩
 |_,_,i+1,x,.cons _ t,e=>by
  obtain⟨u,h1,h2⟩:=Zy.get (i:=i) (x:=x) t (by simpa using e);exact⟨u,by simpa using h1,h2⟩
theorem Zy.set{x:V}{u:Value}(r:ZL x u):∀{xs:List V} {us:List Value} (i:Nat),Zy xs us->Zy (xs.set i x) (us.set i u)
 |_,_,_,.nil=>.nil
 |_,_,0,.cons _ t=>.cons r t
 |_,_,i+1,.cons q t=>.cons q (Zy.set r i t)
theorem Zy.append:∀{xs ys:List V} {us ws:List Value},Zy xs us->Zy ys ws->Zy (xs++ys) (us++ws)
 |_,_,_,_,.nil,s=>s
 |_,_,_,_,.cons r t,s=>.cons r (Zy.append t s)
theorem Zy.take:∀{xs:List V} {us:List Value} (n:Nat),Zy xs us->Zy (xs.take n) (us.take n)
 |_,_,0,_=>.nil
 |_,_,_+1,.nil=>.nil
 |_,_,n+1,.cons r t=>.cons r (Zy.take n t)
theorem Zy.drop:∀{xs:List V} {us:List Value} (n:Nat),Zy xs us->Zy (xs.drop n) (us.drop n)
 |_,_,0,r=>r
 |_,_,_+1,.nil=>.nil
 |_,_,n+1,.cons _ t=>Zy.drop n t
def Vl:Option V->Option Value->Prop
 |some v,some u=>ZL v u
 |none,none=>True
 |_,_=>False
def KV{κ:Type}:List (κ×V)->List (κ×Value)->Prop:=Paired λ(p:κ×V) (q:κ×Value)=>p.1=q.1/\ZL p.2 q.2
def kV:Key->V
 |.inl i=>.int i
 |.inr x=>.str x
inductive HO where
 |lst (xs:List V)
 |tup (xs:List V)
 |dK (kvs:List (Key×V))|dT (kvs:List (List Key×V))
 |set (S:Int->Bool) (n:Nat)
 |ins (C dx:Addr) (fs:List (Str×V))
 |own (x:Addr)
 |xd (fs:List (Str×V))
 |met (f x:Addr)
 |rng (lo hi:Int)
 |frz (o:Obj) (u:HO)
 |tbl (ps:Array Value)
 |ext (φ:Heap->Prop)
abbrev Hp:=Addr->Option HO
def upd(H:Hp)(a:Addr)(o:HO):Hp:=λb=>if b=a then some o else H b
def Zb{H:Hp}{a:Addr}{o:HO}:upd H a o a=some o:=by unfold upd;rw[if_pos rfl]
def Zj{H:Hp}{a b:Addr}{o:HO}(h:b≠a):upd H a o b=H b:=by unfold upd;rw[if_neg h]
def Jj{H:Hp}{a:Addr}{o u:HO}:upd (upd H a o) a u=upd H a u:=by
 funext b;unfold upd;split<;>rfl
def Zm3{H:Hp}{a b:Addr}{o u:HO}(h:H a=some o)(h':H b=some u)(d:o≠u):a≠b:=by
 intro e;subst e;rw[h] at h';exact d (Option.some.inj h')
def Zi{H:Hp}{a b:Addr}{o:HO}(h:H a=some o)(h':H b=none):a≠b:=by
 intro e;subst e;rw[h] at h';cases h'
section
variable(P:Program)(w:World)
def Jc(H:Hp)(h:Heap)(a:Addr):HO->Prop
 |.lst xs=>xs.length<=sizeLine/\∃(its:List Value) (n:Nat),Zy xs its/\h.get? a=some {cls:=.type "list",data:=.seq its.toArray n}
 |.tup xs=>xs.length<=sizeLine/\∃its:List Value,Zy xs its/\IsTup h a its.toArray
 |.dK kvs=>kvs.length<=sizeLine/\(a==sysModules)=false/\∃vs,KV kvs vs/\h.DictOf (JF P w) a vs
 |.dT kvs=>kvs.length<=sizeLine/\(a==sysModules)=false/\∃xs:List (List Key×Addr×Value),
   Paired (λ(p:List Key×V) (q:List Key×Addr×Value)=>p.1=q.1/\H q.2.1=some (.tup (p.1.map kV))/\ZL p.2 q.2.2) kvs xs /\
   ∃o es ep,h.get? a=some o/\o.ExactDict/\o.data = .dict es ep/\es.toList=xs.map (entryOfKey (tupleKind (JF P w)))/\(xs.map (·.1)).Nodup
 |.set S n=>h.SetOf (intKind P w) a S n
 |.ins C dx fs=>H dx=some (.own a)/\fs.length<=1000/\dx≠a/\h.get? a=some (instObj C dx) /\
   ∃mA,h.Ns1 dx mA/\(∀f,Vl (fs.lookup f) (mA f))/\PySem.Within mA (fs.map (·.1))
 |.own _=>∃o,h.get? a=some o
 |.xd fs=>∃mA,h.Ns1 a mA/\∀f,Vl (fs.lookup f) (mA f)
 |.rng lo hi=>∃t u v,h.get? a=some {cls:=.type "range",data:=.fields #[.int lo t,.int hi u,.int 1 v]}
 |.frz o u=>h.get? a=some o/\Jc H h a u
 |.tbl ps=>h.get? a=some {cls:=.none,data:=.fields ps}
 |.met f x=>h.get? a=some (methodObj (.ref f) (.ref x))
 |.ext φ=>φ h/\(∃o,h.get? a=some o)/\∀h1 h2:Heap,φ h1->(∀o,h1.get? a=some o->h2.get? a=some o)->φ h2
def HOk(H:Hp)(h:Heap):Prop:=∀a o,H a=some o->Jc P w H h a o
end
section
variable{P:Program}{w:World}{H H':Hp}{h h':Heap}{a:Addr}{o:HO}
theorem Jc.lt(x:Jc P w H h a o):a<h.objs.size:=by
 cases o with
 |lst xs=>obtain⟨_,_,_,_,e⟩:=x;exact Heap.lt_size e
 |tup xs=>obtain⟨_,_,_,p⟩:=x;exact p.lt
 |dK kvs=>obtain⟨_,_,_,_,o,_,_,e,_⟩:=x;exact Heap.lt_size e
 |dT kvs=>obtain⟨_,_,_,_,o,_,_,e,_⟩:=x;exact Heap.lt_size e
 |set S n=>obtain⟨o,_,_,_,e,_⟩:=x;exact Heap.lt_size e
 |ins C dx fs=>obtain⟨_,_,_,e,_⟩:=x;exact Heap.lt_size e
 |own y=>obtain⟨_,e⟩:=x;exact Heap.lt_size e
 |xd fs=>obtain⟨_,⟨_,_,_,e,_⟩,_⟩:=x;exact Heap.lt_size e
 |rng lo hi=>obtain⟨_,_,_,e⟩:=x;exact Heap.lt_size e
 |frz ob u=>obtain⟨e,_⟩:=x;exact Heap.lt_size e
 |tbl ps=>exact Heap.lt_size (show h.get? a=some _ from x)
 |met f y=>exact Heap.lt_size (show h.get? a=some _ from x)
 |ext φ=>obtain⟨_,⟨_,e⟩,_⟩:=x;exact Heap.lt_size e
theorem Paired.mapP{α β:Type}{F G:α->β->Prop}:∀{l₁:List α} {l₂:List β},Paired F l₁ l₂->(∀a b,F a b->G a b)->Paired G l₁ l₂
 |_,_,.nil,_=>.nil
 |_,_,.cons r t,f=>.cons (f _ _ r) (Paired.mapP t f)
def Jc.stay(x:Jc P w H h a o)(k:∀b u,(b=a\/H b=some (.own a))->h.get? b=some u->h'.get? b=some u)
  (ho:∀b,H b=some (.own a)->H' b=some (.own a)) (ht:∀b xs,H b=some (.tup xs)->H' b=some (.tup xs)):Jc P w H' h' a o:=by
 induction o with
 |lst xs=>obtain⟨z,its,n,r,e⟩:=x;exact⟨z,its,n,r,k _ _ (.inl rfl) e⟩
 |tup xs=>obtain⟨z,its,r,ob,e,c⟩:=x;exact⟨z,its,r,ob,k _ _ (.inl rfl) e,c⟩
 |dK kvs=>obtain⟨z,y,vs,r,ob,es,ep,e,c⟩:=x;exact⟨z,y,vs,r,ob,es,ep,k _ _ (.inl rfl) e,c⟩
 |dT kvs=>
  obtain⟨z,y,xs,r,ob,es,ep,e,c⟩:=x;exact⟨z,y,xs,Paired.mapP r λp q z=>⟨z.1,ht _ _ z.2.1,z.2.2⟩,ob,es,ep,k _ _ (.inl rfl) e,c⟩
 |set S n=>obtain⟨ob,es,ep,t,e,c⟩:=x;exact⟨ob,es,ep,t,k _ _ (.inl rfl) e,c⟩
 |ins C dx fs=>
  obtain⟨d,z,ne,e,mA,⟨od,es,ep,e2,c⟩,r⟩:=x;exact⟨ho _ d,z,ne,k _ _ (.inl rfl) e,mA,⟨od,es,ep,k _ _ (.inr d) e2,c⟩,r⟩
 |own y=>obtain⟨ob,e⟩:=x;exact⟨ob,k _ _ (.inl rfl) e⟩
 |xd fs=>obtain⟨mA,⟨od,es,ep,e,c⟩,r⟩:=x;exact⟨mA,⟨od,es,ep,k _ _ (.inl rfl) e,c⟩,r⟩
 |rng lo hi=>obtain⟨t,u,v,e⟩:=x;exact⟨t,u,v,k _ _ (.inl rfl) e⟩
 |frz ob u ih=>obtain⟨e,q⟩:=x;exact⟨k _ _ (.inl rfl) e,ih q⟩
 |tbl ps=>
  have e:h.get? a=some {cls:=.none,data:=.fields ps}:=x;show h'.get? a=some {cls:=.none,data:=.fields ps};exact k a _ (.inl rfl) e
 |met f y=>
  have e:h.get? a=some (methodObj (.ref f) (.ref y)):=x;show h'.get? a=some (methodObj (.ref f) (.ref y));exact k a _ (.inl rfl) e
 |ext φ=>obtain⟨p,⟨o,e⟩,st⟩:=x;exact⟨st _ _ p λo q=>k _ _ (.inl rfl) q,⟨o,k _ _ (.inl rfl) e⟩,st⟩
theorem HOk.lt(x:HOk P w H h)(e:H a=some o):a<h.objs.size:=(x a o e).lt
def HOk.fresh(x:HOk P w H h)(e:h.objs.size<=a):H a=none:=by
 cases q:H a with
 |none=>rfl
 |some u=>exact absurd (Nat.lt_of_lt_of_le (x.lt q) e) (Nat.lt_irrefl _)
def HOk.kept(x:HOk P w H h)(k:∀b u,h.get? b=some u->h'.get? b=some u):HOk P w H h':=λa o e=>
 (x a o e).stay (λb u _ q=>k b u q) (λ_ q=>q) λ_ _ q=>q
def HOk.laid(x:HOk P w H h)(k:∀b u,h.get? b=some u->h'.get? b=some u)(hp:h.objs.size<=a)(new:Jc P w (upd H a o) h' a o):HOk P w (upd H a o) h':=λb u e=>by
 have hn:=x.fresh hp;by_cases hb:b=a
 ·subst hb;rw[Zb] at e;cases e;exact new
 ·rw[Zj hb] at e
  exact(x b u e).stay (λc v _ q=>k c v q) (λc q=>by rw[Zj (Zi q hn)];exact q) λc _ q=>by rw[Zj (Zi q hn)];exact q
end
def Rd(H:Hp)(a:Addr)(u:HO):Prop:=H a=some u\/∃o,H a=some (.frz o u)
def Rd.ok{P:Program}{w:World}{H:Hp}{h:Heap}{a:Addr}{u:HO}(r:Rd H a u)(x:HOk P w H h):Jc P w H h a u:=by
 rcases r with r|⟨o,r⟩
 ·exact x a u r
 ·obtain⟨_,q⟩:=x a _ r
  exact q
def Mut:Option HO->Prop
 |some (.lst _)=>True
 |some (.dK _)=>True
 |some (.dT _)=>True
 |some (.set _ _)=>True
 |some (.ins _ _ _)=>True
 |some (.ext _)=>True
 |_=>False
section
variable{P:Program}{w:World}{H:Hp}{h h':Heap}{x e:Addr}{o':HO}
def HOk.write(ok:HOk P w H h)(mu:Mut (H x))(he:e=x\/H e=some (.own x))(k:∀b u,b≠e->h.get? b=some u->h'.get? b=some u)(heo:∃u,h'.get? e=some u)
  (new:Jc P w (upd H x o') h' x o'):HOk P w (upd H x o') h':=λb u q=>by
 have nown:∀c y,H c=some (.own y)->c≠x:=λc y r z=>by subst z;rw[r] at mu;exact mu
 have ntup:∀c xs,H c=some (.tup xs)->c≠x:=λc xs r z=>by subst z;rw[r] at mu;exact mu
 by_cases hb:b=x
 ·subst hb;rw[Zb] at q;cases q;exact new
 ·rw[Zj hb] at q
  by_cases hbe:b=e
  ·have q':H b=some (.own x):=by
    rcases he with z|z
    ·exact absurd (hbe.trans z) hb
    ·rw[hbe];exact z
   rw[q] at q';cases q';obtain⟨v,hv⟩:=heo;exact⟨v,by rw[hbe];exact hv⟩
  ·refine(ok b u q).stay (λc v hc r=>k c v ?_ r) (λc r=>by rw[Zj (nown c b r)];exact r) λc xs r=>by rw[Zj (ntup c xs r)];exact r
   rcases hc with rfl|hc
   ·exact hbe
   ·rintro rfl
    rcases he with z|z
    ·exact nown c b hc z
    ·rw[hc] at z;cases z;exact hb rfl
end
structure Un(fs ex:List Addr)(H H':Hp)(h h':Heap):Prop where
 keep:∀b o,h.get? b=some o->H b=none->b∉fs->b∉ex->h'.get? b=some o
 slot:∀b o,h.get? b=some o->H b=none->b∈fs->b∉ex->∃sl,h'.get? b=some {o with slots:=sl}
 free:∀b o,h.get? b=some o->H b=none->b∉ex->H' b=none
 there:∀b o,h.get? b=some o->b∉ex->∃o',h'.get? b=some o'
 tups:∀b xs,H b=some (.tup xs)->H' b=some (.tup xs)
 frzs:∀b o u,H b=some (.frz o u)->H' b=some (.frz o u)
 tbls:∀b ps,H b=some (.tbl ps)->∃more,H' b=some (.tbl (ps++more))
section
variable{fs fs' ex ex':List Addr}{H H1 H2:Hp}{h h1 h2 h':Heap}{a x e:Addr}{o:HO}
def Un.any(u:Un fs ex H H1 h h1){b:Addr}{ob:Obj}(q:h.get? b=some ob)(n:H b=none)(hx:b∉ex):∃sl,h1.get? b=some {ob with slots:=sl}:=by
 by_cases hb:b∈fs
 ·exact u.slot b ob q n hb hx
 ·exact⟨ob.slots,u.keep b ob q n hb hx⟩
def Un.trans(a:Un fs ex H H1 h h1)(b:Un fs ex H1 H2 h1 h2):Un fs ex H H2 h h2 where
 keep:=λc ob q n hc hx=>b.keep c ob (a.keep c ob q n hc hx) (a.free c ob q n hx) hc hx
 slot:=λc ob q n hc hx=>by
  obtain⟨sl,e1⟩:=a.slot c ob q n hc hx;obtain⟨sl',e2⟩:=b.slot c _ e1 (a.free c ob q n hx) hc hx;exact⟨sl',e2⟩
 free:=λc ob q n hx=>by
  obtain⟨o',e1⟩:=a.there c ob q hx;exact b.free c o' e1 (a.free c ob q n hx) hx
 there:=λc ob q hx=>by
  obtain⟨o',e1⟩:=a.there c ob q hx;exact b.there c o' e1 hx
 tups:=λc xs q=>b.tups c xs (a.tups c xs q)
 frzs:=λc ob xs q=>b.frzs c ob xs (a.frzs c ob xs q)
 tbls:=λc ps q=>by
  obtain⟨m1,e1⟩:=a.tbls c ps q;obtain⟨m2,e2⟩:=b.tbls c _ e1;exact⟨m1++m2,by rw[e2,Array.append_assoc]⟩
def Un.kept(k:∀b u,h.get? b=some u->h'.get? b=some u):Un fs ex H H h h':=
 ⟨λb ob q _ _ _=>k b ob q,λb ob q _ _ _=>⟨ob.slots,k b ob q⟩,λ_ _ _ n _=>n,λb ob q _=>⟨ob,k b ob q⟩,λ_ _ q=>q,λ_ _ _ q=>q,λ_ _ q=>⟨#[],by rw[q];simp⟩⟩
def Un.refl:Un fs ex H H h h:=Un.kept λ_ _ q=>q
def Un.laid(k:∀b u,h.get? b=some u->h'.get? b=some u)(hp:h.objs.size<=a)(hn:H a=none):Un fs ex H (upd H a o) h h' where
 keep:=λb u q _ _ _=>k b u q
 slot:=λb u q _ _ _=>⟨u.slots,k b u q⟩
 free:=λb u q n _=>by rw[Zj (Nat.ne_of_lt (Nat.lt_of_lt_of_le (Heap.lt_size q) hp))];exact n
 there:=λb u q _=>⟨u,k b u q⟩
 tups:=λb xs q=>by rw[Zj (Zi q hn)];exact q
 frzs:=λb u xs q=>by rw[Zj (Zi q hn)];exact q
 tbls:=λb _ q=>⟨#[],by rw[Zj (Zi q hn),q];simp⟩
def Un.write(mu:Mut (H x))(he:e=x\/H e=some (.own x))(k:∀b u,b≠e->h.get? b=some u->h'.get? b=some u)(heo:∃u,h'.get? e=some u):Un fs ex H (upd H x o) h h':=by
 have hx:∀b,H b=none->b≠x:=λb n z=>by subst z;rw[n] at mu;exact mu
 have hb:∀b,H b=none->b≠e:=λb n z=>by
  subst z;rcases he with r|r
  ·exact hx b n r
  ·rw[n] at r;cases r
 have hm:∀b u,H b=some u->¬ Mut (some u)->b≠x:=λb u q nm z=>by subst z;rw[q] at mu;exact nm mu
 refine⟨λb u q n _ _=>k b u (hb b n) q,λb u q n _ _=>⟨u.slots,k b u (hb b n) q⟩,λb u q n _=>by rw[Zj (hx b n)];exact n,λb u q _=>?_,
  λb xs q=>by rw[Zj (hm b _ q λz=>z)];exact q,λb u xs q=>by rw[Zj (hm b _ q λz=>z)];exact q,λb _ q=>⟨#[],by rw[Zj (hm b _ q λz=>z),q];simp⟩⟩;by_cases hbe:b=e
 ·subst hbe;exact heo
 ·exact⟨u,k b u hbe q⟩
end
def trk(h:Heap)(H:Hp):List Addr:=(List.range h.objs.size).filter λa=>(H a).isSome
def De(h:Heap)(H:Hp):Heap:=PySem.W.hideAll h (trk h H)
def ZbH(h:Heap)(H:Hp):(De h H).objs.size=h.objs.size:=PySem.W.hideAll_size _ _
def Zeg{h:Heap}{H:Hp}{b:Addr}{o:Obj}(e:h.get? b=some o)(n:H b=none):(De h H).get? b=some o:=
 PySem.W.hideAll_get _ e λhm=>by
  have q:(H b).isSome=true:=(mem_filter.mp hm).2;rw[n] at q;simp at q
def Zfy{h:Heap}{H:Hp}{b:Addr}{o:Obj}(e:(De h H).get? b=some o):h.get? b=some o/\H b=none:=by
 have e':h.get? b=some o:=PySem.W.of_hideAll (trk h H) e;refine⟨e',?_⟩;cases q:H b with
 |none=>rfl
 |some x=>
  have hm:b∈trk h H:=mem_filter.mpr ⟨mem_range.mpr (Heap.lt_size e'),by simp[q]⟩;have z:(De h H).get? b=none:=PySem.W.hideAll_none (trk h H) hm;rw[z] at e;cases e
def allNews(g h:Heap)(L:Addr):List (Addr×Obj):=(List.range h.objs.size).filterMap λa=>if a=L\/(g.get? a).isSome=true then none else (h.get? a).map λo=>(a,o)
def rest(g h:Heap)(L d:Addr):List (Addr×Obj):=(allNews g h L).filter λp=>decide (p.1≠d)
structure Mod(K:Frag)(mg:Str->Option Value)(base:Heap):Prop where
 kin:K.In base
 glob:base.Ns mainGlobals mg
 blt:∃mb,base.Ns builtinsNs mb/\∀x:Str,x ≠ "__name__" -> mb x=bootBuiltins x
 nolimit:base.NoLimit
structure Cx where
 prog:Program
 w:World
 K:Frag
 mg:Str->Option Value
 base:Heap
 A:Around
 N:List Str
 s_0:Shared
 H_0:Hp
 env:Env
 outer:List Env
 stack:List Env
 ex:List Addr
 fn:Str->Bool
 calm:Bool
 pn:List (Addr×Obj)
 xe:Value->Shared->Prop
def frs(l:List Env):List Addr:=l.filterMap (·.frame)
abbrev Cx.fs(X:Cx):List Addr:=frs X.outer
def Vis(sc:Scope)(x:Str):Prop:=sc.names.lookup x=some .local\/sc.names.lookup x=some .cell\/sc.names.lookup x=some .free
def Loc(sc:Scope)(x:Str):Prop:=sc.names.lookup x=some .local\/sc.names.lookup x=some .cell
def Zor(env:Env)(h:Heap)(m:Str->Option Value)(x:Str)(u:Value):Prop:=
 (env.kindOf x=some .local/\m x=some u)\/((env.kindOf x=some .cell\/env.kindOf x=some .free)/\∃c,env.cells.lookup x=some c/\h.IsCell c (some u))
structure Cx.Ok(X:Cx):Prop where
 mod:Mod X.K X.mg X.base
 kind:X.env.scope.kind = .function
 glob:X.env.globals=mainGlobals
 blt:X.env.builtins=builtinsNs
 above:X.s_0.heap.objs.size<=X.env.locals
 inj:∀x y c,X.env.cells.lookup x=some c->X.env.cells.lookup y=some c->x=y
 has:∀x,(X.env.kindOf x=some .cell\/X.env.kindOf x=some .free)->∃c,X.env.cells.lookup x=some c
 cab:∀x c,X.fn x=true->X.env.cells.lookup x=some c->X.s_0.heap.objs.size<=c
 hd:X.calm=true->X.A.handled=none
 frames:X.A.frames=some X.stack
 stk:X.stack=X.outer\/(X.stack=X.env::X.outer/\X.env.frame=some X.env.locals)
 exf:∀b∈X.ex,b≠X.env.locals/\∀x c,X.env.cells.lookup x=some c->c≠b
 bs:∀b o,X.base.get? b=some o->X.s_0.heap.get? b=some o/\X.H_0 b=none
 bsz:X.base.objs.size<=X.s_0.heap.objs.size
 noex:∀b o,X.base.get? b=some o->b∉X.ex
 exfs:∀b∈X.ex,b∉X.fs
 funs:X.s_0.heap.FunFrames X.base X.outer
 frf:∀b∈X.fs,X.H_0 b=none
structure Inv(X:Cx)(pins:List (Addr×Obj))(σ:List (Option V))(H:Hp)(s:Shared):Prop where
 ok:X.Ok
 os:s.os=X.s_0.os
 bare:AllBare s.gens
 base:Un X.fs X.ex X.H_0 H X.s_0.heap s.heap
 loc:∃m,s.heap.Ns X.env.locals m/\∀(i:Nat) (x:Str) (v:V),X.N[i]? = some x->σ[i]? = some (some v)->Vis X.env.scope x->∃u,ZL v u/\Zor X.env s.heap m x u
 cell:∀x c,X.env.cells.lookup x=some c->∃v,s.heap.IsCell c v
 free:H X.env.locals=none
 freeC:∀x c,X.env.cells.lookup x=some c->H c=none
 pin:∀p∈X.pn++pins,s.heap.get? p.1=some p.2/\H p.1=none/\p.1≠X.env.locals/\p.1∉X.fs/\∀v,p.2.data ≠ .cell v
 hok:HOk X.prog X.w H s.heap
 len:σ.length=X.N.length
section
variable{X:Cx}{pins:List (Addr×Obj)}{σ:List (Option V)}{H H':Hp}{s:Shared}{h':Heap}
def Cx.Ok.nofr(ok:X.Ok){b:Addr}{o:Obj}(e:X.base.get? b=some o):b∉X.fs:=λhb=>by
 have:=(ok.funs.mem hb).1;rw[e] at this;cases this
theorem Inv.bs(I:Inv X pins σ H s):∀b o,X.base.get? b=some o->s.heap.get? b=some o/\H b=none:=λb o e=>
 ⟨I.base.keep b o (I.ok.bs b o e).1 (I.ok.bs b o e).2 (I.ok.nofr e) (I.ok.noex b o e),I.base.free b o (I.ok.bs b o e).1 (I.ok.bs b o e).2 (I.ok.noex b o e)⟩
def Inv.bk(I:Inv X pins σ H s):∀b o,X.base.get? b=some o->s.heap.get? b=some o:=λb o e=>(I.bs b o e).1
theorem Inv.mod(I:Inv X pins σ H s):Mod X.K X.mg X.base:=I.ok.mod
def Inv.kIn(I:Inv X pins σ H s):X.K.In s.heap:=I.ok.mod.kin.keeps I.bk
def Inv.fr(I:Inv X pins σ H s):∃m,Fr X.base X.env.locals s.heap m:=
 let ⟨m,hn,_⟩:=I.loc
 ⟨m,hn,I.bk,Nat.le_trans I.ok.bsz I.ok.above⟩
theorem Inv.lt(I:Inv X pins σ H s):X.env.locals<s.heap.objs.size:=let ⟨_,hn,_⟩:=I.loc;hn.lt
def Inv.sz(I:Inv X pins σ H s):X.s_0.heap.objs.size<=s.heap.objs.size:=Nat.le_trans I.ok.above (Nat.le_of_lt I.lt)
def Inv.nofs(I:Inv X pins σ H s){a:Addr}(h:s.heap.objs.size<=a):a∉X.fs:=λhb=>by
 obtain⟨_,o,ho,_⟩:=I.ok.funs.mem hb;exact absurd (Nat.lt_of_lt_of_le (Heap.lt_size ho) (Nat.le_trans I.sz h)) (Nat.lt_irrefl _)
def Inv.cne(I:Inv X pins σ H s):∀x c,X.env.cells.lookup x=some c->c≠X.env.locals:=λx c e z=>by
 obtain⟨v,o,ho,hd⟩:=I.cell x c e;obtain⟨m,⟨o',es,ep,ho',hd',_⟩,_⟩:=I.loc;rw[z,ho'] at ho;cases ho;rw[hd'] at hd;cases hd
theorem Inv.funs(I:Inv X pins σ H s):s.heap.FunFrames X.base X.outer:=by
 have all:∀(l:List Env),(∀b∈frs l,b∈X.fs)->X.s_0.heap.FunFrames X.base l->s.heap.FunFrames X.base l:=by
  intro l;induction l with
  |nil=>intro _ _;trivial
  |cons env r ih=>
   intro hs hl;obtain⟨hk,⟨L,o,hf,hn,ho,hd⟩,hr⟩:=hl;have hL:L∈X.fs:=hs L (by unfold frs;rw[filterMap_cons,hf];exact mem_cons_self);obtain⟨sl,e⟩:=I.base.slot L o ho (I.ok.frf L hL) hL λz=>I.ok.exfs L z hL;exact⟨hk,⟨L,_,hf,hn,e,hd⟩,ih (λb hb=>hs b (by unfold frs;rw[filterMap_cons,hf];exact mem_cons_of_mem _ hb)) hr⟩
 exact all X.outer (λ_ hb=>hb) I.ok.funs
theorem Inv.stack(I:Inv X pins σ H s):s.heap.FunFrames X.base X.stack:=by
 rcases I.ok.stk with e|⟨e,hf⟩
 ·rw[e];exact I.funs
 ·rw[e]
  obtain⟨m,hn,_⟩:=I.loc;refine .cons (by rw[I.ok.kind];decide) hf hn ?_ I.funs;exact Heap.get?_none_of_le (Nat.le_trans I.ok.bsz I.ok.above)
def Inv.stkSub(I:Inv X pins σ H s):∀b∈frs X.stack,b∈X.env.locals::X.fs:=λb hb=>by
 rcases I.ok.stk with e|⟨e,hf⟩
 ·rw[e] at hb;exact mem_cons_of_mem _ hb
 ·rw[e] at hb
  unfold frs at hb;rw[filterMap_cons,hf] at hb;exact hb
def Inv.stkFree(I:Inv X pins σ H s):∀b∈frs X.stack,H b=none:=λb hb=>by
 rcases mem_cons.mp (I.stkSub b hb) with e|hb
 ·rw[e];exact I.free
 ·obtain⟨_,o,ho,_⟩:=I.ok.funs.mem hb
  exact I.base.free b o ho (I.ok.frf b hb) λz=>I.ok.exfs b z hb
def Inv.step{g':Array GenState}{t':Nat}{d':Drawn}{ch:List Addr}(I:Inv X pins σ H s)
  (hch:∀b∈ch,(b∈X.ex\/X.s_0.heap.objs.size<=b)/\b≠X.env.locals/\(∀x c,X.env.cells.lookup x=some c->c≠b)/\∀p∈X.pn++pins,p.1≠b)
  (keep:∀b o,b≠X.env.locals->b∉X.fs->b∉ch->s.heap.get? b=some o->H b=none->h'.get? b=some o)
  (slot:∀b o,b≠X.env.locals->b∈X.fs->b∉ch->s.heap.get? b=some o->H b=none->∃sl,h'.get? b=some {o with slots:=sl}) (free:∀b o,b∉ch->s.heap.get? b=some o->H b=none->H' b=none)
  (there:∀b o,b∉ch->s.heap.get? b=some o->∃o',h'.get? b=some o')
  (tups:∀b xs,H b=some (.tup xs)->H' b=some (.tup xs)) (frzs:∀b o u,H b=some (.frz o u)->H' b=some (.frz o u)) (tbls:∀b ps,H b=some (.tbl ps)->∃more,H' b=some (.tbl (ps++more)))
  (ns:∀m,s.heap.Ns X.env.locals m->h'.Ns X.env.locals m) (hok:HOk X.prog X.w H' h') (hg:AllBare g') :
  Inv X pins σ H' {s with heap:=h',gens:=g',drawn:=d',toks:=t'}:=by
 have neL:∀b o,X.s_0.heap.get? b=some o->b≠X.env.locals:=λb o e=>Nat.ne_of_lt (Nat.lt_of_lt_of_le (Heap.lt_size e) I.ok.above);have neC:∀b o,X.s_0.heap.get? b=some o->b∉X.ex->b∉ch:=λb o e hx hb=>by
  rcases(hch b hb).1 with z|z
  ·exact hx z
  ·exact absurd (Nat.lt_of_lt_of_le (Heap.lt_size e) z) (Nat.lt_irrefl _)
 have cellK:∀x c,X.env.cells.lookup x=some c->∀v,s.heap.IsCell c v->h'.IsCell c v:=λx c e v ⟨o,ho,hd⟩=>by
  have nch:c∉ch:=λz=>(hch c z).2.2.1 x c e rfl;by_cases hc:c∈X.fs
  ·obtain⟨sl,q⟩:=slot c o (I.cne x c e) hc nch ho (I.freeC x c e)
   exact⟨_,q,hd⟩
  ·exact⟨o,keep c o (I.cne x c e) hc nch ho (I.freeC x c e),hd⟩
 refine⟨I.ok,I.os,hg,⟨λb o e n hb hx=>?_,λb o e n hb hx=>?_,λb o e n hx=>?_,λb o e hx=>?_,λb xs e=>tups b xs (I.base.tups b xs e),λb o xs e=>frzs b o xs (I.base.frzs b o xs e),λb ps e=>?_⟩,?_,λx c e=>?_,?_,λx c e=>?_,λp hp=>?_,hok,I.len⟩
 ·exact keep b o (neL b o e) hb (neC b o e hx) (I.base.keep b o e n hb hx) (I.base.free b o e n hx)
 ·obtain⟨sl,e1⟩:=I.base.slot b o e n hb hx
  obtain⟨sl',e2⟩:=slot b _ (neL b o e) hb (neC b o e hx) e1 (I.base.free b o e n hx);exact⟨sl',e2⟩
 ·obtain⟨o',e1⟩:=I.base.there b o e hx
  exact free b o' (neC b o e hx) e1 (I.base.free b o e n hx)
 ·obtain⟨o',e1⟩:=I.base.there b o e hx
  exact there b o' (neC b o e hx) e1
 ·obtain⟨m1,e1⟩:=I.base.tbls b ps e
  obtain⟨m2,e2⟩:=tbls b _ e1;exact⟨m1++m2,by rw[e2,Array.append_assoc]⟩
 ·obtain⟨m,hn,hl⟩:=I.loc
  refine⟨m,ns m hn,λi x v e1 e2 e3=>?_⟩;obtain⟨u,r,l⟩:=hl i x v e1 e2 e3;refine⟨u,r,?_⟩;rcases l with l|⟨k,c,e,z⟩
  ·exact .inl l
  ·exact .inr ⟨k,c,e,cellK x c e _ z⟩
 ·obtain⟨v,z⟩:=I.cell x c e
  exact⟨v,cellK x c e v z⟩
 ·obtain⟨m,⟨o,_,_,ho,_⟩,_⟩:=I.loc
  exact free _ o (λz=>(hch _ z).2.1 rfl) ho I.free
 ·obtain⟨v,o,ho,hd⟩:=I.cell x c e
  exact free c o (λz=>(hch c z).2.2.1 x c e rfl) ho (I.freeC x c e)
 ·obtain⟨e,n,ne,nf,d⟩:=I.pin p hp
  have nch:p.1∉ch:=λz=>(hch p.1 z).2.2.2 p hp rfl;exact⟨keep p.1 p.2 ne nf nch e n,free p.1 p.2 nch e n,ne,nf,d⟩
def Inv.un{t':Nat}(I:Inv X pins σ H s)(u:Un X.fs [] H H' s.heap h')(hok:HOk X.prog X.w H' h'):Inv X pins σ H' {s with heap:=h',toks:=t'}:=by
 obtain⟨m,⟨o,es,ep,ho,r⟩,_⟩:=id I.loc;obtain⟨sl,hL⟩:=u.any ho I.free (by simp);exact I.step (g':=s.gens) (d':=s.drawn) (ch:=[]) (λ_ z=>nomatch z) (λb o _ hb _ e n=>u.keep b o e n hb (by simp)) (λb o _ hb _ e n=>u.slot b o e n hb (by simp)) (λb o _ e n=>u.free b o e n (by simp)) (λb o _ e=>u.there b o e (by simp)) u.tups u.frzs u.tbls (λ_ hm=>by
  obtain⟨o',es',ep',ho',r'⟩:=hm;rw[ho] at ho';cases ho';exact⟨_,es',ep',hL,r'⟩) hok I.bare
def Inv.call{g':Array GenState}{t':Nat}{d':Drawn}{ch:List Addr}(I:Inv X pins σ H s)(u:Un (frs X.stack) ch H H' s.heap h')(hok:HOk X.prog X.w H' h')(hg:AllBare g')
  (hch:∀b∈ch,(b∈X.ex\/X.s_0.heap.objs.size<=b)/\b≠X.env.locals/\(∀x c,X.env.cells.lookup x=some c->c≠b)/\∀p∈X.pn++pins,p.1≠b) :
  Inv X pins σ H' {s with heap:=h',gens:=g',drawn:=d',toks:=t'}:=by
 obtain⟨m,⟨o,es,ep,ho,r⟩,_⟩:=id I.loc;obtain⟨sl,hL⟩:=u.any ho I.free λz=>(hch _ z).2.1 rfl;exact I.step (ch:=ch) hch (λb o hL hb hc e n=>u.keep b o e n (λz=>(mem_cons.mp (I.stkSub b z)).elim hL hb) hc) (λb o _ _ hc e n=>u.any e n hc) (λb o hc e n=>u.free b o e n hc) (λb o hc e=>u.there b o e hc) u.tups u.frzs u.tbls (λ_ hm=>by
  obtain⟨o',es',ep',ho',r'⟩:=hm;rw[ho] at ho';cases ho';exact⟨_,es',ep',hL,r'⟩) hok hg
def Inv.turned{t':Nat}{it:Addr}(I:Inv X pins σ H s)(k:∀b o,b≠it->s.heap.get? b=some o->h'.get? b=some o)(hn:H it=none)(hL:it≠X.env.locals)
  (h1:it∈X.ex\/X.s_0.heap.objs.size<=it) (h2:∀x c,X.env.cells.lookup x=some c->c≠it) (h3:∀p∈X.pn++pins,p.1≠it):Inv X pins σ H {s with heap:=h',toks:=t'}:=by
 have nit:∀b u,H b=some u->b≠it:=λb u e z=>by rw[z,hn] at e;cases e
 refine I.step (g':=s.gens) (d':=s.drawn) (ch:=[it]) (λb hb=>?_) (λb o _ _ hc e _=>k b o (λz=>hc (by simp[z])) e) (λb o _ _ hc e _=>⟨o.slots,k b o (λz=>hc (by simp[z])) e⟩) (λ_ _ _ _ n=>n)
  (λb o hc e=>⟨o,k b o (λz=>hc (by simp[z])) e⟩) (λ_ _ e=>e) (λ_ _ _ e=>e) (λb _ e=>⟨#[],by rw[e];simp⟩) (λm hm=>?_) (λb u e=>?_) I.bare
 ·have e:b=it:=by simpa using hb
  subst e;exact⟨h1,hL,h2,h3⟩
 ·obtain⟨o,es,ep,ho,r⟩:=hm
  exact⟨o,es,ep,k _ o (Ne.symm hL) ho,r⟩
 ·refine(I.hok b u e).stay (λc v hc q=>k c v ?_ q) (λ_ q=>q) λ_ _ q=>q
  rcases hc with z|z
  ·rw[z];exact nit b u e
  ·exact nit c _ z
def Inv.tok(I:Inv X pins σ H s)(t:Nat):Inv X pins σ H {s with toks:=t}:=I.un (h':=s.heap) (t':=t) Un.refl I.hok
theorem Inv.kept{t':Nat}(I:Inv X pins σ H s)(k:∀b u,s.heap.get? b=some u->h'.get? b=some u):Inv X pins σ H {s with heap:=h',toks:=t'}:=I.un (Un.kept k) (I.hok.kept k)
theorem Inv.laid{a:Addr}{o:HO}{t':Nat}(I:Inv X pins σ H s)(k:∀b u,s.heap.get? b=some u->h'.get? b=some u)(hp:s.heap.objs.size<=a)(new:Jc X.prog X.w (upd H a o) h' a o) :
  Inv X pins σ (upd H a o) {s with heap:=h',toks:=t'}:=I.un (Un.laid k hp (I.hok.fresh hp)) (I.hok.laid k hp new)
theorem Inv.write{x e:Addr}{o:HO}{t':Nat}(I:Inv X pins σ H s)(mu:Mut (H x))(he:e=x\/H e=some (.own x))(k:∀b u,b≠e->s.heap.get? b=some u->h'.get? b=some u)(heo:∃u,h'.get? e=some u)
  (new:Jc X.prog X.w (upd H x o) h' x o):Inv X pins σ (upd H x o) {s with heap:=h',toks:=t'}:=I.un (Un.write mu he k heo) (I.hok.write mu he k heo new)
def Inv.weak{σ':List (Option V)}(I:Inv X pins σ H s)(hl:σ'.length=σ.length)(w:∀(i:Nat) v,σ'[i]? = some (some v)->σ[i]? = some (some v)):Inv X pins σ' H s:=
 ⟨I.ok,I.os,I.bare,I.base,let ⟨m,hn,hl'⟩:=I.loc;⟨m,hn,λi x v e1 e2 e3=>hl' i x v e1 (w i v e2) e3⟩,I.cell,I.free,I.freeC,I.pin,I.hok,hl.trans I.len⟩
def Inv.pins_of{pins':List (Addr×Obj)}(I:Inv X pins σ H s)(h:∀p∈pins',s.heap.get? p.1=some p.2/\H p.1=none/\p.1≠X.env.locals/\p.1∉X.fs/\∀v,p.2.data ≠ .cell v):Inv X pins' σ H s:=
 ⟨I.ok,I.os,I.bare,I.base,I.loc,I.cell,I.free,I.freeC,λp hp=>(mem_append.mp hp).elim (λz=>I.pin p (mem_append_left _ z)) (h p),I.hok,I.len⟩
def ZaV{N:List Str}(hN:N.Nodup){i j:Nat}{x:Str}(a:N[i]? = some x)(b:N[j]? = some x):i=j:=by
 obtain⟨h1,e1⟩:=List.getElem?_eq_some_iff.mp a;obtain⟨h2,e2⟩:=List.getElem?_eq_some_iff.mp b;exact(List.getElem_inj hN).mp (e1.trans e2.symm)
def ZbS{M:Model}{A:Around}{E:Value->Shared->Prop}{i:Nat}{x:Str}{v:V}{u:Value}{Q:Unit->Shared->Prop}(I:Inv X pins σ H s)(hN:X.N.Nodup)(hi:X.N[i]? = some x)(hx:Loc X.env.scope x)(r:ZL v u)
  (h:∀s',Inv X pins (σ.set i (some v)) H s'->(∃a,Heap.SameBut a s.heap s'.heap/\(a=X.env.locals\/X.env.cells.lookup x=some a))->Q () s') (hf:X.fn x=true\/X.env.scope.names.lookup x=some .local:=by first|exact .inl rfl|exact .inr rfl|assumption):wpAny M A (storeName X.env x u) Q E s:=by
 obtain⟨m,hn,hl⟩:=id I.loc;have hcls:(X.env.scope.kind == .class||(X.env.scope.kind == .module&&X.env.locals != X.env.globals))=false:=by rw[I.ok.kind];rfl
 have hiσ:i<σ.length:=by rw[I.len];exact(List.getElem?_eq_some_iff.mp hi).1
 have cne:=I.cne;have tracked:∀{a:Addr} {h':Heap},(∃o,s.heap.get? a=some o/\H a=none)->Heap.SameBut a s.heap h'->HOk X.prog X.w H h':=λ{a h'} ha hs b ob e=>by
  obtain⟨_,_,hfree⟩:=ha;refine(I.hok b ob e).stay (λc w' hc q=>(hs.2 c ?_).trans q) (λ_ q=>q) λ_ _ q=>q;rintro rfl;rcases hc with rfl|hc
  ·rw[hfree] at e;cases e
  ·rw[hfree] at hc;cases hc
 rcases hx with hk|hk
 ·refine wpAny_storeName_local hk hn (λh' hn' hs=>?_) hcls
  obtain⟨oL,_,_,hoL,_⟩:=id hn;refine h _ ⟨I.ok,I.os,I.bare,⟨λb o e n hb hx=>?_,λb o e n hb hx=>?_,I.base.free,λb o e hx=>?_,I.base.tups,I.base.frzs,I.base.tbls⟩,⟨_,hn',λj y v' e1 e2 e3=>?_⟩,λy c e=>?_,I.free,I.freeC,λp hp=>?_,tracked ⟨oL,hoL,I.free⟩ hs,by simpa using I.len⟩ ⟨_,hs,.inl rfl⟩
  ·exact(hs.2 b (Nat.ne_of_lt (Nat.lt_of_lt_of_le (Heap.lt_size e) I.ok.above))).trans (I.base.keep b o e n hb hx)
  ·obtain⟨sl,e1⟩:=I.base.slot b o e n hb hx
   exact⟨sl,(hs.2 b (Nat.ne_of_lt (Nat.lt_of_lt_of_le (Heap.lt_size e) I.ok.above))).trans e1⟩
  ·obtain⟨o',e1⟩:=I.base.there b o e hx
   exact⟨o',(hs.2 b (Nat.ne_of_lt (Nat.lt_of_lt_of_le (Heap.lt_size e) I.ok.above))).trans e1⟩
  ·by_cases hj:j=i
   ·subst hj
    rw[hi] at e1;cases e1;rw[getElem?_set_self hiσ] at e2;cases e2;exact⟨u,r,.inl ⟨hk,by simp⟩⟩
   ·rw[getElem?_set_ne (Ne.symm hj)] at e2
    obtain⟨u',r',q⟩:=hl j y v' e1 e2 e3;refine⟨u',r',?_⟩;rcases q with⟨k,e⟩|⟨k,c,e,z⟩
    ·refine .inl ⟨k,?_⟩
     have:y≠x:=λe=>hj (ZaV hN e1 (e▸hi));simp[this,e]
    ·exact .inr ⟨k,c,e,z.sameBut hs (cne y c e)⟩
  ·obtain⟨w',z⟩:=I.cell y c e
   exact⟨w',z.sameBut hs (cne y c e)⟩
  ·obtain⟨e,n,ne,nf,d⟩:=I.pin p hp
   exact⟨(hs.2 p.1 ne).trans e,n,ne,nf,d⟩
 ·have hfn:X.fn x=true:=by
   rcases hf with z|z
   ·exact z
   ·rw[z] at hk;cases hk
  obtain⟨c,hc⟩:=I.ok.has x (.inl hk);obtain⟨w',z⟩:=I.cell x c hc;refine wpAny_storeName_cell I.ok.kind hk hc z (λh' hc' hs=>?_);obtain⟨oc,hoc,hocd⟩:=id z;refine h {s with heap:=h'} ⟨I.ok,I.os,I.bare,⟨λb o e n hb hx=>?_,λb o e n hb hx=>?_,I.base.free,λb o e hx=>?_,I.base.tups,I.base.frzs,I.base.tbls⟩,⟨m,hn.sameBut hs (Ne.symm (cne x c hc)),λj y v' e1 e2 e3=>?_⟩,λy c' e=>?_,I.free,I.freeC,λp hp=>?_,tracked ⟨oc,hoc,I.freeC x c hc⟩ hs,by simpa using I.len⟩ ⟨c,hs,.inr hc⟩
  ·exact(hs.2 b (Nat.ne_of_lt (Nat.lt_of_lt_of_le (Heap.lt_size e) (I.ok.cab x c hfn hc)))).trans (I.base.keep b o e n hb hx)
  ·obtain⟨sl,e1⟩:=I.base.slot b o e n hb hx
   exact⟨sl,(hs.2 b (Nat.ne_of_lt (Nat.lt_of_lt_of_le (Heap.lt_size e) (I.ok.cab x c hfn hc)))).trans e1⟩
  ·obtain⟨o',e1⟩:=I.base.there b o e hx
   exact⟨o',(hs.2 b (Nat.ne_of_lt (Nat.lt_of_lt_of_le (Heap.lt_size e) (I.ok.cab x c hfn hc)))).trans e1⟩
  ·by_cases hj:j=i
   ·subst hj
    rw[hi] at e1;cases e1;rw[getElem?_set_self hiσ] at e2;cases e2;exact⟨u,r,.inr ⟨.inl hk,c,hc,hc'⟩⟩
   ·rw[getElem?_set_ne (Ne.symm hj)] at e2
    obtain⟨u',r',q⟩:=hl j y v' e1 e2 e3;refine⟨u',r',?_⟩;rcases q with q|⟨k,c',e,z'⟩
    ·exact .inl q
    ·refine .inr ⟨k,c',e,z'.sameBut hs ?_⟩
     rintro rfl;exact hj (ZaV hN e1 (I.ok.inj _ _ _ e hc▸hi))
  ·by_cases hcc:c'=c
   ·subst hcc;exact⟨_,hc'⟩
   ·obtain⟨w2,z2⟩:=I.cell y c' e
    exact⟨w2,z2.sameBut hs hcc⟩
  ·obtain⟨e,n,ne,nf,d⟩:=I.pin p hp
   refine⟨(hs.2 p.1 ?_).trans e,n,ne,nf,d⟩;intro q;rw[q,hoc] at e;have q':oc=p.2:=Option.some.inj e;exact d w' (by rw[<- q'];exact hocd)
def U9{M:Model}{A:Around}{E:Value->Shared->Prop}{i:Nat}{x:Str}{v:V}{u:Value}{Q:Unit->Shared->Prop}(I:Inv X pins σ H s)(hN:X.N.Nodup)(hi:X.N[i]? = some x)(hx:Loc X.env.scope x)(r:ZL v u)
  (h:∀s',Inv X pins (σ.set i (some v)) H s'->Q () s') (hf:X.fn x=true\/X.env.scope.names.lookup x=some .local:=by first|exact .inl rfl|exact .inr rfl|assumption):wpAny M A (storeName X.env x u) Q E s:=
 ZbS I hN hi hx r (λs' I' _=>h s' I') hf
def Inv.call'{s':Shared}{ch:List Addr}(I:Inv X pins σ H s)(ho:s'.os=s.os)(u:Un (frs X.stack) ch H H' s.heap s'.heap)(hok:HOk X.prog X.w H' s'.heap)(hg:AllBare s'.gens)
  (hch:∀b∈ch,(b∈X.ex\/X.s_0.heap.objs.size<=b)/\b≠X.env.locals/\(∀x c,X.env.cells.lookup x=some c->c≠b)/\∀p∈X.pn++pins,p.1≠b):Inv X pins σ H' s':=by
 obtain⟨h',g',d',t',o'⟩:=s';have e:o'=s.os:=ho;subst e;exact I.call (g':=g') (t':=t') (d':=d') u hok hg hch
end
abbrev XK:=Value->Option Addr->Hp->Prop
abbrev St:=List (Option V)
abbrev VK:=V->Hp->Prop
abbrev TE:=St->Hp->VK->Prop
abbrev TT:=St->Hp->(Bool->Hp->Prop)->Prop
abbrev TA:=St->Hp->(List V->Hp->Prop)->Prop
structure Uo where
 nx:St->Hp->Prop
 rt:VK
 bk:St->Hp->Prop:=λ_ _=>False
 ct:St->Hp->Prop:=λ_ _=>False
abbrev TS:=Uo->St->Hp->Prop
inductive EP(X:Cx)(pins:List (Addr×Obj))(σ:St)(Q:VK)(u:Value)(s':Shared):Prop|mk v H':Inv X pins σ H' s'->ZL v u->Q v H'->EP X pins σ Q u s'
inductive TP(X:Cx)(pins:List (Addr×Obj))(σ:St)(Q:Bool->Hp->Prop)(b:Bool)(s':Shared):Prop|mk H':Inv X pins σ H' s'->Q b H'->TP X pins σ Q b s'
inductive AP(X:Cx)(pins:List (Addr×Obj))(σ:St)(Q:List V->Hp->Prop)(us:List Value)(s':Shared):Prop|mk vs H':Inv X pins σ H' s'->Zy vs us->Q vs H'->AP X pins σ Q us s'
def SP(X:Cx)(pins:List (Addr×Obj))(D:Uo)(f:Flow)(s':Shared):Prop:=
 match f with
 |.next=>∃σ' H',Inv X pins σ' H' s'/\D.nx σ' H'
 |.brk=>∃σ' H',Inv X pins σ' H' s'/\D.bk σ' H'
 |.cont=>∃σ' H',Inv X pins σ' H' s'/\D.ct σ' H'
 |.ret u=>∃v σ' H',Inv X pins σ' H' s'/\ZL v u/\D.rt v H'
def PE(X:Cx)(e:Expr)(t:TE):Prop:=
 ∀(pins:List (Addr×Obj)) (s:Shared) (σ:St) (H:Hp) (Q:VK),Inv X pins σ H s->t σ H Q->wpAny (model X.prog X.w) X.A (eval e X.env) (EP X pins σ Q) X.xe s
def PT(X:Cx)(e:Expr)(t:TT):Prop:=
 ∀(pins:List (Addr×Obj)) (s:Shared) (σ:St) (H:Hp) (Q:Bool->Hp->Prop),Inv X pins σ H s->t σ H Q->wpAny (model X.prog X.w) X.A (isTrue e X.env (eval e X.env)) (TP X pins σ Q) X.xe s
def PW(X:Cx)(e:Expr)(t:TT):Prop:=
 ∀(whole:Sem Value) (pins:List (Addr×Obj)) (s:Shared) (σ:St) (H:Hp) (Q:Bool->Hp->Prop),Inv X pins σ H s->t σ H Q->wpAny (model X.prog X.w) X.A (isTrue e X.env whole) (TP X pins σ Q) X.xe s
def PW.pt{X:Cx}{e:Expr}{t:TT}(h:PW X e t):PT X e t:=h _
def PA(X:Cx)(es:List Expr)(t:TA):Prop:=
 ∀(pos:Pos) (pins:List (Addr×Obj)) (s:Shared) (σ:St) (H:Hp) (Q:List V->Hp->Prop),Inv X pins σ H s->t σ H Q->wpAny (model X.prog X.w) X.A (spliced (backTo pos (starEach es X.env))) (AP X pins σ Q) X.xe s
def PS(X:Cx)(st:Stmt)(t:TS):Prop:=
 ∀(pins:List (Addr×Obj)) (s:Shared) (σ:St) (H:Hp) (D:Uo),Inv X pins σ H s->t D σ H->wpAny (model X.prog X.w) X.A (exec st X.env) (SP X pins D) X.xe s
def PSs(X:Cx)(st:List Stmt)(t:TS):Prop:=
 ∀(pins:List (Addr×Obj)) (s:Shared) (σ:St) (H:Hp) (D:Uo),Inv X pins σ H s->t D σ H->wpAny (model X.prog X.w) X.A (execs st X.env) (SP X pins D) X.xe s
def thn{α:Type}{t:Sem α}{Q Q':α->Shared->Prop}{M:Model}{A:Around}{E:Value->Shared->Prop}{s:Shared}(h:wpAny M A t Q E s)(hQ:∀a s,Q a s->Q' a s):wpAny M A t Q' E s:=wpAny_mono h hQ λ_ _ x=>x
section
variable{X:Cx}
def bin{a b:Expr}{ta tb:TE}(ha:PE X a ta)(hb:PE X b tb){pins:List (Addr×Obj)}{s:Shared}{σ:St}{H:Hp}{R:V->V->Hp->Prop}(I:Inv X pins σ H s)(h:ta σ H λx H1=>tb σ H1 λy H2=>R x y H2)
  {α:Type} {Q:α->Shared->Prop} {f:Value->Value->Sem α}
  (hf:∀v u s2 x y H2,Inv X pins σ H2 s2->ZL x v->ZL y u->R x y H2->wpAny (model X.prog X.w) X.A (f v u) Q X.xe s2) :
  wpAny (model X.prog X.w) X.A (eval a X.env) (λv s₁=>wpAny (model X.prog X.w) X.A (eval b X.env) (λu s₂=>wpAny (model X.prog X.w) X.A (f v u) Q X.xe s₂) X.xe s₁) X.xe s:=by
 refine thn (ha pins s σ H _ I h) λv s1 ⟨x,H1,I1,r1,q1⟩=>?_;refine thn (hb pins s1 σ H1 _ I1 q1) λu s2 ⟨y,H2,I2,r2,q2⟩=>?_;exact hf v u s2 x y H2 I2 r1 r2 q2
inductive V2(i:Nat):St->Hp->VK->Prop|mk {σ H Q} v:σ[i]? = some (some v)->Q v H->V2 i σ H Q
def tC(v:V):TE:=λ_ H Q=>Q v H
def ZlW{i:Nat}{x:Str}{pos:Pos}(hN:X.N[i]? = some x)(hv:Vis X.env.scope x)(hd:(x==("__debug__" : Str))=false:=by decide)(hcd:(x==("__classdict__" : Str))=false:=by decide):PE X (.Name x pos) (V2 i):=by
 intro pins s σ H Q I h;obtain⟨v,e,h⟩:=h;obtain⟨m,hn,hl⟩:=I.loc;obtain⟨u,r,l⟩:=hl i x v hN e hv;have fin:EP X pins σ Q u s:=⟨v,H,I,r,h⟩;rcases l with⟨hk,hm⟩|⟨hk,c,hc,hcell⟩
 ·exact wpAny_Name (wpAny_loadName_local I.ok.kind hk hn hm fin) hd
 ·rcases hk with hk|hk
  ·exact wpAny_Name (wpAny_loadName_cell I.ok.kind hk hc hcell fin) hd
  ·exact wpAny_Name (wpAny_loadName_free I.ok.kind hk hc hcell fin hcd) hd
def Zq{i j pos}:PE X (.Constant (.int i) j pos) (tC (.int i)):=λ_ _ _ H _ I h=>wpAny_Constant_int ⟨.int i,H,I.tok _,⟨_,rfl⟩,h⟩
def U2{b j pos}:PE X (.Constant (.bool b) j pos) (tC (.bl b)):=λ_ _ _ H _ I h=>Constant_bool ⟨.bl b,H,I,rfl,h⟩
def Zim{j pos}:PE X (.Constant .none j pos) (tC .non):=λ_ _ _ H _ I h=>Constant_none ⟨.non,H,I,rfl,h⟩
def Gl(X:Cx)(x:Str):Prop:=X.env.kindOf x=some .globalImplicit
def YZ{E:Value->Shared->Prop}{pins:List (Addr×Obj)}{s:Shared}{σ:St}{H:Hp}{x:Str}{u:Value}{pos:Pos}{Q:Value->Shared->Prop}(I:Inv X pins σ H s)(hg:Gl X x)(hm:X.mg x=some u)(h:Q u s)
  (hd:(x==("__debug__" : Str))=false:=by decide):wpAny (model X.prog X.w) X.A (eval (.Name x pos) X.env) Q E s:=
 Calls.Name_function_global I.ok.kind hg (Calls.loadGlobal_global (by rw[I.ok.glob];exact I.mod.glob.keeps I.bk) hm h) hd
def Y9{E:Value->Shared->Prop}{pins:List (Addr×Obj)}{s:Shared}{σ:St}{H:Hp}{x:Str}{u:Value}{pos:Pos}{Q:Value->Shared->Prop}(I:Inv X pins σ H s)(hg:Gl X x)(hm:X.mg x=none)(hv:bootBuiltins x=some u)(h:Q u s)
  (hn:x ≠ "__name__" := by decide) (hd:(x==("__debug__" : Str))=false:=by decide):wpAny (model X.prog X.w) X.A (eval (.Name x pos) X.env) Q E s:=by
 obtain⟨mb,h1,h2⟩:=I.mod.blt;exact Calls.Name_function_global I.ok.kind hg (Calls.loadGlobal_builtin (by rw[I.ok.glob];exact I.mod.glob.keeps I.bk) hm (by rw[I.ok.blt];exact h1.keeps I.bk) ((h2 x hn).trans hv) h) hd
def Zgi{x:Str}{v:V}{u:Value}{pos:Pos}(hg:Gl X x)(hm:X.mg x=some u)(r:ZL v u)(hd:(x==("__debug__" : Str))=false:=by decide):PE X (.Name x pos) (tC v):=
 λ_ _ _ H _ I h=>YZ I hg hm ⟨v,H,I,r,h⟩ hd
variable{a b:Expr}{ta tb:TE}{pos:Pos}
def PC(X:Cx)(op:CmpOp)(a b:Expr)(t:TE):Prop:=
 ∀(pins:List (Addr×Obj)) (s:Shared) (σ:St) (H:Hp) (Q:VK),Inv X pins σ H s->t σ H Q ->
  wpAny (model X.prog X.w) X.A (eval a X.env) (λv s₁=>wpAny (model X.prog X.w) X.A (eval b X.env) (λu s₂=>wpAny (model X.prog X.w) X.A (compareOp op v u) (EP X pins σ Q) X.xe s₂) X.xe s₁) X.xe s
def ZiM(b:Expr){op:CmpOp}(h:op ≠ .In)(h2:op ≠ .NotIn):behindInMarks op b=false:=by
 have e1:(op==CmpOp.In)=false:=by cases op<;>first|rfl|exact absurd rfl h
 have e2:(op==CmpOp.NotIn)=false:=by cases op<;>first|rfl|exact absurd rfl h2
 cases b<;>simp[behindInMarks,e1,e2]
def Zn8(ta:TE):TE:=λσ H Q=>ta σ H λx H1=>Q (.bl (decide (x = .non))) H1
def ZL.none_iff{x:V}{v:Value}(r:ZL x v):(v==Value.none)=decide (x = .non):=by
 cases x with
 |non=>cases r;rfl
 |bl _=>cases r;rfl
 |int _=>obtain⟨t,rfl⟩:=r;rfl
 |str _=>obtain⟨t,rfl⟩:=r;rfl
 |byt _=>obtain⟨t,rfl⟩:=r;rfl
 |flt _=>obtain⟨t,rfl⟩:=r;rfl
 |ref _=>cases r;rfl
 |ty _=>cases r;rfl
def ZhU{j pos'}(ha:PE X a ta):PC X .Is a (.Constant .none j pos') (Zn8 ta):=by
 intro pins s σ H Q I h;refine thn (ha pins s σ H _ I h) λv s1 ⟨x,H1,I1,r1,q1⟩=>?_;exact Constant_none (is_none_gen ⟨.bl _,H1,I1,by rw[r1.none_iff];rfl,q1⟩)
inductive tB_(Q:Bool->Hp->Prop)(x:V)(H1:Hp):Prop|mk c:x = .bl c->Q c H1->tB_ Q x H1 def tB (t:TE):TT:=λσ H Q=>t σ H λx H1=>tB_ Q x H1
def Zfr{op:CmpOp}{t:TE}(h:PC X op a b t)(h1:behindInMarks op b=false:=by first|exact ZiM _ (by decide) (by decide)|rfl):PT X (.Compare a [op] [b] pos) (tB t):=by
 intro pins s σ H Q I hw;refine wpAny_isTrue_Compare1 (thn (h pins s σ H _ I hw) λv s1 h1=>thn h1 λu s2 h2=>thn h2 λc s3 ⟨x,H1,I1,r1,q1⟩=>?_) h1;obtain⟨d,rfl,q⟩:=q1;cases r1;exact wpAny_truthy_bool ⟨H1,I1,q⟩
def Z1{e:Expr}{t:TE}(h:PE X e t)(he:∀whole,isTrue e X.env whole=(do let v <- whole;standAt e.pos;holding [v] (truthy v)):=by intro _;rfl):PT X e (tB t):=by
 intro pins s σ H Q I hw;refine isTrue_plain (thn (h pins s σ H _ I hw) λv s1 ⟨x,H1,I1,r1,q1⟩=>?_) (he _);obtain⟨d,rfl,q⟩:=q1;cases r1;exact wpAny_truthy_bool ⟨H1,I1,q⟩
variable{tA tB':TT}{rest:List Expr}
def tOr(t u:TT):TT:=λσ H Q=>t σ H λc H1=>if c=true then Q true H1 else u σ H1 Q
def ZoF(t:TT):TT:=λσ H Q=>t σ H λc H1=>Q (!c) H1
def ZcM(ha:PT X a tA):PW X (.BoolOp .Or [a] pos) tA:=by
 intro wh pins s σ H Q I h;refine isTrue_or (thn (ha pins s σ H Q I h) λc s1 e=>?_);cases c with
 |false=>exact isTrue_or_nil e
 |true=>exact e
def Zeu(ha:PT X a tA)(hb:PW X (.BoolOp .Or (b::rest) pos) tB'):PW X (.BoolOp .Or (a::b::rest) pos) (tOr tA tB'):=by
 intro wh pins s σ H Q I h;refine isTrue_or (thn (ha pins s σ H _ I h) λc s1 ⟨H1,I1,q1⟩=>?_);cases c with
 |true=>exact⟨H1,I1,q1⟩
 |false=>exact hb wh pins s1 σ H1 Q I1 q1
def Yx(ha:PT X a tA):PT X (.UnaryOp .Not a pos) (ZoF tA):=by
 intro pins s σ H Q I h;exact isTrue_not (thn (ha pins s σ H (λc H1=>Q (!c) H1) I h) λ_ _ ⟨a,b,c⟩=>⟨a,b,c⟩)
inductive tAndV_(tb:TE)(σ:St)(Q:VK)(x:V)(H1:Hp):Prop|mk c:x = .bl c->(if c=true then tb σ H1 Q else Q (.bl false) H1)->tAndV_ tb σ Q x H1 def Zm7 (ta tb:TE):TE:=λσ H Q=>ta σ H λx H1=>tAndV_ tb σ Q x H1
inductive tOrV_(tb:TE)(σ:St)(Q:VK)(x:V)(H1:Hp):Prop|mk c:x = .bl c->(if c=true then Q (.bl true) H1 else tb σ H1 Q)->tOrV_ tb σ Q x H1 def Zog (ta tb:TE):TE:=λσ H Q=>ta σ H λx H1=>tOrV_ tb σ Q x H1
def Zcs{op}{t:TE}(h:PE X a t):PE X (.BoolOp op [a] pos) t:=λpins s σ H Q I hw=>BoolOp_one (h pins s σ H Q I hw)
def ZcR(ha:PE X a ta)(hb:PE X (.BoolOp .And (b::rest) pos) tb):PE X (.BoolOp .And (a::b::rest) pos) (Zm7 ta tb):=by
 intro pins s σ H Q I h;refine BoolOp_and (thn (ha pins s σ H _ I h) λv s1 ⟨x,H1,I1,r1,q1⟩=>?_);obtain⟨c,rfl,q1⟩:=q1;cases r1;refine wpAny_truthy_bool ?_;cases c with
 |true=>exact hb pins s1 σ H1 Q I1 q1
 |false=>exact⟨.bl false,H1,I1,rfl,q1⟩
def ZmC(ha:PE X a ta)(hb:PE X (.BoolOp .Or (b::rest) pos) tb):PE X (.BoolOp .Or (a::b::rest) pos) (Zog ta tb):=by
 intro pins s σ H Q I h;refine BoolOp_or (thn (ha pins s σ H _ I h) λv s1 ⟨x,H1,I1,r1,q1⟩=>?_);obtain⟨c,rfl,q1⟩:=q1;cases r1;refine wpAny_truthy_bool ?_;cases c with
 |false=>exact hb pins s1 σ H1 Q I1 q1
 |true=>exact⟨.bl true,H1,I1,rfl,q1⟩
def tIf(t:TT)(ta tb:TE):TE:=λσ H Q=>t σ H λc H1=>if c=true then ta σ H1 Q else tb σ H1 Q
def YV{c:Expr}(hc:PT X c tA)(ha:PE X a ta)(hb:PE X b tb):PE X (.IfExp c a b pos) (tIf tA ta tb):=by
 intro pins s σ H Q I h;refine wpAny_IfExp (thn (hc pins s σ H _ I h) λd s1 ⟨H1,I1,q1⟩=>?_);cases d with
 |true=>exact ha pins s1 σ H1 Q I1 q1
 |false=>exact hb pins s1 σ H1 Q I1 q1
end
def SqL(K:Frag)(H:Hp)(a:Addr)(xs:List V):Prop:=
 Rd H a (.lst xs) \/
  ∃(o:Obj) (its:Array Value) (n:Nat),K.lookup a=some o/\o.cls = .type "list" /\ o.dict=none/\o.data = .seq its n/\its.size<=sizeLine/\Zy xs its.toList
def SqT(K:Frag)(H:Hp)(a:Addr)(xs:List V):Prop:=
 Rd H a (.tup xs) \/
  ∃(o:Obj) (its:Array Value) (n:Nat),K.lookup a=some o/\o.cls = .type "tuple" /\ o.data = .seq its n/\its.size<=sizeLine/\Zy xs its.toList
def ZoB:Value->Option V
 |.none=>some .non
 |.bool b=>some (.bl b)
 |.int i _=>some (.int i)
 |.str x _=>some (.str x)
 |.bytes b _=>some (.byt b)
 |.float b _=>some (.flt b)
 |.ref a=>some (.ref a)
 |.type n=>some (.ty n)
 |_=>none
def ZL.abs{x:V}{u:Value}(r:ZL x u):ZoB u=some x:=by
 cases x with
 |non=>cases r;rfl
 |bl _=>cases r;rfl
 |int _=>obtain⟨t,rfl⟩:=r;rfl
 |str _=>obtain⟨t,rfl⟩:=r;rfl
 |byt _=>obtain⟨t,rfl⟩:=r;rfl
 |flt _=>obtain⟨t,rfl⟩:=r;rfl
 |ref _=>cases r;rfl
 |ty _=>cases r;rfl
theorem ZL.inj{x y:V}{u:Value}(r:ZL x u)(q:ZL y u):x=y:=Option.some.inj (r.abs.symm.trans q.abs)
theorem Zy.inj:∀{xs ys:List V} {us:List Value},Zy xs us->Zy ys us->xs=ys
 |_,_,_,.nil,.nil=>rfl
 |_,_,_,.cons r t,.cons r' t'=>by rw[r.inj r',Zy.inj t t']
section
variable{X:Cx}{pins:List (Addr×Obj)}{σ:St}{H:Hp}{s:Shared}{a:Addr}{xs ys:List V}
def SqL.of{K:Frag}(h:H a=some (.lst xs)):SqL K H a xs:=.inl (.inl h)
def SqT.of{K:Frag}(h:H a=some (.tup xs)):SqT K H a xs:=.inl (.inl h)
def Inv.list(I:Inv X pins σ H s)(h:SqL X.K H a xs):∃its:List Value,Zy xs its/\PlainL s.heap a its.toArray/\xs.length<=sizeLine:=by
 rcases h with h|⟨o,its,n,hk,hc,hd,hs,hz,r⟩
 ·obtain⟨z,its,n,r,e⟩:=h.ok I.hok
  exact⟨its,r,⟨_,n,e,rfl,rfl,rfl⟩,z⟩
 ·refine⟨its.toList,r,⟨o,n,I.kIn a o hk,hc,hd,by simpa using hs⟩,?_⟩
  have e:=r.length;simp only[Array.length_toList] at e;omega
def Inv.tuple(I:Inv X pins σ H s)(h:SqT X.K H a xs):∃its:List Value,Zy xs its/\IsTup s.heap a its.toArray/\xs.length<=sizeLine:=by
 rcases h with h|⟨o,its,n,hk,hc,hs,hz,r⟩
 ·obtain⟨z,its,r,p⟩:=h.ok I.hok
  exact⟨its,r,p,z⟩
 ·refine⟨its.toList,r,⟨o,I.kIn a o hk,hc,n,by simpa using hs⟩,?_⟩
  have e:=r.length;simp only[Array.length_toList] at e;omega
def Inv.list_inj(I:Inv X pins σ H s)(h:SqL X.K H a xs)(h':SqL X.K H a ys):xs=ys:=by
 obtain⟨its,r,⟨o,n,e,_,_,d⟩,_⟩:=I.list h;obtain⟨its',r',⟨o',n',e',_,_,d'⟩,_⟩:=I.list h';rw[e] at e';cases e';rw[d] at d';injection d' with d1 _;have:its=its':=by simpa using congrArg Array.toList d1
 subst this;exact r.inj r'
end
abbrev Cx.wish(X:Cx)(E:Value->Shared->Prop):Cx:={X with xe:=E}
abbrev Cx.nox(X:Cx):Cx:=X.wish λ_ _=>False
theorem Cx.Ok.wish{X:Cx}(ok:X.Ok)(E:Value->Shared->Prop):(X.wish E).Ok:=
 ⟨ok.mod,ok.kind,ok.glob,ok.blt,ok.above,ok.inj,ok.has,ok.cab,ok.hd,ok.frames,ok.stk,ok.exf,ok.bs,ok.bsz,ok.noex,ok.exfs,ok.funs,ok.frf⟩
def Cx.Ok.unwish{X:Cx}{E:Value->Shared->Prop}(ok:(X.wish E).Ok):X.Ok:=
 ⟨ok.mod,ok.kind,ok.glob,ok.blt,ok.above,ok.inj,ok.has,ok.cab,ok.hd,ok.frames,ok.stk,ok.exf,ok.bs,ok.bsz,ok.noex,ok.exfs,ok.funs,ok.frf⟩
section
variable{X:Cx}{pins:List (Addr×Obj)}{σ:St}{H:Hp}{s:Shared}{E:Value->Shared->Prop}
theorem Inv.wish(I:Inv X pins σ H s)(E:Value->Shared->Prop):Inv (X.wish E) pins σ H s:=⟨I.ok.wish E,I.os,I.bare,I.base,I.loc,I.cell,I.free,I.freeC,I.pin,I.hok,I.len⟩
theorem Inv.unwish(I:Inv (X.wish E) pins σ H s):Inv X pins σ H s:=⟨I.ok.unwish,I.os,I.bare,I.base,I.loc,I.cell,I.free,I.freeC,I.pin,I.hok,I.len⟩
theorem SP.unwish{D:Uo}{f:Flow}{s':Shared}(h:SP (X.wish E) pins D f s'):SP X pins D f s':=by
 cases f with
 |next=>obtain⟨σ',H',I,q⟩:=h;exact⟨σ',H',I.unwish,q⟩
 |brk=>obtain⟨σ',H',I,q⟩:=h;exact⟨σ',H',I.unwish,q⟩
 |cont=>obtain⟨σ',H',I,q⟩:=h;exact⟨σ',H',I.unwish,q⟩
 |ret u=>obtain⟨v,σ',H',I,r,q⟩:=h;exact⟨v,σ',H',I.unwish,r,q⟩
theorem PSs.nox{st:List Stmt}{t:TS}(h:PSs X.nox st t):PSs X st t:=λpins s σ H D I hw=>
 wpAny_mono (h pins s σ H D (I.wish _) hw) (λ_ _ q=>q.unwish) λ_ _ z=>False.elim z
end
section
variable{X:Cx}{st:Stmt}{rest:List Stmt}{t u:TS}{e:Expr}{te:TE}{pos:Pos}
def Znu:TS:=λD σ H=>D.nx σ H
def ZoE(t u:TS):TS:=λD σ H=>t {D with nx:=u D} σ H
def ZB:PSs X [] Znu:=λ_ _ σ H _ I h=>wpAny_execs_nil ⟨σ,H,I,h⟩
def Zc(h1:PS X st t)(h2:PSs X rest u):PSs X (st::rest) (ZoE t u):=by
 intro pins s σ H D I h;refine wpAny_execs_cons (thn (h1 pins s σ H {D with nx:=u D} I h) λf s1 q=>?_);cases f with
 |next=>
  obtain⟨σ',H',I',q⟩:=q;exact h2 pins s1 σ' H' D I' q
 |ret v=>exact q
 |brk=>exact q
 |cont=>exact q
def Zh(h1:PS X st t):PSs X [st] t:=by
 intro pins s σ H D I h;refine wpAny_execs_cons (thn (h1 pins s σ H D I h) λf s1 q=>?_);cases f with
 |next=>exact wpAny_execs_nil q
 |ret v=>exact q
 |brk=>exact q
 |cont=>exact q
def Znk:TS:=λD σ H=>D.ct σ H
def Zes:PS X (.Continue pos) Znk:=λ_ _ σ H _ I h=>wpAny_Continue ⟨σ,H,I,h⟩
def Inv.quiet{pins:List (Addr×Obj)}{σ:St}{H:Hp}{s:Shared}(I:Inv X pins σ H s):interactive X.env=false:=by simp[interactive,I.ok.kind]
def Zm4(te:TE):TS:=λD σ H=>te σ H λ_ H1=>D.nx σ H1
def Z3(he:PE X e te)(hs:swapsWith e none pos.line X.env=pure false:=by rfl):PS X (.Expr e pos) (Zm4 te):=by
 intro pins s σ H D I h;exact wpAny_Expr_any (thn (he pins s σ H _ I h) λv s1 ⟨x,H1,I1,r1,q1⟩=>⟨σ,H1,I1,q1⟩) I.quiet hs
def ZlM(te:TE):TS:=λD σ H=>te σ H D.rt
def Zn(he:PE X e te):PS X (.Return (some e) pos) (ZlM te):=by
 intro pins s σ H D I h;exact wpAny_Return_some (thn (he pins s σ H _ I h) λv s1 ⟨x,H1,I1,r1,q1⟩=>⟨x,σ,H1,I1,r1,q1⟩)
def Zoe(c:TT)(t u:TS):TS:=λD σ H=>c σ H λb H1=>if b=true then t D σ H1 else u D σ H1
def ZW{c:Expr}{a b:List Stmt}{tc:TT}(hc:PT X c tc)(ha:PSs X a t)(hb:PSs X b u):PS X (.If c a b pos) (Zoe tc t u):=by
 intro pins s σ H D I h;refine wpAny_If (thn (hc pins s σ H _ I h) λd s1 ⟨H1,I1,q1⟩=>?_);cases d with
 |true=>exact ha pins s1 σ H1 D I1 q1
 |false=>exact hb pins s1 σ H1 D I1 q1
end
abbrev TG:=V->St->Hp->(St->Hp->Prop)->Prop
abbrev TGs:=List V->St->Hp->(St->Hp->Prop)->Prop
def PG(X:Cx)(target:Expr)(t:TG):Prop:=
 ∀(pins:List (Addr×Obj)) (s:Shared) (σ:St) (H:Hp) (v:V) (u:Value) (Q:St->Hp->Prop),Inv X pins σ H s->ZL v u->t v σ H Q ->
  wpAny (model X.prog X.w) X.A (assign target X.env u) (λ_ s'=>∃σ' H',Inv X pins σ' H' s'/\Q σ' H') X.xe s
def PGs(X:Cx)(ts:List Expr)(t:TGs):Prop:=
 ∀(pins:List (Addr×Obj)) (s:Shared) (σ:St) (H:Hp) (vs:List V) (us:List Value) (Q:St->Hp->Prop),Inv X pins σ H s->Zy vs us->t vs σ H Q ->
  wpAny (model X.prog X.w) X.A (assignInOrder ((assignEach ts X.env).map (·.2)) us) (λ_ s'=>∃σ' H',Inv X pins σ' H' s'/\Q σ' H') X.xe s
abbrev Zi1:=V->V->V->Hp->(Hp->Prop)->Prop
def Zlw(X:Cx)(t:Zi1):Prop:=
 ∀(pins:List (Addr×Obj)) (s:Shared) (σ:St) (H:Hp) (o i v:V) (ov iv u:Value) (Q:Hp->Prop),Inv X pins σ H s->ZL o ov->ZL i iv->ZL v u->t o i v H Q ->
  wpAny (model X.prog X.w) X.A (setItem ov iv u) (λ_ s'=>∃H',Inv X pins σ H' s'/\Q H') X.xe s
abbrev TIp:=V->V->Hp->VK->Prop
def PIp(X:Cx)(op:Operator)(t:TIp):Prop:=
 ∀(pins:List (Addr×Obj)) (s:Shared) (σ:St) (H:Hp) (x y:V) (v u:Value) (Q:VK),Inv X pins σ H s->ZL x v->ZL y u->t x y H Q ->
  wpAny (model X.prog X.w) X.A (inplaceOp op v u) (EP X pins σ Q) X.xe s
section
variable{X:Cx}{pos:Pos}
def Js(i:Nat):TG:=λv σ H Q=>Q (σ.set i (some v)) H
def Zo{i:Nat}{x:Str}(hN:X.N.Nodup)(hi:X.N[i]? = some x)(hf:X.fn x=true\/X.env.scope.names.lookup x=some .local:=by first|exact .inl rfl|exact .inr rfl|assumption)(hx:Loc X.env.scope x:=by first|exact .inl rfl|exact .inr rfl):PG X (.Name x pos) (Js i):=by
 intro pins s σ H v u Q I r h;exact wpAny_assign_Name (U9 I hN hi hx r (λ_ I'=>⟨_,H,I',h⟩) hf)
inductive ZbA:List V->St->Hp->(St->Hp->Prop)->Prop|mk {vs σ H Q}:vs=[]->Q σ H->ZbA vs σ H Q
inductive JB(t:TG)(u:TGs):List V->St->Hp->(St->Hp->Prop)->Prop|mk {vs σ H Q} v r:vs=v::r->(t v σ H λσ' H'=>u r σ' H' Q)->JB t u vs σ H Q
def JI:PGs X [] ZbA:=by
 intro pins s σ H vs us Q I r h;obtain⟨e,h⟩:=h;subst e;cases r;exact assignInOrder_nil ⟨σ,H,I,h⟩
def ZA{e:Expr}{es:List Expr}{t:TG}{u:TGs}(h1:PG X e t)(h2:PGs X es u)
  (hs:(assignEach (e::es) X.env).map (·.2)=assign e X.env::(assignEach es X.env).map (·.2):=by rfl):PGs X (e::es) (JB t u):=by
 intro pins s σ H vs us Q I r h;obtain⟨v,vr,e1,h⟩:=h;subst e1;cases r with
 |cons r rr=>
  rw[hs];refine assignInOrder_cons (thn (h1 pins s σ H _ _ _ I r h) λ_ s1 ⟨σ1,H1,I1,q1⟩=>?_);exact h2 pins s1 σ1 H1 _ _ Q I1 rr q1
inductive Zbx(K:Frag)(n:Nat)(t:TGs):V->St->Hp->(St->Hp->Prop)->Prop|mk {v σ H Q} a xs:v = .ref a->SqT K H a xs->xs.length=n->t xs σ H Q->Zbx K n t v σ H Q
def Yl{es:List Expr}{k:Nat}{t:TGs}{n:Nat}(hc:X.calm=true)(h:PGs X es t)
  (hn:(assignEach es X.env).length=n:=by rfl) (hst:(assignEach es X.env).findIdx? (·.1)=none:=by rfl):PG X (.Tuple es k pos) (Zbx X.K n t):=by
 intro pins s σ H v u Q I r hw;obtain⟨a,xs,e1,hq,hl,hw⟩:=hw;subst e1;cases r;obtain⟨its,rv,ht,hz⟩:=I.tuple hq;refine assign_Tuple_tuple (I.ok.hd hc) ht (by simp[hn,<- hl,rv.length]) hst λh' hx=>?_;have I1:Inv X pins σ H {s with heap:=h'}:=I.kept (t':=s.toks) λb o e=>hx b o (Nat.ne_of_lt (Heap.lt_size e)) e;exact h pins _ σ H xs _ Q I1 (by simpa using rv) hw
def Zoi(to ti:TE)(t:Zi1):TG:=λv σ H Q=>to σ H λo H1=>ti σ H1 λi H2=>t o i v H2 λH3=>Q σ H3
def ZcD{o i:Expr}{to ti:TE}{t:Zi1}(ho:PE X o to)(hi:PE X i ti)(hs:Zlw X t)
  (ha:∀v,assign (.Subscript o i pos) X.env v=(do
   let ov <- holding [v] (eval o X.env)
   let iv <- holding [v,ov] (eval i X.env)
   standAt pos
   holding [v,ov,iv] (setItem ov iv v)
   release [v,ov,iv] []):=by intro _;rfl):PG X (.Subscript o i pos) (Zoi to ti t):=by
 intro pins s σ H v u Q I r h;rw[ha];refine wpAny_bind (wpAny_holding (thn (ho pins s σ H _ I h) λov s1 ⟨x,H1,I1,r1,q1⟩=>?_));refine wpAny_bind (wpAny_holding (thn (hi pins s1 σ H1 _ I1 q1) λiv s2 ⟨y,H2,I2,r2,q2⟩=>?_));refine wpAny_bind (wpAny_standAt (wpAny_bind (wpAny_holding (thn (hs pins s2 σ H2 x y v ov iv u _ I2 r1 r2 r q2) λ_ s3 ⟨H3,I3,q3⟩=>?_))));exact wpAny_release ⟨σ,H3,I3,q3⟩
def Zlk(te:TE)(g:TG):TS:=λD σ H=>te σ H λx H1=>g x σ H1 D.nx
def ZcY{tg e:Expr}{te:TE}{g:TG}(he:PE X e te)(hg:PG X tg g)(hs:swapsWithSole [tg] e pos.line X.env=pure false:=by rfl)(hw:swappedStores [tg] e X.env=pure none:=by rfl)
  (h1:(assignEach [tg] X.env).map (·.2)=[assign tg X.env]:=by rfl):PS X (.Assign [tg] e pos) (Zlk te g):=by
 intro pins s σ H D I h;refine wpAny_Assign_stores (thn (he pins s σ H _ I h) λv s1 ⟨x,H1,I1,r1,q1⟩=>?_) hs hw;rw[h1];exact thn (hg pins s1 σ H1 x v _ I1 r1 q1) λ_ s2 q=>q
def Zk{i:Nat}{x:Str}{e:Expr}{te:TE}{pos':Pos}(hN:X.N.Nodup)(hi:X.N[i]? = some x)(he:PE X e te)(hs:swapsWith e (some (.Name x pos')) pos.line X.env=pure false:=by rfl)(hf:X.fn x=true\/X.env.scope.names.lookup x=some .local:=by first|exact .inl rfl|exact .inr rfl|assumption)(hx:Loc X.env.scope x:=by first|exact .inl rfl|exact .inr rfl) :
  PS X (.Assign [.Name x pos'] e pos) (Zlk te (Js i)):=by
 intro pins s σ H D I h;refine wpAny_Assign_Name (thn (he pins s σ H _ I h) λv s1 ⟨y,H1,I1,r1,q1⟩=>?_) hs;exact U9 I1 hN hi hx r1 (λs2 I2=>⟨_,H1,I2,q1⟩) hf
inductive Zml(i:Nat)(te:TE)(ti:TIp):Uo->St->Hp->Prop|mk {D σ H} x:σ[i]? = some (some x)->(te σ H λy H1=>ti x y H1 λz H2=>D.nx (σ.set i (some z)) H2)->Zml i te ti D σ H
def Zdh{i:Nat}{x:Str}{e:Expr}{te:TE}{op:Operator}{ti:TIp}{pos':Pos}(hN:X.N.Nodup)(hi:X.N[i]? = some x)(hx:Loc X.env.scope x)(he:PE X e te)(ho:PIp X op ti)(hf:X.fn x=true\/X.env.scope.names.lookup x=some .local:=by first|exact .inl rfl|exact .inr rfl|assumption) :
  PS X (.AugAssign (.Name x pos') op e pos) (Zml i te ti):=by
 intro pins s σ H D I h;obtain⟨v,e1,h⟩:=h;obtain⟨m,hn,hl⟩:=I.loc;have vis:Vis X.env.scope x:=by rcases hx with k|k;exact .inl k;exact .inr (.inl k)
 obtain⟨u,r,l⟩:=hl i x v hi e1 vis;refine wpAny_AugAssign_Name ?_;have go:wpAny (model X.prog X.w) X.A (eval e X.env) (λw s₂=>wpAny (model X.prog X.w) X.A (inplaceOp op u w) (λr s₃=>wpAny (model X.prog X.w) X.A (storeName X.env x r) (λ_=>SP X pins D .next) X.xe s₃) X.xe s₂) X.xe s:=by
  refine thn (he pins s σ H _ I h) λw s1 ⟨y,H1,I1,r1,q1⟩=>?_;refine thn (ho pins s1 σ H1 v y u w _ I1 r r1 q1) λz s2 ⟨zv,H2,I2,r2,q2⟩=>?_;exact U9 I2 hN hi hx r2 (λs3 I3=>⟨_,H2,I3,q2⟩) hf
 rcases l with⟨hk,hm⟩|⟨hk,c,hc,hcell⟩
 ·exact wpAny_loadName_local I.ok.kind hk hn hm go
 ·rcases hk with hk|hk
  ·exact wpAny_loadName_cell I.ok.kind hk hc hcell go
  ·rcases hx with k|k
   ·have:X.env.scope.names.lookup x=some .free:=hk
    rw[k] at this;cases this
   ·have:X.env.scope.names.lookup x=some .free:=hk
    rw[k] at this;cases this
def ZmA(to ti te:TE)(tget:V->V->Hp->VK->Prop)(tip:TIp)(tset:Zi1):TS:=λD σ H=>to σ H λo H1=>ti σ H1 λi H2=>tget o i H2 λx H3=>te σ H3 λy H4=>tip x y H4 λz H5=>tset o i z H5 λH6=>D.nx σ H6
def Zmn(X:Cx)(t:V->V->Hp->VK->Prop):Prop:=
 ∀(pins:List (Addr×Obj)) (s:Shared) (σ:St) (H:Hp) (o i:V) (ov iv:Value) (Q:VK),Inv X pins σ H s->ZL o ov->ZL i iv->t o i H Q ->
  wpAny (model X.prog X.w) X.A (getItem ov iv) (EP X pins σ Q) X.xe s
def Zju{o i e:Expr}{to ti te:TE}{tget:V->V->Hp->VK->Prop}{tip:TIp}{tset:Zi1}{op:Operator}{tpos:Pos}(ho:PE X o to)(hi:PE X i ti)(hg:Zmn X tget)(he:PE X e te)(hp:PIp X op tip)(hs:Zlw X tset)
  (ha:∀ov iv new,augStore i ov iv new=(do holding [new,ov,iv] (setItem ov iv new);release [new,ov,iv] [];pure .next):=by intros;rfl):PS X (.AugAssign (.Subscript o i tpos) op e pos) (ZmA to ti te tget tip tset):=by
 intro pins s σ H D I h;refine wpAny_AugAssign_SubscriptAny (thn (ho pins s σ H _ I h) λov s1 ⟨x1,H1,I1,r1,q1⟩=>?_) ha;refine thn (hi pins s1 σ H1 _ I1 q1) λiv s2 ⟨x2,H2,I2,r2,q2⟩=>?_;refine thn (hg pins s2 σ H2 x1 x2 ov iv _ I2 r1 r2 q2) λold s3 ⟨x3,H3,I3,r3,q3⟩=>?_;refine thn (he pins s3 σ H3 _ I3 q3) λv s4 ⟨x4,H4,I4,r4,q4⟩=>?_;refine thn (hp pins s4 σ H4 x3 x4 old v _ I4 r3 r4 q4) λnew s5 ⟨x5,H5,I5,r5,q5⟩=>?_;exact thn (hs pins s5 σ H5 x1 x2 x5 ov iv new _ I5 r1 r2 r5 q5) λ_ s6 ⟨H6,I6,q6⟩=>⟨σ,H6,I6,q6⟩
inductive ipI(f:Int->Int->Int):V->V->Hp->VK->Prop|mk {x y H Q} i j:x = .int i->y = .int j->Q (.int (f i j)) H->ipI f x y H Q
def Zcf:PIp X .Add (ipI λi j=>i+j):=by
 intro pins s σ H x y v u Q I r1 r2 h;obtain⟨i,j,e1,e2,q⟩:=h;subst e1;subst e2;obtain⟨t,rfl⟩:=r1;obtain⟨t',rfl⟩:=r2;exact iadd_int ⟨.int _,H,I.tok _,⟨_,rfl⟩,q⟩
inductive Ziu(c:TT)(tb:TS):Uo->St->Hp->Prop|mk {D σ H} (W:Nat->St->Hp->Prop):(∃m,W m σ H)->(∀m σ H,W m σ H->c σ H λb H1=>if b=true then ∃N:St->Hp->Prop,(∀σ' H',N σ' H'->∃m',m'<m/\W m' σ' H')/\tb {D with nx:=N,ct:=N,bk:=D.nx} σ H1 else D.nx σ H1)->Ziu c tb D σ H
def Za0{c:Expr}{body:List Stmt}{tc:TT}{tb:TS}(hp:PassesOwn (model X.prog X.w) X.A X.env X.xe)(hc:PT X c tc)(hb:PSs X body tb):PS X (.While c body [] pos) (Ziu tc tb):=by
 intro pins s σ H D I h;obtain⟨W,⟨m0,w0⟩,turn⟩:=h;refine wpAny_While (codeAny_whileLoop (λn s'=>∃σ' H',Inv X pins σ' H' s'/\W n σ' H') ?_ m0 ⟨σ,H,I,w0⟩);rintro n s1 ⟨σ1,H1,I1,w1⟩;refine wpAny_passesOwn hp (thn (hc pins s1 σ1 H1 _ I1 (turn n σ1 H1 w1)) λb s2 ⟨H2,I2,q2⟩=>?_);cases b with
 |true=>
  obtain⟨N,hN,q2⟩:=q2;rw[if_pos rfl];refine wpAny_passesOwn hp (thn (hb pins s2 σ1 H2 _ I2 q2) λf s3 q3=>?_);cases f with
  |next=>
   obtain⟨σ3,H3,I3,n3⟩:=q3;obtain⟨m',hm,w3⟩:=hN σ3 H3 n3;exact⟨m',hm,σ3,H3,I3,w3⟩
  |cont=>
   obtain⟨σ3,H3,I3,n3⟩:=q3;obtain⟨m',hm,w3⟩:=hN σ3 H3 n3;exact⟨m',hm,σ3,H3,I3,w3⟩
  |brk=>exact q3
  |ret v=>exact q3
 |false=>
  rw[if_neg Bool.false_ne_true];exact wpAny_execs_nil ⟨σ1,H2,I2,q2⟩
end
structure It where
 go:Nat->Hp->Prop
 yld:Nat->Hp->V->Hp->Prop
 stop:Nat->Hp->Prop
def Zaf(X:Cx)(pins:List (Addr×Obj))(H:Hp)(b:Addr):Prop:=
 H b=none/\b≠X.env.locals/\b∉X.fs/\(b∈X.ex\/X.s_0.heap.objs.size<=b)/\(∀x c,X.env.cells.lookup x=some c->c≠b)/\∀p∈X.pn++pins,p.1≠b
def Inv.fpOk{X:Cx}{pins:List (Addr×Obj)}{σ:St}{H H':Hp}{s:Shared}{b:Addr}(I:Inv X pins σ H s)(hb:s.heap.objs.size<=b)(hn:H' b=none):Zaf X pins H' b:=by
 refine⟨hn,Nat.ne_of_gt (Nat.lt_of_lt_of_le I.lt hb),I.nofs hb,.inr (Nat.le_trans I.sz hb),λx c e z=>?_,λp hp z=>?_⟩
 ·obtain⟨v,q⟩:=I.cell x c e
  exact absurd (Nat.lt_of_lt_of_le q.lt (by rw[z];exact hb)) (Nat.lt_irrefl _)
 ·exact absurd (Nat.lt_of_lt_of_le (Heap.lt_size (I.pin p hp).1) (by rw[z];exact hb)) (Nat.lt_irrefl _)
structure Turn(P:Program)(w:World)(K:Frag)(tg:Expr)(J:It)(fp:List Addr)(it:Addr)(tn:Nat->Heap->Prop):Prop where
 mem:it∈fp
 obj:∀i h,tn i h->∀b∈fp,∃o,h.get? b=some o/\∀v,o.data ≠ .cell v
 keep:∀i h h',tn i h->(∀b∈fp,∀o,h.get? b=some o->h'.get? b=some o)->tn i h'
 item:∀(X:Cx),X.prog=P->X.w=w->X.K=K->X.calm=true->∀(i:Nat) (pins:List (Addr×Obj)) (s:Shared) (σ:St) (H:Hp) (E:Value->Shared->Prop),Inv X pins σ H s->(∀b∈fp,Zaf X pins H b)->tn i s.heap->J.go i H ->
  wpAny (model P w) X.A (pyNext (.ref it)) (λr s1=>∃u,r=some u /\
   wpAny (model P w) X.A (letOwnedTupleGo tg (.ref it) u) (λ_ s2=>∃x H',Inv X pins σ H' s2/\ZL x u/\J.yld i H x H'/\tn (i+1) s2.heap/\∀b∈fp,H' b=none) E s1) E s
 done:∀(X:Cx),X.prog=P->X.w=w->X.K=K->X.calm=true->∀(i:Nat) (pins:List (Addr×Obj)) (s:Shared) (σ:St) (H:Hp) (E:Value->Shared->Prop),Inv X pins σ H s->(∀b∈fp,Zaf X pins H b)->tn i s.heap->J.stop i H ->
  wpAny (model P w) X.A (pyNext (.ref it)) (λr s1=>r=none/\Inv X pins σ H s1) E s
 self:∀(A:Around) (i:Nat) (s:Shared) (Q:Value->Shared->Prop) (E:Value->Shared->Prop),tn i s.heap->Q (.ref it) s->wpAny (model P w) A (pyIter (.ref it)) Q E s
abbrev TI:=St->Hp->(It->Hp->Prop)->Prop
inductive PIE(X:Cx)(pins:List (Addr×Obj))(σ:St)(tg:Expr)(R:It->Hp->Prop)(itv:Value)(s2:Shared):Prop
 |mk (it:Addr) (fp:List Addr) (tn:Nat->Heap->Prop) (J:It) (H':Hp):itv = .ref it->Inv X pins σ H' s2->Turn X.prog X.w X.K tg J fp it tn->tn 0 s2.heap->(∀b∈fp,Zaf X pins H' b)->R J H'->PIE X pins σ tg R itv s2
def PI(X:Cx)(tg iter:Expr)(wi:TI):Prop:=
 ∀(pins:List (Addr×Obj)) (s:Shared) (σ:St) (H:Hp) (R:It->Hp->Prop),Inv X pins σ H s->wi σ H R ->
  wpAny (model X.prog X.w) X.A (eval iter X.env) (λv s1=>wpAny (model X.prog X.w) X.A (pyIter v) (PIE X pins σ tg R) X.xe s1) X.xe s
def Zgo{M:Model}{A:Around}{E:Value->Shared->Prop}{s:Shared}{tg:Expr}{it:Addr}{u:Value}{o:Obj}{n:String}{vs:Array Value}{Q:Unit->Shared->Prop}(ho:s.heap.get? it=some o)(hc:o.cls = .type n)(hd:o.data = .fields vs)
  (hn:["enumerate", "zip", "dict_itemiterator", "dict_reverseitemiterator", "odict_iterator", "itertools.zip_longest", "itertools.pairwise"].contains n=false) (hQ:Q () s):wpAny M A (letOwnedTupleGo tg (.ref it) u) Q E s:=by
 unfold letOwnedTupleGo;cases tg<;>first
  |exact wpAny_pure hQ
  |(cases u<;>first
    |exact wpAny_pure hQ
    |(refine wpAny_bind (wpAny_load ho ?_);rw[hc,hd];show wpAny M A (if (["enumerate", "zip", "dict_itemiterator", "dict_reverseitemiterator", "odict_iterator", "itertools.zip_longest", "itertools.pairwise"].contains n&&vs[0]? == some (rawInt _))=true then _ else _) Q E s;rw[if_neg (by intro h;rw[hn,Bool.false_and] at h;cases h)];exact wpAny_pure hQ))
def Itl(K:Frag)(a:Addr):It:=
 ⟨λi H=>∃xs x,SqL K H a xs/\xs[i]? = some x,λi H x H'=>H'=H/\∀xs,SqL K H a xs->xs[i]? = some x,λi H=>∃xs,SqL K H a xs/\xs.length<=i⟩
def Itr(lo:Int)(n:Nat):It:=⟨λi _=>i<n,λi H x H'=>H'=H/\x = .int (lo+i),λi _=>n<=i⟩
def ZgP{P:Program}{w:World}{K:Frag}{tg:Expr}(a it:Addr):Turn P w K tg (Itl K a) [it] it (λi h=>h.IsListIter it a i) where
 mem:=by simp
 obj:=λi h st b hb=>by
  have e:b=it:=by simpa using hb
  subst e;obtain⟨o,e,c,d⟩:=st;exact⟨o,e,λv z=>by rw[d] at z;cases z⟩
 keep:=λi h h' st k=>st.at λo e=>k it (by simp) o e
 item:=by
  intro X hP hw hK hc i pins s σ H E I hf st hg;subst hP hw hK;obtain⟨xs,x,hq,hx⟩:=hg;obtain⟨its,rv,p,hz⟩:=I.list hq;obtain⟨u,hu,ru⟩:=rv.get hx;obtain⟨f0,f1,f2,f3,f4,f5⟩:=hf it (by simp);refine wpAny_pyNext_list_item st p.isList (x:=u) (by simpa using hu) λh' st' sb=>?_;have I1:Inv X pins σ H {s with heap:=h'}:=I.turned (t':=s.toks) (λb o hb e=>(sb.2 b hb).trans e) f0 f1 f3 f4 f5;obtain⟨o,e,c,d⟩:=id st';exact⟨u,rfl,Zgo (s:={s with heap:=h'}) e c d (by decide) ⟨x,H,I1,ru,⟨rfl,λ_ hy=>by rw[I.list_inj hy hq];exact hx⟩,st',λb hb=>(hf b hb).1⟩⟩
 done:=by
  intro X hP hw hK hc i pins s σ H E I hf st hg;subst hP hw hK;obtain⟨xs,hq,hx⟩:=hg;obtain⟨its,rv,p,hz⟩:=I.list hq;obtain⟨f0,f1,f2,f3,f4,f5⟩:=hf it (by simp);have hl:=rv.length;exact wpAny_pyNext_list_end (I.ok.hd hc) st p.isList (by simp;omega) λh' eb=>⟨rfl,I.turned (t':=s.toks) (λb o hb e=>eb b o hb e) f0 f1 f3 f4 f5⟩
 self:=λ_ _ _ _ _ st h=>wpAny_pyIter_listiter st h
def Zfd{P:Program}{w:World}{K:Frag}{tg:Expr}(it:Addr)(lo:Int)(n:Nat):Turn P w K tg (Itr lo n) [it] it (λi h=>IsRangeIter h it (lo+(i:Nat)*1) ((n:Int)-(i:Nat)) 1) where
 mem:=by simp
 obj:=λi h st b hb=>by
  have e:b=it:=by simpa using hb
  subst e;exact⟨_,st,λv z=>by
   have z':Data.fields _=Data.cell v:=z;cases z'⟩
 keep:=λi h h' st k=>k it (by simp) _ st
 item:=by
  intro X hP hw hK hc i pins s σ H E I hf st hg;subst hP hw hK;obtain⟨f0,f1,f2,f3,f4,f5⟩:=hf it (by simp);have W:=Walks.range (prog:=X.prog) (w:=X.w) (I.ok.hd hc) it lo 1 n;refine W.item i s _ _ hg st λv h' tk hv st' kk=>?_;obtain⟨t,rfl⟩:=hv;have I1:Inv X pins σ H {s with heap:=h',toks:=tk}:=I.turned (λb o hb e=>kk b o (by simpa using hb) e) f0 f1 f3 f4 f5;refine⟨_,rfl,Zgo (s:={s with heap:=h',toks:=tk}) (n := "range_iterator") st' rfl rfl (by decide) ⟨.int (lo+i),H,I1,⟨t,?_⟩,⟨rfl,rfl⟩,st',λb hb=>(hf b hb).1⟩⟩;rw[Int.mul_one]
 done:=by
  intro X hP hw hK hc i pins s σ H E I hf st hg;subst hP hw hK;obtain⟨f0,f1,f2,f3,f4,f5⟩:=hf it (by simp);exact wpAny_pyNext_range_end (I.ok.hd hc) st (by have:n<=i:=hg;omega) λh' eb=>⟨rfl,I.turned (t':=s.toks) (λb o hb e=>eb b o hb e) f0 f1 f3 f4 f5⟩
 self:=λ_ _ _ _ _ st h=>wpAny_pyIter_rangeiter st h
section
variable{X:Cx}{tg:Expr}
inductive iList_(K:Frag)(R:It->Hp->Prop)(x:V)(H1:Hp):Prop|mk a:x = .ref a->(∃xs,SqL K H1 a xs)->R (Itl K a) H1->iList_ K R x H1 def Zmo (K:Frag) (tl:TE):TI:=λσ H R=>tl σ H λx H1=>iList_ K R x H1
def ZR{l:Expr}{tl:TE}(hl:PE X l tl):PI X tg l (Zmo X.K tl):=by
 intro pins s σ H R I h;refine thn (hl pins s σ H _ I h) λv s1 ⟨x,H1,I1,r1,q1⟩=>?_;obtain⟨a,e,⟨xs,hq⟩,q⟩:=q1;subst e;cases r1;obtain⟨its,rv,p,hz⟩:=I1.list hq;refine wpAny_pyIter_list p.isList ?_;refine⟨s1.heap.objs.size,[s1.heap.objs.size],_,_,H1,rfl,I1.kept (t':=s1.toks) λb o e=>Heap.get?_push_of_some _ e,ZgP a _,⟨_,Heap.get?_push_size _ rfl,rfl,rfl⟩,λb hb=>?_,q⟩;have e:b=s1.heap.objs.size:=by simpa using hb
 subst e;exact I1.fpOk (Nat.le_refl _) (I1.hok.fresh (Nat.le_refl _))
def ZdM{pins:List (Addr×Obj)}{σ:St}{H:Hp}{s:Shared}{R:It->Hp->Prop}{E:Value->Shared->Prop}{lo hi:Int}{t u v:Tok}{tk:Nat}(I:Inv X pins σ H s)(h1:-(2^62)<=lo)(h2:lo<2^62)(h3:-(2^62)<=hi)(h4:hi<2^62)
  (q:R (Itr lo (hi-lo).toNat) H):wpAny (model X.prog X.w) X.A (pyIter (.ref s.heap.objs.size)) (PIE X pins σ tg R) E {s with heap:=s.heap.push {cls:=.type "range",data:=.fields #[.int lo t,.int hi u,.int 1 v]},toks:=tk}:=by
 refine wpAny_pyIter_range (IsRange.new ..) (small_one h1 h2 h3 h4) ?_;have I1:Inv X pins σ H {s with heap:=s.heap.push {cls:=.type "range",data:=.fields #[.int lo t,.int hi u,.int 1 v]},toks:=tk}:=I.kept λb o e=>Heap.get?_push_of_some _ e;refine⟨(s.heap.push {cls:=.type "range",data:=.fields #[.int lo t,.int hi u,.int 1 v]}).objs.size,[(s.heap.push {cls:=.type "range",data:=.fields #[.int lo t,.int hi u,.int 1 v]}).objs.size],_,_,H,rfl,
  I1.kept (t':=tk) λb o e=>Heap.get?_push_of_some _ e,Zfd _ lo (hi-lo).toNat,?_,λb hb=>?_,q⟩
 ·have e1:lo+((0:Nat):Int)*1=lo:=by simp
  have e2:(((hi-lo).toNat:Nat):Int)-((0:Nat):Int)=Builtin.Range.rangeSize lo hi 1:=by rw[rangeSize_one];split<;>omega
  show IsRangeIter _ _ (lo+((0:Nat):Int)*1) ((((hi-lo).toNat:Nat):Int)-((0:Nat):Int)) 1;rw[e1,e2];exact Heap.get?_push_size _ rfl
 ·have e:b=(s.heap.push {cls:=.type "range",data:=.fields #[.int lo t,.int hi u,.int 1 v]}).objs.size:=by simpa using hb
  subst e;exact I1.fpOk (Nat.le_refl _) (I1.hok.fresh (Nat.le_refl _))
inductive iRng1_(R:It->Hp->Prop)(vs:List V)(H1:Hp):Prop|mk (j:Int):vs=[.int j]->-(2^62)<=j->j<2^62->R (Itr 0 j.toNat) H1->iRng1_ R vs H1 def Znl (ta:TA):TI:=λσ H R=>ta σ H λvs H1=>iRng1_ R vs H1
inductive iRng2_(R:It->Hp->Prop)(vs:List V)(H1:Hp):Prop|mk (i j:Int):vs=[.int i,.int j]->(-(2^62)<=i/\i<2^62/\-(2^62)<=j/\j<2^62)->R (Itr i (j-i).toNat) H1->iRng2_ R vs H1 def ZnS (ta:TA):TI:=λσ H R=>ta σ H λvs H1=>iRng2_ R vs H1
def JH{a:Expr}{ta:TA}{p pos:Pos}(hg:Gl X "range")(hm:X.mg "range" = none)(ha:PA X [a] ta)(hs:starEach [a] X.env=[(false,eval a X.env)]:=by rfl):PI X tg (.Call (.Name "range" p) [a] [] pos) (Znl ta):=by
 intro pins s σ H R I h;refine Call_ (Y9 I hg hm boot_range (PyProof.Rows.callWith_type1 (thn (ha pos pins s σ H _ I h) λus s1 ⟨vs,H1,I1,r1,q1⟩=>?_) hs rfl));obtain⟨j,e,q1,q2,q⟩:=q1;subst e;cases r1 with
 |cons r rr=>
  cases rr;obtain⟨t,rfl⟩:=r;exact call_range_1 (ZdM I1 (by omega) (by omega) q1 q2 (by simpa using q))
def ZgC{a b:Expr}{ta:TA}{p pos:Pos}(hg:Gl X "range")(hm:X.mg "range" = none)(ha:PA X [a,b] ta)(hs:starEach [a,b] X.env=[(false,eval a X.env),(false,eval b X.env)]:=by rfl)(hs2:starEach [b] X.env=[(false,eval b X.env)]:=by rfl) :
  PI X tg (.Call (.Name "range" p) [a,b] [] pos) (ZnS ta):=by
 intro pins s σ H R I h;refine Call_ (Y9 I hg hm boot_range (PyProof.Rows.callWith_type1 (thn (ha pos pins s σ H _ I h) λus s1 ⟨vs,H1,I1,r1,q1⟩=>?_) (by rw[hs,hs2]) (by rw[hs2];rfl)));obtain⟨i,j,e,⟨q1,q2,q3,q4⟩,q⟩:=q1;subst e;cases r1 with
 |cons r rr=>
  cases rr with
  |cons r' rr=>
   cases rr;obtain⟨t,rfl⟩:=r;obtain⟨t',rfl⟩:=r';exact call_range_2 (ZdM I1 q1 q2 q3 q4 q)
def ZoH(wi:TI)(g:TG)(tb:TS):TS:=λD σ H=>wi σ H λJ H1=>∃W:Nat->Nat->St->Hp->Prop,(∃m,W 0 m σ H1)/\∀i m σ H,W i m σ H ->
 (J.stop i H/\D.nx σ H)\/(J.go i H/\∃N:St->Hp->Prop,(∀σ' H',N σ' H'->∃m',m'<m/\W (i+1) m' σ' H')/\∀x H',J.yld i H x H'->g x σ H' λσ2 H2=>tb {D with nx:=N,ct:=N,bk:=D.nx} σ2 H2)
def ZaK(fp:List Addr)(h:Heap):List (Addr×Obj):=fp.filterMap λb=>(h.get? b).map λo=>(b,o)
def U0{fp:List Addr}{h:Heap}{b:Addr}{o:Obj}(hb:b∈fp)(e:h.get? b=some o):(b,o)∈ZaK fp h:=List.mem_filterMap.mpr ⟨b,hb,by rw[e];rfl⟩
def Zgy{fp:List Addr}{h:Heap}{p:Addr×Obj}(hp:p∈ZaK fp h):p.1∈fp/\h.get? p.1=some p.2:=by
 obtain⟨b,hb,e⟩:=List.mem_filterMap.mp hp;cases q:h.get? b with
 |none=>rw[q] at e;cases e
 |some o=>
  rw[q] at e;have e':(b,o)=p:=Option.some.inj e;subst e';exact⟨hb,q⟩
def Inv.pinned{pins:List (Addr×Obj)}{σ:St}{H:Hp}{s:Shared}{fp:List Addr}(I:Inv X pins σ H s)(hf:∀b∈fp,Zaf X pins H b)(ho:∀b∈fp,∃o,s.heap.get? b=some o/\∀v,o.data ≠ .cell v):Inv X (pins++ZaK fp s.heap) σ H s:=
 I.pins_of λp hp=>(mem_append.mp hp).elim (λz=>I.pin p (mem_append_right _ z)) λz=>by
  obtain⟨hb,e⟩:=Zgy z;obtain⟨f0,f1,f2,_⟩:=hf p.1 hb;obtain⟨o,e',d⟩:=ho p.1 hb;rw[e] at e';cases e';exact⟨e,f0,f1,f2,d⟩
def Inv.unpinned{pins pl:List (Addr×Obj)}{σ:St}{H:Hp}{s:Shared}(I:Inv X (pins++pl) σ H s):Inv X pins σ H s:=I.pins_of λp hp=>I.pin p (mem_append_right _ (mem_append_left _ hp))
def Z6{iter:Expr}{body:List Stmt}{wi:TI}{g:TG}{tb:TS}{pos:Pos}(hp:PassesOwn (model X.prog X.w) X.A X.env X.xe)(hc:X.calm=true)(hi:PI X tg iter wi)(hg:PG X tg g)(hb:PSs X body tb)
  (hs:∀x,foldedSetIterable iter X.env x=pure x:=by intro _;rfl):PS X (.For tg iter body [] pos) (ZoH wi g tb):=by
 intro pins s σ H D I h;refine wpAny_For (thn (hi pins s σ H _ I h) λv s1 h1=>thn h1 λitv s2 h2=>?_) hs;obtain⟨it,fp,tn,J,H2,e,I2,T,st2,f2,W,⟨m0,w0⟩,turn⟩:=h2;subst e;have stat:∀{H':Hp},(∀b∈fp,H' b=none)->∀b∈fp,Zaf X pins H' b:=λhn b hb=>⟨hn b hb,(f2 b hb).2⟩;refine codeAny_forLoop_any (λn s'=>∃i σ' H',Inv X pins σ' H' s'/\tn i s'.heap/\(∀b∈fp,H' b=none)/\W i n σ' H') ?_ m0 ⟨0,σ,H2,I2,st2,λb hb=>(f2 b hb).1,w0⟩;rintro n s3 ⟨i,σ3,H3,I3,st3,fr3,w3⟩;rcases turn i n σ3 H3 w3 with⟨stop,qn⟩|⟨go,N,hN,step⟩
 ·refine wpAny_passesOwn hp (thn (T.done X rfl rfl rfl hc i pins s3 σ3 H3 X.xe I3 (stat fr3) st3 stop) λr s4 ⟨hr,I4⟩=>?_)
  subst hr;exact wpAny_execs_nil ⟨σ3,H3,I4,qn⟩
 ·refine wpAny_passesOwn hp (thn (T.item X rfl rfl rfl hc i pins s3 σ3 H3 X.xe I3 (stat fr3) st3 go) λr s4 ⟨u,hr,h4⟩=>?_)
  subst hr;refine wpAny_passesOwn hp (thn h4 λ_ s5 ⟨x,H5,I5,r5,y5,st5,fr5⟩=>?_);have I5':=I5.pinned (stat fr5) (T.obj _ _ st5);refine wpAny_passesOwn hp (thn (hg _ s5 σ3 H5 x u _ I5' r5 (step x H5 y5)) λ_ s6 ⟨σ6,H6,I6,q6⟩=>?_);refine wpAny_passesOwn hp (thn (hb _ s6 σ6 H6 _ I6 q6) λf s7 q7=>?_);have again:∀{σ7:St} {H7:Hp},Inv X (pins++ZaK fp s5.heap) σ7 H7 s7->N σ7 H7->∃m,m<n/\∃i σ' H',Inv X pins σ' H' s7/\tn i s7.heap/\(∀b∈fp,H' b=none)/\W i m σ' H':=λ{σ7 H7} I7 n7=>by
   obtain⟨m',hm,w7⟩:=hN σ7 H7 n7;refine⟨m',hm,i+1,σ7,H7,I7.unpinned,T.keep _ _ _ st5 λb hb o e=>(I7.pin (b,o) (mem_append_right _ (mem_append_right _ (U0 hb e)))).1,λb hb=>?_,w7⟩;obtain⟨o,e,d⟩:=T.obj _ _ st5 b hb;exact(I7.pin (b,o) (mem_append_right _ (mem_append_right _ (U0 hb e)))).2.1
  cases f with
  |next=>obtain⟨σ7,H7,I7,n7⟩:=q7;exact again I7 n7
  |cont=>obtain⟨σ7,H7,I7,n7⟩:=q7;exact again I7 n7
  |brk=>obtain⟨σ7,H7,I7,q7⟩:=q7;exact⟨σ7,H7,I7.unpinned,q7⟩
  |ret v=>obtain⟨x7,σ7,H7,I7,r7,q7⟩:=q7;exact⟨x7,σ7,H7,I7.unpinned,r7,q7⟩
end
def JD{K:Frag}{a:Addr}{xs:List V}{g:TG}{tb:TS}{D:Uo}{σ:St}{H:Hp}(Pv:Nat->St->Hp->Prop)(h0:Pv 0 σ H)(hl:∀i σ H,i<=xs.length->Pv i σ H->SqL K H a xs)
  (hs:∀i x σ H,xs[i]? = some x->Pv i σ H->g x σ H λσ2 H2=>tb {D with nx:=Pv (i+1),ct:=Pv (i+1),bk:=D.nx} σ2 H2) (hd:∀σ H,Pv xs.length σ H->D.nx σ H) :
  ∃W:Nat->Nat->St->Hp->Prop,(∃m,W 0 m σ H)/\∀i m σ H,W i m σ H ->
   ((Itl K a).stop i H/\D.nx σ H)\/((Itl K a).go i H/\∃N:St->Hp->Prop,(∀σ' H',N σ' H'->∃m',m'<m/\W (i+1) m' σ' H')/\∀x H',(Itl K a).yld i H x H'->g x σ H' λσ2 H2=>tb {D with nx:=N,ct:=N,bk:=D.nx} σ2 H2):=by
 refine⟨λi m σ H=>m=xs.length-i/\i<=xs.length/\Pv i σ H,⟨xs.length,by simp,Nat.zero_le _,h0⟩,?_⟩;rintro i m σ H ⟨rfl,hi,p⟩;have q:=hl i σ H hi p;by_cases hlt:i<xs.length
 ·refine .inr ⟨⟨xs,xs[i],q,by simp[hlt]⟩,Pv (i+1),λσ' H' p'=>⟨xs.length-(i+1),by omega,rfl,hlt,p'⟩,λx H' y=>?_⟩
  obtain⟨e,y⟩:=y;subst e;exact hs i x σ _ (y xs q) p
 ·have e:i=xs.length:=by omega
  subst e;exact .inl ⟨⟨xs,q,Nat.le_refl _⟩,hd σ H p⟩
def JY{lo:Int}{n:Nat}{g:TG}{tb:TS}{D:Uo}{σ:St}{H:Hp}(Pv:Nat->St->Hp->Prop)(h0:Pv 0 σ H)
  (hs:∀i σ H,i<n->Pv i σ H->g (.int (lo+i)) σ H λσ2 H2=>tb {D with nx:=Pv (i+1),ct:=Pv (i+1),bk:=D.nx} σ2 H2) (hd:∀σ H,Pv n σ H->D.nx σ H) :
  ∃W:Nat->Nat->St->Hp->Prop,(∃m,W 0 m σ H)/\∀i m σ H,W i m σ H ->
   ((Itr lo n).stop i H/\D.nx σ H)\/((Itr lo n).go i H/\∃N:St->Hp->Prop,(∀σ' H',N σ' H'->∃m',m'<m/\W (i+1) m' σ' H')/\∀x H',(Itr lo n).yld i H x H'->g x σ H' λσ2 H2=>tb {D with nx:=N,ct:=N,bk:=D.nx} σ2 H2):=by
 refine⟨λi m σ H=>m=n-i/\i<=n/\Pv i σ H,⟨n,by simp,Nat.zero_le _,h0⟩,?_⟩;rintro i m σ H ⟨rfl,hi,p⟩;by_cases hlt:i<n
 ·refine .inr ⟨hlt,Pv (i+1),λσ' H' p'=>⟨n-(i+1),by omega,rfl,hlt,p'⟩,λx H' y=>?_⟩
  obtain⟨e,y⟩:=y;subst e y;exact hs i σ _ hlt p
 ·have e:i=n:=by omega
  subst e;exact .inl ⟨Nat.le_refl _,hd σ H p⟩
abbrev R2:=V->V->Hp->VK->Prop
def OpR(X:Cx)(f:Value->Value->Sem Value)(r:R2):Prop:=
 ∀(pins:List (Addr×Obj)) (s:Shared) (σ:St) (H:Hp) (x y:V) (v u:Value) (Q:VK),Inv X pins σ H s->ZL x v->ZL y u->r x y H Q ->
  wpAny (model X.prog X.w) X.A (f v u) (EP X pins σ Q) X.xe s
def Y8(X:Cx)(f:Value)(r:List V->Hp->VK->Prop):Prop:=
 ∀(pins:List (Addr×Obj)) (s:Shared) (σ:St) (H:Hp) (xs:List V) (us:List Value) (Q:VK),Inv X pins σ H s->Zy xs us->r xs H Q ->
  wpAny (model X.prog X.w) X.A (call f us) (EP X pins σ Q) X.xe s
def tOp(r:R2)(ta tb:TE):TE:=λσ H Q=>ta σ H λx H1=>tb σ H1 λy H2=>r x y H2 Q
inductive rI(C:Int->Int->Prop)(g:Int->Int->V):V->V->Hp->VK->Prop|mk {x y H Q} i j:x = .int i->y = .int j->C i j->Q (g i j) H->rI C g x y H Q
inductive rI0(g:Int->Int->V):V->V->Hp->VK->Prop|mk {x y H Q} i j:x = .int i->y = .int j->Q (g i j) H->rI0 g x y H Q
section
variable{X:Cx}{a b c:Expr}{ta tb tc:TE}{pos:Pos}
def ZlY(ha:PE X a ta)(hb:PE X b tb){pins:List (Addr×Obj)}{s:Shared}{σ:St}{H:Hp}{R:V->V->Hp->Prop}(I:Inv X pins σ H s)
  (h:ta σ H λx H1=>tb σ H1 λy H2=>R x y H2) {Q:Value->Shared->Prop} {f:Value->Value->Sem Value}
  (hf:∀v u s2 x y H2,Inv X pins σ H2 s2->ZL x v->ZL y u->R x y H2->wpAny (model X.prog X.w) X.A (f v u) Q X.xe s2) :
  wpAny (model X.prog X.w) X.A (eval a X.env) (λv s₁=>wpAny (model X.prog X.w) X.A (eval b X.env) (λu s₂=>wpAny (model X.prog X.w) X.A (f v u) Q X.xe s₂) X.xe s₁) X.xe s:=by
 refine thn (ha pins s σ H _ I h) λv s1 ⟨x,H1,I1,r1,q1⟩=>?_;refine thn (hb pins s1 σ H1 _ I1 q1) λu s2 ⟨y,H2,I2,r2,q2⟩=>?_;exact hf v u s2 x y H2 I2 r1 r2 q2
def ZD{op:Operator}{r:R2}(ho:OpR X (binaryOp op) r)(ha:PE X a ta)(hb:PE X b tb):PE X (.BinOp a op b pos) (tOp r ta tb):=by
 intro pins s σ H Q I h;exact wpAny_BinOp (ZlY ha hb I h λv u s2 x y H2 I2 rx ry q=>ho pins s2 σ H2 x y v u Q I2 rx ry q)
def opI{f:Value->Value->Sem Value}{C:Int->Int->Prop}{g:Int->Int->Int}
  (rule:∀(i j:Int) (t u:Tok) (s:Shared) (Q:Value->Shared->Prop) (E:Value->Shared->Prop),C i j->Q (.int (g i j) s.toks) {s with toks:=s.toks+1}->wpAny (model X.prog X.w) X.A (f (.int i t) (.int j u)) Q E s) :
  OpR X f (rI C λi j=>.int (g i j)):=by
 intro pins s σ H x y v u Q I rx ry h;obtain⟨i,j,rfl,rfl,hc,q⟩:=h;obtain⟨t,rfl⟩:=rx;obtain⟨t',rfl⟩:=ry;exact rule i j t t' s _ _ hc ⟨.int (g i j),H,I.tok _,⟨_,rfl⟩,q⟩
def Zlp{f:Value->Value->Sem Value}{g:Int->Int->Int}
  (rule:∀(i j:Int) (t u:Tok) (s:Shared) (Q:Value->Shared->Prop) (E:Value->Shared->Prop),Q (.int (g i j) s.toks) {s with toks:=s.toks+1}->wpAny (model X.prog X.w) X.A (f (.int i t) (.int j u)) Q E s) :
  OpR X f (rI0 λi j=>.int (g i j)):=by
 intro pins s σ H x y v u Q I rx ry h;obtain⟨i,j,rfl,rfl,q⟩:=h;obtain⟨t,rfl⟩:=rx;obtain⟨t',rfl⟩:=ry;exact rule i j t t' s _ _ ⟨.int (g i j),H,I.tok _,⟨_,rfl⟩,q⟩
def Zjh{f:Value->Value->Sem Value}{g:Int->Int->Bool}
  (rule:∀(i j:Int) (t u:Tok) (s:Shared) (Q:Value->Shared->Prop) (E:Value->Shared->Prop),Q (.bool (g i j)) s->wpAny (model X.prog X.w) X.A (f (.int i t) (.int j u)) Q E s) :
  OpR X f (rI0 λi j=>.bl (g i j)):=by
 intro pins s σ H x y v u Q I rx ry h;obtain⟨i,j,rfl,rfl,q⟩:=h;obtain⟨t,rfl⟩:=rx;obtain⟨t',rfl⟩:=ry;exact rule i j t t' s _ _ ⟨.bl (g i j),H,I,rfl,q⟩
def ZnV(i j:Int):Prop:=0<j/\j<1073741824
def ZlE(i j:Int):Prop:=(-(2^64)<i/\i<2^64)\/(-(2^64)<j/\j<2^64)
def ZlE.ok{i j:Int}(h:ZlE i j):IntMulOk i j:=by
 rcases h with⟨h1,h2⟩|⟨h1,h2⟩
 ·exact .of_left (intBits_le_64 h1 h2)
 ·exact .of_right (intBits_le_64 h1 h2)
def Zfi(k:Nat):(0:Int)<=2^k:=by
 rw[two_pow_cast];exact Int.natCast_nonneg _
def Z5:OpR X (binaryOp .Add) (rI0 λi j=>.int (i+j)):=Zlp λ_ _ _ _ _ _ _ q=>add_int q
def Uw:OpR X (binaryOp .Sub) (rI0 λi j=>.int (i-j)):=Zlp λ_ _ _ _ _ _ _ q=>sub_int q
def DL:OpR X (binaryOp .Mult) (rI ZlE λi j=>.int (i*j)):=opI λ_ _ _ _ _ _ _ hc q=>mul_int q hc.ok
def Zjs:OpR X (binaryOp .FloorDiv) (rI ZnV λi j=>.int (i / j)):=opI λi j _ _ _ _ _ hc q=>by
 have h1:(0:Int)<j:=hc.1;have h2:j<1073741824:=hc.2;exact floordiv_int (by omega) (by rw[Int.fdiv_eq_ediv_of_nonneg i (by omega)];exact q) (.inl (PyProof.noPylong_small (by omega)))
def US:OpR X (binaryOp .Mod) (rI (λ_ j=>0<j) λi j=>.int (i%j)):=opI λi j _ _ _ _ _ hc q=>by
 have h1:(0:Int)<j:=hc;exact mod_int' (by omega) (by rw[Int.fmod_eq_emod_of_nonneg i (by omega)];exact q)
def Zis:OpR X (binaryOp .RShift) (rI (λ_ j=>0<=j) λi j=>.int (i / 2^j.toNat)):=opI λi j _ _ _ _ _ hc q=>
 rshift_int hc (by rw[Int.fdiv_eq_ediv_of_nonneg i (Zfi _)];exact q)
def Zme:OpR X (binaryOp .BitAnd) (rI0 λi j=>.int (Builtin.bitAnd i j)):=Zlp λ_ _ _ _ _ _ _ q=>and_int q
def Zhr:OpR X (inplaceOp .FloorDiv) (rI ZnV λi j=>.int (i / j)):=opI λi j _ _ _ _ _ hc q=>by
 have h1:(0:Int)<j:=hc.1;have h2:j<1073741824:=hc.2;exact ifloordiv_int (by omega) (by rw[Int.fdiv_eq_ediv_of_nonneg i (by omega)];exact q) (.inl (PyProof.noPylong_small (by omega)))
end
def Znq:V->V->Bool
 |.non,.non=>true|.non,.int _=>true|.int _,.non=>true|.non,.bl _=>true|.bl _,.non=>true|.non,.str _=>true|.str _,.non=>true
 |.int _,.int _=>true|.bl _,.bl _=>true|.str _,.str _=>true|.byt _,.byt _=>true
 |.int _,.str _=>true|.str _,.int _=>true|.bl _,.str _=>true|.str _,.bl _=>true
 |_,_=>false
inductive rEq:V->V->Hp->VK->Prop|mk {x y H Q}:Znq x y=true->Q (.bl (decide (x=y))) H->rEq x y H Q
inductive rNe:V->V->Hp->VK->Prop|mk {x y H Q}:Znq x y=true->Q (.bl (!decide (x=y))) H->rNe x y H Q
def ZfI{i j:Int}:decide (V.int i=V.int j)=(i==j):=by
 rw[Bool.eq_iff_iff];simp
def Zhy{i j:Bool}:decide (V.bl i=V.bl j)=(i==j):=by
 rw[Bool.eq_iff_iff];simp
def ZfF{i j:Str}:decide (V.str i=V.str j)=(i==j):=by
 rw[Bool.eq_iff_iff];simp
def Zgc{i j:Array UInt8}:decide (V.byt i=V.byt j)=(i.toList==j.toList):=by
 rw[Bool.eq_iff_iff];cases i;cases j;simp
section
variable{X:Cx}{a b c:Expr}{ta tb tc:TE}{pos:Pos}
def ZU{pins:List (Addr×Obj)}{σ:St}{H:Hp}{s:Shared}{Q:VK}{k k':Bool}(I:Inv X pins σ H s)(q:Q (.bl k) H)(e:k=k'):EP X pins σ Q (.bool k') s:=by
 subst e;exact⟨.bl k,H,I,rfl,q⟩
def Vv:OpR X (compareOp .Eq) rEq:=by
 intro pins s σ H x y v u Q I rx ry h;obtain⟨hs,q⟩:=h;cases x with
 |non=>
  cases rx;cases y with
  |non=>cases ry;exact PySem.EqNone.eq_none_none (ZU I q (by simp))
  |bl j=>cases ry;exact PySem.EqNone.eq_none_bool (ZU I q (by simp))
  |int j=>obtain⟨t',rfl⟩:=ry;exact PySem.EqNone.eq_none_int (ZU I q (by simp))
  |str j=>obtain⟨t',rfl⟩:=ry;exact PySem.EqNone.eq_none_str (ZU I q (by simp))
  |_=>exact absurd (show false=true from hs) Bool.false_ne_true
 |bl i=>
  cases rx;cases y with
  |non=>cases ry;exact PySem.EqNone.eq_bool_none (ZU I q (by simp))
  |bl j=>cases ry;exact eq_bool (ZU I q Zhy)
  |str j=>obtain⟨t',rfl⟩:=ry;exact PySem.EqMixed.eq_bool_str (ZU I q (by simp))
  |_=>exact absurd (show false=true from hs) Bool.false_ne_true
 |int i=>
  obtain⟨t,rfl⟩:=rx;cases y with
  |non=>cases ry;exact PySem.EqNone.eq_int_none (ZU I q (by simp))
  |int j=>obtain⟨t',rfl⟩:=ry;exact eq_int (ZU I q ZfI)
  |str j=>obtain⟨t',rfl⟩:=ry;exact PySem.EqMixed.eq_int_str (ZU I q (by simp))
  |_=>exact absurd (show false=true from hs) Bool.false_ne_true
 |str i=>
  obtain⟨t,rfl⟩:=rx;cases y with
  |non=>cases ry;exact PySem.EqNone.eq_str_none (ZU I q (by simp))
  |bl j=>cases ry;exact PySem.EqMixed.eq_str_bool (ZU I q (by simp))
  |int j=>obtain⟨t',rfl⟩:=ry;exact PySem.EqMixed.eq_str_int (ZU I q (by simp))
  |str j=>obtain⟨t',rfl⟩:=ry;exact eq_str (ZU I q ZfF)
  |_=>exact absurd (show false=true from hs) Bool.false_ne_true
 |byt i=>
  obtain⟨t,rfl⟩:=rx;cases y with
  |byt j=>obtain⟨t',rfl⟩:=ry;exact PySem.W.eq_bytes (ZU I q Zgc)
  |_=>exact absurd (show false=true from hs) Bool.false_ne_true
 |_=>cases y<;>exact absurd (show false=true from hs) Bool.false_ne_true
def Zb0:OpR X (compareOp .NotEq) rNe:=by
 intro pins s σ H x y v u Q I rx ry h;obtain⟨hs,q⟩:=h;cases x with
 |non=>
  cases rx;cases y with
  |non=>cases ry;exact PySem.EqNone.ne_none_none (ZU I q (by simp))
  |bl j=>cases ry;exact PySem.EqNone.ne_none_bool (ZU I q (by simp))
  |int j=>obtain⟨t',rfl⟩:=ry;exact PySem.EqNone.ne_none_int (ZU I q (by simp))
  |str j=>obtain⟨t',rfl⟩:=ry;exact PySem.EqNone.ne_none_str (ZU I q (by simp))
  |_=>exact absurd (show false=true from hs) Bool.false_ne_true
 |bl i=>
  cases rx;cases y with
  |non=>cases ry;exact PySem.EqNone.ne_bool_none (ZU I q (by simp))
  |bl j=>cases ry;exact ne_bool (ZU I q (congrArg not Zhy))
  |str j=>obtain⟨t',rfl⟩:=ry;exact PySem.EqMixed.ne_bool_str (ZU I q (by simp))
  |_=>exact absurd (show false=true from hs) Bool.false_ne_true
 |int i=>
  obtain⟨t,rfl⟩:=rx;cases y with
  |non=>cases ry;exact PySem.EqNone.ne_int_none (ZU I q (by simp))
  |int j=>obtain⟨t',rfl⟩:=ry;exact ne_int (ZU I q (congrArg not ZfI))
  |str j=>obtain⟨t',rfl⟩:=ry;exact PySem.EqMixed.ne_int_str (ZU I q (by simp))
  |_=>exact absurd (show false=true from hs) Bool.false_ne_true
 |str i=>
  obtain⟨t,rfl⟩:=rx;cases y with
  |non=>cases ry;exact PySem.EqNone.ne_str_none (ZU I q (by simp))
  |bl j=>cases ry;exact PySem.EqMixed.ne_str_bool (ZU I q (by simp))
  |int j=>obtain⟨t',rfl⟩:=ry;exact PySem.EqMixed.ne_str_int (ZU I q (by simp))
  |str j=>obtain⟨t',rfl⟩:=ry;exact ne_str (ZU I q (congrArg not ZfF))
  |_=>exact absurd (show false=true from hs) Bool.false_ne_true
 |byt i=>
  obtain⟨t,rfl⟩:=rx;cases y with
  |byt j=>obtain⟨t',rfl⟩:=ry;exact PySem.W.ne_bytes (ZU I q (congrArg not Zgc))
  |_=>exact absurd (show false=true from hs) Bool.false_ne_true
 |_=>cases y<;>exact absurd (show false=true from hs) Bool.false_ne_true
def Za7:OpR X (compareOp .Lt) (rI0 λi j=>.bl (decide (i<j))):=Zjh λ_ _ _ _ _ _ _ q=>lt_int q
def ZhX:OpR X (compareOp .LtE) (rI0 λi j=>.bl (decide (i<=j))):=Zjh λ_ _ _ _ _ _ _ q=>le_int q
def Vy:OpR X (compareOp .Gt) (rI0 λi j=>.bl (decide (j<i))):=Zjh λ_ _ _ _ _ _ _ q=>gt_int q
def ZkC:OpR X (compareOp .GtE) (rI0 λi j=>.bl (decide (j<=i))):=Zjh λ_ _ _ _ _ _ _ q=>ge_int q
def ZG(b:Expr){op:CmpOp}(h:op ≠ .In:=by decide)(h2:op ≠ .NotIn:=by decide):behindInMarks op b=false:=by
 have e1:(op==CmpOp.In)=false:=by cases op<;>first|rfl|exact absurd rfl h
 have e2:(op==CmpOp.NotIn)=false:=by cases op<;>first|rfl|exact absurd rfl h2
 cases b<;>simp[behindInMarks,e1,e2]
def JG{op:CmpOp}{r:R2}(ho:OpR X (compareOp op) r)(ha:PE X a ta)(hb:PE X b tb)(hm:behindInMarks op b=false):PE X (.Compare a [op] [b] pos) (tOp r ta tb):=by
 intro pins s σ H Q I h;exact wpAny_Compare1 (ZlY ha hb I h λv u s2 x y H2 I2 rx ry q=>ho pins s2 σ H2 x y v u Q I2 rx ry q) hm
inductive tTest_(Q:Bool->Hp->Prop)(x:V)(H':Hp):Prop|mk k:x = .bl k->Q k H'->tTest_ Q x H' def Zm6 (t:TE):TT:=λσ H Q=>t σ H λx H'=>tTest_ Q x H'
def ZJ{op:CmpOp}{r:R2}(ho:OpR X (compareOp op) r)(ha:PE X a ta)(hb:PE X b tb)(hm:behindInMarks op b=false):PT X (.Compare a [op] [b] pos) (Zm6 (tOp r ta tb)):=by
 intro pins s σ H Q I h;refine wpAny_isTrue_Compare1 (thn (ha pins s σ H _ I h) λv s1 ⟨x,H1,I1,r1,q1⟩=>thn (hb pins s1 σ H1 _ I1 q1) λu s2 ⟨y,H2,I2,r2,q2⟩=>
  thn (ho pins s2 σ H2 x y v u _ I2 r1 r2 q2) λc s3 ⟨z,H3,I3,r3,k,e,q3⟩=>?_) hm;subst e;cases r3;exact wpAny_truthy_bool ⟨H3,I3,q3⟩
def Zl0(r r':R2)(ta tb tc:TE):TE:=λσ H Q=>ta σ H λx H1=>tb σ H1 λy H2=>r x y H2 λz H3=>∃k,z = .bl k /\
 (if k=true then tc σ H3 λw' H4=>r' y w' H4 Q else Q (.bl false) H3)
def ZdU{op op':CmpOp}{r r':R2}(ho:OpR X (compareOp op) r)(ho':OpR X (compareOp op') r')(ha:PE X a ta)(hb:PE X b tb)(hc:PE X c tc)
  (hm:lastMarks [op,op'] [b,c]=false:=by with_unfolding_all rfl):PE X (.Compare a [op,op'] [b,c] pos) (Zl0 r r' ta tb tc):=by
 intro pins s σ H Q I h;refine Compare_chain (thn (ha pins s σ H _ I h) λv s1 ⟨x,H1,I1,r1,q1⟩=>chain_link (thn (hb pins s1 σ H1 _ I1 q1) λu s2 ⟨y,H2,I2,r2,q2⟩=>
  thn (ho pins s2 σ H2 x y v u _ I2 r1 r2 q2) λd s3 ⟨z,H3,I3,r3,k,e,q3⟩=>?_)) hm;subst e;cases r3;refine wpAny_truthy_bool ?_;cases k with
 |false=>exact ite_ff ⟨.bl false,H3,I3,rfl,q3⟩
 |true=>exact ite_tt (chain_last (thn (hc pins s3 σ H3 _ I3 q3) λw' s4 ⟨z',H4,I4,r4,q4⟩=>ho' pins s4 σ H4 y z' u w' Q I4 r2 r4 q4))
def Zax:(sizeLine:Nat)<2^63:=by rw[sizeLine_eq];decide
def Zed{x:V}{us:List Value}(r:Zy [x] us):∃u,us=[u]/\ZL x u:=by
 cases r with
 |cons r1 r2=>cases r2;exact⟨_,rfl,r1⟩
def ZmP{x y:V}{us:List Value}(r:Zy [x,y] us):∃u w',us=[u,w']/\ZL x u/\ZL y w':=by
 cases r with
 |cons r1 r2=>
  cases r2 with
  |cons r3 r4=>cases r4;exact⟨_,_,rfl,r1,r3⟩
def ZgK(hc:X.calm=true):Y8 X (.builtin "max") (λxs H Q=>∃i j,xs=[.int i,.int j]/\Q (.int (if j > i then j else i)) H):=by
 intro pins s σ H xs us Q I r h;obtain⟨i,j,rfl,q⟩:=h;obtain⟨u,w',rfl,⟨t,rfl⟩,⟨t',rfl⟩⟩:=ZmP r;refine max_two_ints (I.ok.hd hc) λ_ _ k=>⟨_,H,I.kept k,?_,q⟩;by_cases hj:j > i
 ·rw[if_pos hj,if_pos hj];exact⟨_,rfl⟩
 ·rw[if_neg hj,if_neg hj];exact⟨_,rfl⟩
end
structure ObjM(h:Heap)(x dx C:Addr)(mA:Str->Option Value):Prop where
 obj:h.get? x=some (instObj C dx)
 ns:h.Ns1 dx mA
 ne:dx≠x
def Zg9{h:Heap}{dx:Addr}{mA:Str->Option Value}(n:h.Ns1 dx mA):∃od,h.get? dx=some od/\∀name,lookIn name od=some (mA name):=by
 obtain⟨o,es,ep,ho,hd,hk,_,hm⟩:=n;refine⟨o,ho,λname=>?_⟩;have e:=hm name;unfold nsFind findBy at e;rw[<- Array.find?_toList] at e;unfold lookIn;rw[hd];dsimp only;split
 ·rename_i y q
  rw[q] at e;exact congrArg some e
 ·rename_i q
  rw[q] at e;have a:es.toList.any (·.refKey)=false:=by
   rw[List.any_eq_false];intro y hy;obtain⟨z,t,hkey⟩:=hk y (Array.mem_toList_iff.mp hy);simp[DictEntry.refKey,hkey]
  have a':¬ es.toList.any (·.refKey)=true:=by rw[a];exact Bool.false_ne_true
  rw[if_neg a'];exact congrArg some e
def ObjM.look{h:Heap}{x dx C:Addr}{mA:Str->Option Value}(I:ObjM h x dx C mA):∃od,PySem.W.InstAt h x (instObj C dx) C (some od)/\∀name,lookIn name od=some (mA name):=
 let ⟨od,ho,hl⟩:=Zg9 I.ns
 ⟨od,⟨I.obj,rfl,rfl,ho⟩,hl⟩
section
variable{prog:Program}{w:World}{A:Around}{E:Value->Shared->Prop}{s:Shared}{K:Frag}{x dx C f:Addr}{mA:Str->Option Value}{name:Str}{v:Value}
def Zkm{expr:Bool}{Q:Value->Shared->Prop}(X:K.In s.heap)(I:ObjM s.heap x dx C mA)(hg:plainGet K C name=true)(hh:hasDictIn K C=true)
  (ha:findIn K (.ref C) name=some none) (hv:mA name=some v) (hv':PySem.W.handedIn v=true) (h:Q v {s with toks:=s.toks+1}) :
  wpAny (model prog w) A (getAttr (.ref x) name expr) Q E s:=by
 obtain⟨od,J,hl⟩:=I.look;exact PySem.W.get_value X J (PySem.W.plainGet_of hg).1 (PySem.W.findObj_own hh ha rfl (by rw[hl,hv])) hv' h
def ZiK{pl:Sem Bool}{Q:Value×List Value->Shared->Prop}(X:K.In s.heap)(I:ObjM s.heap x dx C mA)(hg:plainGet K C name=true)
  (hf:findIn K (.ref C) name=some (some (.ref f))) (ht:isFn K (.ref f)=true) (hv:mA name=none) (h:Q (.ref f,[.ref x]) s) :
  wpAny (model prog w) A (getMethod (.ref x) name pl) Q E s:=by
 obtain⟨od,J,hl⟩:=I.look;exact PySem.W.method_fn X J (PySem.W.plainGet_of hg).1 (PySem.W.plainGet_of hg).2 hf (beq_iff_eq.mp ht) (by show(lookIn name od).map (·.isSome)=some false;rw[hl,hv];rfl) h
def Zjf{ns:List Str}{Q:Unit->Shared->Prop}(X:K.In s.heap)(I:ObjM s.heap x dx C mA)
  (hs:findIn K (.ref C) "__setattr__" = some (some (.builtin "object.__setattr__"))) (hp:PySem.W.plainOver K C=true) (ht:PySem.W.takerIn K C name=some none) (hh:hasDictIn K C=true)
  (hw:PySem.Within mA ns) (hsz:ns.length<=sizeLine)
  (h:∀h',ObjM h' x dx C (λy=>if y=name then some v else mA y)->Heap.SameBut dx s.heap h'->Q () {s with heap:=h',toks:=s.toks+2}) :
  wpAny (model prog w) A (setAttr (.ref x) name v) Q E s:=by
 obtain⟨od,J,hl⟩:=I.look;refine PySem.W.set_plain X J hs (PySem.W.osa_open (s:={s with toks:=s.toks+1}) (r:=none) X J hp ht λb=>?_);obtain⟨cd,hc,hd'⟩:=PySem.W.any_some hh;have hx:s.heap.get? x=some ⟨.ref C,some dx,.plain,#[]⟩:=I.obj;refine wpAny_bind (wpAny_pure (wpAny_bind (wpAny_bind (wpAny_loadPart hx (wpAny_bind (PySem.W.Looks.here (s:={s with toks:=s.toks+1}) (PySem.W.looks_clsIn X hc) ?_))))));rw[hd'];refine wpAny_pure (a:=some dx) (wpAny_bind (wpAny_pure (wpAny_bind ?_)));refine wpAny_nsSet1 (s:={s with toks:=s.toks+1}) I.ns λh' hn2 hs2=>?_;obtain⟨oD,esD,epD,hoD,hdD,hcD⟩:=hn2.count (PySem.Within.cons name v hw);refine wpAny_bind (wpAny_lookBehind hoD (by rw[hdD];exact pastItsLine_dict (Nat.le_trans hcD (by rw[length_cons];omega))) ?_);exact wpAny_pure (h _ ⟨(hs2.2 _ (Ne.symm I.ne)).trans I.obj,hn2,I.ne⟩ hs2)
def Zh7{R:Result->Shared->Prop}{vs:List Value}{kw:List (Str×Value)}(X:K.In s.heap)(hm:PySem.W.makesIn K C=true)
  (hi:findIn K (.ref C) "__init__" = some (some (.ref f))) (hf:PySem.W.typeIn K (.ref f)=some (.type "function"))
  (h:codeAny (model prog w) (A.under (.builtin "type.__call__" ⟨.ref C::vs,kw⟩)) (.call (.ref f) ⟨.ref (s.heap.objs.size+1)::vs,kw⟩) (PySem.W.InitBack (s.heap.objs.size+1) R)
   {s with heap:=(s.heap.push emptyDict).push (instObj C s.heap.objs.size)}) :
  codeAny (model prog w) A (.call (.ref C) ⟨vs,kw⟩) R s:=by
 obtain⟨hh,g,d,t,os⟩:=s;exact PySem.W.make_core (PySem.W.makes_of X hm) (PySem.W.looks_findIn X hi) (λself=>PySem.W.bind_fn X self hf) (.inl rfl) h
end
def JV(f:Str)(v:V):List (Str×V)->List (Str×V)
 | []=>[(f,v)]
 |(g,x)::r=>if g=f then (g,v)::r else (g,x)::JV f v r
theorem D9(f g:Str)(v:V):∀fs:List (Str×V),(JV f v fs).lookup g=if g=f then some v else fs.lookup g
 | []=>by
  show List.lookup g [(f,v)]=_;by_cases h:g=f
  ·have hb:(g==f)=true:=beq_iff_eq.mpr h
   simp only[List.lookup,hb,if_pos h]
  ·have hb:(g==f)=false:=beq_eq_false_iff_ne.mpr h
   simp only[List.lookup,hb,if_neg h]
 |(k,x)::r=>by
  have ih:=D9 f g v r;rw[show JV f v ((k,x)::r)=(if k=f then (k,v)::r else (k,x)::JV f v r) from rfl];by_cases hk:k=f
  ·rw[if_pos hk]
   by_cases h:g=k
   ·have hb:(g==k)=true:=beq_iff_eq.mpr h
    simp only[List.lookup,hb,if_pos (h.trans hk)]
   ·have hb:(g==k)=false:=beq_eq_false_iff_ne.mpr h
    simp only[List.lookup,hb,if_neg (λe:g=f=>h (e.trans hk.symm))]
  ·rw[if_neg hk]
   by_cases h:g=k
   ·have hb:(g==k)=true:=beq_iff_eq.mpr h
    simp only[List.lookup,hb,if_neg (λe:g=f=>hk (h.symm.trans e))]
   ·have hb:(g==k)=false:=beq_eq_false_iff_ne.mpr h
    simp only[List.lookup,hb];exact ih
theorem DI(f:Str)(v:V):∀fs:List (Str×V),f∈(JV f v fs).map (·.1)/\∀g,g∈fs.map (·.1)->g∈(JV f v fs).map (·.1)
 | []=>⟨by simp[JV],λg h=>by simp at h⟩
 |(k,x)::r=>by
  obtain⟨i1,i2⟩:=DI f v r;rw[show JV f v ((k,x)::r)=(if k=f then (k,v)::r else (k,x)::JV f v r) from rfl];by_cases hk:k=f
  ·rw[if_pos hk]
   subst hk;exact⟨by simp,λg h=>by simpa using h⟩
  ·rw[if_neg hk]
   refine⟨?_,λg h=>?_⟩
   ·rw[map_cons]
    exact mem_cons_of_mem _ i1
   ·rw[map_cons] at h ⊢
    rcases mem_cons.mp h with e|e
    ·exact mem_cons.mpr (.inl e)
    ·exact mem_cons_of_mem _ (i2 g e)
theorem DU(f:Str)(v:V):∀fs:List (Str×V),(JV f v fs).length<=fs.length+1
 | []=>by simp[JV]
 |(k,x)::r=>by
  have ih:=DU f v r;rw[show JV f v ((k,x)::r)=(if k=f then (k,v)::r else (k,x)::JV f v r) from rfl];by_cases hk:k=f
  ·rw[if_pos hk,length_cons,length_cons];omega
  ·rw[if_neg hk,length_cons,length_cons];omega
def Vl.some_of{v:V}{o:Option Value}(r:Vl (some v) o):∃u,o=some u/\ZL v u:=by
 cases o with
 |none=>exact(show False from r).elim
 |some u=>exact⟨u,rfl,r⟩
def Vl.none_of{o:Option Value}(r:Vl none o):o=none:=by
 cases o with
 |none=>rfl
 |some u=>exact(show False from r).elim
def Zg8{v:V}{u:Value}(r:ZL v u):PySem.W.handedIn u=true:=by
 cases v with
 |non=>cases (show u=Value.none from r);rfl
 |bl b=>cases (show u=Value.bool b from r);rfl
 |int i=>obtain⟨t,e⟩:=(show ∃t,u=Value.int i t from r);cases e;rfl
 |str x=>obtain⟨t,e⟩:=(show ∃t,u=Value.str x t from r);cases e;rfl
 |byt b=>obtain⟨t,e⟩:=(show ∃t,u=Value.bytes b t from r);cases e;rfl
 |flt b=>obtain⟨t,e⟩:=(show ∃t,u=Value.float b t from r);cases e;rfl
 |ref a=>cases (show u=Value.ref a from r);rfl
 |ty n=>cases (show u=Value.type n from r);rfl
section
variable{P:Program}{w:World}{H H':Hp}{h h':Heap}{a C dx:Addr}{fs fs':List (Str×V)}
def Zcd(hok:HOk P w H h)(e:H a=some (.ins C dx fs)):∃mA,ObjM h a dx C mA/\(∀f,Vl (fs.lookup f) (mA f))/\PySem.Within mA (fs.map (·.1))/\fs.length<=1000/\H dx=some (.own a):=by
 obtain⟨d,z,ne,ob,mA,n,r,q⟩:=(show Jc P w H h a (.ins C dx fs) from hok a _ e);exact⟨mA,⟨ob,n,ne⟩,r,q,z,d⟩
end
structure Cls(K:Frag)(C:Addr):Prop where
 pg:plainGet K C Str.empty=true
 hd:hasDictIn K C=true
 po:PySem.W.plainOver K C=true
 sa:findIn K (.ref C) "__setattr__" = some (some (.builtin "object.__setattr__"))
def Cls.get{K:Frag}{C:Addr}(c:Cls K C)(f:Str):plainGet K C f=true:=c.pg
def Va(K:Frag)(C:Addr)(f:Str):Prop:=findIn K (.ref C) f=some none
def Va.taker{K:Frag}{C:Addr}{f:Str}(n:Va K C f):PySem.W.takerIn K C f=some none:=by
 unfold PySem.W.takerIn;rw[show findIn K (.ref C) f=some none from n];rfl
structure ZhK(K:Frag)(C:Addr)(m:Str)(f:Addr):Prop where
 at_:findIn K (.ref C) m=some (some (.ref f))
 fn:isFn K (.ref f)=true
 kp:keepIn K (.ref f)=true
section
variable{X:Cx}{pins:List (Addr×Obj)}{σ:St}{H:Hp}{s:Shared}{a C dx:Addr}{fs:List (Str×V)}{f:Str}{v:V}{A:Around}{E:Value->Shared->Prop}
def ZaX{b:Bool}{Q:Value->Shared->Prop}(I:Inv X pins σ H s)(e:H a=some (.ins C dx fs))(c:Cls X.K C)(n:Va X.K C f)(l:fs.lookup f=some v)
  (h:∀u s',Inv X pins σ H s'->ZL v u->Q u s'):wpAny (model X.prog X.w) A (getAttr (.ref a) f b) Q E s:=by
 obtain⟨mA,O,r,_,_,_⟩:=Zcd I.hok e;obtain⟨u,hu,ru⟩:=Vl.some_of (v:=v) (o:=mA f) (by rw[<- l];exact r f);exact Zkm I.kIn O (c.get f) c.hd n hu (Zg8 ru) (h u _ (I.tok _) ru)
def Za8{m:Str}{g:Addr}{pl:Sem Bool}{Q:Value×List Value->Shared->Prop}(I:Inv X pins σ H s)(e:H a=some (.ins C dx fs))(c:Cls X.K C)(k:ZhK X.K C m g)(l:fs.lookup m=none)
  (h:Q (.ref g,[.ref a]) s):wpAny (model X.prog X.w) A (getMethod (.ref a) m pl) Q E s:=by
 obtain⟨mA,O,r,_,_,_⟩:=Zcd I.hok e;have hn:mA m=none:=Vl.none_of (by rw[<- l];exact r m);exact ZiK I.kIn O (c.get m) k.at_ k.fn hn h
def ZaR{y:V}{u:Value}{Q:Unit->Shared->Prop}(I:Inv X pins σ H s)(e:H a=some (.ins C dx fs))(c:Cls X.K C)(n:Va X.K C f)(hl:fs.length<1000)(ry:ZL y u)
  (h:∀s',Inv X pins σ (upd H a (.ins C dx (JV f y fs))) s'->Q () s'):wpAny (model X.prog X.w) A (setAttr (.ref a) f u) Q E s:=by
 obtain⟨mA,O,r,wi,_,ho⟩:=Zcd I.hok e;have hz:(fs.map (·.1)).length<=sizeLine:=by rw[length_map,sizeLine_eq];omega
 refine Zjf I.kIn O c.sa c.po n.taker c.hd wi hz λh' O' sb=>h _ ?_;have hd:∃o,h'.get? dx=some o:=let ⟨o,_,_,e',_⟩:=O'.ns;⟨o,e'⟩
 refine I.write (x:=a) (e:=dx) (by rw[e];exact True.intro) (.inr ho) (λb q hb z=>(sb.2 b hb).trans z) hd ?_;refine⟨by rw[Zj O.ne];exact ho,?_,O.ne,O'.obj,_,O'.ns,λg=>?_,λg hg=>?_⟩
 ·have:=DU f y fs;omega
 ·show Vl ((JV f y fs).lookup g) (if g=f then some u else mA g)
  rw[D9];by_cases q:g=f
  ·rw[if_pos q,if_pos q];exact ry
  ·rw[if_neg q,if_neg q];exact r g
 ·by_cases q:g=f
  ·rw[q];exact(DI f y fs).1
  ·refine(DI f y fs).2 g (wi g λz=>hg ?_)
   show(if g=f then some u else mA g)=none;rw[if_neg q];exact z
def Inv.made(I:Inv X pins σ H s):Inv X pins σ (upd (upd H s.heap.objs.size (.own (s.heap.objs.size+1))) (s.heap.objs.size+1) (.ins C s.heap.objs.size []))
  {s with heap:=(s.heap.push emptyDict).push (instObj C s.heap.objs.size)}:=by
 have e1:(s.heap.push emptyDict).get? s.heap.objs.size=some emptyDict:=Heap.get?_push_size s.heap rfl;have e2:((s.heap.push emptyDict).push (instObj C s.heap.objs.size)).get? (s.heap.objs.size+1)=some (instObj C s.heap.objs.size):=by
  have:=Heap.get?_push_size (s.heap.push emptyDict) (o:=instObj C s.heap.objs.size) rfl
  rwa [Heap.size_push] at this
 have e3:(s.heap.push emptyDict).Ns s.heap.objs.size (λ_=>none):=⟨emptyDict,#[],_,e1,rfl,(λe he=>absurd he (by simp)),λ_=>rfl⟩;have I1:=I.laid (a:=s.heap.objs.size) (o:=.own (s.heap.objs.size+1)) (h':=s.heap.push emptyDict) (t':=s.toks) (λb u q=>Heap.get?_push_of_some _ q) (Nat.le_refl _) ⟨_,e1⟩;refine I1.laid (a:=s.heap.objs.size+1) (o:=.ins C s.heap.objs.size []) (t':=s.toks) (λb u q=>Heap.get?_push_of_some _ q) (Nat.le_of_eq (Heap.size_push _ _)) ?_;have ne:s.heap.objs.size≠s.heap.objs.size+1:=Nat.ne_of_lt (Nat.lt_succ_self _);refine⟨by rw[Zj ne,Zb],Nat.zero_le _,ne,e2,λ_=>none,(Heap.Ns1.of_empty e3).at λo q=>Heap.get?_push_of_some _ q,λ_=>True.intro,λy hy=>absurd rfl hy⟩
def Zgd{prog:Program}{w:World}{env:Env}{e:Expr}{f:Str}{pos:Pos}{s:Shared}{Q:Value->Shared->Prop}(hb:attributeBase e f env (eval e env)=eval e env)
  (h:wpAny (model prog w) A (eval e env) (λo s₁=>wpAny (model prog w) A (getAttr o f true) Q E s₁) E s):wpAny (model prog w) A (eval (.Attribute e f pos) env) Q E s:=
 Attribute_any_ h (by rw[arm_eval_Attribute,hb])
end
inductive tFld_(K:Frag)(f:Str)(Q:VK)(x:V)(H1:Hp):Prop|mk a C dx fs v:x = .ref a->H1 a=some (.ins C dx fs)->Cls K C->Va K C f->fs.lookup f=some v->Q v H1->tFld_ K f Q x H1 def ZkV (K:Frag) (ta:TE) (f:Str):TE:=λσ H Q=>ta σ H λx H1=>tFld_ K f Q x H1
inductive sFld_(K:Frag)(f:Str)(D:Uo)(σ:St)(y:V)(x:V)(H2:Hp):Prop|mk a C dx fs:x = .ref a->H2 a=some (.ins C dx fs)->Cls K C->Va K C f->fs.length<1000->D.nx σ (upd H2 a (.ins C dx (JV f y fs)))->sFld_ K f D σ y x H2
def Zmt(K:Frag)(ta tv:TE)(f:Str):TS:=λD σ H=>tv σ H λy H1=>ta σ H1 λx H2=>sFld_ K f D σ y x H2
def Znc(X:Cx)(op:Operator)(rd:V->V->Hp->VK->Prop):Prop:=
 ∀(pins:List (Addr×Obj)) (s:Shared) (σ:St) (H:Hp) (x y:V) (u v:Value) (Q:VK),Inv X pins σ H s->ZL x u->ZL y v->rd x y H Q->wpAny (model X.prog X.w) X.A (inplaceOp op u v) (EP X pins σ Q) X.xe s
inductive sFldAug_(K:Frag)(tv:TE)(rd:V->V->Hp->VK->Prop)(f:Str)(D:Uo)(σ:St)(x:V)(H1:Hp):Prop|mk a C dx fs v:x = .ref a->H1 a=some (.ins C dx fs)->Cls K C->Va K C f->fs.lookup f=some v->(tv σ H1 λy H2=>rd v y H2 λz H3=>∃dx' fs',H3 a=some (.ins C dx' fs')/\fs'.length<1000/\D.nx σ (upd H3 a (.ins C dx' (JV f z fs'))))->sFldAug_ K tv rd f D σ x H1
def ZjK(K:Frag)(ta tv:TE)(rd:V->V->Hp->VK->Prop)(f:Str):TS:=λD σ H=>ta σ H λx H1=>sFldAug_ K tv rd f D σ x H1
section
variable{X:Cx}{o e value:Expr}{f:Str}{pos pos' tpos:Pos}{ta tv:TE}
def Zu(he:PE X e ta)(hb:attributeBase e f X.env (eval e X.env)=eval e X.env):PE X (.Attribute e f pos) (ZkV X.K ta f):=by
 intro pins s σ H Q I h;refine Zgd hb (thn (he pins s σ H _ I h) λu s1 ⟨x,H1,I1,rx,a,C,dx,fs,v,ex,ea,c,n,l,q⟩=>?_);subst ex;obtain rfl:u=Value.ref a:=rx;exact ZaX I1 ea c n l λu' s2 I2 ru=>⟨v,H1,I2,ru,q⟩
def Jm(ha:PE X o ta)(hv:PE X value tv)(hs:swapsWith value (some (.Attribute o f pos')) pos.line X.env=pure false):PS X (.Assign [.Attribute o f pos'] value pos) (Zmt X.K ta tv f):=by
 intro pins s σ H D I h;refine plainObj_wpAny_Assign_Attribute (thn (hv pins s σ H _ I h) λu s1 ⟨y,H1,I1,ry,q⟩=>thn (ha pins s1 σ H1 _ I1 q) λov s2 ⟨x,H2,I2,rx,a,C,dx,fs,ex,ea,c,n,l,q2⟩=>?_) hs;subst ex;obtain rfl:ov=Value.ref a:=rx;exact ZaR I2 ea c n l ry λs3 I3=>⟨σ,_,I3,q2⟩
def ZbV{op:Operator}{rd:V->V->Hp->VK->Prop}(ha:PE X o ta)(hv:PE X value tv)(hop:Znc X op rd):PS X (.AugAssign (.Attribute o f tpos) op value pos) (ZjK X.K ta tv rd f):=by
 intro pins s σ H D I h;refine wpAny_AugAssign_AttributeAny (thn (ha pins s σ H _ I h) λov s1 ⟨x,H1,I1,rx,a,C,dx,fs,v,ex,ea,c,n,l,q⟩=>?_);subst ex;obtain rfl:ov=Value.ref a:=rx;refine ZaX I1 ea c n l λu s2 I2 ru=>thn (hv pins s2 σ H1 _ I2 q) λw3 s3 ⟨y,H2,I3,ry,q3⟩=>thn (hop pins s3 σ H2 v y u w3 _ I3 ru ry q3) λw4 s4 ⟨z,H3,I4,rz,dx',fs',ea',l',q4⟩=>?_;exact ZaR I4 ea' c n l' rz λs5 I5=>⟨σ,_,I5,q4⟩
inductive Zmv:V->V->Hp->VK->Prop|mk {x y H Q} i j:x = .int i->y = .int j->Q (.int (i+j)) H->Zmv x y H Q
def ZiS:Znc X .Add Zmv:=by
 rintro pins s σ H x y u v Q I rx ry ⟨i,j,rfl,rfl,q⟩;obtain⟨t,rfl⟩:=(show ∃t,u=Value.int i t from rx);obtain⟨t',rfl⟩:=(show ∃t',v=Value.int j t' from ry);exact PyProof.Rows.iadd_int ⟨.int (i+j),H,I.tok _,⟨_,rfl⟩,q⟩
def ZkH{pl:Sem Bool}{m:Str}{apos:Pos}{args:List Expr}{pins:List (Addr×Obj)}{s:Shared}{σ:St}{H:Hp}{Q:Value->Shared->Prop}{te:TE}(he:PE X e te)(I:Inv X pins σ H s)
  (h:te σ H λx H1=>∃a C dx fs g,x = .ref a/\H1 a=some (.ins C dx fs)/\Cls X.K C/\ZhK X.K C m g/\fs.lookup m=none /\
   ∀s1,Inv X pins σ H1 s1->wpAny (model X.prog X.w) X.A (callWith pos (.ref g) [.ref a] (backTo pos (starEach args X.env)) (backToKw pos (keywordEach [] X.env))) Q X.xe s1)
  (ht:eval (.Call (.Attribute e m apos) args [] pos) X.env=(do
   let ov <- eval e X.env
   standAt apos.atName
   let (f,first) <- holding [ov] (getMethod ov m pl)
   callWith pos f first (backTo pos (starEach args X.env)) (backToKw pos (keywordEach [] X.env)))) :
  wpAny (model X.prog X.w) X.A (eval (.Call (.Attribute e m apos) args [] pos) X.env) Q X.xe s:=by
 refine PySem.W.methodCall_KW (pl:=pl) (thn (he pins s σ H _ I h) λu s1 ⟨x,H1,I1,rx,a,C,dx,fs,g,ex,ea,c,k,l,q⟩=>?_) ht;subst ex;obtain rfl:u=Value.ref a:=rx;exact Za8 I1 ea c k l (q s1 I1)
end
structure Room(k:Nat)(A:Around):Prop where
 hd:A.handled=none
 dp:A.depth+3*k+5<recursionLimit
 un:A.units+16*k+200<cLine
def Room.mono{j k:Nat}{A:Around}(r:Room k A)(h:j<=k):Room j A:=⟨r.hd,by have:=r.dp;omega,by have:=r.un;omega⟩
theorem Room.deeper{k:Nat}{A:Around}(r:Room (k+1) A)(env:Env):Room k (A.deeper env):=
 ⟨r.hd,by have:=r.dp;show A.depth+1+3*k+5<_;omega,by have:=r.un;show A.units+3+16*k+200<_;omega⟩
def ZeD{A:Around}{C:Addr}{us:List Value}{kw:List (Str×Value)}:(A.under (.builtin "type.__call__" ⟨.ref C::us,kw⟩)).depth=A.depth+1:=by
 first|rfl|simp[Around.under,Code.weight,Code.isCreation,Code.isGuard,Code.isCaller,Code.frames,Code.isFrame,guardIds]
def ZeK{A:Around}{C:Addr}{us:List Value}{kw:List (Str×Value)}:(A.under (.builtin "type.__call__" ⟨.ref C::us,kw⟩)).units=A.units+1:=by
 first|rfl|simp[Around.under,Code.cUnits,Code.frames,Code.isFrame]
def Room.make{k:Nat}{A:Around}(r:Room (k+1) A)(C:Addr)(us:List Value)(kw:List (Str×Value)):Room k (A.under (.builtin "type.__call__" ⟨.ref C::us,kw⟩)):=
 ⟨r.hd,by have:=r.dp;rw[ZeD];omega,by have:=r.un;rw[ZeK];omega⟩
theorem Room.depth{k:Nat}{A:Around}(r:Room k A):A.depth<recursionLimit:=by have:=r.dp;omega
theorem Room.units{k:Nat}{A:Around}(r:Room k A):A.units+64<cLine:=by have:=r.un;omega
def Uq:TA:=λ_ H Q=>Q [] H
def V0(ta:TE)(tr:TA):TA:=λσ H Q=>ta σ H λx H1=>tr σ H1 λxs H2=>Q (x::xs) H2
section
variable{X:Cx}{e:Expr}{es:List Expr}{te:TE}{t:TA}{pos:Pos}
def Zd:PA X [] Uq:=λ_ _ _ _ H Q I h=>Calls.spliced_nil ⟨[],H,I,.nil,h⟩
def Za(ha:PE X e te)(hr:PA X es t)(hs:starEach (e::es) X.env=(false,eval e X.env)::starEach es X.env:=by rfl):PA X (e::es) (V0 te t):=by
 intro pos pins s σ H Q I h;rw[hs];show wpAny _ _ (spliced ((false,eval e X.env)::backTo pos (starEach es X.env))) _ _ s;refine Calls.spliced_cons (thn (ha pins s σ H _ I h) λu s1 ⟨x,H1,I1,r1,q1⟩=>?_);exact thn (hr pos pins s1 σ H1 _ I1 q1) λus s2 ⟨xs,H2,I2,r2,q2⟩=>⟨x::xs,H2,I2,.cons r1 r2,q2⟩
def Zok(t:TA):TE:=λσ H Q=>t σ H λxs H1=>xs.length<=sizeLine/\∀p,H1 p=none->Q (.ref p) (upd H1 p (.tup xs))
def Zke(t:TA):TE:=λσ H Q=>t σ H λxs H1=>xs.length<=sizeLine/\∀p,H1 p=none->Q (.ref p) (upd H1 p (.lst xs))
def Zle{x1}(h:PA X es t):PE X (.Tuple es x1 pos) (Zok t):=by
 intro pins s σ H Q I hq;refine wpAny_Tuple_spliced (thn (h pos pins s σ H _ I hq) λus s1 ⟨xs,H1,I1,r,z,q⟩=>⟨by rw[<- r.length];exact z,?_⟩);have hf:H1 s1.heap.objs.size=none:=I1.hok.fresh (Nat.le_refl _);refine⟨.ref s1.heap.objs.size,upd H1 s1.heap.objs.size (.tup xs),I1.laid (t':=s1.toks) (λb u e=>Heap.get?_push_of_some _ e) (Nat.le_refl _) ?_,rfl,q _ hf⟩;exact⟨z,us,r,⟨_,Heap.get?_push_size _ rfl,rfl,_,rfl⟩⟩
def Zx(h:PA X es t):PE X (.List es pos) (Zke t):=by
 intro pins s σ H Q I hq;refine wpAny_List_spliced (thn (h pos pins s σ H _ I hq) λus s1 ⟨xs,H1,I1,r,z,q⟩=>⟨by rw[<- r.length];exact z,?_⟩);have hf:H1 s1.heap.objs.size=none:=I1.hok.fresh (Nat.le_refl _);refine⟨.ref s1.heap.objs.size,upd H1 s1.heap.objs.size (.lst xs),I1.laid (t':=s1.toks) (λb u e=>Heap.get?_push_of_some _ e) (Nat.le_refl _) ?_,rfl,q _ hf⟩;exact⟨z,us,0,r,Heap.get?_push_size _ rfl⟩
end
abbrev Sp:=List V->Hp->VK->XK->Prop
abbrev CXT:=List Env->Hp->Shared->XK->Value->Shared->Prop
structure Zby(P:Program)(w:World)(K:Frag)(mg:Str->Option Value)(base:Heap)(A:Around)(outer:List Env)(s:Shared)(H:Hp):Prop where
 frames:A.frames=some outer
 mod:Mod K mg base
 bs:∀b o,base.get? b=some o->s.heap.get? b=some o/\H b=none
 bsz:base.objs.size<=s.heap.objs.size
 funs:s.heap.FunFrames base outer
 frf:∀b∈frs outer,H b=none
 hok:HOk P w H s.heap
 bare:AllBare s.gens
inductive CE(outer:List Env)(P:Program)(w:World)(H:Hp)(s:Shared)(Q:VK)(u:Value)(s':Shared):Prop
 |mk v H':s'.os=s.os->AllBare s'.gens->Un (frs outer) [] H H' s.heap s'.heap->HOk P w H' s'.heap->ZL v u->Q v H'->CE outer P w H s Q u s'
def CR(CX:CXT)(outer:List Env)(P:Program)(w:World)(H:Hp)(s:Shared)(Q:VK)(E:XK)(r:Result)(s':Shared):Prop:=
 match r with
 |.ok (.ret u)=>CE outer P w H s Q u s'
 |.ok _=>False
 |.error e=>CX outer H s E e s'
structure YX(P:Program)(w:World)(K:Frag)(mg:Str->Option Value)(base:Heap)(CX:CXT)(k:Nat)(f:Addr)(fd:FuncData)(ps:List Str)(sp:Sp):Prop where
 len:∀vs H Q E,sp vs H Q E->vs.length=ps.length
 run:∀(A:Around) (outer:List Env) (s:Shared) (H:Hp) (args:Args) (us:List Value) (vs:List V) (Q:VK) (E:XK),Room k A->Zby P w K mg base A outer s H->BindsTo s fd args (ps.zip us)->Zy vs us->sp vs H Q E ->
  codeAny (model P w) A (.call (.ref f) args) (CR CX outer P w H s Q E) s
def Zby.make{P:Program}{w:World}{K:Frag}{mg:Str->Option Value}{base:Heap}{A:Around}{outer:List Env}{s:Shared}{H:Hp}(e:Zby P w K mg base A outer s H)(C:Addr)(us:List Value)(kw:List (Str×Value)) :
  Zby P w K mg base (A.under (.builtin "type.__call__" ⟨.ref C::us,kw⟩)) outer s H:=⟨by first|exact e.frames|(simpa[Around.under,Code.envs,Code.isFrame,pushEnvs] using e.frames),e.mod,e.bs,e.bsz,e.funs,e.frf,e.hok,e.bare⟩
section
variable{X:Cx}{pins:List (Addr×Obj)}{σ:St}{H:Hp}{s s':Shared}
def Inv.env0(I:Inv X pins σ H s):Zby X.prog X.w X.K X.mg X.base X.A X.stack s H:=
 ⟨I.ok.frames,I.ok.mod,I.bs,Nat.le_trans I.ok.bsz I.sz,I.stack,I.stkFree,I.hok,I.bare⟩
def Inv.after{Q:VK}{u:Value}(I:Inv X pins σ H s)(h:CE X.stack X.prog X.w H s Q u s'):EP X pins σ Q u s':=by
 obtain⟨v,H',os,bare,un,hok,r,q⟩:=h;obtain⟨hh,g,d,t,os'⟩:=s';obtain rfl:os'=s.os:=os;exact⟨v,H',I.call (h':=hh) (g':=g) (d':=d) (t':=t) (ch:=[]) un hok bare (λb z=>absurd z (by simp)),r,q⟩
end
def ZaD(sp:Sp)(dvs:List V)(E:XK)(t:TA):TE:=λσ H Q=>t σ H λvs H1=>sp (vs++dvs) H1 Q E
inductive tMeth_(C:Addr)(m:Str)(sp:Sp)(dvs:List V)(E:XK)(t:TA)(σ:St)(Q:VK)(x:V)(H1:Hp):Prop|mk a dx fs:x = .ref a->H1 a=some (.ins C dx fs)->fs.lookup m=none->(t σ H1 λvs H2=>sp (x::(vs++dvs)) H2 Q E)->tMeth_ C m sp dvs E t σ Q x H1
def Zb1(C:Addr)(m:Str)(sp:Sp)(dvs:List V)(E:XK)(ta:TE)(t:TA):TE:=λσ H Q=>ta σ H λx H1=>tMeth_ C m sp dvs E t σ Q x H1
def Zkw(C:Addr)(sp:Sp)(dvs:List V)(E:XK)(t:TA):TE:=λσ H Q=>t σ H λvs H1=>∀x dx,H1 x=none->H1 dx=none->dx≠x ->
 sp (.ref x::(vs++dvs)) (upd (upd H1 dx (.own x)) x (.ins C dx [])) (λv H2=>v = .non/\Q (.ref x) H2) E
def JZ(K:Frag)(fd:FuncData)(ps:List Str)(ds:List Value):Prop:=
 ∀(s:Shared) (us:List Value),K.In s.heap->(us++ds).length=ps.length->BindsTo s fd ⟨us,[]⟩ (ps.zip (us++ds))
def JZ.all{K:Frag}{fd:FuncData}{ps:List Str}(h:∀us:List Value,us.length=ps.length->bindArgs fd ⟨us,[]⟩=pure (ps.zip us)):JZ K fd ps []:=λs us _ hl=>by
 rw[append_nil] at hl ⊢;exact .of_eq (h us hl)
def Yi(CX:CXT)(X:Cx)(E:XK):Prop:=∀(pins:List (Addr×Obj)) (σ:St) (H:Hp) (s:Shared) (e:Value) (s':Shared),Inv X pins σ H s->CX X.stack H s E e s'->X.xe e s'
section
variable{X:Cx}{CX:CXT}{k:Nat}{f C:Addr}{fd:FuncData}{ps:List Str}{sp:Sp}{dvs:List V}{ds:List Value}{E:XK}{x m:Str}{p pos apos:Pos}{e o:Expr}{es:List Expr}{ta:TE}{t:TA}
def ZeX{pins:List (Addr×Obj)}{σ:St}{H:Hp}{s:Shared}{Q:VK}{us:List Value}{vs:List V}(F:YX X.prog X.w X.K X.mg X.base CX k f fd ps sp)(hr:Room k X.A)(hb:JZ X.K fd ps ds)(hd:Zy dvs ds)(hx:Yi CX X E)
  (I:Inv X pins σ H s) (r:Zy vs us) (h:sp (vs++dvs) H Q E):wpAny (model X.prog X.w) X.A (call (.ref f) us) (EP X pins σ Q) X.xe s:=by
 have r2:Zy (vs++dvs) (us++ds):=r.append hd;have hl:(us++ds).length=ps.length:=by rw[<- r2.length];exact F.len _ _ _ _ h
 refine wpAny_call (codeAny_mono (F.run X.A X.stack s H ⟨us,[]⟩ (us++ds) (vs++dvs) Q E hr I.env0 (hb s us I.kIn hl) r2 h) λr s' hq=>?_);cases r with
 |error e=>exact hx pins σ H s e s' I hq
 |ok fl=>
  cases fl with
  |ret u=>exact I.after hq
  |next=>exact False.elim hq
  |brk=>exact False.elim hq
  |cont=>exact False.elim hq
def Zjc(F:YX X.prog X.w X.K X.mg X.base CX k f fd ps sp)(hr:Room k X.A)(hg:Gl X x)(hm:X.mg x=some (.ref f))(hk:keepIn X.K (.ref f)=true)(hb:JZ X.K fd ps ds)(hd:Zy dvs ds)(hx:Yi CX X E)
  (ha:PA X (e::es) t) (hdb:(x==("__debug__" : Str))=false:=by decide) (he:starEach (e::es) X.env=(false,eval e X.env)::starEach es X.env:=by rfl) (hpl:(backTo pos (starEach es X.env)).any (·.1)=false:=by rfl) :
  PE X (.Call (.Name x p) (e::es) [] pos) (ZaD sp dvs E t):=by
 intro pins s σ H Q I h;refine wpAny_Call_Name_kw (YZ I hg hm ?_ hdb);refine PySem.W.callWith_K (h₀:=X.base) I.ok.mod.kin hk (thn (ha pos pins s σ H _ I h) λus s1 ⟨vs,H1,I1,r,q⟩=>⟨I1.kIn,?_⟩) he hpl;exact ZeX F hr hb hd hx I1 r q
def ZhS{pl:Sem Bool}(he:PE X o ta)(c:Cls X.K C)(hm:ZhK X.K C m f)(F:YX X.prog X.w X.K X.mg X.base CX k f fd ps sp)(hr:Room k X.A)(hb:JZ X.K fd ps ds)(hd:Zy dvs ds)(hx:Yi CX X E)
  (ht:eval (.Call (.Attribute o m apos) [] [] pos) X.env=(do
   let ov <- eval o X.env
   standAt apos.atName
   let (f,first) <- holding [ov] (getMethod ov m pl)
   callWith pos f first (backTo pos (starEach [] X.env)) (backToKw pos (keywordEach [] X.env))):=by rfl) :
  PE X (.Call (.Attribute o m apos) [] [] pos) (Zb1 C m sp dvs E ta Uq):=by
 intro pins s σ H Q I h;refine PySem.W.methodCall_KW (pl:=pl) (thn (he pins s σ H _ I h) λu s1 ⟨x,H1,I1,rx,a,dx,fs,ex,ea,l,q⟩=>?_) ht;subst ex;obtain rfl:u=Value.ref a:=rx;refine Za8 I1 ea c hm l ?_;exact PySem.W.callWith_K0 (first:=[.ref a]) I1.kIn hm.kp (ZeX (us:=[.ref a]) (vs:=[.ref a]) F hr hb hd hx I1 (.cons rfl .nil) q)
structure Mk(K:Frag)(C f:Addr):Prop where
 makes:PySem.W.makesIn K C=true
 init:findIn K (.ref C) "__init__" = some (some (.ref f))
 fn:isFn K (.ref f)=true
 kp:keepIn K (.ref C)=true
def ZiJ{pins:List (Addr×Obj)}{σ:St}{H:Hp}{s:Shared}{Q:VK}{us:List Value}{vs:List V}(M:Mk X.K C f)(F:YX X.prog X.w X.K X.mg X.base CX k f fd ps sp)(hr:Room (k+1) X.A)(hb:JZ X.K fd ps ds)(hd:Zy dvs ds)
  (hx:Yi CX X E) (I:Inv X pins σ H s) (r:Zy vs us)
  (h:∀x dx,H x=none->H dx=none->dx≠x->sp (.ref x::(vs++dvs)) (upd (upd H dx (.own x)) x (.ins C dx [])) (λv H2=>v = .non/\Q (.ref x) H2) E) :
  wpAny (model X.prog X.w) X.A (call (.ref C) us) (EP X pins σ Q) X.xe s:=by
 have hq:=h (s.heap.objs.size+1) s.heap.objs.size (I.hok.fresh (Nat.le_succ _)) (I.hok.fresh (Nat.le_refl _)) (Nat.ne_of_lt (Nat.lt_succ_self _));have I2:=Inv.made (C:=C) I;have r2:Zy (V.ref (s.heap.objs.size+1)::(vs++dvs)) (Value.ref (s.heap.objs.size+1)::(us++ds)):=.cons rfl (r.append hd);have hl:(Value.ref (s.heap.objs.size+1)::us++ds).length=ps.length:=by
  have e:=r2.length;rw[F.len _ _ _ _ hq] at e;exact e.symm
 refine wpAny_call (Zh7 (f:=f) I.kIn M.makes M.init (beq_iff_eq.mp M.fn) (codeAny_mono (F.run _ X.stack _ _ ⟨Value.ref (s.heap.objs.size+1)::us,[]⟩ (Value.ref (s.heap.objs.size+1)::(us++ds)) _ _ E (hr.make C us [])
  (I2.env0.make C us []) (hb _ (Value.ref (s.heap.objs.size+1)::us) I2.kIn hl) r2 hq) λr s' hq'=>?_));cases r with
 |error e=>exact hx pins σ _ _ e s' I2 hq'
 |ok fl=>
  cases fl with
  |ret u=>
   obtain⟨v,H',I3,rv,ev,q3⟩:=I2.after hq';subst ev;exact⟨rv,⟨V.ref (s.heap.objs.size+1),H',I3,rfl,q3⟩⟩
  |next=>exact False.elim hq'
  |brk=>exact False.elim hq'
  |cont=>exact False.elim hq'
def Zjw(M:Mk X.K C f)(F:YX X.prog X.w X.K X.mg X.base CX k f fd ps sp)(hr:Room (k+1) X.A)(hg:Gl X x)(hm:X.mg x=some (.ref C))(hb:JZ X.K fd ps ds)(hd:Zy dvs ds)(hx:Yi CX X E)
  (ha:PA X (e::es) t) (hdb:(x==("__debug__" : Str))=false:=by decide) (he:starEach (e::es) X.env=(false,eval e X.env)::starEach es X.env:=by rfl) (hpl:(backTo pos (starEach es X.env)).any (·.1)=false:=by rfl) :
  PE X (.Call (.Name x p) (e::es) [] pos) (Zkw C sp dvs E t):=by
 intro pins s σ H Q I h;refine wpAny_Call_Name_kw (YZ I hg hm ?_ hdb);refine PySem.W.callWith_K (h₀:=X.base) I.ok.mod.kin M.kp (thn (ha pos pins s σ H _ I h) λus s1 ⟨vs,H1,I1,r,q⟩=>⟨I1.kIn,?_⟩) he hpl;exact ZiJ M F hr hb hd hx I1 r q
end
structure Zl(N P:List Str)(sc:Scope):Prop where
 kind:sc.kind = .function
 co:sc.isCoroutine=false
 gen:sc.isGenerator=false
 nd:N.Nodup
 pre:N.take P.length=P
 par:∀x∈P,sc.names.lookup x=some .local\/sc.names.lookup x=some .cell
 nofree:∀y∈sc.names,y.2 ≠ .free
theorem Zb6{kindOf:Str->Option NameKind}{x:Str}:∀{binds:List (Str×Value)} {m:Str->Option Value},(∀v,(x,v)∉binds)->bindL kindOf binds m x=m x
 | [],_,_=>rfl
 |(n,v)::r,m,h=>by
  unfold bindL;rw[Zb6 λw hw=>h w (mem_cons_of_mem _ hw)];split
  ·have:x≠n:=by rintro rfl;exact h v mem_cons_self
   simp[this]
  ·rfl
theorem ZbP{kindOf:Str->Option NameKind}{x:Str}:∀{binds:List (Str×Value)} {m:Str->Option Value},(∀v,(x,v)∉binds)->bindC kindOf binds m x=m x
 | [],_,_=>rfl
 |(n,v)::r,m,h=>by
  unfold bindC;rw[ZbP λw hw=>h w (mem_cons_of_mem _ hw)];split
  ·rfl
  ·have:x≠n:=by rintro rfl;exact h v mem_cons_self
   simp[this]
theorem Zcc{kindOf:Str->Option NameKind}{x:Str}{v:Value}:∀{P:List Str} {vs:List Value} {i:Nat} {m:Str->Option Value},P.Nodup->P[i]? = some x->vs[i]? = some v->kindOf x=some .local ->
  bindL kindOf (P.zip vs) m x=some v
 | [],_,_,_,_,h,_,_=>by simp at h
 |_::_,[],_,_,_,_,h,_=>by simp at h
 |p::P,w::vs,0,m,nd,h1,h2,hk=>by
  simp at h1 h2;subst h1;subst h2;show bindL kindOf ((p,w)::P.zip vs) m p=_;unfold bindL;rw[Zb6 λv hv=>(nodup_cons.mp nd).1 (of_mem_zip hv).1,if_pos hk];simp
 |p::P,w::vs,i+1,m,nd,h1,h2,hk=>by
  show bindL kindOf ((p,w)::P.zip vs) m x=_;unfold bindL;exact Zcc (i:=i) (nodup_cons.mp nd).2 (by simpa using h1) (by simpa using h2) hk
theorem ZbY{kindOf:Str->Option NameKind}{x:Str}{v:Value}:∀{P:List Str} {vs:List Value} {i:Nat} {m:Str->Option Value},P.Nodup->P[i]? = some x->vs[i]? = some v->kindOf x≠some .local ->
  bindC kindOf (P.zip vs) m x=some v
 | [],_,_,_,_,h,_,_=>by simp at h
 |_::_,[],_,_,_,_,h,_=>by simp at h
 |p::P,w::vs,0,m,nd,h1,h2,hk=>by
  simp at h1 h2;subst h1;subst h2;show bindC kindOf ((p,w)::P.zip vs) m p=_;unfold bindC;rw[ZbP λv hv=>(nodup_cons.mp nd).1 (of_mem_zip hv).1,if_neg hk];simp
 |p::P,w::vs,i+1,m,nd,h1,h2,hk=>by
  show bindC kindOf ((p,w)::P.zip vs) m x=_;unfold bindC;exact ZbY (i:=i) (nodup_cons.mp nd).2 (by simpa using h1) (by simpa using h2) hk
def start(N:List Str)(vs:List V):St:=vs.map some++List.replicate (N.length-vs.length) none
def cxOf(CX:CXT)(P:Program)(w:World)(K:Frag)(mg:Str->Option Value)(base:Heap)(N:List Str)(qual:Str)(scope:Scope)(f:Addr)(cd:Value)(A:Around)(outer:List Env)(s:Shared)(H:Hp)(E:XK):Cx where
 prog:=P
 w:=w
 K:=K
 mg:=mg
 base:=base
 A:=A.deeper (envOfC qual scope s.heap.objs.size f cd)
 N:=N
 s_0:=s
 H_0:=H
 env:=envOfC qual scope s.heap.objs.size f cd
 outer:=outer
 stack:=envOfC qual scope s.heap.objs.size f cd::outer
 ex:=[]
 calm:=true
 fn:=λ_=>true
 pn:=[]
 xe:=λe s'=>wpAny (model P w) (A.deeper (envOfC qual scope s.heap.objs.size f cd)) (leaving (envOfC qual scope s.heap.objs.size f cd) e) (λ_ s''=>CX outer H s E e s'') (λe' s''=>CX outer H s E e' s'') s'
def Zdx{sc:Scope}{n:Nat}{x:Str}(h:sc.names.lookup x=some .cell):∃c,(cellsFrom n sc.names []).lookup x=some c:=by
 have q:=PySem.W.cellsFrom_some sc.names n [] (.inl h);exact Option.isSome_iff_exists.mp q
def Zb5{CX:CXT}{P:Program}{w:World}{K:Frag}{mg:Str->Option Value}{base:Heap}{N ps:List Str}{qual:Str}{scope:Scope}{f:Addr}{cd:Value}{A:Around}{outer:List Env}{s s1:Shared}{H:Hp}{E:XK}{us:List Value}{vs:List V}
  (S:Zl N ps scope) (hd:A.handled=none) (e0:Zby P w K mg base A outer s H) (hl:vs.length=ps.length) (r:Zy vs us)
  (x:InCallC s s.heap.objs.size (bindL (envOfC qual scope s.heap.objs.size f cd).kindOf (ps.zip us) λ_=>none) (cellsFrom (s.heap.objs.size+1) scope.names []) (bindC (envOfC qual scope s.heap.objs.size f cd).kindOf (ps.zip us) λ_=>none) s1) :
  Inv (cxOf CX P w K mg base N qual scope f cd A outer s H E) [] (start N vs) H s1:=by
 have hpl:ps.length<=N.length:=by have:=congrArg List.length S.pre;rw[length_take] at this;omega
 obtain⟨h1,tk,rfl,hk⟩:=x.done;have noA:∀b:Addr,b∉(cxOf CX P w K mg base N qual scope f cd A outer s H E).ex:=λb z=>absurd (show b∈([]:List Addr) from z) (by simp);refine⟨⟨e0.mod,S.kind,rfl,rfl,Nat.le_refl _,λy z c h1 h2=>?_,λy hy=>?_,λy c _ h=>?_,λ_=>hd,Around.frames_deeper e0.frames,.inr ⟨rfl,rfl⟩,λb z=>absurd z (noA b),e0.bs,e0.bsz,λb _ _=>noA b,λb z=>absurd z (noA b),e0.funs,e0.frf⟩,
  rfl,e0.bare,Un.kept hk,⟨_,x.toInCall.ns,λi y v h1 h2 h3=>?_⟩,λy c h=>⟨_,x.cell y c h⟩,e0.hok.fresh (Nat.le_refl _),λy c h=>?_,λp hp=>absurd (show p∈([]:List (Addr×Obj)) from hp) (by simp),e0.hok.kept hk,?_⟩
 ·exact name_of_addr x.apart (PySem.mem_of_lookup h1) (PySem.mem_of_lookup h2)
 ·have hy:scope.names.lookup y=some .cell\/scope.names.lookup y=some .free:=hy
  rcases hy with hy|hy
  ·exact Zdx hy
  ·exact absurd rfl (S.nofree _ (PySem.mem_of_lookup hy))
 ·exact Nat.le_of_lt (x.above y c (PySem.mem_of_lookup h))
 ·have hi:i<vs.length:=by
   unfold start at h2;by_cases hi:i<vs.length
   ·exact hi
   ·rw[getElem?_append_right (by simpa using hi)] at h2
    rw[getElem?_replicate] at h2;split at h2<;>cases h2
  have ha:vs[i]? = some v:=by
   unfold start at h2;rw[getElem?_append_left (by simpa using hi),getElem?_map] at h2;cases e:vs[i]? with
   |none=>rw[e] at h2;cases h2
   |some a=>rw[e] at h2;cases h2;rfl
  obtain⟨u,hu,rv⟩:=r.get ha;have hp:ps[i]? = some y:=by
   rw[<- S.pre,List.getElem?_take_of_lt (by omega)];exact h1
  have ndP:ps.Nodup:=by rw[<- S.pre];exact S.nd.sublist (List.take_sublist _ _)
  refine⟨u,rv,?_⟩;rcases S.par y (mem_of_getElem? hp) with k|k
  ·exact .inl ⟨k,Zcc ndP hp hu k⟩
  ·obtain⟨c,e⟩:=Zdx (n:=s.heap.objs.size+1) k
   refine .inr ⟨.inl k,c,e,?_⟩;have q:=x.cell y c e;rw[ZbY ndP hp hu (by show scope.names.lookup y≠_;rw[k];decide)] at q;exact q
 ·exact e0.hok.fresh (Nat.le_of_lt (x.above y c (PySem.mem_of_lookup h)))
 ·unfold start
  show _=N.length;rw[length_append,length_map,length_replicate];omega
def Zkt{CX:CXT}{P:Program}{w:World}{K:Frag}{mg:Str->Option Value}{base:Heap}{k:Nat}{f:Addr}{name qual:Str}{params:Arguments}{body:List Stmt}{scope:Scope}{dV kV doc pm cdv ct oc:Value}{an od:Option Addr}
  {osl:Array (Option Value)} {N ps:List Str} {sp:Sp} (lk:K.lookup f=some ⟨oc,od,.func (fnOf name qual params body scope dV kV doc pm an cdv ct),osl⟩) (hcd:codeIn K cdv qual=true) (S:Zl N ps scope)
  (len:∀vs H Q E,sp vs H Q E->vs.length=ps.length)
  (hbody:∀(A:Around) (outer:List Env) (s:Shared) (H:Hp) (vs:List V) (Q:VK) (E:XK),Room k (A.deeper (envOfC qual scope s.heap.objs.size f cdv))->sp vs H Q E ->
   ∃t,PSs (cxOf CX P w K mg base N qual scope f cdv A outer s H E) body t/\t {nx:=λ_ H'=>Q .non H',rt:=Q} (start N vs) H) :
  YX P w K mg base CX (k+1) f (fnOf name qual params body scope dV kV doc pm an cdv ct) ps sp:=by
 refine⟨len,λA outer s H args us vs Q E hr e0 hb r hsp=>?_⟩;have hl:=len _ _ _ _ hsp;have KX:K.In s.heap:=e0.mod.kin.keeps λb o e=>(e0.bs b o e).1;have lim:s.heap.NoLimit:=e0.mod.nolimit.keeps λb o e=>(e0.bs b o e).1;have hkind:∀y∈ps.zip us,scope.names.lookup y.1=some .local\/(scope.names.lookup y.1=some .cell/\((cellsFrom (s.heap.objs.size+1) scope.names []).lookup y.1).isSome=true):=λ⟨n,v⟩ hy=>by
  rcases S.par n (of_mem_zip hy).1 with q|q
  ·exact .inl q
  ·exact .inr ⟨q,PySem.W.cellsFrom_some _ _ _ (.inl q)⟩
 refine codeAny_call_function hr.depth (KX _ _ lk) rfl S.co S.gen rfl (PySem.W.codeRec_of KX hcd) (hb _ _ _ _ ?_);refine wpAny_newFunctionEnv_cells S.kind hkind λenv he s1 x=>?_;subst he;refine⟨lim.keeps x.toInCall.keep,codeAny_func ?_⟩;obtain⟨t,ht,hq⟩:=hbody A outer s H vs Q E (hr.deeper _) hsp;have I:Inv (cxOf CX P w K mg base N qual scope f cdv A outer s H E) [] (start N vs) H s1:=Zb5 S hr.hd e0 hl r x;refine wpAny_mono (ht [] s1 (start N vs) H _ I hq) (λfl s' hs=>?_) λe s' hs=>hs;have fin:∀{σ':St} {H':Hp} {v:V} {u:Value},Inv (cxOf CX P w K mg base N qual scope f cdv A outer s H E) [] σ' H' s'->ZL v u->Q v H'->CE outer P w H s Q u s':=
  λ{σ' H' v u} J rv q=>⟨v,H',J.os,J.bare,J.base,J.hok,rv,q⟩;cases fl with
 |ret u=>
  obtain⟨v,σ',H',J,rv,q⟩:=hs;exact fin J rv q
 |next=>
  obtain⟨σ',H',J,q⟩:=hs;exact fin (v:=V.non) (u:=Value.none) J rfl q
 |brk=>
  obtain⟨_,_,_,q⟩:=hs;exact False.elim q
 |cont=>
  obtain⟨_,_,_,q⟩:=hs;exact False.elim q
section
variable{X:Cx}{x:Str}{p pos:Pos}{e:Expr}{es:List Expr}{t:TA}{id T:String}{r:List V->Hp->VK->Prop}
def tCB(r:List V->Hp->VK->Prop)(t:TA):TE:=λσ H Q=>t σ H λvs H1=>r vs H1 Q
def Zv(hc:Y8 X (.builtin id) r)(hg:Gl X x)(hm:X.mg x=none)(hv:bootBuiltins x=some (.builtin id))(ha:PA X (e::es) t)(hn:x ≠ "__name__" := by decide)(hdb:(x==("__debug__" : Str))=false:=by decide)
  (he:starEach (e::es) X.env=(false,eval e X.env)::starEach es X.env:=by rfl) (hpl:(backTo pos (starEach es X.env)).any (·.1)=false:=by rfl):PE X (.Call (.Name x p) (e::es) [] pos) (tCB r t):=by
 intro pins s σ H Q I h;refine wpAny_Call_Name_kw (Y9 I hg hm hv ?_ hn hdb);exact PyProof.Rows.callWith_builtin1 (thn (ha pos pins s σ H _ I h) λus s1 ⟨vs,H1,I1,r1,q1⟩=>hc pins s1 σ H1 vs us Q I1 r1 q1) he hpl
def JJ(hc:Y8 X (.type T) r)(hg:Gl X x)(hm:X.mg x=none)(hv:bootBuiltins x=some (.type T))(ha:PA X (e::es) t)(hn:x ≠ "__name__" := by decide)(hdb:(x==("__debug__" : Str))=false:=by decide)
  (he:starEach (e::es) X.env=(false,eval e X.env)::starEach es X.env:=by rfl) (hpl:(backTo pos (starEach es X.env)).any (·.1)=false:=by rfl):PE X (.Call (.Name x p) (e::es) [] pos) (tCB r t):=by
 intro pins s σ H Q I h;refine wpAny_Call_Name_kw (Y9 I hg hm hv ?_ hn hdb);exact PyProof.Rows.callWith_type1 (thn (ha pos pins s σ H _ I h) λus s1 ⟨vs,H1,I1,r1,q1⟩=>hc pins s1 σ H1 vs us Q I1 r1 q1) he hpl
end
end L2
namespace HT
open PySem PyProof.Rows
def lexLt:List Int->List Int->Bool
 | [],[]=>false
 | [],_::_=>true
 |_::_,[]=>false
 |x::xs,y::ys=>if x=y then lexLt xs ys else decide (x<y)
def lexLt_cons(x y:Int)(xs ys:List Int):lexLt (x::xs) (y::ys)=if x=y then lexLt xs ys else decide (x<y):=rfl
def lexLt_nil_nil:lexLt [] []=false:=rfl
def lexLt_nil_cons(y:Int)(ys:List Int):lexLt [] (y::ys)=true:=rfl
def lexLt_cons_nil(x:Int)(xs:List Int):lexLt (x::xs) []=false:=rfl
def eqAt_int(A:Around)(s:Shared)(a:Int)(t:Tok)(c:Int)(u:Tok):∃e,SeqAt.EqAt A s (.int a t) (.int c u) e/\(e=true↔a=c):=
 ⟨(a==c),SeqAt.EqAt.int_int a t c u,by simp⟩
def rcLt_int(A:Around)(s:Shared)(a:Int)(t:Tok)(c:Int)(u:Tok)(prog:Program)(w:World)(E:Value->Shared->Prop)(Q:Value->Shared->Prop)(h:Q (.bool (decide (a<c))) s) :
  wpAny (model prog w) A (richCompare .Lt (.int a t) (.int c u)) Q E s:=
 (PyProof.Rows.lt_int h:wpAny (model prog w) A (compareOp .Lt (.int a t) (.int c u)) Q E s)
section
variable{prog:Program}{w:World}{A:Around}{E:Value->Shared->Prop}{s:Shared}
def sIx(n d:Nat):Option Int->Nat
 |none=>d
 |some v=>if v<0 then (v+(n:Int)).toNat else min v.toNat n
def sIx_none(n d:Nat):sIx n d none=d:=rfl
def sIx_nat(n d k:Nat):sIx n d (some (k:Int))=min k n:=by
 show(if (k:Int)<0 then ((k:Int)+(n:Int)).toNat else min (k:Int).toNat n)=min k n;rw[if_neg (by omega),Int.toNat_natCast]
end
end HT
namespace L2
open PySem PySem.Spec PyProof.Rows
abbrev TO:=St->Hp->(Option Int->Hp->Prop)->Prop
def PO(X:Cx)(e:Option Expr)(t:TO):Prop:=
 ∀(pins:List (Addr×Obj)) (s:Shared) (σ:St) (H:Hp) (Q:Option Int->Hp->Prop),Inv X pins σ H s->t σ H Q ->
  wpAny (model X.prog X.w) X.A (evalPart e X.env) (λu s'=>∃o H',Inv X pins σ H' s'/\IsPart u o/\Q o H') X.xe s
def Zki:TO:=λ_ H Q=>Q none H
inductive tPart_(Q:Option Int->Hp->Prop)(x:V)(H1:Hp):Prop|mk i:x = .int i->Q (some i) H1->tPart_ Q x H1 def Zhv (t:TE):TO:=λσ H Q=>t σ H λx H1=>tPart_ Q x H1
section
variable{X:Cx}{e:Expr}{te:TE}{lo hi:Option Expr}{tl th:TO}{pos p2:Pos}
def UC:PO X none Zki:=by
 intro pins s σ H Q I h;rw[evalPart_none];exact wpAny_pure ⟨none,H,I,.none,h⟩
def Jz(h:PE X e te):PO X (some e) (Zhv te):=by
 intro pins s σ H Q I hw;rw[evalPart_some];refine thn (h pins s σ H _ I hw) λu s1 ⟨x,H1,I1,r1,q1⟩=>?_;obtain⟨i,rfl,q⟩:=q1;obtain⟨t,rfl⟩:=r1;exact⟨some i,H1,I1,.int i t,q⟩
def SlR(X:Cx)(r:V->Option Int->Option Int->Hp->VK->Prop):Prop:=
 ∀(pins:List (Addr×Obj)) (s:Shared) (σ:St) (H:Hp) (x:V) (v vl vu:Value) (lo hi:Option Int) (sl:Addr) (Q:VK),Inv X pins σ H s->ZL x v->s.heap.IsSliceOf sl vl vu .none->IsPart vl lo->IsPart vu hi->r x lo hi H Q ->
  ∃T id,typeLookup (.type T) "__getitem__" = pure (some (.builtin id))/\s.TypeIs v T/\wpAny (model X.prog X.w) X.A (getItem v (.ref sl)) (EP X pins σ Q) X.xe s
def tSl(r:V->Option Int->Option Int->Hp->VK->Prop)(te:TE)(tl th:TO):TE:=λσ H Q=>te σ H λx H1=>tl σ H1 λl H2=>th σ H2 λu H3=>r x l u H3 Q
def JQ{r:V->Option Int->Option Int->Hp->VK->Prop}(hr:SlR X r)(he:PE X e te)(hl:PO X lo tl)(hu:PO X hi th):PE X (.Subscript e (.Slice lo hi none p2) pos) (tSl r te tl th):=by
 intro pins s σ H Q I h;refine Subscript_ (thn (he pins s σ H _ I h) λv s1 ⟨x,H1,I1,r1,q1⟩=>?_);refine wpAny_Slice (thn (hl pins s1 σ H1 _ I1 q1) λvl s2 ⟨l,H2,I2,pl,q2⟩=>thn (hu pins s2 σ H2 _ I2 q2) λvu s3 ⟨u,H3,I3,pu,q3⟩=>?_);rw[evalPart_none];refine wpAny_pure ?_;have I4:Inv X pins σ H3 {s3 with heap:=s3.heap.push {cls:=.type "slice",data:=.fields #[vl,vu,.none]}}:=I3.kept (t':=s3.toks) λb _ q=>Heap.get?_push_of_some _ q;obtain⟨T,id,hT,ht,hg⟩:=hr pins {s3 with heap:=s3.heap.push {cls:=.type "slice",data:=.fields #[vl,vu,.none]}} σ H3 x v vl vu l u s3.heap.objs.size Q I4 r1 (Heap.IsSliceOf.new ..) pl pu q3;show wpAny (model X.prog X.w) X.A (subscriptTail e (.Slice lo hi none p2) v (.ref s3.heap.objs.size)) (EP X pins σ Q) X.xe {s3 with heap:=s3.heap.push {cls:=.type "slice",data:=.fields #[vl,vu,.none]}};exact tail_any (ops:=[.ref s3.heap.objs.size,v]) ht hT hg (by with_unfolding_all rfl)
def Ds(xs:List V)(lo hi:Option Int):List V:=(xs.drop (HT.sIx xs.length 0 lo)).take (HT.sIx xs.length xs.length hi-HT.sIx xs.length 0 lo)
def Zeb(xs:List V)(lo hi:Option Int):(Ds xs lo hi).length<=xs.length:=by
 unfold Ds;rw[length_take,length_drop];omega
end
def ixN(n:Nat)(i:Int):Option Nat:=if 0<=i then (if i<n then some i.toNat else none) else if -(n:Int)<=i then some (i+n).toNat else none
def atI{α:Type}(xs:List α)(i:Int):Option α:=(ixN xs.length i).bind λj=>xs[j]?
def Zf7{n:Nat}{i:Int}{j:Nat}(h:ixN n i=some j):seqIndex? i n=some j/\j<n/\-(n:Int)<=i/\i<n:=by
 unfold ixN at h;by_cases h0:0<=i
 ·rw[if_pos h0] at h
  by_cases h1:i<n
  ·rw[if_pos h1] at h
   have e:i.toNat=j:=Option.some.inj h;exact⟨by rw[seqIndex_of h0 h1,e],by omega,by omega,h1⟩
  ·rw[if_neg h1] at h;cases h
 ·rw[if_neg h0] at h
  by_cases h1:-(n:Int)<=i
  ·rw[if_pos h1] at h
   have e:(i+n).toNat=j:=Option.some.inj h;exact⟨by rw[seqIndex_neg (by omega) h1,e],by omega,h1,by omega⟩
  ·rw[if_neg h1] at h;cases h
def Zge{α:Type}{xs:List α}{i:Int}{v:α}(h:atI xs i=some v):∃j,seqIndex? i xs.length=some j/\xs[j]? = some v/\j<xs.length/\-(xs.length:Int)<=i/\i<xs.length:=by
 unfold atI at h;cases e:ixN xs.length i with
 |none=>rw[e] at h;cases h
 |some j=>
  rw[e] at h;obtain⟨h1,h2,h3,h4⟩:=Zf7 e;exact⟨j,h1,h,h2,h3,h4⟩
def VO{α:Type}{xs:List α}{j:Nat}{v:α}(h:xs[j]? = some v):atI xs (j:Int)=some v:=by
 have hj:j<xs.length:=(List.getElem?_eq_some_iff.mp h).1;have e:ixN xs.length (j:Int)=some j:=by
  unfold ixN;rw[if_pos (by omega),if_pos (by omega)];simp
 unfold atI;rw[e];exact h
def ZjV(b:Expr):Prop:=∀o i,subscripted b false o i=operate [o,i] (getItem o i)
def IxR(X:Cx)(r:R2):Prop:=
 ∀(value slice:Expr) (pins:List (Addr×Obj)) (s:Shared) (σ:St) (H:Hp) (x y:V) (v u:Value) (Q:VK),Inv X pins σ H s->ZL x v->ZL y u->r x y H Q ->
  subscripted slice false v u=operate [v,u] (getItem v u)->wpAny (model X.prog X.w) X.A (subscriptTail value slice v u) (EP X pins σ Q) X.xe s
def MtR(X:Cx)(id:String)(r:V->List V->Hp->VK->Prop):Prop:=
 ∀(pins:List (Addr×Obj)) (s:Shared) (σ:St) (H:Hp) (x:V) (xs:List V) (v:Value) (us:List Value) (Q:VK),Inv X pins σ H s->ZL x v->Zy xs us->r x xs H Q ->
  wpAny (model X.prog X.w) X.A (call (.builtin id) (v::us)) (EP X pins σ Q) X.xe s
section
variable{X:Cx}{a b:Expr}{ta tb:TE}{pos:Pos}
def Ja{r:R2}(hr:IxR X r)(ha:PE X a ta)(hb:PE X b tb)(hs:ZjV b):PE X (.Subscript a b pos) (tOp r ta tb):=by
 intro pins s σ H Q I h;exact Subscript_ (ZlY ha hb I h λv u s2 x y H2 I2 rx ry q=>hr a b pins s2 σ H2 x y v u Q I2 rx ry q (hs _ _))
inductive JX(K:Frag):V->V->Hp->VK->Prop|mk {x y H Q} p xs i v:x = .ref p->y = .int i->SqL K H p xs->atI xs i=some v->Q v H->JX K x y H Q
inductive ZgJ(K:Frag):V->V->Hp->VK->Prop|mk {x y H Q} p xs i v:x = .ref p->y = .int i->SqT K H p xs->atI xs i=some v->Q v H->ZgJ K x y H Q
def ZM:IxR X (JX X.K):=by
 intro value slice pins s σ H x y v u Q I rx ry h hs;obtain⟨p,xs,i,z,rfl,rfl,hq,he,q⟩:=h;cases rx;obtain⟨t,rfl⟩:=ry;obtain⟨its,r,pl,hz⟩:=I.list hq;obtain⟨j,h1,h2,h3,h4,h5⟩:=Zge he;obtain⟨w,ew,rw'⟩:=r.get h2;have hl:=r.length;have hn:=Zax;have fin:EP X pins σ Q w s:=⟨z,H,I,rw',q⟩;by_cases h0:0<=i
 ·have hj:i.toNat=j:=by
   rw[seqIndex_of h0 h5] at h1;exact Option.some.inj h1
  exact item_listR pl.isList h0 (by omega) (by rw[hj];simpa using ew) fin hs
 ·have hj:(i+(its.toArray.size:Int)).toNat=j:=by
   rw[seqIndex_neg (by omega) h4] at h1;rw[size_toArray,<- hl];exact Option.some.inj h1
  exact subscriptTail_builtinR (x:=w) pl.isList.typeIs slot_list_getitem.lookup
   (wpAny_getItem_list_neg (Q:=λr s'=>r=w/\EP X pins σ Q r s') pl.isList (by omega) (by rw[size_toArray]<;>omega) (by omega) (by rw[hj];simpa using ew) ⟨rfl,fin⟩) hs
def Zft:IxR X (ZgJ X.K):=by
 intro value slice pins s σ H x y v u Q I rx ry h hs;obtain⟨p,xs,i,z,rfl,rfl,hq,he,q⟩:=h;cases rx;obtain⟨t,rfl⟩:=ry;obtain⟨its,r,pl,hz⟩:=I.tuple hq;obtain⟨j,h1,h2,h3,h4,h5⟩:=Zge he;obtain⟨w,ew,rw'⟩:=r.get h2;have hl:=r.length;have hn:=Zax;have fin:EP X pins σ Q w s:=⟨z,H,I,rw',q⟩;exact subscriptTail_builtinR (x:=w) pl.typeIs slot_tuple_getitem.lookup
  (getItem_tuple (j:=j) (Q:=λr s'=>r=w/\EP X pins σ Q r s') pl (by omega) (by omega) (by rw[size_toArray,<- hl];exact h1) (by simpa using ew) ⟨rfl,fin⟩) hs
def ZeW(its:List Value)(n j:Nat)(u:Value):Obj.mapSeq (·.setIfInBounds j u) {cls:=.type "list",data:=.seq its.toArray n}={cls:=.type "list",data:=.seq (its.set j u).toArray n}:=by
 simp[Obj.mapSeq]
theorem Inv.lst{pins:List (Addr×Obj)}{σ:St}{H:Hp}{s:Shared}{p:Addr}{xs:List V}(I:Inv X pins σ H s)(h:H p=some (.lst xs)) :
  ∃(its:List Value) (n:Nat),Zy xs its/\s.heap.get? p=some {cls:=.type "list",data:=.seq its.toArray n}/\xs.length<=sizeLine:=by
 obtain⟨z,its,n,r,e⟩:=I.hok p _ h;exact⟨its,n,r,e,z⟩
def Inv.lstUpd{pins:List (Addr×Obj)}{σ:St}{H:Hp}{s:Shared}{p:Addr}{xs ys:List V}{its its':List Value}{n n':Nat}{f:Obj->Obj}(I:Inv X pins σ H s)(h:H p=some (.lst xs))
  (ho:s.heap.get? p=some {cls:=.type "list",data:=.seq its.toArray n}) (hf:f {cls:=.type "list",data:=.seq its.toArray n}={cls:=.type "list",data:=.seq its'.toArray n'}) (r:Zy ys its') (hz:ys.length<=sizeLine) (t:Nat) :
  Inv X pins σ (upd H p (.lst ys)) {s with heap:=s.heap.update p f,toks:=t}:=by
 have e:(s.heap.update p f).get? p=some {cls:=.type "list",data:=.seq its'.toArray n'}:=by
  rw[Heap.get?_update_self f ho (by rw[hf]<;>rfl),hf]
 refine I.write (x:=p) (e:=p) (by rw[h];trivial) (.inl rfl) (λb u hb q=>(Heap.get?_update_other _ _ (Ne.symm hb)).trans q) ⟨_,e⟩ ?_;exact⟨hz,its',n',r,e⟩
def ZnP:V->V->V->Hp->(Hp->Prop)->Prop:=λo i v H Q=>∃p xs k j,o = .ref p/\i = .int k/\H p=some (.lst xs)/\ixN xs.length k=some j/\Q (upd H p (.lst (xs.set j v)))
def Ua:Zlw X ZnP:=by
 intro pins s σ H o i v ov iv u Q I ro ri rv h;obtain⟨p,xs,k,j,rfl,rfl,hp,hj,q⟩:=h;cases ro;obtain⟨t,rfl⟩:=ri;obtain⟨its,n,r,ho,hz⟩:=I.lst hp;obtain⟨h1,h2,h3,h4⟩:=Zf7 hj;have hl:=r.length;have hn:=Zax;have I':Inv X pins σ (upd H p (.lst (xs.set j v))) {s with heap:=s.heap.update p (Obj.mapSeq (·.setIfInBounds j u))}:=
  I.lstUpd hp ho (ZeW its n j u) (r.set rv j) (by rw[length_set];exact hz) s.toks
 by_cases h0:0<=k
 ·have hk:k.toNat=j:=by
   rw[seqIndex_of h0 h4] at h1;exact Option.some.inj h1
  exact PySem.W.ki_setAt ho h0 (by omega) (by rw[size_toArray,<- hl];exact h4) (by rw[hk];exact⟨_,I',q⟩)
 ·have hk:(k+(its.toArray.size:Int)).toNat=j:=by
   rw[seqIndex_neg (by omega) h3] at h1;rw[size_toArray,<- hl];exact Option.some.inj h1
  exact PySem.W.ki_setBack ho (by omega) (by rw[size_toArray,<- hl];exact h3) (by omega) (by rw[hk];exact⟨_,I',q⟩)
def ZcA(lo hi:Option Int)(n:Nat):(sliceBounds lo hi none n).1=((HT.sIx n 0 lo:Nat):Int)/\(sliceBounds lo hi none n).2.1=((HT.sIx n n hi:Nat):Int)/\(sliceBounds lo hi none n).2.2=1:=by
 refine⟨?_,?_,rfl⟩
 ·cases lo with
  |none=>simp[sliceBounds,HT.sIx]
  |some i=>
   simp only[sliceBounds,HT.sIx,Option.getD_none,show(1:Int) > 0 by decide,if_true];by_cases h:i<0
   ·simp only[h,if_true]<;>omega
   ·simp only[h,if_false]<;>omega
 ·cases hi with
  |none=>simp[sliceBounds,HT.sIx]
  |some i=>
   simp only[sliceBounds,HT.sIx,Option.getD_none,show(1:Int) > 0 by decide,if_true];by_cases h:i<0
   ·simp only[h,if_true]<;>omega
   ·simp only[h,if_false]<;>omega
def Zbu(its:List Value)(lo hi:Option Int):slicePick its.toArray lo hi none=((its.drop (HT.sIx its.length 0 lo)).take (HT.sIx its.length its.length hi-HT.sIx its.length 0 lo)).toArray:=by
 obtain⟨h1,h2,h3⟩:=ZcA lo hi its.toArray.size;unfold slicePick;rw[h1,h2,h3];simp only[sliceRange_one,pick_run,size_toArray]<;>rfl
inductive ZlV(K:Frag):V->Option Int->Option Int->Hp->VK->Prop|mk {x lo hi H Q} a xs:x = .ref a->SqL K H a xs->(∀p,H p=none->Q (.ref p) (upd H p (.lst (Ds xs lo hi))))->ZlV K x lo hi H Q
def Yq:SlR X (ZlV X.K):=by
 intro pins s σ H x v vl vu lo hi sl Q I rx hs pl pu h;obtain⟨a,xs,rfl,hx,q⟩:=h;cases rx;obtain⟨its,r,ht,hz⟩:=I.list hx;have hlen:=r.length;refine⟨"list",_,slot_list_getitem.lookup,ht.isList.typeIs,?_⟩;refine wpAny_getItem_list_slice ht.isList hs pl pu .none (by simp) ?_ (by rw[size_toArray]<;>omega);rw[Zbu,<- hlen];refine⟨.ref s.heap.objs.size,_,I.laid (t':=s.toks) (o:=.lst (Ds xs lo hi)) (λb _ q=>Heap.get?_push_of_some _ q) (Nat.le_refl _) ?_,rfl,q _ (I.hok.fresh (Nat.le_refl _))⟩;exact⟨Nat.le_trans (Zeb xs lo hi) hz,_,0,(r.drop (HT.sIx xs.length 0 lo)).take (HT.sIx xs.length xs.length hi-HT.sIx xs.length 0 lo),Heap.get?_push_size _ rfl⟩
def Di:V->Bool
 |.non=>true
 |.bl _=>true
 |.int _=>true
 |.str _=>true
 |_=>false
def eqV:V->V->Bool
 |.non,.non=>true
 |.bl a,.bl b=>a==b
 |.bl a,.int b=>(if a then 1 else 0)==b
 |.int a,.bl b=>a==(if b then 1 else 0)
 |.int a,.int b=>a==b
 |.str a,.str b=>a==b
 |_,_=>false
def ZkX{A:Around}{s:Shared}{y x:V}{u v:Value}(ry:ZL y u)(rx:ZL x v)(fy:Di y=true)(fx:Di x=true):SeqAt.EqAt A s u v (eqV y x):=by
 cases y with
 |non=>
  cases ry;cases x with
  |non=>cases rx;exact SeqAt.EqAt.same _
  |bl b=>cases rx;exact SeqAt.EqAt.none_bool b
  |int b=>obtain⟨t,rfl⟩:=rx;exact SeqAt.EqAt.none_int b t
  |str b=>obtain⟨t,rfl⟩:=rx;exact SeqAt.EqAt.none_str b t
  |_=>exact absurd (show false=true from fx) Bool.false_ne_true
 |bl a=>
  cases ry;cases x with
  |non=>cases rx;exact SeqAt.EqAt.bool_none a
  |bl b=>cases rx;exact SeqAt.EqAt.bool_bool a b
  |int b=>obtain⟨t,rfl⟩:=rx;exact SeqAt.EqAt.bool_int a b t
  |str b=>obtain⟨t,rfl⟩:=rx;exact SeqAt.EqAt.bool_str a b t
  |_=>exact absurd (show false=true from fx) Bool.false_ne_true
 |int a=>
  obtain⟨t',rfl⟩:=ry;cases x with
  |non=>cases rx;exact SeqAt.EqAt.int_none a t'
  |bl b=>cases rx;exact SeqAt.EqAt.int_bool a t' b
  |int b=>obtain⟨t,rfl⟩:=rx;exact SeqAt.EqAt.int_int a t' b t
  |str b=>obtain⟨t,rfl⟩:=rx;exact SeqAt.EqAt.int_str a t' b t
  |_=>exact absurd (show false=true from fx) Bool.false_ne_true
 |str a=>
  obtain⟨t',rfl⟩:=ry;cases x with
  |non=>cases rx;exact SeqAt.EqAt.str_none a t'
  |bl b=>cases rx;exact SeqAt.EqAt.str_bool a t' b
  |int b=>obtain⟨t,rfl⟩:=rx;exact SeqAt.EqAt.str_int a t' b t
  |str b=>obtain⟨t,rfl⟩:=rx;exact SeqAt.EqAt.str_str a t' b t
  |_=>exact absurd (show false=true from fx) Bool.false_ne_true
 |_=>exact absurd (show false=true from fy) Bool.false_ne_true
def eqU(x:V)(u:Value):Bool:=match u with
 |.none=>eqV .non x
 |.bool b=>eqV (.bl b) x
 |.int i _=>eqV (.int i) x
 |.str z _=>eqV (.str z) x
 |_=>false
def Zii{x y:V}{u:Value}(r:ZL y u)(f:Di y=true):eqU x u=eqV y x:=by
 cases y with
 |non=>cases r;rfl
 |bl b=>cases r;rfl
 |int i=>obtain⟨t,rfl⟩:=r;rfl
 |str z=>obtain⟨t,rfl⟩:=r;rfl
 |_=>exact absurd (show false=true from f) Bool.false_ne_true
theorem Zct{x:V}:∀{xs:List V} {us:List Value},Zy xs us->xs.all Di=true->us.any (eqU x)=xs.any λy=>eqV y x
 |_,_,.nil,_=>rfl
 |y::xs,u::us,.cons r t,f=>by
  rw[all_cons,Bool.and_eq_true] at f;rw[any_cons,any_cons,Zii r f.1,Zct t f.2]
theorem Zbj{A:Around}{s:Shared}{x:V}{v:Value}(rx:ZL x v)(fx:Di x=true):∀{xs:List V} {us:List Value},Zy xs us->xs.all Di=true->∀u∈us,SeqAt.EqAt A s u v (eqU x u)
 |_,_,.nil,_=>λu hu=>by cases hu
 |y::xs,u::us,.cons r t,f=>λu' hu=>by
  rw[all_cons,Bool.and_eq_true] at f;rcases mem_cons.mp hu with rfl|hu
  ·rw[Zii r f.1];exact ZkX r rx f.1 fx
  ·exact Zbj rx fx t f.2 u' hu
def inV(x:V)(xs:List V):Bool:=xs.any λy=>eqV y x
inductive rIn(K:Frag)(neg:Bool):V->V->Hp->VK->Prop|mk {x y H Q} p xs:y = .ref p->(SqL K H p xs\/SqT K H p xs)->Di x=true->xs.all Di=true->Q (.bl (if neg then !inV x xs else inV x xs)) H->rIn K neg x y H Q
def ZgO:OpR X (compareOp .In) (rIn X.K false):=by
 intro pins s σ H x y v u Q I rx ry h;obtain⟨p,xs,rfl,hq,fx,fs,q⟩:=h;cases ry;rcases hq with hq|hq
 ·obtain⟨its,r,pl,hz⟩:=I.list hq
  refine SeqAt.in_listAt (eqU x) pl.isList (λw hw=>Zbj rx fx r fs w (by simpa using hw)) ⟨.bl _,H,I,rfl,?_⟩;rw[show its.toArray.any (eqU x)=its.any (eqU x) by simp,Zct r fs];exact q
 ·obtain⟨its,r,pl,hz⟩:=I.tuple hq
  refine SeqAt.in_tupleAt (eqU x) pl (λw hw=>Zbj rx fx r fs w (by simpa using hw)) ⟨.bl _,H,I,rfl,?_⟩;rw[show its.toArray.any (eqU x)=its.any (eqU x) by simp,Zct r fs];exact q
def Zp:Y8 X (.builtin "len") (λxs H Q=>∃p ys,xs=[.ref p]/\(SqL X.K H p ys\/SqT X.K H p ys)/\Q (.int ys.length) H):=by
 intro pins s σ H xs us Q I r h;obtain⟨p,ys,rfl,hq,q⟩:=h;obtain⟨u,rfl,rx⟩:=Zed r;cases rx;have hn:=Zax;rcases hq with hq|hq
 ·obtain⟨its,r',pl,hz⟩:=I.list hq
  have hlen:=r'.length;exact Calls.call_len_list pl.isList (by simp only[size_toArray]<;>omega) ⟨.int ys.length,H,I.tok _,⟨s.toks+1,by rw[size_toArray,hlen]⟩,q⟩
 ·obtain⟨its,r',pl,hz⟩:=I.tuple hq
  have hlen:=r'.length;exact len_tuple pl (by simp only[size_toArray]<;>omega) ⟨.int ys.length,H,I.tok _,⟨s.toks+1,by rw[size_toArray,hlen]⟩,q⟩
def Do:Y8 X (.type "list") (λxs H Q=>∃p ys,xs=[.ref p]/\(SqL X.K H p ys\/SqT X.K H p ys)/\∀l,H l=none->Q (.ref l) (upd H l (.lst ys))):=by
 intro pins s σ H xs us Q I r h;obtain⟨p,ys,rfl,hq,q⟩:=h;obtain⟨u,rfl,rx⟩:=Zed r;cases rx;have fin:∀(its:List Value),Zy ys its->ys.length<=sizeLine->∀(h':Heap) (c':Nat),(∀b o',s.heap.get? b=some o'->h'.get? b=some o') ->
   h'.get? s.heap.objs.size=some {cls:=.type "list",dict:=none,data:=.seq its.toArray c',slots:=#[]}->EP X pins σ Q (.ref s.heap.objs.size) {s with heap:=h'}:=λits r' hz h' c' kp e=>
  ⟨.ref s.heap.objs.size,_,I.laid (t':=s.toks) kp (Nat.le_refl _) (show Jc X.prog X.w _ h' _ (.lst ys) from⟨hz,its,c',r',e⟩),rfl,q _ (I.hok.fresh (Nat.le_refl _))⟩;rcases hq with hq|hq
 ·obtain⟨its,r',pl,hz⟩:=I.list hq
  have hlen:=r'.length;obtain⟨o,ho,hc,n,hd⟩:=pl.isList;exact call_list_seq p (.inl rfl) ho hc hd (λh' c' kp e=>fin its r' hz h' c' kp e) (by simp only[size_toArray]<;>omega)
 ·obtain⟨its,r',pl,hz⟩:=I.tuple hq
  have hlen:=r'.length;obtain⟨o,ho,hc,n,hd⟩:=pl;exact call_list_seq p (.inr rfl) ho hc hd (λh' c' kp e=>fin its r' hz h' c' kp e) (by simp only[size_toArray]<;>omega)
def Zbv:Y8 X (.type "tuple") (λxs H Q=>∃p ys,xs=[.ref p]/\((SqL X.K H p ys/\∀l,H l=none->Q (.ref l) (upd H l (.tup ys)))\/(SqT X.K H p ys/\Q (.ref p) H))):=by
 intro pins s σ H xs us Q I r h;obtain⟨p,ys,rfl,h⟩:=h;obtain⟨u,rfl,rx⟩:=Zed r;cases rx;rcases h with⟨hq,q⟩|⟨hq,q⟩
 ·obtain⟨its,r',pl,hz⟩:=I.list hq
  have hlen:=r'.length;refine call_tuple_list pl.isList (λh' kp=>?_) (by simp only[size_toArray]<;>omega);have I1:Inv X pins σ H {s with heap:=h'}:=I.kept (t':=s.toks) kp;have I2:Inv X pins σ (upd H h'.objs.size (.tup ys)) {s with heap:=h'.push {cls:=.type "tuple",data:=.seq its.toArray}}:=
   I1.laid (t':=s.toks) (λb o e=>Heap.get?_push_of_some _ e) (Nat.le_refl _) (show Jc X.prog X.w _ _ _ (.tup ys) from⟨hz,its,r',IsTup.new _ _⟩);exact⟨.ref h'.objs.size,_,I2,rfl,q _ (I1.hok.fresh (Nat.le_refl _))⟩
 ·obtain⟨its,r',pl,hz⟩:=I.tuple hq
  exact call_tuple_same pl ⟨.ref p,H,I,rfl,q⟩
def tyV(K:Frag)(T:String)(x:V)(H:Hp):Prop:=match x with
 |.str _=>T = "str"
 |.int _=>T = "int"
 |.ref p=>(T = "list" /\ ∃xs,SqL K H p xs)\/(T = "tuple" /\ ∃o,K.lookup p=some o/\o.cls = .type "tuple" /\ o.dict=none) \/
   (T = "dict" /\ ((∃kvs,H p=some (.dK kvs))\/∃kvs,H p=some (.dT kvs)))\/(T = "set" /\ ∃S n,H p=some (.set S n))
 |_=>False
def Zk5{pins:List (Addr×Obj)}{σ:St}{H:Hp}{s:Shared}{T:String}{x:V}{v:Value}(I:Inv X pins σ H s)(r:ZL x v)(ty:tyV X.K T x H) :
  s.TypeIs v T/\∀a,v = .ref a->∃ob,s.heap.get? a=some ob/\ob.dict=none:=by
 cases x with
 |str z=>
  obtain⟨t,rfl⟩:=r;cases (show T = "str" from ty);exact⟨typeIs_str s z t,λ_ e=>nomatch e⟩
 |int i=>
  obtain⟨t,rfl⟩:=r;cases (show T = "int" from ty);exact⟨typeIs_int s i t,λ_ e=>nomatch e⟩
 |ref p=>
  cases r;rcases ty with⟨rfl,xs,hq⟩|⟨rfl,o,hk,hc,hd⟩|⟨rfl,hk⟩|⟨rfl,S,n,hk⟩
  ·obtain⟨its,_,pl,_⟩:=I.list hq
   refine⟨pl.isList.typeIs,λa e=>?_⟩;cases e;obtain⟨o,n,e,c,hd,_⟩:=pl;exact⟨o,e,hd⟩
  ·refine⟨⟨o,I.kIn p o hk,hc⟩,λa e=>?_⟩
   cases e;exact⟨o,I.kIn _ o hk,hd⟩
  ·have z:∃o,s.heap.get? p=some o/\o.ExactDict:=by
    rcases hk with⟨kvs,hk⟩|⟨kvs,hk⟩
    ·obtain⟨_,_,_,_,o,_,_,e,ex,_⟩:=I.hok p _ hk
     exact⟨o,e,ex⟩
    ·obtain⟨_,_,_,_,o,_,_,e,ex,_⟩:=I.hok p _ hk
     exact⟨o,e,ex⟩
   obtain⟨o,e,ex⟩:=z;refine⟨⟨o,e,ex.1⟩,λa e2=>?_⟩;cases e2;exact⟨o,e,ex.2.1⟩
  ·obtain⟨o,_,_,_,e,ex,_⟩:=I.hok p _ hk
   refine⟨⟨o,e,ex.1⟩,λa e2=>?_⟩;cases e2;exact⟨o,e,ex.2.1⟩
 |_=>exact False.elim ty
def tBM(K:Frag)(T:String)(r:V->List V->Hp->VK->Prop)(to:TE)(t:TA):TE:=λσ H Q=>to σ H λx H1=>tyV K T x H1/\t σ H1 λxs H2=>r x xs H2 Q
variable{o e:Expr}{es:List Expr}{to:TE}{t:TA}{name:Str}{apos cpos:Pos}{T id:String}{r:V->List V->Hp->VK->Prop}
def J4(pa:PlainAttrs T)(slot:Slot T name id)(hty:typeOf (.builtin id)=pure (.type "method_descriptor"))(hm:MtR X id r)(ho:PE X o to)(ha:PA X (e::es) t)
  (hbase:attributeBase o name X.env (eval o X.env)=eval o X.env:=by rfl)
  (hfew:((backTo cpos (starEach (e::es) X.env)).all (λx=>!x.1)&&(backToKw cpos (keywordEach [] X.env)).all (λx=>x.1.isSome)
   && decide ((e::es).length+([]:List Keyword).length+(if ([]:List Keyword).isEmpty then 0 else 1)<30))=true:=by rfl)
  (hline:(apos.endLine==cpos.line)=true:=by rfl) (hs:starEach (e::es) X.env=(false,eval e X.env)::starEach es X.env:=by rfl) (hplain:(backTo cpos (starEach es X.env)).any (·.1)=false:=by rfl) :
  PE X (.Call (.Attribute o name apos) (e::es) [] cpos) (tBM X.K T r to t):=by
 intro pins s σ H Q I h;refine wpAny_Call_method_late hbase hfew hline rfl (thn (ho pins s σ H _ I h) λv s1 ⟨x,H1,I1,r1,ty,q1⟩=>?_);obtain⟨h1,h2⟩:=Zk5 I1 r1 ty;refine⟨T,id,pa,slot,hty,h1,h2,?_⟩;have hA:=ha cpos pins s1 σ H1 _ I1 q1;rw[hs] at hA ⊢;refine Calls.callWith_builtin (by show(false||(backTo cpos (starEach es X.env)).any (·.1))=false;rw[hplain]<;>rfl) (Calls.evalArgs_plain ?_)
 exact thn hA λus s2 ⟨vs,H2,I2,r2,q2⟩=>hm pins s2 σ H2 x vs v us Q I2 r1 r2 q2
end
def MtM(X:Cx)(id:String)(r:V->List V->Hp->VK->Prop):Prop:=
 ∀(pins:List (Addr×Obj)) (s:Shared) (σ:St) (H:Hp) (x:V) (xs:List V) (v:Value) (us:List Value) (Q:VK),Inv X pins σ H s->ZL x v->Zy xs us->r x xs H Q ->
  wpAny (model X.prog X.w) X.A (call (.builtin id) (v::us)) (EP X pins σ Q) X.xe s
def Zy.one:∀{x:V} {us:List Value},Zy [x] us->∃u,us=[u]/\ZL x u
 |_,_,.cons r .nil=>⟨_,rfl,r⟩
theorem Zy.rep{xs:List V}{us:List Value}(h:Zy xs us):∀k:Nat,Zy (List.replicate k xs).flatten (List.replicate k us).flatten
 |0=>.nil
 |k+1=>by
  rw[replicate_succ,replicate_succ,flatten_cons,flatten_cons];exact Zy.append h (Zy.rep h k)
theorem ZbR(its:List Value):∀(k:Nat) (acc:List Value),
  List.foldl (λx1 x2=>x1++x2) acc.toArray (List.replicate k its.toArray)=(acc++(List.replicate k its).flatten).toArray
 |0,acc=>by simp
 |k+1,acc=>by
  have e:acc.toArray++its.toArray=(acc++its).toArray:=by simp
  have e2:(acc++its)++(List.replicate k its).flatten=acc++(List.replicate (k+1) its).flatten:=by
   rw[replicate_succ,flatten_cons,append_assoc]
  rw[<- e2,<- ZbR its k (acc++its),<- e,replicate_succ,List.foldl_cons]
section
variable{X:Cx}{pins:List (Addr×Obj)}{σ:St}{H:Hp}{s:Shared}{l b:Addr}{xs ys zs:List V}
def Inv.lset{its its':List Value}{n:Nat}{f:Array Value->Array Value}{t':Nat}(I:Inv X pins σ H s)(hH:H l=some (.lst xs))
  (e:s.heap.get? l=some {cls:=.type "list",data:=.seq its.toArray n}) (hf:f its.toArray=its'.toArray) (hv:Zy ys its') (hz:ys.length<=sizeLine) :
  Inv X pins σ (upd H l (.lst ys)) {s with heap:=s.heap.update l (Obj.mapSeq f),toks:=t'}:=by
 have q:=PySem.IsL.update e f;rw[hf] at q;refine I.write (x:=l) (e:=l) (by rw[hH];exact trivial) (.inl rfl) (λ_ u hb hu=>(Heap.get?_update_other s.heap (Obj.mapSeq f) (Ne.symm hb)).trans hu) ⟨_,q⟩ ?_;exact⟨hz,its',_,hv,q⟩
def Inv.lnew{its:List Value}{t':Nat}(I:Inv X pins σ H s)(hv:Zy ys its)(hz:ys.length<=sizeLine) :
  Inv X pins σ (upd H s.heap.objs.size (.lst ys)) {s with heap:=s.heap.push {cls:=.type "list",data:=.seq its.toArray},toks:=t'}:=
 I.laid (λ_ _ q=>Heap.get?_push_of_some _ q) (Nat.le_refl _) ⟨hz,its,0,hv,Heap.get?_push_size _ rfl⟩
theorem Inv.fresh(I:Inv X pins σ H s):H s.heap.objs.size=none:=I.hok.fresh (Nat.le_refl _)
def Inv.lstM(I:Inv X pins σ H s)(hH:H l=some (.lst xs)):xs.length<=sizeLine/\∃(its:List Value) (n:Nat),Zy xs its/\xs.length=its.length/\s.heap.get? l=some {cls:=.type "list",data:=.seq its.toArray n}:=by
 obtain⟨z,its,n,r,e⟩:=I.hok l _ hH;exact⟨z,its,n,r,r.length,e⟩
def Zem{n:Nat}(h:n<=sizeLine):Builtin.List.listTooLong n=false:=by
 unfold Builtin.List.listTooLong;exact decide_eq_false (by omega)
end
section
variable{X:Cx}
inductive Zga:V->List V->Hp->VK->Prop|mk {x vs H Q} l xs y:x = .ref l->vs=[y]->H l=some (.lst xs)->xs.length<sizeLine->Q .non (upd H l (.lst (xs++[y])))->Zga x vs H Q
def JO:MtM X "list.append" Zga:=by
 intro pins s σ H x vs v us Q I rx rv h;obtain⟨l,xs,y,rfl,rfl,hH,hz,q⟩:=h;cases rx;obtain⟨u,rfl,ru⟩:=rv.one;obtain⟨z,its,n,r,hl,e⟩:=I.lstM hH;refine call_meets F.slot_list_append ⟨_,e,rfl⟩ F.entry_list_append (F.args_list_append_2 _ _) (PySem.list_append l its.toArray n u (by rw[size_toArray];omega)) ⟨e,?_⟩;refine⟨.non,_,I.lset (its':=its++[u]) hH e (by simp) (r.append (.cons ru .nil)) ?_,rfl,q⟩;rw[length_append,length_singleton];omega
inductive ZfY:V->List V->Hp->VK->Prop|mk {x vs H Q} l b xs zs:x = .ref l->vs=[.ref b]->H l=some (.lst xs)->H b=some (.lst zs)->xs.length+zs.length<=sizeLine->Q .non (upd H l (.lst (xs++zs)))->ZfY x vs H Q
def Jw:MtM X "list.extend" ZfY:=by
 intro pins s σ H x vs v us Q I rx rv h;obtain⟨l,b,xs,zs,rfl,rfl,hH,hB,hz,q⟩:=h;cases rx;obtain⟨u,rfl,ru⟩:=rv.one;cases ru;obtain⟨z,its,n,r,hl,e⟩:=I.lstM hH;obtain⟨z2,its2,n2,r2,hl2,e2⟩:=I.lstM hB;have hsz:its.toArray.size+its2.toArray.size<=sizeLine:=by rw[size_toArray,size_toArray];omega
 have hlong:¬ (!its.toArray.isEmpty&&Builtin.List.listTooLong (its.toArray.size+its2.toArray.size))=true:=by
  rw[Zem hsz,Bool.and_false];exact Bool.false_ne_true
 refine call_meets F.slot_list_extend ⟨_,e,rfl⟩ F.entry_list_extend (F.args_list_extend_2 _ _)
  (AutoSeq1.list_extend_list_list_0 l its.toArray n b its2.toArray n2 hlong (by rw[size_toArray];omega) (by omega)) ⟨e,e2,?_⟩;refine⟨.non,_,I.lset (its':=its++its2) hH e (by simp) (r.append r2) ?_,rfl,q⟩;rw[length_append];omega
inductive ZnW:V->V->Hp->VK->Prop|mk {x y H Q} l b xs zs:x = .ref l->y = .ref b->H l=some (.lst xs)->H b=some (.lst zs)->xs.length+zs.length<=sizeLine->(∀p,H p=none->Q (.ref p) (upd H p (.lst (xs++zs))))->ZnW x y H Q
def DO:OpR X (binaryOp .Add) ZnW:=by
 intro pins s σ H x y v u Q I rx ry h;obtain⟨l,b,xs,zs,rfl,rfl,hH,hB,hz,q⟩:=h;cases rx;cases ry;obtain⟨z,its,n,r,hl,e⟩:=I.lstM hH;obtain⟨z2,its2,n2,r2,hl2,e2⟩:=I.lstM hB;refine PySem.P.add_list e e2 ?_ (by rw[size_toArray,size_toArray];omega);have ea:its.toArray++its2.toArray=(its++its2).toArray:=by simp
 rw[ea];exact⟨.ref _,_,I.lnew (t':=s.toks) (r.append r2) (by rw[length_append];omega),rfl,q _ I.fresh⟩
inductive ZmG:V->V->Hp->VK->Prop|mk {x y H Q} l k xs:x = .ref l->y = .int k->H l=some (.lst xs)->-(2^63)<=k->k<2^63->xs.length*k.toNat<=sizeLine->(∀p,H p=none->Q (.ref p) (upd H p (.lst (List.replicate k.toNat xs).flatten)))->ZmG x y H Q
def Zkp{α:Type}(xs:List α)(k:Nat):(List.replicate k xs).flatten.length=k*xs.length:=by
 induction k with
 |zero=>simp
 |succ k ih=>rw[replicate_succ,flatten_cons,length_append,ih,Nat.succ_mul,Nat.add_comm]
def Zbc:OpR X (binaryOp .Mult) ZmG:=by
 intro pins s σ H x y v u Q I rx ry h;obtain⟨l,k,xs,rfl,rfl,hH,h1,h2,hz,q⟩:=h;cases rx;obtain⟨t,rfl⟩:=ry;obtain⟨z,its,n,r,hl,e⟩:=I.lstM hH;have hlen:its.toArray.size*k.toNat<=sizeLine:=by rw[size_toArray,<- hl];exact hz
 have hcap:¬ its.toArray.size*k.toNat > (2^63-1) / 8:=by
  have:(sizeLine:Nat)<=(2^63-1) / 8:=by decide
  omega
 have hfit:¬ (!Builtin.List.listFitsIndex k)=true:=by
  rw[fitsIndex_both h1 h2];exact Bool.false_ne_true
 have hlong:¬ Builtin.List.listTooLong (its.toArray.size*k.toNat)=true:=by
  rw[Zem hlen];exact Bool.false_ne_true
 have hnew:List.foldl (λx1 x2=>x1++x2) #[] (List.replicate (if its.toArray.isEmpty=true then 0 else k.toNat) its.toArray)=(List.replicate k.toNat its).flatten.toArray:=by
  have f0:∀m:Nat,List.foldl (λx1 x2=>x1++x2) #[] (List.replicate m its.toArray)=(List.replicate m its).flatten.toArray:=λm=>by
   have:=ZbR its m [];rw[nil_append] at this;exact this
  rw[f0];cases its with
  |nil=>simp
  |cons a r'=>rw[if_neg (by simp)]
 refine wpAny_binaryOp_repeat_ref (T := "list") (U := "int") (by decide) ⟨_,e,rfl⟩ (λs'=>typeIs_int s' k t) noFill_list_mul F.fills_int_mul F.slot_int_rmul repeat_list F.slot_int_index.lookup
  (call_meets F.slot_int_rmul (typeIs_int s k t) F.entry_int_rmul (F.args_int_rmul_2 _ _) (int___rmul___int_list k t l its.toArray n)
   ⟨e,rfl,⟨_,e,rfl⟩,call_meets F.slot_list_mul ⟨_,e,rfl⟩ F.entry_list_mul (F.args_list_mul_2 _ _) (AutoListH.list___mul___list_int_3 l its.toArray n k t hfit hcap hlong) ⟨e,?_⟩⟩);rw[hnew];exact⟨.ref _,_,I.lnew (t':=s.toks) (r.rep k.toNat) (by rw[Zkp,Nat.mul_comm];exact hz),rfl,q _ I.fresh⟩
end
theorem Zy.ints:∀{ns:List Int} {us:List Value},Zy (ns.map V.int) us->IntsAre us ns
 | [],us,h=>by
  rw[map_nil] at h;cases h;exact IntsAre.nil
 |n::ns,us,h=>by
  rw[map_cons] at h;cases h with
  |cons r t=>
   obtain⟨k,rfl⟩:=r;exact IntsAre.cons n k (Zy.ints t)
theorem VV:∀{us:List Value} {ns:List Int},IntsAre us ns->Zy (ns.map V.int) us
 |_,_,.nil=>by rw[map_nil];exact Paired.nil
 |_,_,.cons n t h=>by rw[map_cons];exact Paired.cons (show ZL (V.int n) (Value.int n t) from⟨t,rfl⟩) (VV h)
theorem Zy.bls:∀{bs:List Bool} {us:List Value},Zy (bs.map V.bl) us->us=bs.map Value.bool
 | [],us,h=>by
  rw[map_nil] at h;cases h;rfl
 |b::bs,us,h=>by
  rw[map_cons] at h;cases h with
  |cons r t=>
   cases r;rw[Zy.bls t,map_cons]
def Zy.ref1{a:Addr}{us:List Value}(r:Zy [V.ref a] us):us=[Value.ref a]:=by
 cases r with
 |cons r t=>
  cases t;cases r;rfl
section
variable{X:Cx}
inductive Zf9(K:Frag):List V->Hp->VK->Prop|mk {vs H Q} (a:Addr) (ns:List Int):vs=[V.ref a]->SqL K H a (ns.map V.int)->ns.length<64->(∀(ns':List Int) (p:Addr),ns'.Perm ns->ns'.Pairwise (· <= ·)->H p=none->Q (.ref p) (upd H p (.lst (ns'.map V.int))))->Zf9 K vs H Q
def ZfT{n:Nat}(h:n<64):n<=sizeLine:=by rw[sizeLine_eq];omega
def ZgW:Y8 X (.builtin "sorted") (Zf9 X.K):=by
 intro pins s σ H vs us Q I r h;obtain⟨a,ns,rfl,hs,h64,q⟩:=h;obtain⟨its,rv,hl,_⟩:=I.list hs;rw[Zy.ref1 r];have hi:=rv.ints;refine PyProof.Rows.sorted_ints hl.isList hi (by rw[hi.length];exact h64) λout ns' h1 h2 h3=>?_;obtain⟨ep,he'⟩:=PyProof.Rows.sortedAll_at s.heap its out;have hlen:(ns'.map V.int).length<=sizeLine:=by rw[length_map,h2.length_eq];exact ZfT h64
 exact⟨.ref _,upd H (s.heap.objs.size+1) (.lst (ns'.map V.int)),I.laid (t':=s.toks) (λ_ _=>PyProof.Rows.sortedAll_old) (Nat.le_succ _) ⟨hlen,out.toList,ep,VV h1,he'⟩,rfl,q ns' _ h2 h3 (I.hok.fresh (Nat.le_succ _))⟩
end
def Zep{prog:Program}{w:World}{A:Around}{E:Value->Shared->Prop}{s:Shared}{l:Addr}{items:Array Value}{Q:Value->Shared->Prop}(hl:s.heap.IsList l items)
  (h:∀s₂:Shared,s₂={s with heap:=s.heap.push {cls:=.type "list_iterator",data:=.fields #[.ref l,.int 0 0]}} ->
   (s₂.heap.IsListIter s.heap.objs.size l 0/\s₂.heap.IsList l items)->l≠s.heap.objs.size->Q (.ref s.heap.objs.size) s₂):wpAny (model prog w) A (pyIter (.ref l)) Q E s:=by
 have hlt:l<s.heap.objs.size:=by obtain⟨_,e,_⟩:=hl;exact Heap.lt_size e
 exact wpAny_pyIter_list hl (h _ rfl ⟨⟨_,Heap.get?_push_size _ rfl,rfl,rfl⟩,hl.push _⟩ (Nat.ne_of_lt hlt))
def D7{prog:Program}{w:World}{A:Around}{bs:List Bool}{its:List Value}(e:its=bs.map Value.bool) :
  TruthOf prog w A (λi v=>its.toArray[i]? = some v) (λi=>bs.getD i false):=λi v s Q E hv hq=>by
 have hv':its[i]? = some v:=by simpa using hv
 rw[e,getElem?_map] at hv';obtain⟨b,hb,rfl⟩:=Option.map_eq_some_iff.mp hv';have hg:bs.getD i false=b:=by rw[getD_eq_getElem?_getD,hb]<;>rfl
 have hq':Q (bs.getD i false) s:=hq;rw[hg] at hq';exact wpAny_truthy_bool hq'
theorem Zb3:∀bs:List Bool,(List.range bs.length).any (λi=>bs.getD i false)=bs.any id
 | []=>rfl
 |b::bs=>by
  rw[length_cons,List.range_succ_eq_map,any_cons,any_map,any_cons,<- Zb3 bs];all_goals rfl
theorem ZbK:∀bs:List Bool,(List.range bs.length).all (λi=>bs.getD i false)=bs.all id
 | []=>rfl
 |b::bs=>by
  rw[length_cons,List.range_succ_eq_map,all_cons,all_map,all_cons,<- ZbK bs];all_goals rfl
section
variable{X:Cx}
inductive ZnA(K:Frag):List V->Hp->VK->Prop|mk {vs H Q} (a:Addr) (bs:List Bool):vs=[V.ref a]->SqL K H a (bs.map V.bl)->Q (.bl (bs.any id)) H->ZnA K vs H Q
inductive Zmg(K:Frag):List V->Hp->VK->Prop|mk {vs H Q} (a:Addr) (bs:List Bool):vs=[V.ref a]->SqL K H a (bs.map V.bl)->Q (.bl (bs.all id)) H->Zmg K vs H Q
def ZlT(hc:X.calm=true):Y8 X (.builtin "any") (ZnA X.K):=by
 intro pins s σ H vs us Q I r h;obtain⟨a,bs,rfl,hs,q⟩:=h;obtain⟨its,rv,hl,_⟩:=I.list hs;rw[Zy.ref1 r];have hb:=rv.bls;refine call_any_walk (Zep hl.isList λs₂ e2 st hne=>?_);subst e2;refine⟨_,_,_,_,_,_,_,rfl,Walks.list (A:=X.A.in1) (I.ok.hd hc) _ a hne its.toArray,st,D7 hb,λ_ _ hk=>?_⟩;refine⟨.bl _,H,I.kept λb o eo=>hk b o (λhmem=>?_) (Heap.get?_push_of_some _ eo),?_,q⟩
 ·rcases mem_cons.mp hmem with e1|hmem
  ·exact absurd (e1▸Heap.lt_size eo) (Nat.lt_irrefl _)
  ·cases hmem
 ·show Value.bool _=Value.bool _
  rw[<- Zb3,hb,size_toArray,length_map]
def ZeP(hc:X.calm=true):Y8 X (.builtin "all") (Zmg X.K):=by
 intro pins s σ H vs us Q I r h;obtain⟨a,bs,rfl,hs,q⟩:=h;obtain⟨its,rv,hl,_⟩:=I.list hs;rw[Zy.ref1 r];have hb:=rv.bls;refine call_all_walk (Zep hl.isList λs₂ e2 st hne=>?_);subst e2;refine⟨_,_,_,_,_,_,_,rfl,Walks.list (A:=X.A.in1) (I.ok.hd hc) _ a hne its.toArray,st,D7 hb,λ_ _ hk=>?_⟩;refine⟨.bl _,H,I.kept λb o eo=>hk b o (λhmem=>?_) (Heap.get?_push_of_some _ eo),?_,q⟩
 ·rcases mem_cons.mp hmem with e1|hmem
  ·exact absurd (e1▸Heap.lt_size eo) (Nat.lt_irrefl _)
  ·cases hmem
 ·show Value.bool _=Value.bool _
  rw[<- ZbK,hb,size_toArray,length_map]
end
mutual
inductive Dp(K:Frag)(H:Hp):V->PyData->Prop
 |non:Dp K H .non .none
 |bl (b:Bool):Dp K H (.bl b) (.bool b)
 |int (i:Int):Dp K H (.int i) (.int i)
 |str (x:Str):Dp K H (.str x) (.str x)
 |lst {a:Addr} {xs:List V} {ds:List PyData}:SqL K H a xs->Zbh K H xs ds->Dp K H (.ref a) (.list ds)
 |tup {a:Addr} {xs:List V} {ds:List PyData}:SqT K H a xs->Zbh K H xs ds->Dp K H (.ref a) (.tuple ds)
inductive Zbh(K:Frag)(H:Hp):List V->List PyData->Prop
 |nil:Zbh K H [] []
 |cons {v:V} {vs:List V} {d:PyData} {ds:List PyData}:Dp K H v d->Zbh K H vs ds->Zbh K H (v::vs) (d::ds)
end
section
variable{X:Cx}{pins:List (Addr×Obj)}{σ:St}{H:Hp}{s:Shared}
mutual
theorem Dp.reads(I:Inv X pins σ H s):∀(d:PyData) (v:V) (u:Value),Dp X.K H v d->ZL v u->∃as,Reads s.heap u d as
 |.none,_,_,h,r=>by
  cases h;cases r;exact⟨_,Reads.none⟩
 |.bool b,_,_,h,r=>by
  cases h;cases r;exact⟨_,Reads.bool b⟩
 |.int i,_,_,h,r=>by
  cases h;obtain⟨t,rfl⟩:=r;exact⟨_,Reads.int i t⟩
 |.str x,_,_,h,r=>by
  cases h;obtain⟨t,rfl⟩:=r;exact⟨_,Reads.str x t⟩
 |.list ds,_,_,h,r=>by
  cases h with
  |lst hs ha=>
   cases r;obtain⟨its,rv,⟨o,n,ho,hc,_,hd⟩,_⟩:=I.list hs;obtain⟨as,hr⟩:=Dp.readsAll I ds _ its ha rv;exact⟨_,Reads.list ho hc hd hr⟩
 |.tuple ds,_,_,h,r=>by
  cases h with
  |tup hs ha=>
   cases r;obtain⟨its,rv,⟨o,ho,hc,n,hd⟩,_⟩:=I.tuple hs;obtain⟨as,hr⟩:=Dp.readsAll I ds _ its ha rv;exact⟨_,Reads.tuple ho hc hd hr⟩
 |.dict _,_,_,h,_=>by cases h
theorem Dp.readsAll(I:Inv X pins σ H s):∀(ds:List PyData) (vs:List V) (us:List Value),Zbh X.K H vs ds->Zy vs us->∃as,ReadsAll s.heap us ds as
 | [],_,_,h,r=>by
  cases h;cases r;exact⟨_,ReadsAll.nil⟩
 |d::ds,_,_,h,r=>by
  cases h with
  |cons h1 h2=>
   cases r with
   |cons r1 r2=>
    obtain⟨as,q1⟩:=Dp.reads I d _ _ h1 r1;obtain⟨bs,q2⟩:=Dp.readsAll I ds _ _ h2 r2;exact⟨_,ReadsAll.cons q1 q2⟩
end
end
section
variable{X:Cx}
inductive ZmV(K:Frag):V->V->Hp->VK->Prop|mk {x y H Q} d e:Dp K H x d->Dp K H y e->SeqAt.shaped d=true->SeqAt.shaped e=true->Q (.bl (PyData.eqv d e)) H->ZmV K x y H Q
def Zl1(hu:X.A.units+64<cLine):OpR X (compareOp .Eq) (ZmV X.K):=by
 intro pins s σ H x y v u Q I rx ry h;obtain⟨d,e,hd,he,sd,se,q⟩:=h;obtain⟨as,r1⟩:=Dp.reads I d x v hd rx;obtain⟨bs,r2⟩:=Dp.reads I e y u he ry;exact SeqAt.compareEq_shaped r1 r2 sd se hu ⟨.bl _,H,I,rfl,q⟩
end
abbrev ZiB(h:Heap)(c:Addr)(v:Option Value):Prop:=h.IsCell c v
def Zn3(scope sc:Scope):Scope:=
 {scope with names:=scope.names.map λ(n,k)=>if (k == .free&&sc.kind == .function&&sc.names.lookup n==some .cell) then (n,.cell) else (n,k)}
def ZZ(cells:List (Str×Addr)):List (Str×NameKind)->List (Str×Addr)->List (Str×Addr)
 | [],acc=>acc
 |(n,k)::r,acc=>if k == .free then ZZ cells r ((n,(cells.lookup n).getD 0)::acc) else ZZ cells r acc
theorem Dm(env:Env)(f:Str×NameKind->List (Str×Addr)->Sem (ForInStep (List (Str×Addr))))
  (hf:∀n k c,f (n,k) c=if k == .free then (do let a <- cellOf env n;pure (.yield ((n,a)::c))) else pure (.yield c)) :
  ∀(names:List (Str×NameKind)) (acc:List (Str×Addr)),(∀y∈names,y.2 = .free->∃c,env.cells.lookup y.1=some c)->forIn names acc f=pure (ZZ env.cells names acc)
 | [],acc,_=>by rw[forIn_nil];rfl
 |(n,k)::r,acc,h=>by
  rw[List.forIn_cons,hf];have ih:=λacc=>Dm env f hf r acc λy hy=>h y (mem_cons_of_mem _ hy);unfold ZZ;by_cases hk:(k==NameKind.free)=true
  ·rw[if_pos hk,if_pos hk]
   obtain⟨c,hc⟩:=h (n,k) mem_cons_self (by simpa using hk);have e:cellOf env n=pure c:=by unfold cellOf;rw[hc]
   rw[e];have e2:(env.cells.lookup n).getD 0=c:=by rw[hc];rfl
   rw[e2];exact ih _
  ·rw[if_neg hk,if_neg hk]
   exact ih _
def Zev{scope:Scope}{env:Env}(h:∀y∈scope.names,y.2 = .free->∃c,env.cells.lookup y.1=some c):closureFor scope env=pure (ZZ env.cells scope.names []):=by
 simp only[closureFor];rw[Dm env _ (λn k c=>rfl) scope.names [] h];rfl
theorem UV{α:Type}:∀{l:List (Str×α)} {n:Str} {c:α},(n,c)∈l->∃c',l.lookup n=some c'
 |(k,v)::r,n,c,h=>by
  rw[lookup_cons];cases hb:n==k with
  |true=>exact⟨_,rfl⟩
  |false=>
   rcases mem_cons.mp h with e|h
   ·cases e;simp at hb
   ·exact UV h
theorem Y5{cells:List (Str×Addr)}:∀{names:List (Str×NameKind)} {acc:List (Str×Addr)} {n:Str} {c:Addr},(n,c)∈ZZ cells names acc->(n,c)∈acc\/((n,.free)∈names/\c=(cells.lookup n).getD 0)
 | [],_,_,_,h=>.inl h
 |(m,k)::r,acc,n,c,h=>by
  unfold ZZ at h;split at h
  ·rename_i hk
   have hk:k = .free:=by simpa using hk
   rcases Y5 h with h|⟨h1,h2⟩
   ·rcases mem_cons.mp h with e|h
    ·cases e;exact .inr ⟨hk▸mem_cons_self,rfl⟩
    ·exact .inl h
   ·exact .inr ⟨mem_cons_of_mem _ h1,h2⟩
  ·rcases Y5 h with h|⟨h1,h2⟩
   ·exact .inl h
   ·exact .inr ⟨mem_cons_of_mem _ h1,h2⟩
theorem V7{cells:List (Str×Addr)}:∀{names:List (Str×NameKind)} {acc:List (Str×Addr)} {p:Str×Addr},p∈acc->p∈ZZ cells names acc
 | [],_,_,h=>h
 |(m,k)::r,acc,p,h=>by
  unfold ZZ;split
  ·exact V7 (mem_cons_of_mem _ h)
  ·exact V7 h
theorem Us{cells:List (Str×Addr)}:∀{names:List (Str×NameKind)} {acc:List (Str×Addr)} {n:Str},(n,.free)∈names->(n,(cells.lookup n).getD 0)∈ZZ cells names acc
 |(m,k)::r,acc,n,h=>by
  unfold ZZ;rcases mem_cons.mp h with e|h
  ·cases e
   exact V7 mem_cons_self
  ·split
   ·exact Us h
   ·exact Us h
theorem Vh:∀{names:List (Str×NameKind)} {h:Heap} {acc:List (Str×Addr)} {x:Str} {c:Addr},(x,c)∈cellsFrom h.objs.size names acc ->
  (x,c)∈acc\/((x,.cell)∈names/\h.objs.size<=c/\ZiB (pushCells h names) c none)
 | [],_,_,_,_,h=>.inl h
 |(n,k)::r,h,acc,x,c,hm=>by
  unfold cellsFrom at hm;unfold pushCells;split at hm
  ·rename_i hk
   rw[if_pos hk];have hk:k = .cell:=by simpa using hk
   rw[<- Heap.size_push h {cls:=.type "cell",data:=.cell none}] at hm;rcases Vh hm with hm|⟨h1,h2,h3⟩
   ·rcases mem_cons.mp hm with e|hm
    ·cases e
     exact .inr ⟨hk▸mem_cons_self,Nat.le_refl _,_,pushCells_keeps r _ _ _ (Heap.get?_push_size _ rfl),rfl⟩
    ·exact .inl hm
   ·rw[Heap.size_push] at h2
    exact .inr ⟨mem_cons_of_mem _ h1,Nat.le_of_succ_le h2,h3⟩
  ·rename_i hk
   rw[if_neg hk];rcases Vh hm with hm|⟨h1,h2,h3⟩
   ·exact .inl hm
   ·exact .inr ⟨mem_cons_of_mem _ h1,h2,h3⟩
theorem UG:∀{names:List (Str×NameKind)} {n:Nat} {acc:List (Str×Addr)} {p:Str×Addr},p∈acc->p∈cellsFrom n names acc
 | [],_,_,_,h=>h
 |(m,k)::r,n,acc,p,h=>by
  unfold cellsFrom;split
  ·exact UG (mem_cons_of_mem _ h)
  ·exact UG h
theorem DB:∀{names:List (Str×NameKind)} {n:Nat} {acc:List (Str×Addr)} {x:Str},(x,.cell)∈names->∃c,(x,c)∈cellsFrom n names acc
 |(m,k)::r,n,acc,x,h=>by
  unfold cellsFrom;rcases mem_cons.mp h with e|h
  ·cases e
   exact⟨n,UG mem_cons_self⟩
  ·split
   ·exact DB h
   ·exact DB h
theorem DF:∀{names:List (Str×NameKind)} {h:Heap} {acc:List (Str×Addr)} {x y:Str} {c:Addr},(∀p∈acc,p.2<h.objs.size)->(∀x y c,(x,c)∈acc->(y,c)∈acc->x=y) ->
  (x,c)∈cellsFrom h.objs.size names acc->(y,c)∈cellsFrom h.objs.size names acc->x=y
 | [],_,_,_,_,_,_,hi,h1,h2=>hi _ _ _ h1 h2
 |(n,k)::r,h,acc,x,y,c,hl,hi,h1,h2=>by
  unfold cellsFrom at h1 h2;split at h1
  ·rename_i hk
   rw[if_pos hk] at h2;rw[<- Heap.size_push h {cls:=.type "cell",data:=.cell none}] at h1 h2;refine DF (h:=h.push _) (λp hp=>?_) (λx y c a b=>?_) h1 h2
   ·rw[Heap.size_push]
    rcases mem_cons.mp hp with rfl|hp
    ·exact Nat.lt_succ_self _
    ·exact Nat.lt_succ_of_lt (hl p hp)
   ·rcases mem_cons.mp a with e|a<;>rcases mem_cons.mp b with e'|b
    ·cases e;cases e';rfl
    ·cases e;exact absurd (hl _ b) (Nat.lt_irrefl _)
    ·cases e';exact absurd (hl _ a) (Nat.lt_irrefl _)
    ·exact hi _ _ _ a b
  ·rename_i hk
   rw[if_neg hk] at h2;exact DF hl hi h1 h2
def Zej{M:Model}{A:Around}{E:Value->Shared->Prop}{s:Shared}{scope:Scope}{globals:Addr}{closure:List (Str×Addr)}{qual:Str}{func:Option Addr}{code:Value}{around:Env}{builtins:Addr}{Q:Env->Shared->Prop}
  (h:Q (newEnv scope s.heap.objs.size globals (cellsFrom (s.heap.objs.size+1) scope.names closure) qual func code (some around) builtins)
   {s with heap:=pushCells (s.heap.push {cls:=.type "dict",data:=.dict #[]}) scope.names}) :
  wpAny M A (newFunctionEnv scope globals closure [] qual func code (some around) builtins) Q E s:=by
 simp only[newFunctionEnv,Option.isSome_some,if_true];refine wpAny_bind (wpAny_alloc ?_);refine wpAny_bind (wpAny_layCells _ (λn k c=>rfl) scope.names closure _ _ ?_);rw[show({s with heap:=s.heap.push {cls:=.type "dict",data:=.dict #[]}}:Shared).heap.objs.size=s.heap.objs.size+1 from Heap.size_push ..];rw[forIn_nil];exact wpAny_bind (wpAny_pure (wpAny_pure h))
theorem UB{sc:Scope}:∀{names:List (Str×NameKind)} {x:Str} {k:NameKind},
  (names.map λ(n,k)=>if (k==NameKind.free&&sc.kind == .function&&sc.names.lookup n==some .cell) then (n,NameKind.cell) else (n,k)).lookup x=some k ->
  ∃k',names.lookup x=some k'/\(k=k'\/(k' = .free/\k = .cell))
 | [],_,_,h=>by simp at h
 |(n,k₀)::r,x,k,h=>by
  have ih:=@UB sc r x k;have h':List.lookup x ((if (k₀==NameKind.free&&sc.kind == .function&&sc.names.lookup n==some .cell)=true then (n,NameKind.cell) else (n,k₀))::(r.map _))=some k:=h;cases hx:x==n with
  |true=>
   simp only[lookup_cons,hx];by_cases hc:(k₀==NameKind.free&&sc.kind == .function&&sc.names.lookup n==some .cell)=true
   ·rw[if_pos hc] at h'
    simp only[lookup_cons,hx] at h';cases h';simp only[Bool.and_eq_true,beq_iff_eq] at hc;exact⟨k₀,rfl,.inr ⟨hc.1.1,rfl⟩⟩
   ·rw[if_neg hc] at h'
    simp only[lookup_cons,hx] at h';cases h';exact⟨_,rfl,.inl rfl⟩
  |false=>
   simp only[lookup_cons,hx];by_cases hc:(k₀==NameKind.free&&sc.kind == .function&&sc.names.lookup n==some .cell)=true
   ·rw[if_pos hc] at h'
    simp only[lookup_cons,hx] at h';exact ih h'
   ·rw[if_neg hc] at h'
    simp only[lookup_cons,hx] at h';exact ih h'
structure Zdt(N:List Str)(sc scope:Scope)(own:List (Str×Nat)):Prop where
 kind:scope.kind = .function
 uniq:∀y∈scope.names,scope.names.lookup y.1=some y.2
 ix:∀p∈own,N[p.2]? = some p.1
 free:∀y∈scope.names,y.2 = .free->sc.names.lookup y.1=some .cell\/sc.names.lookup y.1=some .free
 own:∀y∈scope.names,y.2 = .local\/y.2 = .cell->y.1∈own.map (·.1)\/y.1∉N
def Jx(σ:St):List Nat->St
 | []=>σ
 |v::vs=>(Jx σ vs).set v none
theorem Uj(σ:St):∀vs:List Nat,(Jx σ vs).length=σ.length
 | []=>rfl
 |v::vs=>by unfold Jx;rw[length_set,Uj σ vs]
theorem Dz{σ:St}{i:Nat}{x:V}:∀{vs:List Nat},(Jx σ vs)[i]? = some (some x)->σ[i]? = some (some x)/\i∉vs
 | [],h=>⟨h,by simp⟩
 |v::vs,h=>by
  unfold Jx at h;by_cases hi:v=i
  ·subst hi
   by_cases hv:v<(Jx σ vs).length
   ·rw[getElem?_set_self hv] at h;cases h
   ·rw[getElem?_eq_none (by simpa using hv)] at h;cases h
  ·rw[getElem?_set_ne hi] at h
   obtain⟨h1,h2⟩:=Dz h;exact⟨h1,by simp only[mem_cons,not_or];exact⟨λe=>hi e.symm,h2⟩⟩
abbrev Cx.blk(X:Cx)(s:Shared)(H:Hp)(scope:Scope)(cenv:Env)(fp:List Addr):Cx:={X with s_0:=s,H_0:=H,env:=cenv,outer:=X.stack,ex:=fp,fn:=λx=>scope.names.lookup x==some .cell,pn:=[],xe:=λ_ _=>False}
section
variable{X:Cx}{pins:List (Addr×Obj)}{σ:St}{H:Hp}{s:Shared}
def Zeo{scope:Scope}{own:List (Str×Nat)}{fp:List Addr}(I:Inv X pins σ H s)(ok:Zdt X.N X.env.scope scope own)(hN:X.N.Nodup)(hfp:∀b∈fp,Zaf X pins H b/\b<s.heap.objs.size) :
  Inv (X.blk s H scope (compEnvC scope (cellsFrom (s.heap.objs.size+1) scope.names (ZZ X.env.cells scope.names [])) s.heap.objs.size X.env) fp) [] (Jx σ (own.map (·.2))) H {s with heap:=pushCells (s.heap.push {cls:=.type "dict",data:=.dict #[]}) scope.names}:=by
 have hfree:∀y∈scope.names,y.2 = .free->∃c,X.env.cells.lookup y.1=some c:=λy hy e=>by
  rcases ok.free y hy e with k|k
  ·exact I.ok.has _ (.inl k)
  ·exact I.ok.has _ (.inr k)
 generalize hcenv:compEnvC scope (cellsFrom (s.heap.objs.size+1) scope.names (ZZ X.env.cells scope.names [])) s.heap.objs.size X.env=cenv;have kp:∀b o,s.heap.get? b=some o->(pushCells (s.heap.push {cls:=.type "dict",data:=.dict #[]}) scope.names).get? b=some o:=λb o e=>pushCells_keeps _ _ _ _ (Heap.get?_push_of_some _ e);have hL:cenv.locals=s.heap.objs.size:=by rw[<- hcenv];rfl
 have hcl:cenv.cells=cellsFrom (s.heap.objs.size+1) scope.names (ZZ X.env.cells scope.names []):=by rw[<- hcenv];rfl
 have hsc:cenv.scope=Zn3 scope X.env.scope:=by rw[<- hcenv];rfl
 rw[<- Heap.size_push s.heap {cls:=.type "dict",data:=.dict #[]}] at hcl;have cm:∀{y c},(y,c)∈ZZ X.env.cells scope.names []->X.env.cells.lookup y=some c/\c<s.heap.objs.size:=λ{y c} hm=>by
  rcases Y5 hm with hm|⟨h1,rfl⟩
  ·cases hm
  ·obtain⟨c,hc⟩:=hfree _ h1 rfl
   rw[hc];obtain⟨w,z⟩:=I.cell _ _ hc;exact⟨rfl,z.lt⟩
 have mem:∀{y c},cenv.cells.lookup y=some c->(X.env.cells.lookup y=some c/\c<s.heap.objs.size)\/(s.heap.objs.size+1<=c/\ZiB (pushCells (s.heap.push {cls:=.type "dict",data:=.dict #[]}) scope.names) c none):=λ{y c} e=>by
  rw[hcl] at e;rcases Vh (PySem.mem_of_lookup e) with hm|⟨_,h2,h3⟩
  ·exact .inl (cm hm)
  ·rw[Heap.size_push] at h2;exact .inr ⟨h2,h3⟩
 have look:∀{y},scope.names.lookup y=some .free->∃c,cenv.cells.lookup y=some c/\X.env.cells.lookup y=some c:=λ{y} hl=>by
  have hy:(y,NameKind.free)∈scope.names:=PySem.mem_of_lookup hl;obtain⟨c',e'⟩:=UV (UG (names:=scope.names) (n:=(s.heap.push {cls:=.type "dict",data:=.dict #[]}).objs.size) (Us (cells:=X.env.cells) (acc:=[]) hy));rw[<- hcl] at e';refine⟨c',e',?_⟩;rw[hcl] at e';rcases Vh (PySem.mem_of_lookup e') with hm|⟨h1,_,_⟩
  ·exact(cm hm).1
  ·have:=ok.uniq _ h1
   rw[hl] at this;cases this
 have okB:(X.blk s H scope cenv fp).Ok:=by
  refine⟨I.ok.mod,by show cenv.scope.kind=_;rw[hsc];exact ok.kind,by show cenv.globals=_;rw[<- hcenv];exact I.ok.glob,by show cenv.builtins=_;rw[<- hcenv];exact I.ok.blt,by show s.heap.objs.size<=cenv.locals;rw[hL];exact Nat.le_refl _,
   λy z c e1 e2=>?_,λy hy=>?_,λy c z e=>?_,I.ok.hd,I.ok.frames,.inl rfl,λb hb=>⟨?_,λy c e z=>?_⟩,I.bs,Nat.le_trans I.ok.bsz I.sz,λb o e hb=>?_,λb hb z=>?_,I.stack,I.stkFree⟩
  ·have e1:cenv.cells.lookup y=some c:=e1
   have e2:cenv.cells.lookup z=some c:=e2;rw[hcl] at e1 e2;refine DF (λp hp=>?_) (λy z c a b=>I.ok.inj y z c (cm a).1 (cm b).1) (PySem.mem_of_lookup e1) (PySem.mem_of_lookup e2);rw[Heap.size_push];exact Nat.lt_succ_of_lt (cm (y:=p.1) (c:=p.2) hp).2
  ·show ∃c,cenv.cells.lookup y=some c
   have key:∀k,cenv.kindOf y=some k->(k = .cell\/k = .free)->∃c,cenv.cells.lookup y=some c:=λk hk hk'=>by
    unfold Env.kindOf at hk;rw[hsc] at hk;obtain⟨k',e,r⟩:=UB hk;have:k' = .cell\/k' = .free:=by
     rcases r with rfl|⟨rfl,_⟩
     ·exact hk'
     ·exact .inr rfl
    rcases this with rfl|rfl
    ·obtain⟨c,hm⟩:=DB (n:=(s.heap.push {cls:=.type "dict",data:=.dict #[]}).objs.size) (acc:=ZZ X.env.cells scope.names []) (PySem.mem_of_lookup e)
     obtain⟨c',e'⟩:=UV hm;exact⟨c',by rw[hcl];exact e'⟩
    ·obtain⟨c,h1,_⟩:=look e
     exact⟨c,h1⟩
   rcases hy with hy|hy
   ·exact key _ hy (.inl rfl)
   ·exact key _ hy (.inr rfl)
  ·have z:(scope.names.lookup y==some NameKind.cell)=true:=z
   have z:scope.names.lookup y=some .cell:=by simpa using z
   have e:cenv.cells.lookup y=some c:=e;rw[hcl] at e;rcases Vh (PySem.mem_of_lookup e) with hm|⟨_,h2,_⟩
   ·rcases Y5 hm with hm|⟨h1,_⟩
    ·cases hm
    ·have q:=ok.uniq _ h1
     rw[z] at q;cases q
   ·rw[Heap.size_push] at h2
    exact Nat.le_of_succ_le h2
  ·show b≠cenv.locals
   rw[hL];exact Nat.ne_of_lt (hfp b hb).2
  ·have e:cenv.cells.lookup y=some c:=e
   rcases mem e with⟨h1,_⟩|⟨h1,_⟩
   ·exact(hfp b hb).1.2.2.2.2.1 y c h1 z
   ·have h2:s.heap.objs.size+1<=b:=by rw[<- z];exact h1
    exact absurd (Nat.lt_of_lt_of_le (hfp b hb).2 (Nat.le_of_succ_le h2)) (Nat.lt_irrefl _)
  ·rcases(hfp b hb).1.2.2.2.1 with z|z
   ·exact I.ok.noex b o e z
   ·exact absurd (Nat.lt_of_lt_of_le (Heap.lt_size e) (Nat.le_trans I.ok.bsz z)) (Nat.lt_irrefl _)
  ·rcases mem_cons.mp (I.stkSub b z) with z|z
   ·exact(hfp b hb).1.2.1 z
   ·exact(hfp b hb).1.2.2.1 z
 refine⟨okB,rfl,I.bare,Un.kept kp,⟨λ_=>none,?_,λi y av e1 e2 e3=>?_⟩,λy c e=>?_,?_,λy c e=>?_,λp hp=>?_,I.hok.kept kp,by rw[Uj];exact I.len⟩
 ·show Heap.Ns _ cenv.locals _
  rw[hL];exact Heap.Ns.keeps (Heap.Ns.new ..) λb o e=>pushCells_keeps _ _ _ _ e
 ·obtain⟨e2,hne⟩:=Dz e2
  have hfr:scope.names.lookup y=some .free/\(cenv.kindOf y=some .cell\/cenv.kindOf y=some .free):=by
   have key:∀k,cenv.scope.names.lookup y=some k->k = .local\/k = .cell\/k = .free->scope.names.lookup y=some .free/\(cenv.kindOf y=some .cell\/cenv.kindOf y=some .free):=λk hk hk'=>by
    have hk0:=hk;rw[hsc] at hk;obtain⟨k',e,r⟩:=UB hk;have no:¬ (k' = .local\/k' = .cell):=λhh=>by
     rcases ok.own _ (PySem.mem_of_lookup e) hh with e'|e'
     ·obtain⟨p,hp,hpy⟩:=mem_map.mp e'
      have e3:=ok.ix p hp;have:p.1=y:=hpy;rw[this] at e3;exact hne (mem_map.mpr ⟨p,hp,ZaV hN e3 e1⟩)
     ·exact e' (mem_of_getElem? e1)
    rcases r with rfl|⟨rfl,rfl⟩
    ·rcases hk' with rfl|rfl|rfl
     ·exact absurd (.inl rfl) no
     ·exact absurd (.inr rfl) no
     ·exact⟨e,.inr hk0⟩
    ·exact⟨e,.inl hk0⟩
   have e3:Vis cenv.scope y:=e3;rcases e3 with e3|e3|e3
   ·exact key _ e3 (.inl rfl)
   ·exact key _ e3 (.inr (.inl rfl))
   ·exact key _ e3 (.inr (.inr rfl))
  obtain⟨m,hn,hl⟩:=I.loc;have hvis:Vis X.env.scope y:=(ok.free _ (PySem.mem_of_lookup hfr.1) rfl).elim (λk=>.inr (.inl k)) (λk=>.inr (.inr k));obtain⟨w,r,q⟩:=hl i y av e1 e2 hvis;refine⟨w,r,.inr ⟨hfr.2,?_⟩⟩;obtain⟨c,h1,h2⟩:=look hfr.1;rcases q with⟨k,_⟩|⟨_,c',e',z⟩
  ·have k:X.env.scope.names.lookup y=some .local:=k
   rcases ok.free _ (PySem.mem_of_lookup hfr.1) rfl with k'|k'<;>rw[show X.env.scope.names.lookup y=_ from k'] at k<;>cases k
  ·rw[h2] at e';cases e'
   exact⟨c,h1,z.keeps kp⟩
 ·have e:cenv.cells.lookup y=some c:=e
  rcases mem e with⟨h1,_⟩|⟨_,z⟩
  ·obtain⟨w,z⟩:=I.cell y c h1
   exact⟨w,z.keeps kp⟩
  ·exact⟨_,z⟩
 ·show H cenv.locals=none
  rw[hL];exact I.hok.fresh (Nat.le_refl _)
 ·have e:cenv.cells.lookup y=some c:=e
  rcases mem e with⟨h1,_⟩|⟨h1,_⟩
  ·exact I.freeC y c h1
  ·exact I.hok.fresh (Nat.le_of_succ_le h1)
 ·exact absurd (show p∈([]:List (Addr×Obj))++[] from hp) (by simp)
def Zl4{E:Value->Shared->Prop}{D:Addr}{xs:List V}{y:V}{v:Value}{Q:Value->Shared->Prop}(I:Inv X pins σ H s)(hD:H D=some (.lst xs))(hz:xs.length<sizeLine)(r:ZL y v)
  (h:∀s',Inv X pins σ (upd H D (.lst (xs++[y]))) s'->Q .none s'):wpAny (model X.prog X.w) X.A (call (.builtin "list.append") [.ref D,v]) Q E s:=by
 obtain⟨hz',its,n,ri,e⟩:=I.hok D _ hD;have hl:=ri.length;refine append_at (hsz:=by rw[size_toArray];omega) e λh' sb ho'=>?_;refine h {s with heap:=h'} (I.write (t':=s.toks) (by rw[hD];trivial) (.inl rfl) (λb u hb q=>(sb.2 b hb).trans q) ⟨_,ho'⟩ ⟨by rw[length_append];exact hz,its++[v],n+1,ri.append (.cons r .nil),?_⟩);rw[ho'];simp
def PTs(X:Cx)(ifs:List Expr)(t:TT):Prop:=
 ∀(pins:List (Addr×Obj)) (s:Shared) (σ:St) (H:Hp) (Q:Bool->Hp->Prop),Inv X pins σ H s->t σ H Q ->
  wpAny (model X.prog X.w) X.A (forIn ifs true λc r=>if r=true then do let ok <- isTrue c X.env (eval c X.env);pure (ForInStep.yield ok) else pure (ForInStep.yield r)) (TP X pins σ Q) X.xe s
def Znp:TT:=λ_ H Q=>Q true H
def Jf:PTs X [] Znp:=λ_ _ _ H _ I h=>wpAny_tests_nil ⟨H,I,h⟩
def Dk{c:Expr}{t:TT}(h:PT X c t):PTs X [c] t:=λpins s σ H Q I hw=>wpAny_tests_one (h pins s σ H Q I hw)
end
def Zhn{α:Type}{t:Sem α}{Q Q':α->Shared->Prop}{M:Model}{A:Around}{E:Value->Shared->Prop}{s:Shared}(h:wpAny M A t Q (λ_ _=>False) s)(hQ:∀a s,Q a s->Q' a s):wpAny M A t Q' E s:=wpAny_mono h hQ λ_ _ z=>False.elim z
def Zdf{prog:Program}{w:World}{A:Around}{R:Result->Shared->Prop}{s:Shared}{elt target iter:Expr}{ifs:List Expr}{scope:Scope}{pos:Pos}{it acc:Value}{env:Env}(I:Nat->Shared->Prop)
  (turn:∀n s,I n s->wpAny (model prog w) A (pyNext it) (λr s₁=>match r with
   |none=>R (.ok .next) s₁
   |some v=>wpAny (model prog w) A (letOwnedTupleGo target it v) (λ_ s₁'=>wpAny (model prog w) A (assign target env v) (λ_ s₂=>
     wpAny (model prog w) A (forIn ifs true λc r=>if r=true then do let ok <- isTrue c env (eval c env);pure (ForInStep.yield ok) else pure (ForInStep.yield r)) (λok s₃=>
      if ok=true then wpAny (model prog w) A (eval elt env) (λx s₄=>
       wpAny (model prog w) A (call (.builtin "list.append") [acc,x]) (λ_ s₅=>∃m,m<n/\I m s₅) (notedBy (model prog w) A env λe s'=>R (.error e) s') s₄) (notedBy (model prog w) A env λe s'=>R (.error e) s') s₃
      else ∃m,m<n/\I m s₃) (notedBy (model prog w) A env λe s'=>R (.error e) s') s₂) (notedBy (model prog w) A env λe s'=>R (.error e) s') s₁') (notedBy (model prog w) A env λe s'=>R (.error e) s') s₁) (notedBy (model prog w) A env λe s'=>R (.error e) s') s)
  (n:Nat) (h:I n s) :
  codeAny (model prog w) A (.compLoop (.ListComp elt [⟨target,iter,ifs,0⟩] scope pos) 0 it acc env) R s:=by
 refine codeAny_loop rfl I (λn s hI=>?_) n h;show wpAny _ A ((compTurn (.ListComp elt [⟨target,iter,ifs,0⟩] scope pos) 0 it acc env).onRaise (λx=>do noteFrame x env;theTreesLotGoes x)) _ _ s;refine wpAny_noted ?_;rw[compTurn_list];refine wpAny_bind (wpAny_standAt (wpAny_bind (wpAny_mono (turn n s hI) (λr s₁ h₁=>?_) λ_ _ h'=>h')));cases r with
 |none=>exact wpAny_pure h₁
 |some v=>
  refine wpAny_bind (wpAny_mono h₁ (λ_ s₁' h₁'=>?_) λ_ _ h'=>h');refine wpAny_bind (wpAny_mono h₁' (λ_ s₂ h₂=>wpAny_bind (wpAny_mono h₂ (λok s₃ h₃=>?_) λ_ _ h'=>h')) λ_ _ h'=>h');cases ok with
  |false=>exact wpAny_pure ⟨rfl,h₃⟩
  |true=>
   exact wpAny_bind (wpAny_bind (wpAny_mono h₃ (λx s₄ h₄=>wpAny_bind (wpAny_mono h₄ (λ_ s₅ h₅=>wpAny_pure (wpAny_pure ⟨rfl,h₅⟩)) λ_ _ h'=>h')) λ_ _ h'=>h'))
section
variable{X:Cx}
def tLc(wi:TI)(g:TG)(tt:TT)(te:TE)(vs:List Nat):TE:=λσ H Q=>wi σ H λJ H1=>∀D,H1 D=none->∃W:Nat->Nat->Hp->Prop,(∃m,W 0 m (upd H1 D (.lst [])))/\∀i m H,W i m H ->
 (J.stop i H/\Q (.ref D) H)\/(J.go i H/\∃Nx:Hp->Prop,(∀H',Nx H'->∃m',m'<m/\W (i+1) m' H')/\∀x H',J.yld i H x H'->g x (Jx σ vs) H' λσ2 H2=>Jx σ2 vs=Jx σ vs/\tt σ2 H2 λb H3=>
  if b=true then te σ2 H3 λy H4=>∃acc,H4 D=some (.lst acc)/\acc.length<sizeLine/\Nx (upd H4 D (.lst (acc++[y]))) else Nx H3)
def ZfU{pins:List (Addr×Obj)}{s:Shared}{σ:St}{H:Hp}{Q:VK}{elt tg iter:Expr}{ifs:List Expr}{scope:Scope}{own:List (Str×Nat)}{pos pos':Pos}{wi:TI}{g:TG}{tt:TT}{te:TE}{use:Option (Value->Sem Unit)}{Qf:Value->Shared->Prop}
  (hc:X.calm=true) (hN:X.N.Nodup) (I:Inv X pins σ H s) (hi:PI X tg iter wi) (ok:Zdt X.N X.env.scope scope own)
  (hg:∀(s:Shared) (H:Hp) (C:Addr) (cl:List (Str×Addr)) (fp:List Addr),PG (X.blk s H scope (compEnvC scope cl C X.env) fp) tg g) (ht:∀(s:Shared) (H:Hp) (C:Addr) (cl:List (Str×Addr)) (fp:List Addr),PTs (X.blk s H scope (compEnvC scope cl C X.env) fp) ifs tt)
  (he:∀(s:Shared) (H:Hp) (C:Addr) (cl:List (Str×Addr)) (fp:List Addr),PE (X.blk s H scope (compEnvC scope cl C X.env) fp) elt te) (hs:∀x,foldedSetIterable iter X.env x=pure x)
  (h:tLc wi g tt te (own.map (·.2)) σ H Q)
  (hRR:∀D C s' m H',Inv X pins σ H' s'->Q (.ref D) H'->s'.heap.Ns C m->Zaf X pins H' C->compPost (model X.prog X.w) X.A X.xe use Qf (.ref D) C (.ok .next) s') :
  wpAny (model X.prog X.w) X.A (comprehension (.ListComp elt [⟨tg,iter,ifs,0⟩] scope pos) scope X.env pos' (newList []) false (eval iter X.env) use) Qf X.xe s:=by
 have hfree:∀y∈scope.names,y.2 = .free->∃c,X.env.cells.lookup y.1=some c:=λy hy e=>by
  rcases ok.free y hy e with k|k
  ·exact I.ok.has _ (.inl k)
  ·exact I.ok.has _ (.inr k)
 refine wpAny_comprehension_free (use:=use) rfl hs (Zev hfree) ok.kind (λy hy e=>by rw[ok.uniq y hy,e])
  (thn (hi pins s σ H _ I h) λxv s1 hx=>thn hx λitv s2 h2=>?_);obtain⟨it,fp,tn,J,H2,e,I2,T,st2,f2,q⟩:=h2;subst e;refine wpAny_newObj_type (Zej ?_) (by show 0<=sizeLine;decide);generalize hD:s2.heap.objs.size=D;have hDn:H2 D=none:=I2.hok.fresh (Nat.le_of_eq hD);obtain⟨W,⟨m0,w0⟩,turn⟩:=q D hDn;generalize hs3:({s2 with heap:=s2.heap.push {cls:=.type "list",data:=.seq ([]:List Value).toArray}}:Shared)=s3;have I3:Inv X pins σ (upd H2 D (.lst [])) s3:=by
  rw[<- hs3];refine I2.laid (t':=s2.toks) (λb o e=>Heap.get?_push_of_some _ e) (Nat.le_of_eq hD) ⟨Nat.zero_le _,[],0,.nil,?_⟩;rw[<- hD];exact Heap.get?_push_size _ rfl
 have h3:s3.heap=s2.heap.push {cls:=.type "list",data:=.seq ([]:List Value).toArray}:=by rw[<- hs3]
 have sz:∀b∈fp,b<s2.heap.objs.size:=λb hb=>by
  obtain⟨o,e,_⟩:=T.obj _ _ st2 b hb;exact Heap.lt_size e
 have f3:∀b∈fp,Zaf X pins (upd H2 D (.lst [])) b/\b<s3.heap.objs.size:=λb hb=>by
  have hlt:=sz b hb;refine⟨⟨?_,(f2 b hb).2⟩,by rw[h3,Heap.size_push];exact Nat.lt_succ_of_lt hlt⟩;rw[Zj (by rw[<- hD];exact Nat.ne_of_lt hlt)];exact(f2 b hb).1
 have st3:tn 0 s3.heap:=T.keep _ _ _ st2 λb _ o e=>by rw[h3];exact Heap.get?_push_of_some _ e
 have I4:=Zeo I3 ok hN f3;have pg:=hg s3 (upd H2 D (.lst [])) s3.heap.objs.size (cellsFrom (s3.heap.objs.size+1) scope.names (ZZ X.env.cells scope.names [])) fp;have pt:=ht s3 (upd H2 D (.lst [])) s3.heap.objs.size (cellsFrom (s3.heap.objs.size+1) scope.names (ZZ X.env.cells scope.names [])) fp;have pe:=he s3 (upd H2 D (.lst [])) s3.heap.objs.size (cellsFrom (s3.heap.objs.size+1) scope.names (ZZ X.env.cells scope.names [])) fp;show codeAny _ _ (.compStart (.ListComp elt [⟨tg,iter,ifs,0⟩] scope pos) 0 (.ref it) (.ref D) (compEnvC scope (cellsFrom (s3.heap.objs.size+1) scope.names (ZZ X.env.cells scope.names [])) s3.heap.objs.size X.env)) (compPost (model X.prog X.w) X.A X.xe use Qf (.ref D) s3.heap.objs.size) {s3 with heap:=pushCells (s3.heap.push {cls:=.type "dict",data:=.dict #[]}) scope.names};have nfp:∀b∈fp,(upd H2 D (.lst [])) b=none:=λb hb=>(f3 b hb).1.1;generalize hce:compEnvC scope (cellsFrom (s3.heap.objs.size+1) scope.names (ZZ X.env.cells scope.names [])) s3.heap.objs.size X.env=ce at I4 pg pt pe ⊢;have cL:ce.locals=s3.heap.objs.size:=by subst hce;rfl
 generalize hH3:upd H2 D (.lst [])=H3 at I3 I4 pg pt pe w0 nfp f3;generalize hs4:({s3 with heap:=pushCells (s3.heap.push {cls:=.type "dict",data:=.dict #[]}) scope.names}:Shared)=s4 at I4 ⊢;have st4:tn 0 s4.heap:=T.keep _ _ _ st3 λb _ o e=>by rw[<- hs4];exact pushCells_keeps _ _ _ _ (Heap.get?_push_of_some _ e)
 have stat:∀{σ':St} {H':Hp} {s':Shared},Inv (X.blk s3 H3 scope ce fp) [] σ' H' s'->(∀b∈fp,H' b=none)->∀b∈fp,Zaf (X.blk s3 H3 scope ce fp) [] H' b:=λ{σ' H' s'} I' hn b hb=>
  ⟨hn b hb,(I'.ok.exf b hb).1,I'.ok.exfs b hb,.inl hb,λx c e=>(I'.ok.exf b hb).2 x c e,λp hp=>absurd (show p∈([]:List (Addr×Obj))++[] from hp) (by simp)⟩;have loop:codeAny (model X.prog X.w) X.A (.compLoop (.ListComp elt [⟨tg,iter,ifs,0⟩] scope pos) 0 (.ref it) (.ref D) ce) (compPost (model X.prog X.w) X.A X.xe use Qf (.ref D) s3.heap.objs.size) s4:=by
  refine Zdf (λn s'=>∃i H',Inv (X.blk s3 H3 scope ce fp) [] (Jx σ (own.map (·.2))) H' s'/\tn i s'.heap/\(∀b∈fp,H' b=none)/\W i n H') ?_ m0 ⟨0,H3,I4,st4,nfp,w0⟩
  rintro n s5 ⟨i,H5,I5,st5,n5,w5⟩;rcases turn i n H5 w5 with⟨stop,qq⟩|⟨go,Nx,hNx,step⟩
  ·have td:=T.done (X.blk s3 H3 scope ce fp) rfl rfl rfl hc i [] s5 _ H5 (λ_ _=>False) I5 (stat I5 n5) st5 stop
   refine Zhn td λr s6 ⟨hr,I6⟩=>?_;subst hr;have I7:Inv X pins σ H5 s6:=I3.call' (ch:=fp) I6.os I6.base I6.hok I6.bare λb hb=>⟨(f3 b hb).1.2.2.2.1,(f3 b hb).1.2.1,(f3 b hb).1.2.2.2.2.1,(f3 b hb).1.2.2.2.2.2⟩;have nC:H5 s3.heap.objs.size=none:=by
    have z:H5 ce.locals=none:=I6.free;rw[cL] at z;exact z
   obtain⟨m,hn,_⟩:=I6.loc;have hn:s6.heap.Ns ce.locals m:=hn;rw[cL] at hn;exact hRR D s3.heap.objs.size s6 m H5 I7 qq hn (I3.fpOk (Nat.le_refl _) nC)
  ·have ti:=T.item (X.blk s3 H3 scope ce fp) rfl rfl rfl hc i [] s5 _ H5 (λ_ _=>False) I5 (stat I5 n5) st5 go
   refine Zhn ti λr s6 ⟨u,hr,h6⟩=>?_;subst hr;refine Zhn h6 λ_ s7 ⟨x,H7,I7,r7,y7,st7,n7⟩=>?_;have I7':=I7.pinned (stat I7 n7) (T.obj _ _ st7);refine Zhn (pg _ s7 _ H7 x u _ I7' r7 (step x H7 y7)) λ_ s8 ⟨σ8,H8,I8,hw8,q8⟩=>?_;refine Zhn (pt _ s8 σ8 H8 _ I8 q8) λb s9 ⟨H9,I9,q9⟩=>?_;have fin:∀{s':Shared} {H':Hp},Inv (X.blk s3 H3 scope ce fp) ([]++ZaK fp s7.heap) σ8 H' s'->Nx H'->∃m,m<n/\∃i H',Inv (X.blk s3 H3 scope ce fp) [] (Jx σ (own.map (·.2))) H' s'/\tn i s'.heap/\(∀b∈fp,H' b=none)/\W i m H':=λ{s' H'} I' nx=>by
    obtain⟨m',hm,w'⟩:=hNx H' nx;have pin':∀b∈fp,∀o,s7.heap.get? b=some o->s'.heap.get? b=some o/\H' b=none:=λb hb o e=>
     let z:=I'.pin (b,o) (mem_append_right _ (mem_append_right _ (U0 hb e)))
     ⟨z.1,z.2.1⟩
    have hl:(Jx σ (own.map (·.2))).length=σ8.length:=by rw[<- hw8,Uj]
    refine⟨m',hm,i+1,H',(I'.unpinned (pins:=[])).weak hl (λj v e=>?_),T.keep _ _ _ st7 λb hb o e=>(pin' b hb o e).1,λb hb=>?_,w'⟩
    ·rw[<- hw8] at e
     exact(Dz e).1
    ·obtain⟨o,e,_⟩:=T.obj _ _ st7 b hb
     exact(pin' b hb o e).2
   cases b with
   |false=>
    simp only[Bool.false_eq_true,if_false] at q9 ⊢;exact fin I9 q9
   |true=>
    simp only[if_true] at q9 ⊢;refine Zhn (pe _ s9 σ8 H9 _ I9 q9) λz s10 ⟨yv,H10,I10,r10,acc,hD10,hz10,nx⟩=>?_;exact Zl4 (X:=X.blk s3 H3 scope ce fp) I10 hD10 hz10 r10 λs11 I11=>fin I11 nx
 exact codeAny_compStart_list loop (T.self X.A 0 _ _ _ st4 loop)
def YA{elt tg iter:Expr}{ifs:List Expr}{scope:Scope}{own:List (Str×Nat)}{pos:Pos}{wi:TI}{g:TG}{tt:TT}{te:TE}(hc:X.calm=true)(hN:X.N.Nodup)(hi:PI X tg iter wi)(ok:Zdt X.N X.env.scope scope own)
  (hg:∀(s:Shared) (H:Hp) (C:Addr) (cl:List (Str×Addr)) (fp:List Addr),PG (X.blk s H scope (compEnvC scope cl C X.env) fp) tg g) (ht:∀(s:Shared) (H:Hp) (C:Addr) (cl:List (Str×Addr)) (fp:List Addr),PTs (X.blk s H scope (compEnvC scope cl C X.env) fp) ifs tt)
  (he:∀(s:Shared) (H:Hp) (C:Addr) (cl:List (Str×Addr)) (fp:List Addr),PE (X.blk s H scope (compEnvC scope cl C X.env) fp) elt te) (hs:∀x,foldedSetIterable iter X.env x=pure x:=by intro _;rfl) :
  PE X (.ListComp elt [⟨tg,iter,ifs,0⟩] scope pos) (tLc wi g tt te (own.map (·.2))):=by
 intro pins s σ H Q I h;rw[eval_ListComp];refine ZfU hc hN I hi ok hg ht he hs h λD C s' m H' I' q hn f=>⟨m,hn,λ_ sb=>?_⟩;obtain⟨f0,f1,f2,f3,f4,f5⟩:=f;exact⟨.ref D,H',I'.turned (t':=s'.toks) (λb o hb e=>(sb.2 b hb).trans e) f0 f1 f3 f4 f5,rfl,q⟩
def Vt{i:Nat}{y:Str}{py:Pos}{elt tg iter:Expr}{ifs:List Expr}{scope:Scope}{own:List (Str×Nat)}{pos spos:Pos}{wi:TI}{g:TG}{tt:TT}{te:TE}(hc:X.calm=true)(hN:X.N.Nodup)(hy:X.N[i]? = some y)(hyl:X.env.scope.names.lookup y=some .local)
  (hsw:swapsWith (.ListComp elt [⟨tg,iter,ifs,0⟩] scope pos) (some (.Name y py)) spos.line X.env=pure true) (hi:PI X tg iter wi) (ok:Zdt X.N X.env.scope scope own)
  (hg:∀(s:Shared) (H:Hp) (C:Addr) (cl:List (Str×Addr)) (fp:List Addr),PG (X.blk s H scope (compEnvC scope cl C X.env) fp) tg g) (ht:∀(s:Shared) (H:Hp) (C:Addr) (cl:List (Str×Addr)) (fp:List Addr),PTs (X.blk s H scope (compEnvC scope cl C X.env) fp) ifs tt)
  (he:∀(s:Shared) (H:Hp) (C:Addr) (cl:List (Str×Addr)) (fp:List Addr),PE (X.blk s H scope (compEnvC scope cl C X.env) fp) elt te) (hs:∀x,foldedSetIterable iter X.env x=pure x:=by intro _;rfl) :
  PS X (.Assign [.Name y py] (.ListComp elt [⟨tg,iter,ifs,0⟩] scope pos) spos) (Zlk (tLc wi g tt te (own.map (·.2))) (Js i)):=by
 intro pins s σ H D I h;rw[exec_Assign_Name_used _ _ _ _ hsw];refine wpAny_bind (wpAny_standAt (wpAny_bind ?_));show wpAny _ X.A (do let _ <- comprehension (.ListComp elt [⟨tg,iter,ifs,0⟩] scope pos) scope X.env (firstIterPos [⟨tg,iter,ifs,0⟩] pos) (newList []) false (eval iter X.env) (some (assign (.Name y py) X.env))) _ _ s;have h:tLc wi g tt te (own.map (·.2)) σ H (λx H1=>Js i x σ H1 D.nx):=h
 refine wpAny_bind (thn (ZfU (Qf:=λ_ s'=>SP X pins D .next s') hc hN I hi ok hg ht he hs h λL C s' m H' I' q hn f=>?_) λ_ s' hq=>wpAny_pure (wpAny_pure hq));show wpAny _ _ (assign (.Name y py) X.env (.ref L)) _ _ _;refine wpAny_assign_Name (ZbS (v:=V.ref L) I' hN hy (.inl hyl) rfl (λs2 I2 ⟨a,sb,ha⟩=>?_) (.inr hyl));obtain⟨f0,f1,f2,f3,f4,f5⟩:=f;have haC:C≠a:=by
  rcases ha with z|z
  ·rw[z];exact f1
  ·exact λe=>f4 y a z e.symm
 refine⟨m,hn.sameBut sb haC,λh3 sb3=>?_⟩;exact⟨_,H',I2.turned (t':=s2.toks) (λb o hb e=>(sb3.2 b hb).trans e) f0 f1 f3 f4 f5,q⟩
def UI{elt:Expr}{gs:List Comprehension}{scope:Scope}{pos py:Pos}{y:Str}{l:Nat}{env:Env}(hk:env.scope.kind = .function)(hy:env.scope.names.lookup y=some .local)(hl:(py.line==pos.line)=true)
  (ha:(scope.names.any λ(n,k)=>n==y&&(k == .local||k == .cell))=false):swapsWith (.ListComp elt gs scope pos) (some (.Name y py)) l env=pure true:=by
 have ky:env.kindOf y=some .local:=hy;have hb:env.blockKind = .function:=by unfold Env.blockKind;rw[hk];rfl
 unfold swapsWith;simp only[hb,ky,ha,Expr.pos,hl];rfl
end
def ZdN{lo:Int}{n:Nat}{g:TG}{tt:TT}{te:TE}{vs:List Nat}{σ:St}{H1:Hp}{D:Addr}{Qd:Hp->Prop}(Pv:Nat->Hp->Prop)(h0:Pv 0 (upd H1 D (.lst [])))
  (hs:∀i H,i<n->Pv i H->g (.int (lo+i)) (Jx σ vs) H λσ2 H2=>Jx σ2 vs=Jx σ vs/\tt σ2 H2 λb H3=>
   if b=true then te σ2 H3 λy H4=>∃acc,H4 D=some (.lst acc)/\acc.length<sizeLine/\Pv (i+1) (upd H4 D (.lst (acc++[y]))) else Pv (i+1) H3) (hd:∀H,Pv n H->Qd H) :
  ∃W:Nat->Nat->Hp->Prop,(∃m,W 0 m (upd H1 D (.lst [])))/\∀i m H,W i m H ->
   ((Itr lo n).stop i H/\Qd H)\/((Itr lo n).go i H/\∃Nx:Hp->Prop,(∀H',Nx H'->∃m',m'<m/\W (i+1) m' H')/\∀x H',(Itr lo n).yld i H x H'->g x (Jx σ vs) H' λσ2 H2=>Jx σ2 vs=Jx σ vs/\tt σ2 H2 λb H3=>
    if b=true then te σ2 H3 λy H4=>∃acc,H4 D=some (.lst acc)/\acc.length<sizeLine/\Nx (upd H4 D (.lst (acc++[y]))) else Nx H3):=by
 refine⟨λi m H=>m=n-i/\i<=n/\Pv i H,⟨n,by simp,Nat.zero_le _,h0⟩,?_⟩;rintro i m H ⟨rfl,hi,p⟩;by_cases hlt:i<n
 ·refine .inr ⟨hlt,Pv (i+1),λH' p'=>⟨n-(i+1),by omega,rfl,hlt,p'⟩,λx H' y=>?_⟩
  obtain⟨e,y⟩:=y;subst e y;exact hs i _ hlt p
 ·have e:i=n:=by omega
  subst e;exact .inl ⟨Nat.le_refl _,hd H p⟩
def Ji{K:Frag}{a:Addr}{xs:List V}{g:TG}{tt:TT}{te:TE}{vs:List Nat}{σ:St}{H1:Hp}{D:Addr}{Qd:Hp->Prop}(Pv:Nat->Hp->Prop)(h0:Pv 0 (upd H1 D (.lst [])))(hl:∀i H,i<=xs.length->Pv i H->SqL K H a xs)
  (hs:∀i x H,xs[i]? = some x->Pv i H->g x (Jx σ vs) H λσ2 H2=>Jx σ2 vs=Jx σ vs/\tt σ2 H2 λb H3=>
   if b=true then te σ2 H3 λy H4=>∃acc,H4 D=some (.lst acc)/\acc.length<sizeLine/\Pv (i+1) (upd H4 D (.lst (acc++[y]))) else Pv (i+1) H3) (hd:∀H,Pv xs.length H->Qd H) :
  ∃W:Nat->Nat->Hp->Prop,(∃m,W 0 m (upd H1 D (.lst [])))/\∀i m H,W i m H ->
   ((Itl K a).stop i H/\Qd H)\/((Itl K a).go i H/\∃Nx:Hp->Prop,(∀H',Nx H'->∃m',m'<m/\W (i+1) m' H')/\∀x H',(Itl K a).yld i H x H'->g x (Jx σ vs) H' λσ2 H2=>Jx σ2 vs=Jx σ vs/\tt σ2 H2 λb H3=>
    if b=true then te σ2 H3 λy H4=>∃acc,H4 D=some (.lst acc)/\acc.length<sizeLine/\Nx (upd H4 D (.lst (acc++[y]))) else Nx H3):=by
 refine⟨λi m H=>m=xs.length-i/\i<=xs.length/\Pv i H,⟨xs.length,by simp,Nat.zero_le _,h0⟩,?_⟩;rintro i m H ⟨rfl,hi,p⟩;have q:=hl i H hi p;by_cases hlt:i<xs.length
 ·refine .inr ⟨⟨xs,xs[i],q,by simp[hlt]⟩,Pv (i+1),λH' p'=>⟨xs.length-(i+1),by omega,rfl,hlt,p'⟩,λx H' y=>?_⟩
  obtain⟨e,y⟩:=y;subst e;exact hs i x _ (y xs q) p
 ·have e:i=xs.length:=by omega
  subst e;exact .inl ⟨⟨xs,q,Nat.le_refl _⟩,hd H p⟩
def Zns(N:List Str)(sc scope:Scope)(own:List (Str×Nat)):Bool:=
 (match scope.kind with|.function=>true|_=>false)&&(scope.names.all λy=>decide (scope.names.lookup y.1=some y.2))&&(own.all λp=>decide (N[p.2]? = some p.1)) &&
  (scope.names.all λy=>match y.2 with
   |.free=>(match sc.names.lookup y.1 with|some .cell=>true|some .free=>true|_=>false)
   |.local=>decide (y.1∈own.map (·.1))||decide (y.1∉N)
   |.cell=>decide (y.1∈own.map (·.1))||decide (y.1∉N)
   |_=>true)
def ZP{N:List Str}{sc scope:Scope}{own:List (Str×Nat)}(h:Zns N sc scope own=true):Zdt N sc scope own:=by
 unfold Zns at h;simp only[Bool.and_eq_true,all_eq_true,decide_eq_true_eq] at h;obtain⟨⟨⟨h1,h2⟩,h3⟩,h4⟩:=h;refine⟨?_,h2,h3,λy hy e=>?_,λy hy e=>?_⟩
 ·split at h1
  ·assumption
  ·cases h1
 ·have q:=h4 y hy
  simp only[e] at q;split at q<;>first|exact .inl (by assumption)|exact .inr (by assumption)|cases q
 ·have q:=h4 y hy
  rcases e with e|e<;>(simp only[e,Bool.or_eq_true,decide_eq_true_eq] at q;exact q)
section
variable{κ:Type}[DecidableEq κ]
def Ue(kvs:List (κ×V))(k:κ):Option V:=(kvs.find? λkv=>decide (kv.1=k)).map (·.2)
def DN(kvs:List (κ×V))(k:κ)(v:V):List (κ×V):=
 if (kvs.any λkv=>decide (kv.1=k))=true then kvs.map (λkv=>if kv.1=k then (kv.1,v) else kv) else kvs++[(k,v)]
def ZaA{p:κ×V}{r:List (κ×V)}{k:κ}(e:p.1=k):Ue (p::r) k=some p.2:=by simp[Ue,find?_cons,e]
def ZaL{p:κ×V}{r:List (κ×V)}{k:κ}(e:¬ p.1=k):Ue (p::r) k=Ue r k:=by simp[Ue,find?_cons,e]
theorem Zbo(k:κ):∀kvs:List (κ×V),(kvs.any λkv=>decide (kv.1=k))=(Ue kvs k).isSome
 | []=>rfl
 |p::r=>by
  rw[any_cons];by_cases e:p.1=k
  ·simp only[ZaA e,decide_eq_true e,Bool.true_or,Option.isSome_some]
  ·rw[ZaL e,decide_eq_false e,Bool.false_or];exact Zbo k r
def DR(kvs:List (κ×V))(k:κ)(v:V):(DN kvs k v).length<=kvs.length+1:=by
 unfold DN;split
 ·rw[length_map];omega
 ·rw[length_append,length_cons,List.length_nil];omega
def ZiE{kvs:List (κ×V)}{k:κ}(v:V)(h:Ue kvs k=none):DN kvs k v=kvs++[(k,v)]:=by
 unfold DN;rw[Zbo,h];exact if_neg (by decide)
def Vl.isSome_eq{o:Option V}{u:Option Value}(r:Vl o u):o.isSome=u.isSome:=by
 cases o with
 |none=>cases u with
  |none=>rfl
  |some _=>exact(show False from r).elim
 |some _=>cases u with
  |none=>exact(show False from r).elim
  |some _=>rfl
def KV.val{kvs:List (κ×V)}{vs:List (κ×Value)}(r:KV kvs vs)(k:κ):Vl (Ue kvs k) (valueAt vs k):=by
 unfold KV at r;induction r with
 |nil=>exact True.intro
 | @cons p q ps qs h t ih=>
  obtain⟨h1,h2⟩:=h;by_cases e:p.1=k
  ·have e':q.1=k:=h1.symm.trans e
   have b:valueAt (q::qs) k=some q.2:=by simp[valueAt,find?_cons,e']
   rw[ZaA e,b];exact h2
  ·have e':¬ q.1=k:=λz=>e (h1.trans z)
   have b:valueAt (q::qs) k=valueAt qs k:=by simp[valueAt,find?_cons,e']
   rw[ZaL e,b];exact ih
theorem KV.any{kvs:List (κ×V)}{vs:List (κ×Value)}(r:KV kvs vs)(k:κ):(kvs.any λkv=>decide (kv.1=k))=vs.any λkv=>decide (kv.1=k):=by
 unfold KV at r;induction r with
 |nil=>rfl
 |cons h t ih=>rw[any_cons,any_cons,ih,h.1]
def KV.repl{kvs:List (κ×V)}{vs:List (κ×Value)}(r:KV kvs vs)(k:κ){y:V}{u:Value}(ry:ZL y u) :
  KV (kvs.map λkv=>if kv.1=k then (kv.1,y) else kv) (vs.map λkv=>if kv.1=k then (kv.1,u) else kv):=by
 unfold KV at r ⊢;induction r with
 |nil=>exact .nil
 | @cons p q ps qs h t ih=>
  rw[map_cons,map_cons];refine .cons ?_ ih;obtain⟨h1,h2⟩:=h;by_cases e:p.1=k
  ·rw[if_pos e,if_pos (h1.symm.trans e)];exact⟨h1,ry⟩
  ·rw[if_neg e,if_neg (λz=>e (h1.trans z))];exact⟨h1,h2⟩
def KV.put{kvs:List (κ×V)}{vs:List (κ×Value)}(r:KV kvs vs)(k:κ){y:V}{u:Value}(ry:ZL y u):KV (DN kvs k y) (stored vs k u):=by
 unfold DN stored;rw[r.any k];by_cases e:(vs.any λkv=>decide (kv.1=k))=true
 ·rw[if_pos e,if_pos e];exact r.repl k ry
 ·rw[if_neg e,if_neg e];exact Paired.snoc r ⟨rfl,ry⟩
theorem KV.length{kvs:List (κ×V)}{vs:List (κ×Value)}(r:KV kvs vs):kvs.length=vs.length:=Paired.length r
end
def ZfE{P:Program}{w:World}{k:Key}{u:Value}(r:ZL (kV k) u):(JF P w).is k u=true:=by
 cases k with
 |inl i=>obtain⟨t,e⟩:=(show ∃t,u=Value.int i t from r);subst e;exact Zei P w i t
 |inr x=>obtain⟨t,e⟩:=(show ∃t,u=Value.str x t from r);subst e;exact ZdF P w x t
theorem ZbW{P:Program}{w:World}:∀{ks:List Key} {us:List Value},Zy (ks.map kV) us->ItemsAre (JF P w) ks us
 | [],_,r=>by rw[map_nil] at r;cases r;exact .nil
 |k::ks,_,r=>by
  rw[map_cons] at r;cases r with
  |cons h t=>exact .cons (ZfE h) (ZbW t)
abbrev KT(H:Hp):List (List Key×V)->List (List Key×Addr×Value)->Prop:=Paired λp q=>p.1=q.1/\H q.2.1=some (.tup (p.1.map kV))/\ZL p.2 q.2.2
def KT.val{H:Hp}{kvs:List (List Key×V)}{xs:List (List Key×Addr×Value)}(r:KT H kvs xs)(k:List Key):Vl (Ue kvs k) ((atKey xs k).map (·.2)):=by
 induction r with
 |nil=>exact True.intro
 | @cons p q ps qs h t ih=>
  obtain⟨h1,_,h2⟩:=h;by_cases e:p.1=k
  ·have e':q.1=k:=h1.symm.trans e
   have b:atKey (q::qs) k=some q.2:=by simp[atKey,find?_cons,e']
   rw[ZaA e,b];exact h2
  ·have e':¬ q.1=k:=λz=>e (h1.trans z)
   have b:atKey (q::qs) k=atKey qs k:=by simp[atKey,find?_cons,e']
   rw[ZaL e,b];exact ih
def KT.repl{H:Hp}{kvs:List (List Key×V)}{xs:List (List Key×Addr×Value)}(r:KT H kvs xs)(k:List Key){y:V}{u:Value}(ry:ZL y u) :
  KT H (kvs.map λkv=>if kv.1=k then (kv.1,y) else kv) (xs.map (putAt k u)):=by
 induction r with
 |nil=>exact .nil
 | @cons p q ps qs h t ih=>
  rw[map_cons,map_cons];refine .cons ?_ ih;obtain⟨h1,h2,h3⟩:=h;unfold putAt;by_cases e:p.1=k
  ·rw[if_pos e,if_pos (h1.symm.trans e)];exact⟨h1,h2,ry⟩
  ·rw[if_neg e,if_neg (λz=>e (h1.trans z))];exact⟨h1,h2,h3⟩
def KT.put{H:Hp}{kvs:List (List Key×V)}{xs:List (List Key×Addr×Value)}(r:KT H kvs xs)(k:List Key){b:Addr}{y:V}{u:Value}(hb:H b=some (.tup (k.map kV)))(ry:ZL y u) :
  KT H (DN kvs k y) (storedH xs k b u):=by
 have e:(kvs.any λkv=>decide (kv.1=k))=(atKey xs k).isSome:=by
  rw[Zbo,(r.val k).isSome_eq,Option.isSome_map]
 unfold DN storedH;rw[e];by_cases q:(atKey xs k).isSome=true
 ·rw[if_pos q,if_pos q];exact r.repl k ry
 ·rw[if_neg q,if_neg q];exact Paired.snoc r ⟨rfl,hb,ry⟩
def KT.keeps{H H':Hp}{kvs:List (List Key×V)}{xs:List (List Key×Addr×Value)}(r:KT H kvs xs)(ht:∀b ys,H b=some (.tup ys)->H' b=some (.tup ys)):KT H' kvs xs:=
 Paired.mapP r λ_ _ z=>⟨z.1,ht _ _ z.2.1,z.2.2⟩
section
variable{P:Program}{w:World}{H:Hp}{h:Heap}{a:Addr}
def ZkA{u:HO}(ok:HOk P w H h)(e:Rd H a u):Jc P w H h a u:=e.ok ok
def Zf2{kvs:List (Key×V)}(ok:HOk P w H h)(e:Rd H a (.dK kvs)):kvs.length<=sizeLine/\(a==sysModules)=false/\∃vs,KV kvs vs/\h.DictOf (JF P w) a vs:=
 show Jc P w H h a (.dK kvs) from ZkA ok e
def Znh{kvs:List (Key×V)}(ok:HOk P w H h)(e:H a=some (.dK kvs)):kvs.length<=sizeLine/\(a==sysModules)=false/\∃vs,KV kvs vs/\h.DictOf (JF P w) a vs:=Zf2 ok (.inl e)
def Zcl{ks:List Key}(ok:HOk P w H h)(e:H a=some (.tup (ks.map kV))):(tupleKind (JF P w)).is h ks a:=by
 obtain⟨_,its,r,o,h1,h2,n,h3⟩:=(show Jc P w H h a (.tup (ks.map kV)) from ok a _ e);exact⟨o,its.toArray,n,h1,h2,h3,by simpa using ZbW r⟩
def ZfD{kvs:List (List Key×V)}(ok:HOk P w H h)(e:Rd H a (.dT kvs)):kvs.length<=sizeLine/\(a==sysModules)=false /\
  ∃xs,KT H kvs xs/\h.DictOfH (tupleKind (JF P w)) a xs:=by
 obtain⟨z,y,xs,r,o,es,ep,h1,h2,h3,h4,h5⟩:=(show Jc P w H h a (.dT kvs) from ZkA ok e);refine⟨z,y,xs,r,o,es,ep,h1,h2,h3,h4,λx hx=>?_,h5⟩;have all:∀{l:List (List Key×V)} {m:List (List Key×Addr×Value)},KT H l m->∀x∈m,(tupleKind (JF P w)).is h x.1 x.2.1:=by
  intro l m q;induction q with
  |nil=>intro x hx;exact nomatch hx
  | @cons p q ps qs hq t ih=>
   intro x hx;rcases mem_cons.mp hx with e|hx
   ·subst e
    exact Zcl ok (by rw[<- hq.1];exact hq.2.1)
   ·exact ih x hx
 exact all r x hx
def ZmN{kvs:List (List Key×V)}(ok:HOk P w H h)(e:H a=some (.dT kvs)):kvs.length<=sizeLine/\(a==sysModules)=false /\
  ∃xs,KT H kvs xs/\h.DictOfH (tupleKind (JF P w)) a xs:=ZfD ok (.inl e)
end
def ZbC(H:Hp)(a:Addr)(y:V)(r:Option V):Prop:=
 (∃kvs k,Rd H a (.dK kvs)/\y=kV k/\r=Ue kvs k)\/∃kvs k b,Rd H a (.dT kvs)/\y = .ref b/\H b=some (.tup (k.map kV))/\r=Ue kvs k
def Zh2(H:Hp)(a:Addr)(y v:V)(H':Hp):Prop:=
 (∃kvs k,H a=some (.dK kvs)/\y=kV k/\kvs.length<sizeLine/\H'=upd H a (.dK (DN kvs k v))) \/
 ∃kvs k b,H a=some (.dT kvs)/\y = .ref b/\H b=some (.tup (k.map kV))/\kvs.length<sizeLine/\H'=upd H a (.dT (DN kvs k v))
theorem ZbC.k{H:Hp}{a:Addr}{kvs:List (Key×V)}{k:Key}(e:H a=some (.dK kvs)):ZbC H a (kV k) (Ue kvs k):=.inl ⟨kvs,k,.inl e,rfl,rfl⟩
theorem Zh2.k{H:Hp}{a:Addr}{kvs:List (Key×V)}{k:Key}{v:V}(e:H a=some (.dK kvs))(hl:kvs.length<sizeLine):Zh2 H a (kV k) v (upd H a (.dK (DN kvs k v))):=.inl ⟨kvs,k,e,rfl,hl,rfl⟩
section
variable{X:Cx}{pins:List (Addr×Obj)}{σ:St}{H:Hp}{s:Shared}{a:Addr}{y v:V}{u r:Value}{o:Option V}{A:Around}{E:Value->Shared->Prop}
def Inv.big(I:Inv X pins σ H s):sysModules<s.heap.objs.size:=by
 have h:mainGlobals<s.heap.objs.size:=(I.mod.glob.keeps I.bk).lt;exact Nat.lt_trans (by decide) h
def Zhg{Q:Value->Shared->Prop}(hu:A.units+1<cLine)(I:Inv X pins σ H s)(g:ZbC H a y (some v))(ry:ZL y u)(h:∀w' s',Inv X pins σ H s'->ZL v w'->Q w' s') :
  wpAny (model X.prog X.w) A (getItem (.ref a) u) Q E s:=by
 rcases g with⟨kvs,k,e,ey,l⟩|⟨kvs,k,b,e,ey,eb,l⟩
 ·subst ey
  obtain⟨z,hd,vs,rel,dd⟩:=Zf2 I.hok e;obtain⟨w',hw,rw'⟩:=Vl.some_of (v:=v) (o:=valueAt vs k) (by rw[l];exact rel.val k);exact wpAny_getItem_of (ZfE ry) dd.mapOf hw (h w' _ (I.tok _) rw')
 ·subst ey
  cases (show u=Value.ref b from ry);obtain⟨z,hd,xs,rel,dd⟩:=ZfD I.hok e;obtain⟨w',hw,rw'⟩:=Vl.some_of (v:=v) (o:=(atKey xs k).map (·.2)) (by rw[l];exact rel.val k)
  obtain⟨p,hp,hp2⟩:=Option.map_eq_some_iff.mp hw;refine wpAny_getItem_heap (tupleKind_room_in1 hu) (Zcl I.hok eb) dd hp ?_;rw[hp2];exact h w' _ (I.tok _) rw'
def Zon{Q:Value->Shared->Prop}(hu:A.units+1<cLine)(I:Inv X pins σ H s)(g:ZbC H a y o)(ry:ZL y u)(h:∀s',Inv X pins σ H s'->Q (.bool o.isSome) s') :
  wpAny (model X.prog X.w) A (compareOp .In u (.ref a)) Q E s:=by
 rcases g with⟨kvs,k,e,ey,l⟩|⟨kvs,k,b,e,ey,eb,l⟩
 ·subst ey
  obtain⟨z,hd,vs,rel,dd⟩:=Zf2 I.hok e;refine wpAny_in_of (ZfE ry) hd dd.mapOf ?_;rw[<- (rel.val k).isSome_eq,<- l];exact h _ (I.tok _)
 ·subst ey
  cases (show u=Value.ref b from ry);obtain⟨z,hd,xs,rel,dd⟩:=ZfD I.hok e;refine wpAny_in_heap (tupleKind_room_in1 hu) (Zcl I.hok eb) hd dd ?_;have q:=(rel.val k).isSome_eq;rw[Option.isSome_map] at q;rw[<- q,<- l];exact h _ (I.tok _)
def ZfG{h':Heap}{t':Nat}{ob:HO}(I:Inv X pins σ H s)(mu:Mut (H a))(hs:Heap.SameBut a s.heap h')(he:∃q,h'.get? a=some q)(new:Jc X.prog X.w (upd H a ob) h' a ob) :
  Inv X pins σ (upd H a ob) {s with heap:=h',toks:=t'}:=
 I.write (x:=a) (e:=a) mu (.inl rfl) (λb q hb z=>(hs.2 b hb).trans z) he new
def ZlC{P:Program}{w:World}{H':Hp}{h':Heap}{kvs:List (Key×V)}{vs:List (Key×Value)}(z:kvs.length<=sizeLine)(hd:(a==sysModules)=false)(rel:KV kvs vs)(dd:h'.DictOf (JF P w) a vs) :
  Jc P w H' h' a (.dK kvs):=⟨z,hd,vs,rel,dd⟩
def Zhh{H':Hp}{Q:Unit->Shared->Prop}(hu:A.units+1<cLine)(I:Inv X pins σ H s)(g:Zh2 H a y v H')(ry:ZL y u)(rv:ZL v r)(h:∀s',Inv X pins σ H' s'->Q () s') :
  wpAny (model X.prog X.w) A (setItem (.ref a) u r) Q E s:=by
 rcases g with⟨kvs,k,e,ey,l,eH⟩|⟨kvs,k,b,e,ey,eb,l,eH⟩
 ·subst ey eH
  obtain⟨z,hd,vs,rel,dd⟩:=Znh I.hok e;have hz:vs.length<=sizeLine:=by rw[<- rel.length];exact z
  have hl:(DN kvs k v).length<=sizeLine:=by have:=DR kvs k v;omega
  refine wpAny_setItem_pairs (hsz:=hz) (ZfE ry) dd λh' dd' hs=>h _ ?_;have he:∃q,h'.get? a=some q:=let ⟨q,_,_,hq,_⟩:=dd';⟨q,hq⟩
  exact ZfG I (by rw[e];exact True.intro) hs he (ZlC hl hd (rel.put k rv) dd')
 ·subst ey eH
  cases (show u=Value.ref b from ry);obtain⟨z,hd,xs,rel,dd⟩:=ZmN I.hok e;have hz:xs.length<=sizeLine:=by rw[<- Paired.length rel];exact z
  have hl:(DN kvs k v).length<=sizeLine:=by have:=DR kvs k v;omega
  refine wpAny_setItem_heap (hsz:=hz) (tupleKind_room_in1 hu) (Zcl I.hok eb) dd λh' dd' hs=>h _ ?_;obtain⟨q,es,ep,hq,h2,h3,h4,_,h5⟩:=dd';refine ZfG I (by rw[e];exact True.intro) hs ⟨q,hq⟩ ⟨hl,hd,_,(rel.put k eb rv).keeps λc _ ec=>?_,q,es,ep,hq,h2,h3,h4,h5⟩;rw[Zj (Zm3 ec e (λz=>nomatch z))];exact ec
end
def Znn(i:Expr):Prop:=∀ov iv,subscripted i false ov iv=operate [ov,iv] (getItem ov iv)
def ZjY{prog:Program}{w:World}{A:Around}{E:Value->Shared->Prop}{s:Shared}{env:Env}{value slice:Expr}{pos:Pos}{T id:String}{Q:Value->Shared->Prop}
  (hl:typeLookup (.type T) "__getitem__" = pure (some (.builtin id))) (hs:Znn slice)
  (h:wpAny (model prog w) A (eval value env) (λo s₁=>wpAny (model prog w) A (eval slice env) (λi s₂=>s₂.TypeIs o T/\wpAny (model prog w) A (getItem o i) Q E s₂) E s₁) E s) :
  wpAny (model prog w) A (eval (.Subscript value slice pos) env) Q E s:=by
 refine Subscript_ (wpAny_mono h (λo s₁ h₁=>wpAny_mono h₁ (λi s₂ h₂=>?_) λ_ _ x=>x) λ_ _ x=>x);obtain⟨hT,h₂⟩:=h₂;unfold subscriptTail;refine wpAny_bind ?_;rw[getitemInPython_of_ne hT.not_modules];refine wpAny_bind (wpAny_specialOf hT hl ?_);have fin:wpAny (model prog w) A (subscripted slice false o i) (λr s₃=>wpAny (model prog w) A (letTemporaryGo value o r >>= λ_=>pure r) Q E s₃) E s₂:=by
  rw[hs o i];exact wpAny_operating (wpAny_mono h₂ (λr s₃ h₃=>wpAny_bind (wpAny_letTemporaryGo (wpAny_pure h₃))) λ_ _ x=>x)
 first
  |exact wpAny_pure (wpAny_bind fin)
  |exact wpAny_bind (wpAny_pure (wpAny_bind fin))
  |exact wpAny_bind fin
def ZdO{X:Cx}{pins:List (Addr×Obj)}{σ:St}{H:Hp}{s:Shared}{a:Addr}{y:V}{o:Option V}(I:Inv X pins σ H s)(g:ZbC H a y o):s.TypeIs (.ref a) "dict" := by
 rcases g with⟨kvs,k,e,_,_⟩|⟨kvs,k,b,e,_,_,_⟩
 ·obtain⟨_,_,vs,_,dd⟩:=Zf2 I.hok e
  exact dd.typeIs
 ·obtain⟨_,_,xs,_,dd⟩:=ZfD I.hok e
  exact dd.typeIs
inductive tDGet_(Q:VK)(x:V)(y:V)(H2:Hp):Prop|mk a v:x = .ref a->ZbC H2 a y (some v)->Q v H2->tDGet_ Q x y H2 def ZnX (td ty:TE):TE:=λσ H Q=>td σ H λx H1=>ty σ H1 λy H2=>tDGet_ Q x y H2
inductive tDIn_(Q:VK)(y:V)(x:V)(H2:Hp):Prop|mk a o:x = .ref a->ZbC H2 a y o->Q (.bl o.isSome) H2->tDIn_ Q y x H2 def ZoC (ty td:TE):TE:=λσ H Q=>ty σ H λy H1=>td σ H1 λx H2=>tDIn_ Q y x H2
inductive sDPut_(D:Uo)(σ:St)(v:V)(x:V)(y:V)(H3:Hp):Prop|mk a H4:x = .ref a->Zh2 H3 a y v H4->D.nx σ H4->sDPut_ D σ v x y H3 def ZmJ (td ty tv:TE):TS:=λD σ H=>tv σ H λv H1=>td σ H1 λx H2=>ty σ H2 λy H3=>sDPut_ D σ v x y H3
section
variable{X:Cx}{o i e value:Expr}{pos pos' tpos:Pos}{td ty tv:TE}
def ZfB(hu:X.A.units+1<cLine)(ho:PE X o td)(hi:PE X i ty)(hs:Znn i):PE X (.Subscript o i pos) (ZnX td ty):=by
 intro pins s σ H Q I h;refine ZjY PySem.F.slot_dict_getitem.lookup hs (thn (ho pins s σ H _ I h) λu s1 ⟨x,H1,I1,rx,q1⟩=>thn (hi pins s1 σ H1 _ I1 q1) λiv s2 ⟨y,H2,I2,ry,a,v,ex,g,q2⟩=>?_);subst ex;obtain rfl:u=Value.ref a:=rx;exact⟨ZdO I2 g,Zhg hu I2 g ry λw' s3 I3 rw'=>⟨v,H2,I3,rw',q2⟩⟩
def Zl9(hu:X.A.units+1<cLine)(hi:PE X i ty)(ho:PE X o td):PC X .In i o (ZoC ty td):=by
 intro pins s σ H Q I h;refine thn (hi pins s σ H _ I h) λiv s1 ⟨y,H1,I1,ry,q1⟩=>thn (ho pins s1 σ H1 _ I1 q1) λu s2 ⟨x,H2,I2,rx,a,ov,ex,g,q2⟩=>?_;subst ex;obtain rfl:u=Value.ref a:=rx;exact Zon hu I2 g ry λs3 I3=>⟨.bl ov.isSome,H2,I3,rfl,q2⟩
def Zj9(hu:X.A.units+1<cLine)(ho:PE X o td)(hi:PE X i ty)(hv:PE X value tv)(hs:swapsWith value (some (.Subscript o i pos')) pos.line X.env=pure false) :
  PS X (.Assign [.Subscript o i pos'] value pos) (ZmJ td ty tv):=by
 intro pins s σ H D I h;refine wpAny_Assign_Subscript (thn (hv pins s σ H _ I h) λr s1 ⟨v,H1,I1,rv,q1⟩=>thn (ho pins s1 σ H1 _ I1 q1) λu s2 ⟨x,H2,I2,rx,q2⟩=>thn (hi pins s2 σ H2 _ I2 q2) λiv s3 ⟨y,H3,I3,ry,a,H4,ex,g,q3⟩=>?_) hs;subst ex;obtain rfl:u=Value.ref a:=rx;exact Zhh hu I3 g ry rv λs4 I4=>⟨σ,H4,I4,q3⟩
end
def Zie{P:Program}{w:World}{H:Hp}(h:Heap)(hb:sysModules<h.objs.size):Jc P w H (h.push {cls:=.type "dict",data:=.dict #[]}) h.objs.size (.dK []):=
 ⟨Nat.zero_le _,beq_eq_false_iff_ne.mpr (Ne.symm (Nat.ne_of_lt hb)),[],.nil,Heap.DictOf.new h⟩
def ZlB:TE:=λ_ H Q=>∀p,H p=none->Q (.ref p) (upd H p (.dK []))
section
variable{X:Cx}{pos:Pos}
def ZiX:PE X (.Dict [] [] pos) ZlB:=λpins s σ H Q I h=>
 wpAny_Dict_empty ⟨.ref s.heap.objs.size,_,I.laid (a:=s.heap.objs.size) (o:=.dK []) (t':=s.toks) (λ_ _ q=>Heap.get?_push_of_some _ q) (Nat.le_refl _) (Zie s.heap I.big),rfl,h _ (I.hok.fresh (Nat.le_refl _))⟩
end
def Zav:bootBuiltins "reversed" = some (.type "reversed"):=by decide +kernel
section
variable{X:Cx}{pins:List (Addr×Obj)}{σ:St}{H:Hp}{s:Shared}{h':Heap}
def Inv.turnedL{t':Nat}{ch:List Addr}(I:Inv X pins σ H s)(k:∀b o,b∉ch->s.heap.get? b=some o->h'.get? b=some o)(hf:∀b∈ch,Zaf X pins H b):Inv X pins σ H {s with heap:=h',toks:=t'}:=by
 have nit:∀b u,H b=some u->b∉ch:=λb u e z=>by
  have q:=(hf b z).1;rw[q] at e;cases e
 refine I.step (g':=s.gens) (d':=s.drawn) (ch:=ch) (λb hb=>⟨(hf b hb).2.2.2.1,(hf b hb).2.1,(hf b hb).2.2.2.2.1,(hf b hb).2.2.2.2.2⟩) (λb o _ _ hc e _=>k b o hc e) (λb o _ _ hc e _=>⟨o.slots,k b o hc e⟩)
  (λ_ _ _ _ n=>n) (λb o hc e=>⟨o,k b o hc e⟩) (λ_ _ e=>e) (λ_ _ _ e=>e) (λb _ e=>⟨#[],by rw[e];simp⟩) (λm hm=>?_) (λb u e=>?_) I.bare
 ·obtain⟨o,es,ep,ho,r⟩:=hm
  exact⟨o,es,ep,k _ o (λz=>(hf _ z).2.1 rfl) ho,r⟩
 ·refine(I.hok b u e).stay (λc v hc q=>k c v ?_ q) (λ_ q=>q) λ_ _ q=>q
  rcases hc with z|z
  ·rw[z];exact nit b u e
  ·exact nit c _ z
def Inv.turnedNew{t':Nat}{ch:List Addr}{T:Addr}{ob:HO}(I:Inv X pins σ H s)(k:∀b o,b∉ch->s.heap.get? b=some o->h'.get? b=some o)(hf:∀b∈ch,Zaf X pins H b)(hT:s.heap.objs.size<=T)
  (new:Jc X.prog X.w (upd H T ob) h' T ob):Inv X pins σ (upd H T ob) {s with heap:=h',toks:=t'}:=by
 have hn:H T=none:=I.hok.fresh hT;have nit:∀b u,H b=some u->b∉ch:=λb u e z=>by
  have q:=(hf b z).1;rw[q] at e;cases e
 refine I.step (g':=s.gens) (d':=s.drawn) (ch:=ch) (λb hb=>⟨(hf b hb).2.2.2.1,(hf b hb).2.1,(hf b hb).2.2.2.2.1,(hf b hb).2.2.2.2.2⟩) (λb o _ _ hc e _=>k b o hc e) (λb o _ _ hc e _=>⟨o.slots,k b o hc e⟩)
  (λb o _ e n=>?_) (λb o hc e=>⟨o,k b o hc e⟩) (λb xs e=>?_) (λb o u e=>?_) (λb _ e=>⟨#[],?_⟩) (λm hm=>?_) (λb u e=>?_) I.bare
 ·rw[Zj (Nat.ne_of_lt (Nat.lt_of_lt_of_le (Heap.lt_size e) hT))];exact n
 ·rw[Zj (Zi e hn)];exact e
 ·rw[Zj (Zi e hn)];exact e
 ·rw[Zj (Zi e hn),e];simp
 ·obtain⟨o,es,ep,ho,r⟩:=hm
  exact⟨o,es,ep,k _ o (λz=>(hf _ z).2.1 rfl) ho,r⟩
 ·by_cases hb:b=T
  ·subst hb
   rw[Zb] at e;cases e;exact new
  ·rw[Zj hb] at e
   refine(I.hok b u e).stay (λc v hc q=>k c v ?_ q) (λc q=>by rw[Zj (Zi q hn)];exact q) λc xs q=>by rw[Zj (Zi q hn)];exact q
   rcases hc with z|z
   ·rw[z];exact nit b u e
   ·exact nit c _ z
end
section
variable{X:Cx}
def ZiQ{tg:Expr}{pins:List (Addr×Obj)}{σ:St}{H:Hp}{s:Shared}{R:It->Hp->Prop}{J:It}{tn:Nat->Heap->Prop}{tk:Nat}(I:Inv X pins σ H s)(o:Obj)
  (T:Turn X.prog X.w X.K tg J [s.heap.objs.size] s.heap.objs.size tn) (st:tn 0 (s.heap.push o)) (q:R J H):PIE X pins σ tg R (.ref s.heap.objs.size) {s with heap:=s.heap.push o,toks:=tk}:=by
 refine⟨s.heap.objs.size,[s.heap.objs.size],tn,J,H,rfl,I.kept λb _ e=>Heap.get?_push_of_some _ e,T,st,λb hb=>?_,q⟩;have e:b=s.heap.objs.size:=by simpa using hb
 subst e;exact I.fpOk (Nat.le_refl _) (I.hok.fresh (Nat.le_refl _))
end
def Itc(lo c:Int)(n:Nat):It:=⟨λi _=>i<n,λi H x H'=>H'=H/\x = .int (lo+(i:Nat)*c),λi _=>n<=i⟩
def ZdW{P:Program}{w:World}{K:Frag}{tg:Expr}(it:Addr)(lo c:Int)(n:Nat):Turn P w K tg (Itc lo c n) [it] it (λi h=>IsRangeIter h it (lo+(i:Nat)*c) ((n:Int)-(i:Nat)) c) where
 mem:=by simp
 obj:=λi h st b hb=>by
  have e:b=it:=by simpa using hb
  subst e;exact⟨_,st,λv z=>nomatch z⟩
 keep:=λi h h' st k=>k it (by simp) _ st
 item:=by
  intro X hP hw hK hc i pins s σ H E I hf st hg;subst hP hw hK;obtain⟨f0,f1,f2,f3,f4,f5⟩:=hf it (by simp);have W:=Walks.range (prog:=X.prog) (w:=X.w) (I.ok.hd hc) it lo c n;refine W.item i s _ _ hg st λv h' tk hv st' kk=>?_;obtain⟨t,rfl⟩:=hv;have I1:Inv X pins σ H {s with heap:=h',toks:=tk}:=I.turned (λb o hb e=>kk b o (by simpa using hb) e) f0 f1 f3 f4 f5;exact⟨_,rfl,Zgo (s:={s with heap:=h',toks:=tk}) (n := "range_iterator") st' rfl rfl (by decide) ⟨.int (lo+(i:Nat)*c),H,I1,⟨t,rfl⟩,⟨rfl,rfl⟩,st',λb hb=>(hf b hb).1⟩⟩
 done:=by
  intro X hP hw hK hc i pins s σ H E I hf st hg;subst hP hw hK;obtain⟨f0,f1,f2,f3,f4,f5⟩:=hf it (by simp);exact wpAny_pyNext_range_end (I.ok.hd hc) st (by have:n<=i:=hg;omega) λh' eb=>⟨rfl,I.turned (t':=s.toks) (λb o hb e=>eb b o hb e) f0 f1 f3 f4 f5⟩
 self:=λA i s Q E st h=>wpAny_pyIter_rangeiter st h
def RgC(i j c:Int)(n:Nat):Prop:=c≠0/\c.natAbs<1073741824/\Builtin.Range.small i j c=true/\Builtin.Range.rangeSize i j c=n
inductive iRng3_(R:It->Hp->Prop)(vs:List V)(H1:Hp):Prop|mk (i j c:Int) (n:Nat):vs=[.int i,.int j,.int c]->RgC i j c n->R (Itc i c n) H1->iRng3_ R vs H1 def ZnQ (ta:TA):TI:=λσ H R=>ta σ H λvs H1=>iRng3_ R vs H1
section
variable{X:Cx}{tg:Expr}
def ZbU{a b c:Expr}{ta:TA}{p pos:Pos}(hg:Gl X "range")(hm:X.mg "range" = none)(ha:PA X [a,b,c] ta)
  (hs:starEach [a,b,c] X.env=(false,eval a X.env)::starEach [b,c] X.env:=by rfl) (hpl:(backTo pos (starEach [b,c] X.env)).any (·.1)=false:=by rfl) :
  PI X tg (.Call (.Name "range" p) [a,b,c] [] pos) (ZnQ ta):=by
 intro pins s σ H R I h;refine Call_ (Y9 I hg hm boot_range (PyProof.Rows.callWith_type1 (thn (ha pos pins s σ H _ I h) λus s1 ⟨vs,H1,I1,r1,q1⟩=>?_) hs hpl));obtain⟨i,j,k,n,e,⟨c0,c1,c2,c3⟩,q⟩:=q1;subst e;cases r1 with
 |cons r rr=>
  cases rr with
  |cons r' rr=>
   cases rr with
   |cons r'' rr=>
    cases rr;obtain⟨t,rfl⟩:=r;obtain⟨t',rfl⟩:=r';obtain⟨t'',rfl⟩:=r'';refine call_range_3 c0 ?_ (.inl (PyProof.noPylong_small c1));refine wpAny_pyIter_range (IsRange.new ..) c2 ?_;have I2:Inv X pins σ H1 {s1 with heap:=s1.heap.push {cls:=.type "range",data:=.fields #[.int i t,.int j t',.int k t'']}}:=I1.kept (t':=s1.toks) λb o e=>Heap.get?_push_of_some _ e;refine ZiQ (tk:=s1.toks) I2 _ (ZdW _ i k n) ?_ q;have e1:i+((0:Nat):Int)*k=i:=by simp
    have e2:(n:Int)-((0:Nat):Int)=Builtin.Range.rangeSize i j k:=by rw[c3];simp
    show IsRangeIter _ _ (i+((0:Nat):Int)*k) ((n:Int)-((0:Nat):Int)) k;rw[e1,e2];exact Heap.get?_push_size _ rfl
end
def Itv(K:Frag)(a:Addr)(n:Nat):It:=
 ⟨λi H=>i<n/\∃(xs:List V) (x:V),SqL K H a xs/\xs[n-1-i]? = some x,λi H x H'=>H'=H/\∀xs,SqL K H a xs->xs[n-1-i]? = some x,λi _=>n<=i⟩
def Zht{P:Program}{w:World}{K:Frag}{tg:Expr}(a it:Addr)(n:Nat):Turn P w K tg (Itv K a n) [it] it (λi h=>i<=n/\h.IsRevIter it a ((n:Int)-1-(i:Nat))) where
 mem:=by simp
 obj:=λi h st b hb=>by
  have e:b=it:=by simpa using hb
  subst e;obtain⟨_,o,e,c,d⟩:=st;exact⟨o,e,λv z=>by rw[d] at z;cases z⟩
 keep:=λi h h' st k=>⟨st.1,st.2.at λo e=>k it (by simp) o e⟩
 item:=by
  intro X hP hw hK hc i pins s σ H E I hf st hg;subst hP hw hK;obtain⟨hin,xs,x,hq,hx⟩:=hg;obtain⟨its,rv,p,hz⟩:=I.list hq;obtain⟨u,hu,ru⟩:=rv.get hx;obtain⟨f0,f1,f2,f3,f4,f5⟩:=hf it (by simp);obtain⟨_,hit⟩:=st;have e1:(n:Int)-1-((i:Nat):Int)=((n-1-i:Nat):Int):=by omega
  rw[e1] at hit;refine wpAny_pyNext_rev_item hit p.isList (x:=u) (by simpa using hu) λh' st' sb=>?_;have e2:((n-1-i:Nat):Int)-1=(n:Int)-1-((i+1:Nat):Int):=by omega
  rw[e2] at st';have I1:Inv X pins σ H {s with heap:=h'}:=I.turned (t':=s.toks) (λb o hb e=>(sb.2 b hb).trans e) f0 f1 f3 f4 f5;obtain⟨o,e,c,d⟩:=id st';exact⟨u,rfl,Zgo (s:={s with heap:=h'}) e c d (by decide) ⟨x,H,I1,ru,⟨rfl,λ_ hy=>by rw[I.list_inj hy hq];exact hx⟩,⟨hin,st'⟩,λb hb=>(hf b hb).1⟩⟩
 done:=by
  intro X hP hw hK hc i pins s σ H E I hf st hg;subst hP hw hK;obtain⟨f0,f1,f2,f3,f4,f5⟩:=hf it (by simp);obtain⟨hin,hit⟩:=st;have hge:n<=i:=hg;have e1:(n:Int)-1-((i:Nat):Int) = -1:=by omega
  rw[e1] at hit;exact wpAny_pyNext_rev_end (I.ok.hd hc) hit λh' eb=>⟨rfl,I.turned (t':=s.toks) (λb o hb e=>eb b o hb e) f0 f1 f3 f4 f5⟩
 self:=λA i s Q E st h=>wpAny_pyIter_revIter st.2 h
inductive iRev_(K:Frag)(R:It->Hp->Prop)(vs:List V)(H1:Hp):Prop|mk (a:Addr) (xs:List V):vs=[.ref a]->SqL K H1 a xs->R (Itv K a xs.length) H1->iRev_ K R vs H1 def Zoq (K:Frag) (ta:TA):TI:=λσ H R=>ta σ H λvs H1=>iRev_ K R vs H1
section
variable{X:Cx}{tg:Expr}
def Zd0{e:Expr}{ta:TA}{p pos:Pos}(hg:Gl X "reversed")(hm:X.mg "reversed" = none)(ha:PA X [e] ta)(hs:starEach [e] X.env=[(false,eval e X.env)]:=by rfl):PI X tg (.Call (.Name "reversed" p) [e] [] pos) (Zoq X.K ta):=by
 intro pins s σ H R I h;refine Call_ (Y9 I hg hm Zav (PyProof.Rows.callWith_type1 (thn (ha pos pins s σ H _ I h) λus s1 ⟨vs,H1,I1,r1,q1⟩=>?_) hs rfl));obtain⟨a,xs,e,hq,q⟩:=q1;subst e;cases r1 with
 |cons r rr=>
  cases rr;cases r;obtain⟨its,rv,p',hz⟩:=I1.list hq;have hl:=rv.length;have e1:((its.toArray.size:Nat):Int)-1=(xs.length:Int)-1-((0:Nat):Int):=by simp only[size_toArray];omega
  refine call_reversed_list p'.isList (wpAny_pyIter_revIter (l:=a) (i:=((its.toArray.size:Nat):Int)-1) ⟨_,Heap.get?_push_size _ rfl,rfl,rfl⟩ ?_);refine ZiQ (tk:=s1.toks) I1 _ (Zht a _ xs.length) ⟨Nat.zero_le _,?_⟩ q;rw[<- e1];exact⟨_,Heap.get?_push_size _ rfl,rfl,rfl⟩
end
def Ite(K:Frag)(a:Addr):It:=
 ⟨λi H=>∃(xs:List V) (x:V),SqL K H a xs/\xs[i]? = some x,λi H v H'=>∃T x,v = .ref T/\H T=none/\H'=upd H T (.tup [.int (i:Nat),x])/\∀xs,SqL K H a xs->xs[i]? = some x,λi H=>∃xs:List V,SqL K H a xs/\xs.length<=i⟩
def Zhk{P:Program}{w:World}{K:Frag}{elts:List Expr}{kk:Nat}{tpos:Pos}(a e it:Addr) :
  Turn P w K (.Tuple elts kk tpos) (Ite K a) [e,it] e (λi h=>(∃old,IsEnum h e it ((i:Nat):Int) old)/\h.IsListIter it a i/\e≠it) where
 mem:=by simp
 obj:=λi h st b hb=>by
  obtain⟨⟨old,he⟩,⟨o,ho,hc,hd⟩,_⟩:=st;have e':b=e\/b=it:=by simpa using hb
  rcases e' with z|z
  ·rw[z];exact⟨_,he,λv q=>nomatch q⟩
  ·rw[z];exact⟨o,ho,λv q=>by rw[hd] at q;cases q⟩
 keep:=λi h h' st k=>let ⟨⟨old,he⟩,hi,hne⟩:=st;⟨⟨old,k e (by simp) _ he⟩,hi.at λo q=>k it (by simp) o q,hne⟩
 item:=by
  intro X hP hw hK hc i pins s σ H E I hf st hg;subst hP hw hK;obtain⟨⟨old,he⟩,hit,hne⟩:=st;obtain⟨xs,x,hq,hx⟩:=hg;obtain⟨its,rv,p,hz⟩:=I.list hq;obtain⟨u,hu,ru⟩:=rv.get hx;have hel:e<s.heap.objs.size:=Heap.lt_size he;have hil:it<s.heap.objs.size:=by obtain⟨_,q,_⟩:=hit;exact Heap.lt_size q
  refine wpAny_pyNext_enum_item he hit p.isList (x:=u) (by simpa using hu) hne λh' ho hit' hT _ hk=>?_;refine⟨_,rfl,wpAny_letOwnedTupleGo_enum (s:={s with heap:=h',toks:=s.toks+1}) ho λh'' he' sb=>?_⟩;have hT2:h''.get? s.heap.objs.size=some {cls:=.type "tuple",data:=.seq #[.int i s.toks,u]}:=(sb.2 _ (Nat.ne_of_gt hel)).trans hT;have new:Jc X.prog X.w (upd H s.heap.objs.size (.tup [.int (i:Nat),x])) h'' s.heap.objs.size (.tup [.int (i:Nat),x]):=
   ⟨by show 2<=sizeLine;decide,[.int i s.toks,u],.cons ⟨_,rfl⟩ (.cons ru .nil),⟨_,hT2,rfl,_,rfl⟩⟩;have I1:Inv X pins σ (upd H s.heap.objs.size (.tup [.int (i:Nat),x])) {s with heap:=h'',toks:=s.toks+1}:=
   I.turnedNew (ch:=[e,it]) (λb ob hb q=>(sb.2 b (λz=>hb (by simp[z]))).trans (hk b ob (λz=>hb (by simp[z])) (λz=>hb (by simp[z])) q)) hf (Nat.le_refl _) new;refine⟨.ref s.heap.objs.size,_,I1,rfl,⟨_,x,rfl,I.hok.fresh (Nat.le_refl _),rfl,λ_ hy=>by rw[I.list_inj hy hq];exact hx⟩,⟨⟨u,?_⟩,hit'.at λo q=>(sb.2 it (Ne.symm hne)).trans q,hne⟩,λb hb=>?_⟩
  ·have e1:((i+1:Nat):Int)=(i:Int)+1:=by omega
   rw[e1];exact he'
  ·have hb':b<s.heap.objs.size:=by
    have e':b=e\/b=it:=by simpa using hb
    rcases e' with z|z
    ·rw[z];exact hel
    ·rw[z];exact hil
   rw[Zj (Nat.ne_of_lt hb')];exact(hf b hb).1
 done:=by
  intro X hP hw hK hc i pins s σ H E I hf st hg;subst hP hw hK;obtain⟨⟨old,he⟩,hit,hne⟩:=st;obtain⟨xs,hq,hx⟩:=hg;obtain⟨its,rv,p,hz⟩:=I.list hq;obtain⟨f0,f1,f2,f3,f4,f5⟩:=hf it (by simp);have hl:=rv.length;exact wpAny_pyNext_enum_end (I.ok.hd hc) he hit p.isList (by simp;omega) λh' eb=>⟨rfl,I.turned (t':=s.toks) (λb o hb q=>eb b o hb q) f0 f1 f3 f4 f5⟩
 self:=λA i s Q E st h=>let ⟨⟨_,he⟩,_⟩:=st;wpAny_pyIter_enum he h
inductive iEnum_(K:Frag)(R:It->Hp->Prop)(vs:List V)(H1:Hp):Prop|mk a xs:vs=[.ref a]->SqL K H1 a xs->R (Ite K a) H1->iEnum_ K R vs H1 def Zm8 (K:Frag) (ta:TA):TI:=λσ H R=>ta σ H λvs H1=>iEnum_ K R vs H1
def Zgx{X:Cx}{e:Expr}{ta:TA}{p pos tpos:Pos}{elts:List Expr}{kk:Nat}(hg:Gl X "enumerate")(hm:X.mg "enumerate" = none)(ha:PA X [e] ta)(hs:starEach [e] X.env=[(false,eval e X.env)]:=by rfl) :
  PI X (.Tuple elts kk tpos) (.Call (.Name "enumerate" p) [e] [] pos) (Zm8 X.K ta):=by
 intro pins s σ H R I h;refine Call_ (Y9 I hg hm boot_enumerate (PyProof.Rows.callWith_type1 (thn (ha pos pins s σ H _ I h) λus s1 ⟨vs,H1,I1,r1,q1⟩=>?_) hs rfl));obtain⟨a,xs,ex,hq,q⟩:=q1;subst ex;cases r1 with
 |cons r rr=>
  cases rr;cases r;obtain⟨its,rv,p',hz⟩:=I1.list hq;refine call_enumerate_list p'.isList λh' he hit _ hk=>wpAny_pyIter_enum he ?_;have I2:Inv X pins σ H1 {s1 with heap:=h'}:=I1.kept (t':=s1.toks) hk;refine⟨s1.heap.objs.size+1,[s1.heap.objs.size+1,s1.heap.objs.size],_,_,H1,rfl,I2,Zhk a (s1.heap.objs.size+1) s1.heap.objs.size,⟨⟨.none,he⟩,hit,Nat.succ_ne_self _⟩,λb hb=>?_,q⟩;have e':b=s1.heap.objs.size+1\/b=s1.heap.objs.size:=by simpa using hb
  have hle:s1.heap.objs.size<=b:=by
   rcases e' with z|z
   ·rw[z];exact Nat.le_add_right _ _
   ·rw[z];exact Nat.le_refl _
  exact I1.fpOk hle (I1.hok.fresh hle)
def Zgz:bootBuiltins "zip" = some (.type "zip"):=by decide +kernel
def Itz(K:Frag)(a b:Addr):It:=
 ⟨λi H=>∃(xs ys:List V) (x y:V),SqL K H a xs/\SqL K H b ys/\xs[i]? = some x/\ys[i]? = some y,
  λi H v H'=>∃T x y,v = .ref T/\H T=none/\H'=upd H T (.tup [x,y])/\(∀xs,SqL K H a xs->xs[i]? = some x)/\∀ys,SqL K H b ys->ys[i]? = some y,
  λi H=>∃xs ys:List V,SqL K H a xs/\SqL K H b ys/\(xs.length<=i\/ys.length<=i)⟩
def Zh6{P:Program}{w:World}{K:Frag}{elts:List Expr}{kk:Nat}{tpos:Pos}{a b z TI TO i1 i2:Addr}(D:ZipApart z TI TO i1 i2 a b) :
  Turn P w K (.Tuple elts kk tpos) (Itz K a b) [z,TI,TO,i1,i2] z (λi h=>IsZip h z TI TO .none/\IsPair h TI (.ref i1) (.ref i2)/\(∃x y,IsPair h TO x y)/\h.IsListIter i1 a i/\h.IsListIter i2 b i) where
 mem:=by simp
 obj:=λi h st c hc=>by
  obtain⟨hz,hTI,⟨x,y,hTO⟩,⟨o1,e1,_,d1⟩,⟨o2,e2,_,d2⟩⟩:=st;have e':c=z\/c=TI\/c=TO\/c=i1\/c=i2:=by simpa using hc
  rcases e' with q|q|q|q|q
  ·rw[q];exact⟨_,hz,λv q=>nomatch q⟩
  ·rw[q];exact⟨_,hTI,λv q=>nomatch q⟩
  ·rw[q];exact⟨_,hTO,λv q=>nomatch q⟩
  ·rw[q];exact⟨o1,e1,λv q=>by rw[d1] at q;cases q⟩
  ·rw[q];exact⟨o2,e2,λv q=>by rw[d2] at q;cases q⟩
 keep:=λi h h' st k=>by
  obtain⟨hz,hTI,⟨x,y,hTO⟩,h1,h2⟩:=st;exact⟨k z (by simp) _ hz,k TI (by simp) _ hTI,⟨x,y,k TO (by simp) _ hTO⟩,h1.at λo q=>k i1 (by simp) o q,h2.at λo q=>k i2 (by simp) o q⟩
 item:=by
  intro X hP hw hK hc i pins s σ H E I hf st hg;subst hP hw hK;obtain⟨hz,hTI,⟨x0,y0,hTO⟩,h1,h2⟩:=st;obtain⟨xs,ys,x,y,hqx,hqy,hx,hy⟩:=hg;obtain⟨its,rv,p,_⟩:=I.list hqx;obtain⟨its2,rv2,p2,_⟩:=I.list hqy;obtain⟨u,hu,ru⟩:=rv.get hx;obtain⟨u2,hu2,ru2⟩:=rv2.get hy;have hzl:z<s.heap.objs.size:=Heap.lt_size hz;refine wpAny_pyNext_zip_item D hz hTI hTO h1 h2 p.isList p2.isList (x:=u) (y:=u2) (by simpa using hu) (by simpa using hu2) λh' z' TO' h1' h2' hT hsz hk=>?_;refine⟨_,rfl,wpAny_letOwnedTupleGo_zip (s:={s with heap:=h'}) z' λh'' z'' sb=>?_⟩;have hT2:h''.get? s.heap.objs.size=some {cls:=.type "tuple",data:=.seq #[u,u2]}:=(sb.2 _ (Nat.ne_of_gt hzl)).trans hT;have new:Jc X.prog X.w (upd H s.heap.objs.size (.tup [x,y])) h'' s.heap.objs.size (.tup [x,y]):=
   ⟨by show 2<=sizeLine;decide,[u,u2],.cons ru (.cons ru2 .nil),⟨_,hT2,rfl,_,rfl⟩⟩;have I1:Inv X pins σ (upd H s.heap.objs.size (.tup [x,y])) {s with heap:=h''}:=
   I.turnedNew (t':=s.toks) (ch:=[z,TI,TO,i1,i2]) (λc o hb q=>(sb.2 c (λq'=>hb (by simp[q']))).trans (hk c o (λq'=>hb (by simp[q'])) (λq'=>hb (by simp[q'])) (λq'=>hb (by simp[q'])) (λq'=>hb (by simp[q'])) q)) hf (Nat.le_refl _) new;refine⟨.ref s.heap.objs.size,_,I1,rfl,⟨_,x,y,rfl,I.hok.fresh (Nat.le_refl _),rfl,λl hl=>by rw[I.list_inj hl hqx];exact hx,λl hl=>by rw[I.list_inj hl hqy];exact hy⟩,⟨z'',?_,⟨u,u2,?_⟩,?_,?_⟩,λc hcm=>?_⟩
  ·exact(sb.2 _ D.TIz).trans (hk _ _ D.TIz D.TITO D.TIi1 D.TIi2 hTI)
  ·exact(sb.2 _ D.TOz).trans TO'
  ·exact h1'.at λo q=>(sb.2 _ D.i1z).trans q
  ·exact h2'.at λo q=>(sb.2 _ D.i2z).trans q
  ·have hlt:c<s.heap.objs.size:=by
    have e':c=z\/c=TI\/c=TO\/c=i1\/c=i2:=by simpa using hcm
    rcases e' with q|q|q|q|q
    ·rw[q];exact hzl
    ·rw[q];exact Heap.lt_size hTI
    ·rw[q];exact Heap.lt_size hTO
    ·rw[q];obtain⟨_,e1,_⟩:=h1;exact Heap.lt_size e1
    ·rw[q];obtain⟨_,e2,_⟩:=h2;exact Heap.lt_size e2
   rw[Zj (Nat.ne_of_lt hlt)];exact(hf c hcm).1
 done:=by
  intro X hP hw hK hc i pins s σ H E I hf st hg;subst hP hw hK;obtain⟨hz,hTI,⟨x0,y0,hTO⟩,h1,h2⟩:=st;obtain⟨xs,ys,hqx,hqy,hend⟩:=hg;obtain⟨its,rv,p,_⟩:=I.list hqx;obtain⟨its2,rv2,p2,_⟩:=I.list hqy;have l1:=rv.length;have l2:=rv2.length;have he:its.toArray[i]? = none\/its2.toArray[i]? = none:=by
   rcases hend with q|q
   ·exact .inl (by simp;omega)
   ·exact .inr (by simp;omega)
  exact wpAny_pyNext_zip_end (I.ok.hd hc) D hz hTI hTO h1 h2 p.isList p2.isList he λh' hk=>⟨rfl,I.turnedL (t':=s.toks) (ch:=[z,TI,TO,i1,i2]) (λc o hb q=>
   hk c o (λq'=>hb (by simp[q'])) (λq'=>hb (by simp[q'])) (λq'=>hb (by simp[q'])) (λq'=>hb (by simp[q'])) q) hf⟩
 self:=λA i s Q E st h=>wpAny_pyIter_zip st.1 h
inductive iZip_(K:Frag)(R:It->Hp->Prop)(vs:List V)(H1:Hp):Prop|mk a b xs ys:vs=[.ref a,.ref b]->SqL K H1 a xs->SqL K H1 b ys->R (Itz K a b) H1->iZip_ K R vs H1 def ZoA (K:Frag) (ta:TA):TI:=λσ H R=>ta σ H λvs H1=>iZip_ K R vs H1
def Za6{X:Cx}{e e2:Expr}{ta:TA}{p pos tpos:Pos}{elts:List Expr}{kk:Nat}(hg:Gl X "zip")(hm:X.mg "zip" = none)(ha:PA X [e,e2] ta)
  (hs:starEach [e,e2] X.env=(false,eval e X.env)::starEach [e2] X.env:=by rfl) (hpl:(backTo pos (starEach [e2] X.env)).any (·.1)=false:=by rfl) :
  PI X (.Tuple elts kk tpos) (.Call (.Name "zip" p) [e,e2] [] pos) (ZoA X.K ta):=by
 intro pins s σ H R I h;refine Call_ (Y9 I hg hm Zgz (PyProof.Rows.callWith_type1 (thn (ha pos pins s σ H _ I h) λus s1 ⟨vs,H1,I1,r1,q1⟩=>?_) hs hpl));obtain⟨a,b,xs,ys,ex,hqx,hqy,q⟩:=q1;subst ex;cases r1 with
 |cons r rr=>
  cases rr with
  |cons r' rr=>
   cases rr;cases r;cases r';obtain⟨its,rv,p1,_⟩:=I1.list hqx;obtain⟨its2,rv2,p2,_⟩:=I1.list hqy;have la:a<s1.heap.objs.size:=p1.lt;have lb:b<s1.heap.objs.size:=p2.lt;refine call_zip_2 p1.isList p2.isList λh' hz hTI hTO h1 h2 hsz hk=>wpAny_pyIter_zip hz ?_;have I2:Inv X pins σ H1 {s1 with heap:=h'}:=I1.kept (t':=s1.toks) hk;refine⟨s1.heap.objs.size+4,[s1.heap.objs.size+4,s1.heap.objs.size+2,s1.heap.objs.size+3,s1.heap.objs.size,s1.heap.objs.size+1],_,_,H1,rfl,I2,Zh6 (PySem.W.ktu_apart s1.heap.objs.size a b la lb),⟨hz,hTI,⟨_,_,hTO⟩,h1,h2⟩,λc hcm=>?_,q⟩;have e':c=s1.heap.objs.size+4\/c=s1.heap.objs.size+2\/c=s1.heap.objs.size+3\/c=s1.heap.objs.size\/c=s1.heap.objs.size+1:=by simpa using hcm
   have hle:s1.heap.objs.size<=c:=by
    rcases e' with z|z|z|z|z
    ·rw[z];exact Nat.le_add_right _ _
    ·rw[z];exact Nat.le_add_right _ _
    ·rw[z];exact Nat.le_add_right _ _
    ·rw[z];exact Nat.le_refl _
    ·rw[z];exact Nat.le_add_right _ _
   exact I1.fpOk hle (I1.hok.fresh hle)
end L2
section
namespace Bits
open PySem PyProof.Rows
def bit_at{x:Int}(i:Nat):Builtin.bitAnd (x.fdiv (2^i)) 1=x / 2^i%2:=by
 have hp:(0:Int)<=2^i:=by
  rw[two_pow_cast];exact Int.natCast_nonneg _
 rw[Int.fdiv_eq_ediv_of_nonneg _ hp,bitAnd_m1]
end Bits
end
namespace L2
open PySem PySem.Spec PyProof.Rows
theorem vals_ints:∀{vs:List Value} {ns:List Int},IntsAre vs ns->Zy (ns.map V.int) vs
 |_,_,.nil=>.nil
 |_,_,.cons n t h=>.cons ⟨t,rfl⟩ (vals_ints h)
def Only(H:Hp):Prop:=∀b,H b=none\/∃o xs,H b=some (.frz o (.lst xs))
def ZmO{P:Program}{w:World}{K:Frag}{mg mb:Str->Option Value}{CX:CXT}{k:Nat}{fa a:Addr}{fd:FuncData}{x:Str}{sp:Sp}{s₁:Shared}{vs:List Value}{ns:List Int}
  (KX:K.In s₁.heap) (hns:s₁.heap.Ns mainGlobals mg) (hb:s₁.heap.Ns builtinsNs mb) (hbb:∀x:Str,x ≠ "__name__" -> mb x=bootBuiltins x) (hlim:s₁.heap.NoLimit) (hg:s₁.gens = #[])
  (ha:s₁.heap.get? a=some {cls:=.type "list",data:=.seq vs.toArray}) (hi:IntsAre vs ns) (hl:ns.length<=sizeLine) (hr:Room k callerA)
  (F:∀base:Heap,K.In base->base.Ns mainGlobals mg->YX P w K mg base CX k fa fd [x] sp) (hbind:∀(s:Shared) (u:Value),BindsTo s fd ⟨[u],[]⟩ [(x,u)])
  (hsp:∀H:Hp,Only H->SqL K H a (ns.map V.int)->sp [.ref a] H (λv _=>v = .bl true) λ_ _ _=>False)
  (hCX:∀H e s',CX [] H s₁ (λ_ _ _=>False) e s'->False) :
  codeAny (model P w) callerA (.call (.ref fa) ⟨[.ref a],[]⟩) (λr s'=>r = .ok (.ret (.bool true))/\OldK s₁.heap s'.heap/\s'.os=s₁.os/\AllBare s'.gens) s₁:=by
 have rv:=vals_ints hi;have lenV:=hi.length;have core:∀H:Hp,Only H->SqL K H a (ns.map V.int)->HOk P w H s₁.heap->(∀b,H b≠none->b=a)->(H a≠none->K.lookup a=none) ->
   codeAny (model P w) callerA (.call (.ref fa) ⟨[.ref a],[]⟩) (λr s'=>r = .ok (.ret (.bool true))/\OldK s₁.heap s'.heap/\s'.os=s₁.os/\AllBare s'.gens) s₁:=by
  intro H hO hS hok hA hK;have base_of:∀{b:Addr} {o:Obj},s₁.heap.get? b=some o->H b=none->(De s₁.heap H).get? b=some o:=λe n=>Zeg e n;have noA:∀{b:Addr} {o:Obj} {es:Array DictEntry} {ep:Nat},s₁.heap.get? b=some o->o.data = .dict es ep->H b=none:=λ{b o es ep} e d=>by
   cases q:H b with
   |none=>rfl
   |some u=>
    have e':b=a:=hA b (by rw[q];simp);subst e';rw[ha] at e;cases e;have d':Data.seq vs.toArray _=Data.dict es ep:=d;cases d'
  have nsK:∀{b:Addr} {m:Str->Option Value},s₁.heap.Ns b m->(De s₁.heap H).Ns b m:=λ{b m} ⟨o,es,ep,e,d,r⟩=>⟨o,es,ep,base_of e (noA e d),d,r⟩;have hKb:K.In (De s₁.heap H):=λb o e=>base_of (KX b o e) (by
   cases q:H b with
   |none=>rfl
   |some u=>
    have e':b=a:=hA b (by rw[q];simp);subst e';rw[hK (by rw[q];simp)] at e;cases e)
  have hM:Mod K mg (De s₁.heap H):=⟨hKb,nsK hns,⟨mb,nsK hb,hbb⟩,let ⟨mc,h1,h2⟩:=hlim;⟨mc,nsK h1,h2⟩⟩;have e0:Zby P w K mg (De s₁.heap H) callerA [] s₁ H:=⟨rfl,hM,λb o e=>Zfy e,Nat.le_of_eq (ZbH _ _),trivial,λb hb=>absurd (show b∈([]:List Addr) from hb) (by simp),hok,.of_eq hg⟩;refine codeAny_mono ((F _ hKb (nsK hns)).run callerA [] s₁ H ⟨[.ref a],[]⟩ [.ref a] [.ref a] _ _ hr e0 (hbind s₁ (.ref a)) (.cons rfl .nil) (hsp H hO hS)) λr s' h=>?_;cases r with
  |error e=>exact(hCX H e s' h).elim
  |ok fl=>
   cases fl with
   |next=>exact False.elim h
   |brk=>exact False.elim h
   |cont=>exact False.elim h
   |ret u=>
    obtain⟨v,H',os,bare,un,hok',r',q⟩:=h;have q':v = .bl true:=q;subst q';obtain rfl:u=Value.bool true:=r';refine⟨rfl,OldK.of_keep λb o e=>?_,os,bare⟩;cases q:H b with
    |none=>exact un.keep b o e q (by intro z;exact absurd (show b∈([]:List Addr) from z) (by simp)) (by simp)
    |some u=>
     rcases hO b with z|⟨ob,xs,z⟩
     ·rw[q] at z;cases z
     ·have z2:=un.frzs b ob _ z
      obtain⟨e1,_⟩:=hok b _ z;obtain⟨e2,_⟩:=hok' b _ z2;rw[e] at e1;cases e1;exact e2
 cases hk:K.lookup a with
 |some o=>
  have e:=KX a o hk;rw[ha] at e;cases e;refine core (λ_=>none) (λ_=>.inl rfl) (.inr ⟨_,vs.toArray,_,hk,rfl,rfl,rfl,by rw[size_toArray,lenV];exact hl,by simpa using rv⟩) (λb u z=>by have z':(none:Option HO)=some u:=z;cases z') (λb z=>absurd rfl z) λz=>absurd rfl z
 |none=>
  refine core (λb=>if b=a then some (.frz {cls:=.type "list",data:=.seq vs.toArray} (.lst (ns.map V.int))) else none) (λb=>?_) (.inl (.inr ⟨{cls:=.type "list",data:=.seq vs.toArray},if_pos rfl⟩)) (λb u z=>?_) (λb z=>?_) λ_=>hk
  ·by_cases hb:b=a
   ·exact .inr ⟨_,_,if_pos hb⟩
   ·exact .inl (if_neg hb)
  ·by_cases hb:b=a
   ·have z':=(if_pos hb).symm.trans z
    cases z';subst hb;exact⟨ha,by rw[length_map];exact hl,vs,_,rv,ha⟩
   ·have z':=(if_neg hb).symm.trans z
    cases z'
  ·by_cases hb:b=a
   ·exact hb
   ·exact absurd (if_neg hb) z
end L2
section
set_option maxHeartbeats 2000000
namespace L2
open PySem PySem.Spec PyProof.Rows
open PySem.W (WData Codec OpenSpec Well WellAll ReadsW ReadsAllW)
mutual
inductive Dw(K:Frag)(H:Hp):V->WData->Prop
 |non:Dw K H .non .none
 |bl (b:Bool):Dw K H (.bl b) (.bool b)
 |int (i:Int):Dw K H (.int i) (.int i)
 |str (x:Str):Dw K H (.str x) (.str x)
 |byt (b:Array UInt8):Dw K H (.byt b) (.bytes b.toList)
 |lst {a:Addr} {xs:List V} {ds:List WData}:SqL K H a xs->VZ K H xs ds->Dw K H (.ref a) (.list ds)
 |tup {a:Addr} {xs:List V} {ds:List WData}:SqT K H a xs->VZ K H xs ds->Dw K H (.ref a) (.tuple ds)
inductive VZ(K:Frag)(H:Hp):List V->List WData->Prop
 |nil:VZ K H [] []
 |cons {v:V} {vs:List V} {d:WData} {ds:List WData}:Dw K H v d->VZ K H vs ds->VZ K H (v::vs) (d::ds)
end
theorem ZfA{K:Frag}{H:Hp}:∀ns:List Int,VZ K H (ns.map V.int) (ns.map WData.int)
 | []=>.nil
 |n::r=>.cons (.int n) (ZfA r)
theorem ZfO{K:Frag}{H:Hp}:∀(ns:List Int) (xs:List V),VZ K H xs (ns.map WData.int)->xs=ns.map V.int
 | [],xs,h=>by
  cases h;rfl
 |n::r,xs,h=>by
  cases h with
  |cons h1 h2=>
   cases h1;rw[ZfO r _ h2]<;>rfl
section
variable{P:Program}{w:World}{K:Frag}{H:Hp}{h:Heap}{R:PySem.W.WRecords}{cl:Str->Option Addr}
def Zly{a:Addr}{xs:List V}(hok:HOk P w H h)(KX:K.In h)(q:SqL K H a xs):∃(its:List Value) (o:Obj) (n:Nat),Zy xs its/\h.get? a=some o/\o.cls = .type "list" /\ o.data = .seq its.toArray n:=by
 rcases q with q|⟨o,its,n,e,hc,_,hd,_,hv⟩
 ·obtain⟨_,its,n,hv,e⟩:=(show Jc P w H h a (.lst xs) from q.ok hok)
  exact⟨its,_,n,hv,e,rfl,rfl⟩
 ·exact⟨its.toList,o,n,hv,KX _ _ e,hc,by simp[hd]⟩
def ZlF{a:Addr}{xs:List V}(hok:HOk P w H h)(KX:K.In h)(q:SqT K H a xs):∃(its:List Value) (o:Obj) (n:Nat),Zy xs its/\h.get? a=some o/\o.cls = .type "tuple" /\ o.data = .seq its.toArray n:=by
 rcases q with q|⟨o,its,n,e,hc,hd,_,hv⟩
 ·obtain⟨_,its,hv,o,e,hc,n,hd⟩:=(show Jc P w H h a (.tup xs) from q.ok hok)
  exact⟨its,o,n,hv,e,hc,hd⟩
 ·exact⟨its.toList,o,n,hv,KX _ _ e,hc,by simp[hd]⟩
mutual
theorem Dw.reads(hok:HOk P w H h)(KX:K.In h):∀(d:WData) (v:V) (u:Value),Dw K H v d->ZL v u->∃as,ReadsW R cl h u d as
 |.none,_,_,x,r=>by
  cases x;cases r;exact⟨_,ReadsW.none⟩
 |.bool b,_,_,x,r=>by
  cases x;cases r;exact⟨_,ReadsW.bool b⟩
 |.int i,_,_,x,r=>by
  cases x;obtain⟨t,rfl⟩:=r;exact⟨_,ReadsW.int i t⟩
 |.str s,_,_,x,r=>by
  cases x;obtain⟨t,rfl⟩:=r;exact⟨_,ReadsW.str s t⟩
 |.bytes b,_,_,x,r=>by
  cases x;obtain⟨t,rfl⟩:=r;exact⟨_,ReadsW.bytes _ t⟩
 |.list ds,_,_,x,r=>by
  cases x with
  |lst hs ha=>
   cases r;obtain⟨its,o,n,rv,ho,hc,hd⟩:=Zly hok KX hs;obtain⟨as,hr⟩:=Dw.readsAll hok KX ds _ its ha rv;exact⟨_,ReadsW.list ho hc hd hr⟩
 |.tuple ds,_,_,x,r=>by
  cases x with
  |tup hs ha=>
   cases r;obtain⟨its,o,n,rv,ho,hc,hd⟩:=ZlF hok KX hs;obtain⟨as,hr⟩:=Dw.readsAll hok KX ds _ its ha rv;exact⟨_,ReadsW.tuple ho hc hd hr⟩
 |.float _,_,_,x,_=>by cases x
 |.dict _,_,_,x,_=>by cases x
 |.bytearray _,_,_,x,_=>by cases x
 |.set _,_,_,x,_=>by cases x
 |.frozenset _,_,_,x,_=>by cases x
 |.obj _ _,_,_,x,_=>by cases x
theorem Dw.readsAll(hok:HOk P w H h)(KX:K.In h):∀(ds:List WData) (vs:List V) (us:List Value),VZ K H vs ds->Zy vs us->∃as,ReadsAllW R cl h us ds as
 | [],_,_,x,r=>by
  cases x;cases r;exact⟨_,ReadsAllW.nil⟩
 |d::ds,_,_,x,r=>by
  cases x with
  |cons h1 h2=>
   cases r with
   |cons r1 r2=>
    obtain⟨as,q1⟩:=Dw.reads hok KX d _ _ h1 r1;obtain⟨bs,q2⟩:=Dw.readsAll hok KX ds _ _ h2 r2;exact⟨_,ReadsAllW.cons q1 q2⟩
end
end
mutual
def plW:WData->Bool
 |.none=>true
 |.bool _=>true
 |.int _=>true
 |.str _=>true
 |.bytes _=>true
 |.list xs=>Zag xs
 |.tuple xs=>Zag xs
 |_=>false
def Zag:List WData->Bool
 | []=>true
 |x::r=>plW x&&Zag r
end
theorem ZdE{α:Type}{f:α->WData}(h:∀a,plW (f a)=true):∀l:List α,Zag (l.map f)=true
 | []=>rfl
 |x::r=>by
  show(plW (f x)&&Zag (r.map f))=true;rw[h x,ZdE h r]<;>rfl
theorem Ur:∀(c:Codec) (a:c.denote),plW (c.enc a)=true
 |.unit,_=>rfl
 |.bool,_=>rfl
 |.int _ _,_=>rfl
 |.nat _ _,_=>rfl
 |.u8,_=>rfl
 |.bytes _ _,_=>rfl
 |.text _ _ _ _,_=>rfl
 |.list _ _ c,a=>ZdE (λx=>Ur c x) a
 |.pair c d,a=>by
  show(plW (c.enc a.1)&&(plW (d.enc a.2)&&true))=true;rw[Ur c a.1,Ur d a.2]<;>rfl
 |.triple c d e,a=>by
  show(plW (c.enc a.1)&&(plW (d.enc a.2.1)&&(plW (e.enc a.2.2)&&true)))=true;rw[Ur c a.1,Ur d a.2.1,Ur e a.2.2]<;>rfl
 |.option c,none=>rfl
 |.option c,some x=>Ur c x
theorem ZbM:∀(cs:List Codec) (a:Codec.denoteAll cs),Zag (Codec.encAll cs a)=true
 | [],_=>rfl
 |c::cs,a=>by
  show(plW (c.enc a.1)&&Zag (Codec.encAll cs a.2))=true;rw[Ur c a.1,ZbM cs a.2]<;>rfl
theorem U1:∀{xs:List WData} {d:WData},d∈xs->d.weight<=WData.weightAll xs
 | [],d,h=>absurd h (by simp)
 |x::r,d,h=>by
  show d.weight<=x.weight+1+WData.weightAll r;rcases mem_cons.mp h with e|m
  ·rw[e]
   omega
  ·have z:=U1 m
   omega
def toV:Value->V
 |.none=>.non
 |.bool b=>.bl b
 |.int i _=>.int i
 |.str x _=>.str x
 |.bytes b _=>.byt b
 |.ref a=>.ref a
 |_=>.non
def OkU(A:List Addr):Value->Prop
 |.none=>True
 |.bool _=>True
 |.int _ _=>True
 |.str _ _=>True
 |.bytes _ _=>True
 |.ref a=>a∈A
 |_=>False
def OkU.mono{A B:List Addr}(h:∀a∈A,a∈B):∀{u:Value},OkU A u->OkU B u:=λ{u} x=>by
 cases u with
 |ref a=>exact h a x
 |none=>trivial
 |bool b=>trivial
 |int i t=>trivial
 |str s t=>trivial
 |bytes b t=>trivial
 |_=>exact False.elim x
def ZiI{A:List Addr}{u:Value}(x:OkU A u):ZL (toV u) u:=by
 cases u with
 |ref a=>rfl
 |none=>rfl
 |bool b=>rfl
 |int i t=>exact⟨t,rfl⟩
 |str s t=>exact⟨t,rfl⟩
 |bytes b t=>exact⟨t,rfl⟩
 |_=>exact False.elim x
theorem Vs{A:List Addr}:∀{vs:List Value},(∀u∈vs,OkU A u)->Zy (vs.map toV) vs
 | [],_=>.nil
 |u::r,h=>.cons (ZiI (h u (mem_cons_self ..))) (Vs λx hx=>h x (mem_cons_of_mem _ hx))
def V1(h:Heap)(A:List Addr)(a:Addr):Prop:=∃vs:List Value,vs.length<=sizeLine/\(∀u∈vs,OkU A u) /\
 (h.get? a=some {cls:=.type "list",data:=.seq vs.toArray}\/h.get? a=some {cls:=.type "tuple",data:=.seq vs.toArray})
theorem V1.mono{h:Heap}{A B:List Addr}{a:Addr}(k:∀a∈A,a∈B)(x:V1 h A a):V1 h B a:=by
 obtain⟨vs,h1,h2,h3⟩:=x;exact⟨vs,h1,λu hu=>(h2 u hu).mono k,h3⟩
theorem Y4{P:Params}{h:Heap}:∀{vs:List Value} {ds:List WData},WellAll P h vs ds->vs.length=ds.length
 |_,_,.nil=>rfl
 |_,_,.cons _ b=>by
  show _+1=_+1;rw[Y4 b]
def Zca{P:Params}{h:Heap}{v:Value}{ds:List WData}(x:Well P h v (.list ds)):∃(a:Addr) (vs:List Value),v = .ref a/\h.get? a=some {cls:=.type "list",data:=.seq vs.toArray}/\WellAll P h vs ds:=by
 cases x with
 |list ho hall=>exact⟨_,_,rfl,ho,hall⟩
def ZaY{P:Params}{h:Heap}{v:Value}{ds:List WData}(x:Well P h v (.tuple ds)):∃(a:Addr) (vs:List Value),v = .ref a/\h.get? a=some {cls:=.type "tuple",data:=.seq vs.toArray}/\WellAll P h vs ds:=by
 cases x with
 |tuple ho hall=>exact⟨_,_,rfl,ho,hall⟩
def ZbL{P:Params}{h:Heap}{us:List Value}{d:WData}{ds:List WData}(x:WellAll P h us (d::ds)):∃(v:Value) (vs:List Value),us=v::vs/\Well P h v d/\WellAll P h vs ds:=by
 cases x with
 |cons a b=>exact⟨_,_,rfl,a,b⟩
def Zf4{n:Nat}(h:n<=1048576):n<=sizeLine:=Nat.le_trans h (by decide)
section
variable{P:Params}{h:Heap}
mutual
theorem Zi0:∀(d:WData) (v:Value),Well P h v d->plW d=true->d.weight<=1048576->∃A:List Addr,OkU A v/\∀a∈A,V1 h A a
 |.none,_,x,_,_=>by
  cases x;exact⟨[],trivial,λa m=>absurd m (by simp)⟩
 |.bool b,_,x,_,_=>by
  cases x;exact⟨[],trivial,λa m=>absurd m (by simp)⟩
 |.int i,_,x,_,_=>by
  cases x;exact⟨[],trivial,λa m=>absurd m (by simp)⟩
 |.str s,_,x,_,_=>by
  cases x;exact⟨[],trivial,λa m=>absurd m (by simp)⟩
 |.bytes b,_,x,_,_=>by
  cases x;exact⟨[],trivial,λa m=>absurd m (by simp)⟩
 |.list ds,_,x,p,z=>by
  obtain⟨a,vs,rfl,ho,hall⟩:=Zca x;have z2:WData.weightAll ds<=1048576:=z;obtain⟨A,h1,h2⟩:=Dx ds _ hall p λd hd=>Nat.le_trans (U1 hd) z2;have k:∀b∈A,b∈a::A:=λb hb=>mem_cons_of_mem _ hb;refine⟨a::A,mem_cons_self ..,λb hb=>?_⟩;rcases mem_cons.mp hb with e|m
  ·rw[e]
   exact⟨vs,Zf4 (by rw[Y4 hall];exact Nat.le_trans (PySem.W.length_le_weightAllW ds) z2),λu hu=>(h1 u hu).mono k,.inl ho⟩
  ·exact(h2 b m).mono k
 |.tuple ds,_,x,p,z=>by
  obtain⟨a,vs,rfl,ho,hall⟩:=ZaY x;have z2:WData.weightAll ds<=1048576:=z;obtain⟨A,h1,h2⟩:=Dx ds _ hall p λd hd=>Nat.le_trans (U1 hd) z2;have k:∀b∈A,b∈a::A:=λb hb=>mem_cons_of_mem _ hb;refine⟨a::A,mem_cons_self ..,λb hb=>?_⟩;rcases mem_cons.mp hb with e|m
  ·rw[e]
   exact⟨vs,Zf4 (by rw[Y4 hall];exact Nat.le_trans (PySem.W.length_le_weightAllW ds) z2),λu hu=>(h1 u hu).mono k,.inr ho⟩
  ·exact(h2 b m).mono k
 |.float _,_,_,p,_=>Bool.noConfusion (show false=true from p)
 |.dict _,_,_,p,_=>Bool.noConfusion (show false=true from p)
 |.bytearray _,_,_,p,_=>Bool.noConfusion (show false=true from p)
 |.set _,_,_,p,_=>Bool.noConfusion (show false=true from p)
 |.frozenset _,_,_,p,_=>Bool.noConfusion (show false=true from p)
 |.obj _ _,_,_,p,_=>Bool.noConfusion (show false=true from p)
theorem Dx:∀(ds:List WData) (vs:List Value),WellAll P h vs ds->Zag ds=true->(∀d∈ds,d.weight<=1048576)->∃A:List Addr,(∀u∈vs,OkU A u)/\∀a∈A,V1 h A a
 | [],_,x,_,_=>by
  cases x;exact⟨[],λu m=>absurd m (by simp),λa m=>absurd m (by simp)⟩
 |d::ds,_,x,p,z=>by
  obtain⟨v,vs,rfl,x1,x2⟩:=ZbL x;have q:plW d=true/\Zag ds=true:=Bool.and_eq_true_iff.mp p;obtain⟨A,a1,a2⟩:=Zi0 d v x1 q.1 (z d (mem_cons_self ..));obtain⟨B,b1,b2⟩:=Dx ds vs x2 q.2 λe he=>z e (mem_cons_of_mem _ he);have kA:∀b∈A,b∈A++B:=λb hb=>mem_append.mpr (.inl hb);have kB:∀b∈B,b∈A++B:=λb hb=>mem_append.mpr (.inr hb);refine⟨A++B,λu hu=>?_,λb hb=>?_⟩
  ·rcases mem_cons.mp hu with e|m
   ·rw[e]
    exact a1.mono kA
   ·exact(b1 u m).mono kB
  ·rcases mem_append.mp hb with m|m
   ·exact(a2 b m).mono kA
   ·exact(b2 b m).mono kB
end
end
def Zkq(o:Obj):Option HO:=match o.data with
 |.seq vs _=>if (o.cls==Value.type "list")=true then some (.frz o (.lst (vs.toList.map toV))) else some (.frz o (.tup (vs.toList.map toV)))
 |_=>none
def VM(K:Frag)(h:Heap)(A:List Addr):Hp:=λb=>if b∈A then (if (K.lookup b).isNone=true then (h.get? b).bind Zkq else none) else none
def Zdr(H:Hp):Prop:=∀b,H b=none\/∃o u,H b=some (.frz o u)
def Zd2(vs:List Value):Zkq {cls:=.type "list",data:=.seq vs.toArray}=some (.frz {cls:=.type "list",data:=.seq vs.toArray} (.lst (vs.map toV))):=by
 show(if (Value.type "list" == Value.type "list")=true then some (HO.frz {cls:=.type "list",data:=.seq vs.toArray} (.lst (vs.toArray.toList.map toV))) else some (HO.frz {cls:=.type "list",data:=.seq vs.toArray} (.tup (vs.toArray.toList.map toV))))=_;rw[if_pos (beq_self_eq_true _)]
def Zdo(vs:List Value):Zkq {cls:=.type "tuple",data:=.seq vs.toArray}=some (.frz {cls:=.type "tuple",data:=.seq vs.toArray} (.tup (vs.map toV))):=by
 show(if (Value.type "tuple" == Value.type "list")=true then some (HO.frz {cls:=.type "tuple",data:=.seq vs.toArray} (.lst (vs.toArray.toList.map toV))) else some (HO.frz {cls:=.type "tuple",data:=.seq vs.toArray} (.tup (vs.toArray.toList.map toV))))=_;rw[if_neg (by decide)]
section
variable{P:Program}{w:World}{K:Frag}{h:Heap}{A:List Addr}
def Zan{b:Addr}{o:Obj}(hb:b∈A)(hk:K.lookup b=none)(e:h.get? b=some o):VM K h A b=Zkq o:=by
 unfold VM;rw[if_pos hb,hk,if_pos (show(none:Option Obj).isNone=true from rfl),e]<;>rfl
def ZjO{b:Addr}{u:HO}(q:VM K h A b=some u):b∈A/\K.lookup b=none:=by
 unfold VM at q;by_cases hb:b∈A
 ·rw[if_pos hb] at q
  cases hk:K.lookup b with
  |none=>exact⟨hb,rfl⟩
  |some o=>
   rw[hk,if_neg (by simp)] at q;cases q
 ·rw[if_neg hb] at q
  cases q
def Zap(ar:∀a∈A,V1 h A a){b:Addr}{u:HO}(q:VM K h A b=some u):K.lookup b=none/\∃vs:List Value,vs.length<=sizeLine/\(∀u∈vs,OkU A u) /\
  ((h.get? b=some {cls:=.type "list",data:=.seq vs.toArray}/\u = .frz {cls:=.type "list",data:=.seq vs.toArray} (.lst (vs.map toV))) \/
   (h.get? b=some {cls:=.type "tuple",data:=.seq vs.toArray}/\u = .frz {cls:=.type "tuple",data:=.seq vs.toArray} (.tup (vs.map toV)))):=by
 obtain⟨hb,hk⟩:=ZjO q;obtain⟨vs,h1,h2,h3⟩:=ar b hb;refine⟨hk,vs,h1,h2,?_⟩;rcases h3 with e|e
 ·rw[Zan hb hk e,Zd2] at q
  exact .inl ⟨e,(Option.some.inj q).symm⟩
 ·rw[Zan hb hk e,Zdo] at q
  exact .inr ⟨e,(Option.some.inj q).symm⟩
def ZgM(ar:∀a∈A,V1 h A a):Zdr (VM K h A):=λb=>by
 cases q:VM K h A b with
 |none=>exact .inl rfl
 |some u=>
  obtain⟨_,vs,_,_,⟨_,e⟩|⟨_,e⟩⟩:=Zap ar q
  ·exact .inr ⟨_,_,by rw[e]⟩
  ·exact .inr ⟨_,_,by rw[e]⟩
def Zjr(ar:∀a∈A,V1 h A a):HOk P w (VM K h A) h:=λb u q=>by
 obtain⟨_,vs,h1,h2,⟨e,rfl⟩|⟨e,rfl⟩⟩:=Zap ar q
 ·exact⟨e,by rw[length_map];exact h1,vs,_,Vs h2,e⟩
 ·exact⟨e,by rw[length_map];exact h1,vs,Vs h2,_,e,rfl,_,rfl⟩
def Zau{c c':Value}{vs us:List Value}(e:(some {cls:=c,data:=.seq vs.toArray}:Option Obj)=some {cls:=c',data:=.seq us.toArray}):c=c'/\vs=us:=by
 have e1:=Option.some.inj e;have e2:c=c':=congrArg Obj.cls e1;have e3:Data.seq vs.toArray=Data.seq us.toArray:=congrArg Obj.data e1;injection e3 with e4
 refine⟨e2,?_⟩;have e5:=congrArg Array.toList e4;simpa using e5
def Zn5(KX:K.In h)(ar:∀a∈A,V1 h A a){a:Addr}{vs:List Value}(ha:a∈A)(e:h.get? a=some {cls:=.type "list",data:=.seq vs.toArray}):(∀u∈vs,OkU A u)/\SqL K (VM K h A) a (vs.map toV):=by
 obtain⟨us,h1,h2,h3⟩:=ar a ha;have hu:us=vs:=by
  rcases h3 with q|q
  ·rw[e] at q
   exact(Zau q).2.symm
  ·rw[e] at q
   exact absurd (Value.type.inj (Zau q).1) (by decide)
 subst hu;refine⟨h2,?_⟩;cases hk:K.lookup a with
 |none=>exact .inl (.inr ⟨_,by rw[Zan ha hk e,Zd2]⟩)
 |some o=>
  have e2:=KX a o hk;rw[e] at e2;obtain rfl:=Option.some.inj e2;exact .inr ⟨_,us.toArray,_,hk,rfl,rfl,rfl,by rw[size_toArray];exact h1,by simpa using Vs h2⟩
def Zoy(KX:K.In h)(ar:∀a∈A,V1 h A a){a:Addr}{vs:List Value}(ha:a∈A)(e:h.get? a=some {cls:=.type "tuple",data:=.seq vs.toArray}):(∀u∈vs,OkU A u)/\SqT K (VM K h A) a (vs.map toV):=by
 obtain⟨us,h1,h2,h3⟩:=ar a ha;have hu:us=vs:=by
  rcases h3 with q|q
  ·rw[e] at q
   exact absurd (Value.type.inj (Zau q).1) (by decide)
  ·rw[e] at q
   exact(Zau q).2.symm
 subst hu;refine⟨h2,?_⟩;cases hk:K.lookup a with
 |none=>exact .inl (.inr ⟨_,by rw[Zan ha hk e,Zdo]⟩)
 |some o=>
  have e2:=KX a o hk;rw[e] at e2;obtain rfl:=Option.some.inj e2;exact .inr ⟨_,us.toArray,_,hk,rfl,rfl,by rw[size_toArray];exact h1,by simpa using Vs h2⟩
mutual
theorem Zk3{Pm:Params}(KX:K.In h)(ar:∀a∈A,V1 h A a):∀(d:WData) (v:Value),Well Pm h v d->plW d=true->OkU A v->Dw K (VM K h A) (toV v) d
 |.none,_,x,_,_=>by
  cases x;exact .non
 |.bool b,_,x,_,_=>by
  cases x;exact .bl b
 |.int i,_,x,_,_=>by
  cases x;exact .int i
 |.str s,_,x,_,_=>by
  cases x;exact .str s
 |.bytes b,_,x,_,_=>by
  cases x;have z:=Dw.byt (K:=K) (H:=VM K h A) b.toArray;exact z
 |.list ds,_,x,p,hu=>by
  obtain⟨a,vs,rfl,ho,hall⟩:=Zca x;obtain⟨h2,hs⟩:=Zn5 KX ar hu ho;exact .lst hs (ZcG KX ar ds _ hall p h2)
 |.tuple ds,_,x,p,hu=>by
  obtain⟨a,vs,rfl,ho,hall⟩:=ZaY x;obtain⟨h2,hs⟩:=Zoy KX ar hu ho;exact .tup hs (ZcG KX ar ds _ hall p h2)
 |.float _,_,_,p,_=>Bool.noConfusion (show false=true from p)
 |.dict _,_,_,p,_=>Bool.noConfusion (show false=true from p)
 |.bytearray _,_,_,p,_=>Bool.noConfusion (show false=true from p)
 |.set _,_,_,p,_=>Bool.noConfusion (show false=true from p)
 |.frozenset _,_,_,p,_=>Bool.noConfusion (show false=true from p)
 |.obj _ _,_,_,p,_=>Bool.noConfusion (show false=true from p)
theorem ZcG{Pm:Params}(KX:K.In h)(ar:∀a∈A,V1 h A a):∀(ds:List WData) (vs:List Value),WellAll Pm h vs ds->Zag ds=true->(∀u∈vs,OkU A u)->VZ K (VM K h A) (vs.map toV) ds
 | [],_,x,_,_=>by
  cases x;exact .nil
 |d::ds,_,x,p,hu=>by
  obtain⟨v,vs,rfl,x1,x2⟩:=ZbL x;have q:plW d=true/\Zag ds=true:=Bool.and_eq_true_iff.mp p;exact .cons (Zk3 KX ar d v x1 q.1 (hu _ (mem_cons_self ..))) (ZcG KX ar ds vs x2 q.2 λu m=>hu u (mem_cons_of_mem _ m))
end
end
def ZgN{P:Program}{w:World}{K:Frag}{mg mb:Str->Option Value}{CX:CXT}{k:Nat}{fa:Addr}{fd:FuncData}{ps:List Str}{sp:Sp}{s₁:Shared}{vals:List Value}{ds:List WData}{R:PySem.W.WRecords}{cl:Str->Option Addr}{d0:WData}
  (KX:K.In s₁.heap) (hns:s₁.heap.Ns mainGlobals mg) (hb:s₁.heap.Ns builtinsNs mb) (hbb:∀x:Str,x ≠ "__name__" -> mb x=bootBuiltins x) (hlim:s₁.heap.NoLimit) (hg:s₁.gens = #[])
  (hwl:WellAll w.params s₁.heap vals ds) (hpl:Zag ds=true) (hwt:∀d∈ds,d.weight<=1048576) (hr:Room k callerA)
  (F:∀base:Heap,K.In base->base.Ns mainGlobals mg->YX P w K mg base CX k fa fd ps sp) (hbind:∀(s:Shared) (us:List Value),us.length=ps.length->BindsTo s fd ⟨us,[]⟩ (ps.zip us)) (hlen:ds.length=ps.length)
  (hsp:∀(H:Hp) (xs:List V),Zdr H->VZ K H xs ds->sp xs H (λv H'=>Dw K H' v d0) λ_ _ _=>False)
  (hCX:∀H e s',CX [] H s₁ (λ_ _ _=>False) e s'->False) :
  codeAny (model P w) callerA (.call (.ref fa) ⟨vals,[]⟩) (λr s'=>∃u as,r = .ok (.ret u)/\ReadsW R cl s'.heap u d0 as/\OldK s₁.heap s'.heap/\s'.os=s₁.os/\AllBare s'.gens) s₁:=by
 obtain⟨A,ho,ar⟩:=Dx ds vals hwl hpl hwt;have hO:Zdr (VM K s₁.heap A):=ZgM ar;have hok:HOk P w (VM K s₁.heap A) s₁.heap:=Zjr ar;have hS:=ZcG KX ar ds vals hwl hpl ho;have hV:=Vs ho;have hK:∀b u,VM K s₁.heap A b=some u->K.lookup b=none:=λb u q=>(Zap ar q).1;have noA:∀{b:Addr} {o:Obj} {es:Array DictEntry} {ep:Nat},s₁.heap.get? b=some o->o.data = .dict es ep->VM K s₁.heap A b=none:=λ{b o es ep} e d=>by
  cases q:VM K s₁.heap A b with
  |none=>rfl
  |some u=>
   obtain⟨_,vs,_,_,⟨e2,_⟩|⟨e2,_⟩⟩:=Zap ar q
   ·rw[e2] at e
    cases e;have d':Data.seq vs.toArray _=Data.dict es ep:=d;cases d'
   ·rw[e2] at e
    cases e;have d':Data.seq vs.toArray _=Data.dict es ep:=d;cases d'
 generalize VM K s₁.heap A=H at hO hok hS hK noA;have base_of:∀{b:Addr} {o:Obj},s₁.heap.get? b=some o->H b=none->(De s₁.heap H).get? b=some o:=λe n=>Zeg e n;have nsK:∀{b:Addr} {m:Str->Option Value},s₁.heap.Ns b m->(De s₁.heap H).Ns b m:=λ{b m} ⟨o,es,ep,e,d,r⟩=>⟨o,es,ep,base_of e (noA e d),d,r⟩;have nK:∀b o,K.lookup b=some o->H b=none:=λb o e=>by
  cases q:H b with
  |none=>rfl
  |some u=>
   rw[hK b u q] at e;cases e
 have hKb:K.In (De s₁.heap H):=λb o e=>base_of (KX b o e) (nK b o e);have hM:Mod K mg (De s₁.heap H):=⟨hKb,nsK hns,⟨mb,nsK hb,hbb⟩,let ⟨mc,h1,h2⟩:=hlim;⟨mc,nsK h1,h2⟩⟩;have e0:Zby P w K mg (De s₁.heap H) callerA [] s₁ H:=⟨rfl,hM,λb o e=>Zfy e,Nat.le_of_eq (ZbH _ _),trivial,λb hb=>absurd (show b∈([]:List Addr) from hb) (by simp),hok,.of_eq hg⟩;have hl:vals.length=ps.length:=by rw[Y4 hwl];exact hlen
 refine codeAny_mono ((F _ hKb (nsK hns)).run callerA [] s₁ H ⟨vals,[]⟩ vals (vals.map toV) _ _ hr e0 (hbind s₁ vals hl) hV (hsp H _ hO hS)) λr s' x=>?_;cases r with
 |error e=>exact(hCX H e s' x).elim
 |ok fl=>
  cases fl with
  |next=>exact False.elim x
  |brk=>exact False.elim x
  |cont=>exact False.elim x
  |ret u=>
   obtain⟨v,H',os,bare,un,hok',r',q⟩:=x;have kept:∀b o,s₁.heap.get? b=some o->s'.heap.get? b=some o:=λb o e=>by
    cases q2:H b with
    |none=>exact un.keep b o e q2 (by intro z;exact absurd (show b∈([]:List Addr) from z) (by simp)) (by simp)
    |some u2=>
     rcases hO b with z|⟨ob,u3,z⟩
     ·rw[q2] at z
      cases z
     ·have z2:=un.frzs b ob _ z
      obtain⟨e1,_⟩:=hok b _ z;obtain⟨e2,_⟩:=hok' b _ z2;rw[e] at e1;cases e1;exact e2
   have KX':K.In s'.heap:=λb o e=>kept b o (KX b o e);obtain⟨as,hrd⟩:=Dw.reads (R:=R) (cl:=cl) hok' KX' d0 v u q r';exact⟨u,as,rfl,hrd,OldK.of_keep kept,os,bare⟩
def ZaM{ds:List WData}(h:WData.layableAll ds=true):∀d∈ds,d.weight<=1048576:=λd hd=>
 (PySem.W.layableW_iff.mp (all_eq_true.mp h d hd)).2.2
theorem Zbe:∀(cs:List Codec) (a:Codec.denoteAll cs),(Codec.encAll cs a).length=cs.length
 | [],_=>rfl
 |c::cs,a=>by
  show(Codec.encAll cs a.2).length+1=cs.length+1;rw[Zbe cs a.2]
def ZgB{r:OpenSpec}{k:Nat}{q:Program}{loose:List Str}{XP:(Str->Option Value)->Heap->Prop}{YP:World->Heap->Prop}{d:DefRec}{K:Params->Frag}{CX:World->CXT}{ps:List Str}{sp:World->Sp}
  (hwell:r.wellSaid=true) (hdf:d.params.defaults=[]) (hlen:r.args.length=ps.length) (hr:Room k callerA)
  (hY:∀(w:World) (h:Heap),YP w h->(K w.params).In h)
  (F:∀(w:World) (mg:Str->Option Value) (fa:Addr) (h:Heap),YP w h->(K w.params).In h->h.Ns mainGlobals mg->mg d.name=some (.ref fa) ->
   ∃fd:FuncData,(∀(s:Shared) (us:List Value),us.length=ps.length->BindsTo s fd ⟨us,[]⟩ (ps.zip us)) /\
    ∀base:Heap,(K w.params).In base->base.Ns mainGlobals mg->YX r.prog w (K w.params) mg base (CX w) k fa fd ps (sp w))
  (hsp:∀(w:World) (H:Hp) (xs:List V) (a:Codec.denoteAll r.args),Zdr H->Codec.withinAll r.args a=true->Codec.app r.args r.asked a=true->VZ (K w.params) H xs (Codec.encAll r.args a) ->
   sp w xs H (λv H'=>Dw (K w.params) H' v (r.ret.enc (Codec.app r.args r.f a))) λ_ _ _=>False)
  (hCX:∀(w:World) (H:Hp) (s:Shared) (e:Value) (s':Shared),CX w [] H s (λ_ _ _=>False) e s'->False) :
  PySem.W.WalkOS q loose XP YP r d [] (λf vs=>PySem.call f vs):=by
 intro w s_0 s₁ mg mb G Y fa o pm cd doc dV kV ho hd hcd hD hmg hg args vals as hpre hlay hrd hwl hlo;obtain⟨a,e1,e2⟩:=PySem.W.os_pre_some hpre;obtain⟨e3,hwi⟩:=Codec.encAll_of_decAll r.args args a e1;subst e3;have KX:=hY w _ Y;obtain⟨fd,hb,hF⟩:=F w mg fa _ Y KX G.T.g hmg;refine PySem.W.enter_call (codeAny_mono (ZgN (R:=[]) (cl:=classAt s_0.heap) (d0:=r.ret.enc (Codec.app r.args r.f a)) KX G.T.g G.T.b G.T.builtins G.T.nolimit hg hwl (ZbM _ _) (ZaM hlay) hr hF hb (by rw[Zbe];exact hlen)
  (λH xs hO hS=>hsp w H xs a hO hwi e2 hS) λH e s'=>hCX w H s₁ e s') λ_ s' hq=>?_);obtain⟨u,as',rfl,h1,h2,h3,h4⟩:=hq;exact⟨.inl ⟨u,_,as',rfl,λ_=>rfl,h1,(OpenSpec.post_iff hwell hwi _ _).mpr rfl,λz=>Bool.noConfusion (show false=true from z)⟩,h2,h3,h4⟩
def Ze5{r:OpenSpec}{k:Nat}{q:Program}{loose:List Str}{XP:(Str->Option Value)->Heap->Prop}{YP:World->Heap->Prop}{d:DefRec}{K:Params->Frag}{CX:CXT}{ps:List Str}{sp:Frag->Sp}
  (hwell:r.wellSaid=true) (hdf:d.params.defaults=[]) (hlen:r.args.length=ps.length) (hr:Room k callerA)
  (hY:∀(w:World) (h:Heap),YP w h->(K w.params).In h)
  (F:∀(w:World) (mg:Str->Option Value) (fa:Addr) (h:Heap),YP w h->(K w.params).In h->h.Ns mainGlobals mg->mg d.name=some (.ref fa) ->
   ∃fd:FuncData,(∀(s:Shared) (us:List Value),us.length=ps.length->BindsTo s fd ⟨us,[]⟩ (ps.zip us)) /\
    ∀base:Heap,(K w.params).In base->base.Ns mainGlobals mg->YX r.prog w (K w.params) mg base CX k fa fd ps (sp (K w.params)))
  (hsp:∀(K:Frag) (H:Hp) (xs:List V) (a:Codec.denoteAll r.args),Zdr H->Codec.withinAll r.args a=true->Codec.app r.args r.asked a=true->VZ K H xs (Codec.encAll r.args a) ->
   sp K xs H (λv H'=>Dw K H' v (r.ret.enc (Codec.app r.args r.f a))) λ_ _ _=>False)
  (hCX:∀(H:Hp) (s:Shared) (e:Value) (s':Shared),CX [] H s (λ_ _ _=>False) e s'->False) :
  PySem.W.WalkOS q loose XP YP r d [] (λf vs=>PySem.call f vs):=
 ZgB (K:=K) (CX:=λ_=>CX) (sp:=λw=>sp (K w.params)) hwell hdf hlen hr hY F (λw H xs a h1 h2 h3 h4=>hsp (K w.params) H xs a h1 h2 h3 h4) λ_ H s e s'=>hCX H s e s'
end L2
end
namespace L2
open PySem PySem.Spec PyProof.Rows
def Jn(s:Stmt):Arguments:=match s with
 |.FunctionDef _ a _ _ _ _ _ _ _ _=>a
 |_=>{posonlyargs:=[],args:=[],vararg:=none,kwonlyargs:=[],kw_defaults:=[],kwarg:=none,defaults:=[]}
def ZV(s:Stmt):List Stmt:=match s with
 |.FunctionDef _ _ b _ _ _ _ _ _ _=>b
 |_=>[]
def Ze(s:Stmt):Scope:=match s with
 |.FunctionDef _ _ _ _ _ _ sc _ _ _=>sc
 |_=>{kind:=.function,names:=[],isGenerator:=false,isCoroutine:=false}
abbrev CX0:CXT:=λ_ _ _ _ _ _=>False
abbrev E0:XK:=λ_ _ _=>False
def Zm{X:Cx}:Yi CX0 X E0:=λ_ _ _ _ _ _ _ h=>h.elim
structure Fun(K:Frag)(x qual:Str)(st:Stmt)(f:Addr)(fd:FuncData):Prop where
 ex:∃(oc:Value) (od:Option Addr) (kV doc pm:Value) (an:Option Addr) (cdv ct:Value) (osl:Array (Option Value)),
  fd=fnOf x qual (Jn st) (ZV st) (Ze st) .none kV doc pm an cdv ct/\K.lookup f=some ⟨oc,od,.func fd,osl⟩/\codeIn K cdv qual=true
 kp:keepIn K (.ref f)=true
section
variable{P:Program}{w:World}{K:Frag}{mg:Str->Option Value}{base:Heap}
def Fun.ok{x qual:Str}{st:Stmt}{f:Addr}{fd:FuncData}{N ps:List Str}{k:Nat}{sp:Sp}(F:Fun K x qual st f fd)(S:Zl N ps (Ze st))(len:∀vs H Q E,sp vs H Q E->vs.length=ps.length)
  (hbody:∀(cdv:Value) (A:Around) (outer:List Env) (s:Shared) (H:Hp) (vs:List V) (Q:VK) (E:XK),Room k (A.deeper (envOfC qual (Ze st) s.heap.objs.size f cdv))->sp vs H Q E ->
   ∃t,PSs (cxOf CX0 P w K mg base N qual (Ze st) f cdv A outer s H E).nox (ZV st) t/\t {nx:=λ_ H'=>Q .non H',rt:=Q} (start N vs) H):YX P w K mg base CX0 (k+1) f fd ps sp:=by
 obtain⟨oc,od,kV,doc,pm,an,cdv,ct,osl,rfl,lk,hcd⟩:=F.ex;refine Zkt lk hcd S len λA outer s H vs Q E hr hsp=>?_;obtain⟨t,h,q⟩:=hbody cdv A outer s H vs Q E hr hsp;exact⟨t,h.nox,q⟩
def Fun.binds{x qual:Str}{st:Stmt}{f:Addr}{fd:FuncData}{ps:List Str}(F:Fun K x qual st f fd)
  (h:∀(kV doc pm:Value) (an:Option Addr) (cdv ct:Value) (us:List Value),us.length=ps.length->bindArgs (fnOf x qual (Jn st) (ZV st) (Ze st) .none kV doc pm an cdv ct) ⟨us,[]⟩=pure (ps.zip us)):JZ K fd ps []:=by
 obtain⟨oc,od,kV,doc,pm,an,cdv,ct,osl,rfl,lk,hcd⟩:=F.ex;exact .all (h kV doc pm an cdv ct)
def Ut{x qual:Str}{st:Stmt}{f:Addr}{oc:Value}{od an:Option Addr}{osl:Array (Option Value)}{kV doc pm cdv ct:Value}(l:K.lookup f=some ⟨oc,od,.func (fnOf x qual (Jn st) (ZV st) (Ze st) .none kV doc pm an cdv ct),osl⟩)
  (c:codeIn K cdv qual=true) (k:keepIn K (.ref f)=true):Fun K x qual st f (fnOf x qual (Jn st) (ZV st) (Ze st) .none kV doc pm an cdv ct):=⟨⟨oc,od,kV,doc,pm,an,cdv,ct,osl,rfl,l,c⟩,k⟩
end
section
variable{X:Cx}
def pv(i:Nat){x:Str}{pos:Pos}(hN:X.N[i]? = some x:=by rfl)(hv:Vis X.env.scope x:=by first|exact Or.inl rfl|exact Or.inr (Or.inl rfl)|exact Or.inr (Or.inr rfl))(hd:(x==("__debug__" : Str))=false:=by decide)
  (hcd:(x==("__classdict__" : Str))=false:=by decide):PE X (.Name x pos) (V2 i):=ZlW hN hv hd hcd
end
def Yh{A B:Prop}(h:B):if false=true then A else B:=by
 rw[if_neg Bool.false_ne_true];exact h
def JT{A B:Prop}(h:A):if true=true then A else B:=by
 rw[if_pos rfl];exact h
def Jl{c A B:Prop}[Decidable c](h1:c->A)(h2:¬ c->B):if c then A else B:=by
 by_cases h:c
 ·rw[if_pos h]
  exact h1 h
 ·rw[if_neg h]
  exact h2 h
def Same(H H':Hp):Prop:=∀b o,H b=some o->H' b=some o
def Same.refl(H:Hp):Same H H:=λ_ _ h=>h
def Same.trans{H H1 H2:Hp}(a:Same H H1)(b:Same H1 H2):Same H H2:=λc o h=>b c o (a c o h)
def Same.free{H H':Hp}(e:Same H H'){l:Addr}(h:H' l=Option.none):H l=Option.none:=by
 cases q:H l with
 |none=>rfl
 |some o=>
  rw[e l o q] at h;cases h
def Same.seq{K:Frag}{H H':Hp}{a:Addr}{xs:List V}(e:Same H H')(h:SqL K H a xs):SqL K H' a xs:=by
 rcases h with(h|⟨o,h⟩)|h
 ·exact .inl (.inl (e _ _ h))
 ·exact .inl (.inr ⟨o,e _ _ h⟩)
 ·exact .inr h
end L2
namespace XC
open PySem
def Tr(h:Heap)(vs:Array Value):Option Addr->Prop
 |none=>vs[1]? = some .none
 |some T=>vs[1]? = some (.ref T)/\∃oT ts,h.get? T=some oT/\oT.data = .fields ts/\ts[3]? = some .none
abbrev Zib(l:List Env):List Addr:=l.filterMap (·.frame)
structure Lv(fr:List Addr)(e:Addr)(T:Option Addr)(oe:Obj)(h h':Heap):Prop where
 keep:∀b o,b∉fr->b≠e->some b≠T->h.get? b=some o->h'.get? b=some o
 slot:∀b o,b∈fr->h.get? b=some o->∃sl,h'.get? b=some {o with slots:=sl}
 there:∀b o,h.get? b=some o->∃o',h'.get? b=some o'
 exc:∃vs' N,h'.get? e=some {oe with data:=.fields vs'}/\Tr h' vs' (some N)/\h.objs.size<=N/\N≠e
section
variable{M:Model}{A:Around}{E:Value->Shared->Prop}{s:Shared}
def YW{h:Heap}{e:Addr}{oe:Obj}{vs ws:Array Value}{f:Array Value->Array Value}(he:h.get? e=some oe)(hd:oe.data = .fields vs)(hw:f vs=ws) :
  (h.update e (Obj.mapFields f)).get? e=some {oe with data:=.fields ws}:=by
 have q:oe.mapFields f={oe with data:=.fields ws}:=by
  obtain⟨c,d,dt,sl⟩:=oe;obtain rfl:dt = .fields vs:=hd;subst hw;rfl
 rw[Heap.get?_update_self _ he (by rw[q];exact Obj.isFreed_of_fields rfl),q]
def Zb8{base:Heap}{env:Env}{outer:List Env}{L e:Addr}{oe:Obj}{vs:Array Value}{head:Value}{hadNext:Bool}{Q:Unit->Shared->Prop}
  (hfr:A.frames=some (env::outer)) (hl:s.heap.FunFrames base (env::outer)) (hf:env.frame=some L) (he:s.heap.get? e=some oe) (hd:oe.data = .fields vs) (hz:1<vs.size)
  (h:∀h',Lv (Zib (env::outer)) e none oe s.heap h'->Q () {s with heap:=h'}) :
  wpAny M A (frameOf env >>= λa=>entryPlaceOf L hadNext >>= λpl=>EntryCells.newEntry head a .none (rawInt L) .none pl >>= λb=>setField (.ref e) 1 b)
   (λ_ s'=>wpAny M A (setFlight (.ref e) none) Q E s') E s:=by
 have nfr:e∉Zib (env::outer):=λhm=>by
  obtain⟨_,o,ho,nf⟩:=hl.mem hm;rw[he] at ho;cases ho;exact nf vs hd
 refine wpAny_bind (wpAny_frameOf_fun hfr hl hf λg1 so=>?_);refine wpAny_bind (wpAny_entryPlaceOf λpl ip=>?_);unfold EntryCells.newEntry newFields;refine wpAny_bind (wpAny_newObj_type ?_ (ip.sizeOk5 _ _ _ _ _));generalize hrec:([head,.ref L,.none,rawInt L,.none]++(if pl.isEmpty then List.replicate 6 Value.none else pl)).toArray=rec;have r3:3<rec.size:=by
  rw[<- hrec,size_toArray,length_append];show 3<5+_;omega
 have e1:g1.get? e=some oe:=(so.2.1 e nfr).trans he;have e2:=Heap.get?_push_of_some (h:=g1) {cls:=.type "traceback",dict:=none,data:=.fields rec} e1;have ne:g1.objs.size≠e:=Nat.ne_of_gt (Heap.lt_size e1);refine wpAny_setField e2 hd hz ?_;have e3:=YW (f:=(·.setIfInBounds 1 (Value.ref g1.objs.size))) e2 hd rfl
 have t3:((g1.push {cls:=.type "traceback",dict:=none,data:=.fields rec}).update e (Obj.mapFields (·.setIfInBounds 1 (Value.ref g1.objs.size)))).get? g1.objs.size=some {cls:=.type "traceback",dict:=none,data:=.fields rec}:=by
  rw[Heap.get?_update_other _ _ (Ne.symm ne)];exact Heap.get?_push_size g1 rfl
 unfold setFlight;refine wpAny_bind (wpAny_field e3 rfl (x:=.ref g1.objs.size) (by simp[hz]) ?_);rw[if_pos (by simp)];refine wpAny_setField t3 rfl r3 (h _ ?_);have kp:∀b o,b≠e->g1.get? b=some o->(((g1.push {cls:=.type "traceback",dict:=none,data:=.fields rec}).update e (Obj.mapFields (·.setIfInBounds 1 (Value.ref g1.objs.size)))).update g1.objs.size
   (Obj.mapFields (·.setIfInBounds 3 ((none:Option Addr).elim Value.none λf=>rawInt f)))).get? b=some o:=λb o hb q=>by
  rw[Heap.get?_update_other _ _ (Nat.ne_of_gt (Heap.lt_size q)),Heap.get?_update_other _ _ (Ne.symm hb)];exact Heap.get?_push_of_some _ q
 have e4:(((g1.push {cls:=.type "traceback",dict:=none,data:=.fields rec}).update e (Obj.mapFields (·.setIfInBounds 1 (Value.ref g1.objs.size)))).update g1.objs.size
   (Obj.mapFields (·.setIfInBounds 3 ((none:Option Addr).elim Value.none λf=>rawInt f)))).get? e=some {oe with data:=.fields (vs.setIfInBounds 1 (Value.ref g1.objs.size))}:=by
  rw[Heap.get?_update_other _ _ ne];exact e3
 have nN:s.heap.objs.size<=g1.objs.size:=by rw[so.1];exact Nat.le_refl _
 refine⟨λb o h1 h2 _ q=>kp b o h2 ((so.2.1 b h1).trans q),λb o h1 q=>?_,λb o q=>?_,vs.setIfInBounds 1 (Value.ref g1.objs.size),g1.objs.size,e4,⟨by simp[hz],?_⟩,nN,ne⟩
 ·obtain⟨sl,q2⟩:=so.2.2 b o q
  exact⟨sl,kp b _ (λz=>nfr (z▸h1)) q2⟩
 ·by_cases hb:b=e
  ·subst hb
   exact⟨_,e4⟩
  ·obtain⟨sl,q2⟩:=so.2.2 b o q
   exact⟨_,kp b _ hb q2⟩
 ·exact⟨_,_,YW t3 rfl rfl,rfl,by simp[r3]⟩
def ZhD{base:Heap}{env:Env}{outer:List Env}{L e:Addr}{oe:Obj}{vs:Array Value}{T:Option Addr}{Q:Unit->Shared->Prop}
  (hfr:A.frames=some (env::outer)) (hl:s.heap.FunFrames base (env::outer)) (hf:env.frame=some L) (he:s.heap.get? e=some oe) (hd:oe.data = .fields vs) (tr:Tr s.heap vs T) (nT:T≠some e)
  (h:∀h',Lv (Zib (env::outer)) e T oe s.heap h'->Q () {s with heap:=h'}):wpAny M A (noteFrame (.ref e) env) (λ_ s'=>wpAny M A (setFlight (.ref e) none) Q E s') E s:=by
 unfold noteFrame;simp only[hf];cases T with
 |none=>
  have h1:vs[1]? = some .none:=tr;refine wpAny_bind (wpAny_field he hd h1 ?_);rw[if_neg (by decide)];exact Zb8 hfr hl hf he hd (Array.getElem?_eq_some_iff.mp h1).1 h
 |some t=>
  obtain⟨h1,oT,ts,ht,hdt,h3⟩:=tr;have nt:t≠e:=λz=>nT (by rw[z]);refine wpAny_bind (wpAny_field he hd h1 ?_);rw[if_pos (by simp)];refine wpAny_bind (wpAny_field ht hdt h3 ?_);rw[if_neg (by simp[rawInt])];refine wpAny_bind (wpAny_setField ht hdt (Array.getElem?_eq_some_iff.mp h3).1 ?_);have oth:∀b,b≠t->(s.heap.update t (Obj.mapFields (·.setIfInBounds 3 Value.none))).get? b=s.heap.get? b:=λb hb=>Heap.get?_update_other _ _ (Ne.symm hb)
  have tfr:t∉Zib (env::outer):=λhm=>by
   obtain⟨_,o,ho,nf⟩:=hl.mem hm;rw[ht] at ho;cases ho;exact nf ts hdt
  refine Zb8 (base:=base) hfr (hl.of_keeps λb o q nf=>⟨o,(oth b λz=>?_).trans q,rfl⟩) hf ((oth e (Ne.symm nt)).trans he) hd (Array.getElem?_eq_some_iff.mp h1).1 λh' lv=>h h' ?_
  ·rw[z,ht] at q
   cases q;exact nf ts hdt
  ·refine⟨λb o h1 h2 h3 q=>lv.keep b o h1 h2 (by simp) ((oth b λz=>h3 (by rw[z])).trans q),λb o h1 q=>lv.slot b o h1 ((oth b λz=>tfr (z▸h1)).trans q),λb o q=>?_,?_⟩
   ·by_cases hb:b=t
    ·subst hb
     exact lv.there b _ (YW ht hdt rfl)
    ·exact lv.there b o ((oth b hb).trans q)
   ·obtain⟨ws,N,a1,a2,a3,a4⟩:=lv.exc
    refine⟨ws,N,a1,a2,?_,a4⟩;rw[Heap.size_after_update] at a3;exact a3
def ZcE{e:Addr}{oe:Obj}{vs:Array Value}{T:Addr}{Q:Unit->Shared->Prop}(he:s.heap.get? e=some oe)(hd:oe.data = .fields vs)(tr:Tr s.heap vs (some T))(nT:T≠e)
  (h:∀h',(∀b o,b≠T->s.heap.get? b=some o->h'.get? b=some o)->(∃o',h'.get? T=some o')->Tr h' vs (some T)->Q () {s with heap:=h'}):wpAny M A (setFlight (.ref e) none) Q E s:=by
 obtain⟨h1,oT,ts,ht,hdt,h3⟩:=tr;have z3:3<ts.size:=(Array.getElem?_eq_some_iff.mp h3).1;unfold setFlight;refine wpAny_bind (wpAny_field he hd h1 ?_);rw[if_pos (by simp)];refine wpAny_setField ht hdt z3 (h _ (λb o hb q=>?_) ⟨_,YW ht hdt rfl⟩ ⟨h1,_,_,YW ht hdt rfl,rfl,by simp[z3]⟩);rw[Heap.get?_update_other _ _ (Ne.symm hb)];exact q
end
abbrev Zk1:List Value:=[.type "Exception",.type "BaseException",.type "object"]
structure ZdG(h:Heap)(C:Addr)(mN:Str->Option Value):Prop where
 ex:∃nm q N bs sn sub ab col dd k0 k1 k2 k3 k5,h.get? C=some (excClassObj nm q C N bs Zk1 true sn sub ab col dd k0 k1 k2 k3 k5 "Exception.__new__")/\h.Ns N mN
 sa:mN "__setattr__" = none
 pl:mN "place" = none
 ga:mN "__getattribute__" = none
 gx:mN "__getattr__" = none
def Zdj:typeLookup (.type "Exception") "place" = pure none:=by rw[typeLookup_type,builtinLookup_eq_fast];kernel_rfl
section
variable{M:Model}{A:Around}{E:Value->Shared->Prop}{s:Shared}{env:Env}
def Zhm{x:Sem Value}{Q:Flow->Shared->Prop}{C:Addr}(hh:A.handled=none)
  (h:wpAny M A x (λv s1=>∃e oe vs mN,v = .ref e/\ZdG s1.heap C mN/\s1.heap.get? e=some oe/\oe.cls = .ref C/\oe.data = .fields vs/\vs[1]? = some .none/\E (.ref e) s1) E s) :
  wpAny M A (raiseStmt env (some x) none) Q E s:=by
 unfold raiseStmt;refine wpAny_bind (wpAny_mono h (λv s1 q=>?_) λ_ _ z=>z);obtain⟨e,oe,vs,mN,rfl,xc,he,hcl,hd,h1,hE⟩:=q;obtain⟨nm,q,N,bs,sn,sub,ab,col,dd,k0,k1,k2,k3,k5,hC,hN⟩:=xc.ex;have hB:(Value.ref C::Zk1).contains (.type "BaseException")=true:=by rw[List.contains_cons];rfl
 obtain⟨hp,g,d,tk,os⟩:=s1;repeat (first|(with_reducible refine wpAny_loadPart_at he ?_;rw[hcl])|with_reducible refine wpAny_loadPart_at hC ?_|(with_reducible refine wpAny_isSubtype_exc hC ?_;rw[hB])|with_reducible refine wpAny_field he hd h1 ?_|wp_step)
 exact wpAny_raiseNew_none hh hE
def Zbl{x:Expr}{pos:Pos}{Q:Flow->Shared->Prop}{C:Addr}(hh:A.handled=none)
  (h:wpAny M A (eval x env) (λv s1=>∃e oe vs mN,v = .ref e/\ZdG s1.heap C mN/\s1.heap.get? e=some oe/\oe.cls = .ref C/\oe.data = .fields vs/\vs[1]? = some .none/\E (.ref e) s1) E s) :
  wpAny M A (exec (.Raise (some x) none pos) env) Q E s:=by
 rw[arm_exec_Raise];show wpAny M A (do standAt pos;raiseStmt env (some (do let v <- eval x env;standAt pos;pure v)) none) Q E s;exact wpAny_bind (wpAny_standAt (Zhm hh (wpAny_bind (wpAny_mono h (λv s1 q=>wpAny_bind (wpAny_standAt (wpAny_pure q))) λ_ _ z=>z))))
end
section
variable{prog:Program}{w:World}{A:Around}{E:Value->Shared->Prop}{h:Heap}{g:Array GenState}{d:Drawn}{t:Nat}{os:OsState}{a:Addr}{o:Obj}{C:Addr}{mN mA:Str->Option Value}{v:Value}
def ZdP{tk:Tok}{Q:Fin->Shared->Prop}(xc:ZdG h C mN)(I:h.Inst a C mA)(hv:mA "place" = some v)(hq:Q (.done (.ret v)) ⟨h,g,d,t,os⟩) :
  wpAny (model prog w) A (Builtin.«object.__getattribute__» ⟨[.ref a,.str "place" tk],[]⟩) Q E ⟨h,g,d,t,os⟩:=by
 obtain⟨nm,q,N,bs,sn,sub,ab,col,dd,k0,k1,k2,k3,k5,hC,hN⟩:=xc.ex;obtain⟨o,hx,hc,hnc,hd⟩:=I;rcases hd with⟨_,hz⟩|⟨dx,hdx,hne,hns⟩
 ·rw[hz] at hv
  cases hv
 have hp:=xc.pl;unfold Builtin.«object.__getattribute__»;repeat (first|(with_reducible refine wpAny_loadPart_at hx ?_;rw[hc])|(with_reducible refine wpAny_typeLookup_exc hC hN F.excBase_Exception.mroIs Zdj ?_;rw[hp])|wp_step)
 split
 ·rename_i c hcd
  exact absurd hcd (hnc c)
 unfold instanceDict;repeat (first|(with_reducible refine wpAny_loadPart_at hx ?_;rw[hc])|with_reducible refine wpAny_loadPart_at hC ?_|wp_step)
 rw[hdx];repeat (first|(with_reducible refine wpAny_nsGet hns.ns ?_;rw[hv])|wp_step)
 exact hq
def ZiF{nameV:Value}{Q:Unit->Shared->Prop}(xc:ZdG h C mN)(hx:h.get? a=some o)(hc:o.cls = .ref C)(hq:Q () ⟨h,g,d,t,os⟩) :
  wpAny (model prog w) A (checkBuiltinCall "BaseException.__getattribute__" ⟨[.ref a,nameV],[]⟩) Q E ⟨h,g,d,t,os⟩:=by
 obtain⟨nm,q,N,bs,sn,sub,ab,col,dd,k0,k1,k2,k3,k5,hC,hN⟩:=xc.ex;have h1:builtinKind "BaseException.__getattribute__" = some .slot:=by decide +kernel
 have h2:splitId "BaseException.__getattribute__" = some ("BaseException", "__getattribute__"):=by decide +kernel
 have hB:(Value.ref C::Zk1).contains (.type "BaseException")=true:=by rw[List.contains_cons];rfl
 have ha:=F.args_bexc_ga (.ref a) nameV;simp only[checkBuiltinCall,h1,h2];refine wpAny_bind ?_;unfold isInstance;repeat (first|(with_reducible refine wpAny_loadPart_at hx ?_;rw[hc])|(with_reducible refine wpAny_isSubtype_exc hC ?_;rw[hB])|wp_step)
 exact hq
def Zfu{expr:Bool}{Q:Value->Shared->Prop}{n:Int}{tn:Tok}(xc:ZdG h C mN)(I:h.Inst a C mA)(hv:mA "place" = some (.int n tn))(hq:Q (.int n tn) ⟨h,g,d,t+1,os⟩) :
  wpAny (model prog w) A (getAttr (.ref a) "place" expr) Q E ⟨h,g,d,t,os⟩:=by
 obtain⟨nm,q,N,bs,sn,sub,ab,col,dd,k0,k1,k2,k3,k5,hC,hN⟩:=xc.ex;obtain⟨o,hx,hc,_⟩:=id I;have f3:=F.attrBase_Exception.ga.bind (.ref a);have x0:(expr&&onTheHeap (Value.builtin "BaseException.__getattribute__"))=false:=by cases expr<;>rfl
 have x2:(Value.builtin "BaseException.__getattribute__" == Value.builtin "object.__getattribute__")=false:=by decide +kernel
 have x1:(onTheHeap (Value.ref C)&&Value.builtin "BaseException.__getattribute__" == Value.builtin "object.__getattribute__")=false:=by rw[x2];rfl
 have y1:=xc.ga;have y2:=xc.gx;unfold getAttr getAttrBy;repeat (any_goals (first|assumption|(with_reducible refine wpAny_loadPart_at hx ?_;rw[hc])|(with_reducible refine wpAny_typeLookup_exc hC hN F.excBase_Exception.mroIs F.attrBase_Exception.ga.lookup ?_;rw[y1])|(with_reducible refine wpAny_typeLookup_exc hC hN F.excBase_Exception.mroIs F.attrBase_Exception.noGetattr ?_;rw[y2])|wp_step))
 refine codeAny_call_builtin F.attrBase_Exception.ga.plain F.entry_bexc_ga (ZiF xc hx hc (ZdP xc I hv ?_));repeat (any_goals (first|assumption|wp_step))
end
open PySem Builtin Builtin.ObjectAttr
section
variable{prog:Program}{w:World}{A:Around}{E:Value->Shared->Prop}{h:Heap}{g:Array GenState}{d:Drawn}{t:Nat}{os:OsState}{x C:Addr}{mN:Str->Option Value}{v:Value}{fs:Array Value}{o:Obj}
def Zc5{tk:Tok}{Q:Fin->Shared->Prop}(xc:ZdG h C mN)(hx:h.get? x=some o)(hc:o.cls = .ref C)(hdn:o.dict=none)(hd:o.data = .fields fs)
  (hq:∀h' tk',(∀b q,b≠x->h.get? b=some q->h'.get? b=some q)->h'.get? x=some {o with dict:=some h.objs.size} ->
   h'.Ns1 h.objs.size (λy=>if y = "place" then some v else none)->Q (.done (.ret .none)) ⟨h',g,d,tk',os⟩) :
  wpAny (model prog w) A (Builtin.«object.__setattr__» ⟨[.ref x,.str "place" tk,v],[]⟩) Q E ⟨h,g,d,t,os⟩:=by
 obtain⟨nm,q,N,bs,sn,sub,ab,col,dd,k0,k1,k2,k3,k5,hC,hN⟩:=xc.ex;have hps:=F.store_Exception.passes (.ref x);have hp:=xc.pl;unfold Builtin.«object.__setattr__»;repeat (first|rw[refuse_eq]|rw[refuseLoop_ref,hps]|(with_reducible refine wpAny_loadPart_at hx ?_;rw[hc])|with_reducible refine wpAny_mroOf_exc hC ?_|(with_reducible refine wpAny_typeLookup_exc hC hN F.excBase_Exception.mroIs Zdj ?_;rw[hp])|wp_step)
 rw[hdn,if_neg (by simp[typeHasDict])];split
 ·rename_i y
  cases y
 split
 ·rename_i y
  rw[hd] at y;cases y
 have g1:(h.push {cls:=.type "dict",data:=.dict #[]}).get? x=some o:=Heap.get?_push_of_some _ hx;have nx:x≠h.objs.size:=Nat.ne_of_lt (Heap.lt_size hx);refine wpAny_bind (wpAny_alloc' ?_);refine wpAny_bind (wpAny_update' g1 ?_);refine wpAny_pure ?_;have gd:((h.push {cls:=.type "dict",data:=.dict #[]}).update x λo=>{o with dict:=some h.objs.size}).get? h.objs.size=some {cls:=.type "dict",data:=.dict #[]}:=by
  rw[Heap.get?_update_ne _ _ _ _ nx.symm];exact Heap.get?_push_at rfl rfl
 have nd:((h.push {cls:=.type "dict",data:=.dict #[]}).update x λo=>{o with dict:=some h.objs.size}).Ns h.objs.size (λ_=>none):=⟨_,#[],_,gd,rfl,λe he=>absurd he (by simp),λ_=>rfl⟩;show wpAny _ _ (storeInDict h.objs.size (.str "place" tk) "place" v) _ _ _;unfold storeInDict newKeyGuard;refine wpAny_bind (wpAny_pure (wpAny_bind (wpAny_nsSet1 (Heap.Ns1.of_empty nd) λh' hn' hs=>?_)));obtain⟨oD,esD,epD,hoD,hdD,hcD⟩:=hn'.count (Within.cons "place" v Within.nil);refine wpAny_bind (wpAny_lookBehind hoD (by rw[hdD];exact pastItsLine_dict (Nat.le_trans hcD (by rw[length_cons,List.length_nil,sizeLine_eq];omega))) ?_)
 wp_walk
 refine hq h' _ (λb q hb r=>?_) ?_ hn'
 ·exact(hs.2 b (Nat.ne_of_lt (Heap.lt_size r))).trans ((Heap.get?_update_ne _ _ _ _ hb).trans (Heap.get?_push_of_some _ r))
 ·refine(hs.2 x nx).trans (Heap.get?_update_self _ g1 ?_)
  obtain⟨c,dd',dt,sl⟩:=o;obtain rfl:dt = .fields fs:=hd;rfl
def Zla{Q:Unit->Shared->Prop}(xc:ZdG h C mN)(hx:h.get? x=some o)(hc:o.cls = .ref C)(hdn:o.dict=none)(hd:o.data = .fields fs)
  (hq:∀h' tk',(∀b q,b≠x->h.get? b=some q->h'.get? b=some q)->h'.get? x=some {o with dict:=some h.objs.size} ->
   h'.Ns1 h.objs.size (λy=>if y = "place" then some v else none)->Q () ⟨h',g,d,tk',os⟩) :
  wpAny (model prog w) A (setAttr (.ref x) "place" v) Q E ⟨h,g,d,t,os⟩:=by
 obtain⟨nm,q,N,bs,sn,sub,ab,col,dd,k0,k1,k2,k3,k5,hC,hN⟩:=xc.ex;have f3:=F.store_Exception.slot.bind (.ref x);have hsa:=xc.sa;unfold setAttr callSpecial? specialOf;repeat (first|(with_reducible refine wpAny_loadPart_at hx ?_;rw[hc])|(with_reducible refine wpAny_typeLookup_exc hC hN F.excBase_Exception.mroIs F.store_Exception.slot.lookup ?_;rw[hsa])|wp_step)
 refine codeAny_call_builtin F.store_Exception.slot.plain F.store_Exception.entry ?_;simp only[List.singleton_append];have SF:=F.store_Exception;with_reducible refine wpAny_check_sa SF hC hx hc ?_;with_reducible refine Zc5 xc hx hc hdn hd λh' tk' a1 a2 a3=>?_;repeat wp_step
 exact hq h' tk' a1 a2 a3
end
end XC
namespace LX
open PySem PySem.Spec PyProof.Rows L2 XC
def Zj4(h0 h:Heap)(H:Hp)(dd:Option Addr):Option Addr->Prop
 |none=>True
 |some n=>∃(d:Addr) (t:Tok),dd=some d/\h0.get? d=none/\H d=none/\h.Ns1 d (λy=>if y = "place" then some (Value.int (n:Nat) t) else none)
structure Fly(h0 h:Heap)(H:Hp)(e C:Addr)(z T:Option Addr):Prop where
 new:h0.get? e=none
 free:H e=none
 tr:∀t,T=some t->h0.get? t=none/\H t=none/\t≠e
 rcd:∃oe vs,h.get? e=some oe/\oe.cls = .ref C/\oe.data = .fields vs/\Tr h vs T/\Zj4 h0 h H oe.dict z
def CXF(P:Program)(w:World):CXT:=λouter H s E err s'=>∃(e C:Addr) (z:Option Addr) (T:Addr) (H':Hp),err = .ref e/\Fly s.heap s'.heap H' e C z (some T)/\s'.os=s.os/\AllBare s'.gens /\
 Un (frs outer) [] H H' s.heap s'.heap/\HOk P w H' s'.heap/\E (.ref C) z H'
theorem ZfM{h h' base:Heap}:∀{l:List Env},h.FunFrames base l->(∀b∈frs l,∀o,h.get? b=some o->∃sl,h'.get? b=some {o with slots:=sl})->h'.FunFrames base l
 | [],_,_=>trivial
 |env::r,hl,k=>by
  obtain⟨hk,⟨L,o,hf,hn,ho,hd⟩,hr⟩:=hl;have hL:L∈frs (env::r):=by
   unfold frs;rw[filterMap_cons,hf];exact mem_cons_self
  obtain⟨sl,e⟩:=k L hL o ho;refine⟨hk,⟨L,_,hf,hn,e,hd⟩,ZfM hr λb hb=>k b ?_⟩;unfold frs;rw[filterMap_cons,hf];exact mem_cons_of_mem _ hb
section
variable{X:Cx}{pins:List (Addr×Obj)}{σ:L2.St}{H H':Hp}{s s':Shared}{h1 h2:Heap}{e C:Addr}{z T:Option Addr}{oe:Obj}
def Zcb(I:Inv X pins σ H s){b:Addr}(hb:b∈frs X.stack):∃o,s.heap.get? b=some o/\∀vs,o.data ≠ .fields vs:=by
 obtain⟨_,o,ho,q⟩:=I.stack.mem hb;exact⟨o,ho,q⟩
def Znz(I:Inv X pins σ H s)(u:Un (frs X.stack) [] H H' s.heap h1)(ok1:HOk X.prog X.w H' h1)(fly:Fly s.heap h1 H' e C z T)(he:h1.get? e=some oe)(lv:Lv (Zib X.stack) e T oe h1 h2) :
  Un (frs X.stack) [] H H' s.heap h2/\HOk X.prog X.w H' h2/\∃N,Fly s.heap h2 H' e C z (some N):=by
 have frN:∀b,b∈frs X.stack->H' b=none:=λb hb=>by
  obtain⟨o,ho,_⟩:=Zcb I hb;exact u.free b o ho (I.stkFree b hb) (by simp)
 have nT:∀b o,s.heap.get? b=some o->some b≠T:=λb o q z=>by
  have:=(fly.tr b z.symm).1;rw[q] at this;cases this
 have ne:∀b o,s.heap.get? b=some o->b≠e:=λb o q z=>by
  have:=fly.new;rw[<- z,q] at this;cases this
 refine⟨⟨λb o q n hb _=>?_,λb o q n hb _=>?_,u.free,λb o q hx=>?_,u.tups,u.frzs,u.tbls⟩,λb ob q=>?_,?_⟩
 ·exact lv.keep b o hb (ne b o q) (nT b o q) (u.keep b o q n hb (by simp))
 ·obtain⟨sl,q1⟩:=u.slot b o q n hb (by simp)
  obtain⟨sl',q2⟩:=lv.slot b _ hb q1;exact⟨sl',q2⟩
 ·obtain⟨o',q1⟩:=u.there b o q hx
  exact lv.there b o' q1
 ·refine(ok1 b ob q).stay (λc v hc r=>?_) (λ_ r=>r) λ_ _ r=>r
  have hcs:H' c≠none:=by
   rcases hc with rfl|hc
   ·rw[q]
    simp
   ·rw[hc]
    simp
  exact lv.keep c v (λhm=>hcs (frN c hm)) (λz=>hcs (by rw[z];exact fly.free)) (λz=>hcs (fly.tr c z.symm).2.1) r
 ·obtain⟨ws,N,a1,a2,a3,a4⟩:=lv.exc
  obtain⟨oe',vs,b1,b2,b3,b4,b5⟩:=fly.rcd;rw[he] at b1;cases b1;have hN:s.heap.get? N=none:=by
   cases q:s.heap.get? N with
   |none=>rfl
   |some o=>
    obtain⟨o',q1⟩:=u.there N o q (by simp);exact absurd (Heap.lt_size q1) (Nat.not_lt.mpr a3)
  refine⟨N,fly.new,fly.free,λt ht=>?_,_,ws,a1,b2,rfl,a2,?_⟩
  ·cases ht
   exact⟨hN,ok1.fresh a3,a4⟩
  ·cases z with
   |none=>trivial
   |some n=>
    obtain⟨d,t,c1,c2,c3,c4⟩:=b5;refine⟨d,t,c1,c2,c3,c4.at λo q=>?_⟩;obtain⟨od,es,ep,g1,g2,_⟩:=c4;rw[g1] at q;cases q;refine lv.keep d _ (λhm=>?_) (λy=>?_) (λy=>?_) g1
    ·obtain⟨o,ho,_⟩:=Zcb I hm
     rw[c2] at ho;cases ho
    ·rw[y,he] at g1
     cases g1;rw[b3] at g2;cases g2
    ·cases T with
     |none=>cases y
     |some t'=>
      cases y;obtain⟨_,oT,ts,q1,q2,_⟩:=b4;rw[g1] at q1;cases q1;rw[g2] at q2;cases q2
def ZcN{E':Value->Shared->Prop}{Q:Unit->Shared->Prop}(hs:X.stack=X.env::X.outer)(hf:X.env.frame=some X.env.locals)(I:Inv X pins σ H s)(u:Un (frs X.stack) [] H H' s.heap s'.heap)(ok1:HOk X.prog X.w H' s'.heap)
  (fly:Fly s.heap s'.heap H' e C z T) (h:∀h2 N,Un (frs X.stack) [] H H' s.heap h2->HOk X.prog X.w H' h2->Fly s.heap h2 H' e C z (some N)->Q () {s' with heap:=h2}) :
  wpAny (model X.prog X.w) X.A (noteFrame (.ref e) X.env) (λ_ s1=>wpAny (model X.prog X.w) X.A (setFlight (.ref e) none) Q E' s1) E' s':=by
 obtain⟨oe,vs,b1,b2,b3,b4,b5⟩:=fly.rcd;have hl:s'.heap.FunFrames X.base (X.env::X.outer):=by
  have:=I.stack;rw[hs] at this;refine ZfM this λb hb o q=>?_;rw[<- hs] at hb;exact u.slot b o q (I.stkFree b hb) hb (by simp)
 refine ZhD (by rw[<- hs];exact I.ok.frames) hl hf b1 b3 b4 (λq=>(fly.tr e q).2.2 rfl) λh2 lv=>?_;rw[<- hs] at lv;obtain⟨q1,q2,N,q3⟩:=Znz I u ok1 fly b1 lv;exact h h2 N q1 q2 q3
def Zdl{E:XK}{E':Value->Shared->Prop}(hs:X.stack=X.env::X.outer)(hf:X.env.frame=some X.env.locals)(hx:X.ex=[])(I:Inv X pins σ H s)(u:Un (frs X.stack) [] H H' s.heap s'.heap)(ok1:HOk X.prog X.w H' s'.heap)
  (os:s'.os=s.os) (bare:AllBare s'.gens) (fly:Fly s.heap s'.heap H' e C z T) (hE:E (.ref C) z H') :
  wpAny (model X.prog X.w) X.A (leaving X.env (.ref e)) (λ_ s2=>CXF X.prog X.w X.outer X.H_0 X.s_0 E (.ref e) s2) E' s':=by
 refine wpAny_bind (ZcN hs hf I u ok1 fly λh2 N u2 ok2 fly2=>?_);have nx:∀b,b∉X.ex:=λb hb=>by rw[hx] at hb;simp at hb
 have up:∀b o,X.s_0.heap.get? b=some o->∃o',s.heap.get? b=some o':=λb o q=>I.base.there b o q (nx b);have nn:∀b,s.heap.get? b=none->X.s_0.heap.get? b=none:=λb q=>by
  cases y:X.s_0.heap.get? b with
  |none=>rfl
  |some o=>
   obtain⟨o',q1⟩:=up b o y;rw[q] at q1;cases q1
 have nst:∀b o,X.s_0.heap.get? b=some o->b∉X.fs->b∉frs X.stack:=λb o q hb hm=>by
  rcases mem_cons.mp (I.stkSub b hm) with y|y
  ·exact absurd (Heap.lt_size q) (by rw[y];exact Nat.not_lt.mpr I.ok.above)
  ·exact hb y
 refine⟨e,C,z,N,H',rfl,⟨nn e fly2.new,fly2.free,λt ht=>?_,?_⟩,os.trans I.os,bare,⟨λb o q n hb _=>?_,λb o q n hb _=>?_,λb o q n _=>?_,λb o q _=>?_,λb xs q=>u2.tups b xs (I.base.tups b xs q),λb o v q=>u2.frzs b o v (I.base.frzs b o v q),λb ps q=>?_⟩,ok2,hE⟩
 ·obtain⟨g1,g2,g3⟩:=fly2.tr t ht
  exact⟨nn t g1,g2,g3⟩
 ·obtain⟨oe,vs,b1,b2,b3,b4,b5⟩:=fly2.rcd
  refine⟨oe,vs,b1,b2,b3,b4,?_⟩;cases z with
  |none=>trivial
  |some n=>
   obtain⟨d,t,c1,c2,c3,c4⟩:=b5;exact⟨d,t,c1,nn d c2,c3,c4⟩
 ·exact u2.keep b o (I.base.keep b o q n hb (nx b)) (I.base.free b o q n (nx b)) (nst b o q hb) (by simp)
 ·obtain⟨sl,q1⟩:=I.base.slot b o q n hb (nx b)
  obtain⟨sl',q2⟩:=u2.any q1 (I.base.free b o q n (nx b)) (by simp);exact⟨sl',q2⟩
 ·obtain⟨o',q1⟩:=up b o q
  exact u2.free b o' q1 (I.base.free b o q n (nx b)) (by simp)
 ·obtain⟨o',q1⟩:=up b o q
  exact u2.there b o' q1 (by simp)
 ·obtain⟨m1,q1⟩:=I.base.tbls b ps q
  obtain⟨m2,q2⟩:=u2.tbls b _ q1;exact⟨m1++m2,by rw[q2,Array.append_assoc]⟩
end
section
variable{P:Program}{w:World}{K:Frag}{mg:Str->Option Value}{base:Heap}
def ZH{N:List Str}{qual:Str}{scope:Scope}{f:Addr}{cd:Value}{A:Around}{outer:List Env}{s:Shared}{H:Hp}{E:XK} :
  Yi (CXF P w) (cxOf (CXF P w) P w K mg base N qual scope f cd A outer s H E) E:=by
 intro pins σ H1 s1 err s' I hc;obtain⟨e,C,z,T,H',rfl,fly,os,bare,u,ok,hE⟩:=hc;exact Zdl (X:=cxOf (CXF P w) P w K mg base N qual scope f cd A outer s H E) rfl rfl rfl I u ok os bare fly hE
def okX{x qual:Str}{st:Stmt}{f:Addr}{fd:FuncData}{N ps:List Str}{k:Nat}{sp:Sp}(F:Fun K x qual st f fd)(S:Zl N ps (Ze st))(len:∀vs H Q E,sp vs H Q E->vs.length=ps.length)
  (hbody:∀(cdv:Value) (A:Around) (outer:List Env) (s:Shared) (H:Hp) (vs:List V) (Q:VK) (E:XK),Room k (A.deeper (envOfC qual (Ze st) s.heap.objs.size f cdv))->sp vs H Q E ->
   ∃t,PSs (cxOf (CXF P w) P w K mg base N qual (Ze st) f cdv A outer s H E) (ZV st) t/\t {nx:=λ_ H'=>Q .non H',rt:=Q} (start N vs) H):YX P w K mg base (CXF P w) (k+1) f fd ps sp:=by
 obtain⟨oc,od,kV,doc,pm,an,cdv,ct,osl,rfl,lk,hcd⟩:=F.ex;exact Zkt lk hcd S len λA outer s H vs Q E hr hsp=>hbody cdv A outer s H vs Q E hr hsp
def Zcv{N:List Str}{qual:Str}{scope:Scope}{f:Addr}{cd:Value}{A:Around}{outer:List Env}{s:Shared}{H:Hp}{E:XK} :
  PassesOwn (model P w) (cxOf (CXF P w) P w K mg base N qual scope f cd A outer s H E).A (cxOf (CXF P w) P w K mg base N qual scope f cd A outer s H E).env (cxOf (CXF P w) P w K mg base N qual scope f cd A outer s H E).xe:=PassesOwn.leaving
end
def ZfZ(v:Value):Bool:=match v with
 |.str _ _=>true
 |_=>false
def YT(K:Frag)(C:Addr)(init:Option Value):Bool:=match K.lookup C with
 |some ⟨.type "type",_,.cls cd,sl⟩=>(match cd.mro,sl.toList with
  | [.ref C',.type "Exception",.type "BaseException",.type "object"],[_,_,_,_,some (.builtin "Exception.__new__"),_]=>C'==C && !cd.hasDel&&cd.hasDict&&(match K.lookup cd.ns with
    |some ⟨_,_,.dict es _,_⟩=>es.toList.all (λe=>ZfZ e.key)&&nsFind es "__init__" == init&&nsFind es "__setattr__" == none&&nsFind es "place" == none&&nsFind es "__getattribute__" == none&&nsFind es "__getattr__" == none
    |_=>false)
  |_,_=>false)
 |_=>false
def Uy{K:Frag}{h:Heap}{C:Addr}{init:Option Value}(X:K.In h)(q:YT K C init=true):∃mN,ZdG h C mN/\mN "__init__" = init:=by
 unfold YT at q;split at q
 ·rename_i dd cd sl ho
  split at q
  ·rename_i C' k0 k1 k2 k3 k5 hm hs
   rw[Bool.and_eq_true,Bool.and_eq_true,Bool.and_eq_true] at q;obtain⟨⟨⟨q1,q2⟩,q3⟩,q4⟩:=q;split at q4
   ·rename_i oc od es ep sl2 hN
    simp only[Bool.and_eq_true,beq_iff_eq] at q4;obtain⟨⟨⟨⟨⟨r1,r2⟩,r3⟩,r4⟩,r5⟩,r6⟩:=q4;have e1:C'=C:=eq_of_beq q1;subst e1;obtain⟨nm,bs,mro,ns,qn,hd,sn,sub,ab,col,del⟩:=cd;dsimp only at hm q2 q3 hN;have e2:del=false:=by simpa using q2
    subst hm e2 q3;have e3:sl = #[k0,k1,k2,k3,some (.builtin "Exception.__new__"),k5]:=by
     obtain⟨l⟩:=sl;simp only at hs;rw[hs]
    subst e3;refine⟨nsFind es,⟨⟨nm,qn,ns,bs,sn,sub,ab,col,dd,k0,k1,k2,k3,k5,X _ _ ho,⟨_,es,ep,X _ _ hN,rfl,λe he=>?_,λ_=>rfl⟩⟩,r3,r4,r5,r6⟩,r2⟩;have:=all_eq_true.mp r1 e (Array.mem_toList_iff.mpr he);unfold ZfZ at this;split at this
    ·rename_i n t hk
     exact⟨n,t,hk⟩
    ·cases this
   ·cases q4
  ·cases q
 ·cases q
def ZjI{P:Program}{w:World}{H:Hp}{h:Heap}{a:Addr}{o:HO}(x:Jc P w H h a o):∃ob,h.get? a=some ob:=by
 cases o with
 |lst xs=>obtain⟨_,_,_,_,e⟩:=x;exact⟨_,e⟩
 |tup xs=>obtain⟨_,_,_,ob,e,_⟩:=x;exact⟨_,e⟩
 |dK kvs=>obtain⟨_,_,_,_,o,_,_,e,_⟩:=x;exact⟨_,e⟩
 |dT kvs=>obtain⟨_,_,_,_,o,_,_,e,_⟩:=x;exact⟨_,e⟩
 |set S n=>obtain⟨o,_,_,_,e,_⟩:=x;exact⟨_,e⟩
 |ins C dx fs=>obtain⟨_,_,_,e,_⟩:=x;exact⟨_,e⟩
 |own y=>obtain⟨_,e⟩:=x;exact⟨_,e⟩
 |xd fs=>obtain⟨_,⟨_,_,_,e,_⟩,_⟩:=x;exact⟨_,e⟩
 |rng lo hi=>obtain⟨_,_,_,e⟩:=x;exact⟨_,e⟩
 |frz ob u=>obtain⟨e,_⟩:=x;exact⟨_,e⟩
 |tbl ps=>exact⟨_,x⟩
 |met f y=>exact⟨_,x⟩
 |ext φ=>obtain⟨_,⟨_,e⟩,_⟩:=x;exact⟨_,e⟩
def ZbI{P:Program}{w:World}{H:Hp}{h:Heap}{a:Addr}(ok:HOk P w H h)(n:h.get? a=none):H a=none:=by
 cases q:H a with
 |none=>rfl
 |some o=>
  obtain⟨ob,e⟩:=ZjI (ok a o q);rw[n] at e;cases e
abbrev ZaB(t:Addr):Array Value:=#[.ref t,.none,.none,.none,.bool false,.none]
def Zbs(e C t:Addr):Heap->Prop:=λh=>h.get? e=some {cls:=.ref C,data:=.fields (ZaB t)}
def Zj6(e C t d:Addr):Heap->Prop:=λh=>h.get? e=some {cls:=.ref C,dict:=some d,data:=.fields (ZaB t)}
inductive ZhE(C:Addr):List V->Hp->VK->XK->Prop|mk {vs H Q E} (e t:Addr) (n:Int):vs=[.ref e,.int n]->H e=some (.ext (Zbs e C t))->(∀(H':Hp) (d:Addr),H' e=some (.ext (Zj6 e C t d))->H' d=some (.xd [("place",.int n)])->H d=none->d≠e->(∀b o,H b=some o->b≠e->H' b=some o)->Q .non H')->ZhE C vs H Q E
section
variable{X:Cx}{pins:List (Addr×Obj)}{σ:L2.St}{H H':Hp}{s s':Shared}{e C:Addr}{ta tv:TE}{o value:Expr}{pos pos':Pos}
def Zmz(C:Addr)(ta tv:TE):TS:=λD σ H=>tv σ H λy H1=>ta σ H1 λx H2=>∃(e t:Addr) (n:Int),x = .ref e/\y = .int n/\H2 e=some (.ext (Zbs e C t)) /\
 ∀d,H2 d=none->d≠e->D.nx σ (upd (upd H2 d (.xd [("place",.int n)])) e (.ext (Zj6 e C t d)))
def ZjE{init:Option Value}(q:YT X.K C init=true)(ha:PE X o ta)(hv:PE X value tv)(hs:swapsWith value (some (.Attribute o "place" pos')) pos.line X.env=pure false) :
  PS X (.Assign [.Attribute o "place" pos'] value pos) (Zmz C ta tv):=by
 intro pins s σ H D I h;refine plainObj_wpAny_Assign_Attribute (thn (hv pins s σ H _ I h) λu s1 ⟨y,H1,I1,ry,q1⟩=>thn (ha pins s1 σ H1 _ I1 q1) λov s2 ⟨x,H2,I2,rx,e,t,n,ex,ey,he,q2⟩=>?_) hs;subst ex ey;obtain rfl:ov=Value.ref e:=rx;obtain⟨tn,rfl⟩:=ry;obtain⟨mN,xc,_⟩:=Uy I2.kIn q;obtain⟨hx,_,_⟩:=I2.hok e _ he;have hx:s2.heap.get? e=some {cls:=.ref C,data:=.fields (ZaB t)}:=hx;have nd:H2 s2.heap.objs.size=none:=I2.hok.fresh (Nat.le_refl _);have ne:s2.heap.objs.size≠e:=λz=>by rw[z,he] at nd;cases nd
 obtain⟨hp,g,dr,tk,os⟩:=s2;refine Zla xc hx rfl rfl rfl λh' tk' k1 k2 k3=>?_;have k2:h'.get? e=some {cls:=.ref C,dict:=some hp.objs.size,data:=.fields (ZaB t)}:=k2;obtain⟨od,es,ep,hod,_⟩:=id k3;refine⟨σ,_,?_,q2 hp.objs.size nd ne⟩;have mu:Mut (H2 e):=by rw[he];trivial
 have hok:HOk X.prog X.w (upd (upd H2 hp.objs.size (.xd [("place",.int n)])) e (.ext (Zj6 e C t hp.objs.size))) h':=λb ob r=>by
  by_cases hb:b=e
  ·subst hb
   rw[Zb] at r;cases r;exact⟨k2,⟨_,k2⟩,λa1 a2 r1 r2=>r2 _ r1⟩
  ·rw[Zj hb] at r
   by_cases hb2:b=hp.objs.size
   ·subst hb2
    rw[Zb] at r;cases r;refine⟨_,k3,λf=>?_⟩;show Vl (List.lookup f [("place",V.int n)]) (if f = "place" then some (Value.int n tn) else none);by_cases hf:f = "place"
    ·subst hf
     rw[if_pos rfl];have:List.lookup ("place" : Str) [("place",V.int n)]=some (V.int n):=by simp[List.lookup]
     rw[this];exact⟨tn,rfl⟩
    ·rw[if_neg hf]
     have:List.lookup f [(("place" : Str),V.int n)]=none:=by
      unfold List.lookup;rw[show(f==("place" : Str))=false from beq_eq_false_iff_ne.mpr hf];rfl
     rw[this];trivial
   ·rw[Zj hb2] at r
    refine(I2.hok b ob r).stay (λc v hc y=>k1 c v ?_ y) (λc y=>?_) λc xs y=>?_
    ·rintro rfl
     rcases hc with rfl|hc
     ·exact hb rfl
     ·rw[he] at hc
      cases hc
    ·rw[Zj (λz=>by rw[z,he] at y;cases y),Zj (λz=>by rw[z,nd] at y;cases y)]
     exact y
    ·rw[Zj (λz=>by rw[z,he] at y;cases y),Zj (λz=>by rw[z,nd] at y;cases y)]
     exact y
 refine I2.un (t':=tk') ⟨λb ob y n0 _ _=>k1 b ob (λz=>by rw[z,he] at n0;cases n0) y,λb ob y n0 _ _=>⟨ob.slots,k1 b ob (λz=>by rw[z,he] at n0;cases n0) y⟩,λb ob y n0 _=>?_,λb ob y _=>?_,λb xs y=>?_,λb ob xs y=>?_,λb _ y=>?_⟩ hok
 ·rw[Zj (λz=>by rw[z,he] at n0;cases n0),Zj (Nat.ne_of_lt (Heap.lt_size y))]
  exact n0
 ·by_cases hb:b=e
  ·subst hb
   exact⟨_,k2⟩
  ·exact⟨ob,k1 b ob hb y⟩
 ·rw[Zj (λz=>by rw[z,he] at y;cases y),Zj (λz=>by rw[z,nd] at y;cases y)]
  exact y
 ·rw[Zj (λz=>by rw[z,he] at y;cases y),Zj (λz=>by rw[z,nd] at y;cases y)]
  exact y
 ·rw[Zj (λz=>by rw[z,he] at y;cases y),Zj (λz=>by rw[z,nd] at y;cases y),y]
  exact⟨#[],by simp⟩
end
section
variable{X:Cx}{pins:List (Addr×Obj)}{σ:L2.St}{H H':Hp}{s s':Shared}{e C:Addr}
structure ZnN(X:Cx)(s:Shared)(H:Hp)(e C:Addr)(z:Option Addr)(H':Hp)(s':Shared):Prop where
 un:Un (frs X.stack) [] H H' s.heap s'.heap
 ok:HOk X.prog X.w H' s'.heap
 os:s'.os=s.os
 bare:AllBare s'.gens
 fly:Fly s.heap s'.heap H' e C z none
def ZmH{E:Value->Shared->Prop}{Q:Value->Shared->Prop}(I:Inv X pins σ H s)(q:YT X.K C none=true)(h:∀e s',ZnN X s H e C none H s'->Q (.ref e) s') :
  wpAny (model X.prog X.w) X.A (call (.ref C) []) Q E s:=by
 obtain⟨mN,xc,hi⟩:=Uy I.kIn q;obtain⟨nm,qn,N,bs,sn,sub,ab,col,dd,k0,k1,k2,k3,k5,hC,hN⟩:=xc.ex;have bare:=I.bare;have hok:=I.hok;obtain⟨hp,g,dr,tk,os⟩:=s;refine wpAny_call_exc_sub F.excBase_Exception hC hN hi (λ_ e hm=>h e _ ?_) (Nat.zero_le _);obtain⟨t,ht,_,_⟩:=hm.there;exact⟨Un.kept hm.keeps,hok.kept hm.keeps,rfl,bare,⟨hm.new,ZbI hok hm.new,(λ_ z=>nomatch z),⟨_,_,ht,rfl,rfl,rfl,trivial⟩⟩⟩
def forget(H:Hp)(a b:Addr):Hp:=λc=>if c=a\/c=b then none else H c
def Yj{H:Hp}{a b c:Addr}(h1:c≠a)(h2:c≠b):forget H a b c=H c:=by
 unfold forget;rw[if_neg];rintro(z|z)
 ·exact h1 z
 ·exact h2 z
def ZeH{H:Hp}{a b c:Addr}{o:HO}(h:forget H a b c=some o):H c=some o/\c≠a/\c≠b:=by
 unfold forget at h;by_cases q:c=a\/c=b
 ·rw[if_pos q] at h
  cases h
 ·rw[if_neg q] at h
  exact⟨h,λz=>q (.inl z),λz=>q (.inr z)⟩
theorem HOk.forget{P:Program}{w:World}{H:Hp}{h:Heap}{a b:Addr}{φ:Heap->Prop}{fs:List (Str×V)}(ok:HOk P w H h)(ha:H a=some (.ext φ))(hb:H b=some (.xd fs)):HOk P w (forget H a b) h:=λc o q=>by
 obtain⟨q1,q2,q3⟩:=ZeH q;refine(ok c o q1).stay (λ_ _ _ r=>r) (λy r=>?_) λy _ r=>?_
 ·rw[Yj (λz=>by rw[z,ha] at r;cases r) (λz=>by rw[z,hb] at r;cases r)]
  exact r
 ·rw[Yj (λz=>by rw[z,ha] at r;cases r) (λz=>by rw[z,hb] at r;cases r)]
  exact r
def Zna{E:Value->Shared->Prop}{Q:Value->Shared->Prop}{fI:Addr}{fd:FuncData}{k:Nat}{n:Nat}{u:Value}(I:Inv X pins σ H s)(q:YT X.K C (some (.ref fI))=true)
  (G:YX X.prog X.w X.K X.mg X.base CX0 k fI fd ["self", "place"] (ZhE C)) (hr:Room (k+1) X.A) (hb:JZ X.K fd ["self", "place"] []) (hf:isFn X.K (.ref fI)=true) (ru:ZL (.int (n:Int)) u)
  (h:∀e H' s',ZnN X s H e C (some n) H' s'->(∀b o,H b=some o->H' b=some o)->Q (.ref e) s'):wpAny (model X.prog X.w) X.A (call (.ref C) [u]) Q E s:=by
 obtain⟨mN,xc,hi⟩:=Uy I.kIn q;obtain⟨nm,qn,N,bs,sn,sub,ab,col,dd,k0,k1,k2,k3,k5,hC,hN⟩:=xc.ex;obtain⟨oI,hoI,hfc⟩ : ∃o,s.heap.get? fI=some o/\o.cls = .type "function" := by
  have e:=beq_iff_eq.mp hf;unfold PySem.W.typeIn at e;dsimp only at e;cases y:X.K.lookup fI with
  |none=>simp[y] at e
  |some o=>
   refine⟨o,I.kIn _ _ y,?_⟩;simpa[y] using e
 obtain⟨hp,g,dr,tk,os⟩:=s;refine wpAny_call_exc_init F.excBase_Exception hC hN hi hoI hfc (λh' e hm=>?_) (by show 1<=sizeLine;decide);obtain⟨t,ht,_,_⟩:=hm.there;have fe:H e=none:=ZbI I.hok hm.new;have nb:∀b o,hp.get? b=some o->b≠e:=λb o y z=>by
  have:=hm.new;rw[<- z,y] at this;cases this
 have okE:Jc X.prog X.w (upd H e (.ext (Zbs e C t))) h' e (.ext (Zbs e C t)):=⟨ht,⟨_,ht⟩,λa1 a2 r1 r2=>r2 _ r1⟩;have hok2:HOk X.prog X.w (upd H e (.ext (Zbs e C t))) h':=λb ob r=>by
  by_cases hb2:b=e
  ·subst hb2
   rw[Zb] at r;cases r;exact okE
  ·rw[Zj hb2] at r
   refine(I.hok b ob r).stay (λc v _ y=>hm.keeps c v y) (λc y=>?_) λc xs y=>?_
   ·rw[Zj (Zi y fe)]
    exact y
   ·rw[Zj (Zi y fe)]
    exact y
 have un2:∀fs,Un fs [] H (upd H e (.ext (Zbs e C t))) hp h':=λfs=>⟨λb ob y _ _ _=>hm.keeps b ob y,λb ob y _ _ _=>⟨ob.slots,hm.keeps b ob y⟩,λb ob y n0 _=>by rw[Zj (nb b ob y)];exact n0,λb ob y _=>⟨ob,hm.keeps b ob y⟩,
  λb xs y=>by rw[Zj (Zi y fe)];exact y,λb ob xs y=>by rw[Zj (Zi y fe)];exact y,λb ps y=>⟨#[],by rw[Zj (Zi y fe),y];simp⟩⟩;have I2:Inv X pins σ (upd H e (.ext (Zbs e C t))) ⟨h',g,dr,tk,os⟩:=I.un (h':=h') (t':=tk) (un2 X.fs) hok2;have r2:Zy [V.ref e,V.int (n:Int)] [Value.ref e,u]:=.cons rfl (.cons ru .nil);have hsp:ZhE C [V.ref e,V.int (n:Int)] (upd H e (.ext (Zbs e C t))) (λv H2=>v = .non/\∃d,H2 e=some (.ext (Zj6 e C t d))/\H2 d=some (.xd [("place",.int (n:Int))])/\(upd H e (.ext (Zbs e C t))) d=none/\d≠e /\
   ∀b o,(upd H e (.ext (Zbs e C t))) b=some o->b≠e->H2 b=some o) E0:=⟨e,t,n,rfl,Zb,λH2 d a1 a2 a3 a4 a5=>⟨rfl,d,a1,a2,a3,a4,a5⟩⟩;refine wpAny_call (codeAny_mono (G.run _ X.stack _ _ ⟨[Value.ref e,u],[]⟩ [Value.ref e,u] _ _ E0 (hr.make C [u] []) (I2.env0.make C [u] []) (hb _ [Value.ref e,u] I2.kIn rfl) r2 hsp) λr s2 hq=>?_);cases r with
 |error y=>exact hq.elim
 |ok fl=>
  cases fl with
  |next=>exact hq.elim
  |brk=>exact hq.elim
  |cont=>exact hq.elim
  |ret v0=>
   obtain⟨v,H3,o1,o2,o3,o4,rv,rfl,d,a1,a2,a3,a4,a5⟩:=hq;refine⟨rv,h e (forget H3 e d) s2 ⟨?_,HOk.forget o4 a1 a2,o1,o2,⟨hm.new,?_,(λ_ z=>nomatch z),?_⟩⟩ λb o y=>?_⟩
   ·have hd0:h'.get? d=none\/True:=.inr trivial
    have u3:=(un2 (frs X.stack)).trans o3;have fe':∀b ob,hp.get? b=some ob->H b=none->b≠d:=λb ob y n0 z=>by
     have:=u3.free b ob y n0 (by simp);rw[z,a2] at this;cases this
    refine⟨u3.keep,u3.slot,λb ob y n0 hx=>?_,u3.there,λb xs y=>?_,λb ob xs y=>?_,λb ps y=>?_⟩
    ·rw[Yj (nb b ob y) (fe' b ob y n0)]
     exact u3.free b ob y n0 hx
    ·have y2:=u3.tups b xs y
     rw[Yj (λz=>by rw[z,a1] at y2;cases y2) (λz=>by rw[z,a2] at y2;cases y2)];exact y2
    ·have y2:=u3.frzs b ob xs y
     rw[Yj (λz=>by rw[z,a1] at y2;cases y2) (λz=>by rw[z,a2] at y2;cases y2)];exact y2
    ·obtain⟨more,y2⟩:=u3.tbls b ps y
     rw[Yj (λz=>by rw[z,a1] at y2;cases y2) (λz=>by rw[z,a2] at y2;cases y2)];exact⟨more,y2⟩
   ·unfold forget
    rw[if_pos (.inl rfl)]
   ·obtain⟨w1,_,_⟩:=o4 e _ a1
    have w1:s2.heap.get? e=some {cls:=.ref C,dict:=some d,data:=.fields (ZaB t)}:=w1;obtain⟨mA,w2,w3⟩:=(show ∃mA,s2.heap.Ns1 d mA/\∀f:Str,Vl (List.lookup f [(("place" : Str),V.int (n:Int))]) (mA f) from o4 d _ a2);have w4:=w3 "place";rw[show List.lookup ("place" : Str) [("place",V.int (n:Int))]=some (V.int (n:Int)) by simp[List.lookup]] at w4;obtain⟨u0,w5,tn,w6⟩:=Vl.some_of w4;subst w6;have w7:mA=λ(y:Str)=>if y = "place" then some (Value.int (n:Int) tn) else none:=by
     funext y
     by_cases hy:y = "place"
     ·subst hy
      rw[if_pos rfl];exact w5
     ·rw[if_neg hy]
      have w8:=w3 y;have:List.lookup y [(("place" : Str),V.int (n:Int))]=none:=by
       unfold List.lookup;rw[show(y==("place" : Str))=false from beq_eq_false_iff_ne.mpr hy];rfl
      rw[this] at w8;exact Vl.none_of w8
    refine⟨_,_,w1,rfl,rfl,rfl,d,tn,rfl,?_,?_,by rw[<- w7];exact w2⟩
    ·cases y:hp.get? d with
     |none=>rfl
     |some ob=>
      rw[Zj a4] at a3;have:=o3.free d ob (hm.keeps d ob y) (by rw[Zj a4];exact a3) (by simp);rw[a2] at this;cases this
    ·unfold forget
     rw[if_pos (.inr rfl)]
   ·have ne:b≠e:=Zi y fe
    have y2:=a5 b o (by rw[Zj ne];exact y) ne;rw[Yj ne (λz=>by rw[z] at y;rw[Zj a4] at a3;rw[a3] at y;cases y)];exact y2
end
def ZfL(X:Cx)(E:XK):Prop:=∀(pins:List (Addr×Obj)) (σ:L2.St) (H:Hp) (s:Shared) (e C:Addr) (z T:Option Addr) (H':Hp) (s':Shared),Inv X pins σ H s->Un (frs X.stack) [] H H' s.heap s'.heap->HOk X.prog X.w H' s'.heap ->
 s'.os=s.os->AllBare s'.gens->Fly s.heap s'.heap H' e C z T->E (.ref C) z H'->X.xe (.ref e) s'
def YM{P:Program}{w:World}{K:Frag}{mg:Str->Option Value}{base:Heap}{N:List Str}{qual:Str}{scope:Scope}{f:Addr}{cd:Value}{A:Around}{outer:List Env}{s:Shared}{H:Hp}{E:XK} :
  ZfL (cxOf (CXF P w) P w K mg base N qual scope f cd A outer s H E) E:=λpins σ H1 s1 e C z T H' s' I u ok os bare fly hE=>
 Zdl (X:=cxOf (CXF P w) P w K mg base N qual scope f cd A outer s H E) rfl rfl rfl I u ok os bare fly hE
section
variable{X:Cx}{C:Addr}{E:XK}{x:Str}{a:Expr}{te:TE}{np cpos pos:Pos}
def Zik{pins:List (Addr×Obj)}{σ:L2.St}{H H':Hp}{s s':Shared}(I:Inv X pins σ H s)(u:Un (frs X.stack) [] H H' s.heap s'.heap):X.K.In s'.heap:=λb o e=>by
 have e1:=I.ok.mod.kin b o e;obtain⟨q1,q2⟩:=I.bs b o e1;refine u.keep b o q1 q2 (λhm=>?_) (by simp);obtain⟨y,_⟩:=I.stack.mem hm;rw[e1] at y;cases y
def Zgg(C:Addr)(E:XK)(te:TE):TS:=λ_ σ H=>te σ H λv H1=>∃n:Nat,[v]=[V.int (n:Int)]/\∀H':Hp,(∀b o,H1 b=some o->H' b=some o)->E (.ref C) (some n) H'
def ZgD{fI:Addr}{fd:FuncData}{k:Nat}(hc:X.calm=true)(fl:ZfL X E)(q:YT X.K C (some (.ref fI))=true)
  (G:YX X.prog X.w X.K X.mg X.base CX0 k fI fd ["self", "place"] (ZhE C)) (hr:Room (k+1) X.A) (hb:JZ X.K fd ["self", "place"] []) (hf:isFn X.K (.ref fI)=true)
  (hg:Gl X x) (hm:X.mg x=some (.ref C)) (kp:keepIn X.K (.ref C)=true) (ha:PE X a te) (hdb:(x==("__debug__" : Str))=false:=by decide) (he:starEach [a] X.env=[(false,eval a X.env)]:=by rfl) :
  PS X (.Raise (some (.Call (.Name x np) [a] [] cpos)) none pos) (Zgg C E te):=by
 intro pins s σ H D I h;refine Zbl (C:=C) (I.ok.hd hc) ?_;refine wpAny_Call_Name_kw (YZ I hg hm ?_ hdb);have hA:PA X [a] (V0 te Uq):=Za ha Zd he;refine PySem.W.callWith_K (h₀:=X.base) I.ok.mod.kin kp (thn (hA cpos pins s σ H (λvs H1=>∃n:Nat,vs=[.int (n:Int)]/\∀H':Hp,(∀b o,H1 b=some o->H' b=some o)->E (.ref C) (some n) H') I ?_) λus s1 ⟨vs,H1,I1,r,n,ev,q1⟩=>⟨I1.kIn,?_⟩) he rfl
 ·exact h
 ·subst ev
  obtain⟨u,rfl,ru⟩:=Zed r;refine Zna I1 q G hr hb hf ru λe H' s' md k1=>?_;obtain⟨mN,xc,_⟩:=Uy (Zik I1 md.un) q;obtain⟨oe,vs,b1,b2,b3,b4,b5⟩:=md.fly.rcd;exact⟨e,oe,vs,mN,rfl,xc,b1,b2,b3,b4,fl pins σ H1 s1 e C (some n) none H' s' I1 md.un md.ok md.os md.bare md.fly (q1 H' k1)⟩
def Zhe(hc:X.calm=true)(fl:ZfL X E)(q:YT X.K C none=true)(hg:Gl X x)(hm:X.mg x=some (.ref C))(kp:keepIn X.K (.ref C)=true)(hdb:(x==("__debug__" : Str))=false:=by decide) :
  PS X (.Raise (some (.Call (.Name x np) [] [] cpos)) none pos) (λ_ _ H=>E (.ref C) none H):=by
 intro pins s σ H D I h;refine Zbl (C:=C) (I.ok.hd hc) ?_;refine wpAny_Call_Name_kw (YZ I hg hm ?_ hdb);refine PySem.W.callWith_K0 I.kIn kp (ZmH I q λe s' md=>?_);obtain⟨mN,xc,_⟩:=Uy (Zik I md.un) q;obtain⟨oe,vs,b1,b2,b3,b4,b5⟩:=md.fly.rcd;exact⟨e,oe,vs,mN,rfl,xc,b1,b2,b3,b4,fl pins σ H s e C none none H s' I md.un md.ok md.os md.bare md.fly h⟩
end
abbrev tr(X:Cx)(E1:Value->Shared->Prop)(pn:List (Addr×Obj)):Cx:={X with xe:=E1,pn:=pn}
abbrev Zfs(X:Cx)(e:Addr)(pn:List (Addr×Obj)):Cx:={X with A:=X.A.mark (some (.ref e)),calm:=false,pn:=pn,xe:=λ_ _=>False}
section
variable{X:Cx}{pins:List (Addr×Obj)}{σ:L2.St}{H H':Hp}{s s':Shared}{e C:Addr}{z:Option Addr}
def ZkM(E1:Value->Shared->Prop)(I:Inv X pins σ H s):Inv (tr X E1 (X.pn++pins)) [] σ H s:=
 ⟨⟨I.ok.mod,I.ok.kind,I.ok.glob,I.ok.blt,I.ok.above,I.ok.inj,I.ok.has,I.ok.cab,I.ok.hd,I.ok.frames,I.ok.stk,I.ok.exf,I.ok.bs,I.ok.bsz,I.ok.noex,I.ok.exfs,I.ok.funs,I.ok.frf⟩,I.os,I.bare,I.base,I.loc,I.cell,I.free,I.freeC,
  λp hp=>I.pin p (by rw[append_nil] at hp;exact hp),I.hok,I.len⟩
def Ug{E1:Value->Shared->Prop}{pins':List (Addr×Obj)}(I:Inv (tr X E1 (X.pn++pins)) pins' σ H s):Inv X pins σ H s:=
 ⟨⟨I.ok.mod,I.ok.kind,I.ok.glob,I.ok.blt,I.ok.above,I.ok.inj,I.ok.has,I.ok.cab,I.ok.hd,I.ok.frames,I.ok.stk,I.ok.exf,I.ok.bs,I.ok.bsz,I.ok.noex,I.ok.exfs,I.ok.funs,I.ok.frf⟩,I.os,I.bare,I.base,I.loc,I.cell,I.free,I.freeC,
  λp hp=>I.pin p (mem_append_left _ hp),I.hok,I.len⟩
def ZbG{E1:Value->Shared->Prop}{D:Uo}{f:Flow}(h:SP (tr X E1 (X.pn++pins)) [] D f s'):SP X pins D f s':=by
 cases f with
 |next=>obtain⟨σ',H',I,q⟩:=h;exact⟨σ',H',Ug I,q⟩
 |brk=>obtain⟨σ',H',I,q⟩:=h;exact⟨σ',H',Ug I,q⟩
 |cont=>obtain⟨σ',H',I,q⟩:=h;exact⟨σ',H',Ug I,q⟩
 |ret u=>obtain⟨v,σ',H',I,r,q⟩:=h;exact⟨v,σ',H',Ug I,r,q⟩
def Zam(e:Addr){pn:List (Addr×Obj)}(I:Inv X pins σ H s)(hp:∀p∈pn,s.heap.get? p.1=some p.2/\H p.1=none/\p.1≠X.env.locals/\p.1∉X.fs/\∀v,p.2.data ≠ .cell v):Inv (Zfs X e (pn++(X.pn++pins))) [] σ H s:=
 ⟨⟨I.ok.mod,I.ok.kind,I.ok.glob,I.ok.blt,I.ok.above,I.ok.inj,I.ok.has,I.ok.cab,(λy=>nomatch y),I.ok.frames,I.ok.stk,I.ok.exf,I.ok.bs,I.ok.bsz,I.ok.noex,I.ok.exfs,I.ok.funs,I.ok.frf⟩,I.os,I.bare,I.base,I.loc,I.cell,I.free,I.freeC,
  λp hq=>by
   rw[append_nil] at hq;rcases mem_append.mp hq with y|y
   ·exact hp p y
   ·exact I.pin p y,I.hok,I.len⟩
def Uk{pn:List (Addr×Obj)}(ok:X.Ok)(I:Inv (Zfs X e (pn++(X.pn++pins))) [] σ H s):Inv X pins σ H s:=
 ⟨ok,I.os,I.bare,I.base,I.loc,I.cell,I.free,I.freeC,λp hp=>I.pin p (by rw[append_nil];exact mem_append_right _ hp),I.hok,I.len⟩
def Zkl{pn:List (Addr×Obj)}{D:Uo}{f:Flow}(ok:X.Ok)(h:SP (Zfs X e (pn++(X.pn++pins))) [] D f s'):SP X pins D f s':=by
 cases f with
 |next=>obtain⟨σ',H',I,q⟩:=h;exact⟨σ',H',Uk ok I,q⟩
 |brk=>obtain⟨σ',H',I,q⟩:=h;exact⟨σ',H',Uk ok I,q⟩
 |cont=>obtain⟨σ',H',I,q⟩:=h;exact⟨σ',H',Uk ok I,q⟩
 |ret u=>obtain⟨v,σ',H',I,r,q⟩:=h;exact⟨v,σ',H',Uk ok I,r,q⟩
def Zer{E':Value->Shared->Prop}{Q:Unit->Shared->Prop}{A:Around}{h1:Heap}{N:Addr}(I:Inv X pins σ H s)(u:Un (frs X.stack) [] H H' s.heap s'.heap)(ok1:HOk X.prog X.w H' s'.heap)(fly:Fly s.heap s'.heap H' e C z (some N))
  (h:∀h2,Un (frs X.stack) [] H H' s.heap h2->HOk X.prog X.w H' h2->Fly s.heap h2 H' e C z (some N)->Q () {s' with heap:=h2}):wpAny (model X.prog X.w) A (setFlight (.ref e) none) Q E' s':=by
 obtain⟨oe,vs,b1,b2,b3,b4,b5⟩:=fly.rcd;obtain⟨n1,n2,n3⟩:=fly.tr N rfl;refine ZcE b1 b3 b4 n3 λh2 k1 k2 k3=>h h2 ⟨λb o q n hb hx=>k1 b o (λy=>by rw[y,n1] at q;cases q) (u.keep b o q n hb hx),λb o q n hb hx=>?_,u.free,λb o q hx=>?_,u.tups,u.frzs,u.tbls⟩ (λb ob q=>?_) ⟨fly.new,fly.free,fly.tr,?_⟩
 ·obtain⟨sl,q1⟩:=u.slot b o q n hb hx
  exact⟨sl,k1 b _ (λy=>by rw[y,n1] at q;cases q) q1⟩
 ·obtain⟨o',q1⟩:=u.there b o q hx
  exact⟨o',k1 b o' (λy=>by rw[y,n1] at q;cases q) q1⟩
 ·refine(ok1 b ob q).stay (λc v hc r=>k1 c v (λy=>?_) r) (λ_ r=>r) λ_ _ r=>r
  rcases hc with y2|hc
  ·rw[<- y2,y,n2] at q
   cases q
  ·rw[y,n2] at hc
   cases hc
 ·refine⟨oe,vs,k1 e oe (Ne.symm n3) b1,b2,b3,k3,?_⟩
  cases z with
  |none=>trivial
  |some n=>
   obtain⟨d,t,c1,c2,c3,c4⟩:=b5;refine⟨d,t,c1,c2,c3,c4.at λo q=>k1 d o (λy=>?_) q⟩;obtain⟨od,es,ep,g1,g2,_⟩:=c4;obtain⟨_,oT,ts,q1,q2,_⟩:=b4;rw[y,q1] at g1;cases g1;rw[q2] at g2;cases g2
def Zcp(I:Inv X pins σ H s)(os:s'.os=s.os)(bare:AllBare s'.gens)(u:Un (frs X.stack) [] H H' s.heap s'.heap)(ok1:HOk X.prog X.w H' s'.heap):Inv X pins σ H' s':=I.call' os u ok1 bare (λb z=>absurd z (by simp))
end
def ZoG(C:Addr)(tb:XK->TS)(th:TS):TS:=λD σ H=>∃E:XK,(∀(C':Value) (z:Option Addr) (H':Hp) (σ':L2.St),E C' z H'->C' = .ref C/\th D σ' H')/\tb E D σ H
section
variable{X:Cx}{C:Addr}{x:Str}{np hpos pos:Pos}{b0:Stmt}{body suite:List Stmt}{init:Option Value}{tb:XK->TS}{th:TS}
def ZjU(hs:X.stack=X.env::X.outer)(hf:X.env.frame=some X.env.locals)(q:YT X.K C init=true)(hg:Gl X x)(hm:X.mg x=some (.ref C))
  (hb:∀(E:XK) (E1:Value->Shared->Prop) (pn:List (Addr×Obj)),Yi (CXF X.prog X.w) (tr X E1 pn) E->PSs (tr X E1 pn) body (tb E)) (hh:∀(e:Addr) (pn:List (Addr×Obj)),PSs (Zfs X e pn) (b0::suite) th)
  (hdb:(x==("__debug__" : Str))=false:=by decide):PS X (.Try body [.ExceptHandler (some (.Name x np)) none (b0::suite) hpos] [] [] pos) (ZoG C tb th):=by
 intro pins s σ H D I h;obtain⟨E,hE,ht⟩:=h;refine wpAny_Try_except ?_;refine wpAny_mono (hb E (λerr s1=>wpAny (model X.prog X.w) X.A (noteFrame err X.env) (λ_ s2=>wpAny (model X.prog X.w) X.A (setFlight err none) (λ_ s3=>wpAny (model X.prog X.w) X.A (handleBy err X.env [.ExceptHandler (some (.Name x np)) none (b0::suite) hpos]) (SP X pins D) X.xe s3) X.xe s2) X.xe s1)
  (X.pn++pins) ?_ [] s σ H D (ZkM _ I) ht) (λf s1 y=>?_) λ_ _ y=>y
 ·intro pins' σ' H1 s1 err s' I' hc
  obtain⟨e,C',z,T,H',rfl,fly,os,bare,u,ok1,hEx⟩:=hc;obtain⟨ec,hth⟩:=hE _ _ _ σ' hEx;cases ec;have I1:=Ug I';refine ZcN (X:=X) hs hf I1 u ok1 fly λh2 N u2 ok2 fly2=>?_;have I2:Inv X pins σ' H' {s' with heap:=h2}:=Zcp I1 os bare u2 ok2;have I3:=Zam e (pn:=[]) I2 (by simp);refine wpAny_handleBy_cons (codeAny_handlers_test (YZ I3 hg hm ?_ hdb)) (by intro y;cases y);obtain⟨mN,xc,_⟩:=Uy I2.kIn q;obtain⟨nm,qn,N',bs,sn,sub,ab,col,dd,k0,k1,k2,k3,k5,hC,hN⟩:=xc.ex;obtain⟨oe,vs,b1,b2,b3,b4,b5⟩:=fly2.rcd;obtain⟨hp,g,dr,tk,os'⟩:=s';refine wpAny_excMatches_sub_self hC b1 b2 rfl (codeAny_handlers_suite ?_);refine Zer (X:=X) (s':=⟨h2,g,dr,tk,os'⟩) (h1:=h2) I1 u2 ok2 fly2 λh3 u3 ok3 fly3=>?_;have I4:Inv X pins σ' H' ⟨h3,g,dr,tk,os'⟩:=Zcp I1 os bare u3 ok3;have I5:=Zam e (pn:=[]) I4 (by simp);exact wpAny_mono (hh e _ [] _ σ' H' D I5 hth) (λf s4 y=>Zkl I.ok y) λ_ _ y=>y.elim
 ·cases f with
  |next=>
   obtain⟨σ',H',I',q'⟩:=y;exact wpAny_execs_nil ⟨σ',H',Ug I',q'⟩
  |brk=>exact ZbG y
  |cont=>exact ZbG y
  |ret u=>exact ZbG y
end
section
variable{X:Cx}{pins:List (Addr×Obj)}{σ:L2.St}{H:Hp}{s:Shared}
def ZnU(I:Inv X pins σ H s){m':Str->Option Value}{h':Heap}{tk:Nat}(hn:h'.Ns X.env.locals m')(hs:Heap.SameBut X.env.locals s.heap h'):Inv X pins (List.replicate X.N.length none) H {s with heap:=h',toks:=tk}:=by
 obtain⟨m,⟨oL,es,ep,hoL,_⟩,_⟩:=id I.loc;have ab:∀b o,X.s_0.heap.get? b=some o->b≠X.env.locals:=λb o e=>Nat.ne_of_lt (Nat.lt_of_lt_of_le (Heap.lt_size e) I.ok.above);refine⟨I.ok,I.os,I.bare,⟨λb o e n hb hx=>?_,λb o e n hb hx=>?_,I.base.free,λb o e hx=>?_,I.base.tups,I.base.frzs,I.base.tbls⟩,⟨m',hn,λj y v e1 e2 e3=>?_⟩,λy c e=>?_,I.free,I.freeC,λp hp=>?_,λb ob e=>?_,length_replicate⟩
 ·exact(hs.2 b (ab b o e)).trans (I.base.keep b o e n hb hx)
 ·obtain⟨sl,e1⟩:=I.base.slot b o e n hb hx
  exact⟨sl,(hs.2 b (ab b o e)).trans e1⟩
 ·obtain⟨o',e1⟩:=I.base.there b o e hx
  exact⟨o',(hs.2 b (ab b o e)).trans e1⟩
 ·rw[getElem?_replicate] at e2
  split at e2<;>cases e2
 ·obtain⟨v,y2⟩:=I.cell y c e
  exact⟨v,y2.sameBut hs (I.cne y c e)⟩
 ·obtain⟨e,n,ne,nf,d⟩:=I.pin p hp
  exact⟨(hs.2 p.1 ne).trans e,n,ne,nf,d⟩
 ·refine(I.hok b ob e).stay (λc v hc q=>(hs.2 c ?_).trans q) (λ_ q=>q) λ_ _ q=>q
  rintro rfl;have:=I.free;rcases hc with y|hc
  ·rw[<- y,this] at e
   cases e
  ·rw[this] at hc
   cases hc
structure Znx(X:Cx)(C e:Addr)(n:Nat):Prop where
 ex:∃(oe od:Obj) (d:Addr) (t:Tok) (vs:Array Value) (es:Array DictEntry) (ep:Nat),(e,oe)∈X.pn/\(d,od)∈X.pn/\oe.cls = .ref C/\oe.data = .fields vs/\oe.dict=some d/\d≠e/\od.data = .dict es ep/\StrKeys es/\UniqKeys es /\
  ∀name:Str,nsFind es name=if name = "place" then some (Value.int (n:Nat) t) else none
def Zhu{C e:Addr}{n:Nat}{init:Option Value}{o:Expr}{ta:TE}{pos:Pos}(p:Znx X C e n)(q:YT X.K C init=true)(ho:PE X o ta)(hb:attributeBase o "place" X.env (eval o X.env)=eval o X.env) :
  PE X (.Attribute o "place" pos) (λσ H Q=>ta σ H λv H1=>v = .ref e/\Q (.int (n:Int)) H1):=by
 intro pins s σ H Q I h;refine Zgd hb (thn (ho pins s σ H _ I h) λv s1 ⟨x,H1,I1,rx,ex,q1⟩=>?_);subst ex;obtain rfl:v=Value.ref e:=rx;obtain⟨oe,od,d,t,vs,es,ep,p1,p2,c1,c2,c3,c4,c5,c6,c7,c8⟩:=p.ex;obtain⟨mN,xc,_⟩:=Uy I1.kIn q;have g1:=(I1.pin _ (mem_append_left _ p1)).1;have g2:=(I1.pin _ (mem_append_left _ p2)).1;have I2:=I1.tok (s1.toks+1);obtain⟨hp,g,dr,tk,os⟩:=s1;refine Zfu (mA:=λ(y:Str)=>if y = "place" then some (Value.int (n:Nat) t) else none) (n:=(n:Int)) (tn:=t) xc ⟨oe,g1,c1,(λc y=>by rw[c2] at y;cases y),.inr ⟨d,c3,c4,od,es,ep,g2,c5,c6,c7,c8⟩⟩ (by rw[if_pos rfl]) ?_;exact⟨.int (n:Int),H1,I2,⟨t,rfl⟩,q1⟩
end
def ZlL(C:Addr)(i:Nat)(tb:XK->TS)(th:Addr->Nat->TS):TS:=λD σ H=>∃E:XK,(∀(C':Value) (z:Option Addr) (H':Hp),E C' z H'->C' = .ref C/\∃n:Nat,z=some n/\∀(e:Addr) (σ':L2.St),σ'[i]? = some (some (.ref e)) ->
 th e n {nx:=λ_ _=>False,rt:=D.rt} σ' H')/\tb E D σ H
section
variable{X:Cx}{C:Addr}{x nm:Str}{np hpos pos:Pos}{b0:Stmt}{body suite:List Stmt}{init:Option Value}{tb:XK->TS}{th:Addr->Nat->TS}{i:Nat}
def Zig(hs:X.stack=X.env::X.outer)(hf:X.env.frame=some X.env.locals)(q:YT X.K C init=true)(hg:Gl X x)(hm:X.mg x=some (.ref C))(hN:X.N.Nodup)(hi:X.N[i]? = some nm)(hl:X.env.scope.names.lookup nm=some .local)
  (hb:∀(E:XK) (E1:Value->Shared->Prop) (pn:List (Addr×Obj)),Yi (CXF X.prog X.w) (tr X E1 pn) E->PSs (tr X E1 pn) body (tb E))
  (hh:∀(e:Addr) (n:Nat) (pn:List (Addr×Obj)),Znx (Zfs X e pn) C e n->PSs (Zfs X e pn) (b0::suite) (th e n))
  (hdb:(x==("__debug__" : Str))=false:=by decide):PS X (.Try body [.ExceptHandler (some (.Name x np)) (some nm) (b0::suite) hpos] [] [] pos) (ZlL C i tb th):=by
 intro pins s σ H D I h;obtain⟨E,hE,ht⟩:=h;refine wpAny_Try_except ?_;refine wpAny_mono (hb E (λerr s1=>wpAny (model X.prog X.w) X.A (noteFrame err X.env) (λ_ s2=>wpAny (model X.prog X.w) X.A (setFlight err none) (λ_ s3=>wpAny (model X.prog X.w) X.A (handleBy err X.env [.ExceptHandler (some (.Name x np)) (some nm) (b0::suite) hpos]) (SP X pins D) X.xe s3) X.xe s2) X.xe s1)
  (X.pn++pins) ?_ [] s σ H D (ZkM _ I) ht) (λf s1 y=>?_) λ_ _ y=>y
 ·intro pins' σ' H1 s1 err s' I' hc
  obtain⟨e,C',z,T,H',rfl,fly,os,bare,u,ok1,hEx⟩:=hc;obtain⟨ec,n,en,hth⟩:=hE _ _ _ hEx;cases ec;cases en;have I1:=Ug I';refine ZcN (X:=X) hs hf I1 u ok1 fly λh2 N u2 ok2 fly2=>?_;have I2:Inv X pins σ' H' {s' with heap:=h2}:=Zcp I1 os bare u2 ok2;have I3:=Zam e (pn:=[]) I2 (by simp);refine wpAny_handleBy_cons (codeAny_handlers_test (YZ I3 hg hm ?_ hdb)) (by intro y;cases y);obtain⟨mN,xc,_⟩:=Uy I2.kIn q;obtain⟨nm',qn,N',bs,sn,sub,ab,col,dd,k0,k1,k2,k3,k5,hC,hN'⟩:=xc.ex;obtain⟨oe,vs,b1,b2,b3,b4,b5⟩:=fly2.rcd;obtain⟨hp,g,dr,tk,os'⟩:=s';refine wpAny_excMatches_sub_self hC b1 b2 rfl (codeAny_handlers_suite_as ?_);refine Zer (X:=X) (s':=⟨h2,g,dr,tk,os'⟩) (h1:=h2) I1 u2 ok2 fly2 λh3 u3 ok3 fly3=>?_;have I4:Inv X pins σ' H' ⟨h3,g,dr,tk,os'⟩:=Zcp I1 os bare u3 ok3;obtain⟨oe,vs,c1,c2,c3,c4,d,t,c5,c6,c7,c8⟩:=fly3.rcd;obtain⟨od,es,ep,g1,g2,g3,g4,g5⟩:=id c8;have nl:∀b,s1.heap.get? b=none->b≠X.env.locals/\b∉X.fs:=λb y=>by
   refine⟨λy2=>?_,λy2=>?_⟩
   ·obtain⟨m,⟨oL,_,_,hoL,_⟩,_⟩:=I1.loc
    rw[y2,hoL] at y;cases y
   ·obtain⟨_,o,ho,_⟩:=I1.funs.mem y2
    rw[y] at ho;cases ho
  have de:d≠e:=λy=>by
   rw[y,c1] at g1;cases g1;rw[c3] at g2;cases g2
  have I5:=Zam e (pn:=[(e,oe),(d,od)]) I4 (λp hp=>by
   rcases mem_cons.mp hp with rfl|hp
   ·exact⟨c1,fly3.free,(nl e fly3.new).1,(nl e fly3.new).2,(λv y=>by rw[c3] at y;cases y)⟩
   ·rw[mem_singleton.mp hp]
    exact⟨g1,c7,(nl d c6).1,(nl d c6).2,(λv y=>by rw[g2] at y;cases y)⟩)
  refine U9 (X:=Zfs X e ([(e,oe),(d,od)]++(X.pn++pins))) (v:=V.ref e) (i:=i) I5 hN hi (.inl hl) rfl (λs6 I6=>?_) (.inr hl);have il:i<σ'.length:=by
   have:=I5.len;rw[this];exact(List.getElem?_eq_some_iff.mp hi).1
  refine wpAny_mono (hh e n _ ⟨oe,od,d,t,vs,es,ep,mem_append_left _ (by simp),mem_append_left _ (by simp),c2,c3,c5,de,g2,g3,g4,g5⟩ [] _ _ H' _ I6 (hth e _ (getElem?_set_self il))) (λf s7 y=>?_) λ_ _ y=>y.elim;have hk:X.env.scope.kind = .function:=I.ok.kind;cases f with
  |next=>obtain⟨_,_,_,y⟩:=y;exact y.elim
  |brk=>obtain⟨_,_,_,y⟩:=y;exact y.elim
  |cont=>obtain⟨_,_,_,y⟩:=y;exact y.elim
  |ret u0=>
   obtain⟨v,σ7,H7,I7,r7,q7⟩:=y;have I8:=Uk I.ok I7;obtain⟨m8,n8,_⟩:=id I8.loc;refine wpAny_nameGoes hl n8 (by rw[hk];rfl) λh9 m9 n9 sb9=>?_;exact⟨v,_,H7,ZnU I8 n9 sb9,r7,q7⟩
 ·cases f with
  |next=>
   obtain⟨σ',H',I',q'⟩:=y;exact wpAny_execs_nil ⟨σ',H',Ug I',q'⟩
  |brk=>exact ZbG y
  |cont=>exact ZbG y
  |ret u=>exact ZbG y
end
end LX
namespace RM
open Rotor
def JW{a:List Nat}{i:Nat}(h:i<a.length):at_ a i=a[i]:=by
 unfold at_;rw[getD_eq_getElem?_getD,getElem?_eq_getElem h,Option.getD_some]
def Jh{a:List Nat}{i x:Nat}(h:a[i]? = some x):at_ a i=x:=by
 unfold at_;rw[getD_eq_getElem?_getD,h,Option.getD_some]
def Za1{a:List Nat}{i:Nat}(h:i<a.length):a[i]? = some (at_ a i):=by
 rw[getElem?_eq_getElem h,JW h]
def Zdi{a:List Nat}{i:Nat}(h:i<a.length):at_ a i∈a:=by
 rw[JW h];exact getElem_mem h
def Zt(f:Nat->Nat):(made f).length=16:=by
 unfold made;rw[length_map,length_range];rfl
def J5(f:Nat->Nat){i:Nat}(h:i<16):at_ (made f) i=f i:=by
 apply Jh;unfold made;rw[getElem?_map,getElem?_range (show i<WIDE from h)];rfl
def VX{a b:List Nat}(hl:a.length=b.length)(h:∀i,i<a.length->at_ a i=at_ b i):a=b:=by
 apply ext_getElem?;intro i;by_cases hi:i<a.length
 ·rw[Za1 hi,Za1 (hl▸hi),h i hi]
 ·rw[getElem?_eq_none (by omega),getElem?_eq_none (by omega)]
def Vr{i:Nat}(h:i<16):at_ still i=i:=J5 _ h
def Ya:still.length=16:=Zt _
theorem Ze1:∀(n:Nat) (l:List Nat),l.length=n->(∀i,i<n->i∈l)->l.Perm (List.range n)
 |0,l,h,_=>by
  rw[length_eq_zero_iff] at h;subst h;exact List.Perm.refl _
 |n+1,l,h,hm=>by
  have h1:n∈l:=hm n (Nat.lt_succ_self n);have h2:=List.perm_cons_erase h1;have h3:(l.erase n).length=n:=by
   rw[List.length_erase_of_mem h1,h];rfl
  have h4:=Ze1 n (l.erase n) h3 λi _=>(List.mem_erase_of_ne (by omega)).mpr (hm i (by omega));rw[range_succ];exact h2.trans ((List.Perm.cons n h4).trans (List.perm_append_singleton n (List.range n)).symm)
structure IsP(n:Nat)(a:List Nat):Prop where
 len:a.length=16
 perm:a.Perm (List.range 16)
 out:∀i,n<=i->i<16->at_ a i=i
def Zff{n:Nat}{a:List Nat}:isPerm n a=true↔IsP n a:=by
 unfold isPerm;rw[Bool.and_eq_true,beq_iff_eq,all_eq_true];constructor
 ·rintro⟨h1,h2⟩
  have h1:a.length=16:=h1;have q:∀i,i<16->i∈a/\(i<n\/at_ a i=i):=λi hi=>by
   have:=h2 i (mem_range.mpr hi);rw[Bool.and_eq_true,Bool.or_eq_true,decide_eq_true_eq,beq_iff_eq,List.contains_iff_mem] at this;exact this
  refine⟨h1,Ze1 16 a h1 λi hi=>(q i hi).1,λi h3 h4=>?_⟩;rcases(q i h4).2 with h5|h5
  ·omega
  ·exact h5
 ·rintro⟨h1,h2,h3⟩
  refine⟨h1,λi hi=>?_⟩;have hi:i<16:=mem_range.mp hi;rw[Bool.and_eq_true,Bool.or_eq_true,decide_eq_true_eq,beq_iff_eq,List.contains_iff_mem];refine⟨h2.mem_iff.mpr (mem_range.mpr hi),?_⟩;by_cases h:i<n
  ·exact .inl h
  ·exact .inr (h3 i (by omega) hi)
namespace IsP
variable{n:Nat}{a:List Nat}
def nodup(h:IsP n a):a.Nodup:=h.perm.nodup_iff.mpr List.nodup_range
def mem(h:IsP n a){x:Nat}:x∈a↔x<16:=h.perm.mem_iff.trans mem_range
def lt(h:IsP n a){i:Nat}(hi:i<16):at_ a i<16:=h.mem.mp (Zdi (by rw[h.len];exact hi))
def inj(h:IsP n a){i j:Nat}(hi:i<16)(hj:j<16)(e:at_ a i=at_ a j):i=j:=by
 rw[JW (by rw[h.len];exact hi),JW (by rw[h.len];exact hj)] at e;exact(List.getElem_inj h.nodup).mp e
def surj(h:IsP n a){x:Nat}(hx:x<16):∃i,i<16/\at_ a i=x:=by
 obtain⟨i,hi,e⟩:=getElem_of_mem (h.mem.mpr hx);exact⟨i,by rw[<- h.len];exact hi,by rw[JW hi];exact e⟩
def ltn(h:IsP n a)(hn:n<=16){i:Nat}(hi:i<n):at_ a i<n:=by
 rcases Nat.lt_or_ge (at_ a i) n with q|q
 ·exact q
 ·have h1:=h.lt (i:=i) (by omega)
  have h2:=h.out _ q h1;have:=h.inj h1 (by omega) h2;omega
end IsP
def ZcS{n:Nat}{a:List Nat}(hn:n<=16)(hl:a.length=16):IsP n a↔(a.take n).Perm (List.range n)/\a.drop n=List.range' n (16-n):=by
 have hr:(List.range 16)=List.range n++List.range' n (16-n):=by
  have e:=List.range'_append_1 (s:=0) (m:=n) (n:=16-n);rw[Nat.zero_add,show n+(16-n)=16 by omega] at e;rw[range_eq_range',range_eq_range',e]
 constructor
 ·intro h
  have hd:a.drop n=List.range' n (16-n):=by
   apply List.ext_getElem
   ·rw[length_drop,length_range',hl]
   ·intro i h1 h2
    rw[List.getElem_drop,List.getElem_range'];rw[length_drop] at h1;have:=h.out (n+i) (by omega) (by omega);rw[JW (by omega)] at this;rw[this];omega
  refine⟨?_,hd⟩;have q:=h.perm;rw[<- List.take_append_drop n a,hd,hr] at q;exact(List.perm_append_right_iff _).mp q
 ·rintro⟨h1,h2⟩
  refine⟨hl,?_,λi h3 h4=>?_⟩
  ·rw[<- List.take_append_drop n a,h2,hr]
   exact h1.append_right _
  ·have e:a[i]? = (a.drop n)[i-n]?:=by
    rw[getElem?_drop];congr 1;omega
   rw[h2,List.getElem?_range' (by omega)] at e;rw[Jh e];omega
open Rotor
def it(a:List Nat):Nat->Nat->Nat
 |0,i=>i
 |k+1,i=>at_ a (it a k i)
theorem VQ(a:List Nat)(j:Nat):∀(k i:Nat),it a (k+j) i=it a k (it a j i)
 |0,i=>by rw[Nat.zero_add];rfl
 |k+1,i=>by
  rw[show k+1+j=(k+j)+1 by omega];show at_ a (it a (k+j) i)=at_ a (it a k (it a j i));rw[VQ a j k i]
section
variable{n:Nat}{a:List Nat}
theorem VY(h:IsP n a){i:Nat}(hi:i<16):∀k,it a k i<16
 |0=>hi
 |k+1=>h.lt (VY h hi k)
theorem UR(h:IsP n a)(hn:n<=16){i:Nat}(hi:i<n):∀k,it a k i<n
 |0=>hi
 |k+1=>h.ltn hn (UR h hn hi k)
theorem ZaN(h:IsP n a){i j:Nat}(hi:i<16)(hj:j<16):∀k,it a k i=it a k j->i=j
 |0,e=>e
 |k+1,e=>ZaN h hi hj k (h.inj (VY h hi k) (VY h hj k) e)
def Dg:∀k,(powerOf a k).length=16
 |0=>Ya
 |_+1=>Zt _
theorem Vq{i:Nat}(hi:i<16):∀k,at_ (powerOf a k) i=it a k i
 |0=>Vr hi
 |k+1=>by
  rw[show powerOf a (k+1)=then_ (powerOf a k) a from rfl,show then_ (powerOf a k) a=made λi=>at_ a (at_ (powerOf a k) i) from rfl,J5 _ hi,Vq hi k];rfl
theorem DA:∀(n:Nat) (l:List Nat),l.Nodup->(∀x,x∈l->x<n)->l.length<=n
 |0,l,_,h=>by
  cases l with
  |nil=>exact Nat.le_refl _
  |cons x r=>exact absurd (h x mem_cons_self) (Nat.not_lt_zero _)
 |n+1,l,hd,h=>by
  have h1:=DA n (l.erase n) (hd.sublist List.erase_sublist) λx hx=>by
   have h2:=h x (List.mem_of_mem_erase hx);have h3:x≠n:=λe=>by
    subst e;exact(List.Nodup.not_mem_erase hd) hx
   omega
  by_cases hn:n∈l
  ·rw[List.length_erase_of_mem hn] at h1
   omega
  ·rw[List.erase_of_not_mem hn] at h1
   omega
def ZjW(h:IsP n a){i:Nat}(hi:i<16):∃r,0<r/\r<=16/\it a r i=i:=by
 apply Classical.byContradiction;intro hne;have hne:∀r,0<r->r<=16->it a r i≠i:=λr h1 h2 h3=>hne ⟨r,h1,h2,h3⟩;have nd:((List.range 17).map λk=>it a k i).Nodup:=by
  refine pairwise_map.mpr ?_;have:=pairwise_lt_range (n:=17);refine this.imp_of_mem ?_;intro x y hx hy hxy e;have hy:y<17:=mem_range.mp hy;have e2:it a (x+(y-x)) i=it a x (it a (y-x) i):=VQ a (y-x) x i;rw[show x+(y-x)=y by omega,<- e] at e2;exact hne (y-x) (by omega) (by omega) (ZaN h (VY h hi _) hi x e2.symm)
 have:=DA 16 _ nd λx hx=>by
  obtain⟨k,_,rfl⟩:=mem_map.mp hx;exact VY h hi k
 simp at this
def ZK(h:IsP n a){i:Nat}(hi:i<16):0<round a i/\round a i<=16/\it a (round a i) i=i/\∀k,0<k->k<round a i->it a k i≠i:=by
 obtain⟨r,h1,h2,h3⟩:=ZjW h hi;have hs:((List.range WIDE).find? λk=>at_ (powerOf a (k+1)) i==i).isSome=true:=by
  rw[List.find?_isSome];refine⟨r-1,mem_range.mpr (show r-1<16 by omega),?_⟩;rw[beq_iff_eq,Vq hi,show r-1+1=r by omega];exact h3
 obtain⟨k,hk⟩:=Option.isSome_iff_exists.mp hs;have e:round a i=k+1:=by
  unfold round;rw[hk];rfl
 obtain⟨q1,q2,q3⟩:=List.find?_range_eq_some.mp hk;have q2:k<16:=mem_range.mp q2;rw[beq_iff_eq,Vq hi] at q1;rw[e];refine⟨by omega,by omega,q1,λj _ _=>?_⟩;have:=q3 (j-1) (by omega);rw[Bool.not_eq_true',beq_eq_false_iff_ne,Vq hi,show j-1+1=j by omega] at this;exact this
theorem UJ(h:IsP n a){i:Nat}(hi:i<16):∀k,it a (k*round a i) i=i
 |0=>by rw[Nat.zero_mul];rfl
 |k+1=>by rw[Nat.add_mul,Nat.one_mul,VQ,(ZK h hi).2.2.1,UJ h hi k]
def Vi(h:IsP n a){i:Nat}(hi:i<16)(k:Nat):it a k i=i↔round a i ∣ k:=by
 have hs:=ZK h hi;constructor
 ·intro e
  have e2:it a (k%round a i) i=i:=by
   have:=VQ a (k / round a i*round a i) (k%round a i) i;rw[UJ h hi,show k%round a i+k / round a i*round a i=k by rw[Nat.mul_comm,Nat.mod_add_div]] at this;rw[<- this];exact e
  have hlt:=Nat.mod_lt k hs.1;rcases Nat.eq_zero_or_pos (k%round a i) with z|z
  ·exact Nat.dvd_of_mod_eq_zero z
  ·exact absurd e2 (hs.2.2.2 _ z hlt)
 ·rintro⟨q,rfl⟩
  rw[Nat.mul_comm];exact UJ h hi q
def Zkb(a:List Nat)(j k i:Nat):it a j (it a k i)=it a k (it a j i):=by
 rw[<- VQ,<- VQ,Nat.add_comm]
def Ziy(h:IsP n a){i:Nat}(hi:i<16)(j:Nat):round a (it a j i)=round a i:=by
 have q:∀k,it a k (it a j i)=it a j i↔it a k i=i:=λk=>by
  rw[Zkb];exact⟨λe=>ZaN h (VY h hi k) hi j e,λe=>by rw[e]⟩
 apply Nat.dvd_antisymm
 ·exact(Vi h (VY h hi j) _).mp ((q _).mpr (ZK h hi).2.2.1)
 ·exact(Vi h hi _).mp ((q _).mp (ZK h (VY h hi j)).2.2.1)
def Jy(a:List Nat)(s:Nat):List Nat:=(List.range (round a s)).map λk=>it a k s
def Zcz(s:Nat):(Jy a s).length=round a s:=by
 unfold Jy;rw[length_map,length_range]
def Zds(h:IsP n a){s:Nat}(hs:s<16):(Jy a s).Nodup:=by
 refine pairwise_map.mpr (pairwise_lt_range.imp_of_mem ?_);intro x y hx hy hxy e;have hy:=mem_range.mp hy;have e2:it a (x+(y-x)) s=it a x (it a (y-x) s):=VQ a (y-x) x s;rw[show x+(y-x)=y by omega,<- e] at e2;exact(ZK h hs).2.2.2 (y-x) (by omega) (by omega) (ZaN h (VY h hs _) hs x e2.symm)
def UF(h:IsP n a){s:Nat}(hs:s<16)(k:Nat):it a k s∈Jy a s:=by
 have hp:=(ZK h hs).1;have e:it a k s=it a (k%round a s) s:=by
  have:=VQ a (k / round a s*round a s) (k%round a s) s;rw[UJ h hs,show k%round a s+k / round a s*round a s=k by rw[Nat.mul_comm,Nat.mod_add_div]] at this;exact this
 rw[e];exact mem_map.mpr ⟨_,mem_range.mpr (Nat.mod_lt _ hp),rfl⟩
def Jg{s x:Nat}(hx:x∈Jy a s):∃k,k<round a s/\x=it a k s:=by
 obtain⟨k,hk,e⟩:=mem_map.mp hx;exact⟨k,mem_range.mp hk,e.symm⟩
end
def mb(m:List Bool)(i:Nat):Bool:=m.getD i false
def Zk6{m:List Bool}{x i:Nat}(hx:x<m.length):mb (m.set x true) i=(decide (i=x)||mb m i):=by
 unfold mb;rw[getD_eq_getElem?_getD,getD_eq_getElem?_getD,List.getElem?_set];by_cases e:x=i
 ·subst e
  rw[if_pos rfl,if_pos hx];simp
 ·rw[if_neg e,decide_eq_false (λq=>e q.symm),Bool.false_or]
def JU(m:List Bool)(l:List Nat):List Bool:=l.foldl (λm x=>m.set x true) m
theorem Vf:∀(l:List Nat) (m:List Bool),(JU m l).length=m.length
 | [],_=>rfl
 |x::l,m=>by
  show(JU (m.set x true) l).length=_;rw[Vf l,length_set]
theorem UK:∀(l:List Nat) (m:List Bool),(∀x,x∈l->x<m.length)->∀i,mb (JU m l) i=(decide (i∈l)||mb m i)
 | [],m,_,i=>by simp[JU]
 |x::l,m,h,i=>by
  show mb (JU (m.set x true) l) i=_;rw[UK l (m.set x true) (λy hy=>by rw[length_set];exact h y (mem_cons_of_mem _ hy)) i,Zk6 (h x mem_cons_self)];by_cases h1:i∈l<;>by_cases h2:i=x<;>simp[h1,h2]
def ZdJ(m:List Bool)(l:List Nat)(x:Nat):JU m (l++[x])=(JU m l).set x true:=by
 unfold JU;rw[foldl_append];rfl
structure VN(n:Nat)(a:List Nat)(m:List Bool):Prop where
 len:m.length=n
 cl:∀i,i<n->mb m (at_ a i)=mb m i
section
variable{n:Nat}{a:List Nat}{m:List Bool}
theorem VN.it(c:VN n a m)(h:IsP n a)(hn:n<=16){s:Nat}(hs:s<n):∀k,mb m (it a k s)=mb m s
 |0=>rfl
 |k+1=>(c.cl _ (UR h hn hs k)).trans (VN.it c h hn hs k)
structure V4(n:Nat)(a:List Nat)(m0:List Bool)(s L:Nat)(m:List Bool)(x:Nat):Prop where
 hm:m=JU m0 ((List.range L).map λk=>RM.it a k s)
 hx:x=RM.it a L s
 hL:if mb m0 s=true then L=0 else L<=round a s
variable{m0:List Bool}{s L x:Nat}
def V4.start(m0:List Bool)(s:Nat):V4 n a m0 s 0 m0 s:=⟨rfl,rfl,by split<;>omega⟩
def V4.xlt(w:V4 n a m0 s L m x)(h:IsP n a)(hn:n<=16)(hs:s<n):x<n:=by rw[w.hx];exact UR h hn hs _
def V4.mlen(w:V4 n a m0 s L m x)(c:VN n a m0):m.length=n:=by rw[w.hm,Vf];exact c.len
theorem V4.mb(w:V4 n a m0 s L m x)(c:VN n a m0)(h:IsP n a)(hn:n<=16)(hs:s<n)(i:Nat):RM.mb m i=(decide (i∈(List.range L).map λk=>RM.it a k s)||RM.mb m0 i):=by
 rw[w.hm,UK];intro y hy;obtain⟨k,_,rfl⟩:=mem_map.mp hy;rw[c.len];exact UR h hn hs k
def V4.unmet(w:V4 n a m0 s L m x)(c:VN n a m0)(h:IsP n a)(hn:n<=16)(hs:s<n)(hx:RM.mb m x=false):RM.mb m0 s=false/\L<round a s:=by
 rw[w.mb c h hn hs,Bool.or_eq_false_iff,decide_eq_false_iff_not] at hx;have h0:RM.mb m0 s=false:=by rw[<- c.it h hn hs L,<- w.hx];exact hx.2
 refine⟨h0,?_⟩;have hL:=w.hL;rw[if_neg (by rw[h0];decide)] at hL;rcases Nat.lt_or_eq_of_le hL with q|q
 ·exact q
 ·exfalso
  apply hx.1;rw[w.hx,q,(ZK h (show s<16 by omega)).2.2.1];exact mem_map.mpr ⟨0,mem_range.mpr (ZK h (show s<16 by omega)).1,rfl⟩
def V4.turn(w:V4 n a m0 s L m x)(c:VN n a m0)(h:IsP n a)(hn:n<=16)(hs:s<n)(hx:RM.mb m x=false):V4 n a m0 s (L+1) (m.set x true) (at_ a x):=by
 obtain⟨h0,h1⟩:=w.unmet c h hn hs hx;refine⟨?_,by rw[w.hx];rfl,by rw[if_neg (by rw[h0];decide)];omega⟩;rw[range_succ,map_append,List.map_singleton,ZdJ,<- w.hm,<- w.hx]
def V4.done(w:V4 n a m0 s L m x)(c:VN n a m0)(h:IsP n a)(hn:n<=16)(hs:s<n)(hx:RM.mb m x=true) :
  (RM.mb m0 s=true/\L=0/\m=m0)\/(RM.mb m0 s=false/\L=round a s/\m=JU m0 (Jy a s)):=by
 have hL:=w.hL;have hm:=w.hm;cases h0:RM.mb m0 s with
 |true=>
  rw[if_pos h0] at hL;subst hL;exact .inl ⟨rfl,rfl,hm⟩
 |false=>
  rw[if_neg (by rw[h0];decide)] at hL;have e:L=round a s:=by
   rcases Nat.lt_or_eq_of_le hL with q|q
   ·exfalso
    rw[w.mb c h hn hs,w.hx,c.it h hn hs L,h0,Bool.or_false,decide_eq_true_eq] at hx;obtain⟨j,hj,e⟩:=mem_map.mp hx;have hj:=mem_range.mp hj;have e2:=VQ a (L-j) j s;rw[show j+(L-j)=L by omega,<- e] at e2;have hs16:s<16:=by omega
    exact(ZK h hs16).2.2.2 (L-j) (by omega) (by omega) (ZaN h (VY h hs16 _) hs16 j e2.symm)
   ·exact q
  refine .inr ⟨rfl,e,?_⟩;rw[hm,e];rfl
def Ym(a:List Nat)(q:List Bool×List Nat)(s:Nat):List Bool×List Nat:=if mb q.1 s=true then q else (JU q.1 (Jy a s),q.2++[round a s])
def ZI(n:Nat)(a:List Nat)(k:Nat):List Bool×List Nat:=(List.range k).foldl (Ym a) (List.replicate n false,[])
def ZE(n:Nat)(a:List Nat):List Nat:=(ZI n a n).2
def Vc(n:Nat)(a:List Nat)(k:Nat):ZI n a (k+1)=Ym a (ZI n a k) k:=by
 unfold ZI;rw[range_succ,foldl_append];rfl
def cnt(n:Nat)(a:List Nat)(m:List Bool)(L:Nat):Nat:=((List.range n).filter λi=>mb m i&&(round a i==L)).length
structure Zaq(n:Nat)(a:List Nat)(q:List Bool×List Nat):Prop where
 cl:VN n a q.1
 ct:∀L,cnt n a q.1 L=L*q.2.count L
 sm:((List.range n).filter (mb q.1)).length=q.2.sum
def DS(h:IsP n a)(hn:n<=16){s:Nat}(hs:s<n):((List.range n).filter λi=>decide (i∈Jy a s)).length=round a s:=by
 have hs16:s<16:=by omega
 rw[<- Zcz (a:=a) s];apply List.Perm.length_eq;refine(List.perm_ext_iff_of_nodup (List.nodup_range.sublist List.filter_sublist) (Zds h hs16)).mpr λi=>?_;rw[mem_filter,decide_eq_true_eq,mem_range];constructor
 ·exact λz=>z.2
 ·intro z
  obtain⟨k,_,rfl⟩:=Jg z;exact⟨UR h hn hs k,z⟩
theorem VT{p q:Nat->Bool}:∀(l:List Nat),(∀i,i∈l->p i=true->q i=true->False)->(l.filter λi=>p i||q i).length=(l.filter p).length+(l.filter q).length
 | [],_=>rfl
 |x::l,h=>by
  have ih:=VT l λi hi=>h i (mem_cons_of_mem _ hi);have hx:=h x mem_cons_self;rw[List.filter_cons,List.filter_cons,List.filter_cons];cases hp:p x<;>cases hq:q x
  ·simpa using ih
  ·simp[ih];omega
  ·simp[ih];omega
  ·exact(hx hp hq).elim
def JR{p q:Nat->Bool}{l:List Nat}(h:∀i,i∈l->p i=q i):l.filter p=l.filter q:=filter_congr h
def Zaq.step{q:List Bool×List Nat}(c:Zaq n a q)(h:IsP n a)(hn:n<=16){s:Nat}(hs:s<n):Zaq n a (Ym a q s):=by
 unfold Ym;split
 ·exact c
 ·rename_i h0
  rw[Bool.not_eq_true] at h0;have hs16:s<16:=by omega
  have hin:∀x,x∈Jy a s->x<q.1.length:=λx hx=>by
   obtain⟨k,_,rfl⟩:=Jg hx;rw[c.cl.len];exact UR h hn hs k
  have hmb:=UK (Jy a s) q.1 hin;have hno:∀x,x∈Jy a s->mb q.1 x=false:=λx hx=>by
   obtain⟨k,_,rfl⟩:=Jg hx;rw[c.cl.it h hn hs k];exact h0
  have hr:∀x,x∈Jy a s->round a x=round a s:=λx hx=>by
   obtain⟨k,_,rfl⟩:=Jg hx;exact Ziy h hs16 k
  have mo:∀i,i<n->(at_ a i∈Jy a s↔i∈Jy a s):=λi hi=>by
   constructor
   ·intro z
    obtain⟨k,hk,e⟩:=Jg z;rcases Nat.eq_zero_or_pos k with z|z
    ·subst z
     have e2:at_ a i=it a (round a s) s:=e.trans (ZK h hs16).2.2.1.symm;have hp:=(ZK h hs16).1;rw[show round a s=(round a s-1)+1 by omega] at e2;have:=h.inj (by omega) (VY h hs16 _) e2;rw[this];exact UF h hs16 _
    ·rw[show k=(k-1)+1 by omega] at e
     have:=h.inj (by omega) (VY h hs16 _) e;rw[this];exact UF h hs16 _
   ·intro z
    obtain⟨k,hk,e⟩:=Jg z;rw[e];exact UF h hs16 (k+1)
  refine⟨⟨by rw[Vf];exact c.cl.len,λi hi=>?_⟩,λL=>?_,?_⟩
  ·rw[hmb,hmb,c.cl.cl i hi]
   congr 1;exact decide_eq_decide.mpr (mo i hi)
  ·unfold cnt
   rw[List.count_append,List.count_singleton,Nat.mul_add,<- c.ct L];have e1:(List.range n).filter (λi=>mb (JU q.1 (Jy a s)) i&&(round a i==L))=(List.range n).filter (λi=>(mb q.1 i&&(round a i==L))||(decide (i∈Jy a s)&&(round a s==L))):=
    JR λi hi=>by
     rw[hmb];by_cases z:i∈Jy a s
     ·rw[hr i z,hno i z];simp[z]
     ·simp[z]
   rw[e1,VT]
   ·congr 1
    by_cases z:round a s=L
    ·subst z
     rw[if_pos (beq_self_eq_true _),Nat.mul_one];rw[JR (q:=λi=>decide (i∈Jy a s)) λi _=>by simp];exact DS h hn hs
    ·rw[if_neg (by simpa using z),Nat.mul_zero]
     rw[length_eq_zero_iff,List.filter_eq_nil_iff];intro i _;simp[z]
   ·intro i _ h1 h2
    rw[Bool.and_eq_true] at h1 h2;rw[hno i (of_decide_eq_true h2.1)] at h1;exact Bool.noConfusion h1.1
  ·show((List.range n).filter (mb (JU q.1 (Jy a s)))).length=(q.2++[round a s]).sum
   rw[List.sum_append,<- c.sm];have e1:(List.range n).filter (mb (JU q.1 (Jy a s)))=(List.range n).filter (λi=>mb q.1 i||decide (i∈Jy a s)):=
    JR λi _=>by rw[hmb,Bool.or_comm]
   rw[e1,VT,DS h hn hs]
   ·simp
   ·intro i _ h1 h2
    rw[hno i (of_decide_eq_true h2)] at h1;exact Bool.noConfusion h1
def Zcn(n i:Nat):mb (List.replicate n false) i=false:=by
 unfold mb;rw[getD_eq_getElem?_getD,getElem?_replicate];split<;>rfl
theorem VW(h:IsP n a)(hn:n<=16):∀k,k<=n->Zaq n a (ZI n a k)/\∀i,i<k->mb (ZI n a k).1 i=true
 |0,_=>by
  refine⟨⟨⟨length_replicate,λi _=>by show mb (List.replicate n false) _=mb (List.replicate n false) _;rw[Zcn,Zcn]⟩,λL=>?_,?_⟩,λi hi=>absurd hi (Nat.not_lt_zero _)⟩
  ·show cnt n a (List.replicate n false) L=L*List.count L []
   rw[List.count_nil,Nat.mul_zero];unfold cnt;rw[length_eq_zero_iff,List.filter_eq_nil_iff];intro i _;rw[Zcn];simp
  ·show((List.range n).filter (mb (List.replicate n false))).length=List.sum []
   rw[List.sum_nil,length_eq_zero_iff,List.filter_eq_nil_iff];intro i _;rw[Zcn];simp
 |k+1,hk=>by
  obtain⟨c,hm⟩:=VW h hn k (by omega);rw[Vc];refine⟨c.step h hn (by omega),λi hi=>?_⟩;unfold Ym;have hin:∀x,x∈Jy a k->x<(ZI n a k).1.length:=λx hx=>by
   obtain⟨j,_,rfl⟩:=Jg hx;rw[c.cl.len];exact UR h hn (by omega) j
  split
  ·rename_i h0
   rcases Nat.lt_or_eq_of_le (show i<=k by omega) with q|q
   ·exact hm i q
   ·rw[q];exact h0
  ·show mb (JU (ZI n a k).1 (Jy a k)) i=true
   rw[UK _ _ hin];rcases Nat.lt_or_eq_of_le (show i<=k by omega) with q|q
   ·rw[hm i q,Bool.or_true]
   ·rw[q,decide_eq_true (show k∈Jy a k from UF h (show k<16 by omega) 0),Bool.true_or]
def ZaP(h:IsP n a)(hn:n<=16)(L:Nat):((List.range n).filter λi=>round a i==L).length=L*(ZE n a).count L:=by
 obtain⟨c,hm⟩:=VW h hn n (Nat.le_refl _);rw[show ZE n a=(ZI n a n).2 from rfl,<- c.ct L];unfold cnt;congr 1;exact JR λi hi=>by rw[hm i (mem_range.mp hi),Bool.true_and]
def Zef(h:IsP n a)(hn:n<=16):(ZE n a).sum=n:=by
 obtain⟨c,hm⟩:=VW h hn n (Nat.le_refl _);rw[show ZE n a=(ZI n a n).2 from rfl,<- c.sm,JR (q:=λ_=>true) λi hi=>hm i (mem_range.mp hi),filter_eq_self.mpr (λ_ _=>rfl),length_range]
def Df(h:IsP n a)(hn:n<=16){L:Nat}(hL:0<L):L∈ZE n a ↔ ∃i,i<n/\round a i=L:=by
 have e:=ZaP h hn L;rw[<- List.count_pos_iff];constructor
 ·intro z
  have:0<((List.range n).filter λi=>round a i==L).length:=by
   rw[e];exact Nat.mul_pos hL z
  obtain⟨i,hi⟩:=List.exists_mem_of_length_pos this;rw[mem_filter,mem_range,beq_iff_eq] at hi;exact⟨i,hi⟩
 ·rintro⟨i,hi,er⟩
  have:i∈(List.range n).filter λi=>round a i==L:=by
   rw[mem_filter,mem_range,beq_iff_eq];exact⟨hi,er⟩
  have:=List.length_pos_of_mem this;rw[e] at this;exact Nat.pos_of_mul_pos_left this
theorem JC(n:Nat)(a:List Nat)(h:IsP n a)(hn:n<=16):∀k,k<=n->∀L,L∈(ZI n a k).2->0<L/\L<=16
 |0,_,L,hL=>by simp[ZI] at hL
 |k+1,hk,L,hL=>by
  rw[Vc] at hL;unfold Ym at hL;split at hL
  ·exact JC n a h hn k (by omega) L hL
  ·rcases mem_append.mp hL with z|z
   ·exact JC n a h hn k (by omega) L z
   ·rw[mem_singleton] at z
    have:=ZK h (show k<16 by omega);omega
def ZhF(h:IsP n a)(hn:n<=16):shape n a=made λj=>(ZE n a).count (j+1):=by
 unfold shape;congr 1
 funext j
 rw[ZaP h hn (j+1),Nat.mul_div_cancel_left _ (Nat.succ_pos j)]
def Zg6(h:IsP n a)(hn:n<=16):paired n a=(ZE n a).all λL=>L==2:=by
 have key:∀i,i<16->((at_ a i≠i/\at_ a (at_ a i)=i)↔round a i=2):=λi hi=>by
  have hs:=ZK h hi;constructor
  ·rintro⟨h1,h2⟩
   have d:round a i ∣ 2:=(Vi h hi 2).mp h2;have:=Nat.le_of_dvd (by decide) d;have n1:round a i≠1:=λe=>h1 (by have:=hs.2.2.1;rw[e] at this;exact this);omega
  ·intro e
   rw[e] at hs;exact⟨hs.2.2.2 1 (by decide) (by decide),hs.2.2.1⟩
 rw[Bool.eq_iff_iff];unfold paired;rw[all_eq_true,all_eq_true];constructor
 ·intro q L hL
  obtain⟨hp,_⟩:=JC n a h hn n (Nat.le_refl _) L hL;obtain⟨i,hi,e⟩:=(Df h hn hp).mp hL;have:=q i (mem_range.mpr hi);rw[Bool.and_eq_true,bne_iff_ne,beq_iff_eq] at this;rw[beq_iff_eq,<- e];exact(key i (by omega)).mp this
 ·intro q i hi
  have hi:=mem_range.mp hi;rw[Bool.and_eq_true,bne_iff_ne,beq_iff_eq];refine(key i (by omega)).mpr ?_;have:=q (round a i) ((Df h hn (ZK h (show i<16 by omega)).1).mpr ⟨i,hi,rfl⟩);exact beq_iff_eq.mp this
end
def Zk0{a b t:Nat}(ha:0<a)(hb:0<b)(ht:0<t)(hd:b ∣ a*t)(hm:∀u,0<u->u<t->¬ b ∣ a*u):a*t=Nat.lcm a b:=by
 obtain⟨u,hu⟩:=Nat.dvd_lcm_left a b;have hl:0<Nat.lcm a b:=Nat.lcm_pos ha hb;have hu0:0<u:=Nat.pos_of_ne_zero λe=>by rw[e,Nat.mul_zero] at hu;omega
 have h1:Nat.lcm a b ∣ a*t:=Nat.lcm_dvd (Nat.dvd_mul_right a t) hd;have h2:=Nat.le_of_dvd (Nat.mul_pos ha ht) h1;rw[hu] at h2;have h3:u<=t:=Nat.le_of_mul_le_mul_left h2 ha;rcases Nat.lt_or_eq_of_le h3 with q|q
 ·exact absurd (by rw[<- hu];exact Nat.dvd_lcm_right a b) (hm u hu0 q)
 ·rw[hu,q]
def chk:Nat->Nat->Nat->Bool
 |0,s,acc=>s==0&&decide (acc<=140)
 |f+1,s,acc=>if s=0 then decide (acc<=140) else (List.range s).all λL=>chk f (s-(L+1)) (Nat.lcm acc (L+1))
def Zkr:chk 16 16 1=true:=by decide +kernel
theorem ZhY:∀(f s acc:Nat),chk f s acc=true->∀l:List Nat,(∀x,x∈l->0<x)->l.sum=s->l.foldl Nat.lcm acc<=140
 |0,s,acc,h,l,hp,hs=>by
  unfold chk at h;rw[Bool.and_eq_true,beq_iff_eq,decide_eq_true_eq] at h;cases l with
  |nil=>exact h.2
  |cons x r=>
   have:=hp x mem_cons_self;rw[sum_cons] at hs;omega
 |f+1,s,acc,h,l,hp,hs=>by
  unfold chk at h;cases l with
  |nil=>
   rw[List.sum_nil] at hs;rw[if_pos hs.symm,decide_eq_true_eq] at h;exact h
  |cons x r=>
   have hx:=hp x mem_cons_self;rw[sum_cons] at hs;rw[if_neg (by omega),all_eq_true] at h;have:=h (x-1) (mem_range.mpr (by omega));rw[show x-1+1=x by omega] at this;exact ZhY f (s-x) (Nat.lcm acc x) this r (λy hy=>hp y (mem_cons_of_mem _ hy)) (by omega)
theorem Dj:∀(l:List Nat) (acc k:Nat),l.foldl Nat.lcm acc ∣ k↔acc ∣ k/\∀x,x∈l->x ∣ k
 | [],acc,k=>by simp
 |x::l,acc,k=>by
  rw[List.foldl_cons,Dj l,Nat.lcm_dvd_iff];constructor
  ·rintro⟨⟨h1,h2⟩,h3⟩
   refine⟨h1,λy hy=>?_⟩;rcases mem_cons.mp hy with rfl|hy
   ·exact h2
   ·exact h3 y hy
  ·rintro⟨h1,h2⟩
   exact⟨⟨h1,h2 x mem_cons_self⟩,λy hy=>h2 y (mem_cons_of_mem _ hy)⟩
theorem VJ:∀(l:List Nat) (acc:Nat),0<acc->(∀x,x∈l->0<x)->0<l.foldl Nat.lcm acc
 | [],_,h,_=>h
 |x::l,acc,h,hp=>VJ l _ (Nat.lcm_pos h (hp x mem_cons_self)) λy hy=>hp y (mem_cons_of_mem _ hy)
def Zdv{n:Nat}{a:List Nat}(h:IsP n a)(k:Nat):powerOf a k=still ↔ ∀i,i<16->round a i ∣ k:=by
 constructor
 ·intro e i hi
  refine(Vi h hi k).mp ?_;rw[<- Vq hi,e,Vr hi]
 ·intro q
  refine VX ((Dg k).trans Ya.symm) λi hi=>?_;rw[Dg] at hi;rw[Vq hi,Vr hi];exact(Vi h hi k).mpr (q i hi)
def ZjB{a:List Nat}(h:IsP 16 a):(ZE 16 a).foldl Nat.lcm 1<=140:=
 ZhY 16 16 1 Zkr _ (λx hx=>(JC 16 a h (Nat.le_refl _) 16 (Nat.le_refl _) x hx).1) (Zef h (Nat.le_refl _))
def ZhQ{a:List Nat}(h:IsP 16 a):order a=(ZE 16 a).foldl Nat.lcm 1:=by
 have hp:=VJ (ZE 16 a) 1 (by decide) λx hx=>(JC 16 a h (Nat.le_refl _) 16 (Nat.le_refl _) x hx).1;have key:∀k,powerOf a k=still↔(ZE 16 a).foldl Nat.lcm 1 ∣ k:=λk=>by
  rw[Zdv h,Dj];constructor
  ·refine λq=>⟨Nat.one_dvd k,λx hx=>?_⟩
   obtain⟨i,hi,e⟩:=(Df h (Nat.le_refl _) (JC 16 a h (Nat.le_refl _) 16 (Nat.le_refl _) x hx).1).mp hx;rw[<- e];exact q i hi
  ·rintro⟨_,q⟩ i hi
   exact q _ ((Df h (Nat.le_refl _) (ZK h hi).1).mpr ⟨i,hi,rfl⟩)
 have hle:=ZjB h;revert hp key hle;generalize (ZE 16 a).foldl Nat.lcm 1=m;intro hp key hle;unfold order;have:(List.range 140).find? (λk=>powerOf a (k+1)==still)=some (m-1):=by
  refine List.find?_range_eq_some.mpr ⟨?_,mem_range.mpr (by omega),λj _=>?_⟩
  ·rw[beq_iff_eq,key,show m-1+1=m by omega]
   exact Nat.dvd_refl m
  ·rw[Bool.not_eq_true',beq_eq_false_iff_ne]
   intro e;have:=Nat.le_of_dvd (Nat.succ_pos j) ((key (j+1)).mp e);omega
 rw[this];show m-1+1=m;omega
def ZlK{f:Nat->Nat}{a:List Nat}{i:Nat}(h:i<a.length):at_ (a.map f) i=f (at_ a i):=by
 apply Jh;rw[getElem?_map,Za1 h];rfl
def Uh{a b:List Nat}{i:Nat}(h:i<a.length):at_ (a++b) i=at_ a i:=by
 apply Jh;rw[getElem?_append_left h,Za1 h]
def Zad{a b:List Nat}{i:Nat}(h:a.length<=i):at_ (a++b) i=at_ b (i-a.length):=by
 unfold at_;rw[getD_eq_getElem?_getD,getElem?_append_right h,getD_eq_getElem?_getD]
def Zi4{n i:Nat}(h:i<n):at_ (List.range n) i=i:=by
 apply Jh;rw[getElem?_range h]
def ZjC{a:List Nat}{n i:Nat}:at_ (a.drop n) i=at_ a (n+i):=by
 unfold at_;rw[getD_eq_getElem?_getD,getElem?_drop,getD_eq_getElem?_getD]
def Zd4:still=List.range 16:=VX (by rw[Ya,length_range]) λi hi=>by
 have hi:i<16:=by rw[Ya] at hi;exact hi
 rw[Vr hi,Zi4 hi]
def Zhi(n:Nat):IsP n still:=⟨Ya,by rw[Zd4],λi _ h=>Vr h⟩
def ZeU{n:Nat}{a:List Nat}(hl:a.length=16)(hlt:∀i,i<16->at_ a i<16)(hs:∀x,x<16->∃i,i<16/\at_ a i=x)(ho:∀i,n<=i->i<16->at_ a i=i):IsP n a:=
 ⟨hl,Ze1 16 a hl λx hx=>by
  obtain⟨i,hi,e⟩:=hs x hx;rw[<- e];exact Zdi (by omega),ho⟩
def VL{a b:List Nat}(ha:a.length=16):then_ a b=a.map (at_ b):=
 VX (by rw[length_map,ha];exact Zt _) λi hi=>by
  have hi:i<16:=by rw[show(then_ a b).length=16 from Zt _] at hi;exact hi
  rw[show at_ (then_ a b) i=at_ b (at_ a i) from J5 _ hi,ZlK (by omega)]
def JL{a b:List Nat}{i:Nat}(hi:i<16):at_ (then_ a b) i=at_ b (at_ a i):=J5 _ hi
def YU{n:Nat}{a b:List Nat}(ha:IsP n a)(hb:IsP n b):IsP n (then_ a b):=by
 refine ZeU (Zt _) (λi hi=>?_) (λx hx=>?_) λi h1 h2=>?_
 ·rw[JL hi]
  exact hb.lt (ha.lt hi)
 ·obtain⟨j,hj,e⟩:=hb.surj hx
  obtain⟨i,hi,e'⟩:=ha.surj hj;exact⟨i,hi,by rw[JL hi,e',e]⟩
 ·rw[JL h2,ha.out i h1 h2,hb.out i h1 h2]
def VP{a:List Nat}{x:Nat}(h:x∈a):placeOf a x<a.length/\at_ a (placeOf a x)=x:=by
 unfold placeOf;cases e:a.findIdx? (λy=>y==x) with
 |none=>
  rw[List.findIdx?_eq_none_iff] at e;have:=e x h;simp at this
 |some i=>
  rw[List.findIdx?_eq_some_iff_getElem] at e;obtain⟨hi,h1,_⟩:=e;rw[Option.getD_some];exact⟨hi,by rw[JW hi];exact eq_of_beq h1⟩
def ZaO{a:List Nat}(hn:a.Nodup){i:Nat}(hi:i<a.length):placeOf a (at_ a i)=i:=by
 obtain⟨h1,h2⟩:=VP (Zdi hi);have h3:a[placeOf a (at_ a i)]=a[i]:=by rw[<- JW h1,h2,JW hi]
 exact(List.getElem_inj hn).mp h3
def V5(a:List Nat):(back a).length=16:=Zt _
def Zaj{a:List Nat}{i:Nat}(hi:i<16):at_ (back a) i=placeOf a i:=J5 _ hi
section
variable{n:Nat}{a:List Nat}
def ZfQ(h:IsP n a){x:Nat}(hx:x<16):at_ (back a) x<16/\at_ a (at_ (back a) x)=x:=by
 rw[Zaj hx];have:=VP (h.mem.mpr hx);rw[h.len] at this;exact this
def Du(h:IsP n a){x i:Nat}(hi:i<16)(e:at_ a i=x):at_ (back a) x=i:=by
 subst e;rw[Zaj (h.lt hi),ZaO h.nodup (by rw[h.len];exact hi)]
def ZdC(h:IsP n a):IsP n (back a):=by
 refine ZeU (V5 a) (λi hi=>(ZfQ h hi).1) (λx hx=>⟨at_ a x,h.lt hx,Du h hx rfl⟩) λi h1 h2=>Du h h2 (h.out i h1 h2)
end
def Yg(a:List Nat)(i:Nat):List Nat:=made λx=>if x∈a.take i then placeOf a x else 0
def Zfp(a:List Nat):Yg a 0=List.replicate 16 0:=VX (by rw[length_replicate];exact Zt _) λi hi=>by
 have hi:i<16:=by rw[show(Yg a 0).length=16 from Zt _] at hi;exact hi
 rw[show at_ (Yg a 0) i=_ from J5 _ hi,if_neg (by simp)];rw[JW (by rw[length_replicate];exact hi),List.getElem_replicate]
def Zez{n:Nat}{a:List Nat}(h:IsP n a){i x:Nat}(hx:a[i]? = some x):Yg a (i+1)=(Yg a i).set x i:=by
 have hi:i<a.length:=(List.getElem?_eq_some_iff.mp hx).1;have hxe:at_ a i=x:=Jh hx;apply VX
 ·rw[length_set]
  exact(Zt _).trans (Zt _).symm
 ·intro j hj
  have hj:j<16:=by rw[show(Yg a (i+1)).length=16 from Zt _] at hj;exact hj
  rw[show at_ (Yg a (i+1)) j=_ from J5 _ hj];have ht:a.take (i+1)=a.take i++[x]:=by rw[take_succ,hx];rfl
  by_cases e:j=x
  ·subst e
   rw[ht,if_pos (by simp)];have:at_ ((Yg a i).set j i) j=i:=Jh (getElem?_set_self (by rw[show(Yg a i).length=16 from Zt _];exact hj));rw[this,<- hxe,ZaO h.nodup hi]
  ·have:at_ ((Yg a i).set x i) j=at_ (Yg a i) j:=by
    unfold at_;rw[getD_eq_getElem?_getD,getElem?_set_ne (λq=>e q.symm),getD_eq_getElem?_getD]
   rw[this,show at_ (Yg a i) j=_ from J5 _ hj,ht];simp[e]
def ZgT{n:Nat}{a:List Nat}(h:IsP n a):Yg a a.length=back a:=by
 apply VX
 ·exact(Zt _).trans (Zt _).symm
 ·intro j hj
  have hj:j<16:=by rw[show(Yg a a.length).length=16 from Zt _] at hj;exact hj
  rw[show at_ (Yg a a.length) j=_ from J5 _ hj,take_length,if_pos (h.mem.mpr hj),Zaj hj]
def Zd5{n:Nat}{a b:List Nat}(ha:IsP n a)(hb:IsP n b):IsP n (seen a b):=YU (YU hb ha) (ZdC hb)
def Ju(n k:Nat)(a:List Nat):(turned n k a).length=16:=Zt _
def JN{n k:Nat}{a:List Nat}{i:Nat}(hi:i<16):at_ (turned n k a) i=if i<n then (at_ a ((i+k)%n)+(n-k%n))%n else i:=J5 _ hi
def ZeS{n k:Nat}(hn:0<n)(a:List Nat):turned n (k%n) a=turned n k a:=by
 apply VX
 ·rw[Ju,Ju]
 ·intro i hi
  have hi:i<16:=by rw[Ju] at hi;exact hi
  rw[JN hi,JN hi,Nat.mod_mod,Nat.add_mod_mod]
def ZeE{n k:Nat}{a:List Nat}(h:IsP n a)(h2:0<n)(hn:n<=16):IsP n (turned n k a):=by
 have low:∀i,i<n->at_ (turned n k a) i<n:=λi hi=>by
  rw[JN (by omega),if_pos hi];exact Nat.mod_lt _ h2
 refine ZeU (Ju n k a) (λi hi=>?_) (λx hx=>?_) λi h1 h3=>by rw[JN h3,if_neg (by omega)]
 ·by_cases e:i<n
  ·have:=low i e
   omega
  ·rw[JN hi,if_neg e]
   exact hi
 ·by_cases e:x<n
  ·obtain⟨j,hj,e1⟩:=h.surj (x:=(x+k)%n) (by have:=Nat.mod_lt (x+k) h2;omega)
   have hjn:j<n:=by
    rcases Nat.lt_or_ge j n with q|q
    ·exact q
    ·have:=h.out j q hj
     have:=Nat.mod_lt (x+k) h2;omega
   refine⟨(j+(n-k%n))%n,by have:=Nat.mod_lt (j+(n-k%n)) h2;omega,?_⟩;rw[JN (by have:=Nat.mod_lt (j+(n-k%n)) h2;omega),if_pos (Nat.mod_lt _ h2)];have hk:=Nat.mod_lt k h2;have e2:((j+(n-k%n))%n+k)%n=j:=by
    rw[Nat.mod_add_mod,Nat.add_mod,show(j+(n-k%n))%n+k%n=(j+(n-k%n))%n+k%n from rfl];rw[Nat.mod_add_mod,show j+(n-k%n)+k%n=j+n by omega,Nat.add_mod_right,Nat.mod_eq_of_lt hjn]
   rw[e2,e1];rw[Nat.mod_add_mod,Nat.add_assoc,show k+(n-k%n)=(k-k%n)+n by have:=Nat.mod_le k n;omega];rw[<- Nat.add_assoc,Nat.add_mod_right];have e3:(k-k%n)%n=0:=by
    have:=Nat.div_add_mod k n;rw[show k-k%n=n*(k / n) by omega];exact Nat.mul_mod_right _ _
   rw[Nat.add_mod,e3,Nat.add_zero,Nat.mod_mod,Nat.mod_eq_of_lt e]
  ·exact⟨x,hx,by rw[JN hx,if_neg e]⟩
def ZgF{n:Nat}{a:List Nat}{k:Int}(h2:0<n)(hn:n<=16)(h:IsP n a) :
  turned n (k%(n:Int)).toNat a=((List.range n).map λ(i:Nat)=>((((at_ a (((i:Int)+k)%(n:Int)).toNat:Nat):Int)-k)%(n:Int)).toNat)++a.drop n:=by
 have hn0:(0:Int)<(n:Int):=by omega
 have hk1:=Int.emod_nonneg k (show(n:Int)≠0 by omega);have hk2:=Int.emod_lt_of_pos k hn0;obtain⟨q,hq⟩ : ∃q:Nat,k%(n:Int)=(q:Int):=⟨(k%(n:Int)).toNat,by omega⟩;have hqn:q<n:=by omega
 have hd:k=(n:Int)*(k / (n:Int))+(q:Int):=by have:=Int.mul_ediv_add_emod k (n:Int);omega
 rw[hq,Int.toNat_natCast];apply VX
 ·rw[Ju,length_append,length_map,length_range,length_drop,h.len]
  omega
 ·intro i hi
  have hi:i<16:=by rw[Ju] at hi;exact hi
  rw[JN hi];by_cases e:i<n
  ·rw[if_pos e,Uh (by rw[length_map,length_range];exact e)]
   rw[Jh (a:=(List.range n).map _) (i:=i) (x:=_) (by rw[getElem?_map,getElem?_range e];rfl)];have e1:(((i:Int)+k)%(n:Int)).toNat=(i+q)%n:=by
    rw[hd,<- Int.add_assoc,Int.add_right_comm,Int.add_mul_emod_self_left];rw[show((i:Int)+(q:Int))=((i+q:Nat):Int) by omega,<- Int.natCast_emod,Int.toNat_natCast]
   show _=((((at_ a (((i:Int)+k)%(n:Int)).toNat:Nat):Int)-k)%(n:Int)).toNat;rw[e1,Nat.mod_eq_of_lt hqn];generalize at_ a ((i+q)%n)=y;show _=(((y:Int)-k)%(n:Int)).toNat;have e2:((y:Int)-k)%(n:Int)=((y+(n-q):Nat):Int)%(n:Int):=by
    rw[show((y:Int)-k)=((y+(n-q):Nat):Int)+(n:Int)*(-(k / (n:Int))-1) by
     rw[Int.mul_sub,Int.mul_neg];omega]
    rw[Int.add_mul_emod_self_left]
   rw[e2,<- Int.natCast_emod,Int.toNat_natCast]
  ·rw[if_neg e,Zad (by rw[length_map,length_range];omega),length_map,length_range,ZjC,show n+(i-n)=i by omega,h.out i (by omega) hi]
def Zr(n:Nat):List Nat->Nat
 | []=>0
 |s::p=>s+n*Zr n p
def ZO(n:Nat)(p:List Nat):Prop:=∀x,x∈p->x<n
def ZO.nil(n:Nat):ZO n []:=λ_ h=>absurd h (by simp)
def ZO.head{n s:Nat}{p:List Nat}(h:ZO n (s::p)):s<n:=h s mem_cons_self
def ZO.tail{n s:Nat}{p:List Nat}(h:ZO n (s::p)):ZO n p:=λx hx=>h x (mem_cons_of_mem _ hx)
def ZO.cons{n s:Nat}{p:List Nat}(hs:s<n)(h:ZO n p):ZO n (s::p):=λx hx=>by
 rcases mem_cons.mp hx with rfl|hx
 ·exact hs
 ·exact h x hx
theorem U6{n:Nat}:∀(p:List Nat),ZO n p->Zr n p<n^p.length
 | [],_=>by simp[Zr]
 |s::p,h=>by
  have h1:=U6 p h.tail;have h2:=h.head;show s+n*Zr n p<n^(p.length+1);rw[Nat.pow_succ,Nat.mul_comm (n^p.length) n];have:n*(Zr n p+1)<=n*n^p.length:=Nat.mul_le_mul_left n h1;rw[Nat.mul_add,Nat.mul_one] at this;omega
theorem J1{n:Nat}:∀(p:List Nat),ZO n p->stand n p.length (Zr n p)=p
 | [],_=>rfl
 |s::p,h=>by
  have hs:=h.head;show(s+n*Zr n p)%n::stand n p.length ((s+n*Zr n p) / n)=s::p;rw[Nat.add_mul_mod_self_left,Nat.mod_eq_of_lt hs,Nat.add_mul_div_left _ _ (by omega),Nat.div_eq_of_lt hs,Nat.zero_add,J1 p h.tail]
theorem J9(n:Nat):∀(k x:Nat),(stand n k x).length=k
 |0,_=>rfl
 |k+1,x=>by
  show(stand n k (x / n)).length+1=k+1;rw[J9 n k]
theorem Zeq{n:Nat}(hn:0<n):∀(k x:Nat),ZO n (stand n k x)
 |0,_=>ZO.nil n
 |k+1,x=>ZO.cons (Nat.mod_lt _ hn) (Zeq hn k _)
theorem DV{n:Nat}:∀(k x:Nat),x<n^k->Zr n (stand n k x)=x
 |0,x,h=>by
  rw[Nat.pow_zero] at h;show 0=x;omega
 |k+1,x,h=>by
  show x%n+n*Zr n (stand n k (x / n))=x;rw[DV k (x / n) (by
   rw[Nat.pow_succ,Nat.mul_comm] at h;exact Nat.div_lt_of_lt_mul h)]
  exact Nat.mod_add_div x n
theorem Zba(n:Nat):∀(k x:Nat),stand n (k+1) x=stand n k x++[x / n^k%n]
 |0,x=>by
  show [x%n]=[]++[x / n^0%n];rw[Nat.pow_zero,Nat.div_one];rfl
 |k+1,x=>by
  show x%n::stand n (k+1) (x / n)=x%n::stand n k (x / n)++[x / n^(k+1)%n];rw[Zba n k (x / n),Nat.div_div_eq_div_mul,Nat.pow_succ,Nat.mul_comm n (n^k)];rfl
theorem VC{n:Nat}:∀(p:List Nat) (s:Nat),Zr n (p++[s])=Zr n p+n^p.length*s
 | [],s=>by simp[Zr]
 |x::p,s=>by
  show x+n*Zr n (p++[s])=x+n*Zr n p+n^(p.length+1)*s;rw[VC p s,Nat.mul_add,Nat.pow_succ,Nat.mul_comm (n^p.length) n,Nat.mul_assoc];omega
def ZgA{n:Nat}{p q:List Nat}(hl:p.length=q.length)(hp:ZO n p)(hq:ZO n q)(e:Zr n p=Zr n q):p=q:=by
 rw[<- J1 p hp,<- J1 q hq,hl,e]
def ZT(w:Wheel)(s:Nat):Bool:=w.notches.testBit s
def mv(w:Wheel)(s:Nat)(nud:Bool):Bool:=if w.kind=1 then true else if w.kind=2 then nud else if w.kind=3 then nud||ZT w s else false
def after(n:Nat)(w:Wheel)(s:Nat)(nud:Bool):Nat:=if mv w s nud=true then (s+1)%n else s
def Y2(n:Nat)(nud:Bool):List Wheel->List Nat->List Nat
 |w::ws,s::p=>after n w s nud::Y2 n (ZT w s) ws p
 |_,_=>[]
def ZaC(nud:Bool):List Wheel->List Nat->Bool
 |w::ws,s::p=>ZaC (ZT w s) ws p
 |_,_=>nud
theorem YD{n:Nat}:∀(ws:List Wheel) (p:List Nat) (nud:Bool),p.length=ws.length->(Y2 n nud ws p).length=ws.length
 | [],[],_,_=>rfl
 |w::ws,s::p,nud,h=>by
  show(Y2 n (ZT w s) ws p).length+1=ws.length+1;rw[YD ws p _ (by simpa using h)]
def ZdX{n s:Nat}(w:Wheel)(nud:Bool)(h:s<n):after n w s nud<n:=by
 unfold after;split
 ·exact Nat.mod_lt _ (by omega)
 ·exact h
theorem Zd8{n:Nat}:∀(ws:List Wheel) (p:List Nat) (nud:Bool),ZO n p->ZO n (Y2 n nud ws p)
 | [],_,_,_=>ZO.nil n
 |_::_,[],_,_=>ZO.nil n
 |w::ws,s::p,nud,h=>ZO.cons (ZdX w nud h.head) (Zd8 ws p _ h.tail)
theorem Zbd{n:Nat}:∀(ws:List Wheel) (p:List Nat) (nud:Bool) (w:Wheel) (s:Nat),p.length=ws.length ->
  Y2 n nud (ws++[w]) (p++[s])=Y2 n nud ws p++[after n w s (ZaC nud ws p)]
 | [],[],_,_,_,_=>rfl
 |v::ws,t::p,nud,w,s,h=>by
  show after n v t nud::Y2 n (ZT v t) (ws++[w]) (p++[s])=after n v t nud::(Y2 n (ZT v t) ws p++[after n w s (ZaC (ZT v t) ws p)]);rw[Zbd ws p (ZT v t) w s (by simpa using h)]
theorem Zbp:∀(ws:List Wheel) (p:List Nat) (nud:Bool) (w:Wheel) (s:Nat),p.length=ws.length->ZaC nud (ws++[w]) (p++[s])=ZT w s
 | [],[],_,_,_,_=>rfl
 |v::ws,t::p,nud,w,s,h=>Zbp ws p (ZT v t) w s (by simpa using h)
theorem Z2{α:Type}{f:Nat->List α}{L:Nat}:∀(n:Nat),(∀s,s<n->(f s).length=L)->((List.range n).flatMap f).length=n*L
 |0,_=>by simp
 |n+1,h=>by
  rw[range_succ,flatMap_append,length_append,Z2 n λs _=>h s (by omega)];simp[h n (by omega),Nat.add_mul]
theorem Y6{α:Type}{f:Nat->List α}{L:Nat}{x s:Nat}(hx:x<L):∀(n:Nat),(∀s,s<n->(f s).length=L)->s<n->((List.range n).flatMap f)[x+L*s]? = (f s)[x]?
 |0,_,hs=>by omega
 |n+1,h,hs=>by
  have hl:=Z2 (f:=f) n λs hs=>h s (by omega);rw[range_succ,flatMap_append];by_cases e:s<n
  ·have:x+L*s<n*L:=by
    have h1:L*(s+1)<=L*n:=Nat.mul_le_mul_left L e;rw[Nat.mul_add,Nat.mul_one] at h1;rw[Nat.mul_comm n L];omega
   rw[getElem?_append_left (by rw[hl];exact this),Y6 hx n (λs hs=>h s (by omega)) e]
  ·have e:s=n:=by omega
   subst e;rw[getElem?_append_right (by rw[hl,Nat.mul_comm];omega),hl,show x+L*s-s*L=x by rw[Nat.mul_comm s L];omega];simp
def Zak(n:Nat)(q:List Nat×List Bool)(w:Wheel):List Nat×List Bool:=
 ((List.range n).flatMap λs=>(q.1.zip q.2).map λ(x:Nat×Bool)=>x.1+(if x.2=true then q.1.length*after n w s true else q.1.length*after n w s false),
  (List.range n).flatMap λs=>List.replicate q.1.length (ZT w s))
def DX(n:Nat)(ws:List Wheel):List Nat×List Bool:=ws.foldl (Zak n) ([0],[false])
def fol(n:Nat)(ws:List Wheel):List Nat:=(DX n ws).1
structure Fol(n:Nat)(ws:List Wheel)(q:List Nat×List Bool):Prop where
 l1:q.1.length=n^ws.length
 l2:q.2.length=n^ws.length
 nx:∀p,p.length=ws.length->ZO n p->q.1[Zr n p]? = some (Zr n (Y2 n false ws p))/\q.2[Zr n p]? = some (ZaC false ws p)
def Fol.nil(n:Nat):Fol n [] ([0],[false]):=⟨by simp,by simp,λp hp _=>by
 have e:p=[]:=length_eq_zero_iff.mp (by simpa using hp);subst e;exact⟨rfl,rfl⟩⟩
def Zfv{p:List Nat}{k:Nat}(h:p.length=k+1):∃q s,p=q++[s]/\q.length=k:=by
 have hne:p≠[]:=λe=>by rw[e] at h;simp at h
 refine⟨p.dropLast,p.getLast hne,(List.dropLast_concat_getLast hne).symm,?_⟩;rw[List.length_dropLast,h];omega
def Fol.step{n:Nat}{ws:List Wheel}{q:List Nat×List Bool}(h:Fol n ws q)(w:Wheel):Fol n (ws++[w]) (Zak n q w):=by
 have hz:(q.1.zip q.2).length=n^ws.length:=by rw[length_zip,h.l1,h.l2,Nat.min_self]
 refine⟨?_,?_,λp hp hlt=>?_⟩
 ·show((List.range n).flatMap _).length=_
  rw[Z2 (L:=n^ws.length) n λs _=>by rw[length_map,hz],length_append,length_singleton,Nat.pow_succ,Nat.mul_comm]
 ·show((List.range n).flatMap _).length=_
  rw[Z2 (L:=n^ws.length) n λs _=>by rw[length_replicate,h.l1],length_append,length_singleton,Nat.pow_succ,Nat.mul_comm]
 ·rw[length_append,length_singleton] at hp
  obtain⟨r,s,rfl,hr⟩:=Zfv hp;have hrl:ZO n r:=λx hx=>hlt x (mem_append_left _ hx);have hsl:s<n:=hlt s (by simp);obtain⟨h1,h2⟩:=h.nx r hr hrl;have hx:Zr n r<n^ws.length:=by rw[<- hr];exact U6 r hrl
  rw[VC,hr,Zbd ws r false w s hr,Zbp ws r false w s hr,VC,YD ws r false hr];constructor
  ·show((List.range n).flatMap _)[_]? = _
   rw[Y6 hx n (λs _=>by rw[length_map,hz]) hsl,getElem?_map];rw[show(q.1.zip q.2)[Zr n r]? = some (Zr n (Y2 n false ws r),ZaC false ws r) from List.getElem?_zip_eq_some.mpr ⟨h1,h2⟩];show some _=some _;rw[h.l1];cases ZaC false ws r<;>simp
  ·show((List.range n).flatMap _)[_]? = _
   rw[Y6 hx n (λs _=>by rw[length_replicate,h.l1]) hsl,h.l1,getElem?_replicate,if_pos hx]
theorem Fol.all{n:Nat}:∀(vs:List Wheel) {ws:List Wheel} {q:List Nat×List Bool},Fol n ws q->Fol n (ws++vs) (vs.foldl (Zak n) q)
 | [],ws,q,h=>by rw[append_nil];exact h
 |v::vs,ws,q,h=>by
  have:=Fol.all vs (h.step v);rw[append_assoc] at this;exact this
def ZaQ(n:Nat)(ws:List Wheel):Fol n ws (DX n ws):=(Fol.nil n).all ws
def UT(n:Nat)(ws:List Wheel):(fol n ws).length=n^ws.length:=(ZaQ n ws).l1
def ZjQ{n:Nat}{ws:List Wheel}{p:List Nat}(hp:p.length=ws.length)(hlt:ZO n p):(fol n ws)[Zr n p]? = some (Zr n (Y2 n false ws p)):=((ZaQ n ws).nx p hp hlt).1
def ZaH(n:Nat)(ws:List Wheel){i:Nat}{w:Wheel}(h:ws[i]? = some w):DX n (ws.take (i+1))=Zak n (DX n (ws.take i)) w:=by
 unfold DX;rw[take_succ,h,foldl_append];rfl
def Zhw(nud:Bool)(ws:List Wheel)(p:List Nat):Nat->Bool
 |0=>nud
 |j+1=>match ws[j]?,p[j]? with|some v,some t=>ZT v t|_,_=>nud
theorem ZbX{n:Nat}:∀(ws:List Wheel) (p:List Nat) (nud:Bool) (i:Nat) (w:Wheel) (s:Nat),ws[i]? = some w->p[i]? = some s ->
  (Y2 n nud ws p)[i]? = some (after n w s (Zhw nud ws p i))
 | [],_,_,i,_,_,h,_=>by simp at h
 |_::_,[],_,i,_,_,_,h=>by simp at h
 |v::ws,t::p,nud,0,w,s,h1,h2=>by
  cases Option.some.inj h1;cases Option.some.inj h2;rfl
 |v::ws,t::p,nud,i+1,w,s,h1,h2=>by
  show(Y2 n (ZT v t) ws p)[i]? = _;rw[ZbX ws p (ZT v t) i w s h1 h2];cases i with
  |zero=>rfl
  |succ j=>
   have hj:j<ws.length:=by have:=(List.getElem?_eq_some_iff.mp h1).1;simp at this;omega
   have hj2:j<p.length:=by have:=(List.getElem?_eq_some_iff.mp h2).1;simp at this;omega
   show some (after n w s (match ws[j]?,p[j]? with|some v,some t=>ZT v t|_,_=>ZT v t))=some (after n w s (match (v::ws)[j+1]?,(t::p)[j+1]? with|some v,some t=>ZT v t|_,_=>nud));rw[List.getElem?_cons_succ,List.getElem?_cons_succ,getElem?_eq_getElem hj,getElem?_eq_getElem hj2]
structure Good(m:Machine):Prop where
 n2:2<=m.n
 n16:m.n<=16
 k4:m.wheels.length<=4
 kd0:∀w,m.wheels[0]? = some w->w.kind<=1
 kd:∀w,w∈m.wheels->w.kind<=3/\w.ring<m.n/\w.notches<2^m.n
structure St(m:Machine)(p:List Nat):Prop where
 len:p.length=m.wheels.length
 lt:ZO m.n p
def Zgq{m:Machine}(g:Good m){p:List Nat}(h:St m p):m.step p=Y2 m.n false m.wheels p:=by
 apply ext_getElem?;intro i;by_cases hi:i<m.wheels.length
 ·have hip:i<p.length:=by rw[h.len];exact hi
  rw[ZbX m.wheels p false i _ _ (getElem?_eq_getElem hi) (getElem?_eq_getElem hip)];unfold Machine.step;rw[getElem?_map,getElem?_range hi];have hw:m.wheel i=m.wheels[i]:=by
   unfold Machine.wheel;rw[getD_eq_getElem?_getD,getElem?_eq_getElem hi,Option.getD_some]
  have hs:at_ p i=p[i]:=JW hip;show some (if m.moves p i=true then (at_ p i+1)%m.n else at_ p i)=_;unfold after;have key:m.moves p i=mv m.wheels[i] p[i] (Zhw false m.wheels p i):=by
   unfold Machine.moves mv Machine.notch ZT;rw[hw,hs];cases i with
   |zero=>
    have:=g.kd0 _ (getElem?_eq_getElem hi);by_cases e1:m.wheels[0].kind=1
    ·rw[if_pos e1,if_pos e1]
    ·rw[if_neg e1,if_neg e1,if_neg (by omega),if_neg (by omega),if_neg (by omega),if_neg (by omega)]
   |succ j=>
    have hj:j<m.wheels.length:=by omega
    have hj2:j<p.length:=by omega
    have e3:m.wheel (j+1-1)=m.wheels[j]:=by
     show m.wheel j=_;unfold Machine.wheel;rw[getD_eq_getElem?_getD,getElem?_eq_getElem hj,Option.getD_some]
    have e4:at_ p (j+1-1)=p[j]:=JW hj2;rw[e3,e4];simp only[Zhw,getElem?_eq_getElem hj,getElem?_eq_getElem hj2,ZT]
  rw[key,hs]
 ·rw[getElem?_eq_none (by unfold Machine.step;rw[length_map,length_range];omega),getElem?_eq_none (by rw[YD _ _ _ h.len];omega)]
theorem St.step{m:Machine}(g:Good m){p:List Nat}(h:St m p):St m (m.step p):=by
 rw[Zgq g h];exact⟨YD _ _ _ h.len,Zd8 _ _ _ h.lt⟩
theorem St.steps{m:Machine}(g:Good m):∀(k:Nat) {p:List Nat},St m p->St m (m.steps k p)
 |0,p,h=>h
 |k+1,p,h=>St.steps g k (h.step g)
theorem YL{m:Machine}:∀(k:Nat) (p:List Nat),m.steps (k+1) p=m.step (m.steps k p)
 |0,_=>rfl
 |k+1,p=>YL k (m.step p)
def ZdT{m:Machine}(g:Good m){p:List Nat}(h:St m p):(fol m.n m.wheels)[Zr m.n p]? = some (Zr m.n (m.step p)):=by
 rw[ZjQ h.len h.lt,Zgq g h]
def St.num_lt{m:Machine}{p:List Nat}(h:St m p):Zr m.n p<m.n^m.wheels.length:=by rw[<- h.len];exact U6 p h.lt
def Good.pow_le{m:Machine}(g:Good m):m.n^m.wheels.length<=65536:=
 Nat.le_trans (Nat.pow_le_pow_left g.n16 _) (Nat.le_trans (Nat.pow_le_pow_right (by decide) g.k4) (by decide))
def pad(n:Nat)(l:List Nat):List Nat:=l++List.range' n (16-n)
structure Wd(n:Nat)(l:List Nat):Prop where
 len:l.length=n
 isP:IsP n (pad n l)
def Yw{n:Nat}{l:List Nat}(h:l.length=n){i:Nat}(hi:i<n):at_ (pad n l) i=at_ l i:=Uh (by omega)
def Wd.lt{n:Nat}{l:List Nat}(h:Wd n l)(hn:n<=16){i:Nat}(hi:i<n):at_ l i<n:=by
 rw[<- Yw h.len hi];exact h.isP.ltn hn hi
theorem Wd.surj{n:Nat}{l:List Nat}(h:Wd n l)(hn:n<=16){x:Nat}(hx:x<n):∃i,i<n/\at_ l i=x:=by
 obtain⟨i,hi,e⟩:=h.isP.surj (x:=x) (by omega);rcases Nat.lt_or_ge i n with q|q
 ·exact⟨i,q,by rw[<- Yw h.len q];exact e⟩
 ·have:=h.isP.out i q hi
  omega
def Wd.mem{n:Nat}{l:List Nat}(h:Wd n l)(hn:n<=16){x:Nat}(hx:x<n):x∈l:=by
 obtain⟨i,hi,e⟩:=h.surj hn hx;rw[<- e];exact Zdi (by rw[h.len];exact hi)
def Wd.place{n:Nat}{l:List Nat}(h:Wd n l)(hn:n<=16){x:Nat}(hx:x<n):placeOf l x<n/\at_ l (placeOf l x)=x:=by
 have:=VP (h.mem hn hx);rw[h.len] at this;exact this
def ZdI{n:Nat}{l:List Nat}(h:l.length=n):(pad n l).take n=l:=by
 unfold pad;rw[List.take_append_of_le_length (by omega),take_of_length_le (by omega)]
def ZhA{n:Nat}{l:List Nat}(h:l.length=n):(pad n l).drop n=List.range' n (16-n):=by
 unfold pad;rw[List.drop_append_of_le_length (by omega),List.drop_of_length_le (by omega)];rfl
def Zbf{n:Nat}{l:List Nat}(h:l.length=n)(hn:n<=16):(pad n l).length=16:=by
 unfold pad;rw[length_append,length_range',h];omega
structure Mach(m:Machine):Prop extends Good m where
 first:Wd m.n m.first
 last:Wd m.n m.last
 wires:∀w,w∈m.wheels->Wd m.n w.wires
def ZdB(n:Nat)(w:Wheel)(s:Nat):Nat:=(s+(n-w.ring))%n
def met(n:Nat)(w:Wheel)(s:Nat):List Nat:=turned n (ZdB n w s) (pad n w.wires)
def Ze0(n:Nat)(r:List Nat)(l:List (Wheel×Nat)):List Nat:=l.foldl (λr x=>then_ r (met n x.1 x.2)) r
def thr(m:Machine)(q:List Nat):List Nat:=Ze0 m.n still (m.wheels.zip q)
def Zal{n:Nat}{w:Wheel}(h:Wd n w.wires)(h0:0<n)(hn:n<=16)(s:Nat):IsP n (met n w s):=ZeE h.isP h0 hn
def ZlG{n:Nat}{w:Wheel}(h:Wd n w.wires)(h0:0<n)(hn:n<=16)(s:Nat){x:Nat}(hx:x<n) :
  at_ (met n w s) x=(at_ w.wires ((x+ZdB n w s)%n)+(n-ZdB n w s))%n:=by
 have ho:ZdB n w s<n:=Nat.mod_lt _ h0;unfold met;rw[JN (by omega),if_pos hx,Nat.mod_eq_of_lt ho,Yw h.len (Nat.mod_lt _ h0)]
section
variable{m:Machine}{q:List Nat}
def DJ(m:Machine){i:Nat}(hi:i<m.wheels.length):m.wheel i=m.wheels[i]:=by
 unfold Machine.wheel;rw[getD_eq_getElem?_getD,getElem?_eq_getElem hi,Option.getD_some]
def Mach.wheelWd(g:Mach m){i:Nat}(hi:i<m.wheels.length):Wd m.n (m.wheel i).wires:=by
 rw[DJ m hi];exact g.wires _ (getElem_mem hi)
def Mach.n0(g:Mach m):0<m.n:=by have:=g.n2;omega
def Zdn(g:Mach m){i:Nat}(hi:i<m.wheels.length){x:Nat}(hx:x<m.n):m.there q x i=at_ (met m.n (m.wheel i) (at_ q i)) x:=by
 rw[ZlG (g.wheelWd hi) g.n0 g.n16 _ hx];rfl
def Zil(g:Mach m)(x i:Nat):m.there q x i<m.n:=Nat.mod_lt _ g.n0
def Zb4(g:Mach m)(x i:Nat):m.hither q x i<m.n:=Nat.mod_lt _ g.n0
def ZcX(g:Mach m){i:Nat}(hi:i<m.wheels.length){x:Nat}(hx:x<m.n):m.there q (m.hither q x i) i=x:=by
 have h:=g.wheelWd hi;have ho:m.off q i<m.n:=Nat.mod_lt _ g.n0;have hy:(x+m.off q i)%m.n<m.n:=Nat.mod_lt _ g.n0;obtain⟨h1,h2⟩:=h.place g.n16 hy;unfold Machine.there Machine.hither;have e:((placeOf (m.wheel i).wires ((x+m.off q i)%m.n)+(m.n-m.off q i))%m.n+m.off q i)%m.n=placeOf (m.wheel i).wires ((x+m.off q i)%m.n):=by
  rw[Nat.mod_add_mod,show placeOf (m.wheel i).wires ((x+m.off q i)%m.n)+(m.n-m.off q i)+m.off q i=placeOf (m.wheel i).wires ((x+m.off q i)%m.n)+m.n by omega,Nat.add_mod_right,Nat.mod_eq_of_lt h1]
 rw[e,h2,Nat.mod_add_mod,show x+m.off q i+(m.n-m.off q i)=x+m.n by omega,Nat.add_mod_right,Nat.mod_eq_of_lt hx]
def T(m:Machine)(q:List Nat)(k x:Nat):Nat:=(List.range k).foldl (m.there q) x
def Hh(m:Machine)(q:List Nat)(k x:Nat):Nat:=(List.range k).reverse.foldl (m.hither q) x
def ZcP(k x:Nat):T m q (k+1) x=m.there q (T m q k x) k:=by
 unfold T;rw[range_succ,foldl_append];rfl
def Zf6(k x:Nat):Hh m q (k+1) x=Hh m q k (m.hither q x k):=by
 unfold Hh;rw[range_succ,List.reverse_append];rfl
def Zd9(g:Mach m){x:Nat}(hx:x<m.n):∀k,T m q k x<m.n
 |0=>hx
 |k+1=>by rw[ZcP];exact Zil g _ _
theorem ZhO(g:Mach m):∀(k:Nat) {x:Nat},x<m.n->Hh m q k x<m.n
 |0,_,hx=>hx
 |k+1,x,hx=>by rw[Zf6];exact ZhO g k (Zb4 g _ _)
theorem ZlN(g:Mach m):∀(k:Nat),k<=m.wheels.length->∀{x:Nat},x<m.n->T m q k (Hh m q k x)=x
 |0,_,_,_=>rfl
 |k+1,hk,x,hx=>by
  rw[ZcP,Zf6,ZlN g k (by omega) (Zb4 g _ _),ZcX g (by omega) hx]
def Ys{α β:Type}{l:List α}{r:List β}{i:Nat}{a:α}{b:β}(ha:l[i]? = some a)(hb:r[i]? = some b):(l.zip r).take (i+1)=(l.zip r).take i++[(a,b)]:=by
 rw[take_succ,(List.getElem?_zip_eq_some (z:=(a,b))).mpr ⟨ha,hb⟩];rfl
def ZbT(n:Nat)(r:List Nat)(l:List (Wheel×Nat))(x:Wheel×Nat):Ze0 n r (l++[x])=then_ (Ze0 n r l) (met n x.1 x.2):=by
 unfold Ze0;rw[foldl_append];rfl
theorem ZcF(g:Mach m)(h:St m q):∀k,k<=m.wheels.length->IsP m.n (Ze0 m.n still ((m.wheels.zip q).take k))/\∀x,x<m.n->at_ (Ze0 m.n still ((m.wheels.zip q).take k)) x=T m q k x
 |0,_=>⟨Zhi _,λx hx=>Vr (by have:=g.n16;omega)⟩
 |k+1,hk=>by
  obtain⟨h1,h2⟩:=ZcF g h k (by omega);have hkw:k<m.wheels.length:=by omega
  have hkq:k<q.length:=by rw[h.len];exact hkw
  rw[Ys (getElem?_eq_getElem hkw) (getElem?_eq_getElem hkq),ZbT];have e1:m.wheels[k]=m.wheel k:=(DJ m hkw).symm;have e2:q[k]=at_ q k:=(JW hkq).symm;refine⟨YU h1 (Zal (g.wires _ (getElem_mem hkw)) g.n0 g.n16 _),λx hx=>?_⟩;rw[JL (by have:=g.n16;omega),h2 x hx,ZcP,Zdn g hkw (Zd9 g hx k),e1,e2]
def UH(h:St m q):(m.wheels.zip q).length=m.wheels.length:=by rw[length_zip,h.len,Nat.min_self]
def U7(g:Mach m)(h:St m q):IsP m.n (thr m q):=by
 have:=(ZcF g h m.wheels.length (Nat.le_refl _)).1;rw[take_of_length_le (by rw[UH h];exact Nat.le_refl _)] at this;exact this
def ZeF(g:Mach m)(h:St m q){x:Nat}(hx:x<m.n):at_ (thr m q) x=T m q m.wheels.length x:=by
 have:=(ZcF g h m.wheels.length (Nat.le_refl _)).2 x hx;rw[take_of_length_le (by rw[UH h];exact Nat.le_refl _)] at this;exact this
def Zee(m:Machine)(q:List Nat):List Nat:=then_ (pad m.n m.first) (thr m q)
def Zbq(m:Machine)(q:List Nat):List Nat:=if m.mirror=true then seen (pad m.n m.last) (Zee m q) else then_ (Zee m q) (pad m.n m.last)
def VB(g:Mach m)(h:St m q):IsP m.n (Zee m q):=YU g.first.isP (U7 g h)
def VA(g:Mach m)(h:St m q){x:Nat}(hx:x<m.n):at_ (Zee m q) x=T m q m.wheels.length (at_ m.first x):=by
 unfold Zee;rw[JL (by have:=g.n16;omega),Yw g.first.len hx,ZeF g h (g.first.lt g.n16 hx)]
def Vn(g:Mach m)(h:St m q):IsP m.n (Zbq m q):=by
 unfold Zbq;split
 ·exact Zd5 g.last.isP (VB g h)
 ·exact YU (VB g h) g.last.isP
def ZfX(m:Machine)(q:List Nat)(x:Nat):m.core q x=if m.mirror=true then Hh m q m.wheels.length (at_ m.last (T m q m.wheels.length x)) else at_ m.last (T m q m.wheels.length x):=rfl
def Zc9(g:Mach m)(h:St m q){x:Nat}(hx:x<m.n):at_ (Zbq m q) x=m.letter q x:=by
 have hn:=g.n16;have hf:=g.first.lt hn hx;have hT:=Zd9 (q:=q) g hf m.wheels.length;have hL:=g.last.lt hn hT;unfold Machine.letter Zbq;show _=(if m.mirror=true then placeOf m.first (m.core q (at_ m.first x)) else m.core q (at_ m.first x));rw[ZfX];by_cases e:m.mirror=true
 ·rw[if_pos e,if_pos e,if_pos e]
  have hH:=ZhO (q:=q) g m.wheels.length hL;obtain⟨h1,h2⟩:=g.first.place hn hH;unfold seen;rw[JL (by omega),JL (by omega),VA g h hx,Yw g.last.len hT];apply Du (VB g h) (by omega);rw[VA g h h1,h2,ZlN g _ (Nat.le_refl _) hL]
 ·rw[if_neg e,if_neg e,if_neg e,JL (by omega),VA g h hx,Yw g.last.len hT]
def Zci(g:Mach m)(h:St m q):m.perm q=Zbq m q:=by
 have hs:=Vn g h;apply VX
 ·rw[hs.len]
  exact Zt _
 ·intro i hi
  have hi:i<16:=by rw[show(m.perm q).length=16 from Zt _] at hi;exact hi
  rw[show at_ (m.perm q) i=if i<m.n then m.letter q i else i from J5 _ hi];by_cases e:i<m.n
  ·rw[if_pos e,Zc9 g h e]
  ·rw[if_neg e,hs.out i (by omega) hi]
def ZgI(g:Mach m)(h:St m q)(e:m.mirror=true){x:Nat}(hx:x<m.n):at_ (seen (pad m.n m.last) (thr m q)) x=m.core q x:=by
 have hn:=g.n16;have hT:=Zd9 (q:=q) g hx m.wheels.length;have hL:=g.last.lt hn hT;rw[ZfX,if_pos e];unfold seen;rw[JL (by omega),JL (by omega),ZeF g h hx,Yw g.last.len hT];have hH:=ZhO (q:=q) g m.wheels.length hL;exact Du (U7 g h) (by omega) (by rw[ZeF g h hH,ZlN g _ (Nat.le_refl _) hL])
def Ze7(g:Mach m)(h:St m q):IsP m.n (seen (pad m.n m.last) (thr m q)):=Zd5 g.last.isP (U7 g h)
def Zbn(g:Mach m)(h:St m q){x y:Nat}(hx:x<m.n)(hy:y<m.n) :
  m.letter q x=y↔at_ m.last (T m q m.wheels.length (at_ m.first x))=if m.mirror=true then T m q m.wheels.length (at_ m.first y) else y:=by
 have hn:=g.n16;rw[<- Zc9 g h hx];unfold Zbq;have hT:=Zd9 (q:=q) g (g.first.lt hn hx) m.wheels.length;by_cases e:m.mirror=true
 ·rw[if_pos e,if_pos e]
  have hb:=VB g h;have hL:=g.last.lt hn hT;unfold seen;rw[JL (by omega),JL (by omega),VA g h hx,Yw g.last.len hT,<- VA g h hy];constructor
  ·intro e1
   have:=(ZfQ hb (x:=at_ m.last (T m q m.wheels.length (at_ m.first x))) (by omega)).2;rw[e1] at this;exact this.symm
  ·intro e1
   rw[e1];exact Du hb (by omega) rfl
 ·rw[if_neg e,if_neg e,JL (by omega),VA g h hx,Yw g.last.len hT]
end
def Tz(n:Nat)(l:List (Wheel×Nat))(x:Nat):Nat:=l.foldl (λx z=>at_ (met n z.1 z.2) x) x
def Zgm(n:Nat)(l:List (Wheel×Nat))(z:Wheel×Nat)(x:Nat):Tz n (l++[z]) x=at_ (met n z.1 z.2) (Tz n l x):=by
 unfold Tz;rw[foldl_append];rfl
section
variable{m:Machine}{q:List Nat}
theorem Zkv(g:Mach m)(h:St m q){x:Nat}(hx:x<m.n):∀k,k<=m.wheels.length->Tz m.n ((m.wheels.zip q).take k) x=T m q k x
 |0,_=>rfl
 |k+1,hk=>by
  have hkw:k<m.wheels.length:=by omega
  have hkq:k<q.length:=by rw[h.len];exact hkw
  rw[Ys (getElem?_eq_getElem hkw) (getElem?_eq_getElem hkq),Zgm,Zkv g h hx k (by omega),ZcP,Zdn g hkw (Zd9 g hx k),DJ m hkw,JW hkq]
def Zlq(g:Mach m)(h:St m q){x:Nat}(hx:x<m.n):Tz m.n (m.wheels.zip q) x=T m q m.wheels.length x:=by
 have:=Zkv g h hx m.wheels.length (Nat.le_refl _);rw[take_of_length_le (by rw[UH h];exact Nat.le_refl _)] at this;exact this
end
def VD(n:Nat)(r:List Nat)(w:Wheel):List Nat:=(List.range n).flatMap λs=>r.map (at_ (met n w s))
def Yc(n x:Nat)(ws:List Wheel):List Nat:=ws.foldl (VD n) [x]
structure Way(n x:Nat)(ws:List Wheel)(r:List Nat):Prop where
 len:r.length=n^ws.length
 nx:∀p,p.length=ws.length->ZO n p->r[Zr n p]? = some (Tz n (ws.zip p) x)
def Way.nil(n x:Nat):Way n x [] [x]:=⟨by simp,λp hp _=>by
 have e:p=[]:=length_eq_zero_iff.mp (by simpa using hp);subst e;rfl⟩
def Zh0{α β:Type}{l:List α}{r:List β}(h:r.length=l.length)(a:α)(b:β):(l++[a]).zip (r++[b])=l.zip r++[(a,b)]:=by
 rw[List.zip_append h.symm];rfl
def Way.step{n x:Nat}{ws:List Wheel}{r:List Nat}(h:Way n x ws r)(w:Wheel):Way n x (ws++[w]) (VD n r w):=by
 refine⟨?_,λp hp hlt=>?_⟩
 ·unfold VD
  rw[Z2 (L:=n^ws.length) n λs _=>by rw[length_map,h.len],length_append,length_singleton,Nat.pow_succ,Nat.mul_comm]
 ·rw[length_append,length_singleton] at hp
  obtain⟨t,s,rfl,ht⟩:=Zfv hp;have htl:ZO n t:=λx hx=>hlt x (mem_append_left _ hx);have hsl:s<n:=hlt s (by simp);have h1:=h.nx t ht htl;have hx:Zr n t<n^ws.length:=by rw[<- ht];exact U6 t htl
  unfold VD;rw[VC,ht,Y6 hx n (λs _=>by rw[length_map,h.len]) hsl,getElem?_map,h1,Zh0 ht,Zgm];rfl
theorem Way.all{n x:Nat}:∀(vs:List Wheel) {ws:List Wheel} {r:List Nat},Way n x ws r->Way n x (ws++vs) (vs.foldl (VD n) r)
 | [],ws,r,h=>by rw[append_nil];exact h
 |v::vs,ws,r,h=>by
  have:=Way.all vs (h.step v);rw[append_assoc] at this;exact this
def Uz(n x:Nat)(ws:List Wheel):Way n x ws (Yc n x ws):=(Way.nil n x).all ws
def ZaF(n x:Nat)(ws:List Wheel){i:Nat}{w:Wheel}(h:ws[i]? = some w):Yc n x (ws.take (i+1))=VD n (Yc n x (ws.take i)) w:=by
 unfold Yc;rw[take_succ,h,foldl_append];rfl
section
variable{m:Machine}
def ZC(m:Machine)(x:Nat):List Nat:=stand m.n m.wheels.length x
def St.of(g:Mach m)(x:Nat):St m (ZC m x):=⟨J9 _ _ _,Zeq g.n0 _ _⟩
def ZdA{p:List Nat}(h:St m p):ZC m (Zr m.n p)=p:=by
 unfold ZC;rw[<- h.len,J1 p h.lt]
def DY{x:Nat}(h:x<m.n^m.wheels.length):Zr m.n (ZC m x)=x:=DV _ _ h
def Zdb(g:Mach m){x:Nat}(hx:x<m.n):Yc m.n x m.wheels=(List.range (m.n^m.wheels.length)).map λi=>T m (ZC m i) m.wheels.length x:=by
 have w:=Uz m.n x m.wheels;apply ext_getElem?;intro i;by_cases hi:i<m.n^m.wheels.length
 ·have h:=St.of g i
  have:=w.nx _ h.len h.lt;rw[DY hi,Zlq g h hx] at this;rw[this,getElem?_map,getElem?_range hi];rfl
 ·rw[getElem?_eq_none (by rw[w.len];omega),getElem?_eq_none (by rw[length_map,length_range];omega)]
def Zfk(m:Machine)(x y:Nat):List Bool:=(List.range (m.n^m.wheels.length)).map λi=>m.letter (ZC m i) x==y
def Zh1(g:Mach m){p:List Nat}(h:St m p)(x y:Nat):(Zfk m x y)[Zr m.n p]? = some (m.letter p x==y):=by
 unfold Zfk;rw[getElem?_map,getElem?_range h.num_lt];show some (m.letter (ZC m (Zr m.n p)) x==y)=some _;rw[ZdA h]
def Zi5(g:Mach m){x y:Nat}(hx:x<m.n)(hy:y<m.n)(e:m.mirror=false) :
  Zfk m x y=(Yc m.n (at_ m.first x) m.wheels).map λz=>at_ (pad m.n m.last) z==y:=by
 rw[Zdb g (g.first.lt g.n16 hx),map_map];apply map_congr_left;intro i _;show(m.letter (ZC m i) x==y)=(at_ (pad m.n m.last) (T m (ZC m i) m.wheels.length (at_ m.first x))==y);have h:=St.of g i;rw[Yw g.last.len (Zd9 g (g.first.lt g.n16 hx) _),Bool.beq_eq_decide_eq,Bool.beq_eq_decide_eq];have:=Zbn g h hx hy;rw[e,if_neg (by decide)] at this;exact decide_eq_decide.mpr this
def Zg7(g:Mach m){x y:Nat}(hx:x<m.n)(hy:y<m.n)(e:m.mirror=true) :
  Zfk m x y=((Yc m.n (at_ m.first x) m.wheels).zip (Yc m.n (at_ m.first y) m.wheels)).map λz=>at_ (pad m.n m.last) z.1==z.2:=by
 rw[Zdb g (g.first.lt g.n16 hx),Zdb g (g.first.lt g.n16 hy),List.zip_map',map_map];apply map_congr_left;intro i _;show(m.letter (ZC m i) x==y)=(at_ (pad m.n m.last) (T m (ZC m i) m.wheels.length (at_ m.first x))==T m (ZC m i) m.wheels.length (at_ m.first y));have h:=St.of g i;rw[Yw g.last.len (Zd9 g (g.first.lt g.n16 hx) _),Bool.beq_eq_decide_eq,Bool.beq_eq_decide_eq];have:=Zbn g h hx hy;rw[if_pos e] at this;exact decide_eq_decide.mpr this
def ZQ(m:Machine)(ks:List Known):List Nat:=(List.range (m.n^m.wheels.length)).filter λx=>m.agrees ks (ZC m x)
def Jo(m:Machine)(d:Nat)(ks:List Known):List Nat:=(ZQ m ks).map λx=>Zr m.n (m.steps d (ZC m x))
def Zd1(ks:List Known)(c:Known)(p:List Nat):m.agrees (ks++[c]) p=(m.agrees ks p&&(m.letter (m.steps c.at_ p) c.plain==c.coded)):=by
 unfold Machine.agrees;rw[List.all_append];simp
def Uf:ZQ m []=List.range (m.n^m.wheels.length):=by
 unfold ZQ;apply filter_eq_self.mpr;intro x _;rfl
def Zdg(ks:List Known)(c:Known):ZQ m (ks++[c])=(ZQ m ks).filter λx=>m.letter (m.steps c.at_ (ZC m x)) c.plain==c.coded:=by
 unfold ZQ;rw[List.filter_filter];apply filter_congr;intro x _;rw[Zd1,Bool.and_comm]
def Zhf(ks:List Known):m.stands ks=(ZQ m ks).map (ZC m):=by
 unfold Machine.stands ZQ;rw[List.filter_map];rfl
def ZdZ{ks ls:List Known}(h:ks.Perm ls)(p:List Nat):m.agrees ks p=m.agrees ls p:=by
 unfold Machine.agrees;exact h.all_eq
def Zcr{ks ls:List Known}(h:ks.Perm ls):ZQ m ks=ZQ m ls:=by
 unfold ZQ;apply filter_congr;intro x _;exact ZdZ h _
def Zc1:Jo m 0 []=List.range (m.n^m.wheels.length):=by
 unfold Jo;rw[Uf];apply ext_getElem?;intro i;rw[getElem?_map];by_cases hi:i<m.n^m.wheels.length
 ·rw[getElem?_range hi]
  show some (Zr m.n (ZC m i))=some i;rw[DY hi]
 ·rw[getElem?_eq_none (by rw[length_range];omega)]
  rfl
def Zcm(g:Mach m)(d:Nat)(ks:List Known):(Jo m d ks).map (at_ (fol m.n m.wheels))=Jo m (d+1) ks:=by
 unfold Jo;rw[map_map];apply map_congr_left;intro x _;show at_ (fol m.n m.wheels) (Zr m.n (m.steps d (ZC m x)))=_;rw[Jh (ZdT g.toGood ((St.of g x).steps g.toGood d)),YL]
def ZiZ(g:Mach m){d:Nat}{ks:List Known}{y:Nat}(h:y∈Jo m d ks):y<m.n^m.wheels.length:=by
 unfold Jo at h;obtain⟨x,_,rfl⟩:=mem_map.mp h;exact((St.of g x).steps g.toGood d).num_lt
end
def Z0:List Nat->List Nat->Bool
 | [],[]=>false
 | [],_::_=>true
 |_::_,[]=>false
 |a::r,b::s=>if a=b then Z0 r s else decide (a<b)
theorem DW:∀(a b:List Nat),a.length=b.length->Z0 a b=before a b
 | [],[],_=>rfl
 |a::r,b::s,h'=>by
  have h:r.length=s.length:=by simpa using h'
  show(if a=b then Z0 r s else decide (a<b))=(decide (a<b)||(a==b&&before r s));by_cases e:a=b
  ·subst e
   rw[if_pos rfl,DW r s h];simp
  ·rw[if_neg e]
   simp[e]
theorem Zbi:∀(a b:List Nat),Z0 a b=true->Z0 b a=false
 | [],[],h=>by simp[Z0] at h
 | [],_::_,_=>rfl
 |_::_,[],h=>by simp[Z0] at h
 |a::r,b::s,h=>by
  have h:(if a=b then Z0 r s else decide (a<b))=true:=h;show(if b=a then Z0 s r else decide (b<a))=false;by_cases e:a=b
  ·subst e
   rw[if_pos rfl] at h ⊢;exact Zbi r s h
  ·rw[if_neg e] at h
   rw[if_neg (λq=>e q.symm)];have:=of_decide_eq_true h;exact decide_eq_false (by omega)
theorem ZdK:∀(a b c:List Nat),Z0 b a=false->Z0 c b=false->Z0 c a=false
 | [],b,[],_,_=>rfl
 |_::_,[],[],h,_=>by simp[Z0] at h
 |a::r,b::s,[],h1,h2=>by simp[Z0] at h2
 | [],b,_::_,_,_=>by cases b<;>rfl
 |a::r,[],c::t,h1,h2=>by simp[Z0] at h1
 |a::r,b::s,c::t,h1',h2'=>by
  have h1:(if b=a then Z0 s r else decide (b<a))=false:=h1';have h2:(if c=b then Z0 t s else decide (c<b))=false:=h2';clear h1' h2';show(if c=a then Z0 t r else decide (c<a))=false;by_cases e1:b=a
  ·subst e1
   rw[if_pos rfl] at h1;by_cases e2:c=b
   ·subst e2
    rw[if_pos rfl] at h2 ⊢;exact ZdK r s t h1 h2
   ·rw[if_neg e2] at h2 ⊢
    exact h2
  ·rw[if_neg e1] at h1
   have g1:=of_decide_eq_false h1;by_cases e2:c=b
   ·subst e2
    rw[if_neg e1];exact h1
   ·rw[if_neg e2] at h2
    have g2:=of_decide_eq_false h2;rw[if_neg (by omega)];exact decide_eq_false (by omega)
theorem ZaJ:∀(a b:List Nat),Z0 a b=false->Z0 b a=false->a=b
 | [],[],_,_=>rfl
 | [],_::_,h,_=>by simp[Z0] at h
 |_::_,[],_,h=>by simp[Z0] at h
 |a::r,b::s,h1,h2=>by
  have h1:(if a=b then Z0 r s else decide (a<b))=false:=h1;have h2:(if b=a then Z0 s r else decide (b<a))=false:=h2;by_cases e:a=b
  ·subst e
   rw[if_pos rfl] at h1 h2;rw[ZaJ r s h1 h2]
  ·rw[if_neg e] at h1
   rw[if_neg (λq=>e q.symm)] at h2;have:=of_decide_eq_false h1;have:=of_decide_eq_false h2;omega
def Zet{n:Nat}{B C:List (List Nat)}(hn:∀d,d∈B->d.length=n)(hp:C.Perm B)(hs:C.Pairwise λa b=>Z0 b a=false) :
  C=B.mergeSort λ(a b:List Nat)=>!before b a:=by
 have e:(B.mergeSort λ(a b:List Nat)=>!before b a)=B.mergeSort λ(a b:List Nat)=>!Z0 b a:=by
  have:=List.map_mergeSort (r:=λ(a b:List Nat)=>!before b a) (s:=λ(a b:List Nat)=>!Z0 b a) (f:=id) (l:=B) λa ha b hb=>by
   show(!before b a) = !Z0 b a;rw[DW b a (by rw[hn a ha,hn b hb])]
  rw[map_id,map_id] at this;exact this
 rw[e];have h1:(B.mergeSort λ(a b:List Nat)=>!Z0 b a).Pairwise λa b=>(!Z0 b a)=true:=List.pairwise_mergeSort (λa b c h1 h2=>by
   have h1:(!Z0 b a)=true:=h1;have h2:(!Z0 c b)=true:=h2;show(!Z0 c a)=true;rw[Bool.not_eq_true'] at h1 h2 ⊢;exact ZdK a b c h1 h2) (λa b=>by
   show((!Z0 b a)||(!Z0 a b))=true;cases h:Z0 b a with
   |false=>rfl
   |true=>rw[Zbi b a h];rfl) B
 refine List.Perm.eq_of_pairwise (le:=λa b=>Z0 b a=false) (λa b _ _ h1 h2=>ZaJ a b h2 h1) hs (h1.imp λh=>by simpa using h) (hp.trans (List.mergeSort_perm B _).symm)
def ZlA:∀{l r:List Nat},l.Pairwise (· < ·)->r.Pairwise (· < ·)->(∀x,x∈l↔x∈r)->l=r:=λ{l r} hl hr h=>by
 have nl:l.Nodup:=hl.imp λh=>Nat.ne_of_lt h;have nr:r.Nodup:=hr.imp λh=>Nat.ne_of_lt h;have hp:l.Perm r:=(List.perm_ext_iff_of_nodup nl nr).mpr h;exact List.Perm.eq_of_pairwise (le:=(· < ·)) (λa b _ _ h1 h2=>absurd h1 (by omega)) hl hr hp
def ZgR{ks ls:List Known}(h:ks.Perm ls)(x:Nat):told ks x=told ls x:=by
 unfold told;exact h.any_eq
def Um{ks ls:List Known}(h:ks.Perm ls)(n:Nat):toldOf n ks=toldOf n ls:=by
 unfold toldOf;apply filter_congr;intro x _;exact ZgR h x
def UZ(n:Nat)(ks:List Known):(toldOf n ks).Pairwise (· < ·):=(pairwise_lt_range (n:=n)).filter _
def Z7{n:Nat}{ks:List Known}{x:Nat}:x∈toldOf n ks↔x<n/\∃c,c∈ks/\(c.plain=x\/c.coded=x):=by
 unfold toldOf told;rw[mem_filter,mem_range,any_eq_true];constructor
 ·rintro⟨h1,c,hc,h2⟩
  rw[Bool.or_eq_true,beq_iff_eq,beq_iff_eq] at h2;exact⟨h1,c,hc,h2⟩
 ·rintro⟨h1,c,hc,h2⟩
  exact⟨h1,c,hc,by rw[Bool.or_eq_true,beq_iff_eq,beq_iff_eq];exact h2⟩
def Y3{n:Nat}{ks:List Known}(h:Rotor.fits n ks=true){c:Known}(hc:c∈ks):1<=c.at_/\c.at_<=64/\c.plain<n/\c.coded<n:=by
 unfold Rotor.fits at h;have:=all_eq_true.mp h c hc;simp only[Bool.and_eq_true,decide_eq_true_eq] at this;exact this
def J2(n i:Nat)(d:List Nat):List (List Nat):=if at_ d i≠NONE then [d] else (List.range n).flatMap λj=>if at_ d j=NONE then [exchanged d i j] else []
def UP(n i:Nat)(r:List Nat)(d:List Nat):boardsOn n (i::r) d=(J2 n i d).flatMap (boardsOn n r):=by
 show(if at_ d i≠NONE then boardsOn n r d else (List.range n).flatMap λ(j:Nat)=>if at_ d j=NONE then boardsOn n r (exchanged d i j) else [])=_;unfold J2;by_cases h:at_ d i≠NONE
 ·rw[if_pos h,if_pos h]
  simp
 ·rw[if_neg h,if_neg h,List.flatMap_assoc]
  congr 1
  funext j
  by_cases e:at_ d j=NONE
  ·rw[if_pos e,if_pos e]
   simp
  ·rw[if_neg e,if_neg e]
   rfl
structure Brd(n:Nat)(d:List Nat):Prop where
 len:d.length=n
 val:∀x,x<n->at_ d x<n\/at_ d x=NONE
def Ext(n:Nat)(d e:List Nat):Prop:=∀x,x<n->at_ d x≠NONE->at_ e x=at_ d x
def Zid{d:List Nat}{i v x:Nat}(hi:i<d.length):at_ (d.set i v) x=if x=i then v else at_ d x:=by
 by_cases e:x=i
 ·subst e
  rw[if_pos rfl];exact Jh (getElem?_set_self hi)
 ·rw[if_neg e]
  unfold at_;rw[getD_eq_getElem?_getD,getElem?_set_ne (λq=>e q.symm),getD_eq_getElem?_getD]
def ZcK{d:List Nat}{i j x:Nat}(hi:i<d.length)(hj:j<d.length):at_ (exchanged d i j) x=if x=j then i else if x=i then j else at_ d x:=by
 unfold exchanged;rw[Zid (by rw[length_set];exact hj),Zid hi]
def Zdq{n:Nat}(hn:n<=16){x:Nat}(h:x<n):x≠NONE:=by
 show x≠255;omega
def Zir{n i:Nat}{d e:List Nat}(h:e∈J2 n i d):(e=d/\at_ d i≠NONE)\/(at_ d i=NONE/\∃j,j<n/\at_ d j=NONE/\e=exchanged d i j):=by
 unfold J2 at h;by_cases q:at_ d i≠NONE
 ·rw[if_pos q,mem_singleton] at h
  exact .inl ⟨h,q⟩
 ·rw[if_neg q,mem_flatMap] at h
  obtain⟨j,hj,hm⟩:=h;have q:at_ d i=NONE:=by simpa using q
  by_cases z:at_ d j=NONE
  ·rw[if_pos z,mem_singleton] at hm
   exact .inr ⟨q,j,mem_range.mp hj,z,hm⟩
  ·rw[if_neg z] at hm
   exact absurd hm (by simp)
def Zdc{n i:Nat}(hn:n<=16)(hi:i<n){d e:List Nat}(b:Brd n d)(h:e∈J2 n i d):Brd n e/\Ext n d e/\at_ e i≠NONE:=by
 rcases Zir h with⟨rfl,q⟩|⟨q,j,hj,z,rfl⟩
 ·exact⟨b,λx _ _=>rfl,q⟩
 ·have e0:∀x,at_ (exchanged d i j) x=if x=j then i else if x=i then j else at_ d x:=λx=>ZcK (by rw[b.len];exact hi) (by rw[b.len];exact hj)
  refine⟨⟨?_,λx hx=>?_⟩,λx hx hne=>?_,?_⟩
  ·unfold exchanged
   rw[length_set,length_set,b.len]
  ·rw[e0]
   split
   ·exact .inl hi
   ·split
    ·exact .inl hj
    ·exact b.val x hx
  ·rw[e0,if_neg (λy=>hne (by rw[y];exact z)),if_neg (λy=>hne (by rw[y];exact q))]
  ·rw[e0]
   split
   ·exact Zdq hn hi
   ·rw[if_pos rfl]
    exact Zdq hn hj
theorem Yt{n:Nat}(hn:n<=16):∀(ts:List Nat) {d e:List Nat},ZO n ts->Brd n d->e∈boardsOn n ts d->Brd n e/\Ext n d e/\∀i,i∈ts->at_ e i≠NONE
 | [],d,e,_,b,h=>by
  have h:e=d:=by simpa[boardsOn] using h
  subst h;exact⟨b,λ_ _ _=>rfl,λi hi=>absurd hi (by simp)⟩
 |i::r,d,e,hl,b,h=>by
  rw[UP,mem_flatMap] at h;obtain⟨f,hf,he⟩:=h;obtain⟨b1,x1,n1⟩:=Zdc hn hl.head b hf;obtain⟨b2,x2,n2⟩:=Yt hn r hl.tail b1 he;refine⟨b2,λx hx hne=>?_,λj hj=>?_⟩
  ·have e1:=x1 x hx hne
   rw[x2 x hx (by rw[e1];exact hne),e1]
  ·rcases mem_cons.mp hj with rfl|hj
   ·rw[x2 j hl.head n1]
    exact n1
   ·exact n2 j hj
def dem(f:Known->Nat->Nat)(c:Known)(d:List Nat):Bool:=f c (at_ d c.plain)==at_ d c.coded
def ZaE(ks:List Known)(i:Nat):List Known:=ks.filter λc=>max c.plain c.coded==i
def YB(n:Nat)(f:Known->Nat->Nat)(ks:List Known)(B:List (List Nat))(i:Nat):List (List Nat):=(B.flatMap (J2 n i)).filter λd=>(ZaE ks i).all λc=>dem f c d
def YJ(n:Nat)(f:Known->Nat->Nat)(ks:List Known)(B:List (List Nat))(ts:List Nat):List (List Nat):=ts.foldl (YB n f ks) B
theorem Dt{α β:Type}{g:α->List β}{p:α->Bool}{q:β->Bool}:∀(l:List α),(∀a,a∈l->∀b,b∈g a->q b=p a)->(l.filter p).flatMap g=(l.flatMap g).filter q
 | [],_=>rfl
 |a::l,h=>by
  have ih:=Dt (g:=g) (p:=p) (q:=q) l λx hx=>h x (mem_cons_of_mem _ hx);have h1:=h a mem_cons_self;rw[flatMap_cons,List.filter_append,<- ih];cases e:p a with
  |true=>
   rw[List.filter_cons_of_pos e,flatMap_cons];congr 1;exact(filter_eq_self.mpr λb hb=>by rw[h1 b hb,e]).symm
  |false=>
   rw[List.filter_cons_of_neg (by rw[e];decide)];have:(g a).filter q=[]:=List.filter_eq_nil_iff.mpr λb hb=>by rw[h1 b hb,e];decide
   rw[this,nil_append]
theorem ZdY{n:Nat}(hn:n<=16){f:Known->Nat->Nat}{ks:List Known}(hk:∀c,c∈ks->c.plain<n/\c.coded<n):∀(ts S:List Nat) (B:List (List Nat)),ZO n ts->ZO n S->(∀d,d∈B->Brd n d/\∀x,x∈S->at_ d x≠NONE) ->
  (∀pre j post,ts=pre++j::post->∀c,c∈ks->max c.plain c.coded=j->(c.plain∈S++(pre++[j]))/\(c.coded∈S++(pre++[j]))) ->
  YJ n f ks B ts=(B.flatMap (boardsOn n ts)).filter λd=>(ks.filter λc=>decide (max c.plain c.coded∈ts)).all λc=>dem f c d
 | [],S,B,_,_,_,_=>by
  show B=_;have h1:B.flatMap (boardsOn n [])=B:=by
   show B.flatMap (λd=>[d])=B;simp
  rw[h1];refine(filter_eq_self.mpr λd _=>?_).symm;simp
 |i::r,S,B,hl,hS,hB,hc=>by
  have hi:=hl.head;have hB1:∀d,d∈B.flatMap (J2 n i)->Brd n d/\∀x,x∈S++[i]->at_ d x≠NONE:=λd hd=>by
   obtain⟨b,hb,hd⟩:=mem_flatMap.mp hd;obtain⟨g1,g2⟩:=hB b hb;obtain⟨o1,o2,o3⟩:=Zdc hn hi g1 hd;refine⟨o1,λx hx=>?_⟩;rcases mem_append.mp hx with hx|hx
   ·rw[o2 x (hS x hx) (g2 x hx)]
    exact g2 x hx
   ·rw[mem_singleton.mp hx]
    exact o3
  have hS1:ZO n (S++[i]):=λx hx=>by
   rcases mem_append.mp hx with hx|hx
   ·exact hS x hx
   ·rw[mem_singleton.mp hx]
    exact hi
  have ih:=ZdY (f:=f) hn hk r (S++[i]) (YB n f ks B i) hl.tail hS1 (λd hd=>hB1 d (mem_filter.mp hd).1) λpre j post e c hcm hm=>by
   have:=hc (i::pre) j post (by rw[e];rfl) c hcm hm;rw[append_assoc];exact this
  show YJ n f ks (YB n f ks B i) r=_;rw[ih];have e1:(YB n f ks B i).flatMap (boardsOn n r)=((B.flatMap (J2 n i)).flatMap (boardsOn n r)).filter λd=>(ZaE ks i).all λc=>dem f c d:=by
   refine Dt _ λd hd e he=>?_;obtain⟨g1,g2⟩:=hB1 d hd;obtain⟨_,x2,_⟩:=Yt hn r hl.tail g1 he;have cg:∀{l:List Known} {p q:Known->Bool},(∀c,c∈l->p c=q c)->l.all p=l.all q:=λ{l p q} h=>by
    induction l with
    |nil=>rfl
    |cons c l ih=>rw[all_cons,all_cons,h c mem_cons_self,ih λc hc=>h c (mem_cons_of_mem _ hc)]
   refine cg λc hcm=>?_;obtain⟨h1,h2⟩:=mem_filter.mp hcm;have hmax:max c.plain c.coded=i:=eq_of_beq h2;obtain⟨k1,k2⟩:=hc [] i r rfl c h1 hmax;rw[nil_append] at k1 k2;unfold dem;rw[x2 _ (hk c h1).1 (g2 _ k1),x2 _ (hk c h1).2 (g2 _ k2)]
  have e2:B.flatMap (boardsOn n (i::r))=(B.flatMap (J2 n i)).flatMap (boardsOn n r):=by
   rw[List.flatMap_assoc];congr 1
   funext d
   exact UP n i r d
  rw[e1,e2,List.filter_filter];apply filter_congr;intro d _;rw[Bool.eq_iff_iff,Bool.and_eq_true,all_eq_true,all_eq_true,all_eq_true];constructor
  ·rintro⟨h1,h2⟩ c hcm
   obtain⟨hm,hd⟩:=mem_filter.mp hcm;rcases mem_cons.mp (of_decide_eq_true hd) with e|e
   ·exact h2 c (mem_filter.mpr ⟨hm,by rw[e];exact beq_self_eq_true i⟩)
   ·exact h1 c (mem_filter.mpr ⟨hm,decide_eq_true e⟩)
  ·intro h
   refine⟨λc hcm=>?_,λc hcm=>?_⟩
   ·obtain⟨hm,hd⟩:=mem_filter.mp hcm
    exact h c (mem_filter.mpr ⟨hm,decide_eq_true (mem_cons_of_mem _ (of_decide_eq_true hd))⟩)
   ·obtain⟨hm,hd⟩:=mem_filter.mp hcm
    exact h c (mem_filter.mpr ⟨hm,decide_eq_true (by rw[eq_of_beq hd];exact mem_cons_self)⟩)
def Up(n:Nat):Brd n (List.replicate n NONE):=⟨length_replicate,λx hx=>.inr (Jh (by rw[getElem?_replicate,if_pos hx]))⟩
def Zhj{n:Nat}(hn:n<=16){f:Known->Nat->Nat}{ks:List Known}(hk:∀c,c∈ks->c.plain<n/\c.coded<n) :
  YJ n f ks [List.replicate n NONE] (toldOf n ks)=(boardsOn n (toldOf n ks) (List.replicate n NONE)).filter λd=>ks.all λc=>dem f c d:=by
 have ht:ZO n (toldOf n ks):=λx hx=>(Z7.mp hx).1;rw[ZdY hn hk (toldOf n ks) [] [List.replicate n NONE] ht (ZO.nil n) (λd hd=>?_) λpre j _ e c hc _=>?_]
 ·have e1:[List.replicate n NONE].flatMap (boardsOn n (toldOf n ks))=boardsOn n (toldOf n ks) (List.replicate n NONE):=by simp
  rw[e1];apply filter_congr;intro d _;have:ks.filter (λc=>decide (max c.plain c.coded∈toldOf n ks))=ks:=filter_eq_self.mpr λc hc=>by
   refine decide_eq_true (Z7.mpr ⟨?_,c,hc,?_⟩)
   ·have:=hk c hc
    omega
   ·rcases Nat.le_total c.plain c.coded with q|q
    ·exact .inr (by omega)
    ·exact .inl (by omega)
  rw[this]
 ·rw[mem_singleton.mp hd]
  exact⟨Up n,λx hx=>absurd hx (by simp)⟩
 ·have hasc:=UZ n ks
  rw[e] at hasc;obtain⟨_,h2,h3⟩:=List.pairwise_append.mp hasc;obtain⟨h4,_⟩:=List.pairwise_cons.mp h2;have key:∀x,x∈toldOf n ks->x<=j->x∈pre++[j]:=λx hx _=>by
   rw[e] at hx;rcases mem_append.mp hx with hx|hx
   ·exact mem_append_left _ hx
   ·rcases mem_cons.mp hx with rfl|hx
    ·simp
    ·have:=h4 x hx
     omega
  rw[nil_append];exact⟨key _ (Z7.mpr ⟨(hk c hc).1,c,hc,.inl rfl⟩) (by omega),key _ (Z7.mpr ⟨(hk c hc).2,c,hc,.inr rfl⟩) (by omega)⟩
def bn(s:Bytes):List Nat:=s.map UInt8.toNat
def Jd(s:Bytes):(bn s).length=s.length:=length_map ..
def Znv{s:Bytes}{o:Nat}(h:o<s.length):num s o 1=at_ (bn s) o:=by
 unfold num;rw[drop_eq_getElem_cons h];show s[o].toNat+256*0=_;rw[Jh (a:=bn s) (i:=o) (x:=s[o].toNat) (by unfold bn;rw[getElem?_map,getElem?_eq_getElem h];rfl)];omega
def Zob{s:Bytes}{o:Nat}(h:o+1<s.length):num s o 2=at_ (bn s) o+256*at_ (bn s) (o+1):=by
 unfold num;rw[drop_eq_getElem_cons (by omega),drop_eq_getElem_cons h];show s[o].toNat+256*(s[o+1].toNat+256*0)=_;rw[Jh (a:=bn s) (i:=o) (x:=s[o].toNat) (by unfold bn;rw[getElem?_map,getElem?_eq_getElem (by omega)];rfl),
  Jh (a:=bn s) (i:=o+1) (x:=s[o+1].toNat) (by unfold bn;rw[getElem?_map,getElem?_eq_getElem h];rfl)];omega
def Ze9(s:Bytes)(o:Nat)(ok:Nat->Bool):field s o 1 ok=if s.length<=o then .error s.length else if ok (at_ (bn s) o)=true then .ok (at_ (bn s) o) else .error o:=by
 unfold field;by_cases h:s.length<=o
 ·rw[if_pos h,if_pos (by omega)]
 ·rw[if_neg h,if_neg (by omega),Znv (by omega)]
def Zlh(s:Bytes)(o:Nat)(ok:Nat->Bool):field s o 2 ok=if s.length<o+2 then .error s.length else if ok (at_ (bn s) o+256*at_ (bn s) (o+1))=true then .ok (at_ (bn s) o+256*at_ (bn s) (o+1)) else .error o:=by
 unfold field;by_cases h:s.length<o+2
 ·rw[if_pos h,if_pos h]
 ·rw[if_neg h,if_neg h,Zob (by omega)]
def YN{s:Bytes}{o w x:Nat}{ok:Nat->Bool}(h:field s o w ok = .ok x):o+w<=s.length/\ok x=true/\x=num s o w:=by
 unfold field at h;by_cases h1:s.length<o+w
 ·rw[if_pos h1] at h
  cases h
 ·rw[if_neg h1] at h
  by_cases h2:ok (num s o w)=true
  ·rw[if_pos h2] at h
   cases h;exact⟨by omega,h2,rfl⟩
  ·rw[if_neg h2] at h
   cases h
def Uv(s:Bytes)(n k o:Nat)(l:List Nat):lettersIn s n (k+1) o l =
  if s.length<=o then .error s.length else if (decide (at_ (bn s) o<n) && !l.contains (at_ (bn s) o))=true then lettersIn s n k (o+1) (l++[at_ (bn s) o]) else .error o:=by
 show(field s o 1 (λx=>decide (x<n) && !l.contains x) >>= λx=>lettersIn s n k (o+1) (l++[x]))=_;rw[Ze9];by_cases h:s.length<=o
 ·rw[if_pos h,if_pos h]
  rfl
 ·rw[if_neg h,if_neg h]
  by_cases h2:(decide (at_ (bn s) o<n) && !l.contains (at_ (bn s) o))=true
  ·rw[if_pos h2,if_pos h2]
   rfl
  ·rw[if_neg h2,if_neg h2]
   rfl
theorem YC{s:Bytes}{n:Nat}:∀(k o:Nat) (l r:List Nat),lettersIn s n k o l = .ok r->l.Nodup->ZO n l->r.length=l.length+k/\r.Nodup/\ZO n r/\(k=0\/o+k<=s.length)
 |0,o,l,r,h,hn,hl=>by
  have h:(Except.ok l:Except Nat (List Nat)) = .ok r:=h;cases h;exact⟨rfl,hn,hl,.inl rfl⟩
 |k+1,o,l,r,h,hn,hl=>by
  rw[Uv] at h;by_cases h1:s.length<=o
  ·rw[if_pos h1] at h
   cases h
  ·rw[if_neg h1] at h
   by_cases h2:(decide (at_ (bn s) o<n) && !l.contains (at_ (bn s) o))=true
   ·rw[if_pos h2] at h
    rw[Bool.and_eq_true,decide_eq_true_eq,Bool.not_eq_true',List.contains_eq_mem,decide_eq_false_iff_not] at h2;have hn':(l++[at_ (bn s) o]).Nodup:=by
     rw[List.nodup_append];refine⟨hn,by simp,λa ha b hb e=>?_⟩;rw[mem_singleton.mp hb] at e;exact h2.2 (e▸ha)
    have hl':ZO n (l++[at_ (bn s) o]):=λx hx=>by
     rcases mem_append.mp hx with hx|hx
     ·exact hl x hx
     ·rw[mem_singleton.mp hx]
      exact h2.1
    obtain⟨a1,a2,a3,a4⟩:=YC k (o+1) _ r h hn' hl';rw[length_append,length_singleton] at a1;exact⟨by omega,a2,a3,.inr (by omega)⟩
   ·rw[if_neg h2] at h
    cases h
def Znf{n:Nat}(hn:n<=16){l:List Nat}(hl:l.length=n)(hd:l.Nodup)(hlt:ZO n l):Wd n l:=by
 refine⟨hl,(ZcS hn (Zbf hl hn)).mpr ⟨?_,ZhA hl⟩⟩;rw[ZdI hl];refine(List.perm_ext_iff_of_nodup hd List.nodup_range).mpr λx=>⟨λh=>mem_range.mpr (hlt x h),λh=>?_⟩;have hx:x<n:=mem_range.mp h;exact Classical.byContradiction λhne=>by
  have h1:(x::l).Nodup:=nodup_cons.mpr ⟨hne,hd⟩;have h2:=DA n (x::l) h1 λy hy=>by
   rcases mem_cons.mp hy with rfl|hy
   ·exact hx
   ·exact hlt y hy
  rw[length_cons] at h2;omega
def VG{s:Bytes}{n o:Nat}(hn:n<=16){r:List Nat}(h:lettersIn s n n o [] = .ok r):Wd n r:=by
 obtain⟨a1,a2,a3,_⟩:=YC n o [] r h nodup_nil (ZO.nil n);rw[List.length_nil,Nat.zero_add] at a1;exact Znf hn a1 a2 a3
def Y1(s:Bytes)(n i o:Nat):Except Nat (Wheel×Nat):=do
 let kind <- field s o 1 λx=>decide (x<=if i=0 then 1 else 3)
 let ring <- field s (o+1) 1 λx=>decide (x<n)
 let p <- field s (o+2) 1 λx=>decide (x<n)
 let notches <- field s (o+3) 2 λx=>decide (x<2^n)
 let wires <- lettersIn s n n (o+5) []
 return (⟨kind,ring,notches,wires⟩,p)
def UN(s:Bytes)(n k i o:Nat):wheelsIn s n (k+1) i o=(Y1 s n i o).bind λx=>(wheelsIn s n k (i+1) (o+5+n)).bind λl=>.ok (x::l.1,l.2):=by
 unfold Y1;show(field s o 1 _ >>= λkind=>field s (o+1) 1 _ >>= λring=>field s (o+2) 1 _ >>= λp=>field s (o+3) 2 _ >>= λnotches=>lettersIn s n n (o+5) [] >>= λwires=>wheelsIn s n k (i+1) (o+5+n) >>= λl=>Except.ok ((⟨kind,ring,notches,wires⟩,p)::l.1,l.2))=_;cases field s o 1 _ with
 |error e=>rfl
 |ok kind=>
  cases h2:field s (o+1) 1 (λx=>decide (x<n)) with
  |error e=>simp[bind,Except.bind,pure,Except.pure]
  |ok ring=>
   cases h3:field s (o+2) 1 (λx=>decide (x<n)) with
   |error e=>simp[bind,Except.bind,pure,Except.pure]
   |ok p=>
    cases h4:field s (o+3) 2 (λx=>decide (x<2^n)) with
    |error e=>simp[bind,Except.bind,pure,Except.pure]
    |ok notches=>
     cases h5:lettersIn s n n (o+5) [] with
     |error e=>simp[bind,Except.bind,pure,Except.pure]
     |ok wires=>simp[bind,Except.bind,pure,Except.pure]
structure Zm5(s:Bytes)(n i o:Nat)(x:Wheel×Nat):Prop where
 kind:x.1.kind<=if i=0 then 1 else 3
 ring:x.1.ring<n
 notches:x.1.notches<2^n
 wires:Wd n x.1.wires
 st:x.2<n
 at_:x.2=Rotor.at_ (bn s) (o+2)
 len:o+5+n<=s.length
def ZeG{s:Bytes}{n i o:Nat}(h1:1<=n)(hn:n<=16){x:Wheel×Nat}(h:Y1 s n i o = .ok x):Zm5 s n i o x:=by
 unfold Y1 at h;cases e1:field s o 1 (λx=>decide (x<=if i=0 then 1 else 3)) with
 |error e=>rw[e1] at h;simp[bind,Except.bind] at h
 |ok kind=>
  cases e2:field s (o+1) 1 (λx=>decide (x<n)) with
  |error e=>rw[e1,e2] at h;simp[bind,Except.bind] at h
  |ok ring=>
   cases e3:field s (o+2) 1 (λx=>decide (x<n)) with
   |error e=>rw[e1,e2,e3] at h;simp[bind,Except.bind] at h
   |ok p=>
    cases e4:field s (o+3) 2 (λx=>decide (x<2^n)) with
    |error e=>rw[e1,e2,e3,e4] at h;simp[bind,Except.bind] at h
    |ok notches=>
     cases e5:lettersIn s n n (o+5) [] with
     |error e=>rw[e1,e2,e3,e4,e5] at h;simp[bind,Except.bind] at h
     |ok wires=>
      rw[e1,e2,e3,e4,e5] at h;simp[bind,Except.bind,pure,Except.pure] at h;subst h;obtain⟨a1,b1,c1⟩:=YN e1;obtain⟨a2,b2,c2⟩:=YN e2;obtain⟨a3,b3,c3⟩:=YN e3;obtain⟨a4,b4,c4⟩:=YN e4;obtain⟨_,_,_,l4⟩:=YC n (o+5) [] wires e5 nodup_nil (ZO.nil n);exact⟨of_decide_eq_true b1,of_decide_eq_true b2,of_decide_eq_true b4,VG hn e5,of_decide_eq_true b3,by rw[c3];exact Znv (by omega),by omega⟩
theorem Yu{s:Bytes}{n:Nat}(h1:1<=n)(hn:n<=16):∀(k i o:Nat) (r:List (Wheel×Nat)×Nat),wheelsIn s n k i o = .ok r ->
  r.2=o+k*(5+n)/\r.1.length=k/\∀j x,r.1[j]? = some x->Zm5 s n (i+j) (o+j*(5+n)) x
 |0,i,o,r,h=>by
  have h:(Except.ok ([],o):Except Nat (List (Wheel×Nat)×Nat)) = .ok r:=h;cases h;exact⟨by simp,rfl,λj x hx=>by simp at hx⟩
 |k+1,i,o,r,h=>by
  rw[UN] at h;cases e1:Y1 s n i o with
  |error e=>rw[e1] at h;cases h
  |ok x=>
   cases e2:wheelsIn s n k (i+1) (o+5+n) with
   |error e=>rw[e1,e2] at h;cases h
   |ok l=>
    rw[e1,e2] at h;have h:(Except.ok (x::l.1,l.2):Except Nat (List (Wheel×Nat)×Nat)) = .ok r:=h;cases h;obtain⟨a1,a2,a3⟩:=Yu h1 hn k (i+1) (o+5+n) l e2;refine⟨?_,by rw[length_cons,a2],λj y hy=>?_⟩
    ·show l.2=_
     rw[a1,Nat.add_mul];omega
    ·cases j with
     |zero=>
      have e:x=y:=Option.some.inj hy;subst e;rw[Nat.zero_mul];exact ZeG h1 hn e1
     |succ j=>
      have:=a3 j y hy;rw[show i+(j+1)=i+1+j by omega,show o+(j+1)*(5+n)=o+5+n+j*(5+n) by rw[Nat.add_mul];omega];exact this
def Zc7(s:Bytes):machineIn s=(field s 0 1 λx=>decide (2<=x)&&decide (x<=WIDE)).bind λn=>(field s 1 1 λx=>decide (x<=4)).bind λk=>(field s 2 1 λx=>decide (x<=1)).bind λmirror=>
  (lettersIn s n n 3 []).bind λfirst=>(lettersIn s n n (3+n) []).bind λlast=>(wheelsIn s n k 0 (3+2*n)).bind λw=>
   if s.length≠w.2 then .error w.2 else .ok (⟨n,mirror==1,first,last,w.1.map λx=>x.1⟩,w.1.map λx=>x.2):=by
 unfold machineIn;cases field s 0 1 (λx=>decide (2<=x)&&decide (x<=WIDE)) with
 |error e=>rfl
 |ok n=>
  cases h2:field s 1 1 (λx=>decide (x<=4)) with
  |error e=>rfl
  |ok k=>
   cases h3:field s 2 1 (λx=>decide (x<=1)) with
   |error e=>rfl
   |ok mirror=>
    cases h4:lettersIn s n n 3 [] with
    |error e=>simp[bind,Except.bind,h4]
    |ok first=>
     cases h5:lettersIn s n n (3+n) [] with
     |error e=>simp[bind,Except.bind,h4,h5]
     |ok last=>
      cases h6:wheelsIn s n k 0 (3+2*n) with
      |error e=>simp[bind,Except.bind,h4,h5,h6]
      |ok w=>
       simp only[bind,Except.bind,h4,h5,h6];by_cases e:s.length≠w.2
       ·rw[if_pos e,if_pos e];rfl
       ·rw[if_neg e,if_neg e];rfl
def Zjq{s:Bytes}{n k:Nat}{mirror:Bool}{first last:List Nat}{w:List (Wheel×Nat)×Nat}(h2:2<=n)(hn:n<=16)(hk:k<=4){o1 o2 o3:Nat}
  (h4:lettersIn s n n o1 [] = .ok first) (h5:lettersIn s n n o2 [] = .ok last) (h6:wheelsIn s n k 0 o3 = .ok w) :
  Mach ⟨n,mirror,first,last,w.1.map λx=>x.1⟩/\St ⟨n,mirror,first,last,w.1.map λx=>x.1⟩ (w.1.map λx=>x.2):=by
 obtain⟨a1,a2,a3⟩:=Yu (by omega) hn k 0 o3 w h6;have key:∀v:Wheel,v∈w.1.map (λ(x:Wheel×Nat)=>x.1)->∃(j:Nat) (x:Wheel×Nat),w.1[j]? = some x/\v=x.1:=λv hv=>by
  obtain⟨x,hx,rfl⟩:=mem_map.mp hv;obtain⟨j,hj⟩:=List.getElem?_of_mem hx;exact⟨j,x,hj,rfl⟩
 have good:Good ⟨n,mirror,first,last,w.1.map λx=>x.1⟩:=by
  refine⟨h2,hn,?_,λv hv=>?_,λv hv=>?_⟩
  ·show(w.1.map λx=>x.1).length<=4
   rw[length_map,a2];exact hk
  ·have hv:(w.1.map λx=>x.1)[0]? = some v:=hv
   rw[getElem?_map] at hv;cases e:w.1[0]? with
   |none=>rw[e] at hv;cases hv
   |some x=>
    rw[e] at hv;have:=(a3 0 x e).kind;rw[if_pos rfl] at this;cases hv;exact this
  ·obtain⟨j,x,hx,rfl⟩:=key v hv
   have q:=a3 j x hx;refine⟨?_,q.ring,q.notches⟩;have:=q.kind;split at this<;>omega
 refine⟨⟨good,VG hn h4,VG hn h5,λv hv=>?_⟩,?_,λy hy=>?_⟩
 ·obtain⟨j,x,hx,rfl⟩:=key v hv
  exact(a3 j x hx).wires
 ·show(w.1.map λx=>x.2).length=(w.1.map λx=>x.1).length
  rw[length_map,length_map]
 ·obtain⟨x,hx,rfl⟩:=mem_map.mp hy
  obtain⟨j,hj⟩:=List.getElem?_of_mem hx;exact(a3 j x hj).st
def UW{l:List Nat}(h:ZO 256 l):bn (letters l)=l:=by
 unfold bn letters;rw[map_map];conv=>rhs;rw[<- map_id l]
 apply map_congr_left;intro x hx;show(UInt8.ofNat x).toNat=x;rw[UInt8.toNat_ofNat'];exact Nat.mod_eq_of_lt (h x hx)
def UE(a b:Bytes):bn (a++b)=bn a++bn b:=map_append ..
def ZlJ{x:Nat}(h:x<65536):bn (le 2 x)=[x%256,x / 256]:=by
 unfold bn le;show [(UInt8.ofNat (x / 256^0%256)).toNat,(UInt8.ofNat (x / 256^1%256)).toNat]=_;rw[UInt8.toNat_ofNat',UInt8.toNat_ofNat'];simp only[Nat.pow_zero,Nat.div_one,Nat.pow_one,Nat.mod_mod];congr 2;omega
def J7(x:Wheel×Nat):List Nat:=[x.1.kind,x.1.ring,x.2,x.1.notches%256,x.1.notches / 256]++x.1.wires
def U3(m:Machine)(p:List Nat):List Nat:=[m.n,m.wheels.length,m.mirror.toNat]++(m.first++m.last)++(m.wheels.zip p).flatMap J7
def Wd.ltAll{n:Nat}{l:List Nat}(h:Wd n l)(hn:n<=16):ZO n l:=λx hx=>by
 obtain⟨i,hi,rfl⟩:=getElem_of_mem hx;rw[<- JW hi];exact h.lt hn (by rw[<- h.len];exact hi)
def UU{m:Machine}{p:List Nat}(g:Mach m)(h:St m p):bn (bytesOf m p)=U3 m p:=by
 unfold bytesOf U3;have hn:=g.n16;rw[UE];congr 1
 ·rw[UW]
  intro x hx;rcases mem_append.mp hx with hx|hx
  ·simp only[mem_cons,List.mem_nil_iff,or_false] at hx
   have:=g.k4;rcases hx with rfl|rfl|rfl
   ·omega
   ·omega
   ·cases m.mirror<;>decide
  ·rcases mem_append.mp hx with hx|hx
   ·have:=g.first.ltAll hn x hx;omega
   ·have:=g.last.ltAll hn x hx;omega
 ·have:∀(l:List (Wheel×Nat)),(∀x,x∈l->x.1∈m.wheels/\x.2<m.n)->bn (l.flatMap λx=>letters [x.1.kind,x.1.ring,x.2]++(le 2 x.1.notches++letters x.1.wires))=l.flatMap J7:=by
   intro l;induction l with
   |nil=>intro _;rfl
   |cons x l ih=>
    intro hl;rw[flatMap_cons,flatMap_cons,UE,ih λy hy=>hl y (mem_cons_of_mem _ hy)];congr 1;obtain⟨h1,h2⟩:=hl x mem_cons_self;obtain⟨k1,k2,k3⟩:=g.kd _ h1;have k4:x.1.notches<65536:=Nat.lt_of_lt_of_le k3 (Nat.pow_le_pow_right (by decide) hn);rw[UE,UE,UW,ZlJ k4,UW]
    ·rfl
    ·intro y hy
     have:=(g.wires _ h1).ltAll hn y hy;omega
    ·intro y hy
     simp only[mem_cons,List.mem_nil_iff,or_false] at hy;rcases hy with rfl|rfl|rfl<;>omega
  apply this;intro x hx;obtain⟨a,b⟩:=x;obtain⟨h1,h2⟩:=of_mem_zip hx;exact⟨h1,h.lt b h2⟩
def J0(n x:Nat):Bool:=decide (65<=x)&&decide (x<65+n)
section
variable{m:Machine}{undo:Bool}
def ZbF{n:Nat}{c:UInt8}(h:J0 n c.toNat=true):letterOf n c=some (c.toNat-65):=by
 unfold J0 at h;rw[Bool.and_eq_true,decide_eq_true_eq,decide_eq_true_eq] at h;unfold letterOf;rw[if_pos h]
def Zbt{n:Nat}{c:UInt8}(h:J0 n c.toNat=false):letterOf n c=none:=by
 unfold letterOf;rw[if_neg];rintro⟨h1,h2⟩;unfold J0 at h;rw[decide_eq_true h1,decide_eq_true h2] at h;cases h
def YI(m:Machine)(undo:Bool)(q:List Nat)(x:Nat):Nat:=if undo=true then at_ (back (Zbq m q)) x else at_ (Zbq m q) x
def ZaZ(g:Mach m){c:UInt8}{r:Bytes}{p:List Nat}(hp:St m p)(h:J0 m.n c.toNat=true) :
  m.text undo (c::r) p=(UInt8.ofNat (65+YI m undo (m.step p) (c.toNat-65))::(m.text undo r (m.step p)).1,(m.text undo r (m.step p)).2.1+1,(m.text undo r (m.step p)).2.2):=by
 have hs:=hp.step g.toGood;have hx:c.toNat-65<m.n:=by
  unfold J0 at h;rw[Bool.and_eq_true,decide_eq_true_eq,decide_eq_true_eq] at h;omega
 rw[Machine.text,ZbF h];show(UInt8.ofNat (65+(if undo=true then placeOf (m.perm (m.step p)) (c.toNat-65) else m.letter (m.step p) (c.toNat-65)))::_,_,_)=_;have e:(if undo=true then placeOf (m.perm (m.step p)) (c.toNat-65) else m.letter (m.step p) (c.toNat-65))=YI m undo (m.step p) (c.toNat-65):=by
  unfold YI;have hn:=g.n16;rw[Zaj (by omega),Zci g hs,Zc9 g hs hx]
 rw[e]
def DQ{c:UInt8}{r:Bytes}{p:List Nat}(h:J0 m.n c.toNat=false):m.text undo (c::r) p=(c::(m.text undo r p).1,(m.text undo r p).2):=by
 rw[Machine.text,Zbt h]
def Zg4(g:Mach m){q:List Nat}(hq:St m q){x:Nat}(hx:x<m.n):YI m undo q x<16:=by
 have hn:=g.n16;unfold YI;split
 ·exact(ZdC (Vn g hq)).lt (by omega)
 ·exact(Vn g hq).lt (by omega)
theorem UX(g:Mach m):∀(s:Bytes) (p:List Nat),St m p->(m.text undo s p).2.1=((bn s).filter (J0 m.n)).length
 | [],p,_=>rfl
 |c::r,p,hp=>by
  show _=((c.toNat::bn r).filter (J0 m.n)).length;cases h:J0 m.n c.toNat with
  |true=>
   rw[ZaZ g hp h,List.filter_cons_of_pos h,length_cons];show(m.text undo r (m.step p)).2.1+1=_;rw[UX g r _ (hp.step g.toGood)]
  |false=>
   rw[DQ h,List.filter_cons_of_neg (by rw[h];decide)];exact UX g r p hp
structure Yy(m:Machine)(undo:Bool)(s:Bytes)(p:List Nat)(i:Nat)(out:List Nat)(q:List Nat):Prop where
 ou:bn (m.text undo s p).1=out++bn (m.text undo (s.drop i) q).1
 fin:(m.text undo s p).2.2=(m.text undo (s.drop i) q).2.2
 st:St m q
 len:out.length=i
def Yy.zero(s:Bytes){p:List Nat}(hp:St m p):Yy m undo s p 0 [] p:=⟨rfl,rfl,hp,rfl⟩
def ZbN{s:Bytes}{i x:Nat}(h:(bn s)[i]? = some x):∃c:UInt8,c.toNat=x/\s.drop i=c::s.drop (i+1):=by
 unfold bn at h;rw[getElem?_map] at h;cases e:s[i]? with
 |none=>rw[e] at h;cases h
 |some c=>
  rw[e] at h;obtain⟨hi,e1⟩:=List.getElem?_eq_some_iff.mp e;exact⟨c,Option.some.inj h,by rw[drop_eq_getElem_cons hi,e1]⟩
def Yy.letter(g:Mach m){s:Bytes}{p q:List Nat}{i x:Nat}{out:List Nat}(t:Yy m undo s p i out q)(hx:(bn s)[i]? = some x)(h:J0 m.n x=true) :
  Yy m undo s p (i+1) (out++[65+YI m undo (m.step q) (x-65)]) (m.step q):=by
 obtain⟨c,rfl,e⟩:=ZbN hx;have hs:=t.st.step g.toGood;have hlt:YI m undo (m.step q) (c.toNat-65)<16:=by
  refine Zg4 g hs ?_;unfold J0 at h;rw[Bool.and_eq_true,decide_eq_true_eq,decide_eq_true_eq] at h;omega
 refine⟨?_,?_,hs,by rw[length_append,t.len];rfl⟩
 ·rw[t.ou,e,ZaZ g t.st h,append_assoc]
  congr 1;show(UInt8.ofNat (65+YI m undo (m.step q) (c.toNat-65))).toNat::bn (m.text undo (s.drop (i+1)) (m.step q)).1=_;rw[UInt8.toNat_ofNat',Nat.mod_eq_of_lt (by omega)];rfl
 ·rw[t.fin,e,ZaZ g t.st h]
def Yy.pass{s:Bytes}{p q:List Nat}{i x:Nat}{out:List Nat}(t:Yy m undo s p i out q)(hx:(bn s)[i]? = some x)(h:J0 m.n x=false):Yy m undo s p (i+1) (out++[x]) q:=by
 obtain⟨c,rfl,e⟩:=ZbN hx;refine⟨?_,?_,t.st,by rw[length_append,t.len];rfl⟩
 ·rw[t.ou,e,DQ h,append_assoc]
  rfl
 ·rw[t.fin,e,DQ h]
def Yy.done{s:Bytes}{p q:List Nat}{out:List Nat}(t:Yy m undo s p s.length out q):bn (m.text undo s p).1=out/\(m.text undo s p).2.2=q:=by
 have h1:=t.ou;have h2:=t.fin;rw[List.drop_length] at h1 h2;exact⟨by rw[h1];exact append_nil _,h2⟩
def Jk(m:Machine)(p:List Nat)(i:Nat):List (List Nat):=(List.range i).map λj=>m.steps j p
def ZdV(p:List Nat)(i:Nat):Jk m p (i+1)=Jk m p i++[m.steps i p]:=by
 unfold Jk;rw[range_succ,map_append];rfl
def ZeZ{p:List Nat}{f i j:Nat}(h:(Jk m p i).findIdx? (λ(x:Stand)=>x==m.steps i p)=some j):m.comes f (Jk m p i) (m.steps i p)=some (j,i-j):=by
 have hl:(Jk m p i).length=i:=by unfold Jk;rw[length_map,length_range]
 cases f with
 |zero=>
  show((Jk m p i).findIdx? λ(x:Stand)=>x==m.steps i p).map (λ(i':Nat)=>(i',(Jk m p i).length-i'))=_;rw[h,hl];rfl
 |succ f=>
  rw[Machine.comes,h,hl]
def Zfm{p:List Nat}{f i:Nat}(h:(Jk m p i).findIdx? (λ(x:Stand)=>x==m.steps i p)=none) :
  m.comes f (Jk m p i) (m.steps i p)=match f with|0=>none|f+1=>m.comes f (Jk m p (i+1)) (m.steps (i+1) p):=by
 cases f with
 |zero=>
  show((Jk m p i).findIdx? λ(x:Stand)=>x==m.steps i p).map (λ(i':Nat)=>(i',(Jk m p i).length-i'))=_;rw[h];rfl
 |succ f=>
  rw[Machine.comes,h,ZdV,YL]
end
def ZiD{l x s:List Int}(h:PyFlat.row l=some (x,s)):l=(x.length:Int)::(x++s):=by
 cases l with
 |nil=>cases h
 |cons n r=>
  have h':(if 0<=n/\n.toNat<=r.length then some (r.take n.toNat,r.drop n.toNat) else none)=some (x,s):=h;by_cases k:0<=n/\n.toNat<=r.length
  ·rw[if_pos k] at h'
   cases h';rw[List.take_append_drop,length_take,Nat.min_eq_left k.2,Int.toNat_of_nonneg k.1]
  ·rw[if_neg k] at h'
   cases h'
def Zgv{l:List Int}{xs:List (List Int)}{t:List Int}(h:PyFlat.rows 1 l=some (xs,t)):∃x,xs=[x]/\l=(x.length:Int)::(x++t):=by
 have h':(match PyFlat.row l with
  |none=>none
  |some (x,s)=>match PyFlat.rows 0 s with
   |none=>none
   |some (xs,t)=>some (x::xs,t))=some (xs,t):=h
 cases e:PyFlat.row l with
 |none=>rw[e] at h';cases h'
 |some q=>
  obtain⟨x,s⟩:=q;rw[e] at h';have h2:some ([x],s)=some (xs,t):=h';cases h2;exact⟨x,rfl,ZiD e⟩
def ZnF{l:List Int}{xs:List (List Int)}{t:List Int}(h:PyFlat.rows 2 l=some (xs,t)):∃x y,xs=[x,y]/\l=(x.length:Int)::(x++((y.length:Int)::(y++t))):=by
 have h':(match PyFlat.row l with
  |none=>none
  |some (x,s)=>match PyFlat.rows 1 s with
   |none=>none
   |some (xs,t)=>some (x::xs,t))=some (xs,t):=h
 cases e:PyFlat.row l with
 |none=>rw[e] at h';cases h'
 |some q=>
  obtain⟨x,s⟩:=q;rw[e] at h';have h':(match PyFlat.rows 1 s with
   |none=>none
   |some (xs,t)=>some (x::xs,t))=some (xs,t):=h'
  cases e2:PyFlat.rows 1 s with
  |none=>rw[e2] at h';cases h'
  |some q2=>
   obtain⟨ys,u⟩:=q2;rw[e2] at h';have h2:some (x::ys,u)=some (xs,t):=h';cases h2;obtain⟨y,rfl,e3⟩:=Zgv e2;exact⟨x,y,rfl,by rw[ZiD e,e3]⟩
def VH{p:Int}{r t:List Int}{c:List (List Int)}(h:PyFlat.call PyWqaeau.shape (p::r)=some (c,t)) :
  ∃n k,PyWqaeau.shape p=some (n,k)/\n<=r.length/\∃xs,PyFlat.rows k (r.drop n)=some (xs,t)/\c=(p::r.take n)::xs:=by
 have h':(match PyWqaeau.shape p with
  |none=>none
  |some (n,k)=>if r.length<n then none else match PyFlat.rows k (r.drop n) with
   |none=>none
   |some (xs,t)=>some ((p::r.take n)::xs,t))=some (c,t):=h
 cases e:PyWqaeau.shape p with
 |none=>rw[e] at h';cases h'
 |some q=>
  obtain⟨n,k⟩:=q;rw[e] at h';have h':(if r.length<n then none else match PyFlat.rows k (r.drop n) with
   |none=>none
   |some (xs,t)=>some ((p::r.take n)::xs,t))=some (c,t):=h'
  by_cases hl:r.length<n
  ·rw[if_pos hl] at h'
   cases h'
  ·rw[if_neg hl] at h'
   cases e2:PyFlat.rows k (r.drop n) with
   |none=>rw[e2] at h';cases h'
   |some q2=>
    obtain⟨xs,u⟩:=q2;rw[e2] at h';have h2:some ((p::r.take n)::xs,u)=some (c,t):=h';cases h2;exact⟨n,k,rfl,by omega,xs,e2,rfl⟩
def Zj2{p:Int}{r t:List Int}{c:List (List Int)}(h:PyFlat.call PyWqaeau.shape (p::r)=some (c,t))(hs:PyWqaeau.shape p=some (0,0)):c=[[p]]/\r=t:=by
 obtain⟨n,k,e,_,xs,h1,rfl⟩:=VH h;rw[hs] at e;cases e;have h1:some ([],r)=some (xs,t):=h1;cases h1;exact⟨rfl,rfl⟩
def ZjN{p:Int}{r t:List Int}{c:List (List Int)}(h:PyFlat.call PyWqaeau.shape (p::r)=some (c,t))(hs:PyWqaeau.shape p=some (1,0)):∃x,c=[[p,x]]/\r=x::t:=by
 obtain⟨n,k,e,hl,xs,h1,rfl⟩:=VH h;rw[hs] at e;cases e;cases r with
 |nil=>simp at hl
 |cons x r=>
  have h1:some ([],r)=some (xs,t):=h1;cases h1;exact⟨x,rfl,rfl⟩
def ZjH{p:Int}{r t:List Int}{c:List (List Int)}(h:PyFlat.call PyWqaeau.shape (p::r)=some (c,t))(hs:PyWqaeau.shape p=some (0,1)):∃x,c=[[p],x]/\r=(x.length:Int)::(x++t):=by
 obtain⟨n,k,e,hl,xs,h1,rfl⟩:=VH h;rw[hs] at e;cases e;obtain⟨x,rfl,e1⟩:=Zgv h1;exact⟨x,rfl,e1⟩
def Zje{p:Int}{r t:List Int}{c:List (List Int)}(h:PyFlat.call PyWqaeau.shape (p::r)=some (c,t))(hs:PyWqaeau.shape p=some (0,2)) :
  ∃x y,c=[[p],x,y]/\r=(x.length:Int)::(x++((y.length:Int)::(y++t))):=by
 obtain⟨n,k,e,hl,xs,h1,rfl⟩:=VH h;rw[hs] at e;cases e;obtain⟨x,y,rfl,e1⟩:=ZnF h1;exact⟨x,y,rfl,e1⟩
def Zkc{p:Int}{r t:List Int}{c:List (List Int)}(h:PyFlat.call PyWqaeau.shape (p::r)=some (c,t))(hs:PyWqaeau.shape p=some (1,1)):∃z x,c=[[p,z],x]/\r=z::(x.length:Int)::(x++t):=by
 obtain⟨n,k,e,hl,xs,h1,rfl⟩:=VH h;rw[hs] at e;cases e;cases r with
 |nil=>simp at hl
 |cons z r=>
  obtain⟨x,rfl,e1⟩:=Zgv (l:=r) h1;exact⟨z,x,rfl,by rw[e1]⟩
def Zjo{p:Int}{r t:List Int}{c:List (List Int)}(h:PyFlat.call PyWqaeau.shape (p::r)=some (c,t))(hs:PyWqaeau.shape p=some (2,1)):∃z v x,c=[[p,z,v],x]/\r=z::v::(x.length:Int)::(x++t):=by
 obtain⟨n,k,e,hl,xs,h1,rfl⟩:=VH h;rw[hs] at e;cases e;cases r with
 |nil=>simp at hl
 |cons z r=>
  cases r with
  |nil=>simp at hl
  |cons v r=>
   obtain⟨x,rfl,e1⟩:=Zgv (l:=r) h1;exact⟨z,v,x,rfl,by rw[e1]⟩
def Zic{p:Int}{n k:Nat}(h:PyWqaeau.shape p=some (n,k)):0<=p/\p<18:=by
 refine Classical.byContradiction λhn=>?_;unfold PyWqaeau.shape at h;repeat rw[if_neg (by omega)] at h
 cases h
open Rotor Rotorwork
theorem Vd:∀(l:List Nat),(l.length%3≠0/\knownOf l=none)\/∃k,knownOf l=some k/\l.length=3*k.length/\∀i (h:i<k.length),l[3*i]? = some k[i].at_/\l[3*i+1]? = some k[i].plain/\l[3*i+2]? = some k[i].coded
 | []=>.inr ⟨[],rfl,rfl,λi h=>absurd h (by simp)⟩
 | [a]=>.inl ⟨by simp,rfl⟩
 | [a,b]=>.inl ⟨by simp,rfl⟩
 |a::p::c::r=>by
  rcases Vd r with⟨h1,h2⟩|⟨k,h1,h2,h3⟩
  ·refine .inl ⟨?_,?_⟩
   ·simp only[length_cons]
    omega
   ·show(knownOf r).map _=none
    rw[h2];rfl
  ·refine .inr ⟨⟨a,p,c⟩::k,?_,?_,λi h=>?_⟩
   ·show(knownOf r).map _=_
    rw[h1];rfl
   ·simp only[length_cons]
    omega
   ·cases i with
    |zero=>exact⟨rfl,rfl,rfl⟩
    |succ i=>
     have:=h3 i (by simpa using h);rw[show 3*(i+1)=3*i+3 by omega];exact this
def J3(n:Nat)(l:List Nat):Bool:=match knownOf l with
 |none=>false
 |some k=>decide (k.length<=12)&&Rotor.fits n k
def ZaG(m:Machine)(l:List Nat)(f:List Known->Answer):ofKnown m l f=match knownOf l with
  |none=>says (-1)
  |some k=>if J3 m.n l=true then f k else says (-1):=by
 unfold ofKnown J3;cases h:knownOf l with
 |none=>rfl
 |some k=>
  show(if KNOWN<k.length\/Rotor.fits m.n k=false then says (-1) else f k)=if (decide (k.length<=12)&&Rotor.fits m.n k)=true then f k else says (-1)
  by_cases h1:k.length<=12
  ·cases h2:Rotor.fits m.n k with
   |true=>
    rw[if_neg (by
     show ¬ (12<k.length\/true=false);intro q;rcases q with q|q
     ·omega
     ·cases q),if_pos (by rw[decide_eq_true h1];rfl)]
   |false=>
    rw[if_pos (.inr rfl),if_neg (by rw[Bool.and_false];decide)]
  ·rw[if_pos (.inl (show 12<k.length by omega)),if_neg (by rw[decide_eq_false h1,Bool.false_and];decide)]
def Yr{ks ls:List Known}(h:ks.Perm ls)(n:Nat):Rotor.fits n ks=Rotor.fits n ls:=by
 unfold Rotor.fits;exact h.all_eq
def Za4(c:Known):List Nat:=[c.at_,c.plain,c.coded]
def Zko{a b:Known}(h:Z0 (Za4 b) (Za4 a)=false):a.at_<=b.at_:=by
 have h:(if b.at_=a.at_ then Z0 [b.plain,b.coded] [a.plain,a.coded] else decide (b.at_<a.at_))=false:=h;by_cases e:b.at_=a.at_
 ·omega
 ·rw[if_neg e] at h
  have:=of_decide_eq_false h;omega
section
variable{m:Machine}{p:List Nat}
def Jb(m:Machine)(p:List Nat)(c:Known)(x:Nat):Nat:=at_ (seen (pad m.n m.last) (thr m (m.steps c.at_ p))) x
def Zg0(g:Mach m)(h:St m p)(e:m.mirror=true){k ks:List Known}(hp:ks.Perm k)(hf:Rotor.fits m.n k=true){B:List (List Nat)}
  (hB:B.Perm (YJ m.n (Jb m p) ks [List.replicate m.n NONE] (toldOf m.n ks))) (hs:B.Pairwise λa b=>Z0 b a=false):B=m.boards p k:=by
 have hn:=g.n16;have hk:∀c,c∈ks->c.plain<m.n/\c.coded<m.n:=λc hc=>(Y3 hf (hp.mem_iff.mp hc)).2.2;rw[Zhj hn hk,Um hp] at hB;have ht:ZO m.n (toldOf m.n k):=λx hx=>(Z7.mp hx).1;have e1:((boardsOn m.n (toldOf m.n k) (List.replicate m.n NONE)).filter λd=>ks.all λc=>dem (Jb m p) c d) =
   (boardsOn m.n (toldOf m.n k) (List.replicate m.n NONE)).filter λ(d:List Nat)=>(k.map λ(c:Known)=>(m.steps c.at_ p,c)).all λ(q:Stand×Known)=>m.core q.1 (at_ d q.2.plain)==at_ d q.2.coded:=by
  apply filter_congr;intro d hd;obtain⟨b1,_,b3⟩:=Yt hn _ ht (Up m.n) hd;rw[all_map,hp.all_eq];have cg:∀{l:List Known} {u v:Known->Bool},(∀c,c∈l->u c=v c)->l.all u=l.all v:=λ{l u v} h=>by
   induction l with
   |nil=>rfl
   |cons c l ih=>rw[all_cons,all_cons,h c mem_cons_self,ih λc hc=>h c (mem_cons_of_mem _ hc)]
  refine cg λc hc=>?_;show dem (Jb m p) c d=(m.core (m.steps c.at_ p) (at_ d c.plain)==at_ d c.coded);have hpl:=(Y3 hf hc).2.2.1;have hne:at_ d c.plain≠NONE:=b3 _ (Z7.mpr ⟨hpl,c,hc,.inl rfl⟩);have hlt:at_ d c.plain<m.n:=(b1.val _ hpl).resolve_right hne;unfold dem Jb;rw[ZgI g (h.steps g.toGood _) e hlt]
 rw[e1] at hB;unfold Machine.boards;exact Zet (n:=m.n) (λd hd=>(Yt hn _ ht (Up m.n) (mem_filter.mp hd).1).1.len) hB hs
def Zaa{n i:Nat}{d:List Nat}(hn:1<=n):(J2 n i d).length<=n:=by
 unfold J2;split
 ·exact hn
 ·rw[List.length_flatMap]
  have:∀(l:List Nat),(l.map λj=>(if at_ d j=NONE then [exchanged d i j] else []).length).sum<=l.length:=by
   intro l;induction l with
   |nil=>exact Nat.le_refl _
   |cons x l ih=>
    rw[map_cons,sum_cons,length_cons];have:(if at_ d x=NONE then [exchanged d i x] else []).length<=1:=by split<;>simp
    omega
  have:=this (List.range n);rw[length_range] at this;exact this
def Uu{n:Nat}(hn:1<=n)(f:Known->Nat->Nat)(ks:List Known)(B:List (List Nat))(i:Nat):(YB n f ks B i).length<=n*B.length/\(B.flatMap (J2 n i)).length<=n*B.length:=by
 have h:(B.flatMap (J2 n i)).length<=n*B.length:=by
  induction B with
  |nil=>simp
  |cons d B ih=>
   rw[flatMap_cons,length_append,length_cons,Nat.mul_add,Nat.mul_one];have:=Zaa (n:=n) (i:=i) (d:=d) hn;omega
 exact⟨Nat.le_trans (length_filter_le _ _) h,h⟩
theorem Dh{n:Nat}(hn:1<=n)(f:Known->Nat->Nat)(ks:List Known):∀(ts:List Nat) (B:List (List Nat)),(YJ n f ks B ts).length<=n^ts.length*B.length
 | [],B=>by
  show B.length<=n^0*B.length;rw[Nat.pow_zero,Nat.one_mul];exact Nat.le_refl _
 |i::r,B=>by
  have h1:=Dh hn f ks r (YB n f ks B i);have h2:=(Uu hn f ks B i).1;show(YJ n f ks (YB n f ks B i) r).length<=n^(r.length+1)*B.length;rw[Nat.pow_succ,Nat.mul_assoc];exact Nat.le_trans h1 (Nat.mul_le_mul_left _ h2)
end
end RM
namespace WW
open PySem PySem.Spec PyProof.Rows L2 LX
def top(i:Nat):Stmt:=PySem.Challenge.pw_wheelwriters_s01_answers.main.body.getD i (.Pass ⟨0,0,0,0⟩)
def fsc{N P:List Str}{sc:Scope}(a:sc.kind = .function:=by rfl)(b:sc.isCoroutine=false:=by rfl)(c:sc.isGenerator=false:=by rfl)(d:N.Nodup:=by decide +kernel)(e:N.take P.length=P:=by rfl)
  (f:∀x∈P,sc.names.lookup x=some .local\/sc.names.lookup x=some .cell:=by decide +kernel) (g:∀y∈sc.names,y.2 ≠ .free:=by decide +kernel):Zl N P sc:=⟨a,b,c,d,e,f,g⟩
structure Def(P:Program)(w:World)(K:Frag)(mg:Str->Option Value)(base:Heap)(CX:CXT)(k:Nat)(x:Str)(ps:List Str)(sp:Sp):Prop where
 ex:∃(f:Addr) (fd:FuncData),YX P w K mg base CX k f fd ps sp/\mg x=some (.ref f)/\keepIn K (.ref f)=true/\JZ K fd ps []
structure At(K:Frag)(mg:Str->Option Value)(x:Str)(st:Stmt)(ps:List Str):Prop where
 ex:∃(f:Addr) (fd:FuncData),Fun K x x st f fd/\mg x=some (.ref f)/\JZ K fd ps []
section
variable{P:Program}{w:World}{K:Frag}{mg:Str->Option Value}{base:Heap}{x:Str}{st:Stmt}{N ps:List Str}{k:Nat}{sp:Sp}
theorem At.ok(F:At K mg x st ps)(S:Zl N ps (Ze st))(len:∀vs H Q E,sp vs H Q E->vs.length=ps.length)
  (hbody:∀(f:Addr) (cdv:Value) (A:Around) (outer:List Env) (s:Shared) (H:Hp) (vs:List V) (Q:VK) (E:XK),Room k (A.deeper (envOfC x (Ze st) s.heap.objs.size f cdv))->sp vs H Q E ->
   ∃t,PSs (cxOf CX0 P w K mg base N x (Ze st) f cdv A outer s H E).nox (ZV st) t/\t {nx:=λ_ H'=>Q .non H',rt:=Q} (start N vs) H):Def P w K mg base CX0 (k+1) x ps sp:=by
 obtain⟨f,fd,h1,h2,h3⟩:=F.ex;exact⟨f,fd,h1.ok S len (hbody f),h2,h1.kp,h3⟩
theorem At.okX(F:At K mg x st ps)(S:Zl N ps (Ze st))(len:∀vs H Q E,sp vs H Q E->vs.length=ps.length)
  (hbody:∀(f:Addr) (cdv:Value) (A:Around) (outer:List Env) (s:Shared) (H:Hp) (vs:List V) (Q:VK) (E:XK),Room k (A.deeper (envOfC x (Ze st) s.heap.objs.size f cdv))->sp vs H Q E ->
   ∃t,PSs (cxOf (CXF P w) P w K mg base N x (Ze st) f cdv A outer s H E) (ZV st) t/\t {nx:=λ_ H'=>Q .non H',rt:=Q} (start N vs) H):Def P w K mg base (CXF P w) (k+1) x ps sp:=by
 obtain⟨f,fd,h1,h2,h3⟩:=F.ex;exact⟨f,fd,LX.okX h1 S len (hbody f),h2,h1.kp,h3⟩
end
section
variable{X:Cx}{CX:CXT}{k:Nat}{x:Str}{ps:List Str}{sp:Sp}{E:XK}{e:Expr}{es:List Expr}{t:TA}{p pos:Pos}
def pc(D:Def X.prog X.w X.K X.mg X.base CX k x ps sp)(hr:Room k X.A)(hg:Gl X x)(hx:Yi CX X E)(ha:PA X (e::es) t)(hdb:(x==("__debug__" : Str))=false:=by decide)
  (he:starEach (e::es) X.env=(false,eval e X.env)::starEach es X.env:=by rfl) (hpl:(backTo pos (starEach es X.env)).any (·.1)=false:=by rfl):PE X (.Call (.Name x p) (e::es) [] pos) (ZaD sp [] E t):=by
 obtain⟨f,fd,h1,h2,h3,h4⟩:=D.ex;exact Zjc h1 hr hg h2 h3 h4 .nil hx ha hdb he hpl
end
def nv(l:List Nat):List V:=l.map λ(x:Nat)=>V.int (x:Int)
def Zf(l:List Nat):(nv l).length=l.length:=length_map ..
def Zcw{l:List Nat}{i x:Nat}(h:l[i]? = some x):(nv l)[i]? = some (V.int (x:Int)):=by
 unfold nv;rw[getElem?_map,h];rfl
def JA{l:List Nat}{i:Nat}{v:V}(h:(nv l)[i]? = some v):∃x,l[i]? = some x/\v=V.int (x:Int):=by
 unfold nv at h;rw[getElem?_map] at h;cases e:l[i]? with
 |none=>rw[e] at h;cases h
 |some x=>rw[e] at h;exact⟨x,rfl,(Option.some.inj h).symm⟩
def ZX(a b:List Nat):nv (a++b)=nv a++nv b:=map_append ..
def JK(a:List Nat)(x:Nat):nv (a++[x])=nv a++[V.int (x:Int)]:=ZX a [x]
def ZcV(a:List Nat)(n:Nat):nv (a.take n)=(nv a).take n:=map_take ..
def ZcZ(a:List Nat)(n:Nat):nv (a.drop n)=(nv a).drop n:=map_drop ..
def YK{l:List Nat}{i:Nat}(h:i<l.length):atI (nv l) (i:Int)=some (V.int (Rotor.at_ l i:Int)):=VO (Zcw (RM.Za1 h))
def Zjg(l:List Nat):nv l=(l.map λ(x:Nat)=>(x:Int)).map V.int:=by
 unfold nv;rw[map_map];rfl
def ZN{α β:Type}{f:α->β}{l:List α}{i:Nat}{x:α}(h:l[i]? = some x):(l.take (i+1)).map f=(l.take i).map f++[f x]:=by
 rw[take_add_one,h,map_append];rfl
def Jr{α:Type}{f:α->Bool}{l:List α}{i:Nat}{x:α}(h:l[i]? = some x)(hx:f x=true):(l.take (i+1)).filter f=(l.take i).filter f++[x]:=by
 rw[take_add_one,h,List.filter_append];show _++[x].filter f=_;rw[List.filter_cons_of_pos hx];rfl
def Jq{α:Type}{f:α->Bool}{l:List α}{i:Nat}{x:α}(h:l[i]? = some x)(hx:f x=false):(l.take (i+1)).filter f=(l.take i).filter f:=by
 rw[take_add_one,h,List.filter_append];show _++[x].filter f=_;rw[List.filter_cons_of_neg (by rw[hx];decide),List.filter_nil,append_nil]
def RV(H:Hp)(Q:VK)(v:V):Prop:=∀H':Hp,Same H H'->Q v H'
def RL(H:Hp)(Q:VK)(xs:List V):Prop:=∀(H':Hp) (p:Addr),Same H H'->H p=none->H' p=some (.lst xs)->Q (.ref p) H'
def Zg{H:Hp}{a:Addr}{o:HO}(h:H a=none):Same H (upd H a o):=λb u e=>by
 rw[Zj (Zi e h)];exact e
theorem Same.upd{H H':Hp}{a:Addr}{o:HO}(s:Same H H')(h:H a=none):Same H (L2.upd H' a o):=λb u e=>by
 rw[Zj (Zi e h)];exact s b u e
def ZF{n:Nat}(h:n<=1000000):n<sizeLine:=Nat.lt_of_le_of_lt h (by decide)
def Zs{n:Nat}(h:n<=1000000):n<=sizeLine:=Nat.le_of_lt (ZF h)
def lcY{σ:L2.St}{H:Hp}{A B:Hp->Prop}(h:A H):Znp σ H λb H3=>if b=true then A H3 else B H3:=by
 show if true=true then A H else B H
 rw[if_pos rfl];exact h
open Rotor (at_)
section
variable{P:Program}{w:World}{K:Frag}{mg:Str->Option Value}{base:Heap}
inductive Yn:List V->Hp->VK->XK->Prop|mk {vs H Q E} (a b:Addr) (l m:List Nat):vs=[.ref a,.ref b]->H a=some (.lst (nv l))->H b=some (.lst (nv m))->(∀x∈l,x<m.length)->l.length<=1000000->RL H Q (nv (l.map (at_ m)))->Yn vs H Q E
def DC:Zl ["a", "b", "letter"] ["a", "b"] (Ze (top 4)):=fsc
def Ze6(F:At K mg "product" (top 4) ["a", "b"]):Def P w K mg base CX0 1 "product" ["a", "b"] Yn:=by
 refine F.ok DC (λvs H Q E h=>?_) (λf _ A _ s H vs Q E _ h=>?_)
 ·obtain⟨a,b,l,m,rfl,_⟩:=h
  rfl
 ·obtain⟨a,b,l,m,rfl,ha,hb,hlt,hlen,k⟩:=h
  refine⟨_,Zh (Zn (YA rfl DC.nd (ZR (pv 0)) (own:=[("letter",2)]) (ZP (N:=["a", "b", "letter"]) (sc:=Ze (top 4)) (by decide +kernel)) (λ_ _ _ _ _=>Zo (i:=2) DC.nd rfl) (λ_ _ _ _ _=>Jf)
   (λ_ _ _ _ _=>Ja (r:=JX K) ZM (pv 1) (pv 2) (λ_ _=>rfl)))),?_⟩;refine⟨_,rfl,a,rfl,⟨_,SqL.of ha⟩,λD hD=>Ji (K:=K) (a:=a) (xs:=nv l) (λi H'=>Same H H'/\H' D=some (.lst (nv ((l.take i).map (at_ m))))) ⟨Zg hD,Zb⟩ (λi H' _ h=>SqL.of (h.1 _ _ ha)) ?_ ?_⟩
  ·rintro i x H' hi ⟨sm,hD'⟩
   obtain⟨y,hy,rfl⟩:=JA hi;have hym:y<m.length:=hlt y (mem_of_getElem? hy);refine⟨rfl,lcY ⟨_,rfl,_,rfl,b,_,_,_,rfl,rfl,SqL.of (sm _ _ hb),YK hym,_,hD',?_,?_⟩⟩
   ·rw[Zf,length_map]
    exact ZF (Nat.le_trans (List.length_take_le' _ _) hlen)
   ·refine⟨Same.upd sm hD,?_⟩
    rw[Zb,ZN hy,JK]
  ·rintro H' ⟨sm,hD'⟩
   rw[Zf,take_length] at hD';exact k H' D sm hD hD'
end
section
variable{X:Cx}
def Zmk(ta:TA):TE:=λσ H Q=>ta σ H λvs H1=>∃j:Int,vs=[.int j]/\-(2^62)<=j/\j<2^62/\∀p,H1 p=none->Q (.ref p) (upd H1 p (.rng 0 j))
def ZmE(ta:TA):TE:=λσ H Q=>ta σ H λvs H1=>∃i j:Int,vs=[.int i,.int j]/\∀p,H1 p=none->Q (.ref p) (upd H1 p (.rng i j))
def ZcC{a:Expr}{ta:TA}{p pos:Pos}(hg:Gl X "range")(hm:X.mg "range" = none)(ha:PA X [a] ta)(hs:starEach [a] X.env=[(false,eval a X.env)]:=by rfl):PE X (.Call (.Name "range" p) [a] [] pos) (Zmk ta):=by
 intro pins s σ H Q I h;refine Call_ (Y9 I hg hm boot_range (PyProof.Rows.callWith_type1 (thn (ha pos pins s σ H _ I h) λus s1 ⟨vs,H1,I1,r1,q1⟩=>?_) hs rfl));obtain⟨j,e,q1,q2,q⟩:=q1;subst e;cases r1 with
 |cons r rr=>
  cases rr;obtain⟨t,rfl⟩:=r;refine call_range_1 ⟨.ref s1.heap.objs.size,_,I1.laid (a:=s1.heap.objs.size) (o:=.rng 0 j) (λb u e=>Heap.get?_push_of_some _ e) (Nat.le_refl _) ⟨_,_,_,Heap.get?_push_size _ rfl⟩,rfl,q _ (I1.hok.fresh (Nat.le_refl _))⟩
def Zf0{a b:Expr}{ta:TA}{p pos:Pos}(hg:Gl X "range")(hm:X.mg "range" = none)(ha:PA X [a,b] ta)(hs:starEach [a,b] X.env=[(false,eval a X.env),(false,eval b X.env)]:=by rfl)(hs2:starEach [b] X.env=[(false,eval b X.env)]:=by rfl) :
  PE X (.Call (.Name "range" p) [a,b] [] pos) (ZmE ta):=by
 intro pins s σ H Q I h;refine Call_ (Y9 I hg hm boot_range (PyProof.Rows.callWith_type1 (thn (ha pos pins s σ H _ I h) λus s1 ⟨vs,H1,I1,r1,q1⟩=>?_) (by rw[hs,hs2]) (by rw[hs2];rfl)));obtain⟨i,j,e,q⟩:=q1;subst e;cases r1 with
 |cons r rr=>
  cases rr with
  |cons r' rr=>
   cases rr;obtain⟨t,rfl⟩:=r;obtain⟨t',rfl⟩:=r';refine call_range_2 ⟨.ref s1.heap.objs.size,_,I1.laid (a:=s1.heap.objs.size) (o:=.rng i j) (λb u e=>Heap.get?_push_of_some _ e) (Nat.le_refl _) ⟨_,_,_,Heap.get?_push_size _ rfl⟩,rfl,q _ (I1.hok.fresh (Nat.le_refl _))⟩
def Zah(lo hi:Int):List V:=(List.range (hi-lo).toNat).map λ(k:Nat)=>V.int (lo+(k:Int))
theorem ZfC:∀{xs:List V} {us:List Value},xs.length=us.length->(∀(i:Nat) (x:V) (u:Value),xs[i]? = some x->us[i]? = some u->ZL x u)->Zy xs us
 | [],[],_,_=>.nil
 |x::xs,u::us,h,k=>.cons (k 0 x u rfl rfl) (ZfC (by simpa using h) λi y v h1 h2=>k (i+1) y v h1 h2)
def Zfa{acc:Array Value}{n:Nat}{f:Nat->Int}(h:ItemsOf (λi v=>∃t,v = .int (f i) t) acc n):Zy ((List.range n).map λk=>V.int (f k)) acc.toList:=by
 refine ZfC ?_ λi x u h1 h2=>?_
 ·rw[length_map,length_range,Array.length_toList,h.1]
 ·rw[getElem?_map] at h1
  by_cases hi:i<n
  ·rw[getElem?_range hi] at h1
   have e:V.int (f i)=x:=Option.some.inj h1;subst e;rw[Array.getElem?_toList] at h2;exact h.2 i u h2
  ·rw[getElem?_eq_none (by rw[length_range];omega)] at h1
   cases h1
def JS(hc:X.calm=true):Y8 X (.type "list") (λxs H Q=>∃(p:Addr) (lo hi:Int),xs=[.ref p]/\H p=some (.rng lo hi)/\-(2^62)<=lo/\lo<2^62/\-(2^62)<=hi/\hi<2^62/\(hi-lo).toNat<=1000000/\∀l,H l=none->Q (.ref l) (upd H l (.lst (Zah lo hi)))):=by
 intro pins s σ H xs us Q I r h;obtain⟨p,lo,hi,rfl,hp,h1,h2,h3,h4,h5,q⟩:=h;obtain⟨u,rfl,rx⟩:=Zed r;cases rx;obtain⟨t,u,v,e⟩:=(show ∃t u v,s.heap.get? p=some {cls:=.type "range",data:=.fields #[.int lo t,.int hi u,.int 1 v]} from I.hok p _ hp);have hn:Builtin.Range.rangeSize lo hi 1=((hi-lo).toNat:Nat):=by rw[rangeSize_one];split<;>omega
 refine call_list_range (I.ok.hd hc) e (small_one h1 h2 h3 h4) hn (Nat.le_trans h5 (by decide)) λh' tk acc c k1 k2 k3=>?_;refine⟨.ref s.heap.objs.size,_,I.laid (t':=tk) k1 (Nat.le_refl _) (show Jc X.prog X.w _ h' _ (.lst (Zah lo hi)) from⟨?_,acc.toList,c,?_,k2⟩),rfl,q _ (I.hok.fresh (Nat.le_refl _))⟩
 ·unfold Zah
  rw[length_map,length_range];exact Zs h5
 ·have:=Zfa (f:=λi=>lo+i*1) k3
  unfold Zah;simp only[Int.mul_one] at this;exact this
end
def Dv(a b:Nat):Zah (a:Int) (b:Int)=nv (List.range' a (b-a)):=by
 unfold Zah nv;rw[show((b:Int)-(a:Int)).toNat=b-a by omega];apply ext_getElem?;intro i;rw[getElem?_map,getElem?_map];by_cases hi:i<b-a
 ·rw[getElem?_range hi,List.getElem?_range' hi]
  show some (V.int _)=some (V.int _);congr 2;omega
 ·rw[getElem?_eq_none (by rw[length_range];omega),getElem?_eq_none (by rw[length_range'];omega)]
  rfl
def Zgh{K:Frag}{a b:Addr}{xs ys:List V}{g:TG}{tb:TS}{D:Uo}{σ:L2.St}{H:Hp}(hxy:ys.length=xs.length)(Pv:Nat->L2.St->Hp->Prop)(h0:Pv 0 σ H)(hl:∀i σ H,i<=xs.length->Pv i σ H->SqL K H a xs/\SqL K H b ys)
  (hs:∀i x y σ H T,xs[i]? = some x->ys[i]? = some y->H T=none->Pv i σ H->g (.ref T) σ (upd H T (.tup [x,y])) λσ2 H2=>tb {D with nx:=Pv (i+1),ct:=Pv (i+1),bk:=D.nx} σ2 H2) (hd:∀σ H,Pv xs.length σ H->D.nx σ H) :
  ∃W:Nat->Nat->L2.St->Hp->Prop,(∃m,W 0 m σ H)/\∀i m σ H,W i m σ H ->
   ((Itz K a b).stop i H/\D.nx σ H)\/((Itz K a b).go i H/\∃N:L2.St->Hp->Prop,(∀σ' H',N σ' H'->∃m',m'<m/\W (i+1) m' σ' H')/\∀x H',(Itz K a b).yld i H x H'->g x σ H' λσ2 H2=>tb {D with nx:=N,ct:=N,bk:=D.nx} σ2 H2):=by
 refine⟨λi m σ H=>m=xs.length-i/\i<=xs.length/\Pv i σ H,⟨xs.length,by simp,Nat.zero_le _,h0⟩,?_⟩;rintro i m σ H ⟨rfl,hi,p⟩;obtain⟨q1,q2⟩:=hl i σ H hi p;by_cases hlt:i<xs.length
 ·refine .inr ⟨⟨xs,ys,xs[i],ys[i]'(by omega),q1,q2,by simp[hlt],by simp[hxy,hlt]⟩,Pv (i+1),λσ' H' p'=>⟨xs.length-(i+1),by omega,rfl,hlt,p'⟩,λx H' y=>?_⟩
  obtain⟨T,x1,y1,rfl,hT,rfl,e1,e2⟩:=y;exact hs i x1 y1 σ H T (e1 xs q1) (e2 ys q2) hT p
 ·have e:i=xs.length:=by omega
  subst e;exact .inl ⟨⟨xs,ys,q1,q2,.inl (Nat.le_refl _)⟩,hd σ H p⟩
def Zdu{K:Frag}{a:Addr}{xs:List V}{g:TG}{tb:TS}{D:Uo}{σ:L2.St}{H:Hp}(Pv:Nat->L2.St->Hp->Prop)(h0:Pv 0 σ H)(hl:∀i σ H,i<=xs.length->Pv i σ H->SqL K H a xs)
  (hs:∀i x σ H T,xs[i]? = some x->H T=none->Pv i σ H->g (.ref T) σ (upd H T (.tup [.int (i:Nat),x])) λσ2 H2=>tb {D with nx:=Pv (i+1),ct:=Pv (i+1),bk:=D.nx} σ2 H2) (hd:∀σ H,Pv xs.length σ H->D.nx σ H) :
  ∃W:Nat->Nat->L2.St->Hp->Prop,(∃m,W 0 m σ H)/\∀i m σ H,W i m σ H ->
   ((Ite K a).stop i H/\D.nx σ H)\/((Ite K a).go i H/\∃N:L2.St->Hp->Prop,(∀σ' H',N σ' H'->∃m',m'<m/\W (i+1) m' σ' H')/\∀x H',(Ite K a).yld i H x H'->g x σ H' λσ2 H2=>tb {D with nx:=N,ct:=N,bk:=D.nx} σ2 H2):=by
 refine⟨λi m σ H=>m=xs.length-i/\i<=xs.length/\Pv i σ H,⟨xs.length,by simp,Nat.zero_le _,h0⟩,?_⟩;rintro i m σ H ⟨rfl,hi,p⟩;have q1:=hl i σ H hi p;by_cases hlt:i<xs.length
 ·refine .inr ⟨⟨xs,xs[i],q1,by simp[hlt]⟩,Pv (i+1),λσ' H' p'=>⟨xs.length-(i+1),by omega,rfl,hlt,p'⟩,λx H' y=>?_⟩
  obtain⟨T,x1,rfl,hT,rfl,e1⟩:=y;exact hs i x1 σ H T (e1 xs q1) hT p
 ·have e:i=xs.length:=by omega
  subst e;exact .inl ⟨⟨xs,q1,Nat.le_refl _⟩,hd σ H p⟩
def Zj0{K:Frag}{a:Addr}{xs:List V}{g:TG}{tb:TS}{D:Uo}{σ:L2.St}{H:Hp}(Pv:Nat->L2.St->Hp->Prop)(h0:Pv 0 σ H)(hl:∀i σ H,i<=xs.length->Pv i σ H->SqL K H a xs)
  (hs:∀i x σ H,xs[xs.length-1-i]? = some x->i<xs.length->Pv i σ H->g x σ H λσ2 H2=>tb {D with nx:=Pv (i+1),ct:=Pv (i+1),bk:=D.nx} σ2 H2) (hd:∀σ H,Pv xs.length σ H->D.nx σ H) :
  ∃W:Nat->Nat->L2.St->Hp->Prop,(∃m,W 0 m σ H)/\∀i m σ H,W i m σ H ->
   ((Itv K a xs.length).stop i H/\D.nx σ H)\/((Itv K a xs.length).go i H/\∃N:L2.St->Hp->Prop,(∀σ' H',N σ' H'->∃m',m'<m/\W (i+1) m' σ' H')/\∀x H',(Itv K a xs.length).yld i H x H'->g x σ H' λσ2 H2=>tb {D with nx:=N,ct:=N,bk:=D.nx} σ2 H2):=by
 refine⟨λi m σ H=>m=xs.length-i/\i<=xs.length/\Pv i σ H,⟨xs.length,by simp,Nat.zero_le _,h0⟩,?_⟩;rintro i m σ H ⟨rfl,hi,p⟩;have q1:=hl i σ H hi p;by_cases hlt:i<xs.length
 ·refine .inr ⟨⟨hlt,xs,xs[xs.length-1-i]'(by omega),q1,getElem?_eq_getElem (by omega)⟩,Pv (i+1),λσ' H' p'=>⟨xs.length-(i+1),by omega,rfl,hlt,p'⟩,λx H' y=>?_⟩
  obtain⟨e,y⟩:=y;subst e;exact hs i x σ _ (y xs q1) hlt p
 ·have e:i=xs.length:=by omega
  subst e;exact .inl ⟨Nat.le_refl _,hd σ H p⟩
def ZeV{K:Frag}{a b:Addr}{xs ys:List V}{g:TG}{tt:TT}{te:TE}{vs:List Nat}{σ:L2.St}{H1:Hp}{D:Addr}{Qd:Hp->Prop}(hxy:ys.length=xs.length)(Pv:Nat->Hp->Prop)(h0:Pv 0 (upd H1 D (.lst [])))(hl:∀i H,i<=xs.length->Pv i H->SqL K H a xs/\SqL K H b ys)
  (hs:∀i x y H T,xs[i]? = some x->ys[i]? = some y->H T=none->Pv i H->g (.ref T) (Jx σ vs) (upd H T (.tup [x,y])) λσ2 H2=>Jx σ2 vs=Jx σ vs/\tt σ2 H2 λb H3=>
   if b=true then te σ2 H3 λy H4=>∃acc,H4 D=some (.lst acc)/\acc.length<sizeLine/\Pv (i+1) (upd H4 D (.lst (acc++[y]))) else Pv (i+1) H3) (hd:∀H,Pv xs.length H->Qd H) :
  ∃W:Nat->Nat->Hp->Prop,(∃m,W 0 m (upd H1 D (.lst [])))/\∀i m H,W i m H ->
   ((Itz K a b).stop i H/\Qd H)\/((Itz K a b).go i H/\∃Nx:Hp->Prop,(∀H',Nx H'->∃m',m'<m/\W (i+1) m' H')/\∀x H',(Itz K a b).yld i H x H'->g x (Jx σ vs) H' λσ2 H2=>Jx σ2 vs=Jx σ vs/\tt σ2 H2 λb H3=>
    if b=true then te σ2 H3 λy H4=>∃acc,H4 D=some (.lst acc)/\acc.length<sizeLine/\Nx (upd H4 D (.lst (acc++[y]))) else Nx H3):=by
 refine⟨λi m H=>m=xs.length-i/\i<=xs.length/\Pv i H,⟨xs.length,by simp,Nat.zero_le _,h0⟩,?_⟩;rintro i m H ⟨rfl,hi,p⟩;obtain⟨q1,q2⟩:=hl i H hi p;by_cases hlt:i<xs.length
 ·refine .inr ⟨⟨xs,ys,xs[i],ys[i]'(by omega),q1,q2,by simp[hlt],by simp[hxy,hlt]⟩,Pv (i+1),λH' p'=>⟨xs.length-(i+1),by omega,rfl,hlt,p'⟩,λx H' y=>?_⟩
  obtain⟨T,x1,y1,rfl,hT,rfl,e1,e2⟩:=y;exact hs i x1 y1 H T (e1 xs q1) (e2 ys q2) hT p
 ·have e:i=xs.length:=by omega
  subst e;exact .inl ⟨⟨xs,ys,q1,q2,.inl (Nat.le_refl _)⟩,hd H p⟩
def Zgw{lo c:Int}{n:Nat}{g:TG}{tt:TT}{te:TE}{vs:List Nat}{σ:L2.St}{H1:Hp}{D:Addr}{Qd:Hp->Prop}(Pv:Nat->Hp->Prop)(h0:Pv 0 (upd H1 D (.lst [])))
  (hs:∀i H,i<n->Pv i H->g (.int (lo+(i:Nat)*c)) (Jx σ vs) H λσ2 H2=>Jx σ2 vs=Jx σ vs/\tt σ2 H2 λb H3=>
   if b=true then te σ2 H3 λy H4=>∃acc,H4 D=some (.lst acc)/\acc.length<sizeLine/\Pv (i+1) (upd H4 D (.lst (acc++[y]))) else Pv (i+1) H3) (hd:∀H,Pv n H->Qd H) :
  ∃W:Nat->Nat->Hp->Prop,(∃m,W 0 m (upd H1 D (.lst [])))/\∀i m H,W i m H ->
   ((Itc lo c n).stop i H/\Qd H)\/((Itc lo c n).go i H/\∃Nx:Hp->Prop,(∀H',Nx H'->∃m',m'<m/\W (i+1) m' H')/\∀x H',(Itc lo c n).yld i H x H'->g x (Jx σ vs) H' λσ2 H2=>Jx σ2 vs=Jx σ vs/\tt σ2 H2 λb H3=>
    if b=true then te σ2 H3 λy H4=>∃acc,H4 D=some (.lst acc)/\acc.length<sizeLine/\Nx (upd H4 D (.lst (acc++[y]))) else Nx H3):=by
 refine⟨λi m H=>m=n-i/\i<=n/\Pv i H,⟨n,by simp,Nat.zero_le _,h0⟩,?_⟩;rintro i m H ⟨rfl,hi,p⟩;by_cases hlt:i<n
 ·refine .inr ⟨hlt,Pv (i+1),λH' p'=>⟨n-(i+1),by omega,rfl,hlt,p'⟩,λx H' y=>?_⟩
  obtain⟨e,y⟩:=y;subst e y;exact hs i _ hlt p
 ·have e:i=n:=by omega
  subst e;exact .inl ⟨Nat.le_refl _,hd H p⟩
theorem Zij{K:Frag}{H:Hp}:∀l:List Nat,Zbh K H (nv l) (l.map λ(x:Nat)=>PyData.int (x:Int))
 | []=>.nil
 |x::l=>.cons (.int _) (Zij l)
theorem Zec:∀l:List Nat,PyData.canLayAll0 (l.map λ(x:Nat)=>PyData.int (x:Int))=true
 | []=>rfl
 |x::l=>by
  show(PyData.canLay0 (.int (x:Int))&&PyData.canLayAll0 (l.map λ(x:Nat)=>PyData.int (x:Int)))=true;rw[Zec l];rfl
theorem Zbg:∀l:List Nat,PyData.depthAll (l.map λ(x:Nat)=>PyData.int (x:Int))=0
 | []=>rfl
 |x::l=>by
  show max (PyData.depth (.int (x:Int))) (PyData.depthAll (l.map λ(x:Nat)=>PyData.int (x:Int)))=0;rw[Zbg l];rfl
theorem Zd7:∀l m:List Nat,PyData.eqvAll (l.map λ(x:Nat)=>PyData.int (x:Int)) (m.map λ(x:Nat)=>PyData.int (x:Int))=decide (l=m)
 | [],[]=>rfl
 | [],_::_=>rfl
 |_::_,[]=>rfl
 |x::l,y::m=>by
  show(((x:Int)==(y:Int))&&PyData.eqvAll (l.map λ(x:Nat)=>PyData.int (x:Int)) (m.map λ(x:Nat)=>PyData.int (x:Int)))=_;rw[Zd7 l m,Bool.eq_iff_iff,Bool.and_eq_true,beq_iff_eq,decide_eq_true_eq,decide_eq_true_eq,List.cons.injEq,Int.ofNat_inj]
def Zoj(K:Frag):R2:=λx y H Q=>∃(a b:Addr) (l m:List Nat),x = .ref a/\y = .ref b/\H a=some (.lst (nv l))/\H b=some (.lst (nv m))/\Q (.bl (decide (l=m))) H
def Zhs{X:Cx}(hu:X.A.units+64<cLine):OpR X (compareOp .Eq) (Zoj X.K):=by
 intro pins s σ H x y v u Q I rx ry h;obtain⟨a,b,l,m,rfl,rfl,ha,hb,q⟩:=h;have sh:∀l:List Nat,SeqAt.shaped (.list (l.map λ(x:Nat)=>PyData.int (x:Int)))=true:=λl=>by
  unfold SeqAt.shaped;rw[show PyData.canLay0 (.list (l.map λ(x:Nat)=>PyData.int (x:Int)))=PyData.canLayAll0 (l.map λ(x:Nat)=>PyData.int (x:Int)) from rfl,Zec,
   show PyData.depth (.list (l.map λ(x:Nat)=>PyData.int (x:Int)))=PyData.depthAll (l.map λ(x:Nat)=>PyData.int (x:Int))+1 from rfl,Zbg]
  rfl
 refine Zl1 hu pins s σ H _ _ v u Q I rx ry ⟨_,_,.lst (SqL.of ha) (Zij l),.lst (SqL.of hb) (Zij m),sh l,sh m,?_⟩;rw[show PyData.eqv (.list (l.map λ(x:Nat)=>PyData.int (x:Int))) (.list (m.map λ(x:Nat)=>PyData.int (x:Int)))=PyData.eqvAll (l.map λ(x:Nat)=>PyData.int (x:Int)) (m.map λ(x:Nat)=>PyData.int (x:Int)) from rfl,Zd7];exact q
def pk{X:Cx}{x:Str}{i:Int}{pos:Pos}(h:∃t,X.mg x=some (.int i t))(hg:Gl X x)(hd:(x==("__debug__" : Str))=false:=by decide):PE X (.Name x pos) (tC (.int i)):=by
 obtain⟨t,e⟩:=h;exact Zgi hg e ⟨t,rfl⟩ hd
def ZiN(l:List Nat)(n:Nat)(hn:n<=l.length):Ds (nv l) none (some (n:Int))=nv (l.take n):=by
 unfold Ds;rw[HT.sIx_none,HT.sIx_nat,Zf,Nat.min_eq_left hn,List.drop_zero,Nat.sub_zero,ZcV]
def Zdm(l:List Nat)(n:Nat)(hn:n<=l.length):Ds (nv l) (some (n:Int)) none=nv (l.drop n):=by
 unfold Ds;rw[HT.sIx_none,HT.sIx_nat,Zf,Nat.min_eq_left hn,take_of_length_le (by rw[length_drop,Zf];exact Nat.le_refl _),ZcZ]
structure Gx(mg:Str->Option Value):Prop where
 len:mg "len" = none
 range:mg "range" = none
 sorted:mg "sorted" = none
 list:mg "list" = none
 enum:mg "enumerate" = none
 all:mg "all" = none
 any:mg "any" = none
 zip:mg "zip" = none
 rev:mg "reversed" = none
 tuple:mg "tuple" = none
 set:mg "set" = none
 max:mg "max" = none
 least:∃t,mg "LEAST_LETTERS" = some (.int 2 t)
 most:∃t,mg "MOST_LETTERS" = some (.int 16 t)
section
variable{P:Program}{w:World}{K:Frag}{mg:Str->Option Value}{base:Heap}
def JP(n:Nat)(l:List Nat):Bool:=Rotorwork.isLetters n&&Rotor.isPerm n l
def ZcH{n:Nat}{l:List Nat}(h:n<2\/16<n\/l.length≠16):JP n l=false:=by
 unfold JP Rotorwork.isLetters;rcases h with h|h|h
 ·rw[decide_eq_false (show ¬ 2<=n by omega)];rfl
 ·rw[decide_eq_false (show ¬ n<=Rotor.WIDE by show ¬ n<=16;omega),Bool.and_false];rfl
 ·unfold Rotor.isPerm
  rw[show(l.length==Rotor.WIDE)=false from beq_eq_false_iff_ne.mpr h,Bool.false_and,Bool.and_false]
def Za9{n:Nat}{l:List Nat}(h1:2<=n)(h2:n<=16):JP n l=true↔RM.IsP n l:=by
 unfold JP Rotorwork.isLetters;rw[decide_eq_true h1,decide_eq_true (show n<=Rotor.WIDE from h2)];exact RM.Zff
inductive Ul:List V->Hp->VK->XK->Prop|mk {vs H Q E} (a:Addr) (n:Nat) (l:List Nat):vs=[.int (n:Int),.ref a]->H a=some (.lst (nv l))->l.length<=1000000->RV H Q (.bl (JP n l))->Ul vs H Q E
def Zi6:Zl ["n", "a"] ["n", "a"] (Ze (top 3)):=fsc
def ZeM{l:List Nat}{ns:List Int}(h1:ns.Perm (l.map λ(x:Nat)=>(x:Int)))(h2:ns.Pairwise (· <= ·)):∃m:List Nat,ns.map V.int=nv m/\m.Perm l/\m.Pairwise (· <= ·):=by
 refine⟨ns.map Int.toNat,?_,?_,?_⟩
 ·unfold nv
  rw[map_map];apply map_congr_left;intro x hx;obtain⟨y,_,rfl⟩:=mem_map.mp (h1.mem_iff.mp hx);rfl
 ·have:=h1.map Int.toNat
  rw[map_map] at this;refine this.trans (List.Perm.of_eq ?_);conv=>rhs;rw[<- map_id l]
  apply map_congr_left;intro x _;rfl
 ·rw[pairwise_map]
  exact h2.imp λh=>by omega
def ZgX(G:Gx mg)(F:At K mg "is_permutation" (top 3) ["n", "a"]):Def P w K mg base CX0 1 "is_permutation" ["n", "a"] Ul:=by
 refine F.ok Zi6 (λvs H Q E h=>?_) (λf _ A _ s H vs Q E hr h=>?_)
 ·obtain⟨a,n,l,rfl,_⟩:=h
  rfl
 ·obtain⟨a,n,l,rfl,ha,hlen,k⟩:=h
  refine⟨_,Zc (ZW (PW.pt (Zeu (ZJ Za7 (pv 0) (pk G.least rfl) (ZG _)) (Zeu (ZJ Vy (pv 0) (pk G.most rfl) (ZG _))
    (ZcM (ZJ Zb0 (Zv Zp rfl G.len PySem.boot_len (Za (pv 1) Zd)) (pk G.most rfl) (ZG _)))))) (Zh (Zn U2)) ZB)
   (Zh (Zn (ZcR (JG (Zhs hr.units) (Zv ZgW rfl G.sorted boot_sorted (Za (JQ Yq (pv 1) UC (Jz (pv 0))) Zd)) (JJ (JS rfl) rfl G.list boot_list (Za (ZcC rfl G.range (Za (pv 0) Zd)) Zd)) (ZG _))
    (Zcs (JG (Zhs hr.units) (JQ Yq (pv 1) (Jz (pv 0)) UC) (JJ (JS rfl) rfl G.list boot_list (Za (Zf0 rfl G.range (Za (pv 0) (Za (pk G.most rfl) Zd))) Zd)) (ZG _)))))),?_⟩;have no:n<2\/16<n\/l.length≠16->Q (.bl false) H:=λh=>by
   have:=k H (Same.refl H);rw[ZcH h] at this;exact this
  refine⟨_,rfl,_,_,rfl,rfl,_,rfl,Jl (λh1=>JT (no (.inl (by have:=of_decide_eq_true h1;omega)))) λh1=>?_⟩;refine⟨_,rfl,_,_,rfl,rfl,_,rfl,Jl (λh2=>JT (no (.inr (.inl (by have:=of_decide_eq_true h2;omega))))) λh2=>?_⟩;have h1:¬ (n:Int)<2:=λh=>h1 (decide_eq_true h);have h2:¬ (16:Int)<n:=λh=>h2 (decide_eq_true h);refine⟨_,rfl,a,_,rfl,.inl (SqL.of ha),rfl,_,rfl,Jl (λh3=>no (.inr (.inr λe=>?_))) λh3=>?_⟩
  ·rw[Zf,e] at h3
   exact absurd h3 (by decide)
  ·have hl:l.length=16:=by
    refine Classical.byContradiction λhne=>h3 ?_;rw[Zf,Bool.not_eq_true',decide_eq_false_iff_not];intro e;injection e with e
    exact hne (by omega)
   have hn2:2<=n:=by omega
   have hn16:n<=16:=by omega
   refine⟨_,rfl,_,rfl,_,rfl,a,_,rfl,SqL.of ha,λp hp=>?_⟩;rw[ZiN l n (by omega)];refine⟨p,_,rfl,SqL.of (by rw[Zb,Zjg]),by rw[length_map,length_take];omega,λ_ q pm st hq=>?_⟩;obtain⟨m,em,pm2,st2⟩:=ZeM pm st;rw[em];have s1:Same H (upd (upd H p (.lst (nv (l.take n)))) q (.lst (nv m))):=(Zg hp).trans (Zg hq);have np:H q=none:=(Zg hp).free hq;refine⟨_,rfl,_,rfl,by omega,by omega,λr hr'=>?_⟩;have s2:=s1.trans (Zg (o:=.rng 0 (n:Int)) hr');refine⟨r,0,n,rfl,Zb,by omega,by omega,by omega,by omega,by omega,λt ht=>?_⟩;have s3:=s2.trans (Zg (o:=.lst (Zah 0 (n:Int))) ht);have hqr:q≠r:=Zi Zb hr';have hqt:q≠t:=Zi (by rw[Zj hqr];exact Zb) ht;refine⟨q,t,m,List.range n,rfl,rfl,by rw[Zj hqt,Zj hqr,Zb],?_,?_⟩
   ·rw[Zb,show(0:Int)=((0:Nat):Int) from rfl,Dv,Nat.sub_zero,range_eq_range']
   have key:(l.take n).Perm (List.range n)↔m=List.range n:=by
    constructor
    ·intro h
     exact List.Perm.eq_of_pairwise (le:=(· <= ·)) (λa b _ _ h1 h2=>Nat.le_antisymm h1 h2) st2 (List.pairwise_le_range) (pm2.trans h)
    ·intro h
     rw[<- h];exact pm2.symm
   refine⟨_,rfl,Jl (λh4=>?_) λh4=>?_⟩
   ·have h4:=of_decide_eq_true h4
    refine⟨_,rfl,_,rfl,_,rfl,a,_,rfl,SqL.of (s3 _ _ ha),λx hx=>?_⟩;rw[Zdm l n (by omega)];have s4:=s3.trans (Zg (o:=.lst (nv (l.drop n))) hx);refine⟨_,rfl,_,_,rfl,λy hy=>?_⟩;have s5:=s4.trans (Zg (o:=.rng (n:Int) 16) hy);refine⟨y,n,16,rfl,Zb,by omega,by omega,by omega,by omega,by omega,λz hz=>?_⟩;have s6:=s5.trans (Zg (o:=.lst (Zah (n:Int) 16)) hz);have hxy:x≠y:=Zi Zb hy;have hxz:x≠z:=Zi (by rw[Zj hxy];exact Zb) hz;refine⟨x,z,l.drop n,List.range' n (16-n),rfl,rfl,by rw[Zj hxz,Zj hxy,Zb],?_,?_⟩
    ·rw[Zb,show(16:Int)=((16:Nat):Int) from rfl,Dv]
    ·have e:JP n l=decide (l.drop n=List.range' n (16-n)):=by
      rw[Bool.eq_iff_iff,Za9 hn2 hn16,RM.ZcS hn16 hl,decide_eq_true_eq];exact⟨λh=>h.2,λh=>⟨key.mpr h4,h⟩⟩
     rw[<- e];exact k _ s6
   ·have e:JP n l=false:=by
     rw[<- Bool.not_eq_true,Za9 hn2 hn16,RM.ZcS hn16 hl];exact λh=>h4 (decide_eq_true (key.mp h.1))
    rw[<- e];exact k _ s3
end
def Zfg(k x:Nat):(List.replicate k [V.int (x:Int)]).flatten=nv (List.replicate k x):=by
 unfold nv;rw[List.map_replicate];induction k with
 |zero=>rfl
 |succ k ih=>rw[replicate_succ,flatten_cons,ih,replicate_succ];rfl
def Zni(k:Nat)(v:V):(List.replicate k [v]).flatten=List.replicate k v:=by
 induction k with
 |zero=>rfl
 |succ k ih=>rw[replicate_succ,flatten_cons,ih,replicate_succ];rfl
def Zcy(l:List Nat)(i x:Nat):(nv l).set i (V.int (x:Int))=nv (l.set i x):=by
 unfold nv;rw[List.map_set]
def Dl{n j:Nat}(h:j<n):ixN n (j:Int)=some j:=by
 unfold ixN;rw[if_pos (by omega),if_pos (by omega),Int.toNat_natCast]
section
variable{P:Program}{w:World}{K:Frag}{mg:Str->Option Value}{base:Heap}
inductive YG:List V->Hp->VK->XK->Prop|mk {vs H Q E} (a:Addr) (l:List Nat):vs=[.ref a]->H a=some (.lst (nv l))->RM.IsP 16 l->RL H Q (nv (Rotor.back l))->YG vs H Q E
def UL:Zl ["a", "result", "place", "letter"] ["a"] (Ze (top 5)):=fsc
def ZeJ(G:Gx mg)(F:At K mg "inverse" (top 5) ["a"]):Def P w K mg base CX0 1 "inverse" ["a"] YG:=by
 refine F.ok UL (λvs H Q E h=>?_) (λf _ A _ s H vs Q E _ h=>?_)
 ·obtain⟨a,l,rfl,_⟩:=h
  rfl
 ·obtain⟨a,l,rfl,ha,hp,k⟩:=h
  refine⟨_,Zc (Zk (i:=1) UL.nd rfl (ZD Zbc (Zx (Za Zq Zd)) (pk G.most rfl)))
   (Zc (Z6 PassesOwn.never rfl (Zgx rfl G.enum (Za (pv 0) Zd)) (Yl rfl (ZA (Zo (i:=2) UL.nd rfl) (ZA (Zo (i:=3) UL.nd rfl) JI)))
    (Zh (ZcY (pv 2) (ZcD (pv 1) (pv 3) Ua))))
   (Zh (Zn (pv 1)))),?_⟩;refine⟨Zs (by decide),λq hq=>⟨q,_,_,rfl,rfl,Zb,by decide,by decide,Zs (by decide),λr hr'=>?_⟩⟩;rw[show List.replicate (16:Int).toNat [V.int 0]=List.replicate 16 [V.int ((0:Nat):Int)] from rfl,Zfg];have s1:=(Zg (o:=.lst [V.int 0]) hq).trans (Zg (o:=.lst (nv (List.replicate 16 0))) hr');have nr:H r=none:=(Zg hq).free hr';refine⟨_,rfl,a,_,rfl,SqL.of (s1 _ _ ha),Zdu (K:=K) (a:=a) (xs:=nv l) (λi σ H'=>∃v2 v3:Option V,σ=[some (.ref a),some (.ref r),v2,v3]/\Same H H'/\H' r=some (.lst (nv (RM.Yg l i))))
   ⟨none,none,rfl,s1,by rw[Zb,RM.Zfp]⟩ (λi σ H' _ ⟨_,_,_,sm,_⟩=>SqL.of (sm _ _ ha)) ?_ ?_⟩
  ·rintro i x σ H' T hi hT ⟨v2,v3,rfl,sm,hR⟩
   obtain⟨y,hy,rfl⟩:=JA hi;have hy16:y<16:=hp.mem.mp (mem_of_getElem? hy);have hTr:r≠T:=Zi hR hT;refine⟨T,_,rfl,SqT.of Zb,rfl,_,_,rfl,_,_,rfl,rfl,_,rfl,_,rfl,_,rfl,r,_,_,y,rfl,rfl,by rw[Zj hTr];exact hR,Dl (by rw[Zf];show y<(RM.Yg l i).length;rw[show(RM.Yg l i).length=16 from RM.Zt _];exact hy16),?_⟩;refine⟨_,_,rfl,Same.upd (Same.upd sm (sm.free hT)) nr,?_⟩;rw[Zb,show((i:Nat):Int)=(i:Int) from rfl,Zcy,RM.Zez hp hy]
  ·rintro σ H' ⟨v2,v3,rfl,sm,hR⟩
   rw[Zf,RM.ZgT hp] at hR;exact⟨_,rfl,k H' r sm nr hR⟩
inductive UA:List V->Hp->VK->XK->Prop|mk {vs H Q E} (a:Addr) (n:Nat) (k:Int) (l:List Nat):vs=[.int (n:Int),.int k,.ref a]->H a=some (.lst (nv l))->2<=n->n<=16->RM.IsP n l->RL H Q (nv (Rotor.turned n (k%(n:Int)).toNat l))->UA vs H Q E
def Zaz:Zl ["n", "k", "a", "below_n", "letter"] ["n", "k", "a"] (Ze (top 6)):=fsc
def ZgG(G:Gx mg)(F:At K mg "turned" (top 6) ["n", "k", "a"]):Def P w K mg base CX0 1 "turned" ["n", "k", "a"] UA:=by
 refine F.ok Zaz (λvs H Q E h=>?_) (λf _ A _ s H vs Q E _ h=>?_)
 ·obtain⟨a,n,k,l,rfl,_⟩:=h
  rfl
 ·obtain⟨a,n,kk,l,rfl,ha,h2,h16,hp,k⟩:=h
  refine⟨_,Zc (Vt (i:=3) rfl Zaz.nd rfl rfl (UI rfl rfl rfl rfl) (JH rfl G.range (Za (pv 0) Zd)) (own:=[("letter",4)]) (ZP (N:=["n", "k", "a", "below_n", "letter"]) (sc:=Ze (top 6)) (by decide +kernel))
    (λ_ _ _ _ _=>Zo (i:=4) Zaz.nd rfl) (λ_ _ _ _ _=>Jf)
    (λ_ _ _ _ _=>ZD US (ZD Uw (Ja (r:=JX K) ZM (pv 2) (ZD US (ZD Z5 (pv 4) (pv 1)) (pv 0)) (λ_ _=>rfl)) (pv 1)) (pv 0)))
   (Zh (Zn (ZD DO (pv 3) (JQ Yq (pv 2) (Jz (pv 0)) UC)))),?_⟩;have hn0:(0:Int)<(n:Int):=by omega
  refine⟨_,rfl,_,rfl,by omega,by omega,λD hD=>ZdN (lo:=0) (n:=n) (λi H'=>Same H H'/\H' D=some (.lst (nv ((List.range i).map λ(i:Nat)=>((((at_ l (((i:Int)+kk)%(n:Int)).toNat:Nat):Int)-kk)%(n:Int)).toNat)))) ⟨Zg hD,Zb⟩ ?_ ?_⟩
  ·rintro i H' hi ⟨sm,hD'⟩
   have j1:=Int.emod_nonneg ((i:Int)+kk) (show(n:Int)≠0 by omega);have j2:=Int.emod_lt_of_pos ((i:Int)+kk) hn0;obtain⟨j,hj⟩ : ∃j:Nat,((i:Int)+kk)%(n:Int)=(j:Int):=⟨(((i:Int)+kk)%(n:Int)).toNat,by omega⟩;have hjl:j<l.length:=by rw[hp.len];omega
   refine⟨rfl,lcY ⟨_,rfl,_,rfl,_,rfl,_,_,rfl,rfl,_,rfl,_,_,rfl,rfl,hn0,a,_,_,V.int ((at_ l j:Nat):Int),rfl,rfl,SqL.of (sm _ _ ha),?_,_,rfl,_,_,rfl,rfl,_,rfl,_,_,rfl,rfl,hn0,_,hD',?_,?_⟩⟩
   ·rw[show(0:Int)+(i:Int)+kk=(i:Int)+kk by omega,hj]
    exact YK hjl
   ·rw[Zf,length_map,length_range]
    exact ZF (by omega)
   ·refine⟨Same.upd sm hD,?_⟩
    rw[Zb,range_succ,map_append,ZX];refine congrArg (λz=>some (HO.lst (_++z))) ?_;show [V.int ((((at_ l j:Nat):Int)-kk)%(n:Int))]=[V.int ((((((at_ l (((i:Int)+kk)%(n:Int)).toNat:Nat):Int)-kk)%(n:Int)).toNat:Nat):Int)];rw[hj,Int.toNat_natCast,Int.toNat_of_nonneg (Int.emod_nonneg _ (by omega))]
  ·rintro H' ⟨sm,hD'⟩
   refine⟨_,rfl,_,rfl,_,rfl,_,rfl,a,_,rfl,SqL.of (sm _ _ ha),λp hp'=>?_⟩;rw[Zdm l n (by rw[hp.len];exact h16)];have hDp:D≠p:=Zi hD' hp';refine⟨D,p,_,_,rfl,rfl,by rw[Zj hDp];exact hD',Zb,?_,λq hq=>?_⟩
   ·rw[Zf,Zf,length_map,length_range,length_drop,hp.len]
    exact Zs (by omega)
   ·have s2:=(sm.trans (Zg (o:=.lst (nv (l.drop n))) hp'))
    refine k _ q (s2.trans (Zg hq)) (s2.free hq) ?_;rw[Zb,<- ZX,<- RM.ZgF (by omega) h16 hp]
inductive Za2:List V->Hp->VK->XK->Prop|mk {vs H Q E} (a b:Addr) (l m:List Nat):vs=[.ref a,.ref b]->H a=some (.lst (nv l))->H b=some (.lst (nv m))->RM.IsP 16 l->RM.IsP 16 m->RL H Q (nv (Rotor.seen l m))->Za2 vs H Q E
def Zk8:Zl ["a", "b"] ["a", "b"] (Ze (top 7)):=fsc
def ZjD(D1:Def P w K mg base CX0 1 "product" ["a", "b"] Yn)(D2:Def P w K mg base CX0 1 "inverse" ["a"] YG)(F:At K mg "seen_through" (top 7) ["a", "b"]):Def P w K mg base CX0 2 "seen_through" ["a", "b"] Za2:=by
 refine F.ok Zk8 (λvs H Q E h=>?_) (λf _ A _ s H vs Q E hr h=>?_)
 ·obtain⟨a,b,l,m,rfl,_⟩:=h
  rfl
 ·obtain⟨a,b,l,m,rfl,ha,hb,pl,pm,k⟩:=h
  refine⟨_,Zh (Zn (pc D1 hr rfl Zm (Za (pc D1 hr rfl Zm (Za (pv 1) (Za (pv 0) Zd))) (Za (pc D2 hr rfl Zm (Za (pv 1) Zd)) Zd)))),?_⟩;refine⟨_,rfl,_,rfl,b,a,m,l,rfl,hb,ha,λx hx=>by rw[pl.len];exact pm.mem.mp hx,by rw[pm.len];decide,λH1 p s1 n1 h1=>?_⟩;refine⟨_,rfl,b,m,rfl,s1 _ _ hb,pm,λH2 q s2 n2 h2=>?_⟩;refine⟨p,q,_,_,rfl,s2 _ _ h1,h2,λx hx=>?_,?_,λH3 r s3 n3 h3=>?_⟩
  ·rw[RM.V5]
   rw[<- RM.VL pm.len] at hx;exact(RM.YU pm pl).mem.mp hx
  ·rw[length_map,pm.len]
   decide
  ·refine k H3 r ((s1.trans s2).trans s3) ((s1.trans s2).free n3) ?_
   rw[h3];unfold Rotor.seen;rw[<- RM.VL pm.len,<- RM.VL (RM.YU pm pl).len]
end
def bv(l:List Bool):List V:=l.map V.bl
def Jv(l:List Bool):(bv l).length=l.length:=length_map ..
def ZkZ(l:List Bool)(i:Nat)(b:Bool):(bv l).set i (V.bl b)=bv (l.set i b):=by
 unfold bv;rw[List.map_set]
def Zne{l:List Bool}{i:Nat}(h:i<l.length):atI (bv l) (i:Int)=some (V.bl (RM.mb l i)):=by
 apply VO;unfold bv RM.mb;rw[getElem?_map,getElem?_eq_getElem h,getD_eq_getElem?_getD,getElem?_eq_getElem h];rfl
def ZhL(k:Nat)(b:Bool):(List.replicate k [V.bl b]).flatten=bv (List.replicate k b):=by
 unfold bv;rw[List.map_replicate,Zni]
def ZiU{X:Cx}:Zmn X (λo i H Q=>∃(p:Addr) (xs:List V) (j:Nat) (v:V),o = .ref p/\i = .int (j:Int)/\H p=some (.lst xs)/\xs[j]? = some v/\Q v H):=by
 intro pins s σ H o i ov iv Q I ro ri h;obtain⟨p,xs,j,v,rfl,rfl,hp,hv,q⟩:=h;cases ro;obtain⟨t,rfl⟩:=ri;obtain⟨its,r,pl,hz⟩:=I.list (SqL.of hp);obtain⟨u,hu,ru⟩:=r.get hv;have hj:=(List.getElem?_eq_some_iff.mp hv).1;have:=Zax;exact wpAny_getItem_list pl.isList (by omega) (by omega) (by rw[Int.toNat_natCast];simpa using hu) ⟨v,H,I,ru,q⟩
section
variable{P:Program}{w:World}{K:Frag}{mg:Str->Option Value}{base:Heap}
inductive Vg:List V->Hp->VK->XK->Prop|mk {vs H Q E} (a:Addr) (n:Nat) (l:List Nat):vs=[.int (n:Int),.ref a]->H a=some (.lst (nv l))->n<=16->RM.IsP n l->RL H Q (nv (RM.ZE n l))->Vg vs H Q E
def ZdH:Zl ["n", "a", "lengths", "met", "start", "length", "letter"] ["n", "a"] (Ze (top 8)):=fsc
def ZgQ(G:Gx mg)(F:At K mg "round_lengths" (top 8) ["n", "a"]):Def P w K mg base CX0 1 "round_lengths" ["n", "a"] Vg:=by
 refine F.ok ZdH (λvs H Q E h=>?_) (λf _ A _ s H vs Q E _ h=>?_)
 ·obtain⟨a,n,l,rfl,_⟩:=h
  rfl
 ·obtain⟨a,n,l,rfl,ha,h16,hp,k⟩:=h
  have nd:=ZdH.nd;refine⟨_,Zc (Zk (i:=2) nd rfl (Zx Zd)) (Zc (Zk (i:=3) nd rfl (ZD Zbc (Zx (Za U2 Zd)) (pv 0)))
   (Zc (Z6 PassesOwn.never rfl (JH rfl G.range (Za (pv 0) Zd)) (Zo (i:=4) nd rfl)
    (Zc (Zk (i:=5) nd rfl Zq) (Zc (Zk (i:=6) nd rfl (pv 4))
     (Zc (Za0 PassesOwn.never (Yx (Z1 (Ja (r:=JX K) ZM (pv 3) (pv 6) (λ_ _=>rfl))))
      (Zc (ZcY U2 (ZcD (pv 3) (pv 6) Ua)) (Zc (Zk (i:=6) nd rfl (Ja (r:=JX K) ZM (pv 1) (pv 6) (λ_ _=>rfl))) (Zh (Zdh (i:=5) nd rfl (Or.inl rfl) Zq Zcf)))))
     (Zh (ZW (ZJ Vy (pv 5) Zq (ZG _)) (Zh (Z3 (J4 PySem.F.plainAttrs_list PySem.F.slot_list_append PySem.F.type_list_append JO (pv 2) (Za (pv 5) Zd)))) ZB))))))
   (Zh (Zn (pv 2))))),?_⟩;refine⟨Zs (by decide),λp hp'=>⟨Zs (by decide),λq hq=>⟨_,rfl,q,_,_,rfl,rfl,Zb,by omega,by omega,?_,λr hr'=>?_⟩⟩⟩
  ·show 1*((n:Int)).toNat<=sizeLine
   exact Zs (by omega)
  rw[Int.toNat_natCast,ZhL];have hpq:p≠q:=Zi Zb hq;have hpr:p≠r:=Zi (by rw[Zj hpq];exact Zb) hr';have nq:H q=none:=(Zg hp').free hq;have nr:H r=none:=((Zg hp').trans (Zg hq)).free hr';refine⟨_,rfl,_,rfl,by omega,by omega,JY (lo:=0) (n:=n) (λi σ H'=>∃v4 v5 v6:Option V,σ=[some (.int (n:Int)),some (.ref a),some (.ref p),some (.ref r),v4,v5,v6]/\Same H H'/\H' p=some (.lst (nv (RM.ZI n l i).2))/\H' r=some (.lst (bv (RM.ZI n l i).1)))
   ⟨none,none,none,rfl,((Zg hp').trans (Zg hq)).trans (Zg hr'),by rw[Zj hpr,Zj hpq,Zb];rfl,Zb⟩ ?_ ?_⟩
  ·rintro i σ H' hi ⟨v4,v5,v6,rfl,sm,hP,hR⟩
   obtain⟨cd,_⟩:=RM.VW hp h16 i (by omega);have cl:=cd.cl;refine⟨_,rfl,?_⟩;refine⟨λm σ H2=>∃(L x:Nat) (mm:List Bool),m=17-L/\L<=16/\σ=[some (.int (n:Int)),some (.ref a),some (.ref p),some (.ref r),some (.int (0+(i:Int))),some (.int (L:Int)),some (.int (x:Int))]/\RM.V4 n l (RM.ZI n l i).1 i L mm x/\Same H H2/\H2 p=some (.lst (nv (RM.ZI n l i).2))/\H2 r=some (.lst (bv mm)),
    ⟨17,0,i,_,rfl,Nat.zero_le _,by rw[show(0:Int)+(i:Int)=((i:Nat):Int) by omega];rfl,RM.V4.start _ _,sm,hP,hR⟩,?_⟩;rintro m σ H2 ⟨L,x,mm,rfl,hL16,rfl,wk,sm2,hP2,hR2⟩;have hx:=wk.xlt hp h16 hi;have hml:=wk.mlen cl;refine⟨_,rfl,_,rfl,r,_,_,_,rfl,rfl,SqL.of hR2,Zne (by omega),_,rfl,?_⟩;cases hb:RM.mb mm x with
   |false=>
    refine JT ⟨λσ' H'=>∃(x:Nat) (mm:List Bool),σ'=[some (.int (n:Int)),some (.ref a),some (.ref p),some (.ref r),some (.int (0+(i:Int))),some (.int ((L+1:Nat):Int)),some (.int (x:Int))]/\RM.V4 n l (RM.ZI n l i).1 i (L+1) mm x/\L+1<=16/\Same H H'/\H' p=some (.lst (nv (RM.ZI n l i).2))/\H' r=some (.lst (bv mm)),
     λσ' H' ⟨x,mm,e,wk,h16',s3,hP3,hR3⟩=>⟨_,by omega,L+1,x,mm,rfl,h16',e,wk,s3,hP3,hR3⟩,?_⟩;obtain⟨_,hlt⟩:=wk.unmet cl hp h16 hi hb;have r16:=(RM.ZK hp (show i<16 by omega)).2.1;refine⟨_,rfl,_,rfl,r,_,_,x,rfl,rfl,hR2,Dl (by rw[Jv];omega),?_⟩;rw[ZkZ];refine⟨_,rfl,_,rfl,a,_,_,_,rfl,rfl,SqL.of ((Same.upd sm2 nr) _ _ ha),YK (by rw[hp.len];omega),?_⟩;refine⟨_,rfl,_,_,rfl,rfl,at_ l x,mm.set x true,?_,wk.turn cl hp h16 hi hb,by omega,Same.upd sm2 nr,?_,Zb⟩
    ·rfl
    ·rw[Zj hpr]
     exact hP2
   |true=>
    refine Yh ?_;have e0:(RM.ZI n l (i+1))=if L=0 then RM.ZI n l i else (mm,(RM.ZI n l i).2++[L]):=by
     rw[RM.Vc];unfold RM.Ym;rcases wk.done cl hp h16 hi hb with⟨d1,d2,d3⟩|⟨d1,d2,d3⟩
     ·rw[if_pos d1,if_pos d2]
     ·have r0:=(RM.ZK hp (show i<16 by omega)).1
      rw[if_neg (by rw[d1];decide),if_neg (by omega),d2,d3]
    have em:L=0->mm=(RM.ZI n l i).1:=λh0=>by
     rcases wk.done cl hp h16 hi hb with⟨_,_,d3⟩|⟨_,d2,_⟩
     ·exact d3
     ·have r0:=(RM.ZK hp (show i<16 by omega)).1
      omega
    refine⟨_,rfl,_,_,rfl,rfl,_,rfl,Jl (λhgt=>?_) λhgt=>?_⟩
    ·have hgt:(0:Int)<(L:Int):=of_decide_eq_true hgt
     refine⟨_,rfl,.inl ⟨rfl,_,SqL.of hP2⟩,_,rfl,p,_,_,rfl,rfl,hP2,?_,?_⟩
     ·have:=RM.JC n l hp h16 i (by omega)
      have ls:=cd.sm;have:(RM.ZI n l i).2.length<=(RM.ZI n l i).2.sum:=by
       have key:∀(z:List Nat),(∀y,y∈z->0<y)->z.length<=z.sum:=by
        intro z;induction z with
        |nil=>intro _;exact Nat.le_refl _
        |cons y z ih=>
         intro h;rw[length_cons,sum_cons];have:=ih λt ht=>h t (mem_cons_of_mem _ ht);have:=h y mem_cons_self;omega
       exact key _ λy hy=>(this y hy).1
      have fl:=length_filter_le (RM.mb (RM.ZI n l i).1) (List.range n);rw[length_range] at fl;rw[Zf];exact ZF (by omega)
     ·refine⟨_,_,_,rfl,Same.upd sm2 hp',?_,?_⟩
      ·rw[Zb,e0,if_neg (by omega),JK]
      ·rw[Zj (Ne.symm hpr),e0,if_neg (by omega)]
       exact hR2
    ·have hgt:¬ (0:Int)<(L:Int):=λh=>hgt (decide_eq_true h)
     refine⟨_,_,_,rfl,sm2,?_,?_⟩
     ·rw[e0,if_pos (by omega)]
      exact hP2
     ·rw[e0,if_pos (by omega),<- em (by omega)]
      exact hR2
  ·rintro σ H' ⟨v4,v5,v6,rfl,sm,hP,hR⟩
   exact⟨_,rfl,k H' p sm hp' hP⟩
end
def Zdk{n:Nat}{l:List Nat}(hp:RM.IsP n l)(h16:n<=16):(RM.ZE n l).length<=16:=by
 have key:∀(z:List Nat),(∀y,y∈z->0<y)->z.length<=z.sum:=by
  intro z;induction z with
  |nil=>intro _;exact Nat.le_refl _
  |cons y z ih=>
   intro h;rw[length_cons,sum_cons];have:=ih λt ht=>h t (mem_cons_of_mem _ ht);have:=h y mem_cons_self;omega
 have:=key _ λy hy=>(RM.JC n l hp h16 n (Nat.le_refl _) y hy).1;have e:=RM.Zef hp h16;unfold RM.ZE at *;omega
section
variable{P:Program}{w:World}{K:Frag}{mg:Str->Option Value}{base:Heap}
inductive Zf1:List V->Hp->VK->XK->Prop|mk {vs H Q E} (a b:Nat):vs=[.int (a:Int),.int (b:Int)]->0<a->0<b->RV H Q (.int (Nat.lcm a b:Nat))->Zf1 vs H Q E
def ZkP:Zl ["a", "b", "multiple"] ["a", "b"] (Ze (top 9)):=fsc
def Zk4(F:At K mg "least_common_multiple" (top 9) ["a", "b"]):Def P w K mg base CX0 1 "least_common_multiple" ["a", "b"] Zf1:=by
 refine F.ok ZkP (λvs H Q E h=>?_) (λf _ A _ s H vs Q E _ h=>?_)
 ·obtain⟨a,b,rfl,_⟩:=h
  rfl
 ·obtain⟨a,b,rfl,ha,hb,k⟩:=h
  have nd:=ZkP.nd;refine⟨_,Zc (Zk (i:=2) nd rfl (pv 0)) (Zc (Za0 PassesOwn.never (ZJ Zb0 (ZD US (pv 2) (pv 1)) Zq (ZG _)) (Zh (Zdh (i:=2) nd rfl (Or.inl rfl) (pv 0) Zcf))) (Zh (Zn (pv 2)))),?_⟩;refine⟨_,rfl,λm σ H2=>∃t:Nat,m=b-t/\0<t/\t<=b/\σ=[some (.int (a:Int)),some (.int (b:Int)),some (.int ((a*t:Nat):Int))]/\(∀u,0<u->u<t->¬ b ∣ a*u)/\Same H H2,
   ⟨b-1,1,rfl,by decide,hb,by rw[Nat.mul_one];rfl,λu h1 h2=>by omega,Same.refl H⟩,?_⟩;rintro m σ H2 ⟨t,rfl,h1,h2,rfl,h3,sm⟩;refine⟨_,rfl,_,rfl,_,_,rfl,rfl,by omega,rfl,_,rfl,Jl (λh4=>?_) λh4=>?_⟩
  ·have nd4:¬ b ∣ a*t:=λhd=>by
    have e:(((a*t:Nat):Int)%(b:Int))=0:=by
     rw[<- Int.natCast_emod,Nat.mod_eq_zero_of_dvd hd];rfl
    simp only[e] at h4;exact absurd h4 (by decide)
   have htb:t<b:=by
    rcases Nat.lt_or_ge t b with h|h
    ·exact h
    ·have:t=b:=by omega
     subst this;exact absurd (Nat.dvd_mul_left t a) nd4
   refine⟨λσ' H'=>σ'=[some (.int (a:Int)),some (.int (b:Int)),some (.int ((a*(t+1):Nat):Int))]/\Same H H',λσ' H' ⟨e,s3⟩=>⟨_,by omega,t+1,rfl,by omega,by omega,e,λu u1 u2=>?_,s3⟩,?_⟩
   ·rcases Nat.lt_or_ge u t with h|h
    ·exact h3 u u1 h
    ·have:u=t:=by omega
     subst this;exact nd4
   ·exact⟨_,rfl,_,rfl,_,_,rfl,rfl,by rw[Nat.mul_add,Nat.mul_one,Int.natCast_add];rfl,sm⟩
  ·have hd:b ∣ a*t:=by
    refine Classical.byContradiction λhn=>h4 ?_;have:¬ ((a*t:Nat):Int)%(b:Int)=0:=λe=>hn (by
     rw[<- Int.natCast_emod] at e;exact Nat.dvd_of_mod_eq_zero (by omega))
    rw[Bool.not_eq_true',decide_eq_false_iff_not];intro e;injection e with e
    exact this e
   rw[RM.Zk0 ha hb h1 hd h3];exact⟨_,rfl,k H2 sm⟩
inductive Zce:List V->Hp->VK->XK->Prop|mk {vs H Q E} (a:Addr) (l:List Nat):vs=[.ref a]->H a=some (.lst (nv l))->RM.IsP 16 l->RV H Q (.int (Rotor.order l:Nat))->Zce vs H Q E
def Zgt:Zl ["a", "times", "length"] ["a"] (Ze (top 10)):=fsc
def Zih(G:Gx mg)(D1:Def P w K mg base CX0 1 "round_lengths" ["n", "a"] Vg)(D2:Def P w K mg base CX0 1 "least_common_multiple" ["a", "b"] Zf1)(F:At K mg "order" (top 10) ["a"]):Def P w K mg base CX0 2 "order" ["a"] Zce:=by
 refine F.ok Zgt (λvs H Q E h=>?_) (λf _ A _ s H vs Q E hr h=>?_)
 ·obtain⟨a,l,rfl,_⟩:=h
  rfl
 ·obtain⟨a,l,rfl,ha,hp,k⟩:=h
  have nd:=Zgt.nd;refine⟨_,Zc (Zk (i:=1) nd rfl Zq) (Zc (Z6 PassesOwn.never rfl (ZR (pc D1 hr rfl Zm (Za (pk G.most rfl) (Za (pv 0) Zd)))) (Zo (i:=2) nd rfl)
   (Zh (Zk (i:=1) nd rfl (pc D2 hr rfl Zm (Za (pv 1) (Za (pv 2) Zd)))))) (Zh (Zn (pv 1)))),?_⟩;refine⟨_,rfl,a,16,l,rfl,ha,by decide,hp,λH1 p s1 n1 h1=>⟨p,rfl,⟨_,SqL.of h1⟩,?_⟩⟩;refine JD (K:=K) (a:=p) (xs:=nv (RM.ZE 16 l)) (λi σ H'=>∃v2:Option V,σ=[some (.ref a),some (.int ((((RM.ZE 16 l).take i).foldl Nat.lcm 1:Nat):Int)),v2]/\Same H1 H')
   ⟨none,rfl,Same.refl _⟩ (λi σ H' _ ⟨_,_,sm⟩=>SqL.of (sm _ _ h1)) ?_ ?_
  ·rintro i x σ H' hi ⟨v2,rfl,sm⟩
   obtain⟨y,hy,rfl⟩:=JA hi;have y0:=(RM.JC 16 l hp (by decide) 16 (Nat.le_refl _) y (mem_of_getElem? hy)).1;refine⟨_,rfl,_,rfl,_,y,rfl,RM.VJ _ 1 (by decide) (λz hz=>(RM.JC 16 l hp (by decide) 16 (Nat.le_refl _) z (mem_of_mem_take hz)).1),y0,λH2 s2=>⟨some (.int (y:Int)),?_,sm.trans s2⟩⟩;rw[take_add_one,hy,foldl_append];rfl
  ·rintro σ H' ⟨v2,rfl,sm⟩
   refine⟨_,rfl,?_⟩;rw[Zf,take_length,<- RM.ZhQ hp];exact k H' (s1.trans sm)
inductive ZcO:List V->Hp->VK->XK->Prop|mk {vs H Q E} (a:Addr) (n:Nat) (l:List Nat):vs=[.int (n:Int),.ref a]->H a=some (.lst (nv l))->n<=16->RM.IsP n l->RL H Q (nv (Rotor.shape n l))->ZcO vs H Q E
def Zgk:Zl ["n", "a", "counts", "length"] ["n", "a"] (Ze (top 11)):=fsc
def ZaT(f:Nat->Nat){i:Nat}(h:i<16):(Rotor.made f)[i]? = some (f i):=by
 unfold Rotor.made;rw[getElem?_map,getElem?_range (show i<Rotor.WIDE from h)];rfl
def Zi2(f:Nat->Nat)(j:Nat)(hj:j<16)(v:Nat):(Rotor.made f).set j v=Rotor.made λi=>if i=j then v else f i:=by
 apply ext_getElem?;intro i;by_cases hi:i<16
 ·rw[ZaT _ hi]
  by_cases e:j=i
  ·subst e
   rw[getElem?_set_self (by rw[RM.Zt];exact hj),if_pos rfl]
  ·rw[getElem?_set_ne e,ZaT _ hi,if_neg (Ne.symm e)]
 ·rw[getElem?_eq_none (by rw[length_set,RM.Zt];omega),getElem?_eq_none (by rw[RM.Zt];omega)]
def Ziz(G:Gx mg)(D1:Def P w K mg base CX0 1 "round_lengths" ["n", "a"] Vg)(F:At K mg "shape" (top 11) ["n", "a"]):Def P w K mg base CX0 2 "shape" ["n", "a"] ZcO:=by
 refine F.ok Zgk (λvs H Q E h=>?_) (λf _ A _ s H vs Q E hr h=>?_)
 ·obtain⟨a,n,l,rfl,_⟩:=h
  rfl
 ·obtain⟨a,n,l,rfl,ha,h16,hp,k⟩:=h
  have nd:=Zgk.nd;refine⟨_,Zc (Zk (i:=2) nd rfl (ZD Zbc (Zx (Za Zq Zd)) (pk G.most rfl))) (Zc (Z6 PassesOwn.never rfl (ZR (pc D1 hr rfl Zm (Za (pv 0) (Za (pv 1) Zd)))) (Zo (i:=3) nd rfl)
   (Zh (Zju (pv 2) (ZD Uw (pv 3) Zq) ZiU Zq Zcf Ua))) (Zh (Zn (pv 2)))),?_⟩;refine⟨Zs (by decide),λq hq=>⟨q,_,_,rfl,rfl,Zb,by decide,by decide,Zs (by decide),λr hr'=>?_⟩⟩;rw[show List.replicate (16:Int).toNat [V.int 0]=List.replicate 16 [V.int ((0:Nat):Int)] from rfl,Zfg];have s1:=(Zg (o:=.lst [V.int 0]) hq).trans (Zg (o:=.lst (nv (List.replicate 16 0))) hr');have nr:H r=none:=(Zg hq).free hr';refine⟨_,rfl,_,rfl,a,n,l,rfl,s1 _ _ ha,h16,hp,λH1 p s2 n2 h2=>⟨p,rfl,⟨_,SqL.of h2⟩,?_⟩⟩;have hpr:p≠r:=λe=>by rw[e,Zb] at n2;cases n2
  refine JD (K:=K) (a:=p) (xs:=nv (RM.ZE n l)) (λi σ H'=>∃v3:Option V,σ=[some (.int (n:Int)),some (.ref a),some (.ref r),v3]/\Same H H'/\H' p=some (.lst (nv (RM.ZE n l)))/\H' r=some (.lst (nv (Rotor.made λj=>((RM.ZE n l).take i).count (j+1)))))
   ⟨none,rfl,s1.trans s2,h2,by rw[s2 _ _ Zb];rfl⟩ (λi σ H' _ ⟨_,_,_,sm,_⟩=>SqL.of sm) ?_ ?_
  ·rintro i x σ H' hi ⟨v3,rfl,sm,hP,hR⟩
   obtain⟨y,hy,rfl⟩:=JA hi;obtain⟨y0,y16⟩:=RM.JC n l hp h16 n (Nat.le_refl _) y (mem_of_getElem? hy);have ey:((y:Int)-1)=((y-1:Nat):Int):=by omega
   refine⟨_,rfl,_,rfl,_,_,rfl,rfl,r,_,y-1,V.int ((((RM.ZE n l).take i).count (y-1+1):Nat):Int),rfl,congrArg V.int ey,hR,Zcw (ZaT _ (by omega)),?_⟩;refine⟨_,_,rfl,rfl,r,_,_,y-1,rfl,rfl,hR,?_,?_⟩
   ·show ixN _ ((y:Int)-1)=_
    rw[ey];exact Dl (by rw[Zf,RM.Zt];omega)
   ·refine⟨_,rfl,Same.upd sm nr,by rw[Zj hpr];exact hP,?_⟩
    rw[Zb];show some (HO.lst ((nv _).set _ (V.int (((((RM.ZE n l).take i).count (y-1+1)+1:Nat):Int)))))=_;rw[Zcy,Zi2 _ _ (by omega)];refine congrArg (λz=>some (HO.lst (nv (Rotor.made z)))) (funext λj=>?_);rw[take_add_one,hy,List.count_append];show _=_+[y].count (j+1);rw[List.count_singleton];by_cases e:j=y-1
    ·subst e
     rw[if_pos rfl,if_pos (by rw[beq_iff_eq];omega)]
    ·rw[if_neg e,if_neg (by rw[beq_iff_eq];omega)];rfl
  ·rintro σ H' ⟨v3,rfl,sm,hP,hR⟩
   refine⟨_,rfl,k H' r sm nr ?_⟩;rw[hR,Zf,take_length,RM.ZhF hp h16]
inductive Zc6:List V->Hp->VK->XK->Prop|mk {vs H Q E} (a:Addr) (n:Nat) (l:List Nat):vs=[.int (n:Int),.ref a]->H a=some (.lst (nv l))->n<=16->RM.IsP n l->RV H Q (.bl (Rotor.paired n l))->Zc6 vs H Q E
def Zcu:Zl ["n", "a", "length"] ["n", "a"] (Ze (top 12)):=fsc
def ZiW(G:Gx mg)(D1:Def P w K mg base CX0 1 "round_lengths" ["n", "a"] Vg)(F:At K mg "goes_by_pairs" (top 12) ["n", "a"]):Def P w K mg base CX0 2 "goes_by_pairs" ["n", "a"] Zc6:=by
 refine F.ok Zcu (λvs H Q E h=>?_) (λf _ A _ s H vs Q E hr h=>?_)
 ·obtain⟨a,n,l,rfl,_⟩:=h
  rfl
 ·obtain⟨a,n,l,rfl,ha,h16,hp,k⟩:=h
  refine⟨_,Zh (Zn (Zv (ZeP rfl) rfl G.all boot_all (Za (YA rfl Zcu.nd (ZR (pc D1 hr rfl Zm (Za (pv 0) (Za (pv 1) Zd)))) (own:=[("length",2)]) (ZP (N:=["n", "a", "length"]) (sc:=Ze (top 12)) (by decide +kernel))
   (λ_ _ _ _ _=>Zo (i:=2) Zcu.nd rfl) (λ_ _ _ _ _=>Jf) (λ_ _ _ _ _=>JG Vv (pv 2) Zq (ZG _))) Zd))),?_⟩;refine⟨_,rfl,_,rfl,a,n,l,rfl,ha,h16,hp,λH1 p s1 n1 h1=>⟨p,rfl,⟨_,SqL.of h1⟩,λD hD=>?_⟩⟩;refine Ji (K:=K) (a:=p) (xs:=nv (RM.ZE n l)) (λi H'=>Same H1 H'/\H' D=some (.lst (bv (((RM.ZE n l).take i).map λL=>L==2)))) ⟨Zg hD,Zb⟩ (λi H' _ h=>SqL.of (h.1 _ _ h1)) ?_ ?_
  ·rintro i x H' hi ⟨sm,hD'⟩
   obtain⟨y,hy,rfl⟩:=JA hi;refine⟨rfl,lcY ⟨_,rfl,rfl,_,hD',?_,?_⟩⟩
   ·rw[Jv,length_map,length_take]
    have:=Zdk hp h16;exact ZF (by omega)
   ·refine⟨Same.upd sm hD,?_⟩
    rw[Zb,ZN hy];unfold bv;rw[map_append];refine congrArg (λz=>some (HO.lst (_++[V.bl z]))) ?_;rw[Bool.eq_iff_iff];simp;omega
  ·rintro H' ⟨sm,hD'⟩
   rw[Zf,take_length] at hD';refine⟨D,_,rfl,SqL.of hD',?_⟩;rw[all_map];have:=RM.Zg6 hp h16;rw[<- show Rotor.paired n l=(RM.ZE n l).all (id ∘ λL=>L==2) from this];exact k H' (s1.trans sm)
end
def Zjj:Stmt->List Stmt
 |.ClassDef _ _ _ body ..=>body
 |_=>[]
def Ye(i j:Nat):Stmt:=(Zjj (top i)).getD j (.Pass ⟨0,0,0,0⟩)
structure MAt(K:Frag)(C:Addr)(m qual:Str)(st:Stmt)(ps:List Str):Prop where
 ex:∃(f:Addr) (fd:FuncData),Fun K m qual st f fd/\ZhK K C m f/\JZ K fd ps []
structure DK(P:Program)(w:World)(K:Frag)(mg:Str->Option Value)(base:Heap)(CX:CXT)(k:Nat)(C:Addr)(m:Str)(ps:List Str)(sp:Sp):Prop where
 ex:∃(f:Addr) (fd:FuncData),YX P w K mg base CX k f fd ps sp/\ZhK K C m f/\JZ K fd ps []
structure CAt(K:Frag)(mg:Str->Option Value)(x:Str)(C:Addr)(qual:Str)(st:Stmt)(ps:List Str):Prop where
 ex:∃(f:Addr) (fd:FuncData),Fun K "__init__" qual st f fd/\Mk K C f/\mg x=some (.ref C)/\JZ K fd ps []
structure ZdQ(P:Program)(w:World)(K:Frag)(mg:Str->Option Value)(base:Heap)(CX:CXT)(k:Nat)(x:Str)(C:Addr)(ps:List Str)(sp:Sp):Prop where
 ex:∃(f:Addr) (fd:FuncData),YX P w K mg base CX k f fd ps sp/\Mk K C f/\mg x=some (.ref C)/\JZ K fd ps []
section
variable{P:Program}{w:World}{K:Frag}{mg:Str->Option Value}{base:Heap}{x m qual:Str}{C:Addr}{st:Stmt}{N ps:List Str}{k:Nat}{sp:Sp}
theorem CAt.ok(F:CAt K mg x C qual st ps)(S:Zl N ps (Ze st))(len:∀vs H Q E,sp vs H Q E->vs.length=ps.length)
  (hbody:∀(f:Addr) (cdv:Value) (A:Around) (outer:List Env) (s:Shared) (H:Hp) (vs:List V) (Q:VK) (E:XK),Room k (A.deeper (envOfC qual (Ze st) s.heap.objs.size f cdv))->sp vs H Q E ->
   ∃t,PSs (cxOf CX0 P w K mg base N qual (Ze st) f cdv A outer s H E).nox (ZV st) t/\t {nx:=λ_ H'=>Q .non H',rt:=Q} (start N vs) H):ZdQ P w K mg base CX0 (k+1) x C ps sp:=by
 obtain⟨f,fd,h1,h2,h3,h4⟩:=F.ex;exact⟨f,fd,h1.ok S len (hbody f),h2,h3,h4⟩
theorem MAt.ok(F:MAt K C m qual st ps)(S:Zl N ps (Ze st))(len:∀vs H Q E,sp vs H Q E->vs.length=ps.length)
  (hbody:∀(f:Addr) (cdv:Value) (A:Around) (outer:List Env) (s:Shared) (H:Hp) (vs:List V) (Q:VK) (E:XK),Room k (A.deeper (envOfC qual (Ze st) s.heap.objs.size f cdv))->sp vs H Q E ->
   ∃t,PSs (cxOf CX0 P w K mg base N qual (Ze st) f cdv A outer s H E).nox (ZV st) t/\t {nx:=λ_ H'=>Q .non H',rt:=Q} (start N vs) H):DK P w K mg base CX0 (k+1) C m ps sp:=by
 obtain⟨f,fd,h1,h2,h3⟩:=F.ex;exact⟨f,fd,h1.ok S len (hbody f),h2,h3⟩
theorem MAt.okX(F:MAt K C m qual st ps)(S:Zl N ps (Ze st))(len:∀vs H Q E,sp vs H Q E->vs.length=ps.length)
  (hbody:∀(f:Addr) (cdv:Value) (A:Around) (outer:List Env) (s:Shared) (H:Hp) (vs:List V) (Q:VK) (E:XK),Room k (A.deeper (envOfC qual (Ze st) s.heap.objs.size f cdv))->sp vs H Q E ->
   ∃t,PSs (cxOf (CXF P w) P w K mg base N qual (Ze st) f cdv A outer s H E) (ZV st) t/\t {nx:=λ_ H'=>Q .non H',rt:=Q} (start N vs) H):DK P w K mg base (CXF P w) (k+1) C m ps sp:=by
 obtain⟨f,fd,h1,h2,h3⟩:=F.ex;exact⟨f,fd,LX.okX h1 S len (hbody f),h2,h3⟩
end
section
variable{X:Cx}{CX:CXT}{k:Nat}{x:Str}{C:Addr}{ps:List Str}{sp:Sp}{E:XK}{e:Expr}{es:List Expr}{t:TA}{p pos:Pos}
def pcm(D:ZdQ X.prog X.w X.K X.mg X.base CX k x C ps sp)(hr:Room (k+1) X.A)(hg:Gl X x)(hx:Yi CX X E)(ha:PA X (e::es) t)(hdb:(x==("__debug__" : Str))=false:=by decide)
  (he:starEach (e::es) X.env=(false,eval e X.env)::starEach es X.env:=by rfl) (hpl:(backTo pos (starEach es X.env)).any (·.1)=false:=by rfl):PE X (.Call (.Name x p) (e::es) [] pos) (Zkw C sp [] E t):=by
 obtain⟨f,fd,h1,h2,h3,h4⟩:=D.ex;exact Zjw h2 h1 hr hg h3 h4 .nil hx ha hdb he hpl
end
structure Tys(K:Frag)(W M L:Addr):Prop where
 w:Cls K W
 m:Cls K M
 l:Cls K L
 wn:∀f,f∈(["kind", "ring", "notches", "wires", "wires_by_stand"]:List Str)->Va K W f
 mn:∀f,f∈(["letters", "sends_back", "first_board", "last_board", "wheels", "number", "followers"]:List Str)->Va K M f
 ln:∀f,f∈(["calls", "taken", "machine"]:List Str)->Va K L f
def DE(n:Nat)(w:Rotor.Wheel)(aw ab:Addr):List (Str×V):=[("kind",.int (w.kind:Int)),("ring",.int (w.ring:Int)),("notches",.int (w.notches:Int)),("wires",.ref aw),("wires_by_stand",.ref ab)]
def JM(W:Addr)(n:Nat)(H:Hp)(a:Addr)(w:Rotor.Wheel):Prop:=
 ∃(dx aw ab:Addr) (rs:List Addr),H a=some (.ins W dx (DE n w aw ab))/\H aw=some (.lst (nv (RM.pad n w.wires)))/\H ab=some (.lst (rs.map V.ref))/\rs.length=n /\
  ∀(i:Nat) (r:Addr),rs[i]? = some r->H r=some (.lst (nv (RM.met n w i)))
def JM.same{W:Addr}{n:Nat}{H H':Hp}{a:Addr}{w:Rotor.Wheel}(h:JM W n H a w)(s:Same H H'):JM W n H' a w:=by
 obtain⟨dx,aw,ab,rs,h1,h2,h3,h4,h5⟩:=h;exact⟨dx,aw,ab,rs,s _ _ h1,s _ _ h2,s _ _ h3,h4,λi r hr=>s _ _ (h5 i r hr)⟩
structure WheelsAt(W:Addr)(n:Nat)(H:Hp)(as:List Addr)(ws:List Rotor.Wheel):Prop where
 len:as.length=ws.length
 at_:∀(i:Nat) (a:Addr) (w:Rotor.Wheel),as[i]? = some a->ws[i]? = some w->JM W n H a w
theorem WheelsAt.same{W:Addr}{n:Nat}{H H':Hp}{as:List Addr}{ws:List Rotor.Wheel}(h:WheelsAt W n H as ws)(s:Same H H'):WheelsAt W n H' as ws:=⟨h.len,λi a w h1 h2=>(h.at_ i a w h1 h2).same s⟩
def rv(as:List Addr):List V:=as.map V.ref
def Zw(l:List Addr):(rv l).length=l.length:=length_map ..
def YO{l:List Addr}{i:Nat}{v:V}(h:(rv l)[i]? = some v):∃x,l[i]? = some x/\v=V.ref x:=by
 unfold rv at h;rw[getElem?_map] at h;cases e:l[i]? with
 |none=>rw[e] at h;cases h
 |some x=>rw[e] at h;exact⟨x,rfl,(Option.some.inj h).symm⟩
def ZhI{l:List Addr}{i:Nat}{x:Addr}(h:l[i]? = some x):(rv l)[i]? = some (V.ref x):=by
 unfold rv;rw[getElem?_map,h];rfl
def WheelsAt.get{W:Addr}{n:Nat}{H:Hp}{as:List Addr}{ws:List Rotor.Wheel}(h:WheelsAt W n H as ws){i:Nat}{a:Addr}(ha:as[i]? = some a):∃w,ws[i]? = some w/\JM W n H a w:=by
 have hi:i<ws.length:=by rw[<- h.len];exact(List.getElem?_eq_some_iff.mp ha).1
 exact⟨ws[i],getElem?_eq_getElem hi,h.at_ i a _ ha (getElem?_eq_getElem hi)⟩
structure Gw(mg:Str->Option Value):Prop extends Gx mg where
 k1:∃t,mg "ALWAYS_MOVES" = some (.int 1 t)
 k2:∃t,mg "MOVES_WITH_NEIGHBOUR" = some (.int 2 t)
 k3:∃t,mg "MOVES_WITH_NEIGHBOUR_OR_ITSELF" = some (.int 3 t)
def Zl2(x i:Nat):decide (V.int (Builtin.bitAnd ((x:Int) / 2^((i:Nat):Int).toNat) 1)=V.int 1)=x.testBit i:=by
 rw[Int.toNat_natCast,<- Int.fdiv_eq_ediv_of_nonneg _ (Int.pow_nonneg (by decide)),Bits.bit_at,Nat.testBit_eq_decide_div_mod_eq,Bool.eq_iff_iff,decide_eq_true_eq,decide_eq_true_eq];have e:((x:Int) / 2^i%2)=((x / 2^i%2:Nat):Int):=by
  rw[Int.natCast_emod,Int.natCast_ediv,Int.natCast_pow];rfl
 rw[e];constructor
 ·intro h
  injection h with h
  omega
 ·intro h
  rw[h];rfl
section
variable{P:Program}{w:World}{K:Frag}{mg:Str->Option Value}{base:Heap}{W M L:Addr}
inductive Dr(W:Addr):List V->Hp->VK->XK->Prop|mk {vs H Q E} (a:Addr) (n x:Nat) (wh:Rotor.Wheel):vs=[.ref a,.int (x:Int)]->JM W n H a wh->RV H Q (.bl (RM.ZT wh x))->Dr W vs H Q E
def Zj8:Zl ["wheel", "letter"] ["wheel", "letter"] (Ze (top 18)):=fsc
def ZhW(T:Tys K W M L)(F:At K mg "has_notch" (top 18) ["wheel", "letter"]):Def P w K mg base CX0 1 "has_notch" ["wheel", "letter"] (Dr W):=by
 refine F.ok Zj8 (λvs H Q E h=>?_) (λf _ A _ s H vs Q E _ h=>?_)
 ·obtain⟨a,n,x,wh,rfl,_⟩:=h
  rfl
 ·obtain⟨a,n,x,wh,rfl,⟨dx,aw,ab,rs,h1,_⟩,k⟩:=h
  refine⟨_,Zh (Zn (JG Vv (ZD Zme (ZD Zis (Zu (pv 0) rfl) (pv 1)) Zq) Zq (ZG _))),?_⟩;refine⟨_,rfl,a,_,_,_,_,rfl,h1,T.w,T.wn _ (by decide),rfl,_,rfl,_,_,rfl,rfl,by omega,_,_,rfl,rfl,rfl,?_⟩;rw[Zl2];exact k H (Same.refl H)
inductive Zcg(W:Addr):List V->Hp->VK->XK->Prop|mk {vs H Q E} (a:Addr) (n x:Nat) (b:Bool) (wh:Rotor.Wheel):vs=[.ref a,.int (x:Int),.bl b]->JM W n H a wh->RV H Q (.bl (RM.mv wh x b))->Zcg W vs H Q E
def Zjk:Zl ["wheel", "stand", "nudged"] ["wheel", "stand", "nudged"] (Ze (top 19)):=fsc
def Yb(a b:Nat):decide (V.int (a:Int)=V.int (b:Int))=decide (a=b):=by
 rw[Bool.eq_iff_iff,decide_eq_true_eq,decide_eq_true_eq];constructor
 ·intro h
  injection h with h
  omega
 ·intro h
  rw[h]
def ZhB(G:Gw mg)(T:Tys K W M L)(D1:Def P w K mg base CX0 1 "has_notch" ["wheel", "letter"] (Dr W))(F:At K mg "moves" (top 19) ["wheel", "stand", "nudged"]):Def P w K mg base CX0 2 "moves" ["wheel", "stand", "nudged"] (Zcg W):=by
 refine F.ok Zjk (λvs H Q E h=>?_) (λf _ A _ s H vs Q E hr h=>?_)
 ·obtain⟨a,n,x,b,wh,rfl,_⟩:=h
  rfl
 ·obtain⟨a,n,x,b,wh,rfl,hw,k⟩:=h
  refine⟨_,Zc (ZW (ZJ Vv (Zu (pv 0) rfl) (pk G.k1 rfl) (ZG _)) (Zh (Zn U2)) ZB)
   (Zc (ZW (ZJ Vv (Zu (pv 0) rfl) (pk G.k2 rfl) (ZG _)) (Zh (Zn (pv 2))) ZB)
   (Zc (ZW (ZJ Vv (Zu (pv 0) rfl) (pk G.k3 rfl) (ZG _)) (Zh (Zn (ZmC (pv 2) (Zcs (pc D1 hr rfl Zm (Za (pv 0) (Za (pv 1) Zd))))))) ZB)
   (Zh (Zn U2)))),?_⟩;have k0:=k;obtain⟨dx,aw,ab,rs,h1,_⟩:=id hw;have d:∀j:Nat,decide (V.int (wh.kind:Int)=V.int ((j:Nat):Int))=decide (wh.kind=j):=Yb _;refine⟨_,rfl,a,_,_,_,_,rfl,h1,T.w,T.wn _ (by decide),rfl,rfl,_,rfl,?_⟩;rw[show(1:Int)=((1:Nat):Int) from rfl,d];refine Jl (λe=>?_) λe=>?_
  ·have:=k H (Same.refl H)
   unfold RM.mv at this;rw[if_pos (of_decide_eq_true e)] at this;exact this
  refine⟨_,rfl,a,_,_,_,_,rfl,h1,T.w,T.wn _ (by decide),rfl,rfl,_,rfl,?_⟩;rw[show(2:Int)=((2:Nat):Int) from rfl,d];have e1:¬ wh.kind=1:=λh=>e (decide_eq_true h);refine Jl (λe=>?_) λe=>?_
  ·have:=k H (Same.refl H)
   unfold RM.mv at this;rw[if_neg e1,if_pos (of_decide_eq_true e)] at this;exact⟨_,rfl,this⟩
  refine⟨_,rfl,a,_,_,_,_,rfl,h1,T.w,T.wn _ (by decide),rfl,rfl,_,rfl,?_⟩;rw[show(3:Int)=((3:Nat):Int) from rfl,d];have e2:¬ wh.kind=2:=λh=>e (decide_eq_true h);refine Jl (λe=>?_) λe=>?_
  ·unfold RM.mv at k
   rw[if_neg e1,if_neg e2,if_pos (of_decide_eq_true e)] at k;refine⟨_,rfl,_,rfl,?_⟩;cases b with
   |true=>exact k H (Same.refl H)
   |false=>
    refine⟨_,rfl,_,rfl,a,n,x,wh,rfl,hw,λH' sm=>?_⟩;have:=k H' sm;rw[Bool.false_or] at this;exact this
  ·have e3:¬ wh.kind=3:=λh=>e (decide_eq_true h)
   have:=k H (Same.refl H);unfold RM.mv at this;rw[if_neg e1,if_neg e2,if_neg e3] at this;exact this
inductive Zcq(W:Addr):List V->Hp->VK->XK->Prop|mk {vs H Q E} (a:Addr) (n x:Nat) (b:Bool) (wh:Rotor.Wheel):vs=[.int (n:Int),.ref a,.int (x:Int),.bl b]->0<n->JM W n H a wh->RV H Q (.int (RM.after n wh x b:Nat))->Zcq W vs H Q E
def Zjx:Zl ["n", "wheel", "stand", "nudged"] ["n", "wheel", "stand", "nudged"] (Ze (top 20)):=fsc
def Zh3(D1:Def P w K mg base CX0 2 "moves" ["wheel", "stand", "nudged"] (Zcg W))(F:At K mg "stand_after" (top 20) ["n", "wheel", "stand", "nudged"]):Def P w K mg base CX0 3 "stand_after" ["n", "wheel", "stand", "nudged"] (Zcq W):=by
 refine F.ok Zjx (λvs H Q E h=>?_) (λf _ A _ s H vs Q E hr h=>?_)
 ·obtain⟨a,n,x,b,wh,rfl,_⟩:=h
  rfl
 ·obtain⟨a,n,x,b,wh,rfl,n0,hw,k⟩:=h
  refine⟨_,Zh (Zn (YV (Z1 (pc D1 hr rfl Zm (Za (pv 1) (Za (pv 2) (Za (pv 3) Zd))))) (ZD US (ZD Z5 (pv 2) Zq) (pv 0)) (pv 2))),?_⟩;refine⟨_,rfl,_,rfl,_,rfl,a,n,x,b,wh,rfl,hw,λH' sm=>⟨_,rfl,?_⟩⟩;have:=k H' sm;unfold RM.after at this;cases e:RM.mv wh x b with
  |true=>
   rw[if_pos e] at this;refine JT ⟨_,rfl,_,_,rfl,rfl,_,rfl,_,_,rfl,rfl,by omega,?_⟩;rw[Int.natCast_emod,Int.natCast_add] at this;exact this
  |false=>
   rw[if_neg (by rw[e];decide)] at this;exact Yh ⟨_,rfl,this⟩
inductive Ub:List V->Hp->VK->XK->Prop|mk {vs H Q E} (a:Addr) (n:Nat) (p:List Nat):vs=[.int (n:Int),.ref a]->H a=some (.lst (nv p))->n<=16->RV H Q (.int (RM.Zr n p:Nat))->Ub vs H Q E
def Zdp:Zl ["n", "stands", "number", "stand"] ["n", "stands"] (Ze (top 21)):=fsc
def Zhd(G:Gw mg)(F:At K mg "number_of" (top 21) ["n", "stands"]):Def P w K mg base CX0 1 "number_of" ["n", "stands"] Ub:=by
 refine F.ok Zdp (λvs H Q E h=>?_) (λf _ A _ s H vs Q E _ h=>?_)
 ·obtain⟨a,n,p,rfl,_⟩:=h
  rfl
 ·obtain⟨a,n,p,rfl,ha,h16,k⟩:=h
  have nd:=Zdp.nd;refine⟨_,Zc (Zk (i:=2) nd rfl Zq) (Zc (Z6 PassesOwn.never rfl (Zd0 rfl G.rev (Za (pv 1) Zd)) (Zo (i:=3) nd rfl)
   (Zh (Zk (i:=2) nd rfl (ZD Z5 (ZD DL (pv 2) (pv 0)) (pv 3))))) (Zh (Zn (pv 2)))),?_⟩;refine⟨_,rfl,a,_,rfl,SqL.of ha,Zj0 (K:=K) (a:=a) (xs:=nv p) (λi σ H'=>∃v3:Option V,σ=[some (.int (n:Int)),some (.ref a),some (.int ((RM.Zr n (p.drop (p.length-i)):Nat):Int)),v3]/\Same H H')
   ⟨none,by rw[Nat.sub_zero,List.drop_length];rfl,Same.refl H⟩ (λi σ H' _ ⟨_,_,sm⟩=>SqL.of (sm _ _ ha)) ?_ ?_⟩
  ·rintro i x σ H' hi hlt ⟨v3,rfl,sm⟩
   rw[Zf] at hi hlt;obtain⟨y,hy,rfl⟩:=JA hi;refine⟨_,rfl,_,rfl,_,_,rfl,rfl,.inr ⟨by omega,by omega⟩,_,rfl,_,_,rfl,rfl,some (.int (y:Int)),?_,sm⟩;have e:p.drop (p.length-(i+1))=y::p.drop (p.length-i):=by
    have hj:p.length-(i+1)<p.length:=by omega
    rw[drop_eq_getElem_cons hj];congr 1
    ·rw[show p.length-1-i=p.length-(i+1) by omega,getElem?_eq_getElem hj] at hy
     exact Option.some.inj hy
    ·congr 1
     omega
   rw[e];show _=[_,_,some (V.int ((y+n*RM.Zr n (p.drop (p.length-i)):Nat):Int)),_];rw[Int.natCast_add,Int.natCast_mul,Int.add_comm,Int.mul_comm];rfl
  ·rintro σ H' ⟨v3,rfl,sm⟩
   refine⟨_,rfl,?_⟩;rw[Zf,Nat.sub_self,List.drop_zero];exact k H' sm
inductive Vz:List V->Hp->VK->XK->Prop|mk {vs H Q E} (n c x:Nat):vs=[.int (n:Int),.int (c:Int),.int (x:Int)]->0<n->n<=16->c<=1000->RL H Q (nv (Rotor.stand n c x))->Vz vs H Q E
def Zek:Zl ["n", "how_many", "number", "stands", "wheel"] ["n", "how_many", "number"] (Ze (top 22)):=fsc
def Zg5(G:Gw mg)(F:At K mg "stands_of" (top 22) ["n", "how_many", "number"]):Def P w K mg base CX0 1 "stands_of" ["n", "how_many", "number"] Vz:=by
 refine F.ok Zek (λvs H Q E h=>?_) (λf _ A _ s H vs Q E _ h=>?_)
 ·obtain⟨n,c,x,rfl,_⟩:=h
  rfl
 ·obtain⟨n,c,x,rfl,n0,h16,hc,k⟩:=h
  have nd:=Zek.nd;refine⟨_,Zc (Zk (i:=3) nd rfl (Zx Zd)) (Zc (Z6 PassesOwn.never rfl (JH rfl G.range (Za (pv 1) Zd)) (Zo (i:=4) nd rfl)
   (Zc (Z3 (J4 PySem.F.plainAttrs_list PySem.F.slot_list_append PySem.F.type_list_append JO (pv 3) (Za (ZD US (pv 2) (pv 0)) Zd)))
    (Zh (Zdh (i:=2) nd rfl (Or.inl rfl) (pv 0) Zhr)))) (Zh (Zn (pv 3)))),?_⟩;refine⟨Zs (by decide),λq hq=>⟨_,rfl,_,rfl,by omega,by omega,JY (lo:=0) (n:=c) (λi σ H'=>∃v4:Option V,σ=[some (.int (n:Int)),some (.int (c:Int)),some (.int ((x / n^i:Nat):Int)),some (.ref q),v4]/\Same H H'/\H' q=some (.lst (nv (Rotor.stand n i x))))
   ⟨none,by rw[Nat.pow_zero,Nat.div_one];rfl,Zg hq,Zb⟩ ?_ ?_⟩⟩
  ·rintro i σ H' hi ⟨v4,rfl,sm,hQ⟩
   refine⟨_,rfl,.inl ⟨rfl,_,SqL.of hQ⟩,_,rfl,_,rfl,_,_,rfl,rfl,by omega,q,_,_,rfl,rfl,hQ,?_,?_⟩
   ·rw[Zf,RM.J9]
    exact ZF (by omega)
   refine⟨_,rfl,_,rfl,_,_,rfl,rfl,⟨by omega,by omega⟩,some (.int (0+(i:Int))),?_,Same.upd sm hq,?_⟩
   ·rw[Nat.pow_succ,<- Nat.div_div_eq_div_mul,Int.natCast_ediv (x / n^i) n]
    rfl
   ·rw[Zb,RM.Zba,JK,Int.natCast_emod]
  ·rintro σ H' ⟨v4,rfl,sm,hQ⟩
   exact⟨_,rfl,k H' q sm hq hQ⟩
end
def SameBut(x:Addr)(H H':Hp):Prop:=∀(b:Addr) (u:HO),b≠x->H b=some u->H' b=some u
def SameBut.of{x:Addr}{H H':Hp}(s:Same H H'):SameBut x H H':=λb u _ e=>s b u e
def SameBut.refl(x:Addr)(H:Hp):SameBut x H H:=λ_ _ _ e=>e
theorem SameBut.upd{x:Addr}{H H':Hp}{o:HO}(s:SameBut x H H'):SameBut x H (L2.upd H' x o):=λb u n e=>by
 rw[Zj n];exact s b u n e
def SameBut.then{x:Addr}{H H' H'':Hp}(s:SameBut x H H')(t:Same H' H''):SameBut x H H'':=λb u n e=>t b u (s b u n e)
def SameBut.upd'{x a:Addr}{H H':Hp}{o:HO}(s:SameBut x H H')(h:H a=none):SameBut x H (L2.upd H' a o):=λb u n e=>by
 rw[Zj (Zi e h)];exact s b u n e
def SameBut.free{x r:Addr}{H H':Hp}(s:SameBut x H H')(n:r≠x)(h:H' r=none):H r=none:=by
 cases e:H r with
 |none=>rfl
 |some u=>rw[s r u n e] at h;cases h
def YQ{H:Hp}{x r:Addr}{o:HO}(h:H x=some o)(h':H r=none):r≠x:=λe=>by
 rw[e,h] at h';cases h'
def new(H H':Hp):Hp:=λb=>match H b with
 |none=>H' b
 |some _=>none
def Yk{H H':Hp}{b:Addr}{o:HO}(h:H b=none)(h':H' b=some o):new H H' b=some o:=by
 unfold new;rw[h];exact h'
def VI{H H':Hp}{b:Addr}{o:HO}(h:new H H' b=some o):H b=none/\H' b=some o:=by
 unfold new at h;cases e:H b with
 |none=>rw[e] at h;exact⟨rfl,h⟩
 |some u=>rw[e] at h;cases h
def Zkd{H H':Hp}:Same (new H H') H':=λb u e=>(VI e).2
def ZhR{H H1 H':Hp}(s:Same H H1):Same (new H1 H') (new H H'):=λb u e=>Yk (s.free (VI e).1) (VI e).2
def Dq{H H' H'':Hp}(s:Same H' H''):Same (new H H') (new H H''):=λb u e=>Yk (VI e).1 (s _ _ (VI e).2)
def Zgn{H H':Hp}{p:Addr}{o o':HO}(h:H p=some o):Same (new H H') (new H (L2.upd H' p o')):=λb u e=>by
 obtain⟨e1,e2⟩:=VI e;refine Yk e1 ?_;rw[Zj (YQ h e1)];exact e2
def SameBut.made{x dx:Addr}{o o':HO}{H H':Hp}(s:SameBut x (L2.upd (L2.upd H dx o) x o') H')(hx:H x=none)(hdx:H dx=none):Same H H':=λb u e=>by
 have n1:b≠x:=Zi e hx;have n2:b≠dx:=Zi e hdx;refine s b u n1 ?_;rw[Zj n1,Zj n2];exact e
def V3{α:Type}{l:List α}(k:Nat)(h:l.length=k)(hk:k<1000:=by decide):l.length<1000:=h▸hk
def Zja{n r s:Nat}(h:r<n):(((s:Int)-(r:Int))%(n:Int)).toNat=(s+(n-r))%n:=by
 have e:((s:Int)-(r:Int))%(n:Int)=(((s+(n-r):Nat):Int))%(n:Int):=by
  rw[show(((s+(n-r):Nat):Int))=((s:Int)-(r:Int))+(n:Int) by omega,Int.add_emod_right]
 rw[e,<- Int.natCast_emod,Int.toNat_natCast]
def VE(a:List Addr)(x:Addr):rv (a++[x])=rv a++[V.ref x]:=map_append ..
def Vp{α:Type}{l:List α}{x y:α}{i:Nat}(h:(l++[x])[i]? = some y):l[i]? = some y\/(i=l.length/\y=x):=by
 rcases Nat.lt_or_ge i l.length with hi|hi
 ·rw[getElem?_append_left hi] at h
  exact .inl h
 ·rw[getElem?_append_right hi] at h
  have:i-l.length=0:=by
   rcases Nat.eq_zero_or_pos (i-l.length) with z|z
   ·exact z
   ·rw[getElem?_eq_none (by simp;omega)] at h
    cases h
  rw[this] at h;exact .inr ⟨by omega,(Option.some.inj h).symm⟩
section
variable{P:Program}{w:World}{K:Frag}{mg:Str->Option Value}{base:Heap}{W M L:Addr}
inductive Zda(W:Addr):List V->Hp->VK->XK->Prop|mk {vs H Q E} (x aw dx:Addr) (n:Nat) (wh:Rotor.Wheel):vs=[.ref x,.int (n:Int),.int (wh.kind:Int),.int (wh.ring:Int),.int (wh.notches:Int),.ref aw]->H x=some (.ins W dx [])->H aw=some (.lst (nv (RM.pad n wh.wires)))->2<=n->n<=16->wh.ring<n->RM.Wd n wh.wires->(∀(H':Hp) (ab:Addr) (rs:List Addr),SameBut x H H'->H' x=some (.ins W dx (DE n wh aw ab))->H ab=none->H' ab=some (.lst (rv rs))->rs.length=n->(∀(i:Nat) (r:Addr),rs[i]? = some r->H r=none/\H' r=some (.lst (nv (RM.met n wh i))))->Q .non H')->Zda W vs H Q E
def ZcL:Zl ["self", "n", "kind", "ring", "notches", "wires", "stand"] ["self", "n", "kind", "ring", "notches", "wires"] (Ze (Ye 17 0)):=fsc
def ZhM(G:Gw mg)(T:Tys K W M L)(D1:Def P w K mg base CX0 1 "turned" ["n", "k", "a"] UA)(F:CAt K mg "Wheel" W "Wheel.__init__" (Ye 17 0) ["self", "n", "kind", "ring", "notches", "wires"]) :
  ZdQ P w K mg base CX0 2 "Wheel" W ["self", "n", "kind", "ring", "notches", "wires"] (Zda W):=by
 refine F.ok ZcL (λvs H Q E h=>?_) (λf _ A _ s H vs Q E hr h=>?_)
 ·obtain⟨x,aw,dx,n,wh,rfl,_⟩:=h
  rfl
 ·obtain⟨x,aw,dx,n,wh,rfl,hx,hw,h2,h16,hrg,wd,k⟩:=h
  refine⟨_,Zc (Jm (pv 0) (pv 2) rfl) (Zc (Jm (pv 0) (pv 3) rfl) (Zc (Jm (pv 0) (pv 4) rfl) (Zc (Jm (pv 0) (pv 5) rfl)
   (Zh (Jm (pv 0) (YA rfl ZcL.nd (JH rfl G.range (Za (pv 1) Zd)) (own:=[("stand",6)]) (ZP (N:=["self", "n", "kind", "ring", "notches", "wires", "stand"]) (sc:=Ze (Ye 17 0)) (by decide +kernel))
    (λ_ _ _ _ _=>Zo (i:=6) ZcL.nd rfl) (λ_ _ _ _ _=>Jf)
    (λ_ _ _ _ _=>pc D1 hr rfl Zm (Za (pv 1) (Za (ZD Uw (pv 6) (pv 3)) (Za (pv 5) Zd))))) rfl))))),?_⟩;have hwx:aw≠x:=λe=>by rw[e,hx] at hw;cases hw
  refine⟨_,rfl,_,rfl,x,_,_,_,rfl,hx,T.w,T.wn _ (by decide),by decide,?_⟩;refine⟨_,rfl,_,rfl,x,_,_,_,rfl,Zb,T.w,T.wn _ (by decide),V3 1 rfl,?_⟩;refine⟨_,rfl,_,rfl,x,_,_,_,rfl,Zb,T.w,T.wn _ (by decide),V3 2 rfl,?_⟩;refine⟨_,rfl,_,rfl,x,_,_,_,rfl,Zb,T.w,T.wn _ (by decide),V3 3 rfl,?_⟩;rw[Jj,Jj,Jj];have s0:SameBut x H (upd H x (.ins W dx [("kind",.int (wh.kind:Int)),("ring",.int (wh.ring:Int)),("notches",.int (wh.notches:Int)),("wires",.ref aw)])):=(SameBut.refl x H).upd;refine⟨_,rfl,_,rfl,by omega,by omega,λD hD=>?_⟩;have nD:H D=none:=by
   cases e:H D with
   |none=>rfl
   |some u=>
    by_cases hDx:D=x
    ·rw[hDx,Zb] at hD;cases hD
    ·rw[Zj hDx,e] at hD;cases hD
  refine ZdN (lo:=0) (n:=n) (λi H'=>SameBut x H H'/\H' x=some (.ins W dx [("kind",.int (wh.kind:Int)),("ring",.int (wh.ring:Int)),("notches",.int (wh.notches:Int)),("wires",.ref aw)]) /\
   D≠x/\∃rs:List Addr,rs.length=i/\H' D=some (.lst (rv rs))/\∀(j:Nat) (r:Addr),rs[j]? = some r->H r=none/\r≠D/\H' r=some (.lst (nv (RM.met n wh j)))) ?_ ?_ ?_
  ·have hDx:D≠x:=λe=>by rw[e,Zb] at hD;cases hD
   exact⟨s0.then (Zg hD),by rw[Zj (Ne.symm hDx),Zb];rfl,hDx,[],rfl,Zb,λj r h=>by simp at h⟩
  ·rintro i H' hi ⟨sm,hX,hDx,rs,rl,hD',hR⟩
   refine⟨rfl,lcY ⟨_,rfl,_,rfl,_,rfl,_,_,rfl,rfl,_,rfl,aw,n,_,_,rfl,sm _ _ hwx hw,h2,h16,wd.isP,λH2 p s2 n2 h2'=>?_⟩⟩;have hxD:x≠D:=Ne.symm hDx;refine⟨_,s2 _ _ hD',by rw[Zw];exact ZF (by omega),(sm.then s2).upd' nD,by rw[Zj hxD];exact s2 _ _ hX,hDx,rs++[p],by rw[length_append,rl];rfl,by rw[Zb,VE],λj r hj=>?_⟩;rcases Vp hj with hj|⟨rfl,rfl⟩
   ·obtain⟨r1,r2,r3⟩:=hR j r hj
    refine⟨r1,r2,?_⟩;rw[Zj r2];exact s2 _ _ r3
   ·have e1:r≠x:=λe=>by rw[e,hX] at n2;cases n2
    have e2:r≠D:=λe=>by rw[e,hD'] at n2;cases n2
    refine⟨sm.free e1 n2,e2,?_⟩;rw[Zj e2,h2',rl];unfold RM.met RM.ZdB;rw[<- Zja hrg];rw[show((0:Int)+(i:Int))=(i:Int) by omega]
  ·rintro H' ⟨sm,hX,hDx,rs,rl,hD',hR⟩
   refine⟨_,rfl,x,_,_,_,rfl,hX,T.w,T.wn _ (by decide),V3 4 rfl,?_⟩;refine k _ D rs sm.upd Zb nD (by rw[Zj hDx];exact hD') rl λi r hr=>⟨(hR i r hr).1,?_⟩;rw[Zj (YQ hx (hR i r hr).1)];exact(hR i r hr).2.2
end
def ZbJ(a b:List Bool):bv (a++b)=bv a++bv b:=map_append ..
def ZmZ{l:List Bool}{i:Nat}{v:V}(h:(bv l)[i]? = some v):∃x,l[i]? = some x/\v=V.bl x:=by
 unfold bv at h;rw[getElem?_map] at h;cases e:l[i]? with
 |none=>rw[e] at h;cases h
 |some x=>rw[e] at h;exact⟨x,rfl,(Option.some.inj h).symm⟩
def J8{α:Type}(f:Nat->List α)(s:Nat):(List.range (s+1)).flatMap f=(List.range s).flatMap f++f s:=by
 rw[range_succ,flatMap_append];simp
section
variable{P:Program}{w:World}{K:Frag}{mg:Str->Option Value}{base:Heap}{W M L:Addr}
inductive ZiA(W:Addr):List V->Hp->VK->XK->Prop|mk {vs H Q E} (a:Addr) (n:Nat) (as:List Addr) (ws:List Rotor.Wheel):vs=[.int (n:Int),.ref a]->H a=some (.lst (rv as))->WheelsAt W n H as ws->0<n->n<=16->ws.length<=4->RL H Q (nv (RM.fol n ws))->ZiA W vs H Q E
def Zks:Zl ["n", "wheels", "numbers", "nudged", "wheel", "so_far", "grown", "grown_nudged", "stand", "alone", "pushed", "number", "nudge"] ["n", "wheels"] (Ze (top 23)):=fsc
def Zl8(G:Gw mg)(D1:Def P w K mg base CX0 1 "has_notch" ["wheel", "letter"] (Dr W))(D2:Def P w K mg base CX0 3 "stand_after" ["n", "wheel", "stand", "nudged"] (Zcq W))(F:At K mg "followers" (top 23) ["n", "wheels"]) :
  Def P w K mg base CX0 4 "followers" ["n", "wheels"] (ZiA W):=by
 refine F.ok Zks (λvs H Q E h=>?_) (λf _ A _ s H vs Q E hr h=>?_)
 ·obtain⟨a,n,as,ws,rfl,_⟩:=h
  rfl
 ·obtain⟨a,n,as,ws,rfl,ha,hw,n0,h16,h4,k⟩:=h
  have nd:=Zks.nd;have hr1:=hr.mono (show 1<=3 by decide);refine⟨_,Zc (Zk (i:=2) nd rfl (Zx (Za Zq Zd))) (Zc (Zk (i:=3) nd rfl (Zx (Za U2 Zd)))
   (Zc (Z6 PassesOwn.never rfl (ZR (pv 1)) (Zo (i:=4) nd rfl)
    (Zc (Zk (i:=5) nd rfl (Zv Zp rfl G.len PySem.boot_len (Za (pv 2) Zd)))
    (Zc (Zk (i:=6) nd rfl (Zx Zd)) (Zc (Zk (i:=7) nd rfl (Zx Zd))
    (Zc (Z6 PassesOwn.never rfl (JH rfl G.range (Za (pv 0) Zd)) (Zo (i:=8) nd rfl)
     (Zc (Zk (i:=9) nd rfl (ZD DL (pv 5) (pc D2 hr rfl Zm (Za (pv 0) (Za (pv 4) (Za (pv 8) (Za U2 Zd)))))))
     (Zc (Zk (i:=10) nd rfl (ZD DL (pv 5) (pc D2 hr rfl Zm (Za (pv 0) (Za (pv 4) (Za (pv 8) (Za U2 Zd)))))))
     (Zc (Z3 (J4 PySem.F.plainAttrs_list PySem.F.slot_list_extend PySem.F.type_list_extend Jw (pv 6) (Za (YA rfl nd (Za6 rfl G.zip (Za (pv 2) (Za (pv 3) Zd))) (own:=[("number",11),("nudge",12)]) (g:=Zbx K 2 (JB (Js 11) (JB (Js 12) ZbA)))
       (ZP (N:=["n", "wheels", "numbers", "nudged", "wheel", "so_far", "grown", "grown_nudged", "stand", "alone", "pushed", "number", "nudge"]) (sc:=Ze (top 23)) (by decide +kernel))
       (λ_ _ _ _ _=>Yl rfl (ZA (Zo (i:=11) nd rfl) (ZA (Zo (i:=12) nd rfl) JI))) (λ_ _ _ _ _=>Jf)
       (λ_ _ _ _ _=>ZD Z5 (pv 11) (YV (Z1 (pv 12)) (pv 10) (pv 9)))) Zd)))
     (Zh (Z3 (J4 PySem.F.plainAttrs_list PySem.F.slot_list_extend PySem.F.type_list_extend Jw (pv 7) (Za (ZD Zbc (Zx (Za (pc D1 hr1 rfl Zm (Za (pv 4) (Za (pv 8) Zd))) Zd)) (pv 5)) Zd))))))))
    (Zc (Zk (i:=2) nd rfl (pv 6)) (Zh (Zk (i:=3) nd rfl (pv 7)))))))))
   (Zh (Zn (pv 2))))),?_⟩;refine⟨Zs (by decide),λp hp=>⟨Zs (by decide),λq hq=>⟨_,rfl,a,rfl,⟨_,SqL.of (((Zg hp).trans (Zg hq)) _ _ ha)⟩,?_⟩⟩⟩;have hpq:p≠q:=Zi Zb hq;refine JD (K:=K) (a:=a) (xs:=rv as) (λi σ H'=>∃(pN pB:Addr) (v4 v5 v6 v7 v8 v9 v10 v11 v12:Option V),σ=[some (.int (n:Int)),some (.ref a),some (.ref pN),some (.ref pB),v4,v5,v6,v7,v8,v9,v10,v11,v12]/\Same H H'/\H pN=none /\
    H' pN=some (.lst (nv (RM.DX n (ws.take i)).1))/\H' pB=some (.lst (bv (RM.DX n (ws.take i)).2)))
   ⟨p,q,none,none,none,none,none,none,none,none,none,rfl,(Zg hp).trans (Zg hq),hp,by rw[Zj hpq,Zb];rfl,Zb⟩ (λi σ H' _ ⟨_,_,_,_,_,_,_,_,_,_,_,_,sm,_⟩=>SqL.of (sm _ _ ha)) ?_ ?_
  ·rintro i x σ H' hi ⟨pN,pB,v4,v5,v6,v7,v8,v9,v10,v11,v12,rfl,sm,nN,hN,hB⟩
   obtain⟨x,hx,rfl⟩:=YO hi;obtain⟨wh,ewh,hwh⟩:=hw.get hx;have hiw:i<ws.length:=(List.getElem?_eq_some_iff.mp ewh).1;have fs:=RM.ZaQ n (ws.take i);have ln:(ws.take i).length=i:=by rw[length_take];omega
   have l1:=fs.l1;have l2:=fs.l2;rw[ln] at l1 l2;have b1:n^i<=4096:=Nat.le_trans (Nat.pow_le_pow_left h16 _) (Nat.le_trans (Nat.pow_le_pow_right (by decide) (show i<=3 by omega)) (by decide));generalize hq0:RM.DX n (ws.take i)=q0 at l1 l2 hN hB;refine⟨_,rfl,pN,_,rfl,.inl (SqL.of hN),Zs (by decide),λg hg=>⟨Zs (by decide),λgb hgb=>?_⟩⟩;have sg:=(Zg (o:=.lst []) hg).trans (Zg (o:=.lst []) hgb);have ng:H g=none:=sm.free hg;have ngb:H gb=none:=(sm.trans (Zg (o:=.lst []) hg)).free hgb;have hggb:g≠gb:=Zi Zb hgb;have ngb':H' gb=none:=(Zg (o:=.lst []) hg).free hgb;refine⟨_,rfl,_,rfl,by omega,by omega,JY (lo:=0) (n:=n) (λst σ H2=>∃(v8 v9 v10 v11 v12:Option V),σ=[some (.int (n:Int)),some (.ref a),some (.ref pN),some (.ref pB),some (.ref x),some (.int ((q0.1.length:Nat):Int)),some (.ref g),some (.ref gb),v8,v9,v10,v11,v12]/\Same H' H2 /\
     H2 g=some (.lst (nv ((List.range st).flatMap λs=>(q0.1.zip q0.2).map λ(x:Nat×Bool)=>x.1+(if x.2=true then q0.1.length*RM.after n wh s true else q0.1.length*RM.after n wh s false)))) /\
     H2 gb=some (.lst (bv ((List.range st).flatMap λs=>List.replicate q0.1.length (RM.ZT wh s)))))
    ⟨v8,v9,v10,v11,v12,by rw[Zf];rfl,sg,by rw[Zj hggb,Zb];rfl,Zb⟩ ?_ ?_⟩
   ·rintro st σ H2 hst ⟨v8,v9,v10,v11,v12,rfl,sm2,hG,hGB⟩
    have ez:(0:Int)+(st:Int)=(st:Int):=by omega
    rw[ez];have af:∀b,RM.after n wh st b<n:=λb=>RM.ZdX wh b hst;refine⟨_,rfl,_,rfl,_,rfl,_,rfl,x,n,st,false,wh,rfl,n0,(hwh.same sm).same sm2,λH3 s3=>?_⟩;refine⟨_,_,rfl,rfl,.inl ⟨by omega,by omega⟩,?_⟩;refine⟨_,rfl,_,rfl,_,rfl,_,rfl,x,n,st,true,wh,rfl,n0,((hwh.same sm).same sm2).same s3,λH4 s4=>?_⟩;refine⟨_,_,rfl,rfl,.inl ⟨by omega,by omega⟩,?_⟩;have s5:=(sm2.trans s3).trans s4;have hG4:=(s3.trans s4) _ _ hG;refine⟨_,rfl,.inl ⟨rfl,_,SqL.of hG4⟩,_,rfl,_,rfl,pN,pB,_,_,rfl,SqL.of (s5 _ _ hN),SqL.of (s5 _ _ hB),λD hD=>?_⟩;have hlz:(bv q0.2).length=(nv q0.1).length:=by rw[Jv,Zf,l1,l2]
    have ngD:g≠D:=Zi hG4 hD;have hGB4:=(s3.trans s4) _ _ hGB;have ngbD:gb≠D:=Zi hGB4 hD;refine ZeV (K:=K) (a:=pN) (b:=pB) (xs:=nv q0.1) (ys:=bv q0.2) hlz (λj H5=>Same H4 H5/\H5 D=some (.lst (nv (((q0.1.zip q0.2).take j).map λ(x:Nat×Bool)=>x.1+(if x.2=true then q0.1.length*RM.after n wh st true else q0.1.length*RM.after n wh st false)))))
     ⟨Zg hD,Zb⟩ (λj H5 _ h=>⟨SqL.of (h.1 _ _ (s5 _ _ hN)),SqL.of (h.1 _ _ (s5 _ _ hB))⟩) ?_ ?_
    ·rintro j y z H5 T hj hz hT ⟨sm5,hD5⟩
     obtain⟨y,hy,rfl⟩:=JA hj;obtain⟨z,hz',rfl⟩:=ZmZ hz;have hDT:D≠T:=Zi hD5 hT;have hjl:j<q0.1.length:=(List.getElem?_eq_some_iff.mp hy).1;refine⟨T,_,rfl,SqT.of Zb,rfl,_,_,rfl,_,_,rfl,rfl,rfl,lcY ⟨_,rfl,_,rfl,_,rfl,?_⟩⟩;have fin:∀b:Nat,b=(if z=true then q0.1.length*RM.after n wh st true else q0.1.length*RM.after n wh st false)->∃(i jj:Int),V.int (y:Int)=V.int i/\V.int (b:Int)=V.int jj/\∃acc,upd H5 T (.tup [V.int (y:Int),V.bl z]) D=some (.lst acc)/\acc.length<sizeLine /\
       (Same H4 (upd (upd H5 T (.tup [V.int (y:Int),V.bl z])) D (.lst (acc++[V.int (i+jj)])))/\(upd (upd H5 T (.tup [V.int (y:Int),V.bl z])) D (.lst (acc++[V.int (i+jj)]))) D=some (.lst (nv (((q0.1.zip q0.2).take (j+1)).map λ(x:Nat×Bool)=>x.1+(if x.2=true then q0.1.length*RM.after n wh st true else q0.1.length*RM.after n wh st false))))):=by
      intro b hb;refine⟨y,b,rfl,rfl,_,by rw[Zj hDT];exact hD5,?_,Same.upd (Same.upd sm5 (sm5.free hT)) hD,?_⟩
      ·rw[Zf,length_map,length_take]
       exact ZF (by omega)
      ·rw[Zb,ZN ((List.getElem?_zip_eq_some (z:=(y,z))).mpr ⟨hy,hz'⟩),JK]
       show _=some (HO.lst (_++[V.int ((y+(if z=true then q0.1.length*RM.after n wh st true else q0.1.length*RM.after n wh st false):Nat):Int)]));rw[<- hb,Int.natCast_add]
     cases z with
     |true=>
      refine JT ⟨_,rfl,?_⟩;have:=fin (q0.1.length*RM.after n wh st true) rfl;rw[Int.natCast_mul] at this;exact let ⟨a,b,c,d,e⟩:=this;⟨a,b,c,d,e⟩
     |false=>
      refine Yh ⟨_,rfl,?_⟩;have:=fin (q0.1.length*RM.after n wh st false) rfl;rw[Int.natCast_mul] at this;exact let ⟨a,b,c,d,e⟩:=this;⟨a,b,c,d,e⟩
    ·rintro H5 ⟨sm5,hD5⟩
     rw[Zf,take_of_length_le (by rw[length_zip];omega)] at hD5;have fl:∀(c:Nat),c<=n->((List.range c).flatMap λs=>(q0.1.zip q0.2).map λ(x:Nat×Bool)=>x.1+(if x.2=true then q0.1.length*RM.after n wh s true else q0.1.length*RM.after n wh s false)).length<=65536:=λc hc=>by
      rw[RM.Z2 (L:=n^i) c (λs _=>by rw[length_map,length_zip];omega)];exact Nat.le_trans (Nat.mul_le_mul (show c<=16 by omega) b1) (by decide)
     have fl2:∀(c:Nat),c<=n->((List.range c).flatMap λs=>List.replicate q0.1.length (RM.ZT wh s)).length<=65536:=λc hc=>by
      rw[RM.Z2 (L:=n^i) c (λs _=>by rw[length_replicate];omega)];exact Nat.le_trans (Nat.mul_le_mul (show c<=16 by omega) b1) (by decide)
     refine⟨g,D,_,_,rfl,rfl,sm5 _ _ hG4,hD5,?_,?_⟩
     ·rw[Zf,Zf,length_map,length_zip]
      have:=fl st (by omega);exact Zs (by omega)
     rw[<- ZX,<- J8];have hgD:H' g=none:=hg;have s6:Same H' (upd H5 g (.lst (nv ((List.range (st+1)).flatMap λs=>(q0.1.zip q0.2).map λ(x:Nat×Bool)=>x.1+(if x.2=true then q0.1.length*RM.after n wh s true else q0.1.length*RM.after n wh s false))))):=Same.upd (s5.trans sm5) hg;have hGB6:(upd H5 g (.lst (nv ((List.range (st+1)).flatMap λs=>(q0.1.zip q0.2).map λ(x:Nat×Bool)=>x.1+(if x.2=true then q0.1.length*RM.after n wh s true else q0.1.length*RM.after n wh s false))))) gb=some (.lst (bv ((List.range st).flatMap λs=>List.replicate q0.1.length (RM.ZT wh s)))):=by
      rw[Zj (Ne.symm hggb)];exact sm5 _ _ hGB4
     refine⟨_,rfl,.inl ⟨rfl,_,SqL.of hGB6⟩,_,rfl,_,rfl,x,n,st,wh,rfl,(hwh.same sm).same s6,λH7 s7=>⟨Zs (show 1<=1000000 by decide),λo ho=>?_⟩⟩;refine⟨_,rfl,o,_,_,rfl,rfl,Zb,by omega,by omega,?_,λo2 ho2=>?_⟩
     ·show 1*((q0.1.length:Nat):Int).toNat<=sizeLine
      exact Zs (by omega)
     rw[Int.toNat_natCast,ZhL];have s8:=(s7.trans (Zg (o:=.lst [V.bl (RM.ZT wh st)]) ho)).trans (Zg (o:=.lst (bv (List.replicate q0.1.length (RM.ZT wh st)))) ho2);refine⟨gb,o2,_,_,rfl,rfl,s8 _ _ hGB6,Zb,?_,?_⟩
     ·rw[Jv,Jv,length_replicate]
      have:=fl2 st (by omega);exact Zs (by omega)
     rw[<- ZbJ,<- J8];refine⟨_,_,_,_,_,rfl,Same.upd (s6.trans s8) ngb',?_,Zb⟩;rw[Zj hggb];exact s8 _ _ Zb
   ·rintro σ H2 ⟨v8,v9,v10,v11,v12,rfl,sm2,hG,hGB⟩
    refine⟨_,rfl,_,rfl,g,gb,_,_,_,_,_,_,_,_,_,rfl,sm.trans sm2,ng,?_,?_⟩
    ·rw[hG,RM.ZaH n ws ewh,hq0]
     rfl
    ·rw[hGB,RM.ZaH n ws ewh,hq0]
     rfl
  ·rintro σ H' ⟨pN,pB,v4,v5,v6,v7,v8,v9,v10,v11,v12,rfl,sm,nN,hN,hB⟩
   rw[Zw,hw.len,take_length] at hN;exact⟨_,rfl,k H' pN sm nN hN⟩
end
def YY(m:Rotor.Machine)(num:Nat)(af al aw aF:Addr):List (Str×V):=
 [("letters",.int (m.n:Int)),("sends_back",.bl m.mirror),("first_board",.ref af),("last_board",.ref al),("wheels",.ref aw),("number",.int (num:Int)),("followers",.ref aF)]
structure Vb(W:Addr)(H:Hp)(m:Rotor.Machine)(af al aw aF:Addr)(as:List Addr):Prop where
 first:H af=some (.lst (nv (RM.pad m.n m.first)))
 last:H al=some (.lst (nv (RM.pad m.n m.last)))
 wheels:H aw=some (.lst (rv as))
 ws:WheelsAt W m.n H as m.wheels
 fol:H aF=some (.lst (nv (RM.fol m.n m.wheels)))
theorem Vb.same{W:Addr}{H H':Hp}{m:Rotor.Machine}{af al aw aF:Addr}{as:List Addr}(h:Vb W H m af al aw aF as)(s:Same H H'):Vb W H' m af al aw aF as:=
 ⟨s _ _ h.first,s _ _ h.last,s _ _ h.wheels,h.ws.same s,s _ _ h.fol⟩
def JE{H:Hp}{a b:Addr}{o o':HO}(h:H a=some o)(h':H b=some o')(n:o≠o'):a≠b:=λe=>by
 rw[e,h'] at h;exact n (Option.some.inj h).symm
def JM.but{W:Addr}{n:Nat}{H H':Hp}{a x:Addr}{w:Rotor.Wheel}{o:HO}(h:JM W n H a w)(s:SameBut x H H')(hx:H x=some o)(n1:∀l,o ≠ .lst l)(n2:∀dx aw ab,o ≠ .ins W dx (DE n w aw ab)):JM W n H' a w:=by
 obtain⟨dx,aw,ab,rs,h1,h2,h3,h4,h5⟩:=h;exact⟨dx,aw,ab,rs,s _ _ (JE h1 hx (Ne.symm (n2 _ _ _))) h1,s _ _ (JE h2 hx (Ne.symm (n1 _))) h2,s _ _ (JE h3 hx (Ne.symm (n1 _))) h3,h4,λi r hr=>s _ _ (JE (h5 i r hr) hx (Ne.symm (n1 _))) (h5 i r hr)⟩
theorem Vb.but{W x:Addr}{H H':Hp}{m:Rotor.Machine}{af al aw aF:Addr}{as:List Addr}{o:HO}(h:Vb W H m af al aw aF as)(s:SameBut x H H')(hx:H x=some o)(n1:∀l,o ≠ .lst l)(n2:∀n w dx aw ab,o ≠ .ins W dx (DE n w aw ab)):Vb W H' m af al aw aF as:=
 ⟨s _ _ (JE h.first hx (Ne.symm (n1 _))) h.first,s _ _ (JE h.last hx (Ne.symm (n1 _))) h.last,s _ _ (JE h.wheels hx (Ne.symm (n1 _))) h.wheels,
  ⟨h.ws.len,λi a w h1 h2=>(h.ws.at_ i a w h1 h2).but s hx n1 (λ_ _ _=>n2 _ _ _ _ _)⟩,s _ _ (JE h.fol hx (Ne.symm (n1 _))) h.fol⟩
def ZY(W M:Addr)(H:Hp)(a:Addr)(m:Rotor.Machine)(num:Nat):Prop:=
 ∃(dx af al aw aF:Addr) (as:List Addr),H a=some (.ins M dx (YY m num af al aw aF))/\Vb W H m af al aw aF as
theorem ZY.same{W M:Addr}{H H':Hp}{a:Addr}{m:Rotor.Machine}{num:Nat}(h:ZY W M H a m num)(s:Same H H'):ZY W M H' a m num:=by
 obtain⟨dx,af,al,aw,aF,as,h1,h2⟩:=h;exact⟨dx,af,al,aw,aF,as,s _ _ h1,h2.same s⟩
def Zbz{W M:Addr}{m:Rotor.Machine}{num:Nat}{dx0 af al aw0 aF:Addr}(n:Nat)(w:Rotor.Wheel)(dx aw ab:Addr):HO.ins M dx0 (YY m num af al aw0 aF) ≠ .ins W dx (DE n w aw ab):=λe=>by
 injection e with _ _ e
 have e:(7:Nat)=5:=congrArg List.length e;omega
def ZY.put{W M:Addr}{H H':Hp}{a dx af al aw aF:Addr}{as:List Addr}{m:Rotor.Machine}{num:Nat}(h1:H a=some (.ins M dx (YY m num af al aw aF)))(h2:Vb W H m af al aw aF as)(num':Nat)(s:SameBut a H H')(e:H' a=some (.ins M dx (YY m num' af al aw aF))):ZY W M H' a m num':=
 ⟨dx,af,al,aw,aF,as,e,h2.but s h1 (λ_ h=>nomatch h) λ_ _ _ _ _=>Zbz _ _ _ _ _⟩
structure Gm(mg:Str->Option Value):Prop extends Gw mg where
 b0:∃t,mg "BYTE_OF_LETTER_0" = some (.int 65 t)
def Zh4:nv (List.range' 0 16)=nv Rotor.still:=by
 rw[RM.Zd4,range_eq_range']
section
variable{P:Program}{w:World}{K:Frag}{mg:Str->Option Value}{base:Heap}{W M L:Addr}
inductive ZeR(W M:Addr):List V->Hp->VK->XK->Prop|mk {vs H Q E} (x dx af al aw:Addr) (as:List Addr) (num:Nat) (m:Rotor.Machine):vs=[.ref x,.int (m.n:Int),.bl m.mirror,.ref af,.ref al,.ref aw,.int (num:Int)]->H x=some (.ins M dx [])->H af=some (.lst (nv (RM.pad m.n m.first)))->H al=some (.lst (nv (RM.pad m.n m.last)))->H aw=some (.lst (rv as))->WheelsAt W m.n H as m.wheels->RM.Mach m->(∀(H':Hp) (aF:Addr),SameBut x H H'->H' x=some (.ins M dx (YY m num af al aw aF))->H aF=none->H' aF=some (.lst (nv (RM.fol m.n m.wheels)))->Q .non H')->ZeR W M vs H Q E
def ZlR:Zl ["self", "letters", "sends_back", "first_board", "last_board", "wheels", "number"] ["self", "letters", "sends_back", "first_board", "last_board", "wheels", "number"] (Ze (Ye 26 0)):=fsc
def ZjJ(T:Tys K W M L)(D1:Def P w K mg base CX0 4 "followers" ["n", "wheels"] (ZiA W))(F:CAt K mg "Machine" M "Machine.__init__" (Ye 26 0) ["self", "letters", "sends_back", "first_board", "last_board", "wheels", "number"]) :
  ZdQ P w K mg base CX0 5 "Machine" M ["self", "letters", "sends_back", "first_board", "last_board", "wheels", "number"] (ZeR W M):=by
 refine F.ok ZlR (λvs H Q E h=>?_) (λf _ A _ s H vs Q E hr h=>?_)
 ·obtain⟨x,dx,af,al,aw,as,num,m,rfl,_⟩:=h
  rfl
 ·obtain⟨x,dx,af,al,aw,as,num,m,rfl,hx,hf,hl,hw,hws,g,k⟩:=h
  refine⟨_,Zc (Jm (pv 0) (pv 1) rfl) (Zc (Jm (pv 0) (pv 2) rfl) (Zc (Jm (pv 0) (pv 3) rfl) (Zc (Jm (pv 0) (pv 4) rfl) (Zc (Jm (pv 0) (pv 5) rfl) (Zc (Jm (pv 0) (pv 6) rfl)
   (Zh (Jm (pv 0) (pc D1 hr rfl Zm (Za (pv 1) (Za (pv 5) Zd))) rfl))))))),?_⟩;refine⟨_,rfl,_,rfl,x,_,_,_,rfl,hx,T.m,T.mn _ (by decide),by decide,?_⟩;refine⟨_,rfl,_,rfl,x,_,_,_,rfl,Zb,T.m,T.mn _ (by decide),V3 1 rfl,?_⟩;refine⟨_,rfl,_,rfl,x,_,_,_,rfl,Zb,T.m,T.mn _ (by decide),V3 2 rfl,?_⟩;refine⟨_,rfl,_,rfl,x,_,_,_,rfl,Zb,T.m,T.mn _ (by decide),V3 3 rfl,?_⟩;refine⟨_,rfl,_,rfl,x,_,_,_,rfl,Zb,T.m,T.mn _ (by decide),V3 4 rfl,?_⟩;refine⟨_,rfl,_,rfl,x,_,_,_,rfl,Zb,T.m,T.mn _ (by decide),V3 5 rfl,?_⟩;rw[Jj,Jj,Jj,Jj,Jj];have e0:upd H x (.ins M dx (JV "number" (.int (num:Int)) (JV "wheels" (.ref aw) (JV "last_board" (.ref al) (JV "first_board" (.ref af) (JV "sends_back" (.bl m.mirror) (JV "letters" (.int (m.n:Int)) []))))))) x=some (.ins M dx [("letters",.int (m.n:Int)),("sends_back",.bl m.mirror),("first_board",.ref af),("last_board",.ref al),("wheels",.ref aw),("number",.int (num:Int))]):=by
   rw[Zb];rfl
  have s0:SameBut x H (upd H x (.ins M dx (JV "number" (.int (num:Int)) (JV "wheels" (.ref aw) (JV "last_board" (.ref al) (JV "first_board" (.ref af) (JV "sends_back" (.bl m.mirror) (JV "letters" (.int (m.n:Int)) [])))))))):=(SameBut.refl x H).upd;have wne:∀(n:Nat) (wh:Rotor.Wheel) (dx' aw ab:Addr),HO.ins M dx [] ≠ .ins W dx' (DE n wh aw ab):=λn wh dx' aw ab e=>by
   injection e with _ _ e
   cases e
  have wbut:∀H',SameBut x H H'->WheelsAt W m.n H' as m.wheels:=λH' s=>⟨hws.len,λi a w h1 h2=>(hws.at_ i a w h1 h2).but s hx (λ_ h=>nomatch h) λ_ _ _=>wne _ _ _ _ _⟩;have wx:aw≠x:=JE hw hx (λh=>nomatch h);have fx:af≠x:=JE hf hx (λh=>nomatch h);have lx:al≠x:=JE hl hx (λh=>nomatch h);refine⟨_,rfl,_,rfl,aw,m.n,as,m.wheels,rfl,s0 _ _ wx hw,wbut _ s0,by have:=g.n2;omega,g.n16,g.k4,λH1 p s1 n1 h1=>?_⟩;have px:p≠x:=λe=>by rw[e,e0] at n1;cases n1
  refine⟨_,rfl,x,_,_,_,rfl,s1 _ _ e0,T.m,T.mn _ (by decide),V3 6 rfl,?_⟩;have s2:=(s0.then s1).upd (o:=.ins M dx (JV "followers" (.ref p) [("letters",.int (m.n:Int)),("sends_back",.bl m.mirror),("first_board",.ref af),("last_board",.ref al),("wheels",.ref aw),("number",.int (num:Int))]));refine k _ p s2 Zb (s0.free px n1) ?_;rw[Zj px];exact h1
inductive Zgs(W M:Addr):List V->Hp->VK->XK->Prop|mk {vs H Q E} (a:Addr) (m:Rotor.Machine) (p:List Nat):vs=[.ref a]->ZY W M H a m (RM.Zr m.n p)->RM.Mach m->RM.St m p->RL H Q (nv p)->Zgs W M vs H Q E
def Zny:Zl ["machine"] ["machine"] (Ze (top 27)):=fsc
def ZkT(G:Gm mg)(T:Tys K W M L)(D1:Def P w K mg base CX0 1 "stands_of" ["n", "how_many", "number"] Vz)(F:At K mg "stands_now" (top 27) ["machine"]):Def P w K mg base CX0 2 "stands_now" ["machine"] (Zgs W M):=by
 refine F.ok Zny (λvs H Q E h=>?_) (λf _ A _ s H vs Q E hr h=>?_)
 ·obtain⟨a,m,p,rfl,_⟩:=h
  rfl
 ·obtain⟨a,m,p,rfl,⟨dx,af,al,aw,aF,as,h1,h2⟩,g,hs,k⟩:=h
  refine⟨_,Zh (Zn (pc D1 hr rfl Zm (Za (Zu (pv 0) rfl) (Za (Zv Zp rfl G.len PySem.boot_len (Za (Zu (pv 0) rfl) Zd)) (Za (Zu (pv 0) rfl) Zd))))),?_⟩;refine⟨_,rfl,a,_,_,_,_,rfl,h1,T.m,T.mn _ (by decide),rfl,_,rfl,a,_,_,_,_,rfl,h1,T.m,T.mn _ (by decide),rfl,aw,_,rfl,.inl (SqL.of h2.wheels),_,rfl,a,_,_,_,_,rfl,h1,T.m,T.mn _ (by decide),rfl,?_⟩;have e:(rv as).length=m.wheels.length:=by rw[Zw,h2.ws.len]
  rw[e];refine⟨m.n,m.wheels.length,RM.Zr m.n p,rfl,g.n0,g.n16,by have:=g.k4;omega,?_⟩;rw[<- hs.len,RM.J1 p hs.lt];exact k
inductive Vm(W M:Addr):List V->Hp->VK->XK->Prop|mk {vs H Q E} (a:Addr) (m:Rotor.Machine) (p:List Nat) (c:Nat):vs=[.ref a,.int (c:Int)]->ZY W M H a m (RM.Zr m.n p)->RM.Mach m->RM.St m p->c<=1000000->RV H Q (.int (RM.Zr m.n (m.steps c p):Nat))->Vm W M vs H Q E
def Zea:Zl ["machine", "steps", "number", "step"] ["machine", "steps"] (Ze (top 28)):=fsc
def Zfl{m:Rotor.Machine}(g:RM.Mach m){p:List Nat}(h:RM.St m p):atI (nv (RM.fol m.n m.wheels)) ((RM.Zr m.n p:Nat):Int)=some (V.int ((RM.Zr m.n (m.step p):Nat):Int)):=VO (Zcw (RM.ZdT g.toGood h))
def Zhp(G:Gm mg)(T:Tys K W M L)(F:At K mg "number_after" (top 28) ["machine", "steps"]):Def P w K mg base CX0 1 "number_after" ["machine", "steps"] (Vm W M):=by
 refine F.ok Zea (λvs H Q E h=>?_) (λf _ A _ s H vs Q E _ h=>?_)
 ·obtain⟨a,m,p,c,rfl,_⟩:=h
  rfl
 ·obtain⟨a,m,p,c,rfl,⟨dx,af,al,aw,aF,as,h1,h2⟩,g,hs,hc,k⟩:=h
  have nd:=Zea.nd;refine⟨_,Zc (Zk (i:=2) nd rfl (Zu (pv 0) rfl)) (Zc (Z6 PassesOwn.never rfl (JH rfl G.range (Za (pv 1) Zd)) (Zo (i:=3) nd rfl)
   (Zh (Zk (i:=2) nd rfl (Ja (r:=JX K) ZM (Zu (pv 0) rfl) (pv 2) (λ_ _=>rfl))))) (Zh (Zn (pv 2)))),?_⟩;refine⟨_,rfl,a,_,_,_,_,rfl,h1,T.m,T.mn _ (by decide),rfl,_,rfl,_,rfl,by omega,by omega,JY (lo:=0) (n:=c) (λi σ H'=>∃v3:Option V,σ=[some (.ref a),some (.int (c:Int)),some (.int ((RM.Zr m.n (m.steps i p):Nat):Int)),v3]/\Same H H')
   ⟨none,rfl,Same.refl H⟩ ?_ ?_⟩
  ·rintro i σ H' hi ⟨v3,rfl,sm⟩
   refine⟨_,rfl,a,_,_,_,_,rfl,sm _ _ h1,T.m,T.mn _ (by decide),rfl,_,rfl,aF,_,_,_,rfl,rfl,SqL.of (sm _ _ h2.fol),Zfl g (hs.steps g.toGood i),some (.int (0+(i:Int))),?_,sm⟩;rw[RM.YL];rfl
  ·rintro σ H' ⟨v3,rfl,sm⟩
   exact⟨_,rfl,k H' sm⟩
inductive ZcT(W M:Addr):List V->Hp->VK->XK->Prop|mk {vs H Q E} (a:Addr) (m:Rotor.Machine) (num:Nat) (p:List Nat):vs=[.ref a,.int ((RM.Zr m.n p:Nat):Int)]->ZY W M H a m num->RM.Mach m->RM.St m p->RL H Q (nv (RM.thr m p))->ZcT W M vs H Q E
def ZiO:Zl ["machine", "number", "result", "wheel", "stand"] ["machine", "number"] (Ze (top 29)):=fsc
def ZjF(G:Gm mg)(T:Tys K W M L)(D1:Def P w K mg base CX0 1 "stands_of" ["n", "how_many", "number"] Vz)(D2:Def P w K mg base CX0 1 "product" ["a", "b"] Yn)(F:At K mg "through_wheels" (top 29) ["machine", "number"]) :
  Def P w K mg base CX0 2 "through_wheels" ["machine", "number"] (ZcT W M):=by
 refine F.ok ZiO (λvs H Q E h=>?_) (λf _ A _ s H vs Q E hr h=>?_)
 ·obtain⟨a,m,num,p,rfl,_⟩:=h
  rfl
 ·obtain⟨a,m,num,p,rfl,⟨dx,af,al,aw,aF,as,h1,h2⟩,g,hs,k⟩:=h
  have nd:=ZiO.nd;refine⟨_,Zc (Zk (i:=2) nd rfl (JJ (JS rfl) rfl G.list boot_list (Za (ZcC rfl G.range (Za (pk G.most rfl) Zd)) Zd)))
   (Zc (Z6 PassesOwn.never rfl (Za6 rfl G.zip (Za (Zu (pv 0) rfl) (Za (pc D1 hr rfl Zm (Za (Zu (pv 0) rfl) (Za (Zv Zp rfl G.len PySem.boot_len (Za (Zu (pv 0) rfl) Zd)) (Za (pv 1) Zd)))) Zd)))
    (Yl rfl (ZA (Zo (i:=3) nd rfl) (ZA (Zo (i:=4) nd rfl) JI)))
    (Zh (Zk (i:=2) nd rfl (pc D2 hr rfl Zm (Za (pv 2) (Za (Ja (r:=JX K) ZM (Zu (pv 3) rfl) (pv 4) (λ_ _=>rfl)) Zd))))))
   (Zh (Zn (pv 2)))),?_⟩;refine⟨_,rfl,by decide,by decide,λq hq=>⟨q,0,16,rfl,Zb,by decide,by decide,by decide,by decide,by decide,λt ht=>?_⟩⟩;have s1:=(Zg (o:=.rng 0 16) hq).trans (Zg (o:=.lst (Zah 0 16)) ht);have nt:H t=none:=(Zg hq).free ht;refine⟨_,rfl,a,_,_,_,_,rfl,s1 _ _ h1,T.m,T.mn _ (by decide),rfl,_,rfl,a,_,_,_,_,rfl,s1 _ _ h1,T.m,T.mn _ (by decide),rfl,_,rfl,a,_,_,_,_,rfl,s1 _ _ h1,T.m,T.mn _ (by decide),rfl,aw,_,rfl,.inl (SqL.of (s1 _ _ h2.wheels)),_,rfl,?_⟩;have e:(rv as).length=m.wheels.length:=by rw[Zw,h2.ws.len]
  rw[e];refine⟨m.n,m.wheels.length,RM.Zr m.n p,rfl,g.n0,g.n16,by have:=g.k4;omega,λH1 b s2 n2 h3=>?_⟩;rw[<- hs.len,RM.J1 p hs.lt] at h3;have sH:=s1.trans s2;refine⟨aw,b,_,_,rfl,SqL.of (sH _ _ h2.wheels),SqL.of h3,?_⟩;refine Zgh (K:=K) (a:=aw) (b:=b) (xs:=rv as) (ys:=nv p) (by rw[Zf,e,hs.len]) (λi σ H'=>∃(r:Addr) (v3 v4:Option V),σ=[some (.ref a),some (.int ((RM.Zr m.n p:Nat):Int)),some (.ref r),v3,v4]/\Same H1 H'/\H r=none/\H' r=some (.lst (nv (RM.Ze0 m.n Rotor.still ((m.wheels.zip p).take i)))))
   ⟨t,none,none,rfl,Same.refl _,nt,?_⟩ (λi σ H' _ ⟨_,_,_,_,sm,_⟩=>⟨SqL.of (sm _ _ (sH _ _ h2.wheels)),SqL.of (sm _ _ h3)⟩) ?_ ?_
  ·rw[s2 _ _ Zb,show(16:Int)=((16:Nat):Int) from rfl,show(0:Int)=((0:Nat):Int) from rfl,Dv,Nat.sub_zero,Zh4]
   rfl
  ·rintro i x y σ H' U hi hj hU ⟨r,v3,v4,rfl,sm,nr,hR⟩
   obtain⟨x,hx,rfl⟩:=YO hi;obtain⟨y,hy,rfl⟩:=JA hj;obtain⟨wh,ewh,hwh⟩:=h2.ws.get hx;have hyn:y<m.n:=hs.lt y (mem_of_getElem? hy);have sU:Same H' (upd H' U (.tup [.ref x,.int (y:Int)])):=Zg hU;obtain⟨dxw,aww,abw,rs,w1,w2,w3,w4,w5⟩:=((hwh.same sH).same sm).same sU;obtain⟨z,hz⟩ : ∃z,rs[y]? = some z:=⟨rs[y]'(by omega),getElem?_eq_getElem (by omega)⟩;have il:i<m.wheels.length:=(List.getElem?_eq_some_iff.mp ewh).1;have tP:=(RM.ZcF g hs i (by omega)).1;have mP:RM.IsP m.n (RM.met m.n wh y):=RM.Zal (g.wires wh (mem_of_getElem? ewh)) g.n0 g.n16 y;refine⟨U,_,rfl,SqT.of Zb,rfl,_,_,rfl,_,_,rfl,rfl,_,rfl,_,rfl,x,_,_,_,_,rfl,w1,T.w,T.wn _ (by decide),rfl,_,rfl,abw,_,_,_,rfl,rfl,SqL.of w3,VO (ZhI hz),?_⟩;refine⟨r,z,_,_,rfl,sU _ _ hR,w5 _ _ hz,λc hc=>?_,by rw[tP.len];decide,λH2 o s3 n3 h4=>?_⟩
   ·rw[mP.len]
    exact tP.mem.mp hc
   ·refine⟨o,_,_,rfl,(sm.trans sU).trans s3,((sH.trans sm).trans sU).free n3,?_⟩
    rw[h4,RM.Ys ewh hy,RM.ZbT,RM.VL tP.len]
  ·rintro σ H' ⟨r,v3,v4,rfl,sm,nr,hR⟩
   refine⟨_,rfl,k H' r (sH.trans sm) nr ?_⟩;rw[hR,take_of_length_le (by rw[e,RM.UH hs];exact Nat.le_refl _)];rfl
inductive ZcQ(W M:Addr):List V->Hp->VK->XK->Prop|mk {vs H Q E} (a:Addr) (m:Rotor.Machine) (num:Nat) (p:List Nat):vs=[.ref a,.int ((RM.Zr m.n p:Nat):Int)]->ZY W M H a m num->RM.Mach m->RM.St m p->RL H Q (nv (RM.Zbq m p))->ZcQ W M vs H Q E
def ZhC:Zl ["machine", "number", "way_in"] ["machine", "number"] (Ze (top 30)):=fsc
def ZbZ{n:Nat}{l:List Nat}(h:RM.IsP n l)(hn:n<=16):RM.IsP 16 l:=⟨h.len,h.2,λi h1 h2=>by omega⟩
def Zi8(T:Tys K W M L)(D1:Def P w K mg base CX0 1 "product" ["a", "b"] Yn)(D2:Def P w K mg base CX0 2 "through_wheels" ["machine", "number"] (ZcT W M))(D3:Def P w K mg base CX0 2 "seen_through" ["a", "b"] Za2)
  (F:At K mg "setting" (top 30) ["machine", "number"]):Def P w K mg base CX0 3 "setting" ["machine", "number"] (ZcQ W M):=by
 refine F.ok ZhC (λvs H Q E h=>?_) (λf _ A _ s H vs Q E hr h=>?_)
 ·obtain⟨a,m,num,p,rfl,_⟩:=h
  rfl
 ·obtain⟨a,m,num,p,rfl,hm,g,hs,k⟩:=h
  obtain⟨dx,af,al,aw,aF,as,h1,h2⟩:=id hm;have nd:=ZhC.nd;have hr1:=hr.mono (show 1<=2 by decide);refine⟨_,Zc (Zk (i:=2) nd rfl (pc D1 hr1 rfl Zm (Za (Zu (pv 0) rfl) (Za (pc D2 hr rfl Zm (Za (pv 0) (Za (pv 1) Zd))) Zd))))
   (Zc (ZW (Z1 (Zu (pv 0) rfl)) (Zh (Zn (pc D3 hr rfl Zm (Za (Zu (pv 0) rfl) (Za (pv 2) Zd))))) ZB)
   (Zh (Zn (pc D1 hr1 rfl Zm (Za (pv 2) (Za (Zu (pv 0) rfl) Zd)))))),?_⟩;have p1:=RM.U7 g hs;have pf:=g.first.isP;have pl:=g.last.isP;have pw:=RM.VB g hs;refine⟨_,rfl,a,_,_,_,_,rfl,h1,T.m,T.mn _ (by decide),rfl,_,rfl,_,rfl,a,m,num,p,rfl,hm,g,hs,λH1 b s1 n1 hb=>?_⟩;refine⟨af,b,_,_,rfl,s1 _ _ h2.first,hb,λx hx=>by rw[p1.len];exact pf.mem.mp hx,by rw[pf.len];decide,λH2 c s2 n2 hc=>?_⟩;have sH:=s1.trans s2;rw[<- RM.VL pf.len] at hc;refine⟨_,rfl,a,_,_,_,_,rfl,sH _ _ h1,T.m,T.mn _ (by decide),rfl,_,rfl,?_⟩;unfold RM.Zbq at k;cases e:m.mirror with
  |true=>
   rw[if_pos e] at k;refine JT ⟨_,rfl,a,_,_,_,_,rfl,sH _ _ h1,T.m,T.mn _ (by decide),rfl,_,rfl,al,c,_,_,rfl,sH _ _ h2.last,hc,ZbZ pl g.n16,ZbZ pw g.n16,λH3 d s3 n3 hd=>k H3 d (sH.trans s3) (sH.free n3) hd⟩
  |false=>
   rw[if_neg (by rw[e];decide)] at k;refine Yh ⟨_,rfl,_,rfl,a,_,_,_,_,rfl,sH _ _ h1,T.m,T.mn _ (by decide),rfl,c,al,_,_,rfl,hc,sH _ _ h2.last,λx hx=>by rw[pl.len];exact pw.mem.mp hx,by rw[show(Rotor.then_ (RM.pad m.n m.first) (RM.thr m p)).length=16 from pw.len];decide,λH3 d s3 n3 hd=>k H3 d (sH.trans s3) (sH.free n3) ?_⟩;rw[hd,RM.VL pw.len];rfl
end
def Zbw{g:Nat->List Nat}{c:List Nat}(n:Nat):((List.range n).map g).findIdx? (λx=>x==c)=(List.range n).find? λj=>g j==c:=by
 cases e:(List.range n).find? λj=>g j==c with
 |none=>
  rw[List.findIdx?_eq_none_iff];intro x hx;obtain⟨j,hj,rfl⟩:=mem_map.mp hx;have:=List.find?_eq_none.mp e j hj;simpa using this
 |some i=>
  rw[List.find?_range_eq_some] at e;rw[List.findIdx?_eq_some_iff_getElem];obtain⟨e1,e2,e3⟩:=e;have hi:i<n:=mem_range.mp e2;refine⟨by rw[length_map,length_range];exact hi,by simpa using e1,λj hj=>?_⟩;have:=e3 j hj;simpa using this
def Zbr(f:Nat->Nat)(n:Nat):List (Key×V):=(List.range n).map λ(j:Nat)=>(Sum.inl (f j:Int),V.int (j:Int))
def Zhx(f:Nat->Nat)(n c:Nat):Ue (Zbr f n) (Sum.inl (c:Int))=((List.range n).find? λj=>f j==c).map λ(j:Nat)=>V.int (j:Int):=by
 unfold Ue Zbr;rw[List.find?_map,Option.map_map];have e:((λkv:Key×V=>decide (kv.1=Sum.inl (c:Int))) ∘ λ(j:Nat)=>((Sum.inl (f j:Int):Key),V.int (j:Int)))=λj=>f j==c:=by
  funext j
  rw[Bool.eq_iff_iff];show decide ((Sum.inl (f j:Int):Key)=Sum.inl (c:Int))=true↔_;rw[decide_eq_true_eq,beq_iff_eq];constructor
  ·intro h
   injection h with h
   omega
  ·intro h
   rw[h]
 rw[e];rfl
def Zg2(f:Nat->Nat)(n:Nat):Zbr f (n+1)=Zbr f n++[(Sum.inl (f n:Int),V.int (n:Int))]:=by
 unfold Zbr;rw[range_succ,map_append];rfl
def Zha{m:Rotor.Machine}(g:RM.Mach m){p:List Nat}(h:RM.St m p)(i:Nat):Ue (Zbr (λj=>RM.Zr m.n (m.steps j p)) i) (Sum.inl (RM.Zr m.n (m.steps i p):Int))=((RM.Jk m p i).findIdx? λ(x:Rotor.Stand)=>x==m.steps i p).map λ(j:Nat)=>V.int (j:Int):=by
 rw[Zhx];unfold RM.Jk;rw[Zbw];congr 2
 funext j
 rw[Bool.eq_iff_iff,beq_iff_eq,beq_iff_eq];have hj:=h.steps g.toGood j;have hi:=h.steps g.toGood i;exact⟨λe=>RM.ZgA (by rw[hj.len,hi.len]) hj.lt hi.lt e,λe=>by rw[e]⟩
section
variable{P:Program}{w:World}{K:Frag}{mg:Str->Option Value}{base:Heap}{W M L:Addr}
inductive U8(W M:Addr):List V->Hp->VK->XK->Prop|mk {vs H Q E} (a:Addr) (m:Rotor.Machine) (num x:Nat):vs=[.ref a,.int (x:Int)]->ZY W M H a m num->RV H Q (.bl (RM.J0 m.n x))->U8 W M vs H Q E
def Zi9:Zl ["machine", "byte"] ["machine", "byte"] (Ze (top 31)):=fsc
def Zhz(G:Gm mg)(T:Tys K W M L)(F:At K mg "is_letter" (top 31) ["machine", "byte"]):Def P w K mg base CX0 1 "is_letter" ["machine", "byte"] (U8 W M):=by
 refine F.ok Zi9 (λvs H Q E h=>?_) (λf _ A _ s H vs Q E _ h=>?_)
 ·obtain⟨a,m,num,x,rfl,_⟩:=h
  rfl
 ·obtain⟨a,m,num,x,rfl,⟨dx,af,al,aw,aF,as,h1,h2⟩,k⟩:=h
  refine⟨_,Zh (Zn (ZdU ZhX Za7 (pk G.b0 rfl) (pv 1) (ZD Z5 (pk G.b0 rfl) (Zu (pv 0) rfl)))),?_⟩;have kk:=k H (Same.refl H);unfold RM.J0 at kk;refine⟨_,rfl,_,_,rfl,rfl,_,rfl,Jl (λe=>?_) λe=>?_⟩
  ·have e:=of_decide_eq_true e
   rw[decide_eq_true (show 65<=x by omega),Bool.true_and] at kk;refine⟨_,rfl,a,_,_,_,_,rfl,h1,T.m,T.mn _ (by decide),rfl,_,_,rfl,rfl,_,_,rfl,rfl,?_⟩;show Q (V.bl (decide ((x:Int)<65+(m.n:Int)))) H;rw[show decide ((x:Int)<65+(m.n:Int))=decide (x<65+m.n) from by rw[Bool.eq_iff_iff,decide_eq_true_eq,decide_eq_true_eq];omega];exact kk
  ·have e:¬ (65:Int)<=(x:Int):=λh=>e (decide_eq_true h)
   rw[decide_eq_false (show ¬ 65<=x by omega),Bool.false_and] at kk;exact kk
inductive Zde(W M:Addr):List V->Hp->VK->XK->Prop|mk {vs H Q E} (a b:Addr) (m:Rotor.Machine) (num:Nat) (s:List Nat):vs=[.ref a,.ref b]->ZY W M H a m num->H b=some (.lst (nv s))->s.length<=1000000->RV H Q (.int ((s.filter (RM.J0 m.n)).length:Nat))->Zde W M vs H Q E
def ZfN:Zl ["machine", "s", "byte"] ["machine", "s"] (Ze (top 32)):=fsc
def ZiC(G:Gm mg)(D1:Def P w K mg base CX0 1 "is_letter" ["machine", "byte"] (U8 W M))(F:At K mg "letters_in" (top 32) ["machine", "s"]):Def P w K mg base CX0 2 "letters_in" ["machine", "s"] (Zde W M):=by
 refine F.ok ZfN (λvs H Q E h=>?_) (λf _ A _ s H vs Q E hr h=>?_)
 ·obtain⟨a,b,m,num,l,rfl,_⟩:=h
  rfl
 ·obtain⟨a,b,m,num,l,rfl,hm,hb,hl,k⟩:=h
  have nd:=ZfN.nd;refine⟨_,Zh (Zn (Zv Zp rfl G.len PySem.boot_len (Za (YA rfl nd (ZR (pv 1)) (own:=[("byte",2)]) (ZP (N:=["machine", "s", "byte"]) (sc:=Ze (top 32)) (by decide +kernel))
   (λ_ _ _ _ _=>Zo (i:=2) nd rfl) (λ_ _ _ _ _=>Dk (Z1 (pc D1 hr rfl Zm (Za (pv 0) (Za (pv 2) Zd))))) (λ_ _ _ _ _=>pv 2)) Zd))),?_⟩;refine⟨_,rfl,b,rfl,⟨_,SqL.of hb⟩,λD hD=>Ji (K:=K) (a:=b) (xs:=nv l) (λi H'=>Same H H'/\H' D=some (.lst (nv ((l.take i).filter (RM.J0 m.n))))) ⟨Zg hD,Zb⟩ (λi H' _ h=>SqL.of (h.1 _ _ hb)) ?_ ?_⟩
  ·rintro i x H' hi ⟨sm,hD'⟩
   obtain⟨y,hy,rfl⟩:=JA hi;refine⟨rfl,_,rfl,_,rfl,a,m,num,y,rfl,hm.same sm,λH2 s2=>⟨_,rfl,?_⟩⟩;cases e:RM.J0 m.n y with
   |true=>
    refine JT ⟨_,rfl,_,s2 _ _ hD',?_,?_⟩
    ·rw[Zf]
     exact ZF (Nat.le_trans (length_filter_le _ _) (Nat.le_trans (List.length_take_le' _ _) hl))
    ·refine⟨Same.upd (sm.trans s2) hD,?_⟩
     rw[Zb,Jr hy e,JK]
   |false=>
    refine Yh ⟨sm.trans s2,?_⟩;rw[Jq hy e];exact s2 _ _ hD'
  ·rintro H' ⟨sm,hD'⟩
   rw[Zf,take_length] at hD';refine⟨D,_,rfl,.inl (SqL.of hD'),?_⟩;rw[Zf];exact k H' sm
inductive Zbb(W M:Addr):List V->Hp->VK->XK->Prop|mk {vs H Q E} (a:Addr) (m:Rotor.Machine) (p:List Nat) (u:Bool) (x:Nat):vs=[.ref a,.bl u,.int (x:Int)]->ZY W M H a m (RM.Zr m.n p)->RM.Mach m->RM.St m p->x<m.n->RV H Q (.int (RM.YI m u p x:Nat))->Zbb W M vs H Q E
def ZdS:Zl ["machine", "undo", "letter", "now"] ["machine", "undo", "letter"] (Ze (top 33)):=fsc
def Zhl(T:Tys K W M L)(D1:Def P w K mg base CX0 3 "setting" ["machine", "number"] (ZcQ W M))(D2:Def P w K mg base CX0 1 "inverse" ["a"] YG)(F:At K mg "letter_through" (top 33) ["machine", "undo", "letter"]) :
  Def P w K mg base CX0 4 "letter_through" ["machine", "undo", "letter"] (Zbb W M):=by
 refine F.ok ZdS (λvs H Q E h=>?_) (λf _ A _ s H vs Q E hr h=>?_)
 ·obtain⟨a,m,p,u,x,rfl,_⟩:=h
  rfl
 ·obtain⟨a,m,p,u,x,rfl,hm,g,hs,hx,k⟩:=h
  obtain⟨dx,af,al,aw,aF,as,h1,h2⟩:=id hm;have nd:=ZdS.nd;have hr1:=hr.mono (show 1<=3 by decide);refine⟨_,Zc (Zk (i:=3) nd rfl (pc D1 hr rfl Zm (Za (pv 0) (Za (Zu (pv 0) rfl) Zd))))
   (Zh (Zn (YV (Z1 (pv 1)) (Ja (r:=JX K) ZM (pc D2 hr1 rfl Zm (Za (pv 3) Zd)) (pv 2) (λ_ _=>rfl)) (Ja (r:=JX K) ZM (pv 3) (pv 2) (λ_ _=>rfl))))),?_⟩;have pP:=RM.Vn g hs;have n16:=g.n16;refine⟨_,rfl,_,rfl,a,_,_,_,_,rfl,h1,T.m,T.mn _ (by decide),rfl,a,m,_,p,rfl,hm,g,hs,λH1 b s1 n1 hb=>⟨_,rfl,_,rfl,?_⟩⟩;unfold RM.YI at k;cases u with
  |true=>
   rw[if_pos rfl] at k;refine JT ⟨_,rfl,b,_,rfl,hb,ZbZ pP n16,λH2 c s2 n2 hc=>⟨_,rfl,c,_,_,_,rfl,rfl,SqL.of hc,YK (by rw[RM.V5];omega),k H2 (s1.trans s2)⟩⟩
  |false=>
   rw[if_neg (by decide)] at k;exact Yh ⟨_,rfl,_,rfl,b,_,_,_,rfl,rfl,SqL.of hb,YK (by rw[pP.len];omega),k H1 s1⟩
inductive Zfe(W M:Addr):List V->Hp->VK->XK->Prop|mk {vs H Q E} (a b dx af al aw aF:Addr) (as:List Addr) (m:Rotor.Machine) (p:List Nat) (u:Bool) (s:Rotor.Bytes):vs=[.ref a,.bl u,.ref b]->H a=some (.ins M dx (YY m (RM.Zr m.n p) af al aw aF))->Vb W H m af al aw aF as->RM.Mach m->RM.St m p->H b=some (.lst (nv (RM.bn s)))->s.length<=1000000->(∀(H':Hp) (r:Addr),SameBut a H H'->H' a=some (.ins M dx (YY m (RM.Zr m.n (m.text u s p).2.2) af al aw aF))->RM.St m (m.text u s p).2.2->H r=none->H' r=some (.lst (nv (RM.bn (m.text u s p).1)))->Q (.ref r) H')->Zfe W M vs H Q E
def Zi3:Zl ["machine", "undo", "s", "result", "byte"] ["machine", "undo", "s"] (Ze (top 34)):=fsc
def Zjv(G:Gm mg)(T:Tys K W M L)(D1:Def P w K mg base CX0 1 "is_letter" ["machine", "byte"] (U8 W M))(D2:Def P w K mg base CX0 4 "letter_through" ["machine", "undo", "letter"] (Zbb W M))(F:At K mg "text_through" (top 34) ["machine", "undo", "s"]) :
  Def P w K mg base CX0 5 "text_through" ["machine", "undo", "s"] (Zfe W M):=by
 refine F.ok Zi3 (λvs H Q E h=>?_) (λf _ A _ s H vs Q E hr h=>?_)
 ·obtain⟨a,b,dx,af,al,aw,aF,as,m,p,u,x,rfl,_⟩:=h
  rfl
 ·obtain⟨a,b,dx,af,al,aw,aF,as,m,p,u,bs,rfl,h1,h2,g,hs,hb,hl,k⟩:=h
  have nd:=Zi3.nd;have hr1:=hr.mono (show 1<=4 by decide);refine⟨_,Zc (Zk (i:=3) nd rfl (Zx Zd)) (Zc (Z6 PassesOwn.never rfl (ZR (pv 2)) (Zo (i:=4) nd rfl)
   (Zh (ZW (Z1 (pc D1 hr1 rfl Zm (Za (pv 0) (Za (pv 4) Zd))))
    (Zc (Jm (pv 0) (Ja (r:=JX K) ZM (Zu (pv 0) rfl) (Zu (pv 0) rfl) (λ_ _=>rfl)) rfl)
     (Zh (Z3 (J4 PySem.F.plainAttrs_list PySem.F.slot_list_append PySem.F.type_list_append JO (pv 3) (Za (ZD Z5 (pk G.b0 rfl) (pc D2 hr rfl Zm (Za (pv 0) (Za (pv 1) (Za (ZD Uw (pv 4) (pk G.b0 rfl)) Zd))))) Zd)))))
    (Zh (Z3 (J4 PySem.F.plainAttrs_list PySem.F.slot_list_append PySem.F.type_list_append JO (pv 3) (Za (pv 4) Zd)))))))
   (Zh (Zn (pv 3)))),?_⟩;have no:∀l,HO.ins M dx (YY m (RM.Zr m.n p) af al aw aF) ≠ .lst l:=λ_ h=>nomatch h
  refine⟨Zs (by decide),λr hr'=>⟨_,rfl,b,rfl,⟨_,SqL.of (Zg hr' _ _ hb)⟩,?_⟩⟩;have hba:b≠a:=JE hb h1 (Ne.symm (no _));have har:a≠r:=Zi h1 hr';have nvl:(nv (RM.bn bs)).length=bs.length:=by rw[Zf,RM.Jd]
  refine JD (K:=K) (a:=b) (xs:=nv (RM.bn bs)) (λi σ H'=>∃(q out:List Nat) (v4:Option V),σ=[some (.ref a),some (.bl u),some (.ref b),some (.ref r),v4]/\SameBut a H H'/\H' a=some (.ins M dx (YY m (RM.Zr m.n q) af al aw aF))/\RM.St m q/\RM.Yy m u bs p i out q/\out.length=i/\H' r=some (.lst (nv out)))
   ⟨p,[],none,rfl,SameBut.of (Zg hr'),Zg hr' _ _ h1,hs,RM.Yy.zero bs hs,rfl,Zb⟩ (λi σ H' _ ⟨_,_,_,_,sm,_⟩=>SqL.of (sm _ _ hba hb)) ?_ ?_
  ·rintro i x σ H' hi ⟨q,out,v4,rfl,sm,hA,hq,tt,ol,hR⟩
   obtain⟨y,hy,rfl⟩:=JA hi;have hil:i<bs.length:=by have:=(List.getElem?_eq_some_iff.mp hy).1;rw[RM.Jd] at this;exact this
   refine⟨_,rfl,_,rfl,a,m,_,y,rfl,ZY.put h1 h2 _ sm hA,λH1 s1=>⟨_,rfl,?_⟩⟩;cases e:RM.J0 m.n y with
   |true=>
    have yb:65<=y/\y<65+m.n:=by
     unfold RM.J0 at e;rw[Bool.and_eq_true,decide_eq_true_eq,decide_eq_true_eq] at e;exact e
    have sm1:=sm.then s1;have hA1:=s1 _ _ hA;have haF:aF≠a:=JE h2.fol h1 (Ne.symm (no _));refine JT ⟨_,rfl,a,_,_,_,_,rfl,hA1,T.m,T.mn _ (by decide),rfl,_,rfl,a,_,_,_,_,rfl,hA1,T.m,T.mn _ (by decide),rfl,aF,_,_,_,rfl,rfl,SqL.of (sm1 _ _ haF h2.fol),Zfl g hq,_,rfl,a,_,_,_,rfl,hA1,T.m,T.mn _ (by decide),V3 7 rfl,?_⟩;have hq':=hq.step g.toGood;have s2:SameBut a H (upd H1 a (.ins M dx (YY m (RM.Zr m.n (m.step q)) af al aw aF))):=sm1.upd;have hm2:=ZY.put h1 h2 (RM.Zr m.n (m.step q)) s2 Zb;have hR2:upd H1 a (.ins M dx (YY m (RM.Zr m.n (m.step q)) af al aw aF)) r=some (.lst (nv out)):=by
     rw[Zj (Ne.symm har)];exact s1 _ _ hR
    refine⟨_,rfl,.inl ⟨rfl,_,SqL.of hR2⟩,_,rfl,_,rfl,_,rfl,_,_,rfl,rfl,?_⟩;refine⟨a,m,m.step q,u,y-65,congrArg (λz=>[V.ref a,V.bl u,V.int z]) (show((y:Int)-65)=((y-65:Nat):Int) by omega),hm2,g,hq',by omega,λH3 s3=>?_⟩;refine⟨_,_,rfl,rfl,r,_,_,rfl,rfl,s3 _ _ hR2,?_,?_⟩
    ·rw[Zf]
     exact ZF (by omega)
    refine⟨m.step q,out++[65+RM.YI m u (m.step q) (y-65)],some (.int (y:Int)),rfl,(s2.then s3).upd' hr',?_,hq',tt.letter g hy e,by rw[length_append,ol];rfl,?_⟩
    ·rw[Zj har]
     exact s3 _ _ Zb
    ·rw[Zb,JK,Int.natCast_add]
     rfl
   |false=>
    refine Yh ⟨_,rfl,.inl ⟨rfl,_,SqL.of (s1 _ _ hR)⟩,_,rfl,r,_,_,rfl,rfl,s1 _ _ hR,?_,?_⟩
    ·rw[Zf]
     exact ZF (by omega)
    refine⟨q,out++[y],some (.int (y:Int)),rfl,(sm.then s1).upd' hr',by rw[Zj har];exact s1 _ _ hA,hq,tt.pass hy e,by rw[length_append,ol];rfl,by rw[Zb,JK]⟩
  ·rintro σ H' ⟨q,out,v4,rfl,sm,hA,hq,tt,ol,hR⟩
   rw[nvl] at tt;obtain⟨t1,t2⟩:=tt.done;refine⟨_,rfl,k H' r sm (by rw[t2];exact hA) (by rw[t2];exact hq) hr' ?_⟩;rw[t1];exact hR
inductive Dy(W M:Addr):List V->Hp->VK->XK->Prop|mk {vs H Q E} (a:Addr) (m:Rotor.Machine) (p:List Nat) (c:Nat):vs=[.ref a,.int (c:Int)]->ZY W M H a m (RM.Zr m.n p)->RM.Mach m->RM.St m p->c<=100000->(m.period p c=none->RV H Q .non)->(∀i j,m.period p c=some (i,j)->RL H Q (nv [i,j]))->Dy W M vs H Q E
def ZdR:Zl ["machine", "most", "met", "number", "steps"] ["machine", "most"] (Ze (top 35)):=fsc
def ZgY(G:Gm mg)(T:Tys K W M L)(F:At K mg "period" (top 35) ["machine", "most"]):Def P w K mg base CX0 1 "period" ["machine", "most"] (Dy W M):=by
 refine F.ok ZdR (λvs H Q E h=>?_) (λf cdv A _ s H vs Q E hr h=>?_)
 ·obtain⟨a,m,p,c,rfl,_⟩:=h
  rfl
 ·obtain⟨a,m,p,c,rfl,⟨dx,af,al,aw,aF,as,h1,h2⟩,g,hs,hc,k1,k2⟩:=h
  have nd:=ZdR.nd;have hu:(A.deeper (envOfC "period" (Ze (top 35)) s.heap.objs.size f cdv)).units+1<cLine:=by have:=hr.units;omega
  refine⟨_,Zc (Zk (i:=2) nd rfl ZiX) (Zc (Zk (i:=3) nd rfl (Zu (pv 0) rfl))
   (Zc (Z6 PassesOwn.never rfl (JH rfl G.range (Za (ZD Z5 (pv 1) Zq) Zd)) (Zo (i:=4) nd rfl)
    (Zc (ZW (Zfr (Zl9 hu (pv 3) (pv 2))) (Zh (Zn (Zx (Za (ZfB hu (pv 2) (pv 3) (λ_ _=>rfl)) (Za (ZD Uw (pv 4) (ZfB hu (pv 2) (pv 3) (λ_ _=>rfl))) Zd))))) ZB)
    (Zc (Zj9 hu (pv 2) (pv 3) (pv 4) rfl) (Zh (Zk (i:=3) nd rfl (Ja (r:=JX K) ZM (Zu (pv 0) rfl) (pv 3) (λ_ _=>rfl)))))))
   (Zh (Zn Zim)))),?_⟩;refine λd hd=>?_;have sd:Same H (upd H d (.dK [])):=Zg hd;refine⟨_,rfl,a,_,_,_,_,rfl,sd _ _ h1,T.m,T.mn _ (by decide),rfl,_,rfl,_,_,rfl,rfl,_,rfl,by omega,by omega,?_⟩;have haF:Same H (upd H d (.dK []))->aF≠d:=λ_=>Zi h2.fol hd;have fd:aF≠d:=Zi h2.fol hd;have ad:a≠d:=Zi h1 hd;refine JY (lo:=0) (n:=c+1) (λi σ H'=>∃v4:Option V,σ=[some (.ref a),some (.int (c:Int)),some (.ref d),some (.int ((RM.Zr m.n (m.steps i p):Nat):Int)),v4]/\Same H H'/\H' d=some (.dK (Zbr (λj=>RM.Zr m.n (m.steps j p)) i)) /\
   (i<=c->m.period p c=m.comes (c-i) (RM.Jk m p i) (m.steps i p))/\(i=c+1->m.period p c=none)) ⟨none,rfl,sd,Zb,λ_=>rfl,λh=>by omega⟩ ?_ ?_
  ·rintro i σ H' hi ⟨v4,rfl,sm,hD,p1,p2⟩
   have ms:=Zha g hs i;refine⟨_,rfl,_,rfl,d,_,rfl,ZbC.k (k:=Sum.inl _) hD,_,rfl,?_⟩;have p1:=p1 (by omega);cases e:(RM.Jk m p i).findIdx? λ(x:Rotor.Stand)=>x==m.steps i p with
   |some j=>
    rw[e] at ms;have ms:Ue (Zbr (λj=>RM.Zr m.n (m.steps j p)) i) (Sum.inl (RM.Zr m.n (m.steps i p):Int))=some (V.int (j:Int)):=ms;rw[RM.ZeZ e] at p1;have jl:j<i:=by
     obtain⟨h,_⟩:=List.findIdx?_eq_some_iff_getElem.mp e;unfold RM.Jk at h;rw[length_map,length_range] at h;exact h
    have dg:ZbC H' d (V.int ((RM.Zr m.n (m.steps i p):Nat):Int)) (some (V.int (j:Int))):=by
     rw[<- ms];exact ZbC.k (k:=Sum.inl _) hD
    rw[ms];refine JT ⟨_,rfl,_,rfl,d,_,rfl,dg,_,rfl,_,rfl,_,rfl,d,_,rfl,dg,_,_,rfl,rfl,Zs (show 2<=1000000 by decide),λq hq=>?_⟩;refine k2 _ _ p1 _ q (sm.trans (Zg hq)) (sm.free hq) ?_;rw[Zb];show some (HO.lst [V.int (j:Int),V.int ((0:Int)+(i:Int)-(j:Int))])=some (HO.lst [V.int (j:Int),V.int ((i-j:Nat):Int)]);rw[show(0:Int)+(i:Int)-(j:Int)=((i-j:Nat):Int) by omega]
   |none=>
    rw[e] at ms;have ms:Ue (Zbr (λj=>RM.Zr m.n (m.steps j p)) i) (Sum.inl (RM.Zr m.n (m.steps i p):Int))=none:=ms;rw[RM.Zfm e] at p1;rw[ms];refine Yh ⟨_,rfl,_,rfl,_,rfl,d,_,rfl,Zh2.k (k:=Sum.inl _) hD ?_,?_⟩
    ·unfold Zbr
     rw[length_map,length_range];exact ZF (by omega)
    refine⟨_,rfl,a,_,_,_,_,rfl,(by rw[Zj ad];exact sm _ _ h1),T.m,T.mn _ (by decide),rfl,_,rfl,aF,_,_,_,rfl,rfl,SqL.of (by rw[Zj fd];exact sm _ _ h2.fol),Zfl g (hs.steps g.toGood i),some (.int (0+(i:Int))),?_,Same.upd sm hd,?_,λhc2=>?_,λhc2=>?_⟩
    ·rw[RM.YL]
     rfl
    ·rw[Zb,Zg2,ZiE _ ms]
     show some (HO.dK (_++[(_,V.int ((0:Int)+(i:Int)))]))=_;rw[show(0:Int)+(i:Int)=(i:Int) by omega]
    ·rw[p1,show c-i=(c-(i+1))+1 by omega]
    ·rw[p1,show c-i=0 by omega]
  ·rintro σ H' ⟨v4,rfl,sm,hD,p1,p2⟩
   exact k1 (p2 rfl) H' sm
end
structure FltAt(K:Frag)(mg:Str->Option Value)(C:Addr):Prop where
 ex:∃(fI:Addr) (fd:FuncData),YT K C (some (.ref fI))=true/\Fun K "__init__" "Fault.__init__" (Ye 56 0) fI fd/\JZ K fd ["self", "place"] []/\isFn K (.ref fI)=true/\mg "Fault" = some (.ref C)/\keepIn K (.ref C)=true
structure Flt(P:Program)(w:World)(K:Frag)(mg:Str->Option Value)(base:Heap)(C:Addr):Prop where
 ex:∃(fI:Addr) (fd:FuncData),YT K C (some (.ref fI))=true/\YX P w K mg base CX0 1 fI fd ["self", "place"] (ZhE C)/\JZ K fd ["self", "place"] []/\isFn K (.ref fI)=true/\mg "Fault" = some (.ref C)/\keepIn K (.ref C)=true
def ZnL:Zl ["self", "place"] ["self", "place"] (Ze (Ye 56 0)):=fsc
def ER(C:Addr)(H:Hp)(E:XK)(n:Nat):Prop:=∀H':Hp,Same H H'->E (.ref C) (some n) H'
def ER.mono{C:Addr}{H H1:Hp}{E:XK}{n:Nat}(k:ER C H E n)(s:Same H H1):ER C H1 E n:=λH' s'=>k H' (s.trans s')
section
variable{P:Program}{w:World}{K:Frag}{mg:Str->Option Value}{base:Heap}{C:Addr}
def ZlZ(F:FltAt K mg C):Flt P w K mg base C:=by
 obtain⟨fI,fd,h1,h2,h3,h4,h5,h6⟩:=F.ex;refine⟨fI,fd,h1,?_,h3,h4,h5,h6⟩;refine h2.ok ZnL (λvs H Q E h=>?_) (λ_ A _ s H vs Q E _ h=>?_)
 ·obtain⟨e,t,n,rfl,_⟩:=h
  rfl
 ·obtain⟨e,t,n,rfl,he,k⟩:=h
  refine⟨_,Zh (ZjE h1 (pv 0) (pv 1) rfl),?_⟩;refine⟨_,rfl,_,rfl,e,t,n,rfl,rfl,he,λd hd hde=>k _ d Zb ?_ hd hde λb o hb hbe=>?_⟩
  ·rw[Zj hde,Zb]
  ·rw[Zj hbe,Zj (Zi hb hd)]
   exact hb
end
section
variable{X:Cx}{C:Addr}{E:XK}{k:Nat}{a:Expr}{te:TE}{np cpos pos:Pos}
def Vw(D:Flt X.prog X.w X.K X.mg X.base C)(hc:X.calm=true)(fl:ZfL X E)(hr:Room (k+2) X.A)(hg:Gl X "Fault")(ha:PE X a te)(he:starEach [a] X.env=[(false,eval a X.env)]:=by rfl) :
  PS X (.Raise (some (.Call (.Name "Fault" np) [a] [] cpos)) none pos) (Zgg C E te):=by
 obtain⟨fI,fd,h1,h2,h3,h4,h5,h6⟩:=D.ex;exact ZgD hc fl h1 h2 (hr.mono (by omega)) h3 h4 hg h5 h6 ha (by decide) he
end
section
variable{P:Program}{w:World}{K:Frag}{mg:Str->Option Value}{base:Heap}{W M L C:Addr}
inductive Zay(C:Addr):List V->Hp->VK->XK->Prop|mk {vs H Q E} (a:Addr) (s:Rotor.Bytes) (o lo hi:Nat):vs=[.ref a,.int (o:Int),.int (lo:Int),.int (hi:Int)]->H a=some (.lst (nv (RM.bn s)))->s.length<=1000000->(∀x,Rotor.field s o 1 (λx=>decide (lo<=x)&&decide (x<=hi)) = .ok x->RV H Q (.int (x:Int)))/\(∀n,Rotor.field s o 1 (λx=>decide (lo<=x)&&decide (x<=hi)) = .error n->ER C H E n)->Zay C vs H Q E
def Zlu:Zl ["s", "place", "least", "most"] ["s", "place", "least", "most"] (Ze (top 57)):=fsc
def ZfJ{s:Rotor.Bytes}{i:Nat}(h:i<s.length):atI (nv (RM.bn s)) (i:Int)=some (V.int (at_ (RM.bn s) i:Int)):=YK (by rw[RM.Jd];exact h)
def Zj5(G:Gm mg)(Fl:Flt P w K mg base C)(F:At K mg "byte_from" (top 57) ["s", "place", "least", "most"]):Def P w K mg base (CXF P w) 3 "byte_from" ["s", "place", "least", "most"] (Zay C):=by
 refine F.okX Zlu (λvs H Q E h=>?_) (λf _ A _ s H vs Q E hr h=>?_)
 ·obtain⟨a,s,o,lo,hi,rfl,_⟩:=h
  rfl
 ·obtain⟨a,bs,o,lo,hi,rfl,ha,hl,k1,k2⟩:=h
  refine⟨_,Zc (ZW (ZJ ZkC (pv 1) (Zv Zp rfl G.len PySem.boot_len (Za (pv 0) Zd)) (ZG _)) (Zh (Vw Fl rfl YM hr rfl (Zv Zp rfl G.len PySem.boot_len (Za (pv 0) Zd)))) ZB)
   (Zc (ZW (PW.pt (Zeu (ZJ Za7 (Ja (r:=JX K) ZM (pv 0) (pv 1) (λ_ _=>rfl)) (pv 2) (ZG _)) (ZcM (ZJ Vy (Ja (r:=JX K) ZM (pv 0) (pv 1) (λ_ _=>rfl)) (pv 3) (ZG _))))) (Zh (Vw Fl rfl YM hr rfl (pv 1))) ZB)
   (Zh (Zn (Ja (r:=JX K) ZM (pv 0) (pv 1) (λ_ _=>rfl))))),?_⟩;rw[RM.Ze9] at k1 k2;have el:(nv (RM.bn bs)).length=bs.length:=by rw[Zf,RM.Jd]
  refine⟨_,rfl,_,rfl,a,_,rfl,.inl (SqL.of ha),_,_,rfl,rfl,_,rfl,Jl (λh=>?_) λh=>?_⟩
  ·have h:=of_decide_eq_true h
   rw[el] at h;rw[if_pos (show bs.length<=o by omega)] at k2;exact⟨_,rfl,a,_,rfl,.inl (SqL.of ha),bs.length,by rw[el],λH' s'=>k2 _ rfl H' s'⟩
  ·have h:¬ ((nv (RM.bn bs)).length:Int)<=(o:Int):=λy=>h (decide_eq_true y)
   rw[el] at h;rw[if_neg (show ¬ bs.length<=o by omega)] at k1 k2;have ho:o<bs.length:=by omega
   have get:=ZfJ ho;refine⟨_,rfl,_,rfl,a,_,_,_,rfl,rfl,SqL.of ha,get,_,rfl,_,_,rfl,rfl,_,rfl,Jl (λh1=>JT ?_) λh1=>?_⟩
   ·have h1:=of_decide_eq_true h1
    rw[if_neg (by rw[decide_eq_false (show ¬ lo<=at_ (RM.bn bs) o by omega),Bool.false_and];decide)] at k2;exact⟨_,rfl,o,rfl,λH' s'=>k2 _ rfl H' s'⟩
   ·have h1:¬ (at_ (RM.bn bs) o:Int)<(lo:Int):=λy=>h1 (decide_eq_true y)
    refine⟨_,rfl,_,rfl,a,_,_,_,rfl,rfl,SqL.of ha,get,_,rfl,_,_,rfl,rfl,_,rfl,Jl (λh2=>?_) λh2=>?_⟩
    ·have h2:=of_decide_eq_true h2
     rw[if_neg (by rw[decide_eq_false (show ¬ at_ (RM.bn bs) o<=hi by omega),Bool.and_false];decide)] at k2;exact⟨_,rfl,o,rfl,λH' s'=>k2 _ rfl H' s'⟩
    ·have h2:¬ (hi:Int)<(at_ (RM.bn bs) o:Int):=λy=>h2 (decide_eq_true y)
     rw[if_pos (by rw[decide_eq_true (show lo<=at_ (RM.bn bs) o by omega),decide_eq_true (show at_ (RM.bn bs) o<=hi by omega)];decide)] at k1;exact⟨_,rfl,_,rfl,a,_,_,_,rfl,rfl,SqL.of ha,get,k1 _ rfl H (Same.refl H)⟩
inductive ZiH(C:Addr):List V->Hp->VK->XK->Prop|mk {vs H Q E} (a:Addr) (s:Rotor.Bytes) (o n:Nat):vs=[.ref a,.int (o:Int),.int (n:Int)]->H a=some (.lst (nv (RM.bn s)))->s.length<=1000000->n<=16->(∀x,Rotor.field s o 2 (λx=>decide (x<2^n)) = .ok x->RV H Q (.int (x:Int)))/\(∀e,Rotor.field s o 2 (λx=>decide (x<2^n)) = .error e->ER C H E e)->ZiH C vs H Q E
def ZkQ:Zl ["s", "place", "n", "notches"] ["s", "place", "n"] (Ze (top 58)):=fsc
def Zl3(G:Gm mg)(Fl:Flt P w K mg base C)(F:At K mg "notches_from" (top 58) ["s", "place", "n"]):Def P w K mg base (CXF P w) 3 "notches_from" ["s", "place", "n"] (ZiH C):=by
 refine F.okX ZkQ (λvs H Q E h=>?_) (λf _ A _ s H vs Q E hr h=>?_)
 ·obtain⟨a,s,o,n,rfl,_⟩:=h
  rfl
 ·obtain⟨a,bs,o,n,rfl,ha,hl,hn,k1,k2⟩:=h
  have nd:=ZkQ.nd;refine⟨_,Zc (ZW (ZJ Vy (ZD Z5 (pv 1) Zq) (Zv Zp rfl G.len PySem.boot_len (Za (pv 0) Zd)) (ZG _)) (Zh (Vw Fl rfl YM hr rfl (Zv Zp rfl G.len PySem.boot_len (Za (pv 0) Zd)))) ZB)
   (Zc (Zk (i:=3) nd rfl (ZD Z5 (Ja (r:=JX K) ZM (pv 0) (pv 1) (λ_ _=>rfl)) (ZD DL Zq (Ja (r:=JX K) ZM (pv 0) (ZD Z5 (pv 1) Zq) (λ_ _=>rfl)))))
   (Zc (ZW (ZJ Zb0 (ZD Zis (pv 3) (pv 2)) Zq (ZG _)) (Zh (Vw Fl rfl YM hr rfl (pv 1))) ZB)
   (Zh (Zn (pv 3))))),?_⟩;rw[RM.Zlh] at k1 k2;have el:(nv (RM.bn bs)).length=bs.length:=by rw[Zf,RM.Jd]
  refine⟨_,rfl,_,_,rfl,rfl,_,rfl,a,_,rfl,.inl (SqL.of ha),_,_,rfl,rfl,_,rfl,Jl (λh=>?_) λh=>?_⟩
  ·have h:((nv (RM.bn bs)).length:Int)<(o:Int)+2:=of_decide_eq_true h
   rw[el] at h;rw[if_pos (show bs.length<o+2 by omega)] at k2;exact⟨_,rfl,a,_,rfl,.inl (SqL.of ha),bs.length,by rw[el],λH' s'=>k2 _ rfl H' s'⟩
  ·have h:¬ ((nv (RM.bn bs)).length:Int)<(o:Int)+2:=λy=>h (decide_eq_true y)
   rw[el] at h;rw[if_neg (show ¬ bs.length<o+2 by omega)] at k1 k2;have g0:=ZfJ (s:=bs) (show o<bs.length by omega);have g1:=ZfJ (s:=bs) (show o+1<bs.length by omega);refine⟨_,rfl,_,rfl,a,_,_,_,rfl,rfl,SqL.of ha,g0,_,rfl,_,rfl,_,_,rfl,rfl,a,_,_,_,rfl,rfl,SqL.of ha,g1,_,_,rfl,rfl,.inl ⟨by omega,by omega⟩,_,_,rfl,rfl,?_⟩;have ev:((at_ (RM.bn bs) o:Int)+256*(at_ (RM.bn bs) (o+1):Int))=((at_ (RM.bn bs) o+256*at_ (RM.bn bs) (o+1):Nat):Int):=by omega
   generalize at_ (RM.bn bs) o+256*at_ (RM.bn bs) (o+1)=x at k1 k2 ev;have e3:=congrArg (λz=>some (some (V.int z))) ev;refine⟨V.int (x:Int),e3,_,rfl,_,_,rfl,rfl,by omega,rfl,_,rfl,Jl (λh2=>?_) λh2=>?_⟩
   ·have big:¬ x<2^n:=λhx=>by
     have e:(x:Int) / 2^((n:Nat):Int).toNat=0:=by
      rw[Int.toNat_natCast];apply Int.ediv_eq_zero_of_lt (by omega);have:((2^n:Nat):Int)=(2:Int)^n:=by rw[Int.natCast_pow];rfl
      omega
     simp only[e] at h2;exact absurd h2 (by decide)
    rw[if_neg (by rw[decide_eq_true_eq];exact big)] at k2;exact⟨_,rfl,o,rfl,λH' s'=>k2 _ rfl H' s'⟩
   ·have small:x<2^n:=by
     refine Classical.byContradiction λhx=>h2 ?_;rw[Bool.not_eq_true',decide_eq_false_iff_not];intro e;injection e with e
     rw[Int.toNat_natCast] at e;have c:((2^n:Nat):Int)=(2:Int)^n:=by rw[Int.natCast_pow];rfl
     rw[<- c,<- Int.natCast_ediv] at e;have:x / 2^n=0:=by omega
     rcases Nat.div_eq_zero_iff.mp this with y|y
     ·exact absurd y (Nat.ne_of_gt (Nat.two_pow_pos n))
     ·exact hx y
    rw[if_pos (by rw[decide_eq_true_eq];exact small)] at k1;exact⟨_,e3,k1 _ rfl H (Same.refl H)⟩
inductive Zc2(C:Addr):List V->Hp->VK->XK->Prop|mk {vs H Q E} (a:Addr) (s:Rotor.Bytes) (o n:Nat):vs=[.ref a,.int (o:Int),.int (n:Int)]->H a=some (.lst (nv (RM.bn s)))->s.length<=1000000->1<=n->n<=16->(∀r,Rotor.lettersIn s n n o [] = .ok r->RL H Q (nv (RM.pad n r)))/\(∀e,Rotor.lettersIn s n n o [] = .error e->ER C H E e)->Zc2 C vs H Q E
def ZhP:Zl ["s", "place", "n", "letters", "i", "letter"] ["s", "place", "n"] (Ze (top 59)):=fsc
def Zji(l:List Nat):(nv l).all Di=true:=by
 rw[all_eq_true];intro x hx;obtain⟨y,_,rfl⟩:=mem_map.mp hx;rfl
def Zmw(x:Nat)(l:List Nat):inV (V.int (x:Int)) (nv l)=l.contains x:=by
 unfold inV nv;rw[any_map,Bool.eq_iff_iff,any_eq_true,List.contains_iff_mem];constructor
 ·rintro⟨y,hy,e⟩
  have e:((y:Int)==(x:Int))=true:=e;rw[beq_iff_eq] at e;have:y=x:=by omega
  rw[<- this];exact hy
 ·intro h
  refine⟨x,h,?_⟩;show((x:Int)==(x:Int))=true;rw[beq_iff_eq]
def Zj3(G:Gm mg)(Fl:Flt P w K mg base C)(D1:Def P w K mg base (CXF P w) 3 "byte_from" ["s", "place", "least", "most"] (Zay C))(F:At K mg "permutation_from" (top 59) ["s", "place", "n"]):Def P w K mg base (CXF P w) 4 "permutation_from" ["s", "place", "n"] (Zc2 C):=by
 refine F.okX ZhP (λvs H Q E h=>?_) (λf _ A _ s H vs Q E hr h=>?_)
 ·obtain⟨a,s,o,n,rfl,_⟩:=h
  rfl
 ·obtain⟨a,bs,o,n,rfl,ha,hl,h1,hn,k1,k2⟩:=h
  have nd:=ZhP.nd;refine⟨_,Zc (Zk (i:=3) nd rfl (Zx Zd)) (Zc (Z6 Zcv rfl (JH rfl G.range (Za (pv 2) Zd)) (Zo (i:=4) nd rfl)
    (Zc (Zk (i:=5) nd rfl (pc D1 hr rfl ZH (Za (pv 0) (Za (ZD Z5 (pv 1) (pv 4)) (Za Zq (Za (ZD Uw (pv 2) Zq) Zd))))))
    (Zc (ZW (ZJ ZgO (pv 5) (pv 3) rfl) (Zh (Vw Fl rfl YM hr rfl (ZD Z5 (pv 1) (pv 4)))) ZB)
    (Zh (Z3 (J4 PySem.F.plainAttrs_list PySem.F.slot_list_append PySem.F.type_list_append JO (pv 3) (Za (pv 5) Zd)))))))
   (Zh (Zn (ZD DO (pv 3) (JJ (JS rfl) rfl G.list boot_list (Za (Zf0 rfl G.range (Za (pv 2) (Za (pk G.most rfl) Zd))) Zd)))))),?_⟩;refine⟨Zs (by decide),λp hp=>⟨_,rfl,_,rfl,by omega,by omega,JY (lo:=0) (n:=n) (λi σ H'=>∃(l:List Nat) (v4 v5:Option V),σ=[some (.ref a),some (.int (o:Int)),some (.int (n:Int)),some (.ref p),v4,v5]/\Same H H'/\l.length=i/\H' p=some (.lst (nv l)) /\
   Rotor.lettersIn bs n n o []=Rotor.lettersIn bs n (n-i) (o+i) l) ⟨[],none,none,rfl,Zg hp,rfl,Zb,rfl⟩ ?_ ?_⟩⟩
  ·rintro i σ H' hi ⟨l,v4,v5,rfl,sm,ll,hP,el⟩
   rw[show n-i=(n-(i+1))+1 by omega,RM.Uv] at el;have ef:=RM.Ze9 bs (o+i) (λx=>decide (0<=x)&&decide (x<=n-1));refine⟨_,rfl,_,rfl,_,rfl,_,_,rfl,rfl,_,rfl,_,_,rfl,rfl,a,bs,o+i,0,n-1,?_,sm _ _ ha,hl,λx hx H2 s2=>?_,λe he=>?_⟩
   ·show [V.ref a,V.int ((o:Int)+(0+(i:Int))),V.int 0,V.int ((n:Int)-1)]=[V.ref a,V.int ((o+i:Nat):Int),V.int ((0:Nat):Int),V.int ((n-1:Nat):Int)]
    rw[show(o:Int)+(0+(i:Int))=((o+i:Nat):Int) by omega,show(n:Int)-1=((n-1:Nat):Int) by omega];rfl
   ·rw[ef] at hx
    by_cases c1:bs.length<=o+i
    ·rw[if_pos c1] at hx
     cases hx
    rw[if_neg c1] at hx el;by_cases c2:(decide (0<=at_ (RM.bn bs) (o+i))&&decide (at_ (RM.bn bs) (o+i)<=n-1))=true
    ·rw[if_pos c2] at hx
     cases hx;rw[Bool.and_eq_true,decide_eq_true_eq,decide_eq_true_eq] at c2;rw[decide_eq_true (show at_ (RM.bn bs) (o+i)<n by omega),Bool.true_and] at el;generalize at_ (RM.bn bs) (o+i)=x at *;refine⟨_,rfl,_,rfl,p,_,rfl,.inl (SqL.of (s2 _ _ hP)),rfl,Zji l,_,rfl,?_⟩;show if inV (V.int (x:Int)) (nv l)=true then _ else _
     rw[Zmw];refine Jl (λc3=>?_) λc3=>?_
     ·rw[c3,if_neg (by decide)] at el
      refine⟨_,rfl,_,rfl,_,_,rfl,rfl,o+i,?_,λH' s'=>k2 _ el H' ((sm.trans s2).trans s')⟩;show [V.int ((o:Int)+(0+(i:Int)))]=_;rw[show(o:Int)+(0+(i:Int))=((o+i:Nat):Int) by omega]
     ·have c3:l.contains x=false:=by simpa using c3
      rw[c3,if_pos (by decide)] at el;refine⟨_,rfl,.inl ⟨rfl,_,SqL.of (s2 _ _ hP)⟩,_,rfl,p,_,_,rfl,rfl,s2 _ _ hP,?_,l++[x],some (.int (0+(i:Int))),some (.int (x:Int)),rfl,Same.upd (sm.trans s2) hp,by rw[length_append,ll];rfl,by rw[Zb,JK],?_⟩
      ·rw[Zf]
       exact ZF (by omega)
      ·rw[el,Nat.add_assoc]
    ·rw[if_neg c2] at hx
     cases hx
   ·rw[ef] at he
    by_cases c1:bs.length<=o+i
    ·rw[if_pos c1] at he el
     cases he;exact(k2 _ el).mono sm
    rw[if_neg c1] at he el;by_cases c2:(decide (0<=at_ (RM.bn bs) (o+i))&&decide (at_ (RM.bn bs) (o+i)<=n-1))=true
    ·rw[if_pos c2] at he
     cases he
    ·rw[if_neg c2] at he
     cases he;rw[Bool.and_eq_true,decide_eq_true_eq,decide_eq_true_eq] at c2;rw[decide_eq_false (show ¬ at_ (RM.bn bs) (o+i)<n by omega),Bool.false_and,if_neg (by decide)] at el;exact(k2 _ el).mono sm
  ·rintro σ H' ⟨l,v4,v5,rfl,sm,ll,hP,el⟩
   rw[Nat.sub_self] at el;have el:Rotor.lettersIn bs n n o [] = .ok l:=el;refine⟨_,rfl,_,rfl,_,_,rfl,λy hy=>?_⟩;have s5:=sm.trans (Zg (o:=.rng (n:Int) 16) hy);have py:p≠y:=Zi hP hy;refine⟨y,n,16,rfl,Zb,by omega,by omega,by omega,by omega,by omega,λz hz=>?_⟩;have s6:=s5.trans (Zg (o:=.lst (Zah (n:Int) 16)) hz);have pz:p≠z:=Zi (by rw[Zj py];exact hP) hz;refine⟨p,z,nv l,nv (List.range' n (16-n)),rfl,rfl,by rw[Zj pz,Zj py];exact hP,?_,?_,λq hq=>?_⟩
   ·rw[Zb,show(16:Int)=((16:Nat):Int) from rfl,Dv]
   ·rw[Zf,Zf,length_range',ll]
    exact Zs (by omega)
   ·refine k1 l el _ q (s6.trans (Zg hq)) (s6.free hq) ?_
    rw[Zb,<- ZX];rfl
end
structure Gb(mg:Str->Option Value):Prop extends Gm mg where
 mw:∃t,mg "MOST_WHEELS" = some (.int 4 t)
 bb:∃t,mg "BYTES_BEFORE_BOARDS" = some (.int 3 t)
 bs:∃t,mg "BYTES_BEFORE_STAND" = some (.int 2 t)
 bn:∃t,mg "BYTES_BEFORE_NOTCHES" = some (.int 3 t)
 bw:∃t,mg "BYTES_BEFORE_WIRES" = some (.int 5 t)
def Ui{s:Rotor.Bytes}{o lo hi:Nat}{ok:Nat->Bool}(h:∀x,ok x=(decide (lo<=x)&&decide (x<=hi))):Rotor.field s o 1 (λx=>decide (lo<=x)&&decide (x<=hi))=Rotor.field s o 1 ok:=by
 rw[show ok=λx=>decide (lo<=x)&&decide (x<=hi) from funext h]
def Zip(hi:Nat):∀x,(λx=>decide (x<=hi)) x=(decide (0<=x)&&decide (x<=hi)):=λx=>by simp
def ZkR{n:Nat}(h:1<=n):∀x,(λx=>decide (x<n)) x=(decide (0<=x)&&decide (x<=n-1)):=λx=>by
 rw[Bool.eq_iff_iff,Bool.and_eq_true,decide_eq_true_eq,decide_eq_true_eq,decide_eq_true_eq];omega
section
variable{P:Program}{w:World}{K:Frag}{mg:Str->Option Value}{base:Heap}{W M L C:Addr}
inductive Zit(W C:Addr):List V->Hp->VK->XK->Prop|mk {vs H Q E} (a:Addr) (s:Rotor.Bytes) (o n i:Nat):vs=[.ref a,.int (o:Int),.int (n:Int),.int ((if i=0 then 1 else 3:Nat):Int)]->H a=some (.lst (nv (RM.bn s)))->s.length<=1000000->2<=n->n<=16->(∀x,RM.Y1 s n i o = .ok x->∀(H':Hp) (p:Addr),Same H H'->JM W n (new H H') p x.1->Q (.ref p) H')/\(∀e,RM.Y1 s n i o = .error e->ER C H E e)->Zit W C vs H Q E
def ZkB:Zl ["s", "place", "n", "most_kind", "kind", "ring", "notches", "wires"] ["s", "place", "n", "most_kind"] (Ze (top 60)):=fsc
def Ze3(s:Rotor.Bytes)(n i o:Nat):RM.Y1 s n i o=(Rotor.field s o 1 λx=>decide (x<=if i=0 then 1 else 3)).bind λkind=>(Rotor.field s (o+1) 1 λx=>decide (x<n)).bind λring=>(Rotor.field s (o+2) 1 λx=>decide (x<n)).bind λp=>
  (Rotor.field s (o+3) 2 λx=>decide (x<2^n)).bind λnotches=>(Rotor.lettersIn s n n (o+5) []).bind λwires=>.ok (⟨kind,ring,notches,wires⟩,p):=rfl
def ZlO(G:Gb mg)(D1:Def P w K mg base (CXF P w) 3 "byte_from" ["s", "place", "least", "most"] (Zay C))(D2:Def P w K mg base (CXF P w) 3 "notches_from" ["s", "place", "n"] (ZiH C))(D3:Def P w K mg base (CXF P w) 4 "permutation_from" ["s", "place", "n"] (Zc2 C))
  (D4:ZdQ P w K mg base CX0 2 "Wheel" W ["self", "n", "kind", "ring", "notches", "wires"] (Zda W)) (F:At K mg "wheel_from" (top 60) ["s", "place", "n", "most_kind"]):Def P w K mg base (CXF P w) 5 "wheel_from" ["s", "place", "n", "most_kind"] (Zit W C):=by
 refine F.okX ZkB (λvs H Q E h=>?_) (λf _ A _ s H vs Q E hr h=>?_)
 ·obtain⟨a,s,o,n,i,rfl,_⟩:=h
  rfl
 ·obtain⟨a,bs,o,n,i,rfl,ha,hl,h2,hn,k1,k2⟩:=h
  have nd:=ZkB.nd;have hr3:=hr.mono (show 3<=4 by decide);refine⟨_,Zc (Zk (i:=4) nd rfl (pc D1 hr3 rfl ZH (Za (pv 0) (Za (pv 1) (Za Zq (Za (pv 3) Zd))))))
   (Zc (Zk (i:=5) nd rfl (pc D1 hr3 rfl ZH (Za (pv 0) (Za (ZD Z5 (pv 1) Zq) (Za Zq (Za (ZD Uw (pv 2) Zq) Zd))))))
   (Zc (Z3 (pc D1 hr3 rfl ZH (Za (pv 0) (Za (ZD Z5 (pv 1) (pk G.bs rfl)) (Za Zq (Za (ZD Uw (pv 2) Zq) Zd))))))
   (Zc (Zk (i:=6) nd rfl (pc D2 hr3 rfl ZH (Za (pv 0) (Za (ZD Z5 (pv 1) (pk G.bn rfl)) (Za (pv 2) Zd)))))
   (Zc (Zk (i:=7) nd rfl (pc D3 hr rfl ZH (Za (pv 0) (Za (ZD Z5 (pv 1) (pk G.bw rfl)) (Za (pv 2) Zd)))))
   (Zh (Zn (pcm D4 hr3 rfl Zm (Za (pv 2) (Za (pv 4) (Za (pv 5) (Za (pv 6) (Za (pv 7) Zd))))))))))))
   ,?_⟩;rw[Ze3] at k1 k2;have en:((n:Int)-1)=((n-1:Nat):Int):=by omega
  refine⟨_,rfl,_,rfl,_,rfl,a,bs,o,0,_,rfl,ha,hl,?_⟩;rw[Ui (Zip _)];cases e1:Rotor.field bs o 1 (λx=>decide (x<=if i=0 then 1 else 3)) with
  |error e=>
   rw[e1] at k2;exact⟨(λx hx=>nomatch hx),λe' he=>by cases he;exact k2 _ rfl⟩
  |ok kind=>
  refine⟨λx hx H1 s1=>?_,(λe he=>nomatch he)⟩;cases hx;rw[e1] at k1 k2;refine⟨_,rfl,_,rfl,_,_,rfl,rfl,_,rfl,_,_,rfl,rfl,a,bs,o+1,0,n-1,?_,s1 _ _ ha,hl,?_⟩
  ·show [V.ref a,V.int ((o:Int)+1),V.int 0,V.int ((n:Int)-1)]=_
   rw[en];rfl
  rw[Ui (ZkR (by omega))];cases e2:Rotor.field bs (o+1) 1 (λx=>decide (x<n)) with
  |error e=>
   have k2:=k2 e (by show(Rotor.field bs (o+1) 1 (λx=>decide (x<n))).bind _=_;rw[e2];rfl);exact⟨(λx hx=>nomatch hx),λe' he=>by cases he;exact k2.mono s1⟩
  |ok ring=>
  refine⟨λx hx H2 s2=>?_,(λe he=>nomatch he)⟩;cases hx;have sH2:=s1.trans s2;refine⟨_,rfl,_,rfl,_,_,rfl,rfl,_,rfl,_,_,rfl,rfl,a,bs,o+2,0,n-1,?_,sH2 _ _ ha,hl,?_⟩
  ·show [V.ref a,V.int ((o:Int)+2),V.int 0,V.int ((n:Int)-1)]=_
   rw[en];rfl
  rw[Ui (ZkR (by omega))];cases e3:Rotor.field bs (o+2) 1 (λx=>decide (x<n)) with
  |error e=>
   have k2:=k2 e (by show(Rotor.field bs (o+1) 1 (λx=>decide (x<n))).bind _=_;rw[e2,e3];rfl);exact⟨(λx hx=>nomatch hx),λe' he=>by cases he;exact k2.mono sH2⟩
  |ok p=>
  refine⟨λx hx H3 s3=>?_,(λe he=>nomatch he)⟩;cases hx;have sH3:=sH2.trans s3;refine⟨_,rfl,_,rfl,_,_,rfl,rfl,_,rfl,a,bs,o+3,n,rfl,sH3 _ _ ha,hl,hn,?_⟩;cases e4:Rotor.field bs (o+3) 2 (λx=>decide (x<2^n)) with
  |error e=>
   have k2:=k2 e (by show(Rotor.field bs (o+1) 1 (λx=>decide (x<n))).bind _=_;rw[e2,e3,e4];rfl);exact⟨(λx hx=>nomatch hx),λe' he=>by cases he;exact k2.mono sH3⟩
  |ok notches=>
  refine⟨λx hx H4 s4=>?_,(λe he=>nomatch he)⟩;cases hx;have sH4:=sH3.trans s4;refine⟨_,rfl,_,rfl,_,_,rfl,rfl,_,rfl,a,bs,o+5,n,rfl,sH4 _ _ ha,hl,by omega,hn,?_⟩;cases e5:Rotor.lettersIn bs n n (o+5) [] with
  |error e=>
   have k2:=k2 e (by show(Rotor.field bs (o+1) 1 (λx=>decide (x<n))).bind _=_;rw[e2,e3,e4,e5];rfl);exact⟨(λx hx=>nomatch hx),λe' he=>by cases he;exact k2.mono sH4⟩
  |ok wires=>
  refine⟨λx hx H5 q s5 nq hq=>?_,(λe he=>nomatch he)⟩;cases hx;have sH5:=sH4.trans s5;have k1:=k1 _ (show(Rotor.field bs (o+1) 1 (λx=>decide (x<n))).bind _ = .ok ((⟨kind,ring,notches,wires⟩ : Rotor.Wheel),p) by rw[e2,e3,e4,e5];rfl);refine⟨_,rfl,_,rfl,_,rfl,_,rfl,_,rfl,λx dx hx hdx _=>?_⟩;have qx:q≠x:=Zi hq hx;have qdx:q≠dx:=Zi hq hdx;refine⟨x,q,dx,n,⟨kind,ring,notches,wires⟩,rfl,Zb,by rw[Zj qx,Zj qdx];exact hq,h2,hn,of_decide_eq_true (RM.YN e2).2.1,RM.VG hn e5,λH' ab rs sb g1 g2 g3 g4 g5=>⟨rfl,?_⟩⟩;have sH':=sb.made hx hdx;have un:∀b,upd (upd H5 dx (.own x)) x (.ins W dx []) b=none->H5 b=none:=λb hb=>by
   cases e:H5 b with
   |none=>rfl
   |some u=>
    rw[Zj (Zi e hx),Zj (Zi e hdx),e] at hb;cases hb
  refine k1 H' x (sH5.trans sH') ⟨dx,q,ab,rs,Yk (sH5.free hx) g1,Yk (sH4.free nq) (sH' _ _ hq),Yk (sH5.free (un _ g2)) g3,g4,λi r hr=>Yk (sH5.free (un _ (g5 i r hr).1)) (g5 i r hr).2⟩
end
def ZcB{H H1 H':Hp}(s:∀b,H1 b=none->H b=none):Same (new H1 H') (new H H'):=λb u e=>Yk (s b (VI e).1) (VI e).2
def Zif{H:Hp}{p b:Addr}{o:HO}(h:L2.upd H p o b=none):H b=none/\b≠p:=by
 have n:b≠p:=λe=>by rw[e,Zb] at h;cases h
 rw[Zj n] at h;exact⟨h,n⟩
def WheelsAt.snoc{W:Addr}{n:Nat}{H:Hp}{as:List Addr}{ws:List Rotor.Wheel}{a:Addr}{w:Rotor.Wheel}(h:WheelsAt W n H as ws)(k:JM W n H a w):WheelsAt W n H (as++[a]) (ws++[w]):=by
 refine⟨by rw[length_append,length_append,h.len];rfl,λi b v h1 h2=>?_⟩;rcases Vp h1 with h1|⟨rfl,rfl⟩
 ·have hi:i<ws.length:=by rw[<- h.len];exact(List.getElem?_eq_some_iff.mp h1).1
  rw[getElem?_append_left hi] at h2;exact h.at_ i b v h1 h2
 ·rw[h.len,getElem?_append_right (Nat.le_refl _),Nat.sub_self] at h2
  cases (Option.some.inj h2);exact k
def ZaI{ε α β γ:Type}(x:Except ε α)(f:α->Except ε β)(g:β->Except ε γ):(x.bind f).bind g=x.bind λa=>(f a).bind g:=by
 cases x<;>rfl
section
variable{P:Program}{w:World}{K:Frag}{mg:Str->Option Value}{base:Heap}{W M L C:Addr}
inductive ZiG(W C:Addr):List V->Hp->VK->XK->Prop|mk {vs H Q E} (a:Addr) (s:Rotor.Bytes) (o n k:Nat):vs=[.ref a,.int (o:Int),.int (n:Int),.int (k:Int)]->H a=some (.lst (nv (RM.bn s)))->s.length<=1000000->2<=n->n<=16->k<=4->o<=s.length->(∀r,Rotor.wheelsIn s n k 0 o = .ok r->(s.length≠r.2->ER C H E r.2)/\(s.length=r.2->∀(H':Hp) (p:Addr) (as:List Addr),Same H H'->H p=none->H' p=some (.lst (rv as))->WheelsAt W n (new H H') as (r.1.map λx=>x.1)->Q (.ref p) H'))/\(∀e,Rotor.wheelsIn s n k 0 o = .error e->ER C H E e)->ZiG W C vs H Q E
def ZkD:Zl ["s", "place", "n", "how_many", "wheels", "number", "most_kind"] ["s", "place", "n", "how_many"] (Ze (top 61)):=fsc
def Zlo(G:Gb mg)(Fl:Flt P w K mg base C)(D1:Def P w K mg base (CXF P w) 5 "wheel_from" ["s", "place", "n", "most_kind"] (Zit W C))(F:At K mg "wheels_from" (top 61) ["s", "place", "n", "how_many"]) :
  Def P w K mg base (CXF P w) 6 "wheels_from" ["s", "place", "n", "how_many"] (ZiG W C):=by
 refine F.okX ZkD (λvs H Q E h=>?_) (λf _ A _ s H vs Q E hr h=>?_)
 ·obtain⟨a,s,o,n,k,rfl,_⟩:=h
  rfl
 ·obtain⟨a,bs,o,n,k,rfl,ha,hl,h2,hn,hk,ho,k1,k2⟩:=h
  have nd:=ZkD.nd;refine⟨_,Zc (Zk (i:=4) nd rfl (Zx Zd)) (Zc (Z6 Zcv rfl (JH rfl G.range (Za (pv 3) Zd)) (Zo (i:=5) nd rfl)
    (Zc (Zk (i:=6) nd rfl (YV (ZJ Vv (pv 5) Zq (ZG _)) (pk G.k1 rfl) (pk G.k3 rfl)))
    (Zc (Z3 (J4 PySem.F.plainAttrs_list PySem.F.slot_list_append PySem.F.type_list_append JO (pv 4) (Za (pc D1 hr rfl ZH (Za (pv 0) (Za (pv 1) (Za (pv 2) (Za (pv 6) Zd))))) Zd)))
    (Zh (Zdh (i:=1) nd rfl (Or.inl rfl) (ZD Z5 (pk G.bw rfl) (pv 2)) Zcf)))))
   (Zc (ZW (ZJ Za7 (pv 1) (Zv Zp rfl G.len PySem.boot_len (Za (pv 0) Zd)) (ZG _)) (Zh (Vw (k:=3) Fl rfl YM hr rfl (pv 1))) ZB)
   (Zh (Zn (pv 4))))),?_⟩;refine⟨Zs (by decide),λp hp=>⟨_,rfl,_,rfl,by omega,by omega,JY (lo:=0) (n:=k) (λi σ H'=>∃(done:List (Rotor.Wheel×Nat)) (as:List Addr) (v5 v6:Option V),σ=[some (.ref a),some (.int ((o+i*(5+n):Nat):Int)),some (.int (n:Int)),some (.int (k:Int)),some (.ref p),v5,v6]/\Same H H'/\as.length=i/\H' p=some (.lst (rv as)) /\
   WheelsAt W n (new (upd H p (.lst [])) H') as (done.map λx=>x.1)/\Rotor.wheelsIn bs n k 0 o=(Rotor.wheelsIn bs n (k-i) i (o+i*(5+n))).bind λl=>.ok (done++l.1,l.2)) ⟨[],[],none,none,by rw[Nat.zero_mul,Nat.add_zero];rfl,Zg hp,rfl,Zb,⟨rfl,λi a w h1 _=>by simp at h1⟩,?_⟩ ?_ ?_⟩⟩
  ·rw[Nat.zero_mul,Nat.add_zero,Nat.sub_zero]
   cases Rotor.wheelsIn bs n k 0 o<;>rfl
  ·rintro i σ H' hi ⟨done,as,v5,v6,rfl,sm,al,hP,hW,ew⟩
   rw[show k-i=(k-(i+1))+1 by omega,RM.UN,ZaI] at ew;have eσ:∀v:Int,[some (V.ref a),some (.int ((o+i*(5+n):Nat)+(5+(n:Int)))),some (.int (n:Int)),some (.int (k:Int)),some (.ref p),some (.int (0+(i:Int))),some (.int v)]=[some (.ref a),some (.int ((o+(i+1)*(5+n):Nat):Int)),some (.int (n:Int)),some (.int (k:Int)),some (.ref p),some (.int (0+(i:Int))),some (.int v)]:=λv=>by
    rw[show(((o+i*(5+n):Nat):Int)+(5+(n:Int)))=((o+(i+1)*(5+n):Nat):Int) by rw[Nat.succ_mul];omega]
   have dom:∀H',Same H H'->H' p≠none->∀b,H' b=none->upd H p (.lst []) b=none:=λH' sm hP b hb=>by
    rw[Zj (λe=>hP (by rw[<- e];exact hb))];exact sm.free hb
   refine⟨_,rfl,rfl,_,rfl,Jl (λh=>?_) λh=>?_⟩
   ·have h:=of_decide_eq_true h
    have hv:(1:Int)=((if i=0 then 1 else 3:Nat):Int):=by
     rw[if_pos (by injection h with h;omega)];rfl
    refine⟨_,rfl,.inl ⟨rfl,_,SqL.of hP⟩,_,rfl,_,rfl,_,rfl,_,rfl,a,bs,o+i*(5+n),n,i,congrArg (λz=>[V.ref a,V.int ((o+i*(5+n):Nat):Int),V.int (n:Int),V.int z]) hv,sm _ _ ha,hl,h2,hn,λx hx H2 q s2 wq=>?_,λe he=>(k2 _ (by rw[ew,he];rfl)).mono sm⟩;refine⟨p,_,_,rfl,rfl,s2 _ _ hP,by rw[Zw];exact ZF (by omega),_,rfl,_,rfl,_,_,rfl,rfl,_,_,rfl,rfl,done++[x],as++[q],some (.int (0+(i:Int))),some (.int 1),eσ 1,Same.upd (sm.trans s2) hp,by rw[length_append,al];rfl,by rw[Zb,VE],?_,?_⟩
    ·rw[map_append]
     have sn:Same (new (upd H p (.lst [])) H2) (new (upd H p (.lst [])) (upd H2 p (.lst (rv as++[V.ref q])))):=Zgn Zb;exact((hW.same (Dq s2)).same sn).snoc ((wq.same (ZcB (dom H' sm (by rw[hP];simp)))).same sn)
    ·rw[ew,hx,show o+(i+1)*(5+n)=o+i*(5+n)+5+n by rw[Nat.succ_mul];omega]
     show(Except.bind _ _).bind _=_;rw[ZaI];cases Rotor.wheelsIn bs n (k-(i+1)) (i+1) (o+i*(5+n)+5+n) with
     |error e=>rfl
     |ok l=>
      show Except.ok (done++(x::l.1),l.2)=Except.ok ((done++[x])++l.1,l.2);rw[append_assoc];rfl
   ·have hv:(3:Int)=((if i=0 then 1 else 3:Nat):Int):=by
     rw[if_neg (λe=>h (by rw[e];rfl))];rfl
    refine⟨_,rfl,.inl ⟨rfl,_,SqL.of hP⟩,_,rfl,_,rfl,_,rfl,_,rfl,a,bs,o+i*(5+n),n,i,congrArg (λz=>[V.ref a,V.int ((o+i*(5+n):Nat):Int),V.int (n:Int),V.int z]) hv,sm _ _ ha,hl,h2,hn,λx hx H2 q s2 wq=>?_,λe he=>(k2 _ (by rw[ew,he];rfl)).mono sm⟩;refine⟨p,_,_,rfl,rfl,s2 _ _ hP,by rw[Zw];exact ZF (by omega),_,rfl,_,rfl,_,_,rfl,rfl,_,_,rfl,rfl,done++[x],as++[q],some (.int (0+(i:Int))),some (.int 3),eσ 3,Same.upd (sm.trans s2) hp,by rw[length_append,al];rfl,by rw[Zb,VE],?_,?_⟩
    ·rw[map_append]
     have sn:Same (new (upd H p (.lst [])) H2) (new (upd H p (.lst [])) (upd H2 p (.lst (rv as++[V.ref q])))):=Zgn Zb;exact((hW.same (Dq s2)).same sn).snoc ((wq.same (ZcB (dom H' sm (by rw[hP];simp)))).same sn)
    ·rw[ew,hx,show o+(i+1)*(5+n)=o+i*(5+n)+5+n by rw[Nat.succ_mul];omega]
     show(Except.bind _ _).bind _=_;rw[ZaI];cases Rotor.wheelsIn bs n (k-(i+1)) (i+1) (o+i*(5+n)+5+n) with
     |error e=>rfl
     |ok l=>
      show Except.ok (done++(x::l.1),l.2)=Except.ok ((done++[x])++l.1,l.2);rw[append_assoc];rfl
  ·rintro σ H' ⟨done,as,v5,v6,rfl,sm,al,hP,hW,ew⟩
   rw[Nat.sub_self] at ew;have ew:Rotor.wheelsIn bs n k 0 o = .ok (done,o+k*(5+n)):=by
    rw[ew];show Except.ok (done++[],_)=_;rw[append_nil]
   obtain⟨q1,q2⟩:=k1 _ ew;obtain⟨w1,w2,w3⟩:=RM.Yu (by omega) hn k 0 o _ ew;have le:o+k*(5+n)<=bs.length:=by
    rcases Nat.eq_zero_or_pos k with z|z
    ·rw[z,Nat.zero_mul,Nat.add_zero]
     exact ho
    ·have hk1:k-1<done.length:=by rw[show done.length=k from w2];omega
     have:=(w3 (k-1) _ (getElem?_eq_getElem hk1)).len;have e:(k-1)*(5+n)+(5+n)=k*(5+n):=by
      rw[<- Nat.succ_mul];congr 1;omega
     omega
   have el:(nv (RM.bn bs)).length=bs.length:=by rw[Zf,RM.Jd]
   refine⟨_,rfl,_,rfl,a,_,rfl,.inl (SqL.of (sm _ _ ha)),_,_,rfl,rfl,_,rfl,Jl (λh=>?_) λh=>?_⟩
   ·have h:((o+k*(5+n):Nat):Int)<((nv (RM.bn bs)).length:Int):=of_decide_eq_true h
    rw[el] at h;exact⟨_,rfl,o+k*(5+n),rfl,λH2 s2=>q1 (by show bs.length≠o+k*(5+n);omega) H2 (sm.trans s2)⟩
   ·have h:¬ ((o+k*(5+n):Nat):Int)<((nv (RM.bn bs)).length:Int):=λy=>h (decide_eq_true y)
    rw[el] at h;exact⟨_,rfl,q2 (by show bs.length=o+k*(5+n);omega) H' p as sm hp hP (hW.same (ZcB λb hb=>(Zif hb).1))⟩
end
def rgc{o c k:Nat}(hc:3<=c)(hc2:c<=100)(ho:o<=1000000)(hk:k<=100000):RgC ((o:Int)+2) ((o+k*c:Nat):Int) (c:Int) k:=by
 have hs:Builtin.Range.rangeSize ((o:Int)+2) ((o+k*c:Nat):Int) (c:Int)=(k:Int):=by
  unfold Builtin.Range.rangeSize;rw[if_pos (show(c:Int) > 0 by omega)];rcases Nat.eq_zero_or_pos k with z|z
  ·subst z
   rw[if_neg (by omega)];rfl
  ·obtain⟨j,rfl⟩ : ∃j,k=j+1:=⟨k-1,by omega⟩
   have e:(((o+(j+1)*c:Nat):Int))=(o:Int)+(j:Int)*(c:Int)+(c:Int):=by
    rw[Nat.succ_mul];omega
   have pos:0<=(j:Int)*(c:Int):=Int.mul_nonneg (by omega) (by omega);rw[e,if_pos (by omega),show(o:Int)+(j:Int)*(c:Int)+(c:Int)-((o:Int)+2)-1=((c:Int)-3)+(j:Int)*(c:Int) by omega,Int.add_mul_ediv_right _ _ (by omega),Int.ediv_eq_zero_of_lt (by omega) (by omega)];omega
 have hm:k*c<=100000*100:=Nat.mul_le_mul hk hc2;refine⟨by omega,by omega,?_,hs⟩;unfold Builtin.Range.small Builtin.Range.rangeFitsLong;rw[hs,if_pos (show(c:Int) > 0 by omega)];simp only[Bool.and_eq_true,Bool.or_eq_true,decide_eq_true_eq];refine⟨⟨⟨⟨⟨?_,?_⟩,?_,?_⟩,?_,?_⟩,?_,?_⟩,.inr ⟨?_,?_⟩⟩<;>omega
def ZgH{s:Rotor.Bytes}{n k o:Nat}{r:List (Rotor.Wheel×Nat)×Nat}(h1:1<=n)(hn:n<=16)(h:Rotor.wheelsIn s n k 0 o = .ok r){j:Nat}(hj:j<k) :
  (r.1.map λx=>x.2)[j]? = some (at_ (RM.bn s) (o+j*(5+n)+2))/\o+j*(5+n)+2<s.length:=by
 obtain⟨w1,w2,w3⟩:=RM.Yu h1 hn k 0 o r h;have hj':j<r.1.length:=by omega
 have q:=w3 j _ (getElem?_eq_getElem hj');refine⟨?_,by have:=q.len;omega⟩;rw[getElem?_map,getElem?_eq_getElem hj',<- q.at_];rfl
section
variable{P:Program}{w:World}{K:Frag}{mg:Str->Option Value}{base:Heap}{W M L C:Addr}
inductive Zfx:List V->Hp->VK->XK->Prop|mk {vs H Q E} (a:Addr) (s:Rotor.Bytes) (o n k:Nat) (r:List (Rotor.Wheel×Nat)×Nat):vs=[.ref a,.int (o:Int),.int (n:Int)]->H a=some (.lst (nv (RM.bn s)))->s.length<=1000000->1<=n->n<=16->k<=4->Rotor.wheelsIn s n k 0 o = .ok r->s.length=r.2->RL H Q (nv (r.1.map λx=>x.2))->Zfx vs H Q E
def ZkJ:Zl ["s", "place", "n", "stand"] ["s", "place", "n"] (Ze (top 62)):=fsc
def Zk7(G:Gb mg)(F:At K mg "stands_from" (top 62) ["s", "place", "n"]):Def P w K mg base CX0 1 "stands_from" ["s", "place", "n"] Zfx:=by
 refine F.ok ZkJ (λvs H Q E h=>?_) (λf _ A _ s H vs Q E _ h=>?_)
 ·obtain⟨a,s,o,n,k,r,rfl,_⟩:=h
  rfl
 ·obtain⟨a,bs,o,n,kk,r,rfl,ha,hl,h1,hn,hk,hw,he,k⟩:=h
  have nd:=ZkJ.nd;refine⟨_,Zh (Zn (YA rfl nd (ZbU rfl G.range (Za (ZD Z5 (pv 1) (pk G.bs rfl)) (Za (Zv Zp rfl G.len PySem.boot_len (Za (pv 0) Zd)) (Za (ZD Z5 (pk G.bw rfl) (pv 2)) Zd)))) (own:=[("stand",3)])
   (ZP (N:=["s", "place", "n", "stand"]) (sc:=Ze (top 62)) (by decide +kernel)) (λ_ _ _ _ _=>Zo (i:=3) nd rfl) (λ_ _ _ _ _=>Jf) (λ_ _ _ _ _=>Ja (r:=JX K) ZM (pv 0) (pv 3) (λ_ _=>rfl)))),?_⟩;obtain⟨w1,w2,w3⟩:=RM.Yu h1 hn kk 0 o r hw;have el:(nv (RM.bn bs)).length=o+kk*(5+n):=by rw[Zf,RM.Jd,he,w1]
  have ol:o<=1000000:=by rw[he,w1] at hl;exact Nat.le_trans (Nat.le_add_right _ _) hl
  refine⟨_,rfl,_,_,rfl,rfl,_,rfl,a,_,rfl,.inl (SqL.of ha),_,rfl,_,_,rfl,rfl,(o:Int)+2,_,((5+n:Nat):Int),kk,?_,rgc (by omega) (by omega) ol (by omega),λD hD=>?_⟩
  ·rw[el]
   rfl
  refine Zgw (lo:=(o:Int)+2) (c:=((5+n:Nat):Int)) (n:=kk) (λi H'=>Same H H'/\H' D=some (.lst (nv ((r.1.map λx=>x.2).take i)))) ⟨Zg hD,Zb⟩ ?_ ?_
  ·rintro i H' hi ⟨sm,hD'⟩
   obtain⟨g1,g2⟩:=ZgH h1 hn hw hi;have ev:((o:Int)+2+(i:Int)*((5+n:Nat):Int))=((o+i*(5+n)+2:Nat):Int):=by
    rw[<- Int.natCast_mul];omega
   refine⟨rfl,lcY ⟨_,rfl,_,rfl,a,_,_,_,rfl,congrArg V.int ev,SqL.of (sm _ _ ha),ZfJ g2,_,hD',?_,Same.upd sm hD,?_⟩⟩
   ·rw[Zf,length_take,length_map,w2]
    exact ZF (by omega)
   ·rw[Zb,take_add_one,g1,ZX]
    rfl
  ·rintro H' ⟨sm,hD'⟩
   rw[take_of_length_le (by rw[length_map,w2];exact Nat.le_refl _)] at hD';exact k H' D sm hD hD'
inductive Zkk(W M C:Addr):List V->Hp->VK->XK->Prop|mk {vs H Q E} (a:Addr) (s:Rotor.Bytes):vs=[.ref a]->H a=some (.lst (nv (RM.bn s)))->s.length<=1000000->(∀m p,Rotor.machineIn s = .ok (m,p)->∀(H':Hp) (x:Addr),Same H H'->ZY W M (new H H') x m (RM.Zr m.n p)->RM.Mach m->RM.St m p->Q (.ref x) H')/\(∀e,Rotor.machineIn s = .error e->ER C H E e)->Zkk W M C vs H Q E
def ZnC:Zl ["s", "n", "how_many", "sends_back", "first_board", "last_board", "start", "wheels"] ["s"] (Ze (top 63)):=fsc
def Znw(G:Gb mg)(D1:Def P w K mg base (CXF P w) 3 "byte_from" ["s", "place", "least", "most"] (Zay C))(D2:Def P w K mg base (CXF P w) 4 "permutation_from" ["s", "place", "n"] (Zc2 C))(D3:Def P w K mg base (CXF P w) 6 "wheels_from" ["s", "place", "n", "how_many"] (ZiG W C))
  (D4:ZdQ P w K mg base CX0 5 "Machine" M ["self", "letters", "sends_back", "first_board", "last_board", "wheels", "number"] (ZeR W M)) (D5:Def P w K mg base CX0 1 "number_of" ["n", "stands"] Ub) (D6:Def P w K mg base CX0 1 "stands_from" ["s", "place", "n"] Zfx)
  (F:At K mg "machine_from" (top 63) ["s"]):Def P w K mg base (CXF P w) 7 "machine_from" ["s"] (Zkk W M C):=by
 refine F.okX ZnC (λvs H Q E h=>?_) (λf _ A _ s H vs Q E hr h=>?_)
 ·obtain⟨a,s,rfl,_⟩:=h
  rfl
 ·obtain⟨a,bs,rfl,ha,hl,k1,k2⟩:=h
  have nd:=ZnC.nd;have hr3:=hr.mono (show 3<=6 by decide);have hr4:=hr.mono (show 4<=6 by decide);have hr1:=hr.mono (show 1<=6 by decide);refine⟨_,Zc (Zk (i:=1) nd rfl (pc D1 hr3 rfl ZH (Za (pv 0) (Za Zq (Za (pk G.least rfl) (Za (pk G.most rfl) Zd))))))
   (Zc (Zk (i:=2) nd rfl (pc D1 hr3 rfl ZH (Za (pv 0) (Za Zq (Za Zq (Za (pk G.mw rfl) Zd))))))
   (Zc (Zk (i:=3) nd rfl (JG Vv (pc D1 hr3 rfl ZH (Za (pv 0) (Za Zq (Za Zq (Za Zq Zd))))) Zq (ZG _)))
   (Zc (Zk (i:=4) nd rfl (pc D2 hr4 rfl ZH (Za (pv 0) (Za (pk G.bb rfl) (Za (pv 1) Zd)))))
   (Zc (Zk (i:=5) nd rfl (pc D2 hr4 rfl ZH (Za (pv 0) (Za (ZD Z5 (pk G.bb rfl) (pv 1)) (Za (pv 1) Zd)))))
   (Zc (Zk (i:=6) nd rfl (ZD Z5 (pk G.bb rfl) (ZD DL Zq (pv 1))))
   (Zc (Zk (i:=7) nd rfl (pc D3 hr rfl ZH (Za (pv 0) (Za (pv 6) (Za (pv 1) (Za (pv 2) Zd))))))
   (Zh (Zn (pcm D4 hr rfl Zm (Za (pv 1) (Za (pv 3) (Za (pv 4) (Za (pv 5) (Za (pv 7) (Za (pc D5 hr1 rfl Zm (Za (pv 1) (Za (pc D6 hr1 rfl Zm (Za (pv 0) (Za (pv 6) (Za (pv 1) Zd)))) Zd))) Zd))))))))))))))),?_⟩;rw[RM.Zc7] at k1 k2;refine⟨_,rfl,a,bs,0,2,16,rfl,ha,hl,?_⟩;rw[show Rotor.field bs 0 1 (λx=>decide (2<=x)&&decide (x<=16))=Rotor.field bs 0 1 (λx=>decide (2<=x)&&decide (x<=Rotor.WIDE)) from rfl];cases e1:Rotor.field bs 0 1 (λx=>decide (2<=x)&&decide (x<=Rotor.WIDE)) with
  |error e=>
   rw[e1] at k2;exact⟨(λx hx=>nomatch hx),λe' he=>by cases he;exact k2 _ rfl⟩
  |ok n=>
  refine⟨λx hx H1 s1=>?_,(λe he=>nomatch he)⟩;cases hx;rw[e1] at k1 k2;have bn2:=(RM.YN e1).2.1;rw[Bool.and_eq_true,decide_eq_true_eq,decide_eq_true_eq] at bn2;have h2:2<=n:=bn2.1;have hn:n<=16:=bn2.2;refine⟨_,rfl,a,bs,1,0,4,rfl,s1 _ _ ha,hl,?_⟩;rw[Ui (Zip _)];cases e2:Rotor.field bs 1 1 (λx=>decide (x<=4)) with
  |error e=>
   have k2:=k2 e (by show(Rotor.field bs 1 1 (λx=>decide (x<=4))).bind _=_;rw[e2];rfl);exact⟨(λx hx=>nomatch hx),λe' he=>by cases he;exact k2.mono s1⟩
  |ok kk=>
  refine⟨λx hx H2 s2=>?_,(λe he=>nomatch he)⟩;cases hx;have sH2:=s1.trans s2;have hk:kk<=4:=of_decide_eq_true (RM.YN e2).2.1;refine⟨_,rfl,a,bs,2,0,1,rfl,sH2 _ _ ha,hl,?_⟩;rw[Ui (Zip _)];cases e3:Rotor.field bs 2 1 (λx=>decide (x<=1)) with
  |error e=>
   have k2:=k2 e (by show(Rotor.field bs 1 1 (λx=>decide (x<=4))).bind _=_;rw[e2,e3];rfl);exact⟨(λx hx=>nomatch hx),λe' he=>by cases he;exact k2.mono sH2⟩
  |ok mi=>
  refine⟨λx hx H3 s3=>?_,(λe he=>nomatch he)⟩;cases hx;have sH3:=sH2.trans s3;refine⟨rfl,_,rfl,_,rfl,a,bs,3,n,rfl,sH3 _ _ ha,hl,by omega,hn,?_⟩;rw[show decide (V.int (mi:Int)=V.int 1)=(mi==1) from by rw[show(1:Int)=((1:Nat):Int) from rfl,Yb];rfl];cases e4:Rotor.lettersIn bs n n 3 [] with
  |error e=>
   have k2:=k2 e (by show(Rotor.field bs 1 1 (λx=>decide (x<=4))).bind _=_;rw[e2,e3];show(Rotor.lettersIn bs n n 3 []).bind _=_;rw[e4];rfl);exact⟨(λx hx=>nomatch hx),λe' he=>by cases he;exact k2.mono sH3⟩
  |ok first=>
  refine⟨λx hx H4 b1 s4 nb1 hb1=>?_,(λe he=>nomatch he)⟩;cases hx;have sH4:=sH3.trans s4;refine⟨_,rfl,_,rfl,_,_,rfl,rfl,_,rfl,a,bs,3+n,n,rfl,sH4 _ _ ha,hl,by omega,hn,?_⟩;cases e5:Rotor.lettersIn bs n n (3+n) [] with
  |error e=>
   have k2:=k2 e (by show(Rotor.field bs 1 1 (λx=>decide (x<=4))).bind _=_;rw[e2,e3];show(Rotor.lettersIn bs n n 3 []).bind _=_;rw[e4];show(Rotor.lettersIn bs n n (3+n) []).bind _=_;rw[e5];rfl);exact⟨(λx hx=>nomatch hx),λe' he=>by cases he;exact k2.mono sH4⟩
  |ok last=>
  refine⟨λx hx H5 b2 s5 nb2 hb2=>?_,(λe he=>nomatch he)⟩;cases hx;have sH5:=sH4.trans s5;have o3:3+2*n<=bs.length:=by
   obtain⟨_,_,_,l4⟩:=RM.YC n (3+n) [] last e5 nodup_nil (RM.ZO.nil n);omega
  have k2':∀e,((Rotor.wheelsIn bs n kk 0 (3+2*n)).bind λw=>if bs.length≠w.2 then .error w.2 else .ok ((⟨n,mi==1,first,last,w.1.map λx=>x.1⟩ : Rotor.Machine),w.1.map λx=>x.2)) = .error e->ER C H E e:=λe he=>k2 e (by
   show(Rotor.field bs 1 1 (λx=>decide (x<=4))).bind _=_;rw[e2,e3];show(Rotor.lettersIn bs n n 3 []).bind _=_;rw[e4];show(Rotor.lettersIn bs n n (3+n) []).bind _=_;rw[e5];exact he)
  have k1':∀m p,((Rotor.wheelsIn bs n kk 0 (3+2*n)).bind λw=>if bs.length≠w.2 then .error w.2 else .ok ((⟨n,mi==1,first,last,w.1.map λx=>x.1⟩ : Rotor.Machine),w.1.map λx=>x.2)) = .ok (m,p)->∀(H':Hp) (x:Addr),Same H H'->ZY W M (new H H') x m (RM.Zr m.n p)->RM.Mach m->RM.St m p->Q (.ref x) H':=λm p he=>k1 m p (by
   show(Rotor.field bs 1 1 (λx=>decide (x<=4))).bind _=_;rw[e2,e3];show(Rotor.lettersIn bs n n 3 []).bind _=_;rw[e4];show(Rotor.lettersIn bs n n (3+n) []).bind _=_;rw[e5];exact he)
  refine⟨_,rfl,_,_,rfl,rfl,.inl ⟨by omega,by omega⟩,_,_,rfl,rfl,?_⟩;refine⟨_,rfl,_,rfl,_,rfl,_,rfl,a,bs,3+2*n,n,kk,?_,sH5 _ _ ha,hl,h2,hn,hk,o3,λr hr'=>⟨λhne=>?_,λheq H6 b3 as s6 nb3 hb3 hws=>?_⟩,λe he=>?_⟩
  ·show [V.ref a,V.int (3+2*(n:Int)),V.int (n:Int),V.int (kk:Int)]=[V.ref a,V.int ((3+2*n:Nat):Int),V.int (n:Int),V.int (kk:Int)]
   rw[show(3+2*(n:Int))=((3+2*n:Nat):Int) by omega]
  ·refine(k2' r.2 ?_).mono sH5
   rw[hr'];show(if bs.length≠r.2 then _ else _)=_;rw[if_pos hne]
  ·have sH6:=sH5.trans s6
   have k1':=k1' _ _ (by
    rw[hr'];show(if bs.length≠r.2 then _ else _)=_;rw[if_neg (λh=>h heq)])
   obtain⟨gm,gs⟩:=RM.Zjq (mirror:=mi==1) h2 hn hk e4 e5 hr';refine⟨_,rfl,_,rfl,_,rfl,_,rfl,_,rfl,_,rfl,_,rfl,_,rfl,_,rfl,a,bs,3+2*n,n,kk,r,?_,sH6 _ _ ha,hl,by omega,hn,hk,hr',heq,λH7 c s7 nc hc=>?_⟩
   ·show [V.ref a,V.int (3+2*(n:Int)),V.int (n:Int)]=[V.ref a,V.int ((3+2*n:Nat):Int),V.int (n:Int)]
    rw[show(3+2*(n:Int))=((3+2*n:Nat):Int) by omega]
   refine⟨c,n,_,rfl,hc,hn,λH8 s8=>?_⟩;have sH8:=(sH6.trans s7).trans s8;have s68:=s7.trans s8;refine λx dx hx hdx _=>?_;have un:∀b u,H8 b=some u->upd (upd H8 dx (.own x)) x (.ins M dx []) b=some u:=λb u e=>by
    rw[Zj (Zi e hx),Zj (Zi e hdx)];exact e
   have sU:Same H8 (upd (upd H8 dx (.own x)) x (.ins M dx [])):=un;have c1:=((s5.trans s6).trans s68) _ _ hb1;have c2:=(s6.trans s68) _ _ hb2;have c3:=s68 _ _ hb3;have cw:WheelsAt W n (new H5 H8) as (r.1.map λx=>x.1):=hws.same (Dq s68);refine⟨x,dx,b1,b2,b3,as,RM.Zr n (r.1.map λx=>x.2),⟨n,mi==1,first,last,r.1.map λx=>x.1⟩,rfl,Zb,sU _ _ c1,sU _ _ c2,sU _ _ c3,(cw.same Zkd).same sU,gm,λH' aF sb g1 g2 g3=>⟨rfl,?_⟩⟩;have sH':=sb.made hx hdx;refine k1' H' x (sH8.trans sH') ⟨dx,b1,b2,b3,aF,as,Yk (sH8.free hx) g1,Yk (sH3.free nb1) (sH' _ _ c1),Yk (sH4.free nb2) (sH' _ _ c2),Yk (sH5.free nb3) (sH' _ _ c3),(cw.same (Dq sH')).same (ZhR sH5),Yk (sH8.free (sU.free g2)) g3⟩ gm gs
  ·refine(k2' e ?_).mono sH5
   rw[he];rfl
end
def Zom{b:Bool}{σ:L2.St}{H:Hp}{Q:VK}(h:Q (.int ((b.toNat:Nat):Int)) H):if b=true then tC (.int 1) σ H Q else tC (.int 0) σ H Q:=by
 cases b with
 |true=>exact JT h
 |false=>exact Yh h
def Zc4{n:Nat}{l:List Nat}(h:l.length=n)(hn:n<=16):Ds (nv (RM.pad n l)) none (some (n:Int))=nv l:=by
 rw[ZiN _ n (by rw[RM.Zbf h hn];exact hn),RM.ZdI h]
def Zae{x:Rotor.Wheel×Nat}{n:Nat}(h:x.1.wires.length=n):(RM.J7 x).length=5+n:=by
 unfold RM.J7;rw[length_append,h];rfl
theorem Zfw{α:Type}{f:α->List Nat}{b:Nat}:∀(l:List α),(∀x,x∈l->(f x).length<=b)->(l.flatMap f).length<=b*l.length
 | [],_=>by simp
 |x::l,h=>by
  rw[flatMap_cons,length_append,length_cons,Nat.mul_succ];have:=Zfw l λy hy=>h y (mem_cons_of_mem _ hy);have:=h x mem_cons_self;omega
section
variable{P:Program}{w:World}{K:Frag}{mg:Str->Option Value}{base:Heap}{W M L C:Addr}
inductive ZcU(W M:Addr):List V->Hp->VK->XK->Prop|mk {vs H Q E} (a:Addr) (m:Rotor.Machine) (p:List Nat):vs=[.ref a]->ZY W M H a m (RM.Zr m.n p)->RM.Mach m->RM.St m p->RL H Q (nv (RM.U3 m p))->ZcU W M vs H Q E
def ZfW:Zl ["machine", "n", "s", "wheel", "stand"] ["machine"] (Ze (top 64)):=fsc
def ZhN(G:Gb mg)(T:Tys K W M L)(D1:Def P w K mg base CX0 2 "stands_now" ["machine"] (Zgs W M))(F:At K mg "bytes_of" (top 64) ["machine"]):Def P w K mg base CX0 3 "bytes_of" ["machine"] (ZcU W M):=by
 refine F.ok ZfW (λvs H Q E h=>?_) (λf _ A _ s H vs Q E hr h=>?_)
 ·obtain⟨a,m,p,rfl,_⟩:=h
  rfl
 ·obtain⟨a,m,p,rfl,hm,g,hs,k⟩:=h
  obtain⟨dx,af,al,aw,aF,as,h1,h2⟩:=id hm;have nd:=ZfW.nd;refine⟨_,Zc (Zk (i:=1) nd rfl (Zu (pv 0) rfl))
   (Zc (Zk (i:=2) nd rfl (Zx (Za (pv 1) (Za (Zv Zp rfl G.len PySem.boot_len (Za (Zu (pv 0) rfl) Zd)) (Za (YV (Z1 (Zu (pv 0) rfl)) Zq Zq) Zd)))))
   (Zc (Z3 (J4 PySem.F.plainAttrs_list PySem.F.slot_list_extend PySem.F.type_list_extend Jw (pv 2) (Za (JQ Yq (Zu (pv 0) rfl) UC (Jz (pv 1))) Zd)))
   (Zc (Z3 (J4 PySem.F.plainAttrs_list PySem.F.slot_list_extend PySem.F.type_list_extend Jw (pv 2) (Za (JQ Yq (Zu (pv 0) rfl) UC (Jz (pv 1))) Zd)))
   (Zc (Z6 PassesOwn.never rfl (Za6 rfl G.zip (Za (Zu (pv 0) rfl) (Za (pc D1 hr rfl Zm (Za (pv 0) Zd)) Zd)))
    (Yl rfl (ZA (Zo (i:=3) nd rfl) (ZA (Zo (i:=4) nd rfl) JI)))
    (Zc (Z3 (J4 PySem.F.plainAttrs_list PySem.F.slot_list_extend PySem.F.type_list_extend Jw (pv 2) (Za (Zx (Za (Zu (pv 3) rfl) (Za (Zu (pv 3) rfl) (Za (pv 4) (Za (ZD US (Zu (pv 3) rfl) Zq) (Za (ZD Zjs (Zu (pv 3) rfl) Zq) Zd)))))) Zd)))
     (Zh (Z3 (J4 PySem.F.plainAttrs_list PySem.F.slot_list_extend PySem.F.type_list_extend Jw (pv 2) (Za (JQ Yq (Zu (pv 3) rfl) UC (Jz (pv 1))) Zd))))))
   (Zh (Zn (pv 2))))))),?_⟩;have e:(rv as).length=m.wheels.length:=by rw[Zw,h2.ws.len]
  have n16:=g.n16;have k4:=g.k4;have fl:=g.first.len;have ll:=g.last.len;refine⟨_,rfl,a,_,_,_,_,rfl,h1,T.m,T.mn _ (by decide),rfl,_,rfl,_,rfl,a,_,_,_,_,rfl,h1,T.m,T.mn _ (by decide),rfl,aw,_,rfl,.inl (SqL.of h2.wheels),_,rfl,a,_,_,_,_,rfl,h1,T.m,T.mn _ (by decide),rfl,_,rfl,?_⟩;refine Zom ⟨Zs (show 3<=1000000 by decide),λq hq=>?_⟩;have ev:[V.int (m.n:Int),V.int ((rv as).length:Nat),V.int ((m.mirror.toNat:Nat):Int)]=nv [m.n,m.wheels.length,m.mirror.toNat]:=by
   rw[e];rfl
  have s1:Same H (upd H q (.lst (nv [m.n,m.wheels.length,m.mirror.toNat]))):=Zg hq;rw[ev];refine⟨_,rfl,.inl ⟨rfl,_,SqL.of Zb⟩,_,rfl,a,_,_,_,_,rfl,s1 _ _ h1,T.m,T.mn _ (by decide),rfl,_,rfl,_,rfl,af,_,rfl,SqL.of (s1 _ _ h2.first),λx hx=>?_⟩;rw[Zc4 fl n16];have xq:q≠x:=Zi Zb hx;refine⟨q,x,_,_,rfl,rfl,by rw[Zj xq,Zb],Zb,by rw[Zf,Zf,fl];exact Zs (by show 3+m.n<=_;omega),?_⟩;rw[<- ZX];have s2:Same H (upd (upd (upd H q (.lst (nv [m.n,m.wheels.length,m.mirror.toNat]))) x (.lst (nv m.first))) q (.lst (nv ([m.n,m.wheels.length,m.mirror.toNat]++m.first)))):=Same.upd (s1.trans (Zg hx)) hq;refine⟨_,rfl,.inl ⟨rfl,_,SqL.of Zb⟩,_,rfl,a,_,_,_,_,rfl,s2 _ _ h1,T.m,T.mn _ (by decide),rfl,_,rfl,_,rfl,al,_,rfl,SqL.of (s2 _ _ h2.last),λy hy=>?_⟩;rw[Zc4 ll n16];have yq:q≠y:=Zi Zb hy;refine⟨q,y,_,_,rfl,rfl,by rw[Zj yq,Zb],Zb,by rw[Zf,Zf,length_append,fl,ll];exact Zs (by show 3+m.n+m.n<=_;omega),?_⟩;rw[<- ZX,append_assoc];generalize hH3:upd _ q (.lst (nv ([m.n,m.wheels.length,m.mirror.toNat]++(m.first++m.last))))=H3;have s3:Same H H3:=by
   rw[<- hH3];exact Same.upd (s2.trans (Zg hy)) hq
  have hq3:H3 q=some (.lst (nv ([m.n,m.wheels.length,m.mirror.toNat]++(m.first++m.last)))):=by
   rw[<- hH3];exact Zb
  refine⟨_,rfl,a,_,_,_,_,rfl,s3 _ _ h1,T.m,T.mn _ (by decide),rfl,_,rfl,a,m,p,rfl,hm.same s3,g,hs,λH4 b s4 nb hb=>?_⟩;have s04:=s3.trans s4;have bq:q≠b:=λe=>by rw[<- e,hq3] at nb;cases nb
  refine⟨aw,b,_,_,rfl,SqL.of (s04 _ _ h2.wheels),SqL.of hb,?_⟩;have rl:∀i,(((m.wheels.zip p).take i).flatMap RM.J7).length<=21*4:=λi=>by
   refine Nat.le_trans (Zfw (b:=21) _ λz hz=>?_) (Nat.mul_le_mul_left 21 (Nat.le_trans (List.length_take_le' _ _) (by rw[RM.UH hs];exact k4)));have hz:=mem_of_mem_take hz;rw[Zae (g.wires z.1 (of_mem_zip hz).1).len];omega
  refine Zgh (K:=K) (a:=aw) (b:=b) (xs:=rv as) (ys:=nv p) (by rw[Zf,e,hs.len]) (λi σ H'=>∃(v3 v4:Option V),σ=[some (.ref a),some (.int (m.n:Int)),some (.ref q),v3,v4]/\Same H H'/\H' b=some (.lst (nv p))/\H' q=some (.lst (nv ([m.n,m.wheels.length,m.mirror.toNat]++(m.first++m.last)++((m.wheels.zip p).take i).flatMap RM.J7))))
   ⟨none,none,rfl,s04,hb,by rw[s4 _ _ hq3,List.take_zero,List.flatMap_nil,append_nil]⟩ (λi σ H' _ ⟨_,_,_,sm,hb',_⟩=>⟨SqL.of (sm _ _ h2.wheels),SqL.of hb'⟩) ?_ ?_
  ·rintro i x' y' σ H' U hi hj hU ⟨v3,v4,rfl,sm,hb',hQ⟩
   obtain⟨x',hx',rfl⟩:=YO hi;obtain⟨y',hy',rfl⟩:=JA hj;obtain⟨wh,ewh,hwh⟩:=h2.ws.get hx';have sU:Same H' (upd H' U (.tup [.ref x',.int (y':Int)])):=Zg hU;have wl:=(g.wires wh (mem_of_getElem? ewh)).len;obtain⟨dxw,aww,abw,rs,w1,w2,w3,w4,w5⟩:=(hwh.same sm).same sU;refine⟨U,_,rfl,SqT.of Zb,rfl,_,_,rfl,_,_,rfl,rfl,_,rfl,.inl ⟨rfl,_,SqL.of (sU _ _ hQ)⟩,_,rfl,x',_,_,_,_,rfl,w1,T.w,T.wn _ (by decide),rfl,_,rfl,x',_,_,_,_,rfl,w1,T.w,T.wn _ (by decide),rfl,_,rfl,
    _,rfl,x',_,_,_,_,rfl,w1,T.w,T.wn _ (by decide),rfl,_,_,rfl,rfl,(show(0:Int)<256 by decide),_,rfl,x',_,_,_,_,rfl,w1,T.w,T.wn _ (by decide),rfl,_,_,rfl,rfl,⟨by decide,by decide⟩,Zs (show 5<=1000000 by decide),λz hz=>?_⟩;have ev5:[V.int (wh.kind:Int),V.int (wh.ring:Int),V.int (y':Int),V.int ((wh.notches:Int)%256),V.int ((wh.notches:Int) / 256)]=nv [wh.kind,wh.ring,y',wh.notches%256,wh.notches / 256]:=rfl;have zq:q≠z:=Zi (sU _ _ hQ) hz;have sz:Same H' (upd (upd H' U (.tup [.ref x',.int (y':Int)])) z (.lst (nv [wh.kind,wh.ring,y',wh.notches%256,wh.notches / 256]))):=sU.trans (Zg hz);have rli:=rl i;generalize hacc:[m.n,m.wheels.length,m.mirror.toNat]++(m.first++m.last)++((m.wheels.zip p).take i).flatMap RM.J7=acc at *;have accl:acc.length<=1000:=by
    rw[<- hacc,length_append,length_append,length_append,fl,ll];show 3+(m.n+m.n)+_<=_;omega
   refine⟨q,z,_,_,rfl,rfl,sz _ _ hQ,Zb,by rw[Zf];exact Zs (show acc.length+5<=_ by omega),?_⟩;rw[ev5,<- ZX];generalize hH6:upd (upd (upd H' U (.tup [.ref x',.int (y':Int)])) z (.lst (nv [wh.kind,wh.ring,y',wh.notches%256,wh.notches / 256]))) q (.lst (nv (acc++[wh.kind,wh.ring,y',wh.notches%256,wh.notches / 256])))=H6;have s6:Same H H6:=by
    rw[<- hH6];exact Same.upd (sm.trans sz) hq
   have hq6:H6 q=some (.lst (nv (acc++[wh.kind,wh.ring,y',wh.notches%256,wh.notches / 256]))):=by
    rw[<- hH6];exact Zb
   have hb6:H6 b=some (.lst (nv p)):=by
    rw[<- hH6,Zj (Ne.symm bq)];exact sz _ _ hb'
   obtain⟨dxw',aww',abw',rs',w1',w2',_⟩:=hwh.same s6;refine⟨_,rfl,.inl ⟨rfl,_,SqL.of hq6⟩,_,rfl,x',_,_,_,_,rfl,w1',T.w,T.wn _ (by decide),rfl,_,rfl,_,rfl,aww',_,rfl,SqL.of w2',λt ht=>?_⟩;rw[Zc4 wl n16];have tq:q≠t:=Zi hq6 ht;have tb:b≠t:=Zi hb6 ht;refine⟨q,t,_,_,rfl,rfl,by rw[Zj tq];exact hq6,Zb,by rw[Zf,Zf,length_append,wl];exact Zs (show acc.length+5+m.n<=_ by omega),?_⟩;refine⟨_,_,rfl,Same.upd (s6.trans (Zg ht)) hq,by rw[Zj (Ne.symm bq),Zj tb];exact hb6,?_⟩;rw[Zb,<- ZX,RM.Ys ewh hy',flatMap_append,<- append_assoc,hacc,append_assoc,List.flatMap_singleton];rfl
  ·rintro σ H' ⟨v3,v4,rfl,sm,hb',hQ⟩
   rw[take_of_length_le (by rw[e,RM.UH hs];exact Nat.le_refl _)] at hQ;exact⟨_,rfl,k H' q sm hq hQ⟩
end
def U4(a:List Bool)(x:Bool):bv (a++[x])=bv a++[V.bl x]:=ZbJ a [x]
def Y7(H:Hp)(a:Addr)(ks:List Rotor.Known):Prop:=∃ts:List Addr,H a=some (.lst (rv ts))/\ts.length=ks.length/\∀(i:Nat) (t:Addr) (c:Rotor.Known),ts[i]? = some t->ks[i]? = some c->H t=some (.tup (nv (RM.Za4 c)))
def Y7.same{H H':Hp}{a:Addr}{ks:List Rotor.Known}(h:Y7 H a ks)(s:Same H H'):Y7 H' a ks:=by
 obtain⟨ts,h1,h2,h3⟩:=h;exact⟨ts,s _ _ h1,h2,λi t c x y=>s _ _ (h3 i t c x y)⟩
section
variable{P:Program}{w:World}{K:Frag}{mg:Str->Option Value}{base:Heap}{W M L C:Addr}
inductive Zf8(W M:Addr):List V->Hp->VK->XK->Prop|mk {vs H Q E} (a:Addr) (m:Rotor.Machine) (num x:Nat):vs=[.ref a,.int (x:Int)]->ZY W M H a m num->RM.Mach m->x<m.n->RL H Q (nv (RM.Yc m.n (at_ m.first x) m.wheels))->Zf8 W M vs H Q E
def ZkN:Zl ["machine", "letter", "reached", "wheel", "grown", "wires", "one"] ["machine", "letter"] (Ze (top 43)):=fsc
def ZlS(T:Tys K W M L)(F:At K mg "way_in" (top 43) ["machine", "letter"]):Def P w K mg base CX0 1 "way_in" ["machine", "letter"] (Zf8 W M):=by
 refine F.ok ZkN (λvs H Q E h=>?_) (λf _ A _ s H vs Q E _ h=>?_)
 ·obtain⟨a,m,num,x,rfl,_⟩:=h
  rfl
 ·obtain⟨a,m,num,x,rfl,⟨dx,af,al,aw,aF,as,h1,h2⟩,g,hx,k⟩:=h
  have nd:=ZkN.nd;refine⟨_,Zc (Zk (i:=2) nd rfl (Zx (Za (Ja (r:=JX K) ZM (Zu (pv 0) rfl) (pv 1) (λ_ _=>rfl)) Zd)))
   (Zc (Z6 PassesOwn.never rfl (ZR (Zu (pv 0) rfl)) (Zo (i:=3) nd rfl)
    (Zc (Zk (i:=4) nd rfl (Zx Zd))
    (Zc (Z6 PassesOwn.never rfl (ZR (Zu (pv 3) rfl)) (Zo (i:=5) nd rfl)
     (Zh (Z3 (J4 PySem.F.plainAttrs_list PySem.F.slot_list_extend PySem.F.type_list_extend Jw (pv 4) (Za (YA rfl nd (ZR (pv 2)) (own:=[("one",6)]) (ZP (N:=["machine", "letter", "reached", "wheel", "grown", "wires", "one"]) (sc:=Ze (top 43)) (by decide +kernel))
      (λ_ _ _ _ _=>Zo (i:=6) nd rfl) (λ_ _ _ _ _=>Jf) (λ_ _ _ _ _=>Ja (r:=JX K) ZM (pv 5) (pv 6) (λ_ _=>rfl))) Zd)))))
    (Zh (Zk (i:=2) nd rfl (pv 4))))))
   (Zh (Zn (pv 2)))),?_⟩;have n16:=g.n16;have k4:=g.k4;have fx:at_ (RM.pad m.n m.first) x=at_ m.first x:=RM.Yw g.first.len hx;refine⟨_,rfl,a,_,_,_,_,rfl,h1,T.m,T.mn _ (by decide),rfl,_,rfl,af,_,_,_,rfl,rfl,SqL.of h2.first,YK (by rw[g.first.isP.len];omega),Zs (show 1<=1000000 by decide),λp hp=>?_⟩;rw[fx];have s1:Same H (upd H p (.lst [V.int (at_ m.first x:Int)])):=Zg hp;refine⟨_,rfl,a,_,_,_,_,rfl,s1 _ _ h1,T.m,T.mn _ (by decide),rfl,aw,rfl,⟨_,SqL.of (s1 _ _ h2.wheels)⟩,?_⟩;refine JD (K:=K) (a:=aw) (xs:=rv as) (λi σ H'=>∃(q:Addr) (v3 v4 v5 v6:Option V),σ=[some (.ref a),some (.int (x:Int)),some (.ref q),v3,v4,v5,v6]/\Same H H'/\H q=none/\H' q=some (.lst (nv (RM.Yc m.n (at_ m.first x) (m.wheels.take i))))/\RM.ZO 16 (RM.Yc m.n (at_ m.first x) (m.wheels.take i)))
   ⟨p,none,none,none,none,rfl,s1,hp,Zb,λz hz=>?_⟩ (λi σ H' _ ⟨_,_,_,_,_,_,sm,_⟩=>SqL.of (sm _ _ h2.wheels)) ?_ ?_
  ·rw[mem_singleton.mp hz]
   have:=g.first.lt n16 hx;omega
  ·rintro i y σ H' hi ⟨q,v3,v4,v5,v6,rfl,sm,nq,hQ,lt⟩
   obtain⟨y,hy,rfl⟩:=YO hi;obtain⟨wh,ewh,hwh⟩:=h2.ws.get hy;have hiw:i<m.wheels.length:=(List.getElem?_eq_some_iff.mp ewh).1;have mwd:=g.wires wh (mem_of_getElem? ewh);have wl:=(RM.Uz m.n (at_ m.first x) (m.wheels.take i)).len;rw[length_take,Nat.min_eq_left (Nat.le_of_lt hiw)] at wl;have b1:m.n^i<=4096:=Nat.le_trans (Nat.pow_le_pow_left n16 _) (Nat.le_trans (Nat.pow_le_pow_right (by decide) (show i<=3 by omega)) (by decide));generalize hr0:RM.Yc m.n (at_ m.first x) (m.wheels.take i)=r0 at *;refine⟨Zs (by decide),λgr hgr=>?_⟩;have sg:=Zg (o:=.lst []) hgr;have ngr:H gr=none:=sm.free hgr;obtain⟨dxw,aww,abw,rs,w1,w2,w3,w4,w5⟩:=hwh.same sm;refine⟨_,rfl,y,_,_,_,_,rfl,sg _ _ w1,T.w,T.wn _ (by decide),rfl,abw,rfl,⟨_,SqL.of (sg _ _ w3)⟩,?_⟩;have qg:q≠gr:=Zi hQ hgr;refine JD (K:=K) (a:=abw) (xs:=rv rs) (λst σ H2=>∃(v5 v6:Option V),σ=[some (.ref a),some (.int (x:Int)),some (.ref q),some (.ref y),some (.ref gr),v5,v6]/\Same H' H2/\H2 gr=some (.lst (nv ((List.range st).flatMap λs=>r0.map (at_ (RM.met m.n wh s))))))
    ⟨v5,v6,rfl,Zg hgr,Zb⟩ (λst σ H2 _ ⟨_,_,_,sm2,_⟩=>SqL.of (sm2 _ _ w3)) ?_ ?_
   ·rintro st z σ H2 hst ⟨v5,v6,rfl,sm2,hG⟩
    obtain⟨z,hz,rfl⟩:=YO hst;have stn:st<m.n:=by rw[<- w4];exact(List.getElem?_eq_some_iff.mp hz).1
    have hZ:=w5 st z hz;have mP:=RM.Zal mwd g.n0 n16 st;refine⟨_,rfl,.inl ⟨rfl,_,SqL.of hG⟩,_,rfl,q,rfl,⟨_,SqL.of (sm2 _ _ hQ)⟩,λD hD=>?_⟩;have gD:gr≠D:=Zi hG hD;refine Ji (K:=K) (a:=q) (xs:=nv r0) (λj H3=>Same H2 H3/\H3 D=some (.lst (nv ((r0.take j).map (at_ (RM.met m.n wh st)))))) ⟨Zg hD,Zb⟩ (λj H3 _ h=>SqL.of (h.1 _ _ (sm2 _ _ hQ))) ?_ ?_
    ·rintro j u H3 hj ⟨sm3,hD3⟩
     obtain⟨u,hu,rfl⟩:=JA hj;have u16:=lt u (mem_of_getElem? hu);refine⟨rfl,lcY ⟨_,rfl,_,rfl,z,_,_,_,rfl,rfl,SqL.of (sm3 _ _ (sm2 _ _ hZ)),YK (by rw[mP.len];exact u16),_,hD3,?_,Same.upd sm3 hD,?_⟩⟩
     ·rw[Zf,length_map,length_take,wl]
      exact ZF (by omega)
     ·rw[Zb,ZN hu,JK]
    ·rintro H3 ⟨sm3,hD3⟩
     rw[Zf,take_length] at hD3;have fl:((List.range st).flatMap λs=>r0.map (at_ (RM.met m.n wh s))).length<=65536:=by
      rw[RM.Z2 (L:=m.n^i) st (λs _=>by rw[length_map,wl])];exact Nat.le_trans (Nat.mul_le_mul (show st<=16 by omega) b1) (by decide)
     refine⟨gr,D,_,_,rfl,rfl,sm3 _ _ hG,hD3,by rw[Zf,Zf,length_map,wl];exact Zs (by omega),?_⟩;refine⟨_,_,rfl,Same.upd (sm2.trans sm3) hgr,?_⟩;rw[Zb,<- ZX,<- J8]
   ·rintro σ H2 ⟨v5,v6,rfl,sm2,hG⟩
    rw[Zw,w4] at hG;refine⟨_,rfl,gr,_,_,_,_,rfl,sm.trans sm2,ngr,?_,?_⟩
    ·rw[hG,RM.ZaF _ _ _ ewh,hr0]
     rfl
    ·rw[RM.ZaF _ _ _ ewh,hr0]
     intro z hz;unfold RM.VD at hz;obtain⟨s,_,hz⟩:=mem_flatMap.mp hz;obtain⟨u,hu,rfl⟩:=mem_map.mp hz;exact(RM.Zal mwd g.n0 n16 s).lt (lt u hu)
  ·rintro σ H' ⟨q,v3,v4,v5,v6,rfl,sm,nq,hQ,_⟩
   rw[Zw,h2.ws.len,take_length] at hQ;exact⟨_,rfl,k H' q sm nq hQ⟩
inductive Zl7(W M:Addr):List V->Hp->VK->XK->Prop|mk {vs H Q E} (a:Addr) (m:Rotor.Machine) (num x y:Nat):vs=[.ref a,.int (x:Int),.int (y:Int)]->ZY W M H a m num->RM.Mach m->x<m.n->y<m.n->RL H Q (bv (RM.Zfk m x y))->Zl7 W M vs H Q E
def ZnT:Zl ["machine", "plain", "coded", "board", "from_plain", "from_coded", "one", "other"] ["machine", "plain", "coded"] (Ze (top 44)):=fsc
def ZlX{m:Rotor.Machine}(g:RM.Mach m){x:Nat}(hx:x<m.n):RM.ZO m.n (RM.Yc m.n (at_ m.first x) m.wheels):=λz hz=>by
 rw[RM.Zdb g (g.first.lt g.n16 hx)] at hz;obtain⟨i,_,rfl⟩:=mem_map.mp hz;exact RM.Zd9 g (g.first.lt g.n16 hx) _
def Zkf{m:Rotor.Machine}(g:RM.Mach m)(x:Nat):(RM.Yc m.n x m.wheels).length<=65536:=by
 rw[(RM.Uz m.n x m.wheels).len];exact g.toGood.pow_le
def ZmD(G:Gb mg)(T:Tys K W M L)(D1:Def P w K mg base CX0 1 "way_in" ["machine", "letter"] (Zf8 W M))(F:At K mg "where_so" (top 44) ["machine", "plain", "coded"]):Def P w K mg base CX0 2 "where_so" ["machine", "plain", "coded"] (Zl7 W M):=by
 refine F.ok ZnT (λvs H Q E h=>?_) (λf _ A _ s H vs Q E hr h=>?_)
 ·obtain⟨a,m,num,x,y,rfl,_⟩:=h
  rfl
 ·obtain⟨a,m,num,x,y,rfl,hm,g,hx,hy,k⟩:=h
  obtain⟨dx,af,al,aw,aF,as,h1,h2⟩:=id hm;have nd:=ZnT.nd;refine⟨_,Zc (Zk (i:=3) nd rfl (Zu (pv 0) rfl)) (Zc (Zk (i:=4) nd rfl (pc D1 hr rfl Zm (Za (pv 0) (Za (pv 1) Zd))))
   (Zc (ZW (Yx (Z1 (Zu (pv 0) rfl))) (Zh (Zn (YA rfl nd (ZR (pv 4)) (own:=[("one",6)]) (ZP (N:=["machine", "plain", "coded", "board", "from_plain", "from_coded", "one", "other"]) (sc:=Ze (top 44)) (by decide +kernel))
      (λ_ _ _ _ _=>Zo (i:=6) nd rfl) (λ_ _ _ _ _=>Jf) (λ_ _ _ _ _=>JG Vv (Ja (r:=JX K) ZM (pv 3) (pv 6) (λ_ _=>rfl)) (pv 2) (ZG _))))) ZB)
   (Zc (Zk (i:=5) nd rfl (pc D1 hr rfl Zm (Za (pv 0) (Za (pv 2) Zd))))
   (Zh (Zn (YA rfl nd (Za6 rfl G.zip (Za (pv 4) (Za (pv 5) Zd))) (own:=[("one",6),("other",7)]) (g:=Zbx K 2 (JB (Js 6) (JB (Js 7) ZbA)))
     (ZP (N:=["machine", "plain", "coded", "board", "from_plain", "from_coded", "one", "other"]) (sc:=Ze (top 44)) (by decide +kernel))
     (λ_ _ _ _ _=>Yl rfl (ZA (Zo (i:=6) nd rfl) (ZA (Zo (i:=7) nd rfl) JI))) (λ_ _ _ _ _=>Jf) (λ_ _ _ _ _=>JG Vv (Ja (r:=JX K) ZM (pv 3) (pv 6) (λ_ _=>rfl)) (pv 7) (ZG _)))))))),?_⟩;have n16:=g.n16;have ll:=g.last.isP.len;refine⟨_,rfl,a,_,_,_,_,rfl,h1,T.m,T.mn _ (by decide),rfl,_,rfl,_,rfl,a,m,num,x,rfl,hm,g,hx,λH1 b s1 nb hb=>?_⟩;refine⟨_,rfl,a,_,_,_,_,rfl,s1 _ _ h1,T.m,T.mn _ (by decide),rfl,_,rfl,?_⟩;have wlt:=ZlX g hx;have wln:=Zkf g (at_ m.first x);cases em:m.mirror with
  |false=>
   rw[RM.Zi5 g hx hy em] at k;generalize RM.Yc m.n (at_ m.first x) m.wheels=r0 at *;refine JT ⟨_,rfl,b,rfl,⟨_,SqL.of hb⟩,λD hD=>?_⟩;refine Ji (K:=K) (a:=b) (xs:=nv r0) (λj H3=>Same H1 H3/\H3 D=some (.lst (bv ((r0.take j).map λz=>at_ (RM.pad m.n m.last) z==y)))) ⟨Zg hD,Zb⟩ (λj H3 _ h=>SqL.of (h.1 _ _ hb)) ?_ ?_
   ·rintro j u H3 hj ⟨sm3,hD3⟩
    obtain⟨u,hu,rfl⟩:=JA hj;have u16:=wlt u (mem_of_getElem? hu);refine⟨rfl,lcY ⟨_,rfl,_,rfl,al,_,_,_,rfl,rfl,SqL.of (sm3 _ _ (s1 _ _ h2.last)),YK (by rw[ll];omega),_,rfl,rfl,_,hD3,?_,Same.upd sm3 hD,?_⟩⟩
    ·rw[Jv,length_map,length_take]
     exact ZF (by omega)
    ·rw[Zb,ZN hu,U4,Yb]
     rfl
   ·rintro H3 ⟨sm3,hD3⟩
    rw[Zf,take_length] at hD3;exact k H3 D (s1.trans sm3) (s1.free hD) hD3
  |true=>
   rw[RM.Zg7 g hx hy em] at k;refine Yh ⟨_,rfl,_,rfl,a,m,num,y,rfl,hm.same s1,g,hy,λH2 c s2 nc hc=>?_⟩;have hb2:=s2 _ _ hb;have hyl:(RM.Yc m.n (at_ m.first y) m.wheels).length=(RM.Yc m.n (at_ m.first x) m.wheels).length:=by rw[(RM.Uz _ _ _).len,(RM.Uz _ _ _).len]
   generalize RM.Yc m.n (at_ m.first x) m.wheels=r0 at *;generalize RM.Yc m.n (at_ m.first y) m.wheels=r1 at *;have sH2:=s1.trans s2;refine⟨_,rfl,_,rfl,b,c,_,_,rfl,SqL.of hb2,SqL.of hc,λD hD=>?_⟩;refine ZeV (K:=K) (a:=b) (b:=c) (xs:=nv r0) (ys:=nv r1) (by rw[Zf,Zf,hyl]) (λj H3=>Same H2 H3/\H3 D=some (.lst (bv (((r0.zip r1).take j).map λz=>at_ (RM.pad m.n m.last) z.1==z.2)))) ⟨Zg hD,Zb⟩ (λj H3 _ h=>⟨SqL.of (h.1 _ _ hb2),SqL.of (h.1 _ _ hc)⟩) ?_ ?_
   ·rintro j u v H3 T3 hj hv hT ⟨sm3,hD3⟩
    obtain⟨u,hu,rfl⟩:=JA hj;obtain⟨v,hv',rfl⟩:=JA hv;have u16:=wlt u (mem_of_getElem? hu);have DT:D≠T3:=Zi hD3 hT;have sT:Same H3 (upd H3 T3 (.tup [.int (u:Int),.int (v:Int)])):=Zg hT;refine⟨T3,_,rfl,SqT.of Zb,rfl,_,_,rfl,_,_,rfl,rfl,rfl,lcY ⟨_,rfl,_,rfl,al,_,_,_,rfl,rfl,SqL.of (sT _ _ (sm3 _ _ (sH2 _ _ h2.last))),YK (by rw[ll];omega),_,rfl,rfl,_,sT _ _ hD3,?_,Same.upd (sm3.trans sT) hD,?_⟩⟩
    ·rw[Jv,length_map,length_take,length_zip]
     exact ZF (by omega)
    ·rw[Zb,ZN ((List.getElem?_zip_eq_some (z:=(u,v))).mpr ⟨hu,hv'⟩),U4,Yb]
     rfl
   ·rintro H3 ⟨sm3,hD3⟩
    rw[Zf,take_of_length_le (by rw[length_zip];omega)] at hD3;exact k H3 D (sH2.trans sm3) (sH2.free hD) hD3
inductive Za5(W M:Addr):List V->Hp->VK->XK->Prop|mk {vs H Q E} (a:Addr) (m:Rotor.Machine) (p:List Nat) (c:Nat):vs=[.ref a,.int (c:Int)]->ZY W M H a m (RM.Zr m.n p)->RM.Mach m->RM.St m p->c<=1000000->RL H Q (nv (Rotor.seen (RM.pad m.n m.last) (RM.thr m (m.steps c p))))->Za5 W M vs H Q E
def ZiP:Zl ["machine", "steps"] ["machine", "steps"] (Ze (top 46)):=fsc
def Zg1(T:Tys K W M L)(D1:Def P w K mg base CX0 2 "seen_through" ["a", "b"] Za2)(D2:Def P w K mg base CX0 2 "through_wheels" ["machine", "number"] (ZcT W M))(D3:Def P w K mg base CX0 1 "number_after" ["machine", "steps"] (Vm W M))
  (F:At K mg "behind_first_board" (top 46) ["machine", "steps"]):Def P w K mg base CX0 3 "behind_first_board" ["machine", "steps"] (Za5 W M):=by
 refine F.ok ZiP (λvs H Q E h=>?_) (λf _ A _ s H vs Q E hr h=>?_)
 ·obtain⟨a,m,p,c,rfl,_⟩:=h
  rfl
 ·obtain⟨a,m,p,c,rfl,hm,g,hs,hc,k⟩:=h
  obtain⟨dx,af,al,aw,aF,as,h1,h2⟩:=id hm;have hr1:=hr.mono (show 1<=2 by decide);refine⟨_,Zh (Zn (pc D1 hr rfl Zm (Za (Zu (pv 0) rfl) (Za (pc D2 hr rfl Zm (Za (pv 0) (Za (pc D3 hr1 rfl Zm (Za (pv 0) (Za (pv 1) Zd))) Zd))) Zd)))),?_⟩;have hq:=hs.steps g.toGood c;refine⟨_,rfl,a,_,_,_,_,rfl,h1,T.m,T.mn _ (by decide),rfl,_,rfl,_,rfl,_,rfl,a,m,p,c,rfl,hm,g,hs,hc,λH1 s1=>?_⟩;refine⟨a,m,_,m.steps c p,rfl,hm.same s1,g,hq,λH2 b s2 nb hb=>?_⟩;refine⟨al,b,_,_,rfl,(s1.trans s2) _ _ h2.last,hb,ZbZ g.last.isP g.n16,ZbZ (RM.U7 g hq) g.n16,λH3 d s3 nd hd=>k H3 d ((s1.trans s2).trans s3) ((s1.trans s2).free nd) hd⟩
end
def ZmF{m:Rotor.Machine}(g:RM.Mach m){p:List Nat}(h:RM.St m p)(x y:Nat):atI (bv (RM.Zfk m x y)) ((RM.Zr m.n p:Nat):Int)=some (V.bl (m.letter p x==y)):=by
 apply VO;unfold bv;rw[getElem?_map,RM.Zh1 g h];rfl
section
variable{P:Program}{w:World}{K:Frag}{mg:Str->Option Value}{base:Heap}{W M L C:Addr}
inductive ZcJ(W M:Addr):List V->Hp->VK->XK->Prop|mk {vs H Q E} (a b:Addr) (m:Rotor.Machine) (num:Nat) (ks:List Rotor.Known):vs=[.ref a,.ref b]->ZY W M H a m num->RM.Mach m->Y7 H b ks->Rotor.fits m.n ks=true->(ks.Pairwise λc d=>c.at_<=d.at_)->RL H Q (nv (RM.ZQ m ks))->ZcJ W M vs H Q E
def Zcx:List Str:=["machine", "known", "starts", "reached", "done", "steps", "plain", "coded", "step", "so", "number", "start"]
def Zgr:Zl Zcx ["machine", "known"] (Ze (top 45)):=fsc
def Zin(G:Gb mg)(T:Tys K W M L)(D1:Def P w K mg base CX0 2 "where_so" ["machine", "plain", "coded"] (Zl7 W M))(F:At K mg "allowed_stands" (top 45) ["machine", "known"]):Def P w K mg base CX0 3 "allowed_stands" ["machine", "known"] (ZcJ W M):=by
 refine F.ok Zgr (λvs H Q E h=>?_) (λf _ A _ s H vs Q E hr h=>?_)
 ·obtain⟨a,b,m,num,ks,rfl,_⟩:=h
  rfl
 ·obtain⟨a,b,m,num,ks,rfl,hm,g,⟨ts,hb,tl,ht⟩,hf,asc,k⟩:=h
  obtain⟨dx,af,al,aw,aF,as,h1,h2⟩:=id hm;have nd:=Zgr.nd;refine⟨_,Zc (Zk (i:=2) nd rfl (JJ (JS rfl) rfl G.list boot_list (Za (ZcC rfl G.range (Za (Zv Zp rfl G.len PySem.boot_len (Za (Zu (pv 0) rfl) Zd)) Zd)) Zd)))
   (Zc (Zk (i:=3) nd rfl (JJ Do rfl G.list boot_list (Za (pv 2) Zd)))
   (Zc (Zk (i:=4) nd rfl Zq)
   (Zc (Z6 PassesOwn.never rfl (ZR (pv 1)) (Yl rfl (ZA (Zo (i:=5) nd rfl) (ZA (Zo (i:=6) nd rfl) (ZA (Zo (i:=7) nd rfl) JI))))
    (Zc (Z6 PassesOwn.never rfl (ZgC rfl G.range (Za (pv 4) (Za (pv 5) Zd))) (Zo (i:=8) nd rfl)
     (Zh (Vt (i:=3) rfl nd rfl rfl (UI rfl rfl rfl rfl) (ZR (pv 3)) (own:=[("number",10)]) (ZP (N:=Zcx) (sc:=Ze (top 45)) (by decide +kernel))
      (λ_ _ _ _ _=>Zo (i:=10) nd rfl) (λ_ _ _ _ _=>Jf) (te:=tOp (JX K) (ZkV K (V2 0) "followers") (V2 10)) (λ_ _ _ _ _=>Ja (r:=JX K) ZM (Zu (pv 0) rfl) (pv 10) (λ_ _=>rfl)))))
    (Zc (Zk (i:=4) nd rfl (pv 5))
    (Zc (Zk (i:=9) nd rfl (pc D1 hr rfl Zm (Za (pv 0) (Za (pv 6) (Za (pv 7) Zd)))))
    (Zc (Vt (i:=2) rfl nd rfl rfl (UI rfl rfl rfl rfl) (Za6 rfl G.zip (Za (pv 2) (Za (pv 3) Zd))) (own:=[("start",11),("number",10)]) (g:=Zbx K 2 (JB (Js 11) (JB (Js 10) ZbA))) (ZP (N:=Zcx) (sc:=Ze (top 45)) (by decide +kernel))
      (λ_ _ _ _ _=>Yl rfl (ZA (Zo (i:=11) nd rfl) (ZA (Zo (i:=10) nd rfl) JI))) (λ_ _ _ _ _=>Dk (Z1 (Ja (r:=JX K) ZM (pv 9) (pv 10) (λ_ _=>rfl)))) (λ_ _ _ _ _=>pv 11))
    (Zh (Vt (i:=3) rfl nd rfl rfl (UI rfl rfl rfl rfl) (ZR (pv 3)) (own:=[("number",10)]) (ZP (N:=Zcx) (sc:=Ze (top 45)) (by decide +kernel))
      (λ_ _ _ _ _=>Zo (i:=10) nd rfl) (λ_ _ _ _ _=>Dk (Z1 (Ja (r:=JX K) ZM (pv 9) (pv 10) (λ_ _=>rfl)))) (λ_ _ _ _ _=>pv 10))))))))
   (Zh (Zn (pv 2)))))),?_⟩;have n16:=g.n16;have pow:=g.toGood.pow_le;have fl:(nv (RM.fol m.n m.wheels)).length=m.n^m.wheels.length:=by rw[Zf,RM.UT]
  refine⟨_,rfl,a,_,_,_,_,rfl,h1,T.m,T.mn _ (by decide),rfl,aF,_,rfl,.inl (SqL.of h2.fol),_,rfl,by omega,by omega,λq hq=>⟨q,0,_,rfl,Zb,by decide,by decide,by omega,by omega,by omega,λst hst=>?_⟩⟩;have s0:=(Zg (o:=.rng 0 ((nv (RM.fol m.n m.wheels)).length:Nat)) hq).trans (Zg (o:=.lst (Zah 0 ((nv (RM.fol m.n m.wheels)).length:Nat))) hst);have nst:H st=none:=(Zg hq).free hst;have e0:Zah 0 (((nv (RM.fol m.n m.wheels)).length:Nat):Int)=nv (RM.ZQ m []):=by
   rw[show(0:Int)=((0:Nat):Int) from rfl,Dv,fl,Nat.sub_zero,RM.Uf,range_eq_range']
  rw[e0] at s0 ⊢;refine⟨_,rfl,st,_,rfl,.inl (SqL.of Zb),λre hre=>?_⟩;have s1:=s0.trans (Zg (o:=.lst (nv (RM.ZQ m []))) hre);have nre:H re=none:=s0.free hre;have str:st≠re:=Zi Zb hre;refine⟨_,rfl,b,rfl,⟨_,SqL.of (s1 _ _ hb)⟩,?_⟩;have al:∀cs,(RM.ZQ m cs).length<=65536:=λcs=>by
   unfold RM.ZQ;exact Nat.le_trans (length_filter_le _ _) (by rw[length_range];exact pow)
  have rl:∀d cs,(RM.Jo m d cs).length<=65536:=λd cs=>by
   unfold RM.Jo;rw[length_map];exact al cs
  refine JD (K:=K) (a:=b) (xs:=rv ts) (λi σ H'=>∃(st re:Addr) (d:Nat) (v5 v6 v7 v8 v9:Option V),σ=[some (.ref a),some (.ref b),some (.ref st),some (.ref re),some (.int (d:Int)),v5,v6,v7,v8,v9,none,none]/\Same H H'/\H st=none/\H' st=some (.lst (nv (RM.ZQ m (ks.take i)))) /\
    H' re=some (.lst (nv (RM.Jo m d (ks.take i))))/\∀(j:Nat) (c:Rotor.Known),i<=j->ks[j]? = some c->d<=c.at_)
   ⟨st,re,0,none,none,none,none,none,rfl,s1,nst,by rw[Zj str,Zb];rfl,by rw[Zb,List.take_zero,RM.Zc1,RM.Uf],λ_ _ _ _=>Nat.zero_le _⟩ (λi σ H' _ ⟨_,_,_,_,_,_,_,_,_,sm,_⟩=>SqL.of (sm _ _ hb)) ?_ ?_
  ·rintro i t σ H' hi ⟨st,re,d,v5,v6,v7,v8,v9,rfl,sm,nst,hS,hR,hd⟩
   obtain⟨t,hti,rfl⟩:=YO hi;have hik:i<ks.length:=by rw[<- tl];exact(List.getElem?_eq_some_iff.mp hti).1
   obtain⟨c,hc⟩ : ∃c,ks[i]? = some c:=⟨ks[i],getElem?_eq_getElem hik⟩;obtain⟨c1,c2,c3,c4⟩:=RM.Y3 hf (mem_of_getElem? hc);have hdc:=hd i c (Nat.le_refl _) hc;have hT:=sm _ _ (ht i t c hti hc);refine⟨t,_,rfl,SqT.of hT,rfl,_,_,rfl,_,_,rfl,_,_,rfl,rfl,_,rfl,_,rfl,_,_,rfl,⟨by omega,by omega,by omega,by omega⟩,?_⟩;have ec:((c.at_:Int)-(d:Int)).toNat=c.at_-d:=by omega
   rw[ec];refine JY (lo:=(d:Int)) (n:=c.at_-d) (λj σ H2=>∃(re:Addr) (v8:Option V),σ=[some (.ref a),some (.ref b),some (.ref st),some (.ref re),some (.int (d:Int)),some (.int (c.at_:Int)),some (.int (c.plain:Int)),some (.int (c.coded:Int)),v8,v9,none,none]/\Same H' H2/\H2 re=some (.lst (nv (RM.Jo m (d+j) (ks.take i)))))
    ⟨re,v8,rfl,Same.refl _,hR⟩ ?_ ?_
   ·rintro j σ H2 hj ⟨re,v8,rfl,sm2,hR2⟩
    refine⟨_,rfl,re,rfl,⟨_,SqL.of hR2⟩,λD hD=>?_⟩;have s02:=sm.trans sm2;refine Ji (K:=K) (a:=re) (xs:=nv (RM.Jo m (d+j) (ks.take i))) (λu H3=>Same H2 H3/\H3 D=some (.lst (nv (((RM.Jo m (d+j) (ks.take i)).take u).map (at_ (RM.fol m.n m.wheels)))))) ⟨Zg hD,Zb⟩ (λu H3 _ h=>SqL.of (h.1 _ _ hR2)) ?_ ?_
    ·rintro u x H3 hu ⟨sm3,hD3⟩
     obtain⟨x,hx,rfl⟩:=JA hu;have xl:=RM.ZiZ g (mem_of_getElem? hx);have s03:=s02.trans sm3;refine⟨rfl,lcY ⟨_,rfl,a,_,_,_,_,rfl,s03 _ _ h1,T.m,T.mn _ (by decide),rfl,_,rfl,aF,_,_,_,rfl,rfl,SqL.of (s03 _ _ h2.fol),YK (by rw[RM.UT];exact xl),_,hD3,?_,Same.upd sm3 hD,?_⟩⟩
     ·have:=rl (d+j) (ks.take i)
      rw[Zf,length_map,length_take];exact ZF (by omega)
     ·rw[Zb,ZN hx,JK]
    ·rintro H3 ⟨sm3,hD3⟩
     rw[Zf,take_length,RM.Zcm g] at hD3;exact⟨D,some (.int ((d:Int)+(j:Int))),rfl,sm2.trans sm3,hD3⟩
   ·rintro σ H2 ⟨re,v8,rfl,sm2,hR2⟩
    rw[show d+(c.at_-d)=c.at_ by omega] at hR2;have s02:=sm.trans sm2;have hS2:=sm2 _ _ hS;refine⟨_,rfl,_,rfl,_,rfl,_,rfl,a,m,num,c.plain,c.coded,rfl,hm.same s02,g,c3,c4,λH3 so s3 nso hso=>?_⟩;have s03:=s02.trans s3;have hS3:=s3 _ _ hS2;have hR3:=s3 _ _ hR2;have key:∀x,x∈RM.ZQ m (ks.take i)->atI (bv (RM.Zfk m c.plain c.coded)) ((RM.Zr m.n (m.steps c.at_ (RM.ZC m x)):Nat):Int)=some (V.bl (m.letter (m.steps c.at_ (RM.ZC m x)) c.plain==c.coded)):=λx _=>ZmF g ((RM.St.of g x).steps g.toGood c.at_) _ _;have als:=al (ks.take i);have eA:RM.ZQ m (ks.take (i+1))=(RM.ZQ m (ks.take i)).filter λx=>m.letter (m.steps c.at_ (RM.ZC m x)) c.plain==c.coded:=by
     rw[take_add_one,hc];exact RM.Zdg _ _
    have eR:RM.Jo m c.at_ (ks.take (i+1))=((RM.ZQ m (ks.take i)).filter λx=>m.letter (m.steps c.at_ (RM.ZC m x)) c.plain==c.coded).map λx=>RM.Zr m.n (m.steps c.at_ (RM.ZC m x)):=by
     unfold RM.Jo;rw[eA]
    have hR3:H3 re=some (.lst (nv ((RM.ZQ m (ks.take i)).map λx=>RM.Zr m.n (m.steps c.at_ (RM.ZC m x))))):=hR3;generalize RM.ZQ m (ks.take i)=l at *;have gf:∀{u:Nat} {y:Nat},(l.map λx=>RM.Zr m.n (m.steps c.at_ (RM.ZC m x)))[u]? = some y->∃x,l[u]? = some x/\y=RM.Zr m.n (m.steps c.at_ (RM.ZC m x)):=λ{u y} h=>by
     rw[getElem?_map] at h;cases e:l[u]? with
     |none=>rw[e] at h;cases h
     |some x=>rw[e] at h;exact⟨x,rfl,(Option.some.inj h).symm⟩
    refine⟨_,rfl,_,rfl,st,re,_,_,rfl,SqL.of hS3,SqL.of hR3,λD hD=>?_⟩;refine ZeV (K:=K) (a:=st) (b:=re) (xs:=nv l) (ys:=nv (l.map λx=>RM.Zr m.n (m.steps c.at_ (RM.ZC m x)))) (by rw[Zf,Zf,length_map])
     (λu H4=>Same H3 H4/\H4 D=some (.lst (nv ((l.take u).filter λx=>m.letter (m.steps c.at_ (RM.ZC m x)) c.plain==c.coded)))) ⟨Zg hD,Zb⟩ (λu H4 _ h=>⟨SqL.of (h.1 _ _ hS3),SqL.of (h.1 _ _ hR3)⟩) ?_ ?_
    ·rintro u x y H4 T4 hu hv hT4 ⟨sm4,hD4⟩
     obtain⟨x,hx,rfl⟩:=JA hu;obtain⟨y,hy,rfl⟩:=JA hv;obtain⟨x',hx',rfl⟩:=gf hy;rw[hx] at hx';cases hx';have sT:=Zg (o:=.tup [.int (x:Int),.int ((RM.Zr m.n (m.steps c.at_ (RM.ZC m x)):Nat):Int)]) hT4;refine⟨T4,_,rfl,SqT.of Zb,rfl,_,_,rfl,_,_,rfl,rfl,rfl,_,rfl,_,rfl,so,_,_,_,rfl,rfl,SqL.of (sT _ _ (sm4 _ _ hso)),key x (mem_of_getElem? hx),_,rfl,?_⟩;cases ep:(m.letter (m.steps c.at_ (RM.ZC m x)) c.plain==c.coded) with
     |true=>
      refine JT ⟨_,rfl,_,sT _ _ hD4,?_,Same.upd (sm4.trans sT) hD,?_⟩
      ·have:=length_filter_le (λx=>m.letter (m.steps c.at_ (RM.ZC m x)) c.plain==c.coded) (l.take u)
       rw[length_take] at this;rw[Zf];exact ZF (by omega)
      ·rw[Zb,Jr hx ep,JK]
     |false=>
      refine Yh ⟨sm4.trans sT,?_⟩;rw[Jq hx ep];exact sT _ _ hD4
    ·rintro H4 ⟨sm4,hD4⟩
     rw[Zf,take_length] at hD4;have hR4:=sm4 _ _ hR3;have nD:H D=none:=s03.free hD;refine⟨_,rfl,re,rfl,⟨_,SqL.of hR4⟩,λD2 hD2=>?_⟩;refine Ji (K:=K) (a:=re) (xs:=nv (l.map λx=>RM.Zr m.n (m.steps c.at_ (RM.ZC m x))))
      (λu H5=>Same H4 H5/\H5 D2=some (.lst (nv (((l.take u).filter λx=>m.letter (m.steps c.at_ (RM.ZC m x)) c.plain==c.coded).map λx=>RM.Zr m.n (m.steps c.at_ (RM.ZC m x)))))) ⟨Zg hD2,Zb⟩ (λu H5 _ h=>SqL.of (h.1 _ _ hR4)) ?_ ?_
     ·rintro u y H5 hu ⟨sm5,hD5⟩
      obtain⟨y,hy,rfl⟩:=JA hu;obtain⟨x,hx,rfl⟩:=gf hy;refine⟨rfl,_,rfl,_,rfl,so,_,_,_,rfl,rfl,SqL.of (sm5 _ _ (sm4 _ _ hso)),key x (mem_of_getElem? hx),_,rfl,?_⟩;cases ep:(m.letter (m.steps c.at_ (RM.ZC m x)) c.plain==c.coded) with
      |true=>
       refine JT ⟨_,rfl,_,hD5,?_,Same.upd sm5 hD2,?_⟩
       ·have:=length_filter_le (λx=>m.letter (m.steps c.at_ (RM.ZC m x)) c.plain==c.coded) (l.take u)
        rw[length_take] at this;rw[Zf,length_map];exact ZF (by omega)
       ·rw[Zb,Jr hx ep,map_append,ZX]
        rfl
      |false=>
       refine Yh ⟨sm5,?_⟩;rw[Jq hx ep];exact hD5
     ·rintro H5 ⟨sm5,hD5⟩
      rw[Zf,length_map,take_length] at hD5;refine⟨D,D2,c.at_,_,_,_,_,_,rfl,(s03.trans sm4).trans sm5,nD,?_,?_,λj _ hj hc'=>?_⟩
      ·rw[eA]
       exact sm5 _ _ hD4
      ·rw[eR]
       exact hD5
      ·have hjl:j<ks.length:=(List.getElem?_eq_some_iff.mp hc').1
       rw[getElem?_eq_getElem hjl] at hc';rw[getElem?_eq_getElem hik] at hc;cases hc';cases hc;exact(List.pairwise_iff_getElem.mp asc) i j hik hjl (by omega)
  ·rintro σ H' ⟨st,re,d,v5,v6,v7,v8,v9,rfl,sm,nst,hS,hR,hd⟩
   rw[Zw,tl,take_length] at hS;exact⟨_,rfl,k H' st sm nst hS⟩
end
structure Rows(H:Hp)(p:Addr)(rs:List Addr)(B:List (List Nat)):Prop where
 ls:H p=some (.lst (rv rs))
 len:rs.length=B.length
 at_:∀(i:Nat) (r:Addr) (d:List Nat),rs[i]? = some r->B[i]? = some d->r≠p/\H r=some (.lst (nv d))
def Rows.same{H H':Hp}{p:Addr}{rs:List Addr}{B:List (List Nat)}(h:Rows H p rs B)(s:Same H H'):Rows H' p rs B:=
 ⟨s _ _ h.ls,h.len,λi r d x y=>⟨(h.at_ i r d x y).1,s _ _ (h.at_ i r d x y).2⟩⟩
def Rows.snoc{H:Hp}{p r:Addr}{rs:List Addr}{B:List (List Nat)}{d:List Nat}(h:Rows H p rs B)(hr:r≠p)(hd:H r=some (.lst (nv d))):Rows (L2.upd H p (.lst (rv rs++[V.ref r]))) p (rs++[r]) (B++[d]):=by
 refine⟨by rw[Zb,VE],by rw[length_append,length_append,h.len];rfl,λi x y h1 h2=>?_⟩;rcases Vp h1 with h1|⟨rfl,rfl⟩
 ·have hi:i<B.length:=by rw[<- h.len];exact(List.getElem?_eq_some_iff.mp h1).1
  rw[getElem?_append_left hi] at h2;obtain⟨g1,g2⟩:=h.at_ i x y h1 h2;exact⟨g1,by rw[Zj g1];exact g2⟩
 ·rw[h.len,getElem?_append_right (Nat.le_refl _),Nat.sub_self] at h2
  cases (Option.some.inj h2);exact⟨hr,by rw[Zj hr];exact hd⟩
def Rows.get{H:Hp}{p r:Addr}{rs:List Addr}{B:List (List Nat)}(h:Rows H p rs B){i:Nat}(hr:rs[i]? = some r):∃d,B[i]? = some d/\r≠p/\H r=some (.lst (nv d)):=by
 have hi:i<B.length:=by rw[<- h.len];exact(List.getElem?_eq_some_iff.mp hr).1
 exact⟨B[i],getElem?_eq_getElem hi,h.at_ i r _ hr (getElem?_eq_getElem hi)⟩
def J6{α β:Type}{f:α->List β}{l:List α}{i:Nat}{x:α}(h:l[i]? = some x):(l.take (i+1)).flatMap f=(l.take i).flatMap f++f x:=by
 rw[take_add_one,h,flatMap_append];simp
structure Gk(mg:Str->Option Value):Prop extends Gb mg where
 mkn:∃t,mg "MOST_KNOWN" = some (.int 12 t)
 ms:∃t,mg "MOST_STEPS" = some (.int 64 t)
 nt:∃t,mg "NOT_TOLD" = some (.int 255 t)
section
variable{P:Program}{w:World}{K:Frag}{mg:Str->Option Value}{base:Heap}{W M L C:Addr}
inductive Zck:List V->Hp->VK->XK->Prop|mk {vs H Q E} (a:Addr) (x n:Nat) (rs:List Addr) (B:List (List Nat)):vs=[.ref a,.int (x:Int)]->Rows H a rs B->(∀d,d∈B->d.length=n)->x<n->n<=16->(B.length<=4096/\∀(H':Hp) (p:Addr) (rs':List Addr),Same H H'->H p=none->Rows H' p rs' (B.flatMap (RM.J2 n x))->Q (.ref p) H')->Zck vs H Q E
def ZmK:List Str:=["boards", "letter", "result", "board", "other", "exchanged", "another"]
def ZhZ:Zl ZmK ["boards", "letter"] (Ze (top 47)):=fsc
def Zjm(G:Gk mg)(F:At K mg "with_letter_exchanged" (top 47) ["boards", "letter"]):Def P w K mg base CX0 1 "with_letter_exchanged" ["boards", "letter"] Zck:=by
 refine F.ok ZhZ (λvs H Q E h=>?_) (λf _ A _ s H vs Q E _ h=>?_)
 ·obtain⟨a,x,n,rs,B,rfl,_⟩:=h
  rfl
 ·obtain⟨a,x,n,rs,B,rfl,hB,hl,hx,h16,hBl,k⟩:=h
  have nd:=ZhZ.nd;refine⟨_,Zc (Zk (i:=2) nd rfl (Zx Zd)) (Zc (Z6 PassesOwn.never rfl (ZR (pv 0)) (Zo (i:=3) nd rfl)
    (Zc (ZW (ZJ Zb0 (Ja (r:=JX K) ZM (pv 3) (pv 1) (λ_ _=>rfl)) (pk G.nt rfl) (ZG _))
     (Zc (Z3 (J4 PySem.F.plainAttrs_list PySem.F.slot_list_append PySem.F.type_list_append JO (pv 2) (Za (pv 3) Zd))) (Zh Zes)) ZB)
    (Zh (Z6 PassesOwn.never rfl (Zgx rfl G.enum (Za (pv 3) Zd)) (Yl rfl (ZA (Zo (i:=4) nd rfl) (ZA (Zo (i:=5) nd rfl) JI)))
     (Zh (ZW (ZJ Vv (pv 5) (pk G.nt rfl) (ZG _))
      (Zc (Zk (i:=6) nd rfl (JJ Do rfl G.list boot_list (Za (pv 3) Zd)))
      (Zc (ZcY (pv 4) (ZcD (pv 6) (pv 1) Ua))
      (Zc (ZcY (pv 1) (ZcD (pv 6) (pv 4) Ua))
      (Zh (Z3 (J4 PySem.F.plainAttrs_list PySem.F.slot_list_append PySem.F.type_list_append JO (pv 2) (Za (pv 6) Zd))))))) ZB))))))
   (Zh (Zn (pv 2)))),?_⟩;refine⟨Zs (by decide),λp hp=>⟨_,rfl,a,rfl,⟨_,SqL.of (Zg hp _ _ hB.ls)⟩,?_⟩⟩;have ap:a≠p:=Zi hB.ls hp;have Bd:∀(l:List (List Nat)),(∀d,d∈l->True)->(l.flatMap (RM.J2 n x)).length<=n*l.length:=λl _=>by
   induction l with
   |nil=>simp
   |cons d l ih=>
    rw[flatMap_cons,length_append,length_cons,Nat.mul_succ];have:=ih (λ_ _=>trivial);have:=RM.Zaa (i:=x) (d:=d) (show 1<=n by omega);omega
  have big:∀i,((B.take i).flatMap (RM.J2 n x)).length<=65536:=λi=>by
   refine Nat.le_trans (Bd _ λ_ _=>trivial) (Nat.le_trans (Nat.mul_le_mul h16 (Nat.le_trans (List.length_take_le' _ _) hBl)) (by decide))
  refine JD (K:=K) (a:=a) (xs:=rv rs) (λi σ H'=>∃(rs':List Addr) (v3 v4 v5 v6:Option V),σ=[some (.ref a),some (.int (x:Int)),some (.ref p),v3,v4,v5,v6]/\Same H H'/\Rows H' p rs' ((B.take i).flatMap (RM.J2 n x)))
   ⟨[],none,none,none,none,rfl,Zg hp,⟨Zb,rfl,λi r d h _=>by simp at h⟩⟩ (λi σ H' _ ⟨_,_,_,_,_,_,sm,_⟩=>SqL.of (sm _ _ hB.ls)) ?_ ?_
  ·rintro i r σ H' hi ⟨rs',v3,v4,v5,v6,rfl,sm,hR⟩
   obtain⟨r,hr',rfl⟩:=YO hi;obtain⟨d,hd,ra,hrd⟩:=hB.get hr';have dl:d.length=n:=hl d (mem_of_getElem? hd);have rp:r≠p:=Zi hrd hp;have hr1:=sm _ _ hrd;have bi:=big i;refine⟨_,rfl,_,rfl,r,_,_,_,rfl,rfl,SqL.of hr1,YK (by rw[dl];exact hx),rfl,_,rfl,Jl (λh=>?_) λh=>?_⟩
   ·have ne:at_ d x≠Rotor.NONE:=λe=>by
     rw[e] at h;exact absurd h (by decide)
    have ee:(B.take (i+1)).flatMap (RM.J2 n x)=(B.take i).flatMap (RM.J2 n x)++[d]:=by
     rw[J6 hd];unfold RM.J2;rw[if_pos ne]
    refine⟨_,rfl,.inl ⟨rfl,_,SqL.of hR.ls⟩,_,rfl,p,_,_,rfl,rfl,hR.ls,by rw[Zw,hR.len];exact ZF (by omega),rs'++[r],_,_,_,_,rfl,Same.upd sm hp,?_⟩;rw[ee];exact hR.snoc rp hr1
   ·have eq:at_ d x=Rotor.NONE:=by
     refine Classical.byContradiction λne=>h ?_;rw[Bool.not_eq_true',show(255:Int)=((255:Nat):Int) from rfl,Yb,decide_eq_false_iff_not];exact ne
    have ee:(B.take (i+1)).flatMap (RM.J2 n x)=(B.take i).flatMap (RM.J2 n x)++(List.range n).flatMap λj=>if at_ d j=Rotor.NONE then [Rotor.exchanged d x j] else []:=by
     rw[J6 hd];unfold RM.J2;rw[if_neg (λne=>ne eq)]
    have bl:∀j,((B.take i).flatMap (RM.J2 n x)++(List.range j).flatMap λj=>if at_ d j=Rotor.NONE then [Rotor.exchanged d x j] else []).length<=65536+j:=λj=>by
     rw[length_append];have:((List.range j).flatMap λj=>if at_ d j=Rotor.NONE then [Rotor.exchanged d x j] else []).length<=1*(List.range j).length:=by
      generalize List.range j=l;induction l with
      |nil=>simp
      |cons y l ih=>
       rw[flatMap_cons,length_append,length_cons];have:(if at_ d y=Rotor.NONE then [Rotor.exchanged d x y] else []).length<=1:=by split<;>simp
       omega
     rw[length_range] at this;omega
    refine⟨_,rfl,r,_,rfl,SqL.of hr1,Zdu (K:=K) (a:=r) (xs:=nv d) (λj σ H2=>∃(rs':List Addr) (v4 v5 v6:Option V),σ=[some (.ref a),some (.int (x:Int)),some (.ref p),some (.ref r),v4,v5,v6]/\Same H H2 /\
      Rows H2 p rs' ((B.take i).flatMap (RM.J2 n x)++(List.range j).flatMap λj=>if at_ d j=Rotor.NONE then [Rotor.exchanged d x j] else []))
     ⟨rs',v4,v5,v6,rfl,sm,by rw[List.range_zero,List.flatMap_nil,append_nil];exact hR⟩ (λj σ H2 _ ⟨_,_,_,_,_,sm2,_⟩=>SqL.of (sm2 _ _ hrd)) ?_ ?_⟩
    ·rintro j y σ H2 U hj hU ⟨rs',v4,v5,v6,rfl,sm2,hR2⟩
     obtain⟨y,hy,rfl⟩:=JA hj;have jn:j<n:=by rw[<- dl];exact(List.getElem?_eq_some_iff.mp hy).1
     have ey:y=at_ d j:=(RM.Jh hy).symm;have sU:Same H2 (upd H2 U (.tup [.int (j:Int),.int (y:Int)])):=Zg hU;have blj:=bl j;refine⟨U,_,rfl,SqT.of Zb,rfl,_,_,rfl,_,_,rfl,rfl,_,rfl,rfl,_,rfl,Jl (λh2=>?_) λh2=>?_⟩
     ·have yN:at_ d j=Rotor.NONE:=by
       rw[show(255:Int)=((255:Nat):Int) from rfl,Yb] at h2;rw[<- ey];exact of_decide_eq_true h2
      have s2:=sm2.trans sU;refine⟨_,rfl,r,_,rfl,.inl (SqL.of (s2 _ _ hrd)),λq hq=>?_⟩;have qp:q≠p:=λe=>by rw[e,sU _ _ hR2.ls] at hq;cases hq
      have nq:H q=none:=s2.free hq;refine⟨_,rfl,_,rfl,_,rfl,q,_,_,x,rfl,rfl,Zb,Dl (by rw[Zf,dl];exact hx),?_⟩;rw[Jj,show((j:Nat):Int)=(j:Int) from rfl,Zcy];refine⟨_,rfl,_,rfl,_,rfl,q,_,_,j,rfl,rfl,Zb,Dl (by rw[Zf,length_set,dl];exact jn),?_⟩;rw[Jj,Zcy];have s3:Same H2 (upd (upd H2 U (.tup [.int (j:Int),.int (y:Int)])) q (.lst (nv ((d.set x j).set j x)))):=sU.trans (Zg hq);have hR3:=hR2.same s3;refine⟨_,rfl,.inl ⟨rfl,_,SqL.of hR3.ls⟩,_,rfl,p,_,_,rfl,rfl,hR3.ls,by rw[Zw,hR2.len];exact ZF (by omega),rs'++[q],_,_,_,rfl,Same.upd (sm2.trans s3) hp,?_⟩;rw[J8,<- append_assoc,if_pos yN];exact hR3.snoc qp Zb
     ·have yN:¬ at_ d j=Rotor.NONE:=λe=>h2 (by
       rw[show(255:Int)=((255:Nat):Int) from rfl,Yb,ey];exact decide_eq_true e)
      refine⟨rs',_,_,_,rfl,sm2.trans sU,?_⟩;rw[J8,if_neg yN,append_nil];exact hR2.same sU
    ·rintro σ H2 ⟨rs',v4,v5,v6,rfl,sm2,hR2⟩
     refine⟨rs',_,_,_,_,rfl,sm2,?_⟩;rw[ee];rw[Zf,dl] at hR2;exact hR2
  ·rintro σ H' ⟨rs',v3,v4,v5,v6,rfl,sm,hR⟩
   rw[Zw,hB.len,take_length] at hR;exact⟨_,rfl,k H' p rs' sm hp hR⟩
structure ZeI(H:Hp)(a:Addr)(ts:List Addr)(ds:List (List Nat×Rotor.Known)):Prop where
 ls:H a=some (.lst (rv ts))
 len:ts.length=ds.length
 at_:∀(i:Nat) (t:Addr) (x:List Nat×Rotor.Known),ts[i]? = some t->ds[i]? = some x->∃b:Addr,H t=some (.tup [.ref b,.int (x.2.plain:Int),.int (x.2.coded:Int)])/\H b=some (.lst (nv x.1))
def ZeI.same{H H':Hp}{a:Addr}{ts:List Addr}{ds:List (List Nat×Rotor.Known)}(h:ZeI H a ts ds)(s:Same H H'):ZeI H' a ts ds:=
 ⟨s _ _ h.ls,h.len,λi t x h1 h2=>by
  obtain⟨b,g1,g2⟩:=h.at_ i t x h1 h2;exact⟨b,s _ _ g1,s _ _ g2⟩⟩
def ZeI.get{H:Hp}{a t:Addr}{ts:List Addr}{ds:List (List Nat×Rotor.Known)}(h:ZeI H a ts ds){i:Nat}(ht:ts[i]? = some t):∃x,ds[i]? = some x/\∃b:Addr,H t=some (.tup [.ref b,.int (x.2.plain:Int),.int (x.2.coded:Int)])/\H b=some (.lst (nv x.1)):=by
 have hi:i<ds.length:=by rw[<- h.len];exact(List.getElem?_eq_some_iff.mp ht).1
 exact⟨ds[i],getElem?_eq_getElem hi,h.at_ i t _ ht (getElem?_eq_getElem hi)⟩
inductive ZcI:List V->Hp->VK->XK->Prop|mk {vs H Q E} (a b:Addr) (d:List Nat) (ts:List Addr) (ds:List (List Nat×Rotor.Known)):vs=[.ref a,.ref b]->H a=some (.lst (nv d))->ZeI H b ts ds->ds.length<=1000->(∀x,x∈ds->x.2.plain<d.length/\x.2.coded<d.length/\at_ d x.2.plain<x.1.length)/\RV H Q (.bl (ds.all λx=>at_ x.1 (at_ d x.2.plain)==at_ d x.2.coded))->ZcI vs H Q E
def ZkS:List Str:=["board", "demands", "behind", "plain", "coded"]
def ZhT:Zl ZkS ["board", "demands"] (Ze (top 48)):=fsc
def Zjl(G:Gk mg)(F:At K mg "fits" (top 48) ["board", "demands"]):Def P w K mg base CX0 1 "fits" ["board", "demands"] ZcI:=by
 refine F.ok ZhT (λvs H Q E h=>?_) (λf _ A _ s H vs Q E _ h=>?_)
 ·obtain⟨a,b,d,ts,ds,rfl,_⟩:=h
  rfl
 ·obtain⟨a,b,d,ts,ds,rfl,ha,hD,hl,hk,k⟩:=h
  have nd:=ZhT.nd;refine⟨_,Zh (Zn (Zv (ZeP rfl) rfl G.all boot_all (Za (YA rfl nd (ZR (pv 1)) (own:=[("behind",2),("plain",3),("coded",4)]) (g:=Zbx K 3 (JB (Js 2) (JB (Js 3) (JB (Js 4) ZbA)))) (ZP (N:=ZkS) (sc:=Ze (top 48)) (by decide +kernel))
   (λ_ _ _ _ _=>Yl rfl (ZA (Zo (i:=2) nd rfl) (ZA (Zo (i:=3) nd rfl) (ZA (Zo (i:=4) nd rfl) JI)))) (λ_ _ _ _ _=>Jf)
   (λ_ _ _ _ _=>JG Vv (Ja (r:=JX K) ZM (pv 2) (Ja (r:=JX K) ZM (pv 0) (pv 3) (λ_ _=>rfl)) (λ_ _=>rfl)) (Ja (r:=JX K) ZM (pv 0) (pv 4) (λ_ _=>rfl)) (ZG _))) Zd))),?_⟩;refine⟨_,rfl,b,rfl,⟨_,SqL.of hD.ls⟩,λD nD=>?_⟩;refine Ji (K:=K) (a:=b) (xs:=rv ts) (λi H'=>Same H H'/\H' D=some (.lst (bv ((ds.take i).map λx=>at_ x.1 (at_ d x.2.plain)==at_ d x.2.coded)))) ⟨Zg nD,Zb⟩ (λi H' _ h=>SqL.of (h.1 _ _ hD.ls)) ?_ ?_
  ·rintro i t H' hi ⟨sm,hD'⟩
   obtain⟨t,ht,rfl⟩:=YO hi;obtain⟨x,hx,bb,g1,g2⟩:=hD.get ht;obtain⟨c1,c2,c3⟩:=hk x (mem_of_getElem? hx);refine⟨t,_,rfl,SqT.of (sm _ _ g1),rfl,_,_,rfl,_,_,rfl,_,_,rfl,rfl,rfl,lcY ⟨_,rfl,_,rfl,_,rfl,a,_,_,_,rfl,rfl,SqL.of (sm _ _ ha),YK c1,bb,_,_,_,rfl,rfl,SqL.of (sm _ _ g2),YK c3,_,rfl,_,rfl,a,_,_,_,rfl,rfl,SqL.of (sm _ _ ha),YK c2,rfl,_,hD',?_,Same.upd sm nD,?_⟩⟩
   ·rw[Jv,length_map,length_take]
    exact ZF (by omega)
   ·rw[Zb,ZN hx,U4,Yb]
    rfl
  ·rintro H' ⟨sm,hD'⟩
   rw[Zw,hD.len,take_length] at hD';refine⟨D,_,rfl,SqL.of hD',?_⟩;rw[all_map];exact k H' sm
end
theorem Db:∀a b:List Nat,lexLt itemOrd (a.map λ(x:Nat)=>(Sum.inl (x:Int):Int ⊕ List Nat)) (b.map λ(x:Nat)=>(Sum.inl (x:Int):Int ⊕ List Nat))=RM.Z0 a b
 | [],[]=>rfl
 | [],_::_=>rfl
 |_::_,[]=>rfl
 |x::a,y::b=>by
  rw[map_cons,map_cons];show _=if x=y then RM.Z0 a b else decide (x<y)
  by_cases e:x=y
  ·subst e
   rw[lex_self,if_pos rfl];exact Db a b
  ·have ne:(Sum.inl (x:Int):Int ⊕ List Nat)≠Sum.inl (y:Int):=λh=>e (by injection h with h;omega)
   rw[lex_diff (O:=itemOrd) ne,if_neg e];show decide ((x:Int)<(y:Int))=decide (x<y);rw[Bool.eq_iff_iff,decide_eq_true_eq,decide_eq_true_eq];omega
def U5{ts:List Addr}{out:List Value}(h:out.Perm (ts.map Value.ref)):∃ts':List Addr,out=ts'.map Value.ref/\ts'.Perm ts:=by
 let un:Value->Addr:=λv=>match v with
  |.ref a=>a
  |_=>0
 refine⟨out.map un,?_,?_⟩
 ·rw[map_map]
  conv=>lhs;rw[<- map_id out]
  apply map_congr_left;intro v hv;obtain⟨t,_,rfl⟩:=mem_map.mp (h.mem_iff.mp hv);rfl
 ·have:=h.map un
  rw[map_map] at this;refine this.trans (List.Perm.of_eq ?_);conv=>rhs;rw[<- map_id ts]
  rfl
def Za3{κ:PyProof.Rows.KeyKind}{vs:List Value}{arr:Array Keyed}(hp:arr.Perm (pairsOf vs))(hs:SortedToK κ arr (pairsOf vs).size) :
  (arr.map (·.2)).toList.Perm vs/\(arr.map (·.2)).toList.Pairwise λx y=>κ.blt ((κ.keyOf y).getD κ.dflt) ((κ.keyOf x).getD κ.dflt)=false:=by
 have hp':arr.toList.Perm (vs.zip vs):=by
  have:=Array.perm_iff_toList_perm.mp hp;rw[pairsOf_toList] at this;exact this
 have hz:(vs.zip vs).map (·.2)=vs:=List.map_snd_zip (Nat.le_refl _)
 have same:∀p,p∈arr.toList->p.1=p.2:=λp h=>(mem_zip_self (hp'.mem_iff.mp h)).1;have sz:arr.toList.length=vs.length:=by rw[hp'.length_eq,length_zip,Nat.min_self]
 rw[Array.toList_map];refine⟨?_,?_⟩
 ·have:=hp'.map (·.2)
  rw[hz] at this;exact this
 ·rw[pairwise_map,List.pairwise_iff_getElem]
  intro i j hi hj hij;have q:=hs i j (Nat.le_of_lt hij) (by rw[pairsOf_size,<- sz];exact hj);unfold KK at q;have e:∀k (hk:k<arr.toList.length),arr[k]? = some arr.toList[k]:=λk hk=>by
   rw[<- Array.getElem?_toList];exact getElem?_eq_getElem hk
  rw[e i hi,e j hj] at q;have q:κ.blt ((κ.keyOf arr.toList[j].1).getD κ.dflt) ((κ.keyOf arr.toList[i].1).getD κ.dflt)=false:=q;rw[same _ (getElem_mem hi),same _ (getElem_mem hj)] at q;exact q
def Zc3(row:Addr->List Nat)(ts:List Addr):Prop:=ts.Pairwise λa b=>RM.Z0 (row b) (row a)=false
def ZiT(K:Frag):List V->Hp->VK->Prop:=λvs H Q=>∃(a:Addr) (ts:List Addr) (row:Addr->List Nat),vs=[V.ref a]/\SqL K H a (rv ts)/\(∀t,t∈ts->row t≠[]/\H t=some (.tup (nv (row t)))) /\
 ∀(ts':List Addr) (p:Addr),ts'.Perm ts->Zc3 row ts'->H p=none->Q (.ref p) (upd H p (.lst (rv ts')))
theorem ZcW:∀{ts:List Addr} {us:List Value},Zy (rv ts) us->us=ts.map Value.ref
 | [],_,.nil=>rfl
 |t::ts,u::us,.cons r rr=>by
  rw[ZcW rr,map_cons,show u=Value.ref t from r]
theorem UD:∀ts:List Addr,Zy (rv ts) (ts.map Value.ref)
 | []=>.nil
 |t::ts=>.cons rfl (UD ts)
theorem Vk:∀{l:List Nat} {us:List Value} (i:Nat),Zy (nv l) us->tupItems (λ_=>false) i us=some (l.map λ(x:Nat)=>(Sum.inl (x:Int):Int ⊕ List Nat))
 | [],_,i,.nil=>rfl
 |x::l,u::us,i,.cons r rr=>by
  obtain⟨t,rfl⟩:=r;show(if false=true then none else (tupItems (λ_=>false) (i+1) us).map (Sum.inl (x:Int) :: ·))=_
  rw[if_neg (by decide),Vk (i+1) rr];rfl
def Zfc{X:Cx}:Y8 X (.builtin "sorted") (ZiT X.K):=by
 intro pins s σ H vs us Q I r h;obtain⟨a,ts,row,rfl,hs,ht,q⟩:=h;obtain⟨its,rvv,hl,hlen⟩:=I.list hs;rw[Zy.ref1 r];have ei:=ZcW rvv;subst ei;have tup:∀t,t∈ts->∃(o:Obj) (xs:List Value) (n:Nat),s.heap.get? t=some o/\o.cls = .type "tuple" /\ o.data = .seq xs.toArray n/\Zy (nv (row t)) xs:=λt h=>by
  obtain⟨z,xs,rx,o,e1,e2,n,e3⟩:=I.hok t _ (ht t h).2;exact⟨o,xs,n,e1,e2,e3,rx⟩
 have key:∀t,t∈ts->PyProof.Rows.G.tupKeyC s.heap (λ_=>false) (.ref t)=some ((row t).map λ(x:Nat)=>(Sum.inl (x:Int):Int ⊕ List Nat)):=λt h=>by
  obtain⟨o,xs,n,e1,e2,e3,rx⟩:=tup t h;have c:PyProof.Rows.G.isTupObj s.heap (.ref t)=true:=by
   unfold PyProof.Rows.G.isTupObj;dsimp only;rw[e1];dsimp only;rw[e2];rfl
  unfold PyProof.Rows.G.tupKeyC;rw[if_pos c];unfold tupKey;dsimp only;rw[e1];dsimp only;rw[e3];exact Vk 0 rx
 have tf:∀l:List Addr,(∀t,t∈l->t∈ts)->∃fs,TupsOf s.heap (λ_=>false) (l.map Value.ref) fs:=λl=>by
  induction l with
  |nil=>exact λ_=>⟨[],.nil⟩
  |cons t l ih=>
   intro hsub;obtain⟨fs,h⟩:=ih λx hx=>hsub x (mem_cons_of_mem _ hx);have htt:=hsub t mem_cons_self;obtain⟨o,xs,n,e1,e2,e3,rx⟩:=tup t htt;have hne:=(ht t htt).1;cases hrow:row t with
   |nil=>exact absurd hrow hne
   |cons y l'=>
    rw[hrow] at rx;cases rx with
    |cons r0 rr=>
     rename_i u us0;exact⟨u::fs,.cons ⟨t,o,_,n,rfl,e1,e2,e3,rfl,λ_=>⟨_,r0⟩,λz=>nomatch z⟩ h⟩
 obtain⟨fs,hfs⟩:=tf ts λ_ h=>h;refine PyProof.Rows.G.sorted_tups (vs:=ts.map Value.ref) hl.isList hfs (λv hv=>?_) (by rw[length_map,<- Zw];exact hlen) λst' p1 p2 _=>?_
 ·obtain⟨t,h,rfl⟩:=mem_map.mp hv
  exact⟨_,key t h⟩
 ·obtain⟨o1,o2⟩:=Za3 p1 p2
  obtain⟨ts',e1,e2⟩:=U5 o1;have srt:Zc3 row ts':=by
   rw[e1,pairwise_map] at o2;refine List.Pairwise.imp_of_mem (λ{x y} hx hy h=>?_) o2;have h:lexLt itemOrd ((PyProof.Rows.G.tupKeyC s.heap (λ_=>false) (.ref y)).getD []) ((PyProof.Rows.G.tupKeyC s.heap (λ_=>false) (.ref x)).getD [])=false:=h;rw[key x (e2.mem_iff.mp hx),key y (e2.mem_iff.mp hy)] at h;have h:lexLt itemOrd ((row y).map λ(x:Nat)=>(Sum.inl (x:Int):Int ⊕ List Nat)) ((row x).map λ(x:Nat)=>(Sum.inl (x:Int):Int ⊕ List Nat))=false:=h;rw[Db] at h;exact h
  obtain⟨ep,he'⟩:=PyProof.Rows.sortedAll_at s.heap (ts.map Value.ref) ((arrOf st').map (·.2))
  have hlen2:(rv ts').length<=sizeLine:=by rw[Zw,e2.length_eq,<- Zw];exact hlen
  exact⟨.ref _,upd H (s.heap.objs.size+1) (.lst (rv ts')),I.laid (t':=s.toks) (λ_ _=>PyProof.Rows.sortedAll_old) (Nat.le_succ _) ⟨hlen2,((arrOf st').map (·.2)).toList,ep,by rw[e1];exact UD ts',he'⟩,rfl,q ts' _ e2 srt (I.hok.fresh (Nat.le_succ _))⟩
def Zn6{k:Nat}(hk:k<=100000):RgC 0 ((3*k:Nat):Int) 3 k:=by
 have hs:Builtin.Range.rangeSize 0 ((3*k:Nat):Int) 3=(k:Int):=by
  unfold Builtin.Range.rangeSize;rw[if_pos (by decide)];by_cases z:k=0
  ·subst z
   rw[if_neg (by decide)];rfl
  ·rw[if_pos (by omega)]
   omega
 refine⟨by decide,by decide,?_,hs⟩;unfold Builtin.Range.small Builtin.Range.rangeFitsLong;rw[hs,if_pos (by decide)];simp only[Bool.and_eq_true,Bool.or_eq_true,decide_eq_true_eq];refine⟨⟨⟨⟨⟨?_,?_⟩,?_,?_⟩,?_,?_⟩,?_,?_⟩,.inr ⟨?_,?_⟩⟩<;>omega
def Zgu(l:List Nat)(i j:Nat)(hij:i<=j)(hj:j<=l.length):Ds (nv l) (some (i:Int)) (some (j:Int))=nv ((l.drop i).take (j-i)):=by
 unfold Ds;rw[HT.sIx_nat,HT.sIx_nat,Zf,Nat.min_eq_left hj,Nat.min_eq_left (Nat.le_trans hij hj),ZcV,ZcZ]
def Zm0{l:List Nat}{i a b c:Nat}(h0:l[i]? = some a)(h1:l[i+1]? = some b)(h2:l[i+2]? = some c):(l.drop i).take 3=[a,b,c]:=by
 obtain⟨g0,e0⟩:=List.getElem?_eq_some_iff.mp h0;obtain⟨g1,e1⟩:=List.getElem?_eq_some_iff.mp h1;obtain⟨g2,e2⟩:=List.getElem?_eq_some_iff.mp h2;rw[drop_eq_getElem_cons g0,drop_eq_getElem_cons g1,drop_eq_getElem_cons g2,e0,e1,e2];rfl
def toN:V->Nat
 |.int i=>i.toNat
 |_=>0
def Yz(H:Hp)(t:Addr):List Nat:=match H t with
 |some (.tup xs)=>xs.map toN
 |some (.lst xs)=>xs.map toN
 |_=>[]
def ZiY(l:List Nat):(nv l).map toN=l:=by
 unfold nv;rw[map_map];conv=>rhs;rw[<- map_id l]
 apply map_congr_left;intro x _;rfl
def Vu{H:Hp}{t:Addr}{l:List Nat}(h:H t=some (.tup (nv l))):Yz H t=l:=by
 unfold Yz;rw[h];exact ZiY l
def ZbQ{H:Hp}{t:Addr}{l:List Nat}(h:H t=some (.lst (nv l))):Yz H t=l:=by
 unfold Yz;rw[h];exact ZiY l
def kOf:List Nat->Rotor.Known
 | [a,b,c]=>⟨a,b,c⟩
 |_=>⟨0,0,0⟩
def ZfH(c:Rotor.Known):kOf (RM.Za4 c)=c:=rfl
section
variable{P:Program}{w:World}{K:Frag}{mg:Str->Option Value}{base:Heap}{W M L C:Addr}
inductive Zhc:List V->Hp->VK->XK->Prop|mk {vs H Q E} (a:Addr) (l:List Nat) (k:List Rotor.Known):vs=[.ref a]->H a=some (.lst (nv l))->Rotorwork.knownOf l=some k->k.length<=1000->(∀(H':Hp) (p:Addr) (ks:List Rotor.Known),Same H H'->H p=none->Y7 H' p ks->ks.Perm k->(ks.Pairwise λa b=>RM.Z0 (RM.Za4 b) (RM.Za4 a)=false)->Q (.ref p) H')->Zhc vs H Q E
def ZmU:Zl ["numbers", "place"] ["numbers"] (Ze (top 41)):=fsc
def Znd(G:Gk mg)(F:At K mg "known_from" (top 41) ["numbers"]):Def P w K mg base CX0 1 "known_from" ["numbers"] Zhc:=by
 refine F.ok ZmU (λvs H Q E h=>?_) (λf _ A _ s H vs Q E _ h=>?_)
 ·obtain⟨a,l,k,rfl,_⟩:=h
  rfl
 ·obtain⟨a,l,kk,rfl,ha,hk,hkl,k⟩:=h
  have nd:=ZmU.nd;refine⟨_,Zh (Zn (Zv Zfc rfl G.sorted boot_sorted (Za (YA rfl nd (ZbU rfl G.range (Za Zq (Za (Zv Zp rfl G.len PySem.boot_len (Za (pv 0) Zd)) (Za Zq Zd)))) (own:=[("place",1)])
   (ZP (N:=["numbers", "place"]) (sc:=Ze (top 41)) (by decide +kernel)) (λ_ _ _ _ _=>Zo (i:=1) nd rfl) (λ_ _ _ _ _=>Jf)
   (te:=tCB (λxs H Q=>∃p ys,xs=[.ref p]/\((SqL K H p ys/\∀l,H l=none->Q (.ref l) (upd H l (.tup ys)))\/(SqT K H p ys/\Q (.ref p) H))) (V0 (tSl (ZlV K) (V2 0) (Zhv (V2 1)) (Zhv (tOp (rI0 λi j=>.int (i+j)) (V2 1) (tC (.int 3))))) Uq))
   (λ_ _ _ _ _=>JJ Zbv rfl G.tuple boot_tuple (Za (JQ Yq (pv 0) (Jz (pv 1)) (Jz (ZD Z5 (pv 1) Zq))) Zd))) Zd))),?_⟩;have sp:=RM.Vd l;obtain⟨ll,hget⟩ : l.length=3*kk.length/\∀i (h:i<kk.length),l[3*i]? = some kk[i].at_/\l[3*i+1]? = some kk[i].plain/\l[3*i+2]? = some kk[i].coded:=by
   rcases sp with⟨_,e⟩|⟨k',e,e2,e3⟩
   ·rw[e] at hk;cases hk
   ·rw[e] at hk
    cases hk;exact⟨e2,e3⟩
  have el:((nv l).length:Nat)=3*kk.length:=by rw[Zf,ll]
  refine⟨_,rfl,a,_,rfl,.inl (SqL.of ha),0,_,3,kk.length,by rw[el],Zn6 (by omega),λD hD=>?_⟩;refine Zgw (lo:=0) (c:=3) (n:=kk.length) (λi H'=>Same H H'/\∃ts:List Addr,ts.length=i/\H' D=some (.lst (rv ts))/\∀(j:Nat) (t:Addr) (c:Rotor.Known),ts[j]? = some t->kk[j]? = some c->H' t=some (.tup (nv (RM.Za4 c)))) ⟨Zg hD,[],rfl,Zb,λj t c h _=>by simp at h⟩ ?_ ?_
  ·rintro i H' hi ⟨sm,ts,tl,hD',ht⟩
   obtain⟨g0,g1,g2⟩:=hget i hi;have e0:(0:Int)+(i:Int)*3=((3*i:Nat):Int):=by omega
   have e1:(0:Int)+(i:Int)*3+3=((3*i+3:Nat):Int):=by omega
   refine⟨rfl,lcY ⟨_,rfl,_,rfl,_,congrArg V.int e0,_,rfl,_,_,rfl,rfl,_,congrArg V.int e1,a,_,rfl,SqL.of (sm _ _ ha),λq hq=>?_⟩⟩;rw[Zgu l (3*i) (3*i+3) (by omega) (by omega),show 3*i+3-3*i=3 by omega,Zm0 g0 g1 g2];refine⟨q,_,rfl,.inl ⟨SqL.of Zb,λt htn=>?_⟩⟩;have s1:=(Zg (o:=.lst (nv [kk[i].at_,kk[i].plain,kk[i].coded])) hq).trans (Zg (o:=.tup (nv [kk[i].at_,kk[i].plain,kk[i].coded])) htn);have tD:t≠D:=λe=>by rw[e,Zg hq _ _ hD'] at htn;cases htn
   refine⟨_,s1 _ _ hD',by rw[Zw];exact ZF (by omega),Same.upd (sm.trans s1) hD,ts++[t],by rw[length_append,tl];rfl,by rw[Zb,VE],λj x c hj hc=>?_⟩;rcases Vp hj with hj|⟨rfl,rfl⟩
   ·have:=s1 _ _ (ht j x c hj hc)
    have xD:x≠D:=JE (ht j x c hj hc) hD' (λh=>nomatch h);rw[Zj xD];exact this
   ·rw[tl,getElem?_eq_getElem hi] at hc
    cases hc;rw[Zj tD,Zb];rfl
  ·rintro H' ⟨sm,ts,tl,hD',ht⟩
   have tk:∀t,t∈ts->∃j c,ts[j]? = some t/\kk[j]? = some c/\H' t=some (.tup (nv (RM.Za4 c))):=λt h=>by
    obtain⟨j,hj,rfl⟩:=getElem_of_mem h;have hjk:j<kk.length:=by omega
    exact⟨j,kk[j],getElem?_eq_getElem hj,getElem?_eq_getElem hjk,ht j _ _ (getElem?_eq_getElem hj) (getElem?_eq_getElem hjk)⟩
   refine⟨D,ts,Yz H',rfl,SqL.of hD',λt h=>?_,λts' p pm st hp=>?_⟩
   ·obtain⟨j,c,_,_,e⟩:=tk t h
    rw[Vu e];exact⟨by unfold RM.Za4;simp,e⟩
   ·have km:ts.map (λt=>kOf (Yz H' t))=kk:=by
     apply ext_getElem?;intro j;rw[getElem?_map];by_cases hj:j<kk.length
     ·have hjt:j<ts.length:=by omega
      have:=ht j _ _ (getElem?_eq_getElem hjt) (getElem?_eq_getElem hj);rw[getElem?_eq_getElem hjt,getElem?_eq_getElem hj];show some (kOf (Yz H' ts[j]))=_;rw[Vu this,ZfH]
     ·rw[getElem?_eq_none (by omega),getElem?_eq_none (by omega)]
      rfl
    have sp2:=sm.trans (Zg (o:=.lst (rv ts')) hp);have pD:D≠p:=Zi hD' hp;refine k _ p (ts'.map λt=>kOf (Yz H' t)) sp2 (sm.free hp) ⟨ts',Zb,by rw[length_map],λi t c h1 h2=>?_⟩ ?_ ?_
    ·rw[getElem?_map,h1] at h2
     have h2:kOf (Yz H' t)=c:=Option.some.inj h2;obtain⟨j,c',_,_,e⟩:=tk t (pm.mem_iff.mp (mem_of_getElem? h1));rw[Vu e,ZfH] at h2;subst h2;exact Zg hp _ _ e
    ·have:=pm.map λt=>kOf (Yz H' t)
     rw[km] at this;exact this
    ·rw[pairwise_map]
     refine List.Pairwise.imp_of_mem (λ{x y} hx hy h=>?_) st;obtain⟨_,c1,_,_,ex⟩:=tk x (pm.mem_iff.mp hx);obtain⟨_,c2,_,_,ey⟩:=tk y (pm.mem_iff.mp hy);rw[Vu ex,Vu ey] at h ⊢;exact h
inductive Zjp:List V->Hp->VK->XK->Prop|mk {vs H Q E} (a:Addr) (n:Nat) (l:List Nat):vs=[.int (n:Int),.ref a]->H a=some (.lst (nv l))->l.length<=1000000->RV H Q (.bl (RM.J3 n l))->Zjp vs H Q E
def nIK:List Str:=["n", "numbers", "steps", "plain", "coded"]
def Zms:Zl nIK ["n", "numbers"] (Ze (top 40)):=fsc
def Zmr(G:Gk mg)(D1:Def P w K mg base CX0 1 "known_from" ["numbers"] Zhc)(F:At K mg "is_known" (top 40) ["n", "numbers"]):Def P w K mg base CX0 2 "is_known" ["n", "numbers"] Zjp:=by
 refine F.ok Zms (λvs H Q E h=>?_) (λf _ A _ s H vs Q E hr h=>?_)
 ·obtain⟨a,n,l,rfl,_⟩:=h
  rfl
 ·obtain⟨a,n,l,rfl,ha,hl,k⟩:=h
  have nd:=Zms.nd;refine⟨_,Zc (ZW (PW.pt (Zeu (ZJ Zb0 (ZD US (Zv Zp rfl G.len PySem.boot_len (Za (pv 1) Zd)) Zq) Zq (ZG _)) (ZcM (ZJ Vy (Zv Zp rfl G.len PySem.boot_len (Za (pv 1) Zd)) (ZD DL Zq (pk G.mkn rfl)) (ZG _))))) (Zh (Zn U2)) ZB)
   (Zh (Zn (Zv (ZeP rfl) rfl G.all boot_all (Za (YA rfl nd (ZR (pc D1 hr rfl Zm (Za (pv 1) Zd))) (own:=[("steps",2),("plain",3),("coded",4)]) (g:=Zbx K 3 (JB (Js 2) (JB (Js 3) (JB (Js 4) ZbA)))) (ZP (N:=nIK) (sc:=Ze (top 40)) (by decide +kernel))
    (λ_ _ _ _ _=>Yl rfl (ZA (Zo (i:=2) nd rfl) (ZA (Zo (i:=3) nd rfl) (ZA (Zo (i:=4) nd rfl) JI)))) (λ_ _ _ _ _=>Jf)
    (λ_ _ _ _ _=>ZcR (ZdU ZhX ZhX Zq (pv 2) (pk G.ms rfl)) (ZcR (JG Za7 (pv 3) (pv 0) (ZG _)) (Zcs (JG Za7 (pv 4) (pv 0) (ZG _)))))) Zd)))),?_⟩;have sp:=RM.Vd l;have no:(∀kk,Rotorwork.knownOf l=some kk->¬ kk.length<=12)->Q (.bl false) H:=λh=>by
   have:=k H (Same.refl H);unfold RM.J3 at this;cases e:Rotorwork.knownOf l with
   |none=>rw[e] at this;exact this
   |some kk=>
    rw[e] at this;have this:Q (.bl (decide (kk.length<=12)&&Rotor.fits n kk)) H:=this;rw[decide_eq_false (h kk e),Bool.false_and] at this;exact this
  refine⟨_,rfl,a,_,rfl,.inl (SqL.of ha),_,_,rfl,rfl,(show(0:Int)<3 by decide),rfl,_,rfl,Jl (λh=>JT ?_) λh=>?_⟩
  ·refine no λkk e=>?_
   rcases sp with⟨e1,e2⟩|⟨k',e1,e2,e3⟩
   ·rw[e2] at e;cases e
   ·exfalso
    have e0:((nv l).length:Int)%3=0:=by rw[Zf];omega
    simp only[e0] at h;exact absurd h (by decide)
  ·obtain⟨kk,hk,hkl,hget⟩ : ∃k,Rotorwork.knownOf l=some k/\l.length=3*k.length/\∀i (h:i<k.length),l[3*i]? = some k[i].at_/\l[3*i+1]? = some k[i].plain/\l[3*i+2]? = some k[i].coded:=by
    rcases sp with⟨e1,e2⟩|e
    ·exfalso
     apply h;rw[Bool.not_eq_true',decide_eq_false_iff_not];intro y;injection y with y
     rw[Zf] at y;omega
    ·exact e
   refine⟨_,rfl,a,_,rfl,.inl (SqL.of ha),_,_,rfl,rfl,.inl ⟨by decide,by decide⟩,_,_,rfl,rfl,_,rfl,Jl (λh2=>?_) λh2=>?_⟩
   ·have h2:(3:Int)*12<((nv l).length:Int):=of_decide_eq_true h2
    rw[Zf] at h2;exact no λ_ e=>by rw[hk] at e;cases e;omega
   ·have h2:¬ (3:Int)*12<((nv l).length:Int):=λy=>h2 (decide_eq_true y)
    rw[Zf] at h2;have k12:kk.length<=12:=by omega
    have kk0:=k;unfold RM.J3 at kk0;rw[hk] at kk0;have kk0:RV H Q (.bl (decide (kk.length<=12)&&Rotor.fits n kk)):=kk0;rw[decide_eq_true k12,Bool.true_and] at kk0;refine⟨_,rfl,a,l,kk,rfl,ha,hk,by omega,λH1 p ks s1 np ⟨ts,hp,tl,ht⟩ pm _=>⟨p,rfl,⟨_,SqL.of hp⟩,λD hD=>?_⟩⟩;have ksl:ks.length=kk.length:=pm.length_eq;refine Ji (K:=K) (a:=p) (xs:=rv ts) (λi H'=>Same H1 H'/\H' D=some (.lst (bv ((ks.take i).map λc=>decide (1<=c.at_)&&(decide (c.at_<=64)&&(decide (c.plain<n)&&decide (c.coded<n))))))) ⟨Zg hD,Zb⟩ (λi H' _ h=>SqL.of (h.1 _ _ hp)) ?_ ?_
    ·rintro i t H' hi ⟨sm,hD'⟩
     obtain⟨t,hti,rfl⟩:=YO hi;have hik:i<ks.length:=by rw[<- tl];exact(List.getElem?_eq_some_iff.mp hti).1
     obtain⟨c,hc⟩ : ∃c,ks[i]? = some c:=⟨ks[i],getElem?_eq_getElem hik⟩;have hT:=sm _ _ (ht i t c hti hc);have dI:∀a b:Nat,decide ((a:Int)<=(b:Int))=decide (a<=b):=λa b=>by rw[Bool.eq_iff_iff,decide_eq_true_eq,decide_eq_true_eq];omega
     have dL:∀a b:Nat,decide ((a:Int)<(b:Int))=decide (a<b):=λa b=>by rw[Bool.eq_iff_iff,decide_eq_true_eq,decide_eq_true_eq];omega
     have fin:∀b:Bool,b=(decide (1<=c.at_)&&(decide (c.at_<=64)&&(decide (c.plain<n)&&decide (c.coded<n))))->∃acc,H' D=some (.lst acc)/\acc.length<sizeLine/\Same H1 (upd H' D (.lst (acc++[V.bl b])))/\upd H' D (.lst (acc++[V.bl b])) D=some (.lst (bv ((ks.take (i+1)).map λc=>decide (1<=c.at_)&&(decide (c.at_<=64)&&(decide (c.plain<n)&&decide (c.coded<n)))))):=λb hb=>by
      refine⟨_,hD',?_,Same.upd sm hD,?_⟩
      ·rw[Jv,length_map,length_take]
       exact ZF (by omega)
      ·rw[Zb,ZN hc,U4,hb]
     refine⟨t,_,rfl,SqT.of hT,rfl,_,_,rfl,_,_,rfl,_,_,rfl,rfl,rfl,lcY ⟨_,rfl,_,_,rfl,rfl,_,rfl,?_⟩⟩;show if decide (((1:Nat):Int)<=(c.at_:Int))=true then _ else _
     rw[dI];refine Jl (λb1=>?_) λb1=>?_
     ·refine⟨_,_,rfl,rfl,_,rfl,?_⟩
      show if decide ((c.at_:Int)<=((64:Nat):Int))=true then _ else _
      rw[dI];refine Jl (λb2=>?_) λb2=>?_
      ·refine⟨_,rfl,_,rfl,_,_,rfl,rfl,_,rfl,?_⟩
       show if decide ((c.plain:Int)<(n:Int))=true then _ else _
       rw[dL];refine Jl (λb3=>?_) λb3=>?_
       ·refine⟨_,rfl,_,rfl,_,_,rfl,rfl,?_⟩
        refine fin (decide ((c.coded:Int)<(n:Int))) ?_;rw[dL,b1,b2,b3,Bool.true_and,Bool.true_and,Bool.true_and]
       ·exact fin false (by rw[b1,b2,Bool.not_eq_true _ |>.mp b3,Bool.false_and,Bool.true_and,Bool.true_and])
      ·exact fin false (by rw[b1,Bool.not_eq_true _ |>.mp b2,Bool.false_and,Bool.true_and])
     ·exact⟨_,rfl,Yh (fin false (by rw[Bool.not_eq_true _ |>.mp b1,Bool.false_and]))⟩
    ·rintro H' ⟨sm,hD'⟩
     rw[Zw,tl,take_length] at hD';refine⟨D,_,rfl,SqL.of hD',?_⟩;rw[all_map];have:=kk0 H' (s1.trans sm);rw[<- RM.Yr pm] at this;exact this
end
end WW
namespace SO
open PySem
def RI(M:Model)(G:Ctx)(p:Pos)(t:Sem PySem.Fin)(fs:List Frame)(s:Shared)(e:End)(s1:Shared):Prop:=
 match fs with
 |F::fs=>∃e1 s2,Runs M (G.over (F::fs)) p t [] s e1 s2/\match e1 with
  |.ret r=>(match F with|.ret k _ _ _ c q _=>Runs M (G.goto c) q (k r) fs s2 e s1|.gen g k _ c q=>Runs M (G.goto c) q (k (End.ret r).result) fs (s2.setGen g .finished) e s1)
  |.susp v g0 l0 k0 c0 p0 f0=>∃o,splitAtGen (F::fs)=o/\match o with
   |none=>e = .susp v g0 l0 k0 c0 p0 (f0++F::fs)/\s1=s2
   |some (pre,(g,k,c,q),rest)=>Runs M (G.goto c) q (k (.yielded v)) rest (s2.setGen g (End.susp v g0 l0 k0 c0 p0 (f0++pre)).genState) e s1
 | []=>match t with
  |.pure (.done f)=>e = .ret (.ok f)/\s1=s
  |.pure (.again c)=>Runs M (G.goto c) p (M.den c) [] s e s1
  |.raise x=>e = .ret (.error x)/\s1=s
  |.rule _ k=>Runs M G p (k ()) [] s e s1
  |.at q k=>Runs M G q (k ()) [] s e s1
  |.load a _ k=>∃o,s.heap.get? a=some o/\Runs M G p (k o) [] s e s1
  |.update a _ f k=>Runs M G p (k ()) [] {s with heap:=s.heap.update a f} e s1
  |.loadIfAlive a k=>Runs M G p (k (s.heap.get? a)) [] s e s1
  |.point _ k=>Runs M G p (k ()) [] s e s1
  |.alloc o k=>Runs M G p (k s.heap.objs.size) [] {s with heap:=s.heap.push o} e s1
  |.fresh k=>Runs M G p (k s.toks) [] {s with toks:=s.toks+1} e s1
  |.ask k=>Runs M G p (k ⟨M.prog,M.w.params⟩) [] s e s1
  |.choose src n k=>Runs M G p (k (M.w.draws src (s.drawn.get src)%n)) [] {s with drawn:=s.drawn.bump src} e s1
  |.os q _ k=>Runs M G p (k (Os.step s.os q).2) [] {s with os:=(Os.step s.os q).1} e s1
  |.handled own k=>Runs M G p (k (if own then G.own else G.handled)) [] s e s1
  |.genState g k=>∃o,s.gens[g]? = some o/\Runs M G p (k o.seen) [] s e s1
  |.stack k=>Runs M G p (k ((G.code,p)::G.below)) [] s e s1
  |.thread k=>Runs M G p (k 0) [] s e s1
  |.newGen c k=>Runs M G p (k s.gens.size) [] {s with gens:=s.gens.push (.fresh c)} e s1
  |.call c h g l k=>∃e1 s2,Runs M (G.enter c h p) p (M.den c) [] s e1 s2/\match e1 with
   |.ret r=>Runs M G p (k r) [] s2 e s1
   |.susp v g0 l0 k0 c0 p0 f0=>e = .susp v g0 l0 k0 c0 p0 (f0++[.ret k h g l G.code p []])/\s1=s2
  |.yield v g l k=>e = .susp v g l k G.code p []/\s1=s
  |.resume g r _ k=>∃o,s.gens[g]? = some o/\match o with
   |.fresh c=>(match r with
    |.send v=>(v = .none->∃e1 s2,Runs M (G.wake c p) p (M.den c) [] (s.setGen g .running) e1 s2/\Runs M G p (k e1.result) [] (s2.setGen g e1.genState) e s1)/\(v ≠ .none->Runs M G p (k .justStarted) [] s e s1)
    |.throw x=>Runs M G p (k (.raised x)) [] (s.setGen g .finished) e s1)
   |.suspended k0 _ c0 p0 f0 _=>∃e1 s2,Runs M (G.wake c0 p) p0 (k0 r) f0 (s.setGen g .running) e1 s2/\Runs M G p (k e1.result) [] (s2.setGen g e1.genState) e s1
   |.running=>Runs M G p (k .running) [] s e s1
   |.finished=>Runs M G p (k .finished) [] s e s1
  |_=>False
def runs_inv{M:Model}{G:Ctx}{p:Pos}{t:Sem PySem.Fin}{fs:List Frame}{s s1:Shared}{e:End}(h:Runs M G p t fs s e s1):RI M G p t fs s e s1:=by
 cases h with
 |resumeFresh a b _ c=>exact⟨_,a,λ_=>⟨_,_,b,c⟩,λh=>absurd rfl h⟩
 |resumeSuspended a b _ c=>exact⟨_,a,_,_,b,c⟩
 |resumeJustStarted a b c=>exact⟨_,a,λh=>absurd h b,λ_=>c⟩
 |segSuspOut a b=>exact⟨_,_,b,_,a,rfl,rfl⟩
 |segSuspGen a b _ c=>exact⟨_,_,b,_,a,c⟩
 |callSusp a=>exact⟨_,_,a,rfl,rfl⟩
 |update _ a=>exact a
 |choose _ a=>exact a
 |again _ a=>exact a
 |_=>first|exact⟨rfl,rfl⟩|assumption|exact⟨_,_,‹_›,‹_›⟩|exact⟨_,‹_›,‹_›⟩
def ZaS{M:Model}{G:Ctx}{p:Pos}{t:Sem PySem.Fin}{fs:List Frame}{s s1:Shared}{e1:End}(h1:Runs M G p t fs s e1 s1):∀{e2:End} {s2:Shared},Runs M G p t fs s e2 s2->e1=e2/\s1=s2:=by
 have N:∀{X:Type} {x:X} {o:Option X},o=some x->∀{y},o=some y->x=y:=λa _ b=>Option.some.inj (a.symm.trans b);induction h1 with intro e2 s2 h<;>have k:=runs_inv h<;>clear h
 |done|raise|yield=>exact⟨k.1.symm,k.2.symm⟩
 |load a _ ih=>obtain⟨_,b,k⟩:=k;cases N a b;exact ih k
 |genState a _ ih=>obtain⟨_,b,k⟩:=k;cases N a b;exact ih k
 |call _ _ i j=>obtain⟨_,_,a,k⟩:=k;obtain⟨rfl,rfl⟩:=i a;exact j k
 |callSusp _ i=>obtain⟨_,_,a,k⟩:=k;obtain⟨rfl,rfl⟩:=i a;exact⟨k.1.symm,k.2.symm⟩
 |resumeFresh a _ _ _ i j=>obtain⟨_,b,k⟩:=k;cases N a b;obtain⟨_,_,b,k⟩:=k.1 rfl;obtain⟨rfl,rfl⟩:=i b;exact j k
 |resumeSuspended a _ _ _ i j=>obtain⟨_,b,k⟩:=k;cases N a b;obtain⟨_,_,b,k⟩:=k;obtain⟨rfl,rfl⟩:=i b;exact j k
 |resumeJustStarted a v _ ih=>obtain⟨_,b,k⟩:=k;cases N a b;exact ih (k.2 v)
 |resumeThrowFresh a _ ih|resumeRunning a _ ih|resumeFinished a _ ih=>obtain⟨_,b,k⟩:=k;cases N a b;exact ih k
 |segRet _ _ i j|segGen _ _ i j=>obtain⟨_,_,a,k⟩:=k;obtain⟨rfl,rfl⟩:=i a;exact j k
 |segSuspOut a _ i=>obtain⟨_,_,b,k⟩:=k;obtain⟨rfl,rfl⟩:=i b;obtain⟨_,c,k⟩:=k;cases a.symm.trans c;exact⟨k.1.symm,k.2.symm⟩
 |segSuspGen a _ _ _ i j=>obtain⟨_,_,b,k⟩:=k;obtain⟨rfl,rfl⟩:=i b;obtain⟨_,c,k⟩:=k;cases a.symm.trans c;exact j k
 |again _ _ ih|update _ _ ih|choose _ _ ih=>exact ih k
 |_=>rename_i ih;exact ih k
def ZgE{M:Model}{G:Ctx}{p:Pos}{g:Nat}{r:Resume}{s s1 s2:Shared}{a b:GenResult}(h1:Wakes M G p g r s a s1)(h2:Wakes M G p g r s b s2):a=b/\s1=s2:=by
 unfold Wakes at h1 h2;cases hg:s.gens[g]? with
 |none=>simp only[hg] at h1
 |some gs=>
  simp only[hg] at h1 h2;cases gs with
  |fresh c=>
   cases r with
   |send v=>
    by_cases hv:v = .none
    ·subst hv
     obtain⟨e1,t1,r1,_,rfl,rfl⟩:=h1;obtain⟨e2,t2,r2,_,rfl,rfl⟩:=h2;obtain⟨rfl,rfl⟩:=ZaS r1 r2;exact⟨rfl,rfl⟩
    ·have k1:a = .justStarted/\s1=s:=by cases v<;>first|exact absurd rfl hv|exact h1
     have k2:b = .justStarted/\s2=s:=by cases v<;>first|exact absurd rfl hv|exact h2
     exact⟨k1.1.trans k2.1.symm,k1.2.trans k2.2.symm⟩
   |throw x=>exact⟨h1.1.trans h2.1.symm,h1.2.trans h2.2.symm⟩
  |suspended=>
   obtain⟨e1,t1,r1,_,rfl,rfl⟩:=h1;obtain⟨e2,t2,r2,_,rfl,rfl⟩:=h2;obtain⟨rfl,rfl⟩:=ZaS r1 r2;exact⟨rfl,rfl⟩
  |running=>exact⟨h1.1.trans h2.1.symm,h1.2.trans h2.2.symm⟩
  |finished=>exact⟨h1.1.trans h2.1.symm,h1.2.trans h2.2.symm⟩
def Zi7{X:Type}{M:Model}{G:Ctx}{Q Q':X->Pos->Shared->Prop}{E E':Value->Pos->Shared->Prop}(t:Sem X){p:Pos}{s:Shared}(h1:Sem.wp M G t Q E p s)(h2:Sem.wp M G t Q' E' p s) :
  (∃x p' s',Q x p' s'/\Q' x p' s')\/∃v p' s',E v p' s'/\E' v p' s':=by
 induction t generalizing p s with
 |pure x=>exact .inl ⟨x,p,s,h1,h2⟩
 |raise v=>exact .inr ⟨v,p,s,h1,h2⟩
 |unsupported=>exact h1.elim
 |finish=>exact h1.elim
 |yield=>exact h1.elim
 |fork=>exact h1.elim
 |await=>exact h1.elim
 |register=>exact h1.elim
 |rule _ k ih=>exact ih _ h1 h2
 | «at» _ k ih=>exact ih _ h1 h2
 |alloc _ k ih=>exact ih _ h1 h2
 |loadIfAlive _ k ih=>exact ih _ h1 h2
 |point _ k ih=>exact ih _ h1 h2
 |fresh k ih=>exact ih _ h1 h2
 |ask k ih=>exact ih _ h1 h2
 |os _ _ k ih=>exact ih _ h1 h2
 |handled _ k ih=>exact ih _ h1 h2
 |newGen _ k ih=>exact ih _ h1 h2
 |stack k ih=>exact ih _ h1 h2
 |thread k ih=>exact ih _ h1 h2
 |load a _ k ih=>
  obtain⟨o,ho,h1⟩:=h1;obtain⟨o',ho',h2⟩:=h2;rw[ho] at ho';cases ho';exact ih _ h1 h2
 |genState a k ih=>
  obtain⟨o,ho,h1⟩:=h1;obtain⟨o',ho',h2⟩:=h2;rw[ho] at ho';cases ho';exact ih _ h1 h2
 |update a _ f k ih=>exact ih _ h1.2 h2.2
 |choose _ _ k ih=>exact ih _ h1.2 h2.2
 |call c h g l k ih=>
  obtain⟨r,s1,hr,h1⟩:=h1;obtain⟨r',s2,hr',h2⟩:=h2;obtain⟨a,b⟩:=ZaS hr hr';cases a;cases b;exact ih _ h1 h2
 |resume g r l k ih=>
  obtain⟨res,s1,hw,h1⟩:=h1;obtain⟨res',s2,hw',h2⟩:=h2;obtain⟨rfl,rfl⟩:=ZgE hw hw';exact ih _ h1 h2
open PySem PyProof.Rows
def sw(st:SortSt):SortSt:=SortSt.mk' (tuples' true) (arrOf st) (pendingOf st) (gallopOf st) (failedOf st)
class Gd(al:Type) where
 gd:(Keyed->Prop)->al->Prop
instance:Gd Nat:=⟨λ_ _=>True⟩
instance:Gd Bool:=⟨λ_ _=>True⟩
instance:Gd Unit:=⟨λ_ _=>True⟩
instance ZnZ:Gd (Value×Value):=⟨λg x=>g x⟩
instance {al:Type} [Gd al]:Gd (Option al):=⟨λg x=>∀y,x=some y->Gd.gd g y⟩
instance {al:Type} [Gd al]:Gd (Array al):=⟨λg x=>∀y,y∈x->Gd.gd g y⟩
instance (priority:=low) {al be:Type} [Gd al] [Gd be]:Gd (al×be):=⟨λg x=>Gd.gd g x.1/\Gd.gd g x.2⟩
instance {al:Type} [Gd al]:Gd (ForInStep al):=⟨λg x=>match x with
 |.done y=>Gd.gd g y
 |.yield y=>Gd.gd g y⟩
section
variable(M:Model)(G:Ctx)(s:Shared)(g:Keyed->Prop)
def OKs(st:SortSt):Prop:=kindOf st=oneType'/\∀x,x∈arrOf st->g x
abbrev Ef:Value->Pos->Shared->Prop:=λ_ _ _=>False
def At{al:Type}[Gd al](st:SortSt)(m1 m2:StateT SortSt Sem al):Prop:=
 ∀(p2:Pos) (Q:al×SortSt->Pos->Shared->Prop),Sem.wp M G (m2.run (sw st)) Q Ef p2 s ->
  ∃(a:al) (st':SortSt) (p':Pos),Q (a,sw st') p' s/\OKs g st'/\Gd.gd g a/\∀(p1:Pos) (Q1:al×SortSt->Pos->Shared->Prop),(∀p,Q1 (a,st') p s)->Sem.wp M G (m1.run st) Q1 Ef p1 s
def Sm{al:Type}[Gd al](m:StateT SortSt Sem al):Prop:=∀st,OKs g st->At M G s g st m m
end
section
variable{M:Model}{G:Ctx}{s:Shared}{g:Keyed->Prop}{al be:Type}[Gd al][Gd be]
theorem At.pure{st:SortSt}{a:al}(h:OKs g st)(ha:Gd.gd g a):At M G s g st (pure a) (pure a):=by
 intro p2 Q hq;rw[StateT.run_pure,Sem.wp_pure'] at hq;refine⟨a,st,p2,hq,h,ha,λp1 Q1 h1=>?_⟩;rw[StateT.run_pure,Sem.wp_pure'];exact h1 p1
def At.bind{st:SortSt}{m1 m2:StateT SortSt Sem al}{f1 f2:al->StateT SortSt Sem be}(h:At M G s g st m1 m2)(hf:∀a st',Gd.gd g a->OKs g st'->At M G s g st' (f1 a) (f2 a)):At M G s g st (m1 >>= f1) (m2 >>= f2):=by
 intro p2 Q hq;rw[StateT.run_bind,Sem.wp_bind'] at hq;obtain⟨a,st',p',q,ok,ga,ev⟩:=h p2 _ hq;obtain⟨b,st'',p'',q2,ok2,gb,ev2⟩:=hf a st' ga ok p' Q q;refine⟨b,st'',p'',q2,ok2,gb,λp1 Q1 h1=>?_⟩;rw[StateT.run_bind,Sem.wp_bind'];exact ev p1 _ λp=>ev2 p Q1 h1
def At.getBind{st:SortSt}{f1 f2:SortSt->StateT SortSt Sem be}(h:At M G s g st (f1 st) (f2 (sw st))):At M G s g st (get >>= f1) (get >>= f2):=by
 intro p2 Q hq;rw[StateT.run_bind,StateT.run_get,pure_bind] at hq;obtain⟨b,st'',p'',q2,ok2,gb,ev2⟩:=h p2 Q hq;refine⟨b,st'',p'',q2,ok2,gb,λp1 Q1 h1=>?_⟩;rw[StateT.run_bind,StateT.run_get,pure_bind];exact ev2 p1 Q1 h1
theorem At.modify{st:SortSt}{f:SortSt->SortSt}(h:OKs g (f st))(hf:f (sw st)=sw (f st)):At M G s g st (modify f:StateT SortSt Sem PUnit) (modify f):=by
 intro p2 Q hq;rw[StateT.run_modify,Sem.wp_pure',hf] at hq;refine⟨(),f st,p2,hq,h,trivial,λp1 Q1 h1=>?_⟩;rw[StateT.run_modify,Sem.wp_pure'];exact h1 p1
theorem At.set{st x y:SortSt}(h:OKs g x)(hf:y=sw x):At M G s g st (set x:StateT SortSt Sem PUnit) (set y):=by
 intro p2 Q hq;rw[StateT.run_set,Sem.wp_pure',hf] at hq;refine⟨(),x,p2,hq,h,trivial,λp1 Q1 h1=>?_⟩;rw[StateT.run_set,Sem.wp_pure'];exact h1 p1
def At.no{st:SortSt}{m1:StateT SortSt Sem al}{w:String}:At M G s g st m1 (liftM (PySem.unsupported w:Sem al)):=by
 intro p2 Q hq;have hq:Sem.wp M G (StateT.run (StateT.lift (PySem.unsupported w:Sem al)) (sw st)) Q Ef p2 s:=hq;rw[StateT.run_lift,Sem.wp_bind'] at hq;exact hq.elim
theorem At.rule{st:SortSt}(h:OKs g st)(w:String):At M G s g st (liftM (PySem.rule w:Sem Unit)) (liftM (PySem.rule w:Sem Unit)):=by
 intro p2 Q hq;have hq:Sem.wp M G (StateT.run (StateT.lift (PySem.rule w:Sem Unit)) (sw st)) Q Ef p2 s:=hq;rw[StateT.run_lift,Sem.wp_bind'] at hq;refine⟨(),st,p2,hq,h,trivial,λp1 Q1 h1=>?_⟩;show Sem.wp M G (StateT.run (StateT.lift (PySem.rule w:Sem Unit)) st) Q1 Ef p1 s;rw[StateT.run_lift,Sem.wp_bind'];exact h1 p1
def At.ite{st:SortSt}{c:Prop}[Decidable c]{a1 a2 b1 b2:StateT SortSt Sem al}(h1:c->At M G s g st a1 a2)(h2:¬ c->At M G s g st b1 b2):At M G s g st (if c then a1 else b1) (if c then a2 else b2):=by
 by_cases hc:c
 ·rw[if_pos hc,if_pos hc]
  exact h1 hc
 ·rw[if_neg hc,if_neg hc]
  exact h2 hc
def At.list{xs:List Nat}{f1 f2:Nat->be->StateT SortSt Sem (ForInStep be)}(hf:∀x b st,Gd.gd g b->OKs g st->At M G s g st (f1 x b) (f2 x b)):∀{b:be} {st:SortSt},Gd.gd g b->OKs g st->At M G s g st (forIn xs b f1) (forIn xs b f2):=by
 induction xs with
 |nil=>
  intro b st hb ok;rw[forIn_nil,forIn_nil];exact At.pure ok hb
 |cons x xs ih=>
  intro b st hb ok;rw[List.forIn_cons,List.forIn_cons];refine At.bind (hf x b st hb ok) λr _ hr ok'=>?_;cases r with
  |done y=>exact At.pure ok' hr
  |yield y=>exact ih hr ok'
def At.range{lo hi:Nat}{f1 f2:Nat->be->StateT SortSt Sem (ForInStep be)}(hf:∀x b st,Gd.gd g b->OKs g st->At M G s g st (f1 x b) (f2 x b)){b:be}{st:SortSt}(hb:Gd.gd g b)(ok:OKs g st):At M G s g st (forIn [lo:hi] b f1) (forIn [lo:hi] b f2):=by
 rw[Std.Legacy.Range.forIn_eq_forIn_range',Std.Legacy.Range.forIn_eq_forIn_range'];exact At.list hf hb ok
end
open PySem PyProof.Rows HT
section
open PySem.SeqAt
open PySem.AutoSeq1 (wpAny_loadPart')
open PySem.MeetsSeq PySem.MeetsSeq2 PySem.MeetsSeq3
def YH{al:Type}{l:List al}{i:Nat}(h:i<l.length):l.drop i=l[i]::l.drop (i+1):=drop_eq_getElem_cons h
def Zjz(l b:Addr)(xs ys:Array Value)(n n2:Nat)(ns ms:List Int)(hi:IntsAre xs.toList ns)(hj:IntsAre ys.toList ms)(k:Nat):∀i:Nat,ns.length-i=k->i<=ns.length->i<=ms.length ->
  Meets (Builtin.«list.__eq__.loop» ⟨[.ref l,.ref b,rawInt i,rawInt 0],[]⟩) (λ_ R s=>s.heap.get? l=some {cls:=.type "list",data:=.seq xs n}/\s.heap.get? b=some {cls:=.type "list",data:=.seq ys n2} /\
   R (.ok (.ret (.bool (lexLt (ns.drop i) (ms.drop i))))) s):=by
 have z1:xs.size=ns.length:=by rw[<- hi.length];simp
 have z2:ys.size=ms.length:=by rw[<- hj.length];simp
 induction k with
 |zero=>
  intro i hk h1 h2 prog w A R s h;obtain⟨hp,gs,d,tk,os⟩:=s;obtain⟨hl,hb,h⟩:=h
  wp_walk using wpAny_loadPart' hl,wpAny_loadPart' hb
  have e1:xs[((i:Nat):Int).toNat]? = none:=by simp;omega
  rw[e1]
  wp_walk using wpAny_loadPart' hl,wpAny_loadPart' hb
  show R (.ok (.ret (.bool (decide (xs.size<ys.size))))) _;have ed:ns.drop i=[]:=List.drop_of_length_le (by omega);rw[ed] at h;by_cases hm:i<ms.length
  ·rw[YH hm,lexLt_nil_cons] at h
   rw[decide_eq_true (show xs.size<ys.size by omega)];exact h
  ·rw[List.drop_of_length_le (show ms.length<=i by omega),lexLt_nil_nil] at h
   rw[decide_eq_false (show ¬ xs.size<ys.size by omega)];exact h
 |succ k ih=>
  intro i hk h1 h2 prog w A R s h;obtain⟨hp,gs,d,tk,os⟩:=s;obtain⟨hl,hb,h⟩:=h;have hin:i<ns.length:=by omega
  have hix:i<xs.size:=by omega
  obtain⟨t,ea⟩:=IntsAre.int_at hi i xs[i] (by rw[Array.getElem?_toList];simp[hix]);have e1:xs[((i:Nat):Int).toNat]? = some (.int (ns.getD i 0) t):=by rw[Int.toNat_natCast,<- ea];simp[hix]
  have en:ns.getD i 0=ns[i]:=by simp[hin]
  wp_walk using wpAny_loadPart' hl,wpAny_loadPart' hb
  rw[YH hin] at h;by_cases hm:i<ms.length
  ·have hiy:i<ys.size:=by omega
   obtain⟨u,eb⟩:=IntsAre.int_at hj i ys[i] (by rw[Array.getElem?_toList];simp[hiy]);have e2:ys[((i:Nat):Int).toNat]? = some (.int (ms.getD i 0) u):=by rw[Int.toNat_natCast,<- eb];simp[hiy]
   have em:ms.getD i 0=ms[i]:=by simp[hm]
   have hc:((i:Int)+1)=((i+1:Nat):Int):=by omega
   rw[YH hm,lexLt_cons,<- en,<- em] at h;rw[e1,e2];obtain⟨e,he,hiff⟩:=eqAt_int A.in1 ⟨hp,gs,d,tk,os⟩ (ns.getD i 0) t (ms.getD i 0) u;refine wpAny_bind (he prog w _ _ ?_);cases e with
   |true=>
    rw[if_pos (hiff.mp rfl)] at h
    wp_walk
    rw[hc];refine⟨plainId_quiet plain_eq_loop _,codeAny_builtin entry_eq_loop ?_⟩;rw[Around.under_plainId plain_eq_loop _];exact ih (i+1) (by omega) (by omega) (by omega) prog w A R _ ⟨hl,hb,h⟩
   |false=>
    rw[if_neg (λq=>absurd (hiff.mpr q) Bool.false_ne_true)] at h;have hri:=rcLt_int A.in1 ⟨hp,gs,d,tk,os⟩ (ns.getD i 0) t (ms.getD i 0) u prog w
    wp_walk using wpAny_loadPart' hl,wpAny_loadPart' hb
    rw[e1,e2]
    wp_walk using hri
    exact h
  ·have e2:ys[((i:Nat):Int).toNat]? = none:=by simp;omega
   rw[List.drop_of_length_le (show ms.length<=i by omega),lexLt_cons_nil] at h;rw[e1,e2]
   wp_walk using wpAny_loadPart' hl,wpAny_loadPart' hb
   show R (.ok (.ret (.bool (decide (xs.size<ys.size))))) _;rw[decide_eq_false (show ¬ xs.size<ys.size by omega)];exact h
def ZjX(l b:Addr)(xs ys:Array Value)(n n2:Nat)(ns ms:List Int)(hi:IntsAre xs.toList ns)(hj:IntsAre ys.toList ms) :
  Meets (Builtin.«list.__lt__» ⟨[.ref l,.ref b],[]⟩) (λ_ R s=>s.heap.get? l=some {cls:=.type "list",data:=.seq xs n}/\s.heap.get? b=some {cls:=.type "list",data:=.seq ys n2}/\R (.ok (.ret (.bool (lexLt ns ms)))) s):=by
 intro prog w A R s h;obtain⟨hp,gs,d,tk,os⟩:=s;obtain⟨hl,hb,h⟩:=h;have f3:=AutoSeq1.sub_list_list
 wp_walk using wpAny_loadPart' hl,wpAny_loadPart' hb
 refine⟨plainId_quiet plain_eq_loop _,codeAny_builtin entry_eq_loop ?_⟩;rw[Around.under_plainId plain_eq_loop _];exact Zjz l b xs ys n n2 ns ms hi hj _ 0 rfl (Nat.zero_le _) (Nat.zero_le _) prog w A R _ ⟨hl,hb,h⟩
end
def ZeL{prog:Program}{w:World}{A:Around}{E:Value->Shared->Prop}{s:Shared}{l b:Addr}{xs ys:Array Value}{n n2:Nat}{ns ms:List Int}{Q:Bool->Shared->Prop}(hu:A.units<cLine)(hi:IntsAre xs.toList ns)(hj:IntsAre ys.toList ms)
  (hl:s.heap.get? l=some {cls:=.type "list",data:=.seq xs n}) (hb:s.heap.get? b=some {cls:=.type "list",data:=.seq ys n2}) (h:Q (lexLt ns ms) s):wpAny (model prog w) A (oneLt' true (.ref l) (.ref b)) Q E s:=by
 rw[oneLt'_eq];simp only[if_true];refine wpAny_bind (wpAny_cRoomFor hu ?_);refine wpAny_bind (wpAny_callSpecialIfBound?_slot ⟨_,hl,rfl⟩ PySem.F.slot_list_lt (call_meets PySem.F.slot_list_lt ⟨_,hl,rfl⟩ PySem.F.entry_list_lt (PySem.F.args_list_lt_2 _ _) (ZjX l b xs ys n n2 ns ms hi hj) ⟨hl,hb,?_⟩));exact wpAny_truthy_bool h
def GdL(h:Heap)(x:Keyed):Prop:=∃(a:Addr) (n:Nat) (its:List Value) (l:List Nat),x.1 = .ref a/\h.get? a=some {cls:=.type "list",data:=.seq its.toArray n}/\L2.Zy (WW.nv l) its
theorem Zar:∀{l:List Nat} {us:List Value},L2.Zy (WW.nv l) us->IntsAre us (l.map λ(x:Nat)=>(x:Int))
 | [],_,.nil=>.nil
 |x::l,u::us,.cons r rr=>by
  obtain⟨t,rfl⟩:=r;exact .cons _ t (Zar rr)
theorem Zeh:∀a b:List Nat,HT.lexLt (a.map λ(x:Nat)=>(x:Int)) (b.map λ(x:Nat)=>(x:Int))=RM.Z0 a b
 | [],[]=>rfl
 | [],_::_=>rfl
 |_::_,[]=>rfl
 |x::a,y::b=>by
  rw[map_cons,map_cons,HT.lexLt_cons,Zeh a b];show _=if x=y then RM.Z0 a b else decide (x<y)
  by_cases e:x=y
  ·rw[if_pos e,if_pos (by omega)]
  ·rw[if_neg e,if_neg (by omega),Bool.eq_iff_iff,decide_eq_true_eq,decide_eq_true_eq]
   omega
section
variable{prog:Program}{w:World}{A:Around}{G:Ctx}{s:Shared}
def At.lt(hu:A.units<cLine)(hG:G.In A){x y:Keyed}(hx:GdL s.heap x)(hy:GdL s.heap y):Sm (model prog w) G s (GdL s.heap) (lt' x y):=by
 intro st ok;obtain⟨a,n,xs,l,ex,hl,rx⟩:=hx;obtain⟨b,n2,ys,m,ey,hb,ry⟩:=hy;rw[lt'_eq];refine At.getBind ?_;have k1:kindOf st=oneType':=ok.1;have k2:kindOf (sw st)=tuples' true:=rfl;rw[k1,k2,ex,ey];have f1:∀p,Sem.wp (model prog w) G (keyLt' oneType' (.ref a) (.ref b)) (λr _ s'=>r=RM.Z0 l m/\s'=s) Ef p s:=λp=>by
  have:wpAny (model prog w) A (keyLt' oneType' (.ref a) (.ref b)) (λr s'=>r=RM.Z0 l m/\s'=s) (λ_ _=>False) s:=by
   rw[keyLt'_oneType];refine ZeL hu (by simpa using Zar rx) (by simpa using Zar ry) hl hb ?_;rw[Zeh];exact⟨rfl,rfl⟩
  exact this G p hG
 have f2:∀p,Sem.wp (model prog w) G (keyLt' (tuples' true) (.ref a) (.ref b)) (λr _ s'=>r=RM.Z0 l m/\s'=s) Ef p s:=λp=>by
  have kx:(tupKind s.heap λ_=>false).keyOf (.ref a)=some (l.map λ(x:Nat)=>(Sum.inl (x:Int):Int ⊕ List Nat)):=by
   show tupKey s.heap (λ_=>false) (.ref a)=_;unfold tupKey;dsimp only;rw[hl];exact WW.Vk 0 (by simpa using rx)
  have ky:(tupKind s.heap λ_=>false).keyOf (.ref b)=some (m.map λ(x:Nat)=>(Sum.inl (x:Int):Int ⊕ List Nat)):=by
   show tupKey s.heap (λ_=>false) (.ref b)=_;unfold tupKey;dsimp only;rw[hb];exact WW.Vk 0 (by simpa using ry)
  have:wpAny (model prog w) A (keyLt' (tuples' true) (.ref a) (.ref b)) (λr s'=>r=RM.Z0 l m/\s'=s) (λ_ _=>False) s:=
   tup_ltAt true A _ _ _ _ _ kx ky ⟨WW.Db l m,rfl⟩;exact this G p hG
 intro p2 Q hq;rw[StateT.run_bind,Sem.wp_bind'] at hq;have hq:Sem.wp (model prog w) G (StateT.run (StateT.lift (keyLt' (tuples' true) (.ref a) (.ref b)).attempt) (sw st)) _ Ef p2 s:=hq;rw[StateT.run_lift,Sem.wp_bind',Sem.wp_attempt] at hq;rcases Zi7 _ hq (f2 p2) with⟨r,p',s',h1,er,es⟩|⟨v,p',s',h1,h2⟩
 ·rw[er,es] at h1
  refine⟨some (RM.Z0 l m),st,p',?_,ok,λ_ _=>trivial,λp1 Q1 h1=>?_⟩
  ·have h1:Sem.wp (model prog w) G (StateT.run (Pure.pure (some (RM.Z0 l m)):StateT SortSt Sem (Option Bool)) (sw st)) Q Ef p' s:=h1
   rw[StateT.run_pure,Sem.wp_pure'] at h1;exact h1
  ·rw[StateT.run_bind,Sem.wp_bind']
   show Sem.wp (model prog w) G (StateT.run (StateT.lift (keyLt' oneType' (.ref a) (.ref b)).attempt) st) _ Ef p1 s;rw[StateT.run_lift,Sem.wp_bind',Sem.wp_attempt];refine Sem.wp_mono _ _ _ (λr p' s' h=>?_) (λ_ _ _ h=>h.elim) p1 s (f1 p1);obtain⟨er,es⟩:=h;rw[er,es];show Sem.wp (model prog w) G (StateT.run (Pure.pure (some (RM.Z0 l m)):StateT SortSt Sem (Option Bool)) st) Q1 Ef p' s;rw[StateT.run_pure,Sem.wp_pure'];exact h1 p'
 ·exact h2.elim
def At.elem{M:Model}{g:Keyed->Prop}{st:SortSt}(ok:OKs g st){arr:Array Keyed}(ha:∀x,x∈arr->g x)(i:Nat):At M G s g st (elem' arr i) (elem' arr i):=by
 rw[elem'_eq];cases e:arr[i]? with
 |none=>exact At.no
 |some x=>exact At.pure ok (ha x (Array.mem_of_getElem? e))
end
class GdT(al:Type)[Gd al]:Prop where
 all:∀(g:Keyed->Prop) (a:al),Gd.gd g a
instance:GdT Nat:=⟨λ_ _=>trivial⟩
instance:GdT Bool:=⟨λ_ _=>trivial⟩
instance:GdT Unit:=⟨λ_ _=>trivial⟩
instance {al:Type} [Gd al] [GdT al]:GdT (Option al):=⟨λg _ y _=>GdT.all g y⟩
instance {al:Type} [Gd al] [GdT al]:GdT (Array al):=⟨λg _ y _=>GdT.all g y⟩
instance {al be:Type} [Gd al] [Gd be] [GdT al] [GdT be]:GdT (al×be):=⟨λg a=>⟨GdT.all g a.1,GdT.all g a.2⟩⟩
instance {al:Type} [Gd al] [GdT al]:GdT (ForInStep al):=⟨λg a=>match a with
 |.done y=>GdT.all g y
 |.yield y=>GdT.all g y⟩
section
variable{M:Model}{G:Ctx}{s:Shared}{g:Keyed->Prop}{al be:Type}[Gd al][Gd be]
def At.pureT[GdT al]{st:SortSt}{a:al}(h:OKs g st):At M G s g st (Pure.pure a) (Pure.pure a):=At.pure h (GdT.all g a)
def At.rangeT[GdT be]{lo hi:Nat}{f1 f2:Nat->be->StateT SortSt Sem (ForInStep be)}{b:be}{st:SortSt}(ok:OKs g st)(hf:∀x b st,OKs g st->At M G s g st (f1 x b) (f2 x b)):At M G s g st (forIn [lo:hi] b f1) (forIn [lo:hi] b f2):=
 At.range (λx b st _ ok=>hf x b st ok) (GdT.all g b) ok
def At.bindT[GdT al]{st:SortSt}{m1 m2:StateT SortSt Sem al}{f1 f2:al->StateT SortSt Sem be}(h:At M G s g st m1 m2)(hf:∀a st',OKs g st'->At M G s g st' (f1 a) (f2 a)):At M G s g st (m1 >>= f1) (m2 >>= f2):=
 At.bind h λa st' _ ok=>hf a st' ok
def ZeC{st:SortSt}(h:OKs g st){xs:Array Keyed}(hp:∀x,x∈xs->g x):OKs g (setArr st xs):=⟨h.1,hp⟩
def Zgj{st:SortSt}(h:OKs g st)(q:Array (Nat×Nat×Nat)):OKs g (setPending st q):=⟨h.1,h.2⟩
end
section
variable{prog:Program}{w:World}{A:Around}{G:Ctx}{s:Shared}
def Zf3(hu:A.units<cLine)(hG:G.In A)(i j:Nat):Sm (model prog w) G s (GdL s.heap) (ltAt' i j):=by
 intro st ok;rw[ltAt'_eq];refine At.getBind ?_;show At (model prog w) G s (GdL s.heap) st (do let x <- elem' (arrOf st) i;let y <- elem' (arrOf st) j;lt' x y) (do let x <- elem' (arrOf st) i;let y <- elem' (arrOf st) j;lt' x y);exact At.bind (At.elem ok ok.2 i) λx _ hx ok'=>At.bind (At.elem ok' ok.2 j) λy st'' hy ok''=>At.lt hu hG hx hy st'' ok''
def Zli{M:Model}{g:Keyed->Prop}(i j:Nat):Sm M G s g (reverseSlice' i j):=by
 intro st ok;rw[reverseSlice'_eq];exact At.modify (ZeC ok λx hx=>ok.2 x ((mirror_perm _ _ _ _).mem_iff.mp hx)) rfl
def Zjd{M:Model}{g:Keyed->Prop}(i j:Nat):Sm M G s g (moveDown' i j):=by
 intro st ok;rw[moveDown'_eq];exact At.modify (ZeC ok λx hx=>ok.2 x ((bubble_perm _ _ _).mem_iff.mp hx)) rfl
def Zh5(hu:A.units<cLine)(hG:G.In A)(lo nrem:Nat):Sm (model prog w) G s (GdL s.heap) (countRun' lo nrem):=by
 intro st ok;rw[countRun'_eq];have L:∀i j,Sm (model prog w) G s (GdL s.heap) (ltAt' i j):=λi j=>Zf3 hu hG i j;have R:∀i j,Sm (model prog w) G s (GdL s.heap) (reverseSlice' i j):=λi j=>Zli i j;dsimp only;repeat' first
  |exact At.pureT (by assumption)
  |exact L _ _ _ (by assumption)
  |exact R _ _ _ (by assumption)
  |exact At.rule (by assumption) _
  |refine At.bindT ?_ (λ_ _ _=>?_)
  |refine At.rangeT (by assumption) (λ_ _ _ _=>?_)
  |refine At.ite (λ_=>?_) (λ_=>?_)
  |split
def Zlg(hu:A.units<cLine)(hG:G.In A)(lo n k:Nat):Sm (model prog w) G s (GdL s.heap) (binarySort' lo n k):=by
 intro st ok;rw[binarySort'_eq];have L:∀i j,Sm (model prog w) G s (GdL s.heap) (ltAt' i j):=λi j=>Zf3 hu hG i j;have R:∀i j,Sm (model prog w) G s (GdL s.heap) (moveDown' i j):=λi j=>Zjd i j;dsimp only;repeat' first
  |exact At.pureT (by assumption)
  |exact L _ _ _ (by assumption)
  |exact R _ _ _ (by assumption)
  |refine At.bindT ?_ (λ_ _ _=>?_)
  |refine At.rangeT (by assumption) (λ_ _ _ _=>?_)
  |refine At.ite (λ_=>?_) (λ_=>?_)
  |split
def Zg3(hu:A.units<cLine)(hG:G.In A)(left:Bool){key:Keyed}(hk:GdL s.heap key){arr:Array Keyed}(ha:∀x,x∈arr->GdL s.heap x)(base i:Nat):Sm (model prog w) G s (GdL s.heap) (beyond' left key arr base i):=by
 intro st ok;unfold beyond';refine At.bind (At.elem ok ha _) λx st' hx ok'=>?_;refine At.ite (λ_=>At.lt hu hG hx hk st' ok') λ_=>?_;exact At.bindT (At.lt hu hG hk hx st' ok') λr _ ok''=>At.pureT ok''
def Vx(hu:A.units<cLine)(hG:G.In A)(left:Bool){key:Keyed}(hk:GdL s.heap key){arr:Array Keyed}(ha:∀x,x∈arr->GdL s.heap x)(base n hint:Nat):Sm (model prog w) G s (GdL s.heap) (gallop' left key arr base n hint):=by
 intro st ok;rw[gallop'_eq];have B:∀i,Sm (model prog w) G s (GdL s.heap) (beyond' left key arr base i):=λi=>Zg3 hu hG left hk ha base i;dsimp only;repeat' first
  |exact At.pureT (by assumption)
  |exact B _ _ (by assumption)
  |refine At.bindT ?_ (λ_ _ _=>?_)
  |refine At.rangeT (by assumption) (λ_ _ _ _=>?_)
  |refine At.ite (λ_=>?_) (λ_=>?_)
  |split
end
section
variable{g:Keyed->Prop}
abbrev Al(g:Keyed->Prop)(xs:Array Keyed):Prop:=∀x,x∈xs->g x
def ZfS{xs:Array Keyed}{x:Keyed}(h:Al g xs)(hx:g x):Al g (xs.push x):=λy hy=>by
 rcases Array.mem_push.mp hy with h'|h'
 ·exact h y h'
 ·rw[h'];exact hx
def Zia{xs ys:Array Keyed}(h:Al g xs)(h':Al g ys):Al g (xs++ys):=λy hy=>by
 rcases Array.mem_append.mp hy with q|q
 ·exact h y q
 ·exact h' y q
def DM{xs:Array Keyed}(h:Al g xs)(i j:Nat):Al g (xs.extract i j):=λy hy=>h y (by
 rw[<- Array.mem_toList_iff] at hy ⊢;rw[Array.toList_extract,List.extract_eq_take_drop] at hy;exact List.mem_of_mem_drop (mem_of_mem_take hy))
def Zh8{xs:Array Keyed}(h:Al g xs):Al g xs.reverse:=λy hy=>h y (Array.mem_reverse.mp hy)
def Zh9{x:Keyed}(h:g x):Al g #[x]:=λy hy=>by
 rw[Array.mem_singleton.mp hy];exact h
end
section
variable{g:Keyed->Prop}{al be:Type}[Gd al][Gd be]
def ZoD[GdT al](a:al):Gd.gd g a:=GdT.all g a
def Zch{a:al}(h:Gd.gd g a):Gd.gd g (ForInStep.done a):=h
def gd_yield{a:al}(h:Gd.gd g a):Gd.gd g (ForInStep.yield a):=h
def Zjn:Gd.gd g (none:Option al):=λ_ h=>nomatch h
def ZjA{a:al}(h:Gd.gd g a):Gd.gd g (some a):=λ_ e=>Option.some.inj e▸h
def Zj1{a:al}{b:be}(h:Gd.gd g a)(h':Gd.gd g b):Gd.gd g (a,b):=⟨h,h'⟩
def gd_fst{x:al×be}(h:Gd.gd g x):Gd.gd g x.1:=h.1
def gd_snd{x:al×be}(h:Gd.gd g x):Gd.gd g x.2:=h.2
def ZbO{a:al}(h:Gd.gd g (some a)):Gd.gd g a:=h a rfl
end
section
variable{prog:Program}{w:World}{A:Around}{G:Ctx}{s:Shared}
def Zgb{M:Model}{g:Keyed->Prop}(k:Nat):Sm M G s g (setMinGallop' k):=by
 intro st ok;rw[setMinGallop'_eq];exact At.modify ⟨ok.1,ok.2⟩ rfl
local macro_rules | `(tactic| trivial)=>`(tactic| (repeat' first|assumption|exact ZoD _|refine Zch ?_|refine gd_yield ?_|exact Zjn|refine ZjA ?_|refine Zj1 ?_ ?_|refine ZfS ?_ ?_|refine Zia ?_ ?_|refine DM ?_ _ _|refine Zh9 ?_|refine Zh8 ?_))
set_option maxHeartbeats 4000000 in
def ZmS(hu:A.units<cLine)(hG:G.In A){a b:Array Keyed}(ha:Al (GdL s.heap) a)(hb:Al (GdL s.heap) b):Sm (model prog w) G s (GdL s.heap) (mergeLo' a b):=by
 intro st ok;rw[mergeLo'_eq];have S:∀k st',OKs (GdL s.heap) st'->At (model prog w) G s (GdL s.heap) st' (setMinGallop' k) (setMinGallop' k):=λk st' ok'=>Zgb k st' ok';have E1:∀st',OKs (GdL s.heap) st'->∀i,At (model prog w) G s (GdL s.heap) st' (elem' a i) (elem' a i):=λst' ok' i=>At.elem ok' ha i;have E2:∀st',OKs (GdL s.heap) st'->∀i,At (model prog w) G s (GdL s.heap) st' (elem' b i) (elem' b i):=λst' ok' i=>At.elem ok' hb i;have L:∀x y,GdL s.heap x->GdL s.heap y->∀st',OKs (GdL s.heap) st'->At (model prog w) G s (GdL s.heap) st' (lt' x y) (lt' x y):=λx y hx hy st' ok'=>At.lt hu hG hx hy st' ok';have G1:∀l x,GdL s.heap x->∀i j k st',OKs (GdL s.heap) st'->At (model prog w) G s (GdL s.heap) st' (gallop' l x a i j k) (gallop' l x a i j k):=λl x hx i j k st' ok'=>Vx hu hG l hx ha i j k st' ok';have G2:∀l x,GdL s.heap x->∀i j k st',OKs (GdL s.heap) st'->At (model prog w) G s (GdL s.heap) st' (gallop' l x b i j k) (gallop' l x b i j k):=λl x hx i j k st' ok'=>Vx hu hG l hx hb i j k st' ok';dsimp only;refine At.bindT (At.rule ok _) λ_ st1 ok1=>?_;refine At.bind (E2 _ ok1 _) λx0 st2 hx0 ok2=>?_;have hx0:GdL s.heap x0:=hx0;refine At.ite (λ_=>At.pure ok2 ?_) λ_=>At.ite (λ_=>At.pure ok2 ?_) λ_=>?_
 ·show Al (GdL s.heap) _
  trivial
 ·show Al (GdL s.heap) _
  trivial
 refine At.getBind ?_;refine At.bind (At.range (λ_ r st3 hr ok3=>?_) ?_ ok2) λr st3 hr ok3=>?_
 ·obtain⟨r0,out,ia,ib,mg⟩:=r
  have hout:Al (GdL s.heap) out:=hr.2.1;dsimp only;refine At.bind (At.range (λ_ q st4 hq ok4=>?_) ?_ ok3) λq st4 hq ok4=>?_
  ·obtain⟨q0,out,ia,ib,ac,bc⟩:=q
   have hout:Al (GdL s.heap) out:=hq.2.1;dsimp only;refine At.bind (E2 _ ok4 _) λy st5 hy ok5=>At.bind (E1 _ ok5 _) λx st6 hx ok6=>At.bindT (L _ _ hy hx _ ok6) λo st7 ok7=>?_;cases o with
   |none=>
    refine At.pure ok7 ?_;trivial
   |some bw=>
    refine At.ite (λ_=>?_) λ_=>?_
    ·refine At.bind (E2 _ ok7 _) λz st8 hz ok8=>?_
     have hz:GdL s.heap z:=hz;refine At.ite (λ_=>At.pure ok8 ?_) λ_=>At.ite (λ_=>At.pure ok8 ?_) λ_=>At.pure ok8 ?_;all_goals
      trivial
    ·refine At.bind (E1 _ ok7 _) λz st8 hz ok8=>?_
     have hz:GdL s.heap z:=hz;refine At.ite (λ_=>At.pure ok8 ?_) λ_=>At.ite (λ_=>At.pure ok8 ?_) λ_=>At.pure ok8 ?_;all_goals
      trivial
  ·trivial
  ·obtain⟨q0,out,ia,ib,ac,bc⟩:=q
   have hout:Al (GdL s.heap) out:=hq.2.1;have hq0:=hq.1;dsimp only;cases q0 with
   |some rr=>
    have hrr:Al (GdL s.heap) rr:=ZbO hq0;refine At.pure ok4 ?_;trivial
   |none=>
    refine At.bindT (At.rule ok4 _) λ_ st5 ok5=>?_;refine At.bind (At.range (λ_ u st6 hu6 ok6=>?_) ?_ ok5) λu st6 hu6 ok6=>?_
    ·obtain⟨u0,out,ia,ib,mg,ac,bc⟩:=u
     have hout:Al (GdL s.heap) out:=hu6.2.1;dsimp only;refine At.ite (λ_=>?_) λ_=>?_;all_goals
      refine At.bindT (S _ _ ok6) λ_ st7 ok7=>At.bind (E2 _ ok7 _) λy st8 hy ok8=>At.bindT (G1 _ _ hy _ _ _ _ ok8) λo st9 ok9=>?_;cases o with
      |none=>
       refine At.pure ok9 ?_;trivial
      |some k=>
       refine At.ite (λ_=>At.ite (λ_=>At.pure ok9 ?_) λ_=>At.ite (λ_=>At.pure ok9 ?_) λ_=>?_) λ_=>?_
       ·trivial
       ·trivial
       ·refine At.bind (E2 _ ok9 _) λz st10 hz ok10=>?_
        have hz:GdL s.heap z:=hz;refine At.ite (λ_=>At.pure ok10 ?_) λ_=>At.bind (E1 _ ok10 _) λx st11 hx ok11=>At.bindT (G2 _ _ hx _ _ _ _ ok11) λo2 st12 ok12=>?_
        ·trivial
        cases o2 with
        |none=>
         refine At.pure ok12 ?_;trivial
        |some k2=>
         refine At.ite (λ_=>At.ite (λ_=>At.pure ok12 ?_) λ_=>?_) λ_=>?_
         ·trivial
         ·refine At.bind (E1 _ ok12 _) λv st13 hv ok13=>?_
          have hv:GdL s.heap v:=hv;refine At.ite (λ_=>At.pure ok13 ?_) λ_=>At.ite (λ_=>At.pure ok13 ?_) λ_=>At.pure ok13 ?_;all_goals
           trivial
         ·refine At.bind (E1 _ ok12 _) λv st13 hv ok13=>?_
          have hv:GdL s.heap v:=hv;refine At.ite (λ_=>At.pure ok13 ?_) λ_=>At.ite (λ_=>At.pure ok13 ?_) λ_=>At.pure ok13 ?_;all_goals
           trivial
       ·refine At.bind (E2 _ ok9 _) λz st10 hz ok10=>?_
        have hz:GdL s.heap z:=hz;refine At.ite (λ_=>At.pure ok10 ?_) λ_=>At.bind (E1 _ ok10 _) λx st11 hx ok11=>At.bindT (G2 _ _ hx _ _ _ _ ok11) λo2 st12 ok12=>?_
        ·trivial
        cases o2 with
        |none=>
         refine At.pure ok12 ?_;trivial
        |some k2=>
         refine At.ite (λ_=>At.ite (λ_=>At.pure ok12 ?_) λ_=>?_) λ_=>?_
         ·trivial
         ·refine At.bind (E1 _ ok12 _) λv st13 hv ok13=>?_
          have hv:GdL s.heap v:=hv;refine At.ite (λ_=>At.pure ok13 ?_) λ_=>At.ite (λ_=>At.pure ok13 ?_) λ_=>At.pure ok13 ?_;all_goals
           trivial
         ·refine At.bind (E1 _ ok12 _) λv st13 hv ok13=>?_
          have hv:GdL s.heap v:=hv;refine At.ite (λ_=>At.pure ok13 ?_) λ_=>At.ite (λ_=>At.pure ok13 ?_) λ_=>At.pure ok13 ?_;all_goals
           trivial
    ·trivial
    ·obtain⟨u0,out,ia,ib,mg,ac,bc⟩:=u
     have hout:Al (GdL s.heap) out:=hu6.2.1;have hu0:=hu6.1;dsimp only;cases u0 with
     |some rr=>
      have hrr:Al (GdL s.heap) rr:=ZbO hu0;refine At.pure ok6 ?_;trivial
     |none=>
      refine At.bindT (S _ _ ok6) λ_ st7 ok7=>At.pure ok7 ?_;trivial
 ·trivial
 ·obtain⟨r0,out,ia,ib,mg⟩:=r
  have hr0:=hr.1;dsimp only;cases r0 with
  |some rr=>exact At.pure ok3 (ZbO hr0)
  |none=>exact At.no
end
section
variable{g:Keyed->Prop}{ro:Type}[Gd ro][GdT ro]
def gdS{y out:Array Keyed}{i j:Nat}{r:ro}(h:Al g y)(h':Al g out):Gd.gd g (some y,i,j,out,r):=⟨(λ_ e=>Option.some.inj e▸h),trivial,trivial,h',GdT.all g r⟩
def gdN{out:Array Keyed}{i j:Nat}{r:ro}(h':Al g out):Gd.gd g ((none:Option (Array Keyed)),i,j,out,r):=⟨(λ_ h=>nomatch h),trivial,trivial,h',GdT.all g r⟩
end
section
variable{prog:Program}{w:World}{A:Around}{G:Ctx}{s:Shared}
local macro_rules | `(tactic| trivial)=>`(tactic| ((first|refine Zch (gdS ?_ ?_)|refine Zch (gdN ?_)|refine gd_yield (gdN ?_)|refine gdN ?_|skip)<;>(repeat' first|with_reducible assumption|with_reducible refine Zia ?_ ?_|with_reducible refine Zh8 ?_|with_reducible refine DM ?_ _ _|with_reducible refine ZfS ?_ ?_|with_reducible refine Zh9 ?_)))
set_option maxHeartbeats 4000000 in
def Zmh(hu:A.units<cLine)(hG:G.In A){a b:Array Keyed}(ha:Al (GdL s.heap) a)(hb:Al (GdL s.heap) b):Sm (model prog w) G s (GdL s.heap) (mergeHi' a b):=by
 intro st ok;rw[mergeHi'_eq];have S:∀k st',OKs (GdL s.heap) st'->At (model prog w) G s (GdL s.heap) st' (setMinGallop' k) (setMinGallop' k):=λk st' ok'=>Zgb k st' ok';have E1:∀st',OKs (GdL s.heap) st'->∀i,At (model prog w) G s (GdL s.heap) st' (elem' a i) (elem' a i):=λst' ok' i=>At.elem ok' ha i;have E2:∀st',OKs (GdL s.heap) st'->∀i,At (model prog w) G s (GdL s.heap) st' (elem' b i) (elem' b i):=λst' ok' i=>At.elem ok' hb i;have L:∀x y,GdL s.heap x->GdL s.heap y->∀st',OKs (GdL s.heap) st'->At (model prog w) G s (GdL s.heap) st' (lt' x y) (lt' x y):=λx y hx hy st' ok'=>At.lt hu hG hx hy st' ok';have G1:∀l x,GdL s.heap x->∀i j k st',OKs (GdL s.heap) st'->At (model prog w) G s (GdL s.heap) st' (gallop' l x a i j k) (gallop' l x a i j k):=λl x hx i j k st' ok'=>Vx hu hG l hx ha i j k st' ok';have G2:∀l x,GdL s.heap x->∀i j k st',OKs (GdL s.heap) st'->At (model prog w) G s (GdL s.heap) st' (gallop' l x b i j k) (gallop' l x b i j k):=λl x hx i j k st' ok'=>Vx hu hG l hx hb i j k st' ok';dsimp only;refine At.bindT (At.rule ok _) λ_ st1 ok1=>?_;refine At.bind (E1 _ ok1 _) λx0 st2 hx0 ok2=>?_;have hx0:GdL s.heap x0:=hx0;refine At.ite (λ_=>At.pure ok2 ?_) λ_=>At.ite (λ_=>At.pure ok2 ?_) λ_=>?_
 ·show Al (GdL s.heap) _
  all_goals trivial
 ·show Al (GdL s.heap) _
  all_goals trivial
 refine At.getBind ?_;refine At.bind (At.range (λ_ r st3 hr ok3=>?_) ?_ ok2) λr st3 hr ok3=>?_
 ·obtain⟨r0,ia,ib,out,mg⟩:=r
  have hout:Al (GdL s.heap) out:=hr.2.2.2.1;dsimp only;refine At.bind (At.range (λ_ q st4 hq ok4=>?_) ?_ ok3) λq st4 hq ok4=>?_
  ·obtain⟨q0,ia,ib,out,ac,bc⟩:=q
   have hout:Al (GdL s.heap) out:=hq.2.2.2.1;dsimp only;refine At.bind (E2 _ ok4 _) λy st5 hy ok5=>At.bind (E1 _ ok5 _) λx st6 hx ok6=>At.bindT (L _ _ hy hx _ ok6) λo st7 ok7=>?_;cases o with
   |none=>
    refine At.pure ok7 ?_;all_goals trivial
   |some bw=>
    refine At.ite (λ_=>?_) λ_=>?_
    ·refine At.bind (E1 _ ok7 _) λz st8 hz ok8=>?_
     have hz:GdL s.heap z:=hz;refine At.ite (λ_=>At.pure ok8 ?_) λ_=>At.ite (λ_=>At.pure ok8 ?_) λ_=>At.pure ok8 ?_;all_goals
      all_goals trivial
    ·refine At.bind (E2 _ ok7 _) λz st8 hz ok8=>?_
     have hz:GdL s.heap z:=hz;refine At.ite (λ_=>At.pure ok8 ?_) λ_=>At.ite (λ_=>At.pure ok8 ?_) λ_=>At.pure ok8 ?_;all_goals
      all_goals trivial
  ·all_goals trivial
  ·obtain⟨q0,ia,ib,out,ac,bc⟩:=q
   have hout:Al (GdL s.heap) out:=hq.2.2.2.1;have hq0:=hq.1;dsimp only;cases q0 with
   |some rr=>
    have hrr:Al (GdL s.heap) rr:=ZbO hq0;refine At.pure ok4 ?_;all_goals trivial
   |none=>
    refine At.bindT (At.rule ok4 _) λ_ st5 ok5=>?_;refine At.bind (At.range (λ_ u st6 hu6 ok6=>?_) ?_ ok5) λu st6 hu6 ok6=>?_
    ·obtain⟨u0,ia,ib,out,mg,ac,bc⟩:=u
     have hout:Al (GdL s.heap) out:=hu6.2.2.2.1;dsimp only;refine At.ite (λ_=>?_) λ_=>?_;all_goals
      refine At.bindT (S _ _ ok6) λ_ st7 ok7=>At.bind (E2 _ ok7 _) λy st8 hy ok8=>At.bindT (G1 _ _ hy _ _ _ _ ok8) λo st9 ok9=>?_;cases o with
      |none=>
       refine At.pure ok9 ?_;all_goals trivial
      |some k=>
       refine At.ite (λ_=>At.ite (λ_=>At.pure ok9 ?_) λ_=>?_) λ_=>?_
       ·all_goals trivial
       ·refine At.bind (E2 _ ok9 _) λz st10 hz ok10=>?_
        have hz:GdL s.heap z:=hz;refine At.ite (λ_=>At.pure ok10 ?_) λ_=>At.bind (E1 _ ok10 _) λx st11 hx ok11=>At.bindT (G2 _ _ hx _ _ _ _ ok11) λo2 st12 ok12=>?_
        ·all_goals trivial
        cases o2 with
        |none=>
         refine At.pure ok12 ?_;all_goals trivial
        |some k2=>
         refine At.ite (λ_=>At.ite (λ_=>At.pure ok12 ?_) λ_=>At.ite (λ_=>At.pure ok12 ?_) λ_=>?_) λ_=>?_
         ·all_goals trivial
         ·all_goals trivial
         ·refine At.bind (E1 _ ok12 _) λv st13 hv ok13=>?_
          have hv:GdL s.heap v:=hv;refine At.ite (λ_=>At.pure ok13 ?_) λ_=>At.ite (λ_=>At.pure ok13 ?_) λ_=>At.pure ok13 ?_;all_goals
           all_goals trivial
         ·refine At.bind (E1 _ ok12 _) λv st13 hv ok13=>?_
          have hv:GdL s.heap v:=hv;refine At.ite (λ_=>At.pure ok13 ?_) λ_=>At.ite (λ_=>At.pure ok13 ?_) λ_=>At.pure ok13 ?_;all_goals
           all_goals trivial
       ·refine At.bind (E2 _ ok9 _) λz st10 hz ok10=>?_
        have hz:GdL s.heap z:=hz;refine At.ite (λ_=>At.pure ok10 ?_) λ_=>At.bind (E1 _ ok10 _) λx st11 hx ok11=>At.bindT (G2 _ _ hx _ _ _ _ ok11) λo2 st12 ok12=>?_
        ·all_goals trivial
        cases o2 with
        |none=>
         refine At.pure ok12 ?_;all_goals trivial
        |some k2=>
         refine At.ite (λ_=>At.ite (λ_=>At.pure ok12 ?_) λ_=>At.ite (λ_=>At.pure ok12 ?_) λ_=>?_) λ_=>?_
         ·all_goals trivial
         ·all_goals trivial
         ·refine At.bind (E1 _ ok12 _) λv st13 hv ok13=>?_
          have hv:GdL s.heap v:=hv;refine At.ite (λ_=>At.pure ok13 ?_) λ_=>At.ite (λ_=>At.pure ok13 ?_) λ_=>At.pure ok13 ?_;all_goals
           all_goals trivial
         ·refine At.bind (E1 _ ok12 _) λv st13 hv ok13=>?_
          have hv:GdL s.heap v:=hv;refine At.ite (λ_=>At.pure ok13 ?_) λ_=>At.ite (λ_=>At.pure ok13 ?_) λ_=>At.pure ok13 ?_;all_goals
           all_goals trivial
    ·all_goals trivial
    ·obtain⟨u0,ia,ib,out,mg,ac,bc⟩:=u
     have hout:Al (GdL s.heap) out:=hu6.2.2.2.1;have hu0:=hu6.1;dsimp only;cases u0 with
     |some rr=>
      have hrr:Al (GdL s.heap) rr:=ZbO hu0;refine At.pure ok6 ?_;all_goals trivial
     |none=>
      refine At.bindT (S _ _ ok6) λ_ st7 ok7=>At.pure ok7 ?_;all_goals trivial
 ·all_goals trivial
 ·obtain⟨r0,ia,ib,out,mg⟩:=r
  have hr0:=hr.1;dsimp only;cases r0 with
  |some rr=>exact At.pure ok3 (ZbO hr0)
  |none=>exact At.no
theorem UQ{g:Keyed->Prop}{sa:Nat}:∀(l:List (Keyed×Nat)) (xs:Array Keyed),Al g xs->(∀x,x∈l->g x.1)->Al g (List.foldl (λa x=>match x with|(p,j)=>a.setIfInBounds (sa+j) p) xs l)
 | [],xs,h,_=>h
 |(q,j)::l,xs,h,h'=>by
  rw[List.foldl_cons];refine UQ l _ (λx hx=>?_) λx hx=>h' x (mem_cons_of_mem _ hx);rcases Array.mem_or_eq_of_mem_setIfInBounds hx with z|z
  ·exact h x z
  ·rw[z]
   exact h' (q,j) mem_cons_self
def Zfo{xs:List Keyed}{x:Keyed×Nat}(h:x∈xs.zipIdx):x.1∈xs:=by
 obtain⟨q,j⟩:=x;exact(List.mem_zipIdx' h).2▸getElem_mem _
def ZnD(hu:A.units<cLine)(hG:G.In A)(i:Nat):Sm (model prog w) G s (GdL s.heap) (mergeAt' i):=by
 intro st ok;rw[mergeAt'_eq];refine At.getBind ?_;have e1:pendingOf (sw st)=pendingOf st:=rfl;have e2:arrOf (sw st)=arrOf st:=rfl;rw[e1,e2];have E:∀st',OKs (GdL s.heap) st'->∀i,At (model prog w) G s (GdL s.heap) st' (elem' (arrOf st) i) (elem' (arrOf st) i):=λst' ok' i=>At.elem ok' ok.2 i;have Gp:∀l x,GdL s.heap x->∀i j k st',OKs (GdL s.heap) st'->At (model prog w) G s (GdL s.heap) st' (gallop' l x (arrOf st) i j k) (gallop' l x (arrOf st) i j k):=λl x hx i j k st' ok'=>Vx hu hG l hx ok.2 i j k st' ok';have fin:∀(sa:Nat) (mg:Array Keyed) (st':SortSt),Al (GdL s.heap) mg->OKs (GdL s.heap) st'->At (model prog w) G s (GdL s.heap) st'
   (do
    modify λs=>setArr s (List.foldl (λa x=>match x with|(p,j)=>a.setIfInBounds (sa+j) p) (arrOf s) mg.toList.zipIdx)
    let r <- get
    pure (failedOf r).isNone)
   (do
    modify λs=>setArr s (List.foldl (λa x=>match x with|(p,j)=>a.setIfInBounds (sa+j) p) (arrOf s) mg.toList.zipIdx)
    let r <- get
    pure (failedOf r).isNone):=λsa mg st' hm ok'=>by
  refine At.bindT (At.modify (ZeC ok' (UQ _ _ ok'.2 λx hx=>hm _ (Array.mem_toList_iff.mp (Zfo hx)))) rfl) λ_ _ ok''=>?_;refine At.getBind ?_;exact At.pureT ok''
 split
 ·refine At.bindT (At.set (Zgj ok _) rfl) λ_ st1 ok1=>At.bind (E _ ok1 _) λx st2 hx ok2=>At.bindT (Gp _ _ hx _ _ _ _ ok2) λo st3 ok3=>?_
  cases o with
  |none=>exact At.pureT ok3
  |some k=>
   dsimp only;refine At.ite (λ_=>At.pureT ok3) λ_=>At.bind (E _ ok3 _) λy st4 hy ok4=>At.bindT (Gp _ _ hy _ _ _ _ ok4) λo2 st5 ok5=>?_;cases o2 with
   |none=>exact At.pureT ok5
   |some nb=>
    dsimp only;refine At.ite (λ_=>At.pureT ok5) λ_=>At.ite (λ_=>?_) λ_=>?_
    ·exact At.bind (ZmS hu hG (DM ok.2 _ _) (DM ok.2 _ _) st5 ok5) λmg st6 hm ok6=>fin _ mg st6 hm ok6
    ·exact At.bind (Zmh hu hG (DM ok.2 _ _) (DM ok.2 _ _) st5 ok5) λmg st6 hm ok6=>fin _ mg st6 hm ok6
 ·exact At.no
def ZjR(hu:A.units<cLine)(hG:G.In A):Sm (model prog w) G s (GdL s.heap) sortRuns':=by
 intro st ok;rw[sortRuns'_eq];refine At.getBind ?_;have e2:arrOf (sw st)=arrOf st:=rfl;rw[e2];have C:∀i j st',OKs (GdL s.heap) st'->At (model prog w) G s (GdL s.heap) st' (countRun' i j) (countRun' i j):=λi j=>Zh5 hu hG i j;have B:∀i j k st',OKs (GdL s.heap) st'->At (model prog w) G s (GdL s.heap) st' (binarySort' i j k) (binarySort' i j k):=λi j k=>Zlg hu hG i j k;have T:∀i st',OKs (GdL s.heap) st'->At (model prog w) G s (GdL s.heap) st' (mergeAt' i) (mergeAt' i):=λi=>ZnD hu hG i;have pd:∀st',pendingOf (sw st')=pendingOf st':=λ_=>rfl;dsimp only;repeat' first
  |with_reducible exact At.pureT (by assumption)
  |with_reducible exact C _ _ _ (by assumption)
  |with_reducible exact B _ _ _ _ (by assumption)
  |with_reducible exact T _ _ (by assumption)
  |with_reducible exact At.rule (by assumption) _
  |(with_reducible refine At.getBind ?_;simp only[pd])
  |with_reducible refine At.bindT ?_ (λ_ _ _=>?_)
  |with_reducible refine At.ite (λ_=>?_) (λ_=>?_)
  |exact At.modify (Zgj (by assumption) _) rfl
  |refine At.rangeT (by assumption) (λ_ _ _ _=>?_)
  |split
end
section
variable{prog:Program}{w:World}{A:Around}{E:Value->Shared->Prop}{s:Shared}
abbrev mid(h:Heap)(a:Addr)(vs:List Value):Heap:=PyProof.Rows.G.sortHeap6 h a vs
def ZeO{vs:List Value}{Q:SortSt->Prop}(hu:A.units<cLine)(h2:2<=vs.length)(hg:∀v,v∈vs->GdL s.heap (v,v))
  (h:∀st',(arrOf st').Perm (pairsOf vs)->SortedToK (tupKind s.heap λ_=>false) (arrOf st') (pairsOf vs).size->failedOf st'=none->Q st') :
  wpAny (model prog w) A (sortRuns'.run (SortSt.mk' oneType' (pairsOf vs) #[] 7 none)) (λr s'=>s'=s/\Q r.2) E s:=by
 have key:∀v,GdL s.heap (v,v)->∃l,(tupKind s.heap λ_=>false).keyOf v=some l:=λv hv=>by
  obtain⟨a,n,its,l,e,hl,rl⟩:=hv;have e:v = .ref a:=e;subst e;refine⟨l.map λ(x:Nat)=>(Sum.inl (x:Int):Int ⊕ List Nat),?_⟩
  ·show tupKey s.heap (λ_=>false) (.ref a)=_
   unfold tupKey;dsimp only;rw[hl];exact WW.Vk 0 (by simpa using rl)
 have mem:∀x,x∈pairsOf vs->x.1=x.2/\x.1∈vs:=λx hx=>by
  have:=Array.mem_toList_iff.mpr hx;rw[pairsOf_toList] at this;exact mem_zip_self this
 have ks:KeysOf (tupKind s.heap λ_=>false) (pairsOf vs):=λx hx=>by
  have hx:x∈pairsOf vs:=Array.mem_toList_iff.mp hx;exact key x.1 (hg _ (mem x hx).2)
 intro Γ p hΓ;have run:=PyProof.Rows.G.wpS_sortRunsSt (prog:=prog) (w:=w) (A:=A) (E:=λ_ _=>False) (s:=s) (κ:=tupKind s.heap λ_=>false) (kd:=tuples' true) (a₀:=pairsOf vs) (st:=SortSt.mk' (tuples' true) (pairsOf vs) #[] 7 none)
  (Q:=λ_ st'=>(arrOf st').Perm (pairsOf vs)/\failedOf st'=none/\SortedToK (tupKind s.heap λ_=>false) (arrOf st') (pairsOf vs).size)
  (λA E x y a b Q h1 h2 h3=>tup_ltAt true A E x y a b h1 h2 h3) ks ⟨Array.Perm.refl _,rfl,rfl⟩ rfl (Stable.refl _) (by rw[pairsOf_size];exact h2) (λst' q1 q2 q3 _=>⟨q1,q2,q3⟩);have run:=run Γ p hΓ;obtain⟨a,st',p',⟨_,q1,q2,q3⟩,ok,_,ev⟩:=ZjR (prog:=prog) (w:=w) (s:=s) hu hΓ (SortSt.mk' oneType' (pairsOf vs) #[] 7 none) ⟨rfl,λx hx=>by
  obtain⟨e1,e2⟩:=mem x hx;obtain⟨a,n,its,l,e,hl⟩:=hg _ e2;exact⟨a,n,its,l,e,hl⟩⟩ p _ run
 exact Sem.wp_mono _ _ _ (λ_ _ _ z=>z) (λ_ _ _ z=>z.elim) p s (ev p _ λ_=>⟨rfl,h st' q1 q3 q2⟩)
def Zgf{h:Heap}{o:Obj}{x:Keyed}(hx:GdL h x):GdL (h.push o) x:=by
 obtain⟨b,n,its,l,e,hl,r⟩:=hx;exact⟨b,n,its,l,e,Heap.get?_push_of_some _ hl,r⟩
def ZlP{h:Heap}{a:Addr}{f:Obj->Obj}{x:Keyed}(hx:GdL h x)(na:x.1 ≠ .ref a):GdL (h.update a f) x:=by
 obtain⟨b,n,its,l,e,hl,r⟩:=hx;refine⟨b,n,its,l,e,?_,r⟩;rw[Heap.get?_update_ne _ _ _ _ (λz=>na (by rw[e,z]))];exact hl
def Zfq{a:Addr}{vs:List Value}{n:Nat}{P:PySem.Fin->Shared->Prop}(hu:A.units<cLine)(ho:s.heap.get? a=some (seqObj "list" vs.toArray n))(hg:∀v,v∈vs->GdL s.heap (v,v)/\v ≠ .ref a)(hz:vs.length<=sizeLine)
  (h:∀out:Array Value,out.toList.Perm vs->(out.toList.Pairwise λx y=>lexLt itemOrd (((tupKind (mid s.heap a vs) λ_=>false).keyOf y).getD []) (((tupKind (mid s.heap a vs) λ_=>false).keyOf x).getD [])=false) ->
   P (.done (.ret .none)) {s with heap:=sortedHeap s.heap a vs out}):wpAny (model prog w) A (Builtin.«list.sort» ⟨[.ref a],[]⟩) P E s:=by
 have hz2:vs.toArray.size<=16777216:=by
  have:=hz;rw[sizeLine_eq] at this;simpa using this
 rw[list_sort_plain];have al:a<s.heap.objs.size:=Heap.lt_size ho;refine wpAny_bind (listItems_at ho rfl (wpAny_bind (listUpdate_at ho rfl ?_ (hsz2:=Nat.zero_le _))));obtain⟨e1,o1⟩ : ∃e1,(s.heap.update a (Obj.mapSeq λ_=>#[])).get? a=some (seqObj "list" #[] e1):=⟨_,get?_update_seq ho (λ_=>#[])⟩;refine wpAny_bind (seqEpoch_at o1 rfl (wpAny_bind (wpAny_newTuple (wpAny_bind (wpAny_newList (wpAny_holding ?_) (Nat.zero_le _))) (by simpa using hz))));have o6:(mid s.heap a vs).get? a=some (seqObj "list" #[] e1):=by
  show(((s.heap.update a (Obj.mapSeq λ_=>#[])).push (seqObj "tuple" vs.toArray 0)).push (seqObj "list" #[] 0)).get? a=_;exact Heap.get?_push_of_some _ (Heap.get?_push_of_some _ o1)
 show wpAny (model prog w) A _ P E {s with heap:=mid s.heap a vs};dsimp only;by_cases h2:vs.toArray.size<2
 ·rw[if_pos h2,if_pos h2]
  refine wpAny_bind (wpAny_pure ?_);rw[StateT.run_pure];refine wpAny_bind (wpAny_pure ?_);dsimp only;have out:(arrOf (SortSt.mk' general' (vs.toArray.zip vs.toArray) #[] 7 none)).map (·.2)=vs.toArray:=by
   show(vs.toArray.zip vs.toArray).map (·.2)=vs.toArray
   apply Array.toList_inj.mp;simp;exact List.map_snd_zip (Nat.le_refl _)
  rw[out];refine wpAny_bind (seqEpoch_at o6 rfl (wpAny_bind (listUpdate_at o6 rfl ?_ (hsz2:=by rw[sizeLine_eq];omega))));simp only[bne_self_eq_false,Bool.false_eq_true,if_false];refine wpAny_pure (h vs.toArray (List.Perm.of_eq (by simp)) ?_);have:vs.length<2:=by simpa using h2
  match vs,this with
  | [],_=>exact List.Pairwise.nil
  | [v],_=>exact List.pairwise_singleton _ _
 ·rw[if_neg h2,if_neg h2]
  have v2:2<=vs.length:=by
   have:¬ vs.length<2:=by simpa using h2
   omega
  have gd6:∀v,v∈vs->GdL (mid s.heap a vs) (v,v):=λv hv=>Zgf (Zgf (ZlP (hg v hv).1 (hg v hv).2));refine wpAny_bind (PySem.W.kas_kind (T:=.type "list") v2 (λv hv=>?_) (by decide) (by decide) ?_)
  ·obtain⟨b,n,its,l,e,hl,_⟩:=gd6 v hv
   have e:v = .ref b:=e;subst e;exact(PySem.W.Looks.ld hl).andThen .now
  refine wpAny_bind (wpAny_mono (ZeO (s:={s with heap:=mid s.heap a vs}) (Q:=λst'=>(arrOf st').Perm (pairsOf vs)/\SortedToK (tupKind (mid s.heap a vs) λ_=>false) (arrOf st') (pairsOf vs).size/\failedOf st'=none) hu v2 gd6 λst' q1 q2 q3=>⟨q1,q2,q3⟩) ?_ λ_ _ z=>z);rintro⟨⟨⟩,st'⟩ s' ⟨rfl,q1,q2,q3⟩;dsimp only;obtain⟨p1,p2⟩:=WW.Za3 q1 q2;refine wpAny_bind (seqEpoch_at o6 rfl (wpAny_bind (listUpdate_at o6 rfl ?_ (hsz2:=?_))))
  ·rw[q3]
   simp only[bne_self_eq_false,Bool.false_eq_true,if_false];exact wpAny_pure (h _ p1 p2)
  ·have:((arrOf st').map (·.2)).size=vs.length:=by rw[<- Array.length_toList,p1.length_eq]
   rw[this];exact Nat.le_succ_of_le hz
def DH(h:Heap)(t:Addr)(l:List Nat):Prop:=∃(n:Nat) (its:List Value),h.get? t=some {cls:=.type "list",data:=.seq its.toArray n}/\L2.Zy (WW.nv l) its
def DH.gd{h:Heap}{t:Addr}{l:List Nat}(x:DH h t l):GdL h (.ref t,.ref t):=by
 obtain⟨n,its,e,r⟩:=x;exact⟨t,n,its,l,rfl,e,r⟩
theorem DH.push{h:Heap}{t:Addr}{l:List Nat}{o:Obj}(x:DH h t l):DH (h.push o) t l:=by
 obtain⟨n,its,e,r⟩:=x;exact⟨n,its,Heap.get?_push_of_some _ e,r⟩
def DH.upd{h:Heap}{t a:Addr}{l:List Nat}{f:Obj->Obj}(x:DH h t l)(na:t≠a):DH (h.update a f) t l:=by
 obtain⟨n,its,e,r⟩:=x;refine⟨n,its,?_,r⟩;rw[Heap.get?_update_ne _ _ _ _ na];exact e
def DH.key{h:Heap}{t:Addr}{l:List Nat}(x:DH h t l):(tupKind h λ_=>false).keyOf (.ref t)=some (l.map λ(x:Nat)=>(Sum.inl (x:Int):Int ⊕ List Nat)):=by
 obtain⟨n,its,e,r⟩:=x;show tupKey h (λ_=>false) (.ref t)=_;unfold tupKey;dsimp only;rw[e];exact WW.Vk 0 (by simpa using r)
def Zco{l:Addr}{ts:List Addr}{row:Addr->List Nat}{Q:Value->Shared->Prop}(hu:A.units+2<cLine)(hl:s.heap.IsList l (ts.map Value.ref).toArray)(hr:∀t,t∈ts->DH s.heap t (row t))(hz:ts.length<=sizeLine)
  (h:∀(ts':List Addr),ts'.Perm ts->WW.Zc3 row ts'->Q (.ref (s.heap.objs.size+1)) {s with heap:=sortedAll s.heap (ts.map Value.ref) (ts'.map Value.ref).toArray}) :
  wpAny (model prog w) A (call (.builtin "sorted") [.ref l]) Q E s:=by
 refine Calls.call_function_entry kind_sorted plain_sorted entry_sorted (args_sorted1 _) ?_;unfold Builtin.«sorted»;refine wpAny_bind (m:=checkCount "sorted" 1 1 _) (wpAny_pure (wpAny_bind (collect_list hl (wpAny_bind (wpAny_newList ?_ (by simpa using hz))) (by simpa using hz))));let h1:Heap:=(s.heap.push (seqObj "list" #[] 0)).update s.heap.objs.size (Obj.mapSeq (· ++ (ts.map Value.ref).toArray))
 have z1:h1.objs.size=s.heap.objs.size+1:=by rw[Heap.size_update,size_push']
 have lt:∀t,t∈ts->t<s.heap.objs.size:=λt ht=>by
  obtain⟨n,its,e,_⟩:=hr t ht;exact Heap.lt_size e
 have r1:∀t,t∈ts->DH (h1.push (seqObj "list" (ts.map Value.ref).toArray 0)) t (row t):=λt ht=>(((hr t ht).push).upd (Nat.ne_of_lt (lt t ht))).push;have oL:(h1.push (seqObj "list" (ts.map Value.ref).toArray 0)).get? (s.heap.objs.size+1)=some (seqObj "list" (ts.map Value.ref).toArray 0):=by
  rw[<- z1];exact Heap.get?_push_size _ rfl
 show wpAny _ _ _ _ _ {s with heap:=h1.push (seqObj "list" (ts.map Value.ref).toArray 0)};show wpAny _ _ (holding [Value.ref h1.objs.size] (call (.builtin "list.sort") [Value.ref h1.objs.size]) >>= _) _ _ _;rw[z1];have na:∀t,t∈ts->t≠s.heap.objs.size+1:=λt ht=>Nat.ne_of_lt (Nat.lt_succ_of_lt (lt t ht));refine wpAny_bind (wpAny_holding (wpAny_call_entry slot_list_sort ⟨_,oL,rfl⟩ entry_list_sort (Zfq (s:={s with heap:=h1.push (seqObj "list" (ts.map Value.ref).toArray 0)}) ?_ oL (λv hv=>?_) (by simpa using hz) λout p1 p2=>⟨_,rfl,?_⟩) (args_list_sort _)))
 ·show A.units+1+1<cLine
  omega
 ·obtain⟨t,ht,rfl⟩:=mem_map.mp hv
  exact⟨(r1 t ht).gd,λe=>na t ht (by injection e)⟩
 ·obtain⟨ts',e1,e2⟩:=WW.U5 p1
  have e3:out=(ts'.map Value.ref).toArray:=by
   apply Array.toList_inj.mp;rw[e1]
  subst e3;refine wpAny_pure ⟨_,rfl,h ts' e2 ?_⟩;rw[e1,pairwise_map] at p2;refine List.Pairwise.imp_of_mem (λ{x y} hx hy q=>?_) p2;have m6:∀t,t∈ts->DH (mid (h1.push (seqObj "list" (ts.map Value.ref).toArray 0)) (s.heap.objs.size+1) (ts.map Value.ref)) t (row t):=λt ht=>(((r1 t ht).upd (na t ht)).push).push;have kx:=(m6 x (e2.mem_iff.mp hx)).key;have ky:=(m6 y (e2.mem_iff.mp hy)).key;have q:lexLt itemOrd (((tupKind (mid (h1.push (seqObj "list" (ts.map Value.ref).toArray 0)) (s.heap.objs.size+1) (ts.map Value.ref)) λ_=>false).keyOf (.ref y)).getD []) (((tupKind (mid (h1.push (seqObj "list" (ts.map Value.ref).toArray 0)) (s.heap.objs.size+1) (ts.map Value.ref)) λ_=>false).keyOf (.ref x)).getD [])=false:=q;rw[kx,ky] at q;have q:lexLt itemOrd ((row y).map λ(x:Nat)=>(Sum.inl (x:Int):Int ⊕ List Nat)) ((row x).map λ(x:Nat)=>(Sum.inl (x:Int):Int ⊕ List Nat))=false:=q;rw[WW.Db] at q;exact q
end
end SO
namespace WW
open PySem PySem.Spec PyProof.Rows L2 LX
def ZdL(K:Frag):List V->Hp->VK->Prop:=λvs H Q=>∃(a:Addr) (ts:List Addr) (row:Addr->List Nat),vs=[V.ref a]/\SqL K H a (rv ts)/\(∀t,t∈ts->H t=some (.lst (nv (row t)))) /\
 ∀(ts':List Addr) (p:Addr),ts'.Perm ts->Zc3 row ts'->H p=none->Q (.ref p) (upd H p (.lst (rv ts')))
def Zew{X:Cx}(hu:X.A.units+64<cLine):Y8 X (.builtin "sorted") (ZdL X.K):=by
 intro pins s σ H vs us Q I r h;obtain⟨a,ts,row,rfl,hs,ht,q⟩:=h;obtain⟨its,rvv,hl,hlen⟩:=I.list hs;rw[Zy.ref1 r];have ei:=ZcW rvv;subst ei;have hlen':ts.length<=sizeLine:=by rw[<- Zw];exact hlen
 refine SO.Zco (row:=row) (by omega) hl.isList (λt h=>?_) hlen' λts' e2 srt=>?_
 ·obtain⟨z,xs,n,rx,e⟩:=I.hok t _ (ht t h)
  exact⟨n,xs,e,rx⟩
 ·obtain⟨ep,he'⟩:=PyProof.Rows.sortedAll_at s.heap (ts.map Value.ref) (ts'.map Value.ref).toArray
  have hlen2:(rv ts').length<=sizeLine:=by rw[Zw,e2.length_eq];exact hlen'
  exact⟨.ref _,upd H (s.heap.objs.size+1) (.lst (rv ts')),I.laid (t':=s.toks) (λ_ _=>PyProof.Rows.sortedAll_old) (Nat.le_succ _) ⟨hlen2,ts'.map Value.ref,ep,UD ts',he'⟩,rfl,q ts' _ e2 srt (I.hok.fresh (Nat.le_succ _))⟩
end WW
namespace ST
open PySem PySem.SetTable
def Ris(xs:Array Nat):Prop:=xs.toList.Pairwise (· < ·)
def Ris.lt{xs:Array Nat}(h:Ris xs){i k:Nat}(hik:i<k)(hk:k<xs.size):xs.getD i 0<xs.getD k 0:=by
 have hi:i<xs.size:=by omega
 have:=List.pairwise_iff_getElem.mp h i k (by simpa using hi) (by simpa using hk) hik;simp only[Array.getElem_toList] at this;rw[Array.getD_eq_getD_getElem?,Array.getD_eq_getD_getElem?,Array.getElem?_eq_getElem hi,Array.getElem?_eq_getElem hk];exact this
def Zj7{xs:Array Nat}{i:Nat}(h:i<xs.size)(d e:Nat):xs.getD i d=xs.getD i e:=by
 rw[Array.getD_eq_getD_getElem?,Array.getD_eq_getD_getElem?,Array.getElem?_eq_getElem h];rfl
structure Cut(xs:Array Nat)(j r:Nat):Prop where
 le:r<=xs.size
 low:∀i,i<r->xs.getD i 0<j
 high:∀i,r<=i->i<xs.size->j<=xs.getD i 0
theorem Zfh{xs:Array Nat}(h:Ris xs)(j:Nat):∀(f lo hi:Nat),lo<=hi->hi<=xs.size->hi-lo<=f->(∀i,i<lo->xs.getD i 0<j)->(∀i,hi<=i->i<xs.size->j<=xs.getD i 0)->Cut xs j (below.go xs j f lo hi)
 |0,lo,hi,h1,h2,h3,h4,h5=>by
  have e:lo=hi:=by omega
  subst e;exact⟨h2,h4,h5⟩
 |f+1,lo,hi,h1,h2,h3,h4,h5=>by
  unfold below.go;by_cases hlt:lo<hi
  ·rw[if_pos hlt]
   have hm:(lo+hi) / 2<xs.size:=by omega
   dsimp only;rw[Zj7 hm j 0];by_cases hc:xs.getD ((lo+hi) / 2) 0<j
   ·rw[if_pos hc]
    refine Zfh h j f _ _ (by omega) h2 (by omega) (λi hi'=>?_) h5;rcases Nat.lt_or_ge i ((lo+hi) / 2) with q|q
    ·exact Nat.lt_trans (h.lt q hm) hc
    ·have:i=(lo+hi) / 2:=by omega
     rw[this];exact hc
   ·rw[if_neg hc]
    refine Zfh h j f _ _ (by omega) (by omega) (by omega) h4 λi hi' hs=>?_;rcases Nat.lt_or_ge ((lo+hi) / 2) i with q|q
    ·exact Nat.le_trans (Nat.le_of_not_lt hc) (Nat.le_of_lt (h.lt q hs))
    ·have:i=(lo+hi) / 2:=by omega
     rw[this];exact Nat.le_of_not_lt hc
  ·rw[if_neg hlt]
   have e:lo=hi:=by omega
   subst e;exact⟨h2,h4,h5⟩
def DP{xs:Array Nat}(h:Ris xs)(j:Nat):Cut xs j (below xs j):=Zfh h j _ _ _ (Nat.zero_le _) (Nat.le_refl _) (by omega) (λi _=>by omega) (λi h1 h2=>by omega)
def ZiR{al:Type}(xs:Array al)(p:Nat)(x:al)(hp:p<=xs.size):(insertAt xs p x).toList=xs.toList.take p++x::xs.toList.drop p:=by
 unfold insertAt;rw[Array.toList_append,Array.toList_push,Array.toList_extract,Array.toList_extract,List.extract_eq_take_drop,List.extract_eq_take_drop,append_assoc];simp;exact take_of_length_le (by rw[length_drop,Array.length_toList];exact Nat.le_refl _)
def Zjb{xs:Array Nat}(h:Ris xs){j:Nat}(hj:xs[below xs j]? ≠ some j):Ris (insertAt xs (below xs j) j):=by
 have c:=DP h j;unfold Ris;rw[ZiR _ _ _ c.le,List.pairwise_append,List.pairwise_cons];have hh:∀y,y∈xs.toList.drop (below xs j)->j<y:=λy hy=>by
  obtain⟨i,hi,e⟩:=getElem_of_mem hy;rw[length_drop,Array.length_toList] at hi;rw[List.getElem_drop,Array.getElem_toList] at e;have hs:below xs j+i<xs.size:=by omega
  have g:=c.high (below xs j+i) (by omega) hs;have ee:xs.getD (below xs j+i) 0=y:=by
   rw[Array.getD_eq_getD_getElem?,Array.getElem?_eq_getElem hs];exact e
  rw[ee] at g;refine Nat.lt_of_le_of_ne g λz=>?_;have b0:below xs j<xs.size:=by omega
  have g0:=c.high (below xs j) (Nat.le_refl _) b0;have le:xs.getD (below xs j) 0<=y:=by
   rcases Nat.eq_zero_or_pos i with q|q
   ·rw[<- ee,q,Nat.add_zero]
    exact Nat.le_refl _
   ·rw[<- ee]
    exact Nat.le_of_lt (h.lt (by omega) hs)
  have:xs.getD (below xs j) 0=j:=by omega
  apply hj;rw[Array.getElem?_eq_getElem b0];rw[Array.getD_eq_getD_getElem?,Array.getElem?_eq_getElem b0] at this;exact congrArg some this
 refine⟨h.sublist (List.take_sublist _ _),⟨hh,h.sublist (List.drop_sublist _ _)⟩,λx hx y hy=>?_⟩;have xj:x<j:=by
  obtain⟨i,hi,e⟩:=getElem_of_mem hx;rw[length_take,Array.length_toList] at hi;rw[List.getElem_take,Array.getElem_toList] at e;have hs:i<xs.size:=by omega
  have g:=c.low i (by omega);rw[Array.getD_eq_getD_getElem?,Array.getElem?_eq_getElem hs] at g;rw[<- e];exact g
 rcases mem_cons.mp hy with rfl|hy
 ·exact xj
 ·exact Nat.lt_trans xj (hh y hy)
structure TI(t:SetTable):Prop where
 led:t.led=true
 ris:Ris t.place
 dum:t.dummies = #[]
def Zd3(j:Nat):has #[] j=false:=rfl
theorem Zab{t:SetTable}(h:t.dummies = #[]){ha:Nat->Int}{x:Int}:∀(f:Nat) (p:Probe) {j:Nat} {d:Option Nat},p.dummy=none->probe.go t ha x f p=some (.empty j d)->t.slot j = .empty/\d=none
 |0,p,j,d,_,e=>by
  unfold probe.go at e;cases e
 |f+1,p,j,d,hd,e=>by
  unfold probe.go at e;cases hs:t.slot p.j with
  |empty=>
   rw[hs] at e;simp only[Option.some.injEq,Met.empty.injEq] at e;obtain⟨rfl,rfl⟩:=e;exact⟨hs,hd⟩
  |dummy=>
   unfold slot at hs;rw[h,Zd3] at hs;dsimp only at hs;split at hs<;>simp at hs
  |live i=>
   rw[hs] at e;dsimp only at e;split at e
   ·cases e
   ·refine Zab h f _ ?_ e
    unfold advance;split
    ·exact hd
    ·exact hd
def ZeN{t:SetTable}{j:Nat}(h:t.slot j = .empty):t.place[below t.place j]? ≠ some j:=λe=>by
 unfold slot at h;dsimp only at h;rw[e] at h;simp at h
def Zkn{t:SetTable}(h:TI t){x:Int}{j:Nat}{b:Bool}(e:t.freeSlot x=some (j,b)):t.place[below t.place j]? ≠ some j/\b=false:=by
 unfold SetTable.freeSlot at e;split at e
 ·rename_i j' d hp
  unfold probe at hp;obtain⟨hs,rfl⟩:=Zab h.dum _ _ rfl hp;simp only[Option.getD_none,Option.isSome_none,Option.some.injEq,Prod.mk.injEq] at e;obtain⟨rfl,rfl⟩:=e;exact⟨ZeN hs,rfl⟩
 ·cases e
def Zho(n:Nat):Ris (Array.range n):=by
 unfold Ris;rw[Array.toList_range];exact pairwise_lt_range
def TI.stand{t:SetTable}(h:TI t)(n:Nat):TI (t.standIn n):=⟨h.led,Zho n,rfl⟩
def TI.or{t:SetTable}(h:TI t)(n:Nat):TI (t.orStandIn n):=by
 unfold SetTable.orStandIn;split
 ·exact h
 ·exact h.stand n
theorem TI.put{t:SetTable}(h:TI t){j:Nat}(hj:t.place[below t.place j]? ≠ some j):TI (t.put j).1:=by
 refine⟨h.led,Zjb h.ris hj,?_⟩;show(if has t.dummies j then eraseAt t.dummies (below t.dummies j) else t.dummies) = #[];rw[h.dum,Zd3];rfl
def TI.lay{t:SetTable}(h:TI t)(es:Array (Int×Value))(x:Int)(v:Value):TI (layNew t es x v).2.1/\(layNew t es x v).2.2.1=false:=by
 unfold layNew;cases e:t.freeSlot x with
 |none=>exact⟨h.stand _,rfl⟩
 |some q=>
  obtain⟨j,b⟩:=q;obtain⟨h1,h2⟩:=Zkn h e;exact⟨(h.put h1).or _,h2⟩
theorem TI.laid{mask finger moves:Nat}{plain:Bool}{hs:Array Int}{r:SetTable×Array Nat}(e:SetTable.laid mask finger moves true plain hs=some r):TI r.1:=by
 unfold SetTable.laid at e;cases ho:layClean mask hs with
 |none=>rw[ho] at e;cases e
 |some owner=>
  rw[ho] at e;have e:=Option.some.inj e;subst e;refine⟨rfl,?_,rfl⟩;show List.Pairwise (· < ·) (((List.range (mask+1)).filterMap λj=>(owner.getD j none).map (j,·)).map (·.1)).toArray.toList
  rw[List.toList_toArray,pairwise_map,List.pairwise_filterMap];refine pairwise_lt_range.imp λ{a b} hab x hx y hy=>?_;cases ha:owner.getD a none with
  |none=>rw[ha] at hx;cases hx
  |some u=>
   cases hb:owner.getD b none with
   |none=>rw[hb] at hy;cases hy
   |some v=>
    rw[ha] at hx;rw[hb] at hy;have hx:=Option.some.inj hx;have hy:=Option.some.inj hy;subst hx hy;exact hab
def TI.relay{t:SetTable}(h:TI t)(es:Array (Int×Value))(n:Nat):TI (relayAll t es n).2.1:=by
 unfold relayAll;cases e:t.relaid (es.map (·.1)) n with
 |none=>exact h.stand _
 |some q=>
  obtain⟨t',order⟩:=q;dsimp only;split
  ·unfold SetTable.relaid at e
   rw[h.led] at e;exact TI.laid e
  ·exact h.stand _
open PySem PyProof.Rows
section
variable{prog:Program}{w:World}{A:Around}{E:Value->Shared->Prop}{s:Shared}
structure V8(prog:Program)(w:World)(h:Heap)(a:Addr)(S:Int->Bool)(n:Nat)(bt:Bool):Prop where
 ex:∃(o:Obj) (es:Array (Int×Value)) (ep:Nat) (t:SetTable),h.get? a=some o/\o.ExactSet/\o.data = .set es ep t/\ElemsOf (intKind prog w) es.toList/\(∀k,S k=true ↔ ∃e∈es.toList,(intKind prog w).is k e.2=true) /\
  es.size<scanBound/\t.fits es.size=true/\es.size=n/\(bt=true\/TI t)
def Zls{b:Bool}{s1:Shared}{Q:Unit->Shared->Prop}(h:Q () s1):wpAny (model prog w) A (match b with|true=>rule "set.scan.the-table-gave-way" |false=>pure ()) Q E s1:=by
 cases b
 ·exact wpAny_pure h
 ·exact wpAny_rule h
def Zao{h:Heap}{a:Addr}{o:Obj}{es:Array (Int×Value)}{ep:Nat}{t:SetTable}(ho:h.get? a=some o)(hd:o.data = .set es ep t)(es':Array (Int×Value))(t':SetTable) :
  (h.update a (Obj.putSet es' t')).get? a=some {o with data:=.set es' (ep+1) t'}:=by
 have:=Heap.get?_update_self (Obj.putSet es' t') ho (by rw[putSet_of es' t' hd];rfl);rw[putSet_of es' t' hd] at this;exact this
def Zn0{a:Addr}{S:Int->Bool}{n:Nat}{bt:Bool}{k:Int}{tk:Tok}{Q:Bool->Shared->Prop}(hS:V8 prog w s.heap a S n bt)(hroom:n+1<scanBound)
  (h:∀h',Heap.SameBut a s.heap h'->V8 prog w h' a (λk'=>S k'||decide (k'=k)) (if S k then n else n+1) bt->Q (!S k) {s with heap:=h'}) :
  wpAny (model prog w) A (setAddHashed a (.int k tk) ((intKind prog w).hash k)) Q E s:=by
 obtain⟨o,es,ep,t,ho,hex,hd,hel,hmem,hb,hf,hn,hT⟩:=hS.ex;have hkey:(intKind prog w).is k (.int k tk)=true:=intKind_is _ _ _ _;have hsc:(Value.int k tk).scannable=true:=rfl;unfold setAddHashed setAddHashedIn;refine wpAny_holding (wpAny_bind (wpAny_setState_of ho hd hf ?_));dsimp only;rw[byScan_of hsc hb hel];simp only[↓reduceIte];unfold setAddByScan;refine wpAny_bind (wpAny_bind (wpAny_rule (wpAny_bind (wpAny_setScan_of hkey ho hd hf hel ?_))));cases hr:List.findIdx? (λe=>(intKind prog w).is k e.2) es.toList with
 |some j=>
  obtain⟨hj,hpj,_⟩:=List.findIdx?_eq_some_iff_getElem.mp hr;have hSk:S k=true:=(hmem k).mpr ⟨es.toList[j],getElem_mem hj,hpj⟩;refine wpAny_pure (wpAny_pure ?_);have:=h s.heap (Heap.SameBut.refl a s.heap) ⟨o,es,ep,t,ho,hex,hd,hel,λk'=>by
   rw[Bool.or_eq_true,decide_eq_true_eq,<- hmem k'];exact⟨λhk=>hk.elim id (λe=>e▸hSk),.inl⟩,hb,hf,by rw[hSk];exact hn,hT⟩
  rw[hSk] at this;exact this
 |none=>
  have hSk:S k=false:=by
   cases hk:S k with
   |false=>rfl
   |true=>
    obtain⟨e,he,hp⟩:=(hmem k).mp hk;have:=List.findIdx?_eq_none_iff.mp hr e he;rw[hp] at this;cases this
  have hperm:=layNew_perm t es ((intKind prog w).hash k) (.int k tk);have hfits:=layNew_fits t es ((intKind prog w).hash k) (.int k tk);have hTI:bt=true\/TI (layNew t es ((intKind prog w).hash k) (.int k tk)).2.1:=hT.imp id λx=>(x.lay es _ _).1;dsimp only;generalize hL:layNew t es ((intKind prog w).hash k) (.int k tk)=L at hperm hfits hTI ⊢;obtain⟨es1,t1,wd,gv⟩:=L;dsimp only at hperm hfits hTI ⊢;rw[Array.toList_push] at hperm;have hel1:ElemsOf (intKind prog w) es1.toList:=(hel.push hkey hsc).perm hperm;have hmem1:∀k',(S k'||decide (k'=k))=true ↔ ∃e∈es1.toList,(intKind prog w).is k' e.2=true:=mem_push_iff hkey hmem hperm;have hsz1:es1.size=n+1:=by rw[<- Array.length_toList,hperm.length_eq,length_append,Array.length_toList,hn];rfl
  have hb1:es1.size<scanBound:=by omega
  refine wpAny_bind (Zls ?_);have hend:∀h',Heap.SameBut a s.heap h'->V8 prog w h' a (λk'=>S k'||decide (k'=k)) (n+1) bt->Q true {s with heap:=h'}:=λh' sb hS'=>by
   have:=h h' sb;rw[hSk] at this;exact this hS'
  split
  ·refine wpAny_bind ?_
   rw[hashByValue_scannable 8 hsc];refine wpAny_pure ?_;simp only[plainKind,↓reduceIte];refine wpAny_bind (wpAny_storeSet_of ho hd ?_ (fits_of_scanBound hb1));have ho1:=Zao ho hd es1 t1;have sb1:=Heap.SameBut.update s.heap a (Obj.putSet es1 t1);split
   ·have hp2:=relayAll_perm t1 es1 (SetTable.grown es1.size)
    have hf2:=relayAll_fits t1 es1 (SetTable.grown es1.size);have hT2:bt=true\/TI (relayAll t1 es1 (SetTable.grown es1.size)).2.1:=hTI.imp id λx=>x.relay es1 _;generalize relayAll t1 es1 (SetTable.grown es1.size)=Rl at hp2 hf2 hT2 ⊢;obtain⟨es2,t2,gv2⟩:=Rl;dsimp only at hp2 hf2 hT2 ⊢;have hsz:es2.size=es1.size:=by rw[<- Array.length_toList,hp2.length_eq,Array.length_toList]
    refine wpAny_bind (Zls (wpAny_bind (wpAny_storeSet_of ho1 rfl (wpAny_pure (wpAny_pure ?_)) (fits_of_scanBound (by omega)))));refine hend _ (sb1.trans (Heap.SameBut.update _ a _)) ⟨_,es2,_,t2,Zao ho1 rfl es2 t2,hex,rfl,hel1.perm hp2,λk'=>(hmem1 k').trans ⟨λ⟨e,he,q⟩=>⟨e,hp2.mem_iff.mpr he,q⟩,λ⟨e,he,q⟩=>⟨e,hp2.mem_iff.mp he,q⟩⟩,by omega,hf2,by omega,hT2⟩
   ·exact wpAny_pure (wpAny_pure (hend _ sb1 ⟨_,es1,_,t1,ho1,hex,rfl,hel1,hmem1,hb1,hfits,hsz1,hTI⟩))
  ·refine wpAny_bind (wpAny_pure ?_)
   simp only[↓reduceIte];refine wpAny_bind (wpAny_storeSet_of ho hd ?_ (fits_of_scanBound hb1));have ho1:=Zao ho hd es1 t1;have sb1:=Heap.SameBut.update s.heap a (Obj.putSet es1 t1);split
   ·have hp2:=relayAll_perm t1 es1 (SetTable.grown es1.size)
    have hf2:=relayAll_fits t1 es1 (SetTable.grown es1.size);have hT2:bt=true\/TI (relayAll t1 es1 (SetTable.grown es1.size)).2.1:=hTI.imp id λx=>x.relay es1 _;generalize relayAll t1 es1 (SetTable.grown es1.size)=Rl at hp2 hf2 hT2 ⊢;obtain⟨es2,t2,gv2⟩:=Rl;dsimp only at hp2 hf2 hT2 ⊢;have hsz:es2.size=es1.size:=by rw[<- Array.length_toList,hp2.length_eq,Array.length_toList]
    refine wpAny_bind (Zls (wpAny_bind (wpAny_storeSet_of ho1 rfl (wpAny_pure (wpAny_pure ?_)) (fits_of_scanBound (by omega)))));refine hend _ (sb1.trans (Heap.SameBut.update _ a _)) ⟨_,es2,_,t2,Zao ho1 rfl es2 t2,hex,rfl,hel1.perm hp2,λk'=>(hmem1 k').trans ⟨λ⟨e,he,q⟩=>⟨e,hp2.mem_iff.mpr he,q⟩,λ⟨e,he,q⟩=>⟨e,hp2.mem_iff.mp he,q⟩⟩,by omega,hf2,by omega,hT2⟩
   ·exact wpAny_pure (wpAny_pure (hend _ sb1 ⟨_,es1,_,t1,ho1,hex,rfl,hel1,hmem1,hb1,hfits,hsz1,hTI⟩))
end
open PySem PySem.Spec PyProof.Rows
def byT(w:World):Bool:=w.params.followText "set-order"
section
variable{prog:Program}{w:World}{A:Around}{E:Value->Shared->Prop}{s:Shared}
def V8.keep{h h':Heap}{a:Addr}{S:Int->Bool}{n:Nat}{bt:Bool}(x:V8 prog w h a S n bt)(k:∀o,h.get? a=some o->h'.get? a=some o):V8 prog w h' a S n bt:=by
 obtain⟨o,es,ep,t,ho,r⟩:=x.ex;exact⟨o,es,ep,t,k o ho,r⟩
def V8.congr{h:Heap}{a:Addr}{S S':Int->Bool}{n n':Nat}{bt:Bool}(x:V8 prog w h a S n bt)(e:∀k,S k=S' k)(en:n=n'):V8 prog w h a S' n' bt:=by
 have:S=S':=funext e;subst this en;exact x
variable{R:Result->Shared->Prop}{I:Addr}{fp wr:List Addr}{G:Array GenState->Array GenState->Prop}{n:Nat}{P:Nat->Value->Prop}{St:Nat->Shared->Prop}
def Zoa(W:WalksS prog w A.in1 I fp wr G n P St)(S:Addr)(hSf:S∉fp)(val:Nat->Int)(hval:∀i v,P i v->∃t,v = .int (val i) t)(hb:n+1<scanBound)(bt:Bool) :
  ∀(k i:Nat) (s:Shared),n-i=k->i<=n->St i s->V8 prog w s.heap S (λk'=>(firstMet val i).any (· == k')) (firstMet val i).length bt ->
   (∀s',Moved (S::wr) G s s'->V8 prog w s'.heap S (λk'=>(firstMet val n).any (· == k')) (firstMet val n).length bt->R (.ok (.ret .none)) s')->codeAny (model prog w) A (.builtin "set.update.loop" ⟨[.ref S,.ref I],[]⟩) R s:=by
 have hSw:S∉wr:=λh=>hSf (W.sub _ h);have up:∀b∈wr,b∈S::wr:=λb hb=>mem_cons_of_mem _ hb;intro k;induction k with
 |zero=>
  intro i s hk hi hst hS hR;have e:i=n:=by omega
  subst e;refine codeAny_builtin PyProof.Rows.F.entry_set_update_loop ?_;rw[Around.under_plainId PyProof.Rows.F.plain_set_update_loop _];show wpAny _ A.in1 (pyNext (.ref I) >>= _) _ _ s;refine wpAny_bind (W.done s _ _ hst λs' hm=>?_);show wpAny _ A.in1 (ret Value.none) _ _ s';exact wpAny_pure (hR s' (hm.mono up) (hS.keep λo ho=>hm.heap S _ hSw ho))
 |succ k ih=>
  intro i s hk hi hst hS hR;have hlt:i<n:=by omega
  refine codeAny_builtin PyProof.Rows.F.entry_set_update_loop ?_;rw[Around.under_plainId PyProof.Rows.F.plain_set_update_loop _];show wpAny _ A.in1 (pyNext (.ref I) >>= _) _ _ s;refine wpAny_bind (W.item i s _ _ hlt hst λv s' hP hst' hm=>?_);obtain⟨t,rfl⟩:=hval i v hP;show wpAny _ A.in1 (holding [Value.int (val i) t] (setAdd S (.int (val i) t)) >>= _) _ _ s';refine wpAny_bind (wpAny_holding ?_);unfold setAdd;refine wpAny_holding (wpAny_bind ((intKind prog w).pyHash (k:=val i) (intKind_is _ _ _ _) ?_));have room:(firstMet val i).length+1<scanBound:=by have:=firstMet_length_le val i;omega
  refine Zn0 (s:={s' with toks:=s'.toks+1}) (hS.keep λo ho=>hm.heap S _ hSw ho) room λh' sb hS2=>?_;have hSi:V8 prog w h' S (λk'=>(firstMet val (i+1)).any (· == k')) (firstMet val (i+1)).length bt:=hS2.congr (λk'=>by rw[firstMet_succ,step_any]) (by rw[firstMet_succ,step_length])
  refine wpAny_pure ⟨plainId_quiet PyProof.Rows.F.plain_set_update_loop _,ih (i+1) _ (by omega) hlt (W.frame _ s' _ _ hst' (Nat.le_succ _) λb hb o e=>?_) hSi λs'' hm'' hS''=>?_⟩
  ·rw[sb.2 b (λz=>hSf (z▸hb))]
   exact e
  ·refine hR s'' (Moved.trans W.gtrans ((hm.mono up).then_heap (Nat.le_succ _) λb o hb e=>?_) hm'') hS''
   rw[sb.2 b (λz=>hb (z▸mem_cons_self))];exact e
end
section
variable{prog:Program}{w:World}{A:Around}{E:Value->Shared->Prop}{s:Shared}
abbrev DG(w:World):Obj:={cls:=.type "set",dict:=none,data:=.set #[] 0 (.fresh 0 0 (!byT w))}
def Zov(a:Value){Q:Value->Shared->Prop}(h:Q (.ref s.heap.objs.size) {s with heap:=s.heap.push (DG w)}) :
  codeAny (model prog w) A (.call (.builtin "set.__new__") ⟨[.type "set",a],[]⟩) (wants Q E) s:=by
 refine codeAny_of_tree ?_;show wpAny _ A.in1 (do checkBuiltinCall "set.__new__" ⟨[.type "set",a],[]⟩;again (.builtin "set.__new__" ⟨[.type "set",a],[]⟩)) _ _ s;refine wpAny_bind (wpAny_of_eq (PySem.F.newCall_set_1 a) (wpAny_pure ⟨plainId_quiet PySem.F.plain_set_new _,codeAny_builtin PySem.F.entry_set_new ?_⟩));rw[Around.under_plainId PySem.F.plain_set_new _];unfold Builtin.«set.__new__» Builtin.Frozenset.newClass;have hsub:=sub_set_self;obtain⟨hp,g,d,tk,os⟩:=s;dsimp only
 wp_walk
 refine wpAny_askSetting (wpAny_pure ?_);dsimp only;simp only[newObj];refine wpAny_bind (wpAny_alloc (wpAny_pure ?_));exact wpAny_pure h
def Zkg{h:Heap}{a:Addr}(e:h.get? a=some (DG w)):V8 prog w h a (λ_=>false) 0 (byT w):=by
 refine⟨_,#[],0,_,e,⟨rfl,rfl,rfl⟩,rfl,λ_ he=>absurd he (by simp),λk=>⟨(λz=>nomatch z),(λ⟨e,he,_⟩=>absurd he (by simp))⟩,(by decide),rfl,rfl,?_⟩;cases hb:byT w with
 |true=>exact .inl rfl
 |false=>exact .inr ⟨rfl,List.Pairwise.nil,rfl⟩
set_option maxHeartbeats 3200000 in
def ZgS{l:Addr}{items:Array Value}{ns:List Int}{Q:Value->Shared->Prop}(hh:A.handled=none)(hl:s.heap.IsList l items)(hi:IntsAre items.toList ns)(hb:items.size+1<scanBound)
  (h:∀(h':Heap) (tk:Nat),V8 prog w h' s.heap.objs.size (λk'=>(firstMet (λi=>ns.getD i 0) items.size).any (· == k')) (firstMet (λi=>ns.getD i 0) items.size).length (byT w) ->
   (∀b o,b<s.heap.objs.size->s.heap.get? b=some o->h'.get? b=some o)->Q (.ref s.heap.objs.size) {s with heap:=h',toks:=tk}) :
  wpAny (model prog w) A (call (.type "set") [.ref l]) Q E s:=by
 obtain⟨c,tl,hmro⟩:=PySem.F.called_set.mro;have hmade:=PySem.F.called_set.made;have hsub:=PySem.F.called_set.sub;refine wpAny_call (codeAny_of_tree (show wpAny _ _ (callAny (.type "set") _) _ _ _ from wpAny_pure ⟨Code.quiet_builtin _ (by decide +kernel),codeAny_builtin PySem.F.entry_type_call ?_⟩));rw[Around.under_plain (weight_type_call_type "set" [.ref l] []) rfl];have h1:=PySem.F.called_set.notType;have h2:=PySem.F.called_set.canCreate;have hct:=PySem.F.typeCall_set_1 (.ref l);repeat (any_goals (first|assumption|wp_step))
 refine codeAny_mono (Zov (.ref l) (E:=E) (Q:=λobj s1=>obj = .ref s.heap.objs.size/\s1={s with heap:=s.heap.push (DG w)}) ⟨rfl,rfl⟩) λr s1 hr=>?_;cases r with
 |error e=>exact hr
 |ok fl=>
  cases fl with
  |ret obj=>
   obtain⟨rfl,rfl⟩:=hr;have hS:(s.heap.push (DG w)).get? s.heap.objs.size=some (DG w):=Heap.get?_push_size _ rfl;have hT:Shared.TypeIs {s with heap:=s.heap.push (DG w)} (.ref s.heap.objs.size) "set" := ⟨_,hS,rfl⟩;have hli:=PySem.F.called_set.init.lookup;have hbi:=PySem.F.called_set.init.bind (.ref s.heap.objs.size);repeat (any_goals (first|assumption|wp_step))
   refine codeAny_mono (codeAny_call_builtin (R:=wants (λr s2=>r = .none/\∃h' tk,s2={s with heap:=h',toks:=tk}/\V8 prog w h' s.heap.objs.size (λk'=>(firstMet (λi=>ns.getD i 0) items.size).any (· == k')) (firstMet (λi=>ns.getD i 0) items.size).length (byT w) /\
     (∀b o,b<s.heap.objs.size->s.heap.get? b=some o->h'.get? b=some o)) E) PySem.F.called_set.init.plain PySem.F.entry_set_init (check_set_init_1 hT ?_)) λr2 s2 hr2=>?_
   ·obtain⟨ol,hol,hcl,nl,hdl⟩:=hl
    obtain⟨ocls,odict,odata,oslots⟩:=ol;simp only at hcl hdl;subst hcl hdl;have hol':(s.heap.push (DG w)).get? l=some {cls:=.type "list",dict:=odict,data:=.seq items nl,slots:=oslots}:=Heap.get?_push_of_some _ hol;have hsls:=PySem.F.sub_list_set;have hslf:=PySem.F.sub_list_frozenset;have hne:(Value.type "list" == Value.type "dict")=false:=by decide
    have hl1:(s.heap.push (DG w)).IsList l items:=⟨_,hol',rfl,nl,rfl⟩;unfold Builtin.«set.__init__» noKeywords Builtin.Frozenset.updateFrom;generalize hPI:pyIter=PI
    wp_walk
    subst hPI;refine wpAny_pyIter_list hl1 (wpAny_bind (wpAny_runValue ?_));have lS:l<s.heap.objs.size:=Heap.lt_size hol;have zI:(s.heap.push (DG w)).objs.size=s.heap.objs.size+1:=Heap.size_push _ _;have neI:l≠(s.heap.push (DG w)).objs.size:=by rw[zI];exact Nat.ne_of_lt (Nat.lt_succ_of_lt lS)
    have nSf:s.heap.objs.size∉[(s.heap.push (DG w)).objs.size,l]:=by
     rw[zI];simp only[mem_cons,not_mem_nil,or_false,not_or];exact⟨Nat.ne_of_lt (Nat.lt_succ_self _),Nat.ne_of_gt lS⟩
    refine Zoa ((Walks.list (show A.in1.in1.in1.handled=none by simp[hh]) _ l neI items).toS) s.heap.objs.size nSf (λi=>ns.getD i 0) (λi v hv=>IntsAre.int_at hi i v (by rw[Array.getElem?_toList];exact hv)) hb (byT w) (items.size-0) 0 _ (by omega) (Nat.zero_le _)
     ⟨⟨_,Heap.get?_push_size _ rfl,rfl,rfl⟩,(hl1.push _)⟩ ?hS0 ?hR
    case hS0=>
     have hget:((s.heap.push (DG w)).push {cls:=.type "list_iterator",data:=.fields #[.ref l,.int 0 0]}).get? s.heap.objs.size=some (DG w):=Heap.get?_push_of_some _ hS;exact(Zkg hget).congr (λ_=>rfl) rfl
    case hR=>
     intro s' hm hS';obtain⟨h',g',d',tk',os'⟩:=s';have eg:g'=s.gens:=hm.gens;have ed:d'=s.drawn:=hm.drawn;have eo:os'=s.os:=hm.os;subst eg ed eo;show wpAny _ _ _ _ _ _;refine wpAny_pure ?_;show wpAny _ _ (ret Value.none) _ _ _;refine wpAny_pure ⟨rfl,h',tk',rfl,hS',λb o hb e=>hm.heap b o ?_ (Heap.get?_push_of_some _ (Heap.get?_push_of_some _ e))⟩;rw[zI];simp only[mem_cons,not_mem_nil,or_false,not_or];exact⟨Nat.ne_of_lt hb,Nat.ne_of_lt (Nat.lt_succ_of_lt hb)⟩
   ·cases r2 with
    |error e=>exact hr2
    |ok fl2=>
     cases fl2 with
     |ret r=>
      obtain⟨rfl,h',tk,rfl,hS',hk'⟩:=hr2;repeat (any_goals (first|assumption|wp_step))
      exact h _ _ hS' hk'
     |_=>exact hr2.elim
  |_=>exact hr.elim
end
theorem ZaU{al:Type}:∀{xs:List al} {i:Nat} (hi:i<xs.length),(xs[i]::xs.eraseIdx i).Perm xs
 |x::xs,0,hi=>List.Perm.refl _
 |x::xs,i+1,hi=>by
  have hi':i<xs.length:=by simpa using hi
  show(xs[i]::x::xs.eraseIdx i).Perm (x::xs);exact(List.Perm.swap x xs[i] _).trans (List.Perm.cons x (ZaU hi'))
theorem ZfK{al:Type}{nx:Nat->Nat}:∀(f k:Nat) (left:List al) (out:Array al),left.length=f->(pickOrder.go nx f k left out).toList.Perm (out.toList++left)
 |0,k,left,out,h=>by
  have:left=[]:=length_eq_zero_iff.mp h;subst this;rw[append_nil];exact List.Perm.refl _
 |f+1,k,left,out,h=>by
  unfold pickOrder.go;have hi:nx k%left.length<left.length:=Nat.mod_lt _ (by omega);rw[getElem?_eq_getElem hi];refine(ZfK f (k+1) _ _ (by rw[List.length_eraseIdx,if_pos hi];omega)).trans ?_;rw[Array.toList_push,append_assoc];refine List.Perm.append_left _ ?_;exact ZaU hi
def DD{al:Type}(nx:Nat->Nat)(xs:Array al):(pickOrder nx xs).toList.Perm xs.toList:=by
 unfold pickOrder;have:=ZfK (nx:=nx) xs.size 0 xs.toList #[] (by simp);simpa using this
section
variable{prog:Program}{w:World}{A:Around}{E:Value->Shared->Prop}{s:Shared}
def Zjt{src:Source}{n:Nat}{Q:Nat->Shared->Prop}(hn:n≠0)(h:∀i d,i<n->Q i {s with drawn:=d}):wpAny (model prog w) A (choose src n) Q E s:=λG p _=>by
 refine⟨hn,?_⟩;exact h _ _ (Nat.mod_lt _ (Nat.pos_of_ne_zero hn))
theorem ZkK{al:Type}:∀(n:Nat) (xs:List al) {s:Shared} {Q:List al->Shared->Prop},xs.length=n->(∀l d,l.Perm xs->Q l {s with drawn:=d})->wpAny (model prog w) A (drawOrder n xs) Q E s
 |0,xs,s,Q,h,k=>by
  have:xs=[]:=length_eq_zero_iff.mp h;subst this;exact wpAny_pure (k [] s.drawn (List.Perm.refl _))
 |n+1,xs,s,Q,h,k=>by
  cases xs with
  |nil=>simp at h
  |cons x0 xs0=>
   unfold drawOrder;refine wpAny_bind (Zjt (by simp) λi d hi=>?_);rw[getElem?_eq_getElem hi];refine wpAny_bind (ZkK n _ (by rw[List.length_eraseIdx,if_pos hi];omega) λl d' hl=>?_);exact wpAny_pure (k _ d' ((List.Perm.cons _ hl).trans (ZaU hi)))
def Z8:Slot "set_iterator" "__next__" "set_iterator.__next__" :=
 .of (owner := "set_iterator") (n := "__next__") (by rw[typeLookup_type,builtinLookup_eq_fast];kernel_rfl) (by decide +kernel) (by decide +kernel) (by decide +kernel) (.inl (by decide +kernel)) (by rw[isSubtype_type];kernel_rfl)
def Y0:entryFor table "set_iterator.__next__" = some Builtin.«set_iterator.__next__»:=entryFor_of_fast (by kernel_rfl)
def VR(a:Value):argsOk "set_iterator.__next__" ⟨[a],[]⟩:=by
 unfold argsOk
 kernel_rfl
def ZbD:entryFor table "set.__iter__" = some Builtin.«frozenset.__iter__»:=entryFor_alias (id' := "frozenset.__iter__") (by kernel_rfl) rfl (by decide +kernel) (by kernel_rfl)
abbrev UO(f:Value)(i:Nat)(S:Addr)(n ep:Nat):Obj:={cls:=.type "set_iterator",data:=.fields #[f,.int i 0,.ref S,.int n 0,.int ep 0]}
def V6{S:Addr}{o:Obj}{es:Array (Int×Value)}{ep:Nat}{t:SetTable}{Q:Array (Int×Value)->Shared->Prop}(ho:s.heap.get? S=some o)(hd:o.data = .set es ep t)(hf:t.fits es.size=true)(h:Q es s) :
  wpAny (model prog w) A (setEntries S) Q E s:=by
 unfold setEntries;exact wpAny_bind (wpAny_setState_of ho hd hf (wpAny_pure h))
def ZkO{Q:Option Value->Shared->Prop}{I:Addr}(hh:A.handled=none)(h:∀h',Heap.ExtBut I s.heap h'->Q none {s with heap:=h'}) :
  wpAny (model prog w) A.in1 (do raiseNew (<- newExc (.type "StopIteration") []):Sem PySem.Fin) (λfin s'=>∃r,fin = .done (.ret r)/\Q (some r) s') (λe s'=>wpAny (model prog w) A (do if <- isInstance e (.type "StopIteration") then pure none else throw e) Q E s') s:=by
 refine wpAny_bind ?_;simp only[newExc,newTuple];refine wpAny_bind (wpAny_newObj_type ?_ (by size_fits));refine wpAny_bind (m:=firstArgMember _ _) (wpAny_of_eq (a:=Value.none) (by first|rfl|(simp only[firstArgMember];rfl)) (wpAny_newObj_type ?_ (by size_fits)));simp only[raiseNew];refine wpAny_bind (wpAny_handled ?_);rw[show A.in1.handled=none from hh];refine wpAny_bind (wpAny_pure (wpAny_throw ?_));refine wpAny_bind (wpAny_isInstance (T := "StopIteration") (b:=true) ⟨_,Heap.get?_push_size _ rfl,rfl⟩ isSubtype_stop ?_);refine wpAny_pure (h _ ?_);exact((Heap.ExtBut.refl I s.heap).push _).push _
section
variable{I S:Addr}{o:Obj}{es:Array (Int×Value)}{ep i n:Nat}{t:SetTable}{slot:Nat}
def Zmj{x:Value}{nx:Nat}{Q:Option Value->Shared->Prop}(hI:s.heap.get? I=some (UO (.int slot 0) i S n ep))(ho:s.heap.get? S=some o)(hd:o.data = .set es ep t)(hf:t.fits es.size=true)(hn:es.size=n)
  (hN:∀(A:Around) (E:Value->Shared->Prop) (R:Option (Value×Nat)->Shared->Prop),R (some (x,nx)) s->wpAny (model prog w) A (setNext S slot i ep) R E s)
  (hQ:∀h',h'.get? I=some (UO (.int nx 0) (i+1) S n ep)->Heap.SameBut I s.heap h'->Q (some x) {s with heap:=h'}):wpAny (model prog w) A (pyNext (.ref I)) Q E s:=by
 have hT:s.TypeIs (.ref I) "set_iterator" := ⟨_,hI,rfl⟩;unfold pyNext;refine wpAny_bind (wpAny_attempt (wpAny_callSpecial?_slot (name:=Str.ofString "__next__") hT Z8 (wpAny_call_entry Z8 hT Y0 ?_ (VR _))));unfold Builtin.«set_iterator.__next__»;refine wpAny_bind (m:=slotArgs "__next__" 0 _) (wpAny_pure ?_);dsimp only;refine wpAny_bind (wpAny_fieldsOf hI rfl ?_);dsimp only;refine wpAny_bind (V6 ho hd hf ?_);have e:(((es.size:Nat):Int) != (n:Int))=false:=by rw[hn];simp
 rw[e];simp only[Bool.false_eq_true,if_false];refine wpAny_bind (hN _ _ _ ?_);dsimp only;have e0:∀(h':Heap),h'.get? I=some (UO (.int nx 0) i S n ep)->Heap.SameBut I s.heap h'->wpAny (model prog w) A.in1 (do setField (.ref I) 1 (rawInt ((i:Int)+1));ret x) (λfin s'=>∃r,fin = .done (.ret r)/\wpAny (model prog w) A (pure (some r)) Q E s') (λ_ _=>False) {s with heap:=h'}:=λh' g1 g2=>by
  refine wpAny_bind (wpAny_setField g1 rfl (by simp) (wpAny_pure ⟨x,rfl,wpAny_pure (hQ _ ?_ (g2.trans (Heap.SameBut.update _ _ _)))⟩));exact Heap.get?_update_self _ g1 rfl
 refine wpAny_bind (wpAny_setField hI rfl (by simp) ?_);exact wpAny_mono (e0 _ (Heap.get?_update_self _ hI rfl) (Heap.SameBut.update _ _ _)) (λfin s' ⟨r,e1,e2⟩=>⟨r,e1,e2⟩) λ_ _ z=>z.elim
end
end
section
variable{prog:Program}{w:World}{A:Around}{E:Value->Shared->Prop}{s:Shared}{S:Addr}{o:Obj}{es:Array (Int×Value)}{ep:Nat}{t:SetTable}
def Zai{Q:Bool->Shared->Prop}(h:Q (byT w) s):wpAny (model prog w) A setsByText Q E s:=by
 unfold setsByText;exact wpAny_bind (wpAny_askSetting (wpAny_pure h))
def ZmB{Q:Array (Int×Value)->Shared->Prop}(hb:byT w=true)(ho:s.heap.get? S=some o)(hd:o.data = .set es ep t)(hf:t.fits es.size=true)(h:Q (pickOrder (w.params.setOrder S ep) es) s):wpAny (model prog w) A (setWalk S) Q E s:=by
 unfold setWalk;refine wpAny_bind (wpAny_setState_of ho hd hf (wpAny_bind (Zai ?_)));rw[hb];exact wpAny_bind (wpAny_askSetting (wpAny_pure h))
def snB{sl i:Nat}{Q:Option (Value×Nat)->Shared->Prop}(hb:byT w=true)(ho:s.heap.get? S=some o)(hd:o.data = .set es ep t)(hf:t.fits es.size=true)
  (h:Q (((pickOrder (w.params.setOrder S ep) es)[i]?).map λe=>(e.2,sl)) s):wpAny (model prog w) A (setNext S sl i ep) Q E s:=by
 unfold setNext;refine wpAny_bind (wpAny_setState_of ho hd hf (wpAny_bind (Zai ?_)));rw[hb];simp only[if_true,bne_self_eq_false,Bool.false_eq_true,if_false];exact wpAny_bind (ZmB hb ho hd hf (wpAny_pure h))
def snP{sl i:Nat}{Q:Option (Value×Nat)->Shared->Prop}(hb:byT w=false)(hp:(!t.plain&&decide (es.size > 1))=false)(hT:TI t)(ho:s.heap.get? S=some o)(hd:o.data = .set es ep t)(hf:t.fits es.size=true)
  (h:Q (match es[SetTable.below t.place sl]?,t.place[SetTable.below t.place sl]? with|some (_,y),some j=>some (y,j+1)|_,_=>none) s):wpAny (model prog w) A (setNext S sl i ep) Q E s:=by
 unfold setNext;refine wpAny_bind (wpAny_setState_of ho hd hf (wpAny_bind (Zai ?_)));rw[hb];simp only[Bool.false_eq_true,if_false];split
 ·rename_i hdr
  have hdr:(!t.plain&&decide (es.size > 1))=true:=hdr;rw[hp] at hdr;cases hdr
 ·refine wpAny_bind ?_
  show wpAny _ _ (if (!t.led && !es.isEmpty)=true then unsupported "set:maker-not-led" else pure ()) _ _ _;rw[hT.led,if_neg (by simp)];exact wpAny_pure (wpAny_pure h)
def Ze4{xs:Array Nat}(h:Ris xs){i:Nat}(hi:i<xs.size):SetTable.below xs (xs.getD i 0+1)=i+1:=by
 have c:=DP h (xs.getD i 0+1);refine Nat.le_antisymm ?_ ?_
 ·refine Nat.le_of_not_lt λhlt=>?_
  have:=c.low (i+1) hlt;have l:=h.lt (show i<i+1 by omega) (by have:=c.le;omega);omega
 ·refine Nat.le_of_not_lt λhlt=>?_
  have:=c.high i (by omega) hi;omega
def Zfj{xs:Array Nat}(h:Ris xs):SetTable.below xs 0=0:=by
 have c:=DP h 0;rcases Nat.eq_zero_or_pos (SetTable.below xs 0) with z|z
 ·exact z
 ·have:=c.low 0 z
  omega
def Zix(xs:Array Nat):Nat->Nat
 |0=>0
 |i+1=>xs.getD i 0+1
def Zbm{xs:Array Nat}(h:Ris xs){i:Nat}(hi:i<=xs.size):SetTable.below xs (Zix xs i)=i:=by
 cases i with
 |zero=>exact Zfj h
 |succ i=>exact Ze4 h (by omega)
end
def Dd:Slot "set_iterator" "__iter__" "set_iterator.__iter__" :=
 .of (owner := "set_iterator") (n := "__iter__") (by rw[typeLookup_type,builtinLookup_eq_fast];kernel_rfl) (by decide +kernel) (by decide +kernel) (by decide +kernel) (.inl (by decide +kernel)) (by rw[isSubtype_type];kernel_rfl)
def ZbB:entryFor table "set_iterator.__iter__" = some Builtin.«dict_keyiterator.__iter__»:=entryFor_alias (id' := "dict_keyiterator.__iter__") (by kernel_rfl) rfl (by decide +kernel) (by kernel_rfl)
def Zdd(a:Value):argsOk "set_iterator.__iter__" ⟨[a],[]⟩:=by
 unfold argsOk
 kernel_rfl
section
variable{prog:Program}{w:World}{A:Around}{E:Value->Shared->Prop}{s:Shared}{I S T:Addr}{o:Obj}{es:Array (Int×Value)}{ep i n:Nat}{t:SetTable}{slot:Nat}
def ZkF{f:Value}{Q:Value->Shared->Prop}(hI:s.heap.get? I=some (UO f i S n ep))(h:Q (.ref I) s):wpAny (model prog w) A (pyIter (.ref I)) Q E s:=by
 have hT:s.TypeIs (.ref I) "set_iterator" := ⟨_,hI,rfl⟩;refine wpAny_pyIter_slot hT Dd (wpAny_call_entry Dd hT ZbB ?_ (Zdd _));exact wpAny_pure ⟨_,rfl, "set_iterator",_,hT,Z8.lookup,h⟩
def Zn2{Q:Option Value->Shared->Prop}(hh:A.handled=none)(hI:s.heap.get? I=some (UO (.int slot 0) i S n ep))(ho:s.heap.get? S=some o)(hd:o.data = .set es ep t)(hf:t.fits es.size=true)(hn:es.size=n)
  (hN:∀(A:Around) (E:Value->Shared->Prop) (R:Option (Value×Nat)->Shared->Prop),R none s->wpAny (model prog w) A (setNext S slot i ep) R E s)
  (hQ:∀h',Heap.ExtBut I s.heap h'->Q none {s with heap:=h'}):wpAny (model prog w) A (pyNext (.ref I)) Q E s:=by
 have hT:s.TypeIs (.ref I) "set_iterator" := ⟨_,hI,rfl⟩;unfold pyNext;refine wpAny_bind (wpAny_attempt (wpAny_callSpecial?_slot (name:=Str.ofString "__next__") hT Z8 (wpAny_call_entry Z8 hT Y0 ?_ (VR _))));unfold Builtin.«set_iterator.__next__»;refine wpAny_bind (m:=slotArgs "__next__" 0 _) (wpAny_pure ?_);dsimp only;refine wpAny_bind (wpAny_fieldsOf hI rfl ?_);dsimp only;refine wpAny_bind (V6 ho hd hf ?_);have e:(((es.size:Nat):Int) != (n:Int))=false:=by rw[hn];simp
 rw[e];simp only[Bool.false_eq_true,if_false];refine wpAny_bind (hN _ _ _ ?_);dsimp only;refine wpAny_bind (wpAny_setField hI rfl (by simp) ?_);refine wpAny_mono (ZkO (I:=I) hh λh' hx=>hQ h' ((Heap.SameBut.update _ _ _).extBut.trans hx)) (λfin s' ⟨r,e1,e2⟩=>⟨r,e1,wpAny_pure e2⟩) λ_ _ z=>z
end
section
variable{prog:Program}{w:World}{A:Around}{E:Value->Shared->Prop}{s:Shared}{I S T:Addr}{o:Obj}{es:Array (Int×Value)}{ep i n:Nat}{t:SetTable}
abbrev Yv(l:List Nat):Obj:={cls:=.type "tuple",data:=.seq (l.map λ(i:Nat)=>rawInt i).toArray 0}
def Zm9{l:List Nat}{j:Nat}{h0:Int}{x:Value}{Q:Option Value->Shared->Prop}(hI:s.heap.get? I=some (UO (.ref T) i S n ep))(hT':s.heap.get? T=some (Yv l))(ho:s.heap.get? S=some o)(hd:o.data = .set es ep t)(hf:t.fits es.size=true)(hn:es.size=n)
  (hj:l[i]? = some j) (hx:es[j]? = some (h0,x))
  (hQ:∀h',h'.get? I=some (UO (.ref T) (i+1) S n ep)->Heap.SameBut I s.heap h'->Q (some x) {s with heap:=h'}):wpAny (model prog w) A (pyNext (.ref I)) Q E s:=by
 have hT:s.TypeIs (.ref I) "set_iterator" := ⟨_,hI,rfl⟩;unfold pyNext;refine wpAny_bind (wpAny_attempt (wpAny_callSpecial?_slot (name:=Str.ofString "__next__") hT Z8 (wpAny_call_entry Z8 hT Y0 ?_ (VR _))));unfold Builtin.«set_iterator.__next__»;refine wpAny_bind (m:=slotArgs "__next__" 0 _) (wpAny_pure ?_);dsimp only;refine wpAny_bind (wpAny_fieldsOf hI rfl ?_);dsimp only;refine wpAny_bind (V6 ho hd hf ?_);have e:(((es.size:Nat):Int) != (n:Int))=false:=by rw[hn];simp
 rw[e];simp only[Bool.false_eq_true,if_false];refine wpAny_bind (wpAny_seqItems hT' rfl ?_);have ej:(l.map λ(i:Nat)=>rawInt i).toArray[((i:Nat):Int).toNat]? = some (rawInt j):=by
  rw[Int.toNat_natCast];simp[hj]
 simp only[ej];show wpAny _ _ (setNextDrawn S ((j:Int)).toNat ((ep:Int)).toNat >>= _) _ _ _;rw[Int.toNat_natCast,Int.toNat_natCast];unfold setNextDrawn;refine wpAny_bind (wpAny_bind (wpAny_setState_of ho hd hf ?_));simp only[bne_self_eq_false,Bool.false_eq_true,if_false,hx];refine wpAny_pure ?_;refine wpAny_bind (wpAny_setField hI rfl (by simp) (wpAny_pure ⟨x,rfl,wpAny_pure (hQ _ ?_ (Heap.SameBut.update _ _ _))⟩));exact Heap.get?_update_self _ hI rfl
def Zof{l:List Nat}{Q:Option Value->Shared->Prop}(hh:A.handled=none)(hI:s.heap.get? I=some (UO (.ref T) i S n ep))(hT':s.heap.get? T=some (Yv l))(ho:s.heap.get? S=some o)(hd:o.data = .set es ep t)(hf:t.fits es.size=true)(hn:es.size=n)
  (hj:l[i]? = none) (hQ:∀h',Heap.ExtBut I s.heap h'->Q none {s with heap:=h'}):wpAny (model prog w) A (pyNext (.ref I)) Q E s:=by
 have hT:s.TypeIs (.ref I) "set_iterator" := ⟨_,hI,rfl⟩;unfold pyNext;refine wpAny_bind (wpAny_attempt (wpAny_callSpecial?_slot (name:=Str.ofString "__next__") hT Z8 (wpAny_call_entry Z8 hT Y0 ?_ (VR _))));unfold Builtin.«set_iterator.__next__»;refine wpAny_bind (m:=slotArgs "__next__" 0 _) (wpAny_pure ?_);dsimp only;refine wpAny_bind (wpAny_fieldsOf hI rfl ?_);dsimp only;refine wpAny_bind (V6 ho hd hf ?_);have e:(((es.size:Nat):Int) != (n:Int))=false:=by rw[hn];simp
 rw[e];simp only[Bool.false_eq_true,if_false];refine wpAny_bind (wpAny_seqItems hT' rfl ?_);have ej:(l.map λ(i:Nat)=>rawInt i).toArray[((i:Nat):Int).toNat]? = none:=by
  rw[Int.toNat_natCast];simp[hj]
 simp only[ej];refine wpAny_bind (wpAny_setField hI rfl (by simp) ?_);have hI2:=Heap.get?_update_self (Obj.mapFields (·.setIfInBounds 0 (rawInt 0))) hI rfl
 refine wpAny_bind (wpAny_setField hI2 rfl (by simp) ?_);refine wpAny_mono (ZkO (I:=I) hh λh' hx=>hQ h' (((Heap.SameBut.update _ _ _).trans (Heap.SameBut.update _ _ _)).extBut.trans hx)) (λfin s' ⟨r,e1,e2⟩=>⟨r,e1,wpAny_pure e2⟩) λ_ _ z=>z
def Zln{slotF:Nat->Nat}{vals:List Value}(hh:A.handled=none)(hne:S≠I)(hd:o.data = .set es ep t)(hf:t.fits es.size=true)(hn:es.size=n)(hv:vals.length=n)
  (hN:∀(i:Nat) (v:Value),vals[i]? = some v->∀(A:Around) (E:Value->Shared->Prop) (s:Shared) (R:Option (Value×Nat)->Shared->Prop),s.heap.get? S=some o->R (some (v,slotF (i+1))) s->wpAny (model prog w) A (setNext S (slotF i) i ep) R E s)
  (hE:∀(A:Around) (E:Value->Shared->Prop) (s:Shared) (R:Option (Value×Nat)->Shared->Prop),s.heap.get? S=some o->R none s->wpAny (model prog w) A (setNext S (slotF n) n ep) R E s) :
  Walks prog w A I [I,S] [I] n (λi v=>vals[i]? = some v) (λi h=>h.get? I=some (UO (.int (slotF i) 0) i S n ep)/\h.get? S=some o) where
 sub:=λb hb=>by simp at hb;simp[hb]
 frame:=λ_ _ _ st hk=>⟨hk I (by simp) _ st.1,hk S (by simp) _ st.2⟩
 item:=λi s Q E _ st hQ=>by
  have hv':vals[i]? = some vals[i]:=getElem?_eq_getElem (by omega);refine Zmj st.1 st.2 hd hf hn (λA E R hR=>hN i _ hv' A E s R st.2 hR) λh' g1 g2=>?_;exact hQ _ h' s.toks hv' ⟨g1,(g2.2 S hne).trans st.2⟩ λb o' hb e=>(g2.2 b (by simpa using hb)).trans e
 done:=λs Q E st hQ=>Zn2 hh st.1 st.2 hd hf hn (λA E R hR=>hE A E s R st.2 hR) λh' g=>hQ h' s.toks λb o' hb e=>g b o' (by simpa using hb) e
 self:=λ_ _ _ _ st hQ=>ZkF st.1 hQ
def Zl5{l:List Nat}{vals:List Value}(hh:A.handled=none)(hne:S≠I)(hTI:T≠I)(hd:o.data = .set es ep t)(hf:t.fits es.size=true)(hn:es.size=n)(hl:l.length=n)(hv:vals.length=n)
  (hx:∀(i j:Nat),l[i]? = some j->∃h0 x,es[j]? = some (h0,x)/\vals[i]? = some x) :
  Walks prog w A I [I,S,T] [I] n (λi v=>vals[i]? = some v) (λi h=>h.get? I=some (UO (.ref T) i S n ep)/\h.get? S=some o/\h.get? T=some (Yv l)) where
 sub:=λb hb=>by simp at hb;simp[hb]
 frame:=λ_ _ _ st hk=>⟨hk I (by simp) _ st.1,hk S (by simp) _ st.2.1,hk T (by simp) _ st.2.2⟩
 item:=λi s Q E _ st hQ=>by
  have hlj:l[i]? = some l[i]:=getElem?_eq_getElem (by omega);obtain⟨h0,x,e1,e2⟩:=hx i _ hlj;refine Zm9 st.1 st.2.2 st.2.1 hd hf hn hlj e1 λh' g1 g2=>?_;exact hQ _ h' s.toks e2 ⟨g1,(g2.2 S hne).trans st.2.1,(g2.2 T hTI).trans st.2.2⟩ λb o' hb e=>(g2.2 b (by simpa using hb)).trans e
 done:=λs Q E st hQ=>Zof hh st.1 st.2.2 st.2.1 hd hf hn (getElem?_eq_none (by omega)) λh' g=>hQ h' s.toks λb o' hb e=>g b o' (by simpa using hb) e
 self:=λ_ _ _ _ st hQ=>ZkF st.1 hQ
end
def Zlx{vals:List Value}{acc:Array Value}{n:Nat}(h:ItemsOf (λi v=>vals[i]? = some v) acc n)(hn:vals.length=n):acc.toList=vals:=by
 apply ext_getElem?;intro i;rw[Array.getElem?_toList];by_cases hi:i<n
 ·have hi':i<acc.size:=by rw[h.1];exact hi
  rw[Array.getElem?_eq_getElem hi',<- h.2 i _ (Array.getElem?_eq_getElem hi')]
 ·rw[Array.getElem?_eq_none (by rw[h.1];omega),getElem?_eq_none (by omega)]
section
variable{prog:Program}{w:World}{A:Around}{E:Value->Shared->Prop}{s:Shared}{S:Addr}{o:Obj}{es:Array (Int×Value)}{ep:Nat}{t:SetTable}
structure Old(s s':Shared):Prop where
 heap:∀b o,s.heap.get? b=some o->s'.heap.get? b=some o
 os:s'.os=s.os
 gens:s'.gens=s.gens
def Zm2{Q:Value->Shared->Prop}(hh:A.handled=none)(ho:s.heap.get? S=some o)(hex:o.ExactSet)(hd:o.data = .set es ep t)(hf:t.fits es.size=true)(hb:byT w=true\/TI t)(hsz:es.size<scanBound)
  (h:∀(s1:Shared) (I:Addr) (fp:List Addr) (vals:List Value) (St:Nat->Heap->Prop),Old s s1->s.heap.get? I=none->(∀b,b∈fp->b=S\/s.heap.objs.size<=b)->vals.Perm (es.toList.map (·.2)) ->
   Walks prog w A I fp [I] es.size (λi v=>vals[i]? = some v) St->St 0 s1.heap->Q (.ref I) s1):wpAny (model prog w) A (pyIter (.ref S)) Q E s:=by
 have hT:s.TypeIs (.ref S) "set" := ⟨o,ho,hex.1⟩;have lS:S<s.heap.objs.size:=Heap.lt_size ho;refine wpAny_pyIter_slot hT PySem.F.slot_set_iter (wpAny_call_entry PySem.F.slot_set_iter hT ZbD ?_ (PySem.F.args_set_iter_1 _));unfold Builtin.«frozenset.__iter__»;refine wpAny_bind (m:=Builtin.Frozenset.slot0 "__iter__" _) (wpAny_pure ?_);unfold Builtin.Frozenset.sizeOf;refine wpAny_bind (wpAny_bind (V6 ho hd hf (wpAny_pure ?_)));unfold setDrawn;refine wpAny_bind (wpAny_bind (wpAny_setState_of ho hd hf (wpAny_bind (Zai (wpAny_pure ?_)))));have plainCase:∀(slotF:Nat->Nat) (vals:List Value),slotF 0=0->vals.length=es.size->vals.Perm (es.toList.map (·.2)) ->
   (∀(i:Nat) (v:Value),vals[i]? = some v->∀(A:Around) (E:Value->Shared->Prop) (s:Shared) (R:Option (Value×Nat)->Shared->Prop),s.heap.get? S=some o->R (some (v,slotF (i+1))) s->wpAny (model prog w) A (setNext S (slotF i) i ep) R E s) ->
   (∀(A:Around) (E:Value->Shared->Prop) (s:Shared) (R:Option (Value×Nat)->Shared->Prop),s.heap.get? S=some o->R none s->wpAny (model prog w) A (setNext S (slotF es.size) es.size ep) R E s) ->
   wpAny (model prog w) A.in1 (do ret (<- newFields "set_iterator" [rawInt 0,rawInt 0,.ref S,rawInt es.size,rawInt (<- setEpoch S)])) (λfin s'=>∃r,fin = .done (.ret r)/\∃T,∃v,s'.TypeIs r T/\typeLookup (.type T) "__next__" = pure (some v)/\Q r s') E s:=by
  intro slotF vals h0 hv hp hN hE;refine wpAny_bind (wpAny_setEpoch_of ho hd hf ?_);refine wpAny_bind (wpAny_newObj_type (wpAny_pure ⟨_,rfl, "set_iterator",_,⟨_,Heap.get?_push_size _ rfl,rfl⟩,Z8.lookup,?_⟩));have hne:S≠s.heap.objs.size:=Nat.ne_of_lt lS;refine h _ s.heap.objs.size [s.heap.objs.size,S] vals _ ⟨λb o' e=>Heap.get?_push_of_some _ e,rfl,rfl⟩ (Heap.get?_none_of_le (Nat.le_refl _)) (λb hb=>?_) hp (Zln (slotF:=slotF) hh hne hd hf rfl hv hN hE) ⟨?_,Heap.get?_push_of_some _ ho⟩
  ·rcases mem_cons.mp hb with rfl|hb
   ·exact .inr (Nat.le_refl _)
   ·exact .inl (mem_singleton.mp hb)
  ·rw[h0]
   exact Heap.get?_push_size _ rfl
 have fit:t.place.size=es.size:=by
  have:=hf;unfold SetTable.fits at this;rw[Bool.and_eq_true] at this;exact eq_of_beq this.1
 have vget:∀{l:List (Int×Value)} {i:Nat} {v:Value},(l.map (·.2))[i]? = some v->∃h0,l[i]? = some (h0,v):=λ{l i v} e=>by
  rw[getElem?_map] at e;cases q:l[i]? with
  |none=>rw[q] at e;cases e
  |some z=>
   rw[q] at e;obtain⟨z1,z2⟩:=z;exact⟨z1,by rw[show z2=v from Option.some.inj e]⟩
 cases hbt:byT w with
 |true=>
  rw[Bool.not_true,Bool.false_and];simp only[Bool.false_eq_true,if_false];refine wpAny_bind (wpAny_pure ?_);refine plainCase (λ_=>0) ((pickOrder (w.params.setOrder S ep) es).toList.map (·.2)) rfl (by rw[length_map,(DD _ _).length_eq,Array.length_toList]) ((DD _ _).map _) (λi v hv A E s R g hR=>?_) λA E s R g hR=>?_
  ·obtain⟨h0,e⟩:=vget hv
   refine snB hbt g hd hf ?_;rw[<- Array.getElem?_toList,e];exact hR
  ·refine snB hbt g hd hf ?_
   rw[<- Array.getElem?_toList,getElem?_eq_none (by rw[(DD _ _).length_eq,Array.length_toList];exact Nat.le_refl _)];exact hR
 |false=>
  have hT1:TI t:=hb.resolve_left (by rw[hbt];decide);by_cases hp:(!t.plain&&decide (es.size > 1))=true
  ·split
   ·refine wpAny_bind (ZkK es.size (List.range es.size) (by rw[length_range]) λl d hl=>?_)
    have ll:l.length=es.size:=by rw[hl.length_eq,length_range]
    refine wpAny_bind (wpAny_newTuple ?_ (by rw[length_map,ll];exact fits_of_scanBound hsz));have hT2:(s.heap.push (Yv l)).get? s.heap.objs.size=some (Yv l):=Heap.get?_push_size _ rfl;have hS2:(s.heap.push (Yv l)).get? S=some o:=Heap.get?_push_of_some _ ho;refine wpAny_bind (wpAny_setEpoch_of (s:={s with heap:=s.heap.push (Yv l),drawn:=d}) hS2 hd hf ?_);refine wpAny_bind (wpAny_newObj_type (wpAny_pure ⟨_,rfl, "set_iterator",_,⟨_,Heap.get?_push_size _ rfl,rfl⟩,Z8.lookup,?_⟩));have zI:(s.heap.push (Yv l)).objs.size=s.heap.objs.size+1:=Heap.size_push _ _;have hne:S≠(s.heap.push (Yv l)).objs.size:=by rw[zI];exact Nat.ne_of_lt (Nat.lt_succ_of_lt lS)
    have hTI:s.heap.objs.size≠(s.heap.push (Yv l)).objs.size:=by rw[zI];exact Nat.ne_of_lt (Nat.lt_succ_self _)
    have lt:∀j,j∈l->j<es.size:=λj hj=>mem_range.mp (hl.mem_iff.mp hj);have gv:∀j,j<es.size->∃h0 x,es[j]? = some (h0,x)/\(es.toList.map (·.2)).getD j .none=x:=λj hj=>by
     refine⟨es[j].1,es[j].2,Array.getElem?_eq_getElem hj,?_⟩;rw[getD_eq_getElem?_getD,getElem?_map,Array.getElem?_toList,Array.getElem?_eq_getElem hj];rfl
    refine h _ (s.heap.push (Yv l)).objs.size [(s.heap.push (Yv l)).objs.size,S,s.heap.objs.size] (l.map λj=>(es.toList.map (·.2)).getD j .none) _ ⟨λb o' e=>Heap.get?_push_of_some _ (Heap.get?_push_of_some _ e),rfl,rfl⟩ (Heap.get?_none_of_le (by rw[zI];exact Nat.le_succ _)) (λb hb=>?_) ?_
     (Zl5 (l:=l) (T:=s.heap.objs.size) hh hne hTI hd hf rfl ll (by rw[length_map,ll]) (λi j hj=>?_)) ⟨Heap.get?_push_size _ rfl,Heap.get?_push_of_some _ hS2,Heap.get?_push_of_some _ hT2⟩
    ·rcases mem_cons.mp hb with rfl|hb
     ·exact .inr (by rw[zI];exact Nat.le_succ _)
     ·rcases mem_cons.mp hb with rfl|hb
      ·exact .inl rfl
      ·exact .inr (by rw[mem_singleton.mp hb];exact Nat.le_refl _)
    ·have:=hl.map λj=>(es.toList.map (·.2)).getD j Value.none
     refine this.trans (List.Perm.of_eq ?_);apply ext_getElem?;intro i;rw[getElem?_map];by_cases hi:i<es.size
     ·obtain⟨h0,x,e1,e2⟩:=gv i hi
      rw[getElem?_range hi,getElem?_map,Array.getElem?_toList,e1];show some ((es.toList.map (·.2)).getD i .none)=some x
      rw[e2]
     ·rw[getElem?_eq_none (by rw[length_range];omega),getElem?_eq_none (by rw[length_map,Array.length_toList];omega)]
      rfl
    ·obtain⟨h0,x,e1,e2⟩:=gv j (lt j (mem_of_getElem? hj))
     refine⟨h0,x,e1,?_⟩;rw[getElem?_map,hj];show some ((es.toList.map (·.2)).getD j .none)=some x
     rw[e2]
   ·rename_i hn
    exact absurd (show(!false&&(!t.plain&&decide (es.size > 1)))=true by rw[hp];rfl) hn
  ·have hp:(!t.plain&&decide (es.size > 1))=false:=by simpa using hp
   split
   ·rename_i hn
    have hn:(!false&&(!t.plain&&decide (es.size > 1)))=true:=hn;rw[hp] at hn;cases hn
   ·refine wpAny_bind (wpAny_pure ?_)
    refine plainCase (Zix t.place) (es.toList.map (·.2)) rfl (by rw[length_map,Array.length_toList]) (List.Perm.refl _) (λi v hv A E s R g hR=>?_) λA E s R g hR=>?_
    ·obtain⟨h0,e⟩:=vget hv
     rw[Array.getElem?_toList] at e;have hi:i<es.size:=(Array.getElem?_eq_some_iff.mp e).1;refine snP hbt hp hT1 g hd hf ?_;rw[Zbm hT1.ris (by omega),e,Array.getElem?_eq_getElem (show i<t.place.size by omega)];have e2:t.place.getD i 0=t.place[i]'(by omega):=by
      rw[Array.getD_eq_getD_getElem?,Array.getElem?_eq_getElem (show i<t.place.size by omega)];rfl
     have:R (some (v,t.place.getD i 0+1)) s:=hR;rw[e2] at this;exact this
    ·refine snP hbt hp hT1 g hd hf ?_
     rw[Zbm hT1.ris (by omega),Array.getElem?_eq_none (Nat.le_refl _)];exact hR
end
def ZjL:isSubtype (.type "set") (.type "set")=pure true:=by
 rw[isSubtype_type]
 kernel_rfl
section
variable{prog:Program}{w:World}{A:Around}{E:Value->Shared->Prop}{s:Shared}{S:Addr}{o:Obj}{es:Array (Int×Value)}{ep:Nat}{t:SetTable}
def Znr{Q:Bool->Shared->Prop}(hT:s.TypeIs (.ref S) "set")(h:Q false s):wpAny (model prog w) A (Builtin.List.listLengthHint (.ref S)) Q E s:=by
 unfold Builtin.List.listLengthHint;refine wpAny_bind (wpAny_specialOf hT PySem.F.slot_set_len.lookup ?_);dsimp only;have sp:splitId "set.__len__" = some ("set", "__len__"):=by decide +kernel
 rw[sp];dsimp only;refine wpAny_bind (wpAny_isInstance hT ZjL ?_);rw[if_neg (show ¬ ((!true)=true) by decide)];rw[if_pos ?hc]
 case hc=>decide +kernel
 refine wpAny_bind (wpAny_typeOf hT ?_);exact wpAny_pure h
def ZiL{Q:List Value->Shared->Prop}(hh:A.handled=none)(ho:s.heap.get? S=some o)(hex:o.ExactSet)(hd:o.data = .set es ep t)(hf:t.fits es.size=true)(hb:byT w=true\/TI t)(hsz:es.size<scanBound)
  (h:∀(acc:List Value) (s':Shared),acc.Perm (es.toList.map (·.2))->Old s s'->s.heap.objs.size<=s'.heap.objs.size->Q acc s'):wpAny (model prog w) A (collect (.ref S)) Q E s:=by
 have lS:S<s.heap.objs.size:=Heap.lt_size ho;unfold collect;refine wpAny_bind (wpAny_runValue (codeAny_builtin PySem.F.entry_proto_collect ?_));rw[Around.under_plainId PySem.F.plain_proto_collect _];show wpAny _ A.in1 (newList [] >>= λl=>again (.builtin "list.__iadd__" ⟨[l,.ref S],[]⟩)) _ _ s;refine wpAny_bind (wpAny_newObj_type (wpAny_pure ⟨plainId_quiet PySem.F.plain_list_iadd _,codeAny_builtin PySem.F.entry_list_iadd ?_⟩));rw[Around.under_plainId PySem.F.plain_list_iadd _];let s0:Shared:={s with heap:=s.heap.push {cls:=.type "list",data:=.seq ([]:List Value).toArray}}
 have oD:s0.heap.get? s.heap.objs.size=some {cls:=.type "list",data:=.seq ([]:List Value).toArray}:=Heap.get?_push_size _ rfl;have oS:s0.heap.get? S=some o:=Heap.get?_push_of_some _ ho;have hT:s0.TypeIs (.ref S) "set" := ⟨o,oS,hex.1⟩;show wpAny _ A.in1 (Builtin.List.listExtendWith (.ref s.heap.objs.size) (.ref S) (.ref s.heap.objs.size)) _ _ s0;unfold Builtin.List.listExtendWith;refine wpAny_bind (wpAny_typeOf hT ?_);have n1:Builtin.List.listSameRef (.ref s.heap.objs.size) (.ref S)=false:=by
  simp only[Builtin.List.listSameRef,beq_eq_false_iff_ne];exact Nat.ne_of_gt lS
 have n2:(Value.type "set" == Value.type "list")=false:=by decide
 have n3:(Value.type "set" == Value.type "tuple")=false:=by decide
 simp only[n1,n2,n3,Bool.or_false,Bool.false_eq_true,if_false];refine wpAny_bind (Zm2 (A:=A.in1) (s:=s0) hh oS hex hd hf hb hsz λs1 I fp vals St old nI lf pm W st0=>?_);have D1:s1.heap.get? s.heap.objs.size=some {cls:=.type "list",data:=.seq ([]:List Value).toArray}:=old.heap _ _ oD;have hT1:s1.TypeIs (.ref S) "set" := ⟨o,old.heap _ _ oS,hex.1⟩;refine wpAny_bind (wpAny_holding (Znr hT1 ?_));have nD:s.heap.objs.size∉fp:=λhm=>by
  rcases lf _ hm with e|e
  ·exact absurd e.symm (Nat.ne_of_lt lS)
  ·have z0:s0.heap.objs.size=s.heap.objs.size+1:=Heap.size_push _ _
   rw[z0] at e;exact absurd e (Nat.not_succ_le_self _)
 have lv:vals.length=es.size:=by rw[pm.length_eq,length_map,Array.length_toList]
 have loop:∀(h2:Heap) (c:Nat),h2.get? s.heap.objs.size=some {cls:=.type "list",data:=.seq ([]:List Value).toArray c}->(∀b o',b≠s.heap.objs.size->s1.heap.get? b=some o'->h2.get? b=some o')->∀(R:Result->Shared->Prop),
   (∀(s3:Shared) (c3:Nat),s3.heap.get? s.heap.objs.size=some {cls:=.type "list",data:=.seq vals.toArray c3}->Old s s3->R (.ok (.ret (.ref s.heap.objs.size))) s3)->codeAny (model prog w) A (.builtin "list.extend.loop" ⟨[.ref s.heap.objs.size,.ref I,.ref s.heap.objs.size],[]⟩) R {s1 with heap:=h2}:=λh2 c g1 g2 R hR=>by
  refine codeAny_extend_loopS W.toS (fits_of_scanBound hsz) _ nD _ es.size 0 _ #[] c rfl (Nat.zero_le _) (W.frame 0 _ _ st0 λb hb o' e=>g2 b o' (λz=>nD (z▸hb)) e) g1 (ItemsOf.nil _) λs3 acc c3 mv g3 it=>?_;have ea:=Zlx it lv;refine hR s3 c3 (by rw[g3,<- ea]) ⟨λb o' e=>?_,mv.os.trans old.os,mv.gens.trans old.gens⟩;have b1:b≠s.heap.objs.size:=Nat.ne_of_lt (Heap.lt_size e);have e0:s0.heap.get? b=some o':=Heap.get?_push_of_some _ e;have bI:b≠I:=λz=>by rw[z,nI] at e0;cases e0
  exact mv.heap b o' (by simp only[mem_cons,not_mem_nil,or_false,not_or];exact⟨b1,bI⟩) (g2 b o' b1 (old.heap _ _ e0))
 have fin:∀(s3:Shared) (c3:Nat),s3.heap.get? s.heap.objs.size=some {cls:=.type "list",data:=.seq vals.toArray c3}->Old s s3->wpAny (model prog w) A (do match (<- load s.heap.objs.size).data with|.seq xs _=>pure xs.toList|_=>unsupported "internal:collect") Q E s3:=λs3 c3 g ol=>by
  refine wpAny_bind (wpAny_load g ?_);refine wpAny_pure ?_;rw[List.toList_toArray];exact h vals s3 pm ol (Nat.le_of_lt (Heap.lt_size g))
 split
 ·refine wpAny_bind (wpAny_rule ?_)
  refine wpAny_bind ?_;show wpAny _ A.in1 (updateSeq s.heap.objs.size (·.push .none) >>= λ_=>updateSeq s.heap.objs.size (·.pop)) _ _ _
  refine wpAny_bind (wpAny_updateSeq D1 rfl ?_);have D2:=Heap.get?_update_self (Obj.mapSeq (·.push Value.none)) D1 rfl
  refine wpAny_updateSeq D2 rfl ?_;have D3:=Heap.get?_update_self (Obj.mapSeq (·.pop)) D2 rfl
  refine wpAny_pure ⟨plainId_quiet PySem.F.plain_extend_loop _,loop _ _ D3 (λb o' hb e=>(Heap.get?_update_other _ _ (Ne.symm hb)).trans ((Heap.get?_update_other _ _ (Ne.symm hb)).trans e)) _ λs3 c3 g ol=>?_⟩;exact fin s3 c3 g ol
 ·refine wpAny_pure ⟨plainId_quiet PySem.F.plain_extend_loop _,loop _ _ D1 (λb o' hb e=>e) _ λs3 c3 g ol=>?_⟩
  exact fin s3 c3 g ol
end
theorem D0:∀{d ks:List Int},d.Nodup->(∀x,x∈d->x∈ks)->ks.length=d.length->ks.Perm d
 | [],ks,_,_,h=>by
  have:ks=[]:=length_eq_zero_iff.mp h;subst this;exact List.Perm.refl _
 |x::d,ks,hn,hs,h=>by
  have hx:=hs x mem_cons_self;have p:=List.perm_cons_erase hx;refine p.trans (List.Perm.cons x (D0 (nodup_cons.mp hn).2 (λy hy=>?_) ?_))
  ·have ne:y≠x:=λe=>(nodup_cons.mp hn).1 (e▸hy)
   exact(List.mem_erase_of_ne ne).mpr (hs y (mem_cons_of_mem _ hy))
  ·have:=p.length_eq
   rw[length_cons] at this h;omega
theorem Ud(val:Nat->Int):∀i,(firstMet val i).Nodup
 |0=>nodup_nil
 |i+1=>by
  rw[firstMet_succ];unfold step_dedup;split
  ·exact Ud val i
  ·rename_i h
   rw[List.nodup_append];refine⟨Ud val i,by simp,λa ha b hb e=>?_⟩;rw[mem_singleton.mp hb] at e;subst e;exact h (any_eq_true.mpr ⟨_,ha,by simp⟩)
theorem Zgl{prog:Program}{w:World}:∀{l:List (Int×Value)},ElemsOf (intKind prog w) l->∃ks:List Int,IntsAre (l.map (·.2)) ks/\∀k,k∈ks ↔ ∃e∈l,(intKind prog w).is k e.2=true
 | [],_=>⟨[],.nil,λk=>by simp⟩
 |e::l,h=>by
  obtain⟨ks,h1,h2⟩:=Zgl (λx hx=>h x (mem_cons_of_mem _ hx):ElemsOf (intKind prog w) l);obtain⟨⟨k0,hk0,_⟩,_⟩:=h e mem_cons_self;obtain⟨t,et⟩:=Value.isInt_shape (show Value.isInt k0 e.2=true from hk0);refine⟨k0::ks,?_,λk=>?_⟩
  ·rw[map_cons,et]
   exact .cons _ t h1
  ·rw[mem_cons,h2]
   constructor
   ·rintro(rfl|⟨x,hx,hk⟩)
    ·exact⟨e,mem_cons_self,hk0⟩
    ·exact⟨x,mem_cons_of_mem _ hx,hk⟩
   ·rintro⟨x,hx,hk⟩
    rcases mem_cons.mp hx with rfl|hx
    ·exact .inl ((intKind prog w).inj _ k k0 hk hk0)
    ·exact .inr ⟨x,hx,hk⟩
def ZgZ:∀{l l':List Value},l'.Perm l->∀{ks:List Int},IntsAre l ks->∃ks',IntsAre l' ks'/\ks'.Perm ks:=λ{l l'} p=>by
 induction p with
 |nil=>exact λh=>⟨_,h,List.Perm.refl _⟩
 |cons x p ih=>
  intro ks h;cases h with
  |cons n t hr=>
   obtain⟨ks',h1,h2⟩:=ih hr;exact⟨n::ks',.cons n t h1,List.Perm.cons n h2⟩
 |swap x y l=>
  intro ks h;cases h with
  |cons n t hr=>
   cases hr with
   |cons m u hq=>exact⟨m::n::_,.cons m u (.cons n t hq),List.Perm.swap _ _ _⟩
 |trans p q ih1 ih2=>
  intro ks h;obtain⟨k1,a1,b1⟩:=ih2 h;obtain⟨k2,a2,b2⟩:=ih1 a1;exact⟨k2,a2,b2.trans b1⟩
section
variable{prog:Program}{w:World}{A:Around}{E:Value->Shared->Prop}{s:Shared}
def ZhV(prog:Program)(w:World)(a:Addr)(d:List Int):Heap->Prop:=λh=>V8 prog w h a (λk=>d.any (· == k)) d.length (byT w)
def ZeT{S:Addr}{d:List Int}{Q:Value->Shared->Prop}(hh:A.handled=none)(hS:ZhV prog w S d s.heap)(hn:d.Nodup)(h64:d.length<64)
  (h:∀(s':Shared) (D:Addr) (out:List Value) (c:Nat) (ns:List Int),IntsAre out ns->ns.Perm d->ns.Pairwise (· <= ·)->Old s s'->s.heap.objs.size<=D->s'.heap.get? D=some {cls:=.type "list",data:=.seq out.toArray c}->Q (.ref D) s') :
  wpAny (model prog w) A (call (.builtin "sorted") [.ref S]) Q E s:=by
 obtain⟨o,es,ep,t,ho,hex,hd,hel,hmem,hsz,hf,hnn,hb⟩:=hS.ex;obtain⟨ks,hk1,hk2⟩:=Zgl hel;have kl:ks.length=d.length:=by rw[<- hk1.length,length_map,Array.length_toList,hnn]
 have kp:ks.Perm d:=D0 hn (λx hx=>(hk2 x).mpr ((hmem x).mp (any_eq_true.mpr ⟨x,hx,by simp⟩))) kl;refine Calls.call_function_entry kind_sorted plain_sorted entry_sorted (args_sorted1 _) ?_;unfold Builtin.«sorted»;refine wpAny_bind (m:=checkCount "sorted" 1 1 _) (wpAny_pure (wpAny_bind (ZiL (A:=A.in1) hh ho hex hd hf hb hsz λacc s1 pm old sz=>?_)));obtain⟨ka,hka,hkp⟩:=ZgZ pm hk1;have al:acc.length<64:=by rw[pm.length_eq,length_map,Array.length_toList,hnn];exact h64
 refine wpAny_bind (wpAny_newList ?_ (by rw[sizeLine_eq];omega));have oL:(s1.heap.push (seqObj "list" acc.toArray 0)).get? s1.heap.objs.size=some (seqObj "list" acc.toArray 0):=Heap.get?_push_size _ rfl;show wpAny _ _ _ _ _ {s1 with heap:=s1.heap.push (seqObj "list" acc.toArray 0)};refine wpAny_bind (wpAny_holding (wpAny_call_entry slot_list_sort ⟨_,oL,rfl⟩ entry_list_sort (list_sort_tree (s:={s1 with heap:=s1.heap.push (seqObj "list" acc.toArray 0)}) oL hka al λout ns q1 q2 q3=>⟨_,rfl,?_⟩) (args_list_sort _)));obtain⟨c,hc⟩:=sortedHeap_at (vs:=acc) (out:=out) oL;refine wpAny_pure ⟨_,rfl,h _ _ out.toList c ns q1 ((q2.trans hkp).trans kp) q3 ⟨λb _ e=>?_,old.os,old.gens⟩ sz ?_⟩
 ·have b1:b<s1.heap.objs.size:=Nat.lt_of_lt_of_le (Heap.lt_size e) sz
  have z2:b<(s1.heap.push (seqObj "list" acc.toArray 0)).objs.size:=by rw[Heap.size_push];exact Nat.lt_succ_of_lt b1
  exact(sortedHeap_old (h:=s1.heap.push (seqObj "list" acc.toArray 0)) (a:=s1.heap.objs.size) (vs:=acc) (out:=out) (Nat.ne_of_lt b1) z2).trans (Heap.get?_push_of_some _ (old.heap _ _ e))
 ·exact hc
end
end ST
namespace WW
open PySem PySem.Spec PyProof.Rows L2 LX
open Rotor (at_)
def ZjT{X:Cx}{pins:List (Addr×Obj)}{σ:L2.St}{H:Hp}{s s':Shared}{tk:Nat}(I:L2.Inv X pins σ H {s with heap:=s'.heap,toks:=tk})(o:s'.os=s.os)(g:s'.gens=s.gens):L2.Inv X pins σ H s':=
 ⟨I.ok,o.trans I.os,by rw[g];exact I.bare,I.base,I.loc,I.cell,I.free,I.freeC,I.pin,I.hok,I.len⟩
def Zlc{X:Cx}(hc:X.calm=true):Y8 X (.type "set") (λvs H Q=>∃(p:Addr) (l:List Nat),vs=[.ref p]/\H p=some (.lst (nv l))/\l.length<=1000 /\
  ∀(d:List Int) (a:Addr),d.Nodup->(∀k,k∈d ↔ ∃x,x∈l/\k=(x:Int))->d.length<=l.length->H a=none->Q (.ref a) (upd H a (.ext (ST.ZhV X.prog X.w a d)))):=by
 intro pins s σ H vs us Q I r h;obtain⟨p,l,rfl,hp,hl,q⟩:=h;rw[Zy.ref1 r];obtain⟨z,its,n,rx,e⟩:=I.hok p _ hp;have hi:=SO.Zar rx;have il:its.length=l.length:=by rw[<- rx.length,Zf]
 have lst:s.heap.IsList p its.toArray:=⟨_,e,rfl,n,rfl⟩;have getD:∀i,i<l.length->(l.map λ(x:Nat)=>(x:Int)).getD i 0=((l.getD i 0:Nat):Int):=λi hi'=>by
  rw[getD_eq_getElem?_getD,getD_eq_getElem?_getD,getElem?_map,getElem?_eq_getElem hi'];rfl
 refine ST.ZgS (items:=its.toArray) (ns:=l.map λ(x:Nat)=>(x:Int)) (I.ok.hd hc) lst (by simpa using hi) (by rw[size_toArray,il];show l.length+1<4096;omega) λ_ tk hS kp=>?_;generalize hd:firstMet (λi=>(l.map λ(x:Nat)=>(x:Int)).getD i 0) its.toArray.size=d at hS;have dn:d.Nodup:=by rw[<- hd];exact ST.Ud _ _
 have dl:d.length<=l.length:=by
  rw[<- hd];have:=firstMet_length_le (λi=>(l.map λ(x:Nat)=>(x:Int)).getD i 0) its.toArray.size;rw[size_toArray,il] at this;rw[size_toArray,il];exact this
 have dm:∀k,k∈d ↔ ∃x,x∈l/\k=(x:Int):=λk=>by
  have a1:k∈d↔d.any (· == k)=true:=by
   rw[any_eq_true];exact⟨λh=>⟨k,h,by simp⟩,λ⟨x,hx,e⟩=>by rw[<- eq_of_beq e];exact hx⟩
  rw[a1,<- hd,firstMet_any,any_eq_true,size_toArray,il];constructor
  ·rintro⟨y,hy,e⟩
   obtain⟨i,hi1,rfl⟩:=mem_map.mp hy;have hil:=mem_range.mp hi1;refine⟨l.getD i 0,?_,?_⟩
   ·rw[getD_eq_getElem?_getD,getElem?_eq_getElem hil]
    exact getElem_mem hil
   ·rw[<- eq_of_beq e,getD i hil]
  ·rintro⟨x,hx,rfl⟩
   obtain⟨i,hil,rfl⟩:=getElem_of_mem hx;refine⟨_,mem_map.mpr ⟨i,mem_range.mpr hil,rfl⟩,?_⟩;rw[getD i hil,getD_eq_getElem?_getD,getElem?_eq_getElem hil];simp
 have nf:H s.heap.objs.size=none:=I.hok.fresh (Nat.le_refl _);obtain⟨o0,es0,ep0,t0,g0,_⟩:=hS.ex;refine⟨.ref s.heap.objs.size,_,I.laid (a:=s.heap.objs.size) (o:=.ext (ST.ZhV X.prog X.w s.heap.objs.size d)) (t':=tk) (λb u hb=>kp b u (Heap.lt_size hb) hb) (Nat.le_refl _) ⟨hS,⟨_,g0⟩,λa1 a2 r1 r2=>ST.V8.keep r1 λo ho=>r2 o ho⟩,rfl,q d _ dn dm dl nf⟩
def Zc0{X:Cx}(hc:X.calm=true):Y8 X (.builtin "sorted") (λvs H Q=>∃(a:Addr) (d:List Int),vs=[.ref a]/\H a=some (.ext (ST.ZhV X.prog X.w a d))/\d.Nodup/\d.length<64 /\
  ∀(ns:List Int) (p:Addr),ns.Perm d->ns.Pairwise (· <= ·)->H p=none->Q (.ref p) (upd H p (.lst (ns.map V.int)))):=by
 intro pins s σ H vs us Q I r h;obtain⟨a,d,rfl,ha,hn,h64,q⟩:=h;rw[Zy.ref1 r];obtain⟨hS,_,_⟩:=I.hok a _ ha;refine ST.ZeT (I.ok.hd hc) hS hn h64 λs' D out c ns q1 q2 q3 old le g=>?_;have nl:(ns.map V.int).length<=sizeLine:=by rw[length_map,q2.length_eq];exact ZfT h64
 have I2:=I.laid (a:=D) (o:=.lst (ns.map V.int)) (t':=s'.toks) old.heap le ⟨nl,out,c,VV q1,g⟩;exact⟨.ref D,_,ZjT I2 old.os old.gens,rfl,q ns D q2 q3 (I.hok.fresh le)⟩
section
variable{P:Program}{w:World}{K:Frag}{mg:Str->Option Value}{base:Heap}{W M L C:Addr}
inductive Zaw:List V->Hp->VK->XK->Prop|mk {vs H Q E} (a:Addr) (n:Nat) (ks:List Rotor.Known):vs=[.ref a]->Y7 H a ks->ks.length<=12->Rotor.fits n ks=true->RL H Q (nv (Rotor.toldOf n ks))->Zaw vs H Q E
def ZhH:List Str:=["known", "plain", "steps", "coded"]
def Zio:Zl ZhH ["known"] (Ze (top 42)):=fsc
def ZjM(G:Gk mg)(F:At K mg "letters_told" (top 42) ["known"]):Def P w K mg base CX0 1 "letters_told" ["known"] Zaw:=by
 refine F.ok Zio (λvs H Q E h=>?_) (λf _ A _ s H vs Q E _ h=>?_)
 ·obtain⟨a,n,ks,rfl,_⟩:=h
  rfl
 ·obtain⟨a,n,ks,rfl,⟨ts,ha,tl,ht⟩,h12,hf,k⟩:=h
  have nd:=Zio.nd;refine⟨_,Zh (Zn (Zv (Zc0 rfl) rfl G.sorted boot_sorted (Za (JJ (Zlc rfl) rfl G.set boot_set (Za (ZD DO
   (YA rfl nd (ZR (pv 0)) (own:=[("steps",2),("plain",1),("coded",3)]) (g:=Zbx K 3 (JB (Js 2) (JB (Js 1) (JB (Js 3) ZbA)))) (ZP (N:=ZhH) (sc:=Ze (top 42)) (by decide +kernel))
    (λ_ _ _ _ _=>Yl rfl (ZA (Zo (i:=2) nd rfl) (ZA (Zo (i:=1) nd rfl) (ZA (Zo (i:=3) nd rfl) JI)))) (λ_ _ _ _ _=>Jf) (λ_ _ _ _ _=>pv 1))
   (YA rfl nd (ZR (pv 0)) (own:=[("steps",2),("plain",1),("coded",3)]) (g:=Zbx K 3 (JB (Js 2) (JB (Js 1) (JB (Js 3) ZbA)))) (ZP (N:=ZhH) (sc:=Ze (top 42)) (by decide +kernel))
    (λ_ _ _ _ _=>Yl rfl (ZA (Zo (i:=2) nd rfl) (ZA (Zo (i:=1) nd rfl) (ZA (Zo (i:=3) nd rfl) JI)))) (λ_ _ _ _ _=>Jf) (λ_ _ _ _ _=>pv 3))) Zd)) Zd))),?_⟩;have kat:∀{i:Nat} {t:Addr},ts[i]? = some t->∃c,ks[i]? = some c/\H t=some (.tup (nv (RM.Za4 c))):=λ{i t} hti=>by
   have hik:i<ks.length:=by rw[<- tl];exact(List.getElem?_eq_some_iff.mp hti).1
   exact⟨ks[i],getElem?_eq_getElem hik,ht i t _ hti (getElem?_eq_getElem hik)⟩
  refine⟨_,rfl,a,rfl,⟨_,SqL.of ha⟩,λD hD=>?_⟩;refine Ji (K:=K) (a:=a) (xs:=rv ts) (λi H'=>Same H H'/\H' D=some (.lst (nv ((ks.take i).map λc=>c.plain)))) ⟨Zg hD,Zb⟩ (λi H' _ h=>SqL.of (h.1 _ _ ha)) ?_ ?_
  ·rintro i t H' hi ⟨sm,hD'⟩
   obtain⟨t,hti,rfl⟩:=YO hi;obtain⟨c,hc,hT⟩:=kat hti;refine⟨t,_,rfl,SqT.of (sm _ _ hT),rfl,_,_,rfl,_,_,rfl,_,_,rfl,rfl,rfl,lcY ⟨_,rfl,_,hD',?_,Same.upd sm hD,?_⟩⟩
   ·rw[Zf,length_map,length_take]
    exact ZF (by omega)
   ·rw[Zb,ZN hc,JK]
  ·rintro H1 ⟨s1,hD1⟩
   rw[Zw,tl,take_length] at hD1;refine⟨_,rfl,a,rfl,⟨_,SqL.of (s1 _ _ ha)⟩,λD2 hD2=>?_⟩;refine Ji (K:=K) (a:=a) (xs:=rv ts) (λi H'=>Same H1 H'/\H' D2=some (.lst (nv ((ks.take i).map λc=>c.coded)))) ⟨Zg hD2,Zb⟩ (λi H' _ h=>SqL.of (h.1 _ _ (s1 _ _ ha))) ?_ ?_
   ·rintro i t H' hi ⟨sm,hD'⟩
    obtain⟨t,hti,rfl⟩:=YO hi;obtain⟨c,hc,hT⟩:=kat hti;refine⟨t,_,rfl,SqT.of (sm _ _ (s1 _ _ hT)),rfl,_,_,rfl,_,_,rfl,_,_,rfl,rfl,rfl,lcY ⟨_,rfl,_,hD',?_,Same.upd sm hD2,?_⟩⟩
    ·rw[Zf,length_map,length_take]
     exact ZF (by omega)
    ·rw[Zb,ZN hc,JK]
   ·rintro H2 ⟨s2,hE2⟩
    rw[Zw,tl,take_length] at hE2;have s02:=s1.trans s2;refine⟨D,D2,_,_,rfl,rfl,s2 _ _ hD1,hE2,by rw[Zf,Zf,length_map,length_map];exact Zs (by omega),λq hq=>?_⟩;rw[<- ZX];have s3:=s02.trans (Zg (o:=.lst (nv (ks.map (λc=>c.plain)++ks.map λc=>c.coded))) hq);refine⟨q,_,rfl,Zb,by rw[length_append,length_map,length_map];omega,λd b dn dm dl hb=>?_⟩;have s4:=s3.trans (Zg (o:=.ext (ST.ZhV P w b d)) hb);refine⟨b,d,rfl,Zb,dn,?_,λns p pm st hp=>?_⟩
    ·rw[length_append,length_map,length_map] at dl
     omega
    ·have en:ns.map V.int=nv (Rotor.toldOf n ks):=by
      have e1:ns.map Int.toNat=Rotor.toldOf n ks:=by
       have pos:∀k,k∈ns->∃x:Nat,k=(x:Int):=λk hk=>by
        obtain⟨x,_,e⟩:=(dm k).mp (pm.mem_iff.mp hk);exact⟨x,e⟩
       have asc:(ns.map Int.toNat).Pairwise (· < ·):=by
        rw[pairwise_map];have nn:ns.Nodup:=pm.nodup_iff.mpr dn;refine(st.and nn).imp_of_mem λ{x y} hx hy h=>?_;obtain⟨a,rfl⟩:=pos x hx;obtain⟨b,rfl⟩:=pos y hy;have h1:=h.1;have h2:=h.2;have:a≠b:=λe=>h2 (by rw[e]);rw[Int.toNat_natCast,Int.toNat_natCast];omega
       refine RM.ZlA asc (RM.UZ n ks) λx=>?_;rw[RM.Z7,mem_map];constructor
       ·rintro⟨y,hy,rfl⟩
        obtain⟨z,hz,rfl⟩:=(dm y).mp (pm.mem_iff.mp hy);rw[Int.toNat_natCast];rcases mem_append.mp hz with hz|hz
        ·obtain⟨c,hc,rfl⟩:=mem_map.mp hz
         exact⟨(RM.Y3 hf hc).2.2.1,c,hc,.inl rfl⟩
        ·obtain⟨c,hc,rfl⟩:=mem_map.mp hz
         exact⟨(RM.Y3 hf hc).2.2.2,c,hc,.inr rfl⟩
       ·rintro⟨_,c,hc,e⟩
        refine⟨(x:Int),pm.mem_iff.mpr ((dm _).mpr ⟨x,?_,rfl⟩),Int.toNat_natCast x⟩;rcases e with rfl|rfl
        ·exact mem_append_left _ (mem_map.mpr ⟨c,hc,rfl⟩)
        ·exact mem_append_right _ (mem_map.mpr ⟨c,hc,rfl⟩)
      rw[<- e1];unfold nv;rw[map_map];apply map_congr_left;intro k hk;obtain⟨x,_,rfl⟩:=(dm k).mp (pm.mem_iff.mp hk);rfl
     rw[en];exact k _ p (s4.trans (Zg hp)) (s4.free hp) Zb
end
structure Dms(H0 H:Hp)(a:Addr)(ts:List Addr)(ds:List (List Nat×Rotor.Known)):Prop where
 ls:H a=some (.lst (rv ts))
 len:ts.length=ds.length
 at_:∀(i:Nat) (t:Addr) (x:List Nat×Rotor.Known),ts[i]? = some t->ds[i]? = some x->∃b:Addr,H0 t=some (.tup [.ref b,.int (x.2.plain:Int),.int (x.2.coded:Int)])/\H0 b=some (.lst (nv x.1))
def Dms.dems{H0 H:Hp}{a:Addr}{ts:List Addr}{ds:List (List Nat×Rotor.Known)}(h:Dms H0 H a ts ds)(s:Same H0 H):ZeI H a ts ds:=
 ⟨h.ls,h.len,λi t x h1 h2=>by
  obtain⟨b,g1,g2⟩:=h.at_ i t x h1 h2;exact⟨b,s _ _ g1,s _ _ g2⟩⟩
def Dms.snoc{H0 H:Hp}{a t b:Addr}{ts:List Addr}{ds:List (List Nat×Rotor.Known)}{x:List Nat×Rotor.Known}(h:Dms H0 H a ts ds)(h1:H0 t=some (.tup [.ref b,.int (x.2.plain:Int),.int (x.2.coded:Int)]))(h2:H0 b=some (.lst (nv x.1))) :
  Dms H0 (L2.upd H a (.lst (rv ts++[V.ref t]))) a (ts++[t]) (ds++[x]):=by
 refine⟨by rw[Zb,VE],by rw[length_append,length_append,h.len];rfl,λi t' x' g1 g2=>?_⟩;rcases Vp g1 with g1|⟨rfl,rfl⟩
 ·have hi:i<ds.length:=by rw[<- h.len];exact(List.getElem?_eq_some_iff.mp g1).1
  rw[getElem?_append_left hi] at g2;exact h.at_ i t' x' g1 g2
 ·rw[h.len,getElem?_append_right (Nat.le_refl _),Nat.sub_self] at g2
  cases (Option.some.inj g2);exact⟨b,h1,h2⟩
def Ziv{T:List Nat}(asc:T.Pairwise (· < ·)){i x y:Nat}(hx:T[i]? = some x)(hy:y∈T)(hle:y<=x):y∈T.take (i+1):=by
 obtain⟨j,hj,rfl⟩:=getElem_of_mem hy;obtain⟨hi,rfl⟩:=List.getElem?_eq_some_iff.mp hx;have:j<=i:=by
  refine Classical.byContradiction λhn=>?_;have:=(List.pairwise_iff_getElem.mp asc) i j hi hj (by omega);omega
 exact List.mem_take_iff_getElem.mpr ⟨j,by omega,rfl⟩
def Zex{n:Nat}{f:Rotor.Known->Nat->Nat}{ks:List Rotor.Known}{B:List (List Nat)}{T:List Nat}{i x:Nat}(h:T[i]? = some x):RM.YJ n f ks B (T.take (i+1))=RM.YB n f ks (RM.YJ n f ks B (T.take i)) x:=by
 unfold RM.YJ;rw[take_add_one,h,foldl_append];rfl
def Zjy(a b:Nat):(if (b:Int) > (a:Int) then (b:Int) else (a:Int))=((max a b:Nat):Int):=by
 split<;>omega
section
variable{P:Program}{w:World}{K:Frag}{mg:Str->Option Value}{base:Heap}{W M L C:Addr}
def bhd(m:Rotor.Machine)(p:List Nat)(c:Rotor.Known):List Nat:=Rotor.seen (RM.pad m.n m.last) (RM.thr m (m.steps c.at_ p))
inductive Zl6(W M:Addr):List V->Hp->VK->XK->Prop|mk {vs H Q E} (a b:Addr) (m:Rotor.Machine) (p:List Nat) (ks k:List Rotor.Known):vs=[.ref a,.ref b]->ZY W M H a m (RM.Zr m.n p)->RM.Mach m->RM.St m p->m.mirror=true->Y7 H b ks->ks.Perm k->k.length<=12->Rotor.fits m.n k=true->(Rotor.toldOf m.n k).length<=4->(∀(H':Hp) (q:Addr) (rs':List Addr),Same H H'->H q=none->Rows H' q rs' (m.boards p k)->Q (.ref q) H')->Zl6 W M vs H Q E
def nAB:List Str:=["machine", "known", "demands", "boards", "letter", "due", "steps", "plain", "coded", "demand", "board"]
def Zng:Zl nAB ["machine", "known"] (Ze (top 49)):=fsc
set_option maxHeartbeats 1000000 in
def Zmq(G:Gk mg)(T:Tys K W M L)(D1:Def P w K mg base CX0 1 "letters_told" ["known"] Zaw)(D2:Def P w K mg base CX0 1 "with_letter_exchanged" ["boards", "letter"] Zck)(D3:Def P w K mg base CX0 1 "fits" ["board", "demands"] ZcI)
  (D4:Def P w K mg base CX0 3 "behind_first_board" ["machine", "steps"] (Za5 W M)) (F:At K mg "allowed_boards" (top 49) ["machine", "known"]):Def P w K mg base CX0 4 "allowed_boards" ["machine", "known"] (Zl6 W M):=by
 refine F.ok Zng (λvs H Q E h=>?_) (λf _ A _ s H vs Q E hr h=>?_)
 ·obtain⟨a,b,m,p,ks,k,rfl,_⟩:=h
  rfl
 ·obtain⟨a,b,m,p,ks,kk,rfl,hm,g,hs,em,⟨ts,hb,tl,ht⟩,pm,h12,hf,h4,k⟩:=h
  obtain⟨dx,af,al,aw,aF,as,h1,h2⟩:=id hm;have nd:=Zng.nd;have hr1:=hr.mono (show 1<=3 by decide);refine⟨_,Zc (Vt (i:=2) rfl nd rfl rfl (UI rfl rfl rfl rfl) (ZR (pv 1)) (own:=[("steps",6),("plain",7),("coded",8)]) (g:=Zbx K 3 (JB (Js 6) (JB (Js 7) (JB (Js 8) ZbA)))) (ZP (N:=nAB) (sc:=Ze (top 49)) (by decide +kernel))
    (λ_ _ _ _ _=>Yl rfl (ZA (Zo (i:=6) nd rfl) (ZA (Zo (i:=7) nd rfl) (ZA (Zo (i:=8) nd rfl) JI)))) (λ_ _ _ _ _=>Jf)
    (λ_ _ _ _ _=>Zle (Za (pc D4 hr rfl Zm (Za (pv 0) (Za (pv 6) Zd))) (Za (pv 7) (Za (pv 8) Zd)))))
   (Zc (Zk (i:=3) nd rfl (Zx (Za (ZD Zbc (Zx (Za (pk G.nt rfl) Zd)) (Zu (pv 0) rfl)) Zd)))
   (Zc (Z6 PassesOwn.never rfl (ZR (pc D1 hr1 rfl Zm (Za (pv 1) Zd))) (Zo (i:=4) nd rfl)
    (Zc (Zk (i:=5) nd rfl (YA rfl nd (ZR (pv 2)) (own:=[("demand",9)]) (ZP (N:=nAB) (sc:=Ze (top 49)) (by decide +kernel))
     (λ_ _ _ _ _=>Zo (i:=9) nd rfl) (λ_ _ _ _ _=>Dk (ZJ Vv (Zv (ZgK rfl) rfl G.max boot_max (Za (Ja (r:=ZgJ K) Zft (pv 9) Zq (λ_ _=>rfl)) (Za (Ja (r:=ZgJ K) Zft (pv 9) Zq (λ_ _=>rfl)) Zd))) (pv 4) (ZG _))) (λ_ _ _ _ _=>pv 9)))
    (Zh (Vt (i:=3) rfl nd rfl rfl (UI rfl rfl rfl rfl) (ZR (pc D2 hr1 rfl Zm (Za (pv 3) (Za (pv 4) Zd)))) (own:=[("board",10)]) (ZP (N:=nAB) (sc:=Ze (top 49)) (by decide +kernel))
     (λ_ _ _ _ _=>Zo (i:=10) nd rfl) (λ_ _ _ _ _=>Dk (Z1 (pc D3 hr1 rfl Zm (Za (pv 10) (Za (pv 5) Zd))))) (λ_ _ _ _ _=>pv 10)))))
   (Zh (Zn (Zv (Zew hr.units) rfl G.sorted boot_sorted (Za (pv 3) Zd)))))),?_⟩;have n16:=g.n16;have n0:=g.n0;have kl:ks.length=kk.length:=pm.length_eq;have hfs:Rotor.fits m.n ks=true:=by rw[RM.Yr pm];exact hf
  have eT:Rotor.toldOf m.n ks=Rotor.toldOf m.n kk:=RM.Um pm m.n;have T4:(Rotor.toldOf m.n ks).length<=4:=by rw[eT];exact h4
  have kat:∀{i:Nat} {t:Addr},ts[i]? = some t->∃c,ks[i]? = some c/\H t=some (.tup (nv (RM.Za4 c))):=λ{i t} hti=>by
   have hik:i<ks.length:=by rw[<- tl];exact(List.getElem?_eq_some_iff.mp hti).1
   exact⟨ks[i],getElem?_eq_getElem hik,ht i t _ hti (getElem?_eq_getElem hik)⟩
  refine⟨_,rfl,b,rfl,⟨_,SqL.of hb⟩,λD hD=>?_⟩;refine Ji (K:=K) (a:=b) (xs:=rv ts) (λi H'=>Same H H'/\∃us:List Addr,us.length=i/\H' D=some (.lst (rv us))/\∀(j:Nat) (t:Addr) (c:Rotor.Known),us[j]? = some t->ks[j]? = some c->∃r:Addr,t≠D/\r≠D/\H' t=some (.tup [.ref r,.int (c.plain:Int),.int (c.coded:Int)])/\H' r=some (.lst (nv (bhd m p c))))
   ⟨Zg hD,[],rfl,Zb,λj t c h _=>by simp at h⟩ (λi H' _ h=>SqL.of (h.1 _ _ hb)) ?_ ?_
  ·rintro i t H' hi ⟨sm,us,ul,hD',hU⟩
   obtain⟨t,hti,rfl⟩:=YO hi;obtain⟨c,hc,hT⟩:=kat hti;obtain⟨c1,c2,c3,c4⟩:=RM.Y3 hfs (mem_of_getElem? hc);refine⟨t,_,rfl,SqT.of (sm _ _ hT),rfl,_,_,rfl,_,_,rfl,_,_,rfl,rfl,rfl,lcY ⟨_,rfl,_,rfl,a,m,p,c.at_,rfl,hm.same sm,g,hs,by omega,λH1 r s1 nr hr1'=>⟨_,rfl,_,rfl,Zs (show 3<=1000000 by decide),λu hu=>?_⟩⟩⟩;have rD:r≠D:=YQ hD' nr;have uD:u≠D:=YQ (s1 _ _ hD') hu;have ru:r≠u:=Zi hr1' hu;have s2:=s1.trans (Zg (o:=.tup [.ref r,.int (c.plain:Int),.int (c.coded:Int)]) hu);refine⟨_,s2 _ _ hD',by rw[Zw];exact ZF (by have:=(List.getElem?_eq_some_iff.mp hti).1;omega),Same.upd (sm.trans s2) hD,us++[u],by rw[length_append,ul];rfl,by rw[Zb,VE],λj t' c' hj hc'=>?_⟩;rcases Vp hj with hj|⟨rfl,rfl⟩
   ·obtain⟨r',e1,e2,e3,e4⟩:=hU j t' c' hj hc'
    exact⟨r',e1,e2,by rw[Zj e1];exact s2 _ _ e3,by rw[Zj e2];exact s2 _ _ e4⟩
   ·rw[ul,hc] at hc'
    cases hc';exact⟨r,uD,rD,by rw[Zj uD,Zb],by rw[Zj rD,Zj ru];exact hr1'⟩
  ·rintro H2 ⟨s2,us,ul,hD2,hU⟩
   rw[Zw] at ul;have dm:Dms H2 H2 D us (ks.map λc=>(bhd m p c,c)):=by
    refine⟨hD2,by rw[length_map,ul,tl],λi t x h1 h2=>?_⟩;rw[getElem?_map] at h2;cases ec:ks[i]? with
    |none=>rw[ec] at h2;cases h2
    |some c=>
     rw[ec] at h2;cases (Option.some.inj h2);obtain⟨r,_,_,e3,e4⟩:=hU i t c h1 ec;exact⟨r,e3,e4⟩
   refine⟨Zs (show 1<=1000000 by decide),λz hz=>?_⟩;have s3:=s2.trans (Zg (o:=.lst [V.int 255]) hz);refine⟨_,rfl,a,_,_,_,_,rfl,s3 _ _ h1,T.m,T.mn _ (by decide),rfl,z,_,_,rfl,rfl,Zb,by omega,by omega,?_,λy hy=>⟨Zs (show 1<=1000000 by decide),λbs hbs=>?_⟩⟩
   ·show 1*((m.n:Int)).toNat<=sizeLine
    exact Zs (by omega)
   rw[Int.toNat_natCast,show [V.int 255]=[V.int ((255:Nat):Int)] from rfl,Zfg] at *;have y1:=Zg (o:=.lst [V.int ((255:Nat):Int)]) hz;have y2:=Zg (o:=.lst (nv (List.replicate m.n 255))) hy;have y3:=Zg (o:=.lst [V.ref y]) hbs;have yb:y≠bs:=Zi Zb hbs;have s4:Same H2 _:=(y1.trans y2).trans y3;have s04:=s2.trans s4;have kn:Y7 H b ks:=⟨ts,hb,tl,ht⟩;refine⟨_,rfl,b,m.n,ks,rfl,kn.same s04,by omega,hfs,λH3 tL s5 nT hT3=>⟨tL,rfl,⟨_,SqL.of hT3⟩,?_⟩⟩;have s25:=s4.trans s5;have s05:=s2.trans s25;have Tasc:=RM.UZ m.n ks;have Tlt:∀x,x∈Rotor.toldOf m.n ks->x<m.n:=λx hx=>(RM.Z7.mp hx).1;have Tmem:∀c,c∈ks->c.plain∈Rotor.toldOf m.n ks/\c.coded∈Rotor.toldOf m.n ks:=λc hc=>by
    obtain⟨_,_,q1,q2⟩:=RM.Y3 hfs hc;exact⟨RM.Z7.mpr ⟨q1,c,hc,.inl rfl⟩,RM.Z7.mpr ⟨q2,c,hc,.inr rfl⟩⟩
   have fin:∀(bs:Addr) (rs:List Addr) (H':Hp),Same H H'->Rows H' bs rs (RM.YJ m.n (RM.Jb m p) ks [List.replicate m.n Rotor.NONE] (Rotor.toldOf m.n ks))->ZdL K [V.ref bs] H' Q:=λbs rs H' sm hR=>by
    have rat:∀t,t∈rs->H' t=some (.lst (nv (Yz H' t))):=λt h=>by
     obtain⟨j,hj,rfl⟩:=getElem_of_mem h;obtain⟨d,_,_,e⟩:=hR.get (getElem?_eq_getElem hj);rw[ZbQ e];exact e
    have em2:rs.map (Yz H')=RM.YJ m.n (RM.Jb m p) ks [List.replicate m.n Rotor.NONE] (Rotor.toldOf m.n ks):=by
     apply ext_getElem?;intro j;rw[getElem?_map];by_cases hj:j<rs.length
     ·obtain⟨d,h1,_,e⟩:=hR.get (getElem?_eq_getElem hj)
      rw[getElem?_eq_getElem hj,h1];show some (Yz H' rs[j])=_;rw[ZbQ e]
     ·rw[getElem?_eq_none (by omega),getElem?_eq_none (by rw[<- hR.len];omega)]
      rfl
    refine⟨bs,rs,Yz H',rfl,SqL.of hR.ls,rat,λrs' q pm2 st hq=>?_⟩;have eB:rs'.map (Yz H')=m.boards p kk:=by
     refine RM.Zg0 g hs em pm hf ?_ ?_
     ·rw[<- em2]
      exact pm2.map _
     ·rw[pairwise_map]
      exact st
    refine k _ q rs' (sm.trans (Zg hq)) (sm.free hq) ⟨Zb,by rw[<- eB,length_map],λi r d h1 h2=>?_⟩;rw[<- eB,getElem?_map,h1] at h2;have e:=rat r (pm2.mem_iff.mp (mem_of_getElem? h1));rw[show Yz H' r=d from Option.some.inj h2] at e;exact⟨Zi e hq,Zg hq _ _ e⟩
   generalize hT0:Rotor.toldOf m.n ks=TT at *;refine JD (K:=K) (a:=tL) (xs:=nv TT) (λi σ H'=>∃(bs:Addr) (rs:List Addr) (v4 v5:Option V),σ=[some (.ref a),some (.ref b),some (.ref D),some (.ref bs),v4,v5,none,none,none,none,none]/\Same H3 H' /\
     Rows H' bs rs (RM.YJ m.n (RM.Jb m p) ks [List.replicate m.n Rotor.NONE] (TT.take i))/\∀d,d∈RM.YJ m.n (RM.Jb m p) ks [List.replicate m.n Rotor.NONE] (TT.take i)->RM.Brd m.n d/\∀x,x∈TT.take i->at_ d x≠Rotor.NONE)
    ⟨bs,[y],none,none,rfl,Same.refl _,⟨s5 _ _ Zb,rfl,λi r d h1 h2=>?_⟩,λd hd=>?_⟩ (λi σ H' _ ⟨_,_,_,_,_,sm,_⟩=>SqL.of (sm _ _ hT3)) ?_ ?_
   ·cases i with
    |zero=>
     cases (Option.some.inj h1);cases (Option.some.inj h2);exact⟨yb,s5 _ _ (by rw[Zj yb,Zb];rfl)⟩
    |succ i=>simp at h1
   ·rw[mem_singleton.mp hd]
    exact⟨RM.Up m.n,λx hx=>absurd hx (by simp)⟩
   ·rintro i x σ H' hi ⟨bs,rs,v4,v5,rfl,sm,hR,hB⟩
    obtain⟨x,hx,rfl⟩:=JA hi;have xT:=mem_of_getElem? hx;have xn:=Tlt x xT;have i4:i<=3:=by have:=(List.getElem?_eq_some_iff.mp hx).1;omega
    have Bl:(RM.YJ m.n (RM.Jb m p) ks [List.replicate m.n Rotor.NONE] (TT.take i)).length<=4096:=by
     refine Nat.le_trans (RM.Dh (show 1<=m.n by omega) _ _ _ _) ?_;rw[length_take,Nat.min_eq_left (by have:=(List.getElem?_eq_some_iff.mp hx).1;omega)];refine Nat.le_trans (Nat.mul_le_mul (Nat.le_trans (Nat.pow_le_pow_left n16 _) (Nat.pow_le_pow_right (by decide) i4)) (Nat.le_refl 1)) (by decide)
    have eS:=Zex (n:=m.n) (f:=RM.Jb m p) (ks:=ks) (B:=[List.replicate m.n Rotor.NONE]) hx;generalize RM.YJ m.n (RM.Jb m p) ks [List.replicate m.n Rotor.NONE] (TT.take i)=B at *;have s2':=s25.trans sm;have s0':=s05.trans sm;have hDD:=s2' _ _ hD2;refine⟨_,rfl,D,rfl,⟨_,SqL.of hDD⟩,λE hE=>?_⟩;have hDk:∀{j:Nat} {t:Addr},us[j]? = some t->∃c r,ks[j]? = some c/\H2 t=some (.tup [.ref r,.int (c.plain:Int),.int (c.coded:Int)])/\H2 r=some (.lst (nv (bhd m p c))):=λ{j t} hj=>by
     have hjk:j<ks.length:=by rw[<- tl,<- ul];exact(List.getElem?_eq_some_iff.mp hj).1
     obtain⟨r,_,_,e3,e4⟩:=hU j t _ hj (getElem?_eq_getElem hjk);exact⟨ks[j],r,getElem?_eq_getElem hjk,e3,e4⟩
    refine Ji (K:=K) (a:=D) (xs:=rv us) (λj H4=>Same H' H4/\∃vs:List Addr,Dms H2 H4 E vs (((ks.take j).filter λc=>max c.plain c.coded==x).map λc=>(bhd m p c,c)))
     ⟨Zg hE,[],⟨Zb,rfl,λi t x h1 _=>by simp at h1⟩⟩ (λj H4 _ h=>SqL.of (h.1 _ _ hDD)) ?_ ?_
    ·rintro j t H4 hj ⟨sm4,vs,hV⟩
     obtain⟨t,htj,rfl⟩:=YO hj;obtain⟨c,r,hc,e3,e4⟩:=hDk htj;have e3':=sm4 _ _ (s2' _ _ e3);refine⟨rfl,_,rfl,t,_,_,_,rfl,rfl,SqT.of e3',rfl,_,rfl,t,_,_,_,rfl,rfl,SqT.of e3',rfl,_,_,rfl,_,rfl,rfl,_,rfl,?_⟩;rw[Zjy,Yb];cases ep:(max c.plain c.coded==x) with
     |true=>
      rw[show decide (max c.plain c.coded=x)=true from decide_eq_true (eq_of_beq ep)];have:=hV.snoc (x:=(bhd m p c,c)) e3 e4;refine JT ⟨_,rfl,_,hV.ls,?_,Same.upd sm4 hE,vs++[t],?_⟩
      ·rw[Zw,hV.len,length_map]
       have:=length_filter_le (λc:Rotor.Known=>max c.plain c.coded==x) (ks.take j);rw[length_take] at this;exact ZF (by omega)
      ·rw[Jr hc ep,map_append]
       exact this
     |false=>
      rw[show decide (max c.plain c.coded=x)=false from decide_eq_false (ne_of_beq_false ep)];refine Yh ⟨sm4,vs,?_⟩;rw[Jq hc ep];exact hV
    ·rintro H4 ⟨sm4,vs,hV⟩
     rw[Zw,ul,tl,take_length] at hV;have hR4:=hR.same sm4;refine⟨_,rfl,_,rfl,bs,x,m.n,rs,B,rfl,hR4,λd hd=>(hB d hd).1.len,xn,n16,Bl,λH5 q rs5 s5' nq hR5=>⟨q,rfl,⟨_,SqL.of hR5.ls⟩,λF5 hF5=>?_⟩⟩;have hV5:=hV.dems (s2'.trans sm4);have hV5:=hV5.same s5';have hB5:∀d,d∈B.flatMap (RM.J2 m.n x)->RM.Brd m.n d/\∀z,z∈TT.take (i+1)->at_ d z≠Rotor.NONE:=λd hd=>by
      obtain⟨b0,hb0,hd⟩:=mem_flatMap.mp hd;obtain⟨g1,g2⟩:=hB b0 hb0;obtain⟨o1,o2,o3⟩:=RM.Zdc n16 xn g1 hd;refine⟨o1,λz hz=>?_⟩;rw[take_add_one,hx] at hz;rcases mem_append.mp hz with hz|hz
      ·rw[o2 z (Tlt z (mem_of_mem_take hz)) (g2 z hz)]
       exact g2 z hz
      ·have hz:z∈[x]:=hz
       rw[mem_singleton.mp hz];exact o3
     have B5l:(B.flatMap (RM.J2 m.n x)).length<=65536:=by
      refine Nat.le_trans (RM.Uu (show 1<=m.n by omega) (RM.Jb m p) ks B x).2 (Nat.le_trans (Nat.mul_le_mul n16 Bl) (by decide))
     have eF:∀d:List Nat,(((ks.filter λc=>max c.plain c.coded==x).map λc=>(bhd m p c,c)).all λz=>at_ z.1 (at_ d z.2.plain)==at_ d z.2.coded)=(RM.ZaE ks x).all λc=>RM.dem (RM.Jb m p) c d:=λd=>by
      rw[all_map];rfl
     have eS2:RM.YB m.n (RM.Jb m p) ks B x=(B.flatMap (RM.J2 m.n x)).filter λd=>(RM.ZaE ks x).all λc=>RM.dem (RM.Jb m p) c d:=rfl;generalize B.flatMap (RM.J2 m.n x)=B5 at *;refine Ji (K:=K) (a:=q) (xs:=rv rs5) (λj H6=>Same H5 H6/\∃rs6:List Addr,Rows H6 F5 rs6 ((B5.take j).filter λd=>(RM.ZaE ks x).all λc=>RM.dem (RM.Jb m p) c d))
      ⟨Zg hF5,[],⟨Zb,rfl,λi r d h1 _=>by simp at h1⟩⟩ (λj H6 _ h=>SqL.of (h.1 _ _ hR5.ls)) ?_ ?_
     ·rintro j r H6 hj ⟨sm6,rs6,hR6⟩
      obtain⟨r,hrj,rfl⟩:=YO hj;obtain⟨d,hd,rq,hrd⟩:=hR5.get hrj;obtain⟨bd,bn⟩:=hB5 d (mem_of_getElem? hd);refine⟨rfl,_,rfl,_,rfl,r,E,d,vs,_,rfl,sm6 _ _ hrd,hV5.same sm6,?_,?_,λH7 s7=>?_⟩
      ·rw[length_map]
       exact Nat.le_trans (length_filter_le _ _) (by omega)
      ·intro z hz
       obtain⟨c,hc,rfl⟩:=mem_map.mp hz;obtain⟨c1,c2⟩:=mem_filter.mp hc;have emx:max c.plain c.coded=x:=eq_of_beq c2;obtain⟨_,_,q1,q2⟩:=RM.Y3 hfs c1;obtain⟨t1,t2⟩:=Tmem c c1;refine⟨by rw[bd.len];exact q1,by rw[bd.len];exact q2,?_⟩;have ne:=bn c.plain (Ziv Tasc hx t1 (by omega));have lt:=(bd.val _ q1).resolve_right ne;show at_ d c.plain<(bhd m p c).length;unfold bhd;rw[(ZbZ (RM.Ze7 g (hs.steps g.toGood c.at_)) n16).len];omega
      ·rw[eF]
       refine⟨_,rfl,?_⟩;have hR7:=hR6.same s7;cases ep:((RM.ZaE ks x).all λc=>RM.dem (RM.Jb m p) c d) with
       |true=>
        refine JT ⟨_,rfl,_,hR7.ls,?_,Same.upd (sm6.trans s7) hF5,rs6++[r],?_⟩
        ·rw[Zw,hR7.len]
         have:=length_filter_le (λd=>(RM.ZaE ks x).all λc=>RM.dem (RM.Jb m p) c d) (B5.take j);rw[length_take] at this;exact ZF (by omega)
        ·rw[Jr hd ep]
         exact hR7.snoc (Zi hrd hF5) (s7 _ _ (sm6 _ _ hrd))
       |false=>
        refine Yh ⟨sm6.trans s7,rs6,?_⟩;rw[Jq hd ep];exact hR7
     ·rintro H6 ⟨sm6,rs6,hR6⟩
      rw[Zw,hR5.len,take_length,<- eS2] at hR6;refine⟨F5,rs6,_,_,rfl,((sm.trans sm4).trans s5').trans sm6,?_,λd hd=>?_⟩
      ·rw[eS]
       exact hR6
      ·rw[eS,eS2] at hd
       exact hB5 d (mem_filter.mp hd).1
   ·rintro σ H' ⟨bs,rs,v4,v5,rfl,sm,hR,_⟩
    rw[Zf,take_length] at hR;exact⟨_,rfl,fin bs rs H' (s05.trans sm) hR⟩
end
structure DZ(k:Nat)(A:Around):Prop where
 dp:A.depth+3*k+5<recursionLimit
 un:A.units+16*k+200<cLine
def Znb{k:Nat}{A:Around}(r:Room k A):DZ k A:=⟨r.dp,r.un⟩
theorem DZ.deeper{k:Nat}{A:Around}(r:DZ (k+1) A)(env:Env):DZ k (A.deeper env):=
 ⟨by have:=r.dp;show A.depth+1+3*k+5<_;omega,by have:=r.un;show A.units+3+16*k+200<_;omega⟩
structure ZfR(P:Program)(w:World)(K:Frag)(mg:Str->Option Value)(base:Heap)(CX:CXT)(k:Nat)(f:Addr)(fd:FuncData)(ps:List Str)(sp:Sp):Prop where
 len:∀vs H Q E,sp vs H Q E->vs.length=ps.length
 run:∀(A:Around) (outer:List Env) (s:Shared) (H:Hp) (args:Args) (us:List Value) (vs:List V) (Q:VK) (E:XK),DZ k A->Zby P w K mg base A outer s H->BindsTo s fd args (ps.zip us)->Zy vs us->sp vs H Q E ->
  codeAny (model P w) A (.call (.ref f) args) (CR CX outer P w H s Q E) s
def ZfR.calm{P:Program}{w:World}{K:Frag}{mg:Str->Option Value}{base:Heap}{CX:CXT}{k:Nat}{f:Addr}{fd:FuncData}{ps:List Str}{sp:Sp}(F:ZfR P w K mg base CX k f fd ps sp):YX P w K mg base CX k f fd ps sp:=
 ⟨F.len,λA outer s H args us vs Q E hr=>F.run A outer s H args us vs Q E (Znb hr)⟩
abbrev cxU(CX:CXT)(P:Program)(w:World)(K:Frag)(mg:Str->Option Value)(base:Heap)(N:List Str)(qual:Str)(scope:Scope)(f:Addr)(cd:Value)(A:Around)(outer:List Env)(s:Shared)(H:Hp)(E:XK):Cx:=
 {cxOf CX P w K mg base N qual scope f cd A outer s H E with calm:=false}
def ZeQ{CX:CXT}{P:Program}{w:World}{K:Frag}{mg:Str->Option Value}{base:Heap}{N ps:List Str}{qual:Str}{scope:Scope}{f:Addr}{cd:Value}{A:Around}{outer:List Env}{s s1:Shared}{H:Hp}{E:XK}{us:List Value}{vs:List V}
  (S:Zl N ps scope) (e0:Zby P w K mg base A outer s H) (hl:vs.length=ps.length) (r:Zy vs us)
  (x:InCallC s s.heap.objs.size (bindL (envOfC qual scope s.heap.objs.size f cd).kindOf (ps.zip us) λ_=>none) (cellsFrom (s.heap.objs.size+1) scope.names []) (bindC (envOfC qual scope s.heap.objs.size f cd).kindOf (ps.zip us) λ_=>none) s1) :
  Inv (cxU CX P w K mg base N qual scope f cd A outer s H E) [] (start N vs) H s1:=by
 have I:=Zb5 (CX:=CX) (A:={A with handled:=none}) (E:=E) S rfl ⟨e0.frames,e0.mod,e0.bs,e0.bsz,e0.funs,e0.frf,e0.hok,e0.bare⟩ hl r x;exact⟨⟨I.ok.mod,I.ok.kind,I.ok.glob,I.ok.blt,I.ok.above,I.ok.inj,I.ok.has,I.ok.cab,(λh=>nomatch h),Around.frames_deeper e0.frames,I.ok.stk,I.ok.exf,I.ok.bs,I.ok.bsz,I.ok.noex,I.ok.exfs,I.ok.funs,I.ok.frf⟩,
  I.os,I.bare,I.base,I.loc,I.cell,I.free,I.freeC,I.pin,I.hok,I.len⟩
def Zlf{CX:CXT}{P:Program}{w:World}{K:Frag}{mg:Str->Option Value}{base:Heap}{k:Nat}{f:Addr}{name qual:Str}{params:Arguments}{body:List Stmt}{scope:Scope}{dV kV doc pm cdv ct oc:Value}{an od:Option Addr}
  {osl:Array (Option Value)} {N ps:List Str} {sp:Sp} (lk:K.lookup f=some ⟨oc,od,.func (fnOf name qual params body scope dV kV doc pm an cdv ct),osl⟩) (hcd:codeIn K cdv qual=true) (S:Zl N ps scope)
  (len:∀vs H Q E,sp vs H Q E->vs.length=ps.length)
  (hbody:∀(A:Around) (outer:List Env) (s:Shared) (H:Hp) (vs:List V) (Q:VK) (E:XK),DZ k (A.deeper (envOfC qual scope s.heap.objs.size f cdv))->sp vs H Q E ->
   ∃t,PSs (cxU CX P w K mg base N qual scope f cdv A outer s H E) body t/\t {nx:=λ_ H'=>Q .non H',rt:=Q} (start N vs) H) :
  ZfR P w K mg base CX (k+1) f (fnOf name qual params body scope dV kV doc pm an cdv ct) ps sp:=by
 refine⟨len,λA outer s H args us vs Q E hr e0 hb r hsp=>?_⟩;have hl:=len _ _ _ _ hsp;have KX:K.In s.heap:=e0.mod.kin.keeps λb o e=>(e0.bs b o e).1;have lim:s.heap.NoLimit:=e0.mod.nolimit.keeps λb o e=>(e0.bs b o e).1;have hkind:∀y∈ps.zip us,scope.names.lookup y.1=some .local\/(scope.names.lookup y.1=some .cell/\((cellsFrom (s.heap.objs.size+1) scope.names []).lookup y.1).isSome=true):=λ⟨n,v⟩ hy=>by
  rcases S.par n (of_mem_zip hy).1 with q|q
  ·exact .inl q
  ·exact .inr ⟨q,PySem.W.cellsFrom_some _ _ _ (.inl q)⟩
 refine codeAny_call_function (by have:=hr.dp;omega) (KX _ _ lk) rfl S.co S.gen rfl (PySem.W.codeRec_of KX hcd) (hb _ _ _ _ ?_);refine wpAny_newFunctionEnv_cells S.kind hkind λenv he s1 x=>?_;subst he;refine⟨lim.keeps x.toInCall.keep,codeAny_func ?_⟩;obtain⟨t,ht,hq⟩:=hbody A outer s H vs Q E (hr.deeper _) hsp;have I:Inv (cxU CX P w K mg base N qual scope f cdv A outer s H E) [] (start N vs) H s1:=ZeQ S e0 hl r x;refine wpAny_mono (ht [] s1 (start N vs) H _ I hq) (λfl s' hs=>?_) λe s' hs=>hs;have fin:∀{σ':L2.St} {H':Hp} {v:V} {u:Value},Inv (cxU CX P w K mg base N qual scope f cdv A outer s H E) [] σ' H' s'->ZL v u->Q v H'->CE outer P w H s Q u s':=
  λ{σ' H' v u} J rv q=>⟨v,H',J.os,J.bare,J.base,J.hok,rv,q⟩;cases fl with
 |ret u=>
  obtain⟨v,σ',H',J,rv,q⟩:=hs;exact fin J rv q
 |next=>
  obtain⟨σ',H',J,q⟩:=hs;exact fin (v:=V.non) (u:=Value.none) J rfl q
 |brk=>
  obtain⟨_,_,_,q⟩:=hs;exact False.elim q
 |cont=>
  obtain⟨_,_,_,q⟩:=hs;exact False.elim q
structure ZdD(P:Program)(w:World)(K:Frag)(mg:Str->Option Value)(base:Heap)(k:Nat)(x:Str)(ps:List Str)(sp:Sp):Prop where
 ex:∃(f:Addr) (fd:FuncData),ZfR P w K mg base CX0 k f fd ps sp/\mg x=some (.ref f)/\keepIn K (.ref f)=true/\JZ K fd ps []
section
variable{P:Program}{w:World}{K:Frag}{mg:Str->Option Value}{base:Heap}{x:Str}{st:Stmt}{N ps:List Str}{k:Nat}{sp:Sp}
theorem ZdD.calm(D:ZdD P w K mg base k x ps sp):Def P w K mg base CX0 k x ps sp:=by
 obtain⟨f,fd,h1,h2⟩:=D.ex;exact⟨f,fd,h1.calm,h2⟩
def At.okU(F:At K mg x st ps)(S:Zl N ps (Ze st))(len:∀vs H Q E,sp vs H Q E->vs.length=ps.length)
  (hbody:∀(f:Addr) (cdv:Value) (A:Around) (outer:List Env) (s:Shared) (H:Hp) (vs:List V) (Q:VK) (E:XK),DZ k (A.deeper (envOfC x (Ze st) s.heap.objs.size f cdv))->sp vs H Q E ->
   ∃t,PSs (cxU CX0 P w K mg base N x (Ze st) f cdv A outer s H E).nox (ZV st) t/\t {nx:=λ_ H'=>Q .non H',rt:=Q} (start N vs) H):ZdD P w K mg base (k+1) x ps sp:=by
 obtain⟨f,fd,h1,h2,h3⟩:=F.ex;obtain⟨oc,od,kV,doc,pm,an,cdv,ct,osl,rfl,lk,hcd⟩:=h1.ex;refine⟨f,_,Zlf lk hcd S len λA outer s H vs Q E hr hsp=>?_,h2,h1.kp,h3⟩;obtain⟨t,h,q⟩:=hbody f cdv A outer s H vs Q E hr hsp;exact⟨t,h.nox,q⟩
end
section
variable{X:Cx}{CX:CXT}{k:Nat}{x m:Str}{C:Addr}{ps:List Str}{sp:Sp}{E:XK}{e o fe:Expr}{es:List Expr}{t:TA}{ta tf:TE}{p pos apos:Pos}
def pcU(D:ZdD X.prog X.w X.K X.mg X.base k x ps sp)(hr:DZ k X.A)(hg:Gl X x)(ha:PA X (e::es) t)(hdb:(x==("__debug__" : Str))=false:=by decide)
  (he:starEach (e::es) X.env=(false,eval e X.env)::starEach es X.env:=by rfl) (hpl:(backTo pos (starEach es X.env)).any (·.1)=false:=by rfl):PE X (.Call (.Name x p) (e::es) [] pos) (ZaD sp [] E0 t):=by
 obtain⟨f,fd,F,hm,hk,hb⟩:=D.ex;intro pins s σ H Q I h;refine wpAny_Call_Name_kw (YZ I hg hm ?_ hdb);refine PySem.W.callWith_K (h₀:=X.base) I.ok.mod.kin hk (thn (ha pos pins s σ H _ I h) λus s1 ⟨vs,H1,I1,r,q⟩=>⟨I1.kIn,?_⟩) he hpl;have q':sp vs H1 Q E0:=by
  have q:sp (vs++[]) H1 Q E0:=q;rw[append_nil] at q;exact q
 have hl:us.length=ps.length:=by rw[<- r.length];exact F.len _ _ _ _ q'
 have hb':BindsTo s1 fd ⟨us,[]⟩ (ps.zip us):=by
  have:=hb s1 us I1.kIn (by rw[append_nil];exact hl);rw[append_nil] at this;exact this
 refine wpAny_call (codeAny_mono (F.run X.A X.stack s1 H1 ⟨us,[]⟩ us vs Q E0 hr I1.env0 hb' r q') λr _ hq=>?_);cases r with
 |error e=>exact False.elim hq
 |ok fl=>
  cases fl with
  |ret u=>exact I1.after hq
  |next=>exact False.elim hq
  |brk=>exact False.elim hq
  |cont=>exact False.elim hq
def pm0{pl:Sem Bool}(D:DK X.prog X.w X.K X.mg X.base CX k C m ps sp)(c:Cls X.K C)(hr:Room k X.A)(hx:Yi CX X E)(he:PE X o ta)
  (ht:eval (.Call (.Attribute o m apos) [] [] pos) X.env=(do
   let ov <- eval o X.env
   standAt apos.atName
   let (f,first) <- holding [ov] (getMethod ov m pl)
   callWith pos f first (backTo pos (starEach [] X.env)) (backToKw pos (keywordEach [] X.env))):=by rfl):PE X (.Call (.Attribute o m apos) [] [] pos) (Zb1 C m sp [] E ta Uq):=by
 obtain⟨f,fd,h1,h2,h3⟩:=D.ex;exact ZhS he c h2 h1 hr h3 .nil hx ht
def Zc8(P:Program)(w:World)(K:Frag)(mg:Str->Option Value)(base:Heap)(CX:CXT)(k:Nat)(f:Addr)(ps:List Str)(sp:Sp):Prop:=∃fd:FuncData,YX P w K mg base CX k f fd ps sp/\keepIn K (.ref f)=true/\JZ K fd ps []
def ZiV(hf:PE X fe tf)(hr:Room k X.A)(hx:Yi CX X E)(ha:PA X (e::es) t)(hc:eval (.Call fe (e::es) [] pos) X.env=(do callWith pos (<- eval fe X.env) [] (backTo pos (starEach (e::es) X.env)) (backToKw pos (keywordEach [] X.env))):=by rfl)
  (he:starEach (e::es) X.env=(false,eval e X.env)::starEach es X.env:=by rfl) (hpl:(backTo pos (starEach es X.env)).any (·.1)=false:=by rfl) :
  PE X (.Call fe (e::es) [] pos) (λσ H Q=>tf σ H λv H1=>∃(f:Addr) (ps:List Str) (sp:Sp),v = .ref f/\Zc8 X.prog X.w X.K X.mg X.base CX k f ps sp/\t σ H1 λvs H2=>sp vs H2 Q E):=by
 intro pins s σ H Q I h;refine Call_ (thn (hf pins s σ H _ I h) λu s1 ⟨x,H1,I1,rx,f,ps,sp,ex,⟨fd,F,hk,hb⟩,q⟩=>?_) hc;subst ex;obtain rfl:u=Value.ref f:=rx;refine PySem.W.callWith_K (h₀:=X.base) I.ok.mod.kin hk (thn (ha pos pins s1 σ H1 _ I1 q) λus s2 ⟨vs,H2,I2,r,q2⟩=>⟨I2.kIn,?_⟩) he hpl;exact ZeX (dvs:=[]) (ds:=[]) F hr hb .nil hx I2 r (by rw[append_nil];exact q2)
end
structure Gn(mg:Str->Option Value):Prop extends Gk mg where
 c1:∃t,mg "NOT_AS_SAID" = some (.int (-1) t)
 c2:∃t,mg "TOO_MUCH" = some (.int (-2) t)
 c5:∃t,mg "DOES_NOT_SEND_BACK" = some (.int (-5) t)
 c6:∃t,mg "NOT_A_MACHINE" = some (.int (-6) t)
 c8:∃t,mg "NO_MACHINE_YET" = some (.int (-8) t)
 read:∃t,mg "MOST_BYTES_READ" = some (.int 256 t)
 far:∃t,mg "MOST_STEPS_DONE" = some (.int 10000 t)
 text:∃t,mg "MOST_BYTES_OF_TEXT" = some (.int 1024 t)
 per:∃t,mg "MOST_OF_PERIOD" = some (.int 2000 t)
 tried:∃t,mg "MOST_STANDS_TRIED" = some (.int 4096 t)
 told:∃t,mg "MOST_LETTERS_TOLD" = some (.int 4 t)
 once:∃t,mg "MOST_TOLD_AT_ONCE" = some (.int 50 t)
def YS(c:Addr)(t:Nat)(mv:V):List (Str×V):=[("calls",.ref c),("taken",.int (t:Int)),("machine",mv)]
def ZlU{K:Frag}{H:Hp}{a c C dx:Addr}{fs:List (Str×V)}{xs:List V}{o:HO}(h:SqL K H c xs)(ha:H a=some (.ins C dx fs)):SqL K (L2.upd H a o) c xs:=by
 rcases h with(h|⟨u,h⟩)|h
 ·exact .inl (.inl (by rw[Zj (JE h ha (λq=>nomatch q))];exact h))
 ·exact .inl (.inr ⟨u,by rw[Zj (JE h ha (λq=>nomatch q))];exact h⟩)
 ·exact .inr h
section
variable{P:Program}{w:World}{K:Frag}{mg:Str->Option Value}{base:Heap}{W M L C CN:Addr}
inductive Ze8(L:Addr):List V->Hp->VK->XK->Prop|mk {vs H Q E} (x dx c:Addr):vs=[.ref x,.ref c]->H x=some (.ins L dx [])->Q .non (upd H x (.ins L dx (YS c 0 .non)))->Ze8 L vs H Q E
def Zlz:Zl ["self", "calls"] ["self", "calls"] (Ze (Ye 79 0)):=fsc
def Zkj(T:Tys K W M L)(F:CAt K mg "Line" L "Line.__init__" (Ye 79 0) ["self", "calls"]):ZdQ P w K mg base CX0 1 "Line" L ["self", "calls"] (Ze8 L):=by
 refine F.ok Zlz (λvs H Q E h=>?_) (λf _ A _ s H vs Q E _ h=>?_)
 ·obtain⟨x,dx,c,rfl,_⟩:=h
  rfl
 ·obtain⟨x,dx,c,rfl,hx,k⟩:=h
  refine⟨_,Zc (Jm (pv 0) (pv 1) rfl) (Zc (Jm (pv 0) Zq rfl) (Zh (Jm (pv 0) Zim rfl))),?_⟩;refine⟨_,rfl,_,rfl,x,_,_,_,rfl,hx,T.l,T.ln _ (by decide),by decide,?_⟩;refine⟨_,rfl,x,_,_,_,rfl,Zb,T.l,T.ln _ (by decide),V3 1 rfl,?_⟩;refine⟨_,rfl,x,_,_,_,rfl,Zb,T.l,T.ln _ (by decide),V3 2 rfl,?_⟩;rw[Jj,Jj];exact k
inductive Zfn(K:Frag)(L:Addr):List V->Hp->VK->XK->Prop|mk {vs H Q E} (ln dx c:Addr) (t:Nat) (mv:V) (l:List Nat):vs=[.ref ln]->H ln=some (.ins L dx (YS c t mv))->SqL K H c (nv l)->Q (.bl (decide (t<l.length))) H->Zfn K L vs H Q E
def Zma:Zl ["self"] ["self"] (Ze (Ye 79 1)):=fsc
def ZjG(G:Gn mg)(T:Tys K W M L)(F:MAt K L "has_more" "Line.has_more" (Ye 79 1) ["self"]):DK P w K mg base CX0 1 L "has_more" ["self"] (Zfn K L):=by
 refine F.ok Zma (λvs H Q E h=>?_) (λf _ A _ s H vs Q E _ h=>?_)
 ·obtain⟨ln,dx,c,t,mv,l,rfl,_⟩:=h
  rfl
 ·obtain⟨ln,dx,c,t,mv,l,rfl,h1,hc,k⟩:=h
  refine⟨_,Zh (Zn (JG Za7 (Zu (pv 0) rfl) (Zv Zp rfl G.len PySem.boot_len (Za (Zu (pv 0) rfl) Zd)) (ZG _))),?_⟩;refine⟨_,rfl,ln,_,_,_,_,rfl,h1,T.l,T.ln _ (by decide),rfl,_,rfl,ln,_,_,_,_,rfl,h1,T.l,T.ln _ (by decide),rfl,c,_,rfl,.inl hc,_,_,rfl,rfl,?_⟩;have e:decide ((t:Int)<((nv l).length:Int))=decide (t<l.length):=by
   rw[Zf,Bool.eq_iff_iff,decide_eq_true_eq,decide_eq_true_eq];omega
  show Q (V.bl (decide ((t:Int)<((nv l).length:Int)))) H;rw[e];exact k
inductive VS(K:Frag)(L:Addr):List V->Hp->VK->XK->Prop|mk {vs H Q E} (ln dx c:Addr) (t:Nat) (mv:V) (l:List Nat) (x:Nat):vs=[.ref ln]->H ln=some (.ins L dx (YS c t mv))->SqL K H c (nv l)->l[t]? = some x->Q (.int (x:Int)) (upd H ln (.ins L dx (YS c (t+1) mv)))->VS K L vs H Q E
def Zfz:Zl ["self", "number"] ["self"] (Ze (Ye 79 2)):=fsc
def ZhG(T:Tys K W M L)(F:MAt K L "take_number" "Line.take_number" (Ye 79 2) ["self"]):DK P w K mg base CX0 1 L "take_number" ["self"] (VS K L):=by
 refine F.ok Zfz (λvs H Q E h=>?_) (λf _ A _ s H vs Q E _ h=>?_)
 ·obtain⟨ln,dx,c,t,mv,l,x,rfl,_⟩:=h
  rfl
 ·obtain⟨ln,dx,c,t,mv,l,x,rfl,h1,hc,hx,k⟩:=h
  have nd:=Zfz.nd;refine⟨_,Zc (Zk (i:=1) nd rfl (Ja (r:=JX K) ZM (Zu (pv 0) rfl) (Zu (pv 0) rfl) (λ_ _=>rfl)))
   (Zc (ZbV (pv 0) Zq ZiS) (Zh (Zn (pv 1)))),?_⟩;refine⟨_,rfl,ln,_,_,_,_,rfl,h1,T.l,T.ln _ (by decide),rfl,_,rfl,ln,_,_,_,_,rfl,h1,T.l,T.ln _ (by decide),rfl,c,_,_,_,rfl,rfl,hc,VO (Zcw hx),?_⟩;exact⟨_,rfl,ln,_,_,_,_,rfl,h1,T.l,T.ln _ (by decide),rfl,_,_,rfl,rfl,_,_,h1,V3 3 rfl,_,rfl,k⟩
inductive Zas(K:Frag)(L:Addr):List V->Hp->VK->XK->Prop|mk {vs H Q E} (ln dx c:Addr) (t:Nat) (mv:V) (l row rest:List Nat):vs=[.ref ln]->H ln=some (.ins L dx (YS c t mv))->SqL K H c (nv l)->l.drop t=row.length::(row++rest)->(∀p,upd H ln (.ins L dx (YS c (t+1+row.length) mv)) p=none->Q (.ref p) (upd (upd H ln (.ins L dx (YS c (t+1+row.length) mv))) p (.lst (nv row))))->Zas K L vs H Q E
def Zf5:Zl ["self", "size", "start"] ["self"] (Ze (Ye 79 3)):=fsc
def YH{α:Type}{l r:List α}{t:Nat}{x:α}(h:l.drop t=x::r):l[t]? = some x/\l.drop (t+1)=r:=by
 constructor
 ·have:=congrArg (λz=>z[0]?) h
  simpa using this
 ·rw[<- List.drop_drop,h]
  rfl
def Zd6{α:Type}{l r:List α}{t:Nat}(h:l.drop t=r)(hr:r≠[]):t+r.length=l.length:=by
 have h1:(l.drop t).length=r.length:=by rw[h]
 rw[length_drop] at h1;have:r.length≠0:=λe=>hr (length_eq_zero_iff.mp e);omega
def Ziw(T:Tys K W M L)(D1:DK P w K mg base CX0 1 L "take_number" ["self"] (VS K L))(F:MAt K L "take_row" "Line.take_row" (Ye 79 3) ["self"]):DK P w K mg base CX0 2 L "take_row" ["self"] (Zas K L):=by
 refine F.ok Zf5 (λvs H Q E h=>?_) (λf _ A _ s H vs Q E hr h=>?_)
 ·obtain⟨ln,dx,c,t,mv,l,row,rest,rfl,_⟩:=h
  rfl
 ·obtain⟨ln,dx,c,t,mv,l,row,rest,rfl,h1,hc,hd,k⟩:=h
  have nd:=Zf5.nd;refine⟨_,Zc (Zk (i:=1) nd rfl (pm0 D1 T.l hr Zm (pv 0))) (Zc (Zk (i:=2) nd rfl (Zu (pv 0) rfl))
   (Zc (ZbV (pv 0) (pv 1) ZiS) (Zh (Zn (JQ Yq (Zu (pv 0) rfl) (Jz (pv 2)) (Jz (Zu (pv 0) rfl))))))),?_⟩;obtain⟨hx,hd'⟩:=YH hd;have hl:=Zd6 hd (by simp);refine⟨_,rfl,ln,dx,_,rfl,h1,rfl,ln,dx,c,t,mv,l,row.length,rfl,h1,hc,hx,?_⟩;refine⟨_,rfl,ln,_,_,_,_,rfl,Zb,T.l,T.ln _ (by decide),rfl,?_⟩;refine⟨_,rfl,ln,_,_,_,_,rfl,Zb,T.l,T.ln _ (by decide),rfl,_,rfl,_,_,rfl,rfl,_,_,Zb,V3 3 rfl,?_⟩;rw[Jj];have e1:JV "taken" (.int (((t+1:Nat):Int)+(row.length:Int))) (YS c (t+1) mv)=YS c (t+1+row.length) mv:=rfl;rw[e1];refine⟨_,rfl,ln,_,_,_,_,rfl,Zb,T.l,T.ln _ (by decide),rfl,_,rfl,_,rfl,_,rfl,ln,_,_,_,_,rfl,Zb,T.l,T.ln _ (by decide),rfl,_,rfl,c,_,rfl,ZlU hc h1,λp hp=>?_⟩;have hlr:(row.length::(row++rest)).length=1+(row.length+rest.length):=by rw[length_cons,length_append];omega
  rw[Zgu l (t+1) (t+1+row.length) (by omega) (by omega),hd',show t+1+row.length-(t+1)=row.length by omega,List.take_left];exact k p hp
structure Zka(K:Frag)(mg:Str->Option Value)(CN:Addr):Prop where
 ck:YT K CN none=true
 mg_:mg "NoMachineYet" = some (.ref CN)
 kp:keepIn K (.ref CN)=true
inductive Zat(L CN:Addr):List V->Hp->VK->XK->Prop|mk {vs H Q E} (ln dx c:Addr) (t:Nat) (mv:V):vs=[.ref ln]->H ln=some (.ins L dx (YS c t mv))->(mv = .non->E (.ref CN) none H)->(mv ≠ .non->Q mv H)->Zat L CN vs H Q E
def Zkh:Zl ["self"] ["self"] (Ze (Ye 79 4)):=fsc
def Ziq(T:Tys K W M L)(N:Zka K mg CN)(F:MAt K L "machine_there" "Line.machine_there" (Ye 79 4) ["self"]):DK P w K mg base (CXF P w) 1 L "machine_there" ["self"] (Zat L CN):=by
 refine F.okX Zkh (λvs H Q E h=>?_) (λf _ A _ s H vs Q E _ h=>?_)
 ·obtain⟨ln,dx,c,t,mv,rfl,_⟩:=h
  rfl
 ·obtain⟨ln,dx,c,t,mv,rfl,h1,k1,k2⟩:=h
  refine⟨_,Zc (ZW (Zfr (ZhU (Zu (pv 0) rfl))) (Zh (Zhe rfl YM N.ck rfl N.mg_ N.kp)) ZB) (Zh (Zn (Zu (pv 0) rfl))),?_⟩;refine⟨_,rfl,ln,_,_,_,_,rfl,h1,T.l,T.ln _ (by decide),rfl,_,rfl,Jl (λh=>?_) λh=>?_⟩
  ·exact k1 (of_decide_eq_true h)
  ·exact⟨_,rfl,ln,_,_,_,_,rfl,h1,T.l,T.ln _ (by decide),rfl,k2 λy=>h (decide_eq_true y)⟩
inductive spT:List V->Hp->VK->XK->Prop|mk {vs H Q E} (z:Int) (b:Addr) (xs:List V):vs=[.int z,.ref b]->H b=some (.lst xs)->xs.length<=500000->RL H Q ([.int z,.int 0,.int (xs.length:Nat)]++xs)->spT vs H Q E
def scT:Zl ["number", "numbers"] ["number", "numbers"] (Ze (top 80)):=fsc
def Zox(G:Gn mg)(F:At K mg "told" (top 80) ["number", "numbers"]):ZdD P w K mg base 1 "told" ["number", "numbers"] spT:=by
 refine F.okU scT (λvs H Q E h=>?_) (λf _ A _ s H vs Q E _ h=>?_)
 ·obtain⟨z,b,xs,rfl,_⟩:=h
  rfl
 ·obtain⟨z,b,xs,rfl,hb,hl,k⟩:=h
  refine⟨_,Zh (Zn (ZD DO (Zx (Za (pv 0) (Za Zq (Za (Zv Zp rfl G.len PySem.boot_len (Za (pv 1) Zd)) Zd)))) (pv 1))),?_⟩;refine⟨_,rfl,_,rfl,b,_,rfl,.inl (SqL.of hb),Zs (show 3<=1000000 by decide),λq hq=>⟨_,rfl,q,b,_,_,rfl,rfl,Zb,Zg hq _ _ hb,?_,λp hp=>?_⟩⟩
  ·exact Zs (show 3+xs.length<=1000000 by omega)
  ·have s1:=(Zg (o:=.lst [.int z,.int 0,.int (xs.length:Nat)]) hq)
   exact k _ p (s1.trans (Zg hp)) (s1.free hp) Zb
inductive ZkW:List V->Hp->VK->XK->Prop|mk {vs H Q E} (z:Int) (b:Addr) (xs:List V):vs=[.int z,.ref b]->H b=some (.lst xs)->xs.length<=500000->RL H Q (([.int z,.int (xs.length:Nat)]++xs)++[.int 0])->ZkW vs H Q E
def Zoo:Zl ["number", "s"] ["number", "s"] (Ze (top 81)):=fsc
def Zno(G:Gn mg)(F:At K mg "told_bytes" (top 81) ["number", "s"]):Def P w K mg base CX0 1 "told_bytes" ["number", "s"] ZkW:=by
 refine F.ok Zoo (λvs H Q E h=>?_) (λf _ A _ s H vs Q E _ h=>?_)
 ·obtain⟨z,b,xs,rfl,_⟩:=h
  rfl
 ·obtain⟨z,b,xs,rfl,hb,hl,k⟩:=h
  refine⟨_,Zh (Zn (ZD DO (ZD DO (Zx (Za (pv 0) (Za (Zv Zp rfl G.len PySem.boot_len (Za (pv 1) Zd)) Zd))) (pv 1)) (Zx (Za Zq Zd)))),?_⟩;refine⟨_,rfl,_,rfl,b,_,rfl,.inl (SqL.of hb),Zs (show 2<=1000000 by decide),λq hq=>⟨_,rfl,q,b,_,_,rfl,rfl,Zb,Zg hq _ _ hb,?_,λp hp=>⟨Zs (show 1<=1000000 by decide),λu hu=>⟨p,u,[.int z,.int (xs.length:Nat)]++xs,_,rfl,rfl,?_,Zb,?_,λr hr'=>?_⟩⟩⟩⟩
  ·exact Zs (show 2+xs.length<=1000000 by omega)
  ·exact Zg hu _ _ Zb
  ·exact Zs (show(2+xs.length)+1<=1000000 by omega) |> λh=>by rw[length_append];exact h
  ·have s1:=(Zg (o:=.lst [.int z,.int (xs.length:Nat)]) hq)
   have s2:=s1.trans (Zg (o:=.lst ([.int z,.int (xs.length:Nat)]++xs)) hp);have s3:=s2.trans (Zg (o:=.lst [.int 0]) hu);exact k _ r (s3.trans (Zg hr')) (s3.free hr') Zb
inductive Zk2:List V->Hp->VK->XK->Prop|mk {vs H Q E} (a b:Addr) (l m:List Nat):vs=[.ref a,.ref b]->H a=some (.lst (nv l))->H b=some (.lst (nv m))->l.length<=1000000->m.length<=1000000->RV H Q (.bl (JP 16 l&&JP 16 m))->Zk2 vs H Q E
def Zos:Zl ["a", "b"] ["a", "b"] (Ze (top 82)):=fsc
def ZmL(G:Gn mg)(D1:Def P w K mg base CX0 1 "is_permutation" ["n", "a"] Ul)(F:At K mg "are_permutations" (top 82) ["a", "b"]):Def P w K mg base CX0 2 "are_permutations" ["a", "b"] Zk2:=by
 refine F.ok Zos (λvs H Q E h=>?_) (λf _ A _ s H vs Q E hr h=>?_)
 ·obtain⟨a,b,l,m,rfl,_⟩:=h
  rfl
 ·obtain⟨a,b,l,m,rfl,ha,hb,hl,hm,k⟩:=h
  refine⟨_,Zh (Zn (ZcR (pc D1 hr rfl Zm (Za (pk G.most rfl) (Za (pv 0) Zd))) (Zcs (pc D1 hr rfl Zm (Za (pk G.most rfl) (Za (pv 1) Zd)))))),?_⟩;refine⟨_,rfl,a,16,l,rfl,ha,hl,λH1 s1=>⟨_,rfl,?_⟩⟩;cases e:JP 16 l with
  |true=>
   rw[e,Bool.true_and] at k;exact JT ⟨_,rfl,b,16,m,rfl,s1 _ _ hb,hm,λH2 s2=>k H2 (s1.trans s2)⟩
  |false=>
   rw[e,Bool.false_and] at k;exact Yh (k H1 s1)
end
open Rotorwork (says tells)
open RotorworkNeutral (numbersOf nats)
def iv(l:List Int):List V:=l.map V.int
def ZfV(l:List Nat):iv (Rotorwork.ints l)=nv l:=by
 unfold iv Rotorwork.ints nv;rw[map_map];rfl
def V9(l:List Nat):(Rotorwork.ints l).length=l.length:=length_map ..
def Z4(l:List Nat):nats (Rotorwork.ints l)=l:=by
 unfold nats Rotorwork.ints;rw[map_map];conv=>rhs;rw[<- map_id l]
 exact map_congr_left λx _=>Int.toNat_natCast x
def YF{d:List Nat}{z:Int}{r:List Int}(h:Rotorwork.ints d=z::r):∃(a:Nat) (d':List Nat),d=a::d'/\z=(a:Int)/\Rotorwork.ints d'=r:=by
 cases d with
 |nil=>cases h
 |cons a d'=>
  have h:(a:Int)::Rotorwork.ints d'=z::r:=h;injection h with h1 h2
  exact⟨a,d',rfl,h1.symm,h2⟩
theorem Zdw:∀{x:List Int} {d:List Nat} {r:List Int},Rotorwork.ints d=x++r->∃(y d':List Nat),d=y++d'/\x=Rotorwork.ints y/\Rotorwork.ints d'=r
 | [],d,r,h=>⟨[],d,rfl,rfl,h⟩
 |z::x,d,r,h=>by
  obtain⟨a,d',rfl,rfl,h2⟩:=YF h;obtain⟨y,d2,rfl,rfl,h3⟩:=Zdw h2;exact⟨a::y,d2,rfl,rfl,h3⟩
def Ux{x:List Int}{d:List Nat}{r:List Int}(h:Rotorwork.ints d=(x.length:Int)::(x++r)):∃y d':List Nat,d=y.length::(y++d')/\x=Rotorwork.ints y/\Rotorwork.ints d'=r:=by
 obtain⟨a,d1,rfl,e,h2⟩:=YF h;obtain⟨y,d2,rfl,rfl,h3⟩:=Zdw h2;rw[V9] at e;have e:y.length=a:=by omega
 subst e;exact⟨y,d2,rfl,rfl,h3⟩
section
variable{j:Nat}{d:List Nat}{cl:List (List Int)}{r:List Int}
def Zdz(h:PyFlat.call PyWqaeau.shape (Rotorwork.ints (j::d))=some (cl,r))(hs:PyWqaeau.shape (j:Int)=some (0,0)):cl=[[(j:Int)]]/\Rotorwork.ints d=r:=RM.Zj2 h hs
def ZaW(h:PyFlat.call PyWqaeau.shape (Rotorwork.ints (j::d))=some (cl,r))(hs:PyWqaeau.shape (j:Int)=some (1,0)):∃(z:Nat) (d':List Nat),cl=[[(j:Int),(z:Int)]]/\d=z::d'/\Rotorwork.ints d'=r:=by
 obtain⟨x,rfl,e⟩:=RM.ZjN h hs;obtain⟨a,d',rfl,rfl,h2⟩:=YF e;exact⟨a,d',rfl,rfl,h2⟩
def Da(h:PyFlat.call PyWqaeau.shape (Rotorwork.ints (j::d))=some (cl,r))(hs:PyWqaeau.shape (j:Int)=some (0,1)):∃x d':List Nat,cl=[[(j:Int)],Rotorwork.ints x]/\d=x.length::(x++d')/\Rotorwork.ints d'=r:=by
 obtain⟨x,rfl,e⟩:=RM.ZjH h hs;obtain⟨y,d',rfl,rfl,h2⟩:=Ux e;exact⟨y,d',rfl,rfl,h2⟩
def Zdy(h:PyFlat.call PyWqaeau.shape (Rotorwork.ints (j::d))=some (cl,r))(hs:PyWqaeau.shape (j:Int)=some (0,2)):∃x y d':List Nat,cl=[[(j:Int)],Rotorwork.ints x,Rotorwork.ints y]/\d=x.length::(x++(y.length::(y++d')))/\Rotorwork.ints d'=r:=by
 obtain⟨x,y,rfl,e⟩:=RM.Zje h hs;obtain⟨x',d1,rfl,rfl,h2⟩:=Ux e;obtain⟨y',d2,rfl,rfl,h3⟩:=Ux h2;exact⟨x',y',d2,rfl,rfl,h3⟩
def Vo(h:PyFlat.call PyWqaeau.shape (Rotorwork.ints (j::d))=some (cl,r))(hs:PyWqaeau.shape (j:Int)=some (1,1)):∃(z:Nat) (x d':List Nat),cl=[[(j:Int),(z:Int)],Rotorwork.ints x]/\d=z::(x.length::(x++d'))/\Rotorwork.ints d'=r:=by
 obtain⟨z,x,rfl,e⟩:=RM.Zkc h hs;obtain⟨a,d1,rfl,rfl,h2⟩:=YF e;obtain⟨y,d2,rfl,rfl,h3⟩:=Ux h2;exact⟨a,y,d2,rfl,rfl,h3⟩
def ZhJ(h:PyFlat.call PyWqaeau.shape (Rotorwork.ints (j::d))=some (cl,r))(hs:PyWqaeau.shape (j:Int)=some (2,1)):∃(z v:Nat) (x d':List Nat),cl=[[(j:Int),(z:Int),(v:Int)],Rotorwork.ints x]/\d=z::v::(x.length::(x++d'))/\Rotorwork.ints d'=r:=by
 obtain⟨z,v,x,rfl,e⟩:=RM.Zjo h hs;obtain⟨a,d1,rfl,rfl,h2⟩:=YF e;obtain⟨b,d2,rfl,rfl,h3⟩:=YF h2;obtain⟨y,d3,rfl,rfl,h4⟩:=Ux h3;exact⟨a,b,y,d3,rfl,rfl,h4⟩
end
def Zn7(W M:Addr)(Hs:Hp)(mv:V):Rotorwork.State->Prop
 |none=>mv = .non
 |some r=>∃a:Addr,mv = .ref a/\ZY W M Hs a r.m (RM.Zr r.m.n r.p)/\RM.Mach r.m/\RM.St r.m r.p
structure Lin(K:Frag)(W M L:Addr)(Hi:Hp)(c:Addr)(l:List Nat)(ln dx:Addr)(Hs H:Hp)(t:Nat)(mv:V)(st:Rotorwork.State):Prop where
 sq:SqL K Hi c (nv l)
 hi:Same Hi H
 ap:∀(b:Addr) (u:HO),Hi b=some u->Hs b=none
 li:Hi ln=none
 at_:H ln=some (.ins L dx (YS c t mv))
 ls:Hs ln=none
 hs:Same Hs H
 st:Zn7 W M Hs mv st
structure Fr(ln:Addr)(Hs H Hs' H':Hp):Prop where
 keep:∀(b:Addr) (u:HO),b≠ln->Hs b=none->H b=some u->H' b=some u
 apart:∀(b:Addr) (u:HO),b≠ln->Hs b=none->H b=some u->Hs' b=none
 dom:∀(b:Addr) (u:HO),H b=some u->∃v,H' b=some v
def Fr.refl(ln:Addr)(Hs H:Hp):Fr ln Hs H Hs H:=⟨λ_ _ _ _ e=>e,λ_ _ _ e _=>e,λ_ _ e=>⟨_,e⟩⟩
def Fr.trans{ln:Addr}{Hs H Hs' H' Hs'' H'':Hp}(f:Fr ln Hs H Hs' H')(g:Fr ln Hs' H' Hs'' H''):Fr ln Hs H Hs'' H'':=
 ⟨λb u h1 h2 h3=>g.keep b u h1 (f.apart b u h1 h2 h3) (f.keep b u h1 h2 h3),λb u h1 h2 h3=>g.apart b u h1 (f.apart b u h1 h2 h3) (f.keep b u h1 h2 h3),λb u h=>by
  obtain⟨v,e⟩:=f.dom b u h;exact g.dom b v e⟩
def Fr.free{ln:Addr}{Hs H Hs' H':Hp}(f:Fr ln Hs H Hs' H'){p:Addr}(h:H' p=none):H p=none:=by
 cases e:H p with
 |none=>rfl
 |some u=>
  obtain⟨v,e'⟩:=f.dom p u e;rw[e'] at h;cases h
structure Run(K:Frag)(W M L:Addr)(Hi:Hp)(c:Addr)(l:List Nat)(ln dx:Addr)(Hs0 H0 Hs H:Hp)(t:Nat)(mv:V)(st:Rotorwork.State):Prop extends Lin K W M L Hi c l ln dx Hs H t mv st where
 fr:Fr ln Hs0 H0 Hs H
section
variable{K:Frag}{W M L:Addr}{Hi:Hp}{c:Addr}{l:List Nat}{ln dx:Addr}{Hs0 H0 Hs H H':Hp}{t:Nat}{mv:V}{st:Rotorwork.State}
def Lin.run(h:Lin K W M L Hi c l ln dx Hs H t mv st):Run K W M L Hi c l ln dx Hs H Hs H t mv st:=⟨h,Fr.refl _ _ _⟩
def Lin.sqH(h:Lin K W M L Hi c l ln dx Hs H t mv st):SqL K H c (nv l):=h.hi.seq h.sq
def Run.same(h:Run K W M L Hi c l ln dx Hs0 H0 Hs H t mv st)(s:Same H H'):Run K W M L Hi c l ln dx Hs0 H0 Hs H' t mv st:=
 ⟨⟨h.sq,h.hi.trans s,h.ap,h.li,s _ _ h.at_,h.ls,h.hs.trans s,h.st⟩,h.fr.trans ⟨λb u _ _ e=>s _ _ e,λb u _ e _=>e,λb u e=>⟨u,s _ _ e⟩⟩⟩
def Run.took(h:Run K W M L Hi c l ln dx Hs0 H0 Hs H t mv st)(t':Nat):Run K W M L Hi c l ln dx Hs0 H0 Hs (upd H ln (.ins L dx (YS c t' mv))) t' mv st:=by
 refine⟨⟨h.sq,λb u e=>?_,h.ap,h.li,Zb,h.ls,λb u e=>?_,h.st⟩,h.fr.trans ⟨λb u n _ e=>by rw[Zj n];exact e,λb u _ e _=>e,λb u e=>?_⟩⟩
 ·rw[Zj (Zi e h.li)]
  exact h.hi _ _ e
 ·rw[Zj (Zi e h.ls)]
  exact h.hs _ _ e
 ·by_cases q:b=ln
  ·exact⟨_,by rw[q,Zb]⟩
  ·exact⟨u,by rw[Zj q];exact e⟩
theorem Run.put{m:Rotor.Machine}{p p':List Nat}{a dm af al aw aF:Addr}{as:List Addr}(h:Run K W M L Hi c l ln dx Hs0 H0 Hs H t (.ref a) (some ⟨m,p⟩))(g:RM.Mach m)(h1:Hs a=some (.ins M dm (YY m (RM.Zr m.n p) af al aw aF)))(h2:Vb W Hs m af al aw aF as)
  (s:SameBut a H H') (e:H' a=some (.ins M dm (YY m (RM.Zr m.n p') af al aw aF))) (hp:RM.St m p'):Run K W M L Hi c l ln dx Hs0 H0 (upd Hs a (.ins M dm (YY m (RM.Zr m.n p') af al aw aF))) H' t (.ref a) (some ⟨m,p'⟩):=by
 have na:∀b,Hs b=none->b≠a:=λb hb q=>by rw[q,h1] at hb;cases hb
 refine⟨⟨h.sq,λb u q=>?_,λb u q=>?_,h.li,?_,?_,λb u q=>?_,⟨a,rfl,ZY.put h1 h2 (RM.Zr m.n p') (SameBut.refl a Hs).upd Zb,g,hp⟩⟩,h.fr.trans ⟨λb u _ q1 q2=>s _ _ (na b q1) q2,λb u _ q1 _=>by rw[Zj (na b q1)];exact q1,λb u q=>?_⟩⟩
 ·exact s _ _ (na b (h.ap b u q)) (h.hi _ _ q)
 ·rw[Zj (na b (h.ap b u q))]
  exact h.ap b u q
 ·exact s _ _ (na ln h.ls) h.at_
 ·rw[Zj (na ln h.ls)]
  exact h.ls
 ·by_cases y:b=a
  ·rw[y,Zb] at q
   rw[y,<- q];exact e
  ·rw[Zj y] at q
   exact s _ _ y (h.hs _ _ q)
 ·by_cases y:b=a
  ·exact⟨_,by rw[y];exact e⟩
  ·exact⟨u,s _ _ y q⟩
def Run.read{m:Rotor.Machine}{p:List Nat}{a:Addr}(h:Run K W M L Hi c l ln dx Hs0 H0 Hs H t mv st)(s:Same H H')(hm:ZY W M (new H H') a m (RM.Zr m.n p))(g:RM.Mach m)(hp:RM.St m p) :
  Run K W M L Hi c l ln dx Hs0 H0 (new H H') (upd H' ln (.ins L dx (YS c t (.ref a)))) t (.ref a) (some ⟨m,p⟩):=by
 have no:∀(b:Addr) (u:HO),H b=some u->new H H' b=none:=λb u q=>by
  unfold new;rw[q]
 refine⟨⟨h.sq,λb u q=>?_,λb u q=>no b u (h.hi _ _ q),h.li,Zb,no _ _ h.at_,λb u q=>?_,⟨a,rfl,hm,g,hp⟩⟩,h.fr.trans ⟨λb u n _ q=>by rw[Zj n];exact s _ _ q,λb u _ _ q=>no b u q,λb u q=>?_⟩⟩
 ·rw[Zj (Zi q h.li)]
  exact s _ _ (h.hi _ _ q)
 ·have nl:b≠ln:=λy=>by
   rw[y,no _ _ h.at_] at q;cases q
  rw[Zj nl];exact(VI q).2
 ·by_cases y:b=ln
  ·exact⟨_,by rw[y,Zb]⟩
  ·exact⟨u,by rw[Zj y];exact s _ _ q⟩
variable{σ:L2.St}{E:XK}{Q:VK}{x:Nat}{r:List Nat}
def Jp(h:Run K W M L Hi c l ln dx Hs0 H0 Hs H t mv st)(h0:σ[0]? = some (some (.ref ln)))(hd:l.drop t=x::r)
  (k:∀H',SameBut ln H H'->Run K W M L Hi c l ln dx Hs0 H0 Hs H' (t+1) mv st->l.drop (t+1)=r->Q (.int (x:Int)) H'):Zb1 L "take_number" (VS K L) [] E (V2 0) Uq σ H Q:=by
 obtain⟨hx,hd'⟩:=YH hd;exact⟨_,h0,ln,dx,_,rfl,h.at_,rfl,ln,dx,c,t,mv,l,x,rfl,h.at_,h.toLin.sqH,hx,k _ (SameBut.refl ln H).upd (h.took (t+1)) hd'⟩
def Z9{row:List Nat}(h:Run K W M L Hi c l ln dx Hs0 H0 Hs H t mv st)(h0:σ[0]? = some (some (.ref ln)))(hd:l.drop t=row.length::(row++r))
  (k:∀H' p,SameBut ln H H'->Run K W M L Hi c l ln dx Hs0 H0 Hs H' (t+1+row.length) mv st->l.drop (t+1+row.length)=r->H' p=some (.lst (nv row))->row.length<=l.length->Q (.ref p) H'):Zb1 L "take_row" (Zas K L) [] E (V2 0) Uq σ H Q:=by
 refine⟨_,h0,ln,dx,_,rfl,h.at_,rfl,ln,dx,c,t,mv,l,row,r,rfl,h.at_,h.toLin.sqH,hd,λp hp=>k _ p ((SameBut.refl ln H).upd.then (Zg hp)) ((h.took (t+1+row.length)).same (Zg hp)) ?_ Zb ?_⟩
 ·obtain⟨_,hd'⟩:=YH hd
  rw[<- List.drop_drop,hd',List.drop_left]
 ·have:=Zd6 hd (by simp)
  rw[length_cons,length_append] at this;omega
def Yd{CN:Addr}(h:Run K W M L Hi c l ln dx Hs0 H0 Hs H t mv st)(h0:σ[0]? = some (some (.ref ln)))(k1:st=none->E (.ref CN) none H)
  (k2:∀(m:Rotor.Machine) (p:List Nat) (a:Addr),st=some ⟨m,p⟩->mv = .ref a->ZY W M Hs a m (RM.Zr m.n p)->RM.Mach m->RM.St m p->Q (.ref a) H):Zb1 L "machine_there" (Zat L CN) [] E (V2 0) Uq σ H Q:=by
 refine⟨_,h0,ln,dx,_,rfl,h.at_,rfl,ln,dx,c,t,mv,rfl,h.at_,λe=>?_,λe=>?_⟩
 ·cases st with
  |none=>exact k1 rfl
  |some q=>
   obtain⟨a,e',_⟩:=h.st;rw[e'] at e;cases e
 ·cases st with
  |none=>exact absurd h.st e
  |some q=>
   obtain⟨a,rfl,h1,h2,h3⟩:=h.st;exact k2 q.m q.p a rfl rfl h1 h2 h3
theorem Run.lst(h:Run K W M L Hi c l ln dx Hs0 H0 Hs H t mv st)(s:SameBut ln H H'){p:Addr}{xs:List V}(hp:H p=some (.lst xs)):H' p=some (.lst xs):=s _ _ (JE hp h.at_ (λq=>nomatch q)) hp
def Yo(z:Int)(n:List Nat):[V.int z,V.int 0,V.int ((nv n).length:Nat)]++nv n=iv (numbersOf (tells z n)):=by
 rw[Zf,<- ZfV n,<- V9 n];rfl
def Zel(z:Int)(b:Rotor.Bytes):([V.int z,V.int ((nv (RM.bn b)).length:Nat)]++nv (RM.bn b))++[V.int 0]=iv (numbersOf ⟨z,b,[]⟩):=by
 rw[Zf,RM.Jd];unfold numbersOf iv nv RM.bn;rw[map_append,map_map];show _=(V.int z::V.int (b.length:Int)::List.map V.int (b.map λ(c:UInt8)=>(c.toNat:Int)))++_;rw[map_map];rfl
def ZjZ{z:Int}(k:∀H' p,Same H H'->H p=none->H' p=some (.lst (iv (numbersOf (says z))))->Q (.ref p) H'):ZaD spT [] E0 (V0 (tC (.int z)) (V0 (Zke Uq) Uq)) σ H Q:=
 ⟨Zs (show 0<=1000000 by decide),λq hq=>⟨z,q,[],rfl,Zb,by decide,λH' p s n h=>k H' p ((Zg hq).trans s) ((Zg hq).free n) h⟩⟩
theorem Run.says{z:Int}{r:List Int}(R:Run K W M L Hi c l ln dx Hs0 H0 Hs H t mv st)(hr:Rotorwork.ints (l.drop t)=r)(k:∀(Hs' H':Hp) (t':Nat) (mv':V) (p:Addr),Run K W M L Hi c l ln dx Hs0 H0 Hs' H' t' mv' st->Rotorwork.ints (l.drop t')=r->H0 p=none->H' p=some (.lst (iv (numbersOf (says z))))->Q (.ref p) H') :
  ZaD spT [] E0 (V0 (tC (.int z)) (V0 (Zke Uq) Uq)) σ H Q:=ZjZ λH' p s n h=>k _ H' _ _ p (R.same s) hr (R.fr.free n) h
end
abbrev stp(st:Rotorwork.State)(cl:List (List Int)):Rotorwork.State×List Int:=RotorworkNeutral.step st (PyWqaeau.whole cl)
inductive spA(K:Frag)(W M L CN:Addr)(j:Nat):List V->Hp->VK->XK->Prop|mk {vs H Q E} (Hi Hs:Hp) (c ln dx:Addr) (l:List Nat) (t:Nat) (mv:V) (st:Rotorwork.State) (cl:List (List Int)) (r:List Int):vs=[.ref ln]->Lin K W M L Hi c l ln dx Hs H t mv st->l.length<=20000->PyFlat.call PyWqaeau.shape (Rotorwork.ints (j::l.drop t))=some (cl,r)->RotorworkNeutral.asked1 (PyWqaeau.whole cl)=true->(∀(Hs' H':Hp) (t':Nat) (mv':V) (p:Addr),Run K W M L Hi c l ln dx Hs H Hs' H' t' mv' (stp st cl).1->Rotorwork.ints (l.drop t')=r->H p=none->H' p=some (.lst (iv (stp st cl).2))->Q (.ref p) H')->(∀(Hs' H':Hp) (t':Nat) (mv':V),Run K W M L Hi c l ln dx Hs H Hs' H' t' mv' none->Rotorwork.ints (l.drop t')=r->stp st cl=(none,numbersOf (says (-8)))->E (.ref CN) none H')->spA K W M L CN j vs H Q E
def YE{n:Nat}{l:List Nat}(h:JP n l=true):2<=n/\n<=16/\RM.IsP n l:=by
 by_cases h1:n<2
 ·rw[ZcH (.inl h1)] at h;cases h
 ·by_cases h2:16<n
  ·rw[ZcH (.inr (.inl h2))] at h;cases h
  ·exact⟨by omega,by omega,(Za9 (by omega) (by omega)).mp h⟩
section
variable{st:Rotorwork.State}{z v:Nat}{x y:List Nat}
def Zn4:stp st [[((0:Nat):Int),(z:Int)],Rotorwork.ints x]=(st,numbersOf (says (if JP z x=true then 1 else 0))):=by
 show(st,numbersOf (says (if Rotorwork.isLetters (z:Int).toNat=true/\Rotor.isPerm (z:Int).toNat (nats (Rotorwork.ints x))=true then 1 else 0)))=_;rw[Z4,Int.toNat_natCast];have:(if Rotorwork.isLetters z=true/\Rotor.isPerm z x=true then (1:Int) else 0)=if JP z x=true then 1 else 0:=by
  unfold JP;cases Rotorwork.isLetters z<;>cases Rotor.isPerm z x<;>rfl
 rw[this]
def VU{b:Bool}{a:Unit->Rotorwork.Answer}(h:b=true):Rotorwork.may b a=a ():=by rw[h];rfl
def UY{b:Bool}{a:Unit->Rotorwork.Answer}(h:b=false):Rotorwork.may b a=says (-1):=by rw[h];rfl
def Zod:stp st [[((1:Nat):Int)],Rotorwork.ints x,Rotorwork.ints y]=(st,numbersOf (Rotorwork.may (JP 16 x&&JP 16 y) λ_=>tells 0 (Rotor.then_ x y))):=by
 show(st,numbersOf (Rotorwork.may (Rotorwork.any (nats (Rotorwork.ints x))&&Rotorwork.any (nats (Rotorwork.ints y))) λ_=>tells 0 (Rotor.then_ (nats (Rotorwork.ints x)) (nats (Rotorwork.ints y)))))=_;rw[Z4,Z4];rfl
def Zow:stp st [[((2:Nat):Int)],Rotorwork.ints x]=(st,numbersOf (Rotorwork.may (JP 16 x) λ_=>tells 0 (Rotor.back x))):=by
 show(st,numbersOf (Rotorwork.may (Rotorwork.any (nats (Rotorwork.ints x))) λ_=>tells 0 (Rotor.back (nats (Rotorwork.ints x)))))=_;rw[Z4];rfl
def Zoh:stp st [[((3:Nat):Int),(z:Int),(v:Int)],Rotorwork.ints x]=(st,numbersOf (Rotorwork.may (JP z x) λ_=>tells 0 (Rotor.turned z v x))):=by
 show(st,numbersOf (Rotorwork.may (Rotorwork.isLetters (z:Int).toNat&&Rotor.isPerm (z:Int).toNat (nats (Rotorwork.ints x))) λ_=>tells 0 (Rotor.turned (z:Int).toNat (v:Int).toNat (nats (Rotorwork.ints x)))))=_;rw[Z4,Int.toNat_natCast,Int.toNat_natCast];rfl
def Zop:stp st [[((4:Nat):Int)],Rotorwork.ints x,Rotorwork.ints y]=(st,numbersOf (Rotorwork.may (JP 16 x&&JP 16 y) λ_=>tells 0 (Rotor.seen x y))):=by
 show(st,numbersOf (Rotorwork.may (Rotorwork.any (nats (Rotorwork.ints x))&&Rotorwork.any (nats (Rotorwork.ints y))) λ_=>tells 0 (Rotor.seen (nats (Rotorwork.ints x)) (nats (Rotorwork.ints y)))))=_;rw[Z4,Z4];rfl
def Zol:stp st [[((5:Nat):Int)],Rotorwork.ints x]=(st,numbersOf (Rotorwork.may (JP 16 x) λ_=>says (Rotor.order x:Nat))):=by
 show(st,numbersOf (Rotorwork.may (Rotorwork.any (nats (Rotorwork.ints x))) λ_=>says (Rotor.order (nats (Rotorwork.ints x)):Nat)))=_;rw[Z4];rfl
def Zn9:stp st [[((6:Nat):Int),(z:Int)],Rotorwork.ints x]=(st,numbersOf (Rotorwork.may (JP z x) λ_=>tells 0 (Rotor.shape z x))):=by
 show(st,numbersOf (Rotorwork.may (Rotorwork.isLetters (z:Int).toNat&&Rotor.isPerm (z:Int).toNat (nats (Rotorwork.ints x))) λ_=>tells 0 (Rotor.shape (z:Int).toNat (nats (Rotorwork.ints x)))))=_;rw[Z4,Int.toNat_natCast];rfl
def Zou:stp st [[((7:Nat):Int),(z:Int)],Rotorwork.ints x]=(st,numbersOf (Rotorwork.may (JP z x) λ_=>says (if Rotor.paired z x=true then 1 else 0))):=by
 show(st,numbersOf (Rotorwork.may (Rotorwork.isLetters (z:Int).toNat&&Rotor.isPerm (z:Int).toNat (nats (Rotorwork.ints x))) λ_=>says (if Rotor.paired (z:Int).toNat (nats (Rotorwork.ints x))=true then 1 else 0)))=_;rw[Z4,Int.toNat_natCast];rfl
end
structure Kit(P:Program)(w:World)(K:Frag)(mg:Str->Option Value)(base:Heap)(W M L CN:Addr):Prop where
 g:Gn mg
 ty:Tys K W M L
 num:DK P w K mg base CX0 1 L "take_number" ["self"] (VS K L)
 row:DK P w K mg base CX0 2 L "take_row" ["self"] (Zas K L)
 there:DK P w K mg base (CXF P w) 1 L "machine_there" ["self"] (Zat L CN)
 told:Def P w K mg base CX0 1 "told" ["number", "numbers"] spT
 bytes:Def P w K mg base CX0 1 "told_bytes" ["number", "s"] ZkW
 isP:Def P w K mg base CX0 1 "is_permutation" ["n", "a"] Ul
 areP:Def P w K mg base CX0 2 "are_permutations" ["a", "b"] Zk2
section
variable{P:Program}{w:World}{K:Frag}{mg:Str->Option Value}{base:Heap}{W M L C CN:Addr}
def Yf{j:Nat}{vs:List V}{H:Hp}{Q:VK}{E:XK}(h:spA K W M L CN j vs H Q E):vs.length=(["line"]:List Str).length:=by
 obtain⟨_,_,_,_,_,_,_,_,_,_,_,rfl,_⟩:=h;rfl
def ZmX:Zl ["line", "n", "a"] ["line"] (Ze (top 83)):=fsc
def ZnB(Z:Kit P w K mg base W M L CN)(F:At K mg "answer_right" (top 83) ["line"]):Def P w K mg base (CXF P w) 8 "answer_right" ["line"] (spA K W M L CN 0):=by
 refine F.okX ZmX (λvs H Q E h=>Yf h) (λf _ A _ s H vs Q E hr h=>?_);obtain⟨Hi,Hs,c,ln,dx,l,t,mv,st,cl,r,rfl,hL,hl,hc,ha,k,_⟩:=h;have nd:=ZmX.nd;have hr1:=hr.mono (show 1<=7 by decide);have hr2:=hr.mono (show 2<=7 by decide);refine⟨_,Zc (Zk (i:=1) nd rfl (pm0 Z.num Z.ty.l hr1 Zm (pv 0))) (Zc (Zk (i:=2) nd rfl (pm0 Z.row Z.ty.l hr2 Zm (pv 0)))
  (Zh (Zn (pc Z.told hr1 rfl Zm (Za (YV (Z1 (pc Z.isP hr1 rfl Zm (Za (pv 1) (Za (pv 2) Zd)))) Zq Zq) (Za (Zx Zd) Zd)))))),?_⟩;obtain⟨z,x,d,rfl,hd,hr'⟩:=Vo hc rfl;rw[Zn4] at k;refine Jp hL.run rfl hd λH1 s1 R1 hd1=>Z9 R1 rfl hd1 λH2 p s2 R2 hd2 hp hxl=>?_;refine⟨_,rfl,_,rfl,p,z,x,rfl,hp,by omega,λH3 s3=>⟨_,rfl,?_⟩⟩;have R3:=R2.same s3;refine Jl (λe=>?_) λe=>?_
 ·rw[if_pos e] at k
  exact R3.says (by rw[hd2];exact hr') k
 ·rw[if_neg e] at k
  exact R3.says (by rw[hd2];exact hr') k
def ZnY:Zl ["line", "a", "b"] ["line"] (Ze (top 84)):=fsc
def Znj(Z:Kit P w K mg base W M L CN)(D:Def P w K mg base CX0 1 "product" ["a", "b"] Yn)(F:At K mg "answer_then" (top 84) ["line"]):Def P w K mg base (CXF P w) 8 "answer_then" ["line"] (spA K W M L CN 1):=by
 refine F.okX ZnY (λvs H Q E h=>Yf h) (λf _ A _ s H vs Q E hr h=>?_);obtain⟨Hi,Hs,c,ln,dx,l,t,mv,st,cl,r,rfl,hL,hl,hc,ha,k,_⟩:=h;have nd:=ZnY.nd;have hr1:=hr.mono (show 1<=7 by decide);have hr2:=hr.mono (show 2<=7 by decide);refine⟨_,Zc (Zk (i:=1) nd rfl (pm0 Z.row Z.ty.l hr2 Zm (pv 0))) (Zc (Zk (i:=2) nd rfl (pm0 Z.row Z.ty.l hr2 Zm (pv 0)))
  (Zc (ZW (Yx (Z1 (pc Z.areP hr2 rfl Zm (Za (pv 1) (Za (pv 2) Zd))))) (Zh (Zn (pc Z.told hr1 rfl Zm (Za (pk Z.g.c1 rfl) (Za (Zx Zd) Zd))))) ZB)
  (Zh (Zn (pc Z.told hr1 rfl Zm (Za Zq (Za (pc D hr1 rfl Zm (Za (pv 1) (Za (pv 2) Zd))) Zd))))))),?_⟩;obtain⟨x,y,d,rfl,hd,hr'⟩:=Zdy hc rfl;rw[Zod] at k;refine Z9 hL.run rfl hd λH1 p s1 R1 hd1 hp hxl=>Z9 R1 rfl hd1 λH2 q s2 R2 hd2 hq hyl=>?_;have hp2:=R1.lst s2 hp;refine⟨_,rfl,_,rfl,p,q,x,y,rfl,hp2,hq,by omega,by omega,λH3 s3=>⟨_,rfl,?_⟩⟩;have R3:=R2.same s3;cases e:(JP 16 x&&JP 16 y) with
 |false=>
  rw[UY e] at k;exact JT (R3.says (by rw[hd2];exact hr') k)
 |true=>
  rw[VU e] at k;rw[Bool.and_eq_true] at e;obtain⟨_,_,px⟩:=YE e.1;obtain⟨_,_,py⟩:=YE e.2;refine Yh ⟨_,rfl,_,rfl,p,q,x,y,rfl,s3 _ _ hp2,s3 _ _ hq,λz hz=>by rw[py.len];exact px.mem.mp hz,by omega,λH4 u s4 nu hu=>⟨0,u,_,rfl,hu,?_,λH5 v s5 nv' hv=>?_⟩⟩
  ·rw[Zf,length_map,px.len]
   decide
  ·have R4:=R3.same s4
   refine k _ H5 _ _ v (R4.same s5) (by rw[hd2];exact hr') (R4.fr.free nv') ?_;rw[hv,Yo,RM.VL px.len]
def Zmx:Zl ["line", "a"] ["line"] (Ze (top 85)):=fsc
def ZnM(Z:Kit P w K mg base W M L CN)(D:Def P w K mg base CX0 1 "inverse" ["a"] YG)(F:At K mg "answer_back" (top 85) ["line"]):Def P w K mg base (CXF P w) 8 "answer_back" ["line"] (spA K W M L CN 2):=by
 refine F.okX Zmx (λvs H Q E h=>Yf h) (λf _ A _ s H vs Q E hr h=>?_);obtain⟨Hi,Hs,c,ln,dx,l,t,mv,st,cl,r,rfl,hL,hl,hc,ha,k,_⟩:=h;have nd:=Zmx.nd;have hr1:=hr.mono (show 1<=7 by decide);have hr2:=hr.mono (show 2<=7 by decide);refine⟨_,Zc (Zk (i:=1) nd rfl (pm0 Z.row Z.ty.l hr2 Zm (pv 0)))
  (Zc (ZW (Yx (Z1 (pc Z.isP hr1 rfl Zm (Za (pk Z.g.most rfl) (Za (pv 1) Zd))))) (Zh (Zn (pc Z.told hr1 rfl Zm (Za (pk Z.g.c1 rfl) (Za (Zx Zd) Zd))))) ZB)
  (Zh (Zn (pc Z.told hr1 rfl Zm (Za Zq (Za (pc D hr1 rfl Zm (Za (pv 1) Zd)) Zd)))))),?_⟩;obtain⟨x,d,rfl,hd,hr'⟩:=Da hc rfl;rw[Zow] at k;refine Z9 hL.run rfl hd λH2 p s2 R2 hd2 hp hxl=>?_;refine⟨_,rfl,p,16,x,rfl,hp,by omega,λH3 s3=>⟨_,rfl,?_⟩⟩;have R3:=R2.same s3;cases e:JP 16 x with
 |false=>
  rw[UY e] at k;exact JT (R3.says (by rw[hd2];exact hr') k)
 |true=>
  rw[VU e] at k;obtain⟨_,_,px⟩:=YE e;refine Yh ⟨_,rfl,p,x,rfl,s3 _ _ hp,px,λH4 u s4 nu hu=>⟨0,u,_,rfl,hu,?_,λH5 v s5 nv' hv=>?_⟩⟩
  ·rw[Zf,show(Rotor.back x).length=16 from RM.Zt _]
   decide
  ·have R4:=R3.same s4
   refine k _ H5 _ _ v (R4.same s5) (by rw[hd2];exact hr') (R4.fr.free nv') ?_;rw[hv,Yo]
def Zmy:Zl ["line", "n", "k", "a"] ["line"] (Ze (top 86)):=fsc
def ZnH(Z:Kit P w K mg base W M L CN)(D:Def P w K mg base CX0 1 "turned" ["n", "k", "a"] UA)(F:At K mg "answer_turned" (top 86) ["line"]):Def P w K mg base (CXF P w) 8 "answer_turned" ["line"] (spA K W M L CN 3):=by
 refine F.okX Zmy (λvs H Q E h=>Yf h) (λf _ A _ s H vs Q E hr h=>?_);obtain⟨Hi,Hs,c,ln,dx,l,t,mv,st,cl,r,rfl,hL,hl,hc,ha,k,_⟩:=h;have nd:=Zmy.nd;have hr1:=hr.mono (show 1<=7 by decide);have hr2:=hr.mono (show 2<=7 by decide);refine⟨_,Zc (Zk (i:=1) nd rfl (pm0 Z.num Z.ty.l hr1 Zm (pv 0))) (Zc (Zk (i:=2) nd rfl (pm0 Z.num Z.ty.l hr1 Zm (pv 0))) (Zc (Zk (i:=3) nd rfl (pm0 Z.row Z.ty.l hr2 Zm (pv 0)))
  (Zc (ZW (Yx (Z1 (pc Z.isP hr1 rfl Zm (Za (pv 1) (Za (pv 3) Zd))))) (Zh (Zn (pc Z.told hr1 rfl Zm (Za (pk Z.g.c1 rfl) (Za (Zx Zd) Zd))))) ZB)
  (Zh (Zn (pc Z.told hr1 rfl Zm (Za Zq (Za (pc D hr1 rfl Zm (Za (pv 1) (Za (pv 2) (Za (pv 3) Zd)))) Zd)))))))),?_⟩;obtain⟨z,v,x,d,rfl,hd,hr'⟩:=ZhJ hc rfl;rw[Zoh] at k;refine Jp hL.run rfl hd λH0 s0 R0 hd0=>Jp R0 rfl hd0 λH1 s1 R1 hd1=>Z9 R1 rfl hd1 λH2 p s2 R2 hd2 hp hxl=>?_;refine⟨_,rfl,_,rfl,p,z,x,rfl,hp,by omega,λH3 s3=>⟨_,rfl,?_⟩⟩;have R3:=R2.same s3;cases e:JP z x with
 |false=>
  rw[UY e] at k;exact JT (R3.says (by rw[hd2];exact hr') k)
 |true=>
  rw[VU e] at k;obtain⟨p1,p2,px⟩:=YE e;refine Yh ⟨_,rfl,_,rfl,_,rfl,p,z,(v:Int),x,rfl,s3 _ _ hp,p1,p2,px,λH4 u s4 nu hu=>⟨0,u,_,rfl,hu,?_,λH5 v' s5 nv' hv=>?_⟩⟩
  ·rw[Zf,show(Rotor.turned z ((v:Int)%(z:Int)).toNat x).length=16 from RM.Zt _]
   decide
  ·have R4:=R3.same s4
   refine k _ H5 _ _ v' (R4.same s5) (by rw[hd2];exact hr') (R4.fr.free nv') ?_;rw[hv,Yo,<- Int.natCast_emod,Int.toNat_natCast,RM.ZeS (by omega)]
def Znt:Zl ["line", "a", "b"] ["line"] (Ze (top 87)):=fsc
def ZnI(Z:Kit P w K mg base W M L CN)(D:Def P w K mg base CX0 2 "seen_through" ["a", "b"] Za2)(F:At K mg "answer_seen" (top 87) ["line"]):Def P w K mg base (CXF P w) 8 "answer_seen" ["line"] (spA K W M L CN 4):=by
 refine F.okX Znt (λvs H Q E h=>Yf h) (λf _ A _ s H vs Q E hr h=>?_);obtain⟨Hi,Hs,c,ln,dx,l,t,mv,st,cl,r,rfl,hL,hl,hc,ha,k,_⟩:=h;have nd:=Znt.nd;have hr1:=hr.mono (show 1<=7 by decide);have hr2:=hr.mono (show 2<=7 by decide);refine⟨_,Zc (Zk (i:=1) nd rfl (pm0 Z.row Z.ty.l hr2 Zm (pv 0))) (Zc (Zk (i:=2) nd rfl (pm0 Z.row Z.ty.l hr2 Zm (pv 0)))
  (Zc (ZW (Yx (Z1 (pc Z.areP hr2 rfl Zm (Za (pv 1) (Za (pv 2) Zd))))) (Zh (Zn (pc Z.told hr1 rfl Zm (Za (pk Z.g.c1 rfl) (Za (Zx Zd) Zd))))) ZB)
  (Zh (Zn (pc Z.told hr1 rfl Zm (Za Zq (Za (pc D hr2 rfl Zm (Za (pv 1) (Za (pv 2) Zd))) Zd))))))),?_⟩;obtain⟨x,y,d,rfl,hd,hr'⟩:=Zdy hc rfl;rw[Zop] at k;refine Z9 hL.run rfl hd λH1 p s1 R1 hd1 hp hxl=>Z9 R1 rfl hd1 λH2 q s2 R2 hd2 hq hyl=>?_;have hp2:=R1.lst s2 hp;refine⟨_,rfl,_,rfl,p,q,x,y,rfl,hp2,hq,by omega,by omega,λH3 s3=>⟨_,rfl,?_⟩⟩;have R3:=R2.same s3;cases e:(JP 16 x&&JP 16 y) with
 |false=>
  rw[UY e] at k;exact JT (R3.says (by rw[hd2];exact hr') k)
 |true=>
  rw[VU e] at k;rw[Bool.and_eq_true] at e;obtain⟨_,_,px⟩:=YE e.1;obtain⟨_,_,py⟩:=YE e.2;refine Yh ⟨_,rfl,_,rfl,p,q,x,y,rfl,s3 _ _ hp2,s3 _ _ hq,px,py,λH4 u s4 nu hu=>⟨0,u,_,rfl,hu,?_,λH5 v s5 nv' hv=>?_⟩⟩
  ·rw[Zf,show(Rotor.seen x y).length=16 from RM.Zt _]
   decide
  ·have R4:=R3.same s4
   refine k _ H5 _ _ v (R4.same s5) (by rw[hd2];exact hr') (R4.fr.free nv') ?_;rw[hv,Yo]
def Zmi:Zl ["line", "a"] ["line"] (Ze (top 88)):=fsc
def Zmm(Z:Kit P w K mg base W M L CN)(D:Def P w K mg base CX0 2 "order" ["a"] Zce)(F:At K mg "answer_order" (top 88) ["line"]):Def P w K mg base (CXF P w) 8 "answer_order" ["line"] (spA K W M L CN 5):=by
 refine F.okX Zmi (λvs H Q E h=>Yf h) (λf _ A _ s H vs Q E hr h=>?_);obtain⟨Hi,Hs,c,ln,dx,l,t,mv,st,cl,r,rfl,hL,hl,hc,ha,k,_⟩:=h;have nd:=Zmi.nd;have hr1:=hr.mono (show 1<=7 by decide);have hr2:=hr.mono (show 2<=7 by decide);refine⟨_,Zc (Zk (i:=1) nd rfl (pm0 Z.row Z.ty.l hr2 Zm (pv 0)))
  (Zc (ZW (Yx (Z1 (pc Z.isP hr1 rfl Zm (Za (pk Z.g.most rfl) (Za (pv 1) Zd))))) (Zh (Zn (pc Z.told hr1 rfl Zm (Za (pk Z.g.c1 rfl) (Za (Zx Zd) Zd))))) ZB)
  (Zh (Zn (pc Z.told hr1 rfl Zm (Za (pc D hr2 rfl Zm (Za (pv 1) Zd)) (Za (Zx Zd) Zd)))))),?_⟩;obtain⟨x,d,rfl,hd,hr'⟩:=Da hc rfl;rw[Zol] at k;refine Z9 hL.run rfl hd λH2 p s2 R2 hd2 hp hxl=>?_;refine⟨_,rfl,p,16,x,rfl,hp,by omega,λH3 s3=>⟨_,rfl,?_⟩⟩;have R3:=R2.same s3;cases e:JP 16 x with
 |false=>
  rw[UY e] at k;exact JT (R3.says (by rw[hd2];exact hr') k)
 |true=>
  rw[VU e] at k;obtain⟨_,_,px⟩:=YE e;refine Yh ⟨_,rfl,p,x,rfl,s3 _ _ hp,px,λH4 s4=>?_⟩;have R4:=R3.same s4;exact R4.says (by rw[hd2];exact hr') k
def ZnK:Zl ["line", "n", "a"] ["line"] (Ze (top 89)):=fsc
def ZnJ(Z:Kit P w K mg base W M L CN)(D:Def P w K mg base CX0 2 "shape" ["n", "a"] ZcO)(F:At K mg "answer_shape" (top 89) ["line"]):Def P w K mg base (CXF P w) 8 "answer_shape" ["line"] (spA K W M L CN 6):=by
 refine F.okX ZnK (λvs H Q E h=>Yf h) (λf _ A _ s H vs Q E hr h=>?_);obtain⟨Hi,Hs,c,ln,dx,l,t,mv,st,cl,r,rfl,hL,hl,hc,ha,k,_⟩:=h;have nd:=ZnK.nd;have hr1:=hr.mono (show 1<=7 by decide);have hr2:=hr.mono (show 2<=7 by decide);refine⟨_,Zc (Zk (i:=1) nd rfl (pm0 Z.num Z.ty.l hr1 Zm (pv 0))) (Zc (Zk (i:=2) nd rfl (pm0 Z.row Z.ty.l hr2 Zm (pv 0)))
  (Zc (ZW (Yx (Z1 (pc Z.isP hr1 rfl Zm (Za (pv 1) (Za (pv 2) Zd))))) (Zh (Zn (pc Z.told hr1 rfl Zm (Za (pk Z.g.c1 rfl) (Za (Zx Zd) Zd))))) ZB)
  (Zh (Zn (pc Z.told hr1 rfl Zm (Za Zq (Za (pc D hr2 rfl Zm (Za (pv 1) (Za (pv 2) Zd))) Zd))))))),?_⟩;obtain⟨z,x,d,rfl,hd,hr'⟩:=Vo hc rfl;rw[Zn9] at k;refine Jp hL.run rfl hd λH1 s1 R1 hd1=>Z9 R1 rfl hd1 λH2 p s2 R2 hd2 hp hxl=>?_;refine⟨_,rfl,_,rfl,p,z,x,rfl,hp,by omega,λH3 s3=>⟨_,rfl,?_⟩⟩;have R3:=R2.same s3;cases e:JP z x with
 |false=>
  rw[UY e] at k;exact JT (R3.says (by rw[hd2];exact hr') k)
 |true=>
  rw[VU e] at k;obtain⟨p1,p2,px⟩:=YE e;refine Yh ⟨_,rfl,_,rfl,p,z,x,rfl,s3 _ _ hp,p2,px,λH4 u s4 nu hu=>⟨0,u,_,rfl,hu,?_,λH5 v' s5 nv' hv=>?_⟩⟩
  ·rw[Zf,show(Rotor.shape z x).length=16 from RM.Zt _]
   decide
  ·have R4:=R3.same s4
   refine k _ H5 _ _ v' (R4.same s5) (by rw[hd2];exact hr') (R4.fr.free nv') ?_;rw[hv,Yo]
def ZmM:Zl ["line", "n", "a"] ["line"] (Ze (top 90)):=fsc
def Znm(Z:Kit P w K mg base W M L CN)(D:Def P w K mg base CX0 2 "goes_by_pairs" ["n", "a"] Zc6)(F:At K mg "answer_paired" (top 90) ["line"]):Def P w K mg base (CXF P w) 8 "answer_paired" ["line"] (spA K W M L CN 7):=by
 refine F.okX ZmM (λvs H Q E h=>Yf h) (λf _ A _ s H vs Q E hr h=>?_);obtain⟨Hi,Hs,c,ln,dx,l,t,mv,st,cl,r,rfl,hL,hl,hc,ha,k,_⟩:=h;have nd:=ZmM.nd;have hr1:=hr.mono (show 1<=7 by decide);have hr2:=hr.mono (show 2<=7 by decide);refine⟨_,Zc (Zk (i:=1) nd rfl (pm0 Z.num Z.ty.l hr1 Zm (pv 0))) (Zc (Zk (i:=2) nd rfl (pm0 Z.row Z.ty.l hr2 Zm (pv 0)))
  (Zc (ZW (Yx (Z1 (pc Z.isP hr1 rfl Zm (Za (pv 1) (Za (pv 2) Zd))))) (Zh (Zn (pc Z.told hr1 rfl Zm (Za (pk Z.g.c1 rfl) (Za (Zx Zd) Zd))))) ZB)
  (Zh (Zn (pc Z.told hr1 rfl Zm (Za (YV (Z1 (pc D hr2 rfl Zm (Za (pv 1) (Za (pv 2) Zd)))) Zq Zq) (Za (Zx Zd) Zd))))))),?_⟩;obtain⟨z,x,d,rfl,hd,hr'⟩:=Vo hc rfl;rw[Zou] at k;refine Jp hL.run rfl hd λH1 s1 R1 hd1=>Z9 R1 rfl hd1 λH2 p s2 R2 hd2 hp hxl=>?_;refine⟨_,rfl,_,rfl,p,z,x,rfl,hp,by omega,λH3 s3=>⟨_,rfl,?_⟩⟩;have R3:=R2.same s3;cases e:JP z x with
 |false=>
  rw[UY e] at k;exact JT (R3.says (by rw[hd2];exact hr') k)
 |true=>
  rw[VU e] at k;obtain⟨p1,p2,px⟩:=YE e;refine Yh ⟨_,rfl,_,rfl,p,z,x,rfl,s3 _ _ hp,p2,px,λH4 s4=>⟨_,rfl,?_⟩⟩;have R4:=R3.same s4;refine Jl (λe=>?_) λe=>?_
  ·rw[if_pos e] at k
   exact R4.says (by rw[hd2];exact hr') k
  ·rw[if_neg e] at k
   exact R4.says (by rw[hd2];exact hr') k
end
theorem YR{α β:Type}{f:α->List β}{n:Nat}:∀{l:List α},(∀a,a∈l->(f a).length<=n)->(l.flatMap f).length<=n*l.length
 | [],_=>by simp
 |a::l,h=>by
  have h1:=h a mem_cons_self;have h2:=YR (f:=f) (n:=n) (l:=l) λb hb=>h b (mem_cons_of_mem _ hb);rw[flatMap_cons,length_append,length_cons,Nat.mul_add,Nat.mul_one];omega
def D8{m:Rotor.Machine}{p:List Nat}(g:RM.Mach m):(RM.U3 m p).length<=1000:=by
 have n16:=g.n16;have k4:=g.k4;have h:((m.wheels.zip p).flatMap RM.J7).length<=21*(m.wheels.zip p).length:=YR λx hx=>by
  obtain⟨w,s⟩:=x;have hw:=(g.wires w (of_mem_zip hx).1).len;unfold RM.J7;rw[length_append];show 5+w.wires.length<=21;omega
 have hz:(m.wheels.zip p).length<=4:=by rw[length_zip];omega
 unfold RM.U3;rw[length_append,length_append,length_append,g.first.len,g.last.len];show 3+(m.n+m.n)+_<=1000;omega
section
variable{P:Program}{w:World}{K:Frag}{mg:Str->Option Value}{base:Heap}{W M L C CN:Addr}
def Uc(a b:Nat):decide ((b:Int)<(a:Int))=decide (b<a):=by
 rw[Bool.eq_iff_iff,decide_eq_true_eq,decide_eq_true_eq];omega
def ZmR:Zl ["line", "s"] ["line"] (Ze (top 92)):=fsc
def ZmT(Z:Kit P w K mg base W M L CN)(D:Def P w K mg base CX0 3 "bytes_of" ["machine"] (ZcU W M))(F:At K mg "answer_write" (top 92) ["line"]):Def P w K mg base (CXF P w) 8 "answer_write" ["line"] (spA K W M L CN 9):=by
 refine F.okX ZmR (λvs H Q E h=>Yf h) (λf _ A _ s H vs Q E hr h=>?_);obtain⟨Hi,Hs,c,ln,dx,l,t,mv,st,cl,r,rfl,hL,hl,hc,ha,k,kE⟩:=h;have nd:=ZmR.nd;have hr1:=hr.mono (show 1<=7 by decide);have hr3:=hr.mono (show 3<=7 by decide);refine⟨_,Zc (Zk (i:=1) nd rfl (pc D hr3 rfl Zm (Za (pm0 Z.there Z.ty.l hr1 ZH (pv 0)) Zd)))
  (Zh (Zn (pc Z.bytes hr1 rfl Zm (Za (Zv Zp rfl Z.g.len PySem.boot_len (Za (pv 1) Zd)) (Za (pv 1) Zd))))),?_⟩;obtain⟨rfl,hr'⟩:=Zdz hc rfl;have R:=hL.run;refine Yd R rfl (λe=>?_) λm p a e1 e2 hm g hs=>?_
 ·subst e
  exact kE _ _ _ _ R hr' rfl
 ·subst e1
  have k:∀(Hs' H':Hp) (t':Nat) (mv':V) (q:Addr),Run K W M L Hi c l ln dx Hs H Hs' H' t' mv' (some ⟨m,p⟩)->Rotorwork.ints (l.drop t')=r->H q=none->H' q=some (.lst (iv (numbersOf (Rotorwork.gives (Rotor.bytesOf m p)))))->Q (.ref q) H':=k;refine⟨a,m,p,rfl,hm.same R.hs,g,hs,λH1 b s1 nb hb=>?_⟩;have R1:=R.same s1;rw[<- RM.UU g hs] at hb;refine⟨_,rfl,b,_,rfl,.inl (SqL.of hb),_,rfl,_,b,_,rfl,hb,?_,λH2 q s2 nq hq=>?_⟩
  ·rw[Zf,RM.UU g hs]
   have:=D8 (p:=p) g;omega
  ·refine k _ H2 _ _ q (R1.same s2) hr' (R1.fr.free nq) ?_
   rw[hq,Zel,Zf,RM.Jd];rfl
def ZkI:Zl ["line", "machine"] ["line"] (Ze (top 93)):=fsc
def Zll(Z:Kit P w K mg base W M L CN)(D:Def P w K mg base CX0 2 "stands_now" ["machine"] (Zgs W M))(F:At K mg "answer_places" (top 93) ["line"]):Def P w K mg base (CXF P w) 8 "answer_places" ["line"] (spA K W M L CN 10):=by
 refine F.okX ZkI (λvs H Q E h=>Yf h) (λf _ A _ s H vs Q E hr h=>?_);obtain⟨Hi,Hs,c,ln,dx,l,t,mv,st,cl,r,rfl,hL,hl,hc,ha,k,kE⟩:=h;have nd:=ZkI.nd;have hr1:=hr.mono (show 1<=7 by decide);have hr2:=hr.mono (show 2<=7 by decide);refine⟨_,Zc (Zk (i:=1) nd rfl (pm0 Z.there Z.ty.l hr1 ZH (pv 0)))
  (Zh (Zn (pc Z.told hr1 rfl Zm (Za (Zv Zp rfl Z.g.len PySem.boot_len (Za (Zu (pv 1) rfl) Zd)) (Za (pc D hr2 rfl Zm (Za (pv 1) Zd)) Zd))))),?_⟩;obtain⟨rfl,hr'⟩:=Zdz hc rfl;have R:=hL.run;refine Yd R rfl (λe=>?_) λm p a e1 e2 hm g hs=>?_
 ·subst e
  exact kE _ _ _ _ R hr' rfl
 ·subst e1
  have k:∀(Hs' H':Hp) (t':Nat) (mv':V) (q:Addr),Run K W M L Hi c l ln dx Hs H Hs' H' t' mv' (some ⟨m,p⟩)->Rotorwork.ints (l.drop t')=r->H q=none->H' q=some (.lst (iv (numbersOf (tells (p.length:Nat) p))))->Q (.ref q) H':=k;have hm:=hm.same R.hs;obtain⟨dm,af,al,aw,aF,as,h1,h2⟩:=id hm;refine⟨_,rfl,a,_,_,_,_,rfl,h1,Z.ty.m,Z.ty.mn _ (by decide),rfl,aw,_,rfl,.inl (SqL.of h2.wheels),_,rfl,a,m,p,rfl,hm,g,hs,λH1 b s1 nb hb=>?_⟩;have R1:=R.same s1;have e3:(rv as).length=p.length:=by rw[Zw,h2.ws.len,hs.len]
  have p4:p.length<=4:=by have:=g.k4;have:=hs.len;omega
  rw[e3];refine⟨_,b,_,rfl,hb,by rw[Zf];omega,λH2 q s2 nq hq=>k _ H2 _ _ q (R1.same s2) hr' (R1.fr.free nq) ?_⟩;rw[hq,Yo]
def ZmW:List Str:=["line", "p", "machine", "stand"]
def Zku:Zl ZmW ["line"] (Ze (top 94)):=fsc
def ZmQ{m:Rotor.Machine}{p x:List Nat}:stp (some ⟨m,p⟩) [[((11:Nat):Int)],Rotorwork.ints x]=if x.length≠m.wheels.length\/(x.any λy=>decide (m.n<=y))=true then (some ⟨m,p⟩,numbersOf (says (-1))) else (some ⟨m,x⟩,numbersOf (says 0)):=by
 show((some (Rotorwork.on ⟨m,p⟩ (.put (nats (Rotorwork.ints x)))).1:Rotorwork.State),numbersOf (Rotorwork.on ⟨m,p⟩ (.put (nats (Rotorwork.ints x)))).2)=_;rw[Z4];show((some (if x.length≠m.wheels.length\/(x.any λ(y:Nat)=>decide (m.n<=y))=true then ((⟨m,p⟩ : Rotorwork.Rec),says (-1)) else (⟨m,x⟩,says 0)).1:Rotorwork.State),numbersOf (if x.length≠m.wheels.length\/(x.any λ(y:Nat)=>decide (m.n<=y))=true then ((⟨m,p⟩ : Rotorwork.Rec),says (-1)) else (⟨m,x⟩,says 0)).2)=_;split<;>rfl
def Zk9(Z:Kit P w K mg base W M L CN)(D:Def P w K mg base CX0 1 "number_of" ["n", "stands"] Ub)(F:At K mg "answer_put" (top 94) ["line"]):Def P w K mg base (CXF P w) 8 "answer_put" ["line"] (spA K W M L CN 11):=by
 refine F.okX Zku (λvs H Q E h=>Yf h) (λf _ A _ s H vs Q E hr h=>?_);obtain⟨Hi,Hs,c,ln,dx,l,t,mv,st,cl,r,rfl,hL,hl,hc,ha,k,kE⟩:=h;have nd:=Zku.nd;have hr1:=hr.mono (show 1<=7 by decide);have hr2:=hr.mono (show 2<=7 by decide);refine⟨_,Zc (Zk (i:=1) nd rfl (pm0 Z.row Z.ty.l hr2 Zm (pv 0))) (Zc (Zk (i:=2) nd rfl (pm0 Z.there Z.ty.l hr1 ZH (pv 0)))
  (Zc (ZW (PW.pt (Zeu (ZJ Zb0 (Zv Zp rfl Z.g.len PySem.boot_len (Za (pv 1) Zd)) (Zv Zp rfl Z.g.len PySem.boot_len (Za (Zu (pv 2) rfl) Zd)) (ZG _))
    (ZcM (Z1 (Zv (ZlT rfl) rfl Z.g.any boot_any (Za (YA rfl nd (ZR (pv 1)) (own:=[("stand",3)]) (ZP (N:=ZmW) (sc:=Ze (top 94)) (by decide +kernel)) (λ_ _ _ _ _=>Zo (i:=3) nd rfl) (λ_ _ _ _ _=>Jf)
     (te:=tOp (rI0 λi j=>.bl (decide (j<=i))) (V2 3) (ZkV K (V2 2) "letters")) (λ_ _ _ _ _=>JG ZkC (pv 3) (Zu (pv 2) rfl) (ZG _))) Zd))))))
   (Zh (Zn (pc Z.told hr1 rfl Zm (Za (pk Z.g.c1 rfl) (Za (Zx Zd) Zd))))) ZB)
  (Zc (Jm (pv 2) (pc D hr1 rfl Zm (Za (Zu (pv 2) rfl) (Za (pv 1) Zd))) rfl)
  (Zh (Zn (pc Z.told hr1 rfl Zm (Za Zq (Za (Zx Zd) Zd)))))))),?_⟩;obtain⟨x,d,rfl,hd,hr'⟩:=Da hc rfl;refine Z9 hL.run rfl hd λH1 q s1 R1 hd1 hq hxl=>Yd R1 rfl (λe=>?_) λm p a e1 e2 hm g hs=>?_
 ·subst e
  exact kE _ _ _ _ R1 (by rw[hd1];exact hr') rfl
 ·subst e1 e2
  rw[ZmQ] at k;obtain⟨dm,af,al,aw,aF,as,h1,h2⟩:=hm;have h1':=R1.hs _ _ h1;have h2':=h2.same R1.hs;have wl:(rv as).length=m.wheels.length:=by rw[Zw,h2.ws.len]
  have hr'':Rotorwork.ints (l.drop (t+1+x.length))=r:=by rw[hd1];exact hr'
  refine⟨_,rfl,q,_,rfl,.inl (SqL.of hq),_,rfl,a,_,_,_,_,rfl,h1',Z.ty.m,Z.ty.mn _ (by decide),rfl,aw,_,rfl,.inl (SqL.of h2'.wheels),rfl,_,rfl,?_⟩;rw[Zf,wl,Yb];refine Jl (λe=>JT ?_) λe=>?_
  ·rw[Bool.not_eq_true',decide_eq_false_iff_not] at e
   rw[if_pos (.inl e)] at k;exact R1.says hr'' k
  ·have e:x.length=m.wheels.length:=by
    rw[Bool.not_eq_true',decide_eq_false_iff_not,Classical.not_not] at e;exact e
   refine⟨_,rfl,q,rfl,⟨_,SqL.of hq⟩,λD2 hD2=>?_⟩;refine Ji (K:=K) (a:=q) (xs:=nv x) (λi H'=>Same H1 H'/\H' D2=some (.lst (bv ((x.take i).map λy=>decide (m.n<=y))))) ⟨Zg hD2,Zb⟩ (λi H' _ h=>SqL.of (h.1 _ _ hq)) ?_ ?_
   ·rintro i y H' hi ⟨sm,hD'⟩
    obtain⟨y,hy,rfl⟩:=JA hi;refine⟨rfl,lcY ⟨_,rfl,_,rfl,a,_,_,_,_,rfl,sm _ _ h1',Z.ty.m,Z.ty.mn _ (by decide),rfl,_,_,rfl,rfl,_,hD',?_,Same.upd sm hD2,?_⟩⟩
    ·rw[Jv,length_map,length_take]
     exact ZF (by omega)
    ·rw[Zb,ZN hy,U4]
     have:decide ((m.n:Int)<=(y:Int))=decide (m.n<=y):=by
      rw[Bool.eq_iff_iff,decide_eq_true_eq,decide_eq_true_eq];omega
     rw[<- this]
   ·rintro H2 ⟨s2,hD'⟩
    rw[Zf,take_length] at hD';have R2:=R1.same s2;refine⟨D2,_,rfl,SqL.of hD',_,rfl,?_⟩;rw[any_map];refine Jl (λe5=>?_) λe5=>?_
    ·have e5:(x.any λy=>decide (m.n<=y))=true:=e5
     rw[if_pos (.inr e5)] at k;exact R2.says hr'' k
    ·have e5:¬ (x.any λy=>decide (m.n<=y))=true:=e5
     rw[if_neg (λy=>y.elim (λy=>y e) e5)] at k;have hx:RM.St m x:=⟨e,λy hy=>by
      refine Nat.lt_of_not_le λq=>e5 (any_eq_true.mpr ⟨y,hy,decide_eq_true q⟩)⟩
     refine⟨_,rfl,a,_,_,_,_,rfl,s2 _ _ h1',Z.ty.m,Z.ty.mn _ (by decide),rfl,_,rfl,q,m.n,x,rfl,s2 _ _ hq,g.n16,λH3 s3=>?_⟩;have R3:=R2.same s3;refine⟨_,rfl,a,_,_,_,rfl,s3 _ _ (s2 _ _ h1'),Z.ty.m,Z.ty.mn _ (by decide),V3 7 rfl,?_⟩;have R4:=R3.put (p':=x) g h1 h2 (SameBut.refl a H3).upd Zb hx;exact R4.says hr'' k
def Zkz:Zl ["line", "k", "machine"] ["line"] (Ze (top 95)):=fsc
def Zm1{m:Rotor.Machine}{p:List Nat}{z:Nat}:stp (some ⟨m,p⟩) [[((12:Nat):Int),(z:Int)]]=if 10000<z then (some ⟨m,p⟩,numbersOf (says (-2))) else (some ⟨m,m.steps z p⟩,numbersOf (says 0)):=by
 show((some (if 10000<z then ((⟨m,p⟩ : Rotorwork.Rec),says (-2)) else (⟨m,m.steps z p⟩,says 0)).1:Rotorwork.State),numbersOf (if 10000<z then ((⟨m,p⟩ : Rotorwork.Rec),says (-2)) else (⟨m,m.steps z p⟩,says 0)).2)=_;split<;>rfl
def ZlD(Z:Kit P w K mg base W M L CN)(D:Def P w K mg base CX0 1 "number_after" ["machine", "steps"] (Vm W M))(F:At K mg "answer_steps" (top 95) ["line"]):Def P w K mg base (CXF P w) 8 "answer_steps" ["line"] (spA K W M L CN 12):=by
 refine F.okX Zkz (λvs H Q E h=>Yf h) (λf _ A _ s H vs Q E hr h=>?_);obtain⟨Hi,Hs,c,ln,dx,l,t,mv,st,cl,r,rfl,hL,hl,hc,ha,k,kE⟩:=h;have nd:=Zkz.nd;have hr1:=hr.mono (show 1<=7 by decide);refine⟨_,Zc (Zk (i:=1) nd rfl (pm0 Z.num Z.ty.l hr1 Zm (pv 0))) (Zc (Zk (i:=2) nd rfl (pm0 Z.there Z.ty.l hr1 ZH (pv 0)))
  (Zc (ZW (ZJ Vy (pv 1) (pk Z.g.far rfl) (ZG _)) (Zh (Zn (pc Z.told hr1 rfl Zm (Za (pk Z.g.c2 rfl) (Za (Zx Zd) Zd))))) ZB)
  (Zc (Jm (pv 2) (pc D hr1 rfl Zm (Za (pv 2) (Za (pv 1) Zd))) rfl)
  (Zh (Zn (pc Z.told hr1 rfl Zm (Za Zq (Za (Zx Zd) Zd)))))))),?_⟩;obtain⟨z,d,rfl,hd,hr'⟩:=ZaW hc rfl;refine Jp hL.run rfl hd λH1 s1 R1 hd1=>Yd R1 rfl (λe=>?_) λm p a e1 e2 hm g hs=>?_
 ·subst e
  exact kE _ _ _ _ R1 (by rw[hd1];exact hr') rfl
 ·subst e1 e2
  rw[Zm1] at k;have hr'':Rotorwork.ints (l.drop (t+1))=r:=by rw[hd1];exact hr'
  refine⟨_,rfl,_,_,rfl,rfl,_,rfl,?_⟩;rw[show(10000:Int)=((10000:Nat):Int) from rfl,Uc];refine Jl (λe=>?_) λe=>?_
  ·rw[if_pos (of_decide_eq_true e)] at k
   exact R1.says hr'' k
  ·have e:¬ 10000<z:=λy=>e (decide_eq_true y)
   rw[if_neg e] at k;refine⟨_,rfl,_,rfl,a,m,p,z,rfl,hm.same R1.hs,g,hs,by omega,λH2 s2=>?_⟩;obtain⟨dm,af,al,aw,aF,as,h1,h2⟩:=hm;have R2:=R1.same s2;refine⟨_,rfl,a,_,_,_,rfl,R2.hs _ _ h1,Z.ty.m,Z.ty.mn _ (by decide),V3 7 rfl,?_⟩;have R4:=R2.put (p':=m.steps z p) g h1 h2 (SameBut.refl a H2).upd Zb (hs.steps g.toGood z);exact R4.says hr'' k
def Zky:Zl ["line", "k", "machine"] ["line"] (Ze (top 96)):=fsc
def ZmY{m:Rotor.Machine}{p:List Nat}{z:Nat}:stp (some ⟨m,p⟩) [[((13:Nat):Int),(z:Int)]]=(some ⟨m,p⟩,numbersOf (if 10000<z then says (-2) else tells 0 (m.perm (m.steps z p)))):=rfl
def Zmb(Z:Kit P w K mg base W M L CN)(D:Def P w K mg base CX0 1 "number_after" ["machine", "steps"] (Vm W M))(D2:Def P w K mg base CX0 3 "setting" ["machine", "number"] (ZcQ W M))(F:At K mg "answer_perm" (top 96) ["line"]):Def P w K mg base (CXF P w) 8 "answer_perm" ["line"] (spA K W M L CN 13):=by
 refine F.okX Zky (λvs H Q E h=>Yf h) (λf _ A _ s H vs Q E hr h=>?_);obtain⟨Hi,Hs,c,ln,dx,l,t,mv,st,cl,r,rfl,hL,hl,hc,ha,k,kE⟩:=h;have nd:=Zky.nd;have hr1:=hr.mono (show 1<=7 by decide);have hr3:=hr.mono (show 3<=7 by decide);refine⟨_,Zc (Zk (i:=1) nd rfl (pm0 Z.num Z.ty.l hr1 Zm (pv 0))) (Zc (Zk (i:=2) nd rfl (pm0 Z.there Z.ty.l hr1 ZH (pv 0)))
  (Zc (ZW (ZJ Vy (pv 1) (pk Z.g.far rfl) (ZG _)) (Zh (Zn (pc Z.told hr1 rfl Zm (Za (pk Z.g.c2 rfl) (Za (Zx Zd) Zd))))) ZB)
  (Zh (Zn (pc Z.told hr1 rfl Zm (Za Zq (Za (pc D2 hr3 rfl Zm (Za (pv 2) (Za (pc D hr1 rfl Zm (Za (pv 2) (Za (pv 1) Zd))) Zd))) Zd))))))),?_⟩;obtain⟨z,d,rfl,hd,hr'⟩:=ZaW hc rfl;refine Jp hL.run rfl hd λH1 s1 R1 hd1=>Yd R1 rfl (λe=>?_) λm p a e1 e2 hm g hs=>?_
 ·subst e
  exact kE _ _ _ _ R1 (by rw[hd1];exact hr') rfl
 ·subst e1 e2
  rw[ZmY] at k;have hr'':Rotorwork.ints (l.drop (t+1))=r:=by rw[hd1];exact hr'
  refine⟨_,rfl,_,_,rfl,rfl,_,rfl,?_⟩;rw[show(10000:Int)=((10000:Nat):Int) from rfl,Uc];refine Jl (λe=>?_) λe=>?_
  ·rw[if_pos (of_decide_eq_true e)] at k
   exact R1.says hr'' k
  ·have e:¬ 10000<z:=λy=>e (decide_eq_true y)
   rw[if_neg e] at k;have hm:=hm.same R1.hs;have hq:=hs.steps g.toGood z;refine⟨_,rfl,_,rfl,_,rfl,a,m,p,z,rfl,hm,g,hs,by omega,λH2 s2=>⟨a,m,_,m.steps z p,rfl,hm.same s2,g,hq,λH3 b s3 nb hb=>?_⟩⟩;have R3:=(R1.same s2).same s3;refine⟨0,b,_,rfl,hb,?_,λH4 u s4 nu hu=>k _ H4 _ _ u (R3.same s4) hr'' (R3.fr.free nu) ?_⟩
   ·rw[Zf,(RM.Vn g hq).len]
    decide
   ·rw[hu,Yo,RM.Zci g hq]
end
def Zgp{x:List Nat}(h:((Rotorwork.ints x).all λz=>RotorworkNeutral.natural z 8)=true):RM.bn (RotorworkNeutral.text (Rotorwork.ints x))=x/\(RotorworkNeutral.text (Rotorwork.ints x)).length=x.length:=by
 unfold RotorworkNeutral.text;rw[Z4];refine⟨?_,length_map ..⟩;unfold RM.bn;rw[map_map];conv=>rhs;rw[<- map_id x]
 refine map_congr_left λz hz=>?_;have:=all_eq_true.mp h (z:Int) (mem_map.mpr ⟨z,hz,rfl⟩);unfold RotorworkNeutral.natural at this;rw[Bool.and_eq_true,decide_eq_true_eq,decide_eq_true_eq] at this;have hz:z<256:=by omega
 show(UInt8.ofNat z).toNat=z;rw[UInt8.toNat_ofNat',Nat.mod_eq_of_lt hz]
theorem Dc(m:Rotor.Machine)(u:Bool):∀(s:Rotor.Bytes) (p:List Nat),(m.text u s p).1.length=s.length
 | [],p=>rfl
 |c::r,p=>by
  rw[Rotor.Machine.text];cases h:Rotor.letterOf m.n c with
  |none=>
   show(m.text u r p).1.length+1=r.length+1;rw[Dc m u r p]
  |some x=>
   show(m.text u r (m.step p)).1.length+1=r.length+1;rw[Dc m u r _]
section
variable{P:Program}{w:World}{K:Frag}{mg:Str->Option Value}{base:Heap}{W M L C CN:Addr}
def ZkL:Zl ["line", "undo", "s", "machine"] ["line"] (Ze (top 97)):=fsc
def ZnG{m:Rotor.Machine}{p x:List Nat}{z:Nat}:stp (some ⟨m,p⟩) [[((14:Nat):Int),(z:Int)],Rotorwork.ints x]=if 1024<(RotorworkNeutral.text (Rotorwork.ints x)).length then (some ⟨m,p⟩,numbersOf (says (-2))) else if 1<z then (some ⟨m,p⟩,numbersOf (says (-1))) else
  (some ⟨m,(m.text (z==1) (RotorworkNeutral.text (Rotorwork.ints x)) p).2.2⟩,numbersOf ⟨((m.text (z==1) (RotorworkNeutral.text (Rotorwork.ints x)) p).2.1:Nat),(m.text (z==1) (RotorworkNeutral.text (Rotorwork.ints x)) p).1,[]⟩):=by
 show((some (Rotorwork.on ⟨m,p⟩ (.text z (RotorworkNeutral.text (Rotorwork.ints x)))).1:Rotorwork.State),numbersOf (Rotorwork.on ⟨m,p⟩ (.text z (RotorworkNeutral.text (Rotorwork.ints x)))).2)=_;generalize RotorworkNeutral.text (Rotorwork.ints x)=b;unfold Rotorwork.on;show((some (if 1024<b.length then ((⟨m,p⟩ : Rotorwork.Rec),says (-2)) else if 1<z then ((⟨m,p⟩ : Rotorwork.Rec),says (-1)) else (⟨m,(m.text (z==1) b p).2.2⟩,⟨((m.text (z==1) b p).2.1:Nat),(m.text (z==1) b p).1,[]⟩)).1:Rotorwork.State),
  numbersOf (if 1024<b.length then ((⟨m,p⟩ : Rotorwork.Rec),says (-2)) else if 1<z then ((⟨m,p⟩ : Rotorwork.Rec),says (-1)) else (⟨m,(m.text (z==1) b p).2.2⟩,⟨((m.text (z==1) b p).2.1:Nat),(m.text (z==1) b p).1,[]⟩)).2)=_;by_cases h1:1024<b.length
 ·rw[if_pos h1,if_pos h1]
 ·rw[if_neg h1,if_neg h1]
  by_cases h2:1<z
  ·rw[if_pos h2,if_pos h2]
  ·rw[if_neg h2,if_neg h2]
def ZkU(Z:Kit P w K mg base W M L CN)(D:Def P w K mg base CX0 2 "letters_in" ["machine", "s"] (Zde W M))(D2:Def P w K mg base CX0 5 "text_through" ["machine", "undo", "s"] (Zfe W M))(F:At K mg "answer_text" (top 97) ["line"]):Def P w K mg base (CXF P w) 8 "answer_text" ["line"] (spA K W M L CN 14):=by
 refine F.okX ZkL (λvs H Q E h=>Yf h) (λf _ A _ s H vs Q E hr h=>?_);obtain⟨Hi,Hs,c,ln,dx,l,t,mv,st,cl,r,rfl,hL,hl,hc,ha,k,kE⟩:=h;have nd:=ZkL.nd;have hr1:=hr.mono (show 1<=7 by decide);have hr2:=hr.mono (show 2<=7 by decide);have hr5:=hr.mono (show 5<=7 by decide);refine⟨_,Zc (Zk (i:=1) nd rfl (pm0 Z.num Z.ty.l hr1 Zm (pv 0))) (Zc (Zk (i:=2) nd rfl (pm0 Z.row Z.ty.l hr2 Zm (pv 0))) (Zc (Zk (i:=3) nd rfl (pm0 Z.there Z.ty.l hr1 ZH (pv 0)))
  (Zc (ZW (ZJ Vy (Zv Zp rfl Z.g.len PySem.boot_len (Za (pv 2) Zd)) (pk Z.g.text rfl) (ZG _)) (Zh (Zn (pc Z.told hr1 rfl Zm (Za (pk Z.g.c2 rfl) (Za (Zx Zd) Zd))))) ZB)
  (Zc (ZW (ZJ Vy (pv 1) Zq (ZG _)) (Zh (Zn (pc Z.told hr1 rfl Zm (Za (pk Z.g.c1 rfl) (Za (Zx Zd) Zd))))) ZB)
  (Zh (Zn (pc Z.bytes hr1 rfl Zm (Za (pc D hr2 rfl Zm (Za (pv 3) (Za (pv 2) Zd))) (Za (pc D2 hr5 rfl Zm (Za (pv 3) (Za (JG Vv (pv 1) Zq (ZG _)) (Za (pv 2) Zd)))) Zd))))))))),?_⟩;obtain⟨z,x,d,rfl,hd,hr'⟩:=Vo hc rfl;have ha:(RotorworkNeutral.natural (z:Int) 64&&(Rotorwork.ints x).all λz=>RotorworkNeutral.natural z 8)=true:=ha;rw[Bool.and_eq_true] at ha;obtain⟨eb,el⟩:=Zgp ha.2;refine Jp hL.run rfl hd λH0 s0 R0 hd0=>Z9 R0 rfl hd0 λH1 q s1 R1 hd1 hq hxl=>Yd R1 rfl (λe=>?_) λm p a e1 e2 hm g hs=>?_
 ·subst e
  exact kE _ _ _ _ R1 (by rw[hd1];exact hr') rfl
 ·subst e1 e2
  rw[ZnG,el] at k;have hr'':Rotorwork.ints (l.drop (t+1+1+x.length))=r:=by rw[hd1];exact hr'
  generalize RotorworkNeutral.text (Rotorwork.ints x)=b at *;refine⟨_,rfl,q,_,rfl,.inl (SqL.of hq),_,_,rfl,rfl,_,rfl,?_⟩;rw[Zf,show(1024:Int)=((1024:Nat):Int) from rfl,Uc];refine Jl (λe=>?_) λe=>?_
  ·rw[if_pos (of_decide_eq_true e)] at k
   exact R1.says hr'' k
  ·have e:¬ 1024<x.length:=λy=>e (decide_eq_true y)
   rw[if_neg e] at k;refine⟨_,rfl,_,_,rfl,rfl,_,rfl,?_⟩;rw[show(1:Int)=((1:Nat):Int) from rfl,Uc];refine Jl (λe=>?_) λe=>?_
   ·rw[if_pos (of_decide_eq_true e)] at k
    exact R1.says hr'' k
   ·have e2:¬ 1<z:=λy=>e (decide_eq_true y)
    rw[if_neg e2] at k;rw[<- eb] at hq;have hmH:=hm.same R1.hs;refine⟨_,rfl,_,rfl,a,q,m,_,RM.bn b,rfl,hmH,hq,by rw[RM.Jd];omega,λH2 s2=>?_⟩;have R2:=R1.same s2;obtain⟨dm,af,al,aw,aF,as,h1,h2⟩:=hm;refine⟨_,rfl,_,rfl,rfl,_,rfl,a,q,dm,af,al,aw,aF,as,m,p,z==1,b,?_,R2.hs _ _ h1,h2.same R2.hs,g,hs,s2 _ _ hq,by omega,λH3 u s3 e3 hst nu hu=>?_⟩
    ·rw[Yb]
     rfl
    ·have R3:=R2.put g h1 h2 s3 e3 hst
     refine⟨_,u,_,rfl,hu,?_,λH4 v s4 nv' hv=>k _ H4 _ _ v (R3.same s4) hr'' (R3.fr.free nv') ?_⟩
     ·rw[Zf,RM.Jd,Dc]
      omega
     ·rw[hv,Zel,RM.UX g b p hs]
def ZkG:Zl ["line", "most", "machine", "found"] ["line"] (Ze (top 98)):=fsc
def ZnE{m:Rotor.Machine}{p:List Nat}{z:Nat}:stp (some ⟨m,p⟩) [[((15:Nat):Int),(z:Int)]]=(some ⟨m,p⟩,numbersOf (if 2000<z then says (-2) else match m.period p z with|some x=>tells 0 [x.1,x.2]|none=>says 1)):=rfl
def ZlQ(Z:Kit P w K mg base W M L CN)(D:Def P w K mg base CX0 1 "period" ["machine", "most"] (Dy W M))(F:At K mg "answer_period" (top 98) ["line"]):Def P w K mg base (CXF P w) 8 "answer_period" ["line"] (spA K W M L CN 15):=by
 refine F.okX ZkG (λvs H Q E h=>Yf h) (λf _ A _ s H vs Q E hr h=>?_);obtain⟨Hi,Hs,c,ln,dx,l,t,mv,st,cl,r,rfl,hL,hl,hc,ha,k,kE⟩:=h;have nd:=ZkG.nd;have hr1:=hr.mono (show 1<=7 by decide);refine⟨_,Zc (Zk (i:=1) nd rfl (pm0 Z.num Z.ty.l hr1 Zm (pv 0))) (Zc (Zk (i:=2) nd rfl (pm0 Z.there Z.ty.l hr1 ZH (pv 0)))
  (Zc (ZW (ZJ Vy (pv 1) (pk Z.g.per rfl) (ZG _)) (Zh (Zn (pc Z.told hr1 rfl Zm (Za (pk Z.g.c2 rfl) (Za (Zx Zd) Zd))))) ZB)
  (Zc (Zk (i:=3) nd rfl (pc D hr1 rfl Zm (Za (pv 2) (Za (pv 1) Zd))))
  (Zc (ZW (Zfr (ZhU (pv 3))) (Zh (Zn (pc Z.told hr1 rfl Zm (Za Zq (Za (Zx Zd) Zd))))) ZB)
  (Zh (Zn (pc Z.told hr1 rfl Zm (Za Zq (Za (pv 3) Zd))))))))),?_⟩;obtain⟨z,d,rfl,hd,hr'⟩:=ZaW hc rfl;refine Jp hL.run rfl hd λH1 s1 R1 hd1=>Yd R1 rfl (λe=>?_) λm p a e1 e2 hm g hs=>?_
 ·subst e
  exact kE _ _ _ _ R1 (by rw[hd1];exact hr') rfl
 ·subst e1 e2
  rw[ZnE] at k;have hr'':Rotorwork.ints (l.drop (t+1))=r:=by rw[hd1];exact hr'
  refine⟨_,rfl,_,_,rfl,rfl,_,rfl,?_⟩;rw[show(2000:Int)=((2000:Nat):Int) from rfl,Uc];refine Jl (λe=>?_) λe=>?_
  ·rw[if_pos (of_decide_eq_true e)] at k
   exact R1.says hr'' k
  ·have e:¬ 2000<z:=λy=>e (decide_eq_true y)
   rw[if_neg e] at k;refine⟨_,rfl,_,rfl,a,m,p,z,rfl,hm.same R1.hs,g,hs,by omega,λep H2 s2=>?_,λi j ep H2 b s2 nb hb=>?_⟩
   ·have R2:=R1.same s2
    rw[ep] at k;refine⟨_,rfl,_,rfl,JT ?_⟩;exact R2.says hr'' k
   ·have R2:=R1.same s2
    rw[ep] at k;refine⟨_,rfl,_,rfl,Yh ⟨_,rfl,0,b,_,rfl,hb,(show 2<=500000 by decide),λH3 u s3 nu hu=>k _ H3 _ _ u (R2.same s3) hr'' (R2.fr.free nu) ?_⟩⟩;rw[hu,Yo]
end
def ZfP(xs:List V)(i j:Nat):Ds xs (some (i:Int)) (some ((i:Int)+(j:Int)))=(xs.drop i).take j:=by
 unfold Ds;rw[show(i:Int)+(j:Int)=((i+j:Nat):Int) by omega,HT.sIx_nat,HT.sIx_nat];rcases Nat.le_total i xs.length with h|h
 ·rw[Nat.min_eq_left h]
  rcases Nat.le_total (i+j) xs.length with h2|h2
  ·rw[Nat.min_eq_left h2,Nat.add_sub_cancel_left]
  ·rw[Nat.min_eq_right h2,take_of_length_le (by rw[length_drop];omega),take_of_length_le (by rw[length_drop];omega)]
 ·rw[Nat.min_eq_right h,Nat.min_eq_right (by omega),List.drop_length,List.drop_eq_nil_of_le h,List.take_nil,List.take_nil]
def Zbk{m:Rotor.Machine}{p:List Nat}{k:List Rotor.Known}(hn:m.n<=16){d:List Nat}(h:d∈m.boards p k):d.length=m.n:=by
 unfold Rotor.Machine.boards at h;have h:=(mem_filter.mp (List.mem_mergeSort.mp h)).1;exact(RM.Yt hn _ (λx hx=>(RM.Z7.mp hx).1) (RM.Up m.n) h).1.len
section
variable{P:Program}{w:World}{K:Frag}{mg:Str->Option Value}{base:Heap}{W M L C CN:Addr}
def Zot:List Str:=["line", "start", "numbers", "machine", "allowed", "result", "number"]
def ZkE:Zl Zot ["line"] (Ze (top 99)):=fsc
def ZmI{m:Rotor.Machine}{p x:List Nat}{z:Nat}:stp (some ⟨m,p⟩) [[((16:Nat):Int),(z:Int)],Rotorwork.ints x]=(some ⟨m,p⟩,numbersOf (Rotorwork.ofKnown m x λk=>if 4096<m.n^m.wheels.length then says (-2) else Rotorwork.shown z (m.stands k))):=by
 show((some ⟨m,p⟩ : Rotorwork.State),numbersOf (Rotorwork.ofKnown m (nats (Rotorwork.ints x)) λk=>if 4096<m.n^m.wheels.length then says (-2) else Rotorwork.shown z (m.stands k)))=_;rw[Z4]
def Zlm(Z:Kit P w K mg base W M L CN)(D1:Def P w K mg base CX0 2 "is_known" ["n", "numbers"] Zjp)(D2:Def P w K mg base CX0 3 "allowed_stands" ["machine", "known"] (ZcJ W M))(D3:Def P w K mg base CX0 1 "known_from" ["numbers"] Zhc)
  (D4:Def P w K mg base CX0 1 "stands_of" ["n", "how_many", "number"] Vz) (F:At K mg "answer_keys" (top 99) ["line"]):Def P w K mg base (CXF P w) 8 "answer_keys" ["line"] (spA K W M L CN 16):=by
 refine F.okX ZkE (λvs H Q E h=>Yf h) (λf _ A _ s H vs Q E hr h=>?_);obtain⟨Hi,Hs,c,ln,dx,l,t,mv,st,cl,r,rfl,hL,hl,hc,ha,k,kE⟩:=h;have nd:=ZkE.nd;have hr1:=hr.mono (show 1<=7 by decide);have hr2:=hr.mono (show 2<=7 by decide);have hr3:=hr.mono (show 3<=7 by decide);refine⟨_,Zc (Zk (i:=1) nd rfl (pm0 Z.num Z.ty.l hr1 Zm (pv 0))) (Zc (Zk (i:=2) nd rfl (pm0 Z.row Z.ty.l hr2 Zm (pv 0))) (Zc (Zk (i:=3) nd rfl (pm0 Z.there Z.ty.l hr1 ZH (pv 0)))
  (Zc (ZW (Yx (Z1 (pc D1 hr2 rfl Zm (Za (Zu (pv 3) rfl) (Za (pv 2) Zd))))) (Zh (Zn (pc Z.told hr1 rfl Zm (Za (pk Z.g.c1 rfl) (Za (Zx Zd) Zd))))) ZB)
  (Zc (ZW (ZJ Vy (Zv Zp rfl Z.g.len PySem.boot_len (Za (Zu (pv 3) rfl) Zd)) (pk Z.g.tried rfl) (ZG _)) (Zh (Zn (pc Z.told hr1 rfl Zm (Za (pk Z.g.c2 rfl) (Za (Zx Zd) Zd))))) ZB)
  (Zc (Zk (i:=4) nd rfl (pc D2 hr3 rfl Zm (Za (pv 3) (Za (pc D3 hr1 rfl Zm (Za (pv 2) Zd)) Zd))))
  (Zc (Zk (i:=5) nd rfl (Zx Zd))
  (Zc (Z6 Zcv rfl (ZR (JQ Yq (pv 4) (Jz (pv 1)) (Jz (ZD Z5 (pv 1) (pk Z.g.once rfl))))) (Zo (i:=6) nd rfl)
   (Zh (Z3 (J4 PySem.F.plainAttrs_list PySem.F.slot_list_extend PySem.F.type_list_extend Jw (pv 5) (Za (pc D4 hr1 rfl Zm (Za (Zu (pv 3) rfl) (Za (Zv Zp rfl Z.g.len PySem.boot_len (Za (Zu (pv 3) rfl) Zd)) (Za (pv 6) Zd)))) Zd)))))
  (Zh (Zn (pc Z.told hr1 rfl Zm (Za (Zv Zp rfl Z.g.len PySem.boot_len (Za (pv 4) Zd)) (Za (pv 5) Zd)))))))))))),?_⟩;obtain⟨z,x,d,rfl,hd,hr'⟩:=Vo hc rfl;refine Jp hL.run rfl hd λH0 s0 R0 hd0=>Z9 R0 rfl hd0 λH1 q s1 R1 hd1 hq hxl=>Yd R1 rfl (λe=>?_) λm p a e1 e2 hm g hs=>?_
 ·subst e
  exact kE _ _ _ _ R1 (by rw[hd1];exact hr') rfl
 ·subst e1 e2
  rw[ZmI,RM.ZaG] at k;have hr'':Rotorwork.ints (l.drop (t+1+1+x.length))=r:=by rw[hd1];exact hr'
  have hm:=hm.same R1.hs;obtain⟨dm,af,al,aw,aF,as,h1,h2⟩:=id hm;have n16:=g.n16;refine⟨_,rfl,a,_,_,_,_,rfl,h1,Z.ty.m,Z.ty.mn _ (by decide),rfl,_,rfl,q,m.n,x,rfl,hq,by omega,λH2 s2=>⟨_,rfl,?_⟩⟩;have R2:=R1.same s2;cases ek:RM.J3 m.n x with
  |false=>
   have k:∀(Hs' H':Hp) (t':Nat) (mv':V) (u:Addr),Run K W M L Hi c l ln dx Hs H Hs' H' t' mv' (some ⟨m,p⟩)->Rotorwork.ints (l.drop t')=r->H u=none->H' u=some (.lst (iv (numbersOf (says (-1)))))->Q (.ref u) H':=by
    cases e0:Rotorwork.knownOf x with
    |none=>rw[e0] at k;exact k
    |some kk=>rw[e0,ek] at k;exact k
   exact JT (R2.says hr'' k)
  |true=>
   obtain⟨kk,e0,k12,kf⟩ : ∃kk,Rotorwork.knownOf x=some kk/\kk.length<=12/\Rotor.fits m.n kk=true:=by
    unfold RM.J3 at ek;cases e0:Rotorwork.knownOf x with
    |none=>rw[e0] at ek;cases ek
    |some kk=>
     rw[e0] at ek;have ek:(decide (kk.length<=12)&&Rotor.fits m.n kk)=true:=ek;rw[Bool.and_eq_true] at ek;exact⟨kk,rfl,of_decide_eq_true ek.1,ek.2⟩
   rw[e0,ek] at k;have k:∀(Hs' H':Hp) (t':Nat) (mv':V) (u:Addr),Run K W M L Hi c l ln dx Hs H Hs' H' t' mv' (some ⟨m,p⟩)->Rotorwork.ints (l.drop t')=r->H u=none->H' u=some (.lst (iv (numbersOf (if 4096<m.n^m.wheels.length then says (-2) else Rotorwork.shown z (m.stands kk)))))->Q (.ref u) H':=k;have fl:(nv (RM.fol m.n m.wheels)).length=m.n^m.wheels.length:=by rw[Zf,RM.UT]
   refine Yh ⟨_,rfl,a,_,_,_,_,rfl,s2 _ _ h1,Z.ty.m,Z.ty.mn _ (by decide),rfl,aF,_,rfl,.inl (SqL.of (s2 _ _ h2.fol)),_,_,rfl,rfl,_,rfl,?_⟩;rw[fl,show(4096:Int)=((4096:Nat):Int) from rfl,Uc];refine Jl (λe=>?_) λe=>?_
   ·rw[if_pos (of_decide_eq_true e)] at k
    exact R2.says hr'' k
   ·have e:¬ 4096<m.n^m.wheels.length:=λy=>e (decide_eq_true y)
    rw[if_neg e] at k;refine⟨_,rfl,_,rfl,q,x,kk,rfl,s2 _ _ hq,e0,by omega,λH3 kp ks s3 nk hk pm srt=>?_⟩;have s13:=s2.trans s3;have R3:=R1.same s13;refine⟨a,kp,m,_,ks,rfl,hm.same s13,g,hk,by rw[RM.Yr pm];exact kf,srt.imp λh=>RM.Zko h,λH4 av s4 na hav=>?_⟩;have R4:=R3.same s4;have s14:=s13.trans s4;rw[RM.Zcr pm] at hav;have al:(RM.ZQ m kk).length<=65536:=by
     unfold RM.ZQ;exact Nat.le_trans (length_filter_le _ _) (by rw[length_range];exact g.toGood.pow_le)
    rw[RM.Zhf] at k;generalize RM.ZQ m kk=LL at *;refine⟨Zs (show 0<=1000000 by decide),λres hres=>?_⟩;have s5:=Zg (o:=.lst []) hres;have R5:=R4.same s5;refine⟨_,rfl,_,rfl,_,rfl,_,rfl,_,_,rfl,rfl,_,rfl,av,_,rfl,SqL.of (s5 _ _ hav),λsl hsl=>⟨sl,rfl,⟨_,SqL.of Zb⟩,?_⟩⟩;rw[show(50:Int)=((50:Nat):Int) from rfl,ZfP,<- ZcZ,<- ZcV];have s6:=s5.trans (Zg (o:=.lst (nv ((LL.drop z).take 50))) hsl);have rs:res≠sl:=Zi Zb hsl;have k4:=g.k4;have st4:∀y,(Rotor.stand m.n m.wheels.length y).length<=4:=λy=>by rw[RM.J9];exact k4
    have hSl:=λ(H':Hp) (sm:Same (upd (upd H4 res (.lst [])) sl (.lst (nv ((LL.drop z).take 50)))) H')=>sm _ _ (Zb (a:=sl));have tl:((LL.drop z).take 50).length<=50:=by rw[length_take];omega
    have kk2:∀(Hs' H':Hp) (t':Nat) (mv':V) (u:Addr),Run K W M L Hi c l ln dx Hs H Hs' H' t' mv' (some ⟨m,p⟩)->Rotorwork.ints (l.drop t')=r->H u=none->H' u=some (.lst (iv (numbersOf (tells (LL.length:Nat) (((LL.drop z).take 50).flatMap (Rotor.stand m.n m.wheels.length))))))->Q (.ref u) H':=λHs' H' t' mv' u h1 h2 h3 h4=>by
     refine k Hs' H' t' mv' u h1 h2 h3 ?_;rw[h4];unfold Rotorwork.shown;rw[length_map,<- map_drop,<- map_take,List.flatMap_map];rfl
    generalize (LL.drop z).take 50=SL at *;refine JD (K:=K) (a:=sl) (xs:=nv SL) (λi σ H'=>∃v6:Option V,σ=[some (.ref ln),some (.int (z:Int)),some (.ref q),some (.ref a),some (.ref av),some (.ref res),v6]/\Same H4 H'/\H' sl=some (.lst (nv SL))/\H' res=some (.lst (nv ((SL.take i).flatMap (Rotor.stand m.n m.wheels.length)))))
     ⟨none,rfl,s6,Zb,by rw[Zj rs,Zb];rfl⟩ (λi σ H' _ ⟨_,_,_,h,_⟩=>SqL.of h) ?_ ?_
    ·rintro i y σ H' hi ⟨v6,rfl,sm,hS,hR⟩
     obtain⟨y,hy,rfl⟩:=JA hi;have h1':=sm _ _ (s14 _ _ h1);refine⟨_,rfl,.inl ⟨rfl,_,SqL.of hR⟩,_,rfl,a,_,_,_,_,rfl,h1',Z.ty.m,Z.ty.mn _ (by decide),rfl,_,rfl,a,_,_,_,_,rfl,h1',Z.ty.m,Z.ty.mn _ (by decide),rfl,aw,_,rfl,.inl (SqL.of (sm _ _ (s14 _ _ h2.wheels))),_,rfl,?_⟩;have wl:(rv as).length=m.wheels.length:=by rw[Zw,h2.ws.len]
     rw[wl];refine⟨m.n,m.wheels.length,y,rfl,g.n0,n16,by omega,λH6 b s7 nb hb=>?_⟩;have fl2:((SL.take i).flatMap (Rotor.stand m.n m.wheels.length)).length<=200:=by
      refine Nat.le_trans (YR (n:=4) λy _=>st4 y) ?_;rw[length_take];omega
     refine⟨res,b,_,_,rfl,rfl,s7 _ _ hR,hb,?_,_,rfl,Same.upd (sm.trans s7) hres,?_,?_⟩
     ·have:=st4 y
      rw[Zf,Zf];exact Zs (by omega)
     ·rw[Zj (Ne.symm rs)]
      exact s7 _ _ hS
     ·rw[Zb,J6 hy,ZX]
    ·rintro σ H' ⟨v6,rfl,sm,hS,hR⟩
     rw[Zf,take_length] at hR;have R6:=R4.same sm;refine⟨_,rfl,av,_,rfl,.inl (SqL.of (sm _ _ hav)),_,rfl,_,res,_,rfl,hR,?_,λH7 u s7 nu hu=>kk2 _ H7 _ _ u (R6.same s7) hr'' (R6.fr.free nu) ?_⟩
     ·rw[Zf]
      have:=YR (f:=Rotor.stand m.n m.wheels.length) (n:=4) (l:=SL) λy _=>st4 y;omega
     ·rw[hu,Zf LL,Yo]
def Zoz:List Str:=["line", "start", "numbers", "machine", "known", "allowed", "result", "board"]
def Zkx:Zl Zoz ["line"] (Ze (top 100)):=fsc
def ZnR{m:Rotor.Machine}{p x:List Nat}{z:Nat}:stp (some ⟨m,p⟩) [[((17:Nat):Int),(z:Int)],Rotorwork.ints x]=(some ⟨m,p⟩,numbersOf (Rotorwork.ofKnown m x λk=>if m.mirror=false then says (-5) else if 4<(Rotor.toldOf m.n k).length then says (-2) else Rotorwork.shown z (m.boards p k))):=by
 show((some ⟨m,p⟩ : Rotorwork.State),numbersOf (Rotorwork.ofKnown m (nats (Rotorwork.ints x)) λk=>if m.mirror=false then says (-5) else if 4<(Rotor.toldOf m.n k).length then says (-2) else Rotorwork.shown z (m.boards p k)))=_;rw[Z4]
def Zmc(Z:Kit P w K mg base W M L CN)(D1:Def P w K mg base CX0 2 "is_known" ["n", "numbers"] Zjp)(D2:Def P w K mg base CX0 4 "allowed_boards" ["machine", "known"] (Zl6 W M))(D3:Def P w K mg base CX0 1 "known_from" ["numbers"] Zhc)
  (D4:Def P w K mg base CX0 1 "letters_told" ["known"] Zaw) (F:At K mg "answer_boards" (top 100) ["line"]):Def P w K mg base (CXF P w) 8 "answer_boards" ["line"] (spA K W M L CN 17):=by
 refine F.okX Zkx (λvs H Q E h=>Yf h) (λf _ A _ s H vs Q E hr h=>?_);obtain⟨Hi,Hs,c,ln,dx,l,t,mv,st,cl,r,rfl,hL,hl,hc,ha,k,kE⟩:=h;have nd:=Zkx.nd;have hr1:=hr.mono (show 1<=7 by decide);have hr2:=hr.mono (show 2<=7 by decide);have hr4:=hr.mono (show 4<=7 by decide);refine⟨_,Zc (Zk (i:=1) nd rfl (pm0 Z.num Z.ty.l hr1 Zm (pv 0))) (Zc (Zk (i:=2) nd rfl (pm0 Z.row Z.ty.l hr2 Zm (pv 0))) (Zc (Zk (i:=3) nd rfl (pm0 Z.there Z.ty.l hr1 ZH (pv 0)))
  (Zc (ZW (Yx (Z1 (pc D1 hr2 rfl Zm (Za (Zu (pv 3) rfl) (Za (pv 2) Zd))))) (Zh (Zn (pc Z.told hr1 rfl Zm (Za (pk Z.g.c1 rfl) (Za (Zx Zd) Zd))))) ZB)
  (Zc (ZW (Yx (Z1 (Zu (pv 3) rfl))) (Zh (Zn (pc Z.told hr1 rfl Zm (Za (pk Z.g.c5 rfl) (Za (Zx Zd) Zd))))) ZB)
  (Zc (Zk (i:=4) nd rfl (pc D3 hr1 rfl Zm (Za (pv 2) Zd)))
  (Zc (ZW (ZJ Vy (Zv Zp rfl Z.g.len PySem.boot_len (Za (pc D4 hr1 rfl Zm (Za (pv 4) Zd)) Zd)) (pk Z.g.told rfl) (ZG _)) (Zh (Zn (pc Z.told hr1 rfl Zm (Za (pk Z.g.c2 rfl) (Za (Zx Zd) Zd))))) ZB)
  (Zc (Zk (i:=5) nd rfl (pc D2 hr4 rfl Zm (Za (pv 3) (Za (pv 4) Zd))))
  (Zc (Zk (i:=6) nd rfl (Zx Zd))
  (Zc (Z6 Zcv rfl (ZR (JQ Yq (pv 5) (Jz (pv 1)) (Jz (ZD Z5 (pv 1) (pk Z.g.once rfl))))) (Zo (i:=7) nd rfl)
   (Zh (Z3 (J4 PySem.F.plainAttrs_list PySem.F.slot_list_extend PySem.F.type_list_extend Jw (pv 6) (Za (pv 7) Zd)))))
  (Zh (Zn (pc Z.told hr1 rfl Zm (Za (Zv Zp rfl Z.g.len PySem.boot_len (Za (pv 5) Zd)) (Za (pv 6) Zd)))))))))))))),?_⟩;obtain⟨z,x,d,rfl,hd,hr'⟩:=Vo hc rfl;refine Jp hL.run rfl hd λH0 s0 R0 hd0=>Z9 R0 rfl hd0 λH1 q s1 R1 hd1 hq hxl=>Yd R1 rfl (λe=>?_) λm p a e1 e2 hm g hs=>?_
 ·subst e
  exact kE _ _ _ _ R1 (by rw[hd1];exact hr') rfl
 ·subst e1 e2
  rw[ZnR,RM.ZaG] at k;have hr'':Rotorwork.ints (l.drop (t+1+1+x.length))=r:=by rw[hd1];exact hr'
  have hm:=hm.same R1.hs;obtain⟨dm,af,al,aw,aF,as,h1,h2⟩:=id hm;have n16:=g.n16;refine⟨_,rfl,a,_,_,_,_,rfl,h1,Z.ty.m,Z.ty.mn _ (by decide),rfl,_,rfl,q,m.n,x,rfl,hq,by omega,λH2 s2=>⟨_,rfl,?_⟩⟩;have R2:=R1.same s2;cases ek:RM.J3 m.n x with
  |false=>
   have k:∀(Hs' H':Hp) (t':Nat) (mv':V) (u:Addr),Run K W M L Hi c l ln dx Hs H Hs' H' t' mv' (some ⟨m,p⟩)->Rotorwork.ints (l.drop t')=r->H u=none->H' u=some (.lst (iv (numbersOf (says (-1)))))->Q (.ref u) H':=by
    cases e0:Rotorwork.knownOf x with
    |none=>rw[e0] at k;exact k
    |some kk=>rw[e0,ek] at k;exact k
   exact JT (R2.says hr'' k)
  |true=>
   obtain⟨kk,e0,k12,kf⟩ : ∃kk,Rotorwork.knownOf x=some kk/\kk.length<=12/\Rotor.fits m.n kk=true:=by
    unfold RM.J3 at ek;cases e0:Rotorwork.knownOf x with
    |none=>rw[e0] at ek;cases ek
    |some kk=>
     rw[e0] at ek;have ek:(decide (kk.length<=12)&&Rotor.fits m.n kk)=true:=ek;rw[Bool.and_eq_true] at ek;exact⟨kk,rfl,of_decide_eq_true ek.1,ek.2⟩
   rw[e0,ek] at k;have k:∀(Hs' H':Hp) (t':Nat) (mv':V) (u:Addr),Run K W M L Hi c l ln dx Hs H Hs' H' t' mv' (some ⟨m,p⟩)->Rotorwork.ints (l.drop t')=r->H u=none->H' u=some (.lst (iv (numbersOf (if m.mirror=false then says (-5) else if 4<(Rotor.toldOf m.n kk).length then says (-2) else Rotorwork.shown z (m.boards p kk)))))->Q (.ref u) H':=k;refine Yh ⟨_,rfl,a,_,_,_,_,rfl,s2 _ _ h1,Z.ty.m,Z.ty.mn _ (by decide),rfl,_,rfl,?_⟩;cases em:m.mirror with
   |false=>
    rw[if_pos em] at k;exact JT (R2.says hr'' k)
   |true=>
    rw[if_neg (by rw[em];decide)] at k;refine Yh ⟨_,rfl,q,x,kk,rfl,s2 _ _ hq,e0,by omega,λH3 kp ks s3 nk hk pm srt=>?_⟩;have s13:=s2.trans s3;have R3:=R1.same s13;refine⟨_,rfl,kp,m.n,ks,rfl,hk,by rw[pm.length_eq];exact k12,by rw[RM.Yr pm];exact kf,λH4 tp s4 nt ht=>⟨tp,_,rfl,.inl (SqL.of ht),_,_,rfl,rfl,_,rfl,?_⟩⟩;have s14:=s13.trans s4;have R4:=R1.same s14;rw[Zf,RM.Um pm,show(4:Int)=((4:Nat):Int) from rfl,Uc];refine Jl (λe=>?_) λe=>?_
    ·rw[if_pos (of_decide_eq_true e)] at k
     exact R4.says hr'' k
    ·have e:¬ 4<(Rotor.toldOf m.n kk).length:=λy=>e (decide_eq_true y)
     rw[if_neg e] at k;refine⟨_,rfl,_,rfl,a,kp,m,p,ks,kk,rfl,hm.same s14,g,hs,em,hk.same s4,pm,k12,kf,by omega,λH5 av rs s5 na hB=>?_⟩;have s15:=s14.trans s5;have R5:=R1.same s15;have bl:∀d,d∈m.boards p kk->d.length<=16:=λd hd=>by rw[Zbk n16 hd];exact n16
     have kk2:∀(Hs' H':Hp) (t':Nat) (mv':V) (u:Addr),Run K W M L Hi c l ln dx Hs H Hs' H' t' mv' (some ⟨m,p⟩)->Rotorwork.ints (l.drop t')=r->H u=none->H' u=some (.lst (iv (numbersOf (tells ((m.boards p kk).length:Nat) ((((m.boards p kk).drop z).take 50).flatMap id)))))->Q (.ref u) H':=k;generalize m.boards p kk=BB at *;refine⟨Zs (show 0<=1000000 by decide),λres hres=>?_⟩;have s6:=Zg (o:=.lst []) hres;refine⟨_,rfl,_,rfl,_,rfl,_,rfl,_,_,rfl,rfl,_,rfl,av,_,rfl,SqL.of (s6 _ _ hB.ls),λsl hsl=>⟨sl,rfl,⟨_,SqL.of Zb⟩,?_⟩⟩;have ec:Ds (rv rs) (some (z:Int)) (some ((z:Int)+(50:Int)))=rv ((rs.drop z).take 50):=by
      rw[show(50:Int)=((50:Nat):Int) from rfl,ZfP];unfold rv;rw[map_take,map_drop]
     rw[ec];have s7:=s6.trans (Zg (o:=.lst (rv ((rs.drop z).take 50))) hsl);have rsl:res≠sl:=Zi Zb hsl;have atS:∀{i:Nat} {b:Addr},((rs.drop z).take 50)[i]? = some b->∃d,((BB.drop z).take 50)[i]? = some d/\H5 b=some (.lst (nv d))/\d.length<=16:=λ{i b} h=>by
      have hi:i<50:=by
       have:=(List.getElem?_eq_some_iff.mp h).1;rw[length_take] at this;omega
      rw[List.getElem?_take_of_lt hi,getElem?_drop] at h;obtain⟨d,h1,_,h2⟩:=hB.get h;exact⟨d,by rw[List.getElem?_take_of_lt hi,getElem?_drop];exact h1,h2,bl d (mem_of_getElem? h1)⟩
     have SL0:((rs.drop z).take 50).length=((BB.drop z).take 50).length:=by rw[length_take,length_take,length_drop,length_drop,hB.len]
     have b16:∀d,d∈(BB.drop z).take 50->(id d).length<=16:=λd hd=>bl d (List.mem_of_mem_drop (mem_of_mem_take hd));have tl:((BB.drop z).take 50).length<=50:=by rw[length_take];omega
     generalize (BB.drop z).take 50=SB at *;generalize (rs.drop z).take 50=SR at *;refine JD (K:=K) (a:=sl) (xs:=rv SR) (λi σ H'=>∃v7:Option V,σ=[some (.ref ln),some (.int (z:Int)),some (.ref q),some (.ref a),some (.ref kp),some (.ref av),some (.ref res),v7]/\Same H5 H'/\H' sl=some (.lst (rv SR))/\H' res=some (.lst (nv ((SB.take i).flatMap id))))
      ⟨none,rfl,s7,Zb,by rw[Zj rsl,Zb];rfl⟩ (λi σ H' _ ⟨_,_,_,h,_⟩=>SqL.of h) ?_ ?_
     ·rintro i y σ H' hi ⟨v7,rfl,sm,hS,hR⟩
      obtain⟨y,hy,rfl⟩:=YO hi;obtain⟨d,hd,hyd,dl⟩:=atS hy;have fl2:((SB.take i).flatMap id).length<=16*50:=by
       refine Nat.le_trans (YR (n:=16) λy hy=>b16 y (mem_of_mem_take hy)) ?_;rw[length_take];exact Nat.mul_le_mul_left _ (by omega)
      refine⟨_,rfl,.inl ⟨rfl,_,SqL.of hR⟩,_,rfl,res,y,_,_,rfl,rfl,hR,sm _ _ hyd,?_,_,rfl,Same.upd sm hres,?_,?_⟩
      ·rw[Zf,Zf]
       exact Zs (by omega)
      ·rw[Zj (Ne.symm rsl)]
       exact hS
      ·rw[Zb,J6 hd,ZX]
       rfl
     ·rintro σ H' ⟨v7,rfl,sm,hS,hR⟩
      rw[Zw,SL0,take_length] at hR;have R6:=R5.same sm;refine⟨_,rfl,av,_,rfl,.inl (SqL.of (sm _ _ hB.ls)),_,rfl,_,res,_,rfl,hR,?_,λH7 u s7 nu hu=>kk2 _ H7 _ _ u (R6.same s7) hr'' (R6.fr.free nu) ?_⟩
      ·rw[Zf]
       have:=YR (f:=(id:List Nat->List Nat)) (n:=16) (l:=SB) b16;omega
      ·rw[hu,Zw,hB.len,Yo]
def ZnO:Zl ["line", "s", "e"] ["line"] (Ze (top 91)):=fsc
def Zoc{st:Rotorwork.State}{x:List Nat}:stp st [[((8:Nat):Int)],Rotorwork.ints x]=if 256<(RotorworkNeutral.text (Rotorwork.ints x)).length then (st,numbersOf (says (-2))) else match Rotor.machineIn (RotorworkNeutral.text (Rotorwork.ints x)) with
  |.error p=>(st,numbersOf (tells (-6) [p]))
  |.ok x=>(some ⟨x.1,x.2⟩,numbersOf (says 0)):=by
 show((Rotorwork.step st (.read (RotorworkNeutral.text (Rotorwork.ints x)))).1,numbersOf (Rotorwork.step st (.read (RotorworkNeutral.text (Rotorwork.ints x)))).2)=_;generalize RotorworkNeutral.text (Rotorwork.ints x)=b;have e:Rotorwork.step st (.read b)=if 256<b.length then (st,says (-2)) else (match Rotor.machineIn b with
  |.error p=>(st,tells (-6) [p])
  |.ok x=>(some ⟨x.1,x.2⟩,says 0)):=rfl
 rw[e];by_cases h:256<b.length
 ·rw[if_pos h,if_pos h]
 ·rw[if_neg h,if_neg h]
  cases Rotor.machineIn b with
  |error p=>rfl
  |ok y=>rfl
def Zmu(Z:Kit P w K mg base W M L CN)(TU:ZdD P w K mg base 1 "told" ["number", "numbers"] spT)(Fl:Flt P w K mg base C)(D:Def P w K mg base (CXF P w) 7 "machine_from" ["s"] (Zkk W M C))(F:At K mg "answer_read" (top 91) ["line"]):Def P w K mg base (CXF P w) 8 "answer_read" ["line"] (spA K W M L CN 8):=by
 refine F.okX ZnO (λvs H Q E h=>Yf h) (λf _ A _ s H vs Q E hr h=>?_);obtain⟨Hi,Hs,c,ln,dx,l,t,mv,st,cl,r,rfl,hL,hl,hc,ha,k,kE⟩:=h;have nd:=ZnO.nd;have hr1:=hr.mono (show 1<=7 by decide);have hr2:=hr.mono (show 2<=7 by decide);obtain⟨fI,fd,ck,_,_,_,fmg,fkp⟩:=Fl.ex;refine⟨_,Zc (Zk (i:=1) nd rfl (pm0 Z.row Z.ty.l hr2 Zm (pv 0)))
  (Zc (ZW (ZJ Vy (Zv Zp rfl Z.g.len PySem.boot_len (Za (pv 1) Zd)) (pk Z.g.read rfl) (ZG _)) (Zh (Zn (pc Z.told hr1 rfl Zm (Za (pk Z.g.c2 rfl) (Za (Zx Zd) Zd))))) ZB)
  (Zc (Zig (i:=2) rfl rfl ck rfl fmg nd rfl rfl
   (tb:=λE'=>Zmt K (V2 0) (ZaD (Zkk W M C) [] E' (V0 (V2 1) Uq)) "machine") (λE' E1 pn hx=>Zh (Jm (pv 0) (pc D hr rfl hx (Za (pv 1) Zd)) rfl))
   (th:=λe n=>ZlM (ZaD spT [] E0 (V0 (tC (.int (-6))) (V0 (Zke (V0 (λσ H Q=>V2 2 σ H λv H1=>v = .ref e/\Q (.int (n:Int)) H1) Uq)) Uq)))) (λe n pn hp=>Zh (Zn (pcU TU ⟨hr1.dp,hr1.un⟩ rfl (Za (pk Z.g.c6 rfl) (Za (Zx (Za (Zhu hp ck (pv 2) rfl) Zd)) Zd))))))
  (Zh (Zn (pc Z.told hr1 rfl Zm (Za Zq (Za (Zx Zd) Zd))))))),?_⟩;obtain⟨x,d,rfl,hd,hr'⟩:=Da hc rfl;obtain⟨eb,el⟩:=Zgp ha;rw[Zoc,el] at k;refine Z9 hL.run rfl hd λH1 q s1 R1 hd1 hq hxl=>?_;have hr'':Rotorwork.ints (l.drop (t+1+x.length))=r:=by rw[hd1];exact hr'
 generalize RotorworkNeutral.text (Rotorwork.ints x)=b at *;refine⟨_,rfl,q,_,rfl,.inl (SqL.of hq),_,_,rfl,rfl,_,rfl,?_⟩;rw[Zf,show(256:Int)=((256:Nat):Int) from rfl,Uc];refine Jl (λe=>?_) λe=>?_
 ·rw[if_pos (of_decide_eq_true e)] at k
  exact R1.says hr'' k
 ·have e:¬ 256<x.length:=λy=>e (decide_eq_true y)
  rw[if_neg e] at k;rw[<- eb] at hq;refine⟨λC' z H'=>C' = .ref C/\∃n:Nat,z=some n/\Rotor.machineIn b = .error n/\Same H1 H',λC' z H' ⟨h1,n,h2,h3,h4⟩=>⟨h1,n,h2,λe' σ' hσ=>?_⟩,?_⟩
  ·rw[h3] at k
   have R2:=R1.same h4;refine⟨_,hσ,rfl,Zs (show 1<=1000000 by decide),λu hu=>⟨-6,u,_,rfl,Zb,(show 1<=500000 by decide),λH3 v s3 nv' hv=>?_⟩⟩;have R3:=R2.same (Zg (o:=.lst [V.int (n:Int)]) hu);exact k _ H3 _ _ v (R3.same s3) hr'' (R3.fr.free nv') hv
  ·refine⟨_,rfl,q,b,rfl,hq,by omega,λm p em H2 a s2 hm g hs=>?_,λn en H2 s2=>⟨rfl,n,rfl,en,s2⟩⟩
   rw[em] at k;have R2:=R1.read s2 hm g hs;refine⟨_,rfl,ln,_,_,_,rfl,s2 _ _ R1.at_,Z.ty.l,Z.ty.ln _ (by decide),V3 3 rfl,?_⟩;exact R2.says hr'' k
end
def Ve(a:Rotorwork.Answer):Nat:=a.bytes.length+a.nums.length
def ZbE(a:Rotorwork.Answer):(numbersOf a).length=3+Ve a:=by
 unfold numbersOf Ve;rw[length_append,length_cons,length_cons,length_map,length_cons];omega
def Jt(z:Int)(l:List Nat):Ve (tells z l)=l.length:=by
 show 0+(Rotorwork.ints l).length=l.length;rw[V9,Nat.zero_add]
def VF{b:Bool}{a:Unit->Rotorwork.Answer}{n:Nat}(h:Ve (a ())<=n):Ve (Rotorwork.may b a)<=n:=by
 cases b with
 |true=>exact h
 |false=>exact Nat.zero_le _
def Zac{m:Rotor.Machine}{l:List Nat}{f:List Rotor.Known->Rotorwork.Answer}{n:Nat}(h:∀k,Ve (f k)<=n):Ve (Rotorwork.ofKnown m l f)<=n:=by
 unfold Rotorwork.ofKnown;cases Rotorwork.knownOf l with
 |none=>exact Nat.zero_le _
 |some k=>
  show Ve (if Rotorwork.KNOWN<k.length\/Rotor.fits m.n k=false then says (-1) else f k)<=n;split
  ·exact Nat.zero_le _
  ·exact h k
def Zb9{z:Nat}{l:List (List Nat)}(h:∀d,d∈l->d.length<=16):Ve (Rotorwork.shown z l)<=800:=by
 unfold Rotorwork.shown;rw[Jt];refine Nat.le_trans (YR (n:=16) λd hd=>h d (List.mem_of_mem_drop (mem_of_mem_take hd))) ?_;have:((l.drop z).take Rotorwork.SHOWN).length<=50:=by
  rw[length_take];exact Nat.min_le_left _ _
 exact Nat.le_trans (Nat.mul_le_mul_left 16 this) (by decide)
def Zmd{m:Rotor.Machine}{p:List Nat}(g:RM.Mach m)(hs:RM.St m p)(c:Rotorwork.Call):Ve (Rotorwork.on ⟨m,p⟩ c).2<=1100:=by
 have n16:=g.n16;have k4:=g.k4;cases c with
 |write=>
  show(Rotor.bytesOf m p).length+0<=1100;have:=D8 (p:=p) g;rw[<- RM.UU g hs,RM.Jd] at this;omega
 |places=>
  show Ve (tells (p.length:Nat) p)<=1100;rw[Jt,hs.len];omega
 |put q=>
  show Ve (if q.length≠m.wheels.length\/(q.any λ(x:Nat)=>decide (m.n<=x))=true then ((⟨m,p⟩ : Rotorwork.Rec),says (-1)) else (⟨m,q⟩,says 0)).2<=1100;split<;>exact Nat.zero_le _
 |steps k=>
  show Ve (if Rotorwork.FAR<k then ((⟨m,p⟩ : Rotorwork.Rec),says (-2)) else (⟨m,m.steps k p⟩,says 0)).2<=1100;split<;>exact Nat.zero_le _
 |perm k=>
  show Ve (if Rotorwork.FAR<k then says (-2) else tells 0 (m.perm (m.steps k p)))<=1100;split
  ·exact Nat.zero_le _
  ·rw[Jt,RM.Zci g (hs.steps g.toGood k),(RM.Vn g (hs.steps g.toGood k)).len]
   decide
 |text u s=>
  show Ve (if Rotorwork.TEXT<s.length then ((⟨m,p⟩ : Rotorwork.Rec),says (-2)) else if 1<u then ((⟨m,p⟩ : Rotorwork.Rec),says (-1)) else (⟨m,(m.text (u==1) s p).2.2⟩,⟨((m.text (u==1) s p).2.1:Nat),(m.text (u==1) s p).1,[]⟩)).2<=1100;split
  ·exact Nat.zero_le _
  ·rename_i h
   split
   ·exact Nat.zero_le _
   ·show(m.text (u==1) s p).1.length+0<=1100
    rw[Dc];have:¬ 1024<s.length:=h;omega
 |period k=>
  show Ve (if Rotorwork.MOST<k then says (-2) else match m.period p k with|some x=>tells 0 [x.1,x.2]|none=>says 1)<=1100;split
  ·exact Nat.zero_le _
  ·cases m.period p k with
   |none=>exact Nat.zero_le _
   |some x=>
    show Ve (tells 0 [x.1,x.2])<=1100;rw[Jt];show 2<=1100;decide
 |keys z l=>
  refine Zac λk=>?_;split
  ·exact Nat.zero_le _
  ·refine Nat.le_trans (Zb9 λd hd=>?_) (by decide)
   unfold Rotor.Machine.stands at hd;obtain⟨y,_,rfl⟩:=mem_map.mp (mem_filter.mp hd).1;rw[RM.J9];show m.wheels.length<=16;omega
 |boards z l=>
  refine Zac λk=>?_;split
  ·exact Nat.zero_le _
  ·split
   ·exact Nat.zero_le _
   ·exact Nat.le_trans (Zb9 λd hd=>by rw[Zbk n16 hd];exact n16) (by decide)
 |_=>exact Nat.zero_le _
def Zhq{st:Rotorwork.State}(h:∀r,st=some r->RM.Mach r.m/\RM.St r.m r.p)(c:Rotorwork.Call):Ve (Rotorwork.step st c).2<=1100:=by
 have ml:∀f:Nat->Nat,(Rotor.made f).length<=1100:=λf=>by rw[show(Rotor.made f).length=16 from RM.Zt f];decide
 have other:∀c,Rotorwork.isPure c=false->(∀b,c ≠ .read b)->Ve (Rotorwork.step st c).2<=1100:=λc h1 h2=>by
  have e:Rotorwork.step st c=if Rotorwork.isPure c=true then (st,Rotorwork.pure_ c) else match st with
   |none=>(none,says (-8))
   |some r=>(some (Rotorwork.on r c).1,(Rotorwork.on r c).2):=by
   cases st<;>cases c<;>first|rfl|exact absurd rfl (h2 _)
  rw[e,if_neg (by rw[h1];decide)];cases st with
  |none=>exact Nat.zero_le _
  |some r=>
   obtain⟨g,hs⟩:=h r rfl;exact Zmd g hs c
 cases c with
 |right n a=>exact Nat.zero_le _
 |then_ a b=>exact VF (by rw[Jt];exact ml _)
 |back a=>exact VF (by rw[Jt];exact ml _)
 |turned n k a=>exact VF (by rw[Jt];exact ml _)
 |seen a b=>exact VF (by rw[Jt];exact ml _)
 |order a=>exact VF (Nat.zero_le _)
 |shape n a=>exact VF (by rw[Jt];exact ml _)
 |paired n a=>exact VF (Nat.zero_le _)
 |read b=>
  show Ve (if Rotorwork.LOOKED<b.length then (st,says (-2)) else (match Rotor.machineIn b with
   |.error p=>(st,tells (-6) [p])
   |.ok x=>(some ⟨x.1,x.2⟩,says 0))).2<=1100
  split
  ·exact Nat.zero_le _
  ·cases Rotor.machineIn b with
   |error p=>
    show Ve (tells (-6) [p])<=1100;rw[Jt];show 1<=1100;decide
   |ok x=>exact Nat.zero_le _
 |_=>exact other _ rfl (λ_ h=>by cases h)
def ZjS{st:Rotorwork.State}(h:∀r,st=some r->RM.Mach r.m/\RM.St r.m r.p)(cl:List (List Int)):(stp st cl).2.length<=1103:=by
 unfold stp RotorworkNeutral.step;cases RotorworkNeutral.callOf (PyWqaeau.whole cl) with
 |none=>exact Nat.zero_le _
 |some x=>
  show(numbersOf (Rotorwork.step st x).2).length<=1103;rw[ZbE];have:=Zhq h x;omega
def Lin.good{K:Frag}{W M L:Addr}{Hi:Hp}{c:Addr}{l:List Nat}{ln dx:Addr}{Hs H:Hp}{t:Nat}{mv:V}{st:Rotorwork.State}(h:Lin K W M L Hi c l ln dx Hs H t mv st):∀r,st=some r->RM.Mach r.m/\RM.St r.m r.p:=λr e=>by
 have:=h.st;rw[e] at this;obtain⟨_,_,_,h1,h2⟩:=this;exact⟨h1,h2⟩
structure Tab(P:Program)(w:World)(K:Frag)(mg:Str->Option Value)(base:Heap)(W M L CN:Addr):Prop where
 ex:∃(ta:Addr) (fs:List Addr),mg "CALLS" = some (.ref ta)/\(∀H,SqT K H ta (rv fs))/\∀j,j<18->∃f,fs[j]? = some f/\Zc8 P w K mg base (CXF P w) 8 f ["line"] (spA K W M L CN j)
section
variable{P:Program}{w:World}{K:Frag}{mg:Str->Option Value}{base:Heap}{W M L C CN:Addr}
inductive Zey(K:Frag)(W M L:Addr):List V->Hp->VK->XK->Prop|mk {vs H Q E} (Hi Hs:Hp) (c ln dx:Addr) (l:List Nat) (t:Nat) (mv:V) (st:Rotorwork.State) (cl:List (List Int)) (r:List Int):vs=[.ref ln]->Lin K W M L Hi c l ln dx Hs H t mv st->l.length<=20000->PyFlat.call PyWqaeau.shape (Rotorwork.ints (l.drop t))=some (cl,r)->RotorworkNeutral.asked1 (PyWqaeau.whole cl)=true->(∀(Hs' H':Hp) (t':Nat) (mv':V) (p:Addr),Run K W M L Hi c l ln dx Hs H Hs' H' t' mv' (stp st cl).1->Rotorwork.ints (l.drop t')=r->H p=none->H' p=some (.lst (iv (stp st cl).2))->Q (.ref p) H')->Zey K W M L vs H Q E
def Zld:Zl ["line"] ["line"] (Ze (top 102)):=fsc
def ZjP(Z:Kit P w K mg base W M L CN)(N:Zka K mg CN)(TU:ZdD P w K mg base 1 "told" ["number", "numbers"] spT)(B:Tab P w K mg base W M L CN)(F:At K mg "answer_next" (top 102) ["line"]):Def P w K mg base CX0 9 "answer_next" ["line"] (Zey K W M L):=by
 refine F.ok Zld (λvs H Q E h=>?_) (λf _ A _ s H vs Q E hr h=>?_)
 ·obtain⟨_,_,_,_,_,_,_,_,_,_,_,rfl,_⟩:=h
  rfl
 ·obtain⟨Hi,Hs,c,ln,dx,l,t,mv,st,cl,r,rfl,hL,hl,hc,ha,k⟩:=h
  have hr1:=hr.mono (show 1<=8 by decide);obtain⟨ta,fs,b1,b2,b3⟩:=B.ex;refine⟨_,Zh (ZjU rfl rfl N.ck rfl N.mg_
   (tb:=λE'=>ZlM (λσ H Q=>tOp (ZgJ K) (tC (.ref ta)) (Zb1 L "take_number" (VS K L) [] E0 (V2 0) Uq) σ H λv H1=>∃(f:Addr) (ps:List Str) (sp:Sp),v = .ref f/\Zc8 P w K mg base (CXF P w) 8 f ps sp/\V0 (V2 0) Uq σ H1 λvs H2=>sp vs H2 Q E')) (λE' E1 pn hx=>Zh (Zn (ZiV (Ja (r:=ZgJ K) Zft (Zgi rfl b1 rfl) (pm0 Z.num Z.ty.l hr1 Zm (pv 0)) (λ_ _=>rfl)) hr hx (Za (pv 0) Zd))))
   (λe pn=>Zh (Zn (pcU TU ⟨hr1.dp,hr1.un⟩ rfl (Za (pk Z.g.c8 rfl) (Za (Zx Zd) Zd)))))),?_⟩;refine⟨λC' z H'=>C' = .ref CN/\∃(Hs':Hp) (t':Nat) (mv':V),Run K W M L Hi c l ln dx Hs H Hs' H' t' mv' none/\Rotorwork.ints (l.drop t')=r/\stp st cl=(none,numbersOf (says (-8))),λC' z H' σ' ⟨h1,Hs',t',mv',R,h2,h3⟩=>⟨h1,?_⟩,?_⟩
  ·rw[h3] at k
   exact R.says h2 k
  ·obtain⟨j,d,hd⟩ : ∃j d,l.drop t=j::d:=by
    cases e:l.drop t with
    |nil=>rw[e] at hc;cases hc
    |cons j d=>exact⟨j,d,rfl⟩
   rw[hd] at hc;have hj:j<18:=by
    obtain⟨n,k',e,_⟩:=RM.VH (p:=(j:Int)) (r:=Rotorwork.ints d) hc;have:=RM.Zic e;omega
   obtain⟨f',hf,hcal⟩:=b3 j hj;refine Jp hL.run rfl hd λH1 s1 R1 hd1=>?_;refine⟨ta,_,_,_,rfl,rfl,b2 H1,VO (ZhI hf),f',_,_,rfl,hcal,_,rfl,?_⟩;refine⟨Hi,Hs,c,ln,dx,l,t+1,mv,st,cl,r,rfl,R1.toLin,hl,by rw[hd1];exact hc,ha,λHs' H' t' mv' p R h1 h2 h3=>k Hs' H' t' mv' p ⟨R.toLin,R1.fr.trans R.fr⟩ h1 (R1.fr.free h2) h3,λHs' H' t' mv' R h1 h2=>⟨rfl,Hs',t',mv',⟨R.toLin,R1.fr.trans R.fr⟩,h1,h2⟩⟩
end
def ZeB{f:Nat}{p:Int}{r:List Int}{cs:List (List (List Int))}(h:PyFlat.calls PyWqaeau.shape f (p::r)=some cs):∃f' c t cs',PyFlat.call PyWqaeau.shape (p::r)=some (c,t)/\PyFlat.calls PyWqaeau.shape f' t=some cs'/\cs=c::cs':=by
 cases f with
 |zero=>cases h
 |succ f=>
  have h:(match PyFlat.call PyWqaeau.shape (p::r) with
   |none=>none
   |some (c,t)=>match PyFlat.calls PyWqaeau.shape f t with
    |none=>none
    |some cs=>some (c::cs))=some cs:=h
  cases e:PyFlat.call PyWqaeau.shape (p::r) with
  |none=>rw[e] at h;cases h
  |some q=>
   obtain⟨c,t⟩:=q;rw[e] at h;have h:(match PyFlat.calls PyWqaeau.shape f t with
    |none=>none
    |some cs=>some (c::cs))=some cs:=h
   cases e2:PyFlat.calls PyWqaeau.shape f t with
   |none=>rw[e2] at h;cases h
   |some cs'=>
    rw[e2] at h;cases h;exact⟨f,c,t,cs',rfl,e2,rfl⟩
def ZgU{f:Nat}{cs:List (List (List Int))}(h:PyFlat.calls PyWqaeau.shape f []=some cs):cs=[]:=by
 cases f with
 |zero=>cases h;rfl
 |succ f=>cases h;rfl
def Dn(st:Rotorwork.State)(cs:List (List (List Int))):List Int:=PyFlat.told (PyFlat.played RotorworkNeutral.step st (cs.map PyWqaeau.whole))
def ZeA(st:Rotorwork.State)(c:List (List Int))(cs:List (List (List Int))):Dn st (c::cs)=(((stp st c).2.length:Int)::(stp st c).2)++Dn (stp st c).1 cs:=rfl
def ZgV(a b:List Int):iv (a++b)=iv a++iv b:=map_append ..
def UM(a:List Int):(iv a).length=a.length:=length_map ..
section
variable{P:Program}{w:World}{K:Frag}{mg:Str->Option Value}{base:Heap}{W M L C CN:Addr}
inductive Vj(K:Frag):List V->Hp->VK->XK->Prop|mk {vs H Q E} (c:Addr) (l:List Nat) (cs:List (List (List Int))) (f:Nat):vs=[.ref c]->SqL K H c (nv l)->l.length<=20000->PyFlat.calls PyWqaeau.shape f (Rotorwork.ints l)=some cs->cs.length<=400->(∀c,c∈cs->RotorworkNeutral.asked1 (PyWqaeau.whole c)=true)->(∀(H':Hp) (p:Addr),H' p=some (.lst (iv (Dn none cs)))->Q (.ref p) H')->Vj K vs H Q E
def Zb2:Zl ["calls", "line", "result", "answer"] ["calls"] (Ze (top 103)):=fsc
def Ze2(G:Gn mg)(T:Tys K W M L)(D1:ZdQ P w K mg base CX0 1 "Line" L ["self", "calls"] (Ze8 L))(D2:DK P w K mg base CX0 1 L "has_more" ["self"] (Zfn K L))(D3:Def P w K mg base CX0 9 "answer_next" ["line"] (Zey K W M L))
  {f:Addr} {fd:FuncData} (F:Fun K "answers" "answers" (top 103) f fd):YX P w K mg base CX0 10 f fd ["calls"] (Vj K):=by
 refine F.ok Zb2 (λvs H Q E h=>?_) (λ_ A _ s H vs Q E hr h=>?_)
 ·obtain⟨_,_,_,_,rfl,_⟩:=h
  rfl
 ·obtain⟨c,l,cs,fu,rfl,hc,hl,hcs,h400,hask,k⟩:=h
  have nd:=Zb2.nd;have hr1:=hr.mono (show 1<=9 by decide);have hr2:=hr.mono (show 2<=9 by decide);refine⟨_,Zc (Zk (i:=1) nd rfl (pcm D1 hr2 rfl Zm (Za (pv 0) Zd))) (Zc (Zk (i:=2) nd rfl (Zx Zd))
   (Zc (Za0 PassesOwn.never (Z1 (pm0 D2 T.l hr1 Zm (pv 1)))
    (Zc (Zk (i:=3) nd rfl (pc D3 hr rfl Zm (Za (pv 1) Zd)))
    (Zc (Z3 (J4 PySem.F.plainAttrs_list PySem.F.slot_list_append PySem.F.type_list_append JO (pv 2) (Za (Zv Zp rfl G.len PySem.boot_len (Za (pv 3) Zd)) Zd)))
    (Zh (Z3 (J4 PySem.F.plainAttrs_list PySem.F.slot_list_extend PySem.F.type_list_extend Jw (pv 2) (Za (pv 3) Zd)))))))
   (Zh (Zn (pv 2))))),?_⟩;refine⟨_,rfl,λln dx n1 n2 n3=>⟨ln,dx,c,rfl,Zb,rfl,Zs (show 0<=1000000 by decide),λres hres=>?_⟩⟩;rw[Jj] at hres ⊢;have sH:Same H (upd (upd H dx (.own ln)) ln (.ins L dx (YS c 0 .non))):=λb u e=>by
   rw[Zj (Zi e n1),Zj (Zi e n2)];exact e
  have rl:ln≠res:=Zi Zb hres;have nres:H res=none:=sH.free hres;have L0:Lin K W M L H c l ln dx (λ_=>none) (upd (upd (upd H dx (.own ln)) ln (.ins L dx (YS c 0 .non))) res (.lst [])) 0 .non none:=
   ⟨hc,sH.trans (Zg hres),λ_ _ _=>rfl,n1,by rw[Zj rl,Zb],rfl,(λ_ _ e=>nomatch e),rfl⟩;refine⟨λm σ H'=>∃(Hs:Hp) (t:Nat) (mv:V) (st:Rotorwork.State) (fu:Nat) (done:List Int) (cs':List (List (List Int))) (v3:Option V),m=cs'.length/\σ=[some (.ref c),some (.ref ln),some (.ref res),v3]/\Lin K W M L H c l ln dx Hs H' t mv st/\Hs res=none /\
    PyFlat.calls PyWqaeau.shape fu (Rotorwork.ints (l.drop t))=some cs'/\Dn none cs=done++Dn st cs'/\H' res=some (.lst (iv done))/\cs'.length<=400/\done.length<=1104*(400-cs'.length)/\∀c,c∈cs'->RotorworkNeutral.asked1 (PyWqaeau.whole c)=true,
   ⟨_,_,0,.non,none,fu,[],cs,none,rfl,rfl,L0,rfl,hcs,rfl,Zb,h400,Nat.zero_le _,hask⟩,?_⟩;rintro m σ H' ⟨Hs,t,mv,st,fu,done,cs',v3,rfl,rfl,hL,hsr,hcs',hpl,hR,h400',hdl,hask'⟩;refine⟨_,rfl,ln,dx,_,rfl,hL.at_,rfl,ln,dx,c,t,mv,l,rfl,hL.at_,hL.sqH,_,rfl,Jl (λe=>?_) λe=>?_⟩
  ·have e:t<l.length:=of_decide_eq_true e
   obtain⟨j,d,hd⟩ : ∃j d,l.drop t=j::d:=⟨_,_,drop_eq_getElem_cons e⟩;rw[hd] at hcs';obtain⟨fu',cl,r,cs2,hcall,hrest,rfl⟩:=ZeB (p:=(j:Int)) (r:=Rotorwork.ints d) hcs';have hA:=hask' cl mem_cons_self;have alen:=ZjS hL.good cl;rw[ZeA] at hpl;refine⟨λσ' H2=>∃(Hs:Hp) (t:Nat) (mv:V) (st:Rotorwork.State) (fu:Nat) (done:List Int) (v3:Option V),σ'=[some (.ref c),some (.ref ln),some (.ref res),v3]/\Lin K W M L H c l ln dx Hs H2 t mv st/\Hs res=none /\
     PyFlat.calls PyWqaeau.shape fu (Rotorwork.ints (l.drop t))=some cs2/\Dn none cs=done++Dn st cs2/\H2 res=some (.lst (iv done))/\done.length<=1104*(400-cs2.length),
    λσ' H2 ⟨Hs,t,mv,st,fu,done,v3,h1,h2,h3,h4,h5,h6,h7⟩=>⟨cs2.length,by rw[length_cons];omega,Hs,t,mv,st,fu,done,cs2,v3,rfl,h1,h2,h3,h4,h5,h6,by rw[length_cons] at h400';omega,h7,λc hc=>hask' c (mem_cons_of_mem _ hc)⟩,?_⟩;refine⟨_,rfl,H,Hs,c,ln,dx,l,t,mv,st,cl,r,rfl,hL,hl,by rw[hd];exact hcall,hA,λHs' H2 t' mv' p R hr' np hp=>?_⟩;have hR2:H2 res=some (.lst (iv done)):=R.fr.keep res _ (Ne.symm rl) hsr hR;have hsr2:Hs' res=none:=R.fr.apart res _ (Ne.symm rl) hsr hR;have pr:p≠res:=YQ hR np;have dl:done.length<=1104*400:=Nat.le_trans hdl (Nat.mul_le_mul_left _ (by omega));refine⟨_,rfl,.inl ⟨rfl,_,SqL.of hR2⟩,_,rfl,p,_,rfl,.inl (SqL.of hp),res,_,_,rfl,rfl,hR2,by rw[UM];exact ZF (by omega),?_⟩;refine⟨_,rfl,.inl ⟨rfl,_,SqL.of Zb⟩,_,rfl,res,p,_,_,rfl,rfl,Zb,by rw[Zj pr];exact hp,?_,?_⟩
   ·rw[length_append,UM,UM]
    exact Zs (show(done.length+1)+(stp st cl).2.length<=1000000 by omega)
   ·rw[Jj]
    refine⟨Hs',t',mv',(stp st cl).1,fu',done++(((stp st cl).2.length:Int)::(stp st cl).2),_,rfl,?_,hsr2,by rw[hr'];exact hrest,by rw[hpl,append_assoc],?_,?_⟩
    ·refine⟨R.sq,λb u e=>?_,R.ap,R.li,?_,R.ls,λb u e=>?_,R.st⟩
     ·rw[Zj (Zi e nres)]
      exact R.hi _ _ e
     ·rw[Zj rl]
      exact R.at_
     ·rw[Zj (Zi e hsr2)]
      exact R.hs _ _ e
    ·rw[Zb,ZgV,UM,append_assoc]
     rfl
    ·rw[length_append,length_cons]
     rw[length_cons] at hdl h400';have:1104*(400-cs2.length)=1104*(400-(cs2.length+1))+1104:=by
      rw[show 400-cs2.length=(400-(cs2.length+1))+1 by omega,Nat.mul_add]
     omega
  ·have e:¬ t<l.length:=λy=>e (decide_eq_true y)
   rw[List.drop_eq_nil_of_le (by omega)] at hcs';have e0:=ZgU hcs';subst e0;have hpl:Dn none cs=done++[]:=hpl;rw[append_nil] at hpl;rw[<- hpl] at hR;exact⟨_,rfl,k H' res hR⟩
end
def Yp(x qual:Str)(st:Stmt)(ps:List Str):Prop:=∀(kV doc pm:Value) (an:Option Addr) (cdv ct:Value) (us:List Value),us.length=ps.length->bindArgs (fnOf x qual (Jn st) (ZV st) (Ze st) .none kV doc pm an cdv ct) ⟨us,[]⟩=Pure.pure (ps.zip us)
section
variable{K:Frag}{h:Heap}{mg:Str->Option Value}{x m qual:Str}{st:Stmt}{ps:List Str}{f C:Addr}{od an:Option Addr}{sl:Array (Option Value)}{oc kV dc pm cd ct:Value}
def Zz(hb:Yp x x st ps)(X:K.In h)(G:h.Ns mainGlobals mg)(a:nsIn K mainGlobals x=some (some (.ref f)):=by k_is)(l:K.lookup f=some ⟨oc,od,.func (fnOf x x (Jn st) (ZV st) (Ze st) .none kV dc pm an cd ct),sl⟩:=by k_is)(c:codeIn K cd x=true:=by k_is)(k:keepIn K (.ref f)=true:=by k_is):At K mg x st ps:=
 ⟨f,_,Ut l c k,mg_of X G a,(Ut l c k).binds hb⟩
def Zcj(hb:Yp m qual st ps)(a:findIn K (.ref C) m=some (some (.ref f)):=by k_is)(i:isFn K (.ref f)=true:=by k_is)(l:K.lookup f=some ⟨oc,od,.func (fnOf m qual (Jn st) (ZV st) (Ze st) .none kV dc pm an cd ct),sl⟩:=by k_is)(c:codeIn K cd qual=true:=by k_is)(k:keepIn K (.ref f)=true:=by k_is):MAt K C m qual st ps:=
 ⟨f,_,Ut l c k,⟨a,i,k⟩,(Ut l c k).binds hb⟩
def Zfb(hb:Yp "__init__" qual st ps)(X:K.In h)(G:h.Ns mainGlobals mg)(aC:nsIn K mainGlobals x=some (some (.ref C)):=by k_is)(mk:PySem.W.makesIn K C=true:=by k_is)(kc:keepIn K (.ref C)=true:=by k_is)(a:findIn K (.ref C) "__init__" = some (some (.ref f)):=by k_is)(i:isFn K (.ref f)=true:=by k_is)
  (l:K.lookup f=some ⟨oc,od,.func (fnOf "__init__" qual (Jn st) (ZV st) (Ze st) .none kV dc pm an cd ct),sl⟩:=by k_is) (c:codeIn K cd qual=true:=by k_is) (k:keepIn K (.ref f)=true:=by k_is):CAt K mg x C qual st ps:=
 ⟨f,_,Ut l c k,⟨mk,a,i,kc⟩,mg_of X G aC,(Ut l c k).binds hb⟩
def ZeY(pg:plainGet K C Str.empty=true:=by k_is)(hd:hasDictIn K C=true:=by k_is)(po:PySem.W.plainOver K C=true:=by k_is)(sa:findIn K (.ref C) "__setattr__" = some (some (.builtin "object.__setattr__")):=by k_is):Cls K C:=⟨pg,hd,po,sa⟩
def Zlj(hb:Yp "__init__" "Fault.__init__" (Ye 56 0) ["self", "place"])(X:K.In h)(G:h.Ns mainGlobals mg)(aC:nsIn K mainGlobals "Fault" = some (some (.ref C)):=by k_is)(kc:keepIn K (.ref C)=true:=by k_is)(a:findIn K (.ref C) "__init__" = some (some (.ref f)):=by k_is)(i:isFn K (.ref f)=true:=by k_is)
  (l:K.lookup f=some ⟨oc,od,.func (fnOf "__init__" "Fault.__init__" (Jn (Ye 56 0)) (ZV (Ye 56 0)) (Ze (Ye 56 0)) .none kV dc pm an cd ct),sl⟩:=by k_is) (c:codeIn K cd "Fault.__init__" = true:=by k_is) (k:keepIn K (.ref f)=true:=by k_is) (q:YT K C (some (.ref f))=true:=by exact rfl):FltAt K mg C:=
 ⟨f,_,q,Ut l c k,(Ut l c k).binds hb,i,mg_of X G aC,kc⟩
def Zmp(X:K.In h)(G:h.Ns mainGlobals mg)(aC:nsIn K mainGlobals "NoMachineYet" = some (some (.ref C)):=by k_is)(kc:keepIn K (.ref C)=true:=by k_is)(q:YT K C none=true:=by exact rfl):Zka K mg C:=⟨q,mg_of X G aC,kc⟩
def mgr(X:K.In h)(G:h.Ns mainGlobals mg)(a:nsIn K mainGlobals x=some (some (.ref f)):=by k_is):mg x=some (.ref f):=mg_of X G a
def ZS{P:Program}{w:World}{base:Heap}{CX:CXT}{k:Nat}{sp:Sp}(D:Def P w K mg base CX k x ps sp)(e:mg x=some (.ref f)):Zc8 P w K mg base CX k f ps sp:=by
 obtain⟨f',fd,h1,h2,h3,h4⟩:=D.ex;rw[e] at h2;cases h2;exact⟨fd,h1,h3,h4⟩
end
def B1{x qual:Str}{st:Stmt}{p0:Str}(h:∀(kV doc pm:Value) (an:Option Addr) (cdv ct u0:Value),bindArgs (fnOf x qual (Jn st) (ZV st) (Ze st) .none kV doc pm an cdv ct) ⟨[u0],[]⟩=Pure.pure [(p0,u0)]:=by intros;rfl):Yp x qual st [p0]:=λa b c d e f us hl=>match us,hl with | [u0],_=>h a b c d e f u0
def B2{x qual:Str}{st:Stmt}{p0 p1:Str}(h:∀(kV doc pm:Value) (an:Option Addr) (cdv ct u0 u1:Value),bindArgs (fnOf x qual (Jn st) (ZV st) (Ze st) .none kV doc pm an cdv ct) ⟨[u0,u1],[]⟩=Pure.pure [(p0,u0),(p1,u1)]:=by intros;rfl):Yp x qual st [p0,p1]:=λa b c d e f us hl=>match us,hl with | [u0,u1],_=>h a b c d e f u0 u1
def B3{x qual:Str}{st:Stmt}{p0 p1 p2:Str}(h:∀(kV doc pm:Value) (an:Option Addr) (cdv ct u0 u1 u2:Value),bindArgs (fnOf x qual (Jn st) (ZV st) (Ze st) .none kV doc pm an cdv ct) ⟨[u0,u1,u2],[]⟩=Pure.pure [(p0,u0),(p1,u1),(p2,u2)]:=by intros;rfl):Yp x qual st [p0,p1,p2]:=λa b c d e f us hl=>match us,hl with | [u0,u1,u2],_=>h a b c d e f u0 u1 u2
def B4{x qual:Str}{st:Stmt}{p0 p1 p2 p3:Str}(h:∀(kV doc pm:Value) (an:Option Addr) (cdv ct u0 u1 u2 u3:Value),bindArgs (fnOf x qual (Jn st) (ZV st) (Ze st) .none kV doc pm an cdv ct) ⟨[u0,u1,u2,u3],[]⟩=Pure.pure [(p0,u0),(p1,u1),(p2,u2),(p3,u3)]:=by intros;rfl):Yp x qual st [p0,p1,p2,p3]:=λa b c d e f us hl=>match us,hl with | [u0,u1,u2,u3],_=>h a b c d e f u0 u1 u2 u3
def B6{x qual:Str}{st:Stmt}{p0 p1 p2 p3 p4 p5:Str}(h:∀(kV doc pm:Value) (an:Option Addr) (cdv ct u0 u1 u2 u3 u4 u5:Value),bindArgs (fnOf x qual (Jn st) (ZV st) (Ze st) .none kV doc pm an cdv ct) ⟨[u0,u1,u2,u3,u4,u5],[]⟩=Pure.pure [(p0,u0),(p1,u1),(p2,u2),(p3,u3),(p4,u4),(p5,u5)]:=by intros;rfl):Yp x qual st [p0,p1,p2,p3,p4,p5]:=λa b c d e f us hl=>match us,hl with | [u0,u1,u2,u3,u4,u5],_=>h a b c d e f u0 u1 u2 u3 u4 u5
def B7{x qual:Str}{st:Stmt}{p0 p1 p2 p3 p4 p5 p6:Str}(h:∀(kV doc pm:Value) (an:Option Addr) (cdv ct u0 u1 u2 u3 u4 u5 u6:Value),bindArgs (fnOf x qual (Jn st) (ZV st) (Ze st) .none kV doc pm an cdv ct) ⟨[u0,u1,u2,u3,u4,u5,u6],[]⟩=Pure.pure [(p0,u0),(p1,u1),(p2,u2),(p3,u3),(p4,u4),(p5,u5),(p6,u6)]:=by intros;rfl):Yp x qual st [p0,p1,p2,p3,p4,p5,p6]:=λa b c d e f us hl=>match us,hl with | [u0,u1,u2,u3,u4,u5,u6],_=>h a b c d e f u0 u1 u2 u3 u4 u5 u6
def ZlH{K:Frag}{W M L:Addr}(cW:Cls K W)(cM:Cls K M)(cL:Cls K L)(nW0:findIn K (.ref W) "kind" = some none:=by k_is)(nW1:findIn K (.ref W) "ring" = some none:=by k_is)(nW2:findIn K (.ref W) "notches" = some none:=by k_is)(nW3:findIn K (.ref W) "wires" = some none:=by k_is)(nW4:findIn K (.ref W) "wires_by_stand" = some none:=by k_is)(nM0:findIn K (.ref M) "letters" = some none:=by k_is)(nM1:findIn K (.ref M) "sends_back" = some none:=by k_is)(nM2:findIn K (.ref M) "first_board" = some none:=by k_is)(nM3:findIn K (.ref M) "last_board" = some none:=by k_is)(nM4:findIn K (.ref M) "wheels" = some none:=by k_is)(nM5:findIn K (.ref M) "number" = some none:=by k_is)(nM6:findIn K (.ref M) "followers" = some none:=by k_is)(nL0:findIn K (.ref L) "calls" = some none:=by k_is)(nL1:findIn K (.ref L) "taken" = some none:=by k_is)(nL2:findIn K (.ref L) "machine" = some none:=by k_is):Tys K W M L:=by
 refine⟨cW,cM,cL,λf hf=>?_,λf hf=>?_,λf hf=>?_⟩
 ·simp only[mem_cons,not_mem_nil,or_false] at hf
  rcases hf with rfl|rfl|rfl|rfl|rfl
  ·exact nW0
  ·exact nW1
  ·exact nW2
  ·exact nW3
  ·exact nW4
 ·simp only[mem_cons,not_mem_nil,or_false] at hf
  rcases hf with rfl|rfl|rfl|rfl|rfl|rfl|rfl
  ·exact nM0
  ·exact nM1
  ·exact nM2
  ·exact nM3
  ·exact nM4
  ·exact nM5
  ·exact nM6
 ·simp only[mem_cons,not_mem_nil,or_false] at hf
  rcases hf with rfl|rfl|rfl
  ·exact nL0
  ·exact nL1
  ·exact nL2
def Zmf{K:Frag}{h:Heap}{mg:Str->Option Value}{t0 t1 t2 t3 t4 t5 t6 t7 t8 t9 t10 t11 t12 t13 t14 t15 t16 t17 t18 t19 t20 t21 t22 t23 t24 t25:Tok}(X:K.In h)(G:h.Ns mainGlobals mg)(b0:nsIn K mainGlobals "len" = some none:=by k_is)(b1:nsIn K mainGlobals "range" = some none:=by k_is)(b2:nsIn K mainGlobals "sorted" = some none:=by k_is)(b3:nsIn K mainGlobals "list" = some none:=by k_is)(b4:nsIn K mainGlobals "enumerate" = some none:=by k_is)(b5:nsIn K mainGlobals "all" = some none:=by k_is)(b6:nsIn K mainGlobals "any" = some none:=by k_is)(b7:nsIn K mainGlobals "zip" = some none:=by k_is)(b8:nsIn K mainGlobals "reversed" = some none:=by k_is)(b9:nsIn K mainGlobals "tuple" = some none:=by k_is)(b10:nsIn K mainGlobals "set" = some none:=by k_is)(b11:nsIn K mainGlobals "max" = some none:=by k_is)(c0:nsIn K mainGlobals "LEAST_LETTERS" = some (some (.int 2 t0)):=by k_is)(c1:nsIn K mainGlobals "MOST_LETTERS" = some (some (.int 16 t1)):=by k_is)(c2:nsIn K mainGlobals "ALWAYS_MOVES" = some (some (.int 1 t2)):=by k_is)(c3:nsIn K mainGlobals "MOVES_WITH_NEIGHBOUR" = some (some (.int 2 t3)):=by k_is)(c4:nsIn K mainGlobals "MOVES_WITH_NEIGHBOUR_OR_ITSELF" = some (some (.int 3 t4)):=by k_is)(c5:nsIn K mainGlobals "BYTE_OF_LETTER_0" = some (some (.int 65 t5)):=by k_is)(c6:nsIn K mainGlobals "MOST_WHEELS" = some (some (.int 4 t6)):=by k_is)(c7:nsIn K mainGlobals "BYTES_BEFORE_BOARDS" = some (some (.int 3 t7)):=by k_is)(c8:nsIn K mainGlobals "BYTES_BEFORE_STAND" = some (some (.int 2 t8)):=by k_is)(c9:nsIn K mainGlobals "BYTES_BEFORE_NOTCHES" = some (some (.int 3 t9)):=by k_is)(c10:nsIn K mainGlobals "BYTES_BEFORE_WIRES" = some (some (.int 5 t10)):=by k_is)(c11:nsIn K mainGlobals "MOST_KNOWN" = some (some (.int 12 t11)):=by k_is)(c12:nsIn K mainGlobals "MOST_STEPS" = some (some (.int 64 t12)):=by k_is)(c13:nsIn K mainGlobals "NOT_TOLD" = some (some (.int 255 t13)):=by k_is)(c14:nsIn K mainGlobals "NOT_AS_SAID" = some (some (.int (-1) t14)):=by k_is)(c15:nsIn K mainGlobals "TOO_MUCH" = some (some (.int (-2) t15)):=by k_is)(c16:nsIn K mainGlobals "DOES_NOT_SEND_BACK" = some (some (.int (-5) t16)):=by k_is)(c17:nsIn K mainGlobals "NOT_A_MACHINE" = some (some (.int (-6) t17)):=by k_is)(c18:nsIn K mainGlobals "NO_MACHINE_YET" = some (some (.int (-8) t18)):=by k_is)(c19:nsIn K mainGlobals "MOST_BYTES_READ" = some (some (.int 256 t19)):=by k_is)(c20:nsIn K mainGlobals "MOST_STEPS_DONE" = some (some (.int 10000 t20)):=by k_is)(c21:nsIn K mainGlobals "MOST_BYTES_OF_TEXT" = some (some (.int 1024 t21)):=by k_is)(c22:nsIn K mainGlobals "MOST_OF_PERIOD" = some (some (.int 2000 t22)):=by k_is)(c23:nsIn K mainGlobals "MOST_STANDS_TRIED" = some (some (.int 4096 t23)):=by k_is)(c24:nsIn K mainGlobals "MOST_LETTERS_TOLD" = some (some (.int 4 t24)):=by k_is)(c25:nsIn K mainGlobals "MOST_TOLD_AT_ONCE" = some (some (.int 50 t25)):=by k_is):Gn mg:=
 ⟨⟨⟨⟨⟨⟨PySem.W.mg_none_of X G b0,PySem.W.mg_none_of X G b1,PySem.W.mg_none_of X G b2,PySem.W.mg_none_of X G b3,PySem.W.mg_none_of X G b4,PySem.W.mg_none_of X G b5,PySem.W.mg_none_of X G b6,PySem.W.mg_none_of X G b7,PySem.W.mg_none_of X G b8,PySem.W.mg_none_of X G b9,PySem.W.mg_none_of X G b10,PySem.W.mg_none_of X G b11,⟨_,mg_of X G c0⟩,⟨_,mg_of X G c1⟩⟩,⟨_,mg_of X G c2⟩,⟨_,mg_of X G c3⟩,⟨_,mg_of X G c4⟩⟩,⟨_,mg_of X G c5⟩⟩,⟨_,mg_of X G c6⟩,⟨_,mg_of X G c7⟩,⟨_,mg_of X G c8⟩,⟨_,mg_of X G c9⟩,⟨_,mg_of X G c10⟩⟩,⟨_,mg_of X G c11⟩,⟨_,mg_of X G c12⟩,⟨_,mg_of X G c13⟩⟩,⟨_,mg_of X G c14⟩,⟨_,mg_of X G c15⟩,⟨_,mg_of X G c16⟩,⟨_,mg_of X G c17⟩,⟨_,mg_of X G c18⟩,⟨_,mg_of X G c19⟩,⟨_,mg_of X G c20⟩,⟨_,mg_of X G c21⟩,⟨_,mg_of X G c22⟩,⟨_,mg_of X G c23⟩,⟨_,mg_of X G c24⟩,⟨_,mg_of X G c25⟩⟩
def Zlt{P:Program}{w:World}{K:Frag}{h:Heap}{mg:Str->Option Value}{fa W M L C CN ta f83 f84 f85 f86 f87 f88 f89 f90 f91 f92 f93 f94 f95 f96 f97 f98 f99 f100:Addr}{oT:Option Addr}{nT:Nat}{sT:Array (Option Value)}(X:K.In h)(G:h.Ns mainGlobals mg)(hfa:mg "answers" = some (.ref fa))
  (cW:CAt K mg "Wheel" W "Wheel.__init__" (Ye 17 0) ["self", "n", "kind", "ring", "notches", "wires"]) (cM:CAt K mg "Machine" M "Machine.__init__" (Ye 26 0) ["self", "letters", "sends_back", "first_board", "last_board", "wheels", "number"]) (cL:CAt K mg "Line" L "Line.__init__" (Ye 79 0) ["self", "calls"])
  (m1:MAt K L "has_more" "Line.has_more" (Ye 79 1) ["self"]) (m2:MAt K L "take_number" "Line.take_number" (Ye 79 2) ["self"]) (m3:MAt K L "take_row" "Line.take_row" (Ye 79 3) ["self"]) (m4:MAt K L "machine_there" "Line.machine_there" (Ye 79 4) ["self"])
  (fl:FltAt K mg C) (no:Zka K mg CN) (ty:Tys K W M L) (g:Gn mg)
  (a3:At K mg "is_permutation" (top 3) ["n", "a"])
  (a4:At K mg "product" (top 4) ["a", "b"])
  (a5:At K mg "inverse" (top 5) ["a"])
  (a6:At K mg "turned" (top 6) ["n", "k", "a"])
  (a7:At K mg "seen_through" (top 7) ["a", "b"])
  (a8:At K mg "round_lengths" (top 8) ["n", "a"])
  (a9:At K mg "least_common_multiple" (top 9) ["a", "b"])
  (a10:At K mg "order" (top 10) ["a"])
  (a11:At K mg "shape" (top 11) ["n", "a"])
  (a12:At K mg "goes_by_pairs" (top 12) ["n", "a"])
  (a18:At K mg "has_notch" (top 18) ["wheel", "letter"])
  (a19:At K mg "moves" (top 19) ["wheel", "stand", "nudged"])
  (a20:At K mg "stand_after" (top 20) ["n", "wheel", "stand", "nudged"])
  (a21:At K mg "number_of" (top 21) ["n", "stands"])
  (a22:At K mg "stands_of" (top 22) ["n", "how_many", "number"])
  (a23:At K mg "followers" (top 23) ["n", "wheels"])
  (a27:At K mg "stands_now" (top 27) ["machine"])
  (a28:At K mg "number_after" (top 28) ["machine", "steps"])
  (a29:At K mg "through_wheels" (top 29) ["machine", "number"])
  (a30:At K mg "setting" (top 30) ["machine", "number"])
  (a31:At K mg "is_letter" (top 31) ["machine", "byte"])
  (a32:At K mg "letters_in" (top 32) ["machine", "s"])
  (a33:At K mg "letter_through" (top 33) ["machine", "undo", "letter"])
  (a34:At K mg "text_through" (top 34) ["machine", "undo", "s"])
  (a35:At K mg "period" (top 35) ["machine", "most"])
  (a40:At K mg "is_known" (top 40) ["n", "numbers"])
  (a41:At K mg "known_from" (top 41) ["numbers"])
  (a42:At K mg "letters_told" (top 42) ["known"])
  (a43:At K mg "way_in" (top 43) ["machine", "letter"])
  (a44:At K mg "where_so" (top 44) ["machine", "plain", "coded"])
  (a45:At K mg "allowed_stands" (top 45) ["machine", "known"])
  (a46:At K mg "behind_first_board" (top 46) ["machine", "steps"])
  (a47:At K mg "with_letter_exchanged" (top 47) ["boards", "letter"])
  (a48:At K mg "fits" (top 48) ["board", "demands"])
  (a49:At K mg "allowed_boards" (top 49) ["machine", "known"])
  (a57:At K mg "byte_from" (top 57) ["s", "place", "least", "most"])
  (a58:At K mg "notches_from" (top 58) ["s", "place", "n"])
  (a59:At K mg "permutation_from" (top 59) ["s", "place", "n"])
  (a60:At K mg "wheel_from" (top 60) ["s", "place", "n", "most_kind"])
  (a61:At K mg "wheels_from" (top 61) ["s", "place", "n", "how_many"])
  (a62:At K mg "stands_from" (top 62) ["s", "place", "n"])
  (a63:At K mg "machine_from" (top 63) ["s"])
  (a64:At K mg "bytes_of" (top 64) ["machine"])
  (a80:At K mg "told" (top 80) ["number", "numbers"])
  (a81:At K mg "told_bytes" (top 81) ["number", "s"])
  (a82:At K mg "are_permutations" (top 82) ["a", "b"])
  (a83:At K mg "answer_right" (top 83) ["line"])
  (a84:At K mg "answer_then" (top 84) ["line"])
  (a85:At K mg "answer_back" (top 85) ["line"])
  (a86:At K mg "answer_turned" (top 86) ["line"])
  (a87:At K mg "answer_seen" (top 87) ["line"])
  (a88:At K mg "answer_order" (top 88) ["line"])
  (a89:At K mg "answer_shape" (top 89) ["line"])
  (a90:At K mg "answer_paired" (top 90) ["line"])
  (a91:At K mg "answer_read" (top 91) ["line"])
  (a92:At K mg "answer_write" (top 92) ["line"])
  (a93:At K mg "answer_places" (top 93) ["line"])
  (a94:At K mg "answer_put" (top 94) ["line"])
  (a95:At K mg "answer_steps" (top 95) ["line"])
  (a96:At K mg "answer_perm" (top 96) ["line"])
  (a97:At K mg "answer_text" (top 97) ["line"])
  (a98:At K mg "answer_period" (top 98) ["line"])
  (a99:At K mg "answer_keys" (top 99) ["line"])
  (a100:At K mg "answer_boards" (top 100) ["line"])
  (a102:At K mg "answer_next" (top 102) ["line"])
  (a103:At K mg "answers" (top 103) ["calls"])
  (tT:mg "CALLS" = some (.ref ta)) (t83:mg "answer_right" = some (.ref f83)) (t84:mg "answer_then" = some (.ref f84)) (t85:mg "answer_back" = some (.ref f85)) (t86:mg "answer_turned" = some (.ref f86)) (t87:mg "answer_seen" = some (.ref f87)) (t88:mg "answer_order" = some (.ref f88)) (t89:mg "answer_shape" = some (.ref f89)) (t90:mg "answer_paired" = some (.ref f90)) (t91:mg "answer_read" = some (.ref f91)) (t92:mg "answer_write" = some (.ref f92)) (t93:mg "answer_places" = some (.ref f93)) (t94:mg "answer_put" = some (.ref f94)) (t95:mg "answer_steps" = some (.ref f95)) (t96:mg "answer_perm" = some (.ref f96)) (t97:mg "answer_text" = some (.ref f97)) (t98:mg "answer_period" = some (.ref f98)) (t99:mg "answer_keys" = some (.ref f99)) (t100:mg "answer_boards" = some (.ref f100))
  (lT:K.lookup ta=some ⟨.type "tuple",oT,.seq #[.ref f83,.ref f84,.ref f85,.ref f86,.ref f87,.ref f88,.ref f89,.ref f90,.ref f91,.ref f92,.ref f93,.ref f94,.ref f95,.ref f96,.ref f97,.ref f98,.ref f99,.ref f100] nT,sT⟩:=by k_is) :
  ∃fd:FuncData,(∀(s:Shared) (us:List Value),us.length=(["calls"]:List Str).length->BindsTo s fd ⟨us,[]⟩ ((["calls"]:List Str).zip us))/\∀base:Heap,K.In base->base.Ns mainGlobals mg->YX P w K mg base CX0 10 fa fd ["calls"] (Vj K):=by
 obtain⟨f,fd,F,hm,hb⟩:=a103.ex;rw[hfa] at hm;cases hm;refine⟨fd,λs us hu=>?_,λbase _ _=>?_⟩
 ·obtain⟨oc,od,kV,doc,pm,an,cdv,ct,osl,rfl,lk,hcd⟩:=F.ex
  exact match us,hu with | [_],_=>.of_eq rfl
 have gk:=g.toGk;have gb:=gk.toGb;have gm:=gb.toGm;have gw:=gm.toGw;have gx:=gw.toGx;have d4:Def P w K mg base CX0 1 "product" ["a", "b"] Yn:=Ze6 a4;have d3:Def P w K mg base CX0 1 "is_permutation" ["n", "a"] Ul:=ZgX gx a3;have d5:Def P w K mg base CX0 1 "inverse" ["a"] YG:=ZeJ gx a5;have d6:Def P w K mg base CX0 1 "turned" ["n", "k", "a"] UA:=ZgG gx a6;have d7:=ZjD d4 d5 a7;have d8:Def P w K mg base CX0 1 "round_lengths" ["n", "a"] Vg:=ZgQ gx a8;have d9:Def P w K mg base CX0 1 "least_common_multiple" ["a", "b"] Zf1:=Zk4 a9;have d10:=Zih gx d8 d9 a10;have d11:=Ziz gx d8 a11;have d12:=ZiW gx d8 a12;have d18:Def P w K mg base CX0 1 "has_notch" ["wheel", "letter"] (Dr W):=ZhW ty a18;have d19:=ZhB gw ty d18 a19;have d20:=Zh3 d19 a20;have d21:Def P w K mg base CX0 1 "number_of" ["n", "stands"] Ub:=Zhd gw a21;have d22:Def P w K mg base CX0 1 "stands_of" ["n", "how_many", "number"] Vz:=Zg5 gw a22;have dW:=ZhM gw ty d6 cW;have d23:=Zl8 gw d18 d20 a23;have dM:=ZjJ ty d23 cM;have d27:=ZkT gm ty d22 a27;have d28:Def P w K mg base CX0 1 "number_after" ["machine", "steps"] (Vm W M):=Zhp gm ty a28;have d29:=ZjF gm ty d22 d4 a29;have d30:=Zi8 ty d4 d29 d7 a30;have d31:Def P w K mg base CX0 1 "is_letter" ["machine", "byte"] (U8 W M):=Zhz gm ty a31;have d32:=ZiC gm d31 a32;have d33:=Zhl ty d30 d5 a33;have d34:=Zjv gm ty d31 d33 a34;have d35:Def P w K mg base CX0 1 "period" ["machine", "most"] (Dy W M):=ZgY gm ty a35;have dF:Flt P w K mg base C:=ZlZ fl;have d57:=Zj5 gm dF a57;have d58:=Zl3 gm dF a58;have d59:=Zj3 gm dF d57 a59;have d60:=ZlO gb d57 d58 d59 dW a60;have d61:=Zlo gb dF d60 a61;have d62:Def P w K mg base CX0 1 "stands_from" ["s", "place", "n"] Zfx:=Zk7 gb a62;have d63:=Znw gb d57 d59 d61 dM d21 d62 a63;have d64:=ZhN gb ty d27 a64;have d43:Def P w K mg base CX0 1 "way_in" ["machine", "letter"] (Zf8 W M):=ZlS ty a43;have d44:=ZmD gb ty d43 a44;have d45:=Zin gb ty d44 a45;have d46:=Zg1 ty d7 d29 d28 a46;have d47:Def P w K mg base CX0 1 "with_letter_exchanged" ["boards", "letter"] Zck:=Zjm gk a47;have d48:Def P w K mg base CX0 1 "fits" ["board", "demands"] ZcI:=Zjl gk a48;have d41:Def P w K mg base CX0 1 "known_from" ["numbers"] Zhc:=Znd gk a41;have d40:=Zmr gk d41 a40;have d42:Def P w K mg base CX0 1 "letters_told" ["known"] Zaw:=ZjM gk a42;have d49:=Zmq gk ty d42 d47 d48 d46 a49;have tu:ZdD P w K mg base 1 "told" ["number", "numbers"] spT:=Zox g a80;have dn:DK P w K mg base CX0 1 L "take_number" ["self"] (VS K L):=ZhG ty m2;have Z:Kit P w K mg base W M L CN:=⟨g,ty,dn,Ziw ty dn m3,Ziq ty no m4,tu.calm,Zno g a81,d3,ZmL g d3 a82⟩;have B:Tab P w K mg base W M L CN:=by
  refine⟨ta,[f83,f84,f85,f86,f87,f88,f89,f90,f91,f92,f93,f94,f95,f96,f97,f98,f99,f100],tT,λH=>.inr ⟨_,_,_,lT,rfl,rfl,(by show 18<=sizeLine;decide),UD [f83,f84,f85,f86,f87,f88,f89,f90,f91,f92,f93,f94,f95,f96,f97,f98,f99,f100]⟩,λj hj=>?_⟩
  match j,hj with
  |0,_=>exact⟨_,rfl,ZS (ZnB Z a83) t83⟩
  |1,_=>exact⟨_,rfl,ZS (Znj Z d4 a84) t84⟩
  |2,_=>exact⟨_,rfl,ZS (ZnM Z d5 a85) t85⟩
  |3,_=>exact⟨_,rfl,ZS (ZnH Z d6 a86) t86⟩
  |4,_=>exact⟨_,rfl,ZS (ZnI Z d7 a87) t87⟩
  |5,_=>exact⟨_,rfl,ZS (Zmm Z d10 a88) t88⟩
  |6,_=>exact⟨_,rfl,ZS (ZnJ Z d11 a89) t89⟩
  |7,_=>exact⟨_,rfl,ZS (Znm Z d12 a90) t90⟩
  |8,_=>exact⟨_,rfl,ZS (Zmu Z tu dF d63 a91) t91⟩
  |9,_=>exact⟨_,rfl,ZS (ZmT Z d64 a92) t92⟩
  |10,_=>exact⟨_,rfl,ZS (Zll Z d27 a93) t93⟩
  |11,_=>exact⟨_,rfl,ZS (Zk9 Z d21 a94) t94⟩
  |12,_=>exact⟨_,rfl,ZS (ZlD Z d28 a95) t95⟩
  |13,_=>exact⟨_,rfl,ZS (Zmb Z d28 d30 a96) t96⟩
  |14,_=>exact⟨_,rfl,ZS (ZkU Z d32 d34 a97) t97⟩
  |15,_=>exact⟨_,rfl,ZS (ZlQ Z d35 a98) t98⟩
  |16,_=>exact⟨_,rfl,ZS (Zlm Z d40 d45 d41 d22 a99) t99⟩
  |17,_=>exact⟨_,rfl,ZS (Zmc Z d40 d49 d41 d42 a100) t100⟩
  |n+18,h=>omega
 exact Ze2 g ty (Zkj ty cL) (ZjG g ty m1) (ZjP Z no tu B a102) F
theorem Zen:∀{n:List Int},(∀x,x∈n->0<=x)->Rotorwork.ints (n.map Int.toNat)=n
 | [],_=>rfl
 |x::n,h=>by
  show((x.toNat:Int)::Rotorwork.ints (n.map Int.toNat))=x::n;rw[Zen λy hy=>h y (mem_cons_of_mem _ hy),Int.toNat_of_nonneg (h x mem_cons_self)]
def ZlI{K:Frag}{H:Hp}{c:Addr}{n:List Int}{Q:VK}{E:XK}(hs:SqL K H c (n.map V.int))(hn:∀x,x∈n->0<=x)(hl:n.length<=20000)(ha:PyWqaeau.answers_asked n=true)
  (k:∀(H':Hp) (p:Addr),H' p=some (.lst ((PyWqaeau.answers n).map V.int))->Q (.ref p) H'):Vj K [.ref c] H Q E:=by
 have e:=Zen hn;obtain⟨cs,hcs⟩ : ∃cs,PyFlat.calls PyWqaeau.shape n.length n=some cs:=by
  cases h:PyFlat.calls PyWqaeau.shape n.length n with
  |none=>
   unfold PyWqaeau.answers_asked PyWqaeau.calls at ha;rw[h] at ha;cases ha
  |some cs=>exact⟨cs,rfl⟩
 have hc:PyWqaeau.calls n=some (cs.map PyWqaeau.whole):=by
  unfold PyWqaeau.calls;rw[hcs]
 have hA:(PyFlat.atMost 400 (cs.map PyWqaeau.whole)&&RotorworkNeutral.asked (cs.map PyWqaeau.whole))=true:=by
  unfold PyWqaeau.answers_asked at ha;rw[hc] at ha;exact ha
 rw[Bool.and_eq_true] at hA;have h1:(cs.map PyWqaeau.whole).length<=400:=of_decide_eq_true hA.1;rw[length_map] at h1;have h2:((cs.map PyWqaeau.whole).all RotorworkNeutral.asked1&&(decide (1<=(cs.map PyWqaeau.whole).length)&&decide ((cs.map PyWqaeau.whole).length<=400)))=true:=hA.2;rw[Bool.and_eq_true] at h2;have h3:=all_eq_true.mp h2.1;have hf:PyWqaeau.answers n=Dn none cs:=by
  unfold PyWqaeau.answers;rw[hc];rfl
 rw[hf] at k;refine⟨c,n.map Int.toNat,cs,n.length,rfl,?_,by rw[length_map];exact hl,by rw[e];exact hcs,h1,λx hx=>h3 _ (mem_map.mpr ⟨x,hx,rfl⟩),k⟩;rw[<- ZfV,e];exact hs
end WW
inductive PySem.W.Fast:Prop|tw18064773097914697567|tw9000543626984152991|tw391241452521837659|tw7457300519059831639|tw1137600007793514877|tw15708181965688151336|tw9970600919149813146|tw15662751690973977510|tw2403362540833879733|tw2020681263813056458|tw7948223095557568436|tw14839367169586459116|tw14560463024153195878|tw258633332199182941|tw13110537386705059453|tw2409959783904710501|tw9356563707512528254|tw16217417402442234530|tw9862549170729028461|tw15213155027895039536|tw8141556118554375498|tw13349752071045873840|tw9561692980704714840|tw4804601545177473813|tw5898144023599260574|tw4593668317821971555|tw1329308523063252939|tw12776428480642433425|tw5634124833811888459|tw17547173047269339124|tw9263383167475940144|tw17769285005024657572|tw9952179089665765056|tw16562434309446741400|tw9148821039500784618|tw14368756047561774660|tw7721853247284693528|tw279481753980926917|tw7201210723155824858|tw4676434326992091114|tw2787289028872667617|tw12488110680138592808|tw11972383942963021298|tw13180289118241244631|tw10213304409172620539|tw5635411325701460249|tw15913534901879194822|tw6254371892882379940|tw3467953246640668159|tw16772609951150427987|tw16857758713639391725|tw18243409799924785387|tw5481618626516512226|tw10980214147814576471|tw18117863142204560965|tw12431764792315614970|tw7700842106749059056|tw11254868411382754339|tw10281528130704452233|tw8020086781449422298|tw17635448509230309522|tw9998782021849320418|tw17960862621281978359|tw955183542877922466|tw110588907140323225|tw1764246388788498263|tw18229628554480171116|tw8306342728976810411|tw11928713910116532316|tw6062167156267525250|tw1207263403751429747|tw5987767293916707818|tw11146863941342729869|tw9278432567602849903|tw10678434661868900746|tw12417544011213964283|tw211756583839615176|tw10290476392845341289|tw17701972357152615072|tw13695291282130748291|tw16685874026595228681|tw561775213135547514|tw3473076112415451320|tw11921942643262353563|tw15990532226770541836|tw1781743125253207745|tw12851968846995569051|tw16797269190611964532|tw15407560757915924894|tw10665232708595036596|tw17746390965304236236|tw13257305740118923028|tw2189006915836279547|tw10830322783099166881|tw4112222630071955932|tw15292699520490274923|tw16699179872036908709|tw10289625223408842447|tw12123053041776877079|tw3049428189587936314|tw10855014308259386339|tw5330176515835269861|tw13620611206690720201|tw10768816275783918315|tw11699112784750322255|tw5435040611314727345|tw10002692928217945509|tw7722911627251148618|tw10557644254692546632|tw16425387614952218810|tw8726046116460880088|tw11636913524337768054|tw13757784028714673340|tw8454581133158982760|tw14689181001794302171|tw5636192403651008506|tw12184840852162015736|tw1149568822668246022|tw18204184609243742989|tw3597026837415048007|tw7147785162970237963|tw3404348636068289842|tw15672955603214456298|tw10503558310325490789|tw2285977998618023356|tw7374673054733341751|tw17809293936641571051|tw3583710993051994029|tw5266198150291367773|tw16544059323785768491|tw8795374543521473748|tw12405687585269043259|tw16164602361471090700
open PySem PySem.W PyProof.Rows WW
set_option maxRecDepth 100000 in
set_option maxHeartbeats 0 in
theorem PySem.Challenge.cw_wheelwriters_s01_answers_holds : PySem.Challenge.rw_wheelwriters_s01_answers.Holds := by
 w_on;k_headS;(case hw=>exact⟨[.list [.int 9]],by decide +kernel,by decide +kernel⟩)
 k_fillS
 refine L2.Ze5 (r:=PySem.Challenge.rw_wheelwriters_s01_answers) (k:=10) (CX:=L2.CX0) (ps:=["calls"]) (sp:=Vj) (by decide +kernel) rfl rfl ⟨rfl,by decide,by decide⟩ (λw h Y=>PySem.W.kIn_of Y) ?F ?S (λ_ _ _ _ z=>z)
 case F=>
  intro w mg fa h Y KX G hmg
  exact Zlt KX G hmg (Zfb B6 KX G) (Zfb B7 KX G) (Zfb B2 KX G) (Zcj B1) (Zcj B1) (Zcj B1) (Zcj B1) (Zlj B2 KX G) (Zmp KX G) (ZlH ZeY ZeY ZeY) (Zmf KX G) (Zz B2 KX G) (Zz B2 KX G) (Zz B1 KX G) (Zz B3 KX G) (Zz B2 KX G) (Zz B2 KX G) (Zz B2 KX G) (Zz B1 KX G) (Zz B2 KX G) (Zz B2 KX G) (Zz B2 KX G) (Zz B3 KX G) (Zz B4 KX G) (Zz B2 KX G) (Zz B3 KX G) (Zz B2 KX G) (Zz B1 KX G) (Zz B2 KX G) (Zz B2 KX G) (Zz B2 KX G) (Zz B2 KX G) (Zz B2 KX G) (Zz B3 KX G) (Zz B3 KX G) (Zz B2 KX G) (Zz B2 KX G) (Zz B1 KX G) (Zz B1 KX G) (Zz B2 KX G) (Zz B3 KX G) (Zz B2 KX G) (Zz B2 KX G) (Zz B2 KX G) (Zz B2 KX G) (Zz B2 KX G) (Zz B4 KX G) (Zz B3 KX G) (Zz B3 KX G) (Zz B4 KX G) (Zz B4 KX G) (Zz B3 KX G) (Zz B1 KX G) (Zz B1 KX G) (Zz B2 KX G) (Zz B2 KX G) (Zz B2 KX G) (Zz B1 KX G) (Zz B1 KX G) (Zz B1 KX G) (Zz B1 KX G) (Zz B1 KX G) (Zz B1 KX G) (Zz B1 KX G) (Zz B1 KX G) (Zz B1 KX G) (Zz B1 KX G) (Zz B1 KX G) (Zz B1 KX G) (Zz B1 KX G) (Zz B1 KX G) (Zz B1 KX G) (Zz B1 KX G) (Zz B1 KX G) (Zz B1 KX G) (Zz B1 KX G) (Zz B1 KX G) (mgr KX G) (mgr KX G) (mgr KX G) (mgr KX G) (mgr KX G) (mgr KX G) (mgr KX G) (mgr KX G) (mgr KX G) (mgr KX G) (mgr KX G) (mgr KX G) (mgr KX G) (mgr KX G) (mgr KX G) (mgr KX G) (mgr KX G) (mgr KX G) (mgr KX G)
 case S=>
  intro K H xs a hO hwi hask hx
  cases hx with
  |cons h1 h2=>
   cases h2
   cases h1 with
   |lst hs ha=>
    have e:=L2.ZfO a.1 _ ha
    subst e
    have q:((Codec.inLen 0 16100 a.1&&a.1.all (Codec.inInt 0 18446744073709551615))&&true)=true:=hwi
    rw[Bool.and_eq_true,Bool.and_eq_true] at q
    exact ZlI hs (λx hx=>(Codec.inInt_iff.mp (List.all_eq_true.mp q.1.2 x hx)).1) (Nat.le_trans (Codec.inNat_iff.mp q.1.1).2 (by decide)) hask λH' p hp=>.lst (L2.SqL.of hp) (L2.ZfA _)
