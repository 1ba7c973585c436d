import PyProof.Rows.All
import Wide.All
import OpenK.AllK
import Wide.FinOn
import PyProof.EqAt
import PyProof.EqKinds
import PyProof.TupleCall
import KE.BitLaws
import Open.SpecLaws
import KE.OsHead
import KE.OsGo
import KE.SpHead
import KE.OsShapes
import PyProof.SetScanFacts
import PyProof.SetKind
import PyProof.DictKinds
import PyProof.MeetsSeq2
import PyProof.WalkLemmas
import PySem.Builtin.Frozenset.Common
import PySem.Builtin.Frozenset.W1All
import PyProof.Slots
import PyProof.FactsAll.set
import PyProof.Rows.SetFrom
import PyProof.WalksMore
import PyProof.TupleIter
import PyProof.FactsBase
import PyProof.TableTree
import PyProof.FactsTree
import PyProof.PlainAttrs
import PyProof.CodeObj
import PyProof.Seq
import PyProof.WalksS
import PyProof.FactsSeq
import PyProof.CollectWalk
import PyProof.CollectIter
import PyProof.DictWalks
import PyProof.Rows.SortShellAny
import PyProof.Rows.SortWalk
import PyProof.FactsAll.dict
import KE.KDictList
import PyProof.WalkInts
import PyVbcnai
import PySem.Challenge.RW_groupsnoop_s01_answers
set_option Elab.async false
set_option linter.all false
set_option maxRecDepth 100000
set_option maxHeartbeats 3200000
noncomputable section
namespace Zz
open PySem PySem.Spec PyProof.Rows
noncomputable def JO:=@wpAny_bind
noncomputable def JP:=@wpAny_pure
noncomputable def JQ:=@List.length_map
noncomputable def JR:=@Heap.get?_push_of_some
noncomputable def JS:=@Bool.and_eq_true
noncomputable def JT:=@decide_eq_true_eq
noncomputable def JU:=@Option.some.inj
noncomputable def JV:=@List.length_append
noncomputable def JW:=@List.mem_cons_of_mem
noncomputable def JX:=@List.mem_cons
noncomputable def JY:=@Array.length_toList
noncomputable def JZ:=@List.mem_cons_self
noncomputable def J0:=@of_decide_eq_true
noncomputable def J1:=@decide_eq_true
noncomputable def J2:=@List.getElem?_eq_some_iff
noncomputable def J3:=@Nat.le_refl
noncomputable def J4:=@Heap.get?_push_size
noncomputable def J5:=@List.getElem?_map
noncomputable def J6:=@List.mem_singleton
noncomputable def J7:=@Heap.lt_size
noncomputable def J8:=@Bool.false_ne_true
noncomputable def J9:=@decide_eq_false
noncomputable def Ka:=@List.getElem?_eq_getElem
noncomputable def Kb:=@List.length_cons
noncomputable def Kc:=@Bool.false_eq_true
noncomputable def Kd:=@List.mem_of_getElem?
noncomputable def Ke:=@Array.getElem?_eq_getElem
noncomputable def Kf:=@List.size_toArray
noncomputable def Kg:=@Nat.ne_of_lt
noncomputable def Kh:=@List.length_filter_le
noncomputable def Ki:=@List.map_append
noncomputable def Kj:=@Nat.le_trans
noncomputable def Kk:=@Nat.zero_le
noncomputable def Kl:=@Nat.lt_of_lt_of_le
noncomputable def Km:=@Heap.size_push
noncomputable def Kn:=@Option.isSome_map
noncomputable def Ko:=@Int.toNat_natCast
noncomputable def Kq:=@List.map_cons
noncomputable def Kr:=@List.mem_map
noncomputable def Ks:=@List.append_nil
noncomputable def Kt:=@List.take_length
noncomputable def Ku:=@List.mem_append_right
noncomputable def Kv:=@Array.getElem?_toList
noncomputable def Kw:=@Option.isSome_iff_exists
noncomputable def Kx:=@List.nodup_cons
noncomputable def Ky:=@List.mem_append
noncomputable def Kz:=@List.length_take
end Zz
open Zz
namespace Sn
open PySem
noncomputable def CA:Nat->Nat->Nat
 |0,x=>x
 |n+1,x=>CA n (5*x+1)
theorem vX:∀(n m x:Nat),CA (n+m) x=CA m (CA n x)
 |0,m,x=>by rw[Nat.zero_add];rfl
 |n+1,m,x=>by
  rw[Nat.add_right_comm];exact vX n m (5*x+1)
theorem Aq:∀k:Nat,∃a b:Nat,∀x,CA (2^k) x=x+2^k+2^(k+1)*(2*a*x+b)
 |0=>⟨1,0,λx=>by show 5*x+1=_;omega⟩
 |k+1=>by
  obtain⟨a,b,h⟩:=Aq k;refine⟨a+2^(k+1)*a*a,a*2^k+a*2^(k+1)*b+b,λx=>?_⟩;rw[Nat.pow_succ,Nat.mul_two,vX,h,h];have e1:2^(k+1)=2^k*2:=Nat.pow_succ ..;have e2:2^(k+1+1)=2^k*2*2:=by rw[Nat.pow_succ,e1]
  rw[e2,e1];generalize 2^k=P
  grind
theorem Ar (m:Nat):∀(n x y:Nat),x % m=y % m->CA n x % m=CA n y % m
 |0,x,y,h=>h
 |n+1,x,y,h=>Ar m n _ _ (by rw[Nat.add_mod,Nat.mul_mod,h,←Nat.mul_mod,←Nat.add_mod])
theorem As:∀(k x e:Nat),∃n,n<2^k/\CA n x % 2^k=e % 2^k
 |0,x,e=>⟨0,by omega,by rw[Nat.pow_zero,Nat.mod_one,Nat.mod_one]⟩
 |k+1,x,e=>by
  obtain⟨n,hn,he⟩:=As k x e;obtain⟨a,b,h⟩:=Aq k;have e1:2^(k+1)=2^k*2:=Nat.pow_succ ..;have hp:0<2^k:=Nat.two_pow_pos k;have split:∀z:Nat,z % (2^k*2)=z % 2^k\/z % (2^k*2)=z % 2^k+2^k:=λz=>by
   rw[Nat.mod_mul];rcases Nat.mod_two_eq_zero_or_one (z / 2^k)with q|q
   ·rw[q];left;omega
   ·rw[q];right;omega
  by_cases hq:CA n x % 2^(k+1)=e % 2^(k+1)
  ·exact⟨n,by omega,hq⟩
  ·refine⟨n+2^k,by omega,?_⟩;rw[vX,h];generalize CA n x=y at he hq;have e3:(y+2^k+2^(k+1)*(2*a*y+b)) % 2^(k+1)=(y+2^k) % 2^(k+1):=Nat.add_mul_mod_self_left ..;rw[e3];rw[e1]at hq ⊢;have s1:=split y;have s2:=split e;have s3:=split (y+2^k);have e4:(y+2^k) % 2^k=y % 2^k:=Nat.add_mod_right ..;have hl:y % 2^k<2^k:=Nat.mod_lt _ hp;have e5:(y+2^k) % (2^k*2)≠y % (2^k*2):=by
    intro z;have z1:=Nat.div_add_mod y (2^k*2);have z2:=Nat.div_add_mod (y+2^k) (2^k*2);have z3:2^k*2*((y+2^k) / (2^k*2))=2^k*2*(y / (2^k*2))+2^k:=by omega
    generalize (y+2^k) / (2^k*2)=c1 at z3;generalize y / (2^k*2)=c2 at z3;rw[Nat.mul_assoc,Nat.mul_assoc]at z3;have z4:2^k*(2*c1)=2^k*(2*c2+1):=by rw[Nat.mul_add,Nat.mul_one];exact z3
    have z5:=Nat.eq_of_mul_eq_mul_left hp z4;omega
   omega
noncomputable def jn (mask:Nat):Nat->Nat->Nat->Nat
 |0,i,_=>i
 |n+1,i,p=>jn mask n (SetTable.leap mask i p).1 (SetTable.leap mask i p).2
theorem u6 (mask:Nat):∀(n i:Nat),i<=mask->jn mask n i 0=CA n i % (mask+1)
 |0,i,h=>(Nat.mod_eq_of_lt (Nat.lt_succ_of_le h)).symm
 |n+1,i,h=>by
  show jn mask n ((i*5+1+0 / 32) % (mask+1)) (0 / 32)=_;rw[Nat.zero_div,Nat.add_zero,u6 mask n _ (Nat.le_of_lt_succ (Nat.mod_lt _ (Nat.succ_pos _)))];exact Ar _ n _ _ (by rw[Nat.mod_mod,Nat.mul_comm])
theorem CB {mask k:Nat}(hm:mask+1=2^k){i p e:Nat}(hi:i<=mask) (hp:p<2^64) (he:e<=mask):∃n,n<mask+14/\jn mask n i p=e:=by
 have h13:p<32^13:=Kl hp (by decide);have one:∃j,j<=mask/\∀n,jn mask (13+n) i p=jn mask n j 0:=by
  have gen:∀(c i p:Nat),p<32^c->i<=mask->∃j,j<=mask/\∀n,jn mask (c+n) i p=jn mask n j 0:=by
   intro c
   induction c with
   |zero=>
    intro i p h hi;have e:p=0:=by omega
    exact⟨i,hi,λn=>by rw[e,Nat.zero_add]⟩
   |succ c ih=>
    intro i p h hi;have h2:p / 32<32^c:=by
     rw[Nat.div_lt_iff_lt_mul (by omega)];rw[Nat.pow_succ]at h;exact h
    obtain⟨j,hj,e⟩:=ih ((i*5+1+p / 32) % (mask+1)) (p / 32) h2 (Nat.le_of_lt_succ (Nat.mod_lt _ (Nat.succ_pos _)));exact⟨j,hj,λn=>by rw[Nat.add_right_comm];exact e n⟩
  exact gen 13 i p h13 hi
 obtain⟨j,hj,hw⟩:=one;obtain⟨n,hn,hz⟩:=As k j e;refine⟨13+n,by omega,?_⟩;rw[hw n,u6 mask n j hj,hm,hz,Nat.mod_eq_of_lt (by omega)]
theorem EN (h:Int):SetTable.bits h<2^64:=by
 unfold SetTable.bits;omega
noncomputable def Empty (owner:Array (Option Nat)) (j:Nat):Prop:=owner[j]? =some none
theorem u7 {owner:Array (Option Nat)}{j:Nat}:(owner.getD j (some 0)).isNone=true↔Empty owner j:=by
 unfold Empty;rw[Array.getD_eq_getD_getElem?];cases h:owner[j]? with
 |none=>simp
 |some v=>cases v<;>simp
theorem so {mask:Nat}{owner:Array (Option Nat)}:∀(f i p j:Nat),SetTable.layClean.free mask owner f i p=some j->Empty owner j
 |0,i,p,j,h=>by simp[SetTable.layClean.free]at h
 |f+1,i,p,j,h=>by
  unfold SetTable.layClean.free at h;split at h
  ·rename_i k hk;have e:=JU h;subst e;have z:=List.find?_some hk;exact u7.mp z
  ·exact so f _ _ j h
theorem u9 {mask:Nat}{owner:Array (Option Nat)}:∀(f i p:Nat),SetTable.layClean.free mask owner f i p=none->∀n,n<f->¬Empty owner (jn mask n i p)
 |0,i,p,h,n,hn=>by omega
 |f+1,i,p,h,n,hn=>by
  unfold SetTable.layClean.free at h;split at h
  ·cases h
  ·rename_i hk;cases n with
   |zero=>
    intro he;have hm:0∈List.range (SetTable.runEnd mask i+1 - i):=by
     rw[List.mem_range];unfold SetTable.runEnd;split<;>omega
    have:=List.find?_eq_none.mp hk 0 hm;exact this (u7.mpr (by rw[Nat.add_zero];exact he))
   |succ n=>exact u9 f _ _ h n (by omega)
theorem Bp {mask k:Nat}(hm:mask+1=2^k){owner:Array (Option Nat)}{e:Nat}(hs:owner.size=mask+1) (he:Empty owner e) (h:Int):
  ∃j,SetTable.layClean.free mask owner (SetTable.turns mask) (SetTable.bits h % (mask+1)) (SetTable.bits h)=some j:=by
 cases q:SetTable.layClean.free mask owner (SetTable.turns mask) (SetTable.bits h % (mask+1)) (SetTable.bits h)with
 |some j=>exact⟨j,rfl⟩
 |none=>
  have hl:e<owner.size:=by
   unfold Empty at he;exact(Array.getElem?_eq_some_iff.mp he).1
  obtain⟨n,hn,hw⟩:=CB hm (i:=SetTable.bits h % (mask+1)) (p:=SetTable.bits h) (e:=e) (Nat.le_of_lt_succ (Nat.mod_lt _ (Nat.succ_pos _))) (EN h) (by omega);exact absurd he (by
   have:=u9 _ _ _ q n (by unfold SetTable.turns;omega);rw[hw]at this;exact this)
noncomputable def held (owner:Array (Option Nat)):List Nat:=owner.toList.filterMap id
theorem CC {owner:Array (Option Nat)}{j k:Nat}(he:Empty owner j):(held (owner.setIfInBounds j (some k))).Perm (k::held owner):=by
 unfold held;obtain⟨hj,ej⟩:=Array.getElem?_eq_some_iff.mp he;have e1:(owner.setIfInBounds j (some k)).toList=owner.toList.set j (some k):=by simp
 have hj':j<owner.toList.length:=by simpa using hj
 have e2:owner.toList=owner.toList.take j++none::owner.toList.drop (j+1):=by
  have:=List.take_append_drop j owner.toList;rw[List.drop_eq_getElem_cons hj']at this;rw[Array.getElem_toList,ej]at this;exact this.symm
 rw[e1,List.set_eq_take_append_cons_drop,if_pos hj',List.filterMap_append]
 conv=>rhs;rw[e2]
 rw[List.filterMap_append,List.filterMap_cons,List.filterMap_cons];show(_++k::_).Perm (k::(_++_));exact List.perm_middle
theorem xn:∀(l:List (Option Nat)),(∀j:Nat,l[j]?≠some none)->(l.filterMap id).length=l.length
 |[],_=>rfl
 |none::l,h=>absurd rfl (h 0)
 |some a::l,h=>by
  rw[List.filterMap_cons];show(List.filterMap id l).length+1=l.length+1;rw[xn l λj=>h (j+1)]
theorem xo {owner:Array (Option Nat)}(h:(held owner).length<owner.size):∃j,Empty owner j:=by
 apply Classical.byContradiction;intro n;have e:=xn owner.toList (λj z=>n ⟨j,by unfold Empty;rw[←Kv];exact z⟩);unfold held at h;rw[e,JY]at h;exact absurd h (Nat.lt_irrefl _)
noncomputable def EO (mask:Nat) (acc:Option (Array (Option Nat)×Nat)) (h:Int):Option (Array (Option Nat)×Nat):=do
 let (owner,k)←acc
 let j←SetTable.layClean.free mask owner (SetTable.turns mask) (SetTable.bits h % (mask+1)) (SetTable.bits h)
 pure (owner.setIfInBounds j (some k),k+1)
theorem xp (mask:Nat) (hs:Array Int):SetTable.layClean mask hs=(hs.toList.foldl (EO mask) (some (Array.replicate (mask+1) none,0))).map (·.1):=by
 unfold SetTable.layClean;rw[←Array.foldl_toList];rfl
theorem xq {mask k:Nat}(hm:mask+1=2^k):∀(hs:List Int) (owner:Array (Option Nat)) (n:Nat),owner.size=mask+1->(held owner).Perm (List.range n)->n+hs.length<=mask->
  ∃o',hs.foldl (EO mask) (some (owner,n))=some (o',n+hs.length)/\o'.size=mask+1/\(held o').Perm (List.range (n+hs.length))
 |[],owner,n,h1,h2,h3=>⟨owner,rfl,h1,h2⟩
 |h::hs,owner,n,h1,h2,h3=>by
  rw[Kb]at h3;have hl:(held owner).length<owner.size:=by rw[h2.length_eq,List.length_range,h1];omega
  obtain⟨e,he⟩:=xo hl;obtain⟨j,hj⟩:=Bp hm h1 he h;have hej:=so _ _ _ _ hj;have p1:(held (owner.setIfInBounds j (some n))).Perm (List.range (n+1)):=by
   refine(CC hej).trans ?_;rw[List.range_succ];exact(List.Perm.cons n h2).trans (List.perm_append_singleton n _).symm
  obtain⟨o',e1,e2,e3⟩:=xq hm hs (owner.setIfInBounds j (some n)) (n+1) (by simpa using h1) p1 (by omega);refine⟨o',?_,e2,by rw[Kb];rw[show n+(hs.length+1)=n+1+hs.length by omega];exact e3⟩;rw[List.foldl_cons,Kb,show n+(hs.length+1)=n+1+hs.length by omega,←e1];have:EO mask (some (owner,n)) h=some (owner.setIfInBounds j (some n),n+1):=by
   unfold EO;show(SetTable.layClean.free mask owner _ _ _>>=_)=_;rw[hj];rfl
  rw[this]
theorem CD (n:Nat):held (Array.replicate n none)=[]:=by
 unfold held;rw[Array.toList_replicate]
 induction n with
 |zero=>rfl
 |succ n ih=>rw[List.replicate_succ,List.filterMap_cons];exact ih
noncomputable def Up (l:List Nat):Prop:=l.Pairwise (·<·)
theorem sr (owner:Array (Option Nat)):∀(l:List Nat),Up l->Up ((l.filterMap λj=>(owner.getD j none).map (j,·)).map (·.1))/\∀x∈((l.filterMap λj=>(owner.getD j none).map (j,·)).map (·.1)),x∈l
 |[],_=>⟨List.Pairwise.nil,λx h=>h⟩
 |a::l,h=>by
  have⟨h1,h2⟩:=List.pairwise_cons.mp h;obtain⟨i1,i2⟩:=sr owner l h2;rw[List.filterMap_cons];cases q:owner.getD a none with
  |none=>exact⟨i1,λx hx=>JW _ (i2 x hx)⟩
  |some v=>
   refine⟨List.pairwise_cons.mpr ⟨λx hx=>h1 x (i2 x hx),i1⟩,λx hx=>?_⟩;rcases JX.mp hx with e|hx
   ·rw[e];exact JZ
   ·exact JW _ (i2 x hx)
theorem xr (owner:Array (Option Nat)):∀(d n:Nat),n+d=owner.size->(((List.range' n d).filterMap λj=>(owner.getD j none).map (j,·)).map (·.2))=(owner.toList.drop n).filterMap id
 |0,n,h=>by
  rw[List.drop_eq_nil_of_le (by rw[JY];omega)];rfl
 |d+1,n,h=>by
  have hn:n<owner.toList.length:=by rw[JY];omega
  rw[List.range'_succ,List.drop_eq_getElem_cons hn,List.filterMap_cons,List.filterMap_cons,←xr owner d (n+1) (by omega)];have e:owner.getD n none=owner.toList[n]:=by
   rw[Array.getD_eq_getD_getElem?,←Kv,Ka hn];rfl
  rw[e];cases owner.toList[n]<;>rfl
theorem su (n:Nat):Up (List.range n):=List.pairwise_lt_range
theorem Au {mask k:Nat}(hm:mask+1=2^k) (fi mo:Nat) (ld pl:Bool) (hs:Array Int) (hn:hs.size<=mask):
  ∃t order,SetTable.laid mask fi mo ld pl hs=some (t,order)/\order.toList.Perm (List.range hs.size)/\Up t.place.toList/\t.led=ld/\t.place.size=hs.size/\t.dummies= #[]/\t.mask=mask:=by
 obtain⟨o',e1,e2,e3⟩:=xq hm hs.toList (Array.replicate (mask+1) none) 0 (by simp) (by rw[CD];exact .nil) (by rw[JY];omega);rw[Nat.zero_add,JY]at e3;have ec:SetTable.layClean mask hs=some o':=by rw[xp,e1];rfl
 have p2:(((List.range (mask+1)).filterMap λj=>(o'.getD j none).map (j,·)).map (·.2)).Perm (List.range hs.size):=by
  rw[List.range_eq_range',xr o' (mask+1) 0 (by omega),List.drop_zero];exact e3
 obtain⟨u1,_⟩:=sr o' (List.range (mask+1)) (su _);refine⟨_,_,by unfold SetTable.laid;rw[ec];rfl,by simpa using p2,by simpa using u1,rfl,?_,rfl,rfl⟩;have:=p2.length_eq;rw[JQ,List.length_range]at this;simpa using this
theorem xu:∀(f c n:Nat),∃d,SetTable.sizeAbove.go n f (2^c)=2^d/\c<=d/\(n<2^(c+f)->n<2^d)
 |0,c,n=>⟨c,rfl,J3 _,λh=>h⟩
 |f+1,c,n=>by
  unfold SetTable.sizeAbove.go;split
  ·obtain⟨d,e,h1,h2⟩:=xu f (c+1) n;rw[show 2^c*2=2^(c+1)from(Nat.pow_succ ..).symm];exact⟨d,e,by omega,λh=>h2 (by rw[show c+1+f=c+(f+1) by omega];exact h)⟩
  ·exact⟨c,rfl,J3 _,λ_=>by omega⟩
theorem xw (n:Nat) (h:n<2^60):∃d,SetTable.sizeAbove n=2^d/\n<2^d/\3<=d:=by
 obtain⟨d,e,h1,h2⟩:=xu 64 3 n;exact⟨d,e,h2 (Kl h (by decide)),h1⟩
theorem xx (n:Nat) (h:n<65536):SetTable.sizeAbove n<=65536:=by
 have gen:∀(f c:Nat),2^c<=65536->SetTable.sizeAbove.go n f (2^c)<=65536:=by
  intro f
  induction f with
  |zero=>intro c hc;exact hc
  |succ f ih=>
   intro c hc;unfold SetTable.sizeAbove.go;split
   ·rename_i hle;rw[show 2^c*2=2^(c+1)from(Nat.pow_succ ..).symm];refine ih (c+1) ?_;have h16:c<16:=by
     apply Classical.byContradiction;intro z;have:2^16<=2^c:=Nat.pow_le_pow_right (by omega) (by omega);omega
    have:2^(c+1)<=2^16:=Nat.pow_le_pow_right (by omega) (by omega);omega
   ·exact hc
 exact gen 64 3 (by decide)
theorem vY {xs:Array Nat}(hu:Up xs.toList){i j:Nat}(hij:i<j) (hj:j<xs.size):xs[i]'(by omega)<xs[j]:=by
 have:=List.pairwise_iff_getElem.mp hu i j (by rw[JY];omega) (by rw[JY];exact hj) hij;simpa using this
theorem sv {xs:Array Nat}(hu:Up xs.toList) (j:Nat):∀(f lo hi:Nat),lo<=hi->hi<=xs.size->hi - lo<=f->(∀i (h:i<xs.size),i<lo->xs[i]<j)->(∀i (h:i<xs.size),hi<=i->j<=xs[i])->
  SetTable.below.go xs j f lo hi<=xs.size/\(∀i (h:i<xs.size),i<SetTable.below.go xs j f lo hi->xs[i]<j)/\(∀i (h:i<xs.size),SetTable.below.go xs j f lo hi<=i->j<=xs[i])
 |0,lo,hi,h1,h2,h3,h4,h5=>by
  have e:hi=lo:=by omega
  subst e;exact⟨h2,h4,h5⟩
 |f+1,lo,hi,h1,h2,h3,h4,h5=>by
  unfold SetTable.below.go;split
  ·rename_i hlt;have hm:(lo+hi) / 2<xs.size:=by omega
   have eg:xs.getD ((lo+hi) / 2) j=xs[(lo+hi) / 2]:=by rw[Array.getD_eq_getD_getElem?,Ke hm];rfl
   simp only[eg]
   by_cases hc:xs[(lo+hi) / 2]<j
   ·simp only[if_pos hc];refine sv hu j f ((lo+hi) / 2+1) hi (by omega) h2 (by omega) (λi h hi'=>?_) h5
    by_cases e:i=(lo+hi) / 2
    ·subst e;exact hc
    ·exact Nat.lt_trans (vY hu (by omega) hm) hc
   ·simp only[if_neg hc];refine sv hu j f lo ((lo+hi) / 2) (by omega) (by omega) (by omega) h4 (λi h hi'=>?_)
    by_cases e:i=(lo+hi) / 2
    ·subst e;omega
    ·exact Nat.le_of_lt (Nat.lt_of_le_of_lt (Nat.not_lt.mp hc) (vY hu (by omega) h))
  ·have e:hi=lo:=by omega
   subst e;exact⟨h2,h4,h5⟩
theorem nY {xs:Array Nat}(hu:Up xs.toList) (j:Nat):SetTable.below xs j<=xs.size/\(∀i (h:i<xs.size),i<SetTable.below xs j->xs[i]<j)/\(∀i (h:i<xs.size),SetTable.below xs j<=i->j<=xs[i]):=
 sv hu j xs.size 0 xs.size (Kk _) (J3 _) (by omega) (λi h hi=>by omega) (λi h hi=>by omega)
theorem zm {xs:Array Nat}(hu:Up xs.toList):SetTable.below xs 0=0:=by
 obtain⟨h1,h2,_⟩:=nY hu 0;apply Classical.byContradiction;intro z;have:=h2 0 (by omega) (by omega);omega
theorem zo {xs:Array Nat}(hu:Up xs.toList){i:Nat}(hi:i<xs.size):SetTable.below xs (xs[i]+1)=i+1:=by
 obtain⟨h1,h2,h3⟩:=nY hu (xs[i]+1);have a:¬SetTable.below xs (xs[i]+1)<=i:=λz=>by have:=h3 i hi z;omega
 have b:¬i+1<SetTable.below xs (xs[i]+1):=λz=>by
  have q:i+1<xs.size:=by omega
  have h4:=h2 (i+1) q z;have h5:=vY hu (Nat.lt_succ_self i) q;simp only[Nat.succ_eq_add_one]at h5;omega
 omega
theorem CF {xs:Array Nat}(hu:Up xs.toList) (j:Nat):xs[SetTable.below xs j]? =some j↔j∈xs.toList:=by
 obtain⟨h1,h2,h3⟩:=nY hu j;constructor
 ·intro h;exact Kd (by rw[Kv];exact h)
 ·intro h;obtain⟨i,hi,e⟩:=List.getElem_of_mem h;rw[JY]at hi;rw[Array.getElem_toList]at e;have a:¬i<SetTable.below xs j:=λz=>by have:=h2 i hi z;omega
  have b:¬SetTable.below xs j<i:=λz=>by
   have h4:=h3 (SetTable.below xs j) (by omega) (J3 _);have h5:=vY hu z hi;omega
  have c:SetTable.below xs j=i:=by omega
  rw[c,Ke hi,e]
theorem Bq {xs:Array Nat}(hu:Up xs.toList){j:Nat}(hj:j∉xs.toList):Up (SetTable.insertAt xs (SetTable.below xs j) j).toList:=by
 obtain⟨h1,h2,h3⟩:=nY hu j;rw[SetTable.toList_insertAt];have hd:=List.take_append_drop (SetTable.below xs j) xs.toList;have hu':(xs.toList.take (SetTable.below xs j)++xs.toList.drop (SetTable.below xs j)).Pairwise (·<·):=by rw[hd];exact hu
 obtain⟨p1,p2,p3⟩:=List.pairwise_append.mp hu';have t1:∀x∈xs.toList.take (SetTable.below xs j),x<j:=λx hx=>by
  obtain⟨i,hi,e⟩:=List.getElem_of_mem hx;rw[Kz,JY]at hi;rw[List.getElem_take,Array.getElem_toList]at e;rw[←e];exact h2 i (by omega) (by omega)
 have t2:∀x∈xs.toList.drop (SetTable.below xs j),j<x:=λx hx=>by
  obtain⟨i,hi,e⟩:=List.getElem_of_mem hx;rw[List.length_drop,JY]at hi;rw[List.getElem_drop,Array.getElem_toList]at e;have a:=h3 (SetTable.below xs j+i) (by omega) (by omega);rw[e]at a;have b:j≠x:=λz=>hj (by rw[z];exact List.mem_of_mem_drop hx);omega
 refine List.pairwise_append.mpr ⟨p1,List.pairwise_cons.mpr ⟨t2,p2⟩,λx hx y hy=>?_⟩;rcases JX.mp hy with e|hy
 ·rw[e];exact t1 x hx
 ·exact p3 x hx y hy
theorem Gj {l l':List Nat}(h:l'.Sublist l) (hu:Up l):Up l':=List.Pairwise.sublist h hu
theorem mQ {α:Type}(xs:Array α) (p:Nat):(SetTable.eraseAt xs p).toList=xs.toList.take p++xs.toList.drop (p+1):=by
 unfold SetTable.eraseAt;simp;exact List.take_of_length_le (by rw[List.length_drop,JY];exact J3 _)
theorem CG {xs:Array Nat}(hu:Up xs.toList) (p:Nat):Up (SetTable.eraseAt xs p).toList:=by
 rw[mQ,←List.eraseIdx_eq_take_drop_succ];exact Gj (List.eraseIdx_sublist ..) hu
structure Br (ld:Bool) (t:SetTable) (n:Nat):Prop where
 fits:t.fits n=true
 up:Up t.place.toList
 led:t.led=ld
theorem jo {ld:Bool}{t:SetTable}(h:t.led=ld) (n:Nat):Br ld (t.standIn n) n:=⟨SetTable.standIn_fits t n,by show Up (Array.range n).toList;rw[Array.toList_range];exact su n,h⟩
theorem vZ {ld:Bool}{t:SetTable}{n:Nat}(h:t.led=ld) (hu:Up t.place.toList):Br ld (t.orStandIn n) n:=by
 unfold SetTable.orStandIn;split
 ·rename_i q;exact⟨q,hu,h⟩
 ·exact jo h n
theorem mR {t:SetTable}(hu:Up t.place.toList) (h:Int):∀(f:Nat) (p:SetTable.Probe),(∀d,p.dummy=some d->d∉t.place.toList)->∀m,SetTable.probe.go t (λ_=>h+1) h f p=some m->
  ∃j d,m=.empty j d/\j∉t.place.toList/\∀e,d=some e->e∉t.place.toList
 |0,p,hd,m,e=>by simp[SetTable.probe.go]at e
 |f+1,p,hd,m,e=>by
  unfold SetTable.probe.go at e;have adv:∀q:SetTable.Probe,(t.advance q).dummy=q.dummy:=λq=>by
   unfold SetTable.advance;split
   ·rfl
   ·rfl
  have nl:t.slot p.j=.empty\/t.slot p.j=.dummy->p.j∉t.place.toList:=λz hm=>by
   unfold SetTable.slot at z;have:=(CF hu p.j).mpr hm;dsimp only at z;rw[this]at z;simp at z
  split at e
  ·rename_i q;have:=JU e;exact⟨p.j,p.dummy,this.symm,nl (.inl q),hd⟩
  ·rename_i q;refine mR hu h f _ (λd hq=>?_) m e;rw[adv]at hq;cases hq;exact nl (.inr q)
  ·rename_i i q;rw[if_neg (by simp;omega)]at e;exact mR hu h f _ (λd hq=>hd d (by rw[adv]at hq;exact hq)) m e
theorem uz {t:SetTable}(hu:Up t.place.toList){h:Int}{j:Nat}{b:Bool}(e:t.freeSlot h=some (j,b)):j∉t.place.toList:=by
 unfold SetTable.freeSlot at e;split at e
 ·rename_i j' d q;obtain⟨j2,d2,e2,h1,h2⟩:=mR hu h _ _ (λd hd=>by simp[SetTable.probeStart]at hd) _ q;cases e2;have:=JU e;cases d with
  |none=>cases this;exact h1
  |some d=>cases this;exact h2 d rfl
 ·cases e
theorem Bs {ld:Bool}{t:SetTable}{es:Array (Int×Value)}(hu:Up t.place.toList) (hl:t.led=ld) (h:Int) (x:Value):Br ld (layNew t es h x).2.1 (layNew t es h x).1.size:=by
 unfold layNew;split
 ·rename_i slot wd q;have hn:=uz hu q;show Br ld ((t.put slot).1.orStandIn (SetTable.insertAt es (t.put slot).2 (h,x)).size) (SetTable.insertAt es (t.put slot).2 (h,x)).size;exact vZ hl (Bq hu hn)
 ·show Br ld (t.standIn (es.size+1)) (es.push (h,x)).size;rw[Array.size_push];exact jo hl _
theorem Av {mask fi mo:Nat}{ld pl:Bool}{hs:Array Int}{t:SetTable}{o:Array Nat}(e:SetTable.laid mask fi mo ld pl hs=some (t,o)):Up t.place.toList/\t.led=ld:=by
 unfold SetTable.laid at e;cases q:SetTable.layClean mask hs with
 |none=>rw[q]at e;cases e
 |some owner=>
  rw[q]at e;have e':=JU e;cases e';obtain⟨u1,_⟩:=sr owner (List.range (mask+1)) (su _);exact⟨by simpa using u1,rfl⟩
theorem xy {ld:Bool}{t:SetTable}{es:Array (Int×Value)}(hl:t.led=ld) (wanted:Nat):Br ld (relayAll t es wanted).2.1 (relayAll t es wanted).1.size:=by
 refine⟨relayAll_fits t es wanted,?_,?_⟩
 ·unfold relayAll;split
  ·rename_i t' order q;dsimp only;split
   ·exact(Av q).1
   ·exact(jo (ld:=t.led) rfl _).up
  ·exact(jo (ld:=t.led) rfl _).up
 ·unfold relayAll;split
  ·rename_i t' order q;dsimp only;split
   ·exact(Av q).2.trans hl
   ·exact hl
  ·exact hl
theorem ER {ld:Bool}{t:SetTable}{n i:Nat}(h:Br ld t n) (hi:i<n):Br ld (t.drop i) (n - 1):=by
 have hf:=h.fits;unfold SetTable.fits SetTable.fill at hf;simp only[JS,beq_iff_eq,JT]at hf;have hi':i<t.place.size:=by omega
 have e:t.drop i={t with place:=SetTable.eraseAt t.place i,dummies:=SetTable.insertAt t.dummies (SetTable.below t.dummies t.place[i]) t.place[i]}:=by
  unfold SetTable.drop;rw[Ke hi']
 have l1:(SetTable.eraseAt t.place i).size=n - 1:=by
  rw[←JY,mQ,JV,Kz,List.length_drop,JY];omega
 have l2:(SetTable.insertAt t.dummies (SetTable.below t.dummies t.place[i]) t.place[i]).size=t.dummies.size+1:=by
  have:=(SetTable.insertAt_perm t.dummies (SetTable.below t.dummies t.place[i]) t.place[i]).length_eq;simpa using this
 rw[e];refine⟨?_,CG h.up i,h.led⟩;unfold SetTable.fits SetTable.fill;dsimp only;rw[l1,l2];simp only[JS,beq_iff_eq,JT];exact⟨trivial,by omega⟩
noncomputable def dA (w:World):Bool:=w.params.followText "set-order"
noncomputable def jq (e:Int×Value):Prop:=∃k t,e=(hashInt k,Value.int k t)
noncomputable def a9 (e:Int×Value):Int:=match e.2 with
 |.int k _=>k
 |_=>0
structure Raw (w:World) (h:Heap) (a:Addr) (o:Obj) (es:Array (Int×Value)) (ep:Nat) (t:SetTable):Prop where
 get:h.get? a=some o
 ex:o.ExactSet
 dat:o.data=.set es ep t
 inz:∀e∈es.toList,jq e
 nd:(es.toList.map a9).Nodup
 l0:es.size<scanBound
 ok:Br (!dA w) t es.size
noncomputable def aK (w:World) (h:Heap) (a:Addr) (ks:List Int):Prop:=∃o es ep t,Raw w h a o es ep t/\es.toList.map a9=ks
theorem aK.at {w:World}{h h':Heap}{a:Addr}{ks:List Int}(S:aK w h a ks) (e:∀o,h.get? a=some o->h'.get? a=some o):aK w h' a ks:=by
 obtain⟨o,es,ep,t,R,q⟩:=S;exact⟨o,es,ep,t,⟨e _ R.get,R.ex,R.dat,R.inz,R.nd,R.l0,R.ok⟩,q⟩
theorem aK.nodup {w:World}{h:Heap}{a:Addr}{ks:List Int}(S:aK w h a ks):ks.Nodup:=by
 obtain⟨o,es,ep,t,R,q⟩:=S;rw[←q];exact R.nd
theorem aK.l0 {w:World}{h:Heap}{a:Addr}{ks:List Int}(S:aK w h a ks):ks.length<scanBound:=by
 obtain⟨o,es,ep,t,R,q⟩:=S;rw[←q,JQ,JY];exact R.l0
theorem Bt {e:Int×Value}(h:jq e) (k:Int):Value.isInt k e.2=decide (a9 e=k):=by
 obtain⟨j,t,rfl⟩:=h;show(j==k)=decide (j=k);rfl
theorem Raw.elems {w:World}{h:Heap}{a:Addr}{o:Obj}{es:Array (Int×Value)}{ep:Nat}{t:SetTable}(R:Raw w h a o es ep t) (prog:Program):ElemsOf (intKind prog w) es.toList:=λe he=>by
 obtain⟨k,t,rfl⟩:=R.inz e he;exact⟨⟨k,by show(k==k)=true;simp,rfl⟩,rfl⟩
theorem find_key:∀{l:List (Int×Value)}(k:Int),(∀e∈l,jq e)->l.findIdx? (λe=>Value.isInt k e.2)=(l.map a9).findIdx? (λz=>decide (z=k))
 |[],k,_=>rfl
 |e::l,k,h=>by
  rw[Kq,List.findIdx?_cons,List.findIdx?_cons,Bt (h e JZ) k,find_key k λx hx=>h x (JW _ hx)]
theorem CH {ks:List Int}{k:Int}(h:ks.findIdx? (λz=>decide (z=k))=none):k∉ks:=λm=>by
 have:=List.findIdx?_eq_none_iff.mp h k m;simp at this
theorem CI {ks:List Int}{k:Int}{i:Nat}(h:ks.findIdx? (λz=>decide (z=k))=some i):ks[i]? =some k:=by
 obtain⟨hi,hp,_⟩:=List.findIdx?_eq_some_iff_getElem.mp h;rw[Ka hi];simp at hp;rw[hp]
section
variable{prog:Program}{w:World}{A:Around}{E:Value->Shared->Prop}{s:Shared}{a:Addr}{ks:List Int}{k:Int}{t:Tok}
theorem b5 {o:Obj}{es:Array (Int×Value)}{ep:Nat}{tb:SetTable}{Q:(Array (Int×Value)×Nat×SetTable)->Shared->Prop}(R:Raw w s.heap a o es ep tb) (h:Q (es,ep,tb) s):wpAny (model prog w) A (setState a) Q E s:=
 wpAny_setState_of R.get R.dat R.ok.fits h
theorem gu {o:Obj}{es:Array (Int×Value)}{ep:Nat}{tb:SetTable}{Q:Array (Int×Value)->Shared->Prop}(R:Raw w s.heap a o es ep tb) (h:Q es s):wpAny (model prog w) A (setEntries a) Q E s:=
 wpAny_setEntries_of R.get R.dat R.ok.fits h
theorem gy {o:Obj}{es:Array (Int×Value)}{ep:Nat}{tb:SetTable}{Q:Nat->Shared->Prop}(R:Raw w s.heap a o es ep tb) (h:Q ep s):wpAny (model prog w) A (setEpoch a) Q E s:=
 wpAny_setEpoch_of R.get R.dat R.ok.fits h
theorem Aw {o:Obj}{es:Array (Int×Value)}{ep:Nat}{tb:SetTable}{adding:Bool}{Q:ScanMet->Shared->Prop}(R:Raw w s.heap a o es ep tb)
  (h1:∀i,(es.toList.map a9)[i]? =some k->Q (.found i) s) (h2:k∉es.toList.map a9->Q .absent s):wpAny (model prog w) A (setScan a (.int k t) (hashInt k) adding es) Q E s:=by
 refine wpAny_setScan_of (knd:=intKind prog w) (k:=k) (by show(k==k)=true;simp) R.get R.dat R.ok.fits (R.elems prog) ?_;have e:es.toList.findIdx? (λe=>(intKind prog w).is k e.2)=(es.toList.map a9).findIdx? (λz=>decide (z=k)):=find_key k R.inz;rw[e];cases q:(es.toList.map a9).findIdx? (λz=>decide (z=k))with
 |none=>exact h2 (CH q)
 |some i=>
  dsimp only;rw[Nat.zero_add];exact h1 i (CI q)
theorem va {o:Obj}{es:Array (Int×Value)}{ep:Nat}{tb:SetTable}(R:Raw w s.heap a o es ep tb) (prog:Program):byScan (.int k t) es=true:=byScan_of (knd:=intKind prog w) rfl R.l0 (R.elems prog)
theorem Ax {Q:Option Nat->Shared->Prop}{o:Obj}{es:Array (Int×Value)}{ep:Nat}{tb:SetTable}(R:Raw w s.heap a o es ep tb)
  (h1:∀i,(es.toList.map a9)[i]? =some k->Q (some i) s) (h2:k∉es.toList.map a9->Q none s):wpAny (model prog w) A (setFind a (.int k t) (hashInt k)) Q E s:=by
 unfold setFind setFindIn;refine JO (b5 R ?_);dsimp only;rw[va R prog];simp only[↓reduceIte];refine JO (wpAny_rule (JO (Aw R (λi hi=>?_) λhn=>?_)))
 ·exact JP (h1 i hi)
 ·exact JP (h2 hn)
theorem ES {h:Heap}{o:Obj}{es es':Array (Int×Value)}{ep:Nat}{tb tb':SetTable}(R:Raw w h a o es ep tb) (hi:∀e∈es'.toList,jq e) (hn:(es'.toList.map a9).Nodup) (hf:es'.size<scanBound)
  (hk:Br (!dA w) tb' es'.size):Raw w (h.update a (Obj.putSet es' tb')) a {o with data:=.set es' (ep+1) tb'} es' (ep+1) tb':=by
 have hg:(h.update a (Obj.putSet es' tb')).get? a=some {o with data:=.set es' (ep+1) tb'}:=by
  have q:=Heap.get?_update_self (Obj.putSet es' tb') R.get (by rw[putSet_of es' tb' R.dat];rfl);rw[putSet_of es' tb' R.dat]at q;exact q
 exact⟨hg,R.ex,rfl,hi,hn,hf,hk⟩
theorem gz {o:Obj}{es es':Array (Int×Value)}{ep:Nat}{tb tb':SetTable}{Q:Unit->Shared->Prop}(R:Raw w s.heap a o es ep tb) (hi:∀e∈es'.toList,jq e) (hn:(es'.toList.map a9).Nodup) (hf:es'.size<scanBound)
  (hk:Br (!dA w) tb' es'.size) (h:∀h',Heap.SameBut a s.heap h'->Raw w h' a {o with data:=.set es' (ep+1) tb'} es' (ep+1) tb'->Q () {s with heap:=h'}):wpAny (model prog w) A (storeSet a es' tb') Q E s:=
 wpAny_storeSet_of R.get R.dat (h _ (Heap.SameBut.update s.heap a _) (ES R hi hn hf hk)) (fits_of_scanBound hf)
theorem fg {l l':List (Int×Value)}(h:∀e∈l,jq e) (p:l'.Perm l):∀e∈l',jq e:=λe he=>h e (p.mem_iff.mp he)
theorem fh {x y:Array (Int×Value)}(p:x.toList.Perm y.toList):x.size=y.size:=by
 have:=p.length_eq;rw[JY,JY]at this;exact this
theorem Ay {g:Bool->Sem Unit}(hg:∀(b:Bool) (s1:Shared) (Q':Unit->Shared->Prop),Q' () s1->wpAny (model prog w) A (g b) Q' E s1){o:Obj}{es es1:Array (Int×Value)}{ep:Nat}{tb t2:SetTable}{c:Bool}
  {Q:Option Bool->Shared->Prop}(R:Raw w s.heap a o es ep tb) (hi:∀e∈es1.toList,jq e) (hn:(es1.toList.map a9).Nodup) (hf:es1.size<scanBound) (hk:Br (!dA w) t2 es1.size)
  (h:∀h' ks',Heap.SameBut a s.heap h'->aK w h' a ks'->ks'.Perm (es1.toList.map a9)->Q (some true) {s with heap:=h'}):
  wpAny (model prog w) A (do
   storeSet a es1 t2
   if c=true then do
    g (relayAll t2 es1 (SetTable.grown es1.size)).2.2
    storeSet a (relayAll t2 es1 (SetTable.grown es1.size)).1 (relayAll t2 es1 (SetTable.grown es1.size)).2.1
    pure (some true)
   else pure (some true)) Q E s:=by
 refine JO (gz R hi hn hf hk λh1 sb1 R1=>?_);split
 ·have p:=relayAll_perm t2 es1 (SetTable.grown es1.size);have z:=xy (es:=es1) hk.led (SetTable.grown es1.size);generalize relayAll t2 es1 (SetTable.grown es1.size)=L at p z ⊢;obtain⟨e2,t3,b3⟩:=L;dsimp only at p z ⊢;have pk:(e2.toList.map a9).Perm (es1.toList.map a9):=p.map _;refine JO (hg _ _ _ (JO ?_));refine gz R1 (fg hi p) (pk.nodup_iff.mpr hn) (by rw[fh p];exact hf) z λh2 sb2 R2=>JP ?_;exact h h2 _ (sb1.trans sb2) ⟨_,e2,_,t3,R2,rfl⟩ pk
 ·exact JP (h h1 _ sb1 ⟨_,es1,_,t2,R1,rfl⟩ (List.Perm.refl _))
theorem v7 {Q:Bool->Shared->Prop}(S:aK w s.heap a ks) (hroom:ks.length+1<scanBound)
  (h:∀b h' ks',Heap.SameBut a s.heap h'->aK w h' a ks'->ks'.Perm (if k∈ks then ks else k::ks)->Q b {s with heap:=h'}):
  wpAny (model prog w) A (setAddHashed a (.int k t) (hashInt k)) Q E s:=by
 obtain⟨o,es,ep,tb,R,rfl⟩:=S;rw[JQ,JY]at hroom;unfold setAddHashed setAddHashedIn;refine wpAny_holding (JO (b5 R ?_));dsimp only;rw[va R prog];simp only[↓reduceIte];unfold setAddByScan;refine JO (JO (wpAny_rule (JO (Aw R (λi hi=>?_) λhn=>?_))))
 ·have hm:k∈es.toList.map a9:=Kd hi;refine JP (JP ?_);have e:s={s with heap:=s.heap}:=by cases s;rfl
  have q:=h false s.heap _ (Heap.SameBut.refl a s.heap) ⟨o,es,ep,tb,R,rfl⟩ (by rw[if_pos hm]);rw[e];exact q
 ·dsimp only;have p:=layNew_perm tb es (hashInt k) (.int k t);have z:=Bs (es:=es) R.ok.up R.ok.led (hashInt k) (.int k t);generalize layNew tb es (hashInt k) (.int k t)=L at p z ⊢;obtain⟨e1,t1,wd,gv⟩:=L;dsimp only at p z ⊢;rw[Array.toList_push]at p;have hi1:∀e∈e1.toList,jq e:=λe he=>by
   rcases Ky.mp (p.mem_iff.mp he)with q|q
   ·exact R.inz e q
   ·rw[J6.mp q];exact⟨k,t,rfl⟩
  have pk:(e1.toList.map a9).Perm (k::es.toList.map a9):=by
   have q:=p.map a9;rw[Ki]at q;exact q.trans (List.perm_append_singleton k _)
  have hn1:(e1.toList.map a9).Nodup:=pk.nodup_iff.mpr (Kx.mpr ⟨hn,R.nd⟩);have hf1:e1.size<scanBound:=by
   have q:=p.length_eq;rw[JV,JY,JY]at q;rw[q];exact hroom
  have fin:∀h' ks',Heap.SameBut a s.heap h'->aK w h' a ks'->ks'.Perm (e1.toList.map a9)->Q true {s with heap:=h'}:=λh' ks' sb S' p'=>
   h true h' ks' sb S' (by rw[if_neg hn];exact p'.trans pk)
  refine JO ?_;have gw:∀(b:Bool) (s1:Shared) (Q':Unit->Shared->Prop),Q' () s1->wpAny (model prog w) A (match b with|true=>rule "set.scan.the-table-gave-way"|false=>pure ()) Q' E s1:=λb s1 Q' q=>by
   cases b
   ·exact JP q
   ·exact wpAny_rule q
  refine gw gv _ _ ?_;split
  ·refine JO ?_;rw[hashByValue_scannable 8 (x:=.int k t) rfl];refine JP ?_;refine Ay gw R hi1 hn1 hf1 z λh' ks' sb S' p'=>JP (fin h' ks' sb S' p')
  ·refine JO (JP ?_);simp only[↓reduceIte];exact Ay gw R hi1 hn1 hf1 z λh' ks' sb S' p'=>JP (fin h' ks' sb S' p')
end
section
variable{prog:Program}{w:World}{A:Around}{E:Value->Shared->Prop}{s:Shared}{a:Addr}{ks:List Int}{k:Int}{t:Tok}{o:Obj}{es:Array (Int×Value)}{ep:Nat}{tb:SetTable}
theorem Bu {α:Type}{src:Source}{n:Nat}{Q:Nat->Shared->Prop}(hn:n≠0) (h:∀i d,i<n->Q i {s with drawn:=d}):wpAny (model prog w) A (choose src n) Q E s:=λΓ p hΓ=>
 ⟨hn,h _ _ (Nat.mod_lt _ (Nat.pos_of_ne_zero hn))⟩
theorem mS {α:Type}{l:List α}{i:Nat}{x:α}(h:l[i]? =some x):(x::l.eraseIdx i).Perm l:=by
 obtain⟨hi,e⟩:=J2.mp h;have q:=List.take_append_drop i l;rw[List.drop_eq_getElem_cons hi,e]at q;rw[List.eraseIdx_eq_take_drop_succ]
 conv=>rhs;rw[←q]
 exact List.perm_middle.symm
theorem jr {α:Type}:∀(n:Nat) (l:List α) (s:Shared){Q:List α->Shared->Prop},n=l.length->(∀ys d,ys.Perm l->Q ys {s with drawn:=d})->wpAny (model prog w) A (drawOrder n l) Q E s
 |0,l,s,Q,e,h=>by
  have q:l=[]:=List.eq_nil_of_length_eq_zero e.symm;subst q;have e2:s={s with drawn:=s.drawn}:=by cases s;rfl
  unfold drawOrder;refine JP ?_;rw[e2];exact h [] s.drawn (List.Perm.refl _)
 |n+1,[],s,Q,e,h=>by simp at e
 |n+1,x::l,s,Q,e,h=>by
  unfold drawOrder;refine JO (Bu (α:=α) (by rw[Kb];omega) λi d hi=>?_);rw[Ka hi];dsimp only;refine JO (jr n _ _ (by rw[List.length_eraseIdx_of_lt hi];rw[Kb]at*;omega) λys d2 p=>JP ?_);exact h _ d2 ((List.Perm.cons _ p).trans (mS (Ka hi)))
theorem Az {α:Type}(nx:Nat->Nat):∀(f k:Nat) (l:List α) (out:Array α),f=l.length->(pickOrder.go nx f k l out).toList.Perm (out.toList++l)
 |0,k,l,out,e=>by
  have q:l=[]:=List.eq_nil_of_length_eq_zero e.symm;subst q;rw[Ks];exact List.Perm.refl _
 |f+1,k,l,out,e=>by
  have hi:nx k % l.length<l.length:=Nat.mod_lt _ (by omega);unfold pickOrder.go;rw[Ka hi];dsimp only;refine(Az nx f (k+1) _ _ (by rw[List.length_eraseIdx_of_lt hi];omega)).trans ?_;rw[Array.toList_push,List.append_assoc];exact List.Perm.append_left _ (mS (Ka hi))
theorem vb {α:Type}(nx:Nat->Nat) (xs:Array α):(pickOrder nx xs).toList.Perm xs.toList:=by
 have:=Az nx xs.size 0 xs.toList #[] (by rw[JY]);unfold pickOrder;simpa using this
theorem gg {Q:Bool->Shared->Prop}(h:Q (dA w) s):wpAny (model prog w) A setsByText Q E s:=by
 unfold setsByText;exact JO (wpAny_askSetting (JP h))
theorem ET {Q:Array (Int×Value)->Shared->Prop}(R:Raw w s.heap a o es ep tb) (h:∀es' d,es'.toList.Perm es.toList->Q es' {s with drawn:=d}):wpAny (model prog w) A (setWalk a) Q E s:=by
 have e2:s={s with drawn:=s.drawn}:=by cases s;rfl
 unfold setWalk;refine JO (b5 R (JO (gg ?_)));cases hb:dA w with
 |true=>
  simp only[↓reduceIte];refine JO (wpAny_askSetting (JP ?_));rw[e2];exact h _ s.drawn (vb _ _)
 |false=>
  simp only[Kc,↓reduceIte];have hl:tb.led=true:=by rw[R.ok.led,hb];rfl
  split
  ·refine JO (jr es.size es.toList s (by rw[JY]) λys d p=>JP ?_);exact h _ d (by simpa using p)
  ·refine JO ?_
   wp_delta
   rw[hl];simp only[Bool.not_true,Bool.false_and,Kc,↓reduceIte];refine JP (JP ?_);rw[e2];exact h es s.drawn (List.Perm.refl _)
theorem xA {Q:Unit->Shared->Prop}{wanted:Nat}(R:Raw w s.heap a o es ep tb) (hw:wanted<65536) (he:es.size<=wanted)
  (h:∀h' o' es' ep' tb',Heap.SameBut a s.heap h'->Raw w h' a o' es' ep' tb'->es'.toList.Perm es.toList->tb'.dummies= #[]->tb'.mask+1=SetTable.sizeAbove wanted->Q () {s with heap:=h'}):wpAny (model prog w) A (setRelay a wanted) Q E s:=by
 obtain⟨d,e1,e2,e3⟩:=xw wanted (Kl hw (by decide));have hp:0<2^d:=Nat.two_pow_pos d;have hz:(es.map (·.1)).size=es.size:=by simp
 obtain⟨t',order,hl,hperm,hup,hled,hpl,hdm,hmk⟩:=Au (mask:=SetTable.sizeAbove wanted - 1) (k:=d) (by rw[e1];omega) tb.finger (tb.movedTo (SetTable.sizeAbove wanted - 1)) tb.led tb.plain (es.map (·.1)) (by rw[hz,e1];omega);rw[hz]at hperm hpl;have hrl:tb.relaid (es.map (·.1)) wanted=some (t',order):=hl;have hpe:(order.filterMap (es[·]?)).toList.Perm es.toList:=by
  rw[Array.toList_filterMap];exact(hperm.filterMap _).trans (by rw[filterMap_getElem?_range])
 have hsz:=fh hpe;have pk:((order.filterMap (es[·]?)).toList.map a9).Perm (es.toList.map a9):=hpe.map _;unfold setRelay;refine JO (b5 R ?_);dsimp only;rw[if_neg (by have:=xx wanted hw;rw[sizeLine_eq];omega),hrl];refine JO ?_
 wp_delta
 rw[if_neg (by simp only[bne_iff_ne,ne_eq,Decidable.not_not];exact hsz)];refine JP ?_;dsimp only;refine gz R (fg R.inz hpe) (pk.nodup_iff.mpr R.nd) (by rw[hsz];exact R.l0) ⟨?_,hup,hled.trans R.ok.led⟩ λh' sb R'=>h h' _ _ _ _ sb R' hpe hdm (by rw[hmk];omega);unfold SetTable.fits SetTable.fill;rw[hdm,hpl,hmk,hsz];simp;rw[e1];omega
end
section
variable{prog:Program}{w:World}{A:Around}{E:Value->Shared->Prop}{s:Shared}{a b:Addr}{ks ls:List Int}{k:Int}{t:Tok}{o:Obj}{es:Array (Int×Value)}{ep:Nat}{tb:SetTable}
theorem aK.other {h h':Heap}(S:aK w h b ls) (sb:Heap.SameBut a h h') (hab:b≠a):aK w h' b ls:=S.at λo e=>by rw[sb.2 b hab];exact e
theorem Raw.other {h h':Heap}{o:Obj}{es:Array (Int×Value)}{ep:Nat}{tb:SetTable}(R:Raw w h b o es ep tb) (sb:Heap.SameBut a h h') (hab:b≠a):Raw w h' b o es ep tb:=
 ⟨by rw[sb.2 b hab];exact R.get,R.ex,R.dat,R.inz,R.nd,R.l0,R.ok⟩
theorem EU {Q:Unit->Shared->Prop}{more:Nat}(R:Raw w s.heap a o es ep tb) (hm:more<scanBound)
  (h:∀h' o' es' ep' tb',Heap.SameBut a s.heap h'->Raw w h' a o' es' ep' tb'->es'.toList.Perm es.toList->(tb'.fill=0->es.size=0)->(es.size=0->tb'.dummies= #[]->more<=tb'.mask/\∃d,tb'.mask+1=2^d)->Q () {s with heap:=h'})
  (hfresh:es.size=0->tb.mask=7):wpAny (model prog w) A (setRoomFor a more) Q E s:=by
 have hf:=R.l0;have hs:scanBound=4096:=rfl;have bq:=R.ok.fits;unfold SetTable.fits SetTable.fill at bq;simp only[JS,beq_iff_eq,JT]at bq;unfold setRoomFor;refine JO (b5 R ?_);dsimp only;unfold SetTable.roomFor;split
 ·rename_i wanted hw;split at hw
  ·have hw:=JU hw;refine xA R (by rw[←hw];omega) (by rw[←hw];omega) λh' o' es' ep' tb' sb R' p hd hm'=>?_;have hok':=R'.ok.fits;unfold SetTable.fits SetTable.fill at hok';simp only[JS,beq_iff_eq,JT]at hok';obtain⟨d,e1,e2,e3⟩:=xw wanted (by omega);have hp:=fh p;refine h h' o' es' ep' tb' sb R' p (λz=>by unfold SetTable.fill at z;omega) λz _=>⟨?_,d,by rw[hm',e1]⟩;rw[e1]at hm';omega
  ·cases hw
 ·rename_i hw;split at hw
  ·exact(hw _ rfl).elim
  ·rename_i hc;have e2:s={s with heap:=s.heap}:=by cases s;rfl
   have q:=h s.heap o es ep tb (Heap.SameBut.refl a s.heap) R (List.Perm.refl _) (λz=>by unfold SetTable.fill at z;omega) λz zd=>by
    have hm7:=hfresh z;refine⟨?_,3,by rw[hm7]⟩;unfold SetTable.fill at hc;rw[zd]at hc;simp at hc;omega
   refine JP ?_;rw[e2];exact q
theorem CJ:∀{l:List Addr},(∀b∈l,∃ls,aK w s.heap b ls)->∀{Q:Bool->Shared->Prop},Q true s->wpAny (model prog w) A (setsQuiet l) Q E s:=by
 intro l hl Q h;unfold setsQuiet;refine JO (wpAny_forIn_list _ (λrest b s'=>b=⟨none,⟨⟩⟩/\s'=s/\∀b∈rest,∃ls,aK w s.heap b ls) _ ?turn ?fin l _ ⟨rfl,rfl,hl⟩)
 case fin=>
  rintro b s' ⟨rfl,rfl,_⟩;exact JP h
 case turn=>
  rintro x rest b s' ⟨rfl,rfl,hr⟩;obtain⟨ls,o,es,ep,tb,R,_⟩:=hr x JZ;refine JO (gu R ?_);refine JO (MeetsSeq2.wpAny_forIn_array _ (λrest2 b s2=>b=⟨none,⟨⟩⟩/\s2=s'/\∀e∈rest2,jq e) _ ?t2 ?f2 es _ ⟨rfl,rfl,R.inz⟩)
  case f2=>
   rintro b s2 ⟨rfl,rfl,_⟩;exact JP ⟨rfl,rfl,λb hb=>hr b (JW _ hb)⟩
  case t2=>
   rintro e r2 b s2 ⟨rfl,rfl,he⟩;obtain⟨k,t,rfl⟩:=he e JZ;exact JP ⟨rfl,rfl,λe h=>he e (JW _ h)⟩
theorem lK {Q:Array (Int×Value)->Shared->Prop}{others:List Addr}{fl:Option Addr}{fs:List Int}(R:Raw w s.heap a o es ep tb) (ho:∀b∈others,∃ls,aK w s.heap b ls) (hf:∀f,fl=some f->aK w s.heap f fs)
  (h:∀es' h' d,es'.toList.Perm es.toList->h'.objs.size=s.heap.objs.size->(∀b,fl≠some b->h'.get? b=s.heap.get? b)->(∀f,fl=some f->aK w h' f fs)->Q es' {s with heap:=h',drawn:=d}):
  wpAny (model prog w) A (setWalkUnseen a others fl) Q E s:=by
 have plain:wpAny (model prog w) A (setWalk a) Q E s:=ET R λes' d p=>h es' s.heap d p rfl (λ_ _=>rfl) hf;unfold setWalkUnseen;refine JO (b5 R (JO (gg ?_)));dsimp only;split
 ·exact plain
 ·refine JO (CJ (l:=a::others) (λb hb=>?_) ?_)
  ·rcases JX.mp hb with e|hb
   ·rw[e];exact⟨_,o,es,ep,tb,R,rfl⟩
   ·exact ho b hb
  ·simp only[Bool.not_true,Kc,↓reduceIte];refine JO (wpAny_rule ?_);have e2:s={s with heap:=s.heap,drawn:=s.drawn}:=by cases s;rfl
   have fin:Q es s:=by
    have q:=h es s.heap s.drawn (List.Perm.refl _) rfl (λ_ _=>rfl) hf;rw[e2];exact q
   cases fl with
   |none=>exact JP fin
   |some f=>
    dsimp only;obtain⟨of,ef,epf,tf,Rf,q⟩:=hf f rfl;refine JO (b5 Rf ?_);dsimp only;split
    ·have hk:Br (!dA w) {tf with led:=tf.led&&tb.led,plain:=tf.plain&&tb.plain} ef.size:=⟨by have:=Rf.ok.fits;unfold SetTable.fits SetTable.fill at*;exact this,Rf.ok.up,by show(tf.led&&tb.led)=_;rw[Rf.ok.led,R.ok.led,Bool.and_self]⟩;refine JO (gz Rf Rf.inz Rf.nd Rf.l0 hk λh' sb R'=>JP ?_);have q2:=h es h' s.drawn (List.Perm.refl _) sb.1 (λb hb=>sb.2 b (λz=>hb (by rw[z]))) (λf' e'=>by cases e';exact⟨_,ef,_,_,R',q⟩);exact q2
    ·exact JP fin
end
theorem cx {α:Type} [DecidableEq α]:∀{l U:List α},l.Nodup->(∀x∈l,x∈U)->l.length<=U.length
 |[],U,_,_=>Kk _
 |x::l,U,hn,hs=>by
  obtain⟨h1,h2⟩:=Kx.mp hn;have hx:=hs x JZ;have:=cx (l:=l) (U:=U.erase x) h2 λy hy=>(List.mem_erase_of_ne (λe=>h1 (by rw[←e];exact hy))).mpr (hs y (JW _ hy));rw[List.length_erase_of_mem hx]at this;have:0<U.length:=List.length_pos_of_mem hx;rw[Kb];omega
section
variable{prog:Program}{w:World}{A:Around}{E:Value->Shared->Prop}{s:Shared}{a b:Addr}{ks ls U:List Int}{k:Int}{t:Tok}
theorem xB {o oo:Obj}{es eo:Array (Int×Value)}{ep epo:Nat}{tb to_:SetTable}{each:Sem Unit}{Q:Unit->Shared->Prop}(R:Raw w s.heap a o es ep tb) (Ro:Raw w s.heap b oo eo epo to_) (hab:a≠b)
  (hfr:es.size=0->tb.mask=7/\tb.dummies= #[]) (hU:U.length+1<scanBound) (hk:∀z∈es.toList.map a9,z∈U) (hl:∀z∈eo.toList.map a9,z∈U)
  (heach:∀(s1:Shared) (Q':Unit->Shared->Prop),Raw w s1.heap b oo eo epo to_->Q' () s1->wpAny (model prog w) A each Q' E s1)
  (h:∀h' d ms,Heap.SameBut a s.heap h'->aK w h' a ms->(∀z,z∈ms↔z∈es.toList.map a9\/z∈eo.toList.map a9)->(eo.size=0->h'=s.heap)->Q () {s with heap:=h',drawn:=d}):wpAny (model prog w) A (setMerge a b each) Q E s:=by
 unfold setMerge;rw[if_neg (by simpa using hab)];refine JO (b5 Ro ?_);dsimp only;split
 ·rename_i he;have e0:eo= #[]:=by simpa using he
  have e2:s={s with heap:=s.heap,drawn:=s.drawn}:=by cases s;rfl
  have q:=h s.heap s.drawn _ (Heap.SameBut.refl a _) ⟨o,es,ep,tb,R,rfl⟩ (λz=>by rw[e0];simp) λ_=>rfl;refine JP ?_;rw[e2];exact q
 ·rename_i he;have hne:0<eo.size:=by
   apply Nat.pos_of_ne_zero;intro z;exact he (by simpa using z)
  refine JO (EU R Ro.l0 (λh1 o1 es1 ep1 tb1 sb1 R1 p1 hfill hempty=>?_) λz=>(hfr z).1);have Ro1:=Ro.other sb1 (Ne.symm hab);have pk1:(es1.toList.map a9).Perm (es.toList.map a9):=p1.map _;refine JO (b5 R1 ?_);dsimp only;have okf:=R1.ok.fits;unfold SetTable.fits SetTable.fill at okf;simp only[JS,beq_iff_eq,JT]at okf;have nothing:tb1.fill=0->es.size=0/\tb1.dummies= #[]/\∀z,¬z∈es.toList.map a9:=λz=>by
   have z1:=hfill z;unfold SetTable.fill at z;have z2:tb1.dummies.size=0:=by omega
   have z3:es= #[]:=by simpa using z1
   exact⟨z1,by simpa using z2,λx=>by rw[z3];simp⟩
  split
  ·rename_i hr;have hz:tb1.fill=0:=by
    unfold SetTable.road at hr;split at hr
    ·cases hr
    ·rename_i q;simpa using q
   obtain⟨_,_,hnone⟩:=nothing hz;refine gz (s:={s with heap:=h1}) R1 Ro1.inz Ro1.nd Ro1.l0 ⟨by have:=Ro1.ok.fits;unfold SetTable.fits SetTable.fill at*;exact this,Ro1.ok.up,by show(tb1.led&&to_.led)=_;rw[R1.ok.led,Ro1.ok.led,Bool.and_self]⟩ λh2 sb2 R2=>?_;have q:=h h2 s.drawn _ (sb1.trans sb2) ⟨_,eo,_,_,R2,rfl⟩ (λz=>⟨λm=>.inr m,λm=>m.elim (λm=>absurd m (hnone z)) id⟩) λz=>absurd z (by omega);exact q
  ·rename_i hr;have hz:tb1.fill=0:=by
    unfold SetTable.road at hr;split at hr
    ·cases hr
    ·rename_i q;simpa using q
   obtain⟨z1,z2,hnone⟩:=nothing hz;obtain⟨hmore,d,hd⟩:=hempty z1 z2;have hz2:(eo.map (·.1)).size=eo.size:=by simp
   obtain⟨t',order,hl',hperm,hup,hled,hpl,hdm,hmk⟩:=Au (mask:=tb1.mask) (k:=d) hd tb1.finger tb1.moves (tb1.led&&to_.led) (tb1.plain&&to_.plain) (eo.map (·.1)) (by rw[hz2];exact hmore);rw[hz2]at hperm hpl;have hpe:(order.filterMap (eo[·]?)).toList.Perm eo.toList:=by
    rw[Array.toList_filterMap];exact(hperm.filterMap _).trans (by rw[filterMap_getElem?_range])
   have hsz:=fh hpe;have pk:((order.filterMap (eo[·]?)).toList.map a9).Perm (eo.toList.map a9):=hpe.map _;rw[hl'];refine JO ?_
   wp_delta
   rw[if_neg (by simp only[bne_iff_ne,ne_eq,Decidable.not_not];exact hsz)];refine JP ?_;dsimp only;refine gz (s:={s with heap:=h1}) R1 (fg Ro1.inz hpe) (pk.nodup_iff.mpr Ro1.nd) (by rw[hsz];exact Ro1.l0) ⟨?_,hup,by rw[hled,R1.ok.led,Ro1.ok.led,Bool.and_self]⟩ λh2 sb2 R2=>?_
   ·unfold SetTable.fits SetTable.fill;rw[hdm,hpl,hmk,hsz];simp;exact hmore
   ·have q:=h h2 s.drawn _ (sb1.trans sb2) ⟨_,_,_,_,R2,rfl⟩ (λz=>by rw[pk.mem_iff];exact⟨λm=>.inr m,λm=>m.elim (λm=>absurd m (hnone z)) id⟩) λz=>absurd z (by omega);exact q
  ·refine JO (lK (s:={s with heap:=h1}) (fs:=es1.toList.map a9) Ro1 (λc hc=>?_) (λf e=>?_) λes' h2 d p hsz hkeep hfl=>?_)
   ·rw[J6]at hc;rw[hc];exact⟨_,_,_,_,_,R1,rfl⟩
   ·cases e;exact⟨_,_,_,_,R1,rfl⟩
   ·have sb2:Heap.SameBut a h1 h2:=⟨hsz,λc hc=>hkeep c λz=>hc (by cases z;rfl)⟩;have S2:=hfl a rfl;have Ro2:=Ro1.other sb2 (Ne.symm hab);have hin:∀e∈es'.toList,jq e:=fg Ro1.inz p;have pke:(es'.toList.map a9).Perm (eo.toList.map a9):=p.map _;refine JO (MeetsSeq2.wpAny_forIn_array _ (λrest _ s1=>∃h3 d3 ms,s1={s with heap:=h3,drawn:=d3}/\Heap.SameBut a s.heap h3/\aK w h3 a ms/\(∀e∈rest,jq e)/\∀z,(z∈ms\/z∈rest.map a9)↔(z∈es.toList.map a9\/z∈eo.toList.map a9)) _ ?turn ?fin es' _ ⟨h2,d,_,rfl,sb1.trans sb2,S2,hin,λz=>by rw[pk1.mem_iff,pke.mem_iff]⟩)
    case fin=>
     rintro _ s1 ⟨h3,d3,ms,rfl,sb3,S3,_,hm⟩;refine JP (h h3 d3 ms sb3 S3 (λz=>?_) λz=>absurd z (by omega));have:=hm z;simpa using this
    case turn=>
     rintro e rest _ s1 ⟨h3,d3,ms,rfl,sb3,S3,hi3,hm⟩;obtain⟨k,t,rfl⟩:=hi3 e JZ;have hlen:ms.length<=U.length:=cx S3.nodup λz hz=>((hm z).mp (.inl hz)).elim (hk z) (hl z);refine JO (wpAny_holding (v7 S3 (by omega) λ_ h4 ms' sb4 S4 p4=>?_));have sb34:=sb3.trans sb4;have Ro4:=Ro.other sb34 (Ne.symm hab);refine JO (heach _ _ Ro4 (JO (b5 Ro4 ?_)));simp only[bne_self_eq_false,Kc,↓reduceIte];refine JP ⟨h4,d3,ms',rfl,sb34,S4,λe he=>hi3 e (JW _ he),λz=>?_⟩;rw[←hm z,p4.mem_iff,Kq];show _↔z∈ms\/z∈k::rest.map a9;rw[JX]
     by_cases q:k∈ms
     ·rw[if_pos q];constructor
      ·rintro(x|x)
       ·exact .inl x
       ·exact .inr (.inr x)
      ·rintro(x|x|x)
       ·exact .inl x
       ·exact .inl (by rw[x];exact q)
       ·exact .inr x
     ·rw[if_neg q,JX];constructor
      ·rintro((x|x)|x)
       ·exact .inr (.inl x)
       ·exact .inl x
       ·exact .inr (.inr x)
      ·rintro(x|x|x)
       ·exact .inl (.inr x)
       ·exact .inl (.inl x)
       ·exact .inr x
end
theorem sub_set_set:isSubtype (.type "set") (.type "set")=pure true:=by rw[isSubtype_type];kernel_rfl
section
variable{prog:Program}{w:World}{A:Around}{E:Value->Shared->Prop}{s:Shared}{a b:Addr}{ks ls U:List Int}{k:Int}{t:Tok}
noncomputable def CK (w:World) (h:Heap) (a:Addr) (ks:List Int):Prop:=∃o es ep t,Raw w h a o es ep t/\es.toList.map a9=ks/\(es.size=0->t.mask=7/\t.dummies= #[])
theorem CK.at_ {h:Heap}(S:CK w h a ks):aK w h a ks:=let ⟨o,es,ep,t,R,q,_⟩:=S;⟨o,es,ep,t,R,q⟩
theorem aK.typeIs (S:aK w s.heap a ks):s.TypeIs (.ref a) "set":=let ⟨o,_,_,_,R,_⟩:=S;⟨o,R.get,R.ex.1⟩
theorem aK.lt {h:Heap}(S:aK w h a ks):a<h.objs.size:=let ⟨o,_,_,_,R,_⟩:=S;J7 R.get
structure uA (s:Shared) (h':Heap):Prop where
 keep:∀c o,s.heap.get? c=some o->h'.get? c=some o
 size:s.heap.objs.size<h'.objs.size
theorem uA.set {h':Heap}(G:uA s h') (S:aK w s.heap a ks):aK w h' a ks:=S.at λo e=>G.keep a o e
theorem zp {Q:Value->Shared->Prop}(h:∀h',uA s h'->h'.objs.size=s.heap.objs.size+1->CK w h' s.heap.objs.size []->Q (.ref s.heap.objs.size) {s with heap:=h'}):wpAny (model prog w) A (newSet (.type "set")) Q E s:=by
 unfold newSet;refine JO (gg ?_);dsimp only;simp only[newObj];refine JO (wpAny_alloc (JP ?_));refine h _ ⟨λc o e=>JR _ e,by rw[Km];exact Nat.lt_succ_self _⟩ (Km ..) ?_;exact⟨_,#[],0,_,⟨J4 _ rfl,⟨rfl,rfl,rfl⟩,rfl,λe he=>by simp at he,by simp,by decide,⟨by rfl,List.Pairwise.nil,rfl⟩⟩,rfl,λ_=>⟨rfl,rfl⟩⟩
theorem v8 {Q:Value->Shared->Prop}(S:aK w s.heap a ks) (h:Q (.type "set") s):wpAny (model prog w) A (Builtin.Frozenset.baseOf a) Q E s:=by
 unfold Builtin.Frozenset.baseOf;refine JO (wpAny_isInstance S.typeIs sub_set_set ?_);simp only[↓reduceIte];exact JP h
theorem pK {Q:Bool->Shared->Prop}(S:aK w s.heap a ks) (h:Q true s):wpAny (model prog w) A (Builtin.Frozenset.isAnySet (.ref a)) Q E s:=by
 unfold Builtin.Frozenset.isAnySet;refine JO (wpAny_isInstance S.typeIs sub_set_set ?_);exact JP h
theorem dU {Q:Addr->Shared->Prop}(h:Q a s):wpAny (model prog w) A (Builtin.Frozenset.addrOf (.ref a)) Q E s:=JP h
theorem lL {Q:Nat->Shared->Prop}(S:aK w s.heap a ks) (h:Q ks.length s):wpAny (model prog w) A (Builtin.Frozenset.sizeOf a) Q E s:=by
 obtain⟨o,es,ep,t,R,rfl⟩:=S;unfold Builtin.Frozenset.sizeOf;refine JO (gu R (JP ?_));rw[JQ,JY]at h;exact h
theorem v9 {id:String}{Q:Unit->Shared->Prop}{o:Obj}{es:Array (Int×Value)}{ep:Nat}{tb:SetTable}(R:Raw w s.heap a o es ep tb) (h:Q () s):wpAny (model prog w) A (Builtin.Frozenset.unchanged id a ep) Q E s:=by
 unfold Builtin.Frozenset.unchanged;refine JO (gy R ?_);simp only[bne_self_eq_false,Kc,↓reduceIte];exact JP h
theorem AA {Q:Value->Shared->Prop}(S:aK w s.heap a ks) (hU:ks.length+1<scanBound)
  (h:∀h' d ms,uA s h'->CK w h' s.heap.objs.size ms->(∀z,z∈ms↔z∈ks)->Q (.ref s.heap.objs.size) {s with heap:=h',drawn:=d}):wpAny (model prog w) A (Builtin.Frozenset.copyOf a) Q E s:=by
 unfold Builtin.Frozenset.copyOf;refine JO (v8 S (JO (zp λh1 G1 z1 S1=>JO (dU (JO ?_)))));obtain⟨o,es,ep,t,R,rfl⟩:=S;obtain⟨o1,es1,ep1,t1,R1,q1,f1⟩:=S1;have Ra:Raw w h1 a o es ep t:=⟨G1.keep _ _ R.get,R.ex,R.dat,R.inz,R.nd,R.l0,R.ok⟩;have hne:s.heap.objs.size≠a:=Nat.ne_of_gt (J7 R.get);refine xB (s:={s with heap:=h1}) (U:=es.toList.map a9) R1 Ra hne f1 hU (λz hz=>by rw[q1]at hz;cases hz) (λz hz=>hz) (λs1 Q' _ q=>JP q) λh2 d ms sb S2 hm hz=>JP ?_;have G2:uA s h2:=⟨λc o e=>by rw[sb.2 c (Kg (J7 e))];exact G1.keep c o e,by rw[sb.1];exact G1.size⟩;have hm':∀z,z∈ms↔z∈es.toList.map a9:=λz=>by
  rw[hm z,q1];simp
 by_cases e0:es.size=0
 ·have e1:=hz e0;have e2:es= #[]:=by simpa using e0
  subst e1;exact h _ d [] G2 ⟨o1,es1,ep1,t1,R1,q1,f1⟩ λz=>by rw[e2];simp
 ·obtain⟨o2,es2,ep2,t2,R2,q2⟩:=S2;refine h h2 d ms G2 ⟨o2,es2,ep2,t2,R2,q2,λz=>?_⟩ hm';have z2:ms=[]:=by rw[←q2];simpa using z
  have z3:0<es.toList.length:=by rw[JY];omega
  obtain⟨x,hx⟩:=List.exists_mem_of_length_pos z3;have:=(hm' (a9 x)).mpr (List.mem_map_of_mem hx);rw[z2]at this;cases this
theorem Bv {id:String}{Q:Unit->Shared->Prop}(S:CK w s.heap a ks) (So:aK w s.heap b ls) (hab:a≠b) (hU:U.length+1<scanBound) (hk:∀z∈ks,z∈U) (hl:∀z∈ls,z∈U)
  (h:∀h' d ms,Heap.SameBut a s.heap h'->aK w h' a ms->(∀z,z∈ms↔z∈ks\/z∈ls)->Q () {s with heap:=h',drawn:=d}):wpAny (model prog w) A (Builtin.Frozenset.updateFrom id a (.ref b)) Q E s:=by
 unfold Builtin.Frozenset.updateFrom;refine JO (pK So ?_);simp only[↓reduceIte];refine JO (dU ?_);unfold Builtin.Frozenset.merge;obtain⟨o,es,ep,t,R,rfl,f⟩:=S;obtain⟨oo,eo,epo,to_,Ro,rfl⟩:=So;refine JO (gy Ro ?_);exact xB R Ro hab f hU hk hl (λs1 Q' R1 q=>v9 R1 q) λh' d ms sb S' hm _=>h h' d ms sb S' hm
noncomputable def sy (w:World) (s:Shared) (P:Int->Prop) (Q:Value->Shared->Prop):Prop:=∀h' d ms,uA s h'->aK w h' s.heap.objs.size ms->(∀z,z∈ms↔P z)->Q (.ref s.heap.objs.size) {s with heap:=h',drawn:=d}
end
section
variable{prog:Program}{w:World}{A:Around}{E:Value->Shared->Prop}{s:Shared}{a b:Addr}{ks ls U:List Int}{k:Int}{t:Tok}
theorem cM {ks:List Int}{i:Nat}{k z:Int}(hn:ks.Nodup) (h:ks[i]? =some k):z∈ks.eraseIdx i↔z∈ks/\z≠k:=by
 have p:=mS h;have hn':=p.nodup_iff.mpr hn;obtain⟨h1,_⟩:=Kx.mp hn';rw[←p.mem_iff,JX];constructor
 ·intro m;exact⟨.inr m,λe=>h1 (by rw[←e];exact m)⟩
 ·rintro⟨m|m,ne⟩
  ·exact absurd m ne
  ·exact m
theorem zq {Q:Bool->Shared->Prop}(S:aK w s.heap a ks)
  (h:∀r h' ms,Heap.SameBut a s.heap h'->aK w h' a ms->(∀z,z∈ms↔z∈ks/\z≠k)->Q r {s with heap:=h'}):wpAny (model prog w) A (setDiscardHashed a (.int k t) (hashInt k)) Q E s:=by
 obtain⟨o,es,ep,tb,R,rfl⟩:=S;unfold setDiscardHashed;refine JO (Ax R (λi hi=>?_) λhn=>?_)
 ·dsimp only;refine JO (b5 R ?_);dsimp only;have hi':i<es.size:=by
   have:=(J2.mp hi).1;rw[JQ,JY]at this;exact this
  have el:(SetTable.eraseAt es i).toList=es.toList.eraseIdx i:=by rw[mQ,List.eraseIdx_eq_take_drop_succ]
  have ek:(SetTable.eraseAt es i).toList.map a9=(es.toList.map a9).eraseIdx i:=by rw[el,List.eraseIdx_eq_take_drop_succ,List.eraseIdx_eq_take_drop_succ,Ki,List.map_take,List.map_drop]
  have hz:(SetTable.eraseAt es i).size=es.size - 1:=by
   rw[←JY,el,List.length_eraseIdx_of_lt (by rw[JY];exact hi'),JY]
  have hf:=R.l0;refine JO (gz R (λe he=>R.inz e (by rw[el]at he;exact List.mem_of_mem_eraseIdx he)) (by rw[ek];exact List.Nodup.sublist (List.eraseIdx_sublist ..) R.nd) (by rw[hz];omega) (by rw[hz];exact ER R.ok hi') λh' sb R'=>?_);refine JO (wpAny_point (JP ?_));exact h true h' _ sb ⟨_,_,_,_,R',ek⟩ λz=>cM R.nd hi
 ·dsimp only;have e2:s={s with heap:=s.heap}:=by cases s;rfl
  have q:=h false s.heap _ (Heap.SameBut.refl a _) ⟨o,es,ep,tb,R,rfl⟩ λz=>⟨λm=>⟨m,λe=>hn (by rw[←e];exact m)⟩,λm=>m.1⟩;refine JP ?_;rw[e2];exact q
theorem EV {Q:Unit->Shared->Prop}(S:aK w s.heap a ks) (h:∀h' ms,Heap.SameBut a s.heap h'->aK w h' a ms->(∀z,z∈ms↔z∈ks)->Q () {s with heap:=h'}):wpAny (model prog w) A (setTidy a) Q E s:=by
 obtain⟨o,es,ep,tb,R,rfl⟩:=S;have hf:=R.l0;have hs:scanBound=4096:=rfl;unfold setTidy;refine JO (b5 R ?_);dsimp only;have hg:SetTable.grown es.size=es.size*4:=by
  unfold SetTable.grown;rw[if_neg (by omega)]
 split
 ·rw[hg];exact xA R (by omega) (by omega) λh' o' es' ep' tb' sb R' p _ _=>h h' _ sb ⟨_,_,_,_,R',rfl⟩ λz=>(p.map a9).mem_iff
 ·have e2:s={s with heap:=s.heap}:=by cases s;rfl
  have q:=h s.heap _ (Heap.SameBut.refl a _) ⟨o,es,ep,tb,R,rfl⟩ λz=>Iff.rfl;refine JP ?_;rw[e2];exact q
theorem uB {id:String}{Q:Unit->Shared->Prop}(S:aK w s.heap a ks) (So:aK w s.heap b ls) (hab:a≠b) (hsz:¬ls.length / 8>ks.length)
  (h:∀h' d ms,Heap.SameBut a s.heap h'->aK w h' a ms->(∀z,z∈ms↔z∈ks/\z∉ls)->Q () {s with heap:=h',drawn:=d}):wpAny (model prog w) A (Builtin.Frozenset.differenceUpdate id a (.ref b)) Q E s:=by
 unfold Builtin.Frozenset.differenceUpdate;rw[if_neg (by simp;exact Ne.symm hab)];refine JO (pK So ?_);simp only[↓reduceIte];refine JO (dU (JO (lL So (JO (lL S ?_)))));rw[if_neg hsz];obtain⟨oo,eo,epo,to_,Ro,rfl⟩:=So;refine JO (gy Ro ?_);refine JO (wpAny_holding ?_);refine JO (lK (fs:=([]:List Int)) Ro (λc hc=>?_) (λf e=>nomatch e) λes' h2 d p hz hkeep _=>?_)
 ·rw[J6]at hc;rw[hc];exact⟨_,S⟩
 ·have sb2:Heap.SameBut a s.heap h2:=⟨hz,λc _=>hkeep c nofun⟩;have S2:aK w h2 a ks:=S.at λo e=>by rw[hkeep a nofun];exact e
  have hin:∀e∈es'.toList,jq e:=fg Ro.inz p;have pke:(es'.toList.map a9).Perm (eo.toList.map a9):=p.map _;refine JO (MeetsSeq2.wpAny_forIn_array _ (λrest _ s1=>∃h3 d3 ms,s1={s with heap:=h3,drawn:=d3}/\Heap.SameBut a s.heap h3/\aK w h3 a ms/\(∀e∈rest,jq e)/\(∀z∈ms,z∈ks)/\(∀z∈ks,z∉eo.toList.map a9->z∈ms)/\
   (∀z∈ms,z∈eo.toList.map a9->z∈rest.map a9)/\∀z∈rest.map a9,z∈eo.toList.map a9) _ ?turn ?fin es' _ ⟨h2,d,ks,rfl,sb2,S2,hin,λz hz=>hz,λz hz _=>hz,λz _ hz=>pke.mem_iff.mpr hz,λz hz=>pke.mem_iff.mp hz⟩)
  case fin=>
   rintro _ s1 ⟨h3,d3,ms,rfl,sb3,S3,_,m1,m2,m3,_⟩;refine JP (EV (s:={s with heap:=h3,drawn:=d3}) S3 λh4 ms' sb4 S4 m4=>?_);have q:=h h4 d3 ms' (sb3.trans sb4) S4 λz=>by
    rw[m4 z];exact⟨λm=>⟨m1 z m,λhl=>by have:=m3 z m hl;cases this⟩,λm=>m2 z m.1 m.2⟩
   exact q
  case turn=>
   rintro e rest _ s1 ⟨h3,d3,ms,rfl,sb3,S3,hi3,m1,m2,m3,m4⟩;obtain⟨k,t,rfl⟩:=hi3 e JZ;refine JO (wpAny_holding (zq S3 λ_ h4 ms' sb4 S4 p4=>?_));have sb34:=sb3.trans sb4;have Ro4:=Ro.other sb34 (Ne.symm hab);refine JO (v9 Ro4 (JP ⟨h4,d3,ms',rfl,sb34,S4,λe he=>hi3 e (JW _ he),λz hz=>m1 z ((p4 z).mp hz).1,λz hz hn=>(p4 z).mpr ⟨m2 z hz hn,λe=>hn (by rw[e];exact m4 k JZ)⟩,λz hz hl=>?_,λz hz=>m4 z (JW _ hz)⟩));obtain⟨z1,z2⟩:=(p4 z).mp hz;rcases JX.mp (m3 z z1 hl)with e|hr
   ·exact absurd e z2
   ·exact hr
end
theorem CL:entryFor table "set.__or__"=some Builtin.«frozenset.__or__»:=entryFor_alias (id':="frozenset.__or__") (by kernel_rfl) rfl (by decide+kernel) (by kernel_rfl)
theorem entry_sub:entryFor table "set.__sub__"=some Builtin.«frozenset.__sub__»:=entryFor_alias (id':="frozenset.__sub__") (by kernel_rfl) rfl (by decide+kernel) (by kernel_rfl)
theorem Bw:entryFor table "set.__and__"=some Builtin.«frozenset.__and__»:=entryFor_alias (id':="frozenset.__and__") (by kernel_rfl) rfl (by decide+kernel) (by kernel_rfl)
section
variable{prog:Program}{w:World}{A:Around}{E:Value->Shared->Prop}{s:Shared}{a b:Addr}{ks ls U:List Int}{k:Int}{t:Tok}
theorem AB {id:String}{c r:Addr}{oc:Obj}{ec xs:Array (Int×Value)}{epc:Nat}{tc:SetTable}{P:Int->Prop}{f:Int×Value->Sem Unit}{Q:PUnit->Shared->Prop}(Rc:Raw w s.heap c oc ec epc tc) (hcr:c≠r) (Sr:aK w s.heap r [])
  (hin:∀e∈xs.toList,jq e) (hU:U.length+1<scanBound) (hxs:∀z∈xs.toList.map a9,z∈U)
  (hf:∀(k:Int) (t:Tok) (s1:Shared) (ms:List Int) (Q':Unit->Shared->Prop),(∀d,d≠r->s1.heap.get? d=s.heap.get? d)->aK w s1.heap r ms->ms.length+1<scanBound->
   (∀h' ms',Heap.SameBut r s1.heap h'->aK w h' r ms'->(∀z,z∈ms'↔z∈ms\/(z=k/\P k))->Q' () {s1 with heap:=h'})->wpAny (model prog w) A (f (hashInt k,.int k t)) Q' E s1)
  (h:∀h' ms,Heap.SameBut r s.heap h'->aK w h' r ms->(∀z,z∈ms↔z∈xs.toList.map a9/\P z)->Q ⟨⟩ {s with heap:=h'}):
  wpAny (model prog w) A (forIn xs PUnit.unit λx _=>do
   f x
   Builtin.Frozenset.unchanged id c epc
   pure (ForInStep.yield PUnit.unit)) Q E s:=by
 refine MeetsSeq2.wpAny_forIn_array _ (λrest _ s1=>∃h3 ms,s1={s with heap:=h3}/\Heap.SameBut r s.heap h3/\aK w h3 r ms/\(∀e∈rest,jq e/\e∈xs.toList)/\(∀z∈ms,z∈xs.toList.map a9/\P z)/\(∀z∈xs.toList.map a9,P z->z∈ms\/z∈rest.map a9)) _ ?turn ?fin xs _
  ⟨s.heap,[],by cases s;rfl,Heap.SameBut.refl ..,Sr,λe he=>⟨hin e he,he⟩,λz hz=>(nomatch hz),λz hz _=>.inr hz⟩
 case fin=>
  rintro _ s1 ⟨h3,ms,rfl,sb3,S3,_,m1,m2⟩;exact h h3 ms sb3 S3 λz=>⟨λm=>m1 z m,λm=>(m2 z m.1 m.2).elim (λx=>x) λx=>nomatch x⟩
 case turn=>
  rintro e rest _ s1 ⟨h3,ms,rfl,sb3,S3,hi3,m1,m2⟩;obtain⟨⟨k,t,rfl⟩,hex⟩:=hi3 e JZ;have hkx:k∈xs.toList.map a9:=List.mem_map_of_mem (f:=a9) hex;have hlen:ms.length<=U.length:=cx S3.nodup λz hz=>hxs z (m1 z hz).1;refine JO (hf k t _ ms _ (λd hd=>sb3.2 d hd) S3 (by omega) λh4 ms' sb4 S4 m4=>?_);have Rc4:Raw w h4 c oc ec epc tc:=(Rc.other sb3 hcr).other sb4 hcr;refine JO (v9 Rc4 (JP ⟨h4,ms',rfl,sb3.trans sb4,S4,λe he=>hi3 e (JW _ he),λz hz=>?_,λz hz hp=>?_⟩))
  ·rcases(m4 z).mp hz with m|⟨e,hp⟩
   ·exact m1 z m
   ·rw[e];exact⟨hkx,hp⟩
  ·rcases m2 z hz hp with m|m
   ·exact .inl ((m4 z).mpr (.inl m))
   ·rcases JX.mp m with e|m
    ·have e':z=k:=e;exact .inl ((m4 z).mpr (.inr ⟨e',by rw[←e'];exact hp⟩))
    ·exact .inr m
end
section
variable{prog:Program}{w:World}{A:Around}{E:Value->Shared->Prop}{s:Shared}{a b:Addr}{ks ls U:List Int}{k:Int}{t:Tok}
theorem uA.same {h1 h2:Heap}(G:uA s h1) (sb:Heap.SameBut s.heap.objs.size h1 h2):uA s h2:=⟨λc o e=>by rw[sb.2 c (Kg (J7 e))];exact G.keep c o e,by rw[sb.1];exact G.size⟩
theorem AD {c:Addr}{ls:List Int}{Q:Option Nat->Shared->Prop}(S:aK w s.heap c ls) (h:∀r:Option Nat,(r.isSome=true↔k∈ls)->Q r s):wpAny (model prog w) A (setFind c (.int k t) (hashInt k)) Q E s:=by
 obtain⟨o,es,ep,tb,R,rfl⟩:=S;exact Ax R (λi hi=>h (some i) (by simp only[Option.isSome_some,true_iff];exact Kd hi)) λhn=>h none (by simp[hn])
theorem EW {id:String}{Q:Value->Shared->Prop}(S:aK w s.heap a ks) (So:aK w s.heap b ls) (hU:ks.length+1<scanBound) (h:sy w s (λz=>z∈ks/\z∉ls) Q):wpAny (model prog w) A (Builtin.Frozenset.difference id a (.ref b)) Q E s:=by
 have hlt:=S.lt;have hlo:=So.lt;unfold Builtin.Frozenset.difference;refine JO (pK So ?_);simp only[Bool.not_true,Kc,↓reduceIte,Bool.false_and];refine JO (dU ?_);refine JO (lL So (JO (lL S ?_)));split
 ·rename_i hq;refine JO (wpAny_rule ?_);refine JO (AA S hU λh1 d1 ms1 G1 S1 m1=>?_);refine JO (dU (JO (wpAny_holding ?_)));have hlen:ks.length<=ms1.length:=cx S.nodup λz hz=>(m1 z).mpr hz;refine uB (s:={s with heap:=h1,drawn:=d1}) S1.at_ (G1.set So) (Nat.ne_of_gt hlo) (by omega) λh2 d2 ms2 sb2 S2 m2=>JP ?_;have q:=h h2 d2 ms2 (G1.same sb2) S2 λz=>by rw[m2 z,m1 z]
  exact q
 ·refine JO (v8 S (JO (zp λh1 G1 z1 S1=>JO (dU ?_))));have Sa:=G1.set S;have Sb:=G1.set So;obtain⟨oa,ea,epa,ta,Ra,rfl⟩:=Sa;refine JO (gy Ra ?_);refine JO (wpAny_holding ?_);refine JO (lK (s:={s with heap:=h1}) (fs:=([]:List Int)) Ra (λc hc=>?_) (λf e=>?_) λes' h2 d2 p hz hkeep hfl=>?_)
  ·rcases JX.mp hc with e|hc
   ·rw[e];exact⟨_,Sb⟩
   ·rw[J6]at hc;rw[hc];exact⟨_,S1.at_⟩
  ·cases e;exact S1.at_
  ·have sb2:Heap.SameBut s.heap.objs.size h1 h2:=⟨hz,λc hc=>hkeep c λz=>hc (by cases z;rfl)⟩;have hin:∀e∈es'.toList,jq e:=fg Ra.inz p;have pke:(es'.toList.map a9).Perm (ea.toList.map a9):=p.map _;have Ra2:=Ra.other sb2 (Kg hlt);have Sb2:=Sb.other sb2 (Kg hlo);refine JO (AB (s:={s with heap:=h2,drawn:=d2}) (U:=ea.toList.map a9) (P:=λz=>z∉ls) (r:=s.heap.objs.size) Ra2 (Kg hlt) (hfl _ rfl) hin hU (λz hz=>pke.mem_iff.mp hz) (f:=λx=>holding [x.2] (do
     let y←setFind b x.2 x.1
     if(!y.isSome)=true then do
      let _←setAddHashed s.heap.objs.size x.2 x.1
      pure ()
     else pure ())) (λk t s1 ms Q' hk1 hs1 hl1 hq=>?_) λh3 ms3 sb3 S3 m3=>?_)
   ·refine wpAny_holding (JO (AD (ls:=ls) (Sb2.at λo e=>by rw[hk1 b (Kg hlo)];exact e) λr hr=>?_));split
    ·rename_i hb;have hn:k∉ls:=λm=>by rw[hr.mpr m]at hb;simp at hb
     refine JO (v7 hs1 hl1 λ_ h4 ms' sb4 S4 p4=>JP (hq h4 ms' sb4 S4 λz=>?_));rw[p4.mem_iff]
     by_cases q:k∈ms
     ·rw[if_pos q];exact⟨.inl,λm=>m.elim (λm=>m) λm=>by rw[m.1];exact q⟩
     ·rw[if_neg q,JX];exact⟨λm=>m.elim (λe=>.inr ⟨e,hn⟩) .inl,λm=>m.elim .inr λm=>.inl m.1⟩
    ·rename_i hb;have hn:k∈ls:=hr.mp (by cases hq':r.isSome<;>simp_all);have e2:s1={s1 with heap:=s1.heap}:=by cases s1;rfl
     have q:=hq s1.heap ms (Heap.SameBut.refl ..) hs1 λz=>⟨.inl,λm=>m.elim (λm=>m) λm=>absurd hn m.2⟩;refine JP ?_;rw[e2];exact q
   ·have q:=h h3 d2 ms3 ((G1.same sb2).same sb3) S3 λz=>by rw[m3 z,pke.mem_iff]
    exact JP (JP q)
theorem CM {id:String}{Q:Value->Shared->Prop}(S:aK w s.heap a ks) (So:aK w s.heap b ls) (hab:a≠b) (hU:ks.length+1<scanBound) (hU2:ls.length+1<scanBound) (h:sy w s (λz=>z∈ks/\z∈ls) Q):
  wpAny (model prog w) A (Builtin.Frozenset.intersection id a (.ref b)) Q E s:=by
 have hlt:=S.lt;have hlo:=So.lt;unfold Builtin.Frozenset.intersection;rw[if_neg (by simp;exact Ne.symm hab)];refine JO (v8 S (JO (zp λh1 G1 z1 S1=>JO (dU ?_))));have Sa:=G1.set S;have Sb:=G1.set So;refine JO (wpAny_holding ?_);refine JO (pK (s:={s with heap:=h1}) Sb ?_);simp only[↓reduceIte];refine JO (dU (JO (lL (s:={s with heap:=h1}) Sb (JO (lL (s:={s with heap:=h1}) Sa ?_)))));have go:∀{c q:Addr}{cs qs:List Int},aK w h1 c cs->aK w h1 q qs->c<s.heap.objs.size->q<s.heap.objs.size->cs.length+1<scanBound->(∀z,z∈cs/\z∈qs↔z∈ks/\z∈ls)->
   wpAny (model prog w) A (do
    let was←setEpoch c
    let xs←setWalkUnseen c [q,s.heap.objs.size] (some s.heap.objs.size)
    forIn xs PUnit.unit λx _=>do
     holding [x.2] (do
      let y←setFind q x.2 x.1
      if y.isSome=true then do
       let _←setAddHashed s.heap.objs.size x.2 x.1
       pure ()
      else pure ())
     Builtin.Frozenset.unchanged id c was
     pure (ForInStep.yield PUnit.unit)
    pure ()) (λ_ s'=>wpAny (model prog w) A (pure (Value.ref s.heap.objs.size)) Q E s') E {s with heap:=h1}:=by
  intro c q cs qs Sc Sq hc hq hUc hm;obtain⟨oa,ea,epa,ta,Ra,rfl⟩:=Sc;refine JO (gy Ra ?_);refine JO (lK (s:={s with heap:=h1}) (fs:=([]:List Int)) Ra (λd hd=>?_) (λf e=>?_) λes' h2 d2 p hz hkeep hfl=>?_)
  ·rcases JX.mp hd with e|hd
   ·rw[e];exact⟨_,Sq⟩
   ·rw[J6]at hd;rw[hd];exact⟨_,S1.at_⟩
  ·cases e;exact S1.at_
  ·have sb2:Heap.SameBut s.heap.objs.size h1 h2:=⟨hz,λc hc=>hkeep c λz=>hc (by cases z;rfl)⟩;have hin:∀e∈es'.toList,jq e:=fg Ra.inz p;have pke:(es'.toList.map a9).Perm (ea.toList.map a9):=p.map _;have Ra2:=Ra.other sb2 (Kg hc);have Sq2:=Sq.other sb2 (Kg hq);refine JO (AB (s:={s with heap:=h2,drawn:=d2}) (U:=ea.toList.map a9) (P:=λz=>z∈qs) (r:=s.heap.objs.size) Ra2 (Kg hc) (hfl _ rfl) hin hUc (λz hz=>pke.mem_iff.mp hz) (f:=λx=>holding [x.2] (do
     let y←setFind q x.2 x.1
     if y.isSome=true then do
      let _←setAddHashed s.heap.objs.size x.2 x.1
      pure ()
     else pure ())) (λk t s1 ms Q' hk1 hs1 hl1 hq'=>?_) λh3 ms3 sb3 S3 m3=>?_)
   ·refine wpAny_holding (JO (AD (ls:=qs) (Sq2.at λo e=>by rw[hk1 q (Kg hq)];exact e) λr hr=>?_));split
    ·rename_i hb;have hn:k∈qs:=hr.mp hb;refine JO (v7 hs1 hl1 λ_ h4 ms' sb4 S4 p4=>JP (hq' h4 ms' sb4 S4 λz=>?_));rw[p4.mem_iff]
     by_cases q:k∈ms
     ·rw[if_pos q];exact⟨.inl,λm=>m.elim (λm=>m) λm=>by rw[m.1];exact q⟩
     ·rw[if_neg q,JX];exact⟨λm=>m.elim (λe=>.inr ⟨e,hn⟩) .inl,λm=>m.elim .inr λm=>.inl m.1⟩
    ·rename_i hb;have hn:k∉qs:=λm=>hb (hr.mpr m);have e2:s1={s1 with heap:=s1.heap}:=by cases s1;rfl
     have q:=hq' s1.heap ms (Heap.SameBut.refl ..) hs1 λz=>⟨.inl,λm=>m.elim (λm=>m) λm=>absurd m.2 hn⟩;refine JP ?_;rw[e2];exact q
   ·have q:=h h3 d2 ms3 ((G1.same sb2).same sb3) S3 λz=>by rw[m3 z,pke.mem_iff];exact hm z
    exact JP (JP q)
 split
 ·exact go Sa Sb hlt hlo hU λz=>Iff.rfl
 ·exact go Sb Sa hlo hlt hU2 λz=>And.comm
end
theorem sA (name:String) (x y:Value):Builtin.Frozenset.slot1 name ⟨[x,y],[]⟩=pure (x,y):=rfl
section
variable{prog:Program}{w:World}{A:Around}{E:Value->Shared->Prop}{s:Shared}{a b:Addr}{ks ls U:List Int}{k:Int}{t:Tok}
theorem sC {Q:Bool->Shared->Prop}(S:aK w s.heap a ks) (So:aK w s.heap b ls) (h:Q true s):wpAny (model prog w) A (Builtin.Frozenset.isAnySet (.ref a)<&&>Builtin.Frozenset.isAnySet (.ref b)) Q E s:=by
 unfold andM;refine JO (pK S ?_);simp only[toBool,↓reduceIte];exact pK So h
theorem HJ {Q:Value->Shared->Prop}(S:aK w s.heap a ks) (So:aK w s.heap b ls) (hab:a≠b) (hU:U.length+1<scanBound) (hk:∀z∈ks,z∈U) (hl:∀z∈ls,z∈U) (h:sy w s (λz=>z∈ks\/z∈ls) Q):
  wpAny (model prog w) A (binaryOp .BitOr (.ref a) (.ref b)) Q E s:=by
 refine wpAny_binaryOp_same S.typeIs So.typeIs PySem.F.fills_set_or PySem.F.slot_set_or (wpAny_call_entry PySem.F.slot_set_or S.typeIs CL ?_ (PySem.F.args_set_or_2 _ _))
 wp_delta
 wp_delta
 rw[sA];refine JO (JP ?_);simp only[Kc,↓reduceIte];refine JO (sC S So ?_);simp only[Bool.not_true,Kc,↓reduceIte];refine JO (dU (JO ?_))
 wp_delta
 have hks:ks.length<=U.length:=cx S.nodup hk;refine JO (AA S (by omega) λh1 d1 ms1 G1 S1 m1=>?_);have hne:(Value.ref b != Value.ref a)=true:=by simp;exact Ne.symm hab
 rw[if_pos hne];refine JO (dU (JO (wpAny_holding ?_)));refine Bv (s:={s with heap:=h1,drawn:=d1}) (U:=U) S1 (G1.set So) (Nat.ne_of_gt So.lt) hU (λz hz=>hk z ((m1 z).mp hz)) hl λh2 d2 ms2 sb2 S2 m2=>JP (JP ⟨_,rfl,nofun,?_⟩);have q:=h h2 d2 ms2 (G1.same sb2) S2 λz=>by rw[m2 z,m1 z]
 exact q
theorem wa {Q:Value->Shared->Prop}(S:aK w s.heap a ks) (So:aK w s.heap b ls) (hU:ks.length+1<scanBound) (h:sy w s (λz=>z∈ks/\z∉ls) Q):wpAny (model prog w) A (binaryOp .Sub (.ref a) (.ref b)) Q E s:=by
 refine wpAny_binaryOp_same S.typeIs So.typeIs PySem.F.fills_set_sub PySem.F.slot_set_sub (wpAny_call_entry PySem.F.slot_set_sub S.typeIs entry_sub ?_ (PySem.F.args_set_sub_2 _ _))
 wp_delta
 wp_delta
 rw[sA];refine JO (JP ?_);simp only[Kc,↓reduceIte];refine JO (sC S So ?_);simp only[Bool.not_true,Kc,↓reduceIte];refine JO (dU (JO ?_));exact EW S So hU λh' d ms G S' m=>JP ⟨_,rfl,nofun,h h' d ms G S' m⟩
theorem Gk {Q:Value->Shared->Prop}(S:aK w s.heap a ks) (So:aK w s.heap b ls) (hab:a≠b) (hU:ks.length+1<scanBound) (hU2:ls.length+1<scanBound) (h:sy w s (λz=>z∈ks/\z∈ls) Q):wpAny (model prog w) A (binaryOp .BitAnd (.ref a) (.ref b)) Q E s:=by
 refine wpAny_binaryOp_same S.typeIs So.typeIs PySem.F.fills_set_and PySem.F.slot_set_and (wpAny_call_entry PySem.F.slot_set_and S.typeIs Bw ?_ (PySem.F.args_set_and_2 _ _))
 wp_delta
 wp_delta
 rw[sA];refine JO (JP ?_);simp only[Kc,↓reduceIte];refine JO (sC S So ?_);simp only[Bool.not_true,Kc,↓reduceIte];refine JO (dU (JO ?_));exact CM S So hab hU hU2 λh' d ms G S' m=>JP ⟨_,rfl,nofun,h h' d ms G S' m⟩
end
theorem zr:isSubtype (.type "tuple") (.type "set")=pure false:=by rw[isSubtype_type];kernel_rfl
theorem xC:isSubtype (.type "tuple") (.type "frozenset")=pure false:=by rw[isSubtype_type];kernel_rfl
section
variable{prog:Program}{w:World}{A:Around}{R:Result->Shared->Prop}{I:Addr}{fp wr:List Addr}{G:Array GenState->Array GenState->Prop}{n:Nat}{P:Nat->Value->Prop}{St:Nat->Shared->Prop}
theorem AE (W:WalksS prog w A.in1 I fp wr G n P St) (S:Addr) (hSf:S∉fp) (val:Nat->Int) (hval:∀i v,P i v->∃t,v=.int (val i) t) (hb:n+1<scanBound):
  ∀(m i:Nat) (s:Shared) (ks:List Int),n - i=m->i<=n->St i s->aK w s.heap S ks->(∀z,z∈ks↔∃j,j<i/\val j=z)->
   (∀s' ms,Moved (S::wr) G s s'->aK w s'.heap S ms->(∀z,z∈ms↔∃j,j<n/\val j=z)->R (.ok (.ret .none)) s')->codeAny (model prog w) A (.builtin "set.update.loop" ⟨[.ref S,.ref I],[]⟩) R s:=by
 have hSw:S∉wr:=λh=>hSf (W.sub _ h);have up:∀b∈wr,b∈S::wr:=λb hb=>JW _ hb;intro m
 induction m with
 |zero=>
  intro i s ks hm hi hst hS hk hR;obtain rfl:i=n:=by omega
  refine codeAny_builtin PyProof.Rows.F.entry_set_update_loop ?_;rw[Around.under_plainId PyProof.Rows.F.plain_set_update_loop _];show wpAny _ A.in1 (pyNext (.ref I)>>=_) _ _ s;refine JO (W.done s _ _ hst λs' mv=>?_);show wpAny _ A.in1 (ret Value.none) _ _ s';exact JP (hR s' ks (mv.mono up) (hS.at λo e=>mv.heap S o hSw e) hk)
 |succ m ih=>
  intro i s ks hm hi hst hS hk hR;have hlt:i<n:=by omega
  refine codeAny_builtin PyProof.Rows.F.entry_set_update_loop ?_;rw[Around.under_plainId PyProof.Rows.F.plain_set_update_loop _];show wpAny _ A.in1 (pyNext (.ref I)>>=_) _ _ s;refine JO (W.item i s _ _ hlt hst λv s' hP hst' mv=>?_);obtain⟨t,rfl⟩:=hval i v hP;have hS':aK w s'.heap S ks:=hS.at λo e=>mv.heap S o hSw e;show wpAny _ A.in1 (holding [Value.int (val i) t] (setAdd S (.int (val i) t))>>=_) _ _ s';refine JO (wpAny_holding ?_);unfold setAdd;refine wpAny_holding (JO (wpAny_pyHash_int ?_));have hlen:ks.length<=((List.range i).map val).length:=cx hS.nodup λz hz=>by
   obtain⟨j,hj,e⟩:=(hk z).mp hz;exact Kr.mpr ⟨j,List.mem_range.mpr hj,e⟩
  rw[JQ,List.length_range]at hlen;refine v7 (s:={s' with toks:=s'.toks+1}) hS' (by omega) λ_ h' ms sb S2 p=>?_;have hk2:∀z,z∈ms↔∃j,j<i+1/\val j=z:=λz=>by
   rw[p.mem_iff]
   by_cases q:val i∈ks
   ·rw[if_pos q,hk z];constructor
    ·rintro⟨j,hj,e⟩;exact⟨j,by omega,e⟩
    ·rintro⟨j,hj,e⟩
     by_cases ej:j=i
     ·subst ej;rw[←e];exact(hk _).mp q
     ·exact⟨j,by omega,e⟩
   ·rw[if_neg q,JX,hk z];constructor
    ·rintro(e|⟨j,hj,e⟩)
     ·exact⟨i,by omega,e.symm⟩
     ·exact⟨j,by omega,e⟩
    ·rintro⟨j,hj,e⟩
     by_cases ej:j=i
     ·subst ej;exact .inl e.symm
     ·exact .inr ⟨j,by omega,e⟩
  refine JP ⟨plainId_quiet PyProof.Rows.F.plain_set_update_loop _,ih (i+1) _ ms (by omega) hlt (W.frame _ s' _ _ hst' (Nat.le_succ _) λb hb o e=>?_) S2 hk2 λs'' ms' mv2 S3 hk3=>?_⟩
  ·rw[sb.2 b λz=>hSf (by rw[←z];exact hb)];exact e
  ·refine hR s'' ms' (Moved.trans W.gtrans ((mv.mono up).then_heap (Nat.le_succ _) λb o hb e=>?_) mv2) S3 hk3;rw[sb.2 b λz=>hb (by rw[z];exact JZ)];exact e
end
noncomputable def cv (w:World):Obj:={cls:=.type "set",dict:=none,data:=.set #[] 0 (.fresh 0 0 (!dA w))}
theorem vc (w:World){h:Heap}{a:Addr}(e:h.get? a=some (cv w)):aK w h a []:=
 ⟨_,#[],0,_,⟨e,⟨rfl,rfl,rfl⟩,rfl,λe he=>by simp at he,by simp,by decide,⟨by rfl,List.Pairwise.nil,rfl⟩⟩,rfl⟩
section
variable{prog:Program}{w:World}{A:Around}{E:Value->Shared->Prop}{s:Shared}
theorem xD (x:Value){Q:Value->Shared->Prop}(h:Q (.ref s.heap.objs.size) {s with heap:=s.heap.push (cv w)}):codeAny (model prog w) A (.call (.builtin "set.__new__") ⟨[.type "set",x],[]⟩) (wants Q E) s:=by
 refine codeAny_of_tree ?_;show wpAny _ A.in1 (checkBuiltinCall "set.__new__" ⟨[.type "set",x],[]⟩>>=λ_=>again (.builtin "set.__new__" ⟨[.type "set",x],[]⟩)) _ _ s;refine JO (wpAny_of_eq (PySem.F.newCall_set_1 x) (JP ⟨plainId_quiet PySem.F.plain_set_new _,codeAny_builtin PySem.F.entry_set_new ?_⟩));rw[Around.under_plainId PySem.F.plain_set_new _];unfold Builtin.«set.__new__» Builtin.Frozenset.newClass;have hsub:=sub_set_set
 wp_walk
 refine wpAny_askSetting (JP ?_);dsimp only;simp only[newObj];exact JO (wpAny_alloc (JP (JP h)))
end
section
variable{prog:Program}{w:World}{A:Around}{E:Value->Shared->Prop}{s:Shared}
theorem set_list {l:Addr}{items:Array Value}{ns:List Int}{Q:Value->Shared->Prop}(hh:A.handled=none) (hl:s.heap.IsList l items) (hi:PyProof.Rows.IntsAre items.toList ns) (hb:items.size+1<scanBound)
  (h:∀(h':Heap) (tk:Nat) ms,aK w h' s.heap.objs.size ms->(∀z,z∈ms↔z∈ns)->(∀b o,s.heap.get? b=some o->h'.get? b=some o)->Q (.ref s.heap.objs.size) {s with heap:=h',toks:=tk}):
  wpAny (model prog w) A (call (.type "set") [.ref l]) Q E s:=by
 obtain⟨c,tl,hmro⟩:=PySem.F.called_set.mro;have hmade:=PySem.F.called_set.made;have hsub:=PySem.F.called_set.sub;refine wpAny_call (codeAny_of_tree ?_);show wpAny _ _ (callAny (.type "set") _) _ _ _;refine JP ⟨Code.quiet_builtin _ (by decide+kernel),codeAny_builtin PySem.F.entry_type_call ?_⟩;rw[Around.under_plain (weight_type_call_type "set" [.ref l] []) rfl];have h1:=PySem.F.called_set.notType;have h2:=PySem.F.called_set.canCreate;have hct:=PySem.F.typeCall_set_1 (.ref l)
 repeat (any_goals (first|assumption|wp_step))
 refine codeAny_mono (xD (.ref l) (E:=E) (Q:=λv s1=>v=.ref s.heap.objs.size/\s1={s with heap:=s.heap.push (cv w)}) ⟨rfl,rfl⟩) λr s1 hr=>?_;cases r with
 |error e=>exact hr
 |ok fl=>
  cases fl with
  |ret obj=>
   obtain⟨rfl,rfl⟩:=hr;have hS:(s.heap.push (cv w)).get? s.heap.objs.size=some (cv w):=J4 _ rfl;have hT:Shared.TypeIs {s with heap:=s.heap.push (cv w)} (.ref s.heap.objs.size) "set":=⟨_,hS,rfl⟩;have hli:=PySem.F.called_set.init.lookup;have hbi:=PySem.F.called_set.init.bind (.ref s.heap.objs.size)
   repeat (any_goals (first|assumption|wp_step))
   refine codeAny_mono (codeAny_call_builtin (R:=wants (λv s2=>v=.none/\∃h' tk ms,s2={s with heap:=h',toks:=tk}/\aK w h' s.heap.objs.size ms/\(∀z,z∈ms↔z∈ns)/\(∀b o,s.heap.get? b=some o->h'.get? b=some o)) E)
    PySem.F.called_set.init.plain PySem.F.entry_set_init (check_set_init_1 hT ?_)) λr2 s2 hr2=>?_
   ·obtain⟨ol,hol,hcl,nl,hdl⟩:=hl;obtain⟨ocls,odict,odata,oslots⟩:=ol;simp only at hcl hdl;subst hcl;subst hdl;have hol':(s.heap.push (cv w)).get? l=some {cls:=.type "list",dict:=odict,data:=.seq items nl,slots:=oslots}:=JR _ hol;have hsls:=PySem.F.sub_list_set;have hslf:=PySem.F.sub_list_frozenset;have hne:(Value.type "list"==Value.type "dict")=false:=by decide
    have hl1:(s.heap.push (cv w)).IsList l items:=⟨_,hol',rfl,nl,rfl⟩;unfold Builtin.«set.__init__» noKeywords Builtin.Frozenset.updateFrom;generalize hPI:pyIter=PI;unfold cv at*
    wp_walk
    subst hPI;refine wpAny_pyIter_list hl1 ?_;refine JO (wpAny_runValue ?_);have hlS:l<s.heap.objs.size:=J7 hol;have hh3:A.in1.in1.in1.handled=none:=by simp[hh]
    have hneI:l≠(s.heap.push (cv w)).objs.size:=by
     rw[Km];exact Kg (Nat.lt_succ_of_lt hlS)
    have hSf:s.heap.objs.size∉[(s.heap.push (cv w)).objs.size,l]:=by
     rw[Km];intro z;rcases JX.mp z with z|z
     ·exact absurd z (Kg (Nat.lt_succ_self _))
     ·rw[J6]at z;exact absurd z (Nat.ne_of_gt hlS)
    have hval:∀(i:Nat) (v:Value),items[i]? =some v->∃t,v=.int ((λi=>ns.getD i 0) i) t:=λi v hv=>
     PyProof.Rows.IntsAre.int_at hi i v (by rw[Kv];exact hv)
    have hlen:ns.length=items.size:=by rw[←PyProof.Rows.IntsAre.length hi,JY]
    have hS0:aK w ((s.heap.push (cv w)).push {cls:=.type "list_iterator",data:=.fields #[.ref l,.int 0 0]}) s.heap.objs.size []:=vc w (JR _ hS);refine AE ((Walks.list hh3 _ l hneI items).toS) s.heap.objs.size hSf (λi=>ns.getD i 0) hval hb (items.size - 0) 0 _ [] rfl (Kk _) ⟨⟨_,J4 _ rfl,rfl,rfl⟩,hl1.push _⟩ hS0 (λz=>by simp) λs' ms mv S' hm=>?_;obtain⟨h',g',d',tk',os'⟩:=s';have eg:g'=s.gens:=mv.gens;have ed:d'=s.drawn:=mv.drawn;have eo:os'=s.os:=mv.os;subst eg;subst ed;subst eo;show wpAny _ _ _ _ _ _;refine JP ?_;show wpAny _ _ (ret Value.none) _ _ _;refine JP ⟨rfl,h',tk',ms,rfl,S',λz=>?_,λb o e=>?_⟩
    ·rw[hm z,List.mem_iff_getElem?];constructor
     ·rintro⟨j,hj,e⟩;have hj':j<ns.length:=by omega
      refine⟨j,?_⟩;rw[Ka hj',←e];simp[List.getD_eq_getElem?_getD,Ka hj']
     ·rintro⟨j,e⟩;have hj':=(J2.mp e).1;refine⟨j,by omega,?_⟩;simp[List.getD_eq_getElem?_getD,e]
    ·have hb0:=J7 e;refine mv.heap b o ?_ (JR _ (JR _ e));intro z;rcases JX.mp z with z|z
     ·exact absurd z (Kg hb0)
     ·rw[J6,Km]at z;exact absurd z (Kg (Nat.lt_succ_of_lt hb0))
   ·cases r2 with
    |error e=>exact hr2
    |ok fl2=>
     cases fl2 with
     |ret r=>
      obtain⟨rfl,h',tk,ms,rfl,S',hm,hk'⟩:=hr2
      repeat (any_goals (first|assumption|wp_step))
      exact h _ _ ms S' hm hk'
     |_=>exact hr2.elim
  |_=>exact hr.elim
theorem set_tuple {l:Addr}{items:Array Value}{ns:List Int}{Q:Value->Shared->Prop}(hh:A.handled=none) (hl:s.heap.IsTuple l items) (hi:PyProof.Rows.IntsAre items.toList ns) (hb:items.size+1<scanBound)
  (h:∀(h':Heap) (tk:Nat) ms,aK w h' s.heap.objs.size ms->(∀z,z∈ms↔z∈ns)->(∀b o,s.heap.get? b=some o->h'.get? b=some o)->Q (.ref s.heap.objs.size) {s with heap:=h',toks:=tk}):
  wpAny (model prog w) A (call (.type "set") [.ref l]) Q E s:=by
 obtain⟨c,tl,hmro⟩:=PySem.F.called_set.mro;have hmade:=PySem.F.called_set.made;have hsub:=PySem.F.called_set.sub;refine wpAny_call (codeAny_of_tree ?_);show wpAny _ _ (callAny (.type "set") _) _ _ _;refine JP ⟨Code.quiet_builtin _ (by decide+kernel),codeAny_builtin PySem.F.entry_type_call ?_⟩;rw[Around.under_plain (weight_type_call_type "set" [.ref l] []) rfl];have h1:=PySem.F.called_set.notType;have h2:=PySem.F.called_set.canCreate;have hct:=PySem.F.typeCall_set_1 (.ref l)
 repeat (any_goals (first|assumption|wp_step))
 refine codeAny_mono (xD (.ref l) (E:=E) (Q:=λv s1=>v=.ref s.heap.objs.size/\s1={s with heap:=s.heap.push (cv w)}) ⟨rfl,rfl⟩) λr s1 hr=>?_;cases r with
 |error e=>exact hr
 |ok fl=>
  cases fl with
  |ret obj=>
   obtain⟨rfl,rfl⟩:=hr;have hS:(s.heap.push (cv w)).get? s.heap.objs.size=some (cv w):=J4 _ rfl;have hT:Shared.TypeIs {s with heap:=s.heap.push (cv w)} (.ref s.heap.objs.size) "set":=⟨_,hS,rfl⟩;have hli:=PySem.F.called_set.init.lookup;have hbi:=PySem.F.called_set.init.bind (.ref s.heap.objs.size)
   repeat (any_goals (first|assumption|wp_step))
   refine codeAny_mono (codeAny_call_builtin (R:=wants (λv s2=>v=.none/\∃h' tk ms,s2={s with heap:=h',toks:=tk}/\aK w h' s.heap.objs.size ms/\(∀z,z∈ms↔z∈ns)/\(∀b o,s.heap.get? b=some o->h'.get? b=some o)) E)
    PySem.F.called_set.init.plain PySem.F.entry_set_init (check_set_init_1 hT ?_)) λr2 s2 hr2=>?_
   ·obtain⟨ol,hol,hcl,nl,hdl⟩:=hl;obtain⟨ocls,odict,odata,oslots⟩:=ol;simp only at hcl hdl;subst hcl;subst hdl;have hol':(s.heap.push (cv w)).get? l=some {cls:=.type "tuple",dict:=odict,data:=.seq items nl,slots:=oslots}:=JR _ hol;have hsls:=zr;have hslf:=xC;have hne:(Value.type "tuple"==Value.type "dict")=false:=by decide
    have hl1:(s.heap.push (cv w)).IsTuple l items:=⟨_,hol',rfl,nl,rfl⟩;unfold Builtin.«set.__init__» noKeywords Builtin.Frozenset.updateFrom;generalize hPI:pyIter=PI;unfold cv at*
    wp_walk
    subst hPI;refine wpAny_pyIter_tuple hl1 ?_;refine JO (wpAny_runValue ?_);have hlS:l<s.heap.objs.size:=J7 hol;have hh3:A.in1.in1.in1.handled=none:=by simp[hh]
    have hneI:l≠(s.heap.push (cv w)).objs.size:=by
     rw[Km];exact Kg (Nat.lt_succ_of_lt hlS)
    have hSf:s.heap.objs.size∉[(s.heap.push (cv w)).objs.size,l]:=by
     rw[Km];intro z;rcases JX.mp z with z|z
     ·exact absurd z (Kg (Nat.lt_succ_self _))
     ·rw[J6]at z;exact absurd z (Nat.ne_of_gt hlS)
    have hval:∀(i:Nat) (v:Value),items[i]? =some v->∃t,v=.int ((λi=>ns.getD i 0) i) t:=λi v hv=>
     PyProof.Rows.IntsAre.int_at hi i v (by rw[Kv];exact hv)
    have hlen:ns.length=items.size:=by rw[←PyProof.Rows.IntsAre.length hi,JY]
    have hS0:aK w ((s.heap.push (cv w)).push {cls:=.type "tuple_iterator",data:=.fields #[.ref l,.int 0 0]}) s.heap.objs.size []:=vc w (JR _ hS);refine AE ((Walks.tuple hh3 _ l hneI items).toS) s.heap.objs.size hSf (λi=>ns.getD i 0) hval hb (items.size - 0) 0 _ [] rfl (Kk _) ⟨⟨_,J4 _ rfl,rfl,rfl⟩,hl1.push _⟩ hS0 (λz=>by simp) λs' ms mv S' hm=>?_;obtain⟨h',g',d',tk',os'⟩:=s';have eg:g'=s.gens:=mv.gens;have ed:d'=s.drawn:=mv.drawn;have eo:os'=s.os:=mv.os;subst eg;subst ed;subst eo;show wpAny _ _ _ _ _ _;refine JP ?_;show wpAny _ _ (ret Value.none) _ _ _;refine JP ⟨rfl,h',tk',ms,rfl,S',λz=>?_,λb o e=>?_⟩
    ·rw[hm z,List.mem_iff_getElem?];constructor
     ·rintro⟨j,hj,e⟩;have hj':j<ns.length:=by omega
      refine⟨j,?_⟩;rw[Ka hj',←e];simp[List.getD_eq_getElem?_getD,Ka hj']
     ·rintro⟨j,e⟩;have hj':=(J2.mp e).1;refine⟨j,by omega,?_⟩;simp[List.getD_eq_getElem?_getD,e]
    ·have hb0:=J7 e;refine mv.heap b o ?_ (JR _ (JR _ e));intro z;rcases JX.mp z with z|z
     ·exact absurd z (Kg hb0)
     ·rw[J6,Km]at z;exact absurd z (Kg (Nat.lt_succ_of_lt hb0))
   ·cases r2 with
    |error e=>exact hr2
    |ok fl2=>
     cases fl2 with
     |ret r=>
      obtain⟨rfl,h',tk,ms,rfl,S',hm,hk'⟩:=hr2
      repeat (any_goals (first|assumption|wp_step))
      exact h _ _ ms S' hm hk'
     |_=>exact hr2.elim
  |_=>exact hr.elim
end
theorem CN:Manifest.owners.lookup (String.ofList ['r','o','t','a','r','e','t','i','_','t','e','s'].reverse)=some Manifest.sig_set_iterator:=by kernel_rfl
theorem g5:Slot "set_iterator" "__next__" "set_iterator.__next__":=
 .of (owner:="set_iterator") (n:="__next__") (by rw[typeLookup_type,builtinLookup_eq_fast];kernel_rfl) (by decide+kernel) (by decide+kernel) (by decide+kernel) (by first|exact .inl (by decide+kernel)|exact .inr (by decide+kernel))
  (by rw[isSubtype_type];kernel_rfl)
theorem xE:entryFor table "set_iterator.__next__"=some Builtin.«set_iterator.__next__»:=entryFor_of_tree (by kernel_rfl)
theorem AF (a:Value):argsOk "set_iterator.__next__" ⟨[a],[]⟩:=by
 unfold argsOk;rw[signature?_of (id:="set_iterator.__next__") (n:=['_','_','t','x','e','n','_','_']) (o:=['r','o','t','a','r','e','t','i','_','t','e','s']) (by kernel_rfl) CN]
 kernel_rfl
theorem rS:Slot "set_iterator" "__iter__" "set_iterator.__iter__":=
 .of (owner:="set_iterator") (n:="__iter__") (by rw[typeLookup_type,builtinLookup_eq_fast];kernel_rfl) (by decide+kernel) (by decide+kernel) (by decide+kernel) (by first|exact .inl (by decide+kernel)|exact .inr (by decide+kernel))
  (by rw[isSubtype_type];kernel_rfl)
theorem vd:entryFor table "set_iterator.__iter__"=some Builtin.«dict_keyiterator.__iter__»:=entryFor_alias (id':="dict_keyiterator.__iter__") (by kernel_rfl) rfl (by decide+kernel) (by kernel_rfl)
theorem xF (a:Value):argsOk "set_iterator.__iter__" ⟨[a],[]⟩:=by
 unfold argsOk;rw[signature?_of (id:="set_iterator.__iter__") (n:=['_','_','r','e','t','i','_','_']) (o:=['r','o','t','a','r','e','t','i','_','t','e','s']) (by kernel_rfl) CN]
 kernel_rfl
theorem zt:entryFor table "set.__iter__"=some Builtin.«frozenset.__iter__»:=entryFor_alias (id':="frozenset.__iter__") (by kernel_rfl) rfl (by decide+kernel) (by kernel_rfl)
noncomputable def CO (h:Heap) (I a:Addr) (first:Value) (i n ep:Nat):Prop:=∃o,h.get? I=some o/\o.cls=.type "set_iterator"/\o.data=.fields #[first,.int i 0,.ref a,.int n 0,.int ep 0]
theorem CO.at_ {h h':Heap}{I a:Addr}{first:Value}{i n ep:Nat}(x:CO h I a first i n ep) (e:∀o,h.get? I=some o->h'.get? I=some o):CO h' I a first i n ep:=let ⟨o,ho,r⟩:=x;⟨o,e _ ho,r⟩
theorem CO.typeIs {s:Shared}{I a:Addr}{first:Value}{i n ep:Nat}(x:CO s.heap I a first i n ep):s.TypeIs (.ref I) "set_iterator":=let ⟨o,ho,hc,_⟩:=x;⟨o,ho,hc⟩
section
variable{prog:Program}{w:World}{A:Around}{E:Value->Shared->Prop}{s:Shared}{a I:Addr}{o:Obj}{es:Array (Int×Value)}{ep:Nat}{tb:SetTable}
theorem AG {Q:Option Value->Shared->Prop}(hh:A.handled=none) (h:∀h',(∀b u,s.heap.get? b=some u->h'.get? b=some u)->Q none {s with heap:=h'}):
  wpAny (model prog w) A (newExc (.type "StopIteration") []>>=raiseNew) (λ(_:Fin) _=>False) (λe s'=>wpAny (model prog w) A (isInstance e (.type "StopIteration")>>=λb=>if b=true then pure none else throw e) Q E s') s:=by
 refine JO ?_;simp only[newExc,newTuple];refine JO (wpAny_newObj_type ?_ (by size_fits));refine JO (m:=firstArgMember _ _) (wpAny_of_eq (a:=Value.none) (by first|rfl|(simp only[firstArgMember];rfl)) ?_);refine wpAny_newObj_type ?_ (by size_fits);simp only[raiseNew];refine JO (wpAny_handled ?_);rw[hh];refine JO (JP (wpAny_throw ?_));refine JO (wpAny_isInstance (T:="StopIteration") (b:=true) ⟨_,J4 _ rfl,rfl⟩ isSubtype_stop ?_);exact JP (h _ λb u e=>JR _ (JR _ e))
theorem g6 {h:Heap}{b:Addr}{u:Obj}{f:Obj->Obj}(hb:b≠I) (e:h.get? b=some u):(h.update I f).get? b=some u:=by rw[(Heap.SameBut.update h I f).2 b hb];exact e
theorem CP {Q:Option Value->Shared->Prop}{sl i:Nat}(hh:A.handled=none) (x:CO s.heap I a (.int sl 0) i es.size ep) (R:Raw w s.heap a o es ep tb) (hI:I≠a)
  (hn:∀(A':Around) (E':Value->Shared->Prop) (Q':Option (Value×Nat)->Shared->Prop),(∀r:Option (Value×Nat),(∀(v:Value) (sl':Nat),r=some (v,sl')->∀h',CO h' I a (.int sl' 0) (i+1) es.size ep->(∀b u,b≠I->s.heap.get? b=some u->h'.get? b=some u)->Q (some v) {s with heap:=h'})->
   (r=none->∀h',(∀b u,b≠I->s.heap.get? b=some u->h'.get? b=some u)->Q none {s with heap:=h'})->Q' r s)->wpAny (model prog w) A' (setNext a sl i ep) Q' E' s):
  wpAny (model prog w) A (pyNext (.ref I)) Q E s:=by
 obtain⟨oi,ho,hc,hd⟩:=id x;unfold pyNext;refine JO (wpAny_attempt (wpAny_callSpecial?_slot (name:=Str.ofString "__next__") x.typeIs g5 (wpAny_call_entry g5 x.typeIs xE ?_ (AF _))));unfold Builtin.«set_iterator.__next__»;refine JO (m:=slotArgs "__next__" 0 ⟨[.ref I],[]⟩) (JP ?_);dsimp only;refine JO (wpAny_fieldsOf ho hd ?_);dsimp only;refine JO (gu R ?_);rw[if_neg (by simp)];simp only[Ko];refine JO (hn _ _ _ λr h1 h2=>?_);cases r with
 |some p=>
  obtain⟨v,sl'⟩:=p;dsimp only;refine JO (wpAny_setField ho hd (by simp) ?_);have g1:=Heap.get?_update_self (Obj.mapFields (·.setIfInBounds 0 (rawInt sl'))) ho (Obj.isFreed_of_fields (Obj.data_mapFields hd _));have d1:=Obj.data_mapFields hd (·.setIfInBounds 0 (rawInt sl'));refine JO (wpAny_setField g1 d1 (by simp) (JP ⟨v,rfl,JP ?_⟩));have g2:=Heap.get?_update_self (Obj.mapFields (·.setIfInBounds 1 (rawInt ((i:Int)+1)))) g1 (Obj.isFreed_of_fields (Obj.data_mapFields d1 _));refine h1 v sl' rfl _ ⟨_,g2,by rw[Obj.cls_mapFields,Obj.cls_mapFields];exact hc,?_⟩ λb u hb e=>g6 hb (g6 hb e);rw[Obj.data_mapFields d1];simp[rawInt]
 |none=>
  dsimp only;refine JO (wpAny_setField ho hd (by simp) ?_);refine wpAny_mono (AG (A:=A.in1) (E:=E) (Q:=λr s'=>Q r s') hh λh' hk=>h2 rfl h' λb u hb e=>hk b u (g6 hb e)) (λ_ _ z=>z.elim) λe s' z=>?_;exact wpAny_of_in1 z
end
section
variable{prog:Program}{w:World}{A:Around}{E:Value->Shared->Prop}{s:Shared}{a I:Addr}{o:Obj}{es:Array (Int×Value)}{ep:Nat}{tb:SetTable}
theorem CQ {Q:Array (Int×Value)->Shared->Prop}(hb:dA w=true) (R:Raw w s.heap a o es ep tb) (h:Q (pickOrder (w.params.setOrder a ep) es) s):wpAny (model prog w) A (setWalk a) Q E s:=by
 unfold setWalk;refine JO (b5 R (JO (gg ?_)));rw[hb];simp only[↓reduceIte];exact JO (wpAny_askSetting (JP h))
noncomputable def kn (w:World) (a:Addr) (es:Array (Int×Value)) (ep:Nat):Array (Int×Value):=if dA w=true then pickOrder (w.params.setOrder a ep) es else es
noncomputable def gA (w:World) (tb:SetTable) (i:Nat):Nat:=if dA w=true then 0 else match i with
 |0=>0
 |i+1=>tb.place.getD i 0+1
theorem nZ (w:World) (a:Addr) (es:Array (Int×Value)) (ep:Nat):(kn w a es ep).toList.Perm es.toList:=by
 unfold kn;split
 ·exact vb _ _
 ·exact List.Perm.refl _
theorem zu (R:Raw w s.heap a o es ep tb) (hb:dA w=false){i:Nat}(hi:i<=es.size):SetTable.below tb.place (gA w tb i)=i:=by
 have hf:=R.ok.fits;unfold SetTable.fits at hf;simp only[JS,beq_iff_eq,JT]at hf;unfold gA;rw[hb];simp only[Kc,↓reduceIte];cases i with
 |zero=>exact zm R.ok.up
 |succ i=>
  have hlt:i<tb.place.size:=by omega
  dsimp only;rw[show tb.place.getD i 0=tb.place[i] by rw[Array.getD_eq_getD_getElem?,Ke hlt];rfl];exact zo R.ok.up hlt
theorem AH {Q:Option (Value×Nat)->Shared->Prop}{i:Nat}(R:Raw w s.heap a o es ep tb) (hdr:dA w=false->(!tb.plain&&decide (es.size>1))=false) (hi:i<=es.size)
  (h:Q ((kn w a es ep)[i]?.map λe=>(e.2,gA w tb (i+1))) s):wpAny (model prog w) A (setNext a (gA w tb i) i ep) Q E s:=by
 unfold setNext;refine JO (b5 R (JO (gg ?_)));cases hb:dA w with
 |true=>
  simp only[↓reduceIte,bne_self_eq_false,Kc];refine JO (CQ hb R (JP ?_));have e:∀j,gA w tb j=0:=λj=>by unfold gA;rw[hb];rfl
  unfold kn at h;rw[hb]at h;simp only[↓reduceIte,e]at h;simp only[e];exact h
 |false=>
  simp only[Kc,↓reduceIte];have hl:tb.led=true:=by rw[R.ok.led,hb];rfl
  have hf:=R.ok.fits;unfold SetTable.fits at hf;simp only[JS,beq_iff_eq,JT]at hf;split
  ·rename_i hq;exact absurd (show(!tb.plain&&decide (es.size>1))=true from hq) (by rw[hdr hb];exact J8)
  ·refine JO ?_
   wp_delta
   rw[hl];simp only[Bool.not_true,Bool.false_and,Kc,↓reduceIte];refine JP ?_;rw[zu R hb hi];refine JP ?_;unfold kn at h;rw[hb]at h;simp only[Kc,↓reduceIte]at h
   by_cases hlt:i<es.size
   ·have hp:i<tb.place.size:=by omega
    rw[Ke hlt]at h ⊢;rw[Ke hp];have e:gA w tb (i+1)=tb.place[i]+1:=by
     unfold gA;rw[hb];simp only[Kc,↓reduceIte];rw[Array.getD_eq_getD_getElem?,Ke hp];rfl
    rw[e]at h;exact h
   ·rw[Array.getElem?_eq_none (by omega)]at h ⊢;exact h
theorem xG (hh:A.handled=none) (hI:I≠a) (o:Obj) (es:Array (Int×Value)) (ep:Nat) (tb:SetTable) (hdr:dA w=false->(!tb.plain&&decide (es.size>1))=false):
  Walks prog w A I [I,a] [I] es.size (λi v=>∃e,(kn w a es ep)[i]? =some e/\v=e.2) (λi h=>CO h I a (.int (gA w tb i) 0) i es.size ep/\Raw w h a o es ep tb/\i<=es.size) where
 sub:=λb hb=>by simp at hb;simp[hb]
 frame:=λi h h' st hk=>⟨st.1.at_ λo e=>hk I (by simp) o e,⟨hk a (by simp) _ st.2.1.get,st.2.1.ex,st.2.1.dat,st.2.1.inz,st.2.1.nd,st.2.1.l0,st.2.1.ok⟩,st.2.2⟩
 item:=λi s Q E hi st hQ=>by
  obtain⟨x,R,hle⟩:=st;have hsz:(kn w a es ep).size=es.size:=fh (nZ w a es ep);have hlt:i<(kn w a es ep).size:=by omega
  refine CP hh x R hI λA' E' Q' hq=>AH R hdr hle (hq _ (λv sl' e h' x' hk=>?_) λe=>?_)
  ·rw[Ke hlt]at e;simp only[Option.map_some,Option.some.injEq,Prod.mk.injEq]at e;obtain⟨rfl,rfl⟩:=e;exact hQ _ h' s.toks ⟨_,Ke hlt,rfl⟩ ⟨x',⟨hk a _ (Ne.symm hI) R.get,R.ex,R.dat,R.inz,R.nd,R.l0,R.ok⟩,hi⟩ λb u hb e=>hk b u (λz=>hb (by simp[z])) e
  ·rw[Ke hlt]at e;simp at e
 done:=λs Q E st hQ=>by
  obtain⟨x,R,hle⟩:=st;have hsz:(kn w a es ep).size=es.size:=fh (nZ w a es ep);refine CP hh x R hI λA' E' Q' hq=>AH R hdr hle (hq _ (λv sl' e h' x' hk=>?_) λe h' hk=>?_)
  ·rw[Array.getElem?_eq_none (by omega)]at e;simp at e
  ·exact hQ h' s.toks λb u hb e=>hk b u (λz=>hb (by simp[z])) e
 self:=λi s Q E st hQ=>by
  refine wpAny_pyIter_slot st.1.typeIs rS (wpAny_call_entry rS st.1.typeIs vd ?_ (xF _));show wpAny _ _ (ret (.ref I)) _ _ s;exact JP ⟨_,rfl,"set_iterator",_,st.1.typeIs,g5.lookup,hQ⟩
theorem xH {Q:Option Value->Shared->Prop}{i:Nat}{tp:Addr}{pl:Array Value}(hh:A.handled=none) (x:CO s.heap I a (.ref tp) i es.size ep) (R:Raw w s.heap a o es ep tb) (T:s.heap.IsTuple tp pl)
  (h1:∀(j:Nat) (v:Int×Value),pl[i]? =some (rawInt j)->es[j]? =some v->∀h',CO h' I a (.ref tp) (i+1) es.size ep->(∀b u,b≠I->s.heap.get? b=some u->h'.get? b=some u)->Q (some v.2) {s with heap:=h'})
  (h2:pl[i]? =none->∀h',(∀b u,b≠I->s.heap.get? b=some u->h'.get? b=some u)->Q none {s with heap:=h'})
  (hp:∀v,pl[i]? =some v->∃j:Nat,v=rawInt j/\j<es.size):wpAny (model prog w) A (pyNext (.ref I)) Q E s:=by
 obtain⟨oi,ho,hc,hd⟩:=id x;obtain⟨ot,hot,_,nt,hdt⟩:=T;unfold pyNext;refine JO (wpAny_attempt (wpAny_callSpecial?_slot (name:=Str.ofString "__next__") x.typeIs g5 (wpAny_call_entry g5 x.typeIs xE ?_ (AF _))));unfold Builtin.«set_iterator.__next__»;refine JO (m:=slotArgs "__next__" 0 ⟨[.ref I],[]⟩) (JP ?_);dsimp only;refine JO (wpAny_fieldsOf ho hd ?_);dsimp only;refine JO (gu R ?_);rw[if_neg (by simp)];refine JO (wpAny_seqItems hot hdt ?_);simp only[Ko];cases q:pl[i]? with
 |some v=>
  obtain⟨j,rfl,hj⟩:=hp v q;unfold rawInt;dsimp only;refine JO ?_;unfold setNextDrawn;refine JO (b5 R ?_);dsimp only;rw[if_neg (by simp),Ko,Ke hj];refine JP ?_;refine JO (wpAny_setField ho hd (by simp) (JP ⟨_,rfl,JP ?_⟩));have g1:=Heap.get?_update_self (Obj.mapFields (·.setIfInBounds 1 (rawInt ((i:Int)+1)))) ho (Obj.isFreed_of_fields (Obj.data_mapFields hd _));refine h1 j es[j] q (Ke hj) _ ⟨_,g1,by rw[Obj.cls_mapFields];exact hc,?_⟩ λb u hb e=>g6 hb e;rw[Obj.data_mapFields hd];simp[rawInt]
 |none=>
  dsimp only;refine JO (wpAny_setField ho hd (by simp) ?_);have g1:=Heap.get?_update_self (Obj.mapFields (·.setIfInBounds 0 (rawInt 0))) ho (Obj.isFreed_of_fields (Obj.data_mapFields hd _));refine JO (wpAny_setField g1 (Obj.data_mapFields hd _) (by simp) ?_);refine wpAny_mono (AG (A:=A.in1) (E:=E) (Q:=λr s'=>Q r s') hh λh' hk=>h2 q h' λb u hb e=>hk b u (g6 hb (g6 hb e))) (λ_ _ z=>z.elim) λe s' z=>?_;exact wpAny_of_in1 z
theorem xI (hh:A.handled=none) (hI:I≠a) (tp:Addr) (ht:tp≠I) (o:Obj) (es:Array (Int×Value)) (ep:Nat) (tb:SetTable) (ys:List Nat) (hy:ys.length=es.size) (hb:∀j∈ys,j<es.size):
  Walks prog w A I [I,a,tp] [I] es.size (λi v=>∃j e,ys[i]? =some j/\es[j]? =some e/\v=e.2) (λi h=>CO h I a (.ref tp) i es.size ep/\Raw w h a o es ep tb/\h.IsTuple tp (ys.map λ(j:Nat)=>rawInt j).toArray) where
 sub:=λb hb=>by simp at hb;simp[hb]
 frame:=λi h h' st hk=>⟨st.1.at_ λo e=>hk I (by simp) o e,⟨hk a (by simp) _ st.2.1.get,st.2.1.ex,st.2.1.dat,st.2.1.inz,st.2.1.nd,st.2.1.l0,st.2.1.ok⟩,st.2.2.at λo e=>hk tp (by simp) o e⟩
 item:=λi s Q E hi st hQ=>by
  obtain⟨x,R,T⟩:=st;have hlt:i<ys.length:=by omega
  have ey:((ys.map λ(j:Nat)=>rawInt j).toArray)[i]? =some (rawInt ys[i]):=by simp[hlt]
  refine xH hh x R T (λj v q e h' x' hk=>?_) (λq=>?_) λv q=>?_
  ·rw[ey]at q;have q':ys[i]=j:=by
    have:=JU q;unfold rawInt at this;injection this with z _;omega
   exact hQ _ h' s.toks ⟨j,v,by rw[Ka hlt,q'],e,rfl⟩ ⟨x',⟨hk a _ (Ne.symm hI) R.get,R.ex,R.dat,R.inz,R.nd,R.l0,R.ok⟩,T.at λo e=>hk tp o ht e⟩ λb u hb e=>hk b u (λz=>hb (by simp[z])) e
  ·rw[ey]at q;cases q
  ·rw[ey]at q;exact⟨ys[i],(JU q).symm,hb _ (List.getElem_mem hlt)⟩
 done:=λs Q E st hQ=>by
  obtain⟨x,R,T⟩:=st;have en:((ys.map λ(j:Nat)=>rawInt j).toArray)[es.size]? =none:=by simp;omega
  refine xH hh x R T (λj v q=>?_) (λq h' hk=>?_) λv q=>?_
  ·rw[en]at q;cases q
  ·exact hQ h' s.toks λb u hb e=>hk b u (λz=>hb (by simp[z])) e
  ·rw[en]at q;cases q
 self:=λi s Q E st hQ=>by
  refine wpAny_pyIter_slot st.1.typeIs rS (wpAny_call_entry rS st.1.typeIs vd ?_ (xF _));show wpAny _ _ (ret (.ref I)) _ _ s;exact JP ⟨_,rfl,"set_iterator",_,st.1.typeIs,g5.lookup,hQ⟩
end
noncomputable def Ready (prog:Program) (w:World) (A:Around) (s:Shared) (I S:Addr) (n:Nat) (G:Array Value->Prop):Prop:=
 ∃(fp:List Addr) (P:Nat->Value->Prop) (St:Nat->Heap->Prop),Walks prog w A I fp [I] n P St/\St 0 s.heap/\S∉fp/\∀acc,ItemsOf P acc n->G acc
theorem EX:typeLookup (.type "set") "__len__"=pure (some (.builtin "set.__len__")):=by rw[typeLookup_type,builtinLookup_eq_fast];kernel_rfl
theorem len_dict:typeLookup (.type "dict") "__len__"=pure (some (.builtin "dict.__len__")):=by rw[typeLookup_type,builtinLookup_eq_fast];kernel_rfl
section
variable{prog:Program}{w:World}{A:Around}{E:Value->Shared->Prop}{s:Shared}{x:Addr}{n:Nat}{G:Array Value->Prop}
theorem sD {T:String}{Q:List Value->Shared->Prop}(hTm:T="set"\/T="dict") (hT:∀h':Heap,(∀b o,s.heap.get? b=some o->h'.get? b=some o)->Shared.TypeIs {s with heap:=h'} (.ref x) T) (hx:x<s.heap.objs.size)
  (hit:∀(s1:Shared) (Q':Value->Shared->Prop),(∀b o,s.heap.get? b=some o->s1.heap.get? b=some o)->s1.gens=s.gens->s.heap.objs.size<s1.heap.objs.size->
   (∀(I:Addr) (s2:Shared),(∀b o,s1.heap.get? b=some o->s2.heap.get? b=some o)->s1.heap.objs.size<=I->s2.gens=s1.gens->s2.os=s1.os->Ready prog w A.in1 s2 I s.heap.objs.size n G->Q' (.ref I) s2)->wpAny (model prog w) A.in1 (pyIter (.ref x)) Q' E s1)
  (hn:n<=sizeLine)
  (hQ:∀(s':Shared) (acc:Array Value),(∀b o,s.heap.get? b=some o->s'.heap.get? b=some o)->s'.gens=s.gens->s'.os=s.os->s.heap.objs.size<s'.heap.objs.size->G acc->Q acc.toList s'):wpAny (model prog w) A (collect (.ref x)) Q E s:=by
 have hSI:s.heap.objs.size≠x:=Nat.ne_of_gt hx;unfold collect;refine JO (wpAny_runValue (codeAny_builtin PySem.F.entry_proto_collect ?_));rw[Around.under_plainId PySem.F.plain_proto_collect _];show wpAny _ A.in1 (newList []>>=λl=>again (.builtin "list.__iadd__" ⟨[l,.ref x],[]⟩)) _ _ s;refine JO (wpAny_newObj_type ?_);refine JP ⟨plainId_quiet PySem.F.plain_list_iadd _,codeAny_builtin PySem.F.entry_list_iadd ?_⟩;rw[Around.under_plainId PySem.F.plain_list_iadd _];have keep1:∀b o,s.heap.get? b=some o->(s.heap.push {cls:=.type "list",data:=.seq ([]:List Value).toArray}).get? b=some o:=λb o e=>JR _ e;have hL1:(s.heap.push {cls:=.type "list",data:=.seq ([]:List Value).toArray}).get? s.heap.objs.size=some {cls:=.type "list",data:=.seq ([]:List Value).toArray}:=J4 _ rfl;have hsz1:(s.heap.push {cls:=.type "list",data:=.seq ([]:List Value).toArray}).objs.size=s.heap.objs.size+1:=Km ..;have h1:Builtin.List.listSameRef (.ref s.heap.objs.size) (.ref x)=false:=by simp[Builtin.List.listSameRef,hSI]
 have T1:=hT _ keep1;generalize hH:s.heap.push {cls:=.type "list",data:=.seq ([]:List Value).toArray}=H1 at keep1 hL1 hsz1 T1 ⊢;show wpAny _ A.in1 (Builtin.List.listExtendWith (.ref s.heap.objs.size) (.ref x) (.ref s.heap.objs.size)) _ _ _;unfold Builtin.List.listExtendWith;refine JO (wpAny_typeOf T1 ?_);rcases hTm with rfl|rfl
 all_goals
  rw[if_neg (by rw[h1];decide)];refine JO (hit _ _ keep1 rfl (by rw[hsz1];exact Nat.lt_succ_self _) λI s2 keep2 hI hg2 ho2 RD=>?_);have T2:=hT s2.heap λb o e=>keep2 b o (keep1 b o e);have T2':s2.TypeIs (.ref x) _:=T2;refine JO (wpAny_holding ?_);unfold Builtin.List.listLengthHint;refine JO (wpAny_specialOf T2' (by first|exact EX|exact len_dict) ?_);dsimp only
  first
   |rw[show splitId "set.__len__"=some ("set","__len__")from by decide+kernel]
   |rw[show splitId "dict.__len__"=some ("dict","__len__")from by decide+kernel]
  dsimp only;refine JO (wpAny_isInstance (b:=true) T2' (by first|exact sub_set_set|exact sub_dict_dict) ?_);rw[if_neg (by simp),if_pos (by decide+kernel)];refine JO (wpAny_typeOf T2' ?_);refine JP ?_;rw[if_pos (by decide+kernel)];refine JO (wpAny_rule ?_);have hL2:=keep2 _ _ hL1;refine JO ?_;show wpAny _ A.in1 (updateSeq s.heap.objs.size (·.push .none)>>=λ_=>updateSeq s.heap.objs.size (·.pop)) _ _ _;refine JO (wpAny_updateSeq hL2 rfl ?_);have hL3:=Heap.get?_update_self (Obj.mapSeq (·.push Value.none)) hL2 rfl;refine wpAny_updateSeq hL3 rfl ?_;have hL4:=Heap.get?_update_self (Obj.mapSeq (·.pop)) hL3 rfl;have oth:∀b o,b≠s.heap.objs.size->s2.heap.get? b=some o->((s2.heap.update s.heap.objs.size (Obj.mapSeq (·.push Value.none))).update s.heap.objs.size (Obj.mapSeq (·.pop))).get? b=some o:=
   λb o hb e=>g6 hb (g6 hb e)
  obtain⟨fp,P,St,W,st0,hSf,hG⟩:=RD;refine JP ⟨plainId_quiet PySem.F.plain_extend_loop _,codeAny_extend_loopS W.toS hn _ hSf _ n 0 _ _ _ rfl (Kk _) (W.frame 0 _ _ st0 λb hb o e=>oth b o (λz=>hSf (by rw[←z];exact hb)) e) hL4 (ItemsOf.nil P) λs' acc' c' mv hS' hacc=>?_⟩;show wpAny _ A (load s.heap.objs.size>>=_) _ _ s';refine JO (wpAny_load hS' (JP (hQ s' acc' (λb o e=>?_) ?_ ?_ (J7 hS') (hG _ hacc))))
  ·have hb:=J7 e;have e2:=keep2 _ _ (keep1 b o e);refine mv.heap b o ?_ (oth b o (Kg hb) e2);intro z;rcases JX.mp z with z|z
   ·exact absurd z (Kg hb)
   ·rw[J6]at z;rw[z]at hb;rw[hsz1]at hI;exact absurd hb (Nat.not_lt.mpr (Nat.le_of_succ_le hI))
  ·exact mv.gens.trans hg2
  ·exact mv.os.trans ho2
end
theorem js {P:Nat->Value->Prop}{acc:Array Value}{n:Nat}{l:List Value}(hl:l.length=n) (h:ItemsOf P acc n) (hP:∀j v,P j v->l[j]? =some v):acc.toList=l:=by
 obtain⟨h1,h2⟩:=h;refine List.ext_getElem? λj=>?_;rw[Kv];cases q:acc[j]? with
 |some v=>exact(hP j v (h2 j v q)).symm
 |none=>
  have:acc.size<=j:=Array.getElem?_eq_none_iff.mp q;exact(List.getElem?_eq_none (by omega)).symm
section
variable{prog:Program}{w:World}{A:Around}{E:Value->Shared->Prop}{s:Shared}{a S:Addr}{o:Obj}{es:Array (Int×Value)}{ep:Nat}{tb:SetTable}
theorem Bx (h:Heap) (vs:List Value):(h.push {cls:=.type "tuple",data:=.seq vs.toArray}).IsTuple h.objs.size vs.toArray:=⟨_,J4 _ rfl,rfl,_,rfl⟩
theorem xJ {vs:List Value}{Q:Value->Shared->Prop}(hz:vs.length<=sizeLine) (h:Q (.ref s.heap.objs.size) {s with heap:=s.heap.push {cls:=.type "tuple",data:=.seq vs.toArray}}):wpAny (model prog w) A (newTuple vs) Q E s:=
 wpAny_newObj_type h (by show vs.toArray.size<=sizeLine;simpa using hz)
theorem CS {Q:Value->Shared->Prop}(hh:A.handled=none) (R:Raw w s.heap a o es ep tb) (hS:S≠a) (hS2:S<s.heap.objs.size)
  (h:∀(I:Addr) (s2:Shared),(∀b u,s.heap.get? b=some u->s2.heap.get? b=some u)->s.heap.objs.size<=I->s2.gens=s.gens->s2.os=s.os->Ready prog w A s2 I S es.size (λacc=>acc.toList.Perm (es.toList.map (·.2)))->Q (.ref I) s2):
  wpAny (model prog w) A (pyIter (.ref a)) Q E s:=by
 have hT:s.TypeIs (.ref a) "set":=⟨o,R.get,R.ex.1⟩;have hlt:=J7 R.get;refine wpAny_pyIter_slot hT PySem.F.slot_set_iter (wpAny_call_entry PySem.F.slot_set_iter hT zt ?_ (PySem.F.args_set_iter_1 _));unfold Builtin.«frozenset.__iter__»;refine JO (m:=Builtin.Frozenset.slot0 "__iter__" ⟨[.ref a],[]⟩) (JP ?_);unfold Builtin.Frozenset.sizeOf;refine JO (JO (gu R (JP ?_)));unfold setDrawn;refine JO (JO (b5 R (JO (gg (JP ?_)))));split
 ·rename_i hq;refine JO (jr es.size (List.range es.size) s (by rw[List.length_range]) λys d p=>?_);have hlen:ys.length=es.size:=by rw[p.length_eq,List.length_range]
  have hmem:∀j∈ys,j<es.size:=λj hj=>List.mem_range.mp (p.mem_iff.mp hj);refine JO (xJ (by have:=fits_of_scanBound R.l0;rw[JQ];omega) ?_);have R2:Raw w (s.heap.push {cls:=.type "tuple",data:=.seq (ys.map λ(j:Nat)=>rawInt j).toArray}) a o es ep tb:=⟨JR _ R.get,R.ex,R.dat,R.inz,R.nd,R.l0,R.ok⟩;refine JO (gy (s:={s with heap:=s.heap.push {cls:=.type "tuple",data:=.seq (ys.map λ(j:Nat)=>rawInt j).toArray},drawn:=d}) R2 ?_);have hz:=Km (s.heap) {cls:=.type "tuple",data:=.seq (ys.map λ(j:Nat)=>rawInt j).toArray};refine JO (wpAny_newObj_type (JP ⟨_,rfl,"set_iterator",_,⟨_,J4 _ rfl,rfl⟩,g5.lookup,?_⟩));refine h _ _ (λb u e=>JR _ (JR _ e)) (by dsimp only;rw[hz];exact Nat.le_succ _) rfl rfl ?_;dsimp only;rw[hz];have n1:s.heap.objs.size+1≠a:=Nat.ne_of_gt (Nat.lt_succ_of_lt hlt);refine⟨_,_,_,xI hh n1 s.heap.objs.size (Kg (Nat.lt_succ_self _)) o es ep tb ys hlen hmem,⟨⟨_,by rw[←hz];exact J4 _ rfl,rfl,rfl⟩,⟨JR _ R2.get,R.ex,R.dat,R.inz,R.nd,R.l0,R.ok⟩,?_⟩,?_,λacc hi=>?_⟩
  ·obtain⟨ot,h1,h2⟩:=Bx s.heap (ys.map λ(j:Nat)=>rawInt j);exact⟨ot,JR _ h1,h2⟩
  ·intro z;simp only[JX,List.not_mem_nil,or_false]at z;rcases z with z|z|z
   ·exact absurd hS2 (by rw[z];exact Nat.not_lt.mpr (Nat.le_succ _))
   ·exact hS z
   ·exact absurd hS2 (by rw[z];exact Nat.lt_irrefl _)
  ·have e:acc.toList=ys.map (λj=>(es[j]?.map λ(e:Int×Value)=>e.2).getD .none):=by
    refine js (by rw[JQ];exact hlen) hi λj v hv=>?_;obtain⟨k,e1,h1,h2,rfl⟩:=hv;rw[J5,h1,Option.map_some,h2];rfl
   have e2:(List.range es.size).map (λj=>(es[j]?.map λ(e:Int×Value)=>e.2).getD .none)=es.toList.map (·.2):=by
    refine List.ext_getElem? λj=>?_;rw[J5,J5]
    by_cases hj:j<es.size
    ·rw[List.getElem?_range hj,Kv,Ke hj];simp[hj]
    ·rw[List.getElem?_eq_none (l:=List.range es.size) (by rw[List.length_range];omega),Kv,Array.getElem?_eq_none (by omega)];rfl
   show acc.toList.Perm _;rw[e,←e2];exact p.map _
 ·rename_i hq;refine JO (JP (JO (gy R ?_)));refine JO (wpAny_newObj_type (JP ⟨_,rfl,"set_iterator",_,⟨_,J4 _ rfl,rfl⟩,g5.lookup,?_⟩));refine h _ _ (λb u e=>JR _ e) (J3 _) rfl rfl ?_;have n1:s.heap.objs.size≠a:=Nat.ne_of_gt hlt;have hdr:dA w=false->(!tb.plain&&decide (es.size>1))=false:=λhb=>by
   rw[hb]at hq;exact Bool.eq_false_iff.mpr hq
  have e0:gA w tb 0=0:=by unfold gA;split<;>rfl
  refine⟨_,_,_,xG hh n1 o es ep tb hdr,⟨⟨_,J4 _ rfl,rfl,by rw[e0];rfl⟩,⟨JR _ R.get,R.ex,R.dat,R.inz,R.nd,R.l0,R.ok⟩,Kk _⟩,?_,λacc hi=>?_⟩
  ·intro z;simp only[JX,List.not_mem_nil,or_false]at z;rcases z with z|z
   ·exact absurd hS2 (by rw[z];exact Nat.lt_irrefl _)
   ·exact hS z
  ·have hsz:(kn w a es ep).size=es.size:=fh (nZ w a es ep);have e:acc.toList=(kn w a es ep).toList.map (·.2):=by
    refine js (by rw[JQ,JY];exact hsz) hi λj v hv=>?_;obtain⟨e1,h1,rfl⟩:=hv;rw[J5,Kv,h1];rfl
   show acc.toList.Perm _;rw[e];exact(nZ w a es ep).map _
end
end Sn
namespace Sn
open PySem PyProof.Rows
section
variable{prog:Program}{w:World}{A:Around}{E:Value->Shared->Prop}{s:Shared}{x:Addr}{ms:List Int}
theorem xK {Q:Value->Shared->Prop}
  (hc:∀Q':List Value->Shared->Prop,(∀(s':Shared) (vs:List Value),(∀b o,s.heap.get? b=some o->s'.heap.get? b=some o)->s'.gens=s.gens->s'.os=s.os->s.heap.objs.size<s'.heap.objs.size->(∃ns,IntsAre vs ns/\ns.Perm ms)->Q' vs s')->wpAny (model prog w) A.in1 (collect (.ref x)) Q' E s)
  (hL:ms.length<=sizeLine)
  (h:∀(s':Shared) (p:Addr) (out:Array Value) (ns:List Int) (c:Nat),(∀b o,s.heap.get? b=some o->s'.heap.get? b=some o)->s'.gens=s.gens->s'.os=s.os->s.heap.get? p=none->s.heap.objs.size<=p->s'.heap.get? p=some {cls:=.type "list",dict:=none,data:=.seq out c,slots:= #[]}->
   IntsAre out.toList ns->ns.Perm ms->ns.Pairwise (·<=·)->Q (.ref p) s'):wpAny (model prog w) A (call (.builtin "sorted") [.ref x]) Q E s:=by
 refine Calls.call_function_entry kind_sorted plain_sorted entry_sorted (args_sorted1 _) ?_;unfold Builtin.«sorted»;refine JO (m:=checkCount "sorted" 1 1 _) (JP ?_);refine JO (hc _ λs1 vs k1 g1 o1 z1 hns=>?_);obtain⟨ns,hi,pn⟩:=hns;have hlen:vs.length<=sizeLine:=by rw[hi.length,pn.length_eq];exact hL
 refine JO (wpAny_newObj_type ?_ (by show vs.toArray.size<=sizeLine;simpa using hlen));have hoL:(s1.heap.push (seqObj "list" vs.toArray 0)).get? s1.heap.objs.size=some (seqObj "list" vs.toArray 0):=J4 _ rfl;refine JO (wpAny_holding (wpAny_call_entry slot_list_sort ⟨_,hoL,rfl⟩ entry_list_sort (list_sort_treeAny (s:={s1 with heap:=s1.heap.push (seqObj "list" vs.toArray 0)}) hoL hi hlen λout ns' h1 h2 h3=>⟨_,rfl,?_⟩) (args_list_sort _)));obtain⟨c,hat⟩:=sortedHeap_at (vs:=vs) (out:=out) hoL;have hle:=Nat.le_of_lt z1;refine JP ⟨_,rfl,h _ s1.heap.objs.size out ns' c (λb o e=>?_) g1 o1 ?_ hle hat h1 (h2.trans pn) h3⟩
 ·have hb:=J7 (k1 b o e);rw[sortedHeap_old (Kg hb) (by rw[Km];exact Nat.lt_succ_of_lt hb)];exact JR _ (k1 b o e)
 ·cases q:s.heap.get? s1.heap.objs.size with
  |none=>rfl
  |some u=>exact absurd (J7 (k1 _ _ q)) (Nat.lt_irrefl _)
theorem EY {l:List (Int×Value)}(h:∀e∈l,jq e):IntsAre (l.map (·.2)) (l.map a9):=by
 induction l with
 |nil=>exact .nil
 |cons e l ih=>
  obtain⟨k,t,rfl⟩:=h e JZ;exact .cons k t (ih λe he=>h e (JW _ he))
theorem wb {vs us:List Value}{ns:List Int}(p:vs.Perm us) (h:IntsAre us ns):∃ms,IntsAre vs ms/\ms.Perm ns:=by
 induction p generalizing ns with
 |nil=>exact⟨ns,h,List.Perm.refl _⟩
 |cons x p ih=>
  cases h with
  |cons n t h'=>
   obtain⟨ms,h1,h2⟩:=ih h';exact⟨n::ms,.cons n t h1,h2.cons n⟩
 |swap x y l=>
  cases h with
  |cons n t h'=>
   cases h' with
   |cons m u h''=>exact⟨m::n::_,.cons m u (.cons n t h''),List.Perm.swap ..⟩
 |trans p q ih1 ih2=>
  obtain⟨m1,a1,a2⟩:=ih2 h;obtain⟨m2,b1,b2⟩:=ih1 a1;exact⟨m2,b1,b2.trans a2⟩
theorem zv {Q:Value->Shared->Prop}{ks:List Int}(hh:A.handled=none) (S:aK w s.heap x ks)
  (h:∀(s':Shared) (p:Addr) (out:Array Value) (ns:List Int) (c:Nat),(∀b o,s.heap.get? b=some o->s'.heap.get? b=some o)->s'.gens=s.gens->s'.os=s.os->s.heap.get? p=none->s.heap.objs.size<=p->s'.heap.get? p=some {cls:=.type "list",dict:=none,data:=.seq out c,slots:= #[]}->
   IntsAre out.toList ns->ns.Perm ks->ns.Pairwise (·<=·)->Q (.ref p) s'):wpAny (model prog w) A (call (.builtin "sorted") [.ref x]) Q E s:=by
 have hfew:=fits_of_scanBound S.l0;obtain⟨o,es,ep,tb,R,rfl⟩:=S;refine xK (λQ' hQ'=>?_) hfew h;have hlt:=J7 R.get;refine sD (T:="set") (n:=es.size) (G:=λacc=>acc.toList.Perm (es.toList.map (·.2))) (.inl rfl) (λh' k=>⟨o,k _ _ R.get,R.ex.1⟩) hlt (λs1 Q2 k1 g1 z1 hq=>?_) (fits_of_scanBound R.l0) λs' acc k' g' o' z' hG=>?_
 ·exact CS (A:=A.in1.in1) hh ⟨k1 _ _ R.get,R.ex,R.dat,R.inz,R.nd,R.l0,R.ok⟩ (Nat.ne_of_gt hlt) z1 λI s2 k2 hI g2 o2 RD=>hq I s2 k2 hI g2 o2 RD
 ·exact hQ' s' acc.toList k' g' o' z' (wb hG (EY R.inz))
end
end Sn
namespace L2
open PySem PySem.Spec PyProof.Rows
noncomputable abbrev Key:=Sum Int Str
noncomputable def qD:Key->Value->Bool
 |.inl k,v=>Value.isInt k v
 |.inr x,v=>Value.isStrOf x v
noncomputable def IP (w:World):Key->Int
 |.inl k=>hashInt k
 |.inr x=>hashStr w x
theorem bR:∀{k:Key}{v:Value},qD k v=true->(∃i t,k=Sum.inl i/\v=Value.int i t)\/(∃x t,k=Sum.inr x/\v=Value.str x t)
 |.inl i,v,h=>by
  obtain⟨t,e⟩:=Value.isInt_shape (k:=i) (v:=v) h;exact .inl ⟨i,t,rfl,e⟩
 |.inr x,v,h=>by
  obtain⟨t,e⟩:=Value.isStrOf_shape (x:=x) (v:=v) h;exact .inr ⟨x,t,rfl,e⟩
theorem By (i:Int) (t:Tok):qD (.inl i) (.int i t)=true:=by simp[qD,Value.isInt]
theorem Bz (x:Str) (t:Tok):qD (.inr x) (.str x t)=true:=by simp[qD,Value.isStrOf]
theorem Gm (a b:Int):decide ((Sum.inl a:Key)=Sum.inl b)=(a==b):=by
 by_cases e:a=b
 ·subst e;simp
 ·have h:¬(Sum.inl a:Key)=Sum.inl b:=λq=>e (Sum.inl.inj q);rw[J9 h];exact(beq_eq_false_iff_ne.mpr e).symm
theorem Gn (a b:Str):decide ((Sum.inr a:Key)=Sum.inr b)=decide (a=b):=by
 by_cases e:a=b
 ·subst e;simp
 ·have h:¬(Sum.inr a:Key)=Sum.inr b:=λq=>e (Sum.inr.inj q);rw[J9 h,J9 e]
theorem Gp (a:Int) (b:Str):decide ((Sum.inl a:Key)=Sum.inr b)=false:=J9 (λq=>nomatch q)
theorem Gq (a:Str) (b:Int):decide ((Sum.inr a:Key)=Sum.inl b)=false:=J9 (λq=>nomatch q)
noncomputable def aW (prog:Program) (w:World):PySem.KeyKind prog w Key where
 is:=qD
 hash:=IP w
 inj:=λv a b ha hb=>by
  rcases bR ha with⟨i,t,rfl,rfl⟩|⟨x,t,rfl,rfl⟩
  ·rcases bR hb with⟨j,u,rfl,e⟩|⟨y,u,rfl,e⟩
   ·injection e with e1 _;rw[e1]
   ·exact nomatch e
  ·rcases bR hb with⟨j,u,rfl,e⟩|⟨y,u,rfl,e⟩
   ·exact nomatch e
   ·injection e with e1 _;rw[e1]
 byValue:=λk v h=>by
  rcases bR h with⟨i,t,rfl,rfl⟩|⟨x,t,rfl,rfl⟩<;>rfl
 pyHash:=λhv h=>by
  rcases bR hv with⟨i,t,rfl,rfl⟩|⟨x,t,rfl,rfl⟩
  ·exact wpAny_pyHash_int h
  ·exact wpAny_pyHash_str h
 eqBool:=λhu hv h=>by
  rcases bR hu with⟨i,t,rfl,rfl⟩|⟨x,t,rfl,rfl⟩
  ·rcases bR hv with⟨j,u,rfl,rfl⟩|⟨y,u,rfl,rfl⟩
   ·rw[Gm]at h;exact wpAny_eqBool_int h
   ·rw[Gp]at h;exact SeqAt.EqAt.int_str i t y u _ _ _ _ h
  ·rcases bR hv with⟨j,u,rfl,rfl⟩|⟨y,u,rfl,rfl⟩
   ·rw[Gq]at h;exact SeqAt.EqAt.str_int x t j u _ _ _ _ h
   ·rw[Gn]at h;exact wpAny_eqBool_str h
 «strs»:=λk x t v h=>by
  rcases bR h with⟨i,u,rfl,e⟩|⟨y,u,rfl,e⟩
  ·exact nomatch e
  ·injection e with e1 _;subst e1;cases v<;>rfl
theorem xM (prog:Program) (w:World) (i:Int) (t:Tok):(aW prog w).is (.inl i) (.int i t)=true:=By i t
theorem xN (prog:Program) (w:World) (x:Str) (t:Tok):(aW prog w).is (.inr x) (.str x t)=true:=Bz x t
inductive V where
 |bQ|bl (b:Bool)|int (i:Int)|str (x:Str)|xO (b:Array UInt8)|F2 (b:UInt64)|ref (a:Addr)|ty (n:String)
 deriving DecidableEq
noncomputable def RelV:V->Value->Prop
 |.bQ,u=>u=Value.none
 |.bl b,u=>u=Value.bool b
 |.int i,u=>∃t,u=Value.int i t
 |.str x,u=>∃t,u=Value.str x t
 |.xO b,u=>∃t,u=Value.bytes b t
 |.F2 b,u=>∃t,u=Value.float b t
 |.ref a,u=>u=Value.ref a
 |.ty n,u=>u=Value.type n
noncomputable abbrev Vals:List V->List Value->Prop:=Paired RelV
theorem Vals.length {xs:List V}{us:List Value}(r:Vals xs us):xs.length=us.length:=Paired.length r
theorem Vals.get:∀{xs:List V}{us:List Value}{i:Nat}{x:V},Vals xs us->xs[i]? =some x->∃u,us[i]? =some u/\RelV x u
 |_,_,_,_,.nil,e=>by simp at e
 |_,_,0,_,.cons r _,e=>by simp at e;subst e;exact⟨_,rfl,r⟩
 |_,_,i+1,x,.cons _ t,e=>by
  obtain⟨u,h1,h2⟩:=Vals.get (i:=i) (x:=x) t (by simpa using e);exact⟨u,by simpa using h1,h2⟩
theorem Vals.set {x:V}{u:Value}(r:RelV x u):∀{xs:List V}{us:List Value}(i:Nat),Vals xs us->Vals (xs.set i x) (us.set i u)
 |_,_,_,.nil=>.nil
 |_,_,0,.cons _ t=>.cons r t
 |_,_,i+1,.cons q t=>.cons q (Vals.set r i t)
theorem Vals.append:∀{xs ys:List V}{us ws:List Value},Vals xs us->Vals ys ws->Vals (xs++ys) (us++ws)
 |_,_,_,_,.nil,s=>s
 |_,_,_,_,.cons r t,s=>.cons r (Vals.append t s)
theorem Vals.take:∀{xs:List V}{us:List Value}(n:Nat),Vals xs us->Vals (xs.take n) (us.take n)
 |_,_,0,_=>.nil
 |_,_,_+1,.nil=>.nil
 |_,_,n+1,.cons r t=>.cons r (Vals.take n t)
theorem Vals.drop:∀{xs:List V}{us:List Value}(n:Nat),Vals xs us->Vals (xs.drop n) (us.drop n)
 |_,_,0,r=>r
 |_,_,_+1,.nil=>.nil
 |_,_,n+1,.cons _ t=>Vals.drop n t
noncomputable def iZ:Option V->Option Value->Prop
 |some v,some u=>RelV v u
 |none,none=>True
 |_,_=>False
noncomputable def KV {κ:Type}:List (κ×V)->List (κ×Value)->Prop:=Paired λ(p:κ×V) (q:κ×Value)=>p.1=q.1/\RelV p.2 q.2
noncomputable def kV:Key->V
 |.inl i=>.int i
 |.inr x=>.str x
inductive HO where
 |lst (xs:List V)
 |tup (xs:List V)
 |dK (kvs:List (Key×V))|dT (kvs:List (List Key×V))
 |set (S:Int->Bool) (n:Nat)
 |ins (C dx:Addr) (fs:List (Str×V))
 |own (x:Addr)
 |xd (fs:List (Str×V))
 |met (f x:Addr)
 |IQ (lo hi:Int)
 |d5 (o:Obj) (u:HO)
 |Gr (ps:Array Value)
 |ext (φ:Heap->Prop)
noncomputable abbrev Hp:=Addr->Option HO
noncomputable def upd (H:Hp) (a:Addr) (o:HO):Hp:=λb=>if b=a then some o else H b
theorem ab {H:Hp}{a:Addr}{o:HO}:upd H a o a=some o:=by unfold upd;rw[if_pos rfl]
theorem ak {H:Hp}{a b:Addr}{o:HO}(h:b≠a):upd H a o b=H b:=by unfold upd;rw[if_neg h]
theorem bN {H:Hp}{a:Addr}{o u:HO}:upd (upd H a o) a u=upd H a u:=by
 funext b;unfold upd;split<;>rfl
theorem ve {H:Hp}{a b:Addr}{o u:HO}(h:H a=some o) (h':H b=some u) (d:o≠u):a≠b:=by
 intro e;subst e;rw[h]at h';exact d (JU h')
theorem ao {H:Hp}{a b:Addr}{o:HO}(h:H a=some o) (h':H b=none):a≠b:=by
 intro e;subst e;rw[h]at h';cases h'
section
variable(P:Program) (w:World)
noncomputable def bV (H:Hp) (h:Heap) (a:Addr):HO->Prop
 |.lst xs=>xs.length<=sizeLine/\∃(its:List Value) (n:Nat),Vals xs its/\h.get? a=some {cls:=.type "list",data:=.seq its.toArray n}
 |.tup xs=>xs.length<=sizeLine/\∃its:List Value,Vals xs its/\IsTup h a its.toArray
 |.dK kvs=>kvs.length<=sizeLine/\(a==sysModules)=false/\∃vs,KV kvs vs/\h.DictOf (aW P w) a vs
 |.dT kvs=>kvs.length<=sizeLine/\(a==sysModules)=false/\∃xs:List (List Key×Addr×Value),
   Paired (λ(p:List Key×V) (q:List Key×Addr×Value)=>p.1=q.1/\H q.2.1=some (.tup (p.1.map kV))/\RelV p.2 q.2.2) kvs xs/\
   ∃o es ep,h.get? a=some o/\o.ExactDict/\o.data=.dict es ep/\es.toList=xs.map (entryOfKey (tupleKind (aW P w)))/\(xs.map (·.1)).Nodup
 |.set S n=>h.SetOf (intKind P w) a S n
 |.ins C dx fs=>H dx=some (.own a)/\fs.length<=1000/\dx≠a/\h.get? a=some (PySem.W.instObj C dx)/\
   ∃mA,h.Ns1 dx mA/\(∀f,iZ (fs.lookup f) (mA f))/\PySem.Within mA (fs.map (·.1))
 |.own _=>∃o,h.get? a=some o
 |.xd fs=>∃mA,h.Ns1 a mA/\∀f,iZ (fs.lookup f) (mA f)
 |.IQ lo hi=>∃t u v,h.get? a=some {cls:=.type "range",data:=.fields #[.int lo t,.int hi u,.int 1 v]}
 |.d5 o u=>h.get? a=some o/\bV H h a u
 |.Gr ps=>h.get? a=some {cls:=.none,data:=.fields ps}
 |.met f x=>h.get? a=some (PySem.W.methodObj (.ref f) (.ref x))
 |.ext φ=>φ h/\(∃o,h.get? a=some o)/\∀h1 h2:Heap,φ h1->(∀o,h1.get? a=some o->h2.get? a=some o)->φ h2
noncomputable def ko (H:Hp) (h:Heap):Prop:=∀a o,H a=some o->bV P w H h a o
end
section
variable{P:Program}{w:World}{H H':Hp}{h h':Heap}{a:Addr}{o:HO}
theorem bV.lt (x:bV P w H h a o):a<h.objs.size:=by
 cases o with
 |lst xs=>obtain⟨_,_,_,_,e⟩:=x;exact J7 e
 |tup xs=>obtain⟨_,_,_,p⟩:=x;exact p.lt
 |dK kvs=>obtain⟨_,_,_,_,o,_,_,e,_⟩:=x;exact J7 e
 |dT kvs=>obtain⟨_,_,_,_,o,_,_,e,_⟩:=x;exact J7 e
 |set S n=>obtain⟨o,_,_,_,e,_⟩:=x;exact J7 e
 |ins C dx fs=>obtain⟨_,_,_,e,_⟩:=x;exact J7 e
 |own y=>obtain⟨_,e⟩:=x;exact J7 e
 |xd fs=>obtain⟨_,⟨_,_,_,e,_⟩,_⟩:=x;exact J7 e
 |IQ lo hi=>obtain⟨_,_,_,e⟩:=x;exact J7 e
 |d5 ob u=>obtain⟨e,_⟩:=x;exact J7 e
 |Gr ps=>exact J7 (show h.get? a=some _ from x)
 |met f y=>exact J7 (show h.get? a=some _ from x)
 |ext φ=>obtain⟨_,⟨_,e⟩,_⟩:=x;exact J7 e
theorem Paired.Gu {α β:Type}{F G:α->β->Prop}:∀{l₁:List α}{l₂:List β},Paired F l₁ l₂->(∀a b,F a b->G a b)->Paired G l₁ l₂
 |_,_,.nil,_=>.nil
 |_,_,.cons r t,f=>.cons (f _ _ r) (Paired.Gu t f)
theorem bV.stay (x:bV P w H h a o) (k:∀b u,(b=a\/H b=some (.own a))->h.get? b=some u->h'.get? b=some u)
  (ho:∀b,H b=some (.own a)->H' b=some (.own a)) (ht:∀b xs,H b=some (.tup xs)->H' b=some (.tup xs)):bV P w H' h' a o:=by
 induction o with
 |lst xs=>obtain⟨z,its,n,r,e⟩:=x;exact⟨z,its,n,r,k _ _ (.inl rfl) e⟩
 |tup xs=>obtain⟨z,its,r,ob,e,c⟩:=x;exact⟨z,its,r,ob,k _ _ (.inl rfl) e,c⟩
 |dK kvs=>obtain⟨z,y,vs,r,ob,es,ep,e,c⟩:=x;exact⟨z,y,vs,r,ob,es,ep,k _ _ (.inl rfl) e,c⟩
 |dT kvs=>
  obtain⟨z,y,xs,r,ob,es,ep,e,c⟩:=x;exact⟨z,y,xs,Paired.Gu r λp q z=>⟨z.1,ht _ _ z.2.1,z.2.2⟩,ob,es,ep,k _ _ (.inl rfl) e,c⟩
 |set S n=>obtain⟨ob,es,ep,t,e,c⟩:=x;exact⟨ob,es,ep,t,k _ _ (.inl rfl) e,c⟩
 |ins C dx fs=>
  obtain⟨d,z,ne,e,mA,⟨od,es,ep,e2,c⟩,r⟩:=x;exact⟨ho _ d,z,ne,k _ _ (.inl rfl) e,mA,⟨od,es,ep,k _ _ (.inr d) e2,c⟩,r⟩
 |own y=>obtain⟨ob,e⟩:=x;exact⟨ob,k _ _ (.inl rfl) e⟩
 |xd fs=>obtain⟨mA,⟨od,es,ep,e,c⟩,r⟩:=x;exact⟨mA,⟨od,es,ep,k _ _ (.inl rfl) e,c⟩,r⟩
 |IQ lo hi=>obtain⟨t,u,v,e⟩:=x;exact⟨t,u,v,k _ _ (.inl rfl) e⟩
 |d5 ob u ih=>obtain⟨e,q⟩:=x;exact⟨k _ _ (.inl rfl) e,ih q⟩
 |Gr ps=>
  have e:h.get? a=some {cls:=.none,data:=.fields ps}:=x;show h'.get? a=some {cls:=.none,data:=.fields ps};exact k a _ (.inl rfl) e
 |met f y=>
  have e:h.get? a=some (PySem.W.methodObj (.ref f) (.ref y)):=x;show h'.get? a=some (PySem.W.methodObj (.ref f) (.ref y));exact k a _ (.inl rfl) e
 |ext φ=>obtain⟨p,⟨o,e⟩,st⟩:=x;exact⟨st _ _ p λo q=>k _ _ (.inl rfl) q,⟨o,k _ _ (.inl rfl) e⟩,st⟩
theorem ko.lt (x:ko P w H h) (e:H a=some o):a<h.objs.size:=(x a o e).lt
theorem ko.fresh (x:ko P w H h) (e:h.objs.size<=a):H a=none:=by
 cases q:H a with
 |none=>rfl
 |some u=>exact absurd (Kl (x.lt q) e) (Nat.lt_irrefl _)
theorem ko.kept (x:ko P w H h) (k:∀b u,h.get? b=some u->h'.get? b=some u):ko P w H h':=λa o e=>
 (x a o e).stay (λb u _ q=>k b u q) (λ_ q=>q) λ_ _ q=>q
theorem ko.laid (x:ko P w H h) (k:∀b u,h.get? b=some u->h'.get? b=some u) (hp:h.objs.size<=a) (new:bV P w (upd H a o) h' a o):ko P w (upd H a o) h':=λb u e=>by
 have hn:=x.fresh hp
 by_cases hb:b=a
 ·subst hb;rw[ab]at e;cases e;exact new
 ·rw[ak hb]at e;exact(x b u e).stay (λc v _ q=>k c v q) (λc q=>by rw[ak (ao q hn)];exact q) λc xs q=>by rw[ak (ao q hn)];exact q
end
noncomputable def Rd (H:Hp) (a:Addr) (u:HO):Prop:=H a=some u\/∃o,H a=some (.d5 o u)
theorem Rd.ok {P:Program}{w:World}{H:Hp}{h:Heap}{a:Addr}{u:HO}(r:Rd H a u) (x:ko P w H h):bV P w H h a u:=by
 rcases r with r|⟨o,r⟩
 ·exact x a u r
 ·obtain⟨_,q⟩:=x a _ r;exact q
noncomputable def EZ:Option HO->Prop
 |some (.lst _)=>True
 |some (.dK _)=>True
 |some (.dT _)=>True
 |some (.set _ _)=>True
 |some (.ins _ _ _)=>True
 |some (.ext _)=>True
 |_=>False
section
variable{P:Program}{w:World}{H:Hp}{h h':Heap}{x e:Addr}{o':HO}
theorem ko.write (ok:ko P w H h) (mu:EZ (H x)) (he:e=x\/H e=some (.own x)) (k:∀b u,b≠e->h.get? b=some u->h'.get? b=some u) (heo:∃u,h'.get? e=some u)
  (new:bV P w (upd H x o') h' x o'):ko P w (upd H x o') h':=λb u q=>by
 have nown:∀c y,H c=some (.own y)->c≠x:=λc y r z=>by subst z;rw[r]at mu;exact mu
 have ntup:∀c xs,H c=some (.tup xs)->c≠x:=λc xs r z=>by subst z;rw[r]at mu;exact mu
 by_cases hb:b=x
 ·subst hb;rw[ab]at q;cases q;exact new
 ·rw[ak hb]at q
  by_cases hbe:b=e
  ·have q':H b=some (.own x):=by
    rcases he with z|z
    ·exact absurd (hbe.trans z) hb
    ·rw[hbe];exact z
   rw[q]at q';cases q';obtain⟨v,hv⟩:=heo;exact⟨v,by rw[hbe];exact hv⟩
  ·refine(ok b u q).stay (λc v hc r=>k c v ?_ r) (λc r=>by rw[ak (nown c b r)];exact r) λc xs r=>by rw[ak (ntup c xs r)];exact r
   rcases hc with rfl|hc
   ·exact hbe
   ·rintro rfl;rcases he with z|z
    ·exact nown c b hc z
    ·rw[hc]at z;cases z;exact hb rfl
end
structure Un (fs ex:List Addr) (H H':Hp) (h h':Heap):Prop where
 keep:∀b o,h.get? b=some o->H b=none->b∉fs->b∉ex->h'.get? b=some o
 slot:∀b o,h.get? b=some o->H b=none->b∈fs->b∉ex->∃sl,h'.get? b=some {o with slots:=sl}
 free:∀b o,h.get? b=some o->H b=none->b∉ex->H' b=none
 there:∀b o,h.get? b=some o->b∉ex->∃o',h'.get? b=some o'
 wc:∀b xs,H b=some (.tup xs)->H' b=some (.tup xs)
 sE:∀b o u,H b=some (.d5 o u)->H' b=some (.d5 o u)
 we:∀b ps,H b=some (.Gr ps)->∃more,H' b=some (.Gr (ps++more))
section
variable{fs fs' ex ex':List Addr}{H H1 H2:Hp}{h h1 h2 h':Heap}{a x e:Addr}{o:HO}
theorem Un.any (u:Un fs ex H H1 h h1){b:Addr}{ob:Obj}(q:h.get? b=some ob) (n:H b=none) (hx:b∉ex):∃sl,h1.get? b=some {ob with slots:=sl}:=by
 by_cases hb:b∈fs
 ·exact u.slot b ob q n hb hx
 ·exact⟨ob.slots,u.keep b ob q n hb hx⟩
theorem Un.kept (k:∀b u,h.get? b=some u->h'.get? b=some u):Un fs ex H H h h':=
 ⟨λb ob q _ _ _=>k b ob q,λb ob q _ _ _=>⟨ob.slots,k b ob q⟩,λ_ _ _ n _=>n,λb ob q _=>⟨ob,k b ob q⟩,λ_ _ q=>q,λ_ _ _ q=>q,λ_ ps q=>⟨#[],by rw[q];simp⟩⟩
theorem Un.refl:Un fs ex H H h h:=Un.kept λ_ _ q=>q
theorem Un.laid (k:∀b u,h.get? b=some u->h'.get? b=some u) (hp:h.objs.size<=a) (hn:H a=none):Un fs ex H (upd H a o) h h' where
 keep:=λb u q _ _ _=>k b u q
 slot:=λb u q _ _ _=>⟨u.slots,k b u q⟩
 free:=λb u q n _=>by rw[ak (Kg (Kl (J7 q) hp))];exact n
 there:=λb u q _=>⟨u,k b u q⟩
 wc:=λb xs q=>by rw[ak (ao q hn)];exact q
 sE:=λb u xs q=>by rw[ak (ao q hn)];exact q
 we:=λb ps q=>⟨#[],by rw[ak (ao q hn),q];simp⟩
theorem Un.write (mu:EZ (H x)) (he:e=x\/H e=some (.own x)) (k:∀b u,b≠e->h.get? b=some u->h'.get? b=some u) (heo:∃u,h'.get? e=some u):Un fs ex H (upd H x o) h h':=by
 have hx:∀b,H b=none->b≠x:=λb n z=>by subst z;rw[n]at mu;exact mu
 have hb:∀b,H b=none->b≠e:=λb n z=>by
  subst z;rcases he with r|r
  ·exact hx b n r
  ·rw[n]at r;cases r
 have hm:∀b u,H b=some u->¬EZ (some u)->b≠x:=λb u q nm z=>by subst z;rw[q]at mu;exact nm mu
 refine⟨λb u q n _ _=>k b u (hb b n) q,λb u q n _ _=>⟨u.slots,k b u (hb b n) q⟩,λb u q n _=>by rw[ak (hx b n)];exact n,λb u q _=>?_,
  λb xs q=>by rw[ak (hm b _ q λz=>z)];exact q,λb u xs q=>by rw[ak (hm b _ q λz=>z)];exact q,λb ps q=>⟨#[],by rw[ak (hm b _ q λz=>z),q];simp⟩⟩
 by_cases hbe:b=e
 ·subst hbe;exact heo
 ·exact⟨u,k b u hbe q⟩
end
noncomputable def IH (h:Heap) (H:Hp):List Addr:=(List.range h.objs.size).filter λa=>(H a).isSome
noncomputable def wg (h:Heap) (H:Hp):Heap:=PySem.W.hideAll h (IH h H)
theorem BA (h:Heap) (H:Hp):(wg h H).objs.size=h.objs.size:=PySem.W.hideAll_size _ _
theorem CT {h:Heap}{H:Hp}{b:Addr}{o:Obj}(e:h.get? b=some o) (n:H b=none):(wg h H).get? b=some o:=
 PySem.W.hideAll_get _ e λhm=>by
  have q:(H b).isSome=true:=(List.mem_filter.mp hm).2;rw[n]at q;simp at q
theorem E1 {h:Heap}{H:Hp}{b:Addr}{o:Obj}(e:(wg h H).get? b=some o):h.get? b=some o/\H b=none:=by
 have e':h.get? b=some o:=PySem.W.of_hideAll (IH h H) e;refine⟨e',?_⟩;cases q:H b with
 |none=>rfl
 |some x=>
  have hm:b∈IH h H:=List.mem_filter.mpr ⟨List.mem_range.mpr (J7 e'),by simp[q]⟩;have z:(wg h H).get? b=none:=PySem.W.hideAll_none (IH h H) hm;rw[z]at e;cases e
structure Mod (K:PySem.W.Frag) (mg:Str->Option Value) (base:Heap):Prop where
 HK:K.In base
 glob:base.Ns mainGlobals mg
 blt:∃mb,base.Ns builtinsNs mb/\∀x:Str,x≠"__name__"->mb x=bootBuiltins x
 nolimit:base.NoLimit
structure Cx where
 prog:Program
 w:World
 K:PySem.W.Frag
 mg:Str->Option Value
 base:Heap
 A:Around
 N:List Str
 vf:Shared
 Gv:Hp
 env:Env
 outer:List Env
 stack:List Env
 ex:List Addr
 fn:Str->Bool
 calm:Bool
 pn:List (Addr×Obj)
 xe:Value->Shared->Prop
noncomputable def CU (l:List Env):List Addr:=l.filterMap (·.frame)
noncomputable abbrev Cx.fs (X:Cx):List Addr:=CU X.outer
noncomputable def HL (sc:Scope) (x:Str):Prop:=sc.names.lookup x=some .local\/sc.names.lookup x=some .cell\/sc.names.lookup x=some .free
noncomputable def Loc (sc:Scope) (x:Str):Prop:=sc.names.lookup x=some .local\/sc.names.lookup x=some .cell
noncomputable def Look (env:Env) (h:Heap) (m:Str->Option Value) (x:Str) (u:Value):Prop:=
 (env.kindOf x=some .local/\m x=some u)\/((env.kindOf x=some .cell\/env.kindOf x=some .free)/\∃c,env.cells.lookup x=some c/\h.IsCell c (some u))
structure Cx.Ok (X:Cx):Prop where
 mod:Mod X.K X.mg X.base
 kind:X.env.scope.kind=.function
 glob:X.env.globals=mainGlobals
 blt:X.env.builtins=builtinsNs
 above:X.vf.heap.objs.size<=X.env.locals
 inj:∀x y c,X.env.cells.lookup x=some c->X.env.cells.lookup y=some c->x=y
 has:∀x,(X.env.kindOf x=some .cell\/X.env.kindOf x=some .free)->∃c,X.env.cells.lookup x=some c
 HM:∀x c,X.fn x=true->X.env.cells.lookup x=some c->X.vf.heap.objs.size<=c
 hd:X.calm=true->X.A.handled=none
 frames:X.A.frames=some X.stack
 II:X.stack=X.outer\/(X.stack=X.env::X.outer/\X.env.frame=some X.env.locals)
 IJ:∀b∈X.ex,b≠X.env.locals/\∀x c,X.env.cells.lookup x=some c->c≠b
 bs:∀b o,X.base.get? b=some o->X.vf.heap.get? b=some o/\X.Gv b=none
 EH:X.base.objs.size<=X.vf.heap.objs.size
 CV:∀b o,X.base.get? b=some o->b∉X.ex
 CW:∀b∈X.ex,b∉X.fs
 rC:X.vf.heap.FunFrames X.base X.outer
 Gw:∀b∈X.fs,X.Gv b=none
structure Inv (X:Cx) (pins:List (Addr×Obj)) (σ:List (Option V)) (H:Hp) (s:Shared):Prop where
 ok:X.Ok
 os:s.os=X.vf.os
 bare:AllBare s.gens
 base:Un X.fs X.ex X.Gv H X.vf.heap s.heap
 loc:∃m,s.heap.Ns X.env.locals m/\∀(i:Nat) (x:Str) (v:V),X.N[i]? =some x->σ[i]? =some (some v)->HL X.env.scope x->∃u,RelV v u/\Look X.env s.heap m x u
 cell:∀x c,X.env.cells.lookup x=some c->∃v,s.heap.IsCell c v
 free:H X.env.locals=none
 g7:∀x c,X.env.cells.lookup x=some c->H c=none
 pin:∀p∈X.pn++pins,s.heap.get? p.1=some p.2/\H p.1=none/\p.1≠X.env.locals/\p.1∉X.fs/\∀v,p.2.data≠.cell v
 bq:ko X.prog X.w H s.heap
 len:σ.length=X.N.length
section
variable{X:Cx}{pins:List (Addr×Obj)}{σ:List (Option V)}{H H':Hp}{s:Shared}{h':Heap}
theorem Cx.Ok.IS (ok:X.Ok){b:Addr}{o:Obj}(e:X.base.get? b=some o):b∉X.fs:=λhb=>by
 have:=(ok.rC.mem hb).1;rw[e]at this;cases this
theorem Inv.bs (I:Inv X pins σ H s):∀b o,X.base.get? b=some o->s.heap.get? b=some o/\H b=none:=λb o e=>
 ⟨I.base.keep b o (I.ok.bs b o e).1 (I.ok.bs b o e).2 (I.ok.IS e) (I.ok.CV b o e),I.base.free b o (I.ok.bs b o e).1 (I.ok.bs b o e).2 (I.ok.CV b o e)⟩
theorem Inv.bk (I:Inv X pins σ H s):∀b o,X.base.get? b=some o->s.heap.get? b=some o:=λb o e=>(I.bs b o e).1
theorem Inv.mod (I:Inv X pins σ H s):Mod X.K X.mg X.base:=I.ok.mod
theorem Inv.qE (I:Inv X pins σ H s):X.K.In s.heap:=I.ok.mod.HK.keeps I.bk
theorem Inv.fr (I:Inv X pins σ H s):∃m,Fr X.base X.env.locals s.heap m:=
 let ⟨m,hn,_⟩:=I.loc
 ⟨m,hn,I.bk,Kj I.ok.EH I.ok.above⟩
theorem Inv.lt (I:Inv X pins σ H s):X.env.locals<s.heap.objs.size:=let ⟨_,hn,_⟩:=I.loc;hn.lt
theorem Inv.sz (I:Inv X pins σ H s):X.vf.heap.objs.size<=s.heap.objs.size:=Kj I.ok.above (Nat.le_of_lt I.lt)
theorem Inv.IT (I:Inv X pins σ H s){a:Addr}(h:s.heap.objs.size<=a):a∉X.fs:=λhb=>by
 obtain⟨_,o,ho,_⟩:=I.ok.rC.mem hb;exact absurd (Kl (J7 ho) (Kj I.sz h)) (Nat.lt_irrefl _)
theorem Inv.Gx (I:Inv X pins σ H s):∀x c,X.env.cells.lookup x=some c->c≠X.env.locals:=λx c e z=>by
 obtain⟨v,o,ho,hd⟩:=I.cell x c e;obtain⟨m,⟨o',es,ep,ho',hd',_⟩,_⟩:=I.loc;rw[z,ho']at ho;cases ho;rw[hd']at hd;cases hd
theorem Inv.rC (I:Inv X pins σ H s):s.heap.FunFrames X.base X.outer:=by
 have all:∀(l:List Env),(∀b∈CU l,b∈X.fs)->X.vf.heap.FunFrames X.base l->s.heap.FunFrames X.base l:=by
  intro l
  induction l with
  |nil=>intro _ _;trivial
  |cons env r ih=>
   intro hs hl;obtain⟨hk,⟨L,o,hf,hn,ho,hd⟩,hr⟩:=hl;have hL:L∈X.fs:=hs L (by unfold CU;rw[List.filterMap_cons,hf];exact JZ);obtain⟨sl,e⟩:=I.base.slot L o ho (I.ok.Gw L hL) hL λz=>I.ok.CW L z hL;exact⟨hk,⟨L,_,hf,hn,e,hd⟩,ih (λb hb=>hs b (by unfold CU;rw[List.filterMap_cons,hf];exact JW _ hb)) hr⟩
 exact all X.outer (λ_ hb=>hb) I.ok.rC
theorem Inv.stack (I:Inv X pins σ H s):s.heap.FunFrames X.base X.stack:=by
 rcases I.ok.II with e|⟨e,hf⟩
 ·rw[e];exact I.rC
 ·rw[e];obtain⟨m,hn,_⟩:=I.loc;refine .cons (by rw[I.ok.kind];decide) hf hn ?_ I.rC;exact Heap.get?_none_of_le (Kj I.ok.EH I.ok.above)
theorem Inv.zw (I:Inv X pins σ H s):∀b∈CU X.stack,b∈X.env.locals::X.fs:=λb hb=>by
 rcases I.ok.II with e|⟨e,hf⟩
 ·rw[e]at hb;exact JW _ hb
 ·rw[e]at hb;unfold CU at hb;rw[List.filterMap_cons,hf]at hb;exact hb
theorem Inv.AI (I:Inv X pins σ H s):∀b∈CU X.stack,H b=none:=λb hb=>by
 rcases JX.mp (I.zw b hb)with e|hb
 ·rw[e];exact I.free
 ·obtain⟨_,o,ho,_⟩:=I.ok.rC.mem hb;exact I.base.free b o ho (I.ok.Gw b hb) λz=>I.ok.CW b z hb
theorem Inv.step {g':Array GenState}{t':Nat}{d':Drawn}{ch:List Addr}(I:Inv X pins σ H s)
  (hch:∀b∈ch,(b∈X.ex\/X.vf.heap.objs.size<=b)/\b≠X.env.locals/\(∀x c,X.env.cells.lookup x=some c->c≠b)/\∀p∈X.pn++pins,p.1≠b)
  (keep:∀b o,b≠X.env.locals->b∉X.fs->b∉ch->s.heap.get? b=some o->H b=none->h'.get? b=some o)
  (slot:∀b o,b≠X.env.locals->b∈X.fs->b∉ch->s.heap.get? b=some o->H b=none->∃sl,h'.get? b=some {o with slots:=sl}) (free:∀b o,b∉ch->s.heap.get? b=some o->H b=none->H' b=none)
  (there:∀b o,b∉ch->s.heap.get? b=some o->∃o',h'.get? b=some o')
  (wc:∀b xs,H b=some (.tup xs)->H' b=some (.tup xs)) (sE:∀b o u,H b=some (.d5 o u)->H' b=some (.d5 o u)) (we:∀b ps,H b=some (.Gr ps)->∃more,H' b=some (.Gr (ps++more)))
  (ns:∀m,s.heap.Ns X.env.locals m->h'.Ns X.env.locals m) (bq:ko X.prog X.w H' h') (hg:AllBare g'):
  Inv X pins σ H' {s with heap:=h',gens:=g',drawn:=d',toks:=t'}:=by
 have neL:∀b o,X.vf.heap.get? b=some o->b≠X.env.locals:=λb o e=>Kg (Kl (J7 e) I.ok.above);have neC:∀b o,X.vf.heap.get? b=some o->b∉X.ex->b∉ch:=λb o e hx hb=>by
  rcases(hch b hb).1 with z|z
  ·exact hx z
  ·exact absurd (Kl (J7 e) z) (Nat.lt_irrefl _)
 have cellK:∀x c,X.env.cells.lookup x=some c->∀v,s.heap.IsCell c v->h'.IsCell c v:=λx c e v ⟨o,ho,hd⟩=>by
  have nch:c∉ch:=λz=>(hch c z).2.2.1 x c e rfl
  by_cases hc:c∈X.fs
  ·obtain⟨sl,q⟩:=slot c o (I.Gx x c e) hc nch ho (I.g7 x c e);exact⟨_,q,hd⟩
  ·exact⟨o,keep c o (I.Gx x c e) hc nch ho (I.g7 x c e),hd⟩
 refine⟨I.ok,I.os,hg,⟨λb o e n hb hx=>?_,λb o e n hb hx=>?_,λb o e n hx=>?_,λb o e hx=>?_,λb xs e=>wc b xs (I.base.wc b xs e),λb o xs e=>sE b o xs (I.base.sE b o xs e),λb ps e=>?_⟩,?_,λx c e=>?_,?_,λx c e=>?_,λp hp=>?_,bq,I.len⟩
 ·exact keep b o (neL b o e) hb (neC b o e hx) (I.base.keep b o e n hb hx) (I.base.free b o e n hx)
 ·obtain⟨sl,e1⟩:=I.base.slot b o e n hb hx;obtain⟨sl',e2⟩:=slot b _ (neL b o e) hb (neC b o e hx) e1 (I.base.free b o e n hx);exact⟨sl',e2⟩
 ·obtain⟨o',e1⟩:=I.base.there b o e hx;exact free b o' (neC b o e hx) e1 (I.base.free b o e n hx)
 ·obtain⟨o',e1⟩:=I.base.there b o e hx;exact there b o' (neC b o e hx) e1
 ·obtain⟨m1,e1⟩:=I.base.we b ps e;obtain⟨m2,e2⟩:=we b _ e1;exact⟨m1++m2,by rw[e2,Array.append_assoc]⟩
 ·obtain⟨m,hn,hl⟩:=I.loc;refine⟨m,ns m hn,λi x v e1 e2 e3=>?_⟩;obtain⟨u,r,l⟩:=hl i x v e1 e2 e3;refine⟨u,r,?_⟩;rcases l with l|⟨k,c,e,z⟩
  ·exact .inl l
  ·exact .inr ⟨k,c,e,cellK x c e _ z⟩
 ·obtain⟨v,z⟩:=I.cell x c e;exact⟨v,cellK x c e v z⟩
 ·obtain⟨m,⟨o,_,_,ho,_⟩,_⟩:=I.loc;exact free _ o (λz=>(hch _ z).2.1 rfl) ho I.free
 ·obtain⟨v,o,ho,hd⟩:=I.cell x c e;exact free c o (λz=>(hch c z).2.2.1 x c e rfl) ho (I.g7 x c e)
 ·obtain⟨e,n,ne,nf,d⟩:=I.pin p hp;have nch:p.1∉ch:=λz=>(hch p.1 z).2.2.2 p hp rfl;exact⟨keep p.1 p.2 ne nf nch e n,free p.1 p.2 nch e n,ne,nf,d⟩
theorem Inv.un {t':Nat}(I:Inv X pins σ H s) (u:Un X.fs [] H H' s.heap h') (bq:ko X.prog X.w H' h'):Inv X pins σ H' {s with heap:=h',toks:=t'}:=by
 obtain⟨m,⟨o,es,ep,ho,r⟩,_⟩:=id I.loc;obtain⟨sl,hL⟩:=u.any ho I.free (by simp);exact I.step (g':=s.gens) (d':=s.drawn) (ch:=[]) (λ_ z=>nomatch z) (λb o _ hb _ e n=>u.keep b o e n hb (by simp)) (λb o _ hb _ e n=>u.slot b o e n hb (by simp)) (λb o _ e n=>u.free b o e n (by simp)) (λb o _ e=>u.there b o e (by simp)) u.wc u.sE u.we (λm' hm=>by
  obtain⟨o',es',ep',ho',r'⟩:=hm;rw[ho]at ho';cases ho';exact⟨_,es',ep',hL,r'⟩) bq I.bare
theorem Inv.call {g':Array GenState}{t':Nat}{d':Drawn}{ch:List Addr}(I:Inv X pins σ H s) (u:Un (CU X.stack) ch H H' s.heap h') (bq:ko X.prog X.w H' h') (hg:AllBare g')
  (hch:∀b∈ch,(b∈X.ex\/X.vf.heap.objs.size<=b)/\b≠X.env.locals/\(∀x c,X.env.cells.lookup x=some c->c≠b)/\∀p∈X.pn++pins,p.1≠b):
  Inv X pins σ H' {s with heap:=h',gens:=g',drawn:=d',toks:=t'}:=by
 obtain⟨m,⟨o,es,ep,ho,r⟩,_⟩:=id I.loc;obtain⟨sl,hL⟩:=u.any ho I.free λz=>(hch _ z).2.1 rfl;exact I.step (ch:=ch) hch (λb o hL hb hc e n=>u.keep b o e n (λz=>(JX.mp (I.zw b z)).elim hL hb) hc) (λb o _ _ hc e n=>u.any e n hc) (λb o hc e n=>u.free b o e n hc) (λb o hc e=>u.there b o e hc) u.wc u.sE u.we (λm' hm=>by
  obtain⟨o',es',ep',ho',r'⟩:=hm;rw[ho]at ho';cases ho';exact⟨_,es',ep',hL,r'⟩) bq hg
theorem Inv.turned {t':Nat}{it:Addr}(I:Inv X pins σ H s) (k:∀b o,b≠it->s.heap.get? b=some o->h'.get? b=some o) (hn:H it=none) (hL:it≠X.env.locals)
  (h1:it∈X.ex\/X.vf.heap.objs.size<=it) (h2:∀x c,X.env.cells.lookup x=some c->c≠it) (h3:∀p∈X.pn++pins,p.1≠it):Inv X pins σ H {s with heap:=h',toks:=t'}:=by
 have nit:∀b u,H b=some u->b≠it:=λb u e z=>by rw[z,hn]at e;cases e
 refine I.step (g':=s.gens) (d':=s.drawn) (ch:=[it]) (λb hb=>?_) (λb o _ _ hc e _=>k b o (λz=>hc (by simp[z])) e) (λb o _ _ hc e _=>⟨o.slots,k b o (λz=>hc (by simp[z])) e⟩) (λ_ _ _ _ n=>n)
  (λb o hc e=>⟨o,k b o (λz=>hc (by simp[z])) e⟩) (λ_ _ e=>e) (λ_ _ _ e=>e) (λb ps e=>⟨#[],by rw[e];simp⟩) (λm hm=>?_) (λb u e=>?_) I.bare
 ·have e:b=it:=by simpa using hb
  subst e;exact⟨h1,hL,h2,h3⟩
 ·obtain⟨o,es,ep,ho,r⟩:=hm;exact⟨o,es,ep,k _ o (Ne.symm hL) ho,r⟩
 ·refine(I.bq b u e).stay (λc v hc q=>k c v ?_ q) (λ_ q=>q) λ_ _ q=>q;rcases hc with z|z
  ·rw[z];exact nit b u e
  ·exact nit c _ z
theorem Inv.tok (I:Inv X pins σ H s) (t:Nat):Inv X pins σ H {s with toks:=t}:=I.un (h':=s.heap) (t':=t) Un.refl I.bq
theorem Inv.kept {t':Nat}(I:Inv X pins σ H s) (k:∀b u,s.heap.get? b=some u->h'.get? b=some u):Inv X pins σ H {s with heap:=h',toks:=t'}:=I.un (Un.kept k) (I.bq.kept k)
theorem Inv.laid {a:Addr}{o:HO}{t':Nat}(I:Inv X pins σ H s) (k:∀b u,s.heap.get? b=some u->h'.get? b=some u) (hp:s.heap.objs.size<=a) (new:bV X.prog X.w (upd H a o) h' a o):
  Inv X pins σ (upd H a o) {s with heap:=h',toks:=t'}:=I.un (Un.laid k hp (I.bq.fresh hp)) (I.bq.laid k hp new)
theorem Inv.write {x e:Addr}{o:HO}{t':Nat}(I:Inv X pins σ H s) (mu:EZ (H x)) (he:e=x\/H e=some (.own x)) (k:∀b u,b≠e->s.heap.get? b=some u->h'.get? b=some u) (heo:∃u,h'.get? e=some u)
  (new:bV X.prog X.w (upd H x o) h' x o):Inv X pins σ (upd H x o) {s with heap:=h',toks:=t'}:=I.un (Un.write mu he k heo) (I.bq.write mu he k heo new)
theorem Inv.weak {σ':List (Option V)}(I:Inv X pins σ H s) (hl:σ'.length=σ.length) (w:∀(i:Nat) v,σ'[i]? =some (some v)->σ[i]? =some (some v)):Inv X pins σ' H s:=
 ⟨I.ok,I.os,I.bare,I.base,let ⟨m,hn,hl'⟩:=I.loc;⟨m,hn,λi x v e1 e2 e3=>hl' i x v e1 (w i v e2) e3⟩,I.cell,I.free,I.g7,I.pin,I.bq,hl.trans I.len⟩
theorem Inv.AJ {pins':List (Addr×Obj)}(I:Inv X pins σ H s) (h:∀p∈pins',s.heap.get? p.1=some p.2/\H p.1=none/\p.1≠X.env.locals/\p.1∉X.fs/\∀v,p.2.data≠.cell v):Inv X pins' σ H s:=
 ⟨I.ok,I.os,I.bare,I.base,I.loc,I.cell,I.free,I.g7,λp hp=>(Ky.mp hp).elim (λz=>I.pin p (List.mem_append_left _ z)) (h p),I.bq,I.len⟩
theorem sF {N:List Str}(hN:N.Nodup){i j:Nat}{x:Str}(a:N[i]? =some x) (b:N[j]? =some x):i=j:=by
 obtain⟨h1,e1⟩:=J2.mp a;obtain⟨h2,e2⟩:=J2.mp b;exact(List.getElem_inj hN).mp (e1.trans e2.symm)
theorem vg {M:Model}{A:Around}{E:Value->Shared->Prop}{i:Nat}{x:Str}{v:V}{u:Value}{Q:Unit->Shared->Prop}(I:Inv X pins σ H s) (hN:X.N.Nodup) (hi:X.N[i]? =some x) (hx:Loc X.env.scope x) (r:RelV v u)
  (h:∀s',Inv X pins (σ.set i (some v)) H s'->(∃a,Heap.SameBut a s.heap s'.heap/\(a=X.env.locals\/X.env.cells.lookup x=some a))->Q () s') (hf:X.fn x=true\/X.env.scope.names.lookup x=some .local:=by first|exact .inl rfl|exact .inr rfl|assumption):wpAny M A (storeName X.env x u) Q E s:=by
 obtain⟨m,hn,hl⟩:=id I.loc;have hcls:(X.env.scope.kind== .class||(X.env.scope.kind== .module&&X.env.locals != X.env.globals))=false:=by rw[I.ok.kind];rfl
 have hiσ:i<σ.length:=by rw[I.len];exact(J2.mp hi).1
 have Gx:=I.Gx;have tracked:∀{a:Addr}{h':Heap},(∃o,s.heap.get? a=some o/\H a=none)->Heap.SameBut a s.heap h'->ko X.prog X.w H h':=λ{a h'} ha hs b ob e=>by
  obtain⟨_,_,hfree⟩:=ha;refine(I.bq b ob e).stay (λc w' hc q=>(hs.2 c ?_).trans q) (λ_ q=>q) λ_ _ q=>q;rintro rfl;rcases hc with rfl|hc
  ·rw[hfree]at e;cases e
  ·rw[hfree]at hc;cases hc
 rcases hx with hk|hk
 ·refine wpAny_storeName_local hk hn (λh' hn' hs=>?_) hcls;obtain⟨oL,_,_,hoL,_⟩:=id hn;refine h _ ⟨I.ok,I.os,I.bare,⟨λb o e n hb hx=>?_,λb o e n hb hx=>?_,I.base.free,λb o e hx=>?_,I.base.wc,I.base.sE,I.base.we⟩,⟨_,hn',λj y v' e1 e2 e3=>?_⟩,λy c e=>?_,I.free,I.g7,λp hp=>?_,tracked ⟨oL,hoL,I.free⟩ hs,by simpa using I.len⟩ ⟨_,hs,.inl rfl⟩
  ·exact(hs.2 b (Kg (Kl (J7 e) I.ok.above))).trans (I.base.keep b o e n hb hx)
  ·obtain⟨sl,e1⟩:=I.base.slot b o e n hb hx;exact⟨sl,(hs.2 b (Kg (Kl (J7 e) I.ok.above))).trans e1⟩
  ·obtain⟨o',e1⟩:=I.base.there b o e hx;exact⟨o',(hs.2 b (Kg (Kl (J7 e) I.ok.above))).trans e1⟩
  ·by_cases hj:j=i
   ·subst hj;rw[hi]at e1;cases e1;rw[List.getElem?_set_self hiσ]at e2;cases e2;exact⟨u,r,.inl ⟨hk,by simp⟩⟩
   ·rw[List.getElem?_set_ne (Ne.symm hj)]at e2;obtain⟨u',r',q⟩:=hl j y v' e1 e2 e3;refine⟨u',r',?_⟩;rcases q with⟨k,e⟩|⟨k,c,e,z⟩
    ·refine .inl ⟨k,?_⟩;have:y≠x:=λe=>hj (sF hN e1 (e▸hi));simp[this,e]
    ·exact .inr ⟨k,c,e,z.sameBut hs (Gx y c e)⟩
  ·obtain⟨w',z⟩:=I.cell y c e;exact⟨w',z.sameBut hs (Gx y c e)⟩
  ·obtain⟨e,n,ne,nf,d⟩:=I.pin p hp;exact⟨(hs.2 p.1 ne).trans e,n,ne,nf,d⟩
 ·have hfn:X.fn x=true:=by
   rcases hf with z|z
   ·exact z
   ·rw[z]at hk;cases hk
  obtain⟨c,hc⟩:=I.ok.has x (.inl hk);obtain⟨w',z⟩:=I.cell x c hc;refine wpAny_storeName_cell I.ok.kind hk hc z (λh' hc' hs=>?_);obtain⟨oc,hoc,hocd⟩:=id z;refine h {s with heap:=h'} ⟨I.ok,I.os,I.bare,⟨λb o e n hb hx=>?_,λb o e n hb hx=>?_,I.base.free,λb o e hx=>?_,I.base.wc,I.base.sE,I.base.we⟩,⟨m,hn.sameBut hs (Ne.symm (Gx x c hc)),λj y v' e1 e2 e3=>?_⟩,λy c' e=>?_,I.free,I.g7,λp hp=>?_,tracked ⟨oc,hoc,I.g7 x c hc⟩ hs,by simpa using I.len⟩ ⟨c,hs,.inr hc⟩
  ·exact(hs.2 b (Kg (Kl (J7 e) (I.ok.HM x c hfn hc)))).trans (I.base.keep b o e n hb hx)
  ·obtain⟨sl,e1⟩:=I.base.slot b o e n hb hx;exact⟨sl,(hs.2 b (Kg (Kl (J7 e) (I.ok.HM x c hfn hc)))).trans e1⟩
  ·obtain⟨o',e1⟩:=I.base.there b o e hx;exact⟨o',(hs.2 b (Kg (Kl (J7 e) (I.ok.HM x c hfn hc)))).trans e1⟩
  ·by_cases hj:j=i
   ·subst hj;rw[hi]at e1;cases e1;rw[List.getElem?_set_self hiσ]at e2;cases e2;exact⟨u,r,.inr ⟨.inl hk,c,hc,hc'⟩⟩
   ·rw[List.getElem?_set_ne (Ne.symm hj)]at e2;obtain⟨u',r',q⟩:=hl j y v' e1 e2 e3;refine⟨u',r',?_⟩;rcases q with q|⟨k,c',e,z'⟩
    ·exact .inl q
    ·refine .inr ⟨k,c',e,z'.sameBut hs ?_⟩;rintro rfl;exact hj (sF hN e1 (I.ok.inj _ _ _ e hc▸hi))
  ·by_cases hcc:c'=c
   ·subst hcc;exact⟨_,hc'⟩
   ·obtain⟨w2,z2⟩:=I.cell y c' e;exact⟨w2,z2.sameBut hs hcc⟩
  ·obtain⟨e,n,ne,nf,d⟩:=I.pin p hp;refine⟨(hs.2 p.1 ?_).trans e,n,ne,nf,d⟩;intro q;rw[q,hoc]at e;have q':oc=p.2:=JU e;exact d w' (by rw[←q'];exact hocd)
theorem xP {M:Model}{A:Around}{E:Value->Shared->Prop}{i:Nat}{x:Str}{v:V}{u:Value}{Q:Unit->Shared->Prop}(I:Inv X pins σ H s) (hN:X.N.Nodup) (hi:X.N[i]? =some x) (hx:Loc X.env.scope x) (r:RelV v u)
  (h:∀s',Inv X pins (σ.set i (some v)) H s'->Q () s') (hf:X.fn x=true\/X.env.scope.names.lookup x=some .local:=by first|exact .inl rfl|exact .inr rfl|assumption):wpAny M A (storeName X.env x u) Q E s:=
 vg I hN hi hx r (λs' I' _=>h s' I') hf
theorem Inv.HN {s':Shared}{ch:List Addr}(I:Inv X pins σ H s) (ho:s'.os=s.os) (u:Un (CU X.stack) ch H H' s.heap s'.heap) (bq:ko X.prog X.w H' s'.heap) (hg:AllBare s'.gens)
  (hch:∀b∈ch,(b∈X.ex\/X.vf.heap.objs.size<=b)/\b≠X.env.locals/\(∀x c,X.env.cells.lookup x=some c->c≠b)/\∀p∈X.pn++pins,p.1≠b):Inv X pins σ H' s':=by
 obtain⟨h',g',d',t',o'⟩:=s';have e:o'=s.os:=ho;subst e;exact I.call (g':=g') (t':=t') (d':=d') u bq hg hch
end
noncomputable abbrev XK:=Value->Option Addr->Hp->Prop
noncomputable abbrev St:=List (Option V)
noncomputable abbrev VK:=V->Hp->Prop
noncomputable abbrev TE:=St->Hp->VK->Prop
noncomputable abbrev TT:=St->Hp->(Bool->Hp->Prop)->Prop
noncomputable abbrev TA:=St->Hp->(List V->Hp->Prop)->Prop
structure Ends where
 nx:St->Hp->Prop
 rt:VK
 bk:St->Hp->Prop:=λ_ _=>False
 ct:St->Hp->Prop:=λ_ _=>False
noncomputable abbrev TS:=Ends->St->Hp->Prop
noncomputable def EP (X:Cx) (pins:List (Addr×Obj)) (σ:St) (Q:VK) (u:Value) (s':Shared):Prop:=∃v H',Inv X pins σ H' s'/\RelV v u/\Q v H'
noncomputable def TP (X:Cx) (pins:List (Addr×Obj)) (σ:St) (Q:Bool->Hp->Prop) (b:Bool) (s':Shared):Prop:=∃H',Inv X pins σ H' s'/\Q b H'
noncomputable def AP (X:Cx) (pins:List (Addr×Obj)) (σ:St) (Q:List V->Hp->Prop) (us:List Value) (s':Shared):Prop:=∃vs H',Inv X pins σ H' s'/\Vals vs us/\Q vs H'
noncomputable def SP (X:Cx) (pins:List (Addr×Obj)) (D:Ends) (f:Flow) (s':Shared):Prop:=
 match f with
 |.next=>∃σ' H',Inv X pins σ' H' s'/\D.nx σ' H'
 |.brk=>∃σ' H',Inv X pins σ' H' s'/\D.bk σ' H'
 |.cont=>∃σ' H',Inv X pins σ' H' s'/\D.ct σ' H'
 |.ret u=>∃v σ' H',Inv X pins σ' H' s'/\RelV v u/\D.rt v H'
noncomputable def PE (X:Cx) (e:Expr) (t:TE):Prop:=
 ∀(pins:List (Addr×Obj)) (s:Shared) (σ:St) (H:Hp) (Q:VK),Inv X pins σ H s->t σ H Q->wpAny (model X.prog X.w) X.A (eval e X.env) (EP X pins σ Q) X.xe s
noncomputable def PT (X:Cx) (e:Expr) (t:TT):Prop:=
 ∀(pins:List (Addr×Obj)) (s:Shared) (σ:St) (H:Hp) (Q:Bool->Hp->Prop),Inv X pins σ H s->t σ H Q->wpAny (model X.prog X.w) X.A (isTrue e X.env (eval e X.env)) (TP X pins σ Q) X.xe s
noncomputable def PW (X:Cx) (e:Expr) (t:TT):Prop:=
 ∀(whole:Sem Value) (pins:List (Addr×Obj)) (s:Shared) (σ:St) (H:Hp) (Q:Bool->Hp->Prop),Inv X pins σ H s->t σ H Q->wpAny (model X.prog X.w) X.A (isTrue e X.env whole) (TP X pins σ Q) X.xe s
theorem PW.pt {X:Cx}{e:Expr}{t:TT}(h:PW X e t):PT X e t:=h _
noncomputable def PA (X:Cx) (es:List Expr) (t:TA):Prop:=
 ∀(pos:Pos) (pins:List (Addr×Obj)) (s:Shared) (σ:St) (H:Hp) (Q:List V->Hp->Prop),Inv X pins σ H s->t σ H Q->wpAny (model X.prog X.w) X.A (spliced (backTo pos (starEach es X.env))) (AP X pins σ Q) X.xe s
noncomputable def PS (X:Cx) (st:Stmt) (t:TS):Prop:=
 ∀(pins:List (Addr×Obj)) (s:Shared) (σ:St) (H:Hp) (D:Ends),Inv X pins σ H s->t D σ H->wpAny (model X.prog X.w) X.A (exec st X.env) (SP X pins D) X.xe s
noncomputable def zj (X:Cx) (st:List Stmt) (t:TS):Prop:=
 ∀(pins:List (Addr×Obj)) (s:Shared) (σ:St) (H:Hp) (D:Ends),Inv X pins σ H s->t D σ H->wpAny (model X.prog X.w) X.A (execs st X.env) (SP X pins D) X.xe s
theorem b8 {α:Type}{t:Sem α}{Q Q':α->Shared->Prop}{M:Model}{A:Around}{E:Value->Shared->Prop}{s:Shared}(h:wpAny M A t Q E s) (hQ:∀a s,Q a s->Q' a s):wpAny M A t Q' E s:=wpAny_mono h hQ λ_ _ x=>x
section
variable{X:Cx}
theorem bin {a b:Expr}{ta tb:TE}(ha:PE X a ta) (hb:PE X b tb){pins:List (Addr×Obj)}{s:Shared}{σ:St}{H:Hp}{R:V->V->Hp->Prop}(I:Inv X pins σ H s) (h:ta σ H λx H1=>tb σ H1 λy H2=>R x y H2)
  {α:Type}{Q:α->Shared->Prop}{f:Value->Value->Sem α}
  (hf:∀v u s2 x y H2,Inv X pins σ H2 s2->RelV x v->RelV y u->R x y H2->wpAny (model X.prog X.w) X.A (f v u) Q X.xe s2):
  wpAny (model X.prog X.w) X.A (eval a X.env) (λv s₁=>wpAny (model X.prog X.w) X.A (eval b X.env) (λu s₂=>wpAny (model X.prog X.w) X.A (f v u) Q X.xe s₂) X.xe s₁) X.xe s:=by
 refine b8 (ha pins s σ H _ I h) λv s1 ⟨x,H1,I1,r1,q1⟩=>?_;refine b8 (hb pins s1 σ H1 _ I1 q1) λu s2 ⟨y,H2,I2,r2,q2⟩=>?_;exact hf v u s2 x y H2 I2 r1 r2 q2
noncomputable def gB (i:Nat):TE:=λσ H Q=>∃v,σ[i]? =some (some v)/\Q v H
noncomputable def tC (v:V):TE:=λ_ H Q=>Q v H
theorem Gy {i:Nat}{x:Str}{pos:Pos}(hN:X.N[i]? =some x) (hv:HL X.env.scope x) (hd:(x==("__debug__":Str))=false:=by decide) (hcd:(x==("__classdict__":Str))=false:=by decide):PE X (.Name x pos) (gB i):=by
 intro pins s σ H Q I h;obtain⟨v,e,h⟩:=h;obtain⟨m,hn,hl⟩:=I.loc;obtain⟨u,r,l⟩:=hl i x v hN e hv;have fin:EP X pins σ Q u s:=⟨v,H,I,r,h⟩;rcases l with⟨hk,hm⟩|⟨hk,c,hc,hcell⟩
 ·exact wpAny_Name (wpAny_loadName_local I.ok.kind hk hn hm fin) hd
 ·rcases hk with hk|hk
  ·exact wpAny_Name (wpAny_loadName_cell I.ok.kind hk hc hcell fin) hd
  ·exact wpAny_Name (wpAny_loadName_free I.ok.kind hk hc hcell fin hcd) hd
theorem ah {i j pos}:PE X (.Constant (.int i) j pos) (tC (.int i)):=λ_ _ _ H _ I h=>wpAny_Constant_int ⟨.int i,H,I.tok _,⟨_,rfl⟩,h⟩
theorem vh {b j pos}:PE X (.Constant (.bool b) j pos) (tC (.bl b)):=λ_ _ _ H _ I h=>Constant_bool ⟨.bl b,H,I,rfl,h⟩
theorem zx {j pos}:PE X (.Constant .none j pos) (tC .bQ):=λ_ _ _ H _ I h=>Constant_none ⟨.bQ,H,I,rfl,h⟩
noncomputable def Gl (X:Cx) (x:Str):Prop:=X.env.kindOf x=some .globalImplicit
theorem rT {E:Value->Shared->Prop}{pins:List (Addr×Obj)}{s:Shared}{σ:St}{H:Hp}{x:Str}{u:Value}{pos:Pos}{Q:Value->Shared->Prop}(I:Inv X pins σ H s) (hg:Gl X x) (hm:X.mg x=some u) (h:Q u s)
  (hd:(x==("__debug__":Str))=false:=by decide):wpAny (model X.prog X.w) X.A (eval (.Name x pos) X.env) Q E s:=
 Calls.Name_function_global I.ok.kind hg (Calls.loadGlobal_global (by rw[I.ok.glob];exact I.mod.glob.keeps I.bk) hm h) hd
theorem zy {E:Value->Shared->Prop}{pins:List (Addr×Obj)}{s:Shared}{σ:St}{H:Hp}{x:Str}{u:Value}{pos:Pos}{Q:Value->Shared->Prop}(I:Inv X pins σ H s) (hg:Gl X x) (hm:X.mg x=none) (hv:bootBuiltins x=some u) (h:Q u s)
  (hn:x≠"__name__":=by decide) (hd:(x==("__debug__":Str))=false:=by decide):wpAny (model X.prog X.w) X.A (eval (.Name x pos) X.env) Q E s:=by
 obtain⟨mb,h1,h2⟩:=I.mod.blt;exact Calls.Name_function_global I.ok.kind hg (Calls.loadGlobal_builtin (by rw[I.ok.glob];exact I.mod.glob.keeps I.bk) hm (by rw[I.ok.blt];exact h1.keeps I.bk) ((h2 x hn).trans hv) h) hd
theorem AK {x:Str}{v:V}{u:Value}{pos:Pos}(hg:Gl X x) (hm:X.mg x=some u) (r:RelV v u) (hd:(x==("__debug__":Str))=false:=by decide):PE X (.Name x pos) (tC v):=
 λ_ _ _ H _ I h=>rT I hg hm ⟨v,H,I,r,h⟩ hd
variable{a b:Expr}{ta tb:TE}{pos:Pos}
noncomputable def PC (X:Cx) (op:CmpOp) (a b:Expr) (t:TE):Prop:=
 ∀(pins:List (Addr×Obj)) (s:Shared) (σ:St) (H:Hp) (Q:VK),Inv X pins σ H s->t σ H Q->
  wpAny (model X.prog X.w) X.A (eval a X.env) (λv s₁=>wpAny (model X.prog X.w) X.A (eval b X.env) (λu s₂=>wpAny (model X.prog X.w) X.A (compareOp op v u) (EP X pins σ Q) X.xe s₂) X.xe s₁) X.xe s
theorem xQ (b:Expr){op:CmpOp}(h:op≠.In) (h2:op≠.NotIn):behindInMarks op b=false:=by
 have e1:(op==CmpOp.In)=false:=by cases op<;>first|rfl|exact absurd rfl h
 have e2:(op==CmpOp.NotIn)=false:=by cases op<;>first|rfl|exact absurd rfl h2
 cases b<;>simp[behindInMarks,e1,e2]
noncomputable def IU (ta:TE):TE:=λσ H Q=>ta σ H λx H1=>Q (.bl (decide (x=.bQ))) H1
theorem RelV.CY {x:V}{v:Value}(r:RelV x v):(v==Value.none)=decide (x=.bQ):=by
 cases x with
 |bQ=>cases r;rfl
 |bl _=>cases r;rfl
 |int _=>obtain⟨t,rfl⟩:=r;rfl
 |str _=>obtain⟨t,rfl⟩:=r;rfl
 |xO _=>obtain⟨t,rfl⟩:=r;rfl
 |F2 _=>obtain⟨t,rfl⟩:=r;rfl
 |ref _=>cases r;rfl
 |ty _=>cases r;rfl
theorem kq {j pos'}(ha:PE X a ta):PC X .Is a (.Constant .none j pos') (IU ta):=by
 intro pins s σ H Q I h;refine b8 (ha pins s σ H _ I h) λv s1 ⟨x,H1,I1,r1,q1⟩=>?_;exact Constant_none (is_none_gen ⟨.bl _,H1,I1,by rw[r1.CY];rfl,q1⟩)
noncomputable def tB (t:TE):TT:=λσ H Q=>t σ H λx H1=>∃c,x=.bl c/\Q c H1
theorem Gz {op:CmpOp}{t:TE}(h:PC X op a b t) (h1:behindInMarks op b=false:=by first|exact xQ _ (by decide) (by decide)|rfl):PE X (.Compare a [op] [b] pos) t:=λpins s σ H Q I hw=>wpAny_Compare1 (h pins s σ H Q I hw) h1
theorem dB {op:CmpOp}{t:TE}(h:PC X op a b t) (h1:behindInMarks op b=false:=by first|exact xQ _ (by decide) (by decide)|rfl):PT X (.Compare a [op] [b] pos) (tB t):=by
 intro pins s σ H Q I hw;refine wpAny_isTrue_Compare1 (b8 (h pins s σ H _ I hw) λv s1 h1=>b8 h1 λu s2 h2=>b8 h2 λc s3 ⟨x,H1,I1,r1,q1⟩=>?_) h1;obtain⟨d,rfl,q⟩:=q1;cases r1;exact wpAny_truthy_bool ⟨H1,I1,q⟩
theorem aR {e:Expr}{t:TE}(h:PE X e t) (he:∀whole,isTrue e X.env whole=(do let v←whole;standAt e.pos;holding [v] (truthy v)):=by intro _;rfl):PT X e (tB t):=by
 intro pins s σ H Q I hw;refine isTrue_plain (b8 (h pins s σ H _ I hw) λv s1 ⟨x,H1,I1,r1,q1⟩=>?_) (he _);obtain⟨d,rfl,q⟩:=q1;cases r1;exact wpAny_truthy_bool ⟨H1,I1,q⟩
variable{tA tB':TT}{rest:List Expr}
noncomputable def IV (t u:TT):TT:=λσ H Q=>t σ H λc H1=>if c=true then u σ H1 Q else Q false H1
noncomputable def JE (t u:TT):TT:=λσ H Q=>t σ H λc H1=>if c=true then Q true H1 else u σ H1 Q
noncomputable def IW (t:TT):TT:=λσ H Q=>t σ H λc H1=>Q (!c) H1
theorem lM (ha:PT X a tA):PW X (.BoolOp .And [a] pos) tA:=by
 intro wh pins s σ H Q I h;refine isTrue_and (b8 (ha pins s σ H Q I h) λc s1 e=>?_);cases c with
 |true=>exact isTrue_and_nil e
 |false=>exact e
theorem mT (ha:PT X a tA):PW X (.BoolOp .Or [a] pos) tA:=by
 intro wh pins s σ H Q I h;refine isTrue_or (b8 (ha pins s σ H Q I h) λc s1 e=>?_);cases c with
 |false=>exact isTrue_or_nil e
 |true=>exact e
theorem pL (ha:PT X a tA) (hb:PW X (.BoolOp .And (b::rest) pos) tB'):PW X (.BoolOp .And (a::b::rest) pos) (IV tA tB'):=by
 intro wh pins s σ H Q I h;refine isTrue_and (b8 (ha pins s σ H _ I h) λc s1 ⟨H1,I1,q1⟩=>?_);cases c with
 |true=>exact hb wh pins s1 σ H1 Q I1 q1
 |false=>exact⟨H1,I1,q1⟩
theorem qF (ha:PT X a tA) (hb:PW X (.BoolOp .Or (b::rest) pos) tB'):PW X (.BoolOp .Or (a::b::rest) pos) (JE tA tB'):=by
 intro wh pins s σ H Q I h;refine isTrue_or (b8 (ha pins s σ H _ I h) λc s1 ⟨H1,I1,q1⟩=>?_);cases c with
 |true=>exact⟨H1,I1,q1⟩
 |false=>exact hb wh pins s1 σ H1 Q I1 q1
theorem aX (ha:PT X a tA):PT X (.UnaryOp .Not a pos) (IW tA):=by
 intro pins s σ H Q I h;exact isTrue_not (ha pins s σ H (λc H1=>Q (!c) H1) I h)
noncomputable def HP (ta tb:TE):TE:=λσ H Q=>ta σ H λx H1=>∃c,x=.bl c/\if c=true then tb σ H1 Q else Q (.bl false) H1
noncomputable def IX (ta tb:TE):TE:=λσ H Q=>ta σ H λx H1=>∃c,x=.bl c/\if c=true then Q (.bl true) H1 else tb σ H1 Q
theorem mU {op}{t:TE}(h:PE X a t):PE X (.BoolOp op [a] pos) t:=λpins s σ H Q I hw=>BoolOp_one (h pins s σ H Q I hw)
theorem mV (ha:PE X a ta) (hb:PE X (.BoolOp .And (b::rest) pos) tb):PE X (.BoolOp .And (a::b::rest) pos) (HP ta tb):=by
 intro pins s σ H Q I h;refine BoolOp_and (b8 (ha pins s σ H _ I h) λv s1 ⟨x,H1,I1,r1,q1⟩=>?_);obtain⟨c,rfl,q1⟩:=q1;cases r1;refine wpAny_truthy_bool ?_;cases c with
 |true=>exact hb pins s1 σ H1 Q I1 q1
 |false=>exact⟨.bl false,H1,I1,rfl,q1⟩
theorem F4 (ha:PE X a ta) (hb:PE X (.BoolOp .Or (b::rest) pos) tb):PE X (.BoolOp .Or (a::b::rest) pos) (IX ta tb):=by
 intro pins s σ H Q I h;refine BoolOp_or (b8 (ha pins s σ H _ I h) λv s1 ⟨x,H1,I1,r1,q1⟩=>?_);obtain⟨c,rfl,q1⟩:=q1;cases r1;refine wpAny_truthy_bool ?_;cases c with
 |false=>exact hb pins s1 σ H1 Q I1 q1
 |true=>exact⟨.bl true,H1,I1,rfl,q1⟩
end
noncomputable def ba (K:PySem.W.Frag) (H:Hp) (a:Addr) (xs:List V):Prop:=
 Rd H a (.lst xs)\/
  ∃(o:Obj) (its:Array Value) (n:Nat),K.lookup a=some o/\o.cls=.type "list"/\o.dict=none/\o.data=.seq its n/\its.size<=sizeLine/\Vals xs its.toList
noncomputable def eJ (K:PySem.W.Frag) (H:Hp) (a:Addr) (xs:List V):Prop:=
 Rd H a (.tup xs)\/
  ∃(o:Obj) (its:Array Value) (n:Nat),K.lookup a=some o/\o.cls=.type "tuple"/\o.data=.seq its n/\its.size<=sizeLine/\Vals xs its.toList
noncomputable def IY:Value->Option V
 |.none=>some .bQ
 |.bool b=>some (.bl b)
 |.int i _=>some (.int i)
 |.str x _=>some (.str x)
 |.bytes b _=>some (.xO b)
 |.float b _=>some (.F2 b)
 |.ref a=>some (.ref a)
 |.type n=>some (.ty n)
 |_=>none
theorem RelV.abs {x:V}{u:Value}(r:RelV x u):IY u=some x:=by
 cases x with
 |bQ=>cases r;rfl
 |bl _=>cases r;rfl
 |int _=>obtain⟨t,rfl⟩:=r;rfl
 |str _=>obtain⟨t,rfl⟩:=r;rfl
 |xO _=>obtain⟨t,rfl⟩:=r;rfl
 |F2 _=>obtain⟨t,rfl⟩:=r;rfl
 |ref _=>cases r;rfl
 |ty _=>cases r;rfl
theorem RelV.inj {x y:V}{u:Value}(r:RelV x u) (q:RelV y u):x=y:=JU (r.abs.symm.trans q.abs)
theorem Vals.inj:∀{xs ys:List V}{us:List Value},Vals xs us->Vals ys us->xs=ys
 |_,_,_,.nil,.nil=>rfl
 |_,_,_,.cons r t,.cons r' t'=>by rw[r.inj r',Vals.inj t t']
section
variable{X:Cx}{pins:List (Addr×Obj)}{σ:St}{H:Hp}{s:Shared}{a:Addr}{xs ys:List V}
theorem ba.of {K:PySem.W.Frag}(h:H a=some (.lst xs)):ba K H a xs:=.inl (.inl h)
theorem Inv.list (I:Inv X pins σ H s) (h:ba X.K H a xs):∃its:List Value,Vals xs its/\PlainL s.heap a its.toArray/\xs.length<=sizeLine:=by
 rcases h with h|⟨o,its,n,hk,hc,hd,hs,hz,r⟩
 ·obtain⟨z,its,n,r,e⟩:=h.ok I.bq;exact⟨its,r,⟨_,n,e,rfl,rfl,rfl⟩,z⟩
 ·refine⟨its.toList,r,⟨o,n,I.qE a o hk,hc,hd,by simpa using hs⟩,?_⟩;have e:=r.length;simp only[JY]at e;omega
theorem Inv.tuple (I:Inv X pins σ H s) (h:eJ X.K H a xs):∃its:List Value,Vals xs its/\IsTup s.heap a its.toArray/\xs.length<=sizeLine:=by
 rcases h with h|⟨o,its,n,hk,hc,hs,hz,r⟩
 ·obtain⟨z,its,r,p⟩:=h.ok I.bq;exact⟨its,r,p,z⟩
 ·refine⟨its.toList,r,⟨o,I.qE a o hk,hc,n,by simpa using hs⟩,?_⟩;have e:=r.length;simp only[JY]at e;omega
theorem Inv.CZ (I:Inv X pins σ H s) (h:ba X.K H a xs) (h':ba X.K H a ys):xs=ys:=by
 obtain⟨its,r,⟨o,n,e,_,_,d⟩,_⟩:=I.list h;obtain⟨its',r',⟨o',n',e',_,_,d'⟩,_⟩:=I.list h';rw[e]at e';cases e';rw[d]at d';injection d' with d1 _;have:its=its':=by simpa using congrArg Array.toList d1
 subst this;exact r.inj r'
theorem Inv.BB (I:Inv X pins σ H s) (h:eJ X.K H a xs) (h':eJ X.K H a ys):xs=ys:=by
 obtain⟨its,r,⟨o,e,_,n,d⟩,_⟩:=I.tuple h;obtain⟨its',r',⟨o',e',_,n',d'⟩,_⟩:=I.tuple h';rw[e]at e';cases e';rw[d]at d';injection d' with d1 _;have:its=its':=by simpa using congrArg Array.toList d1
 subst this;exact r.inj r'
end
noncomputable abbrev Cx.uC (X:Cx) (E:Value->Shared->Prop):Cx:={X with xe:=E}
noncomputable abbrev Cx.GA (X:Cx):Cx:=X.uC λ_ _=>False
theorem Cx.Ok.uC {X:Cx}(ok:X.Ok) (E:Value->Shared->Prop):(X.uC E).Ok:=
 ⟨ok.mod,ok.kind,ok.glob,ok.blt,ok.above,ok.inj,ok.has,ok.HM,ok.hd,ok.frames,ok.II,ok.IJ,ok.bs,ok.EH,ok.CV,ok.CW,ok.rC,ok.Gw⟩
theorem Cx.Ok.kr {X:Cx}{E:Value->Shared->Prop}(ok:(X.uC E).Ok):X.Ok:=
 ⟨ok.mod,ok.kind,ok.glob,ok.blt,ok.above,ok.inj,ok.has,ok.HM,ok.hd,ok.frames,ok.II,ok.IJ,ok.bs,ok.EH,ok.CV,ok.CW,ok.rC,ok.Gw⟩
section
variable{X:Cx}{pins:List (Addr×Obj)}{σ:St}{H:Hp}{s:Shared}{E:Value->Shared->Prop}
theorem Inv.uC (I:Inv X pins σ H s) (E:Value->Shared->Prop):Inv (X.uC E) pins σ H s:=⟨I.ok.uC E,I.os,I.bare,I.base,I.loc,I.cell,I.free,I.g7,I.pin,I.bq,I.len⟩
theorem Inv.kr (I:Inv (X.uC E) pins σ H s):Inv X pins σ H s:=⟨I.ok.kr,I.os,I.bare,I.base,I.loc,I.cell,I.free,I.g7,I.pin,I.bq,I.len⟩
theorem SP.kr {D:Ends}{f:Flow}{s':Shared}(h:SP (X.uC E) pins D f s'):SP X pins D f s':=by
 cases f with
 |next=>obtain⟨σ',H',I,q⟩:=h;exact⟨σ',H',I.kr,q⟩
 |brk=>obtain⟨σ',H',I,q⟩:=h;exact⟨σ',H',I.kr,q⟩
 |cont=>obtain⟨σ',H',I,q⟩:=h;exact⟨σ',H',I.kr,q⟩
 |ret u=>obtain⟨v,σ',H',I,r,q⟩:=h;exact⟨v,σ',H',I.kr,r,q⟩
theorem zj.GA {st:List Stmt}{t:TS}(h:zj X.GA st t):zj X st t:=λpins s σ H D I hw=>
 wpAny_mono (h pins s σ H D (I.uC _) hw) (λ_ _ q=>q.kr) λ_ _ z=>False.elim z
end
section
variable{X:Cx}{st:Stmt}{rest:List Stmt}{t u:TS}{e:Expr}{te:TE}{pos:Pos}
noncomputable def C0:TS:=λD σ H=>D.nx σ H
noncomputable def xR (t u:TS):TS:=λD σ H=>t {D with nx:=u D} σ H
theorem au:zj X [] C0:=λ_ _ σ H _ I h=>wpAny_execs_nil ⟨σ,H,I,h⟩
theorem af (h1:PS X st t) (h2:zj X rest u):zj X (st::rest) (xR t u):=by
 intro pins s σ H D I h;refine wpAny_execs_cons (b8 (h1 pins s σ H {D with nx:=u D} I h) λf s1 q=>?_);cases f with
 |next=>
  obtain⟨σ',H',I',q⟩:=q;exact h2 pins s1 σ' H' D I' q
 |ret v=>exact q
 |brk=>exact q
 |cont=>exact q
theorem ag (h1:PS X st t):zj X [st] t:=by
 intro pins s σ H D I h;refine wpAny_execs_cons (b8 (h1 pins s σ H D I h) λf s1 q=>?_);cases f with
 |next=>exact wpAny_execs_nil q
 |ret v=>exact q
 |brk=>exact q
 |cont=>exact q
theorem Inv.quiet {pins:List (Addr×Obj)}{σ:St}{H:Hp}{s:Shared}(I:Inv X pins σ H s):interactive X.env=false:=by simp[interactive,I.ok.kind]
noncomputable def C1 (te:TE):TS:=λD σ H=>te σ H λ_ H1=>D.nx σ H1
theorem aM (he:PE X e te) (hs:swapsWith e none pos.line X.env=pure false:=by rfl):PS X (.Expr e pos) (C1 te):=by
 intro pins s σ H D I h;exact wpAny_Expr_any (b8 (he pins s σ H _ I h) λv s1 ⟨x,H1,I1,r1,q1⟩=>⟨σ,H1,I1,q1⟩) I.quiet hs
noncomputable def BC (te:TE):TS:=λD σ H=>te σ H D.rt
theorem aj (he:PE X e te):PS X (.Return (some e) pos) (BC te):=by
 intro pins s σ H D I h;exact wpAny_Return_some (b8 (he pins s σ H _ I h) λv s1 ⟨x,H1,I1,r1,q1⟩=>⟨x,σ,H1,I1,r1,q1⟩)
noncomputable def HQ:TS:=λD _ H=>D.rt .bQ H
theorem AL:PS X (.Return none pos) HQ:=λ_ _ σ H _ I h=>wpAny_Return_none ⟨.bQ,σ,H,I,rfl,h⟩
noncomputable def HR (c:TT) (t u:TS):TS:=λD σ H=>c σ H λb H1=>if b=true then t D σ H1 else u D σ H1
theorem aF {c:Expr}{a b:List Stmt}{tc:TT}(hc:PT X c tc) (ha:zj X a t) (hb:zj X b u):PS X (.If c a b pos) (HR tc t u):=by
 intro pins s σ H D I h;refine wpAny_If (b8 (hc pins s σ H _ I h) λd s1 ⟨H1,I1,q1⟩=>?_);cases d with
 |true=>exact ha pins s1 σ H1 D I1 q1
 |false=>exact hb pins s1 σ H1 D I1 q1
end
noncomputable abbrev TG:=V->St->Hp->(St->Hp->Prop)->Prop
noncomputable def PG (X:Cx) (target:Expr) (t:TG):Prop:=
 ∀(pins:List (Addr×Obj)) (s:Shared) (σ:St) (H:Hp) (v:V) (u:Value) (Q:St->Hp->Prop),Inv X pins σ H s->RelV v u->t v σ H Q->
  wpAny (model X.prog X.w) X.A (assign target X.env u) (λ_ s'=>∃σ' H',Inv X pins σ' H' s'/\Q σ' H') X.xe s
section
variable{X:Cx}{pos:Pos}
noncomputable def xS (i:Nat):TG:=λv σ H Q=>Q (σ.set i (some v)) H
theorem bH {i:Nat}{x:Str}(hN:X.N.Nodup) (hi:X.N[i]? =some x) (hx:Loc X.env.scope x) (hf:X.fn x=true\/X.env.scope.names.lookup x=some .local:=by first|exact .inl rfl|exact .inr rfl|assumption):PG X (.Name x pos) (xS i):=by
 intro pins s σ H v u Q I r h;exact wpAny_assign_Name (xP I hN hi hx r (λs' I'=>⟨_,H,I',h⟩) hf)
noncomputable def HS (te:TE) (g:TG):TS:=λD σ H=>te σ H λx H1=>g x σ H1 D.nx
theorem aT {i:Nat}{x:Str}{e:Expr}{te:TE}{pos':Pos}(hN:X.N.Nodup) (hi:X.N[i]? =some x) (hx:Loc X.env.scope x) (he:PE X e te) (hs:swapsWith e (some (.Name x pos')) pos.line X.env=pure false:=by rfl) (hf:X.fn x=true\/X.env.scope.names.lookup x=some .local:=by first|exact .inl rfl|exact .inr rfl|assumption):
  PS X (.Assign [.Name x pos'] e pos) (HS te (xS i)):=by
 intro pins s σ H D I h;refine wpAny_Assign_Name (b8 (he pins s σ H _ I h) λv s1 ⟨y,H1,I1,r1,q1⟩=>?_) hs;exact xP I1 hN hi hx r1 (λs2 I2=>⟨_,H1,I2,q1⟩) hf
end
section
variable{X:Cx}{pos:Pos}
noncomputable def GB (c:TT) (tb:TS):TS:=λD σ H=>∃W:Nat->St->Hp->Prop,(∃m,W m σ H)/\∀m σ H,W m σ H->
 c σ H λb H1=>if b=true then ∃N:St->Hp->Prop,(∀σ' H',N σ' H'->∃m',m'<m/\W m' σ' H')/\tb {D with nx:=N,ct:=N,bk:=D.nx} σ H1 else D.nx σ H1
theorem xT {c:Expr}{body:List Stmt}{tc:TT}{tb:TS}(hp:PassesOwn (model X.prog X.w) X.A X.env X.xe) (hc:PT X c tc) (hb:zj X body tb):PS X (.While c body [] pos) (GB tc tb):=by
 intro pins s σ H D I h;obtain⟨W,⟨m0,w0⟩,turn⟩:=h;refine wpAny_While (codeAny_whileLoop (λn s'=>∃σ' H',Inv X pins σ' H' s'/\W n σ' H') ?_ m0 ⟨σ,H,I,w0⟩);rintro n s1 ⟨σ1,H1,I1,w1⟩;refine wpAny_passesOwn hp (b8 (hc pins s1 σ1 H1 _ I1 (turn n σ1 H1 w1)) λb s2 ⟨H2,I2,q2⟩=>?_);cases b with
 |true=>
  obtain⟨N,hN,q2⟩:=q2;rw[if_pos rfl];refine wpAny_passesOwn hp (b8 (hb pins s2 σ1 H2 _ I2 q2) λf s3 q3=>?_);cases f with
  |next=>
   obtain⟨σ3,H3,I3,n3⟩:=q3;obtain⟨m',hm,w3⟩:=hN σ3 H3 n3;exact⟨m',hm,σ3,H3,I3,w3⟩
  |cont=>
   obtain⟨σ3,H3,I3,n3⟩:=q3;obtain⟨m',hm,w3⟩:=hN σ3 H3 n3;exact⟨m',hm,σ3,H3,I3,w3⟩
  |brk=>exact q3
  |ret v=>exact q3
 |false=>
  rw[if_neg J8];exact wpAny_execs_nil ⟨σ1,H2,I2,q2⟩
end
structure It where
 go:Nat->Hp->Prop
 EI:Nat->Hp->V->Hp->Prop
 stop:Nat->Hp->Prop
noncomputable def uD (X:Cx) (pins:List (Addr×Obj)) (H:Hp) (b:Addr):Prop:=
 H b=none/\b≠X.env.locals/\b∉X.fs/\(b∈X.ex\/X.vf.heap.objs.size<=b)/\(∀x c,X.env.cells.lookup x=some c->c≠b)/\∀p∈X.pn++pins,p.1≠b
theorem Inv.C2 {X:Cx}{pins:List (Addr×Obj)}{σ:St}{H H':Hp}{s:Shared}{b:Addr}(I:Inv X pins σ H s) (hb:s.heap.objs.size<=b) (hn:H' b=none):uD X pins H' b:=by
 refine⟨hn,Nat.ne_of_gt (Kl I.lt hb),I.IT hb,.inr (Kj I.sz hb),λx c e z=>?_,λp hp z=>?_⟩
 ·obtain⟨v,q⟩:=I.cell x c e;exact absurd (Kl q.lt (by rw[z];exact hb)) (Nat.lt_irrefl _)
 ·exact absurd (Kl (J7 (I.pin p hp).1) (by rw[z];exact hb)) (Nat.lt_irrefl _)
structure Turn (P:Program) (w:World) (K:PySem.W.Frag) (tg:Expr) (J:It) (fp:List Addr) (it:Addr) (tn:Nat->Heap->Prop):Prop where
 mem:it∈fp
 obj:∀i h,tn i h->∀b∈fp,∃o,h.get? b=some o/\∀v,o.data≠.cell v
 keep:∀i h h',tn i h->(∀b∈fp,∀o,h.get? b=some o->h'.get? b=some o)->tn i h'
 item:∀(X:Cx),X.prog=P->X.w=w->X.K=K->X.calm=true->∀(i:Nat) (pins:List (Addr×Obj)) (s:Shared) (σ:St) (H:Hp) (E:Value->Shared->Prop),Inv X pins σ H s->(∀b∈fp,uD X pins H b)->tn i s.heap->J.go i H->
  wpAny (model P w) X.A (pyNext (.ref it)) (λr s1=>∃u,r=some u/\
   wpAny (model P w) X.A (letOwnedTupleGo tg (.ref it) u) (λ_ s2=>∃x H',Inv X pins σ H' s2/\RelV x u/\J.EI i H x H'/\tn (i+1) s2.heap/\∀b∈fp,H' b=none) E s1) E s
 done:∀(X:Cx),X.prog=P->X.w=w->X.K=K->X.calm=true->∀(i:Nat) (pins:List (Addr×Obj)) (s:Shared) (σ:St) (H:Hp) (E:Value->Shared->Prop),Inv X pins σ H s->(∀b∈fp,uD X pins H b)->tn i s.heap->J.stop i H->
  wpAny (model P w) X.A (pyNext (.ref it)) (λr s1=>r=none/\Inv X pins σ H s1) E s
 self:∀(A:Around) (i:Nat) (s:Shared) (Q:Value->Shared->Prop) (E:Value->Shared->Prop),tn i s.heap->Q (.ref it) s->wpAny (model P w) A (pyIter (.ref it)) Q E s
noncomputable abbrev TI:=St->Hp->(It->Hp->Prop)->Prop
noncomputable def IZ (X:Cx) (pins:List (Addr×Obj)) (σ:St) (tg:Expr) (R:It->Hp->Prop) (itv:Value) (s2:Shared):Prop:=
 ∃(it:Addr) (fp:List Addr) (tn:Nat->Heap->Prop) (J:It) (H':Hp),itv=.ref it/\Inv X pins σ H' s2/\Turn X.prog X.w X.K tg J fp it tn/\tn 0 s2.heap/\(∀b∈fp,uD X pins H' b)/\R J H'
noncomputable def PI (X:Cx) (tg iter:Expr) (wi:TI):Prop:=
 ∀(pins:List (Addr×Obj)) (s:Shared) (σ:St) (H:Hp) (R:It->Hp->Prop),Inv X pins σ H s->wi σ H R->
  wpAny (model X.prog X.w) X.A (eval iter X.env) (λv s1=>wpAny (model X.prog X.w) X.A (pyIter v) (IZ X pins σ tg R) X.xe s1) X.xe s
theorem xU {M:Model}{A:Around}{E:Value->Shared->Prop}{s:Shared}{tg:Expr}{it:Addr}{u:Value}{o:Obj}{n:String}{vs:Array Value}{Q:Unit->Shared->Prop}(ho:s.heap.get? it=some o) (hc:o.cls=.type n) (hd:o.data=.fields vs)
  (hn:["enumerate","zip","dict_itemiterator","dict_reverseitemiterator","odict_iterator","itertools.zip_longest","itertools.pairwise"].contains n=false) (hQ:Q () s):wpAny M A (letOwnedTupleGo tg (.ref it) u) Q E s:=by
 unfold letOwnedTupleGo;cases tg<;>first
  |exact JP hQ
  |(cases u<;>first
    |exact JP hQ
    |(refine JO (wpAny_load ho ?_);rw[hc,hd];show wpAny M A (if(["enumerate","zip","dict_itemiterator","dict_reverseitemiterator","odict_iterator","itertools.zip_longest","itertools.pairwise"].contains n&&vs[0]? ==some (rawInt _))=true then _ else _) Q E s;rw[if_neg (by intro h;rw[hn,Bool.false_and]at h;cases h)];exact JP hQ))
noncomputable def F5 (K:PySem.W.Frag) (a:Addr):It:=
 ⟨λi H=>∃xs x,ba K H a xs/\xs[i]? =some x,λi H x H'=>H'=H/\∀xs,ba K H a xs->xs[i]? =some x,λi H=>∃xs,ba K H a xs/\xs.length<=i⟩
noncomputable def F6 (K:PySem.W.Frag) (a:Addr):It:=
 ⟨λi H=>∃xs x,eJ K H a xs/\xs[i]? =some x,λi H x H'=>H'=H/\∀xs,eJ K H a xs->xs[i]? =some x,λi H=>∃xs,eJ K H a xs/\xs.length<=i⟩
noncomputable def E2 (lo:Int) (n:Nat):It:=⟨λi _=>i<n,λi H x H'=>H'=H/\x=.int (lo+i),λi _=>n<=i⟩
theorem BD {P:Program}{w:World}{K:PySem.W.Frag}{tg:Expr}(a it:Addr):Turn P w K tg (F5 K a) [it] it (λi h=>h.IsListIter it a i) where
 mem:=by simp
 obj:=λi h st b hb=>by
  have e:b=it:=by simpa using hb
  subst e;obtain⟨o,e,c,d⟩:=st;exact⟨o,e,λv z=>by rw[d]at z;cases z⟩
 keep:=λi h h' st k=>st.at λo e=>k it (by simp) o e
 item:=by
  intro X hP hw hK hc i pins s σ H E I hf st hg;subst hP hw hK;obtain⟨xs,x,hq,hx⟩:=hg;obtain⟨its,rv,p,hz⟩:=I.list hq;obtain⟨u,hu,ru⟩:=rv.get hx;obtain⟨f0,f1,f2,f3,f4,f5⟩:=hf it (by simp);refine wpAny_pyNext_list_item st p.isList (x:=u) (by simpa using hu) λh' st' sb=>?_;have I1:Inv X pins σ H {s with heap:=h'}:=I.turned (t':=s.toks) (λb o hb e=>(sb.2 b hb).trans e) f0 f1 f3 f4 f5;obtain⟨o,e,c,d⟩:=id st';exact⟨u,rfl,xU (s:={s with heap:=h'}) e c d (by decide) ⟨x,H,I1,ru,⟨rfl,λys hy=>by rw[I.CZ hy hq];exact hx⟩,st',λb hb=>(hf b hb).1⟩⟩
 done:=by
  intro X hP hw hK hc i pins s σ H E I hf st hg;subst hP hw hK;obtain⟨xs,hq,hx⟩:=hg;obtain⟨its,rv,p,hz⟩:=I.list hq;obtain⟨f0,f1,f2,f3,f4,f5⟩:=hf it (by simp);have hl:=rv.length;exact wpAny_pyNext_list_end (I.ok.hd hc) st p.isList (by simp;omega) λh' eb=>⟨rfl,I.turned (t':=s.toks) (λb o hb e=>eb b o hb e) f0 f1 f3 f4 f5⟩
 self:=λ_ _ _ _ _ st h=>wpAny_pyIter_listiter st h
theorem zA {P:Program}{w:World}{K:PySem.W.Frag}{tg:Expr}(a it:Addr):Turn P w K tg (F6 K a) [it] it (λi h=>h.IsTupleIter it a i) where
 mem:=by simp
 obj:=λi h st b hb=>by
  have e:b=it:=by simpa using hb
  subst e;obtain⟨o,e,c,d⟩:=st;exact⟨o,e,λv z=>by rw[d]at z;cases z⟩
 keep:=λi h h' st k=>st.at λo e=>k it (by simp) o e
 item:=by
  intro X hP hw hK hc i pins s σ H E I hf st hg;subst hP hw hK;obtain⟨xs,x,hq,hx⟩:=hg;obtain⟨its,rv,p,hz⟩:=I.tuple hq;obtain⟨u,hu,ru⟩:=rv.get hx;obtain⟨f0,f1,f2,f3,f4,f5⟩:=hf it (by simp);refine wpAny_pyNext_tuple_item st (show s.heap.IsTuple a its.toArray from p) (x:=u) (by simpa using hu) λh' st' sb=>?_;have I1:Inv X pins σ H {s with heap:=h'}:=I.turned (t':=s.toks) (λb o hb e=>(sb.2 b hb).trans e) f0 f1 f3 f4 f5;obtain⟨o,e,c,d⟩:=id st';exact⟨u,rfl,xU (s:={s with heap:=h'}) e c d (by decide) ⟨x,H,I1,ru,⟨rfl,λys hy=>by rw[I.BB hy hq];exact hx⟩,st',λb hb=>(hf b hb).1⟩⟩
 done:=by
  intro X hP hw hK hc i pins s σ H E I hf st hg;subst hP hw hK;obtain⟨xs,hq,hx⟩:=hg;obtain⟨its,rv,p,hz⟩:=I.tuple hq;obtain⟨f0,f1,f2,f3,f4,f5⟩:=hf it (by simp);have hl:=rv.length;exact wpAny_pyNext_tuple_end (I.ok.hd hc) st (show s.heap.IsTuple a its.toArray from p) (by simp;omega) λh' eb=>⟨rfl,I.turned (t':=s.toks) (λb o hb e=>eb b o hb e) f0 f1 f3 f4 f5⟩
 self:=λ_ _ _ _ _ st h=>wpAny_pyIter_tupleiter st h
theorem zB {P:Program}{w:World}{K:PySem.W.Frag}{tg:Expr}(it:Addr) (lo:Int) (n:Nat):Turn P w K tg (E2 lo n) [it] it (λi h=>IsRangeIter h it (lo+(i:Nat)*1) ((n:Int) - (i:Nat)) 1) where
 mem:=by simp
 obj:=λi h st b hb=>by
  have e:b=it:=by simpa using hb
  subst e;exact⟨_,st,λv z=>by
   have z':Data.fields _=Data.cell v:=z;cases z'⟩
 keep:=λi h h' st k=>k it (by simp) _ st
 item:=by
  intro X hP hw hK hc i pins s σ H E I hf st hg;subst hP hw hK;obtain⟨f0,f1,f2,f3,f4,f5⟩:=hf it (by simp);have W:=Walks.range (prog:=X.prog) (w:=X.w) (I.ok.hd hc) it lo 1 n;refine W.item i s _ _ hg st λv h' tk hv st' kk=>?_;obtain⟨t,rfl⟩:=hv;have I1:Inv X pins σ H {s with heap:=h',toks:=tk}:=I.turned (λb o hb e=>kk b o (by simpa using hb) e) f0 f1 f3 f4 f5;refine⟨_,rfl,xU (s:={s with heap:=h',toks:=tk}) (n:="range_iterator") st' rfl rfl (by decide) ⟨.int (lo+i),H,I1,⟨t,?_⟩,⟨rfl,rfl⟩,st',λb hb=>(hf b hb).1⟩⟩;rw[Int.mul_one]
 done:=by
  intro X hP hw hK hc i pins s σ H E I hf st hg;subst hP hw hK;obtain⟨f0,f1,f2,f3,f4,f5⟩:=hf it (by simp);exact wpAny_pyNext_range_end (I.ok.hd hc) st (by have:n<=i:=hg;omega) λh' eb=>⟨rfl,I.turned (t':=s.toks) (λb o hb e=>eb b o hb e) f0 f1 f3 f4 f5⟩
 self:=λ_ _ _ _ _ st h=>wpAny_pyIter_rangeiter st h
section
variable{X:Cx}{tg:Expr}
noncomputable def HU (K:PySem.W.Frag) (tl:TE):TI:=λσ H R=>tl σ H λx H1=>∃a,x=.ref a/\(∃xs,ba K H1 a xs)/\R (F5 K a) H1
noncomputable def I0 (K:PySem.W.Frag) (tl:TE):TI:=λσ H R=>tl σ H λx H1=>∃a,x=.ref a/\(∃xs,eJ K H1 a xs)/\R (F6 K a) H1
theorem du {l:Expr}{tl:TE}(hl:PE X l tl):PI X tg l (HU X.K tl):=by
 intro pins s σ H R I h;refine b8 (hl pins s σ H _ I h) λv s1 ⟨x,H1,I1,r1,q1⟩=>?_;obtain⟨a,e,⟨xs,hq⟩,q⟩:=q1;subst e;cases r1;obtain⟨its,rv,p,hz⟩:=I1.list hq;refine wpAny_pyIter_list p.isList ?_;refine⟨s1.heap.objs.size,[s1.heap.objs.size],_,_,H1,rfl,I1.kept (t':=s1.toks) λb o e=>JR _ e,BD a _,⟨_,J4 _ rfl,rfl,rfl⟩,λb hb=>?_,q⟩;have e:b=s1.heap.objs.size:=by simpa using hb
 subst e;exact I1.C2 (J3 _) (I1.bq.fresh (J3 _))
theorem wj {l:Expr}{tl:TE}(hl:PE X l tl):PI X tg l (I0 X.K tl):=by
 intro pins s σ H R I h;refine b8 (hl pins s σ H _ I h) λv s1 ⟨x,H1,I1,r1,q1⟩=>?_;obtain⟨a,e,⟨xs,hq⟩,q⟩:=q1;subst e;cases r1;obtain⟨its,rv,p,hz⟩:=I1.tuple hq;refine wpAny_pyIter_tuple (show s1.heap.IsTuple a its.toArray from p) ?_;refine⟨s1.heap.objs.size,[s1.heap.objs.size],_,_,H1,rfl,I1.kept (t':=s1.toks) λb o e=>JR _ e,zA a _,⟨_,J4 _ rfl,rfl,rfl⟩,λb hb=>?_,q⟩;have e:b=s1.heap.objs.size:=by simpa using hb
 subst e;exact I1.C2 (J3 _) (I1.bq.fresh (J3 _))
theorem C3 {pins:List (Addr×Obj)}{σ:St}{H:Hp}{s:Shared}{R:It->Hp->Prop}{E:Value->Shared->Prop}{lo hi:Int}{t u v:Tok}{tk:Nat}(I:Inv X pins σ H s) (h1: -(2^62)<=lo) (h2:lo<2^62) (h3: -(2^62)<=hi) (h4:hi<2^62)
  (q:R (E2 lo (hi - lo).toNat) H):wpAny (model X.prog X.w) X.A (pyIter (.ref s.heap.objs.size)) (IZ X pins σ tg R) E {s with heap:=s.heap.push {cls:=.type "range",data:=.fields #[.int lo t,.int hi u,.int 1 v]},toks:=tk}:=by
 refine wpAny_pyIter_range (IsRange.new ..) (small_one h1 h2 h3 h4) ?_;have I1:Inv X pins σ H {s with heap:=s.heap.push {cls:=.type "range",data:=.fields #[.int lo t,.int hi u,.int 1 v]},toks:=tk}:=I.kept λb o e=>JR _ e;refine⟨(s.heap.push {cls:=.type "range",data:=.fields #[.int lo t,.int hi u,.int 1 v]}).objs.size,[(s.heap.push {cls:=.type "range",data:=.fields #[.int lo t,.int hi u,.int 1 v]}).objs.size],_,_,H,rfl,
  I1.kept (t':=tk) λb o e=>JR _ e,zB _ lo (hi - lo).toNat,?_,λb hb=>?_,q⟩
 ·have e1:lo+((0:Nat):Int)*1=lo:=by simp
  have e2:(((hi - lo).toNat:Nat):Int) - ((0:Nat):Int)=Builtin.Range.rangeSize lo hi 1:=by rw[rangeSize_one];split<;>omega
  show IsRangeIter _ _ (lo+((0:Nat):Int)*1) ((((hi - lo).toNat:Nat):Int) - ((0:Nat):Int)) 1;rw[e1,e2];exact J4 _ rfl
 ·have e:b=(s.heap.push {cls:=.type "range",data:=.fields #[.int lo t,.int hi u,.int 1 v]}).objs.size:=by simpa using hb
  subst e;exact I1.C2 (J3 _) (I1.bq.fresh (J3 _))
noncomputable def HV (ta:TA):TI:=λσ H R=>ta σ H λvs H1=>∃j:Int,vs=[.int j]/\-(2^62)<=j/\j<2^62/\R (E2 0 j.toNat) H1
theorem pM {a:Expr}{ta:TA}{p pos:Pos}(hg:Gl X "range") (hm:X.mg "range"=none) (ha:PA X [a] ta) (hs:starEach [a] X.env=[(false,eval a X.env)]:=by rfl):PI X tg (.Call (.Name "range" p) [a] [] pos) (HV ta):=by
 intro pins s σ H R I h;refine Call_ (zy I hg hm boot_range (PyProof.Rows.callWith_type1 (b8 (ha pos pins s σ H _ I h) λus s1 ⟨vs,H1,I1,r1,q1⟩=>?_) hs rfl));obtain⟨j,e,q1,q2,q⟩:=q1;subst e;cases r1 with
 |cons r rr=>
  cases rr;obtain⟨t,rfl⟩:=r;exact call_range_1 (C3 I1 (by omega) (by omega) q1 q2 (by simpa using q))
noncomputable def Ja (wi:TI) (g:TG) (tb:TS):TS:=λD σ H=>wi σ H λJ H1=>∃W:Nat->Nat->St->Hp->Prop,(∃m,W 0 m σ H1)/\∀i m σ H,W i m σ H->
 (J.stop i H/\D.nx σ H)\/(J.go i H/\∃N:St->Hp->Prop,(∀σ' H',N σ' H'->∃m',m'<m/\W (i+1) m' σ' H')/\∀x H',J.EI i H x H'->g x σ H' λσ2 H2=>tb {D with nx:=N,ct:=N,bk:=D.nx} σ2 H2)
noncomputable def sG (fp:List Addr) (h:Heap):List (Addr×Obj):=fp.filterMap λb=>(h.get? b).map λo=>(b,o)
theorem mW {fp:List Addr}{h:Heap}{b:Addr}{o:Obj}(hb:b∈fp) (e:h.get? b=some o):(b,o)∈sG fp h:=List.mem_filterMap.mpr ⟨b,hb,by rw[e];rfl⟩
theorem BE {fp:List Addr}{h:Heap}{p:Addr×Obj}(hp:p∈sG fp h):p.1∈fp/\h.get? p.1=some p.2:=by
 obtain⟨b,hb,e⟩:=List.mem_filterMap.mp hp;cases q:h.get? b with
 |none=>rw[q]at e;cases e
 |some o=>
  rw[q]at e;have e':(b,o)=p:=JU e;subst e';exact⟨hb,q⟩
theorem Inv.pinned {pins:List (Addr×Obj)}{σ:St}{H:Hp}{s:Shared}{fp:List Addr}(I:Inv X pins σ H s) (hf:∀b∈fp,uD X pins H b) (ho:∀b∈fp,∃o,s.heap.get? b=some o/\∀v,o.data≠.cell v):Inv X (pins++sG fp s.heap) σ H s:=
 I.AJ λp hp=>(Ky.mp hp).elim (λz=>I.pin p (Ku _ z)) λz=>by
  obtain⟨hb,e⟩:=BE z;obtain⟨f0,f1,f2,_⟩:=hf p.1 hb;obtain⟨o,e',d⟩:=ho p.1 hb;rw[e]at e';cases e';exact⟨e,f0,f1,f2,d⟩
theorem Inv.og {pins pl:List (Addr×Obj)}{σ:St}{H:Hp}{s:Shared}(I:Inv X (pins++pl) σ H s):Inv X pins σ H s:=I.AJ λp hp=>I.pin p (Ku _ (List.mem_append_left _ hp))
theorem fQ {iter:Expr}{body:List Stmt}{wi:TI}{g:TG}{tb:TS}{pos:Pos}(hp:PassesOwn (model X.prog X.w) X.A X.env X.xe) (hc:X.calm=true) (hi:PI X tg iter wi) (hg:PG X tg g) (hb:zj X body tb)
  (hs:∀x,foldedSetIterable iter X.env x=pure x:=by intro _;rfl):PS X (.For tg iter body [] pos) (Ja wi g tb):=by
 intro pins s σ H D I h;refine wpAny_For (b8 (hi pins s σ H _ I h) λv s1 h1=>b8 h1 λitv s2 h2=>?_) hs;obtain⟨it,fp,tn,J,H2,e,I2,T,st2,f2,W,⟨m0,w0⟩,turn⟩:=h2;subst e;have stat:∀{H':Hp},(∀b∈fp,H' b=none)->∀b∈fp,uD X pins H' b:=λhn b hb=>⟨hn b hb,(f2 b hb).2⟩;refine codeAny_forLoop_any (λn s'=>∃i σ' H',Inv X pins σ' H' s'/\tn i s'.heap/\(∀b∈fp,H' b=none)/\W i n σ' H') ?_ m0 ⟨0,σ,H2,I2,st2,λb hb=>(f2 b hb).1,w0⟩;rintro n s3 ⟨i,σ3,H3,I3,st3,fr3,w3⟩;rcases turn i n σ3 H3 w3 with⟨stop,qn⟩|⟨go,N,hN,step⟩
 ·refine wpAny_passesOwn hp (b8 (T.done X rfl rfl rfl hc i pins s3 σ3 H3 X.xe I3 (stat fr3) st3 stop) λr s4 ⟨hr,I4⟩=>?_);subst hr;exact wpAny_execs_nil ⟨σ3,H3,I4,qn⟩
 ·refine wpAny_passesOwn hp (b8 (T.item X rfl rfl rfl hc i pins s3 σ3 H3 X.xe I3 (stat fr3) st3 go) λr s4 ⟨u,hr,h4⟩=>?_);subst hr;refine wpAny_passesOwn hp (b8 h4 λ_ s5 ⟨x,H5,I5,r5,y5,st5,fr5⟩=>?_);have I5':=I5.pinned (stat fr5) (T.obj _ _ st5);refine wpAny_passesOwn hp (b8 (hg _ s5 σ3 H5 x u _ I5' r5 (step x H5 y5)) λ_ s6 ⟨σ6,H6,I6,q6⟩=>?_);refine wpAny_passesOwn hp (b8 (hb _ s6 σ6 H6 _ I6 q6) λf s7 q7=>?_);have again:∀{σ7:St}{H7:Hp},Inv X (pins++sG fp s5.heap) σ7 H7 s7->N σ7 H7->∃m,m<n/\∃i σ' H',Inv X pins σ' H' s7/\tn i s7.heap/\(∀b∈fp,H' b=none)/\W i m σ' H':=λ{σ7 H7} I7 n7=>by
   obtain⟨m',hm,w7⟩:=hN σ7 H7 n7;refine⟨m',hm,i+1,σ7,H7,I7.og,T.keep _ _ _ st5 λb hb o e=>(I7.pin (b,o) (Ku _ (Ku _ (mW hb e)))).1,λb hb=>?_,w7⟩;obtain⟨o,e,d⟩:=T.obj _ _ st5 b hb;exact(I7.pin (b,o) (Ku _ (Ku _ (mW hb e)))).2.1
  cases f with
  |next=>obtain⟨σ7,H7,I7,n7⟩:=q7;exact again I7 n7
  |cont=>obtain⟨σ7,H7,I7,n7⟩:=q7;exact again I7 n7
  |brk=>obtain⟨σ7,H7,I7,q7⟩:=q7;exact⟨σ7,H7,I7.og,q7⟩
  |ret v=>obtain⟨x7,σ7,H7,I7,r7,q7⟩:=q7;exact⟨x7,σ7,H7,I7.og,r7,q7⟩
end
theorem dE {K:PySem.W.Frag}{a:Addr}{xs:List V}{g:TG}{tb:TS}{D:Ends}{σ:St}{H:Hp}(Pv:Nat->St->Hp->Prop) (h0:Pv 0 σ H) (hl:∀i σ H,i<=xs.length->Pv i σ H->ba K H a xs)
  (hs:∀i x σ H,xs[i]? =some x->Pv i σ H->g x σ H λσ2 H2=>tb {D with nx:=Pv (i+1),ct:=Pv (i+1),bk:=D.nx} σ2 H2) (hd:∀σ H,Pv xs.length σ H->D.nx σ H):
  ∃W:Nat->Nat->St->Hp->Prop,(∃m,W 0 m σ H)/\∀i m σ H,W i m σ H->
   ((F5 K a).stop i H/\D.nx σ H)\/((F5 K a).go i H/\∃N:St->Hp->Prop,(∀σ' H',N σ' H'->∃m',m'<m/\W (i+1) m' σ' H')/\∀x H',(F5 K a).EI i H x H'->g x σ H' λσ2 H2=>tb {D with nx:=N,ct:=N,bk:=D.nx} σ2 H2):=by
 refine⟨λi m σ H=>m=xs.length - i/\i<=xs.length/\Pv i σ H,⟨xs.length,by simp,Kk _,h0⟩,?_⟩;rintro i m σ H ⟨rfl,hi,p⟩;have q:=hl i σ H hi p
 by_cases hlt:i<xs.length
 ·refine .inr ⟨⟨xs,xs[i],q,by simp[hlt]⟩,Pv (i+1),λσ' H' p'=>⟨xs.length - (i+1),by omega,rfl,hlt,p'⟩,λx H' y=>?_⟩;obtain⟨e,y⟩:=y;subst e;exact hs i x σ _ (y xs q) p
 ·have e:i=xs.length:=by omega
  subst e;exact .inl ⟨⟨xs,q,J3 _⟩,hd σ H p⟩
theorem AM {K:PySem.W.Frag}{a:Addr}{xs:List V}{g:TG}{tb:TS}{D:Ends}{σ:St}{H:Hp}(Pv:Nat->St->Hp->Prop) (h0:Pv 0 σ H) (hl:∀i σ H,i<=xs.length->Pv i σ H->eJ K H a xs)
  (hs:∀i x σ H,xs[i]? =some x->Pv i σ H->g x σ H λσ2 H2=>tb {D with nx:=Pv (i+1),ct:=Pv (i+1),bk:=D.nx} σ2 H2) (hd:∀σ H,Pv xs.length σ H->D.nx σ H):
  ∃W:Nat->Nat->St->Hp->Prop,(∃m,W 0 m σ H)/\∀i m σ H,W i m σ H->
   ((F6 K a).stop i H/\D.nx σ H)\/((F6 K a).go i H/\∃N:St->Hp->Prop,(∀σ' H',N σ' H'->∃m',m'<m/\W (i+1) m' σ' H')/\∀x H',(F6 K a).EI i H x H'->g x σ H' λσ2 H2=>tb {D with nx:=N,ct:=N,bk:=D.nx} σ2 H2):=by
 refine⟨λi m σ H=>m=xs.length - i/\i<=xs.length/\Pv i σ H,⟨xs.length,by simp,Kk _,h0⟩,?_⟩;rintro i m σ H ⟨rfl,hi,p⟩;have q:=hl i σ H hi p
 by_cases hlt:i<xs.length
 ·refine .inr ⟨⟨xs,xs[i],q,by simp[hlt]⟩,Pv (i+1),λσ' H' p'=>⟨xs.length - (i+1),by omega,rfl,hlt,p'⟩,λx H' y=>?_⟩;obtain⟨e,y⟩:=y;subst e;exact hs i x σ _ (y xs q) p
 ·have e:i=xs.length:=by omega
  subst e;exact .inl ⟨⟨xs,q,J3 _⟩,hd σ H p⟩
theorem BF {lo:Int}{n:Nat}{g:TG}{tb:TS}{D:Ends}{σ:St}{H:Hp}(Pv:Nat->St->Hp->Prop) (h0:Pv 0 σ H)
  (hs:∀i σ H,i<n->Pv i σ H->g (.int (lo+i)) σ H λσ2 H2=>tb {D with nx:=Pv (i+1),ct:=Pv (i+1),bk:=D.nx} σ2 H2) (hd:∀σ H,Pv n σ H->D.nx σ H):
  ∃W:Nat->Nat->St->Hp->Prop,(∃m,W 0 m σ H)/\∀i m σ H,W i m σ H->
   ((E2 lo n).stop i H/\D.nx σ H)\/((E2 lo n).go i H/\∃N:St->Hp->Prop,(∀σ' H',N σ' H'->∃m',m'<m/\W (i+1) m' σ' H')/\∀x H',(E2 lo n).EI i H x H'->g x σ H' λσ2 H2=>tb {D with nx:=N,ct:=N,bk:=D.nx} σ2 H2):=by
 refine⟨λi m σ H=>m=n - i/\i<=n/\Pv i σ H,⟨n,by simp,Kk _,h0⟩,?_⟩;rintro i m σ H ⟨rfl,hi,p⟩
 by_cases hlt:i<n
 ·refine .inr ⟨hlt,Pv (i+1),λσ' H' p'=>⟨n - (i+1),by omega,rfl,hlt,p'⟩,λx H' y=>?_⟩;obtain⟨e,y⟩:=y;subst e y;exact hs i σ _ hlt p
 ·have e:i=n:=by omega
  subst e;exact .inl ⟨J3 _,hd σ H p⟩
noncomputable abbrev R2:=V->V->Hp->VK->Prop
noncomputable def rV (X:Cx) (f:Value->Value->Sem Value) (r:R2):Prop:=
 ∀(pins:List (Addr×Obj)) (s:Shared) (σ:St) (H:Hp) (x y:V) (v u:Value) (Q:VK),Inv X pins σ H s->RelV x v->RelV y u->r x y H Q->
  wpAny (model X.prog X.w) X.A (f v u) (EP X pins σ Q) X.xe s
noncomputable def Jb (X:Cx) (f:Value->Sem Value) (r:V->Hp->VK->Prop):Prop:=
 ∀(pins:List (Addr×Obj)) (s:Shared) (σ:St) (H:Hp) (x:V) (v:Value) (Q:VK),Inv X pins σ H s->RelV x v->r x H Q->
  wpAny (model X.prog X.w) X.A (f v) (EP X pins σ Q) X.xe s
noncomputable def gC (X:Cx) (f:Value) (r:List V->Hp->VK->Prop):Prop:=
 ∀(pins:List (Addr×Obj)) (s:Shared) (σ:St) (H:Hp) (xs:List V) (us:List Value) (Q:VK),Inv X pins σ H s->Vals xs us->r xs H Q->
  wpAny (model X.prog X.w) X.A (call f us) (EP X pins σ Q) X.xe s
noncomputable def E3 (r:R2) (ta tb:TE):TE:=λσ H Q=>ta σ H λx H1=>tb σ H1 λy H2=>r x y H2 Q
noncomputable def JF (r:V->Hp->VK->Prop) (ta:TE):TE:=λσ H Q=>ta σ H λx H1=>r x H1 Q
noncomputable def EJ (g:Int->Int->V):R2:=λx y H Q=>∃i j,x=.int i/\y=.int j/\Q (g i j) H
noncomputable def rU (g:Int->V):V->Hp->VK->Prop:=λx H Q=>∃i,x=.int i/\Q (g i) H
section
variable{X:Cx}{a b c:Expr}{ta tb tc:TE}{pos:Pos}
theorem GC (ha:PE X a ta) (hb:PE X b tb){pins:List (Addr×Obj)}{s:Shared}{σ:St}{H:Hp}{R:V->V->Hp->Prop}(I:Inv X pins σ H s)
  (h:ta σ H λx H1=>tb σ H1 λy H2=>R x y H2){Q:Value->Shared->Prop}{f:Value->Value->Sem Value}
  (hf:∀v u s2 x y H2,Inv X pins σ H2 s2->RelV x v->RelV y u->R x y H2->wpAny (model X.prog X.w) X.A (f v u) Q X.xe s2):
  wpAny (model X.prog X.w) X.A (eval a X.env) (λv s₁=>wpAny (model X.prog X.w) X.A (eval b X.env) (λu s₂=>wpAny (model X.prog X.w) X.A (f v u) Q X.xe s₂) X.xe s₁) X.xe s:=by
 refine b8 (ha pins s σ H _ I h) λv s1 ⟨x,H1,I1,r1,q1⟩=>?_;refine b8 (hb pins s1 σ H1 _ I1 q1) λu s2 ⟨y,H2,I2,r2,q2⟩=>?_;exact hf v u s2 x y H2 I2 r1 r2 q2
theorem cu {op:Operator}{r:R2}(ho:rV X (binaryOp op) r) (ha:PE X a ta) (hb:PE X b tb):PE X (.BinOp a op b pos) (E3 r ta tb):=by
 intro pins s σ H Q I h;exact wpAny_BinOp (GC ha hb I h λv u s2 x y H2 I2 rx ry q=>ho pins s2 σ H2 x y v u Q I2 rx ry q)
theorem br {op:UnaryOp}{r:V->Hp->VK->Prop}(ho:Jb X (unaryOp op) r) (ha:PE X a ta):PE X (.UnaryOp op a pos) (JF r ta):=by
 intro pins s σ H Q I h;exact UnaryOp_ (b8 (ha pins s σ H _ I h) λv s1 ⟨x,H1,I1,r1,q1⟩=>ho pins s1 σ H1 x v Q I1 r1 q1)
theorem HW {f:Value->Value->Sem Value}{g:Int->Int->Int}
  (rule:∀(i j:Int) (t u:Tok) (s:Shared) (Q:Value->Shared->Prop) (E:Value->Shared->Prop),Q (.int (g i j) s.toks) {s with toks:=s.toks+1}->wpAny (model X.prog X.w) X.A (f (.int i t) (.int j u)) Q E s):
  rV X f (EJ λi j=>.int (g i j)):=by
 intro pins s σ H x y v u Q I rx ry h;obtain⟨i,j,rfl,rfl,q⟩:=h;obtain⟨t,rfl⟩:=rx;obtain⟨t',rfl⟩:=ry;exact rule i j t t' s _ _ ⟨.int (g i j),H,I.tok _,⟨_,rfl⟩,q⟩
theorem E4 {f:Value->Value->Sem Value}{g:Int->Int->Bool}
  (rule:∀(i j:Int) (t u:Tok) (s:Shared) (Q:Value->Shared->Prop) (E:Value->Shared->Prop),Q (.bool (g i j)) s->wpAny (model X.prog X.w) X.A (f (.int i t) (.int j u)) Q E s):
  rV X f (EJ λi j=>.bl (g i j)):=by
 intro pins s σ H x y v u Q I rx ry h;obtain⟨i,j,rfl,rfl,q⟩:=h;obtain⟨t,rfl⟩:=rx;obtain⟨t',rfl⟩:=ry;exact rule i j t t' s _ _ ⟨.bl (g i j),H,I,rfl,q⟩
theorem fj:rV X (binaryOp .Add) (EJ λi j=>.int (i+j)):=HW λ_ _ _ _ _ _ _ q=>add_int q
theorem wa:rV X (binaryOp .Sub) (EJ λi j=>.int (i - j)):=HW λ_ _ _ _ _ _ _ q=>sub_int q
theorem JG {f:Value->Sem Value}{g:Int->Int}
  (rule:∀(i:Int) (t:Tok) (s:Shared) (Q:Value->Shared->Prop) (E:Value->Shared->Prop),Q (.int (g i) s.toks) {s with toks:=s.toks+1}->wpAny (model X.prog X.w) X.A (f (.int i t)) Q E s):
  Jb X f (rU λi=>.int (g i)):=by
 intro pins s σ H x v Q I rx h;obtain⟨i,rfl,q⟩:=h;obtain⟨t,rfl⟩:=rx;exact rule i t s _ _ ⟨.int (g i),H,I.tok _,⟨_,rfl⟩,q⟩
theorem aS:Jb X (unaryOp .USub) (rU λi=>.int (-i)):=JG λ_ _ _ _ _ q=>neg_int q
end
noncomputable def HX:V->V->Bool
 |.bQ,.bQ=>true|.bQ,.int _=>true|.int _,.bQ=>true|.bQ,.bl _=>true|.bl _,.bQ=>true|.bQ,.str _=>true|.str _,.bQ=>true
 |.int _,.int _=>true|.bl _,.bl _=>true|.str _,.str _=>true|.xO _,.xO _=>true
 |.int _,.str _=>true|.str _,.int _=>true|.bl _,.str _=>true|.str _,.bl _=>true
 |_,_=>false
noncomputable def JH:R2:=λx y H Q=>HX x y=true/\Q (.bl (decide (x=y))) H
noncomputable def JI:R2:=λx y H Q=>HX x y=true/\Q (.bl (!decide (x=y))) H
theorem AN {i j:Int}:decide (V.int i=V.int j)=(i==j):=by
 rw[Bool.eq_iff_iff];simp
theorem C4 {i j:Bool}:decide (V.bl i=V.bl j)=(i==j):=by
 rw[Bool.eq_iff_iff];simp
theorem AO {i j:Str}:decide (V.str i=V.str j)=(i==j):=by
 rw[Bool.eq_iff_iff];simp
theorem AQ {i j:Array UInt8}:decide (V.xO i=V.xO j)=(i.toList==j.toList):=by
 rw[Bool.eq_iff_iff];cases i;cases j;simp
section
variable{X:Cx}{a b c:Expr}{ta tb tc:TE}{pos:Pos}
theorem bB {pins:List (Addr×Obj)}{σ:St}{H:Hp}{s:Shared}{Q:VK}{k k':Bool}(I:Inv X pins σ H s) (q:Q (.bl k) H) (e:k=k'):EP X pins σ Q (.bool k') s:=by
 subst e;exact⟨.bl k,H,I,rfl,q⟩
theorem bj:rV X (compareOp .Eq) JH:=by
 intro pins s σ H x y v u Q I rx ry h;obtain⟨hs,q⟩:=h;cases x with
 |bQ=>
  cases rx;cases y with
  |bQ=>cases ry;exact PySem.EqNone.eq_none_none (bB I q (by simp))
  |bl j=>cases ry;exact PySem.EqNone.eq_none_bool (bB I q (by simp))
  |int j=>obtain⟨t',rfl⟩:=ry;exact PySem.EqNone.eq_none_int (bB I q (by simp))
  |str j=>obtain⟨t',rfl⟩:=ry;exact PySem.EqNone.eq_none_str (bB I q (by simp))
  |_=>exact absurd (show false=true from hs) J8
 |bl i=>
  cases rx;cases y with
  |bQ=>cases ry;exact PySem.EqNone.eq_bool_none (bB I q (by simp))
  |bl j=>cases ry;exact eq_bool (bB I q C4)
  |str j=>obtain⟨t',rfl⟩:=ry;exact PySem.EqMixed.eq_bool_str (bB I q (by simp))
  |_=>exact absurd (show false=true from hs) J8
 |int i=>
  obtain⟨t,rfl⟩:=rx;cases y with
  |bQ=>cases ry;exact PySem.EqNone.eq_int_none (bB I q (by simp))
  |int j=>obtain⟨t',rfl⟩:=ry;exact eq_int (bB I q AN)
  |str j=>obtain⟨t',rfl⟩:=ry;exact PySem.EqMixed.eq_int_str (bB I q (by simp))
  |_=>exact absurd (show false=true from hs) J8
 |str i=>
  obtain⟨t,rfl⟩:=rx;cases y with
  |bQ=>cases ry;exact PySem.EqNone.eq_str_none (bB I q (by simp))
  |bl j=>cases ry;exact PySem.EqMixed.eq_str_bool (bB I q (by simp))
  |int j=>obtain⟨t',rfl⟩:=ry;exact PySem.EqMixed.eq_str_int (bB I q (by simp))
  |str j=>obtain⟨t',rfl⟩:=ry;exact eq_str (bB I q AO)
  |_=>exact absurd (show false=true from hs) J8
 |xO i=>
  obtain⟨t,rfl⟩:=rx;cases y with
  |xO j=>obtain⟨t',rfl⟩:=ry;exact PySem.W.eq_bytes (bB I q AQ)
  |_=>exact absurd (show false=true from hs) J8
 |_=>cases y<;>exact absurd (show false=true from hs) J8
theorem vi:rV X (compareOp .NotEq) JI:=by
 intro pins s σ H x y v u Q I rx ry h;obtain⟨hs,q⟩:=h;cases x with
 |bQ=>
  cases rx;cases y with
  |bQ=>cases ry;exact PySem.EqNone.ne_none_none (bB I q (by simp))
  |bl j=>cases ry;exact PySem.EqNone.ne_none_bool (bB I q (by simp))
  |int j=>obtain⟨t',rfl⟩:=ry;exact PySem.EqNone.ne_none_int (bB I q (by simp))
  |str j=>obtain⟨t',rfl⟩:=ry;exact PySem.EqNone.ne_none_str (bB I q (by simp))
  |_=>exact absurd (show false=true from hs) J8
 |bl i=>
  cases rx;cases y with
  |bQ=>cases ry;exact PySem.EqNone.ne_bool_none (bB I q (by simp))
  |bl j=>cases ry;exact ne_bool (bB I q (congrArg not C4))
  |str j=>obtain⟨t',rfl⟩:=ry;exact PySem.EqMixed.ne_bool_str (bB I q (by simp))
  |_=>exact absurd (show false=true from hs) J8
 |int i=>
  obtain⟨t,rfl⟩:=rx;cases y with
  |bQ=>cases ry;exact PySem.EqNone.ne_int_none (bB I q (by simp))
  |int j=>obtain⟨t',rfl⟩:=ry;exact ne_int (bB I q (congrArg not AN))
  |str j=>obtain⟨t',rfl⟩:=ry;exact PySem.EqMixed.ne_int_str (bB I q (by simp))
  |_=>exact absurd (show false=true from hs) J8
 |str i=>
  obtain⟨t,rfl⟩:=rx;cases y with
  |bQ=>cases ry;exact PySem.EqNone.ne_str_none (bB I q (by simp))
  |bl j=>cases ry;exact PySem.EqMixed.ne_str_bool (bB I q (by simp))
  |int j=>obtain⟨t',rfl⟩:=ry;exact PySem.EqMixed.ne_str_int (bB I q (by simp))
  |str j=>obtain⟨t',rfl⟩:=ry;exact ne_str (bB I q (congrArg not AO))
  |_=>exact absurd (show false=true from hs) J8
 |xO i=>
  obtain⟨t,rfl⟩:=rx;cases y with
  |xO j=>obtain⟨t',rfl⟩:=ry;exact PySem.W.ne_bytes (bB I q (congrArg not AQ))
  |_=>exact absurd (show false=true from hs) J8
 |_=>cases y<;>exact absurd (show false=true from hs) J8
theorem qG:rV X (compareOp .Lt) (EJ λi j=>.bl (decide (i<j))):=E4 λ_ _ _ _ _ _ _ q=>lt_int q
theorem cB:rV X (compareOp .LtE) (EJ λi j=>.bl (decide (i<=j))):=E4 λ_ _ _ _ _ _ _ q=>le_int q
theorem xV:rV X (compareOp .Gt) (EJ λi j=>.bl (decide (j<i))):=E4 λ_ _ _ _ _ _ _ q=>gt_int q
theorem C5:rV X (compareOp .GtE) (EJ λi j=>.bl (decide (j<=i))):=E4 λ_ _ _ _ _ _ _ q=>ge_int q
theorem aD (b:Expr){op:CmpOp}(h:op≠.In:=by decide) (h2:op≠.NotIn:=by decide):behindInMarks op b=false:=by
 have e1:(op==CmpOp.In)=false:=by cases op<;>first|rfl|exact absurd rfl h
 have e2:(op==CmpOp.NotIn)=false:=by cases op<;>first|rfl|exact absurd rfl h2
 cases b<;>simp[behindInMarks,e1,e2]
theorem cn {op:CmpOp}{r:R2}(ho:rV X (compareOp op) r) (ha:PE X a ta) (hb:PE X b tb) (hm:behindInMarks op b=false):PE X (.Compare a [op] [b] pos) (E3 r ta tb):=by
 intro pins s σ H Q I h;exact wpAny_Compare1 (GC ha hb I h λv u s2 x y H2 I2 rx ry q=>ho pins s2 σ H2 x y v u Q I2 rx ry q) hm
noncomputable def C6 (t:TE):TT:=λσ H Q=>t σ H λx H'=>∃k,x=.bl k/\Q k H'
theorem aE {op:CmpOp}{r:R2}(ho:rV X (compareOp op) r) (ha:PE X a ta) (hb:PE X b tb) (hm:behindInMarks op b=false):PT X (.Compare a [op] [b] pos) (C6 (E3 r ta tb)):=by
 intro pins s σ H Q I h;refine wpAny_isTrue_Compare1 (b8 (ha pins s σ H _ I h) λv s1 ⟨x,H1,I1,r1,q1⟩=>b8 (hb pins s1 σ H1 _ I1 q1) λu s2 ⟨y,H2,I2,r2,q2⟩=>
  b8 (ho pins s2 σ H2 x y v u _ I2 r1 r2 q2) λc s3 ⟨z,H3,I3,r3,k,e,q3⟩=>?_) hm
 subst e;cases r3;exact wpAny_truthy_bool ⟨H3,I3,q3⟩
noncomputable def C7 (r r':R2) (ta tb tc:TE):TE:=λσ H Q=>ta σ H λx H1=>tb σ H1 λy H2=>r x y H2 λz H3=>∃k,z=.bl k/\
 (if k=true then tc σ H3 λw' H4=>r' y w' H4 Q else Q (.bl false) H3)
theorem ku {op op':CmpOp}{r r':R2}(ho:rV X (compareOp op) r) (ho':rV X (compareOp op') r') (ha:PE X a ta) (hb:PE X b tb) (hc:PE X c tc)
  (hm:lastMarks [op,op'] [b,c]=false:=by with_unfolding_all rfl):PE X (.Compare a [op,op'] [b,c] pos) (C7 r r' ta tb tc):=by
 intro pins s σ H Q I h;refine Compare_chain (b8 (ha pins s σ H _ I h) λv s1 ⟨x,H1,I1,r1,q1⟩=>chain_link (b8 (hb pins s1 σ H1 _ I1 q1) λu s2 ⟨y,H2,I2,r2,q2⟩=>
  b8 (ho pins s2 σ H2 x y v u _ I2 r1 r2 q2) λd s3 ⟨z,H3,I3,r3,k,e,q3⟩=>?_)) hm
 subst e;cases r3;refine wpAny_truthy_bool ?_;cases k with
 |false=>exact ite_ff ⟨.bl false,H3,I3,rfl,q3⟩
 |true=>exact ite_tt (chain_last (b8 (hc pins s3 σ H3 _ I3 q3) λw' s4 ⟨z',H4,I4,r4,q4⟩=>ho' pins s4 σ H4 y z' u w' Q I4 r2 r4 q4))
theorem kx {op op':CmpOp}{r r':R2}(ho:rV X (compareOp op) r) (ho':rV X (compareOp op') r') (ha:PE X a ta) (hb:PE X b tb) (hc:PE X c tc)
  (hm:lastMarks [op,op'] [b,c]=false:=by with_unfolding_all rfl):PT X (.Compare a [op,op'] [b,c] pos) (C6 (C7 r r' ta tb tc)):=by
 intro pins s σ H Q I h;refine isTrue_chain (b8 (ha pins s σ H _ I h) λv s1 ⟨x,H1,I1,r1,q1⟩=>test_link (b8 (hb pins s1 σ H1 _ I1 q1) λu s2 ⟨y,H2,I2,r2,q2⟩=>
  b8 (ho pins s2 σ H2 x y v u _ I2 r1 r2 q2) λd s3 ⟨z,H3,I3,r3,k,e,q3⟩=>?_)) hm
 subst e;cases r3;refine wpAny_truthy_bool ?_;cases k with
 |false=>
  obtain⟨k',e',q'⟩:=q3;cases e';exact ite_ff ⟨H3,I3,q'⟩
 |true=>
  refine ite_tt (test_last (b8 (hc pins s3 σ H3 _ I3 q3) λw' s4 ⟨z',H4,I4,r4,q4⟩=>b8 (ho' pins s4 σ H4 y z' u w' _ I4 r2 r4 q4) λd' s5 ⟨z2,H5,I5,r5,k2,e2,q5⟩=>?_));subst e2;cases r5;exact wpAny_truthy_bool ⟨H5,I5,q5⟩
theorem zC:(sizeLine:Nat)<2^63:=by rw[sizeLine_eq];decide
theorem vals1 {x:V}{us:List Value}(r:Vals [x] us):∃u,us=[u]/\RelV x u:=by
 cases r with
 |cons r1 r2=>cases r2;exact⟨_,rfl,r1⟩
theorem vals2 {x y:V}{us:List Value}(r:Vals [x,y] us):∃u w',us=[u,w']/\RelV x u/\RelV y w':=by
 cases r with
 |cons r1 r2=>
  cases r2 with
  |cons r3 r4=>cases r4;exact⟨_,_,rfl,r1,r3⟩
theorem BG (hc:X.calm=true):gC X (.builtin "max") (λxs H Q=>∃i j,xs=[.int i,.int j]/\Q (.int (if j>i then j else i)) H):=by
 intro pins s σ H xs us Q I r h;obtain⟨i,j,rfl,q⟩:=h;obtain⟨u,w',rfl,⟨t,rfl⟩,⟨t',rfl⟩⟩:=vals2 r;refine max_two_ints (I.ok.hd hc) λh' tk k=>⟨_,H,I.kept k,?_,q⟩
 by_cases hj:j>i
 ·rw[if_pos hj,if_pos hj];exact⟨_,rfl⟩
 ·rw[if_neg hj,if_neg hj];exact⟨_,rfl⟩
theorem BH (hc:X.calm=true):gC X (.builtin "min") (λxs H Q=>∃i j,xs=[.int i,.int j]/\Q (.int (if j<i then j else i)) H):=by
 intro pins s σ H xs us Q I r h;obtain⟨i,j,rfl,q⟩:=h;obtain⟨u,w',rfl,⟨t,rfl⟩,⟨t',rfl⟩⟩:=vals2 r;refine min_two_ints (I.ok.hd hc) λh' tk k=>⟨_,H,I.kept k,?_,q⟩
 by_cases hj:j<i
 ·rw[if_pos hj,if_pos hj];exact⟨_,rfl⟩
 ·rw[if_neg hj,if_neg hj];exact⟨_,rfl⟩
end
structure zD (h:Heap) (x dx C:Addr) (mA:Str->Option Value):Prop where
 obj:h.get? x=some (PySem.W.instObj C dx)
 ns:h.Ns1 dx mA
 ne:dx≠x
theorem BI {h:Heap}{dx:Addr}{mA:Str->Option Value}(n:h.Ns1 dx mA):∃od,h.get? dx=some od/\∀name,PySem.W.lookIn name od=some (mA name):=by
 obtain⟨o,es,ep,ho,hd,hk,_,hm⟩:=n;refine⟨o,ho,λname=>?_⟩;have e:=hm name;unfold nsFind findBy at e;rw[←Array.find?_toList]at e;unfold PySem.W.lookIn;rw[hd];dsimp only;split
 ·rename_i y q;rw[q]at e;exact congrArg some e
 ·rename_i q;rw[q]at e;have a:es.toList.any (·.refKey)=false:=by
   rw[List.any_eq_false];intro y hy;obtain⟨z,t,hkey⟩:=hk y (Array.mem_toList_iff.mp hy);simp[DictEntry.refKey,hkey]
  have a':¬es.toList.any (·.refKey)=true:=by rw[a];exact J8
  rw[if_neg a'];exact congrArg some e
theorem zD.look {h:Heap}{x dx C:Addr}{mA:Str->Option Value}(I:zD h x dx C mA):∃od,PySem.W.InstAt h x (PySem.W.instObj C dx) C (some od)/\∀name,PySem.W.lookIn name od=some (mA name):=
 let ⟨od,ho,hl⟩:=BI I.ns
 ⟨od,⟨I.obj,rfl,rfl,ho⟩,hl⟩
section
variable{prog:Program}{w:World}{A:Around}{E:Value->Shared->Prop}{s:Shared}{K:PySem.W.Frag}{x dx C f:Addr}{mA:Str->Option Value}{name:Str}{v:Value}
theorem get_map {expr:Bool}{Q:Value->Shared->Prop}(X:K.In s.heap) (I:zD s.heap x dx C mA) (hg:PySem.W.plainGet K C name=true) (hh:PySem.W.hasDictIn K C=true)
  (ha:PySem.W.findIn K (.ref C) name=some none) (hv:mA name=some v) (hv':PySem.W.handedIn v=true) (h:Q v {s with toks:=s.toks+1}):
  wpAny (model prog w) A (getAttr (.ref x) name expr) Q E s:=by
 obtain⟨od,J,hl⟩:=I.look;exact PySem.W.get_value X J (PySem.W.plainGet_of hg).1 (PySem.W.findObj_own hh ha rfl (by rw[hl,hv])) hv' h
theorem C8 {pl:Sem Bool}{Q:Value×List Value->Shared->Prop}(X:K.In s.heap) (I:zD s.heap x dx C mA) (hg:PySem.W.plainGet K C name=true)
  (hf:PySem.W.findIn K (.ref C) name=some (some (.ref f))) (ht:PySem.W.isFn K (.ref f)=true) (hv:mA name=none) (h:Q (.ref f,[.ref x]) s):
  wpAny (model prog w) A (getMethod (.ref x) name pl) Q E s:=by
 obtain⟨od,J,hl⟩:=I.look;exact PySem.W.method_fn X J (PySem.W.plainGet_of hg).1 (PySem.W.plainGet_of hg).2 hf (beq_iff_eq.mp ht) (by show(PySem.W.lookIn name od).map (·.isSome)=some false;rw[hl,hv];rfl) h
theorem E5 {ns:List Str}{Q:Unit->Shared->Prop}(X:K.In s.heap) (I:zD s.heap x dx C mA)
  (hs:PySem.W.findIn K (.ref C) "__setattr__"=some (some (.builtin "object.__setattr__"))) (hp:PySem.W.plainOver K C=true) (ht:PySem.W.takerIn K C name=some none) (hh:PySem.W.hasDictIn K C=true)
  (hw:PySem.Within mA ns) (hsz:ns.length<=sizeLine)
  (h:∀h',zD h' x dx C (λy=>if y=name then some v else mA y)->Heap.SameBut dx s.heap h'->Q () {s with heap:=h',toks:=s.toks+2}):
  wpAny (model prog w) A (setAttr (.ref x) name v) Q E s:=by
 obtain⟨od,J,hl⟩:=I.look;refine PySem.W.set_plain X J hs (PySem.W.osa_open (s:={s with toks:=s.toks+1}) (r:=none) X J hp ht λb=>?_);obtain⟨cd,hc,hd'⟩:=PySem.W.any_some hh;have hx:s.heap.get? x=some ⟨.ref C,some dx,.plain,#[]⟩:=I.obj;refine JO (JP (JO (JO (wpAny_loadPart hx (JO (PySem.W.Looks.here (s:={s with toks:=s.toks+1}) (PySem.W.looks_clsIn X hc) ?_))))));rw[hd'];refine JP (a:=some dx) (JO (JP (JO ?_)));refine wpAny_nsSet1 (s:={s with toks:=s.toks+1}) I.ns λh' hn2 hs2=>?_;obtain⟨oD,esD,epD,hoD,hdD,hcD⟩:=hn2.count (PySem.Within.cons name v hw);refine JO (wpAny_lookBehind hoD (by rw[hdD];exact pastItsLine_dict (Kj hcD (by rw[Kb];omega))) ?_);exact JP (h _ ⟨(hs2.2 _ (Ne.symm I.ne)).trans I.obj,hn2,I.ne⟩ hs2)
theorem C9 {R:Result->Shared->Prop}{vs:List Value}{kw:List (Str×Value)}(X:K.In s.heap) (hm:PySem.W.makesIn K C=true)
  (hi:PySem.W.findIn K (.ref C) "__init__"=some (some (.ref f))) (hf:PySem.W.typeIn K (.ref f)=some (.type "function"))
  (h:codeAny (model prog w) (A.under (.builtin "type.__call__" ⟨.ref C::vs,kw⟩)) (.call (.ref f) ⟨.ref (s.heap.objs.size+1)::vs,kw⟩) (PySem.W.InitBack (s.heap.objs.size+1) R)
   {s with heap:=(s.heap.push PySem.W.emptyDict).push (PySem.W.instObj C s.heap.objs.size)}):
  codeAny (model prog w) A (.call (.ref C) ⟨vs,kw⟩) R s:=by
 obtain⟨hh,g,d,t,os⟩:=s;exact PySem.W.make_core (PySem.W.makes_of X hm) (PySem.W.looks_findIn X hi) (λself=>PySem.W.bind_fn X self hf) (.inl rfl) h
end
noncomputable def bb (f:Str) (v:V):List (Str×V)->List (Str×V)
 |[]=>[(f,v)]
 |(g,x)::r=>if g=f then(g,v)::r else(g,x)::bb f v r
theorem qH (f g:Str) (v:V):∀fs:List (Str×V),(bb f v fs).lookup g=if g=f then some v else fs.lookup g
 |[]=>by
  show List.lookup g [(f,v)]=_
  by_cases h:g=f
  ·have hb:(g==f)=true:=beq_iff_eq.mpr h;simp only[List.lookup,hb,if_pos h]
  ·have hb:(g==f)=false:=beq_eq_false_iff_ne.mpr h;simp only[List.lookup,hb,if_neg h]
 |(k,x)::r=>by
  have ih:=qH f g v r;rw[show bb f v ((k,x)::r)=(if k=f then(k,v)::r else(k,x)::bb f v r)from rfl]
  by_cases hk:k=f
  ·rw[if_pos hk]
   by_cases h:g=k
   ·have hb:(g==k)=true:=beq_iff_eq.mpr h;simp only[List.lookup,hb,if_pos (h.trans hk)]
   ·have hb:(g==k)=false:=beq_eq_false_iff_ne.mpr h;simp only[List.lookup,hb,if_neg (λe:g=f=>h (e.trans hk.symm))]
  ·rw[if_neg hk]
   by_cases h:g=k
   ·have hb:(g==k)=true:=beq_iff_eq.mpr h;simp only[List.lookup,hb,if_neg (λe:g=f=>hk (h.symm.trans e))]
   ·have hb:(g==k)=false:=beq_eq_false_iff_ne.mpr h;simp only[List.lookup,hb];exact ih
theorem pN (f:Str) (v:V):∀fs:List (Str×V),f∈(bb f v fs).map (·.1)/\∀g,g∈fs.map (·.1)->g∈(bb f v fs).map (·.1)
 |[]=>⟨by simp[bb],λg h=>by simp at h⟩
 |(k,x)::r=>by
  obtain⟨i1,i2⟩:=pN f v r;rw[show bb f v ((k,x)::r)=(if k=f then(k,v)::r else(k,x)::bb f v r)from rfl]
  by_cases hk:k=f
  ·rw[if_pos hk];subst hk;exact⟨by simp,λg h=>by simpa using h⟩
  ·rw[if_neg hk];refine⟨?_,λg h=>?_⟩
   ·rw[Kq];exact JW _ i1
   ·rw[Kq]at h ⊢;rcases JX.mp h with e|e
    ·exact JX.mpr (.inl e)
    ·exact JW _ (i2 g e)
theorem qI (f:Str) (v:V):∀fs:List (Str×V),(bb f v fs).length<=fs.length+1
 |[]=>by simp[bb]
 |(k,x)::r=>by
  have ih:=qI f v r;rw[show bb f v ((k,x)::r)=(if k=f then(k,v)::r else(k,x)::bb f v r)from rfl]
  by_cases hk:k=f
  ·rw[if_pos hk,Kb,Kb];omega
  ·rw[if_neg hk,Kb,Kb];omega
theorem iZ.some_of {v:V}{o:Option Value}(r:iZ (some v) o):∃u,o=some u/\RelV v u:=by
 cases o with
 |none=>exact(show False from r).elim
 |some u=>exact⟨u,rfl,r⟩
theorem iZ.none_of {o:Option Value}(r:iZ none o):o=none:=by
 cases o with
 |none=>rfl
 |some u=>exact(show False from r).elim
theorem BJ {v:V}{u:Value}(r:RelV v u):PySem.W.handedIn u=true:=by
 cases v with
 |bQ=>cases(show u=Value.none from r);rfl
 |bl b=>cases(show u=Value.bool b from r);rfl
 |int i=>obtain⟨t,e⟩:=(show ∃t,u=Value.int i t from r);cases e;rfl
 |str x=>obtain⟨t,e⟩:=(show ∃t,u=Value.str x t from r);cases e;rfl
 |xO b=>obtain⟨t,e⟩:=(show ∃t,u=Value.bytes b t from r);cases e;rfl
 |F2 b=>obtain⟨t,e⟩:=(show ∃t,u=Value.float b t from r);cases e;rfl
 |ref a=>cases(show u=Value.ref a from r);rfl
 |ty n=>cases(show u=Value.type n from r);rfl
section
variable{P:Program}{w:World}{H H':Hp}{h h':Heap}{a C dx:Addr}{fs fs':List (Str×V)}
theorem rW (bq:ko P w H h) (e:H a=some (.ins C dx fs)):∃mA,zD h a dx C mA/\(∀f,iZ (fs.lookup f) (mA f))/\PySem.Within mA (fs.map (·.1))/\fs.length<=1000/\H dx=some (.own a):=by
 obtain⟨d,z,ne,ob,mA,n,r,q⟩:=(show bV P w H h a (.ins C dx fs)from bq a _ e);exact⟨mA,⟨ob,n,ne⟩,r,q,z,d⟩
end
structure uE (K:PySem.W.Frag) (C:Addr):Prop where
 pg:PySem.W.plainGet K C Str.empty=true
 hd:PySem.W.hasDictIn K C=true
 po:PySem.W.plainOver K C=true
 sa:PySem.W.findIn K (.ref C) "__setattr__"=some (some (.builtin "object.__setattr__"))
theorem uE.get {K:PySem.W.Frag}{C:Addr}(c:uE K C) (f:Str):PySem.W.plainGet K C f=true:=c.pg
noncomputable def ay (K:PySem.W.Frag) (C:Addr) (f:Str):Prop:=PySem.W.findIn K (.ref C) f=some none
theorem ay.HY {K:PySem.W.Frag}{C:Addr}{f:Str}(n:ay K C f):PySem.W.takerIn K C f=some none:=by
 unfold PySem.W.takerIn;rw[show PySem.W.findIn K (.ref C) f=some none from n];rfl
structure Meth (K:PySem.W.Frag) (C:Addr) (m:Str) (f:Addr):Prop where
 at_:PySem.W.findIn K (.ref C) m=some (some (.ref f))
 fn:PySem.W.isFn K (.ref f)=true
 kp:PySem.W.keepIn K (.ref f)=true
section
variable{X:Cx}{pins:List (Addr×Obj)}{σ:St}{H:Hp}{s:Shared}{a C dx:Addr}{fs:List (Str×V)}{f:Str}{v:V}{A:Around}{E:Value->Shared->Prop}
theorem sH {b:Bool}{Q:Value->Shared->Prop}(I:Inv X pins σ H s) (e:H a=some (.ins C dx fs)) (c:uE X.K C) (n:ay X.K C f) (l:fs.lookup f=some v)
  (h:∀u s',Inv X pins σ H s'->RelV v u->Q u s'):wpAny (model X.prog X.w) A (getAttr (.ref a) f b) Q E s:=by
 obtain⟨mA,O,r,_,_,_⟩:=rW I.bq e;obtain⟨u,hu,ru⟩:=iZ.some_of (v:=v) (o:=mA f) (by rw[←l];exact r f);exact get_map I.qE O (c.get f) c.hd n hu (BJ ru) (h u _ (I.tok _) ru)
theorem mX {m:Str}{g:Addr}{pl:Sem Bool}{Q:Value×List Value->Shared->Prop}(I:Inv X pins σ H s) (e:H a=some (.ins C dx fs)) (c:uE X.K C) (k:Meth X.K C m g) (l:fs.lookup m=none)
  (h:Q (.ref g,[.ref a]) s):wpAny (model X.prog X.w) A (getMethod (.ref a) m pl) Q E s:=by
 obtain⟨mA,O,r,_,_,_⟩:=rW I.bq e;have hn:mA m=none:=iZ.none_of (by rw[←l];exact r m);exact C8 I.qE O (c.get m) k.at_ k.fn hn h
theorem sI {y:V}{u:Value}{Q:Unit->Shared->Prop}(I:Inv X pins σ H s) (e:H a=some (.ins C dx fs)) (c:uE X.K C) (n:ay X.K C f) (hl:fs.length<1000) (ry:RelV y u)
  (h:∀s',Inv X pins σ (upd H a (.ins C dx (bb f y fs))) s'->Q () s'):wpAny (model X.prog X.w) A (setAttr (.ref a) f u) Q E s:=by
 obtain⟨mA,O,r,wi,_,ho⟩:=rW I.bq e;have hz:(fs.map (·.1)).length<=sizeLine:=by rw[JQ,sizeLine_eq];omega
 refine E5 I.qE O c.sa c.po n.HY c.hd wi hz λh' O' sb=>h _ ?_;have hd:∃o,h'.get? dx=some o:=let ⟨o,_,_,e',_⟩:=O'.ns;⟨o,e'⟩
 refine I.write (x:=a) (e:=dx) (by rw[e];exact True.intro) (.inr ho) (λb q hb z=>(sb.2 b hb).trans z) hd ?_;refine⟨by rw[ak O.ne];exact ho,?_,O.ne,O'.obj,_,O'.ns,λg=>?_,λg hg=>?_⟩
 ·have:=qI f y fs;omega
 ·show iZ ((bb f y fs).lookup g) (if g=f then some u else mA g);rw[qH]
  by_cases q:g=f
  ·rw[if_pos q,if_pos q];exact ry
  ·rw[if_neg q,if_neg q];exact r g
 ·by_cases q:g=f
  ·rw[q];exact(pN f y fs).1
  ·refine(pN f y fs).2 g (wi g λz=>hg ?_);show(if g=f then some u else mA g)=none;rw[if_neg q];exact z
theorem Inv.made (I:Inv X pins σ H s):Inv X pins σ (upd (upd H s.heap.objs.size (.own (s.heap.objs.size+1))) (s.heap.objs.size+1) (.ins C s.heap.objs.size []))
  {s with heap:=(s.heap.push PySem.W.emptyDict).push (PySem.W.instObj C s.heap.objs.size)}:=by
 have e1:(s.heap.push PySem.W.emptyDict).get? s.heap.objs.size=some PySem.W.emptyDict:=J4 s.heap rfl;have e2:((s.heap.push PySem.W.emptyDict).push (PySem.W.instObj C s.heap.objs.size)).get? (s.heap.objs.size+1)=some (PySem.W.instObj C s.heap.objs.size):=by
  have:=J4 (s.heap.push PySem.W.emptyDict) (o:=PySem.W.instObj C s.heap.objs.size) rfl
  rwa [Km]at this
 have e3:(s.heap.push PySem.W.emptyDict).Ns s.heap.objs.size (λ_=>none):=⟨PySem.W.emptyDict,#[],_,e1,rfl,(λe he=>absurd he (by simp)),λ_=>rfl⟩;have I1:=I.laid (a:=s.heap.objs.size) (o:=.own (s.heap.objs.size+1)) (h':=s.heap.push PySem.W.emptyDict) (t':=s.toks) (λb u q=>JR _ q) (J3 _) ⟨_,e1⟩;refine I1.laid (a:=s.heap.objs.size+1) (o:=.ins C s.heap.objs.size []) (t':=s.toks) (λb u q=>JR _ q) (Nat.le_of_eq (Km _ _)) ?_;have ne:s.heap.objs.size≠s.heap.objs.size+1:=Kg (Nat.lt_succ_self _);refine⟨by rw[ak ne,ab],Kk _,ne,e2,λ_=>none,(Heap.Ns1.of_empty e3).at λo q=>JR _ q,λ_=>True.intro,λy hy=>absurd rfl hy⟩
theorem E6 {prog:Program}{w:World}{env:Env}{e:Expr}{f:Str}{pos:Pos}{s:Shared}{Q:Value->Shared->Prop}(hb:attributeBase e f env (eval e env)=eval e env)
  (h:wpAny (model prog w) A (eval e env) (λo s₁=>wpAny (model prog w) A (getAttr o f true) Q E s₁) E s):wpAny (model prog w) A (eval (.Attribute e f pos) env) Q E s:=
 Attribute_any_ h (by rw[arm_eval_Attribute,hb])
end
noncomputable def Jc (K:PySem.W.Frag) (ta tv:TE) (f:Str):TS:=λD σ H=>tv σ H λy H1=>ta σ H1 λx H2=>∃a C dx fs,x=.ref a/\H2 a=some (.ins C dx fs)/\uE K C/\ay K C f/\fs.length<1000/\
 D.nx σ (upd H2 a (.ins C dx (bb f y fs)))
noncomputable def HZ (X:Cx) (op:Operator) (rd:V->V->Hp->VK->Prop):Prop:=
 ∀(pins:List (Addr×Obj)) (s:Shared) (σ:St) (H:Hp) (x y:V) (u v:Value) (Q:VK),Inv X pins σ H s->RelV x u->RelV y v->rd x y H Q->wpAny (model X.prog X.w) X.A (inplaceOp op u v) (EP X pins σ Q) X.xe s
noncomputable def E7 (K:PySem.W.Frag) (ta tv:TE) (rd:V->V->Hp->VK->Prop) (f:Str):TS:=λD σ H=>ta σ H λx H1=>∃a C dx fs v,x=.ref a/\H1 a=some (.ins C dx fs)/\uE K C/\ay K C f/\fs.lookup f=some v/\
 tv σ H1 λy H2=>rd v y H2 λz H3=>∃dx' fs',H3 a=some (.ins C dx' fs')/\fs'.length<1000/\D.nx σ (upd H3 a (.ins C dx' (bb f z fs')))
section
variable{X:Cx}{o e value:Expr}{f:Str}{pos pos' tpos:Pos}{ta tv:TE}
theorem aP (ha:PE X o ta) (hv:PE X value tv) (hs:swapsWith value (some (.Attribute o f pos')) pos.line X.env=pure false):PS X (.Assign [.Attribute o f pos'] value pos) (Jc X.K ta tv f):=by
 intro pins s σ H D I h;refine plainObj_wpAny_Assign_Attribute (b8 (hv pins s σ H _ I h) λu s1 ⟨y,H1,I1,ry,q⟩=>b8 (ha pins s1 σ H1 _ I1 q) λov s2 ⟨x,H2,I2,rx,a,C,dx,fs,ex,ea,c,n,l,q2⟩=>?_) hs;subst ex;obtain rfl:ov=Value.ref a:=rx;exact sI I2 ea c n l ry λs3 I3=>⟨σ,_,I3,q2⟩
theorem lN {op:Operator}{rd:V->V->Hp->VK->Prop}(ha:PE X o ta) (hv:PE X value tv) (hop:HZ X op rd):PS X (.AugAssign (.Attribute o f tpos) op value pos) (E7 X.K ta tv rd f):=by
 intro pins s σ H D I h;refine wpAny_AugAssign_AttributeAny (b8 (ha pins s σ H _ I h) λov s1 ⟨x,H1,I1,rx,a,C,dx,fs,v,ex,ea,c,n,l,q⟩=>?_);subst ex;obtain rfl:ov=Value.ref a:=rx;refine sH I1 ea c n l λu s2 I2 ru=>b8 (hv pins s2 σ H1 _ I2 q) λw3 s3 ⟨y,H2,I3,ry,q3⟩=>b8 (hop pins s3 σ H2 v y u w3 _ I3 ru ry q3) λw4 s4 ⟨z,H3,I4,rz,dx',fs',ea',l',q4⟩=>?_;exact sI I4 ea' c n l' rz λs5 I5=>⟨σ,_,I5,q4⟩
noncomputable def Jd:V->V->Hp->VK->Prop:=λx y H Q=>∃i j,x=.int i/\y=.int j/\Q (.int (i+j)) H
theorem wk:HZ X .Add Jd:=by
 rintro pins s σ H x y u v Q I rx ry ⟨i,j,rfl,rfl,q⟩;obtain⟨t,rfl⟩:=(show ∃t,u=Value.int i t from rx);obtain⟨t',rfl⟩:=(show ∃t',v=Value.int j t' from ry);exact PyProof.Rows.iadd_int ⟨.int (i+j),H,I.tok _,⟨_,rfl⟩,q⟩
theorem F7 {pl:Sem Bool}{m:Str}{apos:Pos}{args:List Expr}{pins:List (Addr×Obj)}{s:Shared}{σ:St}{H:Hp}{Q:Value->Shared->Prop}{te:TE}(he:PE X e te) (I:Inv X pins σ H s)
  (h:te σ H λx H1=>∃a C dx fs g,x=.ref a/\H1 a=some (.ins C dx fs)/\uE X.K C/\Meth X.K C m g/\fs.lookup m=none/\
   ∀s1,Inv X pins σ H1 s1->wpAny (model X.prog X.w) X.A (callWith pos (.ref g) [.ref a] (backTo pos (starEach args X.env)) (backToKw pos (keywordEach [] X.env))) Q X.xe s1)
  (ht:eval (.Call (.Attribute e m apos) args [] pos) X.env=(do
   let ov←eval e X.env
   standAt apos.atName
   let (f,first)←holding [ov] (getMethod ov m pl)
   callWith pos f first (backTo pos (starEach args X.env)) (backToKw pos (keywordEach [] X.env)))):
  wpAny (model X.prog X.w) X.A (eval (.Call (.Attribute e m apos) args [] pos) X.env) Q X.xe s:=by
 refine PySem.W.methodCall_KW (pl:=pl) (b8 (he pins s σ H _ I h) λu s1 ⟨x,H1,I1,rx,a,C,dx,fs,g,ex,ea,c,k,l,q⟩=>?_) ht;subst ex;obtain rfl:u=Value.ref a:=rx;exact mX I1 ea c k l (q s1 I1)
end
section
variable{X:Cx}{pins:List (Addr×Obj)}{σ:St}{H:Hp}{s:Shared}{A:Around}{E:Value->Shared->Prop}{Q:Value->Shared->Prop}{c:Value}{b:Bool}
inductive pO (K:PySem.W.Frag) (H:Hp):V->Value->Prop where
 |bQ:pO K H .bQ (.type "NoneType")
 |bl (x:Bool):pO K H (.bl x) (.type "bool")
 |int (i:Int):pO K H (.int i) (.type "int")
 |str (x:Str):pO K H (.str x) (.type "str")
 |F2 (x:UInt64):pO K H (.F2 x) (.type "float")
 |lst {a:Addr}{xs:List V}(e:H a=some (.lst xs)):pO K H (.ref a) (.type "list")
 |d5 {a:Addr}{o:Obj}{xs:List V}(e:H a=some (.d5 o (.lst xs))):pO K H (.ref a) (.type "list")
 |tup {a:Addr}{xs:List V}(e:H a=some (.tup xs)):pO K H (.ref a) (.type "tuple")
 |dK {a:Addr}{kvs:List (Key×V)}(e:H a=some (.dK kvs)):pO K H (.ref a) (.type "dict")
 |dT {a:Addr}{kvs:List (List Key×V)}(e:H a=some (.dT kvs)):pO K H (.ref a) (.type "dict")
 |ins {a C dx:Addr}{fs:List (Str×V)}(e:H a=some (.ins C dx fs)) (cl:uE K C) (ha:PySem.W.findIn K (.ref C) "__class__"=some (some (.builtin "object.__class__")))
   (hn:PySem.W.specialIn K (.builtin "object.__class__") "__get__"=some (some (.builtin "getset_descriptor.__get__"))) (htk:PySem.W.takesIn K (.builtin "object.__class__")=some true)
   (hm:PySem.W.mroIn K C (.type "object")=some true):pO K H (.ref a) (.ref C)
theorem BK {x:V}{u t:Value}(I:Inv X pins σ H s) (rx:RelV x u) (ty:pO X.K H x t) (e:PySem.W.kitOne X.K t c=some b) (h:∀tk,Q (.bool b) {s with toks:=tk}):
  wpAny (model X.prog X.w) A (call (.builtin "isinstance") [u,c]) Q E s:=by
 cases ty with
 |bQ=>cases(show u=Value.none from rx);exact PySem.W.kia_one PySem.W.kitx_none I.qE True.intro e (λz=>nomatch z) h
 |bl y=>cases(show u=Value.bool y from rx);exact PySem.W.kia_one PySem.W.kitx_bool I.qE True.intro e (λz=>nomatch z) h
 |int i=>obtain⟨t,q⟩:=(show ∃t,u=Value.int i t from rx);cases q;exact PySem.W.kia_one PySem.W.kitx_int I.qE True.intro e (λz=>nomatch z) h
 |str y=>obtain⟨t,q⟩:=(show ∃t,u=Value.str y t from rx);cases q;exact PySem.W.kia_one PySem.W.kitx_str I.qE True.intro e (λz=>nomatch z) h
 |F2 y=>obtain⟨t,q⟩:=(show ∃t,u=Value.float y t from rx);cases q;exact PySem.W.kia_one PySem.W.kitx_float I.qE True.intro e (λz=>nomatch z) h
 | @lst a xs ea=>
  cases(show u=Value.ref a from rx);obtain⟨_,_,n,_,h1⟩:=(show bV X.prog X.w H s.heap a (.lst xs)from I.bq a _ ea);exact PySem.W.kia_one PySem.W.kitx_list I.qE ⟨_,h1,rfl⟩ e (λz=>nomatch z) h
 | @d5 a ob xs ea=>
  cases(show u=Value.ref a from rx);obtain⟨_,_,_,n,_,h1⟩:=(show bV X.prog X.w H s.heap a (.d5 ob (.lst xs))from I.bq a _ ea);exact PySem.W.kia_one PySem.W.kitx_list I.qE ⟨_,h1,rfl⟩ e (λz=>nomatch z) h
 | @tup a xs ea=>
  cases(show u=Value.ref a from rx);obtain⟨_,_,_,p⟩:=(show bV X.prog X.w H s.heap a (.tup xs)from I.bq a _ ea);obtain⟨o,h1,h2,_⟩:=p;exact PySem.W.kia_one PySem.W.kitx_tuple I.qE ⟨o,h1,h2⟩ e (λz=>nomatch z) h
 | @dK a kvs ea=>
  cases(show u=Value.ref a from rx);obtain⟨_,_,vs,_,p⟩:=(show bV X.prog X.w H s.heap a (.dK kvs)from I.bq a _ ea);obtain⟨o,es,ep,h1,h2,_⟩:=p;exact PySem.W.kia_one PySem.W.kitx_dict I.qE ⟨o,h1,h2.1⟩ e (λz=>nomatch z) h
 | @dT a kvs ea=>
  cases(show u=Value.ref a from rx);obtain⟨_,_,xs,_,o,es,ep,h1,h2,_⟩:=(show bV X.prog X.w H s.heap a (.dT kvs)from I.bq a _ ea);exact PySem.W.kia_one PySem.W.kitx_dict I.qE ⟨o,h1,h2.1⟩ e (λz=>nomatch z) h
 | @ins a C dx fs ea cl ha hn htk hm=>
  cases(show u=Value.ref a from rx);obtain⟨mA,O,_⟩:=rW I.bq ea;obtain⟨od,J,_⟩:=O.look;exact PySem.W.kia_one (PySem.W.kitx_own (cl.get _) cl.hd ha hn htk hm) I.qE J e (λz=>nomatch z) h
end
structure da (k:Nat) (A:Around):Prop where
 hd:A.handled=none
 dp:A.depth+3*k+5<recursionLimit
 un:A.units+16*k+200<cLine
theorem da.mono {j k:Nat}{A:Around}(r:da k A) (h:j<=k):da j A:=⟨r.hd,by have:=r.dp;omega,by have:=r.un;omega⟩
theorem da.deeper {k:Nat}{A:Around}(r:da (k+1) A) (env:Env):da k (A.deeper env):=
 ⟨r.hd,by have:=r.dp;show A.depth+1+3*k+5<_;omega,by have:=r.un;show A.units+3+16*k+200<_;omega⟩
theorem zE {A:Around}{C:Addr}{us:List Value}{kw:List (Str×Value)}:(A.under (.builtin "type.__call__" ⟨.ref C::us,kw⟩)).depth=A.depth+1:=by
 first|rfl|simp[Around.under,Code.weight,Code.isCreation,Code.isGuard,Code.isCaller,Code.frames,Code.isFrame,guardIds]
theorem zF {A:Around}{C:Addr}{us:List Value}{kw:List (Str×Value)}:(A.under (.builtin "type.__call__" ⟨.ref C::us,kw⟩)).units=A.units+1:=by
 first|rfl|simp[Around.under,Code.cUnits,Code.frames,Code.isFrame]
theorem da.make {k:Nat}{A:Around}(r:da (k+1) A) (C:Addr) (us:List Value) (kw:List (Str×Value)):da k (A.under (.builtin "type.__call__" ⟨.ref C::us,kw⟩)):=
 ⟨r.hd,by have:=r.dp;rw[zE];omega,by have:=r.un;rw[zF];omega⟩
theorem da.depth {k:Nat}{A:Around}(r:da k A):A.depth<recursionLimit:=by have:=r.dp;omega
theorem da.units {k:Nat}{A:Around}(r:da k A):A.units+64<cLine:=by have:=r.un;omega
noncomputable def kj:TA:=λ_ H Q=>Q [] H
noncomputable def dF (ta:TE) (tr:TA):TA:=λσ H Q=>ta σ H λx H1=>tr σ H1 λxs H2=>Q (x::xs) H2
section
variable{X:Cx}{e:Expr}{es:List Expr}{te:TE}{t:TA}{pos:Pos}
theorem ae:PA X [] kj:=λ_ _ _ _ H Q I h=>Calls.spliced_nil ⟨[],H,I,.nil,h⟩
theorem aa (ha:PE X e te) (hr:PA X es t) (hs:starEach (e::es) X.env=(false,eval e X.env)::starEach es X.env:=by rfl):PA X (e::es) (dF te t):=by
 intro pos pins s σ H Q I h;rw[hs];show wpAny _ _ (spliced ((false,eval e X.env)::backTo pos (starEach es X.env))) _ _ s;refine Calls.spliced_cons (b8 (ha pins s σ H _ I h) λu s1 ⟨x,H1,I1,r1,q1⟩=>?_);exact b8 (hr pos pins s1 σ H1 _ I1 q1) λus s2 ⟨xs,H2,I2,r2,q2⟩=>⟨x::xs,H2,I2,.cons r1 r2,q2⟩
noncomputable def E8 (t:TA):TE:=λσ H Q=>t σ H λxs H1=>xs.length<=sizeLine/\∀p,H1 p=none->Q (.ref p) (upd H1 p (.tup xs))
noncomputable def BL (t:TA):TE:=λσ H Q=>t σ H λxs H1=>xs.length<=sizeLine/\∀p,H1 p=none->Q (.ref p) (upd H1 p (.lst xs))
theorem bS {x1}(h:PA X es t):PE X (.Tuple es x1 pos) (E8 t):=by
 intro pins s σ H Q I hq;refine wpAny_Tuple_spliced (b8 (h pos pins s σ H _ I hq) λus s1 ⟨xs,H1,I1,r,z,q⟩=>⟨by rw[←r.length];exact z,?_⟩);have hf:H1 s1.heap.objs.size=none:=I1.bq.fresh (J3 _);refine⟨.ref s1.heap.objs.size,upd H1 s1.heap.objs.size (.tup xs),I1.laid (t':=s1.toks) (λb u e=>JR _ e) (J3 _) ?_,rfl,q _ hf⟩;exact⟨z,us,r,⟨_,J4 _ rfl,rfl,_,rfl⟩⟩
theorem aC (h:PA X es t):PE X (.List es pos) (BL t):=by
 intro pins s σ H Q I hq;refine wpAny_List_spliced (b8 (h pos pins s σ H _ I hq) λus s1 ⟨xs,H1,I1,r,z,q⟩=>⟨by rw[←r.length];exact z,?_⟩);have hf:H1 s1.heap.objs.size=none:=I1.bq.fresh (J3 _);refine⟨.ref s1.heap.objs.size,upd H1 s1.heap.objs.size (.lst xs),I1.laid (t':=s1.toks) (λb u e=>JR _ e) (J3 _) ?_,rfl,q _ hf⟩;exact⟨z,us,0,r,J4 _ rfl⟩
end
noncomputable abbrev Sp:=List V->Hp->VK->XK->Prop
noncomputable abbrev Cv:=List Env->Hp->Shared->XK->Value->Shared->Prop
structure zG (P:Program) (w:World) (K:PySem.W.Frag) (mg:Str->Option Value) (base:Heap) (A:Around) (outer:List Env) (s:Shared) (H:Hp):Prop where
 frames:A.frames=some outer
 mod:Mod K mg base
 bs:∀b o,base.get? b=some o->s.heap.get? b=some o/\H b=none
 EH:base.objs.size<=s.heap.objs.size
 rC:s.heap.FunFrames base outer
 Gw:∀b∈CU outer,H b=none
 bq:ko P w H s.heap
 bare:AllBare s.gens
noncomputable def CE (outer:List Env) (P:Program) (w:World) (H:Hp) (s:Shared) (Q:VK) (u:Value) (s':Shared):Prop:=
 ∃v H',s'.os=s.os/\AllBare s'.gens/\Un (CU outer) [] H H' s.heap s'.heap/\ko P w H' s'.heap/\RelV v u/\Q v H'
noncomputable def CR (CX:Cv) (outer:List Env) (P:Program) (w:World) (H:Hp) (s:Shared) (Q:VK) (E:XK) (r:Result) (s':Shared):Prop:=
 match r with
 |.ok (.ret u)=>CE outer P w H s Q u s'
 |.ok _=>False
 |.error e=>CX outer H s E e s'
structure kz (P:Program) (w:World) (K:PySem.W.Frag) (mg:Str->Option Value) (base:Heap) (CX:Cv) (k:Nat) (f:Addr) (fd:FuncData) (ps:List Str) (sp:Sp):Prop where
 len:∀vs H Q E,sp vs H Q E->vs.length=ps.length
 run:∀(A:Around) (outer:List Env) (s:Shared) (H:Hp) (args:Args) (us:List Value) (vs:List V) (Q:VK) (E:XK),da k A->zG P w K mg base A outer s H->BindsTo s fd args (ps.zip us)->Vals vs us->sp vs H Q E->
  codeAny (model P w) A (.call (.ref f) args) (CR CX outer P w H s Q E) s
theorem zG.make {P:Program}{w:World}{K:PySem.W.Frag}{mg:Str->Option Value}{base:Heap}{A:Around}{outer:List Env}{s:Shared}{H:Hp}(e:zG P w K mg base A outer s H) (C:Addr) (us:List Value) (kw:List (Str×Value)):
  zG P w K mg base (A.under (.builtin "type.__call__" ⟨.ref C::us,kw⟩)) outer s H:=⟨by first|exact e.frames|(simpa[Around.under,Code.envs,Code.isFrame,pushEnvs]using e.frames),e.mod,e.bs,e.EH,e.rC,e.Gw,e.bq,e.bare⟩
section
variable{X:Cx}{pins:List (Addr×Obj)}{σ:St}{H:Hp}{s s':Shared}
theorem Inv.Ia (I:Inv X pins σ H s):zG X.prog X.w X.K X.mg X.base X.A X.stack s H:=
 ⟨I.ok.frames,I.ok.mod,I.bs,Kj I.ok.EH I.sz,I.stack,I.AI,I.bq,I.bare⟩
theorem Inv.after {Q:VK}{u:Value}(I:Inv X pins σ H s) (h:CE X.stack X.prog X.w H s Q u s'):EP X pins σ Q u s':=by
 obtain⟨v,H',os,bare,un,bq,r,q⟩:=h;obtain⟨hh,g,d,t,os'⟩:=s';obtain rfl:os'=s.os:=os;exact⟨v,H',I.call (h':=hh) (g':=g) (d':=d) (t':=t) (ch:=[]) un bq bare (λb z=>absurd z (by simp)),r,q⟩
end
noncomputable def AR (sp:Sp) (dvs:List V) (E:XK) (t:TA):TE:=λσ H Q=>t σ H λvs H1=>sp (vs++dvs) H1 Q E
noncomputable def xW (C:Addr) (m:Str) (sp:Sp) (dvs:List V) (E:XK) (ta:TE) (t:TA):TE:=λσ H Q=>ta σ H λx H1=>∃a dx fs,x=.ref a/\H1 a=some (.ins C dx fs)/\fs.lookup m=none/\
 t σ H1 λvs H2=>sp (x::(vs++dvs)) H2 Q E
noncomputable def xX (C:Addr) (sp:Sp) (dvs:List V) (E:XK) (t:TA):TE:=λσ H Q=>t σ H λvs H1=>∀x dx,H1 x=none->H1 dx=none->dx≠x->
 sp (.ref x::(vs++dvs)) (upd (upd H1 dx (.own x)) x (.ins C dx [])) (λv H2=>v=.bQ/\Q (.ref x) H2) E
noncomputable def Binds (K:PySem.W.Frag) (fd:FuncData) (ps:List Str) (ds:List Value):Prop:=
 ∀(s:Shared) (us:List Value),K.In s.heap->(us++ds).length=ps.length->BindsTo s fd ⟨us,[]⟩ (ps.zip (us++ds))
theorem Binds.all {K:PySem.W.Frag}{fd:FuncData}{ps:List Str}(h:∀us:List Value,us.length=ps.length->bindArgs fd ⟨us,[]⟩=pure (ps.zip us)):Binds K fd ps []:=λs us _ hl=>by
 rw[Ks]at hl ⊢;exact .of_eq (h us hl)
noncomputable def Passes (CX:Cv) (X:Cx) (E:XK):Prop:=∀(pins:List (Addr×Obj)) (σ:St) (H:Hp) (s:Shared) (e:Value) (s':Shared),Inv X pins σ H s->CX X.stack H s E e s'->X.xe e s'
section
variable{X:Cx}{CX:Cv}{k:Nat}{f C:Addr}{fd:FuncData}{ps:List Str}{sp:Sp}{dvs:List V}{ds:List Value}{E:XK}{x m:Str}{p pos apos:Pos}{e o:Expr}{es:List Expr}{ta:TE}{t:TA}
theorem zH {pins:List (Addr×Obj)}{σ:St}{H:Hp}{s:Shared}{Q:VK}{us:List Value}{vs:List V}(F:kz X.prog X.w X.K X.mg X.base CX k f fd ps sp) (hr:da k X.A) (hb:Binds X.K fd ps ds) (hd:Vals dvs ds) (hx:Passes CX X E)
  (I:Inv X pins σ H s) (r:Vals vs us) (h:sp (vs++dvs) H Q E):wpAny (model X.prog X.w) X.A (call (.ref f) us) (EP X pins σ Q) X.xe s:=by
 have r2:Vals (vs++dvs) (us++ds):=r.append hd;have hl:(us++ds).length=ps.length:=by rw[←r2.length];exact F.len _ _ _ _ h
 refine wpAny_call (codeAny_mono (F.run X.A X.stack s H ⟨us,[]⟩ (us++ds) (vs++dvs) Q E hr I.Ia (hb s us I.qE hl) r2 h) λr s' hq=>?_);cases r with
 |error e=>exact hx pins σ H s e s' I hq
 |ok fl=>
  cases fl with
  |ret u=>exact I.after hq
  |next=>exact False.elim hq
  |brk=>exact False.elim hq
  |cont=>exact False.elim hq
theorem E9 (F:kz X.prog X.w X.K X.mg X.base CX k f fd ps sp) (hr:da k X.A) (hg:Gl X x) (hm:X.mg x=some (.ref f)) (hk:PySem.W.keepIn X.K (.ref f)=true) (hb:Binds X.K fd ps ds) (hd:Vals dvs ds) (hx:Passes CX X E)
  (ha:PA X (e::es) t) (hdb:(x==("__debug__":Str))=false:=by decide) (he:starEach (e::es) X.env=(false,eval e X.env)::starEach es X.env:=by rfl) (hpl:(backTo pos (starEach es X.env)).any (·.1)=false:=by rfl):
  PE X (.Call (.Name x p) (e::es) [] pos) (AR sp dvs E t):=by
 intro pins s σ H Q I h;refine wpAny_Call_Name_kw (rT I hg hm ?_ hdb);refine PySem.W.callWith_K (h₀:=X.base) I.ok.mod.HK hk (b8 (ha pos pins s σ H _ I h) λus s1 ⟨vs,H1,I1,r,q⟩=>⟨I1.qE,?_⟩) he hpl;exact zH F hr hb hd hx I1 r q
theorem Fb {pl:Sem Bool}(he:PE X o ta) (c:uE X.K C) (hm:Meth X.K C m f) (F:kz X.prog X.w X.K X.mg X.base CX k f fd ps sp) (hr:da k X.A) (hb:Binds X.K fd ps ds) (hd:Vals dvs ds) (hx:Passes CX X E) (ha:PA X (e::es) t)
  (hst:starEach (e::es) X.env=(false,eval e X.env)::starEach es X.env:=by rfl) (hpl:(backTo pos (starEach es X.env)).any (·.1)=false:=by rfl)
  (ht:eval (.Call (.Attribute o m apos) (e::es) [] pos) X.env=(do
   let ov←eval o X.env
   standAt apos.atName
   let (f,first)←holding [ov] (getMethod ov m pl)
   callWith pos f first (backTo pos (starEach (e::es) X.env)) (backToKw pos (keywordEach [] X.env))):=by rfl):
  PE X (.Call (.Attribute o m apos) (e::es) [] pos) (xW C m sp dvs E ta t):=by
 intro pins s σ H Q I h;refine PySem.W.methodCall_KW (pl:=pl) (b8 (he pins s σ H _ I h) λu s1 ⟨x,H1,I1,rx,a,dx,fs,ex,ea,l,q⟩=>?_) ht;subst ex;obtain rfl:u=Value.ref a:=rx;refine mX I1 ea c hm l ?_;refine PySem.W.callWith_K (first:=[.ref a]) (h₀:=X.base) I.ok.mod.HK hm.kp (b8 (ha pos pins s1 σ H1 _ I1 q) λus s2 ⟨vs,H2,I2,r,q2⟩=>⟨I2.qE,?_⟩) hst hpl;exact zH (us:=.ref a::us) (vs:=.ref a::vs) F hr hb hd hx I2 (.cons rfl r) q2
theorem Dc {pl:Sem Bool}(he:PE X o ta) (c:uE X.K C) (hm:Meth X.K C m f) (F:kz X.prog X.w X.K X.mg X.base CX k f fd ps sp) (hr:da k X.A) (hb:Binds X.K fd ps ds) (hd:Vals dvs ds) (hx:Passes CX X E)
  (ht:eval (.Call (.Attribute o m apos) [] [] pos) X.env=(do
   let ov←eval o X.env
   standAt apos.atName
   let (f,first)←holding [ov] (getMethod ov m pl)
   callWith pos f first (backTo pos (starEach [] X.env)) (backToKw pos (keywordEach [] X.env))):=by rfl):
  PE X (.Call (.Attribute o m apos) [] [] pos) (xW C m sp dvs E ta kj):=by
 intro pins s σ H Q I h;refine PySem.W.methodCall_KW (pl:=pl) (b8 (he pins s σ H _ I h) λu s1 ⟨x,H1,I1,rx,a,dx,fs,ex,ea,l,q⟩=>?_) ht;subst ex;obtain rfl:u=Value.ref a:=rx;refine mX I1 ea c hm l ?_;exact PySem.W.callWith_K0 (first:=[.ref a]) I1.qE hm.kp (zH (us:=[.ref a]) (vs:=[.ref a]) F hr hb hd hx I1 (.cons rfl .nil) q)
structure Mk (K:PySem.W.Frag) (C f:Addr):Prop where
 makes:PySem.W.makesIn K C=true
 init:PySem.W.findIn K (.ref C) "__init__"=some (some (.ref f))
 fn:PySem.W.isFn K (.ref f)=true
 kp:PySem.W.keepIn K (.ref C)=true
theorem xY {pins:List (Addr×Obj)}{σ:St}{H:Hp}{s:Shared}{Q:VK}{us:List Value}{vs:List V}(M:Mk X.K C f) (F:kz X.prog X.w X.K X.mg X.base CX k f fd ps sp) (hr:da (k+1) X.A) (hb:Binds X.K fd ps ds) (hd:Vals dvs ds)
  (hx:Passes CX X E) (I:Inv X pins σ H s) (r:Vals vs us)
  (h:∀x dx,H x=none->H dx=none->dx≠x->sp (.ref x::(vs++dvs)) (upd (upd H dx (.own x)) x (.ins C dx [])) (λv H2=>v=.bQ/\Q (.ref x) H2) E):
  wpAny (model X.prog X.w) X.A (call (.ref C) us) (EP X pins σ Q) X.xe s:=by
 have hq:=h (s.heap.objs.size+1) s.heap.objs.size (I.bq.fresh (Nat.le_succ _)) (I.bq.fresh (J3 _)) (Kg (Nat.lt_succ_self _));have I2:=Inv.made (C:=C) I;have r2:Vals (V.ref (s.heap.objs.size+1)::(vs++dvs)) (Value.ref (s.heap.objs.size+1)::(us++ds)):=.cons rfl (r.append hd);have hl:(Value.ref (s.heap.objs.size+1)::us++ds).length=ps.length:=by
  have e:=r2.length;rw[F.len _ _ _ _ hq]at e;exact e.symm
 refine wpAny_call (C9 (f:=f) I.qE M.makes M.init (beq_iff_eq.mp M.fn) (codeAny_mono (F.run _ X.stack _ _ ⟨Value.ref (s.heap.objs.size+1)::us,[]⟩ (Value.ref (s.heap.objs.size+1)::(us++ds)) _ _ E (hr.make C us [])
  (I2.Ia.make C us []) (hb _ (Value.ref (s.heap.objs.size+1)::us) I2.qE hl) r2 hq) λr s' hq'=>?_))
 cases r with
 |error e=>exact hx pins σ _ _ e s' I2 hq'
 |ok fl=>
  cases fl with
  |ret u=>
   obtain⟨v,H',I3,rv,ev,q3⟩:=I2.after hq';subst ev;exact⟨rv,⟨V.ref (s.heap.objs.size+1),H',I3,rfl,q3⟩⟩
  |next=>exact False.elim hq'
  |brk=>exact False.elim hq'
  |cont=>exact False.elim hq'
theorem Fc (M:Mk X.K C f) (F:kz X.prog X.w X.K X.mg X.base CX k f fd ps sp) (hr:da (k+1) X.A) (hg:Gl X x) (hm:X.mg x=some (.ref C)) (hb:Binds X.K fd ps ds) (hd:Vals dvs ds) (hx:Passes CX X E)
  (ha:PA X (e::es) t) (hdb:(x==("__debug__":Str))=false:=by decide) (he:starEach (e::es) X.env=(false,eval e X.env)::starEach es X.env:=by rfl) (hpl:(backTo pos (starEach es X.env)).any (·.1)=false:=by rfl):
  PE X (.Call (.Name x p) (e::es) [] pos) (xX C sp dvs E t):=by
 intro pins s σ H Q I h;refine wpAny_Call_Name_kw (rT I hg hm ?_ hdb);refine PySem.W.callWith_K (h₀:=X.base) I.ok.mod.HK M.kp (b8 (ha pos pins s σ H _ I h) λus s1 ⟨vs,H1,I1,r,q⟩=>⟨I1.qE,?_⟩) he hpl;exact xY M F hr hb hd hx I1 r q
theorem Dd (M:Mk X.K C f) (F:kz X.prog X.w X.K X.mg X.base CX k f fd ps sp) (hr:da (k+1) X.A) (hg:Gl X x) (hm:X.mg x=some (.ref C)) (hb:Binds X.K fd ps ds) (hd:Vals dvs ds) (hx:Passes CX X E)
  (hdb:(x==("__debug__":Str))=false:=by decide):PE X (.Call (.Name x p) [] [] pos) (xX C sp dvs E kj):=by
 intro pins s σ H Q I h;refine wpAny_Call_Name_kw (rT I hg hm ?_ hdb);exact PySem.W.callWith_K0 I.qE M.kp (xY (us:=[]) M F hr hb hd hx I .nil h)
end
section
variable{X:Cx}{CX:Cv}{k:Nat}{f C:Addr}{fd:FuncData}{ps ks:List Str}{sp:Sp}{E:XK}{x m:Str}{p pos apos kpos:Pos}{e o:Expr}{es:List Expr}{kws:List Keyword}{te ta:TE}{t tk:TA}{nm:Option Str}
variable{g:List Value->List Value->List Value}{gV:List V->List V->List V}
end
structure aq (N P:List Str) (sc:Scope):Prop where
 kind:sc.kind=.function
 co:sc.isCoroutine=false
 gen:sc.isGenerator=false
 nd:N.Nodup
 pre:N.take P.length=P
 par:∀x∈P,sc.names.lookup x=some .local\/sc.names.lookup x=some .cell
 GD:∀y∈sc.names,y.2≠.free
theorem vj {kindOf:Str->Option NameKind}{x:Str}:∀{binds:List (Str×Value)}{m:Str->Option Value},(∀v,(x,v)∉binds)->bindL kindOf binds m x=m x
 |[],_,_=>rfl
 |(n,v)::r,m,h=>by
  unfold bindL;rw[vj λw hw=>h w (JW _ hw)];split
  ·have:x≠n:=by rintro rfl;exact h v JZ
   simp[this]
  ·rfl
theorem vk {kindOf:Str->Option NameKind}{x:Str}:∀{binds:List (Str×Value)}{m:Str->Option Value},(∀v,(x,v)∉binds)->bindC kindOf binds m x=m x
 |[],_,_=>rfl
 |(n,v)::r,m,h=>by
  unfold bindC;rw[vk λw hw=>h w (JW _ hw)];split
  ·rfl
  ·have:x≠n:=by rintro rfl;exact h v JZ
   simp[this]
theorem vm {kindOf:Str->Option NameKind}{x:Str}{v:Value}:∀{P:List Str}{vs:List Value}{i:Nat}{m:Str->Option Value},P.Nodup->P[i]? =some x->vs[i]? =some v->kindOf x=some .local->
  bindL kindOf (P.zip vs) m x=some v
 |[],_,_,_,_,h,_,_=>by simp at h
 |_::_,[],_,_,_,_,h,_=>by simp at h
 |p::P,w::vs,0,m,nd,h1,h2,hk=>by
  simp at h1 h2;subst h1;subst h2;show bindL kindOf ((p,w)::P.zip vs) m p=_;unfold bindL;rw[vj λv hv=>(Kx.mp nd).1 (List.of_mem_zip hv).1,if_pos hk];simp
 |p::P,w::vs,i+1,m,nd,h1,h2,hk=>by
  show bindL kindOf ((p,w)::P.zip vs) m x=_;unfold bindL;exact vm (i:=i) (Kx.mp nd).2 (by simpa using h1) (by simpa using h2) hk
theorem vn {kindOf:Str->Option NameKind}{x:Str}{v:Value}:∀{P:List Str}{vs:List Value}{i:Nat}{m:Str->Option Value},P.Nodup->P[i]? =some x->vs[i]? =some v->kindOf x≠some .local->
  bindC kindOf (P.zip vs) m x=some v
 |[],_,_,_,_,h,_,_=>by simp at h
 |_::_,[],_,_,_,_,h,_=>by simp at h
 |p::P,w::vs,0,m,nd,h1,h2,hk=>by
  simp at h1 h2;subst h1;subst h2;show bindC kindOf ((p,w)::P.zip vs) m p=_;unfold bindC;rw[vk λv hv=>(Kx.mp nd).1 (List.of_mem_zip hv).1,if_neg hk];simp
 |p::P,w::vs,i+1,m,nd,h1,h2,hk=>by
  show bindC kindOf ((p,w)::P.zip vs) m x=_;unfold bindC;exact vn (i:=i) (Kx.mp nd).2 (by simpa using h1) (by simpa using h2) hk
noncomputable def start (N:List Str) (vs:List V):St:=vs.map some++List.replicate (N.length - vs.length) none
noncomputable def wm (CX:Cv) (P:Program) (w:World) (K:PySem.W.Frag) (mg:Str->Option Value) (base:Heap) (N:List Str) (qual:Str) (scope:Scope) (f:Addr) (cd:Value) (A:Around) (outer:List Env) (s:Shared) (H:Hp) (E:XK):Cx where
 prog:=P
 w:=w
 K:=K
 mg:=mg
 base:=base
 A:=A.deeper (envOfC qual scope s.heap.objs.size f cd)
 N:=N
 vf:=s
 Gv:=H
 env:=envOfC qual scope s.heap.objs.size f cd
 outer:=outer
 stack:=envOfC qual scope s.heap.objs.size f cd::outer
 ex:=[]
 calm:=true
 fn:=λ_=>true
 pn:=[]
 xe:=λe s'=>wpAny (model P w) (A.deeper (envOfC qual scope s.heap.objs.size f cd)) (leaving (envOfC qual scope s.heap.objs.size f cd) e) (λ_ s''=>CX outer H s E e s'') (λe' s''=>CX outer H s E e' s'') s'
theorem xZ {sc:Scope}{n:Nat}{x:Str}(h:sc.names.lookup x=some .cell):∃c,(cellsFrom n sc.names []).lookup x=some c:=by
 have q:=PySem.W.cellsFrom_some sc.names n [] (.inl h);exact Kw.mp q
theorem BM {CX:Cv}{P:Program}{w:World}{K:PySem.W.Frag}{mg:Str->Option Value}{base:Heap}{N ps:List Str}{qual:Str}{scope:Scope}{f:Addr}{cd:Value}{A:Around}{outer:List Env}{s s1:Shared}{H:Hp}{E:XK}{us:List Value}{vs:List V}
  (S:aq N ps scope) (hd:A.handled=none) (e0:zG P w K mg base A outer s H) (hl:vs.length=ps.length) (r:Vals vs us)
  (x:InCallC s s.heap.objs.size (bindL (envOfC qual scope s.heap.objs.size f cd).kindOf (ps.zip us) λ_=>none) (cellsFrom (s.heap.objs.size+1) scope.names []) (bindC (envOfC qual scope s.heap.objs.size f cd).kindOf (ps.zip us) λ_=>none) s1):
  Inv (wm CX P w K mg base N qual scope f cd A outer s H E) [] (start N vs) H s1:=by
 have hpl:ps.length<=N.length:=by have:=congrArg List.length S.pre;rw[Kz]at this;omega
 obtain⟨h1,tk,rfl,hk⟩:=x.done;have noA:∀b:Addr,b∉(wm CX P w K mg base N qual scope f cd A outer s H E).ex:=λb z=>absurd (show b∈([]:List Addr)from z) (by simp);refine⟨⟨e0.mod,S.kind,rfl,rfl,J3 _,λy z c h1 h2=>?_,λy hy=>?_,λy c _ h=>?_,λ_=>hd,Around.frames_deeper e0.frames,.inr ⟨rfl,rfl⟩,λb z=>absurd z (noA b),e0.bs,e0.EH,λb _ _=>noA b,λb z=>absurd z (noA b),e0.rC,e0.Gw⟩,
  rfl,e0.bare,Un.kept hk,⟨_,x.toInCall.ns,λi y v h1 h2 h3=>?_⟩,λy c h=>⟨_,x.cell y c h⟩,e0.bq.fresh (J3 _),λy c h=>?_,λp hp=>absurd (show p∈([]:List (Addr×Obj))from hp) (by simp),e0.bq.kept hk,?_⟩
 ·exact name_of_addr x.apart (PySem.mem_of_lookup h1) (PySem.mem_of_lookup h2)
 ·have hy:scope.names.lookup y=some .cell\/scope.names.lookup y=some .free:=hy;rcases hy with hy|hy
  ·exact xZ hy
  ·exact absurd rfl (S.GD _ (PySem.mem_of_lookup hy))
 ·exact Nat.le_of_lt (x.above y c (PySem.mem_of_lookup h))
 ·have hi:i<vs.length:=by
   unfold start at h2
   by_cases hi:i<vs.length
   ·exact hi
   ·rw[List.getElem?_append_right (by simpa using hi)]at h2;rw[List.getElem?_replicate]at h2;split at h2<;>cases h2
  have ha:vs[i]? =some v:=by
   unfold start at h2;rw[List.getElem?_append_left (by simpa using hi),J5]at h2;cases e:vs[i]? with
   |none=>rw[e]at h2;cases h2
   |some a=>rw[e]at h2;cases h2;rfl
  obtain⟨u,hu,rv⟩:=r.get ha;have hp:ps[i]? =some y:=by
   rw[←S.pre,List.getElem?_take_of_lt (by omega)];exact h1
  have ndP:ps.Nodup:=by rw[←S.pre];exact S.nd.sublist (List.take_sublist _ _)
  refine⟨u,rv,?_⟩;rcases S.par y (Kd hp)with k|k
  ·exact .inl ⟨k,vm ndP hp hu k⟩
  ·obtain⟨c,e⟩:=xZ (n:=s.heap.objs.size+1) k;refine .inr ⟨.inl k,c,e,?_⟩;have q:=x.cell y c e;rw[vn ndP hp hu (by show scope.names.lookup y≠_;rw[k];decide)]at q;exact q
 ·exact e0.bq.fresh (Nat.le_of_lt (x.above y c (PySem.mem_of_lookup h)))
 ·unfold start;show _=N.length;rw[JV,JQ,List.length_replicate];omega
theorem Ib {CX:Cv}{P:Program}{w:World}{K:PySem.W.Frag}{mg:Str->Option Value}{base:Heap}{k:Nat}{f:Addr}{name qual:Str}{params:Arguments}{body:List Stmt}{scope:Scope}{dV kV doc pm cdv ct oc:Value}{an od:Option Addr}
  {osl:Array (Option Value)}{N ps:List Str}{sp:Sp}(lk:K.lookup f=some ⟨oc,od,.func (PySem.W.fnOf name qual params body scope dV kV doc pm an cdv ct),osl⟩) (hcd:PySem.W.codeIn K cdv qual=true) (S:aq N ps scope)
  (len:∀vs H Q E,sp vs H Q E->vs.length=ps.length)
  (hbody:∀(A:Around) (outer:List Env) (s:Shared) (H:Hp) (vs:List V) (Q:VK) (E:XK),da k (A.deeper (envOfC qual scope s.heap.objs.size f cdv))->sp vs H Q E->
   ∃t,zj (wm CX P w K mg base N qual scope f cdv A outer s H E) body t/\t {nx:=λ_ H'=>Q .bQ H',rt:=Q} (start N vs) H):
  kz P w K mg base CX (k+1) f (PySem.W.fnOf name qual params body scope dV kV doc pm an cdv ct) ps sp:=by
 refine⟨len,λA outer s H args us vs Q E hr e0 hb r hsp=>?_⟩;have hl:=len _ _ _ _ hsp;have KX:K.In s.heap:=e0.mod.HK.keeps λb o e=>(e0.bs b o e).1;have lim:s.heap.NoLimit:=e0.mod.nolimit.keeps λb o e=>(e0.bs b o e).1;have hkind:∀y∈ps.zip us,scope.names.lookup y.1=some .local\/(scope.names.lookup y.1=some .cell/\((cellsFrom (s.heap.objs.size+1) scope.names []).lookup y.1).isSome=true):=λ⟨n,v⟩ hy=>by
  rcases S.par n (List.of_mem_zip hy).1 with q|q
  ·exact .inl q
  ·exact .inr ⟨q,PySem.W.cellsFrom_some _ _ _ (.inl q)⟩
 refine codeAny_call_function hr.depth (KX _ _ lk) rfl S.co S.gen rfl (PySem.W.codeRec_of KX hcd) (hb _ _ _ _ ?_);refine wpAny_newFunctionEnv_cells S.kind hkind λenv he s1 x=>?_;subst he;refine⟨lim.keeps x.toInCall.keep,codeAny_func ?_⟩;obtain⟨t,ht,hq⟩:=hbody A outer s H vs Q E (hr.deeper _) hsp;have I:Inv (wm CX P w K mg base N qual scope f cdv A outer s H E) [] (start N vs) H s1:=BM S hr.hd e0 hl r x;refine wpAny_mono (ht [] s1 (start N vs) H _ I hq) (λfl s' hs=>?_) λe s' hs=>hs;have fin:∀{σ':St}{H':Hp}{v:V}{u:Value},Inv (wm CX P w K mg base N qual scope f cdv A outer s H E) [] σ' H' s'->RelV v u->Q v H'->CE outer P w H s Q u s':=
  λ{σ' H' v u} J rv q=>⟨v,H',J.os,J.bare,J.base,J.bq,rv,q⟩
 cases fl with
 |ret u=>
  obtain⟨v,σ',H',J,rv,q⟩:=hs;exact fin J rv q
 |next=>
  obtain⟨σ',H',J,q⟩:=hs;exact fin (v:=V.bQ) (u:=Value.none) J rfl q
 |brk=>
  obtain⟨_,_,_,q⟩:=hs;exact False.elim q
 |cont=>
  obtain⟨_,_,_,q⟩:=hs;exact False.elim q
section
variable{X:Cx}{x:Str}{p pos:Pos}{e:Expr}{es:List Expr}{t:TA}{id T:String}{r:List V->Hp->VK->Prop}
noncomputable def Je (r:List V->Hp->VK->Prop) (t:TA):TE:=λσ H Q=>t σ H λvs H1=>r vs H1 Q
theorem aO (hc:gC X (.builtin id) r) (hg:Gl X x) (hm:X.mg x=none) (hv:bootBuiltins x=some (.builtin id)) (ha:PA X (e::es) t) (hn:x≠"__name__":=by decide) (hdb:(x==("__debug__":Str))=false:=by decide)
  (he:starEach (e::es) X.env=(false,eval e X.env)::starEach es X.env:=by rfl) (hpl:(backTo pos (starEach es X.env)).any (·.1)=false:=by rfl):PE X (.Call (.Name x p) (e::es) [] pos) (Je r t):=by
 intro pins s σ H Q I h;refine wpAny_Call_Name_kw (zy I hg hm hv ?_ hn hdb);exact PyProof.Rows.callWith_builtin1 (b8 (ha pos pins s σ H _ I h) λus s1 ⟨vs,H1,I1,r1,q1⟩=>hc pins s1 σ H1 vs us Q I1 r1 q1) he hpl
theorem aY (hc:gC X (.type T) r) (hg:Gl X x) (hm:X.mg x=none) (hv:bootBuiltins x=some (.type T)) (ha:PA X (e::es) t) (hn:x≠"__name__":=by decide) (hdb:(x==("__debug__":Str))=false:=by decide)
  (he:starEach (e::es) X.env=(false,eval e X.env)::starEach es X.env:=by rfl) (hpl:(backTo pos (starEach es X.env)).any (·.1)=false:=by rfl):PE X (.Call (.Name x p) (e::es) [] pos) (Je r t):=by
 intro pins s σ H Q I h;refine wpAny_Call_Name_kw (zy I hg hm hv ?_ hn hdb);exact PyProof.Rows.callWith_type1 (b8 (ha pos pins s σ H _ I h) λus s1 ⟨vs,H1,I1,r1,q1⟩=>hc pins s1 σ H1 vs us Q I1 r1 q1) he hpl
end
end L2
namespace HT
open PySem PyProof.Rows
section
open PySem.SeqAt
open PySem.AutoSeq1 (wpAny_loadPart')
open PySem.MeetsSeq PySem.MeetsSeq2 PySem.MeetsSeq3
end
section
variable{prog:Program}{w:World}{A:Around}{E:Value->Shared->Prop}{s:Shared}
noncomputable def zk (n d:Nat):Option Int->Nat
 |none=>d
 |some v=>if v<0 then(v+(n:Int)).toNat else min v.toNat n
theorem AS (n d k:Nat):zk n d (some (k:Int))=min k n:=by
 show(if(k:Int)<0 then((k:Int)+(n:Int)).toNat else min (k:Int).toNat n)=min k n;rw[if_neg (by omega),Ko]
end
end HT
namespace L2
open PySem PySem.Spec PyProof.Rows
noncomputable abbrev TO:=St->Hp->(Option Int->Hp->Prop)->Prop
noncomputable def PO (X:Cx) (e:Option Expr) (t:TO):Prop:=
 ∀(pins:List (Addr×Obj)) (s:Shared) (σ:St) (H:Hp) (Q:Option Int->Hp->Prop),Inv X pins σ H s->t σ H Q->
  wpAny (model X.prog X.w) X.A (evalPart e X.env) (λu s'=>∃o H',Inv X pins σ H' s'/\IsPart u o/\Q o H') X.xe s
noncomputable def Ic (t:TE):TO:=λσ H Q=>t σ H λx H1=>∃i,x=.int i/\Q (some i) H1
section
variable{X:Cx}{e:Expr}{te:TE}{lo hi:Option Expr}{tl th:TO}{pos p2:Pos}
theorem AU (h:PE X e te):PO X (some e) (Ic te):=by
 intro pins s σ H Q I hw;rw[evalPart_some];refine b8 (h pins s σ H _ I hw) λu s1 ⟨x,H1,I1,r1,q1⟩=>?_;obtain⟨i,rfl,q⟩:=q1;obtain⟨t,rfl⟩:=r1;exact⟨some i,H1,I1,.int i t,q⟩
noncomputable def Jz (X:Cx) (r:V->Option Int->Option Int->Hp->VK->Prop):Prop:=
 ∀(pins:List (Addr×Obj)) (s:Shared) (σ:St) (H:Hp) (x:V) (v vl vu:Value) (lo hi:Option Int) (sl:Addr) (Q:VK),Inv X pins σ H s->RelV x v->s.heap.IsSliceOf sl vl vu .none->IsPart vl lo->IsPart vu hi->r x lo hi H Q->
  ∃T id,typeLookup (.type T) "__getitem__"=pure (some (.builtin id))/\s.TypeIs v T/\wpAny (model X.prog X.w) X.A (getItem v (.ref sl)) (EP X pins σ Q) X.xe s
noncomputable def JJ (r:V->Option Int->Option Int->Hp->VK->Prop) (te:TE) (tl th:TO):TE:=λσ H Q=>te σ H λx H1=>tl σ H1 λl H2=>th σ H2 λu H3=>r x l u H3 Q
theorem Df {r:V->Option Int->Option Int->Hp->VK->Prop}(hr:Jz X r) (he:PE X e te) (hl:PO X lo tl) (hu:PO X hi th):PE X (.Subscript e (.Slice lo hi none p2) pos) (JJ r te tl th):=by
 intro pins s σ H Q I h;refine Subscript_ (b8 (he pins s σ H _ I h) λv s1 ⟨x,H1,I1,r1,q1⟩=>?_);refine wpAny_Slice (b8 (hl pins s1 σ H1 _ I1 q1) λvl s2 ⟨l,H2,I2,pl,q2⟩=>b8 (hu pins s2 σ H2 _ I2 q2) λvu s3 ⟨u,H3,I3,pu,q3⟩=>?_);rw[evalPart_none];refine JP ?_;have I4:Inv X pins σ H3 {s3 with heap:=s3.heap.push {cls:=.type "slice",data:=.fields #[vl,vu,.none]}}:=I3.kept (t':=s3.toks) λb ob q=>JR _ q;obtain⟨T,id,hT,ht,hg⟩:=hr pins {s3 with heap:=s3.heap.push {cls:=.type "slice",data:=.fields #[vl,vu,.none]}} σ H3 x v vl vu l u s3.heap.objs.size Q I4 r1 (Heap.IsSliceOf.new ..) pl pu q3;show wpAny (model X.prog X.w) X.A (subscriptTail e (.Slice lo hi none p2) v (.ref s3.heap.objs.size)) (EP X pins σ Q) X.xe {s3 with heap:=s3.heap.push {cls:=.type "slice",data:=.fields #[vl,vu,.none]}};exact tail_any (ops:=[.ref s3.heap.objs.size,v]) ht hT hg (by with_unfolding_all rfl)
noncomputable def BN (xs:List V) (lo hi:Option Int):List V:=(xs.drop (HT.zk xs.length 0 lo)).take (HT.zk xs.length xs.length hi - HT.zk xs.length 0 lo)
theorem x8 (xs:List V) (lo hi:Option Int):(BN xs lo hi).length<=xs.length:=by
 unfold BN;rw[Kz,List.length_drop];omega
end
noncomputable def HF (n:Nat) (i:Int):Option Nat:=if 0<=i then(if i<n then some i.toNat else none)else if -(n:Int)<=i then some (i+n).toNat else none
noncomputable def GF {α:Type}(xs:List α) (i:Int):Option α:=(HF xs.length i).bind λj=>xs[j]?
theorem Fe {n:Nat}{i:Int}{j:Nat}(h:HF n i=some j):seqIndex? i n=some j/\j<n/\-(n:Int)<=i/\i<n:=by
 unfold HF at h
 by_cases h0:0<=i
 ·rw[if_pos h0]at h
  by_cases h1:i<n
  ·rw[if_pos h1]at h;have e:i.toNat=j:=JU h;exact⟨by rw[seqIndex_of h0 h1,e],by omega,by omega,h1⟩
  ·rw[if_neg h1]at h;cases h
 ·rw[if_neg h0]at h
  by_cases h1: -(n:Int)<=i
  ·rw[if_pos h1]at h;have e:(i+n).toNat=j:=JU h;exact⟨by rw[seqIndex_neg (by omega) h1,e],by omega,h1,by omega⟩
  ·rw[if_neg h1]at h;cases h
theorem AV {α:Type}{xs:List α}{i:Int}{v:α}(h:GF xs i=some v):∃j,seqIndex? i xs.length=some j/\xs[j]? =some v/\j<xs.length/\-(xs.length:Int)<=i/\i<xs.length:=by
 unfold GF at h;cases e:HF xs.length i with
 |none=>rw[e]at h;cases h
 |some j=>
  rw[e]at h;obtain⟨h1,h2,h3,h4⟩:=Fe e;exact⟨j,h1,h,h2,h3,h4⟩
theorem Ff {α:Type}{xs:List α}{j:Nat}{v:α}(h:xs[j]? =some v):GF xs (j:Int)=some v:=by
 have hj:j<xs.length:=(J2.mp h).1;have e:HF xs.length (j:Int)=some j:=by
  unfold HF;rw[if_pos (by omega),if_pos (by omega)];simp
 unfold GF;rw[e];exact h
noncomputable def Fg (b:Expr):Prop:=∀o i,subscripted b false o i=operate [o,i] (getItem o i)
noncomputable def IK (X:Cx) (r:R2):Prop:=
 ∀(value slice:Expr) (pins:List (Addr×Obj)) (s:Shared) (σ:St) (H:Hp) (x y:V) (v u:Value) (Q:VK),Inv X pins σ H s->RelV x v->RelV y u->r x y H Q->
  subscripted slice false v u=operate [v,u] (getItem v u)->wpAny (model X.prog X.w) X.A (subscriptTail value slice v u) (EP X pins σ Q) X.xe s
noncomputable def Jf (X:Cx) (id:String) (r:V->List V->Hp->VK->Prop):Prop:=
 ∀(pins:List (Addr×Obj)) (s:Shared) (σ:St) (H:Hp) (x:V) (xs:List V) (v:Value) (us:List Value) (Q:VK),Inv X pins σ H s->RelV x v->Vals xs us->r x xs H Q->
  wpAny (model X.prog X.w) X.A (call (.builtin id) (v::us)) (EP X pins σ Q) X.xe s
section
variable{X:Cx}{a b:Expr}{ta tb:TE}{pos:Pos}
theorem aI {r:R2}(hr:IK X r) (ha:PE X a ta) (hb:PE X b tb) (hs:Fg b):PE X (.Subscript a b pos) (E3 r ta tb):=by
 intro pins s σ H Q I h;exact Subscript_ (GC ha hb I h λv u s2 x y H2 I2 rx ry q=>hr a b pins s2 σ H2 x y v u Q I2 rx ry q (hs _ _))
noncomputable def Jg (K:PySem.W.Frag):R2:=λx y H Q=>∃p xs i v,x=.ref p/\y=.int i/\ba K H p xs/\GF xs i=some v/\Q v H
noncomputable def Fh (K:PySem.W.Frag):R2:=λx y H Q=>∃p xs i v,x=.ref p/\y=.int i/\eJ K H p xs/\GF xs i=some v/\Q v H
theorem aH:IK X (Jg X.K):=by
 intro value slice pins s σ H x y v u Q I rx ry h hs;obtain⟨p,xs,i,z,rfl,rfl,hq,he,q⟩:=h;cases rx;obtain⟨t,rfl⟩:=ry;obtain⟨its,r,pl,hz⟩:=I.list hq;obtain⟨j,h1,h2,h3,h4,h5⟩:=AV he;obtain⟨w,ew,rw'⟩:=r.get h2;have hl:=r.length;have hn:=zC;have fin:EP X pins σ Q w s:=⟨z,H,I,rw',q⟩
 by_cases h0:0<=i
 ·have hj:i.toNat=j:=by
   rw[seqIndex_of h0 h5]at h1;exact JU h1
  exact item_listR pl.isList h0 (by omega) (by rw[hj];simpa using ew) fin hs
 ·have hj:(i+(its.toArray.size:Int)).toNat=j:=by
   rw[seqIndex_neg (by omega) h4]at h1;rw[Kf,←hl];exact JU h1
  exact subscriptTail_builtinR (x:=w) pl.isList.typeIs slot_list_getitem.lookup
   (wpAny_getItem_list_neg (Q:=λr s'=>r=w/\EP X pins σ Q r s') pl.isList (by omega) (by rw[Kf]<;>omega) (by omega) (by rw[hj];simpa using ew) ⟨rfl,fin⟩) hs
theorem bt:IK X (Fh X.K):=by
 intro value slice pins s σ H x y v u Q I rx ry h hs;obtain⟨p,xs,i,z,rfl,rfl,hq,he,q⟩:=h;cases rx;obtain⟨t,rfl⟩:=ry;obtain⟨its,r,pl,hz⟩:=I.tuple hq;obtain⟨j,h1,h2,h3,h4,h5⟩:=AV he;obtain⟨w,ew,rw'⟩:=r.get h2;have hl:=r.length;have hn:=zC;have fin:EP X pins σ Q w s:=⟨z,H,I,rw',q⟩;exact subscriptTail_builtinR (x:=w) pl.typeIs slot_tuple_getitem.lookup
  (getItem_tuple (j:=j) (Q:=λr s'=>r=w/\EP X pins σ Q r s') pl (by omega) (by omega) (by rw[Kf,←hl];exact h1) (by simpa using ew) ⟨rfl,fin⟩) hs
theorem wo (lo hi:Option Int) (n:Nat):(sliceBounds lo hi none n).1=((HT.zk n 0 lo:Nat):Int)/\(sliceBounds lo hi none n).2.1=((HT.zk n n hi:Nat):Int)/\(sliceBounds lo hi none n).2.2=1:=by
 refine⟨?_,?_,rfl⟩
 ·cases lo with
  |none=>simp[sliceBounds,HT.zk]
  |some i=>
   simp only[sliceBounds,HT.zk,Option.getD_none,show(1:Int)>0 by decide,if_true]
   by_cases h:i<0
   ·simp only[h,if_true]<;>omega
   ·simp only[h,if_false]<;>omega
 ·cases hi with
  |none=>simp[sliceBounds,HT.zk]
  |some i=>
   simp only[sliceBounds,HT.zk,Option.getD_none,show(1:Int)>0 by decide,if_true]
   by_cases h:i<0
   ·simp only[h,if_true]<;>omega
   ·simp only[h,if_false]<;>omega
theorem uF (its:List Value) (lo hi:Option Int):slicePick its.toArray lo hi none=((its.drop (HT.zk its.length 0 lo)).take (HT.zk its.length its.length hi - HT.zk its.length 0 lo)).toArray:=by
 obtain⟨h1,h2,h3⟩:=wo lo hi its.toArray.size;unfold slicePick;rw[h1,h2,h3];simp only[sliceRange_one,pick_run,Kf]<;>rfl
noncomputable def Jh (K:PySem.W.Frag):V->Option Int->Option Int->Hp->VK->Prop:=λx lo hi H Q=>∃a xs,x=.ref a/\ba K H a xs/\∀p,H p=none->Q (.ref p) (upd H p (.lst (BN xs lo hi)))
theorem Fi:Jz X (Jh X.K):=by
 intro pins s σ H x v vl vu lo hi sl Q I rx hs pl pu h;obtain⟨a,xs,rfl,hx,q⟩:=h;cases rx;obtain⟨its,r,ht,hz⟩:=I.list hx;have hlen:=r.length;refine⟨"list",_,slot_list_getitem.lookup,ht.isList.typeIs,?_⟩;refine wpAny_getItem_list_slice ht.isList hs pl pu .none (by simp) ?_ (by rw[Kf]<;>omega);rw[uF,←hlen];refine⟨.ref s.heap.objs.size,_,I.laid (t':=s.toks) (o:=.lst (BN xs lo hi)) (λb ob q=>JR _ q) (J3 _) ?_,rfl,q _ (I.bq.fresh (J3 _))⟩;exact⟨Kj (x8 xs lo hi) hz,_,0,(r.drop (HT.zk xs.length 0 lo)).take (HT.zk xs.length xs.length hi - HT.zk xs.length 0 lo),J4 _ rfl⟩
noncomputable def l4:V->Bool
 |.bQ=>true
 |.bl _=>true
 |.int _=>true
 |.str _=>true
 |_=>false
noncomputable def BO:V->V->Bool
 |.bQ,.bQ=>true
 |.bl a,.bl b=>a==b
 |.bl a,.int b=>(if a then 1 else 0)==b
 |.int a,.bl b=>a==(if b then 1 else 0)
 |.int a,.int b=>a==b
 |.str a,.str b=>a==b
 |_,_=>false
theorem GG {A:Around}{s:Shared}{y x:V}{u v:Value}(ry:RelV y u) (rx:RelV x v) (fy:l4 y=true) (fx:l4 x=true):SeqAt.EqAt A s u v (BO y x):=by
 cases y with
 |bQ=>
  cases ry;cases x with
  |bQ=>cases rx;exact SeqAt.EqAt.same _
  |bl b=>cases rx;exact SeqAt.EqAt.none_bool b
  |int b=>obtain⟨t,rfl⟩:=rx;exact SeqAt.EqAt.none_int b t
  |str b=>obtain⟨t,rfl⟩:=rx;exact SeqAt.EqAt.none_str b t
  |_=>exact absurd (show false=true from fx) J8
 |bl a=>
  cases ry;cases x with
  |bQ=>cases rx;exact SeqAt.EqAt.bool_none a
  |bl b=>cases rx;exact SeqAt.EqAt.bool_bool a b
  |int b=>obtain⟨t,rfl⟩:=rx;exact SeqAt.EqAt.bool_int a b t
  |str b=>obtain⟨t,rfl⟩:=rx;exact SeqAt.EqAt.bool_str a b t
  |_=>exact absurd (show false=true from fx) J8
 |int a=>
  obtain⟨t',rfl⟩:=ry;cases x with
  |bQ=>cases rx;exact SeqAt.EqAt.int_none a t'
  |bl b=>cases rx;exact SeqAt.EqAt.int_bool a t' b
  |int b=>obtain⟨t,rfl⟩:=rx;exact SeqAt.EqAt.int_int a t' b t
  |str b=>obtain⟨t,rfl⟩:=rx;exact SeqAt.EqAt.int_str a t' b t
  |_=>exact absurd (show false=true from fx) J8
 |str a=>
  obtain⟨t',rfl⟩:=ry;cases x with
  |bQ=>cases rx;exact SeqAt.EqAt.str_none a t'
  |bl b=>cases rx;exact SeqAt.EqAt.str_bool a t' b
  |int b=>obtain⟨t,rfl⟩:=rx;exact SeqAt.EqAt.str_int a t' b t
  |str b=>obtain⟨t,rfl⟩:=rx;exact SeqAt.EqAt.str_str a t' b t
  |_=>exact absurd (show false=true from fx) J8
 |_=>exact absurd (show false=true from fy) J8
noncomputable def Fj (x:V) (u:Value):Bool:=match u with
 |.none=>BO .bQ x
 |.bool b=>BO (.bl b) x
 |.int i _=>BO (.int i) x
 |.str z _=>BO (.str z) x
 |_=>false
theorem Dg {x y:V}{u:Value}(r:RelV y u) (f:l4 y=true):Fj x u=BO y x:=by
 cases y with
 |bQ=>cases r;rfl
 |bl b=>cases r;rfl
 |int i=>obtain⟨t,rfl⟩:=r;rfl
 |str z=>obtain⟨t,rfl⟩:=r;rfl
 |_=>exact absurd (show false=true from f) J8
theorem wq {x:V}:∀{xs:List V}{us:List Value},Vals xs us->xs.all l4=true->us.any (Fj x)=xs.any λy=>BO y x
 |_,_,.nil,_=>rfl
 |y::xs,u::us,.cons r t,f=>by
  rw[List.all_cons,JS]at f;rw[List.any_cons,List.any_cons,Dg r f.1,wq t f.2]
theorem sJ {A:Around}{s:Shared}{x:V}{v:Value}(rx:RelV x v) (fx:l4 x=true):∀{xs:List V}{us:List Value},Vals xs us->xs.all l4=true->∀u∈us,SeqAt.EqAt A s u v (Fj x u)
 |_,_,.nil,_=>λu hu=>by cases hu
 |y::xs,u::us,.cons r t,f=>λu' hu=>by
  rw[List.all_cons,JS]at f;rcases JX.mp hu with rfl|hu
  ·rw[Dg r f.1];exact GG r rx f.1 fx
  ·exact sJ rx fx t f.2 u' hu
noncomputable def EK (x:V) (xs:List V):Bool:=xs.any λy=>BO y x
noncomputable def JK (K:PySem.W.Frag) (neg:Bool):R2:=λx y H Q=>∃p xs,y=.ref p/\(ba K H p xs\/eJ K H p xs)/\l4 x=true/\xs.all l4=true/\Q (.bl (if neg then !EK x xs else EK x xs)) H
theorem vo:rV X (compareOp .In) (JK X.K false):=by
 intro pins s σ H x y v u Q I rx ry h;obtain⟨p,xs,rfl,hq,fx,fs,q⟩:=h;cases ry;rcases hq with hq|hq
 ·obtain⟨its,r,pl,hz⟩:=I.list hq;refine SeqAt.in_listAt (Fj x) pl.isList (λw hw=>sJ rx fx r fs w (by simpa using hw)) ⟨.bl _,H,I,rfl,?_⟩;rw[show its.toArray.any (Fj x)=its.any (Fj x) by simp,wq r fs];exact q
 ·obtain⟨its,r,pl,hz⟩:=I.tuple hq;refine SeqAt.in_tupleAt (Fj x) pl (λw hw=>sJ rx fx r fs w (by simpa using hw)) ⟨.bl _,H,I,rfl,?_⟩;rw[show its.toArray.any (Fj x)=its.any (Fj x) by simp,wq r fs];exact q
theorem bu:gC X (.builtin "len") (λxs H Q=>∃p ys,xs=[.ref p]/\(ba X.K H p ys\/eJ X.K H p ys)/\Q (.int ys.length) H):=by
 intro pins s σ H xs us Q I r h;obtain⟨p,ys,rfl,hq,q⟩:=h;obtain⟨u,rfl,rx⟩:=vals1 r;cases rx;have hn:=zC;rcases hq with hq|hq
 ·obtain⟨its,r',pl,hz⟩:=I.list hq;have hlen:=r'.length;exact Calls.call_len_list pl.isList (by simp only[Kf]<;>omega) ⟨.int ys.length,H,I.tok _,⟨s.toks+1,by rw[Kf,hlen]⟩,q⟩
 ·obtain⟨its,r',pl,hz⟩:=I.tuple hq;have hlen:=r'.length;exact len_tuple pl (by simp only[Kf]<;>omega) ⟨.int ys.length,H,I.tok _,⟨s.toks+1,by rw[Kf,hlen]⟩,q⟩
theorem wu:gC X (.type "list") (λxs H Q=>∃p ys,xs=[.ref p]/\(ba X.K H p ys\/eJ X.K H p ys)/\∀l,H l=none->Q (.ref l) (upd H l (.lst ys))):=by
 intro pins s σ H xs us Q I r h;obtain⟨p,ys,rfl,hq,q⟩:=h;obtain⟨u,rfl,rx⟩:=vals1 r;cases rx;have fin:∀(its:List Value),Vals ys its->ys.length<=sizeLine->∀(h':Heap) (c':Nat),(∀b o',s.heap.get? b=some o'->h'.get? b=some o')->
   h'.get? s.heap.objs.size=some {cls:=.type "list",dict:=none,data:=.seq its.toArray c',slots:= #[]}->EP X pins σ Q (.ref s.heap.objs.size) {s with heap:=h'}:=λits r' hz h' c' kp e=>
  ⟨.ref s.heap.objs.size,_,I.laid (t':=s.toks) kp (J3 _) (show bV X.prog X.w _ h' _ (.lst ys)from⟨hz,its,c',r',e⟩),rfl,q _ (I.bq.fresh (J3 _))⟩
 rcases hq with hq|hq
 ·obtain⟨its,r',pl,hz⟩:=I.list hq;have hlen:=r'.length;obtain⟨o,ho,hc,n,hd⟩:=pl.isList;exact call_list_seq p (.inl rfl) ho hc hd (λh' c' kp e=>fin its r' hz h' c' kp e) (by simp only[Kf]<;>omega)
 ·obtain⟨its,r',pl,hz⟩:=I.tuple hq;have hlen:=r'.length;obtain⟨o,ho,hc,n,hd⟩:=pl;exact call_list_seq p (.inr rfl) ho hc hd (λh' c' kp e=>fin its r' hz h' c' kp e) (by simp only[Kf]<;>omega)
theorem bD:gC X (.type "tuple") (λxs H Q=>∃p ys,xs=[.ref p]/\((ba X.K H p ys/\∀l,H l=none->Q (.ref l) (upd H l (.tup ys)))\/(eJ X.K H p ys/\Q (.ref p) H))):=by
 intro pins s σ H xs us Q I r h;obtain⟨p,ys,rfl,h⟩:=h;obtain⟨u,rfl,rx⟩:=vals1 r;cases rx;rcases h with⟨hq,q⟩|⟨hq,q⟩
 ·obtain⟨its,r',pl,hz⟩:=I.list hq;have hlen:=r'.length;refine call_tuple_list pl.isList (λh' kp=>?_) (by simp only[Kf]<;>omega);have I1:Inv X pins σ H {s with heap:=h'}:=I.kept (t':=s.toks) kp;have I2:Inv X pins σ (upd H h'.objs.size (.tup ys)) {s with heap:=h'.push {cls:=.type "tuple",data:=.seq its.toArray}}:=
   I1.laid (t':=s.toks) (λb o e=>JR _ e) (J3 _) (show bV X.prog X.w _ _ _ (.tup ys)from⟨hz,its,r',IsTup.new _ _⟩)
  exact⟨.ref h'.objs.size,_,I2,rfl,q _ (I1.bq.fresh (J3 _))⟩
 ·obtain⟨its,r',pl,hz⟩:=I.tuple hq;exact call_tuple_same pl ⟨.ref p,H,I,rfl,q⟩
noncomputable def Ji (K:PySem.W.Frag) (T:String) (x:V) (H:Hp):Prop:=match x with
 |.str _=>T="str"
 |.int _=>T="int"
 |.ref p=>(T="list"/\∃xs,ba K H p xs)\/(T="tuple"/\∃o,K.lookup p=some o/\o.cls=.type "tuple"/\o.dict=none)\/
   (T="dict"/\((∃kvs,H p=some (.dK kvs))\/∃kvs,H p=some (.dT kvs)))\/(T="set"/\∃S n,H p=some (.set S n))
 |_=>False
theorem Dh {pins:List (Addr×Obj)}{σ:St}{H:Hp}{s:Shared}{T:String}{x:V}{v:Value}(I:Inv X pins σ H s) (r:RelV x v) (ty:Ji X.K T x H):
  s.TypeIs v T/\∀a,v=.ref a->∃ob,s.heap.get? a=some ob/\ob.dict=none:=by
 cases x with
 |str z=>
  obtain⟨t,rfl⟩:=r;cases(show T="str" from ty);exact⟨typeIs_str s z t,λ_ e=>nomatch e⟩
 |int i=>
  obtain⟨t,rfl⟩:=r;cases(show T="int" from ty);exact⟨typeIs_int s i t,λ_ e=>nomatch e⟩
 |ref p=>
  cases r;rcases ty with⟨rfl,xs,hq⟩|⟨rfl,o,hk,hc,hd⟩|⟨rfl,hk⟩|⟨rfl,S,n,hk⟩
  ·obtain⟨its,_,pl,_⟩:=I.list hq;refine⟨pl.isList.typeIs,λa e=>?_⟩;cases e;obtain⟨o,n,e,c,hd,_⟩:=pl;exact⟨o,e,hd⟩
  ·refine⟨⟨o,I.qE p o hk,hc⟩,λa e=>?_⟩;cases e;exact⟨o,I.qE _ o hk,hd⟩
  ·have z:∃o,s.heap.get? p=some o/\o.ExactDict:=by
    rcases hk with⟨kvs,hk⟩|⟨kvs,hk⟩
    ·obtain⟨_,_,_,_,o,_,_,e,ex,_⟩:=I.bq p _ hk;exact⟨o,e,ex⟩
    ·obtain⟨_,_,_,_,o,_,_,e,ex,_⟩:=I.bq p _ hk;exact⟨o,e,ex⟩
   obtain⟨o,e,ex⟩:=z;refine⟨⟨o,e,ex.1⟩,λa e2=>?_⟩;cases e2;exact⟨o,e,ex.2.1⟩
  ·obtain⟨o,_,_,_,e,ex,_⟩:=I.bq p _ hk;refine⟨⟨o,e,ex.1⟩,λa e2=>?_⟩;cases e2;exact⟨o,e,ex.2.1⟩
 |_=>exact False.elim ty
noncomputable def Jj (K:PySem.W.Frag) (T:String) (r:V->List V->Hp->VK->Prop) (to:TE):TE:=λσ H Q=>to σ H λx H1=>Ji K T x H1/\r x [] H1 Q
noncomputable def JL (K:PySem.W.Frag) (T:String) (r:V->List V->Hp->VK->Prop) (to:TE) (t:TA):TE:=λσ H Q=>to σ H λx H1=>Ji K T x H1/\t σ H1 λxs H2=>r x xs H2 Q
variable{o e:Expr}{es:List Expr}{to:TE}{t:TA}{name:Str}{apos cpos:Pos}{T id:String}{r:V->List V->Hp->VK->Prop}
theorem zI (pa:PlainAttrs T) (slot:Slot T name id) (hty:typeOf (.builtin id)=pure (.type "method_descriptor")) (hm:Jf X id r) (ho:PE X o to)
  (hbase:attributeBase o name X.env (eval o X.env)=eval o X.env:=by rfl) (hline:(apos.endLine==cpos.line)=true:=by rfl):PE X (.Call (.Attribute o name apos) [] [] cpos) (Jj X.K T r to):=by
 intro pins s σ H Q I h;refine wpAny_Call_method0_late hbase hline (b8 (ho pins s σ H _ I h) λv s1 ⟨x,H1,I1,r1,ty,q1⟩=>?_);obtain⟨h1,h2⟩:=Dh I1 r1 ty;exact⟨T,id,pa,slot,hty,h1,h2,Calls.callWith_builtin rfl (PySem.evalArgs_none (hm pins s1 σ H1 x [] v [] Q I1 r1 .nil q1))⟩
theorem i3 (pa:PlainAttrs T) (slot:Slot T name id) (hty:typeOf (.builtin id)=pure (.type "method_descriptor")) (hm:Jf X id r) (ho:PE X o to) (ha:PA X (e::es) t)
  (hbase:attributeBase o name X.env (eval o X.env)=eval o X.env:=by rfl)
  (hfew:((backTo cpos (starEach (e::es) X.env)).all (λx=> !x.1)&&(backToKw cpos (keywordEach [] X.env)).all (λx=>x.1.isSome)
   &&decide ((e::es).length+([]:List Keyword).length+(if([]:List Keyword).isEmpty then 0 else 1)<30))=true:=by rfl)
  (hline:(apos.endLine==cpos.line)=true:=by rfl) (hs:starEach (e::es) X.env=(false,eval e X.env)::starEach es X.env:=by rfl) (hplain:(backTo cpos (starEach es X.env)).any (·.1)=false:=by rfl):
  PE X (.Call (.Attribute o name apos) (e::es) [] cpos) (JL X.K T r to t):=by
 intro pins s σ H Q I h;refine wpAny_Call_method_late hbase hfew hline rfl (b8 (ho pins s σ H _ I h) λv s1 ⟨x,H1,I1,r1,ty,q1⟩=>?_);obtain⟨h1,h2⟩:=Dh I1 r1 ty;refine⟨T,id,pa,slot,hty,h1,h2,?_⟩;have hA:=ha cpos pins s1 σ H1 _ I1 q1;rw[hs]at hA ⊢;refine Calls.callWith_builtin (by show(false||(backTo cpos (starEach es X.env)).any (·.1))=false;rw[hplain]<;>rfl) (Calls.evalArgs_plain ?_);exact b8 hA λus s2 ⟨vs,H2,I2,r2,q2⟩=>hm pins s2 σ H2 x vs v us Q I2 r1 r2 q2
end
noncomputable def Jk (X:Cx) (id:String) (r:V->List V->Hp->VK->Prop):Prop:=
 ∀(pins:List (Addr×Obj)) (s:Shared) (σ:St) (H:Hp) (x:V) (xs:List V) (v:Value) (us:List Value) (Q:VK),Inv X pins σ H s->RelV x v->Vals xs us->r x xs H Q->
  wpAny (model X.prog X.w) X.A (call (.builtin id) (v::us)) (EP X pins σ Q) X.xe s
theorem Vals.one:∀{x:V}{us:List Value},Vals [x] us->∃u,us=[u]/\RelV x u
 |_,_,.cons r .nil=>⟨_,rfl,r⟩
theorem Vals.eraseIdx:∀{xs:List V}{us:List Value}(i:Nat),Vals xs us->Vals (xs.eraseIdx i) (us.eraseIdx i)
 |_,_,_,.nil=>.nil
 |_,_,0,.cons _ t=>t
 |_,_,i+1,.cons r t=>.cons r (Vals.eraseIdx i t)
theorem vp {α:Type}:∀(l:List α) (i:Nat),(l.eraseIdx i).length<=l.length
 |[],_=>J3 _
 |_::_,0=>Nat.le_succ _
 |_::r,i+1=>Nat.succ_le_succ (vp r i)
section
variable{X:Cx}{pins:List (Addr×Obj)}{σ:St}{H:Hp}{s:Shared}{l b:Addr}{xs ys zs:List V}
theorem Inv.GH {its its':List Value}{n:Nat}{f:Array Value->Array Value}{t':Nat}(I:Inv X pins σ H s) (hH:H l=some (.lst xs))
  (e:s.heap.get? l=some {cls:=.type "list",data:=.seq its.toArray n}) (hf:f its.toArray=its'.toArray) (hv:Vals ys its') (hz:ys.length<=sizeLine):
  Inv X pins σ (upd H l (.lst ys)) {s with heap:=s.heap.update l (Obj.mapSeq f),toks:=t'}:=by
 have q:=PySem.IsL.update e f;rw[hf]at q;refine I.write (x:=l) (e:=l) (by rw[hH];exact trivial) (.inl rfl) (λb' u hb hu=>(Heap.get?_update_other s.heap (Obj.mapSeq f) (Ne.symm hb)).trans hu) ⟨_,q⟩ ?_;exact⟨hz,its',_,hv,q⟩
theorem Inv.Jl {its:List Value}{t':Nat}(I:Inv X pins σ H s) (hv:Vals ys its) (hz:ys.length<=sizeLine):
  Inv X pins σ (upd H s.heap.objs.size (.lst ys)) {s with heap:=s.heap.push {cls:=.type "list",data:=.seq its.toArray},toks:=t'}:=
 I.laid (λ_ _ q=>JR _ q) (J3 _) ⟨hz,its,0,hv,J4 _ rfl⟩
theorem Inv.fresh (I:Inv X pins σ H s):H s.heap.objs.size=none:=I.bq.fresh (J3 _)
theorem Inv.BP (I:Inv X pins σ H s) (hH:H l=some (.lst xs)):xs.length<=sizeLine/\∃(its:List Value) (n:Nat),Vals xs its/\xs.length=its.length/\s.heap.get? l=some {cls:=.type "list",data:=.seq its.toArray n}:=by
 obtain⟨z,its,n,r,e⟩:=I.bq l _ hH;exact⟨z,its,n,r,r.length,e⟩
theorem Di {n:Nat}(h:n<=sizeLine):Builtin.List.listTooLong n=false:=by
 unfold Builtin.List.listTooLong;exact J9 (by omega)
end
section
variable{X:Cx}
noncomputable def Fl:V->List V->Hp->VK->Prop:=λx vs H Q=>∃l xs y,x=.ref l/\vs=[y]/\H l=some (.lst xs)/\xs.length<sizeLine/\Q .bQ (upd H l (.lst (xs++[y])))
theorem i4:Jk X "list.append" Fl:=by
 intro pins s σ H x vs v us Q I rx rv h;obtain⟨l,xs,y,rfl,rfl,hH,hz,q⟩:=h;cases rx;obtain⟨u,rfl,ru⟩:=rv.one;obtain⟨z,its,n,r,hl,e⟩:=I.BP hH;refine call_meets F.slot_list_append ⟨_,e,rfl⟩ F.entry_list_append (F.args_list_append_2 _ _) (PySem.list_append l its.toArray n u (by rw[Kf];omega)) ⟨e,?_⟩;refine⟨.bQ,_,I.GH (its':=its++[u]) hH e (by simp) (r.append (.cons ru .nil)) ?_,rfl,q⟩;rw[JV,List.length_singleton];omega
noncomputable def Fm:V->List V->Hp->VK->Prop:=λx vs H Q=>∃l b xs zs,x=.ref l/\vs=[.ref b]/\H l=some (.lst xs)/\H b=some (.lst zs)/\xs.length+zs.length<=sizeLine/\Q .bQ (upd H l (.lst (xs++zs)))
theorem gh:Jk X "list.extend" Fm:=by
 intro pins s σ H x vs v us Q I rx rv h;obtain⟨l,b,xs,zs,rfl,rfl,hH,hB,hz,q⟩:=h;cases rx;obtain⟨u,rfl,ru⟩:=rv.one;cases ru;obtain⟨z,its,n,r,hl,e⟩:=I.BP hH;obtain⟨z2,its2,n2,r2,hl2,e2⟩:=I.BP hB;have hsz:its.toArray.size+its2.toArray.size<=sizeLine:=by rw[Kf,Kf];omega
 have hlong:¬(!its.toArray.isEmpty&&Builtin.List.listTooLong (its.toArray.size+its2.toArray.size))=true:=by
  rw[Di hsz,Bool.and_false];exact J8
 refine call_meets F.slot_list_extend ⟨_,e,rfl⟩ F.entry_list_extend (F.args_list_extend_2 _ _)
  (AutoSeq1.list_extend_list_list_0 l its.toArray n b its2.toArray n2 hlong (by rw[Kf];omega) (by omega)) ⟨e,e2,?_⟩
 refine⟨.bQ,_,I.GH (its':=its++its2) hH e (by simp) (r.append r2) ?_,rfl,q⟩;rw[JV];omega
noncomputable def GI:V->List V->Hp->VK->Prop:=λx vs H Q=>∃l xs i k y,x=.ref l/\vs=[.int i]/\H l=some (.lst xs)/\-(2^63)<=i/\i<2^63/\seqIndex? i xs.length=some k/\xs[k]? =some y/\Q y (upd H l (.lst (xs.eraseIdx k)))
theorem x9:Jk X "list.pop" GI:=by
 intro pins s σ H x vs v us Q I rx rv h;obtain⟨l,xs,i,k,y,rfl,rfl,hH,h1,h2,hk,hy,q⟩:=h;cases rx;obtain⟨u,rfl,ru⟩:=rv.one;obtain⟨t,rfl⟩:=ru;obtain⟨z,its,n,r,hl,e⟩:=I.BP hH;obtain⟨w,hw,rw'⟩:=r.get hy;refine call_meets F.slot_list_pop ⟨_,e,rfl⟩ F.entry_list_pop (F.args_list_pop_2 _ _)
  (MeetsSeq.list_pop_at l its.toArray n i t k w (fitsIndex_both h1 h2) (by rw[Kf,←hl];exact hk) (by rw[←Kv];exact hw) (by rw[Kf];omega)) ⟨e,?_⟩
 refine⟨y,_,I.GH (its':=its.eraseIdx k) hH e ?_ (r.eraseIdx k) ?_,rw',q⟩
 ·show its.toArray.eraseIdxIfInBounds k=(its.eraseIdx k).toArray;rw[List.eraseIdxIfInBounds_toArray]
 ·have:=vp xs k;omega
noncomputable def Ie:R2:=λx y H Q=>∃l b xs zs,x=.ref l/\y=.ref b/\H l=some (.lst xs)/\H b=some (.lst zs)/\xs.length+zs.length<=sizeLine/\∀p,H p=none->Q (.ref p) (upd H p (.lst (xs++zs)))
theorem fR:rV X (binaryOp .Add) Ie:=by
 intro pins s σ H x y v u Q I rx ry h;obtain⟨l,b,xs,zs,rfl,rfl,hH,hB,hz,q⟩:=h;cases rx;cases ry;obtain⟨z,its,n,r,hl,e⟩:=I.BP hH;obtain⟨z2,its2,n2,r2,hl2,e2⟩:=I.BP hB;refine PySem.P.add_list e e2 ?_ (by rw[Kf,Kf];omega);have ea:its.toArray++its2.toArray=(its++its2).toArray:=by simp
 rw[ea];exact⟨.ref _,_,I.Jl (t':=s.toks) (r.append r2) (by rw[JV];omega),rfl,q _ I.fresh⟩
end
section
variable{prog:Program}{w:World}{A:Around}{E:Value->Shared->Prop}{s:Shared}
set_option maxRecDepth 100000 in
end
section
variable{X:Cx}
end
theorem Vals.ints:∀{ns:List Int}{us:List Value},Vals (ns.map V.int) us->IntsAre us ns
 |[],us,h=>by
  rw[List.map_nil]at h;cases h;exact IntsAre.nil
 |n::ns,us,h=>by
  rw[Kq]at h;cases h with
  |cons r t=>
   obtain⟨k,rfl⟩:=r;exact IntsAre.cons n k (Vals.ints t)
theorem jt:∀{us:List Value}{ns:List Int},IntsAre us ns->Vals (ns.map V.int) us
 |_,_,.nil=>by rw[List.map_nil];exact Paired.nil
 |_,_,.cons n t h=>by rw[Kq];exact Paired.cons (show RelV (V.int n) (Value.int n t)from⟨t,rfl⟩) (jt h)
theorem Vals.Dj {a:Addr}{us:List Value}(r:Vals [V.ref a] us):us=[Value.ref a]:=by
 cases r with
 |cons r t=>
  cases t;cases r;rfl
section
variable{prog:Program}{w:World}{A:Around}{E:Value->Shared->Prop}{s:Shared}{l:Addr}{its:List Value}{ns:List Int}{Q:Value->Shared->Prop}
end
section
variable{X:Cx}
end
section
variable{X:Cx}
end
section
variable{X:Cx}
end
section
variable{X:Cx}
end
mutual
inductive Dp (K:PySem.W.Frag) (H:Hp):V->PyData->Prop
 |bQ:Dp K H .bQ .none
 |bl (b:Bool):Dp K H (.bl b) (.bool b)
 |int (i:Int):Dp K H (.int i) (.int i)
 |str (x:Str):Dp K H (.str x) (.str x)
 |lst {a:Addr}{xs:List V}{ds:List PyData}:ba K H a xs->sL K H xs ds->Dp K H (.ref a) (.list ds)
 |tup {a:Addr}{xs:List V}{ds:List PyData}:eJ K H a xs->sL K H xs ds->Dp K H (.ref a) (.tuple ds)
inductive sL (K:PySem.W.Frag) (H:Hp):List V->List PyData->Prop
 |nil:sL K H [] []
 |cons {v:V}{vs:List V}{d:PyData}{ds:List PyData}:Dp K H v d->sL K H vs ds->sL K H (v::vs) (d::ds)
end
section
variable{X:Cx}{pins:List (Addr×Obj)}{σ:St}{H:Hp}{s:Shared}
mutual
theorem Dp.reads (I:Inv X pins σ H s):∀(d:PyData) (v:V) (u:Value),Dp X.K H v d->RelV v u->∃as,Reads s.heap u d as
 |.none,_,_,h,r=>by
  cases h;cases r;exact⟨_,Reads.none⟩
 |.bool b,_,_,h,r=>by
  cases h;cases r;exact⟨_,Reads.bool b⟩
 |.int i,_,_,h,r=>by
  cases h;obtain⟨t,rfl⟩:=r;exact⟨_,Reads.int i t⟩
 |.str x,_,_,h,r=>by
  cases h;obtain⟨t,rfl⟩:=r;exact⟨_,Reads.str x t⟩
 |.list ds,_,_,h,r=>by
  cases h with
  |lst hs ha=>
   cases r;obtain⟨its,rv,⟨o,n,ho,hc,_,hd⟩,_⟩:=I.list hs;obtain⟨as,hr⟩:=Dp.readsAll I ds _ its ha rv;exact⟨_,Reads.list ho hc hd hr⟩
 |.tuple ds,_,_,h,r=>by
  cases h with
  |tup hs ha=>
   cases r;obtain⟨its,rv,⟨o,ho,hc,n,hd⟩,_⟩:=I.tuple hs;obtain⟨as,hr⟩:=Dp.readsAll I ds _ its ha rv;exact⟨_,Reads.tuple ho hc hd hr⟩
 |.dict _,_,_,h,_=>by cases h
theorem Dp.readsAll (I:Inv X pins σ H s):∀(ds:List PyData) (vs:List V) (us:List Value),sL X.K H vs ds->Vals vs us->∃as,ReadsAll s.heap us ds as
 |[],_,_,h,r=>by
  cases h;cases r;exact⟨_,ReadsAll.nil⟩
 |d::ds,_,_,h,r=>by
  cases h with
  |cons h1 h2=>
   cases r with
   |cons r1 r2=>
    obtain⟨as,q1⟩:=Dp.reads I d _ _ h1 r1;obtain⟨bs,q2⟩:=Dp.readsAll I ds _ _ h2 r2;exact⟨_,ReadsAll.cons q1 q2⟩
end
end
section
variable{X:Cx}
noncomputable def Ig (K:PySem.W.Frag):R2:=λx y H Q=>∃d e,Dp K H x d/\Dp K H y e/\SeqAt.shaped d=true/\SeqAt.shaped e=true/\Q (.bl (!PyData.eqv d e)) H
theorem GJ (hu:X.A.units+64<cLine):rV X (compareOp .NotEq) (Ig X.K):=by
 intro pins s σ H x y v u Q I rx ry h;obtain⟨d,e,hd,he,sd,se,q⟩:=h;obtain⟨as,r1⟩:=Dp.reads I d x v hd rx;obtain⟨bs,r2⟩:=Dp.reads I e y u he ry;exact SeqAt.compareNe_shaped r1 r2 sd se hu ⟨.bl _,H,I,rfl,q⟩
end
noncomputable abbrev Dl (h:Heap) (c:Addr) (v:Option Value):Prop:=h.IsCell c v
noncomputable def Jm (scope sc:Scope):Scope:=
 {scope with names:=scope.names.map λ(n,k)=>if(k== .free&&sc.kind== .function&&sc.names.lookup n==some .cell)then(n,.cell)else(n,k)}
noncomputable def bO (cells:List (Str×Addr)):List (Str×NameKind)->List (Str×Addr)->List (Str×Addr)
 |[],acc=>acc
 |(n,k)::r,acc=>if k== .free then bO cells r ((n,(cells.lookup n).getD 0)::acc)else bO cells r acc
theorem oh (env:Env) (f:Str×NameKind->List (Str×Addr)->Sem (ForInStep (List (Str×Addr))))
  (hf:∀n k c,f (n,k) c=if k== .free then(do let a←cellOf env n;pure (.yield ((n,a)::c)))else pure (.yield c)):
  ∀(names:List (Str×NameKind)) (acc:List (Str×Addr)),(∀y∈names,y.2=.free->∃c,env.cells.lookup y.1=some c)->forIn names acc f=pure (bO env.cells names acc)
 |[],acc,_=>by rw[List.forIn_nil];rfl
 |(n,k)::r,acc,h=>by
  rw[List.forIn_cons,hf];have ih:=λacc=>oh env f hf r acc λy hy=>h y (JW _ hy);unfold bO
  by_cases hk:(k==NameKind.free)=true
  ·rw[if_pos hk,if_pos hk];obtain⟨c,hc⟩:=h (n,k) JZ (by simpa using hk);have e:cellOf env n=pure c:=by unfold cellOf;rw[hc]
   rw[e];have e2:(env.cells.lookup n).getD 0=c:=by rw[hc];rfl
   rw[e2];exact ih _
  ·rw[if_neg hk,if_neg hk];exact ih _
theorem zJ {scope:Scope}{env:Env}(h:∀y∈scope.names,y.2=.free->∃c,env.cells.lookup y.1=some c):closureFor scope env=pure (bO env.cells scope.names []):=by
 simp only[closureFor];rw[oh env _ (λn k c=>rfl) scope.names [] h];rfl
theorem mem_lookup {α:Type}:∀{l:List (Str×α)}{n:Str}{c:α},(n,c)∈l->∃c',l.lookup n=some c'
 |(k,v)::r,n,c,h=>by
  rw[List.lookup_cons];cases hb:n==k with
  |true=>exact⟨_,rfl⟩
  |false=>
   rcases JX.mp h with e|h
   ·cases e;simp at hb
   ·exact mem_lookup h
theorem g8 {cells:List (Str×Addr)}:∀{names:List (Str×NameKind)}{acc:List (Str×Addr)}{n:Str}{c:Addr},(n,c)∈bO cells names acc->(n,c)∈acc\/((n,.free)∈names/\c=(cells.lookup n).getD 0)
 |[],_,_,_,h=>.inl h
 |(m,k)::r,acc,n,c,h=>by
  unfold bO at h;split at h
  ·rename_i hk;have hk:k=.free:=by simpa using hk
   rcases g8 h with h|⟨h1,h2⟩
   ·rcases JX.mp h with e|h
    ·cases e;exact .inr ⟨hk▸JZ,rfl⟩
    ·exact .inl h
   ·exact .inr ⟨JW _ h1,h2⟩
  ·rcases g8 h with h|⟨h1,h2⟩
   ·exact .inl h
   ·exact .inr ⟨JW _ h1,h2⟩
theorem kC {cells:List (Str×Addr)}:∀{names:List (Str×NameKind)}{acc:List (Str×Addr)}{p:Str×Addr},p∈acc->p∈bO cells names acc
 |[],_,_,h=>h
 |(m,k)::r,acc,p,h=>by
  unfold bO;split
  ·exact kC (JW _ h)
  ·exact kC h
theorem kD {cells:List (Str×Addr)}:∀{names:List (Str×NameKind)}{acc:List (Str×Addr)}{n:Str},(n,.free)∈names->(n,(cells.lookup n).getD 0)∈bO cells names acc
 |(m,k)::r,acc,n,h=>by
  unfold bO;rcases JX.mp h with e|h
  ·cases e;exact kC JZ
  ·split
   ·exact kD h
   ·exact kD h
theorem i7:∀{names:List (Str×NameKind)}{h:Heap}{acc:List (Str×Addr)}{x:Str}{c:Addr},(x,c)∈cellsFrom h.objs.size names acc->
  (x,c)∈acc\/((x,.cell)∈names/\h.objs.size<=c/\Dl (pushCells h names) c none)
 |[],_,_,_,_,h=>.inl h
 |(n,k)::r,h,acc,x,c,hm=>by
  unfold cellsFrom at hm;unfold pushCells;split at hm
  ·rename_i hk;rw[if_pos hk];have hk:k=.cell:=by simpa using hk
   rw[←Km h {cls:=.type "cell",data:=.cell none}]at hm;rcases i7 hm with hm|⟨h1,h2,h3⟩
   ·rcases JX.mp hm with e|hm
    ·cases e;exact .inr ⟨hk▸JZ,J3 _,_,pushCells_keeps r _ _ _ (J4 _ rfl),rfl⟩
    ·exact .inl hm
   ·rw[Km]at h2;exact .inr ⟨JW _ h1,Nat.le_of_succ_le h2,h3⟩
  ·rename_i hk;rw[if_neg hk];rcases i7 hm with hm|⟨h1,h2,h3⟩
   ·exact .inl hm
   ·exact .inr ⟨JW _ h1,h2,h3⟩
theorem lO:∀{names:List (Str×NameKind)}{n:Nat}{acc:List (Str×Addr)}{p:Str×Addr},p∈acc->p∈cellsFrom n names acc
 |[],_,_,_,h=>h
 |(m,k)::r,n,acc,p,h=>by
  unfold cellsFrom;split
  ·exact lO (JW _ h)
  ·exact lO h
theorem pP:∀{names:List (Str×NameKind)}{n:Nat}{acc:List (Str×Addr)}{x:Str},(x,.cell)∈names->∃c,(x,c)∈cellsFrom n names acc
 |(m,k)::r,n,acc,x,h=>by
  unfold cellsFrom;rcases JX.mp h with e|h
  ·cases e;exact⟨n,lO JZ⟩
  ·split
   ·exact pP h
   ·exact pP h
theorem pQ:∀{names:List (Str×NameKind)}{h:Heap}{acc:List (Str×Addr)}{x y:Str}{c:Addr},(∀p∈acc,p.2<h.objs.size)->(∀x y c,(x,c)∈acc->(y,c)∈acc->x=y)->
  (x,c)∈cellsFrom h.objs.size names acc->(y,c)∈cellsFrom h.objs.size names acc->x=y
 |[],_,_,_,_,_,_,hi,h1,h2=>hi _ _ _ h1 h2
 |(n,k)::r,h,acc,x,y,c,hl,hi,h1,h2=>by
  unfold cellsFrom at h1 h2;split at h1
  ·rename_i hk;rw[if_pos hk]at h2;rw[←Km h {cls:=.type "cell",data:=.cell none}]at h1 h2;refine pQ (h:=h.push _) (λp hp=>?_) (λx y c a b=>?_) h1 h2
   ·rw[Km];rcases JX.mp hp with rfl|hp
    ·exact Nat.lt_succ_self _
    ·exact Nat.lt_succ_of_lt (hl p hp)
   ·rcases JX.mp a with e|a<;>rcases JX.mp b with e'|b
    ·cases e;cases e';rfl
    ·cases e;exact absurd (hl _ b) (Nat.lt_irrefl _)
    ·cases e';exact absurd (hl _ a) (Nat.lt_irrefl _)
    ·exact hi _ _ _ a b
  ·rename_i hk;rw[if_neg hk]at h2;exact pQ hl hi h1 h2
theorem ya {M:Model}{A:Around}{E:Value->Shared->Prop}{s:Shared}{scope:Scope}{globals:Addr}{closure:List (Str×Addr)}{qual:Str}{func:Option Addr}{code:Value}{around:Env}{builtins:Addr}{Q:Env->Shared->Prop}
  (h:Q (newEnv scope s.heap.objs.size globals (cellsFrom (s.heap.objs.size+1) scope.names closure) qual func code (some around) builtins)
   {s with heap:=pushCells (s.heap.push {cls:=.type "dict",data:=.dict #[]}) scope.names}):
  wpAny M A (newFunctionEnv scope globals closure [] qual func code (some around) builtins) Q E s:=by
 simp only[newFunctionEnv,Option.isSome_some,if_true];refine JO (wpAny_alloc ?_);refine JO (wpAny_layCells _ (λn k c=>rfl) scope.names closure _ _ ?_);rw[show({s with heap:=s.heap.push {cls:=.type "dict",data:=.dict #[]}}:Shared).heap.objs.size=s.heap.objs.size+1 from Km ..];rw[List.forIn_nil];exact JO (JP (JP h))
theorem kE {sc:Scope}:∀{names:List (Str×NameKind)}{x:Str}{k:NameKind},
  (names.map λ(n,k)=>if(k==NameKind.free&&sc.kind== .function&&sc.names.lookup n==some .cell)then(n,NameKind.cell)else(n,k)).lookup x=some k->
  ∃k',names.lookup x=some k'/\(k=k'\/(k'=.free/\k=.cell))
 |[],_,_,h=>by simp at h
 |(n,k₀)::r,x,k,h=>by
  have ih:= @kE sc r x k;have h':List.lookup x ((if(k₀==NameKind.free&&sc.kind== .function&&sc.names.lookup n==some .cell)=true then(n,NameKind.cell)else(n,k₀))::(r.map _))=some k:=h;cases hx:x==n with
  |true=>
   simp only[List.lookup_cons,hx]
   by_cases hc:(k₀==NameKind.free&&sc.kind== .function&&sc.names.lookup n==some .cell)=true
   ·rw[if_pos hc]at h';simp only[List.lookup_cons,hx]at h';cases h';simp only[JS,beq_iff_eq]at hc;exact⟨k₀,rfl,.inr ⟨hc.1.1,rfl⟩⟩
   ·rw[if_neg hc]at h';simp only[List.lookup_cons,hx]at h';cases h';exact⟨_,rfl,.inl rfl⟩
  |false=>
   simp only[List.lookup_cons,hx]
   by_cases hc:(k₀==NameKind.free&&sc.kind== .function&&sc.names.lookup n==some .cell)=true
   ·rw[if_pos hc]at h';simp only[List.lookup_cons,hx]at h';exact ih h'
   ·rw[if_neg hc]at h';simp only[List.lookup_cons,hx]at h';exact ih h'
structure yb (N:List Str) (sc scope:Scope) (own:List (Str×Nat)):Prop where
 kind:scope.kind=.function
 uniq:∀y∈scope.names,scope.names.lookup y.1=some y.2
 ix:∀p∈own,N[p.2]? =some p.1
 free:∀y∈scope.names,y.2=.free->sc.names.lookup y.1=some .cell\/sc.names.lookup y.1=some .free
 own:∀y∈scope.names,y.2=.local\/y.2=.cell->y.1∈own.map (·.1)\/y.1∉N
noncomputable def wipe (σ:St):List Nat->St
 |[]=>σ
 |v::vs=>(wipe σ vs).set v none
theorem kF (σ:St):∀vs:List Nat,(wipe σ vs).length=σ.length
 |[]=>rfl
 |v::vs=>by unfold wipe;rw[List.length_set,kF σ vs]
theorem pR {σ:St}{i:Nat}{x:V}:∀{vs:List Nat},(wipe σ vs)[i]? =some (some x)->σ[i]? =some (some x)/\i∉vs
 |[],h=>⟨h,by simp⟩
 |v::vs,h=>by
  unfold wipe at h
  by_cases hi:v=i
  ·subst hi
   by_cases hv:v<(wipe σ vs).length
   ·rw[List.getElem?_set_self hv]at h;cases h
   ·rw[List.getElem?_eq_none (by simpa using hv)]at h;cases h
  ·rw[List.getElem?_set_ne hi]at h;obtain⟨h1,h2⟩:=pR h;exact⟨h1,by simp only[JX,not_or];exact⟨λe=>hi e.symm,h2⟩⟩
noncomputable abbrev Cx.wy (X:Cx) (s:Shared) (H:Hp) (scope:Scope) (cenv:Env) (fp:List Addr):Cx:={X with vf:=s,Gv:=H,env:=cenv,outer:=X.stack,ex:=fp,fn:=λx=>scope.names.lookup x==some .cell,pn:=[],xe:=λ_ _=>False}
section
variable{X:Cx}{pins:List (Addr×Obj)}{σ:St}{H:Hp}{s:Shared}
theorem yc {scope:Scope}{own:List (Str×Nat)}{fp:List Addr}(I:Inv X pins σ H s) (ok:yb X.N X.env.scope scope own) (hN:X.N.Nodup) (hfp:∀b∈fp,uD X pins H b/\b<s.heap.objs.size):
  Inv (X.wy s H scope (compEnvC scope (cellsFrom (s.heap.objs.size+1) scope.names (bO X.env.cells scope.names [])) s.heap.objs.size X.env) fp) [] (wipe σ (own.map (·.2))) H {s with heap:=pushCells (s.heap.push {cls:=.type "dict",data:=.dict #[]}) scope.names}:=by
 have hfree:∀y∈scope.names,y.2=.free->∃c,X.env.cells.lookup y.1=some c:=λy hy e=>by
  rcases ok.free y hy e with k|k
  ·exact I.ok.has _ (.inl k)
  ·exact I.ok.has _ (.inr k)
 generalize hcenv:compEnvC scope (cellsFrom (s.heap.objs.size+1) scope.names (bO X.env.cells scope.names [])) s.heap.objs.size X.env=cenv;have kp:∀b o,s.heap.get? b=some o->(pushCells (s.heap.push {cls:=.type "dict",data:=.dict #[]}) scope.names).get? b=some o:=λb o e=>pushCells_keeps _ _ _ _ (JR _ e);have hL:cenv.locals=s.heap.objs.size:=by rw[←hcenv];rfl
 have hcl:cenv.cells=cellsFrom (s.heap.objs.size+1) scope.names (bO X.env.cells scope.names []):=by rw[←hcenv];rfl
 have hsc:cenv.scope=Jm scope X.env.scope:=by rw[←hcenv];rfl
 rw[←Km s.heap {cls:=.type "dict",data:=.dict #[]}]at hcl;have cm:∀{y c},(y,c)∈bO X.env.cells scope.names []->X.env.cells.lookup y=some c/\c<s.heap.objs.size:=λ{y c} hm=>by
  rcases g8 hm with hm|⟨h1,rfl⟩
  ·cases hm
  ·obtain⟨c,hc⟩:=hfree _ h1 rfl;rw[hc];obtain⟨w,z⟩:=I.cell _ _ hc;exact⟨rfl,z.lt⟩
 have mem:∀{y c},cenv.cells.lookup y=some c->(X.env.cells.lookup y=some c/\c<s.heap.objs.size)\/(s.heap.objs.size+1<=c/\Dl (pushCells (s.heap.push {cls:=.type "dict",data:=.dict #[]}) scope.names) c none):=λ{y c} e=>by
  rw[hcl]at e;rcases i7 (PySem.mem_of_lookup e)with hm|⟨_,h2,h3⟩
  ·exact .inl (cm hm)
  ·rw[Km]at h2;exact .inr ⟨h2,h3⟩
 have look:∀{y},scope.names.lookup y=some .free->∃c,cenv.cells.lookup y=some c/\X.env.cells.lookup y=some c:=λ{y} hl=>by
  have hy:(y,NameKind.free)∈scope.names:=PySem.mem_of_lookup hl;obtain⟨c',e'⟩:=mem_lookup (lO (names:=scope.names) (n:=(s.heap.push {cls:=.type "dict",data:=.dict #[]}).objs.size) (kD (cells:=X.env.cells) (acc:=[]) hy));rw[←hcl]at e';refine⟨c',e',?_⟩;rw[hcl]at e';rcases i7 (PySem.mem_of_lookup e')with hm|⟨h1,_,_⟩
  ·exact(cm hm).1
  ·have:=ok.uniq _ h1;rw[hl]at this;cases this
 have okB:(X.wy s H scope cenv fp).Ok:=by
  refine⟨I.ok.mod,by show cenv.scope.kind=_;rw[hsc];exact ok.kind,by show cenv.globals=_;rw[←hcenv];exact I.ok.glob,by show cenv.builtins=_;rw[←hcenv];exact I.ok.blt,by show s.heap.objs.size<=cenv.locals;rw[hL];exact J3 _,
   λy z c e1 e2=>?_,λy hy=>?_,λy c z e=>?_,I.ok.hd,I.ok.frames,.inl rfl,λb hb=>⟨?_,λy c e z=>?_⟩,I.bs,Kj I.ok.EH I.sz,λb o e hb=>?_,λb hb z=>?_,I.stack,I.AI⟩
  ·have e1:cenv.cells.lookup y=some c:=e1;have e2:cenv.cells.lookup z=some c:=e2;rw[hcl]at e1 e2;refine pQ (λp hp=>?_) (λy z c a b=>I.ok.inj y z c (cm a).1 (cm b).1) (PySem.mem_of_lookup e1) (PySem.mem_of_lookup e2);rw[Km];exact Nat.lt_succ_of_lt (cm (y:=p.1) (c:=p.2) hp).2
  ·show ∃c,cenv.cells.lookup y=some c;have key:∀k,cenv.kindOf y=some k->(k=.cell\/k=.free)->∃c,cenv.cells.lookup y=some c:=λk hk hk'=>by
    unfold Env.kindOf at hk;rw[hsc]at hk;obtain⟨k',e,r⟩:=kE hk;have:k'=.cell\/k'=.free:=by
     rcases r with rfl|⟨rfl,_⟩
     ·exact hk'
     ·exact .inr rfl
    rcases this with rfl|rfl
    ·obtain⟨c,hm⟩:=pP (n:=(s.heap.push {cls:=.type "dict",data:=.dict #[]}).objs.size) (acc:=bO X.env.cells scope.names []) (PySem.mem_of_lookup e);obtain⟨c',e'⟩:=mem_lookup hm;exact⟨c',by rw[hcl];exact e'⟩
    ·obtain⟨c,h1,_⟩:=look e;exact⟨c,h1⟩
   rcases hy with hy|hy
   ·exact key _ hy (.inl rfl)
   ·exact key _ hy (.inr rfl)
  ·have z:(scope.names.lookup y==some NameKind.cell)=true:=z;have z:scope.names.lookup y=some .cell:=by simpa using z
   have e:cenv.cells.lookup y=some c:=e;rw[hcl]at e;rcases i7 (PySem.mem_of_lookup e)with hm|⟨_,h2,_⟩
   ·rcases g8 hm with hm|⟨h1,_⟩
    ·cases hm
    ·have q:=ok.uniq _ h1;rw[z]at q;cases q
   ·rw[Km]at h2;exact Nat.le_of_succ_le h2
  ·show b≠cenv.locals;rw[hL];exact Kg (hfp b hb).2
  ·have e:cenv.cells.lookup y=some c:=e;rcases mem e with⟨h1,_⟩|⟨h1,_⟩
   ·exact(hfp b hb).1.2.2.2.2.1 y c h1 z
   ·have h2:s.heap.objs.size+1<=b:=by rw[←z];exact h1
    exact absurd (Kl (hfp b hb).2 (Nat.le_of_succ_le h2)) (Nat.lt_irrefl _)
  ·rcases(hfp b hb).1.2.2.2.1 with z|z
   ·exact I.ok.CV b o e z
   ·exact absurd (Kl (J7 e) (Kj I.ok.EH z)) (Nat.lt_irrefl _)
  ·rcases JX.mp (I.zw b z)with z|z
   ·exact(hfp b hb).1.2.1 z
   ·exact(hfp b hb).1.2.2.1 z
 refine⟨okB,rfl,I.bare,Un.kept kp,⟨λ_=>none,?_,λi y av e1 e2 e3=>?_⟩,λy c e=>?_,?_,λy c e=>?_,λp hp=>?_,I.bq.kept kp,by rw[kF];exact I.len⟩
 ·show Heap.Ns _ cenv.locals _;rw[hL];exact Heap.Ns.keeps (Heap.Ns.new ..) λb o e=>pushCells_keeps _ _ _ _ e
 ·obtain⟨e2,hne⟩:=pR e2;have hfr:scope.names.lookup y=some .free/\(cenv.kindOf y=some .cell\/cenv.kindOf y=some .free):=by
   have key:∀k,cenv.scope.names.lookup y=some k->k=.local\/k=.cell\/k=.free->scope.names.lookup y=some .free/\(cenv.kindOf y=some .cell\/cenv.kindOf y=some .free):=λk hk hk'=>by
    have hk0:=hk;rw[hsc]at hk;obtain⟨k',e,r⟩:=kE hk;have no:¬(k'=.local\/k'=.cell):=λhh=>by
     rcases ok.own _ (PySem.mem_of_lookup e) hh with e'|e'
     ·obtain⟨p,hp,hpy⟩:=Kr.mp e';have e3:=ok.ix p hp;have:p.1=y:=hpy;rw[this]at e3;exact hne (Kr.mpr ⟨p,hp,sF hN e3 e1⟩)
     ·exact e' (Kd e1)
    rcases r with rfl|⟨rfl,rfl⟩
    ·rcases hk' with rfl|rfl|rfl
     ·exact absurd (.inl rfl) no
     ·exact absurd (.inr rfl) no
     ·exact⟨e,.inr hk0⟩
    ·exact⟨e,.inl hk0⟩
   have e3:HL cenv.scope y:=e3;rcases e3 with e3|e3|e3
   ·exact key _ e3 (.inl rfl)
   ·exact key _ e3 (.inr (.inl rfl))
   ·exact key _ e3 (.inr (.inr rfl))
  obtain⟨m,hn,hl⟩:=I.loc;have hvis:HL X.env.scope y:=(ok.free _ (PySem.mem_of_lookup hfr.1) rfl).elim (λk=>.inr (.inl k)) (λk=>.inr (.inr k));obtain⟨w,r,q⟩:=hl i y av e1 e2 hvis;refine⟨w,r,.inr ⟨hfr.2,?_⟩⟩;obtain⟨c,h1,h2⟩:=look hfr.1;rcases q with⟨k,_⟩|⟨_,c',e',z⟩
  ·have k:X.env.scope.names.lookup y=some .local:=k;rcases ok.free _ (PySem.mem_of_lookup hfr.1) rfl with k'|k'<;>rw[show X.env.scope.names.lookup y=_ from k']at k<;>cases k
  ·rw[h2]at e';cases e';exact⟨c,h1,z.keeps kp⟩
 ·have e:cenv.cells.lookup y=some c:=e;rcases mem e with⟨h1,_⟩|⟨_,z⟩
  ·obtain⟨w,z⟩:=I.cell y c h1;exact⟨w,z.keeps kp⟩
  ·exact⟨_,z⟩
 ·show H cenv.locals=none;rw[hL];exact I.bq.fresh (J3 _)
 ·have e:cenv.cells.lookup y=some c:=e;rcases mem e with⟨h1,_⟩|⟨h1,_⟩
  ·exact I.g7 y c h1
  ·exact I.bq.fresh (Nat.le_of_succ_le h1)
 ·exact absurd (show p∈([]:List (Addr×Obj))++[]from hp) (by simp)
theorem GK {E:Value->Shared->Prop}{D:Addr}{xs:List V}{y:V}{v:Value}{Q:Value->Shared->Prop}(I:Inv X pins σ H s) (hD:H D=some (.lst xs)) (hz:xs.length<sizeLine) (r:RelV y v)
  (h:∀s',Inv X pins σ (upd H D (.lst (xs++[y]))) s'->Q .none s'):wpAny (model X.prog X.w) X.A (call (.builtin "list.append") [.ref D,v]) Q E s:=by
 obtain⟨hz',its,n,ri,e⟩:=I.bq D _ hD;have hl:=ri.length;refine append_at (hsz:=by rw[Kf];omega) e λh' sb ho'=>?_;refine h {s with heap:=h'} (I.write (t':=s.toks) (by rw[hD];trivial) (.inl rfl) (λb u hb q=>(sb.2 b hb).trans q) ⟨_,ho'⟩ ⟨by rw[JV];exact hz,its++[v],n+1,ri.append (.cons r .nil),?_⟩);rw[ho'];simp
noncomputable def Ih (X:Cx) (ifs:List Expr) (t:TT):Prop:=
 ∀(pins:List (Addr×Obj)) (s:Shared) (σ:St) (H:Hp) (Q:Bool->Hp->Prop),Inv X pins σ H s->t σ H Q->
  wpAny (model X.prog X.w) X.A (forIn ifs true λc r=>if r=true then do let ok←isTrue c X.env (eval c X.env);pure (ForInStep.yield ok)else pure (ForInStep.yield r)) (TP X pins σ Q) X.xe s
noncomputable def Jn:TT:=λ_ H Q=>Q true H
theorem Fo:Ih X [] Jn:=λ_ _ _ H _ I h=>wpAny_tests_nil ⟨H,I,h⟩
theorem f9 {c:Expr}{t:TT}(h:PT X c t):Ih X [c] t:=λpins s σ H Q I hw=>wpAny_tests_one (h pins s σ H Q I hw)
end
theorem BQ {α:Type}{t:Sem α}{Q Q':α->Shared->Prop}{M:Model}{A:Around}{E:Value->Shared->Prop}{s:Shared}(h:wpAny M A t Q (λ_ _=>False) s) (hQ:∀a s,Q a s->Q' a s):wpAny M A t Q' E s:=wpAny_mono h hQ λ_ _ z=>False.elim z
theorem wz {prog:Program}{w:World}{A:Around}{R:Result->Shared->Prop}{s:Shared}{elt target iter:Expr}{ifs:List Expr}{scope:Scope}{pos:Pos}{it acc:Value}{env:Env}(I:Nat->Shared->Prop)
  (turn:∀n s,I n s->wpAny (model prog w) A (pyNext it) (λr s₁=>match r with
   |none=>R (.ok .next) s₁
   |some v=>wpAny (model prog w) A (letOwnedTupleGo target it v) (λ_ s₁'=>wpAny (model prog w) A (assign target env v) (λ_ s₂=>
     wpAny (model prog w) A (forIn ifs true λc r=>if r=true then do let ok←isTrue c env (eval c env);pure (ForInStep.yield ok)else pure (ForInStep.yield r)) (λok s₃=>
      if ok=true then wpAny (model prog w) A (eval elt env) (λx s₄=>
       wpAny (model prog w) A (call (.builtin "list.append") [acc,x]) (λ_ s₅=>∃m,m<n/\I m s₅) (notedBy (model prog w) A env λe s'=>R (.error e) s') s₄) (notedBy (model prog w) A env λe s'=>R (.error e) s') s₃
      else ∃m,m<n/\I m s₃) (notedBy (model prog w) A env λe s'=>R (.error e) s') s₂) (notedBy (model prog w) A env λe s'=>R (.error e) s') s₁') (notedBy (model prog w) A env λe s'=>R (.error e) s') s₁) (notedBy (model prog w) A env λe s'=>R (.error e) s') s)
  (n:Nat) (h:I n s):
  codeAny (model prog w) A (.compLoop (.ListComp elt [⟨target,iter,ifs,0⟩] scope pos) 0 it acc env) R s:=by
 refine codeAny_loop rfl I (λn s hI=>?_) n h;show wpAny _ A ((compTurn (.ListComp elt [⟨target,iter,ifs,0⟩] scope pos) 0 it acc env).onRaise (λx=>do noteFrame x env;theTreesLotGoes x)) _ _ s;refine wpAny_noted ?_;rw[compTurn_list];refine JO (wpAny_standAt (JO (wpAny_mono (turn n s hI) (λr s₁ h₁=>?_) λ_ _ h'=>h')));cases r with
 |none=>exact JP h₁
 |some v=>
  refine JO (wpAny_mono h₁ (λ_ s₁' h₁'=>?_) λ_ _ h'=>h');refine JO (wpAny_mono h₁' (λ_ s₂ h₂=>JO (wpAny_mono h₂ (λok s₃ h₃=>?_) λ_ _ h'=>h')) λ_ _ h'=>h');cases ok with
  |false=>exact JP ⟨rfl,h₃⟩
  |true=>
   exact JO (JO (wpAny_mono h₃ (λx s₄ h₄=>JO (wpAny_mono h₄ (λ_ s₅ h₅=>JP (JP ⟨rfl,h₅⟩)) λ_ _ h'=>h')) λ_ _ h'=>h'))
section
variable{X:Cx}
noncomputable def IL (wi:TI) (g:TG) (tt:TT) (te:TE) (vs:List Nat):TE:=λσ H Q=>wi σ H λJ H1=>∀D,H1 D=none->∃W:Nat->Nat->Hp->Prop,(∃m,W 0 m (upd H1 D (.lst [])))/\∀i m H,W i m H->
 (J.stop i H/\Q (.ref D) H)\/(J.go i H/\∃Nx:Hp->Prop,(∀H',Nx H'->∃m',m'<m/\W (i+1) m' H')/\∀x H',J.EI i H x H'->g x (wipe σ vs) H' λσ2 H2=>wipe σ2 vs=wipe σ vs/\tt σ2 H2 λb H3=>
  if b=true then te σ2 H3 λy H4=>∃acc,H4 D=some (.lst acc)/\acc.length<sizeLine/\Nx (upd H4 D (.lst (acc++[y])))else Nx H3)
theorem AW {pins:List (Addr×Obj)}{s:Shared}{σ:St}{H:Hp}{Q:VK}{elt tg iter:Expr}{ifs:List Expr}{scope:Scope}{own:List (Str×Nat)}{pos pos':Pos}{wi:TI}{g:TG}{tt:TT}{te:TE}{use:Option (Value->Sem Unit)}{Qf:Value->Shared->Prop}
  (hc:X.calm=true) (hN:X.N.Nodup) (I:Inv X pins σ H s) (hi:PI X tg iter wi) (ok:yb X.N X.env.scope scope own)
  (hg:∀(s:Shared) (H:Hp) (C:Addr) (cl:List (Str×Addr)) (fp:List Addr),PG (X.wy s H scope (compEnvC scope cl C X.env) fp) tg g) (ht:∀(s:Shared) (H:Hp) (C:Addr) (cl:List (Str×Addr)) (fp:List Addr),Ih (X.wy s H scope (compEnvC scope cl C X.env) fp) ifs tt)
  (he:∀(s:Shared) (H:Hp) (C:Addr) (cl:List (Str×Addr)) (fp:List Addr),PE (X.wy s H scope (compEnvC scope cl C X.env) fp) elt te) (hs:∀x,foldedSetIterable iter X.env x=pure x)
  (h:IL wi g tt te (own.map (·.2)) σ H Q)
  (hRR:∀D C s' m H',Inv X pins σ H' s'->Q (.ref D) H'->s'.heap.Ns C m->uD X pins H' C->compPost (model X.prog X.w) X.A X.xe use Qf (.ref D) C (.ok .next) s'):
  wpAny (model X.prog X.w) X.A (comprehension (.ListComp elt [⟨tg,iter,ifs,0⟩] scope pos) scope X.env pos' (newList []) false (eval iter X.env) use) Qf X.xe s:=by
 have hfree:∀y∈scope.names,y.2=.free->∃c,X.env.cells.lookup y.1=some c:=λy hy e=>by
  rcases ok.free y hy e with k|k
  ·exact I.ok.has _ (.inl k)
  ·exact I.ok.has _ (.inr k)
 refine wpAny_comprehension_free (use:=use) rfl hs (zJ hfree) ok.kind (λy hy e=>by rw[ok.uniq y hy,e])
  (b8 (hi pins s σ H _ I h) λxv s1 hx=>b8 hx λitv s2 h2=>?_)
 obtain⟨it,fp,tn,J,H2,e,I2,T,st2,f2,q⟩:=h2;subst e;refine wpAny_newObj_type (ya ?_) (by show 0<=sizeLine;decide);generalize hD:s2.heap.objs.size=D;have hDn:H2 D=none:=I2.bq.fresh (Nat.le_of_eq hD);obtain⟨W,⟨m0,w0⟩,turn⟩:=q D hDn;generalize hs3:({s2 with heap:=s2.heap.push {cls:=.type "list",data:=.seq ([]:List Value).toArray}}:Shared)=s3;have I3:Inv X pins σ (upd H2 D (.lst [])) s3:=by
  rw[←hs3];refine I2.laid (t':=s2.toks) (λb o e=>JR _ e) (Nat.le_of_eq hD) ⟨Kk _,[],0,.nil,?_⟩;rw[←hD];exact J4 _ rfl
 have h3:s3.heap=s2.heap.push {cls:=.type "list",data:=.seq ([]:List Value).toArray}:=by rw[←hs3]
 have sz:∀b∈fp,b<s2.heap.objs.size:=λb hb=>by
  obtain⟨o,e,_⟩:=T.obj _ _ st2 b hb;exact J7 e
 have f3:∀b∈fp,uD X pins (upd H2 D (.lst [])) b/\b<s3.heap.objs.size:=λb hb=>by
  have hlt:=sz b hb;refine⟨⟨?_,(f2 b hb).2⟩,by rw[h3,Km];exact Nat.lt_succ_of_lt hlt⟩;rw[ak (by rw[←hD];exact Kg hlt)];exact(f2 b hb).1
 have st3:tn 0 s3.heap:=T.keep _ _ _ st2 λb _ o e=>by rw[h3];exact JR _ e
 have I4:=yc I3 ok hN f3;have pg:=hg s3 (upd H2 D (.lst [])) s3.heap.objs.size (cellsFrom (s3.heap.objs.size+1) scope.names (bO X.env.cells scope.names [])) fp;have pt:=ht s3 (upd H2 D (.lst [])) s3.heap.objs.size (cellsFrom (s3.heap.objs.size+1) scope.names (bO X.env.cells scope.names [])) fp;have pe:=he s3 (upd H2 D (.lst [])) s3.heap.objs.size (cellsFrom (s3.heap.objs.size+1) scope.names (bO X.env.cells scope.names [])) fp;show codeAny _ _ (.compStart (.ListComp elt [⟨tg,iter,ifs,0⟩] scope pos) 0 (.ref it) (.ref D) (compEnvC scope (cellsFrom (s3.heap.objs.size+1) scope.names (bO X.env.cells scope.names [])) s3.heap.objs.size X.env)) (compPost (model X.prog X.w) X.A X.xe use Qf (.ref D) s3.heap.objs.size) {s3 with heap:=pushCells (s3.heap.push {cls:=.type "dict",data:=.dict #[]}) scope.names};have nfp:∀b∈fp,(upd H2 D (.lst [])) b=none:=λb hb=>(f3 b hb).1.1;generalize hce:compEnvC scope (cellsFrom (s3.heap.objs.size+1) scope.names (bO X.env.cells scope.names [])) s3.heap.objs.size X.env=ce at I4 pg pt pe ⊢;have cL:ce.locals=s3.heap.objs.size:=by subst hce;rfl
 generalize hH3:upd H2 D (.lst [])=H3 at I3 I4 pg pt pe w0 nfp f3;generalize hs4:({s3 with heap:=pushCells (s3.heap.push {cls:=.type "dict",data:=.dict #[]}) scope.names}:Shared)=s4 at I4 ⊢;have st4:tn 0 s4.heap:=T.keep _ _ _ st3 λb _ o e=>by rw[←hs4];exact pushCells_keeps _ _ _ _ (JR _ e)
 have stat:∀{σ':St}{H':Hp}{s':Shared},Inv (X.wy s3 H3 scope ce fp) [] σ' H' s'->(∀b∈fp,H' b=none)->∀b∈fp,uD (X.wy s3 H3 scope ce fp) [] H' b:=λ{σ' H' s'} I' hn b hb=>
  ⟨hn b hb,(I'.ok.IJ b hb).1,I'.ok.CW b hb,.inl hb,λx c e=>(I'.ok.IJ b hb).2 x c e,λp hp=>absurd (show p∈([]:List (Addr×Obj))++[]from hp) (by simp)⟩
 have loop:codeAny (model X.prog X.w) X.A (.compLoop (.ListComp elt [⟨tg,iter,ifs,0⟩] scope pos) 0 (.ref it) (.ref D) ce) (compPost (model X.prog X.w) X.A X.xe use Qf (.ref D) s3.heap.objs.size) s4:=by
  refine wz (λn s'=>∃i H',Inv (X.wy s3 H3 scope ce fp) [] (wipe σ (own.map (·.2))) H' s'/\tn i s'.heap/\(∀b∈fp,H' b=none)/\W i n H') ?_ m0 ⟨0,H3,I4,st4,nfp,w0⟩;rintro n s5 ⟨i,H5,I5,st5,n5,w5⟩;rcases turn i n H5 w5 with⟨stop,qq⟩|⟨go,Nx,hNx,step⟩
  ·have td:=T.done (X.wy s3 H3 scope ce fp) rfl rfl rfl hc i [] s5 _ H5 (λ_ _=>False) I5 (stat I5 n5) st5 stop;refine BQ td λr s6 ⟨hr,I6⟩=>?_;subst hr;have I7:Inv X pins σ H5 s6:=I3.HN (ch:=fp) I6.os I6.base I6.bq I6.bare λb hb=>⟨(f3 b hb).1.2.2.2.1,(f3 b hb).1.2.1,(f3 b hb).1.2.2.2.2.1,(f3 b hb).1.2.2.2.2.2⟩;have nC:H5 s3.heap.objs.size=none:=by
    have z:H5 ce.locals=none:=I6.free;rw[cL]at z;exact z
   obtain⟨m,hn,_⟩:=I6.loc;have hn:s6.heap.Ns ce.locals m:=hn;rw[cL]at hn;exact hRR D s3.heap.objs.size s6 m H5 I7 qq hn (I3.C2 (J3 _) nC)
  ·have ti:=T.item (X.wy s3 H3 scope ce fp) rfl rfl rfl hc i [] s5 _ H5 (λ_ _=>False) I5 (stat I5 n5) st5 go;refine BQ ti λr s6 ⟨u,hr,h6⟩=>?_;subst hr;refine BQ h6 λ_ s7 ⟨x,H7,I7,r7,y7,st7,n7⟩=>?_;have I7':=I7.pinned (stat I7 n7) (T.obj _ _ st7);refine BQ (pg _ s7 _ H7 x u _ I7' r7 (step x H7 y7)) λ_ s8 ⟨σ8,H8,I8,hw8,q8⟩=>?_;refine BQ (pt _ s8 σ8 H8 _ I8 q8) λb s9 ⟨H9,I9,q9⟩=>?_;have fin:∀{s':Shared}{H':Hp},Inv (X.wy s3 H3 scope ce fp) ([]++sG fp s7.heap) σ8 H' s'->Nx H'->∃m,m<n/\∃i H',Inv (X.wy s3 H3 scope ce fp) [] (wipe σ (own.map (·.2))) H' s'/\tn i s'.heap/\(∀b∈fp,H' b=none)/\W i m H':=λ{s' H'} I' nx=>by
    obtain⟨m',hm,w'⟩:=hNx H' nx;have pin':∀b∈fp,∀o,s7.heap.get? b=some o->s'.heap.get? b=some o/\H' b=none:=λb hb o e=>
     let z:=I'.pin (b,o) (Ku _ (Ku _ (mW hb e)))
     ⟨z.1,z.2.1⟩
    have hl:(wipe σ (own.map (·.2))).length=σ8.length:=by rw[←hw8,kF]
    refine⟨m',hm,i+1,H',(I'.og (pins:=[])).weak hl (λj v e=>?_),T.keep _ _ _ st7 λb hb o e=>(pin' b hb o e).1,λb hb=>?_,w'⟩
    ·rw[←hw8]at e;exact(pR e).1
    ·obtain⟨o,e,_⟩:=T.obj _ _ st7 b hb;exact(pin' b hb o e).2
   cases b with
   |false=>
    simp only[Kc,if_false]at q9 ⊢;exact fin I9 q9
   |true=>
    simp only[if_true]at q9 ⊢;refine BQ (pe _ s9 σ8 H9 _ I9 q9) λz s10 ⟨yv,H10,I10,r10,acc,hD10,hz10,nx⟩=>?_;exact GK (X:=X.wy s3 H3 scope ce fp) I10 hD10 hz10 r10 λs11 I11=>fin I11 nx
 exact codeAny_compStart_list loop (T.self X.A 0 _ _ _ st4 loop)
theorem sM {elt tg iter:Expr}{ifs:List Expr}{scope:Scope}{own:List (Str×Nat)}{pos:Pos}{wi:TI}{g:TG}{tt:TT}{te:TE}(hc:X.calm=true) (hN:X.N.Nodup) (hi:PI X tg iter wi) (ok:yb X.N X.env.scope scope own)
  (hg:∀(s:Shared) (H:Hp) (C:Addr) (cl:List (Str×Addr)) (fp:List Addr),PG (X.wy s H scope (compEnvC scope cl C X.env) fp) tg g) (ht:∀(s:Shared) (H:Hp) (C:Addr) (cl:List (Str×Addr)) (fp:List Addr),Ih (X.wy s H scope (compEnvC scope cl C X.env) fp) ifs tt)
  (he:∀(s:Shared) (H:Hp) (C:Addr) (cl:List (Str×Addr)) (fp:List Addr),PE (X.wy s H scope (compEnvC scope cl C X.env) fp) elt te) (hs:∀x,foldedSetIterable iter X.env x=pure x:=by intro _;rfl):
  PE X (.ListComp elt [⟨tg,iter,ifs,0⟩] scope pos) (IL wi g tt te (own.map (·.2))):=by
 intro pins s σ H Q I h;rw[eval_ListComp];refine AW hc hN I hi ok hg ht he hs h λD C s' m H' I' q hn f=>⟨m,hn,λh'' sb=>?_⟩;obtain⟨f0,f1,f2,f3,f4,f5⟩:=f;exact⟨.ref D,H',I'.turned (t':=s'.toks) (λb o hb e=>(sb.2 b hb).trans e) f0 f1 f3 f4 f5,rfl,q⟩
theorem sN {i:Nat}{y:Str}{py:Pos}{elt tg iter:Expr}{ifs:List Expr}{scope:Scope}{own:List (Str×Nat)}{pos spos:Pos}{wi:TI}{g:TG}{tt:TT}{te:TE}(hc:X.calm=true) (hN:X.N.Nodup) (hy:X.N[i]? =some y) (hyl:X.env.scope.names.lookup y=some .local)
  (hsw:swapsWith (.ListComp elt [⟨tg,iter,ifs,0⟩] scope pos) (some (.Name y py)) spos.line X.env=pure true) (hi:PI X tg iter wi) (ok:yb X.N X.env.scope scope own)
  (hg:∀(s:Shared) (H:Hp) (C:Addr) (cl:List (Str×Addr)) (fp:List Addr),PG (X.wy s H scope (compEnvC scope cl C X.env) fp) tg g) (ht:∀(s:Shared) (H:Hp) (C:Addr) (cl:List (Str×Addr)) (fp:List Addr),Ih (X.wy s H scope (compEnvC scope cl C X.env) fp) ifs tt)
  (he:∀(s:Shared) (H:Hp) (C:Addr) (cl:List (Str×Addr)) (fp:List Addr),PE (X.wy s H scope (compEnvC scope cl C X.env) fp) elt te) (hs:∀x,foldedSetIterable iter X.env x=pure x:=by intro _;rfl):
  PS X (.Assign [.Name y py] (.ListComp elt [⟨tg,iter,ifs,0⟩] scope pos) spos) (HS (IL wi g tt te (own.map (·.2))) (xS i)):=by
 intro pins s σ H D I h;rw[exec_Assign_Name_used _ _ _ _ hsw];refine JO (wpAny_standAt (JO ?_));show wpAny _ X.A (do let _←comprehension (.ListComp elt [⟨tg,iter,ifs,0⟩] scope pos) scope X.env (firstIterPos [⟨tg,iter,ifs,0⟩] pos) (newList []) false (eval iter X.env) (some (assign (.Name y py) X.env))) _ _ s;have h:IL wi g tt te (own.map (·.2)) σ H (λx H1=>xS i x σ H1 D.nx):=h;refine JO (b8 (AW (Qf:=λ_ s'=>SP X pins D .next s') hc hN I hi ok hg ht he hs h λL C s' m H' I' q hn f=>?_) λ_ s' hq=>JP (JP hq));show wpAny _ _ (assign (.Name y py) X.env (.ref L)) _ _ _;refine wpAny_assign_Name (vg (v:=V.ref L) I' hN hy (.inl hyl) rfl (λs2 I2 ⟨a,sb,ha⟩=>?_) (.inr hyl));obtain⟨f0,f1,f2,f3,f4,f5⟩:=f;have haC:C≠a:=by
  rcases ha with z|z
  ·rw[z];exact f1
  ·exact λe=>f4 y a z e.symm
 refine⟨m,hn.sameBut sb haC,λh3 sb3=>?_⟩;exact⟨_,H',I2.turned (t':=s2.toks) (λb o hb e=>(sb3.2 b hb).trans e) f0 f1 f3 f4 f5,q⟩
theorem wA {elt:Expr}{gs:List Comprehension}{scope:Scope}{pos py:Pos}{y:Str}{l:Nat}{env:Env}(hk:env.scope.kind=.function) (hy:env.scope.names.lookup y=some .local) (hl:(py.line==pos.line)=true)
  (ha:(scope.names.any λ(n,k)=>n==y&&(k== .local||k== .cell))=false):swapsWith (.ListComp elt gs scope pos) (some (.Name y py)) l env=pure true:=by
 have ky:env.kindOf y=some .local:=hy;have hb:env.blockKind=.function:=by unfold Env.blockKind;rw[hk];rfl
 unfold swapsWith;simp only[hb,ky,ha,Expr.pos,hl];rfl
end
theorem yd {lo:Int}{n:Nat}{g:TG}{tt:TT}{te:TE}{vs:List Nat}{σ:St}{H1:Hp}{D:Addr}{Qd:Hp->Prop}(Pv:Nat->Hp->Prop) (h0:Pv 0 (upd H1 D (.lst [])))
  (hs:∀i H,i<n->Pv i H->g (.int (lo+i)) (wipe σ vs) H λσ2 H2=>wipe σ2 vs=wipe σ vs/\tt σ2 H2 λb H3=>
   if b=true then te σ2 H3 λy H4=>∃acc,H4 D=some (.lst acc)/\acc.length<sizeLine/\Pv (i+1) (upd H4 D (.lst (acc++[y])))else Pv (i+1) H3) (hd:∀H,Pv n H->Qd H):
  ∃W:Nat->Nat->Hp->Prop,(∃m,W 0 m (upd H1 D (.lst [])))/\∀i m H,W i m H->
   ((E2 lo n).stop i H/\Qd H)\/((E2 lo n).go i H/\∃Nx:Hp->Prop,(∀H',Nx H'->∃m',m'<m/\W (i+1) m' H')/\∀x H',(E2 lo n).EI i H x H'->g x (wipe σ vs) H' λσ2 H2=>wipe σ2 vs=wipe σ vs/\tt σ2 H2 λb H3=>
    if b=true then te σ2 H3 λy H4=>∃acc,H4 D=some (.lst acc)/\acc.length<sizeLine/\Nx (upd H4 D (.lst (acc++[y])))else Nx H3):=by
 refine⟨λi m H=>m=n - i/\i<=n/\Pv i H,⟨n,by simp,Kk _,h0⟩,?_⟩;rintro i m H ⟨rfl,hi,p⟩
 by_cases hlt:i<n
 ·refine .inr ⟨hlt,Pv (i+1),λH' p'=>⟨n - (i+1),by omega,rfl,hlt,p'⟩,λx H' y=>?_⟩;obtain⟨e,y⟩:=y;subst e y;exact hs i _ hlt p
 ·have e:i=n:=by omega
  subst e;exact .inl ⟨J3 _,hd H p⟩
theorem rX {K:PySem.W.Frag}{a:Addr}{xs:List V}{g:TG}{tt:TT}{te:TE}{vs:List Nat}{σ:St}{H1:Hp}{D:Addr}{Qd:Hp->Prop}(Pv:Nat->Hp->Prop) (h0:Pv 0 (upd H1 D (.lst []))) (hl:∀i H,i<=xs.length->Pv i H->ba K H a xs)
  (hs:∀i x H,xs[i]? =some x->Pv i H->g x (wipe σ vs) H λσ2 H2=>wipe σ2 vs=wipe σ vs/\tt σ2 H2 λb H3=>
   if b=true then te σ2 H3 λy H4=>∃acc,H4 D=some (.lst acc)/\acc.length<sizeLine/\Pv (i+1) (upd H4 D (.lst (acc++[y])))else Pv (i+1) H3) (hd:∀H,Pv xs.length H->Qd H):
  ∃W:Nat->Nat->Hp->Prop,(∃m,W 0 m (upd H1 D (.lst [])))/\∀i m H,W i m H->
   ((F5 K a).stop i H/\Qd H)\/((F5 K a).go i H/\∃Nx:Hp->Prop,(∀H',Nx H'->∃m',m'<m/\W (i+1) m' H')/\∀x H',(F5 K a).EI i H x H'->g x (wipe σ vs) H' λσ2 H2=>wipe σ2 vs=wipe σ vs/\tt σ2 H2 λb H3=>
    if b=true then te σ2 H3 λy H4=>∃acc,H4 D=some (.lst acc)/\acc.length<sizeLine/\Nx (upd H4 D (.lst (acc++[y])))else Nx H3):=by
 refine⟨λi m H=>m=xs.length - i/\i<=xs.length/\Pv i H,⟨xs.length,by simp,Kk _,h0⟩,?_⟩;rintro i m H ⟨rfl,hi,p⟩;have q:=hl i H hi p
 by_cases hlt:i<xs.length
 ·refine .inr ⟨⟨xs,xs[i],q,by simp[hlt]⟩,Pv (i+1),λH' p'=>⟨xs.length - (i+1),by omega,rfl,hlt,p'⟩,λx H' y=>?_⟩;obtain⟨e,y⟩:=y;subst e;exact hs i x _ (y xs q) p
 ·have e:i=xs.length:=by omega
  subst e;exact .inl ⟨⟨xs,q,J3 _⟩,hd H p⟩
theorem Dq {K:PySem.W.Frag}{a:Addr}{xs:List V}{g:TG}{tt:TT}{te:TE}{vs:List Nat}{σ:St}{H1:Hp}{D:Addr}{Qd:Hp->Prop}(Pv:Nat->Hp->Prop) (h0:Pv 0 (upd H1 D (.lst []))) (hl:∀i H,i<=xs.length->Pv i H->eJ K H a xs)
  (hs:∀i x H,xs[i]? =some x->Pv i H->g x (wipe σ vs) H λσ2 H2=>wipe σ2 vs=wipe σ vs/\tt σ2 H2 λb H3=>
   if b=true then te σ2 H3 λy H4=>∃acc,H4 D=some (.lst acc)/\acc.length<sizeLine/\Pv (i+1) (upd H4 D (.lst (acc++[y])))else Pv (i+1) H3) (hd:∀H,Pv xs.length H->Qd H):
  ∃W:Nat->Nat->Hp->Prop,(∃m,W 0 m (upd H1 D (.lst [])))/\∀i m H,W i m H->
   ((F6 K a).stop i H/\Qd H)\/((F6 K a).go i H/\∃Nx:Hp->Prop,(∀H',Nx H'->∃m',m'<m/\W (i+1) m' H')/\∀x H',(F6 K a).EI i H x H'->g x (wipe σ vs) H' λσ2 H2=>wipe σ2 vs=wipe σ vs/\tt σ2 H2 λb H3=>
    if b=true then te σ2 H3 λy H4=>∃acc,H4 D=some (.lst acc)/\acc.length<sizeLine/\Nx (upd H4 D (.lst (acc++[y])))else Nx H3):=by
 refine⟨λi m H=>m=xs.length - i/\i<=xs.length/\Pv i H,⟨xs.length,by simp,Kk _,h0⟩,?_⟩;rintro i m H ⟨rfl,hi,p⟩;have q:=hl i H hi p
 by_cases hlt:i<xs.length
 ·refine .inr ⟨⟨xs,xs[i],q,by simp[hlt]⟩,Pv (i+1),λH' p'=>⟨xs.length - (i+1),by omega,rfl,hlt,p'⟩,λx H' y=>?_⟩;obtain⟨e,y⟩:=y;subst e;exact hs i x _ (y xs q) p
 ·have e:i=xs.length:=by omega
  subst e;exact .inl ⟨⟨xs,q,J3 _⟩,hd H p⟩
noncomputable def Ii (N:List Str) (sc scope:Scope) (own:List (Str×Nat)):Bool:=
 (match scope.kind with|.function=>true|_=>false)&&(scope.names.all λy=>decide (scope.names.lookup y.1=some y.2))&&(own.all λp=>decide (N[p.2]? =some p.1))&&
  (scope.names.all λy=>match y.2 with
   |.free=>(match sc.names.lookup y.1 with|some .cell=>true|some .free=>true|_=>false)
   |.local=>decide (y.1∈own.map (·.1))||decide (y.1∉N)
   |.cell=>decide (y.1∈own.map (·.1))||decide (y.1∉N)
   |_=>true)
theorem dG {N:List Str}{sc scope:Scope}{own:List (Str×Nat)}(h:Ii N sc scope own=true):yb N sc scope own:=by
 unfold Ii at h;simp only[JS,List.all_eq_true,JT]at h;obtain⟨⟨⟨h1,h2⟩,h3⟩,h4⟩:=h;refine⟨?_,h2,h3,λy hy e=>?_,λy hy e=>?_⟩
 ·split at h1
  ·assumption
  ·cases h1
 ·have q:=h4 y hy;simp only[e]at q;split at q<;>first|exact .inl (by assumption)|exact .inr (by assumption)|cases q
 ·have q:=h4 y hy;rcases e with e|e<;>(simp only[e,Bool.or_eq_true,JT]at q;exact q)
section
variable{prog:Program}{w:World}{A:Around}{R:Result->Shared->Prop}{s:Shared}{elt t0 i0 t1 i1:Expr}{ifs0 ifs1:List Expr}{scope:Scope}{pos:Pos}{it acc:Value}{env:Env}
end
section
variable{X:Cx}
end
section
variable{κ:Type} [DecidableEq κ]
noncomputable def cw (kvs:List (κ×V)) (k:κ):Option V:=(kvs.find? λkv=>decide (kv.1=k)).map (·.2)
noncomputable def putK (kvs:List (κ×V)) (k:κ) (v:V):List (κ×V):=
 if(kvs.any λkv=>decide (kv.1=k))=true then kvs.map (λkv=>if kv.1=k then(kv.1,v)else kv)else kvs++[(k,v)]
noncomputable def dH (kvs:List (κ×V)) (k:κ):List (κ×V):=kvs.filter λkv=>decide (kv.1≠k)
theorem cC {p:κ×V}{r:List (κ×V)}{k:κ}(e:p.1=k):cw (p::r) k=some p.2:=by simp[cw,List.find?_cons,e]
theorem b9 {p:κ×V}{r:List (κ×V)}{k:κ}(e:¬p.1=k):cw (p::r) k=cw r k:=by simp[cw,List.find?_cons,e]
theorem gD (k:κ):∀kvs:List (κ×V),(kvs.any λkv=>decide (kv.1=k))=(cw kvs k).isSome
 |[]=>rfl
 |p::r=>by
  rw[List.any_cons]
  by_cases e:p.1=k
  ·simp only[cC e,J1 e,Bool.true_or,Option.isSome_some]
  ·rw[b9 e,J9 e,Bool.false_or];exact gD k r
theorem ye (k j:κ) (y:V):∀kvs:List (κ×V),cw (kvs.map λkv=>if kv.1=k then(kv.1,y)else kv) j=(cw kvs j).map λx=>if j=k then y else x
 |[]=>rfl
 |p::r=>by
  have ih:=ye k j y r;rw[Kq]
  by_cases h:p.1=k
  ·rw[if_pos h]
   by_cases e:p.1=j
   ·rw[cC (p:=(p.1,y)) e,cC e,Option.map_some,if_pos (e.symm.trans h)]
   ·rw[b9 (p:=(p.1,y)) e,b9 e,ih]
  ·rw[if_neg h]
   by_cases e:p.1=j
   ·rw[cC (p:=p) e,cC e,Option.map_some,if_neg (λz=>h (e.trans z))]
   ·rw[b9 (p:=p) e,b9 e,ih]
theorem vq (k j:κ) (y:V):∀kvs:List (κ×V),cw kvs k=none->cw (kvs++[(k,y)]) j=if j=k then some y else cw kvs j
 |[],_=>by
  by_cases e:k=j
  ·rw[if_pos e.symm];exact cC (p:=(k,y)) e
  ·rw[if_neg (λz=>e z.symm)];exact b9 (p:=(k,y)) e
 |p::r,hn=>by
  rw[List.cons_append];have hk:¬p.1=k:=λz=>by rw[cC z]at hn;cases hn
  rw[b9 hk]at hn;have ih:=vq k j y r hn
  by_cases e:p.1=j
  ·rw[cC e,cC e,if_neg (λz=>hk (e.trans z))]
  ·rw[b9 e,b9 e,ih]
theorem Dr (kvs:List (κ×V)) (k j:κ) (y:V):cw (putK kvs k y) j=if j=k then some y else cw kvs j:=by
 unfold putK
 by_cases a:(kvs.any λkv=>decide (kv.1=k))=true
 ·rw[if_pos a,ye];rw[gD]at a
  by_cases e:j=k
  ·obtain⟨x,hx⟩:=Kw.mp a;rw[if_pos e,e,hx,Option.map_some,if_pos rfl]
  ·rw[if_neg e];cases cw kvs j with
   |none=>rfl
   |some x=>rw[Option.map_some,if_neg e]
 ·rw[if_neg a];refine vq k j y kvs ?_;rw[gD]at a;cases q:cw kvs k with
  |none=>rfl
  |some x=>rw[q]at a;exact(a rfl).elim
theorem qJ (kvs:List (κ×V)) (k:κ) (v:V):(putK kvs k v).length<=kvs.length+1:=by
 unfold putK;split
 ·rw[JQ];omega
 ·rw[JV,Kb,List.length_nil];omega
theorem iZ.gj {o:Option V}{u:Option Value}(r:iZ o u):o.isSome=u.isSome:=by
 cases o with
 |none=>cases u with
  |none=>rfl
  |some _=>exact(show False from r).elim
 |some _=>cases u with
  |none=>exact(show False from r).elim
  |some _=>rfl
theorem iZ.getD {o:Option V}{u:Option Value}{d:V}{d':Value}(r:iZ o u) (rd:RelV d d'):RelV (o.getD d) (u.getD d'):=by
 cases o with
 |none=>cases u with
  |none=>exact rd
  |some _=>exact(show False from r).elim
 |some _=>cases u with
  |none=>exact(show False from r).elim
  |some _=>exact r
theorem KV.val {kvs:List (κ×V)}{vs:List (κ×Value)}(r:KV kvs vs) (k:κ):iZ (cw kvs k) (valueAt vs k):=by
 unfold KV at r
 induction r with
 |nil=>exact True.intro
 | @cons p q ps qs h t ih=>
  obtain⟨h1,h2⟩:=h
  by_cases e:p.1=k
  ·have e':q.1=k:=h1.symm.trans e;have b:valueAt (q::qs) k=some q.2:=by simp[valueAt,List.find?_cons,e']
   rw[cC e,b];exact h2
  ·have e':¬q.1=k:=λz=>e (h1.trans z);have b:valueAt (q::qs) k=valueAt qs k:=by simp[valueAt,List.find?_cons,e']
   rw[b9 e,b];exact ih
theorem KV.any {kvs:List (κ×V)}{vs:List (κ×Value)}(r:KV kvs vs) (k:κ):(kvs.any λkv=>decide (kv.1=k))=vs.any λkv=>decide (kv.1=k):=by
 unfold KV at r
 induction r with
 |nil=>rfl
 |cons h t ih=>rw[List.any_cons,List.any_cons,ih,h.1]
theorem KV.GL {kvs:List (κ×V)}{vs:List (κ×Value)}(r:KV kvs vs) (k:κ){y:V}{u:Value}(ry:RelV y u):
  KV (kvs.map λkv=>if kv.1=k then(kv.1,y)else kv) (vs.map λkv=>if kv.1=k then(kv.1,u)else kv):=by
 unfold KV at r ⊢
 induction r with
 |nil=>exact .nil
 | @cons p q ps qs h t ih=>
  rw[Kq,Kq];refine .cons ?_ ih;obtain⟨h1,h2⟩:=h
  by_cases e:p.1=k
  ·rw[if_pos e,if_pos (h1.symm.trans e)];exact⟨h1,ry⟩
  ·rw[if_neg e,if_neg (λz=>e (h1.trans z))];exact⟨h1,h2⟩
theorem KV.put {kvs:List (κ×V)}{vs:List (κ×Value)}(r:KV kvs vs) (k:κ){y:V}{u:Value}(ry:RelV y u):KV (putK kvs k y) (stored vs k u):=by
 unfold putK stored;rw[r.any k]
 by_cases e:(vs.any λkv=>decide (kv.1=k))=true
 ·rw[if_pos e,if_pos e];exact r.GL k ry
 ·rw[if_neg e,if_neg e];exact Paired.snoc r ⟨rfl,ry⟩
theorem KV.drop {kvs:List (κ×V)}{vs:List (κ×Value)}(r:KV kvs vs) (k:κ):KV (dH kvs k) (without vs k):=by
 unfold KV at r ⊢;unfold dH without
 induction r with
 |nil=>exact .nil
 | @cons p q ps qs h t ih=>
  obtain⟨h1,h2⟩:=h;rw[List.filter_cons,List.filter_cons]
  by_cases e:p.1=k
  ·have a:¬decide (p.1≠k)=true:=by simp[e]
   have b:¬decide (q.1≠k)=true:=by simp[h1.symm.trans e]
   rw[if_neg a,if_neg b];exact ih
  ·have e':¬q.1=k:=λz=>e (h1.trans z);have a:decide (p.1≠k)=true:=by simp[e]
   have b:decide (q.1≠k)=true:=by simp[e']
   rw[if_pos a,if_pos b];exact .cons ⟨h1,h2⟩ ih
theorem KV.length {kvs:List (κ×V)}{vs:List (κ×Value)}(r:KV kvs vs):kvs.length=vs.length:=Paired.length r
theorem yf (kvs:List (κ×V)) (k:κ):(dH kvs k).length<=kvs.length:=Kh _ _
end
theorem l5 {P:Program}{w:World}{k:Key}{u:Value}(r:RelV (kV k) u):(aW P w).is k u=true:=by
 cases k with
 |inl i=>obtain⟨t,e⟩:=(show ∃t,u=Value.int i t from r);subst e;exact xM P w i t
 |inr x=>obtain⟨t,e⟩:=(show ∃t,u=Value.str x t from r);subst e;exact xN P w x t
theorem vr {P:Program}{w:World}:∀{ks:List Key}{us:List Value},Vals (ks.map kV) us->ItemsAre (aW P w) ks us
 |[],_,r=>by rw[List.map_nil]at r;cases r;exact .nil
 |k::ks,_,r=>by
  rw[Kq]at r;cases r with
  |cons h t=>exact .cons (l5 h) (vr t)
noncomputable abbrev KT (H:Hp):List (List Key×V)->List (List Key×Addr×Value)->Prop:=Paired λp q=>p.1=q.1/\H q.2.1=some (.tup (p.1.map kV))/\RelV p.2 q.2.2
theorem KT.val {H:Hp}{kvs:List (List Key×V)}{xs:List (List Key×Addr×Value)}(r:KT H kvs xs) (k:List Key):iZ (cw kvs k) ((atKey xs k).map (·.2)):=by
 induction r with
 |nil=>exact True.intro
 | @cons p q ps qs h t ih=>
  obtain⟨h1,_,h2⟩:=h
  by_cases e:p.1=k
  ·have e':q.1=k:=h1.symm.trans e;have b:atKey (q::qs) k=some q.2:=by simp[atKey,List.find?_cons,e']
   rw[cC e,b];exact h2
  ·have e':¬q.1=k:=λz=>e (h1.trans z);have b:atKey (q::qs) k=atKey qs k:=by simp[atKey,List.find?_cons,e']
   rw[b9 e,b];exact ih
theorem KT.GL {H:Hp}{kvs:List (List Key×V)}{xs:List (List Key×Addr×Value)}(r:KT H kvs xs) (k:List Key){y:V}{u:Value}(ry:RelV y u):
  KT H (kvs.map λkv=>if kv.1=k then(kv.1,y)else kv) (xs.map (putAt k u)):=by
 induction r with
 |nil=>exact .nil
 | @cons p q ps qs h t ih=>
  rw[Kq,Kq];refine .cons ?_ ih;obtain⟨h1,h2,h3⟩:=h;unfold putAt
  by_cases e:p.1=k
  ·rw[if_pos e,if_pos (h1.symm.trans e)];exact⟨h1,h2,ry⟩
  ·rw[if_neg e,if_neg (λz=>e (h1.trans z))];exact⟨h1,h2,h3⟩
theorem KT.put {H:Hp}{kvs:List (List Key×V)}{xs:List (List Key×Addr×Value)}(r:KT H kvs xs) (k:List Key){b:Addr}{y:V}{u:Value}(hb:H b=some (.tup (k.map kV))) (ry:RelV y u):
  KT H (putK kvs k y) (storedH xs k b u):=by
 have e:(kvs.any λkv=>decide (kv.1=k))=(atKey xs k).isSome:=by
  rw[gD,(r.val k).gj,Kn]
 unfold putK storedH;rw[e]
 by_cases q:(atKey xs k).isSome=true
 ·rw[if_pos q,if_pos q];exact r.GL k ry
 ·rw[if_neg q,if_neg q];exact Paired.snoc r ⟨rfl,hb,ry⟩
theorem KT.keeps {H H':Hp}{kvs:List (List Key×V)}{xs:List (List Key×Addr×Value)}(r:KT H kvs xs) (ht:∀b ys,H b=some (.tup ys)->H' b=some (.tup ys)):KT H' kvs xs:=
 Paired.Gu r λ_ _ z=>⟨z.1,ht _ _ z.2.1,z.2.2⟩
section
variable{P:Program}{w:World}{H:Hp}{h:Heap}{a:Addr}
theorem F8 {u:HO}(ok:ko P w H h) (e:Rd H a u):bV P w H h a u:=e.ok ok
theorem oj {kvs:List (Key×V)}(ok:ko P w H h) (e:Rd H a (.dK kvs)):kvs.length<=sizeLine/\(a==sysModules)=false/\∃vs,KV kvs vs/\h.DictOf (aW P w) a vs:=
 show bV P w H h a (.dK kvs)from F8 ok e
theorem sO {kvs:List (Key×V)}(ok:ko P w H h) (e:H a=some (.dK kvs)):kvs.length<=sizeLine/\(a==sysModules)=false/\∃vs,KV kvs vs/\h.DictOf (aW P w) a vs:=oj ok (.inl e)
theorem kG {ks:List Key}(ok:ko P w H h) (e:H a=some (.tup (ks.map kV))):(tupleKind (aW P w)).is h ks a:=by
 obtain⟨_,its,r,o,h1,h2,n,h3⟩:=(show bV P w H h a (.tup (ks.map kV))from ok a _ e);exact⟨o,its.toArray,n,h1,h2,h3,by simpa using vr r⟩
theorem qK {kvs:List (List Key×V)}(ok:ko P w H h) (e:Rd H a (.dT kvs)):kvs.length<=sizeLine/\(a==sysModules)=false/\
  ∃xs,KT H kvs xs/\h.DictOfH (tupleKind (aW P w)) a xs:=by
 obtain⟨z,y,xs,r,o,es,ep,h1,h2,h3,h4,h5⟩:=(show bV P w H h a (.dT kvs)from F8 ok e);refine⟨z,y,xs,r,o,es,ep,h1,h2,h3,h4,λx hx=>?_,h5⟩;have all:∀{l:List (List Key×V)}{m:List (List Key×Addr×Value)},KT H l m->∀x∈m,(tupleKind (aW P w)).is h x.1 x.2.1:=by
  intro l m q
  induction q with
  |nil=>intro x hx;exact nomatch hx
  | @cons p q ps qs hq t ih=>
   intro x hx;rcases JX.mp hx with e|hx
   ·subst e;exact kG ok (by rw[←hq.1];exact hq.2.1)
   ·exact ih x hx
 exact all r x hx
theorem yg {kvs:List (List Key×V)}(ok:ko P w H h) (e:H a=some (.dT kvs)):kvs.length<=sizeLine/\(a==sysModules)=false/\
  ∃xs,KT H kvs xs/\h.DictOfH (tupleKind (aW P w)) a xs:=qK ok (.inl e)
end
noncomputable def fb (H:Hp) (a:Addr) (y:V) (r:Option V):Prop:=
 (∃kvs k,Rd H a (.dK kvs)/\y=kV k/\r=cw kvs k)\/∃kvs k b,Rd H a (.dT kvs)/\y=.ref b/\H b=some (.tup (k.map kV))/\r=cw kvs k
noncomputable def rD (H:Hp) (a:Addr) (y v:V) (H':Hp):Prop:=
 (∃kvs k,H a=some (.dK kvs)/\y=kV k/\kvs.length<sizeLine/\H'=upd H a (.dK (putK kvs k v)))\/
 ∃kvs k b,H a=some (.dT kvs)/\y=.ref b/\H b=some (.tup (k.map kV))/\kvs.length<sizeLine/\H'=upd H a (.dT (putK kvs k v))
theorem fb.k {H:Hp}{a:Addr}{kvs:List (Key×V)}{k:Key}(e:H a=some (.dK kvs)):fb H a (kV k) (cw kvs k):=.inl ⟨kvs,k,.inl e,rfl,rfl⟩
theorem fb.t {H:Hp}{a b:Addr}{kvs:List (List Key×V)}{k:List Key}(e:H a=some (.dT kvs)) (eb:H b=some (.tup (k.map kV))):fb H a (.ref b) (cw kvs k):=.inr ⟨kvs,k,b,.inl e,rfl,eb,rfl⟩
theorem rD.k {H:Hp}{a:Addr}{kvs:List (Key×V)}{k:Key}{v:V}(e:H a=some (.dK kvs)) (hl:kvs.length<sizeLine):rD H a (kV k) v (upd H a (.dK (putK kvs k v))):=.inl ⟨kvs,k,e,rfl,hl,rfl⟩
theorem rD.t {H:Hp}{a b:Addr}{kvs:List (List Key×V)}{k:List Key}{v:V}(e:H a=some (.dT kvs)) (eb:H b=some (.tup (k.map kV))) (hl:kvs.length<sizeLine):
  rD H a (.ref b) v (upd H a (.dT (putK kvs k v))):=.inr ⟨kvs,k,b,e,rfl,eb,hl,rfl⟩
section
variable{X:Cx}{pins:List (Addr×Obj)}{σ:St}{H:Hp}{s:Shared}{a:Addr}{y v:V}{u r:Value}{o:Option V}{A:Around}{E:Value->Shared->Prop}
theorem Inv.big (I:Inv X pins σ H s):sysModules<s.heap.objs.size:=by
 have h:mainGlobals<s.heap.objs.size:=(I.mod.glob.keeps I.bk).lt;exact Nat.lt_trans (by decide) h
theorem BR {Q:Value->Shared->Prop}(hu:A.units+1<cLine) (I:Inv X pins σ H s) (g:fb H a y (some v)) (ry:RelV y u) (h:∀w' s',Inv X pins σ H s'->RelV v w'->Q w' s'):
  wpAny (model X.prog X.w) A (getItem (.ref a) u) Q E s:=by
 rcases g with⟨kvs,k,e,ey,l⟩|⟨kvs,k,b,e,ey,eb,l⟩
 ·subst ey;obtain⟨z,hd,vs,rel,dd⟩:=oj I.bq e;obtain⟨w',hw,rw'⟩:=iZ.some_of (v:=v) (o:=valueAt vs k) (by rw[l];exact rel.val k);exact wpAny_getItem_of (l5 ry) dd.mapOf hw (h w' _ (I.tok _) rw')
 ·subst ey;cases(show u=Value.ref b from ry);obtain⟨z,hd,xs,rel,dd⟩:=qK I.bq e;obtain⟨w',hw,rw'⟩:=iZ.some_of (v:=v) (o:=(atKey xs k).map (·.2)) (by rw[l];exact rel.val k);obtain⟨p,hp,hp2⟩:=Option.map_eq_some_iff.mp hw;refine wpAny_getItem_heap (tupleKind_room_in1 hu) (kG I.bq eb) dd hp ?_;rw[hp2];exact h w' _ (I.tok _) rw'
theorem Jo {Q:Value->Shared->Prop}(hu:A.units+1<cLine) (I:Inv X pins σ H s) (g:fb H a y o) (ry:RelV y u) (h:∀s',Inv X pins σ H s'->Q (.bool o.isSome) s'):
  wpAny (model X.prog X.w) A (compareOp .In u (.ref a)) Q E s:=by
 rcases g with⟨kvs,k,e,ey,l⟩|⟨kvs,k,b,e,ey,eb,l⟩
 ·subst ey;obtain⟨z,hd,vs,rel,dd⟩:=oj I.bq e;refine wpAny_in_of (l5 ry) hd dd.mapOf ?_;rw[←(rel.val k).gj,←l];exact h _ (I.tok _)
 ·subst ey;cases(show u=Value.ref b from ry);obtain⟨z,hd,xs,rel,dd⟩:=qK I.bq e;refine wpAny_in_heap (tupleKind_room_in1 hu) (kG I.bq eb) hd dd ?_;have q:=(rel.val k).gj;rw[Kn]at q;rw[←q,←l];exact h _ (I.tok _)
theorem Fp {Q:Value->Shared->Prop}(hu:A.units+1<cLine) (I:Inv X pins σ H s) (g:fb H a y o) (ry:RelV y u) (h:∀s',Inv X pins σ H s'->Q (.bool (!o.isSome)) s'):
  wpAny (model X.prog X.w) A (compareOp .NotIn u (.ref a)) Q E s:=by
 rcases g with⟨kvs,k,e,ey,l⟩|⟨kvs,k,b,e,ey,eb,l⟩
 ·subst ey;obtain⟨z,hd,vs,rel,dd⟩:=oj I.bq e;refine wpAny_notIn_of (l5 ry) hd dd.mapOf ?_;rw[←(rel.val k).gj,←l];exact h _ (I.tok _)
 ·subst ey;cases(show u=Value.ref b from ry);obtain⟨z,hd,xs,rel,dd⟩:=qK I.bq e;refine wpAny_notIn_heap (tupleKind_room_in1 hu) (kG I.bq eb) hd dd ?_;have q:=(rel.val k).gj;rw[Kn]at q;rw[←q,←l];exact h _ (I.tok _)
theorem ju {h':Heap}{t':Nat}{ob:HO}(I:Inv X pins σ H s) (mu:EZ (H a)) (hs:Heap.SameBut a s.heap h') (he:∃q,h'.get? a=some q) (new:bV X.prog X.w (upd H a ob) h' a ob):
  Inv X pins σ (upd H a ob) {s with heap:=h',toks:=t'}:=
 I.write (x:=a) (e:=a) mu (.inl rfl) (λb q hb z=>(hs.2 b hb).trans z) he new
theorem wB {P:Program}{w:World}{H':Hp}{h':Heap}{kvs:List (Key×V)}{vs:List (Key×Value)}(z:kvs.length<=sizeLine) (hd:(a==sysModules)=false) (rel:KV kvs vs) (dd:h'.DictOf (aW P w) a vs):
  bV P w H' h' a (.dK kvs):=⟨z,hd,vs,rel,dd⟩
theorem BS {H':Hp}{Q:Unit->Shared->Prop}(hu:A.units+1<cLine) (I:Inv X pins σ H s) (g:rD H a y v H') (ry:RelV y u) (rv:RelV v r) (h:∀s',Inv X pins σ H' s'->Q () s'):
  wpAny (model X.prog X.w) A (setItem (.ref a) u r) Q E s:=by
 rcases g with⟨kvs,k,e,ey,l,eH⟩|⟨kvs,k,b,e,ey,eb,l,eH⟩
 ·subst ey eH;obtain⟨z,hd,vs,rel,dd⟩:=sO I.bq e;have hz:vs.length<=sizeLine:=by rw[←rel.length];exact z
  have hl:(putK kvs k v).length<=sizeLine:=by have:=qJ kvs k v;omega
  refine wpAny_setItem_pairs (hsz:=hz) (l5 ry) dd λh' dd' hs=>h _ ?_;have he:∃q,h'.get? a=some q:=let ⟨q,_,_,hq,_⟩:=dd';⟨q,hq⟩
  exact ju I (by rw[e];exact True.intro) hs he (wB hl hd (rel.put k rv) dd')
 ·subst ey eH;cases(show u=Value.ref b from ry);obtain⟨z,hd,xs,rel,dd⟩:=yg I.bq e;have hz:xs.length<=sizeLine:=by rw[←Paired.length rel];exact z
  have hl:(putK kvs k v).length<=sizeLine:=by have:=qJ kvs k v;omega
  refine wpAny_setItem_heap (hsz:=hz) (tupleKind_room_in1 hu) (kG I.bq eb) dd λh' dd' hs=>h _ ?_;obtain⟨q,es,ep,hq,h2,h3,h4,_,h5⟩:=dd';refine ju I (by rw[e];exact True.intro) hs ⟨q,hq⟩ ⟨hl,hd,_,(rel.put k eb rv).keeps λc ys ec=>?_,q,es,ep,hq,h2,h3,h4,h5⟩;rw[ak (ve ec e (λz=>nomatch z))];exact ec
end
section
variable{X:Cx}{pins:List (Addr×Obj)}{σ:St}{H:Hp}{s:Shared}{a:Addr}{kvs:List (Key×V)}{k:Key}{u:Value}{A:Around}{E:Value->Shared->Prop}
theorem HG {Q:Unit->Shared->Prop}(I:Inv X pins σ H s) (e:H a=some (.dK kvs)) (ry:RelV (kV k) u) (l:(cw kvs k).isSome=true) (h:∀s',Inv X pins σ (upd H a (.dK (dH kvs k))) s'->Q () s'):
  wpAny (model X.prog X.w) A (delItem (.ref a) u) Q E s:=by
 obtain⟨z,hd,vs,rel,dd⟩:=sO I.bq e;refine wpAny_delItem_slot dd.typeIs (by decide) PySem.F.slot_dict_delitem
  (call_meetsIn PySem.F.slot_dict_delitem dd.typeIs PySem.F.entry_dict_delitem (PySem.F.args_dict_delitem_2 _ _) (meets_dict_delitem_pairs (aW X.prog X.w) a (l5 ry)) ⟨vs,dd,by rw[←rel.length];exact z,by rw[←(rel.val k).gj];exact l,λh' dd' hs=>h _ ?_⟩)
 have he:∃q,h'.get? a=some q:=let ⟨q,_,_,hq,_⟩:=dd';⟨q,hq⟩
 exact ju I (by rw[e];exact True.intro) hs he (wB (Kj (yf kvs k) z) hd (rel.drop k) dd')
theorem F9 {v:V}{more:List Value}{Q:Value->Shared->Prop}(I:Inv X pins σ H s) (e:H a=some (.dK kvs)) (ry:RelV (kV k) u) (l:cw kvs k=some v) (hm:more=[]\/∃x,more=[x])
  (h:∀w' s',Inv X pins σ (upd H a (.dK (dH kvs k))) s'->RelV v w'->Q w' s'):wpAny (model X.prog X.w) A (call (.builtin "dict.pop") (.ref a::u::more)) Q E s:=by
 obtain⟨z,hd,vs,rel,dd⟩:=sO I.bq e;obtain⟨w',hw,rw'⟩:=iZ.some_of (v:=v) (o:=valueAt vs k) (by rw[←l];exact rel.val k);have hp:(keyPart u).isSome=true:=by
  cases k with
  |inl i=>obtain⟨t,q⟩:=(show ∃t,u=Value.int i t from ry);subst q;rfl
  |inr x=>obtain⟨t,q⟩:=(show ∃t,u=Value.str x t from ry);subst q;rfl
 have ha:argsOk "dict.pop" ⟨.ref a::u::more,[]⟩:=by
  rcases hm with q|⟨x,q⟩
  ·subst q;exact PySem.F.args_dict_pop_2 _ _
  ·subst q;exact PySem.F.args_dict_pop_3 _ _ _
 refine call_meetsIn PySem.F.slot_dict_pop dd.typeIs PySem.F.entry_dict_pop ha (meets_dict_pop_there (aW X.prog X.w) a (l5 ry) more hm hp)
  ⟨vs,w',dd,by rw[←rel.length];exact z,hw,λh' dd' hs=>h w' _ ?_ rw'⟩
 have he:∃q,h'.get? a=some q:=let ⟨q,_,_,hq,_⟩:=dd';⟨q,hq⟩
 exact ju I (by rw[e];exact True.intro) hs he (wB (Kj (yf kvs k) z) hd (rel.drop k) dd')
theorem GN {r:Value}{Q:Value->Shared->Prop}(I:Inv X pins σ H s) (e:H a=some (.dK kvs)) (ry:RelV (kV k) u) (l:cw kvs k=none) (h:∀s',Inv X pins σ H s'->Q r s'):
  wpAny (model X.prog X.w) A (call (.builtin "dict.pop") [.ref a,u,r]) Q E s:=by
 obtain⟨z,hd,vs,rel,dd⟩:=sO I.bq e;have hn:valueAt vs k=none:=iZ.none_of (by rw[←l];exact rel.val k);have hp:(keyPart u).isSome=true:=by
  cases k with
  |inl i=>obtain⟨t,q⟩:=(show ∃t,u=Value.int i t from ry);subst q;rfl
  |inr x=>obtain⟨t,q⟩:=(show ∃t,u=Value.str x t from ry);subst q;rfl
 exact call_meetsIn PySem.F.slot_dict_pop dd.typeIs PySem.F.entry_dict_pop (PySem.F.args_dict_pop_3 _ _ _) (meets_dict_pop_default (aW X.prog X.w) a (l5 ry) hd hp r) ⟨vs,dd,hn,h _ (I.tok _)⟩
theorem Fq {Q:Value->Shared->Prop}(I:Inv X pins σ H s) (e:H a=some (.dK kvs)) (h:∀s',Inv X pins σ (upd H a (.dK [])) s'->Q .none s'):wpAny (model X.prog X.w) A (call (.builtin "dict.clear") [.ref a]) Q E s:=by
 obtain⟨z,hd,vs,rel,dd⟩:=sO I.bq e;refine call_meetsIn PySem.F.slot_dict_clear dd.typeIs PySem.F.entry_dict_clear (PySem.F.args_dict_clear_1 _) (meets_dict_clear (aW X.prog X.w) a) ⟨vs,dd,by rw[←rel.length];exact z,λh' dd' hs=>h _ ?_⟩;have he:∃q,h'.get? a=some q:=let ⟨q,_,_,hq,_⟩:=dd';⟨q,hq⟩
 exact ju (t':=s.toks) I (by rw[e];exact True.intro) hs he (wB (Kk _) hd .nil dd')
theorem Ij {Q:Value->Shared->Prop}(I:Inv X pins σ H s) (e:Rd H a (.dK kvs)) (h:∀t s',Inv X pins σ H s'->Q (.int kvs.length t) s'):wpAny (model X.prog X.w) A (call (.builtin "len") [.ref a]) Q E s:=by
 obtain⟨z,hd,vs,rel,dd⟩:=oj I.bq e;refine call_len_dict hd dd (by rw[←rel.length];rw[sizeLine_eq]at z;omega) ?_;rw[←rel.length];exact h _ _ (I.tok _)
end
noncomputable def Ik (i:Expr):Prop:=∀ov iv,subscripted i false ov iv=operate [ov,iv] (getItem ov iv)
theorem Fs {prog:Program}{w:World}{A:Around}{E:Value->Shared->Prop}{s:Shared}{env:Env}{value slice:Expr}{pos:Pos}{T id:String}{Q:Value->Shared->Prop}
  (hl:typeLookup (.type T) "__getitem__"=pure (some (.builtin id))) (hs:Ik slice)
  (h:wpAny (model prog w) A (eval value env) (λo s₁=>wpAny (model prog w) A (eval slice env) (λi s₂=>s₂.TypeIs o T/\wpAny (model prog w) A (getItem o i) Q E s₂) E s₁) E s):
  wpAny (model prog w) A (eval (.Subscript value slice pos) env) Q E s:=by
 refine Subscript_ (wpAny_mono h (λo s₁ h₁=>wpAny_mono h₁ (λi s₂ h₂=>?_) λ_ _ x=>x) λ_ _ x=>x);obtain⟨hT,h₂⟩:=h₂;unfold subscriptTail;refine JO ?_;rw[getitemInPython_of_ne hT.not_modules];refine JO (wpAny_specialOf hT hl ?_);have fin:wpAny (model prog w) A (subscripted slice false o i) (λr s₃=>wpAny (model prog w) A (letTemporaryGo value o r>>=λ_=>pure r) Q E s₃) E s₂:=by
  rw[hs o i];exact wpAny_operating (wpAny_mono h₂ (λr s₃ h₃=>JO (wpAny_letTemporaryGo (JP h₃))) λ_ _ x=>x)
 first
  |exact JP (JO fin)
  |exact JO (JP (JO fin))
  |exact JO fin
theorem yh {X:Cx}{pins:List (Addr×Obj)}{σ:St}{H:Hp}{s:Shared}{a:Addr}{y:V}{o:Option V}(I:Inv X pins σ H s) (g:fb H a y o):s.TypeIs (.ref a) "dict":=by
 rcases g with⟨kvs,k,e,_,_⟩|⟨kvs,k,b,e,_,_,_⟩
 ·obtain⟨_,_,vs,_,dd⟩:=oj I.bq e;exact dd.typeIs
 ·obtain⟨_,_,xs,_,dd⟩:=qK I.bq e;exact dd.typeIs
noncomputable def Ga (td ty:TE):TE:=λσ H Q=>td σ H λx H1=>ty σ H1 λy H2=>∃a v,x=.ref a/\fb H2 a y (some v)/\Q v H2
noncomputable def Jp (ty td:TE):TE:=λσ H Q=>ty σ H λy H1=>td σ H1 λx H2=>∃a o,x=.ref a/\fb H2 a y o/\Q (.bl o.isSome) H2
noncomputable def AX (ty td:TE):TE:=λσ H Q=>ty σ H λy H1=>td σ H1 λx H2=>∃a o,x=.ref a/\fb H2 a y o/\Q (.bl (!o.isSome)) H2
noncomputable def Gb (td ty tv:TE):TS:=λD σ H=>tv σ H λv H1=>td σ H1 λx H2=>ty σ H2 λy H3=>∃a H4,x=.ref a/\rD H3 a y v H4/\D.nx σ H4
section
variable{X:Cx}{o i e value:Expr}{pos pos' tpos:Pos}{td ty tv:TE}
theorem cO (hu:X.A.units+1<cLine) (ho:PE X o td) (hi:PE X i ty) (hs:Ik i):PE X (.Subscript o i pos) (Ga td ty):=by
 intro pins s σ H Q I h;refine Fs PySem.F.slot_dict_getitem.lookup hs (b8 (ho pins s σ H _ I h) λu s1 ⟨x,H1,I1,rx,q1⟩=>b8 (hi pins s1 σ H1 _ I1 q1) λiv s2 ⟨y,H2,I2,ry,a,v,ex,g,q2⟩=>?_);subst ex;obtain rfl:u=Value.ref a:=rx;exact⟨yh I2 g,BR hu I2 g ry λw' s3 I3 rw'=>⟨v,H2,I3,rw',q2⟩⟩
theorem sP (hu:X.A.units+1<cLine) (hi:PE X i ty) (ho:PE X o td):PC X .In i o (Jp ty td):=by
 intro pins s σ H Q I h;refine b8 (hi pins s σ H _ I h) λiv s1 ⟨y,H1,I1,ry,q1⟩=>b8 (ho pins s1 σ H1 _ I1 q1) λu s2 ⟨x,H2,I2,rx,a,ov,ex,g,q2⟩=>?_;subst ex;obtain rfl:u=Value.ref a:=rx;exact Jo hu I2 g ry λs3 I3=>⟨.bl ov.isSome,H2,I3,rfl,q2⟩
theorem lP (hu:X.A.units+1<cLine) (hi:PE X i ty) (ho:PE X o td):PC X .NotIn i o (AX ty td):=by
 intro pins s σ H Q I h;refine b8 (hi pins s σ H _ I h) λiv s1 ⟨y,H1,I1,ry,q1⟩=>b8 (ho pins s1 σ H1 _ I1 q1) λu s2 ⟨x,H2,I2,rx,a,ov,ex,g,q2⟩=>?_;subst ex;obtain rfl:u=Value.ref a:=rx;exact Fp hu I2 g ry λs3 I3=>⟨.bl (!ov.isSome),H2,I3,rfl,q2⟩
theorem fA (hu:X.A.units+1<cLine) (ho:PE X o td) (hi:PE X i ty) (hv:PE X value tv) (hs:swapsWith value (some (.Subscript o i pos')) pos.line X.env=pure false):
  PS X (.Assign [.Subscript o i pos'] value pos) (Gb td ty tv):=by
 intro pins s σ H D I h;refine wpAny_Assign_Subscript (b8 (hv pins s σ H _ I h) λr s1 ⟨v,H1,I1,rv,q1⟩=>b8 (ho pins s1 σ H1 _ I1 q1) λu s2 ⟨x,H2,I2,rx,q2⟩=>b8 (hi pins s2 σ H2 _ I2 q2) λiv s3 ⟨y,H3,I3,ry,a,H4,ex,g,q3⟩=>?_) hs;subst ex;obtain rfl:u=Value.ref a:=rx;exact BS hu I3 g ry rv λs4 I4=>⟨σ,H4,I4,q3⟩
end
theorem Ds {P:Program}{w:World}{H:Hp}(h:Heap) (hb:sysModules<h.objs.size):bV P w H (h.push {cls:=.type "dict",data:=.dict #[]}) h.objs.size (.dK []):=
 ⟨Kk _,beq_eq_false_iff_ne.mpr (Ne.symm (Kg hb)),[],.nil,Heap.DictOf.new h⟩
theorem Dt {P:Program}{w:World}{H:Hp}(h:Heap) (hb:sysModules<h.objs.size):bV P w H (h.push {cls:=.type "dict",data:=.dict #[]}) h.objs.size (.dT []):=
 ⟨Kk _,beq_eq_false_iff_ne.mpr (Ne.symm (Kg hb)),[],.nil,_,#[],0,J4 _ rfl,⟨rfl,rfl,rfl⟩,rfl,rfl,List.nodup_nil⟩
noncomputable def GO:TE:=λ_ H Q=>∀p,H p=none->Q (.ref p) (upd H p (.dK []))
noncomputable def GP:TE:=λ_ H Q=>∀p,H p=none->Q (.ref p) (upd H p (.dT []))
section
variable{X:Cx}{pos:Pos}
theorem i8:PE X (.Dict [] [] pos) GO:=λpins s σ H Q I h=>
 wpAny_Dict_empty ⟨.ref s.heap.objs.size,_,I.laid (a:=s.heap.objs.size) (o:=.dK []) (t':=s.toks) (λ_ _ q=>JR _ q) (J3 _) (Ds s.heap I.big),rfl,h _ (I.bq.fresh (J3 _))⟩
theorem yi:PE X (.Dict [] [] pos) GP:=λpins s σ H Q I h=>
 wpAny_Dict_empty ⟨.ref s.heap.objs.size,_,I.laid (a:=s.heap.objs.size) (o:=.dT []) (t':=s.toks) (λ_ _ q=>JR _ q) (J3 _) (Dt s.heap I.big),rfl,h _ (I.bq.fresh (J3 _))⟩
end
structure M1 (X:Cx) (o:Expr) (m:Str) (apos:Pos) (e:Expr) (cpos:Pos):Prop where
 base:attributeBase o m X.env (eval o X.env)=eval o X.env
 l0:((backTo cpos (starEach [e] X.env)).all (λx=> !x.1)&&(backToKw cpos (keywordEach [] X.env)).all (λx=>x.1.isSome)
  &&decide (([e]:List Expr).length+([]:List Keyword).length+(if([]:List Keyword).isEmpty then 0 else 1)<30))=true
 line:(apos.endLine==cpos.line)=true
 trees:backTo cpos (starEach [e] X.env)=[(false,eval e X.env)]
structure M2 (X:Cx) (o:Expr) (m:Str) (apos:Pos) (e f:Expr) (cpos:Pos):Prop where
 base:attributeBase o m X.env (eval o X.env)=eval o X.env
 l0:((backTo cpos (starEach [e,f] X.env)).all (λx=> !x.1)&&(backToKw cpos (keywordEach [] X.env)).all (λx=>x.1.isSome)
  &&decide (([e,f]:List Expr).length+([]:List Keyword).length+(if([]:List Keyword).isEmpty then 0 else 1)<30))=true
 line:(apos.endLine==cpos.line)=true
 trees:backTo cpos (starEach [e,f] X.env)=[(false,eval e X.env),(false,eval f X.env)]
noncomputable def GQ (H:Hp) (a:Addr):Prop:=(∃kvs,Rd H a (.dK kvs))\/∃kvs,Rd H a (.dT kvs)
theorem wC {X:Cx}{pins:List (Addr×Obj)}{σ:St}{H:Hp}{s:Shared}{a:Addr}(I:Inv X pins σ H s) (d:GQ H a):
  s.TypeIs (.ref a) "dict"/\(∀b,Value.ref a=.ref b->∃ob,s.heap.get? b=some ob/\ob.dict=none)/\(a==sysModules)=false:=by
 rcases d with⟨kvs,e⟩|⟨kvs,e⟩
 ·obtain⟨_,hd,vs,_,dd⟩:=oj I.bq e;refine⟨dd.typeIs,λb q=>?_,hd⟩;cases q;obtain⟨ob,_,_,h1,h2,_⟩:=dd;exact⟨ob,h1,h2.2.1⟩
 ·obtain⟨_,hd,xs,_,dd⟩:=qK I.bq e;refine⟨dd.typeIs,λb q=>?_,hd⟩;cases q;obtain⟨ob,_,_,h1,h2,_⟩:=dd;exact⟨ob,h1,h2.2.1⟩
section
variable{X:Cx}{pins:List (Addr×Obj)}{σ:St}{H:Hp}{s:Shared}{a:Addr}{y d:V}{u r:Value}{o:Option V}{A:Around}{E:Value->Shared->Prop}
theorem GR {Q:Value->Shared->Prop}(hu:A.units+1<cLine) (I:Inv X pins σ H s) (g:fb H a y o) (ry:RelV y u) (h:∀w' s',Inv X pins σ H s'->RelV (o.getD .bQ) w'->Q w' s'):
  wpAny (model X.prog X.w) A (call (.builtin "dict.get") [.ref a,u]) Q E s:=by
 rcases g with⟨kvs,k,e,ey,l⟩|⟨kvs,k,b,e,ey,eb,l⟩
 ·subst ey;obtain⟨z,hd,vs,rel,dd⟩:=oj I.bq e;refine call_meetsIn PySem.F.slot_dict_get dd.typeIs PySem.F.entry_dict_get (PySem.F.args_dict_get_2 _ _) (meets_dict_get (aW X.prog X.w) a (l5 ry) hd) ⟨_,dd.mapOf,h _ _ (I.tok _) ?_⟩;rw[l];exact(rel.val k).getD rfl
 ·subst ey;cases(show u=Value.ref b from ry);obtain⟨z,hd,xs,rel,dd⟩:=qK I.bq e;refine call_meetsIn PySem.F.slot_dict_get dd.typeIs PySem.F.entry_dict_get (PySem.F.args_dict_get_2 _ _) (meetsH_dict_get (tupleKind (aW X.prog X.w)) a b hd) ⟨tupleKind_room_in1 hu,k,xs,kG I.bq eb,dd,h _ _ (I.tok _) ?_⟩;rw[l];exact(rel.val k).getD rfl
theorem GS {Q:Value->Shared->Prop}(hu:A.units+1<cLine) (I:Inv X pins σ H s) (g:fb H a y o) (ry:RelV y u) (rd:RelV d r) (h:∀w' s',Inv X pins σ H s'->RelV (o.getD d) w'->Q w' s'):
  wpAny (model X.prog X.w) A (call (.builtin "dict.get") [.ref a,u,r]) Q E s:=by
 rcases g with⟨kvs,k,e,ey,l⟩|⟨kvs,k,b,e,ey,eb,l⟩
 ·subst ey;obtain⟨z,hd,vs,rel,dd⟩:=oj I.bq e;refine call_meetsIn PySem.F.slot_dict_get dd.typeIs PySem.F.entry_dict_get (PySem.F.args_dict_get_3 _ _ _) (meets_dict_get_default (aW X.prog X.w) a (l5 ry) hd r) ⟨_,dd.mapOf,h _ _ (I.tok _) ?_⟩;rw[l];exact(rel.val k).getD rd
 ·subst ey;cases(show u=Value.ref b from ry);obtain⟨z,hd,xs,rel,dd⟩:=qK I.bq e;refine call_meetsIn PySem.F.slot_dict_get dd.typeIs PySem.F.entry_dict_get (PySem.F.args_dict_get_3 _ _ _) (meetsH_dict_get_default (tupleKind (aW X.prog X.w)) a b hd r) ⟨tupleKind_room_in1 hu,k,xs,kG I.bq eb,dd,h _ _ (I.tok _) ?_⟩;rw[l];exact(rel.val k).getD rd
end
noncomputable def GU (td ty:TE):TE:=λσ H Q=>td σ H λx H1=>∃a,x=.ref a/\GQ H1 a/\ty σ H1 λy H2=>∃o,fb H2 a y o/\Q (o.getD .bQ) H2
noncomputable def GV (td ty tx:TE):TE:=λσ H Q=>td σ H λx H1=>∃a,x=.ref a/\GQ H1 a/\ty σ H1 λy H2=>tx σ H2 λz H3=>∃o,fb H3 a y o/\Q (o.getD z) H3
noncomputable def GW (td ty tx:TE):TE:=λσ H Q=>td σ H λx H1=>∃a,x=.ref a/\GQ H1 a/\ty σ H1 λy H2=>tx σ H2 λz H3=>∃kvs k,H3 a=some (.dK kvs)/\y=kV k/\
 (∀v,cw kvs k=some v->Q v (upd H3 a (.dK (dH kvs k))))/\(cw kvs k=none->Q z H3)
section
variable{X:Cx}{o e f:Expr}{apos cpos:Pos}{td ty tx:TE}
theorem kH (hu:X.A.units+1<cLine) (ho:PE X o td) (he:PE X e ty) (m:M1 X o "get" apos e cpos):PE X (.Call (.Attribute o "get" apos) [e] [] cpos) (GU td ty):=by
 intro pins s σ H Q I h;refine wpAny_Call_method m.base m.l0 m.line PySem.F.plainAttrs_dict PySem.F.slot_dict_get PySem.F.type_dict_get (b8 (ho pins s σ H _ I h) λu s1 ⟨x,H1,I1,rx,a,ex,d,q1⟩=>?_);subst ex;obtain rfl:u=Value.ref a:=rx;obtain⟨t1,t2,_⟩:=wC I1 d;refine⟨t1,t2,?_⟩;rw[m.trees];refine Calls.callWith_builtin rfl (Calls.evalArgs_plain (Calls.spliced_cons (b8 (he pins s1 σ H1 _ I1 q1) λiv s2 ⟨y,H2,I2,ry,ov,g,q2⟩=>Calls.spliced_nil ?_)));exact GR hu I2 g ry λw' s3 I3 rw'=>⟨_,H2,I3,rw',q2⟩
theorem yj (hu:X.A.units+1<cLine) (ho:PE X o td) (he:PE X e ty) (hf:PE X f tx) (m:M2 X o "get" apos e f cpos):PE X (.Call (.Attribute o "get" apos) [e,f] [] cpos) (GV td ty tx):=by
 intro pins s σ H Q I h;refine wpAny_Call_method m.base m.l0 m.line PySem.F.plainAttrs_dict PySem.F.slot_dict_get PySem.F.type_dict_get (b8 (ho pins s σ H _ I h) λu s1 ⟨x,H1,I1,rx,a,ex,d,q1⟩=>?_);subst ex;obtain rfl:u=Value.ref a:=rx;obtain⟨t1,t2,_⟩:=wC I1 d;refine⟨t1,t2,?_⟩;rw[m.trees];refine Calls.callWith_builtin rfl (Calls.evalArgs_plain (Calls.spliced_cons (b8 (he pins s1 σ H1 _ I1 q1) λiv s2 ⟨y,H2,I2,ry,q2⟩=>
  Calls.spliced_cons (b8 (hf pins s2 σ H2 _ I2 q2) λfv s3 ⟨z,H3,I3,rz,ov,g,q3⟩=>Calls.spliced_nil ?_))))
 exact GS hu I3 g ry rz λw' s4 I4 rw'=>⟨_,H3,I4,rw',q3⟩
theorem Du (ho:PE X o td) (he:PE X e ty) (hf:PE X f tx) (m:M2 X o "pop" apos e f cpos):PE X (.Call (.Attribute o "pop" apos) [e,f] [] cpos) (GW td ty tx):=by
 intro pins s σ H Q I h;refine wpAny_Call_method m.base m.l0 m.line PySem.F.plainAttrs_dict PySem.F.slot_dict_pop PySem.F.type_dict_pop (b8 (ho pins s σ H _ I h) λu s1 ⟨x,H1,I1,rx,a,ex,d,q1⟩=>?_);subst ex;obtain rfl:u=Value.ref a:=rx;obtain⟨t1,t2,_⟩:=wC I1 d;refine⟨t1,t2,?_⟩;rw[m.trees];refine Calls.callWith_builtin rfl (Calls.evalArgs_plain (Calls.spliced_cons (b8 (he pins s1 σ H1 _ I1 q1) λiv s2 ⟨y,H2,I2,ry,q2⟩=>
  Calls.spliced_cons (b8 (hf pins s2 σ H2 _ I2 q2) λfv s3 ⟨z,H3,I3,rz,kvs,k,ea,ey,q3,q4⟩=>Calls.spliced_nil ?_))))
 subst ey;cases l:cw kvs k with
 |some v=>exact F9 I3 ea ry l (.inr ⟨fv,rfl⟩) λw' s4 I4 rw'=>⟨v,_,I4,rw',q3 v l⟩
 |none=>exact GN I3 ea ry l λs4 I4=>⟨z,H3,I4,rz,q4 l⟩
end
section
variable{X:Cx}{pins:List (Addr×Obj)}{σ:St}{H:Hp}{s:Shared}{a:Addr}{kvs:List (Key×V)}{A:Around}{E:Value->Shared->Prop}
end
section
variable{X:Cx}{pins:List (Addr×Obj)}{σ:St}{H:Hp}{s:Shared}{a:Addr}{y:V}{u:Value}{A:Around}{E:Value->Shared->Prop}
end
section
variable{prog:Program}{w:World}{A:Around}{E:Value->Shared->Prop}
end
section
variable{X:Cx}
end
section
variable{X:Cx}{pins:List (Addr×Obj)}{σ:St}{H:Hp}{s:Shared}{h':Heap}
theorem Inv.lock {d:Addr}{u:HO}(I:Inv X pins σ H s) (h:H d=some u) (mu:EZ (some u)):∃od,Inv X pins σ (upd H d (.d5 od u)) s:=by
 have x:=I.bq d u h;have ex:∃od,s.heap.get? d=some od:=by
  cases u with
  |lst xs=>obtain⟨_,_,_,_,e⟩:=x;exact⟨_,e⟩
  |dK kvs=>obtain⟨_,_,_,_,o,_,_,e,_⟩:=x;exact⟨o,e⟩
  |dT kvs=>obtain⟨_,_,_,_,o,_,_,e,_⟩:=x;exact⟨o,e⟩
  |set S n=>obtain⟨o,_,_,_,e,_⟩:=x;exact⟨o,e⟩
  |ins C dx fs=>obtain⟨_,_,_,e,_⟩:=x;exact⟨_,e⟩
  |ext φ=>obtain⟨_,⟨_,e⟩,_⟩:=x;exact⟨_,e⟩
  |_=>exact False.elim mu
 obtain⟨od,e⟩:=ex;have new:bV X.prog X.w (upd H d (.d5 od u)) s.heap d (.d5 od u):=by
  refine⟨e,x.stay (λb v _ q=>q) (λb q=>?_) λb xs q=>?_⟩
  ·rw[ak (λz=>by rw[z,h]at q;cases q;exact mu)];exact q
  ·rw[ak (λz=>by rw[z,h]at q;cases q;exact mu)];exact q
 exact⟨od,I.write (x:=d) (e:=d) (t':=s.toks) (h':=s.heap) (by rw[h];exact mu) (.inl rfl) (λb v _ q=>q) ⟨od,e⟩ new⟩
theorem Inv.yk {d:Addr}{u:HO}(I:Inv X pins σ H s) (h:H d=some u) (mu:EZ (some u)):∀o' u',X.Gv d≠some (.d5 o' u'):=λo' u' e=>by
 have q:=I.base.sE d o' u' e;rw[h]at q;cases q;exact mu
theorem Inv.unlock {d:Addr}{od:Obj}{u:HO}(I:Inv X pins σ H s) (h:H d=some (.d5 od u)) (hn:∀o' u',X.Gv d≠some (.d5 o' u')):Inv X pins σ (upd H d u) s:=by
 have neH:∀b o,H b=some o->(∀o' u',o≠.d5 o' u')->b≠d:=λb o e hne z=>by
  rw[z,h]at e;cases e;exact hne _ _ rfl
 have neN:∀b,H b=none->b≠d:=λb e z=>by rw[z,h]at e;cases e
 refine⟨I.ok,I.os,I.bare,⟨I.base.keep,I.base.slot,λb o e n hx=>?_,I.base.there,λb xs e=>?_,λb o x e=>?_,λb ps e=>?_⟩,I.loc,I.cell,?_,λx c e=>?_,λp hp=>?_,λb o e=>?_,I.len⟩
 ·rw[ak (neN b (I.base.free b o e n hx))];exact I.base.free b o e n hx
 ·have q:=I.base.wc b xs e;rw[ak (neH b _ q (λ_ _ z=>nomatch z))];exact q
 ·have q:=I.base.sE b o x e;rw[ak (λz=>by rw[z]at e;exact hn _ _ e)];exact q
 ·obtain⟨m,q⟩:=I.base.we b ps e;exact⟨m,by rw[ak (neH b _ q (λ_ _ z=>nomatch z))];exact q⟩
 ·rw[ak (neN _ I.free)];exact I.free
 ·rw[ak (neN c (I.g7 x c e))];exact I.g7 x c e
 ·obtain⟨e,n,r⟩:=I.pin p hp;exact⟨e,by rw[ak (neN _ n)];exact n,r⟩
 ·by_cases hb:b=d
  ·rw[hb,ab]at e;cases e;rw[hb];obtain⟨_,x⟩:=I.bq d _ h;exact x.stay (λc v _ q=>q) (λc q=>by rw[ak (neH c _ q (λ_ _ z=>nomatch z))];exact q) λc xs q=>by rw[ak (neH c _ q (λ_ _ z=>nomatch z))];exact q
  ·rw[ak hb]at e;exact(I.bq b o e).stay (λc v _ q=>q) (λc q=>by rw[ak (neH c _ q (λ_ _ z=>nomatch z))];exact q) λc xs q=>by rw[ak (neH c _ q (λ_ _ z=>nomatch z))];exact q
end
noncomputable def Il (t:TS):TS:=λD σ H=>∃d u,H d=some u/\EZ (some u)/\∀od,t ⟨λσ' H'=>H' d=some (.d5 od u)/\D.nx σ' (upd H' d u),λv H'=>H' d=some (.d5 od u)/\D.rt v (upd H' d u),λσ' H'=>H' d=some (.d5 od u)/\D.bk σ' (upd H' d u),λσ' H'=>H' d=some (.d5 od u)/\D.ct σ' (upd H' d u)⟩ σ (upd H d (.d5 od u))
noncomputable def GX (t:TE):TE:=λσ H Q=>∃d u,H d=some u/\EZ (some u)/\∀od,t σ (upd H d (.d5 od u)) λv H'=>H' d=some (.d5 od u)/\Q v (upd H' d u)
section
variable{X:Cx}
theorem AY {st:Stmt}{t:TS}(h:PS X st t):PS X st (Il t):=by
 intro pins s σ H D I hw;obtain⟨d,u,hd,mu,hw⟩:=hw;obtain⟨od,I1⟩:=I.lock hd mu;refine b8 (h pins s σ _ _ I1 (hw od)) λf s1 q=>?_;cases f with
 |next=>obtain⟨σ',H',I2,e,q⟩:=q;exact⟨σ',_,I2.unlock e (I.yk hd mu),q⟩
 |brk=>obtain⟨σ',H',I2,e,q⟩:=q;exact⟨σ',_,I2.unlock e (I.yk hd mu),q⟩
 |cont=>obtain⟨σ',H',I2,e,q⟩:=q;exact⟨σ',_,I2.unlock e (I.yk hd mu),q⟩
 |ret v=>obtain⟨x,σ',H',I2,r,e,q⟩:=q;exact⟨x,σ',_,I2.unlock e (I.yk hd mu),r,q⟩
theorem Ft {e:Expr}{t:TE}(h:PE X e t):PE X e (GX t):=by
 intro pins s σ H Q I hw;obtain⟨d,u,hd,mu,hw⟩:=hw;obtain⟨od,I1⟩:=I.lock hd mu;refine b8 (h pins s σ _ _ I1 (hw od)) λv s1 ⟨x,H1,I2,r,e2,q⟩=>?_;exact⟨x,_,I2.unlock e2 (I.yk hd mu),r,q⟩
theorem Dv {tg:Expr}{pins:List (Addr×Obj)}{σ:St}{H:Hp}{s:Shared}{R:It->Hp->Prop}{J:It}{tn:Nat->Heap->Prop}{tk:Nat}(I:Inv X pins σ H s) (o:Obj)
  (T:Turn X.prog X.w X.K tg J [s.heap.objs.size] s.heap.objs.size tn) (st:tn 0 (s.heap.push o)) (q:R J H):IZ X pins σ tg R (.ref s.heap.objs.size) {s with heap:=s.heap.push o,toks:=tk}:=by
 refine⟨s.heap.objs.size,[s.heap.objs.size],tn,J,H,rfl,I.kept λb ob e=>JR _ e,T,st,λb hb=>?_,q⟩;have e:b=s.heap.objs.size:=by simpa using hb
 subst e;exact I.C2 (J3 _) (I.bq.fresh (J3 _))
end
section
variable{X:Cx}{tg:Expr}
end
section
variable{X:Cx}{tg:Expr}
end
section
variable{prog:Program}{w:World}{A:Around}{E:Value->Shared->Prop}{s:Shared}
theorem lQ {d:Addr}{o:Obj}{es:Array DictEntry}{ep:Nat}{Q:Value->Shared->Prop}(hd:(d==sysModules)=false) (ho:s.heap.get? d=some o) (hc:o.ExactDict) (hdat:o.data=.dict es ep)
  (hQ:Q (.ref s.heap.objs.size) {s with heap:=s.heap.push {cls:=.type "dict_keyiterator",data:=.fields #[.ref d,.int 0 0,.int es.size 0,.int ep 0]}}):
  wpAny (model prog w) A (pyIter (.ref d)) Q E s:=by
 have hT:s.TypeIs (.ref d) "dict":=⟨o,ho,hc.1⟩;refine wpAny_pyIter_slot hT F.slot_dict_iter (wpAny_call_entry F.slot_dict_iter hT F.entry_dict_iter ?_ (F.args_dict_iter_1 _));unfold Builtin.«dict.__iter__»;refine JO ?_;unfold Builtin.Dict.dictSlotNone;refine JO (wpAny_notOrdered_dict hT ?_);show wpAny _ _ (pure (Value.ref d)) _ _ s;refine JP ?_;show wpAny _ _ (Builtin.Dict.showsAll d>>=_) _ _ s;unfold Builtin.Dict.showsAll;rw[if_neg (by rw[hd];exact J8)];refine JO (JP ?_);refine JO (wpAny_dictEntries ho hdat ?_);refine JO (wpAny_dictEpoch ho hdat ?_);refine JO (wpAny_newObj_type (JP ⟨_,rfl,"dict_keyiterator",_,⟨_,J4 _ rfl,rfl⟩,F.slot_dict_keyiterator_next.lookup,?_⟩));simpa[rawInt]using hQ
theorem l6 {it d:Addr}{i n ep:Nat}{od:Obj}{es:Array DictEntry}{en:DictEntry}{Q:Option Value->Shared->Prop}(hit:s.heap.IsKeyIter it d i n ep) (hod:s.heap.get? d=some od) (hdd:od.data=.dict es ep)
  (hsz:es.size=n) (hx:es[i]? =some en) (hQ:∀h',h'.IsKeyIter it d (i+1) n ep->Heap.SameBut it s.heap h'->Q (some en.key) {s with heap:=h'}):wpAny (model prog w) A (pyNext (.ref it)) Q E s:=by
 obtain⟨o,ho,hc,hd⟩:=id hit;unfold pyNext;refine JO (wpAny_attempt (wpAny_callSpecial?_slot (name:=Str.ofString "__next__") hit.typeIs F.slot_dict_keyiterator_next
  (wpAny_call_entry F.slot_dict_keyiterator_next hit.typeIs F.entry_dict_keyiterator_next ?_ (F.args_dict_keyiterator_next_1 _))))
 refine JO (JP ?_);refine JO ?_;refine JO ?_
 first|refine JO (wpAny_typeNameOfWhole_keyiter hit.typeIs (JP ?_))|refine JO (wpAny_typeNameOf_keyiter hit.typeIs (JP ?_))
 refine JO (wpAny_fieldsOf ho hd ?_);have hown:Builtin.Dict_items.ownsTuple "dict_keyiterator"=false:=by decide
 simp only[hown,Kc,if_false];show wpAny _ _ (if(Value.ref d==Value.none)=true then _ else _) _ _ s;rw[if_neg (show ¬((Value.ref d==Value.none)=true)from J8)];refine JO (JP ?_);refine JO (wpAny_dictEntries hod hdd ?_);rw[if_neg (by rw[hsz];simp)];refine JO (JP ?_);refine JO (wpAny_dictEpoch hod hdd ?_);rw[if_neg (by simp)];refine JP ?_;obtain⟨hlt',hen⟩:=Array.getElem?_eq_some_iff.mp hx;simp only[show ¬((i:Int)<0)from by omega,if_false,Ko,Ke hlt'];refine JO ?_
 first|refine JO (wpAny_typeNameOfWhole_keyiter hit.typeIs (JP ?_))|refine JO (wpAny_typeNameOf_keyiter hit.typeIs (JP ?_))
 refine JO (wpAny_isOneOf_keyiter hit.typeIs ?_);show wpAny _ _ (setField (.ref it) 1 (rawInt ((i:Int)+1))>>=_) _ _ s;refine JO (wpAny_setField ho hd (by simp) ?_);have hit':(s.heap.update it (Obj.mapFields (·.setIfInBounds 1 (rawInt ((i:Int)+1))))).IsKeyIter it d (i+1) n ep:=
  ⟨_,Heap.get?_update_self _ ho (Obj.isFreed_of_fields (Obj.data_mapFields hd _)),(Obj.cls_mapFields ..).trans hc,by rw[Obj.data_mapFields hd];simp[rawInt]⟩
 refine JO (wpAny_holding ?_);refine JO (wpAny_isOneOf_keyiter (s:={s with heap:=s.heap.update it (Obj.mapFields (·.setIfInBounds 1 (rawInt ((i:Int)+1))))}) hit'.typeIs ?_);show wpAny _ _ (pure es[i].key) _ _ _;rw[hen];exact JP (JP ⟨_,rfl,JP (hQ _ hit' (Heap.SameBut.update ..))⟩)
theorem jv {it d:Addr}{i n ep:Nat}{od:Obj}{es:Array DictEntry}{Q:Option Value->Shared->Prop}(hh:A.handled=none) (hit:s.heap.IsKeyIter it d i n ep) (hod:s.heap.get? d=some od) (hdd:od.data=.dict es ep)
  (hsz:es.size=n) (hge:n<=i) (hQ:∀h',Heap.ExtBut it s.heap h'->Q none {s with heap:=h'}):wpAny (model prog w) A (pyNext (.ref it)) Q E s:=by
 obtain⟨o,ho,hc,hd⟩:=id hit;unfold pyNext;refine JO (wpAny_attempt (wpAny_callSpecial?_slot (name:=Str.ofString "__next__") hit.typeIs F.slot_dict_keyiterator_next
  (wpAny_call_entry F.slot_dict_keyiterator_next hit.typeIs F.entry_dict_keyiterator_next ?_ (F.args_dict_keyiterator_next_1 _))))
 refine JO (JP ?_);refine JO ?_;refine JO ?_
 first|refine JO (wpAny_typeNameOfWhole_keyiter hit.typeIs (JP ?_))|refine JO (wpAny_typeNameOf_keyiter hit.typeIs (JP ?_))
 refine JO (wpAny_fieldsOf ho hd ?_);have hown:Builtin.Dict_items.ownsTuple "dict_keyiterator"=false:=by decide
 simp only[hown,Kc,if_false];show wpAny _ _ (if(Value.ref d==Value.none)=true then _ else _) _ _ s;rw[if_neg (show ¬((Value.ref d==Value.none)=true)from J8)];refine JO (JP ?_);refine JO (wpAny_dictEntries hod hdd ?_);rw[if_neg (by rw[hsz];simp)];refine JO (JP ?_);refine JO (wpAny_dictEpoch hod hdd ?_);rw[if_neg (by simp)];refine JP ?_;have hge':es.size<=i:=by rw[hsz];exact hge
 simp only[show ¬((i:Int)<0)from by omega,if_false,Ko,Array.getElem?_eq_none hge'];refine JO ?_
 first|refine JO (wpAny_typeNameOfWhole_keyiter hit.typeIs (JP ?_))|refine JO (wpAny_typeNameOf_keyiter hit.typeIs (JP ?_))
 show wpAny _ _ (setField (.ref it) 0 .none>>=_) _ _ s;refine JO (wpAny_setField ho hd (by simp) ?_);show wpAny _ _ (newExc (.type "StopIteration") []>>=_) _ _ _;refine JO ?_;simp only[newExc,newTuple];refine JO (wpAny_newObj_type ?_ (by size_fits));refine JO (m:=firstArgMember _ _) (wpAny_of_eq (a:=Value.none) (by first|rfl|(simp only[firstArgMember];rfl)) ?_);refine wpAny_newObj_type ?_ (by size_fits);simp only[raiseNew];refine JO (wpAny_handled ?_);rw[show A.in1.handled=none from hh];refine JO (JP (wpAny_throw ?_));refine JO (wpAny_isInstance (T:="StopIteration") (b:=true) ⟨_,J4 _ rfl,rfl⟩ isSubtype_stop ?_);exact JP (hQ _ (((Heap.SameBut.update ..).extBut.push _).push _))
end
theorem GY {κ:Type}{kvs:List (κ×V)}{vs:List (κ×Value)}(h:KV kvs vs):∀{i:Nat}{k:κ}{v:V},kvs[i]? =some (k,v)->∃u,vs[i]? =some (k,u)/\RelV v u:=by
 unfold KV at h
 induction h with
 |nil=>intro i k v e;simp at e
 | @cons a b l₁ l₂ r t ih=>
  intro i k v e;cases i with
  |zero=>
   simp only[List.getElem?_cons_zero,Option.some.injEq]at e;subst e;refine⟨b.2,?_,r.2⟩;simp only[List.getElem?_cons_zero];exact congrArg some (Prod.ext r.1.symm rfl)
  |succ j=>
   simp only[List.getElem?_cons_succ]at e ⊢;exact ih e
theorem zK {α β:Type}{G:α->β->Prop}{l₁:List α}{l₂:List β}(h:Paired G l₁ l₂):∀{i:Nat}{a:α},l₁[i]? =some a->∃b,l₂[i]? =some b/\G a b:=by
 induction h with
 |nil=>intro i a e;simp at e
 | @cons a b l₁ l₂ r t ih=>
  intro i a' e;cases i with
  |zero=>
   simp only[List.getElem?_cons_zero,Option.some.injEq]at e;subst e;exact⟨b,rfl,r⟩
  |succ j=>
   simp only[List.getElem?_cons_succ]at e ⊢;exact ih e
theorem Dx {k:Key}{u:Value}(h:qD k u=true):RelV (kV k) u:=by
 rcases bR h with⟨i,t,rfl,rfl⟩|⟨x,t,rfl,rfl⟩
 ·exact⟨t,rfl⟩
 ·exact⟨t,rfl⟩
section
variable{X:Cx}{pins:List (Addr×Obj)}{σ:St}{H:Hp}{s:Shared}{d:Addr}{o:Obj}
theorem Inv.GZ {kvs:List (Key×V)}(I:Inv X pins σ H s) (h:H d=some (.d5 o (.dK kvs))):
  (d==sysModules)=false/\s.heap.get? d=some o/\o.ExactDict/\∃(es:Array DictEntry) (ep:Nat) (vs:List (Key×Value)),o.data=.dict es ep/\es.size=kvs.length/\KV kvs vs/\s.heap.DictAt (aW X.prog X.w) d vs ep:=by
 obtain⟨hd,z,hs,vs,kv,o',es,ep,ho,hx,hdt,r⟩:=I.bq d _ h;rw[hd]at ho;cases ho;refine⟨hs,hd,hx,es,ep,vs,hdt,?_,kv,o,es,hd,hx,hdt,r⟩;have l1:=r.2.1.length;have l2:kvs.length=vs.length:=Paired.length kv;rw[JY]at l1;omega
theorem Inv.G0 {kvs:List (List Key×V)}(I:Inv X pins σ H s) (h:H d=some (.d5 o (.dT kvs))):
  (d==sysModules)=false/\s.heap.get? d=some o/\o.ExactDict/\∃(es:Array DictEntry) (ep:Nat),o.data=.dict es ep/\es.size=kvs.length/\
   ∀(i:Nat) (k:List Key) (v:V),kvs[i]? =some (k,v)->∃(en:DictEntry) (q:Addr),es[i]? =some en/\en.key=.ref q/\H q=some (.tup (k.map kV)):=by
 obtain⟨hd,z,hs,xs,pr,o',es,ep,ho,hx,hdt,he,_⟩:=I.bq d _ h;rw[hd]at ho;cases ho;refine⟨hs,hd,hx,es,ep,hdt,?_,λi k v e=>?_⟩
 ·have l1:es.size=xs.length:=size_of_entries he;have l2:kvs.length=xs.length:=Paired.length pr;omega
 ·obtain⟨b,hb,e1,e2,_⟩:=zK pr e;have q:=entry_at he i;rw[hb]at q;exact⟨_,b.2.1,q,rfl,e2⟩
end
noncomputable def JA (d:Addr) (o:Obj) (kvs:List (Key×V)):It:=
 ⟨λi H=>H d=some (.d5 o (.dK kvs))/\i<kvs.length,λi H x H'=>H'=H/\∃k v,kvs[i]? =some (k,v)/\x=kV k,λi H=>H d=some (.d5 o (.dK kvs))/\kvs.length<=i⟩
noncomputable def Dy (d:Addr) (o:Obj) (kvs:List (List Key×V)):It:=
 ⟨λi H=>H d=some (.d5 o (.dT kvs))/\i<kvs.length,λi H x H'=>H'=H/\∃(k:List Key) (v:V) (q:Addr),kvs[i]? =some (k,v)/\x=.ref q/\H q=some (.tup (k.map kV)),λi H=>H d=some (.d5 o (.dT kvs))/\kvs.length<=i⟩
theorem rY {o:Obj}{es es':Array DictEntry}{ep ep':Nat}(h:o.data=.dict es ep) (h':o.data=.dict es' ep'):es'=es/\ep'=ep:=by
 rw[h]at h';cases h';exact⟨rfl,rfl⟩
section
variable{P:Program}{w:World}{K:PySem.W.Frag}{tg:Expr}{d:Addr}{o:Obj}{es:Array DictEntry}{ep:Nat}
theorem BU {kvs:List (Key×V)}(it:Addr) (hod:o.data=.dict es ep):Turn P w K tg (JA d o kvs) [it] it (λi h=>h.IsKeyIter it d i kvs.length ep) where
 mem:=by simp
 obj:=λi h st b hb=>by
  have e:b=it:=by simpa using hb
  subst e;obtain⟨oi,e,c,dd⟩:=st;exact⟨oi,e,λv z=>by rw[dd]at z;cases z⟩
 keep:=λi h h' st k=>st.at λoi e=>k it (by simp) oi e
 item:=by
  intro X hP hw hK hc i pins s σ H E I hf st hg;subst hP hw hK;obtain⟨hd,hi⟩:=hg;obtain⟨f0,f1,f2,f3,f4,f5⟩:=hf it (by simp);obtain⟨hs,hgd,hx,es',ep',vs,hdt,hsz,kv,hm⟩:=I.GZ hd;obtain⟨rfl,rfl⟩:=rY hod hdt;obtain⟨⟨k,v⟩,hkv⟩:∃p,kvs[i]? =some p:=⟨kvs[i],Ka hi⟩;obtain⟨u,hu,ru⟩:=GY kv hkv;have hl:kvs.length=vs.length:=Paired.length kv;rw[hl]at st;refine wpAny_pyNext_dict_item st hm hu λkey h' hkey st' sb=>?_;have I1:Inv X pins σ H {s with heap:=h'}:=I.turned (t':=s.toks) (λb ob hb e=>(sb.2 b hb).trans e) f0 f1 f3 f4 f5;obtain⟨oi,e,c,dd⟩:=id st';refine⟨key,rfl,xU (s:={s with heap:=h'}) e c dd (by decide) ⟨kV k,H,I1,Dx (show qD k key=true from hkey),⟨rfl,k,v,hkv,rfl⟩,?_,λb hb=>(hf b hb).1⟩⟩;show h'.IsKeyIter it d (i+1) kvs.length _;rw[hl];exact st'
 done:=by
  intro X hP hw hK hc i pins s σ H E I hf st hg;subst hP hw hK;obtain⟨hd,hi⟩:=hg;obtain⟨f0,f1,f2,f3,f4,f5⟩:=hf it (by simp);obtain⟨hs,hgd,hx,es',ep',vs,hdt,hsz,kv,hm⟩:=I.GZ hd;obtain⟨rfl,rfl⟩:=rY hod hdt;exact jv (I.ok.hd hc) st hgd hdt hsz hi λh' eb=>⟨rfl,I.turned (t':=s.toks) (λb ob hb e=>eb b ob hb e) f0 f1 f3 f4 f5⟩
 self:=λA i s Q E st h=>wpAny_pyIter_keyiter st h
theorem zL {kvs:List (List Key×V)}(it:Addr) (hod:o.data=.dict es ep):Turn P w K tg (Dy d o kvs) [it] it (λi h=>h.IsKeyIter it d i kvs.length ep) where
 mem:=by simp
 obj:=λi h st b hb=>by
  have e:b=it:=by simpa using hb
  subst e;obtain⟨oi,e,c,dd⟩:=st;exact⟨oi,e,λv z=>by rw[dd]at z;cases z⟩
 keep:=λi h h' st k=>st.at λoi e=>k it (by simp) oi e
 item:=by
  intro X hP hw hK hc i pins s σ H E I hf st hg;subst hP hw hK;obtain⟨hd,hi⟩:=hg;obtain⟨f0,f1,f2,f3,f4,f5⟩:=hf it (by simp);obtain⟨hs,hgd,hx,es',ep',hdt,hsz,ent⟩:=I.G0 hd;obtain⟨rfl,rfl⟩:=rY hod hdt;obtain⟨⟨k,v⟩,hkv⟩:∃p,kvs[i]? =some p:=⟨kvs[i],Ka hi⟩;obtain⟨en,q,hen,hkey,hq⟩:=ent i k v hkv;refine l6 st hgd hdt hsz hen λh' st' sb=>?_;have I1:Inv X pins σ H {s with heap:=h'}:=I.turned (t':=s.toks) (λb ob hb e=>(sb.2 b hb).trans e) f0 f1 f3 f4 f5;obtain⟨oi,e,c,dd⟩:=id st';exact⟨en.key,rfl,xU (s:={s with heap:=h'}) e c dd (by decide) ⟨.ref q,H,I1,hkey,⟨rfl,k,v,q,hkv,rfl,hq⟩,st',λb hb=>(hf b hb).1⟩⟩
 done:=by
  intro X hP hw hK hc i pins s σ H E I hf st hg;subst hP hw hK;obtain⟨hd,hi⟩:=hg;obtain⟨f0,f1,f2,f3,f4,f5⟩:=hf it (by simp);obtain⟨hs,hgd,hx,es',ep',hdt,hsz,ent⟩:=I.G0 hd;obtain⟨rfl,rfl⟩:=rY hod hdt;exact jv (I.ok.hd hc) st hgd hdt hsz hi λh' eb=>⟨rfl,I.turned (t':=s.toks) (λb ob hb e=>eb b ob hb e) f0 f1 f3 f4 f5⟩
 self:=λA i s Q E st h=>by
  refine wpAny_pyIter_slot st.typeIs F.slot_dict_keyiterator_iter (wpAny_call_entry F.slot_dict_keyiterator_iter st.typeIs F.entry_dict_keyiterator_iter ?_ (F.args_dict_keyiterator_iter_1 _));show wpAny _ _ (ret (.ref it)) _ _ s;exact JP ⟨_,rfl,"dict_keyiterator",_,st.typeIs,F.slot_dict_keyiterator_next.lookup,h⟩
end
noncomputable def Im (td:TE):TI:=λσ H R=>td σ H λx H1=>∃d o,x=.ref d/\((∃kvs,H1 d=some (.d5 o (.dK kvs))/\R (JA d o kvs) H1)\/∃kvs,H1 d=some (.d5 o (.dT kvs))/\R (Dy d o kvs) H1)
section
variable{X:Cx}{tg e:Expr}{td:TE}{apos cpos:Pos}
theorem wD (he:PE X e td):PI X tg e (Im td):=by
 intro pins s σ H R I h;refine b8 (he pins s σ H _ I h) λu s1 ⟨x,H1,I1,rx,d,o,ex,q⟩=>?_;subst ex;obtain rfl:u=Value.ref d:=rx;rcases q with⟨kvs,hd,q⟩|⟨kvs,hd,q⟩
 ·obtain⟨hs,hgd,hx,es,ep,vs,hdt,hsz,kv,hm⟩:=I1.GZ hd;refine lQ hs hgd hx hdt (Dv (tk:=s1.toks) I1 _ (BU _ hdt) ⟨_,J4 _ rfl,rfl,?_⟩ q);rw[hsz]<;>rfl
 ·obtain⟨hs,hgd,hx,es,ep,hdt,hsz,ent⟩:=I1.G0 hd;refine lQ hs hgd hx hdt (Dv (tk:=s1.toks) I1 _ (zL _ hdt) ⟨_,J4 _ rfl,rfl,?_⟩ q);rw[hsz]<;>rfl
end
end L2
section
namespace Jq
open PySem PyProof.Rows
end Jq
end
section
namespace TL
open PySem PySem.Builtin PySem.Builtin.Str PySem.StrLaws
end TL
end
namespace L2
open PySem PySem.Spec PyProof.Rows
section
variable{X:Cx}{pins:List (Addr×Obj)}{σ:St}{H:Hp}{s:Shared}{Q:VK}
end
section
variable{X:Cx}
end
section
variable{X:Cx}{o e:Expr}{to te:TE}
end
section
variable{X:Cx}
end
end L2
namespace Att
open PySem PySem.W PySem.Calls PyProof.Rows
section
variable{prog:Program}{w:World}{A:Around}{E:Value->Shared->Prop}{s:Shared}{K:Frag}
end
end Att
namespace L2
open PySem PySem.Spec PyProof.Rows
noncomputable def inClass (s:Stmt) (j:Nat):Stmt:=match s with
 |.ClassDef _ _ _ body _ _ _ _ _ _ _=>body.getD j (.Pass ⟨0,0,0,0⟩)
 |_=>.Pass ⟨0,0,0,0⟩
noncomputable def dW (s:Stmt):Arguments:=match s with
 |.FunctionDef _ a _ _ _ _ _ _ _ _=>a
 |_=>{posonlyargs:=[],args:=[],vararg:=none,kwonlyargs:=[],kw_defaults:=[],kwarg:=none,defaults:=[]}
noncomputable def cG (s:Stmt):List Stmt:=match s with
 |.FunctionDef _ _ b _ _ _ _ _ _ _=>b
 |_=>[]
noncomputable def ai (s:Stmt):Scope:=match s with
 |.FunctionDef _ _ _ _ _ _ sc _ _ _=>sc
 |_=>{kind:=.function,names:=[],isGenerator:=false,isCoroutine:=false}
noncomputable abbrev Cw:Cv:=λ_ _ _ _ _ _=>False
noncomputable abbrev E0:XK:=λ_ _ _=>False
theorem yl {X:Cx}:Passes Cw X E0:=λ_ _ _ _ _ _ _ h=>h.elim
structure Fu (K:PySem.W.Frag) (x qual:Str) (st:Stmt) (f:Addr) (fd:FuncData):Prop where
 ex:∃(oc:Value) (od:Option Addr) (kV doc pm:Value) (an:Option Addr) (cdv ct:Value) (osl:Array (Option Value)),
  fd=PySem.W.fnOf x qual (dW st) (cG st) (ai st) .none kV doc pm an cdv ct/\K.lookup f=some ⟨oc,od,.func fd,osl⟩/\PySem.W.codeIn K cdv qual=true
 kp:PySem.W.keepIn K (.ref f)=true
section
variable{P:Program}{w:World}{K:PySem.W.Frag}{mg:Str->Option Value}{base:Heap}
theorem Fu.ok {x qual:Str}{st:Stmt}{f:Addr}{fd:FuncData}{N ps:List Str}{k:Nat}{sp:Sp}(F:Fu K x qual st f fd) (S:aq N ps (ai st)) (len:∀vs H Q E,sp vs H Q E->vs.length=ps.length)
  (hbody:∀(cdv:Value) (A:Around) (outer:List Env) (s:Shared) (H:Hp) (vs:List V) (Q:VK) (E:XK),da k (A.deeper (envOfC qual (ai st) s.heap.objs.size f cdv))->sp vs H Q E->
   ∃t,zj (wm Cw P w K mg base N qual (ai st) f cdv A outer s H E).GA (cG st) t/\t {nx:=λ_ H'=>Q .bQ H',rt:=Q} (start N vs) H):kz P w K mg base Cw (k+1) f fd ps sp:=by
 obtain⟨oc,od,kV,doc,pm,an,cdv,ct,osl,rfl,lk,hcd⟩:=F.ex;refine Ib lk hcd S len λA outer s H vs Q E hr hsp=>?_;obtain⟨t,h,q⟩:=hbody cdv A outer s H vs Q E hr hsp;exact⟨t,h.GA,q⟩
theorem Fu.binds {x qual:Str}{st:Stmt}{f:Addr}{fd:FuncData}{ps:List Str}(F:Fu K x qual st f fd)
  (h:∀(kV doc pm:Value) (an:Option Addr) (cdv ct:Value) (us:List Value),us.length=ps.length->bindArgs (PySem.W.fnOf x qual (dW st) (cG st) (ai st) .none kV doc pm an cdv ct) ⟨us,[]⟩=pure (ps.zip us)):Binds K fd ps []:=by
 obtain⟨oc,od,kV,doc,pm,an,cdv,ct,osl,rfl,lk,hcd⟩:=F.ex;exact .all (h kV doc pm an cdv ct)
theorem mY {x qual:Str}{st:Stmt}{f:Addr}{oc:Value}{od an:Option Addr}{osl:Array (Option Value)}{kV doc pm cdv ct:Value}(l:K.lookup f=some ⟨oc,od,.func (PySem.W.fnOf x qual (dW st) (cG st) (ai st) .none kV doc pm an cdv ct),osl⟩)
  (c:PySem.W.codeIn K cdv qual=true) (k:PySem.W.keepIn K (.ref f)=true):Fu K x qual st f (PySem.W.fnOf x qual (dW st) (cG st) (ai st) .none kV doc pm an cdv ct):=⟨⟨oc,od,kV,doc,pm,an,cdv,ct,osl,rfl,l,c⟩,k⟩
end
theorem cX {A:Around}{k:Nat}(hr:da k A):A.units+1<cLine:=Nat.lt_of_le_of_lt (Nat.add_le_add_left (by decide:1<=64) _) hr.units
section
variable{X:Cx}
theorem pv (i:Nat){x:Str}{pos:Pos}(hN:X.N[i]? =some x:=by rfl) (hv:HL X.env.scope x:=by first|exact Or.inl rfl|exact Or.inr (Or.inl rfl)|exact Or.inr (Or.inr rfl)) (hd:(x==("__debug__":Str))=false:=by decide)
  (hcd:(x==("__classdict__":Str))=false:=by decide):PE X (.Name x pos) (gB i):=Gy hN hv hd hcd
theorem pS:gC X (.builtin "len") (λxs H Q=>∃a kvs,xs=[V.ref a]/\H a=some (.dK kvs)/\Q (.int kvs.length) H):=by
 intro pins s σ H xs us Q I r h;obtain⟨a,kvs,rfl,ha,q⟩:=h;obtain⟨u,rfl,ru⟩:=vals1 r;cases ru;exact Ij I (.inl ha) λt s' I'=>⟨.int kvs.length,H,I',⟨t,rfl⟩,q⟩
end
theorem bX {A B:Prop}(h:B):if false=true then A else B:=by
 rw[if_neg J8];exact h
theorem bG {A B:Prop}(h:A):if true=true then A else B:=by
 rw[if_pos rfl];exact h
theorem b7 {c A B:Prop} [Decidable c] (h1:c->A) (h2:¬c->B):if c then A else B:=by
 by_cases h:c
 ·rw[if_pos h];exact h1 h
 ·rw[if_neg h];exact h2 h
noncomputable def aw (H H':Hp):Prop:=∀b o,H b=some o->H' b=some o
theorem aw.trans {H H1 H2:Hp}(a:aw H H1) (b:aw H1 H2):aw H H2:=λc o h=>b c o (a c o h)
theorem aw.free {H H':Hp}(e:aw H H'){l:Addr}(h:H' l=Option.none):H l=Option.none:=by
 cases q:H l with
 |none=>rfl
 |some o=>
  rw[e l o q]at h;cases h
theorem aw.seq {K:PySem.W.Frag}{H H':Hp}{a:Addr}{xs:List V}(e:aw H H') (h:ba K H a xs):ba K H' a xs:=by
 rcases h with(h|⟨o,h⟩)|h
 ·exact .inl (.inl (e _ _ h))
 ·exact .inl (.inr ⟨o,e _ _ h⟩)
 ·exact .inr h
section
variable{κ:Type} [DecidableEq κ]
theorem AZ {kvs:List (κ×V)}{k:κ}{v:V}(h:cw kvs k=some v):k∈kvs.map (·.1):=by
 have q:(kvs.any λkv=>decide (kv.1=k))=true:=by
  rw[gD,h]
  all_goals rfl
 obtain⟨p,hp,e⟩:=List.any_eq_true.mp q;exact Kr.mpr ⟨p,hp,J0 e⟩
theorem A0:∀{l:List κ}{k:κ},l.Nodup->¬k∈l->(l++[k]).Nodup
 |[],k,_,_=>by simp
 |a::r,k,h,hk=>by
  obtain⟨h1,h2⟩:=Kx.mp h;show(a::(r++[k])).Nodup;refine Kx.mpr ⟨λm=>?_,A0 h2 λm=>hk (JX.mpr (Or.inr m))⟩;rcases Ky.mp m with q|q
  ·exact h1 q
  ·exact hk (JX.mpr (Or.inl (J6.mp q).symm))
theorem pT {p:κ×V}{r:List (κ×V)}{k:κ}(e:p.1=k):dH (p::r) k=dH r k:=by
 unfold dH;rw[List.filter_cons,if_neg (by simp[e])]
theorem lR {p:κ×V}{r:List (κ×V)}{k:κ}(e:¬p.1=k):dH (p::r) k=p::dH r k:=by
 unfold dH;rw[List.filter_cons,if_pos (by simp[e])]
theorem ym:∀{kvs:List (κ×V)}{k:κ},¬k∈kvs.map (·.1)->dH kvs k=kvs
 |[],_,_=>rfl
 |p::r,k,h=>by
  have h':¬k∈r.map (·.1):=λm=>by
   obtain⟨q,hq,e⟩:=Kr.mp m;exact h (Kr.mpr ⟨q,JX.mpr (Or.inr hq),e⟩)
  rw[lR λe=>h (Kr.mpr ⟨p,JX.mpr (Or.inl rfl),e⟩),ym h']
end
theorem at_of {xs:List V}{z:Int}{j:Nat}{v:V}(e:z=(j:Int)) (h:xs[j]? =some v):GF xs z=some v:=by
 rw[e];exact Ff h
theorem Gd {α:Type}{l:List α}(hN:l.Nodup){i j:Nat}{x:α}(a:l[i]? =some x) (b:l[j]? =some x):i=j:=by
 obtain⟨h1,e1⟩:=J2.mp a;obtain⟨h2,e2⟩:=J2.mp b;exact(List.getElem_inj hN).mp (e1.trans e2.symm)
noncomputable abbrev g0 (w:World) (a:Addr) (ks:List Int):HO:=.ext λh=>Sn.aK w h a ks
theorem Inv.as {X:Cx}{pins:List (Addr×Obj)}{σ:St}{H:Hp}{s s':Shared}(I:Inv X pins σ H s) (eh:s'.heap=s.heap) (eg:s'.gens=s.gens) (eo:s'.os=s.os):Inv X pins σ H s':=by
 obtain⟨h,g,d,t,o⟩:=s;obtain⟨h',g',d',t',o'⟩:=s';cases eh;cases eg;cases eo;exact⟨I.ok,I.os,I.bare,I.base,I.loc,I.cell,I.free,I.g7,I.pin,I.bq,I.len⟩
theorem A1 {P:Program}{w:World}{H:Hp}{h:Heap}{a:Addr}{ks:List Int}(S:Sn.aK w h a ks):bV P w H h a (g0 w a ks):=by
 obtain⟨o,es,ep,t,R,q⟩:=id S;exact⟨S,⟨o,R.get⟩,λh1 h2 x k=>x.at k⟩
section
variable{X:Cx}{pins:List (Addr×Obj)}{σ:St}{H:Hp}{s:Shared}
theorem jw {a:Addr}{ks:List Int}(I:Inv X pins σ H s) (e:H a=some (g0 X.w a ks)):Sn.aK X.w s.heap a ks:=(I.bq a _ e).1
theorem Inv.Dz {h':Heap}{s':Shared}{a:Addr}{o:HO}(I:Inv X pins σ H s) (eg:s'.gens=s.gens) (eo:s'.os=s.os) (k:∀b u,s.heap.get? b=some u->s'.heap.get? b=some u) (hp:s.heap.objs.size<=a)
  (new:bV X.prog X.w (upd H a o) s'.heap a o):Inv X pins σ (upd H a o) s':=(I.laid (t':=s.toks) (h':=s'.heap) k hp new).as rfl eg eo
noncomputable def G3 (K:PySem.W.Frag) (w:World):List V->Hp->VK->Prop:=λvs H Q=>∃(a:Addr) (ns:List Int),vs=[V.ref a]/\(ba K H a (ns.map V.int)\/eJ K H a (ns.map V.int))/\ns.length+1<scanBound/\
 ∀(p:Addr) (ks:List Int),H p=none->ks.Nodup->(∀z,z∈ks↔z∈ns)->Q (.ref p) (upd H p (g0 w p ks))
theorem mZ (hc:X.calm=true):gC X (.type "set") (G3 X.K X.w):=by
 intro pins s σ H vs us Q I r h;obtain⟨a,ns,rfl,hs,hl,q⟩:=h;rw[Vals.Dj r];have fin:∀(h':Heap) (tk:Nat) (ms:List Int),Sn.aK X.w h' s.heap.objs.size ms->(∀z,z∈ms↔z∈ns)->(∀b o,s.heap.get? b=some o->h'.get? b=some o)->EP X pins σ Q (.ref s.heap.objs.size) {s with heap:=h',toks:=tk}:=
  λh' tk ms S hm hk=>⟨.ref _,_,I.laid (t':=tk) hk (J3 _) (A1 S),rfl,q _ ms (I.bq.fresh (J3 _)) S.nodup hm⟩
 rcases hs with hs|hs
 ·obtain⟨its,rv,hp,_⟩:=I.list hs;have hi:=rv.ints;exact Sn.set_list (I.ok.hd hc) hp.isList (by simpa using hi) (by rw[Kf,hi.length];exact hl) fin
 ·obtain⟨its,rv,hp,_⟩:=I.tuple hs;have hi:=rv.ints;obtain⟨o,ho,hcl,n,hd⟩:=hp;exact Sn.set_tuple (I.ok.hd hc) ⟨o,ho,hcl,n,hd⟩ (by simpa using hi) (by rw[Kf,hi.length];exact hl) fin
theorem wF {s':Shared}{Q:VK}{P:Int->Prop}{h':Heap}{d:Drawn}{ms:List Int}(I:Inv X pins σ H s) (G:Sn.uA s h') (S:Sn.aK X.w h' s.heap.objs.size ms) (hm:∀z,z∈ms↔P z)
  (q:∀(p:Addr) (ks:List Int),H p=none->ks.Nodup->(∀z,z∈ks↔P z)->Q (.ref p) (upd H p (g0 X.w p ks))):EP X pins σ Q (.ref s.heap.objs.size) {s with heap:=h',drawn:=d}:=
 ⟨.ref _,_,I.Dz (s':={s with heap:=h',drawn:=d}) (h':=h') rfl rfl G.keep (J3 _) (A1 S),rfl,q _ ms (I.bq.fresh (J3 _)) S.nodup hm⟩
noncomputable def zM (w:World) (C:List Int->List Int->Prop) (P:List Int->List Int->Int->Prop):R2:=λx y H Q=>∃(a b:Addr) (ks ls:List Int),x=.ref a/\y=.ref b/\H a=some (g0 w a ks)/\H b=some (g0 w b ls)/\a≠b/\C ks ls/\
 ∀(p:Addr) (ms:List Int),H p=none->ms.Nodup->(∀z,z∈ms↔P ks ls z)->Q (.ref p) (upd H p (g0 w p ms))
noncomputable def JB (ks ls:List Int):Prop:=∃U:List Int,U.length+1<scanBound/\(∀z∈ks,z∈U)/\∀z∈ls,z∈U
theorem BV:rV X (binaryOp .BitOr) (zM X.w JB λks ls z=>z∈ks\/z∈ls):=by
 intro pins s σ H x y v u Q I rx ry h;obtain⟨a,b,ks,ls,rfl,rfl,ha,hb,hab,⟨U,hU,h1,h2⟩,q⟩:=h;cases rx;cases ry;exact Sn.HJ (jw I ha) (jw I hb) hab hU h1 h2 λh' d ms G S hm=>wF (s':=s) I G S hm q
theorem zN:rV X (binaryOp .Sub) (zM X.w (λks _=>ks.length+1<scanBound) λks ls z=>z∈ks/\z∉ls):=by
 intro pins s σ H x y v u Q I rx ry h;obtain⟨a,b,ks,ls,rfl,rfl,ha,hb,hab,hU,q⟩:=h;cases rx;cases ry;exact Sn.wa (jw I ha) (jw I hb) hU λh' d ms G S hm=>wF (s':=s) I G S hm q
theorem zO:rV X (binaryOp .BitAnd) (zM X.w (λks ls=>ks.length+1<scanBound/\ls.length+1<scanBound) λks ls z=>z∈ks/\z∈ls):=by
 intro pins s σ H x y v u Q I rx ry h;obtain⟨a,b,ks,ls,rfl,rfl,ha,hb,hab,⟨hU,hU2⟩,q⟩:=h;cases rx;cases ry;exact Sn.Gk (jw I ha) (jw I hb) hab hU hU2 λh' d ms G S hm=>wF (s':=s) I G S hm q
noncomputable def zP (w:World):List V->Hp->VK->Prop:=λvs H Q=>∃(a:Addr) (ks:List Int),vs=[V.ref a]/\H a=some (g0 w a ks)/\∀(ns:List Int) (p:Addr),ns.Perm ks->ns.Pairwise (·<=·)->H p=none->Q (.ref p) (upd H p (.lst (ns.map V.int)))
theorem fB (hc:X.calm=true):gC X (.builtin "sorted") (zP X.w):=by
 intro pins s σ H vs us Q I r h;obtain⟨a,ks,rfl,ha,q⟩:=h;rw[Vals.Dj r];have S:=jw I ha;refine Sn.zv (I.ok.hd hc) S λs' p out ns c hk hg ho hn hp he hi hpm hs=>?_;have hlen:(ns.map V.int).length<=sizeLine:=by rw[JQ,hpm.length_eq];exact fits_of_scanBound S.l0
 exact⟨.ref p,upd H p (.lst (ns.map V.int)),I.Dz (s':=s') (h':=s'.heap) hg ho hk hp ⟨hlen,out.toList,c,jt hi,by simpa using he⟩,rfl,q ns p hpm hs (I.bq.fresh hp)⟩
end
section
variable{X:Cx}
end
section
variable{prog:Program}{w:World}{A:Around}{E:Value->Shared->Prop}{s:Shared}{I d:Addr}
theorem sQ (hh:A.handled=none) (hI:I≠d) (od:Obj) (es:Array DictEntry) (ep:Nat) (hdd:od.data=.dict es ep):
  Walks prog w A I [I,d] [I] es.size (λi v=>∃en,es[i]? =some en/\v=en.key) (λi h=>h.IsKeyIter I d i es.size ep/\h.get? d=some od) where
 sub:=λb hb=>by simp at hb;simp[hb]
 frame:=λi h h' st hk=>⟨st.1.at λo e=>hk I (by simp) o e,hk d (by simp) _ st.2⟩
 item:=λi s Q E hi st hQ=>by
  refine l6 st.1 st.2 hdd rfl (Ke hi) λh' it' sb=>?_;exact hQ _ h' s.toks ⟨_,Ke hi,rfl⟩ ⟨it',by rw[sb.2 d (Ne.symm hI)];exact st.2⟩ λb o hb e=>by rw[sb.2 b λz=>hb (by simp[z])];exact e
 done:=λs Q E st hQ=>jv hh st.1 st.2 hdd rfl (J3 _) λh' he=>hQ h' s.toks λb o hb e=>he b o (λz=>hb (by simp[z])) e
 self:=λi s Q E st hQ=>wpAny_pyIter_keyiter st.1 hQ
theorem BW {S:Addr}{o:Obj}{es:Array DictEntry}{ep:Nat}{Q:Value->Shared->Prop}(hh:A.handled=none) (hd:(d==sysModules)=false) (ho:s.heap.get? d=some o) (hc:o.ExactDict) (hdat:o.data=.dict es ep) (hS:S≠d) (hS2:S<s.heap.objs.size)
  (h:∀(I:Addr) (s2:Shared),(∀b u,s.heap.get? b=some u->s2.heap.get? b=some u)->s.heap.objs.size<=I->s2.gens=s.gens->s2.os=s.os->Sn.Ready prog w A s2 I S es.size (λacc=>acc.toList=es.toList.map (·.key))->Q (.ref I) s2):
  wpAny (model prog w) A (pyIter (.ref d)) Q E s:=by
 have hlt:=J7 ho;refine lQ hd ho hc hdat (h _ _ (λb u e=>JR _ e) (J3 _) rfl rfl ?_);refine⟨_,_,_,sQ hh (Nat.ne_of_gt hlt) o es ep hdat,⟨⟨_,J4 _ rfl,rfl,rfl⟩,JR _ ho⟩,?_,λacc hi=>?_⟩
 ·intro z;simp only[JX,List.not_mem_nil,or_false]at z;rcases z with z|z
  ·exact absurd hS2 (by rw[z];exact Nat.lt_irrefl _)
  ·exact hS z
 ·refine Sn.js (by rw[JQ,JY]) hi λj v hv=>?_;obtain⟨en,h1,rfl⟩:=hv;rw[J5,Kv,h1];rfl
theorem DA (hd:(d==sysModules)=false) (o:Obj) (hc:o.ExactDict) (es:Array DictEntry) (ep:Nat) (hdat:o.data=.dict es ep):
  PySem.W.KdlSrc prog w "dict" d d es.size (λi v=>∃en,es[i]? =some en/\v=en.key) (λh=>h.get? d=some o) where
 type:=λ_ hm=>⟨o,hm,hc.1⟩
 there:=λ_ hm=>⟨J7 hm,J7 hm⟩
 keep:=λ_ _ hm hk=>hk d (.inl rfl) _ hm
 notList:=by decide
 notTuple:=by decide
 hint:=λ_ _ _ _ hm hq=>PySem.W.kdl_hint_dict ⟨o,hm,hc.1⟩ hq
 iter:=λ_ s hh hm=>⟨_,_,(λ_ _ hq=>lQ hd hm hc hdat hq),sQ hh (Nat.ne_of_gt (J7 hm)) o es ep hdat,⟨⟨_,J4 _ rfl,rfl,rfl⟩,JR _ hm⟩⟩
end
section
variable{X:Cx}{pins:List (Addr×Obj)}{σ:St}{H:Hp}{s:Shared}
theorem m9 {P:Program}{w:World}:∀{es:List DictEntry}{vs:List (Key×Value)}{kvs:List (Key×V)},Pairs (aW P w) es vs->KV kvs vs->Vals (kvs.map λkv=>kV kv.1) (es.map (·.key))
 |_,_,_,.nil,r=>by cases r;exact .nil
 |e::es,kv::vs,[],.cons _ _ _,r=>nomatch r
 |e::es,kv::vs,q::kvs,.cons h1 h2 h3,r=>by
  cases r with
  |cons hq r=>
   refine .cons ?_ (m9 h3 r);show RelV (kV q.1) e.key;rw[hq.1];rcases bR h1 with⟨i,t,e1,e2⟩|⟨x,t,e1,e2⟩
   ·rw[e1,e2];exact⟨t,rfl⟩
   ·rw[e1,e2];exact⟨t,rfl⟩
noncomputable def G4:List V->Hp->VK->Prop:=λvs H Q=>∃d,vs=[V.ref d]/\((∃kvs,H d=some (.dK kvs)/\∀l,H l=none->Q (.ref l) (upd H l (.lst (kvs.map λkv=>kV kv.1))))\/
 ∃kvs,H d=some (.dT kvs)/\∀(l:Addr) (as:List Addr),H l=none->as.length=kvs.length->(∀(i:Nat) (a:Addr),as[i]? =some a->∃kv,kvs[i]? =some kv/\H a=some (.tup (kv.1.map kV)))->Q (.ref l) (upd H l (.lst (as.map V.ref))))
theorem A3 {P:Program}{w:World}{H:Hp}:∀{kvs:List (List Key×V)}{xs:List (List Key×Addr×Value)},KT H kvs xs->Vals ((xs.map (·.2.1)).map V.ref) ((xs.map (entryOfKey (tupleKind (aW P w)))).map (·.key))/\(xs.map (·.2.1)).length=kvs.length/\
  ∀(i:Nat) (a:Addr),(xs.map (·.2.1))[i]? =some a->∃kv,kvs[i]? =some kv/\H a=some (.tup (kv.1.map kV))
 |_,_,.nil=>⟨.nil,rfl,λi a h=>by simp at h⟩
 |p::kvs,q::xs,.cons h r=>by
  obtain⟨a1,a2,a3⟩:=A3 (P:=P) (w:=w) r;refine⟨.cons rfl a1,by rw[Kq,Kb,Kb,a2],λi a e=>?_⟩;cases i with
  |zero=>
   have e':q.2.1=a:=JU e;subst e';exact⟨p,rfl,h.2.1⟩
  |succ i=>exact a3 i a e
theorem om (hc:X.calm=true):gC X (.type "list") G4:=by
 intro pins s σ H vs us Q I r h;obtain⟨d,rfl,h⟩:=h;rw[Vals.Dj r];have fin:∀(o:Obj) (es:Array DictEntry) (ep:Nat) (ys:List V),(d==sysModules)=false->s.heap.get? d=some o->o.ExactDict->o.data=.dict es ep->Vals ys (es.toList.map (·.key))->ys.length<=sizeLine->(∀l,H l=none->Q (.ref l) (upd H l (.lst ys)))->
   wpAny (model X.prog X.w) X.A (call (.type "list") [.ref d]) (EP X pins σ Q) X.xe s:=λo es ep ys hd ho hx hdat rv hz q=>by
  have hl:=rv.length;rw[JQ]at hl;have hl2:es.toList.length=es.size:=JY;refine PySem.W.kdl_call (DA hd o hx es ep hdat) (I.ok.hd hc) ho (by omega) λh' tk acc c hk he hi=>?_;have e:acc.toList=es.toList.map (·.key):=Sn.js (by rw[JQ,JY]) hi λj v hv=>by
   obtain⟨en,h1,rfl⟩:=hv;rw[J5,Kv,h1];rfl
  exact⟨.ref _,_,I.laid (t':=tk) hk (J3 _) (show bV X.prog X.w _ h' _ (.lst ys)from⟨hz,acc.toList,c,by rw[e];exact rv,by simpa using he⟩),rfl,q _ (I.bq.fresh (J3 _))⟩
 rcases h with⟨kvs,ha,q⟩|⟨kvs,ha,q⟩
 ·obtain⟨z,hd,ws,rel,o,es,ep,h1,h2,h3,h4,h5,h6⟩:=sO I.bq ha;exact fin o es ep _ hd h1 h2 h3 (m9 h5 rel) (by rw[JQ];exact z) q
 ·obtain⟨z,hd,xs,rel,o,es,ep,h1,h2,h3,h4,h5,h6⟩:=yg I.bq ha;obtain⟨a1,a2,a3⟩:=A3 (P:=X.prog) (w:=X.w) rel;exact fin o es ep _ hd h1 h2 h3 (by rw[h4];exact a1) (by rw[JQ,a2];exact z) λl hl=>q l _ hl a2 a3
noncomputable def DB:List V->Hp->VK->Prop:=λvs H Q=>∃(d:Addr) (kvs:List (Key×V)) (ks:List Int),vs=[V.ref d]/\H d=some (.dK kvs)/\kvs.map (·.1)=ks.map Sum.inl/\
 ∀(ns:List Int) (p:Addr),ns.Perm ks->ns.Pairwise (·<=·)->H p=none->Q (.ref p) (upd H p (.lst (ns.map V.int)))
theorem dc (hc:X.calm=true):gC X (.builtin "sorted") DB:=by
 intro pins s σ H vs us Q I r h;obtain⟨d,kvs,ks,rfl,ha,hk,q⟩:=h;rw[Vals.Dj r];obtain⟨z,hd,ws,rel,o,es,ep,h1,h2,h3,h4,h5,h6⟩:=sO I.bq ha;have rv:=m9 h5 rel;have e1:(kvs.map λkv=>kV kv.1)=ks.map V.int:=by
  have:(kvs.map λkv=>kV kv.1)=(kvs.map (·.1)).map kV:=by rw[List.map_map];rfl
  rw[this,hk,List.map_map];rfl
 rw[e1]at rv;have hi:=rv.ints;have hlk:ks.length<=sizeLine:=by
  have:=congrArg List.length hk;rw[JQ,JQ]at this;omega
 have hlt:=J7 h1;have hes:es.size<=sizeLine:=by
  have:=hi.length;rw[JQ,JY]at this;omega
 refine Sn.xK (ms:=ks) (λQ' hQ'=>?_) hlk λs' p out ns c kp hg ho hn hp he hi' hpm hs=>?_
 ·refine Sn.sD (T:="dict") (n:=es.size) (G:=λacc=>acc.toList=es.toList.map (·.key)) (.inr rfl) (λh' k=>⟨o,k _ _ h1,h2.1⟩) hlt (λs1 Q2 k1 g1 z1 hq=>?_) hes λs' acc k' g' o' z' hG=>?_
  ·exact BW (A:=X.A.in1.in1) (I.ok.hd hc) hd (k1 _ _ h1) h2 h3 (Nat.ne_of_gt hlt) z1 λJ s2 k2 hJ g2 o2 RD=>hq J s2 k2 hJ g2 o2 RD
  ·exact hQ' s' acc.toList k' g' o' z' ⟨ks,by rw[hG];exact hi,List.Perm.refl _⟩
 ·have hlen:(ns.map V.int).length<=sizeLine:=by rw[JQ,hpm.length_eq];exact hlk
  exact⟨.ref p,upd H p (.lst (ns.map V.int)),I.Dz (s':=s') (h':=s'.heap) hg ho kp hp ⟨hlen,out.toList,c,jt hi',by simpa using he⟩,rfl,q ns p hpm hs (I.bq.fresh hp)⟩
end
section
variable{prog:Program}{w:World}{A:Around}{E:Value->Shared->Prop}{s:Shared}{d:Addr}{o:Obj}{es:Array DictEntry}{ep:Nat}
theorem Fv {Q:Value->Shared->Prop}(hd:(d==sysModules)=false) (ho:s.heap.get? d=some o) (hc:o.ExactDict) (hdat:o.data=.dict es ep) (hfit:(es.size:Int)<2^63) (h:∀t tk,Q (.int es.size t) {s with toks:=tk}):
  wpAny (model prog w) A (call (.builtin "len") [.ref d]) Q E s:=by
 have hT:s.TypeIs (.ref d) "dict":=⟨o,ho,hc.1⟩;refine Calls.call_function_entry PySem.kind_len PySem.plain_len PySem.entry_len (PySem.args_len1 _) ?_;unfold Builtin.«len»;refine JO (JP (JO (wpAny_callSpecial?_slot (name:=Str.ofString "__len__") hT PySem.F.slot_dict_len (wpAny_call_entry PySem.F.slot_dict_len hT PySem.F.entry_dict_len ?_ (PySem.F.args_dict_len_1 _)))));unfold Builtin.«dict.__len__» Builtin.Dict.dictSlotNone;refine JO (JO (wpAny_notOrdered_dict hT (JP ?_)));refine JO (JP ?_);unfold dictSize;refine JO (JO (wpAny_dictEntries ho hdat (JP ?_)));unfold Builtin.Dict.pendingCount;rw[if_neg (by rw[hd];exact J8)];refine JO (JP ?_);refine JO (wpAny_mkInt (JP ⟨_,rfl,?_⟩));refine JO (wpAny_holding (JP ?_));refine JO (wpAny_letGo ?_);rw[if_neg (by omega),if_neg (by omega)];refine JO (wpAny_mkInt (JP ⟨_,rfl,?_⟩));simpa using h _ _
theorem BX {K:Type} [DecidableEq K] {knd:HeapKind prog w K}{a:Addr}{xs:List (K×Addr×Value)}{k:K}{j:Nat}{p:Addr×Value}{Q:Option DictEntry->Shared->Prop}(hu:knd.room A) (hkey:knd.is s.heap k a) (hm:s.heap.DictOfH knd d xs) (hj:xs[j]? =some (k,p)) (hz:xs.length<=sizeLine)
  (h:∀h' o' es' ep',h'.get? d=some o'->o'.ExactDict->o'.data=.dict es' ep'->es'.toList=(xs.eraseIdx j).map (entryOfKey knd)->Heap.SameBut d s.heap h'->Q (some (entryOfKey knd (k,p))) {s with heap:=h',toks:=s.toks+knd.draws k}):
  wpAny (model prog w) A (Builtin.Dict.takeOut d (.ref a)) Q E s:=by
 obtain⟨o,es,ep,ho,hc,hd,he,his,hn⟩:=hm;unfold Builtin.Dict.takeOut;refine wpAny_holding ?_;refine JO (knd.pyHash hu hkey (JO (wpAny_dictFind_heap (s:={s with toks:=s.toks+knd.draws k}) hu hkey ho hd he his hn (λhno=>absurd hj (hno j p)) λi q hi=>?_)));have eij:i=j:=by
  have h1:(xs.map (·.1))[i]? =some k:=by rw[J5,hi];rfl
  have h2:(xs.map (·.1))[j]? =some k:=by rw[J5,hj];rfl
  exact Gd hn h1 h2
 subst eij;have eq:q=p:=by rw[hi]at hj;cases hj;rfl
 subst eq;refine JO (wpAny_dictEntries (s:={s with toks:=s.toks+knd.draws k}) ho hd ?_);rw[entry_at he i,hi];dsimp only[Option.map_some];refine JO (wpAny_updateDictKeys (hz:=by have e:=size_of_entries he;omega) (s:={s with toks:=s.toks+knd.draws k}) ho hd (JP (h _ _ _ (ep+1) (Heap.get?_update_self _ ho (Obj.isFreed_of_dict (Obj.data_mapDictKeys hd _))) (hc.mapDictKeys _) (Obj.data_mapDictKeys hd _) ?_ (Heap.SameBut.update ..))));obtain⟨l⟩:=es;have he':l=xs.map (entryOfKey knd):=he;rw[List.eraseIdx_eq_take_drop_succ,Ki,List.map_take,List.map_drop,←he'];simp[List.eraseIdx_eq_take_drop_succ]
end
section
variable{X:Cx}{pins:List (Addr×Obj)}{σ:St}{H:Hp}{s:Shared}{a b:Addr}{kvs:List (List Key×V)}{k:List Key}{A:Around}{E:Value->Shared->Prop}
theorem lS:gC X (.builtin "len") (λxs H Q=>∃a kvs,xs=[V.ref a]/\H a=some (.dT kvs)/\Q (.int kvs.length) H):=by
 intro pins s σ H xs us Q I r h;obtain⟨a,kvs,rfl,ha,q⟩:=h;rw[Vals.Dj r];obtain⟨z,hd,xs,rel,o,es,ep,h1,h2,h3,h4,h5,h6⟩:=yg I.bq ha;have e:es.size=kvs.length:=by
  rw[←JY,h4,JQ,←Paired.length rel]
 refine Fv hd h1 h2 h3 (by rw[e];rw[sizeLine_eq]at z;omega) λt tk=>?_;rw[e];exact⟨.int kvs.length,H,I.tok _,⟨t,rfl⟩,q⟩
theorem kt_at {H:Hp}{kvs:List (List Key×V)}{xs:List (List Key×Addr×Value)}(r:KT H kvs xs):∀{v:V},cw kvs k=some v->∃(j:Nat) (p:Addr×Value),xs[j]? =some (k,p)/\kvs[j]? =some (k,v)/\RelV v p.2:=by
 induction r with
 |nil=>intro v e;cases e
 | @cons p q ps qs h t ih=>
  intro v e
  by_cases ek:p.1=k
  ·rw[cC ek]at e;have e':=JU e;subst e';exact⟨0,q.2,by rw[List.getElem?_cons_zero,←ek,h.1],by rw[List.getElem?_cons_zero,←ek],h.2.2⟩
  ·rw[b9 ek]at e;obtain⟨j,p',a1,a2,a3⟩:=ih e;exact⟨j+1,p',a1,a2,a3⟩
theorem G5 {H:Hp}{kvs:List (List Key×V)}{xs:List (List Key×Addr×Value)}(r:KT H kvs xs):kvs.map (·.1)=xs.map (·.1):=by
 induction r with
 |nil=>rfl
 |cons hh t ih=>rw[Kq,Kq,hh.1,ih]
theorem DC {H:Hp}{kvs:List (List Key×V)}{xs:List (List Key×Addr×Value)}(r:KT H kvs xs):∀(j:Nat),KT H (kvs.eraseIdx j) (xs.eraseIdx j):=by
 induction r with
 |nil=>intro j;exact .nil
 |cons h t ih=>
  intro j;cases j with
  |zero=>exact t
  |succ j=>exact .cons h (ih j)
theorem sR:∀{kvs:List (List Key×V)}{j:Nat}{v:V},(kvs.map (·.1)).Nodup->kvs[j]? =some (k,v)->dH kvs k=kvs.eraseIdx j
 |[],j,v,_,e=>by simp at e
 |p::kvs,0,v,hn,e=>by
  have e':p=(k,v):=JU e;subst e';have hn':(k::kvs.map (·.1)).Nodup:=hn;rw[pT rfl,ym (Kx.mp hn').1];rfl
 |p::kvs,j+1,v,hn,e=>by
  have hn':(p.1::kvs.map (·.1)).Nodup:=hn;obtain⟨h1,h2⟩:=Kx.mp hn';have e':kvs[j]? =some (k,v):=e;have ne:¬p.1=k:=λz=>h1 (by rw[z];exact Kr.mpr ⟨(k,v),Kd e',rfl⟩);rw[lR ne,sR h2 e'];rfl
theorem G6 {v:V}{more:List Value}{Q:Value->Shared->Prop}(hu:A.units+1<cLine) (I:Inv X pins σ H s) (e:H a=some (.dT kvs)) (eb:H b=some (.tup (k.map kV))) (l:cw kvs k=some v) (hm:more=[]\/∃x,more=[x])
  (h:∀w' s',Inv X pins σ (upd H a (.dT (dH kvs k))) s'->RelV v w'->Q w' s'):wpAny (model X.prog X.w) A (call (.builtin "dict.pop") (.ref a::.ref b::more)) Q E s:=by
 obtain⟨z,hd,xs,rel,dd⟩:=yg I.bq e;obtain⟨j,p,hx,hk,hr⟩:=kt_at rel l;have dd0:=dd;obtain⟨o,es,ep,h1,h2,h3,h4,h5,h6⟩:=dd;have hT:s.TypeIs (.ref a) "dict":=⟨o,h1,h2.1⟩;have hnk:(kvs.map (·.1)).Nodup:=by
  rw[G5 rel];exact h6
 have ha:argsOk "dict.pop" ⟨.ref a::.ref b::more,[]⟩:=by
  rcases hm with q|⟨x,q⟩
  ·subst q;exact PySem.F.args_dict_pop_2 _ _
  ·subst q;exact PySem.F.args_dict_pop_3 _ _ _
 refine wpAny_call_entry PySem.F.slot_dict_pop hT PySem.F.entry_dict_pop ?_ ha;have hlen:xs.length<=sizeLine:=by rw[←Paired.length rel];exact z
 have hne:es.isEmpty=false:=by
  have:0<es.size:=by
   rw[size_of_entries h4];exact Nat.lt_of_le_of_lt (Kk _) (J2.mp hx).1
  cases q:es.isEmpty with
  |false=>rfl
  |true=>simp at q;rw[q]at this;simp at this
 have take:∀{Q2:Option DictEntry->Shared->Prop},(∀h' o' es' ep',h'.get? a=some o'->o'.ExactDict->o'.data=.dict es' ep'->es'.toList=(xs.eraseIdx j).map (entryOfKey (tupleKind (aW X.prog X.w)))->Heap.SameBut a s.heap h'->
   Q2 (some (entryOfKey (tupleKind (aW X.prog X.w)) (k,p))) {s with heap:=h',toks:=s.toks+(tupleKind (aW X.prog X.w)).draws k})->wpAny (model X.prog X.w) A.in1 (Builtin.Dict.takeOut a (.ref b)) Q2 E s:=λhq=>
  BX (knd:=tupleKind (aW X.prog X.w)) (tupleKind_room_in1 hu) (kG I.bq eb) dd0 hx hlen hq
 have fin:∀h' o' es' ep',h'.get? a=some o'->o'.ExactDict->o'.data=.dict es' ep'->es'.toList=(xs.eraseIdx j).map (entryOfKey (tupleKind (aW X.prog X.w)))->Heap.SameBut a s.heap h'->∀tk,Q p.2 {s with heap:=h',toks:=tk}:=λh' o' es' ep' g1 g2 g3 g4 sb tk=>by
  refine h p.2 _ ?_ hr;rw[sR hnk hk];refine ju I (by rw[e];exact True.intro) sb ⟨o',g1⟩ ⟨Kj (List.eraseIdx_sublist ..).length_le z,hd,_,(DC rel j).keeps λc ys ec=>?_,o',es',ep',g1,g2,g3,g4,?_⟩
  ·rw[ak (ve ec e (λz=>nomatch z))];exact ec
  ·exact List.Nodup.sublist ((List.eraseIdx_sublist ..).map _) h6
 unfold Builtin.«dict.pop» Builtin.Dict.keyAndDefault;refine JO (JO (wpAny_notOrdered_dict hT ?_));rcases hm with rfl|⟨x,rfl⟩
 ·refine JP ?_;dsimp only;rw[if_neg (show ¬((keyPart (Value.ref b)).isSome=true) by simp[keyPart])];refine JO (wpAny_dictEntries h1 h3 (JO (JP ?_)));rw[hne];simp only[Kc,if_false];refine JO (take λh' o' es' ep' g1 g2 g3 g4 sb=>?_);simp only[Option.isNone_some,Kc,if_false];exact JO (wpAny_letGo (JP ⟨_,rfl,fin h' o' es' ep' g1 g2 g3 g4 sb _⟩))
 ·refine JP ?_;dsimp only;rw[if_neg (show ¬((keyPart (Value.ref b)).isSome=true) by simp[keyPart])];refine JO (wpAny_dictEntries h1 h3 (JO (JP ?_)));rw[hne];simp only[Kc,if_false];refine JO (take λh' o' es' ep' g1 g2 g3 g4 sb=>?_);simp only[Option.isNone_some,Kc,if_false];exact JO (wpAny_letGo (JP ⟨_,rfl,fin h' o' es' ep' g1 g2 g3 g4 sb _⟩))
noncomputable def G7 (td ty:TE):TE:=λσ H Q=>td σ H λx H1=>∃a,x=.ref a/\GQ H1 a/\ty σ H1 λy H2=>(∃kvs k v,H2 a=some (.dK kvs)/\y=kV k/\cw kvs k=some v/\Q v (upd H2 a (.dK (dH kvs k))))\/
 ∃kvs k v b,H2 a=some (.dT kvs)/\y=.ref b/\H2 b=some (.tup (k.map kV))/\cw kvs k=some v/\Q v (upd H2 a (.dT (dH kvs k)))
variable{o e:Expr}{apos cpos:Pos}{td ty:TE}
theorem yn (hu:X.A.units+1<cLine) (ho:PE X o td) (he:PE X e ty) (m:M1 X o "pop" apos e cpos):PE X (.Call (.Attribute o "pop" apos) [e] [] cpos) (G7 td ty):=by
 intro pins s σ H Q I h;refine wpAny_Call_method m.base m.l0 m.line PySem.F.plainAttrs_dict PySem.F.slot_dict_pop PySem.F.type_dict_pop (b8 (ho pins s σ H _ I h) λu s1 ⟨x,H1,I1,rx,a,ex,d,q1⟩=>?_);subst ex;obtain rfl:u=Value.ref a:=rx;obtain⟨t1,t2,_⟩:=wC I1 d;refine⟨t1,t2,?_⟩;rw[m.trees];refine Calls.callWith_builtin rfl (Calls.evalArgs_plain (Calls.spliced_cons (b8 (he pins s1 σ H1 _ I1 q1) λiv s2 ⟨y,H2,I2,ry,q2⟩=>Calls.spliced_nil ?_)));rcases q2 with⟨kvs,k,v,ea,ey,l,q2⟩|⟨kvs,k,v,b,ea,ey,eb,l,q2⟩
 ·subst ey;exact F9 I2 ea ry l (.inl rfl) λw' s3 I3 rw'=>⟨v,_,I3,rw',q2⟩
 ·subst ey;cases(show iv=Value.ref b from ry);exact G6 hu I2 ea eb l (.inl rfl) λw' s3 I3 rw'=>⟨v,_,I3,rw',q2⟩
end
theorem sk {N P:List Str}{sc:Scope}(h:N.Nodup/\(∀x∈P,sc.names.lookup x=some .local\/sc.names.lookup x=some .cell)/\∀y∈sc.names,y.2≠.free) (a:sc.kind=.function:=by rfl) (b:sc.isCoroutine=false:=by rfl) (c:sc.isGenerator=false:=by rfl) (d:N.take P.length=P:=by rfl):aq N P sc:=⟨a,b,c,h.1,d,h.2.1,h.2.2⟩
noncomputable def Fd (K:PySem.W.Frag) (H:Hp) (a:Addr) (f:Str) (v:V):Prop:=∃C dx fs,H a=some (.ins C dx fs)/\uE K C/\ay K C f/\fs.lookup f=some v
structure c8 (K:PySem.W.Frag) (mg:Str->Option Value) (x:Str) (st:Stmt) (ps:List Str):Prop where
 ex:∃f fd,Fu K x x st f fd/\mg x=some (.ref f)/\Binds K fd ps []
structure uy (K:PySem.W.Frag) (C:Addr) (x qual:Str) (st:Stmt) (ps:List Str):Prop where
 ex:∃f fd,Fu K x qual st f fd/\Meth K C x f/\Binds K fd ps []
 cl:uE K C
structure DD (K:PySem.W.Frag) (mg:Str->Option Value) (C:Addr) (x qual:Str) (st:Stmt) (ps:List Str):Prop where
 ex:∃f fd,Fu K "__init__" qual st f fd/\Mk K C f/\Binds K fd ps []
 cl:uE K C
 mg:mg x=some (.ref C)
structure Fn (P:Program) (w:World) (K:PySem.W.Frag) (mg:Str->Option Value) (base:Heap) (x:Str) (k:Nat) (ps:List Str) (sp:Sp):Prop where
 ex:∃f fd,kz P w K mg base Cw k f fd ps sp/\mg x=some (.ref f)/\PySem.W.keepIn K (.ref f)=true/\Binds K fd ps []
structure Me (P:Program) (w:World) (K:PySem.W.Frag) (mg:Str->Option Value) (base:Heap) (C:Addr) (x:Str) (k:Nat) (ps:List Str) (sp:Sp):Prop where
 ex:∃f fd,kz P w K mg base Cw k f fd ps sp/\Meth K C x f/\Binds K fd ps []
 cl:uE K C
structure Mc (P:Program) (w:World) (K:PySem.W.Frag) (mg:Str->Option Value) (base:Heap) (x:Str) (C:Addr) (k:Nat) (ps:List Str) (sp:Sp):Prop where
 ex:∃f fd,kz P w K mg base Cw k f fd ps sp/\Mk K C f/\Binds K fd ps []
 mg:mg x=some (.ref C)
section
variable{P:Program}{w:World}{K:PySem.W.Frag}{mg:Str->Option Value}{base:Heap}
theorem c8.ok {x:Str}{st:Stmt}{N ps:List Str}{k:Nat}{sp:Sp}(D:c8 K mg x st ps) (S:aq N ps (ai st)) (len:∀vs H Q E,sp vs H Q E->vs.length=ps.length)
  (hbody:∀(f:Addr) (cdv:Value) (A:Around) (outer:List Env) (s:Shared) (H:Hp) (vs:List V) (Q:VK) (E:XK),da k (A.deeper (envOfC x (ai st) s.heap.objs.size f cdv))->sp vs H Q E->
   ∃t,zj (wm Cw P w K mg base N x (ai st) f cdv A outer s H E).GA (cG st) t/\t {nx:=λ_ H'=>Q .bQ H',rt:=Q} (start N vs) H):Fn P w K mg base x (k+1) ps sp:=by
 obtain⟨f,fd,F,m,b⟩:=D.ex;exact⟨f,fd,F.ok S len (hbody f),m,F.kp,b⟩
theorem uy.ok {x qual:Str}{st:Stmt}{N ps:List Str}{k:Nat}{sp:Sp}{C:Addr}(D:uy K C x qual st ps) (S:aq N ps (ai st)) (len:∀vs H Q E,sp vs H Q E->vs.length=ps.length)
  (hbody:∀(f:Addr) (cdv:Value) (A:Around) (outer:List Env) (s:Shared) (H:Hp) (vs:List V) (Q:VK) (E:XK),da k (A.deeper (envOfC qual (ai st) s.heap.objs.size f cdv))->sp vs H Q E->
   ∃t,zj (wm Cw P w K mg base N qual (ai st) f cdv A outer s H E).GA (cG st) t/\t {nx:=λ_ H'=>Q .bQ H',rt:=Q} (start N vs) H):Me P w K mg base C x (k+1) ps sp:=by
 obtain⟨f,fd,F,m,b⟩:=D.ex;exact⟨⟨f,fd,F.ok S len (hbody f),m,b⟩,D.cl⟩
theorem DD.ok {x qual:Str}{st:Stmt}{N ps:List Str}{k:Nat}{sp:Sp}{C:Addr}(D:DD K mg C x qual st ps) (S:aq N ps (ai st)) (len:∀vs H Q E,sp vs H Q E->vs.length=ps.length)
  (hbody:∀(f:Addr) (cdv:Value) (A:Around) (outer:List Env) (s:Shared) (H:Hp) (vs:List V) (Q:VK) (E:XK),da k (A.deeper (envOfC qual (ai st) s.heap.objs.size f cdv))->sp vs H Q E->
   ∃t,zj (wm Cw P w K mg base N qual (ai st) f cdv A outer s H E).GA (cG st) t/\t {nx:=λ_ H'=>Q .bQ H',rt:=Q} (start N vs) H):Mc P w K mg base x C (k+1) ps sp:=by
 obtain⟨f,fd,F,m,b⟩:=D.ex;exact⟨⟨f,fd,F.ok S len (hbody f),m,b⟩,D.mg⟩
end
section
variable{X:Cx}{k j:Nat}{C:Addr}{ps:List Str}{sp:Sp}{x m f:Str}{p pos pos' tpos apos:Pos}{e o value:Expr}{es:List Expr}{ta tv:TE}{t:TA}
theorem az (F:Fn X.prog X.w X.K X.mg X.base x k ps sp) (hr:da j X.A) (ha:PA X (e::es) t) (hj:k<=j:=by decide) (hg:Gl X x:=by rfl) (hdb:(x==("__debug__":Str))=false:=by decide)
  (he:starEach (e::es) X.env=(false,eval e X.env)::starEach es X.env:=by rfl) (hpl:(backTo pos (starEach es X.env)).any (·.1)=false:=by rfl):
  PE X (.Call (.Name x p) (e::es) [] pos) (AR sp [] E0 t):=by
 obtain⟨f,fd,G,m,kp,b⟩:=F.ex;exact E9 G (hr.mono hj) hg m kp b .nil yl ha hdb he hpl
theorem l7 (F:Mc X.prog X.w X.K X.mg X.base x C k ps sp) (hr:da j X.A) (ha:PA X (e::es) t) (hj:k+1<=j:=by decide) (hg:Gl X x:=by rfl) (hdb:(x==("__debug__":Str))=false:=by decide)
  (he:starEach (e::es) X.env=(false,eval e X.env)::starEach es X.env:=by rfl) (hpl:(backTo pos (starEach es X.env)).any (·.1)=false:=by rfl):
  PE X (.Call (.Name x p) (e::es) [] pos) (xX C sp [] E0 t):=by
 obtain⟨f,fd,G,m,b⟩:=F.ex;exact Fc m G (hr.mono hj) hg F.mg b .nil yl ha hdb he hpl
theorem G8 (F:Mc X.prog X.w X.K X.mg X.base x C k ps sp) (hr:da j X.A) (hj:k+1<=j:=by decide) (hg:Gl X x:=by rfl) (hdb:(x==("__debug__":Str))=false:=by decide):
  PE X (.Call (.Name x p) [] [] pos) (xX C sp [] E0 kj):=by
 obtain⟨f,fd,G,m,b⟩:=F.ex;exact Dd m G (hr.mono hj) hg F.mg b .nil yl hdb
theorem bT {pl:Sem Bool}(he:PE X o ta) (F:Me X.prog X.w X.K X.mg X.base C m k ps sp) (hr:da j X.A) (ha:PA X (e::es) t) (hj:k<=j:=by decide)
  (hst:starEach (e::es) X.env=(false,eval e X.env)::starEach es X.env:=by rfl) (hpl:(backTo pos (starEach es X.env)).any (·.1)=false:=by rfl)
  (ht:eval (.Call (.Attribute o m apos) (e::es) [] pos) X.env=(do
   let ov←eval o X.env
   standAt apos.atName
   let (f,first)←holding [ov] (getMethod ov m pl)
   callWith pos f first (backTo pos (starEach (e::es) X.env)) (backToKw pos (keywordEach [] X.env))):=by rfl):
  PE X (.Call (.Attribute o m apos) (e::es) [] pos) (xW C m sp [] E0 ta t):=by
 obtain⟨f,fd,G,m,b⟩:=F.ex;exact Fb he F.cl m G (hr.mono hj) b .nil yl ha hst hpl ht
theorem jx {pl:Sem Bool}(he:PE X o ta) (F:Me X.prog X.w X.K X.mg X.base C m k ps sp) (hr:da j X.A) (hj:k<=j:=by decide)
  (ht:eval (.Call (.Attribute o m apos) [] [] pos) X.env=(do
   let ov←eval o X.env
   standAt apos.atName
   let (f,first)←holding [ov] (getMethod ov m pl)
   callWith pos f first (backTo pos (starEach [] X.env)) (backToKw pos (keywordEach [] X.env))):=by rfl):
  PE X (.Call (.Attribute o m apos) [] [] pos) (xW C m sp [] E0 ta kj):=by
 obtain⟨f,fd,G,m,b⟩:=F.ex;exact Dc he F.cl m G (hr.mono hj) b .nil yl ht
theorem bz {i:Int}(h:∃t,X.mg x=some (.int i t)) (hg:Gl X x:=by rfl) (hd:(x==("__debug__":Str))=false:=by decide):PE X (.Name x p) (tC (.int i)):=by
 obtain⟨t,h⟩:=h;exact AK hg h ⟨t,rfl⟩ hd
theorem sS {a:Addr}(h:X.mg x=some (.ref a)) (hg:Gl X x:=by rfl) (hd:(x==("__debug__":Str))=false:=by decide):PE X (.Name x p) (tC (.ref a)):=AK hg h rfl hd
noncomputable def tF (K:PySem.W.Frag) (ta:TE) (f:Str):TE:=λσ H Q=>ta σ H λx H1=>∃a v,x=.ref a/\Fd K H1 a f v/\Q v H1
theorem aB (he:PE X e ta) (hb:attributeBase e f X.env (eval e X.env)=eval e X.env:=by rfl):PE X (.Attribute e f pos) (tF X.K ta f):=by
 intro pins s σ H Q I h;refine E6 hb (b8 (he pins s σ H _ I h) λu s1 ⟨x,H1,I1,rx,a,v,ex,⟨C,dx,fs,ea,c,n,l⟩,q⟩=>?_);subst ex;obtain rfl:u=Value.ref a:=rx;exact sH I1 ea c n l λu' s2 I2 ru=>⟨v,H1,I2,ru,q⟩
noncomputable def Jr (K:PySem.W.Frag):List V->Hp->VK->Prop:=λvs H Q=>∃x t C b,vs=[x,.ref C]/\pO K H x t/\PySem.W.kitOne K t (.ref C)=some b/\Q (.bl b) H
theorem DE:gC X (.builtin "isinstance") (Jr X.K):=by
 intro pins s σ H vs us Q I r h;obtain⟨x,t,C,b,rfl,ty,e,q⟩:=h;cases r with
 |cons r1 r2=>
  cases r2 with
  |cons r2 r3=>
   cases r3;cases r2;exact BK I r1 ty e λtk=>⟨.bl b,H,I.tok _,rfl,q⟩
end
section
variable{X:Cx}{pins:List (Addr×Obj)}{σ:St}{H:Hp}{s:Shared}{a:Addr}{A:Around}{E:Value->Shared->Prop}
theorem DF {kvs:List (List Key×V)}{Q:Value->Shared->Prop}(I:Inv X pins σ H s) (e:H a=some (.dT kvs)) (h:∀s',Inv X pins σ (upd H a (.dT [])) s'->Q .none s'):wpAny (model X.prog X.w) A (call (.builtin "dict.clear") [.ref a]) Q E s:=by
 obtain⟨z,hd,xs,rel,dd⟩:=yg I.bq e;obtain⟨o,es,ep,h1,h2,h3,h4,h5,h6⟩:=dd;have hT:s.TypeIs (.ref a) "dict":=⟨o,h1,h2.1⟩;refine wpAny_call_entry PySem.F.slot_dict_clear hT PySem.F.entry_dict_clear ?_ (PySem.F.args_dict_clear_1 _);have hes:es.size<=sizeLine:=by
  rw[size_of_entries h4,←Paired.length rel];exact z
 unfold Builtin.«dict.clear»;refine JO ?_;unfold Builtin.Dict.noArgs;refine JO (wpAny_notOrdered_dict hT ?_);show wpAny _ _ (pure a) _ _ s;refine JP ?_;refine JO (wpAny_dictEntries h1 h3 ?_);refine JO ?_;unfold bearsInstanceDictMark;refine JO (wpAny_load h1 (JP ?_));refine JO (wpAny_updateDictKeys (hz:=hes) h1 h3 ?_);have g1:=Heap.get?_update_self (Obj.mapDictKeys λ_=> #[]) h1 (Obj.isFreed_of_dict (Obj.data_mapDictKeys h3 _));have I2:∀tk,Inv X pins σ (upd H a (.dT [])) {s with heap:=s.heap.update a (Obj.mapDictKeys λ_=> #[]),toks:=tk}:=λtk=>
  ju I (by rw[e];exact True.intro) (Heap.SameBut.update ..) ⟨_,g1⟩ ⟨Kk _,hd,[],.nil,_,_,ep+1,g1,h2.mapDictKeys _,Obj.data_mapDictKeys h3 _,rfl,List.nodup_nil⟩
 split
 ·exact JO (wpAny_letGo (JP ⟨.none,rfl,h _ (I2 _)⟩))
 ·exact JO (JP (JP ⟨.none,rfl,h _ (I2 _)⟩))
theorem pU:Jf X "dict.clear" (λx xs H Q=>∃a,x=.ref a/\xs=[]/\((∃kvs,H a=some (.dK kvs)/\Q .bQ (upd H a (.dK [])))\/∃kvs,H a=some (.dT kvs)/\Q .bQ (upd H a (.dT [])))):=by
 intro pins s σ H x xs v us Q I rx rs h;obtain⟨a,rfl,rfl,h⟩:=h;cases rs;obtain rfl:v=Value.ref a:=rx;rcases h with⟨kvs,e,q⟩|⟨kvs,e,q⟩
 ·exact Fq I e λs' I'=>⟨.bQ,_,I',rfl,q⟩
 ·exact DF I e λs' I'=>⟨.bQ,_,I',rfl,q⟩
end
end L2
namespace Mx
open Vbcnai
noncomputable def Up (l:List Nat):Prop:=l.Pairwise (·<·)
theorem Up.nodup {l:List Nat}(h:Up l):l.Nodup:=List.Pairwise.imp (λh=>Kg h) h
theorem jy {x y:Nat}:∀{l:List Nat},y∈put x l↔y=x\/y∈l
 |[]=>by simp[put]
 |a::l=>by
  unfold put;split
  ·rename_i e;subst e;simp
  ·split
   ·simp
   ·rw[JX,jy (l:=l),JX];constructor
    ·rintro(h|h|h)
     ·exact .inr (.inl h)
     ·exact .inl h
     ·exact .inr (.inr h)
    ·rintro(h|h|h)
     ·exact .inr (.inl h)
     ·exact .inl h
     ·exact .inr (.inr h)
theorem zQ {x:Nat}:∀{l:List Nat},Up l->Up (put x l)
 |[],_=>by unfold put;exact List.pairwise_singleton ..
 |a::l,h=>by
  obtain⟨h1,h2⟩:=List.pairwise_cons.mp h;unfold put;split
  ·exact h
  ·rename_i hne;split
   ·rename_i hlt;refine List.pairwise_cons.mpr ⟨λy hy=>?_,h⟩;rcases JX.mp hy with e|hy
    ·rw[e];exact hlt
    ·exact Nat.lt_trans hlt (h1 y hy)
   ·refine List.pairwise_cons.mpr ⟨λy hy=>?_,zQ h2⟩;rcases jy.mp hy with e|hy
    ·omega
    ·exact h1 y hy
theorem de {y:Nat}:∀{a b:List Nat},y∈both a b↔y∈a\/y∈b
 |[],b=>by simp[both]
 |x::a,b=>by
  show y∈put x (both a b)↔_;rw[jy,de (a:=a),JX];constructor
  ·rintro(h|h|h)
   ·exact .inl (.inl h)
   ·exact .inl (.inr h)
   ·exact .inr h
  ·rintro((h|h)|h)
   ·exact .inl h
   ·exact .inr (.inl h)
   ·exact .inr (.inr h)
theorem jz:∀{a b:List Nat},Up b->Up (both a b)
 |[],b,h=>h
 |x::a,b,h=>zQ (jz (a:=a) h)
theorem cM {y:Nat}{a b:List Nat}:y∈without a b↔y∈a/\y∉b:=by
 unfold without;rw[List.mem_filter];simp
theorem nc {a b:List Nat}(h:Up a):Up (without a b):=List.Pairwise.filter _ h
theorem gE {y:Nat}{a b:List Nat}:y∈common a b↔y∈a/\y∈b:=by
 unfold common;rw[List.mem_filter];simp
theorem pV {a b:List Nat}(h:Up a):Up (common a b):=List.Pairwise.filter _ h
theorem sT:∀{a b:List Nat},Up a->Up b->(∀y,y∈a↔y∈b)->a=b
 |[],[],_,_,_=>rfl
 |[],y::b,_,_,h=>by have:=(h y).mpr JZ;cases this
 |x::a,[],_,_,h=>by have:=(h x).mp JZ;cases this
 |x::a,y::b,ha,hb,h=>by
  obtain⟨a1,a2⟩:=List.pairwise_cons.mp ha;obtain⟨b1,b2⟩:=List.pairwise_cons.mp hb;have e:x=y:=by
   rcases JX.mp ((h x).mp JZ)with e|m
   ·exact e
   ·rcases JX.mp ((h y).mpr JZ)with e|m'
    ·exact e.symm
    ·have:=b1 x m;have:=a1 y m';omega
  subst e;have:a=b:=sT a2 b2 λz=>by
   constructor
   ·intro hz;rcases JX.mp ((h z).mp (JW _ hz))with e|m
    ·have:=a1 z hz;omega
    ·exact m
   ·intro hz;rcases JX.mp ((h z).mpr (JW _ hz))with e|m
    ·have:=b1 z hz;omega
    ·exact m
  rw[this]
theorem bJ {l:List Nat}{z:Int}:z∈Vbcnai.ints l↔∃n∈l,(n:Int)=z:=by
 unfold Vbcnai.ints;rw[Kr]
theorem aU {l:List Nat}{n:Nat}:(n:Int)∈Vbcnai.ints l↔n∈l:=by
 rw[bJ];exact⟨λ⟨m,h,e⟩=>by have:m=n:=Int.ofNat.inj e;rw[←this];exact h,λh=>⟨n,h,rfl⟩⟩
theorem pW:∀{l:List Int},(∀z∈l,0<=z)->Vbcnai.ints (nats l)=l
 |[],_=>rfl
 |z::l,h=>by
  have h1:=h z JZ;show((z.toNat:Nat):Int)::Vbcnai.ints (nats l)=z::l;rw[pW λy hy=>h y (JW _ hy),Int.toNat_of_nonneg h1]
theorem dI (l:List Nat):(Vbcnai.ints l).length=l.length:=JQ ..
theorem wG:∀{l:List Int},l.Pairwise (·<·)->(∀z∈l,0<=z)->Up (nats l)
 |[],_,_=>List.Pairwise.nil
 |z::l,h,hp=>by
  obtain⟨h1,h2⟩:=List.pairwise_cons.mp h;refine List.pairwise_cons.mpr ⟨λn hn=>?_,wG h2 λy hy=>hp y (JW _ hy)⟩;obtain⟨y,hy,rfl⟩:=Kr.mp hn;have a:=h1 y hy;have b:=hp z JZ;omega
theorem gk {ns:List Int}{l:List Nat}(hs:ns.Pairwise (·<=·)) (hn:ns.Nodup) (hu:Up l) (h:∀z,z∈ns↔z∈Vbcnai.ints l):ns=Vbcnai.ints l:=by
 have hpos:∀z∈ns,0<=z:=λz hz=>by
  obtain⟨n,_,e⟩:=bJ.mp ((h z).mp hz);omega
 have hlt:ns.Pairwise (·<·):=List.Pairwise.imp (λhab=>by omega) (List.Pairwise.and hs hn);have e:nats ns=l:=sT (wG hlt hpos) hu λy=>by
  constructor
  ·intro hy;obtain⟨z,hz,rfl⟩:=Kr.mp hy;obtain⟨n,hn,e⟩:=bJ.mp ((h z).mp hz);rw[←e,Ko];exact hn
  ·intro hy;exact Kr.mpr ⟨(y:Int),(h _).mpr (aU.mpr hy),Ko y⟩
 rw[←e,pW hpos]
section
variable{α κ:Type} [DecidableEq κ]
structure Ord (lt:κ->κ->Prop):Prop where
 Io:∀a,¬lt a a
 tr:∀a b c,lt a b->lt b c->lt a c
 JM:∀a b,a=b\/lt a b\/lt b a
noncomputable def kI (key:α->κ) (lt:κ->κ->Prop) [DecidableRel lt] (x:α):List α->List α
 |[]=>[x]
 |y::l=>if key x=key y then x::l else if lt (key x) (key y)then x::y::l else y::kI key lt x l
noncomputable def EL (key:α->κ) (lt:κ->κ->Prop) (l:List α):Prop:=l.Pairwise λa b=>lt (key a) (key b)
variable{key:α->κ}{lt:κ->κ->Prop} [DecidableRel lt]
theorem fH (O:Ord lt){x y:α}:∀{l:List α},EL key lt l->(y∈kI key lt x l↔y=x\/(y∈l/\key y≠key x))
 |[],_=>by simp[kI]
 |a::l,h=>by
  obtain⟨h1,h2⟩:=List.pairwise_cons.mp h;unfold kI
  by_cases e:key x=key a
  ·rw[if_pos e,JX,JX];constructor
   ·rintro(q|q)
    ·exact .inl q
    ·exact .inr ⟨.inr q,λz=>O.Io (key a) (by have:=h1 y q;rw[z,e]at this;exact this)⟩
   ·rintro(q|⟨q|q,z⟩)
    ·exact .inl q
    ·exact absurd (q▸e.symm) z
    ·exact .inr q
  ·rw[if_neg e]
   by_cases e2:lt (key x) (key a)
   ·rw[if_pos e2,JX];constructor
    ·rintro(q|q)
     ·exact .inl q
     ·refine .inr ⟨q,λz=>?_⟩;rcases JX.mp q with q|q
      ·exact e (q▸z.symm)
      ·exact O.Io _ (O.tr _ _ _ e2 (z▸h1 y q))
    ·rintro(q|q)
     ·exact .inl q
     ·exact .inr q.1
   ·rw[if_neg e2,JX,fH O h2,JX];constructor
    ·rintro(q|q|q)
     ·exact .inr ⟨.inl q,λz=>e (by rw[←z,q])⟩
     ·exact .inl q
     ·exact .inr ⟨.inr q.1,q.2⟩
    ·rintro(q|⟨q|q,z⟩)
     ·exact .inr (.inl q)
     ·exact .inl q
     ·exact .inr (.inr ⟨q,z⟩)
theorem kJ (O:Ord lt){x:α}:∀{l:List α},EL key lt l->EL key lt (kI key lt x l)
 |[],_=>List.pairwise_singleton ..
 |a::l,h=>by
  obtain⟨h1,h2⟩:=List.pairwise_cons.mp h;unfold kI
  by_cases e:key x=key a
  ·rw[if_pos e];exact List.pairwise_cons.mpr ⟨λb hb=>by rw[e];exact h1 b hb,h2⟩
  ·rw[if_neg e]
   by_cases e2:lt (key x) (key a)
   ·rw[if_pos e2];refine List.pairwise_cons.mpr ⟨λb hb=>?_,h⟩;rcases JX.mp hb with q|q
    ·rw[q];exact e2
    ·exact O.tr _ _ _ e2 (h1 b q)
   ·rw[if_neg e2];refine List.pairwise_cons.mpr ⟨λb hb=>?_,kJ O h2⟩;rcases(fH O h2).mp hb with q|q
    ·rw[q];rcases O.JM (key x) (key a)with z|z|z
     ·exact absurd z e
     ·exact absurd z e2
     ·exact z
    ·exact h1 b q.1
theorem find_key {l:List α}(O:Ord lt) (h:EL key lt l){y:α}(hy:y∈l):l.find? (λz=>decide (key z=key y))=some y:=by
 induction l with
 |nil=>exact nomatch hy
 |cons a l ih=>
  obtain⟨h1,h2⟩:=List.pairwise_cons.mp h;rcases JX.mp hy with q|q
  ·rw[q,List.find?_cons,J1 rfl]
  ·have:¬key a=key y:=λz=>O.Io _ (z▸h1 y q);rw[List.find?_cons,J9 this];exact ih h2 q
theorem find_none {l:List α}{k:κ}(h:∀z∈l,key z≠k):l.find? (λz=>decide (key z=k))=none:=by
 rw[List.find?_eq_none];intro z hz q;exact h z hz (J0 q)
theorem find_some {l:List α}{k:κ}{x:α}(h:l.find? (λz=>decide (key z=k))=some x):x∈l/\key x=k:=⟨List.mem_of_find?_eq_some h,J0 (List.find?_some (p:=λz=>decide (key z=k)) h)⟩
theorem pX (O:Ord lt){l:List α}(h:EL key lt l) (x:α) (k:κ):(kI key lt x l).find? (λz=>decide (key z=k))=if k=key x then some x else l.find? λz=>decide (key z=k):=by
 have hs:=kJ (x:=x) O h
 by_cases e:k=key x
 ·rw[if_pos e,e];exact find_key O hs ((fH O h).mpr (.inl rfl))
 ·rw[if_neg e];cases q:l.find? (λz=>decide (key z=k))with
  |none=>
   refine find_none λz hz y=>?_;rcases(fH O h).mp hz with r|r
   ·exact e (by rw[←y,r])
   ·have:=List.find?_eq_none.mp q z r.1;exact this (J1 y)
  |some y=>
   obtain⟨h1,h2⟩:=find_some q;have:=find_key O hs ((fH O h).mpr (.inr ⟨h1,λz=>e (h2.symm.trans z)⟩));rw[h2]at this;exact this
theorem oq (O:Ord lt){x:α}:∀{l:List α},(kI key lt x l).length<=l.length+1
 |[]=>J3 _
 |a::l=>by
  unfold kI;have ih:=oq (x:=x) O (l:=l);split
  ·simp
  ·split
   ·simp
   ·simp only[Kb];omega
theorem jA (O:Ord lt){x:α}:∀{l:List α},EL key lt l->(∃y∈l,key y=key x)->(kI key lt x l).length=l.length
 |[],_,⟨y,hy,_⟩=>nomatch hy
 |a::l,h,⟨y,hy,e⟩=>by
  obtain⟨h1,h2⟩:=List.pairwise_cons.mp h;unfold kI;split
  ·rfl
  ·rename_i n;rcases JX.mp hy with q|q
   ·exact absurd (q▸e.symm) n
   ·have l1:=h1 y q;rw[e]at l1;rw[if_neg (λz=>O.Io _ (O.tr _ _ _ z l1)),Kb,jA O h2 ⟨y,q,e⟩,Kb]
end
theorem dX:Ord (λa b:Nat=>a<b):=⟨Nat.lt_irrefl,λ_ _ _=>Nat.lt_trans,λa b=>by omega⟩
noncomputable def lex (a b:Nat×Nat):Prop:=a.1<b.1\/(a.1=b.1/\a.2<b.2)
instance:DecidableRel lex:=λa b=>by unfold lex;infer_instance
theorem lT:Ord lex:=⟨λa h=>by unfold lex at h;omega,λa b c h1 h2=>by unfold lex at*;omega,λa b=>by
 unfold lex
 by_cases h:a.1=b.1
 ·by_cases h2:a.2=b.2
  ·exact .inl (Prod.ext h h2)
  ·right;omega
 ·right;omega⟩
theorem gF (x:Host):∀l,putHost x l=kI Host.id (λa b:Nat=>a<b) x l
 |[]=>rfl
 |y::l=>by
  unfold putHost kI;rw[gF x l]
theorem i9 (x:Has):∀l,putHas x l=kI Has.group (λa b:Nat=>a<b) x l
 |[]=>rfl
 |y::l=>by
  unfold putHas kI;rw[i9 x l]
noncomputable def fc (e:Entry):Nat×Nat:=(e.group,e.host)
theorem fI (x:Entry):∀l,putEntry x l=kI fc lex x l
 |[]=>rfl
 |y::l=>by
  unfold putEntry kI;rw[fI x l];have e1:(x.group=y.group/\x.host=y.host)↔fc x=fc y:=by
   unfold fc;rw[Prod.mk.injEq]
  by_cases h:fc x=fc y
  ·rw[if_pos (e1.mpr h),if_pos h]
  ·rw[if_neg (λz=>h (e1.mp z)),if_neg h];rfl
noncomputable abbrev Fw (l:List Host):Prop:=EL Host.id (λa b:Nat=>a<b) l
noncomputable abbrev G9 (l:List Has):Prop:=EL Has.group (λa b:Nat=>a<b) l
noncomputable abbrev Fx (l:List Entry):Prop:=EL fc lex l
theorem ja (s:State) (n:Nat):hostOf s n=s.hosts.find? λx=>decide (x.id=n):=by
 unfold hostOf
 congr 1
theorem kK (x:Host) (n:Nat):hasOf x n=x.has.find? λy=>decide (y.group=n):=by
 unfold hasOf
 congr 1
theorem d6 (s:State) (g h:Nat):entryOf s g h=s.entries.find? λe=>decide (fc e=(g,h)):=by
 unfold entryOf
 congr 1
 funext e
 unfold fc;rw[Bool.eq_iff_iff,JS,JT,beq_iff_eq,beq_iff_eq,Prod.mk.injEq]
noncomputable def df (x:Plain):Nat×Nat:=(x.port,x.group)
theorem eK {x y:Plain}:∀{l:List Plain},(l.map df).Nodup->(y∈putPlain x l↔y=x\/(y∈l/\df y≠df x))
 |[],_=>by simp[putPlain]
 |a::l,h=>by
  obtain⟨h1,h2⟩:=Kx.mp h;unfold putPlain
  by_cases e:x.port=a.port/\x.group=a.group
  ·have e':df x=df a:=by unfold df;rw[e.1,e.2]
   rw[if_pos e,JX,JX];constructor
   ·rintro(q|q)
    ·exact .inl q
    ·exact .inr ⟨.inr q,λz=>h1 (Kr.mpr ⟨y,q,by rw[z,e']⟩)⟩
   ·rintro(q|⟨q|q,z⟩)
    ·exact .inl q
    ·exact absurd (q▸e'.symm) z
    ·exact .inr q
  ·have e':¬df x=df a:=λz=>e (by unfold df at z;rw[Prod.mk.injEq]at z;exact z);rw[if_neg e,JX,eK h2,JX];constructor
   ·rintro(q|q|q)
    ·exact .inr ⟨.inl q,λz=>e' (by rw[←z,q])⟩
    ·exact .inl q
    ·exact .inr ⟨.inr q.1,q.2⟩
   ·rintro(q|⟨q|q,z⟩)
    ·exact .inr (.inl q)
    ·exact .inl q
    ·exact .inr (.inr ⟨q,z⟩)
theorem kL {x:Plain}:∀{l:List Plain},(l.map df).Nodup->((putPlain x l).map df).Nodup
 |[],_=>by simp[putPlain]
 |a::l,h=>by
  obtain⟨h1,h2⟩:=Kx.mp h;unfold putPlain
  by_cases e:x.port=a.port/\x.group=a.group
  ·have e':df x=df a:=by unfold df;rw[e.1,e.2]
   rw[if_pos e];refine Kx.mpr ⟨by rw[e'];exact h1,h2⟩
  ·have e':¬df x=df a:=λz=>e (by unfold df at z;rw[Prod.mk.injEq]at z;exact z);rw[if_neg e];refine Kx.mpr ⟨λm=>?_,kL h2⟩;obtain⟨z,hz,ez⟩:=Kr.mp m;rcases(eK h2).mp hz with q|q
   ·exact e' (by rw[←ez,q])
   ·exact h1 (Kr.mpr ⟨z,q.1,ez⟩)
theorem A4 {α κ:Type} [DecidableEq κ] {key:α->κ}{l:List α}(h:(l.map key).Nodup){y:α}(hy:y∈l):l.find? (λz=>decide (key z=key y))=some y:=by
 induction l with
 |nil=>exact nomatch hy
 |cons a l ih=>
  obtain⟨h1,h2⟩:=Kx.mp h;rcases JX.mp hy with q|q
  ·rw[q,List.find?_cons,J1 rfl]
  ·have:¬key a=key y:=λz=>h1 (Kr.mpr ⟨y,q,z.symm⟩);rw[List.find?_cons,J9 this];exact ih h2 q
theorem uG {l:List Plain}(h:(l.map df).Nodup) (x:Plain) (k:Nat×Nat):(putPlain x l).find? (λz=>decide (df z=k))=if k=df x then some x else l.find? λz=>decide (df z=k):=by
 have hs:=kL (x:=x) h
 by_cases e:k=df x
 ·rw[if_pos e,e];exact A4 hs ((eK h).mpr (.inl rfl))
 ·rw[if_neg e];cases q:l.find? (λz=>decide (df z=k))with
  |none=>
   refine find_none λz hz y=>?_;rcases(eK h).mp hz with r|r
   ·exact e (by rw[←y,r])
   ·have:=List.find?_eq_none.mp q z r.1;exact this (J1 y)
  |some y=>
   obtain⟨h1,h2⟩:=find_some q;have:=A4 hs ((eK h).mpr (.inr ⟨h1,λz=>e (h2.symm.trans z)⟩));rw[h2]at this;exact this
theorem ou {x:Plain}:∀{l:List Plain},(putPlain x l).length<=l.length+1
 |[]=>J3 _
 |a::l=>by
  unfold putPlain;have ih:=ou (x:=x) (l:=l);split
  ·simp
  ·simp only[Kb];omega
end Mx
namespace Gs
open PySem PySem.Spec PyProof.Rows L2
noncomputable def top (i:Nat):Stmt:=PySem.Challenge.pw_groupsnoop_s01_answers.main.body.getD i (.Pass ⟨0,0,0,0⟩)
noncomputable abbrev l8:Stmt:=inClass (top 2) 0
theorem sU:aq ["self","host","port","group","serial","sent","step"] ["self","host","port","group","serial","sent","step"] (ai l8):=sk (by decide+kernel)
noncomputable abbrev ow:Stmt:=inClass (top 3) 0
theorem uH:aq ["self","port","group"] ["self","port","group"] (ai ow):=sk (by decide+kernel)
noncomputable abbrev sV:Stmt:=top 17
theorem yo:aq ["number"] ["number"] (ai sV):=sk (by decide+kernel)
noncomputable abbrev sW:Stmt:=top 18
theorem yp:aq ["group"] ["group"] (ai sW):=sk (by decide+kernel)
noncomputable abbrev qL:Stmt:=top 19
theorem wH:aq ["number"] ["number"] (ai qL):=sk (by decide+kernel)
noncomputable abbrev vt:Stmt:=top 20
theorem zR:aq ["number"] ["number"] (ai vt):=sk (by decide+kernel)
noncomputable abbrev yq:Stmt:=top 21
theorem vv:aq ["numbers","before","number"] ["numbers"] (ai yq):=sk (by decide+kernel)
noncomputable abbrev vw:Stmt:=top 30
theorem zS:aq ["number"] ["number"] (ai vw):=sk (by decide+kernel)
noncomputable abbrev qM:Stmt:=top 31
theorem wI:aq ["want"] ["want"] (ai qM):=sk (by decide+kernel)
noncomputable abbrev ox:Stmt:=top 32
theorem uI:aq ["want","source"] ["want","source"] (ai ox):=sk (by decide+kernel)
noncomputable abbrev yr:Stmt:=top 33
theorem BY:aq ["step"] ["step"] (ai yr):=sk (by decide+kernel)
noncomputable abbrev qN:Stmt:=top 34
theorem oy:aq ["step","want","mode"] ["step","want"] (ai qN):=sk (by decide+kernel)
noncomputable abbrev yt:Stmt:=top 35
theorem vx:aq ["wants","allowed","unwanted","want","source"] ["wants"] (ai yt):=sk (by decide+kernel)
noncomputable abbrev j4:Stmt:=top 36
theorem jb:aq ["one","other","come","gone"] ["one","other"] (ai j4):=sk (by decide+kernel)
noncomputable abbrev oz:Stmt:=top 37
theorem l9:aq ["allowed","blocked","step"] ["allowed","blocked"] (ai oz):=sk (by decide+kernel)
noncomputable abbrev vy:Stmt:=top 38
theorem sX:aq ["sources","others"] ["sources","others"] (ai vy):=sk (by decide+kernel)
noncomputable abbrev qO:Stmt:=inClass (top 41) 0
theorem wJ:aq ["self","number"] ["self","number"] (ai qO):=sk (by decide+kernel)
noncomputable abbrev kM:Stmt:=inClass (top 41) 1
theorem rE:aq ["self","group"] ["self","group"] (ai kM):=sk (by decide+kernel)
noncomputable abbrev j5:Stmt:=inClass (top 41) 2
theorem pY:aq ["self","group"] ["self","group"] (ai j5):=sk (by decide+kernel)
noncomputable abbrev oA:Stmt:=inClass (top 43) 0
theorem uJ:aq ["self","port","serial","want","until"] ["self","port","serial","want","until"] (ai oA):=sk (by decide+kernel)
noncomputable abbrev ma:Stmt:=inClass (top 44) 0
theorem sY:aq ["self","most_entries"] ["self","most_entries"] (ai ma):=sk (by decide+kernel)
noncomputable abbrev g9:Stmt:=inClass (top 44) 1
theorem ng:aq ["self"] ["self"] (ai g9):=sk (by decide+kernel)
noncomputable abbrev eL:Stmt:=inClass (top 44) 2
theorem eF:aq ["self","now","key"] ["self","now"] (ai eL):=sk (by decide+kernel)
noncomputable abbrev jc:Stmt:=inClass (top 44) 3
theorem oB:aq ["self","now"] ["self","now"] (ai jc):=sk (by decide+kernel)
noncomputable abbrev j6:Stmt:=inClass (top 44) 4
theorem pZ:aq ["self"] ["self"] (ai j6):=sk (by decide+kernel)
noncomputable abbrev j7:Stmt:=inClass (top 44) 5
theorem jd:aq ["self","port","group","wants","key"] ["self","port","group"] (ai j7):=sk (by decide+kernel)
noncomputable abbrev eM:Stmt:=inClass (top 44) 6
theorem eG:aq ["self","port","groups","key","group"] ["self","port"] (ai eM):=sk (by decide+kernel)
noncomputable abbrev kN:Stmt:=inClass (top 44) 7
theorem rF:aq ["self","port","group","source"] ["self","port","group","source"] (ai kN):=sk (by decide+kernel)
noncomputable abbrev qP:Stmt:=top 45
theorem oC:aq ["times","now","key"] ["times","now"] (ai qP):=sk (by decide+kernel)
noncomputable abbrev sZ:Stmt:=inClass (top 47) 0
theorem yu:aq ["self","ports","me","stay","every","last","most_messages","most_entries"] ["self","ports","me","stay","every","last","most_messages","most_entries"] (ai sZ):=sk (by decide+kernel)
noncomputable abbrev kO:Stmt:=inClass (top 47) 1
theorem rG:aq ["self","port"] ["self","port"] (ai kO):=sk (by decide+kernel)
noncomputable abbrev hE:Stmt:=inClass (top 47) 2
theorem nh:aq ["self","place"] ["self","place"] (ai hE):=sk (by decide+kernel)
noncomputable abbrev hX:Stmt:=inClass (top 47) 3
theorem ni:aq ["self"] ["self"] (ai hX):=sk (by decide+kernel)
noncomputable abbrev tj:Stmt:=inClass (top 47) 4
theorem yw:aq ["self","message"] ["self","message"] (ai tj):=sk (by decide+kernel)
noncomputable abbrev md:Stmt:=inClass (top 47) 5
theorem tm:aq ["self","until"] ["self","until"] (ai md):=sk (by decide+kernel)
noncomputable abbrev kP:Stmt:=inClass (top 47) 6
theorem j8:aq ["self","port","number"] ["self","port"] (ai kP):=sk (by decide+kernel)
noncomputable abbrev DG:Stmt:=top 48
theorem A5:aq ["net","host","group","step","serial"] ["net","host","group","step"] (ai DG):=sk (by decide+kernel)
noncomputable abbrev yx:Stmt:=top 49
theorem BZ:aq ["net","host","group"] ["net","host","group"] (ai yx):=sk (by decide+kernel)
noncomputable abbrev oE:Stmt:=top 50
theorem mf:aq ["net","host","group"] ["net","host"] (ai oE):=sk (by decide+kernel)
noncomputable abbrev qQ:Stmt:=top 52
theorem wK:aq ["net","message"] ["net","message"] (ai qQ):=sk (by decide+kernel)
noncomputable abbrev mh:Stmt:=top 53
theorem kQ:aq ["net","report","entry"] ["net","report"] (ai mh):=sk (by decide+kernel)
noncomputable abbrev mi:Stmt:=top 54
theorem tq:aq ["net","report"] ["net","report"] (ai mi):=sk (by decide+kernel)
noncomputable abbrev mj:Stmt:=top 55
theorem tu:aq ["net","entry","report"] ["net","entry","report"] (ai mj):=sk (by decide+kernel)
noncomputable abbrev vz:Stmt:=top 56
theorem zT:aq ["report","entry"] ["report","entry"] (ai vz):=sk (by decide+kernel)
noncomputable abbrev qR:Stmt:=top 57
theorem oF:aq ["net","report","want","switch","until"] ["net","report","want"] (ai qR):=sk (by decide+kernel)
noncomputable abbrev tw:Stmt:=top 58
theorem yy:aq ["net","report"] ["net","report"] (ai tw):=sk (by decide+kernel)
noncomputable abbrev oG:Stmt:=top 59
theorem ml:aq ["net","query","host"] ["net","query"] (ai oG):=sk (by decide+kernel)
noncomputable abbrev kR:Stmt:=top 61
theorem rH:aq ["net","place"] ["net","place"] (ai kR):=sk (by decide+kernel)
noncomputable abbrev qS:Stmt:=top 62
theorem wL:aq ["net","place"] ["net","place"] (ai qS):=sk (by decide+kernel)
noncomputable abbrev mm:Stmt:=top 63
theorem tD:aq ["net","place"] ["net","place"] (ai mm):=sk (by decide+kernel)
noncomputable abbrev oH:Stmt:=top 67
theorem uK:aq ["want"] ["want"] (ai oH):=sk (by decide+kernel)
noncomputable abbrev oI:Stmt:=top 68
theorem uM:aq ["step"] ["step"] (ai oI):=sk (by decide+kernel)
noncomputable abbrev j9:Stmt:=top 69
theorem je:aq ["message","start"] ["message"] (ai j9):=sk (by decide+kernel)
noncomputable abbrev vA:Stmt:=top 70
theorem zU:aq ["numbers"] ["numbers"] (ai vA):=sk (by decide+kernel)
noncomputable abbrev oJ:Stmt:=top 72
theorem mn:aq ["net","port","group","source","ports","other"] ["net","port","group","source"] (ai oJ):=sk (by decide+kernel)
noncomputable abbrev yz:Stmt:=top 73
theorem vB:aq ["net","ports","group","source","number"] ["net","ports","group","source"] (ai yz):=sk (by decide+kernel)
noncomputable abbrev A6:Stmt:=top 74
theorem DH:aq ["host","ports","group","source"] ["host","ports","group","source"] (ai A6):=sk (by decide+kernel)
noncomputable abbrev qT:Stmt:=top 76
theorem oK:aq ["net","number","port","host"] ["net","number","port"] (ai qT):=sk (by decide+kernel)
noncomputable abbrev mq:Stmt:=top 77
theorem kS:aq ["net","number","host"] ["net","number"] (ai mq):=sk (by decide+kernel)
noncomputable abbrev qU:Stmt:=top 78
theorem oM:aq ["net","number","group","mode","sources","refusal"] ["net","number","group","mode","sources"] (ai qU):=sk (by decide+kernel)
noncomputable abbrev qV:Stmt:=top 79
theorem wM:aq ["net","number","group","sources"] ["net","number","group","sources"] (ai qV):=sk (by decide+kernel)
noncomputable abbrev qW:Stmt:=top 80
theorem wN:aq ["net","number","group","sources"] ["net","number","group","sources"] (ai qW):=sk (by decide+kernel)
noncomputable abbrev mr:Stmt:=top 81
theorem kT:aq ["net","number","group","kind","sources","refusal","host","step"] ["net","number","group","kind","sources"] (ai mr):=sk (by decide+kernel)
noncomputable abbrev hZ:Stmt:=top 82
theorem nj:aq ["net","number","group","well_formed"] ["net","number","group","well_formed"] (ai hZ):=sk (by decide+kernel)
noncomputable abbrev qX:Stmt:=inClass (top 84) 0
theorem wO:aq ["self"] ["self"] (ai qX):=sk (by decide+kernel)
noncomputable abbrev oN:Stmt:=top 85
theorem mw:aq ["line","ports","me","stay","every","last","bag","entries","seconds"] ["line","ports","me","stay","every","last","bag","entries"] (ai oN):=sk (by decide+kernel)
noncomputable abbrev mx:Stmt:=top 87
theorem tE:aq ["net","port","group"] ["net","port","group"] (ai mx):=sk (by decide+kernel)
noncomputable abbrev my:Stmt:=top 88
theorem kU:aq ["net","group","port"] ["net","group"] (ai my):=sk (by decide+kernel)
noncomputable abbrev oO:Stmt:=top 89
theorem mz:aq ["net","host","group","entry"] ["net","host","group"] (ai oO):=sk (by decide+kernel)
noncomputable abbrev mB:Stmt:=top 90
theorem kW:aq ["net","number","host","answer","group"] ["net","number"] (ai mB):=sk (by decide+kernel)
noncomputable abbrev tG:Stmt:=top 91
theorem qY:aq ["net","answer","message"] ["net"] (ai tG):=sk (by decide+kernel)
noncomputable abbrev mC:Stmt:=top 92
theorem tH:aq ["net","port"] ["net","port"] (ai mC):=sk (by decide+kernel)
noncomputable abbrev mD:Stmt:=top 93
theorem kX:aq ["net","switch"] ["net"] (ai mD):=sk (by decide+kernel)
noncomputable abbrev qZ:Stmt:=top 95
theorem oP:aq ["net","port","group","switch"] ["net","port","group"] (ai qZ):=sk (by decide+kernel)
noncomputable abbrev oQ:Stmt:=top 96
theorem mE:aq ["net","port","group","plain"] ["net","port","group"] (ai oQ):=sk (by decide+kernel)
noncomputable abbrev kY:Stmt:=top 97
theorem ka:aq ["net","port","number","switch"] ["net","port","number"] (ai kY):=sk (by decide+kernel)
noncomputable abbrev oR:Stmt:=top 98
theorem mF:aq ["net","port","x","switch"] ["net","port","x"] (ai oR):=sk (by decide+kernel)
noncomputable abbrev q0:Stmt:=top 99
theorem oS:aq ["net","n","switch","port"] ["net","n"] (ai q0):=sk (by decide+kernel)
noncomputable abbrev tJ:Stmt:=top 100
theorem yA:aq ["net","port","group"] ["net","port","group"] (ai tJ):=sk (by decide+kernel)
noncomputable abbrev kZ:Stmt:=top 101
theorem rJ:aq ["net"] ["net"] (ai kZ):=sk (by decide+kernel)
noncomputable abbrev oT:Stmt:=top 103
theorem uN:aq ["mode_one","mode_other","one","other"] ["mode_one","mode_other","one","other"] (ai oT):=sk (by decide+kernel)
noncomputable abbrev oU:Stmt:=top 104
theorem mG:aq ["mode_one","mode_other","one","other","steps","answer","step"] ["mode_one","mode_other","one","other"] (ai oU):=sk (by decide+kernel)
noncomputable abbrev rg:Stmt:=top 105
theorem wQ:aq ["mode_one","mode_other","one","other"] ["mode_one","mode_other","one","other"] (ai rg):=sk (by decide+kernel)
noncomputable abbrev mH:Stmt:=inClass (top 108) 0
theorem tK:aq ["self","calls"] ["self","calls"] (ai mH):=sk (by decide+kernel)
noncomputable abbrev kb:Stmt:=inClass (top 108) 1
theorem qa:aq ["self"] ["self"] (ai kb):=sk (by decide+kernel)
noncomputable abbrev mI:Stmt:=inClass (top 108) 2
theorem k5:aq ["self","how_many","start"] ["self","how_many"] (ai mI):=sk (by decide+kernel)
noncomputable abbrev fJ:Stmt:=inClass (top 108) 3
theorem kl:aq ["self"] ["self"] (ai fJ):=sk (by decide+kernel)
noncomputable abbrev ia:Stmt:=inClass (top 108) 4
theorem nk:aq ["self"] ["self"] (ai ia):=sk (by decide+kernel)
noncomputable abbrev cZ:Stmt:=top 109
theorem zV:aq ["calls"] ["calls"] (ai cZ):=sk (by decide+kernel)
noncomputable abbrev Ge:Stmt:=top 110
theorem DI:aq ["line","calls","reader","given","answer"] ["line","calls"] (ai Ge):=sk (by decide+kernel)
noncomputable abbrev mJ:Stmt:=top 111
theorem k6:aq ["line","reader","call","shape","numbers","rows"] ["line","reader"] (ai mJ):=sk (by decide+kernel)
noncomputable abbrev kd:Stmt:=top 112
theorem qb:aq ["net","call","numbers","rows"] ["net","call","numbers","rows"] (ai kd):=sk (by decide+kernel)
noncomputable abbrev jf:Stmt:=top 113
theorem oV:aq ["net","call","numbers","rows"] ["net","call","numbers","rows"] (ai jf):=sk (by decide+kernel)
noncomputable abbrev gG:Stmt:=top 114
theorem lW:aq ["net","call","numbers"] ["net","call","numbers"] (ai gG):=sk (by decide+kernel)
noncomputable abbrev ke:Stmt:=top 115
theorem qc:aq ["net","call","numbers"] ["net","call","numbers"] (ai ke):=sk (by decide+kernel)
noncomputable abbrev gH:Stmt:=top 116
theorem lX:aq ["net","call","numbers"] ["net","call","numbers"] (ai gH):=sk (by decide+kernel)
noncomputable abbrev jg:Stmt:=top 117
theorem oW:aq ["net","call","numbers"] ["net","call","numbers"] (ai jg):=sk (by decide+kernel)
structure Cs where
 bc:Addr
 Query:Addr
 Host:Addr
 Entry:Addr
 Switch:Addr
 Net:Addr
 Line:Addr
 Reader:Addr
 wR:Addr
 jB:Addr
 DJ:Addr
structure Txt (K:PySem.W.Frag) (mg:Str->Option Value) (c:Cs):Prop where
 dJ:mg "len"=none
 dg:mg "sorted"=none
 oX:mg "set"=none
 dY:mg "tuple"=none
 tL:mg "list"=none
 DK:mg "max"=none
 DL:mg "min"=none
 gb:mg "isinstance"=none
 oY:mg "range"=none
 eO:∃t,mg "ALL_GROUPS"=some (.int (-1) t)
 jC:∃t,mg "LAST_GROUP"=some (.int (268435455) t)
 iG:∃t,mg "LAST_SOURCE"=some (.int (4294967295) t)
 ib:∃t,mg "LAST_TIME"=some (.int (4611686018427387904) t)
 d7:∃t,mg "LAST_LOCAL_GROUP"=some (.int (255) t)
 k7:∃t,mg "LAST_HOST"=some (.int (65535) t)
 jD:∃t,mg "MOST_HOSTS"=some (.int (256) t)
 c7:∃t,mg "MOST_GROUPS_OF_HOST"=some (.int (64) t)
 fC:∃t,mg "MOST_LISTED"=some (.int (64) t)
 jE:∃t,mg "MOST_PORTS"=some (.int (64) t)
 gJ:∃t,mg "MOST_SECONDS"=some (.int (1000000) t)
 fS:∃t,mg "MOST_MESSAGES"=some (.int (1024) t)
 gK:∃t,mg "MOST_ENTRIES"=some (.int (4096) t)
 k8:∃t,mg "ONLY"=some (.int (0) t)
 A7:∃t,mg "BUT"=some (.int (1) t)
 jh:mg "NOTHING"=some (.ref c.wR)
 jF:mg "EVERYTHING"=some (.ref c.jB)
 vC:∃t,mg "SET"=some (.int (0) t)
 oZ:∃t,mg "ALLOW"=some (.int (1) t)
 rZ:∃t,mg "BLOCK"=some (.int (2) t)
 fk:∃t,mg "NO_PORT"=some (.int (-1) t)
 tM:∃t,mg "REPORT"=some (.int (0) t)
 wU:∃t,mg "QUERY"=some (.int (1) t)
 tN:mg "SHAPES"=some (.ref c.DJ)
 c0:ay K c.bc "host"
 cE:ay K c.bc "port"
 cc:ay K c.bc "group"
 bY:ay K c.bc "serial"
 c4:ay K c.bc "sent"
 fD:ay K c.bc "step"
 eP:ay K c.Query "port"
 c5:ay K c.Query "group"
 fE:ay K c.Host "number"
 bo:ay K c.Host "port"
 bw:ay K c.Host "wants"
 cf:ay K c.Host "serials"
 cP:ay K c.Entry "port"
 cI:ay K c.Entry "serial"
 eQ:ay K c.Entry "want"
 dM:ay K c.Entry "until"
 cq:ay K c.Switch "most_entries"
 aJ:ay K c.Switch "entries"
 aV:ay K c.Switch "plain"
 cJ:ay K c.Switch "fixed"
 cg:ay K c.Switch "heard"
 bZ:ay K c.Switch "silent"
 bh:ay K c.Switch "next_query"
 di:ay K c.Net "ports"
 k9:ay K c.Net "me"
 dj:ay K c.Net "stay"
 ic:ay K c.Net "every"
 jG:ay K c.Net "last"
 cH:ay K c.Net "most_messages"
 bA:ay K c.Net "now"
 aZ:ay K c.Net "hosts"
 aN:ay K c.Net "switch"
 cy:ay K c.Net "bag"
 gL:ay K c.Net "lost"
 fm:ay K c.Net "full"
 d8:ay K c.Line "net"
 dk:ay K c.Reader "calls"
 cj:ay K c.Reader "place"
 bE:DD K mg c.bc "Report" "Report.__init__" l8 ["self","host","port","group","serial","sent","step"]
 cD:DD K mg c.Query "Query" "Query.__init__" ow ["self","port","group"]
 nu:c8 K mg "is_group" sV ["number"]
 nv:c8 K mg "is_local" sW ["group"]
 lb:c8 K mg "is_source" qL ["number"]
 qe:c8 K mg "is_host" vt ["number"]
 tO:c8 K mg "is_row" yq ["numbers"]
 qf:c8 K mg "is_mode" vw ["number"]
 lg:c8 K mg "listed_in" qM ["want"]
 jH:c8 K mg "has_source" ox ["want","source"]
 tP:c8 K mg "is_set" yr ["step"]
 lh:c8 K mg "want_made" qN ["step","want"]
 tQ:c8 K mg "merged" yt ["wants"]
 fT:c8 K mg "steps_between" j4 ["one","other"]
 jI:c8 K mg "steps_with" oz ["allowed","blocked"]
 qh:c8 K mg "without" vy ["sources","others"]
 a8:DD K mg c.Host "Host" "Host.__init__" qO ["self","number"]
 gM:uy K c.Host "want_of" "Host.want_of" kM ["self","group"]
 fU:uy K c.Host "can_keep" "Host.can_keep" j5 ["self","group"]
 cQ:DD K mg c.Entry "Entry" "Entry.__init__" oA ["self","port","serial","want","until"]
 aL:DD K mg c.Switch "Switch" "Switch.__init__" ma ["self","most_entries"]
 eR:uy K c.Switch "has_room" "Switch.has_room" g9 ["self"]
 cR:uy K c.Switch "drop_outdated" "Switch.drop_outdated" eL ["self","now"]
 fo:uy K c.Switch "may_ask" "Switch.may_ask" jc ["self","now"]
 fV:uy K c.Switch "forget" "Switch.forget" j6 ["self"]
 fW:uy K c.Switch "record" "Switch.record" j7 ["self","port","group"]
 cS:uy K c.Switch "groups_wanted" "Switch.groups_wanted" eM ["self","port"]
 gN:uy K c.Switch "gives" "Switch.gives" kN ["self","port","group","source"]
 lj:c8 K mg "drop_past" qP ["times","now"]
 aA:DD K mg c.Net "Net" "Net.__init__" sZ ["self","ports","me","stay","every","last","most_messages","most_entries"]
 gO:uy K c.Net "has_port" "Net.has_port" kO ["self","port"]
 eS:uy K c.Net "has_message" "Net.has_message" hE ["self","place"]
 eU:uy K c.Net "bag_is_full" "Net.bag_is_full" hX ["self"]
 nz:uy K c.Net "send" "Net.send" tj ["self","message"]
 iH:uy K c.Net "rest_of" "Net.rest_of" md ["self","until"]
 gP:uy K c.Net "hosts_at" "Net.hosts_at" kP ["self","port"]
 zW:c8 K mg "tell" DG ["net","host","group","step"]
 tR:c8 K mg "retell" yx ["net","host","group"]
 jJ:c8 K mg "retell_all" oE ["net","host"]
 lp:c8 K mg "hand_over" qQ ["net","message"]
 iI:c8 K mg "hand_report" mh ["net","report"]
 iJ:c8 K mg "begin_entry" mi ["net","report"]
 iK:c8 K mg "renew_entry" mj ["net","entry","report"]
 qi:c8 K mg "follows" vz ["report","entry"]
 lq:c8 K mg "put_entry" qR ["net","report","want"]
 nD:c8 K mg "ask_back" tw ["net","report"]
 jK:c8 K mg "hand_query" oG ["net","query"]
 gQ:c8 K mg "call_deliver" kR ["net","place"]
 lr:c8 K mg "call_lose" qS ["net","place"]
 iL:c8 K mg "call_double" mm ["net","place"]
 jL:c8 K mg "want_shown" oH ["want"]
 jM:c8 K mg "step_shown" oI ["step"]
 fX:c8 K mg "message_shown" j9 ["message"]
 qj:c8 K mg "counted" vA ["numbers"]
 jN:c8 K mg "call_frame" oJ ["net","port","group","source"]
 tS:c8 K mg "takers" yz ["net","ports","group","source"]
 wV:c8 K mg "takes" A6 ["host","ports","group","source"]
 lu:c8 K mg "call_host" qT ["net","number","port"]
 iM:c8 K mg "call_unhost" mq ["net","number"]
 ly:c8 K mg "call_want" qU ["net","number","group","mode","sources"]
 lz:c8 K mg "call_more" qV ["net","number","group","sources"]
 lA:c8 K mg "call_less" qW ["net","number","group","sources"]
 iN:c8 K mg "change_want" mr ["net","number","group","kind","sources"]
 eV:c8 K mg "telling_refused" hZ ["net","number","group","well_formed"]
 cN:DD K mg c.Line "Line" "Line.__init__" qX ["self"]
 jO:c8 K mg "call_begin" oN ["line","ports","me","stay","every","last","bag","entries"]
 iO:c8 K mg "call_record" mx ["net","port","group"]
 iP:c8 K mg "call_upward" my ["net","group"]
 jP:c8 K mg "call_entry" oO ["net","host","group"]
 iQ:c8 K mg "call_hostof" mB ["net","number"]
 nE:c8 K mg "call_bag" tG ["net"]
 iR:c8 K mg "call_groups" mC ["net","port"]
 iS:c8 K mg "call_counts" mD ["net"]
 lB:c8 K mg "call_join" qZ ["net","port","group"]
 jQ:c8 K mg "call_leave" oQ ["net","port","group"]
 gR:c8 K mg "call_foreign" kY ["net","port","number"]
 jR:c8 K mg "call_asker" oR ["net","port","x"]
 lC:c8 K mg "call_tick" q0 ["net","n"]
 nG:c8 K mg "call_ask" tJ ["net","port","group"]
 gS:c8 K mg "call_restart" kZ ["net"]
 jS:c8 K mg "call_merge" oT ["mode_one","mode_other","one","other"]
 jT:c8 K mg "call_steps" oU ["mode_one","mode_other","one","other"]
 lD:c8 K mg "are_wants" rg ["mode_one","mode_other","one","other"]
 c6:DD K mg c.Reader "Reader" "Reader.__init__" mH ["self","calls"]
 fY:uy K c.Reader "at_end" "Reader.at_end" kb ["self"]
 iT:uy K c.Reader "take" "Reader.take" mI ["self","how_many"]
 dm:uy K c.Reader "take_number" "Reader.take_number" fJ ["self"]
 eW:uy K c.Reader "take_row" "Reader.take_row" ia ["self"]
 vD:c8 K mg "answers" cZ ["calls"]
 DM:c8 K mg "run" Ge ["line","calls"]
 iU:c8 K mg "next_answer" mJ ["line","reader"]
 fZ:c8 K mg "answer_of_net" kd ["net","call","numbers","rows"]
 fq:c8 K mg "answer_of_host" jf ["net","call","numbers","rows"]
 d9:c8 K mg "answer_of_switch" gG ["net","call","numbers"]
 f6:c8 K mg "answer_of_bag" ke ["net","call","numbers"]
 eu:c8 K mg "answer_of_asking" gH ["net","call","numbers"]
 ft:c8 K mg "answer_of_look" jg ["net","call","numbers"]
theorem cT:bootBuiltins "len"=some (.builtin "len"):=by decide+kernel
theorem dv:bootBuiltins "sorted"=some (.builtin "sorted"):=by decide+kernel
theorem Ha:bootBuiltins "max"=some (.builtin "max"):=by decide+kernel
theorem Hb:bootBuiltins "min"=some (.builtin "min"):=by decide+kernel
theorem mK:bootBuiltins "isinstance"=some (.builtin "isinstance"):=by decide+kernel
theorem nH:bootBuiltins "set"=some (.type "set"):=by decide+kernel
theorem wW:bootBuiltins "list"=some (.type "list"):=by decide+kernel
theorem dN:bootBuiltins "tuple"=some (.type "tuple"):=by decide+kernel
noncomputable def DO (f:Int->Bool):Sp:=λvs H Q _=>∃n,vs=[.int n]/\Q (.bl (f n)) H
section
variable{P:Program}{w:World}{K:PySem.W.Frag}{mg:Str->Option Value}{base:Heap}{c:Cs}
theorem zX {lo hi n:Int}(h:decide (lo<=n)=true):Vbcnai.within n lo hi=decide (n<=hi):=by
 unfold Vbcnai.within;rw[h,Bool.true_and]
theorem B0 {lo hi n:Int}(h:¬decide (lo<=n)=true):Vbcnai.within n lo hi=false:=by
 unfold Vbcnai.within;rw[eq_false_of_ne_true h,Bool.false_and]
theorem eC (T:Txt K mg c):Fn P w K mg base "is_group" 1 ["number"] (DO Vbcnai.isGroup):=by
 refine T.nu.ok yo (λvs H Q E h=>?_) (λf cdv A outer s H vs Q E hr h=>?_)
 ·obtain⟨n,rfl,_⟩:=h;rfl
 ·obtain⟨n,rfl,k⟩:=h;refine⟨_,(ag (aj (ku cB cB ah (pv 0) (bz T.jC)))),?_⟩;unfold Vbcnai.isGroup at k;refine⟨_,rfl,_,_,rfl,rfl,_,rfl,b7 (λh=>⟨_,_,rfl,rfl,?_⟩) (λh=>?_)⟩
  ·rw[zX h]at k;exact k
  ·rw[B0 h]at k;exact k
theorem zY (T:Txt K mg c):Fn P w K mg base "is_local" 1 ["group"] (DO λn=>decide (n<=255)):=by
 refine T.nv.ok yp (λvs H Q E h=>?_) (λf cdv A outer s H vs Q E hr h=>?_)
 ·obtain⟨n,rfl,_⟩:=h;rfl
 ·obtain⟨n,rfl,k⟩:=h;refine⟨_,(ag (aj (cn cB (pv 0) (bz T.d7) (aD _)))),?_⟩;exact⟨_,rfl,_,_,rfl,rfl,k⟩
noncomputable abbrev ck (n:Int):Bool:=Vbcnai.within n 0 4294967295
theorem ig (T:Txt K mg c):Fn P w K mg base "is_source" 1 ["number"] (DO ck):=by
 refine T.lb.ok wH (λvs H Q E h=>?_) (λf cdv A outer s H vs Q E hr h=>?_)
 ·obtain⟨n,rfl,_⟩:=h;rfl
 ·obtain⟨n,rfl,k⟩:=h;refine⟨_,(ag (aj (ku cB cB ah (pv 0) (bz T.iG)))),?_⟩;refine⟨_,rfl,_,_,rfl,rfl,_,rfl,b7 (λh=>⟨_,_,rfl,rfl,?_⟩) (λh=>?_)⟩
  ·rw[ck,zX h]at k;exact k
  ·rw[ck,B0 h]at k;exact k
noncomputable abbrev zZ (n:Int):Bool:=Vbcnai.within n 0 65535
theorem B1 (T:Txt K mg c):Fn P w K mg base "is_host" 1 ["number"] (DO zZ):=by
 refine T.qe.ok zR (λvs H Q E h=>?_) (λf cdv A outer s H vs Q E hr h=>?_)
 ·obtain⟨n,rfl,_⟩:=h;rfl
 ·obtain⟨n,rfl,k⟩:=h;refine⟨_,(ag (aj (ku cB cB ah (pv 0) (bz T.k7)))),?_⟩;refine⟨_,rfl,_,_,rfl,rfl,_,rfl,b7 (λh=>⟨_,_,rfl,rfl,?_⟩) (λh=>?_)⟩
  ·rw[zZ,zX h]at k;exact k
  ·rw[zZ,B0 h]at k;exact k
noncomputable def ij (b:Int):List Int->Bool
 |[]=>true
 |x::l=>decide (b<x)&&(ck x&&ij x l)
theorem lE:∀(b:Int) (l:List Int),ij b l=(Vbcnai.rising (b::l)&&l.all λx=>Vbcnai.within x 0 (2^32 - 1))
 |b,[]=>by simp[ij,Vbcnai.rising]
 |b,x::l=>by
  rw[ij,lE x l,List.all_cons];show _=((decide (b<x)&&Vbcnai.rising (x::l))&&_);have e:Vbcnai.within x 0 (2^32 - 1)=ck x:=rfl;rw[e];cases decide (b<x)<;>cases ck x<;>cases Vbcnai.rising (x::l)<;>simp
theorem DP (l:List Int):Vbcnai.isRow l=(decide (l.length<=64)&&ij (-1) l):=by
 unfold Vbcnai.isRow
 congr 1
 cases l with
 |nil=>rfl
 |cons x l=>
  rw[lE];show _=((decide (-1<x)&&Vbcnai.rising (x::l))&&_)
  by_cases h:(-1:Int)<x
  ·simp[h]
  ·have:Vbcnai.within x 0 (2^32 - 1)=false:=by unfold Vbcnai.within;simp;omega
   rw[List.all_cons,this,J9 h];simp
noncomputable def Ip (K:PySem.W.Frag):Sp:=λvs H Q _=>∃(a:Addr) (ns:List Int),vs=[.ref a]/\ba K H a (ns.map V.int)/\Q (.bl (Vbcnai.isRow ns)) H
theorem DQ {ns:List Int}{i:Nat}{y:V}(hi:(ns.map V.int)[i]? =some y):∃z,ns[i]? =some z/\y=V.int z:=by
 rw[J5]at hi;cases e:ns[i]? with
 |none=>
  rw[e]at hi;cases hi
 |some z=>
  rw[e]at hi;exact⟨z,rfl,(JU hi).symm⟩
theorem o4 (T:Txt K mg c):Fn P w K mg base "is_row" 2 ["numbers"] (Ip K):=by
 refine T.tO.ok vv (λvs H Q E h=>?_) (λf cdv A outer s H vs Q E hr h=>?_)
 ·obtain⟨a,ns,rfl,_⟩:=h;rfl
 ·obtain⟨a,ns,rfl,hS,k⟩:=h;have nd:=vv.nd;refine⟨_,(af (aF (aE xV (aO bu (by rfl) T.dJ cT (aa (pv 0) ae)) (bz T.fC) (aD _))
   (ag (aj vh))
   au)
   (af (aT (i:=1) nd rfl (Or.inl rfl) (br aS ah))
   (af (fQ PassesOwn.never rfl (du (pv 0)) (bH (i:=2) nd rfl (Or.inl rfl))
   (af (aF (PW.pt (qF (aE cB (pv 2) (pv 1) (aD _)) (mT (aX (aR (az (ig T) hr (aa (pv 2) ae)))))))
   (ag (aj vh))
   au)
   (ag (aT (i:=1) nd rfl (Or.inl rfl) (pv 2)))))
   (ag (aj vh))))),?_⟩
  rw[DP]at k;refine⟨_,rfl,a,_,rfl,.inl hS,_,_,rfl,rfl,_,rfl,b7 (λh=>?_) (λh=>?_)⟩
  ·rw[JQ,JT]at h;rw[J9 (show ¬ns.length<=64 by omega)]at k;exact k
  rw[JQ,JT]at h;rw[J1 (show ns.length<=64 by omega),Bool.true_and]at k;refine⟨_,rfl,_,rfl,a,rfl,⟨_,hS⟩,dE (K:=K) (a:=a) (xs:=ns.map V.int) (λi σ H'=>H'=H/\∃(b:Int) (v:Option V),σ=[some (.ref a),some (.int b),v]/\ij (-1) ns=ij b (ns.drop i))
   ⟨rfl,_,none,rfl,rfl⟩ (λi σ H' _ h=>by rw[h.1];exact hS) ?_ ?_⟩
  ·rintro i y σ H' hi ⟨rfl,b,v,rfl,e⟩;obtain⟨z,hz,rfl⟩:=DQ hi;have ed:ns.drop i=z::ns.drop (i+1):=by
    obtain⟨hl,rfl⟩:=J2.mp hz;exact List.drop_eq_getElem_cons hl
   rw[ed,ij]at e;refine⟨_,rfl,_,rfl,_,_,rfl,rfl,_,rfl,b7 (λh=>?_) (λh=>?_)⟩
   ·rw[JT]at h;refine bG ?_;rw[e,J9 (show ¬b<z by omega),Bool.false_and]at k;exact k
   ·rw[JT]at h;rw[J1 (show b<z by omega),Bool.true_and]at e;refine⟨_,rfl,z,rfl,_,rfl,b7 (λh2=>?_) (λh2=>?_)⟩
    ·have h3:ck z=false:=by simpa using h2
     rw[e,h3,Bool.false_and]at k;exact k
    ·have h3:ck z=true:=by simpa using h2
     rw[h3,Bool.true_and]at e;exact⟨_,rfl,rfl,_,_,rfl,e⟩
  ·rintro σ H' ⟨rfl,b,v,rfl,e⟩;rw[JQ,List.drop_length]at e;rw[e]at k;exact k
theorem qk (T:Txt K mg c):Fn P w K mg base "is_mode" 1 ["number"] (DO λn=>Vbcnai.within n 0 1):=by
 refine T.qf.ok zS (λvs H Q E h=>?_) (λf cdv A outer s H vs Q E hr h=>?_)
 ·obtain⟨n,rfl,_⟩:=h;rfl
 ·obtain⟨n,rfl,k⟩:=h;refine⟨_,(ag (aj (F4 (cn bj (pv 0) (bz T.k8) (aD _)) (mU (cn bj (pv 0) (bz T.A7) (aD _)))))),?_⟩;refine⟨_,rfl,rfl,_,rfl,b7 (λh=>?_) (λh=>⟨_,rfl,rfl,?_⟩)⟩
  ·have h1:n=0:=by simpa using h
   subst h1;exact k
  ·have h1:¬n=0:=by simpa using h
   have e:Vbcnai.within n 0 1=decide (V.int n=V.int 1):=by
    unfold Vbcnai.within
    by_cases h2:n=1
    ·subst h2;rfl
    ·rw[J9 (show ¬V.int n=V.int 1 by simpa using h2)];simp;omega
   have k:Q (.bl (Vbcnai.within n 0 1)) H:=k;rw[e]at k;exact k
end
noncomputable abbrev zs (l:List Nat):List Int:=Vbcnai.ints l
noncomputable abbrev Want:=Vbcnai.Want
noncomputable abbrev mL:=Vbcnai.Step
open Mx (Up)
noncomputable def Tp (K:PySem.W.Frag) (H:Hp) (a:Addr) (xs:List V):Prop:=H a=some (.tup xs)\/
  ∃(o:Obj) (its:Array Value) (n:Nat),K.lookup a=some o/\o.cls=.type "tuple"/\o.data=.seq its n/\its.size<=sizeLine/\Vals xs its.toList
noncomputable def Tk (H H':Hp):Prop:=∀b xs,H b=some (.tup xs)->H' b=some (.tup xs)
noncomputable abbrev iv (l:List Nat):List V:=(zs l).map V.int
noncomputable def Tn (K:PySem.W.Frag) (H:Hp) (a:Addr) (l:List Nat):Prop:=Tp K H a (iv l)
noncomputable def bC (K:PySem.W.Frag) (H:Hp) (a:Addr) (w:Want):Prop:=∃l,Tp K H a [.int w.mode,.ref l]/\Tn K H l w.list
noncomputable def f7 (K:PySem.W.Frag) (H:Hp) (a:Addr):mL->Prop
 |.set w=>∃u,Tp K H a [.int 0,.ref u]/\bC K H u w
 |.allow l=>∃u,Tp K H a [.int 1,.ref u]/\Tn K H u l
 |.block l=>∃u,Tp K H a [.int 2,.ref u]/\Tn K H u l
section
variable{K:PySem.W.Frag}{H H' H2:Hp}{a b p:Addr}{xs:List V}{o:HO}
theorem Tp.sq (h:Tp K H a xs):eJ K H a xs:=by
 rcases h with h|h
 ·exact .inl (.inl h)
 ·exact .inr h
theorem Tp.keep (h:Tp K H a xs) (k:Tk H H'):Tp K H' a xs:=by
 rcases h with h|h
 ·exact .inl (k _ _ h)
 ·exact .inr h
theorem Tn.keep {l:List Nat}(h:Tn K H a l) (k:Tk H H'):Tn K H' a l:=Tp.keep h k
theorem bC.keep {w:Want}(h:bC K H a w) (k:Tk H H'):bC K H' a w:=
 let ⟨l,h1,h2⟩:=h
 ⟨l,h1.keep k,h2.keep k⟩
theorem f7.keep {e:mL}(h:f7 K H a e) (k:Tk H H'):f7 K H' a e:=by
 cases e with
 |set w=>obtain⟨u,h1,h2⟩:=h;exact⟨u,h1.keep k,h2.keep k⟩
 |allow l=>obtain⟨u,h1,h2⟩:=h;exact⟨u,h1.keep k,h2.keep k⟩
 |block l=>obtain⟨u,h1,h2⟩:=h;exact⟨u,h1.keep k,h2.keep k⟩
theorem _root_.L2.aw.tk (s:aw H H'):Tk H H':=λb xs h=>s b _ h
theorem Tk.refl:Tk H H:=λ_ _ h=>h
theorem Tk.trans (a:Tk H H') (b:Tk H' H2):Tk H H2:=λc xs h=>b c xs (a c xs h)
theorem _root_.L2.aw.tT:aw H H:=λ_ _ h=>h
theorem _root_.L2.aw.new (h:H p=none):aw H (upd H p o):=λb u e=>by
 rw[ak (ao e h)];exact e
theorem _root_.L2.aw.up (s:aw H H') (h:H' p=none):aw H (upd H' p o):=s.trans (aw.new h)
theorem Tk.upd {u:HO}(e:H a=some u) (n:∀xs,u≠.tup xs):Tk H (upd H a o):=λb xs h=>by
 rw[ak (ve h e λz=>n xs z.symm)];exact h
end
noncomputable def In (U l:List Nat):Prop:=Up l/\∀x∈l,x∈U
noncomputable def Sm (U:List Nat):Prop:=U.length<=4000
theorem cx:∀{l U:List Nat},l.Nodup->(∀x∈l,x∈U)->l.length<=U.length
 |[],U,_,_=>Kk _
 |x::l,U,h,hm=>by
  obtain⟨h1,h2⟩:=Kx.mp h;have hx:=hm x (JZ ..);have:=cx (l:=l) (U:=U.erase x) h2 λy hy=>by
   have ne:y≠x:=λe=>h1 (e▸hy);exact(List.mem_erase_of_ne ne).mpr (hm y (JW _ hy))
  rw[List.length_erase_of_mem hx]at this;have:=List.length_pos_of_mem hx;simp only[Kb];omega
theorem In.len {U l:List Nat}(h:In U l):l.length<=U.length:=cx h.1.nodup h.2
theorem In.scan {U l:List Nat}(h:In U l) (u:Sm U):(zs l).length+1<scanBound:=by
 rw[Mx.dI];have:=h.len;unfold Sm at u;show _<4096;omega
theorem In.zs {U l:List Nat}(h:In U l):∀z∈zs l,z∈zs U:=λz hz=>by
 obtain⟨n,hn,e⟩:=Mx.bJ.mp hz;exact Mx.bJ.mpr ⟨n,h.2 n hn,e⟩
theorem In.both {U a b:List Nat}(h:In U a) (g:In U b):In U (Vbcnai.both a b):=⟨Mx.jz g.1,λx hx=>by
 rcases Mx.de.mp hx with q|q
 ·exact h.2 x q
 ·exact g.2 x q⟩
theorem In.without {U a b:List Nat}(h:In U a):In U (Vbcnai.without a b):=⟨Mx.nc h.1,λx hx=>h.2 x (Mx.cM.mp hx).1⟩
theorem In.common {U a b:List Nat}(h:In U a):In U (Vbcnai.common a b):=⟨Mx.pV h.1,λx hx=>h.2 x (Mx.gE.mp hx).1⟩
theorem In.nil {U:List Nat}:In U []:=⟨List.Pairwise.nil,λx h=>nomatch h⟩
theorem jU {l:List Nat}(h:l.Nodup):(zs l).Nodup:=by
 unfold zs Vbcnai.ints;exact List.pairwise_map.mpr (h.imp λne e=>ne (Int.ofNat.inj e))
section
variable{P:Program}{w:World}{K:PySem.W.Frag}{mg:Str->Option Value}{base:Heap}{c:Cs}
noncomputable def Js (K:PySem.W.Frag) (g:List Nat->List Nat->List Nat):Sp:=λvs H Q _=>∃(a b:Addr) (l m U:List Nat),vs=[.ref a,.ref b]/\Tn K H a l/\Tn K H b m/\In U l/\In U m/\Sm U/\
 ∀(H':Hp) (p:Addr),aw H H'->Tn K H' p (g l m)->Q (.ref p) H'
theorem ql (T:Txt K mg c):Fn P w K mg base "without" 1 ["sources","others"] (Js K Vbcnai.without):=by
 refine T.qh.ok sX (λvs H Q E h=>?_) (λf cdv A outer s H vs Q E hr h=>?_)
 ·obtain⟨a,b,l,m,U,rfl,_⟩:=h;rfl
 ·obtain⟨a,b,l,m,U,rfl,ha,hb,il,im,hU,k⟩:=h;have nd:=sX.nd;refine⟨_,(ag (aj (aY bD (by rfl) T.dY dN (aa (aO (fB rfl) (by rfl) T.dg dv (aa (cu zN (aY (mZ rfl) (by rfl) T.oX nH (aa (pv 0) ae)) (aY (mZ rfl) (by rfl) T.oX nH (aa (pv 1) ae))) ae)) ae)))),?_⟩;refine⟨_,rfl,a,zs l,rfl,.inr ha.sq,il.scan hU,λp1 k1 n1 d1 m1=>?_⟩;have s1:aw H (upd H p1 (g0 w p1 k1)):=aw.new n1;refine⟨_,rfl,b,zs m,rfl,.inr (hb.keep s1.tk).sq,im.scan hU,λp2 k2 n2 d2 m2=>?_⟩;have ne:p1≠p2:=ao ab n2;have s2:=s1.up (o:=g0 w p2 k2) n2;have hl:k1.length+1<scanBound:=by
   have:=(List.perm_ext_iff_of_nodup d1 (jU il.1.nodup)).mpr m1;rw[this.length_eq];exact il.scan hU
  refine⟨p1,p2,k1,k2,rfl,rfl,(by rw[ak ne];exact ab),ab,ne,hl,λp3 k3 n3 d3 m3=>?_⟩;have s3:=s2.up (o:=g0 w p3 k3) n3;refine⟨p3,k3,rfl,ab,λns p4 hp hs n4=>?_⟩;have s4:=s3.up (o:=.lst (ns.map V.int)) n4;refine⟨p4,_,rfl,.inl ⟨ba.of ab,λp5 n5=>?_⟩⟩;have e:ns=zs (Vbcnai.without l m):=Mx.gk hs (hp.nodup_iff.mpr d3) il.without.1 λz=>by
   rw[hp.mem_iff,m3];show(z∈k1/\¬z∈k2)↔_;rw[m1,m2];constructor
   ·rintro⟨q1,q2⟩;obtain⟨n,hn,rfl⟩:=Mx.bJ.mp q1;exact Mx.aU.mpr (Mx.cM.mpr ⟨hn,λq=>q2 (Mx.aU.mpr q)⟩)
   ·intro q;obtain⟨n,hn,rfl⟩:=Mx.bJ.mp q;obtain⟨q1,q2⟩:=Mx.cM.mp hn;exact⟨Mx.aU.mpr q1,λq=>q2 (Mx.aU.mp q)⟩
  exact k _ p5 (s4.up n5) (.inl (by rw[ab,e]))
end
end Gs
namespace Gs
open PySem PySem.Spec PyProof.Rows L2
open Mx (Up)
theorem bK {c A B:Prop} [Decidable c] (h:c) (a:A):if c then A else B:=by
 rw[if_pos h];exact a
theorem aQ {c A B:Prop} [Decidable c] (h:¬c) (b:B):if c then A else B:=by
 rw[if_neg h];exact b
theorem z0 (n:Nat):∀l:List Nat,EK (.int n) (iv l)=l.contains n
 |[]=>rfl
 |x::l=>by
  have ih:=z0 n l;unfold EK iv zs Vbcnai.ints at ih ⊢;simp only[Kq,List.any_cons,List.contains_cons];rw[ih]
  congr 1
  show BO (.int (x:Int)) (.int (n:Int))=(n==x)
  by_cases h:n=x
  ·subst h;simp[BO]
  ·have h1:¬(x:Int)=(n:Int):=λe=>h (Int.ofNat.inj e).symm;rw[show(n==x)=false from beq_eq_false_iff_ne.mpr h];simp only[BO];exact beq_eq_false_iff_ne.mpr h1
theorem A8 (l:List Nat):(iv l).all l4=true:=by
 simp[iv,zs,Vbcnai.ints,l4]
noncomputable def ji (U:List Nat) (w:Want):Prop:=In U w.list
noncomputable def Cy (U:List Nat):mL->Prop
 |.set w=>ji U w
 |.allow l=>In U l
 |.block l=>In U l
noncomputable def isSet:mL->Bool
 |.set _=>true
 |_=>false
section
variable{P:Program}{w:World}{K:PySem.W.Frag}{mg:Str->Option Value}{base:Heap}{c:Cs}
noncomputable def DR (K:PySem.W.Frag):Sp:=λvs H Q _=>∃(a:Addr) (x:Want),vs=[.ref a]/\bC K H a x/\∀l,Tn K H l x.list->Q (.ref l) H
theorem yB (T:Txt K mg c):Fn P w K mg base "listed_in" 1 ["want"] (DR K):=by
 refine T.lg.ok wI (λvs H Q E h=>?_) (λf cdv A outer s H vs Q E hr h=>?_)
 ·obtain⟨a,x,rfl,_⟩:=h;rfl
 ·obtain⟨a,x,rfl,⟨l,h1,h2⟩,k⟩:=h;refine⟨_,(ag (aj (aI bt (pv 0) ah (λ_ _=>rfl)))),?_⟩;exact⟨_,rfl,a,_,_,_,rfl,rfl,h1.sq,rfl,k l h2⟩
noncomputable def Iq (K:PySem.W.Frag):Sp:=λvs H Q _=>∃(a:Addr) (x:Want) (n:Nat),vs=[.ref a,.int n]/\bC K H a x/\Q (.bl (x.has n)) H
theorem o5 (T:Txt K mg c):Fn P w K mg base "has_source" 1 ["want","source"] (Iq K):=by
 refine T.jH.ok uI (λvs H Q E h=>?_) (λf cdv A outer s H vs Q E hr h=>?_)
 ·obtain⟨a,x,n,rfl,_⟩:=h;rfl
 ·obtain⟨a,x,n,rfl,⟨l,h1,h2⟩,k⟩:=h;refine⟨_,(ag (aj (cn bj (cn vo (pv 1) (aI bt (pv 0) ah (λ_ _=>rfl)) (by with_unfolding_all rfl)) (cn bj (aI bt (pv 0) ah (λ_ _=>rfl)) (bz T.k8) (aD _)) (aD _)))),?_⟩;refine⟨_,rfl,_,rfl,a,_,_,_,rfl,rfl,h1.sq,rfl,l,_,rfl,.inr (Tp.sq h2),rfl,A8 _,_,rfl,a,_,_,_,rfl,rfl,h1.sq,rfl,rfl,rfl,?_⟩;have e:decide (V.bl (if false=true then !EK (.int n) (iv x.list)else EK (.int n) (iv x.list))=V.bl (decide (V.int x.mode=V.int 0)))=x.has n:=by
   rw[if_neg (by simp),z0];cases x with
   |only l=>
    show decide (V.bl (l.contains n)=V.bl true)=l.contains n;cases l.contains n<;>rfl
   |but l=>
    show decide (V.bl (l.contains n)=V.bl false)= !l.contains n;cases l.contains n<;>rfl
  rw[←e]at k;exact k
noncomputable def Fy (K:PySem.W.Frag):Sp:=λvs H Q _=>∃(a:Addr) (e:mL),vs=[.ref a]/\f7 K H a e/\Q (.bl (isSet e)) H
theorem o6 (T:Txt K mg c):Fn P w K mg base "is_set" 1 ["step"] (Fy K):=by
 refine T.tP.ok BY (λvs H Q E h=>?_) (λf cdv A outer s H vs Q E hr h=>?_)
 ·obtain⟨a,e,rfl,_⟩:=h;rfl
 ·obtain⟨a,e,rfl,h1,k⟩:=h;refine⟨_,(ag (aj (cn bj (aI bt (pv 0) ah (λ_ _=>rfl)) (bz T.vC) (aD _)))),?_⟩;cases e with
  |set v=>
   obtain⟨u,h1,_⟩:=h1;exact⟨_,rfl,a,_,_,_,rfl,rfl,h1.sq,rfl,rfl,k⟩
  |allow l=>
   obtain⟨u,h1,_⟩:=h1;exact⟨_,rfl,a,_,_,_,rfl,rfl,h1.sq,rfl,rfl,k⟩
  |block l=>
   obtain⟨u,h1,_⟩:=h1;exact⟨_,rfl,a,_,_,_,rfl,rfl,h1.sq,rfl,rfl,k⟩
noncomputable def DS (K:PySem.W.Frag):Sp:=λvs H Q _=>∃(a b:Addr) (e:mL) (x:Want) (U:List Nat),vs=[.ref a,.ref b]/\f7 K H a e/\bC K H b x/\Cy U e/\ji U x/\Sm U/\
 ∀(H':Hp) (p:Addr),aw H H'->bC K H' p (Vbcnai.does x e)->Q (.ref p) H'
theorem A9 {l m U:List Nat}{ns k1 k2 k3:List Int}(il:In U l) (im:In U m) (hs:ns.Pairwise (·<=·)) (hp:ns.Perm k3) (d3:k3.Nodup) (m1:∀z,z∈k1↔z∈zs l) (m2:∀z,z∈k2↔z∈zs m) (m3:∀z,z∈k3↔z∈k1\/z∈k2):
  ns=zs (Vbcnai.both l m):=Mx.gk hs (hp.nodup_iff.mpr d3) (il.both im).1 λz=>by
 rw[hp.mem_iff,m3,m1,m2];constructor
 ·rintro(q|q)
  ·obtain⟨n,hn,rfl⟩:=Mx.bJ.mp q;exact Mx.aU.mpr (Mx.de.mpr (.inl hn))
  ·obtain⟨n,hn,rfl⟩:=Mx.bJ.mp q;exact Mx.aU.mpr (Mx.de.mpr (.inr hn))
 ·intro q;obtain⟨n,hn,rfl⟩:=Mx.bJ.mp q;rcases Mx.de.mp hn with q|q
  ·exact .inl (Mx.aU.mpr q)
  ·exact .inr (Mx.aU.mpr q)
theorem JC {l m U:List Nat}{k1 k2:List Int}(il:In U l) (im:In U m) (hU:Sm U) (m1:∀z,z∈k1↔z∈zs l) (m2:∀z,z∈k2↔z∈zs m):JB k1 k2:=
 ⟨zs U,by rw[Mx.dI];unfold Sm at hU;show _<4096;omega,λz hz=>il.zs z ((m1 z).mp hz),λz hz=>im.zs z ((m2 z).mp hz)⟩
theorem ik (T:Txt K mg c):Fn P w K mg base "want_made" 2 ["step","want"] (DS K):=by
 refine T.lh.ok oy (λvs H Q E h=>?_) (λf cdv A outer s H vs Q E hr h=>?_)
 ·obtain⟨a,b,e,x,U,rfl,_⟩:=h;rfl
 ·obtain⟨a,b,e,x,U,rfl,he,hw,ie,iw,hU,k⟩:=h;have nd:=oy.nd;refine⟨_,(af (aF (aR (az (o6 T) hr (aa (pv 0) ae)))
   (ag (aj (aI bt (pv 0) ah (λ_ _=>rfl))))
   au)
   (af (aT (i:=2) nd rfl (Or.inl rfl) (aI bt (pv 1) ah (λ_ _=>rfl)))
   (af (aF (aE bj (cn bj (aI bt (pv 0) ah (λ_ _=>rfl)) (bz T.oZ) (aD _)) (cn bj (pv 2) (bz T.k8) (aD _)) (aD _))
   (ag (aj (bS (aa (pv 2) (aa (aY bD (by rfl) T.dY dN (aa (aO (fB rfl) (by rfl) T.dg dv (aa (cu BV (aY (mZ rfl) (by rfl) T.oX nH (aa (aI bt (pv 1) ah (λ_ _=>rfl)) ae)) (aY (mZ rfl) (by rfl) T.oX nH (aa (aI bt (pv 0) ah (λ_ _=>rfl)) ae))) ae)) ae)) ae)))))
   au)
   (ag (aj (bS (aa (pv 2) (aa (az (ql T) hr (aa (aI bt (pv 1) ah (λ_ _=>rfl)) (aa (aI bt (pv 0) ah (λ_ _=>rfl)) ae))) ae)))))))),?_⟩
  refine⟨_,rfl,a,e,rfl,he,_,rfl,?_⟩;cases e with
  |set v=>
   obtain⟨u,h1,h2⟩:=he;exact bG ⟨_,rfl,a,_,_,_,rfl,rfl,h1.sq,rfl,k H u aw.tT h2⟩
  |allow l=>
   refine bX ?_;obtain⟨u,h1,h2⟩:=he;obtain⟨v,h3,h4⟩:=hw;refine⟨_,rfl,b,_,_,_,rfl,rfl,h3.sq,rfl,_,rfl,a,_,_,_,rfl,rfl,h1.sq,rfl,rfl,_,rfl,rfl,rfl,_,rfl,?_⟩;cases x with
   |only m=>
    refine bK rfl ⟨_,rfl,_,rfl,b,_,_,_,rfl,rfl,h3.sq,rfl,v,zs m,rfl,.inr (Tp.sq h4),In.scan iw hU,λp1 k1 n1 d1 m1=>?_⟩;have s1:aw H (upd H p1 (g0 w p1 k1)):=aw.new n1;refine⟨_,rfl,a,_,_,_,rfl,rfl,(h1.keep s1.tk).sq,rfl,u,zs l,rfl,.inr (Tp.sq (h2.keep s1.tk)),In.scan ie hU,λp2 k2 n2 d2 m2=>?_⟩;have ne:p1≠p2:=ao ab n2;have s2:=s1.up (o:=g0 w p2 k2) n2;refine⟨p1,p2,k1,k2,rfl,rfl,(by rw[ak ne];exact ab),ab,ne,JC iw ie hU m1 m2,λp3 k3 n3 d3 m3=>?_⟩;have s3:=s2.up (o:=g0 w p3 k3) n3;refine⟨p3,k3,rfl,ab,λns p4 hp hs n4=>?_⟩;have s4:=s3.up (o:=.lst (ns.map V.int)) n4;have e:=A9 iw ie hs hp d3 m1 m2 m3;refine⟨p4,_,rfl,.inl ⟨ba.of ab,λp5 n5=>⟨(by show 2<=sizeLine;decide),λp6 n6=>?_⟩⟩⟩;have s5:=s4.up (o:=.tup (ns.map V.int)) n5;exact k _ p6 (s5.up n6) ⟨p5,.inl ab,.inl (by rw[ak (ao ab n6),ab,e];rfl)⟩
   |but m=>
    refine aQ (λz=>nomatch z) ⟨_,rfl,_,rfl,b,_,_,_,rfl,rfl,h3.sq,rfl,_,rfl,a,_,_,_,rfl,rfl,h1.sq,rfl,?_⟩;refine⟨v,u,m,l,U,rfl,h4,h2,iw,ie,hU,λH' p s1 hp=>⟨(by show 2<=sizeLine;decide),λp6 n6=>?_⟩⟩;exact k _ p6 (s1.up n6) ⟨p,.inl ab,hp.keep (aw.new n6).tk⟩
  |block l=>
   refine bX ?_;obtain⟨u,h1,h2⟩:=he;obtain⟨v,h3,h4⟩:=hw;refine⟨_,rfl,b,_,_,_,rfl,rfl,h3.sq,rfl,_,rfl,a,_,_,_,rfl,rfl,h1.sq,rfl,rfl,_,rfl,rfl,rfl,_,rfl,?_⟩;cases x with
   |but m=>
    refine bK rfl ⟨_,rfl,_,rfl,b,_,_,_,rfl,rfl,h3.sq,rfl,v,zs m,rfl,.inr (Tp.sq h4),In.scan iw hU,λp1 k1 n1 d1 m1=>?_⟩;have s1:aw H (upd H p1 (g0 w p1 k1)):=aw.new n1;refine⟨_,rfl,a,_,_,_,rfl,rfl,(h1.keep s1.tk).sq,rfl,u,zs l,rfl,.inr (Tp.sq (h2.keep s1.tk)),In.scan ie hU,λp2 k2 n2 d2 m2=>?_⟩;have ne:p1≠p2:=ao ab n2;have s2:=s1.up (o:=g0 w p2 k2) n2;refine⟨p1,p2,k1,k2,rfl,rfl,(by rw[ak ne];exact ab),ab,ne,JC iw ie hU m1 m2,λp3 k3 n3 d3 m3=>?_⟩;have s3:=s2.up (o:=g0 w p3 k3) n3;refine⟨p3,k3,rfl,ab,λns p4 hp hs n4=>?_⟩;have s4:=s3.up (o:=.lst (ns.map V.int)) n4;have e:=A9 iw ie hs hp d3 m1 m2 m3;refine⟨p4,_,rfl,.inl ⟨ba.of ab,λp5 n5=>⟨(by show 2<=sizeLine;decide),λp6 n6=>?_⟩⟩⟩;have s5:=s4.up (o:=.tup (ns.map V.int)) n5;exact k _ p6 (s5.up n6) ⟨p5,.inl ab,.inl (by rw[ak (ao ab n6),ab,e];rfl)⟩
   |only m=>
    refine aQ (λz=>nomatch z) ⟨_,rfl,_,rfl,b,_,_,_,rfl,rfl,h3.sq,rfl,_,rfl,a,_,_,_,rfl,rfl,h1.sq,rfl,?_⟩;refine⟨v,u,m,l,U,rfl,h4,h2,iw,ie,hU,λH' p s1 hp=>⟨(by show 2<=sizeLine;decide),λp6 n6=>?_⟩⟩;exact k _ p6 (s1.up n6) ⟨p,.inl ab,hp.keep (aw.new n6).tk⟩
end
theorem PI.or {X:Cx}{tg l:Expr}{w1 w2:TI}(h1:PI X tg l w1) (h2:PI X tg l w2):PI X tg l (λσ H R=>w1 σ H R\/w2 σ H R):=by
 intro pins s σ H R I h;rcases h with h|h
 ·exact h1 pins s σ H R I h
 ·exact h2 pins s σ H R I h
structure z6 (ws:List Want) (x:Want):Prop where
 up:Up x.list
 mode:x.mode=0↔∀v∈ws,v.mode=0
 has:∀n,x.has n=true↔∃v∈ws,v.has n=true
theorem cK {l:List Nat}{n:Nat}:(Vbcnai.Want.only l).has n=true↔n∈l:=by
 show l.contains n=true↔_;exact List.contains_iff_mem ..
theorem dZ {l:List Nat}{n:Nat}:(Vbcnai.Want.but l).has n=true↔n∉l:=by
 show(!l.contains n)=true↔_;rw[Bool.not_eq_true',←Bool.not_eq_true,List.contains_iff_mem]
theorem z6.uniq {ws vs:List Want}{x y:Want}(a:z6 ws x) (b:z6 vs y) (h:∀v,v∈ws↔v∈vs):x=y:=by
 have hm:x.mode=0↔y.mode=0:=by
  rw[a.mode,b.mode];exact⟨λq v hv=>q v ((h v).mpr hv),λq v hv=>q v ((h v).mp hv)⟩
 have hh:∀n,x.has n=true↔y.has n=true:=λn=>by
  rw[a.has,b.has];exact⟨λ⟨v,h1,h2⟩=>⟨v,(h v).mp h1,h2⟩,λ⟨v,h1,h2⟩=>⟨v,(h v).mpr h1,h2⟩⟩
 cases x with
 |only l=>
  cases y with
  |only m=>exact congrArg _ (Mx.sT a.up b.up λn=>by have:=hh n;rw[cK,cK]at this;exact this)
  |but m=>exact absurd (hm.mp rfl) (λz=>nomatch z)
 |but l=>
  cases y with
  |only m=>exact absurd (hm.mpr rfl) (λz=>nomatch z)
  |but m=>
   refine congrArg _ (Mx.sT a.up b.up λn=>?_);have:=hh n;rw[dZ,dZ]at this;exact⟨λq=>Classical.byContradiction λz=>this.mpr z q,λq=>Classical.byContradiction λz=>this.mp z q⟩
theorem DU {x y:Want}(hx:Up x.list) (hy:Up y.list):Up (Vbcnai.merge x y).list:=by
 cases x<;>cases y
 ·exact Mx.jz hy
 ·exact Mx.nc hy
 ·exact Mx.nc hx
 ·exact Mx.pV hx
theorem z7 (x y:Want):(Vbcnai.merge x y).mode=0↔x.mode=0/\y.mode=0:=by
 cases x<;>cases y<;>simp[Vbcnai.merge,Vbcnai.Want.mode]
theorem B2 (x y:Want) (n:Nat):(Vbcnai.merge x y).has n=true↔x.has n=true\/y.has n=true:=by
 cases x with
 |only l=>
  cases y with
  |only m=>
   show(Vbcnai.Want.only _).has n=true↔_;rw[cK,cK,cK,Mx.de]
  |but m=>
   show(Vbcnai.Want.but _).has n=true↔_;rw[cK,dZ,dZ,Mx.cM];constructor
   ·intro q
    by_cases h:n∈l
    ·exact .inl h
    ·exact .inr λz=>q ⟨z,h⟩
   ·rintro(q|q) ⟨h1,h2⟩
    ·exact h2 q
    ·exact q h1
 |but l=>
  cases y with
  |only m=>
   show(Vbcnai.Want.but _).has n=true↔_;rw[cK,dZ,dZ,Mx.cM];constructor
   ·intro q
    by_cases h:n∈m
    ·exact .inr h
    ·exact .inl λz=>q ⟨z,h⟩
   ·rintro(q|q) ⟨h1,h2⟩
    ·exact q h1
    ·exact h2 q
  |but m=>
   show(Vbcnai.Want.but _).has n=true↔_;rw[dZ,dZ,dZ,Mx.gE];constructor
   ·intro q
    by_cases h:n∈l
    ·exact .inr λz=>q ⟨h,z⟩
    ·exact .inl h
   ·rintro(q|q) ⟨h1,h2⟩
    ·exact q h1
    ·exact q h2
theorem z6.snoc {ws:List Want}{x y:Want}(a:z6 ws x) (hy:Up y.list):z6 (ws++[y]) (Vbcnai.merge x y):=by
 refine⟨DU a.up hy,?_,λn=>?_⟩
 ·rw[z7,a.mode];constructor
  ·rintro⟨h1,h2⟩ v hv;rcases Ky.mp hv with q|q
   ·exact h1 v q
   ·rw[J6.mp q];exact h2
  ·intro h;exact⟨λv hv=>h v (List.mem_append_left _ hv),h y (Ku _ (J6.mpr rfl))⟩
 ·rw[B2,a.has];constructor
  ·rintro(⟨v,h1,h2⟩|h)
   ·exact⟨v,List.mem_append_left _ h1,h2⟩
   ·exact⟨y,Ku _ (J6.mpr rfl),h⟩
  ·rintro⟨v,hv,h2⟩;rcases Ky.mp hv with q|q
   ·exact .inl ⟨v,q,h2⟩
   ·rw[J6.mp q]at h2;exact .inr h2
theorem Fz:z6 [] Vbcnai.none_:=⟨List.Pairwise.nil,⟨λ_ v h=>(nomatch h),λ_=>rfl⟩,λn=>⟨λh=>(by rw[Vbcnai.none_,cK]at h;exact nomatch h),λ⟨v,h,_⟩=>nomatch h⟩⟩
theorem vE:∀(ws pre:List Want) (x:Want),z6 pre x->(∀v∈ws,Up v.list)->z6 (pre++ws) (ws.foldl Vbcnai.merge x)
 |[],pre,x,h,_=>by rw[Ks];exact h
 |y::ws,pre,x,h,hu=>by
  have:=vE ws (pre++[y]) (Vbcnai.merge x y) (h.snoc (hu y (JZ ..))) λv hv=>hu v (JW _ hv);rw[List.append_assoc]at this;exact this
theorem Ba {ws:List Want}(hu:∀v∈ws,Up v.list):z6 ws (Vbcnai.mergeAll ws):=vE ws [] _ Fz hu
noncomputable def keysOf (A:List Nat):List Key:=A.map λ(n:Nat)=>Sum.inl (n:Int)
theorem r6 (k:Key):∀kvs:List (Key×V),(kvs.any λkv=>decide (kv.1=k))=true↔k∈kvs.map (·.1)
 |[]=>by simp
 |p::r=>by
  rw[List.any_cons,Bool.or_eq_true,r6 k r,Kq,JX,JT];exact⟨λh=>h.imp Eq.symm id,λh=>h.imp Eq.symm id⟩
theorem nI {A:List Nat}{n:Nat}:(Sum.inl (n:Int):Key)∈keysOf A↔n∈A:=by
 unfold keysOf;rw[Kr];constructor
 ·rintro⟨m,hm,e⟩;have:m=n:=by injection e with e;exact Int.ofNat.inj e
  exact this▸hm
 ·exact λh=>⟨n,h,rfl⟩
theorem DV {kvs:List (Key×V)}{A:List Nat}(e:kvs.map (·.1)=keysOf A) (hn:A.Nodup) (n:Nat) (v:V):
  ∃A',(putK kvs (Sum.inl (n:Int)) v).map (·.1)=keysOf A'/\A'.Nodup/\∀m,m∈A'↔m∈A\/m=n:=by
 by_cases h:n∈A
 ·refine⟨A,?_,hn,λm=>⟨.inl,λq=>q.elim id λz=>z▸h⟩⟩;unfold putK;rw[if_pos ((r6 _ _).mpr (by rw[e];exact nI.mpr h)),List.map_map,←e];exact List.map_congr_left λp _=>by
   show(if p.1=_ then(p.1,v)else p).1=p.1;split<;>rfl
 ·refine⟨A++[n],?_,?_,λm=>by rw[Ky,J6]⟩
  ·unfold putK;rw[if_neg (λq=>h (nI.mp (e▸(r6 _ _).mp q))),Ki,e];unfold keysOf;rw[Ki];rfl
  ·rw[List.nodup_append];exact⟨hn,by simp,λa ha b hb=>by rw[J6.mp hb];exact λz=>h (z▸ha)⟩
theorem DW {kvs:List (Key×V)}{A:List Nat}(e:kvs.map (·.1)=keysOf A) (n:Nat):(cw kvs (Sum.inl (n:Int))).isSome=true↔n∈A:=by
 rw[←gD,r6,e,nI]
theorem _root_.L2.aw.loc {H H':Hp}{p:Addr}{o:HO}(s:aw H H') (h:H p=none):aw H (upd H' p o):=λb u e=>by
 rw[ak (ao e h)];exact s b u e
noncomputable def fF (K:PySem.W.Frag) (H:Hp) (ts:List Addr) (ws:List Want):Prop:=Paired (λt v=>bC K H t v) ts ws
theorem Paired.at_ {α β:Type}{R:α->β->Prop}:∀{xs:List α}{ys:List β}{i:Nat}{x:α},Paired R xs ys->xs[i]? =some x->∃y,ys[i]? =some y/\R x y
 |_,_,i,x,.nil,e=>by simp at e
 |_,_,0,x,.cons r _,e=>by simp at e;subst e;exact⟨_,rfl,r⟩
 |_,_,i+1,x,.cons _ t,e=>by
  obtain⟨y,h1,h2⟩:=Paired.at_ (i:=i) (x:=x) t (by simpa using e);exact⟨y,by simpa using h1,h2⟩
theorem Paired.imp {α β:Type}{R R':α->β->Prop}(f:∀a b,R a b->R' a b):∀{xs:List α}{ys:List β},Paired R xs ys->Paired R' xs ys
 |_,_,.nil=>.nil
 |_,_,.cons r t=>.cons (f _ _ r) (Paired.imp f t)
theorem fF.keep {K:PySem.W.Frag}{H H':Hp}{ts:List Addr}{ws:List Want}(h:fF K H ts ws) (k:Tk H H'):fF K H' ts ws:=Paired.imp (λ_ _ r=>r.keep k) h
theorem take_snoc {α:Type}:∀{l:List α}{i:Nat}{x:α},l[i]? =some x->l.take (i+1)=l.take i++[x]
 |[],i,x,h=>by simp at h
 |a::l,0,x,h=>by
  have e:a=x:=JU h;subst e;rfl
 |a::l,i+1,x,h=>by
  have ih:=take_snoc (l:=l) (i:=i) (x:=x) h;show a::l.take (i+1)=a::l.take i++[x];rw[ih];rfl
theorem nJ (a b:List Nat):iv (a++b)=iv a++iv b:=by
 unfold iv zs Vbcnai.ints;rw[Ki,Ki]
theorem DX {f:Nat->Bool}{n:Nat}(h:f n=true):[n].filter f=[n]:=by rw[List.filter_cons_of_pos h,List.filter_nil]
theorem DY {f:Nat->Bool}{n:Nat}(h:¬f n=true):[n].filter f=[]:=by rw[List.filter_cons_of_neg h,List.filter_nil]
theorem bI {α:Type}{l:List α}{i:Nat}{x v:α}(h:l[i]? =some x):v∈l.take (i+1)↔v∈l.take i\/v=x:=by
 rw[take_snoc h,Ky,J6]
noncomputable def rh (K:PySem.W.Frag) (H:Hp) (q:Addr) (l:List Nat):Prop:=H q=some (.lst (iv l))\/Tn K H q l
theorem rh.sq {K:PySem.W.Frag}{H:Hp}{q:Addr}{l:List Nat}(h:rh K H q l):ba K H q (iv l)\/eJ K H q (iv l):=by
 rcases h with h|h
 ·exact .inl (ba.of h)
 ·exact .inr (Tp.sq h)
theorem rh.dict {K:PySem.W.Frag}{H:Hp}{q d:Addr}{l:List Nat}{kvs:List (Key×V)}{o:HO}(h:rh K H q l) (e:H d=some (.dK kvs)):rh K (upd H d o) q l:=by
 rcases h with h|h
 ·exact .inl (by rw[ak (ve h e λz=>nomatch z)];exact h)
 ·exact .inr (h.keep (Tk.upd e λxs z=>nomatch z))
structure Bb (H:Hp) (d:Addr) (U A:List Nat):Prop where
 ex:∃kvs:List (Key×V),H d=some (.dK kvs)/\kvs.map (·.1)=keysOf A
 nd:A.Nodup
 sub:∀n∈A,n∈U
theorem Bb.len {H:Hp}{d:Addr}{U A:List Nat}{kvs:List (Key×V)}(h:Bb H d U A) (e:kvs.map (·.1)=keysOf A) (u:Sm U):kvs.length<sizeLine:=by
 have h1:kvs.length=A.length:=by
  have:=congrArg List.length e;rw[JQ,keysOf,JQ]at this;exact this
 have h2:=cx h.nd h.sub;unfold Sm at u;show _<2^24;omega
noncomputable def DZ (K:PySem.W.Frag) (H:Hp) (U:List Nat) (u:V) (ws:List Want):Prop:=
 (u=.bQ/\∀v∈ws,v.mode=0)\/∃q cur,u=.ref q/\rh K H q cur/\In U cur/\(∃v∈ws,v.mode=1)/\∀n,n∈cur↔∀v∈ws,v.mode=1->n∈v.list
theorem DZ.same {K:PySem.W.Frag}{H H':Hp}{U:List Nat}{u:V}{ws:List Want}(h:DZ K H U u ws) (k:∀q cur,rh K H q cur->rh K H' q cur):DZ K H' U u ws:=by
 rcases h with h|⟨q,cur,h1,h2,h3⟩
 ·exact .inl h
 ·exact .inr ⟨q,cur,h1,k _ _ h2,h3⟩
noncomputable def FA (A:List Nat) (ws:List Want):Prop:=∀n,n∈A↔∃v∈ws,v.mode=0/\n∈v.list
theorem D0 {A l:List Nat}{ws:List Want}(hA:FA A ws) (h0:∀v∈ws,v.mode=0) (hu:Up l) (hl:∀n,n∈l↔n∈A):z6 ws (.only l):=by
 refine⟨hu,⟨λ_=>h0,λ_=>rfl⟩,λn=>?_⟩;rw[cK,hl,hA];constructor
 ·rintro⟨v,h1,h2,h3⟩;refine⟨v,h1,?_⟩;cases v with
  |only m=>exact cK.mpr h3
  |but m=>exact absurd h2 (λz=>nomatch z)
 ·rintro⟨v,h1,h3⟩;have h2:=h0 v h1;refine⟨v,h1,h2,?_⟩;cases v with
  |only m=>exact cK.mp h3
  |but m=>exact absurd h2 (λz=>nomatch z)
theorem FC {A l cur:List Nat}{ws:List Want}(hA:FA A ws) (h1:∃v∈ws,v.mode=1) (hc:∀n,n∈cur↔∀v∈ws,v.mode=1->n∈v.list) (hu:Up l) (hl:∀n,n∈l↔n∈cur/\n∉A):z6 ws (.but l):=by
 refine⟨hu,⟨λz=>(nomatch z),λz=>?_⟩,λn=>?_⟩
 ·obtain⟨v,hv,e⟩:=h1;exact absurd ((z v hv).symm.trans e) (λz=>nomatch z)
 ·rw[dZ,hl];constructor
  ·intro q;apply Classical.byContradiction;intro z;refine q ⟨(hc n).mpr λv hv e=>?_,λhn=>?_⟩
   ·apply Classical.byContradiction;intro y;refine z ⟨v,hv,?_⟩;cases v with
    |only m=>exact absurd e (λz=>nomatch z)
    |but m=>exact dZ.mpr y
   ·obtain⟨v,hv,e,hm⟩:=(hA n).mp hn;refine z ⟨v,hv,?_⟩;cases v with
    |only m=>exact cK.mpr hm
    |but m=>exact absurd e (λz=>nomatch z)
  ·rintro⟨v,hv,h3⟩ ⟨q1,q2⟩;cases v with
   |only m=>exact q2 ((hA n).mpr ⟨_,hv,rfl,cK.mp h3⟩)
   |but m=>exact dZ.mp h3 ((hc n).mp q1 _ hv rfl)
section
variable{P:Program}{w:World}{K:PySem.W.Frag}{mg:Str->Option Value}{base:Heap}{c:Cs}
noncomputable def D1 (K:PySem.W.Frag):Sp:=λvs H Q _=>∃(a:Addr) (ts:List Addr) (ws:List Want) (U:List Nat),vs=[.ref a]/\ba K H a (ts.map V.ref)/\fF K H ts ws/\(∀v∈ws,ji U v)/\Sm U/\
 ∀(H':Hp) (p:Addr) (x:Want),aw H H'->bC K H' p x->z6 ws x->ji U x->Q (.ref p) H'
theorem tU {ts:List Addr}{i:Nat}{y:V}(hi:(ts.map V.ref)[i]? =some y):∃t,ts[i]? =some t/\y=V.ref t:=by
 rw[J5]at hi;cases e:ts[i]? with
 |none=>
  rw[e]at hi;cases hi
 |some z=>
  rw[e]at hi;exact⟨z,rfl,(JU hi).symm⟩
theorem tV {l:List Nat}{i:Nat}{y:V}(hi:(iv l)[i]? =some y):∃n,l[i]? =some n/\y=V.int (n:Nat):=by
 obtain⟨z,h1,h2⟩:=DQ hi;unfold zs Vbcnai.ints at h1;rw[J5]at h1;cases e:l[i]? with
 |none=>
  rw[e]at h1;cases h1
 |some n=>
  rw[e]at h1;exact⟨n,rfl,by rw[h2];exact congrArg _ (JU h1).symm⟩
theorem cF (l:List Nat):(iv l).length=l.length:=by
 unfold iv;rw[JQ,Mx.dI]
theorem tW (T:Txt K mg c):Fn P w K mg base "merged" 1 ["wants"] (D1 K):=by
 refine T.tQ.ok vx (λvs H Q E h=>?_) (λf cdv A outer s H vs Q E hr h=>?_)
 ·obtain⟨a,ts,ws,U,rfl,_⟩:=h;rfl
 ·obtain⟨a,ts,ws,U,rfl,ha,hw,hi,hU,k⟩:=h;have nd:=vx.nd;have hu:=cX hr;refine⟨_,(af (aT (i:=1) nd rfl (Or.inr rfl) i8)
   (af (aT (i:=2) nd rfl (Or.inl rfl) zx)
   (af (fQ PassesOwn.never rfl (du (pv 0)) (bH (i:=3) nd rfl (Or.inl rfl))
   (ag (aF (aE bj (aI bt (pv 3) ah (λ_ _=>rfl)) (bz T.k8) (aD _))
   (ag (fQ PassesOwn.never rfl (wj (aI bt (pv 3) ah (λ_ _=>rfl))) (bH (i:=4) nd rfl (Or.inl rfl))
   (ag (fA hu (pv 1) (pv 4) vh rfl))))
   (ag (aF (dB (kq (pv 2)))
   (ag (aT (i:=2) nd rfl (Or.inl rfl) (aI bt (pv 3) ah (λ_ _=>rfl))))
   (ag (aT (i:=2) nd rfl (Or.inl rfl) (aO (fB rfl) (by rfl) T.dg dv (aa (cu zO (aY (mZ rfl) (by rfl) T.oX nH (aa (pv 2) ae)) (aY (mZ rfl) (by rfl) T.oX nH (aa (aI bt (pv 3) ah (λ_ _=>rfl)) ae))) ae)))))))))
   (af (aF (dB (kq (pv 2)))
   (ag (aj (bS (aa (bz T.k8) (aa (aY bD (by rfl) T.dY dN (aa (aO (dc rfl) (by rfl) T.dg dv (aa (pv 1) ae)) ae)) ae)))))
   au)
   (ag (aj (bS (aa (bz T.A7) (aa (aY bD (by rfl) T.dY dN (aa (sM rfl nd (PI.or (du (pv 2)) (wj (pv 2))) (own:=[("source",4)]) (dG rfl) (λ_ _ _ _ _=>bH (i:=4) nd rfl (Or.inl rfl)) (λ_ _ _ _ _=>f9 (dB (lP hu (pv 4) (pv 1)))) (λ_ _ _ _ _=>(pv 4))) ae)) ae))))))))),?_⟩
  intro d hd;refine⟨_,rfl,a,rfl,⟨_,(aw.new hd).seq ha⟩,dE (K:=K) (a:=a) (xs:=ts.map V.ref) (λi σ H'=>∃(u:V) (v4 v5:Option V) (A:List Nat),σ=[some (.ref a),some (.ref d),some u,v4,v5]/\aw H H'/\Bb H' d U A/\FA A (ws.take i)/\DZ K H' U u (ws.take i))
   ⟨.bQ,none,none,[],rfl,aw.new hd,⟨⟨[],ab,rfl⟩,List.nodup_nil,λn h=>nomatch h⟩,λn=>⟨λh=>(nomatch h),λ⟨v,h,_⟩=>by rw[List.take_zero]at h;exact nomatch h⟩,.inl ⟨rfl,λv h=>by rw[List.take_zero]at h;exact nomatch h⟩⟩ (λi σ H' _ ⟨_,_,_,_,_,s5,_⟩=>s5.seq ha) ?_ ?_⟩
  ·rintro i y σ H' hi' ⟨u,v4,v5,A,rfl,sm,hA,hO,hN⟩;obtain⟨t,ht,rfl⟩:=tU hi';obtain⟨v,hv,hwv⟩:=Paired.at_ hw ht;have iv_:=hi v (Kd hv);obtain⟨l,h1,h2⟩:=hwv.keep sm.tk;refine⟨_,rfl,t,_,_,_,rfl,rfl,h1.sq,rfl,rfl,_,rfl,?_⟩;cases v with
   |only m=>
    refine bK rfl ?_;refine⟨_,rfl,t,_,_,_,rfl,rfl,h1.sq,rfl,l,rfl,⟨_,Tp.sq h2⟩,AM (K:=K) (a:=l) (xs:=iv m) (λj σ H''=>∃(v5:Option V) (A':List Nat),σ=[some (.ref a),some (.ref d),some u,some (.ref t),v5]/\aw H H''/\Tk H' H''/\Bb H'' d U A'/\(∀n,n∈A'↔n∈A\/n∈m.take j)/\DZ K H'' U u (ws.take i))
     ⟨v5,A,rfl,sm,Tk.refl,hA,λn=>by simp,hN⟩ (λj σ H'' _ ⟨_,_,_,_,s6,_⟩=>(h2.keep s6).sq) ?_ ?_⟩
    ·rintro j y σ H'' hj ⟨v5,A',rfl,sm',tk',hA',hO',hN'⟩;obtain⟨n,hn,rfl⟩:=tV hj;obtain⟨kvs,e1,e2⟩:=hA'.ex;obtain⟨A2,e3,n3,m3⟩:=DV e2 hA'.nd n (.bl true);refine⟨_,rfl,_,rfl,d,_,rfl,rD.k (k:=Sum.inl (n:Int)) e1 (hA'.len e2 hU),?_⟩;refine⟨_,A2,rfl,sm'.loc hd,tk'.trans (Tk.upd e1 λxs z=>nomatch z),⟨⟨_,ab,e3⟩,n3,λz hz=>?_⟩,λz=>?_,hN'.same λq cur h=>h.dict e1⟩
     ·rcases(m3 z).mp hz with q|q
      ·exact hA'.sub z q
      ·rw[q];exact iv_.2 n (Kd hn)
     ·rw[m3,hO',bI hn,or_assoc]
    ·rintro σ H'' ⟨v5,A',rfl,sm',tk',hA',hO',hN'⟩;rw[cF,Kt]at hO';refine⟨u,_,v5,A',rfl,sm',hA',λn=>?_,?_⟩
     ·rw[hO',hO];constructor
      ·rintro(⟨x,q1,q2,q3⟩|q)
       ·exact⟨x,(bI hv).mpr (.inl q1),q2,q3⟩
       ·exact⟨_,(bI hv).mpr (.inr rfl),rfl,q⟩
      ·rintro⟨x,q1,q2,q3⟩;rcases(bI hv).mp q1 with q|q
       ·exact .inl ⟨x,q,q2,q3⟩
       ·rw[q]at q3;exact .inr q3
     ·rcases hN' with⟨q1,q2⟩|⟨q,cur,q1,q2,q3,⟨x,q4,q5⟩,q6⟩
      ·exact .inl ⟨q1,λx hx=>((bI hv).mp hx).elim (q2 x) λz=>by rw[z];rfl⟩
      ·refine .inr ⟨q,cur,q1,q2,q3,⟨x,(bI hv).mpr (.inl q4),q5⟩,λn=>?_⟩;rw[q6];constructor
       ·intro z x hx e;rcases(bI hv).mp hx with y|y
        ·exact z x y e
        ·rw[y]at e;exact nomatch e
       ·intro z x hx e;exact z x ((bI hv).mpr (.inl hx)) e
   |but m=>
    refine aQ (λz=>nomatch z) ⟨_,rfl,_,rfl,?_⟩;have hO2:FA A (ws.take (i+1)):=λn=>by
     rw[hO];constructor
     ·rintro⟨x,q1,q2⟩;exact⟨x,(bI hv).mpr (.inl q1),q2⟩
     ·rintro⟨x,q1,q2,q3⟩;rcases(bI hv).mp q1 with q|q
      ·exact⟨x,q,q2,q3⟩
      ·rw[q]at q2;exact nomatch q2
    rcases hN with⟨rfl,q2⟩|⟨q,cur,rfl,q2,q3,⟨x,q4,q5⟩,q6⟩
    ·refine bK rfl ⟨_,rfl,t,_,_,_,rfl,rfl,h1.sq,rfl,?_⟩;refine⟨.ref l,_,v5,A,rfl,sm,hA,hO2,.inr ⟨l,m,rfl,.inr h2,iv_,⟨_,(bI hv).mpr (.inr rfl),rfl⟩,λn=>?_⟩⟩;constructor
     ·intro z x hx e;rcases(bI hv).mp hx with y|y
      ·exact absurd ((q2 x y).symm.trans e) (λz=>nomatch z)
      ·rw[y];exact z
     ·intro z;exact z _ ((bI hv).mpr (.inr rfl)) rfl
    ·refine aQ (λz=>nomatch z) ⟨_,rfl,q,zs cur,rfl,q2.sq,q3.scan hU,λp1 k1 n1 d1 m1=>?_⟩;have s1:aw H' (upd H' p1 (g0 w p1 k1)):=aw.new n1;refine⟨_,rfl,t,_,_,_,rfl,rfl,(h1.keep s1.tk).sq,rfl,l,zs m,rfl,.inr (Tp.sq (h2.keep s1.tk)),In.scan iv_ hU,λp2 k2 n2 d2 m2=>?_⟩;have ne:p1≠p2:=ao ab n2;have s2:=s1.up (o:=g0 w p2 k2) n2;have hl:∀{l:List Nat}{ks:List Int},In U l->ks.Nodup->(∀z,z∈ks↔z∈zs l)->ks.length+1<scanBound:=λil d m=>by
      rw[((List.perm_ext_iff_of_nodup d (jU il.1.nodup)).mpr m).length_eq];exact il.scan hU
     refine⟨p1,p2,k1,k2,rfl,rfl,(by rw[ak ne];exact ab),ab,ne,⟨hl q3 d1 m1,hl iv_ d2 m2⟩,λp3 k3 n3 d3 m3=>?_⟩;have s3:=s2.up (o:=g0 w p3 k3) n3;refine⟨p3,k3,rfl,ab,λns p4 hp hs n4=>?_⟩;have s4:=s3.up (o:=.lst (ns.map V.int)) n4;have e:ns=zs (Vbcnai.common cur m):=Mx.gk hs (hp.nodup_iff.mpr d3) (Mx.pV q3.1) λz=>by
      rw[hp.mem_iff,m3];show(z∈k1/\z∈k2)↔_;rw[m1,m2];constructor
      ·rintro⟨y1,y2⟩;obtain⟨n,hn,rfl⟩:=Mx.bJ.mp y1;exact Mx.aU.mpr (Mx.gE.mpr ⟨hn,Mx.aU.mp y2⟩)
      ·intro y;obtain⟨n,hn,rfl⟩:=Mx.bJ.mp y;obtain⟨y1,y2⟩:=Mx.gE.mp hn;exact⟨Mx.aU.mpr y1,Mx.aU.mpr y2⟩
     obtain⟨kvs,e1,e2⟩:=hA.ex;refine⟨.ref p4,_,v5,A,rfl,sm.trans s4,⟨⟨kvs,s4 _ _ e1,e2⟩,hA.nd,hA.sub⟩,hO2,.inr ⟨p4,_,rfl,.inl (by rw[ab,e]),q3.common,⟨x,(bI hv).mpr (.inl q4),q5⟩,λn=>?_⟩⟩;rw[Mx.gE,q6];constructor
     ·rintro⟨y1,y2⟩ x hx e;rcases(bI hv).mp hx with y|y
      ·exact y1 x y e
      ·rw[y];exact y2
     ·intro z;exact⟨λx hx e=>z x ((bI hv).mpr (.inl hx)) e,z _ ((bI hv).mpr (.inr rfl)) rfl⟩
  ·rintro σ H' ⟨u,v4,v5,A,rfl,sm,hA,hO,hN⟩;have hlen:ts.length=ws.length:=Paired.length hw;rw[JQ,hlen,Kt]at hO hN;obtain⟨kvs,e1,e2⟩:=hA.ex;refine⟨_,rfl,_,rfl,?_⟩;rcases hN with⟨rfl,q2⟩|⟨q,cur,rfl,q2,q3,q4,q6⟩
   ·refine bK rfl ⟨_,rfl,d,kvs,zs A,rfl,e1,?_,λns p hp hs n1=>?_⟩
    ·rw[e2];unfold keysOf zs Vbcnai.ints;rw[List.map_map];rfl
    ·have s1:=sm.up (o:=.lst (ns.map V.int)) n1;refine⟨p,_,rfl,.inl ⟨ba.of ab,λp5 n5=>⟨(by show 2<=sizeLine;decide),λp6 n6=>?_⟩⟩⟩;have s5:=s1.up (o:=.tup (ns.map V.int)) n5;have hB:In U (Vbcnai.both A []):=⟨Mx.jz List.Pairwise.nil,λz hz=>by
      rcases Mx.de.mp hz with q|q
      ·exact hA.sub z q
      ·exact nomatch q⟩
     have hm:∀n,n∈Vbcnai.both A []↔n∈A:=λn=>by
      rw[Mx.de];exact⟨λz=>z.elim id λy=>(nomatch y),.inl⟩
     have e:ns=zs (Vbcnai.both A []):=Mx.gk hs (hp.nodup_iff.mpr (jU hA.nd)) hB.1 λz=>by
      rw[hp.mem_iff];constructor
      ·intro y;obtain⟨n,hn,rfl⟩:=Mx.bJ.mp y;exact Mx.aU.mpr ((hm n).mpr hn)
      ·intro y;obtain⟨n,hn,rfl⟩:=Mx.bJ.mp y;exact Mx.aU.mpr ((hm n).mp hn)
     exact k _ p6 (.only (Vbcnai.both A [])) (s5.up n6) ⟨p5,.inl ab,.inl (by rw[ak (ao ab n6),ab,e];rfl)⟩ (D0 hO q2 hB.1 hm) hB
   ·refine aQ (λz=>nomatch z) ?_;have body:∀D,H' D=none->∀i x H'',(iv cur)[i]? =some x->aw H' H''->H'' D=some (.lst (iv ((cur.take i).filter λn=> !A.contains n)))->
      xS 4 x (wipe [some (.ref a),some (.ref d),some (.ref q),v4,v5] [4]) H'' λσ2 H2=>wipe σ2 [4]=wipe [some (.ref a),some (.ref d),some (.ref q),v4,v5] [4]/\tB (AX (gB 4) (gB 1)) σ2 H2 λb H3=>
       if b=true then gB 4 σ2 H3 λy H4=>∃acc,H4 D=some (.lst acc)/\acc.length<sizeLine/\(aw H' (upd H4 D (.lst (acc++[y])))/\(upd H4 D (.lst (acc++[y]))) D=some (.lst (iv ((cur.take (i+1)).filter λn=> !A.contains n))))
       else aw H' H3/\H3 D=some (.lst (iv ((cur.take (i+1)).filter λn=> !A.contains n))):=by
     intro D hD i x H'' hx s5 h5;obtain⟨n,hn,rfl⟩:=tV hx;refine⟨rfl,_,rfl,_,rfl,d,_,rfl,fb.k (k:=Sum.inl (n:Int)) (s5 _ _ e1),_,rfl,?_⟩;have ek:(cw kvs (Sum.inl (n:Int))).isSome=A.contains n:=by
      rw[Bool.eq_iff_iff,DW e2,List.contains_iff_mem]
     have et:cur.take (i+1)=cur.take i++[n]:=take_snoc hn;rw[ek,et,List.filter_append];cases hc:A.contains n with
     |false=>
      refine bK rfl ⟨_,rfl,_,h5,?_,s5.loc hD,?_⟩
      ·rw[cF];have h1:=(Kh (λn=> !A.contains n) (cur.take i));have h2:(cur.take i).length<=cur.length:=by rw[Kz];exact Nat.min_le_right _ _
       have h3:=q3.len;unfold Sm at hU;show _<2^24;omega
      ·rw[ab,DX (by rw[hc];rfl),nJ];rfl
     |true=>
      refine aQ (λz=>nomatch z) ⟨s5,?_⟩;rw[h5,DY (by rw[hc];exact λz=>nomatch z),Ks]
    have fin:∀D,H' D=none->∀H'',(aw H' H''/\H'' D=some (.lst (iv ((cur.take (iv cur).length).filter λn=> !A.contains n))))->∃p ys,[V.ref D]=[V.ref p]/\((ba K H'' p ys/\∀l,H'' l=none->(2<=sizeLine/\∀p_1,(upd H'' l (.tup ys)) p_1=none->Q (.ref p_1) (upd (upd H'' l (.tup ys)) p_1 (.tup [.int 1,.ref l]))))\/(eJ K H'' p ys/\(2<=sizeLine/\∀p_1,H'' p_1=none->Q (.ref p_1) (upd H'' p_1 (.tup [.int 1,.ref p]))))):=by
     rintro D hD H'' ⟨s5,h5⟩;rw[cF,Kt]at h5;refine⟨D,_,rfl,.inl ⟨ba.of h5,λp5 n5=>⟨(by decide),λp6 n6=>?_⟩⟩⟩;have s6:=(sm.trans s5).up (o:=.tup (iv (cur.filter λn=> !A.contains n))) n5;have hB:In U (Vbcnai.without cur A):=q3.without;exact k _ p6 (.but (Vbcnai.without cur A)) (s6.up n6) ⟨p5,.inl ab,.inl (by rw[ak (ao ab n6),ab];rfl)⟩ (FC hO q4 q6 hB.1 λn=>Mx.cM) hB
    rcases q2 with q2|q2
    ·exact .inl ⟨_,rfl,q,rfl,⟨_,ba.of q2⟩,λD hD=>rX (K:=K) (a:=q) (xs:=iv cur) (λi H''=>aw H' H''/\H'' D=some (.lst (iv ((cur.take i).filter λn=> !A.contains n)))) ⟨aw.new hD,by rw[ab];rfl⟩ (λi H'' _ h=>ba.of (h.1 _ _ q2)) (λi x H'' hx h=>body D hD i x H'' hx h.1 h.2) (fin D hD)⟩
    ·exact .inr ⟨_,rfl,q,rfl,⟨_,Tp.sq q2⟩,λD hD=>Dq (K:=K) (a:=q) (xs:=iv cur) (λi H''=>aw H' H''/\H'' D=some (.lst (iv ((cur.take i).filter λn=> !A.contains n)))) ⟨aw.new hD,by rw[ab];rfl⟩ (λi H'' _ h=>(q2.keep h.1.tk).sq) (λi x H'' hx h=>body D hD i x H'' hx h.1 h.2) (fin D hD)⟩
end
theorem o7 {X:Cx}{K:PySem.W.Frag}(h:X.K=K:=by rfl):IK X (Fh K):=h▸bt
theorem D2 {X:Cx}{K:PySem.W.Frag}(h:X.K=K:=by rfl):gC X (.builtin "len") (λxs H Q=>∃p ys,xs=[.ref p]/\(ba K H p ys\/eJ K H p ys)/\Q (.int ys.length) H):=h▸bu
theorem Jt {X:Cx}{K:PySem.W.Frag}(hu:X.A.units+64<cLine) (h:X.K=K:=by rfl):rV X (compareOp .NotEq) (Ig K):=h▸GJ hu
theorem kf {X:Cx}{K:PySem.W.Frag}{e:Expr}{ta:TE}{f:Str}{pos:Pos}(he:PE X e ta) (h:X.K=K:=by rfl) (hb:attributeBase e f X.env (eval e X.env)=eval e X.env:=by rfl):PE X (.Attribute e f pos) (tF K ta f):=h▸aB he hb
noncomputable def B3 (H:Hp) (Q:VK) (l:List Int):Prop:=∀(H':Hp) (p:Addr),aw H H'->H p=none->H' p=some (.lst (l.map V.int))->Q (.ref p) H'
theorem _root_.L2.aw.nn {H H':Hp}{p:Addr}(s:aw H H') (h:H' p=none):H p=none:=s.free h
section
variable{P:Program}{w:World}{K:PySem.W.Frag}{mg:Str->Option Value}{base:Heap}{c:Cs}
noncomputable def big:Nat:=1000000
theorem fK {n:Nat}(h:n<=big):n+20<=sizeLine:=by
 unfold big at h;show _<=2^24;omega
noncomputable def vF (K:PySem.W.Frag):Sp:=λvs H Q _=>∃(a:Addr) (ns:List Int),vs=[.ref a]/\(ba K H a (ns.map V.int)\/eJ K H a (ns.map V.int))/\ns.length<=big/\B3 H Q ((ns.length:Int)::ns)
theorem FD {K:PySem.W.Frag}{H H':Hp}{a:Addr}{xs:List V}(s:aw H H') (h:ba K H a xs\/eJ K H a xs):ba K H' a xs\/eJ K H' a xs:=by
 rcases h with h|h
 ·exact .inl (s.seq h)
 ·rcases h with(h|⟨o,h⟩)|h
  ·exact .inr (.inl (.inl (s _ _ h)))
  ·exact .inr (.inl (.inr ⟨o,s _ _ h⟩))
  ·exact .inr (.inr h)
theorem jj (T:Txt K mg c):Fn P w K mg base "counted" 1 ["numbers"] (vF K):=by
 refine T.qj.ok zU (λvs H Q E h=>?_) (λf cdv A outer s H vs Q E hr h=>?_)
 ·obtain⟨a,ns,rfl,_⟩:=h;rfl
 ·obtain⟨a,ns,rfl,ha,hl,k⟩:=h;refine⟨_,(ag (aj (cu fR (aC (aa (aO bu (by rfl) T.dJ cT (aa (pv 0) ae)) ae)) (aY wu (by rfl) T.tL wW (aa (pv 0) ae))))),?_⟩;refine⟨_,rfl,a,_,rfl,ha,(by show 1<=sizeLine;decide),λp1 n1=>?_⟩;have s1:aw H (upd H p1 (.lst [.int (ns.map V.int).length])):=aw.new n1;refine⟨_,rfl,a,_,rfl,FD s1 ha,λp2 n2=>?_⟩;have ne:p1≠p2:=ao ab n2;have s2:=s1.up (o:=.lst (ns.map V.int)) n2;refine⟨p1,p2,_,_,rfl,rfl,(by rw[ak ne];exact ab),ab,?_,λp3 n3=>?_⟩
  ·have:=fK hl;simp only[JQ,Kb,List.length_nil];omega
  ·refine k _ p3 (s2.up n3) (s2.nn n3) ?_;rw[ab,JQ];rfl
noncomputable def D3 (K:PySem.W.Frag):Sp:=λvs H Q _=>∃(a:Addr) (x:Want),vs=[.ref a]/\bC K H a x/\x.list.length<=big/\B3 H Q (Vbcnai.shownWant x)
theorem dC (l:List Nat):(zs l).length=l.length:=Mx.dI l
theorem dz (T:Txt K mg c):Fn P w K mg base "want_shown" 2 ["want"] (D3 K):=by
 refine T.jL.ok uK (λvs H Q E h=>?_) (λf cdv A outer s H vs Q E hr h=>?_)
 ·obtain⟨a,x,rfl,_⟩:=h;rfl
 ·obtain⟨a,x,rfl,⟨l,h1,h2⟩,hl,k⟩:=h;refine⟨_,(ag (aj (cu fR (aC (aa (aI bt (pv 0) ah (λ_ _=>rfl)) ae)) (az (jj T) hr (aa (aI bt (pv 0) ah (λ_ _=>rfl)) ae))))),?_⟩;refine⟨_,rfl,a,_,_,_,rfl,rfl,h1.sq,rfl,(by show 1<=sizeLine;decide),λp1 n1=>?_⟩;have s1:aw H (upd H p1 (.lst [.int x.mode])):=aw.new n1;refine⟨_,rfl,a,_,_,_,rfl,rfl,(h1.keep s1.tk).sq,rfl,l,zs x.list,rfl,.inr (Tp.sq (h2.keep s1.tk)),(by rw[dC];exact hl),λH2 p2 s2 n2 e2=>?_⟩;refine⟨p1,p2,_,_,rfl,rfl,s2 _ _ ab,e2,?_,λp3 n3=>?_⟩
  ·have:=fK hl;simp only[JQ,Kb,List.length_nil,dC];omega
  ·refine k _ p3 ((s1.trans s2).up n3) ((s1.trans s2).nn n3) ?_;rw[ab,dC];rfl
noncomputable def gc:mL->Nat
 |.set x=>x.list.length
 |.allow l=>l.length
 |.block l=>l.length
noncomputable def D4 (K:PySem.W.Frag):Sp:=λvs H Q _=>∃(a:Addr) (e:mL),vs=[.ref a]/\f7 K H a e/\gc e<=big/\B3 H Q (Vbcnai.shownStep e)
theorem o8 (T:Txt K mg c):Fn P w K mg base "step_shown" 3 ["step"] (D4 K):=by
 refine T.jM.ok uM (λvs H Q E h=>?_) (λf cdv A outer s H vs Q E hr h=>?_)
 ·obtain⟨a,e,rfl,_⟩:=h;rfl
 ·obtain⟨a,e,rfl,he,hl,k⟩:=h;refine⟨_,(af (aF (aR (az (o6 T) hr (aa (pv 0) ae)))
   (ag (aj (cu fR (aC (aa (aI bt (pv 0) ah (λ_ _=>rfl)) ae)) (az (dz T) hr (aa (aI bt (pv 0) ah (λ_ _=>rfl)) ae)))))
   au)
   (ag (aj (cu fR (aC (aa (aI bt (pv 0) ah (λ_ _=>rfl)) ae)) (az (jj T) hr (aa (aI bt (pv 0) ah (λ_ _=>rfl)) ae)))))),?_⟩
  refine⟨_,rfl,a,e,rfl,he,_,rfl,?_⟩;have plain:∀(z:Int) (u:Addr) (l:List Nat),Tp K H a [.int z,.ref u]->Tn K H u l->l.length<=big->B3 H Q ([z,(l.length:Int)]++zs l)->xR C0 (BC (E3 Ie (BL (dF (E3 (Fh K) (gB 0) (tC (V.int 0))) kj)) (AR (vF K) [] E0 (dF (E3 (Fh K) (gB 0) (tC (V.int 1))) kj)))) {nx:=λx H'=>Q V.bQ H',rt:=Q} (start ["step"] [V.ref a]) H:=by
   intro z u l h1 h2 hl k;refine⟨_,rfl,a,_,_,_,rfl,rfl,h1.sq,rfl,(by show 1<=sizeLine;decide),λp1 n1=>?_⟩;have s1:aw H (upd H p1 (.lst [.int z])):=aw.new n1;refine⟨_,rfl,a,_,_,_,rfl,rfl,(h1.keep s1.tk).sq,rfl,u,zs l,rfl,.inr (Tp.sq (h2.keep s1.tk)),(by rw[dC];exact hl),λH2 p2 s2 n2 e2=>?_⟩;refine⟨p1,p2,_,_,rfl,rfl,s2 _ _ ab,e2,?_,λp3 n3=>?_⟩
   ·have:=fK hl;simp only[JQ,Kb,List.length_nil,dC];omega
   ·refine k _ p3 ((s1.trans s2).up n3) ((s1.trans s2).nn n3) ?_;rw[ab,dC];rfl
  cases e with
  |set v=>
   obtain⟨u,h1,h2⟩:=he;refine bG ⟨_,rfl,a,_,_,_,rfl,rfl,h1.sq,rfl,(by show 1<=sizeLine;decide),λp1 n1=>?_⟩;have s1:aw H (upd H p1 (.lst [.int 0])):=aw.new n1;refine⟨_,rfl,a,_,_,_,rfl,rfl,(h1.keep s1.tk).sq,rfl,u,v,rfl,h2.keep s1.tk,hl,λH2 p2 s2 n2 e2=>?_⟩;refine⟨p1,p2,_,_,rfl,rfl,s2 _ _ ab,e2,?_,λp3 n3=>?_⟩
   ·have h3:v.list.length<=big:=hl;have:=fK h3;simp only[Vbcnai.shownWant,JQ,JV,Kb,List.length_nil,Mx.dI];omega
   ·refine k _ p3 ((s1.trans s2).up n3) ((s1.trans s2).nn n3) ?_;rw[ab];rfl
  |allow l=>
   obtain⟨u,h1,h2⟩:=he;exact bX (plain 1 u l h1 h2 hl k)
  |block l=>
   obtain⟨u,h1,h2⟩:=he;exact bX (plain 2 u l h1 h2 hl k)
noncomputable def ip (K:PySem.W.Frag) (H:Hp) (ts:List Addr) (es:List mL):Prop:=Paired (λt e=>f7 K H t e) ts es
theorem ip.keep {K:PySem.W.Frag}{H H':Hp}{ts:List Addr}{es:List mL}(h:ip K H ts es) (k:Tk H H'):ip K H' ts es:=Paired.imp (λ_ _ r=>r.keep k) h
noncomputable def FE (K:PySem.W.Frag):Sp:=λvs H Q _=>∃(a b:Addr) (l m:List Nat),vs=[.ref a,.ref b]/\Tn K H a l/\Tn K H b m/\
 ∀(H':Hp) (p:Addr) (ts:List Addr),aw H H'->H p=none->H' p=some (.lst (ts.map V.ref))->ip K H' ts ((if l=[]then[]else[.allow l])++(if m=[]then[]else[.block m]))->Q (.ref p) H'
theorem o9 (T:Txt K mg c):Fn P w K mg base "steps_with" 1 ["allowed","blocked"] (FE K):=by
 refine T.jI.ok l9 (λvs H Q E h=>?_) (λf cdv A outer s H vs Q E hr h=>?_)
 ·obtain⟨a,b,l,m,rfl,_⟩:=h;rfl
 ·obtain⟨a,b,l,m,rfl,ha,hb,k⟩:=h;have nd:=l9.nd;refine⟨_,(ag (aj (sM rfl nd (wj (bS (aa (bS (aa (bz T.oZ) (aa (pv 0) ae))) (aa (bS (aa (bz T.rZ) (aa (pv 1) ae))) ae)))) (own:=[("step",2)]) (dG rfl) (λ_ _ _ _ _=>bH (i:=2) nd rfl (Or.inl rfl)) (λ_ _ _ _ _=>f9 (aE xV (aO (D2 (K:=K)) (by rfl) T.dJ cT (aa (aI (o7 (K:=K)) (pv 2) ah (λ_ _=>rfl)) ae)) ah (aD _))) (λ_ _ _ _ _=>(pv 2))))),?_⟩;refine⟨_,rfl,(by show 2<=sizeLine;decide),λt1 n1=>?_⟩;have s1:aw H (upd H t1 (.tup [.int 1,.ref a])):=aw.new n1;refine⟨_,rfl,(by show 2<=sizeLine;decide),λt2 n2=>?_⟩;have s2:=s1.up (o:=.tup [.int 2,.ref b]) n2;refine⟨(by show 2<=sizeLine;decide),λt3 n3=>?_⟩;have s3:=s2.up (o:=.tup [.ref t1,.ref t2]) n3;have e1:(upd (upd (upd H t1 (.tup [.int 1,.ref a])) t2 (.tup [.int 2,.ref b])) t3 (.tup [.ref t1,.ref t2])) t1=some (.tup [.int 1,.ref a]):=by
   rw[ak (ao (aw.new n2 _ _ ab) n3),ak (ao ab n2),ab]
  have e2:(upd (upd (upd H t1 (.tup [.int 1,.ref a])) t2 (.tup [.int 2,.ref b])) t3 (.tup [.ref t1,.ref t2])) t2=some (.tup [.int 2,.ref b]):=by
   rw[ak (ao ab n3),ab]
  have ha':=ha.keep s3.tk;have hb':=hb.keep s3.tk;generalize hH:(upd (upd (upd H t1 (.tup [.int 1,.ref a])) t2 (.tup [.int 2,.ref b])) t3 (.tup [.ref t1,.ref t2]))=H1 at s3 e1 e2 ha' hb';have e3:H1 t3=some (.tup [.ref t1,.ref t2]):=by rw[←hH,ab]
  refine⟨t3,rfl,⟨[.ref t1,.ref t2],.inl (.inl e3)⟩,λD hD=>?_⟩;refine Dq (K:=K) (a:=t3) (xs:=[.ref t1,.ref t2]) (λi H''=>aw H1 H''/\∃ts,H'' D=some (.lst (ts.map V.ref))/\ip K H1 ts (if i=0 then[]else(if l=[]then[]else[.allow l])++if i=1 then[]else(if m=[]then[]else[.block m])))
   ⟨aw.new hD,[],ab,.nil⟩ (λi H'' _ h=>.inl (.inl (h.1 _ _ e3))) ?_ ?_
  ·rintro i y H'' hi ⟨s5,ts,h5,h6⟩
   match i,hi with
   |0,hi=>
    have ey:y=.ref t1:=(JU hi).symm;subst ey;refine⟨rfl,_,rfl,t1,_,_,_,rfl,rfl,.inl (.inl (s5 _ _ e1)),rfl,a,_,rfl,.inr (Tp.sq (ha'.keep s5.tk)),_,_,rfl,rfl,_,rfl,b7 (λh=>?_) (λh=>?_)⟩
    ·rw[JT,cF]at h;have hl:¬l=[]:=λz=>by rw[z]at h;simp at h
     refine⟨_,rfl,_,h5,?_,s5.loc hD,[t1],?_,?_⟩
     ·have:ts=[]:=by cases h6;rfl
      rw[this];decide
     ·have:ts=[]:=by cases h6;rfl
      rw[this,ab];rfl
     ·rw[if_neg (by decide),if_neg hl,if_pos rfl];exact .cons ⟨a,.inl e1,ha'⟩ .nil
    ·rw[JT,cF]at h;have hl:l=[]:=List.length_eq_zero_iff.mp (by omega);refine⟨s5,ts,h5,?_⟩;rw[if_neg (by decide),if_pos hl,if_pos rfl];exact h6
   |1,hi=>
    have ey:y=.ref t2:=(JU hi).symm;subst ey;rw[if_neg (by decide),if_pos rfl,Ks]at h6;have h7:ts.length<=1:=by
     have:=Paired.length h6;rw[this];split<;>simp
    refine⟨rfl,_,rfl,t2,_,_,_,rfl,rfl,.inl (.inl (s5 _ _ e2)),rfl,b,_,rfl,.inr (Tp.sq (hb'.keep s5.tk)),_,_,rfl,rfl,_,rfl,b7 (λh=>?_) (λh=>?_)⟩
    ·rw[JT,cF]at h;have hl:¬m=[]:=λz=>by rw[z]at h;simp at h
     refine⟨_,rfl,_,h5,?_,s5.loc hD,ts++[t2],?_,?_⟩
     ·rw[JQ];show _<2^24;omega
     ·rw[ab,Ki];rfl
     ·rw[if_neg (show ¬(1+1=0) by decide),if_neg (show ¬(1+1=1) by decide),if_neg hl];have app:∀{xs:List Addr}{ys:List mL},ip K H1 xs ys->ip K H1 (xs++[t2]) (ys++[.block m]):=by
       intro xs ys h
       induction h with
       |nil=>exact .cons ⟨b,.inl e2,hb'⟩ .nil
       |cons r _ ih=>exact .cons r ih
      exact app h6
    ·rw[JT,cF]at h;have hl:m=[]:=List.length_eq_zero_iff.mp (by omega);refine⟨s5,ts,h5,?_⟩;rw[if_neg (show ¬(1+1=0) by decide),if_neg (show ¬(1+1=1) by decide),if_pos hl,Ks];exact h6
   |i+2,hi=>simp at hi
  ·rintro H'' ⟨s5,ts,h5,h6⟩;refine k H'' D ts (s3.trans s5) (s3.nn hD) h5 ?_;rw[if_neg (show ¬([V.ref t1,V.ref t2].length=0) by simp),if_neg (show ¬([V.ref t1,V.ref t2].length=1) by simp)]at h6;exact h6.keep s5.tk
noncomputable def B4 (K:PySem.W.Frag):Sp:=λvs H Q _=>∃(a b:Addr) (x y:Want) (U:List Nat),vs=[.ref a,.ref b]/\bC K H a x/\bC K H b y/\ji U x/\ji U y/\Sm U/\
 ∀(H':Hp) (p:Addr) (ts:List Addr),aw H H'->H p=none->H' p=some (.lst (ts.map V.ref))->ip K H' ts (Vbcnai.steps x y)->Q (.ref p) H'
theorem rK (T:Txt K mg c):Fn P w K mg base "steps_between" 2 ["one","other"] (B4 K):=by
 refine T.fT.ok jb (λvs H Q E h=>?_) (λf cdv A outer s H vs Q E hr h=>?_)
 ·obtain⟨a,b,x,y,U,rfl,_⟩:=h;rfl
 ·obtain⟨a,b,x,y,U,rfl,ha,hb,ix,iy,hU,k⟩:=h;have nd:=jb.nd;refine⟨_,(af (aF (aE vi (aI bt (pv 0) ah (λ_ _=>rfl)) (aI bt (pv 1) ah (λ_ _=>rfl)) (aD _))
   (ag (aj (aC (aa (bS (aa (bz T.vC) (aa (pv 1) ae))) ae))))
   au)
   (af (aT (i:=2) nd rfl (Or.inl rfl) (az (ql T) hr (aa (aI bt (pv 1) ah (λ_ _=>rfl)) (aa (aI bt (pv 0) ah (λ_ _=>rfl)) ae))))
   (af (aT (i:=3) nd rfl (Or.inl rfl) (az (ql T) hr (aa (aI bt (pv 0) ah (λ_ _=>rfl)) (aa (aI bt (pv 1) ah (λ_ _=>rfl)) ae))))
   (af (aF (aE bj (aI bt (pv 0) ah (λ_ _=>rfl)) (bz T.k8) (aD _))
   (ag (aj (az (o9 T) hr (aa (pv 2) (aa (pv 3) ae)))))
   au)
   (ag (aj (az (o9 T) hr (aa (pv 3) (aa (pv 2) ae))))))))),?_⟩
  obtain⟨u,h1,h2⟩:=ha;obtain⟨v,h3,h4⟩:=hb;refine⟨_,rfl,a,_,_,_,rfl,rfl,h1.sq,rfl,_,rfl,b,_,_,_,rfl,rfl,h3.sq,rfl,rfl,_,rfl,b7 (λh=>?_) (λh=>?_)⟩
  ·have hm:¬x.mode=y.mode:=λe=>by rw[e]at h;simp at h
   refine⟨_,rfl,(by show 2<=sizeLine;decide),λp1 n1=>⟨(by show 1<=sizeLine;decide),λp2 n2=>?_⟩⟩;have s1:aw H (upd H p1 (.tup [.int 0,.ref b])):=aw.new n1;refine k _ p2 [p1] (s1.up n2) (s1.nn n2) ab ?_;unfold Vbcnai.steps;rw[if_pos hm];exact .cons ⟨b,.inl (aw.new n2 _ _ ab),⟨v,h3.keep (s1.up n2).tk,h4.keep (s1.up n2).tk⟩⟩ .nil
  ·have hm:x.mode=y.mode:=by
    have:V.int x.mode=V.int y.mode:=by simpa using h
    injection this with this;exact Int.ofNat.inj this
   refine⟨_,rfl,b,_,_,_,rfl,rfl,h3.sq,rfl,_,rfl,a,_,_,_,rfl,rfl,h1.sq,rfl,v,u,_,_,U,rfl,h4,h2,iy,ix,hU,λH1 p1 s1 e1=>?_⟩;refine⟨_,rfl,a,_,_,_,rfl,rfl,(h1.keep s1.tk).sq,rfl,_,rfl,b,_,_,_,rfl,rfl,(h3.keep s1.tk).sq,rfl,u,v,_,_,U,rfl,h2.keep s1.tk,h4.keep s1.tk,ix,iy,hU,λH2 p2 s2 e2=>?_⟩;have s12:=s1.trans s2;refine⟨_,rfl,a,_,_,_,rfl,rfl,(h1.keep s12.tk).sq,rfl,rfl,_,rfl,?_⟩;cases x with
   |only l=>
    refine bK rfl ⟨_,rfl,_,rfl,p1,p2,_,_,rfl,e1.keep s2.tk,e2,λH3 p ts s3 n3 h5 h6=>k H3 p ts (s12.trans s3) (s12.nn n3) h5 ?_⟩;unfold Vbcnai.steps;rw[if_neg (λz=>z hm)];exact h6
   |but l=>
    refine aQ (λz=>nomatch z) ⟨_,rfl,_,rfl,p2,p1,_,_,rfl,e2,e1.keep s2.tk,λH3 p ts s3 n3 h5 h6=>k H3 p ts (s12.trans s3) (s12.nn n3) h5 ?_⟩;unfold Vbcnai.steps;rw[if_neg (λz=>z hm)];exact h6
end
theorem vG:∀{l:List Int},Vbcnai.rising l=true->l.Pairwise (·<·)
 |[],_=>.nil
 |[a],_=>List.pairwise_singleton ..
 |a::b::l,h=>by
  have h':(decide (a<b)&&Vbcnai.rising (b::l))=true:=h;rw[JS,JT]at h';have ih:=vG h'.2;refine List.pairwise_cons.mpr ⟨λx hx=>?_,ih⟩;rcases JX.mp hx with q|q
  ·rw[q];exact h'.1
  ·exact Int.lt_trans h'.1 ((List.pairwise_cons.mp ih).1 x q)
structure Hc (ns:List Int):Prop where
 eq:ns=zs (Vbcnai.nats ns)
 up:Up (Vbcnai.nats ns)
 len:(Vbcnai.nats ns).length<=64
theorem cz {ns:List Int}(h:Vbcnai.isRow ns=true):Hc ns:=by
 unfold Vbcnai.isRow at h;rw[JS,JS,JT,List.all_eq_true]at h;obtain⟨h1,h2,h3⟩:=h;have h0:∀z∈ns,0<=z:=λz hz=>by
  have:=h3 z hz;unfold Vbcnai.within at this;rw[JS,JT,JT]at this;exact this.1
 exact⟨(Mx.pW h0).symm,Mx.wG (vG h2) h0,by unfold Vbcnai.nats;rw[JQ];exact h1⟩
theorem FF {H:Hp}{Q:VK}{z:Int}(k:B3 H Q [z]):([V.int z].length<=sizeLine/\∀p,H p=none->Q (.ref p) (upd H p (.lst [.int z]))):=⟨by show 1<=sizeLine;decide,λp n=>k _ p (aw.new n) n ab⟩
theorem fL {x:Want}{U:List Nat}(h:ji U x) (u:Sm U):x.list.length<=big:=by
 have:=In.len h;unfold Sm at u;unfold big;omega
section
variable{P:Program}{w:World}{K:PySem.W.Frag}{mg:Str->Option Value}{base:Heap}{c:Cs}
noncomputable def b6 (m n:Int) (xs ys:List Int):Bool:=Vbcnai.within m 0 1&&(Vbcnai.within n 0 1&&(Vbcnai.isRow xs&&Vbcnai.isRow ys))
noncomputable def Ir (K:PySem.W.Frag):Sp:=λvs H Q _=>∃(m n:Int) (a b:Addr) (xs ys:List Int),vs=[.int m,.int n,.ref a,.ref b]/\ba K H a (xs.map V.int)/\ba K H b (ys.map V.int)/\Q (.bl (b6 m n xs ys)) H
theorem rj (T:Txt K mg c):Fn P w K mg base "are_wants" 3 ["mode_one","mode_other","one","other"] (Ir K):=by
 refine T.lD.ok wQ (λvs H Q E h=>?_) (λf cdv A outer s H vs Q E hr h=>?_)
 ·obtain⟨m,n,a,b,xs,ys,rfl,_⟩:=h;rfl
 ·obtain⟨m,n,a,b,xs,ys,rfl,ha,hb,k⟩:=h;refine⟨_,(ag (aj (mV (az (qk T) hr (aa (pv 0) ae)) (mV (az (qk T) hr (aa (pv 1) ae)) (mV (az (o4 T) hr (aa (pv 2) ae)) (mU (az (o4 T) hr (aa (pv 3) ae)))))))),?_⟩;unfold b6 at k;refine⟨_,rfl,m,rfl,_,rfl,b7 (λh=>?_) (λh=>?_)⟩
  ·have h1:Vbcnai.within m 0 1=true:=h;rw[h1,Bool.true_and]at k;refine⟨_,rfl,n,rfl,_,rfl,b7 (λh=>?_) (λh=>?_)⟩
   ·have h1:Vbcnai.within n 0 1=true:=h;rw[h1,Bool.true_and]at k;refine⟨_,rfl,a,xs,rfl,ha,_,rfl,b7 (λh=>?_) (λh=>?_)⟩
    ·rw[h,Bool.true_and]at k;exact⟨_,rfl,b,ys,rfl,hb,k⟩
    ·rw[eq_false_of_ne_true h]at k;exact k
   ·have h1:Vbcnai.within n 0 1=false:=eq_false_of_ne_true h;rw[h1]at k;exact k
  ·have h1:Vbcnai.within m 0 1=false:=eq_false_of_ne_true h;rw[h1]at k;exact k
theorem gT {m:Int}{xs:List Int}{H:Hp}{t l:Addr}(hm:Vbcnai.within m 0 1=true) (h:Hc xs) (h1:H t=some (.tup [.int m,.ref l])) (h2:H l=some (.tup (xs.map V.int))):bC K H t (Vbcnai.wantOf m xs):=by
 unfold Vbcnai.within at hm;rw[JS,JT,JT]at hm;refine⟨l,.inl ?_,.inl ?_⟩
 ·rw[h1];unfold Vbcnai.wantOf
  by_cases e:m=0
  ·rw[if_pos e,e];rfl
  ·rw[if_neg e,show m=1 by omega];rfl
 ·have e:(Vbcnai.wantOf m xs).list=Vbcnai.nats xs:=by
   unfold Vbcnai.wantOf;split<;>rfl
  rw[h2,e];unfold iv;rw[←h.eq]
theorem gm {m:Int}{xs:List Int}{U:List Nat}(h:Hc xs) (hU:∀x∈Vbcnai.nats xs,x∈U):ji U (Vbcnai.wantOf m xs):=by
 have e:(Vbcnai.wantOf m xs).list=Vbcnai.nats xs:=by
  unfold Vbcnai.wantOf;split<;>rfl
 unfold ji;rw[e];exact⟨h.up,hU⟩
noncomputable def FG (K:PySem.W.Frag):Sp:=λvs H Q _=>∃(m n:Int) (a b:Addr) (xs ys:List Int),vs=[.int m,.int n,.ref a,.ref b]/\ba K H a (xs.map V.int)/\ba K H b (ys.map V.int)/\
 B3 H Q (if b6 m n xs ys=false then[-1]else 0::Vbcnai.shownWant (Vbcnai.merge (Vbcnai.wantOf m xs) (Vbcnai.wantOf n ys)))
theorem wX (T:Txt K mg c):Fn P w K mg base "call_merge" 4 ["mode_one","mode_other","one","other"] (FG K):=by
 refine T.jS.ok uN (λvs H Q E h=>?_) (λf cdv A outer s H vs Q E hr h=>?_)
 ·obtain⟨m,n,a,b,xs,ys,rfl,_⟩:=h;rfl
 ·obtain⟨m,n,a,b,xs,ys,rfl,ha,hb,k⟩:=h;refine⟨_,(af (aF (aX (aR (az (rj T) hr (aa (pv 0) (aa (pv 1) (aa (pv 2) (aa (pv 3) ae)))))))
   (ag (aj (aC (aa (br aS ah) ae))))
   au)
   (ag (aj (cu fR (aC (aa ah ae)) (az (dz T) hr (aa (az (tW T) hr (aa (aC (aa (bS (aa (pv 0) (aa (aY bD (by rfl) T.dY dN (aa (pv 2) ae)) ae))) (aa (bS (aa (pv 1) (aa (aY bD (by rfl) T.dY dN (aa (pv 3) ae)) ae))) ae))) ae)) ae)))))),?_⟩
  refine⟨_,rfl,_,rfl,_,rfl,_,rfl,m,n,a,b,xs,ys,rfl,ha,hb,_,rfl,?_⟩;cases h1:b6 m n xs ys with
  |false=>
   rw[h1,if_pos rfl]at k;exact bG ⟨_,rfl,FF k⟩
  |true=>
   rw[h1,if_neg (λz=>nomatch z)]at k;refine bX ⟨(by show 1<=sizeLine;decide),λp0 n0=>?_⟩;unfold b6 at h1;rw[JS,JS,JS]at h1;obtain⟨hm,hn,h3,h4⟩:=h1;have r3:=cz h3;have r4:=cz h4;have s0:aw H (upd H p0 (.lst [.int 0])):=aw.new n0;refine⟨_,rfl,_,rfl,a,_,rfl,.inl ⟨s0.seq ha,λp1 n1=>⟨(by show 2<=sizeLine;decide),λp2 n2=>?_⟩⟩⟩;have s1:aw (upd H p0 (.lst [.int 0])) (upd (upd H p0 (.lst [.int 0])) p1 (.tup (xs.map V.int))):=aw.new n1;have s2:=s1.up (o:=.tup [.int m,.ref p1]) n2;have e1:=(aw.new (o:=.tup [.int m,.ref p1]) n2) _ _ (ab (H:=(upd H p0 (.lst [.int 0]))) (a:=p1) (o:=.tup (xs.map V.int)));have e2:(upd (upd (upd H p0 (.lst [.int 0])) p1 (.tup (xs.map V.int))) p2 (.tup [.int m,.ref p1])) p2=some (.tup [.int m,.ref p1]):=ab;generalize (upd (upd (upd H p0 (.lst [.int 0])) p1 (.tup (xs.map V.int))) p2 (.tup [.int m,.ref p1]))=H2 at s2 e1 e2;have s02:=s0.trans s2;refine⟨_,rfl,_,rfl,b,_,rfl,.inl ⟨s02.seq hb,λp3 n3=>⟨(by show 2<=sizeLine;decide),λp4 n4=>?_⟩⟩⟩;have s3:aw H2 (upd H2 p3 (.tup (ys.map V.int))):=aw.new n3;have s4:=s3.up (o:=.tup [.int n,.ref p3]) n4;have e3:=(aw.new (o:=.tup [.int n,.ref p3]) n4) _ _ (ab (H:=H2) (a:=p3) (o:=.tup (ys.map V.int)));have e4:(upd (upd H2 p3 (.tup (ys.map V.int))) p4 (.tup [.int n,.ref p3])) p4=some (.tup [.int n,.ref p3]):=ab;generalize (upd (upd H2 p3 (.tup (ys.map V.int))) p4 (.tup [.int n,.ref p3]))=H4 at s4 e3 e4;refine⟨(by show 2<=sizeLine;decide),λp5 n5=>?_⟩;have s5:=s4.up (o:=.lst [.ref p2,.ref p4]) n5;have t5:Tk H4 (upd H4 p5 (.lst [.ref p2,.ref p4])):=(aw.new n5).tk;have w1:bC K H2 p2 _:=gT (K:=K) hm r3 e2 e1;have w2:bC K H4 p4 _:=gT (K:=K) hn r4 e4 e3;have i1:ji (Vbcnai.nats xs++Vbcnai.nats ys) (Vbcnai.wantOf m xs):=gm r3 λx hx=>List.mem_append_left _ hx;have i2:ji (Vbcnai.nats xs++Vbcnai.nats ys) (Vbcnai.wantOf n ys):=gm r4 λx hx=>Ku _ hx;have hU:Sm (Vbcnai.nats xs++Vbcnai.nats ys):=by
    unfold Sm;rw[JV];have:=r3.len;have:=r4.len;omega
   refine⟨p5,[p2,p4],[Vbcnai.wantOf m xs,Vbcnai.wantOf n ys],_,rfl,ba.of ab,.cons (w1.keep s5.tk) (.cons (w2.keep t5) .nil),λv hv=>?_,hU,λH6 p6 x s6 w6 m6 i6=>?_⟩
   ·rcases JX.mp hv with q|q
    ·rw[q];exact i1
    ·rw[J6.mp q];exact i2
   ·have ex:x=Vbcnai.merge (Vbcnai.wantOf m xs) (Vbcnai.wantOf n ys):=by
     refine m6.uniq (vs:=[Vbcnai.wantOf m xs,Vbcnai.wantOf n ys]) ?_ λv=>Iff.rfl;have h0:z6 [Vbcnai.wantOf m xs] (Vbcnai.wantOf m xs):=⟨i1.1,⟨λz v hv=>by rw[J6.mp hv];exact z,λz=>z _ (J6.mpr rfl)⟩,λn=>⟨λz=>⟨_,J6.mpr rfl,z⟩,λ⟨v,hv,z⟩=>by rw[J6.mp hv]at z;exact z⟩⟩;exact h0.snoc i2.1
    subst ex;have s06:=(s02.trans s5).trans s6;refine⟨p6,_,rfl,w6,fL i6 hU,λH7 p7 s7 n7 e7=>?_⟩;have s67:=((s2.trans s5).trans s6).trans s7;refine⟨p0,p7,_,_,rfl,rfl,s67 _ _ ab,e7,?_,λp8 n8=>?_⟩
    ·have:=fK (fL i6 hU);simp only[Vbcnai.shownWant,JQ,JV,Kb,List.length_nil,Mx.dI];omega
    ·refine k _ p8 ((s0.trans s67).up n8) ((s0.trans s67).nn n8) ?_;rw[ab];rfl
noncomputable def FH (K:PySem.W.Frag):Sp:=λvs H Q _=>∃(m n:Int) (a b:Addr) (xs ys:List Int),vs=[.int m,.int n,.ref a,.ref b]/\ba K H a (xs.map V.int)/\ba K H b (ys.map V.int)/\
 B3 H Q (if b6 m n xs ys=false then[-1]else[0,((Vbcnai.steps (Vbcnai.wantOf m xs) (Vbcnai.wantOf n ys)).length:Int)]++(Vbcnai.steps (Vbcnai.wantOf m xs) (Vbcnai.wantOf n ys)).flatMap Vbcnai.shownStep)
end
theorem D5 {U:List Nat}{x y:Want}(ix:ji U x) (iy:ji U y):∀e∈Vbcnai.steps x y,Cy U e:=by
 intro e he;unfold Vbcnai.steps at he;split at he
 ·rw[J6.mp he];exact iy
 ·cases x with
  |only l=>
   simp only[Ky]at he;rcases he with he|he
   ·split at he
    ·exact nomatch he
    ·rw[J6.mp he];exact In.without iy
   ·split at he
    ·exact nomatch he
    ·rw[J6.mp he];exact In.without ix
  |but l=>
   simp only[Ky]at he;rcases he with he|he
   ·split at he
    ·exact nomatch he
    ·rw[J6.mp he];exact In.without ix
   ·split at he
    ·exact nomatch he
    ·rw[J6.mp he];exact In.without iy
theorem nL {U:List Nat}{e:mL}(h:Cy U e):gc e<=U.length:=by
 cases e with
 |set x=>exact In.len h
 |allow l=>exact In.len h
 |block l=>exact In.len h
theorem bP (x:Want):(Vbcnai.shownWant x).length=x.list.length+2:=by
 unfold Vbcnai.shownWant;rw[JV,Mx.dI];show 2+_=_;omega
theorem dO (e:mL):(Vbcnai.shownStep e).length<=gc e+3:=by
 cases e with
 |set x=>
  show(Vbcnai.shownWant x).length+1<=_;rw[bP];show x.list.length+2+1<=x.list.length+3;omega
 |allow l=>
  show([1,(l.length:Int)]++Vbcnai.ints l).length<=l.length+3;rw[JV,Mx.dI];show 2+_<=_;omega
 |block l=>
  show([2,(l.length:Int)]++Vbcnai.ints l).length<=l.length+3;rw[JV,Mx.dI];show 2+_<=_;omega
theorem gU {α β:Type}{f:α->List β}{B:Nat}:∀{l:List α},(∀e∈l,(f e).length<=B)->(l.flatMap f).length<=l.length*B
 |[],_=>by simp
 |a::l,h=>by
  have ih:=gU (l:=l) λe he=>h e (JW _ he);have h1:=h a (JZ ..);rw[List.flatMap_cons,JV,Kb,Nat.succ_mul];omega
theorem qm {α β:Type}{f:α->List β}{l:List α}{i:Nat}{x:α}(h:l[i]? =some x):(l.take (i+1)).flatMap f=(l.take i).flatMap f++f x:=by
 rw[take_snoc h,List.flatMap_append];simp
theorem vH (x y:Want):(Vbcnai.steps x y).length<=2:=by
 unfold Vbcnai.steps;split
 ·simp
 ·simp only[JV];have:∀(c:Prop) [Decidable c] (e:mL),(if c then[]else[e]).length<=1:=by
   intro c _ e;split<;>simp
  exact Nat.add_le_add (this _ _) (this _ _)
section
variable{P:Program}{w:World}{K:PySem.W.Frag}{mg:Str->Option Value}{base:Heap}{c:Cs}
theorem wY (T:Txt K mg c):Fn P w K mg base "call_steps" 4 ["mode_one","mode_other","one","other"] (FH K):=by
 refine T.jT.ok mG (λvs H Q E h=>?_) (λf cdv A outer s H vs Q E hr h=>?_)
 ·obtain⟨m,n,a,b,xs,ys,rfl,_⟩:=h;rfl
 ·obtain⟨m,n,a,b,xs,ys,rfl,ha,hb,k⟩:=h;have nd:=mG.nd;refine⟨_,(af (aF (aX (aR (az (rj T) hr (aa (pv 0) (aa (pv 1) (aa (pv 2) (aa (pv 3) ae)))))))
   (ag (aj (aC (aa (br aS ah) ae))))
   au)
   (af (aT (i:=4) nd rfl (Or.inl rfl) (az (rK T) hr (aa (bS (aa (pv 0) (aa (aY bD (by rfl) T.dY dN (aa (pv 2) ae)) ae))) (aa (bS (aa (pv 1) (aa (aY bD (by rfl) T.dY dN (aa (pv 3) ae)) ae))) ae))))
   (af (aT (i:=5) nd rfl (Or.inl rfl) (aC (aa ah (aa (aO bu (by rfl) T.dJ cT (aa (pv 4) ae)) ae))))
   (af (fQ PassesOwn.never rfl (du (pv 4)) (bH (i:=6) nd rfl (Or.inl rfl))
   (ag (aM (i3 PySem.F.plainAttrs_list PySem.F.slot_list_extend PySem.F.type_list_extend gh (pv 5) (aa (az (o8 T) hr (aa (pv 6) ae)) ae)))))
   (ag (aj (pv 5))))))),?_⟩
  refine⟨_,rfl,_,rfl,_,rfl,_,rfl,m,n,a,b,xs,ys,rfl,ha,hb,_,rfl,?_⟩;cases h1:b6 m n xs ys with
  |false=>
   rw[h1,if_pos rfl]at k;exact bG ⟨_,rfl,FF k⟩
  |true=>
   rw[h1,if_neg (λz=>nomatch z)]at k;unfold b6 at h1;rw[JS,JS,JS]at h1;obtain⟨hm,hn,h3,h4⟩:=h1;have r3:=cz h3;have r4:=cz h4;refine bX ⟨_,rfl,_,rfl,a,_,rfl,.inl ⟨ha,λp1 n1=>⟨(by show 2<=sizeLine;decide),λp2 n2=>?_⟩⟩⟩;have s1:aw H (upd H p1 (.tup (xs.map V.int))):=aw.new n1;have s2:=s1.up (o:=.tup [.int m,.ref p1]) n2;have e1:=(aw.new (o:=.tup [.int m,.ref p1]) n2) _ _ (ab (H:=H) (a:=p1) (o:=.tup (xs.map V.int)));have e2:(upd (upd H p1 (.tup (xs.map V.int))) p2 (.tup [.int m,.ref p1])) p2=some (.tup [.int m,.ref p1]):=ab;generalize (upd (upd H p1 (.tup (xs.map V.int))) p2 (.tup [.int m,.ref p1]))=H2 at s2 e1 e2;refine⟨_,rfl,_,rfl,b,_,rfl,.inl ⟨s2.seq hb,λp3 n3=>⟨(by show 2<=sizeLine;decide),λp4 n4=>?_⟩⟩⟩;have s3:aw H2 (upd H2 p3 (.tup (ys.map V.int))):=aw.new n3;have s4:=s3.up (o:=.tup [.int n,.ref p3]) n4;have e3:=(aw.new (o:=.tup [.int n,.ref p3]) n4) _ _ (ab (H:=H2) (a:=p3) (o:=.tup (ys.map V.int)));have e4:(upd (upd H2 p3 (.tup (ys.map V.int))) p4 (.tup [.int n,.ref p3])) p4=some (.tup [.int n,.ref p3]):=ab;generalize (upd (upd H2 p3 (.tup (ys.map V.int))) p4 (.tup [.int n,.ref p3]))=H4 at s4 e3 e4;have w1:bC K H2 p2 _:=gT (K:=K) hm r3 e2 e1;have w2:bC K H4 p4 _:=gT (K:=K) hn r4 e4 e3;have i1:ji (Vbcnai.nats xs++Vbcnai.nats ys) (Vbcnai.wantOf m xs):=gm r3 λx hx=>List.mem_append_left _ hx;have i2:ji (Vbcnai.nats xs++Vbcnai.nats ys) (Vbcnai.wantOf n ys):=gm r4 λx hx=>Ku _ hx;have hl:(Vbcnai.nats xs++Vbcnai.nats ys).length<=128:=by
    rw[JV];have:=r3.len;have:=r4.len;omega
   have hU:Sm (Vbcnai.nats xs++Vbcnai.nats ys):=Kj hl (by decide);refine⟨p2,p4,_,_,_,rfl,w1.keep s4.tk,w2,i1,i2,hU,λH5 p5 ts s5 n5 e5 h5=>?_⟩;have hin:=D5 i1 i2;have hle:=vH (Vbcnai.wantOf m xs) (Vbcnai.wantOf n ys);generalize Vbcnai.steps (Vbcnai.wantOf m xs) (Vbcnai.wantOf n ys)=es at k h5 hin hle;have FI:ts.length=es.length:=Paired.length h5;have s05:=(s2.trans s4).trans s5;refine⟨_,rfl,p5,_,rfl,.inl (ba.of e5),(by show 2<=sizeLine;decide),λp6 n6=>?_⟩;have bound:∀i,((es.take i).flatMap Vbcnai.shownStep).length<=300:=λi=>by
    have h6:=gU (l:=es.take i) (f:=Vbcnai.shownStep) (B:=131) λe he=>by
     have q1:=dO e;have q2:=nL (hin e (List.mem_of_mem_take he));omega
    have h7:(es.take i).length<=2:=Kj (by rw[Kz];exact Nat.min_le_right _ _) hle;have:=Nat.mul_le_mul_right 131 h7;omega
   refine⟨_,rfl,p5,rfl,⟨_,ba.of (aw.new n6 _ _ e5)⟩,dE (K:=K) (a:=p5) (xs:=ts.map V.ref) (λi σ H'=>∃v:Option V,σ=[some (.int m),some (.int n),some (.ref a),some (.ref b),some (.ref p5),some (.ref p6),v]/\aw H5 H'/\H' p6=some (.lst (([0,(es.length:Int)]++(es.take i).flatMap Vbcnai.shownStep).map V.int)))
    ⟨none,rfl,aw.new n6,by rw[ab,JQ,FI];rfl⟩ (λi σ H' _ ⟨_,_,s7,_⟩=>ba.of (s7 _ _ e5)) ?_ ?_⟩
   ·rintro i y σ H' hi ⟨v,rfl,s7,h7⟩;obtain⟨t,ht,rfl⟩:=tU hi;obtain⟨e,he,hse⟩:=Paired.at_ h5 ht;have hie:=hin e (Kd he);refine⟨_,rfl,.inl ⟨rfl,_,ba.of h7⟩,_,rfl,t,e,rfl,hse.keep s7.tk,?_,λH8 p8 s8 n8 e8=>?_⟩
    ·have q2:=nL hie;unfold big;omega
    ·refine⟨p6,p8,_,_,rfl,rfl,s8 _ _ h7,e8,?_,?_⟩
     ·have q1:=dO e;have q2:=nL hie;have q3:=bound i;rw[JQ,JQ,JV];show 2+_+_<=2^24;omega
     ·refine⟨_,rfl,(s7.trans s8).loc n6,?_⟩;rw[ab,qm he,←Ki,List.append_assoc]
   ·rintro σ H' ⟨v,rfl,s7,h7⟩;rw[JQ,FI,Kt]at h7;exact⟨_,rfl,k H' p6 (s05.trans s7) (s05.nn n6) h7⟩
end
section
variable{κ α:Type} [DecidableEq κ] [DecidableEq α]
structure Dk (emb:α->κ) (kvs:List (κ×V)) (f:α->Option V):Prop where
 inj:∀a b,emb a=emb b->a=b
 keys:∃A:List α,kvs.map (·.1)=A.map emb/\A.Nodup
 val:∀a,cw kvs (emb a)=f a
variable{emb:α->κ}{kvs:List (κ×V)}{f g:α->Option V}
theorem pb (k:κ):∀kvs:List (κ×V),(kvs.any λkv=>decide (kv.1=k))=true↔k∈kvs.map (·.1)
 |[]=>by simp
 |p::r=>by
  rw[List.any_cons,Bool.or_eq_true,pb k r,Kq,JX,JT];exact⟨λh=>h.imp Eq.symm id,λh=>h.imp Eq.symm id⟩
theorem Dk.mem (D:Dk emb kvs f){A:List α}(e:kvs.map (·.1)=A.map emb) (a:α):a∈A↔(f a).isSome=true:=by
 rw[←D.val,←gD,pb,e,Kr];exact⟨λh=>⟨a,h,rfl⟩,λ⟨b,hb,q⟩=>D.inj _ _ q▸hb⟩
theorem r8 {A B:List α}(ha:A.Nodup) (hb:B.Nodup) (h:∀a,a∈A↔a∈B):A.Perm B:=(List.perm_ext_iff_of_nodup ha hb).mpr h
theorem Dk.len (D:Dk emb kvs f){B:List α}(hb:B.Nodup) (h:∀a,(f a).isSome=true↔a∈B):kvs.length=B.length:=by
 obtain⟨A,e,n⟩:=D.keys;have:=congrArg List.length e;rw[JQ,JQ]at this;rw[this];exact(r8 n hb λa=>(D.mem e a).trans (h a)).length_eq
theorem Dk.put (D:Dk emb kvs f) (a:α) (v:V):Dk emb (putK kvs (emb a) v) (λb=>if b=a then some v else f b):=by
 obtain⟨A,e,n⟩:=D.keys;refine⟨D.inj,?_,λb=>?_⟩
 ·by_cases h:a∈A
  ·refine⟨A,?_,n⟩;unfold putK;rw[if_pos ((pb _ _).mpr (by rw[e];exact Kr.mpr ⟨a,h,rfl⟩)),List.map_map,←e];exact List.map_congr_left λp _=>by
    show(if p.1=_ then(p.1,v)else p).1=p.1;split<;>rfl
  ·refine⟨A++[a],?_,A0 n h⟩;unfold putK;rw[if_neg (λq=>h (by
    have q:=(pb _ _).mp q;rw[e]at q;obtain⟨b,hb,eb⟩:=Kr.mp q;exact D.inj _ _ eb▸hb)),Ki,e,Ki]
   rfl
 ·rw[Dr,D.val]
  by_cases q:b=a
  ·rw[if_pos q,if_pos (congrArg emb q)]
  ·rw[if_neg q,if_neg (λz=>q (D.inj _ _ z))]
theorem qo (k:κ):∀kvs:List (κ×V),(dH kvs k).map (·.1)=(kvs.map (·.1)).filter λx=>decide (x≠k)
 |[]=>rfl
 |p::r=>by
  by_cases e:p.1=k
  ·rw[pT e,qo k r,Kq,List.filter_cons_of_neg (by simp[e])]
  ·rw[lR e,Kq,qo k r,Kq,List.filter_cons_of_pos (by simp[e])]
theorem yC (k j:κ):∀kvs:List (κ×V),cw (dH kvs k) j=if j=k then none else cw kvs j
 |[]=>by
  show none=_;split<;>rfl
 |p::r=>by
  have ih:=yC k j r
  by_cases e:p.1=k
  ·rw[pT e,ih]
   by_cases q:j=k
   ·rw[if_pos q,if_pos q]
   ·rw[if_neg q,if_neg q,b9 (λz=>q (z.symm.trans e))]
  ·rw[lR e]
   by_cases y:p.1=j
   ·rw[cC y,cC y,if_neg (λz=>e (y.trans z))]
   ·rw[b9 y,b9 y,ih]
theorem Dk.drop (D:Dk emb kvs f) (a:α):Dk emb (dH kvs (emb a)) (λb=>if b=a then none else f b):=by
 obtain⟨A,e,n⟩:=D.keys;refine⟨D.inj,⟨A.filter λx=>decide (x≠a),?_,List.Pairwise.filter _ n⟩,λb=>?_⟩
 ·rw[qo,e,List.filter_map]
  congr 1
  refine List.filter_congr λx _=>?_;show decide (emb x≠emb a)=decide (x≠a)
  by_cases q:x=a
  ·rw[q];simp
  ·have q1:x≠a:=q;have q2:emb x≠emb a:=λz=>q (D.inj _ _ z);rw[J1 q1,J1 q2]
 ·rw[yC,D.val]
  by_cases q:b=a
  ·rw[if_pos q,if_pos (congrArg emb q)]
  ·rw[if_neg q,if_neg (λz=>q (D.inj _ _ z))]
theorem Dk.nil (inj:∀a b,emb a=emb b->a=b):Dk emb [] (λ_=>none):=⟨inj,⟨[],rfl,List.nodup_nil⟩,λ_=>rfl⟩
theorem Dk.congr (D:Dk emb kvs f) (h:∀a,f a=g a):Dk emb kvs g:=⟨D.inj,D.keys,λa=>(D.val a).trans (h a)⟩
end
noncomputable def eN (n:Nat):Key:=Sum.inl (n:Int)
noncomputable def eT (p:Nat×Nat):List Key:=[Sum.inl (p.1:Int),Sum.inl (p.2:Int)]
theorem qr:∀a b,eN a=eN b->a=b:=λa b e=>by
 unfold eN at e;injection e with e;exact Int.ofNat.inj e
theorem wZ:∀a b,eT a=eT b->a=b:=λa b e=>by
 unfold eT at e;injection e with e1 e2;injection e2 with e2;injection e1 with e1;injection e2 with e2;exact Prod.ext (Int.ofNat.inj e1) (Int.ofNat.inj e2)
noncomputable def DN (H:Hp) (d:Addr) (f:Nat->Option V):Prop:=∃kvs,H d=some (.dK kvs)/\Dk eN kvs f
noncomputable def DT (H:Hp) (d:Addr) (f:Nat×Nat->Option V):Prop:=∃kvs,H d=some (.dT kvs)/\Dk eT kvs f
noncomputable def valZ (f:Nat->Option V) (z:Int):Option V:=if 0<=z then f z.toNat else none
theorem Ju {kvs:List (Key×V)}{f:Nat->Option V}(D:Dk eN kvs f) (z:Int):cw kvs (Sum.inl z)=valZ f z:=by
 unfold valZ
 by_cases h:0<=z
 ·rw[if_pos h,←D.val];unfold eN;rw[Int.toNat_of_nonneg h]
 ·rw[if_neg h];obtain⟨A,e,_⟩:=D.keys;cases q:cw kvs (Sum.inl z)with
  |none=>rfl
  |some v=>
   have m:=AZ q;rw[e]at m;obtain⟨n,_,en⟩:=Kr.mp m;unfold eN at en;injection en with en;omega
section
variable{H H':Hp}{d:Addr}{f:Nat->Option V}{F:Nat×Nat->Option V}
theorem DN.get (D:DN H d f) (z:Int):fb H d (.int z) (valZ f z):=by
 obtain⟨kvs,e,D⟩:=D;rw[←Ju D];exact fb.k (k:=Sum.inl z) e
theorem DN.Gf (D:DN H d f):GQ H d:=let ⟨kvs,e,_⟩:=D; .inl ⟨kvs,.inl e⟩
theorem DT.Gf (D:DT H d F):GQ H d:=let ⟨kvs,e,_⟩:=D; .inr ⟨kvs,.inl e⟩
theorem DN.put (D:DN H d f){B:List Nat}(hb:B.Nodup) (h:∀a,(f a).isSome=true↔a∈B) (hl:B.length<sizeLine) (n:Nat) (v:V):
  ∃o,rD H d (.int n) v (upd H d o)/\(∀xs,o≠.tup xs)/\∀H',H' d=some o->DN H' d (λb=>if b=n then some v else f b):=by
 obtain⟨kvs,e,D⟩:=D;exact⟨_,rD.k (k:=eN n) e (by rw[D.len hb h];exact hl),λxs z=>(nomatch z),λH' e'=>⟨_,e',D.put n v⟩⟩
theorem DN.len (D:DN H d f){B:List Nat}(hb:B.Nodup) (h:∀a,(f a).isSome=true↔a∈B):∃kvs,H d=some (.dK kvs)/\kvs.length=B.length:=by
 obtain⟨kvs,e,D⟩:=D;exact⟨kvs,e,D.len hb h⟩
theorem DN.sorted (D:DN H d f){B:List Nat}(hb:Up B) (h:∀a,(f a).isSome=true↔a∈B):∃(kvs:List (Key×V)) (ks:List Int),H d=some (.dK kvs)/\kvs.map (·.1)=ks.map Sum.inl/\∀ns:List Int,ns.Perm ks->ns.Pairwise (·<=·)->ns=zs B:=by
 obtain⟨kvs,e,D⟩:=D;obtain⟨A,eA,nA⟩:=D.keys;refine⟨kvs,zs A,e,?_,λns hp hs=>?_⟩
 ·rw[eA];unfold zs Vbcnai.ints;rw[List.map_map];rfl
 ·refine Mx.gk hs (hp.nodup_iff.mpr (jU nA)) hb λz=>?_;rw[hp.mem_iff,Mx.bJ,Mx.bJ];exact⟨λ⟨n,hn,q⟩=>⟨n,(h n).mp ((D.mem eA n).mp hn),q⟩,λ⟨n,hn,q⟩=>⟨n,(D.mem eA n).mpr ((h n).mpr hn),q⟩⟩
theorem DN.keep (D:DN H d f) (k:∀o,H d=some o->H' d=some o):DN H' d f:=let ⟨kvs,e,D⟩:=D;⟨kvs,k _ e,D⟩
theorem DT.keep (D:DT H d F) (k:∀o,H d=some o->H' d=some o):DT H' d F:=let ⟨kvs,e,D⟩:=D;⟨kvs,k _ e,D⟩
theorem DN.congr {g:Nat->Option V}(D:DN H d f) (h:∀a,f a=g a):DN H d g:=let ⟨kvs,e,D⟩:=D;⟨kvs,e,D.congr h⟩
theorem DT.congr {G:Nat×Nat->Option V}(D:DT H d F) (h:∀a,F a=G a):DT H d G:=let ⟨kvs,e,D⟩:=D;⟨kvs,e,D.congr h⟩
noncomputable def uO (F:Nat×Nat->Option V) (x y:Int):Option V:=if 0<=x/\0<=y then F (x.toNat,y.toNat)else none
theorem DT.get (D:DT H d F){b:Addr}{x y:Int}(hb:H b=some (.tup [.int x,.int y])):fb H d (.ref b) (uO F x y):=by
 obtain⟨kvs,e,D⟩:=D;have hk:H b=some (.tup (([Sum.inl x,Sum.inl y]:List Key).map kV)):=hb;have q:cw kvs [Sum.inl x,Sum.inl y]=uO F x y:=by
  unfold uO
  by_cases h:0<=x/\0<=y
  ·rw[if_pos h,←D.val];unfold eT;show _=cw kvs [Sum.inl (x.toNat:Int),Sum.inl (y.toNat:Int)];rw[Int.toNat_of_nonneg h.1,Int.toNat_of_nonneg h.2]
  ·rw[if_neg h];obtain⟨A,eA,_⟩:=D.keys;cases q:cw kvs [Sum.inl x,Sum.inl y]with
   |none=>rfl
   |some v=>
    have m:=AZ q;rw[eA]at m;obtain⟨n,_,en⟩:=Kr.mp m;unfold eT at en;injection en with e1 e2;injection e2 with e2;injection e1 with e1;injection e2 with e2;exact absurd ⟨by omega,by omega⟩ h
 rw[←q];exact fb.t e hk
theorem DT.put (D:DT H d F){B:List (Nat×Nat)}(hb:B.Nodup) (h:∀a,(F a).isSome=true↔a∈B) (hl:B.length<sizeLine){b:Addr}{x y:Nat}(hk:H b=some (.tup [.int x,.int y])) (v:V):
  ∃o,rD H d (.ref b) v (upd H d o)/\(∀xs,o≠.tup xs)/\∀H',H' d=some o->DT H' d (λb=>if b=(x,y)then some v else F b):=by
 obtain⟨kvs,e,D⟩:=D;have hk:H b=some (.tup ((eT (x,y)).map kV)):=hk;exact⟨_,rD.t e hk (by rw[D.len hb h];exact hl),λxs z=>(nomatch z),λH' e'=>⟨_,e',D.put (x,y) v⟩⟩
theorem DT.len (D:DT H d F){B:List (Nat×Nat)}(hb:B.Nodup) (h:∀a,(F a).isSome=true↔a∈B):∃kvs,H d=some (.dT kvs)/\kvs.length=B.length:=by
 obtain⟨kvs,e,D⟩:=D;exact⟨kvs,e,D.len hb h⟩
end
noncomputable abbrev State:=Vbcnai.State
noncomputable abbrev Msg:=Vbcnai.Msg
noncomputable abbrev Ent:=Vbcnai.Entry
noncomputable abbrev Ho:=Vbcnai.Host
inductive Role where
 |n|sw|hd|bg|en|pl|fx|he
 |ho (i:Nat)|dw (i:Nat)|ds (i:Nat)
 deriving DecidableEq
noncomputable def Used (s:State):Role->Prop
 |.ho i|.dw i|.ds i=>(Vbcnai.hostOf s i).isSome=true
 |_=>True
noncomputable def gI:Option Nat->Int
 |some g=>g
 |none=> -1
noncomputable def Hd (h p g k t:Nat) (u:Addr):List (Str×V):=[("host",.int h),("port",.int p),("group",.int g),("serial",.int k),("sent",.int t),("step",.ref u)]
noncomputable def uP (p:Nat) (g:Int):List (Str×V):=[("port",.int p),("group",.int g)]
noncomputable def z8 (p k:Nat) (t:Addr) (u:Nat):List (Str×V):=[("port",.int p),("serial",.int k),("want",.ref t),("until",.int u)]
noncomputable def dq (K:PySem.W.Frag) (c:Cs) (H:Hp) (a:Addr):Msg->Prop
 |.report h p g k t e=>∃dx u,H a=some (.ins c.bc dx (Hd h p g k t u))/\f7 K H u e
 |.query p g=>∃dx,H a=some (.ins c.Query dx (uP p (gI g)))
noncomputable def bW (K:PySem.W.Frag) (c:Cs) (H:Hp) (a:Addr) (e:Ent):Prop:=∃dx t,H a=some (.ins c.Entry dx (z8 e.port e.serial t e.until_))/\bC K H t e.want
noncomputable def Iu (c:Cs):HO->Prop
 |.tup _=>True
 |.ins C _ _=>C=c.bc\/C=c.Query\/C=c.Entry
 |_=>False
noncomputable def Kp (c:Cs) (H H':Hp):Prop:=∀b o,H b=some o->Iu c o->H' b=some o
section
variable{K:PySem.W.Frag}{c:Cs}{H H' H2:Hp}{a:Addr}
theorem Kp.tk (k:Kp c H H'):Tk H H':=λb xs h=>k b _ h trivial
theorem Kp.trans (k:Kp c H H') (k2:Kp c H' H2):Kp c H H2:=λb o h i=>k2 b o (k b o h i) i
theorem _root_.L2.aw.kp (s:aw H H'):Kp c H H':=λb o h _=>s b o h
theorem dq.keep {m:Msg}(hm:dq K c H a m) (kk:Kp c H H'):dq K c H' a m:=by
 cases m with
 |report h p g k t e=>
  obtain⟨dx,u,h1,h2⟩:=hm;exact⟨dx,u,kk _ _ h1 (.inl rfl),h2.keep kk.tk⟩
 |query p g=>
  obtain⟨dx,h1⟩:=hm;exact⟨dx,kk _ _ h1 (.inr (.inl rfl))⟩
theorem bW.keep {e:Ent}(h:bW K c H a e) (k:Kp c H H'):bW K c H' a e:=by
 obtain⟨dx,t,h1,h2⟩:=h;exact⟨dx,t,k _ _ h1 (.inr (.inr rfl)),h2.keep k.tk⟩
end
noncomputable def qt (g:Role->Addr) (s:State):List (Str×V):=[("ports",.int s.ports),("me",.int s.cfg.me),("stay",.int s.cfg.stay),("every",.int s.cfg.every),("last",.int s.cfg.last),("most_messages",.int s.cfg.bag),("now",.int s.now),
 ("hosts",.ref (g .hd)),("switch",.ref (g .sw)),("bag",.ref (g .bg)),("lost",.int s.lost),("full",.int s.full)]
noncomputable def pI (g:Role->Addr) (s:State):List (Str×V):=[("most_entries",.int s.cfg.entries),("entries",.ref (g .en)),("plain",.ref (g .pl)),("fixed",.ref (g .fx)),("heard",.ref (g .he)),("silent",.int s.silent),("next_query",.int s.next)]
noncomputable def jk (x:Ho) (dw ds:Addr):List (Str×V):=[("number",.int x.id),("port",.int (gI x.port)),("wants",.ref dw),("serials",.ref ds)]
noncomputable def kg {α:Type}(R:Addr->α->Prop):Option V->Option α->Prop
 |none,none=>True
 |some v,some x=>∃a,v=.ref a/\R a x
 |_,_=>False
theorem kg.imp {α:Type}{R R':Addr->α->Prop}(f:∀a x,R a x->R' a x):∀{o:Option V}{p:Option α},kg R o p->kg R' o p
 |none,none,_=>trivial
 |some v,some x,⟨a,e,r⟩=>⟨a,e,f a x r⟩
 |none,some _,h=>h.elim
 |some _,none,h=>h.elim
structure jV (K:PySem.W.Frag) (c:Cs) (H:Hp) (a dw ds:Addr) (x:Ho):Prop where
 obj:∃dx,H a=some (.ins c.Host dx (jk x dw ds))
 Cz:∃f,DN H dw f/\∀n,kg (λt (y:Vbcnai.Has)=>bC K H t y.want) (f n) (Vbcnai.hasOf x n)
 HH:DN H ds λn=>(Vbcnai.hasOf x n).map λy=>.int y.serial
noncomputable def bx (s:State) (p:Nat×Nat):Option Vbcnai.Plain:=s.plains.find? λx=>x.port==p.1&&x.group==p.2
noncomputable def cU (s:State) (p:Nat):Option (Nat×Nat):=s.heard.find? λx=>x.1==p
structure ax (K:PySem.W.Frag) (c:Cs) (H:Hp) (g:Role->Addr) (s:State):Prop where
 nM:∃dx,H (g .n)=some (.ins c.Net dx (qt g s))
 pJ:∃dx,H (g .sw)=some (.ins c.Switch dx (pI g s))
 bag:∃as:List Addr,H (g .bg)=some (.lst (as.map V.ref))/\Paired (λa m=>dq K c H a m) as s.bag
 hosts:DN H (g .hd) λn=>(Vbcnai.hostOf s n).map λ_=>.ref (g (.ho n))
 host:∀n x,Vbcnai.hostOf s n=some x->jV K c H (g (.ho n)) (g (.dw n)) (g (.ds n)) x
 ent:∃f,DT H (g .en) f/\∀p:Nat×Nat,kg (bW K c H) (f p) (Vbcnai.entryOf s p.1 p.2)
 rk:DT H (g .pl) λp=>(bx s p).map λx=>.int x.until_
 fix:DN H (g .fx) λp=>if p∈s.fixed then some (.bl true)else none
 tX:DN H (g .he) λp=>(cU s p).map λx=>.int x.2
 inj:∀r r',Used s r->Used s r'->g r=g r'->r=r'
noncomputable def Ch (g:Role->Addr) (R:Role->Prop) (H H':Hp):Prop:=∀b o,H b=some o->(∀r,R r->g r≠b)->H' b=some o
section
variable{K:PySem.W.Frag}{c:Cs}{H H' H2:Hp}{g:Role->Addr}{s s':State}{R R':Role->Prop}
theorem Ch.refl:Ch g R H H:=λ_ _ h _=>h
theorem Ch.trans (a:Ch g R H H') (b:Ch g R H' H2):Ch g R H H2:=λx o h n=>b x o (a x o h n) n
theorem _root_.L2.aw.ch (s:aw H H'):Ch g R H H':=λb o h _=>s b o h
theorem Ch.upd {r:Role}{o:HO}(hr:R r):Ch g R H (upd H (g r) o):=λb u h n=>by
 rw[ak (λz=>n r hr z.symm)];exact h
structure gd (c:Cs):Prop where
 n:c.Net≠c.bc/\c.Net≠c.Query/\c.Net≠c.Entry
 sw:c.Switch≠c.bc/\c.Switch≠c.Query/\c.Switch≠c.Entry
 ho:c.Host≠c.bc/\c.Host≠c.Query/\c.Host≠c.Entry
theorem pd {C dx:Addr}{fs:List (Str×V)}(h:C≠c.bc/\C≠c.Query/\C≠c.Entry):¬Iu c (.ins C dx fs):=λz=>by
 rcases z with z|z|z
 ·exact h.1 z
 ·exact h.2.1 z
 ·exact h.2.2 z
theorem ax.Iv (N:ax K c H g s) (D:gd c):∀r,Used s r->∃o,H (g r)=some o/\¬Iu c o:=by
 intro r hr;have ht:∀i,(Vbcnai.hostOf s i).isSome=true->∃x,Vbcnai.hostOf s i=some x:=λi h=>Kw.mp h;cases r with
 |n=>obtain⟨dx,h⟩:=N.nM;exact⟨_,h,pd D.n⟩
 |sw=>obtain⟨dx,h⟩:=N.pJ;exact⟨_,h,pd D.sw⟩
 |bg=>obtain⟨dx,h,_⟩:=N.bag;exact⟨_,h,id⟩
 |hd=>obtain⟨dx,h,_⟩:=N.hosts;exact⟨_,h,id⟩
 |en=>obtain⟨f,⟨dx,h,_⟩,_⟩:=N.ent;exact⟨_,h,id⟩
 |pl=>obtain⟨dx,h,_⟩:=N.rk;exact⟨_,h,id⟩
 |fx=>obtain⟨dx,h,_⟩:=N.fix;exact⟨_,h,id⟩
 |he=>obtain⟨dx,h,_⟩:=N.tX;exact⟨_,h,id⟩
 |ho i=>
  obtain⟨x,hx⟩:=ht i hr;obtain⟨dx,h⟩:=(N.host i x hx).obj;exact⟨_,h,pd D.ho⟩
 |dw i=>
  obtain⟨x,hx⟩:=ht i hr;obtain⟨f,⟨dx,h,_⟩,_⟩:=(N.host i x hx).Cz;exact⟨_,h,id⟩
 |ds i=>
  obtain⟨x,hx⟩:=ht i hr;obtain⟨dx,h,_⟩:=(N.host i x hx).HH;exact⟨_,h,id⟩
theorem ax.kp (N:ax K c H g s) (D:gd c) (h:Ch g R H H') (hR:∀r,R r->Used s r):Kp c H H':=λb o e i=>h b o e λr hr z=>by
 obtain⟨u,hu,hn⟩:=N.Iv D r (hR r hr);rw[z,e]at hu;cases hu;exact hn i
theorem ax.at_ (N:ax K c H g s) (h:Ch g R H H') (hR:∀r,R r->Used s r){r:Role}(hu:Used s r) (hr:¬R r){o:HO}(e:H (g r)=some o):H' (g r)=some o:=h _ o e λr' hr' z=>hr (N.inj r' r (hR r' hr') hu z▸hr')
theorem ax.nN (N:ax K c H g s) (D:gd c) (h:Ch g R H H') (hR:∀r,R r->Used s r){n:Nat}{x:Ho}(hx:Vbcnai.hostOf s n=some x) (h1:¬R (.ho n)) (h2:¬R (.dw n)) (h3:¬R (.ds n)):
  jV K c H' (g (.ho n)) (g (.dw n)) (g (.ds n)) x:=by
 have u:(Vbcnai.hostOf s n).isSome=true:=by rw[hx];rfl
 have A:=N.host n x hx;obtain⟨dx,e⟩:=A.obj;obtain⟨f,e2,e3⟩:=A.Cz;have kp:=N.kp D h hR;refine⟨⟨dx,N.at_ h hR (r:=.ho n) u h1 e⟩,⟨f,e2.keep λo q=>N.at_ h hR (r:=.dw n) u h2 q,λm=>?_⟩,A.HH.keep λo q=>N.at_ h hR (r:=.ds n) u h3 q⟩;exact(e3 m).imp λa y w=>w.keep kp.tk
theorem ax.mM (N:ax K c H g s) (D:gd c) (h:Ch g R H H') (hR:∀r,R r->Used s r) (h1:¬R .en):∃f,DT H' (g .en) f/\∀p:Nat×Nat,kg (bW K c H') (f p) (Vbcnai.entryOf s p.1 p.2):=by
 obtain⟨f,e2,e3⟩:=N.ent;have kp:=N.kp D h hR;refine⟨f,e2.keep λo q=>N.at_ h hR (r:=.en) trivial h1 q,λp=>?_⟩;exact(e3 p).imp λa y w=>w.keep kp
theorem ax.vI (N:ax K c H g s) (D:gd c) (h:Ch g R H H') (hR:∀r,R r->Used s r) (h1:¬R .bg):∃as:List Addr,H' (g .bg)=some (.lst (as.map V.ref))/\Paired (λa m=>dq K c H' a m) as s.bag:=by
 obtain⟨as,e2,e3⟩:=N.bag;exact⟨as,N.at_ h hR (r:=.bg) trivial h1 e2,Paired.imp (λ_ _ r=>r.keep (N.kp D h hR)) e3⟩
theorem ax.same (N:ax K c H g s) (D:gd c) (h:aw H H'):ax K c H' g s:=by
 have h':Ch g (λ_=>False) H H':=h.ch;have hR:∀r,(λ(_:Role)=>False) r->Used s r:=λ_ z=>z.elim;exact⟨let ⟨dx,e⟩:=N.nM;⟨dx,h _ _ e⟩,let ⟨dx,e⟩:=N.pJ;⟨dx,h _ _ e⟩,N.vI D h' hR id,N.hosts.keep λo=>h _ o,λn x hx=>N.nN D h' hR hx id id id,N.mM D h' hR id,N.rk.keep λo=>h _ o,N.fix.keep λo=>h _ o,N.tX.keep λo=>h _ o,N.inj⟩
end
structure Mv (g:Role->Addr) (s:State) (H:Hp) (g':Role->Addr) (s':State) (H':Hp):Prop where
 keep:∀b o,H b=some o->(∀r,Used s r->g r≠b)->H' b=some o
 same:∀r,Used s r->Used s' r/\g' r=g r
 new:∀r,Used s' r->¬Used s r->H (g' r)=none
section
variable{K:PySem.W.Frag}{c:Cs}{H H' H2:Hp}{g g' g2:Role->Addr}{s s' s2:State}{R R':Role->Prop}
theorem Mv.trans (a:Mv g s H g' s' H') (N:ax K c H' g' s') (D:gd c) (b:Mv g' s' H' g2 s2 H2):Mv g s H g2 s2 H2:=by
 refine⟨λx o e n=>b.keep x o (a.keep x o e n) λr hr z=>?_,λr hr=>?_,λr hr hn=>?_⟩
 ·by_cases q:Used s r
  ·exact n r q ((a.same r q).2▸z)
  ·have:=a.new r hr q;rw[z,e]at this;cases this
 ·have h1:=a.same r hr;have h2:=b.same r h1.1;exact⟨h2.1,h2.2.trans h1.2⟩
 ·by_cases q:Used s' r
  ·have h1:=a.new r q hn;rw[←(b.same r q).2]at h1;exact h1
  ·have h1:=b.new r hr q;cases e:H (g2 r)with
   |none=>rfl
   |some o=>
    have:=a.keep (g2 r) o e λr' hr' z=>?_
    ·rw[this]at h1;cases h1
    ·obtain⟨u,hu,_⟩:=N.Iv D r' (a.same r' hr').1;rw[(a.same r' hr').2,z,h1]at hu;cases hu
theorem Mv.lF (h:Ch g R H H') (hR:∀r,R r->Used s r) (hU:∀r,Used s r↔Used s' r):Mv g s H g s' H':=
 ⟨λb o e n=>h b o e λr hr=>n r (hR r hr),λr hr=>⟨(hU r).mp hr,rfl⟩,λr hr hn=>absurd ((hU r).mpr hr) hn⟩
end
theorem made {H:Hp}{x dx C:Addr}{o:HO}(nx:H x=none) (nd:H dx=none):aw H (upd (upd (upd H dx (.own x)) x (.ins C dx [])) x o):=λb u e=>by
 rw[ak (ao e nx),ak (ao e nx),ak (ao e nd)];exact e
section
variable{P:Program}{w:World}{K:PySem.W.Frag}{mg:Str->Option Value}{base:Heap}{c:Cs}
noncomputable def Iw (c:Cs):Sp:=λvs H Q _=>∃(p dx:Addr) (v1 v2 v3 v4 v5 v6:V),vs=[.ref p,v1,v2,v3,v4,v5,v6]/\H p=some (.ins c.bc dx [])/\Q .bQ (upd H p (.ins c.bc dx [("host",v1),("port",v2),("group",v3),("serial",v4),("sent",v5),("step",v6)]))
theorem D6 (T:Txt K mg c):Mc P w K mg base "Report" c.bc 1 ["self","host","port","group","serial","sent","step"] (Iw c):=by
 refine T.bE.ok sU (λvs H Q E h=>?_) (λf cdv A outer s H vs Q E hr h=>?_)
 ·obtain⟨p,dx,v1,v2,v3,v4,v5,v6,rfl,_⟩:=h;rfl
 ·obtain⟨p,dx,v1,v2,v3,v4,v5,v6,rfl,hp,k⟩:=h;have cl:=T.bE.cl;refine⟨_,(af (aP (pv 0) (pv 1) rfl)
   (af (aP (pv 0) (pv 2) rfl)
   (af (aP (pv 0) (pv 3) rfl)
   (af (aP (pv 0) (pv 4) rfl)
   (af (aP (pv 0) (pv 5) rfl)
   (ag (aP (pv 0) (pv 6) rfl))))))),?_⟩
  refine⟨_,rfl,_,rfl,p,_,dx,_,rfl,hp,cl,T.c0,(by show 0<1000;decide),?_⟩;refine⟨_,rfl,_,rfl,p,_,dx,_,rfl,ab,cl,T.cE,(by show 1<1000;decide),?_⟩;refine⟨_,rfl,_,rfl,p,_,dx,_,rfl,ab,cl,T.cc,(by show 2<1000;decide),?_⟩;refine⟨_,rfl,_,rfl,p,_,dx,_,rfl,ab,cl,T.bY,(by show 3<1000;decide),?_⟩;refine⟨_,rfl,_,rfl,p,_,dx,_,rfl,ab,cl,T.c4,(by show 4<1000;decide),?_⟩;refine⟨_,rfl,_,rfl,p,_,dx,_,rfl,ab,cl,T.fD,(by show 5<1000;decide),?_⟩;rw[bN,bN,bN,bN,bN];exact k
noncomputable def Gg (c:Cs):Sp:=λvs H Q _=>∃(p dx:Addr) (v1 v2:V),vs=[.ref p,v1,v2]/\H p=some (.ins c.Query dx [])/\Q .bQ (upd H p (.ins c.Query dx [("port",v1),("group",v2)]))
theorem r9 (T:Txt K mg c):Mc P w K mg base "Query" c.Query 1 ["self","port","group"] (Gg c):=by
 refine T.cD.ok uH (λvs H Q E h=>?_) (λf cdv A outer s H vs Q E hr h=>?_)
 ·obtain⟨p,dx,v1,v2,rfl,_⟩:=h;rfl
 ·obtain⟨p,dx,v1,v2,rfl,hp,k⟩:=h;have cl:=T.cD.cl;refine⟨_,(af (aP (pv 0) (pv 1) rfl)
   (ag (aP (pv 0) (pv 2) rfl))),?_⟩
  refine⟨_,rfl,_,rfl,p,_,dx,_,rfl,hp,cl,T.eP,(by show 0<1000;decide),?_⟩;refine⟨_,rfl,_,rfl,p,_,dx,_,rfl,ab,cl,T.c5,(by show 1<1000;decide),?_⟩;rw[bN];exact k
noncomputable def Iy (c:Cs):Sp:=λvs H Q _=>∃(p dx:Addr) (v1 v2 v3 v4:V),vs=[.ref p,v1,v2,v3,v4]/\H p=some (.ins c.Entry dx [])/\Q .bQ (upd H p (.ins c.Entry dx [("port",v1),("serial",v2),("want",v3),("until",v4)]))
theorem FJ (T:Txt K mg c):Mc P w K mg base "Entry" c.Entry 1 ["self","port","serial","want","until"] (Iy c):=by
 refine T.cQ.ok uJ (λvs H Q E h=>?_) (λf cdv A outer s H vs Q E hr h=>?_)
 ·obtain⟨p,dx,v1,v2,v3,v4,rfl,_⟩:=h;rfl
 ·obtain⟨p,dx,v1,v2,v3,v4,rfl,hp,k⟩:=h;have cl:=T.cQ.cl;refine⟨_,(af (aP (pv 0) (pv 1) rfl)
   (af (aP (pv 0) (pv 2) rfl)
   (af (aP (pv 0) (pv 3) rfl)
   (ag (aP (pv 0) (pv 4) rfl))))),?_⟩
  refine⟨_,rfl,_,rfl,p,_,dx,_,rfl,hp,cl,T.cP,(by show 0<1000;decide),?_⟩;refine⟨_,rfl,_,rfl,p,_,dx,_,rfl,ab,cl,T.cI,(by show 1<1000;decide),?_⟩;refine⟨_,rfl,_,rfl,p,_,dx,_,rfl,ab,cl,T.eQ,(by show 2<1000;decide),?_⟩;refine⟨_,rfl,_,rfl,p,_,dx,_,rfl,ab,cl,T.dM,(by show 3<1000;decide),?_⟩;rw[bN,bN,bN];exact k
noncomputable def fG (p:Addr) (H H':Hp):Prop:=∀b o,H b=some o->b≠p->H' b=some o
theorem fG.refl {p:Addr}{H:Hp}:fG p H H:=λ_ _ e _=>e
theorem fG.upd {p:Addr}{H H':Hp}{o:HO}(h:fG p H H'):fG p H (upd H' p o):=λb u e n=>by
 rw[ak n];exact h b u e n
theorem fG.new {p q:Addr}{H H':Hp}{o:HO}(h:fG p H H') (n:H' q=none):fG p H (L2.upd H' q o):=λb u e m=>aw.new n _ _ (h b u e m)
theorem fG.free {p q:Addr}{H H':Hp}(h:fG p H H') (n:H' q=none) (hp:H' p≠none):H q=none:=by
 cases e:H q with
 |none=>rfl
 |some o=>
  by_cases z:q=p
  ·rw[z]at n;exact absurd n hp
  ·rw[h q o e z]at n;cases n
noncomputable def He (c:Cs):Sp:=λvs H Q _=>∃(p dx:Addr) (v1:V),vs=[.ref p,v1]/\H p=some (.ins c.Host dx [])/\
 ∀(H':Hp) (dw ds:Addr),fG p H H'->H dw=none->H ds=none->dw≠ds->H' p=some (.ins c.Host dx [("number",v1),("port",.int (-1)),("wants",.ref dw),("serials",.ref ds)])->H' dw=some (.dK [])->H' ds=some (.dK [])->Q .bQ H'
theorem Hh (T:Txt K mg c):Mc P w K mg base "Host" c.Host 1 ["self","number"] (He c):=by
 refine T.a8.ok wJ (λvs H Q E h=>?_) (λf cdv A outer s H vs Q E hr h=>?_)
 ·obtain⟨p,dx,v1,rfl,_⟩:=h;rfl
 ·obtain⟨p,dx,v1,rfl,hp,k⟩:=h;have cl:=T.a8.cl;refine⟨_,(af (aP (pv 0) (pv 1) rfl)
   (af (aP (pv 0) (bz T.fk) rfl)
   (af (aP (pv 0) i8 rfl)
   (ag (aP (pv 0) i8 rfl))))),?_⟩
  refine⟨_,rfl,_,rfl,p,_,dx,_,rfl,hp,cl,T.fE,(by show 0<1000;decide),?_⟩;refine⟨_,rfl,p,_,dx,_,rfl,ab,cl,T.bo,(by show 1<1000;decide),?_⟩;rw[bN];intro dw nw;have pw:p≠dw:=ao ab nw;refine⟨_,rfl,p,_,dx,_,rfl,aw.new nw _ _ ab,cl,T.bw,(by show 2<1000;decide),?_⟩;intro ds ns;have ps:p≠ds:=ao ab ns;have ws:dw≠ds:=ao (by rw[ak pw.symm];exact ab) ns;refine⟨_,rfl,p,_,dx,_,rfl,aw.new ns _ _ ab,cl,T.cf,(by show 3<1000;decide),?_⟩;have b1:fG p H (upd H p (.ins c.Host dx [("number",v1),("port",.int (-1))])):=fG.refl.upd;have b2:=b1.new (o:=.dK []) nw;have b3:=b2.upd (o:=.ins c.Host dx [("number",v1),("port",.int (-1)),("wants",.ref dw)]);have b4:=b3.new (o:=.dK []) ns;refine k _ dw ds b4.upd (b1.free nw (by rw[ab];exact λz=>nomatch z)) (b3.free ns (by rw[ab];exact λz=>nomatch z)) ws ab ?_ ?_
  ·rw[ak pw.symm,ak ws,ak pw.symm];exact ab
  ·rw[ak ps.symm];exact ab
noncomputable def Jv (c:Cs):Sp:=λvs H Q _=>∃(p dx:Addr) (v1:V),vs=[.ref p,v1]/\H p=some (.ins c.Switch dx [])/\
 ∀(H':Hp) (en pl fx he:Addr),fG p H H'->(∀d∈[en,pl,fx,he],H d=none)->[en,pl,fx,he].Nodup->H' p=some (.ins c.Switch dx [("most_entries",v1),("entries",.ref en),("plain",.ref pl),("fixed",.ref fx),("heard",.ref he),("silent",.int 0),("next_query",.int 0)])->
  H' en=some (.dT [])->H' pl=some (.dT [])->H' fx=some (.dK [])->H' he=some (.dK [])->Q .bQ H'
theorem D7 (T:Txt K mg c):Mc P w K mg base "Switch" c.Switch 1 ["self","most_entries"] (Jv c):=by
 refine T.aL.ok sY (λvs H Q E h=>?_) (λf cdv A outer s H vs Q E hr h=>?_)
 ·obtain⟨p,dx,v1,rfl,_⟩:=h;rfl
 ·obtain⟨p,dx,v1,rfl,hp,k⟩:=h;have cl:=T.aL.cl;refine⟨_,(af (aP (pv 0) (pv 1) rfl)
   (af (aP (pv 0) yi rfl)
   (af (aP (pv 0) yi rfl)
   (af (aP (pv 0) i8 rfl)
   (af (aP (pv 0) i8 rfl)
   (af (aP (pv 0) ah rfl)
   (ag (aP (pv 0) ah rfl)))))))),?_⟩
  refine⟨_,rfl,_,rfl,p,_,dx,_,rfl,hp,cl,T.cq,(by show 0<1000;decide),?_⟩;have b0:fG p H (upd H p (.ins c.Switch dx (bb "most_entries" v1 []))):=fG.refl.upd;intro en n1;have p1:p≠en:=ao ab n1;refine⟨_,rfl,p,_,dx,_,rfl,aw.new n1 _ _ ab,cl,T.aJ,(by show 1<1000;decide),?_⟩;have b1:=(b0.new (o:=.dT []) n1).upd (o:=.ins c.Switch dx (bb "entries" (.ref en) (bb "most_entries" v1 [])));intro pl n2;have p2:p≠pl:=ao ab n2;refine⟨_,rfl,p,_,dx,_,rfl,aw.new n2 _ _ ab,cl,T.aV,(by show 2<1000;decide),?_⟩;have b2:=(b1.new (o:=.dT []) n2).upd (o:=.ins c.Switch dx (bb "plain" (.ref pl) (bb "entries" (.ref en) (bb "most_entries" v1 []))));intro fx n3;have p3:p≠fx:=ao ab n3;refine⟨_,rfl,p,_,dx,_,rfl,aw.new n3 _ _ ab,cl,T.cJ,(by show 3<1000;decide),?_⟩;have b3:=(b2.new (o:=.dK []) n3).upd (o:=.ins c.Switch dx (bb "fixed" (.ref fx) (bb "plain" (.ref pl) (bb "entries" (.ref en) (bb "most_entries" v1 [])))));intro he n4;have p4:p≠he:=ao ab n4;refine⟨_,rfl,p,_,dx,_,rfl,aw.new n4 _ _ ab,cl,T.cg,(by show 4<1000;decide),?_⟩;have b4:=(b3.new (o:=.dK []) n4).upd (o:=.ins c.Switch dx (bb "heard" (.ref he) (bb "fixed" (.ref fx) (bb "plain" (.ref pl) (bb "entries" (.ref en) (bb "most_entries" v1 []))))));refine⟨_,rfl,p,_,dx,_,rfl,ab,cl,T.bZ,(by show 5<1000;decide),?_⟩;refine⟨_,rfl,p,_,dx,_,rfl,ab,cl,T.bh,(by show 6<1000;decide),?_⟩;have hs:∀{q:Addr}{o:HO}{G:Hp},¬(upd G q o) q=none:=λ{q o G} z=>by rw[ab]at z;cases z
  have e1:∀{G:Hp}{o:HO},en≠p->G en=some (.dT [])->(upd G p o) en=some (.dT []):=λn e=>by rw[ak n];exact e
  have h1:(upd (upd (upd H p (.ins c.Switch dx (bb "most_entries" v1 []))) en (.dT [])) p (.ins c.Switch dx (bb "entries" (.ref en) (bb "most_entries" v1 [])))) en=some (.dT []):=by rw[ak p1.symm];exact ab
  have q12:en≠pl:=ao h1 n2;have h12:=aw.new (o:=.dT []) n2 _ _ h1;have h2:(upd (upd (upd (upd (upd H p (.ins c.Switch dx (bb "most_entries" v1 []))) en (.dT [])) p (.ins c.Switch dx (bb "entries" (.ref en) (bb "most_entries" v1 [])))) pl (.dT [])) p (.ins c.Switch dx (bb "plain" (.ref pl) (bb "entries" (.ref en) (bb "most_entries" v1 []))))) pl=some (.dT []):=by rw[ak p2.symm];exact ab
  have h12':=(fG.refl.upd (p:=p) (o:=.ins c.Switch dx (bb "plain" (.ref pl) (bb "entries" (.ref en) (bb "most_entries" v1 []))))) _ _ h12 p1.symm;have q13:en≠fx:=ao h12' n3;have q23:pl≠fx:=ao h2 n3;have h13:=(fG.refl.upd (p:=p) (o:=.ins c.Switch dx (bb "fixed" (.ref fx) (bb "plain" (.ref pl) (bb "entries" (.ref en) (bb "most_entries" v1 [])))))) _ _ (aw.new (o:=.dK []) n3 _ _ h12') p1.symm;have h23:=(fG.refl.upd (p:=p) (o:=.ins c.Switch dx (bb "fixed" (.ref fx) (bb "plain" (.ref pl) (bb "entries" (.ref en) (bb "most_entries" v1 [])))))) _ _ (aw.new (o:=.dK []) n3 _ _ h2) p2.symm;have h33:=(fG.refl.upd (p:=p) (o:=.ins c.Switch dx (bb "fixed" (.ref fx) (bb "plain" (.ref pl) (bb "entries" (.ref en) (bb "most_entries" v1 [])))))) _ _ (ab (H:=(upd (upd (upd (upd (upd H p (.ins c.Switch dx (bb "most_entries" v1 []))) en (.dT [])) p (.ins c.Switch dx (bb "entries" (.ref en) (bb "most_entries" v1 [])))) pl (.dT [])) p (.ins c.Switch dx (bb "plain" (.ref pl) (bb "entries" (.ref en) (bb "most_entries" v1 [])))))) (a:=fx) (o:=.dK [])) p3.symm;have q14:en≠he:=ao h13 n4;have q24:pl≠he:=ao h23 n4;have q34:fx≠he:=ao h33 n4;have lift:∀{G:Hp}{d:Addr}{u o1 o2 o3:HO},G d=some u->d≠he->d≠p->(upd (upd (upd (upd G he (.dK [])) p o1) p o2) p o3) d=some u:=λe n1 n2=>by
   rw[ak n2,ak n2,ak n2,ak n1];exact e
  refine k _ en pl fx he b4.upd.upd (λd hd=>?_) ?_ ab (lift h13 q14 p1.symm) (lift h23 q24 p2.symm) (lift h33 q34 p3.symm) ?_
  ·simp only[JX,List.not_mem_nil,or_false]at hd;rcases hd with rfl|rfl|rfl|rfl
   ·exact b0.free n1 hs
   ·exact b1.free n2 hs
   ·exact b2.free n3 hs
   ·exact b3.free n4 hs
  ·simp only[Kx,JX,List.not_mem_nil,or_false,not_or,not_false_eq_true,List.nodup_nil,and_true];exact⟨⟨q12,q13,q14⟩,⟨q23,q24⟩,q34⟩
  ·rw[ak p4.symm,ak p4.symm,ak p4.symm];exact ab
end
noncomputable def begun (ports me stay every last bag entries:Nat):State:={on:=true,cfg:=⟨me,stay,every,last,bag,entries⟩,ports:=ports}
noncomputable def vJ (p sw hd bg en pl fx he:Addr):Role->Addr
 |.n=>p
 |.sw=>sw
 |.hd=>hd
 |.bg=>bg
 |.en=>en
 |.pl=>pl
 |.fx=>fx
 |.he=>he
 |_=>p
noncomputable def Jw:Role->Nat
 |.n=>0
 |.sw=>1
 |.hd=>2
 |.bg=>3
 |.en=>4
 |.pl=>5
 |.fx=>6
 |.he=>7
 |_=>8
section
variable{P:Program}{w:World}{K:PySem.W.Frag}{mg:Str->Option Value}{base:Heap}{c:Cs}
noncomputable def Iz (K:PySem.W.Frag) (c:Cs):Sp:=λvs H Q _=>∃(p dx:Addr) (ports me stay every last bag entries:Nat),vs=[.ref p,.int ports,.int me,.int stay,.int every,.int last,.int bag,.int entries]/\H p=some (.ins c.Net dx [])/\
 ∀(H':Hp) (g:Role->Addr),g .n=p->ax K c H' g (begun ports me stay every last bag entries)->fG p H H'->(∀r,Used (begun ports me stay every last bag entries) r->r≠.n->H (g r)=none)->Q .bQ H'
theorem IA (T:Txt K mg c):Mc P w K mg base "Net" c.Net 3 ["self","ports","me","stay","every","last","most_messages","most_entries"] (Iz K c):=by
 refine T.aA.ok yu (λvs H Q E h=>?_) (λf cdv A outer s H vs Q E hr h=>?_)
 ·obtain⟨p,dx,ports,me,stay,every,last,bag,entries,rfl,_⟩:=h;rfl
 ·obtain⟨p,dx,ports,me,stay,every,last,bag,entries,rfl,hp,k⟩:=h;have cl:=T.aA.cl;refine⟨_,(af (aP (pv 0) (pv 1) rfl)
   (af (aP (pv 0) (pv 2) rfl)
   (af (aP (pv 0) (pv 3) rfl)
   (af (aP (pv 0) (pv 4) rfl)
   (af (aP (pv 0) (pv 5) rfl)
   (af (aP (pv 0) (pv 6) rfl)
   (af (aP (pv 0) ah rfl)
   (af (aP (pv 0) i8 rfl)
   (af (aP (pv 0) (l7 (D7 T) hr (aa (pv 7) ae)) rfl)
   (af (aP (pv 0) (aC ae) rfl)
   (af (aP (pv 0) ah rfl)
   (ag (aP (pv 0) ah rfl))))))))))))),?_⟩
  refine⟨_,rfl,_,rfl,p,_,dx,_,rfl,hp,cl,T.di,(by show 0<1000;decide),?_⟩;refine⟨_,rfl,_,rfl,p,_,dx,_,rfl,ab,cl,T.k9,(by show 1<1000;decide),?_⟩;refine⟨_,rfl,_,rfl,p,_,dx,_,rfl,ab,cl,T.dj,(by show 2<1000;decide),?_⟩;refine⟨_,rfl,_,rfl,p,_,dx,_,rfl,ab,cl,T.ic,(by show 3<1000;decide),?_⟩;refine⟨_,rfl,_,rfl,p,_,dx,_,rfl,ab,cl,T.jG,(by show 4<1000;decide),?_⟩;refine⟨_,rfl,_,rfl,p,_,dx,_,rfl,ab,cl,T.cH,(by show 5<1000;decide),?_⟩;refine⟨_,rfl,p,_,dx,_,rfl,ab,cl,T.bA,(by show 6<1000;decide),?_⟩;rw[bN,bN,bN,bN,bN,bN];intro hd n1;have p1:p≠hd:=ao ab n1;refine⟨_,rfl,p,_,dx,_,rfl,aw.new n1 _ _ ab,cl,T.aZ,(by show 7<1000;decide),?_⟩;have b0:fG p H (upd H p (.ins c.Net dx [("ports",.int ports),("me",.int me),("stay",.int stay),("every",.int every),("last",.int last),("most_messages",.int bag),("now",.int 0)])):=fG.refl.upd;have f1:H hd=none:=b0.free n1 (by rw[ab];exact λz=>nomatch z);have b1:=(b0.new (o:=.dK []) n1).upd (o:=.ins c.Net dx [("ports",.int ports),("me",.int me),("stay",.int stay),("every",.int every),("last",.int last),("most_messages",.int bag),("now",.int 0),("hosts",.ref hd)]);have e1:(upd (upd (upd H p (.ins c.Net dx [("ports",.int ports),("me",.int me),("stay",.int stay),("every",.int every),("last",.int last),("most_messages",.int bag),("now",.int 0)])) hd (.dK [])) p (.ins c.Net dx [("ports",.int ports),("me",.int me),("stay",.int stay),("every",.int every),("last",.int last),("most_messages",.int bag),("now",.int 0),("hosts",.ref hd)])) hd=some (.dK []):=by
   rw[ak p1.symm];exact ab
  have e2:(upd (upd (upd H p (.ins c.Net dx [("ports",.int ports),("me",.int me),("stay",.int stay),("every",.int every),("last",.int last),("most_messages",.int bag),("now",.int 0)])) hd (.dK [])) p (.ins c.Net dx [("ports",.int ports),("me",.int me),("stay",.int stay),("every",.int every),("last",.int last),("most_messages",.int bag),("now",.int 0),("hosts",.ref hd)])) p=some (.ins c.Net dx [("ports",.int ports),("me",.int me),("stay",.int stay),("every",.int every),("last",.int last),("most_messages",.int bag),("now",.int 0),("hosts",.ref hd)]):=ab;show xR _ _ _ _ (upd (upd (upd H p (.ins c.Net dx [("ports",.int ports),("me",.int me),("stay",.int stay),("every",.int every),("last",.int last),("most_messages",.int bag),("now",.int 0)])) hd (.dK [])) p (.ins c.Net dx [("ports",.int ports),("me",.int me),("stay",.int stay),("every",.int every),("last",.int last),("most_messages",.int bag),("now",.int 0),("hosts",.ref hd)]));generalize (upd (upd (upd H p (.ins c.Net dx [("ports",.int ports),("me",.int me),("stay",.int stay),("every",.int every),("last",.int last),("most_messages",.int bag),("now",.int 0)])) hd (.dK [])) p (.ins c.Net dx [("ports",.int ports),("me",.int me),("stay",.int stay),("every",.int every),("last",.int last),("most_messages",.int bag),("now",.int 0),("hosts",.ref hd)]))=H1 at b1 e1 e2;refine⟨_,rfl,?_⟩;intro x dx' nx ndx ne;refine⟨x,dx',_,rfl,ab,λH3 en pl fx he b3 fr nd e5 e6 e7 e8 e9=>⟨rfl,?_⟩⟩;have s3:aw H1 H3:=λb o e=>b3 b o (by rw[ak (ao e nx),ak (ao e ndx)];exact e) (ao e nx);have px:p≠x:=ao e2 nx;have fr1:∀d∈[en,pl,fx,he],H1 d=none:=λd hd'=>by
   cases e:H1 d with
   |none=>rfl
   |some o=>
    have:=fr d hd';rw[ak (ao e nx),ak (ao e ndx),e]at this;cases this
  have hne:∀{q:Addr},H1 q=none->q≠p/\q≠hd:=λ{q} h=>⟨λz=>(by rw[z,e2]at h;cases h),λz=>(by rw[z,e1]at h;cases h)⟩;have hx:∀d∈[en,pl,fx,he],d≠x:=λd hd' z=>by
   have:=fr d hd';rw[z,ab]at this;cases this
  have Hp1:H1 p≠none:=by rw[e2];exact λz=>nomatch z
  refine⟨_,rfl,p,_,dx,_,rfl,s3 _ _ e2,cl,T.aN,(by show 8<1000;decide),?_⟩;refine⟨(by show 0<=sizeLine;exact Kk _),λbg n5=>?_⟩;have p5:p≠bg:=ao ab n5;have H3bg:H3 bg=none:=by rw[ak p5.symm]at n5;exact n5
  have H1bg:H1 bg=none:=s3.nn H3bg;refine⟨_,rfl,p,_,dx,_,rfl,aw.new n5 _ _ ab,cl,T.cy,(by show 9<1000;decide),?_⟩;refine⟨_,rfl,p,_,dx,_,rfl,ab,cl,T.gL,(by show 10<1000;decide),?_⟩;refine⟨_,rfl,p,_,dx,_,rfl,ab,cl,T.fm,(by show 11<1000;decide),?_⟩;rw[bN,bN];have lift:∀{d:Addr}{u o1 o2:HO},H3 d=some u->d≠p->(upd (upd (upd H3 p o1) bg (.lst [])) p o2) d=some u:=λ{d u o1 o2} e n=>by
   rw[ak n,ak (ao e H3bg),ak n];exact e
  have hen:en≠p:=(hne (fr1 en (by simp))).1;have hpl:pl≠p:=(hne (fr1 pl (by simp))).1;have hfx:fx≠p:=(hne (fr1 fx (by simp))).1;have hhe:he≠p:=(hne (fr1 he (by simp))).1;refine k _ (vJ p x hd bg en pl fx he) rfl ⟨⟨dx,ab⟩,⟨dx',lift e5 px.symm⟩,⟨[],by show(upd _ p _) bg=_;rw[ak p5.symm];exact ab,.nil⟩,⟨[],lift (s3 _ _ e1) p1.symm,Dk.nil qr⟩,λn y hy=>(nomatch hy),⟨λ_=>none,⟨[],lift e6 hen,Dk.nil wZ⟩,λp=>trivial⟩,⟨[],lift e7 hpl,Dk.nil wZ⟩,⟨[],lift e8 hfx,(Dk.nil qr).congr λq=>(if_neg (λz=>nomatch z)).symm⟩,⟨[],lift e9 hhe,Dk.nil qr⟩,?_⟩ ?_ ?_
  ·have n5':H1 bg=none:=H1bg;have ndp:(vJ p x hd bg en pl fx he .n::vJ p x hd bg en pl fx he .sw::vJ p x hd bg en pl fx he .hd::vJ p x hd bg en pl fx he .bg::[en,pl,fx,he]).Nodup:=by
    show(p::x::hd::bg::[en,pl,fx,he]).Nodup;refine Kx.mpr ⟨?_,Kx.mpr ⟨?_,Kx.mpr ⟨?_,Kx.mpr ⟨?_,nd⟩⟩⟩⟩
    ·intro z;rcases JX.mp z with z|z
     ·exact px z
     ·rcases JX.mp z with z|z
      ·exact p1 z
      ·rcases JX.mp z with z|z
       ·exact p5 z
       ·exact(hne (fr1 p z)).1 rfl
    ·intro z;rcases JX.mp z with z|z
     ·exact(hne nx).2 z
     ·rcases JX.mp z with z|z
      ·exact(ao e5 H3bg) z
      ·exact hx x z rfl
    ·intro z;rcases JX.mp z with z|z
     ·exact ao e1 H1bg z
     ·exact(hne (fr1 hd z)).2 rfl
    ·intro z;simp only[JX,List.not_mem_nil,or_false]at z;rcases z with z|z|z|z
     ·exact ao e6 H3bg z.symm
     ·exact ao e7 H3bg z.symm
     ·exact ao e8 H3bg z.symm
     ·exact ao e9 H3bg z.symm
   intro r r' u u' e;have u1:∀i,¬Used (begun ports me stay every last bag entries) (.ho i):=λi z=>nomatch z;have u2:∀i,¬Used (begun ports me stay every last bag entries) (.dw i):=λi z=>nomatch z;have u3:∀i,¬Used (begun ports me stay every last bag entries) (.ds i):=λi z=>nomatch z;have ix:∀r,Used (begun ports me stay every last bag entries) r->(p::x::hd::bg::[en,pl,fx,he])[Jw r]? =some (vJ p x hd bg en pl fx he r):=by
    intro r u;cases r with
    |ho i=>exact absurd u (u1 i)
    |dw i=>exact absurd u (u2 i)
    |ds i=>exact absurd u (u3 i)
    |_=>rfl
   have q:=Gd ndp (ix r u) (by rw[e];exact ix r' u');cases r with
   |ho i=>exact absurd u (u1 i)
   |dw i=>exact absurd u (u2 i)
   |ds i=>exact absurd u (u3 i)
   |_=>
    cases r' with
    |ho i=>exact absurd u' (u1 i)
    |dw i=>exact absurd u' (u2 i)
    |ds i=>exact absurd u' (u3 i)
    |_=>first|rfl|exact absurd q (by decide)
  ·intro b o e n;exact lift (s3 _ _ (b1 b o e n)) n
  ·intro r u hn;cases r with
   |n=>exact absurd rfl hn
   |sw=>exact b1.free nx Hp1
   |hd=>exact f1
   |bg=>exact b1.free H1bg Hp1
   |en=>exact b1.free (fr1 en (by simp)) Hp1
   |pl=>exact b1.free (fr1 pl (by simp)) Hp1
   |fx=>exact b1.free (fr1 fx (by simp)) Hp1
   |he=>exact b1.free (fr1 he (by simp)) Hp1
   |ho i=>exact nomatch u
   |dw i=>exact nomatch u
   |ds i=>exact nomatch u
end
end Gs
namespace Gs
open Mx (Up)
open Vbcnai (hostOf hasOf entryOf putHost putHas putEntry putPlain send sends tells retells retellsAll onReport onQuery room)
structure iV (U:List Nat) (x:Ho):Prop where
 EM:Mx.G9 x.has
 len:x.has.length<=64
 ok:∀y∈x.has,ji U y.want/\y.want.list.length<=64/\y.group<=268435455
noncomputable def tY (U:List Nat):Msg->Prop
 |.report _ _ g _ _ e=>Cy U e/\gc e<=64/\g<=268435455
 |.query _ _=>True
structure Wf (U:List Nat) (N:Nat) (s:State):Prop where
 hs:Mx.Fw s.hosts
 hl:s.hosts.length<=256
 ha:∀x∈s.hosts,iV U x
 es:Mx.Fx s.entries
 ei:∀e∈s.entries,ji U e.want/\s.now<e.until_/\e.group<=268435455
 pn:(s.plains.map Mx.df).Nodup
 en:s.entries.length+s.plains.length<=N
 fu:Up s.fixed
 fp:∀p∈s.fixed,p<s.ports
 hu:(s.heard.map (·.1)).Nodup
 hp:∀x∈s.heard,x.1<s.ports
 bl:s.bag.length<=s.cfg.bag
 bm:∀m∈s.bag,tY U m
 cb:s.cfg.bag<=1024
 cp:s.ports<=64
section
variable{U:List Nat}{N:Nat}{s:State}
theorem jl {n:Nat}{x:Ho}(h:hostOf s n=some x):x∈s.hosts/\x.id=n:=by
 rw[Mx.ja]at h;exact Mx.find_some (key:=Vbcnai.Host.id) h
theorem yD {x:Ho}{n:Nat}{y:Vbcnai.Has}(h:hasOf x n=some y):y∈x.has/\y.group=n:=by
 rw[Mx.kK]at h;exact Mx.find_some (key:=Vbcnai.Has.group) h
theorem eD {a b:Nat}{e:Ent}(h:entryOf s a b=some e):e∈s.entries/\e.group=a/\e.host=b:=by
 rw[Mx.d6]at h;obtain⟨h1,h2⟩:=Mx.find_some (key:=Mx.fc) h;unfold Mx.fc at h2;rw[Prod.mk.injEq]at h2;exact⟨h1,h2⟩
theorem fM {α:Type}{κ:Type} [DecidableEq κ] {key:α->κ}{l:List α}{k:κ}:(l.find? λz=>decide (key z=k)).isSome=true↔k∈l.map key:=by
 rw[List.find?_isSome,Kr];exact⟨λ⟨x,h1,h2⟩=>⟨x,h1,J0 h2⟩,λ⟨x,h1,h2⟩=>⟨x,h1,J1 h2⟩⟩
theorem dt (n:Nat):(hostOf s n).isSome=true↔n∈s.hosts.map (·.id):=by
 rw[Mx.ja];exact fM (key:=Vbcnai.Host.id)
theorem fz (x:Ho) (n:Nat):(hasOf x n).isSome=true↔n∈x.has.map (·.group):=by
 rw[Mx.kK];exact fM (key:=Vbcnai.Has.group)
theorem fN (p:Nat×Nat):(entryOf s p.1 p.2).isSome=true↔p∈s.entries.map Mx.fc:=by
 rw[Mx.d6];exact fM (key:=Mx.fc)
theorem eE (p:Nat×Nat):bx s p=s.plains.find? λx=>decide (Mx.df x=p):=by
 unfold bx
 congr 1
 funext x
 unfold Mx.df;rw[Bool.eq_iff_iff,JS,JT,beq_iff_eq,beq_iff_eq];exact⟨λh=>Prod.ext h.1 h.2,λh=>⟨congrArg Prod.fst h,congrArg Prod.snd h⟩⟩
theorem fO (p:Nat×Nat):(bx s p).isSome=true↔p∈s.plains.map Mx.df:=by
 rw[eE];exact fM (key:=Mx.df)
theorem gW (p:Nat):cU s p=s.heard.find? λx=>decide (x.1=p):=by
 unfold cU
 congr 1
theorem yE (p:Nat):(cU s p).isSome=true↔p∈s.heard.map (·.1):=by
 rw[gW];exact fM (key:=λx:Nat×Nat=>x.1)
theorem D8 {α:Type}{key:α->Nat}{l:List α}(h:Mx.EL key (λa b:Nat=>a<b) l):Up (l.map key):=List.pairwise_map.mpr h
theorem Hi {l:List Ent}(h:Mx.Fx l):(l.map Mx.fc).Nodup:=List.pairwise_map.mpr (List.Pairwise.imp (λ{a b}(h:Mx.lex (Mx.fc a) (Mx.fc b)) (e:Mx.fc a=Mx.fc b)=>Mx.lT.Io (Mx.fc b) (e▸h)) h)
theorem Wf.ids (W:Wf U N s):Up (s.hosts.map (·.id)):=D8 W.hs
theorem Wf.B5 (W:Wf U N s):(s.entries.map Mx.fc).Nodup:=Hi W.es
theorem iV.B6 {x:Ho}(h:iV U x):Up (x.has.map (·.group)):=D8 h.EM
theorem Wf.host (W:Wf U N s){n:Nat}{x:Ho}(h:hostOf s n=some x):iV U x:=W.ha x (jl h).1
theorem Wf.find (W:Wf U N s){x:Ho}(h:x∈s.hosts):hostOf s x.id=some x:=by
 rw[Mx.ja];exact Mx.find_key (key:=Vbcnai.Host.id) Mx.dX W.hs h
theorem nO {x:Ho}(h:Mx.Fw s.hosts) (n:Nat):hostOf {s with hosts:=putHost x s.hosts} n=if n=x.id then some x else hostOf s n:=by
 rw[Mx.ja,Mx.ja];show(putHost x s.hosts).find? _=_;rw[Mx.gF];exact Mx.pX (key:=Vbcnai.Host.id) Mx.dX h x n
theorem vK {x:Ho}{y:Vbcnai.Has}(h:Mx.G9 x.has) (n:Nat):hasOf {x with has:=putHas y x.has} n=if n=y.group then some y else hasOf x n:=by
 rw[Mx.kK,Mx.kK];show(putHas y x.has).find? _=_;rw[Mx.i9];exact Mx.pX (key:=Vbcnai.Has.group) Mx.dX h y n
theorem yF {x:Ent}(h:Mx.Fx s.entries) (p:Nat×Nat):entryOf {s with entries:=putEntry x s.entries} p.1 p.2=if p=(x.group,x.host)then some x else entryOf s p.1 p.2:=by
 rw[Mx.d6,Mx.d6];show(putEntry x s.entries).find? _=_;rw[Mx.fI];exact Mx.pX (key:=Mx.fc) Mx.lT h x p
theorem yG {x:Vbcnai.Plain}(h:(s.plains.map Mx.df).Nodup) (p:Nat×Nat):bx {s with plains:=putPlain x s.plains} p=if p=(x.port,x.group)then some x else bx s p:=by
 rw[eE,eE];exact Mx.uG h x p
theorem Wf.send (W:Wf U N s){m:Msg}(hm:tY U m):Wf U N (send s m):=by
 unfold Vbcnai.send;split
 ·rename_i h;exact{W with bl:=by show(s.bag++[m]).length<=_;rw[JV];exact h,bm:=λx hx=>(Ky.mp hx).elim (W.bm x) λz=>by rw[J6.mp z];exact hm}
 ·exact{W with}
theorem Wf.sends (W:Wf U N s){l:List Msg}(hm:∀m∈l,tY U m):Wf U N (Vbcnai.sends s l):=by
 unfold Vbcnai.sends
 induction l generalizing s with
 |nil=>exact W
 |cons a l ih=>exact ih (W.send (hm a (JZ ..))) λm h=>hm m (JW _ h)
theorem yH {x:Ho}{l:List Ho}(h:Mx.Fw l) (hx:x.id∈l.map (·.id)\/l.length<256) (hl:l.length<=256):(putHost x l).length<=256:=by
 rw[Mx.gF];rcases hx with hx|hx
 ·obtain⟨y,hy,e⟩:=Kr.mp hx;rw[Mx.jA (key:=Vbcnai.Host.id) Mx.dX h ⟨y,hy,e⟩];exact hl
 ·have:=Mx.oq (key:=Vbcnai.Host.id) (x:=x) Mx.dX (l:=l);omega
theorem Wf.putHost (W:Wf U N s){x:Ho}(hx:iV U x) (hi:x.id∈s.hosts.map (·.id)\/s.hosts.length<256):Wf U N {s with hosts:=putHost x s.hosts}:=
 {W with
  hs:=by show Mx.Fw (Vbcnai.putHost x s.hosts);rw[Mx.gF];exact Mx.kJ (key:=Vbcnai.Host.id) Mx.dX W.hs
  hl:=yH W.hs hi W.hl
  ha:=λy hy=>by
   have hy:y∈Vbcnai.putHost x s.hosts:=hy;rw[Mx.gF]at hy;rcases(Mx.fH (key:=Vbcnai.Host.id) Mx.dX W.hs).mp hy with q|q
   ·rw[q];exact hx
   ·exact W.ha y q.1}
theorem iV.put {x:Ho}(h:iV U x){y:Vbcnai.Has}(hy:ji U y.want/\y.want.list.length<=64/\y.group<=268435455) (hl:(hasOf x y.group).isSome=true\/x.has.length<64){i:Nat}{p:Option Nat}:iV U ⟨i,p,putHas y x.has⟩:=by
 refine⟨?_,?_,λz hz=>?_⟩
 ·show Mx.G9 (putHas y x.has);rw[Mx.i9];exact Mx.kJ (key:=Vbcnai.Has.group) Mx.dX h.EM
 ·show(putHas y x.has).length<=64;rw[Mx.i9];rcases hl with q|q
  ·obtain⟨z,hz,e⟩:=Kr.mp ((fz x y.group).mp q);rw[Mx.jA (key:=Vbcnai.Has.group) Mx.dX h.EM ⟨z,hz,e⟩];exact h.len
  ·have:=Mx.oq (key:=Vbcnai.Has.group) (x:=y) Mx.dX (l:=x.has);omega
 ·have hz:z∈putHas y x.has:=hz;rw[Mx.i9]at hz;rcases(Mx.fH (key:=Vbcnai.Has.group) Mx.dX h.EM).mp hz with q|q
  ·rw[q];exact hy
  ·exact h.ok z q.1
structure z9 (U:List Nat) (x:Ho) (g:Nat) (w:Want) (e:mL):Prop where
 wi:ji U w
 wl:w.list.length<=64
 ei:Cy U e
 el:gc e<=64
 gl:g<=268435455
 room:(hasOf x g).isSome=true\/x.has.length<64
theorem Wf.tells (W:Wf U N s){x:Ho}(hx:hostOf s x.id=some x){g:Nat}{w:Want}{e:mL}(t:z9 U x g w e):Wf U N (tells s x g w e):=by
 have ho:=W.host hx;have hi:x.id∈s.hosts.map (·.id):=(dt x.id).mp (by rw[hx];rfl);unfold Vbcnai.tells;cases hp:x.port with
 |none=>exact W.putHost (ho.put (y:=⟨g,w,_⟩) ⟨t.wi,t.wl,t.gl⟩ t.room) (.inl hi)
 |some p=>exact(W.putHost (ho.put (y:=⟨g,w,_⟩) ⟨t.wi,t.wl,t.gl⟩ t.room) (.inl hi)).send (m:=.report _ _ _ _ _ _) ⟨t.ei,t.el,t.gl⟩
theorem vL (W:Wf U N s){h g:Nat}{x:Ho}{y:Vbcnai.Has}(hx:hostOf s h=some x) (hy:hasOf x g=some y):z9 U x g y.want (.set y.want):=by
 have ho:=W.host hx;obtain⟨h1,h2⟩:=yD hy;obtain⟨q1,q2,q3⟩:=ho.ok y h1;exact⟨q1,q2,q1,q2,h2▸q3,.inl (by rw[hy];rfl)⟩
theorem Wf.retells (W:Wf U N s) (h g:Nat):Wf U N (retells s h g):=by
 unfold Vbcnai.retells;cases hx:hostOf s h with
 |none=>exact W
 |some x=>
  dsimp only;cases hy:hasOf x g with
  |none=>exact W
  |some y=>
   dsimp only;split
   ·exact W
   ·have e:=(jl hx).2;exact W.tells (by rw[e];exact hx) (vL W hx hy)
theorem Wf.foldl {α:Type}{f:State->α->State}(hf:∀s a,Wf U N s->Wf U N (f s a)):∀(l:List α){s:State},Wf U N s->Wf U N (l.foldl f s)
 |[],_,W=>W
 |a::l,_,W=>Wf.foldl hf l (hf _ a W)
theorem Wf.retellsAll (W:Wf U N s) (h:Nat):Wf U N (retellsAll s h):=by
 unfold Vbcnai.retellsAll;cases hx:hostOf s h with
 |none=>exact W
 |some x=>exact Wf.foldl (λs a W=>W.retells h a) _ W
theorem Wf.onQuery (W:Wf U N s) (p:Nat) (g:Option Nat):Wf U N (onQuery s p g):=by
 unfold Vbcnai.onQuery;refine Wf.foldl (λs a W=>?_) _ W;cases g with
 |none=>exact W.retellsAll a
 |some g=>exact W.retells a g
theorem Wf.mono (W:Wf U N s){M:Nat}(h:N<=M):Wf U M s:={W with en:=Kj W.en h}
theorem sg {w:Want}{e:mL}(hw:ji U w) (he:Cy U e):ji U (Vbcnai.does w e):=by
 cases e with
 |set v=>exact he
 |allow l=>
  cases w with
  |only m=>exact In.both hw he
  |but m=>exact In.without hw
 |block l=>
  cases w with
  |only m=>exact In.without hw
  |but m=>exact In.both hw he
theorem Wf.putEntry (W:Wf U N s){e:Ent}(h:ji U e.want/\s.now<e.until_/\e.group<=268435455):Wf U (N+1) {s with entries:=putEntry e s.entries}:=
 {W with
  es:=by show Mx.Fx (Vbcnai.putEntry e s.entries);rw[Mx.fI];exact Mx.kJ (key:=Mx.fc) Mx.lT W.es
  ei:=λy hy=>by
   have hy:y∈Vbcnai.putEntry e s.entries:=hy;rw[Mx.fI]at hy;rcases(Mx.fH (key:=Mx.fc) Mx.lT W.es).mp hy with q|q
   ·rw[q];exact h
   ·exact W.ei y q.1
  en:=by
   show(Vbcnai.putEntry e s.entries).length+s.plains.length<=N+1;rw[Mx.fI];have:=Mx.oq (key:=Mx.fc) (x:=e) Mx.lT (l:=s.entries);have:=W.en;omega}
theorem Wf.onReport (W:Wf U N s){h p g k t:Nat}{e:mL}(hm:Cy U e/\gc e<=64/\g<=268435455):Wf U (N+1) (onReport s h p g k t e):=by
 have W1:=W.mono (Nat.le_succ N);unfold Vbcnai.onReport;split
 ·exact W1
 ·rename_i hn;have hn:s.now<t+s.cfg.stay:=Nat.lt_of_not_le hn;cases hx:entryOf s g h with
  |none=>
   dsimp only;cases e with
   |set v=>
    dsimp only;split
    ·exact W.putEntry ⟨hm.1,hn,hm.2.2⟩
    ·exact{W1 with}
   |allow l=>exact W1.send trivial
   |block l=>exact W1.send trivial
  |some x=>
   dsimp only;split
   ·exact W1
   ·have hxw:=(W.ei x (eD hx).1).1;cases e with
    |set v=>exact W.putEntry ⟨hm.1,hn,hm.2.2⟩
    |allow l=>
     dsimp only;split
     ·exact W.putEntry ⟨sg hxw hm.1,hn,hm.2.2⟩
     ·exact W1.send trivial
    |block l=>
     dsimp only;split
     ·exact W.putEntry ⟨sg hxw hm.1,hn,hm.2.2⟩
     ·exact W1.send trivial
end
end Gs
namespace Gs
open PySem PySem.Spec PyProof.Rows L2
open Mx (Up)
noncomputable def shapeOf (i:Nat):Option (Nat×Nat):=PyVbcnai.shape (i:Int)
structure Tx (K:PySem.W.Frag) (mg:Str->Option Value) (c:Cs):Prop extends Txt K mg c where
 dist:gd c
 IB:c.Line≠c.bc/\c.Line≠c.Query/\c.Line≠c.Entry
 IC:c.Reader≠c.bc/\c.Reader≠c.Query/\c.Reader≠c.Entry
 nothing:∀H,bC K H c.wR Vbcnai.none_
 nP:∀H,bC K H c.jB Vbcnai.all_
 HI:∀C∈[c.bc,c.Query],PySem.W.findIn K (.ref C) "__class__"=some (some (.builtin "object.__class__"))/\PySem.W.mroIn K C (.type "object")=some true
 Gh:PySem.W.specialIn K (.builtin "object.__class__") "__get__"=some (some (.builtin "getset_descriptor.__get__"))/\PySem.W.takesIn K (.builtin "object.__class__")=some true
 JD:PySem.W.kitOne K (.ref c.bc) (.ref c.bc)=some true
 isQ:PySem.W.kitOne K (.ref c.Query) (.ref c.bc)=some false
 shapes:∃as:List Addr,(∀H,eJ K H c.DJ (as.map V.ref))/\∀i:Nat,match shapeOf i with
  |some (n,k)=>∃a,as[i]? =some a/\∀H,eJ K H a [.int n,.int k]
  |none=>True
section
variable{K:PySem.W.Frag}{mg:Str->Option Value}{c:Cs}{H H':Hp}{g:Role->Addr}{s:State}
theorem ax.f (N:ax K c H g s){f:Str}{v:V}(cl:uE K c.Net) (na:ay K c.Net f) (l:(qt g s).lookup f=some v):Fd K H (g .n) f v:=
 let ⟨dx,e⟩:=N.nM
 ⟨_,dx,_,e,cl,na,l⟩
theorem ax.sf (N:ax K c H g s){f:Str}{v:V}(cl:uE K c.Switch) (na:ay K c.Switch f) (l:(pI g s).lookup f=some v):Fd K H (g .sw) f v:=
 let ⟨dx,e⟩:=N.pJ
 ⟨_,dx,_,e,cl,na,l⟩
theorem jV.f {a dw ds:Addr}{x:Ho}(N:jV K c H a dw ds x){f:Str}{v:V}(cl:uE K c.Host) (na:ay K c.Host f) (l:(jk x dw ds).lookup f=some v):Fd K H a f v:=
 let ⟨dx,e⟩:=N.obj
 ⟨_,dx,_,e,cl,na,l⟩
end
section
variable{P:Program}{w:World}{K:PySem.W.Frag}{mg:Str->Option Value}{base:Heap}{c:Cs}
noncomputable def B7 (K:PySem.W.Frag) (c:Cs):Sp:=λvs H Q _=>∃(g:Role->Addr) (s:State) (p:Int),vs=[.ref (g .n),.int p]/\ax K c H g s/\Q (.bl (Vbcnai.isPort s p)) H
theorem bF (T:Tx K mg c):Me P w K mg base c.Net "has_port" 1 ["self","port"] (B7 K c):=by
 refine T.gO.ok rG (λvs H Q E h=>?_) (λf cdv A outer s H vs Q E hr h=>?_)
 ·obtain⟨g,s,p,rfl,_⟩:=h;rfl
 ·obtain⟨g,z,p,rfl,N,k⟩:=h;refine⟨_,(ag (aj (ku cB qG ah (pv 1) (aB (pv 0))))),?_⟩;unfold Vbcnai.isPort at k;refine⟨_,rfl,_,_,rfl,rfl,_,rfl,b7 (λh=>⟨_,rfl,_,_,rfl,N.f T.aA.cl T.di rfl,_,_,rfl,rfl,?_⟩) (λh=>?_)⟩
  ·rw[zX h]at k;have e:decide (p<=(z.ports:Int) - 1)=decide (p<(z.ports:Int)):=by
    rw[decide_eq_decide];omega
   rw[e]at k;exact k
  ·rw[B0 h]at k;exact k
noncomputable def jW (s:State) (k:Int):Bool:=decide (0<=k)&&decide (k<(s.bag.length:Int))
noncomputable def D9 (K:PySem.W.Frag) (c:Cs):Sp:=λvs H Q _=>∃(g:Role->Addr) (s:State) (p:Int),vs=[.ref (g .n),.int p]/\ax K c H g s/\Q (.bl (jW s p)) H
theorem ax.lG {H:Hp}{s:State}{as:List Addr}(h:Paired (λa m=>dq K c H a m) as s.bag):(as.map V.ref).length=s.bag.length:=by
 rw[JQ];exact Paired.length h
theorem eX (T:Tx K mg c):Me P w K mg base c.Net "has_message" 1 ["self","place"] (D9 K c):=by
 refine T.eS.ok nh (λvs H Q E h=>?_) (λf cdv A outer s H vs Q E hr h=>?_)
 ·obtain⟨g,s,p,rfl,_⟩:=h;rfl
 ·obtain⟨g,z,p,rfl,N,k⟩:=h;obtain⟨as,e1,e2⟩:=N.bag;refine⟨_,(ag (aj (ku cB qG ah (pv 1) (aO bu (by rfl) T.dJ cT (aa (aB (pv 0)) ae))))),?_⟩;unfold jW at k;refine⟨_,rfl,_,_,rfl,rfl,_,rfl,b7 (λh=>⟨_,rfl,_,_,rfl,N.f T.aA.cl T.cy rfl,_,_,rfl,.inl (ba.of e1),_,_,rfl,rfl,?_⟩) (λh=>?_)⟩
  ·rw[h,Bool.true_and]at k;rw[ax.lG e2];exact k
  ·rw[eq_false_of_ne_true h,Bool.false_and]at k;exact k
noncomputable def Hj (K:PySem.W.Frag) (c:Cs):Sp:=λvs H Q _=>∃(g:Role->Addr) (s:State),vs=[.ref (g .n)]/\ax K c H g s/\Q (.bl (decide (s.cfg.bag<=s.bag.length))) H
theorem iq (T:Tx K mg c):Me P w K mg base c.Net "bag_is_full" 1 ["self"] (Hj K c):=by
 refine T.eU.ok ni (λvs H Q E h=>?_) (λf cdv A outer s H vs Q E hr h=>?_)
 ·obtain⟨g,s,rfl,_⟩:=h;rfl
 ·obtain⟨g,z,rfl,N,k⟩:=h;obtain⟨as,e1,e2⟩:=N.bag;refine⟨_,(ag (aj (cn C5 (aO bu (by rfl) T.dJ cT (aa (aB (pv 0)) ae)) (aB (pv 0)) (aD _)))),?_⟩;refine⟨_,rfl,_,_,rfl,N.f T.aA.cl T.cy rfl,_,_,rfl,.inl (ba.of e1),_,rfl,_,_,rfl,N.f T.aA.cl T.cH rfl,_,_,rfl,rfl,?_⟩;rw[ax.lG e2];have e:decide ((z.cfg.bag:Int)<=(z.bag.length:Int))=decide (z.cfg.bag<=z.bag.length):=by
   rw[decide_eq_decide];omega
  show Q (.bl (decide ((z.cfg.bag:Int)<=(z.bag.length:Int)))) H;rw[e];exact k
theorem Paired.snoc {α β:Type}{R:α->β->Prop}{a:α}{b:β}(r:R a b):∀{xs:List α}{ys:List β},Paired R xs ys->Paired R (xs++[a]) (ys++[b])
 |_,_,.nil=>.cons r .nil
 |_,_,.cons q t=>.cons q (Paired.snoc r t)
theorem cY {s s':State}(h:s.hosts=s'.hosts) (r:Role):Used s r↔Used s' r:=by
 have e:∀n,Vbcnai.hostOf s n=Vbcnai.hostOf s' n:=λn=>by unfold Vbcnai.hostOf;rw[h]
 cases r with
 |ho i=>show _=true↔_=true;rw[e]
 |dw i=>show _=true↔_=true;rw[e]
 |ds i=>show _=true↔_=true;rw[e]
 |_=>exact Iff.rfl
theorem ax.Aa {H H':Hp}{g:Role->Addr}{s:State}{l:List Msg}(N:ax K c H g s) (D:gd c) (h:Ch g (λr=>r=.bg) H H') (b:∃as:List Addr,H' (g .bg)=some (.lst (as.map V.ref))/\Paired (λa m=>dq K c H' a m) as l):ax K c H' g {s with bag:=l}:=by
 have hR:∀r,(λ(r:Role)=>r=.bg) r->Used s r:=λr e=>by rw[e];exact trivial
 exact⟨let ⟨dx,e⟩:=N.nM;⟨dx,N.at_ h hR (r:=.n) trivial (λz=>nomatch z) e⟩,let ⟨dx,e⟩:=N.pJ;⟨dx,N.at_ h hR (r:=.sw) trivial (λz=>nomatch z) e⟩,b,
  N.hosts.keep λo e=>N.at_ h hR (r:=.hd) trivial (λz=>nomatch z) e,λn x hx=>N.nN D h hR hx (λz=>nomatch z) (λz=>nomatch z) (λz=>nomatch z),N.mM D h hR (λz=>nomatch z),
  N.rk.keep λo e=>N.at_ h hR (r:=.pl) trivial (λz=>nomatch z) e,N.fix.keep λo e=>N.at_ h hR (r:=.fx) trivial (λz=>nomatch z) e,N.tX.keep λo e=>N.at_ h hR (r:=.he) trivial (λz=>nomatch z) e,N.inj⟩
theorem ax.w8 {H:Hp}{g:Role->Addr}{s s':State}(N:ax K c H g s) (D:gd c){dx:Addr}(hs:s'.hosts=s.hosts) (he:s'.entries=s.entries) (hp:s'.plains=s.plains) (hf:s'.fixed=s.fixed) (hh:s'.heard=s.heard) (hb:s'.bag=s.bag)
  (hw:pI g s'=pI g s):ax K c (upd H (g .n) (.ins c.Net dx (qt g s'))) g s':=by
 have h:Ch g (λr=>r=.n) H (upd H (g .n) (.ins c.Net dx (qt g s'))):=Ch.upd rfl;have hR:∀r,(λ(r:Role)=>r=.n) r->Used s r:=λr e=>by rw[e];exact trivial
 have e1:∀n,Vbcnai.hostOf s' n=Vbcnai.hostOf s n:=λn=>by unfold Vbcnai.hostOf;rw[hs]
 have e2:∀a b,Vbcnai.entryOf s' a b=Vbcnai.entryOf s a b:=λa b=>by unfold Vbcnai.entryOf;rw[he]
 refine⟨⟨dx,ab⟩,let ⟨dx,e⟩:=N.pJ;⟨dx,by rw[hw];exact N.at_ h hR (r:=.sw) trivial (λz=>nomatch z) e⟩,?_,?_,?_,?_,?_,?_,?_,λr r' u u'=>N.inj r r' ((cY hs r).mp u) ((cY hs r').mp u')⟩
 ·rw[hb];exact N.vI D h hR (λz=>nomatch z)
 ·exact(N.hosts.keep λo e=>N.at_ h hR (r:=.hd) trivial (λz=>nomatch z) e).congr λn=>by rw[e1]
 ·intro n x hx;rw[e1]at hx;exact N.nN D h hR hx (λz=>nomatch z) (λz=>nomatch z) (λz=>nomatch z)
 ·obtain⟨f,a,b⟩:=N.mM D h hR (λz=>nomatch z);exact⟨f,a,λp=>by rw[e2];exact b p⟩
 ·exact(N.rk.keep λo e=>N.at_ h hR (r:=.pl) trivial (λz=>nomatch z) e).congr λn=>by unfold bx;rw[hp]
 ·exact(N.fix.keep λo e=>N.at_ h hR (r:=.fx) trivial (λz=>nomatch z) e).congr λn=>by rw[hf]
 ·exact(N.tX.keep λo e=>N.at_ h hR (r:=.he) trivial (λz=>nomatch z) e).congr λn=>by unfold cU;rw[hh]
noncomputable def Ea (K:PySem.W.Frag) (c:Cs):Sp:=λvs H Q _=>∃(g:Role->Addr) (s:State) (a:Addr) (m:Msg) (U:List Nat) (n:Nat),vs=[.ref (g .n),.ref a]/\ax K c H g s/\dq K c H a m/\Wf U n s/\
 ∀H':Hp,ax K c H' g (Vbcnai.send s m)->Mv g s H g (Vbcnai.send s m) H'->Q .bQ H'
theorem Ab (s:State) (m:Msg):(Vbcnai.send s m).hosts=s.hosts:=by
 unfold Vbcnai.send;split<;>rfl
theorem gX (T:Tx K mg c):Me P w K mg base c.Net "send" 2 ["self","message"] (Ea K c):=by
 refine T.nz.ok yw (λvs H Q E h=>?_) (λf cdv A outer s H vs Q E hr h=>?_)
 ·obtain⟨g,s,a,m,U,n,rfl,_⟩:=h;rfl
 ·obtain⟨g,z,a,m,U,n,rfl,N,hm,W,k⟩:=h;refine⟨_,(ag (aF (aR (jx (pv 0) (iq T) hr))
   (ag (lN (pv 0) ah wk))
   (ag (aM (i3 PySem.F.plainAttrs_list PySem.F.slot_list_append PySem.F.type_list_append i4 (aB (pv 0)) (aa (pv 1) ae)))))),?_⟩
  obtain⟨dn,en⟩:=N.nM;obtain⟨as,e1,e2⟩:=N.bag;have hmv:∀{R:Role->Prop}{H':Hp},Ch g R H H'->(∀r,R r->Used z r)->Mv g z H g (Vbcnai.send z m) H':=λh hR=>Mv.lF h hR λr=>cY (Ab z m).symm r;refine⟨_,rfl,g .n,dn,_,rfl,en,rfl,g,z,rfl,N,_,rfl,b7 (λh=>?_) (λh=>?_)⟩
  ·rw[JT]at h;have es:Vbcnai.send z m={z with lost:=z.lost+1}:=by
    unfold Vbcnai.send;rw[if_neg (by omega)]
   refine⟨_,rfl,g .n,_,dn,_,_,rfl,en,T.aA.cl,T.gL,rfl,_,_,rfl,rfl,dn,_,en,(by show 12<1000;decide),?_⟩;have hN:ax K c (upd H (g .n) (.ins c.Net dn (qt g {z with lost:=z.lost+1}))) g {z with lost:=z.lost+1}:=N.w8 T.dist rfl rfl rfl rfl rfl rfl rfl;rw[es]at k hmv;exact k _ hN (hmv (R:=λr=>r=.n) (Ch.upd rfl) λr e=>by rw[e];exact trivial)
  ·rw[JT]at h;have es:Vbcnai.send z m={z with bag:=z.bag++[m]}:=by
    unfold Vbcnai.send;rw[if_pos (by omega)]
   have hl:=ax.lG e2;refine⟨_,rfl,_,_,rfl,N.f T.aA.cl T.cy rfl,.inl ⟨rfl,_,ba.of e1⟩,_,rfl,g .bg,_,_,rfl,rfl,e1,?_,?_⟩
   ·rw[hl];have:=W.bl;have:=W.cb;show _<2^24;omega
   ·have hc:Ch g (λr=>r=.bg) H (upd H (g .bg) (.lst (as.map V.ref++[.ref a]))):=Ch.upd rfl;have kp:=N.kp T.dist hc λr e=>by rw[e];exact trivial
    rw[es]at k hmv;refine k _ (N.Aa T.dist hc ⟨as++[a],by rw[ab,Ki];rfl,Paired.snoc (hm.keep kp) (Paired.imp (λ_ _ r=>r.keep kp) e2)⟩) (hmv hc λr e=>by rw[e];exact trivial)
noncomputable def Hk (K:PySem.W.Frag) (c:Cs):Sp:=λvs H Q _=>∃(g:Role->Addr) (s:State) (u:Nat),vs=[.ref (g .n),.int u]/\ax K c H g s/\Q (.int ((u - s.now:Nat):Int)) H
theorem mN (T:Tx K mg c):Me P w K mg base c.Net "rest_of" 1 ["self","until"] (Hk K c):=by
 refine T.iH.ok tm (λvs H Q E h=>?_) (λf cdv A outer s H vs Q E hr h=>?_)
 ·obtain⟨g,s,u,rfl,_⟩:=h;rfl
 ·obtain⟨g,z,u,rfl,N,k⟩:=h;refine⟨_,(ag (aj (aO (BG rfl) (by rfl) T.DK Ha (aa ah (aa (cu wa (pv 1) (aB (pv 0))) ae))))),?_⟩;refine⟨_,rfl,_,rfl,_,_,rfl,N.f T.aA.cl T.bA rfl,_,_,rfl,rfl,_,_,rfl,?_⟩;have e:(if(u:Int) - (z.now:Int)>0 then(u:Int) - (z.now:Int)else 0)=((u - z.now:Nat):Int):=by
   split<;>omega
  rw[e];exact k
end
end Gs
namespace Gs
open PySem PySem.Spec PyProof.Rows L2
open Mx (Up)
open Vbcnai (hostOf hasOf putHost putHas wanted)
section
variable{P:Program}{w:World}{K:PySem.W.Frag}{mg:Str->Option Value}{base:Heap}{c:Cs}
theorem dP (f:Nat->Option V) (n:Nat):valZ f (n:Int)=f n:=by
 unfold valZ;rw[if_pos (by omega),Ko]
noncomputable def Eb (K:PySem.W.Frag) (c:Cs):Sp:=λvs H Q _=>∃(a dw ds:Addr) (x:Ho) (gr:Nat),vs=[.ref a,.int gr]/\jV K c H a dw ds x/\∀t,bC K H t (wanted x gr)->Q (.ref t) H
theorem gY (T:Tx K mg c):Me P w K mg base c.Host "want_of" 1 ["self","group"] (Eb K c):=by
 refine T.gM.ok rE (λvs H Q E h=>?_) (λf cdv A outer s H vs Q E hr h=>?_)
 ·obtain⟨a,dw,ds,x,gr,rfl,_⟩:=h;rfl
 ·obtain⟨a,dw,ds,x,gr,rfl,hA,k⟩:=h;have hu:=cX hr;refine⟨_,(ag (aj (yj hu (aB (pv 0)) (pv 1) (sS T.jh) ⟨rfl,rfl,rfl,rfl⟩))),?_⟩;obtain⟨fw,d1,d2⟩:=hA.Cz;refine⟨_,rfl,_,_,rfl,hA.f T.a8.cl T.bw rfl,dw,rfl,d1.Gf,_,rfl,_,d1.get gr,?_⟩;rw[dP];have q:=d2 gr;unfold Vbcnai.wanted at k;cases hf:fw gr with
  |none=>
   rw[hf]at q;cases hh:hasOf x gr with
   |none=>rw[hh]at k;exact k _ (T.nothing H)
   |some y=>rw[hh]at q;exact q.elim
  |some v=>
   rw[hf]at q;cases hh:hasOf x gr with
   |none=>rw[hh]at q;exact q.elim
   |some y=>
    rw[hh]at q k;obtain⟨t,rfl,hw⟩:=q;exact k t hw
noncomputable def B8 (K:PySem.W.Frag) (c:Cs):Sp:=λvs H Q _=>∃(a dw ds:Addr) (x:Ho) (gr:Nat) (U:List Nat),vs=[.ref a,.int gr]/\jV K c H a dw ds x/\iV U x/\Q (.bl ((hasOf x gr).isSome||decide (x.has.length<64))) H
theorem bL {α:Type}{R:Addr->α->Prop}:∀{o:Option V}{p:Option α},kg R o p->o.isSome=p.isSome
 |none,none,_=>rfl
 |some _,some _,_=>rfl
 |none,some _,h=>h.elim
 |some _,none,h=>h.elim
theorem rL (T:Tx K mg c):Me P w K mg base c.Host "can_keep" 1 ["self","group"] (B8 K c):=by
 refine T.fU.ok pY (λvs H Q E h=>?_) (λf cdv A outer s H vs Q E hr h=>?_)
 ·obtain⟨a,dw,ds,x,gr,U,rfl,_⟩:=h;rfl
 ·obtain⟨a,dw,ds,x,gr,U,rfl,hA,ho,k⟩:=h;have hu:=cX hr;refine⟨_,(ag (aj (F4 (Gz (sP hu (pv 1) (aB (pv 0)))) (mU (cn qG (aO pS (by rfl) T.dJ cT (aa (aB (pv 0)) ae)) (bz T.c7) (aD _)))))),?_⟩;obtain⟨fw,d1,d2⟩:=hA.Cz;have hF:=hA.f T.a8.cl T.bw rfl;refine⟨_,rfl,_,rfl,_,_,rfl,hF,dw,_,rfl,d1.get gr,_,rfl,?_⟩;rw[dP,bL (d2 gr)];cases hh:(hasOf x gr).isSome with
  |true=>rw[hh]at k;exact bG k
  |false=>
   rw[hh,Bool.false_or]at k;obtain⟨kvs,e,hl⟩:=d1.len (B:=x.has.map (·.group)) (Mx.Up.nodup ho.B6) λn=>by rw[bL (d2 n)];exact fz x n
   refine bX ⟨_,rfl,_,_,rfl,hF,dw,kvs,rfl,e,_,_,rfl,rfl,?_⟩;rw[hl,JQ];have e2:decide ((x.has.length:Int)<64)=decide (x.has.length<64):=by
    rw[decide_eq_decide];omega
   show Q (.bl (decide ((x.has.length:Int)<64))) H;rw[e2];exact k
theorem ax.Bc {H H':Hp}{g:Role->Addr}{s:State}{U:List Nat}{n:Nat}{x x':Ho}(N:ax K c H g s) (D:gd c) (W:Wf U n s) (hx:hostOf s x.id=some x) (hi:x'.id=x.id)
  (h:Ch g (λr=>r=.ho x.id\/r=.dw x.id\/r=.ds x.id) H H') (hA:jV K c H' (g (.ho x.id)) (g (.dw x.id)) (g (.ds x.id)) x'):ax K c H' g {s with hosts:=putHost x' s.hosts}/\Mv g s H g {s with hosts:=putHost x' s.hosts} H':=by
 have hR:∀r,(λ(r:Role)=>r=.ho x.id\/r=.dw x.id\/r=.ds x.id) r->Used s r:=λr e=>by
  rcases e with rfl|rfl|rfl
  ·show(hostOf s x.id).isSome=true;rw[hx];rfl
  ·show(hostOf s x.id).isSome=true;rw[hx];rfl
  ·show(hostOf s x.id).isSome=true;rw[hx];rfl
 have hp:∀m,hostOf {s with hosts:=putHost x' s.hosts} m=if m=x.id then some x' else hostOf s m:=λm=>by rw[nO W.hs,hi]
 have hiff:∀m,(hostOf {s with hosts:=putHost x' s.hosts} m).isSome=true↔(hostOf s m).isSome=true:=λm=>by
  rw[hp]
  by_cases e:m=x.id
  ·rw[if_pos e,e,hx];exact⟨λ_=>rfl,λ_=>rfl⟩
  ·rw[if_neg e]
 have hU:∀r,Used s r↔Used {s with hosts:=putHost x' s.hosts} r:=λr=>by
  cases r with
  |ho i=>exact(hiff i).symm
  |dw i=>exact(hiff i).symm
  |ds i=>exact(hiff i).symm
  |_=>exact Iff.rfl
 have nr:∀{r:Role},(∀i,r≠.ho i/\r≠.dw i/\r≠.ds i)->¬(r=.ho x.id\/r=.dw x.id\/r=.ds x.id):=λ{r} h z=>by
  rcases z with z|z|z
  ·exact(h x.id).1 z
  ·exact(h x.id).2.1 z
  ·exact(h x.id).2.2 z
 have t:∀{r:Role}{i:Nat},(r=.n\/r=.sw\/r=.hd\/r=.bg\/r=.en\/r=.pl\/r=.fx\/r=.he)->(r≠.ho i/\r≠.dw i/\r≠.ds i):=λ{r i} q=>by
  rcases q with rfl|rfl|rfl|rfl|rfl|rfl|rfl|rfl<;>exact⟨λz=>(nomatch z),λz=>(nomatch z),λz=>(nomatch z)⟩
 refine⟨⟨let ⟨dx,e⟩:=N.nM;⟨dx,N.at_ h hR (r:=.n) trivial (nr λi=>t (by simp)) e⟩,let ⟨dx,e⟩:=N.pJ;⟨dx,N.at_ h hR (r:=.sw) trivial (nr λi=>t (by simp)) e⟩,N.vI D h hR (nr λi=>t (by simp)),?_,?_,N.mM D h hR (nr λi=>t (by simp)),
  N.rk.keep λo e=>N.at_ h hR (r:=.pl) trivial (nr λi=>t (by simp)) e,N.fix.keep λo e=>N.at_ h hR (r:=.fx) trivial (nr λi=>t (by simp)) e,N.tX.keep λo e=>N.at_ h hR (r:=.he) trivial (nr λi=>t (by simp)) e,λr r' u u'=>N.inj r r' ((hU r).mpr u) ((hU r').mpr u')⟩,Mv.lF h hR hU⟩
 ·refine(N.hosts.keep λo e=>N.at_ h hR (r:=.hd) trivial (nr λi=>t (by simp)) e).congr λm=>?_;rw[hp]
  by_cases e:m=x.id
  ·rw[if_pos e,e,hx];rfl
  ·rw[if_neg e]
 ·intro m y hy;rw[hp]at hy
  by_cases e:m=x.id
  ·rw[if_pos e]at hy;cases hy;rw[e];exact hA
  ·rw[if_neg e]at hy;refine N.nN D h hR hy ?_ ?_ ?_
   ·rintro(z|z|z)
    ·injection z with z;exact e z
    ·exact nomatch z
    ·exact nomatch z
   ·rintro(z|z|z)
    ·exact nomatch z
    ·injection z with z;exact e z
    ·exact nomatch z
   ·rintro(z|z|z)
    ·exact nomatch z
    ·exact nomatch z
    ·injection z with z;exact e z
theorem lU {U:List Nat}{x:Ho}(h:iV U x) (g:Nat):ji U (wanted x g):=by
 unfold Vbcnai.wanted;cases q:hasOf x g with
 |none=>exact In.nil
 |some y=>exact(h.ok y (yD q).1).1
noncomputable def Ec (K:PySem.W.Frag) (c:Cs):Sp:=λvs H Q _=>∃(g:Role->Addr) (s:State) (x:Ho) (gr:Nat) (ea:Addr) (e:mL) (U:List Nat) (n:Nat),vs=[.ref (g .n),.ref (g (.ho x.id)),.int gr,.ref ea]/\ax K c H g s/\hostOf s x.id=some x/\f7 K H ea e/\Wf U n s/\Sm U/\
 z9 U x gr (Vbcnai.does (wanted x gr) e) e/\∀H':Hp,ax K c H' g (Vbcnai.tells s x gr (Vbcnai.does (wanted x gr) e) e)->Mv g s H g (Vbcnai.tells s x gr (Vbcnai.does (wanted x gr) e) e) H'->Q .bQ H'
theorem Ac (T:Tx K mg c):Fn P w K mg base "tell" 3 ["net","host","group","step"] (Ec K c):=by
 refine T.zW.ok A5 (λvs H Q E h=>?_) (λf cdv A outer s H vs Q E hr h=>?_)
 ·obtain⟨g,s,x,gr,ea,e,U,n,rfl,_⟩:=h;rfl
 ·obtain⟨g,z,x,gr,ea,e,U,n,rfl,N,hx,he,W,hU,ht,k⟩:=h;have nd:=A5.nd;have hu:=cX hr;refine⟨_,(af (fA hu (aB (pv 1)) (pv 2) (az (ik T.toTxt) hr (aa (pv 3) (aa (bT (pv 1) (gY T) hr (aa (pv 2) ae)) ae))) rfl)
   (af (aT (i:=4) nd rfl (Or.inl rfl) (yj hu (aB (pv 1)) (pv 2) ah ⟨rfl,rfl,rfl,rfl⟩))
   (af (aF (aE bj (aB (pv 1)) (bz T.fk) (aD _))
   (af (fA hu (aB (pv 1)) (pv 2) (pv 4) rfl)
   (ag AL))
   au)
   (af (fA hu (aB (pv 1)) (pv 2) (cu fj (pv 4) ah) rfl)
   (ag (aM (bT (pv 0) (gX T) hr (aa (l7 (D6 T.toTxt) hr (aa (aB (pv 1)) (aa (aB (pv 1)) (aa (pv 2) (aa (cu fj (pv 4) ah) (aa (aB (pv 0)) (aa (pv 3) ae))))))) ae)))))))),?_⟩
  have hA:=N.host _ _ hx;have ho:=W.host hx;obtain⟨dh,eh⟩:=hA.obj;refine⟨_,rfl,_,rfl,_,dh,_,rfl,eh,rfl,_,rfl,_,_,_,x,gr,rfl,hA,λt hw=>?_⟩;refine⟨ea,t,e,wanted x gr,U,rfl,he,hw,ht.ei,lU ho gr,hU,λH1 p s1 hp=>?_⟩;have N1:=N.same T.dist s1;have hA1:=N1.host _ _ hx;obtain⟨fw,d1,d2⟩:=hA1.Cz;have clH:=T.a8.cl;have idsW:∀m,(fw m).isSome=true↔m∈x.has.map (·.group):=λm=>by rw[bL (d2 m)];exact fz x m
  have lenW:(x.has.map (·.group)).length<sizeLine:=by
   rw[JQ];have:=ho.len;show _<2^24;omega
  obtain⟨o,hput,hnt,hdn⟩:=d1.put (Mx.Up.nodup ho.B6) idsW lenW gr (.ref p);refine⟨_,rfl,_,_,rfl,hA1.f clH T.bw rfl,_,rfl,_,_,rfl,hput,?_⟩;have u:(hostOf z x.id).isSome=true:=by rw[hx];rfl
  have hds:g (.ds x.id)≠g (.dw x.id):=λq=>nomatch (N.inj (.ds x.id) (.dw x.id) u u q);have hho:g (.ho x.id)≠g (.dw x.id):=λq=>nomatch (N.inj (.ho x.id) (.dw x.id) u u q);have hhs:g (.ho x.id)≠g (.ds x.id):=λq=>nomatch (N.inj (.ho x.id) (.ds x.id) u u q);obtain⟨dh1,eh1⟩:=hA1.obj;have eh2:(upd H1 (g (.dw x.id)) o) (g (.ho x.id))=some (.ins c.Host dh1 (jk x (g (.dw x.id)) (g (.ds x.id)))):=by rw[ak hho];exact eh1
  have fd2:∀{f:Str}{v:V},ay K c.Host f->(jk x (g (.dw x.id)) (g (.ds x.id))).lookup f=some v->Fd K (upd H1 (g (.dw x.id)) o) (g (.ho x.id)) f v:=λna l=>⟨_,dh1,_,eh2,clH,na,l⟩;have ser2:DN (upd H1 (g (.dw x.id)) o) (g (.ds x.id)) λm=>(hasOf x m).map λy=>.int y.serial:=hA1.HH.keep λu e=>by rw[ak hds];exact e
  refine⟨_,rfl,_,_,rfl,fd2 T.cf rfl,_,rfl,ser2.Gf,_,rfl,_,ser2.get gr,?_⟩;rw[dP];have ek:(((hasOf x gr).map λy=>V.int y.serial).getD (V.int 0))=V.int ((((hasOf x gr).map λy=>y.serial).getD 0:Nat):Int):=by
   cases hasOf x gr<;>rfl
  rw[ek];have idsS:∀m,(((hasOf x m).map λy=>V.int y.serial)).isSome=true↔m∈x.has.map (·.group):=λm=>by rw[Kn];exact fz x m
  have fin:∀(k':Nat) (v:V),v=.int (k':Int)->∃o',rD (upd H1 (g (.dw x.id)) o) (g (.ds x.id)) (.int gr) v (upd (upd H1 (g (.dw x.id)) o) (g (.ds x.id)) o')/\
    ax K c (upd (upd H1 (g (.dw x.id)) o) (g (.ds x.id)) o') g {z with hosts:=putHost ⟨x.id,x.port,putHas ⟨gr,Vbcnai.does (wanted x gr) e,k'⟩ x.has⟩ z.hosts}/\Mv g z H g {z with hosts:=putHost ⟨x.id,x.port,putHas ⟨gr,Vbcnai.does (wanted x gr) e,k'⟩ x.has⟩ z.hosts} (upd (upd H1 (g (.dw x.id)) o) (g (.ds x.id)) o')/\Tk H (upd (upd H1 (g (.dw x.id)) o) (g (.ds x.id)) o'):=by
   intro k' v hv;subst hv;obtain⟨o',hput',hnt',hdn'⟩:=ser2.put (Mx.Up.nodup ho.B6) idsS lenW gr (.int (k':Int));have hc:Ch g (λr=>r=.ho x.id\/r=.dw x.id\/r=.ds x.id) H (upd (upd H1 (g (.dw x.id)) o) (g (.ds x.id)) o'):=((s1.ch).trans (Ch.upd (.inr (.inl rfl)))).trans (Ch.upd (.inr (.inr rfl)));have hR:∀r,(λ(r:Role)=>r=.ho x.id\/r=.dw x.id\/r=.ds x.id) r->Used z r:=λr e=>by
    rcases e with rfl|rfl|rfl<;>exact u
   have kp:=N.kp T.dist hc hR;have hc1:Ch g (λr=>r=.ho x.id\/r=.dw x.id\/r=.ds x.id) H1 (upd (upd H1 (g (.dw x.id)) o) (g (.ds x.id)) o'):=(Ch.upd (.inr (.inl rfl))).trans (Ch.upd (.inr (.inr rfl)));have kp1:=N1.kp T.dist hc1 hR;have hA':jV K c (upd (upd H1 (g (.dw x.id)) o) (g (.ds x.id)) o') (g (.ho x.id)) (g (.dw x.id)) (g (.ds x.id)) ⟨x.id,x.port,putHas ⟨gr,Vbcnai.does (wanted x gr) e,k'⟩ x.has⟩:=by
    refine⟨⟨dh1,by rw[ak hhs];exact eh2⟩,⟨_,hdn _ (by rw[ak hds.symm];exact ab),λm=>?_⟩,(hdn' _ ab).congr λm=>?_⟩
    ·have hp':=vK (x:=x) (y:=⟨gr,Vbcnai.does (wanted x gr) e,k'⟩) ho.EM m;have hp'':hasOf ⟨x.id,x.port,putHas ⟨gr,Vbcnai.does (wanted x gr) e,k'⟩ x.has⟩ m=if m=gr then some ⟨gr,Vbcnai.does (wanted x gr) e,k'⟩else hasOf x m:=hp';rw[hp'']
     by_cases q:m=gr
     ·rw[if_pos q,if_pos q];exact⟨p,rfl,hp.keep kp1.tk⟩
     ·rw[if_neg q,if_neg q];exact(d2 m).imp λa y w=>w.keep kp1.tk
    ·have hp':=vK (x:=x) (y:=⟨gr,Vbcnai.does (wanted x gr) e,k'⟩) ho.EM m;have hp'':hasOf ⟨x.id,x.port,putHas ⟨gr,Vbcnai.does (wanted x gr) e,k'⟩ x.has⟩ m=if m=gr then some ⟨gr,Vbcnai.does (wanted x gr) e,k'⟩else hasOf x m:=hp';rw[hp'']
     by_cases q:m=gr
     ·rw[if_pos q,if_pos q];rfl
     ·rw[if_neg q,if_neg q]
   obtain⟨N3,mv3⟩:=N.Bc T.dist W hx (x':=⟨x.id,x.port,putHas ⟨gr,Vbcnai.does (wanted x gr) e,k'⟩ x.has⟩) rfl hc hA';exact⟨o',hput',N3,mv3,kp.tk⟩
  refine⟨_,rfl,_,_,rfl,fd2 T.bo rfl,rfl,_,rfl,?_⟩;unfold Vbcnai.tells at k;cases hp0:x.port with
  |none=>
   rw[hp0]at k;obtain⟨o',hput',N3,mv3,_⟩:=fin (((hasOf x gr).map λy=>y.serial).getD 0) _ rfl;rw[hp0]at N3 mv3;exact bK rfl ⟨_,rfl,_,rfl,_,_,rfl,fd2 T.cf rfl,_,rfl,_,_,rfl,hput',k _ N3 mv3⟩
  |some pt=>
   rw[hp0]at k;have hne:¬(decide (V.int (gI (some pt))=V.int (-1))=true):=λq=>by
    have:=J0 q;injection this with this;have e:gI (some pt)=(pt:Int):=rfl;omega
   refine aQ hne ?_;obtain⟨o',hput',N3,mv3,tk3⟩:=fin (((hasOf x gr).map λy=>y.serial).getD 0+1) _ rfl;refine⟨_,rfl,_,_,rfl,rfl,_,rfl,_,_,rfl,fd2 T.cf rfl,_,rfl,_,_,rfl,hput',?_⟩;have fd3:∀{f:Str}{v:V},ay K c.Host f->(jk x (g (.dw x.id)) (g (.ds x.id))).lookup f=some v->Fd K (upd (upd H1 (g (.dw x.id)) o) (g (.ds x.id)) o') (g (.ho x.id)) f v:=λna l=>⟨_,dh1,_,by rw[ak hhs];exact eh2,clH,na,l⟩;have W3:Wf U n {z with hosts:=putHost ⟨x.id,x.port,putHas ⟨gr,Vbcnai.does (wanted x gr) e,((hasOf x gr).map λy=>y.serial).getD 0+1⟩ x.has⟩ z.hosts}:=
    W.putHost (ho.put (y:=⟨gr,Vbcnai.does (wanted x gr) e,_⟩) ⟨ht.wi,ht.wl,ht.gl⟩ ht.room) (.inl ((dt x.id).mp u))
   have he3:=he.keep tk3;generalize (upd (upd H1 (g (.dw x.id)) o) (g (.ds x.id)) o')=H3 at N3 mv3 fd3 he3;obtain⟨dn,en⟩:=N3.nM;refine⟨_,rfl,g .n,dn,_,rfl,en,rfl,_,rfl,_,_,rfl,fd3 T.fE rfl,_,rfl,_,_,rfl,fd3 (v:=.int (pt:Int)) T.bo ((show _=some (V.int (gI x.port))from rfl).trans (by rw[hp0];rfl)),_,rfl,_,rfl,_,_,rfl,rfl,_,rfl,_,_,rfl,N3.f T.aA.cl T.bA rfl,_,rfl,?_⟩;intro y dy ny ndy ne;refine⟨y,dy,_,_,_,_,_,_,rfl,ab,rfl,?_⟩;have s4:=made (C:=c.bc) (o:=.ins c.bc dy (Hd x.id pt gr (((hasOf x gr).map λy=>y.serial).getD 0+1) z.now ea)) ny ndy;have N4:=N3.same T.dist s4;rw[hp0]at N4 W3 mv3 N3;refine⟨g,_,y,.report x.id pt gr (((hasOf x gr).map λy=>y.serial).getD 0+1) z.now e,U,n,rfl,N4,⟨dy,ea,ab,he3.keep s4.tk⟩,W3,λH5 N5 mv5=>?_⟩;exact k H5 N5 (mv3.trans N3 T.dist (Mv.trans (Mv.lF (R:=λ_=>False) (aw.ch s4) (λ_ z=>z.elim) λ_=>Iff.rfl) N4 T.dist mv5))
end
end Gs
namespace Gs
open PySem PySem.Spec PyProof.Rows L2
open Mx (Up)
open Vbcnai (hostOf hasOf putHost putHas wanted retells retellsAll onQuery)
section
variable{K:PySem.W.Frag}{c:Cs}{H H':Hp}{g g':Role->Addr}{s s':State}
theorem Mv.of_same (h:aw H H'):Mv g s H g s H':=Mv.lF (R:=λ_=>False) h.ch (λ_ z=>z.elim) λ_=>Iff.rfl
theorem Mv.kp (mv:Mv g s H g' s' H') (N:ax K c H g s) (D:gd c):Kp c H H':=λb o e i=>mv.keep b o e λr hr z=>by
 obtain⟨u,hu,hn⟩:=N.Iv D r hr;rw[z,e]at hu;cases hu;exact hn i
theorem ax.free (N:ax K c H g s) (D:gd c){p:Addr}(h:H p=none):∀r,Used s r->g r≠p:=λr hr z=>by
 obtain⟨u,hu,_⟩:=N.Iv D r hr;rw[z,h]at hu;cases hu
end
section
variable{P:Program}{w:World}{K:PySem.W.Frag}{mg:Str->Option Value}{base:Heap}{c:Cs}
noncomputable def Ed (K:PySem.W.Frag) (c:Cs):Sp:=λvs H Q _=>∃(g:Role->Addr) (s:State) (h gr:Nat) (U:List Nat) (n:Nat),vs=[.ref (g .n),.ref (g (.ho h)),.int gr]/\ax K c H g s/\(hostOf s h).isSome=true/\Wf U n s/\Sm U/\
 ∀H':Hp,ax K c H' g (retells s h gr)->Mv g s H g (retells s h gr) H'->Q .bQ H'
theorem yI (T:Tx K mg c):Fn P w K mg base "retell" 4 ["net","host","group"] (Ed K c):=by
 refine T.tR.ok BZ (λvs H Q E h=>?_) (λf cdv A outer s H vs Q E hr h=>?_)
 ·obtain⟨g,s,h,gr,U,n,rfl,_⟩:=h;rfl
 ·obtain⟨g,z,h,gr,U,n,rfl,N,hh,W,hU,k⟩:=h;have hu:=cX hr;refine⟨_,(ag (aF (PW.pt (pL (aE vi (aB (pv 1)) (bz T.fk) (aD _)) (lM (dB (sP hu (pv 2) (aB (pv 1)))))))
   (ag (aM (az (Ac T) hr (aa (pv 0) (aa (pv 1) (aa (pv 2) (aa (bS (aa (bz T.vC) (aa (cO hu (aB (pv 1)) (pv 2) (λ_ _=>rfl)) ae))) ae)))))))
   au)),?_⟩
  obtain⟨x,hx⟩:=Kw.mp hh;have hid:=(jl hx).2;have hA:=N.host _ _ hx;have clH:=T.a8.cl;obtain⟨fw,d1,d2⟩:=hA.Cz;unfold Vbcnai.retells at k;rw[hx]at k;dsimp only at k;refine⟨_,rfl,_,_,rfl,hA.f clH T.bo rfl,rfl,_,rfl,?_⟩;cases hp:x.port with
  |none=>
   refine aQ (λz=>nomatch z) (aQ (λz=>nomatch z) ?_);cases hy:hasOf x gr with
   |none=>rw[hy]at k;exact k H N (Mv.of_same aw.tT)
   |some y=>rw[hy,hp]at k;exact k H N (Mv.of_same aw.tT)
  |some pt=>
   have hne:(!decide (V.int (gI (some pt))=V.int (-1)))=true:=by
    rw[J9]
    ·rfl
    ·intro q;injection q with q;have e:gI (some pt)=(pt:Int):=rfl;omega
   refine bK hne ⟨_,rfl,_,rfl,_,_,rfl,hA.f clH T.bw rfl,_,_,rfl,d1.get gr,_,rfl,?_⟩;rw[dP,bL (d2 gr)];cases hy:hasOf x gr with
   |none=>rw[hy]at k;exact bX (k H N (Mv.of_same aw.tT))
   |some y=>
    rw[hy,hp]at k;dsimp only at k;rw[if_neg (show ¬(some pt=none)from λz=>nomatch z)]at k;have q:=d2 gr;rw[hy]at q;obtain⟨t,ht,hwt⟩:∃t,fw gr=some (.ref t)/\bC K H t y.want:=by
     cases hf:fw gr with
     |none=>rw[hf]at q;exact q.elim
     |some v=>
      rw[hf]at q;obtain⟨t,rfl,hw⟩:=q;exact⟨t,rfl,hw⟩
    have hd:=d1.get gr;rw[dP,ht]at hd;refine bG ⟨_,rfl,_,rfl,_,rfl,_,rfl,_,_,rfl,hA.f clH T.bw rfl,_,rfl,_,_,rfl,hd,(by show 2<=sizeLine;decide),λp n1=>?_⟩;have s1:aw H (upd H p (.tup [.int 0,.ref t])):=aw.new n1;have N1:=N.same T.dist s1;have hw:wanted x gr=y.want:=by
     unfold Vbcnai.wanted;rw[hy];rfl
    subst hid;refine⟨g,z,x,gr,p,.set y.want,U,n,rfl,N1,hx,⟨t,.inl ab,hwt.keep s1.tk⟩,W,hU,vL W hx hy,λH' N' mv=>?_⟩;exact k H' N' ((Mv.of_same s1).trans N1 T.dist mv)
noncomputable def yJ (K:PySem.W.Frag) (c:Cs):Sp:=λvs H Q _=>∃(g:Role->Addr) (s:State) (h:Nat) (U:List Nat) (n:Nat),vs=[.ref (g .n),.ref (g (.ho h))]/\ax K c H g s/\(hostOf s h).isSome=true/\Wf U n s/\Sm U/\
 ∀H':Hp,ax K c H' g (retellsAll s h)->Mv g s H g (retellsAll s h) H'->Q .bQ H'
theorem pj (T:Tx K mg c):Fn P w K mg base "retell_all" 5 ["net","host"] (yJ K c):=by
 refine T.jJ.ok mf (λvs H Q E h=>?_) (λf cdv A outer s H vs Q E hr h=>?_)
 ·obtain⟨g,s,h,U,n,rfl,_⟩:=h;rfl
 ·obtain⟨g,z,h,U,n,rfl,N,hh,W,hU,k⟩:=h;have nd:=mf.nd;refine⟨_,(ag (fQ PassesOwn.never rfl (du (aO (dc rfl) (by rfl) T.dg dv (aa (aB (pv 1)) ae))) (bH (i:=2) nd rfl (Or.inl rfl))
   (ag (aM (az (yI T) hr (aa (pv 0) (aa (pv 1) (aa (pv 2) ae)))))))),?_⟩
  obtain⟨x,hx⟩:=Kw.mp hh;have hA:=N.host _ _ hx;have ho:=W.host hx;obtain⟨fw,d1,d2⟩:=hA.Cz;obtain⟨kvs,ks,e1,e2,e3⟩:=d1.sorted ho.B6 λm=>by rw[bL (d2 m)];exact fz x m
  unfold Vbcnai.retellsAll at k;rw[hx]at k;dsimp only at k;have k:∀H':Hp,ax K c H' g ((x.has.map (·.group)).foldl (λt q=>retells t h q) z)->Mv g z H g ((x.has.map (·.group)).foldl (λt q=>retells t h q) z) H'->Q .bQ H':=k;generalize x.has.map (·.group)=B at k e3;refine⟨_,rfl,_,_,rfl,hA.f T.a8.cl T.bw rfl,_,kvs,ks,rfl,e1,e2,λns p hp hs n1=>?_⟩;have en:=e3 ns hp hs;subst en;have s1:aw H (upd H p (.lst ((zs B).map V.int))):=aw.new n1;have N1:=N.same T.dist s1;have fp:=N.free T.dist n1;generalize hH:upd H p (.lst ((zs B).map V.int))=H1 at s1 N1;have hl:H1 p=some (.lst (iv B)):=by rw[←hH];exact ab
  refine⟨p,rfl,⟨_,ba.of hl⟩,dE (K:=K) (a:=p) (xs:=iv B) (λi σ H'=>∃v:Option V,σ=[some (.ref (g .n)),some (.ref (g (.ho h))),v]/\ax K c H' g ((B.take i).foldl (λt q=>retells t h q) z)/\Mv g z H1 g ((B.take i).foldl (λt q=>retells t h q) z) H')
   ⟨none,rfl,N1,Mv.of_same aw.tT⟩ (λi σ H' _ ⟨_,_,_,mv⟩=>ba.of (mv.keep _ _ hl fp)) ?_ ?_⟩
  ·rintro i y σ H' hi ⟨v,rfl,N2,mv2⟩;obtain⟨q,hq,rfl⟩:=tV hi;refine⟨_,rfl,_,rfl,_,rfl,g,_,h,q,U,n,rfl,N2,(mv2.same (.ho h) hh).1,Wf.foldl (λs a W=>W.retells h a) _ W,hU,λH3 N3 mv3=>?_⟩;refine⟨_,rfl,?_,?_⟩
   ·rw[take_snoc hq,List.foldl_append];exact N3
   ·rw[take_snoc hq,List.foldl_append];exact mv2.trans N2 T.dist mv3
  ·rintro σ H' ⟨v,rfl,N2,mv2⟩;rw[cF,Kt]at N2 mv2;exact k H' N2 ((Mv.of_same s1).trans N1 T.dist mv2)
noncomputable def dD (p:Nat) (x:Ho):Bool:=x.port==some p
noncomputable def B9 (K:PySem.W.Frag) (c:Cs):Sp:=λvs H Q _=>∃(g:Role->Addr) (s:State) (p:Nat) (U:List Nat) (n:Nat),vs=[.ref (g .n),.int p]/\ax K c H g s/\Wf U n s/\
 ∀(H':Hp) (l:Addr),aw H H'->H l=none->H' l=some (.lst ((s.hosts.filter (dD p)).map λx=>.ref (g (.ho x.id))))->Q (.ref l) H'
theorem Bd (p:Nat) (x:Ho):decide (V.int (gI x.port)=V.int (p:Int))=dD p x:=by
 unfold dD;cases hp:x.port with
 |none=>
  rw[J9]
  ·rfl
  ·intro q;injection q with q;have e:gI none= -1:=rfl;omega
 |some q=>
  by_cases e:q=p
  ·subst e;rw[J1 (show V.int (gI (some q))=V.int (q:Int)from rfl)];simp
  ·rw[J9]
   ·simp[e]
   ·intro z;injection z with z;have e2:gI (some q)=(q:Int):=rfl;omega
theorem tZ (T:Tx K mg c):Me P w K mg base c.Net "hosts_at" 1 ["self","port"] (B9 K c):=by
 refine T.gP.ok j8 (λvs H Q E h=>?_) (λf cdv A outer s H vs Q E hr h=>?_)
 ·obtain⟨g,s,p,U,n,rfl,_⟩:=h;rfl
 ·obtain⟨g,z,p,U,n,rfl,N,W,k⟩:=h;have nd:=j8.nd;have hu:=cX hr;refine⟨_,(ag (aj (sM rfl nd (du (aO (dc rfl) (by rfl) T.dg dv (aa (aB (pv 0)) ae))) (own:=[("number",2)]) (dG rfl) (λ_ _ _ _ _=>bH (i:=2) nd rfl (Or.inl rfl)) (λ_ _ _ _ _=>f9 (aE bj (kf (K:=K) (cO hu (kf (K:=K) (pv 0)) (pv 2) (λ_ _=>rfl))) (pv 1) (aD _))) (λ_ _ _ _ _=>(cO hu (kf (K:=K) (pv 0)) (pv 2) (λ_ _=>rfl)))))),?_⟩;have ids:∀m,((hostOf z m).map λ_=>V.ref (g (.ho m))).isSome=true↔m∈z.hosts.map (·.id):=λm=>by rw[Kn];exact dt m
  obtain⟨kvs,ks,e1,e2,e3⟩:=N.hosts.sorted W.ids ids;refine⟨_,rfl,_,_,rfl,N.f T.aA.cl T.aZ rfl,_,kvs,ks,rfl,e1,e2,λns q hp hs n1=>?_⟩;have en:=e3 ns hp hs;subst en;have s1:aw H (upd H q (.lst ((zs (z.hosts.map (·.id))).map V.int))):=aw.new n1;generalize hH:upd H q (.lst ((zs (z.hosts.map (·.id))).map V.int))=H1 at s1;have hl:H1 q=some (.lst (iv (z.hosts.map (·.id)))):=by rw[←hH];exact ab
  refine⟨q,rfl,⟨_,ba.of hl⟩,λD hD=>?_⟩;refine rX (K:=K) (a:=q) (xs:=iv (z.hosts.map (·.id))) (λi H''=>aw H1 H''/\H'' D=some (.lst (((z.hosts.take i).filter (dD p)).map λx=>.ref (g (.ho x.id)))))
   ⟨aw.new hD,ab⟩ (λi H'' _ h=>ba.of (h.1 _ _ hl)) ?_ ?_
  ·rintro i y H'' hi ⟨s5,h5⟩;obtain⟨m,hm,rfl⟩:=tV hi;obtain⟨x,hxi,hxm⟩:∃x,z.hosts[i]? =some x/\x.id=m:=by
    rw[J5]at hm;cases e:z.hosts[i]? with
    |none=>rw[e]at hm;cases hm
    |some x=>rw[e]at hm;exact⟨x,rfl,JU hm⟩
   subst hxm;have hx:=W.find (Kd hxi);have N5:=N.same T.dist (s1.trans s5);have hA:=N5.host _ _ hx;have hF:=N5.f T.aA.cl T.aZ rfl;have hd:=N5.hosts.get x.id;rw[dP,hx]at hd;refine⟨rfl,_,rfl,_,_,rfl,hF,_,rfl,_,_,rfl,hd,_,_,rfl,hA.f T.a8.cl T.bo rfl,_,rfl,rfl,_,rfl,?_⟩;rw[Bd,take_snoc hxi,List.filter_append];cases hq:dD p x with
   |false=>
    refine bX ⟨s5,?_⟩;rw[List.filter_cons_of_neg (by rw[hq];exact λz=>nomatch z),List.filter_nil,Ks];exact h5
   |true=>
    refine bG ⟨_,rfl,_,_,rfl,hF,_,rfl,_,_,rfl,hd,_,h5,?_,s5.loc hD,?_⟩
    ·rw[JQ];have q1:=Kh (dD p) (z.hosts.take i);have q2:(z.hosts.take i).length<=z.hosts.length:=by rw[Kz];exact Nat.min_le_right _ _
     have q3:=W.hl;show _<2^24;omega
    ·rw[ab,List.filter_cons_of_pos hq,List.filter_nil,Ki];rfl
  ·rintro H'' ⟨s5,h5⟩;rw[cF,JQ,Kt]at h5;exact k H'' D (s1.trans s5) (s1.nn hD) h5
noncomputable def yK (K:PySem.W.Frag) (c:Cs):Sp:=λvs H Q _=>∃(g:Role->Addr) (s:State) (a:Addr) (p:Nat) (q:Option Nat) (U:List Nat) (n:Nat),vs=[.ref (g .n),.ref a]/\ax K c H g s/\dq K c H a (.query p q)/\Wf U n s/\Sm U/\
 ∀H':Hp,ax K c H' g (onQuery s p q)->Mv g s H g (onQuery s p q) H'->Q .bQ H'
noncomputable def askOne (q:Option Nat) (t:State) (h:Nat):State:=match q with
 |some g=>retells t h g
 |none=>retellsAll t h
theorem t4 (s:State) (p:Nat) (q:Option Nat):onQuery s p q=((s.hosts.filter (dD p)).map (·.id)).foldl (askOne q) s:=by
 cases q<;>rfl
theorem w9 (T:Tx K mg c):Fn P w K mg base "hand_query" 6 ["net","query"] (yK K c):=by
 refine T.jK.ok ml (λvs H Q E h=>?_) (λf cdv A outer s H vs Q E hr h=>?_)
 ·obtain⟨g,s,a,p,q,U,n,rfl,_⟩:=h;rfl
 ·obtain⟨g,z,a,p,q,U,n,rfl,N,hm,W,hU,k⟩:=h;have nd:=ml.nd;refine⟨_,(ag (fQ PassesOwn.never rfl (du (bT (pv 0) (tZ T) hr (aa (aB (pv 1)) ae))) (bH (i:=2) nd rfl (Or.inl rfl))
   (ag (aF (aE bj (aB (pv 1)) (bz T.eO) (aD _))
   (ag (aM (az (pj T) hr (aa (pv 0) (aa (pv 2) ae)))))
   (ag (aM (az (yI T) hr (aa (pv 0) (aa (pv 2) (aa (aB (pv 1)) ae)))))))))),?_⟩
  obtain⟨dn,en⟩:=N.nM;have fdq:∀{H':Hp}{f:Str}{v:V},dq K c H' a (.query p q)->ay K c.Query f->(uP p (gI q)).lookup f=some v->Fd K H' a f v:=λhm na l=>by
   obtain⟨dx,e⟩:=hm;exact⟨_,dx,_,e,T.cD.cl,na,l⟩
  refine⟨_,rfl,g .n,dn,_,rfl,en,rfl,_,rfl,_,_,rfl,fdq hm T.eP rfl,g,z,p,U,n,rfl,N,W,λH1 l s1 n1 hl=>?_⟩;have N1:=N.same T.dist s1;have fp:=N.free T.dist n1;rw[t4]at k;have k:∀H':Hp,ax K c H' g (((z.hosts.filter (dD p)).map (·.id)).foldl (askOne q) z)->Mv g z H g (((z.hosts.filter (dD p)).map (·.id)).foldl (askOne q) z) H'->Q .bQ H':=k;have el:((z.hosts.filter (dD p)).map λx=>V.ref (g (.ho x.id)))=((z.hosts.filter (dD p)).map (·.id)).map λi=>V.ref (g (.ho i)):=by
   rw[List.map_map];rfl
  rw[el]at hl;have hin:∀i∈(z.hosts.filter (dD p)).map (·.id),(hostOf z i).isSome=true:=λi hi=>by
   obtain⟨x,hx,e⟩:=Kr.mp hi;rw[←e,W.find (List.mem_filter.mp hx).1];rfl
  generalize (z.hosts.filter (dD p)).map (·.id)=B at k hl hin;have hm1:=hm.keep (s1.kp (c:=c));have Wq:∀s a,Wf U n s->Wf U n (askOne q s a):=λs a W=>by
   cases q with
   |none=>exact W.retellsAll a
   |some g=>exact W.retells a g
  refine⟨l,rfl,⟨_,ba.of hl⟩,dE (K:=K) (a:=l) (xs:=B.map λi=>V.ref (g (.ho i))) (λi σ H'=>∃v:Option V,σ=[some (.ref (g .n)),some (.ref a),v]/\ax K c H' g ((B.take i).foldl (askOne q) z)/\Mv g z H1 g ((B.take i).foldl (askOne q) z) H')
   ⟨none,rfl,N1,Mv.of_same aw.tT⟩ (λi σ H' _ ⟨_,_,_,mv⟩=>ba.of (mv.keep _ _ hl fp)) ?_ ?_⟩
  ·rintro i y σ H' hi ⟨v,rfl,N2,mv2⟩;obtain⟨h,hh,rfl⟩:∃h,B[i]? =some h/\y=V.ref (g (.ho h)):=by
    rw[J5]at hi;cases e:B[i]? with
    |none=>rw[e]at hi;cases hi
    |some x=>rw[e]at hi;exact⟨x,rfl,(JU hi).symm⟩
   have hm2:=hm1.keep (mv2.kp N1 T.dist);have us:=(mv2.same (.ho h) (hin h (Kd hh))).1;have W2:Wf U n ((B.take i).foldl (askOne q) z):=Wf.foldl Wq _ W;have fin:∀H3,ax K c H3 g (askOne q ((B.take i).foldl (askOne q) z) h)->Mv g ((B.take i).foldl (askOne q) z) H' g (askOne q ((B.take i).foldl (askOne q) z) h) H3->
     (∃v:Option V,[some (.ref (g .n)),some (.ref a),some (.ref (g (.ho h)))]=[some (.ref (g .n)),some (.ref a),v]/\ax K c H3 g ((B.take (i+1)).foldl (askOne q) z)/\Mv g z H1 g ((B.take (i+1)).foldl (askOne q) z) H3):=λH3 N3 mv3=>by
    refine⟨_,rfl,?_,?_⟩
    ·rw[take_snoc hh,List.foldl_append];exact N3
    ·rw[take_snoc hh,List.foldl_append];exact mv2.trans N2 T.dist mv3
   refine⟨_,rfl,_,_,rfl,fdq hm2 T.c5 rfl,rfl,_,rfl,?_⟩;cases q with
   |none=>exact bK rfl ⟨_,rfl,_,rfl,g,_,h,U,n,rfl,N2,us,W2,hU,λH3 N3 mv3=>fin H3 N3 mv3⟩
   |some gq=>
    have hne:¬(decide (V.int (gI (some gq))=V.int (-1))=true):=λq=>by
     have:=J0 q;injection this with this;have e:gI (some gq)=(gq:Int):=rfl;omega
    exact aQ hne ⟨_,rfl,_,rfl,_,rfl,_,_,rfl,fdq hm2 T.c5 rfl,g,_,h,gq,U,n,rfl,N2,us,W2,hU,λH3 N3 mv3=>fin H3 N3 mv3⟩
  ·rintro σ H' ⟨v,rfl,N2,mv2⟩;rw[JQ,Kt]at N2 mv2;exact k H' N2 ((Mv.of_same s1).trans N1 T.dist mv2)
end
end Gs
namespace Gs
open PySem PySem.Spec PyProof.Rows L2
open Mx (Up)
open Vbcnai (hostOf hasOf entryOf putEntry onReport does room)
section
variable{K:PySem.W.Frag}{mg:Str->Option Value}{c:Cs}{H H':Hp}{g g':Role->Addr}{s s':State}
theorem ax.Hl {l:List Ent}(N:ax K c H g s) (D:gd c) (h:Ch g (λr=>r=.en) H H') (b:∃f,DT H' (g .en) f/\∀p:Nat×Nat,kg (bW K c H') (f p) (entryOf {s with entries:=l} p.1 p.2)):ax K c H' g {s with entries:=l}:=by
 have hR:∀r,(λ(r:Role)=>r=.en) r->Used s r:=λr e=>by rw[e];exact trivial
 exact⟨let ⟨dx,e⟩:=N.nM;⟨dx,N.at_ h hR (r:=.n) trivial (λz=>nomatch z) e⟩,let ⟨dx,e⟩:=N.pJ;⟨dx,N.at_ h hR (r:=.sw) trivial (λz=>nomatch z) e⟩,N.vI D h hR (λz=>nomatch z),
  N.hosts.keep λo e=>N.at_ h hR (r:=.hd) trivial (λz=>nomatch z) e,λn x hx=>N.nN D h hR hx (λz=>nomatch z) (λz=>nomatch z) (λz=>nomatch z),b,
  N.rk.keep λo e=>N.at_ h hR (r:=.pl) trivial (λz=>nomatch z) e,N.fix.keep λo e=>N.at_ h hR (r:=.fx) trivial (λz=>nomatch z) e,N.tX.keep λo e=>N.at_ h hR (r:=.he) trivial (λz=>nomatch z) e,N.inj⟩
theorem dq.f {a:Addr}{h p gr k t:Nat}{e:mL}(T:Tx K mg c) (m:dq K c H a (.report h p gr k t e)){f:Str}{v:V}(na:ay K c.bc f) (l:∀u,(Hd h p gr k t u).lookup f=some v):Fd K H a f v:=by
 obtain⟨dx,u,e,_⟩:=m;exact⟨_,dx,_,e,T.bE.cl,na,l u⟩
theorem dq.st {a:Addr}{h p gr k t:Nat}{e:mL}(T:Tx K mg c) (m:dq K c H a (.report h p gr k t e)):∃u,Fd K H a "step" (.ref u)/\f7 K H u e:=by
 obtain⟨dx,u,e,h⟩:=m;exact⟨u,⟨_,dx,_,e,T.bE.cl,T.fD,rfl⟩,h⟩
theorem bW.f {a:Addr}{x:Ent}(T:Tx K mg c) (m:bW K c H a x){f:Str}{v:V}(na:ay K c.Entry f) (l:∀u,(z8 x.port x.serial u x.until_).lookup f=some v):Fd K H a f v:=by
 obtain⟨dx,u,e,_⟩:=m;exact⟨_,dx,_,e,T.cQ.cl,na,l u⟩
theorem bW.wt {a:Addr}{x:Ent}(T:Tx K mg c) (m:bW K c H a x):∃u,Fd K H a "want" (.ref u)/\bC K H u x.want:=by
 obtain⟨dx,u,e,h⟩:=m;exact⟨u,⟨_,dx,_,e,T.cQ.cl,T.eQ,rfl⟩,h⟩
end
section
variable{P:Program}{w:World}{K:PySem.W.Frag}{mg:Str->Option Value}{base:Heap}{c:Cs}
theorem Wf.FI {U:List Nat}{n:Nat}{s:State}(W:Wf U n s) (hn:n<=400):(s.entries.map Mx.fc).length<sizeLine:=by
 rw[JQ];have:=W.en;show _<2^24;omega
noncomputable def Hm (K:PySem.W.Frag) (c:Cs):Sp:=λvs H Q _=>∃(g:Role->Addr) (s:State) (U:List Nat) (n:Nat),vs=[.ref (g .sw)]/\ax K c H g s/\Wf U n s/\Q (.bl (room s)) H
theorem ir (T:Tx K mg c):Me P w K mg base c.Switch "has_room" 1 ["self"] (Hm K c):=by
 refine T.eR.ok ng (λvs H Q E h=>?_) (λf cdv A outer s H vs Q E hr h=>?_)
 ·obtain⟨g,s,U,n,rfl,_⟩:=h;rfl
 ·obtain⟨g,z,U,n,rfl,N,W,k⟩:=h;refine⟨_,(ag (aj (cn qG (cu fj (aO lS (by rfl) T.dJ cT (aa (aB (pv 0)) ae)) (aO lS (by rfl) T.dJ cT (aa (aB (pv 0)) ae))) (aB (pv 0)) (aD _)))),?_⟩;obtain⟨fe,d1,d2⟩:=N.ent;obtain⟨k1,e1,l1⟩:=d1.len W.B5 λp=>by rw[bL (d2 p)];exact fN p
  obtain⟨k2,e2,l2⟩:=N.rk.len W.pn λp=>by rw[Kn];exact fO p
  have cl:=T.aL.cl;refine⟨_,rfl,_,_,rfl,N.sf cl T.aJ rfl,_,k1,rfl,e1,_,rfl,_,_,rfl,N.sf cl T.aV rfl,_,k2,rfl,e2,_,_,rfl,rfl,_,rfl,_,_,rfl,N.sf cl T.cq rfl,_,_,rfl,rfl,?_⟩;rw[l1,l2,JQ,JQ];unfold Vbcnai.room at k;have e:decide ((z.entries.length:Int)+(z.plains.length:Int)<(z.cfg.entries:Int))=decide (z.entries.length+z.plains.length<z.cfg.entries):=by
   rw[decide_eq_decide];omega
  show Q (.bl (decide ((z.entries.length:Int)+(z.plains.length:Int)<(z.cfg.entries:Int)))) H;rw[e];exact k
noncomputable def Ca (K:PySem.W.Frag) (c:Cs):Sp:=λvs H Q _=>∃(a b:Addr) (h p gr k t:Nat) (e:mL) (x:Ent),vs=[.ref a,.ref b]/\dq K c H a (.report h p gr k t e)/\bW K c H b x/\Q (.bl (decide (k=x.serial+1/\x.port=p))) H
theorem Cb (T:Tx K mg c):Fn P w K mg base "follows" 1 ["report","entry"] (Ca K c):=by
 refine T.qi.ok zT (λvs H Q E h=>?_) (λf cdv A outer s H vs Q E hr h=>?_)
 ·obtain⟨a,b,h,p,gr,k,t,e,x,rfl,_⟩:=h;rfl
 ·obtain⟨a,b,h,p,gr,k,t,e,x,rfl,hm,hx,kk⟩:=h;refine⟨_,(ag (aj (mV (cn bj (aB (pv 0)) (cu fj (aB (pv 1)) ah) (aD _)) (mU (cn bj (aB (pv 0)) (aB (pv 1)) (aD _)))))),?_⟩;refine⟨_,rfl,_,_,rfl,hm.f T T.bY (λ_=>rfl),_,rfl,_,_,rfl,hx.f T T.cI (λ_=>rfl),_,_,rfl,rfl,rfl,_,rfl,b7 (λq=>⟨_,rfl,_,_,rfl,hm.f T T.cE (λ_=>rfl),_,rfl,_,_,rfl,hx.f T T.cP (λ_=>rfl),rfl,?_⟩) (λq=>?_)⟩
  ·have q1:=J0 q;injection q1 with q1;have q2:k=x.serial+1:=by omega
   have e:decide (V.int (p:Int)=V.int (x.port:Int))=decide (k=x.serial+1/\x.port=p):=by
    rw[decide_eq_decide];constructor
    ·intro z;injection z with z;exact⟨q2,by omega⟩
    ·intro z;rw[z.2]
   show Q (.bl (decide (V.int (p:Int)=V.int (x.port:Int)))) H;rw[e];exact kk
  ·have e:decide (k=x.serial+1/\x.port=p)=false:=by
    rw[J9];intro z;refine q (J1 ?_);show V.int (k:Int)=V.int ((x.serial:Int)+1);rw[z.1];rfl
   rw[e]at kk;exact kk
noncomputable def t6 (K:PySem.W.Frag) (c:Cs):Sp:=λvs H Q _=>∃(g:Role->Addr) (s:State) (a t:Addr) (h p gr k st:Nat) (e:mL) (x:Want) (U:List Nat) (n:Nat),vs=[.ref (g .n),.ref a,.ref t]/\ax K c H g s/\dq K c H a (.report h p gr k st e)/\bC K H t x/\Wf U n s/\n<=400/\
 ∀H':Hp,ax K c H' g {s with entries:=putEntry ⟨p,gr,h,k,x,st+s.cfg.stay⟩ s.entries}->Mv g s H g {s with entries:=putEntry ⟨p,gr,h,k,x,st+s.cfg.stay⟩ s.entries} H'->Q .bQ H'
theorem rl (T:Tx K mg c):Fn P w K mg base "put_entry" 3 ["net","report","want"] (t6 K c):=by
 refine T.lq.ok oF (λvs H Q E h=>?_) (λf cdv A outer s H vs Q E hr h=>?_)
 ·obtain⟨g,s,a,t,h,p,gr,k,st,e,x,U,n,rfl,_⟩:=h;rfl
 ·obtain⟨g,z,a,t,h,p,gr,k,st,e,x,U,n,rfl,N,hm,hw,W,hn,kk⟩:=h;have nd:=oF.nd;have hu:=cX hr;refine⟨_,(af (aT (i:=3) nd rfl (Or.inl rfl) (aB (pv 0)))
   (af (aT (i:=4) nd rfl (Or.inl rfl) (cu fj (aB (pv 1)) (aB (pv 0))))
   (ag (fA hu (aB (pv 3)) (bS (aa (aB (pv 1)) (aa (aB (pv 1)) ae))) (l7 (FJ T.toTxt) hr (aa (aB (pv 1)) (aa (aB (pv 1)) (aa (pv 2) (aa (pv 4) ae))))) rfl)))),?_⟩
  have clN:=T.aA.cl;refine⟨_,rfl,_,_,rfl,N.f clN T.aN rfl,_,rfl,_,_,rfl,hm.f T T.c4 (λ_=>rfl),_,rfl,_,_,rfl,N.f clN T.dj rfl,_,_,rfl,rfl,_,rfl,_,_,rfl,hm.f T T.cE (λ_=>rfl),_,rfl,_,_,rfl,hm.f T T.bY (λ_=>rfl),_,rfl,_,rfl,?_⟩;intro y dy ny ndy ne;refine⟨y,dy,_,_,_,_,rfl,ab,rfl,?_⟩;have s1:=made (C:=c.Entry) (o:=.ins c.Entry dy (z8 p k t (st+z.cfg.stay))) ny ndy;have hy:(upd (upd (upd H dy (.own y)) y (.ins c.Entry dy [])) y (.ins c.Entry dy (z8 p k t (st+z.cfg.stay)))) y=some (.ins c.Entry dy (z8 p k t (st+z.cfg.stay))):=ab;have hw1:=hw.keep s1.tk;have N1:=N.same T.dist s1;have hm1:=hm.keep (s1.kp (c:=c));show tF _ _ _ _ (upd (upd (upd H dy (.own y)) y (.ins c.Entry dy [])) y (.ins c.Entry dy (z8 p k t (st+z.cfg.stay)))) _;generalize (upd (upd (upd H dy (.own y)) y (.ins c.Entry dy [])) y (.ins c.Entry dy (z8 p k t (st+z.cfg.stay))))=H1 at s1 hy hw1 N1 hm1;refine⟨_,rfl,_,_,rfl,N1.sf T.aL.cl T.aJ rfl,_,rfl,_,_,rfl,hm1.f T T.cc (λ_=>rfl),_,rfl,_,_,rfl,hm1.f T T.c0 (λ_=>rfl),(by show 2<=sizeLine;decide),λq nq=>?_⟩;have s2:aw H1 (upd H1 q (.tup [.int gr,.int h])):=aw.new nq;have N2:=N1.same T.dist s2;have hq:(upd H1 q (.tup [.int gr,.int h])) q=some (.tup [.int gr,.int h]):=ab;have hy2:=s2 _ _ hy;have hw2:=hw1.keep s2.tk;generalize (upd H1 q (.tup [.int gr,.int h]))=H2 at s2 N2 hq hy2 hw2;obtain⟨fe,d1,d2⟩:=N2.ent;obtain⟨o,hput,hnt,hdn⟩:=d1.put W.B5 (λp=>by rw[bL (d2 p)];exact fN p) (W.FI hn) (x:=gr) (y:=h) hq (.ref y);refine⟨_,_,rfl,hput,?_⟩;have hc:Ch g (λr=>r=.en) H2 (upd H2 (g .en) o):=Ch.upd rfl;have hR:∀r,(λ(r:Role)=>r=.en) r->Used z r:=λr e=>by rw[e];exact trivial
  have kp:=N2.kp T.dist hc hR;refine kk _ (N2.Hl T.dist hc ⟨_,hdn _ ab,λr=>?_⟩) (((Mv.of_same s1).trans N1 T.dist (Mv.of_same s2)).trans N2 T.dist (Mv.lF hc hR λr=>cY rfl r));have ep:=yF (s:=z) (x:=⟨p,gr,h,k,x,st+z.cfg.stay⟩) W.es r;rw[ep]
  by_cases er:r=(gr,h)
  ·rw[if_pos er,if_pos er];exact⟨y,rfl,dy,t,kp _ _ hy2 (.inr (.inr rfl)),hw2.keep kp.tk⟩
  ·rw[if_neg er,if_neg er];exact(d2 r).imp λa y w=>w.keep kp
noncomputable def vM (K:PySem.W.Frag) (c:Cs):Sp:=λvs H Q _=>∃(g:Role->Addr) (s:State) (a:Addr) (h p gr k st:Nat) (e:mL) (U:List Nat) (n:Nat),vs=[.ref (g .n),.ref a]/\ax K c H g s/\dq K c H a (.report h p gr k st e)/\Wf U n s/\
 ∀H':Hp,ax K c H' g (Vbcnai.send s (.query p (some gr)))->Mv g s H g (Vbcnai.send s (.query p (some gr))) H'->Q .bQ H'
theorem t7 (T:Tx K mg c):Fn P w K mg base "ask_back" 3 ["net","report"] (vM K c):=by
 refine T.nD.ok yy (λvs H Q E h=>?_) (λf cdv A outer s H vs Q E hr h=>?_)
 ·obtain⟨g,s,a,h,p,gr,k,st,e,U,n,rfl,_⟩:=h;rfl
 ·obtain⟨g,z,a,h,p,gr,k,st,e,U,n,rfl,N,hm,W,kk⟩:=h;refine⟨_,(ag (aM (bT (pv 0) (gX T) hr (aa (l7 (r9 T.toTxt) hr (aa (aB (pv 1)) (aa (aB (pv 1)) ae))) ae)))),?_⟩;obtain⟨dn,en⟩:=N.nM;refine⟨_,rfl,g .n,dn,_,rfl,en,rfl,_,rfl,_,_,rfl,hm.f T T.cE (λ_=>rfl),_,rfl,_,_,rfl,hm.f T T.cc (λ_=>rfl),?_⟩;intro y dy ny ndy ne;refine⟨y,dy,_,_,rfl,ab,rfl,?_⟩;have s1:=made (C:=c.Query) (o:=.ins c.Query dy (uP p (gI (some gr)))) ny ndy;have N1:=N.same T.dist s1;exact⟨g,z,y,.query p (some gr),U,n,rfl,N1,⟨dy,ab⟩,W,λH' N' mv=>kk H' N' ((Mv.of_same s1).trans N1 T.dist mv)⟩
noncomputable def nQ (s:State) (h p g k sent:Nat) (e:mL):State:=match e with
 |.set x=>if room s=true then{s with entries:=putEntry ⟨p,g,h,k,x,sent+s.cfg.stay⟩ s.entries}else{s with full:=s.full+1}
 |_=>Vbcnai.send s (.query p (some g))
noncomputable def t8 (s:State) (x:Ent) (h p g k sent:Nat) (e:mL):State:=match e with
 |.set y=>{s with entries:=putEntry ⟨p,g,h,k,y,sent+s.cfg.stay⟩ s.entries}
 |e=>if k=x.serial+1/\x.port=p then{s with entries:=putEntry ⟨p,g,h,k,does x.want e,sent+s.cfg.stay⟩ s.entries}else Vbcnai.send s (.query p (some g))
theorem rm (s:State) (h p g k sent:Nat) (e:mL):onReport s h p g k sent e=if sent+s.cfg.stay<=s.now then s else match entryOf s g h with
  |some x=>if k<=x.serial then s else t8 s x h p g k sent e
  |none=>nQ s h p g k sent e:=by
 unfold Vbcnai.onReport nQ t8;rfl
noncomputable def Ee (K:PySem.W.Frag) (c:Cs):Sp:=λvs H Q _=>∃(g:Role->Addr) (s:State) (a:Addr) (h p gr k st:Nat) (e:mL) (U:List Nat) (n:Nat),vs=[.ref (g .n),.ref a]/\ax K c H g s/\dq K c H a (.report h p gr k st e)/\Cy U e/\Sm U/\Wf U n s/\n<=400/\
 ∀H':Hp,ax K c H' g (nQ s h p gr k st e)->Mv g s H g (nQ s h p gr k st e) H'->Q .bQ H'
theorem uQ (T:Tx K mg c):Fn P w K mg base "begin_entry" 4 ["net","report"] (Ee K c):=by
 refine T.iJ.ok tq (λvs H Q E h=>?_) (λf cdv A outer s H vs Q E hr h=>?_)
 ·obtain⟨g,s,a,h,p,gr,k,st,e,U,n,rfl,_⟩:=h;rfl
 ·obtain⟨g,z,a,h,p,gr,k,st,e,U,n,rfl,N,hm,ie,hU,W,hn,kk⟩:=h;refine⟨_,(ag (aF (aX (aR (az (o6 T.toTxt) hr (aa (aB (pv 1)) ae))))
   (ag (aM (az (t7 T) hr (aa (pv 0) (aa (pv 1) ae)))))
   (ag (aF (aR (jx (aB (pv 0)) (ir T) hr))
   (ag (aM (az (rl T) hr (aa (pv 0) (aa (pv 1) (aa (az (ik T.toTxt) hr (aa (aB (pv 1)) (aa (sS T.jh) ae))) ae))))))
   (ag (lN (pv 0) ah wk)))))),?_⟩
  obtain⟨u,hst,hse⟩:=hm.st T;have clN:=T.aA.cl;refine⟨_,rfl,_,_,rfl,hst,u,e,rfl,hse,_,rfl,?_⟩;unfold nQ at kk;have other:(∀H':Hp,ax K c H' g (Vbcnai.send z (.query p (some gr)))->Mv g z H g (Vbcnai.send z (.query p (some gr))) H'->Q .bQ H')->vM K c [.ref (g .n),.ref a] H (λx H1=>Q .bQ H1) E0:=λkk=>⟨g,z,a,h,p,gr,k,st,e,U,n,rfl,N,hm,W,kk⟩;cases e with
  |allow l=>exact bG ⟨_,rfl,_,rfl,other kk⟩
  |block l=>exact bG ⟨_,rfl,_,rfl,other kk⟩
  |set x=>
   obtain⟨dw,ew⟩:=N.pJ;refine bX ⟨_,rfl,_,_,rfl,N.f clN T.aN rfl,g .sw,dw,_,rfl,ew,rfl,g,z,U,n,rfl,N,W,_,rfl,?_⟩;dsimp only at kk;cases hro:room z with
   |true=>
    rw[hro,if_pos rfl]at kk;refine bG ⟨_,rfl,_,rfl,_,rfl,_,_,rfl,hst,u,c.wR,.set x,Vbcnai.none_,U,rfl,hse,T.nothing H,ie,In.nil,hU,λH1 t s1 hw=>?_⟩;have N1:=N.same T.dist s1;exact⟨g,z,a,t,h,p,gr,k,st,.set x,x,U,n,rfl,N1,hm.keep (s1.kp (c:=c)),hw,W,hn,λH' N' mv=>kk H' N' ((Mv.of_same s1).trans N1 T.dist mv)⟩
   |false=>
    rw[hro,if_neg (λz=>nomatch z)]at kk;obtain⟨dn,en⟩:=N.nM;refine bX ⟨_,rfl,g .n,_,dn,_,_,rfl,en,clN,T.fm,rfl,_,_,rfl,rfl,dn,_,en,(by show 12<1000;decide),?_⟩;have hN:ax K c (upd H (g .n) (.ins c.Net dn (qt g {z with full:=z.full+1}))) g {z with full:=z.full+1}:=N.w8 T.dist rfl rfl rfl rfl rfl rfl rfl;exact kk _ hN (Mv.lF (R:=λr=>r=.n) (Ch.upd rfl) (λr e=>by rw[e];exact trivial) λr=>cY rfl r)
noncomputable def Ef (K:PySem.W.Frag) (c:Cs):Sp:=λvs H Q _=>∃(g:Role->Addr) (s:State) (b a:Addr) (x:Ent) (h p gr k st:Nat) (e:mL) (U:List Nat) (n:Nat),vs=[.ref (g .n),.ref b,.ref a]/\ax K c H g s/\bW K c H b x/\ji U x.want/\dq K c H a (.report h p gr k st e)/\Cy U e/\Sm U/\Wf U n s/\n<=400/\
 ∀H':Hp,ax K c H' g (t8 s x h p gr k st e)->Mv g s H g (t8 s x h p gr k st e) H'->Q .bQ H'
theorem uR (T:Tx K mg c):Fn P w K mg base "renew_entry" 4 ["net","entry","report"] (Ef K c):=by
 refine T.iK.ok tu (λvs H Q E h=>?_) (λf cdv A outer s H vs Q E hr h=>?_)
 ·obtain⟨g,s,b,a,x,h,p,gr,k,st,e,U,n,rfl,_⟩:=h;rfl
 ·obtain⟨g,z,b,a,x,h,p,gr,k,st,e,U,n,rfl,N,hx,ix,hm,ie,hU,W,hn,kk⟩:=h;refine⟨_,(ag (aF (PW.pt (qF (aR (az (o6 T.toTxt) hr (aa (aB (pv 2)) ae))) (mT (aR (az (Cb T) hr (aa (pv 2) (aa (pv 1) ae)))))))
   (ag (aM (az (rl T) hr (aa (pv 0) (aa (pv 2) (aa (az (ik T.toTxt) hr (aa (aB (pv 2)) (aa (aB (pv 1)) ae))) ae))))))
   (ag (aM (az (t7 T) hr (aa (pv 0) (aa (pv 2) ae))))))),?_⟩
  obtain⟨u,hst,hse⟩:=hm.st T;obtain⟨v,hwt,hwv⟩:=hx.wt T;have put:(∀H':Hp,ax K c H' g {z with entries:=putEntry ⟨p,gr,h,k,does x.want e,st+z.cfg.stay⟩ z.entries}->Mv g z H g {z with entries:=putEntry ⟨p,gr,h,k,does x.want e,st+z.cfg.stay⟩ z.entries} H'->Q .bQ H')->
    DS K [.ref u,.ref v] H (λy H1=>t6 K c [.ref (g .n),.ref a,y] H1 (λ_ H2=>Q .bQ H2) E0) E0:=λkk=>by
   refine⟨u,v,e,x.want,U,rfl,hse,hwv,ie,ix,hU,λH1 t s1 hw=>?_⟩;have N1:=N.same T.dist s1;exact⟨g,z,a,t,h,p,gr,k,st,e,does x.want e,U,n,rfl,N1,hm.keep (s1.kp (c:=c)),hw,W,hn,λH' N' mv=>kk H' N' ((Mv.of_same s1).trans N1 T.dist mv)⟩
  have step:∀e,isSet e=false->f7 K H u e->True:=λ_ _ _=>trivial;refine⟨_,rfl,_,_,rfl,hst,u,e,rfl,hse,_,rfl,b7 (λq=>?_) (λq=>?_)⟩
  ·cases e with
   |allow l=>exact nomatch q
   |block l=>exact nomatch q
   |set y=>exact bG ⟨_,rfl,_,rfl,_,rfl,_,_,rfl,hst,_,rfl,_,_,rfl,hwt,put kk⟩
  ·have kk2:∀H':Hp,ax K c H' g (if k=x.serial+1/\x.port=p then{z with entries:=putEntry ⟨p,gr,h,k,does x.want e,st+z.cfg.stay⟩ z.entries}else Vbcnai.send z (.query p (some gr)))->Mv g z H g (if k=x.serial+1/\x.port=p then{z with entries:=putEntry ⟨p,gr,h,k,does x.want e,st+z.cfg.stay⟩ z.entries}else Vbcnai.send z (.query p (some gr))) H'->Q .bQ H':=by
    cases e with
    |set y=>exact absurd rfl q
    |allow l=>exact kk
    |block l=>exact kk
   refine⟨_,rfl,_,rfl,a,b,h,p,gr,k,st,e,x,rfl,hm,hx,_,rfl,b7 (λq2=>?_) (λq2=>?_)⟩
   ·have q3:=J0 q2;rw[if_pos q3]at kk2;exact⟨_,rfl,_,rfl,_,rfl,_,_,rfl,hst,_,rfl,_,_,rfl,hwt,put kk2⟩
   ·have q3:¬(k=x.serial+1/\x.port=p):=λz=>q2 (J1 z);rw[if_neg q3]at kk2;exact⟨_,rfl,_,rfl,g,z,a,h,p,gr,k,st,e,U,n,rfl,N,hm,W,kk2⟩
noncomputable def xa (K:PySem.W.Frag) (c:Cs):Sp:=λvs H Q _=>∃(g:Role->Addr) (s:State) (a:Addr) (h p gr k st:Nat) (e:mL) (U:List Nat) (n:Nat),vs=[.ref (g .n),.ref a]/\ax K c H g s/\dq K c H a (.report h p gr k st e)/\Cy U e/\Sm U/\Wf U n s/\n<=400/\
 ∀H':Hp,ax K c H' g (onReport s h p gr k st e)->Mv g s H g (onReport s h p gr k st e) H'->Q .bQ H'
theorem uS (T:Tx K mg c):Fn P w K mg base "hand_report" 5 ["net","report"] (xa K c):=by
 refine T.iI.ok kQ (λvs H Q E h=>?_) (λf cdv A outer s H vs Q E hr h=>?_)
 ·obtain⟨g,s,a,h,p,gr,k,st,e,U,n,rfl,_⟩:=h;rfl
 ·obtain⟨g,z,a,h,p,gr,k,st,e,U,n,rfl,N,hm,ie,hU,W,hn,kk⟩:=h;have nd:=kQ.nd;have hu:=cX hr;refine⟨_,(af (aF (aE cB (cu fj (aB (pv 1)) (aB (pv 0))) (aB (pv 0)) (aD _))
   (ag AL)
   au)
   (af (aT (i:=2) nd rfl (Or.inl rfl) (kH hu (aB (aB (pv 0))) (bS (aa (aB (pv 1)) (aa (aB (pv 1)) ae))) ⟨rfl,rfl,rfl,rfl⟩))
   (ag (aF (dB (kq (pv 2)))
   (ag (aM (az (uQ T) hr (aa (pv 0) (aa (pv 1) ae)))))
   (ag (aF (aE xV (aB (pv 1)) (aB (pv 2)) (aD _))
   (ag (aM (az (uR T) hr (aa (pv 0) (aa (pv 2) (aa (pv 1) ae))))))
   au)))))),?_⟩
  have clN:=T.aA.cl;rw[rm]at kk;refine⟨_,rfl,_,_,rfl,hm.f T T.c4 (λ_=>rfl),_,rfl,_,_,rfl,N.f clN T.dj rfl,_,_,rfl,rfl,_,rfl,_,_,rfl,N.f clN T.bA rfl,_,_,rfl,rfl,_,rfl,b7 (λq=>?_) (λq=>?_)⟩
  ·have q1:=J0 q;rw[if_pos (by omega)]at kk;exact kk H N (Mv.of_same aw.tT)
  ·have q1:¬((st:Int)+(z.cfg.stay:Int)<=(z.now:Int)):=λz=>q (J1 z);rw[if_neg (by omega)]at kk;refine⟨_,rfl,_,_,rfl,N.f clN T.aN rfl,_,_,rfl,N.sf T.aL.cl T.aJ rfl,?_⟩;obtain⟨fe,d1,d2⟩:=N.ent;refine⟨_,rfl,d1.Gf,_,rfl,_,_,rfl,hm.f T T.cc (λ_=>rfl),_,rfl,_,_,rfl,hm.f T T.c0 (λ_=>rfl),(by show 2<=sizeLine;decide),λt nt=>?_⟩;have s1:aw H (upd H t (.tup [.int gr,.int h])):=aw.new nt;have N1:=N.same T.dist s1;have hm1:=hm.keep (s1.kp (c:=c));have d11:=d1.keep (H':=upd H t (.tup [.int gr,.int h])) λo e=>s1 _ _ e;refine⟨_,d11.get ab,?_⟩;have ev:uO fe (gr:Int) (h:Int)=fe (gr,h):=by
    unfold uO;rw[if_pos ⟨by omega,by omega⟩,Ko,Ko]
   rw[ev];have qd:=d2 (gr,h);have kk1:∀H' s',ax K c H' g s'->Mv g z (upd H t (.tup [.int gr,.int h])) g s' H'->Mv g z H g s' H':=λH' s' _ mv=>(Mv.of_same s1).trans N1 T.dist mv;cases hf:fe (gr,h)with
   |none=>
    rw[hf]at qd;cases hy:entryOf z gr h with
    |some y=>
     have hy':entryOf z (gr,h).1 (gr,h).2=some y:=hy;rw[hy']at qd;exact qd.elim
    |none=>
     rw[hy]at kk;dsimp only at kk;refine⟨_,rfl,_,rfl,bK rfl ⟨_,rfl,_,rfl,g,z,a,h,p,gr,k,st,e,U,n,rfl,N1,hm1,ie,hU,W,hn,λH' N' mv=>kk H' N' (kk1 H' _ N' mv)⟩⟩
   |some v=>
    rw[hf]at qd;cases hy:entryOf z gr h with
    |none=>
     have hy':entryOf z (gr,h).1 (gr,h).2=none:=hy;rw[hy']at qd;exact qd.elim
    |some y=>
     have hy':entryOf z (gr,h).1 (gr,h).2=some y:=hy;rw[hy']at qd;obtain⟨b,rfl,hb⟩:=qd;rw[hy]at kk;dsimp only at kk;have hb1:=hb.keep (s1.kp (c:=c));refine⟨_,rfl,_,rfl,aQ (λz=>nomatch z) ⟨_,rfl,_,_,rfl,hm1.f T T.bY (λ_=>rfl),_,rfl,_,_,rfl,hb1.f T T.cI (λ_=>rfl),_,_,rfl,rfl,_,rfl,b7 (λq=>?_) (λq=>?_)⟩⟩
     ·have q2:=J0 q;rw[if_neg (by omega)]at kk;exact⟨_,rfl,_,rfl,_,rfl,g,z,b,a,y,h,p,gr,k,st,e,U,n,rfl,N1,hb1,(W.ei y (eD hy).1).1,hm1,ie,hU,W,hn,λH' N' mv=>kk H' N' (kk1 H' _ N' mv)⟩
     ·have q2:¬((y.serial:Int)<(k:Int)):=λz=>q (J1 z);rw[if_pos (by omega)]at kk;exact kk _ N1 (Mv.of_same s1)
noncomputable def Hn (K:PySem.W.Frag) (c:Cs):Sp:=λvs H Q _=>∃(g:Role->Addr) (s:State) (a:Addr) (m:Msg) (U:List Nat) (n:Nat),vs=[.ref (g .n),.ref a]/\ax K c H g s/\dq K c H a m/\tY U m/\Sm U/\Wf U n s/\n<=400/\
 ∀H':Hp,ax K c H' g (Vbcnai.takes s m)->Mv g s H g (Vbcnai.takes s m) H'->Q .bQ H'
theorem yL (T:Tx K mg c):Fn P w K mg base "hand_over" 7 ["net","message"] (Hn K c):=by
 refine T.lp.ok wK (λvs H Q E h=>?_) (λf cdv A outer s H vs Q E hr h=>?_)
 ·obtain⟨g,s,a,m,U,n,rfl,_⟩:=h;rfl
 ·obtain⟨g,z,a,m,U,n,rfl,N,hm,ho,hU,W,hn,kk⟩:=h;refine⟨_,(ag (aF (aR (aO DE (by rfl) T.gb mK (aa (pv 1) (aa (sS T.bE.mg) ae))))
   (ag (aM (az (uS T) hr (aa (pv 0) (aa (pv 1) ae)))))
   (ag (aM (az (w9 T) hr (aa (pv 0) (aa (pv 1) ae))))))),?_⟩
  cases m with
  |report h p gr k st e=>
   have hm0:=hm;obtain⟨dx,u,e1,_⟩:=hm;have i:=T.HI c.bc (by simp);refine⟨_,rfl,.ref a,.ref c.bc,c.bc,true,rfl,.ins e1 T.bE.cl i.1 T.Gh.1 T.Gh.2 i.2,T.JD,_,rfl,bG ⟨_,rfl,_,rfl,g,z,a,h,p,gr,k,st,e,U,n,rfl,N,hm0,ho.1,hU,W,hn,kk⟩⟩
  |query p q=>
   have hm0:=hm;obtain⟨dx,e1⟩:=hm;have i:=T.HI c.Query (by simp);refine⟨_,rfl,.ref a,.ref c.Query,c.bc,false,rfl,.ins e1 T.cD.cl i.1 T.Gh.1 T.Gh.2 i.2,T.isQ,_,rfl,bX ⟨_,rfl,_,rfl,g,z,a,p,q,U,n,rfl,N,hm0,W,hU,kk⟩⟩
end
end Gs
namespace Gs
open PySem PySem.Spec PyProof.Rows L2
open Mx (Up)
noncomputable def c9 (K:PySem.W.Frag) (c:Cs) (H:Hp) (g:Role->Addr) (s:State) (Q:VK) (r:State×List Int):Prop:=
 ∀(H':Hp) (g':Role->Addr) (p:Addr),ax K c H' g' r.1->Mv g s H g' r.1 H'->H p=none->H' p=some (.lst (r.2.map V.int))->Q (.ref p) H'
section
variable{K:PySem.W.Frag}{c:Cs}{H H' H1:Hp}{g g' g1:Role->Addr}{s s':State}{Q:VK}
theorem Mv.nn (mv:Mv g s H g1 s' H1) (N:ax K c H1 g1 s') (D:gd c){p:Addr}(h:H1 p=none):H p=none:=by
 cases e:H p with
 |none=>rfl
 |some o=>
  have:=mv.keep p o e λr hr z=>by
   obtain⟨h1,h2⟩:=mv.same r hr;obtain⟨u,hu,_⟩:=N.Iv D r h1;rw[h2,z,h]at hu;cases hu
  rw[this]at h;cases h
theorem c9.fin {l:List Int}(k:c9 K c H g s Q (s',l)) (N:ax K c H1 g1 s') (D:gd c) (mv:Mv g s H g1 s' H1){p:Addr}(h:H1 p=none):Q (.ref p) (upd H1 p (.lst (l.map V.int))):=
 k _ g1 p (N.same D (aw.new h)) (mv.trans N D (Mv.of_same (aw.new h))) (mv.nn N D h) ab
theorem c9.ret {z:Int}(k:c9 K c H g s Q (s',[z])) (N:ax K c H1 g1 s') (D:gd c) (mv:Mv g s H g1 s' H1):([V.int z].length<=sizeLine/\∀p,H1 p=none->Q (.ref p) (upd H1 p (.lst [.int z]))):=
 ⟨by show 1<=sizeLine;decide,λp h=>k.fin N D mv h⟩
theorem c9.cV {z:Int}(k:c9 K c H g s Q (s,[z])) (N:ax K c H g s) (D:gd c):([V.int z].length<=sizeLine/\∀p,H p=none->Q (.ref p) (upd H p (.lst [.int z]))):=
 k.ret N D (Mv.of_same aw.tT)
theorem c9.zl {l:List Int}(k:c9 K c H g s Q (s,l)) (N:ax K c H g s) (D:gd c):B3 H Q l:=λH' p sm n e=>k H' g p (N.same D sm) (Mv.of_same sm) n e
end
theorem Paired.erase {α β:Type}{R:α->β->Prop}:∀{xs:List α}{ys:List β}(i:Nat),Paired R xs ys->Paired R (xs.eraseIdx i) (ys.eraseIdx i)
 |_,_,_,.nil=>.nil
 |_,_,0,.cons _ t=>t
 |_,_,i+1,.cons r t=>.cons r (Paired.erase i t)
section
variable{P:Program}{w:World}{K:PySem.W.Frag}{mg:Str->Option Value}{base:Heap}{c:Cs}
noncomputable def yM (K:PySem.W.Frag) (c:Cs) (f:Int->Vbcnai.Call):Sp:=λvs H Q _=>∃(g:Role->Addr) (s:State) (i:Int) (U:List Nat) (n:Nat),vs=[.ref (g .n),.int i]/\ax K c H g s/\Wf U n s/\Sm U/\n<=399/\c9 K c H g s Q (Vbcnai.doing s (f i))
noncomputable def yN (K:PySem.W.Frag) (c:Cs) (f:Int->Int->Vbcnai.Call):Sp:=λvs H Q _=>∃(g:Role->Addr) (s:State) (i j:Int) (U:List Nat) (n:Nat),vs=[.ref (g .n),.int i,.int j]/\ax K c H g s/\Wf U n s/\Sm U/\n<=399/\c9 K c H g s Q (Vbcnai.doing s (f i j))
noncomputable def Hq (K:PySem.W.Frag) (c:Cs) (f:Vbcnai.Call):Sp:=λvs H Q _=>∃(g:Role->Addr) (s:State) (U:List Nat) (n:Nat),vs=[.ref (g .n)]/\ax K c H g s/\Wf U n s/\Sm U/\n<=399/\c9 K c H g s Q (Vbcnai.doing s f)
theorem Ad {s:State}{k:Int}(h:jW s k=false):(if 0<=k then s.bag[k.toNat]? else none)=none:=by
 unfold jW at h
 by_cases q:0<=k
 ·rw[if_pos q];rw[J1 q,Bool.true_and,decide_eq_false_iff_not]at h;exact List.getElem?_eq_none (by omega)
 ·rw[if_neg q]
theorem Ae {s:State}{k:Int}(h:jW s k=true):∃i m,k=((i:Nat):Int)/\s.bag[i]? =some m/\(if 0<=k then s.bag[k.toNat]? else none)=some m/\k.toNat=i:=by
 unfold jW at h;rw[JS,JT,JT]at h;have hl:k.toNat<s.bag.length:=by omega
 exact⟨k.toNat,s.bag[k.toNat],by omega,Ka hl,by rw[if_pos h.1];exact Ka hl,rfl⟩
theorem Eg {i n:Nat}(h:i<n):seqIndex? (i:Int) n=some i:=by
 unfold seqIndex?;have h1:¬((i:Int)<0):=by omega
 simp only[if_neg h1];have h2:(decide (0<=(i:Int))&&decide ((i:Int)<(n:Int)))=true:=by
  rw[JS,JT,JT];omega
 rw[if_pos h2,Ko]
theorem vN {α β:Type}(f:α->β):∀(l:List α) (i:Nat),(l.map f).eraseIdx i=(l.eraseIdx i).map f
 |[],_=>rfl
 |a::l,0=>rfl
 |a::l,i+1=>by
  show f a::(l.map f).eraseIdx i=f a::(l.eraseIdx i).map f;rw[vN f l i]
theorem ax.qu {H:Hp}{g:Role->Addr}{s:State}(N:ax K c H g s) (D:gd c){as:List Addr}{i:Nat}(e1:H (g .bg)=some (.lst (as.map V.ref))) (e2:Paired (λa m=>dq K c H a m) as s.bag):
  ax K c (upd H (g .bg) (.lst ((as.map V.ref).eraseIdx i))) g {s with bag:=s.bag.eraseIdx i}/\Mv g s H g {s with bag:=s.bag.eraseIdx i} (upd H (g .bg) (.lst ((as.map V.ref).eraseIdx i))):=by
 have hc:Ch g (λr=>r=.bg) H (upd H (g .bg) (.lst ((as.map V.ref).eraseIdx i))):=Ch.upd rfl;have hR:∀r,(λ(r:Role)=>r=.bg) r->Used s r:=λr e=>by rw[e];exact trivial
 have kp:=N.kp D hc hR;refine⟨N.Aa D hc ⟨as.eraseIdx i,?_,Paired.erase i (Paired.imp (λ_ _ r=>r.keep kp) e2)⟩,Mv.lF hc hR λr=>cY rfl r⟩;rw[ab,vN]
theorem Wf.qu {U:List Nat}{n:Nat}{s:State}(W:Wf U n s) (i:Nat):Wf U n {s with bag:=s.bag.eraseIdx i}:=
 {W with bl:=Kj (List.eraseIdx_sublist ..).length_le W.bl,bm:=λm hm=>W.bm m (List.mem_of_mem_eraseIdx hm)}
theorem yO (T:Tx K mg c):Fn P w K mg base "call_lose" 2 ["net","place"] (yM K c .lose):=by
 refine T.lr.ok wL (λvs H Q E h=>?_) (λf cdv A outer s H vs Q E hr h=>?_)
 ·obtain⟨g,s,i,U,n,rfl,_⟩:=h;rfl
 ·obtain⟨g,z,i,U,n,rfl,N,W,hU,hn,k⟩:=h;refine⟨_,(af (aF (aX (aR (bT (pv 0) (eX T) hr (aa (pv 1) ae))))
   (ag (aj (aC (aa (br aS ah) ae))))
   au)
   (af (aM (i3 PySem.F.plainAttrs_list PySem.F.slot_list_pop PySem.F.type_list_pop x9 (aB (pv 0)) (aa (pv 1) ae)))
   (ag (aj (aC (aa ah ae)))))),?_⟩
  obtain⟨dn,en⟩:=N.nM;refine⟨_,rfl,g .n,dn,_,rfl,en,rfl,_,rfl,g,z,i,rfl,N,_,rfl,?_⟩;unfold Vbcnai.doing at k;dsimp only at k;cases hm:jW z i with
  |false=>
   rw[Ad hm]at k;exact bG ⟨_,rfl,k.cV N T.dist⟩
  |true=>
   obtain⟨j,m,rfl,e1,e2,e3⟩:=Ae hm;rw[e2,e3]at k;obtain⟨as,b1,b2⟩:=N.bag;have hl:=ax.lG b2;have hj:=(J2.mp e1).1;obtain⟨a,ha⟩:∃a,as[j]? =some a:=⟨as[j]'(by have:=Paired.length b2;omega),Ka _⟩;have hb:=W.bl;have hc:=W.cb;obtain⟨N1,mv⟩:=N.qu T.dist (i:=j) b1 b2;exact bX ⟨_,rfl,_,_,rfl,N.f T.aA.cl T.cy rfl,.inl ⟨rfl,_,ba.of b1⟩,_,rfl,_,_,_,j,.ref a,rfl,rfl,b1,(by omega),(by omega),Eg (by rw[hl];exact hj),(by rw[J5,ha];rfl),k.ret N1 T.dist mv⟩
theorem t9 (T:Tx K mg c):Fn P w K mg base "call_deliver" 8 ["net","place"] (yM K c .deliver):=by
 refine T.gQ.ok rH (λvs H Q E h=>?_) (λf cdv A outer s H vs Q E hr h=>?_)
 ·obtain⟨g,s,i,U,n,rfl,_⟩:=h;rfl
 ·obtain⟨g,z,i,U,n,rfl,N,W,hU,hn,k⟩:=h;refine⟨_,(af (aF (aX (aR (bT (pv 0) (eX T) hr (aa (pv 1) ae))))
   (ag (aj (aC (aa (br aS ah) ae))))
   au)
   (af (aM (az (yL T) hr (aa (pv 0) (aa (i3 PySem.F.plainAttrs_list PySem.F.slot_list_pop PySem.F.type_list_pop x9 (aB (pv 0)) (aa (pv 1) ae)) ae))))
   (ag (aj (aC (aa ah ae)))))),?_⟩
  obtain⟨dn,en⟩:=N.nM;refine⟨_,rfl,g .n,dn,_,rfl,en,rfl,_,rfl,g,z,i,rfl,N,_,rfl,?_⟩;unfold Vbcnai.doing at k;dsimp only at k;cases hm:jW z i with
  |false=>
   rw[Ad hm]at k;exact bG ⟨_,rfl,k.cV N T.dist⟩
  |true=>
   obtain⟨j,m,rfl,e1,e2,e3⟩:=Ae hm;rw[e2,e3]at k;obtain⟨as,b1,b2⟩:=N.bag;have hl:=ax.lG b2;have hj:=(J2.mp e1).1;obtain⟨a,ha⟩:∃a,as[j]? =some a:=⟨as[j]'(by have:=Paired.length b2;omega),Ka _⟩;obtain⟨m',hm1,hm2⟩:=Paired.at_ b2 ha;have em:m'=m:=JU (hm1.symm.trans e1);subst em;have hb:=W.bl;have hc:=W.cb;obtain⟨N1,mv⟩:=N.qu T.dist (i:=j) b1 b2;exact bX ⟨_,rfl,_,rfl,_,_,rfl,N.f T.aA.cl T.cy rfl,.inl ⟨rfl,_,ba.of b1⟩,_,rfl,_,_,_,j,.ref a,rfl,rfl,b1,(by omega),(by omega),Eg (by rw[hl];exact hj),(by rw[J5,ha];rfl),
    g,_,a,m',U,n,rfl,N1,hm2.keep (mv.kp N T.dist),W.bm m' (Kd e1),hU,W.qu j,(by omega),λH2 N2 mv2=>k.ret N2 T.dist (mv.trans N1 T.dist mv2)⟩
theorem uT (T:Tx K mg c):Fn P w K mg base "call_double" 2 ["net","place"] (yM K c .double):=by
 refine T.iL.ok tD (λvs H Q E h=>?_) (λf cdv A outer s H vs Q E hr h=>?_)
 ·obtain⟨g,s,i,U,n,rfl,_⟩:=h;rfl
 ·obtain⟨g,z,i,U,n,rfl,N,W,hU,hn,k⟩:=h;refine⟨_,(af (aF (aX (aR (bT (pv 0) (eX T) hr (aa (pv 1) ae))))
   (ag (aj (aC (aa (br aS ah) ae))))
   au)
   (af (aF (aR (jx (pv 0) (iq T) hr))
   (ag (aj (aC (aa (br aS ah) ae))))
   au)
   (af (aM (i3 PySem.F.plainAttrs_list PySem.F.slot_list_append PySem.F.type_list_append i4 (aB (pv 0)) (aa (aI aH (aB (pv 0)) (pv 1) (λ_ _=>rfl)) ae)))
   (ag (aj (aC (aa ah ae))))))),?_⟩
  obtain⟨dn,en⟩:=N.nM;refine⟨_,rfl,g .n,dn,_,rfl,en,rfl,_,rfl,g,z,i,rfl,N,_,rfl,?_⟩;unfold Vbcnai.doing at k;dsimp only at k;cases hm:jW z i with
  |false=>
   rw[Ad hm]at k;exact bG ⟨_,rfl,k.cV N T.dist⟩
  |true=>
   obtain⟨j,m,rfl,e1,e2,e3⟩:=Ae hm;rw[e2]at k;dsimp only at k;refine bX ⟨_,rfl,g .n,dn,_,rfl,en,rfl,g,z,rfl,N,_,rfl,b7 (λq=>?_) (λq=>?_)⟩
   ·rw[if_pos (J0 q)]at k;exact⟨_,rfl,k.cV N T.dist⟩
   ·have q1:¬z.cfg.bag<=z.bag.length:=λz=>q (J1 z);rw[if_neg q1]at k;obtain⟨as,b1,b2⟩:=N.bag;have hl:=ax.lG b2;have hj:=(J2.mp e1).1;obtain⟨a,ha⟩:∃a,as[j]? =some a:=⟨as[j]'(by have:=Paired.length b2;omega),Ka _⟩;obtain⟨m',hm1,hm2⟩:=Paired.at_ b2 ha;have em:m'=m:=JU (hm1.symm.trans e1);subst em;have hb:=W.bl;have hcb:=W.cb;have hF:=N.f T.aA.cl T.cy rfl;refine⟨_,rfl,_,_,rfl,hF,.inl ⟨rfl,_,ba.of b1⟩,_,rfl,_,_,rfl,hF,_,rfl,_,_,_,_,rfl,rfl,ba.of b1,at_of (j:=j) (v:=V.ref a) rfl (by rw[J5,ha];rfl),g .bg,_,_,rfl,rfl,b1,?_,?_⟩
    ·rw[hl];show _<2^24;omega
    ·have hc:Ch g (λr=>r=.bg) H (upd H (g .bg) (.lst (as.map V.ref++[.ref a]))):=Ch.upd rfl;have hR:∀r,(λ(r:Role)=>r=.bg) r->Used z r:=λr e=>by rw[e];exact trivial
     have kp:=N.kp T.dist hc hR;have N1:=N.Aa T.dist hc (l:=z.bag++[m']) ⟨as++[a],by rw[ab,Ki];rfl,Paired.snoc (hm2.keep kp) (Paired.imp (λ_ _ r=>r.keep kp) b2)⟩;exact k.ret N1 T.dist (Mv.lF hc hR λr=>cY rfl r)
end
end Gs
namespace Gs
open PySem PySem.Spec PyProof.Rows L2
open Mx (Up)
open Vbcnai (hostOf hasOf findHost putHost wanted)
section
variable{P:Program}{w:World}{K:PySem.W.Frag}{mg:Str->Option Value}{base:Heap}{c:Cs}
theorem gp (s:State) (g:Role->Addr) (h:Int):valZ (λn=>(hostOf s n).map λ_=>V.ref (g (.ho n))) h=(findHost s h).map λx=>V.ref (g (.ho x.id)):=by
 unfold valZ Vbcnai.findHost
 by_cases q:0<=h
 ·rw[if_pos q,if_pos q];show(hostOf s h.toNat).map (λ_=>V.ref (g (.ho h.toNat)))=_;cases e:hostOf s h.toNat with
  |none=>rfl
  |some x=>
   rw[Option.map_some,Option.map_some,(jl e).2]
 ·rw[if_neg q,if_neg q];rfl
theorem bU {s:State}{h:Int}{x:Ho}(e:findHost s h=some x):hostOf s x.id=some x/\h=(x.id:Int):=by
 unfold Vbcnai.findHost at e
 by_cases q:0<=h
 ·rw[if_pos q]at e;have:=(jl e).2;exact⟨by rw[this];exact e,by omega⟩
 ·rw[if_neg q]at e;cases e
theorem ax.setPort {H:Hp}{g:Role->Addr}{s:State}{U:List Nat}{n:Nat}{x:Ho}{dx:Addr}(N:ax K c H g s) (D:gd c) (W:Wf U n s) (hx:hostOf s x.id=some x) (p:Option Nat):
  ax K c (upd H (g (.ho x.id)) (.ins c.Host dx (jk {x with port:=p} (g (.dw x.id)) (g (.ds x.id))))) g {s with hosts:=putHost {x with port:=p} s.hosts}/\
  Mv g s H g {s with hosts:=putHost {x with port:=p} s.hosts} (upd H (g (.ho x.id)) (.ins c.Host dx (jk {x with port:=p} (g (.dw x.id)) (g (.ds x.id))))):=by
 have hA:=N.host _ _ hx;have u:(hostOf s x.id).isSome=true:=by rw[hx];rfl
 have hho:g (.dw x.id)≠g (.ho x.id):=λq=>nomatch (N.inj (.dw x.id) (.ho x.id) u u q);have hhs:g (.ds x.id)≠g (.ho x.id):=λq=>nomatch (N.inj (.ds x.id) (.ho x.id) u u q);have hc:Ch g (λr=>r=.ho x.id\/r=.dw x.id\/r=.ds x.id) H (upd H (g (.ho x.id)) (.ins c.Host dx (jk {x with port:=p} (g (.dw x.id)) (g (.ds x.id))))):=Ch.upd (.inl rfl);have hR:∀r,(λ(r:Role)=>r=.ho x.id\/r=.dw x.id\/r=.ds x.id) r->Used s r:=λr e=>by
  rcases e with rfl|rfl|rfl<;>exact u
 have kp:=N.kp D hc hR;obtain⟨fw,d1,d2⟩:=hA.Cz;exact N.Bc D W hx (x':={x with port:=p}) rfl hc ⟨⟨dx,ab⟩,⟨fw,d1.keep λo e=>by rw[ak hho];exact e,λm=>(d2 m).imp λa y w=>w.keep kp.tk⟩,hA.HH.keep λo e=>by rw[ak hhs];exact e⟩
theorem uU (T:Tx K mg c):Fn P w K mg base "call_unhost" 1 ["net","number"] (yM K c .unhost):=by
 refine T.iM.ok kS (λvs H Q E h=>?_) (λf cdv A outer s H vs Q E hr h=>?_)
 ·obtain⟨g,s,i,U,n,rfl,_⟩:=h;rfl
 ·obtain⟨g,z,i,U,n,rfl,N,W,hU,hn,k⟩:=h;have nd:=kS.nd;have hu:=cX hr;refine⟨_,(af (aT (i:=2) nd rfl (Or.inl rfl) (kH hu (aB (pv 0)) (pv 1) ⟨rfl,rfl,rfl,rfl⟩))
   (af (aF (dB (kq (pv 2)))
   (ag (aj (aC (aa (br aS ah) ae))))
   au)
   (af (aF (aE bj (aB (pv 2)) (bz T.fk) (aD _))
   (ag (aj (aC (aa (br aS ah) ae))))
   au)
   (af (aP (pv 2) (bz T.fk) rfl)
   (ag (aj (aC (aa ah ae)))))))),?_⟩
  refine⟨_,rfl,_,_,rfl,N.f T.aA.cl T.aZ rfl,_,rfl,N.hosts.Gf,_,rfl,_,N.hosts.get i,?_⟩;rw[gp];unfold Vbcnai.doing at k;dsimp only at k;cases hf:findHost z i with
  |none=>
   rw[hf]at k;exact⟨_,rfl,_,rfl,bK rfl ⟨_,rfl,k.cV N T.dist⟩⟩
  |some x=>
   rw[hf]at k;dsimp only at k;obtain⟨hx,rfl⟩:=bU hf;have hA:=N.host _ _ hx;obtain⟨dx,ex⟩:=hA.obj;refine⟨_,rfl,_,rfl,aQ (λz=>nomatch z) ⟨_,rfl,_,_,rfl,hA.f T.a8.cl T.bo rfl,rfl,_,rfl,?_⟩⟩;cases hp:x.port with
   |none=>
    rw[if_pos hp]at k;exact bK rfl ⟨_,rfl,k.cV N T.dist⟩
   |some p=>
    rw[if_neg (by rw[hp];exact λz=>nomatch z)]at k;have hne:¬(decide (V.int (gI (some p))=V.int (-1))=true):=λq=>by
     have:=J0 q;injection this with this;have e:gI (some p)=(p:Int):=rfl;omega
    refine aQ hne ⟨_,rfl,_,_,dx,_,rfl,ex,T.a8.cl,T.bo,(by show 4<1000;decide),?_⟩;obtain⟨N1,mv⟩:=N.setPort T.dist W hx (dx:=dx) none;exact k.ret N1 T.dist mv
noncomputable def uV (g:Role->Addr) (n:Nat) (a dw ds:Addr):Role->Addr
 |.ho i=>if i=n then a else g (.ho i)
 |.dw i=>if i=n then dw else g (.dw i)
 |.ds i=>if i=n then ds else g (.ds i)
 |r=>g r
theorem Eh {g:Role->Addr}{n:Nat}{a dw ds:Addr}{s:State}(hn:hostOf s n=none):∀r,Used s r->uV g n a dw ds r=g r:=λr u=>by
 cases r with
 |ho i=>exact if_neg λe=>by rw[e]at u;have u:(hostOf s n).isSome=true:=u;rw[hn]at u;cases u
 |dw i=>exact if_neg λe=>by rw[e]at u;have u:(hostOf s n).isSome=true:=u;rw[hn]at u;cases u
 |ds i=>exact if_neg λe=>by rw[e]at u;have u:(hostOf s n).isSome=true:=u;rw[hn]at u;cases u
 |_=>rfl
theorem ax.FK {H H':Hp}{g:Role->Addr}{s:State}{U:List Nat}{m n:Nat}{a dw ds dx:Addr}{p:Option Nat}(N:ax K c H g s) (D:gd c) (W:Wf U m s) (hn:hostOf s n=none) (h:Ch g (λr=>r=.hd) H H')
  (ha:H a=none) (hw:H dw=none) (hs:H ds=none) (a1:a≠dw) (a2:a≠ds) (a3:dw≠ds) (e1:H' a=some (.ins c.Host dx (jk ⟨n,p,[]⟩ dw ds))) (e2:H' dw=some (.dK [])) (e3:H' ds=some (.dK []))
  (e4:DN H' (g .hd) λq=>if q=n then some (.ref a)else(hostOf s q).map λ_=>.ref (g (.ho q))):
  ax K c H' (uV g n a dw ds) {s with hosts:=putHost ⟨n,p,[]⟩ s.hosts}/\Mv g s H (uV g n a dw ds) {s with hosts:=putHost ⟨n,p,[]⟩ s.hosts} H':=by
 have hR:∀r,(λ(r:Role)=>r=.hd) r->Used s r:=λr e=>by rw[e];exact trivial
 have hp:∀q,hostOf {s with hosts:=putHost ⟨n,p,[]⟩ s.hosts} q=if q=n then some ⟨n,p,[]⟩else hostOf s q:=λq=>nO W.hs q;have hg:=Eh (g:=g) (a:=a) (dw:=dw) (ds:=ds) hn;have split:∀r,Used {s with hosts:=putHost ⟨n,p,[]⟩ s.hosts} r->Used s r\/r=.ho n\/r=.dw n\/r=.ds n:=λr u=>by
  have key:∀i,(hostOf {s with hosts:=putHost ⟨n,p,[]⟩ s.hosts} i).isSome=true->(hostOf s i).isSome=true\/i=n:=λi u=>by
   rw[hp]at u
   by_cases e:i=n
   ·exact .inr e
   ·rw[if_neg e]at u;exact .inl u
  cases r with
  |ho i=>exact(key i u).imp id λe=>.inl (congrArg _ e)
  |dw i=>exact(key i u).imp id λe=>.inr (.inl (congrArg _ e))
  |ds i=>exact(key i u).imp id λe=>.inr (.inr (congrArg _ e))
  |_=>exact .inl trivial
 have up:∀r,Used s r->Used {s with hosts:=putHost ⟨n,p,[]⟩ s.hosts} r:=λr u=>by
  have key:∀i,(hostOf s i).isSome=true->(hostOf {s with hosts:=putHost ⟨n,p,[]⟩ s.hosts} i).isSome=true:=λi u=>by
   rw[hp];split
   ·rfl
   ·exact u
  cases r with
  |ho i=>exact key i u
  |dw i=>exact key i u
  |ds i=>exact key i u
  |_=>trivial
 have g1:uV g n a dw ds (.ho n)=a:=if_pos rfl;have g2:uV g n a dw ds (.dw n)=dw:=if_pos rfl;have g3:uV g n a dw ds (.ds n)=ds:=if_pos rfl;have fr:=λ{q:Addr}(hq:H q=none)=>N.free D hq;refine⟨⟨let ⟨dx,e⟩:=N.nM;⟨dx,N.at_ h hR (r:=.n) trivial (λz=>nomatch z) e⟩,let ⟨dx,e⟩:=N.pJ;⟨dx,N.at_ h hR (r:=.sw) trivial (λz=>nomatch z) e⟩,N.vI D h hR (λz=>nomatch z),e4.congr λq=>?_,λq x hx=>?_,N.mM D h hR (λz=>nomatch z),
  N.rk.keep λo e=>N.at_ h hR (r:=.pl) trivial (λz=>nomatch z) e,N.fix.keep λo e=>N.at_ h hR (r:=.fx) trivial (λz=>nomatch z) e,N.tX.keep λo e=>N.at_ h hR (r:=.he) trivial (λz=>nomatch z) e,λr r' u u' e=>?_⟩,
  ⟨λb o e n'=>h b o e λr hr=>n' r (hR r hr),λr hr=>⟨up r hr,hg r hr⟩,λr hr hnr=>?_⟩⟩
 ·rw[hp]
  by_cases e:q=n
  ·rw[if_pos e,if_pos e,e];show some (V.ref a)=some (V.ref (uV g n a dw ds (.ho n)));rw[g1]
  ·rw[if_neg e,if_neg e];cases hq:hostOf s q with
   |none=>rfl
   |some x=>
    show some (V.ref (g (.ho q)))=some (V.ref (uV g n a dw ds (.ho q)));rw[hg (.ho q) (by show(hostOf s q).isSome=true;rw[hq];rfl)]
 ·rw[hp]at hx
  by_cases e:q=n
  ·rw[if_pos e]at hx;cases hx;rw[e,g1,g2,g3];exact⟨⟨dx,e1⟩,⟨λ_=>none,⟨[],e2,Dk.nil qr⟩,λ_=>trivial⟩,⟨[],e3,Dk.nil qr⟩⟩
  ·rw[if_neg e]at hx;have u:(hostOf s q).isSome=true:=by rw[hx];rfl
   rw[hg (.ho q) u,hg (.dw q) u,hg (.ds q) u];exact N.nN D h hR hx (λz=>nomatch z) (λz=>nomatch z) (λz=>nomatch z)
 ·rcases split r u with v|v|v|v
  ·rcases split r' u' with v'|v'|v'|v'
   ·rw[hg r v,hg r' v']at e;exact N.inj r r' v v' e
   ·rw[v',g1,hg r v]at e;exact absurd e (fr ha r v)
   ·rw[v',g2,hg r v]at e;exact absurd e (fr hw r v)
   ·rw[v',g3,hg r v]at e;exact absurd e (fr hs r v)
  ·rcases split r' u' with v'|v'|v'|v'
   ·rw[v,g1,hg r' v']at e;exact absurd e.symm (fr ha r' v')
   ·rw[v,v']
   ·rw[v,v',g1,g2]at e;exact absurd e a1
   ·rw[v,v',g1,g3]at e;exact absurd e a2
  ·rcases split r' u' with v'|v'|v'|v'
   ·rw[v,g2,hg r' v']at e;exact absurd e.symm (fr hw r' v')
   ·rw[v,v',g2,g1]at e;exact absurd e.symm a1
   ·rw[v,v']
   ·rw[v,v',g2,g3]at e;exact absurd e a3
  ·rcases split r' u' with v'|v'|v'|v'
   ·rw[v,g3,hg r' v']at e;exact absurd e.symm (fr hs r' v')
   ·rw[v,v',g3,g1]at e;exact absurd e.symm a2
   ·rw[v,v',g3,g2]at e;exact absurd e.symm a3
   ·rw[v,v']
 ·rcases split r hr with v|v|v|v
  ·exact absurd v hnr
  ·rw[v,g1];exact ha
  ·rw[v,g2];exact hw
  ·rw[v,g3];exact hs
theorem uW {s:State}{n:Nat}{p:Option Nat}(h:hostOf s n=some ⟨n,p,[]⟩):Vbcnai.retellsAll s n=s:=by
 unfold Vbcnai.retellsAll;rw[h];rfl
theorem yP (T:Tx K mg c):Fn P w K mg base "call_host" 6 ["net","number","port"] (yN K c .host):=by
 refine T.lu.ok oK (λvs H Q E h=>?_) (λf cdv A outer s H vs Q E hr h=>?_)
 ·obtain⟨g,s,i,j,U,n,rfl,_⟩:=h;rfl
 ·obtain⟨g,z,i,j,U,n,rfl,N,W,hU,hn,k⟩:=h;have nd:=oK.nd;have hu:=cX hr;refine⟨_,(af (aF (aX (aR (bT (pv 0) (bF T) hr (aa (pv 2) ae))))
   (ag (aj (aC (aa (br aS ah) ae))))
   au)
   (af (aF (aX (aR (az (B1 T.toTxt) hr (aa (pv 1) ae))))
   (ag (aj (aC (aa (br aS ah) ae))))
   au)
   (af (aT (i:=3) nd rfl (Or.inl rfl) (kH hu (aB (pv 0)) (pv 1) ⟨rfl,rfl,rfl,rfl⟩))
   (af (aF (dB (kq (pv 3)))
   (af (aF (aE C5 (aO pS (by rfl) T.dJ cT (aa (aB (pv 0)) ae)) (bz T.jD) (aD _))
   (ag (aj (aC (aa (br aS ah) ae))))
   au)
   (af (aT (i:=3) nd rfl (Or.inl rfl) (l7 (Hh T.toTxt) hr (aa (pv 1) ae)))
   (ag (fA hu (aB (pv 0)) (pv 1) (pv 3) rfl))))
   (ag (aF (aE bj (aB (pv 3)) (pv 2) (aD _))
   (ag (aj (aC (aa (br aS ah) ae))))
   au)))
   (af (aP (pv 3) (pv 2) rfl)
   (af (aM (az (pj T) hr (aa (pv 0) (aa (pv 3) ae))))
   (ag (aj (aC (aa ah ae)))))))))),?_⟩
  obtain⟨dn,en⟩:=N.nM;have clN:=T.aA.cl;have clH:=T.a8.cl;unfold Vbcnai.doing at k;dsimp only at k;refine⟨_,rfl,g .n,dn,_,rfl,en,rfl,_,rfl,g,z,j,rfl,N,_,rfl,?_⟩;cases hp:Vbcnai.isPort z j with
  |false=>
   rw[if_pos hp]at k;exact bG ⟨_,rfl,k.cV N T.dist⟩
  |true=>
   rw[if_neg (by rw[hp];exact λz=>nomatch z)]at k;refine bX ⟨_,rfl,i,rfl,_,rfl,b7 (λq=>?_) (λq=>?_)⟩
   ·have q:Vbcnai.within i 0 65535=false:=by
     have q:(!Vbcnai.within i 0 65535)=true:=q;simpa using q
    rw[if_pos q]at k;exact⟨_,rfl,k.cV N T.dist⟩
   have q:Vbcnai.within i 0 65535=true:=by
    have q:¬(!Vbcnai.within i 0 65535)=true:=q;simpa using q
   rw[if_neg (by rw[q];exact λz=>nomatch z)]at k;have hj:j=(j.toNat:Int):=by
    unfold Vbcnai.isPort Vbcnai.within at hp;rw[JS,JT]at hp;omega
   have hi:i=(i.toNat:Int):=by
    unfold Vbcnai.within at q;rw[JS,JT]at q;omega
   refine⟨_,rfl,_,_,rfl,N.f clN T.aZ rfl,_,rfl,N.hosts.Gf,_,rfl,_,N.hosts.get i,?_⟩;rw[gp];have ids:∀m,((hostOf z m).map λ_=>V.ref (g (.ho m))).isSome=true↔m∈z.hosts.map (·.id):=λm=>by rw[Kn];exact dt m
   cases hf:findHost z i with
   |none=>
    rw[hf]at k;dsimp only at k;obtain⟨kvs,e1,l1⟩:=N.hosts.len (Mx.Up.nodup W.ids) ids;refine⟨_,rfl,_,rfl,bK rfl ⟨_,rfl,_,_,rfl,N.f clN T.aZ rfl,_,kvs,rfl,e1,_,_,rfl,rfl,_,rfl,b7 (λq2=>?_) (λq2=>?_)⟩⟩
    ·have q3:=J0 q2;rw[l1,JQ]at q3;rw[if_pos (by omega)]at k;exact⟨_,rfl,k.cV N T.dist⟩
    ·have q3:¬((256:Int)<=(kvs.length:Int)):=λz=>q2 (J1 z);rw[l1,JQ]at q3;rw[if_neg (by omega)]at k;refine⟨_,rfl,?_⟩;intro x dx nx ndx nex;refine⟨x,dx,_,rfl,ab,λH1 dw ds b1 f1 f2 f3 h1 h2 h3=>⟨rfl,?_⟩⟩;have s1:aw H H1:=λb o e=>b1 b o (by rw[ak (ao e nx),ak (ao e ndx)];exact e) (ao e nx);have N1:=N.same T.dist s1;have hne:hostOf z i.toNat=none:=by
      unfold Vbcnai.findHost at hf;rw[if_pos (by omega)]at hf;exact hf
     have free:∀{d:Addr},(upd (upd H dx (.own x)) x (.ins c.Host dx [])) d=none->H d=none/\d≠x:=λ{d} hd=>by
      have:d≠x:=λz=>by rw[z,ab]at hd;cases hd
      rw[ak this]at hd
      by_cases y:d=dx
      ·rw[y,ab]at hd;cases hd
      ·rw[ak y]at hd;exact⟨hd,this⟩
     obtain⟨hw,wx⟩:=free f1;obtain⟨hs,sx⟩:=free f2;have hl:(z.hosts.map (·.id)).length<sizeLine:=by
      rw[JQ];have:=W.hl;show _<2^24;omega
     obtain⟨o,hput,hnt,hdn⟩:=N1.hosts.put (Mx.Up.nodup W.ids) ids hl i.toNat (.ref x);rw[←hi]at hput;refine⟨_,rfl,_,rfl,_,_,rfl,N1.f clN T.aZ rfl,_,rfl,_,_,rfl,hput,?_⟩;have fx:=N.free T.dist nx .hd trivial;have fw:=N.free T.dist hw .hd trivial;have fs:=N.free T.dist hs .hd trivial;refine⟨_,rfl,_,rfl,x,_,dx,_,rfl,(by rw[ak fx.symm];exact h1),clH,T.bo,(by show 4<1000;decide),?_⟩;have hc:Ch g (λr=>r=.hd) H (upd (upd H1 (g .hd) o) x (.ins c.Host dx (jk ⟨i.toNat,some j.toNat,[]⟩ dw ds))):=λb u e hb=>by
      rw[ak (ao e nx),ak (λz=>hb .hd rfl z.symm)];exact s1 b u e
     have hpt:bb "port" (.int j) [("number",.int i),("port",.int (-1)),("wants",.ref dw),("serials",.ref ds)]=jk ⟨i.toNat,some j.toNat,[]⟩ dw ds:=by
      have e1:V.int i=V.int (i.toNat:Int):=by rw[←hi]
      have e2:V.int j=V.int (j.toNat:Int):=by rw[←hj]
      rw[e1,e2];rfl
     obtain⟨N2,mv2⟩:=N.FK T.dist W hne (p:=some j.toNat) hc nx hw hs wx.symm sx.symm f3 ab (by rw[ak wx,ak fw.symm];exact h2) (by rw[ak sx,ak fs.symm];exact h3) (hdn _ (by rw[ak fx];exact ab));have hnew:hostOf {z with hosts:=putHost ⟨i.toNat,some j.toNat,[]⟩ z.hosts} i.toNat=some ⟨i.toNat,some j.toNat,[]⟩:=by
      rw[nO W.hs,if_pos rfl]
     have er:=uW hnew;have gx:uV g i.toNat x dw ds (.ho i.toNat)=x:=if_pos rfl;rw[hpt];refine⟨_,rfl,_,rfl,uV g i.toNat x dw ds,{z with hosts:=putHost ⟨i.toNat,some j.toNat,[]⟩ z.hosts},i.toNat,U,n,by rw[gx];rfl,N2,by rw[hnew];rfl,W.putHost ⟨List.Pairwise.nil,Kk _,λy hy=>nomatch hy⟩ (.inr (by omega)),hU,λH3 N3 mv3=>?_⟩;rw[er]at N3 mv3;exact k.ret N3 T.dist (mv2.trans N2 T.dist mv3)
   |some x=>
    rw[hf]at k;dsimp only at k;obtain⟨hx,ei⟩:=bU hf;have hA:=N.host _ _ hx;obtain⟨dx,ex⟩:=hA.obj;refine⟨_,rfl,_,rfl,aQ (λz=>nomatch z) ⟨_,rfl,_,_,rfl,hA.f clH T.bo rfl,_,rfl,rfl,_,rfl,?_⟩⟩;have pe:=Bd j.toNat x;rw[←hj]at pe;rw[pe];cases hq:dD j.toNat x with
    |true=>
     rw[if_pos (by unfold dD at hq;exact eq_of_beq hq)]at k;exact bG ⟨_,rfl,k.cV N T.dist⟩
    |false=>
     rw[if_neg (λe=>by unfold dD at hq;rw[e]at hq;simp at hq)]at k;refine bX ⟨_,rfl,_,rfl,_,_,dx,_,rfl,ex,clH,T.bo,(by show 4<1000;decide),?_⟩;obtain⟨N1,mv⟩:=N.setPort T.dist W hx (dx:=dx) (some j.toNat);have hpt:bb "port" (.int j) (jk x (g (.dw x.id)) (g (.ds x.id)))=jk {x with port:=some j.toNat} (g (.dw x.id)) (g (.ds x.id)):=by
      have e2:V.int j=V.int (j.toNat:Int):=by rw[←hj]
      rw[e2];rfl
     rw[hpt];have eid:i.toNat=x.id:=by omega
     rw[eid]at k;have ho:=W.host hx;exact⟨_,rfl,_,rfl,g,_,x.id,U,n,rfl,N1,(mv.same (.ho x.id) (by show(hostOf z x.id).isSome=true;rw[hx];rfl)).1,W.putHost ⟨ho.EM,ho.len,ho.ok⟩ (.inl ((dt x.id).mp (by rw[hx];rfl))),hU,λH3 N3 mv3=>k.ret N3 T.dist (mv.trans N1 T.dist mv3)⟩
end
noncomputable def jX (s:State) (h g:Int) (b:Bool):Int:=match findHost s h with
 |none=> -1
 |some x=>if Vbcnai.isGroup g=false then -2 else if b=false then -3 else if(hasOf x g.toNat).isNone=true/\64<=x.has.length then -4 else 0
theorem cA {g:Int}(h:Vbcnai.isGroup g=true):g=(g.toNat:Int)/\g.toNat<=268435455:=by
 unfold Vbcnai.isGroup Vbcnai.within at h;rw[JS,JT,JT]at h;have:(2:Int)^28 - 1=268435455:=by decide
 omega
section
variable{P:Program}{w:World}{K:PySem.W.Frag}{mg:Str->Option Value}{base:Heap}{c:Cs}
noncomputable def Cc (K:PySem.W.Frag) (c:Cs):Sp:=λvs H Q _=>∃(g:Role->Addr) (s:State) (i j:Int) (b:Bool) (U:List Nat) (n:Nat),vs=[.ref (g .n),.int i,.int j,.bl b]/\ax K c H g s/\Wf U n s/\Q (.int (jX s i j b)) H
theorem iu (T:Tx K mg c):Fn P w K mg base "telling_refused" 2 ["net","number","group","well_formed"] (Cc K c):=by
 refine T.eV.ok nj (λvs H Q E h=>?_) (λf cdv A outer s H vs Q E hr h=>?_)
 ·obtain⟨g,s,i,j,b,U,n,rfl,_⟩:=h;rfl
 ·obtain⟨g,z,i,j,b,U,n,rfl,N,W,k⟩:=h;have hu:=cX hr;refine⟨_,(af (aF (dB (lP hu (pv 1) (aB (pv 0))))
   (ag (aj (br aS ah)))
   au)
   (af (aF (aX (aR (az (eC T.toTxt) hr (aa (pv 2) ae))))
   (ag (aj (br aS ah)))
   au)
   (af (aF (aX (aR (pv 3)))
   (ag (aj (br aS ah)))
   au)
   (af (aF (aX (aR (bT (cO hu (aB (pv 0)) (pv 1) (λ_ _=>rfl)) (rL T) hr (aa (pv 2) ae))))
   (ag (aj (br aS ah)))
   au)
   (ag (aj ah)))))),?_⟩
  have hF:=N.f T.aA.cl T.aZ rfl;have hd:=N.hosts.get i;rw[gp]at hd;unfold jX at k;refine⟨_,rfl,_,rfl,_,_,rfl,hF,_,_,rfl,hd,_,rfl,?_⟩;cases hf:findHost z i with
  |none=>
   rw[hf]at k;exact bK rfl ⟨_,rfl,k⟩
  |some x=>
   rw[hf]at k hd;dsimp only at k;obtain⟨hx,ei⟩:=bU hf;have hA:=N.host _ _ hx;obtain⟨dx,ex⟩:=hA.obj;refine aQ (λz=>nomatch z) ⟨_,rfl,j,rfl,_,rfl,?_⟩;cases hg:Vbcnai.isGroup j with
   |false=>
    rw[if_pos hg]at k;exact bG ⟨_,rfl,k⟩
   |true=>
    rw[if_neg (by rw[hg];exact λz=>nomatch z)]at k;refine bX ⟨_,rfl,_,rfl,?_⟩;cases b with
    |false=>
     rw[if_pos rfl]at k;exact bG ⟨_,rfl,k⟩
    |true=>
     rw[if_neg (λz=>nomatch z)]at k;obtain⟨ej,_⟩:=cA hg;refine bX ⟨_,rfl,_,_,rfl,hF,_,rfl,_,_,rfl,hd,_,dx,_,rfl,ex,rfl,_,rfl,_,_,_,x,j.toNat,U,(by rw[←ej];rfl),hA,W.host hx,_,rfl,?_⟩;cases h1:(hasOf x j.toNat).isSome with
     |true=>
      rw[if_neg (λz=>by rw[Option.isNone_iff_eq_none]at z;rw[z.1]at h1;cases h1)]at k;exact bX k
     |false=>
      have h2:(hasOf x j.toNat).isNone=true:=by
       cases hh:hasOf x j.toNat with
       |none=>rfl
       |some y=>rw[hh]at h1;cases h1
      by_cases h3:x.has.length<64
      ·rw[if_neg (λz=>by omega)]at k;rw[J1 h3];exact bX k
      ·rw[if_pos ⟨h2,by omega⟩]at k;rw[J9 h3];exact bG ⟨_,rfl,k⟩
noncomputable def Af (K:PySem.W.Frag) (c:Cs) (v:List V) (f:List Int->Vbcnai.Call):List V->Hp->VK->XK->Prop:=λvs H Q _=>∃(g:Role->Addr) (s:State) (a:Addr) (xs:List Int) (U:List Nat) (n:Nat),vs=[.ref (g .n)]++v++[.ref a]/\ax K c H g s/\ba K H a (xs.map V.int)/\(∀x∈Vbcnai.nats xs,x∈U)/\Wf U n s/\Sm U/\n<=399/\c9 K c H g s Q (Vbcnai.doing s (f xs))
noncomputable def Hr (K:PySem.W.Frag) (c:Cs):Sp:=λvs H Q E=>∃i j m:Int,Af K c [.int i,.int j,.int m] (λxs=>.want i j m xs) vs H Q E
theorem yQ (T:Tx K mg c):Fn P w K mg base "call_want" 4 ["net","number","group","mode","sources"] (Hr K c):=by
 refine T.ly.ok oM (λvs H Q E h=>?_) (λf cdv A outer s H vs Q E hr h=>?_)
 ·obtain⟨i,j,m,g,s,a,xs,U,n,rfl,_⟩:=h;rfl
 ·obtain⟨i,j,m,g,z,a,xs,U,n,rfl,N,ha,hxU,W,hU,hn,k⟩:=h;have nd:=oM.nd;have hu:=cX hr;refine⟨_,(af (aT (i:=5) nd rfl (Or.inl rfl) (az (iu T) hr (aa (pv 0) (aa (pv 1) (aa (pv 2) (aa (mV (az (qk T.toTxt) hr (aa (pv 3) ae)) (mU (az (o4 T.toTxt) hr (aa (pv 4) ae)))) ae))))))
   (af (aF (aE qG (pv 5) ah (aD _))
   (ag (aj (aC (aa (pv 5) ae))))
   au)
   (af (aM (az (Ac T) hr (aa (pv 0) (aa (cO hu (aB (pv 0)) (pv 1) (λ_ _=>rfl)) (aa (pv 2) (aa (bS (aa (bz T.vC) (aa (bS (aa (pv 3) (aa (aY bD (by rfl) T.dY dN (aa (pv 4) ae)) ae))) ae))) ae))))))
   (ag (aj (aC (aa ah ae))))))),?_⟩
  have rest:∀b,b=(Vbcnai.within m 0 1&&Vbcnai.isRow xs)->(xR (HR (C6 (E3 (EJ λi j=>V.bl (decide (i<j))) (gB 5) (tC (.int 0)))) (BC (BL (dF (gB 5) kj))) C0)
    (xR (C1 (AR (Ec K c) [] E0 (dF (gB 0) (dF (Ga (tF K (gB 0) "hosts") (gB 1)) (dF (gB 2) (dF (E8 (dF (tC (.int 0)) (dF (E8 (dF (gB 3) (dF (Je (λxs H Q=>∃p ys,xs=[.ref p]/\((ba K H p ys/\∀l,H l=none->Q (.ref l) (upd H l (.tup ys)))\/(eJ K H p ys/\Q (.ref p) H))) (dF (gB 4) kj)) kj))) kj))) kj))))))
     (BC (BL (dF (tC (.int 0)) kj))))) {nx:=λ_ H'=>Q .bQ H',rt:=Q} [some (.ref (g .n)),some (.int i),some (.int j),some (.int m),some (.ref a),some (.int (jX z i j b))] H:=by
   intro b hb;unfold Vbcnai.doing at k;dsimp only at k;generalize hrr:jX z i j b=r;unfold jX at hrr;refine⟨_,rfl,_,_,rfl,rfl,_,rfl,?_⟩;have hd:=N.hosts.get i;rw[gp]at hd;cases hf:findHost z i with
   |none=>
    rw[hf]at k hrr;subst hrr;exact bK rfl ⟨_,rfl,k.cV N T.dist⟩
   |some x=>
    rw[hf]at k hd hrr;dsimp only at k hrr;obtain⟨hx,ei⟩:=bU hf
    by_cases h1:Vbcnai.isGroup j=false
    ·rw[if_pos h1]at k hrr;subst hrr;exact bK rfl ⟨_,rfl,k.cV N T.dist⟩
    ·rw[if_neg h1]at k hrr;rw[←hb]at k
     by_cases h2:b=false
     ·rw[if_pos h2]at k hrr;subst hrr;exact bK rfl ⟨_,rfl,k.cV N T.dist⟩
     ·rw[if_neg h2]at k hrr
      by_cases h3:(hasOf x j.toNat).isNone=true/\64<=x.has.length
      ·rw[if_pos h3]at k hrr;subst hrr;exact bK rfl ⟨_,rfl,k.cV N T.dist⟩
      ·rw[if_neg h3]at k hrr;subst hrr;have h2':(Vbcnai.within m 0 1&&Vbcnai.isRow xs)=true:=by rw[←hb];simpa using h2
       rw[JS]at h2';have rf:=cz h2'.2;obtain⟨ej,gl⟩:=cA (by simpa using h1);refine aQ (λz=>nomatch z) ⟨_,rfl,_,rfl,_,_,rfl,N.f T.aA.cl T.aZ rfl,_,rfl,_,_,rfl,hd,_,rfl,_,rfl,_,rfl,a,_,rfl,.inl ⟨ha,λp1 n1=>⟨(by show 2<=sizeLine;decide),λp2 n2=>⟨(by show 2<=sizeLine;decide),λp3 n3=>?_⟩⟩⟩⟩;have s1:aw H (upd H p1 (.tup (xs.map V.int))):=aw.new n1;have s2:=s1.up (o:=.tup [.int m,.ref p1]) n2;have s3:=s2.up (o:=.tup [.int 0,.ref p2]) n3;have e1:=(aw.new (o:=.tup [.int 0,.ref p2]) n3) _ _ ((aw.new (o:=.tup [.int m,.ref p1]) n2) _ _ (ab (H:=H) (a:=p1) (o:=.tup (xs.map V.int))));have e2:=(aw.new (o:=.tup [.int 0,.ref p2]) n3) _ _ (ab (H:=upd H p1 (.tup (xs.map V.int))) (a:=p2) (o:=.tup [.int m,.ref p1]));have N3:=N.same T.dist s3;have iw:ji U (Vbcnai.wantOf m xs):=gm rf hxU;have ll:(Vbcnai.wantOf m xs).list.length<=64:=by
        have e:(Vbcnai.wantOf m xs).list=Vbcnai.nats xs:=by
         unfold Vbcnai.wantOf;split<;>rfl
        rw[e];exact rf.len
       have hro:(hasOf x j.toNat).isSome=true\/x.has.length<64:=by
        cases hh:hasOf x j.toNat with
        |some y=>exact .inl rfl
        |none=>rw[hh]at h3;exact .inr (by have:¬(64<=x.has.length):=λz=>h3 ⟨rfl,z⟩;omega)
       refine⟨g,z,x,j.toNat,p3,.set (Vbcnai.wantOf m xs),U,n,by rw[←ej];rfl,N3,hx,⟨p2,.inl ab,gT (K:=K) h2'.1 rf e2 e1⟩,W,hU,⟨iw,ll,iw,ll,gl,hro⟩,λH' N' mv=>k.ret N' T.dist ((Mv.of_same s3).trans N3 T.dist mv)⟩
  refine⟨_,rfl,_,rfl,_,rfl,_,rfl,m,rfl,_,rfl,b7 (λh=>?_) (λh=>?_)⟩
  ·have h1:Vbcnai.within m 0 1=true:=h;exact⟨_,rfl,a,xs,rfl,ha,g,z,i,j,_,U,n,rfl,N,W,rest _ (by rw[h1,Bool.true_and])⟩
  ·have h1:Vbcnai.within m 0 1=false:=eq_false_of_ne_true h;exact⟨g,z,i,j,false,U,n,rfl,N,W,rest _ (by rw[h1,Bool.false_and])⟩
noncomputable def eY (q:Nat) (l:List Nat):mL:=if q=1 then .allow l else .block l
noncomputable def lH (q:Nat) (i j:Int) (xs:List Int):Vbcnai.Call:=if q=1 then .more i j xs else .less i j xs
noncomputable def Ei (K:PySem.W.Frag) (c:Cs):Sp:=λvs H Q E=>∃(i j:Int) (q:Nat),(q=1\/q=2)/\Af K c [.int i,.int j,.int q] (λxs=>lH q i j xs) vs H Q E
theorem ua (s:State){q:Nat}(hq:q=1\/q=2) (i j:Int) (xs:List Int):Vbcnai.doing s (lH q i j xs)=match findHost s i with
  |none=>(s,[-1])
  |some x=>
   if Vbcnai.isGroup j=false then(s,[-2])
   else if Vbcnai.isRow xs=false then(s,[-3])
   else if(hasOf x j.toNat).isNone=true/\64<=x.has.length then(s,[-4])
   else if 64<(Vbcnai.does (wanted x j.toNat) (eY q (Vbcnai.nats xs))).list.length then(s,[-5])else(Vbcnai.tells s x j.toNat (Vbcnai.does (wanted x j.toNat) (eY q (Vbcnai.nats xs))) (eY q (Vbcnai.nats xs)),[0]):=by
 rcases hq with rfl|rfl<;>rfl
theorem mO (T:Tx K mg c):Fn P w K mg base "change_want" 4 ["net","number","group","kind","sources"] (Ei K c):=by
 refine T.iN.ok kT (λvs H Q E h=>?_) (λf cdv A outer s H vs Q E hr h=>?_)
 ·obtain⟨i,j,q,hq,g,s,a,xs,U,n,rfl,_⟩:=h;rfl
 ·obtain⟨i,j,q,hq,g,z,a,xs,U,n,rfl,N,ha,hxU,W,hU,hn,k⟩:=h;have nd:=kT.nd;have hu:=cX hr;refine⟨_,(af (aT (i:=5) nd rfl (Or.inl rfl) (az (iu T) hr (aa (pv 0) (aa (pv 1) (aa (pv 2) (aa (az (o4 T.toTxt) hr (aa (pv 4) ae)) ae))))))
   (af (aF (aE qG (pv 5) ah (aD _))
   (ag (aj (aC (aa (pv 5) ae))))
   au)
   (af (aT (i:=6) nd rfl (Or.inl rfl) (cO hu (aB (pv 0)) (pv 1) (λ_ _=>rfl)))
   (af (aT (i:=7) nd rfl (Or.inl rfl) (bS (aa (pv 3) (aa (aY bD (by rfl) T.dY dN (aa (pv 4) ae)) ae))))
   (af (aF (aE xV (aO bu (by rfl) T.dJ cT (aa (az (yB T.toTxt) hr (aa (az (ik T.toTxt) hr (aa (pv 7) (aa (bT (pv 6) (gY T) hr (aa (pv 2) ae)) ae))) ae)) ae)) (bz T.fC) (aD _))
   (ag (aj (aC (aa (br aS ah) ae))))
   au)
   (af (aM (az (Ac T) hr (aa (pv 0) (aa (pv 6) (aa (pv 2) (aa (pv 7) ae))))))
   (ag (aj (aC (aa ah ae)))))))))),?_⟩
  refine⟨_,rfl,_,rfl,_,rfl,_,rfl,a,xs,rfl,ha,g,z,i,j,_,U,n,rfl,N,W,?_⟩;have k:c9 K c H g z Q (Vbcnai.doing z (lH q i j xs)):=k;rw[ua z hq]at k;generalize hrr:jX z i j (Vbcnai.isRow xs)=r;unfold jX at hrr;refine⟨_,rfl,_,_,rfl,rfl,_,rfl,?_⟩;have hd:=N.hosts.get i;rw[gp]at hd;cases hf:findHost z i with
  |none=>
   rw[hf]at k hrr;subst hrr;exact bK rfl ⟨_,rfl,k.cV N T.dist⟩
  |some x=>
   rw[hf]at k hd hrr;dsimp only at k hrr;obtain⟨hx,ei⟩:=bU hf
   by_cases h1:Vbcnai.isGroup j=false
   ·rw[if_pos h1]at k hrr;subst hrr;exact bK rfl ⟨_,rfl,k.cV N T.dist⟩
   ·rw[if_neg h1]at k hrr
    by_cases h2:Vbcnai.isRow xs=false
    ·rw[if_pos h2]at k hrr;subst hrr;exact bK rfl ⟨_,rfl,k.cV N T.dist⟩
    ·rw[if_neg h2]at k hrr
     by_cases h3:(hasOf x j.toNat).isNone=true/\64<=x.has.length
     ·rw[if_pos h3]at k hrr;subst hrr;exact bK rfl ⟨_,rfl,k.cV N T.dist⟩
     ·rw[if_neg h3]at k hrr;subst hrr;have h2':Vbcnai.isRow xs=true:=by simpa using h2
      have rf:=cz h2';obtain⟨ej,gl⟩:=cA (by simpa using h1);refine aQ (λz=>nomatch z) ⟨_,rfl,_,_,rfl,N.f T.aA.cl T.aZ rfl,_,rfl,_,_,rfl,hd,_,rfl,_,rfl,a,_,rfl,.inl ⟨ha,λp1 n1=>⟨(by show 2<=sizeLine;decide),λp2 n2=>?_⟩⟩⟩;have s1:aw H (upd H p1 (.tup (xs.map V.int))):=aw.new n1;have s2:=s1.up (o:=.tup [.int q,.ref p1]) n2;have e1:=(aw.new (o:=.tup [.int q,.ref p1]) n2) _ _ (ab (H:=H) (a:=p1) (o:=.tup (xs.map V.int)));have e2:(upd (upd H p1 (.tup (xs.map V.int))) p2 (.tup [.int q,.ref p1])) p2=some (.tup [.int q,.ref p1]):=ab;have N2:=N.same T.dist s2;generalize (upd (upd H p1 (.tup (xs.map V.int))) p2 (.tup [.int q,.ref p1]))=H2 at s2 e1 e2 N2;have il:In U (Vbcnai.nats xs):=⟨rf.up,hxU⟩;have hl:Tn K H2 p1 (Vbcnai.nats xs):=.inl (by rw[e1];unfold iv;rw[←rf.eq]);have hse:f7 K H2 p2 (eY q (Vbcnai.nats xs)):=by
       rcases hq with rfl|rfl
       ·exact⟨p1,.inl e2,hl⟩
       ·exact⟨p1,.inl e2,hl⟩
      have ie:Cy U (eY q (Vbcnai.nats xs)):=by
       rcases hq with rfl|rfl
       ·exact il
       ·exact il
      have le:gc (eY q (Vbcnai.nats xs))<=64:=by
       rcases hq with rfl|rfl
       ·exact rf.len
       ·exact rf.len
      have hA:=N2.host _ _ hx;obtain⟨dx,ex⟩:=hA.obj;have ho:=W.host hx;generalize eY q (Vbcnai.nats xs)=e at k hse ie le;refine⟨_,rfl,_,rfl,_,dx,_,rfl,ex,rfl,_,rfl,_,_,_,x,j.toNat,(by rw[←ej];rfl),hA,λt hw=>?_⟩;refine⟨p2,t,e,wanted x j.toNat,U,rfl,hse,hw,ie,lU ho _,hU,λH3 p3 s3 hw3=>?_⟩;refine⟨p3,_,rfl,hw3,λl hl3=>⟨l,_,rfl,.inr (Tp.sq hl3),_,_,rfl,rfl,_,rfl,b7 (λq2=>?_) (λq2=>?_)⟩⟩
      ·have q3:=J0 q2;rw[cF]at q3;rw[if_pos (by omega)]at k;have N3:=N2.same T.dist s3;exact⟨_,rfl,k.ret N3 T.dist (Mv.of_same (s2.trans s3))⟩
      ·have q3:¬((64:Int)<((iv (Vbcnai.does (wanted x j.toNat) e).list).length:Int)):=λz=>q2 (J1 z);rw[cF]at q3;rw[if_neg (by omega)]at k;have N3:=N2.same T.dist s3;have hro:(hasOf x j.toNat).isSome=true\/x.has.length<64:=by
        cases hh:hasOf x j.toNat with
        |some y=>exact .inl rfl
        |none=>rw[hh]at h3;exact .inr (by have:¬(64<=x.has.length):=λz=>h3 ⟨rfl,z⟩;omega)
       exact⟨_,rfl,_,rfl,_,rfl,_,rfl,g,z,x,j.toNat,p2,e,U,n,(by rw[←ej];rfl),N3,hx,hse.keep s3.tk,W,hU,⟨sg (lU ho _) ie,by omega,ie,le,gl,hro⟩,λH' N' mv=>k.ret N' T.dist ((Mv.of_same (s2.trans s3)).trans N3 T.dist mv)⟩
noncomputable def Ej (K:PySem.W.Frag) (c:Cs) (q:Nat):Sp:=λvs H Q E=>∃i j:Int,Af K c [.int i,.int j] (λxs=>lH q i j xs) vs H Q E
theorem yR (T:Tx K mg c):Fn P w K mg base "call_more" 5 ["net","number","group","sources"] (Ej K c 1):=by
 refine T.lz.ok wM (λvs H Q E h=>?_) (λf cdv A outer s H vs Q E hr h=>?_)
 ·obtain⟨i,j,g,s,a,xs,U,n,rfl,_⟩:=h;rfl
 ·obtain⟨i,j,g,z,a,xs,U,n,rfl,h⟩:=h;refine⟨_,(ag (aj (az (mO T) hr (aa (pv 0) (aa (pv 1) (aa (pv 2) (aa (bz T.oZ) (aa (pv 3) ae)))))))),?_⟩;exact⟨_,rfl,_,rfl,_,rfl,_,rfl,i,j,1,.inl rfl,g,z,a,xs,U,n,rfl,h⟩
theorem yS (T:Tx K mg c):Fn P w K mg base "call_less" 5 ["net","number","group","sources"] (Ej K c 2):=by
 refine T.lA.ok wN (λvs H Q E h=>?_) (λf cdv A outer s H vs Q E hr h=>?_)
 ·obtain⟨i,j,g,s,a,xs,U,n,rfl,_⟩:=h;rfl
 ·obtain⟨i,j,g,z,a,xs,U,n,rfl,h⟩:=h;refine⟨_,(ag (aj (az (mO T) hr (aa (pv 0) (aa (pv 1) (aa (pv 2) (aa (bz T.rZ) (aa (pv 3) ae)))))))),?_⟩;exact⟨_,rfl,_,rfl,_,rfl,_,rfl,i,j,2,.inr rfl,g,z,a,xs,U,n,rfl,h⟩
end
end Gs
namespace Gs
open PySem PySem.Spec PyProof.Rows L2
open Mx (Up)
open Vbcnai (hostOf hasOf entryOf)
section
variable{κ α:Type} [DecidableEq κ] [DecidableEq α]
noncomputable def gZ (bad:α->Bool) (f:α->Option V) (B:List α):α->Option V:=λa=>if a∈B/\bad a=true then none else f a
variable{emb:α->κ}{kvs:List (κ×V)}{f:α->Option V}{bad:α->Bool}{A:List α}{i:Nat}{a:α}
theorem nR (D:Dk emb kvs (gZ bad f (A.take i))) (h:A[i]? =some a) (hb:bad a=true):Dk emb (dH kvs (emb a)) (gZ bad f (A.take (i+1))):=by
 refine(D.drop a).congr λb=>?_;unfold gZ
 by_cases e:b=a
 ·rw[if_pos e,if_pos ⟨(bI h).mpr (.inr e),by rw[e];exact hb⟩]
 ·rw[if_neg e]
  by_cases q:b∈A.take i/\bad b=true
  ·rw[if_pos q,if_pos ⟨(bI h).mpr (.inl q.1),q.2⟩]
  ·rw[if_neg q,if_neg];rintro⟨z1,z2⟩;rcases(bI h).mp z1 with z|z
   ·exact q ⟨z,z2⟩
   ·exact e z
theorem nS (D:Dk emb kvs (gZ bad f (A.take i))) (h:A[i]? =some a) (hb:bad a=false):Dk emb kvs (gZ bad f (A.take (i+1))):=by
 refine D.congr λb=>?_;unfold gZ
 by_cases q:b∈A.take i/\bad b=true
 ·rw[if_pos q,if_pos ⟨(bI h).mpr (.inl q.1),q.2⟩]
 ·rw[if_neg q,if_neg];rintro⟨z1,z2⟩;rcases(bI h).mp z1 with z|z
  ·exact q ⟨z,z2⟩
  ·rw[z,hb]at z2;cases z2
theorem FL (hn:A.Nodup) (h:A[i]? =some a):a∉A.take i:=λm=>by
 obtain⟨hl,e⟩:=J2.mp h;obtain⟨j,hj,ej⟩:=List.mem_iff_getElem.mp m;rw[Kz]at hj;rw[List.getElem_take]at ej;have:=(List.getElem_inj hn).mp (ej.trans e.symm);omega
theorem qv (hn:A.Nodup) (h:A[i]? =some a):gZ bad f (A.take i) a=f a:=if_neg λz=>FL hn h z.1
theorem qw (hA:∀a,a∈A↔(f a).isSome=true) (a:α):gZ bad f A a=if bad a=true then none else f a:=by
 unfold gZ
 by_cases hb:bad a=true
 ·rw[if_pos hb]
  by_cases q:a∈A
  ·rw[if_pos ⟨q,hb⟩]
  ·rw[if_neg λz=>q z.1];cases e:f a with
   |none=>rfl
   |some v=>exact absurd ((hA a).mpr (by rw[e];rfl)) q
 ·rw[if_neg λz=>hb z.2,if_neg hb]
end
section
variable{P:Program}{w:World}{K:PySem.W.Frag}{mg:Str->Option Value}{base:Heap}{c:Cs}
noncomputable def tI (o:Option Nat):Option V:=o.map λt=>.int (t:Nat)
noncomputable def later (now:Nat) (o:Option Nat):Option Nat:=match o with
 |some t=>if now<t then some t else none
 |none=>none
noncomputable def yT (now:Nat) (o:Option Nat):Bool:=match o with
 |some t=>decide (t<=now)
 |none=>false
theorem yU (now:Nat) (o:Option Nat):(if yT now o=true then none else tI o)=tI (later now o):=by
 cases o with
 |none=>rfl
 |some t=>
  unfold yT later
  by_cases h:t<=now
  ·rw[if_pos (J1 h)];dsimp only;rw[if_neg (by omega)];rfl
  ·rw[if_neg (λz=>h (J0 z))];dsimp only;rw[if_pos (by omega)]
noncomputable def Hs (K:PySem.W.Frag):Sp:=λvs H Q _=>∃(d:Addr) (now:Nat),vs=[.ref d,.int now]/\
 ((∃o:Nat->Option Nat,DN H d (λn=>tI (o n))/\∀H',fG d H H'->DN H' d (λn=>tI (later now (o n)))->Q .bQ H')\/
  ∃o:Nat×Nat->Option Nat,DT H d (λn=>tI (o n))/\∀H',fG d H H'->DT H' d (λn=>tI (later now (o n)))->Q .bQ H')
theorem rn (T:Tx K mg c):Fn P w K mg base "drop_past" 1 ["times","now"] (Hs K):=by
 refine T.lj.ok oC (λvs H Q E h=>?_) (λf cdv A outer s H vs Q E hr h=>?_)
 ·obtain⟨d,now,rfl,_⟩:=h;rfl
 ·obtain⟨d,now,rfl,h⟩:=h;have nd:=oC.nd;have hu:=cX hr;refine⟨_,(ag (fQ PassesOwn.never rfl (du (aY (om rfl) (by rfl) T.tL wW (aa (pv 0) ae))) (bH (i:=2) nd rfl (Or.inl rfl))
   (ag (aF (aE cB (cO hu (pv 0) (pv 2) (λ_ _=>rfl)) (pv 1) (aD _))
   (ag (aM (yn hu (pv 0) (pv 2) ⟨rfl,rfl,rfl,rfl⟩)))
   au)))),?_⟩
  rcases h with⟨o,⟨kvs,e1,D⟩,k⟩|⟨o,⟨kvs,e1,D⟩,k⟩
  ·obtain⟨A,eA,nA⟩:=D.keys;have eks:(kvs.map λkv=>kV kv.1)=A.map λ(n:Nat)=>V.int (n:Int):=by
    have:(kvs.map λkv=>kV kv.1)=(kvs.map (·.1)).map kV:=by rw[List.map_map];rfl
    rw[this,eA,List.map_map];rfl
   refine⟨_,rfl,d,rfl,.inl ⟨kvs,e1,λl nl=>?_⟩⟩;rw[eks];have dl:d≠l:=ao e1 nl;refine⟨l,rfl,⟨_,ba.of ab⟩,dE (K:=K) (a:=l) (xs:=A.map λ(n:Nat)=>V.int (n:Int)) (λi σ H'=>∃v:Option V,σ=[some (.ref d),some (.int now),v]/\fG d (upd H l (.lst (A.map λ(n:Nat)=>V.int (n:Int)))) H'/\∃kvs',H' d=some (.dK kvs')/\Dk eN kvs' (gZ (λn=>yT now (o n)) (λn=>tI (o n)) (A.take i)))
    ⟨none,rfl,fG.refl,kvs,by rw[ak dl];exact e1,D.congr λn=>by unfold gZ;rw[if_neg (λz=>by rw[List.take_zero]at z;exact nomatch z.1)]⟩ (λi σ H' _ ⟨_,_,b,_⟩=>ba.of (b _ _ ab dl.symm)) ?_ ?_⟩
   ·rintro i y σ H' hi ⟨v,rfl,b,kvs',e',D'⟩;obtain⟨n,hn,rfl⟩:∃n,A[i]? =some n/\y=V.int (n:Nat):=by
     rw[J5]at hi;cases e:A[i]? with
     |none=>rw[e]at hi;cases hi
     |some x=>rw[e]at hi;exact⟨x,rfl,(JU hi).symm⟩
    obtain⟨t,ht⟩:∃t,o n=some t:=by
     have:=(D.mem eA n).mp (Kd hn);cases q:o n with
     |none=>rw[q]at this;cases this
     |some t=>exact⟨t,rfl⟩
    have hv:cw kvs' (eN n)=some (.int (t:Int)):=by
     rw[D'.val,qv nA hn,ht];rfl
    have hg:fb H' d (.int n) (some (.int (t:Int))):=by
     rw[←hv];exact fb.k (k:=eN n) e'
    refine⟨_,rfl,_,rfl,d,_,rfl,hg,_,rfl,_,_,rfl,rfl,_,rfl,b7 (λq=>?_) (λq=>?_)⟩
    ·have q1:=J0 q;refine⟨_,rfl,d,rfl,.inl ⟨_,.inl e'⟩,_,rfl,.inl ⟨kvs',eN n,_,e',rfl,hv,?_⟩⟩;exact⟨_,rfl,b.upd,_,ab,nR D' hn (by show yT now (o n)=true;rw[ht];exact J1 (by omega))⟩
    ·have q1:¬((t:Int)<=(now:Int)):=λz=>q (J1 z);exact⟨_,rfl,b,kvs',e',nS D' hn (by show yT now (o n)=false;rw[ht];exact J9 (by omega))⟩
   ·rintro σ H' ⟨v,rfl,b,kvs',e',D'⟩;rw[JQ,Kt]at D';refine k H' (λq u e n=>b q u (aw.new nl _ _ e) n) ⟨kvs',e',D'.congr λn=>?_⟩;rw[qw (λa=>D.mem eA a),yU]
  ·obtain⟨A,eA,nA⟩:=D.keys;refine⟨_,rfl,d,rfl,.inr ⟨kvs,e1,λl as nl hlen hat=>?_⟩⟩;have dl:d≠l:=ao e1 nl;have lenA:as.length=A.length:=by
    have:=congrArg List.length eA;rw[JQ,JQ]at this;rw[hlen,this]
   have key:∀i a,as[i]? =some a->∃n,A[i]? =some n/\H a=some (.tup ((eT n).map kV)):=λi a ha=>by
    obtain⟨kv,h1,h2⟩:=hat i a ha;have:(kvs.map (·.1))[i]? =some kv.1:=by rw[J5,h1];rfl
    rw[eA,J5]at this;cases e:A[i]? with
    |none=>rw[e]at this;cases this
    |some n=>
     rw[e]at this;refine⟨n,by first|exact e|rfl,?_⟩;rw[h2,←JU this]
   refine⟨l,rfl,⟨_,ba.of ab⟩,dE (K:=K) (a:=l) (xs:=as.map V.ref) (λi σ H'=>∃v:Option V,σ=[some (.ref d),some (.int now),v]/\fG d (upd H l (.lst (as.map V.ref))) H'/\∃kvs',H' d=some (.dT kvs')/\Dk eT kvs' (gZ (λn=>yT now (o n)) (λn=>tI (o n)) (A.take i)))
    ⟨none,rfl,fG.refl,kvs,by rw[ak dl];exact e1,D.congr λn=>by unfold gZ;rw[if_neg (λz=>by rw[List.take_zero]at z;exact nomatch z.1)]⟩ (λi σ H' _ ⟨_,_,b,_⟩=>ba.of (b _ _ ab dl.symm)) ?_ ?_⟩
   ·rintro i y σ H' hi ⟨v,rfl,b,kvs',e',D'⟩;obtain⟨a,ha,rfl⟩:=tU hi;obtain⟨n,hn,hka⟩:=key i a ha;have hk:H' a=some (.tup ((eT n).map kV)):=b _ _ (aw.new nl _ _ hka) (ve hka e1 λz=>nomatch z);obtain⟨t,ht⟩:∃t,o n=some t:=by
     have:=(D.mem eA n).mp (Kd hn);cases q:o n with
     |none=>rw[q]at this;cases this
     |some t=>exact⟨t,rfl⟩
    have hv:cw kvs' (eT n)=some (.int (t:Int)):=by
     rw[D'.val,qv nA hn,ht];rfl
    have hg:fb H' d (.ref a) (some (.int (t:Int))):=by
     rw[←hv];exact fb.t e' hk
    refine⟨_,rfl,_,rfl,d,_,rfl,hg,_,rfl,_,_,rfl,rfl,_,rfl,b7 (λq=>?_) (λq=>?_)⟩
    ·have q1:=J0 q;refine⟨_,rfl,d,rfl,.inr ⟨_,.inl e'⟩,_,rfl,.inr ⟨kvs',eT n,_,a,e',rfl,hk,hv,?_⟩⟩;exact⟨_,rfl,b.upd,_,ab,nR D' hn (by show yT now (o n)=true;rw[ht];exact J1 (by omega))⟩
    ·have q1:¬((t:Int)<=(now:Int)):=λz=>q (J1 z);exact⟨_,rfl,b,kvs',e',nS D' hn (by show yT now (o n)=false;rw[ht];exact J9 (by omega))⟩
   ·rintro σ H' ⟨v,rfl,b,kvs',e',D'⟩;rw[JQ,lenA,Kt]at D';refine k H' (λq u e n=>b q u (aw.new nl _ _ e) n) ⟨kvs',e',D'.congr λn=>?_⟩;rw[qw (λa=>D.mem eA a),yU]
theorem ax.ub {H H':Hp}{g:Role->Addr}{s s':State}{R:Role->Prop}(N:ax K c H g s) (D:gd c) (h:Ch g R H H') (hR:∀r,R r->r=.en\/r=.pl\/r=.fx\/r=.he\/r=.sw) (hs:s'.hosts=s.hosts) (hb:s'.bag=s.bag) (hn:qt g s'=qt g s)
  (p1:∃dx,H' (g .sw)=some (.ins c.Switch dx (pI g s'))) (p2:∃f,DT H' (g .en) f/\∀p:Nat×Nat,kg (bW K c H') (f p) (entryOf s' p.1 p.2)) (p3:DT H' (g .pl) λp=>(bx s' p).map λx=>.int x.until_)
  (p4:DN H' (g .fx) λp=>if p∈s'.fixed then some (.bl true)else none) (p5:DN H' (g .he) λp=>(cU s' p).map λx=>.int x.2):ax K c H' g s'/\Mv g s H g s' H':=by
 have hU:∀r,R r->Used s r:=λr hr=>by
  rcases hR r hr with rfl|rfl|rfl|rfl|rfl<;>exact trivial
 have no:∀{r:Role},(r≠.en/\r≠.pl/\r≠.fx/\r≠.he/\r≠.sw)->¬R r:=λ{r} hh z=>by
  rcases hR r z with q|q|q|q|q
  ·exact hh.1 q
  ·exact hh.2.1 q
  ·exact hh.2.2.1 q
  ·exact hh.2.2.2.1 q
  ·exact hh.2.2.2.2 q
 have e1:∀n,hostOf s' n=hostOf s n:=λn=>by unfold Vbcnai.hostOf;rw[hs]
 refine⟨⟨let ⟨dx,e⟩:=N.nM;⟨dx,by rw[hn];exact N.at_ h hU (r:=.n) trivial (no ⟨λz=>(nomatch z),λz=>(nomatch z),λz=>(nomatch z),λz=>(nomatch z),λz=>(nomatch z)⟩) e⟩,p1,?_,?_,?_,p2,p3,p4,p5,λr r' u u'=>N.inj r r' ((cY hs r).mp u) ((cY hs r').mp u')⟩,Mv.lF h hU λr=>cY hs.symm r⟩
 ·rw[hb];exact N.vI D h hU (no ⟨λz=>(nomatch z),λz=>(nomatch z),λz=>(nomatch z),λz=>(nomatch z),λz=>(nomatch z)⟩)
 ·exact(N.hosts.keep λo e=>N.at_ h hU (r:=.hd) trivial (no ⟨λz=>(nomatch z),λz=>(nomatch z),λz=>(nomatch z),λz=>(nomatch z),λz=>(nomatch z)⟩) e).congr λn=>by rw[e1]
 ·intro n x hx;rw[e1]at hx;exact N.nN D h hU hx (no ⟨λz=>(nomatch z),λz=>(nomatch z),λz=>(nomatch z),λz=>(nomatch z),λz=>(nomatch z)⟩) (no ⟨λz=>(nomatch z),λz=>(nomatch z),λz=>(nomatch z),λz=>(nomatch z),λz=>(nomatch z)⟩) (no ⟨λz=>(nomatch z),λz=>(nomatch z),λz=>(nomatch z),λz=>(nomatch z),λz=>(nomatch z)⟩)
end
end Gs
namespace Gs
open PySem PySem.Spec PyProof.Rows L2
open Mx (Up)
open Vbcnai (hostOf hasOf entryOf expire)
theorem iz {α κ:Type} [DecidableEq κ] {key:α->κ}{p:α->Bool}{k:κ}:∀{l:List α},(l.map key).Nodup->(l.filter p).find? (λz=>decide (key z=k))=(l.find? λz=>decide (key z=k)).filter p
 |[],_=>rfl
 |a::l,h=>by
  obtain⟨h1,h2⟩:=Kx.mp h;have ih:=iz (p:=p) (k:=k) h2
  by_cases e:key a=k
  ·have nf:l.find? (λz=>decide (key z=k))=none:=Mx.find_none λz hz y=>h1 (Kr.mpr ⟨z,hz,y.trans e.symm⟩);rw[List.find?_cons,J1 e];show _=(some a).filter p;cases hp:p a with
   |true=>
    rw[List.filter_cons_of_pos hp,List.find?_cons,J1 e];simp[Option.filter,hp]
   |false=>
    rw[List.filter_cons_of_neg (by rw[hp];exact λz=>nomatch z),ih,nf];simp[Option.filter,hp]
  ·rw[List.find?_cons,J9 e];cases hp:p a with
   |true=>
    rw[List.filter_cons_of_pos hp,List.find?_cons,J9 e];exact ih
   |false=>
    rw[List.filter_cons_of_neg (by rw[hp];exact λz=>nomatch z)];exact ih
structure Keyed (s:State):Prop where
 es:(s.entries.map Mx.fc).Nodup
 pn:(s.plains.map Mx.df).Nodup
 hu:(s.heard.map (·.1)).Nodup
section
variable{P:Program}{w:World}{K:PySem.W.Frag}{mg:Str->Option Value}{base:Heap}{c:Cs}
noncomputable def Cd (K:PySem.W.Frag) (c:Cs):Sp:=λvs H Q _=>∃(g:Role->Addr) (s:State),vs=[.ref (g .sw),.int s.now]/\ax K c H g s/\Keyed s/\∀H',ax K c H' g (expire s)->Mv g s H g (expire s) H'->Q .bQ H'
theorem jY (T:Tx K mg c):Me P w K mg base c.Switch "drop_outdated" 2 ["self","now"] (Cd K c):=by
 refine T.cR.ok eF (λvs H Q E h=>?_) (λf cdv A outer s H vs Q E hr h=>?_)
 ·obtain⟨g,s,rfl,_⟩:=h;rfl
 ·obtain⟨g,z,rfl,N,W,k⟩:=h;have nd:=eF.nd;have hu:=cX hr;refine⟨_,(af (fQ PassesOwn.never rfl (du (aY (om rfl) (by rfl) T.tL wW (aa (aB (pv 0)) ae))) (bH (i:=2) nd rfl (Or.inl rfl))
   (ag (aF (aE cB (aB (cO hu (aB (pv 0)) (pv 2) (λ_ _=>rfl))) (pv 1) (aD _))
   (ag (aM (yn hu (aB (pv 0)) (pv 2) ⟨rfl,rfl,rfl,rfl⟩)))
   au)))
   (af (aM (az (rn T) hr (aa (aB (pv 0)) (aa (pv 1) ae))))
   (ag (aM (az (rn T) hr (aa (aB (pv 0)) (aa (pv 1) ae))))))),?_⟩
  have cl:=T.aL.cl;obtain⟨ds,es⟩:=N.pJ;have fd:∀{H':Hp}{f:Str}{v:V},H' (g .sw)=some (.ins c.Switch ds (pI g z))->ay K c.Switch f->(pI g z).lookup f=some v->Fd K H' (g .sw) f v:=λe na l=>⟨_,ds,_,e,cl,na,l⟩;have apart:∀{r r':Role},Used z r->Used z r'->r≠r'->g r≠g r':=λu u' n e=>n (N.inj _ _ u u' e);obtain⟨fe,⟨kvs,e1,D⟩,d2⟩:=N.ent;obtain⟨A,eA,nA⟩:=D.keys;refine⟨_,rfl,_,_,rfl,fd es T.aJ rfl,g .en,rfl,.inr ⟨kvs,e1,λl as nl hlen hat=>?_⟩⟩;have lenA:as.length=A.length:=by
   have:=congrArg List.length eA;rw[JQ,JQ]at this;rw[hlen,this]
  have key:∀i a,as[i]? =some a->∃n,A[i]? =some n/\H a=some (.tup ((eT n).map kV)):=λi a ha=>by
   obtain⟨kv,h1,h2⟩:=hat i a ha;have:(kvs.map (·.1))[i]? =some kv.1:=by rw[J5,h1];rfl
   rw[eA,J5]at this;cases e:A[i]? with
   |none=>rw[e]at this;cases this
   |some n=>
    rw[e]at this;refine⟨n,by first|exact e|rfl,?_⟩;rw[h2,←JU this]
  have s1:aw H (upd H l (.lst (as.map V.ref))):=aw.new nl;have fl:=N.free T.dist nl;have N1:=N.same T.dist s1;have hl1:(upd H l (.lst (as.map V.ref))) l=some (.lst (as.map V.ref)):=ab;generalize (upd H l (.lst (as.map V.ref)))=H1 at s1 N1 hl1
  let bad:Nat×Nat->Bool:=λp=>match entryOf z p.1 p.2 with
   |some e=>decide (e.until_<=z.now)
   |none=>false
  have swen:g .sw≠g .en:=apart (r:=.sw) (r':=.en) trivial trivial (λz=>nomatch z);refine⟨l,rfl,⟨_,ba.of hl1⟩,dE (K:=K) (a:=l) (xs:=as.map V.ref) (λi σ H'=>∃v:Option V,σ=[some (.ref (g .sw)),some (.int z.now),v]/\fG (g .en) H1 H'/\∃kvs',H' (g .en)=some (.dT kvs')/\Dk eT kvs' (gZ bad fe (A.take i)))
   ⟨none,rfl,fG.refl,kvs,s1 _ _ e1,D.congr λn=>by unfold gZ;rw[if_neg (λz=>by rw[List.take_zero]at z;exact nomatch z.1)]⟩ (λi σ H' _ ⟨_,_,b,_⟩=>ba.of (b _ _ hl1 (fl .en trivial).symm)) ?_ ?_⟩
  ·rintro i y σ H' hi ⟨v,rfl,b,kvs',e',D'⟩;obtain⟨a,ha,rfl⟩:=tU hi;obtain⟨n,hn,hka⟩:=key i a ha;have hk:H' a=some (.tup ((eT n).map kV)):=b _ _ (s1 _ _ hka) (ve hka e1 λz=>nomatch z);have es':H' (g .sw)=some (.ins c.Switch ds (pI g z)):=b _ _ (s1 _ _ es) swen;have hsome:=(D.mem eA n).mp (Kd hn);have q2:=d2 n;obtain⟨en,hen⟩:∃en,entryOf z n.1 n.2=some en:=by
    rw[bL q2]at hsome;exact Kw.mp hsome
   rw[hen]at q2;obtain⟨ea,hfe,tX⟩:∃ea,fe n=some (.ref ea)/\bW K c H ea en:=by
    cases hf:fe n with
    |none=>rw[hf]at q2;exact q2.elim
    |some v=>
     rw[hf]at q2;obtain⟨ea,rfl,h⟩:=q2;exact⟨ea,rfl,h⟩
   have kp:Kp c H H':=λq u e im=>b _ _ (s1 _ _ e) λzz=>by rw[zz,e1]at e;cases e;exact im
   have hea':=tX.keep kp;have hv:cw kvs' (eT n)=some (.ref ea):=by
    rw[D'.val,qv nA hn,hfe]
   have hg:fb H' (g .en) (.ref a) (some (.ref ea)):=by
    rw[←hv];exact fb.t e' hk
   refine⟨_,rfl,_,_,rfl,fd es' T.aJ rfl,_,rfl,_,_,rfl,hg,_,_,rfl,hea'.f T T.dM (λ_=>rfl),_,rfl,_,_,rfl,rfl,_,rfl,b7 (λq=>?_) (λq=>?_)⟩
   ·have q1:=J0 q;refine⟨_,rfl,_,_,rfl,fd es' T.aJ rfl,g .en,rfl,.inr ⟨_,.inl e'⟩,_,rfl,.inr ⟨kvs',eT n,_,a,e',rfl,hk,hv,?_⟩⟩;exact⟨_,rfl,b.upd,_,ab,nR D' hn (by show bad n=true;simp only[bad];rw[hen];exact J1 (by omega))⟩
   ·have q1:¬((en.until_:Int)<=(z.now:Int)):=λz=>q (J1 z);exact⟨_,rfl,b,kvs',e',nS D' hn (by show bad n=false;simp only[bad];rw[hen];exact J9 (by omega))⟩
  ·rintro σ H2 ⟨v,rfl,b,kvs',e',D'⟩;rw[JQ,lenA,Kt]at D';have es2:H2 (g .sw)=some (.ins c.Switch ds (pI g z)):=b _ _ (s1 _ _ es) swen;have yV:g .pl≠g .en:=apart (r:=.pl) (r':=.en) trivial trivial (λz=>nomatch z);have heen:g .he≠g .en:=apart (r:=.he) (r':=.en) trivial trivial (λz=>nomatch z);have fxen:g .fx≠g .en:=apart (r:=.fx) (r':=.en) trivial trivial (λz=>nomatch z);have hepl:g .he≠g .pl:=apart (r:=.he) (r':=.pl) trivial trivial (λz=>nomatch z);have enpl:=yV.symm;have swpl:g .sw≠g .pl:=apart (r:=.sw) (r':=.pl) trivial trivial (λz=>nomatch z);have swhe:g .sw≠g .he:=apart (r:=.sw) (r':=.he) trivial trivial (λz=>nomatch z);have fxpl:g .fx≠g .pl:=apart (r:=.fx) (r':=.pl) trivial trivial (λz=>nomatch z);have fxhe:g .fx≠g .he:=apart (r:=.fx) (r':=.he) trivial trivial (λz=>nomatch z);have p2:DT H2 (g .pl) λp=>tI ((bx z p).map (·.until_)):=(N.rk.keep λo e=>b _ _ (s1 _ _ e) yV).congr λp=>by unfold tI;rw[Option.map_map];rfl
   refine⟨_,rfl,_,_,rfl,fd es2 T.aV rfl,_,rfl,g .pl,z.now,rfl,.inr ⟨_,p2,λH3 b3 p3=>?_⟩⟩;have es3:H3 (g .sw)=some (.ins c.Switch ds (pI g z)):=b3 _ _ es2 swpl;have h3:DN H3 (g .he) λp=>tI ((cU z p).map (·.2)):=(N.tX.keep λo e=>b3 _ _ (b _ _ (s1 _ _ e) heen) hepl).congr λp=>by unfold tI;rw[Option.map_map];rfl
   refine⟨_,rfl,_,_,rfl,fd es3 T.cg rfl,_,rfl,g .he,z.now,rfl,.inl ⟨_,h3,λH4 b4 p4=>?_⟩⟩;have hc:Ch g (λr=>r=.en\/r=.pl\/r=.he) H H4:=λq o e hq=>b4 q o (b3 q o (b q o (s1 q o e) λzz=>hq .en (.inl rfl) zz.symm) λzz=>hq .pl (.inr (.inl rfl)) zz.symm) λzz=>hq .he (.inr (.inr rfl)) zz.symm;have hRs:∀r,(λ(r:Role)=>r=.en\/r=.pl\/r=.he) r->r=.en\/r=.pl\/r=.fx\/r=.he\/r=.sw:=λr q=>by
    rcases q with q|q|q
    ·exact .inl q
    ·exact .inr (.inl q)
    ·exact .inr (.inr (.inr (.inl q)))
   have hRu:∀r,(λ(r:Role)=>r=.en\/r=.pl\/r=.he) r->Used z r:=λr q=>by
    rcases q with rfl|rfl|rfl<;>exact trivial
   have kp:=N.kp T.dist hc hRu;refine(λ(q:ax K c H4 g (expire z)/\Mv g z H g (expire z) H4)=>k H4 q.1 q.2) (N.ub (s':=expire z) T.dist hc hRs rfl rfl rfl ⟨ds,b4 _ _ es3 swhe⟩ ?pe ?pp ?pf ?ph)
   case pe=>
    refine⟨λp=>if bad p=true then none else fe p,⟨kvs',b4 _ _ (b3 _ _ e' enpl) heen.symm,D'.congr λp=>by rw[qw (λa=>D.mem eA a)]⟩,λp=>?_⟩;have ee:entryOf (expire z) p.1 p.2=(entryOf z p.1 p.2).filter λe=>decide (z.now<e.until_):=by
     rw[Mx.d6,Mx.d6];exact iz (key:=Mx.fc) W.es
    rw[ee];show kg (bW K c H4) (if bad p=true then none else fe p) _;have q2:=(d2 p).imp (R':=bW K c H4) λa y h=>h.keep kp;cases hen:entryOf z p.1 p.2 with
    |none=>
     have hb:bad p=false:=by simp only[bad];rw[hen]
     rw[hb,if_neg (λz=>nomatch z)];rw[hen]at q2;exact q2
    |some en=>
     rw[hen]at q2
     by_cases h:en.until_<=z.now
     ·have hb:bad p=true:=by simp only[bad];rw[hen];exact J1 h
      rw[if_pos hb];have:(some en).filter (λe=>decide (z.now<e.until_))=none:=by
       simp[Option.filter];omega
      rw[this];trivial
     ·have hb:bad p=false:=by simp only[bad];rw[hen];exact J9 h
      rw[hb,if_neg (λz=>nomatch z)];have:(some en).filter (λe=>decide (z.now<e.until_))=some en:=by
       simp[Option.filter];omega
      rw[this];exact q2
   case pp=>
    refine(p3.keep λo e=>b4 _ _ e hepl.symm).congr λp=>?_;have ee:bx (expire z) p=(bx z p).filter λe=>decide (z.now<e.until_):=by
     rw[eE,eE];exact iz (key:=Mx.df) W.pn
    rw[ee];cases bx z p with
    |none=>rfl
    |some x=>
     show tI (later z.now (some x.until_))=_;unfold later;dsimp only
     by_cases h:z.now<x.until_
     ·rw[if_pos h];simp[Option.filter,h,tI]
     ·rw[if_neg h];simp[Option.filter,h,tI]
   case pf=>exact N.fix.keep λo e=>b4 _ _ (b3 _ _ (b _ _ (s1 _ _ e) fxen) fxpl) fxhe
   case ph=>
    refine p4.congr λp=>?_;have ee:cU (expire z) p=(cU z p).filter λe=>decide (z.now<e.2):=by
     rw[gW,gW];exact iz (key:=λx:Nat×Nat=>x.1) W.hu
    rw[ee];cases cU z p with
    |none=>rfl
    |some x=>
     show tI (later z.now (some x.2))=_;unfold later;dsimp only
     by_cases h:z.now<x.2
     ·rw[if_pos h];simp[Option.filter,h,tI]
     ·rw[if_neg h];simp[Option.filter,h,tI]
noncomputable def Ek (K:PySem.W.Frag) (c:Cs):Sp:=λvs H Q _=>∃(g:Role->Addr) (s:State),vs=[.ref (g .sw),.int s.now]/\ax K c H g s/\Q (.bl (decide (s.silent<=s.now/\s.next<=s.now))) H
theorem qx (T:Tx K mg c):Me P w K mg base c.Switch "may_ask" 1 ["self","now"] (Ek K c):=by
 refine T.fo.ok oB (λvs H Q E h=>?_) (λf cdv A outer s H vs Q E hr h=>?_)
 ·obtain⟨g,s,rfl,_⟩:=h;rfl
 ·obtain⟨g,z,rfl,N,k⟩:=h;refine⟨_,(ag (aj (mV (cn cB (aB (pv 0)) (pv 1) (aD _)) (mU (cn cB (aB (pv 0)) (pv 1) (aD _)))))),?_⟩;have cl:=T.aL.cl;refine⟨_,rfl,_,_,rfl,N.sf cl T.bZ rfl,_,rfl,_,_,rfl,rfl,_,rfl,b7 (λq=>⟨_,rfl,_,_,rfl,N.sf cl T.bh rfl,_,rfl,_,_,rfl,rfl,?_⟩) (λq=>?_)⟩
  ·have q1:=J0 q;have e:decide ((z.next:Int)<=(z.now:Int))=decide (z.silent<=z.now/\z.next<=z.now):=by
    rw[decide_eq_decide];omega
   show Q (.bl (decide ((z.next:Int)<=(z.now:Int)))) H;rw[e];exact k
  ·have q1:¬((z.silent:Int)<=(z.now:Int)):=λz=>q (J1 z);have e:decide (z.silent<=z.now/\z.next<=z.now)=false:=J9 (by omega);rw[e]at k;exact k
noncomputable def uc (s:State):State:={s with entries:=[],plains:=[],heard:=[],silent:=0,next:=0}
noncomputable def El (K:PySem.W.Frag) (c:Cs):Sp:=λvs H Q _=>∃(g:Role->Addr) (s:State),vs=[.ref (g .sw)]/\ax K c H g s/\∀H',ax K c H' g (uc s)->Mv g s H g (uc s) H'->Q .bQ H'
theorem rM (T:Tx K mg c):Me P w K mg base c.Switch "forget" 1 ["self"] (El K c):=by
 refine T.fV.ok pZ (λvs H Q E h=>?_) (λf cdv A outer s H vs Q E hr h=>?_)
 ·obtain⟨g,s,rfl,_⟩:=h;rfl
 ·obtain⟨g,z,rfl,N,k⟩:=h;refine⟨_,(af (aM (zI PySem.F.plainAttrs_dict PySem.F.slot_dict_clear PySem.F.type_dict_clear pU (aB (pv 0))))
   (af (aM (zI PySem.F.plainAttrs_dict PySem.F.slot_dict_clear PySem.F.type_dict_clear pU (aB (pv 0))))
   (af (aM (zI PySem.F.plainAttrs_dict PySem.F.slot_dict_clear PySem.F.type_dict_clear pU (aB (pv 0))))
   (af (aP (pv 0) ah rfl)
   (ag (aP (pv 0) ah rfl)))))),?_⟩
  have cl:=T.aL.cl;obtain⟨ds,es⟩:=N.pJ;have fd:∀{H':Hp}{f:Str}{v:V},H' (g .sw)=some (.ins c.Switch ds (pI g z))->ay K c.Switch f->(pI g z).lookup f=some v->Fd K H' (g .sw) f v:=λe na l=>⟨_,ds,_,e,cl,na,l⟩;have apart:∀{r r':Role},Used z r->Used z r'->r≠r'->g r≠g r':=λu u' n e=>n (N.inj _ _ u u' e);have swen:g .sw≠g .en:=apart (r:=.sw) (r':=.en) trivial trivial (λz=>nomatch z);have swpl:g .sw≠g .pl:=apart (r:=.sw) (r':=.pl) trivial trivial (λz=>nomatch z);have swhe:g .sw≠g .he:=apart (r:=.sw) (r':=.he) trivial trivial (λz=>nomatch z);have yV:g .pl≠g .en:=apart (r:=.pl) (r':=.en) trivial trivial (λz=>nomatch z);have heen:g .he≠g .en:=apart (r:=.he) (r':=.en) trivial trivial (λz=>nomatch z);have hepl:g .he≠g .pl:=apart (r:=.he) (r':=.pl) trivial trivial (λz=>nomatch z);obtain⟨fe,⟨k1,e1,_⟩,_⟩:=N.ent;obtain⟨k2,e2,_⟩:=N.rk;obtain⟨k3,e3,_⟩:=N.tX;refine⟨_,rfl,_,_,rfl,fd es T.aJ rfl,.inr (.inr (.inl ⟨rfl,.inr ⟨_,e1⟩⟩)),g .en,rfl,rfl,.inr ⟨k1,e1,?_⟩⟩;have es1:(upd H (g .en) (.dT [])) (g .sw)=some (.ins c.Switch ds (pI g z)):=by rw[ak swen];exact es
  have e21:(upd H (g .en) (.dT [])) (g .pl)=some (.dT k2):=by rw[ak yV];exact e2
  refine⟨_,rfl,_,_,rfl,fd es1 T.aV rfl,.inr (.inr (.inl ⟨rfl,.inr ⟨_,e21⟩⟩)),g .pl,rfl,rfl,.inr ⟨k2,e21,?_⟩⟩;have es2:(upd (upd H (g .en) (.dT [])) (g .pl) (.dT [])) (g .sw)=some (.ins c.Switch ds (pI g z)):=by rw[ak swpl];exact es1
  have e32:(upd (upd H (g .en) (.dT [])) (g .pl) (.dT [])) (g .he)=some (.dK k3):=by rw[ak hepl,ak heen];exact e3
  refine⟨_,rfl,_,_,rfl,fd es2 T.cg rfl,.inr (.inr (.inl ⟨rfl,.inl ⟨_,e32⟩⟩)),g .he,rfl,rfl,.inl ⟨k3,e32,?_⟩⟩;have es3:(upd (upd (upd H (g .en) (.dT [])) (g .pl) (.dT [])) (g .he) (.dK [])) (g .sw)=some (.ins c.Switch ds (pI g z)):=by rw[ak swhe];exact es2
  refine⟨_,rfl,_,_,ds,_,rfl,es3,cl,T.bZ,(by show 7<1000;decide),?_⟩;refine⟨_,rfl,_,_,ds,_,rfl,ab,cl,T.bh,(by show 7<1000;decide),?_⟩;rw[bN];have hc:Ch g (λr=>r=.en\/r=.pl\/r=.he\/r=.sw) H (upd (upd (upd (upd H (g .en) (.dT [])) (g .pl) (.dT [])) (g .he) (.dK [])) (g .sw) (.ins c.Switch ds (pI g (uc z)))):=
   (((Ch.upd (r:=.en) (.inl rfl)).trans (Ch.upd (r:=.pl) (.inr (.inl rfl)))).trans (Ch.upd (r:=.he) (.inr (.inr (.inl rfl))))).trans (Ch.upd (r:=.sw) (.inr (.inr (.inr rfl))))
  have hRs:∀r,(λ(r:Role)=>r=.en\/r=.pl\/r=.he\/r=.sw) r->r=.en\/r=.pl\/r=.fx\/r=.he\/r=.sw:=λr q=>by
   rcases q with q|q|q|q
   ·exact .inl q
   ·exact .inr (.inl q)
   ·exact .inr (.inr (.inr (.inl q)))
   ·exact .inr (.inr (.inr (.inr q)))
  have hRu:∀r,(λ(r:Role)=>r=.en\/r=.pl\/r=.he\/r=.sw) r->Used z r:=λr q=>by
   rcases q with rfl|rfl|rfl|rfl<;>exact trivial
  obtain⟨N4,mv⟩:=N.ub (s':=uc z) T.dist hc hRs rfl rfl rfl ⟨ds,ab⟩ ⟨λ_=>none,⟨[],by rw[ak swen.symm,ak heen.symm,ak yV.symm];exact ab,Dk.nil wZ⟩,λp=>trivial⟩
   ⟨[],by rw[ak swpl.symm,ak hepl.symm];exact ab,Dk.nil wZ⟩ (N.fix.keep λo e=>N.at_ hc hRu (r:=.fx) trivial (by rintro(q|q|q|q)<;>exact nomatch q) e) ⟨[],by rw[ak swhe.symm];exact ab,Dk.nil qr⟩
  exact k _ N4 mv
theorem ud (T:Tx K mg c):Fn P w K mg base "call_restart" 2 ["net"] (Hq K c .restart):=by
 refine T.gS.ok rJ (λvs H Q E h=>?_) (λf cdv A outer s H vs Q E hr h=>?_)
 ·obtain⟨g,s,U,n,rfl,_⟩:=h;rfl
 ·obtain⟨g,z,U,n,rfl,N,W,hU,hn,k⟩:=h;refine⟨_,(af (aM (jx (aB (pv 0)) (rM T) hr))
   (ag (aj (aC (aa ah ae))))),?_⟩
  obtain⟨ds,es⟩:=N.pJ;refine⟨_,rfl,_,_,rfl,N.f T.aA.cl T.aN rfl,g .sw,ds,_,rfl,es,rfl,g,z,rfl,N,λH' N' mv=>?_⟩;have k:c9 K c H g z Q (uc z,[0]):=k;exact k.ret N' T.dist mv
end
end Gs
namespace Gs
open PySem PySem.Spec PyProof.Rows L2
open Mx (Up)
open Vbcnai (hostOf hasOf entryOf room putPlain)
theorem dQ {s:State}{p:Int}(h:Vbcnai.isPort s p=true):p=(p.toNat:Int)/\p.toNat<s.ports:=by
 unfold Vbcnai.isPort Vbcnai.within at h;rw[JS,JT,JT]at h;omega
theorem qy (s:State) (p q:Nat):(s.plains.any λx=>x.port==p&&x.group==q)=(bx s (p,q)).isSome:=by
 unfold bx;rw[Bool.eq_iff_iff,List.any_eq_true,List.find?_isSome]
theorem pq (F:Nat×Nat->Option V) (a b:Nat):uO F (a:Int) (b:Int)=F (a,b):=by
 unfold uO;rw[if_pos ⟨by omega,by omega⟩,Ko,Ko]
section
variable{P:Program}{w:World}{K:PySem.W.Frag}{mg:Str->Option Value}{base:Heap}{c:Cs}
theorem Wf.yV {U:List Nat}{n:Nat}{s:State}(W:Wf U n s) (hn:n<=400):(s.plains.map Mx.df).length<sizeLine:=by
 rw[JQ];have:=W.en;show _<2^24;omega
theorem Wf.putPlain {U:List Nat}{n:Nat}{s:State}(W:Wf U n s) (x:Vbcnai.Plain):Wf U (n+1) {s with plains:=Vbcnai.putPlain x s.plains}:=by
 have h:s.entries.length+(Vbcnai.putPlain x s.plains).length<=n+1:=by
  have:=Mx.ou (x:=x) (l:=s.plains);have:=W.en;omega
 exact{W with pn:=Mx.kL W.pn,en:=h}
theorem ax.yW {H H':Hp}{g:Role->Addr}{s:State}{U:List Nat}{n:Nat}{x:Vbcnai.Plain}(N:ax K c H g s) (D:gd c) (W:Wf U n s) (h:Ch g (λr=>r=.pl) H H')
  (e:DT H' (g .pl) λb=>if b=(x.port,x.group)then some (.int x.until_)else(bx s b).map λx=>.int x.until_):ax K c H' g {s with plains:=putPlain x s.plains}/\Mv g s H g {s with plains:=putPlain x s.plains} H':=by
 have hR:∀r,(λ(r:Role)=>r=.pl) r->Used s r:=λr e=>by rw[e];exact trivial
 refine N.ub (s':={s with plains:=putPlain x s.plains}) D h (λr e=>.inr (.inl e)) rfl rfl rfl (let ⟨dx,e⟩:=N.pJ;⟨dx,N.at_ h hR (r:=.sw) trivial (λz=>nomatch z) e⟩) (N.mM D h hR (λz=>nomatch z)) (e.congr λb=>?_) (N.fix.keep λo e=>N.at_ h hR (r:=.fx) trivial (λz=>nomatch z) e) (N.tX.keep λo e=>N.at_ h hR (r:=.he) trivial (λz=>nomatch z) e);rw[yG W.pn]
 by_cases q:b=(x.port,x.group)
 ·rw[if_pos q,if_pos q];rfl
 ·rw[if_neg q,if_neg q]
theorem yX (T:Tx K mg c):Fn P w K mg base "call_join" 2 ["net","port","group"] (yN K c .join):=by
 refine T.lB.ok oP (λvs H Q E h=>?_) (λf cdv A outer s H vs Q E hr h=>?_)
 ·obtain⟨g,s,i,j,U,n,rfl,_⟩:=h;rfl
 ·obtain⟨g,z,i,j,U,n,rfl,N,W,hU,hn,k⟩:=h;have nd:=oP.nd;have hu:=cX hr;refine⟨_,(af (aF (aX (aR (bT (pv 0) (bF T) hr (aa (pv 1) ae))))
   (ag (aj (aC (aa (br aS ah) ae))))
   au)
   (af (aF (aX (aR (az (eC T.toTxt) hr (aa (pv 2) ae))))
   (ag (aj (aC (aa (br aS ah) ae))))
   au)
   (af (aT (i:=3) nd rfl (Or.inl rfl) (aB (pv 0)))
   (af (aF (PW.pt (pL (dB (lP hu (bS (aa (pv 1) (aa (pv 2) ae))) (aB (pv 3)))) (lM (aX (aR (jx (pv 3) (ir T) hr))))))
   (af (lN (pv 0) ah wk)
   (ag (aj (aC (aa ah ae)))))
   au)
   (af (fA hu (aB (pv 3)) (bS (aa (pv 1) (aa (pv 2) ae))) (cu fj (aB (pv 0)) (aB (pv 0))) rfl)
   (ag (aj (aC (aa ah ae))))))))),?_⟩
  obtain⟨dn,en⟩:=N.nM;have clN:=T.aA.cl;have clS:=T.aL.cl;unfold Vbcnai.doing at k;dsimp only at k;refine⟨_,rfl,g .n,dn,_,rfl,en,rfl,_,rfl,g,z,i,rfl,N,_,rfl,?_⟩;cases hp:Vbcnai.isPort z i with
  |false=>
   rw[if_pos hp]at k;exact bG ⟨_,rfl,k.cV N T.dist⟩
  |true=>
   rw[if_neg (by rw[hp];exact λz=>nomatch z)]at k;refine bX ⟨_,rfl,j,rfl,_,rfl,?_⟩;cases hg:Vbcnai.isGroup j with
   |false=>
    rw[if_pos hg]at k;exact bG ⟨_,rfl,k.cV N T.dist⟩
   |true=>
    rw[if_neg (by rw[hg];exact λz=>nomatch z)]at k;obtain⟨ei,_⟩:=dQ hp;obtain⟨ej,_⟩:=cA hg;generalize i.toNat=a at k ei;generalize j.toNat=b at k ej;subst ei ej;rw[qy]at k;refine bX ⟨_,rfl,_,_,rfl,N.f clN T.aN rfl,_,rfl,_,rfl,(by show 2<=sizeLine;decide),λt nt=>?_⟩;have s1:aw H (upd H t (.tup [.int a,.int b])):=aw.new nt;have N1:=N.same T.dist s1;have ht:(upd H t (.tup [.int a,.int b])) t=some (.tup [.int a,.int b]):=ab;generalize (upd H t (.tup [.int a,.int b]))=H1 at s1 N1 ht;have hgt:=N1.rk.get ht;rw[pq]at hgt;obtain⟨ds,es⟩:=N1.pJ;refine⟨_,rfl,_,_,rfl,N1.sf clS T.aV rfl,_,_,rfl,hgt,_,rfl,?_⟩;rw[Kn];have put:c9 K c H g z Q ({z with plains:=putPlain ⟨a,b,z.now+z.cfg.stay⟩ z.plains},[0])->xR (Gb (tF K (gB 3) "plain") (E8 (dF (gB 1) (dF (gB 2) kj))) (E3 (EJ λi j=>.int (i+j)) (tF K (gB 0) "now") (tF K (gB 0) "stay"))) (BC (BL (dF (tC (V.int 0)) kj))) {nx:=λ_ H'=>Q .bQ H',rt:=Q} [some (.ref (g .n)),some (.int a),some (.int b),some (.ref (g .sw))] H1:=λk=>by
     refine⟨_,rfl,_,_,rfl,N1.f clN T.bA rfl,_,rfl,_,_,rfl,N1.f clN T.dj rfl,_,_,rfl,rfl,_,rfl,_,_,rfl,N1.sf clS T.aV rfl,_,rfl,_,rfl,(by show 2<=sizeLine;decide),λt2 nt2=>?_⟩;have s2:aw H1 (upd H1 t2 (.tup [.int a,.int b])):=aw.new nt2;have N2:=N1.same T.dist s2;have ht2:(upd H1 t2 (.tup [.int a,.int b])) t2=some (.tup [.int a,.int b]):=ab;generalize (upd H1 t2 (.tup [.int a,.int b]))=H2 at s2 N2 ht2;obtain⟨o,hput,hnt,hdn⟩:=N2.rk.put W.pn (λp=>by rw[Kn];exact fO p) (W.yV (by omega)) (x:=a) (y:=b) ht2 (.int ((z.now:Int)+(z.cfg.stay:Int)));refine⟨_,_,rfl,hput,?_⟩;obtain⟨N3,mv3⟩:=N2.yW T.dist W (x:=⟨a,b,z.now+z.cfg.stay⟩) (Ch.upd rfl) (hdn _ ab);exact k.ret N3 T.dist ((Mv.of_same (s1.trans s2)).trans N2 T.dist mv3)
    cases hpl:(bx z (a,b)).isSome with
    |true=>
     rw[if_pos (.inl hpl)]at k;exact aQ (λz=>nomatch z) (aQ (λz=>nomatch z) (put k))
    |false=>
     refine bK rfl ⟨_,rfl,g .sw,ds,_,rfl,es,rfl,g,z,U,n,rfl,N1,W,_,rfl,?_⟩;cases hro:room z with
     |true=>
      rw[if_pos (.inr hro)]at k;exact aQ (λz=>nomatch z) (put k)
     |false=>
      rw[if_neg (by rw[hpl,hro];rintro(q|q)<;>exact nomatch q)]at k;obtain⟨dn1,en1⟩:=N1.nM;refine bK rfl ⟨_,rfl,g .n,_,dn1,_,_,rfl,en1,clN,T.fm,rfl,_,_,rfl,rfl,dn1,_,en1,(by show 12<1000;decide),?_⟩;have hN:ax K c (upd H1 (g .n) (.ins c.Net dn1 (qt g {z with full:=z.full+1}))) g {z with full:=z.full+1}:=N1.w8 T.dist rfl rfl rfl rfl rfl rfl rfl;exact k.ret hN T.dist ((Mv.of_same s1).trans N1 T.dist (Mv.lF (R:=λr=>r=.n) (Ch.upd rfl) (λr e=>by rw[e];exact trivial) λr=>cY rfl r))
theorem xb (T:Tx K mg c):Fn P w K mg base "call_leave" 3 ["net","port","group"] (yN K c .leave):=by
 refine T.jQ.ok mE (λvs H Q E h=>?_) (λf cdv A outer s H vs Q E hr h=>?_)
 ·obtain⟨g,s,i,j,U,n,rfl,_⟩:=h;rfl
 ·obtain⟨g,z,i,j,U,n,rfl,N,W,hU,hn,k⟩:=h;have nd:=mE.nd;have hu:=cX hr;refine⟨_,(af (aF (aX (aR (bT (pv 0) (bF T) hr (aa (pv 1) ae))))
   (ag (aj (aC (aa (br aS ah) ae))))
   au)
   (af (aF (aX (aR (az (eC T.toTxt) hr (aa (pv 2) ae))))
   (ag (aj (aC (aa (br aS ah) ae))))
   au)
   (af (aT (i:=3) nd rfl (Or.inl rfl) (aB (aB (pv 0))))
   (af (aF (dB (lP hu (bS (aa (pv 1) (aa (pv 2) ae))) (pv 3)))
   (ag (aj (aC (aa (br aS ah) ae))))
   au)
   (af (fA hu (pv 3) (bS (aa (pv 1) (aa (pv 2) ae))) (aO (BH rfl) (by rfl) T.DL Hb (aa (cO hu (pv 3) (bS (aa (pv 1) (aa (pv 2) ae))) (λ_ _=>rfl)) (aa (cu fj (aB (pv 0)) (aB (pv 0))) ae))) rfl)
   (af (aM (bT (pv 0) (gX T) hr (aa (l7 (r9 T.toTxt) hr (aa (pv 1) (aa (pv 2) ae))) ae)))
   (ag (aj (aC (aa ah ae)))))))))),?_⟩
  obtain⟨dn,en⟩:=N.nM;have clN:=T.aA.cl;have clS:=T.aL.cl;unfold Vbcnai.doing at k;dsimp only at k;refine⟨_,rfl,g .n,dn,_,rfl,en,rfl,_,rfl,g,z,i,rfl,N,_,rfl,?_⟩;cases hp:Vbcnai.isPort z i with
  |false=>
   rw[if_pos hp]at k;exact bG ⟨_,rfl,k.cV N T.dist⟩
  |true=>
   rw[if_neg (by rw[hp];exact λz=>nomatch z)]at k;refine bX ⟨_,rfl,j,rfl,_,rfl,?_⟩;cases hg:Vbcnai.isGroup j with
   |false=>
    rw[if_pos hg]at k;exact bG ⟨_,rfl,k.cV N T.dist⟩
   |true=>
    rw[if_neg (by rw[hg];exact λz=>nomatch z)]at k;obtain⟨ei,_⟩:=dQ hp;obtain⟨ej,_⟩:=cA hg;generalize i.toNat=a at k ei;generalize j.toNat=b at k ej;subst ei ej;have k:c9 K c H g z Q (match bx z (a,b)with
     |none=>(z,[-3])
     |some x=>(Vbcnai.send {z with plains:=putPlain {x with until_:=min x.until_ (z.now+z.cfg.last)} z.plains} (.query a (some b)),[0])):=k
    refine bX ⟨_,rfl,_,_,rfl,N.f clN T.aN rfl,_,_,rfl,N.sf clS T.aV rfl,_,rfl,_,rfl,(by show 2<=sizeLine;decide),λt nt=>?_⟩;have s1:aw H (upd H t (.tup [.int a,.int b])):=aw.new nt;have N1:=N.same T.dist s1;have ht:(upd H t (.tup [.int a,.int b])) t=some (.tup [.int a,.int b]):=ab;generalize (upd H t (.tup [.int a,.int b]))=H1 at s1 N1 ht;have hgt:=N1.rk.get ht;rw[pq]at hgt;refine⟨_,rfl,_,_,rfl,hgt,_,rfl,?_⟩;rw[Kn];cases hpl:bx z (a,b)with
    |none=>
     rw[hpl]at k;exact bK rfl ⟨_,rfl,k.ret N1 T.dist (Mv.of_same s1)⟩
    |some x=>
     rw[hpl]at k;dsimp only at k;have hk:x.port=a/\x.group=b:=by
      rw[eE]at hpl;have:=(Mx.find_some (key:=Mx.df) hpl).2;unfold Mx.df at this;rw[Prod.mk.injEq]at this;exact this
     refine aQ (λz=>nomatch z) ⟨_,rfl,_,rfl,_,rfl,(by show 2<=sizeLine;decide),λt2 nt2=>?_⟩;have s2:aw H1 (upd H1 t2 (.tup [.int a,.int b])):=aw.new nt2;have N2:=N1.same T.dist s2;have ht2:(upd H1 t2 (.tup [.int a,.int b])) t2=some (.tup [.int a,.int b]):=ab;generalize (upd H1 t2 (.tup [.int a,.int b]))=H2 at s2 N2 ht2;have hgt2:=N2.rk.get ht2;rw[pq,hpl]at hgt2;refine⟨_,_,rfl,hgt2,_,rfl,_,_,rfl,N2.f clN T.bA rfl,_,rfl,_,_,rfl,N2.f clN T.jG rfl,_,_,rfl,rfl,_,_,rfl,_,rfl,_,rfl,_,rfl,(by show 2<=sizeLine;decide),λt3 nt3=>?_⟩;have s3:aw H2 (upd H2 t3 (.tup [.int a,.int b])):=aw.new nt3;have N3:=N2.same T.dist s3;have ht3:(upd H2 t3 (.tup [.int a,.int b])) t3=some (.tup [.int a,.int b]):=ab;generalize (upd H2 t3 (.tup [.int a,.int b]))=H3 at s3 N3 ht3;have ev:(if(z.now:Int)+(z.cfg.last:Int)<(x.until_:Int)then(z.now:Int)+(z.cfg.last:Int)else(x.until_:Int))=((min x.until_ (z.now+z.cfg.last):Nat):Int):=by
      split<;>omega
     obtain⟨o,hput,hnt,hdn⟩:=N3.rk.put W.pn (λp=>by rw[Kn];exact fO p) (W.yV (by omega)) (x:=a) (y:=b) ht3 (.int (if(z.now:Int)+(z.cfg.last:Int)<(x.until_:Int)then(z.now:Int)+(z.cfg.last:Int)else(x.until_:Int)));refine⟨_,_,rfl,hput,?_⟩;rw[ev]at hdn;obtain⟨N4,mv4⟩:=N3.yW T.dist W (x:={x with until_:=min x.until_ (z.now+z.cfg.last)}) (Ch.upd rfl) (by
      show DT _ _ λq=>if q=(x.port,x.group)then some (.int ((min x.until_ (z.now+z.cfg.last):Nat):Int))else _;rw[hk.1,hk.2];exact hdn _ ab)
     have mv:=(Mv.of_same ((s1.trans s2).trans s3)).trans N3 T.dist mv4;have W4:Wf U (n+1) {z with plains:=putPlain {x with until_:=min x.until_ (z.now+z.cfg.last)} z.plains}:=
      W.putPlain _
     generalize upd H3 (g .pl) o=H4 at N4 mv;obtain⟨dn4,en4⟩:=N4.nM;refine⟨_,rfl,g .n,dn4,_,rfl,en4,rfl,_,rfl,_,rfl,?_⟩;intro y dy ny ndy ne;refine⟨y,dy,_,_,rfl,ab,rfl,?_⟩;have s5:=made (C:=c.Query) (o:=.ins c.Query dy (uP a (gI (some b)))) ny ndy;have N5:=N4.same T.dist s5;exact⟨g,_,y,.query a (some b),U,n+1,rfl,N5,⟨dy,ab⟩,W4,λH' N' mv'=>k.ret N' T.dist (mv.trans N4 T.dist ((Mv.of_same s5).trans N5 T.dist mv'))⟩
theorem Ag (T:Tx K mg c):Fn P w K mg base "call_ask" 3 ["net","port","group"] (yN K c .ask):=by
 refine T.nG.ok yA (λvs H Q E h=>?_) (λf cdv A outer s H vs Q E hr h=>?_)
 ·obtain⟨g,s,i,j,U,n,rfl,_⟩:=h;rfl
 ·obtain⟨g,z,i,j,U,n,rfl,N,W,hU,hn,k⟩:=h;refine⟨_,(af (aF (aX (aR (bT (pv 0) (bF T) hr (aa (pv 1) ae))))
   (ag (aj (aC (aa (br aS ah) ae))))
   au)
   (af (aF (PW.pt (pL (aE vi (pv 2) (bz T.eO) (aD _)) (lM (aX (aR (az (eC T.toTxt) hr (aa (pv 2) ae)))))))
   (ag (aj (aC (aa (br aS ah) ae))))
   au)
   (af (aM (bT (pv 0) (gX T) hr (aa (l7 (r9 T.toTxt) hr (aa (pv 1) (aa (pv 2) ae))) ae)))
   (ag (aj (aC (aa ah ae))))))),?_⟩
  obtain⟨dn,en⟩:=N.nM;unfold Vbcnai.doing at k;dsimp only at k;refine⟨_,rfl,g .n,dn,_,rfl,en,rfl,_,rfl,g,z,i,rfl,N,_,rfl,?_⟩;cases hp:Vbcnai.isPort z i with
  |false=>
   rw[if_pos hp]at k;exact bG ⟨_,rfl,k.cV N T.dist⟩
  |true=>
   rw[if_neg (by rw[hp];exact λz=>nomatch z)]at k;obtain⟨ei,_⟩:=dQ hp;have go:∀q:Option Nat,j=gI q->c9 K c H g z Q (Vbcnai.send z (.query i.toNat q),[0])->xR (C1 (xW c.Net "send" (Ea K c) [] E0 (gB 0) (dF (xX c.Query (Gg c) [] E0 (dF (gB 1) (dF (gB 2) kj))) kj))) (BC (BL (dF (tC (V.int 0)) kj))) {nx:=λ_ H'=>Q .bQ H',rt:=Q} [some (.ref (g .n)),some (.int i),some (.int j)] H:=by
    intro q hq k;refine⟨_,rfl,g .n,dn,_,rfl,en,rfl,_,rfl,_,rfl,?_⟩;intro y dy ny ndy ne;refine⟨y,dy,_,_,rfl,ab,rfl,?_⟩;have s5:=made (C:=c.Query) (o:=.ins c.Query dy (uP i.toNat (gI q))) ny ndy;have N5:=N.same T.dist s5;have eo:([("port",V.int i),("group",V.int j)]:List (Str×V))=uP i.toNat (gI q):=by
     unfold uP;rw[←hq,←ei]
    rw[eo];exact⟨g,_,y,.query i.toNat q,U,n,rfl,N5,⟨dy,ab⟩,W,λH' N' mv'=>k.ret N' T.dist ((Mv.of_same s5).trans N5 T.dist mv')⟩
   refine bX ⟨_,rfl,rfl,_,rfl,?_⟩
   by_cases hj:j= -1
   ·rw[if_neg (λz=>z.1 hj),if_pos hj]at k;refine aQ (by rw[hj];exact λz=>nomatch z) (aQ (λz=>nomatch z) (go none hj k))
   ·refine bK (by rw[J9 (λz=>hj (by injection z))];rfl) ⟨_,rfl,j,rfl,_,rfl,?_⟩;cases hg:Vbcnai.isGroup j with
    |false=>
     rw[if_pos ⟨hj,hg⟩]at k;exact bK rfl ⟨_,rfl,k.cV N T.dist⟩
    |true=>
     rw[if_neg (λz=>by rw[hg]at z;exact nomatch z.2),if_neg hj]at k;obtain⟨ej,_⟩:=cA hg;exact aQ (λz=>nomatch z) (go (some j.toNat) ej k)
end
end Gs
namespace Gs
open PySem PySem.Spec PyProof.Rows L2
open Mx (Up)
open Vbcnai (hostOf hasOf entryOf room putPlain expire)
theorem yY (s:State) (p t q:Nat):cU {s with heard:=(p,t)::s.heard.filter λx=>x.1 != p} q=if q=p then some (p,t)else cU s q:=by
 rw[gW,gW];show((p,t)::s.heard.filter λx=>x.1 != p).find? _=_;rw[List.find?_cons]
 by_cases e:q=p
 ·rw[if_pos e,J1 e.symm]
 ·rw[if_neg e,J9 (λz=>e z.symm)];dsimp only;generalize s.heard=l
  induction l with
  |nil=>rfl
  |cons a l ih=>
   by_cases h:a.1=p
   ·rw[List.filter_cons_of_neg (by simp[h]),ih,List.find?_cons,J9 (λz=>e (z.symm.trans h))]
   ·rw[List.filter_cons_of_pos (by simp[h]),List.find?_cons,List.find?_cons,ih]
theorem vO {l:List Nat}{n:Nat}(h1:l.Nodup) (h2:∀p∈l,p<n) (h3:n<=64):l.length<sizeLine:=by
 have:=cx (U:=List.range 64) h1 λp hp=>List.mem_range.mpr (by have:=h2 p hp;omega);rw[List.length_range]at this;show _<2^24;omega
section
variable{P:Program}{w:World}{K:PySem.W.Frag}{mg:Str->Option Value}{base:Heap}{c:Cs}
theorem ue (T:Tx K mg c):Fn P w K mg base "call_foreign" 2 ["net","port","number"] (yN K c .foreign):=by
 refine T.gR.ok ka (λvs H Q E h=>?_) (λf cdv A outer s H vs Q E hr h=>?_)
 ·obtain⟨g,s,i,j,U,n,rfl,_⟩:=h;rfl
 ·obtain⟨g,z,i,j,U,n,rfl,N,W,hU,hn,k⟩:=h;have nd:=ka.nd;have hu:=cX hr;refine⟨_,(af (aF (aX (aR (bT (pv 0) (bF T) hr (aa (pv 1) ae))))
   (ag (aj (aC (aa (br aS ah) ae))))
   au)
   (af (aF (PW.pt (qF (aX (aR (az (ig T.toTxt) hr (aa (pv 2) ae)))) (mT (aE bj (pv 2) (aB (pv 0)) (aD _)))))
   (ag (aj (aC (aa (br aS ah) ae))))
   au)
   (af (aT (i:=3) nd rfl (Or.inl rfl) (aB (pv 0)))
   (af (fA hu (aB (pv 3)) (pv 1) (cu fj (aB (pv 0)) (aB (pv 0))) rfl)
   (af (aF (aE qG (pv 2) (aB (pv 0)) (aD _))
   (ag (aP (pv 3) (cu fj (aB (pv 0)) (aB (pv 0))) rfl))
   au)
   (ag (aj (aC (aa ah ae))))))))),?_⟩
  obtain⟨dn,en⟩:=N.nM;have clN:=T.aA.cl;have clS:=T.aL.cl;unfold Vbcnai.doing at k;dsimp only at k;refine⟨_,rfl,g .n,dn,_,rfl,en,rfl,_,rfl,g,z,i,rfl,N,_,rfl,?_⟩;cases hp:Vbcnai.isPort z i with
  |false=>
   rw[if_pos hp]at k;exact bG ⟨_,rfl,k.cV N T.dist⟩
  |true=>
   rw[if_neg (by rw[hp];exact λz=>nomatch z)]at k;obtain⟨ei,hip⟩:=dQ hp;have em:(j != (z.cfg.me:Int))= !decide (V.int j=V.int (z.cfg.me:Int)):=by
    by_cases e:j=(z.cfg.me:Int)
    ·rw[e,J1 rfl];simp
    ·rw[J9 (λq=>e (by injection q))];simp[e]
   refine bX ⟨_,rfl,j,rfl,_,rfl,b7 (λq=>?_) (λq=>?_)⟩
   ·have q:ck j=false:=by simpa using q
    have q':Vbcnai.within j 0 (2^32 - 1)=false:=q;rw[q',Bool.false_and,if_pos rfl]at k;exact bG ⟨_,rfl,k.cV N T.dist⟩
   ·have q:ck j=true:=by simpa using q
    have q':Vbcnai.within j 0 (2^32 - 1)=true:=q;rw[q',Bool.true_and,em]at k;refine⟨_,rfl,_,rfl,_,_,rfl,N.f clN T.k9 rfl,rfl,_,rfl,b7 (λq2=>?_) (λq2=>?_)⟩
    ·rw[q2,if_pos (show(!true)=false from rfl)]at k;exact⟨_,rfl,k.cV N T.dist⟩
    ·rw[eq_false_of_ne_true q2,if_neg (show ¬(!false)=false from λz=>nomatch z)]at k;generalize i.toNat=a at k ei hip;subst ei;have ids:∀m,(((cU z m).map λx=>V.int (x.2:Nat))).isSome=true↔m∈z.heard.map (·.1):=λm=>by rw[Kn];exact yE m
     obtain⟨o,hput,hnt,hdn⟩:=N.tX.put W.hu ids (vO W.hu (λp hp=>by obtain⟨x,hx,e⟩:=Kr.mp hp;rw[←e];exact W.hp x hx) W.cp) a (.int ((z.now:Int)+(z.cfg.stay:Int)));refine⟨_,rfl,_,_,rfl,N.f clN T.aN rfl,_,rfl,_,_,rfl,N.f clN T.bA rfl,_,rfl,_,_,rfl,N.f clN T.dj rfl,_,_,rfl,rfl,_,rfl,_,_,rfl,N.sf clS T.cg rfl,_,rfl,_,_,rfl,hput,?_⟩;have hc:Ch g (λr=>r=.he) H (upd H (g .he) o):=Ch.upd rfl;have hR:∀r,(λ(r:Role)=>r=.he) r->Used z r:=λr e=>by rw[e];exact trivial
     obtain⟨N1,mv1⟩:=N.ub (s':={z with heard:=(a,z.now+z.cfg.stay)::z.heard.filter λx=>x.1 != a}) T.dist hc (λr e=>.inr (.inr (.inr (.inl e)))) rfl rfl rfl (let ⟨dx,e⟩:=N.pJ;⟨dx,N.at_ hc hR (r:=.sw) trivial (λz=>nomatch z) e⟩) (N.mM T.dist hc hR (λz=>nomatch z)) (N.rk.keep λo e=>N.at_ hc hR (r:=.pl) trivial (λz=>nomatch z) e)
      (N.fix.keep λo e=>N.at_ hc hR (r:=.fx) trivial (λz=>nomatch z) e) ((hdn _ ab).congr λq=>by
       rw[yY]
       by_cases e:q=a
       ·rw[if_pos e,if_pos e];rfl
       ·rw[if_neg e,if_neg e])
     generalize upd H (g .he) o=H1 at N1 mv1;obtain⟨ds,es⟩:=N1.pJ;refine⟨_,rfl,_,rfl,_,_,rfl,N1.f clN T.k9 rfl,_,_,rfl,rfl,_,rfl,b7 (λq3=>?_) (λq3=>?_)⟩
     ·rw[if_pos (J0 q3)]at k;refine⟨_,rfl,_,_,rfl,N1.f clN T.bA rfl,_,rfl,_,_,rfl,N1.f clN T.dj rfl,_,_,rfl,rfl,_,rfl,_,_,ds,_,rfl,es,clS,T.bZ,(by show 7<1000;decide),?_⟩;have hc2:Ch g (λr=>r=.sw) H1 (upd H1 (g .sw) (.ins c.Switch ds (pI g {z with heard:=(a,z.now+z.cfg.stay)::z.heard.filter λx=>x.1 != a,silent:=z.now+z.cfg.stay}))):=Ch.upd rfl;have hR2:∀r,(λ(r:Role)=>r=.sw) r->Used {z with heard:=(a,z.now+z.cfg.stay)::z.heard.filter λx=>x.1 != a} r:=λr e=>by rw[e];exact trivial
      obtain⟨N2,mv2⟩:=N1.ub (s':={z with heard:=(a,z.now+z.cfg.stay)::z.heard.filter λx=>x.1 != a,silent:=z.now+z.cfg.stay}) T.dist hc2 (λr e=>.inr (.inr (.inr (.inr e)))) rfl rfl rfl ⟨ds,ab⟩ (N1.mM T.dist hc2 hR2 (λz=>nomatch z)) (N1.rk.keep λo e=>N1.at_ hc2 hR2 (r:=.pl) trivial (λz=>nomatch z) e)
       (N1.fix.keep λo e=>N1.at_ hc2 hR2 (r:=.fx) trivial (λz=>nomatch z) e) (N1.tX.keep λo e=>N1.at_ hc2 hR2 (r:=.he) trivial (λz=>nomatch z) e)
      exact k.ret N2 T.dist (mv1.trans N1 T.dist mv2)
     ·rw[if_neg (λz=>q3 (J1 z))]at k;exact k.ret N1 T.dist mv1
theorem xc (T:Tx K mg c):Fn P w K mg base "call_asker" 2 ["net","port","x"] (yN K c .asker):=by
 refine T.jR.ok mF (λvs H Q E h=>?_) (λf cdv A outer s H vs Q E hr h=>?_)
 ·obtain⟨g,s,i,j,U,n,rfl,_⟩:=h;rfl
 ·obtain⟨g,z,i,j,U,n,rfl,N,W,hU,hn,k⟩:=h;have nd:=mF.nd;have hu:=cX hr;refine⟨_,(af (aF (aX (aR (bT (pv 0) (bF T) hr (aa (pv 1) ae))))
   (ag (aj (aC (aa (br aS ah) ae))))
   au)
   (af (aF (PW.pt (pL (aE vi (pv 2) ah (aD _)) (lM (aE vi (pv 2) ah (aD _)))))
   (ag (aj (aC (aa (br aS ah) ae))))
   au)
   (af (aT (i:=3) nd rfl (Or.inl rfl) (aB (pv 0)))
   (af (aF (aE bj (pv 2) ah (aD _))
   (ag (fA hu (aB (pv 3)) (pv 1) vh rfl))
   (ag (aM (Du (aB (pv 3)) (pv 1) zx ⟨rfl,rfl,rfl,rfl⟩))))
   (ag (aj (aC (aa ah ae)))))))),?_⟩
  obtain⟨dn,en⟩:=N.nM;have clN:=T.aA.cl;have clS:=T.aL.cl;unfold Vbcnai.doing at k;dsimp only at k;refine⟨_,rfl,g .n,dn,_,rfl,en,rfl,_,rfl,g,z,i,rfl,N,_,rfl,?_⟩;cases hp:Vbcnai.isPort z i with
  |false=>
   rw[if_pos hp]at k;exact bG ⟨_,rfl,k.cV N T.dist⟩
  |true=>
   rw[if_neg (by rw[hp];exact λz=>nomatch z)]at k;obtain⟨ei,hip⟩:=dQ hp;generalize i.toNat=a at k ei hip;subst ei;have ids:∀m,((if m∈z.fixed then some (V.bl true)else none)).isSome=true↔m∈z.fixed:=λm=>by
    by_cases e:m∈z.fixed
    ·rw[if_pos e];exact⟨λ_=>e,λ_=>rfl⟩
    ·rw[if_neg e];exact⟨λq=>(nomatch q),λq=>absurd q e⟩
   have fin:∀{H1:Hp}{l:List Nat},Ch g (λr=>r=.fx) H H1->DN H1 (g .fx) (λq=>if q∈l then some (.bl true)else none)->c9 K c H g z Q ({z with fixed:=l},[0])->([V.int 0].length<=sizeLine/\∀p,H1 p=none->Q (.ref p) (upd H1 p (.lst [.int 0]))):=λ{H1 l} hc hd k=>by
    have hR:∀r,(λ(r:Role)=>r=.fx) r->Used z r:=λr e=>by rw[e];exact trivial
    obtain⟨N1,mv1⟩:=N.ub (s':={z with fixed:=l}) T.dist hc (λr e=>.inr (.inr (.inl e))) rfl rfl rfl (let ⟨dx,e⟩:=N.pJ;⟨dx,N.at_ hc hR (r:=.sw) trivial (λz=>nomatch z) e⟩) (N.mM T.dist hc hR (λz=>nomatch z)) (N.rk.keep λo e=>N.at_ hc hR (r:=.pl) trivial (λz=>nomatch z) e) hd (N.tX.keep λo e=>N.at_ hc hR (r:=.he) trivial (λz=>nomatch z) e);exact k.ret N1 T.dist mv1
   refine bX ⟨_,rfl,rfl,_,rfl,?_⟩
   by_cases h0:j=0
   ·subst h0;refine aQ (λz=>nomatch z) (aQ (λz=>nomatch z) ⟨_,rfl,_,_,rfl,N.f clN T.aN rfl,_,rfl,rfl,_,rfl,aQ (λz=>nomatch z) ?_⟩);have k:c9 K c H g z Q ({z with fixed:=z.fixed.filter λq=>q != a},[0]):=k;obtain⟨kvs,e1,D⟩:=N.fix;refine⟨_,rfl,_,_,rfl,N.sf clS T.cJ rfl,g .fx,rfl,.inl ⟨_,.inl e1⟩,_,rfl,kvs,eN a,e1,rfl,λv hv=>?_,λhv=>?_⟩
    ·refine fin (Ch.upd rfl) ⟨_,ab,(D.drop a).congr λq=>?_⟩ k
     by_cases e:q=a
     ·rw[if_pos e,if_neg (by rw[e];simp)]
     ·rw[if_neg e]
      by_cases e2:q∈z.fixed
      ·rw[if_pos e2,if_pos (by simp[e2,e])]
      ·rw[if_neg e2,if_neg (by simp[e2])]
    ·refine fin Ch.refl ⟨kvs,e1,D.congr λq=>?_⟩ k;rw[D.val]at hv;have hna:a∉z.fixed:=λm=>by rw[if_pos m]at hv;cases hv
     by_cases e2:q∈z.fixed
     ·have e:q≠a:=λz=>hna (z▸e2);rw[if_pos e2,if_pos (by simp[e2,e])]
     ·rw[if_neg e2,if_neg (by simp[e2])]
   ·refine bK (by rw[J9 (λz=>h0 (by injection z))];rfl) ⟨_,rfl,rfl,_,rfl,?_⟩
    by_cases h1:j=1
    ·subst h1;refine aQ (λz=>nomatch z) ⟨_,rfl,_,_,rfl,N.f clN T.aN rfl,_,rfl,rfl,_,rfl,bK rfl ?_⟩;have k:c9 K c H g z Q ({z with fixed:=Vbcnai.put a z.fixed},[0]):=k;obtain⟨o,hput,hnt,hdn⟩:=N.fix.put W.fu.nodup ids (vO W.fu.nodup W.fp W.cp) a (.bl true);refine⟨_,rfl,_,_,rfl,N.sf clS T.cJ rfl,_,rfl,_,_,rfl,hput,fin (Ch.upd rfl) ((hdn _ ab).congr λq=>?_) k⟩
     by_cases e:q=a
     ·rw[if_pos e,if_pos (Mx.jy.mpr (.inl e))]
     ·rw[if_neg e]
      by_cases e2:q∈z.fixed
      ·rw[if_pos e2,if_pos (Mx.jy.mpr (.inr e2))]
      ·rw[if_neg e2,if_neg (λz=>(Mx.jy.mp z).elim e e2)]
    ·rw[if_pos (by unfold Vbcnai.within;rw[Bool.and_eq_false_iff,decide_eq_false_iff_not,decide_eq_false_iff_not];omega)]at k;refine bK (by rw[J9 (λz=>h1 (by injection z))];rfl) ⟨_,rfl,k.cV N T.dist⟩
theorem Wf.keyed {U:List Nat}{n:Nat}{s:State}(W:Wf U n s) (m:Nat):Keyed {s with now:=m}:=⟨W.B5,W.pn,W.hu⟩
theorem iW {α κ:Type}{key:α->κ}{p:α->Bool}{l:List α}(h:(l.map key).Nodup):((l.filter p).map key).Nodup:=List.Nodup.sublist (List.Sublist.map _ (List.filter_sublist)) h
theorem Wf.expire {U:List Nat}{n:Nat}{s:State}(W:Wf U n s) (m:Nat):Wf U n (expire {s with now:=m}):=by
 refine{W with es:=List.Pairwise.filter _ W.es,ei:=λe he=>?_,pn:=iW W.pn,en:=?_,hu:=iW W.hu,hp:=λx hx=>W.hp x (List.mem_filter.mp hx).1}
 ·obtain⟨h1,h2⟩:=List.mem_filter.mp he;obtain⟨q1,q2,q3⟩:=W.ei e h1;exact⟨q1,J0 h2,q3⟩
 ·have h1:=Kh (λ(e:Ent)=>decide (m<e.until_)) s.entries;have h2:=Kh (λ(e:Vbcnai.Plain)=>decide (m<e.until_)) s.plains;have:=W.en;show(s.entries.filter _).length+(s.plains.filter _).length<=n;exact Kj (Nat.add_le_add h1 h2) this
theorem yZ (T:Tx K mg c):Fn P w K mg base "call_tick" 3 ["net","n"] (yM K c .tick):=by
 refine T.lC.ok oS (λvs H Q E h=>?_) (λf cdv A outer s H vs Q E hr h=>?_)
 ·obtain⟨g,s,i,U,n,rfl,_⟩:=h;rfl
 ·obtain⟨g,z,i,U,n,rfl,N,W,hU,hn,k⟩:=h;have nd:=oS.nd;refine⟨_,(af (aF (aX (kx cB cB ah (pv 1) (bz T.ib)))
   (ag (aj (aC (aa (br aS ah) ae))))
   au)
   (af (aF (aE xV (cu fj (aB (pv 0)) (pv 1)) (bz T.ib) (aD _))
   (ag (aj (aC (aa (br aS ah) ae))))
   au)
   (af (lN (pv 0) (pv 1) wk)
   (af (aT (i:=2) nd rfl (Or.inl rfl) (aB (pv 0)))
   (af (aM (bT (pv 2) (jY T) hr (aa (aB (pv 0)) ae)))
   (af (aF (aR (bT (pv 2) (qx T) hr (aa (aB (pv 0)) ae)))
   (af (aP (pv 2) (cu fj (aB (pv 0)) (aB (pv 0))) rfl)
   (ag (fQ PassesOwn.never rfl (pM rfl T.oY (aa (aB (pv 0)) ae)) (bH (i:=3) nd rfl (Or.inl rfl))
   (ag (aM (bT (pv 0) (gX T) hr (aa (l7 (r9 T.toTxt) hr (aa (pv 3) (aa (bz T.eO) ae))) ae)))))))
   au)
   (ag (aj (aC (aa ah ae)))))))))),?_⟩
  have clN:=T.aA.cl;have clS:=T.aL.cl;unfold Vbcnai.doing at k;dsimp only at k;have e62:(2:Int)^62=4611686018427387904:=by decide
  have eEnd:((Vbcnai.END:Nat):Int)=4611686018427387904:=by decide
  have bad:Vbcnai.within i 1 (2^62)=false->([V.int (-1)].length<=sizeLine/\∀p,H p=none->Q (.ref p) (upd H p (.lst [.int (-1)]))):=λq=>by
   rw[if_pos q]at k;exact k.cV N T.dist
  refine⟨_,rfl,_,_,rfl,rfl,_,rfl,b7 (λh=>⟨_,_,rfl,rfl,_,rfl,b7 (λh2=>?_) (λh2=>?_)⟩) (λh=>⟨_,rfl,bG ⟨_,rfl,bad (B0 h)⟩⟩)⟩
  ·refine⟨_,rfl,bad ?_⟩;rw[zX h,e62];simpa using h2
  ·have hw:Vbcnai.within i 1 (2^62)=true:=by
    rw[zX h,e62];simpa using h2
   rw[if_neg (by rw[hw];exact λz=>nomatch z)]at k;have hi:i=(i.toNat:Int):=by
    have:=J0 h;omega
   generalize i.toNat=m at k hi;subst hi;obtain⟨dn,en⟩:=N.nM;refine⟨_,rfl,_,_,rfl,N.f clN T.bA rfl,_,rfl,_,_,rfl,rfl,_,_,rfl,rfl,_,rfl,b7 (λq=>?_) (λq=>?_)⟩
   ·rw[if_pos (by rw[eEnd];exact J0 q)]at k;exact⟨_,rfl,k.cV N T.dist⟩
   ·rw[if_neg (by rw[eEnd];exact λz=>q (J1 z))]at k;refine⟨_,rfl,g .n,_,dn,_,_,rfl,en,clN,T.bA,rfl,_,rfl,_,_,rfl,rfl,dn,_,en,(by show 12<1000;decide),?_⟩;have N1:ax K c (upd H (g .n) (.ins c.Net dn (qt g {z with now:=z.now+m}))) g {z with now:=z.now+m}:=N.w8 T.dist rfl rfl rfl rfl rfl rfl rfl;have mv1:Mv g z H g {z with now:=z.now+m} (upd H (g .n) (.ins c.Net dn (qt g {z with now:=z.now+m}))):=Mv.lF (R:=λr=>r=.n) (Ch.upd rfl) (λr e=>by rw[e];exact trivial) λr=>cY rfl r;show xR _ _ _ _ (upd H (g .n) (.ins c.Net dn (qt g {z with now:=z.now+m})));generalize (upd H (g .n) (.ins c.Net dn (qt g {z with now:=z.now+m})))=H1 at N1 mv1;obtain⟨ds,es⟩:=N1.pJ;refine⟨_,rfl,_,_,rfl,N1.f clN T.aN rfl,_,rfl,g .sw,ds,_,rfl,es,rfl,_,rfl,_,_,rfl,N1.f clN T.bA rfl,g,{z with now:=z.now+m},rfl,N1,W.keyed _,λH2 N2 mv2=>?_⟩;have W2:=W.expire (z.now+m);have mv12:=mv1.trans N1 T.dist mv2;have k:c9 K c H g z Q ((if(expire {z with now:=z.now+m}).silent<=(expire {z with now:=z.now+m}).now/\(expire {z with now:=z.now+m}).next<=(expire {z with now:=z.now+m}).now then Vbcnai.sends {expire {z with now:=z.now+m}with next:=(expire {z with now:=z.now+m}).now+(expire {z with now:=z.now+m}).cfg.every} ((List.range (expire {z with now:=z.now+m}).ports).map λp=>.query p none)else expire {z with now:=z.now+m}),[0]):=k;generalize expire {z with now:=z.now+m}=t at N2 mv2 mv12 W2 k;obtain⟨ds2,es2⟩:=N2.pJ;refine⟨_,rfl,g .sw,ds2,_,rfl,es2,rfl,_,rfl,_,_,rfl,N2.f clN T.bA rfl,g,t,rfl,N2,_,rfl,b7 (λq2=>?_) (λq2=>?_)⟩
    ·rw[if_pos (J0 q2)]at k;refine⟨_,rfl,_,_,rfl,N2.f clN T.bA rfl,_,rfl,_,_,rfl,N2.f clN T.ic rfl,_,_,rfl,rfl,_,rfl,_,_,ds2,_,rfl,es2,clS,T.bh,(by show 7<1000;decide),?_⟩;have hc2:Ch g (λr=>r=.sw) H2 (upd H2 (g .sw) (.ins c.Switch ds2 (pI g {t with next:=t.now+t.cfg.every}))):=Ch.upd rfl;have hR2:∀r,(λ(r:Role)=>r=.sw) r->Used t r:=λr e=>by rw[e];exact trivial
     obtain⟨N3,mv3⟩:=N2.ub (s':={t with next:=t.now+t.cfg.every}) T.dist hc2 (λr e=>.inr (.inr (.inr (.inr e)))) rfl rfl rfl ⟨ds2,ab⟩ (N2.mM T.dist hc2 hR2 (λz=>nomatch z)) (N2.rk.keep λo e=>N2.at_ hc2 hR2 (r:=.pl) trivial (λz=>nomatch z) e)
      (N2.fix.keep λo e=>N2.at_ hc2 hR2 (r:=.fx) trivial (λz=>nomatch z) e) (N2.tX.keep λo e=>N2.at_ hc2 hR2 (r:=.he) trivial (λz=>nomatch z) e)
     have W3:Wf U n {t with next:=t.now+t.cfg.every}:={W2 with};have mv13:=mv12.trans N2 T.dist mv3;have N3:ax K c (upd H2 (g .sw) (.ins c.Switch ds2 (bb "next_query" ((λ(i j:Int)=>V.int (i+j)) (t.now:Int) (t.cfg.every:Int)) (pI g t)))) g {t with next:=t.now+t.cfg.every}:=N3;have mv13:Mv g z H g {t with next:=t.now+t.cfg.every} (upd H2 (g .sw) (.ins c.Switch ds2 (bb "next_query" ((λ(i j:Int)=>V.int (i+j)) (t.now:Int) (t.cfg.every:Int)) (pI g t)))):=mv13;generalize (upd H2 (g .sw) (.ins c.Switch ds2 (bb "next_query" ((λ(i j:Int)=>V.int (i+j)) (t.now:Int) (t.cfg.every:Int)) (pI g t))))=H3 at N3 mv13;have ep:(({t with next:=t.now+t.cfg.every}:State).ports)=t.ports:=rfl;have hp64:=W2.cp;refine⟨_,rfl,_,_,rfl,N3.f clN T.di rfl,(t.ports:Int),rfl,(by omega),(by omega),?_⟩;rw[Ko];generalize hz:({t with next:=t.now+t.cfg.every}:State)=u at N3 mv13 W3 k;refine BF (lo:=0) (n:=t.ports) (λi σ H'=>∃v:Option V,σ=[some (.ref (g .n)),some (.int m),some (.ref (g .sw)),v]/\ax K c H' g (Vbcnai.sends u ((List.range i).map λp=>.query p none))/\Mv g z H g (Vbcnai.sends u ((List.range i).map λp=>.query p none)) H')
      ⟨none,rfl,N3,mv13⟩ ?_ ?_
     ·rintro i σ H' hi ⟨v,rfl,N4,mv4⟩;obtain⟨dn4,en4⟩:=N4.nM;refine⟨_,rfl,g .n,dn4,_,rfl,en4,rfl,_,rfl,?_⟩;intro y dy ny ndy ne;refine⟨y,dy,_,_,rfl,ab,rfl,?_⟩;have s5:=made (C:=c.Query) (o:=.ins c.Query dy (uP i (gI none))) ny ndy;have N5:=N4.same T.dist s5;have W4:Wf U n (Vbcnai.sends u ((List.range i).map λp=>.query p none)):=W3.sends λm hm=>by
       obtain⟨p,_,rfl⟩:=Kr.mp hm;trivial
      have eo:([("port",V.int (0+(i:Int))),("group",V.int (-1))]:List (Str×V))=uP i (gI none):=by
       rw[Int.zero_add];rfl
      rw[eo];refine⟨g,_,y,.query i none,U,n,rfl,N5,⟨dy,ab⟩,W4,λH6 N6 mv6=>?_⟩;have es:Vbcnai.sends u ((List.range (i+1)).map λp=>.query p none)=Vbcnai.send (Vbcnai.sends u ((List.range i).map λp=>.query p none)) (.query i none):=by
       unfold Vbcnai.sends;rw[List.range_succ,Ki,List.foldl_append];rfl
      refine⟨_,rfl,?_,?_⟩
      ·rw[es];exact N6
      ·rw[es];exact mv4.trans N4 T.dist ((Mv.of_same s5).trans N5 T.dist mv6)
     ·rintro σ H' ⟨v,rfl,N4,mv4⟩;exact k.ret N4 T.dist mv4
    ·rw[if_neg (λz=>q2 (J1 z))]at k;exact k.ret N2 T.dist mv12
end
end Gs
namespace L2
open PySem PySem.Spec PyProof.Rows
theorem uf {d:Addr}{o:Obj}{kvs:List (List Key×V)}{g:TG}{tt:TT}{te:TE}{vs:List Nat}{σ:St}{H1:Hp}{D:Addr}{Qd:Hp->Prop}(Pv:Nat->Hp->Prop) (h0:Pv 0 (upd H1 D (.lst []))) (hl:∀i H,i<=kvs.length->Pv i H->H d=some (.d5 o (.dT kvs)))
  (hs:∀i k v q H,kvs[i]? =some (k,v)->H q=some (.tup (k.map kV))->Pv i H->g (.ref q) (wipe σ vs) H λσ2 H2=>wipe σ2 vs=wipe σ vs/\tt σ2 H2 λb H3=>
   if b=true then te σ2 H3 λy H4=>∃acc,H4 D=some (.lst acc)/\acc.length<sizeLine/\Pv (i+1) (upd H4 D (.lst (acc++[y])))else Pv (i+1) H3) (hd:∀H,Pv kvs.length H->Qd H):
  ∃W:Nat->Nat->Hp->Prop,(∃m,W 0 m (upd H1 D (.lst [])))/\∀i m H,W i m H->
   ((Dy d o kvs).stop i H/\Qd H)\/((Dy d o kvs).go i H/\∃Nx:Hp->Prop,(∀H',Nx H'->∃m',m'<m/\W (i+1) m' H')/\∀x H',(Dy d o kvs).EI i H x H'->g x (wipe σ vs) H' λσ2 H2=>wipe σ2 vs=wipe σ vs/\tt σ2 H2 λb H3=>
    if b=true then te σ2 H3 λy H4=>∃acc,H4 D=some (.lst acc)/\acc.length<sizeLine/\Nx (upd H4 D (.lst (acc++[y])))else Nx H3):=by
 refine⟨λi m H=>m=kvs.length - i/\i<=kvs.length/\Pv i H,⟨kvs.length,by simp,Kk _,h0⟩,?_⟩;rintro i m H ⟨rfl,hi,p⟩;have q:=hl i H hi p
 by_cases hlt:i<kvs.length
 ·refine .inr ⟨⟨q,hlt⟩,Pv (i+1),λH' p'=>⟨kvs.length - (i+1),by omega,rfl,hlt,p'⟩,λx H' y=>?_⟩;obtain⟨e,k,v,r,h1,h2,h3⟩:=y;subst e h2;exact hs i k v r _ h1 h3 p
 ·have e:i=kvs.length:=by omega
  subst e;exact .inl ⟨⟨q,J3 _⟩,hd H p⟩
end L2
namespace Gs
open PySem PySem.Spec PyProof.Rows L2
open Mx (Up)
open Vbcnai (hostOf hasOf entryOf recordAt)
noncomputable def pz (s:State) (pt gr:Nat) (p:Nat×Nat):Option Want:=match entryOf s p.1 p.2 with
 |some e=>if p.1=gr/\e.port=pt then some e.want else none
 |none=>none
theorem jZ {α β:Type}{f:α->Option β}{l:List α}{i:Nat}{x:α}(h:l[i]? =some x):(l.take (i+1)).filterMap f=(l.take i).filterMap f++(match f x with
  |some y=>[y]
  |none=>[]):=by
 rw[take_snoc h,List.filterMap_append]
 congr 1
 rw[List.filterMap_cons];cases f x<;>rfl
theorem ug {U:List Nat}{n:Nat}{s:State}(W:Wf U n s){e:Ent}(h:e∈s.entries):entryOf s e.group e.host=some e:=by
 rw[Mx.d6];exact Mx.find_key (key:=Mx.fc) Mx.lT W.es h
theorem Be {U:List Nat}{n:Nat}{s:State}(W:Wf U n s){A:List (Nat×Nat)}(hA:∀p,p∈A↔(entryOf s p.1 p.2).isSome=true) (pt gr:Nat) (v:Want):
  v∈A.filterMap (pz s pt gr)↔v∈((s.entries.filter λe=>e.port==pt&&e.group==gr).map λe=>e.want):=by
 rw[List.mem_filterMap,Kr];constructor
 ·rintro⟨p,hp,e⟩;unfold pz at e;cases hy:entryOf s p.1 p.2 with
  |none=>rw[hy]at e;cases e
  |some y=>
   rw[hy]at e;dsimp only at e;obtain⟨h1,h2,h3⟩:=eD hy;split at e
   ·rename_i hc;refine⟨y,List.mem_filter.mpr ⟨h1,?_⟩,JU e⟩;simp[hc.2,h2,hc.1]
   ·cases e
 ·rintro⟨y,hy,e⟩;obtain⟨h1,h2⟩:=List.mem_filter.mp hy;rw[JS,beq_iff_eq,beq_iff_eq]at h2;have hu:=ug W h1;refine⟨(y.group,y.host),(hA _).mpr (by show(entryOf s y.group y.host).isSome=true;rw[hu];rfl),?_⟩;unfold pz;rw[show entryOf s (y.group,y.host).1 (y.group,y.host).2=some y from hu];dsimp only;rw[if_pos ⟨h2.2,h2.1⟩,e]
theorem uh {U:List Nat}{n:Nat}{s:State}(W:Wf U n s){A:List (Nat×Nat)}(hA:∀p,p∈A↔(entryOf s p.1 p.2).isSome=true){pt gr:Nat}{x:Want}
  (h:z6 (A.filterMap (pz s pt gr)++if(bx s (pt,gr)).isSome=true then[Vbcnai.all_]else[]) x):x=recordAt s pt gr:=by
 have hm:=Be W hA pt gr;have hup:∀v∈((s.entries.filter λe=>e.port==pt&&e.group==gr).map λe=>e.want),Up v.list:=λv hv=>by
  obtain⟨y,hy,e⟩:=Kr.mp hv;rw[←e];exact(W.ei y (List.mem_filter.mp hy).1).1.1
 have m1:=Ba hup;unfold Vbcnai.recordAt;dsimp only;rw[qy]
 by_cases hp:(bx s (pt,gr)).isSome=true
 ·rw[if_pos hp]at h ⊢;refine h.uniq (m1.snoc (y:=Vbcnai.all_) List.Pairwise.nil) λv=>?_;rw[Ky,Ky,hm]
 ·rw[if_neg hp]at h ⊢;rw[Ks]at h;exact h.uniq m1 hm
section
variable{P:Program}{w:World}{K:PySem.W.Frag}{mg:Str->Option Value}{base:Heap}{c:Cs}
noncomputable def Em (K:PySem.W.Frag) (c:Cs):Sp:=λvs H Q _=>∃(g:Role->Addr) (s:State) (pt gr:Nat) (U:List Nat) (n:Nat),vs=[.ref (g .sw),.int pt,.int gr]/\ax K c H g s/\Wf U n s/\Sm U/\n<=400/\
 ∀(H':Hp) (t:Addr),aw H H'->bC K H' t (recordAt s pt gr)->ji U (recordAt s pt gr)->Q (.ref t) H'
theorem d4 (T:Tx K mg c):Me P w K mg base c.Switch "record" 2 ["self","port","group"] (Em K c):=by
 refine T.fW.ok jd (λvs H Q E h=>?_) (λf cdv A outer s H vs Q E hr h=>?_)
 ·obtain⟨g,s,pt,gr,U,n,rfl,_⟩:=h;rfl
 ·obtain⟨g,z,pt,gr,U,n,rfl,N,W,hU,hn,k⟩:=h;have nd:=jd.nd;have hu:=cX hr;refine⟨_,(af (AY (sN (i:=3) rfl nd rfl rfl (wA rfl rfl rfl rfl) (wD (aB (pv 0))) (own:=[("key",4)]) (dG rfl) (λ_ _ _ _ _=>bH (i:=4) nd rfl (Or.inl rfl)) (λ_ _ _ _ _=>f9 (PW.pt (pL (aE bj (aI (o7 (K:=K)) (pv 4) ah (λ_ _=>rfl)) (pv 2) (aD _)) (lM (aE bj (kf (K:=K) (cO hu (kf (K:=K) (pv 0)) (pv 4) (λ_ _=>rfl))) (pv 1) (aD _)))))) (λ_ _ _ _ _=>(kf (K:=K) (cO hu (kf (K:=K) (pv 0)) (pv 4) (λ_ _=>rfl))))))
   (af (aF (dB (sP hu (bS (aa (pv 1) (aa (pv 2) ae))) (aB (pv 0))))
   (ag (aM (i3 PySem.F.plainAttrs_list PySem.F.slot_list_append PySem.F.type_list_append i4 (pv 3) (aa (sS T.jF) ae))))
   au)
   (ag (aj (az (tW T.toTxt) hr (aa (pv 3) ae)))))),?_⟩
  have clS:=T.aL.cl;obtain⟨ds,es⟩:=N.pJ;obtain⟨fe,⟨kvs,e1,D⟩,d2⟩:=N.ent;obtain⟨A,eA,nA⟩:=D.keys;have lenA:kvs.length=A.length:=by
   have:=congrArg List.length eA;rw[JQ,JQ]at this;exact this
  have hA:∀p,p∈A↔(entryOf z p.1 p.2).isSome=true:=λp=>by rw[D.mem eA,bL (d2 p)]
  have lenE:A.length=z.entries.length:=by
   rw[(r8 nA W.B5 λp=>(hA p).trans (fN p)).length_eq,JQ]
  have swen:g .sw≠g .en:=λe=>nomatch (N.inj .sw .en trivial trivial e);refine⟨g .en,_,e1,trivial,λod=>?_⟩;have esf:(upd H (g .en) (.d5 od (.dT kvs))) (g .sw)=some (.ins c.Switch ds (pI g z)):=by rw[ak swen];exact es
  have enf:(upd H (g .en) (.d5 od (.dT kvs))) (g .en)=some (.d5 od (.dT kvs)):=ab;have bf:fG (g .en) H (upd H (g .en) (.d5 od (.dT kvs))):=fG.refl.upd;have kpf:Kp c H (upd H (g .en) (.d5 od (.dT kvs))):=λb o e im=>bf b o e λzz=>by rw[zz,e1]at e;cases e;exact im
  generalize (upd H (g .en) (.d5 od (.dT kvs)))=Hf at esf enf bf kpf;have fd:∀{H':Hp}{f:Str}{v:V},H' (g .sw)=some (.ins c.Switch ds (pI g z))->ay K c.Switch f->(pI g z).lookup f=some v->Fd K H' (g .sw) f v:=λe na l=>⟨_,ds,_,e,clS,na,l⟩;refine⟨_,rfl,_,_,rfl,fd esf T.aJ rfl,g .en,od,rfl,.inr ⟨kvs,enf,λDn hD=>?_⟩⟩;refine uf (Pv:=λi H''=>aw Hf H''/\∃ts:List Addr,H'' Dn=some (.lst (ts.map V.ref))/\fF K H ts ((A.take i).filterMap (pz z pt gr))/\ts.length<=i)
   ⟨aw.new hD,[],ab,.nil,J3 _⟩ (λi H'' _ h=>h.1 _ _ enf) ?_ ?_
  ·rintro i kk v q H'' hi hq ⟨s5,ts,h5,h6,h7⟩;obtain⟨p,hp,ekk⟩:∃p,A[i]? =some p/\kk=eT p:=by
    have:(kvs.map (·.1))[i]? =some kk:=by rw[J5,hi];rfl
    rw[eA,J5]at this;cases e:A[i]? with
    |none=>rw[e]at this;cases this
    |some p=>rw[e]at this;exact⟨p,rfl,(JU this).symm⟩
   subst ekk;obtain⟨y,hy⟩:=Kw.mp ((hA p).mp (Kd hp));have q2:=d2 p;rw[hy]at q2;obtain⟨ea,hfe,tX⟩:∃ea,fe p=some (.ref ea)/\bW K c H ea y:=by
    cases hf:fe p with
    |none=>rw[hf]at q2;exact q2.elim
    |some v=>
     rw[hf]at q2;obtain⟨ea,rfl,h⟩:=q2;exact⟨ea,rfl,h⟩
   have hea5:=tX.keep (kpf.trans s5.kp);have hq':H'' q=some (.tup [.int p.1,.int p.2]):=hq;have hg:fb H'' (g .en) (.ref q) (some (.ref ea)):=by
    have e:=D.val p;rw[hfe]at e;exact .inr ⟨kvs,eT p,q,.inr ⟨od,s5 _ _ enf⟩,rfl,hq,e.symm⟩
   have hlen:i<A.length:=(J2.mp hp).1;have hW:=W.en;obtain⟨wt,hfw,hww⟩:=hea5.wt T;refine⟨rfl,_,rfl,q,_,_,_,rfl,rfl,.inl (.inl hq'),rfl,_,rfl,rfl,_,rfl,b7 (λc1=>?_) (λc1=>?_)⟩
   ·have c1':p.1=gr:=by
     have:=J0 c1;injection this with this;omega
    refine⟨_,rfl,_,_,rfl,fd (s5 _ _ esf) T.aJ rfl,_,rfl,_,_,rfl,hg,_,_,rfl,hea5.f T T.cP (λ_=>rfl),_,rfl,rfl,_,rfl,b7 (λc2=>?_) (λc2=>?_)⟩
    ·have c2':y.port=pt:=by
      have:=J0 c2;injection this with this;omega
     have esel:pz z pt gr p=some y.want:=by
      unfold pz;rw[hy];dsimp only;rw[if_pos ⟨c1',c2'⟩]
     obtain⟨dx,wt0,he0,hw0⟩:=tX;have he5:=(kpf.trans s5.kp) _ _ he0 (.inr (.inr rfl));have hfw0:Fd K H'' ea "want" (.ref wt0):=⟨_,dx,_,he5,T.cQ.cl,T.eQ,rfl⟩;refine⟨_,rfl,_,_,rfl,fd (s5 _ _ esf) T.aJ rfl,_,rfl,_,_,rfl,hg,_,_,rfl,hfw0,_,h5,?_,s5.loc hD,ts++[wt0],?_,?_,?_⟩
     ·rw[JQ];show _<2^24;omega
     ·rw[ab,Ki];rfl
     ·rw[jZ hp,esel];exact Paired.snoc hw0 h6
     ·rw[JV];show _+1<=_;omega
    ·have esel:pz z pt gr p=none:=by
      unfold pz;rw[hy];dsimp only;rw[if_neg];rintro⟨_,r2⟩;exact c2 (J1 (by rw[r2]))
     exact⟨s5,ts,h5,by rw[jZ hp,esel,Ks];exact h6,by omega⟩
   ·have esel:pz z pt gr p=none:=by
     unfold pz;rw[hy];dsimp only;rw[if_neg];rintro⟨r1,_⟩;exact c1 (J1 (by rw[r1]))
    exact aQ (λz=>nomatch z) ⟨s5,ts,h5,by rw[jZ hp,esel,Ks];exact h6,by omega⟩
  ·rintro H'' ⟨s5,ts,h5,h6,h7⟩;rw[lenA,Kt]at h6;rw[lenA]at h7;refine⟨s5 _ _ enf,?_⟩;have DnE:Dn≠g .en:=λzz=>by rw[zz,enf]at hD;cases hD
   have s3:aw H (upd H'' (g .en) (.dT kvs)):=λb o e=>by
    by_cases zz:b=g .en
    ·rw[zz]at e ⊢;rw[ab,←e,e1]
    ·rw[ak zz];exact s5 _ _ (bf _ _ e zz)
   have hD3:(upd H'' (g .en) (.dT kvs)) Dn=some (.lst (ts.map V.ref)):=by rw[ak DnE];exact h5
   have HDn:H Dn=none:=by
    cases e:H Dn with
    |none=>rfl
    |some o=>rw[bf _ _ e DnE]at hD;cases hD
   generalize (upd H'' (g .en) (.dT kvs))=H3 at s3 hD3;have N3:=N.same T.dist s3;have hin:∀v∈A.filterMap (pz z pt gr),ji U v:=λv hv=>by
    obtain⟨y,hy,e⟩:=Kr.mp ((Be W hA pt gr v).mp hv);rw[←e];exact(W.ei y (List.mem_filter.mp hy).1).1
   have hWn:=W.en;refine⟨_,rfl,_,rfl,(by show 2<=sizeLine;decide),λt nt=>?_⟩;have s4:aw H3 (upd H3 t (.tup [.int pt,.int gr])):=aw.new nt;have N4:=N3.same T.dist s4;have ht:(upd H3 t (.tup [.int pt,.int gr])) t=some (.tup [.int pt,.int gr]):=ab;have hD4:=s4 _ _ hD3;generalize (upd H3 t (.tup [.int pt,.int gr]))=H4 at s4 N4 ht hD4;have s34:=s3.trans s4;have hgt:=N4.rk.get ht;rw[pq]at hgt;refine⟨_,rfl,_,_,rfl,N4.sf clS T.aV rfl,_,_,rfl,hgt,_,rfl,?_⟩;rw[Kn];cases hpl:(bx z (pt,gr)).isSome with
   |true=>
    refine bG ⟨_,rfl,.inl ⟨rfl,_,ba.of hD4⟩,Dn,_,_,rfl,rfl,hD4,?_,?_⟩
    ·rw[JQ];show _<2^24;omega
    ·have s5':aw H (upd H4 Dn (.lst (ts.map V.ref++[.ref c.jB]))):=s34.loc HDn;refine⟨_,rfl,Dn,ts++[c.jB],A.filterMap (pz z pt gr)++[Vbcnai.all_],U,rfl,ba.of (by rw[ab,Ki];rfl),Paired.snoc (T.nP _) (fF.keep h6 s5'.tk),λv hv=>?_,hU,λH6 p x s6 w6 m6 i6=>?_⟩
     ·rcases Ky.mp hv with q|q
      ·exact hin v q
      ·rw[J6.mp q];exact In.nil
     ·have ex:=uh W hA (x:=x) (by rw[if_pos hpl];exact m6);subst ex;exact k H6 p (s5'.trans s6) w6 i6
   |false=>
    refine bX ⟨_,rfl,Dn,ts,A.filterMap (pz z pt gr),U,rfl,ba.of hD4,fF.keep h6 s34.tk,hin,hU,λH6 p x s6 w6 m6 i6=>?_⟩;have ex:=uh W hA (x:=x) (by rw[if_neg (by rw[hpl];exact λz=>nomatch z),Ks];exact m6);subst ex;exact k H6 p (s34.trans s6) w6 i6
end
end Gs
namespace Gs
open PySem PySem.Spec PyProof.Rows L2
open Mx (Up)
open Vbcnai (hostOf hasOf entryOf recordAt findHost wanted hasAsker isLocal)
section
variable{P:Program}{w:World}{K:PySem.W.Frag}{mg:Str->Option Value}{base:Heap}{c:Cs}
noncomputable def Ce (s:State) (q gr src:Nat):Bool:=isLocal gr||(hasAsker s q||(recordAt s q gr).has src)
noncomputable def FN (K:PySem.W.Frag) (c:Cs):Sp:=λvs H Q _=>∃(g:Role->Addr) (s:State) (q gr src:Nat) (U:List Nat) (n:Nat),vs=[.ref (g .sw),.int q,.int gr,.int src]/\ax K c H g s/\Wf U n s/\Sm U/\n<=400/\
 ∀H',aw H H'->Q (.bl (Ce s q gr src)) H'
theorem Ah (s:State) (q:Nat):(if q∈s.fixed then some (V.bl true)else none).isSome=s.fixed.contains q:=by
 by_cases e:q∈s.fixed
 ·rw[if_pos e,List.contains_iff_mem.mpr e];rfl
 ·rw[if_neg e];cases h:s.fixed.contains q with
  |true=>exact absurd (List.contains_iff_mem.mp h) e
  |false=>rfl
theorem Ai (s:State) (q:Nat):(cU s q).isSome=s.heard.any λx=>x.1==q:=by
 unfold cU;rw[Bool.eq_iff_iff,List.any_eq_true,List.find?_isSome]
theorem ui (T:Tx K mg c):Me P w K mg base c.Switch "gives" 3 ["self","port","group","source"] (FN K c):=by
 refine T.gN.ok rF (λvs H Q E h=>?_) (λf cdv A outer s H vs Q E hr h=>?_)
 ·obtain⟨g,s,q,gr,src,U,n,rfl,_⟩:=h;rfl
 ·obtain⟨g,z,q,gr,src,U,n,rfl,N,W,hU,hn,k⟩:=h;have hu:=cX hr;refine⟨_,(af (aF (PW.pt (qF (aR (az (zY T.toTxt) hr (aa (pv 2) ae))) (qF (dB (sP hu (pv 1) (aB (pv 0)))) (mT (dB (sP hu (pv 1) (aB (pv 0))))))))
   (ag (aj vh))
   au)
   (ag (aj (az (o5 T.toTxt) hr (aa (bT (pv 0) (d4 T) hr (aa (pv 1) (aa (pv 2) ae))) (aa (pv 3) ae)))))),?_⟩
  have clS:=T.aL.cl;unfold Ce Vbcnai.isLocal Vbcnai.hasAsker at k;refine⟨_,rfl,(gr:Int),rfl,_,rfl,b7 (λh=>?_) (λh=>?_)⟩
  ·have h1:=J0 h;rw[J1 (show gr<256 by omega),Bool.true_or]at k;exact bG (k H aw.tT)
  ·have h1:¬((gr:Int)<=255):=λz=>h (J1 z);rw[J9 (show ¬gr<256 by omega),Bool.false_or]at k;have hd1:=N.fix.get q;have hd2:=N.tX.get q;rw[dP]at hd1 hd2;refine⟨_,rfl,_,rfl,_,_,rfl,N.sf clS T.cJ rfl,_,_,rfl,hd1,_,rfl,?_⟩;rw[Ah];cases hf:z.fixed.contains q with
   |true=>
    rw[hf,Bool.true_or,Bool.true_or]at k;exact bG (bG (k H aw.tT))
   |false=>
    rw[hf,Bool.false_or]at k;refine bX ⟨_,rfl,_,rfl,_,_,rfl,N.sf clS T.cg rfl,_,_,rfl,hd2,_,rfl,?_⟩;rw[Kn,Ai];cases hh:z.heard.any λx=>x.1==q with
    |true=>
     rw[hh,Bool.true_or]at k;exact bG (k H aw.tT)
    |false=>
     rw[hh,Bool.false_or]at k;obtain⟨ds,es⟩:=N.pJ;exact bX ⟨_,rfl,g .sw,ds,_,rfl,es,rfl,_,rfl,_,rfl,g,z,q,gr,U,n,rfl,N,W,hU,hn,λH' t s1 hw _=>⟨_,rfl,t,_,src,rfl,hw,k H' s1⟩⟩
noncomputable def nT (x:Ho) (ps:List Nat) (gr src:Nat):Bool:=(match x.port with
 |some q=>ps.contains q
 |none=>false)&&(wanted x gr).has src
noncomputable def FO (K:PySem.W.Frag) (c:Cs):Sp:=λvs H Q _=>∃(a dw ds l:Addr) (x:Ho) (ps:List Nat) (gr src:Nat),vs=[.ref a,.ref l,.int gr,.int src]/\jV K c H a dw ds x/\ba K H l (iv ps)/\Q (.bl (nT x ps gr src)) H
theorem Bf:∀l:List Nat,EK (.int (-1)) (iv l)=false
 |[]=>rfl
 |x::l=>by
  have ih:=Bf l;unfold EK iv zs Vbcnai.ints at ih ⊢;simp only[Kq,List.any_cons];rw[ih,Bool.or_false];show BO (.int (x:Int)) (.int (-1))=false;simp only[BO];exact beq_eq_false_iff_ne.mpr (by omega)
theorem FP (T:Tx K mg c):Fn P w K mg base "takes" 2 ["host","ports","group","source"] (FO K c):=by
 refine T.wV.ok DH (λvs H Q E h=>?_) (λf cdv A outer s H vs Q E hr h=>?_)
 ·obtain⟨a,dw,ds,l,x,ps,gr,src,rfl,_⟩:=h;rfl
 ·obtain⟨a,dw,ds,l,x,ps,gr,src,rfl,hA,hl,k⟩:=h;refine⟨_,(ag (aj (mV (cn vo (aB (pv 0)) (pv 1) (by with_unfolding_all rfl)) (mU (az (o5 T.toTxt) hr (aa (bT (pv 0) (gY T) hr (aa (pv 2) ae)) (aa (pv 3) ae))))))),?_⟩;obtain⟨dx,ex⟩:=hA.obj;refine⟨_,rfl,_,_,rfl,hA.f T.a8.cl T.bo rfl,_,rfl,l,_,rfl,.inl hl,rfl,A8 _,_,rfl,?_⟩;have e:(if false=true then !EK (.int (gI x.port)) (iv ps)else EK (.int (gI x.port)) (iv ps))=(match x.port with
    |some q=>ps.contains q
    |none=>false):=by
   rw[if_neg (by simp)];cases x.port with
   |none=>exact Bf ps
   |some q=>exact z0 q ps
  rw[e];unfold nT at k;cases hc:(match x.port with
    |some q=>ps.contains q
    |none=>false)with
  |false=>
   rw[hc,Bool.false_and]at k;exact bX k
  |true=>
   rw[hc,Bool.true_and]at k;exact bG ⟨_,rfl,a,dx,_,rfl,ex,rfl,_,rfl,a,dw,ds,x,gr,rfl,hA,λt hw=>⟨_,rfl,t,_,src,rfl,hw,k⟩⟩
noncomputable def En (K:PySem.W.Frag) (c:Cs):Sp:=λvs H Q _=>∃(g:Role->Addr) (s:State) (l:Addr) (ps:List Nat) (gr src:Nat) (U:List Nat) (n:Nat),vs=[.ref (g .n),.ref l,.int gr,.int src]/\ax K c H g s/\Wf U n s/\H l=some (.lst (iv ps))/\
 ∀(H':Hp) (p:Addr),aw H H'->H p=none->H' p=some (.lst (iv (Vbcnai.takers s ps gr src)))->Q (.ref p) H'
theorem Cf (s:State) (ps:List Nat) (gr src:Nat):Vbcnai.takers s ps gr src=(s.hosts.filter λx=>nT x ps gr src).map (·.id):=rfl
theorem Eo (T:Tx K mg c):Fn P w K mg base "takers" 3 ["net","ports","group","source"] (En K c):=by
 refine T.tS.ok vB (λvs H Q E h=>?_) (λf cdv A outer s H vs Q E hr h=>?_)
 ·obtain⟨g,s,l,ps,gr,src,U,n,rfl,_⟩:=h;rfl
 ·obtain⟨g,z,l,ps,gr,src,U,n,rfl,N,W,hps,k⟩:=h;have nd:=vB.nd;have hu:=cX hr;refine⟨_,(ag (aj (sM rfl nd (du (aO (dc rfl) (by rfl) T.dg dv (aa (aB (pv 0)) ae))) (own:=[("number",4)]) (dG rfl) (λ_ _ _ _ _=>bH (i:=4) nd rfl (Or.inl rfl)) (λ_ _ _ _ _=>f9 (aR (az (FP T) hr (aa (cO hu (kf (K:=K) (pv 0)) (pv 4) (λ_ _=>rfl)) (aa (pv 1) (aa (pv 2) (aa (pv 3) ae))))))) (λ_ _ _ _ _=>(pv 4))))),?_⟩;have ids:∀m,((hostOf z m).map λ_=>V.ref (g (.ho m))).isSome=true↔m∈z.hosts.map (·.id):=λm=>by rw[Kn];exact dt m
  obtain⟨kvs,ks,e1,e2,e3⟩:=N.hosts.sorted W.ids ids;refine⟨_,rfl,_,_,rfl,N.f T.aA.cl T.aZ rfl,_,kvs,ks,rfl,e1,e2,λns q hp hs n1=>?_⟩;have en:=e3 ns hp hs;subst en;have s1:aw H (upd H q (.lst ((zs (z.hosts.map (·.id))).map V.int))):=aw.new n1;generalize hH:upd H q (.lst ((zs (z.hosts.map (·.id))).map V.int))=H1 at s1;have hl:H1 q=some (.lst (iv (z.hosts.map (·.id)))):=by rw[←hH];exact ab
  refine⟨q,rfl,⟨_,ba.of hl⟩,λD hD=>?_⟩;refine rX (K:=K) (a:=q) (xs:=iv (z.hosts.map (·.id))) (λi H''=>aw H1 H''/\H'' D=some (.lst (iv (((z.hosts.take i).filter λx=>nT x ps gr src).map (·.id)))))
   ⟨aw.new hD,ab⟩ (λi H'' _ h=>ba.of (h.1 _ _ hl)) ?_ ?_
  ·rintro i y H'' hi ⟨s5,h5⟩;obtain⟨m,hm,rfl⟩:=tV hi;obtain⟨x,hxi,hxm⟩:∃x,z.hosts[i]? =some x/\x.id=m:=by
    rw[J5]at hm;cases e:z.hosts[i]? with
    |none=>rw[e]at hm;cases hm
    |some x=>rw[e]at hm;exact⟨x,rfl,JU hm⟩
   subst hxm;have hx:=W.find (Kd hxi);have N5:=N.same T.dist (s1.trans s5);have hA:=N5.host _ _ hx;have hd:=N5.hosts.get x.id;rw[dP,hx]at hd;refine⟨rfl,_,rfl,_,_,rfl,N5.f T.aA.cl T.aZ rfl,_,rfl,_,_,rfl,hd,_,rfl,_,rfl,_,rfl,_,_,_,l,x,ps,gr,src,rfl,hA,ba.of ((s1.trans s5) _ _ hps),_,rfl,?_⟩;rw[take_snoc hxi,List.filter_append];cases hq:nT x ps gr src with
   |false=>
    refine bX ⟨s5,?_⟩;rw[List.filter_cons_of_neg (by rw[hq];exact λz=>nomatch z),List.filter_nil,Ks];exact h5
   |true=>
    refine bG ⟨_,rfl,_,h5,?_,s5.loc hD,?_⟩
    ·rw[cF,JQ];have q1:=Kh (λx=>nT x ps gr src) (z.hosts.take i);have q2:(z.hosts.take i).length<=z.hosts.length:=by rw[Kz];exact Nat.min_le_right _ _
     have q3:=W.hl;show _<2^24;omega
    ·rw[ab,List.filter_cons_of_pos (p:=λx=>nT x ps gr src) hq,List.filter_nil,Ki,nJ];rfl
  ·rintro H'' ⟨s5,h5⟩;rw[cF,JQ,Kt]at h5;exact k H'' D (s1.trans s5) (s1.nn hD) h5
noncomputable def FQ (K:PySem.W.Frag) (c:Cs):Sp:=λvs H Q _=>∃(g:Role->Addr) (s:State) (i j l:Int) (U:List Nat) (n:Nat),vs=[.ref (g .n),.int i,.int j,.int l]/\ax K c H g s/\Wf U n s/\Sm U/\n<=399/\c9 K c H g s Q (Vbcnai.doing s (.frame i j l))
theorem xf (T:Tx K mg c):Fn P w K mg base "call_frame" 4 ["net","port","group","source"] (FQ K c):=by
 refine T.jN.ok mn (λvs H Q E h=>?_) (λf cdv A outer s H vs Q E hr h=>?_)
 ·obtain⟨g,s,i,j,l,U,n,rfl,_⟩:=h;rfl
 ·obtain⟨g,z,i,j,l,U,n,rfl,N,W,hU,hn,k⟩:=h;have nd:=mn.nd;refine⟨_,(af (aF (aX (aR (bT (pv 0) (bF T) hr (aa (pv 1) ae))))
   (ag (aj (aC (aa (br aS ah) ae))))
   au)
   (af (aF (PW.pt (qF (aX (aR (az (eC T.toTxt) hr (aa (pv 2) ae)))) (mT (aX (aR (az (ig T.toTxt) hr (aa (pv 3) ae)))))))
   (ag (aj (aC (aa (br aS ah) ae))))
   au)
   (af (sN (i:=4) rfl nd rfl rfl (wA rfl rfl rfl rfl) (pM rfl T.oY (aa (aB (pv 0)) ae)) (own:=[("other",5)]) (dG rfl) (λ_ _ _ _ _=>bH (i:=5) nd rfl (Or.inl rfl)) (λ_ _ _ _ _=>f9 (PW.pt (pL (aE vi (pv 5) (pv 1) (aD _)) (lM (aR (bT (kf (K:=K) (pv 0)) (ui T) hr (aa (pv 5) (aa (pv 2) (aa (pv 3) ae))))))))) (λ_ _ _ _ _=>(pv 5)))
   (ag (aj (cu fR (cu fR (aC (aa ah ae)) (az (jj T.toTxt) hr (aa (pv 4) ae))) (az (jj T.toTxt) hr (aa (az (Eo T) hr (aa (pv 0) (aa (pv 4) (aa (pv 2) (aa (pv 3) ae))))) ae)))))))),?_⟩
  obtain⟨dn,en⟩:=N.nM;have clN:=T.aA.cl;unfold Vbcnai.doing at k;dsimp only at k;refine⟨_,rfl,g .n,dn,_,rfl,en,rfl,_,rfl,g,z,i,rfl,N,_,rfl,?_⟩;cases hp:Vbcnai.isPort z i with
  |false=>
   rw[if_pos hp]at k;exact bG ⟨_,rfl,k.cV N T.dist⟩
  |true=>
   rw[if_neg (by rw[hp];exact λz=>nomatch z)]at k;refine bX ⟨_,rfl,j,rfl,_,rfl,?_⟩;cases hg:Vbcnai.isGroup j with
   |false=>
    rw[hg,Bool.false_and,if_pos rfl]at k;exact bG (bG ⟨_,rfl,k.cV N T.dist⟩)
   |true=>
    rw[hg,Bool.true_and]at k;refine bX ⟨_,rfl,l,rfl,_,rfl,?_⟩;have esrc:Vbcnai.within l 0 (2^32 - 1)=ck l:=rfl;rw[esrc]at k;cases hs:ck l with
    |false=>
     rw[if_pos hs]at k;exact bG ⟨_,rfl,k.cV N T.dist⟩
    |true=>
     rw[if_neg (by rw[hs];exact λz=>nomatch z)]at k;obtain⟨ei,hip⟩:=dQ hp;obtain⟨ej,_⟩:=cA hg;have el:l=(l.toNat:Int):=by
      unfold ck Vbcnai.within at hs;rw[JS,JT]at hs;omega
     generalize i.toNat=pt at k ei hip;generalize j.toNat=gr at k ej;generalize l.toNat=src at k el;subst ei ej el;have k:=c9.zl k N T.dist;have hp64:=W.cp;refine bX ⟨_,rfl,_,_,rfl,N.f clN T.di rfl,(z.ports:Int),rfl,(by omega),(by omega),λD hD=>?_⟩;rw[Ko]
     let good:Nat->Bool:=λq=>q != pt&&Ce z q gr src
     refine yd (lo:=0) (n:=z.ports) (λi H''=>aw H H''/\H'' D=some (.lst (iv ((List.range i).filter good)))) ⟨aw.new hD,ab⟩ ?_ ?_
     ·rintro q H'' hq ⟨s5,h5⟩;have N5:=N.same T.dist s5;obtain⟨ds,es⟩:=N5.pJ;have e0:(0:Int)+(q:Int)=(q:Int):=Int.zero_add _;rw[e0];have hlen:(iv ((List.range q).filter good)).length<sizeLine:=by
       rw[cF];have:=Kh good (List.range q);rw[List.length_range]at this;show _<2^24;omega
      have step:∀b,good q=b->if b=true then iv ((List.range (q+1)).filter good)=iv ((List.range q).filter good)++[.int (q:Int)]else iv ((List.range (q+1)).filter good)=iv ((List.range q).filter good):=λb hb=>by
       rw[List.range_succ,List.filter_append];cases b with
       |true=>
        refine bG ?_;rw[DX hb,nJ];rfl
       |false=>
        refine bX ?_;rw[DY (by rw[hb];exact λz=>nomatch z),Ks]
      refine⟨rfl,_,rfl,_,rfl,rfl,_,rfl,?_⟩
      by_cases hqp:q=pt
      ·have hb:good q=false:=by simp only[good];rw[hqp];simp
       have:=step false hb;refine aQ (by rw[hqp];simp) (aQ (λz=>nomatch z) ⟨s5,?_⟩);rw[if_neg (λz=>nomatch z)]at this;rw[this];exact h5
      ·have hne:(!decide (V.int (q:Int)=V.int (pt:Int)))=true:=by
        rw[J9]
        ·rfl
        ·intro z;injection z with z;omega
       refine bK hne ⟨_,rfl,_,_,rfl,N5.f clN T.aN rfl,g .sw,ds,_,rfl,es,rfl,_,rfl,_,rfl,_,rfl,g,z,q,gr,src,U,n,rfl,N5,W,hU,(by omega),λH6 s6=>?_⟩;have hb:good q=Ce z q gr src:=by simp only[good];simp[hqp]
       have:=step (Ce z q gr src) hb;refine⟨_,rfl,?_⟩;cases hgo:Ce z q gr src with
       |true=>
        rw[hgo,if_pos rfl]at this;refine bG ⟨_,rfl,_,s6 _ _ h5,hlen,(s5.trans s6).loc hD,?_⟩;rw[ab,this]
       |false=>
        rw[hgo,if_neg (λz=>nomatch z)]at this;refine bX ⟨s5.trans s6,?_⟩;rw[this];exact s6 _ _ h5
     ·rintro H1 ⟨s1,h1⟩;have eg:Vbcnai.goesTo z pt gr src=(List.range z.ports).filter good:=rfl;rw[eg]at k;have lenp:((List.range z.ports).filter good).length<=64:=by
       have:=Kh good (List.range z.ports);rw[List.length_range]at this;omega
      generalize (List.range z.ports).filter good=ps at k h1 lenp;have lent:(Vbcnai.takers z ps gr src).length<=256:=by
       rw[Cf,JQ];exact Kj (Kh _ _) W.hl
      have HD:H D=none:=hD;refine⟨(by show 1<=sizeLine;decide),λp2 n2=>?_⟩;have s2:=s1.up (o:=.lst [.int 0]) n2;have h12:(upd H1 p2 (.lst [.int 0])) D=some (.lst (iv ps)):=aw.new n2 _ _ h1;have e2:(upd H1 p2 (.lst [.int 0])) p2=some (.lst [.int 0]):=ab;generalize upd H1 p2 (.lst [.int 0])=H2 at s2 h12 e2;refine⟨_,rfl,D,zs ps,rfl,.inl (ba.of h12),(by rw[dC];unfold big;omega),λH3 p3 s3 n3 e3=>?_⟩;refine⟨p2,p3,_,_,rfl,rfl,s3 _ _ e2,e3,?_,λp4 n4=>?_⟩
      ·simp only[JQ,Kb,List.length_nil,dC];show _<=2^24;omega
      ·have s23:=s2.trans s3;have s4:=s23.up (o:=.lst ([V.int 0]++(((zs ps).length:Int)::zs ps).map V.int)) n4;have e4:(upd H3 p4 (.lst ([V.int 0]++(((zs ps).length:Int)::zs ps).map V.int))) p4=some (.lst ([V.int 0]++(((zs ps).length:Int)::zs ps).map V.int)):=ab;have h14:=aw.new (o:=.lst ([V.int 0]++(((zs ps).length:Int)::zs ps).map V.int)) n4 _ _ (s3 _ _ h12);generalize (upd H3 p4 (.lst ([V.int 0]++(((zs ps).length:Int)::zs ps).map V.int)))=H4 at s4 e4 h14;have N4:=N.same T.dist s4;refine⟨_,rfl,_,rfl,_,rfl,_,rfl,g,z,D,ps,gr,src,U,n,rfl,N4,W,h14,λH5 p5 s5 n5 e5=>?_⟩;refine⟨p5,zs (Vbcnai.takers z ps gr src),rfl,.inl (ba.of e5),(by rw[dC];unfold big;omega),λH6 p6 s6 n6 e6=>?_⟩;refine⟨p4,p6,_,_,rfl,rfl,(s5.trans s6) _ _ e4,e6,?_,λp7 n7=>?_⟩
       ·simp only[JQ,JV,Kb,List.length_nil,dC];show _<=2^24;omega
       ·have s46:=(s4.trans s5).trans s6;refine k _ p7 (s46.up n7) (s46.nn n7) ?_;rw[ab,dC,dC]
        congr 2
        simp[Ki]
theorem uX (T:Tx K mg c):Fn P w K mg base "call_record" 3 ["net","port","group"] (yN K c .record):=by
 refine T.iO.ok tE (λvs H Q E h=>?_) (λf cdv A outer s H vs Q E hr h=>?_)
 ·obtain⟨g,s,i,j,U,n,rfl,_⟩:=h;rfl
 ·obtain⟨g,z,i,j,U,n,rfl,N,W,hU,hn,k⟩:=h;refine⟨_,(af (aF (aX (aR (bT (pv 0) (bF T) hr (aa (pv 1) ae))))
   (ag (aj (aC (aa (br aS ah) ae))))
   au)
   (af (aF (aX (aR (az (eC T.toTxt) hr (aa (pv 2) ae))))
   (ag (aj (aC (aa (br aS ah) ae))))
   au)
   (ag (aj (cu fR (aC (aa ah ae)) (az (dz T.toTxt) hr (aa (bT (aB (pv 0)) (d4 T) hr (aa (pv 1) (aa (pv 2) ae))) ae))))))),?_⟩
  obtain⟨dn,en⟩:=N.nM;unfold Vbcnai.doing at k;dsimp only at k;refine⟨_,rfl,g .n,dn,_,rfl,en,rfl,_,rfl,g,z,i,rfl,N,_,rfl,?_⟩;cases hp:Vbcnai.isPort z i with
  |false=>
   rw[if_pos hp]at k;exact bG ⟨_,rfl,k.cV N T.dist⟩
  |true=>
   rw[if_neg (by rw[hp];exact λz=>nomatch z)]at k;refine bX ⟨_,rfl,j,rfl,_,rfl,?_⟩;cases hg:Vbcnai.isGroup j with
   |false=>
    rw[if_pos hg]at k;exact bG ⟨_,rfl,k.cV N T.dist⟩
   |true=>
    rw[if_neg (by rw[hg];exact λz=>nomatch z)]at k;obtain⟨ei,_⟩:=dQ hp;obtain⟨ej,_⟩:=cA hg;generalize i.toNat=pt at k ei;generalize j.toNat=gr at k ej;subst ei ej;have k:=c9.zl k N T.dist;refine bX ⟨(by show 1<=sizeLine;decide),λp0 n0=>?_⟩;have s0:aw H (upd H p0 (.lst [.int 0])):=aw.new n0;have N0:=N.same T.dist s0;obtain⟨ds,es⟩:=N0.pJ;refine⟨_,rfl,_,_,rfl,N0.f T.aA.cl T.aN rfl,g .sw,ds,_,rfl,es,rfl,_,rfl,_,rfl,g,z,pt,gr,U,n,rfl,N0,W,hU,(by omega),λH1 t s1 hw hi=>?_⟩;refine⟨t,_,rfl,hw,fL hi hU,λH2 p2 s2 n2 e2=>?_⟩;refine⟨p0,p2,_,_,rfl,rfl,(s1.trans s2) _ _ ab,e2,?_,λp3 n3=>?_⟩
    ·have:=fK (fL hi hU);rw[JQ,bP];show 1+_<=_;omega
    ·have s02:=(s0.trans s1).trans s2;refine k _ p3 (s02.up n3) (s02.nn n3) ?_;rw[ab];rfl
theorem uY (T:Tx K mg c):Fn P w K mg base "call_upward" 3 ["net","group"] (yM K c .upward):=by
 refine T.iP.ok kU (λvs H Q E h=>?_) (λf cdv A outer s H vs Q E hr h=>?_)
 ·obtain⟨g,s,j,U,n,rfl,_⟩:=h;rfl
 ·obtain⟨g,z,j,U,n,rfl,N,W,hU,hn,k⟩:=h;have nd:=kU.nd;refine⟨_,(af (aF (aX (aR (az (eC T.toTxt) hr (aa (pv 1) ae))))
   (ag (aj (aC (aa (br aS ah) ae))))
   au)
   (ag (aj (cu fR (aC (aa ah ae)) (az (dz T.toTxt) hr (aa (az (tW T.toTxt) hr (aa (sM rfl nd (pM rfl T.oY (aa (aB (pv 0)) ae)) (own:=[("port",2)]) (dG rfl) (λ_ _ _ _ _=>bH (i:=2) nd rfl (Or.inl rfl)) (λ_ _ _ _ _=>Fo) (λ_ _ _ _ _=>(bT (kf (K:=K) (pv 0)) (d4 T) hr (aa (pv 2) (aa (pv 1) ae))))) ae)) ae)))))),?_⟩
  have clN:=T.aA.cl;unfold Vbcnai.doing at k;dsimp only at k;refine⟨_,rfl,j,rfl,_,rfl,?_⟩;cases hg:Vbcnai.isGroup j with
  |false=>
   rw[if_pos hg]at k;exact bG ⟨_,rfl,k.cV N T.dist⟩
  |true=>
   rw[if_neg (by rw[hg];exact λz=>nomatch z)]at k;obtain⟨ej,_⟩:=cA hg;generalize j.toNat=gr at k ej;subst ej;have k:=c9.zl k N T.dist;refine bX ⟨(by show 1<=sizeLine;decide),λp0 n0=>?_⟩;have s0:aw H (upd H p0 (.lst [.int 0])):=aw.new n0;have N0:=N.same T.dist s0;have e0:(upd H p0 (.lst [.int 0])) p0=some (.lst [.int 0]):=ab;generalize (upd H p0 (.lst [.int 0]))=H0 at s0 N0 e0;have hp64:=W.cp;refine⟨_,rfl,_,_,rfl,N0.f clN T.di rfl,(z.ports:Int),rfl,(by omega),(by omega),λD hD=>?_⟩;rw[Ko];refine yd (lo:=0) (n:=z.ports) (λi H''=>aw H0 H''/\∃ts:List Addr,H'' D=some (.lst (ts.map V.ref))/\fF K H'' ts ((List.range i).map λp=>recordAt z p gr)/\∀v∈(List.range i).map (λp=>recordAt z p gr),ji U v) ⟨aw.new hD,[],ab,.nil,λv hv=>nomatch hv⟩ ?_ ?_
   ·rintro q H'' hq ⟨s5,ts,h5,h6,h7⟩;have N5:=N0.same T.dist s5;obtain⟨ds,es⟩:=N5.pJ;have ez:(0:Int)+(q:Int)=(q:Int):=Int.zero_add _;rw[ez];refine⟨rfl,?_⟩;refine⟨_,rfl,_,_,rfl,N5.f clN T.aN rfl,g .sw,ds,_,rfl,es,rfl,_,rfl,_,rfl,g,z,q,gr,U,n,rfl,N5,W,hU,(by omega),λH6 t s6 hw hi=>?_⟩;have hlen:ts.length=q:=by
     have:=Paired.length h6;rw[JQ,List.length_range]at this;exact this
    have s56:=s5.trans s6;have hDn:Tk H6 (upd H6 D (.lst (ts.map V.ref++[.ref t]))):=Tk.upd (s6 _ _ h5) λxs z=>nomatch z;refine⟨_,s6 _ _ h5,by rw[JQ];show _<2^24;omega,s56.loc hD,ts++[t],by rw[ab,Ki];rfl,?_,?_⟩
    ·rw[List.range_succ,Ki];exact Paired.snoc (hw.keep hDn) (fF.keep (fF.keep h6 s6.tk) hDn)
    ·rw[List.range_succ,Ki];intro v hv;rcases Ky.mp hv with r|r
     ·exact h7 v r
     ·rw[J6.mp r];exact hi
   ·rintro H1 ⟨s1,ts,h1,h6,h7⟩;refine⟨D,ts,_,U,rfl,ba.of h1,h6,h7,hU,λH2 p2 x s2 w2 m2 i2=>?_⟩;have ex:x=Vbcnai.upwardOf z gr:=m2.uniq (Ba λv hv=>(h7 v hv).1) λv=>Iff.rfl;subst ex;refine⟨p2,_,rfl,w2,fL i2 hU,λH3 p3 s3 n3 e3=>?_⟩;have s13:=(s1.trans s2).trans s3;refine⟨p0,p3,_,_,rfl,rfl,s13 _ _ e0,e3,?_,λp4 n4=>?_⟩
    ·have:=fK (fL i2 hU);rw[JQ,bP];show 1+_<=_;omega
    ·have s03:=s0.trans s13;refine k _ p4 (s03.up n4) (s03.nn n4) ?_;rw[ab];rfl
end
end Gs
namespace Gs
open PySem PySem.Spec PyProof.Rows L2
open Mx (Up)
open Vbcnai (hostOf hasOf entryOf recordAt findHost wanted)
section
variable{P:Program}{w:World}{K:PySem.W.Frag}{mg:Str->Option Value}{base:Heap}{c:Cs}
theorem xg (T:Tx K mg c):Fn P w K mg base "call_entry" 3 ["net","host","group"] (yN K c .entry):=by
 refine T.jP.ok mz (λvs H Q E h=>?_) (λf cdv A outer s H vs Q E hr h=>?_)
 ·obtain⟨g,s,i,j,U,n,rfl,_⟩:=h;rfl
 ·obtain⟨g,z,i,j,U,n,rfl,N,W,hU,hn,k⟩:=h;have nd:=mz.nd;have hu:=cX hr;refine⟨_,(af (aT (i:=3) nd rfl (Or.inl rfl) (kH hu (aB (aB (pv 0))) (bS (aa (pv 2) (aa (pv 1) ae))) ⟨rfl,rfl,rfl,rfl⟩))
   (af (aF (dB (kq (pv 3)))
   (ag (aj (aC (aa (br aS ah) ae))))
   au)
   (ag (aj (cu fR (aC (aa ah (aa (aB (pv 3)) (aa (aB (pv 3)) (aa (cu wa (aB (pv 3)) (aB (pv 0))) ae))))) (az (dz T.toTxt) hr (aa (aB (pv 3)) ae))))))),?_⟩
  have clN:=T.aA.cl;unfold Vbcnai.doing at k;dsimp only at k;obtain⟨fe,d1,d2⟩:=N.ent;refine⟨_,rfl,_,_,rfl,N.f clN T.aN rfl,_,_,rfl,N.sf T.aL.cl T.aJ rfl,_,rfl,d1.Gf,_,rfl,_,rfl,(by show 2<=sizeLine;decide),λt nt=>?_⟩;have s1:aw H (upd H t (.tup [.int j,.int i])):=aw.new nt;have N1:=N.same T.dist s1;have d11:=d1.keep (H':=upd H t (.tup [.int j,.int i])) λo e=>s1 _ _ e;refine⟨_,d11.get ab,?_⟩;have key:kg (bW K c H) (uO fe j i) (if(decide (0<=i)&&Vbcnai.isGroup j)=true then entryOf z j.toNat i.toNat else none):=by
   unfold uO
   by_cases h:0<=j/\0<=i
   ·rw[if_pos h];have q:=d2 (j.toNat,i.toNat)
    by_cases hg:Vbcnai.isGroup j=true
    ·rw[J1 h.2,hg,Bool.true_and,if_pos rfl];exact q
    ·have hn:entryOf z j.toNat i.toNat=none:=by
      cases hy:entryOf z j.toNat i.toNat with
      |none=>rfl
      |some y=>
       obtain⟨h1,h2,_⟩:=eD hy;have h3:=(W.ei y h1).2.2;exfalso;apply hg;unfold Vbcnai.isGroup Vbcnai.within;rw[JS,JT,JT];have:(2:Int)^28 - 1=268435455:=by decide
       omega
     have q:kg (bW K c H) (fe (j.toNat,i.toNat)) (entryOf z j.toNat i.toNat):=q;rw[hn]at q;rw[eq_false_of_ne_true hg,Bool.and_false,if_neg (λz=>nomatch z)];exact q
   ·rw[if_neg h,if_neg]
    ·trivial
    ·rw[JS,JT];rintro⟨h1,h2⟩;obtain⟨e,_⟩:=cA h2;exact h ⟨by omega,h1⟩
  have hin:∀y,(if(decide (0<=i)&&Vbcnai.isGroup j)=true then entryOf z j.toNat i.toNat else none)=some y->y∈z.entries:=λy hy=>by
   split at hy
   ·exact(eD hy).1
   ·cases hy
  generalize (if(decide (0<=i)&&Vbcnai.isGroup j)=true then entryOf z j.toNat i.toNat else none)=oe at k key hin;cases hv:uO fe j i with
  |none=>
   rw[hv]at key;cases oe with
   |some y=>exact key.elim
   |none=>exact⟨_,rfl,_,rfl,bK rfl ⟨_,rfl,k.ret N1 T.dist (Mv.of_same s1)⟩⟩
  |some v=>
   rw[hv]at key;cases oe with
   |none=>exact key.elim
   |some y=>
    obtain⟨b,rfl,hb⟩:=key;obtain⟨iy,ty,_⟩:=W.ei y (hin y rfl);have hb1:=hb.keep (s1.kp (c:=c));have k:=c9.zl k N T.dist;refine⟨_,rfl,_,rfl,aQ (λz=>nomatch z) ⟨_,rfl,_,_,rfl,hb1.f T T.cP (λ_=>rfl),_,rfl,_,_,rfl,hb1.f T T.cI (λ_=>rfl),_,rfl,_,_,rfl,hb1.f T T.dM (λ_=>rfl),_,rfl,_,_,rfl,N1.f clN T.bA rfl,_,_,rfl,rfl,(by show 4<=sizeLine;decide),λp0 n0=>?_⟩⟩;have s0:=s1.up (o:=.lst [.int 0,.int y.port,.int y.serial,.int ((y.until_:Int) - (z.now:Int))]) n0;have hb0:=hb1.keep ((aw.new (o:=.lst [.int 0,.int y.port,.int y.serial,.int ((y.until_:Int) - (z.now:Int))]) n0).kp (c:=c));obtain⟨wt,hF,hw⟩:=hb0.wt T;refine⟨_,rfl,_,_,rfl,hF,wt,_,rfl,hw,fL iy hU,λH2 p2 s2 n2 e2=>?_⟩;refine⟨p0,p2,_,_,rfl,rfl,s2 _ _ ab,e2,?_,λp3 n3=>?_⟩
    ·have:=fK (fL iy hU);rw[JQ,bP];show 4+_<=_;omega
    ·have s02:=s0.trans s2;refine k _ p3 (s02.up n3) (s02.nn n3) ?_;have et:(y.until_:Int) - (z.now:Int)=((y.until_ - z.now:Nat):Int):=by omega
     rw[ab,←et];rfl
theorem uZ (T:Tx K mg c):Fn P w K mg base "call_counts" 2 ["net"] (Hq K c .counts):=by
 refine T.iS.ok kX (λvs H Q E h=>?_) (λf cdv A outer s H vs Q E hr h=>?_)
 ·obtain⟨g,s,U,n,rfl,_⟩:=h;rfl
 ·obtain⟨g,z,U,n,rfl,N,W,hU,hn,k⟩:=h;have nd:=kX.nd;refine⟨_,(af (aT (i:=1) nd rfl (Or.inl rfl) (aB (pv 0)))
   (ag (aj (aC (aa ah (aa (aB (pv 0)) (aa (aB (pv 0)) (aa (aB (pv 0)) (aa (aO lS (by rfl) T.dJ cT (aa (aB (pv 1)) ae)) (aa (aO lS (by rfl) T.dJ cT (aa (aB (pv 1)) ae)) (aa (bT (pv 0) (mN T) hr (aa (aB (pv 1)) ae)) (aa (bT (pv 0) (mN T) hr (aa (aB (pv 1)) ae)) (aa (aO bu (by rfl) T.dJ cT (aa (aB (pv 0)) ae)) ae))))))))))))),?_⟩
  have clN:=T.aA.cl;have clS:=T.aL.cl;have k:=c9.zl k N T.dist;obtain⟨dn,en⟩:=N.nM;obtain⟨fe,d1,d2⟩:=N.ent;obtain⟨k1,e1,l1⟩:=d1.len W.B5 λp=>by rw[bL (d2 p)];exact fN p
  obtain⟨k2,e2,l2⟩:=N.rk.len W.pn λp=>by rw[Kn];exact fO p
  obtain⟨as,b1,b2⟩:=N.bag;have hl:=ax.lG b2;refine⟨_,rfl,_,_,rfl,N.f clN T.aN rfl,_,rfl,_,_,rfl,N.f clN T.bA rfl,_,rfl,_,_,rfl,N.f clN T.gL rfl,_,rfl,_,_,rfl,N.f clN T.fm rfl,
   _,rfl,_,_,rfl,N.sf clS T.aJ rfl,_,k1,rfl,e1,_,rfl,_,_,rfl,N.sf clS T.aV rfl,_,k2,rfl,e2,
   _,rfl,g .n,dn,_,rfl,en,rfl,_,rfl,_,_,rfl,N.sf clS T.bZ rfl,g,z,z.silent,rfl,N,
   _,rfl,g .n,dn,_,rfl,en,rfl,_,rfl,_,_,rfl,N.sf clS T.bh rfl,g,z,z.next,rfl,N,
   _,rfl,_,_,rfl,N.f clN T.cy rfl,_,_,rfl,.inl (ba.of b1),(by show 9<=sizeLine;decide),λp n=>?_⟩
  refine k _ p (aw.new n) n ?_;rw[ab,l1,l2,hl,JQ,JQ];rfl
noncomputable def Ep (K:PySem.W.Frag) (c:Cs):Sp:=λvs H Q _=>∃(a:Addr) (m:Msg) (U:List Nat),vs=[.ref a]/\dq K c H a m/\tY U m/\B3 H Q (Vbcnai.shownMsg m)
theorem rN (T:Tx K mg c):Fn P w K mg base "message_shown" 4 ["message"] (Ep K c):=by
 refine T.fX.ok je (λvs H Q E h=>?_) (λf cdv A outer s H vs Q E hr h=>?_)
 ·obtain⟨a,m,U,rfl,_⟩:=h;rfl
 ·obtain⟨a,m,U,rfl,hm,ho,k⟩:=h;have nd:=je.nd;refine⟨_,(af (aF (aR (aO DE (by rfl) T.gb mK (aa (pv 0) (aa (sS T.bE.mg) ae))))
   (af (aT (i:=1) nd rfl (Or.inl rfl) (aC (aa (bz T.tM) (aa (aB (pv 0)) (aa (aB (pv 0)) (aa (aB (pv 0)) (aa (aB (pv 0)) (aa (aB (pv 0)) ae))))))))
   (ag (aj (cu fR (pv 1) (az (o8 T.toTxt) hr (aa (aB (pv 0)) ae))))))
   au)
   (ag (aj (aC (aa (bz T.wU) (aa (aB (pv 0)) (aa (aB (pv 0)) ae))))))),?_⟩
  cases m with
  |report h p gr q st e=>
   have hm0:=hm;obtain⟨dx,u,e1,_⟩:=hm;have i:=T.HI c.bc (by simp);refine⟨_,rfl,.ref a,.ref c.bc,c.bc,true,rfl,.ins e1 T.bE.cl i.1 T.Gh.1 T.Gh.2 i.2,T.JD,_,rfl,bG ?_⟩;refine⟨_,rfl,_,_,rfl,hm0.f T T.c0 (λ_=>rfl),_,rfl,_,_,rfl,hm0.f T T.cE (λ_=>rfl),_,rfl,_,_,rfl,hm0.f T T.cc (λ_=>rfl),_,rfl,_,_,rfl,hm0.f T T.bY (λ_=>rfl),_,rfl,_,_,rfl,hm0.f T T.c4 (λ_=>rfl),(by show 6<=sizeLine;decide),λp0 n0=>?_⟩;have s0:aw H (upd H p0 (.lst [.int 0,.int h,.int p,.int gr,.int q,.int st])):=aw.new n0;obtain⟨v,hF,hse⟩:=(hm0.keep (s0.kp (c:=c))).st T;refine⟨_,rfl,_,rfl,_,_,rfl,hF,v,e,rfl,hse,(by have:=ho.2.1;unfold big;omega),λH2 p2 s2 n2 e2=>?_⟩;refine⟨p0,p2,_,_,rfl,rfl,s2 _ _ ab,e2,?_,λp3 n3=>?_⟩
   ·have q1:=dO e;have q2:=ho.2.1;rw[JQ];show 6+_<=2^24;omega
   ·have s02:=s0.trans s2;refine k _ p3 (s02.up n3) (s02.nn n3) ?_;rw[ab];rfl
  |query p q=>
   have hm0:=hm;obtain⟨dx,e1⟩:=hm;have i:=T.HI c.Query (by simp);have fd:∀{f:Str}{v:V},ay K c.Query f->(uP p (gI q)).lookup f=some v->Fd K H a f v:=λna l=>⟨_,dx,_,e1,T.cD.cl,na,l⟩;refine⟨_,rfl,.ref a,.ref c.Query,c.bc,false,rfl,.ins e1 T.cD.cl i.1 T.Gh.1 T.Gh.2 i.2,T.isQ,_,rfl,bX ?_⟩;refine⟨_,rfl,_,_,rfl,fd T.eP rfl,_,rfl,_,_,rfl,fd T.c5 rfl,(by show 3<=sizeLine;decide),λp0 n0=>?_⟩;refine k _ p0 (aw.new n0) n0 ?_;rw[ab];cases q<;>rfl
theorem j0 {U:List Nat}{m:Msg}(h:tY U m):(Vbcnai.shownMsg m).length<=73:=by
 cases m with
 |report a b g d t e=>
  show([0,(a:Int),(b:Int),(g:Int),(d:Int),(t:Int)]++Vbcnai.shownStep e).length<=73;rw[JV];have:=dO e;have:=h.2.1;show 6+_<=_;omega
 |query p q=>
  show 3<=73;omega
theorem Aj (T:Tx K mg c):Fn P w K mg base "call_bag" 5 ["net"] (Hq K c .bag):=by
 refine T.nE.ok qY (λvs H Q E h=>?_) (λf cdv A outer s H vs Q E hr h=>?_)
 ·obtain⟨g,s,U,n,rfl,_⟩:=h;rfl
 ·obtain⟨g,z,U,n,rfl,N,W,hU,hn,k⟩:=h;have nd:=qY.nd;refine⟨_,(af (aT (i:=1) nd rfl (Or.inl rfl) (aC (aa ah (aa (aO bu (by rfl) T.dJ cT (aa (aB (pv 0)) ae)) ae))))
   (af (fQ PassesOwn.never rfl (du (aB (pv 0))) (bH (i:=2) nd rfl (Or.inl rfl))
   (ag (aM (i3 PySem.F.plainAttrs_list PySem.F.slot_list_extend PySem.F.type_list_extend gh (pv 1) (aa (az (rN T) hr (aa (pv 2) ae)) ae)))))
   (ag (aj (pv 1))))),?_⟩
  have clN:=T.aA.cl;have k:=c9.zl k N T.dist;obtain⟨as,b1,b2⟩:=N.bag;have hl:=ax.lG b2;have hlen:as.length=z.bag.length:=Paired.length b2;refine⟨_,rfl,_,_,rfl,N.f clN T.cy rfl,_,_,rfl,.inl (ba.of b1),(by show 2<=sizeLine;decide),λp0 n0=>?_⟩;have s0:aw H (upd H p0 (.lst [.int 0,.int (as.map V.ref).length])):=aw.new n0;have N0:=N.same T.dist s0;have bound:∀i,((z.bag.take i).flatMap Vbcnai.shownMsg).length<=80000:=λi=>by
   have h6:=gU (l:=z.bag.take i) (f:=Vbcnai.shownMsg) (B:=73) λe he=>j0 (W.bm e (List.mem_of_mem_take he));have h7:(z.bag.take i).length<=z.bag.length:=by rw[Kz];exact Nat.min_le_right _ _
   have h8:=W.bl;have h9:=W.cb;have:=Nat.mul_le_mul_right 73 (show(z.bag.take i).length<=1024 by omega);omega
  refine⟨_,rfl,_,_,rfl,N0.f clN T.cy rfl,g .bg,rfl,⟨_,ba.of (s0 _ _ b1)⟩,dE (K:=K) (a:=g .bg) (xs:=as.map V.ref) (λi σ H'=>∃v:Option V,σ=[some (.ref (g .n)),some (.ref p0),v]/\aw H H'/\H' p0=some (.lst (([0,(z.bag.length:Int)]++(z.bag.take i).flatMap Vbcnai.shownMsg).map V.int)))
   ⟨none,rfl,s0,by rw[ab,hl];rfl⟩ (λi σ H' _ ⟨_,_,s7,_⟩=>ba.of (s7 _ _ b1)) ?_ ?_⟩
  ·rintro i y σ H' hi ⟨v,rfl,s7,h7⟩;obtain⟨t,ht,rfl⟩:=tU hi;obtain⟨m,hm,hmt⟩:=Paired.at_ b2 ht;have bq:=W.bm m (Kd hm);refine⟨_,rfl,.inl ⟨rfl,_,ba.of h7⟩,_,rfl,t,m,U,rfl,hmt.keep (s7.kp (c:=c)),bq,λH8 p8 s8 n8 e8=>?_⟩;refine⟨p0,p8,_,_,rfl,rfl,s8 _ _ h7,e8,?_,?_⟩
   ·have q1:=j0 bq;have q3:=bound i;rw[JQ,JQ,JV];show 2+_+_<=2^24;omega
   ·refine⟨_,rfl,(s7.trans s8).loc n0,?_⟩;rw[ab,qm hm,←Ki,List.append_assoc]
  ·rintro σ H' ⟨v,rfl,s7,h7⟩;rw[JQ,hlen,Kt]at h7;exact⟨_,rfl,k H' p0 s7 n0 h7⟩
noncomputable def dR (y:Vbcnai.Has):List Int:=[(y.group:Int),(y.serial:Int)]++Vbcnai.shownWant y.want
theorem u0 (T:Tx K mg c):Fn P w K mg base "call_hostof" 3 ["net","number"] (yM K c .hostof):=by
 refine T.iQ.ok kW (λvs H Q E h=>?_) (λf cdv A outer s H vs Q E hr h=>?_)
 ·obtain⟨g,s,i,U,n,rfl,_⟩:=h;rfl
 ·obtain⟨g,z,i,U,n,rfl,N,W,hU,hn,k⟩:=h;have nd:=kW.nd;have hu:=cX hr;refine⟨_,(af (aT (i:=2) nd rfl (Or.inl rfl) (kH hu (aB (pv 0)) (pv 1) ⟨rfl,rfl,rfl,rfl⟩))
   (af (aF (dB (kq (pv 2)))
   (ag (aj (aC (aa (br aS ah) ae))))
   au)
   (af (aT (i:=3) nd rfl (Or.inl rfl) (aC (aa ah (aa (aB (pv 2)) (aa (aO pS (by rfl) T.dJ cT (aa (aB (pv 2)) ae)) ae)))))
   (af (fQ PassesOwn.never rfl (du (aO (dc rfl) (by rfl) T.dg dv (aa (aB (pv 2)) ae))) (bH (i:=4) nd rfl (Or.inl rfl))
   (af (aM (i3 PySem.F.plainAttrs_list PySem.F.slot_list_extend PySem.F.type_list_extend gh (pv 3) (aa (aC (aa (pv 4) (aa (cO hu (aB (pv 2)) (pv 4) (λ_ _=>rfl)) ae))) ae)))
   (ag (aM (i3 PySem.F.plainAttrs_list PySem.F.slot_list_extend PySem.F.type_list_extend gh (pv 3) (aa (az (dz T.toTxt) hr (aa (cO hu (aB (pv 2)) (pv 4) (λ_ _=>rfl)) ae)) ae))))))
   (ag (aj (pv 3))))))),?_⟩
  have clH:=T.a8.cl;unfold Vbcnai.doing at k;dsimp only at k;refine⟨_,rfl,_,_,rfl,N.f T.aA.cl T.aZ rfl,_,rfl,N.hosts.Gf,_,rfl,_,N.hosts.get i,?_⟩;rw[gp];cases hf:findHost z i with
  |none=>
   rw[hf]at k;exact⟨_,rfl,_,rfl,bK rfl ⟨_,rfl,k.cV N T.dist⟩⟩
  |some x=>
   rw[hf]at k;dsimp only at k;obtain⟨hx,rfl⟩:=bU hf;have k:=c9.zl k N T.dist;have k:B3 H Q ([0,gI x.port,(x.has.length:Int)]++x.has.flatMap dR):=by
    cases hp:x.port with
    |none=>rw[hp]at k;exact k
    |some p=>rw[hp]at k;exact k
   have hA:=N.host _ _ hx;have ho:=W.host hx;obtain⟨fw,d1,d2⟩:=hA.Cz;have ids:∀m,(fw m).isSome=true↔m∈x.has.map (·.group):=λm=>by rw[bL (d2 m)];exact fz x m
   obtain⟨k1,e1,l1⟩:=d1.len (Mx.Up.nodup ho.B6) ids;refine⟨_,rfl,_,rfl,aQ (λz=>nomatch z) ⟨_,rfl,_,_,rfl,hA.f clH T.bo rfl,_,rfl,_,_,rfl,hA.f clH T.bw rfl,_,k1,rfl,e1,(by show 3<=sizeLine;decide),λp0 n0=>?_⟩⟩;rw[l1,JQ];have s0:aw H (upd H p0 (.lst [.int 0,.int (gI x.port),.int x.has.length])):=aw.new n0;have hp0:(upd H p0 (.lst [.int 0,.int (gI x.port),.int x.has.length])) p0=some (.lst [.int 0,.int (gI x.port),.int x.has.length]):=ab;have N0:=N.same T.dist s0;generalize (upd H p0 (.lst [.int 0,.int (gI x.port),.int x.has.length]))=H0 at s0 hp0 N0;have hA0:=N0.host _ _ hx;obtain⟨fw0,d10,d20⟩:=hA0.Cz;have ids0:∀m,(fw0 m).isSome=true↔m∈x.has.map (·.group):=λm=>by rw[bL (d20 m)];exact fz x m
   obtain⟨k2,ks,e2,e3,e4⟩:=d10.sorted ho.B6 ids0;refine⟨_,rfl,_,_,rfl,hA0.f clH T.bw rfl,_,k2,ks,rfl,e2,e3,λns q hp hs n1=>?_⟩;have en:=e4 ns hp hs;subst en;have s1:=s0.up (o:=.lst ((zs (x.has.map (·.group))).map V.int)) n1;have hq:(upd H0 q (.lst ((zs (x.has.map (·.group))).map V.int))) q=some (.lst (iv (x.has.map (·.group)))):=ab;have hp1:=aw.new (o:=.lst ((zs (x.has.map (·.group))).map V.int)) n1 _ _ hp0;have qp:q≠p0:=λz=>by rw[z,hp0]at n1;cases n1
   have nq:H q=none:=s0.nn n1;generalize (upd H0 q (.lst ((zs (x.has.map (·.group))).map V.int)))=H1 at s1 hq hp1;have bound:∀i,((x.has.take i).flatMap dR).length<=5000:=λi=>by
    have h6:=gU (l:=x.has.take i) (f:=dR) (B:=68) λe he=>by
     show([(e.group:Int),(e.serial:Int)]++Vbcnai.shownWant e.want).length<=68;rw[JV,bP];have:=(ho.ok e (List.mem_of_mem_take he)).2.1;show 2+_<=_;omega
    have h7:(x.has.take i).length<=x.has.length:=by rw[Kz];exact Nat.min_le_right _ _
    have h8:=ho.len;have:=Nat.mul_le_mul_right 68 (show(x.has.take i).length<=64 by omega);omega
   refine⟨q,rfl,⟨_,ba.of hq⟩,dE (K:=K) (a:=q) (xs:=iv (x.has.map (·.group))) (λi σ H'=>∃v:Option V,σ=[some (.ref (g .n)),some (.int x.id),some (.ref (g (.ho x.id))),some (.ref p0),v]/\aw H H'/\H' q=some (.lst (iv (x.has.map (·.group))))/\H' p0=some (.lst (([0,gI x.port,(x.has.length:Int)]++(x.has.take i).flatMap dR).map V.int)))
    ⟨none,rfl,s1,hq,hp1⟩ (λi σ H' _ ⟨_,_,_,h,_⟩=>ba.of h) ?_ ?_⟩
   ·rintro i y σ H' hi ⟨v,rfl,s7,hq7,h7⟩;obtain⟨m,hm,rfl⟩:=tV hi;obtain⟨y,hyi,hym⟩:∃y,x.has[i]? =some y/\y.group=m:=by
     rw[J5]at hm;cases e:x.has[i]? with
     |none=>rw[e]at hm;cases hm
     |some y=>rw[e]at hm;exact⟨y,rfl,JU hm⟩
    subst hym;have hyin:=Kd hyi;have hof:hasOf x y.group=some y:=by
     rw[Mx.kK];exact Mx.find_key (key:=Vbcnai.Has.group) Mx.dX ho.EM hyin
    have N7:=N.same T.dist s7;have hA7:=N7.host _ _ hx;have hg7:=hA7.HH.get y.group;rw[dP,hof]at hg7;have b0:=bound i;have lacc:(([0,gI x.port,(x.has.length:Int)]++(x.has.take i).flatMap dR).map V.int).length<=5003:=by
     rw[JQ,JV];show 3+_<=_;omega
    refine⟨_,rfl,.inl ⟨rfl,_,ba.of h7⟩,_,rfl,_,rfl,_,_,rfl,hA7.f clH T.cf rfl,_,rfl,_,_,rfl,hg7,(by show 2<=sizeLine;decide),λp8 n8=>?_⟩;have h78:(upd H' p8 (.lst [.int y.group,.int y.serial])) p0=_:=aw.new (o:=.lst [.int y.group,.int y.serial]) n8 _ _ h7;refine⟨p0,p8,_,_,rfl,rfl,h78,ab,?_,?_⟩
    ·show _+2<=2^24;omega
    have s8:=(s7.up (o:=.lst [.int y.group,.int y.serial]) n8).loc (o:=.lst (([0,gI x.port,(x.has.length:Int)]++(x.has.take i).flatMap dR).map V.int++[.int y.group,.int y.serial])) n0;have hq8:(upd (upd H' p8 (.lst [.int y.group,.int y.serial])) p0 (.lst (([0,gI x.port,(x.has.length:Int)]++(x.has.take i).flatMap dR).map V.int++[.int y.group,.int y.serial]))) q=some (.lst (iv (x.has.map (·.group)))):=by
     rw[ak qp];exact aw.new n8 _ _ hq7
    have h8:(upd (upd H' p8 (.lst [.int y.group,.int y.serial])) p0 (.lst (([0,gI x.port,(x.has.length:Int)]++(x.has.take i).flatMap dR).map V.int++[.int y.group,.int y.serial]))) p0=_:=ab;generalize (upd (upd H' p8 (.lst [.int y.group,.int y.serial])) p0 (.lst (([0,gI x.port,(x.has.length:Int)]++(x.has.take i).flatMap dR).map V.int++[.int y.group,.int y.serial])))=H8 at s8 hq8 h8;have N8:=N.same T.dist s8;have hA8:=N8.host _ _ hx;obtain⟨fw8,d18,d28⟩:=hA8.Cz;have q8:=d28 y.group;rw[hof]at q8;obtain⟨t,htf,htw⟩:∃t,fw8 y.group=some (.ref t)/\bC K H8 t y.want:=by
     cases hff:fw8 y.group with
     |none=>rw[hff]at q8;exact q8.elim
     |some v=>
      rw[hff]at q8;obtain⟨t,rfl,hw⟩:=q8;exact⟨t,rfl,hw⟩
    have hg8:=d18.get y.group;rw[dP,htf]at hg8;have hyl:=(ho.ok y hyin).2.1;refine⟨_,rfl,.inl ⟨rfl,_,ba.of h8⟩,_,rfl,_,_,rfl,hA8.f clH T.bw rfl,_,rfl,_,_,rfl,hg8,t,_,rfl,htw,(by unfold big;omega),λH9 p9 s9 n9 e9=>?_⟩;refine⟨p0,p9,_,_,rfl,rfl,s9 _ _ h8,e9,?_,?_⟩
    ·have e1:((Vbcnai.shownWant y.want).map V.int).length=y.want.list.length+2:=by rw[JQ,bP]
     rw[JV,e1];show _+2+_<=2^24;omega
    ·refine⟨_,rfl,(s8.trans s9).loc n0,by rw[ak qp];exact s9 _ _ hq8,?_⟩;rw[ab,qm hyi]
     congr 2
     simp[Ki,dR]
   ·rintro σ H' ⟨v,rfl,s7,hq7,h7⟩;rw[cF,JQ,Kt]at h7;exact⟨_,rfl,k H' p0 s7 n0 h7⟩
end
end Gs
namespace Gs
open PySem PySem.Spec PyProof.Rows L2
open Mx (Up)
open Vbcnai (hostOf hasOf entryOf recordAt)
noncomputable def ro (x:Want):PyData:=.tuple [.int x.mode,.tuple ((zs x.list).map PyData.int)]
theorem uj {K:PySem.W.Frag}{H:Hp}:∀l:List Int,sL K H (l.map V.int) (l.map PyData.int)
 |[]=>.nil
 |z::l=>.cons (.int z) (uj l)
theorem Bg {K:PySem.W.Frag}{H:Hp}{t:Addr}{x:Want}(h:bC K H t x):Dp K H (.ref t) (ro x):=by
 obtain⟨l,h1,h2⟩:=h;exact .tup h1.sq (.cons (.int _) (.cons (.tup (Tp.sq h2) (uj _)) .nil))
theorem lay_ints:∀l:List Int,PyData.canLayAll0 (l.map PyData.int)=true
 |[]=>rfl
 |z::l=>by
  show(PyData.canLay0 (.int z)&&PyData.canLayAll0 (l.map PyData.int))=true;rw[lay_ints l];rfl
theorem uk:∀l:List Int,PyData.depthAll (l.map PyData.int)=0
 |[]=>rfl
 |z::l=>by
  show max (PyData.depth (.int z)) (PyData.depthAll (l.map PyData.int))=0;rw[uk l];rfl
theorem rp (x:Want):SeqAt.shaped (ro x)=true:=by
 unfold SeqAt.shaped;have h1:(ro x).canLay0=true:=by
  show(PyData.canLay0 (.int x.mode)&&(PyData.canLay0 (.tuple ((zs x.list).map PyData.int))&&true))=true;show(true&&(PyData.canLayAll0 ((zs x.list).map PyData.int)&&true))=true;rw[lay_ints];rfl
 have h2:(ro x).depth=2:=by
  show max 0 (max (PyData.depthAll ((zs x.list).map PyData.int)+1) 0)+1=2;rw[uk];rfl
 rw[h1,h2];rfl
theorem FR (x:Want):(!PyData.eqv (ro x) (ro Vbcnai.none_))=(x != Vbcnai.none_):=by
 have e:PyData.eqv (ro x) (ro Vbcnai.none_)=((x.mode:Int)==0&&(PyData.eqvAll ((zs x.list).map PyData.int) []&&true)):=rfl;rw[e];cases x with
 |but l=>
  show(!(false&&_))=_;rfl
 |only l=>
  cases l with
  |nil=>rfl
  |cons a l=>
   show(!(true&&(false&&true)))=_;rfl
noncomputable def km (s:State) (pt:Nat) (p:Nat×Nat):Option Nat:=match entryOf s p.1 p.2 with
 |some e=>if e.port=pt then some p.1 else none
 |none=>none
noncomputable def lY (pt:Nat) (p:Nat×Nat):Option Nat:=if p.1=pt then some p.2 else none
theorem y0 {s:State}{pt gr:Nat}(h1:∀e∈s.entries,¬(e.port=pt/\e.group=gr)) (h2:(bx s (pt,gr)).isSome=false):recordAt s pt gr=Vbcnai.none_:=by
 unfold Vbcnai.recordAt;dsimp only;rw[qy,h2,if_neg (λz=>nomatch z)];have:(s.entries.filter λe=>e.port==pt&&e.group==gr)=[]:=by
  rw[List.filter_eq_nil_iff];intro e he q;rw[JS,beq_iff_eq,beq_iff_eq]at q;exact h1 e he q
 rw[this];rfl
noncomputable def eI (s:State):List Nat:=((s.entries.map λe=>e.group)++s.plains.map λx=>x.group).foldr Vbcnai.put []
theorem Cg {U:List Nat}{n:Nat}{s:State}(W:Wf U n s){A B:List (Nat×Nat)}(hA:∀p,p∈A↔(entryOf s p.1 p.2).isSome=true) (hB:∀p,p∈B↔(bx s p).isSome=true) (pt:Nat):
  (Vbcnai.both (A.filterMap (km s pt)++B.filterMap (lY pt)) []).filter (λg=>recordAt s pt g != Vbcnai.none_)=(eI s).filter (λg=>recordAt s pt g != Vbcnai.none_):=by
 have u1:Up (Vbcnai.both (A.filterMap (km s pt)++B.filterMap (lY pt)) []):=Mx.jz List.Pairwise.nil;have u2:Up (eI s):=Mx.jz (a:=(s.entries.map λe=>e.group)++s.plains.map λx=>x.group) List.Pairwise.nil;have m2:∀g,g∈eI s↔g∈(s.entries.map λe=>e.group)++s.plains.map λx=>x.group:=λg=>by
  show g∈Vbcnai.both _ []↔_;rw[Mx.de];exact⟨λz=>z.elim id λy=>(nomatch y),.inl⟩
 refine Mx.sT (List.Pairwise.filter _ u1) (List.Pairwise.filter _ u2) λg=>?_;rw[List.mem_filter,List.mem_filter,m2,Mx.de,Ky,Ky,List.mem_filterMap,List.mem_filterMap];constructor
 ·rintro⟨h,hr⟩;refine⟨?_,hr⟩;rcases h with(⟨p,hp,e⟩|⟨p,hp,e⟩)|h
  ·left;unfold km at e;cases hy:entryOf s p.1 p.2 with
   |none=>rw[hy]at e;cases e
   |some y=>
    rw[hy]at e;dsimp only at e;split at e
    ·obtain⟨h1,h2,_⟩:=eD hy;exact Kr.mpr ⟨y,h1,by rw[h2];exact JU e⟩
    ·cases e
  ·right;unfold lY at e;split at e
   ·have hs:=(hB p).mp hp;obtain⟨x,hx⟩:=Kw.mp hs;rw[eE]at hx;obtain⟨h1,h2⟩:=Mx.find_some (key:=Mx.df) hx;have h3:x.group=p.2:=congrArg Prod.snd h2;exact Kr.mpr ⟨x,h1,by rw[h3];exact JU e⟩
   ·cases e
  ·exact nomatch h
 ·rintro⟨_,hr⟩;refine⟨.inl ?_,hr⟩;apply Classical.byContradiction;intro hno;have:recordAt s pt g=Vbcnai.none_:=by
   refine y0 (λe he q=>hno (.inl ?_)) ?_
   ·have hu:=ug W he;refine⟨(e.group,e.host),(hA _).mpr (by show(entryOf s e.group e.host).isSome=true;rw[hu];rfl),?_⟩;unfold km;rw[show entryOf s (e.group,e.host).1 (e.group,e.host).2=some e from hu];dsimp only;rw[if_pos q.1,q.2]
   ·cases hp:(bx s (pt,g)).isSome with
    |false=>rfl
    |true=>
     refine absurd (.inr ⟨(pt,g),(hB _).mpr hp,?_⟩) hno;unfold lY;rw[if_pos rfl]
  rw[this]at hr;simp at hr
section
variable{P:Program}{w:World}{K:PySem.W.Frag}{mg:Str->Option Value}{base:Heap}{c:Cs}
noncomputable def Ci (K:PySem.W.Frag) (c:Cs):Sp:=λvs H Q _=>∃(g:Role->Addr) (s:State) (pt:Nat) (U:List Nat) (n:Nat),vs=[.ref (g .sw),.int pt]/\ax K c H g s/\Wf U n s/\Sm U/\n<=400/\
 ∀(H':Hp) (p:Addr),aw H H'->H p=none->H' p=some (.lst (iv ((eI s).filter λg=>recordAt s pt g != Vbcnai.none_)))->((eI s).filter λg=>recordAt s pt g != Vbcnai.none_).length<=400->Q (.ref p) H'
theorem xh {α β:Type}{f:α->Option β}(l:List α):(l.filterMap f).length<=l.length:=List.length_filterMap_le ..
theorem j1 (T:Tx K mg c):Me P w K mg base c.Switch "groups_wanted" 3 ["self","port"] (Ci K c):=by
 refine T.cS.ok eG (λvs H Q E h=>?_) (λf cdv A outer s H vs Q E hr h=>?_)
 ·obtain⟨g,s,pt,U,n,rfl,_⟩:=h;rfl
 ·obtain⟨g,z,pt,U,n,rfl,N,W,hU,hn,k⟩:=h;have nd:=eG.nd;have hu:=cX hr;refine⟨_,(af (AY (sN (i:=2) rfl nd rfl rfl (wA rfl rfl rfl rfl) (wD (aB (pv 0))) (own:=[("key",3)]) (dG rfl) (λ_ _ _ _ _=>bH (i:=3) nd rfl (Or.inl rfl)) (λ_ _ _ _ _=>f9 (aE bj (kf (K:=K) (cO hu (kf (K:=K) (pv 0)) (pv 3) (λ_ _=>rfl))) (pv 1) (aD _))) (λ_ _ _ _ _=>(aI (o7 (K:=K)) (pv 3) ah (λ_ _=>rfl)))))
   (af (aM (i3 PySem.F.plainAttrs_list PySem.F.slot_list_extend PySem.F.type_list_extend gh (pv 2) (aa (Ft (sM rfl nd (wD (aB (pv 0))) (own:=[("key",3)]) (dG rfl) (λ_ _ _ _ _=>bH (i:=3) nd rfl (Or.inl rfl)) (λ_ _ _ _ _=>f9 (aE bj (aI (o7 (K:=K)) (pv 3) ah (λ_ _=>rfl)) (pv 1) (aD _))) (λ_ _ _ _ _=>(aI (o7 (K:=K)) (pv 3) ah (λ_ _=>rfl))))) ae)))
   (ag (aj (sM rfl nd (du (aO (fB rfl) (by rfl) T.dg dv (aa (aY (mZ rfl) (by rfl) T.oX nH (aa (pv 2) ae)) ae))) (own:=[("group",4)]) (dG rfl) (λ_ _ _ _ _=>bH (i:=4) nd rfl (Or.inl rfl)) (λ_ _ _ _ _=>f9 (aE (Jt (K:=K) hr.units) (bT (pv 0) (d4 T) hr (aa (pv 1) (aa (pv 4) ae))) (sS T.jh) (aD _))) (λ_ _ _ _ _=>(pv 4))))))),?_⟩
  have clS:=T.aL.cl;obtain⟨ds,es⟩:=N.pJ;obtain⟨fe,⟨kvs,e1,D⟩,d2⟩:=N.ent;obtain⟨A,eA,nA⟩:=D.keys;have lenA:kvs.length=A.length:=by
   have:=congrArg List.length eA;rw[JQ,JQ]at this;exact this
  have hA:∀p,p∈A↔(entryOf z p.1 p.2).isSome=true:=λp=>by rw[D.mem eA,bL (d2 p)]
  have lenE:A.length=z.entries.length:=by
   rw[(r8 nA W.B5 λp=>(hA p).trans (fN p)).length_eq,JQ]
  have hWn:=W.en;have fd:∀{H':Hp}{f:Str}{v:V},H' (g .sw)=some (.ins c.Switch ds (pI g z))->ay K c.Switch f->(pI g z).lookup f=some v->Fd K H' (g .sw) f v:=λe na l=>⟨_,ds,_,e,clS,na,l⟩;have swen:g .sw≠g .en:=λe=>nomatch (N.inj .sw .en trivial trivial e);have swpl:g .sw≠g .pl:=λe=>nomatch (N.inj .sw .pl trivial trivial e);refine⟨g .en,_,e1,trivial,λod=>?_⟩;have esf:(upd H (g .en) (.d5 od (.dT kvs))) (g .sw)=some (.ins c.Switch ds (pI g z)):=by rw[ak swen];exact es
  have enf:(upd H (g .en) (.d5 od (.dT kvs))) (g .en)=some (.d5 od (.dT kvs)):=ab;have bf:fG (g .en) H (upd H (g .en) (.d5 od (.dT kvs))):=fG.refl.upd;have kpf:Kp c H (upd H (g .en) (.d5 od (.dT kvs))):=λb o e im=>bf b o e λzz=>by rw[zz,e1]at e;cases e;exact im
  generalize (upd H (g .en) (.d5 od (.dT kvs)))=Hf at esf enf bf kpf;refine⟨_,rfl,_,_,rfl,fd esf T.aJ rfl,g .en,od,rfl,.inr ⟨kvs,enf,λDn hD=>?_⟩⟩;refine uf (Pv:=λi H''=>aw Hf H''/\H'' Dn=some (.lst (iv ((A.take i).filterMap (km z pt)))))
   ⟨aw.new hD,ab⟩ (λi H'' _ h=>h.1 _ _ enf) ?_ ?_
  ·rintro i kk v q H'' hi hq ⟨s5,h5⟩;obtain⟨p,hp,ekk⟩:∃p,A[i]? =some p/\kk=eT p:=by
    have:(kvs.map (·.1))[i]? =some kk:=by rw[J5,hi];rfl
    rw[eA,J5]at this;cases e:A[i]? with
    |none=>rw[e]at this;cases this
    |some p=>rw[e]at this;exact⟨p,rfl,(JU this).symm⟩
   subst ekk;obtain⟨y,hy⟩:=Kw.mp ((hA p).mp (Kd hp));have q2:=d2 p;rw[hy]at q2;obtain⟨ea,hfe,tX⟩:∃ea,fe p=some (.ref ea)/\bW K c H ea y:=by
    cases hf:fe p with
    |none=>rw[hf]at q2;exact q2.elim
    |some v=>
     rw[hf]at q2;obtain⟨ea,rfl,h⟩:=q2;exact⟨ea,rfl,h⟩
   have hea5:=tX.keep (kpf.trans s5.kp);have hq':H'' q=some (.tup [.int p.1,.int p.2]):=hq;have hg:fb H'' (g .en) (.ref q) (some (.ref ea)):=by
    have e:=D.val p;rw[hfe]at e;exact .inr ⟨kvs,eT p,q,.inr ⟨od,s5 _ _ enf⟩,rfl,hq,e.symm⟩
   refine⟨rfl,_,rfl,_,_,rfl,fd (s5 _ _ esf) T.aJ rfl,_,rfl,_,_,rfl,hg,_,_,rfl,hea5.f T T.cP (λ_=>rfl),_,rfl,rfl,_,rfl,b7 (λc2=>?_) (λc2=>?_)⟩
   ·have c2':y.port=pt:=by
     have:=J0 c2;injection this with this;omega
    have esel:km z pt p=some p.1:=by
     unfold km;rw[hy];dsimp only;rw[if_pos c2']
    refine⟨_,rfl,q,_,_,_,rfl,rfl,.inl (.inl hq'),rfl,_,h5,?_,s5.loc hD,?_⟩
    ·rw[cF];have l1:=xh (f:=km z pt) (A.take i);have l2:(A.take i).length<=A.length:=by rw[Kz];exact Nat.min_le_right _ _
     show _<2^24;omega
    ·rw[ab,jZ hp,esel,nJ];rfl
   ·have esel:km z pt p=none:=by
     unfold km;rw[hy];dsimp only;rw[if_neg];intro r2;exact c2 (J1 (by rw[r2]))
    exact⟨s5,by rw[jZ hp,esel,Ks];exact h5⟩
  ·rintro H'' ⟨s5,h5⟩;rw[lenA,Kt]at h5;refine⟨s5 _ _ enf,?_⟩;have DnE:Dn≠g .en:=λzz=>by rw[zz,enf]at hD;cases hD
   have s3:aw H (upd H'' (g .en) (.dT kvs)):=λb o e=>by
    by_cases zz:b=g .en
    ·rw[zz]at e ⊢;rw[ab,←e,e1]
    ·rw[ak zz];exact s5 _ _ (bf _ _ e zz)
   have hD3:(upd H'' (g .en) (.dT kvs)) Dn=some (.lst (iv (A.filterMap (km z pt)))):=by rw[ak DnE];exact h5
   have HDn:H Dn=none:=by
    cases e:H Dn with
    |none=>rfl
    |some o=>rw[bf _ _ e DnE]at hD;cases hD
   generalize (upd H'' (g .en) (.dT kvs))=H3 at s3 hD3;have N3:=N.same T.dist s3;obtain⟨kvp,e3,Dp⟩:=N3.rk;obtain⟨B,eB,nB⟩:=Dp.keys;have lenB:kvp.length=B.length:=by
    have:=congrArg List.length eB;rw[JQ,JQ]at this;exact this
   have hB:∀p,p∈B↔(bx z p).isSome=true:=λp=>by rw[Dp.mem eB,Kn]
   have lenP:B.length=z.plains.length:=by
    rw[(r8 nB W.pn λp=>(hB p).trans (fO p)).length_eq,JQ]
   have es3:=s3 _ _ es;have DnP:Dn≠g .pl:=λzz=>by rw[zz,e3]at hD3;cases hD3
   refine⟨_,rfl,.inl ⟨rfl,_,ba.of hD3⟩,g .pl,_,e3,trivial,λod2=>?_⟩;have esg:(upd H3 (g .pl) (.d5 od2 (.dT kvp))) (g .sw)=some (.ins c.Switch ds (pI g z)):=by rw[ak swpl];exact es3
   have plg:(upd H3 (g .pl) (.d5 od2 (.dT kvp))) (g .pl)=some (.d5 od2 (.dT kvp)):=ab;have bg:fG (g .pl) H3 (upd H3 (g .pl) (.d5 od2 (.dT kvp))):=fG.refl.upd;generalize (upd H3 (g .pl) (.d5 od2 (.dT kvp)))=Hg at esg plg bg;refine⟨_,rfl,_,_,rfl,fd esg T.aV rfl,g .pl,od2,rfl,.inr ⟨kvp,plg,λDm hDm=>?_⟩⟩;refine uf (Pv:=λi H''=>aw Hg H''/\H'' Dm=some (.lst (iv ((B.take i).filterMap (lY pt)))))
    ⟨aw.new hDm,ab⟩ (λi H'' _ h=>h.1 _ _ plg) ?_ ?_
   ·rintro i kk v q H'' hi hq ⟨s6,h6⟩;obtain⟨p,hp,ekk⟩:∃p,B[i]? =some p/\kk=eT p:=by
     have:(kvp.map (·.1))[i]? =some kk:=by rw[J5,hi];rfl
     rw[eB,J5]at this;cases e:B[i]? with
     |none=>rw[e]at this;cases this
     |some p=>rw[e]at this;exact⟨p,rfl,(JU this).symm⟩
    subst ekk;have hq':H'' q=some (.tup [.int p.1,.int p.2]):=hq;refine⟨rfl,_,rfl,q,_,_,_,rfl,rfl,.inl (.inl hq'),rfl,_,rfl,rfl,_,rfl,b7 (λc2=>?_) (λc2=>?_)⟩
    ·have c2':p.1=pt:=by
      have:=J0 c2;injection this with this;omega
     have esel:lY pt p=some p.2:=if_pos c2';refine⟨_,rfl,q,_,_,_,rfl,rfl,.inl (.inl hq'),rfl,_,h6,?_,s6.loc hDm,?_⟩
     ·rw[cF];have l1:=xh (f:=lY pt) (B.take i);have l2:(B.take i).length<=B.length:=by rw[Kz];exact Nat.min_le_right _ _
      show _<2^24;omega
     ·rw[ab,jZ hp,esel,nJ];rfl
    ·have esel:lY pt p=none:=if_neg λr2=>c2 (J1 (by rw[r2]));exact⟨s6,by rw[jZ hp,esel,Ks];exact h6⟩
   ·rintro H6 ⟨s6,h6⟩;rw[lenB,Kt]at h6;refine⟨s6 _ _ plg,?_⟩;have DmP:Dm≠g .pl:=λzz=>by rw[zz,plg]at hDm;cases hDm
    have s7:aw H3 (upd H6 (g .pl) (.dT kvp)):=λb o e=>by
     by_cases zz:b=g .pl
     ·rw[zz]at e ⊢;rw[ab,←e,e3]
     ·rw[ak zz];exact s6 _ _ (bg _ _ e zz)
    have hDm7:(upd H6 (g .pl) (.dT kvp)) Dm=some (.lst (iv (B.filterMap (lY pt)))):=by rw[ak DmP];exact h6
    generalize (upd H6 (g .pl) (.dT kvp))=H7 at s7 hDm7;have l1:=xh (f:=km z pt) A;have l2:=xh (f:=lY pt) B;refine⟨Dn,Dm,_,_,rfl,rfl,s7 _ _ hD3,hDm7,?_,?_⟩
    ·rw[cF,cF];show _<=2^24;omega
    have s8:aw H (upd H7 Dn (.lst (iv (A.filterMap (km z pt))++iv (B.filterMap (lY pt))))):=(s3.trans s7).loc HDn;have hD8:(upd H7 Dn (.lst (iv (A.filterMap (km z pt))++iv (B.filterMap (lY pt))))) Dn=some (.lst (iv (A.filterMap (km z pt)++B.filterMap (lY pt)))):=by rw[ab,nJ]
    generalize (upd H7 Dn (.lst (iv (A.filterMap (km z pt))++iv (B.filterMap (lY pt)))))=H8 at s8 hD8;have gi:=Cg W hA hB pt;have lenG:(A.filterMap (km z pt)++B.filterMap (lY pt)).length<=400:=by
     rw[JV];omega
    generalize A.filterMap (km z pt)++B.filterMap (lY pt)=G at hD8 gi lenG;refine⟨_,rfl,Dn,zs G,rfl,.inl (ba.of hD8),(by rw[dC];show _<4096;omega),λp1 k1 n1 d1 m1=>?_⟩;have s9:=s8.up (o:=g0 w p1 k1) n1;refine⟨p1,k1,rfl,ab,λns p2 hp hs n2=>?_⟩;have s10:=s9.up (o:=.lst (ns.map V.int)) n2;have uL:Up (Vbcnai.both G []):=Mx.jz List.Pairwise.nil;have hm:∀n,n∈Vbcnai.both G []↔n∈G:=λn=>by
     rw[Mx.de];exact⟨λz=>z.elim id λy=>(nomatch y),.inl⟩
    have en:ns=zs (Vbcnai.both G []):=Mx.gk hs (hp.nodup_iff.mpr d1) uL λz=>by
     rw[hp.mem_iff,m1,Mx.bJ,Mx.bJ];exact⟨λ⟨n,h1,h2⟩=>⟨n,(hm n).mpr h1,h2⟩,λ⟨n,h1,h2⟩=>⟨n,(hm n).mp h1,h2⟩⟩
    have lenL:(Vbcnai.both G []).length<=400:=Kj (cx uL.nodup λx hx=>(hm x).mp hx) lenG;subst en;have hp2:(upd (upd H8 p1 (g0 w p1 k1)) p2 (.lst ((zs (Vbcnai.both G [])).map V.int))) p2=some (.lst (iv (Vbcnai.both G []))):=ab;have HD2:H p2=none:=s9.nn n2;refine⟨p2,rfl,⟨_,ba.of hp2⟩,λDe hDe=>?_⟩;have HDe:H De=none:=s10.nn hDe;have p2e:p2≠De:=ao hp2 hDe;rw[←gi]at k;have lenM:=Kh (λg=>recordAt z pt g != Vbcnai.none_) (Vbcnai.both G []);generalize Vbcnai.both G []=L at s10 hp2 hDe k lenL lenM uL;refine rX (K:=K) (a:=p2) (xs:=iv L) (λi H''=>aw H H''/\H'' p2=some (.lst (iv L))/\H'' De=some (.lst (iv ((L.take i).filter λg=>recordAt z pt g != Vbcnai.none_))))
     ⟨s10.up hDe,by rw[ak p2e];exact hp2,ab⟩ (λi H'' _ h=>ba.of h.2.1) ?_ ?_
    ·rintro i y H'' hi ⟨s11,h11,h12⟩;obtain⟨q,hq,rfl⟩:=tV hi;have N11:=N.same T.dist s11;obtain⟨ds1,es1⟩:=N11.pJ;refine⟨rfl,_,rfl,g .sw,ds1,_,rfl,es1,rfl,_,rfl,_,rfl,g,z,pt,q,U,n,rfl,N11,W,hU,hn,λH13 t s13 hw _=>?_⟩;refine⟨_,_,Bg hw,Bg (T.nothing H13),rp _,rp _,_,rfl,?_⟩;rw[FR,take_snoc hq,List.filter_append];cases hc:(recordAt z pt q != Vbcnai.none_)with
     |true=>
      refine bG ⟨_,rfl,_,s13 _ _ h12,?_,(s11.trans s13).loc HDe,by rw[ak p2e];exact s13 _ _ h11,?_⟩
      ·rw[cF];have q1:=Kh (λg=>recordAt z pt g != Vbcnai.none_) (L.take i);have q2:(L.take i).length<=L.length:=by rw[Kz];exact Nat.min_le_right _ _
       show _<2^24;omega
      ·rw[ab,DX (f:=λg=>recordAt z pt g != Vbcnai.none_) hc,nJ];rfl
     |false=>
      refine bX ⟨s11.trans s13,s13 _ _ h11,?_⟩;rw[DY (f:=λg=>recordAt z pt g != Vbcnai.none_) (by rw[hc];exact λz=>nomatch z),Ks];exact s13 _ _ h12
    ·rintro H'' ⟨s11,h11,h12⟩;rw[cF,Kt]at h12;exact k H'' De s11 HDe h12 (by omega)
theorem u4 (T:Tx K mg c):Fn P w K mg base "call_groups" 4 ["net","port"] (yM K c .groups):=by
 refine T.iR.ok tH (λvs H Q E h=>?_) (λf cdv A outer s H vs Q E hr h=>?_)
 ·obtain⟨g,s,i,U,n,rfl,_⟩:=h;rfl
 ·obtain⟨g,z,i,U,n,rfl,N,W,hU,hn,k⟩:=h;refine⟨_,(af (aF (aX (aR (bT (pv 0) (bF T) hr (aa (pv 1) ae))))
   (ag (aj (aC (aa (br aS ah) ae))))
   au)
   (ag (aj (cu fR (aC (aa ah ae)) (az (jj T.toTxt) hr (aa (bT (aB (pv 0)) (j1 T) hr (aa (pv 1) ae)) ae)))))),?_⟩
  obtain⟨dn,en⟩:=N.nM;unfold Vbcnai.doing at k;dsimp only at k;refine⟨_,rfl,g .n,dn,_,rfl,en,rfl,_,rfl,g,z,i,rfl,N,_,rfl,?_⟩;cases hp:Vbcnai.isPort z i with
  |false=>
   rw[if_pos hp]at k;exact bG ⟨_,rfl,k.cV N T.dist⟩
  |true=>
   rw[if_neg (by rw[hp];exact λz=>nomatch z)]at k;obtain⟨ei,_⟩:=dQ hp;generalize i.toNat=pt at k ei;subst ei;have k:=c9.zl k N T.dist;have k:B3 H Q ([0,(((eI z).filter λg=>recordAt z pt g != Vbcnai.none_).length:Int)]++zs ((eI z).filter λg=>recordAt z pt g != Vbcnai.none_)):=k;refine bX ⟨(by show 1<=sizeLine;decide),λp0 n0=>?_⟩;have s0:aw H (upd H p0 (.lst [.int 0])):=aw.new n0;have N0:=N.same T.dist s0;obtain⟨ds,es⟩:=N0.pJ;refine⟨_,rfl,_,_,rfl,N0.f T.aA.cl T.aN rfl,g .sw,ds,_,rfl,es,rfl,_,rfl,g,z,pt,U,n,rfl,N0,W,hU,(by omega),λH1 p1 s1 n1 e1 l1=>?_⟩;generalize (eI z).filter (λg=>recordAt z pt g != Vbcnai.none_)=M at k e1 l1;refine⟨p1,zs M,rfl,.inl (ba.of e1),(by rw[dC];unfold big;omega),λH2 p2 s2 n2 e2=>?_⟩;refine⟨p0,p2,_,_,rfl,rfl,(s1.trans s2) _ _ ab,e2,?_,λp3 n3=>?_⟩
   ·simp only[JQ,Kb,List.length_nil,dC];show _<=2^24;omega
   ·have s02:=(s0.trans s1).trans s2;refine k _ p3 (s02.up n3) (s02.nn n3) ?_;rw[ab,dC];rfl
end
end Gs
namespace Gs
open PySem PySem.Spec PyProof.Rows L2
open Mx (Up)
noncomputable def iA (s:State) (p:Int) (xs:List Int) (rows:List (List Int)):State×List Int:=match VbcnaiNeutral.call ((p::xs)::rows)with
 |some d=>Vbcnai.doing s d
 |none=>(s,[])
theorem len0 {α:Type}{l:List α}(h:l.length=0):l=[]:=List.length_eq_zero_iff.mp h
theorem qz {α:Type}:∀{l:List α},l.length=1->∃a,l=[a]
 |[a],_=>⟨a,rfl⟩
theorem lZ {α:Type}:∀{l:List α},l.length=2->∃a b,l=[a,b]
 |[a,b],_=>⟨a,b,rfl⟩
theorem Ht {α:Type}:∀{l:List α},l.length=3->∃a b d,l=[a,b,d]
 |[a,b,d],_=>⟨a,b,d,rfl⟩
theorem pA {p:Int}{a b n k:Nat}(h:PyVbcnai.shape p=some (n,k)) (e:PyVbcnai.shape p=some (a,b)):n=a/\k=b:=by
 rw[h]at e;have:=JU e;rw[Prod.mk.injEq]at this;exact this
section
variable{P:Program}{w:World}{K:PySem.W.Frag}{mg:Str->Option Value}{base:Heap}{c:Cs}
noncomputable def IM (K:PySem.W.Frag) (c:Cs) (lo hi:Int):Sp:=λvs H Q _=>∃(g:Role->Addr) (s:State) (p:Int) (nb:Addr) (xs:List Int) (U:List Nat) (n:Nat),vs=[.ref (g .n),.int p,.ref nb]/\ax K c H g s/\ba K H nb (xs.map V.int)/\lo<=p/\p<=hi/\PyVbcnai.shape p=some (xs.length,0)/\Wf U n s/\Sm U/\n<=399/\c9 K c H g s Q (iA s p xs [])
theorem nU (T:Tx K mg c):Fn P w K mg base "answer_of_switch" 4 ["net","call","numbers"] (IM K c 6 10):=by
 refine T.d9.ok lW (λvs H Q E h=>?_) (λf cdv A outer s H vs Q E hr h=>?_)
 ·obtain⟨g,s,p,nb,xs,U,n,rfl,_⟩:=h;rfl
 ·obtain⟨g,z,p,nb,xs,U,n,rfl,N,hb,lo,hi,hs,W,hU,hn,k⟩:=h;refine⟨_,(af (aF (aE bj (pv 1) ah (aD _))
   (ag (aj (az (yX T) hr (aa (pv 0) (aa (aI aH (pv 2) ah (λ_ _=>rfl)) (aa (aI aH (pv 2) ah (λ_ _=>rfl)) ae))))))
   au)
   (af (aF (aE bj (pv 1) ah (aD _))
   (ag (aj (az (xb T) hr (aa (pv 0) (aa (aI aH (pv 2) ah (λ_ _=>rfl)) (aa (aI aH (pv 2) ah (λ_ _=>rfl)) ae))))))
   au)
   (af (aF (aE bj (pv 1) ah (aD _))
   (ag (aj (az (ue T) hr (aa (pv 0) (aa (aI aH (pv 2) ah (λ_ _=>rfl)) (aa (aI aH (pv 2) ah (λ_ _=>rfl)) ae))))))
   au)
   (af (aF (aE bj (pv 1) ah (aD _))
   (ag (aj (az (xc T) hr (aa (pv 0) (aa (aI aH (pv 2) ah (λ_ _=>rfl)) (aa (aI aH (pv 2) ah (λ_ _=>rfl)) ae))))))
   au)
   (ag (aj (az (yZ T) hr (aa (pv 0) (aa (aI aH (pv 2) ah (λ_ _=>rfl)) ae))))))))),?_⟩
  have hp:p=6\/p=7\/p=8\/p=9\/p=10:=by omega
  rcases hp with rfl|rfl|rfl|rfl|rfl
  ·obtain⟨a,b,rfl⟩:=lZ (pA hs (a:=2) (b:=0) rfl).1;exact⟨_,rfl,rfl,_,rfl,bK rfl ⟨_,rfl,_,rfl,nb,_,_,_,rfl,rfl,hb,rfl,_,rfl,nb,_,_,_,rfl,rfl,hb,rfl,g,z,a,b,U,n,rfl,N,W,hU,hn,k⟩⟩
  ·obtain⟨a,b,rfl⟩:=lZ (pA hs (a:=2) (b:=0) rfl).1;exact⟨_,rfl,rfl,_,rfl,aQ (λz=>nomatch z) ⟨_,rfl,rfl,_,rfl,bK rfl ⟨_,rfl,_,rfl,nb,_,_,_,rfl,rfl,hb,rfl,_,rfl,nb,_,_,_,rfl,rfl,hb,rfl,g,z,a,b,U,n,rfl,N,W,hU,hn,k⟩⟩⟩
  ·obtain⟨a,b,rfl⟩:=lZ (pA hs (a:=2) (b:=0) rfl).1;exact⟨_,rfl,rfl,_,rfl,aQ (λz=>nomatch z) ⟨_,rfl,rfl,_,rfl,aQ (λz=>nomatch z) ⟨_,rfl,rfl,_,rfl,bK rfl ⟨_,rfl,_,rfl,nb,_,_,_,rfl,rfl,hb,rfl,_,rfl,nb,_,_,_,rfl,rfl,hb,rfl,g,z,a,b,U,n,rfl,N,W,hU,hn,k⟩⟩⟩⟩
  ·obtain⟨a,b,rfl⟩:=lZ (pA hs (a:=2) (b:=0) rfl).1;exact⟨_,rfl,rfl,_,rfl,aQ (λz=>nomatch z) ⟨_,rfl,rfl,_,rfl,aQ (λz=>nomatch z) ⟨_,rfl,rfl,_,rfl,aQ (λz=>nomatch z) ⟨_,rfl,rfl,_,rfl,bK rfl ⟨_,rfl,_,rfl,nb,_,_,_,rfl,rfl,hb,rfl,_,rfl,nb,_,_,_,rfl,rfl,hb,rfl,g,z,a,b,U,n,rfl,N,W,hU,hn,k⟩⟩⟩⟩⟩
  ·obtain⟨a,rfl⟩:=qz (pA hs (a:=1) (b:=0) rfl).1;exact⟨_,rfl,rfl,_,rfl,aQ (λz=>nomatch z) ⟨_,rfl,rfl,_,rfl,aQ (λz=>nomatch z) ⟨_,rfl,rfl,_,rfl,aQ (λz=>nomatch z) ⟨_,rfl,rfl,_,rfl,aQ (λz=>nomatch z) ⟨_,rfl,_,rfl,nb,_,_,_,rfl,rfl,hb,rfl,g,z,a,U,n,rfl,N,W,hU,hn,k⟩⟩⟩⟩⟩
theorem rO (T:Tx K mg c):Fn P w K mg base "answer_of_bag" 9 ["net","call","numbers"] (IM K c 11 13):=by
 refine T.f6.ok qc (λvs H Q E h=>?_) (λf cdv A outer s H vs Q E hr h=>?_)
 ·obtain⟨g,s,p,nb,xs,U,n,rfl,_⟩:=h;rfl
 ·obtain⟨g,z,p,nb,xs,U,n,rfl,N,hb,lo,hi,hs,W,hU,hn,k⟩:=h;refine⟨_,(af (aF (aE bj (pv 1) ah (aD _))
   (ag (aj (az (t9 T) hr (aa (pv 0) (aa (aI aH (pv 2) ah (λ_ _=>rfl)) ae)))))
   au)
   (af (aF (aE bj (pv 1) ah (aD _))
   (ag (aj (az (yO T) hr (aa (pv 0) (aa (aI aH (pv 2) ah (λ_ _=>rfl)) ae)))))
   au)
   (ag (aj (az (uT T) hr (aa (pv 0) (aa (aI aH (pv 2) ah (λ_ _=>rfl)) ae))))))),?_⟩
  have hp:p=11\/p=12\/p=13:=by omega
  rcases hp with rfl|rfl|rfl
  ·obtain⟨a,rfl⟩:=qz (pA hs (a:=1) (b:=0) rfl).1;exact⟨_,rfl,rfl,_,rfl,bK rfl ⟨_,rfl,_,rfl,nb,_,_,_,rfl,rfl,hb,rfl,g,z,a,U,n,rfl,N,W,hU,hn,k⟩⟩
  ·obtain⟨a,rfl⟩:=qz (pA hs (a:=1) (b:=0) rfl).1;exact⟨_,rfl,rfl,_,rfl,aQ (λz=>nomatch z) ⟨_,rfl,rfl,_,rfl,bK rfl ⟨_,rfl,_,rfl,nb,_,_,_,rfl,rfl,hb,rfl,g,z,a,U,n,rfl,N,W,hU,hn,k⟩⟩⟩
  ·obtain⟨a,rfl⟩:=qz (pA hs (a:=1) (b:=0) rfl).1;exact⟨_,rfl,rfl,_,rfl,aQ (λz=>nomatch z) ⟨_,rfl,rfl,_,rfl,aQ (λz=>nomatch z) ⟨_,rfl,_,rfl,nb,_,_,_,rfl,rfl,hb,rfl,g,z,a,U,n,rfl,N,W,hU,hn,k⟩⟩⟩
end
section
variable{P:Program}{w:World}{K:PySem.W.Frag}{mg:Str->Option Value}{base:Heap}{c:Cs}
theorem nV (T:Tx K mg c):Fn P w K mg base "answer_of_asking" 5 ["net","call","numbers"] (IM K c 14 16):=by
 refine T.eu.ok lX (λvs H Q E h=>?_) (λf cdv A outer s H vs Q E hr h=>?_)
 ·obtain⟨g,s,p,nb,xs,U,n,rfl,_⟩:=h;rfl
 ·obtain⟨g,z,p,nb,xs,U,n,rfl,N,hb,lo,hi,hs,W,hU,hn,k⟩:=h;refine⟨_,(af (aF (aE bj (pv 1) ah (aD _))
   (ag (aj (az (Ag T) hr (aa (pv 0) (aa (aI aH (pv 2) ah (λ_ _=>rfl)) (aa (aI aH (pv 2) ah (λ_ _=>rfl)) ae))))))
   au)
   (af (aF (aE bj (pv 1) ah (aD _))
   (ag (aj (az (ud T) hr (aa (pv 0) ae))))
   au)
   (ag (aj (az (xf T) hr (aa (pv 0) (aa (aI aH (pv 2) ah (λ_ _=>rfl)) (aa (aI aH (pv 2) ah (λ_ _=>rfl)) (aa (aI aH (pv 2) ah (λ_ _=>rfl)) ae))))))))),?_⟩
  have hp:p=14\/p=15\/p=16:=by omega
  rcases hp with rfl|rfl|rfl
  ·obtain⟨a,b,rfl⟩:=lZ (pA hs (a:=2) (b:=0) rfl).1;exact⟨_,rfl,rfl,_,rfl,bK rfl ⟨_,rfl,_,rfl,nb,_,_,_,rfl,rfl,hb,rfl,_,rfl,nb,_,_,_,rfl,rfl,hb,rfl,g,z,a,b,U,n,rfl,N,W,hU,hn,k⟩⟩
  ·obtain rfl:=len0 (pA hs (a:=0) (b:=0) rfl).1;exact⟨_,rfl,rfl,_,rfl,aQ (λz=>nomatch z) ⟨_,rfl,rfl,_,rfl,bK rfl ⟨_,rfl,g,z,U,n,rfl,N,W,hU,hn,k⟩⟩⟩
  ·obtain⟨a,b,d,rfl⟩:=Ht (pA hs (a:=3) (b:=0) rfl).1;exact⟨_,rfl,rfl,_,rfl,aQ (λz=>nomatch z) ⟨_,rfl,rfl,_,rfl,aQ (λz=>nomatch z) ⟨_,rfl,_,rfl,nb,_,_,_,rfl,rfl,hb,rfl,_,rfl,nb,_,_,_,rfl,rfl,hb,rfl,_,rfl,nb,_,_,_,rfl,rfl,hb,rfl,g,z,a,b,d,U,n,rfl,N,W,hU,hn,k⟩⟩⟩
theorem qA (T:Tx K mg c):Fn P w K mg base "answer_of_look" 6 ["net","call","numbers"] (IM K c 17 25):=by
 refine T.ft.ok oW (λvs H Q E h=>?_) (λf cdv A outer s H vs Q E hr h=>?_)
 ·obtain⟨g,s,p,nb,xs,U,n,rfl,_⟩:=h;rfl
 ·obtain⟨g,z,p,nb,xs,U,n,rfl,N,hb,lo,hi,hs,W,hU,hn,k⟩:=h;refine⟨_,(af (aF (aE bj (pv 1) ah (aD _))
   (ag (aj (az (uX T) hr (aa (pv 0) (aa (aI aH (pv 2) ah (λ_ _=>rfl)) (aa (aI aH (pv 2) ah (λ_ _=>rfl)) ae))))))
   au)
   (af (aF (aE bj (pv 1) ah (aD _))
   (ag (aj (az (uY T) hr (aa (pv 0) (aa (aI aH (pv 2) ah (λ_ _=>rfl)) ae)))))
   au)
   (af (aF (aE bj (pv 1) ah (aD _))
   (ag (aj (az (xg T) hr (aa (pv 0) (aa (aI aH (pv 2) ah (λ_ _=>rfl)) (aa (aI aH (pv 2) ah (λ_ _=>rfl)) ae))))))
   au)
   (af (aF (aE bj (pv 1) ah (aD _))
   (ag (aj (az (u0 T) hr (aa (pv 0) (aa (aI aH (pv 2) ah (λ_ _=>rfl)) ae)))))
   au)
   (af (aF (aE bj (pv 1) ah (aD _))
   (ag (aj (az (Aj T) hr (aa (pv 0) ae))))
   au)
   (af (aF (aE bj (pv 1) ah (aD _))
   (ag (aj (az (u4 T) hr (aa (pv 0) (aa (aI aH (pv 2) ah (λ_ _=>rfl)) ae)))))
   au)
   (ag (aj (az (uZ T) hr (aa (pv 0) ae)))))))))),?_⟩
  have h23:p≠23:=λe=>by subst e;have:=(pA hs (a:=2) (b:=2) rfl).2;cases this
  have h24:p≠24:=λe=>by subst e;have:=(pA hs (a:=2) (b:=2) rfl).2;cases this
  have hp:p=17\/p=18\/p=19\/p=20\/p=21\/p=22\/p=25:=by omega
  rcases hp with rfl|rfl|rfl|rfl|rfl|rfl|rfl
  ·obtain⟨a,b,rfl⟩:=lZ (pA hs (a:=2) (b:=0) rfl).1;exact⟨_,rfl,rfl,_,rfl,bK rfl ⟨_,rfl,_,rfl,nb,_,_,_,rfl,rfl,hb,rfl,_,rfl,nb,_,_,_,rfl,rfl,hb,rfl,g,z,a,b,U,n,rfl,N,W,hU,hn,k⟩⟩
  ·obtain⟨a,rfl⟩:=qz (pA hs (a:=1) (b:=0) rfl).1;exact⟨_,rfl,rfl,_,rfl,aQ (λz=>nomatch z) ⟨_,rfl,rfl,_,rfl,bK rfl ⟨_,rfl,_,rfl,nb,_,_,_,rfl,rfl,hb,rfl,g,z,a,U,n,rfl,N,W,hU,hn,k⟩⟩⟩
  ·obtain⟨a,b,rfl⟩:=lZ (pA hs (a:=2) (b:=0) rfl).1;exact⟨_,rfl,rfl,_,rfl,aQ (λz=>nomatch z) ⟨_,rfl,rfl,_,rfl,aQ (λz=>nomatch z) ⟨_,rfl,rfl,_,rfl,bK rfl ⟨_,rfl,_,rfl,nb,_,_,_,rfl,rfl,hb,rfl,_,rfl,nb,_,_,_,rfl,rfl,hb,rfl,g,z,a,b,U,n,rfl,N,W,hU,hn,k⟩⟩⟩⟩
  ·obtain⟨a,rfl⟩:=qz (pA hs (a:=1) (b:=0) rfl).1;exact⟨_,rfl,rfl,_,rfl,aQ (λz=>nomatch z) ⟨_,rfl,rfl,_,rfl,aQ (λz=>nomatch z) ⟨_,rfl,rfl,_,rfl,aQ (λz=>nomatch z) ⟨_,rfl,rfl,_,rfl,bK rfl ⟨_,rfl,_,rfl,nb,_,_,_,rfl,rfl,hb,rfl,g,z,a,U,n,rfl,N,W,hU,hn,k⟩⟩⟩⟩⟩
  ·obtain rfl:=len0 (pA hs (a:=0) (b:=0) rfl).1;exact⟨_,rfl,rfl,_,rfl,aQ (λz=>nomatch z) ⟨_,rfl,rfl,_,rfl,aQ (λz=>nomatch z) ⟨_,rfl,rfl,_,rfl,aQ (λz=>nomatch z) ⟨_,rfl,rfl,_,rfl,aQ (λz=>nomatch z) ⟨_,rfl,rfl,_,rfl,bK rfl ⟨_,rfl,g,z,U,n,rfl,N,W,hU,hn,k⟩⟩⟩⟩⟩⟩
  ·obtain⟨a,rfl⟩:=qz (pA hs (a:=1) (b:=0) rfl).1;exact⟨_,rfl,rfl,_,rfl,aQ (λz=>nomatch z) ⟨_,rfl,rfl,_,rfl,aQ (λz=>nomatch z) ⟨_,rfl,rfl,_,rfl,aQ (λz=>nomatch z) ⟨_,rfl,rfl,_,rfl,aQ (λz=>nomatch z) ⟨_,rfl,rfl,_,rfl,aQ (λz=>nomatch z) ⟨_,rfl,rfl,_,rfl,bK rfl ⟨_,rfl,_,rfl,nb,_,_,_,rfl,rfl,hb,rfl,g,z,a,U,n,rfl,N,W,hU,hn,k⟩⟩⟩⟩⟩⟩⟩
  ·obtain rfl:=len0 (pA hs (a:=0) (b:=0) rfl).1;exact⟨_,rfl,rfl,_,rfl,aQ (λz=>nomatch z) ⟨_,rfl,rfl,_,rfl,aQ (λz=>nomatch z) ⟨_,rfl,rfl,_,rfl,aQ (λz=>nomatch z) ⟨_,rfl,rfl,_,rfl,aQ (λz=>nomatch z) ⟨_,rfl,rfl,_,rfl,aQ (λz=>nomatch z) ⟨_,rfl,rfl,_,rfl,aQ (λz=>nomatch z) ⟨_,rfl,g,z,U,n,rfl,N,W,hU,hn,k⟩⟩⟩⟩⟩⟩⟩
noncomputable def ID (K:PySem.W.Frag) (c:Cs) (lo hi:Int):Sp:=λvs H Q _=>∃(g:Role->Addr) (s:State) (p:Int) (nb rb:Addr) (xs:List Int) (rs:List Addr) (rows:List (List Int)) (U:List Nat) (n:Nat),vs=[.ref (g .n),.int p,.ref nb,.ref rb]/\ax K c H g s/\ba K H nb (xs.map V.int)/\H rb=some (.lst (rs.map V.ref))/\Paired (λr row=>ba K H r (row.map V.int)) rs rows/\lo<=p/\p<=hi/\PyVbcnai.shape p=some (xs.length,rows.length)/\
 (p<=5->∀row∈rows,∀x∈Vbcnai.nats row,x∈U)/\Wf U n s/\Sm U/\n<=399/\c9 K c H g s Q (iA s p xs rows)
theorem Bh {α β:Type}{R:α->β->Prop}{as:List α}{b:β}(h:Paired R as [b]):∃a,as=[a]/\R a b:=by
 cases h with
 |cons r t=>cases t;exact⟨_,rfl,r⟩
theorem Gi {α β:Type}{R:α->β->Prop}{as:List α}{b d:β}(h:Paired R as [b,d]):∃a a',as=[a,a']/\R a b/\R a' d:=by
 cases h with
 |cons r t=>
  obtain⟨a',rfl,r'⟩:=Bh t;exact⟨_,_,rfl,r,r'⟩
theorem qB (T:Tx K mg c):Fn P w K mg base "answer_of_host" 7 ["net","call","numbers","rows"] (ID K c 1 5):=by
 refine T.fq.ok oV (λvs H Q E h=>?_) (λf cdv A outer s H vs Q E hr h=>?_)
 ·obtain⟨g,s,p,nb,rb,xs,rs,rows,U,n,rfl,_⟩:=h;rfl
 ·obtain⟨g,z,p,nb,rb,xs,rs,rows,U,n,rfl,N,hb,hrb,hpr,lo,hi,hs,hxU,W,hU,hn,k⟩:=h;refine⟨_,(af (aF (aE bj (pv 1) ah (aD _))
   (ag (aj (az (yP T) hr (aa (pv 0) (aa (aI aH (pv 2) ah (λ_ _=>rfl)) (aa (aI aH (pv 2) ah (λ_ _=>rfl)) ae))))))
   au)
   (af (aF (aE bj (pv 1) ah (aD _))
   (ag (aj (az (uU T) hr (aa (pv 0) (aa (aI aH (pv 2) ah (λ_ _=>rfl)) ae)))))
   au)
   (af (aF (aE bj (pv 1) ah (aD _))
   (ag (aj (az (yQ T) hr (aa (pv 0) (aa (aI aH (pv 2) ah (λ_ _=>rfl)) (aa (aI aH (pv 2) ah (λ_ _=>rfl)) (aa (aI aH (pv 2) ah (λ_ _=>rfl)) (aa (aI aH (pv 3) ah (λ_ _=>rfl)) ae))))))))
   au)
   (af (aF (aE bj (pv 1) ah (aD _))
   (ag (aj (az (yR T) hr (aa (pv 0) (aa (aI aH (pv 2) ah (λ_ _=>rfl)) (aa (aI aH (pv 2) ah (λ_ _=>rfl)) (aa (aI aH (pv 3) ah (λ_ _=>rfl)) ae)))))))
   au)
   (ag (aj (az (yS T) hr (aa (pv 0) (aa (aI aH (pv 2) ah (λ_ _=>rfl)) (aa (aI aH (pv 2) ah (λ_ _=>rfl)) (aa (aI aH (pv 3) ah (λ_ _=>rfl)) ae))))))))))),?_⟩
  have hp:p=1\/p=2\/p=3\/p=4\/p=5:=by omega
  rcases hp with rfl|rfl|rfl|rfl|rfl
  ·obtain⟨s1,s2⟩:=pA hs (a:=2) (b:=0) rfl;obtain⟨a,b,rfl⟩:=lZ s1;obtain rfl:=len0 s2;exact⟨_,rfl,rfl,_,rfl,bK rfl ⟨_,rfl,_,rfl,nb,_,_,_,rfl,rfl,hb,rfl,_,rfl,nb,_,_,_,rfl,rfl,hb,rfl,g,z,a,b,U,n,rfl,N,W,hU,hn,k⟩⟩
  ·obtain⟨s1,s2⟩:=pA hs (a:=1) (b:=0) rfl;obtain⟨a,rfl⟩:=qz s1;obtain rfl:=len0 s2;exact⟨_,rfl,rfl,_,rfl,aQ (λz=>nomatch z) ⟨_,rfl,rfl,_,rfl,bK rfl ⟨_,rfl,_,rfl,nb,_,_,_,rfl,rfl,hb,rfl,g,z,a,U,n,rfl,N,W,hU,hn,k⟩⟩⟩
  ·obtain⟨s1,s2⟩:=pA hs (a:=3) (b:=1) rfl;obtain⟨a,b,d,rfl⟩:=Ht s1;obtain⟨row,rfl⟩:=qz s2;obtain⟨r,rfl,hr0⟩:=Bh hpr;exact⟨_,rfl,rfl,_,rfl,aQ (λz=>nomatch z) ⟨_,rfl,rfl,_,rfl,aQ (λz=>nomatch z) ⟨_,rfl,rfl,_,rfl,bK rfl ⟨_,rfl,_,rfl,nb,_,_,_,rfl,rfl,hb,rfl,_,rfl,nb,_,_,_,rfl,rfl,hb,rfl,_,rfl,nb,_,_,_,rfl,rfl,hb,rfl,_,rfl,rb,_,_,_,rfl,rfl,ba.of hrb,rfl,a,b,d,g,z,r,row,U,n,rfl,N,hr0,hxU (by omega) row (J6.mpr rfl),W,hU,hn,k⟩⟩⟩⟩
  ·obtain⟨s1,s2⟩:=pA hs (a:=2) (b:=1) rfl;obtain⟨a,b,rfl⟩:=lZ s1;obtain⟨row,rfl⟩:=qz s2;obtain⟨r,rfl,hr0⟩:=Bh hpr;exact⟨_,rfl,rfl,_,rfl,aQ (λz=>nomatch z) ⟨_,rfl,rfl,_,rfl,aQ (λz=>nomatch z) ⟨_,rfl,rfl,_,rfl,aQ (λz=>nomatch z) ⟨_,rfl,rfl,_,rfl,bK rfl ⟨_,rfl,_,rfl,nb,_,_,_,rfl,rfl,hb,rfl,_,rfl,nb,_,_,_,rfl,rfl,hb,rfl,_,rfl,rb,_,_,_,rfl,rfl,ba.of hrb,rfl,a,b,g,z,r,row,U,n,rfl,N,hr0,hxU (by omega) row (J6.mpr rfl),W,hU,hn,k⟩⟩⟩⟩⟩
  ·obtain⟨s1,s2⟩:=pA hs (a:=2) (b:=1) rfl;obtain⟨a,b,rfl⟩:=lZ s1;obtain⟨row,rfl⟩:=qz s2;obtain⟨r,rfl,hr0⟩:=Bh hpr;exact⟨_,rfl,rfl,_,rfl,aQ (λz=>nomatch z) ⟨_,rfl,rfl,_,rfl,aQ (λz=>nomatch z) ⟨_,rfl,rfl,_,rfl,aQ (λz=>nomatch z) ⟨_,rfl,rfl,_,rfl,aQ (λz=>nomatch z) ⟨_,rfl,_,rfl,nb,_,_,_,rfl,rfl,hb,rfl,_,rfl,nb,_,_,_,rfl,rfl,hb,rfl,_,rfl,rb,_,_,_,rfl,rfl,ba.of hrb,rfl,a,b,g,z,r,row,U,n,rfl,N,hr0,hxU (by omega) row (J6.mpr rfl),W,hU,hn,k⟩⟩⟩⟩⟩
theorem pB (s:State) (m n:Int) (a b:List Int):Vbcnai.doing s (.merge m n a b)=(s,if b6 m n a b=false then[-1]else 0::Vbcnai.shownWant (Vbcnai.merge (Vbcnai.wantOf m a) (Vbcnai.wantOf n b))):=by
 unfold Vbcnai.doing b6;dsimp only;split<;>rfl
theorem pC (s:State) (m n:Int) (a b:List Int):Vbcnai.doing s (.steps m n a b)=(s,if b6 m n a b=false then[-1]else[0,((Vbcnai.steps (Vbcnai.wantOf m a) (Vbcnai.wantOf n b)).length:Int)]++(Vbcnai.steps (Vbcnai.wantOf m a) (Vbcnai.wantOf n b)).flatMap Vbcnai.shownStep):=by
 unfold Vbcnai.doing b6;dsimp only;split<;>rfl
theorem iB {p:Int}{a b:Nat}(h:PyVbcnai.shape p=some (a,b)):0<=p/\p<=25:=by
 apply Classical.byContradiction;intro hn;unfold PyVbcnai.shape at h;rw[if_neg (by omega),if_neg (by omega),if_neg (by omega),if_neg (by omega),if_neg (by omega),if_neg (by omega),if_neg (by omega),if_neg (by omega),if_neg (by omega),if_neg (by omega),if_neg (by omega),if_neg (by omega),if_neg (by omega),if_neg (by omega),if_neg (by omega),if_neg (by omega),if_neg (by omega),if_neg (by omega),if_neg (by omega),if_neg (by omega),if_neg (by omega),if_neg (by omega),if_neg (by omega),if_neg (by omega),if_neg (by omega),if_neg (by omega)]at h;cases h
theorem vP {Q:Nat->Nat×Nat->Bool}(hQ:(List.range 26).all (λn=>(PyVbcnai.shape (n:Int)).all (Q n))=true){p:Int}{a b:Nat}(h:PyVbcnai.shape p=some (a,b)):Q p.toNat (a,b)=true:=by
 have hr:=iB h;have hp:((p.toNat:Nat):Int)=p:=Int.toNat_of_nonneg hr.1;have:=List.all_eq_true.mp hQ p.toNat (List.mem_range.mpr (by omega));rw[hp,h]at this;exact this
theorem Ak {p:Int}{a b:Nat}(h:PyVbcnai.shape p=some (a,b)) (h1:6<=p) (h2:p≠23) (h3:p≠24):b=0:=by
 have:=vP (Q:=λn x=>n<6||n==23||n==24||x.2==0) (by decide+kernel) h;simp only[Bool.or_eq_true,JT,beq_iff_eq]at this;omega
theorem Cj {p:Int}{a b:Nat}(h:PyVbcnai.shape p=some (a,b)):b<=2:=
 J0 (vP (Q:=λ_ x=>decide (x.2<=2)) (by decide+kernel) h)
theorem rP (T:Tx K mg c):Fn P w K mg base "answer_of_net" 10 ["net","call","numbers","rows"] (ID K c 1 25):=by
 refine T.fZ.ok qb (λvs H Q E h=>?_) (λf cdv A outer s H vs Q E hr h=>?_)
 ·obtain⟨g,s,p,nb,rb,xs,rs,rows,U,n,rfl,_⟩:=h;rfl
 ·obtain⟨g,z,p,nb,rb,xs,rs,rows,U,n,rfl,N,hb,hrb,hpr,lo,hi,hs,hxU,W,hU,hn,k⟩:=h;refine⟨_,(af (aF (aE cB (pv 1) ah (aD _))
   (ag (aj (az (qB T) hr (aa (pv 0) (aa (pv 1) (aa (pv 2) (aa (pv 3) ae)))))))
   au)
   (af (aF (aE cB (pv 1) ah (aD _))
   (ag (aj (az (nU T) hr (aa (pv 0) (aa (pv 1) (aa (pv 2) ae))))))
   au)
   (af (aF (aE cB (pv 1) ah (aD _))
   (ag (aj (az (rO T) hr (aa (pv 0) (aa (pv 1) (aa (pv 2) ae))))))
   au)
   (af (aF (aE cB (pv 1) ah (aD _))
   (ag (aj (az (nV T) hr (aa (pv 0) (aa (pv 1) (aa (pv 2) ae))))))
   au)
   (af (aF (aE bj (pv 1) ah (aD _))
   (ag (aj (az (wX T.toTxt) hr (aa (aI aH (pv 2) ah (λ_ _=>rfl)) (aa (aI aH (pv 2) ah (λ_ _=>rfl)) (aa (aI aH (pv 3) ah (λ_ _=>rfl)) (aa (aI aH (pv 3) ah (λ_ _=>rfl)) ae)))))))
   au)
   (af (aF (aE bj (pv 1) ah (aD _))
   (ag (aj (az (wY T.toTxt) hr (aa (aI aH (pv 2) ah (λ_ _=>rfl)) (aa (aI aH (pv 2) ah (λ_ _=>rfl)) (aa (aI aH (pv 3) ah (λ_ _=>rfl)) (aa (aI aH (pv 3) ah (λ_ _=>rfl)) ae)))))))
   au)
   (ag (aj (az (qA T) hr (aa (pv 0) (aa (pv 1) (aa (pv 2) ae)))))))))))),?_⟩
  refine⟨_,rfl,_,_,rfl,rfl,_,rfl,b7 (λq=>?_) (λq=>?_)⟩
  ·have q:=J0 q;exact⟨_,rfl,_,rfl,_,rfl,_,rfl,g,z,p,nb,rb,xs,rs,rows,U,n,rfl,N,hb,hrb,hpr,lo,q,hs,hxU,W,hU,hn,k⟩
  have q5:¬p<=5:=λz=>q (J1 z)
  by_cases h23:p=23
  ·subst h23;obtain⟨s1,s2⟩:=pA hs (a:=2) (b:=2) rfl;obtain⟨a,b,rfl⟩:=lZ s1;obtain⟨r0,r1,rfl⟩:=lZ s2;obtain⟨p0,p1,rfl,h0,h1⟩:=Gi hpr;have k:c9 K c H g z Q (Vbcnai.doing z (.merge a b r0 r1)):=k;rw[pB]at k;exact⟨_,rfl,_,_,rfl,rfl,_,rfl,aQ (λz=>nomatch z) ⟨_,rfl,_,_,rfl,rfl,_,rfl,aQ (λz=>nomatch z) ⟨_,rfl,_,_,rfl,rfl,_,rfl,aQ (λz=>nomatch z) ⟨_,rfl,rfl,_,rfl,bK rfl ⟨_,rfl,nb,_,_,_,rfl,rfl,hb,rfl,_,rfl,nb,_,_,_,rfl,rfl,hb,rfl,_,rfl,rb,_,_,_,rfl,rfl,ba.of hrb,rfl,_,rfl,rb,_,_,_,rfl,rfl,ba.of hrb,rfl,a,b,p0,p1,r0,r1,rfl,h0,h1,c9.zl k N T.dist⟩⟩⟩⟩⟩
  by_cases h24:p=24
  ·subst h24;obtain⟨s1,s2⟩:=pA hs (a:=2) (b:=2) rfl;obtain⟨a,b,rfl⟩:=lZ s1;obtain⟨r0,r1,rfl⟩:=lZ s2;obtain⟨p0,p1,rfl,h0,h1⟩:=Gi hpr;have k:c9 K c H g z Q (Vbcnai.doing z (.steps a b r0 r1)):=k;rw[pC]at k;exact⟨_,rfl,_,_,rfl,rfl,_,rfl,aQ (λz=>nomatch z) ⟨_,rfl,_,_,rfl,rfl,_,rfl,aQ (λz=>nomatch z) ⟨_,rfl,_,_,rfl,rfl,_,rfl,aQ (λz=>nomatch z) ⟨_,rfl,rfl,_,rfl,aQ (λz=>nomatch z) ⟨_,rfl,rfl,_,rfl,bK rfl ⟨_,rfl,nb,_,_,_,rfl,rfl,hb,rfl,_,rfl,nb,_,_,_,rfl,rfl,hb,rfl,_,rfl,rb,_,_,_,rfl,rfl,ba.of hrb,rfl,_,rfl,rb,_,_,_,rfl,rfl,ba.of hrb,rfl,a,b,p0,p1,r0,r1,rfl,h0,h1,c9.zl k N T.dist⟩⟩⟩⟩⟩⟩
  have e0:=Ak hs (by omega) h23 h24;obtain rfl:=len0 e0;have hs:PyVbcnai.shape p=some (xs.length,0):=hs;refine⟨_,rfl,_,_,rfl,rfl,_,rfl,b7 (λq=>?_) (λq=>?_)⟩
  ·have q:=J0 q;exact⟨_,rfl,_,rfl,_,rfl,g,z,p,nb,xs,U,n,rfl,N,hb,by omega,q,hs,W,hU,hn,k⟩
  have q10:¬p<=10:=λz=>q (J1 z);refine⟨_,rfl,_,_,rfl,rfl,_,rfl,b7 (λq=>?_) (λq=>?_)⟩
  ·have q:=J0 q;exact⟨_,rfl,_,rfl,_,rfl,g,z,p,nb,xs,U,n,rfl,N,hb,by omega,q,hs,W,hU,hn,k⟩
  have q13:¬p<=13:=λz=>q (J1 z);refine⟨_,rfl,_,_,rfl,rfl,_,rfl,b7 (λq=>?_) (λq=>?_)⟩
  ·have q:=J0 q;exact⟨_,rfl,_,rfl,_,rfl,g,z,p,nb,xs,U,n,rfl,N,hb,by omega,q,hs,W,hU,hn,k⟩
  have q16:¬p<=16:=λz=>q (J1 z);refine⟨_,rfl,rfl,_,rfl,aQ (λq=>h23 (by have:=J0 q;injection this)) ?_⟩;refine⟨_,rfl,rfl,_,rfl,aQ (λq=>h24 (by have:=J0 q;injection this)) ?_⟩;exact⟨_,rfl,_,rfl,_,rfl,g,z,p,nb,xs,U,n,rfl,N,hb,by omega,by omega,hs,W,hU,hn,k⟩
end
theorem lV {lo hi n:Int}{C:Bool->Prop}(k:C (Vbcnai.within n lo hi)):if decide (lo<=n)=true then(∃i j,V.int n=V.int i/\V.int hi=V.int j/\∃b,V.bl (decide (i<=j))=V.bl b/\C b)else ∃b,V.bl false=V.bl b/\C b:=by
 refine b7 (λh=>⟨_,_,rfl,rfl,_,rfl,?_⟩) (λh=>⟨_,rfl,?_⟩)
 ·rw[zX h]at k;exact k
 ·rw[B0 h]at k;exact k
theorem nW {n lo hi:Int}(h:Vbcnai.within n lo hi=true) (hl:0<=lo):n=(n.toNat:Int):=by
 unfold Vbcnai.within at h;rw[JS,JT]at h;omega
noncomputable def gf (ports me stay every last bag entries:Int):Bool:=Vbcnai.within ports 1 64&&(Vbcnai.within me 0 (2^32 - 1)&&(Vbcnai.within stay 1 1000000&&(Vbcnai.within every 1 1000000&&(Vbcnai.within last 1 1000000&&(Vbcnai.within bag 1 1024&&Vbcnai.within entries 1 4096)))))
theorem ax.stay {K:PySem.W.Frag}{c:Cs}{H H':Hp}{g:Role->Addr}{s:State}(N:ax K c H g s) (h:∀a o,H a=some o->(Iu c o\/∃r,Used s r/\g r=a)->H' a=some o):ax K c H' g s:=by
 have kp:Kp c H H':=λb o e i=>h b o e (.inl i);have at_:∀(r:Role){o:HO},Used s r->H (g r)=some o->H' (g r)=some o:=λr o u e=>h _ _ e (.inr ⟨r,u,rfl⟩);refine⟨let ⟨dx,e⟩:=N.nM;⟨dx,at_ .n trivial e⟩,let ⟨dx,e⟩:=N.pJ;⟨dx,at_ .sw trivial e⟩,let ⟨as,e,p⟩:=N.bag;⟨as,at_ .bg trivial e,Paired.imp (λ_ _ r=>r.keep kp) p⟩,N.hosts.keep λo e=>at_ .hd trivial e,λn x hx=>?_,?_,
  N.rk.keep λo e=>at_ .pl trivial e,N.fix.keep λo e=>at_ .fx trivial e,N.tX.keep λo e=>at_ .he trivial e,N.inj⟩
 ·have u:(Vbcnai.hostOf s n).isSome=true:=by rw[hx];rfl
  have A:=N.host n x hx;obtain⟨dx,e⟩:=A.obj;obtain⟨f,e2,e3⟩:=A.Cz;exact⟨⟨dx,at_ (.ho n) u e⟩,⟨f,e2.keep λo q=>at_ (.dw n) u q,λm=>(e3 m).imp λa y w=>w.keep kp.tk⟩,A.HH.keep λo q=>at_ (.ds n) u q⟩
 ·obtain⟨f,e2,e3⟩:=N.ent;exact⟨f,e2.keep λo q=>at_ .en trivial q,λp=>(e3 p).imp λa y w=>w.keep kp⟩
section
variable{P:Program}{w:World}{K:PySem.W.Frag}{mg:Str->Option Value}{base:Heap}{c:Cs}
noncomputable def Hu (c:Cs):Sp:=λvs H Q _=>∃(p dx:Addr),vs=[.ref p]/\H p=some (.ins c.Line dx [])/\Q .bQ (upd H p (.ins c.Line dx [("net",.bQ)]))
theorem Hv (T:Txt K mg c):Mc P w K mg base "Line" c.Line 1 ["self"] (Hu c):=by
 refine T.cN.ok wO (λvs H Q E h=>?_) (λf cdv A outer s H vs Q E hr h=>?_)
 ·obtain⟨p,dx,rfl,_⟩:=h;rfl
 ·obtain⟨p,dx,rfl,hp,k⟩:=h;refine⟨_,(ag (aP (pv 0) zx rfl)),?_⟩;exact⟨_,rfl,p,_,dx,_,rfl,hp,T.cN.cl,T.d8,(by show 0<1000;decide),k⟩
noncomputable def FT (K:PySem.W.Frag) (c:Cs):Sp:=λvs H Q _=>∃(la dx:Addr) (v:V) (ports me stay every last bag entries:Int),vs=[.ref la,.int ports,.int me,.int stay,.int every,.int last,.int bag,.int entries]/\H la=some (.ins c.Line dx [("net",v)])/\
 (gf ports me stay every last bag entries=false->B3 H Q [-1])/\
 (gf ports me stay every last bag entries=true->∀(H':Hp) (g:Role->Addr) (p:Addr),ax K c H' g (begun ports.toNat me.toNat stay.toNat every.toNat last.toNat bag.toNat entries.toNat)->H' la=some (.ins c.Line dx [("net",.ref (g .n))])->fG la H H'->(∀r,Used (begun ports.toNat me.toNat stay.toNat every.toNat last.toNat bag.toNat entries.toNat) r->H (g r)=none)->H p=none->H' p=some (.lst [.int 0])->Q (.ref p) H')
theorem xi (T:Tx K mg c):Fn P w K mg base "call_begin" 5 ["line","ports","me","stay","every","last","bag","entries"] (FT K c):=by
 refine T.jO.ok mw (λvs H Q E h=>?_) (λf cdv A outer s H vs Q E hr h=>?_)
 ·obtain⟨la,dx,v,ports,me,stay,every,last,bag,entries,rfl,_⟩:=h;rfl
 ·obtain⟨la,dx,v,ports,me,stay,every,last,bag,entries,rfl,hla,k0,k1⟩:=h;have nd:=mw.nd;refine⟨_,(af (aF (PW.pt (qF (aX (kx cB cB ah (pv 1) (bz T.jE))) (mT (aX (aR (az (ig T.toTxt) hr (aa (pv 2) ae)))))))
   (ag (aj (aC (aa (br aS ah) ae))))
   au)
   (af (fQ PassesOwn.never rfl (wj (bS (aa (pv 3) (aa (pv 4) (aa (pv 5) ae))))) (bH (i:=8) nd rfl (Or.inl rfl))
   (ag (aF (aX (kx cB cB ah (pv 8) (bz T.gJ)))
   (ag (aj (aC (aa (br aS ah) ae))))
   au)))
   (af (aF (PW.pt (qF (aX (kx cB cB ah (pv 6) (bz T.fS))) (mT (aX (kx cB cB ah (pv 7) (bz T.gK))))))
   (ag (aj (aC (aa (br aS ah) ae))))
   au)
   (af (aP (pv 0) (l7 (IA T.toTxt) hr (aa (pv 1) (aa (pv 2) (aa (pv 3) (aa (pv 4) (aa (pv 5) (aa (pv 6) (aa (pv 7) ae)))))))) rfl)
   (ag (aj (aC (aa ah ae)))))))),?_⟩
  unfold gf at k0 k1;have esrc:Vbcnai.within me 0 (2^32 - 1)=ck me:=rfl;rw[esrc]at k0 k1;refine⟨_,rfl,_,_,rfl,rfl,_,rfl,lV ?_⟩;cases h1:Vbcnai.within ports 1 64 with
  |false=>
   rw[h1,Bool.false_and]at k0;exact bG (bG ⟨_,rfl,FF (k0 rfl)⟩)
  |true=>
   rw[h1,Bool.true_and]at k0 k1;refine bX ⟨_,rfl,me,rfl,_,rfl,?_⟩;cases h2:ck me with
   |false=>
    rw[h2,Bool.false_and]at k0;exact bG ⟨_,rfl,FF (k0 rfl)⟩
   |true=>
    rw[h2,Bool.true_and]at k0 k1;refine bX ⟨_,rfl,_,rfl,_,rfl,(by show 3<=sizeLine;decide),λt nt=>?_⟩;have s1:aw H (upd H t (.tup [.int stay,.int every,.int last])):=aw.new nt;have ht:(upd H t (.tup [.int stay,.int every,.int last])) t=some (.tup [.int stay,.int every,.int last]):=ab;generalize (upd H t (.tup [.int stay,.int every,.int last]))=H1 at s1 ht;have zl:B3 H Q [-1]->([V.int (-1)].length<=sizeLine/\∀p,H1 p=none->Q (.ref p) (upd H1 p (.lst [.int (-1)]))):=λk=>⟨by show 1<=sizeLine;decide,λp n=>k _ p (s1.up n) (s1.nn n) ab⟩;have hT:eJ K H1 t [.int stay,.int every,.int last]:=.inl (.inl ht);refine⟨t,rfl,⟨_,hT⟩,AM (K:=K) (a:=t) (xs:=[.int stay,.int every,.int last]) (λi σ H'=>H'=H1/\((1<=i->Vbcnai.within stay 1 1000000=true)/\(2<=i->Vbcnai.within every 1 1000000=true)/\(3<=i->Vbcnai.within last 1 1000000=true))/\∃v:Option V,σ=[some (.ref la),some (.int ports),some (.int me),some (.int stay),some (.int every),some (.int last),some (.int bag),some (.int entries),v])
     ⟨rfl,⟨λh=>absurd h (by omega),λh=>absurd h (by omega),λh=>absurd h (by omega)⟩,none,rfl⟩ (λi σ H' _ h=>by rw[h.1];exact hT) ?_ ?_⟩
    ·rintro i y σ H' hi ⟨rfl,⟨w1,w2,w3⟩,v',rfl⟩
     match i,hi with
     |0,hi=>
      have ey:y=.int stay:=(JU hi).symm;subst ey;refine⟨_,rfl,_,_,rfl,rfl,_,rfl,lV ?_⟩;cases hx:Vbcnai.within stay 1 1000000 with
      |false=>exact bG ⟨_,rfl,zl (k0 (by rw[hx,Bool.false_and]))⟩
      |true=>exact bX ⟨rfl,⟨λ_=>rfl,λh=>absurd h (by omega),λh=>absurd h (by omega)⟩,_,rfl⟩
     |1,hi=>
      have ey:y=.int every:=(JU hi).symm;subst ey;have w1:=w1 (by omega);refine⟨_,rfl,_,_,rfl,rfl,_,rfl,lV ?_⟩;cases hx:Vbcnai.within every 1 1000000 with
      |false=>exact bG ⟨_,rfl,zl (k0 (by rw[w1,hx,Bool.false_and,Bool.and_false]))⟩
      |true=>exact bX ⟨rfl,⟨λ_=>w1,λ_=>rfl,λh=>absurd h (by omega)⟩,_,rfl⟩
     |2,hi=>
      have ey:y=.int last:=(JU hi).symm;subst ey;have w1:=w1 (by omega);have w2:=w2 (by omega);refine⟨_,rfl,_,_,rfl,rfl,_,rfl,lV ?_⟩;cases hx:Vbcnai.within last 1 1000000 with
      |false=>exact bG ⟨_,rfl,zl (k0 (by rw[w1,w2,hx,Bool.false_and,Bool.and_false,Bool.and_false]))⟩
      |true=>exact bX ⟨rfl,⟨λ_=>w1,λ_=>w2,λ_=>rfl⟩,_,rfl⟩
     |i+3,hi=>simp at hi
    ·rintro σ H' ⟨rfl,⟨w1,w2,w3⟩,v',rfl⟩;have w1:=w1 (by simp);have w2:=w2 (by simp);have w3:=w3 (by simp);rw[w1,w2,w3,Bool.true_and,Bool.true_and,Bool.true_and]at k0 k1;refine⟨_,rfl,_,_,rfl,rfl,_,rfl,lV ?_⟩;cases h4:Vbcnai.within bag 1 1024 with
     |false=>
      rw[h4,Bool.false_and]at k0;exact bG (bG ⟨_,rfl,zl (k0 rfl)⟩)
     |true=>
      rw[h4,Bool.true_and]at k0 k1;refine bX ⟨_,rfl,_,_,rfl,rfl,_,rfl,lV ?_⟩;cases h5:Vbcnai.within entries 1 4096 with
      |false=>exact bG ⟨_,rfl,zl (k0 h5)⟩
      |true=>
       have kk:=k1 h5;clear k1 k0;have e1:=nW h1 (by omega);have e2:=nW h2 (by omega);have e3:=nW w1 (by omega);have e4:=nW w2 (by omega);have e5:=nW w3 (by omega);have e6:=nW h4 (by omega);have e7:=nW h5 (by omega);generalize ports.toNat=a1 at kk e1;generalize me.toNat=a2 at kk e2;generalize stay.toNat=a3 at kk e3;generalize every.toNat=a4 at kk e4;generalize last.toNat=a5 at kk e5;generalize bag.toNat=a6 at kk e6;generalize entries.toNat=a7 at kk e7;subst e1 e2 e3 e4 e5 e6 e7;refine bX ⟨_,rfl,_,rfl,_,rfl,_,rfl,_,rfl,_,rfl,_,rfl,?_⟩;intro x dn nx ndn ne;refine⟨x,dn,a1,a2,a3,a4,a5,a6,a7,rfl,ab,λH2 g hg N b2 fr=>⟨rfl,?_⟩⟩;have s2:aw H' H2:=λb o e=>b2 b o (by rw[ak (ao e nx),ak (ao e ndn)];exact e) (ao e nx);have fr':∀r,Used (begun a1 a2 a3 a4 a5 a6 a7) r->H' (g r)=none:=λr u=>by
        by_cases er:r=.n
        ·rw[er,hg];exact nx
        ·have:=fr r u er;have n1:g r≠x:=λz=>by rw[z,ab]at this;cases this
         rw[ak n1]at this
         by_cases n2:g r=dn
         ·rw[n2,ab]at this;cases this
         ·rw[ak n2]at this;exact this
       have hla2:H2 la=some (.ins c.Line dx [("net",v)]):=(s1.trans s2) _ _ hla;refine⟨_,rfl,la,_,dx,_,rfl,hla2,T.cN.cl,T.d8,(by show 1<1000;decide),?_⟩;have lar:∀r,Used (begun a1 a2 a3 a4 a5 a6 a7) r->g r≠la:=λr u z=>by
        have:=fr' r u;rw[z,s1 _ _ hla]at this;cases this
       have stay':∀b o,H2 b=some o->b≠la->(upd H2 la (.ins c.Line dx [("net",.ref x)])) b=some o:=λb o e n=>by rw[ak n];exact e
       refine⟨(by show 1<=sizeLine;decide),λp n=>?_⟩;subst hg;have rk:p≠la:=λz=>by rw[z,ab]at n;cases n
       have H2p:H2 p=none:=by rw[ak rk]at n;exact n
       refine kk _ g p ?_ ?_ ?_ ?_ ?_ ab
       ·refine(N.stay (H':=upd H2 la (.ins c.Line dx [("net",.ref (g .n))])) λa o e q=>?_).same T.dist (aw.new n);refine stay' a o e λz=>?_;rcases q with q|⟨r,u,er⟩
        ·rw[z,hla2]at e;cases e;exact pd T.IB q
        ·exact lar r u (er.trans z)
       ·rw[ak rk.symm];exact ab
       ·intro b o e nb;rw[ak (ao ((s1.trans s2) _ _ e) H2p),ak nb];exact(s1.trans s2) _ _ e
       ·intro r u;exact s1.nn (fr' r u)
       ·exact(s1.trans s2).nn H2p
end
noncomputable def ff (a:Addr) (k:Nat):List (Str×V):=[("calls",.ref a),("place",.int k)]
theorem Er {K:PySem.W.Frag}{H H':Hp}{a:Addr}{xs:List V}(h:ba K H a xs) (k:∀o,H a=some o->H' a=some o):ba K H' a xs:=by
 rcases h with(h|⟨o,h⟩)|h
 ·exact .inl (.inl (k _ h))
 ·exact .inl (.inr ⟨o,k _ h⟩)
 ·exact .inr h
section
variable{P:Program}{w:World}{K:PySem.W.Frag}{mg:Str->Option Value}{base:Heap}{c:Cs}
noncomputable def Es (c:Cs):Sp:=λvs H Q _=>∃(p dx:Addr) (v1:V),vs=[.ref p,v1]/\H p=some (.ins c.Reader dx [])/\Q .bQ (upd H p (.ins c.Reader dx [("calls",v1),("place",.int 0)]))
theorem Et (T:Txt K mg c):Mc P w K mg base "Reader" c.Reader 1 ["self","calls"] (Es c):=by
 refine T.c6.ok tK (λvs H Q E h=>?_) (λf cdv A outer s H vs Q E hr h=>?_)
 ·obtain⟨p,dx,v1,rfl,_⟩:=h;rfl
 ·obtain⟨p,dx,v1,rfl,hp,k⟩:=h;have cl:=T.c6.cl;refine⟨_,(af (aP (pv 0) (pv 1) rfl)
   (ag (aP (pv 0) ah rfl))),?_⟩
  refine⟨_,rfl,_,rfl,p,_,dx,_,rfl,hp,cl,T.dk,(by show 0<1000;decide),?_⟩;refine⟨_,rfl,p,_,dx,_,rfl,ab,cl,T.cj,(by show 1<1000;decide),?_⟩;rw[bN];exact k
noncomputable def FU (K:PySem.W.Frag) (c:Cs):Sp:=λvs H Q _=>∃(r a dx:Addr) (ns:List Int) (k:Nat),vs=[.ref r]/\H r=some (.ins c.Reader dx (ff a k))/\ba K H a (ns.map V.int)/\Q (.bl (decide (ns.length<=k))) H
theorem rQ (T:Tx K mg c):Me P w K mg base c.Reader "at_end" 1 ["self"] (FU K c):=by
 refine T.fY.ok qa (λvs H Q E h=>?_) (λf cdv A outer s H vs Q E hr h=>?_)
 ·obtain⟨r,a,dx,ns,k,rfl,_⟩:=h;rfl
 ·obtain⟨r,a,dx,ns,k,rfl,hr',ha,kk⟩:=h;refine⟨_,(ag (aj (cn C5 (aB (pv 0)) (aO bu (by rfl) T.dJ cT (aa (aB (pv 0)) ae)) (aD _)))),?_⟩;have cl:=T.c6.cl;refine⟨_,rfl,_,_,rfl,⟨_,dx,_,hr',cl,T.cj,rfl⟩,_,rfl,_,_,rfl,⟨_,dx,_,hr',cl,T.dk,rfl⟩,_,_,rfl,.inl ha,_,_,rfl,rfl,?_⟩;rw[JQ];have e:decide ((ns.length:Int)<=(k:Int))=decide (ns.length<=k):=by
   rw[decide_eq_decide];omega
  show Q (.bl (decide ((ns.length:Int)<=(k:Int)))) H;rw[e];exact kk
theorem Hw (ns:List Int){k m:Nat}(h:k+m<=ns.length):BN (ns.map V.int) (some (k:Int)) (some ((k:Int)+(m:Int)))=((ns.drop k).take m).map V.int:=by
 unfold BN;have e:(k:Int)+(m:Int)=((k+m:Nat):Int):=by omega
 rw[e,HT.AS,HT.AS,JQ,Nat.min_eq_left h,Nat.min_eq_left (show k<=ns.length by omega),List.map_take,List.map_drop,show k+m - k=m by omega]
noncomputable def Hx (K:PySem.W.Frag) (c:Cs):Sp:=λvs H Q _=>∃(r a dx:Addr) (ns:List Int) (k m:Nat),vs=[.ref r,.int m]/\H r=some (.ins c.Reader dx (ff a k))/\(∀H',fG r H H'->ba K H' a (ns.map V.int))/\k+m<=ns.length/\
 ∀(H':Hp) (p:Addr),fG r H H'->H p=none->H' r=some (.ins c.Reader dx (ff a (k+m)))->H' p=some (.lst (((ns.drop k).take m).map V.int))->Q (.ref p) H'
theorem iX (T:Tx K mg c):Me P w K mg base c.Reader "take" 1 ["self","how_many"] (Hx K c):=by
 refine T.iT.ok k5 (λvs H Q E h=>?_) (λf cdv A outer s H vs Q E hr h=>?_)
 ·obtain⟨r,a,dx,ns,k,m,rfl,_⟩:=h;rfl
 ·obtain⟨r,a,dx,ns,k,m,rfl,hr',ha,hl,kk⟩:=h;have nd:=k5.nd;refine⟨_,(af (aT (i:=2) nd rfl (Or.inl rfl) (aB (pv 0)))
   (af (aP (pv 0) (cu fj (pv 2) (pv 1)) rfl)
   (ag (aj (Df Fi (aB (pv 0)) (AU (pv 2)) (AU (aB (pv 0)))))))),?_⟩
  have cl:=T.c6.cl;refine⟨_,rfl,_,_,rfl,⟨_,dx,_,hr',cl,T.cj,rfl⟩,_,rfl,_,rfl,_,_,rfl,rfl,_,rfl,r,_,dx,_,rfl,hr',cl,T.cj,(by show 2<1000;decide),?_⟩;have ha1:ba K (upd H r (.ins c.Reader dx (ff a (k+m)))) a (ns.map V.int):=ha _ fG.refl.upd;refine⟨_,rfl,_,_,rfl,⟨_,dx,_,ab,cl,T.dk,rfl⟩,_,rfl,_,rfl,_,rfl,_,_,rfl,⟨_,dx,_,ab,cl,T.cj,rfl⟩,_,rfl,a,_,rfl,ha1,λp n=>?_⟩;have pr:p≠r:=λz=>by rw[z,ab]at n;cases n
  have Hp':H p=none:=by rw[ak pr]at n;exact n
  refine kk _ p ((fG.refl.upd).new n) Hp' ?_ ?_
  ·rw[ak pr.symm];exact ab
  ·rw[ab,Hw ns hl]
noncomputable def FV (K:PySem.W.Frag) (c:Cs):Sp:=λvs H Q _=>∃(r a dx:Addr) (ns:List Int) (k:Nat) (z:Int),vs=[.ref r]/\H r=some (.ins c.Reader dx (ff a k))/\(∀H',fG r H H'->ba K H' a (ns.map V.int))/\ns[k]? =some z/\
 ∀H':Hp,fG r H H'->H' r=some (.ins c.Reader dx (ff a (k+1)))->Q (.int z) H'
theorem fP (T:Tx K mg c):Me P w K mg base c.Reader "take_number" 2 ["self"] (FV K c):=by
 refine T.dm.ok kl (λvs H Q E h=>?_) (λf cdv A outer s H vs Q E hr h=>?_)
 ·obtain⟨r,a,dx,ns,k,z,rfl,_⟩:=h;rfl
 ·obtain⟨r,a,dx,ns,k,z,rfl,hr',ha,hz,kk⟩:=h;refine⟨_,(ag (aj (aI aH (bT (pv 0) (iX T) hr (aa ah ae)) ah (λ_ _=>rfl)))),?_⟩;have hl:=(J2.mp hz).1;refine⟨_,rfl,r,dx,_,rfl,hr',rfl,r,a,dx,ns,k,1,rfl,hr',ha,by omega,λH1 p b1 n1 e1 e2=>?_⟩;have e3:(ns.drop k).take 1=[z]:=by
   obtain⟨hl,rfl⟩:=J2.mp hz;rw[List.drop_eq_getElem_cons hl];rfl
  rw[e3]at e2;exact⟨p,_,_,_,rfl,rfl,ba.of e2,rfl,kk H1 b1 e1⟩
noncomputable def FW (K:PySem.W.Frag) (c:Cs):Sp:=λvs H Q _=>∃(r a dx:Addr) (ns:List Int) (k:Nat) (x t:List Int),vs=[.ref r]/\H r=some (.ins c.Reader dx (ff a k))/\(∀H',fG r H H'->ba K H' a (ns.map V.int))/\k<=ns.length/\PyFlat.row (ns.drop k)=some (x,t)/\
 ∀(H':Hp) (p:Addr) (k':Nat),fG r H H'->H p=none->H' r=some (.ins c.Reader dx (ff a k'))->k'<=ns.length->ns.drop k'=t->H' p=some (.lst (x.map V.int))->Q (.ref p) H'
theorem pD (T:Tx K mg c):Me P w K mg base c.Reader "take_row" 3 ["self"] (FW K c):=by
 refine T.eW.ok nk (λvs H Q E h=>?_) (λf cdv A outer s H vs Q E hr h=>?_)
 ·obtain⟨r,a,dx,ns,k,x,t,rfl,_⟩:=h;rfl
 ·obtain⟨r,a,dx,ns,k,x,t,rfl,hr',ha,hk,hrow,kk⟩:=h;refine⟨_,(ag (aj (bT (pv 0) (iX T) hr (aa (jx (pv 0) (fP T) hr) ae)))),?_⟩;cases hd:ns.drop k with
  |nil=>rw[hd]at hrow;cases hrow
  |cons z l=>
   rw[hd]at hrow;unfold PyFlat.row at hrow;dsimp only at hrow;split at hrow
   ·rename_i hc;have e:=JU hrow;rw[Prod.mk.injEq]at e;obtain⟨rfl,rfl⟩:=e;have hz:ns[k]? =some z:=by
     have:(ns.drop k)[0]? =some z:=by rw[hd];rfl
     rw[List.getElem?_drop]at this;simpa using this
    have hd1:ns.drop (k+1)=l:=by
     have:(ns.drop k).drop 1=l:=by rw[hd];rfl
     rw[List.drop_drop]at this;exact this
    have hlen:l.length=ns.length - (k+1):=by rw[←hd1,List.length_drop]
    have hkl:=(J2.mp hz).1;refine⟨_,rfl,r,dx,_,rfl,hr',rfl,_,rfl,r,dx,_,rfl,hr',rfl,r,a,dx,ns,k,z,rfl,hr',ha,hz,λH1 b1 e1=>?_⟩;have ez:z=(z.toNat:Int):=by omega
    have ha1:∀H',fG r H1 H'->ba K H' a (ns.map V.int):=λH' b=>ha H' λx o e n=>b x o (b1 x o e n) n;refine⟨r,a,dx,ns,k+1,z.toNat,by rw[←ez];rfl,e1,ha1,by omega,λH2 p b2 n2 e2 e3=>?_⟩;have b12:fG r H H2:=λb o e n=>b2 b o (b1 b o e n) n;have Hp':H p=none:=b1.free n2 (by rw[e1];exact λz=>nomatch z);refine kk H2 p (k+1+z.toNat) b12 Hp' e2 (by omega) ?_ ?_
    ·rw[←hd1,List.drop_drop]
    ·rw[e3,hd1]
   ·cases hrow
structure iY (K:PySem.W.Frag) (c:Cs) (H:Hp) (la:Addr) (s:State) (F:Addr->Prop):Prop where
 own:F la
 ex:(s.on=false/\∃dx,H la=some (.ins c.Line dx [("net",.bQ)]))\/(s.on=true/\∃(g:Role->Addr) (dx:Addr),H la=some (.ins c.Line dx [("net",.ref (g .n))])/\ax K c H g s/\(∀r,Used s r->F (g r))/\∀r,Used s r->g r≠la)
theorem iY.stay {H H':Hp}{la:Addr}{s:State}{F:Addr->Prop}(L:iY K c H la s F) (h:∀b o,H b=some o->F b\/Iu c o->H' b=some o):iY K c H' la s F:=by
 refine⟨L.own,?_⟩;rcases L.ex with⟨h1,dx,e⟩|⟨h1,g,dx,e,N,hF,hn⟩
 ·exact .inl ⟨h1,dx,h _ _ e (.inl L.own)⟩
 ·refine .inr ⟨h1,g,dx,h _ _ e (.inl L.own),N.stay λa o ea q=>h a o ea ?_,hF,hn⟩;rcases q with q|⟨r,u,er⟩
  ·exact .inr q
  ·exact .inl (er▸hF r u)
theorem iY.but {H H':Hp}{la r dx:Addr}{s:State}{F:Addr->Prop}{fs:List (Str×V)}(T:Tx K mg c) (L:iY K c H la s F) (b:fG r H H') (hr:H r=some (.ins c.Reader dx fs)) (nF:¬F r):iY K c H' la s F:=
 L.stay λa o e q=>b a o e λz=>by
  rcases q with q|q
  ·exact nF (z▸q)
  ·rw[z,hr]at e;cases e;exact pd T.IC q
end
noncomputable def pE:Vbcnai.Call->Bool
 |.begin_ _ _ _ _ _ _ _=>false
 |_=>true
noncomputable def kept (cl:List (List Int)):List Nat:=match cl with
 |(p::_)::rows=>if p<=5 then rows.flatMap Vbcnai.nats else[]
 |_=>[]
noncomputable def given (d:Vbcnai.Call):List Nat:=match d with
 |.want _ _ _ l=>Vbcnai.nats l
 |.more _ _ l=>Vbcnai.nats l
 |.less _ _ l=>Vbcnai.nats l
 |_=>[]
noncomputable def Bi (cl:List (List Int)):Bool:=match cl with
 |(p::_)::_=>p==21
 |_=>false
theorem IE {α:Type}:∀{l:List α},l.length=7->∃a b d e f g h,l=[a,b,d,e,f,g,h]
 |[a,b,d,e,f,g,h],_=>⟨a,b,d,e,f,g,h,rfl⟩
theorem JN {p:Int}(h0:0<=p) (h1:p<=25):p=0\/p=1\/p=2\/p=3\/p=4\/p=5\/p=6\/p=7\/p=8\/p=9\/p=10\/p=11\/p=12\/p=13\/p=14\/p=15\/p=16\/p=17\/p=18\/p=19\/p=20\/p=21\/p=22\/p=23\/p=24\/p=25:=by
 obtain⟨n,rfl⟩:=Int.eq_ofNat_of_zero_le h0;have hn:n<26:=by omega
 clear h0 h1;revert n;decide
theorem Eu {p:Int}{xs:List Int}{rows:List (List Int)}(hs:PyVbcnai.shape p=some (xs.length,rows.length)):PyVbcnai.whole ((p::xs)::rows)=(p::xs)::rows/\∃d,VbcnaiNeutral.call ((p::xs)::rows)=some d/\(p≠0->pE d=true)/\(∀x∈given d,x∈kept ((p::xs)::rows))/\(d=.bag->Bi ((p::xs)::rows)=true):=by
 have hr:=iB hs;have hq:=JN hr.1 hr.2;rcases hq with rfl|rfl|rfl|rfl|rfl|rfl|rfl|rfl|rfl|rfl|rfl|rfl|rfl|rfl|rfl|rfl|rfl|rfl|rfl|rfl|rfl|rfl|rfl|rfl|rfl|rfl
 all_goals
  obtain⟨e1,e2⟩:=pA hs rfl
  first
   |obtain rfl:=len0 e1
   |obtain⟨_,rfl⟩:=qz e1
   |obtain⟨_,_,rfl⟩:=lZ e1
   |obtain⟨_,_,_,rfl⟩:=Ht e1
   |obtain⟨_,_,_,_,_,_,_,rfl⟩:=IE e1
  first
   |obtain rfl:=len0 e2
   |obtain⟨_,rfl⟩:=qz e2
   |obtain⟨_,_,rfl⟩:=lZ e2
  exact⟨rfl,_,rfl,λh=>by first|rfl|exact absurd rfl h,λx hx=>by first|exact absurd hx List.not_mem_nil|exact List.mem_flatMap.mpr ⟨_,J6.mpr rfl,hx⟩,λz=>by first|rfl|cases z⟩
theorem call_of {p:Int}{xs:List Int}{rows:List (List Int)}(hp:p≠0) (hs:PyVbcnai.shape p=some (xs.length,rows.length)):∃d,VbcnaiNeutral.call ((p::xs)::rows)=some d/\pE d=true:=by
 obtain⟨_,d,h,k,_⟩:=Eu hs;exact⟨d,h,k hp⟩
theorem xj {s:State}{d:Vbcnai.Call}(h:pE d=true):Vbcnai.step s d=if s.on=false then(s,[-20])else Vbcnai.doing s d:=by
 cases d with
 |begin_ a b e f g i j=>cases h
 |_=>rfl
theorem FX {s:State}(h:s.on=true){p:Int}{xs:List Int}{rows:List (List Int)}(hp:p≠0) (hs:PyVbcnai.shape p=some (xs.length,rows.length)):VbcnaiNeutral.step s ((p::xs)::rows)=iA s p xs rows:=by
 obtain⟨d,hc,hb⟩:=call_of hp hs;unfold VbcnaiNeutral.step iA;rw[hc];dsimp only;rw[xj hb,h,if_neg (λz=>nomatch z)]
theorem Ew {s:State}(h:s.on=false){p:Int}{xs:List Int}{rows:List (List Int)}(hp:p≠0) (hs:PyVbcnai.shape p=some (xs.length,rows.length)):VbcnaiNeutral.step s ((p::xs)::rows)=(s,[-20]):=by
 obtain⟨d,hc,hb⟩:=call_of hp hs;unfold VbcnaiNeutral.step;rw[hc];dsimp only;rw[xj hb,h,if_pos rfl]
theorem iC (s:State) (m:Msg):(Vbcnai.send s m).on=s.on:=by
 unfold Vbcnai.send;split<;>rfl
theorem y3:∀(l:List Msg) (s:State),(Vbcnai.sends s l).on=s.on
 |[],s=>rfl
 |m::l,s=>(y3 l (Vbcnai.send s m)).trans (iC s m)
theorem pF (s:State) (x:Ho) (g:Nat) (w:Want) (e:mL):(Vbcnai.tells s x g w e).on=s.on:=by
 unfold Vbcnai.tells;cases x.port with
 |none=>rfl
 |some p=>exact iC _ _
theorem um (s:State) (h g:Nat):(Vbcnai.retells s h g).on=s.on:=by
 unfold Vbcnai.retells;cases Vbcnai.hostOf s h with
 |none=>rfl
 |some x=>
  dsimp only;cases Vbcnai.hasOf x g with
  |none=>rfl
  |some y=>
   dsimp only;split
   ·rfl
   ·exact pF _ _ _ _ _
theorem uo {α:Type}{f:State->α->State}(hf:∀s a,(f s a).on=s.on):∀(l:List α) (s:State),(l.foldl f s).on=s.on
 |[],s=>rfl
 |a::l,s=>(uo hf l (f s a)).trans (hf s a)
theorem mP (s:State) (h:Nat):(Vbcnai.retellsAll s h).on=s.on:=by
 unfold Vbcnai.retellsAll;cases Vbcnai.hostOf s h with
 |none=>rfl
 |some x=>exact uo (λs a=>um s h a) _ s
theorem Ex (s:State) (m:Msg):(Vbcnai.takes s m).on=s.on:=by
 cases m with
 |report h p g k t e=>
  show(Vbcnai.onReport s h p g k t e).on=s.on;rw[rm];split
  ·rfl
  ·cases Vbcnai.entryOf s g h with
   |none=>
    show(nQ s h p g k t e).on=s.on;unfold nQ;cases e with
    |set x=>dsimp only;split<;>rfl
    |allow l=>exact iC _ _
    |block l=>exact iC _ _
   |some y=>
    dsimp only;split
    ·rfl
    ·unfold t8;cases e with
     |set x=>rfl
     |allow l=>dsimp only;split;rfl;exact iC _ _
     |block l=>dsimp only;split;rfl;exact iC _ _
 |query p q=>
  show(Vbcnai.onQuery s p q).on=s.on;rw[t4];refine uo (λs a=>?_) _ s;cases q with
  |none=>exact mP s a
  |some g=>exact um s a g
theorem Ey (s:State) (d:Vbcnai.Call):(Vbcnai.doing s d).1.on=s.on:=by
 cases d with
 |begin_ a b e f g i j=>rfl
 |host h p=>
  unfold Vbcnai.doing;dsimp only;split
  ·rfl
  ·split
   ·rfl
   ·split
    ·split
     ·rfl
     ·exact mP _ _
    ·split<;>rfl
 |unhost h=>unfold Vbcnai.doing;dsimp only;split;rfl;split<;>rfl
 |want h g m l=>unfold Vbcnai.doing;dsimp only;split;rfl;split;rfl;split;rfl;split;rfl;exact pF _ _ _ _ _
 |more h g l=>unfold Vbcnai.doing;dsimp only;split;rfl;split;rfl;split;rfl;split;rfl;split;rfl;exact pF _ _ _ _ _
 |less h g l=>unfold Vbcnai.doing;dsimp only;split;rfl;split;rfl;split;rfl;split;rfl;split;rfl;exact pF _ _ _ _ _
 |join p g=>unfold Vbcnai.doing;dsimp only;split;rfl;split;rfl;split<;>rfl
 |leave p g=>unfold Vbcnai.doing;dsimp only;split;rfl;split;rfl;split;rfl;exact iC _ _
 |foreign p n=>unfold Vbcnai.doing;dsimp only;split;rfl;split;rfl;split<;>rfl
 |asker p x=>unfold Vbcnai.doing;dsimp only;split;rfl;split<;>rfl
 |tick n=>
  unfold Vbcnai.doing;dsimp only;split
  ·rfl
  ·split
   ·rfl
   ·unfold Vbcnai.ticks;dsimp only;split
    ·exact(y3 _ _)
    ·rfl
 |deliver k=>unfold Vbcnai.doing;dsimp only;split;rfl;exact Ex _ _
 |lose k=>unfold Vbcnai.doing;dsimp only;split<;>rfl
 |double k=>unfold Vbcnai.doing;dsimp only;split;rfl;split<;>rfl
 |ask p g=>unfold Vbcnai.doing;dsimp only;split;rfl;split;rfl;exact iC _ _
 |restart=>rfl
 |frame p g src=>unfold Vbcnai.doing;dsimp only;split;rfl;split<;>rfl
 |record p g=>unfold Vbcnai.doing;dsimp only;split;rfl;split<;>rfl
 |upward g=>unfold Vbcnai.doing;dsimp only;split<;>rfl
 |entry h g=>unfold Vbcnai.doing;dsimp only;split<;>rfl
 |hostof h=>unfold Vbcnai.doing;dsimp only;split<;>rfl
 |bag=>rfl
 |groups p=>unfold Vbcnai.doing;dsimp only;split<;>rfl
 |merge m n a b=>rw[pB]
 |steps m n a b=>rw[pC]
 |counts=>rfl
theorem Al {s:State}{p:Int}{xs:List Int}{rows:List (List Int)}:(iA s p xs rows).1.on=s.on:=by
 unfold iA;split
 ·exact Ey _ _
 ·rfl
theorem Ez (s:State) (a b d e f g h:Int):VbcnaiNeutral.step s [[0,a,b,d,e,f,g,h]]=if gf a b d e f g h=false then(s,[-1])else(begun a.toNat b.toNat d.toNat e.toNat f.toNat g.toNat h.toNat,[0]):=rfl
theorem y4 {k:Nat}{l t:List Int}{xs:List (List Int)}(h:PyFlat.rows k l=some (xs,t)):xs.length=k:=by
 induction k generalizing l t xs with
 |zero=>
  unfold PyFlat.rows at h;have:=JU h;rw[Prod.mk.injEq]at this;rw[←this.1];rfl
 |succ k ih=>
  unfold PyFlat.rows at h;cases hr:PyFlat.row l with
  |none=>rw[hr]at h;cases h
  |some p=>
   rw[hr]at h;dsimp only at h;cases hq:PyFlat.rows k p.2 with
   |none=>rw[hq]at h;cases h
   |some q=>
    rw[hq]at h;have:=JU h;rw[Prod.mk.injEq]at this;rw[←this.1,Kb,ih hq]
section
variable{P:Program}{w:World}{K:PySem.W.Frag}{mg:Str->Option Value}{base:Heap}{c:Cs}
noncomputable def Hy (K:PySem.W.Frag) (c:Cs):Sp:=λvs H Q _=>∃(la r a dx:Addr) (ns:List Int) (k:Nat) (s:State) (F:Addr->Prop) (U:List Nat) (n:Nat) (cl:List (List Int)) (t:List Int),
 vs=[.ref la,.ref r]/\iY K c H la s F/\H r=some (.ins c.Reader dx (ff a k))/\(∀H',(∀b o,H b=some o->¬F b->b≠r->H' b=some o)->ba K H' a (ns.map V.int))/\¬F r/\k<=ns.length/\PyFlat.call PyVbcnai.shape (ns.drop k)=some (cl,t)/\
 (s.on=true->Wf U n s)/\(∀x∈kept cl,x∈U)/\Sm U/\n<=399/\
 ∀(H':Hp) (F':Addr->Prop) (p:Addr) (k':Nat),iY K c H' la (VbcnaiNeutral.step s cl).1 F'->H' r=some (.ins c.Reader dx (ff a k'))->k'<=ns.length->ns.drop k'=t->(∀b o,H b=some o->¬F b->b≠r->H' b=some o)->(∀b,F' b->F b\/H b=none)->H p=none->
  H' p=some (.lst ((VbcnaiNeutral.step s cl).2.map V.int))->Q (.ref p) H'
theorem u5 (T:Tx K mg c):Fn P w K mg base "next_answer" 11 ["line","reader"] (Hy K c):=by
 refine T.iU.ok k6 (λvs H Q E h=>?_) (λf cdv A outer s H vs Q E hr h=>?_)
 ·obtain⟨la,r,a,dx,ns,k,s,F,U,n,cl,t,rfl,_⟩:=h;rfl
 ·obtain⟨la,r,a,dx,ns,k,z,F,U,n,cl,t,rfl,L,hr',ha,nFr,hk,hcall,hW,hkept,hU,hn,kk⟩:=h;have nd:=k6.nd;cases hd:ns.drop k with
  |nil=>rw[hd]at hcall;cases hcall
  |cons p l=>
   rw[hd]at hcall;unfold PyFlat.call at hcall;dsimp only at hcall;cases hsh:PyVbcnai.shape p with
   |none=>rw[hsh]at hcall;cases hcall
   |some sk=>
    obtain⟨m,q⟩:=sk;rw[hsh]at hcall;dsimp only at hcall;split at hcall
    ·cases hcall
    rename_i hlm;cases hrows:PyFlat.rows q (l.drop m)with
    |none=>rw[hrows]at hcall;cases hcall
    |some rt=>
     obtain⟨rows,t'⟩:=rt;rw[hrows]at hcall;have ecl:=JU hcall;rw[Prod.mk.injEq]at ecl;obtain⟨rfl,rfl⟩:=ecl;have hrange:=iB hsh;have hz:ns[k]? =some p:=by
      have:(ns.drop k)[0]? =some p:=by rw[hd];rfl
      rw[List.getElem?_drop]at this;simpa using this
     have hd1:ns.drop (k+1)=l:=by
      have:(ns.drop k).drop 1=l:=by rw[hd];rfl
      rw[List.drop_drop]at this;exact this
     have hlen:l.length=ns.length - (k+1):=by rw[←hd1,List.length_drop]
     have hkl:=(J2.mp hz).1;have lenq:=y4 hrows;refine⟨_,(af (aT (i:=2) nd rfl (Or.inl rfl) (jx (pv 1) (fP T) hr))
      (af (aT (i:=3) nd rfl (Or.inl rfl) (aI bt (sS T.tN) (pv 2) (λ_ _=>rfl)))
      (af (aT (i:=4) nd rfl (Or.inl rfl) (bT (pv 1) (iX T) hr (aa (aI bt (pv 3) ah (λ_ _=>rfl)) ae)))
      (af (aT (i:=5) nd rfl (Or.inl rfl) (aC ae))
      (af (xT PassesOwn.never (aE qG (aO bu (by rfl) T.dJ cT (aa (pv 5) ae)) (aI bt (pv 3) ah (λ_ _=>rfl)) (aD _))
      (ag (aM (i3 PySem.F.plainAttrs_list PySem.F.slot_list_append PySem.F.type_list_append i4 (pv 5) (aa (jx (pv 1) (pD T) hr) ae)))))
      (af (aF (aE bj (pv 2) ah (aD _))
      (ag (aj (az (xi T) hr (aa (pv 0) (aa (aI aH (pv 4) ah (λ_ _=>rfl)) (aa (aI aH (pv 4) ah (λ_ _=>rfl)) (aa (aI aH (pv 4) ah (λ_ _=>rfl)) (aa (aI aH (pv 4) ah (λ_ _=>rfl)) (aa (aI aH (pv 4) ah (λ_ _=>rfl)) (aa (aI aH (pv 4) ah (λ_ _=>rfl)) (aa (aI aH (pv 4) ah (λ_ _=>rfl)) ae)))))))))))
      au)
      (af (aF (dB (kq (aB (pv 0))))
      (ag (aj (aC (aa (br aS ah) ae))))
      au)
      (ag (aj (az (rP T) hr (aa (aB (pv 0)) (aa (pv 2) (aa (pv 4) (aa (pv 5) ae)))))))))))))),?_⟩
     refine⟨_,rfl,r,dx,_,rfl,hr',rfl,r,a,dx,ns,k,p,rfl,hr',(λH' b=>ha H' λx o e _ n=>b x o e n),hz,λH1 b1 e1=>?_⟩;have ep:p=(p.toNat:Int):=by omega
     obtain⟨as,hS1,hS2⟩:=T.shapes;have hS3:=hS2 p.toNat;have esh:shapeOf p.toNat=some (m,q):=by
      unfold shapeOf;rw[←ep];exact hsh
     rw[esh]at hS3;obtain⟨sa,hsa,hSa⟩:=hS3;refine⟨_,rfl,_,_,_,_,rfl,rfl,hS1 H1,at_of (j:=p.toNat) (v:=V.ref sa) ep (by rw[J5,hsa];rfl),?_⟩;have ha1:∀H',fG r H1 H'->ba K H' a (ns.map V.int):=λH' b=>ha H' λx o e _ n=>b x o (b1 x o e n) n;refine⟨_,rfl,r,dx,_,rfl,e1,rfl,_,rfl,sa,_,_,_,rfl,rfl,hSa H1,rfl,r,a,dx,ns,k+1,m,rfl,e1,ha1,by omega,λH2 nb b2 n2 e2 enb=>?_⟩;have b12:fG r H H2:=λb o e n=>b2 b o (b1 b o e n) n;have Hnb:H nb=none:=b1.free n2 (by rw[e1];exact λz=>nomatch z);rw[hd1]at enb;refine⟨Kk _,λrb nrb=>?_⟩;have rbr:rb≠r:=λzz=>by rw[zz,e2]at nrb;cases nrb
     have nbrb:nb≠rb:=ao enb nrb;have nbr:nb≠r:=λzz=>by rw[zz,e1]at n2;cases n2
     have Hrb:H rb=none:=b12.free nrb (by rw[e2];exact λz=>nomatch z);refine⟨λj σ H'=>∃(k':Nat) (done left:List (List Int)) (rs:List Addr),σ=[some (.ref la),some (.ref r),some (.int p),some (.ref sa),some (.ref nb),some (.ref rb)]/\fG r H H'/\H' r=some (.ins c.Reader dx (ff a k'))/\H' nb=some (.lst ((l.take m).map V.int))/\H' rb=some (.lst (rs.map V.ref))/\Paired (λ(x:Addr) (row:List Int)=>H' x=some (.lst (row.map V.int))) rs done/\(∀x∈rs,x≠rb/\x≠nb)/\done++left=rows/\k'<=ns.length/\PyFlat.rows j (ns.drop k')=some (left,t')/\left.length=j,
      ⟨q,k+1+m,[],rows,[],rfl,λb o e nbr=>aw.new nrb _ _ (b12 b o e nbr),by rw[ak rbr.symm];exact e2,by rw[ak nbrb];exact enb,ab,.nil,λx hx=>(nomatch hx),rfl,by omega,by rw[←List.drop_drop,hd1];exact hrows,lenq⟩,?_⟩
     rintro j σ H3 ⟨k',done,left,rs,rfl,b3,e3,enb3,erb3,hp3,hx3,hdl,hk',hrl,hll⟩;have lend:rs.length=done.length:=Paired.length hp3;refine⟨_,rfl,rb,_,rfl,.inl (ba.of erb3),_,rfl,sa,_,_,_,rfl,rfl,hSa H3,rfl,_,_,rfl,rfl,_,rfl,b7 (λc1=>?_) (λc1=>?_)⟩
     ·have c1:=J0 c1;rw[JQ]at c1;have hj:0<j:=by
       have:done.length+left.length=rows.length:=by rw[←hdl,JV]
       omega
      obtain⟨j',rfl⟩:∃j',j=j'+1:=⟨j - 1,by omega⟩;unfold PyFlat.rows at hrl;cases hrow:PyFlat.row (ns.drop k')with
      |none=>rw[hrow]at hrl;cases hrl
      |some xt=>
       obtain⟨x,t2⟩:=xt;rw[hrow]at hrl;dsimp only at hrl;cases hr2:PyFlat.rows j' t2 with
       |none=>rw[hr2]at hrl;cases hrl
       |some lt=>
        obtain⟨left',t3⟩:=lt;rw[hr2]at hrl;have e:=JU hrl;rw[Prod.mk.injEq]at e;obtain⟨rfl,rfl⟩:=e;refine⟨λσ' H'=>∃(k':Nat) (done left:List (List Int)) (rs:List Addr),σ'=[some (.ref la),some (.ref r),some (.int p),some (.ref sa),some (.ref nb),some (.ref rb)]/\fG r H H'/\H' r=some (.ins c.Reader dx (ff a k'))/\H' nb=some (.lst ((l.take m).map V.int))/\H' rb=some (.lst (rs.map V.ref))/\Paired (λ(x:Addr) (row:List Int)=>H' x=some (.lst (row.map V.int))) rs done/\(∀x∈rs,x≠rb/\x≠nb)/\done++left=rows/\k'<=ns.length/\PyFlat.rows j' (ns.drop k')=some (left,t3)/\left.length=j',λσ' H' h=>⟨j',by omega,h⟩,?_⟩;have ha3:∀H',fG r H3 H'->ba K H' a (ns.map V.int):=λH' b=>ha H' λx o e _ n=>b x o (b3 x o e n) n;refine⟨_,rfl,.inl ⟨rfl,_,ba.of erb3⟩,_,rfl,r,dx,_,rfl,e3,rfl,r,a,dx,ns,k',x,t2,rfl,e3,ha3,hk',hrow,λH4 pr k4 b4 n4 e4 hk4 hd4 ep4=>?_⟩;have prb:pr≠rb:=λzz=>by rw[zz,erb3]at n4;cases n4
        have prn:pr≠nb:=λzz=>by rw[zz,enb3]at n4;cases n4
        have erb4:=b4 _ _ erb3 rbr;refine⟨rb,_,_,rfl,rfl,erb4,?_,?_⟩
        ·rw[JQ];have:rs.length<=2:=by
          have h1:done.length+(x::left').length=rows.length:=by rw[←hdl,JV]
          have h2:q<=2:=Cj hsh;omega
         show _<2^24;omega
        ·refine⟨k4,done++[x],left',rs++[pr],rfl,λb o e nb'=>?_,by rw[ak rbr.symm];exact e4,by rw[ak nbrb];exact b4 _ _ enb3 nbr,by rw[ab,Ki];rfl,?_,?_,by rw[List.append_assoc];exact hdl,hk4,by rw[hd4];exact hr2,by simpa using hll⟩
         ·rw[ak (ao e Hrb)];exact b4 _ _ (b3 _ _ e nb') nb'
         ·have h0:Paired (λ(y:Addr) (row:List Int)=>(upd H4 rb (.lst (rs.map V.ref++[.ref pr]))) y=some (.lst (row.map V.int))) rs done:=by
           have:∀{xs:List Addr}{ys:List (List Int)},(∀x∈xs,x≠rb/\x≠nb)->Paired (λ(x:Addr) (row:List Int)=>H3 x=some (.lst (row.map V.int))) xs ys->Paired (λ(y:Addr) (row:List Int)=>(upd H4 rb (.lst (rs.map V.ref++[.ref pr]))) y=some (.lst (row.map V.int))) xs ys:=by
            intro xs ys hx h
            induction h with
            |nil=>exact .nil
            | @cons x y xs ys r1 _ ih=>
             have hx1:=hx _ (JZ ..);refine .cons ?_ (ih λz hz=>hx z (JW _ hz));rw[ak hx1.1];refine b4 _ _ r1 λzz=>?_;rw[zz,e3]at r1;cases r1
           exact this hx3 hp3
          exact Paired.snoc (by rw[ak prb];exact ep4) h0
         ·intro y hy;rcases Ky.mp hy with hy|hy
          ·exact hx3 y hy
          ·rw[J6.mp hy];exact⟨prb,prn⟩
     ·have c1:¬(((rs.map V.ref).length:Int)<(q:Int)):=λzz=>c1 (J1 zz);rw[JQ]at c1;have hdl':done.length+left.length=rows.length:=by rw[←hdl,JV]
      have hl0:left=[]:=len0 (by omega);subst hl0;have hj0:j=0:=by rw[←hll];rfl
      subst hj0;rw[Ks]at hdl;subst hdl;unfold PyFlat.rows at hrl;have e:=JU hrl;rw[Prod.mk.injEq]at e;have htd:ns.drop k'=t':=e.2;have L3:=L.but T b3 hr' nFr;have lx:(l.take m).length=m:=by rw[Kz];omega
      have hsh':PyVbcnai.shape p=some ((l.take m).length,done.length):=by rw[lx,lenq];exact hsh
      have hrw:Paired (λ(x:Addr) (row:List Int)=>ba K H3 x (row.map V.int)) rs done:=Paired.imp (λ_ _ h=>ba.of h) hp3;generalize l.take m=xs at kk enb3 hsh' hkept
      by_cases hp0:p=0
      ·subst hp0;obtain⟨z1,z2⟩:=pA hsh' (a:=7) (b:=0) rfl;obtain⟨x0,x1,x2,x3,x4,x5,x6,rfl⟩:=IE z1;obtain rfl:=len0 z2;rw[Ez]at kk;have hla:∃dl v,H3 la=some (.ins c.Line dl [("net",v)]):=by
        rcases L3.ex with⟨_,dl,e⟩|⟨_,g,dl,e,_⟩
        ·exact⟨dl,_,e⟩
        ·exact⟨dl,_,e⟩
       obtain⟨dl,v,hla⟩:=hla;have lar:la≠r:=λzz=>nFr (zz▸L.own);refine⟨_,rfl,rfl,_,rfl,bK rfl ⟨_,rfl,_,rfl,nb,_,_,_,rfl,rfl,ba.of enb3,rfl,_,rfl,nb,_,_,_,rfl,rfl,ba.of enb3,rfl,_,rfl,nb,_,_,_,rfl,rfl,ba.of enb3,rfl,_,rfl,nb,_,_,_,rfl,rfl,ba.of enb3,rfl,_,rfl,nb,_,_,_,rfl,rfl,ba.of enb3,rfl,_,rfl,nb,_,_,_,rfl,rfl,ba.of enb3,rfl,_,rfl,nb,_,_,_,rfl,rfl,ba.of enb3,rfl,
        la,dl,v,x0,x1,x2,x3,x4,x5,x6,rfl,hla,λhno=>?_,λhyes=>?_⟩⟩
       ·rw[hno,if_pos rfl]at kk;intro H4 p4 s4 n4 e4;exact kk H4 F p4 k' (L3.stay λb o e _=>s4 _ _ e) (s4 _ _ e3) hk' htd (λb o e nF nb'=>s4 _ _ (b3 _ _ e nb')) (λb hb=>.inl hb) (b3.free n4 (by rw[e3];exact λz=>nomatch z)) e4
       ·rw[hyes,if_neg (λz=>nomatch z)]at kk;intro H4 g p4 N4 hla4 b4 fr4 n4 e4;have fr:∀r',Used (begun x0.toNat x1.toNat x2.toNat x3.toNat x4.toNat x5.toNat x6.toNat) r'->H (g r')=none:=λr' u=>b3.free (fr4 r' u) (by rw[e3];exact λz=>nomatch z);refine kk H4 (λb=>b=la\/∃r',Used (begun x0.toNat x1.toNat x2.toNat x3.toNat x4.toNat x5.toNat x6.toNat) r'/\g r'=b) p4 k' ⟨.inl rfl,.inr ⟨rfl,g,dl,hla4,N4,λr' u=>.inr ⟨r',u,rfl⟩,λr' u zz=>?_⟩⟩ (b4 _ _ e3 lar.symm) hk' htd (λb o e nF nb'=>b4 _ _ (b3 _ _ e nb') λzz=>nF (zz▸L.own)) (λb hb=>?_) (b3.free n4 (by rw[e3];exact λz=>nomatch z)) e4
        ·have:=fr4 r' u;rw[zz,hla]at this;cases this
        ·rcases hb with hb|⟨r',u,eb⟩
         ·exact .inl (hb▸L.own)
         ·exact .inr (eb▸fr r' u)
      ·have hne:¬(decide (V.int p=V.int 0)=true):=λzz=>hp0 (by have:=J0 zz;injection this);refine⟨_,rfl,rfl,_,rfl,aQ hne ?_⟩;rcases L3.ex with⟨hoff,dl,e⟩|⟨hon,g,dl,e,N3,hF3,hn3⟩
       ·rw[Ew hoff hp0 hsh']at kk;refine⟨_,rfl,_,_,rfl,⟨_,dl,_,e,T.cN.cl,T.d8,rfl⟩,_,rfl,bK rfl ⟨_,rfl,(by show 1<=sizeLine;decide),λp4 n4=>?_⟩⟩;have s4:aw H3 (upd H3 p4 (.lst [.int (-20)])):=aw.new n4;exact kk _ F p4 k' (L3.stay λb o e _=>s4 _ _ e) (s4 _ _ e3) hk' htd (λb o e nF nb'=>s4 _ _ (b3 _ _ e nb')) (λb hb=>.inl hb) (b3.free n4 (by rw[e3];exact λz=>nomatch z)) ab
       ·rw[FX hon hp0 hsh']at kk;have hnon:¬(decide (V.ref (g .n)=V.bQ)=true):=λzz=>nomatch (J0 zz);refine⟨_,rfl,_,_,rfl,⟨_,dl,_,e,T.cN.cl,T.d8,rfl⟩,_,rfl,aQ hnon ⟨_,rfl,_,_,rfl,⟨_,dl,_,e,T.cN.cl,T.d8,rfl⟩,_,rfl,_,rfl,_,rfl,
         g,z,p,nb,rb,xs,rs,done,U,n,rfl,N3,ba.of enb3,erb3,hrw,by omega,by omega,hsh',λh5 row hrow x hx=>?_,hW hon,hU,hn,λH4 g4 p4 N4 mv4 n4 e4=>?_⟩⟩
        ·refine hkept x ?_;show x∈(if p<=5 then done.flatMap Vbcnai.nats else[]);rw[if_pos h5];exact List.mem_flatMap.mpr ⟨row,hrow,hx⟩
        ·have onst:(iA z p xs done).1.on=true:=Al.trans hon;have nr4:∀b,¬F b->∀o,H3 b=some o->H4 b=some o:=λb hb o eb=>mv4.keep b o eb λr' u zz=>hb (zz▸hF3 r' u);have hla4:H4 la=some (.ins c.Line dl [("net",.ref (g .n))]):=mv4.keep _ _ e λr' u zz=>hn3 r' u zz;have gn:g4 .n=g .n:=(mv4.same .n trivial).2;refine kk H4 (λb=>F b\/∃r',Used (iA z p xs done).1 r'/\g4 r'=b) p4 k' ⟨.inl L.own,.inr ⟨onst,g4,dl,by rw[gn];exact hla4,N4,λr' u=>.inr ⟨r',u,rfl⟩,λr' u zz=>?_⟩⟩ (nr4 r nFr _ e3) hk' htd (λb o eb nF nb'=>nr4 b nF o (b3 _ _ eb nb')) (λb hb=>?_) (b3.free n4 (by rw[e3];exact λz=>nomatch z)) e4
         ·by_cases hu:Used z r'
          ·exact hn3 r' hu ((mv4.same r' hu).2▸zz)
          ·have:=mv4.new r' u hu;rw[zz,e]at this;cases this
         ·rcases hb with hb|⟨r',u,eb⟩
          ·exact .inl hb
          ·by_cases hu:Used z r'
           ·exact .inl (by rw[←eb,(mv4.same r' hu).2];exact hF3 r' hu)
           ·exact .inr (b3.free (eb▸mv4.new r' u hu) (by rw[e3];exact λz=>nomatch z))
end
end Gs
namespace Gs
open Mx (Up)
open Vbcnai (hostOf hasOf entryOf recordAt findHost wanted)
section
variable{U:List Nat}{n:Nat}{s:State}
theorem Wf.takes (W:Wf U n s){m:Msg}(hm:tY U m):Wf U (n+1) (Vbcnai.takes s m):=by
 cases m with
 |report h p g k t e=>exact W.onReport hm
 |query p q=>exact(W.onQuery p q).mono (Nat.le_succ n)
theorem vQ {x:Ho}{g:Nat}(h:¬((hasOf x g).isNone=true/\64<=x.has.length)):(hasOf x g).isSome=true\/x.has.length<64:=by
 cases hh:hasOf x g with
 |some y=>exact .inl rfl
 |none=>rw[hh]at h;exact .inr (by have:¬(64<=x.has.length):=λz=>h ⟨rfl,z⟩;omega)
theorem Wf.change (W:Wf U n s){q:Nat}(hq:q=1\/q=2) (i j:Int) (xs:List Int) (hU:∀x∈Vbcnai.nats xs,x∈U):Wf U n (Vbcnai.doing s (lH q i j xs)).1:=by
 rw[ua s hq];cases hf:findHost s i with
 |none=>exact W
 |some x=>
  dsimp only;split
  ·exact W
  ·rename_i h1;split
   ·exact W
   ·rename_i h2;split
    ·exact W
    ·rename_i h3;split
     ·exact W
     ·rename_i h4;obtain⟨hx,_⟩:=bU hf;have rf:=cz (by simpa using h2);obtain⟨_,gl⟩:=cA (g:=j) (by simpa using h1);have il:In U (Vbcnai.nats xs):=⟨rf.up,hU⟩;have ie:Cy U (eY q (Vbcnai.nats xs)):=by
       rcases hq with rfl|rfl
       ·exact il
       ·exact il
      have le:gc (eY q (Vbcnai.nats xs))<=64:=by
       rcases hq with rfl|rfl
       ·exact rf.len
       ·exact rf.len
      exact W.tells hx ⟨sg (lU (W.host hx) _) ie,by omega,ie,le,gl,vQ h3⟩
theorem Wf.doing (W:Wf U n s) (d:Vbcnai.Call) (hU:∀x∈given d,x∈U):Wf U (n+1) (Vbcnai.doing s d).1:=by
 have W1:=W.mono (Nat.le_succ n);cases d with
 |begin_ a b e f g i j=>exact W1
 |host h p=>
  unfold Vbcnai.doing;dsimp only;split
  ·exact W1
  ·rename_i h1;split
   ·exact W1
   ·split
    ·rename_i x hf;split
     ·exact W1
     ·obtain⟨hx,_⟩:=bU hf;have ho:=W.host hx;exact(W1.putHost (x:={x with port:=some p.toNat}) ⟨ho.EM,ho.len,ho.ok⟩ (.inl ((dt x.id).mp (by rw[hx];rfl)))).retellsAll _
    ·split
     ·exact W1
     ·exact W1.putHost ⟨List.Pairwise.nil,Kk _,λy hy=>nomatch hy⟩ (.inr (by omega))
 |unhost h=>
  unfold Vbcnai.doing;dsimp only;split
  ·exact W1
  ·rename_i x hf;split
   ·exact W1
   ·obtain⟨hx,_⟩:=bU hf;have ho:=W.host hx;exact W1.putHost (x:={x with port:=none}) ⟨ho.EM,ho.len,ho.ok⟩ (.inl ((dt x.id).mp (by rw[hx];rfl)))
 |want h g m l=>
  unfold Vbcnai.doing;dsimp only;split
  ·exact W1
  ·rename_i x hf;split
   ·exact W1
   ·rename_i h1;split
    ·exact W1
    ·rename_i h2;split
     ·exact W1
     ·rename_i h3;obtain⟨hx,_⟩:=bU hf;have h2':(Vbcnai.within m 0 1&&Vbcnai.isRow l)=true:=by simpa using h2
      rw[JS]at h2';have rf:=cz h2'.2;obtain⟨_,gl⟩:=cA (g:=g) (by simpa using h1);have iw:ji U (Vbcnai.wantOf m l):=gm rf hU;have ll:(Vbcnai.wantOf m l).list.length<=64:=by
       have e:(Vbcnai.wantOf m l).list=Vbcnai.nats l:=by
        unfold Vbcnai.wantOf;split<;>rfl
       rw[e];exact rf.len
      exact W1.tells hx ⟨iw,ll,iw,ll,gl,vQ h3⟩
 |more h g l=>exact(W.change (.inl rfl) h g l hU).mono (Nat.le_succ n)
 |less h g l=>exact(W.change (.inr rfl) h g l hU).mono (Nat.le_succ n)
 |join p g=>
  unfold Vbcnai.doing;dsimp only;split
  ·exact W1
  ·split
   ·exact W1
   ·split
    ·exact W.putPlain _
    ·exact{W1 with}
 |leave p g=>
  unfold Vbcnai.doing;dsimp only;split
  ·exact W1
  ·split
   ·exact W1
   ·split
    ·exact W1
    ·exact(W.putPlain _).send trivial
 |foreign p n'=>
  unfold Vbcnai.doing;dsimp only;split
  ·exact W1
  ·rename_i h1;split
   ·exact W1
   ·obtain⟨_,hp⟩:=dQ (s:=s) (p:=p) (by simpa using h1);have hu:(((p.toNat,s.now+s.cfg.stay)::s.heard.filter λx=>x.1 != p.toNat).map (·.1)).Nodup:=by
     refine Kx.mpr ⟨λz=>?_,iW W.hu⟩;obtain⟨x,hx,e⟩:=Kr.mp z;have:=(List.mem_filter.mp hx).2;simp[e]at this
    have hp':∀x∈(p.toNat,s.now+s.cfg.stay)::s.heard.filter λx=>x.1 != p.toNat,x.1<s.ports:=λx hx=>by
     rcases JX.mp hx with q|q
     ·rw[q];exact hp
     ·exact W.hp x (List.mem_filter.mp q).1
    split
    ·exact{W1 with hu:=hu,hp:=hp'}
    ·exact{W1 with hu:=hu,hp:=hp'}
 |asker p x=>
  unfold Vbcnai.doing;dsimp only;split
  ·exact W1
  ·rename_i h1;split
   ·exact W1
   ·obtain⟨_,hp⟩:=dQ (s:=s) (p:=p) (by simpa using h1);have key:Up (if x=1 then Vbcnai.put p.toNat s.fixed else s.fixed.filter λq=>q != p.toNat)/\∀y∈(if x=1 then Vbcnai.put p.toNat s.fixed else s.fixed.filter λq=>q != p.toNat),y<s.ports:=by
     split
     ·refine⟨Mx.zQ W.fu,λy hy=>?_⟩;rcases Mx.jy.mp hy with q|q
      ·rw[q];exact hp
      ·exact W.fp y q
     ·exact⟨List.Pairwise.filter _ W.fu,λy hy=>W.fp y (List.mem_filter.mp hy).1⟩
    exact{W1 with fu:=key.1,fp:=key.2}
 |tick n'=>
  unfold Vbcnai.doing;dsimp only;split
  ·exact W1
  ·split
   ·exact W1
   ·unfold Vbcnai.ticks;have W2:=(W.expire (s.now+n'.toNat)).mono (Nat.le_succ n);dsimp only;split
    ·have W3:∀q,Wf U (n+1) {Vbcnai.expire {s with now:=s.now+n'.toNat}with next:=q}:=λq=>{W2 with};refine(W3 _).sends λm hm=>?_;obtain⟨p,_,rfl⟩:=Kr.mp hm;trivial
    ·exact W2
 |deliver k=>
  unfold Vbcnai.doing;dsimp only;split
  ·exact W1
  ·rename_i m hm;have:m∈s.bag:=by
    split at hm
    ·exact Kd hm
    ·cases hm
   exact(W.qu k.toNat).takes (W.bm m this)
 |lose k=>
  unfold Vbcnai.doing;dsimp only;split
  ·exact W1
  ·exact W1.qu k.toNat
 |double k=>
  unfold Vbcnai.doing;dsimp only;split
  ·exact W1
  ·rename_i m hm;have hin:m∈s.bag:=by
    split at hm
    ·exact Kd hm
    ·cases hm
   split
   ·exact W1
   ·rename_i hb;have bl:(s.bag++[m]).length<=s.cfg.bag:=by
     rw[JV];show _+1<=_;omega
    exact{W1 with bl:=bl,bm:=λx hx=>(Ky.mp hx).elim (W.bm x) λz=>by rw[J6.mp z];exact W.bm m hin}
 |ask p g=>
  unfold Vbcnai.doing;dsimp only;split
  ·exact W1
  ·split
   ·exact W1
   ·exact W1.send trivial
 |restart=>exact{W1 with es:=List.Pairwise.nil,ei:=λe he=>(nomatch he),pn:=List.nodup_nil,en:=Kk _,hu:=List.nodup_nil,hp:=λx hx=>(nomatch hx)}
 |frame p g src=>unfold Vbcnai.doing;dsimp only;split;exact W1;split<;>exact W1
 |record p g=>unfold Vbcnai.doing;dsimp only;split;exact W1;split<;>exact W1
 |upward g=>unfold Vbcnai.doing;dsimp only;split<;>exact W1
 |entry h g=>unfold Vbcnai.doing;dsimp only;split<;>exact W1
 |hostof h=>unfold Vbcnai.doing;dsimp only;split<;>exact W1
 |bag=>exact W1
 |groups p=>unfold Vbcnai.doing;dsimp only;split<;>exact W1
 |merge m n' a b=>rw[pB];exact W1
 |steps m n' a b=>rw[pC];exact W1
 |counts=>exact W1
end
theorem y6 {U:List Nat}{x y:Want}(hx:ji U x) (hy:ji U y):ji U (Vbcnai.merge x y):=by
 cases x with
 |only a=>
  cases y with
  |only b=>exact In.both hx hy
  |but b=>exact In.without hy
 |but a=>
  cases y with
  |only b=>exact In.without hx
  |but b=>exact In.common hx
theorem y8 {U:List Nat}:∀(l:List Want) (x:Want),ji U x->(∀v∈l,ji U v)->ji U (l.foldl Vbcnai.merge x)
 |[],x,h,_=>h
 |v::l,x,h,hl=>y8 l _ (y6 h (hl v (JZ ..))) λu hu=>hl u (JW _ hu)
theorem rq {U:List Nat}{l:List Want}(hl:∀v∈l,ji U v):ji U (Vbcnai.mergeAll l):=y8 l _ In.nil hl
theorem Bj (x:Nat):∀l:List Nat,(Vbcnai.put x l).length<=l.length+1
 |[]=>J3 _
 |y::l=>by
  unfold Vbcnai.put;split
  ·exact Nat.le_succ _
  ·split
   ·exact J3 _
   ·have:=Bj x l;show(Vbcnai.put x l).length+1<=l.length+1+1;omega
theorem uq (b:List Nat):∀l:List Nat,(l.foldr Vbcnai.put b).length<=l.length+b.length
 |[]=>by show b.length<=0+b.length;omega
 |x::l=>by
  have h1:=Bj x (l.foldr Vbcnai.put b);have h2:=uq b l;show(Vbcnai.put x (l.foldr Vbcnai.put b)).length<=l.length+1+b.length;omega
theorem EA (l:List Nat):(Vbcnai.ints l).length=l.length:=Mx.dI l
section
variable{U:List Nat}{n:Nat}{s:State}
theorem vR (W:Wf U n s) (p g:Nat):ji U (recordAt s p g):=by
 have h:ji U (Vbcnai.mergeAll ((s.entries.filter λe=>e.port==p&&e.group==g).map λe=>e.want)):=rq λv hv=>by
  obtain⟨e,he,rfl⟩:=Kr.mp hv;exact(W.ei e (List.mem_filter.mp he).1).1
 unfold Vbcnai.recordAt;dsimp only;split
 ·exact y6 h In.nil
 ·exact h
theorem Ck (W:Wf U n s) (g:Nat):ji U (Vbcnai.upwardOf s g):=rq λv hv=>by
 obtain⟨p,_,rfl⟩:=Kr.mp hv;exact vR W p g
theorem ur {x:Want}(h:ji U x) (u:Sm U):(Vbcnai.shownWant x).length<=4002:=by
 rw[bP];have:=In.len h;have:U.length<=4000:=u;omega
theorem iD (m:Int) (l:List Int):(Vbcnai.wantOf m l).list=Vbcnai.nats l:=by
 unfold Vbcnai.wantOf;split<;>rfl
theorem Cm {x y:Want}(hx:x.list.length<=64) (hy:y.list.length<=64):(Vbcnai.merge x y).list.length<=128:=by
 cases x with
 |only a=>
  cases y with
  |only b=>
   have:=uq b a;have ha:a.length<=64:=hx;have hb:b.length<=64:=hy;show(Vbcnai.both a b).length<=128;unfold Vbcnai.both;omega
  |but b=>
   have hb:b.length<=64:=hy;have:=Kh (λx=> !a.contains x) b;show(Vbcnai.without b a).length<=128;unfold Vbcnai.without;omega
 |but a=>
  cases y with
  |only b=>
   have hb:a.length<=64:=hx;have:=Kh (λx=> !b.contains x) a;show(Vbcnai.without a b).length<=128;unfold Vbcnai.without;omega
  |but b=>
   have hb:a.length<=64:=hx;have:=Kh (λx=>b.contains x) a;show(Vbcnai.common a b).length<=128;unfold Vbcnai.common;omega
theorem iE (a b:List Nat):(Vbcnai.without a b).length<=a.length:=Kh _ _
theorem Am {x y:Want}(hx:x.list.length<=64) (hy:y.list.length<=64):∀e∈Vbcnai.steps x y,(Vbcnai.shownStep e).length<=67:=λe he=>by
 have key:gc e<=64:=by
  unfold Vbcnai.steps at he;split at he
  ·rw[J6.mp he];exact hy
  ·cases x with
   |only a=>
    rcases Ky.mp he with h|h
    ·have h:e∈(if Vbcnai.without y.list a=[]then[]else[Vbcnai.Step.allow (Vbcnai.without y.list a)]):=h;split at h
     ·cases h
     ·rw[J6.mp h];exact Kj (iE _ _) hy
    ·have h:e∈(if Vbcnai.without a y.list=[]then[]else[Vbcnai.Step.block (Vbcnai.without a y.list)]):=h;split at h
     ·cases h
     ·rw[J6.mp h];exact Kj (iE _ _) hx
   |but a=>
    rcases Ky.mp he with h|h
    ·have h:e∈(if Vbcnai.without a y.list=[]then[]else[Vbcnai.Step.allow (Vbcnai.without a y.list)]):=h;split at h
     ·cases h
     ·rw[J6.mp h];exact Kj (iE _ _) hx
    ·have h:e∈(if Vbcnai.without y.list a=[]then[]else[Vbcnai.Step.block (Vbcnai.without y.list a)]):=h;split at h
     ·cases h
     ·rw[J6.mp h];exact Kj (iE _ _) hy
 have:=dO e;omega
theorem Cn (W:Wf U n s) (u:Sm U) (hn:n<=400) (d:Vbcnai.Call):(Vbcnai.doing s d).2.length<=if d=.bag then 75000 else 5000:=by
 have one:∀z:Int,[z].length<=5000:=λz=>by show 1<=5000;omega
 cases d with
 |bag=>
  rw[if_pos rfl];have h1:=gU (l:=s.bag) (f:=Vbcnai.shownMsg) (B:=73) λe he=>j0 (W.bm e he);have h2:=W.bl;have h3:=W.cb;have:=Nat.mul_le_mul_right 73 (show s.bag.length<=1024 by omega);show([0,(s.bag.length:Int)]++s.bag.flatMap Vbcnai.shownMsg).length<=75000;rw[JV];show 2+_<=75000;omega
 |frame p g src=>
  rw[if_neg (λz=>nomatch z)];unfold Vbcnai.doing;dsimp only;split
  ·exact one _
  ·split
   ·exact one _
   ·have h1:(Vbcnai.goesTo s p.toNat g.toNat src.toNat).length<=64:=by
     have h:=Kh (λq=>q != p.toNat&&(Vbcnai.isLocal g.toNat||(Vbcnai.hasAsker s q||(recordAt s q g.toNat).has src.toNat))) (List.range s.ports);rw[List.length_range]at h;exact Kj h W.cp
    have h2:∀l,(Vbcnai.takers s l g.toNat src.toNat).length<=256:=λl=>by
     unfold Vbcnai.takers;rw[JQ];exact Kj (Kh _ _) W.hl
    have h3:=h2 (Vbcnai.goesTo s p.toNat g.toNat src.toNat);dsimp only;rw[JV,JV,JV,EA,EA];show 2+_+1+_<=5000;omega
 |record p g=>
  rw[if_neg (λz=>nomatch z)];unfold Vbcnai.doing;dsimp only;split
  ·exact one _
  ·split
   ·exact one _
   ·have:=ur (vR W p.toNat g.toNat) u;show _+1<=5000;omega
 |upward g=>
  rw[if_neg (λz=>nomatch z)];unfold Vbcnai.doing;dsimp only;split
  ·exact one _
  ·have:=ur (Ck W g.toNat) u;show _+1<=5000;omega
 |entry h g=>
  rw[if_neg (λz=>nomatch z)];unfold Vbcnai.doing;dsimp only;split
  ·exact one _
  ·rename_i e he;have hin:e∈s.entries:=by
    split at he
    ·exact(eD he).1
    ·cases he
   have:=ur (W.ei e hin).1 u;dsimp only;rw[JV];show 4+_<=5000;omega
 |hostof h=>
  rw[if_neg (λz=>nomatch z)];unfold Vbcnai.doing;dsimp only;split
  ·exact one _
  ·rename_i x hf;obtain⟨hx,_⟩:=bU hf;have ho:=W.host hx;have h1:=gU (l:=x.has) (f:=λy=>[(y.group:Int),(y.serial:Int)]++Vbcnai.shownWant y.want) (B:=68) λy hy=>by
    have:=(ho.ok y hy).2.1;rw[JV,bP];show 2+_<=68;omega
   have h2:=Nat.mul_le_mul_right 68 ho.len;rw[JV];show 3+_<=5000;omega
 |groups p=>
  rw[if_neg (λz=>nomatch z)];unfold Vbcnai.doing;dsimp only;split
  ·exact one _
  ·have h1:=uq [] ((s.entries.map λe=>e.group)++s.plains.map λx=>x.group);rw[JV,JQ,JQ]at h1;have h2:=W.en;have h3:=Kh (λg=>recordAt s p.toNat g != Vbcnai.none_) (((s.entries.map λe=>e.group)++s.plains.map λx=>x.group).foldr Vbcnai.put []);rw[JV,EA];show 2+_<=5000;have:([]:List Nat).length=0:=rfl;omega
 |merge m k a b=>
  rw[if_neg (λz=>nomatch z),pB];split
  ·exact one _
  ·rename_i h;have h':b6 m k a b=true:=by simpa using h
   unfold b6 at h';rw[JS,JS,JS]at h';have ra:=cz h'.2.2.1;have rb:=cz h'.2.2.2;have:=Cm (x:=Vbcnai.wantOf m a) (y:=Vbcnai.wantOf k b) (by rw[iD];exact ra.len) (by rw[iD];exact rb.len);show _+1<=5000;rw[bP];omega
 |steps m k a b=>
  rw[if_neg (λz=>nomatch z),pC];split
  ·exact one _
  ·rename_i h;have h':b6 m k a b=true:=by simpa using h
   unfold b6 at h';rw[JS,JS,JS]at h';have ra:=cz h'.2.2.1;have rb:=cz h'.2.2.2;have h1:=gU (l:=Vbcnai.steps (Vbcnai.wantOf m a) (Vbcnai.wantOf k b)) (f:=Vbcnai.shownStep) (B:=67) (Am (by rw[iD];exact ra.len) (by rw[iD];exact rb.len));have h2:=vH (Vbcnai.wantOf m a) (Vbcnai.wantOf k b);have h3:=Nat.mul_le_mul_right 67 h2;dsimp only;rw[JV];show 2+_<=5000;omega
 |counts=>rw[if_neg (λz=>nomatch z)];show 9<=5000;omega
 |begin_ a b e f g i j=>rw[if_neg (λz=>nomatch z)];exact Kk _
 |restart=>rw[if_neg (λz=>nomatch z)];exact one _
 |_=>
  rw[if_neg (λz=>nomatch z)];unfold Vbcnai.doing;dsimp only
  repeat' (first|exact one _|split)
end
section
variable{U:List Nat}{n:Nat}{s:State}{cl:List (List Int)}
noncomputable def cost (cl:List (List Int)):Nat:=if Bi cl=true then 75001 else 5001
theorem EB {a b d e f g h:Int}(k:gf a b d e f g h=true):Wf U 0 (begun a.toNat b.toNat d.toNat e.toNat f.toNat g.toNat h.toNat):=by
 unfold gf at k;rw[JS,JS,JS,JS,JS,JS]at k;obtain⟨k1,_,_,_,_,k2,_⟩:=k;unfold Vbcnai.within at k1 k2;rw[JS,JT,JT]at k1 k2;exact⟨List.Pairwise.nil,Kk _,λx hx=>(nomatch hx),List.Pairwise.nil,λx hx=>(nomatch hx),List.nodup_nil,Kk _,List.Pairwise.nil,λx hx=>(nomatch hx),List.nodup_nil,λx hx=>(nomatch hx),Kk _,λx hx=>(nomatch hx),(by show g.toNat<=1024;omega),(by show a.toNat<=64;omega)⟩
theorem FY (W:s.on=true->Wf U n s) (u:Sm U) (hn:n<=400){p:Int}{xs:List Int}{rows:List (List Int)}(ecl:cl=(p::xs)::rows) (hs:PyVbcnai.shape p=some (xs.length,rows.length)) (hk:∀x∈kept cl,x∈U):
  ((VbcnaiNeutral.step s cl).1.on=true->Wf U (n+1) (VbcnaiNeutral.step s cl).1)/\(VbcnaiNeutral.step s cl).2.length+1<=cost cl:=by
 obtain⟨_,d,hc,_,hg⟩:=Eu hs;rw[←ecl]at hc hg;have low:5001<=cost cl:=by
  unfold cost;split<;>omega
 have est:VbcnaiNeutral.step s cl=Vbcnai.step s d:=by
  unfold VbcnaiNeutral.step;rw[hc]
 rw[est]
 by_cases hb:pE d=true
 ·rw[xj hb];split
  ·rename_i ho;refine⟨λz=>?_,?_⟩
   ·rw[ho]at z;cases z
   ·show 1+1<=_;omega
  ·rename_i ho;have W:=W (by simpa using ho);refine⟨λ_=>W.doing d λx hx=>hk x (hg.1 x hx),?_⟩;have h:=Cn W u hn d;split at h
   ·rename_i hd;unfold cost;rw[if_pos (hg.2 hd)];omega
   ·omega
 ·cases d with
  |begin_ a b d e f g h=>
   show((if gf a b d e f g h=false then(s,[-1])else(begun a.toNat b.toNat d.toNat e.toNat f.toNat g.toNat h.toNat,[0])).1.on=true->Wf U (n+1) (if gf a b d e f g h=false then(s,[-1])else(begun a.toNat b.toNat d.toNat e.toNat f.toNat g.toNat h.toNat,[0])).1)/\(if gf a b d e f g h=false then(s,[-1])else(begun a.toNat b.toNat d.toNat e.toNat f.toNat g.toNat h.toNat,[0])).2.length+1<=cost cl;split
   ·exact⟨λz=>(W z).mono (Nat.le_succ n),by show 1+1<=_;omega⟩
   ·rename_i ho;exact⟨λ_=>(EB (by simpa using ho)).mono (Kk _),by show 1+1<=_;omega⟩
  |_=>exact absurd rfl hb
end
noncomputable def eZ:List (List (List Int))->Nat
 |[]=>0
 |c::l=>cost c+eZ l
theorem y9 {α:Type}(f:α->Bool) (c:α) (l:List α):(l.filter f).length<=((c::l).filter f).length:=by
 rw[List.filter_cons];split
 ·exact Nat.le_succ _
 ·exact J3 _
theorem za (f:Int->Bool) (c:List (List Int)) (l:List (List (List Int))):VbcnaiNeutral.places l f<=VbcnaiNeutral.places (c::l) f:=y9 _ c l
theorem zb:∀l:List (List (List Int)),eZ l<=5001*l.length+70000*VbcnaiNeutral.places l (λp=>p==21)
 |[]=>Kk _
 |c::l=>by
  have ih:=zb l;show cost c+eZ l<=5001*(l.length+1)+_
  by_cases h:Bi c=true
  ·have:VbcnaiNeutral.places (c::l) (λp=>p==21)=VbcnaiNeutral.places l (λp=>p==21)+1:=by
    unfold VbcnaiNeutral.places;rw[List.filter_cons];rw[if_pos]
    ·rfl
    ·unfold Bi at h;split at h
     ·exact h
     ·cases h
   unfold cost;rw[if_pos h];omega
  ·have:=za (λp=>p==21) c l;unfold cost;rw[if_neg h];omega
theorem zc (l:List (List Int)):∀n:Nat,l.foldl (λm r=>m+r.length) n=n+(l.flatMap λr=>Vbcnai.nats r).length:=by
 induction l with
 |nil=>intro n;rfl
 |cons r l ih=>
  intro n;show l.foldl (λm r=>m+r.length) (n+r.length)=_;rw[ih,List.flatMap_cons,JV];unfold Vbcnai.nats;rw[JQ];omega
theorem EC (c:List (List Int)):(kept c).length<=((c.drop 1).flatMap λr=>Vbcnai.nats r).length:=by
 unfold kept;split
 ·split
  ·exact J3 _
  ·exact Kk _
 ·exact Kk _
theorem pG:∀(l:List (List (List Int))) (n:Nat),n+(l.flatMap kept).length<=l.foldl (λn c=>(c.drop 1).foldl (λm r=>m+r.length) n) n
 |[],n=>J3 _
 |c::l,n=>by
  have h1:=pG l ((c.drop 1).foldl (λm r=>m+r.length) n);rw[zc]at h1;have h2:=EC c;show n+((c::l).flatMap kept).length<=l.foldl (λn c=>(c.drop 1).foldl (λm r=>m+r.length) n) ((c.drop 1).foldl (λm r=>m+r.length) n);rw[List.flatMap_cons,JV,zc];omega
theorem xk (l:List (List (List Int))):(l.flatMap kept).length<=VbcnaiNeutral.numbers l:=Kj (by omega) (pG l 0)
theorem ze {l:List (List (List Int))}(h:VbcnaiNeutral.asked l=true):l.length<=400/\eZ l<2^24/\Sm (l.flatMap kept):=by
 unfold VbcnaiNeutral.asked at h;rw[JS,JS,JS,JS,JS,JT,JT,JT,JT,JT]at h;obtain⟨⟨_,h1,_⟩,_,h2,h3⟩:=h;have h4:=zb l;have h5:=xk l;refine⟨h1,?_,?_⟩
 ·show _<16777216;omega
 ·show _<=4000;omega
end Gs
namespace Gs
open PySem PySem.Spec PyProof.Rows L2
open Mx (Up)
theorem vS {l t:List Int}{cl:List (List Int)}(h:PyFlat.call PyVbcnai.shape l=some (cl,t)):∃p xs rows,cl=(p::xs)::rows/\PyVbcnai.shape p=some (xs.length,rows.length):=by
 cases l with
 |nil=>cases h
 |cons p l=>
  unfold PyFlat.call at h;dsimp only at h;cases hsh:PyVbcnai.shape p with
  |none=>rw[hsh]at h;cases h
  |some sk=>
   obtain⟨m,q⟩:=sk;rw[hsh]at h;dsimp only at h;split at h
   ·cases h
   rename_i hlm;cases hrows:PyFlat.rows q (l.drop m)with
   |none=>rw[hrows]at h;cases h
   |some rt=>
    obtain⟨rows,t'⟩:=rt;rw[hrows]at h;have ecl:=JU h;rw[Prod.mk.injEq]at ecl;obtain⟨rfl,rfl⟩:=ecl;refine⟨p,l.take m,rows,rfl,?_⟩;rw[hsh,y4 hrows,Kz,Nat.min_eq_left (by omega)]
theorem uu {f:Nat}{p:Int}{r:List Int}{cs:List (List (List Int))}(h:PyFlat.calls PyVbcnai.shape f (p::r)=some cs):∃f' cl t cs',PyFlat.call PyVbcnai.shape (p::r)=some (cl,t)/\PyFlat.calls PyVbcnai.shape f' t=some cs'/\cs=cl::cs':=by
 cases f with
 |zero=>cases h
 |succ f=>
  unfold PyFlat.calls at h;cases hc:PyFlat.call PyVbcnai.shape (p::r)with
  |none=>rw[hc]at h;cases h
  |some ct=>
   obtain⟨cl,t⟩:=ct;rw[hc]at h;dsimp only at h;cases hr:PyFlat.calls PyVbcnai.shape f t with
   |none=>rw[hr]at h;cases h
   |some cs'=>
    rw[hr]at h;exact⟨f,cl,t,cs',rfl,hr,(JU h).symm⟩
theorem vT {f:Nat}{cs:List (List (List Int))}(h:PyFlat.calls PyVbcnai.shape f []=some cs):cs=[]:=by
 cases f with
 |zero=>exact(JU h).symm
 |succ f=>exact(JU h).symm
theorem rA:∀(cs:List (List (List Int))){f:Nat}{l:List Int},PyFlat.calls PyVbcnai.shape f l=some cs->cs.map PyVbcnai.whole=cs
 |[],_,_,_=>rfl
 |c::cs,f,l,h=>by
  cases l with
  |nil=>have:=vT h;cases this
  |cons p r=>
   obtain⟨f',cl,t,cs',h1,h2,h3⟩:=uu h;injection h3 with h4 h5;subst h4;subst h5;obtain⟨p',xs,rows,e,hs⟩:=vS h1;rw[Kq,rA cs h2,e,(Eu hs).1]
noncomputable def after (s:State) (l:List (List (List Int))):State:=l.foldl (λt c=>(VbcnaiNeutral.step t c).1) s
theorem An (s:State) (l:List (List (List Int))) (c:List (List Int)):after s (l++[c])=(VbcnaiNeutral.step (after s l) c).1:=by
 unfold after;rw[List.foldl_append];rfl
theorem rB:∀(l:List (List (List Int))) (s:State) (c:List (List Int)),PyFlat.played VbcnaiNeutral.step s (l++[c])=PyFlat.played VbcnaiNeutral.step s l++[(VbcnaiNeutral.step (after s l) c).2]
 |[],s,c=>rfl
 |d::l,s,c=>by
  show(VbcnaiNeutral.step s d).2::PyFlat.played VbcnaiNeutral.step (VbcnaiNeutral.step s d).1 (l++[c])=_;rw[rB l];rfl
theorem Co (l:List (List Int)) (a:List Int):PyFlat.told (l++[a])=PyFlat.told l++((a.length:Int)::a):=by
 unfold PyFlat.told;rw[List.flatMap_append];show _++((((a.length:Int)::a))++[])=_;rw[Ks]
theorem qC:∀l m:List (List (List Int)),eZ (l++m)=eZ l+eZ m
 |[],m=>by show eZ m=0+eZ m;omega
 |c::l,m=>by
  show cost c+eZ (l++m)=cost c+eZ l+eZ m;rw[qC l m];omega
section
variable{P:Program}{w:World}{K:PySem.W.Frag}{mg:Str->Option Value}{base:Heap}{c:Cs}
noncomputable def IF (K:PySem.W.Frag) (c:Cs):Sp:=λvs H Q _=>∃(la a dx:Addr) (ns:List Int),vs=[.ref la,.ref a]/\H la=some (.ins c.Line dx [("net",.bQ)])/\(∀H',(∀b o,H b=some o->b≠la->H' b=some o)->ba K H' a (ns.map V.int))/\PyVbcnai.answers_asked ns=true/\
 ∀(H':Hp) (p:Addr),H' p=some (.lst ((PyVbcnai.answers ns).map V.int))->Q (.ref p) H'
theorem IG (T:Tx K mg c):Fn P w K mg base "run" 12 ["line","calls"] (IF K c):=by
 refine T.DM.ok DI (λvs H Q E h=>?_) (λf cdv A outer s H vs Q E hr h=>?_)
 ·obtain⟨la,a,dx,ns,rfl,_⟩:=h;rfl
 ·obtain⟨la,a,dx,ns,rfl,hla,ha,hask,k⟩:=h;have nd:=DI.nd;refine⟨_,(af (aT (i:=2) nd rfl (Or.inl rfl) (l7 (Et T.toTxt) hr (aa (pv 1) ae)))
   (af (aT (i:=3) nd rfl (Or.inl rfl) (aC ae))
   (af (xT PassesOwn.never (aX (aR (jx (pv 2) (rQ T) hr)))
   (af (aT (i:=4) nd rfl (Or.inl rfl) (az (u5 T) hr (aa (pv 0) (aa (pv 2) ae))))
   (af (aM (i3 PySem.F.plainAttrs_list PySem.F.slot_list_append PySem.F.type_list_append i4 (pv 3) (aa (aO bu (by rfl) T.dJ cT (aa (pv 4) ae)) ae)))
   (ag (aM (i3 PySem.F.plainAttrs_list PySem.F.slot_list_extend PySem.F.type_list_extend gh (pv 3) (aa (pv 4) ae)))))))
   (ag (aj (pv 3)))))),?_⟩
  unfold PyVbcnai.answers_asked at hask;unfold PyVbcnai.answers at k;cases hcs:PyVbcnai.calls ns with
  |none=>rw[hcs]at hask;cases hask
  |some cs0=>
   rw[hcs]at hask k;dsimp only at hask k;unfold PyVbcnai.calls at hcs;cases hfl:PyFlat.calls PyVbcnai.shape ns.length ns with
   |none=>rw[hfl]at hcs;cases hcs
   |some cs=>
    rw[hfl]at hcs;dsimp only at hcs;rw[rA cs hfl]at hcs;obtain rfl:=JU hcs;rw[JS]at hask;obtain⟨h400,hcost,hsm⟩:=ze hask.2;generalize hU:cs.flatMap kept=U at hsm;refine⟨_,rfl,λr dr nr ndr ndx=>⟨r,dr,_,rfl,ab,rfl,?_⟩⟩;have s1:=made (o:=HO.ins c.Reader dr (ff a 0)) (C:=c.Reader) nr ndr;have e1:(upd (upd (upd H dr (.own r)) r (.ins c.Reader dr [])) r (.ins c.Reader dr (ff a 0))) r=some (.ins c.Reader dr (ff a 0)):=ab;generalize hH1:upd (upd (upd H dr (.own r)) r (.ins c.Reader dr [])) r (.ins c.Reader dr (ff a 0))=H1 at s1 e1;refine(show _ from ?_:_);rw[show upd (upd (upd H dr (.own r)) r (.ins c.Reader dr [])) r (.ins c.Reader dr [("calls",.ref a),("place",.int 0)])=H1 from hH1];refine⟨Kk _,λgv ngv=>?_⟩;have s2:aw H (upd H1 gv (.lst [])):=s1.up ngv;have Hgv:H gv=none:=s1.free ngv;have rgv:r≠gv:=ao e1 ngv;have lagv:la≠gv:=ao hla Hgv;have lar:la≠r:=ao hla nr;refine⟨λm σ H'=>∃(v:Option V) (k:Nat) (fuel:Nat) (done left:List (List (List Int))) (F:Addr->Prop),σ=[some (.ref la),some (.ref a),some (.ref r),some (.ref gv),v]/\iY K c H' la (after VbcnaiNeutral.start done) F/\(∀b,F b->b=la\/H b=none)/\¬F r/\¬F gv/\H' r=some (.ins c.Reader dr (ff a k))/\k<=ns.length/\PyFlat.calls PyVbcnai.shape fuel (ns.drop k)=some left/\left.length=m/\done++left=cs/\
      H' gv=some (.lst ((PyFlat.told (PyFlat.played VbcnaiNeutral.step VbcnaiNeutral.start done)).map V.int))/\(∀b o,H b=some o->b≠la->H' b=some o)/\((after VbcnaiNeutral.start done).on=true->Wf U done.length (after VbcnaiNeutral.start done))/\(PyFlat.told (PyFlat.played VbcnaiNeutral.step VbcnaiNeutral.start done)).length<=eZ done,
     ⟨cs.length,none,0,ns.length,[],cs,λb=>b=la,rfl,⟨rfl,.inl ⟨rfl,dx,s2 _ _ hla⟩⟩,λb hb=>.inl hb,λz=>lar z.symm,λz=>lagv z.symm,by rw[ak rgv];exact e1,Kk _,hfl,rfl,rfl,ab,λb o e _=>s2 _ _ e,λz=>(nomatch z),J3 _⟩,?_⟩
    rintro m σ H2 ⟨v,kk,fuel,done,left,F,rfl,L,hF,nFr,nFg,er,hk,hcl,hm,hdl,eg,kept2,hW,hlen⟩;have ha2:=ha H2 kept2;refine⟨_,rfl,r,dr,_,rfl,er,rfl,r,a,dr,ns,kk,rfl,er,ha2,_,rfl,?_⟩;refine b7 (λc1=>?_) (λc1=>?_)
    ·have hlt:kk<ns.length:=by
      have:decide (ns.length<=kk)=false:=by simpa using c1
      have:=of_decide_eq_false this;omega
     cases hd:ns.drop kk with
     |nil=>
      have:=congrArg List.length hd;rw[List.length_drop]at this;have:ns.length - kk=0:=this;omega
     |cons p l=>
      rw[hd]at hcl;obtain⟨f',cl,t,cs',h1,h2,h3⟩:=uu hcl;subst h3;rw[←hd]at h1;obtain⟨p',xs,rows,ecl,hs⟩:=vS h1;have hkU:∀x∈kept cl,x∈U:=λx hx=>by
       rw[←hU,←hdl];exact List.mem_flatMap.mpr ⟨cl,Ky.mpr (.inr (JZ ..)),hx⟩
      have hlen1:done.length+(cs'.length+1)<=400:=by
       rw[←hdl,JV]at h400;exact h400
      have hnx:=FY hW hsm (by omega) ecl hs hkU;have hcost1:eZ done+cost cl<2^24:=by
       rw[←hdl,qC]at hcost;have:eZ (cl::cs')=cost cl+eZ cs':=rfl;omega
      refine⟨λσ' H'=>∃(v:Option V) (k:Nat) (fuel:Nat) (done left:List (List (List Int))) (F:Addr->Prop),σ'=[some (.ref la),some (.ref a),some (.ref r),some (.ref gv),v]/\iY K c H' la (after VbcnaiNeutral.start done) F/\(∀b,F b->b=la\/H b=none)/\¬F r/\¬F gv/\H' r=some (.ins c.Reader dr (ff a k))/\k<=ns.length/\PyFlat.calls PyVbcnai.shape fuel (ns.drop k)=some left/\left.length=cs'.length/\done++left=cs/\
       H' gv=some (.lst ((PyFlat.told (PyFlat.played VbcnaiNeutral.step VbcnaiNeutral.start done)).map V.int))/\(∀b o,H b=some o->b≠la->H' b=some o)/\((after VbcnaiNeutral.start done).on=true->Wf U done.length (after VbcnaiNeutral.start done))/\(PyFlat.told (PyFlat.played VbcnaiNeutral.step VbcnaiNeutral.start done)).length<=eZ done,λσ' H' h=>⟨cs'.length,by rw[←hm];exact Nat.lt_succ_self _,h⟩,?_⟩
      have nFb:∀b o,H b=some o->b≠la->¬F b:=λb o e n z=>by
       rcases hF b z with q|q
       ·exact n q
       ·rw[q]at e;cases e
      have nbr:∀b o,H b=some o->b≠r:=λb o e z=>by rw[z,nr]at e;cases e
      refine⟨_,rfl,_,rfl,la,r,a,dr,ns,kk,after VbcnaiNeutral.start done,F,U,done.length,cl,t,rfl,L,er,λH' h=>ha H' λb o e n=>h b o (kept2 b o e n) (nFb b o e n) (nbr b o e),nFr,hk,h1,hW,hkU,hsm,by omega,λH3 F3 q k3 L3 er3 hk3 hd3 kp3 hF3 nq eq=>?_⟩;have eg3:=kp3 _ _ eg nFg rgv.symm;have qg:q≠gv:=λz=>by rw[z,eg]at nq;cases nq
      generalize hst:VbcnaiNeutral.step (after VbcnaiNeutral.start done) cl=st at hnx L3 eq;obtain⟨st1,st2⟩:=st;have hl3:st2.length+1<=cost cl:=hnx.2;have eafter:after VbcnaiNeutral.start (done++[cl])=st1:=by rw[An,hst]
      have etold:PyFlat.told (PyFlat.played VbcnaiNeutral.step VbcnaiNeutral.start (done++[cl]))=PyFlat.told (PyFlat.played VbcnaiNeutral.step VbcnaiNeutral.start done)++((st2.length:Int)::st2):=by rw[rB,Co,hst]
      have ecost:eZ (done++[cl])=eZ done+cost cl:=by
       rw[qC];show _+(cost cl+0)=_;omega
      generalize PyFlat.told (PyFlat.played VbcnaiNeutral.step VbcnaiNeutral.start done)=G at eg eg3 etold hlen;refine⟨_,rfl,.inl ⟨rfl,_,ba.of eg3⟩,_,rfl,q,_,rfl,.inl (ba.of eq),gv,_,_,rfl,rfl,eg3,(by rw[JQ];show _<2^24;omega),?_⟩;have eg4:(upd H3 gv (.lst (G.map V.int++[.int (st2.map V.int).length]))) gv=some (.lst (G.map V.int++[.int (st2.map V.int).length])):=ab;have eq4:(upd H3 gv (.lst (G.map V.int++[.int (st2.map V.int).length]))) q=some (.lst (st2.map V.int)):=by rw[ak qg];exact eq
      refine⟨_,rfl,.inl ⟨rfl,_,ba.of eg4⟩,_,rfl,gv,q,_,_,rfl,rfl,eg4,eq4,?_,?_⟩
      ·rw[JV,JQ,JQ];show _+1+_<=2^24;omega
      ·rw[bN];have nF3r:¬F3 r:=λz=>(hF3 r z).elim nFr λz=>by rw[er]at z;cases z
       have nF3g:¬F3 gv:=λz=>(hF3 gv z).elim nFg λz=>by rw[eg]at z;cases z
       refine⟨_,k3,f',done++[cl],cs',F3,rfl,?_,λb hb=>?_,nF3r,nF3g,by rw[ak rgv];exact er3,hk3,by rw[hd3];exact h2,rfl,by rw[List.append_assoc];exact hdl,?_,λb o e n=>?_,?_,?_⟩
       ·rw[eafter];refine L3.stay λb o e q=>?_;rw[ak]
        ·exact e
        ·intro z;rcases q with q|q
         ·exact nF3g (z▸q)
         ·rw[z,eg3]at e;cases e;exact q
       ·rcases hF3 b hb with q|q
        ·exact hF b q
        ·by_cases n:b=la
         ·exact .inl n
         ·cases hb':H b with
          |none=>exact .inr rfl
          |some o=>rw[kept2 b o hb' n]at q;cases q
       ·rw[ab,etold,Ki,JQ,List.append_assoc];rfl
       ·rw[ak (ao e Hgv)];exact kp3 b o (kept2 b o e n) (nFb b o e n) (nbr b o e)
       ·rw[eafter,JV];exact hnx.1
       ·rw[etold,ecost,JV];show _+(_+1)<=_;omega
    ·have hge:ns.length<=kk:=by
      have:decide (ns.length<=kk)=true:=by simpa using c1
      exact J0 this
     rw[List.drop_eq_nil_of_le hge]at hcl;have hl:=vT hcl;subst hl;rw[Ks]at hdl;subst hdl;exact⟨_,rfl,k H2 gv eg⟩
noncomputable def ED (K:PySem.W.Frag):Sp:=λvs H Q _=>∃(a:Addr) (ns:List Int),vs=[.ref a]/\ba K H a (ns.map V.int)/\PyVbcnai.answers_asked ns=true/\∀(H':Hp) (p:Addr),H' p=some (.lst ((PyVbcnai.answers ns).map V.int))->Q (.ref p) H'
end
end Gs
namespace L2
open PySem PySem.Spec PyProof.Rows
open PySem.W (WData Codec OpenSpec Well WellAll ReadsW ReadsAllW)
mutual
inductive Dw (K:PySem.W.Frag) (H:Hp):V->WData->Prop
 |bQ:Dw K H .bQ .none
 |bl (b:Bool):Dw K H (.bl b) (.bool b)
 |int (i:Int):Dw K H (.int i) (.int i)
 |str (x:Str):Dw K H (.str x) (.str x)
 |xO (b:Array UInt8):Dw K H (.xO b) (.bytes b.toList)
 |lst {a:Addr}{xs:List V}{ds:List WData}:ba K H a xs->kh K H xs ds->Dw K H (.ref a) (.list ds)
 |tup {a:Addr}{xs:List V}{ds:List WData}:eJ K H a xs->kh K H xs ds->Dw K H (.ref a) (.tuple ds)
inductive kh (K:PySem.W.Frag) (H:Hp):List V->List WData->Prop
 |nil:kh K H [] []
 |cons {v:V}{vs:List V}{d:WData}{ds:List WData}:Dw K H v d->kh K H vs ds->kh K H (v::vs) (d::ds)
end
theorem Bk {K:PySem.W.Frag}{H:Hp}:∀ns:List Int,kh K H (ns.map V.int) (ns.map WData.int)
 |[]=>.nil
 |n::r=>.cons (.int n) (Bk r)
theorem Bl {K:PySem.W.Frag}{H:Hp}:∀(ns:List Int) (xs:List V),kh K H xs (ns.map WData.int)->xs=ns.map V.int
 |[],xs,h=>by
  cases h;rfl
 |n::r,xs,h=>by
  cases h with
  |cons h1 h2=>
   cases h1;rw[Bl r _ h2]<;>rfl
section
variable{P:Program}{w:World}{K:PySem.W.Frag}{H:Hp}{h:Heap}{R:PySem.W.WRecords}{cl:Str->Option Addr}
theorem Hz {a:Addr}{xs:List V}(bq:ko P w H h) (KX:K.In h) (q:ba K H a xs):∃(its:List Value) (o:Obj) (n:Nat),Vals xs its/\h.get? a=some o/\o.cls=.type "list"/\o.data=.seq its.toArray n:=by
 rcases q with q|⟨o,its,n,e,hc,_,hd,_,hv⟩
 ·obtain⟨_,its,n,hv,e⟩:=(show bV P w H h a (.lst xs)from q.ok bq);exact⟨its,_,n,hv,e,rfl,rfl⟩
 ·exact⟨its.toList,o,n,hv,KX _ _ e,hc,by simp[hd]⟩
theorem HA {a:Addr}{xs:List V}(bq:ko P w H h) (KX:K.In h) (q:eJ K H a xs):∃(its:List Value) (o:Obj) (n:Nat),Vals xs its/\h.get? a=some o/\o.cls=.type "tuple"/\o.data=.seq its.toArray n:=by
 rcases q with q|⟨o,its,n,e,hc,hd,_,hv⟩
 ·obtain⟨_,its,hv,o,e,hc,n,hd⟩:=(show bV P w H h a (.tup xs)from q.ok bq);exact⟨its,o,n,hv,e,hc,hd⟩
 ·exact⟨its.toList,o,n,hv,KX _ _ e,hc,by simp[hd]⟩
mutual
theorem Dw.reads (bq:ko P w H h) (KX:K.In h):∀(d:WData) (v:V) (u:Value),Dw K H v d->RelV v u->∃as,ReadsW R cl h u d as
 |.none,_,_,x,r=>by
  cases x;cases r;exact⟨_,ReadsW.none⟩
 |.bool b,_,_,x,r=>by
  cases x;cases r;exact⟨_,ReadsW.bool b⟩
 |.int i,_,_,x,r=>by
  cases x;obtain⟨t,rfl⟩:=r;exact⟨_,ReadsW.int i t⟩
 |.str s,_,_,x,r=>by
  cases x;obtain⟨t,rfl⟩:=r;exact⟨_,ReadsW.str s t⟩
 |.bytes b,_,_,x,r=>by
  cases x;obtain⟨t,rfl⟩:=r;exact⟨_,ReadsW.bytes _ t⟩
 |.list ds,_,_,x,r=>by
  cases x with
  |lst hs ha=>
   cases r;obtain⟨its,o,n,rv,ho,hc,hd⟩:=Hz bq KX hs;obtain⟨as,hr⟩:=Dw.readsAll bq KX ds _ its ha rv;exact⟨_,ReadsW.list ho hc hd hr⟩
 |.tuple ds,_,_,x,r=>by
  cases x with
  |tup hs ha=>
   cases r;obtain⟨its,o,n,rv,ho,hc,hd⟩:=HA bq KX hs;obtain⟨as,hr⟩:=Dw.readsAll bq KX ds _ its ha rv;exact⟨_,ReadsW.tuple ho hc hd hr⟩
 |.float _,_,_,x,_=>by cases x
 |.dict _,_,_,x,_=>by cases x
 |.bytearray _,_,_,x,_=>by cases x
 |.set _,_,_,x,_=>by cases x
 |.frozenset _,_,_,x,_=>by cases x
 |.obj _ _,_,_,x,_=>by cases x
theorem Dw.readsAll (bq:ko P w H h) (KX:K.In h):∀(ds:List WData) (vs:List V) (us:List Value),kh K H vs ds->Vals vs us->∃as,ReadsAllW R cl h us ds as
 |[],_,_,x,r=>by
  cases x;cases r;exact⟨_,ReadsAllW.nil⟩
 |d::ds,_,_,x,r=>by
  cases x with
  |cons h1 h2=>
   cases r with
   |cons r1 r2=>
    obtain⟨as,q1⟩:=Dw.reads bq KX d _ _ h1 r1;obtain⟨bs,q2⟩:=Dw.readsAll bq KX ds _ _ h2 r2;exact⟨_,ReadsAllW.cons q1 q2⟩
end
end
mutual
noncomputable def Bm:WData->Bool
 |.none=>true
 |.bool _=>true
 |.int _=>true
 |.str _=>true
 |.bytes _=>true
 |.list xs=>rR xs
 |.tuple xs=>rR xs
 |_=>false
noncomputable def rR:List WData->Bool
 |[]=>true
 |x::r=>Bm x&&rR r
end
theorem zf {α:Type}{f:α->WData}(h:∀a,Bm (f a)=true):∀l:List α,rR (l.map f)=true
 |[]=>rfl
 |x::r=>by
  show(Bm (f x)&&rR (r.map f))=true;rw[h x,zf h r]<;>rfl
theorem lI:∀(c:Codec) (a:c.denote),Bm (c.enc a)=true
 |.unit,_=>rfl
 |.bool,_=>rfl
 |.int _ _,_=>rfl
 |.nat _ _,_=>rfl
 |.u8,_=>rfl
 |.bytes _ _,_=>rfl
 |.text _ _ _ _,_=>rfl
 |.list _ _ c,a=>zf (λx=>lI c x) a
 |.pair c d,a=>by
  show(Bm (c.enc a.1)&&(Bm (d.enc a.2)&&true))=true;rw[lI c a.1,lI d a.2]<;>rfl
 |.triple c d e,a=>by
  show(Bm (c.enc a.1)&&(Bm (d.enc a.2.1)&&(Bm (e.enc a.2.2)&&true)))=true;rw[lI c a.1,lI d a.2.1,lI e a.2.2]<;>rfl
 |.option c,none=>rfl
 |.option c,some x=>lI c x
theorem vU:∀(cs:List Codec) (a:Codec.denoteAll cs),rR (Codec.encAll cs a)=true
 |[],_=>rfl
 |c::cs,a=>by
  show(Bm (c.enc a.1)&&rR (Codec.encAll cs a.2))=true;rw[lI c a.1,vU cs a.2]<;>rfl
theorem nX:∀{xs:List WData}{d:WData},d∈xs->d.weight<=WData.weightAll xs
 |[],d,h=>absurd h (by simp)
 |x::r,d,h=>by
  show d.weight<=x.weight+1+WData.weightAll r;rcases JX.mp h with e|m
  ·rw[e];omega
  ·have z:=nX m;omega
noncomputable def toV:Value->V
 |.none=>.bQ
 |.bool b=>.bl b
 |.int i _=>.int i
 |.str x _=>.str x
 |.bytes b _=>.xO b
 |.ref a=>.ref a
 |_=>.bQ
noncomputable def Cp (A:List Addr):Value->Prop
 |.none=>True
 |.bool _=>True
 |.int _ _=>True
 |.str _ _=>True
 |.bytes _ _=>True
 |.ref a=>a∈A
 |_=>False
theorem Cp.mono {A B:List Addr}(h:∀a∈A,a∈B):∀{u:Value},Cp A u->Cp B u:=λ{u} x=>by
 cases u with
 |ref a=>exact h a x
 |none=>trivial
 |bool b=>trivial
 |int i t=>trivial
 |str s t=>trivial
 |bytes b t=>trivial
 |_=>exact False.elim x
theorem EE {A:List Addr}{u:Value}(x:Cp A u):RelV (toV u) u:=by
 cases u with
 |ref a=>rfl
 |none=>rfl
 |bool b=>rfl
 |int i t=>exact⟨t,rfl⟩
 |str s t=>exact⟨t,rfl⟩
 |bytes b t=>exact⟨t,rfl⟩
 |_=>exact False.elim x
theorem jm {A:List Addr}:∀{vs:List Value},(∀u∈vs,Cp A u)->Vals (vs.map toV) vs
 |[],_=>.nil
 |u::r,h=>.cons (EE (h u (JZ ..))) (jm λx hx=>h x (JW _ hx))
noncomputable def ki (h:Heap) (A:List Addr) (a:Addr):Prop:=∃vs:List Value,vs.length<=sizeLine/\(∀u∈vs,Cp A u)/\
 (h.get? a=some {cls:=.type "list",data:=.seq vs.toArray}\/h.get? a=some {cls:=.type "tuple",data:=.seq vs.toArray})
theorem ki.mono {h:Heap}{A B:List Addr}{a:Addr}(k:∀a∈A,a∈B) (x:ki h A a):ki h B a:=by
 obtain⟨vs,h1,h2,h3⟩:=x;exact⟨vs,h1,λu hu=>(h2 u hu).mono k,h3⟩
theorem iF {P:Params}{h:Heap}:∀{vs:List Value}{ds:List WData},WellAll P h vs ds->vs.length=ds.length
 |_,_,.nil=>rfl
 |_,_,.cons _ b=>by
  show _+1=_+1;rw[iF b]
theorem vV {P:Params}{h:Heap}{v:Value}{ds:List WData}(x:Well P h v (.list ds)):∃(a:Addr) (vs:List Value),v=.ref a/\h.get? a=some {cls:=.type "list",data:=.seq vs.toArray}/\WellAll P h vs ds:=by
 cases x with
 |list ho hall=>exact⟨_,_,rfl,ho,hall⟩
theorem uv {P:Params}{h:Heap}{v:Value}{ds:List WData}(x:Well P h v (.tuple ds)):∃(a:Addr) (vs:List Value),v=.ref a/\h.get? a=some {cls:=.type "tuple",data:=.seq vs.toArray}/\WellAll P h vs ds:=by
 cases x with
 |tuple ho hall=>exact⟨_,_,rfl,ho,hall⟩
theorem vW {P:Params}{h:Heap}{us:List Value}{d:WData}{ds:List WData}(x:WellAll P h us (d::ds)):∃(v:Value) (vs:List Value),us=v::vs/\Well P h v d/\WellAll P h vs ds:=by
 cases x with
 |cons a b=>exact⟨_,_,rfl,a,b⟩
theorem Bn {n:Nat}(h:n<=1048576):n<=sizeLine:=Kj h (by decide)
section
variable{P:Params}{h:Heap}
mutual
theorem EF:∀(d:WData) (v:Value),Well P h v d->Bm d=true->d.weight<=1048576->∃A:List Addr,Cp A v/\∀a∈A,ki h A a
 |.none,_,x,_,_=>by
  cases x;exact⟨[],trivial,λa m=>absurd m (by simp)⟩
 |.bool b,_,x,_,_=>by
  cases x;exact⟨[],trivial,λa m=>absurd m (by simp)⟩
 |.int i,_,x,_,_=>by
  cases x;exact⟨[],trivial,λa m=>absurd m (by simp)⟩
 |.str s,_,x,_,_=>by
  cases x;exact⟨[],trivial,λa m=>absurd m (by simp)⟩
 |.bytes b,_,x,_,_=>by
  cases x;exact⟨[],trivial,λa m=>absurd m (by simp)⟩
 |.list ds,_,x,p,z=>by
  obtain⟨a,vs,rfl,ho,hall⟩:=vV x;have z2:WData.weightAll ds<=1048576:=z;obtain⟨A,h1,h2⟩:=pH ds _ hall p λd hd=>Kj (nX hd) z2;have k:∀b∈A,b∈a::A:=λb hb=>JW _ hb;refine⟨a::A,JZ ..,λb hb=>?_⟩;rcases JX.mp hb with e|m
  ·rw[e];exact⟨vs,Bn (by rw[iF hall];exact Kj (PySem.W.length_le_weightAllW ds) z2),λu hu=>(h1 u hu).mono k,.inl ho⟩
  ·exact(h2 b m).mono k
 |.tuple ds,_,x,p,z=>by
  obtain⟨a,vs,rfl,ho,hall⟩:=uv x;have z2:WData.weightAll ds<=1048576:=z;obtain⟨A,h1,h2⟩:=pH ds _ hall p λd hd=>Kj (nX hd) z2;have k:∀b∈A,b∈a::A:=λb hb=>JW _ hb;refine⟨a::A,JZ ..,λb hb=>?_⟩;rcases JX.mp hb with e|m
  ·rw[e];exact⟨vs,Bn (by rw[iF hall];exact Kj (PySem.W.length_le_weightAllW ds) z2),λu hu=>(h1 u hu).mono k,.inr ho⟩
  ·exact(h2 b m).mono k
 |.float _,_,_,p,_=>Bool.noConfusion (show false=true from p)
 |.dict _,_,_,p,_=>Bool.noConfusion (show false=true from p)
 |.bytearray _,_,_,p,_=>Bool.noConfusion (show false=true from p)
 |.set _,_,_,p,_=>Bool.noConfusion (show false=true from p)
 |.frozenset _,_,_,p,_=>Bool.noConfusion (show false=true from p)
 |.obj _ _,_,_,p,_=>Bool.noConfusion (show false=true from p)
theorem pH:∀(ds:List WData) (vs:List Value),WellAll P h vs ds->rR ds=true->(∀d∈ds,d.weight<=1048576)->∃A:List Addr,(∀u∈vs,Cp A u)/\∀a∈A,ki h A a
 |[],_,x,_,_=>by
  cases x;exact⟨[],λu m=>absurd m (by simp),λa m=>absurd m (by simp)⟩
 |d::ds,_,x,p,z=>by
  obtain⟨v,vs,rfl,x1,x2⟩:=vW x;have q:Bm d=true/\rR ds=true:=Bool.and_eq_true_iff.mp p;obtain⟨A,a1,a2⟩:=EF d v x1 q.1 (z d (JZ ..));obtain⟨B,b1,b2⟩:=pH ds vs x2 q.2 λe he=>z e (JW _ he);have kA:∀b∈A,b∈A++B:=λb hb=>Ky.mpr (.inl hb);have kB:∀b∈B,b∈A++B:=λb hb=>Ky.mpr (.inr hb);refine⟨A++B,λu hu=>?_,λb hb=>?_⟩
  ·rcases JX.mp hu with e|m
   ·rw[e];exact a1.mono kA
   ·exact(b1 u m).mono kB
  ·rcases Ky.mp hb with m|m
   ·exact(a2 b m).mono kA
   ·exact(b2 b m).mono kB
end
end
noncomputable def FZ (o:Obj):Option HO:=match o.data with
 |.seq vs _=>if(o.cls==Value.type "list")=true then some (.d5 o (.lst (vs.toList.map toV)))else some (.d5 o (.tup (vs.toList.map toV)))
 |_=>none
noncomputable def j3 (K:PySem.W.Frag) (h:Heap) (A:List Addr):Hp:=λb=>if b∈A then(if(K.lookup b).isNone=true then(h.get? b).bind FZ else none)else none
noncomputable def zg (H:Hp):Prop:=∀b,H b=none\/∃o u,H b=some (.d5 o u)
theorem zh (vs:List Value):FZ {cls:=.type "list",data:=.seq vs.toArray}=some (.d5 {cls:=.type "list",data:=.seq vs.toArray} (.lst (vs.map toV))):=by
 show(if(Value.type "list"==Value.type "list")=true then some (HO.d5 {cls:=.type "list",data:=.seq vs.toArray} (.lst (vs.toArray.toList.map toV)))else some (HO.d5 {cls:=.type "list",data:=.seq vs.toArray} (.tup (vs.toArray.toList.map toV))))=_;rw[if_pos (beq_self_eq_true _)]
theorem zi (vs:List Value):FZ {cls:=.type "tuple",data:=.seq vs.toArray}=some (.d5 {cls:=.type "tuple",data:=.seq vs.toArray} (.tup (vs.map toV))):=by
 show(if(Value.type "tuple"==Value.type "list")=true then some (HO.d5 {cls:=.type "tuple",data:=.seq vs.toArray} (.lst (vs.toArray.toList.map toV)))else some (HO.d5 {cls:=.type "tuple",data:=.seq vs.toArray} (.tup (vs.toArray.toList.map toV))))=_;rw[if_neg (by decide)]
section
variable{P:Program}{w:World}{K:PySem.W.Frag}{h:Heap}{A:List Addr}
theorem sh {b:Addr}{o:Obj}(hb:b∈A) (hk:K.lookup b=none) (e:h.get? b=some o):j3 K h A b=FZ o:=by
 unfold j3;rw[if_pos hb,hk,if_pos (show(none:Option Obj).isNone=true from rfl),e]<;>rfl
theorem F0 {b:Addr}{u:HO}(q:j3 K h A b=some u):b∈A/\K.lookup b=none:=by
 unfold j3 at q
 by_cases hb:b∈A
 ·rw[if_pos hb]at q;cases hk:K.lookup b with
  |none=>exact⟨hb,rfl⟩
  |some o=>
   rw[hk,if_neg (by simp)]at q;cases q
 ·rw[if_neg hb]at q;cases q
theorem si (ar:∀a∈A,ki h A a){b:Addr}{u:HO}(q:j3 K h A b=some u):K.lookup b=none/\∃vs:List Value,vs.length<=sizeLine/\(∀u∈vs,Cp A u)/\
  ((h.get? b=some {cls:=.type "list",data:=.seq vs.toArray}/\u=.d5 {cls:=.type "list",data:=.seq vs.toArray} (.lst (vs.map toV)))\/
   (h.get? b=some {cls:=.type "tuple",data:=.seq vs.toArray}/\u=.d5 {cls:=.type "tuple",data:=.seq vs.toArray} (.tup (vs.map toV)))):=by
 obtain⟨hb,hk⟩:=F0 q;obtain⟨vs,h1,h2,h3⟩:=ar b hb;refine⟨hk,vs,h1,h2,?_⟩;rcases h3 with e|e
 ·rw[sh hb hk e,zh]at q;exact .inl ⟨e,(JU q).symm⟩
 ·rw[sh hb hk e,zi]at q;exact .inr ⟨e,(JU q).symm⟩
theorem Cq (ar:∀a∈A,ki h A a):zg (j3 K h A):=λb=>by
 cases q:j3 K h A b with
 |none=>exact .inl rfl
 |some u=>
  obtain⟨_,vs,_,_,⟨_,e⟩|⟨_,e⟩⟩:=si ar q
  ·exact .inr ⟨_,_,by rw[e]⟩
  ·exact .inr ⟨_,_,by rw[e]⟩
theorem F1 (ar:∀a∈A,ki h A a):ko P w (j3 K h A) h:=λb u q=>by
 obtain⟨_,vs,h1,h2,⟨e,rfl⟩|⟨e,rfl⟩⟩:=si ar q
 ·exact⟨e,by rw[JQ];exact h1,vs,_,jm h2,e⟩
 ·exact⟨e,by rw[JQ];exact h1,vs,jm h2,_,e,rfl,_,rfl⟩
theorem sj {c c':Value}{vs us:List Value}(e:(some {cls:=c,data:=.seq vs.toArray}:Option Obj)=some {cls:=c',data:=.seq us.toArray}):c=c'/\vs=us:=by
 have e1:=JU e;have e2:c=c':=congrArg Obj.cls e1;have e3:Data.seq vs.toArray=Data.seq us.toArray:=congrArg Obj.data e1;injection e3 with e4;refine⟨e2,?_⟩;have e5:=congrArg Array.toList e4;simpa using e5
theorem Jx (KX:K.In h) (ar:∀a∈A,ki h A a){a:Addr}{vs:List Value}(ha:a∈A) (e:h.get? a=some {cls:=.type "list",data:=.seq vs.toArray}):(∀u∈vs,Cp A u)/\ba K (j3 K h A) a (vs.map toV):=by
 obtain⟨us,h1,h2,h3⟩:=ar a ha;have hu:us=vs:=by
  rcases h3 with q|q
  ·rw[e]at q;exact(sj q).2.symm
  ·rw[e]at q;exact absurd (Value.type.inj (sj q).1) (by decide)
 subst hu;refine⟨h2,?_⟩;cases hk:K.lookup a with
 |none=>exact .inl (.inr ⟨_,by rw[sh ha hk e,zh]⟩)
 |some o=>
  have e2:=KX a o hk;rw[e]at e2;obtain rfl:=JU e2;exact .inr ⟨_,us.toArray,_,hk,rfl,rfl,rfl,by rw[Kf];exact h1,by simpa using jm h2⟩
theorem Jy (KX:K.In h) (ar:∀a∈A,ki h A a){a:Addr}{vs:List Value}(ha:a∈A) (e:h.get? a=some {cls:=.type "tuple",data:=.seq vs.toArray}):(∀u∈vs,Cp A u)/\eJ K (j3 K h A) a (vs.map toV):=by
 obtain⟨us,h1,h2,h3⟩:=ar a ha;have hu:us=vs:=by
  rcases h3 with q|q
  ·rw[e]at q;exact absurd (Value.type.inj (sj q).1) (by decide)
  ·rw[e]at q;exact(sj q).2.symm
 subst hu;refine⟨h2,?_⟩;cases hk:K.lookup a with
 |none=>exact .inl (.inr ⟨_,by rw[sh ha hk e,zi]⟩)
 |some o=>
  have e2:=KX a o hk;rw[e]at e2;obtain rfl:=JU e2;exact .inr ⟨_,us.toArray,_,hk,rfl,rfl,by rw[Kf];exact h1,by simpa using jm h2⟩
mutual
theorem HB {Pm:Params}(KX:K.In h) (ar:∀a∈A,ki h A a):∀(d:WData) (v:Value),Well Pm h v d->Bm d=true->Cp A v->Dw K (j3 K h A) (toV v) d
 |.none,_,x,_,_=>by
  cases x;exact .bQ
 |.bool b,_,x,_,_=>by
  cases x;exact .bl b
 |.int i,_,x,_,_=>by
  cases x;exact .int i
 |.str s,_,x,_,_=>by
  cases x;exact .str s
 |.bytes b,_,x,_,_=>by
  cases x;have z:=Dw.xO (K:=K) (H:=j3 K h A) b.toArray;exact z
 |.list ds,_,x,p,hu=>by
  obtain⟨a,vs,rfl,ho,hall⟩:=vV x;obtain⟨h2,hs⟩:=Jx KX ar hu ho;exact .lst hs (xl KX ar ds _ hall p h2)
 |.tuple ds,_,x,p,hu=>by
  obtain⟨a,vs,rfl,ho,hall⟩:=uv x;obtain⟨h2,hs⟩:=Jy KX ar hu ho;exact .tup hs (xl KX ar ds _ hall p h2)
 |.float _,_,_,p,_=>Bool.noConfusion (show false=true from p)
 |.dict _,_,_,p,_=>Bool.noConfusion (show false=true from p)
 |.bytearray _,_,_,p,_=>Bool.noConfusion (show false=true from p)
 |.set _,_,_,p,_=>Bool.noConfusion (show false=true from p)
 |.frozenset _,_,_,p,_=>Bool.noConfusion (show false=true from p)
 |.obj _ _,_,_,p,_=>Bool.noConfusion (show false=true from p)
theorem xl {Pm:Params}(KX:K.In h) (ar:∀a∈A,ki h A a):∀(ds:List WData) (vs:List Value),WellAll Pm h vs ds->rR ds=true->(∀u∈vs,Cp A u)->kh K (j3 K h A) (vs.map toV) ds
 |[],_,x,_,_=>by
  cases x;exact .nil
 |d::ds,_,x,p,hu=>by
  obtain⟨v,vs,rfl,x1,x2⟩:=vW x;have q:Bm d=true/\rR ds=true:=Bool.and_eq_true_iff.mp p;exact .cons (HB KX ar d v x1 q.1 (hu _ (JZ ..))) (xl KX ar ds vs x2 q.2 λu m=>hu u (JW _ m))
end
end
theorem Cr {P:Program}{w:World}{K:PySem.W.Frag}{mg mb:Str->Option Value}{CX:Cv}{k:Nat}{fa:Addr}{fd:FuncData}{ps:List Str}{sp:Sp}{s₁:Shared}{vals:List Value}{ds:List WData}{R:PySem.W.WRecords}{cl:Str->Option Addr}{d0:WData}
  (KX:K.In s₁.heap) (hns:s₁.heap.Ns mainGlobals mg) (hb:s₁.heap.Ns builtinsNs mb) (hbb:∀x:Str,x≠"__name__"->mb x=bootBuiltins x) (hlim:s₁.heap.NoLimit) (hg:s₁.gens= #[])
  (hwl:WellAll w.params s₁.heap vals ds) (hpl:rR ds=true) (hwt:∀d∈ds,d.weight<=1048576) (hr:da k callerA)
  (F:∀base:Heap,K.In base->base.Ns mainGlobals mg->kz P w K mg base CX k fa fd ps sp) (hbind:∀(s:Shared) (us:List Value),us.length=ps.length->BindsTo s fd ⟨us,[]⟩ (ps.zip us)) (hlen:ds.length=ps.length)
  (hsp:∀(H:Hp) (xs:List V),zg H->kh K H xs ds->sp xs H (λv H'=>Dw K H' v d0) λ_ _ _=>False)
  (hCX:∀H e s',CX [] H s₁ (λ_ _ _=>False) e s'->False):
  codeAny (model P w) callerA (.call (.ref fa) ⟨vals,[]⟩) (λr s'=>∃u as,r=.ok (.ret u)/\ReadsW R cl s'.heap u d0 as/\OldK s₁.heap s'.heap/\s'.os=s₁.os/\AllBare s'.gens) s₁:=by
 obtain⟨A,ho,ar⟩:=pH ds vals hwl hpl hwt;have hO:zg (j3 K s₁.heap A):=Cq ar;have bq:ko P w (j3 K s₁.heap A) s₁.heap:=F1 ar;have hS:=xl KX ar ds vals hwl hpl ho;have hV:=jm ho;have hK:∀b u,j3 K s₁.heap A b=some u->K.lookup b=none:=λb u q=>(si ar q).1;have noA:∀{b:Addr}{o:Obj}{es:Array DictEntry}{ep:Nat},s₁.heap.get? b=some o->o.data=.dict es ep->j3 K s₁.heap A b=none:=λ{b o es ep} e d=>by
  cases q:j3 K s₁.heap A b with
  |none=>rfl
  |some u=>
   obtain⟨_,vs,_,_,⟨e2,_⟩|⟨e2,_⟩⟩:=si ar q
   ·rw[e2]at e;cases e;have d':Data.seq vs.toArray _=Data.dict es ep:=d;cases d'
   ·rw[e2]at e;cases e;have d':Data.seq vs.toArray _=Data.dict es ep:=d;cases d'
 generalize j3 K s₁.heap A=H at hO bq hS hK noA;have base_of:∀{b:Addr}{o:Obj},s₁.heap.get? b=some o->H b=none->(wg s₁.heap H).get? b=some o:=λe n=>CT e n;have nsK:∀{b:Addr}{m:Str->Option Value},s₁.heap.Ns b m->(wg s₁.heap H).Ns b m:=λ{b m} ⟨o,es,ep,e,d,r⟩=>⟨o,es,ep,base_of e (noA e d),d,r⟩;have nK:∀b o,K.lookup b=some o->H b=none:=λb o e=>by
  cases q:H b with
  |none=>rfl
  |some u=>
   rw[hK b u q]at e;cases e
 have hKb:K.In (wg s₁.heap H):=λb o e=>base_of (KX b o e) (nK b o e);have hM:Mod K mg (wg s₁.heap H):=⟨hKb,nsK hns,⟨mb,nsK hb,hbb⟩,let ⟨mc,h1,h2⟩:=hlim;⟨mc,nsK h1,h2⟩⟩;have e0:zG P w K mg (wg s₁.heap H) callerA [] s₁ H:=⟨rfl,hM,λb o e=>E1 e,Nat.le_of_eq (BA _ _),trivial,λb hb=>absurd (show b∈([]:List Addr)from hb) (by simp),bq,.of_eq hg⟩;have hl:vals.length=ps.length:=by rw[iF hwl];exact hlen
 refine codeAny_mono ((F _ hKb (nsK hns)).run callerA [] s₁ H ⟨vals,[]⟩ vals (vals.map toV) _ _ hr e0 (hbind s₁ vals hl) hV (hsp H _ hO hS)) λr s' x=>?_;cases r with
 |error e=>exact(hCX H e s' x).elim
 |ok fl=>
  cases fl with
  |next=>exact False.elim x
  |brk=>exact False.elim x
  |cont=>exact False.elim x
  |ret u=>
   obtain⟨v,H',os,bare,un,hok',r',q⟩:=x;have kept:∀b o,s₁.heap.get? b=some o->s'.heap.get? b=some o:=λb o e=>by
    cases q2:H b with
    |none=>exact un.keep b o e q2 (by intro z;exact absurd (show b∈([]:List Addr)from z) (by simp)) (by simp)
    |some u2=>
     rcases hO b with z|⟨ob,u3,z⟩
     ·rw[q2]at z;cases z
     ·have z2:=un.sE b ob _ z;obtain⟨e1,_⟩:=bq b _ z;obtain⟨e2,_⟩:=hok' b _ z2;rw[e]at e1;cases e1;exact e2
   have KX':K.In s'.heap:=λb o e=>kept b o (KX b o e);obtain⟨as,hrd⟩:=Dw.reads (R:=R) (cl:=cl) hok' KX' d0 v u q r';exact⟨u,as,rfl,hrd,OldK.of_keep kept,os,bare⟩
theorem uw {ds:List WData}(h:WData.layableAll ds=true):∀d∈ds,d.weight<=1048576:=λd hd=>
 (PySem.W.layableW_iff.mp (List.all_eq_true.mp h d hd)).2.2
theorem ux:∀(cs:List Codec) (a:Codec.denoteAll cs),(Codec.encAll cs a).length=cs.length
 |[],_=>rfl
 |c::cs,a=>by
  show(Codec.encAll cs a.2).length+1=cs.length+1;rw[ux cs a.2]
theorem Ct {r:OpenSpec}{k:Nat}{q:Program}{loose:List Str}{XP:(Str->Option Value)->Heap->Prop}{YP:World->Heap->Prop}{d:DefRec}{K:Params->PySem.W.Frag}{CX:World->Cv}{ps:List Str}{sp:World->Sp}
  (hwell:r.wellSaid=true) (hdf:d.params.defaults=[]) (hlen:r.args.length=ps.length) (hr:da k callerA)
  (hY:∀(w:World) (h:Heap),YP w h->(K w.params).In h)
  (F:∀(w:World) (mg:Str->Option Value) (fa:Addr) (h:Heap),YP w h->(K w.params).In h->h.Ns mainGlobals mg->mg d.name=some (.ref fa)->
   ∃fd:FuncData,(∀(s:Shared) (us:List Value),us.length=ps.length->BindsTo s fd ⟨us,[]⟩ (ps.zip us))/\
    ∀base:Heap,(K w.params).In base->base.Ns mainGlobals mg->kz r.prog w (K w.params) mg base (CX w) k fa fd ps (sp w))
  (hsp:∀(w:World) (H:Hp) (xs:List V) (a:Codec.denoteAll r.args),zg H->Codec.withinAll r.args a=true->Codec.app r.args r.asked a=true->kh (K w.params) H xs (Codec.encAll r.args a)->
   sp w xs H (λv H'=>Dw (K w.params) H' v (r.ret.enc (Codec.app r.args r.f a))) λ_ _ _=>False)
  (hCX:∀(w:World) (H:Hp) (s:Shared) (e:Value) (s':Shared),CX w [] H s (λ_ _ _=>False) e s'->False):
  PySem.W.WalkOS q loose XP YP r d [] (λf vs=>PySem.call f vs):=by
 intro w vf s₁ mg mb G Y fa o pm cd doc dV kV ho hd hcd hD hmg hg args vals as hpre hlay hrd hwl hlo;obtain⟨a,e1,e2⟩:=PySem.W.os_pre_some hpre;obtain⟨e3,hwi⟩:=Codec.encAll_of_decAll r.args args a e1;subst e3;have KX:=hY w _ Y;obtain⟨fd,hb,hF⟩:=F w mg fa _ Y KX G.T.g hmg;refine PySem.W.enter_call (codeAny_mono (Cr (R:=[]) (cl:=classAt vf.heap) (d0:=r.ret.enc (Codec.app r.args r.f a)) KX G.T.g G.T.b G.T.builtins G.T.nolimit hg hwl (vU _ _) (uw hlay) hr hF hb (by rw[ux];exact hlen)
  (λH xs hO hS=>hsp w H xs a hO hwi e2 hS) λH e s'=>hCX w H s₁ e s') λr' s' hq=>?_)
 obtain⟨u,as',rfl,h1,h2,h3,h4⟩:=hq;exact⟨.inl ⟨u,_,as',rfl,λ_=>rfl,h1,(OpenSpec.post_iff hwell hwi _ _).mpr rfl,λz=>Bool.noConfusion (show false=true from z)⟩,h2,h3,h4⟩
theorem Ao {r:OpenSpec}{k:Nat}{q:Program}{loose:List Str}{XP:(Str->Option Value)->Heap->Prop}{YP:World->Heap->Prop}{d:DefRec}{K:Params->PySem.W.Frag}{CX:Cv}{ps:List Str}{sp:PySem.W.Frag->Sp}
  (hwell:r.wellSaid=true) (hdf:d.params.defaults=[]) (hlen:r.args.length=ps.length) (hr:da k callerA)
  (hY:∀(w:World) (h:Heap),YP w h->(K w.params).In h)
  (F:∀(w:World) (mg:Str->Option Value) (fa:Addr) (h:Heap),YP w h->(K w.params).In h->h.Ns mainGlobals mg->mg d.name=some (.ref fa)->
   ∃fd:FuncData,(∀(s:Shared) (us:List Value),us.length=ps.length->BindsTo s fd ⟨us,[]⟩ (ps.zip us))/\
    ∀base:Heap,(K w.params).In base->base.Ns mainGlobals mg->kz r.prog w (K w.params) mg base CX k fa fd ps (sp (K w.params)))
  (hsp:∀(K:PySem.W.Frag) (H:Hp) (xs:List V) (a:Codec.denoteAll r.args),zg H->Codec.withinAll r.args a=true->Codec.app r.args r.asked a=true->kh K H xs (Codec.encAll r.args a)->
   sp K xs H (λv H'=>Dw K H' v (r.ret.enc (Codec.app r.args r.f a))) λ_ _ _=>False)
  (hCX:∀(H:Hp) (s:Shared) (e:Value) (s':Shared),CX [] H s (λ_ _ _=>False) e s'->False):
  PySem.W.WalkOS q loose XP YP r d [] (λf vs=>PySem.call f vs):=
 Ct (K:=K) (CX:=λ_=>CX) (sp:=λw=>sp (K w.params)) hwell hdf hlen hr hY F (λw H xs a h1 h2 h3 h4=>hsp (K w.params) H xs a h1 h2 h3 h4) λ_ H s e s'=>hCX H s e s'
end L2
namespace Gs
open PySem PySem.Spec PyProof.Rows L2
section
variable{K:PySem.W.Frag}{h:Heap}{mg:Str->Option Value}
theorem mc {n:Nat}{p:List Value->Prop}(h:∀a us,us.length=n->p (a::us)):∀us:List Value,us.length=n+1->p us
 |[],e=>nomatch e
 |a::us,e=>h a us (Nat.succ.inj e)
theorem m0 {p:List Value->Prop}(h:p []):∀us:List Value,us.length=0->p us
 |[],_=>h
 |_::_,e=>nomatch e
theorem m1 {p:List Value->Prop}(h:∀a0,p [a0]):∀us:List Value,us.length=1->p us:=mc λa=>m0 (p:=λus=>p (a::us)) (h a)
theorem m2 {p:List Value->Prop}(h:∀a0 a1,p [a0,a1]):∀us:List Value,us.length=2->p us:=mc λa=>m1 (p:=λus=>p (a::us)) (h a)
theorem m3 {p:List Value->Prop}(h:∀a0 a1 a2,p [a0,a1,a2]):∀us:List Value,us.length=3->p us:=mc λa=>m2 (p:=λus=>p (a::us)) (h a)
theorem m4 {p:List Value->Prop}(h:∀a0 a1 a2 a3,p [a0,a1,a2,a3]):∀us:List Value,us.length=4->p us:=mc λa=>m3 (p:=λus=>p (a::us)) (h a)
theorem m5 {p:List Value->Prop}(h:∀a0 a1 a2 a3 a4,p [a0,a1,a2,a3,a4]):∀us:List Value,us.length=5->p us:=mc λa=>m4 (p:=λus=>p (a::us)) (h a)
theorem m6 {p:List Value->Prop}(h:∀a0 a1 a2 a3 a4 a5,p [a0,a1,a2,a3,a4,a5]):∀us:List Value,us.length=6->p us:=mc λa=>m5 (p:=λus=>p (a::us)) (h a)
theorem m7 {p:List Value->Prop}(h:∀a0 a1 a2 a3 a4 a5 a6,p [a0,a1,a2,a3,a4,a5,a6]):∀us:List Value,us.length=7->p us:=mc λa=>m6 (p:=λus=>p (a::us)) (h a)
theorem m8 {p:List Value->Prop}(h:∀a0 a1 a2 a3 a4 a5 a6 a7,p [a0,a1,a2,a3,a4,a5,a6,a7]):∀us:List Value,us.length=8->p us:=mc λa=>m7 (p:=λus=>p (a::us)) (h a)
theorem aG {x:Str}{st:Stmt}{ps:List Str}{f:Addr}{oc:Value}{od an:Option Addr}{osl:Array (Option Value)}{kV doc pm cdv ct:Value}(X:K.In h) (G:h.Ns mainGlobals mg) (a:PySem.W.nsIn K mainGlobals x=some (some (.ref f)))
  (l:K.lookup f=some ⟨oc,od,.func (PySem.W.fnOf x x (dW st) (cG st) (ai st) .none kV doc pm an cdv ct),osl⟩) (c:PySem.W.codeIn K cdv x=true) (k:PySem.W.keepIn K (.ref f)=true)
  (b:∀(kV doc pm:Value) (an:Option Addr) (cdv ct:Value) (us:List Value),us.length=ps.length->bindArgs (PySem.W.fnOf x x (dW st) (cG st) (ai st) .none kV doc pm an cdv ct) ⟨us,[]⟩=pure (ps.zip us)):c8 K mg x st ps:=
 ⟨f,_,mY (st:=st) l c k,PySem.W.mg_of X G a,(mY (st:=st) l c k).binds b⟩
theorem cW {C:Addr}{x qual:Str}{st:Stmt}{ps:List Str}{f:Addr}{oc:Value}{od an:Option Addr}{osl:Array (Option Value)}{kV doc pm cdv ct:Value}(cl:uE K C) (a:PySem.W.findIn K (.ref C) x=some (some (.ref f))) (i:PySem.W.isFn K (.ref f)=true)
  (l:K.lookup f=some ⟨oc,od,.func (PySem.W.fnOf x qual (dW st) (cG st) (ai st) .none kV doc pm an cdv ct),osl⟩) (c:PySem.W.codeIn K cdv qual=true) (k:PySem.W.keepIn K (.ref f)=true)
  (b:∀(kV doc pm:Value) (an:Option Addr) (cdv ct:Value) (us:List Value),us.length=ps.length->bindArgs (PySem.W.fnOf x qual (dW st) (cG st) (ai st) .none kV doc pm an cdv ct) ⟨us,[]⟩=pure (ps.zip us)):uy K C x qual st ps:=
 ⟨⟨f,_,mY (st:=st) l c k,⟨a,i,k⟩,(mY (st:=st) l c k).binds b⟩,cl⟩
theorem lJ {C:Addr}{x qual:Str}{st:Stmt}{ps:List Str}{f:Addr}{oc:Value}{od an:Option Addr}{osl:Array (Option Value)}{kV doc pm cdv ct:Value}(X:K.In h) (G:h.Ns mainGlobals mg) (n:PySem.W.nsIn K mainGlobals x=some (some (.ref C))) (cl:uE K C) (a:PySem.W.findIn K (.ref C) "__init__"=some (some (.ref f))) (i:PySem.W.isFn K (.ref f)=true)
  (l:K.lookup f=some ⟨oc,od,.func (PySem.W.fnOf "__init__" qual (dW st) (cG st) (ai st) .none kV doc pm an cdv ct),osl⟩) (c:PySem.W.codeIn K cdv qual=true) (k:PySem.W.keepIn K (.ref f)=true) (mk:PySem.W.makesIn K C=true) (kc:PySem.W.keepIn K (.ref C)=true)
  (b:∀(kV doc pm:Value) (an:Option Addr) (cdv ct:Value) (us:List Value),us.length=ps.length->bindArgs (PySem.W.fnOf "__init__" qual (dW st) (cG st) (ai st) .none kV doc pm an cdv ct) ⟨us,[]⟩=pure (ps.zip us)):DD K mg C x qual st ps:=
 ⟨⟨f,_,mY (st:=st) l c k,⟨mk,a,i,kc⟩,(mY (st:=st) l c k).binds b⟩,cl,PySem.W.mg_of X G n⟩
theorem bM {C:Addr}(pg:PySem.W.plainGet K C Str.empty=true) (hd:PySem.W.hasDictIn K C=true) (po:PySem.W.plainOver K C=true) (sa:PySem.W.findIn K (.ref C) "__setattr__"=some (some (.builtin "object.__setattr__"))):uE K C:=⟨pg,hd,po,sa⟩
theorem dS {x:Str}{i:Int}{t:Tok}(X:K.In h) (G:h.Ns mainGlobals mg) (n:PySem.W.nsIn K mainGlobals x=some (some (.int i t))):∃t,mg x=some (.int i t):=⟨t,PySem.W.mg_of X G n⟩
theorem EG (C:Addr):PySem.W.kitOne K (.ref C) (.ref C)=some true:=by
 unfold PySem.W.kitOne;rw[if_pos (beq_self_eq_true _)]
theorem HC {C D:Addr} {z}(n:D≠C) (a:PySem.W.clsIn K C=some z) (b:PySem.W.typeIn K (.ref C)=some (.type "type")) (d:PySem.W.subIn K (.ref D) (.ref C)=some false):PySem.W.kitOne K (.ref D) (.ref C)=some false:=by
 unfold PySem.W.kitOne;rw[if_neg (λz=>n (by have:=beq_iff_eq.mp z;injection this))];unfold PySem.W.kitCls;dsimp only;rw[a,b,if_pos (by simp)];exact d
theorem xm {a:Addr}{od:Option Addr}{its:Array Value}{n:Nat}{sl:Array (Option Value)}{xs:List V}(l:K.lookup a=some ⟨.type "tuple",od,.seq its n,sl⟩) (hz:its.size<=100) (hv:Vals xs its.toList) (H:Hp):Tp K H a xs:=
 .inr ⟨_,its,n,l,rfl,rfl,Kj hz (by decide),hv⟩
theorem Bo {a b:Addr}{od od2:Option Addr}{i:Int}{t:Tok}{n n2:Nat}{sl sl2:Array (Option Value)}{w:Want}(l:K.lookup a=some ⟨.type "tuple",od,.seq #[.int i t,.ref b] n,sl⟩) (l2:K.lookup b=some ⟨.type "tuple",od2,.seq #[] n2,sl2⟩) (hm:i=w.mode) (hw:w.list=[]) (H:Hp):bC K H a w:=by
 refine⟨b,xm l (by show 2<=100;decide) ?_ H,?_⟩
 ·subst hm;exact .cons ⟨t,rfl⟩ (.cons rfl .nil)
 ·unfold Tn;rw[hw];exact xm l2 (by show 0<=100;decide) .nil H
theorem HE {p:Addr->Prop}{a b:Addr}(h:p a) (g:p b):∀C∈[a,b],p C:=λC hC=>(JX.mp hC).elim (λe=>e▸h) λe=>(J6.mp e)▸g
theorem bp {a:Addr}{od:Option Addr}{i j:Int}{t u:Tok}{n:Nat}{sl:Array (Option Value)}(l:K.lookup a=some ⟨.type "tuple",od,.seq #[.int i t,.int j u] n,sl⟩) (H:Hp):eJ K H a [.int i,.int j]:=
 (xm (xs:=[.int i,.int j]) l (by show 2<=100;decide) (.cons ⟨t,rfl⟩ (.cons ⟨u,rfl⟩ .nil)) H).sq
theorem Cu {S s0 s1 s2 s3 s4 s5 s6 s7 s8 s9 s10 s11 s12 s13 s14 s15 s16 s17 s18 s19 s20 s21 s22 s23 s24 s25:Addr}{od:Option Addr}{n:Nat}{sl:Array (Option Value)}(l:K.lookup S=some ⟨.type "tuple",od,.seq #[.ref s0,.ref s1,.ref s2,.ref s3,.ref s4,.ref s5,.ref s6,.ref s7,.ref s8,.ref s9,.ref s10,.ref s11,.ref s12,.ref s13,.ref s14,.ref s15,.ref s16,.ref s17,.ref s18,.ref s19,.ref s20,.ref s21,.ref s22,.ref s23,.ref s24,.ref s25] n,sl⟩)
  (h0:∀H,eJ K H s0 [.int 7,.int 0])
  (h1:∀H,eJ K H s1 [.int 2,.int 0])
  (h2:∀H,eJ K H s2 [.int 1,.int 0])
  (h3:∀H,eJ K H s3 [.int 3,.int 1])
  (h4:∀H,eJ K H s4 [.int 2,.int 1])
  (h5:∀H,eJ K H s5 [.int 2,.int 1])
  (h6:∀H,eJ K H s6 [.int 2,.int 0])
  (h7:∀H,eJ K H s7 [.int 2,.int 0])
  (h8:∀H,eJ K H s8 [.int 2,.int 0])
  (h9:∀H,eJ K H s9 [.int 2,.int 0])
  (h10:∀H,eJ K H s10 [.int 1,.int 0])
  (h11:∀H,eJ K H s11 [.int 1,.int 0])
  (h12:∀H,eJ K H s12 [.int 1,.int 0])
  (h13:∀H,eJ K H s13 [.int 1,.int 0])
  (h14:∀H,eJ K H s14 [.int 2,.int 0])
  (h15:∀H,eJ K H s15 [.int 0,.int 0])
  (h16:∀H,eJ K H s16 [.int 3,.int 0])
  (h17:∀H,eJ K H s17 [.int 2,.int 0])
  (h18:∀H,eJ K H s18 [.int 1,.int 0])
  (h19:∀H,eJ K H s19 [.int 2,.int 0])
  (h20:∀H,eJ K H s20 [.int 1,.int 0])
  (h21:∀H,eJ K H s21 [.int 0,.int 0])
  (h22:∀H,eJ K H s22 [.int 1,.int 0])
  (h23:∀H,eJ K H s23 [.int 2,.int 2])
  (h24:∀H,eJ K H s24 [.int 2,.int 2])
  (h25:∀H,eJ K H s25 [.int 0,.int 0])
  :∃as:List Addr,(∀H,eJ K H S (as.map V.ref))/\∀i:Nat,match shapeOf i with
  |some (n,k)=>∃a,as[i]? =some a/\∀H,eJ K H a [.int n,.int k]
  |none=>True:=by
 refine⟨[s0,s1,s2,s3,s4,s5,s6,s7,s8,s9,s10,s11,s12,s13,s14,s15,s16,s17,s18,s19,s20,s21,s22,s23,s24,s25],λH=>(xm (xs:=[s0,s1,s2,s3,s4,s5,s6,s7,s8,s9,s10,s11,s12,s13,s14,s15,s16,s17,s18,s19,s20,s21,s22,s23,s24,s25].map V.ref) l (by show 26<=100;decide) ?_ H).sq,λi=>?_⟩
 ·exact .cons rfl (.cons rfl (.cons rfl (.cons rfl (.cons rfl (.cons rfl (.cons rfl (.cons rfl (.cons rfl (.cons rfl (.cons rfl (.cons rfl (.cons rfl (.cons rfl (.cons rfl (.cons rfl (.cons rfl (.cons rfl (.cons rfl (.cons rfl (.cons rfl (.cons rfl (.cons rfl (.cons rfl (.cons rfl (.cons rfl (.nil))))))))))))))))))))))))))
 ·match i with
  |0=>exact⟨s0,rfl,h0⟩
  |1=>exact⟨s1,rfl,h1⟩
  |2=>exact⟨s2,rfl,h2⟩
  |3=>exact⟨s3,rfl,h3⟩
  |4=>exact⟨s4,rfl,h4⟩
  |5=>exact⟨s5,rfl,h5⟩
  |6=>exact⟨s6,rfl,h6⟩
  |7=>exact⟨s7,rfl,h7⟩
  |8=>exact⟨s8,rfl,h8⟩
  |9=>exact⟨s9,rfl,h9⟩
  |10=>exact⟨s10,rfl,h10⟩
  |11=>exact⟨s11,rfl,h11⟩
  |12=>exact⟨s12,rfl,h12⟩
  |13=>exact⟨s13,rfl,h13⟩
  |14=>exact⟨s14,rfl,h14⟩
  |15=>exact⟨s15,rfl,h15⟩
  |16=>exact⟨s16,rfl,h16⟩
  |17=>exact⟨s17,rfl,h17⟩
  |18=>exact⟨s18,rfl,h18⟩
  |19=>exact⟨s19,rfl,h19⟩
  |20=>exact⟨s20,rfl,h20⟩
  |21=>exact⟨s21,rfl,h21⟩
  |22=>exact⟨s22,rfl,h22⟩
  |23=>exact⟨s23,rfl,h23⟩
  |24=>exact⟨s24,rfl,h24⟩
  |25=>exact⟨s25,rfl,h25⟩
  |i+26=>
   have e:shapeOf (i+26)=none:=by
    cases q:shapeOf (i+26)with
    |none=>rfl
    |some z=>
     have:=iB (p:=((i+26:Nat):Int)) q;omega
   rw[e];trivial
theorem Ap {P:Program}{w:World}{base:Heap}{c:Cs}{f:Addr}{fd:FuncData}(F:Fu K "answers" "answers" cZ f fd) (T:Tx K mg c):kz P w K mg base Cw 13 f fd ["calls"] (ED K):=by
 refine F.ok zV (λvs H Q E h=>?_) (λcdv A outer s H vs Q E hr h=>?_)
 ·obtain⟨a,ns,rfl,_⟩:=h;rfl
 ·obtain⟨a,ns,rfl,hS,hask,k⟩:=h;refine⟨_,(ag (aj (az (IG T) hr (aa (G8 (Hv T.toTxt) hr) (aa (pv 0) ae))))),?_⟩;intro x dx nx ndx nn;refine⟨x,dx,rfl,ab,rfl,?_⟩;have s1:=made (o:=HO.ins c.Line dx [("net",.bQ)]) (C:=c.Line) nx ndx;refine⟨_,rfl,x,a,dx,ns,rfl,ab,λH' h=>?_,hask,k⟩;exact Er hS λo e=>h a o (s1 _ _ e) (ao e nx)
theorem all_mk {P:Program}{w:World}{cReport cQuery cHost cEntry cSwitch cNet cLine cReader cNOTHING cEVERYTHING cSHAPES:Addr}{fa f3:Addr}{od3 an3:Option Addr}{sl3:Array (Option Value)}{oc3 kV3 dc3 pm3 cd3 ct3:Value}(X:K.In h) (G:h.Ns mainGlobals mg) (hfa:mg "answers"=some (.ref fa)) (n_Report:PySem.W.nsIn K mainGlobals "Report"=some (some (.ref cReport))) (n_Query:PySem.W.nsIn K mainGlobals "Query"=some (some (.ref cQuery))) (n_Host:PySem.W.nsIn K mainGlobals "Host"=some (some (.ref cHost))) (n_Entry:PySem.W.nsIn K mainGlobals "Entry"=some (some (.ref cEntry))) (n_Switch:PySem.W.nsIn K mainGlobals "Switch"=some (some (.ref cSwitch))) (n_Net:PySem.W.nsIn K mainGlobals "Net"=some (some (.ref cNet))) (n_Line:PySem.W.nsIn K mainGlobals "Line"=some (some (.ref cLine))) (n_Reader:PySem.W.nsIn K mainGlobals "Reader"=some (some (.ref cReader))) (n_NOTHING:PySem.W.nsIn K mainGlobals "NOTHING"=some (some (.ref cNOTHING))) (n_EVERYTHING:PySem.W.nsIn K mainGlobals "EVERYTHING"=some (some (.ref cEVERYTHING))) (n_SHAPES:PySem.W.nsIn K mainGlobals "SHAPES"=some (some (.ref cSHAPES))) (T:Tx K mg ⟨cReport,cQuery,cHost,cEntry,cSwitch,cNet,cLine,cReader,cNOTHING,cEVERYTHING,cSHAPES⟩)
  (a3:PySem.W.nsIn K mainGlobals "answers"=some (some (.ref f3))) (l3:K.lookup f3=some ⟨oc3,od3,.func (PySem.W.fnOf "answers" "answers" (dW cZ) (cG cZ) (ai cZ) .none kV3 dc3 pm3 an3 cd3 ct3),sl3⟩) (c3:PySem.W.codeIn K cd3 "answers"=true) (k3:PySem.W.keepIn K (.ref f3)=true):
  ∃fd:FuncData,(∀(s:Shared) (us:List Value),us.length=(["calls"]:List Str).length->BindsTo s fd ⟨us,[]⟩ ((["calls"]:List Str).zip us))/\∀base:Heap,K.In base->base.Ns mainGlobals mg->kz P w K mg base Cw 13 fa fd ["calls"] (ED K):=by
 have e:=hfa.symm.trans (PySem.W.mg_of X G a3);cases e;exact⟨PySem.W.fnOf "answers" "answers" (dW cZ) (cG cZ) (ai cZ) .none kV3 dc3 pm3 an3 cd3 ct3,λs us hu=>match us,hu with|[_],_=>.of_eq rfl,λbase _ _=>Ap (mY (st:=cZ) l3 c3 k3) T⟩
end
end Gs
namespace PySem.W.Fast
def tw7714078981355162447:=0
def tw7936875749760342998:=0
def tw15169986862115259402:=0
def tw15815797781501556754:=0
def tw7278306328634451458:=0
def tw5530296311390027327:=0
def tw4694564274419930:=0
def tw8058340042563254861:=0
def tw17384788810029367404:=0
def tw5568957338709417309:=0
def tw4516816847681405713:=0
def tw10280646651989553877:=0
def tw12535932497889415412:=0
def tw14906914844335551300:=0
def tw5625671592349108032:=0
def tw13345763921215013768:=0
def tw355267766424818421:=0
def tw15547681175655688483:=0
def tw1397721947040952245:=0
def tw15474402115923411791:=0
def tw9280370907054372163:=0
def tw3660091725372713701:=0
def tw13916094422220747839:=0
def tw3824069455981530650:=0
def tw5468387978447771679:=0
def tw13800857812305784414:=0
def tw12739293848889813570:=0
def tw14038991204340155708:=0
def tw5084202173629090256:=0
def tw15344170620617849203:=0
def tw2295180842821180418:=0
def tw10709500168873074607:=0
def tw6385013687353329852:=0
def tw6484141569151960015:=0
def tw14434873908766357428:=0
def tw11967487426333201014:=0
def tw13025177635018950396:=0
def tw4603216503942813871:=0
def tw8024519442714506155:=0
def tw844676257153865610:=0
def tw13438337288172377179:=0
def tw10290111929308612476:=0
def tw11802259880079396928:=0
def tw670049351797454547:=0
def tw4589490213177106464:=0
def tw10910531804457447482:=0
def tw16115899855229857387:=0
def tw9352233195707654045:=0
def tw11506297297412672613:=0
def tw17468690346853021334:=0
def tw8910812181980776902:=0
def tw10036488327511474059:=0
def tw17381245383851371751:=0
def tw17401706481483563368:=0
def tw8729958630701173948:=0
def tw12374910796114281302:=0
def tw10450275796145285378:=0
def tw16429852430196838755:=0
def tw14266984782293634709:=0
def tw8851726705267594734:=0
def tw2078972458918251733:=0
def tw5052097581306441184:=0
def tw11752522387622356788:=0
def tw13112168478577998530:=0
def tw948440823061047244:=0
def tw15158006935007242635:=0
def tw3946400191994008287:=0
def tw3320119636763773436:=0
def tw835295113364389647:=0
def tw17400818720831073427:=0
def tw5928192964385722589:=0
def tw18264941822522688714:=0
def tw7316841346126151352:=0
def tw16653328759594081803:=0
def tw17057587533280860849:=0
def tw12271390102740555570:=0
def tw11222053956824771398:=0
def tw15071659441948029372:=0
def tw9412204026054231231:=0
def tw9568482476243268465:=0
def tw2159863233540112348:=0
def tw17910195820868438543:=0
def tw16754066480434660469:=0
def tw11526152977265979116:=0
def tw17180682787257502392:=0
def tw5645838420266499102:=0
def tw9949576045002619720:=0
def tw18040335852527012133:=0
def tw6064877989294437312:=0
def tw5508560529069421007:=0
def tw10324456320072981247:=0
def tw3140032120035847549:=0
def tw2306191651057382950:=0
def tw15957722230169397259:=0
def tw3056472644179434150:=0
def tw11329351622967346980:=0
def tw14825280884178813707:=0
def tw8278949457825706303:=0
def tw2522968518451316685:=0
def tw3822048677005999863:=0
def tw1584984237587303489:=0
def tw11055293179239936149:=0
def tw18242770869809337910:=0
def tw18321974817456893363:=0
def tw13676213636090206699:=0
def tw7709639826143389978:=0
def tw11884881941349513306:=0
def tw17821562782628336672:=0
def tw16613986018306007268:=0
def tw11784666718841002838:=0
def tw1889065923262698123:=0
def tw3790556077210491493:=0
def tw15641263159314412246:=0
def tw18258165124558686863:=0
def tw3349487075295760578:=0
def tw920418955858936358:=0
def tw15722163450425250358:=0
def tw12474804120517035259:=0
def tw6789274962628924237:=0
def tw18380772625296203819:=0
def tw12130018219711626697:=0
def tw17766997561709709051:=0
def tw340574825647940029:=0
def tw10606864649880244553:=0
def tw4327854430789280036:=0
def tw17321769985927572250:=0
def tw1013715746703582154:=0
def tw14144899461139357023:=0
def tw17748638356608783474:=0
def tw1811524284158631758:=0
def tw23235599462959972:=0
def tw7418593415196477206:=0
def tw17930443438213585426:=0
def tw14967011091173824415:=0
def tw997969457931181365:=0
def tw7224988772712136411:=0
def tw15644318090842495442:=0
def tw11255260491787093661:=0
def tw11583172802098203188:=0
def tw3252087341858172624:=0
def tw5230646830015084278:=0
def tw17712857587795560072:=0
def tw10380312977270705679:=0
def tw2395787830838745591:=0
def tw4513032569117648574:=0
def tw7396217293160650049:=0
def tw17182520342579330232:=0
def tw10164305765530697960:=0
def tw16411511631532861053:=0
def tw11838449743562296068:=0
def tw11665090740568362438:=0
def tw9258099068471352943:=0
def tw1623748901627846759:=0
def tw4819889822924831644:=0
def tw13312911560422416686:=0
def tw4983767839907762008:=0
def tw9916385005564984527:=0
def tw2292366448939782167:=0
def tw16290485507306314966:=0
def tw12834445463875437195:=0
def tw11919875075572445797:=0
def tw8817432385410779778:=0
def tw4422352316393148172:=0
def tw8403268661086010881:=0
def tw10213419398296303291:=0
def tw16157132367599747551:=0
def tw11469016245593466578:=0
def tw594788916795626055:=0
def tw14424149567479478791:=0
def tw6138562859368220624:=0
def tw2044789732139517635:=0
def tw10723240420402294102:=0
def tw4653182610661829029:=0
def tw18361043290297892394:=0
def tw10754743283731642658:=0
def tw15252613400522922650:=0
def tw13139383751991668914:=0
def tw8399872035886882458:=0
def tw3762146520872604576:=0
def tw7351497727174318802:=0
def tw468103681813594298:=0
def tw14830074425743124876:=0
def tw6865910201748764101:=0
def tw8969592618679615595:=0
def tw14191528139468058776:=0
def tw13027033277514133188:=0
def tw13449519451231025783:=0
def tw13856588066307150702:=0
def tw3054793717026030814:=0
def tw17322582917864577530:=0
def tw8653571926968727686:=0
def tw15537674101038605602:=0
def tw11925495222733377192:=0
def tw6278634159104509556:=0
def tw14642897378554719126:=0
def tw17289299535642724297:=0
def tw5794346177909640075:=0
def tw12403025289266066391:=0
def tw10983024971820378606:=0
def tw5884609981010537220:=0
def tw11884371368166064567:=0
def tw14038339470108151527:=0
def tw6495719944131075983:=0
def tw2413065804053956320:=0
def tw9968571543442199295:=0
def tw14081597612942312755:=0
def tw17373124222178821688:=0
def tw10629183478551580530:=0
def tw16653430478160357318:=0
def tw18422326213449501850:=0
def tw12029344360512799201:=0
def tw17301024548922683581:=0
def tw9827118439094293395:=0
def tw5559928118144552382:=0
def tw1718610285388679117:=0
def tw4725334707608645094:=0
def tw11926490759791865378:=0
def tw10730150214779489994:=0
def tw14606841334810950610:=0
def tw627781110511524813:=0
def tw16156430323378935985:=0
def tw401073080447858106:=0
def tw11852260567544009673:=0
def tw15046962842415674278:=0
def tw12493228939320630038:=0
def tw12209273046551444275:=0
def tw6652767938334935365:=0
def tw1657830775319801017:=0
def tw6679317678035260558:=0
def tw8927894996744830820:=0
def tw15070449634878389687:=0
def tw2049736852777752302:=0
def tw13005690650839256470:=0
def tw14215927920665541442:=0
def tw9446733136702689335:=0
def tw17036631669813617128:=0
def tw1854199458143910260:=0
def tw4565148359543404903:=0
def tw4526325067384855147:=0
def tw394213373971167327:=0
def tw5302261345385103836:=0
def tw14060118419104121729:=0
def tw12633872876112068388:=0
def tw177605219278374771:=0
def tw10639118247223670217:=0
def tw5090109713350121315:=0
def tw17223690741472541693:=0
def tw13098796969795476757:=0
def tw15729698964916755803:=0
def tw6053894660019064897:=0
def tw4769256734831102004:=0
def tw14737919396826898268:=0
def tw6050923825429509651:=0
def tw10167946861360696346:=0
def tw9650314786853431730:=0
def tw14885721267023068269:=0
def tw9503082361148064589:=0
def tw14531636916947162604:=0
def tw13138739868152736896:=0
def tw1156972851007310634:=0
def tw2376844446714469845:=0
def tw5809714829513262110:=0
def tw14011475938903299325:=0
def tw17782876803188798268:=0
def tw13483447158527140194:=0
def tw11408635780963188655:=0
def tw15807512471979846931:=0
def tw7395482468278727271:=0
def tw4164749863836069464:=0
def tw16296100616572579016:=0
def tw16109643822362460286:=0
def tw3371170526928808324:=0
def tw14965455082627044859:=0
def tw13793234559390754957:=0
def tw6915004385513391041:=0
def tw852796846739520520:=0
def tw2699589965936752625:=0
def tw10214224235157886915:=0
def tw4465414910133047826:=0
def tw5370483662953472592:=0
def tw53083106412871823:=0
def tw1881845420156293101:=0
def tw3292313601348788406:=0
def tw17035834994824943179:=0
def tw9885227352805165070:=0
def tw2846273871612750728:=0
def tw16772439787678482518:=0
def tw5803687051152136561:=0
def tw15051668610866765391:=0
def tw15654415871520937880:=0
def tw9979099042811114545:=0
def tw4742016242894007415:=0
def tw4447636204595881094:=0
def tw3862769576541410534:=0
def tw3499406282301404526:=0
def tw2370304973714511093:=0
def tw17550070142135548150:=0
def tw17480290856105577231:=0
def tw17207225061293012723:=0
def tw14726645949370400662:=0
def tw14584854695042319171:=0
def tw12845564352508244104:=0
def tw12781739350630097929:=0
def tw11997690250534885236:=0
def tw11353188381216182618:=0
def tw10256159372030051526:=0
def tw8384560754543653245:=0
def tw9796876551768410478:=0
def tw100650802212838264:=0
def tw15835538838200673941:=0
def tw7718169002622468730:=0
def tw577704703348861741:=0
def tw2457252936696288703:=0
def tw16877853914129237070:=0
def tw16276985507329760805:=0
def tw14396518781858212080:=0
def tw13881925217017543867:=0
def tw6873130438940174141:=0
def tw7610127036160347925:=0
def tw5263066311589827322:=0
def tw4677087459863148777:=0
def tw10706425630834475067:=0
def tw9814717218855745433:=0
def tw813095686781366795:=0
def tw7784825430457900229:=0
def tw7364301452899202118:=0
def tw6525099050142826252:=0
def tw4800476593741522096:=0
def tw3740036832417321066:=0
def tw3708946179524089379:=0
def tw3630778340288270176:=0
def tw3629963557594070837:=0
def tw278515765277642388:=0
def tw2071903134905685608:=0
def tw2020884721369251928:=0
def tw16641036600495041980:=0
def tw15887525191046849789:=0
def tw15548065762702868543:=0
def tw15078070951579143849:=0
def tw14798169793000988490:=0
def tw14523829793512234880:=0
def tw14123110547129798656:=0
def tw13704630055567150314:=0
def tw12998256769972256793:=0
def tw12206520988686907183:=0
def tw11813496495279246937:=0
def tw1164938082563855236:=0
def tw1118451666097795329:=0
def tw12272919147822309619:=0
def tw7730436419869125700:=0
def tw2497660067925243238:=0
def tw4357509533284566652:=0
def tw3676081932991914196:=0
def tw3102676452600647128:=0
def tw3093489617299060093:=0
def tw1793000505302605758:=0
def tw17280499474951720763:=0
def tw15074770014446513668:=0
def tw1484767636373787766:=0
def tw14553813672735815177:=0
def tw12518543420868788397:=0
def tw12496706088653916664:=0
def tw1182290785199922057:=0
def tw10704347227564939553:=0
def tw10235645678898046505:=0
def tw13350616520798326889:=0
def tw17995028040128750153:=0
def tw8276594565109073660:=0
def tw5039894419563505446:=0
def tw353019761237407522:=0
def tw2720521414730155097:=0
def tw14090492545695696046:=0
def tw13288200278480225:=0
def tw12927934676166903200:=0
def tw4535911633110660755:=0
def tw3617536806833205586:=0
def tw1958295863642129779:=0
def tw11430590036871393282:=0
def tw10370572035277118630:=0
def tw4180737906683091132:=0
def tw17504718464055822757:=0
def tw1535737677405482068:=0
def tw12764766873324594806:=0
def tw11621698634890856530:=0
def tw9504679575227498094:=0
def tw9125254366342723715:=0
def tw9080798017343052188:=0
def tw8809042584101673694:=0
def tw8713548984248117805:=0
def tw7576280915064989362:=0
def tw7365778587983750429:=0
def tw7242360330883646513:=0
def tw6624007069333562627:=0
def tw6479931840086512906:=0
def tw6409676735159113771:=0
def tw6369809797071963203:=0
def tw587415095014794540:=0
def tw5611110773724910060:=0
def tw531320477602117371:=0
end PySem.W.Fast
open PySem PySem.W PyProof.Rows
set_option maxHeartbeats 0 in
theorem PySem.Challenge.cw_groupsnoop_s01_answers_holds : PySem.Challenge.rw_groupsnoop_s01_answers.Holds := by
 w_on;k_headS;(case hw=>exact⟨[.list [.int 25]],by decide+kernel,by decide+kernel⟩)
 k_fillS
 refine L2.Ao (r:=PySem.Challenge.rw_groupsnoop_s01_answers) (k:=13) (CX:=L2.Cw) (ps:=["calls"]) (sp:=Gs.ED) (by decide+kernel) rfl rfl ⟨rfl,by decide,by decide⟩ (λw h Y=>PySem.W.kIn_of Y) ?F ?S (λ_ _ _ _ z=>z)
 case F=>
  intro w mg fa h Y KX G hmg;refine' Gs.all_mk KX G hmg ?n_Report ?n_Query ?n_Host ?n_Entry ?n_Switch ?n_Net ?n_Line ?n_Reader ?n_NOTHING ?n_EVERYTHING ?n_SHAPES ?T ?a3 ?l3 ?c3 ?k3
  (case n_Report=>k_is);(case n_Query=>k_is);(case n_Host=>k_is);(case n_Entry=>k_is);(case n_Switch=>k_is);(case n_Net=>k_is);(case n_Line=>k_is);(case n_Reader=>k_is);(case n_NOTHING=>k_is);(case n_EVERYTHING=>k_is);(case n_SHAPES=>k_is)
  (case a3=>k_is);(case l3=>k_is);(case c3=>k_is);(case k3=>k_is)
  case T=>
   refine' Gs.Tx.mk (Gs.Txt.mk ?dJ ?dg ?oX ?dY ?tL ?DK ?DL ?gb ?oY ?eO ?jC ?iG ?ib ?d7 ?k7 ?jD ?c7 ?fC ?jE ?gJ ?fS ?gK ?k8 ?A7 ?jh ?jF ?vC ?oZ ?rZ ?fk ?tM ?wU ?tN ?c0 ?cE ?cc ?bY ?c4 ?fD ?eP ?c5 ?fE ?bo ?bw ?cf ?cP ?cI ?eQ ?dM ?cq ?aJ ?aV ?cJ ?cg ?bZ ?bh ?di ?k9 ?dj ?ic ?jG ?cH ?bA ?aZ ?aN ?cy ?gL ?fm ?d8 ?dk ?cj ?bE ?cD ?nu ?nv ?lb ?qe ?tO ?qf ?lg ?jH ?tP ?lh ?tQ ?fT ?jI ?qh ?a8 ?gM ?fU ?cQ ?aL ?eR ?cR ?fo ?fV ?fW ?cS ?gN ?lj ?aA ?gO ?eS ?eU ?nz ?iH ?gP ?zW ?tR ?jJ ?lp ?iI ?iJ ?iK ?qi ?lq ?nD ?jK ?gQ ?lr ?iL ?jL ?jM ?fX ?qj ?jN ?tS ?wV ?lu ?iM ?ly ?lz ?lA ?iN ?eV ?cN ?jO ?iO ?iP ?jP ?iQ ?nE ?iR ?iS ?lB ?jQ ?gR ?jR ?lC ?nG ?gS ?jS ?jT ?lD ?c6 ?fY ?iT ?dm ?eW ?vD ?DM ?iU ?fZ ?fq ?d9 ?f6 ?eu ?ft) ⟨?ne_Net,?ne_Switch,?ne_Host⟩ ?ne_Line ?ne_Reader ?nothing ?nP ?HI ⟨?i5,?i6⟩ (Gs.EG _) ?isQ ?shapes
   (case jh=>refine' PySem.W.mg_of KX G _;(all_goals try dsimp only);(all_goals try k_is))
   (case jF=>refine' PySem.W.mg_of KX G _;(all_goals try dsimp only);(all_goals try k_is))
   (case tN=>refine' PySem.W.mg_of KX G _;(all_goals try dsimp only);(all_goals try k_is))
   (case dJ=>refine' PySem.W.mg_none_of KX G _;(all_goals try k_is))
   (case dg=>refine' PySem.W.mg_none_of KX G _;(all_goals try k_is))
   (case oX=>refine' PySem.W.mg_none_of KX G _;(all_goals try k_is))
   (case dY=>refine' PySem.W.mg_none_of KX G _;(all_goals try k_is))
   (case tL=>refine' PySem.W.mg_none_of KX G _;(all_goals try k_is))
   (case DK=>refine' PySem.W.mg_none_of KX G _;(all_goals try k_is))
   (case DL=>refine' PySem.W.mg_none_of KX G _;(all_goals try k_is))
   (case gb=>refine' PySem.W.mg_none_of KX G _;(all_goals try k_is))
   (case oY=>refine' PySem.W.mg_none_of KX G _;(all_goals try k_is))
   (case eO=>refine' Gs.dS KX G _;(all_goals try k_is))
   (case jC=>refine' Gs.dS KX G _;(all_goals try k_is))
   (case iG=>refine' Gs.dS KX G _;(all_goals try k_is))
   (case ib=>refine' Gs.dS KX G _;(all_goals try k_is))
   (case d7=>refine' Gs.dS KX G _;(all_goals try k_is))
   (case k7=>refine' Gs.dS KX G _;(all_goals try k_is))
   (case jD=>refine' Gs.dS KX G _;(all_goals try k_is))
   (case c7=>refine' Gs.dS KX G _;(all_goals try k_is))
   (case fC=>refine' Gs.dS KX G _;(all_goals try k_is))
   (case jE=>refine' Gs.dS KX G _;(all_goals try k_is))
   (case gJ=>refine' Gs.dS KX G _;(all_goals try k_is))
   (case fS=>refine' Gs.dS KX G _;(all_goals try k_is))
   (case gK=>refine' Gs.dS KX G _;(all_goals try k_is))
   (case k8=>refine' Gs.dS KX G _;(all_goals try k_is))
   (case A7=>refine' Gs.dS KX G _;(all_goals try k_is))
   (case vC=>refine' Gs.dS KX G _;(all_goals try k_is))
   (case oZ=>refine' Gs.dS KX G _;(all_goals try k_is))
   (case rZ=>refine' Gs.dS KX G _;(all_goals try k_is))
   (case fk=>refine' Gs.dS KX G _;(all_goals try k_is))
   (case tM=>refine' Gs.dS KX G _;(all_goals try k_is))
   (case wU=>refine' Gs.dS KX G _;(all_goals try k_is))
   (case c0=>unfold L2.ay;(all_goals try dsimp only);k_is)
   (case cE=>unfold L2.ay;(all_goals try dsimp only);k_is)
   (case cc=>unfold L2.ay;(all_goals try dsimp only);k_is)
   (case bY=>unfold L2.ay;(all_goals try dsimp only);k_is)
   (case c4=>unfold L2.ay;(all_goals try dsimp only);k_is)
   (case fD=>unfold L2.ay;(all_goals try dsimp only);k_is)
   (case eP=>unfold L2.ay;(all_goals try dsimp only);k_is)
   (case c5=>unfold L2.ay;(all_goals try dsimp only);k_is)
   (case fE=>unfold L2.ay;(all_goals try dsimp only);k_is)
   (case bo=>unfold L2.ay;(all_goals try dsimp only);k_is)
   (case bw=>unfold L2.ay;(all_goals try dsimp only);k_is)
   (case cf=>unfold L2.ay;(all_goals try dsimp only);k_is)
   (case cP=>unfold L2.ay;(all_goals try dsimp only);k_is)
   (case cI=>unfold L2.ay;(all_goals try dsimp only);k_is)
   (case eQ=>unfold L2.ay;(all_goals try dsimp only);k_is)
   (case dM=>unfold L2.ay;(all_goals try dsimp only);k_is)
   (case cq=>unfold L2.ay;(all_goals try dsimp only);k_is)
   (case aJ=>unfold L2.ay;(all_goals try dsimp only);k_is)
   (case aV=>unfold L2.ay;(all_goals try dsimp only);k_is)
   (case cJ=>unfold L2.ay;(all_goals try dsimp only);k_is)
   (case cg=>unfold L2.ay;(all_goals try dsimp only);k_is)
   (case bZ=>unfold L2.ay;(all_goals try dsimp only);k_is)
   (case bh=>unfold L2.ay;(all_goals try dsimp only);k_is)
   (case di=>unfold L2.ay;(all_goals try dsimp only);k_is)
   (case k9=>unfold L2.ay;(all_goals try dsimp only);k_is)
   (case dj=>unfold L2.ay;(all_goals try dsimp only);k_is)
   (case ic=>unfold L2.ay;(all_goals try dsimp only);k_is)
   (case jG=>unfold L2.ay;(all_goals try dsimp only);k_is)
   (case cH=>unfold L2.ay;(all_goals try dsimp only);k_is)
   (case bA=>unfold L2.ay;(all_goals try dsimp only);k_is)
   (case aZ=>unfold L2.ay;(all_goals try dsimp only);k_is)
   (case aN=>unfold L2.ay;(all_goals try dsimp only);k_is)
   (case cy=>unfold L2.ay;(all_goals try dsimp only);k_is)
   (case gL=>unfold L2.ay;(all_goals try dsimp only);k_is)
   (case fm=>unfold L2.ay;(all_goals try dsimp only);k_is)
   (case d8=>unfold L2.ay;(all_goals try dsimp only);k_is)
   (case dk=>unfold L2.ay;(all_goals try dsimp only);k_is)
   (case cj=>unfold L2.ay;(all_goals try dsimp only);k_is)
   (case bE=>refine' Gs.lJ KX G _ (Gs.bM _ _ _ _) _ _ _ _ _ _ _ (λ_ _ _ _ _ _=>Gs.m7 λ_ _ _ _ _ _ _=>rfl);(all_goals try dsimp only);iterate 3 (all_goals try k_is))
   (case cD=>refine' Gs.lJ KX G _ (Gs.bM _ _ _ _) _ _ _ _ _ _ _ (λ_ _ _ _ _ _=>Gs.m3 λ_ _ _=>rfl);(all_goals try dsimp only);iterate 3 (all_goals try k_is))
   (case nu=>refine' Gs.aG KX G _ _ _ _ (λ_ _ _ _ _ _=>Gs.m1 λ_=>rfl);(all_goals try k_is))
   (case nv=>refine' Gs.aG KX G _ _ _ _ (λ_ _ _ _ _ _=>Gs.m1 λ_=>rfl);(all_goals try k_is))
   (case lb=>refine' Gs.aG KX G _ _ _ _ (λ_ _ _ _ _ _=>Gs.m1 λ_=>rfl);(all_goals try k_is))
   (case qe=>refine' Gs.aG KX G _ _ _ _ (λ_ _ _ _ _ _=>Gs.m1 λ_=>rfl);(all_goals try k_is))
   (case tO=>refine' Gs.aG KX G _ _ _ _ (λ_ _ _ _ _ _=>Gs.m1 λ_=>rfl);(all_goals try k_is))
   (case qf=>refine' Gs.aG KX G _ _ _ _ (λ_ _ _ _ _ _=>Gs.m1 λ_=>rfl);(all_goals try k_is))
   (case lg=>refine' Gs.aG KX G _ _ _ _ (λ_ _ _ _ _ _=>Gs.m1 λ_=>rfl);(all_goals try k_is))
   (case jH=>refine' Gs.aG KX G _ _ _ _ (λ_ _ _ _ _ _=>Gs.m2 λ_ _=>rfl);(all_goals try k_is))
   (case tP=>refine' Gs.aG KX G _ _ _ _ (λ_ _ _ _ _ _=>Gs.m1 λ_=>rfl);(all_goals try k_is))
   (case lh=>refine' Gs.aG KX G _ _ _ _ (λ_ _ _ _ _ _=>Gs.m2 λ_ _=>rfl);(all_goals try k_is))
   (case tQ=>refine' Gs.aG KX G _ _ _ _ (λ_ _ _ _ _ _=>Gs.m1 λ_=>rfl);(all_goals try k_is))
   (case fT=>refine' Gs.aG KX G _ _ _ _ (λ_ _ _ _ _ _=>Gs.m2 λ_ _=>rfl);(all_goals try k_is))
   (case jI=>refine' Gs.aG KX G _ _ _ _ (λ_ _ _ _ _ _=>Gs.m2 λ_ _=>rfl);(all_goals try k_is))
   (case qh=>refine' Gs.aG KX G _ _ _ _ (λ_ _ _ _ _ _=>Gs.m2 λ_ _=>rfl);(all_goals try k_is))
   (case a8=>refine' Gs.lJ KX G _ (Gs.bM _ _ _ _) _ _ _ _ _ _ _ (λ_ _ _ _ _ _=>Gs.m2 λ_ _=>rfl);(all_goals try dsimp only);iterate 3 (all_goals try k_is))
   (case gM=>refine' Gs.cW (Gs.bM _ _ _ _) _ _ _ _ _ (λ_ _ _ _ _ _=>Gs.m2 λ_ _=>rfl);(all_goals try dsimp only);iterate 3 (all_goals try k_is))
   (case fU=>refine' Gs.cW (Gs.bM _ _ _ _) _ _ _ _ _ (λ_ _ _ _ _ _=>Gs.m2 λ_ _=>rfl);(all_goals try dsimp only);iterate 3 (all_goals try k_is))
   (case cQ=>refine' Gs.lJ KX G _ (Gs.bM _ _ _ _) _ _ _ _ _ _ _ (λ_ _ _ _ _ _=>Gs.m5 λ_ _ _ _ _=>rfl);(all_goals try dsimp only);iterate 3 (all_goals try k_is))
   (case aL=>refine' Gs.lJ KX G _ (Gs.bM _ _ _ _) _ _ _ _ _ _ _ (λ_ _ _ _ _ _=>Gs.m2 λ_ _=>rfl);(all_goals try dsimp only);iterate 3 (all_goals try k_is))
   (case eR=>refine' Gs.cW (Gs.bM _ _ _ _) _ _ _ _ _ (λ_ _ _ _ _ _=>Gs.m1 λ_=>rfl);(all_goals try dsimp only);iterate 3 (all_goals try k_is))
   (case cR=>refine' Gs.cW (Gs.bM _ _ _ _) _ _ _ _ _ (λ_ _ _ _ _ _=>Gs.m2 λ_ _=>rfl);(all_goals try dsimp only);iterate 3 (all_goals try k_is))
   (case fo=>refine' Gs.cW (Gs.bM _ _ _ _) _ _ _ _ _ (λ_ _ _ _ _ _=>Gs.m2 λ_ _=>rfl);(all_goals try dsimp only);iterate 3 (all_goals try k_is))
   (case fV=>refine' Gs.cW (Gs.bM _ _ _ _) _ _ _ _ _ (λ_ _ _ _ _ _=>Gs.m1 λ_=>rfl);(all_goals try dsimp only);iterate 3 (all_goals try k_is))
   (case fW=>refine' Gs.cW (Gs.bM _ _ _ _) _ _ _ _ _ (λ_ _ _ _ _ _=>Gs.m3 λ_ _ _=>rfl);(all_goals try dsimp only);iterate 3 (all_goals try k_is))
   (case cS=>refine' Gs.cW (Gs.bM _ _ _ _) _ _ _ _ _ (λ_ _ _ _ _ _=>Gs.m2 λ_ _=>rfl);(all_goals try dsimp only);iterate 3 (all_goals try k_is))
   (case gN=>refine' Gs.cW (Gs.bM _ _ _ _) _ _ _ _ _ (λ_ _ _ _ _ _=>Gs.m4 λ_ _ _ _=>rfl);(all_goals try dsimp only);iterate 3 (all_goals try k_is))
   (case lj=>refine' Gs.aG KX G _ _ _ _ (λ_ _ _ _ _ _=>Gs.m2 λ_ _=>rfl);(all_goals try k_is))
   (case aA=>refine' Gs.lJ KX G _ (Gs.bM _ _ _ _) _ _ _ _ _ _ _ (λ_ _ _ _ _ _=>Gs.m8 λ_ _ _ _ _ _ _ _=>rfl);(all_goals try dsimp only);iterate 3 (all_goals try k_is))
   (case gO=>refine' Gs.cW (Gs.bM _ _ _ _) _ _ _ _ _ (λ_ _ _ _ _ _=>Gs.m2 λ_ _=>rfl);(all_goals try dsimp only);iterate 3 (all_goals try k_is))
   (case eS=>refine' Gs.cW (Gs.bM _ _ _ _) _ _ _ _ _ (λ_ _ _ _ _ _=>Gs.m2 λ_ _=>rfl);(all_goals try dsimp only);iterate 3 (all_goals try k_is))
   (case eU=>refine' Gs.cW (Gs.bM _ _ _ _) _ _ _ _ _ (λ_ _ _ _ _ _=>Gs.m1 λ_=>rfl);(all_goals try dsimp only);iterate 3 (all_goals try k_is))
   (case nz=>refine' Gs.cW (Gs.bM _ _ _ _) _ _ _ _ _ (λ_ _ _ _ _ _=>Gs.m2 λ_ _=>rfl);(all_goals try dsimp only);iterate 3 (all_goals try k_is))
   (case iH=>refine' Gs.cW (Gs.bM _ _ _ _) _ _ _ _ _ (λ_ _ _ _ _ _=>Gs.m2 λ_ _=>rfl);(all_goals try dsimp only);iterate 3 (all_goals try k_is))
   (case gP=>refine' Gs.cW (Gs.bM _ _ _ _) _ _ _ _ _ (λ_ _ _ _ _ _=>Gs.m2 λ_ _=>rfl);(all_goals try dsimp only);iterate 3 (all_goals try k_is))
   (case zW=>refine' Gs.aG KX G _ _ _ _ (λ_ _ _ _ _ _=>Gs.m4 λ_ _ _ _=>rfl);(all_goals try k_is))
   (case tR=>refine' Gs.aG KX G _ _ _ _ (λ_ _ _ _ _ _=>Gs.m3 λ_ _ _=>rfl);(all_goals try k_is))
   (case jJ=>refine' Gs.aG KX G _ _ _ _ (λ_ _ _ _ _ _=>Gs.m2 λ_ _=>rfl);(all_goals try k_is))
   (case lp=>refine' Gs.aG KX G _ _ _ _ (λ_ _ _ _ _ _=>Gs.m2 λ_ _=>rfl);(all_goals try k_is))
   (case iI=>refine' Gs.aG KX G _ _ _ _ (λ_ _ _ _ _ _=>Gs.m2 λ_ _=>rfl);(all_goals try k_is))
   (case iJ=>refine' Gs.aG KX G _ _ _ _ (λ_ _ _ _ _ _=>Gs.m2 λ_ _=>rfl);(all_goals try k_is))
   (case iK=>refine' Gs.aG KX G _ _ _ _ (λ_ _ _ _ _ _=>Gs.m3 λ_ _ _=>rfl);(all_goals try k_is))
   (case qi=>refine' Gs.aG KX G _ _ _ _ (λ_ _ _ _ _ _=>Gs.m2 λ_ _=>rfl);(all_goals try k_is))
   (case lq=>refine' Gs.aG KX G _ _ _ _ (λ_ _ _ _ _ _=>Gs.m3 λ_ _ _=>rfl);(all_goals try k_is))
   (case nD=>refine' Gs.aG KX G _ _ _ _ (λ_ _ _ _ _ _=>Gs.m2 λ_ _=>rfl);(all_goals try k_is))
   (case jK=>refine' Gs.aG KX G _ _ _ _ (λ_ _ _ _ _ _=>Gs.m2 λ_ _=>rfl);(all_goals try k_is))
   (case gQ=>refine' Gs.aG KX G _ _ _ _ (λ_ _ _ _ _ _=>Gs.m2 λ_ _=>rfl);(all_goals try k_is))
   (case lr=>refine' Gs.aG KX G _ _ _ _ (λ_ _ _ _ _ _=>Gs.m2 λ_ _=>rfl);(all_goals try k_is))
   (case iL=>refine' Gs.aG KX G _ _ _ _ (λ_ _ _ _ _ _=>Gs.m2 λ_ _=>rfl);(all_goals try k_is))
   (case jL=>refine' Gs.aG KX G _ _ _ _ (λ_ _ _ _ _ _=>Gs.m1 λ_=>rfl);(all_goals try k_is))
   (case jM=>refine' Gs.aG KX G _ _ _ _ (λ_ _ _ _ _ _=>Gs.m1 λ_=>rfl);(all_goals try k_is))
   (case fX=>refine' Gs.aG KX G _ _ _ _ (λ_ _ _ _ _ _=>Gs.m1 λ_=>rfl);(all_goals try k_is))
   (case qj=>refine' Gs.aG KX G _ _ _ _ (λ_ _ _ _ _ _=>Gs.m1 λ_=>rfl);(all_goals try k_is))
   (case jN=>refine' Gs.aG KX G _ _ _ _ (λ_ _ _ _ _ _=>Gs.m4 λ_ _ _ _=>rfl);(all_goals try k_is))
   (case tS=>refine' Gs.aG KX G _ _ _ _ (λ_ _ _ _ _ _=>Gs.m4 λ_ _ _ _=>rfl);(all_goals try k_is))
   (case wV=>refine' Gs.aG KX G _ _ _ _ (λ_ _ _ _ _ _=>Gs.m4 λ_ _ _ _=>rfl);(all_goals try k_is))
   (case lu=>refine' Gs.aG KX G _ _ _ _ (λ_ _ _ _ _ _=>Gs.m3 λ_ _ _=>rfl);(all_goals try k_is))
   (case iM=>refine' Gs.aG KX G _ _ _ _ (λ_ _ _ _ _ _=>Gs.m2 λ_ _=>rfl);(all_goals try k_is))
   (case ly=>refine' Gs.aG KX G _ _ _ _ (λ_ _ _ _ _ _=>Gs.m5 λ_ _ _ _ _=>rfl);(all_goals try k_is))
   (case lz=>refine' Gs.aG KX G _ _ _ _ (λ_ _ _ _ _ _=>Gs.m4 λ_ _ _ _=>rfl);(all_goals try k_is))
   (case lA=>refine' Gs.aG KX G _ _ _ _ (λ_ _ _ _ _ _=>Gs.m4 λ_ _ _ _=>rfl);(all_goals try k_is))
   (case iN=>refine' Gs.aG KX G _ _ _ _ (λ_ _ _ _ _ _=>Gs.m5 λ_ _ _ _ _=>rfl);(all_goals try k_is))
   (case eV=>refine' Gs.aG KX G _ _ _ _ (λ_ _ _ _ _ _=>Gs.m4 λ_ _ _ _=>rfl);(all_goals try k_is))
   (case cN=>refine' Gs.lJ KX G _ (Gs.bM _ _ _ _) _ _ _ _ _ _ _ (λ_ _ _ _ _ _=>Gs.m1 λ_=>rfl);(all_goals try dsimp only);iterate 3 (all_goals try k_is))
   (case jO=>refine' Gs.aG KX G _ _ _ _ (λ_ _ _ _ _ _=>Gs.m8 λ_ _ _ _ _ _ _ _=>rfl);(all_goals try k_is))
   (case iO=>refine' Gs.aG KX G _ _ _ _ (λ_ _ _ _ _ _=>Gs.m3 λ_ _ _=>rfl);(all_goals try k_is))
   (case iP=>refine' Gs.aG KX G _ _ _ _ (λ_ _ _ _ _ _=>Gs.m2 λ_ _=>rfl);(all_goals try k_is))
   (case jP=>refine' Gs.aG KX G _ _ _ _ (λ_ _ _ _ _ _=>Gs.m3 λ_ _ _=>rfl);(all_goals try k_is))
   (case iQ=>refine' Gs.aG KX G _ _ _ _ (λ_ _ _ _ _ _=>Gs.m2 λ_ _=>rfl);(all_goals try k_is))
   (case nE=>refine' Gs.aG KX G _ _ _ _ (λ_ _ _ _ _ _=>Gs.m1 λ_=>rfl);(all_goals try k_is))
   (case iR=>refine' Gs.aG KX G _ _ _ _ (λ_ _ _ _ _ _=>Gs.m2 λ_ _=>rfl);(all_goals try k_is))
   (case iS=>refine' Gs.aG KX G _ _ _ _ (λ_ _ _ _ _ _=>Gs.m1 λ_=>rfl);(all_goals try k_is))
   (case lB=>refine' Gs.aG KX G _ _ _ _ (λ_ _ _ _ _ _=>Gs.m3 λ_ _ _=>rfl);(all_goals try k_is))
   (case jQ=>refine' Gs.aG KX G _ _ _ _ (λ_ _ _ _ _ _=>Gs.m3 λ_ _ _=>rfl);(all_goals try k_is))
   (case gR=>refine' Gs.aG KX G _ _ _ _ (λ_ _ _ _ _ _=>Gs.m3 λ_ _ _=>rfl);(all_goals try k_is))
   (case jR=>refine' Gs.aG KX G _ _ _ _ (λ_ _ _ _ _ _=>Gs.m3 λ_ _ _=>rfl);(all_goals try k_is))
   (case lC=>refine' Gs.aG KX G _ _ _ _ (λ_ _ _ _ _ _=>Gs.m2 λ_ _=>rfl);(all_goals try k_is))
   (case nG=>refine' Gs.aG KX G _ _ _ _ (λ_ _ _ _ _ _=>Gs.m3 λ_ _ _=>rfl);(all_goals try k_is))
   (case gS=>refine' Gs.aG KX G _ _ _ _ (λ_ _ _ _ _ _=>Gs.m1 λ_=>rfl);(all_goals try k_is))
   (case jS=>refine' Gs.aG KX G _ _ _ _ (λ_ _ _ _ _ _=>Gs.m4 λ_ _ _ _=>rfl);(all_goals try k_is))
   (case jT=>refine' Gs.aG KX G _ _ _ _ (λ_ _ _ _ _ _=>Gs.m4 λ_ _ _ _=>rfl);(all_goals try k_is))
   (case lD=>refine' Gs.aG KX G _ _ _ _ (λ_ _ _ _ _ _=>Gs.m4 λ_ _ _ _=>rfl);(all_goals try k_is))
   (case c6=>refine' Gs.lJ KX G _ (Gs.bM _ _ _ _) _ _ _ _ _ _ _ (λ_ _ _ _ _ _=>Gs.m2 λ_ _=>rfl);(all_goals try dsimp only);iterate 3 (all_goals try k_is))
   (case fY=>refine' Gs.cW (Gs.bM _ _ _ _) _ _ _ _ _ (λ_ _ _ _ _ _=>Gs.m1 λ_=>rfl);(all_goals try dsimp only);iterate 3 (all_goals try k_is))
   (case iT=>refine' Gs.cW (Gs.bM _ _ _ _) _ _ _ _ _ (λ_ _ _ _ _ _=>Gs.m2 λ_ _=>rfl);(all_goals try dsimp only);iterate 3 (all_goals try k_is))
   (case dm=>refine' Gs.cW (Gs.bM _ _ _ _) _ _ _ _ _ (λ_ _ _ _ _ _=>Gs.m1 λ_=>rfl);(all_goals try dsimp only);iterate 3 (all_goals try k_is))
   (case eW=>refine' Gs.cW (Gs.bM _ _ _ _) _ _ _ _ _ (λ_ _ _ _ _ _=>Gs.m1 λ_=>rfl);(all_goals try dsimp only);iterate 3 (all_goals try k_is))
   (case vD=>refine' Gs.aG KX G _ _ _ _ (λ_ _ _ _ _ _=>Gs.m1 λ_=>rfl);(all_goals try k_is))
   (case DM=>refine' Gs.aG KX G _ _ _ _ (λ_ _ _ _ _ _=>Gs.m2 λ_ _=>rfl);(all_goals try k_is))
   (case iU=>refine' Gs.aG KX G _ _ _ _ (λ_ _ _ _ _ _=>Gs.m2 λ_ _=>rfl);(all_goals try k_is))
   (case fZ=>refine' Gs.aG KX G _ _ _ _ (λ_ _ _ _ _ _=>Gs.m4 λ_ _ _ _=>rfl);(all_goals try k_is))
   (case fq=>refine' Gs.aG KX G _ _ _ _ (λ_ _ _ _ _ _=>Gs.m4 λ_ _ _ _=>rfl);(all_goals try k_is))
   (case d9=>refine' Gs.aG KX G _ _ _ _ (λ_ _ _ _ _ _=>Gs.m3 λ_ _ _=>rfl);(all_goals try k_is))
   (case f6=>refine' Gs.aG KX G _ _ _ _ (λ_ _ _ _ _ _=>Gs.m3 λ_ _ _=>rfl);(all_goals try k_is))
   (case eu=>refine' Gs.aG KX G _ _ _ _ (λ_ _ _ _ _ _=>Gs.m3 λ_ _ _=>rfl);(all_goals try k_is))
   (case ft=>refine' Gs.aG KX G _ _ _ _ (λ_ _ _ _ _ _=>Gs.m3 λ_ _ _=>rfl);(all_goals try k_is))
   (case ne_Net=>exact⟨by decide,by decide,by decide⟩)
   (case ne_Switch=>exact⟨by decide,by decide,by decide⟩)
   (case ne_Host=>exact⟨by decide,by decide,by decide⟩)
   (case ne_Line=>exact⟨by decide,by decide,by decide⟩)
   (case ne_Reader=>exact⟨by decide,by decide,by decide⟩)
   (case nothing=>refine' Gs.Bo _ _ rfl rfl;(all_goals try dsimp only);iterate 3 (all_goals try k_is))
   (case nP=>refine' Gs.Bo _ _ rfl rfl;(all_goals try dsimp only);iterate 3 (all_goals try k_is))
   (case HI=>refine' Gs.HE ⟨_,_⟩ ⟨_,_⟩;(all_goals try dsimp only);(all_goals try k_is))
   (case i5=>k_is);(case i6=>k_is)
   (case isQ=>refine' Gs.HC (by decide) _ _ _;(all_goals try dsimp only);(all_goals try k_is))
   (case shapes=>refine' Gs.Cu _ (Gs.bp _) (Gs.bp _) (Gs.bp _) (Gs.bp _) (Gs.bp _) (Gs.bp _) (Gs.bp _) (Gs.bp _) (Gs.bp _) (Gs.bp _) (Gs.bp _) (Gs.bp _) (Gs.bp _) (Gs.bp _) (Gs.bp _) (Gs.bp _) (Gs.bp _) (Gs.bp _) (Gs.bp _) (Gs.bp _) (Gs.bp _) (Gs.bp _) (Gs.bp _) (Gs.bp _) (Gs.bp _) (Gs.bp _);(all_goals try dsimp only);iterate 3 (all_goals try k_is))
 case S=>
  intro K H xs a hO hwi hask hx;cases hx with
  |cons h1 h2=>
   cases h2;cases h1 with
   |lst hs ha=>
    have e:=L2.Bl a.1 _ ha;subst e;exact⟨_,a.1,rfl,hs,hask,λH' p hp=>.lst (L2.ba.of hp) (L2.Bk _)⟩
