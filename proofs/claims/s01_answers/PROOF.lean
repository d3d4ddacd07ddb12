import PyProof.Rows.All
import Wide.All
import OpenK.AllK
import Wide.FinOn
import PyProof.EqAt
import PyProof.EqKinds
import PyProof.TupleCall
import KE.BitLaws
import Open.SpecLaws
import KE.OsHead
import KE.OsGo
import PySem.Challenge.RW_seasonboard_s01_answers
import KE.KDictSum
import KE.KSortTupG
set_option Elab.async false
set_option linter.all false
set_option maxRecDepth 100000
section
namespace Sb
open PyVbsoag
theorem whole_one (r:List Int) (l:List (List Int)):∀x:Int,whole ((x::r)::l)=(x::r)::l
  | .negSucc _=>by cases r <;> cases l <;> rfl
  | .ofNat 0=>by rcases r with _ | ⟨_,_⟩ <;> cases l <;> rfl
  | .ofNat 1=>by rcases r with _ | ⟨_,_ | ⟨_,_ | ⟨_,_ | ⟨_,_⟩⟩⟩⟩ <;> cases l <;> rfl
  | .ofNat 2=>by rcases r with _ | ⟨_,_ | ⟨_,_ | ⟨_,_⟩⟩⟩ <;> cases l <;> rfl
  | .ofNat 3=>by rcases r with _ | ⟨_,_ | ⟨_,_ | ⟨_,_ | ⟨_,_ | ⟨_,_⟩⟩⟩⟩⟩ <;> cases l <;> rfl
  | .ofNat 4=>by rcases r with _ | ⟨_,_ | ⟨_,_ | ⟨_,_ | ⟨_,_ | ⟨_,_⟩⟩⟩⟩⟩ <;> cases l <;> rfl
  | .ofNat 5=>by rcases r with _ | ⟨_,_ | ⟨_,_ | ⟨_,_⟩⟩⟩ <;> cases l <;> rfl
  | .ofNat 6=>by rcases r with _ | ⟨_,_ | ⟨_,_ | ⟨_,_ | ⟨_,_ | ⟨_,_ | ⟨_,_⟩⟩⟩⟩⟩⟩ <;> cases l <;> rfl
  | .ofNat 7=>by rcases r with _ | ⟨_,_ | ⟨_,_⟩⟩ <;> cases l <;> rfl
  | .ofNat 8=>by rcases r with _ | ⟨_,_ | ⟨_,_⟩⟩ <;> cases l <;> rfl
  | .ofNat 9=>by rcases r with _ | ⟨_,_ | ⟨_,_ | ⟨_,_ | ⟨_,_⟩⟩⟩⟩ <;> cases l <;> rfl
  | .ofNat 10=>by rcases r with _ | ⟨_,_ | ⟨_,_⟩⟩ <;> cases l <;> rfl
  | .ofNat 11=>by rcases r with _ | ⟨_,_⟩ <;> cases l <;> rfl
  | .ofNat 12=>by rcases r with _ | ⟨_,_⟩ <;> cases l <;> rfl
  | .ofNat 13=>by rcases r with _ | ⟨_,_ | ⟨_,_⟩⟩ <;> cases l <;> rfl
  | .ofNat 14=>by rcases r with _ | ⟨_,_ | ⟨_,_⟩⟩ <;> cases l <;> rfl
  | .ofNat 15=>by rcases r with _ | ⟨_,_ | ⟨_,_ | ⟨_,_ | ⟨_,_ | ⟨_,_⟩⟩⟩⟩⟩ <;> cases l <;> rfl
  | .ofNat 16=>by rcases r with _ | ⟨_,_ | ⟨_,_⟩⟩ <;> cases l <;> rfl
  | .ofNat 17=>by rcases r with _ | ⟨_,_⟩ <;> cases l <;> rfl
  | .ofNat 18=>by rcases r with _ | ⟨_,_ | ⟨_,_⟩⟩ <;> cases l <;> rfl
  | .ofNat 19=>by rcases r with _ | ⟨_,_ | ⟨_,_ | ⟨_,_⟩⟩⟩ <;> cases l <;> rfl
  | .ofNat 20=>by rcases r with _ | ⟨_,_⟩ <;> cases l <;> rfl
  | .ofNat 21=>by rcases r with _ | ⟨_,_⟩ <;> cases l <;> rfl
  | .ofNat (n + 22)=>by cases r <;> cases l <;> rfl
theorem whole_eq (c:List (List Int)):whole c=c:=by
  rcases c with _ | ⟨_ | ⟨x,r⟩,l⟩
  · rfl
  · cases l <;> rfl
  · exact whole_one r l x
theorem map_whole (cs:List (List (List Int))):cs.map whole=cs:=by
  rw [show whole=id from funext whole_eq,List.map_id]
def ars:List Nat:=[0,3,2,4,4,2,5,1,1,3,1,0,0,1,1,4,1,0,1,2,0,0]
def ar (p:Nat):Nat:=ars.getD p 0
theorem shape_inv {p:Int} {n k:Nat} (h:shape p=some (n,k)):k=0∧∃j:Nat,j<22∧p=(j:Int)∧n=ar j:=by
  unfold shape at h
  by_cases e0:p=0
  · rw [if_pos e0] at h;cases h;exact ⟨rfl,0,by decide,e0,rfl⟩
  rw [if_neg e0] at h
  by_cases e1:p=1
  · rw [if_pos e1] at h;cases h;exact ⟨rfl,1,by decide,e1,rfl⟩
  rw [if_neg e1] at h
  by_cases e2:p=2
  · rw [if_pos e2] at h;cases h;exact ⟨rfl,2,by decide,e2,rfl⟩
  rw [if_neg e2] at h
  by_cases e3:p=3
  · rw [if_pos e3] at h;cases h;exact ⟨rfl,3,by decide,e3,rfl⟩
  rw [if_neg e3] at h
  by_cases e4:p=4
  · rw [if_pos e4] at h;cases h;exact ⟨rfl,4,by decide,e4,rfl⟩
  rw [if_neg e4] at h
  by_cases e5:p=5
  · rw [if_pos e5] at h;cases h;exact ⟨rfl,5,by decide,e5,rfl⟩
  rw [if_neg e5] at h
  by_cases e6:p=6
  · rw [if_pos e6] at h;cases h;exact ⟨rfl,6,by decide,e6,rfl⟩
  rw [if_neg e6] at h
  by_cases e7:p=7
  · rw [if_pos e7] at h;cases h;exact ⟨rfl,7,by decide,e7,rfl⟩
  rw [if_neg e7] at h
  by_cases e8:p=8
  · rw [if_pos e8] at h;cases h;exact ⟨rfl,8,by decide,e8,rfl⟩
  rw [if_neg e8] at h
  by_cases e9:p=9
  · rw [if_pos e9] at h;cases h;exact ⟨rfl,9,by decide,e9,rfl⟩
  rw [if_neg e9] at h
  by_cases e10:p=10
  · rw [if_pos e10] at h;cases h;exact ⟨rfl,10,by decide,e10,rfl⟩
  rw [if_neg e10] at h
  by_cases e11:p=11
  · rw [if_pos e11] at h;cases h;exact ⟨rfl,11,by decide,e11,rfl⟩
  rw [if_neg e11] at h
  by_cases e12:p=12
  · rw [if_pos e12] at h;cases h;exact ⟨rfl,12,by decide,e12,rfl⟩
  rw [if_neg e12] at h
  by_cases e13:p=13
  · rw [if_pos e13] at h;cases h;exact ⟨rfl,13,by decide,e13,rfl⟩
  rw [if_neg e13] at h
  by_cases e14:p=14
  · rw [if_pos e14] at h;cases h;exact ⟨rfl,14,by decide,e14,rfl⟩
  rw [if_neg e14] at h
  by_cases e15:p=15
  · rw [if_pos e15] at h;cases h;exact ⟨rfl,15,by decide,e15,rfl⟩
  rw [if_neg e15] at h
  by_cases e16:p=16
  · rw [if_pos e16] at h;cases h;exact ⟨rfl,16,by decide,e16,rfl⟩
  rw [if_neg e16] at h
  by_cases e17:p=17
  · rw [if_pos e17] at h;cases h;exact ⟨rfl,17,by decide,e17,rfl⟩
  rw [if_neg e17] at h
  by_cases e18:p=18
  · rw [if_pos e18] at h;cases h;exact ⟨rfl,18,by decide,e18,rfl⟩
  rw [if_neg e18] at h
  by_cases e19:p=19
  · rw [if_pos e19] at h;cases h;exact ⟨rfl,19,by decide,e19,rfl⟩
  rw [if_neg e19] at h
  by_cases e20:p=20
  · rw [if_pos e20] at h;cases h;exact ⟨rfl,20,by decide,e20,rfl⟩
  rw [if_neg e20] at h
  by_cases e21:p=21
  · rw [if_pos e21] at h;cases h;exact ⟨rfl,21,by decide,e21,rfl⟩
  rw [if_neg e21] at h
  cases h
abbrev Tb:=Vbsoag.Table
abbrev stepN (t:Tb) (j:Nat) (args:List Int):Tb×List Int:=VbsoagNeutral.step t [(j:Int)::args]
def Rem (l:List Int) (t:Tb) (out:List Int) (m:Nat):Prop :=
  ∃f cs,PyFlat.calls shape f l=some cs∧cs.length≤m∧out=PyFlat.told (PyFlat.played VbsoagNeutral.step t cs)
theorem Rem.start {l:List Int} (h:answers_asked l=true):Rem l Vbsoag.start (answers l) 400:=by
  unfold answers_asked at h
  unfold answers
  unfold calls at h ⊢
  cases e:PyFlat.calls shape l.length l with
  | none=>rw [e] at h;cases h
  | some cs =>
    rw [e] at h
    simp only [map_whole] at h ⊢
    rw [Bool.and_eq_true] at h
    exact ⟨_,cs,e,of_decide_eq_true h.1,rfl⟩
theorem Rem.nil {t:Tb} {out:List Int} {m:Nat} (h:Rem [] t out m):out=[]:=by
  obtain ⟨f,cs,e,_,ho⟩:=h
  have:cs=[]:=by
    cases f <;> (unfold PyFlat.calls at e;cases e;rfl)
  subst this
  rw [ho]
  rfl
theorem Rem.cons {p:Int} {r:List Int} {t:Tb} {out:List Int} {m:Nat} (h:Rem (p::r) t out m):∃j:Nat,j<22∧p=(j:Int)∧ar j≤r.length∧0<m ∧
    ∃out',out=((stepN t j (r.take (ar j))).2.length:Int)::((stepN t j (r.take (ar j))).2++out')∧Rem (r.drop (ar j)) (stepN t j (r.take (ar j))).1 out' (m - 1):=by
  obtain ⟨f,cs,e,hm,ho⟩:=h
  cases f with
  | zero=>unfold PyFlat.calls at e;cases e
  | succ f =>
    unfold PyFlat.calls at e
    cases e1:PyFlat.call shape (p::r) with
    | none=>rw [e1] at e;cases e
    | some ct =>
      obtain ⟨c,tl⟩:=ct
      rw [e1] at e
      dsimp only at e
      cases e2:PyFlat.calls shape f tl with
      | none=>rw [e2] at e;cases e
      | some cs' =>
        rw [e2] at e
        cases e
        unfold PyFlat.call at e1
        dsimp only at e1
        cases e3:shape p with
        | none=>rw [e3] at e1;cases e1
        | some nk =>
          obtain ⟨n,k⟩:=nk
          rw [e3] at e1
          dsimp only at e1
          obtain ⟨rfl,j,hj,rfl,rfl⟩:=shape_inv e3
          by_cases hl:r.length<ar j
          · rw [if_pos hl] at e1;cases e1
          · rw [if_neg hl] at e1
            unfold PyFlat.rows at e1
            cases e1
            rw [List.length_cons] at hm
            refine ⟨j,hj,rfl,by omega,by omega,PyFlat.told (PyFlat.played VbsoagNeutral.step (stepN t j (r.take (ar j))).1 cs'),?_,f,cs',e2,by omega,rfl⟩
            rw [ho]
            show PyFlat.told (PyFlat.played VbsoagNeutral.step t ([(j:Int)::r.take (ar j)]::cs'))=_
            rfl
end Sb
end
section
namespace Sb
open Vbsoaa (Board Man Men kind place linked manAt)
open Vbsoag (Driven Table putIn putMan putOut pairAt provinces outAt)
structure Prov where
  kind:Int
  centre:Int
  home:Int
  owner:Int
structure Unt where
  power:Int
  fleet:Int
  prov:Int
  shore:Int
structure Drv where
  unit:Unt
  origin:Int
  order:Int
  goal:Option (Int×Int)
structure Bd where
  provs:List Prov:=[]
  land:List (Int×Int):=[]
  sea:List (Int×Int×Int×Int):=[]
  units:List (Int×Unt):=[]
  driven:List (Int×Drv):=[]
  barred:List Int:=[]
  raises:List (Int×Unt):=[]
  drops:List Int:=[]
def look {α:Type} (l:List (Int × α)) (p:Int):Option α:=(l.find? fun x=>decide (x.1=p)).map (·.2)
def landKey (p q:Int):Int×Int:=if p<q then (p,q) else (q,p)
def seaKey (p s q t:Int):Int×Int×Int×Int:=if p<q then (p,s,q,t) else (q,t,p,s)
def untOf (m:Man):Unt:=⟨m.power,if m.fleet=true then 1 else 0,m.prov,m.shore⟩
def encMan (m:Man):Int×Unt:=(m.prov,untOf m)
def encBy:Option Nat→Int
  | none=>-1
  | some b=>b
def ordC:Option (Option (Nat×Nat))→Int
  | none=>0
  | some none=>2
  | some (some _)=>1
def goalC:Option (Option (Nat×Nat))→Option (Int×Int)
  | some (some x)=>some ((x.1:Int),(x.2:Int))
  | _=>none
def drvOf (d:Driven):Drv:=⟨untOf d.man,encBy d.by_,ordC d.order,goalC d.order⟩
def encOut (d:Driven):Int×Drv:=(d.man.prov,drvOf d)
def lkey (k:Nat×Nat):Int×Int:=landKey k.1 k.2
def skey (k:Nat×Nat):Int×Int×Int×Int:=seaKey (k.1 / 4:Nat) (k.1 % 4:Nat) (k.2 / 4:Nat) (k.2 % 4:Nat)
def Prov.Ok (p:Prov):Prop:=0≤p.kind∧p.kind≤2∧(p.centre=0∨p.centre=1)∧-1≤p.home∧p.home≤6∧-1≤p.owner∧p.owner≤6∧(p.centre=0→p.home = -1∧p.owner = -1)
def ManOk (n:Nat) (m:Man):Prop:=m.prov<n∧m.power≤6∧m.shore≤3
def DrvOk (n:Nat) (d:Driven):Prop:=ManOk n d.man∧(∀b,d.by_=some b→b<n)∧∀x,d.order=some (some x)→x.1<n∧x.2≤3
def isCen (B:Bd) (i:Nat):Bool:=(B.provs[i]?.map (·.centre)) == some 1
structure Rf (B:Bd) (t:Table):Prop where
  kinds:t.board.kinds=B.provs.map fun p=>p.kind.toNat
  pok:∀p∈B.provs,p.Ok
  plen:B.provs.length≤40
  cen:t.centres=(List.range B.provs.length).filter (isCen B)
  hom:∀i,pairAt t.homes i=(B.provs[i]?).bind fun p=>if p.home = -1 then none else some p.home.toNat
  own:∀i,pairAt t.owners i=(B.provs[i]?).bind fun p=>if p.owner = -1 then none else some p.owner.toNat
  land:B.land=t.board.land.map lkey
  landok:∀k∈t.board.land,k.1<B.provs.length∧k.2<B.provs.length∧k.1≠k.2
  landlen:t.board.land.length≤300
  sea:B.sea=t.board.sea.map skey
  seaok:∀k∈t.board.sea,k.1 / 4<B.provs.length∧k.2 / 4<B.provs.length∧k.1 / 4≠k.2 / 4
  sealen:t.board.sea.length≤300
  units:B.units.Perm (t.men.map encMan)
  usort:t.men.Pairwise fun a b=>a.prov<b.prov
  uok:∀m∈t.men,ManOk B.provs.length m
  driven:B.driven.Perm (t.out.map encOut)
  dsort:t.out.Pairwise fun a b=>a.man.prov<b.man.prov
  dok:∀d∈t.out,DrvOk B.provs.length d
  few:t.men.length + t.out.length≤24
  barred:B.barred.Perm (t.barred.map Int.ofNat)
  bsort:t.barred.Pairwise (· < ·)
  bok:∀p∈t.barred,p<B.provs.length
  raises:B.raises.Perm (t.raises.map encMan)
  rsort:t.raises.Pairwise fun a b=>a.prov<b.prov
  rok:∀m∈t.raises,ManOk B.provs.length m∧∀x∈t.men,x.prov≠m.prov
  rfew:t.men.length + t.raises.length≤24
  drops:B.drops.Perm (t.drops.map Int.ofNat)
  xsort:t.drops.Pairwise (· < ·)
  xok:∀p∈t.drops,∃m∈t.men,m.prov=p
theorem look_none {α:Type} {l:List (Int × α)} {p:Int}:look l p=none↔∀x∈l,x.1≠p:=by
  unfold look
  rw [Option.map_eq_none_iff,List.find?_eq_none]
  constructor
  · intro h x hx e
    exact h x hx (decide_eq_true e)
  · intro h x hx e
    exact h x hx (of_decide_eq_true e)
theorem look_some_mem {α:Type} {l:List (Int × α)} {p:Int} {v:α} (h:look l p=some v):(p,v)∈l:=by
  unfold look at h
  rw [Option.map_eq_some_iff] at h
  obtain ⟨x,hx,rfl⟩:=h
  have e:x.1=p:=by have:=List.find?_some hx;exact of_decide_eq_true this
  have m:=List.mem_of_find?_eq_some hx
  rw [← e]
  exact m
theorem look_of_mem {α:Type}:∀{l:List (Int × α)} {p:Int} {v:α},(l.map (·.1)).Nodup→(p,v)∈l→look l p=some v
  | [],_,_,_,h=>nomatch h
  | (q,u)::l,p,v,nd,h=>by
    rw [List.map_cons,List.nodup_cons] at nd
    unfold look
    rw [List.find?_cons]
    rcases List.mem_cons.mp h with e | hm
    · obtain ⟨e1,e2⟩:=Prod.mk.inj e
      subst e1 e2
      rw [show decide ((p,v).1=p)=true from decide_eq_true rfl]
      rfl
    · have hn:q≠p:=fun e=>nd.1 (by rw [e];exact List.mem_map.mpr ⟨_,hm,rfl⟩)
      rw [show decide ((q,u).1=p)=false from decide_eq_false hn]
      exact look_of_mem nd.2 hm
theorem look_perm {α:Type} {l l':List (Int × α)} (h:l.Perm l') (nd:(l.map (·.1)).Nodup) (p:Int):look l p=look l' p:=by
  cases e:look l p with
  | none =>
    exact (look_none.mpr fun x hx=>look_none.mp e x (h.mem_iff.mpr hx)).symm
  | some v =>
    exact (look_of_mem ((h.map _).nodup_iff.mp nd) (h.mem_iff.mp (look_some_mem e))).symm
theorem men_keys (l:Men):(l.map encMan).map (·.1)=l.map fun m=>(m.prov:Int):=by
  rw [List.map_map];rfl
theorem men_nodup {l:Men} (h:l.Pairwise fun a b=>a.prov<b.prov):((l.map encMan).map (·.1)).Nodup:=by
  rw [men_keys]
  unfold List.Nodup
  rw [List.pairwise_map]
  exact h.imp fun q e=>by omega
theorem look_men:∀(l:Men) (p:Int),look (l.map encMan) p=if 0≤p then (manAt l p.toNat).map untOf else none
  | [],p=>by
    unfold manAt look
    simp
  | m::l,p=>by
    have ih:=look_men l p
    unfold look manAt at ih ⊢
    rw [List.map_cons,List.find?_cons,List.find?_cons]
    by_cases e:(m.prov:Int)=p
    · have h0:0≤p:=by omega
      have e2:(m.prov == p.toNat)=true:=by rw [beq_iff_eq];omega
      rw [show decide ((encMan m).1=p)=true from decide_eq_true e,e2,if_pos h0]
      rfl
    · rw [show decide ((encMan m).1=p)=false from decide_eq_false e]
      by_cases h0:0≤p
      · have e2:(m.prov == p.toNat)=false:=by rw [beq_eq_false_iff_ne];omega
        rw [e2];exact ih
      · rw [if_neg h0] at ih ⊢;exact ih
theorem Rf.look {B:Bd} {t:Table} (R:Rf B t) (p:Int):look B.units p=if 0≤p then (manAt t.men p.toNat).map untOf else none:=by
  rw [← look_men]
  exact look_perm R.units ((R.units.map _).nodup_iff.mpr (men_nodup R.usort)) p
theorem Rf.ulen {B:Bd} {t:Table} (R:Rf B t):B.units.length=t.men.length:=by
  rw [R.units.length_eq,List.length_map]
theorem putMan_perm (m:Man):∀l:Men,(putMan m l).Perm (m::l)
  | []=>.refl _
  | x::l=>by
    unfold putMan
    split
    · exact .refl _
    · exact ((putMan_perm m l).cons x).trans (.swap ..)
theorem putMan_sort {m:Man}:∀{l:Men},(l.Pairwise fun a b=>a.prov<b.prov)→(∀x∈l,x.prov≠m.prov)→(putMan m l).Pairwise fun a b=>a.prov<b.prov
  | [],_,_=>by unfold putMan;exact List.pairwise_singleton ..
  | x::l,h,hn=>by
    rw [List.pairwise_cons] at h
    unfold putMan
    split
    · rename_i hlt
      refine List.pairwise_cons.mpr ⟨fun y hy=>?_,List.pairwise_cons.mpr h⟩
      rcases List.mem_cons.mp hy with e | e
      · rw [e];exact hlt
      · have:=h.1 y e;omega
    · rename_i hlt
      refine List.pairwise_cons.mpr ⟨fun y hy=>?_,putMan_sort h.2 fun y hy=>hn y (List.mem_cons_of_mem _ hy)⟩
      rcases List.mem_cons.mp ((putMan_perm m l).mem_iff.mp hy) with e | e
      · rw [e];have:=hn x List.mem_cons_self;omega
      · exact h.1 y e
theorem manAt_none {l:Men} {p:Nat}:manAt l p=none↔∀m∈l,m.prov≠p:=by
  unfold manAt
  rw [List.find?_eq_none]
  constructor
  · intro h m hm e;exact h m hm (by rw [beq_iff_eq];exact e)
  · intro h m hm e;exact h m hm (by rwa [beq_iff_eq] at e)
theorem manAt_some {l:Men} {p:Nat} {m:Man} (h:manAt l p=some m):m∈l∧m.prov=p:=by
  unfold manAt at h
  exact ⟨List.mem_of_find?_eq_some h,by have:=List.find?_some h;rwa [beq_iff_eq] at this⟩
theorem out_keys (l:List Driven):(l.map encOut).map (·.1)=l.map fun d=>(d.man.prov:Int):=by
  rw [List.map_map];rfl
theorem out_nodup {l:List Driven} (h:l.Pairwise fun a b=>a.man.prov<b.man.prov):((l.map encOut).map (·.1)).Nodup:=by
  rw [out_keys]
  unfold List.Nodup
  rw [List.pairwise_map]
  exact h.imp fun q e=>by omega
def outIn (l:List Driven) (p:Nat):Option Driven:=l.find? fun d=>d.man.prov == p
theorem look_out:∀(l:List Driven) (p:Int),look (l.map encOut) p=if 0≤p then (outIn l p.toNat).map drvOf else none
  | [],p=>by
    unfold outIn look
    simp
  | m::l,p=>by
    have ih:=look_out l p
    unfold look outIn at ih ⊢
    rw [List.map_cons,List.find?_cons,List.find?_cons]
    by_cases e:(m.man.prov:Int)=p
    · have h0:0≤p:=by omega
      have e2:(m.man.prov == p.toNat)=true:=by rw [beq_iff_eq];omega
      rw [show decide ((encOut m).1=p)=true from decide_eq_true e,e2,if_pos h0]
      rfl
    · rw [show decide ((encOut m).1=p)=false from decide_eq_false e]
      by_cases h0:0≤p
      · have e2:(m.man.prov == p.toNat)=false:=by rw [beq_eq_false_iff_ne];omega
        rw [e2];exact ih
      · rw [if_neg h0] at ih ⊢;exact ih
theorem Rf.lookD {B:Bd} {t:Table} (R:Rf B t) (p:Int):Sb.look B.driven p=if 0≤p then (outAt t p.toNat).map drvOf else none:=by
  show _=if 0≤p then (outIn t.out p.toNat).map drvOf else none
  rw [← look_out]
  exact look_perm R.driven ((R.driven.map _).nodup_iff.mpr (out_nodup R.dsort)) p
theorem Rf.dlen {B:Bd} {t:Table} (R:Rf B t):B.driven.length=t.out.length:=by
  rw [R.driven.length_eq,List.length_map]
theorem putOut_perm (m:Driven):∀l:List Driven,(putOut m l).Perm (m::l)
  | []=>.refl _
  | x::l=>by
    unfold putOut
    split
    · exact .refl _
    · exact ((putOut_perm m l).cons x).trans (.swap ..)
theorem putOut_sort {m:Driven}:∀{l:List Driven},(l.Pairwise fun a b=>a.man.prov<b.man.prov)→(∀x∈l,x.man.prov≠m.man.prov)→(putOut m l).Pairwise fun a b=>a.man.prov<b.man.prov
  | [],_,_=>by unfold putOut;exact List.pairwise_singleton ..
  | x::l,h,hn=>by
    rw [List.pairwise_cons] at h
    unfold putOut
    split
    · rename_i hlt
      refine List.pairwise_cons.mpr ⟨fun y hy=>?_,List.pairwise_cons.mpr h⟩
      rcases List.mem_cons.mp hy with e | e
      · rw [e];exact hlt
      · have:=h.1 y e;omega
    · rename_i hlt
      refine List.pairwise_cons.mpr ⟨fun y hy=>?_,putOut_sort h.2 fun y hy=>hn y (List.mem_cons_of_mem _ hy)⟩
      rcases List.mem_cons.mp ((putOut_perm m l).mem_iff.mp hy) with e | e
      · rw [e];have:=hn x List.mem_cons_self;omega
      · exact h.1 y e
theorem outIn_none {l:List Driven} {p:Nat}:outIn l p=none↔∀m∈l,m.man.prov≠p:=by
  unfold outIn
  rw [List.find?_eq_none]
  constructor
  · intro h m hm e;exact h m hm (by rw [beq_iff_eq];exact e)
  · intro h m hm e;exact h m hm (by rwa [beq_iff_eq] at e)
theorem putIn_mem {x y:Nat}:∀{l:List Nat},y∈putIn x l↔y=x∨y∈l
  | []=>by unfold putIn;simp
  | z::l=>by
    unfold putIn
    split
    · simp
    · split
      · rename_i _ e;subst e;simp
      · rw [List.mem_cons,putIn_mem (l:=l),List.mem_cons]
        constructor
        · rintro (e | e | e)
          · exact .inr (.inl e)
          · exact .inl e
          · exact .inr (.inr e)
        · rintro (e | e | e)
          · exact .inr (.inl e)
          · exact .inl e
          · exact .inr (.inr e)
theorem putIn_sort {x:Nat}:∀{l:List Nat},l.Pairwise (· < ·)→(putIn x l).Pairwise (· < ·)
  | [],_=>by unfold putIn;exact List.pairwise_singleton ..
  | z::l,h=>by
    have h':=List.pairwise_cons.mp h
    unfold putIn
    split
    · rename_i hlt
      refine List.pairwise_cons.mpr ⟨fun y hy=>?_,h⟩
      rcases List.mem_cons.mp hy with e | e
      · rw [e];exact hlt
      · have:=h'.1 y e;omega
    · split
      · exact h
      · refine List.pairwise_cons.mpr ⟨fun y hy=>?_,putIn_sort h'.2⟩
        rcases putIn_mem.mp hy with e | e
        · omega
        · exact h'.1 y e
theorem putIn_perm {x:Nat}:∀{l:List Nat},x∉l→(putIn x l).Perm (x::l)
  | [],_=>.refl _
  | z::l,h=>by
    unfold putIn
    split
    · exact .refl _
    · split
      · rename_i _ e;exact absurd (List.mem_cons.mpr (.inl e)) h
      · exact ((putIn_perm fun q=>h (List.mem_cons_of_mem _ q)).cons z).trans (.swap ..)
theorem putIn_same {x:Nat}:∀{l:List Nat},l.Pairwise (· < ·)→x∈l→putIn x l=l
  | [],_,h=>nomatch h
  | z::l,hs,h=>by
    have h':=List.pairwise_cons.mp hs
    unfold putIn
    rcases List.mem_cons.mp h with e | e
    · subst e
      rw [if_neg (Nat.lt_irrefl _),if_pos rfl]
    · have:=h'.1 x e
      rw [if_neg (by omega),if_neg (by omega),putIn_same h'.2 e]
theorem mem_nats {l:List Int} {m:List Nat} (h:l.Perm (m.map Int.ofNat)) (p:Int):p∈l↔0≤p∧p.toNat∈m:=by
  rw [h.mem_iff,List.mem_map]
  constructor
  · rintro ⟨x,hx,rfl⟩
    exact ⟨Int.natCast_nonneg _,hx⟩
  · rintro ⟨h0,hm⟩
    exact ⟨p.toNat,hm,Int.toNat_of_nonneg h0⟩
theorem perm_len {l:List Int} {m:List Nat} (h:l.Perm (m.map Int.ofNat)):l.length=m.length:=by
  rw [h.length_eq,List.length_map]
end Sb
end
section
namespace Sb
open Vbsoaa (Board Man Men kind place linked manAt)
open Vbsoag (Driven Table putIn putMan putOut pairAt provinces outAt)
inductive Arg where
  | kind | bit | shore | power | powerN | prov | provN
def lo:Arg→Int
  | .powerN=>-1
  | .provN=>-1
  | _=>0
def hi (n:Nat):Arg→Int
  | .kind=>2
  | .bit=>1
  | .shore=>3
  | .power=>6
  | .powerN=>6
  | .prov=>(n:Int) - 1
  | .provN=>(n:Int) - 1
def sigs:List (List Arg):=[[],[.kind,.bit,.powerN],[.prov,.prov],[.prov,.shore,.prov,.shore],[.power,.bit,.prov,.shore],[.prov,.powerN],[.power,.bit,.prov,.shore,.provN],
  [.prov],[.prov],[.prov,.prov,.shore],[.prov],[],[],[.power],[.power],[.power,.bit,.prov,.shore],[.prov],[],[.power],[.power,.prov],[],[]]
def sig (j:Nat):List Arg:=sigs.getD j []
def inR (n:Nat):List Arg→List Int→Bool
  | a::l,x::r=>Vbsoag.within x (lo a) (hi n a) && inR n l r
  | _,_=>true
theorem sig_len:∀j,j<22→(sig j).length=ar j:=by decide
theorem args1 {l:List Int} (h:l.length=1):∃a,l=[a]:=by
  match l,h with
  | [a],_=>exact ⟨a,rfl⟩
theorem args2 {l:List Int} (h:l.length=2):∃a b,l=[a,b]:=by
  match l,h with
  | [a,b],_=>exact ⟨a,b,rfl⟩
theorem args3 {l:List Int} (h:l.length=3):∃a b c,l=[a,b,c]:=by
  match l,h with
  | [a,b,c],_=>exact ⟨a,b,c,rfl⟩
theorem args4 {l:List Int} (h:l.length=4):∃a b c d,l=[a,b,c,d]:=by
  match l,h with
  | [a,b,c,d],_=>exact ⟨a,b,c,d,rfl⟩
theorem args5 {l:List Int} (h:l.length=5):∃a b c d e,l=[a,b,c,d,e]:=by
  match l,h with
  | [a,b,c,d,e],_=>exact ⟨a,b,c,d,e,rfl⟩
theorem isProvN (n:Nat) (b:Int):(b == -1 || Vbsoag.within b 0 ((n:Int) - 1))=Vbsoag.within b (-1) ((n:Int) - 1):=by
  unfold Vbsoag.within
  by_cases h:b = -1
  · subst h
    have e:(decide (-1≤(n:Int) - 1))=true:=decide_eq_true (by omega)
    rw [e]
    rfl
  · rw [show (b == -1)=false from beq_eq_false_iff_ne.mpr h,Bool.false_or]
    by_cases h2:0≤b
    · rw [decide_eq_true h2,decide_eq_true (show -1≤b by omega)]
    · rw [decide_eq_false h2,decide_eq_false (show ¬ -1≤b by omega)]
theorem refused {t:Table} {j:Nat} {args:List Int} (hj:j<22) (hl:args.length=ar j) (h:inR t.board.kinds.length (sig j) args=false):stepN t j args=(t,[-1]):=by
  match j,hj with
  | 0,_=>cases args with
    | nil=>cases h
    | cons _ _=>cases hl
  | 1,_ =>
    obtain ⟨a,b,c,rfl⟩:=args3 hl
    refine if_pos ?_
    rw [← h]
    simp only [inR,sig,sigs,lo,hi,Vbsoag.isPower,Vbsoag.isProv,List.getD_cons_succ,List.getD_cons_zero,Bool.and_true,Bool.and_assoc]
  | 2,_ =>
    obtain ⟨a,b,rfl⟩:=args2 hl
    refine if_pos ?_
    rw [← h]
    simp only [inR,sig,sigs,lo,hi,Vbsoag.isPower,Vbsoag.isProv,List.getD_cons_succ,List.getD_cons_zero,Bool.and_true,Bool.and_assoc]
  | 3,_ =>
    obtain ⟨a,b,c,d,rfl⟩:=args4 hl
    refine if_pos ?_
    rw [← h]
    simp only [inR,sig,sigs,lo,hi,Vbsoag.isProv,List.getD_cons_succ,List.getD_cons_zero,Bool.and_true]
    ac_rfl
  | 4,_ =>
    obtain ⟨a,b,c,d,rfl⟩:=args4 hl
    refine if_pos ?_
    rw [← h]
    simp only [inR,sig,sigs,lo,hi,Vbsoag.isPower,Vbsoag.isProv,List.getD_cons_succ,List.getD_cons_zero,Bool.and_true,Bool.and_assoc]
  | 5,_ =>
    obtain ⟨a,b,rfl⟩:=args2 hl
    refine if_pos ?_
    rw [← h]
    simp only [inR,sig,sigs,lo,hi,Vbsoag.isPower,Vbsoag.isProv,List.getD_cons_succ,List.getD_cons_zero,Bool.and_true,Bool.and_assoc]
  | 6,_ =>
    obtain ⟨a,b,c,d,e,rfl⟩:=args5 hl
    refine if_pos ?_
    rw [← h]
    simp only [inR,sig,sigs,lo,hi,Vbsoag.isPower,Vbsoag.isProv,isProvN,List.getD_cons_succ,List.getD_cons_zero,Bool.and_true]
  | 7,_ =>
    obtain ⟨a,rfl⟩:=args1 hl
    refine if_pos ?_
    rw [← h]
    simp only [inR,sig,sigs,lo,hi,Vbsoag.isPower,Vbsoag.isProv,List.getD_cons_succ,List.getD_cons_zero,Bool.and_true,Bool.and_assoc]
  | 8,_ =>
    obtain ⟨a,rfl⟩:=args1 hl
    refine if_pos ?_
    rw [← h]
    simp only [inR,sig,sigs,lo,hi,Vbsoag.isPower,Vbsoag.isProv,List.getD_cons_succ,List.getD_cons_zero,Bool.and_true,Bool.and_assoc]
  | 9,_ =>
    obtain ⟨a,b,c,rfl⟩:=args3 hl
    refine if_pos ?_
    rw [← h]
    simp only [inR,sig,sigs,lo,hi,Vbsoag.isPower,Vbsoag.isProv,List.getD_cons_succ,List.getD_cons_zero,Bool.and_true,Bool.and_assoc]
  | 10,_ =>
    obtain ⟨a,rfl⟩:=args1 hl
    refine if_pos ?_
    rw [← h]
    simp only [inR,sig,sigs,lo,hi,Vbsoag.isPower,Vbsoag.isProv,List.getD_cons_succ,List.getD_cons_zero,Bool.and_true,Bool.and_assoc]
  | 11,_=>cases args with
    | nil=>cases h
    | cons _ _=>cases hl
  | 12,_=>cases args with
    | nil=>cases h
    | cons _ _=>cases hl
  | 13,_ =>
    obtain ⟨a,rfl⟩:=args1 hl
    refine if_pos ?_
    rw [← h]
    simp only [inR,sig,sigs,lo,hi,Vbsoag.isPower,Vbsoag.isProv,List.getD_cons_succ,List.getD_cons_zero,Bool.and_true,Bool.and_assoc]
  | 14,_ =>
    obtain ⟨a,rfl⟩:=args1 hl
    refine if_pos ?_
    rw [← h]
    simp only [inR,sig,sigs,lo,hi,Vbsoag.isPower,Vbsoag.isProv,List.getD_cons_succ,List.getD_cons_zero,Bool.and_true,Bool.and_assoc]
  | 15,_ =>
    obtain ⟨a,b,c,d,rfl⟩:=args4 hl
    refine if_pos ?_
    rw [← h]
    simp only [inR,sig,sigs,lo,hi,Vbsoag.isPower,Vbsoag.isProv,List.getD_cons_succ,List.getD_cons_zero,Bool.and_true,Bool.and_assoc]
  | 16,_ =>
    obtain ⟨a,rfl⟩:=args1 hl
    refine if_pos ?_
    rw [← h]
    simp only [inR,sig,sigs,lo,hi,Vbsoag.isPower,Vbsoag.isProv,List.getD_cons_succ,List.getD_cons_zero,Bool.and_true,Bool.and_assoc]
  | 17,_=>cases args with
    | nil=>cases h
    | cons _ _=>cases hl
  | 18,_ =>
    obtain ⟨a,rfl⟩:=args1 hl
    refine if_pos ?_
    rw [← h]
    simp only [inR,sig,sigs,lo,hi,Vbsoag.isPower,Vbsoag.isProv,List.getD_cons_succ,List.getD_cons_zero,Bool.and_true,Bool.and_assoc]
  | 19,_ =>
    obtain ⟨a,b,rfl⟩:=args2 hl
    refine if_pos ?_
    rw [← h]
    simp only [inR,sig,sigs,lo,hi,Vbsoag.isPower,Vbsoag.isProv,List.getD_cons_succ,List.getD_cons_zero,Bool.and_true,Bool.and_assoc]
  | 20,_=>cases args with
    | nil=>cases h
    | cons _ _=>cases hl
  | 21,_=>cases args with
    | nil=>cases h
    | cons _ _=>cases hl
  | j + 22,hj=>omega
end Sb
end
section
namespace Sb
open Vbsoaa (Board Man Men kind place linked manAt)
open Vbsoag (Driven Table putIn putMan putOut pairAt provinces outAt)
def kindAt (B:Bd) (p:Int):Int:=(B.provs[p.toNat]?.map (·.kind)).getD 0
def wrong (B:Bd) (f p s:Int):Bool:=if f=1 then decide (kindAt B p=0) else decide (kindAt B p=1) || decide (s≠0)
def IsP (B:Bd) (p:Int):Prop:=0≤p∧p<B.provs.length
theorem Rf.n {B:Bd} {t:Table} (R:Rf B t):t.board.kinds.length=B.provs.length:=by rw [R.kinds,List.length_map]
theorem Rf.start:Rf {} Vbsoag.start where
  kinds:=rfl
  pok:=fun _ h=>nomatch h
  plen:=by decide
  cen:=rfl
  hom:=fun _=>rfl
  own:=fun _=>rfl
  land:=rfl
  landok:=fun _ h=>nomatch h
  landlen:=by decide
  sea:=rfl
  seaok:=fun _ h=>nomatch h
  sealen:=by decide
  units:=.nil
  usort:=.nil
  uok:=fun _ h=>nomatch h
  driven:=.nil
  dsort:=.nil
  dok:=fun _ h=>nomatch h
  few:=by decide
  barred:=.nil
  bsort:=.nil
  bok:=fun _ h=>nomatch h
  raises:=.nil
  rsort:=.nil
  rok:=fun _ h=>nomatch h
  rfew:=by decide
  drops:=.nil
  xsort:=.nil
  xok:=fun _ h=>nomatch h
theorem Rf.forget {B:Bd} {t:Table} (R:Rf B t):Rf { B with raises:=[],drops:=[] } { t with raises:=[],drops:=[] } :=
  { R with
    raises:=.nil
    rsort:=.nil
    rok:=fun _ h=>nomatch h
    rfew:=by have:=R.few;show t.men.length + 0≤24;omega
    drops:=.nil
    xsort:=.nil
    xok:=fun _ h=>nomatch h }
theorem Rf.kind {B:Bd} {t:Table} (R:Rf B t) {p:Int} (h:IsP B p):(Vbsoaa.kind t.board p.toNat:Int)=kindAt B p:=by
  obtain ⟨h0,h1⟩:=h
  have hi:p.toNat<B.provs.length:=by omega
  unfold Vbsoaa.kind kindAt
  rw [R.kinds,List.getD_eq_getElem?_getD,List.getElem?_map,List.getElem?_eq_getElem hi]
  have:=(R.pok _ (List.getElem_mem hi)).1
  simp only [Option.map_some,Option.getD_some]
  omega
theorem Rf.kindN {B:Bd} {t:Table} (R:Rf B t) {p:Int} (h:IsP B p) (k:Nat):Vbsoaa.kind t.board p.toNat=k↔kindAt B p=k:=by
  have:=R.kind h
  omega
theorem Rf.wrong {B:Bd} {t:Table} (R:Rf B t) {f p s:Int} (h:IsP B p) (hf:0≤f∧f≤1):Vbsoag.wrongKind t f p s=wrong B f p s:=by
  unfold Vbsoag.wrongKind Sb.wrong
  have e1:=R.kindN h 1
  have e0:=R.kindN h 0
  by_cases h1:f=1
  · rw [if_pos h1,if_neg (by omega)]
    rw [Bool.eq_iff_iff,beq_iff_eq,decide_eq_true_iff]
    exact e0
  · rw [if_neg h1,if_pos (by omega)]
    rw [Bool.eq_iff_iff,Bool.or_eq_true,Bool.or_eq_true,beq_iff_eq,decide_eq_true_iff,decide_eq_true_iff,bne_iff_ne]
    rw [show (Vbsoaa.kind t.board p.toNat=1↔kindAt B p=1) from e1]
theorem Rf.isP {B:Bd} {t:Table} (R:Rf B t) {p:Int}:Vbsoag.isProv t p=true↔IsP B p:=by
  unfold Vbsoag.isProv Vbsoag.within IsP
  rw [R.n,Bool.and_eq_true,decide_eq_true_iff,decide_eq_true_iff]
  omega
theorem within_iff {x lo hi:Int}:Vbsoag.within x lo hi=true↔lo≤x∧x≤hi:=by
  unfold Vbsoag.within
  rw [Bool.and_eq_true,decide_eq_true_iff,decide_eq_true_iff]
def mProvince (B:Bd) (k c h:Int):Bd×List Int :=
  if 40≤B.provs.length then (B,[-2]) else if c=1∧k=1 then (B,[-3]) else if c=0∧h ≠ -1 then (B,[-3])
  else ({ B with provs:=B.provs++[⟨k,c,h,-1⟩] },[(B.provs.length:Int)])
theorem pairAt_append (l:List (Nat×Nat)) (n x i:Nat):pairAt (l++[(n,x)]) i=(pairAt l i).or (if i=n then some x else none):=by
  unfold pairAt
  rw [List.find?_append]
  cases e:l.find? fun y=>y.1 == i with
  | some y=>rfl
  | none =>
    simp only [Option.none_or,Option.map_none,List.find?_cons,List.find?_nil]
    by_cases h:i=n
    · rw [if_pos h,show (n == i)=true from beq_iff_eq.mpr h.symm];rfl
    · rw [if_neg h,show (n == i)=false from beq_eq_false_iff_ne.mpr (Ne.symm h)];rfl
theorem range_filter_congr {n:Nat} {f g:Nat→Bool} (h:∀i,i<n→f i=g i):(List.range n).filter f=(List.range n).filter g :=
  List.filter_congr fun i hi=>h i (List.mem_range.mp hi)
theorem rf_province {B:Bd} {t:Table} (R:Rf B t) {k c h:Int} (hk:0≤k∧k≤2) (hc:0≤c∧c≤1) (hh:-1≤h∧h≤6) :
    Rf (mProvince B k c h).1 (Vbsoag.step t (.province k c h)).1∧(Vbsoag.step t (.province k c h)).2=(mProvince B k c h).2:=by
  have hr:¬ (Vbsoag.within k 0 2 && (Vbsoag.within c 0 1 && Vbsoag.within h (-1) 6))=false:=by
    rw [within_iff.mpr hk,within_iff.mpr hc,within_iff.mpr hh];decide
  unfold mProvince Vbsoag.step
  dsimp only
  rw [if_neg hr,R.n]
  show (Rf _ (if 40≤B.provs.length then _ else _:Table×List Int).1∧(if 40≤B.provs.length then _ else _:Table×List Int).2=_)
  by_cases h40:40≤B.provs.length
  · rw [if_pos h40,if_pos h40];exact ⟨R,rfl⟩
  rw [if_neg h40,if_neg h40]
  by_cases h3:(c=1∧k=1)∨(c=0∧0≤h)
  · rw [if_pos h3]
    rcases h3 with h3 | h3
    · rw [if_pos h3];exact ⟨R,rfl⟩
    · rw [if_neg (by omega),if_pos (by omega)];exact ⟨R,rfl⟩
  rw [if_neg h3,if_neg (fun q=>h3 (.inl q)),if_neg (fun q=>h3 (.inr (by omega)))]
  refine ⟨?_,rfl⟩
  have hn:∀i,i<B.provs.length→(B.provs++[(⟨k,c,h,-1⟩:Prov)])[i]? = B.provs[i]?:=fun i hi=>List.getElem?_append_left hi
  have hnn:(B.provs++[(⟨k,c,h,-1⟩:Prov)])[B.provs.length]? = some ⟨k,c,h,-1⟩:=by
    rw [List.getElem?_append_right (Nat.le_refl _),Nat.sub_self];rfl
  have hbig:∀i,B.provs.length<i→(B.provs++[(⟨k,c,h,-1⟩:Prov)])[i]? = none:=fun i hi=>by
    rw [List.getElem?_eq_none_iff,List.length_append];show B.provs.length + 1≤i;omega
  have hlen:(B.provs++[(⟨k,c,h,-1⟩:Prov)]).length=B.provs.length + 1:=by rw [List.length_append];rfl
  refine { R with kinds:=?_,pok:=?_,plen:=?_,cen:=?_,hom:=?_,own:=?_,landok:=?_,seaok:=?_,uok:=?_,dok:=?_,bok:=?_,rok:=?_ }
  · show t.board.kinds++[k.toNat]=_
    rw [List.map_append,R.kinds];rfl
  · intro p hp
    rcases List.mem_append.mp hp with q | q
    · exact R.pok p q
    · rw [List.mem_singleton] at q
      subst q
      refine ⟨hk.1,hk.2,?_,hh.1,hh.2,?_,?_,?_⟩
      · show c=0∨c=1;omega
      · show (-1:Int) ≤ -1;omega
      · show (-1:Int)≤6;omega
      · intro (e:c=0)
        exact ⟨(by show h = -1;omega),rfl⟩
  · show (B.provs++_).length≤40;rw [hlen];omega
  · show (if c=1 then t.centres++[B.provs.length] else t.centres)=(List.range (B.provs++[(⟨k,c,h,-1⟩:Prov)]).length).filter _
    rw [hlen,List.range_succ,List.filter_append]
    have e:(List.range B.provs.length).filter (isCen { B with provs:=B.provs++[⟨k,c,h,-1⟩] })=t.centres:=by
      rw [R.cen]
      refine range_filter_congr fun i hi=>?_
      unfold isCen
      show (((B.provs++_)[i]?.map _) == some 1)=_
      rw [hn i hi]
    rw [e,List.filter_cons,List.filter_nil]
    have e2:isCen { B with provs:=B.provs++[⟨k,c,h,-1⟩] } B.provs.length=decide (c=1):=by
      unfold isCen
      show (((B.provs++_)[B.provs.length]?.map _) == some 1)=_
      rw [hnn]
      by_cases hc1:c=1
      · subst hc1;rfl
      · rw [decide_eq_false hc1]
        exact beq_eq_false_iff_ne.mpr fun q=>hc1 (Option.some.inj q)
    rw [e2]
    by_cases hc1:c=1
    · rw [if_pos hc1,if_pos (decide_eq_true hc1)]
    · rw [if_neg hc1,if_neg (by rw [decide_eq_false hc1];decide),List.append_nil]
  · intro i
    show pairAt (if 0≤h then t.homes++[(B.provs.length,h.toNat)] else t.homes) i=((B.provs++[(⟨k,c,h,-1⟩:Prov)])[i]?).bind _
    have e:=R.hom i
    by_cases h0:0≤h
    · rw [if_pos h0,pairAt_append,e]
      rcases Nat.lt_trichotomy i B.provs.length with q | q | q
      · rw [hn i q,if_neg (by omega),Option.or_none]
      · subst q
        rw [hnn,List.getElem?_eq_none_iff.mpr (Nat.le_refl _),if_pos rfl]
        show some h.toNat=if h = -1 then none else some h.toNat
        rw [if_neg (by omega)]
      · rw [hbig i q,List.getElem?_eq_none_iff.mpr (by omega),if_neg (by omega)];rfl
    · rw [if_neg h0,e]
      rcases Nat.lt_trichotomy i B.provs.length with q | q | q
      · rw [hn i q]
      · subst q
        rw [hnn,List.getElem?_eq_none_iff.mpr (Nat.le_refl _)]
        show none=if h = -1 then none else some h.toNat
        rw [if_pos (by omega)]
      · rw [hbig i q,List.getElem?_eq_none_iff.mpr (by omega)]
  · intro i
    show pairAt t.owners i=((B.provs++[(⟨k,c,h,-1⟩:Prov)])[i]?).bind _
    rw [R.own i]
    rcases Nat.lt_trichotomy i B.provs.length with q | q | q
    · rw [hn i q]
    · subst q
      rw [hnn,List.getElem?_eq_none_iff.mpr (Nat.le_refl _)]
      rfl
    · rw [hbig i q,List.getElem?_eq_none_iff.mpr (by omega)]
  · intro x hx;have:=R.landok x hx;show _<(B.provs++_).length∧_<(B.provs++_).length∧_;rw [hlen];omega
  · intro x hx;have:=R.seaok x hx;show _<(B.provs++_).length∧_<(B.provs++_).length∧_;rw [hlen];omega
  · intro x hx;have:=R.uok x hx;show ManOk (B.provs++_).length x;rw [hlen];exact ⟨by have:=this.1;omega,this.2⟩
  · intro x hx
    have:=R.dok x hx
    show DrvOk (B.provs++_).length x
    rw [hlen]
    exact ⟨⟨by have:=this.1.1;omega,this.1.2⟩,fun b hb=>by have:=this.2.1 b hb;omega,fun y hy=>by have:=this.2.2 y hy;omega⟩
  · intro x hx;have:=R.bok x hx;show _<(B.provs++_).length;rw [hlen];omega
  · intro x hx
    have:=R.rok x hx
    show ManOk (B.provs++_).length x∧_
    rw [hlen]
    exact ⟨⟨by have:=this.1.1;omega,this.1.2⟩,this.2⟩
theorem linked_iff {l:List (Nat×Nat)} {x y:Nat}:linked l x y=true↔∃k∈l,(k.1=x∧k.2=y)∨(k.1=y∧k.2=x):=by
  unfold linked
  rw [List.any_eq_true]
  constructor
  · rintro ⟨k,hk,e⟩
    refine ⟨k,hk,?_⟩
    simpa using e
  · rintro ⟨k,hk,e⟩
    refine ⟨k,hk,?_⟩
    simpa using e
theorem landKey_eq {p q a b:Int}:landKey p q=landKey a b↔(p=a∧q=b)∨(p=b∧q=a):=by
  unfold landKey
  constructor
  · intro h
    split at h <;> split at h <;> (rw [Prod.mk.injEq] at h;omega)
  · rintro (⟨rfl,rfl⟩ | ⟨rfl,rfl⟩)
    · rfl
    · by_cases h:p<q
      · rw [if_pos h,if_neg (by omega)]
      · by_cases h2:q<p
        · rw [if_neg h,if_pos h2]
        · have:p=q:=by omega
          subst this;rfl
theorem Rf.landLinked {B:Bd} {t:Table} (R:Rf B t) {p q:Int} (hp:IsP B p) (hq:IsP B q):linked t.board.land p.toNat q.toNat=true↔landKey p q∈B.land:=by
  obtain ⟨hp0,_⟩:=hp
  obtain ⟨hq0,_⟩:=hq
  rw [linked_iff,R.land,List.mem_map]
  constructor
  · rintro ⟨k,hk,h⟩
    refine ⟨k,hk,?_⟩
    unfold lkey
    rw [landKey_eq]
    omega
  · rintro ⟨k,hk,h⟩
    refine ⟨k,hk,?_⟩
    unfold lkey at h
    rw [landKey_eq] at h
    omega
def mLand (B:Bd) (p q:Int):Bd×List Int :=
  if p=q∨kindAt B p=1∨kindAt B q=1 then (B,[-3]) else if landKey p q∈B.land then (B,[-4]) else if 300≤B.land.length then (B,[-2])
  else ({ B with land:=B.land++[landKey p q] },[0])
theorem rf_land {B:Bd} {t:Table} (R:Rf B t) {p q:Int} (hp:IsP B p) (hq:IsP B q) :
    Rf (mLand B p q).1 (Vbsoag.step t (.land p q)).1∧(Vbsoag.step t (.land p q)).2=(mLand B p q).2:=by
  have hr:¬ (Vbsoag.isProv t p && Vbsoag.isProv t q)=false:=by
    rw [R.isP.mpr hp,R.isP.mpr hq];decide
  unfold mLand Vbsoag.step
  dsimp only
  rw [if_neg hr]
  have e1:(p=q∨Vbsoaa.kind t.board p.toNat=1∨Vbsoaa.kind t.board q.toNat=1)↔(p=q∨kindAt B p=1∨kindAt B q=1):=by
    have a:=R.kind hp
    have b:=R.kind hq
    omega
  by_cases h1:p=q∨kindAt B p=1∨kindAt B q=1
  · rw [if_pos h1,if_pos (e1.mpr h1)];exact ⟨R,rfl⟩
  rw [if_neg h1,if_neg (fun z=>h1 (e1.mp z))]
  by_cases h2:landKey p q∈B.land
  · rw [if_pos h2,if_pos ((R.landLinked hp hq).mpr h2)];exact ⟨R,rfl⟩
  rw [if_neg h2,if_neg (fun z=>h2 ((R.landLinked hp hq).mp z))]
  have e3:B.land.length=t.board.land.length:=by rw [R.land,List.length_map]
  rw [e3]
  show Rf _ (if 300≤t.board.land.length then _ else _:Table×List Int).1∧(if 300≤t.board.land.length then _ else _:Table×List Int).2=_
  by_cases h3:300≤t.board.land.length
  · rw [if_pos h3,if_pos h3];exact ⟨R,rfl⟩
  rw [if_neg h3,if_neg h3]
  refine ⟨{ R with land:=?_,landok:=?_,landlen:=?_ },rfl⟩
  · show B.land++[landKey p q]=(t.board.land++[(p.toNat,q.toNat)]).map lkey
    rw [List.map_append,R.land]
    have a:=hp.1
    have b:=hq.1
    show _=_++[landKey (p.toNat:Int) (q.toNat:Int)]
    rw [Int.toNat_of_nonneg a,Int.toNat_of_nonneg b]
  · intro k hk
    rcases List.mem_append.mp hk with z | z
    · exact R.landok k z
    · rw [List.mem_singleton] at z
      subst z
      have a:=hp
      have b:=hq
      unfold IsP at a b
      show p.toNat<B.provs.length∧q.toNat<B.provs.length∧p.toNat≠q.toNat
      omega
  · show (t.board.land++[_]).length≤300
    rw [List.length_append];show _ + 1≤300;omega
theorem seaKey_eq {p s q u a b c d:Int} (hpq:p≠q) (hac:a≠c):seaKey p s q u=seaKey a b c d↔(p=a∧s=b∧q=c∧u=d)∨(p=c∧s=d∧q=a∧u=b):=by
  unfold seaKey
  constructor
  · intro h
    split at h <;> split at h <;> (simp only [Prod.mk.injEq] at h;omega)
  · rintro (⟨rfl,rfl,rfl,rfl⟩ | ⟨rfl,rfl,rfl,rfl⟩)
    · rfl
    · by_cases h:p<q
      · rw [if_pos h,if_neg (by omega)]
      · rw [if_neg h,if_pos (by omega)]
theorem place_div {p s:Nat} (hs:s≤3):place p s / 4=p∧place p s % 4=s:=by
  unfold place
  omega
theorem Rf.seaLinked {B:Bd} {t:Table} (R:Rf B t) {p s q u:Int} (hp:IsP B p) (hq:IsP B q) (hs:0≤s∧s≤3) (hu:0≤u∧u≤3) (hpq:p≠q) :
    linked t.board.sea (place p.toNat s.toNat) (place q.toNat u.toNat)=true↔seaKey p s q u∈B.sea:=by
  have hp0:=hp.1
  have hq0:=hq.1
  have d1:=place_div (p:=p.toNat) (s:=s.toNat) (by omega)
  have d2:=place_div (p:=q.toNat) (s:=u.toNat) (by omega)
  rw [linked_iff,R.sea,List.mem_map]
  constructor
  · rintro ⟨k,hk,h⟩
    refine ⟨k,hk,?_⟩
    have ok:=R.seaok k hk
    unfold skey
    rw [seaKey_eq (by omega) hpq]
    rcases h with ⟨h1,h2⟩ | ⟨h1,h2⟩
    · rw [h1,h2,d1.1,d1.2,d2.1,d2.2];omega
    · rw [h1,h2,d1.1,d1.2,d2.1,d2.2];omega
  · rintro ⟨k,hk,h⟩
    refine ⟨k,hk,?_⟩
    have ok:=R.seaok k hk
    unfold skey at h
    rw [seaKey_eq (by omega) hpq] at h
    unfold place at d1 d2 ⊢
    omega
def mSea (B:Bd) (p s q u:Int):Bd×List Int :=
  if p=q∨kindAt B p=0∨kindAt B q=0 then (B,[-3]) else if seaKey p s q u∈B.sea then (B,[-4]) else if 300≤B.sea.length then (B,[-2])
  else ({ B with sea:=B.sea++[seaKey p s q u] },[0])
theorem rf_sea {B:Bd} {t:Table} (R:Rf B t) {p s q u:Int} (hp:IsP B p) (hq:IsP B q) (hs:0≤s∧s≤3) (hu:0≤u∧u≤3) :
    Rf (mSea B p s q u).1 (Vbsoag.step t (.sea p s q u)).1∧(Vbsoag.step t (.sea p s q u)).2=(mSea B p s q u).2:=by
  have hr:¬ (Vbsoag.isProv t p && (Vbsoag.isProv t q && (Vbsoag.within s 0 3 && Vbsoag.within u 0 3)))=false:=by
    rw [R.isP.mpr hp,R.isP.mpr hq,within_iff.mpr hs,within_iff.mpr hu];decide
  unfold mSea Vbsoag.step
  dsimp only
  rw [if_neg hr]
  have e1:(p=q∨Vbsoaa.kind t.board p.toNat=0∨Vbsoaa.kind t.board q.toNat=0)↔(p=q∨kindAt B p=0∨kindAt B q=0):=by
    have a:=R.kind hp
    have b:=R.kind hq
    omega
  by_cases h1:p=q∨kindAt B p=0∨kindAt B q=0
  · rw [if_pos h1,if_pos (e1.mpr h1)];exact ⟨R,rfl⟩
  rw [if_neg h1,if_neg (fun z=>h1 (e1.mp z))]
  have hpq:p≠q:=fun z=>h1 (.inl z)
  by_cases h2:seaKey p s q u∈B.sea
  · rw [if_pos h2,if_pos ((R.seaLinked hp hq hs hu hpq).mpr h2)];exact ⟨R,rfl⟩
  rw [if_neg h2,if_neg (fun z=>h2 ((R.seaLinked hp hq hs hu hpq).mp z))]
  have e3:B.sea.length=t.board.sea.length:=by rw [R.sea,List.length_map]
  rw [e3]
  show Rf _ (if 300≤t.board.sea.length then _ else _:Table×List Int).1∧(if 300≤t.board.sea.length then _ else _:Table×List Int).2=_
  by_cases h3:300≤t.board.sea.length
  · rw [if_pos h3,if_pos h3];exact ⟨R,rfl⟩
  rw [if_neg h3,if_neg h3]
  have hp0:=hp
  have hq0:=hq
  unfold IsP at hp0 hq0
  have d1:=place_div (p:=p.toNat) (s:=s.toNat) (by omega)
  have d2:=place_div (p:=q.toNat) (s:=u.toNat) (by omega)
  refine ⟨{ R with sea:=?_,seaok:=?_,sealen:=?_ },rfl⟩
  · show B.sea++[seaKey p s q u]=(t.board.sea++[(place p.toNat s.toNat,place q.toNat u.toNat)]).map skey
    rw [List.map_append,R.sea]
    show _=_++[seaKey ((place p.toNat s.toNat / 4:Nat):Int) ((place p.toNat s.toNat % 4:Nat):Int) ((place q.toNat u.toNat / 4:Nat):Int) ((place q.toNat u.toNat % 4:Nat):Int)]
    rw [d1.1,d1.2,d2.1,d2.2,Int.toNat_of_nonneg hp0.1,Int.toNat_of_nonneg hq0.1,Int.toNat_of_nonneg hs.1,Int.toNat_of_nonneg hu.1]
  · intro k hk
    rcases List.mem_append.mp hk with z | z
    · exact R.seaok k z
    · rw [List.mem_singleton] at z
      subst z
      show place p.toNat s.toNat / 4<B.provs.length∧place q.toNat u.toNat / 4<B.provs.length∧place p.toNat s.toNat / 4≠place q.toNat u.toNat / 4
      rw [d1.1,d2.1]
      omega
  · show (t.board.sea++[_]).length≤300
    rw [List.length_append];show _ + 1≤300;omega
end Sb
end
section
namespace Sb
open Vbsoaa (Board Man Men kind place linked manAt)
open Vbsoag (Driven Table putIn putMan putOut pairAt provinces outAt)
def mMan (B:Bd) (w f p s:Int):Bd×List Int :=
  if wrong B f p s=true then (B,[-3]) else if (look B.units p).isSome=true then (B,[-4]) else if 24≤B.units.length + B.driven.length then (B,[-2])
  else ({ B with units:=B.units++[(p,⟨w,f,p,s⟩)],raises:=[],drops:=[] },[0])
theorem Rf.isMan {B:Bd} {t:Table} (R:Rf B t) {p:Int} (hp:0≤p):Vbsoag.isMan t p=(Sb.look B.units p).isSome:=by
  unfold Vbsoag.isMan
  rw [R.look,if_pos hp,Option.isSome_map]
theorem untOf_unit {w f p s:Int} (hw:0≤w) (hf:0≤f∧f≤1) (hp:0≤p) (hs:0≤s):encMan (Vbsoag.unit w f p s)=(p,⟨w,f,p,s⟩):=by
  unfold encMan untOf Vbsoag.unit
  dsimp only
  rw [Int.toNat_of_nonneg hw,Int.toNat_of_nonneg hp,Int.toNat_of_nonneg hs]
  by_cases h:f=1
  · subst h;rfl
  · have:f=0:=by omega
    subst this;rfl
theorem rf_man {B:Bd} {t:Table} (R:Rf B t) {w f p s:Int} (hw:0≤w∧w≤6) (hf:0≤f∧f≤1) (hp:IsP B p) (hs:0≤s∧s≤3) :
    Rf (mMan B w f p s).1 (Vbsoag.step t (.man w f p s)).1∧(Vbsoag.step t (.man w f p s)).2=(mMan B w f p s).2:=by
  have hr:¬ (Vbsoag.isPower w && (Vbsoag.within f 0 1 && (Vbsoag.isProv t p && Vbsoag.within s 0 3)))=false:=by
    rw [R.isP.mpr hp,show Vbsoag.isPower w=true from within_iff.mpr hw,within_iff.mpr hs,within_iff.mpr hf];decide
  unfold mMan Vbsoag.step
  dsimp only
  rw [if_neg hr,R.wrong hp hf]
  by_cases h1:wrong B f p s=true
  · rw [if_pos h1,if_pos h1];exact ⟨R,rfl⟩
  rw [if_neg h1,if_neg h1,R.isMan hp.1]
  by_cases h2:(look B.units p).isSome=true
  · rw [if_pos h2,if_pos h2];exact ⟨R,rfl⟩
  rw [if_neg h2,if_neg h2,R.ulen,R.dlen]
  show Rf _ (if 24≤t.men.length + t.out.length then _ else _:Table×List Int).1∧(if 24≤t.men.length + t.out.length then _ else _:Table×List Int).2=_
  by_cases h3:24≤t.men.length + t.out.length
  · rw [if_pos h3,if_pos h3];exact ⟨R,rfl⟩
  rw [if_neg h3,if_neg h3]
  have hfree:∀x∈t.men,x.prov≠(Vbsoag.unit w f p s).prov:=by
    have e:manAt t.men p.toNat=none:=by
      rw [R.look,if_pos hp.1,Option.isSome_map] at h2
      cases e:manAt t.men p.toNat with
      | none=>rfl
      | some m=>rw [e] at h2;exact absurd rfl h2
    exact manAt_none.mp e
  have hp':=hp
  unfold IsP at hp'
  have ok:ManOk B.provs.length (Vbsoag.unit w f p s):=⟨(by show p.toNat<_;omega),(by show w.toNat≤6;omega),(by show s.toNat≤3;omega)⟩
  have R':=R.forget
  refine ⟨{ R' with units:=?_,usort:=?_,uok:=?_,few:=?_,rfew:=?_,rok:=fun _ h=>(nomatch h),xok:=fun _ h=>(nomatch h) },rfl⟩
  · show (B.units++[_]).Perm ((putMan _ t.men).map encMan)
    refine List.Perm.trans (List.perm_append_singleton ..) (List.Perm.trans ?_ ((putMan_perm _ t.men).map encMan).symm)
    rw [List.map_cons,untOf_unit hw.1 hf hp.1 hs.1]
    exact R.units.cons _
  · exact putMan_sort R.usort hfree
  · intro m hm
    rcases List.mem_cons.mp ((putMan_perm _ t.men).mem_iff.mp hm) with z | z
    · rw [z];exact ok
    · exact R.uok m z
  · show (putMan _ t.men).length + t.out.length≤24
    rw [(putMan_perm _ t.men).length_eq,List.length_cons];omega
  · show (putMan _ t.men).length + 0≤24
    rw [(putMan_perm _ t.men).length_eq,List.length_cons];omega
def centreAt (B:Bd) (p:Int):Int:=(B.provs[p.toNat]?.map (·.centre)).getD 0
def setOwner (l:List Prov) (i:Nat) (w:Int):List Prov:=l.modify i fun p=>{ p with owner:=w }
def mOwner (B:Bd) (p w:Int):Bd×List Int :=
  if centreAt B p=0 then (B,[-3]) else ({ B with provs:=setOwner B.provs p.toNat w,raises:=[],drops:=[] },[0])
theorem setOwner_at (l:List Prov) (i:Nat) (w:Int) (j:Nat):(setOwner l i w)[j]? = if i=j then l[j]?.map (fun p=>{ p with owner:=w }) else l[j]?:=by
  unfold setOwner
  rw [List.getElem?_modify]
  split
  · rfl
  · simp
theorem setOwner_len (l:List Prov) (i:Nat) (w:Int):(setOwner l i w).length=l.length:=by
  unfold setOwner
  rw [List.length_modify]
theorem Rf.isCen {B:Bd} {t:Table} (R:Rf B t) (i:Nat):t.centres.contains i=Sb.isCen B i:=by
  rw [R.cen,Bool.eq_iff_iff,List.contains_iff_mem,List.mem_filter,List.mem_range]
  constructor
  · exact fun h=>h.2
  · intro h
    refine ⟨?_,h⟩
    unfold Sb.isCen at h
    by_cases hi:i<B.provs.length
    · exact hi
    · rw [List.getElem?_eq_none_iff.mpr (by omega)] at h;cases h
theorem Rf.centre {B:Bd} {t:Table} (R:Rf B t) {p:Int} (hp:IsP B p):t.centres.contains p.toNat=false↔centreAt B p=0:=by
  rw [R.isCen]
  unfold Sb.isCen centreAt
  unfold IsP at hp
  have hi:p.toNat<B.provs.length:=by omega
  rw [List.getElem?_eq_getElem hi]
  have:=(R.pok _ (List.getElem_mem hi)).2.2.1
  simp only [Option.map_some,Option.getD_some]
  rw [beq_eq_false_iff_ne]
  constructor
  · intro h
    rcases this with z | z
    · exact z
    · rw [z] at h;exact absurd rfl h
  · intro h z
    rw [h] at z;exact absurd (Option.some.inj z) (by decide)
theorem pairAt_filter (l:List (Nat×Nat)) (p i:Nat):pairAt (l.filter fun x=>x.1 != p) i=if i=p then none else pairAt l i:=by
  unfold pairAt
  rw [List.find?_filter]
  by_cases h:i=p
  · rw [if_pos h,Option.map_eq_none_iff,List.find?_eq_none]
    intro x _ e
    rw [decide_eq_true_iff,bne_iff_ne,beq_iff_eq] at e
    exact e.1 (e.2.trans h)
  · rw [if_neg h]
    congr 2
    funext x
    rw [Bool.eq_iff_iff,decide_eq_true_iff,bne_iff_ne,beq_iff_eq]
    exact ⟨fun z=>z.2,fun z=>⟨by omega,z⟩⟩
theorem Rf.setProvs {B:Bd} {t:Table} (R:Rf B t) (i:Nat) (w:Int) (hw:-1≤w∧w≤6) (hc:Sb.isCen B i=true) {os:List (Nat×Nat)} (ho:∀j,pairAt os j=if j=i then (if w = -1 then none else some w.toNat) else pairAt t.owners j) :
    Rf { B with provs:=setOwner B.provs i w } { t with owners:=os }:=by
  have hi:i<B.provs.length:=by
    unfold Sb.isCen at hc
    by_cases hi:i<B.provs.length
    · exact hi
    · rw [List.getElem?_eq_none_iff.mpr (by omega)] at hc;cases hc
  have hl:=setOwner_len B.provs i w
  refine { R with kinds:=?_,pok:=?_,plen:=?_,cen:=?_,hom:=?_,own:=?_,landok:=?_,seaok:=?_,uok:=?_,dok:=?_,bok:=?_,rok:=?_ }
  · show t.board.kinds=(setOwner B.provs i w).map _
    rw [R.kinds]
    refine List.ext_getElem? fun j=>?_
    rw [List.getElem?_map,List.getElem?_map,setOwner_at]
    split
    · rw [Option.map_map];rfl
    · rfl
  · intro p hp
    obtain ⟨j,hj⟩:=List.mem_iff_getElem?.mp hp
    rw [show (setOwner B.provs i w)[j]? = _ from setOwner_at ..] at hj
    split at hj
    · rename_i e
      subst e
      rw [Option.map_eq_some_iff] at hj
      obtain ⟨x,hx,rfl⟩:=hj
      have ok:=R.pok x (List.mem_of_getElem? hx)
      refine ⟨ok.1,ok.2.1,ok.2.2.1,ok.2.2.2.1,ok.2.2.2.2.1,hw.1,hw.2,fun e=>?_⟩
      unfold Sb.isCen at hc
      rw [hx] at hc
      have e':x.centre=0:=e
      rw [show (Option.map (fun (x:Prov)=>x.centre) (some x))=some x.centre from rfl,e'] at hc
      cases hc
    · exact R.pok p (List.mem_of_getElem? hj)
  · show (setOwner B.provs i w).length≤40;rw [hl];exact R.plen
  · show t.centres=(List.range (setOwner B.provs i w).length).filter _
    rw [hl,R.cen]
    refine range_filter_congr fun j hj=>?_
    unfold Sb.isCen
    show _=(((setOwner B.provs i w)[j]?.map _) == some 1)
    rw [setOwner_at]
    split
    · rw [Option.map_map];rfl
    · rfl
  · intro j
    show _=((setOwner B.provs i w)[j]?).bind _
    rw [setOwner_at,R.hom j]
    split
    · cases B.provs[j]? <;> rfl
    · rfl
  · intro j
    show pairAt os j=((setOwner B.provs i w)[j]?).bind _
    rw [setOwner_at,ho j]
    by_cases e:i=j
    · subst e
      rw [if_pos rfl,if_pos rfl,List.getElem?_eq_getElem hi]
      rfl
    · rw [if_neg (Ne.symm e),if_neg e,R.own j]
  · intro x hx;show _<(setOwner B.provs i w).length∧_<(setOwner B.provs i w).length∧_;rw [hl];exact R.landok x hx
  · intro x hx;show _<(setOwner B.provs i w).length∧_<(setOwner B.provs i w).length∧_;rw [hl];exact R.seaok x hx
  · intro x hx;show ManOk (setOwner B.provs i w).length x;rw [hl];exact R.uok x hx
  · intro x hx;show DrvOk (setOwner B.provs i w).length x;rw [hl];exact R.dok x hx
  · intro x hx;show _<(setOwner B.provs i w).length;rw [hl];exact R.bok x hx
  · intro x hx;show ManOk (setOwner B.provs i w).length x∧_;rw [hl];exact R.rok x hx
theorem rf_owner {B:Bd} {t:Table} (R:Rf B t) {p w:Int} (hp:IsP B p) (hw:-1≤w∧w≤6) :
    Rf (mOwner B p w).1 (Vbsoag.step t (.owner p w)).1∧(Vbsoag.step t (.owner p w)).2=(mOwner B p w).2:=by
  have hr:¬ (Vbsoag.isProv t p && Vbsoag.within w (-1) 6)=false:=by
    rw [R.isP.mpr hp,within_iff.mpr hw];decide
  unfold mOwner Vbsoag.step
  dsimp only
  rw [if_neg hr]
  by_cases h1:centreAt B p=0
  · rw [if_pos h1,if_pos ((R.centre hp).mpr h1)];exact ⟨R,rfl⟩
  rw [if_neg h1,if_neg (fun z=>h1 ((R.centre hp).mp z))]
  have hc:Sb.isCen B p.toNat=true:=by
    rw [← R.isCen]
    cases e:t.centres.contains p.toNat with
    | true=>rfl
    | false=>exact absurd ((R.centre hp).mp e) h1
  refine ⟨(R.forget).setProvs p.toNat w hw hc fun j=>?_,rfl⟩
  show pairAt (t.owners.filter (fun x=>x.1 != p.toNat)++(if 0≤w then [(p.toNat,w.toNat)] else [])) j=_
  by_cases h0:0≤w
  · rw [if_pos h0,pairAt_append,pairAt_filter]
    by_cases e:j=p.toNat
    · rw [if_pos e,if_pos e,if_pos e,if_neg (by omega)];rfl
    · rw [if_neg e,if_neg e,if_neg e,Option.or_none]
  · rw [if_neg h0,List.append_nil,pairAt_filter]
    by_cases e:j=p.toNat
    · rw [if_pos e,if_pos e,if_pos (by omega)]
    · rw [if_neg e,if_neg e]
def mDriven (B:Bd) (w f p s b:Int):Bd×List Int :=
  if wrong B f p s=true then (B,[-3]) else if (look B.driven p).isSome=true then (B,[-4]) else if 24≤B.units.length + B.driven.length then (B,[-2])
  else ({ B with driven:=B.driven++[(p,⟨⟨w,f,p,s⟩,b,0,none⟩)],raises:=[],drops:=[] },[0])
theorem Rf.outSome {B:Bd} {t:Table} (R:Rf B t) {p:Int} (hp:0≤p):(outAt t p.toNat).isSome=(Sb.look B.driven p).isSome:=by
  rw [R.lookD,if_pos hp,Option.isSome_map]
theorem rf_driven {B:Bd} {t:Table} (R:Rf B t) {w f p s b:Int} (hw:0≤w∧w≤6) (hf:0≤f∧f≤1) (hp:IsP B p) (hs:0≤s∧s≤3) (hb:-1≤b∧b<B.provs.length) :
    Rf (mDriven B w f p s b).1 (Vbsoag.step t (.driven w f p s b)).1∧(Vbsoag.step t (.driven w f p s b)).2=(mDriven B w f p s b).2:=by
  have hr:¬ (Vbsoag.isPower w && (Vbsoag.within f 0 1 && (Vbsoag.isProv t p && (Vbsoag.within s 0 3 && (b == -1 || Vbsoag.isProv t b)))))=false:=by
    have e:(b == -1 || Vbsoag.isProv t b)=true:=by
      unfold Vbsoag.isProv
      rw [isProvN,R.n]
      exact within_iff.mpr ⟨hb.1,by omega⟩
    rw [R.isP.mpr hp,show Vbsoag.isPower w=true from within_iff.mpr hw,within_iff.mpr hs,within_iff.mpr hf,e];decide
  unfold mDriven Vbsoag.step
  dsimp only
  rw [if_neg hr,R.wrong hp hf]
  by_cases h1:wrong B f p s=true
  · rw [if_pos h1,if_pos h1];exact ⟨R,rfl⟩
  rw [if_neg h1,if_neg h1,R.outSome hp.1]
  by_cases h2:(look B.driven p).isSome=true
  · rw [if_pos h2,if_pos h2];exact ⟨R,rfl⟩
  rw [if_neg h2,if_neg h2,R.ulen,R.dlen]
  show Rf _ (if 24≤t.men.length + t.out.length then _ else _:Table×List Int).1∧(if 24≤t.men.length + t.out.length then _ else _:Table×List Int).2=_
  by_cases h3:24≤t.men.length + t.out.length
  · rw [if_pos h3,if_pos h3];exact ⟨R,rfl⟩
  rw [if_neg h3,if_neg h3]
  have hfree:∀x∈t.out,x.man.prov≠(Vbsoag.unit w f p s).prov:=by
    have e:outIn t.out p.toNat=none:=by
      rw [← R.outSome hp.1] at h2
      cases e:outAt t p.toNat with
      | none=>exact e
      | some m=>rw [e] at h2;exact absurd rfl h2
    exact outIn_none.mp e
  have hp':=hp
  unfold IsP at hp'
  have ok:DrvOk B.provs.length { man:=Vbsoag.unit w f p s,by_:=if b<0 then none else some b.toNat }:=by
    refine ⟨⟨(by show p.toNat<_;omega),(by show w.toNat≤6;omega),(by show s.toNat≤3;omega)⟩,fun y hy=>?_,fun x hx=>nomatch hx⟩
    have hy:(if b<0 then none else some b.toNat)=some y:=hy
    by_cases q:b<0
    · rw [if_pos q] at hy;cases hy
    · rw [if_neg q] at hy;cases hy;omega
  have enc:encOut { man:=Vbsoag.unit w f p s,by_:=if b<0 then none else some b.toNat }=(p,⟨⟨w,f,p,s⟩,b,0,none⟩):=by
    have e:=untOf_unit hw.1 hf hp.1 hs.1
    unfold encMan at e
    obtain ⟨e1,e2⟩:=Prod.mk.inj e
    unfold encOut drvOf
    dsimp only
    rw [e1,e2]
    congr 2
    by_cases q:b<0
    · rw [if_pos q];show (-1:Int)=b;omega
    · rw [if_neg q];show ((b.toNat:Nat):Int)=b;omega
  have R':=R.forget
  refine ⟨{ R' with driven:=?_,dsort:=?_,dok:=?_,few:=?_ },rfl⟩
  · show (B.driven++[_]).Perm ((putOut _ t.out).map encOut)
    refine List.Perm.trans (List.perm_append_singleton ..) (List.Perm.trans ?_ ((putOut_perm _ t.out).map encOut).symm)
    rw [List.map_cons,enc]
    exact R.driven.cons _
  · exact putOut_sort R.dsort hfree
  · intro m hm
    rcases List.mem_cons.mp ((putOut_perm _ t.out).mem_iff.mp hm) with z | z
    · rw [z];exact ok
    · exact R.dok m z
  · show t.men.length + (putOut _ t.out).length≤24
    rw [(putOut_perm _ t.out).length_eq,List.length_cons];omega
def mBar (B:Bd) (p:Int):Bd×List Int :=
  if p∈B.barred then (B,[(B.barred.length:Int)]) else ({ B with barred:=B.barred++[p] },[((B.barred.length + 1:Nat):Int)])
theorem rf_bar {B:Bd} {t:Table} (R:Rf B t) {p:Int} (hp:IsP B p) :
    Rf (mBar B p).1 (Vbsoag.step t (.bar p)).1∧(Vbsoag.step t (.bar p)).2=(mBar B p).2:=by
  have hr:¬ Vbsoag.isProv t p=false:=by
    rw [R.isP.mpr hp];decide
  unfold mBar Vbsoag.step
  dsimp only
  rw [if_neg hr]
  have hm:=mem_nats R.barred p
  by_cases h:p∈B.barred
  · rw [if_pos h,putIn_same R.bsort (hm.mp h).2]
    refine ⟨R,?_⟩
    show [((t.barred.length:Nat):Int)]=_
    rw [perm_len R.barred]
  · rw [if_neg h]
    have hn:p.toNat∉t.barred:=fun q=>h (hm.mpr ⟨hp.1,q⟩)
    have pm:=putIn_perm hn
    refine ⟨{ R with barred:=?_,bsort:=putIn_sort R.bsort,bok:=?_ },?_⟩
    · show (B.barred++[p]).Perm ((putIn p.toNat t.barred).map Int.ofNat)
      refine List.Perm.trans (List.perm_append_singleton ..) (List.Perm.trans ?_ (pm.map _).symm)
      rw [List.map_cons,show Int.ofNat p.toNat=p from Int.toNat_of_nonneg hp.1]
      exact R.barred.cons _
    · intro x hx
      have hp':=hp
      unfold IsP at hp'
      rcases putIn_mem.mp hx with z | z
      · show _<B.provs.length;omega
      · exact R.bok x z
    · show [(((putIn p.toNat t.barred).length:Nat):Int)]=_
      rw [pm.length_eq,List.length_cons,perm_len R.barred]
def orderD (l:List (Int×Drv)) (p:Int) (o:Int) (g:Option (Int×Int)):List (Int×Drv):=l.map fun x=>if x.1=p then (x.1,{ x.2 with order:=o,goal:=g }) else x
theorem Rf.ordered {B:Bd} {t:Table} (R:Rf B t) {p:Int} (hp:0≤p) (o:Option (Nat×Nat)) (ho:∀x,o=some x→x.1<B.provs.length∧x.2≤3) :
    Rf { B with driven:=orderD B.driven p (ordC (some o)) (goalC (some o)) } (Vbsoag.ordered t p.toNat o):=by
  refine { R with driven:=?_,dsort:=?_,dok:=?_,few:=?_ }
  · show (B.driven.map _).Perm ((t.out.map _).map encOut)
    refine (R.driven.map _).trans (List.Perm.of_eq ?_)
    rw [List.map_map,List.map_map]
    refine List.map_congr_left fun d hd=>?_
    show (if (encOut d).1=p then _ else _)=encOut (if d.man.prov=p.toNat then _ else _)
    by_cases h:d.man.prov=p.toNat
    · rw [if_pos (show (encOut d).1=p by show (d.man.prov:Int)=p;omega),if_pos h];rfl
    · rw [if_neg (show ¬ (encOut d).1=p by show ¬ (d.man.prov:Int)=p;omega),if_neg h]
  · show (t.out.map _).Pairwise _
    rw [List.pairwise_map]
    refine R.dsort.imp fun {a b} q=>?_
    have e:∀d:Driven,(if d.man.prov=p.toNat then { d with order:=some o } else d).man=d.man:=fun d=>by split <;> rfl
    rw [e,e];exact q
  · intro d hd
    obtain ⟨x,hx,rfl⟩:=List.mem_map.mp hd
    have ok:=R.dok x hx
    split
    · exact ⟨ok.1,ok.2.1,fun y hy=>ho y (Option.some.inj hy)⟩
    · exact ok
  · show t.men.length + (t.out.map _).length≤24
    rw [List.length_map];exact R.few
def mLeave (B:Bd) (p:Int):Bd×List Int :=
  if (look B.driven p).isSome=true then ({ B with driven:=orderD B.driven p 2 none },[0]) else (B,[-5])
theorem rf_leave {B:Bd} {t:Table} (R:Rf B t) {p:Int} (hp:IsP B p) :
    Rf (mLeave B p).1 (Vbsoag.step t (.leave p)).1∧(Vbsoag.step t (.leave p)).2=(mLeave B p).2:=by
  have hr:¬ Vbsoag.isProv t p=false:=by
    rw [R.isP.mpr hp];decide
  unfold mLeave Vbsoag.step
  dsimp only
  rw [if_neg hr,← R.outSome hp.1]
  cases e:outAt t p.toNat with
  | none=>exact ⟨R,rfl⟩
  | some d=>exact ⟨R.ordered hp.1 none fun x hx=>(nomatch hx),rfl⟩
def mayEnter (B:Bd) (d:Drv) (q:Int):Bool:=!(decide (q=d.unit.prov) || decide (q=d.origin)) && (!decide (q∈B.barred) && (look B.units q).isNone)
def reached (B:Bd) (u:Unt) (q:Int):List (Int×Int) :=
  if u.fleet=1 then (([0,1,2,3]:List Int).filter fun s=>decide (seaKey u.prov u.shore q s∈B.sea)).map fun s=>(q,s)
  else if kindAt B q=1∨¬ landKey u.prov q∈B.land then [] else [(q,0)]
def mChoices (B:Bd) (d:Drv):List (Int×Int):=(List.range B.provs.length).flatMap fun (q:Nat)=>if mayEnter B d q=true then reached B d.unit q else []
def intP (x:Nat×Nat):Int×Int:=(x.1,x.2)
theorem filter_flatMap {α β:Type} (l:List α) (p:α→Bool) (f:α→List β):(l.filter p).flatMap f=l.flatMap fun x=>if p x=true then f x else []:=by
  induction l with
  | nil=>rfl
  | cons a l ih =>
    rw [List.filter_cons,List.flatMap_cons]
    split
    · rw [List.flatMap_cons,ih]
    · rw [ih];rfl
theorem Rf.choices {B:Bd} {t:Table} (R:Rf B t) {d:Driven} (hd:d∈t.out):(Vbsoag.choices t d).map intP=mChoices B (drvOf d):=by
  have ok:=R.dok d hd
  unfold Vbsoag.choices mChoices
  rw [filter_flatMap,List.map_flatMap,show provinces t=List.range B.provs.length by unfold provinces;rw [R.n]]
  rw [List.flatMap_def,List.flatMap_def]
  congr 1
  refine List.map_congr_left fun q hq=>?_
  have hq':=List.mem_range.mp hq
  have e1:(q != d.man.prov && Vbsoag.open_ t d q)=mayEnter B (drvOf d) (q:Int):=by
    unfold Vbsoag.open_ mayEnter
    have a1:(q != d.man.prov) = !decide ((q:Int)=(drvOf d).unit.prov):=by
      rw [Bool.eq_iff_iff,bne_iff_ne,Bool.not_eq_true',decide_eq_false_iff_not]
      show ¬ q=d.man.prov↔¬ (q:Int)=(d.man.prov:Int)
      omega
    have a2:(manAt t.men q).isNone=(Sb.look B.units (q:Int)).isNone:=by
      rw [R.look,if_pos (by omega),Option.isNone_map,show ((q:Int)).toNat=q from rfl]
    have a3:(!t.barred.contains q) = !decide ((q:Int)∈B.barred):=by
      congr 1
      rw [Bool.eq_iff_iff,List.contains_iff_mem,decide_eq_true_iff,mem_nats R.barred]
      exact ⟨fun h=>⟨by omega,h⟩,fun h=>h.2⟩
    have a4:∀c:Bool,(∀b,d.by_=some b→c=(b != q))→(d.by_=none→c=true)→c = !decide ((q:Int)=(drvOf d).origin):=by
      intro c c1 c2
      show _ = !decide ((q:Int)=encBy d.by_)
      cases hb:d.by_ with
      | none =>
        rw [c2 hb]
        show true = !decide ((q:Int) = -1)
        rw [decide_eq_false (by omega)];rfl
      | some b =>
        rw [c1 b hb]
        show (b != q) = !decide ((q:Int)=(b:Int))
        rw [Bool.eq_iff_iff,bne_iff_ne,Bool.not_eq_true',decide_eq_false_iff_not]
        omega
    rw [a1,a2,a3]
    refine Eq.trans (congrArg (fun c:Bool=>(!decide ((q:Int)=(drvOf d).unit.prov) && ((Sb.look B.units (q:Int)).isNone && (!decide ((q:Int)∈B.barred) && c)))) (a4 _ (fun b hb=>?_) (fun hb=>?_))) ?_
    · rw [hb]
    · rw [hb]
    generalize decide ((q:Int)=(drvOf d).unit.prov)=c1
    generalize decide ((q:Int)=(drvOf d).origin)=c2
    generalize (Sb.look B.units (q:Int)).isNone=c3
    generalize decide ((q:Int)∈B.barred)=c4
    revert c1 c2 c3 c4
    decide
  rw [e1]
  by_cases hm:mayEnter B (drvOf d) (q:Int)=true
  · rw [if_pos hm,if_pos hm]
    have hne:(d.man.prov:Int)≠(q:Int):=by
      unfold mayEnter at hm
      rw [Bool.and_eq_true,Bool.not_eq_true',Bool.or_eq_false_iff,decide_eq_false_iff_not] at hm
      exact fun e=>hm.1.1 e.symm
    have hp1:IsP B (d.man.prov:Int):=⟨by omega,by have:=ok.1.1;omega⟩
    have hq1:IsP B (q:Int):=⟨by omega,by omega⟩
    unfold reached
    by_cases hf:d.man.fleet=true
    · have hf':(drvOf d).unit.fleet=1:=by show (if d.man.fleet=true then (1:Int) else 0)=1;rw [if_pos hf]
      rw [if_pos hf,if_pos hf',List.map_map]
      show ((([0,1,2,3]:List Nat).filter _).map _)=((([0,1,2,3]:List Nat).map Int.ofNat).filter _).map _
      rw [List.filter_map,List.map_map]
      have:∀s∈([0,1,2,3]:List Nat),linked t.board.sea (place d.man.prov d.man.shore) (place q s)=decide (seaKey (drvOf d).unit.prov (drvOf d).unit.shore (q:Int) (Int.ofNat s)∈B.sea):=by
        intro s hs
        have hs3:s≤3:=by simp at hs;omega
        rw [Bool.eq_iff_iff,decide_eq_true_iff]
        have:=R.seaLinked (p:=d.man.prov) (s:=d.man.shore) (q:=q) (u:=s) hp1 hq1 ⟨by omega,by have:=ok.1.2.2;omega⟩ ⟨by omega,by omega⟩ hne
        exact this
      rw [List.filter_congr this]
      rfl
    · have hf':¬ (drvOf d).unit.fleet=1:=by show ¬ (if d.man.fleet=true then (1:Int) else 0)=1;rw [if_neg hf];decide
      rw [if_neg hf,if_neg hf']
      have ek:=R.kindN hq1 1
      have el:=R.landLinked hp1 hq1
      by_cases hc:kindAt B (q:Int)=1∨¬ landKey (drvOf d).unit.prov (q:Int)∈B.land
      · rw [if_pos hc,if_neg]
        · rfl
        · intro z
          rw [Bool.and_eq_true,bne_iff_ne] at z
          rcases hc with hc | hc
          · exact z.1 (ek.mpr hc)
          · exact hc (el.mp z.2)
      · rw [if_neg hc,if_pos]
        · rfl
        · rw [Bool.and_eq_true,bne_iff_ne]
          exact ⟨fun z=>hc (.inl (ek.mp z)),el.mpr (Decidable.byContradiction fun z=>hc (.inr z))⟩
  · rw [if_neg hm,if_neg hm];rfl
theorem intP_inj {a b:Nat×Nat} (h:intP a=intP b):a=b:=by
  obtain ⟨a1,a2⟩:=a
  obtain ⟨b1,b2⟩:=b
  unfold intP at h
  rw [Prod.mk.injEq] at h
  dsimp only at h
  rw [Prod.mk.injEq]
  omega
def flatP (l:List (Int×Int)):List Int:=l.flatMap fun x=>[x.1,x.2]
def mChoose (B:Bd) (p:Int):List Int:=match look B.driven p with
  | none=>[-5]
  | some d=>((mChoices B d).length:Int)::flatP (mChoices B d)
theorem outAt_mem {t:Table} {p:Nat} {d:Driven} (h:outAt t p=some d):d∈t.out∧d.man.prov=p:=by
  unfold outAt at h
  exact ⟨List.mem_of_find?_eq_some h,by have:=List.find?_some h;rwa [beq_iff_eq] at this⟩
theorem rf_choices {B:Bd} {t:Table} (R:Rf B t) {p:Int} (hp:IsP B p) :
    (Vbsoag.step t (.choices p)).1=t∧(Vbsoag.step t (.choices p)).2=mChoose B p:=by
  have hr:¬ Vbsoag.isProv t p=false:=by
    rw [R.isP.mpr hp];decide
  unfold mChoose Vbsoag.step
  dsimp only
  rw [if_neg hr,R.lookD,if_pos hp.1]
  cases e:outAt t p.toNat with
  | none=>exact ⟨rfl,rfl⟩
  | some d =>
    refine ⟨rfl,?_⟩
    dsimp only [Option.map_some]
    rw [← R.choices (outAt_mem e).1]
    unfold Vbsoag.rows Vbsoag.ints flatP
    rw [List.map_cons,List.length_map,List.length_map,List.flatMap_map,List.map_flatten,List.map_map,List.flatMap_def]
    rfl
def mGo (B:Bd) (p q s:Int):Bd×List Int:=match look B.driven p with
  | none=>(B,[-5])
  | some d=>if (q,s)∈mChoices B d then ({ B with driven:=orderD B.driven p 1 (some (q,s)) },[0]) else (B,[-6])
theorem rf_go {B:Bd} {t:Table} (R:Rf B t) {p q s:Int} (hp:IsP B p) (hq:IsP B q) (hs:0≤s∧s≤3) :
    Rf (mGo B p q s).1 (Vbsoag.step t (.go p q s)).1∧(Vbsoag.step t (.go p q s)).2=(mGo B p q s).2:=by
  have hr:¬ (Vbsoag.isProv t p && (Vbsoag.isProv t q && Vbsoag.within s 0 3))=false:=by
    rw [R.isP.mpr hp,R.isP.mpr hq,within_iff.mpr hs];decide
  unfold mGo Vbsoag.step
  dsimp only
  rw [if_neg hr,R.lookD,if_pos hp.1]
  cases e:outAt t p.toNat with
  | none=>exact ⟨R,rfl⟩
  | some d =>
    dsimp only [Option.map_some]
    have hq':=hq
    unfold IsP at hq'
    have hm:(Vbsoag.choices t d).contains (q.toNat,s.toNat)=true↔(q,s)∈mChoices B (drvOf d):=by
      rw [List.contains_iff_mem,← R.choices (outAt_mem e).1,List.mem_map]
      have ee:intP (q.toNat,s.toNat)=(q,s):=by
        unfold intP
        dsimp only
        rw [Int.toNat_of_nonneg hq'.1,Int.toNat_of_nonneg hs.1]
      constructor
      · exact fun h=>⟨_,h,ee⟩
      · rintro ⟨x,hx,h⟩
        rw [← ee] at h
        rwa [← intP_inj h]
    by_cases hc:(q,s)∈mChoices B (drvOf d)
    · have ht:¬ (Vbsoag.choices t d).contains (q.toNat,s.toNat)=false:=by rw [hm.mpr hc];decide
      rw [if_neg ht,if_pos hc]
      refine ⟨?_,rfl⟩
      have:=R.ordered hp.1 (some (q.toNat,s.toNat)) fun x hx=>by
        cases hx
        show q.toNat<_∧s.toNat≤3
        omega
      have eg:goalC (some (some (q.toNat,s.toNat)))=some (q,s):=by
        show some (((q.toNat:Nat):Int),((s.toNat:Nat):Int))=_
        rw [Int.toNat_of_nonneg hq'.1,Int.toNat_of_nonneg hs.1]
      rw [eg] at this
      exact this
    · have:(Vbsoag.choices t d).contains (q.toNat,s.toNat)=false:=by
        cases z:(Vbsoag.choices t d).contains (q.toNat,s.toNat) with
        | false=>rfl
        | true=>exact absurd (hm.mp z) hc
      rw [if_pos this,if_neg hc]
      exact ⟨R,rfl⟩
end Sb
end
section
namespace Sb
open Vbsoaa (Board Man Men kind place linked manAt)
open Vbsoag (Driven Table putIn putMan putOut pairAt provinces outAt)
theorem strict_eq {α:Type} {r:α→α→Prop} (irr:∀a,¬ r a a) (tr:∀a b c,r a b→r b c→r a c):∀{l m:List α},l.Pairwise r→m.Pairwise r→(∀x,x∈l↔x∈m)→l=m
  | [],[],_,_,_=>rfl
  | [],b::m,_,_,h=>nomatch (h b).mpr List.mem_cons_self
  | a::l,[],_,_,h=>nomatch (h a).mp List.mem_cons_self
  | a::l,b::m,hl,hm,h=>by
    have hl':=List.pairwise_cons.mp hl
    have hm':=List.pairwise_cons.mp hm
    have e:a=b:=by
      rcases List.mem_cons.mp ((h a).mp List.mem_cons_self) with e | e
      · exact e
      rcases List.mem_cons.mp ((h b).mpr List.mem_cons_self) with e2 | e2
      · exact e2.symm
      exact absurd (tr _ _ _ (hm'.1 a e) (hl'.1 b e2)) (irr b)
    subst e
    rw [strict_eq irr tr hl'.2 hm'.2 fun x=>?_]
    constructor
    · intro hx
      rcases List.mem_cons.mp ((h x).mp (List.mem_cons_of_mem _ hx)) with e | e
      · subst e;exact absurd (hl'.1 x hx) (irr x)
      · exact e
    · intro hx
      rcases List.mem_cons.mp ((h x).mpr (List.mem_cons_of_mem _ hx)) with e | e
      · subst e;exact absurd (hm'.1 x hx) (irr x)
      · exact e
theorem ints_eq {l m:List Int} (hl:l.Pairwise (· < ·)) (hm:m.Pairwise (· < ·)) (h:∀x,x∈l↔x∈m):l=m :=
  strict_eq (fun _=>Int.lt_irrefl _) (fun _ _ _=>Int.lt_trans) hl hm h
theorem mem_sorted {x:Nat}:∀{l:List Nat},x∈Vbsoag.sorted l↔x∈l
  | []=>by simp [Vbsoag.sorted]
  | a::l=>by
    show x∈putIn a (Vbsoag.sorted l)↔_
    rw [putIn_mem,mem_sorted (l:=l),List.mem_cons]
theorem sorted_sort:∀l:List Nat,(Vbsoag.sorted l).Pairwise (· < ·)
  | []=>.nil
  | a::l=>putIn_sort (sorted_sort l)
theorem manAt_of_mem {l:Men} (hs:l.Pairwise fun a b=>a.prov<b.prov) {m:Man} (hm:m∈l):manAt l m.prov=some m:=by
  cases e:manAt l m.prov with
  | none=>exact absurd rfl (manAt_none.mp e m hm)
  | some x =>
    obtain ⟨hx,hp⟩:=manAt_some e
    congr 1
    clear e
    induction l with
    | nil=>cases hm
    | cons a l ih =>
      have hs':=List.pairwise_cons.mp hs
      rcases List.mem_cons.mp hm with e1 | e1
      · rcases List.mem_cons.mp hx with e2 | e2
        · rw [e1,e2]
        · have:=hs'.1 x e2;rw [← e1] at this;omega
      · rcases List.mem_cons.mp hx with e2 | e2
        · have:=hs'.1 m e1;rw [← e2] at this;omega
        · exact ih hs'.2 e1 e2
theorem outIn_some {l:List Driven} {p:Nat} {m:Driven} (h:outIn l p=some m):m∈l∧m.man.prov=p:=by
  unfold outIn at h
  exact ⟨List.mem_of_find?_eq_some h,by have:=List.find?_some h;rwa [beq_iff_eq] at this⟩
theorem outIn_of_mem {l:List Driven} (hs:l.Pairwise fun a b=>a.man.prov<b.man.prov) {m:Driven} (hm:m∈l):outIn l m.man.prov=some m:=by
  cases e:outIn l m.man.prov with
  | none=>exact absurd rfl (outIn_none.mp e m hm)
  | some x =>
    obtain ⟨hx,hp⟩:=outIn_some e
    congr 1
    clear e
    induction l with
    | nil=>cases hm
    | cons a l ih =>
      have hs':=List.pairwise_cons.mp hs
      rcases List.mem_cons.mp hm with e1 | e1
      · rcases List.mem_cons.mp hx with e2 | e2
        · rw [e1,e2]
        · have:=hs'.1 x e2;rw [← e1] at this;omega
      · rcases List.mem_cons.mp hx with e2 | e2
        · have:=hs'.1 m e1;rw [← e2] at this;omega
        · exact ih hs'.2 e1 e2
theorem putMen_perm:∀(xs l:Men),(xs.foldr putMan l).Perm (xs++l)
  | [],_=>.refl _
  | x::xs,l=>(putMan_perm x _).trans ((putMen_perm xs l).cons x)
theorem putMen_sort:∀{xs l:Men},(l.Pairwise fun a b=>a.prov<b.prov)→(xs.Pairwise fun a b=>a.prov≠b.prov)→(∀x∈xs,∀y∈l,y.prov≠x.prov)→(xs.foldr putMan l).Pairwise fun a b=>a.prov<b.prov
  | [],_,h,_,_=>h
  | x::xs,l,h,hx,hn=>by
    have hx':=List.pairwise_cons.mp hx
    refine putMan_sort (putMen_sort h hx'.2 fun y hy=>hn y (List.mem_cons_of_mem _ hy)) fun y hy=>?_
    rcases List.mem_append.mp ((putMen_perm xs l).mem_iff.mp hy) with z | z
    · exact (hx'.1 y z).symm
    · exact hn x List.mem_cons_self y z
abbrev K3:=Nat×Nat×Nat
def ltK (a b:K3):Prop:=a.1<b.1∨(a.1=b.1∧(a.2.1<b.2.1∨(a.2.1=b.2.1∧a.2.2<b.2.2)))
theorem lessKey_iff {a b:K3}:Vbsoag.lessKey a b=true↔ltK a b:=by
  unfold Vbsoag.lessKey ltK
  simp
theorem ltK_irr (a:K3):¬ ltK a a:=by unfold ltK;omega
theorem ltK_tr (a b c:K3):ltK a b→ltK b c→ltK a c:=by unfold ltK;omega
theorem ltK_tot {a b:K3} (h:a.2.2≠b.2.2):ltK a b∨ltK b a:=by unfold ltK;omega
theorem putBy_perm (x:K3×Nat):∀l:List (K3×Nat),(Vbsoag.putBy x l).Perm (x::l)
  | []=>.refl _
  | y::l=>by
    unfold Vbsoag.putBy
    split
    · exact .refl _
    · exact ((putBy_perm x l).cons y).trans (.swap ..)
theorem putBy_sort {x:K3×Nat}:∀{l:List (K3×Nat)},(l.Pairwise fun a b=>ltK a.1 b.1)→(∀y∈l,y.1.2.2≠x.1.2.2)→(Vbsoag.putBy x l).Pairwise fun a b=>ltK a.1 b.1
  | [],_,_=>by unfold Vbsoag.putBy;exact List.pairwise_singleton ..
  | y::l,h,hn=>by
    have h':=List.pairwise_cons.mp h
    unfold Vbsoag.putBy
    by_cases e:Vbsoag.lessKey x.1 y.1=true
    · rw [if_pos e]
      rw [lessKey_iff] at e
      refine List.pairwise_cons.mpr ⟨fun z hz=>?_,h⟩
      rcases List.mem_cons.mp hz with q | q
      · rw [q];exact e
      · exact ltK_tr _ _ _ e (h'.1 z q)
    · rw [if_neg e]
      rw [lessKey_iff] at e
      refine List.pairwise_cons.mpr ⟨fun z hz=>?_,putBy_sort h'.2 fun z hz=>hn z (List.mem_cons_of_mem _ hz)⟩
      rcases List.mem_cons.mp ((putBy_perm x l).mem_iff.mp hz) with q | q
      · rw [q];exact (ltK_tot (hn y List.mem_cons_self)).resolve_right e
      · exact h'.1 z q
theorem putBys_perm:∀l:List (K3×Nat),(l.foldr Vbsoag.putBy []).Perm l
  | []=>.refl _
  | x::l=>(putBy_perm x _).trans ((putBys_perm l).cons x)
theorem putBys_sort:∀{l:List (K3×Nat)},(l.Pairwise fun a b=>a.1.2.2≠b.1.2.2)→(l.foldr Vbsoag.putBy []).Pairwise fun a b=>ltK a.1 b.1
  | [],_=>.nil
  | x::l,h=>by
    have h':=List.pairwise_cons.mp h
    exact putBy_sort (putBys_sort h'.2) fun y hy=>(h'.1 y ((putBys_perm l).mem_iff.mp hy)).symm
theorem disorder_of {t:Table} {w:Nat} (hs:t.men.Pairwise fun a b=>a.prov<b.prov) {l:Men} (hl:l.Pairwise fun a b=>ltK (Vbsoag.key t a) (Vbsoag.key t b)) (hm:∀m,m∈l↔m∈Vbsoag.unitsOf t w) :
    Vbsoag.disorder t w=l.map (·.prov):=by
  have hu:(Vbsoag.unitsOf t w).Pairwise fun a b=>a.prov<b.prov:=hs.filter _
  have e:((Vbsoag.unitsOf t w).map fun m=>(Vbsoag.key t m,m.prov)).foldr Vbsoag.putBy []=l.map fun m=>(Vbsoag.key t m,m.prov):=by
    refine strict_eq (r:=fun a b:K3×Nat=>ltK a.1 b.1) (fun a=>ltK_irr _) (fun a b c=>ltK_tr _ _ _) (putBys_sort ?_) ?_ fun x=>?_
    · rw [List.pairwise_map]
      exact hu.imp fun {a b} h=>show a.prov≠b.prov by omega
    · rw [List.pairwise_map];exact hl
    · rw [(putBys_perm _).mem_iff,List.mem_map,List.mem_map]
      constructor
      · rintro ⟨m,h1,h2⟩;exact ⟨m,(hm m).mpr h1,h2⟩
      · rintro ⟨m,h1,h2⟩;exact ⟨m,(hm m).mp h1,h2⟩
  unfold Vbsoag.disorder
  rw [e,List.map_map]
  rfl
def grown (b:Board) (n:Nat) (l:List Nat):Nat→List Nat
  | 0=>l
  | k + 1=>Vbsoag.widen b n (grown b n l k)
theorem far_spec {b:Board} {n p:Nat}:∀(k d:Nat) (l:List Nat),
    (∀j,j≤k→p∈grown b n l j→(∀i,i<j→p∉grown b n l i)→Vbsoag.far b n p k d l=some (d + j))∧((∀j,j≤k→p∉grown b n l j)→Vbsoag.far b n p k d l=none)
  | 0,d,l=>by
    constructor
    · intro j hj hp _
      have:j=0:=by omega
      subst this
      unfold Vbsoag.far
      rw [if_pos (show l.contains p=true from List.contains_iff_mem.mpr hp)];rfl
    · intro h
      unfold Vbsoag.far
      rw [if_neg (fun z:l.contains p=true=>h 0 (Nat.le_refl _) (List.contains_iff_mem.mp z))]
  | k + 1,d,l=>by
    have hg:∀j,grown b n l (j + 1)=grown b n (Vbsoag.widen b n l) j:=by
      intro j
      induction j with
      | zero=>rfl
      | succ j ih=>show Vbsoag.widen b n (grown b n l (j + 1))=_;rw [ih];rfl
    obtain ⟨h1,h2⟩:=far_spec (b:=b) (n:=n) (p:=p) k (d + 1) (Vbsoag.widen b n l)
    unfold Vbsoag.far
    constructor
    · intro j hj hp hi
      cases j with
      | zero=>rw [if_pos (show l.contains p=true from List.contains_iff_mem.mpr hp)];rfl
      | succ j =>
        rw [if_neg (fun z:l.contains p=true=>hi 0 (Nat.succ_pos _) (List.contains_iff_mem.mp z))]
        rw [h1 j (by omega) (by rw [← hg];exact hp) fun i hij=>by rw [← hg];exact hi (i + 1) (by omega)]
        congr 1;omega
    · intro h
      rw [if_neg (fun z:l.contains p=true=>h 0 (Nat.zero_le _) (List.contains_iff_mem.mp z))]
      exact h2 fun j hj=>by rw [← hg];exact h (j + 1) (by omega)
theorem mem_widen {b:Board} {n:Nat} {l:List Nat} {q:Nat}:q∈Vbsoag.widen b n l↔q<n∧(q∈l∨∃p∈l,Vbsoag.beside b p q=true):=by
  unfold Vbsoag.widen
  rw [List.mem_filter,List.mem_range,Bool.or_eq_true,List.contains_iff_mem,List.any_eq_true]
theorem grown_mono {b:Board} {n:Nat} {l:List Nat} (hl:∀p∈l,p<n):∀{i j:Nat},i≤j→∀p∈grown b n l i,p∈grown b n l j:=by
  have lt:∀i,∀p∈grown b n l i,p<n:=by
    intro i
    cases i with
    | zero=>exact hl
    | succ i=>exact fun p hp=>(mem_widen.mp hp).1
  intro i j hij p hp
  induction j with
  | zero=>rwa [show i=0 by omega] at hp
  | succ j ih =>
    by_cases e:i≤j
    · exact mem_widen.mpr ⟨lt j p (ih e),.inl (ih e)⟩
    · rwa [show i=j + 1 by omega] at hp
theorem filter_le {α:Type} {f g:α→Bool}:∀{l:List α},(∀x∈l,f x=true→g x=true)→(l.filter f).length≤(l.filter g).length
  | [],_=>Nat.le_refl _
  | a::l,h=>by
    have ih:=filter_le (l:=l) fun x hx=>h x (List.mem_cons_of_mem _ hx)
    rw [List.filter_cons,List.filter_cons]
    by_cases e:f a=true
    · rw [if_pos e,if_pos (h a List.mem_cons_self e),List.length_cons,List.length_cons];omega
    · rw [if_neg e]
      split
      · rw [List.length_cons];omega
      · exact ih
theorem filter_lt {α:Type} {f g:α→Bool} {a:α} (ha:f a=false) (hb:g a=true):∀{l:List α},(∀x∈l,f x=true→g x=true)→a∈l→(l.filter f).length<(l.filter g).length
  | [],_,h=>nomatch h
  | b::l,h,hm=>by
    have hr:∀x∈l,f x=true→g x=true:=fun x hx=>h x (List.mem_cons_of_mem _ hx)
    rw [List.filter_cons,List.filter_cons]
    rcases List.mem_cons.mp hm with e | e
    · subst e
      rw [if_neg (by rw [ha];decide),if_pos hb,List.length_cons]
      have:=filter_le hr
      omega
    · have ih:=filter_lt ha hb hr e
      by_cases e2:f b=true
      · rw [if_pos e2,if_pos (h b List.mem_cons_self e2),List.length_cons,List.length_cons];omega
      · rw [if_neg e2]
        split
        · rw [List.length_cons];omega
        · exact ih
theorem grown_lt {b:Board} {n:Nat} {l:List Nat} (hl:∀p∈l,p<n) (i:Nat):∀p∈grown b n l i,p<n:=by
  cases i with
  | zero=>exact hl
  | succ i=>exact fun p hp=>(mem_widen.mp hp).1
theorem grown_before {b:Board} {n:Nat} {l:List Nat} (hl:∀p∈l,p<n) {j p:Nat} (hp:p∈grown b n l (j + 1)) (hn:p∉grown b n l j) :
    ∃q,q∈grown b n l j∧(∀i,i<j→q∉grown b n l i)∧Vbsoag.beside b q p=true:=by
  obtain ⟨h1,h2⟩:=mem_widen.mp hp
  obtain ⟨q,hq,hb⟩:=h2.resolve_left hn
  refine ⟨q,hq,fun i hi hqi=>hn ?_,hb⟩
  exact grown_mono hl (show i + 1≤j by omega) p (mem_widen.mpr ⟨h1,.inr ⟨q,hqi,hb⟩⟩)
def cnt (b:Board) (n:Nat) (l:List Nat) (j:Nat):Nat:=((List.range n).filter fun p=>(grown b n l j).contains p).length
theorem grown_cnt {b:Board} {n:Nat} {l:List Nat} (hl:∀p∈l,p<n):∀(j p:Nat),p∈grown b n l j→(∀i,i<j→p∉grown b n l i)→j + 1≤cnt b n l j
  | 0,p,hp,_=>by
    refine Nat.succ_le_of_lt (List.length_pos_of_mem (a:=p) ?_)
    exact List.mem_filter.mpr ⟨List.mem_range.mpr (hl p hp),List.contains_iff_mem.mpr hp⟩
  | j + 1,p,hp,hn=>by
    have hnj:=hn j (Nat.lt_succ_self _)
    obtain ⟨q,hq,hqn,_⟩:=grown_before hl hp hnj
    have ih:=grown_cnt hl j q hq hqn
    have lt:cnt b n l j<cnt b n l (j + 1):=by
      refine filter_lt (a:=p) ?_ ?_ ?_ ?_
      · cases e:(grown b n l j).contains p with
        | false=>rfl
        | true=>exact absurd (List.contains_iff_mem.mp e) hnj
      · exact List.contains_iff_mem.mpr hp
      · intro x _ hx
        exact List.contains_iff_mem.mpr (grown_mono hl (Nat.le_succ j) x (List.contains_iff_mem.mp hx))
      · exact List.mem_range.mpr (grown_lt hl _ p hp)
    omega
theorem grown_few {b:Board} {n:Nat} {l:List Nat} (hl:∀p∈l,p<n) {j p:Nat} (hp:p∈grown b n l j) (hn:∀i,i<j→p∉grown b n l i):j<n:=by
  have h1:=grown_cnt hl j p hp hn
  have h2:cnt b n l j≤n:=by
    have:=List.length_filter_le (fun p=>(grown b n l j).contains p) (List.range n)
    rw [List.length_range] at this
    exact this
  omega
theorem far_some {b:Board} {n:Nat} {l:List Nat} (hl:∀p∈l,p<n) {j p:Nat} (hp:p∈grown b n l j) (hn:∀i,i<j→p∉grown b n l i):Vbsoag.far b n p n 0 l=some j:=by
  have:=(far_spec (b:=b) (n:=n) (p:=p) n 0 l).1 j (Nat.le_of_lt (grown_few hl hp hn)) hp hn
  rwa [Nat.zero_add] at this
theorem far_none {b:Board} {n:Nat} {l:List Nat} {p:Nat} (h:∀j,p∉grown b n l j):Vbsoag.far b n p n 0 l=none :=
  (far_spec (b:=b) (n:=n) (p:=p) n 0 l).2 fun j _=>h j
end Sb
end
section
namespace L2
open PySem PySem.Spec PyProof.Rows
abbrev Key:=Sum Int Str
def keyIs:Key→Value→Bool
  | .inl k,v=>Value.isInt k v
  | .inr x,v=>Value.isStrOf x v
def keyH (w:World):Key→Int
  | .inl k=>hashInt k
  | .inr x=>hashStr w x
theorem keyIs_shape:∀{k:Key} {v:Value},keyIs k v=true→(∃i t,k=Sum.inl i∧v=Value.int i t)∨(∃x t,k=Sum.inr x∧v=Value.str x t)
  | .inl i,v,h=>by
    obtain ⟨t,e⟩:=Value.isInt_shape (k:=i) (v:=v) h
    exact .inl ⟨i,t,rfl,e⟩
  | .inr x,v,h=>by
    obtain ⟨t,e⟩:=Value.isStrOf_shape (x:=x) (v:=v) h
    exact .inr ⟨x,t,rfl,e⟩
theorem keyIs_int (i:Int) (t:Tok):keyIs (.inl i) (.int i t)=true:=by simp [keyIs,Value.isInt]
theorem keyIs_str (x:Str) (t:Tok):keyIs (.inr x) (.str x t)=true:=by simp [keyIs,Value.isStrOf]
theorem key_ll (a b:Int):decide ((Sum.inl a:Key)=Sum.inl b)=(a == b):=by
  by_cases e:a=b
  · subst e;simp
  · have h:¬ (Sum.inl a:Key)=Sum.inl b:=fun q=>e (Sum.inl.inj q)
    rw [decide_eq_false h]
    exact (beq_eq_false_iff_ne.mpr e).symm
theorem key_rr (a b:Str):decide ((Sum.inr a:Key)=Sum.inr b)=decide (a=b):=by
  by_cases e:a=b
  · subst e;simp
  · have h:¬ (Sum.inr a:Key)=Sum.inr b:=fun q=>e (Sum.inr.inj q)
    rw [decide_eq_false h,decide_eq_false e]
theorem key_lr (a:Int) (b:Str):decide ((Sum.inl a:Key)=Sum.inr b)=false:=decide_eq_false (fun q=>nomatch q)
theorem key_rl (a:Str) (b:Int):decide ((Sum.inr a:Key)=Sum.inl b)=false:=decide_eq_false (fun q=>nomatch q)
def mixKind (prog:Program) (w:World):PySem.KeyKind prog w Key where
  is:=keyIs
  hash:=keyH w
  inj:=fun v a b ha hb=>by
    rcases keyIs_shape ha with ⟨i,t,rfl,rfl⟩ | ⟨x,t,rfl,rfl⟩
    · rcases keyIs_shape hb with ⟨j,u,rfl,e⟩ | ⟨y,u,rfl,e⟩
      · injection e with e1 _;rw [e1]
      · exact nomatch e
    · rcases keyIs_shape hb with ⟨j,u,rfl,e⟩ | ⟨y,u,rfl,e⟩
      · exact nomatch e
      · injection e with e1 _;rw [e1]
  byValue:=fun k v h=>by
    rcases keyIs_shape h with ⟨i,t,rfl,rfl⟩ | ⟨x,t,rfl,rfl⟩ <;> rfl
  pyHash:=fun hv h=>by
    rcases keyIs_shape hv with ⟨i,t,rfl,rfl⟩ | ⟨x,t,rfl,rfl⟩
    · exact wpAny_pyHash_int h
    · exact wpAny_pyHash_str h
  eqBool:=fun hu hv h=>by
    rcases keyIs_shape hu with ⟨i,t,rfl,rfl⟩ | ⟨x,t,rfl,rfl⟩
    · rcases keyIs_shape hv with ⟨j,u,rfl,rfl⟩ | ⟨y,u,rfl,rfl⟩
      · rw [key_ll] at h;exact wpAny_eqBool_int h
      · rw [key_lr] at h;exact SeqAt.EqAt.int_str i t y u _ _ _ _ h
    · rcases keyIs_shape hv with ⟨j,u,rfl,rfl⟩ | ⟨y,u,rfl,rfl⟩
      · rw [key_rl] at h;exact SeqAt.EqAt.str_int x t j u _ _ _ _ h
      · rw [key_rr] at h;exact wpAny_eqBool_str h
  «strs»:=fun k x t v h=>by
    rcases keyIs_shape h with ⟨i,u,rfl,e⟩ | ⟨y,u,rfl,e⟩
    · exact nomatch e
    · injection e with e1 _
      subst e1
      cases v <;> rfl
theorem mixKind_int (prog:Program) (w:World) (i:Int) (t:Tok):(mixKind prog w).is (.inl i) (.int i t)=true:=keyIs_int i t
theorem mixKind_str (prog:Program) (w:World) (x:Str) (t:Tok):(mixKind prog w).is (.inr x) (.str x t)=true:=keyIs_str x t
end L2
namespace L2
open PySem PySem.Spec PyProof.Rows
inductive V where
  | non | bl (b:Bool) | int (i:Int) | str (x:Str) | byt (b:Array UInt8) | flt (b:UInt64) | ref (a:Addr) | ty (n:String)
  deriving DecidableEq
def RelV:V→Value→Prop
  | .non,u=>u=Value.none
  | .bl b,u=>u=Value.bool b
  | .int i,u=>∃t,u=Value.int i t
  | .str x,u=>∃t,u=Value.str x t
  | .byt b,u=>∃t,u=Value.bytes b t
  | .flt b,u=>∃t,u=Value.float b t
  | .ref a,u=>u=Value.ref a
  | .ty n,u=>u=Value.type n
abbrev Vals:List V→List Value→Prop:=Paired RelV
theorem Vals.length {xs:List V} {us:List Value} (r:Vals xs us):xs.length=us.length:=Paired.length r
theorem Vals.get:∀{xs:List V} {us:List Value} {i:Nat} {x:V},Vals xs us→xs[i]? = some x→∃u,us[i]? = some u∧RelV x u
  | _,_,_,_,.nil,e=>by simp at e
  | _,_,0,_,.cons r _,e=>by simp at e;subst e;exact ⟨_,rfl,r⟩
  | _,_,i + 1,x,.cons _ t,e=>by
    obtain ⟨u,h1,h2⟩:=Vals.get (i:=i) (x:=x) t (by simpa using e)
    exact ⟨u,by simpa using h1,h2⟩
theorem Vals.append:∀{xs ys:List V} {us ws:List Value},Vals xs us→Vals ys ws→Vals (xs++ys) (us++ws)
  | _,_,_,_,.nil,s=>s
  | _,_,_,_,.cons r t,s=>.cons r (Vals.append t s)
theorem Vals.take:∀{xs:List V} {us:List Value} (n:Nat),Vals xs us→Vals (xs.take n) (us.take n)
  | _,_,0,_=>.nil
  | _,_,_ + 1,.nil=>.nil
  | _,_,n + 1,.cons r t=>.cons r (Vals.take n t)
theorem Vals.drop:∀{xs:List V} {us:List Value} (n:Nat),Vals xs us→Vals (xs.drop n) (us.drop n)
  | _,_,0,r=>r
  | _,_,_ + 1,.nil=>.nil
  | _,_,n + 1,.cons _ t=>Vals.drop n t
def RelO:Option V→Option Value→Prop
  | some v,some u=>RelV v u
  | none,none=>True
  | _,_=>False
def KV {κ:Type}:List (κ × V)→List (κ × Value)→Prop:=Paired fun (p:κ × V) (q:κ × Value)=>p.1=q.1∧RelV p.2 q.2
def kV:Key→V
  | .inl i=>.int i
  | .inr x=>.str x
inductive HO where
  | lst (xs:List V)
  | tup (xs:List V)
  | dK (kvs:List (Key×V)) | dT (kvs:List (List Key×V))
  | set (S:Int→Bool) (n:Nat)
  | ins (C dx:Addr) (fs:List (Str×V))
  | own (x:Addr)
  | xd (fs:List (Str×V))
  | met (f x:Addr)
  | rng (lo hi:Int)
  | frz (o:Obj) (u:HO)
  | tbl (ps:Array Value)
  | ext (φ:Heap→Prop)
abbrev Hp:=Addr→Option HO
def upd (H:Hp) (a:Addr) (o:HO):Hp:=fun b=>if b=a then some o else H b
theorem upd_same {H:Hp} {a:Addr} {o:HO}:upd H a o a=some o:=by unfold upd;rw [if_pos rfl]
theorem upd_ne {H:Hp} {a b:Addr} {o:HO} (h:b≠a):upd H a o b=H b:=by unfold upd;rw [if_neg h]
theorem upd_upd {H:Hp} {a:Addr} {o u:HO}:upd (upd H a o) a u=upd H a u:=by
  funext b;unfold upd;split <;> rfl
theorem ne_of {H:Hp} {a b:Addr} {o u:HO} (h:H a=some o) (h':H b=some u) (d:o≠u):a≠b:=by
  intro e;subst e;rw [h] at h';exact d (Option.some.inj h')
theorem ne_of_none {H:Hp} {a b:Addr} {o:HO} (h:H a=some o) (h':H b=none):a≠b:=by
  intro e;subst e;rw [h] at h';cases h'
section
variable (P:Program) (w:World)
def ObjOk (H:Hp) (h:Heap) (a:Addr):HO→Prop
  | .lst xs=>xs.length≤sizeLine∧∃(its:List Value) (n:Nat),Vals xs its∧h.get? a=some { cls:=.type "list", data:=.seq its.toArray n }
  | .tup xs=>xs.length≤sizeLine∧∃its:List Value,Vals xs its∧IsTup h a its.toArray
  | .dK kvs=>kvs.length≤sizeLine∧(a == sysModules)=false∧∃vs,KV kvs vs∧h.DictOf (mixKind P w) a vs
  | .dT kvs=>kvs.length≤sizeLine∧(a == sysModules)=false∧∃xs:List (List Key×Addr×Value),
      Paired (fun (p:List Key×V) (q:List Key×Addr×Value)=>p.1=q.1∧H q.2.1=some (.tup (p.1.map kV))∧RelV p.2 q.2.2) kvs xs ∧
      ∃o es ep,h.get? a=some o∧o.ExactDict∧o.data=.dict es ep∧es.toList=xs.map (entryOfKey (tupleKind (mixKind P w)))∧(xs.map (·.1)).Nodup
  | .set S n=>h.SetOf (intKind P w) a S n
  | .ins C dx fs=>H dx=some (.own a)∧fs.length≤1000∧dx≠a∧h.get? a=some (PySem.W.instObj C dx) ∧
      ∃mA,h.Ns1 dx mA∧(∀f,RelO (fs.lookup f) (mA f))∧PySem.Within mA (fs.map (·.1))
  | .own _=>∃o,h.get? a=some o
  | .xd fs=>∃mA,h.Ns1 a mA∧∀f,RelO (fs.lookup f) (mA f)
  | .rng lo hi=>∃t u v,h.get? a=some { cls:=.type "range", data:=.fields #[.int lo t,.int hi u,.int 1 v] }
  | .frz o u=>h.get? a=some o∧ObjOk H h a u
  | .tbl ps=>h.get? a=some { cls:=.none,data:=.fields ps }
  | .met f x=>h.get? a=some (PySem.W.methodObj (.ref f) (.ref x))
  | .ext φ=>φ h∧(∃o,h.get? a=some o)∧∀h1 h2:Heap,φ h1→(∀o,h1.get? a=some o→h2.get? a=some o)→φ h2
def HOk (H:Hp) (h:Heap):Prop:=∀a o,H a=some o→ObjOk P w H h a o
end
section
variable {P:Program} {w:World} {H H':Hp} {h h':Heap} {a:Addr} {o:HO}
theorem ObjOk.lt (x:ObjOk P w H h a o):a<h.objs.size:=by
  cases o with
  | lst xs=>obtain ⟨_,_,_,_,e⟩:=x;exact Heap.lt_size e
  | tup xs=>obtain ⟨_,_,_,p⟩:=x;exact p.lt
  | dK kvs=>obtain ⟨_,_,_,_,o,_,_,e,_⟩:=x;exact Heap.lt_size e
  | dT kvs=>obtain ⟨_,_,_,_,o,_,_,e,_⟩:=x;exact Heap.lt_size e
  | set S n=>obtain ⟨o,_,_,_,e,_⟩:=x;exact Heap.lt_size e
  | ins C dx fs=>obtain ⟨_,_,_,e,_⟩:=x;exact Heap.lt_size e
  | own y=>obtain ⟨_,e⟩:=x;exact Heap.lt_size e
  | xd fs=>obtain ⟨_,⟨_,_,_,e,_⟩,_⟩:=x;exact Heap.lt_size e
  | rng lo hi=>obtain ⟨_,_,_,e⟩:=x;exact Heap.lt_size e
  | frz ob u=>obtain ⟨e,_⟩:=x;exact Heap.lt_size e
  | tbl ps=>exact Heap.lt_size (show h.get? a=some _ from x)
  | met f y=>exact Heap.lt_size (show h.get? a=some _ from x)
  | ext φ=>obtain ⟨_,⟨_,e⟩,_⟩:=x;exact Heap.lt_size e
theorem Paired.mapP {α β:Type} {F G:α→β→Prop}:∀{l₁:List α} {l₂:List β},Paired F l₁ l₂→(∀a b,F a b→G a b)→Paired G l₁ l₂
  | _,_,.nil,_=>.nil
  | _,_,.cons r t,f=>.cons (f _ _ r) (Paired.mapP t f)
theorem ObjOk.stay (x:ObjOk P w H h a o) (k:∀b u,(b=a∨H b=some (.own a))→h.get? b=some u→h'.get? b=some u)
    (ho:∀b,H b=some (.own a)→H' b=some (.own a)) (ht:∀b xs,H b=some (.tup xs)→H' b=some (.tup xs)):ObjOk P w H' h' a o:=by
  induction o with
  | lst xs=>obtain ⟨z,its,n,r,e⟩:=x;exact ⟨z,its,n,r,k _ _ (.inl rfl) e⟩
  | tup xs=>obtain ⟨z,its,r,ob,e,c⟩:=x;exact ⟨z,its,r,ob,k _ _ (.inl rfl) e,c⟩
  | dK kvs=>obtain ⟨z,y,vs,r,ob,es,ep,e,c⟩:=x;exact ⟨z,y,vs,r,ob,es,ep,k _ _ (.inl rfl) e,c⟩
  | dT kvs =>
    obtain ⟨z,y,xs,r,ob,es,ep,e,c⟩:=x
    exact ⟨z,y,xs,Paired.mapP r fun p q z=>⟨z.1,ht _ _ z.2.1,z.2.2⟩,ob,es,ep,k _ _ (.inl rfl) e,c⟩
  | set S n=>obtain ⟨ob,es,ep,t,e,c⟩:=x;exact ⟨ob,es,ep,t,k _ _ (.inl rfl) e,c⟩
  | ins C dx fs =>
    obtain ⟨d,z,ne,e,mA,⟨od,es,ep,e2,c⟩,r⟩:=x
    exact ⟨ho _ d,z,ne,k _ _ (.inl rfl) e,mA,⟨od,es,ep,k _ _ (.inr d) e2,c⟩,r⟩
  | own y=>obtain ⟨ob,e⟩:=x;exact ⟨ob,k _ _ (.inl rfl) e⟩
  | xd fs=>obtain ⟨mA,⟨od,es,ep,e,c⟩,r⟩:=x;exact ⟨mA,⟨od,es,ep,k _ _ (.inl rfl) e,c⟩,r⟩
  | rng lo hi=>obtain ⟨t,u,v,e⟩:=x;exact ⟨t,u,v,k _ _ (.inl rfl) e⟩
  | frz ob u ih=>obtain ⟨e,q⟩:=x;exact ⟨k _ _ (.inl rfl) e,ih q⟩
  | tbl ps =>
    have e:h.get? a=some { cls:=.none,data:=.fields ps }:=x
    show h'.get? a=some { cls:=.none,data:=.fields ps }
    exact k a _ (.inl rfl) e
  | met f y =>
    have e:h.get? a=some (PySem.W.methodObj (.ref f) (.ref y)):=x
    show h'.get? a=some (PySem.W.methodObj (.ref f) (.ref y))
    exact k a _ (.inl rfl) e
  | ext φ=>obtain ⟨p,⟨o,e⟩,st⟩:=x;exact ⟨st _ _ p fun o q=>k _ _ (.inl rfl) q,⟨o,k _ _ (.inl rfl) e⟩,st⟩
theorem HOk.lt (x:HOk P w H h) (e:H a=some o):a<h.objs.size:=(x a o e).lt
theorem HOk.fresh (x:HOk P w H h) (e:h.objs.size≤a):H a=none:=by
  cases q:H a with
  | none=>rfl
  | some u=>exact absurd (Nat.lt_of_lt_of_le (x.lt q) e) (Nat.lt_irrefl _)
theorem HOk.kept (x:HOk P w H h) (k:∀b u,h.get? b=some u→h'.get? b=some u):HOk P w H h':=fun a o e =>
  (x a o e).stay (fun b u _ q=>k b u q) (fun _ q=>q) fun _ _ q=>q
theorem HOk.laid (x:HOk P w H h) (k:∀b u,h.get? b=some u→h'.get? b=some u) (hp:h.objs.size≤a) (new:ObjOk P w (upd H a o) h' a o):HOk P w (upd H a o) h':=fun b u e=>by
  have hn:=x.fresh hp
  by_cases hb:b=a
  · subst hb;rw [upd_same] at e;cases e;exact new
  · rw [upd_ne hb] at e
    exact (x b u e).stay (fun c v _ q=>k c v q) (fun c q=>by rw [upd_ne (ne_of_none q hn)];exact q) fun c xs q=>by rw [upd_ne (ne_of_none q hn)];exact q
end
def Rd (H:Hp) (a:Addr) (u:HO):Prop:=H a=some u∨∃o,H a=some (.frz o u)
theorem Rd.ok {P:Program} {w:World} {H:Hp} {h:Heap} {a:Addr} {u:HO} (r:Rd H a u) (x:HOk P w H h):ObjOk P w H h a u:=by
  rcases r with r | ⟨o,r⟩
  · exact x a u r
  · obtain ⟨_,q⟩:=x a _ r
    exact q
def Mut:Option HO→Prop
  | some (.lst _)=>True
  | some (.dK _)=>True
  | some (.dT _)=>True
  | some (.set _ _)=>True
  | some (.ins _ _ _)=>True
  | some (.ext _)=>True
  | _=>False
section
variable {P:Program} {w:World} {H:Hp} {h h':Heap} {x e:Addr} {o':HO}
theorem HOk.write (ok:HOk P w H h) (mu:Mut (H x)) (he:e=x∨H e=some (.own x)) (k:∀b u,b≠e→h.get? b=some u→h'.get? b=some u) (heo:∃u,h'.get? e=some u)
    (new:ObjOk P w (upd H x o') h' x o'):HOk P w (upd H x o') h':=fun b u q=>by
  have nown:∀c y,H c=some (.own y)→c≠x:=fun c y r z=>by subst z;rw [r] at mu;exact mu
  have ntup:∀c xs,H c=some (.tup xs)→c≠x:=fun c xs r z=>by subst z;rw [r] at mu;exact mu
  by_cases hb:b=x
  · subst hb;rw [upd_same] at q;cases q;exact new
  · rw [upd_ne hb] at q
    by_cases hbe:b=e
    · have q':H b=some (.own x):=by
        rcases he with z | z
        · exact absurd (hbe.trans z) hb
        · rw [hbe];exact z
      rw [q] at q';cases q'
      obtain ⟨v,hv⟩:=heo
      exact ⟨v,by rw [hbe];exact hv⟩
    · refine (ok b u q).stay (fun c v hc r=>k c v ?_ r) (fun c r=>by rw [upd_ne (nown c b r)];exact r) fun c xs r=>by rw [upd_ne (ntup c xs r)];exact r
      rcases hc with rfl | hc
      · exact hbe
      · rintro rfl
        rcases he with z | z
        · exact nown c b hc z
        · rw [hc] at z;cases z;exact hb rfl
end
structure Un (fs ex:List Addr) (H H':Hp) (h h':Heap):Prop where
  keep:∀b o,h.get? b=some o→H b=none→b∉fs→b∉ex→h'.get? b=some o
  slot:∀b o,h.get? b=some o→H b=none→b∈fs→b∉ex→∃sl,h'.get? b=some { o with slots:=sl }
  free:∀b o,h.get? b=some o→H b=none→b∉ex→H' b=none
  there:∀b o,h.get? b=some o→b∉ex→∃o',h'.get? b=some o'
  tups:∀b xs,H b=some (.tup xs)→H' b=some (.tup xs)
  frzs:∀b o u,H b=some (.frz o u)→H' b=some (.frz o u)
  tbls:∀b ps,H b=some (.tbl ps)→∃more,H' b=some (.tbl (ps++more))
section
variable {fs fs' ex ex':List Addr} {H H1 H2:Hp} {h h1 h2 h':Heap} {a x e:Addr} {o:HO}
theorem Un.any (u:Un fs ex H H1 h h1) {b:Addr} {ob:Obj} (q:h.get? b=some ob) (n:H b=none) (hx:b∉ex):∃sl,h1.get? b=some { ob with slots:=sl }:=by
  by_cases hb:b∈fs
  · exact u.slot b ob q n hb hx
  · exact ⟨ob.slots,u.keep b ob q n hb hx⟩
theorem Un.kept (k:∀b u,h.get? b=some u→h'.get? b=some u):Un fs ex H H h h' :=
  ⟨fun b ob q _ _ _=>k b ob q,fun b ob q _ _ _=>⟨ob.slots,k b ob q⟩,fun _ _ _ n _=>n,fun b ob q _=>⟨ob,k b ob q⟩,fun _ _ q=>q,fun _ _ _ q=>q,fun _ ps q=>⟨#[],by rw [q];simp⟩⟩
theorem Un.refl:Un fs ex H H h h:=Un.kept fun _ _ q=>q
theorem Un.laid (k:∀b u,h.get? b=some u→h'.get? b=some u) (hp:h.objs.size≤a) (hn:H a=none):Un fs ex H (upd H a o) h h' where
  keep:=fun b u q _ _ _=>k b u q
  slot:=fun b u q _ _ _=>⟨u.slots,k b u q⟩
  free:=fun b u q n _=>by rw [upd_ne (Nat.ne_of_lt (Nat.lt_of_lt_of_le (Heap.lt_size q) hp))];exact n
  there:=fun b u q _=>⟨u,k b u q⟩
  tups:=fun b xs q=>by rw [upd_ne (ne_of_none q hn)];exact q
  frzs:=fun b u xs q=>by rw [upd_ne (ne_of_none q hn)];exact q
  tbls:=fun b ps q=>⟨#[],by rw [upd_ne (ne_of_none q hn),q];simp⟩
theorem Un.write (mu:Mut (H x)) (he:e=x∨H e=some (.own x)) (k:∀b u,b≠e→h.get? b=some u→h'.get? b=some u) (heo:∃u,h'.get? e=some u):Un fs ex H (upd H x o) h h':=by
  have hx:∀b,H b=none→b≠x:=fun b n z=>by subst z;rw [n] at mu;exact mu
  have hb:∀b,H b=none→b≠e:=fun b n z=>by
    subst z
    rcases he with r | r
    · exact hx b n r
    · rw [n] at r;cases r
  have hm:∀b u,H b=some u→¬ Mut (some u)→b≠x:=fun b u q nm z=>by subst z;rw [q] at mu;exact nm mu
  refine ⟨fun b u q n _ _=>k b u (hb b n) q,fun b u q n _ _=>⟨u.slots,k b u (hb b n) q⟩,fun b u q n _=>by rw [upd_ne (hx b n)];exact n,fun b u q _=>?_,
    fun b xs q=>by rw [upd_ne (hm b _ q fun z=>z)];exact q,fun b u xs q=>by rw [upd_ne (hm b _ q fun z=>z)];exact q,fun b ps q=>⟨#[],by rw [upd_ne (hm b _ q fun z=>z),q];simp⟩⟩
  by_cases hbe:b=e
  · subst hbe;exact heo
  · exact ⟨u,k b u hbe q⟩
end
def trk (h:Heap) (H:Hp):List Addr:=(List.range h.objs.size).filter fun a=>(H a).isSome
def hidT (h:Heap) (H:Hp):Heap:=PySem.W.hideAll h (trk h H)
theorem hidT_size (h:Heap) (H:Hp):(hidT h H).objs.size=h.objs.size:=PySem.W.hideAll_size _ _
theorem hidT_get {h:Heap} {H:Hp} {b:Addr} {o:Obj} (e:h.get? b=some o) (n:H b=none):(hidT h H).get? b=some o :=
  PySem.W.hideAll_get _ e fun hm=>by
    have q:(H b).isSome=true:=(List.mem_filter.mp hm).2
    rw [n] at q;simp at q
theorem of_hidT {h:Heap} {H:Hp} {b:Addr} {o:Obj} (e:(hidT h H).get? b=some o):h.get? b=some o∧H b=none:=by
  have e':h.get? b=some o:=PySem.W.of_hideAll (trk h H) e
  refine ⟨e',?_⟩
  cases q:H b with
  | none=>rfl
  | some x =>
    have hm:b∈trk h H:=List.mem_filter.mpr ⟨List.mem_range.mpr (Heap.lt_size e'),by simp [q]⟩
    have z:(hidT h H).get? b=none:=PySem.W.hideAll_none (trk h H) hm
    rw [z] at e;cases e
end L2
namespace L2
open PySem PySem.Spec PyProof.Rows
structure Mod (K:PySem.W.Frag) (mg:Str→Option Value) (base:Heap):Prop where
  kin:K.In base
  glob:base.Ns mainGlobals mg
  blt:∃mb,base.Ns builtinsNs mb∧∀x:Str,x ≠ "__name__"→mb x=bootBuiltins x
  nolimit:base.NoLimit
structure Cx where
  prog:Program
  w:World
  K:PySem.W.Frag
  mg:Str→Option Value
  base:Heap
  A:Around
  N:List Str
  s_0:Shared
  H_0:Hp
  env:Env
  outer:List Env
  stack:List Env
  ex:List Addr
  fn:Str→Bool
  calm:Bool
  pn:List (Addr×Obj)
  xe:Value→Shared→Prop
def frs (l:List Env):List Addr:=l.filterMap (·.frame)
abbrev Cx.fs (X:Cx):List Addr:=frs X.outer
def Vis (sc:Scope) (x:Str):Prop:=sc.names.lookup x=some .local∨sc.names.lookup x=some .cell∨sc.names.lookup x=some .free
def Loc (sc:Scope) (x:Str):Prop:=sc.names.lookup x=some .local∨sc.names.lookup x=some .cell
def Look (env:Env) (h:Heap) (m:Str→Option Value) (x:Str) (u:Value):Prop :=
  (env.kindOf x=some .local∧m x=some u)∨((env.kindOf x=some .cell∨env.kindOf x=some .free)∧∃c,env.cells.lookup x=some c∧h.IsCell c (some u))
structure Cx.Ok (X:Cx):Prop where
  mod:Mod X.K X.mg X.base
  kind:X.env.scope.kind=.function
  glob:X.env.globals=mainGlobals
  blt:X.env.builtins=builtinsNs
  above:X.s_0.heap.objs.size≤X.env.locals
  inj:∀x y c,X.env.cells.lookup x=some c→X.env.cells.lookup y=some c→x=y
  has:∀x,(X.env.kindOf x=some .cell∨X.env.kindOf x=some .free)→∃c,X.env.cells.lookup x=some c
  cab:∀x c,X.fn x=true→X.env.cells.lookup x=some c→X.s_0.heap.objs.size≤c
  hd:X.calm=true→X.A.handled=none
  frames:X.A.frames=some X.stack
  stk:X.stack=X.outer∨(X.stack=X.env::X.outer∧X.env.frame=some X.env.locals)
  exf:∀b∈X.ex,b≠X.env.locals∧∀x c,X.env.cells.lookup x=some c→c≠b
  bs:∀b o,X.base.get? b=some o→X.s_0.heap.get? b=some o∧X.H_0 b=none
  bsz:X.base.objs.size≤X.s_0.heap.objs.size
  noex:∀b o,X.base.get? b=some o→b∉X.ex
  exfs:∀b∈X.ex,b∉X.fs
  funs:X.s_0.heap.FunFrames X.base X.outer
  frf:∀b∈X.fs,X.H_0 b=none
structure Inv (X:Cx) (pins:List (Addr×Obj)) (σ:List (Option V)) (H:Hp) (s:Shared):Prop where
  ok:X.Ok
  os:s.os=X.s_0.os
  bare:AllBare s.gens
  base:Un X.fs X.ex X.H_0 H X.s_0.heap s.heap
  loc:∃m,s.heap.Ns X.env.locals m∧∀(i:Nat) (x:Str) (v:V),X.N[i]? = some x→σ[i]? = some (some v)→Vis X.env.scope x→∃u,RelV v u∧Look X.env s.heap m x u
  cell:∀x c,X.env.cells.lookup x=some c→∃v,s.heap.IsCell c v
  free:H X.env.locals=none
  freeC:∀x c,X.env.cells.lookup x=some c→H c=none
  pin:∀p∈X.pn++pins,s.heap.get? p.1=some p.2∧H p.1=none∧p.1≠X.env.locals∧p.1∉X.fs∧∀v,p.2.data≠.cell v
  hok:HOk X.prog X.w H s.heap
  len:σ.length=X.N.length
section
variable {X:Cx} {pins:List (Addr×Obj)} {σ:List (Option V)} {H H':Hp} {s:Shared} {h':Heap}
theorem Cx.Ok.nofr (ok:X.Ok) {b:Addr} {o:Obj} (e:X.base.get? b=some o):b∉X.fs:=fun hb=>by
  have:=(ok.funs.mem hb).1
  rw [e] at this;cases this
theorem Inv.bs (I:Inv X pins σ H s):∀b o,X.base.get? b=some o→s.heap.get? b=some o∧H b=none:=fun b o e =>
  ⟨I.base.keep b o (I.ok.bs b o e).1 (I.ok.bs b o e).2 (I.ok.nofr e) (I.ok.noex b o e),I.base.free b o (I.ok.bs b o e).1 (I.ok.bs b o e).2 (I.ok.noex b o e)⟩
theorem Inv.bk (I:Inv X pins σ H s):∀b o,X.base.get? b=some o→s.heap.get? b=some o:=fun b o e=>(I.bs b o e).1
theorem Inv.mod (I:Inv X pins σ H s):Mod X.K X.mg X.base:=I.ok.mod
theorem Inv.kIn (I:Inv X pins σ H s):X.K.In s.heap:=I.ok.mod.kin.keeps I.bk
theorem Inv.fr (I:Inv X pins σ H s):∃m,Fr X.base X.env.locals s.heap m :=
  let ⟨m,hn,_⟩:=I.loc
  ⟨m,hn,I.bk,Nat.le_trans I.ok.bsz I.ok.above⟩
theorem Inv.lt (I:Inv X pins σ H s):X.env.locals<s.heap.objs.size:=let ⟨_,hn,_⟩:=I.loc;hn.lt
theorem Inv.sz (I:Inv X pins σ H s):X.s_0.heap.objs.size≤s.heap.objs.size:=Nat.le_trans I.ok.above (Nat.le_of_lt I.lt)
theorem Inv.nofs (I:Inv X pins σ H s) {a:Addr} (h:s.heap.objs.size≤a):a∉X.fs:=fun hb=>by
  obtain ⟨_,o,ho,_⟩:=I.ok.funs.mem hb
  exact absurd (Nat.lt_of_lt_of_le (Heap.lt_size ho) (Nat.le_trans I.sz h)) (Nat.lt_irrefl _)
theorem Inv.cne (I:Inv X pins σ H s):∀x c,X.env.cells.lookup x=some c→c≠X.env.locals:=fun x c e z=>by
  obtain ⟨v,o,ho,hd⟩:=I.cell x c e
  obtain ⟨m,⟨o',es,ep,ho',hd',_⟩,_⟩:=I.loc
  rw [z,ho'] at ho;cases ho;rw [hd'] at hd;cases hd
theorem Inv.funs (I:Inv X pins σ H s):s.heap.FunFrames X.base X.outer:=by
  have all:∀(l:List Env),(∀b∈frs l,b∈X.fs)→X.s_0.heap.FunFrames X.base l→s.heap.FunFrames X.base l:=by
    intro l
    induction l with
    | nil=>intro _ _;trivial
    | cons env r ih =>
      intro hs hl
      obtain ⟨hk,⟨L,o,hf,hn,ho,hd⟩,hr⟩:=hl
      have hL:L∈X.fs:=hs L (by unfold frs;rw [List.filterMap_cons,hf];exact List.mem_cons_self)
      obtain ⟨sl,e⟩:=I.base.slot L o ho (I.ok.frf L hL) hL fun z=>I.ok.exfs L z hL
      exact ⟨hk,⟨L,_,hf,hn,e,hd⟩,ih (fun b hb=>hs b (by unfold frs;rw [List.filterMap_cons,hf];exact List.mem_cons_of_mem _ hb)) hr⟩
  exact all X.outer (fun _ hb=>hb) I.ok.funs
theorem Inv.stack (I:Inv X pins σ H s):s.heap.FunFrames X.base X.stack:=by
  rcases I.ok.stk with e | ⟨e,hf⟩
  · rw [e];exact I.funs
  · rw [e]
    obtain ⟨m,hn,_⟩:=I.loc
    refine .cons (by rw [I.ok.kind];decide) hf hn ?_ I.funs
    exact Heap.get?_none_of_le (Nat.le_trans I.ok.bsz I.ok.above)
theorem Inv.stkSub (I:Inv X pins σ H s):∀b∈frs X.stack,b∈X.env.locals::X.fs:=fun b hb=>by
  rcases I.ok.stk with e | ⟨e,hf⟩
  · rw [e] at hb;exact List.mem_cons_of_mem _ hb
  · rw [e] at hb
    unfold frs at hb
    rw [List.filterMap_cons,hf] at hb
    exact hb
theorem Inv.stkFree (I:Inv X pins σ H s):∀b∈frs X.stack,H b=none:=fun b hb=>by
  rcases List.mem_cons.mp (I.stkSub b hb) with e | hb
  · rw [e];exact I.free
  · obtain ⟨_,o,ho,_⟩:=I.ok.funs.mem hb
    exact I.base.free b o ho (I.ok.frf b hb) fun z=>I.ok.exfs b z hb
theorem Inv.step {g':Array GenState} {t':Nat} {d':Drawn} {ch:List Addr} (I:Inv X pins σ H s)
    (hch:∀b∈ch,(b∈X.ex∨X.s_0.heap.objs.size≤b)∧b≠X.env.locals∧(∀x c,X.env.cells.lookup x=some c→c≠b)∧∀p∈X.pn++pins,p.1≠b)
    (keep:∀b o,b≠X.env.locals→b∉X.fs→b∉ch→s.heap.get? b=some o→H b=none→h'.get? b=some o)
    (slot:∀b o,b≠X.env.locals→b∈X.fs→b∉ch→s.heap.get? b=some o→H b=none→∃sl,h'.get? b=some { o with slots:=sl }) (free:∀b o,b∉ch→s.heap.get? b=some o→H b=none→H' b=none)
    (there:∀b o,b∉ch→s.heap.get? b=some o→∃o',h'.get? b=some o')
    (tups:∀b xs,H b=some (.tup xs)→H' b=some (.tup xs)) (frzs:∀b o u,H b=some (.frz o u)→H' b=some (.frz o u)) (tbls:∀b ps,H b=some (.tbl ps)→∃more,H' b=some (.tbl (ps++more)))
    (ns:∀m,s.heap.Ns X.env.locals m→h'.Ns X.env.locals m) (hok:HOk X.prog X.w H' h') (hg:AllBare g') :
    Inv X pins σ H' { s with heap:=h',gens:=g',drawn:=d',toks:=t' }:=by
  have neL:∀b o,X.s_0.heap.get? b=some o→b≠X.env.locals:=fun b o e=>Nat.ne_of_lt (Nat.lt_of_lt_of_le (Heap.lt_size e) I.ok.above)
  have neC:∀b o,X.s_0.heap.get? b=some o→b∉X.ex→b∉ch:=fun b o e hx hb=>by
    rcases (hch b hb).1 with z | z
    · exact hx z
    · exact absurd (Nat.lt_of_lt_of_le (Heap.lt_size e) z) (Nat.lt_irrefl _)
  have cellK:∀x c,X.env.cells.lookup x=some c→∀v,s.heap.IsCell c v→h'.IsCell c v:=fun x c e v ⟨o,ho,hd⟩=>by
    have nch:c∉ch:=fun z=>(hch c z).2.2.1 x c e rfl
    by_cases hc:c∈X.fs
    · obtain ⟨sl,q⟩:=slot c o (I.cne x c e) hc nch ho (I.freeC x c e)
      exact ⟨_,q,hd⟩
    · exact ⟨o,keep c o (I.cne x c e) hc nch ho (I.freeC x c e),hd⟩
  refine ⟨I.ok,I.os,hg,⟨fun b o e n hb hx=>?_,fun b o e n hb hx=>?_,fun b o e n hx=>?_,fun b o e hx=>?_,fun b xs e=>tups b xs (I.base.tups b xs e),fun b o xs e=>frzs b o xs (I.base.frzs b o xs e),fun b ps e=>?_⟩,?_,fun x c e=>?_,?_,fun x c e=>?_,fun p hp=>?_,hok,I.len⟩
  · exact keep b o (neL b o e) hb (neC b o e hx) (I.base.keep b o e n hb hx) (I.base.free b o e n hx)
  · obtain ⟨sl,e1⟩:=I.base.slot b o e n hb hx
    obtain ⟨sl',e2⟩:=slot b _ (neL b o e) hb (neC b o e hx) e1 (I.base.free b o e n hx)
    exact ⟨sl',e2⟩
  · obtain ⟨o',e1⟩:=I.base.there b o e hx
    exact free b o' (neC b o e hx) e1 (I.base.free b o e n hx)
  · obtain ⟨o',e1⟩:=I.base.there b o e hx
    exact there b o' (neC b o e hx) e1
  · obtain ⟨m1,e1⟩:=I.base.tbls b ps e
    obtain ⟨m2,e2⟩:=tbls b _ e1
    exact ⟨m1++m2,by rw [e2,Array.append_assoc]⟩
  · obtain ⟨m,hn,hl⟩:=I.loc
    refine ⟨m,ns m hn,fun i x v e1 e2 e3=>?_⟩
    obtain ⟨u,r,l⟩:=hl i x v e1 e2 e3
    refine ⟨u,r,?_⟩
    rcases l with l | ⟨k,c,e,z⟩
    · exact .inl l
    · exact .inr ⟨k,c,e,cellK x c e _ z⟩
  · obtain ⟨v,z⟩:=I.cell x c e
    exact ⟨v,cellK x c e v z⟩
  · obtain ⟨m,⟨o,_,_,ho,_⟩,_⟩:=I.loc
    exact free _ o (fun z=>(hch _ z).2.1 rfl) ho I.free
  · obtain ⟨v,o,ho,hd⟩:=I.cell x c e
    exact free c o (fun z=>(hch c z).2.2.1 x c e rfl) ho (I.freeC x c e)
  · obtain ⟨e,n,ne,nf,d⟩:=I.pin p hp
    have nch:p.1∉ch:=fun z=>(hch p.1 z).2.2.2 p hp rfl
    exact ⟨keep p.1 p.2 ne nf nch e n,free p.1 p.2 nch e n,ne,nf,d⟩
theorem Inv.un {t':Nat} (I:Inv X pins σ H s) (u:Un X.fs [] H H' s.heap h') (hok:HOk X.prog X.w H' h'):Inv X pins σ H' { s with heap:=h',toks:=t' }:=by
  obtain ⟨m,⟨o,es,ep,ho,r⟩,_⟩:=id I.loc
  obtain ⟨sl,hL⟩:=u.any ho I.free (by simp)
  exact I.step (g':=s.gens) (d':=s.drawn) (ch:=[]) (fun _ z=>nomatch z) (fun b o _ hb _ e n=>u.keep b o e n hb (by simp)) (fun b o _ hb _ e n=>u.slot b o e n hb (by simp)) (fun b o _ e n=>u.free b o e n (by simp)) (fun b o _ e=>u.there b o e (by simp)) u.tups u.frzs u.tbls (fun m' hm=>by
    obtain ⟨o',es',ep',ho',r'⟩:=hm
    rw [ho] at ho';cases ho'
    exact ⟨_,es',ep',hL,r'⟩) hok I.bare
theorem Inv.call {g':Array GenState} {t':Nat} {d':Drawn} {ch:List Addr} (I:Inv X pins σ H s) (u:Un (frs X.stack) ch H H' s.heap h') (hok:HOk X.prog X.w H' h') (hg:AllBare g')
    (hch:∀b∈ch,(b∈X.ex∨X.s_0.heap.objs.size≤b)∧b≠X.env.locals∧(∀x c,X.env.cells.lookup x=some c→c≠b)∧∀p∈X.pn++pins,p.1≠b) :
    Inv X pins σ H' { s with heap:=h',gens:=g',drawn:=d',toks:=t' }:=by
  obtain ⟨m,⟨o,es,ep,ho,r⟩,_⟩:=id I.loc
  obtain ⟨sl,hL⟩:=u.any ho I.free fun z=>(hch _ z).2.1 rfl
  exact I.step (ch:=ch) hch (fun b o hL hb hc e n=>u.keep b o e n (fun z=>(List.mem_cons.mp (I.stkSub b z)).elim hL hb) hc) (fun b o _ _ hc e n=>u.any e n hc) (fun b o hc e n=>u.free b o e n hc) (fun b o hc e=>u.there b o e hc) u.tups u.frzs u.tbls (fun m' hm=>by
    obtain ⟨o',es',ep',ho',r'⟩:=hm
    rw [ho] at ho';cases ho'
    exact ⟨_,es',ep',hL,r'⟩) hok hg
theorem Inv.turned {t':Nat} {it:Addr} (I:Inv X pins σ H s) (k:∀b o,b≠it→s.heap.get? b=some o→h'.get? b=some o) (hn:H it=none) (hL:it≠X.env.locals)
    (h1:it∈X.ex∨X.s_0.heap.objs.size≤it) (h2:∀x c,X.env.cells.lookup x=some c→c≠it) (h3:∀p∈X.pn++pins,p.1≠it):Inv X pins σ H { s with heap:=h',toks:=t' }:=by
  have nit:∀b u,H b=some u→b≠it:=fun b u e z=>by rw [z,hn] at e;cases e
  refine I.step (g':=s.gens) (d':=s.drawn) (ch:=[it]) (fun b hb=>?_) (fun b o _ _ hc e _=>k b o (fun z=>hc (by simp [z])) e) (fun b o _ _ hc e _=>⟨o.slots,k b o (fun z=>hc (by simp [z])) e⟩) (fun _ _ _ _ n=>n)
    (fun b o hc e=>⟨o,k b o (fun z=>hc (by simp [z])) e⟩) (fun _ _ e=>e) (fun _ _ _ e=>e) (fun b ps e=>⟨#[],by rw [e];simp⟩) (fun m hm=>?_) (fun b u e=>?_) I.bare
  · have e:b=it:=by simpa using hb
    subst e
    exact ⟨h1,hL,h2,h3⟩
  · obtain ⟨o,es,ep,ho,r⟩:=hm
    exact ⟨o,es,ep,k _ o (Ne.symm hL) ho,r⟩
  · refine (I.hok b u e).stay (fun c v hc q=>k c v ?_ q) (fun _ q=>q) fun _ _ q=>q
    rcases hc with z | z
    · rw [z];exact nit b u e
    · exact nit c _ z
theorem Inv.tok (I:Inv X pins σ H s) (t:Nat):Inv X pins σ H { s with toks:=t }:=I.un (h':=s.heap) (t':=t) Un.refl I.hok
theorem Inv.kept {t':Nat} (I:Inv X pins σ H s) (k:∀b u,s.heap.get? b=some u→h'.get? b=some u):Inv X pins σ H { s with heap:=h',toks:=t' }:=I.un (Un.kept k) (I.hok.kept k)
theorem Inv.laid {a:Addr} {o:HO} {t':Nat} (I:Inv X pins σ H s) (k:∀b u,s.heap.get? b=some u→h'.get? b=some u) (hp:s.heap.objs.size≤a) (new:ObjOk X.prog X.w (upd H a o) h' a o) :
    Inv X pins σ (upd H a o) { s with heap:=h',toks:=t' }:=I.un (Un.laid k hp (I.hok.fresh hp)) (I.hok.laid k hp new)
theorem Inv.write {x e:Addr} {o:HO} {t':Nat} (I:Inv X pins σ H s) (mu:Mut (H x)) (he:e=x∨H e=some (.own x)) (k:∀b u,b≠e→s.heap.get? b=some u→h'.get? b=some u) (heo:∃u,h'.get? e=some u)
    (new:ObjOk X.prog X.w (upd H x o) h' x o):Inv X pins σ (upd H x o) { s with heap:=h',toks:=t' }:=I.un (Un.write mu he k heo) (I.hok.write mu he k heo new)
theorem Inv.weak {σ':List (Option V)} (I:Inv X pins σ H s) (hl:σ'.length = σ.length) (w:∀(i:Nat) v,σ'[i]? = some (some v)→σ[i]? = some (some v)):Inv X pins σ' H s :=
  ⟨I.ok,I.os,I.bare,I.base,let ⟨m,hn,hl'⟩:=I.loc;⟨m,hn,fun i x v e1 e2 e3=>hl' i x v e1 (w i v e2) e3⟩,I.cell,I.free,I.freeC,I.pin,I.hok,hl.trans I.len⟩
theorem Inv.pins_of {pins':List (Addr×Obj)} (I:Inv X pins σ H s) (h:∀p∈pins',s.heap.get? p.1=some p.2∧H p.1=none∧p.1≠X.env.locals∧p.1∉X.fs∧∀v,p.2.data≠.cell v):Inv X pins' σ H s :=
  ⟨I.ok,I.os,I.bare,I.base,I.loc,I.cell,I.free,I.freeC,fun p hp=>(List.mem_append.mp hp).elim (fun z=>I.pin p (List.mem_append_left _ z)) (h p),I.hok,I.len⟩
theorem nodup_ix {N:List Str} (hN:N.Nodup) {i j:Nat} {x:Str} (a:N[i]? = some x) (b:N[j]? = some x):i=j:=by
  obtain ⟨h1,e1⟩:=List.getElem?_eq_some_iff.mp a
  obtain ⟨h2,e2⟩:=List.getElem?_eq_some_iff.mp b
  exact (List.getElem_inj hN).mp (e1.trans e2.symm)
theorem store_ok2 {M:Model} {A:Around} {E:Value→Shared→Prop} {i:Nat} {x:Str} {v:V} {u:Value} {Q:Unit→Shared→Prop} (I:Inv X pins σ H s) (hN:X.N.Nodup) (hi:X.N[i]? = some x) (hx:Loc X.env.scope x) (r:RelV v u)
    (h:∀s',Inv X pins (σ.set i (some v)) H s'→(∃a,Heap.SameBut a s.heap s'.heap∧(a=X.env.locals∨X.env.cells.lookup x=some a))→Q () s') (hf:X.fn x=true∨X.env.scope.names.lookup x=some .local:=by first | exact .inl rfl | exact .inr rfl | assumption):wpAny M A (storeName X.env x u) Q E s:=by
  obtain ⟨m,hn,hl⟩:=id I.loc
  have hcls:(X.env.scope.kind == .class || (X.env.scope.kind == .module && X.env.locals != X.env.globals))=false:=by rw [I.ok.kind];rfl
  have hiσ:i < σ.length:=by rw [I.len];exact (List.getElem?_eq_some_iff.mp hi).1
  have cne:=I.cne
  have tracked:∀{a:Addr} {h':Heap},(∃o,s.heap.get? a=some o∧H a=none)→Heap.SameBut a s.heap h'→HOk X.prog X.w H h':=fun {a h'} ha hs b ob e=>by
    obtain ⟨_,_,hfree⟩:=ha
    refine (I.hok b ob e).stay (fun c w' hc q=>(hs.2 c ?_).trans q) (fun _ q=>q) fun _ _ q=>q
    rintro rfl
    rcases hc with rfl | hc
    · rw [hfree] at e;cases e
    · rw [hfree] at hc;cases hc
  rcases hx with hk | hk
  · refine wpAny_storeName_local hk hn (fun h' hn' hs=>?_) hcls
    obtain ⟨oL,_,_,hoL,_⟩:=id hn
    refine h _ ⟨I.ok,I.os,I.bare,⟨fun b o e n hb hx=>?_,fun b o e n hb hx=>?_,I.base.free,fun b o e hx=>?_,I.base.tups,I.base.frzs,I.base.tbls⟩,⟨_,hn',fun j y v' e1 e2 e3=>?_⟩,fun y c e=>?_,I.free,I.freeC,fun p hp=>?_,tracked ⟨oL,hoL,I.free⟩ hs,by simpa using I.len⟩ ⟨_,hs,.inl rfl⟩
    · exact (hs.2 b (Nat.ne_of_lt (Nat.lt_of_lt_of_le (Heap.lt_size e) I.ok.above))).trans (I.base.keep b o e n hb hx)
    · obtain ⟨sl,e1⟩:=I.base.slot b o e n hb hx
      exact ⟨sl,(hs.2 b (Nat.ne_of_lt (Nat.lt_of_lt_of_le (Heap.lt_size e) I.ok.above))).trans e1⟩
    · obtain ⟨o',e1⟩:=I.base.there b o e hx
      exact ⟨o',(hs.2 b (Nat.ne_of_lt (Nat.lt_of_lt_of_le (Heap.lt_size e) I.ok.above))).trans e1⟩
    · by_cases hj:j=i
      · subst hj
        rw [hi] at e1;cases e1
        rw [List.getElem?_set_self hiσ] at e2
        cases e2
        exact ⟨u,r,.inl ⟨hk,by simp⟩⟩
      · rw [List.getElem?_set_ne (Ne.symm hj)] at e2
        obtain ⟨u',r',q⟩:=hl j y v' e1 e2 e3
        refine ⟨u',r',?_⟩
        rcases q with ⟨k,e⟩ | ⟨k,c,e,z⟩
        · refine .inl ⟨k,?_⟩
          have:y≠x:=fun e=>hj (nodup_ix hN e1 (e ▸ hi))
          simp [this,e]
        · exact .inr ⟨k,c,e,z.sameBut hs (cne y c e)⟩
    · obtain ⟨w',z⟩:=I.cell y c e
      exact ⟨w',z.sameBut hs (cne y c e)⟩
    · obtain ⟨e,n,ne,nf,d⟩:=I.pin p hp
      exact ⟨(hs.2 p.1 ne).trans e,n,ne,nf,d⟩
  · have hfn:X.fn x=true:=by
      rcases hf with z | z
      · exact z
      · rw [z] at hk;cases hk
    obtain ⟨c,hc⟩:=I.ok.has x (.inl hk)
    obtain ⟨w',z⟩:=I.cell x c hc
    refine wpAny_storeName_cell I.ok.kind hk hc z (fun h' hc' hs=>?_)
    obtain ⟨oc,hoc,hocd⟩:=id z
    refine h { s with heap:=h' } ⟨I.ok,I.os,I.bare,⟨fun b o e n hb hx=>?_,fun b o e n hb hx=>?_,I.base.free,fun b o e hx=>?_,I.base.tups,I.base.frzs,I.base.tbls⟩,⟨m,hn.sameBut hs (Ne.symm (cne x c hc)),fun j y v' e1 e2 e3=>?_⟩,fun y c' e=>?_,I.free,I.freeC,fun p hp=>?_,tracked ⟨oc,hoc,I.freeC x c hc⟩ hs,by simpa using I.len⟩ ⟨c,hs,.inr hc⟩
    · exact (hs.2 b (Nat.ne_of_lt (Nat.lt_of_lt_of_le (Heap.lt_size e) (I.ok.cab x c hfn hc)))).trans (I.base.keep b o e n hb hx)
    · obtain ⟨sl,e1⟩:=I.base.slot b o e n hb hx
      exact ⟨sl,(hs.2 b (Nat.ne_of_lt (Nat.lt_of_lt_of_le (Heap.lt_size e) (I.ok.cab x c hfn hc)))).trans e1⟩
    · obtain ⟨o',e1⟩:=I.base.there b o e hx
      exact ⟨o',(hs.2 b (Nat.ne_of_lt (Nat.lt_of_lt_of_le (Heap.lt_size e) (I.ok.cab x c hfn hc)))).trans e1⟩
    · by_cases hj:j=i
      · subst hj
        rw [hi] at e1;cases e1
        rw [List.getElem?_set_self hiσ] at e2
        cases e2
        exact ⟨u,r,.inr ⟨.inl hk,c,hc,hc'⟩⟩
      · rw [List.getElem?_set_ne (Ne.symm hj)] at e2
        obtain ⟨u',r',q⟩:=hl j y v' e1 e2 e3
        refine ⟨u',r',?_⟩
        rcases q with q | ⟨k,c',e,z'⟩
        · exact .inl q
        · refine .inr ⟨k,c',e,z'.sameBut hs ?_⟩
          rintro rfl
          exact hj (nodup_ix hN e1 (I.ok.inj _ _ _ e hc ▸ hi))
    · by_cases hcc:c' = c
      · subst hcc;exact ⟨_,hc'⟩
      · obtain ⟨w2,z2⟩:=I.cell y c' e
        exact ⟨w2,z2.sameBut hs hcc⟩
    · obtain ⟨e,n,ne,nf,d⟩:=I.pin p hp
      refine ⟨(hs.2 p.1 ?_).trans e,n,ne,nf,d⟩
      intro q
      rw [q,hoc] at e
      have q':oc=p.2:=Option.some.inj e
      exact d w' (by rw [← q'];exact hocd)
theorem store_ok {M:Model} {A:Around} {E:Value→Shared→Prop} {i:Nat} {x:Str} {v:V} {u:Value} {Q:Unit→Shared→Prop} (I:Inv X pins σ H s) (hN:X.N.Nodup) (hi:X.N[i]? = some x) (hx:Loc X.env.scope x) (r:RelV v u)
    (h:∀s',Inv X pins (σ.set i (some v)) H s'→Q () s') (hf:X.fn x=true∨X.env.scope.names.lookup x=some .local:=by first | exact .inl rfl | exact .inr rfl | assumption):wpAny M A (storeName X.env x u) Q E s :=
  store_ok2 I hN hi hx r (fun s' I' _=>h s' I') hf
theorem Inv.call' {s':Shared} {ch:List Addr} (I:Inv X pins σ H s) (ho:s'.os=s.os) (u:Un (frs X.stack) ch H H' s.heap s'.heap) (hok:HOk X.prog X.w H' s'.heap) (hg:AllBare s'.gens)
    (hch:∀b∈ch,(b∈X.ex∨X.s_0.heap.objs.size≤b)∧b≠X.env.locals∧(∀x c,X.env.cells.lookup x=some c→c≠b)∧∀p∈X.pn++pins,p.1≠b):Inv X pins σ H' s':=by
  obtain ⟨h',g',d',t',o'⟩:=s'
  have e:o' = s.os:=ho
  subst e
  exact I.call (g':=g') (t':=t') (d':=d') u hok hg hch
end
abbrev XK:=Value→Option Addr→Hp→Prop
abbrev St:=List (Option V)
abbrev VK:=V→Hp→Prop
abbrev TE:=St→Hp→VK→Prop
abbrev TT:=St→Hp→(Bool→Hp→Prop)→Prop
abbrev TA:=St→Hp→(List V→Hp→Prop)→Prop
structure Ends where
  nx:St→Hp→Prop
  rt:VK
  bk:St→Hp→Prop:=fun _ _=>False
  ct:St→Hp→Prop:=fun _ _=>False
abbrev TS:=Ends→St→Hp→Prop
def EP (X:Cx) (pins:List (Addr×Obj)) (σ:St) (Q:VK) (u:Value) (s':Shared):Prop:=∃v H',Inv X pins σ H' s'∧RelV v u∧Q v H'
def TP (X:Cx) (pins:List (Addr×Obj)) (σ:St) (Q:Bool→Hp→Prop) (b:Bool) (s':Shared):Prop:=∃H',Inv X pins σ H' s'∧Q b H'
def AP (X:Cx) (pins:List (Addr×Obj)) (σ:St) (Q:List V→Hp→Prop) (us:List Value) (s':Shared):Prop:=∃vs H',Inv X pins σ H' s'∧Vals vs us∧Q vs H'
def SP (X:Cx) (pins:List (Addr×Obj)) (D:Ends) (f:Flow) (s':Shared):Prop :=
  match f with
  | .next=>∃σ' H',Inv X pins σ' H' s'∧D.nx σ' H'
  | .brk=>∃σ' H',Inv X pins σ' H' s'∧D.bk σ' H'
  | .cont=>∃σ' H',Inv X pins σ' H' s'∧D.ct σ' H'
  | .ret u=>∃v σ' H',Inv X pins σ' H' s'∧RelV v u∧D.rt v H'
def PE (X:Cx) (e:Expr) (t:TE):Prop :=
  ∀(pins:List (Addr×Obj)) (s:Shared) (σ:St) (H:Hp) (Q:VK),Inv X pins σ H s→t σ H Q→wpAny (model X.prog X.w) X.A (eval e X.env) (EP X pins σ Q) X.xe s
def PT (X:Cx) (e:Expr) (t:TT):Prop :=
  ∀(pins:List (Addr×Obj)) (s:Shared) (σ:St) (H:Hp) (Q:Bool→Hp→Prop),Inv X pins σ H s→t σ H Q→wpAny (model X.prog X.w) X.A (isTrue e X.env (eval e X.env)) (TP X pins σ Q) X.xe s
def PW (X:Cx) (e:Expr) (t:TT):Prop :=
  ∀(whole:Sem Value) (pins:List (Addr×Obj)) (s:Shared) (σ:St) (H:Hp) (Q:Bool→Hp→Prop),Inv X pins σ H s→t σ H Q→wpAny (model X.prog X.w) X.A (isTrue e X.env whole) (TP X pins σ Q) X.xe s
theorem PW.pt {X:Cx} {e:Expr} {t:TT} (h:PW X e t):PT X e t:=h _
def PA (X:Cx) (es:List Expr) (t:TA):Prop :=
  ∀(pos:Pos) (pins:List (Addr×Obj)) (s:Shared) (σ:St) (H:Hp) (Q:List V→Hp→Prop),Inv X pins σ H s→t σ H Q→wpAny (model X.prog X.w) X.A (spliced (backTo pos (starEach es X.env))) (AP X pins σ Q) X.xe s
def PS (X:Cx) (st:Stmt) (t:TS):Prop :=
  ∀(pins:List (Addr×Obj)) (s:Shared) (σ:St) (H:Hp) (D:Ends),Inv X pins σ H s→t D σ H→wpAny (model X.prog X.w) X.A (exec st X.env) (SP X pins D) X.xe s
def PSs (X:Cx) (st:List Stmt) (t:TS):Prop :=
  ∀(pins:List (Addr×Obj)) (s:Shared) (σ:St) (H:Hp) (D:Ends),Inv X pins σ H s→t D σ H→wpAny (model X.prog X.w) X.A (execs st X.env) (SP X pins D) X.xe s
theorem thn {α:Type} {t:Sem α} {Q Q':α→Shared→Prop} {M:Model} {A:Around} {E:Value→Shared→Prop} {s:Shared} (h:wpAny M A t Q E s) (hQ:∀a s,Q a s→Q' a s):wpAny M A t Q' E s:=wpAny_mono h hQ fun _ _ x=>x
end L2
namespace L2
open PySem PySem.Spec PyProof.Rows
section
variable {X:Cx}
theorem bin {a b:Expr} {ta tb:TE} (ha:PE X a ta) (hb:PE X b tb) {pins:List (Addr×Obj)} {s:Shared} {σ:St} {H:Hp} {R:V→V→Hp→Prop} (I:Inv X pins σ H s) (h:ta σ H fun x H1=>tb σ H1 fun y H2=>R x y H2)
    {α:Type} {Q:α→Shared→Prop} {f:Value→Value→Sem α}
    (hf:∀v u s2 x y H2,Inv X pins σ H2 s2→RelV x v→RelV y u→R x y H2→wpAny (model X.prog X.w) X.A (f v u) Q X.xe s2) :
    wpAny (model X.prog X.w) X.A (eval a X.env) (fun v s₁=>wpAny (model X.prog X.w) X.A (eval b X.env) (fun u s₂=>wpAny (model X.prog X.w) X.A (f v u) Q X.xe s₂) X.xe s₁) X.xe s:=by
  refine thn (ha pins s σ H _ I h) fun v s1 ⟨x,H1,I1,r1,q1⟩=>?_
  refine thn (hb pins s1 σ H1 _ I1 q1) fun u s2 ⟨y,H2,I2,r2,q2⟩=>?_
  exact hf v u s2 x y H2 I2 r1 r2 q2
def tVar (i:Nat):TE:=fun σ H Q=>∃v,σ[i]? = some (some v)∧Q v H
def tC (v:V):TE:=fun _ H Q=>Q v H
theorem pe_var {i:Nat} {x:Str} {pos:Pos} (hN:X.N[i]? = some x) (hv:Vis X.env.scope x) (hd:(x == ("__debug__" : Str))=false:=by decide) (hcd:(x == ("__classdict__" : Str))=false:=by decide):PE X (.Name x pos) (tVar i):=by
  intro pins s σ H Q I h
  obtain ⟨v,e,h⟩:=h
  obtain ⟨m,hn,hl⟩:=I.loc
  obtain ⟨u,r,l⟩:=hl i x v hN e hv
  have fin:EP X pins σ Q u s:=⟨v,H,I,r,h⟩
  rcases l with ⟨hk,hm⟩ | ⟨hk,c,hc,hcell⟩
  · exact wpAny_Name (wpAny_loadName_local I.ok.kind hk hn hm fin) hd
  · rcases hk with hk | hk
    · exact wpAny_Name (wpAny_loadName_cell I.ok.kind hk hc hcell fin) hd
    · exact wpAny_Name (wpAny_loadName_free I.ok.kind hk hc hcell fin hcd) hd
theorem pe_int {i j pos}:PE X (.Constant (.int i) j pos) (tC (.int i)):=fun _ _ _ H _ I h=>wpAny_Constant_int ⟨.int i,H,I.tok _,⟨_,rfl⟩,h⟩
theorem pe_bl {b j pos}:PE X (.Constant (.bool b) j pos) (tC (.bl b)):=fun _ _ _ H _ I h=>Constant_bool ⟨.bl b,H,I,rfl,h⟩
theorem pe_non {j pos}:PE X (.Constant .none j pos) (tC .non):=fun _ _ _ H _ I h=>Constant_none ⟨.non,H,I,rfl,h⟩
theorem pe_str {x j pos}:PE X (.Constant (.str x) j pos) (tC (.str x)):=fun _ _ _ H _ I h=>Calls.Constant_str ⟨.str x,H,I.tok _,⟨_,rfl⟩,h⟩
def Gl (X:Cx) (x:Str):Prop:=X.env.kindOf x=some .globalImplicit
theorem ld_glob {E:Value→Shared→Prop} {pins:List (Addr×Obj)} {s:Shared} {σ:St} {H:Hp} {x:Str} {u:Value} {pos:Pos} {Q:Value→Shared→Prop} (I:Inv X pins σ H s) (hg:Gl X x) (hm:X.mg x=some u) (h:Q u s)
    (hd:(x == ("__debug__" : Str))=false:=by decide):wpAny (model X.prog X.w) X.A (eval (.Name x pos) X.env) Q E s :=
  Calls.Name_function_global I.ok.kind hg (Calls.loadGlobal_global (by rw [I.ok.glob];exact I.mod.glob.keeps I.bk) hm h) hd
theorem ld_blt {E:Value→Shared→Prop} {pins:List (Addr×Obj)} {s:Shared} {σ:St} {H:Hp} {x:Str} {u:Value} {pos:Pos} {Q:Value→Shared→Prop} (I:Inv X pins σ H s) (hg:Gl X x) (hm:X.mg x=none) (hv:bootBuiltins x=some u) (h:Q u s)
    (hn:x ≠ "__name__" := by decide) (hd:(x == ("__debug__" : Str))=false:=by decide):wpAny (model X.prog X.w) X.A (eval (.Name x pos) X.env) Q E s:=by
  obtain ⟨mb,h1,h2⟩:=I.mod.blt
  exact Calls.Name_function_global I.ok.kind hg (Calls.loadGlobal_builtin (by rw [I.ok.glob];exact I.mod.glob.keeps I.bk) hm (by rw [I.ok.blt];exact h1.keeps I.bk) ((h2 x hn).trans hv) h) hd
theorem pe_glob {x:Str} {v:V} {u:Value} {pos:Pos} (hg:Gl X x) (hm:X.mg x=some u) (r:RelV v u) (hd:(x == ("__debug__" : Str))=false:=by decide):PE X (.Name x pos) (tC v) :=
  fun _ _ _ H _ I h=>ld_glob I hg hm ⟨v,H,I,r,h⟩ hd
variable {a b:Expr} {ta tb:TE} {pos:Pos}
def PC (X:Cx) (op:CmpOp) (a b:Expr) (t:TE):Prop :=
  ∀(pins:List (Addr×Obj)) (s:Shared) (σ:St) (H:Hp) (Q:VK),Inv X pins σ H s→t σ H Q →
    wpAny (model X.prog X.w) X.A (eval a X.env) (fun v s₁=>wpAny (model X.prog X.w) X.A (eval b X.env) (fun u s₂=>wpAny (model X.prog X.w) X.A (compareOp op v u) (EP X pins σ Q) X.xe s₂) X.xe s₁) X.xe s
def tB (t:TE):TT:=fun σ H Q=>t σ H fun x H1=>∃c,x=.bl c∧Q c H1
theorem pe_cmp {op:CmpOp} {t:TE} (h:PC X op a b t) (h1:behindInMarks op b=false:=by first | exact nobehind _ (by decide) (by decide) | rfl):PE X (.Compare a [op] [b] pos) t:=fun pins s σ H Q I hw=>wpAny_Compare1 (h pins s σ H Q I hw) h1
theorem pt_cmp {op:CmpOp} {t:TE} (h:PC X op a b t) (h1:behindInMarks op b=false:=by first | exact nobehind _ (by decide) (by decide) | rfl):PT X (.Compare a [op] [b] pos) (tB t):=by
  intro pins s σ H Q I hw
  refine wpAny_isTrue_Compare1 (thn (h pins s σ H _ I hw) fun v s1 h1=>thn h1 fun u s2 h2=>thn h2 fun c s3 ⟨x,H1,I1,r1,q1⟩=>?_) h1
  obtain ⟨d,rfl,q⟩:=q1
  cases r1
  exact wpAny_truthy_bool ⟨H1,I1,q⟩
theorem pt_val {e:Expr} {t:TE} (h:PE X e t) (he:∀whole,isTrue e X.env whole=(do let v ← whole;standAt e.pos;holding [v] (truthy v)):=by intro _;rfl):PT X e (tB t):=by
  intro pins s σ H Q I hw
  refine isTrue_plain (thn (h pins s σ H _ I hw) fun v s1 ⟨x,H1,I1,r1,q1⟩=>?_) (he _)
  obtain ⟨d,rfl,q⟩:=q1
  cases r1
  exact wpAny_truthy_bool ⟨H1,I1,q⟩
variable {tA tB':TT} {rest:List Expr}
def tAnd (t u:TT):TT:=fun σ H Q=>t σ H fun c H1=>if c=true then u σ H1 Q else Q false H1
def tOr (t u:TT):TT:=fun σ H Q=>t σ H fun c H1=>if c=true then Q true H1 else u σ H1 Q
def tNot (t:TT):TT:=fun σ H Q=>t σ H fun c H1=>Q (!c) H1
theorem pw_and1 (ha:PT X a tA):PW X (.BoolOp .And [a] pos) tA:=by
  intro wh pins s σ H Q I h
  refine isTrue_and (thn (ha pins s σ H Q I h) fun c s1 e=>?_)
  cases c with
  | true=>exact isTrue_and_nil e
  | false=>exact e
theorem pw_or1 (ha:PT X a tA):PW X (.BoolOp .Or [a] pos) tA:=by
  intro wh pins s σ H Q I h
  refine isTrue_or (thn (ha pins s σ H Q I h) fun c s1 e=>?_)
  cases c with
  | false=>exact isTrue_or_nil e
  | true=>exact e
theorem pw_and (ha:PT X a tA) (hb:PW X (.BoolOp .And (b::rest) pos) tB'):PW X (.BoolOp .And (a::b::rest) pos) (tAnd tA tB'):=by
  intro wh pins s σ H Q I h
  refine isTrue_and (thn (ha pins s σ H _ I h) fun c s1 ⟨H1,I1,q1⟩=>?_)
  cases c with
  | true=>exact hb wh pins s1 σ H1 Q I1 q1
  | false=>exact ⟨H1,I1,q1⟩
theorem pw_or (ha:PT X a tA) (hb:PW X (.BoolOp .Or (b::rest) pos) tB'):PW X (.BoolOp .Or (a::b::rest) pos) (tOr tA tB'):=by
  intro wh pins s σ H Q I h
  refine isTrue_or (thn (ha pins s σ H _ I h) fun c s1 ⟨H1,I1,q1⟩=>?_)
  cases c with
  | true=>exact ⟨H1,I1,q1⟩
  | false=>exact hb wh pins s1 σ H1 Q I1 q1
theorem pt_not (ha:PT X a tA):PT X (.UnaryOp .Not a pos) (tNot tA):=by
  intro pins s σ H Q I h
  exact isTrue_not (ha pins s σ H (fun c H1=>Q (!c) H1) I h)
def tAndV (ta tb:TE):TE:=fun σ H Q=>ta σ H fun x H1=>∃c,x=.bl c∧if c=true then tb σ H1 Q else Q (.bl false) H1
def tOrV (ta tb:TE):TE:=fun σ H Q=>ta σ H fun x H1=>∃c,x=.bl c∧if c=true then Q (.bl true) H1 else tb σ H1 Q
theorem pe_one {op} {t:TE} (h:PE X a t):PE X (.BoolOp op [a] pos) t:=fun pins s σ H Q I hw=>BoolOp_one (h pins s σ H Q I hw)
theorem pe_and (ha:PE X a ta) (hb:PE X (.BoolOp .And (b::rest) pos) tb):PE X (.BoolOp .And (a::b::rest) pos) (tAndV ta tb):=by
  intro pins s σ H Q I h
  refine BoolOp_and (thn (ha pins s σ H _ I h) fun v s1 ⟨x,H1,I1,r1,q1⟩=>?_)
  obtain ⟨c,rfl,q1⟩:=q1
  cases r1
  refine wpAny_truthy_bool ?_
  cases c with
  | true=>exact hb pins s1 σ H1 Q I1 q1
  | false=>exact ⟨.bl false,H1,I1,rfl,q1⟩
theorem pe_or (ha:PE X a ta) (hb:PE X (.BoolOp .Or (b::rest) pos) tb):PE X (.BoolOp .Or (a::b::rest) pos) (tOrV ta tb):=by
  intro pins s σ H Q I h
  refine BoolOp_or (thn (ha pins s σ H _ I h) fun v s1 ⟨x,H1,I1,r1,q1⟩=>?_)
  obtain ⟨c,rfl,q1⟩:=q1
  cases r1
  refine wpAny_truthy_bool ?_
  cases c with
  | false=>exact hb pins s1 σ H1 Q I1 q1
  | true=>exact ⟨.bl true,H1,I1,rfl,q1⟩
def tIf (t:TT) (ta tb:TE):TE:=fun σ H Q=>t σ H fun c H1=>if c=true then ta σ H1 Q else tb σ H1 Q
theorem pe_ifExp {c:Expr} (hc:PT X c tA) (ha:PE X a ta) (hb:PE X b tb):PE X (.IfExp c a b pos) (tIf tA ta tb):=by
  intro pins s σ H Q I h
  refine wpAny_IfExp (thn (hc pins s σ H _ I h) fun d s1 ⟨H1,I1,q1⟩=>?_)
  cases d with
  | true=>exact ha pins s1 σ H1 Q I1 q1
  | false=>exact hb pins s1 σ H1 Q I1 q1
end
end L2
namespace L2
open PySem PySem.Spec PyProof.Rows
def SqL (K:PySem.W.Frag) (H:Hp) (a:Addr) (xs:List V):Prop :=
  Rd H a (.lst xs) ∨
    ∃(o:Obj) (its:Array Value) (n:Nat),K.lookup a=some o∧o.cls=.type "list"∧o.dict=none∧o.data=.seq its n∧its.size≤sizeLine∧Vals xs its.toList
def SqT (K:PySem.W.Frag) (H:Hp) (a:Addr) (xs:List V):Prop :=
  Rd H a (.tup xs) ∨
    ∃(o:Obj) (its:Array Value) (n:Nat),K.lookup a=some o∧o.cls=.type "tuple"∧o.data=.seq its n∧its.size≤sizeLine∧Vals xs its.toList
def absV:Value→Option V
  | .none=>some .non
  | .bool b=>some (.bl b)
  | .int i _=>some (.int i)
  | .str x _=>some (.str x)
  | .bytes b _=>some (.byt b)
  | .float b _=>some (.flt b)
  | .ref a=>some (.ref a)
  | .type n=>some (.ty n)
  | _=>none
theorem RelV.abs {x:V} {u:Value} (r:RelV x u):absV u=some x:=by
  cases x with
  | non=>cases r;rfl
  | bl _=>cases r;rfl
  | int _=>obtain ⟨t,rfl⟩:=r;rfl
  | str _=>obtain ⟨t,rfl⟩:=r;rfl
  | byt _=>obtain ⟨t,rfl⟩:=r;rfl
  | flt _=>obtain ⟨t,rfl⟩:=r;rfl
  | ref _=>cases r;rfl
  | ty _=>cases r;rfl
theorem RelV.inj {x y:V} {u:Value} (r:RelV x u) (q:RelV y u):x=y:=Option.some.inj (r.abs.symm.trans q.abs)
theorem Vals.inj:∀{xs ys:List V} {us:List Value},Vals xs us→Vals ys us→xs=ys
  | _,_,_,.nil,.nil=>rfl
  | _,_,_,.cons r t,.cons r' t'=>by rw [r.inj r',Vals.inj t t']
section
variable {X:Cx} {pins:List (Addr×Obj)} {σ:St} {H:Hp} {s:Shared} {a:Addr} {xs ys:List V}
theorem SqL.of {K:PySem.W.Frag} (h:H a=some (.lst xs)):SqL K H a xs:=.inl (.inl h)
theorem SqT.of {K:PySem.W.Frag} (h:H a=some (.tup xs)):SqT K H a xs:=.inl (.inl h)
theorem Inv.list (I:Inv X pins σ H s) (h:SqL X.K H a xs):∃its:List Value,Vals xs its∧PlainL s.heap a its.toArray∧xs.length≤sizeLine:=by
  rcases h with h | ⟨o,its,n,hk,hc,hd,hs,hz,r⟩
  · obtain ⟨z,its,n,r,e⟩:=h.ok I.hok
    exact ⟨its,r,⟨_,n,e,rfl,rfl,rfl⟩,z⟩
  · refine ⟨its.toList,r,⟨o,n,I.kIn a o hk,hc,hd,by simpa using hs⟩,?_⟩
    have e:=r.length
    simp only [Array.length_toList] at e
    omega
theorem Inv.tuple (I:Inv X pins σ H s) (h:SqT X.K H a xs):∃its:List Value,Vals xs its∧IsTup s.heap a its.toArray∧xs.length≤sizeLine:=by
  rcases h with h | ⟨o,its,n,hk,hc,hs,hz,r⟩
  · obtain ⟨z,its,r,p⟩:=h.ok I.hok
    exact ⟨its,r,p,z⟩
  · refine ⟨its.toList,r,⟨o,I.kIn a o hk,hc,n,by simpa using hs⟩,?_⟩
    have e:=r.length
    simp only [Array.length_toList] at e
    omega
theorem Inv.list_inj (I:Inv X pins σ H s) (h:SqL X.K H a xs) (h':SqL X.K H a ys):xs=ys:=by
  obtain ⟨its,r,⟨o,n,e,_,_,d⟩,_⟩:=I.list h
  obtain ⟨its',r',⟨o',n',e',_,_,d'⟩,_⟩:=I.list h'
  rw [e] at e';cases e'
  rw [d] at d'
  injection d' with d1 _
  have:its=its':=by simpa using congrArg Array.toList d1
  subst this
  exact r.inj r'
theorem Inv.tuple_inj (I:Inv X pins σ H s) (h:SqT X.K H a xs) (h':SqT X.K H a ys):xs=ys:=by
  obtain ⟨its,r,⟨o,e,_,n,d⟩,_⟩:=I.tuple h
  obtain ⟨its',r',⟨o',e',_,n',d'⟩,_⟩:=I.tuple h'
  rw [e] at e';cases e'
  rw [d] at d'
  injection d' with d1 _
  have:its=its':=by simpa using congrArg Array.toList d1
  subst this
  exact r.inj r'
end
abbrev Cx.wish (X:Cx) (E:Value→Shared→Prop):Cx:={ X with xe:=E }
abbrev Cx.nox (X:Cx):Cx:=X.wish fun _ _=>False
theorem Cx.Ok.wish {X:Cx} (ok:X.Ok) (E:Value→Shared→Prop):(X.wish E).Ok :=
  ⟨ok.mod,ok.kind,ok.glob,ok.blt,ok.above,ok.inj,ok.has,ok.cab,ok.hd,ok.frames,ok.stk,ok.exf,ok.bs,ok.bsz,ok.noex,ok.exfs,ok.funs,ok.frf⟩
theorem Cx.Ok.unwish {X:Cx} {E:Value→Shared→Prop} (ok:(X.wish E).Ok):X.Ok :=
  ⟨ok.mod,ok.kind,ok.glob,ok.blt,ok.above,ok.inj,ok.has,ok.cab,ok.hd,ok.frames,ok.stk,ok.exf,ok.bs,ok.bsz,ok.noex,ok.exfs,ok.funs,ok.frf⟩
section
variable {X:Cx} {pins:List (Addr×Obj)} {σ:St} {H:Hp} {s:Shared} {E:Value→Shared→Prop}
theorem Inv.wish (I:Inv X pins σ H s) (E:Value→Shared→Prop):Inv (X.wish E) pins σ H s:=⟨I.ok.wish E,I.os,I.bare,I.base,I.loc,I.cell,I.free,I.freeC,I.pin,I.hok,I.len⟩
theorem Inv.unwish (I:Inv (X.wish E) pins σ H s):Inv X pins σ H s:=⟨I.ok.unwish,I.os,I.bare,I.base,I.loc,I.cell,I.free,I.freeC,I.pin,I.hok,I.len⟩
theorem SP.unwish {D:Ends} {f:Flow} {s':Shared} (h:SP (X.wish E) pins D f s'):SP X pins D f s':=by
  cases f with
  | next=>obtain ⟨σ',H',I,q⟩:=h;exact ⟨σ',H',I.unwish,q⟩
  | brk=>obtain ⟨σ',H',I,q⟩:=h;exact ⟨σ',H',I.unwish,q⟩
  | cont=>obtain ⟨σ',H',I,q⟩:=h;exact ⟨σ',H',I.unwish,q⟩
  | ret u=>obtain ⟨v,σ',H',I,r,q⟩:=h;exact ⟨v,σ',H',I.unwish,r,q⟩
theorem PSs.nox {st:List Stmt} {t:TS} (h:PSs X.nox st t):PSs X st t:=fun pins s σ H D I hw =>
  wpAny_mono (h pins s σ H D (I.wish _) hw) (fun _ _ q=>q.unwish) fun _ _ z=>False.elim z
end
section
variable {X:Cx} {st:Stmt} {rest:List Stmt} {t u:TS} {e:Expr} {te:TE} {pos:Pos}
def tNext:TS:=fun D σ H=>D.nx σ H
def tSeq (t u:TS):TS:=fun D σ H=>t { D with nx:=u D } σ H
theorem pss_nil:PSs X [] tNext:=fun _ _ σ H _ I h=>wpAny_execs_nil ⟨σ,H,I,h⟩
theorem pss_cons (h1:PS X st t) (h2:PSs X rest u):PSs X (st::rest) (tSeq t u):=by
  intro pins s σ H D I h
  refine wpAny_execs_cons (thn (h1 pins s σ H { D with nx:=u D } I h) fun f s1 q=>?_)
  cases f with
  | next =>
    obtain ⟨σ',H',I',q⟩:=q
    exact h2 pins s1 σ' H' D I' q
  | ret v=>exact q
  | brk=>exact q
  | cont=>exact q
theorem pss_one (h1:PS X st t):PSs X [st] t:=by
  intro pins s σ H D I h
  refine wpAny_execs_cons (thn (h1 pins s σ H D I h) fun f s1 q=>?_)
  cases f with
  | next=>exact wpAny_execs_nil q
  | ret v=>exact q
  | brk=>exact q
  | cont=>exact q
theorem Inv.quiet {pins:List (Addr×Obj)} {σ:St} {H:Hp} {s:Shared} (I:Inv X pins σ H s):interactive X.env=false:=by simp [interactive,I.ok.kind]
def tDrop (te:TE):TS:=fun D σ H=>te σ H fun _ H1=>D.nx σ H1
theorem ps_expr (he:PE X e te) (hs:swapsWith e none pos.line X.env=pure false:=by rfl):PS X (.Expr e pos) (tDrop te):=by
  intro pins s σ H D I h
  exact wpAny_Expr_any (thn (he pins s σ H _ I h) fun v s1 ⟨x,H1,I1,r1,q1⟩=>⟨σ,H1,I1,q1⟩) I.quiet hs
def tRet (te:TE):TS:=fun D σ H=>te σ H D.rt
theorem ps_ret (he:PE X e te):PS X (.Return (some e) pos) (tRet te):=by
  intro pins s σ H D I h
  exact wpAny_Return_some (thn (he pins s σ H _ I h) fun v s1 ⟨x,H1,I1,r1,q1⟩=>⟨x,σ,H1,I1,r1,q1⟩)
def tIfS (c:TT) (t u:TS):TS:=fun D σ H=>c σ H fun b H1=>if b=true then t D σ H1 else u D σ H1
theorem ps_if {c:Expr} {a b:List Stmt} {tc:TT} (hc:PT X c tc) (ha:PSs X a t) (hb:PSs X b u):PS X (.If c a b pos) (tIfS tc t u):=by
  intro pins s σ H D I h
  refine wpAny_If (thn (hc pins s σ H _ I h) fun d s1 ⟨H1,I1,q1⟩=>?_)
  cases d with
  | true=>exact ha pins s1 σ H1 D I1 q1
  | false=>exact hb pins s1 σ H1 D I1 q1
end
abbrev TG:=V→St→Hp→(St→Hp→Prop)→Prop
abbrev TGs:=List V→St→Hp→(St→Hp→Prop)→Prop
def PG (X:Cx) (target:Expr) (t:TG):Prop :=
  ∀(pins:List (Addr×Obj)) (s:Shared) (σ:St) (H:Hp) (v:V) (u:Value) (Q:St→Hp→Prop),Inv X pins σ H s→RelV v u→t v σ H Q →
    wpAny (model X.prog X.w) X.A (assign target X.env u) (fun _ s'=>∃σ' H',Inv X pins σ' H' s'∧Q σ' H') X.xe s
def PGs (X:Cx) (ts:List Expr) (t:TGs):Prop :=
  ∀(pins:List (Addr×Obj)) (s:Shared) (σ:St) (H:Hp) (vs:List V) (us:List Value) (Q:St→Hp→Prop),Inv X pins σ H s→Vals vs us→t vs σ H Q →
    wpAny (model X.prog X.w) X.A (assignInOrder ((assignEach ts X.env).map (·.2)) us) (fun _ s'=>∃σ' H',Inv X pins σ' H' s'∧Q σ' H') X.xe s
abbrev TIp:=V→V→Hp→VK→Prop
def PIp (X:Cx) (op:Operator) (t:TIp):Prop :=
  ∀(pins:List (Addr×Obj)) (s:Shared) (σ:St) (H:Hp) (x y:V) (v u:Value) (Q:VK),Inv X pins σ H s→RelV x v→RelV y u→t x y H Q →
    wpAny (model X.prog X.w) X.A (inplaceOp op v u) (EP X pins σ Q) X.xe s
section
variable {X:Cx} {pos:Pos}
def gName (i:Nat):TG:=fun v σ H Q=>Q (σ.set i (some v)) H
theorem pg_name {i:Nat} {x:Str} (hN:X.N.Nodup) (hi:X.N[i]? = some x) (hx:Loc X.env.scope x) (hf:X.fn x=true∨X.env.scope.names.lookup x=some .local:=by first | exact .inl rfl | exact .inr rfl | assumption):PG X (.Name x pos) (gName i):=by
  intro pins s σ H v u Q I r h
  exact wpAny_assign_Name (store_ok I hN hi hx r (fun s' I'=>⟨_,H,I',h⟩) hf)
def gNil:TGs:=fun vs σ H Q=>vs=[]∧Q σ H
def gCons (t:TG) (u:TGs):TGs:=fun vs σ H Q=>∃v r,vs=v::r∧t v σ H fun σ' H'=>u r σ' H' Q
theorem pgs_nil:PGs X [] gNil:=by
  intro pins s σ H vs us Q I r h
  obtain ⟨e,h⟩:=h
  subst e
  cases r
  exact assignInOrder_nil ⟨σ,H,I,h⟩
theorem pgs_cons {e:Expr} {es:List Expr} {t:TG} {u:TGs} (h1:PG X e t) (h2:PGs X es u)
    (hs:(assignEach (e::es) X.env).map (·.2)=assign e X.env::(assignEach es X.env).map (·.2):=by rfl):PGs X (e::es) (gCons t u):=by
  intro pins s σ H vs us Q I r h
  obtain ⟨v,vr,e1,h⟩:=h
  subst e1
  cases r with
  | cons r rr =>
    rw [hs]
    refine assignInOrder_cons (thn (h1 pins s σ H _ _ _ I r h) fun _ s1 ⟨σ1,H1,I1,q1⟩=>?_)
    exact h2 pins s1 σ1 H1 _ _ Q I1 rr q1
def gTup (K:PySem.W.Frag) (n:Nat) (t:TGs):TG:=fun v σ H Q=>∃a xs,v=.ref a∧SqT K H a xs∧xs.length=n∧t xs σ H Q
theorem pg_tup {es:List Expr} {k:Nat} {t:TGs} {n:Nat} (hc:X.calm=true) (h:PGs X es t)
    (hn:(assignEach es X.env).length=n:=by rfl) (hst:(assignEach es X.env).findIdx? (·.1)=none:=by rfl):PG X (.Tuple es k pos) (gTup X.K n t):=by
  intro pins s σ H v u Q I r hw
  obtain ⟨a,xs,e1,hq,hl,hw⟩:=hw
  subst e1
  cases r
  obtain ⟨its,rv,ht,hz⟩:=I.tuple hq
  refine assign_Tuple_tuple (I.ok.hd hc) ht (by simp [hn,← hl,rv.length]) hst fun h' hx=>?_
  have I1:Inv X pins σ H { s with heap:=h' }:=I.kept (t':=s.toks) fun b o e=>hx b o (Nat.ne_of_lt (Heap.lt_size e)) e
  exact h pins _ σ H xs _ Q I1 (by simpa using rv) hw
def tAsg (te:TE) (g:TG):TS:=fun D σ H=>te σ H fun x H1=>g x σ H1 D.nx
theorem ps_set {i:Nat} {x:Str} {e:Expr} {te:TE} {pos':Pos} (hN:X.N.Nodup) (hi:X.N[i]? = some x) (hx:Loc X.env.scope x) (he:PE X e te) (hs:swapsWith e (some (.Name x pos')) pos.line X.env=pure false:=by rfl) (hf:X.fn x=true∨X.env.scope.names.lookup x=some .local:=by first | exact .inl rfl | exact .inr rfl | assumption) :
    PS X (.Assign [.Name x pos'] e pos) (tAsg te (gName i)):=by
  intro pins s σ H D I h
  refine wpAny_Assign_Name (thn (he pins s σ H _ I h) fun v s1 ⟨y,H1,I1,r1,q1⟩=>?_) hs
  exact store_ok I1 hN hi hx r1 (fun s2 I2=>⟨_,H1,I2,q1⟩) hf
def tAug (i:Nat) (te:TE) (ti:TIp):TS:=fun D σ H=>∃x,σ[i]? = some (some x)∧te σ H fun y H1=>ti x y H1 fun z H2=>D.nx (σ.set i (some z)) H2
theorem ps_aug {i:Nat} {x:Str} {e:Expr} {te:TE} {op:Operator} {ti:TIp} {pos':Pos} (hN:X.N.Nodup) (hi:X.N[i]? = some x) (hx:Loc X.env.scope x) (he:PE X e te) (ho:PIp X op ti) (hf:X.fn x=true∨X.env.scope.names.lookup x=some .local:=by first | exact .inl rfl | exact .inr rfl | assumption) :
    PS X (.AugAssign (.Name x pos') op e pos) (tAug i te ti):=by
  intro pins s σ H D I h
  obtain ⟨v,e1,h⟩:=h
  obtain ⟨m,hn,hl⟩:=I.loc
  have vis:Vis X.env.scope x:=by rcases hx with k | k;exact .inl k;exact .inr (.inl k)
  obtain ⟨u,r,l⟩:=hl i x v hi e1 vis
  refine wpAny_AugAssign_Name ?_
  have go:wpAny (model X.prog X.w) X.A (eval e X.env) (fun w s₂=>wpAny (model X.prog X.w) X.A (inplaceOp op u w) (fun r s₃=>wpAny (model X.prog X.w) X.A (storeName X.env x r) (fun _=>SP X pins D .next) X.xe s₃) X.xe s₂) X.xe s:=by
    refine thn (he pins s σ H _ I h) fun w s1 ⟨y,H1,I1,r1,q1⟩=>?_
    refine thn (ho pins s1 σ H1 v y u w _ I1 r r1 q1) fun z s2 ⟨zv,H2,I2,r2,q2⟩=>?_
    exact store_ok I2 hN hi hx r2 (fun s3 I3=>⟨_,H2,I3,q2⟩) hf
  rcases l with ⟨hk,hm⟩ | ⟨hk,c,hc,hcell⟩
  · exact wpAny_loadName_local I.ok.kind hk hn hm go
  · rcases hk with hk | hk
    · exact wpAny_loadName_cell I.ok.kind hk hc hcell go
    · rcases hx with k | k
      · have:X.env.scope.names.lookup x=some .free:=hk
        rw [k] at this;cases this
      · have:X.env.scope.names.lookup x=some .free:=hk
        rw [k] at this;cases this
def ipI (f:Int→Int→Int):TIp:=fun x y H Q=>∃i j,x=.int i∧y=.int j∧Q (.int (f i j)) H
theorem ip_add:PIp X .Add (ipI fun i j=>i + j):=by
  intro pins s σ H x y v u Q I r1 r2 h
  obtain ⟨i,j,e1,e2,q⟩:=h
  subst e1;subst e2
  obtain ⟨t,rfl⟩:=r1
  obtain ⟨t',rfl⟩:=r2
  exact iadd_int ⟨.int _,H,I.tok _,⟨_,rfl⟩,q⟩
end
section
variable {X:Cx} {pos:Pos}
def tWhile (c:TT) (tb:TS):TS:=fun D σ H=>∃W:Nat→St→Hp→Prop,(∃m,W m σ H)∧∀m σ H,W m σ H →
  c σ H fun b H1=>if b=true then ∃N:St→Hp→Prop,(∀σ' H',N σ' H'→∃m',m' < m∧W m' σ' H')∧tb { D with nx:=N,ct:=N,bk:=D.nx } σ H1 else D.nx σ H1
theorem ps_while {c:Expr} {body:List Stmt} {tc:TT} {tb:TS} (hp:PassesOwn (model X.prog X.w) X.A X.env X.xe) (hc:PT X c tc) (hb:PSs X body tb):PS X (.While c body [] pos) (tWhile tc tb):=by
  intro pins s σ H D I h
  obtain ⟨W,⟨m0,w0⟩,turn⟩:=h
  refine wpAny_While (codeAny_whileLoop (fun n s'=>∃σ' H',Inv X pins σ' H' s'∧W n σ' H') ?_ m0 ⟨σ,H,I,w0⟩)
  rintro n s1 ⟨σ1,H1,I1,w1⟩
  refine wpAny_passesOwn hp (thn (hc pins s1 σ1 H1 _ I1 (turn n σ1 H1 w1)) fun b s2 ⟨H2,I2,q2⟩=>?_)
  cases b with
  | true =>
    obtain ⟨N,hN,q2⟩:=q2
    rw [if_pos rfl]
    refine wpAny_passesOwn hp (thn (hb pins s2 σ1 H2 _ I2 q2) fun f s3 q3=>?_)
    cases f with
    | next =>
      obtain ⟨σ3,H3,I3,n3⟩:=q3
      obtain ⟨m',hm,w3⟩:=hN σ3 H3 n3
      exact ⟨m',hm,σ3,H3,I3,w3⟩
    | cont =>
      obtain ⟨σ3,H3,I3,n3⟩:=q3
      obtain ⟨m',hm,w3⟩:=hN σ3 H3 n3
      exact ⟨m',hm,σ3,H3,I3,w3⟩
    | brk=>exact q3
    | ret v=>exact q3
  | false =>
    rw [if_neg Bool.false_ne_true]
    exact wpAny_execs_nil ⟨σ1,H2,I2,q2⟩
end
structure It where
  go:Nat→Hp→Prop
  yld:Nat→Hp→V→Hp→Prop
  stop:Nat→Hp→Prop
def FpOk (X:Cx) (pins:List (Addr×Obj)) (H:Hp) (b:Addr):Prop :=
  H b=none∧b≠X.env.locals∧b∉X.fs∧(b∈X.ex∨X.s_0.heap.objs.size≤b)∧(∀x c,X.env.cells.lookup x=some c→c≠b)∧∀p∈X.pn++pins,p.1≠b
theorem Inv.fpOk {X:Cx} {pins:List (Addr×Obj)} {σ:St} {H H':Hp} {s:Shared} {b:Addr} (I:Inv X pins σ H s) (hb:s.heap.objs.size≤b) (hn:H' b=none):FpOk X pins H' b:=by
  refine ⟨hn,Nat.ne_of_gt (Nat.lt_of_lt_of_le I.lt hb),I.nofs hb,.inr (Nat.le_trans I.sz hb),fun x c e z=>?_,fun p hp z=>?_⟩
  · obtain ⟨v,q⟩:=I.cell x c e
    exact absurd (Nat.lt_of_lt_of_le q.lt (by rw [z];exact hb)) (Nat.lt_irrefl _)
  · exact absurd (Nat.lt_of_lt_of_le (Heap.lt_size (I.pin p hp).1) (by rw [z];exact hb)) (Nat.lt_irrefl _)
structure Turn (P:Program) (w:World) (K:PySem.W.Frag) (tg:Expr) (J:It) (fp:List Addr) (it:Addr) (tn:Nat→Heap→Prop):Prop where
  mem:it∈fp
  obj:∀i h,tn i h→∀b∈fp,∃o,h.get? b=some o∧∀v,o.data≠.cell v
  keep:∀i h h',tn i h→(∀b∈fp,∀o,h.get? b=some o→h'.get? b=some o)→tn i h'
  item:∀(X:Cx),X.prog=P→X.w=w→X.K=K→X.calm=true→∀(i:Nat) (pins:List (Addr×Obj)) (s:Shared) (σ:St) (H:Hp) (E:Value→Shared→Prop),Inv X pins σ H s→(∀b∈fp,FpOk X pins H b)→tn i s.heap→J.go i H →
    wpAny (model P w) X.A (pyNext (.ref it)) (fun r s1=>∃u,r=some u ∧
      wpAny (model P w) X.A (letOwnedTupleGo tg (.ref it) u) (fun _ s2=>∃x H',Inv X pins σ H' s2∧RelV x u∧J.yld i H x H'∧tn (i + 1) s2.heap∧∀b∈fp,H' b=none) E s1) E s
  done:∀(X:Cx),X.prog=P→X.w=w→X.K=K→X.calm=true→∀(i:Nat) (pins:List (Addr×Obj)) (s:Shared) (σ:St) (H:Hp) (E:Value→Shared→Prop),Inv X pins σ H s→(∀b∈fp,FpOk X pins H b)→tn i s.heap→J.stop i H →
    wpAny (model P w) X.A (pyNext (.ref it)) (fun r s1=>r=none∧Inv X pins σ H s1) E s
  self:∀(A:Around) (i:Nat) (s:Shared) (Q:Value→Shared→Prop) (E:Value→Shared→Prop),tn i s.heap→Q (.ref it) s→wpAny (model P w) A (pyIter (.ref it)) Q E s
abbrev TI:=St→Hp→(It→Hp→Prop)→Prop
def PIE (X:Cx) (pins:List (Addr×Obj)) (σ:St) (tg:Expr) (R:It→Hp→Prop) (itv:Value) (s2:Shared):Prop :=
  ∃(it:Addr) (fp:List Addr) (tn:Nat→Heap→Prop) (J:It) (H':Hp),itv=.ref it∧Inv X pins σ H' s2∧Turn X.prog X.w X.K tg J fp it tn∧tn 0 s2.heap∧(∀b∈fp,FpOk X pins H' b)∧R J H'
def PI (X:Cx) (tg iter:Expr) (wi:TI):Prop :=
  ∀(pins:List (Addr×Obj)) (s:Shared) (σ:St) (H:Hp) (R:It→Hp→Prop),Inv X pins σ H s→wi σ H R →
    wpAny (model X.prog X.w) X.A (eval iter X.env) (fun v s1=>wpAny (model X.prog X.w) X.A (pyIter v) (PIE X pins σ tg R) X.xe s1) X.xe s
theorem go_of {M:Model} {A:Around} {E:Value→Shared→Prop} {s:Shared} {tg:Expr} {it:Addr} {u:Value} {o:Obj} {n:String} {vs:Array Value} {Q:Unit→Shared→Prop} (ho:s.heap.get? it=some o) (hc:o.cls=.type n) (hd:o.data=.fields vs)
    (hn:["enumerate", "zip", "dict_itemiterator", "dict_reverseitemiterator", "odict_iterator", "itertools.zip_longest", "itertools.pairwise"].contains n=false) (hQ:Q () s):wpAny M A (letOwnedTupleGo tg (.ref it) u) Q E s:=by
  unfold letOwnedTupleGo
  cases tg <;> first
    | exact wpAny_pure hQ
    | (cases u <;> first
        | exact wpAny_pure hQ
        | (refine wpAny_bind (wpAny_load ho ?_)
           rw [hc,hd]
           show wpAny M A (if (["enumerate", "zip", "dict_itemiterator", "dict_reverseitemiterator", "odict_iterator", "itertools.zip_longest", "itertools.pairwise"].contains n && vs[0]? == some (rawInt _))=true then _ else _) Q E s
           rw [if_neg (by intro h;rw [hn,Bool.false_and] at h;cases h)]
           exact wpAny_pure hQ))
def Itl (K:PySem.W.Frag) (a:Addr):It :=
  ⟨fun i H=>∃xs x,SqL K H a xs∧xs[i]? = some x,fun i H x H'=>H' = H∧∀xs,SqL K H a xs→xs[i]? = some x,fun i H=>∃xs,SqL K H a xs∧xs.length≤i⟩
def Itt (K:PySem.W.Frag) (a:Addr):It :=
  ⟨fun i H=>∃xs x,SqT K H a xs∧xs[i]? = some x,fun i H x H'=>H' = H∧∀xs,SqT K H a xs→xs[i]? = some x,fun i H=>∃xs,SqT K H a xs∧xs.length≤i⟩
def Itr (lo:Int) (n:Nat):It:=⟨fun i _=>i<n,fun i H x H'=>H' = H∧x=.int (lo + i),fun i _=>n≤i⟩
theorem turn_list {P:Program} {w:World} {K:PySem.W.Frag} {tg:Expr} (a it:Addr):Turn P w K tg (Itl K a) [it] it (fun i h=>h.IsListIter it a i) where
  mem:=by simp
  obj:=fun i h st b hb=>by
    have e:b=it:=by simpa using hb
    subst e
    obtain ⟨o,e,c,d⟩:=st
    exact ⟨o,e,fun v z=>by rw [d] at z;cases z⟩
  keep:=fun i h h' st k=>st.at fun o e=>k it (by simp) o e
  item:=by
    intro X hP hw hK hc i pins s σ H E I hf st hg
    subst hP hw hK
    obtain ⟨xs,x,hq,hx⟩:=hg
    obtain ⟨its,rv,p,hz⟩:=I.list hq
    obtain ⟨u,hu,ru⟩:=rv.get hx
    obtain ⟨f0,f1,f2,f3,f4,f5⟩:=hf it (by simp)
    refine wpAny_pyNext_list_item st p.isList (x:=u) (by simpa using hu) fun h' st' sb=>?_
    have I1:Inv X pins σ H { s with heap:=h' }:=I.turned (t':=s.toks) (fun b o hb e=>(sb.2 b hb).trans e) f0 f1 f3 f4 f5
    obtain ⟨o,e,c,d⟩:=id st'
    exact ⟨u,rfl,go_of (s:={ s with heap:=h' }) e c d (by decide) ⟨x,H,I1,ru,⟨rfl,fun ys hy=>by rw [I.list_inj hy hq];exact hx⟩,st',fun b hb=>(hf b hb).1⟩⟩
  done:=by
    intro X hP hw hK hc i pins s σ H E I hf st hg
    subst hP hw hK
    obtain ⟨xs,hq,hx⟩:=hg
    obtain ⟨its,rv,p,hz⟩:=I.list hq
    obtain ⟨f0,f1,f2,f3,f4,f5⟩:=hf it (by simp)
    have hl:=rv.length
    exact wpAny_pyNext_list_end (I.ok.hd hc) st p.isList (by simp;omega) fun h' eb=>⟨rfl,I.turned (t':=s.toks) (fun b o hb e=>eb b o hb e) f0 f1 f3 f4 f5⟩
  self:=fun _ _ _ _ _ st h=>wpAny_pyIter_listiter st h
theorem turn_tuple {P:Program} {w:World} {K:PySem.W.Frag} {tg:Expr} (a it:Addr):Turn P w K tg (Itt K a) [it] it (fun i h=>h.IsTupleIter it a i) where
  mem:=by simp
  obj:=fun i h st b hb=>by
    have e:b=it:=by simpa using hb
    subst e
    obtain ⟨o,e,c,d⟩:=st
    exact ⟨o,e,fun v z=>by rw [d] at z;cases z⟩
  keep:=fun i h h' st k=>st.at fun o e=>k it (by simp) o e
  item:=by
    intro X hP hw hK hc i pins s σ H E I hf st hg
    subst hP hw hK
    obtain ⟨xs,x,hq,hx⟩:=hg
    obtain ⟨its,rv,p,hz⟩:=I.tuple hq
    obtain ⟨u,hu,ru⟩:=rv.get hx
    obtain ⟨f0,f1,f2,f3,f4,f5⟩:=hf it (by simp)
    refine wpAny_pyNext_tuple_item st (show s.heap.IsTuple a its.toArray from p) (x:=u) (by simpa using hu) fun h' st' sb=>?_
    have I1:Inv X pins σ H { s with heap:=h' }:=I.turned (t':=s.toks) (fun b o hb e=>(sb.2 b hb).trans e) f0 f1 f3 f4 f5
    obtain ⟨o,e,c,d⟩:=id st'
    exact ⟨u,rfl,go_of (s:={ s with heap:=h' }) e c d (by decide) ⟨x,H,I1,ru,⟨rfl,fun ys hy=>by rw [I.tuple_inj hy hq];exact hx⟩,st',fun b hb=>(hf b hb).1⟩⟩
  done:=by
    intro X hP hw hK hc i pins s σ H E I hf st hg
    subst hP hw hK
    obtain ⟨xs,hq,hx⟩:=hg
    obtain ⟨its,rv,p,hz⟩:=I.tuple hq
    obtain ⟨f0,f1,f2,f3,f4,f5⟩:=hf it (by simp)
    have hl:=rv.length
    exact wpAny_pyNext_tuple_end (I.ok.hd hc) st (show s.heap.IsTuple a its.toArray from p) (by simp;omega) fun h' eb=>⟨rfl,I.turned (t':=s.toks) (fun b o hb e=>eb b o hb e) f0 f1 f3 f4 f5⟩
  self:=fun _ _ _ _ _ st h=>wpAny_pyIter_tupleiter st h
theorem turn_range {P:Program} {w:World} {K:PySem.W.Frag} {tg:Expr} (it:Addr) (lo:Int) (n:Nat):Turn P w K tg (Itr lo n) [it] it (fun i h=>IsRangeIter h it (lo + (i:Nat) * 1) ((n:Int) - (i:Nat)) 1) where
  mem:=by simp
  obj:=fun i h st b hb=>by
    have e:b=it:=by simpa using hb
    subst e
    exact ⟨_,st,fun v z=>by
      have z':Data.fields _=Data.cell v:=z
      cases z'⟩
  keep:=fun i h h' st k=>k it (by simp) _ st
  item:=by
    intro X hP hw hK hc i pins s σ H E I hf st hg
    subst hP hw hK
    obtain ⟨f0,f1,f2,f3,f4,f5⟩:=hf it (by simp)
    have W:=Walks.range (prog:=X.prog) (w:=X.w) (I.ok.hd hc) it lo 1 n
    refine W.item i s _ _ hg st fun v h' tk hv st' kk=>?_
    obtain ⟨t,rfl⟩:=hv
    have I1:Inv X pins σ H { s with heap:=h',toks:=tk }:=I.turned (fun b o hb e=>kk b o (by simpa using hb) e) f0 f1 f3 f4 f5
    refine ⟨_,rfl,go_of (s:={ s with heap:=h',toks:=tk }) (n:="range_iterator") st' rfl rfl (by decide) ⟨.int (lo + i),H,I1,⟨t,?_⟩,⟨rfl,rfl⟩,st',fun b hb=>(hf b hb).1⟩⟩
    rw [Int.mul_one]
  done:=by
    intro X hP hw hK hc i pins s σ H E I hf st hg
    subst hP hw hK
    obtain ⟨f0,f1,f2,f3,f4,f5⟩:=hf it (by simp)
    exact wpAny_pyNext_range_end (I.ok.hd hc) st (by have:n≤i:=hg;omega) fun h' eb=>⟨rfl,I.turned (t':=s.toks) (fun b o hb e=>eb b o hb e) f0 f1 f3 f4 f5⟩
  self:=fun _ _ _ _ _ st h=>wpAny_pyIter_rangeiter st h
end L2
namespace L2
open PySem PySem.Spec PyProof.Rows
section
variable {X:Cx} {tg:Expr}
def iList (K:PySem.W.Frag) (tl:TE):TI:=fun σ H R=>tl σ H fun x H1=>∃a,x=.ref a∧(∃xs,SqL K H1 a xs)∧R (Itl K a) H1
def iTup (K:PySem.W.Frag) (tl:TE):TI:=fun σ H R=>tl σ H fun x H1=>∃a,x=.ref a∧(∃xs,SqT K H1 a xs)∧R (Itt K a) H1
theorem pi_list {l:Expr} {tl:TE} (hl:PE X l tl):PI X tg l (iList X.K tl):=by
  intro pins s σ H R I h
  refine thn (hl pins s σ H _ I h) fun v s1 ⟨x,H1,I1,r1,q1⟩=>?_
  obtain ⟨a,e,⟨xs,hq⟩,q⟩:=q1
  subst e
  cases r1
  obtain ⟨its,rv,p,hz⟩:=I1.list hq
  refine wpAny_pyIter_list p.isList ?_
  refine ⟨s1.heap.objs.size,[s1.heap.objs.size],_,_,H1,rfl,I1.kept (t':=s1.toks) fun b o e=>Heap.get?_push_of_some _ e,turn_list a _,⟨_,Heap.get?_push_size _ rfl,rfl,rfl⟩,fun b hb=>?_,q⟩
  have e:b=s1.heap.objs.size:=by simpa using hb
  subst e
  exact I1.fpOk (Nat.le_refl _) (I1.hok.fresh (Nat.le_refl _))
theorem pi_tup {l:Expr} {tl:TE} (hl:PE X l tl):PI X tg l (iTup X.K tl):=by
  intro pins s σ H R I h
  refine thn (hl pins s σ H _ I h) fun v s1 ⟨x,H1,I1,r1,q1⟩=>?_
  obtain ⟨a,e,⟨xs,hq⟩,q⟩:=q1
  subst e
  cases r1
  obtain ⟨its,rv,p,hz⟩:=I1.tuple hq
  refine wpAny_pyIter_tuple (show s1.heap.IsTuple a its.toArray from p) ?_
  refine ⟨s1.heap.objs.size,[s1.heap.objs.size],_,_,H1,rfl,I1.kept (t':=s1.toks) fun b o e=>Heap.get?_push_of_some _ e,turn_tuple a _,⟨_,Heap.get?_push_size _ rfl,rfl,rfl⟩,fun b hb=>?_,q⟩
  have e:b=s1.heap.objs.size:=by simpa using hb
  subst e
  exact I1.fpOk (Nat.le_refl _) (I1.hok.fresh (Nat.le_refl _))
theorem range_it {pins:List (Addr×Obj)} {σ:St} {H:Hp} {s:Shared} {R:It→Hp→Prop} {E:Value→Shared→Prop} {lo hi:Int} {t u v:Tok} {tk:Nat} (I:Inv X pins σ H s) (h1:-(2 ^ 62)≤lo) (h2:lo<2 ^ 62) (h3:-(2 ^ 62)≤hi) (h4:hi<2 ^ 62)
    (q:R (Itr lo (hi - lo).toNat) H):wpAny (model X.prog X.w) X.A (pyIter (.ref s.heap.objs.size)) (PIE X pins σ tg R) E { s with heap:=s.heap.push { cls:=.type "range", data:=.fields #[.int lo t,.int hi u,.int 1 v] },toks:=tk }:=by
  refine wpAny_pyIter_range (IsRange.new ..) (small_one h1 h2 h3 h4) ?_
  have I1:Inv X pins σ H { s with heap:=s.heap.push { cls:=.type "range", data:=.fields #[.int lo t,.int hi u,.int 1 v] },toks:=tk }:=I.kept fun b o e=>Heap.get?_push_of_some _ e
  refine ⟨(s.heap.push { cls:=.type "range", data:=.fields #[.int lo t,.int hi u,.int 1 v] }).objs.size,[(s.heap.push { cls:=.type "range", data:=.fields #[.int lo t,.int hi u,.int 1 v] }).objs.size],_,_,H,rfl,
    I1.kept (t':=tk) fun b o e=>Heap.get?_push_of_some _ e,turn_range _ lo (hi - lo).toNat,?_,fun b hb=>?_,q⟩
  · have e1:lo + ((0:Nat):Int) * 1=lo:=by simp
    have e2:(((hi - lo).toNat:Nat):Int) - ((0:Nat):Int)=Builtin.Range.rangeSize lo hi 1:=by rw [rangeSize_one];split <;> omega
    show IsRangeIter _ _ (lo + ((0:Nat):Int) * 1) ((((hi - lo).toNat:Nat):Int) - ((0:Nat):Int)) 1
    rw [e1,e2]
    exact Heap.get?_push_size _ rfl
  · have e:b=(s.heap.push { cls:=.type "range", data:=.fields #[.int lo t,.int hi u,.int 1 v] }).objs.size:=by simpa using hb
    subst e
    exact I1.fpOk (Nat.le_refl _) (I1.hok.fresh (Nat.le_refl _))
def iRng1 (ta:TA):TI:=fun σ H R=>ta σ H fun vs H1=>∃j:Int,vs=[.int j]∧-(2 ^ 62)≤j∧j<2 ^ 62∧R (Itr 0 j.toNat) H1
theorem pi_range1 {a:Expr} {ta:TA} {p pos:Pos} (hg:Gl X "range") (hm:X.mg "range" = none) (ha:PA X [a] ta) (hs:starEach [a] X.env=[(false,eval a X.env)]:=by rfl):PI X tg (.Call (.Name "range" p) [a] [] pos) (iRng1 ta):=by
  intro pins s σ H R I h
  refine Call_ (ld_blt I hg hm boot_range (PyProof.Rows.callWith_type1 (thn (ha pos pins s σ H _ I h) fun us s1 ⟨vs,H1,I1,r1,q1⟩=>?_) hs rfl))
  obtain ⟨j,e,q1,q2,q⟩:=q1
  subst e
  cases r1 with
  | cons r rr =>
    cases rr
    obtain ⟨t,rfl⟩:=r
    exact call_range_1 (range_it I1 (by omega) (by omega) q1 q2 (by simpa using q))
def tFor (wi:TI) (g:TG) (tb:TS):TS:=fun D σ H=>wi σ H fun J H1=>∃W:Nat→Nat→St→Hp→Prop,(∃m,W 0 m σ H1)∧∀i m σ H,W i m σ H →
  (J.stop i H∧D.nx σ H)∨(J.go i H∧∃N:St→Hp→Prop,(∀σ' H',N σ' H'→∃m',m' < m∧W (i + 1) m' σ' H')∧∀x H',J.yld i H x H'→g x σ H' fun σ2 H2=>tb { D with nx:=N,ct:=N,bk:=D.nx } σ2 H2)
def pinsAt (fp:List Addr) (h:Heap):List (Addr×Obj):=fp.filterMap fun b=>(h.get? b).map fun o=>(b,o)
theorem mem_pinsAt {fp:List Addr} {h:Heap} {b:Addr} {o:Obj} (hb:b∈fp) (e:h.get? b=some o):(b,o)∈pinsAt fp h:=List.mem_filterMap.mpr ⟨b,hb,by rw [e];rfl⟩
theorem of_pinsAt {fp:List Addr} {h:Heap} {p:Addr×Obj} (hp:p∈pinsAt fp h):p.1∈fp∧h.get? p.1=some p.2:=by
  obtain ⟨b,hb,e⟩:=List.mem_filterMap.mp hp
  cases q:h.get? b with
  | none=>rw [q] at e;cases e
  | some o =>
    rw [q] at e
    have e':(b,o)=p:=Option.some.inj e
    subst e'
    exact ⟨hb,q⟩
theorem Inv.pinned {pins:List (Addr×Obj)} {σ:St} {H:Hp} {s:Shared} {fp:List Addr} (I:Inv X pins σ H s) (hf:∀b∈fp,FpOk X pins H b) (ho:∀b∈fp,∃o,s.heap.get? b=some o∧∀v,o.data≠.cell v):Inv X (pins++pinsAt fp s.heap) σ H s :=
  I.pins_of fun p hp=>(List.mem_append.mp hp).elim (fun z=>I.pin p (List.mem_append_right _ z)) fun z=>by
    obtain ⟨hb,e⟩:=of_pinsAt z
    obtain ⟨f0,f1,f2,_⟩:=hf p.1 hb
    obtain ⟨o,e',d⟩:=ho p.1 hb
    rw [e] at e';cases e'
    exact ⟨e,f0,f1,f2,d⟩
theorem Inv.unpinned {pins pl:List (Addr×Obj)} {σ:St} {H:Hp} {s:Shared} (I:Inv X (pins++pl) σ H s):Inv X pins σ H s:=I.pins_of fun p hp=>I.pin p (List.mem_append_right _ (List.mem_append_left _ hp))
theorem ps_for {iter:Expr} {body:List Stmt} {wi:TI} {g:TG} {tb:TS} {pos:Pos} (hp:PassesOwn (model X.prog X.w) X.A X.env X.xe) (hc:X.calm=true) (hi:PI X tg iter wi) (hg:PG X tg g) (hb:PSs X body tb)
    (hs:∀x,foldedSetIterable iter X.env x=pure x:=by intro _;rfl):PS X (.For tg iter body [] pos) (tFor wi g tb):=by
  intro pins s σ H D I h
  refine wpAny_For (thn (hi pins s σ H _ I h) fun v s1 h1=>thn h1 fun itv s2 h2=>?_) hs
  obtain ⟨it,fp,tn,J,H2,e,I2,T,st2,f2,W,⟨m0,w0⟩,turn⟩:=h2
  subst e
  have stat:∀{H':Hp},(∀b∈fp,H' b=none)→∀b∈fp,FpOk X pins H' b:=fun hn b hb=>⟨hn b hb,(f2 b hb).2⟩
  refine codeAny_forLoop_any (fun n s'=>∃i σ' H',Inv X pins σ' H' s'∧tn i s'.heap∧(∀b∈fp,H' b=none)∧W i n σ' H') ?_ m0 ⟨0,σ,H2,I2,st2,fun b hb=>(f2 b hb).1,w0⟩
  rintro n s3 ⟨i,σ3,H3,I3,st3,fr3,w3⟩
  rcases turn i n σ3 H3 w3 with ⟨stop,qn⟩ | ⟨go,N,hN,step⟩
  · refine wpAny_passesOwn hp (thn (T.done X rfl rfl rfl hc i pins s3 σ3 H3 X.xe I3 (stat fr3) st3 stop) fun r s4 ⟨hr,I4⟩=>?_)
    subst hr
    exact wpAny_execs_nil ⟨σ3,H3,I4,qn⟩
  · refine wpAny_passesOwn hp (thn (T.item X rfl rfl rfl hc i pins s3 σ3 H3 X.xe I3 (stat fr3) st3 go) fun r s4 ⟨u,hr,h4⟩=>?_)
    subst hr
    refine wpAny_passesOwn hp (thn h4 fun _ s5 ⟨x,H5,I5,r5,y5,st5,fr5⟩=>?_)
    have I5':=I5.pinned (stat fr5) (T.obj _ _ st5)
    refine wpAny_passesOwn hp (thn (hg _ s5 σ3 H5 x u _ I5' r5 (step x H5 y5)) fun _ s6 ⟨σ6,H6,I6,q6⟩=>?_)
    refine wpAny_passesOwn hp (thn (hb _ s6 σ6 H6 _ I6 q6) fun f s7 q7=>?_)
    have again:∀{σ7:St} {H7:Hp},Inv X (pins++pinsAt fp s5.heap) σ7 H7 s7→N σ7 H7→∃m,m<n∧∃i σ' H',Inv X pins σ' H' s7∧tn i s7.heap∧(∀b∈fp,H' b=none)∧W i m σ' H':=fun {σ7 H7} I7 n7=>by
      obtain ⟨m',hm,w7⟩:=hN σ7 H7 n7
      refine ⟨m',hm,i + 1,σ7,H7,I7.unpinned,T.keep _ _ _ st5 fun b hb o e=>(I7.pin (b,o) (List.mem_append_right _ (List.mem_append_right _ (mem_pinsAt hb e)))).1,fun b hb=>?_,w7⟩
      obtain ⟨o,e,d⟩:=T.obj _ _ st5 b hb
      exact (I7.pin (b,o) (List.mem_append_right _ (List.mem_append_right _ (mem_pinsAt hb e)))).2.1
    cases f with
    | next=>obtain ⟨σ7,H7,I7,n7⟩:=q7;exact again I7 n7
    | cont=>obtain ⟨σ7,H7,I7,n7⟩:=q7;exact again I7 n7
    | brk=>obtain ⟨σ7,H7,I7,q7⟩:=q7;exact ⟨σ7,H7,I7.unpinned,q7⟩
    | ret v=>obtain ⟨x7,σ7,H7,I7,r7,q7⟩:=q7;exact ⟨x7,σ7,H7,I7.unpinned,r7,q7⟩
end
theorem for_list {K:PySem.W.Frag} {a:Addr} {xs:List V} {g:TG} {tb:TS} {D:Ends} {σ:St} {H:Hp} (Pv:Nat→St→Hp→Prop) (h0:Pv 0 σ H) (hl:∀i σ H,i≤xs.length→Pv i σ H→SqL K H a xs)
    (hs:∀i x σ H,xs[i]? = some x→Pv i σ H→g x σ H fun σ2 H2=>tb { D with nx:=Pv (i + 1),ct:=Pv (i + 1),bk:=D.nx } σ2 H2) (hd:∀σ H,Pv xs.length σ H→D.nx σ H) :
    ∃W:Nat→Nat→St→Hp→Prop,(∃m,W 0 m σ H)∧∀i m σ H,W i m σ H →
      ((Itl K a).stop i H∧D.nx σ H)∨((Itl K a).go i H∧∃N:St→Hp→Prop,(∀σ' H',N σ' H'→∃m',m' < m∧W (i + 1) m' σ' H')∧∀x H',(Itl K a).yld i H x H'→g x σ H' fun σ2 H2=>tb { D with nx:=N,ct:=N,bk:=D.nx } σ2 H2):=by
  refine ⟨fun i m σ H=>m=xs.length - i∧i≤xs.length∧Pv i σ H,⟨xs.length,by simp,Nat.zero_le _,h0⟩,?_⟩
  rintro i m σ H ⟨rfl,hi,p⟩
  have q:=hl i σ H hi p
  by_cases hlt:i<xs.length
  · refine .inr ⟨⟨xs,xs[i],q,by simp [hlt]⟩,Pv (i + 1),fun σ' H' p'=>⟨xs.length - (i + 1),by omega,rfl,hlt,p'⟩,fun x H' y=>?_⟩
    obtain ⟨e,y⟩:=y
    subst e
    exact hs i x σ _ (y xs q) p
  · have e:i=xs.length:=by omega
    subst e
    exact .inl ⟨⟨xs,q,Nat.le_refl _⟩,hd σ H p⟩
theorem for_tup {K:PySem.W.Frag} {a:Addr} {xs:List V} {g:TG} {tb:TS} {D:Ends} {σ:St} {H:Hp} (Pv:Nat→St→Hp→Prop) (h0:Pv 0 σ H) (hl:∀i σ H,i≤xs.length→Pv i σ H→SqT K H a xs)
    (hs:∀i x σ H,xs[i]? = some x→Pv i σ H→g x σ H fun σ2 H2=>tb { D with nx:=Pv (i + 1),ct:=Pv (i + 1),bk:=D.nx } σ2 H2) (hd:∀σ H,Pv xs.length σ H→D.nx σ H) :
    ∃W:Nat→Nat→St→Hp→Prop,(∃m,W 0 m σ H)∧∀i m σ H,W i m σ H →
      ((Itt K a).stop i H∧D.nx σ H)∨((Itt K a).go i H∧∃N:St→Hp→Prop,(∀σ' H',N σ' H'→∃m',m' < m∧W (i + 1) m' σ' H')∧∀x H',(Itt K a).yld i H x H'→g x σ H' fun σ2 H2=>tb { D with nx:=N,ct:=N,bk:=D.nx } σ2 H2):=by
  refine ⟨fun i m σ H=>m=xs.length - i∧i≤xs.length∧Pv i σ H,⟨xs.length,by simp,Nat.zero_le _,h0⟩,?_⟩
  rintro i m σ H ⟨rfl,hi,p⟩
  have q:=hl i σ H hi p
  by_cases hlt:i<xs.length
  · refine .inr ⟨⟨xs,xs[i],q,by simp [hlt]⟩,Pv (i + 1),fun σ' H' p'=>⟨xs.length - (i + 1),by omega,rfl,hlt,p'⟩,fun x H' y=>?_⟩
    obtain ⟨e,y⟩:=y
    subst e
    exact hs i x σ _ (y xs q) p
  · have e:i=xs.length:=by omega
    subst e
    exact .inl ⟨⟨xs,q,Nat.le_refl _⟩,hd σ H p⟩
theorem for_range {lo:Int} {n:Nat} {g:TG} {tb:TS} {D:Ends} {σ:St} {H:Hp} (Pv:Nat→St→Hp→Prop) (h0:Pv 0 σ H)
    (hs:∀i σ H,i<n→Pv i σ H→g (.int (lo + i)) σ H fun σ2 H2=>tb { D with nx:=Pv (i + 1),ct:=Pv (i + 1),bk:=D.nx } σ2 H2) (hd:∀σ H,Pv n σ H→D.nx σ H) :
    ∃W:Nat→Nat→St→Hp→Prop,(∃m,W 0 m σ H)∧∀i m σ H,W i m σ H →
      ((Itr lo n).stop i H∧D.nx σ H)∨((Itr lo n).go i H∧∃N:St→Hp→Prop,(∀σ' H',N σ' H'→∃m',m' < m∧W (i + 1) m' σ' H')∧∀x H',(Itr lo n).yld i H x H'→g x σ H' fun σ2 H2=>tb { D with nx:=N,ct:=N,bk:=D.nx } σ2 H2):=by
  refine ⟨fun i m σ H=>m=n - i∧i≤n∧Pv i σ H,⟨n,by simp,Nat.zero_le _,h0⟩,?_⟩
  rintro i m σ H ⟨rfl,hi,p⟩
  by_cases hlt:i<n
  · refine .inr ⟨hlt,Pv (i + 1),fun σ' H' p'=>⟨n - (i + 1),by omega,rfl,hlt,p'⟩,fun x H' y=>?_⟩
    obtain ⟨e,y⟩:=y
    subst e y
    exact hs i σ _ hlt p
  · have e:i=n:=by omega
    subst e
    exact .inl ⟨Nat.le_refl _,hd σ H p⟩
end L2
namespace L2
open PySem PySem.Spec PyProof.Rows
abbrev R2:=V→V→Hp→VK→Prop
def OpR (X:Cx) (f:Value→Value→Sem Value) (r:R2):Prop :=
  ∀(pins:List (Addr×Obj)) (s:Shared) (σ:St) (H:Hp) (x y:V) (v u:Value) (Q:VK),Inv X pins σ H s→RelV x v→RelV y u→r x y H Q →
    wpAny (model X.prog X.w) X.A (f v u) (EP X pins σ Q) X.xe s
def UnR (X:Cx) (f:Value→Sem Value) (r:V→Hp→VK→Prop):Prop :=
  ∀(pins:List (Addr×Obj)) (s:Shared) (σ:St) (H:Hp) (x:V) (v:Value) (Q:VK),Inv X pins σ H s→RelV x v→r x H Q →
    wpAny (model X.prog X.w) X.A (f v) (EP X pins σ Q) X.xe s
def CallR (X:Cx) (f:Value) (r:List V→Hp→VK→Prop):Prop :=
  ∀(pins:List (Addr×Obj)) (s:Shared) (σ:St) (H:Hp) (xs:List V) (us:List Value) (Q:VK),Inv X pins σ H s→Vals xs us→r xs H Q →
    wpAny (model X.prog X.w) X.A (call f us) (EP X pins σ Q) X.xe s
def tOp (r:R2) (ta tb:TE):TE:=fun σ H Q=>ta σ H fun x H1=>tb σ H1 fun y H2=>r x y H2 Q
def tUn (r:V→Hp→VK→Prop) (ta:TE):TE:=fun σ H Q=>ta σ H fun x H1=>r x H1 Q
def rI0 (g:Int→Int→V):R2:=fun x y H Q=>∃i j,x=.int i∧y=.int j∧Q (g i j) H
def rU (g:Int→V):V→Hp→VK→Prop:=fun x H Q=>∃i,x=.int i∧Q (g i) H
section
variable {X:Cx} {a b c:Expr} {ta tb tc:TE} {pos:Pos}
theorem binT (ha:PE X a ta) (hb:PE X b tb) {pins:List (Addr×Obj)} {s:Shared} {σ:St} {H:Hp} {R:V→V→Hp→Prop} (I:Inv X pins σ H s)
    (h:ta σ H fun x H1=>tb σ H1 fun y H2=>R x y H2) {Q:Value→Shared→Prop} {f:Value→Value→Sem Value}
    (hf:∀v u s2 x y H2,Inv X pins σ H2 s2→RelV x v→RelV y u→R x y H2→wpAny (model X.prog X.w) X.A (f v u) Q X.xe s2) :
    wpAny (model X.prog X.w) X.A (eval a X.env) (fun v s₁=>wpAny (model X.prog X.w) X.A (eval b X.env) (fun u s₂=>wpAny (model X.prog X.w) X.A (f v u) Q X.xe s₂) X.xe s₁) X.xe s:=by
  refine thn (ha pins s σ H _ I h) fun v s1 ⟨x,H1,I1,r1,q1⟩=>?_
  refine thn (hb pins s1 σ H1 _ I1 q1) fun u s2 ⟨y,H2,I2,r2,q2⟩=>?_
  exact hf v u s2 x y H2 I2 r1 r2 q2
theorem pe_op {op:Operator} {r:R2} (ho:OpR X (binaryOp op) r) (ha:PE X a ta) (hb:PE X b tb):PE X (.BinOp a op b pos) (tOp r ta tb):=by
  intro pins s σ H Q I h
  exact wpAny_BinOp (binT ha hb I h fun v u s2 x y H2 I2 rx ry q=>ho pins s2 σ H2 x y v u Q I2 rx ry q)
theorem pe_un {op:UnaryOp} {r:V→Hp→VK→Prop} (ho:UnR X (unaryOp op) r) (ha:PE X a ta):PE X (.UnaryOp op a pos) (tUn r ta):=by
  intro pins s σ H Q I h
  exact UnaryOp_ (thn (ha pins s σ H _ I h) fun v s1 ⟨x,H1,I1,r1,q1⟩=>ho pins s1 σ H1 x v Q I1 r1 q1)
theorem opI0 {f:Value→Value→Sem Value} {g:Int→Int→Int}
    (rule:∀(i j:Int) (t u:Tok) (s:Shared) (Q:Value→Shared→Prop) (E:Value→Shared→Prop),Q (.int (g i j) s.toks) { s with toks:=s.toks + 1 }→wpAny (model X.prog X.w) X.A (f (.int i t) (.int j u)) Q E s) :
    OpR X f (rI0 fun i j=>.int (g i j)):=by
  intro pins s σ H x y v u Q I rx ry h
  obtain ⟨i,j,rfl,rfl,q⟩:=h
  obtain ⟨t,rfl⟩:=rx
  obtain ⟨t',rfl⟩:=ry
  exact rule i j t t' s _ _ ⟨.int (g i j),H,I.tok _,⟨_,rfl⟩,q⟩
theorem opB0 {f:Value→Value→Sem Value} {g:Int→Int→Bool}
    (rule:∀(i j:Int) (t u:Tok) (s:Shared) (Q:Value→Shared→Prop) (E:Value→Shared→Prop),Q (.bool (g i j)) s→wpAny (model X.prog X.w) X.A (f (.int i t) (.int j u)) Q E s) :
    OpR X f (rI0 fun i j=>.bl (g i j)):=by
  intro pins s σ H x y v u Q I rx ry h
  obtain ⟨i,j,rfl,rfl,q⟩:=h
  obtain ⟨t,rfl⟩:=rx
  obtain ⟨t',rfl⟩:=ry
  exact rule i j t t' s _ _ ⟨.bl (g i j),H,I,rfl,q⟩
theorem op_add:OpR X (binaryOp .Add) (rI0 fun i j=>.int (i + j)):=opI0 fun _ _ _ _ _ _ _ q=>add_int q
theorem op_sub:OpR X (binaryOp .Sub) (rI0 fun i j=>.int (i - j)):=opI0 fun _ _ _ _ _ _ _ q=>sub_int q
theorem unI {f:Value→Sem Value} {g:Int→Int}
    (rule:∀(i:Int) (t:Tok) (s:Shared) (Q:Value→Shared→Prop) (E:Value→Shared→Prop),Q (.int (g i) s.toks) { s with toks:=s.toks + 1 }→wpAny (model X.prog X.w) X.A (f (.int i t)) Q E s) :
    UnR X f (rU fun i=>.int (g i)):=by
  intro pins s σ H x v Q I rx h
  obtain ⟨i,rfl,q⟩:=h
  obtain ⟨t,rfl⟩:=rx
  exact rule i t s _ _ ⟨.int (g i),H,I.tok _,⟨_,rfl⟩,q⟩
theorem un_neg:UnR X (unaryOp .USub) (rU fun i=>.int (-i)):=unI fun _ _ _ _ _ q=>neg_int q
end
def scal:V→V→Bool
  | .non,.non=>true | .non,.int _=>true | .int _,.non=>true | .non,.bl _=>true | .bl _,.non=>true | .non,.str _=>true | .str _,.non=>true
  | .int _,.int _=>true | .bl _,.bl _=>true | .str _,.str _=>true | .byt _,.byt _=>true
  | .int _,.str _=>true | .str _,.int _=>true | .bl _,.str _=>true | .str _,.bl _=>true
  | _,_=>false
def rEq:R2:=fun x y H Q=>scal x y=true∧Q (.bl (decide (x=y))) H
def rNe:R2:=fun x y H Q=>scal x y=true∧Q (.bl (!decide (x=y))) H
theorem dec_int {i j:Int}:decide (V.int i=V.int j)=(i == j):=by
  rw [Bool.eq_iff_iff]
  simp
theorem dec_bl {i j:Bool}:decide (V.bl i=V.bl j)=(i == j):=by
  rw [Bool.eq_iff_iff]
  simp
theorem dec_str {i j:Str}:decide (V.str i=V.str j)=(i == j):=by
  rw [Bool.eq_iff_iff]
  simp
theorem dec_byt {i j:Array UInt8}:decide (V.byt i=V.byt j)=(i.toList == j.toList):=by
  rw [Bool.eq_iff_iff]
  cases i
  cases j
  simp
section
variable {X:Cx} {a b c:Expr} {ta tb tc:TE} {pos:Pos}
theorem fin_bl {pins:List (Addr×Obj)} {σ:St} {H:Hp} {s:Shared} {Q:VK} {k k':Bool} (I:Inv X pins σ H s) (q:Q (.bl k) H) (e:k=k'):EP X pins σ Q (.bool k') s:=by
  subst e
  exact ⟨.bl k,H,I,rfl,q⟩
theorem op_eq:OpR X (compareOp .Eq) rEq:=by
  intro pins s σ H x y v u Q I rx ry h
  obtain ⟨hs,q⟩:=h
  cases x with
  | non =>
    cases rx
    cases y with
    | non=>cases ry;exact PySem.EqNone.eq_none_none (fin_bl I q (by simp))
    | bl j=>cases ry;exact PySem.EqNone.eq_none_bool (fin_bl I q (by simp))
    | int j=>obtain ⟨t',rfl⟩:=ry;exact PySem.EqNone.eq_none_int (fin_bl I q (by simp))
    | str j=>obtain ⟨t',rfl⟩:=ry;exact PySem.EqNone.eq_none_str (fin_bl I q (by simp))
    | _=>exact absurd (show false=true from hs) Bool.false_ne_true
  | bl i =>
    cases rx
    cases y with
    | non=>cases ry;exact PySem.EqNone.eq_bool_none (fin_bl I q (by simp))
    | bl j=>cases ry;exact eq_bool (fin_bl I q dec_bl)
    | str j=>obtain ⟨t',rfl⟩:=ry;exact PySem.EqMixed.eq_bool_str (fin_bl I q (by simp))
    | _=>exact absurd (show false=true from hs) Bool.false_ne_true
  | int i =>
    obtain ⟨t,rfl⟩:=rx
    cases y with
    | non=>cases ry;exact PySem.EqNone.eq_int_none (fin_bl I q (by simp))
    | int j=>obtain ⟨t',rfl⟩:=ry;exact eq_int (fin_bl I q dec_int)
    | str j=>obtain ⟨t',rfl⟩:=ry;exact PySem.EqMixed.eq_int_str (fin_bl I q (by simp))
    | _=>exact absurd (show false=true from hs) Bool.false_ne_true
  | str i =>
    obtain ⟨t,rfl⟩:=rx
    cases y with
    | non=>cases ry;exact PySem.EqNone.eq_str_none (fin_bl I q (by simp))
    | bl j=>cases ry;exact PySem.EqMixed.eq_str_bool (fin_bl I q (by simp))
    | int j=>obtain ⟨t',rfl⟩:=ry;exact PySem.EqMixed.eq_str_int (fin_bl I q (by simp))
    | str j=>obtain ⟨t',rfl⟩:=ry;exact eq_str (fin_bl I q dec_str)
    | _=>exact absurd (show false=true from hs) Bool.false_ne_true
  | byt i =>
    obtain ⟨t,rfl⟩:=rx
    cases y with
    | byt j=>obtain ⟨t',rfl⟩:=ry;exact PySem.W.eq_bytes (fin_bl I q dec_byt)
    | _=>exact absurd (show false=true from hs) Bool.false_ne_true
  | _=>cases y <;> exact absurd (show false=true from hs) Bool.false_ne_true
theorem op_ne:OpR X (compareOp .NotEq) rNe:=by
  intro pins s σ H x y v u Q I rx ry h
  obtain ⟨hs,q⟩:=h
  cases x with
  | non =>
    cases rx
    cases y with
    | non=>cases ry;exact PySem.EqNone.ne_none_none (fin_bl I q (by simp))
    | bl j=>cases ry;exact PySem.EqNone.ne_none_bool (fin_bl I q (by simp))
    | int j=>obtain ⟨t',rfl⟩:=ry;exact PySem.EqNone.ne_none_int (fin_bl I q (by simp))
    | str j=>obtain ⟨t',rfl⟩:=ry;exact PySem.EqNone.ne_none_str (fin_bl I q (by simp))
    | _=>exact absurd (show false=true from hs) Bool.false_ne_true
  | bl i =>
    cases rx
    cases y with
    | non=>cases ry;exact PySem.EqNone.ne_bool_none (fin_bl I q (by simp))
    | bl j=>cases ry;exact ne_bool (fin_bl I q (congrArg not dec_bl))
    | str j=>obtain ⟨t',rfl⟩:=ry;exact PySem.EqMixed.ne_bool_str (fin_bl I q (by simp))
    | _=>exact absurd (show false=true from hs) Bool.false_ne_true
  | int i =>
    obtain ⟨t,rfl⟩:=rx
    cases y with
    | non=>cases ry;exact PySem.EqNone.ne_int_none (fin_bl I q (by simp))
    | int j=>obtain ⟨t',rfl⟩:=ry;exact ne_int (fin_bl I q (congrArg not dec_int))
    | str j=>obtain ⟨t',rfl⟩:=ry;exact PySem.EqMixed.ne_int_str (fin_bl I q (by simp))
    | _=>exact absurd (show false=true from hs) Bool.false_ne_true
  | str i =>
    obtain ⟨t,rfl⟩:=rx
    cases y with
    | non=>cases ry;exact PySem.EqNone.ne_str_none (fin_bl I q (by simp))
    | bl j=>cases ry;exact PySem.EqMixed.ne_str_bool (fin_bl I q (by simp))
    | int j=>obtain ⟨t',rfl⟩:=ry;exact PySem.EqMixed.ne_str_int (fin_bl I q (by simp))
    | str j=>obtain ⟨t',rfl⟩:=ry;exact ne_str (fin_bl I q (congrArg not dec_str))
    | _=>exact absurd (show false=true from hs) Bool.false_ne_true
  | byt i =>
    obtain ⟨t,rfl⟩:=rx
    cases y with
    | byt j=>obtain ⟨t',rfl⟩:=ry;exact PySem.W.ne_bytes (fin_bl I q (congrArg not dec_byt))
    | _=>exact absurd (show false=true from hs) Bool.false_ne_true
  | _=>cases y <;> exact absurd (show false=true from hs) Bool.false_ne_true
theorem op_lt:OpR X (compareOp .Lt) (rI0 fun i j=>.bl (decide (i<j))):=opB0 fun _ _ _ _ _ _ _ q=>lt_int q
theorem op_gt:OpR X (compareOp .Gt) (rI0 fun i j=>.bl (decide (j<i))):=opB0 fun _ _ _ _ _ _ _ q=>gt_int q
theorem op_ge:OpR X (compareOp .GtE) (rI0 fun i j=>.bl (decide (j≤i))):=opB0 fun _ _ _ _ _ _ _ q=>ge_int q
theorem nomark (b:Expr) {op:CmpOp} (h:op≠.In:=by decide) (h2:op≠.NotIn:=by decide):behindInMarks op b=false:=by
  have e1:(op == CmpOp.In)=false:=by cases op <;> first | rfl | exact absurd rfl h
  have e2:(op == CmpOp.NotIn)=false:=by cases op <;> first | rfl | exact absurd rfl h2
  cases b <;> simp [behindInMarks,e1,e2]
theorem pe_cmpR {op:CmpOp} {r:R2} (ho:OpR X (compareOp op) r) (ha:PE X a ta) (hb:PE X b tb) (hm:behindInMarks op b=false):PE X (.Compare a [op] [b] pos) (tOp r ta tb):=by
  intro pins s σ H Q I h
  exact wpAny_Compare1 (binT ha hb I h fun v u s2 x y H2 I2 rx ry q=>ho pins s2 σ H2 x y v u Q I2 rx ry q) hm
def tTest (t:TE):TT:=fun σ H Q=>t σ H fun x H'=>∃k,x=.bl k∧Q k H'
theorem pt_cmpR {op:CmpOp} {r:R2} (ho:OpR X (compareOp op) r) (ha:PE X a ta) (hb:PE X b tb) (hm:behindInMarks op b=false):PT X (.Compare a [op] [b] pos) (tTest (tOp r ta tb)):=by
  intro pins s σ H Q I h
  refine wpAny_isTrue_Compare1 (thn (ha pins s σ H _ I h) fun v s1 ⟨x,H1,I1,r1,q1⟩=>thn (hb pins s1 σ H1 _ I1 q1) fun u s2 ⟨y,H2,I2,r2,q2⟩ =>
    thn (ho pins s2 σ H2 x y v u _ I2 r1 r2 q2) fun c s3 ⟨z,H3,I3,r3,k,e,q3⟩=>?_) hm
  subst e
  cases r3
  exact wpAny_truthy_bool ⟨H3,I3,q3⟩
theorem line63:(sizeLine:Nat)<2 ^ 63:=by rw [sizeLine_eq];decide
theorem vals1 {x:V} {us:List Value} (r:Vals [x] us):∃u,us=[u]∧RelV x u:=by
  cases r with
  | cons r1 r2=>cases r2;exact ⟨_,rfl,r1⟩
theorem vals2 {x y:V} {us:List Value} (r:Vals [x,y] us):∃u w',us=[u,w']∧RelV x u∧RelV y w':=by
  cases r with
  | cons r1 r2 =>
    cases r2 with
    | cons r3 r4=>cases r4;exact ⟨_,_,rfl,r1,r3⟩
theorem call_max2 (hc:X.calm=true):CallR X (.builtin "max") (fun xs H Q=>∃i j,xs=[.int i,.int j]∧Q (.int (if j > i then j else i)) H):=by
  intro pins s σ H xs us Q I r h
  obtain ⟨i,j,rfl,q⟩:=h
  obtain ⟨u,w',rfl,⟨t,rfl⟩,⟨t',rfl⟩⟩:=vals2 r
  refine max_two_ints (I.ok.hd hc) fun h' tk k=>⟨_,H,I.kept k,?_,q⟩
  by_cases hj:j > i
  · rw [if_pos hj,if_pos hj];exact ⟨_,rfl⟩
  · rw [if_neg hj,if_neg hj];exact ⟨_,rfl⟩
end
end L2
namespace L2
open PySem PySem.Spec PyProof.Rows
structure ObjM (h:Heap) (x dx C:Addr) (mA:Str→Option Value):Prop where
  obj:h.get? x=some (PySem.W.instObj C dx)
  ns:h.Ns1 dx mA
  ne:dx≠x
theorem lookIn_ns {h:Heap} {dx:Addr} {mA:Str→Option Value} (n:h.Ns1 dx mA):∃od,h.get? dx=some od∧∀name,PySem.W.lookIn name od=some (mA name):=by
  obtain ⟨o,es,ep,ho,hd,hk,_,hm⟩:=n
  refine ⟨o,ho,fun name=>?_⟩
  have e:=hm name
  unfold nsFind findBy at e
  rw [← Array.find?_toList] at e
  unfold PySem.W.lookIn
  rw [hd]
  dsimp only
  split
  · rename_i y q
    rw [q] at e
    exact congrArg some e
  · rename_i q
    rw [q] at e
    have a:es.toList.any (·.refKey)=false:=by
      rw [List.any_eq_false]
      intro y hy
      obtain ⟨z,t,hkey⟩:=hk y (Array.mem_toList_iff.mp hy)
      simp [DictEntry.refKey,hkey]
    have a':¬ es.toList.any (·.refKey)=true:=by rw [a];exact Bool.false_ne_true
    rw [if_neg a']
    exact congrArg some e
theorem ObjM.look {h:Heap} {x dx C:Addr} {mA:Str→Option Value} (I:ObjM h x dx C mA):∃od,PySem.W.InstAt h x (PySem.W.instObj C dx) C (some od)∧∀name,PySem.W.lookIn name od=some (mA name) :=
  let ⟨od,ho,hl⟩:=lookIn_ns I.ns
  ⟨od,⟨I.obj,rfl,rfl,ho⟩,hl⟩
section
variable {prog:Program} {w:World} {A:Around} {E:Value→Shared→Prop} {s:Shared} {K:PySem.W.Frag} {x dx C f:Addr} {mA:Str→Option Value} {name:Str} {v:Value}
theorem get_map {expr:Bool} {Q:Value→Shared→Prop} (X:K.In s.heap) (I:ObjM s.heap x dx C mA) (hg:PySem.W.plainGet K C name=true) (hh:PySem.W.hasDictIn K C=true)
    (ha:PySem.W.findIn K (.ref C) name=some none) (hv:mA name=some v) (hv':PySem.W.handedIn v=true) (h:Q v { s with toks:=s.toks + 1 }) :
    wpAny (model prog w) A (getAttr (.ref x) name expr) Q E s:=by
  obtain ⟨od,J,hl⟩:=I.look
  exact PySem.W.get_value X J (PySem.W.plainGet_of hg).1 (PySem.W.findObj_own hh ha rfl (by rw [hl,hv])) hv' h
theorem get_meth {pl:Sem Bool} {Q:Value×List Value→Shared→Prop} (X:K.In s.heap) (I:ObjM s.heap x dx C mA) (hg:PySem.W.plainGet K C name=true)
    (hf:PySem.W.findIn K (.ref C) name=some (some (.ref f))) (ht:PySem.W.isFn K (.ref f)=true) (hv:mA name=none) (h:Q (.ref f,[.ref x]) s) :
    wpAny (model prog w) A (getMethod (.ref x) name pl) Q E s:=by
  obtain ⟨od,J,hl⟩:=I.look
  exact PySem.W.method_fn X J (PySem.W.plainGet_of hg).1 (PySem.W.plainGet_of hg).2 hf (beq_iff_eq.mp ht) (by show (PySem.W.lookIn name od).map (·.isSome)=some false;rw [hl,hv];rfl) h
theorem set_map {ns:List Str} {Q:Unit→Shared→Prop} (X:K.In s.heap) (I:ObjM s.heap x dx C mA)
    (hs:PySem.W.findIn K (.ref C) "__setattr__" = some (some (.builtin "object.__setattr__"))) (hp:PySem.W.plainOver K C=true) (ht:PySem.W.takerIn K C name=some none) (hh:PySem.W.hasDictIn K C=true)
    (hw:PySem.Within mA ns) (hsz:ns.length≤sizeLine)
    (h:∀h',ObjM h' x dx C (fun y=>if y=name then some v else mA y)→Heap.SameBut dx s.heap h'→Q () { s with heap:=h',toks:=s.toks + 2 }) :
    wpAny (model prog w) A (setAttr (.ref x) name v) Q E s:=by
  obtain ⟨od,J,hl⟩:=I.look
  refine PySem.W.set_plain X J hs (PySem.W.osa_open (s:={ s with toks:=s.toks + 1 }) (r:=none) X J hp ht fun b=>?_)
  obtain ⟨cd,hc,hd'⟩:=PySem.W.any_some hh
  have hx:s.heap.get? x=some ⟨.ref C,some dx,.plain,#[]⟩:=I.obj
  refine wpAny_bind (wpAny_pure (wpAny_bind (wpAny_bind (wpAny_loadPart hx (wpAny_bind (PySem.W.Looks.here (s:={ s with toks:=s.toks + 1 }) (PySem.W.looks_clsIn X hc) ?_))))))
  rw [hd']
  refine wpAny_pure (a:=some dx) (wpAny_bind (wpAny_pure (wpAny_bind ?_)))
  refine wpAny_nsSet1 (s:={ s with toks:=s.toks + 1 }) I.ns fun h' hn2 hs2=>?_
  obtain ⟨oD,esD,epD,hoD,hdD,hcD⟩:=hn2.count (PySem.Within.cons name v hw)
  refine wpAny_bind (wpAny_lookBehind hoD (by rw [hdD];exact pastItsLine_dict (Nat.le_trans hcD (by rw [List.length_cons];omega))) ?_)
  exact wpAny_pure (h _ ⟨(hs2.2 _ (Ne.symm I.ne)).trans I.obj,hn2,I.ne⟩ hs2)
theorem make_map {R:Result→Shared→Prop} {vs:List Value} {kw:List (Str×Value)} (X:K.In s.heap) (hm:PySem.W.makesIn K C=true)
    (hi:PySem.W.findIn K (.ref C) "__init__" = some (some (.ref f))) (hf:PySem.W.typeIn K (.ref f)=some (.type "function"))
    (h:codeAny (model prog w) (A.under (.builtin "type.__call__" ⟨.ref C::vs,kw⟩)) (.call (.ref f) ⟨.ref (s.heap.objs.size + 1)::vs,kw⟩) (PySem.W.InitBack (s.heap.objs.size + 1) R)
      { s with heap:=(s.heap.push PySem.W.emptyDict).push (PySem.W.instObj C s.heap.objs.size) }) :
    codeAny (model prog w) A (.call (.ref C) ⟨vs,kw⟩) R s:=by
  obtain ⟨hh,g,d,t,os⟩:=s
  exact PySem.W.make_core (PySem.W.makes_of X hm) (PySem.W.looks_findIn X hi) (fun self=>PySem.W.bind_fn X self hf) (.inl rfl) h
end
def putF (f:Str) (v:V):List (Str×V)→List (Str×V)
  | []=>[(f,v)]
  | (g,x)::r=>if g=f then (g,v)::r else (g,x)::putF f v r
theorem lookup_putF (f g:Str) (v:V):∀fs:List (Str×V),(putF f v fs).lookup g=if g=f then some v else fs.lookup g
  | []=>by
    show List.lookup g [(f,v)]=_
    by_cases h:g=f
    · have hb:(g == f)=true:=beq_iff_eq.mpr h
      simp only [List.lookup,hb,if_pos h]
    · have hb:(g == f)=false:=beq_eq_false_iff_ne.mpr h
      simp only [List.lookup,hb,if_neg h]
  | (k,x)::r=>by
    have ih:=lookup_putF f g v r
    rw [show putF f v ((k,x)::r)=(if k=f then (k,v)::r else (k,x)::putF f v r) from rfl]
    by_cases hk:k=f
    · rw [if_pos hk]
      by_cases h:g=k
      · have hb:(g == k)=true:=beq_iff_eq.mpr h
        simp only [List.lookup,hb,if_pos (h.trans hk)]
      · have hb:(g == k)=false:=beq_eq_false_iff_ne.mpr h
        simp only [List.lookup,hb,if_neg (fun e:g=f=>h (e.trans hk.symm))]
    · rw [if_neg hk]
      by_cases h:g=k
      · have hb:(g == k)=true:=beq_iff_eq.mpr h
        simp only [List.lookup,hb,if_neg (fun e:g=f=>hk (h.symm.trans e))]
      · have hb:(g == k)=false:=beq_eq_false_iff_ne.mpr h
        simp only [List.lookup,hb]
        exact ih
theorem keys_putF (f:Str) (v:V):∀fs:List (Str×V),f∈(putF f v fs).map (·.1)∧∀g,g∈fs.map (·.1)→g∈(putF f v fs).map (·.1)
  | []=>⟨by simp [putF],fun g h=>by simp at h⟩
  | (k,x)::r=>by
    obtain ⟨i1,i2⟩:=keys_putF f v r
    rw [show putF f v ((k,x)::r)=(if k=f then (k,v)::r else (k,x)::putF f v r) from rfl]
    by_cases hk:k=f
    · rw [if_pos hk]
      subst hk
      exact ⟨by simp,fun g h=>by simpa using h⟩
    · rw [if_neg hk]
      refine ⟨?_,fun g h=>?_⟩
      · rw [List.map_cons]
        exact List.mem_cons_of_mem _ i1
      · rw [List.map_cons] at h ⊢
        rcases List.mem_cons.mp h with e | e
        · exact List.mem_cons.mpr (.inl e)
        · exact List.mem_cons_of_mem _ (i2 g e)
theorem length_putF (f:Str) (v:V):∀fs:List (Str×V),(putF f v fs).length≤fs.length + 1
  | []=>by simp [putF]
  | (k,x)::r=>by
    have ih:=length_putF f v r
    rw [show putF f v ((k,x)::r)=(if k=f then (k,v)::r else (k,x)::putF f v r) from rfl]
    by_cases hk:k=f
    · rw [if_pos hk,List.length_cons,List.length_cons];omega
    · rw [if_neg hk,List.length_cons,List.length_cons];omega
theorem RelO.some_of {v:V} {o:Option Value} (r:RelO (some v) o):∃u,o=some u∧RelV v u:=by
  cases o with
  | none=>exact (show False from r).elim
  | some u=>exact ⟨u,rfl,r⟩
theorem RelO.none_of {o:Option Value} (r:RelO none o):o=none:=by
  cases o with
  | none=>rfl
  | some u=>exact (show False from r).elim
theorem handed_of {v:V} {u:Value} (r:RelV v u):PySem.W.handedIn u=true:=by
  cases v with
  | non=>cases (show u=Value.none from r);rfl
  | bl b=>cases (show u=Value.bool b from r);rfl
  | int i=>obtain ⟨t,e⟩:=(show ∃t,u=Value.int i t from r);cases e;rfl
  | str x=>obtain ⟨t,e⟩:=(show ∃t,u=Value.str x t from r);cases e;rfl
  | byt b=>obtain ⟨t,e⟩:=(show ∃t,u=Value.bytes b t from r);cases e;rfl
  | flt b=>obtain ⟨t,e⟩:=(show ∃t,u=Value.float b t from r);cases e;rfl
  | ref a=>cases (show u=Value.ref a from r);rfl
  | ty n=>cases (show u=Value.type n from r);rfl
section
variable {P:Program} {w:World} {H H':Hp} {h h':Heap} {a C dx:Addr} {fs fs':List (Str×V)}
theorem ins_get (hok:HOk P w H h) (e:H a=some (.ins C dx fs)):∃mA,ObjM h a dx C mA∧(∀f,RelO (fs.lookup f) (mA f))∧PySem.Within mA (fs.map (·.1))∧fs.length≤1000∧H dx=some (.own a):=by
  obtain ⟨d,z,ne,ob,mA,n,r,q⟩:=(show ObjOk P w H h a (.ins C dx fs) from hok a _ e)
  exact ⟨mA,⟨ob,n,ne⟩,r,q,z,d⟩
end
structure Cls (K:PySem.W.Frag) (C:Addr):Prop where
  pg:PySem.W.plainGet K C Str.empty=true
  hd:PySem.W.hasDictIn K C=true
  po:PySem.W.plainOver K C=true
  sa:PySem.W.findIn K (.ref C) "__setattr__" = some (some (.builtin "object.__setattr__"))
theorem Cls.get {K:PySem.W.Frag} {C:Addr} (c:Cls K C) (f:Str):PySem.W.plainGet K C f=true:=c.pg
def NoAttr (K:PySem.W.Frag) (C:Addr) (f:Str):Prop:=PySem.W.findIn K (.ref C) f=some none
theorem NoAttr.taker {K:PySem.W.Frag} {C:Addr} {f:Str} (n:NoAttr K C f):PySem.W.takerIn K C f=some none:=by
  unfold PySem.W.takerIn
  rw [show PySem.W.findIn K (.ref C) f=some none from n]
  rfl
structure Meth (K:PySem.W.Frag) (C:Addr) (m:Str) (f:Addr):Prop where
  at_:PySem.W.findIn K (.ref C) m=some (some (.ref f))
  fn:PySem.W.isFn K (.ref f)=true
  kp:PySem.W.keepIn K (.ref f)=true
section
variable {X:Cx} {pins:List (Addr×Obj)} {σ:St} {H:Hp} {s:Shared} {a C dx:Addr} {fs:List (Str×V)} {f:Str} {v:V} {A:Around} {E:Value→Shared→Prop}
theorem getattr_ok {b:Bool} {Q:Value→Shared→Prop} (I:Inv X pins σ H s) (e:H a=some (.ins C dx fs)) (c:Cls X.K C) (n:NoAttr X.K C f) (l:fs.lookup f=some v)
    (h:∀u s',Inv X pins σ H s'→RelV v u→Q u s'):wpAny (model X.prog X.w) A (getAttr (.ref a) f b) Q E s:=by
  obtain ⟨mA,O,r,_,_,_⟩:=ins_get I.hok e
  obtain ⟨u,hu,ru⟩:=RelO.some_of (v:=v) (o:=mA f) (by rw [← l];exact r f)
  exact get_map I.kIn O (c.get f) c.hd n hu (handed_of ru) (h u _ (I.tok _) ru)
theorem getmeth_ok {m:Str} {g:Addr} {pl:Sem Bool} {Q:Value×List Value→Shared→Prop} (I:Inv X pins σ H s) (e:H a=some (.ins C dx fs)) (c:Cls X.K C) (k:Meth X.K C m g) (l:fs.lookup m=none)
    (h:Q (.ref g,[.ref a]) s):wpAny (model X.prog X.w) A (getMethod (.ref a) m pl) Q E s:=by
  obtain ⟨mA,O,r,_,_,_⟩:=ins_get I.hok e
  have hn:mA m=none:=RelO.none_of (by rw [← l];exact r m)
  exact get_meth I.kIn O (c.get m) k.at_ k.fn hn h
theorem setattr_ok {y:V} {u:Value} {Q:Unit→Shared→Prop} (I:Inv X pins σ H s) (e:H a=some (.ins C dx fs)) (c:Cls X.K C) (n:NoAttr X.K C f) (hl:fs.length<1000) (ry:RelV y u)
    (h:∀s',Inv X pins σ (upd H a (.ins C dx (putF f y fs))) s'→Q () s'):wpAny (model X.prog X.w) A (setAttr (.ref a) f u) Q E s:=by
  obtain ⟨mA,O,r,wi,_,ho⟩:=ins_get I.hok e
  have hz:(fs.map (·.1)).length≤sizeLine:=by rw [List.length_map,sizeLine_eq];omega
  refine set_map I.kIn O c.sa c.po n.taker c.hd wi hz fun h' O' sb=>h _ ?_
  have hd:∃o,h'.get? dx=some o:=let ⟨o,_,_,e',_⟩:=O'.ns;⟨o,e'⟩
  refine I.write (x:=a) (e:=dx) (by rw [e];exact True.intro) (.inr ho) (fun b q hb z=>(sb.2 b hb).trans z) hd ?_
  refine ⟨by rw [upd_ne O.ne];exact ho,?_,O.ne,O'.obj,_,O'.ns,fun g=>?_,fun g hg=>?_⟩
  · have:=length_putF f y fs;omega
  · show RelO ((putF f y fs).lookup g) (if g=f then some u else mA g)
    rw [lookup_putF]
    by_cases q:g=f
    · rw [if_pos q,if_pos q];exact ry
    · rw [if_neg q,if_neg q];exact r g
  · by_cases q:g=f
    · rw [q];exact (keys_putF f y fs).1
    · refine (keys_putF f y fs).2 g (wi g fun z=>hg ?_)
      show (if g=f then some u else mA g)=none
      rw [if_neg q];exact z
theorem Inv.made (I:Inv X pins σ H s):Inv X pins σ (upd (upd H s.heap.objs.size (.own (s.heap.objs.size + 1))) (s.heap.objs.size + 1) (.ins C s.heap.objs.size []))
    { s with heap:=(s.heap.push PySem.W.emptyDict).push (PySem.W.instObj C s.heap.objs.size) }:=by
  have e1:(s.heap.push PySem.W.emptyDict).get? s.heap.objs.size=some PySem.W.emptyDict:=Heap.get?_push_size s.heap rfl
  have e2:((s.heap.push PySem.W.emptyDict).push (PySem.W.instObj C s.heap.objs.size)).get? (s.heap.objs.size + 1)=some (PySem.W.instObj C s.heap.objs.size):=by
    have:=Heap.get?_push_size (s.heap.push PySem.W.emptyDict) (o:=PySem.W.instObj C s.heap.objs.size) rfl
    rwa [Heap.size_push] at this
  have e3:(s.heap.push PySem.W.emptyDict).Ns s.heap.objs.size (fun _=>none):=⟨PySem.W.emptyDict,#[],_,e1,rfl,(fun e he=>absurd he (by simp)),fun _=>rfl⟩
  have I1:=I.laid (a:=s.heap.objs.size) (o:=.own (s.heap.objs.size + 1)) (h':=s.heap.push PySem.W.emptyDict) (t':=s.toks) (fun b u q=>Heap.get?_push_of_some _ q) (Nat.le_refl _) ⟨_,e1⟩
  refine I1.laid (a:=s.heap.objs.size + 1) (o:=.ins C s.heap.objs.size []) (t':=s.toks) (fun b u q=>Heap.get?_push_of_some _ q) (Nat.le_of_eq (Heap.size_push _ _)) ?_
  have ne:s.heap.objs.size≠s.heap.objs.size + 1:=Nat.ne_of_lt (Nat.lt_succ_self _)
  refine ⟨by rw [upd_ne ne,upd_same],Nat.zero_le _,ne,e2,fun _=>none,(Heap.Ns1.of_empty e3).at fun o q=>Heap.get?_push_of_some _ q,fun _=>True.intro,fun y hy=>absurd rfl hy⟩
theorem attr_of {prog:Program} {w:World} {env:Env} {e:Expr} {f:Str} {pos:Pos} {s:Shared} {Q:Value→Shared→Prop} (hb:attributeBase e f env (eval e env)=eval e env)
    (h:wpAny (model prog w) A (eval e env) (fun o s₁=>wpAny (model prog w) A (getAttr o f true) Q E s₁) E s):wpAny (model prog w) A (eval (.Attribute e f pos) env) Q E s :=
  Attribute_any_ h (by rw [arm_eval_Attribute,hb])
end
def tFld (K:PySem.W.Frag) (ta:TE) (f:Str):TE:=fun σ H Q=>ta σ H fun x H1=>∃a C dx fs v,x=.ref a∧H1 a=some (.ins C dx fs)∧Cls K C∧NoAttr K C f∧fs.lookup f=some v∧Q v H1
def sFld (K:PySem.W.Frag) (ta tv:TE) (f:Str):TS:=fun D σ H=>tv σ H fun y H1=>ta σ H1 fun x H2=>∃a C dx fs,x=.ref a∧H2 a=some (.ins C dx fs)∧Cls K C∧NoAttr K C f∧fs.length<1000 ∧
  D.nx σ (upd H2 a (.ins C dx (putF f y fs)))
section
variable {X:Cx} {o e value:Expr} {f:Str} {pos pos' tpos:Pos} {ta tv:TE}
theorem pe_fld (he:PE X e ta) (hb:attributeBase e f X.env (eval e X.env)=eval e X.env):PE X (.Attribute e f pos) (tFld X.K ta f):=by
  intro pins s σ H Q I h
  refine attr_of hb (thn (he pins s σ H _ I h) fun u s1 ⟨x,H1,I1,rx,a,C,dx,fs,v,ex,ea,c,n,l,q⟩=>?_)
  subst ex
  obtain rfl:u=Value.ref a:=rx
  exact getattr_ok I1 ea c n l fun u' s2 I2 ru=>⟨v,H1,I2,ru,q⟩
theorem ps_fld (ha:PE X o ta) (hv:PE X value tv) (hs:swapsWith value (some (.Attribute o f pos')) pos.line X.env=pure false):PS X (.Assign [.Attribute o f pos'] value pos) (sFld X.K ta tv f):=by
  intro pins s σ H D I h
  refine plainObj_wpAny_Assign_Attribute (thn (hv pins s σ H _ I h) fun u s1 ⟨y,H1,I1,ry,q⟩=>thn (ha pins s1 σ H1 _ I1 q) fun ov s2 ⟨x,H2,I2,rx,a,C,dx,fs,ex,ea,c,n,l,q2⟩=>?_) hs
  subst ex
  obtain rfl:ov=Value.ref a:=rx
  exact setattr_ok I2 ea c n l ry fun s3 I3=>⟨σ,_,I3,q2⟩
theorem methcall_of {pl:Sem Bool} {m:Str} {apos:Pos} {args:List Expr} {pins:List (Addr×Obj)} {s:Shared} {σ:St} {H:Hp} {Q:Value→Shared→Prop} {te:TE} (he:PE X e te) (I:Inv X pins σ H s)
    (h:te σ H fun x H1=>∃a C dx fs g,x=.ref a∧H1 a=some (.ins C dx fs)∧Cls X.K C∧Meth X.K C m g∧fs.lookup m=none ∧
      ∀s1,Inv X pins σ H1 s1→wpAny (model X.prog X.w) X.A (callWith pos (.ref g) [.ref a] (backTo pos (starEach args X.env)) (backToKw pos (keywordEach [] X.env))) Q X.xe s1)
    (ht:eval (.Call (.Attribute e m apos) args [] pos) X.env=(do
      let ov ← eval e X.env
      standAt apos.atName
      let (f,first) ← holding [ov] (getMethod ov m pl)
      callWith pos f first (backTo pos (starEach args X.env)) (backToKw pos (keywordEach [] X.env)))) :
    wpAny (model X.prog X.w) X.A (eval (.Call (.Attribute e m apos) args [] pos) X.env) Q X.xe s:=by
  refine PySem.W.methodCall_KW (pl:=pl) (thn (he pins s σ H _ I h) fun u s1 ⟨x,H1,I1,rx,a,C,dx,fs,g,ex,ea,c,k,l,q⟩=>?_) ht
  subst ex
  obtain rfl:u=Value.ref a:=rx
  exact getmeth_ok I1 ea c k l (q s1 I1)
end
end L2
namespace L2
open PySem PySem.Spec PyProof.Rows
structure Room (k:Nat) (A:Around):Prop where
  hd:A.handled=none
  dp:A.depth + 3 * k + 5<recursionLimit
  un:A.units + 16 * k + 200<cLine
theorem Room.mono {j k:Nat} {A:Around} (r:Room k A) (h:j≤k):Room j A:=⟨r.hd,by have:=r.dp;omega,by have:=r.un;omega⟩
theorem Room.deeper {k:Nat} {A:Around} (r:Room (k + 1) A) (env:Env):Room k (A.deeper env) :=
  ⟨r.hd,by have:=r.dp;show A.depth + 1 + 3 * k + 5<_;omega,by have:=r.un;show A.units + 3 + 16 * k + 200<_;omega⟩
theorem make_depth {A:Around} {C:Addr} {us:List Value} {kw:List (Str×Value)}:(A.under (.builtin "type.__call__" ⟨.ref C::us,kw⟩)).depth=A.depth + 1:=by
  first | rfl | simp [Around.under,Code.weight,Code.isCreation,Code.isGuard,Code.isCaller,Code.frames,Code.isFrame,guardIds]
theorem make_units {A:Around} {C:Addr} {us:List Value} {kw:List (Str×Value)}:(A.under (.builtin "type.__call__" ⟨.ref C::us,kw⟩)).units=A.units + 1:=by
  first | rfl | simp [Around.under,Code.cUnits,Code.frames,Code.isFrame]
theorem Room.make {k:Nat} {A:Around} (r:Room (k + 1) A) (C:Addr) (us:List Value) (kw:List (Str×Value)):Room k (A.under (.builtin "type.__call__" ⟨.ref C::us,kw⟩)) :=
  ⟨r.hd,by have:=r.dp;rw [make_depth];omega,by have:=r.un;rw [make_units];omega⟩
theorem Room.depth {k:Nat} {A:Around} (r:Room k A):A.depth<recursionLimit:=by have:=r.dp;omega
theorem Room.units {k:Nat} {A:Around} (r:Room k A):A.units + 64<cLine:=by have:=r.un;omega
def tNil:TA:=fun _ H Q=>Q [] H
def tCons (ta:TE) (tr:TA):TA:=fun σ H Q=>ta σ H fun x H1=>tr σ H1 fun xs H2=>Q (x::xs) H2
section
variable {X:Cx} {e:Expr} {es:List Expr} {te:TE} {t:TA} {pos:Pos}
theorem pa_nil:PA X [] tNil:=fun _ _ _ _ H Q I h=>Calls.spliced_nil ⟨[],H,I,.nil,h⟩
theorem pa_cons (ha:PE X e te) (hr:PA X es t) (hs:starEach (e::es) X.env=(false,eval e X.env)::starEach es X.env:=by rfl):PA X (e::es) (tCons te t):=by
  intro pos pins s σ H Q I h
  rw [hs]
  show wpAny _ _ (spliced ((false,eval e X.env)::backTo pos (starEach es X.env))) _ _ s
  refine Calls.spliced_cons (thn (ha pins s σ H _ I h) fun u s1 ⟨x,H1,I1,r1,q1⟩=>?_)
  exact thn (hr pos pins s1 σ H1 _ I1 q1) fun us s2 ⟨xs,H2,I2,r2,q2⟩=>⟨x::xs,H2,I2,.cons r1 r2,q2⟩
def tTup (t:TA):TE:=fun σ H Q=>t σ H fun xs H1=>xs.length≤sizeLine∧∀p,H1 p=none→Q (.ref p) (upd H1 p (.tup xs))
def tLst (t:TA):TE:=fun σ H Q=>t σ H fun xs H1=>xs.length≤sizeLine∧∀p,H1 p=none→Q (.ref p) (upd H1 p (.lst xs))
theorem pe_tup {x1} (h:PA X es t):PE X (.Tuple es x1 pos) (tTup t):=by
  intro pins s σ H Q I hq
  refine wpAny_Tuple_spliced (thn (h pos pins s σ H _ I hq) fun us s1 ⟨xs,H1,I1,r,z,q⟩=>⟨by rw [← r.length];exact z,?_⟩)
  have hf:H1 s1.heap.objs.size=none:=I1.hok.fresh (Nat.le_refl _)
  refine ⟨.ref s1.heap.objs.size,upd H1 s1.heap.objs.size (.tup xs),I1.laid (t':=s1.toks) (fun b u e=>Heap.get?_push_of_some _ e) (Nat.le_refl _) ?_,rfl,q _ hf⟩
  exact ⟨z,us,r,⟨_,Heap.get?_push_size _ rfl,rfl,_,rfl⟩⟩
theorem pe_lst (h:PA X es t):PE X (.List es pos) (tLst t):=by
  intro pins s σ H Q I hq
  refine wpAny_List_spliced (thn (h pos pins s σ H _ I hq) fun us s1 ⟨xs,H1,I1,r,z,q⟩=>⟨by rw [← r.length];exact z,?_⟩)
  have hf:H1 s1.heap.objs.size=none:=I1.hok.fresh (Nat.le_refl _)
  refine ⟨.ref s1.heap.objs.size,upd H1 s1.heap.objs.size (.lst xs),I1.laid (t':=s1.toks) (fun b u e=>Heap.get?_push_of_some _ e) (Nat.le_refl _) ?_,rfl,q _ hf⟩
  exact ⟨z,us,0,r,Heap.get?_push_size _ rfl⟩
end
abbrev Sp:=List V→Hp→VK→XK→Prop
abbrev CXT:=List Env→Hp→Shared→XK→Value→Shared→Prop
structure Env0 (P:Program) (w:World) (K:PySem.W.Frag) (mg:Str→Option Value) (base:Heap) (A:Around) (outer:List Env) (s:Shared) (H:Hp):Prop where
  frames:A.frames=some outer
  mod:Mod K mg base
  bs:∀b o,base.get? b=some o→s.heap.get? b=some o∧H b=none
  bsz:base.objs.size≤s.heap.objs.size
  funs:s.heap.FunFrames base outer
  frf:∀b∈frs outer,H b=none
  hok:HOk P w H s.heap
  bare:AllBare s.gens
def CE (outer:List Env) (P:Program) (w:World) (H:Hp) (s:Shared) (Q:VK) (u:Value) (s':Shared):Prop :=
  ∃v H',s'.os=s.os∧AllBare s'.gens∧Un (frs outer) [] H H' s.heap s'.heap∧HOk P w H' s'.heap∧RelV v u∧Q v H'
def CR (CX:CXT) (outer:List Env) (P:Program) (w:World) (H:Hp) (s:Shared) (Q:VK) (E:XK) (r:Result) (s':Shared):Prop :=
  match r with
  | .ok (.ret u)=>CE outer P w H s Q u s'
  | .ok _=>False
  | .error e=>CX outer H s E e s'
structure FnOk (P:Program) (w:World) (K:PySem.W.Frag) (mg:Str→Option Value) (base:Heap) (CX:CXT) (k:Nat) (f:Addr) (fd:FuncData) (ps:List Str) (sp:Sp):Prop where
  len:∀vs H Q E,sp vs H Q E→vs.length=ps.length
  run:∀(A:Around) (outer:List Env) (s:Shared) (H:Hp) (args:Args) (us:List Value) (vs:List V) (Q:VK) (E:XK),Room k A→Env0 P w K mg base A outer s H→BindsTo s fd args (ps.zip us)→Vals vs us→sp vs H Q E →
    codeAny (model P w) A (.call (.ref f) args) (CR CX outer P w H s Q E) s
theorem FnOk.mono {P:Program} {w:World} {K:PySem.W.Frag} {mg:Str→Option Value} {base:Heap} {CX:CXT} {j k:Nat} {f:Addr} {fd:FuncData} {ps:List Str} {sp:Sp} (F:FnOk P w K mg base CX j f fd ps sp) (h:j≤k) :
    FnOk P w K mg base CX k f fd ps sp:=⟨F.len,fun A outer s H args us vs Q E hr=>F.run A outer s H args us vs Q E (hr.mono h)⟩
theorem FnOk.imp {P:Program} {w:World} {K:PySem.W.Frag} {mg:Str→Option Value} {base:Heap} {CX:CXT} {k:Nat} {f:Addr} {fd:FuncData} {ps:List Str} {sp sp':Sp} (F:FnOk P w K mg base CX k f fd ps sp)
    (h:∀vs H Q E,sp' vs H Q E→sp vs H Q E):FnOk P w K mg base CX k f fd ps sp' :=
  ⟨fun vs H Q E q=>F.len vs H Q E (h _ _ _ _ q),fun A outer s H args us vs Q E hr he hb hv hs=>F.run A outer s H args us vs Q E hr he hb hv (h _ _ _ _ hs)⟩
theorem Env0.make {P:Program} {w:World} {K:PySem.W.Frag} {mg:Str→Option Value} {base:Heap} {A:Around} {outer:List Env} {s:Shared} {H:Hp} (e:Env0 P w K mg base A outer s H) (C:Addr) (us:List Value) (kw:List (Str×Value)) :
    Env0 P w K mg base (A.under (.builtin "type.__call__" ⟨.ref C::us,kw⟩)) outer s H:=⟨by first | exact e.frames | (simpa [Around.under,Code.envs,Code.isFrame,pushEnvs] using e.frames),e.mod,e.bs,e.bsz,e.funs,e.frf,e.hok,e.bare⟩
section
variable {X:Cx} {pins:List (Addr×Obj)} {σ:St} {H:Hp} {s s':Shared}
theorem Inv.env0 (I:Inv X pins σ H s):Env0 X.prog X.w X.K X.mg X.base X.A X.stack s H :=
  ⟨I.ok.frames,I.ok.mod,I.bs,Nat.le_trans I.ok.bsz I.sz,I.stack,I.stkFree,I.hok,I.bare⟩
theorem Inv.after {Q:VK} {u:Value} (I:Inv X pins σ H s) (h:CE X.stack X.prog X.w H s Q u s'):EP X pins σ Q u s':=by
  obtain ⟨v,H',os,bare,un,hok,r,q⟩:=h
  obtain ⟨hh,g,d,t,os'⟩:=s'
  obtain rfl:os' = s.os:=os
  exact ⟨v,H',I.call (h':=hh) (g':=g) (d':=d) (t':=t) (ch:=[]) un hok bare (fun b z=>absurd z (by simp)),r,q⟩
end
def tCall (sp:Sp) (dvs:List V) (E:XK) (t:TA):TE:=fun σ H Q=>t σ H fun vs H1=>sp (vs++dvs) H1 Q E
def tMeth (C:Addr) (m:Str) (sp:Sp) (dvs:List V) (E:XK) (ta:TE) (t:TA):TE:=fun σ H Q=>ta σ H fun x H1=>∃a dx fs,x=.ref a∧H1 a=some (.ins C dx fs)∧fs.lookup m=none ∧
  t σ H1 fun vs H2=>sp (x::(vs++dvs)) H2 Q E
def tMake (C:Addr) (sp:Sp) (dvs:List V) (E:XK) (t:TA):TE:=fun σ H Q=>t σ H fun vs H1=>∀x dx,H1 x=none→H1 dx=none→dx≠x →
  sp (.ref x::(vs++dvs)) (upd (upd H1 dx (.own x)) x (.ins C dx [])) (fun v H2=>v=.non∧Q (.ref x) H2) E
def Binds (K:PySem.W.Frag) (fd:FuncData) (ps:List Str) (ds:List Value):Prop :=
  ∀(s:Shared) (us:List Value),K.In s.heap→(us++ds).length=ps.length→BindsTo s fd ⟨us,[]⟩ (ps.zip (us++ds))
theorem Binds.all {K:PySem.W.Frag} {fd:FuncData} {ps:List Str} (h:∀us:List Value,us.length=ps.length→bindArgs fd ⟨us,[]⟩=pure (ps.zip us)):Binds K fd ps []:=fun s us _ hl=>by
  rw [List.append_nil] at hl ⊢
  exact .of_eq (h us hl)
def Passes (CX:CXT) (X:Cx) (E:XK):Prop:=∀(pins:List (Addr×Obj)) (σ:St) (H:Hp) (s:Shared) (e:Value) (s':Shared),Inv X pins σ H s→CX X.stack H s E e s'→X.xe e s'
section
variable {X:Cx} {CX:CXT} {k:Nat} {f C:Addr} {fd:FuncData} {ps:List Str} {sp:Sp} {dvs:List V} {ds:List Value} {E:XK} {x m:Str} {p pos apos:Pos} {e o:Expr} {es:List Expr} {ta:TE} {t:TA}
theorem run_fn {pins:List (Addr×Obj)} {σ:St} {H:Hp} {s:Shared} {Q:VK} {us:List Value} {vs:List V} (F:FnOk X.prog X.w X.K X.mg X.base CX k f fd ps sp) (hr:Room k X.A) (hb:Binds X.K fd ps ds) (hd:Vals dvs ds) (hx:Passes CX X E)
    (I:Inv X pins σ H s) (r:Vals vs us) (h:sp (vs++dvs) H Q E):wpAny (model X.prog X.w) X.A (call (.ref f) us) (EP X pins σ Q) X.xe s:=by
  have r2:Vals (vs++dvs) (us++ds):=r.append hd
  have hl:(us++ds).length=ps.length:=by rw [← r2.length];exact F.len _ _ _ _ h
  refine wpAny_call (codeAny_mono (F.run X.A X.stack s H ⟨us,[]⟩ (us++ds) (vs++dvs) Q E hr I.env0 (hb s us I.kIn hl) r2 h) fun r s' hq=>?_)
  cases r with
  | error e=>exact hx pins σ H s e s' I hq
  | ok fl =>
    cases fl with
    | ret u=>exact I.after hq
    | next=>exact False.elim hq
    | brk=>exact False.elim hq
    | cont=>exact False.elim hq
theorem pe_call (F:FnOk X.prog X.w X.K X.mg X.base CX k f fd ps sp) (hr:Room k X.A) (hg:Gl X x) (hm:X.mg x=some (.ref f)) (hk:PySem.W.keepIn X.K (.ref f)=true) (hb:Binds X.K fd ps ds) (hd:Vals dvs ds) (hx:Passes CX X E)
    (ha:PA X (e::es) t) (hdb:(x == ("__debug__" : Str))=false:=by decide) (he:starEach (e::es) X.env=(false,eval e X.env)::starEach es X.env:=by rfl) (hpl:(backTo pos (starEach es X.env)).any (·.1)=false:=by rfl) :
    PE X (.Call (.Name x p) (e::es) [] pos) (tCall sp dvs E t):=by
  intro pins s σ H Q I h
  refine wpAny_Call_Name_kw (ld_glob I hg hm ?_ hdb)
  refine PySem.W.callWith_K (h₀:=X.base) I.ok.mod.kin hk (thn (ha pos pins s σ H _ I h) fun us s1 ⟨vs,H1,I1,r,q⟩=>⟨I1.kIn,?_⟩) he hpl
  exact run_fn F hr hb hd hx I1 r q
theorem pe_meth {pl:Sem Bool} (he:PE X o ta) (c:Cls X.K C) (hm:Meth X.K C m f) (F:FnOk X.prog X.w X.K X.mg X.base CX k f fd ps sp) (hr:Room k X.A) (hb:Binds X.K fd ps ds) (hd:Vals dvs ds) (hx:Passes CX X E) (ha:PA X (e::es) t)
    (hst:starEach (e::es) X.env=(false,eval e X.env)::starEach es X.env:=by rfl) (hpl:(backTo pos (starEach es X.env)).any (·.1)=false:=by rfl)
    (ht:eval (.Call (.Attribute o m apos) (e::es) [] pos) X.env=(do
      let ov ← eval o X.env
      standAt apos.atName
      let (f,first) ← holding [ov] (getMethod ov m pl)
      callWith pos f first (backTo pos (starEach (e::es) X.env)) (backToKw pos (keywordEach [] X.env))):=by rfl) :
    PE X (.Call (.Attribute o m apos) (e::es) [] pos) (tMeth C m sp dvs E ta t):=by
  intro pins s σ H Q I h
  refine PySem.W.methodCall_KW (pl:=pl) (thn (he pins s σ H _ I h) fun u s1 ⟨x,H1,I1,rx,a,dx,fs,ex,ea,l,q⟩=>?_) ht
  subst ex
  obtain rfl:u=Value.ref a:=rx
  refine getmeth_ok I1 ea c hm l ?_
  refine PySem.W.callWith_K (first:=[.ref a]) (h₀:=X.base) I.ok.mod.kin hm.kp (thn (ha pos pins s1 σ H1 _ I1 q) fun us s2 ⟨vs,H2,I2,r,q2⟩=>⟨I2.kIn,?_⟩) hst hpl
  exact run_fn (us:=.ref a::us) (vs:=.ref a::vs) F hr hb hd hx I2 (.cons rfl r) q2
theorem pe_meth0 {pl:Sem Bool} (he:PE X o ta) (c:Cls X.K C) (hm:Meth X.K C m f) (F:FnOk X.prog X.w X.K X.mg X.base CX k f fd ps sp) (hr:Room k X.A) (hb:Binds X.K fd ps ds) (hd:Vals dvs ds) (hx:Passes CX X E)
    (ht:eval (.Call (.Attribute o m apos) [] [] pos) X.env=(do
      let ov ← eval o X.env
      standAt apos.atName
      let (f,first) ← holding [ov] (getMethod ov m pl)
      callWith pos f first (backTo pos (starEach [] X.env)) (backToKw pos (keywordEach [] X.env))):=by rfl) :
    PE X (.Call (.Attribute o m apos) [] [] pos) (tMeth C m sp dvs E ta tNil):=by
  intro pins s σ H Q I h
  refine PySem.W.methodCall_KW (pl:=pl) (thn (he pins s σ H _ I h) fun u s1 ⟨x,H1,I1,rx,a,dx,fs,ex,ea,l,q⟩=>?_) ht
  subst ex
  obtain rfl:u=Value.ref a:=rx
  refine getmeth_ok I1 ea c hm l ?_
  exact PySem.W.callWith_K0 (first:=[.ref a]) I1.kIn hm.kp (run_fn (us:=[.ref a]) (vs:=[.ref a]) F hr hb hd hx I1 (.cons rfl .nil) q)
structure Mk (K:PySem.W.Frag) (C f:Addr):Prop where
  makes:PySem.W.makesIn K C=true
  init:PySem.W.findIn K (.ref C) "__init__" = some (some (.ref f))
  fn:PySem.W.isFn K (.ref f)=true
  kp:PySem.W.keepIn K (.ref C)=true
theorem run_make {pins:List (Addr×Obj)} {σ:St} {H:Hp} {s:Shared} {Q:VK} {us:List Value} {vs:List V} (M:Mk X.K C f) (F:FnOk X.prog X.w X.K X.mg X.base CX k f fd ps sp) (hr:Room (k + 1) X.A) (hb:Binds X.K fd ps ds) (hd:Vals dvs ds)
    (hx:Passes CX X E) (I:Inv X pins σ H s) (r:Vals vs us)
    (h:∀x dx,H x=none→H dx=none→dx≠x→sp (.ref x::(vs++dvs)) (upd (upd H dx (.own x)) x (.ins C dx [])) (fun v H2=>v=.non∧Q (.ref x) H2) E) :
    wpAny (model X.prog X.w) X.A (call (.ref C) us) (EP X pins σ Q) X.xe s:=by
  have hq:=h (s.heap.objs.size + 1) s.heap.objs.size (I.hok.fresh (Nat.le_succ _)) (I.hok.fresh (Nat.le_refl _)) (Nat.ne_of_lt (Nat.lt_succ_self _))
  have I2:=Inv.made (C:=C) I
  have r2:Vals (V.ref (s.heap.objs.size + 1)::(vs++dvs)) (Value.ref (s.heap.objs.size + 1)::(us++ds)):=.cons rfl (r.append hd)
  have hl:(Value.ref (s.heap.objs.size + 1)::us++ds).length=ps.length:=by
    have e:=r2.length
    rw [F.len _ _ _ _ hq] at e
    exact e.symm
  refine wpAny_call (make_map (f:=f) I.kIn M.makes M.init (beq_iff_eq.mp M.fn) (codeAny_mono (F.run _ X.stack _ _ ⟨Value.ref (s.heap.objs.size + 1)::us,[]⟩ (Value.ref (s.heap.objs.size + 1)::(us++ds)) _ _ E (hr.make C us [])
    (I2.env0.make C us []) (hb _ (Value.ref (s.heap.objs.size + 1)::us) I2.kIn hl) r2 hq) fun r s' hq'=>?_))
  cases r with
  | error e=>exact hx pins σ _ _ e s' I2 hq'
  | ok fl =>
    cases fl with
    | ret u =>
      obtain ⟨v,H',I3,rv,ev,q3⟩:=I2.after hq'
      subst ev
      exact ⟨rv,⟨V.ref (s.heap.objs.size + 1),H',I3,rfl,q3⟩⟩
    | next=>exact False.elim hq'
    | brk=>exact False.elim hq'
    | cont=>exact False.elim hq'
theorem pe_make (M:Mk X.K C f) (F:FnOk X.prog X.w X.K X.mg X.base CX k f fd ps sp) (hr:Room (k + 1) X.A) (hg:Gl X x) (hm:X.mg x=some (.ref C)) (hb:Binds X.K fd ps ds) (hd:Vals dvs ds) (hx:Passes CX X E)
    (ha:PA X (e::es) t) (hdb:(x == ("__debug__" : Str))=false:=by decide) (he:starEach (e::es) X.env=(false,eval e X.env)::starEach es X.env:=by rfl) (hpl:(backTo pos (starEach es X.env)).any (·.1)=false:=by rfl) :
    PE X (.Call (.Name x p) (e::es) [] pos) (tMake C sp dvs E t):=by
  intro pins s σ H Q I h
  refine wpAny_Call_Name_kw (ld_glob I hg hm ?_ hdb)
  refine PySem.W.callWith_K (h₀:=X.base) I.ok.mod.kin M.kp (thn (ha pos pins s σ H _ I h) fun us s1 ⟨vs,H1,I1,r,q⟩=>⟨I1.kIn,?_⟩) he hpl
  exact run_make M F hr hb hd hx I1 r q
theorem pe_make0 (M:Mk X.K C f) (F:FnOk X.prog X.w X.K X.mg X.base CX k f fd ps sp) (hr:Room (k + 1) X.A) (hg:Gl X x) (hm:X.mg x=some (.ref C)) (hb:Binds X.K fd ps ds) (hd:Vals dvs ds) (hx:Passes CX X E)
    (hdb:(x == ("__debug__" : Str))=false:=by decide):PE X (.Call (.Name x p) [] [] pos) (tMake C sp dvs E tNil):=by
  intro pins s σ H Q I h
  refine wpAny_Call_Name_kw (ld_glob I hg hm ?_ hdb)
  exact PySem.W.callWith_K0 I.kIn M.kp (run_make (us:=[]) M F hr hb hd hx I .nil h)
end
structure FnScope (N P:List Str) (sc:Scope):Prop where
  kind:sc.kind=.function
  co:sc.isCoroutine=false
  gen:sc.isGenerator=false
  nd:N.Nodup
  pre:N.take P.length=P
  par:∀x∈P,sc.names.lookup x=some .local∨sc.names.lookup x=some .cell
  nofree:∀y∈sc.names,y.2≠.free
theorem bindL_out {kindOf:Str→Option NameKind} {x:Str}:∀{binds:List (Str×Value)} {m:Str→Option Value},(∀v,(x,v)∉binds)→bindL kindOf binds m x=m x
  | [],_,_=>rfl
  | (n,v)::r,m,h=>by
    unfold bindL
    rw [bindL_out fun w hw=>h w (List.mem_cons_of_mem _ hw)]
    split
    · have:x≠n:=by rintro rfl;exact h v List.mem_cons_self
      simp [this]
    · rfl
theorem bindC_out {kindOf:Str→Option NameKind} {x:Str}:∀{binds:List (Str×Value)} {m:Str→Option Value},(∀v,(x,v)∉binds)→bindC kindOf binds m x=m x
  | [],_,_=>rfl
  | (n,v)::r,m,h=>by
    unfold bindC
    rw [bindC_out fun w hw=>h w (List.mem_cons_of_mem _ hw)]
    split
    · rfl
    · have:x≠n:=by rintro rfl;exact h v List.mem_cons_self
      simp [this]
theorem bindL_get {kindOf:Str→Option NameKind} {x:Str} {v:Value}:∀{P:List Str} {vs:List Value} {i:Nat} {m:Str→Option Value},P.Nodup→P[i]? = some x→vs[i]? = some v→kindOf x=some .local →
    bindL kindOf (P.zip vs) m x=some v
  | [],_,_,_,_,h,_,_=>by simp at h
  | _::_,[],_,_,_,_,h,_=>by simp at h
  | p::P,w::vs,0,m,nd,h1,h2,hk=>by
    simp at h1 h2;subst h1;subst h2
    show bindL kindOf ((p,w)::P.zip vs) m p=_
    unfold bindL
    rw [bindL_out fun v hv=>(List.nodup_cons.mp nd).1 (List.of_mem_zip hv).1,if_pos hk]
    simp
  | p::P,w::vs,i + 1,m,nd,h1,h2,hk=>by
    show bindL kindOf ((p,w)::P.zip vs) m x=_
    unfold bindL
    exact bindL_get (i:=i) (List.nodup_cons.mp nd).2 (by simpa using h1) (by simpa using h2) hk
theorem bindC_get {kindOf:Str→Option NameKind} {x:Str} {v:Value}:∀{P:List Str} {vs:List Value} {i:Nat} {m:Str→Option Value},P.Nodup→P[i]? = some x→vs[i]? = some v→kindOf x≠some .local →
    bindC kindOf (P.zip vs) m x=some v
  | [],_,_,_,_,h,_,_=>by simp at h
  | _::_,[],_,_,_,_,h,_=>by simp at h
  | p::P,w::vs,0,m,nd,h1,h2,hk=>by
    simp at h1 h2;subst h1;subst h2
    show bindC kindOf ((p,w)::P.zip vs) m p=_
    unfold bindC
    rw [bindC_out fun v hv=>(List.nodup_cons.mp nd).1 (List.of_mem_zip hv).1,if_neg hk]
    simp
  | p::P,w::vs,i + 1,m,nd,h1,h2,hk=>by
    show bindC kindOf ((p,w)::P.zip vs) m x=_
    unfold bindC
    exact bindC_get (i:=i) (List.nodup_cons.mp nd).2 (by simpa using h1) (by simpa using h2) hk
def start (N:List Str) (vs:List V):St:=vs.map some++List.replicate (N.length - vs.length) none
def cxOf (CX:CXT) (P:Program) (w:World) (K:PySem.W.Frag) (mg:Str→Option Value) (base:Heap) (N:List Str) (qual:Str) (scope:Scope) (f:Addr) (cd:Value) (A:Around) (outer:List Env) (s:Shared) (H:Hp) (E:XK):Cx where
  prog:=P
  w:=w
  K:=K
  mg:=mg
  base:=base
  A:=A.deeper (envOfC qual scope s.heap.objs.size f cd)
  N:=N
  s_0:=s
  H_0:=H
  env:=envOfC qual scope s.heap.objs.size f cd
  outer:=outer
  stack:=envOfC qual scope s.heap.objs.size f cd::outer
  ex:=[]
  calm:=true
  fn:=fun _=>true
  pn:=[]
  xe:=fun e s'=>wpAny (model P w) (A.deeper (envOfC qual scope s.heap.objs.size f cd)) (leaving (envOfC qual scope s.heap.objs.size f cd) e) (fun _ s''=>CX outer H s E e s'') (fun e' s''=>CX outer H s E e' s'') s'
theorem cell_has {sc:Scope} {n:Nat} {x:Str} (h:sc.names.lookup x=some .cell):∃c,(cellsFrom n sc.names []).lookup x=some c:=by
  have q:=PySem.W.cellsFrom_some sc.names n [] (.inl h)
  exact Option.isSome_iff_exists.mp q
theorem inv_start {CX:CXT} {P:Program} {w:World} {K:PySem.W.Frag} {mg:Str→Option Value} {base:Heap} {N ps:List Str} {qual:Str} {scope:Scope} {f:Addr} {cd:Value} {A:Around} {outer:List Env} {s s1:Shared} {H:Hp} {E:XK} {us:List Value} {vs:List V}
    (S:FnScope N ps scope) (hd:A.handled=none) (e0:Env0 P w K mg base A outer s H) (hl:vs.length=ps.length) (r:Vals vs us)
    (x:InCallC s s.heap.objs.size (bindL (envOfC qual scope s.heap.objs.size f cd).kindOf (ps.zip us) fun _=>none) (cellsFrom (s.heap.objs.size + 1) scope.names []) (bindC (envOfC qual scope s.heap.objs.size f cd).kindOf (ps.zip us) fun _=>none) s1) :
    Inv (cxOf CX P w K mg base N qual scope f cd A outer s H E) [] (start N vs) H s1:=by
  have hpl:ps.length≤N.length:=by have:=congrArg List.length S.pre;rw [List.length_take] at this;omega
  obtain ⟨h1,tk,rfl,hk⟩:=x.done
  have noA:∀b:Addr,b∉(cxOf CX P w K mg base N qual scope f cd A outer s H E).ex:=fun b z=>absurd (show b∈([]:List Addr) from z) (by simp)
  refine ⟨⟨e0.mod,S.kind,rfl,rfl,Nat.le_refl _,fun y z c h1 h2=>?_,fun y hy=>?_,fun y c _ h=>?_,fun _=>hd,Around.frames_deeper e0.frames,.inr ⟨rfl,rfl⟩,fun b z=>absurd z (noA b),e0.bs,e0.bsz,fun b _ _=>noA b,fun b z=>absurd z (noA b),e0.funs,e0.frf⟩,
    rfl,e0.bare,Un.kept hk,⟨_,x.toInCall.ns,fun i y v h1 h2 h3=>?_⟩,fun y c h=>⟨_,x.cell y c h⟩,e0.hok.fresh (Nat.le_refl _),fun y c h=>?_,fun p hp=>absurd (show p∈([]:List (Addr×Obj)) from hp) (by simp),e0.hok.kept hk,?_⟩
  · exact name_of_addr x.apart (PySem.mem_of_lookup h1) (PySem.mem_of_lookup h2)
  · have hy:scope.names.lookup y=some .cell∨scope.names.lookup y=some .free:=hy
    rcases hy with hy | hy
    · exact cell_has hy
    · exact absurd rfl (S.nofree _ (PySem.mem_of_lookup hy))
  · exact Nat.le_of_lt (x.above y c (PySem.mem_of_lookup h))
  · have hi:i<vs.length:=by
      unfold start at h2
      by_cases hi:i<vs.length
      · exact hi
      · rw [List.getElem?_append_right (by simpa using hi)] at h2
        rw [List.getElem?_replicate] at h2
        split at h2 <;> cases h2
    have ha:vs[i]? = some v:=by
      unfold start at h2
      rw [List.getElem?_append_left (by simpa using hi),List.getElem?_map] at h2
      cases e:vs[i]? with
      | none=>rw [e] at h2;cases h2
      | some a=>rw [e] at h2;cases h2;rfl
    obtain ⟨u,hu,rv⟩:=r.get ha
    have hp:ps[i]? = some y:=by
      rw [← S.pre,List.getElem?_take_of_lt (by omega)];exact h1
    have ndP:ps.Nodup:=by rw [← S.pre];exact S.nd.sublist (List.take_sublist _ _)
    refine ⟨u,rv,?_⟩
    rcases S.par y (List.mem_of_getElem? hp) with k | k
    · exact .inl ⟨k,bindL_get ndP hp hu k⟩
    · obtain ⟨c,e⟩:=cell_has (n:=s.heap.objs.size + 1) k
      refine .inr ⟨.inl k,c,e,?_⟩
      have q:=x.cell y c e
      rw [bindC_get ndP hp hu (by show scope.names.lookup y≠_;rw [k];decide)] at q
      exact q
  · exact e0.hok.fresh (Nat.le_of_lt (x.above y c (PySem.mem_of_lookup h)))
  · unfold start
    show _=N.length
    rw [List.length_append,List.length_map,List.length_replicate]
    omega
theorem fn_of {CX:CXT} {P:Program} {w:World} {K:PySem.W.Frag} {mg:Str→Option Value} {base:Heap} {k:Nat} {f:Addr} {name qual:Str} {params:Arguments} {body:List Stmt} {scope:Scope} {dV kV doc pm cdv ct oc:Value} {an od:Option Addr}
    {osl:Array (Option Value)} {N ps:List Str} {sp:Sp} (lk:K.lookup f=some ⟨oc,od,.func (PySem.W.fnOf name qual params body scope dV kV doc pm an cdv ct),osl⟩) (hcd:PySem.W.codeIn K cdv qual=true) (S:FnScope N ps scope)
    (len:∀vs H Q E,sp vs H Q E→vs.length=ps.length)
    (hbody:∀(A:Around) (outer:List Env) (s:Shared) (H:Hp) (vs:List V) (Q:VK) (E:XK),Room k (A.deeper (envOfC qual scope s.heap.objs.size f cdv))→sp vs H Q E →
      ∃t,PSs (cxOf CX P w K mg base N qual scope f cdv A outer s H E) body t∧t { nx:=fun _ H'=>Q .non H',rt:=Q } (start N vs) H) :
    FnOk P w K mg base CX (k + 1) f (PySem.W.fnOf name qual params body scope dV kV doc pm an cdv ct) ps sp:=by
  refine ⟨len,fun A outer s H args us vs Q E hr e0 hb r hsp=>?_⟩
  have hl:=len _ _ _ _ hsp
  have KX:K.In s.heap:=e0.mod.kin.keeps fun b o e=>(e0.bs b o e).1
  have lim:s.heap.NoLimit:=e0.mod.nolimit.keeps fun b o e=>(e0.bs b o e).1
  have hkind:∀y∈ps.zip us,scope.names.lookup y.1=some .local∨(scope.names.lookup y.1=some .cell∧((cellsFrom (s.heap.objs.size + 1) scope.names []).lookup y.1).isSome=true):=fun ⟨n,v⟩ hy=>by
    rcases S.par n (List.of_mem_zip hy).1 with q | q
    · exact .inl q
    · exact .inr ⟨q,PySem.W.cellsFrom_some _ _ _ (.inl q)⟩
  refine codeAny_call_function hr.depth (KX _ _ lk) rfl S.co S.gen rfl (PySem.W.codeRec_of KX hcd) (hb _ _ _ _ ?_)
  refine wpAny_newFunctionEnv_cells S.kind hkind fun env he s1 x=>?_
  subst he
  refine ⟨lim.keeps x.toInCall.keep,codeAny_func ?_⟩
  obtain ⟨t,ht,hq⟩:=hbody A outer s H vs Q E (hr.deeper _) hsp
  have I:Inv (cxOf CX P w K mg base N qual scope f cdv A outer s H E) [] (start N vs) H s1:=inv_start S hr.hd e0 hl r x
  refine wpAny_mono (ht [] s1 (start N vs) H _ I hq) (fun fl s' hs=>?_) fun e s' hs=>hs
  have fin:∀{σ':St} {H':Hp} {v:V} {u:Value},Inv (cxOf CX P w K mg base N qual scope f cdv A outer s H E) [] σ' H' s'→RelV v u→Q v H'→CE outer P w H s Q u s' :=
    fun {σ' H' v u} J rv q=>⟨v,H',J.os,J.bare,J.base,J.hok,rv,q⟩
  cases fl with
  | ret u =>
    obtain ⟨v,σ',H',J,rv,q⟩:=hs
    exact fin J rv q
  | next =>
    obtain ⟨σ',H',J,q⟩:=hs
    exact fin (v:=V.non) (u:=Value.none) J rfl q
  | brk =>
    obtain ⟨_,_,_,q⟩:=hs
    exact False.elim q
  | cont =>
    obtain ⟨_,_,_,q⟩:=hs
    exact False.elim q
end L2
namespace L2
open PySem PySem.Spec PyProof.Rows
section
variable {X:Cx} {x:Str} {p pos:Pos} {e:Expr} {es:List Expr} {t:TA} {id T:String} {r:List V→Hp→VK→Prop}
def tCB (r:List V→Hp→VK→Prop) (t:TA):TE:=fun σ H Q=>t σ H fun vs H1=>r vs H1 Q
theorem pe_callB (hc:CallR X (.builtin id) r) (hg:Gl X x) (hm:X.mg x=none) (hv:bootBuiltins x=some (.builtin id)) (ha:PA X (e::es) t) (hn:x ≠ "__name__" := by decide) (hdb:(x == ("__debug__" : Str))=false:=by decide)
    (he:starEach (e::es) X.env=(false,eval e X.env)::starEach es X.env:=by rfl) (hpl:(backTo pos (starEach es X.env)).any (·.1)=false:=by rfl):PE X (.Call (.Name x p) (e::es) [] pos) (tCB r t):=by
  intro pins s σ H Q I h
  refine wpAny_Call_Name_kw (ld_blt I hg hm hv ?_ hn hdb)
  exact PyProof.Rows.callWith_builtin1 (thn (ha pos pins s σ H _ I h) fun us s1 ⟨vs,H1,I1,r1,q1⟩=>hc pins s1 σ H1 vs us Q I1 r1 q1) he hpl
end
end L2
namespace HT
open PySem PyProof.Rows
section
variable {prog:Program} {w:World} {A:Around} {E:Value→Shared→Prop} {s:Shared}
theorem cat_tup {t b:Addr} {vs ws:List Value} {Q:Value→Shared→Prop} (ht:IsTup s.heap t vs.toArray) (hb:IsTup s.heap b ws.toArray) (hv:vs≠[])
    (h1:ws=[]→Q (.ref t) s) (h2:ws≠[]→Q (.ref s.heap.objs.size) { s with heap:=s.heap.push { cls:=.type "tuple", data:=.seq (vs++ws).toArray } })
    (hsz:vs.length + ws.length≤sizeLine):wpAny (model prog w) A (binaryOp .Add (.ref t) (.ref b)) Q E s:=by
  obtain ⟨⟨cls,dd,data,sl⟩,ho,hc,n,hd⟩:=id ht
  obtain ⟨⟨cls2,dd2,data2,sl2⟩,ho2,hc2,n2,hd2⟩:=id hb
  simp only at hc hd hc2 hd2
  subst hc hd hc2 hd2
  have e:vs.toArray++ws.toArray=(vs++ws).toArray:=by simp
  by_cases hw:ws=[]
  · exact concat_meets ⟨_,ho,rfl⟩ ⟨_,ho2,rfl⟩ noFill_tuple_add seq_tuple_add PySem.F.slot_tuple_add PySem.F.entry_tuple_add (PySem.F.args_tuple_add_2 _ _)
      (tuple_addW1 t b vs.toArray ws.toArray n n2 dd dd2 sl sl2 (by simpa using hv) (by simp [hw])) ⟨ho,ho2,h1 hw⟩
  · refine concat_meets ⟨_,ho,rfl⟩ ⟨_,ho2,rfl⟩ noFill_tuple_add seq_tuple_add PySem.F.slot_tuple_add PySem.F.entry_tuple_add (PySem.F.args_tuple_add_2 _ _)
      (tuple_addW2 t b vs.toArray ws.toArray n n2 dd dd2 sl sl2 (by simpa using hv) (by simpa using hw) (by rw [List.size_toArray,List.size_toArray];exact hsz)) ⟨ho,ho2,?_⟩
    rw [e]
    exact h2 hw
def sIx (n d:Nat):Option Int→Nat
  | none=>d
  | some v=>if v<0 then (v + (n:Int)).toNat else min v.toNat n
theorem sIx_none (n d:Nat):sIx n d none=d:=rfl
theorem sIx_nat (n d k:Nat):sIx n d (some (k:Int))=min k n:=by
  show (if (k:Int)<0 then ((k:Int) + (n:Int)).toNat else min (k:Int).toNat n)=min k n
  rw [if_neg (by omega),Int.toNat_natCast]
end
end HT
namespace L2
open PySem PySem.Spec PyProof.Rows
abbrev TO:=St→Hp→(Option Int→Hp→Prop)→Prop
def PO (X:Cx) (e:Option Expr) (t:TO):Prop :=
  ∀(pins:List (Addr×Obj)) (s:Shared) (σ:St) (H:Hp) (Q:Option Int→Hp→Prop),Inv X pins σ H s→t σ H Q →
    wpAny (model X.prog X.w) X.A (evalPart e X.env) (fun u s'=>∃o H',Inv X pins σ H' s'∧IsPart u o∧Q o H') X.xe s
def tNoPart:TO:=fun _ H Q=>Q none H
def tPart (t:TE):TO:=fun σ H Q=>t σ H fun x H1=>∃i,x=.int i∧Q (some i) H1
section
variable {X:Cx} {e:Expr} {te:TE} {lo hi:Option Expr} {tl th:TO} {pos p2:Pos}
theorem po_none:PO X none tNoPart:=by
  intro pins s σ H Q I h
  rw [evalPart_none]
  exact wpAny_pure ⟨none,H,I,.none,h⟩
theorem po_some (h:PE X e te):PO X (some e) (tPart te):=by
  intro pins s σ H Q I hw
  rw [evalPart_some]
  refine thn (h pins s σ H _ I hw) fun u s1 ⟨x,H1,I1,r1,q1⟩=>?_
  obtain ⟨i,rfl,q⟩:=q1
  obtain ⟨t,rfl⟩:=r1
  exact ⟨some i,H1,I1,.int i t,q⟩
def SlR (X:Cx) (r:V→Option Int→Option Int→Hp→VK→Prop):Prop :=
  ∀(pins:List (Addr×Obj)) (s:Shared) (σ:St) (H:Hp) (x:V) (v vl vu:Value) (lo hi:Option Int) (sl:Addr) (Q:VK),Inv X pins σ H s→RelV x v→s.heap.IsSliceOf sl vl vu .none→IsPart vl lo→IsPart vu hi→r x lo hi H Q →
    ∃T id,typeLookup (.type T) "__getitem__" = pure (some (.builtin id))∧s.TypeIs v T∧wpAny (model X.prog X.w) X.A (getItem v (.ref sl)) (EP X pins σ Q) X.xe s
def tSl (r:V→Option Int→Option Int→Hp→VK→Prop) (te:TE) (tl th:TO):TE:=fun σ H Q=>te σ H fun x H1=>tl σ H1 fun l H2=>th σ H2 fun u H3=>r x l u H3 Q
theorem pe_slice {r:V→Option Int→Option Int→Hp→VK→Prop} (hr:SlR X r) (he:PE X e te) (hl:PO X lo tl) (hu:PO X hi th):PE X (.Subscript e (.Slice lo hi none p2) pos) (tSl r te tl th):=by
  intro pins s σ H Q I h
  refine Subscript_ (thn (he pins s σ H _ I h) fun v s1 ⟨x,H1,I1,r1,q1⟩=>?_)
  refine wpAny_Slice (thn (hl pins s1 σ H1 _ I1 q1) fun vl s2 ⟨l,H2,I2,pl,q2⟩=>thn (hu pins s2 σ H2 _ I2 q2) fun vu s3 ⟨u,H3,I3,pu,q3⟩=>?_)
  rw [evalPart_none]
  refine wpAny_pure ?_
  have I4:Inv X pins σ H3 { s3 with heap:=s3.heap.push { cls:=.type "slice", data:=.fields #[vl,vu,.none] } }:=I3.kept (t':=s3.toks) fun b ob q=>Heap.get?_push_of_some _ q
  obtain ⟨T,id,hT,ht,hg⟩:=hr pins { s3 with heap:=s3.heap.push { cls:=.type "slice", data:=.fields #[vl,vu,.none] } } σ H3 x v vl vu l u s3.heap.objs.size Q I4 r1 (Heap.IsSliceOf.new ..) pl pu q3
  show wpAny (model X.prog X.w) X.A (subscriptTail e (.Slice lo hi none p2) v (.ref s3.heap.objs.size)) (EP X pins σ Q) X.xe { s3 with heap:=s3.heap.push { cls:=.type "slice", data:=.fields #[vl,vu,.none] } }
  exact tail_any (ops:=[.ref s3.heap.objs.size,v]) ht hT hg (by with_unfolding_all rfl)
def cutV (xs:List V) (lo hi:Option Int):List V:=(xs.drop (HT.sIx xs.length 0 lo)).take (HT.sIx xs.length xs.length hi - HT.sIx xs.length 0 lo)
theorem cutV_length (xs:List V) (lo hi:Option Int):(cutV xs lo hi).length≤xs.length:=by
  unfold cutV
  rw [List.length_take,List.length_drop]
  omega
def rCatT (K:PySem.W.Frag):R2:=fun x y H Q=>∃a b xs ys,x=.ref a∧y=.ref b∧SqT K H a xs∧SqT K H b ys∧xs≠[]∧xs.length + ys.length≤sizeLine ∧
  (ys=[]→Q (.ref a) H)∧(ys≠[]→∀p,H p=none→Q (.ref p) (upd H p (.tup (xs++ys))))
theorem Vals.nil_iff {xs:List V} {us:List Value} (r:Vals xs us):us=[]↔xs=[]:=by
  cases r with
  | nil=>simp
  | cons _ _=>simp
theorem op_catT:OpR X (binaryOp .Add) (rCatT X.K):=by
  intro pins s σ H x y v u Q I rx ry h
  obtain ⟨a,b,xs,ys,rfl,rfl,ha,hb,hx,hz,q1,q2⟩:=h
  cases rx
  cases ry
  obtain ⟨its,r1,p1,_⟩:=I.tuple ha
  obtain ⟨its2,r2,p2,_⟩:=I.tuple hb
  refine HT.cat_tup p1 p2 (fun z=>hx (r1.nil_iff.mp z)) (fun z=>⟨.ref a,H,I,rfl,q1 (r2.nil_iff.mp z)⟩) (fun z=>?_) (by rw [← r1.length,← r2.length];exact hz)
  refine ⟨.ref s.heap.objs.size,_,I.laid (t':=s.toks) (o:=.tup (xs++ys)) (fun b ob q=>Heap.get?_push_of_some _ q) (Nat.le_refl _) ?_,rfl,q2 (fun w=>z (r2.nil_iff.mpr w)) _ (I.hok.fresh (Nat.le_refl _))⟩
  exact ⟨by rw [List.length_append];exact hz,_,r1.append r2,IsTup.new _ _⟩
end
end L2
namespace L2
open PySem PySem.Spec PyProof.Rows
def ixN (n:Nat) (i:Int):Option Nat:=if 0≤i then (if i<n then some i.toNat else none) else if -(n:Int)≤i then some (i + n).toNat else none
def atI {α:Type} (xs:List α) (i:Int):Option α:=(ixN xs.length i).bind fun j=>xs[j]?
theorem ixN_seq {n:Nat} {i:Int} {j:Nat} (h:ixN n i=some j):seqIndex? i n=some j∧j<n∧-(n:Int)≤i∧i<n:=by
  unfold ixN at h
  by_cases h0:0≤i
  · rw [if_pos h0] at h
    by_cases h1:i<n
    · rw [if_pos h1] at h
      have e:i.toNat=j:=Option.some.inj h
      exact ⟨by rw [seqIndex_of h0 h1,e],by omega,by omega,h1⟩
    · rw [if_neg h1] at h;cases h
  · rw [if_neg h0] at h
    by_cases h1:-(n:Int)≤i
    · rw [if_pos h1] at h
      have e:(i + n).toNat=j:=Option.some.inj h
      exact ⟨by rw [seqIndex_neg (by omega) h1,e],by omega,h1,by omega⟩
    · rw [if_neg h1] at h;cases h
theorem atI_get {α:Type} {xs:List α} {i:Int} {v:α} (h:atI xs i=some v):∃j,seqIndex? i xs.length=some j∧xs[j]? = some v∧j<xs.length∧-(xs.length:Int)≤i∧i<xs.length:=by
  unfold atI at h
  cases e:ixN xs.length i with
  | none=>rw [e] at h;cases h
  | some j =>
    rw [e] at h
    obtain ⟨h1,h2,h3,h4⟩:=ixN_seq e
    exact ⟨j,h1,h,h2,h3,h4⟩
theorem atI_nat {α:Type} {xs:List α} {j:Nat} {v:α} (h:xs[j]? = some v):atI xs (j:Int)=some v:=by
  have hj:j<xs.length:=(List.getElem?_eq_some_iff.mp h).1
  have e:ixN xs.length (j:Int)=some j:=by
    unfold ixN
    rw [if_pos (by omega),if_pos (by omega)];simp
  unfold atI;rw [e];exact h
def PlainIx (b:Expr):Prop:=∀o i,subscripted b false o i=operate [o,i] (getItem o i)
def IxR (X:Cx) (r:R2):Prop :=
  ∀(value slice:Expr) (pins:List (Addr×Obj)) (s:Shared) (σ:St) (H:Hp) (x y:V) (v u:Value) (Q:VK),Inv X pins σ H s→RelV x v→RelV y u→r x y H Q →
    subscripted slice false v u=operate [v,u] (getItem v u)→wpAny (model X.prog X.w) X.A (subscriptTail value slice v u) (EP X pins σ Q) X.xe s
def MtR (X:Cx) (id:String) (r:V→List V→Hp→VK→Prop):Prop :=
  ∀(pins:List (Addr×Obj)) (s:Shared) (σ:St) (H:Hp) (x:V) (xs:List V) (v:Value) (us:List Value) (Q:VK),Inv X pins σ H s→RelV x v→Vals xs us→r x xs H Q →
    wpAny (model X.prog X.w) X.A (call (.builtin id) (v::us)) (EP X pins σ Q) X.xe s
section
variable {X:Cx} {a b:Expr} {ta tb:TE} {pos:Pos}
theorem pe_ix {r:R2} (hr:IxR X r) (ha:PE X a ta) (hb:PE X b tb) (hs:PlainIx b):PE X (.Subscript a b pos) (tOp r ta tb):=by
  intro pins s σ H Q I h
  exact Subscript_ (binT ha hb I h fun v u s2 x y H2 I2 rx ry q=>hr a b pins s2 σ H2 x y v u Q I2 rx ry q (hs _ _))
def rIxL (K:PySem.W.Frag):R2:=fun x y H Q=>∃p xs i v,x=.ref p∧y=.int i∧SqL K H p xs∧atI xs i=some v∧Q v H
def rIxT (K:PySem.W.Frag):R2:=fun x y H Q=>∃p xs i v,x=.ref p∧y=.int i∧SqT K H p xs∧atI xs i=some v∧Q v H
theorem ix_list:IxR X (rIxL X.K):=by
  intro value slice pins s σ H x y v u Q I rx ry h hs
  obtain ⟨p,xs,i,z,rfl,rfl,hq,he,q⟩:=h
  cases rx
  obtain ⟨t,rfl⟩:=ry
  obtain ⟨its,r,pl,hz⟩:=I.list hq
  obtain ⟨j,h1,h2,h3,h4,h5⟩:=atI_get he
  obtain ⟨w,ew,rw'⟩:=r.get h2
  have hl:=r.length
  have hn:=line63
  have fin:EP X pins σ Q w s:=⟨z,H,I,rw',q⟩
  by_cases h0:0≤i
  · have hj:i.toNat=j:=by
      rw [seqIndex_of h0 h5] at h1
      exact Option.some.inj h1
    exact item_listR pl.isList h0 (by omega) (by rw [hj];simpa using ew) fin hs
  · have hj:(i + (its.toArray.size:Int)).toNat=j:=by
      rw [seqIndex_neg (by omega) h4] at h1
      rw [List.size_toArray,← hl]
      exact Option.some.inj h1
    exact subscriptTail_builtinR (x:=w) pl.isList.typeIs slot_list_getitem.lookup
      (wpAny_getItem_list_neg (Q:=fun r s'=>r=w∧EP X pins σ Q r s') pl.isList (by omega) (by rw [List.size_toArray] <;> omega) (by omega) (by rw [hj];simpa using ew) ⟨rfl,fin⟩) hs
theorem ix_tup:IxR X (rIxT X.K):=by
  intro value slice pins s σ H x y v u Q I rx ry h hs
  obtain ⟨p,xs,i,z,rfl,rfl,hq,he,q⟩:=h
  cases rx
  obtain ⟨t,rfl⟩:=ry
  obtain ⟨its,r,pl,hz⟩:=I.tuple hq
  obtain ⟨j,h1,h2,h3,h4,h5⟩:=atI_get he
  obtain ⟨w,ew,rw'⟩:=r.get h2
  have hl:=r.length
  have hn:=line63
  have fin:EP X pins σ Q w s:=⟨z,H,I,rw',q⟩
  exact subscriptTail_builtinR (x:=w) pl.typeIs slot_tuple_getitem.lookup
    (getItem_tuple (j:=j) (Q:=fun r s'=>r=w∧EP X pins σ Q r s') pl (by omega) (by omega) (by rw [List.size_toArray,← hl];exact h1) (by simpa using ew) ⟨rfl,fin⟩) hs
theorem slice_bounds (lo hi:Option Int) (n:Nat):(sliceBounds lo hi none n).1=((HT.sIx n 0 lo:Nat):Int)∧(sliceBounds lo hi none n).2.1=((HT.sIx n n hi:Nat):Int)∧(sliceBounds lo hi none n).2.2=1:=by
  refine ⟨?_,?_,rfl⟩
  · cases lo with
    | none=>simp [sliceBounds,HT.sIx]
    | some i =>
      simp only [sliceBounds,HT.sIx,Option.getD_none,show (1:Int) > 0 by decide,if_true]
      by_cases h:i<0
      · simp only [h,if_true] <;> omega
      · simp only [h,if_false] <;> omega
  · cases hi with
    | none=>simp [sliceBounds,HT.sIx]
    | some i =>
      simp only [sliceBounds,HT.sIx,Option.getD_none,show (1:Int) > 0 by decide,if_true]
      by_cases h:i<0
      · simp only [h,if_true] <;> omega
      · simp only [h,if_false] <;> omega
theorem slicePick_cut (its:List Value) (lo hi:Option Int):slicePick its.toArray lo hi none=((its.drop (HT.sIx its.length 0 lo)).take (HT.sIx its.length its.length hi - HT.sIx its.length 0 lo)).toArray:=by
  obtain ⟨h1,h2,h3⟩:=slice_bounds lo hi its.toArray.size
  unfold slicePick
  rw [h1,h2,h3]
  simp only [sliceRange_one,pick_run,List.size_toArray] <;> rfl
def rSlL (K:PySem.W.Frag):V→Option Int→Option Int→Hp→VK→Prop:=fun x lo hi H Q=>∃a xs,x=.ref a∧SqL K H a xs∧∀p,H p=none→Q (.ref p) (upd H p (.lst (cutV xs lo hi)))
theorem sl_list:SlR X (rSlL X.K):=by
  intro pins s σ H x v vl vu lo hi sl Q I rx hs pl pu h
  obtain ⟨a,xs,rfl,hx,q⟩:=h
  cases rx
  obtain ⟨its,r,ht,hz⟩:=I.list hx
  have hlen:=r.length
  refine ⟨"list", _,slot_list_getitem.lookup,ht.isList.typeIs,?_⟩
  refine wpAny_getItem_list_slice ht.isList hs pl pu .none (by simp) ?_ (by rw [List.size_toArray] <;> omega)
  rw [slicePick_cut,← hlen]
  refine ⟨.ref s.heap.objs.size,_,I.laid (t':=s.toks) (o:=.lst (cutV xs lo hi)) (fun b ob q=>Heap.get?_push_of_some _ q) (Nat.le_refl _) ?_,rfl,q _ (I.hok.fresh (Nat.le_refl _))⟩
  exact ⟨Nat.le_trans (cutV_length xs lo hi) hz,_,0,(r.drop (HT.sIx xs.length 0 lo)).take (HT.sIx xs.length xs.length hi - HT.sIx xs.length 0 lo),Heap.get?_push_size _ rfl⟩
def flatV:V→Bool
  | .non=>true
  | .bl _=>true
  | .int _=>true
  | .str _=>true
  | _=>false
def eqV:V→V→Bool
  | .non,.non=>true
  | .bl a,.bl b=>a == b
  | .bl a,.int b=>(if a then 1 else 0) == b
  | .int a,.bl b=>a == (if b then 1 else 0)
  | .int a,.int b=>a == b
  | .str a,.str b=>a == b
  | _,_=>false
theorem eqAt_V {A:Around} {s:Shared} {y x:V} {u v:Value} (ry:RelV y u) (rx:RelV x v) (fy:flatV y=true) (fx:flatV x=true):SeqAt.EqAt A s u v (eqV y x):=by
  cases y with
  | non =>
    cases ry
    cases x with
    | non=>cases rx;exact SeqAt.EqAt.same _
    | bl b=>cases rx;exact SeqAt.EqAt.none_bool b
    | int b=>obtain ⟨t,rfl⟩:=rx;exact SeqAt.EqAt.none_int b t
    | str b=>obtain ⟨t,rfl⟩:=rx;exact SeqAt.EqAt.none_str b t
    | _=>exact absurd (show false=true from fx) Bool.false_ne_true
  | bl a =>
    cases ry
    cases x with
    | non=>cases rx;exact SeqAt.EqAt.bool_none a
    | bl b=>cases rx;exact SeqAt.EqAt.bool_bool a b
    | int b=>obtain ⟨t,rfl⟩:=rx;exact SeqAt.EqAt.bool_int a b t
    | str b=>obtain ⟨t,rfl⟩:=rx;exact SeqAt.EqAt.bool_str a b t
    | _=>exact absurd (show false=true from fx) Bool.false_ne_true
  | int a =>
    obtain ⟨t',rfl⟩:=ry
    cases x with
    | non=>cases rx;exact SeqAt.EqAt.int_none a t'
    | bl b=>cases rx;exact SeqAt.EqAt.int_bool a t' b
    | int b=>obtain ⟨t,rfl⟩:=rx;exact SeqAt.EqAt.int_int a t' b t
    | str b=>obtain ⟨t,rfl⟩:=rx;exact SeqAt.EqAt.int_str a t' b t
    | _=>exact absurd (show false=true from fx) Bool.false_ne_true
  | str a =>
    obtain ⟨t',rfl⟩:=ry
    cases x with
    | non=>cases rx;exact SeqAt.EqAt.str_none a t'
    | bl b=>cases rx;exact SeqAt.EqAt.str_bool a t' b
    | int b=>obtain ⟨t,rfl⟩:=rx;exact SeqAt.EqAt.str_int a t' b t
    | str b=>obtain ⟨t,rfl⟩:=rx;exact SeqAt.EqAt.str_str a t' b t
    | _=>exact absurd (show false=true from fx) Bool.false_ne_true
  | _=>exact absurd (show false=true from fy) Bool.false_ne_true
def eqU (x:V) (u:Value):Bool:=match u with
  | .none=>eqV .non x
  | .bool b=>eqV (.bl b) x
  | .int i _=>eqV (.int i) x
  | .str z _=>eqV (.str z) x
  | _=>false
theorem eqU_of {x y:V} {u:Value} (r:RelV y u) (f:flatV y=true):eqU x u=eqV y x:=by
  cases y with
  | non=>cases r;rfl
  | bl b=>cases r;rfl
  | int i=>obtain ⟨t,rfl⟩:=r;rfl
  | str z=>obtain ⟨t,rfl⟩:=r;rfl
  | _=>exact absurd (show false=true from f) Bool.false_ne_true
theorem any_eqU {x:V}:∀{xs:List V} {us:List Value},Vals xs us→xs.all flatV=true→us.any (eqU x)=xs.any fun y=>eqV y x
  | _,_,.nil,_=>rfl
  | y::xs,u::us,.cons r t,f=>by
    rw [List.all_cons,Bool.and_eq_true] at f
    rw [List.any_cons,List.any_cons,eqU_of r f.1,any_eqU t f.2]
theorem mem_eqAt {A:Around} {s:Shared} {x:V} {v:Value} (rx:RelV x v) (fx:flatV x=true):∀{xs:List V} {us:List Value},Vals xs us→xs.all flatV=true→∀u∈us,SeqAt.EqAt A s u v (eqU x u)
  | _,_,.nil,_=>fun u hu=>by cases hu
  | y::xs,u::us,.cons r t,f=>fun u' hu=>by
    rw [List.all_cons,Bool.and_eq_true] at f
    rcases List.mem_cons.mp hu with rfl | hu
    · rw [eqU_of r f.1];exact eqAt_V r rx f.1 fx
    · exact mem_eqAt rx fx t f.2 u' hu
def inV (x:V) (xs:List V):Bool:=xs.any fun y=>eqV y x
def rIn (K:PySem.W.Frag) (neg:Bool):R2:=fun x y H Q=>∃p xs,y=.ref p∧(SqL K H p xs∨SqT K H p xs)∧flatV x=true∧xs.all flatV=true∧Q (.bl (if neg then !inV x xs else inV x xs)) H
theorem op_notIn_seq:OpR X (compareOp .NotIn) (rIn X.K true):=by
  intro pins s σ H x y v u Q I rx ry h
  obtain ⟨p,xs,rfl,hq,fx,fs,q⟩:=h
  cases ry
  rcases hq with hq | hq
  · obtain ⟨its,r,pl,hz⟩:=I.list hq
    refine SeqAt.notIn_listAt (eqU x) pl.isList (fun w hw=>mem_eqAt rx fx r fs w (by simpa using hw)) ⟨.bl _,H,I,rfl,?_⟩
    rw [show its.toArray.any (eqU x)=its.any (eqU x) by simp,any_eqU r fs]
    exact q
  · obtain ⟨its,r,pl,hz⟩:=I.tuple hq
    refine SeqAt.notIn_tupleAt (eqU x) pl (fun w hw=>mem_eqAt rx fx r fs w (by simpa using hw)) ⟨.bl _,H,I,rfl,?_⟩
    rw [show its.toArray.any (eqU x)=its.any (eqU x) by simp,any_eqU r fs]
    exact q
theorem call_len_seq:CallR X (.builtin "len") (fun xs H Q=>∃p ys,xs=[.ref p]∧(SqL X.K H p ys∨SqT X.K H p ys)∧Q (.int ys.length) H):=by
  intro pins s σ H xs us Q I r h
  obtain ⟨p,ys,rfl,hq,q⟩:=h
  obtain ⟨u,rfl,rx⟩:=vals1 r
  cases rx
  have hn:=line63
  rcases hq with hq | hq
  · obtain ⟨its,r',pl,hz⟩:=I.list hq
    have hlen:=r'.length
    exact Calls.call_len_list pl.isList (by simp only [List.size_toArray] <;> omega) ⟨.int ys.length,H,I.tok _,⟨s.toks + 1,by rw [List.size_toArray,hlen]⟩,q⟩
  · obtain ⟨its,r',pl,hz⟩:=I.tuple hq
    have hlen:=r'.length
    exact len_tuple pl (by simp only [List.size_toArray] <;> omega) ⟨.int ys.length,H,I.tok _,⟨s.toks + 1,by rw [List.size_toArray,hlen]⟩,q⟩
def tyV (K:PySem.W.Frag) (T:String) (x:V) (H:Hp):Prop:=match x with
  | .str _=>T = "str"
  | .int _=>T = "int"
  | .ref p=>(T = "list"∧∃xs,SqL K H p xs)∨(T = "tuple"∧∃o,K.lookup p=some o∧o.cls=.type "tuple"∧o.dict=none) ∨
      (T = "dict"∧((∃kvs,H p=some (.dK kvs))∨∃kvs,H p=some (.dT kvs)))∨(T = "set"∧∃S n,H p=some (.set S n))
  | _=>False
theorem tyV_is {pins:List (Addr×Obj)} {σ:St} {H:Hp} {s:Shared} {T:String} {x:V} {v:Value} (I:Inv X pins σ H s) (r:RelV x v) (ty:tyV X.K T x H) :
    s.TypeIs v T∧∀a,v=.ref a→∃ob,s.heap.get? a=some ob∧ob.dict=none:=by
  cases x with
  | str z =>
    obtain ⟨t,rfl⟩:=r
    cases (show T = "str" from ty)
    exact ⟨typeIs_str s z t,fun _ e=>nomatch e⟩
  | int i =>
    obtain ⟨t,rfl⟩:=r
    cases (show T = "int" from ty)
    exact ⟨typeIs_int s i t,fun _ e=>nomatch e⟩
  | ref p =>
    cases r
    rcases ty with ⟨rfl,xs,hq⟩ | ⟨rfl,o,hk,hc,hd⟩ | ⟨rfl,hk⟩ | ⟨rfl,S,n,hk⟩
    · obtain ⟨its,_,pl,_⟩:=I.list hq
      refine ⟨pl.isList.typeIs,fun a e=>?_⟩
      cases e
      obtain ⟨o,n,e,c,hd,_⟩:=pl
      exact ⟨o,e,hd⟩
    · refine ⟨⟨o,I.kIn p o hk,hc⟩,fun a e=>?_⟩
      cases e
      exact ⟨o,I.kIn _ o hk,hd⟩
    · have z:∃o,s.heap.get? p=some o∧o.ExactDict:=by
        rcases hk with ⟨kvs,hk⟩ | ⟨kvs,hk⟩
        · obtain ⟨_,_,_,_,o,_,_,e,ex,_⟩:=I.hok p _ hk
          exact ⟨o,e,ex⟩
        · obtain ⟨_,_,_,_,o,_,_,e,ex,_⟩:=I.hok p _ hk
          exact ⟨o,e,ex⟩
      obtain ⟨o,e,ex⟩:=z
      refine ⟨⟨o,e,ex.1⟩,fun a e2=>?_⟩
      cases e2
      exact ⟨o,e,ex.2.1⟩
    · obtain ⟨o,_,_,_,e,ex,_⟩:=I.hok p _ hk
      refine ⟨⟨o,e,ex.1⟩,fun a e2=>?_⟩
      cases e2
      exact ⟨o,e,ex.2.1⟩
  | _=>exact False.elim ty
def tBM (K:PySem.W.Frag) (T:String) (r:V→List V→Hp→VK→Prop) (to:TE) (t:TA):TE:=fun σ H Q=>to σ H fun x H1=>tyV K T x H1∧t σ H1 fun xs H2=>r x xs H2 Q
variable {o e:Expr} {es:List Expr} {to:TE} {t:TA} {name:Str} {apos cpos:Pos} {T id:String} {r:V→List V→Hp→VK→Prop}
theorem pe_bm (pa:PlainAttrs T) (slot:Slot T name id) (hty:typeOf (.builtin id)=pure (.type "method_descriptor")) (hm:MtR X id r) (ho:PE X o to) (ha:PA X (e::es) t)
    (hbase:attributeBase o name X.env (eval o X.env)=eval o X.env:=by rfl)
    (hfew:((backTo cpos (starEach (e::es) X.env)).all (fun x=>!x.1) && (backToKw cpos (keywordEach [] X.env)).all (fun x=>x.1.isSome)
      && decide ((e::es).length + ([]:List Keyword).length + (if ([]:List Keyword).isEmpty then 0 else 1)<30))=true:=by rfl)
    (hline:(apos.endLine == cpos.line)=true:=by rfl) (hs:starEach (e::es) X.env=(false,eval e X.env)::starEach es X.env:=by rfl) (hplain:(backTo cpos (starEach es X.env)).any (·.1)=false:=by rfl) :
    PE X (.Call (.Attribute o name apos) (e::es) [] cpos) (tBM X.K T r to t):=by
  intro pins s σ H Q I h
  refine wpAny_Call_method_late hbase hfew hline rfl (thn (ho pins s σ H _ I h) fun v s1 ⟨x,H1,I1,r1,ty,q1⟩=>?_)
  obtain ⟨h1,h2⟩:=tyV_is I1 r1 ty
  refine ⟨T,id,pa,slot,hty,h1,h2,?_⟩
  have hA:=ha cpos pins s1 σ H1 _ I1 q1
  rw [hs] at hA ⊢
  refine Calls.callWith_builtin (by show (false || (backTo cpos (starEach es X.env)).any (·.1))=false;rw [hplain] <;> rfl) (Calls.evalArgs_plain ?_)
  exact thn hA fun us s2 ⟨vs,H2,I2,r2,q2⟩=>hm pins s2 σ H2 x vs v us Q I2 r1 r2 q2
end
end L2
namespace L2
open PySem PySem.Spec PyProof.Rows
def MtM (X:Cx) (id:String) (r:V→List V→Hp→VK→Prop):Prop :=
  ∀(pins:List (Addr×Obj)) (s:Shared) (σ:St) (H:Hp) (x:V) (xs:List V) (v:Value) (us:List Value) (Q:VK),Inv X pins σ H s→RelV x v→Vals xs us→r x xs H Q →
    wpAny (model X.prog X.w) X.A (call (.builtin id) (v::us)) (EP X pins σ Q) X.xe s
theorem Vals.one:∀{x:V} {us:List Value},Vals [x] us→∃u,us=[u]∧RelV x u
  | _,_,.cons r .nil=>⟨_,rfl,r⟩
section
variable {X:Cx} {pins:List (Addr×Obj)} {σ:St} {H:Hp} {s:Shared} {l b:Addr} {xs ys zs:List V}
theorem Inv.lset {its its':List Value} {n:Nat} {f:Array Value→Array Value} {t':Nat} (I:Inv X pins σ H s) (hH:H l=some (.lst xs))
    (e:s.heap.get? l=some { cls:=.type "list", data:=.seq its.toArray n }) (hf:f its.toArray=its'.toArray) (hv:Vals ys its') (hz:ys.length≤sizeLine) :
    Inv X pins σ (upd H l (.lst ys)) { s with heap:=s.heap.update l (Obj.mapSeq f),toks:=t' }:=by
  have q:=PySem.IsL.update e f
  rw [hf] at q
  refine I.write (x:=l) (e:=l) (by rw [hH];exact trivial) (.inl rfl) (fun b' u hb hu=>(Heap.get?_update_other s.heap (Obj.mapSeq f) (Ne.symm hb)).trans hu) ⟨_,q⟩ ?_
  exact ⟨hz,its',_,hv,q⟩
theorem Inv.lnew {its:List Value} {t':Nat} (I:Inv X pins σ H s) (hv:Vals ys its) (hz:ys.length≤sizeLine) :
    Inv X pins σ (upd H s.heap.objs.size (.lst ys)) { s with heap:=s.heap.push { cls:=.type "list", data:=.seq its.toArray },toks:=t' } :=
  I.laid (fun _ _ q=>Heap.get?_push_of_some _ q) (Nat.le_refl _) ⟨hz,its,0,hv,Heap.get?_push_size _ rfl⟩
theorem Inv.fresh (I:Inv X pins σ H s):H s.heap.objs.size=none:=I.hok.fresh (Nat.le_refl _)
theorem Inv.lstM (I:Inv X pins σ H s) (hH:H l=some (.lst xs)):xs.length≤sizeLine∧∃(its:List Value) (n:Nat),Vals xs its∧xs.length=its.length∧s.heap.get? l=some { cls:=.type "list", data:=.seq its.toArray n }:=by
  obtain ⟨z,its,n,r,e⟩:=I.hok l _ hH
  exact ⟨z,its,n,r,r.length,e⟩
theorem notLongL {n:Nat} (h:n≤sizeLine):Builtin.List.listTooLong n=false:=by
  unfold Builtin.List.listTooLong
  exact decide_eq_false (by omega)
end
section
variable {X:Cx}
def rAppend:V→List V→Hp→VK→Prop:=fun x vs H Q=>∃l xs y,x=.ref l∧vs=[y]∧H l=some (.lst xs)∧xs.length<sizeLine∧Q .non (upd H l (.lst (xs++[y])))
theorem mt_append:MtM X "list.append" rAppend:=by
  intro pins s σ H x vs v us Q I rx rv h
  obtain ⟨l,xs,y,rfl,rfl,hH,hz,q⟩:=h
  cases rx
  obtain ⟨u,rfl,ru⟩:=rv.one
  obtain ⟨z,its,n,r,hl,e⟩:=I.lstM hH
  refine call_meets F.slot_list_append ⟨_,e,rfl⟩ F.entry_list_append (F.args_list_append_2 _ _) (PySem.list_append l its.toArray n u (by rw [List.size_toArray];omega)) ⟨e,?_⟩
  refine ⟨.non,_,I.lset (its':=its++[u]) hH e (by simp) (r.append (.cons ru .nil)) ?_,rfl,q⟩
  rw [List.length_append,List.length_singleton]
  omega
def rExtend:V→List V→Hp→VK→Prop:=fun x vs H Q=>∃l b xs zs,x=.ref l∧vs=[.ref b]∧H l=some (.lst xs)∧H b=some (.lst zs)∧xs.length + zs.length≤sizeLine∧Q .non (upd H l (.lst (xs++zs)))
theorem mt_extend:MtM X "list.extend" rExtend:=by
  intro pins s σ H x vs v us Q I rx rv h
  obtain ⟨l,b,xs,zs,rfl,rfl,hH,hB,hz,q⟩:=h
  cases rx
  obtain ⟨u,rfl,ru⟩:=rv.one
  cases ru
  obtain ⟨z,its,n,r,hl,e⟩:=I.lstM hH
  obtain ⟨z2,its2,n2,r2,hl2,e2⟩:=I.lstM hB
  have hsz:its.toArray.size + its2.toArray.size≤sizeLine:=by rw [List.size_toArray,List.size_toArray];omega
  have hlong:¬ (!its.toArray.isEmpty && Builtin.List.listTooLong (its.toArray.size + its2.toArray.size))=true:=by
    rw [notLongL hsz,Bool.and_false]
    exact Bool.false_ne_true
  refine call_meets F.slot_list_extend ⟨_,e,rfl⟩ F.entry_list_extend (F.args_list_extend_2 _ _)
    (AutoSeq1.list_extend_list_list_0 l its.toArray n b its2.toArray n2 hlong (by rw [List.size_toArray];omega) (by omega)) ⟨e,e2,?_⟩
  refine ⟨.non,_,I.lset (its':=its++its2) hH e (by simp) (r.append r2) ?_,rfl,q⟩
  rw [List.length_append]
  omega
def rCat:R2:=fun x y H Q=>∃l b xs zs,x=.ref l∧y=.ref b∧H l=some (.lst xs)∧H b=some (.lst zs)∧xs.length + zs.length≤sizeLine∧∀p,H p=none→Q (.ref p) (upd H p (.lst (xs++zs)))
theorem op_cat:OpR X (binaryOp .Add) rCat:=by
  intro pins s σ H x y v u Q I rx ry h
  obtain ⟨l,b,xs,zs,rfl,rfl,hH,hB,hz,q⟩:=h
  cases rx
  cases ry
  obtain ⟨z,its,n,r,hl,e⟩:=I.lstM hH
  obtain ⟨z2,its2,n2,r2,hl2,e2⟩:=I.lstM hB
  refine PySem.P.add_list e e2 ?_ (by rw [List.size_toArray,List.size_toArray];omega)
  have ea:its.toArray++its2.toArray=(its++its2).toArray:=by simp
  rw [ea]
  exact ⟨.ref _,_,I.lnew (t':=s.toks) (r.append r2) (by rw [List.length_append];omega),rfl,q _ I.fresh⟩
end
end L2
namespace L2
open PySem PySem.Spec PyProof.Rows
theorem Vals.ints:∀{ns:List Int} {us:List Value},Vals (ns.map V.int) us→IntsAre us ns
  | [],us,h=>by
    rw [List.map_nil] at h
    cases h
    exact IntsAre.nil
  | n::ns,us,h=>by
    rw [List.map_cons] at h
    cases h with
    | cons r t =>
      obtain ⟨k,rfl⟩:=r
      exact IntsAre.cons n k (Vals.ints t)
theorem vals_of_ints:∀{us:List Value} {ns:List Int},IntsAre us ns→Vals (ns.map V.int) us
  | _,_,.nil=>by rw [List.map_nil];exact Paired.nil
  | _,_,.cons n t h=>by rw [List.map_cons];exact Paired.cons (show RelV (V.int n) (Value.int n t) from ⟨t,rfl⟩) (vals_of_ints h)
theorem Vals.ref1 {a:Addr} {us:List Value} (r:Vals [V.ref a] us):us=[Value.ref a]:=by
  cases r with
  | cons r t =>
    cases t
    cases r
    rfl
section
variable {X:Cx}
def rSorted (K:PySem.W.Frag):List V→Hp→VK→Prop:=fun vs H Q=>∃(a:Addr) (ns:List Int),vs=[V.ref a]∧SqL K H a (ns.map V.int)∧ns.length<64 ∧
  ∀(ns':List Int) (p:Addr),ns'.Perm ns→ns'.Pairwise (· ≤ ·)→H p=none→Q (.ref p) (upd H p (.lst (ns'.map V.int)))
theorem small64 {n:Nat} (h:n<64):n≤sizeLine:=by rw [sizeLine_eq];omega
theorem cr_sorted:CallR X (.builtin "sorted") (rSorted X.K):=by
  intro pins s σ H vs us Q I r h
  obtain ⟨a,ns,rfl,hs,h64,q⟩:=h
  obtain ⟨its,rv,hl,_⟩:=I.list hs
  rw [Vals.ref1 r]
  have hi:=rv.ints
  refine PyProof.Rows.sorted_ints hl.isList hi (by rw [hi.length];exact h64) fun out ns' h1 h2 h3=>?_
  obtain ⟨ep,he'⟩:=PyProof.Rows.sortedAll_at s.heap its out
  have hlen:(ns'.map V.int).length≤sizeLine:=by rw [List.length_map,h2.length_eq];exact small64 h64
  exact ⟨.ref _,upd H (s.heap.objs.size + 1) (.lst (ns'.map V.int)),I.laid (t':=s.toks) (fun _ _=>PyProof.Rows.sortedAll_old) (Nat.le_succ _) ⟨hlen,out.toList,ep,vals_of_ints h1,he'⟩,rfl,q ns' _ h2 h3 (I.hok.fresh (Nat.le_succ _))⟩
end
mutual
inductive Dp (K:PySem.W.Frag) (H:Hp):V→PyData→Prop
  | non:Dp K H .non .none
  | bl (b:Bool):Dp K H (.bl b) (.bool b)
  | int (i:Int):Dp K H (.int i) (.int i)
  | str (x:Str):Dp K H (.str x) (.str x)
  | lst {a:Addr} {xs:List V} {ds:List PyData}:SqL K H a xs→DpAll K H xs ds→Dp K H (.ref a) (.list ds)
  | tup {a:Addr} {xs:List V} {ds:List PyData}:SqT K H a xs→DpAll K H xs ds→Dp K H (.ref a) (.tuple ds)
inductive DpAll (K:PySem.W.Frag) (H:Hp):List V→List PyData→Prop
  | nil:DpAll K H [] []
  | cons {v:V} {vs:List V} {d:PyData} {ds:List PyData}:Dp K H v d→DpAll K H vs ds→DpAll K H (v::vs) (d::ds)
end
section
variable {X:Cx} {pins:List (Addr×Obj)} {σ:St} {H:Hp} {s:Shared}
mutual
theorem Dp.reads (I:Inv X pins σ H s):∀(d:PyData) (v:V) (u:Value),Dp X.K H v d→RelV v u→∃as,Reads s.heap u d as
  | .none,_,_,h,r=>by
    cases h
    cases r
    exact ⟨_,Reads.none⟩
  | .bool b,_,_,h,r=>by
    cases h
    cases r
    exact ⟨_,Reads.bool b⟩
  | .int i,_,_,h,r=>by
    cases h
    obtain ⟨t,rfl⟩:=r
    exact ⟨_,Reads.int i t⟩
  | .str x,_,_,h,r=>by
    cases h
    obtain ⟨t,rfl⟩:=r
    exact ⟨_,Reads.str x t⟩
  | .list ds,_,_,h,r=>by
    cases h with
    | lst hs ha =>
      cases r
      obtain ⟨its,rv,⟨o,n,ho,hc,_,hd⟩,_⟩:=I.list hs
      obtain ⟨as,hr⟩:=Dp.readsAll I ds _ its ha rv
      exact ⟨_,Reads.list ho hc hd hr⟩
  | .tuple ds,_,_,h,r=>by
    cases h with
    | tup hs ha =>
      cases r
      obtain ⟨its,rv,⟨o,ho,hc,n,hd⟩,_⟩:=I.tuple hs
      obtain ⟨as,hr⟩:=Dp.readsAll I ds _ its ha rv
      exact ⟨_,Reads.tuple ho hc hd hr⟩
  | .dict _,_,_,h,_=>by cases h
theorem Dp.readsAll (I:Inv X pins σ H s):∀(ds:List PyData) (vs:List V) (us:List Value),DpAll X.K H vs ds→Vals vs us→∃as,ReadsAll s.heap us ds as
  | [],_,_,h,r=>by
    cases h
    cases r
    exact ⟨_,ReadsAll.nil⟩
  | d::ds,_,_,h,r=>by
    cases h with
    | cons h1 h2 =>
      cases r with
      | cons r1 r2 =>
        obtain ⟨as,q1⟩:=Dp.reads I d _ _ h1 r1
        obtain ⟨bs,q2⟩:=Dp.readsAll I ds _ _ h2 r2
        exact ⟨_,ReadsAll.cons q1 q2⟩
end
end
end L2
namespace L2
open PySem PySem.Spec PyProof.Rows
abbrev CellAt (h:Heap) (c:Addr) (v:Option Value):Prop:=h.IsCell c v
def relS (scope sc:Scope):Scope :=
  { scope with names:=scope.names.map fun (n,k)=>if (k == .free && sc.kind == .function && sc.names.lookup n == some .cell) then (n,.cell) else (n,k) }
def cloFrom (cells:List (Str×Addr)):List (Str×NameKind)→List (Str×Addr)→List (Str×Addr)
  | [],acc=>acc
  | (n,k)::r,acc=>if k == .free then cloFrom cells r ((n,(cells.lookup n).getD 0)::acc) else cloFrom cells r acc
theorem closure_loop (env:Env) (f:Str×NameKind→List (Str×Addr)→Sem (ForInStep (List (Str×Addr))))
    (hf:∀n k c,f (n,k) c=if k == .free then (do let a ← cellOf env n;pure (.yield ((n,a)::c))) else pure (.yield c)) :
    ∀(names:List (Str×NameKind)) (acc:List (Str×Addr)),(∀y∈names,y.2=.free→∃c,env.cells.lookup y.1=some c)→forIn names acc f=pure (cloFrom env.cells names acc)
  | [],acc,_=>by rw [List.forIn_nil];rfl
  | (n,k)::r,acc,h=>by
    rw [List.forIn_cons,hf]
    have ih:=fun acc=>closure_loop env f hf r acc fun y hy=>h y (List.mem_cons_of_mem _ hy)
    unfold cloFrom
    by_cases hk:(k == NameKind.free)=true
    · rw [if_pos hk,if_pos hk]
      obtain ⟨c,hc⟩:=h (n,k) List.mem_cons_self (by simpa using hk)
      have e:cellOf env n=pure c:=by unfold cellOf;rw [hc]
      rw [e]
      have e2:(env.cells.lookup n).getD 0=c:=by rw [hc];rfl
      rw [e2]
      exact ih _
    · rw [if_neg hk,if_neg hk]
      exact ih _
theorem closure_ok {scope:Scope} {env:Env} (h:∀y∈scope.names,y.2=.free→∃c,env.cells.lookup y.1=some c):closureFor scope env=pure (cloFrom env.cells scope.names []):=by
  simp only [closureFor]
  rw [closure_loop env _ (fun n k c=>rfl) scope.names [] h]
  rfl
theorem mem_lookup {α:Type}:∀{l:List (Str × α)} {n:Str} {c:α},(n,c)∈l→∃c',l.lookup n=some c'
  | (k,v)::r,n,c,h=>by
    rw [List.lookup_cons]
    cases hb:n == k with
    | true=>exact ⟨_,rfl⟩
    | false =>
      rcases List.mem_cons.mp h with e | h
      · cases e;simp at hb
      · exact mem_lookup h
theorem cloFrom_mem {cells:List (Str×Addr)}:∀{names:List (Str×NameKind)} {acc:List (Str×Addr)} {n:Str} {c:Addr},(n,c)∈cloFrom cells names acc→(n,c)∈acc∨((n,.free)∈names∧c=(cells.lookup n).getD 0)
  | [],_,_,_,h=>.inl h
  | (m,k)::r,acc,n,c,h=>by
    unfold cloFrom at h
    split at h
    · rename_i hk
      have hk:k=.free:=by simpa using hk
      rcases cloFrom_mem h with h | ⟨h1,h2⟩
      · rcases List.mem_cons.mp h with e | h
        · cases e;exact .inr ⟨hk ▸ List.mem_cons_self,rfl⟩
        · exact .inl h
      · exact .inr ⟨List.mem_cons_of_mem _ h1,h2⟩
    · rcases cloFrom_mem h with h | ⟨h1,h2⟩
      · exact .inl h
      · exact .inr ⟨List.mem_cons_of_mem _ h1,h2⟩
theorem cloFrom_acc {cells:List (Str×Addr)}:∀{names:List (Str×NameKind)} {acc:List (Str×Addr)} {p:Str×Addr},p∈acc→p∈cloFrom cells names acc
  | [],_,_,h=>h
  | (m,k)::r,acc,p,h=>by
    unfold cloFrom
    split
    · exact cloFrom_acc (List.mem_cons_of_mem _ h)
    · exact cloFrom_acc h
theorem cloFrom_has {cells:List (Str×Addr)}:∀{names:List (Str×NameKind)} {acc:List (Str×Addr)} {n:Str},(n,.free)∈names→(n,(cells.lookup n).getD 0)∈cloFrom cells names acc
  | (m,k)::r,acc,n,h=>by
    unfold cloFrom
    rcases List.mem_cons.mp h with e | h
    · cases e
      exact cloFrom_acc List.mem_cons_self
    · split
      · exact cloFrom_has h
      · exact cloFrom_has h
theorem cells_mem:∀{names:List (Str×NameKind)} {h:Heap} {acc:List (Str×Addr)} {x:Str} {c:Addr},(x,c)∈cellsFrom h.objs.size names acc →
    (x,c)∈acc∨((x,.cell)∈names∧h.objs.size≤c∧CellAt (pushCells h names) c none)
  | [],_,_,_,_,h=>.inl h
  | (n,k)::r,h,acc,x,c,hm=>by
    unfold cellsFrom at hm
    unfold pushCells
    split at hm
    · rename_i hk
      rw [if_pos hk]
      have hk:k=.cell:=by simpa using hk
      rw [← Heap.size_push h { cls:=.type "cell", data:=.cell none }] at hm
      rcases cells_mem hm with hm | ⟨h1,h2,h3⟩
      · rcases List.mem_cons.mp hm with e | hm
        · cases e
          exact .inr ⟨hk ▸ List.mem_cons_self,Nat.le_refl _,_,pushCells_keeps r _ _ _ (Heap.get?_push_size _ rfl),rfl⟩
        · exact .inl hm
      · rw [Heap.size_push] at h2
        exact .inr ⟨List.mem_cons_of_mem _ h1,Nat.le_of_succ_le h2,h3⟩
    · rename_i hk
      rw [if_neg hk]
      rcases cells_mem hm with hm | ⟨h1,h2,h3⟩
      · exact .inl hm
      · exact .inr ⟨List.mem_cons_of_mem _ h1,h2,h3⟩
theorem cells_acc:∀{names:List (Str×NameKind)} {n:Nat} {acc:List (Str×Addr)} {p:Str×Addr},p∈acc→p∈cellsFrom n names acc
  | [],_,_,_,h=>h
  | (m,k)::r,n,acc,p,h=>by
    unfold cellsFrom
    split
    · exact cells_acc (List.mem_cons_of_mem _ h)
    · exact cells_acc h
theorem cells_has:∀{names:List (Str×NameKind)} {n:Nat} {acc:List (Str×Addr)} {x:Str},(x,.cell)∈names→∃c,(x,c)∈cellsFrom n names acc
  | (m,k)::r,n,acc,x,h=>by
    unfold cellsFrom
    rcases List.mem_cons.mp h with e | h
    · cases e
      exact ⟨n,cells_acc List.mem_cons_self⟩
    · split
      · exact cells_has h
      · exact cells_has h
theorem cells_inj:∀{names:List (Str×NameKind)} {h:Heap} {acc:List (Str×Addr)} {x y:Str} {c:Addr},(∀p∈acc,p.2<h.objs.size)→(∀x y c,(x,c)∈acc→(y,c)∈acc→x=y) →
    (x,c)∈cellsFrom h.objs.size names acc→(y,c)∈cellsFrom h.objs.size names acc→x=y
  | [],_,_,_,_,_,_,hi,h1,h2=>hi _ _ _ h1 h2
  | (n,k)::r,h,acc,x,y,c,hl,hi,h1,h2=>by
    unfold cellsFrom at h1 h2
    split at h1
    · rename_i hk
      rw [if_pos hk] at h2
      rw [← Heap.size_push h { cls:=.type "cell", data:=.cell none }] at h1 h2
      refine cells_inj (h:=h.push _) (fun p hp=>?_) (fun x y c a b=>?_) h1 h2
      · rw [Heap.size_push]
        rcases List.mem_cons.mp hp with rfl | hp
        · exact Nat.lt_succ_self _
        · exact Nat.lt_succ_of_lt (hl p hp)
      · rcases List.mem_cons.mp a with e | a <;> rcases List.mem_cons.mp b with e' | b
        · cases e;cases e';rfl
        · cases e;exact absurd (hl _ b) (Nat.lt_irrefl _)
        · cases e';exact absurd (hl _ a) (Nat.lt_irrefl _)
        · exact hi _ _ _ a b
    · rename_i hk
      rw [if_neg hk] at h2
      exact cells_inj hl hi h1 h2
theorem newEnv_comp {M:Model} {A:Around} {E:Value→Shared→Prop} {s:Shared} {scope:Scope} {globals:Addr} {closure:List (Str×Addr)} {qual:Str} {func:Option Addr} {code:Value} {around:Env} {builtins:Addr} {Q:Env→Shared→Prop}
    (h:Q (newEnv scope s.heap.objs.size globals (cellsFrom (s.heap.objs.size + 1) scope.names closure) qual func code (some around) builtins)
      { s with heap:=pushCells (s.heap.push { cls:=.type "dict", data:=.dict #[] }) scope.names }) :
    wpAny M A (newFunctionEnv scope globals closure [] qual func code (some around) builtins) Q E s:=by
  simp only [newFunctionEnv,Option.isSome_some,if_true]
  refine wpAny_bind (wpAny_alloc ?_)
  refine wpAny_bind (wpAny_layCells _ (fun n k c=>rfl) scope.names closure _ _ ?_)
  rw [show ({ s with heap:=s.heap.push { cls:=.type "dict", data:=.dict #[] } }:Shared).heap.objs.size=s.heap.objs.size + 1 from Heap.size_push ..]
  rw [List.forIn_nil]
  exact wpAny_bind (wpAny_pure (wpAny_pure h))
theorem lookup_relS {sc:Scope}:∀{names:List (Str×NameKind)} {x:Str} {k:NameKind},
    (names.map fun (n,k)=>if (k == NameKind.free && sc.kind == .function && sc.names.lookup n == some .cell) then (n,NameKind.cell) else (n,k)).lookup x=some k →
    ∃k',names.lookup x=some k'∧(k=k' ∨ (k' = .free∧k=.cell))
  | [],_,_,h=>by simp at h
  | (n,k₀)::r,x,k,h=>by
    have ih:=@lookup_relS sc r x k
    have h':List.lookup x ((if (k₀ == NameKind.free && sc.kind == .function && sc.names.lookup n == some .cell)=true then (n,NameKind.cell) else (n,k₀))::(r.map _))=some k:=h
    cases hx:x == n with
    | true =>
      simp only [List.lookup_cons,hx]
      by_cases hc:(k₀ == NameKind.free && sc.kind == .function && sc.names.lookup n == some .cell)=true
      · rw [if_pos hc] at h'
        simp only [List.lookup_cons,hx] at h'
        cases h'
        simp only [Bool.and_eq_true,beq_iff_eq] at hc
        exact ⟨k₀,rfl,.inr ⟨hc.1.1,rfl⟩⟩
      · rw [if_neg hc] at h'
        simp only [List.lookup_cons,hx] at h'
        cases h'
        exact ⟨_,rfl,.inl rfl⟩
    | false =>
      simp only [List.lookup_cons,hx]
      by_cases hc:(k₀ == NameKind.free && sc.kind == .function && sc.names.lookup n == some .cell)=true
      · rw [if_pos hc] at h'
        simp only [List.lookup_cons,hx] at h'
        exact ih h'
      · rw [if_neg hc] at h'
        simp only [List.lookup_cons,hx] at h'
        exact ih h'
structure BlkOk (N:List Str) (sc scope:Scope) (own:List (Str×Nat)):Prop where
  kind:scope.kind=.function
  uniq:∀y∈scope.names,scope.names.lookup y.1=some y.2
  ix:∀p∈own,N[p.2]? = some p.1
  free:∀y∈scope.names,y.2=.free→sc.names.lookup y.1=some .cell∨sc.names.lookup y.1=some .free
  own:∀y∈scope.names,y.2=.local∨y.2=.cell→y.1∈own.map (·.1)∨y.1∉N
def wipe (σ:St):List Nat→St
  | []=>σ
  | v::vs=>(wipe σ vs).set v none
theorem wipe_length (σ:St):∀vs:List Nat,(wipe σ vs).length = σ.length
  | []=>rfl
  | v::vs=>by unfold wipe;rw [List.length_set,wipe_length σ vs]
theorem wipe_some {σ:St} {i:Nat} {x:V}:∀{vs:List Nat},(wipe σ vs)[i]? = some (some x)→σ[i]? = some (some x)∧i∉vs
  | [],h=>⟨h,by simp⟩
  | v::vs,h=>by
    unfold wipe at h
    by_cases hi:v=i
    · subst hi
      by_cases hv:v<(wipe σ vs).length
      · rw [List.getElem?_set_self hv] at h;cases h
      · rw [List.getElem?_eq_none (by simpa using hv)] at h;cases h
    · rw [List.getElem?_set_ne hi] at h
      obtain ⟨h1,h2⟩:=wipe_some h
      exact ⟨h1,by simp only [List.mem_cons,not_or];exact ⟨fun e=>hi e.symm,h2⟩⟩
abbrev Cx.blk (X:Cx) (s:Shared) (H:Hp) (scope:Scope) (cenv:Env) (fp:List Addr):Cx:={ X with s_0:=s,H_0:=H,env:=cenv,outer:=X.stack,ex:=fp,fn:=fun x=>scope.names.lookup x == some .cell,pn:=[],xe:=fun _ _=>False }
section
variable {X:Cx} {pins:List (Addr×Obj)} {σ:St} {H:Hp} {s:Shared}
theorem block_start {scope:Scope} {own:List (Str×Nat)} {fp:List Addr} (I:Inv X pins σ H s) (ok:BlkOk X.N X.env.scope scope own) (hN:X.N.Nodup) (hfp:∀b∈fp,FpOk X pins H b∧b<s.heap.objs.size) :
    Inv (X.blk s H scope (compEnvC scope (cellsFrom (s.heap.objs.size + 1) scope.names (cloFrom X.env.cells scope.names [])) s.heap.objs.size X.env) fp) [] (wipe σ (own.map (·.2))) H { s with heap:=pushCells (s.heap.push { cls:=.type "dict", data:=.dict #[] }) scope.names }:=by
  have hfree:∀y∈scope.names,y.2=.free→∃c,X.env.cells.lookup y.1=some c:=fun y hy e=>by
    rcases ok.free y hy e with k | k
    · exact I.ok.has _ (.inl k)
    · exact I.ok.has _ (.inr k)
  generalize hcenv:compEnvC scope (cellsFrom (s.heap.objs.size + 1) scope.names (cloFrom X.env.cells scope.names [])) s.heap.objs.size X.env=cenv
  have kp:∀b o,s.heap.get? b=some o→(pushCells (s.heap.push { cls:=.type "dict", data:=.dict #[] }) scope.names).get? b=some o:=fun b o e=>pushCells_keeps _ _ _ _ (Heap.get?_push_of_some _ e)
  have hL:cenv.locals=s.heap.objs.size:=by rw [← hcenv];rfl
  have hcl:cenv.cells=cellsFrom (s.heap.objs.size + 1) scope.names (cloFrom X.env.cells scope.names []):=by rw [← hcenv];rfl
  have hsc:cenv.scope=relS scope X.env.scope:=by rw [← hcenv];rfl
  rw [← Heap.size_push s.heap { cls:=.type "dict", data:=.dict #[] }] at hcl
  have cm:∀{y c},(y,c)∈cloFrom X.env.cells scope.names []→X.env.cells.lookup y=some c∧c<s.heap.objs.size:=fun {y c} hm=>by
    rcases cloFrom_mem hm with hm | ⟨h1,rfl⟩
    · cases hm
    · obtain ⟨c,hc⟩:=hfree _ h1 rfl
      rw [hc]
      obtain ⟨w,z⟩:=I.cell _ _ hc
      exact ⟨rfl,z.lt⟩
  have mem:∀{y c},cenv.cells.lookup y=some c→(X.env.cells.lookup y=some c∧c<s.heap.objs.size)∨(s.heap.objs.size + 1≤c∧CellAt (pushCells (s.heap.push { cls:=.type "dict", data:=.dict #[] }) scope.names) c none):=fun {y c} e=>by
    rw [hcl] at e
    rcases cells_mem (PySem.mem_of_lookup e) with hm | ⟨_,h2,h3⟩
    · exact .inl (cm hm)
    · rw [Heap.size_push] at h2;exact .inr ⟨h2,h3⟩
  have look:∀{y},scope.names.lookup y=some .free→∃c,cenv.cells.lookup y=some c∧X.env.cells.lookup y=some c:=fun {y} hl=>by
    have hy:(y,NameKind.free)∈scope.names:=PySem.mem_of_lookup hl
    obtain ⟨c',e'⟩:=mem_lookup (cells_acc (names:=scope.names) (n:=(s.heap.push { cls:=.type "dict", data:=.dict #[] }).objs.size) (cloFrom_has (cells:=X.env.cells) (acc:=[]) hy))
    rw [← hcl] at e'
    refine ⟨c',e',?_⟩
    rw [hcl] at e'
    rcases cells_mem (PySem.mem_of_lookup e') with hm | ⟨h1,_,_⟩
    · exact (cm hm).1
    · have:=ok.uniq _ h1
      rw [hl] at this;cases this
  have okB:(X.blk s H scope cenv fp).Ok:=by
    refine ⟨I.ok.mod,by show cenv.scope.kind=_;rw [hsc];exact ok.kind,by show cenv.globals=_;rw [← hcenv];exact I.ok.glob,by show cenv.builtins=_;rw [← hcenv];exact I.ok.blt,by show s.heap.objs.size≤cenv.locals;rw [hL];exact Nat.le_refl _,
      fun y z c e1 e2=>?_,fun y hy=>?_,fun y c z e=>?_,I.ok.hd,I.ok.frames,.inl rfl,fun b hb=>⟨?_,fun y c e z=>?_⟩,I.bs,Nat.le_trans I.ok.bsz I.sz,fun b o e hb=>?_,fun b hb z=>?_,I.stack,I.stkFree⟩
    · have e1:cenv.cells.lookup y=some c:=e1
      have e2:cenv.cells.lookup z=some c:=e2
      rw [hcl] at e1 e2
      refine cells_inj (fun p hp=>?_) (fun y z c a b=>I.ok.inj y z c (cm a).1 (cm b).1) (PySem.mem_of_lookup e1) (PySem.mem_of_lookup e2)
      rw [Heap.size_push]
      exact Nat.lt_succ_of_lt (cm (y:=p.1) (c:=p.2) hp).2
    · show ∃c,cenv.cells.lookup y=some c
      have key:∀k,cenv.kindOf y=some k→(k=.cell∨k=.free)→∃c,cenv.cells.lookup y=some c:=fun k hk hk'=>by
        unfold Env.kindOf at hk
        rw [hsc] at hk
        obtain ⟨k',e,r⟩:=lookup_relS hk
        have:k' = .cell∨k' = .free:=by
          rcases r with rfl | ⟨rfl,_⟩
          · exact hk'
          · exact .inr rfl
        rcases this with rfl | rfl
        · obtain ⟨c,hm⟩:=cells_has (n:=(s.heap.push { cls:=.type "dict", data:=.dict #[] }).objs.size) (acc:=cloFrom X.env.cells scope.names []) (PySem.mem_of_lookup e)
          obtain ⟨c',e'⟩:=mem_lookup hm
          exact ⟨c',by rw [hcl];exact e'⟩
        · obtain ⟨c,h1,_⟩:=look e
          exact ⟨c,h1⟩
      rcases hy with hy | hy
      · exact key _ hy (.inl rfl)
      · exact key _ hy (.inr rfl)
    · have z:(scope.names.lookup y == some NameKind.cell)=true:=z
      have z:scope.names.lookup y=some .cell:=by simpa using z
      have e:cenv.cells.lookup y=some c:=e
      rw [hcl] at e
      rcases cells_mem (PySem.mem_of_lookup e) with hm | ⟨_,h2,_⟩
      · rcases cloFrom_mem hm with hm | ⟨h1,_⟩
        · cases hm
        · have q:=ok.uniq _ h1
          rw [z] at q;cases q
      · rw [Heap.size_push] at h2
        exact Nat.le_of_succ_le h2
    · show b≠cenv.locals
      rw [hL];exact Nat.ne_of_lt (hfp b hb).2
    · have e:cenv.cells.lookup y=some c:=e
      rcases mem e with ⟨h1,_⟩ | ⟨h1,_⟩
      · exact (hfp b hb).1.2.2.2.2.1 y c h1 z
      · have h2:s.heap.objs.size + 1≤b:=by rw [← z];exact h1
        exact absurd (Nat.lt_of_lt_of_le (hfp b hb).2 (Nat.le_of_succ_le h2)) (Nat.lt_irrefl _)
    · rcases (hfp b hb).1.2.2.2.1 with z | z
      · exact I.ok.noex b o e z
      · exact absurd (Nat.lt_of_lt_of_le (Heap.lt_size e) (Nat.le_trans I.ok.bsz z)) (Nat.lt_irrefl _)
    · rcases List.mem_cons.mp (I.stkSub b z) with z | z
      · exact (hfp b hb).1.2.1 z
      · exact (hfp b hb).1.2.2.1 z
  refine ⟨okB,rfl,I.bare,Un.kept kp,⟨fun _=>none,?_,fun i y av e1 e2 e3=>?_⟩,fun y c e=>?_,?_,fun y c e=>?_,fun p hp=>?_,I.hok.kept kp,by rw [wipe_length];exact I.len⟩
  · show Heap.Ns _ cenv.locals _
    rw [hL]
    exact Heap.Ns.keeps (Heap.Ns.new ..) fun b o e=>pushCells_keeps _ _ _ _ e
  · obtain ⟨e2,hne⟩:=wipe_some e2
    have hfr:scope.names.lookup y=some .free∧(cenv.kindOf y=some .cell∨cenv.kindOf y=some .free):=by
      have key:∀k,cenv.scope.names.lookup y=some k→k=.local∨k=.cell∨k=.free→scope.names.lookup y=some .free∧(cenv.kindOf y=some .cell∨cenv.kindOf y=some .free):=fun k hk hk'=>by
        have hk0:=hk
        rw [hsc] at hk
        obtain ⟨k',e,r⟩:=lookup_relS hk
        have no:¬ (k' = .local∨k' = .cell):=fun hh=>by
          rcases ok.own _ (PySem.mem_of_lookup e) hh with e' | e'
          · obtain ⟨p,hp,hpy⟩:=List.mem_map.mp e'
            have e3:=ok.ix p hp
            have:p.1=y:=hpy
            rw [this] at e3
            exact hne (List.mem_map.mpr ⟨p,hp,nodup_ix hN e3 e1⟩)
          · exact e' (List.mem_of_getElem? e1)
        rcases r with rfl | ⟨rfl,rfl⟩
        · rcases hk' with rfl | rfl | rfl
          · exact absurd (.inl rfl) no
          · exact absurd (.inr rfl) no
          · exact ⟨e,.inr hk0⟩
        · exact ⟨e,.inl hk0⟩
      have e3:Vis cenv.scope y:=e3
      rcases e3 with e3 | e3 | e3
      · exact key _ e3 (.inl rfl)
      · exact key _ e3 (.inr (.inl rfl))
      · exact key _ e3 (.inr (.inr rfl))
    obtain ⟨m,hn,hl⟩:=I.loc
    have hvis:Vis X.env.scope y:=(ok.free _ (PySem.mem_of_lookup hfr.1) rfl).elim (fun k=>.inr (.inl k)) (fun k=>.inr (.inr k))
    obtain ⟨w,r,q⟩:=hl i y av e1 e2 hvis
    refine ⟨w,r,.inr ⟨hfr.2,?_⟩⟩
    obtain ⟨c,h1,h2⟩:=look hfr.1
    rcases q with ⟨k,_⟩ | ⟨_,c',e',z⟩
    · have k:X.env.scope.names.lookup y=some .local:=k
      rcases ok.free _ (PySem.mem_of_lookup hfr.1) rfl with k' | k' <;> rw [show X.env.scope.names.lookup y=_ from k'] at k <;> cases k
    · rw [h2] at e';cases e'
      exact ⟨c,h1,z.keeps kp⟩
  · have e:cenv.cells.lookup y=some c:=e
    rcases mem e with ⟨h1,_⟩ | ⟨_,z⟩
    · obtain ⟨w,z⟩:=I.cell y c h1
      exact ⟨w,z.keeps kp⟩
    · exact ⟨_,z⟩
  · show H cenv.locals=none
    rw [hL];exact I.hok.fresh (Nat.le_refl _)
  · have e:cenv.cells.lookup y=some c:=e
    rcases mem e with ⟨h1,_⟩ | ⟨h1,_⟩
    · exact I.freeC y c h1
    · exact I.hok.fresh (Nat.le_of_succ_le h1)
  · exact absurd (show p∈([]:List (Addr×Obj))++[] from hp) (by simp)
theorem app_ok {E:Value→Shared→Prop} {D:Addr} {xs:List V} {y:V} {v:Value} {Q:Value→Shared→Prop} (I:Inv X pins σ H s) (hD:H D=some (.lst xs)) (hz:xs.length<sizeLine) (r:RelV y v)
    (h:∀s',Inv X pins σ (upd H D (.lst (xs++[y]))) s'→Q .none s'):wpAny (model X.prog X.w) X.A (call (.builtin "list.append") [.ref D,v]) Q E s:=by
  obtain ⟨hz',its,n,ri,e⟩:=I.hok D _ hD
  have hl:=ri.length
  refine append_at (hsz:=by rw [List.size_toArray];omega) e fun h' sb ho'=>?_
  refine h { s with heap:=h' } (I.write (t':=s.toks) (by rw [hD];trivial) (.inl rfl) (fun b u hb q=>(sb.2 b hb).trans q) ⟨_,ho'⟩ ⟨by rw [List.length_append];exact hz,its++[v],n + 1,ri.append (.cons r .nil),?_⟩)
  rw [ho']
  simp
def PTs (X:Cx) (ifs:List Expr) (t:TT):Prop :=
  ∀(pins:List (Addr×Obj)) (s:Shared) (σ:St) (H:Hp) (Q:Bool→Hp→Prop),Inv X pins σ H s→t σ H Q →
    wpAny (model X.prog X.w) X.A (forIn ifs true fun c r=>if r=true then do let ok ← isTrue c X.env (eval c X.env);pure (ForInStep.yield ok) else pure (ForInStep.yield r)) (TP X pins σ Q) X.xe s
def tYes:TT:=fun _ H Q=>Q true H
theorem pts_nil:PTs X [] tYes:=fun _ _ _ H _ I h=>wpAny_tests_nil ⟨H,I,h⟩
theorem pts_one {c:Expr} {t:TT} (h:PT X c t):PTs X [c] t:=fun pins s σ H Q I hw=>wpAny_tests_one (h pins s σ H Q I hw)
end
theorem thnF {α:Type} {t:Sem α} {Q Q':α→Shared→Prop} {M:Model} {A:Around} {E:Value→Shared→Prop} {s:Shared} (h:wpAny M A t Q (fun _ _=>False) s) (hQ:∀a s,Q a s→Q' a s):wpAny M A t Q' E s:=wpAny_mono h hQ fun _ _ z=>False.elim z
theorem compLoop_any {prog:Program} {w:World} {A:Around} {R:Result→Shared→Prop} {s:Shared} {elt target iter:Expr} {ifs:List Expr} {scope:Scope} {pos:Pos} {it acc:Value} {env:Env} (I:Nat→Shared→Prop)
    (turn:∀n s,I n s→wpAny (model prog w) A (pyNext it) (fun r s₁=>match r with
      | none=>R (.ok .next) s₁
      | some v=>wpAny (model prog w) A (letOwnedTupleGo target it v) (fun _ s₁'=>wpAny (model prog w) A (assign target env v) (fun _ s₂ =>
          wpAny (model prog w) A (forIn ifs true fun c r=>if r=true then do let ok ← isTrue c env (eval c env);pure (ForInStep.yield ok) else pure (ForInStep.yield r)) (fun ok s₃ =>
            if ok=true then wpAny (model prog w) A (eval elt env) (fun x s₄ =>
              wpAny (model prog w) A (call (.builtin "list.append") [acc,x]) (fun _ s₅=>∃m,m<n∧I m s₅) (notedBy (model prog w) A env fun e s'=>R (.error e) s') s₄) (notedBy (model prog w) A env fun e s'=>R (.error e) s') s₃
            else ∃m,m<n∧I m s₃) (notedBy (model prog w) A env fun e s'=>R (.error e) s') s₂) (notedBy (model prog w) A env fun e s'=>R (.error e) s') s₁') (notedBy (model prog w) A env fun e s'=>R (.error e) s') s₁) (notedBy (model prog w) A env fun e s'=>R (.error e) s') s)
    (n:Nat) (h:I n s) :
    codeAny (model prog w) A (.compLoop (.ListComp elt [⟨target,iter,ifs,0⟩] scope pos) 0 it acc env) R s:=by
  refine codeAny_loop rfl I (fun n s hI=>?_) n h
  show wpAny _ A ((compTurn (.ListComp elt [⟨target,iter,ifs,0⟩] scope pos) 0 it acc env).onRaise (fun x=>do noteFrame x env;theTreesLotGoes x)) _ _ s
  refine wpAny_noted ?_
  rw [compTurn_list]
  refine wpAny_bind (wpAny_standAt (wpAny_bind (wpAny_mono (turn n s hI) (fun r s₁ h₁=>?_) fun _ _ h'=>h')))
  cases r with
  | none=>exact wpAny_pure h₁
  | some v =>
    refine wpAny_bind (wpAny_mono h₁ (fun _ s₁' h₁'=>?_) fun _ _ h'=>h')
    refine wpAny_bind (wpAny_mono h₁' (fun _ s₂ h₂=>wpAny_bind (wpAny_mono h₂ (fun ok s₃ h₃=>?_) fun _ _ h'=>h')) fun _ _ h'=>h')
    cases ok with
    | false=>exact wpAny_pure ⟨rfl,h₃⟩
    | true =>
      exact wpAny_bind (wpAny_bind (wpAny_mono h₃ (fun x s₄ h₄=>wpAny_bind (wpAny_mono h₄ (fun _ s₅ h₅=>wpAny_pure (wpAny_pure ⟨rfl,h₅⟩)) fun _ _ h'=>h')) fun _ _ h'=>h'))
section
variable {X:Cx}
def tLc (wi:TI) (g:TG) (tt:TT) (te:TE) (vs:List Nat):TE:=fun σ H Q=>wi σ H fun J H1=>∀D,H1 D=none→∃W:Nat→Nat→Hp→Prop,(∃m,W 0 m (upd H1 D (.lst [])))∧∀i m H,W i m H →
  (J.stop i H∧Q (.ref D) H)∨(J.go i H∧∃Nx:Hp→Prop,(∀H',Nx H'→∃m',m' < m∧W (i + 1) m' H')∧∀x H',J.yld i H x H'→g x (wipe σ vs) H' fun σ2 H2=>wipe σ2 vs=wipe σ vs∧tt σ2 H2 fun b H3 =>
    if b=true then te σ2 H3 fun y H4=>∃acc,H4 D=some (.lst acc)∧acc.length<sizeLine∧Nx (upd H4 D (.lst (acc++[y]))) else Nx H3)
theorem lc_core {pins:List (Addr×Obj)} {s:Shared} {σ:St} {H:Hp} {Q:VK} {elt tg iter:Expr} {ifs:List Expr} {scope:Scope} {own:List (Str×Nat)} {pos pos':Pos} {wi:TI} {g:TG} {tt:TT} {te:TE} {use:Option (Value→Sem Unit)} {Qf:Value→Shared→Prop}
    (hc:X.calm=true) (hN:X.N.Nodup) (I:Inv X pins σ H s) (hi:PI X tg iter wi) (ok:BlkOk X.N X.env.scope scope own)
    (hg:∀(s:Shared) (H:Hp) (C:Addr) (cl:List (Str×Addr)) (fp:List Addr),PG (X.blk s H scope (compEnvC scope cl C X.env) fp) tg g) (ht:∀(s:Shared) (H:Hp) (C:Addr) (cl:List (Str×Addr)) (fp:List Addr),PTs (X.blk s H scope (compEnvC scope cl C X.env) fp) ifs tt)
    (he:∀(s:Shared) (H:Hp) (C:Addr) (cl:List (Str×Addr)) (fp:List Addr),PE (X.blk s H scope (compEnvC scope cl C X.env) fp) elt te) (hs:∀x,foldedSetIterable iter X.env x=pure x)
    (h:tLc wi g tt te (own.map (·.2)) σ H Q)
    (hRR:∀D C s' m H',Inv X pins σ H' s'→Q (.ref D) H'→s'.heap.Ns C m→FpOk X pins H' C→compPost (model X.prog X.w) X.A X.xe use Qf (.ref D) C (.ok .next) s') :
    wpAny (model X.prog X.w) X.A (comprehension (.ListComp elt [⟨tg,iter,ifs,0⟩] scope pos) scope X.env pos' (newList []) false (eval iter X.env) use) Qf X.xe s:=by
  have hfree:∀y∈scope.names,y.2=.free→∃c,X.env.cells.lookup y.1=some c:=fun y hy e=>by
    rcases ok.free y hy e with k | k
    · exact I.ok.has _ (.inl k)
    · exact I.ok.has _ (.inr k)
  refine wpAny_comprehension_free (use:=use) rfl hs (closure_ok hfree) ok.kind (fun y hy e=>by rw [ok.uniq y hy,e])
    (thn (hi pins s σ H _ I h) fun xv s1 hx=>thn hx fun itv s2 h2=>?_)
  obtain ⟨it,fp,tn,J,H2,e,I2,T,st2,f2,q⟩:=h2
  subst e
  refine wpAny_newObj_type (newEnv_comp ?_) (by show 0≤sizeLine;decide)
  generalize hD:s2.heap.objs.size=D
  have hDn:H2 D=none:=I2.hok.fresh (Nat.le_of_eq hD)
  obtain ⟨W,⟨m0,w0⟩,turn⟩:=q D hDn
  generalize hs3:({ s2 with heap:=s2.heap.push { cls:=.type "list", data:=.seq ([]:List Value).toArray } }:Shared)=s3
  have I3:Inv X pins σ (upd H2 D (.lst [])) s3:=by
    rw [← hs3]
    refine I2.laid (t':=s2.toks) (fun b o e=>Heap.get?_push_of_some _ e) (Nat.le_of_eq hD) ⟨Nat.zero_le _,[],0,.nil,?_⟩
    rw [← hD]
    exact Heap.get?_push_size _ rfl
  have h3:s3.heap=s2.heap.push { cls:=.type "list", data:=.seq ([]:List Value).toArray }:=by rw [← hs3]
  have sz:∀b∈fp,b<s2.heap.objs.size:=fun b hb=>by
    obtain ⟨o,e,_⟩:=T.obj _ _ st2 b hb
    exact Heap.lt_size e
  have f3:∀b∈fp,FpOk X pins (upd H2 D (.lst [])) b∧b<s3.heap.objs.size:=fun b hb=>by
    have hlt:=sz b hb
    refine ⟨⟨?_,(f2 b hb).2⟩,by rw [h3,Heap.size_push];exact Nat.lt_succ_of_lt hlt⟩
    rw [upd_ne (by rw [← hD];exact Nat.ne_of_lt hlt)]
    exact (f2 b hb).1
  have st3:tn 0 s3.heap:=T.keep _ _ _ st2 fun b _ o e=>by rw [h3];exact Heap.get?_push_of_some _ e
  have I4:=block_start I3 ok hN f3
  have pg:=hg s3 (upd H2 D (.lst [])) s3.heap.objs.size (cellsFrom (s3.heap.objs.size + 1) scope.names (cloFrom X.env.cells scope.names [])) fp
  have pt:=ht s3 (upd H2 D (.lst [])) s3.heap.objs.size (cellsFrom (s3.heap.objs.size + 1) scope.names (cloFrom X.env.cells scope.names [])) fp
  have pe:=he s3 (upd H2 D (.lst [])) s3.heap.objs.size (cellsFrom (s3.heap.objs.size + 1) scope.names (cloFrom X.env.cells scope.names [])) fp
  show codeAny _ _ (.compStart (.ListComp elt [⟨tg,iter,ifs,0⟩] scope pos) 0 (.ref it) (.ref D) (compEnvC scope (cellsFrom (s3.heap.objs.size + 1) scope.names (cloFrom X.env.cells scope.names [])) s3.heap.objs.size X.env)) (compPost (model X.prog X.w) X.A X.xe use Qf (.ref D) s3.heap.objs.size) { s3 with heap:=pushCells (s3.heap.push { cls:=.type "dict", data:=.dict #[] }) scope.names }
  have nfp:∀b∈fp,(upd H2 D (.lst [])) b=none:=fun b hb=>(f3 b hb).1.1
  generalize hce:compEnvC scope (cellsFrom (s3.heap.objs.size + 1) scope.names (cloFrom X.env.cells scope.names [])) s3.heap.objs.size X.env=ce at I4 pg pt pe ⊢
  have cL:ce.locals=s3.heap.objs.size:=by subst hce;rfl
  generalize hH3:upd H2 D (.lst [])=H3 at I3 I4 pg pt pe w0 nfp f3
  generalize hs4:({ s3 with heap:=pushCells (s3.heap.push { cls:=.type "dict", data:=.dict #[] }) scope.names }:Shared)=s4 at I4 ⊢
  have st4:tn 0 s4.heap:=T.keep _ _ _ st3 fun b _ o e=>by rw [← hs4];exact pushCells_keeps _ _ _ _ (Heap.get?_push_of_some _ e)
  have stat:∀{σ':St} {H':Hp} {s':Shared},Inv (X.blk s3 H3 scope ce fp) [] σ' H' s'→(∀b∈fp,H' b=none)→∀b∈fp,FpOk (X.blk s3 H3 scope ce fp) [] H' b:=fun {σ' H' s'} I' hn b hb =>
    ⟨hn b hb,(I'.ok.exf b hb).1,I'.ok.exfs b hb,.inl hb,fun x c e=>(I'.ok.exf b hb).2 x c e,fun p hp=>absurd (show p∈([]:List (Addr×Obj))++[] from hp) (by simp)⟩
  have loop:codeAny (model X.prog X.w) X.A (.compLoop (.ListComp elt [⟨tg,iter,ifs,0⟩] scope pos) 0 (.ref it) (.ref D) ce) (compPost (model X.prog X.w) X.A X.xe use Qf (.ref D) s3.heap.objs.size) s4:=by
    refine compLoop_any (fun n s'=>∃i H',Inv (X.blk s3 H3 scope ce fp) [] (wipe σ (own.map (·.2))) H' s'∧tn i s'.heap∧(∀b∈fp,H' b=none)∧W i n H') ?_ m0 ⟨0,H3,I4,st4,nfp,w0⟩
    rintro n s5 ⟨i,H5,I5,st5,n5,w5⟩
    rcases turn i n H5 w5 with ⟨stop,qq⟩ | ⟨go,Nx,hNx,step⟩
    · have td:=T.done (X.blk s3 H3 scope ce fp) rfl rfl rfl hc i [] s5 _ H5 (fun _ _=>False) I5 (stat I5 n5) st5 stop
      refine thnF td fun r s6 ⟨hr,I6⟩=>?_
      subst hr
      have I7:Inv X pins σ H5 s6:=I3.call' (ch:=fp) I6.os I6.base I6.hok I6.bare fun b hb=>⟨(f3 b hb).1.2.2.2.1,(f3 b hb).1.2.1,(f3 b hb).1.2.2.2.2.1,(f3 b hb).1.2.2.2.2.2⟩
      have nC:H5 s3.heap.objs.size=none:=by
        have z:H5 ce.locals=none:=I6.free
        rw [cL] at z
        exact z
      obtain ⟨m,hn,_⟩:=I6.loc
      have hn:s6.heap.Ns ce.locals m:=hn
      rw [cL] at hn
      exact hRR D s3.heap.objs.size s6 m H5 I7 qq hn (I3.fpOk (Nat.le_refl _) nC)
    · have ti:=T.item (X.blk s3 H3 scope ce fp) rfl rfl rfl hc i [] s5 _ H5 (fun _ _=>False) I5 (stat I5 n5) st5 go
      refine thnF ti fun r s6 ⟨u,hr,h6⟩=>?_
      subst hr
      refine thnF h6 fun _ s7 ⟨x,H7,I7,r7,y7,st7,n7⟩=>?_
      have I7':=I7.pinned (stat I7 n7) (T.obj _ _ st7)
      refine thnF (pg _ s7 _ H7 x u _ I7' r7 (step x H7 y7)) fun _ s8 ⟨σ8,H8,I8,hw8,q8⟩=>?_
      refine thnF (pt _ s8 σ8 H8 _ I8 q8) fun b s9 ⟨H9,I9,q9⟩=>?_
      have fin:∀{s':Shared} {H':Hp},Inv (X.blk s3 H3 scope ce fp) ([]++pinsAt fp s7.heap) σ8 H' s'→Nx H'→∃m,m<n∧∃i H',Inv (X.blk s3 H3 scope ce fp) [] (wipe σ (own.map (·.2))) H' s'∧tn i s'.heap∧(∀b∈fp,H' b=none)∧W i m H':=fun {s' H'} I' nx=>by
        obtain ⟨m',hm,w'⟩:=hNx H' nx
        have pin':∀b∈fp,∀o,s7.heap.get? b=some o→s'.heap.get? b=some o∧H' b=none:=fun b hb o e =>
          let z:=I'.pin (b,o) (List.mem_append_right _ (List.mem_append_right _ (mem_pinsAt hb e)))
          ⟨z.1,z.2.1⟩
        have hl:(wipe σ (own.map (·.2))).length = σ8.length:=by rw [← hw8,wipe_length]
        refine ⟨m',hm,i + 1,H',(I'.unpinned (pins:=[])).weak hl (fun j v e=>?_),T.keep _ _ _ st7 fun b hb o e=>(pin' b hb o e).1,fun b hb=>?_,w'⟩
        · rw [← hw8] at e
          exact (wipe_some e).1
        · obtain ⟨o,e,_⟩:=T.obj _ _ st7 b hb
          exact (pin' b hb o e).2
      cases b with
      | false =>
        simp only [Bool.false_eq_true,if_false] at q9 ⊢
        exact fin I9 q9
      | true =>
        simp only [if_true] at q9 ⊢
        refine thnF (pe _ s9 σ8 H9 _ I9 q9) fun z s10 ⟨yv,H10,I10,r10,acc,hD10,hz10,nx⟩=>?_
        exact app_ok (X:=X.blk s3 H3 scope ce fp) I10 hD10 hz10 r10 fun s11 I11=>fin I11 nx
  exact codeAny_compStart_list loop (T.self X.A 0 _ _ _ st4 loop)
theorem pe_lc {elt tg iter:Expr} {ifs:List Expr} {scope:Scope} {own:List (Str×Nat)} {pos:Pos} {wi:TI} {g:TG} {tt:TT} {te:TE} (hc:X.calm=true) (hN:X.N.Nodup) (hi:PI X tg iter wi) (ok:BlkOk X.N X.env.scope scope own)
    (hg:∀(s:Shared) (H:Hp) (C:Addr) (cl:List (Str×Addr)) (fp:List Addr),PG (X.blk s H scope (compEnvC scope cl C X.env) fp) tg g) (ht:∀(s:Shared) (H:Hp) (C:Addr) (cl:List (Str×Addr)) (fp:List Addr),PTs (X.blk s H scope (compEnvC scope cl C X.env) fp) ifs tt)
    (he:∀(s:Shared) (H:Hp) (C:Addr) (cl:List (Str×Addr)) (fp:List Addr),PE (X.blk s H scope (compEnvC scope cl C X.env) fp) elt te) (hs:∀x,foldedSetIterable iter X.env x=pure x:=by intro _;rfl) :
    PE X (.ListComp elt [⟨tg,iter,ifs,0⟩] scope pos) (tLc wi g tt te (own.map (·.2))):=by
  intro pins s σ H Q I h
  rw [eval_ListComp]
  refine lc_core hc hN I hi ok hg ht he hs h fun D C s' m H' I' q hn f=>⟨m,hn,fun h'' sb=>?_⟩
  obtain ⟨f0,f1,f2,f3,f4,f5⟩:=f
  exact ⟨.ref D,H',I'.turned (t':=s'.toks) (fun b o hb e=>(sb.2 b hb).trans e) f0 f1 f3 f4 f5,rfl,q⟩
theorem ps_setLc {i:Nat} {y:Str} {py:Pos} {elt tg iter:Expr} {ifs:List Expr} {scope:Scope} {own:List (Str×Nat)} {pos spos:Pos} {wi:TI} {g:TG} {tt:TT} {te:TE} (hc:X.calm=true) (hN:X.N.Nodup) (hy:X.N[i]? = some y) (hyl:X.env.scope.names.lookup y=some .local)
    (hsw:swapsWith (.ListComp elt [⟨tg,iter,ifs,0⟩] scope pos) (some (.Name y py)) spos.line X.env=pure true) (hi:PI X tg iter wi) (ok:BlkOk X.N X.env.scope scope own)
    (hg:∀(s:Shared) (H:Hp) (C:Addr) (cl:List (Str×Addr)) (fp:List Addr),PG (X.blk s H scope (compEnvC scope cl C X.env) fp) tg g) (ht:∀(s:Shared) (H:Hp) (C:Addr) (cl:List (Str×Addr)) (fp:List Addr),PTs (X.blk s H scope (compEnvC scope cl C X.env) fp) ifs tt)
    (he:∀(s:Shared) (H:Hp) (C:Addr) (cl:List (Str×Addr)) (fp:List Addr),PE (X.blk s H scope (compEnvC scope cl C X.env) fp) elt te) (hs:∀x,foldedSetIterable iter X.env x=pure x:=by intro _;rfl) :
    PS X (.Assign [.Name y py] (.ListComp elt [⟨tg,iter,ifs,0⟩] scope pos) spos) (tAsg (tLc wi g tt te (own.map (·.2))) (gName i)):=by
  intro pins s σ H D I h
  rw [exec_Assign_Name_used _ _ _ _ hsw]
  refine wpAny_bind (wpAny_standAt (wpAny_bind ?_))
  show wpAny _ X.A (do let _ ← comprehension (.ListComp elt [⟨tg,iter,ifs,0⟩] scope pos) scope X.env (firstIterPos [⟨tg,iter,ifs,0⟩] pos) (newList []) false (eval iter X.env) (some (assign (.Name y py) X.env))) _ _ s
  have h:tLc wi g tt te (own.map (·.2)) σ H (fun x H1=>gName i x σ H1 D.nx):=h
  refine wpAny_bind (thn (lc_core (Qf:=fun _ s'=>SP X pins D .next s') hc hN I hi ok hg ht he hs h fun L C s' m H' I' q hn f=>?_) fun _ s' hq=>wpAny_pure (wpAny_pure hq))
  show wpAny _ _ (assign (.Name y py) X.env (.ref L)) _ _ _
  refine wpAny_assign_Name (store_ok2 (v:=V.ref L) I' hN hy (.inl hyl) rfl (fun s2 I2 ⟨a,sb,ha⟩=>?_) (.inr hyl))
  obtain ⟨f0,f1,f2,f3,f4,f5⟩:=f
  have haC:C≠a:=by
    rcases ha with z | z
    · rw [z];exact f1
    · exact fun e=>f4 y a z e.symm
  refine ⟨m,hn.sameBut sb haC,fun h3 sb3=>?_⟩
  exact ⟨_,H',I2.turned (t':=s2.toks) (fun b o hb e=>(sb3.2 b hb).trans e) f0 f1 f3 f4 f5,q⟩
theorem sw_true {elt:Expr} {gs:List Comprehension} {scope:Scope} {pos py:Pos} {y:Str} {l:Nat} {env:Env} (hk:env.scope.kind=.function) (hy:env.scope.names.lookup y=some .local) (hl:(py.line == pos.line)=true)
    (ha:(scope.names.any fun (n,k)=>n == y && (k == .local || k == .cell))=false):swapsWith (.ListComp elt gs scope pos) (some (.Name y py)) l env=pure true:=by
  have ky:env.kindOf y=some .local:=hy
  have hb:env.blockKind=.function:=by unfold Env.blockKind;rw [hk];rfl
  unfold swapsWith
  simp only [hb,ky,ha,Expr.pos,hl]
  rfl
end
def blkC (N:List Str) (sc scope:Scope) (own:List (Str×Nat)):Bool :=
  (match scope.kind with | .function=>true | _=>false) && (scope.names.all fun y=>decide (scope.names.lookup y.1=some y.2)) && (own.all fun p=>decide (N[p.2]? = some p.1)) &&
    (scope.names.all fun y=>match y.2 with
      | .free=>(match sc.names.lookup y.1 with | some .cell=>true | some .free=>true | _=>false)
      | .local=>decide (y.1∈own.map (·.1)) || decide (y.1∉N)
      | .cell=>decide (y.1∈own.map (·.1)) || decide (y.1∉N)
      | _=>true)
theorem blkOk_by {N:List Str} {sc scope:Scope} {own:List (Str×Nat)} (h:blkC N sc scope own=true):BlkOk N sc scope own:=by
  unfold blkC at h
  simp only [Bool.and_eq_true,List.all_eq_true,decide_eq_true_eq] at h
  obtain ⟨⟨⟨h1,h2⟩,h3⟩,h4⟩:=h
  refine ⟨?_,h2,h3,fun y hy e=>?_,fun y hy e=>?_⟩
  · split at h1
    · assumption
    · cases h1
  · have q:=h4 y hy
    simp only [e] at q
    split at q <;> first | exact .inl (by assumption) | exact .inr (by assumption) | cases q
  · have q:=h4 y hy
    rcases e with e | e <;> (simp only [e,Bool.or_eq_true,decide_eq_true_eq] at q;exact q)
end L2
namespace L2
open PySem PySem.Spec PyProof.Rows
section
variable {κ:Type} [DecidableEq κ]
def valV (kvs:List (κ × V)) (k:κ):Option V:=(kvs.find? fun kv=>decide (kv.1=k)).map (·.2)
def putK (kvs:List (κ × V)) (k:κ) (v:V):List (κ × V) :=
  if (kvs.any fun kv=>decide (kv.1=k))=true then kvs.map (fun kv=>if kv.1=k then (kv.1,v) else kv) else kvs++[(k,v)]
def dropK (kvs:List (κ × V)) (k:κ):List (κ × V):=kvs.filter fun kv=>decide (kv.1≠k)
theorem valV_pos {p:κ × V} {r:List (κ × V)} {k:κ} (e:p.1=k):valV (p::r) k=some p.2:=by simp [valV,List.find?_cons,e]
theorem valV_neg {p:κ × V} {r:List (κ × V)} {k:κ} (e:¬ p.1=k):valV (p::r) k=valV r k:=by simp [valV,List.find?_cons,e]
theorem valV_any (k:κ):∀kvs:List (κ × V),(kvs.any fun kv=>decide (kv.1=k))=(valV kvs k).isSome
  | []=>rfl
  | p::r=>by
    rw [List.any_cons]
    by_cases e:p.1=k
    · simp only [valV_pos e,decide_eq_true e,Bool.true_or,Option.isSome_some]
    · rw [valV_neg e,decide_eq_false e,Bool.false_or];exact valV_any k r
theorem length_putK (kvs:List (κ × V)) (k:κ) (v:V):(putK kvs k v).length≤kvs.length + 1:=by
  unfold putK
  split
  · rw [List.length_map];omega
  · rw [List.length_append,List.length_cons,List.length_nil];omega
theorem putK_new {kvs:List (κ × V)} {k:κ} (v:V) (h:valV kvs k=none):putK kvs k v=kvs++[(k,v)]:=by
  unfold putK
  rw [valV_any,h]
  exact if_neg (by decide)
theorem RelO.isSome_eq {o:Option V} {u:Option Value} (r:RelO o u):o.isSome=u.isSome:=by
  cases o with
  | none=>cases u with
    | none=>rfl
    | some _=>exact (show False from r).elim
  | some _=>cases u with
    | none=>exact (show False from r).elim
    | some _=>rfl
theorem RelO.getD {o:Option V} {u:Option Value} {d:V} {d':Value} (r:RelO o u) (rd:RelV d d'):RelV (o.getD d) (u.getD d'):=by
  cases o with
  | none=>cases u with
    | none=>exact rd
    | some _=>exact (show False from r).elim
  | some _=>cases u with
    | none=>exact (show False from r).elim
    | some _=>exact r
theorem KV.val {kvs:List (κ × V)} {vs:List (κ × Value)} (r:KV kvs vs) (k:κ):RelO (valV kvs k) (valueAt vs k):=by
  unfold KV at r
  induction r with
  | nil=>exact True.intro
  | @cons p q ps qs h t ih =>
    obtain ⟨h1,h2⟩:=h
    by_cases e:p.1=k
    · have e':q.1=k:=h1.symm.trans e
      have b:valueAt (q::qs) k=some q.2:=by simp [valueAt,List.find?_cons,e']
      rw [valV_pos e,b];exact h2
    · have e':¬ q.1=k:=fun z=>e (h1.trans z)
      have b:valueAt (q::qs) k=valueAt qs k:=by simp [valueAt,List.find?_cons,e']
      rw [valV_neg e,b];exact ih
theorem KV.any {kvs:List (κ × V)} {vs:List (κ × Value)} (r:KV kvs vs) (k:κ):(kvs.any fun kv=>decide (kv.1=k))=vs.any fun kv=>decide (kv.1=k):=by
  unfold KV at r
  induction r with
  | nil=>rfl
  | cons h t ih=>rw [List.any_cons,List.any_cons,ih,h.1]
theorem KV.repl {kvs:List (κ × V)} {vs:List (κ × Value)} (r:KV kvs vs) (k:κ) {y:V} {u:Value} (ry:RelV y u) :
    KV (kvs.map fun kv=>if kv.1=k then (kv.1,y) else kv) (vs.map fun kv=>if kv.1=k then (kv.1,u) else kv):=by
  unfold KV at r ⊢
  induction r with
  | nil=>exact .nil
  | @cons p q ps qs h t ih =>
    rw [List.map_cons,List.map_cons]
    refine .cons ?_ ih
    obtain ⟨h1,h2⟩:=h
    by_cases e:p.1=k
    · rw [if_pos e,if_pos (h1.symm.trans e)];exact ⟨h1,ry⟩
    · rw [if_neg e,if_neg (fun z=>e (h1.trans z))];exact ⟨h1,h2⟩
theorem KV.put {kvs:List (κ × V)} {vs:List (κ × Value)} (r:KV kvs vs) (k:κ) {y:V} {u:Value} (ry:RelV y u):KV (putK kvs k y) (stored vs k u):=by
  unfold putK stored
  rw [r.any k]
  by_cases e:(vs.any fun kv=>decide (kv.1=k))=true
  · rw [if_pos e,if_pos e];exact r.repl k ry
  · rw [if_neg e,if_neg e];exact Paired.snoc r ⟨rfl,ry⟩
theorem KV.drop {kvs:List (κ × V)} {vs:List (κ × Value)} (r:KV kvs vs) (k:κ):KV (dropK kvs k) (without vs k):=by
  unfold KV at r ⊢
  unfold dropK without
  induction r with
  | nil=>exact .nil
  | @cons p q ps qs h t ih =>
    obtain ⟨h1,h2⟩:=h
    rw [List.filter_cons,List.filter_cons]
    by_cases e:p.1=k
    · have a:¬ decide (p.1≠k)=true:=by simp [e]
      have b:¬ decide (q.1≠k)=true:=by simp [h1.symm.trans e]
      rw [if_neg a,if_neg b];exact ih
    · have e':¬ q.1=k:=fun z=>e (h1.trans z)
      have a:decide (p.1≠k)=true:=by simp [e]
      have b:decide (q.1≠k)=true:=by simp [e']
      rw [if_pos a,if_pos b];exact .cons ⟨h1,h2⟩ ih
theorem KV.length {kvs:List (κ × V)} {vs:List (κ × Value)} (r:KV kvs vs):kvs.length=vs.length:=Paired.length r
theorem dropK_le (kvs:List (κ × V)) (k:κ):(dropK kvs k).length≤kvs.length:=List.length_filter_le _ _
end
theorem kV_is {P:Program} {w:World} {k:Key} {u:Value} (r:RelV (kV k) u):(mixKind P w).is k u=true:=by
  cases k with
  | inl i=>obtain ⟨t,e⟩:=(show ∃t,u=Value.int i t from r);subst e;exact mixKind_int P w i t
  | inr x=>obtain ⟨t,e⟩:=(show ∃t,u=Value.str x t from r);subst e;exact mixKind_str P w x t
theorem items_are {P:Program} {w:World}:∀{ks:List Key} {us:List Value},Vals (ks.map kV) us→ItemsAre (mixKind P w) ks us
  | [],_,r=>by rw [List.map_nil] at r;cases r;exact .nil
  | k::ks,_,r=>by
    rw [List.map_cons] at r
    cases r with
    | cons h t=>exact .cons (kV_is h) (items_are t)
abbrev KT (H:Hp):List (List Key×V)→List (List Key×Addr×Value)→Prop:=Paired fun p q=>p.1=q.1∧H q.2.1=some (.tup (p.1.map kV))∧RelV p.2 q.2.2
theorem KT.val {H:Hp} {kvs:List (List Key×V)} {xs:List (List Key×Addr×Value)} (r:KT H kvs xs) (k:List Key):RelO (valV kvs k) ((atKey xs k).map (·.2)):=by
  induction r with
  | nil=>exact True.intro
  | @cons p q ps qs h t ih =>
    obtain ⟨h1,_,h2⟩:=h
    by_cases e:p.1=k
    · have e':q.1=k:=h1.symm.trans e
      have b:atKey (q::qs) k=some q.2:=by simp [atKey,List.find?_cons,e']
      rw [valV_pos e,b];exact h2
    · have e':¬ q.1=k:=fun z=>e (h1.trans z)
      have b:atKey (q::qs) k=atKey qs k:=by simp [atKey,List.find?_cons,e']
      rw [valV_neg e,b];exact ih
theorem KT.repl {H:Hp} {kvs:List (List Key×V)} {xs:List (List Key×Addr×Value)} (r:KT H kvs xs) (k:List Key) {y:V} {u:Value} (ry:RelV y u) :
    KT H (kvs.map fun kv=>if kv.1=k then (kv.1,y) else kv) (xs.map (putAt k u)):=by
  induction r with
  | nil=>exact .nil
  | @cons p q ps qs h t ih =>
    rw [List.map_cons,List.map_cons]
    refine .cons ?_ ih
    obtain ⟨h1,h2,h3⟩:=h
    unfold putAt
    by_cases e:p.1=k
    · rw [if_pos e,if_pos (h1.symm.trans e)];exact ⟨h1,h2,ry⟩
    · rw [if_neg e,if_neg (fun z=>e (h1.trans z))];exact ⟨h1,h2,h3⟩
theorem KT.put {H:Hp} {kvs:List (List Key×V)} {xs:List (List Key×Addr×Value)} (r:KT H kvs xs) (k:List Key) {b:Addr} {y:V} {u:Value} (hb:H b=some (.tup (k.map kV))) (ry:RelV y u) :
    KT H (putK kvs k y) (storedH xs k b u):=by
  have e:(kvs.any fun kv=>decide (kv.1=k))=(atKey xs k).isSome:=by
    rw [valV_any,(r.val k).isSome_eq,Option.isSome_map]
  unfold putK storedH
  rw [e]
  by_cases q:(atKey xs k).isSome=true
  · rw [if_pos q,if_pos q];exact r.repl k ry
  · rw [if_neg q,if_neg q];exact Paired.snoc r ⟨rfl,hb,ry⟩
theorem KT.keeps {H H':Hp} {kvs:List (List Key×V)} {xs:List (List Key×Addr×Value)} (r:KT H kvs xs) (ht:∀b ys,H b=some (.tup ys)→H' b=some (.tup ys)):KT H' kvs xs :=
  Paired.mapP r fun _ _ z=>⟨z.1,ht _ _ z.2.1,z.2.2⟩
section
variable {P:Program} {w:World} {H:Hp} {h:Heap} {a:Addr}
theorem rd_of {u:HO} (ok:HOk P w H h) (e:Rd H a u):ObjOk P w H h a u:=e.ok ok
theorem dk_rd {kvs:List (Key×V)} (ok:HOk P w H h) (e:Rd H a (.dK kvs)):kvs.length≤sizeLine∧(a == sysModules)=false∧∃vs,KV kvs vs∧h.DictOf (mixKind P w) a vs :=
  show ObjOk P w H h a (.dK kvs) from rd_of ok e
theorem dk_of {kvs:List (Key×V)} (ok:HOk P w H h) (e:H a=some (.dK kvs)):kvs.length≤sizeLine∧(a == sysModules)=false∧∃vs,KV kvs vs∧h.DictOf (mixKind P w) a vs:=dk_rd ok (.inl e)
theorem key_of {ks:List Key} (ok:HOk P w H h) (e:H a=some (.tup (ks.map kV))):(tupleKind (mixKind P w)).is h ks a:=by
  obtain ⟨_,its,r,o,h1,h2,n,h3⟩:=(show ObjOk P w H h a (.tup (ks.map kV)) from ok a _ e)
  exact ⟨o,its.toArray,n,h1,h2,h3,by simpa using items_are r⟩
theorem dt_rd {kvs:List (List Key×V)} (ok:HOk P w H h) (e:Rd H a (.dT kvs)):kvs.length≤sizeLine∧(a == sysModules)=false ∧
    ∃xs,KT H kvs xs∧h.DictOfH (tupleKind (mixKind P w)) a xs:=by
  obtain ⟨z,y,xs,r,o,es,ep,h1,h2,h3,h4,h5⟩:=(show ObjOk P w H h a (.dT kvs) from rd_of ok e)
  refine ⟨z,y,xs,r,o,es,ep,h1,h2,h3,h4,fun x hx=>?_,h5⟩
  have all:∀{l:List (List Key×V)} {m:List (List Key×Addr×Value)},KT H l m→∀x∈m,(tupleKind (mixKind P w)).is h x.1 x.2.1:=by
    intro l m q
    induction q with
    | nil=>intro x hx;exact nomatch hx
    | @cons p q ps qs hq t ih =>
      intro x hx
      rcases List.mem_cons.mp hx with e | hx
      · subst e
        exact key_of ok (by rw [← hq.1];exact hq.2.1)
      · exact ih x hx
  exact all r x hx
theorem dt_of {kvs:List (List Key×V)} (ok:HOk P w H h) (e:H a=some (.dT kvs)):kvs.length≤sizeLine∧(a == sysModules)=false ∧
    ∃xs,KT H kvs xs∧h.DictOfH (tupleKind (mixKind P w)) a xs:=dt_rd ok (.inl e)
end
def DGet (H:Hp) (a:Addr) (y:V) (r:Option V):Prop :=
  (∃kvs k,Rd H a (.dK kvs)∧y=kV k∧r=valV kvs k)∨∃kvs k b,Rd H a (.dT kvs)∧y=.ref b∧H b=some (.tup (k.map kV))∧r=valV kvs k
def DPut (H:Hp) (a:Addr) (y v:V) (H':Hp):Prop :=
  (∃kvs k,H a=some (.dK kvs)∧y=kV k∧kvs.length<sizeLine∧H' = upd H a (.dK (putK kvs k v))) ∨
  ∃kvs k b,H a=some (.dT kvs)∧y=.ref b∧H b=some (.tup (k.map kV))∧kvs.length<sizeLine∧H' = upd H a (.dT (putK kvs k v))
theorem DPut.k {H:Hp} {a:Addr} {kvs:List (Key×V)} {k:Key} {v:V} (e:H a=some (.dK kvs)) (hl:kvs.length<sizeLine):DPut H a (kV k) v (upd H a (.dK (putK kvs k v))):=.inl ⟨kvs,k,e,rfl,hl,rfl⟩
theorem DPut.t {H:Hp} {a b:Addr} {kvs:List (List Key×V)} {k:List Key} {v:V} (e:H a=some (.dT kvs)) (eb:H b=some (.tup (k.map kV))) (hl:kvs.length<sizeLine) :
    DPut H a (.ref b) v (upd H a (.dT (putK kvs k v))):=.inr ⟨kvs,k,b,e,rfl,eb,hl,rfl⟩
section
variable {X:Cx} {pins:List (Addr×Obj)} {σ:St} {H:Hp} {s:Shared} {a:Addr} {y v:V} {u r:Value} {o:Option V} {A:Around} {E:Value→Shared→Prop}
theorem Inv.big (I:Inv X pins σ H s):sysModules<s.heap.objs.size:=by
  have h:mainGlobals<s.heap.objs.size:=(I.mod.glob.keeps I.bk).lt
  exact Nat.lt_trans (by decide) h
theorem d_getItem {Q:Value→Shared→Prop} (hu:A.units + 1<cLine) (I:Inv X pins σ H s) (g:DGet H a y (some v)) (ry:RelV y u) (h:∀w' s',Inv X pins σ H s'→RelV v w'→Q w' s') :
    wpAny (model X.prog X.w) A (getItem (.ref a) u) Q E s:=by
  rcases g with ⟨kvs,k,e,ey,l⟩ | ⟨kvs,k,b,e,ey,eb,l⟩
  · subst ey
    obtain ⟨z,hd,vs,rel,dd⟩:=dk_rd I.hok e
    obtain ⟨w',hw,rw'⟩:=RelO.some_of (v:=v) (o:=valueAt vs k) (by rw [l];exact rel.val k)
    exact wpAny_getItem_of (kV_is ry) dd.mapOf hw (h w' _ (I.tok _) rw')
  · subst ey
    cases (show u=Value.ref b from ry)
    obtain ⟨z,hd,xs,rel,dd⟩:=dt_rd I.hok e
    obtain ⟨w',hw,rw'⟩:=RelO.some_of (v:=v) (o:=(atKey xs k).map (·.2)) (by rw [l];exact rel.val k)
    obtain ⟨p,hp,hp2⟩:=Option.map_eq_some_iff.mp hw
    refine wpAny_getItem_heap (tupleKind_room_in1 hu) (key_of I.hok eb) dd hp ?_
    rw [hp2]
    exact h w' _ (I.tok _) rw'
theorem d_in {Q:Value→Shared→Prop} (hu:A.units + 1<cLine) (I:Inv X pins σ H s) (g:DGet H a y o) (ry:RelV y u) (h:∀s',Inv X pins σ H s'→Q (.bool o.isSome) s') :
    wpAny (model X.prog X.w) A (compareOp .In u (.ref a)) Q E s:=by
  rcases g with ⟨kvs,k,e,ey,l⟩ | ⟨kvs,k,b,e,ey,eb,l⟩
  · subst ey
    obtain ⟨z,hd,vs,rel,dd⟩:=dk_rd I.hok e
    refine wpAny_in_of (kV_is ry) hd dd.mapOf ?_
    rw [← (rel.val k).isSome_eq,← l]
    exact h _ (I.tok _)
  · subst ey
    cases (show u=Value.ref b from ry)
    obtain ⟨z,hd,xs,rel,dd⟩:=dt_rd I.hok e
    refine wpAny_in_heap (tupleKind_room_in1 hu) (key_of I.hok eb) hd dd ?_
    have q:=(rel.val k).isSome_eq
    rw [Option.isSome_map] at q
    rw [← q,← l]
    exact h _ (I.tok _)
theorem d_notIn {Q:Value→Shared→Prop} (hu:A.units + 1<cLine) (I:Inv X pins σ H s) (g:DGet H a y o) (ry:RelV y u) (h:∀s',Inv X pins σ H s'→Q (.bool (!o.isSome)) s') :
    wpAny (model X.prog X.w) A (compareOp .NotIn u (.ref a)) Q E s:=by
  rcases g with ⟨kvs,k,e,ey,l⟩ | ⟨kvs,k,b,e,ey,eb,l⟩
  · subst ey
    obtain ⟨z,hd,vs,rel,dd⟩:=dk_rd I.hok e
    refine wpAny_notIn_of (kV_is ry) hd dd.mapOf ?_
    rw [← (rel.val k).isSome_eq,← l]
    exact h _ (I.tok _)
  · subst ey
    cases (show u=Value.ref b from ry)
    obtain ⟨z,hd,xs,rel,dd⟩:=dt_rd I.hok e
    refine wpAny_notIn_heap (tupleKind_room_in1 hu) (key_of I.hok eb) hd dd ?_
    have q:=(rel.val k).isSome_eq
    rw [Option.isSome_map] at q
    rw [← q,← l]
    exact h _ (I.tok _)
theorem d_write {h':Heap} {t':Nat} {ob:HO} (I:Inv X pins σ H s) (mu:Mut (H a)) (hs:Heap.SameBut a s.heap h') (he:∃q,h'.get? a=some q) (new:ObjOk X.prog X.w (upd H a ob) h' a ob) :
    Inv X pins σ (upd H a ob) { s with heap:=h',toks:=t' } :=
  I.write (x:=a) (e:=a) mu (.inl rfl) (fun b q hb z=>(hs.2 b hb).trans z) he new
theorem dk_new {P:Program} {w:World} {H':Hp} {h':Heap} {kvs:List (Key×V)} {vs:List (Key×Value)} (z:kvs.length≤sizeLine) (hd:(a == sysModules)=false) (rel:KV kvs vs) (dd:h'.DictOf (mixKind P w) a vs) :
    ObjOk P w H' h' a (.dK kvs):=⟨z,hd,vs,rel,dd⟩
theorem d_setItem {H':Hp} {Q:Unit→Shared→Prop} (hu:A.units + 1<cLine) (I:Inv X pins σ H s) (g:DPut H a y v H') (ry:RelV y u) (rv:RelV v r) (h:∀s',Inv X pins σ H' s'→Q () s') :
    wpAny (model X.prog X.w) A (setItem (.ref a) u r) Q E s:=by
  rcases g with ⟨kvs,k,e,ey,l,eH⟩ | ⟨kvs,k,b,e,ey,eb,l,eH⟩
  · subst ey eH
    obtain ⟨z,hd,vs,rel,dd⟩:=dk_of I.hok e
    have hz:vs.length≤sizeLine:=by rw [← rel.length];exact z
    have hl:(putK kvs k v).length≤sizeLine:=by have:=length_putK kvs k v;omega
    refine wpAny_setItem_pairs (hsz:=hz) (kV_is ry) dd fun h' dd' hs=>h _ ?_
    have he:∃q,h'.get? a=some q:=let ⟨q,_,_,hq,_⟩:=dd';⟨q,hq⟩
    exact d_write I (by rw [e];exact True.intro) hs he (dk_new hl hd (rel.put k rv) dd')
  · subst ey eH
    cases (show u=Value.ref b from ry)
    obtain ⟨z,hd,xs,rel,dd⟩:=dt_of I.hok e
    have hz:xs.length≤sizeLine:=by rw [← Paired.length rel];exact z
    have hl:(putK kvs k v).length≤sizeLine:=by have:=length_putK kvs k v;omega
    refine wpAny_setItem_heap (hsz:=hz) (tupleKind_room_in1 hu) (key_of I.hok eb) dd fun h' dd' hs=>h _ ?_
    obtain ⟨q,es,ep,hq,h2,h3,h4,_,h5⟩:=dd'
    refine d_write I (by rw [e];exact True.intro) hs ⟨q,hq⟩ ⟨hl,hd,_,(rel.put k eb rv).keeps fun c ys ec=>?_,q,es,ep,hq,h2,h3,h4,h5⟩
    rw [upd_ne (ne_of ec e (fun z=>nomatch z))]
    exact ec
end
section
variable {X:Cx} {pins:List (Addr×Obj)} {σ:St} {H:Hp} {s:Shared} {a:Addr} {kvs:List (Key×V)} {k:Key} {u:Value} {A:Around} {E:Value→Shared→Prop}
theorem d_delItem {Q:Unit→Shared→Prop} (I:Inv X pins σ H s) (e:H a=some (.dK kvs)) (ry:RelV (kV k) u) (l:(valV kvs k).isSome=true) (h:∀s',Inv X pins σ (upd H a (.dK (dropK kvs k))) s'→Q () s') :
    wpAny (model X.prog X.w) A (delItem (.ref a) u) Q E s:=by
  obtain ⟨z,hd,vs,rel,dd⟩:=dk_of I.hok e
  refine wpAny_delItem_slot dd.typeIs (by decide) PySem.F.slot_dict_delitem
    (call_meetsIn PySem.F.slot_dict_delitem dd.typeIs PySem.F.entry_dict_delitem (PySem.F.args_dict_delitem_2 _ _) (meets_dict_delitem_pairs (mixKind X.prog X.w) a (kV_is ry)) ⟨vs,dd,by rw [← rel.length];exact z,by rw [← (rel.val k).isSome_eq];exact l,fun h' dd' hs=>h _ ?_⟩)
  have he:∃q,h'.get? a=some q:=let ⟨q,_,_,hq,_⟩:=dd';⟨q,hq⟩
  exact d_write I (by rw [e];exact True.intro) hs he (dk_new (Nat.le_trans (dropK_le kvs k) z) hd (rel.drop k) dd')
theorem d_pop {v:V} {more:List Value} {Q:Value→Shared→Prop} (I:Inv X pins σ H s) (e:H a=some (.dK kvs)) (ry:RelV (kV k) u) (l:valV kvs k=some v) (hm:more=[]∨∃x,more=[x])
    (h:∀w' s',Inv X pins σ (upd H a (.dK (dropK kvs k))) s'→RelV v w'→Q w' s'):wpAny (model X.prog X.w) A (call (.builtin "dict.pop") (.ref a::u::more)) Q E s:=by
  obtain ⟨z,hd,vs,rel,dd⟩:=dk_of I.hok e
  obtain ⟨w',hw,rw'⟩:=RelO.some_of (v:=v) (o:=valueAt vs k) (by rw [← l];exact rel.val k)
  have hp:(keyPart u).isSome=true:=by
    cases k with
    | inl i=>obtain ⟨t,q⟩:=(show ∃t,u=Value.int i t from ry);subst q;rfl
    | inr x=>obtain ⟨t,q⟩:=(show ∃t,u=Value.str x t from ry);subst q;rfl
  have ha:argsOk "dict.pop" ⟨.ref a::u::more,[]⟩:=by
    rcases hm with q | ⟨x,q⟩
    · subst q;exact PySem.F.args_dict_pop_2 _ _
    · subst q;exact PySem.F.args_dict_pop_3 _ _ _
  refine call_meetsIn PySem.F.slot_dict_pop dd.typeIs PySem.F.entry_dict_pop ha (meets_dict_pop_there (mixKind X.prog X.w) a (kV_is ry) more hm hp)
    ⟨vs,w',dd,by rw [← rel.length];exact z,hw,fun h' dd' hs=>h w' _ ?_ rw'⟩
  have he:∃q,h'.get? a=some q:=let ⟨q,_,_,hq,_⟩:=dd';⟨q,hq⟩
  exact d_write I (by rw [e];exact True.intro) hs he (dk_new (Nat.le_trans (dropK_le kvs k) z) hd (rel.drop k) dd')
theorem d_len {Q:Value→Shared→Prop} (I:Inv X pins σ H s) (e:Rd H a (.dK kvs)) (h:∀t s',Inv X pins σ H s'→Q (.int kvs.length t) s'):wpAny (model X.prog X.w) A (call (.builtin "len") [.ref a]) Q E s:=by
  obtain ⟨z,hd,vs,rel,dd⟩:=dk_rd I.hok e
  refine call_len_dict hd dd (by rw [← rel.length];rw [sizeLine_eq] at z;omega) ?_
  rw [← rel.length]
  exact h _ _ (I.tok _)
end
def NoSl (i:Expr):Prop:=∀ov iv,subscripted i false ov iv=operate [ov,iv] (getItem ov iv)
theorem subD_of {prog:Program} {w:World} {A:Around} {E:Value→Shared→Prop} {s:Shared} {env:Env} {value slice:Expr} {pos:Pos} {T id:String} {Q:Value→Shared→Prop}
    (hl:typeLookup (.type T) "__getitem__" = pure (some (.builtin id))) (hs:NoSl slice)
    (h:wpAny (model prog w) A (eval value env) (fun o s₁=>wpAny (model prog w) A (eval slice env) (fun i s₂=>s₂.TypeIs o T∧wpAny (model prog w) A (getItem o i) Q E s₂) E s₁) E s) :
    wpAny (model prog w) A (eval (.Subscript value slice pos) env) Q E s:=by
  refine Subscript_ (wpAny_mono h (fun o s₁ h₁=>wpAny_mono h₁ (fun i s₂ h₂=>?_) fun _ _ x=>x) fun _ _ x=>x)
  obtain ⟨hT,h₂⟩:=h₂
  unfold subscriptTail
  refine wpAny_bind ?_
  rw [getitemInPython_of_ne hT.not_modules]
  refine wpAny_bind (wpAny_specialOf hT hl ?_)
  have fin:wpAny (model prog w) A (subscripted slice false o i) (fun r s₃=>wpAny (model prog w) A (letTemporaryGo value o r >>= fun _=>pure r) Q E s₃) E s₂:=by
    rw [hs o i]
    exact wpAny_operating (wpAny_mono h₂ (fun r s₃ h₃=>wpAny_bind (wpAny_letTemporaryGo (wpAny_pure h₃))) fun _ _ x=>x)
  first
    | exact wpAny_pure (wpAny_bind fin)
    | exact wpAny_bind (wpAny_pure (wpAny_bind fin))
    | exact wpAny_bind fin
theorem dict_typeIs {X:Cx} {pins:List (Addr×Obj)} {σ:St} {H:Hp} {s:Shared} {a:Addr} {y:V} {o:Option V} (I:Inv X pins σ H s) (g:DGet H a y o):s.TypeIs (.ref a) "dict" := by
  rcases g with ⟨kvs,k,e,_,_⟩ | ⟨kvs,k,b,e,_,_,_⟩
  · obtain ⟨_,_,vs,_,dd⟩:=dk_rd I.hok e
    exact dd.typeIs
  · obtain ⟨_,_,xs,_,dd⟩:=dt_rd I.hok e
    exact dd.typeIs
def tDGet (td ty:TE):TE:=fun σ H Q=>td σ H fun x H1=>ty σ H1 fun y H2=>∃a v,x=.ref a∧DGet H2 a y (some v)∧Q v H2
def tDIn (ty td:TE):TE:=fun σ H Q=>ty σ H fun y H1=>td σ H1 fun x H2=>∃a o,x=.ref a∧DGet H2 a y o∧Q (.bl o.isSome) H2
def tDNotIn (ty td:TE):TE:=fun σ H Q=>ty σ H fun y H1=>td σ H1 fun x H2=>∃a o,x=.ref a∧DGet H2 a y o∧Q (.bl (!o.isSome)) H2
def sDPut (td ty tv:TE):TS:=fun D σ H=>tv σ H fun v H1=>td σ H1 fun x H2=>ty σ H2 fun y H3=>∃a H4,x=.ref a∧DPut H3 a y v H4∧D.nx σ H4
section
variable {X:Cx} {o i e value:Expr} {pos pos' tpos:Pos} {td ty tv:TE}
theorem pe_dget (hu:X.A.units + 1<cLine) (ho:PE X o td) (hi:PE X i ty) (hs:NoSl i):PE X (.Subscript o i pos) (tDGet td ty):=by
  intro pins s σ H Q I h
  refine subD_of PySem.F.slot_dict_getitem.lookup hs (thn (ho pins s σ H _ I h) fun u s1 ⟨x,H1,I1,rx,q1⟩=>thn (hi pins s1 σ H1 _ I1 q1) fun iv s2 ⟨y,H2,I2,ry,a,v,ex,g,q2⟩=>?_)
  subst ex
  obtain rfl:u=Value.ref a:=rx
  exact ⟨dict_typeIs I2 g,d_getItem hu I2 g ry fun w' s3 I3 rw'=>⟨v,H2,I3,rw',q2⟩⟩
theorem pc_din (hu:X.A.units + 1<cLine) (hi:PE X i ty) (ho:PE X o td):PC X .In i o (tDIn ty td):=by
  intro pins s σ H Q I h
  refine thn (hi pins s σ H _ I h) fun iv s1 ⟨y,H1,I1,ry,q1⟩=>thn (ho pins s1 σ H1 _ I1 q1) fun u s2 ⟨x,H2,I2,rx,a,ov,ex,g,q2⟩=>?_
  subst ex
  obtain rfl:u=Value.ref a:=rx
  exact d_in hu I2 g ry fun s3 I3=>⟨.bl ov.isSome,H2,I3,rfl,q2⟩
theorem pc_dnotin (hu:X.A.units + 1<cLine) (hi:PE X i ty) (ho:PE X o td):PC X .NotIn i o (tDNotIn ty td):=by
  intro pins s σ H Q I h
  refine thn (hi pins s σ H _ I h) fun iv s1 ⟨y,H1,I1,ry,q1⟩=>thn (ho pins s1 σ H1 _ I1 q1) fun u s2 ⟨x,H2,I2,rx,a,ov,ex,g,q2⟩=>?_
  subst ex
  obtain rfl:u=Value.ref a:=rx
  exact d_notIn hu I2 g ry fun s3 I3=>⟨.bl (!ov.isSome),H2,I3,rfl,q2⟩
theorem ps_dput (hu:X.A.units + 1<cLine) (ho:PE X o td) (hi:PE X i ty) (hv:PE X value tv) (hs:swapsWith value (some (.Subscript o i pos')) pos.line X.env=pure false) :
    PS X (.Assign [.Subscript o i pos'] value pos) (sDPut td ty tv):=by
  intro pins s σ H D I h
  refine wpAny_Assign_Subscript (thn (hv pins s σ H _ I h) fun r s1 ⟨v,H1,I1,rv,q1⟩=>thn (ho pins s1 σ H1 _ I1 q1) fun u s2 ⟨x,H2,I2,rx,q2⟩=>thn (hi pins s2 σ H2 _ I2 q2) fun iv s3 ⟨y,H3,I3,ry,a,H4,ex,g,q3⟩=>?_) hs
  subst ex
  obtain rfl:u=Value.ref a:=rx
  exact d_setItem hu I3 g ry rv fun s4 I4=>⟨σ,H4,I4,q3⟩
end
theorem dk_empty {P:Program} {w:World} {H:Hp} (h:Heap) (hb:sysModules<h.objs.size):ObjOk P w H (h.push { cls:=.type "dict", data:=.dict #[] }) h.objs.size (.dK []) :=
  ⟨Nat.zero_le _,beq_eq_false_iff_ne.mpr (Ne.symm (Nat.ne_of_lt hb)),[],.nil,Heap.DictOf.new h⟩
theorem dt_empty {P:Program} {w:World} {H:Hp} (h:Heap) (hb:sysModules<h.objs.size):ObjOk P w H (h.push { cls:=.type "dict", data:=.dict #[] }) h.objs.size (.dT []) :=
  ⟨Nat.zero_le _,beq_eq_false_iff_ne.mpr (Ne.symm (Nat.ne_of_lt hb)),[],.nil,_,#[],0,Heap.get?_push_size _ rfl,⟨rfl,rfl,rfl⟩,rfl,rfl,List.nodup_nil⟩
def tDNewK:TE:=fun _ H Q=>∀p,H p=none→Q (.ref p) (upd H p (.dK []))
def tDNewT:TE:=fun _ H Q=>∀p,H p=none→Q (.ref p) (upd H p (.dT []))
section
variable {X:Cx} {pos:Pos}
theorem pe_dnewK:PE X (.Dict [] [] pos) tDNewK:=fun pins s σ H Q I h =>
  wpAny_Dict_empty ⟨.ref s.heap.objs.size,_,I.laid (a:=s.heap.objs.size) (o:=.dK []) (t':=s.toks) (fun _ _ q=>Heap.get?_push_of_some _ q) (Nat.le_refl _) (dk_empty s.heap I.big),rfl,h _ (I.hok.fresh (Nat.le_refl _))⟩
theorem pe_dnewT:PE X (.Dict [] [] pos) tDNewT:=fun pins s σ H Q I h =>
  wpAny_Dict_empty ⟨.ref s.heap.objs.size,_,I.laid (a:=s.heap.objs.size) (o:=.dT []) (t':=s.toks) (fun _ _ q=>Heap.get?_push_of_some _ q) (Nat.le_refl _) (dt_empty s.heap I.big),rfl,h _ (I.hok.fresh (Nat.le_refl _))⟩
end
def mergeK (kvs more:List (Key×V)):List (Key×V):=more.foldl (fun acc kv=>putK acc kv.1 kv.2) kvs
theorem KV.merge:∀{more:List (Key×V)} {rs:List (Key×Value)} {kvs:List (Key×V)} {vs:List (Key×Value)},KV more rs→KV kvs vs→KV (mergeK kvs more) (merged vs rs):=by
  intro more rs kvs vs r
  unfold KV at r
  induction r generalizing kvs vs with
  | nil=>intro q;exact q
  | @cons p q ps qs h t ih =>
    intro r0
    have e:KV (putK kvs p.1 p.2) (stored vs q.1 q.2):=by
      have:=r0.put p.1 h.2
      rw [← h.1];exact this
    exact ih e
structure M1 (X:Cx) (o:Expr) (m:Str) (apos:Pos) (e:Expr) (cpos:Pos):Prop where
  base:attributeBase o m X.env (eval o X.env)=eval o X.env
  few:((backTo cpos (starEach [e] X.env)).all (fun x=>!x.1) && (backToKw cpos (keywordEach [] X.env)).all (fun x=>x.1.isSome)
    && decide (([e]:List Expr).length + ([]:List Keyword).length + (if ([]:List Keyword).isEmpty then 0 else 1)<30))=true
  line:(apos.endLine == cpos.line)=true
  trees:backTo cpos (starEach [e] X.env)=[(false,eval e X.env)]
structure M2 (X:Cx) (o:Expr) (m:Str) (apos:Pos) (e f:Expr) (cpos:Pos):Prop where
  base:attributeBase o m X.env (eval o X.env)=eval o X.env
  few:((backTo cpos (starEach [e,f] X.env)).all (fun x=>!x.1) && (backToKw cpos (keywordEach [] X.env)).all (fun x=>x.1.isSome)
    && decide (([e,f]:List Expr).length + ([]:List Keyword).length + (if ([]:List Keyword).isEmpty then 0 else 1)<30))=true
  line:(apos.endLine == cpos.line)=true
  trees:backTo cpos (starEach [e,f] X.env)=[(false,eval e X.env),(false,eval f X.env)]
def IsD (H:Hp) (a:Addr):Prop:=(∃kvs,Rd H a (.dK kvs))∨∃kvs,Rd H a (.dT kvs)
theorem isD_at {X:Cx} {pins:List (Addr×Obj)} {σ:St} {H:Hp} {s:Shared} {a:Addr} (I:Inv X pins σ H s) (d:IsD H a) :
    s.TypeIs (.ref a) "dict"∧(∀b,Value.ref a=.ref b→∃ob,s.heap.get? b=some ob∧ob.dict=none)∧(a == sysModules)=false:=by
  rcases d with ⟨kvs,e⟩ | ⟨kvs,e⟩
  · obtain ⟨_,hd,vs,_,dd⟩:=dk_rd I.hok e
    refine ⟨dd.typeIs,fun b q=>?_,hd⟩
    cases q
    obtain ⟨ob,_,_,h1,h2,_⟩:=dd
    exact ⟨ob,h1,h2.2.1⟩
  · obtain ⟨_,hd,xs,_,dd⟩:=dt_rd I.hok e
    refine ⟨dd.typeIs,fun b q=>?_,hd⟩
    cases q
    obtain ⟨ob,_,_,h1,h2,_⟩:=dd
    exact ⟨ob,h1,h2.2.1⟩
section
variable {X:Cx} {pins:List (Addr×Obj)} {σ:St} {H:Hp} {s:Shared} {a:Addr} {y d:V} {u r:Value} {o:Option V} {A:Around} {E:Value→Shared→Prop}
theorem d_get2 {Q:Value→Shared→Prop} (hu:A.units + 1<cLine) (I:Inv X pins σ H s) (g:DGet H a y o) (ry:RelV y u) (rd:RelV d r) (h:∀w' s',Inv X pins σ H s'→RelV (o.getD d) w'→Q w' s') :
    wpAny (model X.prog X.w) A (call (.builtin "dict.get") [.ref a,u,r]) Q E s:=by
  rcases g with ⟨kvs,k,e,ey,l⟩ | ⟨kvs,k,b,e,ey,eb,l⟩
  · subst ey
    obtain ⟨z,hd,vs,rel,dd⟩:=dk_rd I.hok e
    refine call_meetsIn PySem.F.slot_dict_get dd.typeIs PySem.F.entry_dict_get (PySem.F.args_dict_get_3 _ _ _) (meets_dict_get_default (mixKind X.prog X.w) a (kV_is ry) hd r) ⟨_,dd.mapOf,h _ _ (I.tok _) ?_⟩
    rw [l]
    exact (rel.val k).getD rd
  · subst ey
    cases (show u=Value.ref b from ry)
    obtain ⟨z,hd,xs,rel,dd⟩:=dt_rd I.hok e
    refine call_meetsIn PySem.F.slot_dict_get dd.typeIs PySem.F.entry_dict_get (PySem.F.args_dict_get_3 _ _ _) (meetsH_dict_get_default (tupleKind (mixKind X.prog X.w)) a b hd r) ⟨tupleKind_room_in1 hu,k,xs,key_of I.hok eb,dd,h _ _ (I.tok _) ?_⟩
    rw [l]
    exact (rel.val k).getD rd
end
def tDGet2 (td ty tx:TE):TE:=fun σ H Q=>td σ H fun x H1=>∃a,x=.ref a∧IsD H1 a∧ty σ H1 fun y H2=>tx σ H2 fun z H3=>∃o,DGet H3 a y o∧Q (o.getD z) H3
def tDPop1 (td ty:TE):TE:=fun σ H Q=>td σ H fun x H1=>∃a,x=.ref a∧IsD H1 a∧ty σ H1 fun y H2=>∃kvs k v,H2 a=some (.dK kvs)∧y=kV k∧valV kvs k=some v∧Q v (upd H2 a (.dK (dropK kvs k)))
section
variable {X:Cx} {o e f:Expr} {apos cpos:Pos} {td ty tx:TE}
theorem pe_dget2 (hu:X.A.units + 1<cLine) (ho:PE X o td) (he:PE X e ty) (hf:PE X f tx) (m:M2 X o "get" apos e f cpos):PE X (.Call (.Attribute o "get" apos) [e,f] [] cpos) (tDGet2 td ty tx):=by
  intro pins s σ H Q I h
  refine wpAny_Call_method m.base m.few m.line PySem.F.plainAttrs_dict PySem.F.slot_dict_get PySem.F.type_dict_get (thn (ho pins s σ H _ I h) fun u s1 ⟨x,H1,I1,rx,a,ex,d,q1⟩=>?_)
  subst ex
  obtain rfl:u=Value.ref a:=rx
  obtain ⟨t1,t2,_⟩:=isD_at I1 d
  refine ⟨t1,t2,?_⟩
  rw [m.trees]
  refine Calls.callWith_builtin rfl (Calls.evalArgs_plain (Calls.spliced_cons (thn (he pins s1 σ H1 _ I1 q1) fun iv s2 ⟨y,H2,I2,ry,q2⟩ =>
    Calls.spliced_cons (thn (hf pins s2 σ H2 _ I2 q2) fun fv s3 ⟨z,H3,I3,rz,ov,g,q3⟩=>Calls.spliced_nil ?_))))
  exact d_get2 hu I3 g ry rz fun w' s4 I4 rw'=>⟨_,H3,I4,rw',q3⟩
theorem pe_dpop1 (ho:PE X o td) (he:PE X e ty) (m:M1 X o "pop" apos e cpos):PE X (.Call (.Attribute o "pop" apos) [e] [] cpos) (tDPop1 td ty):=by
  intro pins s σ H Q I h
  refine wpAny_Call_method m.base m.few m.line PySem.F.plainAttrs_dict PySem.F.slot_dict_pop PySem.F.type_dict_pop (thn (ho pins s σ H _ I h) fun u s1 ⟨x,H1,I1,rx,a,ex,d,q1⟩=>?_)
  subst ex
  obtain rfl:u=Value.ref a:=rx
  obtain ⟨t1,t2,_⟩:=isD_at I1 d
  refine ⟨t1,t2,?_⟩
  rw [m.trees]
  refine Calls.callWith_builtin rfl (Calls.evalArgs_plain (Calls.spliced_cons (thn (he pins s1 σ H1 _ I1 q1) fun iv s2 ⟨y,H2,I2,ry,kvs,k,v,ea,ey,l,q2⟩=>Calls.spliced_nil ?_)))
  subst ey
  exact d_pop I2 ea ry l (.inl rfl) fun w' s3 I3 rw'=>⟨v,_,I3,rw',q2⟩
end
end L2
namespace L2
open PySem PySem.Spec PyProof.Rows
section
variable {X:Cx} {pins:List (Addr×Obj)} {σ:St} {H:Hp} {s:Shared} {h':Heap}
theorem Inv.turnedL {t':Nat} {ch:List Addr} (I:Inv X pins σ H s) (k:∀b o,b∉ch→s.heap.get? b=some o→h'.get? b=some o) (hf:∀b∈ch,FpOk X pins H b):Inv X pins σ H { s with heap:=h',toks:=t' }:=by
  have nit:∀b u,H b=some u→b∉ch:=fun b u e z=>by
    have q:=(hf b z).1
    rw [q] at e;cases e
  refine I.step (g':=s.gens) (d':=s.drawn) (ch:=ch) (fun b hb=>⟨(hf b hb).2.2.2.1,(hf b hb).2.1,(hf b hb).2.2.2.2.1,(hf b hb).2.2.2.2.2⟩) (fun b o _ _ hc e _=>k b o hc e) (fun b o _ _ hc e _=>⟨o.slots,k b o hc e⟩)
    (fun _ _ _ _ n=>n) (fun b o hc e=>⟨o,k b o hc e⟩) (fun _ _ e=>e) (fun _ _ _ e=>e) (fun b ps e=>⟨#[],by rw [e];simp⟩) (fun m hm=>?_) (fun b u e=>?_) I.bare
  · obtain ⟨o,es,ep,ho,r⟩:=hm
    exact ⟨o,es,ep,k _ o (fun z=>(hf _ z).2.1 rfl) ho,r⟩
  · refine (I.hok b u e).stay (fun c v hc q=>k c v ?_ q) (fun _ q=>q) fun _ _ q=>q
    rcases hc with z | z
    · rw [z];exact nit b u e
    · exact nit c _ z
theorem Inv.turnedNew {t':Nat} {ch:List Addr} {T:Addr} {ob:HO} (I:Inv X pins σ H s) (k:∀b o,b∉ch→s.heap.get? b=some o→h'.get? b=some o) (hf:∀b∈ch,FpOk X pins H b) (hT:s.heap.objs.size≤T)
    (new:ObjOk X.prog X.w (upd H T ob) h' T ob):Inv X pins σ (upd H T ob) { s with heap:=h',toks:=t' }:=by
  have hn:H T=none:=I.hok.fresh hT
  have nit:∀b u,H b=some u→b∉ch:=fun b u e z=>by
    have q:=(hf b z).1
    rw [q] at e;cases e
  refine I.step (g':=s.gens) (d':=s.drawn) (ch:=ch) (fun b hb=>⟨(hf b hb).2.2.2.1,(hf b hb).2.1,(hf b hb).2.2.2.2.1,(hf b hb).2.2.2.2.2⟩) (fun b o _ _ hc e _=>k b o hc e) (fun b o _ _ hc e _=>⟨o.slots,k b o hc e⟩)
    (fun b o _ e n=>?_) (fun b o hc e=>⟨o,k b o hc e⟩) (fun b xs e=>?_) (fun b o u e=>?_) (fun b ps e=>⟨#[],?_⟩) (fun m hm=>?_) (fun b u e=>?_) I.bare
  · rw [upd_ne (Nat.ne_of_lt (Nat.lt_of_lt_of_le (Heap.lt_size e) hT))];exact n
  · rw [upd_ne (ne_of_none e hn)];exact e
  · rw [upd_ne (ne_of_none e hn)];exact e
  · rw [upd_ne (ne_of_none e hn),e];simp
  · obtain ⟨o,es,ep,ho,r⟩:=hm
    exact ⟨o,es,ep,k _ o (fun z=>(hf _ z).2.1 rfl) ho,r⟩
  · by_cases hb:b=T
    · subst hb
      rw [upd_same] at e
      cases e
      exact new
    · rw [upd_ne hb] at e
      refine (I.hok b u e).stay (fun c v hc q=>k c v ?_ q) (fun c q=>by rw [upd_ne (ne_of_none q hn)];exact q) fun c xs q=>by rw [upd_ne (ne_of_none q hn)];exact q
      rcases hc with z | z
      · rw [z];exact nit b u e
      · exact nit c _ z
theorem Inv.lock {d:Addr} {u:HO} (I:Inv X pins σ H s) (h:H d=some u) (mu:Mut (some u)):∃od,Inv X pins σ (upd H d (.frz od u)) s:=by
  have x:=I.hok d u h
  have ex:∃od,s.heap.get? d=some od:=by
    cases u with
    | lst xs=>obtain ⟨_,_,_,_,e⟩:=x;exact ⟨_,e⟩
    | dK kvs=>obtain ⟨_,_,_,_,o,_,_,e,_⟩:=x;exact ⟨o,e⟩
    | dT kvs=>obtain ⟨_,_,_,_,o,_,_,e,_⟩:=x;exact ⟨o,e⟩
    | set S n=>obtain ⟨o,_,_,_,e,_⟩:=x;exact ⟨o,e⟩
    | ins C dx fs=>obtain ⟨_,_,_,e,_⟩:=x;exact ⟨_,e⟩
    | ext φ=>obtain ⟨_,⟨_,e⟩,_⟩:=x;exact ⟨_,e⟩
    | _=>exact False.elim mu
  obtain ⟨od,e⟩:=ex
  have new:ObjOk X.prog X.w (upd H d (.frz od u)) s.heap d (.frz od u):=by
    refine ⟨e,x.stay (fun b v _ q=>q) (fun b q=>?_) fun b xs q=>?_⟩
    · rw [upd_ne (fun z=>by rw [z,h] at q;cases q;exact mu)];exact q
    · rw [upd_ne (fun z=>by rw [z,h] at q;cases q;exact mu)];exact q
  exact ⟨od,I.write (x:=d) (e:=d) (t':=s.toks) (h':=s.heap) (by rw [h];exact mu) (.inl rfl) (fun b v _ q=>q) ⟨od,e⟩ new⟩
theorem Inv.nofrz {d:Addr} {u:HO} (I:Inv X pins σ H s) (h:H d=some u) (mu:Mut (some u)):∀o' u',X.H_0 d≠some (.frz o' u'):=fun o' u' e=>by
  have q:=I.base.frzs d o' u' e
  rw [h] at q
  cases q
  exact mu
theorem Inv.unlock {d:Addr} {od:Obj} {u:HO} (I:Inv X pins σ H s) (h:H d=some (.frz od u)) (hn:∀o' u',X.H_0 d≠some (.frz o' u')):Inv X pins σ (upd H d u) s:=by
  have neH:∀b o,H b=some o→(∀o' u',o≠.frz o' u')→b≠d:=fun b o e hne z=>by
    rw [z,h] at e
    cases e
    exact hne _ _ rfl
  have neN:∀b,H b=none→b≠d:=fun b e z=>by rw [z,h] at e;cases e
  refine ⟨I.ok,I.os,I.bare,⟨I.base.keep,I.base.slot,fun b o e n hx=>?_,I.base.there,fun b xs e=>?_,fun b o x e=>?_,fun b ps e=>?_⟩,I.loc,I.cell,?_,fun x c e=>?_,fun p hp=>?_,fun b o e=>?_,I.len⟩
  · rw [upd_ne (neN b (I.base.free b o e n hx))];exact I.base.free b o e n hx
  · have q:=I.base.tups b xs e
    rw [upd_ne (neH b _ q (fun _ _ z=>nomatch z))];exact q
  · have q:=I.base.frzs b o x e
    rw [upd_ne (fun z=>by rw [z] at e;exact hn _ _ e)];exact q
  · obtain ⟨m,q⟩:=I.base.tbls b ps e
    exact ⟨m,by rw [upd_ne (neH b _ q (fun _ _ z=>nomatch z))];exact q⟩
  · rw [upd_ne (neN _ I.free)];exact I.free
  · rw [upd_ne (neN c (I.freeC x c e))];exact I.freeC x c e
  · obtain ⟨e,n,r⟩:=I.pin p hp
    exact ⟨e,by rw [upd_ne (neN _ n)];exact n,r⟩
  · by_cases hb:b=d
    · rw [hb,upd_same] at e
      cases e
      rw [hb]
      obtain ⟨_,x⟩:=I.hok d _ h
      exact x.stay (fun c v _ q=>q) (fun c q=>by rw [upd_ne (neH c _ q (fun _ _ z=>nomatch z))];exact q) fun c xs q=>by rw [upd_ne (neH c _ q (fun _ _ z=>nomatch z))];exact q
    · rw [upd_ne hb] at e
      exact (I.hok b o e).stay (fun c v _ q=>q) (fun c q=>by rw [upd_ne (neH c _ q (fun _ _ z=>nomatch z))];exact q) fun c xs q=>by rw [upd_ne (neH c _ q (fun _ _ z=>nomatch z))];exact q
end
def tLock (t:TS):TS:=fun D σ H=>∃d u,H d=some u∧Mut (some u)∧∀od,t ⟨fun σ' H'=>H' d=some (.frz od u)∧D.nx σ' (upd H' d u),fun v H'=>H' d=some (.frz od u)∧D.rt v (upd H' d u),fun σ' H'=>H' d=some (.frz od u)∧D.bk σ' (upd H' d u),fun σ' H'=>H' d=some (.frz od u)∧D.ct σ' (upd H' d u)⟩ σ (upd H d (.frz od u))
def tLockE (t:TE):TE:=fun σ H Q=>∃d u,H d=some u∧Mut (some u)∧∀od,t σ (upd H d (.frz od u)) fun v H'=>H' d=some (.frz od u)∧Q v (upd H' d u)
section
variable {X:Cx}
theorem ps_lock {st:Stmt} {t:TS} (h:PS X st t):PS X st (tLock t):=by
  intro pins s σ H D I hw
  obtain ⟨d,u,hd,mu,hw⟩:=hw
  obtain ⟨od,I1⟩:=I.lock hd mu
  refine thn (h pins s σ _ _ I1 (hw od)) fun f s1 q=>?_
  cases f with
  | next=>obtain ⟨σ',H',I2,e,q⟩:=q;exact ⟨σ',_,I2.unlock e (I.nofrz hd mu),q⟩
  | brk=>obtain ⟨σ',H',I2,e,q⟩:=q;exact ⟨σ',_,I2.unlock e (I.nofrz hd mu),q⟩
  | cont=>obtain ⟨σ',H',I2,e,q⟩:=q;exact ⟨σ',_,I2.unlock e (I.nofrz hd mu),q⟩
  | ret v=>obtain ⟨x,σ',H',I2,r,e,q⟩:=q;exact ⟨x,σ',_,I2.unlock e (I.nofrz hd mu),r,q⟩
theorem pe_lock {e:Expr} {t:TE} (h:PE X e t):PE X e (tLockE t):=by
  intro pins s σ H Q I hw
  obtain ⟨d,u,hd,mu,hw⟩:=hw
  obtain ⟨od,I1⟩:=I.lock hd mu
  refine thn (h pins s σ _ _ I1 (hw od)) fun v s1 ⟨x,H1,I2,r,e2,q⟩=>?_
  exact ⟨x,_,I2.unlock e2 (I.nofrz hd mu),r,q⟩
theorem pi_one {tg:Expr} {pins:List (Addr×Obj)} {σ:St} {H:Hp} {s:Shared} {R:It→Hp→Prop} {J:It} {tn:Nat→Heap→Prop} {tk:Nat} (I:Inv X pins σ H s) (o:Obj)
    (T:Turn X.prog X.w X.K tg J [s.heap.objs.size] s.heap.objs.size tn) (st:tn 0 (s.heap.push o)) (q:R J H):PIE X pins σ tg R (.ref s.heap.objs.size) { s with heap:=s.heap.push o,toks:=tk }:=by
  refine ⟨s.heap.objs.size,[s.heap.objs.size],tn,J,H,rfl,I.kept fun b ob e=>Heap.get?_push_of_some _ e,T,st,fun b hb=>?_,q⟩
  have e:b=s.heap.objs.size:=by simpa using hb
  subst e
  exact I.fpOk (Nat.le_refl _) (I.hok.fresh (Nat.le_refl _))
end
section
variable {prog:Program} {w:World} {A:Around} {E:Value→Shared→Prop} {s:Shared}
theorem iter_keys {d:Addr} {o:Obj} {es:Array DictEntry} {ep:Nat} {Q:Value→Shared→Prop} (hd:(d == sysModules)=false) (ho:s.heap.get? d=some o) (hc:o.ExactDict) (hdat:o.data=.dict es ep)
    (hQ:Q (.ref s.heap.objs.size) { s with heap:=s.heap.push { cls:=.type "dict_keyiterator", data:=.fields #[.ref d,.int 0 0,.int es.size 0,.int ep 0] } }) :
    wpAny (model prog w) A (pyIter (.ref d)) Q E s:=by
  have hT:s.TypeIs (.ref d) "dict" := ⟨o,ho,hc.1⟩
  refine wpAny_pyIter_slot hT F.slot_dict_iter (wpAny_call_entry F.slot_dict_iter hT F.entry_dict_iter ?_ (F.args_dict_iter_1 _))
  unfold Builtin.«dict.__iter__»
  refine wpAny_bind ?_
  unfold Builtin.Dict.dictSlotNone
  refine wpAny_bind (wpAny_notOrdered_dict hT ?_)
  show wpAny _ _ (pure (Value.ref d)) _ _ s
  refine wpAny_pure ?_
  show wpAny _ _ (Builtin.Dict.showsAll d >>= _) _ _ s
  unfold Builtin.Dict.showsAll
  rw [if_neg (by rw [hd];exact Bool.false_ne_true)]
  refine wpAny_bind (wpAny_pure ?_)
  refine wpAny_bind (wpAny_dictEntries ho hdat ?_)
  refine wpAny_bind (wpAny_dictEpoch ho hdat ?_)
  refine wpAny_bind (wpAny_newObj_type (wpAny_pure ⟨_,rfl,"dict_keyiterator", _,⟨_,Heap.get?_push_size _ rfl,rfl⟩,F.slot_dict_keyiterator_next.lookup,?_⟩))
  simpa [rawInt] using hQ
theorem next_key_item {it d:Addr} {i n ep:Nat} {od:Obj} {es:Array DictEntry} {en:DictEntry} {Q:Option Value→Shared→Prop} (hit:s.heap.IsKeyIter it d i n ep) (hod:s.heap.get? d=some od) (hdd:od.data=.dict es ep)
    (hsz:es.size=n) (hx:es[i]? = some en) (hQ:∀h',h'.IsKeyIter it d (i + 1) n ep→Heap.SameBut it s.heap h'→Q (some en.key) { s with heap:=h' }):wpAny (model prog w) A (pyNext (.ref it)) Q E s:=by
  obtain ⟨o,ho,hc,hd⟩:=id hit
  unfold pyNext
  refine wpAny_bind (wpAny_attempt (wpAny_callSpecial?_slot (name:=Str.ofString "__next__") hit.typeIs F.slot_dict_keyiterator_next
    (wpAny_call_entry F.slot_dict_keyiterator_next hit.typeIs F.entry_dict_keyiterator_next ?_ (F.args_dict_keyiterator_next_1 _))))
  refine wpAny_bind (wpAny_pure ?_)
  refine wpAny_bind ?_
  refine wpAny_bind ?_
  first | refine wpAny_bind (wpAny_typeNameOfWhole_keyiter hit.typeIs (wpAny_pure ?_)) | refine wpAny_bind (wpAny_typeNameOf_keyiter hit.typeIs (wpAny_pure ?_))
  refine wpAny_bind (wpAny_fieldsOf ho hd ?_)
  have hown:Builtin.Dict_items.ownsTuple "dict_keyiterator" = false:=by decide
  simp only [hown,Bool.false_eq_true,if_false]
  show wpAny _ _ (if (Value.ref d == Value.none)=true then _ else _) _ _ s
  rw [if_neg (show ¬ ((Value.ref d == Value.none)=true) from Bool.false_ne_true)]
  refine wpAny_bind (wpAny_pure ?_)
  refine wpAny_bind (wpAny_dictEntries hod hdd ?_)
  rw [if_neg (by rw [hsz];simp)]
  refine wpAny_bind (wpAny_pure ?_)
  refine wpAny_bind (wpAny_dictEpoch hod hdd ?_)
  rw [if_neg (by simp)]
  refine wpAny_pure ?_
  obtain ⟨hlt',hen⟩:=Array.getElem?_eq_some_iff.mp hx
  simp only [show ¬ ((i:Int)<0) from by omega,if_false,Int.toNat_natCast,Array.getElem?_eq_getElem hlt']
  refine wpAny_bind ?_
  first | refine wpAny_bind (wpAny_typeNameOfWhole_keyiter hit.typeIs (wpAny_pure ?_)) | refine wpAny_bind (wpAny_typeNameOf_keyiter hit.typeIs (wpAny_pure ?_))
  refine wpAny_bind (wpAny_isOneOf_keyiter hit.typeIs ?_)
  show wpAny _ _ (setField (.ref it) 1 (rawInt ((i:Int) + 1)) >>= _) _ _ s
  refine wpAny_bind (wpAny_setField ho hd (by simp) ?_)
  have hit':(s.heap.update it (Obj.mapFields (·.setIfInBounds 1 (rawInt ((i:Int) + 1))))).IsKeyIter it d (i + 1) n ep :=
    ⟨_,Heap.get?_update_self _ ho (Obj.isFreed_of_fields (Obj.data_mapFields hd _)),(Obj.cls_mapFields ..).trans hc,by rw [Obj.data_mapFields hd];simp [rawInt]⟩
  refine wpAny_bind (wpAny_holding ?_)
  refine wpAny_bind (wpAny_isOneOf_keyiter (s:={ s with heap:=s.heap.update it (Obj.mapFields (·.setIfInBounds 1 (rawInt ((i:Int) + 1)))) }) hit'.typeIs ?_)
  show wpAny _ _ (pure es[i].key) _ _ _
  rw [hen]
  exact wpAny_pure (wpAny_pure ⟨_,rfl,wpAny_pure (hQ _ hit' (Heap.SameBut.update ..))⟩)
theorem next_key_end {it d:Addr} {i n ep:Nat} {od:Obj} {es:Array DictEntry} {Q:Option Value→Shared→Prop} (hh:A.handled=none) (hit:s.heap.IsKeyIter it d i n ep) (hod:s.heap.get? d=some od) (hdd:od.data=.dict es ep)
    (hsz:es.size=n) (hge:n≤i) (hQ:∀h',Heap.ExtBut it s.heap h'→Q none { s with heap:=h' }):wpAny (model prog w) A (pyNext (.ref it)) Q E s:=by
  obtain ⟨o,ho,hc,hd⟩:=id hit
  unfold pyNext
  refine wpAny_bind (wpAny_attempt (wpAny_callSpecial?_slot (name:=Str.ofString "__next__") hit.typeIs F.slot_dict_keyiterator_next
    (wpAny_call_entry F.slot_dict_keyiterator_next hit.typeIs F.entry_dict_keyiterator_next ?_ (F.args_dict_keyiterator_next_1 _))))
  refine wpAny_bind (wpAny_pure ?_)
  refine wpAny_bind ?_
  refine wpAny_bind ?_
  first | refine wpAny_bind (wpAny_typeNameOfWhole_keyiter hit.typeIs (wpAny_pure ?_)) | refine wpAny_bind (wpAny_typeNameOf_keyiter hit.typeIs (wpAny_pure ?_))
  refine wpAny_bind (wpAny_fieldsOf ho hd ?_)
  have hown:Builtin.Dict_items.ownsTuple "dict_keyiterator" = false:=by decide
  simp only [hown,Bool.false_eq_true,if_false]
  show wpAny _ _ (if (Value.ref d == Value.none)=true then _ else _) _ _ s
  rw [if_neg (show ¬ ((Value.ref d == Value.none)=true) from Bool.false_ne_true)]
  refine wpAny_bind (wpAny_pure ?_)
  refine wpAny_bind (wpAny_dictEntries hod hdd ?_)
  rw [if_neg (by rw [hsz];simp)]
  refine wpAny_bind (wpAny_pure ?_)
  refine wpAny_bind (wpAny_dictEpoch hod hdd ?_)
  rw [if_neg (by simp)]
  refine wpAny_pure ?_
  have hge':es.size≤i:=by rw [hsz];exact hge
  simp only [show ¬ ((i:Int)<0) from by omega,if_false,Int.toNat_natCast,Array.getElem?_eq_none hge']
  refine wpAny_bind ?_
  first | refine wpAny_bind (wpAny_typeNameOfWhole_keyiter hit.typeIs (wpAny_pure ?_)) | refine wpAny_bind (wpAny_typeNameOf_keyiter hit.typeIs (wpAny_pure ?_))
  show wpAny _ _ (setField (.ref it) 0 .none >>= _) _ _ s
  refine wpAny_bind (wpAny_setField ho hd (by simp) ?_)
  show wpAny _ _ (newExc (.type "StopIteration") [] >>= _) _ _ _
  refine wpAny_bind ?_
  simp only [newExc,newTuple]
  refine wpAny_bind (wpAny_newObj_type ?_ (by size_fits))
  refine wpAny_bind (m:=firstArgMember _ _) (wpAny_of_eq (a:=Value.none) (by first | rfl | (simp only [firstArgMember];rfl)) ?_)
  refine wpAny_newObj_type ?_ (by size_fits)
  simp only [raiseNew]
  refine wpAny_bind (wpAny_handled ?_)
  rw [show A.in1.handled=none from hh]
  refine wpAny_bind (wpAny_pure (wpAny_throw ?_))
  refine wpAny_bind (wpAny_isInstance (T:="StopIteration") (b:=true) ⟨_,Heap.get?_push_size _ rfl,rfl⟩ isSubtype_stop ?_)
  exact wpAny_pure (hQ _ (((Heap.SameBut.update ..).extBut.push _).push _))
end
theorem kv_get {κ:Type} {kvs:List (κ × V)} {vs:List (κ × Value)} (h:KV kvs vs):∀{i:Nat} {k:κ} {v:V},kvs[i]? = some (k,v)→∃u,vs[i]? = some (k,u)∧RelV v u:=by
  unfold KV at h
  induction h with
  | nil=>intro i k v e;simp at e
  | @cons a b l₁ l₂ r t ih =>
    intro i k v e
    cases i with
    | zero =>
      simp only [List.getElem?_cons_zero,Option.some.injEq] at e
      subst e
      refine ⟨b.2,?_,r.2⟩
      simp only [List.getElem?_cons_zero]
      exact congrArg some (Prod.ext r.1.symm rfl)
    | succ j =>
      simp only [List.getElem?_cons_succ] at e ⊢
      exact ih e
theorem paired_get {α β:Type} {G:α→β→Prop} {l₁:List α} {l₂:List β} (h:Paired G l₁ l₂):∀{i:Nat} {a:α},l₁[i]? = some a→∃b,l₂[i]? = some b∧G a b:=by
  induction h with
  | nil=>intro i a e;simp at e
  | @cons a b l₁ l₂ r t ih =>
    intro i a' e
    cases i with
    | zero =>
      simp only [List.getElem?_cons_zero,Option.some.injEq] at e
      subst e
      exact ⟨b,rfl,r⟩
    | succ j =>
      simp only [List.getElem?_cons_succ] at e ⊢
      exact ih e
theorem relV_key {k:Key} {u:Value} (h:keyIs k u=true):RelV (kV k) u:=by
  rcases keyIs_shape h with ⟨i,t,rfl,rfl⟩ | ⟨x,t,rfl,rfl⟩
  · exact ⟨t,rfl⟩
  · exact ⟨t,rfl⟩
section
variable {X:Cx} {pins:List (Addr×Obj)} {σ:St} {H:Hp} {s:Shared} {d:Addr} {o:Obj}
theorem Inv.frzK {kvs:List (Key×V)} (I:Inv X pins σ H s) (h:H d=some (.frz o (.dK kvs))) :
    (d == sysModules)=false∧s.heap.get? d=some o∧o.ExactDict∧∃(es:Array DictEntry) (ep:Nat) (vs:List (Key×Value)),o.data=.dict es ep∧es.size=kvs.length∧KV kvs vs∧s.heap.DictAt (mixKind X.prog X.w) d vs ep:=by
  obtain ⟨hd,z,hs,vs,kv,o',es,ep,ho,hx,hdt,r⟩:=I.hok d _ h
  rw [hd] at ho
  cases ho
  refine ⟨hs,hd,hx,es,ep,vs,hdt,?_,kv,o,es,hd,hx,hdt,r⟩
  have l1:=r.2.1.length
  have l2:kvs.length=vs.length:=Paired.length kv
  rw [Array.length_toList] at l1
  omega
theorem Inv.frzT {kvs:List (List Key×V)} (I:Inv X pins σ H s) (h:H d=some (.frz o (.dT kvs))) :
    (d == sysModules)=false∧s.heap.get? d=some o∧o.ExactDict∧∃(es:Array DictEntry) (ep:Nat),o.data=.dict es ep∧es.size=kvs.length ∧
      ∀(i:Nat) (k:List Key) (v:V),kvs[i]? = some (k,v)→∃(en:DictEntry) (q:Addr),es[i]? = some en∧en.key=.ref q∧H q=some (.tup (k.map kV)):=by
  obtain ⟨hd,z,hs,xs,pr,o',es,ep,ho,hx,hdt,he,_⟩:=I.hok d _ h
  rw [hd] at ho
  cases ho
  refine ⟨hs,hd,hx,es,ep,hdt,?_,fun i k v e=>?_⟩
  · have l1:es.size=xs.length:=size_of_entries he
    have l2:kvs.length=xs.length:=Paired.length pr
    omega
  · obtain ⟨b,hb,e1,e2,_⟩:=paired_get pr e
    have q:=entry_at he i
    rw [hb] at q
    exact ⟨_,b.2.1,q,rfl,e2⟩
end
def Itk (d:Addr) (o:Obj) (kvs:List (Key×V)):It :=
  ⟨fun i H=>H d=some (.frz o (.dK kvs))∧i<kvs.length,fun i H x H'=>H' = H∧∃k v,kvs[i]? = some (k,v)∧x=kV k,fun i H=>H d=some (.frz o (.dK kvs))∧kvs.length≤i⟩
def Itkt (d:Addr) (o:Obj) (kvs:List (List Key×V)):It :=
  ⟨fun i H=>H d=some (.frz o (.dT kvs))∧i<kvs.length,fun i H x H'=>H' = H∧∃(k:List Key) (v:V) (q:Addr),kvs[i]? = some (k,v)∧x=.ref q∧H q=some (.tup (k.map kV)),fun i H=>H d=some (.frz o (.dT kvs))∧kvs.length≤i⟩
def Itd (d:Addr) (o:Obj) (kvs:List (Key×V)):It :=
  ⟨fun i H=>H d=some (.frz o (.dK kvs))∧i<kvs.length,fun i H x H'=>H' = H∧∃k,kvs[i]? = some (k,x),fun i H=>H d=some (.frz o (.dK kvs))∧kvs.length≤i⟩
def Iti (d:Addr) (o:Obj) (kvs:List (Key×V)):It :=
  ⟨fun i H=>H d=some (.frz o (.dK kvs))∧i<kvs.length,fun i H x H'=>∃T k v,kvs[i]? = some (k,v)∧x=.ref T∧H T=none∧H' = upd H T (.tup [kV k,v]),fun i H=>H d=some (.frz o (.dK kvs))∧kvs.length≤i⟩
theorem dict_ep {o:Obj} {es es':Array DictEntry} {ep ep':Nat} (h:o.data=.dict es ep) (h':o.data=.dict es' ep'):es' = es∧ep' = ep:=by
  rw [h] at h'
  cases h'
  exact ⟨rfl,rfl⟩
section
variable {P:Program} {w:World} {K:PySem.W.Frag} {tg:Expr} {d:Addr} {o:Obj} {es:Array DictEntry} {ep:Nat}
theorem turn_keys {kvs:List (Key×V)} (it:Addr) (hod:o.data=.dict es ep):Turn P w K tg (Itk d o kvs) [it] it (fun i h=>h.IsKeyIter it d i kvs.length ep) where
  mem:=by simp
  obj:=fun i h st b hb=>by
    have e:b=it:=by simpa using hb
    subst e
    obtain ⟨oi,e,c,dd⟩:=st
    exact ⟨oi,e,fun v z=>by rw [dd] at z;cases z⟩
  keep:=fun i h h' st k=>st.at fun oi e=>k it (by simp) oi e
  item:=by
    intro X hP hw hK hc i pins s σ H E I hf st hg
    subst hP hw hK
    obtain ⟨hd,hi⟩:=hg
    obtain ⟨f0,f1,f2,f3,f4,f5⟩:=hf it (by simp)
    obtain ⟨hs,hgd,hx,es',ep',vs,hdt,hsz,kv,hm⟩:=I.frzK hd
    obtain ⟨rfl,rfl⟩:=dict_ep hod hdt
    obtain ⟨⟨k,v⟩,hkv⟩:∃p,kvs[i]? = some p:=⟨kvs[i],List.getElem?_eq_getElem hi⟩
    obtain ⟨u,hu,ru⟩:=kv_get kv hkv
    have hl:kvs.length=vs.length:=Paired.length kv
    rw [hl] at st
    refine wpAny_pyNext_dict_item st hm hu fun key h' hkey st' sb=>?_
    have I1:Inv X pins σ H { s with heap:=h' }:=I.turned (t':=s.toks) (fun b ob hb e=>(sb.2 b hb).trans e) f0 f1 f3 f4 f5
    obtain ⟨oi,e,c,dd⟩:=id st'
    refine ⟨key,rfl,go_of (s:={ s with heap:=h' }) e c dd (by decide) ⟨kV k,H,I1,relV_key (show keyIs k key=true from hkey),⟨rfl,k,v,hkv,rfl⟩,?_,fun b hb=>(hf b hb).1⟩⟩
    show h'.IsKeyIter it d (i + 1) kvs.length _
    rw [hl]
    exact st'
  done:=by
    intro X hP hw hK hc i pins s σ H E I hf st hg
    subst hP hw hK
    obtain ⟨hd,hi⟩:=hg
    obtain ⟨f0,f1,f2,f3,f4,f5⟩:=hf it (by simp)
    obtain ⟨hs,hgd,hx,es',ep',vs,hdt,hsz,kv,hm⟩:=I.frzK hd
    obtain ⟨rfl,rfl⟩:=dict_ep hod hdt
    exact next_key_end (I.ok.hd hc) st hgd hdt hsz hi fun h' eb=>⟨rfl,I.turned (t':=s.toks) (fun b ob hb e=>eb b ob hb e) f0 f1 f3 f4 f5⟩
  self:=fun A i s Q E st h=>wpAny_pyIter_keyiter st h
theorem turn_keysT {kvs:List (List Key×V)} (it:Addr) (hod:o.data=.dict es ep):Turn P w K tg (Itkt d o kvs) [it] it (fun i h=>h.IsKeyIter it d i kvs.length ep) where
  mem:=by simp
  obj:=fun i h st b hb=>by
    have e:b=it:=by simpa using hb
    subst e
    obtain ⟨oi,e,c,dd⟩:=st
    exact ⟨oi,e,fun v z=>by rw [dd] at z;cases z⟩
  keep:=fun i h h' st k=>st.at fun oi e=>k it (by simp) oi e
  item:=by
    intro X hP hw hK hc i pins s σ H E I hf st hg
    subst hP hw hK
    obtain ⟨hd,hi⟩:=hg
    obtain ⟨f0,f1,f2,f3,f4,f5⟩:=hf it (by simp)
    obtain ⟨hs,hgd,hx,es',ep',hdt,hsz,ent⟩:=I.frzT hd
    obtain ⟨rfl,rfl⟩:=dict_ep hod hdt
    obtain ⟨⟨k,v⟩,hkv⟩:∃p,kvs[i]? = some p:=⟨kvs[i],List.getElem?_eq_getElem hi⟩
    obtain ⟨en,q,hen,hkey,hq⟩:=ent i k v hkv
    refine next_key_item st hgd hdt hsz hen fun h' st' sb=>?_
    have I1:Inv X pins σ H { s with heap:=h' }:=I.turned (t':=s.toks) (fun b ob hb e=>(sb.2 b hb).trans e) f0 f1 f3 f4 f5
    obtain ⟨oi,e,c,dd⟩:=id st'
    exact ⟨en.key,rfl,go_of (s:={ s with heap:=h' }) e c dd (by decide) ⟨.ref q,H,I1,hkey,⟨rfl,k,v,q,hkv,rfl,hq⟩,st',fun b hb=>(hf b hb).1⟩⟩
  done:=by
    intro X hP hw hK hc i pins s σ H E I hf st hg
    subst hP hw hK
    obtain ⟨hd,hi⟩:=hg
    obtain ⟨f0,f1,f2,f3,f4,f5⟩:=hf it (by simp)
    obtain ⟨hs,hgd,hx,es',ep',hdt,hsz,ent⟩:=I.frzT hd
    obtain ⟨rfl,rfl⟩:=dict_ep hod hdt
    exact next_key_end (I.ok.hd hc) st hgd hdt hsz hi fun h' eb=>⟨rfl,I.turned (t':=s.toks) (fun b ob hb e=>eb b ob hb e) f0 f1 f3 f4 f5⟩
  self:=fun A i s Q E st h=>by
    refine wpAny_pyIter_slot st.typeIs F.slot_dict_keyiterator_iter (wpAny_call_entry F.slot_dict_keyiterator_iter st.typeIs F.entry_dict_keyiterator_iter ?_ (F.args_dict_keyiterator_iter_1 _))
    show wpAny _ _ (ret (.ref it)) _ _ s
    exact wpAny_pure ⟨_,rfl,"dict_keyiterator", _,st.typeIs,F.slot_dict_keyiterator_next.lookup,h⟩
theorem turn_vals {kvs:List (Key×V)} (it:Addr) (hod:o.data=.dict es ep):Turn P w K tg (Itd d o kvs) [it] it (fun i h=>h.IsValIter it d i kvs.length ep) where
  mem:=by simp
  obj:=fun i h st b hb=>by
    have e:b=it:=by simpa using hb
    subst e
    obtain ⟨oi,e,c,dd⟩:=st
    exact ⟨oi,e,fun v z=>by rw [dd] at z;cases z⟩
  keep:=fun i h h' st k=>st.at fun oi e=>k it (by simp) oi e
  item:=by
    intro X hP hw hK hc i pins s σ H E I hf st hg
    subst hP hw hK
    obtain ⟨hd,hi⟩:=hg
    obtain ⟨f0,f1,f2,f3,f4,f5⟩:=hf it (by simp)
    obtain ⟨hs,hgd,hx,es',ep',vs,hdt,hsz,kv,hm⟩:=I.frzK hd
    obtain ⟨rfl,rfl⟩:=dict_ep hod hdt
    obtain ⟨⟨k,v⟩,hkv⟩:∃p,kvs[i]? = some p:=⟨kvs[i],List.getElem?_eq_getElem hi⟩
    obtain ⟨u,hu,ru⟩:=kv_get kv hkv
    have hl:kvs.length=vs.length:=Paired.length kv
    rw [hl] at st
    refine wpAny_pyNext_values_item st hm hu fun h' st' sb=>?_
    have I1:Inv X pins σ H { s with heap:=h' }:=I.turned (t':=s.toks) (fun b ob hb e=>(sb.2 b hb).trans e) f0 f1 f3 f4 f5
    obtain ⟨oi,e,c,dd⟩:=id st'
    refine ⟨u,rfl,go_of (s:={ s with heap:=h' }) e c dd (by decide) ⟨v,H,I1,ru,⟨rfl,k,hkv⟩,?_,fun b hb=>(hf b hb).1⟩⟩
    show h'.IsValIter it d (i + 1) kvs.length _
    rw [hl]
    exact st'
  done:=by
    intro X hP hw hK hc i pins s σ H E I hf st hg
    subst hP hw hK
    obtain ⟨hd,hi⟩:=hg
    obtain ⟨f0,f1,f2,f3,f4,f5⟩:=hf it (by simp)
    obtain ⟨hs,hgd,hx,es',ep',vs,hdt,hsz,kv,hm⟩:=I.frzK hd
    obtain ⟨rfl,rfl⟩:=dict_ep hod hdt
    have hl:kvs.length=vs.length:=Paired.length kv
    rw [hl] at st
    exact wpAny_pyNext_values_end (I.ok.hd hc) st hm (List.getElem?_eq_none (by omega)) fun h' eb=>⟨rfl,I.turned (t':=s.toks) (fun b ob hb e=>eb b ob hb e) f0 f1 f3 f4 f5⟩
  self:=fun A i s Q E st h=>wpAny_pyIter_valiter st h
theorem turn_items {kvs:List (Key×V)} {elts:List Expr} {kk:Nat} {tpos:Pos} (it:Addr) (hod:o.data=.dict es ep) :
    Turn P w K (.Tuple elts kk tpos) (Iti d o kvs) [it] it (fun i h=>∃ok ov,IsItemIter h it d i kvs.length ep ok ov) where
  mem:=by simp
  obj:=fun i h st b hb=>by
    have e:b=it:=by simpa using hb
    subst e
    obtain ⟨ok,ov,e⟩:=st
    exact ⟨_,e,fun v z=>nomatch z⟩
  keep:=fun i h h' st k=>let ⟨ok,ov,e⟩:=st;⟨ok,ov,k it (by simp) _ e⟩
  item:=by
    intro X hP hw hK hc i pins s σ H E I hf st hg
    subst hP hw hK
    obtain ⟨hd,hi⟩:=hg
    obtain ⟨hs,hgd,hx,es',ep',vs,hdt,hsz,kv,hm⟩:=I.frzK hd
    obtain ⟨rfl,rfl⟩:=dict_ep hod hdt
    obtain ⟨⟨k,v⟩,hkv⟩:∃p,kvs[i]? = some p:=⟨kvs[i],List.getElem?_eq_getElem hi⟩
    obtain ⟨u,hu,ru⟩:=kv_get kv hkv
    have hl:kvs.length=vs.length:=Paired.length kv
    obtain ⟨ok,ov,he⟩:=st
    rw [hl] at he
    have hlt:it<s.heap.objs.size:=Heap.lt_size he
    refine wpAny_pyNext_items_item he hm hu fun key h' hkey ho hT hz hk=>?_
    refine ⟨_,rfl,wpAny_letOwnedTupleGo_items (s:={ s with heap:=h' }) ho fun h'' he' sb=>?_⟩
    have hT2:h''.get? s.heap.objs.size=some { cls:=.type "tuple", data:=.seq #[key,u] }:=(sb.2 _ (Nat.ne_of_gt hlt)).trans hT
    have new:ObjOk X.prog X.w (upd H s.heap.objs.size (.tup [kV k,v])) h'' s.heap.objs.size (.tup [kV k,v]) :=
      ⟨by show 2≤sizeLine;decide,[key,u],.cons (relV_key (show keyIs k key=true from hkey)) (.cons ru .nil),⟨_,hT2,rfl,_,rfl⟩⟩
    have I1:Inv X pins σ (upd H s.heap.objs.size (.tup [kV k,v])) { s with heap:=h'' } :=
      I.turnedNew (t':=s.toks) (ch:=[it]) (fun b ob hb e=>(sb.2 b (by simpa using hb)).trans (hk b ob (by simpa using hb) e)) hf (Nat.le_refl _) new
    refine ⟨.ref s.heap.objs.size,_,I1,rfl,⟨_,k,v,hkv,rfl,I.hok.fresh (Nat.le_refl _),rfl⟩,⟨key,u,?_⟩,fun b hb=>?_⟩
    · rw [hl];exact he'
    · have e:b=it:=by simpa using hb
      rw [e,upd_ne (Nat.ne_of_lt hlt)]
      exact (hf it (by simp)).1
  done:=by
    intro X hP hw hK hc i pins s σ H E I hf st hg
    subst hP hw hK
    obtain ⟨hd,hi⟩:=hg
    obtain ⟨f0,f1,f2,f3,f4,f5⟩:=hf it (by simp)
    obtain ⟨hs,hgd,hx,es',ep',vs,hdt,hsz,kv,hm⟩:=I.frzK hd
    obtain ⟨rfl,rfl⟩:=dict_ep hod hdt
    have hl:kvs.length=vs.length:=Paired.length kv
    obtain ⟨ok,ov,he⟩:=st
    rw [hl] at he
    exact wpAny_pyNext_items_end (I.ok.hd hc) he hm (List.getElem?_eq_none (by omega)) fun h' eb=>⟨rfl,I.turned (t':=s.toks) (fun b ob hb e=>eb b ob hb e) f0 f1 f3 f4 f5⟩
  self:=fun A i s Q E st h=>let ⟨_,_,e⟩:=st;PySem.W.kcp_self e h
end
def iKeys (td:TE):TI:=fun σ H R=>td σ H fun x H1=>∃d o,x=.ref d∧((∃kvs,H1 d=some (.frz o (.dK kvs))∧R (Itk d o kvs) H1)∨∃kvs,H1 d=some (.frz o (.dT kvs))∧R (Itkt d o kvs) H1)
def iVals (td:TE):TI:=fun σ H R=>td σ H fun x H1=>∃d o kvs,x=.ref d∧H1 d=some (.frz o (.dK kvs))∧R (Itd d o kvs) H1
def iItems (td:TE):TI:=fun σ H R=>td σ H fun x H1=>∃d o kvs,x=.ref d∧H1 d=some (.frz o (.dK kvs))∧R (Iti d o kvs) H1
section
variable {X:Cx} {tg e:Expr} {td:TE} {apos cpos:Pos}
theorem pi_keys (he:PE X e td):PI X tg e (iKeys td):=by
  intro pins s σ H R I h
  refine thn (he pins s σ H _ I h) fun u s1 ⟨x,H1,I1,rx,d,o,ex,q⟩=>?_
  subst ex
  obtain rfl:u=Value.ref d:=rx
  rcases q with ⟨kvs,hd,q⟩ | ⟨kvs,hd,q⟩
  · obtain ⟨hs,hgd,hx,es,ep,vs,hdt,hsz,kv,hm⟩:=I1.frzK hd
    refine iter_keys hs hgd hx hdt (pi_one (tk:=s1.toks) I1 _ (turn_keys _ hdt) ⟨_,Heap.get?_push_size _ rfl,rfl,?_⟩ q)
    rw [hsz] <;> rfl
  · obtain ⟨hs,hgd,hx,es,ep,hdt,hsz,ent⟩:=I1.frzT hd
    refine iter_keys hs hgd hx hdt (pi_one (tk:=s1.toks) I1 _ (turn_keysT _ hdt) ⟨_,Heap.get?_push_size _ rfl,rfl,?_⟩ q)
    rw [hsz] <;> rfl
theorem pi_values (he:PE X e td) (hbase:attributeBase e "values" X.env (eval e X.env)=eval e X.env:=by rfl) (hline:(apos.endLine == cpos.line)=true:=by rfl):PI X tg (.Call (.Attribute e "values" apos) [] [] cpos) (iVals td):=by
  intro pins s σ H R I h
  refine wpAny_Call_method (T:="dict") (id:="dict.values") hbase rfl hline F.plainAttrs_dict F.slot_dict_values F.type_dict_values (thn (he pins s σ H _ I h) fun u s1 ⟨x,H1,I1,rx,d,o,kvs,ex,hd,q⟩=>?_)
  subst ex
  obtain rfl:u=Value.ref d:=rx
  obtain ⟨hs,hgd,hx,es,ep,vs,hdt,hsz,kv,hm⟩:=I1.frzK hd
  have hl:kvs.length=vs.length:=Paired.length kv
  refine ⟨hm.dictOf.typeIs,hm.dictOf.mapOf.noDict,?_⟩
  have I2:Inv X pins σ H1 { s1 with heap:=s1.heap.push { cls:=.type "dict_values", data:=.fields #[.ref d] } }:=I1.kept (t':=s1.toks) fun b ob q=>Heap.get?_push_of_some _ q
  have fin:wpAny (model X.prog X.w) X.A (pyIter (.ref s1.heap.objs.size)) (PIE X pins σ tg R) X.xe { s1 with heap:=s1.heap.push { cls:=.type "dict_values", data:=.fields #[.ref d] } }:=by
    refine wpAny_pyIter_values (d:=d) (knd:=mixKind X.prog X.w) ⟨_,Heap.get?_push_size _ rfl,rfl,rfl⟩ (hm.push _) (pi_one (tk:=s1.toks) I2 _ (turn_vals _ hdt) ⟨_,Heap.get?_push_size _ rfl,rfl,?_⟩ q)
    rw [hl] <;> rfl
  show wpAny _ _ (callWith cpos (.builtin "dict.values") [.ref d] [] []) _ X.xe s1
  exact method_meetsIn F.slot_dict_values F.entry_dict_values rfl (PySem.evalArgs_none ⟨rfl,hm.dictOf.typeIs,F.args_dict_values_1 _,_,meets_dict_values (mixKind X.prog X.w) d hs,⟨vs,hm.dictOf⟩,fin⟩)
theorem pi_items {elts:List Expr} {kk:Nat} {tpos:Pos} (he:PE X e td) (hbase:attributeBase e "items" X.env (eval e X.env)=eval e X.env:=by rfl) (hline:(apos.endLine == cpos.line)=true:=by rfl) :
    PI X (.Tuple elts kk tpos) (.Call (.Attribute e "items" apos) [] [] cpos) (iItems td):=by
  intro pins s σ H R I h
  refine wpAny_Call_method (T:="dict") (id:="dict.items") hbase rfl hline F.plainAttrs_dict F.slot_dict_items F.type_dict_items (thn (he pins s σ H _ I h) fun u s1 ⟨x,H1,I1,rx,d,o,kvs,ex,hd,q⟩=>?_)
  subst ex
  obtain rfl:u=Value.ref d:=rx
  obtain ⟨hs,hgd,hx,es,ep,vs,hdt,hsz,kv,hm⟩:=I1.frzK hd
  have hl:kvs.length=vs.length:=Paired.length kv
  refine ⟨hm.dictOf.typeIs,hm.dictOf.mapOf.noDict,?_⟩
  have I2:Inv X pins σ H1 { s1 with heap:=s1.heap.push { cls:=.type "dict_items", data:=.fields #[.ref d] } }:=I1.kept (t':=s1.toks) fun b ob q=>Heap.get?_push_of_some _ q
  have fin:wpAny (model X.prog X.w) X.A (pyIter (.ref s1.heap.objs.size)) (PIE X pins σ (.Tuple elts kk tpos) R) X.xe { s1 with heap:=s1.heap.push { cls:=.type "dict_items", data:=.fields #[.ref d] } }:=by
    refine wpAny_pyIter_items (d:=d) (knd:=mixKind X.prog X.w) ⟨_,Heap.get?_push_size _ rfl,rfl,rfl⟩ (hm.push _) (pi_one (tk:=s1.toks) I2 _ (turn_items _ hdt) ⟨.none,.none,?_⟩ q)
    rw [hl]
    exact Heap.get?_push_size _ rfl
  show wpAny _ _ (callWith cpos (.builtin "dict.items") [.ref d] [] []) _ X.xe s1
  exact method_meetsIn F.slot_dict_items F.entry_dict_items rfl (PySem.evalArgs_none ⟨rfl,hm.dictOf.typeIs,F.args_dict_items_1 _,_,meets_dict_items (mixKind X.prog X.w) d hs,⟨vs,hm.dictOf⟩,fin⟩)
end
def Ite (K:PySem.W.Frag) (a:Addr):It :=
  ⟨fun i H=>∃(xs:List V) (x:V),SqL K H a xs∧xs[i]? = some x,fun i H v H'=>∃T x,v=.ref T∧H T=none∧H' = upd H T (.tup [.int (i:Nat),x])∧∀xs,SqL K H a xs→xs[i]? = some x,fun i H=>∃xs:List V,SqL K H a xs∧xs.length≤i⟩
theorem turn_enum {P:Program} {w:World} {K:PySem.W.Frag} {elts:List Expr} {kk:Nat} {tpos:Pos} (a e it:Addr) :
    Turn P w K (.Tuple elts kk tpos) (Ite K a) [e,it] e (fun i h=>(∃old,IsEnum h e it ((i:Nat):Int) old)∧h.IsListIter it a i∧e≠it) where
  mem:=by simp
  obj:=fun i h st b hb=>by
    obtain ⟨⟨old,he⟩,⟨o,ho,hc,hd⟩,_⟩:=st
    have e':b=e∨b=it:=by simpa using hb
    rcases e' with z | z
    · rw [z];exact ⟨_,he,fun v q=>nomatch q⟩
    · rw [z];exact ⟨o,ho,fun v q=>by rw [hd] at q;cases q⟩
  keep:=fun i h h' st k=>let ⟨⟨old,he⟩,hi,hne⟩:=st;⟨⟨old,k e (by simp) _ he⟩,hi.at fun o q=>k it (by simp) o q,hne⟩
  item:=by
    intro X hP hw hK hc i pins s σ H E I hf st hg
    subst hP hw hK
    obtain ⟨⟨old,he⟩,hit,hne⟩:=st
    obtain ⟨xs,x,hq,hx⟩:=hg
    obtain ⟨its,rv,p,hz⟩:=I.list hq
    obtain ⟨u,hu,ru⟩:=rv.get hx
    have hel:e<s.heap.objs.size:=Heap.lt_size he
    have hil:it<s.heap.objs.size:=by obtain ⟨_,q,_⟩:=hit;exact Heap.lt_size q
    refine wpAny_pyNext_enum_item he hit p.isList (x:=u) (by simpa using hu) hne fun h' ho hit' hT hsz hk=>?_
    refine ⟨_,rfl,wpAny_letOwnedTupleGo_enum (s:={ s with heap:=h',toks:=s.toks + 1 }) ho fun h'' he' sb=>?_⟩
    have hT2:h''.get? s.heap.objs.size=some { cls:=.type "tuple", data:=.seq #[.int i s.toks,u] }:=(sb.2 _ (Nat.ne_of_gt hel)).trans hT
    have new:ObjOk X.prog X.w (upd H s.heap.objs.size (.tup [.int (i:Nat),x])) h'' s.heap.objs.size (.tup [.int (i:Nat),x]) :=
      ⟨by show 2≤sizeLine;decide,[.int i s.toks,u],.cons ⟨_,rfl⟩ (.cons ru .nil),⟨_,hT2,rfl,_,rfl⟩⟩
    have I1:Inv X pins σ (upd H s.heap.objs.size (.tup [.int (i:Nat),x])) { s with heap:=h'',toks:=s.toks + 1 } :=
      I.turnedNew (ch:=[e,it]) (fun b ob hb q=>(sb.2 b (fun z=>hb (by simp [z]))).trans (hk b ob (fun z=>hb (by simp [z])) (fun z=>hb (by simp [z])) q)) hf (Nat.le_refl _) new
    refine ⟨.ref s.heap.objs.size,_,I1,rfl,⟨_,x,rfl,I.hok.fresh (Nat.le_refl _),rfl,fun ys hy=>by rw [I.list_inj hy hq];exact hx⟩,⟨⟨u,?_⟩,hit'.at fun o q=>(sb.2 it (Ne.symm hne)).trans q,hne⟩,fun b hb=>?_⟩
    · have e1:((i + 1:Nat):Int)=(i:Int) + 1:=by omega
      rw [e1];exact he'
    · have hb':b<s.heap.objs.size:=by
        have e':b=e∨b=it:=by simpa using hb
        rcases e' with z | z
        · rw [z];exact hel
        · rw [z];exact hil
      rw [upd_ne (Nat.ne_of_lt hb')]
      exact (hf b hb).1
  done:=by
    intro X hP hw hK hc i pins s σ H E I hf st hg
    subst hP hw hK
    obtain ⟨⟨old,he⟩,hit,hne⟩:=st
    obtain ⟨xs,hq,hx⟩:=hg
    obtain ⟨its,rv,p,hz⟩:=I.list hq
    obtain ⟨f0,f1,f2,f3,f4,f5⟩:=hf it (by simp)
    have hl:=rv.length
    exact wpAny_pyNext_enum_end (I.ok.hd hc) he hit p.isList (by simp;omega) fun h' eb=>⟨rfl,I.turned (t':=s.toks) (fun b o hb q=>eb b o hb q) f0 f1 f3 f4 f5⟩
  self:=fun A i s Q E st h=>let ⟨⟨_,he⟩,_⟩:=st;wpAny_pyIter_enum he h
def iEnum (K:PySem.W.Frag) (ta:TA):TI:=fun σ H R=>ta σ H fun vs H1=>∃a xs,vs=[.ref a]∧SqL K H1 a xs∧R (Ite K a) H1
theorem pi_enum {X:Cx} {e:Expr} {ta:TA} {p pos tpos:Pos} {elts:List Expr} {kk:Nat} (hg:Gl X "enumerate") (hm:X.mg "enumerate" = none) (ha:PA X [e] ta) (hs:starEach [e] X.env=[(false,eval e X.env)]:=by rfl) :
    PI X (.Tuple elts kk tpos) (.Call (.Name "enumerate" p) [e] [] pos) (iEnum X.K ta):=by
  intro pins s σ H R I h
  refine Call_ (ld_blt I hg hm boot_enumerate (PyProof.Rows.callWith_type1 (thn (ha pos pins s σ H _ I h) fun us s1 ⟨vs,H1,I1,r1,q1⟩=>?_) hs rfl))
  obtain ⟨a,xs,ex,hq,q⟩:=q1
  subst ex
  cases r1 with
  | cons r rr =>
    cases rr
    cases r
    obtain ⟨its,rv,p',hz⟩:=I1.list hq
    refine call_enumerate_list p'.isList fun h' he hit hsz hk=>wpAny_pyIter_enum he ?_
    have I2:Inv X pins σ H1 { s1 with heap:=h' }:=I1.kept (t':=s1.toks) hk
    refine ⟨s1.heap.objs.size + 1,[s1.heap.objs.size + 1,s1.heap.objs.size],_,_,H1,rfl,I2,turn_enum a (s1.heap.objs.size + 1) s1.heap.objs.size,⟨⟨.none,he⟩,hit,Nat.succ_ne_self _⟩,fun b hb=>?_,q⟩
    have e':b=s1.heap.objs.size + 1∨b=s1.heap.objs.size:=by simpa using hb
    have hle:s1.heap.objs.size≤b:=by
      rcases e' with z | z
      · rw [z];exact Nat.le_add_right _ _
      · rw [z];exact Nat.le_refl _
    exact I1.fpOk hle (I1.hok.fresh hle)
theorem boot_zip5:bootBuiltins "zip" = some (.type "zip"):=by decide +kernel
end L2
namespace L2
open PySem PySem.Spec PyProof.Rows
def inClass (s:Stmt) (j:Nat):Stmt:=match s with
  | .ClassDef _ _ _ body _ _ _ _ _ _ _=>body.getD j (.Pass ⟨0,0,0,0⟩)
  | _=>.Pass ⟨0,0,0,0⟩
def defArgs (s:Stmt):Arguments:=match s with
  | .FunctionDef _ a _ _ _ _ _ _ _ _=>a
  | _=>{ posonlyargs:=[],args:=[],vararg:=none,kwonlyargs:=[],kw_defaults:=[],kwarg:=none,defaults:=[] }
def defBody (s:Stmt):List Stmt:=match s with
  | .FunctionDef _ _ b _ _ _ _ _ _ _=>b
  | _=>[]
def defScope (s:Stmt):Scope:=match s with
  | .FunctionDef _ _ _ _ _ _ sc _ _ _=>sc
  | _=>{ kind:=.function,names:=[],isGenerator:=false,isCoroutine:=false }
abbrev CX0:CXT:=fun _ _ _ _ _ _=>False
abbrev E0:XK:=fun _ _ _=>False
theorem pass0 {X:Cx}:Passes CX0 X E0:=fun _ _ _ _ _ _ _ h=>h.elim
structure Fun (K:PySem.W.Frag) (x qual:Str) (st:Stmt) (f:Addr) (fd:FuncData):Prop where
  ex:∃(oc:Value) (od:Option Addr) (kV doc pm:Value) (an:Option Addr) (cdv ct:Value) (osl:Array (Option Value)),
    fd=PySem.W.fnOf x qual (defArgs st) (defBody st) (defScope st) .none kV doc pm an cdv ct∧K.lookup f=some ⟨oc,od,.func fd,osl⟩∧PySem.W.codeIn K cdv qual=true
  kp:PySem.W.keepIn K (.ref f)=true
section
variable {P:Program} {w:World} {K:PySem.W.Frag} {mg:Str→Option Value} {base:Heap}
theorem Fun.ok {x qual:Str} {st:Stmt} {f:Addr} {fd:FuncData} {N ps:List Str} {k:Nat} {sp:Sp} (F:Fun K x qual st f fd) (S:FnScope N ps (defScope st)) (len:∀vs H Q E,sp vs H Q E→vs.length=ps.length)
    (hbody:∀(cdv:Value) (A:Around) (outer:List Env) (s:Shared) (H:Hp) (vs:List V) (Q:VK) (E:XK),Room k (A.deeper (envOfC qual (defScope st) s.heap.objs.size f cdv))→sp vs H Q E →
      ∃t,PSs (cxOf CX0 P w K mg base N qual (defScope st) f cdv A outer s H E).nox (defBody st) t∧t { nx:=fun _ H'=>Q .non H',rt:=Q } (start N vs) H):FnOk P w K mg base CX0 (k + 1) f fd ps sp:=by
  obtain ⟨oc,od,kV,doc,pm,an,cdv,ct,osl,rfl,lk,hcd⟩:=F.ex
  refine fn_of lk hcd S len fun A outer s H vs Q E hr hsp=>?_
  obtain ⟨t,h,q⟩:=hbody cdv A outer s H vs Q E hr hsp
  exact ⟨t,h.nox,q⟩
theorem Fun.binds {x qual:Str} {st:Stmt} {f:Addr} {fd:FuncData} {ps:List Str} (F:Fun K x qual st f fd)
    (h:∀(kV doc pm:Value) (an:Option Addr) (cdv ct:Value) (us:List Value),us.length=ps.length→bindArgs (PySem.W.fnOf x qual (defArgs st) (defBody st) (defScope st) .none kV doc pm an cdv ct) ⟨us,[]⟩=pure (ps.zip us)):Binds K fd ps []:=by
  obtain ⟨oc,od,kV,doc,pm,an,cdv,ct,osl,rfl,lk,hcd⟩:=F.ex
  exact .all (h kV doc pm an cdv ct)
theorem fun_mk {x qual:Str} {st:Stmt} {f:Addr} {oc:Value} {od an:Option Addr} {osl:Array (Option Value)} {kV doc pm cdv ct:Value} (l:K.lookup f=some ⟨oc,od,.func (PySem.W.fnOf x qual (defArgs st) (defBody st) (defScope st) .none kV doc pm an cdv ct),osl⟩)
    (c:PySem.W.codeIn K cdv qual=true) (k:PySem.W.keepIn K (.ref f)=true):Fun K x qual st f (PySem.W.fnOf x qual (defArgs st) (defBody st) (defScope st) .none kV doc pm an cdv ct):=⟨⟨oc,od,kV,doc,pm,an,cdv,ct,osl,rfl,l,c⟩,k⟩
end
theorem hu_of {A:Around} {k:Nat} (hr:Room k A):A.units + 1<cLine:=Nat.lt_of_le_of_lt (Nat.add_le_add_left (by decide:1≤64) _) hr.units
section
variable {X:Cx}
theorem pv (i:Nat) {x:Str} {pos:Pos} (hN:X.N[i]? = some x:=by rfl) (hv:Vis X.env.scope x:=by first | exact Or.inl rfl | exact Or.inr (Or.inl rfl) | exact Or.inr (Or.inr rfl)) (hd:(x == ("__debug__" : Str))=false:=by decide)
    (hcd:(x == ("__classdict__" : Str))=false:=by decide):PE X (.Name x pos) (tVar i):=pe_var hN hv hd hcd
end
theorem iteF {A B:Prop} (h:B):if false=true then A else B:=by
  rw [if_neg Bool.false_ne_true]
  exact h
theorem iteT {A B:Prop} (h:A):if true=true then A else B:=by
  rw [if_pos rfl]
  exact h
theorem ite2 {c A B:Prop} [Decidable c] (h1:c→A) (h2:¬ c→B):if c then A else B:=by
  by_cases h:c
  · rw [if_pos h]
    exact h1 h
  · rw [if_neg h]
    exact h2 h
def Same (H H':Hp):Prop:=∀b o,H b=some o→H' b=some o
theorem Same.refl (H:Hp):Same H H:=fun _ _ h=>h
theorem Same.trans {H H1 H2:Hp} (a:Same H H1) (b:Same H1 H2):Same H H2:=fun c o h=>b c o (a c o h)
theorem Same.free {H H':Hp} (e:Same H H') {l:Addr} (h:H' l=Option.none):H l=Option.none:=by
  cases q:H l with
  | none=>rfl
  | some o =>
    rw [e l o q] at h
    cases h
section
variable {κ:Type} [DecidableEq κ]
theorem valV_in {kvs:List (κ × V)} {k:κ} {v:V} (h:valV kvs k=some v):k∈kvs.map (·.1):=by
  have q:(kvs.any fun kv=>decide (kv.1=k))=true:=by
    rw [valV_any,h]
    all_goals rfl
  obtain ⟨p,hp,e⟩:=List.any_eq_true.mp q
  exact List.mem_map.mpr ⟨p,hp,of_decide_eq_true e⟩
theorem nd_snoc:∀{l:List κ} {k:κ},l.Nodup→¬ k∈l→(l++[k]).Nodup
  | [],k,_,_=>by simp
  | a::r,k,h,hk=>by
    obtain ⟨h1,h2⟩:=List.nodup_cons.mp h
    show (a::(r++[k])).Nodup
    refine List.nodup_cons.mpr ⟨fun m=>?_,nd_snoc h2 fun m=>hk (List.mem_cons.mpr (Or.inr m))⟩
    rcases List.mem_append.mp m with q | q
    · exact h1 q
    · exact hk (List.mem_cons.mpr (Or.inl (List.mem_singleton.mp q).symm))
theorem dropK_pos {p:κ × V} {r:List (κ × V)} {k:κ} (e:p.1=k):dropK (p::r) k=dropK r k:=by
  unfold dropK
  rw [List.filter_cons,if_neg (by simp [e])]
theorem dropK_neg {p:κ × V} {r:List (κ × V)} {k:κ} (e:¬ p.1=k):dropK (p::r) k=p::dropK r k:=by
  unfold dropK
  rw [List.filter_cons,if_pos (by simp [e])]
end
theorem at_of {xs:List V} {z:Int} {j:Nat} {v:V} (e:z=(j:Int)) (h:xs[j]? = some v):atI xs z=some v:=by
  rw [e]
  exact atI_nat h
theorem nd_ix {α:Type} {l:List α} (hN:l.Nodup) {i j:Nat} {x:α} (a:l[i]? = some x) (b:l[j]? = some x):i=j:=by
  obtain ⟨h1,e1⟩:=List.getElem?_eq_some_iff.mp a
  obtain ⟨h2,e2⟩:=List.getElem?_eq_some_iff.mp b
  exact (List.getElem_inj hN).mp (e1.trans e2.symm)
end L2
section
namespace L2
open PySem PySem.Spec PyProof.Rows
open PySem.W (WData Codec OpenSpec Well WellAll ReadsW ReadsAllW)
mutual
inductive Dw (K:PySem.W.Frag) (H:Hp):V→WData→Prop
  | non:Dw K H .non .none
  | bl (b:Bool):Dw K H (.bl b) (.bool b)
  | int (i:Int):Dw K H (.int i) (.int i)
  | str (x:Str):Dw K H (.str x) (.str x)
  | byt (b:Array UInt8):Dw K H (.byt b) (.bytes b.toList)
  | lst {a:Addr} {xs:List V} {ds:List WData}:SqL K H a xs→DwAll K H xs ds→Dw K H (.ref a) (.list ds)
  | tup {a:Addr} {xs:List V} {ds:List WData}:SqT K H a xs→DwAll K H xs ds→Dw K H (.ref a) (.tuple ds)
inductive DwAll (K:PySem.W.Frag) (H:Hp):List V→List WData→Prop
  | nil:DwAll K H [] []
  | cons {v:V} {vs:List V} {d:WData} {ds:List WData}:Dw K H v d→DwAll K H vs ds→DwAll K H (v::vs) (d::ds)
end
theorem dw_ints {K:PySem.W.Frag} {H:Hp}:∀ns:List Int,DwAll K H (ns.map V.int) (ns.map WData.int)
  | []=>.nil
  | n::r=>.cons (.int n) (dw_ints r)
theorem ints_dw {K:PySem.W.Frag} {H:Hp}:∀(ns:List Int) (xs:List V),DwAll K H xs (ns.map WData.int)→xs=ns.map V.int
  | [],xs,h=>by
    cases h
    rfl
  | n::r,xs,h=>by
    cases h with
    | cons h1 h2 =>
      cases h1
      rw [ints_dw r _ h2] <;> rfl
section
variable {P:Program} {w:World} {K:PySem.W.Frag} {H:Hp} {h:Heap} {R:PySem.W.WRecords} {cl:Str→Option Addr}
theorem sqL_at {a:Addr} {xs:List V} (hok:HOk P w H h) (KX:K.In h) (q:SqL K H a xs):∃(its:List Value) (o:Obj) (n:Nat),Vals xs its∧h.get? a=some o∧o.cls=.type "list"∧o.data=.seq its.toArray n:=by
  rcases q with q | ⟨o,its,n,e,hc,_,hd,_,hv⟩
  · obtain ⟨_,its,n,hv,e⟩:=(show ObjOk P w H h a (.lst xs) from q.ok hok)
    exact ⟨its,_,n,hv,e,rfl,rfl⟩
  · exact ⟨its.toList,o,n,hv,KX _ _ e,hc,by simp [hd]⟩
theorem sqT_at {a:Addr} {xs:List V} (hok:HOk P w H h) (KX:K.In h) (q:SqT K H a xs):∃(its:List Value) (o:Obj) (n:Nat),Vals xs its∧h.get? a=some o∧o.cls=.type "tuple"∧o.data=.seq its.toArray n:=by
  rcases q with q | ⟨o,its,n,e,hc,hd,_,hv⟩
  · obtain ⟨_,its,hv,o,e,hc,n,hd⟩:=(show ObjOk P w H h a (.tup xs) from q.ok hok)
    exact ⟨its,o,n,hv,e,hc,hd⟩
  · exact ⟨its.toList,o,n,hv,KX _ _ e,hc,by simp [hd]⟩
mutual
theorem Dw.reads (hok:HOk P w H h) (KX:K.In h):∀(d:WData) (v:V) (u:Value),Dw K H v d→RelV v u→∃as,ReadsW R cl h u d as
  | .none,_,_,x,r=>by
    cases x
    cases r
    exact ⟨_,ReadsW.none⟩
  | .bool b,_,_,x,r=>by
    cases x
    cases r
    exact ⟨_,ReadsW.bool b⟩
  | .int i,_,_,x,r=>by
    cases x
    obtain ⟨t,rfl⟩:=r
    exact ⟨_,ReadsW.int i t⟩
  | .str s,_,_,x,r=>by
    cases x
    obtain ⟨t,rfl⟩:=r
    exact ⟨_,ReadsW.str s t⟩
  | .bytes b,_,_,x,r=>by
    cases x
    obtain ⟨t,rfl⟩:=r
    exact ⟨_,ReadsW.bytes _ t⟩
  | .list ds,_,_,x,r=>by
    cases x with
    | lst hs ha =>
      cases r
      obtain ⟨its,o,n,rv,ho,hc,hd⟩:=sqL_at hok KX hs
      obtain ⟨as,hr⟩:=Dw.readsAll hok KX ds _ its ha rv
      exact ⟨_,ReadsW.list ho hc hd hr⟩
  | .tuple ds,_,_,x,r=>by
    cases x with
    | tup hs ha =>
      cases r
      obtain ⟨its,o,n,rv,ho,hc,hd⟩:=sqT_at hok KX hs
      obtain ⟨as,hr⟩:=Dw.readsAll hok KX ds _ its ha rv
      exact ⟨_,ReadsW.tuple ho hc hd hr⟩
  | .float _,_,_,x,_=>by cases x
  | .dict _,_,_,x,_=>by cases x
  | .bytearray _,_,_,x,_=>by cases x
  | .set _,_,_,x,_=>by cases x
  | .frozenset _,_,_,x,_=>by cases x
  | .obj _ _,_,_,x,_=>by cases x
theorem Dw.readsAll (hok:HOk P w H h) (KX:K.In h):∀(ds:List WData) (vs:List V) (us:List Value),DwAll K H vs ds→Vals vs us→∃as,ReadsAllW R cl h us ds as
  | [],_,_,x,r=>by
    cases x
    cases r
    exact ⟨_,ReadsAllW.nil⟩
  | d::ds,_,_,x,r=>by
    cases x with
    | cons h1 h2 =>
      cases r with
      | cons r1 r2 =>
        obtain ⟨as,q1⟩:=Dw.reads hok KX d _ _ h1 r1
        obtain ⟨bs,q2⟩:=Dw.readsAll hok KX ds _ _ h2 r2
        exact ⟨_,ReadsAllW.cons q1 q2⟩
end
end
mutual
def plW:WData→Bool
  | .none=>true
  | .bool _=>true
  | .int _=>true
  | .str _=>true
  | .bytes _=>true
  | .list xs=>plWs xs
  | .tuple xs=>plWs xs
  | _=>false
def plWs:List WData→Bool
  | []=>true
  | x::r=>plW x && plWs r
end
theorem plWs_map {α:Type} {f:α→WData} (h:∀a,plW (f a)=true):∀l:List α,plWs (l.map f)=true
  | []=>rfl
  | x::r=>by
    show (plW (f x) && plWs (r.map f))=true
    rw [h x,plWs_map h r] <;> rfl
theorem pl_enc:∀(c:Codec) (a:c.denote),plW (c.enc a)=true
  | .unit,_=>rfl
  | .bool,_=>rfl
  | .int _ _,_=>rfl
  | .nat _ _,_=>rfl
  | .u8,_=>rfl
  | .bytes _ _,_=>rfl
  | .text _ _ _ _,_=>rfl
  | .list _ _ c,a=>plWs_map (fun x=>pl_enc c x) a
  | .pair c d,a=>by
    show (plW (c.enc a.1) && (plW (d.enc a.2) && true))=true
    rw [pl_enc c a.1,pl_enc d a.2] <;> rfl
  | .triple c d e,a=>by
    show (plW (c.enc a.1) && (plW (d.enc a.2.1) && (plW (e.enc a.2.2) && true)))=true
    rw [pl_enc c a.1,pl_enc d a.2.1,pl_enc e a.2.2] <;> rfl
  | .option c,none=>rfl
  | .option c,some x=>pl_enc c x
theorem pl_encAll:∀(cs:List Codec) (a:Codec.denoteAll cs),plWs (Codec.encAll cs a)=true
  | [],_=>rfl
  | c::cs,a=>by
    show (plW (c.enc a.1) && plWs (Codec.encAll cs a.2))=true
    rw [pl_enc c a.1,pl_encAll cs a.2] <;> rfl
theorem weight_mem:∀{xs:List WData} {d:WData},d∈xs→d.weight≤WData.weightAll xs
  | [],d,h=>absurd h (by simp)
  | x::r,d,h=>by
    show d.weight≤x.weight + 1 + WData.weightAll r
    rcases List.mem_cons.mp h with e | m
    · rw [e]
      omega
    · have z:=weight_mem m
      omega
def toV:Value→V
  | .none=>.non
  | .bool b=>.bl b
  | .int i _=>.int i
  | .str x _=>.str x
  | .bytes b _=>.byt b
  | .ref a=>.ref a
  | _=>.non
def OkU (A:List Addr):Value→Prop
  | .none=>True
  | .bool _=>True
  | .int _ _=>True
  | .str _ _=>True
  | .bytes _ _=>True
  | .ref a=>a∈A
  | _=>False
theorem OkU.mono {A B:List Addr} (h:∀a∈A,a∈B):∀{u:Value},OkU A u→OkU B u:=fun {u} x=>by
  cases u with
  | ref a=>exact h a x
  | none=>trivial
  | bool b=>trivial
  | int i t=>trivial
  | str s t=>trivial
  | bytes b t=>trivial
  | _=>exact False.elim x
theorem relV_toV {A:List Addr} {u:Value} (x:OkU A u):RelV (toV u) u:=by
  cases u with
  | ref a=>rfl
  | none=>rfl
  | bool b=>rfl
  | int i t=>exact ⟨t,rfl⟩
  | str s t=>exact ⟨t,rfl⟩
  | bytes b t=>exact ⟨t,rfl⟩
  | _=>exact False.elim x
theorem vals_toV {A:List Addr}:∀{vs:List Value},(∀u∈vs,OkU A u)→Vals (vs.map toV) vs
  | [],_=>.nil
  | u::r,h=>.cons (relV_toV (h u (List.mem_cons_self ..))) (vals_toV fun x hx=>h x (List.mem_cons_of_mem _ hx))
def ArgOb (h:Heap) (A:List Addr) (a:Addr):Prop:=∃vs:List Value,vs.length≤sizeLine∧(∀u∈vs,OkU A u) ∧
  (h.get? a=some { cls:=.type "list", data:=.seq vs.toArray }∨h.get? a=some { cls:=.type "tuple", data:=.seq vs.toArray })
theorem ArgOb.mono {h:Heap} {A B:List Addr} {a:Addr} (k:∀a∈A,a∈B) (x:ArgOb h A a):ArgOb h B a:=by
  obtain ⟨vs,h1,h2,h3⟩:=x
  exact ⟨vs,h1,fun u hu=>(h2 u hu).mono k,h3⟩
theorem wellAll_len {P:Params} {h:Heap}:∀{vs:List Value} {ds:List WData},WellAll P h vs ds→vs.length=ds.length
  | _,_,.nil=>rfl
  | _,_,.cons _ b=>by
    show _ + 1=_ + 1
    rw [wellAll_len b]
theorem well_list {P:Params} {h:Heap} {v:Value} {ds:List WData} (x:Well P h v (.list ds)):∃(a:Addr) (vs:List Value),v=.ref a∧h.get? a=some { cls:=.type "list", data:=.seq vs.toArray }∧WellAll P h vs ds:=by
  cases x with
  | list ho hall=>exact ⟨_,_,rfl,ho,hall⟩
theorem well_tuple {P:Params} {h:Heap} {v:Value} {ds:List WData} (x:Well P h v (.tuple ds)):∃(a:Addr) (vs:List Value),v=.ref a∧h.get? a=some { cls:=.type "tuple", data:=.seq vs.toArray }∧WellAll P h vs ds:=by
  cases x with
  | tuple ho hall=>exact ⟨_,_,rfl,ho,hall⟩
theorem well_cons {P:Params} {h:Heap} {us:List Value} {d:WData} {ds:List WData} (x:WellAll P h us (d::ds)):∃(v:Value) (vs:List Value),us=v::vs∧Well P h v d∧WellAll P h vs ds:=by
  cases x with
  | cons a b=>exact ⟨_,_,rfl,a,b⟩
theorem line_of {n:Nat} (h:n≤1048576):n≤sizeLine:=Nat.le_trans h (by decide)
section
variable {P:Params} {h:Heap}
mutual
theorem area_one:∀(d:WData) (v:Value),Well P h v d→plW d=true→d.weight≤1048576→∃A:List Addr,OkU A v∧∀a∈A,ArgOb h A a
  | .none,_,x,_,_=>by
    cases x
    exact ⟨[],trivial,fun a m=>absurd m (by simp)⟩
  | .bool b,_,x,_,_=>by
    cases x
    exact ⟨[],trivial,fun a m=>absurd m (by simp)⟩
  | .int i,_,x,_,_=>by
    cases x
    exact ⟨[],trivial,fun a m=>absurd m (by simp)⟩
  | .str s,_,x,_,_=>by
    cases x
    exact ⟨[],trivial,fun a m=>absurd m (by simp)⟩
  | .bytes b,_,x,_,_=>by
    cases x
    exact ⟨[],trivial,fun a m=>absurd m (by simp)⟩
  | .list ds,_,x,p,z=>by
    obtain ⟨a,vs,rfl,ho,hall⟩:=well_list x
    have z2:WData.weightAll ds≤1048576:=z
    obtain ⟨A,h1,h2⟩:=area_all ds _ hall p fun d hd=>Nat.le_trans (weight_mem hd) z2
    have k:∀b∈A,b∈a::A:=fun b hb=>List.mem_cons_of_mem _ hb
    refine ⟨a::A,List.mem_cons_self ..,fun b hb=>?_⟩
    rcases List.mem_cons.mp hb with e | m
    · rw [e]
      exact ⟨vs,line_of (by rw [wellAll_len hall];exact Nat.le_trans (PySem.W.length_le_weightAllW ds) z2),fun u hu=>(h1 u hu).mono k,.inl ho⟩
    · exact (h2 b m).mono k
  | .tuple ds,_,x,p,z=>by
    obtain ⟨a,vs,rfl,ho,hall⟩:=well_tuple x
    have z2:WData.weightAll ds≤1048576:=z
    obtain ⟨A,h1,h2⟩:=area_all ds _ hall p fun d hd=>Nat.le_trans (weight_mem hd) z2
    have k:∀b∈A,b∈a::A:=fun b hb=>List.mem_cons_of_mem _ hb
    refine ⟨a::A,List.mem_cons_self ..,fun b hb=>?_⟩
    rcases List.mem_cons.mp hb with e | m
    · rw [e]
      exact ⟨vs,line_of (by rw [wellAll_len hall];exact Nat.le_trans (PySem.W.length_le_weightAllW ds) z2),fun u hu=>(h1 u hu).mono k,.inr ho⟩
    · exact (h2 b m).mono k
  | .float _,_,_,p,_=>Bool.noConfusion (show false=true from p)
  | .dict _,_,_,p,_=>Bool.noConfusion (show false=true from p)
  | .bytearray _,_,_,p,_=>Bool.noConfusion (show false=true from p)
  | .set _,_,_,p,_=>Bool.noConfusion (show false=true from p)
  | .frozenset _,_,_,p,_=>Bool.noConfusion (show false=true from p)
  | .obj _ _,_,_,p,_=>Bool.noConfusion (show false=true from p)
theorem area_all:∀(ds:List WData) (vs:List Value),WellAll P h vs ds→plWs ds=true→(∀d∈ds,d.weight≤1048576)→∃A:List Addr,(∀u∈vs,OkU A u)∧∀a∈A,ArgOb h A a
  | [],_,x,_,_=>by
    cases x
    exact ⟨[],fun u m=>absurd m (by simp),fun a m=>absurd m (by simp)⟩
  | d::ds,_,x,p,z=>by
    obtain ⟨v,vs,rfl,x1,x2⟩:=well_cons x
    have q:plW d=true∧plWs ds=true:=Bool.and_eq_true_iff.mp p
    obtain ⟨A,a1,a2⟩:=area_one d v x1 q.1 (z d (List.mem_cons_self ..))
    obtain ⟨B,b1,b2⟩:=area_all ds vs x2 q.2 fun e he=>z e (List.mem_cons_of_mem _ he)
    have kA:∀b∈A,b∈A++B:=fun b hb=>List.mem_append.mpr (.inl hb)
    have kB:∀b∈B,b∈A++B:=fun b hb=>List.mem_append.mpr (.inr hb)
    refine ⟨A++B,fun u hu=>?_,fun b hb=>?_⟩
    · rcases List.mem_cons.mp hu with e | m
      · rw [e]
        exact a1.mono kA
      · exact (b1 u m).mono kB
    · rcases List.mem_append.mp hb with m | m
      · exact (a2 b m).mono kA
      · exact (b2 b m).mono kB
end
end
def hoOf (o:Obj):Option HO:=match o.data with
  | .seq vs _=>if (o.cls == Value.type "list")=true then some (.frz o (.lst (vs.toList.map toV))) else some (.frz o (.tup (vs.toList.map toV)))
  | _=>none
def argH (K:PySem.W.Frag) (h:Heap) (A:List Addr):Hp:=fun b=>if b∈A then (if (K.lookup b).isNone=true then (h.get? b).bind hoOf else none) else none
def OnlyF (H:Hp):Prop:=∀b,H b=none∨∃o u,H b=some (.frz o u)
theorem hoOf_lst (vs:List Value):hoOf { cls:=.type "list", data:=.seq vs.toArray }=some (.frz { cls:=.type "list", data:=.seq vs.toArray } (.lst (vs.map toV))):=by
  show (if (Value.type "list" == Value.type "list")=true then some (HO.frz { cls:=.type "list", data:=.seq vs.toArray } (.lst (vs.toArray.toList.map toV))) else some (HO.frz { cls:=.type "list", data:=.seq vs.toArray } (.tup (vs.toArray.toList.map toV))))=_
  rw [if_pos (beq_self_eq_true _)]
theorem hoOf_tup (vs:List Value):hoOf { cls:=.type "tuple", data:=.seq vs.toArray }=some (.frz { cls:=.type "tuple", data:=.seq vs.toArray } (.tup (vs.map toV))):=by
  show (if (Value.type "tuple" == Value.type "list")=true then some (HO.frz { cls:=.type "tuple", data:=.seq vs.toArray } (.lst (vs.toArray.toList.map toV))) else some (HO.frz { cls:=.type "tuple", data:=.seq vs.toArray } (.tup (vs.toArray.toList.map toV))))=_
  rw [if_neg (by decide)]
section
variable {P:Program} {w:World} {K:PySem.W.Frag} {h:Heap} {A:List Addr}
theorem argH_at {b:Addr} {o:Obj} (hb:b∈A) (hk:K.lookup b=none) (e:h.get? b=some o):argH K h A b=hoOf o:=by
  unfold argH
  rw [if_pos hb,hk,if_pos (show (none:Option Obj).isNone=true from rfl),e] <;> rfl
theorem of_argH {b:Addr} {u:HO} (q:argH K h A b=some u):b∈A∧K.lookup b=none:=by
  unfold argH at q
  by_cases hb:b∈A
  · rw [if_pos hb] at q
    cases hk:K.lookup b with
    | none=>exact ⟨hb,rfl⟩
    | some o =>
      rw [hk,if_neg (by simp)] at q
      cases q
  · rw [if_neg hb] at q
    cases q
theorem argH_is (ar:∀a∈A,ArgOb h A a) {b:Addr} {u:HO} (q:argH K h A b=some u):K.lookup b=none∧∃vs:List Value,vs.length≤sizeLine∧(∀u∈vs,OkU A u) ∧
    ((h.get? b=some { cls:=.type "list", data:=.seq vs.toArray }∧u=.frz { cls:=.type "list", data:=.seq vs.toArray } (.lst (vs.map toV))) ∨
     (h.get? b=some { cls:=.type "tuple", data:=.seq vs.toArray }∧u=.frz { cls:=.type "tuple", data:=.seq vs.toArray } (.tup (vs.map toV)))):=by
  obtain ⟨hb,hk⟩:=of_argH q
  obtain ⟨vs,h1,h2,h3⟩:=ar b hb
  refine ⟨hk,vs,h1,h2,?_⟩
  rcases h3 with e | e
  · rw [argH_at hb hk e,hoOf_lst] at q
    exact .inl ⟨e,(Option.some.inj q).symm⟩
  · rw [argH_at hb hk e,hoOf_tup] at q
    exact .inr ⟨e,(Option.some.inj q).symm⟩
theorem argH_only (ar:∀a∈A,ArgOb h A a):OnlyF (argH K h A):=fun b=>by
  cases q:argH K h A b with
  | none=>exact .inl rfl
  | some u =>
    obtain ⟨_,vs,_,_,⟨_,e⟩ | ⟨_,e⟩⟩:=argH_is ar q
    · exact .inr ⟨_,_,by rw [e]⟩
    · exact .inr ⟨_,_,by rw [e]⟩
theorem argH_ok (ar:∀a∈A,ArgOb h A a):HOk P w (argH K h A) h:=fun b u q=>by
  obtain ⟨_,vs,h1,h2,⟨e,rfl⟩ | ⟨e,rfl⟩⟩:=argH_is ar q
  · exact ⟨e,by rw [List.length_map];exact h1,vs,_,vals_toV h2,e⟩
  · exact ⟨e,by rw [List.length_map];exact h1,vs,vals_toV h2,_,e,rfl,_,rfl⟩
theorem seq_inj {c c':Value} {vs us:List Value} (e:(some { cls:=c,data:=.seq vs.toArray }:Option Obj)=some { cls:=c',data:=.seq us.toArray }):c=c'∧vs=us:=by
  have e1:=Option.some.inj e
  have e2:c=c':=congrArg Obj.cls e1
  have e3:Data.seq vs.toArray=Data.seq us.toArray:=congrArg Obj.data e1
  injection e3 with e4
  refine ⟨e2,?_⟩
  have e5:=congrArg Array.toList e4
  simpa using e5
theorem argL (KX:K.In h) (ar:∀a∈A,ArgOb h A a) {a:Addr} {vs:List Value} (ha:a∈A) (e:h.get? a=some { cls:=.type "list", data:=.seq vs.toArray }):(∀u∈vs,OkU A u)∧SqL K (argH K h A) a (vs.map toV):=by
  obtain ⟨us,h1,h2,h3⟩:=ar a ha
  have hu:us=vs:=by
    rcases h3 with q | q
    · rw [e] at q
      exact (seq_inj q).2.symm
    · rw [e] at q
      exact absurd (Value.type.inj (seq_inj q).1) (by decide)
  subst hu
  refine ⟨h2,?_⟩
  cases hk:K.lookup a with
  | none=>exact .inl (.inr ⟨_,by rw [argH_at ha hk e,hoOf_lst]⟩)
  | some o =>
    have e2:=KX a o hk
    rw [e] at e2
    obtain rfl:=Option.some.inj e2
    exact .inr ⟨_,us.toArray,_,hk,rfl,rfl,rfl,by rw [List.size_toArray];exact h1,by simpa using vals_toV h2⟩
theorem argT (KX:K.In h) (ar:∀a∈A,ArgOb h A a) {a:Addr} {vs:List Value} (ha:a∈A) (e:h.get? a=some { cls:=.type "tuple", data:=.seq vs.toArray }):(∀u∈vs,OkU A u)∧SqT K (argH K h A) a (vs.map toV):=by
  obtain ⟨us,h1,h2,h3⟩:=ar a ha
  have hu:us=vs:=by
    rcases h3 with q | q
    · rw [e] at q
      exact absurd (Value.type.inj (seq_inj q).1) (by decide)
    · rw [e] at q
      exact (seq_inj q).2.symm
  subst hu
  refine ⟨h2,?_⟩
  cases hk:K.lookup a with
  | none=>exact .inl (.inr ⟨_,by rw [argH_at ha hk e,hoOf_tup]⟩)
  | some o =>
    have e2:=KX a o hk
    rw [e] at e2
    obtain rfl:=Option.some.inj e2
    exact .inr ⟨_,us.toArray,_,hk,rfl,rfl,by rw [List.size_toArray];exact h1,by simpa using vals_toV h2⟩
mutual
theorem dw_one {Pm:Params} (KX:K.In h) (ar:∀a∈A,ArgOb h A a):∀(d:WData) (v:Value),Well Pm h v d→plW d=true→OkU A v→Dw K (argH K h A) (toV v) d
  | .none,_,x,_,_=>by
    cases x
    exact .non
  | .bool b,_,x,_,_=>by
    cases x
    exact .bl b
  | .int i,_,x,_,_=>by
    cases x
    exact .int i
  | .str s,_,x,_,_=>by
    cases x
    exact .str s
  | .bytes b,_,x,_,_=>by
    cases x
    have z:=Dw.byt (K:=K) (H:=argH K h A) b.toArray
    exact z
  | .list ds,_,x,p,hu=>by
    obtain ⟨a,vs,rfl,ho,hall⟩:=well_list x
    obtain ⟨h2,hs⟩:=argL KX ar hu ho
    exact .lst hs (dw_all KX ar ds _ hall p h2)
  | .tuple ds,_,x,p,hu=>by
    obtain ⟨a,vs,rfl,ho,hall⟩:=well_tuple x
    obtain ⟨h2,hs⟩:=argT KX ar hu ho
    exact .tup hs (dw_all KX ar ds _ hall p h2)
  | .float _,_,_,p,_=>Bool.noConfusion (show false=true from p)
  | .dict _,_,_,p,_=>Bool.noConfusion (show false=true from p)
  | .bytearray _,_,_,p,_=>Bool.noConfusion (show false=true from p)
  | .set _,_,_,p,_=>Bool.noConfusion (show false=true from p)
  | .frozenset _,_,_,p,_=>Bool.noConfusion (show false=true from p)
  | .obj _ _,_,_,p,_=>Bool.noConfusion (show false=true from p)
theorem dw_all {Pm:Params} (KX:K.In h) (ar:∀a∈A,ArgOb h A a):∀(ds:List WData) (vs:List Value),WellAll Pm h vs ds→plWs ds=true→(∀u∈vs,OkU A u)→DwAll K (argH K h A) (vs.map toV) ds
  | [],_,x,_,_=>by
    cases x
    exact .nil
  | d::ds,_,x,p,hu=>by
    obtain ⟨v,vs,rfl,x1,x2⟩:=well_cons x
    have q:plW d=true∧plWs ds=true:=Bool.and_eq_true_iff.mp p
    exact .cons (dw_one KX ar d v x1 q.1 (hu _ (List.mem_cons_self ..))) (dw_all KX ar ds vs x2 q.2 fun u m=>hu u (List.mem_cons_of_mem _ m))
end
end
theorem spec_call {P:Program} {w:World} {K:PySem.W.Frag} {mg mb:Str→Option Value} {CX:CXT} {k:Nat} {fa:Addr} {fd:FuncData} {ps:List Str} {sp:Sp} {s₁:Shared} {vals:List Value} {ds:List WData} {R:PySem.W.WRecords} {cl:Str→Option Addr} {d0:WData}
    (KX:K.In s₁.heap) (hns:s₁.heap.Ns mainGlobals mg) (hb:s₁.heap.Ns builtinsNs mb) (hbb:∀x:Str,x ≠ "__name__"→mb x=bootBuiltins x) (hlim:s₁.heap.NoLimit) (hg:s₁.gens = #[])
    (hwl:WellAll w.params s₁.heap vals ds) (hpl:plWs ds=true) (hwt:∀d∈ds,d.weight≤1048576) (hr:Room k callerA)
    (F:∀base:Heap,K.In base→base.Ns mainGlobals mg→FnOk P w K mg base CX k fa fd ps sp) (hbind:∀(s:Shared) (us:List Value),us.length=ps.length→BindsTo s fd ⟨us,[]⟩ (ps.zip us)) (hlen:ds.length=ps.length)
    (hsp:∀(H:Hp) (xs:List V),OnlyF H→DwAll K H xs ds→sp xs H (fun v H'=>Dw K H' v d0) fun _ _ _=>False)
    (hCX:∀H e s',CX [] H s₁ (fun _ _ _=>False) e s'→False) :
    codeAny (model P w) callerA (.call (.ref fa) ⟨vals,[]⟩) (fun r s'=>∃u as,r=.ok (.ret u)∧ReadsW R cl s'.heap u d0 as∧OldK s₁.heap s'.heap∧s'.os=s₁.os∧AllBare s'.gens) s₁:=by
  obtain ⟨A,ho,ar⟩:=area_all ds vals hwl hpl hwt
  have hO:OnlyF (argH K s₁.heap A):=argH_only ar
  have hok:HOk P w (argH K s₁.heap A) s₁.heap:=argH_ok ar
  have hS:=dw_all KX ar ds vals hwl hpl ho
  have hV:=vals_toV ho
  have hK:∀b u,argH K s₁.heap A b=some u→K.lookup b=none:=fun b u q=>(argH_is ar q).1
  have noA:∀{b:Addr} {o:Obj} {es:Array DictEntry} {ep:Nat},s₁.heap.get? b=some o→o.data=.dict es ep→argH K s₁.heap A b=none:=fun {b o es ep} e d=>by
    cases q:argH K s₁.heap A b with
    | none=>rfl
    | some u =>
      obtain ⟨_,vs,_,_,⟨e2,_⟩ | ⟨e2,_⟩⟩:=argH_is ar q
      · rw [e2] at e
        cases e
        have d':Data.seq vs.toArray _=Data.dict es ep:=d
        cases d'
      · rw [e2] at e
        cases e
        have d':Data.seq vs.toArray _=Data.dict es ep:=d
        cases d'
  generalize argH K s₁.heap A=H at hO hok hS hK noA
  have base_of:∀{b:Addr} {o:Obj},s₁.heap.get? b=some o→H b=none→(hidT s₁.heap H).get? b=some o:=fun e n=>hidT_get e n
  have nsK:∀{b:Addr} {m:Str→Option Value},s₁.heap.Ns b m→(hidT s₁.heap H).Ns b m:=fun {b m} ⟨o,es,ep,e,d,r⟩=>⟨o,es,ep,base_of e (noA e d),d,r⟩
  have nK:∀b o,K.lookup b=some o→H b=none:=fun b o e=>by
    cases q:H b with
    | none=>rfl
    | some u =>
      rw [hK b u q] at e
      cases e
  have hKb:K.In (hidT s₁.heap H):=fun b o e=>base_of (KX b o e) (nK b o e)
  have hM:Mod K mg (hidT s₁.heap H):=⟨hKb,nsK hns,⟨mb,nsK hb,hbb⟩,let ⟨mc,h1,h2⟩:=hlim;⟨mc,nsK h1,h2⟩⟩
  have e0:Env0 P w K mg (hidT s₁.heap H) callerA [] s₁ H:=⟨rfl,hM,fun b o e=>of_hidT e,Nat.le_of_eq (hidT_size _ _),trivial,fun b hb=>absurd (show b∈([]:List Addr) from hb) (by simp),hok,.of_eq hg⟩
  have hl:vals.length=ps.length:=by rw [wellAll_len hwl];exact hlen
  refine codeAny_mono ((F _ hKb (nsK hns)).run callerA [] s₁ H ⟨vals,[]⟩ vals (vals.map toV) _ _ hr e0 (hbind s₁ vals hl) hV (hsp H _ hO hS)) fun r s' x=>?_
  cases r with
  | error e=>exact (hCX H e s' x).elim
  | ok fl =>
    cases fl with
    | next=>exact False.elim x
    | brk=>exact False.elim x
    | cont=>exact False.elim x
    | ret u =>
      obtain ⟨v,H',os,bare,un,hok',r',q⟩:=x
      have kept:∀b o,s₁.heap.get? b=some o→s'.heap.get? b=some o:=fun b o e=>by
        cases q2:H b with
        | none=>exact un.keep b o e q2 (by intro z;exact absurd (show b∈([]:List Addr) from z) (by simp)) (by simp)
        | some u2 =>
          rcases hO b with z | ⟨ob,u3,z⟩
          · rw [q2] at z
            cases z
          · have z2:=un.frzs b ob _ z
            obtain ⟨e1,_⟩:=hok b _ z
            obtain ⟨e2,_⟩:=hok' b _ z2
            rw [e] at e1
            cases e1
            exact e2
      have KX':K.In s'.heap:=fun b o e=>kept b o (KX b o e)
      obtain ⟨as,hrd⟩:=Dw.reads (R:=R) (cl:=cl) hok' KX' d0 v u q r'
      exact ⟨u,as,rfl,hrd,OldK.of_keep kept,os,bare⟩
theorem layable_weight {ds:List WData} (h:WData.layableAll ds=true):∀d∈ds,d.weight≤1048576:=fun d hd =>
  (PySem.W.layableW_iff.mp (List.all_eq_true.mp h d hd)).2.2
theorem encAll_len:∀(cs:List Codec) (a:Codec.denoteAll cs),(Codec.encAll cs a).length=cs.length
  | [],_=>rfl
  | c::cs,a=>by
    show (Codec.encAll cs a.2).length + 1=cs.length + 1
    rw [encAll_len cs a.2]
theorem walk_spec {r:OpenSpec} {k:Nat} {q:Program} {loose:List Str} {XP:(Str→Option Value)→Heap→Prop} {YP:World→Heap→Prop} {d:DefRec} {K:Params→PySem.W.Frag} {CX:World→CXT} {ps:List Str} {sp:World→Sp}
    (hwell:r.wellSaid=true) (hdf:d.params.defaults=[]) (hlen:r.args.length=ps.length) (hr:Room k callerA)
    (hY:∀(w:World) (h:Heap),YP w h→(K w.params).In h)
    (F:∀(w:World) (mg:Str→Option Value) (fa:Addr) (h:Heap),YP w h→(K w.params).In h→h.Ns mainGlobals mg→mg d.name=some (.ref fa) →
      ∃fd:FuncData,(∀(s:Shared) (us:List Value),us.length=ps.length→BindsTo s fd ⟨us,[]⟩ (ps.zip us)) ∧
        ∀base:Heap,(K w.params).In base→base.Ns mainGlobals mg→FnOk r.prog w (K w.params) mg base (CX w) k fa fd ps (sp w))
    (hsp:∀(w:World) (H:Hp) (xs:List V) (a:Codec.denoteAll r.args),OnlyF H→Codec.withinAll r.args a=true→Codec.app r.args r.asked a=true→DwAll (K w.params) H xs (Codec.encAll r.args a) →
      sp w xs H (fun v H'=>Dw (K w.params) H' v (r.ret.enc (Codec.app r.args r.f a))) fun _ _ _=>False)
    (hCX:∀(w:World) (H:Hp) (s:Shared) (e:Value) (s':Shared),CX w [] H s (fun _ _ _=>False) e s'→False) :
    PySem.W.WalkOS q loose XP YP r d [] (fun f vs=>PySem.call f vs):=by
  intro w s_0 s₁ mg mb G Y fa o pm cd doc dV kV ho hd hcd hD hmg hg args vals as hpre hlay hrd hwl hlo
  obtain ⟨a,e1,e2⟩:=PySem.W.os_pre_some hpre
  obtain ⟨e3,hwi⟩:=Codec.encAll_of_decAll r.args args a e1
  subst e3
  have KX:=hY w _ Y
  obtain ⟨fd,hb,hF⟩:=F w mg fa _ Y KX G.T.g hmg
  refine PySem.W.enter_call (codeAny_mono (spec_call (R:=[]) (cl:=classAt s_0.heap) (d0:=r.ret.enc (Codec.app r.args r.f a)) KX G.T.g G.T.b G.T.builtins G.T.nolimit hg hwl (pl_encAll _ _) (layable_weight hlay) hr hF hb (by rw [encAll_len];exact hlen)
    (fun H xs hO hS=>hsp w H xs a hO hwi e2 hS) fun H e s'=>hCX w H s₁ e s') fun r' s' hq=>?_)
  obtain ⟨u,as',rfl,h1,h2,h3,h4⟩:=hq
  exact ⟨.inl ⟨u,_,as',rfl,fun _=>rfl,h1,(OpenSpec.post_iff hwell hwi _ _).mpr rfl,fun z=>Bool.noConfusion (show false=true from z)⟩,h2,h3,h4⟩
theorem walk_specK {r:OpenSpec} {k:Nat} {q:Program} {loose:List Str} {XP:(Str→Option Value)→Heap→Prop} {YP:World→Heap→Prop} {d:DefRec} {K:Params→PySem.W.Frag} {CX:CXT} {ps:List Str} {sp:PySem.W.Frag→Sp}
    (hwell:r.wellSaid=true) (hdf:d.params.defaults=[]) (hlen:r.args.length=ps.length) (hr:Room k callerA)
    (hY:∀(w:World) (h:Heap),YP w h→(K w.params).In h)
    (F:∀(w:World) (mg:Str→Option Value) (fa:Addr) (h:Heap),YP w h→(K w.params).In h→h.Ns mainGlobals mg→mg d.name=some (.ref fa) →
      ∃fd:FuncData,(∀(s:Shared) (us:List Value),us.length=ps.length→BindsTo s fd ⟨us,[]⟩ (ps.zip us)) ∧
        ∀base:Heap,(K w.params).In base→base.Ns mainGlobals mg→FnOk r.prog w (K w.params) mg base CX k fa fd ps (sp (K w.params)))
    (hsp:∀(K:PySem.W.Frag) (H:Hp) (xs:List V) (a:Codec.denoteAll r.args),OnlyF H→Codec.withinAll r.args a=true→Codec.app r.args r.asked a=true→DwAll K H xs (Codec.encAll r.args a) →
      sp K xs H (fun v H'=>Dw K H' v (r.ret.enc (Codec.app r.args r.f a))) fun _ _ _=>False)
    (hCX:∀(H:Hp) (s:Shared) (e:Value) (s':Shared),CX [] H s (fun _ _ _=>False) e s'→False) :
    PySem.W.WalkOS q loose XP YP r d [] (fun f vs=>PySem.call f vs) :=
  walk_spec (K:=K) (CX:=fun _=>CX) (sp:=fun w=>sp (K w.params)) hwell hdf hlen hr hY F (fun w H xs a h1 h2 h3 h4=>hsp (K w.params) H xs a h1 h2 h3 h4) fun _ H s e s'=>hCX H s e s'
end L2
end
end
section
namespace L2
open PySem PySem.Spec PyProof.Rows
def adr (mg:Str→Option Value) (x:Str):Addr:=match mg x with
  | some (.ref a)=>a
  | _=>0
def GInt (mg:Str→Option Value) (x:Str) (i:Int):Prop:=∃t,mg x=some (.int i t)
section
variable {X:Cx} {x:Str} {p pos apos:Pos}
theorem pg {i:Int} (h:GInt X.mg x i) (hg:Gl X x:=by rfl) (hd:(x == ("__debug__" : Str))=false:=by decide):PE X (.Name x pos) (tC (.int i)):=by
  obtain ⟨t,e⟩:=h
  exact pe_glob hg e ⟨t,rfl⟩ hd
theorem pgr {a:Addr} (h:X.mg x=some (.ref a)) (hg:Gl X x:=by rfl) (hd:(x == ("__debug__" : Str))=false:=by decide):PE X (.Name x pos) (tC (.ref a)):=pe_glob hg h rfl hd
end
section
variable (P:Program) (w:World) (K:PySem.W.Frag) (mg:Str→Option Value) (base:Heap)
def FnAt (f:Addr) (k:Nat) (ps:List Str) (sp:Sp):Prop:=PySem.W.keepIn K (.ref f)=true∧∃fd:FuncData,FnOk P w K mg base CX0 k f fd ps sp∧Binds K fd ps []
def Def (x:Str) (k:Nat) (ps:List Str) (sp:Sp):Prop:=∃f,mg x=some (.ref f)∧FnAt P w K mg base f k ps sp
def MDef (C:Addr) (m:Str) (k:Nat) (ps:List Str) (sp:Sp):Prop:=∃f,Meth K C m f∧FnAt P w K mg base f k ps sp
def CDef (x:Str) (C:Addr) (k:Nat) (ps:List Str) (sp:Sp):Prop:=mg x=some (.ref C)∧∃f,Mk K C f∧FnAt P w K mg base f k ps sp
end
section
variable {X:Cx} {k:Nat} {ps:List Str} {sp:Sp} {x m:Str} {C:Addr} {p pos apos:Pos} {e o:Expr} {es:List Expr} {t:TA} {ta:TE}
theorem cl (D:Def X.prog X.w X.K X.mg X.base x k ps sp) (hr:Room k X.A) (ha:PA X (e::es) t) (hg:Gl X x:=by rfl) (hdb:(x == ("__debug__" : Str))=false:=by decide)
    (he:starEach (e::es) X.env=(false,eval e X.env)::starEach es X.env:=by rfl) (hpl:(backTo pos (starEach es X.env)).any (·.1)=false:=by rfl):PE X (.Call (.Name x p) (e::es) [] pos) (tCall sp [] E0 t):=by
  obtain ⟨f,hm,hk,fd,F,hb⟩:=D
  exact pe_call F hr hg hm hk hb .nil pass0 ha hdb he hpl
theorem mth (D:MDef X.prog X.w X.K X.mg X.base C m k ps sp) (c:Cls X.K C) (hr:Room k X.A) (ho:PE X o ta) (ha:PA X (e::es) t) {pl:Sem Bool}
    (hst:starEach (e::es) X.env=(false,eval e X.env)::starEach es X.env:=by rfl) (hpl:(backTo pos (starEach es X.env)).any (·.1)=false:=by rfl)
    (ht:eval (.Call (.Attribute o m apos) (e::es) [] pos) X.env=(do
      let ov ← eval o X.env
      standAt apos.atName
      let (f,first) ← holding [ov] (getMethod ov m pl)
      callWith pos f first (backTo pos (starEach (e::es) X.env)) (backToKw pos (keywordEach [] X.env))):=by rfl) :
    PE X (.Call (.Attribute o m apos) (e::es) [] pos) (tMeth C m sp [] E0 ta t):=by
  obtain ⟨f,hm,hk,fd,F,hb⟩:=D
  exact pe_meth (pl:=pl) ho c hm F hr hb .nil pass0 ha hst hpl ht
theorem mth0 (D:MDef X.prog X.w X.K X.mg X.base C m k ps sp) (c:Cls X.K C) (hr:Room k X.A) (ho:PE X o ta) {pl:Sem Bool}
    (ht:eval (.Call (.Attribute o m apos) [] [] pos) X.env=(do
      let ov ← eval o X.env
      standAt apos.atName
      let (f,first) ← holding [ov] (getMethod ov m pl)
      callWith pos f first (backTo pos (starEach [] X.env)) (backToKw pos (keywordEach [] X.env))):=by rfl) :
    PE X (.Call (.Attribute o m apos) [] [] pos) (tMeth C m sp [] E0 ta tNil):=by
  obtain ⟨f,hm,hk,fd,F,hb⟩:=D
  exact pe_meth0 (pl:=pl) ho c hm F hr hb .nil pass0 ht
theorem mkc (D:CDef X.prog X.w X.K X.mg X.base x C k ps sp) (hr:Room (k + 1) X.A) (ha:PA X (e::es) t) (hg:Gl X x:=by rfl) (hdb:(x == ("__debug__" : Str))=false:=by decide)
    (he:starEach (e::es) X.env=(false,eval e X.env)::starEach es X.env:=by rfl) (hpl:(backTo pos (starEach es X.env)).any (·.1)=false:=by rfl):PE X (.Call (.Name x p) (e::es) [] pos) (tMake C sp [] E0 t):=by
  obtain ⟨hm,f,M,hk,fd,F,hb⟩:=D
  exact pe_make M F hr hg hm hb .nil pass0 ha hdb he hpl
theorem mkc0 (D:CDef X.prog X.w X.K X.mg X.base x C k ps sp) (hr:Room (k + 1) X.A) (hg:Gl X x:=by rfl) (hdb:(x == ("__debug__" : Str))=false:=by decide):PE X (.Call (.Name x p) [] [] pos) (tMake C sp [] E0 tNil):=by
  obtain ⟨hm,f,M,hk,fd,F,hb⟩:=D
  exact pe_make0 M F hr hg hm hb .nil pass0 hdb
end
section
variable {X:Cx} {k:Nat} {x:Str} {p pos:Pos} {e:Expr} {es:List Expr} {t:TA} {i:Nat}
theorem ld_var {E:Value→Shared→Prop} {pins:List (Addr×Obj)} {s:Shared} {σ:St} {H:Hp} {v:V} {Q:Value→Shared→Prop} (I:Inv X pins σ H s) (hN:X.N[i]? = some x) (hv:Vis X.env.scope x) (ev:σ[i]? = some (some v)) (h:∀u,RelV v u→Q u s)
    (hd:(x == ("__debug__" : Str))=false:=by decide) (hcd:(x == ("__classdict__" : Str))=false:=by decide):wpAny (model X.prog X.w) X.A (eval (.Name x p) X.env) Q E s:=by
  obtain ⟨m,hn,hl⟩:=I.loc
  obtain ⟨u,r,l⟩:=hl i x v hN ev hv
  rcases l with ⟨hk,hm⟩ | ⟨hk,c,hc,hcell⟩
  · exact wpAny_Name (wpAny_loadName_local I.ok.kind hk hn hm (h u r)) hd
  · rcases hk with hk | hk
    · exact wpAny_Name (wpAny_loadName_cell I.ok.kind hk hc hcell (h u r)) hd
    · exact wpAny_Name (wpAny_loadName_free I.ok.kind hk hc hcell (h u r) hcd) hd
theorem clv (hr:Room k X.A) (ha:PA X (e::es) t) (hN:X.N[i]? = some x:=by rfl)
    (hv:Vis X.env.scope x:=by first | exact Or.inl rfl | exact Or.inr (Or.inl rfl) | exact Or.inr (Or.inr rfl))
    (hd:(x == ("__debug__" : Str))=false:=by decide) (hcd:(x == ("__classdict__" : Str))=false:=by decide)
    (he:starEach (e::es) X.env=(false,eval e X.env)::starEach es X.env:=by rfl) (hpl:(backTo pos (starEach es X.env)).any (·.1)=false:=by rfl) :
    PE X (.Call (.Name x p) (e::es) [] pos) (fun σ H Q=>∃f,σ[i]? = some (some (.ref f))∧PySem.W.keepIn X.K (.ref f)=true∧t σ H fun vs H1=>∃(ps:List Str) (sp:Sp),FnAt X.prog X.w X.K X.mg X.base f k ps sp∧sp vs H1 Q E0):=by
  intro pins s σ H Q I h
  obtain ⟨f,ef,hkp,h⟩:=h
  refine wpAny_Call_Name_kw (ld_var I hN hv ef (fun u ru=>?_) hd hcd)
  cases (show u=Value.ref f from ru)
  refine PySem.W.callWith_K (h₀:=X.base) I.ok.mod.kin hkp (thn (ha pos pins s σ H _ I h) fun us s1 ⟨vs,H1,I1,r,q⟩=>⟨I1.kIn,?_⟩) he hpl
  obtain ⟨ps,sp,⟨_,fd,F,hb⟩,q⟩:=q
  exact run_fn F hr hb .nil pass0 I1 r (by rw [List.append_nil];exact q)
end
def KTab (K:PySem.W.Frag) (a:Addr) (k:Str) (v:V):Prop:=(a == sysModules)=false∧∃(o:Obj) (es:Array DictEntry) (ep:Nat) (u:Value),K.lookup a=some o∧o.ExactDict∧o.data=.dict es ep ∧
  (es.toList.all fun e=>isExactStrKey e.key)=true∧(es.toList.find? fun e=>e.key.isStr k).map (·.val)=some u∧RelV v u
theorem dictGet_kt {prog:Program} {w:World} {A:Around} {E:Value→Shared→Prop} {s:Shared} {a:Addr} {o:Obj} {es:Array DictEntry} {ep:Nat} {k:Str} {tk:Tok} {v:Value} {Q:Option Value→Shared→Prop}
    (ho:s.heap.get? a=some o) (hd:o.data=.dict es ep) (hall:(es.toList.all fun e=>isExactStrKey e.key)=true) (hf:(es.toList.find? fun e=>e.key.isStr k).map (·.val)=some v) (h:Q (some v) { s with toks:=s.toks + 1 }) :
    wpAny (model prog w) A (dictGet a (.str k tk)) Q E s:=by
  unfold dictGet
  try with_reducible refine wpAny_holding ?_
  refine wpAny_bind (wpAny_pyHash_str (wpAny_bind (PyProof.Rows.KTD.kt_dictFind_strs (s:={ s with toks:=s.toks + 1 }) ho hd (by obtain ⟨l⟩:=es;simpa using hall) ?_)))
  have hq:Q (findBy (fun k v=>v.isStr k) es k) { s with toks:=s.toks + 1 }:=by
    have e:findBy (fun k v=>v.isStr k) es k=(es.toList.find? fun e=>e.key.isStr k).map (·.val):=by
      obtain ⟨l⟩:=es
      simp [findBy]
    rw [e,hf]
    exact h
  rw [findBy_of_findIdx?] at hq
  cases hi:es.findIdx? fun e=>e.key.isStr k with
  | none=>rw [hi] at hq;exact wpAny_pure hq
  | some i=>rw [hi] at hq;exact wpAny_bind (wpAny_dictEntries (s:={ s with toks:=s.toks + 1 }) ho hd (wpAny_pure hq))
def rIxK (K:PySem.W.Frag):R2:=fun x y H Q=>∃a k v,x=.ref a∧y=.str k∧KTab K a k v∧Q v H
theorem pe_kix {X:Cx} {a b:Expr} {ta tb:TE} {pos:Pos} (ha:PE X a ta) (hb:PE X b tb) (hs:NoSl b):PE X (.Subscript a b pos) (tOp (rIxK X.K) ta tb):=by
  intro pins s σ H Q I h
  refine subD_of PySem.F.slot_dict_getitem.lookup hs (thn (ha pins s σ H _ I h) fun u s1 ⟨x,H1,I1,rx,q1⟩=>thn (hb pins s1 σ H1 _ I1 q1) fun iv s2 ⟨y,H2,I2,ry,aa,k,v,ex,ey,⟨hne,o,es,ep,u0,hl,hex,hdt,hall,hf,rv⟩,q2⟩=>?_)
  subst ex ey
  obtain rfl:u=Value.ref aa:=rx
  obtain ⟨tk,rfl⟩:=(show ∃t,iv=Value.str k t from ry)
  have ho:s2.heap.get? aa=some o:=I2.kIn aa o hl
  have hT:s2.TypeIs (.ref aa) "dict" := ⟨o,ho,hex.1⟩
  refine ⟨hT,?_⟩
  unfold getItem
  try with_reducible refine wpAny_holding ?_
  refine wpAny_bind (wpAny_sequenceKey hT (by decide) ?_)
  refine wpAny_bind (wpAny_callSpecial?_slot (name:=Str.ofString "__getitem__") hT slot_dict_getitem
    (wpAny_call_entry slot_dict_getitem hT entry_dict_getitem ?_ (args_dict_getitem _ _)))
  show wpAny _ _ (dictGet aa (.str k tk) >>= _) _ _ s2
  exact wpAny_bind (dictGet_kt ho hdt hall hf (wpAny_pure ⟨u0,rfl,wpAny_pure ⟨v,H2,I2.tok _,rv,q2⟩⟩))
theorem call_lenT {X:Cx}:CallR X (.builtin "len") (fun xs H Q=>∃a kvs,xs=[V.ref a]∧H a=some (.dT kvs)∧Q (.int kvs.length) H):=by
  intro pins s σ H xs us Q I r h
  obtain ⟨a,kvs,rfl,ha,q⟩:=h
  obtain ⟨u,rfl,ru⟩:=vals1 r
  cases ru
  obtain ⟨z,hd,ys,rel,dd⟩:=dt_of I.hok ha
  have hlen:kvs.length=ys.length:=Paired.length rel
  obtain ⟨o,es,ep,ho,hc,hdat,he,_,_⟩:=id dd
  have hsz:es.size=kvs.length:=by rw [hlen];exact size_of_entries he
  have hbig:=line63
  refine Calls.call_function_entry kind_len plain_len entry_len (args_len1 _) ?_
  unfold Builtin.«len»
  refine wpAny_bind (m:=oneArg "len" _) (wpAny_pure ?_)
  have hm:MeetsIn X.prog X.w (Builtin.«dict.__len__» ⟨[.ref a],[]⟩) (fun _ R s=>s.heap.get? a=some o∧R (.ok (.ret (.int kvs.length s.toks))) { s with toks:=s.toks + 1 }) :=
    .of_wp fun A R s ⟨ho',h⟩=>by
      show wpAny _ _ (dictSize a >>= _) _ _ s
      unfold dictSize
      refine wpAny_bind (wpAny_bind (wpAny_dictEntries ho' hdat (wpAny_pure ?_)))
      show wpAny _ _ (Builtin.Dict.pendingCount a >>= _) _ _ s
      refine wpAny_bind (wpAny_pendingCount_other hd ?_)
      refine wpAny_ret_mkInt ?_
      rw [Nat.add_zero,hsz];exact h
  refine wpAny_bind (m:=callSpecial? (.ref a) (Str.ofString "__len__")) (wpAny_callSpecial?_slot (name:=Str.ofString "__len__") dd.typeIs F.slot_dict_len
    (call_meetsIn F.slot_dict_len dd.typeIs F.entry_dict_len (F.args_dict_len_1 _) hm ⟨ho,?_⟩))
  show wpAny _ _ _ _ _ { s with toks:=s.toks + 1 }
  refine wpAny_bind (wpAny_holding (wpAny_pure ?_))
  refine wpAny_bind (wpAny_letGo ?_)
  show wpAny _ _ (if ((kvs.length:Nat):Int)<0 then _ else _) _ _ _
  rw [if_neg (by omega)]
  show wpAny _ _ (if ((kvs.length:Nat):Int) ≥ 2 ^ 63 then _ else _) _ _ _
  rw [if_neg (by omega)]
  exact wpAny_bind (wpAny_mkInt (wpAny_pure ⟨_,rfl,⟨.int kvs.length,H,(I.tok _),⟨_,rfl⟩,q⟩⟩))
theorem extend_tuple (l:Addr) (items:Array Value) (n:Nat) (b:Addr) (items2:Array Value) (n2:Nat) (dd:Option Addr) (sl:Array (Option Value)) (hs0:¬(!items.isEmpty && Builtin.List.listTooLong (items.size + items2.size))=true) (hs1:items.size≤sizeLine) (hs2:items.size + items2.size≤sizeLine + 1) :
    Meets (Builtin.«list.extend» ⟨[.ref l,.ref b],[]⟩) (fun _ R s=>s.heap.get? l=some { cls:=.type "list", dict:=none,data:=.seq items n,slots:=#[] }∧s.heap.get? b=some { cls:=.type "tuple", dict:=dd,data:=.seq items2 n2,slots:=sl }∧R (.ok (.ret Value.none)) { s with heap:=s.heap.update l (Obj.mapSeq fun x=>x++items2),toks:=s.toks }) :=
  .of_wp fun prog w A R s h=>by
    obtain ⟨hp,g,d,tk,os⟩:=s;obtain ⟨hl,hb,h⟩:=h
    have f1:=AutoSeq1.idx_int;have f2:=AutoSeq1.sub_tuple_tuple;have f3:=AutoSeq1.sub_list_list;have f4:=AutoSeq1.sub_tuple_list;have f5:=AutoSeq1.sub_list_tuple
    have hz':(items++items2).size≤sizeLine + 1:=by rw [Array.size_append];exact hs2
    wp_walk using (wpAny_updateSeq hl rfl (hz:=hs1) (_hz':=hz')),AutoSeq1.wpAny_loadPart' hl,AutoSeq1.wpAny_loadPart' hb;exact ⟨_,rfl,h⟩
def rExtendT (K:PySem.W.Frag):V→List V→Hp→VK→Prop:=fun x vs H Q=>∃l b xs zs,x=.ref l∧vs=[.ref b]∧H l=some (.lst xs)∧SqT K H b zs∧xs.length + zs.length≤sizeLine∧Q .non (upd H l (.lst (xs++zs)))
theorem mt_extendT {X:Cx}:MtM X "list.extend" (rExtendT X.K):=by
  intro pins s σ H x vs v us Q I rx rv h
  obtain ⟨l,b,xs,zs,rfl,rfl,hH,hB,hz,q⟩:=h
  cases rx
  obtain ⟨u,rfl,ru⟩:=rv.one
  cases ru
  obtain ⟨z,its,n,r,hl,e⟩:=I.lstM hH
  obtain ⟨its2,r2,⟨⟨c2,dd,dat,sl⟩,e2,hc2,n2,hd2⟩,z2⟩:=I.tuple hB
  simp only at hc2 hd2
  subst hc2 hd2
  have hl2:=r2.length
  have hsz:its.toArray.size + its2.toArray.size≤sizeLine:=by rw [List.size_toArray,List.size_toArray];omega
  have hlong:¬ (!its.toArray.isEmpty && Builtin.List.listTooLong (its.toArray.size + its2.toArray.size))=true:=by
    rw [notLongL hsz,Bool.and_false]
    exact Bool.false_ne_true
  refine call_meets F.slot_list_extend ⟨_,e,rfl⟩ F.entry_list_extend (F.args_list_extend_2 _ _)
    (extend_tuple l its.toArray n b its2.toArray n2 dd sl hlong (by rw [List.size_toArray];omega) (by omega)) ⟨e,e2,?_⟩
  refine ⟨.non,_,I.lset (its':=its++its2) hH e (by simp) (r.append r2) ?_,rfl,q⟩
  rw [List.length_append]
  omega
open Classical in
theorem in_data {X:Cx} {pins:List (Addr×Obj)} {σ:St} {H:Hp} {s:Shared} {x:V} {v:Value} {xs:List V} {its:List Value} {ds:List PyData} {d:PyData} (hu:X.A.units + 70<cLine) (I:Inv X pins σ H s) (rx:RelV x v) (r:Vals xs its)
    (hd:Dp X.K H x d) (hds:DpAll X.K H xs ds) (sd:SeqAt.shaped d=true) (sds:∀y∈ds,SeqAt.shaped y=true) :
    ∃e:Value→Bool,(∀y,y∈its.toArray→SeqAt.EqAt X.A.in1 s y v (e y))∧its.toArray.any e=ds.any fun y=>PyData.eqv y d:=by
  obtain ⟨as,r0⟩:=Dp.reads I d x v hd rx
  have one:∀(j:Nat) (y:Value),its[j]? = some y→∃dj,ds[j]? = some dj∧SeqAt.EqAt X.A.in1 s y v (PyData.eqv dj d):=by
    clear r0
    induction r generalizing ds with
    | nil=>intro j y h;simp at h
    | @cons a b l1 l2 rab rl ih =>
      cases hds with
      | @cons _ _ dh dt h1 h2 =>
        intro j y h
        cases j with
        | zero =>
          simp only [List.getElem?_cons_zero,Option.some.injEq] at h
          subst h
          obtain ⟨as1,r1⟩:=Dp.reads I dh a b h1 rab
          obtain ⟨as,r0⟩:=Dp.reads I d x v hd rx
          have sh:=sds dh List.mem_cons_self
          exact ⟨dh,rfl,SeqAt.eqAt_reads dh d X.A.in1 s b v _ _ r1 r0 (SeqAt.canLay_of_shaped sh) (SeqAt.canLay_of_shaped sd) (SeqAt.room_of_shaped sh (by show X.A.units + 1 + 64<cLine;omega))⟩
        | succ j =>
          obtain ⟨dj,e1,e2⟩:=ih h2 (fun y hy=>sds y (List.mem_cons_of_mem _ hy)) j y (by simpa using h)
          exact ⟨dj,by simpa using e1,e2⟩
  have hlen:its.length=ds.length:=by
    have:∀{xs:List V} {ds:List PyData},DpAll X.K H xs ds→xs.length=ds.length:=by
      intro xs ds h
      induction xs generalizing ds with
      | nil=>cases h;rfl
      | cons a l ih=>cases h with | cons _ h2=>rw [List.length_cons,List.length_cons,ih h2]
    rw [← this hds,r.length]
  refine ⟨fun y=>decide (∃(j:Nat) (dj:PyData),its[j]? = some y∧ds[j]? = some dj∧PyData.eqv dj d=true),fun y hy=>?_,?_⟩
  · by_cases h:∃(j:Nat) (dj:PyData),its[j]? = some y∧ds[j]? = some dj∧PyData.eqv dj d=true
    · dsimp only
      rw [decide_eq_true h]
      obtain ⟨j,dj,h1,h2,h3⟩:=h
      obtain ⟨dj',h4,h5⟩:=one j y h1
      rw [h2] at h4
      cases h4
      rw [h3] at h5
      exact h5
    · dsimp only
      rw [decide_eq_false h]
      obtain ⟨j,hj⟩:=List.mem_iff_getElem?.mp (show y∈its by simpa using hy)
      obtain ⟨dj,h4,h5⟩:=one j y hj
      cases e:PyData.eqv dj d with
      | false=>rw [e] at h5;exact h5
      | true=>exact absurd ⟨j,dj,hj,h4,e⟩ h
  · rw [Bool.eq_iff_iff,Array.any_eq_true',List.any_eq_true]
    constructor
    · rintro ⟨y,_,h⟩
      obtain ⟨j,dj,_,h2,h3⟩:=of_decide_eq_true h
      exact ⟨dj,List.mem_of_getElem? h2,h3⟩
    · rintro ⟨dj,hm,h3⟩
      obtain ⟨j,hj⟩:=List.mem_iff_getElem?.mp hm
      have hlt:j<its.length:=by rw [hlen];exact (List.getElem?_eq_some_iff.mp hj).1
      exact ⟨its[j],by simp,decide_eq_true ⟨j,dj,List.getElem?_eq_getElem hlt,hj,h3⟩⟩
def rInD (K:PySem.W.Frag) (neg:Bool):R2:=fun x y H Q=>∃p xs ds d,y=.ref p∧SqL K H p xs∧DpAll K H xs ds∧Dp K H x d∧SeqAt.shaped d=true∧(∀z∈ds,SeqAt.shaped z=true) ∧
  Q (.bl (if neg then !(ds.any fun z=>PyData.eqv z d) else ds.any fun z=>PyData.eqv z d)) H
theorem op_in_tups {X:Cx} (hu:X.A.units + 70<cLine):OpR X (compareOp .In) (rInD X.K false):=by
  intro pins s σ H x y v u Q I rx ry h
  obtain ⟨p,xs,ds,d,rfl,hq,hds,hd,sd,sds,q⟩:=h
  cases ry
  obtain ⟨its,r,pl,hz⟩:=I.list hq
  obtain ⟨e,he,ea⟩:=in_data hu I rx r hd hds sd sds
  refine SeqAt.in_listAt e pl.isList he ⟨.bl _,H,I,rfl,?_⟩
  rw [ea]
  exact q
theorem op_notIn_tups {X:Cx} (hu:X.A.units + 70<cLine):OpR X (compareOp .NotIn) (rInD X.K true):=by
  intro pins s σ H x y v u Q I rx ry h
  obtain ⟨p,xs,ds,d,rfl,hq,hds,hd,sd,sds,q⟩:=h
  cases ry
  obtain ⟨its,r,pl,hz⟩:=I.list hq
  obtain ⟨e,he,ea⟩:=in_data hu I rx r hd hds sd sds
  refine SeqAt.notIn_listAt e pl.isList he ⟨.bl _,H,I,rfl,?_⟩
  rw [ea]
  exact q
end L2
end
section
namespace L2
open PySem PySem.Spec PyProof.Rows
section
variable {prog:Program} {w:World} {A:Around} {E:Value→Shared→Prop} {s:Shared}
theorem tupNext {it tu:Addr} {k:Nat} {xs} {x:Value} {Q:Value→Shared→Prop} (i0:s.heap.IsTupleIter it tu k) (t0:s.heap.IsTuple tu xs) (hx:xs[k]? = some x)
    (go:∀g,g.IsTupleIter it tu (k + 1)→Heap.SameBut it s.heap g→Q x { s with heap:=g }):wpAny (model prog w) A (Builtin.SmallTypes.nextOf (.ref it)) Q E s:=by
  obtain ⟨o,e1,e2,e3⟩:=id i0
  obtain ⟨ot,e4,_,nt,e5⟩:=t0
  unfold Builtin.SmallTypes.nextOf
  refine wpAny_bind (wpAny_callSpecial?_slot (name:=Str.ofString "__next__") i0.typeIs F.slot_tuple_iterator_next (wpAny_call_entry F.slot_tuple_iterator_next i0.typeIs F.entry_tuple_iterator_next ?_ (F.args_tuple_iterator_next_1 _)))
  show wpAny _ _ (field (.ref it) 0 >>= _) _ _ s
  refine wpAny_bind (wpAny_field e1 e3 (x:=.ref tu) rfl ?_)
  show wpAny _ _ (if (Value.ref tu == Value.none)=true then _ else _) _ _ s
  rw [if_neg (show ¬ ((Value.ref tu == Value.none)=true) from Bool.false_ne_true)]
  show wpAny _ _ (field (.ref it) 1 >>= _) _ _ s
  refine wpAny_bind (wpAny_field e1 e3 (x:=.int k 0) rfl ?_)
  show wpAny _ _ (seqItems? (.ref tu) >>= _) _ _ s
  refine wpAny_bind (wpAny_seqItems e4 e5 ?_)
  simp only [Int.toNat_natCast,hx]
  refine wpAny_bind (wpAny_setField e1 e3 (by simp) (wpAny_pure ⟨x,rfl,wpAny_pure (go _ ?_ (Heap.SameBut.update ..))⟩))
  exact ⟨_,Heap.get?_update_self _ e1 (Obj.isFreed_of_fields (Obj.data_mapFields e3 _)),(Obj.cls_mapFields ..).trans e2,by
    rw [Obj.data_mapFields e3];simp [rawInt]⟩
theorem tupNextEnd {it tu:Addr} {k:Nat} {xs} {Q:Value→Shared→Prop} (hh:A.handled=none) (i0:s.heap.IsTupleIter it tu k) (t0:s.heap.IsTuple tu xs) (hx:xs[k]? = none)
    (go:∀g e,Heap.ExtBut it s.heap g→(∃o,g.get? e=some o∧o.cls=.type "StopIteration")→E (.ref e) { s with heap:=g }):wpAny (model prog w) A (Builtin.SmallTypes.nextOf (.ref it)) Q E s:=by
  obtain ⟨o,e1,e2,e3⟩:=id i0
  obtain ⟨ot,e4,_,nt,e5⟩:=t0
  unfold Builtin.SmallTypes.nextOf
  refine wpAny_bind (wpAny_callSpecial?_slot (name:=Str.ofString "__next__") i0.typeIs F.slot_tuple_iterator_next (wpAny_call_entry F.slot_tuple_iterator_next i0.typeIs F.entry_tuple_iterator_next ?_ (F.args_tuple_iterator_next_1 _)))
  show wpAny _ _ (field (.ref it) 0 >>= _) _ _ s
  refine wpAny_bind (wpAny_field e1 e3 (x:=.ref tu) rfl ?_)
  show wpAny _ _ (if (Value.ref tu == Value.none)=true then _ else _) _ _ s
  rw [if_neg (show ¬ ((Value.ref tu == Value.none)=true) from Bool.false_ne_true)]
  show wpAny _ _ (field (.ref it) 1 >>= _) _ _ s
  refine wpAny_bind (wpAny_field e1 e3 (x:=.int k 0) rfl ?_)
  show wpAny _ _ (seqItems? (.ref tu) >>= _) _ _ s
  refine wpAny_bind (wpAny_seqItems e4 e5 ?_)
  simp only [Int.toNat_natCast,hx]
  refine wpAny_bind (wpAny_rule (wpAny_bind (wpAny_setField e1 e3 (by simp) ?_)))
  show wpAny _ _ (newExc (.type "StopIteration") [] >>= _) _ _ _
  refine wpAny_bind ?_
  simp only [newExc,newTuple]
  refine wpAny_bind (wpAny_newObj_type ?_ (by size_fits))
  refine wpAny_bind (m:=firstArgMember _ _) (wpAny_of_eq (a:=Value.none) (by first | rfl | (simp only [firstArgMember];rfl)) ?_)
  refine wpAny_newObj_type ?_ (by size_fits)
  simp only [raiseNew]
  refine wpAny_bind (wpAny_handled ?_)
  first | rw [show A.in1.handled=none from hh] | rw [hh]
  refine wpAny_bind (wpAny_pure (wpAny_throw ?_))
  exact go _ _ (((Heap.SameBut.update ..).extBut.push _).push _) ⟨_,Heap.get?_push_size _ rfl,rfl⟩
theorem zipTItem {z TI TO i1 i2 l1 l2:Addr} {k1 k2:Nat} {xs ys:Array Value} {x y a b:Value} {Q:Option Value→Shared→Prop} (D:ZipApart z TI TO i1 i2 l1 l2)
    (hz:IsZip s.heap z TI TO .none) (hTI:IsPair s.heap TI (.ref i1) (.ref i2)) (hTO:IsPair s.heap TO a b)
    (h1:s.heap.IsTupleIter i1 l1 k1) (h2:s.heap.IsListIter i2 l2 k2) (hl1:s.heap.IsTuple l1 xs) (hl2:s.heap.IsList l2 ys) (hx:xs[k1]? = some x) (hy:ys[k2]? = some y)
    (go:∀g,IsZip g z TI TO (rawInt s.heap.objs.size)→IsPair g TO x y→g.IsTupleIter i1 l1 (k1 + 1)→g.IsListIter i2 l2 (k2 + 1)→IsPair g s.heap.objs.size x y→g.objs.size=s.heap.objs.size + 1 →
      (∀c o,c≠z→c≠TO→c≠i1→c≠i2→s.heap.get? c=some o→g.get? c=some o)→Q (some (.ref s.heap.objs.size)) { s with heap:=g }) :
    wpAny (model prog w) A (pyNext (.ref z)) Q E s:=by
  have hT:s.TypeIs (.ref z) "zip" := ⟨_,hz,rfl⟩
  unfold pyNext
  refine wpAny_bind (wpAny_attempt (wpAny_callSpecial?_slot (name:=Str.ofString "__next__") hT F.slot_zip_next (wpAny_call_entry F.slot_zip_next hT F.entry_zip_next ?_ (F.args_zip_next_1 _))))
  show wpAny _ _ (field (.ref z) 2 >>= _) _ _ _
  refine wpAny_bind (wpAny_field hz rfl (x:=.bool false) rfl ?_)
  show wpAny _ _ (field (.ref z) 3 >>= _) _ _ _
  refine wpAny_bind (wpAny_field hz rfl (x:=.ref TI) rfl ?_)
  refine wpAny_bind (wpAny_seqItems hTI rfl ?_)
  show wpAny _ _ (Builtin.SmallTypes.ownedTupleIsFree (.ref z) >>= _) _ _ _
  refine wpAny_bind ?_
  unfold Builtin.SmallTypes.ownedTupleIsFree
  refine wpAny_bind (wpAny_field hz rfl (x:=.none) rfl (wpAny_pure ?_))
  simp only [if_true]
  refine wpAny_bind (wpAny_rule ?_)
  refine wpAny_bind (wpAny_field hz rfl (x:=.ref TO) rfl ?_)
  refine wpAny_bind (wpAny_setField_rec hz (by simp) fun g1 hz1 s1=>?_)
  replace hz1:IsZip g1 z TI TO .ellipsis:=hz1
  refine wpAny_bind ?_
  simp only [List.zipIdx_cons,List.zipIdx_nil,List.forIn_cons,List.forIn_nil]
  refine wpAny_bind (wpAny_bind (wpAny_onRaise ?_))
  show wpAny _ _ (Builtin.SmallTypes.nextOf (.ref i1) >>= _) _ _ _
  refine wpAny_bind (tupNext (h1.extBut s1.extBut D.i1z) (hl1.extBut s1.extBut D.l1z) hx fun g2 h12 s2=>wpAny_pure ?_)
  have hTO2:IsPair g2 TO a b:=s2.extBut _ _ D.TOi1 (s1.extBut _ _ D.TOz hTO)
  refine wpAny_bind (wpAny_seqItems hTO2 rfl ?_)
  refine wpAny_bind (wpAny_updateSeq_pair hTO2 fun g3 hTO3 s3=>?_)
  replace hTO3:IsPair g3 TO x b:=hTO3
  refine wpAny_bind (wpAny_letGo (wpAny_pure ?_))
  refine wpAny_bind (wpAny_bind (wpAny_onRaise ?_))
  show wpAny _ _ (Builtin.SmallTypes.nextOf (.ref i2) >>= _) _ _ _
  refine wpAny_bind (wpAny_nextOf_list_item (((h2.extBut s1.extBut D.i2z).extBut s2.extBut D.i12.symm).extBut s3.extBut D.TOi2.symm)
    (((hl2.extBut s1.extBut D.l2z).extBut s2.extBut D.l2i1).extBut s3.extBut D.l2TO) hy fun g4 h24 s4=>wpAny_pure ?_)
  have hTO4:IsPair g4 TO x b:=s4.extBut _ _ D.TOi2 hTO3
  refine wpAny_bind (wpAny_seqItems hTO4 rfl ?_)
  refine wpAny_bind (wpAny_updateSeq_pair hTO4 fun g5 hTO5 s5=>?_)
  replace hTO5:IsPair g5 TO x y:=hTO5
  refine wpAny_bind (wpAny_letGo (wpAny_pure (wpAny_pure ?_)))
  refine wpAny_bind (wpAny_seqItems hTO5 rfl ?_)
  refine wpAny_bind (wpAny_newTuple ?_)
  have sz5:g5.objs.size=s.heap.objs.size:=by rw [s5.1,s4.1,s3.1,s2.1,s1.1]
  have hz5:IsZip g5 z TI TO .ellipsis:=s5.extBut _ _ D.TOz.symm (s4.extBut _ _ D.i2z.symm (s3.extBut _ _ D.TOz.symm (s2.extBut _ _ D.i1z.symm hz1)))
  have k5:∀c o,c≠z→c≠TO→c≠i1→c≠i2→s.heap.get? c=some o→g5.get? c=some o:=fun c o c1 c2 c3 c4 e =>
    s5.extBut _ _ c2 (s4.extBut _ _ c4 (s3.extBut _ _ c2 (s2.extBut _ _ c3 (s1.extBut _ _ c1 e))))
  have h15:g5.IsTupleIter i1 l1 (k1 + 1):=((h12.extBut s3.extBut D.TOi1.symm).extBut s4.extBut D.i12).extBut s5.extBut D.TOi1.symm
  have h25:g5.IsListIter i2 l2 (k2 + 1):=h24.extBut s5.extBut D.TOi2.symm
  have zlt:z<g5.objs.size:=Heap.lt_size hz5
  show wpAny _ _ (Builtin.SmallTypes.ownedTupleHandOut (.ref z) (.ref g5.objs.size) >>= _) _ _ _
  refine wpAny_bind ?_
  unfold Builtin.SmallTypes.ownedTupleHandOut
  have hz6:IsZip (g5.push { cls:=.type "tuple", data:=.seq #[x,y] }) z TI TO .ellipsis:=Heap.get?_push_of_some _ hz5
  refine wpAny_bind (wpAny_setField_rec hz6 (by simp) fun g7 hz7 s7=>?_)
  replace hz7:IsZip g7 z TI TO (rawInt g5.objs.size):=hz7
  refine wpAny_setField_rec hz7 (by simp) fun g8 hz8 s8=>?_
  replace hz8:IsZip g8 z TI TO (rawInt g5.objs.size):=hz8
  have up:∀c o,c≠z→g5.get? c=some o→g8.get? c=some o:=fun c o c1 e=>s8.extBut _ _ c1 (s7.extBut _ _ c1 (Heap.get?_push_of_some _ e))
  have hT8:IsPair g8 g5.objs.size x y:=s8.extBut _ _ (Nat.ne_of_gt zlt) (s7.extBut _ _ (Nat.ne_of_gt zlt) (Heap.get?_push_size _ rfl))
  have sz8:g8.objs.size=g5.objs.size + 1:=by rw [s8.1,s7.1,Heap.size_push]
  rw [sz5] at hz8 hT8 sz8
  refine wpAny_pure ⟨_,rfl,wpAny_pure ?_⟩
  show Q (some (.ref g5.objs.size)) _
  rw [sz5]
  exact go g8 hz8 (up _ _ D.TOz hTO5) (let ⟨o,ho,r⟩:=h15;⟨o,up _ o D.i1z ho,r⟩) (h25.at fun o e=>up _ o D.i2z e) hT8 sz8 fun c o c1 c2 c3 c4 e=>up c o c1 (k5 c o c1 c2 c3 c4 e)
theorem zipTEnd {z TI TO i1 i2 l1 l2:Addr} {k1:Nat} {xs:Array Value} {a b:Value} {Q:Option Value→Shared→Prop} (hh:A.handled=none) (D:ZipApart z TI TO i1 i2 l1 l2)
    (hz:IsZip s.heap z TI TO .none) (hTI:IsPair s.heap TI (.ref i1) (.ref i2)) (hTO:IsPair s.heap TO a b)
    (h1:s.heap.IsTupleIter i1 l1 k1) (hl1:s.heap.IsTuple l1 xs) (hx:xs[k1]? = none)
    (go:∀g,(∀c o,c≠z→c≠TO→c≠i1→c≠i2→s.heap.get? c=some o→g.get? c=some o)→Q none { s with heap:=g }) :
    wpAny (model prog w) A (pyNext (.ref z)) Q E s:=by
  have hT:s.TypeIs (.ref z) "zip" := ⟨_,hz,rfl⟩
  unfold pyNext
  refine wpAny_bind (wpAny_attempt (wpAny_callSpecial?_slot (name:=Str.ofString "__next__") hT F.slot_zip_next (wpAny_call_entry F.slot_zip_next hT F.entry_zip_next ?_ (F.args_zip_next_1 _))))
  show wpAny _ _ (field (.ref z) 2 >>= _) _ _ _
  refine wpAny_bind (wpAny_field hz rfl (x:=.bool false) rfl ?_)
  show wpAny _ _ (field (.ref z) 3 >>= _) _ _ _
  refine wpAny_bind (wpAny_field hz rfl (x:=.ref TI) rfl ?_)
  refine wpAny_bind (wpAny_seqItems hTI rfl ?_)
  show wpAny _ _ (Builtin.SmallTypes.ownedTupleIsFree (.ref z) >>= _) _ _ _
  refine wpAny_bind ?_
  unfold Builtin.SmallTypes.ownedTupleIsFree
  refine wpAny_bind (wpAny_field hz rfl (x:=.none) rfl (wpAny_pure ?_))
  simp only [if_true]
  refine wpAny_bind (wpAny_rule ?_)
  refine wpAny_bind (wpAny_field hz rfl (x:=.ref TO) rfl ?_)
  refine wpAny_bind (wpAny_setField_rec hz (by simp) fun g1 hz1 s1=>?_)
  replace hz1:IsZip g1 z TI TO .ellipsis:=hz1
  refine wpAny_bind ?_
  simp only [List.zipIdx_cons,List.zipIdx_nil,List.forIn_cons,List.forIn_nil]
  refine wpAny_bind (wpAny_bind (wpAny_onRaise ?_))
  show wpAny _ _ (Builtin.SmallTypes.nextOf (.ref i1) >>= _) _ _ _
  refine wpAny_bind (tupNextEnd hh (h1.extBut s1.extBut D.i1z) (hl1.extBut s1.extBut D.l1z) hx fun g2 e s2 he=>?_)
  obtain ⟨oe,hoe,hce⟩:=he
  have hz2:IsZip g2 z TI TO .ellipsis:=s2 _ _ D.i1z.symm hz1
  have hez:e≠z:=fun q=>by subst q;rw [hz2] at hoe;cases hoe;simp at hce
  refine wpAny_setField_rec hz2 (by simp) fun g3 _ s3=>?_
  refine wpAny_bind (wpAny_isInstance (T:="StopIteration") (b:=true) ⟨oe,s3.extBut _ _ hez hoe,hce⟩ isSubtype_stop ?_)
  exact wpAny_pure (go _ fun c o c1 _ c3 _ q=>s3.extBut _ _ c1 (s2 _ _ c3 (s1.extBut _ _ c1 q)))
abbrev zT1 (h:Heap) (l1:Addr):Heap:=h.push { cls:=.type "tuple_iterator", data:=.fields #[.ref l1,.int 0 0] }
abbrev zT2 (h:Heap) (l1 l2:Addr):Heap:=(zT1 h l1).push { cls:=.type "list_iterator", data:=.fields #[.ref l2,.int 0 0] }
abbrev zT3 (h:Heap) (l1 l2:Addr):Heap:=(zT2 h l1 l2).push { cls:=.type "tuple", data:=.seq #[.ref h.objs.size,.ref (zT1 h l1).objs.size] }
abbrev zT4 (h:Heap) (l1 l2:Addr):Heap:=(zT3 h l1 l2).push { cls:=.type "tuple", data:=.seq #[.none,.none] }
abbrev zT5 (h:Heap) (l1 l2:Addr):Heap:=(zT4 h l1 l2).push { cls:=.type "zip", data:=.fields #[.none,.bool false,.bool false,.ref (zT2 h l1 l2).objs.size,.ref (zT3 h l1 l2).objs.size] }
theorem meets_zipT (l1 l2:Addr) (xs ys:Array Value) :
    Meets (Builtin.«zip.__new__» ⟨[.type "zip", .ref l1,.ref l2],[]⟩) (fun _ R s=>s.heap.IsTuple l1 xs∧s.heap.IsList l2 ys∧R (.ok (.ret (.ref (zT4 s.heap l1 l2).objs.size))) { s with heap:=zT5 s.heap l1 l2 }) :=
  .of_wp fun prog w A R s h=>by
    obtain ⟨hp,g,d,tk,os⟩:=s;obtain ⟨t1,t2,h⟩:=h
    have hsub:=sub_zip
    have hL1:Heap.IsTuple (Shared.heap ⟨hp,g,d,tk,os⟩) l1 xs:=t1
    have hL2:Heap.IsList (Shared.heap ⟨hp.push { cls:=.type "tuple_iterator", data:=.fields #[.ref l1,.int 0 0] },g,d,tk,os⟩) l2 ys:=Heap.IsList.push t2 _
    wp_walk using wpAny_pyIter_tuple hL1,wpAny_pyIter_list hL2
    exact ⟨_,rfl,h⟩
theorem call_zipT {l1 l2:Addr} {xs ys:Array Value} {Q:Value→Shared→Prop} (t1:s.heap.IsTuple l1 xs) (t2:s.heap.IsList l2 ys)
    (go:∀g,IsZip g (s.heap.objs.size + 4) (s.heap.objs.size + 2) (s.heap.objs.size + 3) .none→IsPair g (s.heap.objs.size + 2) (.ref s.heap.objs.size) (.ref (s.heap.objs.size + 1)) →
      IsPair g (s.heap.objs.size + 3) .none .none→g.IsTupleIter s.heap.objs.size l1 0→g.IsListIter (s.heap.objs.size + 1) l2 0→g.objs.size=s.heap.objs.size + 5 →
      (∀c o,s.heap.get? c=some o→g.get? c=some o)→Q (.ref (s.heap.objs.size + 4)) { s with heap:=g }) :
    wpAny (model prog w) A (call (.type "zip") [.ref l1,.ref l2]) Q E s:=by
  refine callType_new F.called_zip (by decide) (F.typeCall_zip_2 _ _) (F.newCall_zip_2 _ _) (fun obj=>F.args_object_init_3 obj _ _) F.entry_zip_new (meets_zipT l1 l2 xs ys) ⟨t1,t2,?_⟩
  have z1:(zT1 s.heap l1).objs.size=s.heap.objs.size + 1:=Heap.size_push ..
  have z2:(zT2 s.heap l1 l2).objs.size=s.heap.objs.size + 2:=by rw [Heap.size_push,z1]
  have z3:(zT3 s.heap l1 l2).objs.size=s.heap.objs.size + 3:=by rw [Heap.size_push,z2]
  have z4:(zT4 s.heap l1 l2).objs.size=s.heap.objs.size + 4:=by rw [Heap.size_push,z3]
  have z5:(zT5 s.heap l1 l2).objs.size=s.heap.objs.size + 5:=by rw [Heap.size_push,z4]
  have g5:(zT5 s.heap l1 l2).get? (zT4 s.heap l1 l2).objs.size=some _:=Heap.get?_push_size _ rfl
  have g4:(zT5 s.heap l1 l2).get? (zT3 s.heap l1 l2).objs.size=some _:=Heap.get?_push_of_some _ (Heap.get?_push_size _ rfl)
  have g3:(zT5 s.heap l1 l2).get? (zT2 s.heap l1 l2).objs.size=some _:=Heap.get?_push_of_some _ (Heap.get?_push_of_some _ (Heap.get?_push_size _ rfl))
  have g2:(zT5 s.heap l1 l2).get? (zT1 s.heap l1).objs.size=some _:=Heap.get?_push_of_some _ (Heap.get?_push_of_some _ (Heap.get?_push_of_some _ (Heap.get?_push_size _ rfl)))
  have g1:(zT5 s.heap l1 l2).get? s.heap.objs.size=some _:=Heap.get?_push_of_some _ (Heap.get?_push_of_some _ (Heap.get?_push_of_some _ (Heap.get?_push_of_some _ (Heap.get?_push_size _ rfl))))
  show _∧_
  rw [z2,z3,z4] at g5
  rw [z1,z2] at g3
  rw [z3] at g4
  rw [z1] at g2
  rw [z4]
  exact ⟨⟨_,g5,rfl⟩,go _ g5 g3 g4 ⟨_,g1,rfl,rfl⟩ ⟨_,g2,rfl,rfl⟩ z5 fun c o q =>
    Heap.get?_push_of_some _ (Heap.get?_push_of_some _ (Heap.get?_push_of_some _ (Heap.get?_push_of_some _ (Heap.get?_push_of_some _ q))))⟩
end
def ItzT (K:PySem.W.Frag) (a b:Addr):It :=
  ⟨fun i H=>∃(xs ys:List V) (x y:V),SqT K H a xs∧SqL K H b ys∧xs[i]? = some x∧ys[i]? = some y,
    fun i H v H'=>∃T x y,v=.ref T∧H T=none∧H' = upd H T (.tup [x,y])∧(∀xs,SqT K H a xs→xs[i]? = some x)∧∀ys,SqL K H b ys→ys[i]? = some y,
    fun i H=>∃xs:List V,SqT K H a xs∧xs.length≤i⟩
theorem turn_zipT {P:Program} {w:World} {K:PySem.W.Frag} {elts:List Expr} {kk:Nat} {tpos:Pos} {a b z TI TO i1 i2:Addr} (D:ZipApart z TI TO i1 i2 a b) :
    Turn P w K (.Tuple elts kk tpos) (ItzT K a b) [z,TI,TO,i1,i2] z (fun i h=>IsZip h z TI TO .none∧IsPair h TI (.ref i1) (.ref i2)∧(∃x y,IsPair h TO x y)∧h.IsTupleIter i1 a i∧h.IsListIter i2 b i) where
  mem:=by simp
  obj:=fun i h st c hc=>by
    obtain ⟨hz,hTI,⟨x,y,hTO⟩,⟨o1,e1,_,d1⟩,⟨o2,e2,_,d2⟩⟩:=st
    have e':c=z∨c=TI∨c=TO∨c=i1∨c=i2:=by simpa using hc
    rcases e' with q | q | q | q | q
    · rw [q];exact ⟨_,hz,fun v q=>nomatch q⟩
    · rw [q];exact ⟨_,hTI,fun v q=>nomatch q⟩
    · rw [q];exact ⟨_,hTO,fun v q=>nomatch q⟩
    · rw [q];exact ⟨o1,e1,fun v q=>by rw [d1] at q;cases q⟩
    · rw [q];exact ⟨o2,e2,fun v q=>by rw [d2] at q;cases q⟩
  keep:=fun i h h' st k=>by
    obtain ⟨hz,hTI,⟨x,y,hTO⟩,⟨o1,q1,r1⟩,h2⟩:=st
    exact ⟨k z (by simp) _ hz,k TI (by simp) _ hTI,⟨x,y,k TO (by simp) _ hTO⟩,⟨o1,k i1 (by simp) o1 q1,r1⟩,h2.at fun o q=>k i2 (by simp) o q⟩
  item:=by
    intro X hP hw hK hc i pins s σ H E I hf st hg
    subst hP hw hK
    obtain ⟨hz,hTI,⟨x0,y0,hTO⟩,h1,h2⟩:=st
    obtain ⟨xs,ys,x,y,hqx,hqy,hx,hy⟩:=hg
    obtain ⟨its,rv,p,_⟩:=I.tuple hqx
    obtain ⟨its2,rv2,p2,_⟩:=I.list hqy
    obtain ⟨u,hu,ru⟩:=rv.get hx
    obtain ⟨u2,hu2,ru2⟩:=rv2.get hy
    have hzl:z<s.heap.objs.size:=Heap.lt_size hz
    refine zipTItem D hz hTI hTO h1 h2 (show s.heap.IsTuple a its.toArray from p) p2.isList (x:=u) (y:=u2) (by simpa using hu) (by simpa using hu2) fun h' z' TO' h1' h2' hT hsz hk=>?_
    refine ⟨_,rfl,wpAny_letOwnedTupleGo_zip (s:={ s with heap:=h' }) z' fun h'' z'' sb=>?_⟩
    have hT2:h''.get? s.heap.objs.size=some { cls:=.type "tuple", data:=.seq #[u,u2] }:=(sb.2 _ (Nat.ne_of_gt hzl)).trans hT
    have new:ObjOk X.prog X.w (upd H s.heap.objs.size (.tup [x,y])) h'' s.heap.objs.size (.tup [x,y]) :=
      ⟨by show 2≤sizeLine;decide,[u,u2],.cons ru (.cons ru2 .nil),⟨_,hT2,rfl,_,rfl⟩⟩
    have I1:Inv X pins σ (upd H s.heap.objs.size (.tup [x,y])) { s with heap:=h'' } :=
      I.turnedNew (t':=s.toks) (ch:=[z,TI,TO,i1,i2]) (fun c o hb q=>(sb.2 c (fun q'=>hb (by simp [q']))).trans (hk c o (fun q'=>hb (by simp [q'])) (fun q'=>hb (by simp [q'])) (fun q'=>hb (by simp [q'])) (fun q'=>hb (by simp [q'])) q)) hf (Nat.le_refl _) new
    refine ⟨.ref s.heap.objs.size,_,I1,rfl,⟨_,x,y,rfl,I.hok.fresh (Nat.le_refl _),rfl,fun l hl=>by rw [I.tuple_inj hl hqx];exact hx,fun l hl=>by rw [I.list_inj hl hqy];exact hy⟩,⟨z'',?_,⟨u,u2,?_⟩,?_,?_⟩,fun c hcm=>?_⟩
    · exact (sb.2 _ D.TIz).trans (hk _ _ D.TIz D.TITO D.TIi1 D.TIi2 hTI)
    · exact (sb.2 _ D.TOz).trans TO'
    · exact let ⟨o1,q1,r1⟩:=h1';⟨o1,(sb.2 _ D.i1z).trans q1,r1⟩
    · exact h2'.at fun o q=>(sb.2 _ D.i2z).trans q
    · have hlt:c<s.heap.objs.size:=by
        have e':c=z∨c=TI∨c=TO∨c=i1∨c=i2:=by simpa using hcm
        rcases e' with q | q | q | q | q
        · rw [q];exact hzl
        · rw [q];exact Heap.lt_size hTI
        · rw [q];exact Heap.lt_size hTO
        · rw [q];obtain ⟨_,e1,_⟩:=h1;exact Heap.lt_size e1
        · rw [q];obtain ⟨_,e2,_⟩:=h2;exact Heap.lt_size e2
      rw [upd_ne (Nat.ne_of_lt hlt)]
      exact (hf c hcm).1
  done:=by
    intro X hP hw hK hc i pins s σ H E I hf st hg
    subst hP hw hK
    obtain ⟨hz,hTI,⟨x0,y0,hTO⟩,h1,h2⟩:=st
    obtain ⟨xs,hqx,hend⟩:=hg
    obtain ⟨its,rv,p,_⟩:=I.tuple hqx
    have l1:=rv.length
    exact zipTEnd (I.ok.hd hc) D hz hTI hTO h1 (show s.heap.IsTuple a its.toArray from p) (by simp;omega) fun h' hk=>⟨rfl,I.turnedL (t':=s.toks) (ch:=[z,TI,TO,i1,i2]) (fun c o hb q =>
      hk c o (fun q'=>hb (by simp [q'])) (fun q'=>hb (by simp [q'])) (fun q'=>hb (by simp [q'])) (fun q'=>hb (by simp [q'])) q) hf⟩
  self:=fun A i s Q E st h=>wpAny_pyIter_zip st.1 h
def iZipT (K:PySem.W.Frag) (ta:TA):TI:=fun σ H R=>ta σ H fun vs H1=>∃a b xs ys,vs=[.ref a,.ref b]∧SqT K H1 a xs∧SqL K H1 b ys∧R (ItzT K a b) H1
theorem pi_zipT {X:Cx} {e e2:Expr} {ta:TA} {p pos tpos:Pos} {elts:List Expr} {kk:Nat} (hg:Gl X "zip") (hm:X.mg "zip" = none) (ha:PA X [e,e2] ta)
    (hs:starEach [e,e2] X.env=(false,eval e X.env)::starEach [e2] X.env:=by rfl) (hpl:(backTo pos (starEach [e2] X.env)).any (·.1)=false:=by rfl) :
    PI X (.Tuple elts kk tpos) (.Call (.Name "zip" p) [e,e2] [] pos) (iZipT X.K ta):=by
  intro pins s σ H R I h
  refine Call_ (ld_blt I hg hm boot_zip5 (PyProof.Rows.callWith_type1 (thn (ha pos pins s σ H _ I h) fun us s1 ⟨vs,H1,I1,r1,q1⟩=>?_) hs hpl))
  obtain ⟨a,b,xs,ys,ex,hqx,hqy,q⟩:=q1
  subst ex
  cases r1 with
  | cons r rr =>
    cases rr with
    | cons r' rr =>
      cases rr
      cases r
      cases r'
      obtain ⟨its,rv,p1,_⟩:=I1.tuple hqx
      obtain ⟨its2,rv2,p2,_⟩:=I1.list hqy
      have la:a<s1.heap.objs.size:=p1.lt
      have lb:b<s1.heap.objs.size:=p2.lt
      refine call_zipT (show s1.heap.IsTuple a its.toArray from p1) p2.isList fun h' hz hTI hTO h1 h2 hsz hk=>wpAny_pyIter_zip hz ?_
      have I2:Inv X pins σ H1 { s1 with heap:=h' }:=I1.kept (t':=s1.toks) hk
      refine ⟨s1.heap.objs.size + 4,[s1.heap.objs.size + 4,s1.heap.objs.size + 2,s1.heap.objs.size + 3,s1.heap.objs.size,s1.heap.objs.size + 1],_,_,H1,rfl,I2,turn_zipT (PySem.W.ktu_apart s1.heap.objs.size a b la lb),⟨hz,hTI,⟨_,_,hTO⟩,h1,h2⟩,fun c hcm=>?_,q⟩
      have e':c=s1.heap.objs.size + 4∨c=s1.heap.objs.size + 2∨c=s1.heap.objs.size + 3∨c=s1.heap.objs.size∨c=s1.heap.objs.size + 1:=by simpa using hcm
      have hle:s1.heap.objs.size≤c:=by
        rcases e' with z | z | z | z | z
        · rw [z];exact Nat.le_add_right _ _
        · rw [z];exact Nat.le_add_right _ _
        · rw [z];exact Nat.le_add_right _ _
        · rw [z];exact Nat.le_refl _
        · rw [z];exact Nat.le_add_right _ _
      exact I1.fpOk hle (I1.hok.fresh hle)
theorem for_zipT {K:PySem.W.Frag} {a b:Addr} {xs ys:List V} {g:TG} {tb:TS} {D:Ends} {σ:St} {H:Hp} (hlen:xs.length=ys.length) (Pv:Nat→St→Hp→Prop) (h0:Pv 0 σ H) (hl:∀i σ H,i≤xs.length→Pv i σ H→SqT K H a xs∧SqL K H b ys)
    (hs:∀i x y T σ H,xs[i]? = some x→ys[i]? = some y→Pv i σ H→H T=none→g (.ref T) σ (upd H T (.tup [x,y])) fun σ2 H2=>tb { D with nx:=Pv (i + 1),ct:=Pv (i + 1),bk:=D.nx } σ2 H2) (hd:∀σ H,Pv xs.length σ H→D.nx σ H) :
    ∃W:Nat→Nat→St→Hp→Prop,(∃m,W 0 m σ H)∧∀i m σ H,W i m σ H →
      ((ItzT K a b).stop i H∧D.nx σ H)∨((ItzT K a b).go i H∧∃N:St→Hp→Prop,(∀σ' H',N σ' H'→∃m',m' < m∧W (i + 1) m' σ' H')∧∀x H',(ItzT K a b).yld i H x H'→g x σ H' fun σ2 H2=>tb { D with nx:=N,ct:=N,bk:=D.nx } σ2 H2):=by
  refine ⟨fun i m σ H=>m=xs.length - i∧i≤xs.length∧Pv i σ H,⟨xs.length,by simp,Nat.zero_le _,h0⟩,?_⟩
  rintro i m σ H ⟨rfl,hi,p⟩
  obtain ⟨q1,q2⟩:=hl i σ H hi p
  by_cases hlt:i<xs.length
  · have hlt2:i<ys.length:=by omega
    refine .inr ⟨⟨xs,ys,xs[i],ys[i],q1,q2,by simp [hlt],by simp [hlt2]⟩,Pv (i + 1),fun σ' H' p'=>⟨xs.length - (i + 1),by omega,rfl,hlt,p'⟩,fun x H' y=>?_⟩
    obtain ⟨T,u,v,rfl,hT,rfl,e1,e2⟩:=y
    exact hs i u v T σ H (e1 xs q1) (e2 ys q2) p hT
  · have e:i=xs.length:=by omega
    subst e
    exact .inl ⟨⟨xs,q1,Nat.le_refl _⟩,hd σ H p⟩
end L2
end
section
namespace L2
open PySem PySem.Spec PyProof.Rows
def rSortedD:List V→Hp→VK→Prop:=fun vs H Q=>∃(a:Addr) (kvs:List (Key×V)) (ns:List Int),vs=[V.ref a]∧Rd H a (.dK kvs)∧kvs.map (·.1)=ns.map Sum.inl∧ns.length<64 ∧
  ∀(ns':List Int) (p:Addr),ns'.Perm ns→ns'.Pairwise (· ≤ ·)→H p=none→Q (.ref p) (upd H p (.lst (ns'.map V.int)))
theorem ints_of_keys:∀{vs:List Value} {ns:List Int},vs.length=ns.length→(∀(j:Nat) (v:Value) (n:Int),vs[j]? = some v→ns[j]? = some n→∃t,v=Value.int n t)→Vals (ns.map V.int) vs
  | [],[],_,_=>.nil
  | v::vs,n::ns,hl,h=>.cons (h 0 v n rfl rfl) (ints_of_keys (by simpa using hl) fun j u m e1 e2=>h (j + 1) u m (by simpa using e1) (by simpa using e2))
  | [],_::_,hl,_=>by simp at hl
  | _::_,[],hl,_=>by simp at hl
theorem cr_sortedD {X:Cx} (hc:X.calm=true):CallR X (.builtin "sorted") rSortedD:=by
  intro pins s σ H vs us Q I r h
  obtain ⟨a,kvs,ns,rfl,hd,hk,h64,q⟩:=h
  rw [Vals.ref1 r]
  obtain ⟨z,lo,vs,rel,dd⟩:=dk_rd I.hok hd
  obtain ⟨o,es,ep,ho,hx⟩:=id dd
  have hm:s.heap.DictAt (mixKind X.prog X.w) a vs ep:=⟨o,es,ho,hx⟩
  have hl:kvs.length=vs.length:=Paired.length rel
  have hn:ns.length=kvs.length:=by
    have:=congrArg List.length hk
    simpa using this.symm
  refine Calls.call_function_entry kind_sorted plain_sorted entry_sorted (args_sorted1 _) ?_
  unfold Builtin.«sorted»
  refine wpAny_bind (m:=checkCount "sorted" 1 1 _) (wpAny_pure ?_)
  refine wpAny_bind (PySem.W.kdu_collect (A:=X.A.in1) (PySem.W.kdl_dict (knd:=mixKind X.prog X.w) (kvs:=vs) (ep:=ep) lo) (I.ok.hd hc) hm (by rw [← hl];exact z) fun h' tk acc hkp hacc=>?_)
  have hvl:acc.toList.length=ns.length:=by rw [Array.length_toList,hacc.1];omega
  have rv:Vals (ns.map V.int) acc.toList:=by
    refine ints_of_keys hvl fun j v n e1 e2=>?_
    obtain ⟨k,x,e3,e4⟩:=hacc.2 j v (by rw [← Array.getElem?_toList];exact e1)
    have e5:(kvs.map (·.1))[j]? = some (Sum.inl n):=by rw [hk,List.getElem?_map,e2];rfl
    rw [List.getElem?_map] at e5
    cases e6:kvs[j]? with
    | none=>rw [e6] at e5;cases e5
    | some p =>
      rw [e6] at e5
      obtain ⟨u,e7,_⟩:=kv_get rel (k:=p.1) (v:=p.2) e6
      rw [e3] at e7
      cases e7
      have e8:p.1=Sum.inl n:=Option.some.inj e5
      rw [e8] at e4
      rcases keyIs_shape (show keyIs (Sum.inl n) v=true from e4) with ⟨i,t,e,e'⟩ | ⟨x,t,e,_⟩
      · cases e;exact ⟨t,e'⟩
      · cases e
  refine wpAny_bind (wpAny_newList ?_ (by rw [hvl];exact small64 h64))
  have hI:=rv.ints
  have hoL:(h'.push (seqObj "list" acc.toList.toArray 0)).get? h'.objs.size=some (seqObj "list" acc.toList.toArray 0):=Heap.get?_push_size _ rfl
  refine wpAny_bind (wpAny_holding (wpAny_call_entry slot_list_sort ⟨_,hoL,rfl⟩ entry_list_sort (list_sort_tree hoL hI (by rw [hvl];exact h64) fun out ns' a1 a2 a3=>⟨_,rfl,?_⟩) (args_list_sort _)))
  refine wpAny_pure ⟨_,rfl,?_⟩
  obtain ⟨ep',he'⟩:=PyProof.Rows.sortedHeap_at (vs:=acc.toList) (out:=out) hoL
  have hlen:(ns'.map V.int).length≤sizeLine:=by rw [List.length_map,a2.length_eq];exact small64 h64
  have I1:Inv X pins σ H { s with heap:=h',toks:=tk }:=I.kept hkp
  refine ⟨.ref _,upd H h'.objs.size (.lst (ns'.map V.int)),I1.laid (t':=tk) (fun b u e=>?_) (Nat.le_refl _) ⟨hlen,out.toList,ep',vals_of_ints a1,he'⟩,rfl,q ns' _ a2 a3 (I1.hok.fresh (Nat.le_refl _))⟩
  have hlt:=Heap.lt_size e
  rw [PyProof.Rows.sortedHeap_old (Nat.ne_of_lt hlt) (by rw [Heap.size_push];exact Nat.lt_succ_of_lt hlt)]
  exact Heap.get?_push_of_some _ e
abbrev I3:=Int×Int×Int
def lt3 (a b:I3):Prop:=a.1<b.1∨(a.1=b.1∧(a.2.1<b.2.1∨(a.2.1=b.2.1∧a.2.2<b.2.2)))
def rSortedT (K:PySem.W.Frag):List V→Hp→VK→Prop:=fun vs H Q=>∃(a:Addr) (ts:List (Addr×I3)),vs=[V.ref a]∧SqL K H a (ts.map fun x=>V.ref x.1)∧(∀x∈ts,H x.1=some (.tup [.int x.2.1,.int x.2.2.1,.int x.2.2.2])) ∧
  ∀(ts':List (Addr×I3)) (p:Addr),ts'.Perm ts→ts'.Pairwise (fun x y=>¬ lt3 y.2 x.2)→H p=none→Q (.ref p) (upd H p (.lst (ts'.map fun x=>V.ref x.1)))
theorem perm_map_inv {α β:Type} {f:α→β} {l k:List β} (h:l.Perm k):∀m:List α,k=m.map f→∃m':List α,m'.Perm m∧l=m'.map f:=by
  induction h with
  | nil=>intro m e;exact ⟨m,.refl _,e⟩
  | cons x p ih =>
    intro m e
    cases m with
    | nil=>cases e
    | cons a m =>
      rw [List.map_cons] at e
      injection e with e1 e2
      obtain ⟨m',p',e'⟩:=ih m e2
      exact ⟨a::m',p'.cons a,by rw [List.map_cons,e1,e']⟩
  | swap x y l =>
    intro m e
    cases m with
    | nil=>cases e
    | cons a m =>
      cases m with
      | nil=>cases e
      | cons b m =>
        rw [List.map_cons,List.map_cons] at e
        injection e with e1 e2
        injection e2 with e2 e3
        exact ⟨b::a::m,.swap ..,by rw [List.map_cons,List.map_cons,e1,e2,e3]⟩
  | trans p1 p2 ih1 ih2 =>
    intro m e
    obtain ⟨m2,q2,e2⟩:=ih2 m e
    obtain ⟨m1,q1,e1⟩:=ih1 m2 e2
    exact ⟨m1,q1.trans q2,e1⟩
theorem vals_refs:∀{as:List Addr} {us:List Value},Vals (as.map V.ref) us→us=as.map Value.ref
  | [],_,.nil=>rfl
  | a::as,_,.cons r t=>by
    cases (show _=Value.ref a from r)
    rw [vals_refs t]
    rfl
def shI:Nat→Bool:=fun _=>false
theorem tupK_of {h:Heap} {a:Addr} {i j k:Int} {its:List Value} (ht:IsTup h a its.toArray) (rv:Vals [V.int i,.int j,.int k] its) :
    PyProof.Rows.G.tupKeyC h shI (.ref a)=some [Sum.inl i,Sum.inl j,Sum.inl k]∧∃t,PyProof.Rows.TupOf h shI (.ref a) (.int i t):=by
  obtain ⟨o,ho,hc,n,hd⟩:=ht
  cases rv with
  | cons r1 rv =>
    cases rv with
    | cons r2 rv =>
      cases rv with
      | cons r3 rv =>
        cases rv
        obtain ⟨t1,rfl⟩:=(show ∃t,_=Value.int i t from r1)
        obtain ⟨t2,rfl⟩:=(show ∃t,_=Value.int j t from r2)
        obtain ⟨t3,rfl⟩:=(show ∃t,_=Value.int k t from r3)
        refine ⟨?_,t1,a,o,_,n,rfl,ho,hc,hd,rfl,fun _=>⟨i,t1,rfl⟩,fun e=>absurd e (by decide)⟩
        unfold PyProof.Rows.G.tupKeyC
        have e1:PyProof.Rows.G.isTupObj h (.ref a)=true:=by simp [PyProof.Rows.G.isTupObj,ho,hc]
        rw [if_pos e1]
        simp only [PyProof.Rows.tupKey,ho,hd]
        rfl
theorem cr_sortedT {X:Cx}:CallR X (.builtin "sorted") (rSortedT X.K):=by
  intro pins s σ H vs us Q I r h
  obtain ⟨a,ts,rfl,hs,ht,q⟩:=h
  obtain ⟨its,rv,hl,hz⟩:=I.list hs
  rw [Vals.ref1 r]
  have e0:its=ts.map fun x=>Value.ref x.1:=by
    have:=vals_refs (as:=ts.map (·.1)) (us:=its) (by rw [List.map_map];exact rv)
    rw [this,List.map_map];rfl
  subst e0
  rw [List.length_map] at hz
  have key:∀x∈ts,PyProof.Rows.G.tupKeyC s.heap shI (.ref x.1)=some [Sum.inl x.2.1,Sum.inl x.2.2.1,Sum.inl x.2.2.2]∧∃t,PyProof.Rows.TupOf s.heap shI (.ref x.1) (.int x.2.1 t):=by
    intro x hx
    obtain ⟨_,its,r3,it⟩:=I.hok _ _ (ht x hx)
    exact tupK_of it r3
  obtain ⟨fs,hfs⟩:∃fs,PyProof.Rows.TupsOf s.heap shI (ts.map fun x=>Value.ref x.1) fs:=by
    clear rv hl q hs hz ht
    induction ts with
    | nil=>exact ⟨[],.nil⟩
    | cons x ts ih =>
      obtain ⟨fs,h1⟩:=ih fun y hy=>key y (List.mem_cons_of_mem _ hy)
      obtain ⟨_,t,h2⟩:=key x List.mem_cons_self
      exact ⟨_,.cons h2 h1⟩
  refine PyProof.Rows.G.sorted_tups hl.isList hfs (fun v hv=>?_) (by rw [List.length_map];exact hz) fun st' hp hsrt _=>?_
  · obtain ⟨x,hx,rfl⟩:=List.mem_map.mp hv
    exact ⟨_,(key x hx).1⟩
  have hpl:(arrOf st').toList.Perm (ts.map fun x=>((Value.ref x.1,Value.ref x.1):Keyed)):=by
    have:=Array.perm_iff_toList_perm.mp hp
    rw [pairsOf_toList,List.zip_map'] at this
    exact this
  obtain ⟨ts',p1,e1⟩:=perm_map_inv hpl ts rfl
  have hsize:(pairsOf (ts.map fun x=>Value.ref x.1)).size=ts'.length:=by rw [pairsOf_size,List.length_map,p1.length_eq]
  have hpw:ts'.Pairwise (fun x y=>¬ lt3 y.2 x.2):=by
    rw [List.pairwise_iff_getElem]
    intro i j hi hj hij
    have hh:=hsrt i j (Nat.le_of_lt hij) (by rw [hsize];exact hj)
    have kk:∀(m:Nat) (hm:m<ts'.length),KK (PyProof.Rows.G.tupKindC s.heap shI) (arrOf st') m=[Sum.inl ts'[m].2.1,Sum.inl ts'[m].2.2.1,Sum.inl ts'[m].2.2.2]:=by
      intro m hm
      unfold KK
      rw [← Array.getElem?_toList,e1,List.getElem?_map,List.getElem?_eq_getElem hm]
      show (PyProof.Rows.G.tupKeyC s.heap shI (.ref ts'[m].1)).getD []=_
      rw [(key ts'[m] (p1.mem_iff.mp (List.getElem_mem hm))).1]
      rfl
    rw [kk i hi,kk j hj] at hh
    intro hlt
    have hh:PyProof.Rows.lexLt itemOrd [Sum.inl ts'[j].2.1,Sum.inl ts'[j].2.2.1,Sum.inl ts'[j].2.2.2] [Sum.inl ts'[i].2.1,Sum.inl ts'[i].2.2.1,Sum.inl ts'[i].2.2.2]=false:=hh
    simp only [PyProof.Rows.lexLt,itemOrd,itemLt] at hh
    unfold lt3 at hlt
    simp at hh
    omega
  obtain ⟨ep,he'⟩:=PyProof.Rows.sortedAll_at s.heap (ts.map fun x=>Value.ref x.1) ((arrOf st').map (·.2))
  have hout:((arrOf st').map (·.2)).toList=(ts'.map (·.1)).map Value.ref:=by
    rw [Array.toList_map,e1,List.map_map,List.map_map];rfl
  have hv:Vals (ts'.map fun x=>V.ref x.1) ((arrOf st').map (·.2)).toList:=by
    rw [hout]
    clear hpw hsize e1 p1 hout he'
    induction ts' with
    | nil=>exact .nil
    | cons x t ih=>exact .cons rfl ih
  exact ⟨.ref _,upd H (s.heap.objs.size + 1) (.lst (ts'.map fun x=>V.ref x.1)),I.laid (t':=s.toks) (fun _ _=>PyProof.Rows.sortedAll_old) (Nat.le_succ _) ⟨by rw [List.length_map,p1.length_eq];exact hz,_,ep,hv,he'⟩,rfl,q ts' _ p1 hpw (I.hok.fresh (Nat.le_succ _))⟩
def rCountI (K:PySem.W.Frag):V→List V→Hp→VK→Prop:=fun x vs H Q=>∃(a:Addr) (ns:List Int) (k:Int),x=V.ref a∧vs=[.int k]∧SqL K H a (ns.map V.int)∧Q (.int (ns.count k:Nat)) H
theorem mt_countI {X:Cx}:MtM X "list.count" (rCountI X.K):=by
  intro pins s σ H x vs v us Q I rx rv h
  obtain ⟨a,ns,k,rfl,rfl,hs,q⟩:=h
  cases rx
  obtain ⟨u,rfl,ru⟩:=rv.one
  obtain ⟨t,rfl⟩:=ru
  obtain ⟨its,rv2,hl,_⟩:=I.list hs
  exact PyProof.Rows.count_list_ints hl.isList rv2.ints ⟨.int _,H,I.tok _,⟨_,rfl⟩,q⟩
theorem mergeK_len:∀(more kvs:List (Key×V)),(mergeK kvs more).length≤kvs.length + more.length
  | [],kvs=>Nat.le_refl _
  | p::more,kvs=>by
    have h1:=mergeK_len more (putK kvs p.1 p.2)
    have h2:=length_putK kvs p.1 p.2
    show (mergeK (putK kvs p.1 p.2) more).length≤_
    rw [List.length_cons]
    omega
def rUpdate:V→List V→Hp→VK→Prop:=fun x vs H Q=>∃(a e:Addr) (kvs more:List (Key×V)),x=.ref a∧vs=[.ref e]∧H a=some (.dK kvs)∧H e=some (.dK more)∧a≠e∧kvs.length + more.length≤sizeLine∧Q .non (upd H a (.dK (mergeK kvs more)))
theorem mt_update {X:Cx}:MtM X "dict.update" rUpdate:=by
  intro pins s σ H x vs v us Q I rx rv h
  obtain ⟨a,e,kvs,more,rfl,rfl,ha,he,hne,hz,q⟩:=h
  cases rx
  obtain ⟨u,rfl,ru⟩:=rv.one
  cases ru
  obtain ⟨z,hd,vs,rel,dd⟩:=dk_of I.hok ha
  obtain ⟨z2,hd2,vs2,rel2,dd2⟩:=dk_of I.hok he
  have l1:kvs.length=vs.length:=Paired.length rel
  have l2:more.length=vs2.length:=Paired.length rel2
  refine call_meetsIn PySem.F.slot_dict_update dd.typeIs PySem.F.entry_dict_update (PySem.F.args_dict_update_2 _ _) (meets_dict_update (mixKind X.prog X.w) a e hne hd2)
    ⟨vs,vs2,dd,dd2,by omega,fun h' dd' _ hs=>?_⟩
  have hex:∃q,h'.get? a=some q:=let ⟨q,_,_,hq,_⟩:=dd';⟨q,hq⟩
  have hl:(mergeK kvs more).length≤sizeLine:=by have:=mergeK_len more kvs;omega
  exact ⟨.non,_,d_write I (by rw [ha];exact True.intro) hs hex (dk_new hl hd (KV.merge rel2 rel) dd'),rfl,q⟩
end L2
end
section
namespace Sb
open PySem PySem.Spec PyProof.Rows L2
def top (i:Nat):Stmt:=PySem.Challenge.pw_seasonboard_s01_answers.main.body.getD i (.Pass ⟨0,0,0,0⟩)
abbrev s_land_key:Stmt:=top 15
abbrev s_sea_key:Stmt:=top 16
abbrev s_land_linked:Stmt:=top 17
abbrev s_sea_linked:Stmt:=top 18
abbrev s_is_of_kind:Stmt:=top 19
abbrev s_is_wrong_kind:Stmt:=top 20
abbrev s_is_full_of_units:Stmt:=top 21
abbrev s_units_of:Stmt:=top 22
abbrev s_in_order_of_provinces:Stmt:=top 23
abbrev s_linked_provinces:Stmt:=top 25
abbrev s_distances:Stmt:=top 26
abbrev s_rank_in_disorder:Stmt:=top 27
abbrev s_disorder_of:Stmt:=top 28
abbrev s_choices_of:Stmt:=top 31
abbrev s_may_enter:Stmt:=top 32
abbrev s_reached_places:Stmt:=top 33
abbrev s_provinces_ordered_to:Stmt:=top 34
abbrev s_arrivals:Stmt:=top 35
abbrev s_end_driven:Stmt:=top 36
abbrev s_centres_of:Stmt:=top 38
abbrev s_sites_of:Stmt:=top 39
abbrev s_raises_of:Stmt:=top 40
abbrev s_drops_of:Stmt:=top 41
abbrev s_most_raises:Stmt:=top 42
abbrev s_needed_drops:Stmt:=top 43
abbrev s_gone_of:Stmt:=top 44
abbrev s_all_gone:Stmt:=top 45
abbrev s_end_season:Stmt:=top 46
abbrev s_row:Stmt:=top 58
abbrev s_rows:Stmt:=top 59
abbrev s_rows_of_units:Stmt:=top 60
abbrev s_clear:Stmt:=top 61
abbrev s_province:Stmt:=top 62
abbrev s_land:Stmt:=top 63
abbrev s_sea:Stmt:=top 64
abbrev s_man:Stmt:=top 65
abbrev s_owner:Stmt:=top 66
abbrev s_driven:Stmt:=top 67
abbrev s_bar:Stmt:=top 68
abbrev s_choices:Stmt:=top 69
abbrev s_go:Stmt:=top 70
abbrev s_leave:Stmt:=top 71
abbrev s_resolve:Stmt:=top 72
abbrev s_take:Stmt:=top 73
abbrev s_balance:Stmt:=top 74
abbrev s_sites:Stmt:=top 75
abbrev s_raise_unit:Stmt:=top 76
abbrev s_drop:Stmt:=top 77
abbrev s_settle:Stmt:=top 78
abbrev s_disorder:Stmt:=top 79
abbrev s_far:Stmt:=top 80
abbrev s_men:Stmt:=top 81
abbrev s_owners:Stmt:=top 82
abbrev s_range_of:Stmt:=top 86
abbrev s_all_in_range:Stmt:=top 87
abbrev s_hand_to:Stmt:=top 88
abbrev s_answer:Stmt:=top 89
abbrev s_answers:Stmt:=top 90
abbrev s_Province_init:Stmt:=inClass (top 11) 0
abbrev s_Unit_init:Stmt:=inClass (top 12) 0
abbrev s_DrivenUnit_init:Stmt:=inClass (top 13) 0
abbrev s_DrivenUnit_order_to_go:Stmt:=inClass (top 13) 1
abbrev s_DrivenUnit_order_to_leave:Stmt:=inClass (top 13) 2
abbrev s_Board_init:Stmt:=inClass (top 14) 0
abbrev s_Board_wipe:Stmt:=inClass (top 14) 1
abbrev s_Board_forget_raises_and_drops:Stmt:=inClass (top 14) 2
def FnTx (K:PySem.W.Frag) (mg:Str→Option Value) (x:Str) (st:Stmt) (ps:List Str):Prop:=∃f fd,mg x=some (.ref f)∧Fun K x x st f fd∧Binds K fd ps []
def MeTx (K:PySem.W.Frag) (C:Addr) (m qual:Str) (st:Stmt) (ps:List Str):Prop:=∃f fd,Meth K C m f∧Fun K m qual st f fd∧Binds K fd ps []
def InTx (K:PySem.W.Frag) (C:Addr) (qual:Str) (st:Stmt) (ps:List Str):Prop:=∃f fd,Mk K C f∧Fun K "__init__" qual st f fd∧Binds K fd ps []
def KTup (K:PySem.W.Frag) (a:Addr) (xs:List V):Prop:=∃(o:Obj) (its:Array Value) (n:Nat),K.lookup a=some o∧o.cls=.type "tuple"∧o.data=.seq its n∧its.size≤sizeLine∧Vals xs its.toList
def tab_CALLS:List Str:=["clear", "province", "land", "sea", "man", "owner", "driven", "bar", "choices", "go", "leave", "resolve", "take", "balance", "sites", "raise_unit", "drop", "settle", "disorder", "far", "men", "owners"]
def tab_ARGUMENTS:List (List Str):=[[],["kind", "zero or one", "power or nobody"],["province", "province"],["province", "shore", "province", "shore"],["power", "zero or one", "province", "shore"],["province", "power or nobody"],["power", "zero or one", "province", "shore", "province or none"],["province"],["province"],["province", "province", "shore"],["province"],[],[],["power"],["power"],["power", "zero or one", "province", "shore"],["province"],[],["power"],["power", "province"],[],[]]
def tab_RANGES:List (Str×Int×Int):=[("kind", 0,2),("zero or one", 0,1),("shore", 0,3),("power", 0,6),("power or nobody", -1,6)]
structure Txt (K:PySem.W.Frag) (mg:Str→Option Value):Prop where
  g_LAND:GInt mg "LAND" 0
  g_SEA:GInt mg "SEA" 1
  g_NOBODY:GInt mg "NOBODY" (-1)
  g_NO_ORDER:GInt mg "NO_ORDER" 0
  g_ORDER_GO:GInt mg "ORDER_GO" 1
  g_ORDER_LEAVE:GInt mg "ORDER_LEAVE" 2
  g_MOST_PROVINCES:GInt mg "MOST_PROVINCES" 40
  g_MOST_LINKS:GInt mg "MOST_LINKS" 300
  g_MOST_UNITS:GInt mg "MOST_UNITS" 24
  g_OUT_OF_RANGE:GInt mg "OUT_OF_RANGE" (-1)
  g_FULL:GInt mg "FULL" (-2)
  g_NOT_FIT:GInt mg "NOT_FIT" (-3)
  g_THERE_ALREADY:GInt mg "THERE_ALREADY" (-4)
  g_NOT_THERE:GInt mg "NOT_THERE" (-5)
  g_NOT_ALLOWED:GInt mg "NOT_ALLOWED" (-6)
  g_SOME_DRIVEN:GInt mg "SOME_DRIVEN" (-7)
  g_ENOUGH:GInt mg "ENOUGH" (-8)
  g_NO_DISTANCE:GInt mg "NO_DISTANCE" (-9)
  r_POWERS:mg "POWERS" = some (.ref (adr mg "POWERS"))
  r_SHORES:mg "SHORES" = some (.ref (adr mg "SHORES"))
  r_GONE:mg "GONE" = some (.ref (adr mg "GONE"))
  r_CALLS:mg "CALLS" = some (.ref (adr mg "CALLS"))
  r_ARGUMENTS:mg "ARGUMENTS" = some (.ref (adr mg "ARGUMENTS"))
  r_RANGES:mg "RANGES" = some (.ref (adr mg "RANGES"))
  t_POWERS:KTup K (adr mg "POWERS") [.int 0,.int 1,.int 2,.int 3,.int 4,.int 5,.int 6]
  t_SHORES:KTup K (adr mg "SHORES") [.int 0,.int 1,.int 2,.int 3]
  t_GONE:KTup K (adr mg "GONE") [.int (-1),.int 0]
  t_CALLS:KTup K (adr mg "CALLS") (tab_CALLS.map fun x=>V.ref (adr mg x))
  t_ARGUMENTS:∃as:List Addr,KTup K (adr mg "ARGUMENTS") (as.map V.ref)∧Paired (fun a (xs:List Str)=>KTup K a (xs.map V.str)) as tab_ARGUMENTS
  t_RANGES:∀p∈tab_RANGES,∃a,KTab K (adr mg "RANGES") p.1 (.ref a)∧KTup K a [.int p.2.1,.int p.2.2]
  f_land_key:FnTx K mg "land_key" s_land_key ["p", "q"]
  f_sea_key:FnTx K mg "sea_key" s_sea_key ["p", "s", "q", "t"]
  f_land_linked:FnTx K mg "land_linked" s_land_linked ["board", "p", "q"]
  f_sea_linked:FnTx K mg "sea_linked" s_sea_linked ["board", "p", "s", "q", "t"]
  f_is_of_kind:FnTx K mg "is_of_kind" s_is_of_kind ["board", "p", "kind"]
  f_is_wrong_kind:FnTx K mg "is_wrong_kind" s_is_wrong_kind ["board", "fleet", "p", "s"]
  f_is_full_of_units:FnTx K mg "is_full_of_units" s_is_full_of_units ["board"]
  f_units_of:FnTx K mg "units_of" s_units_of ["board", "power"]
  f_in_order_of_provinces:FnTx K mg "in_order_of_provinces" s_in_order_of_provinces ["units"]
  f_linked_provinces:FnTx K mg "linked_provinces" s_linked_provinces ["board"]
  f_distances:FnTx K mg "distances" s_distances ["board", "power"]
  f_rank_in_disorder:FnTx K mg "rank_in_disorder" s_rank_in_disorder ["unit", "found"]
  f_disorder_of:FnTx K mg "disorder_of" s_disorder_of ["board", "power"]
  f_choices_of:FnTx K mg "choices_of" s_choices_of ["board", "driven_unit"]
  f_may_enter:FnTx K mg "may_enter" s_may_enter ["board", "driven_unit", "q"]
  f_reached_places:FnTx K mg "reached_places" s_reached_places ["board", "unit", "q"]
  f_provinces_ordered_to:FnTx K mg "provinces_ordered_to" s_provinces_ordered_to ["board"]
  f_arrivals:FnTx K mg "arrivals" s_arrivals ["board"]
  f_end_driven:FnTx K mg "end_driven" s_end_driven ["board", "goals"]
  f_centres_of:FnTx K mg "centres_of" s_centres_of ["board", "power"]
  f_sites_of:FnTx K mg "sites_of" s_sites_of ["board", "power"]
  f_raises_of:FnTx K mg "raises_of" s_raises_of ["board", "power"]
  f_drops_of:FnTx K mg "drops_of" s_drops_of ["board", "power"]
  f_most_raises:FnTx K mg "most_raises" s_most_raises ["board", "power"]
  f_needed_drops:FnTx K mg "needed_drops" s_needed_drops ["board", "power"]
  f_gone_of:FnTx K mg "gone_of" s_gone_of ["board", "power"]
  f_all_gone:FnTx K mg "all_gone" s_all_gone ["board"]
  f_end_season:FnTx K mg "end_season" s_end_season ["board", "gone"]
  f_row:FnTx K mg "row" s_row ["numbers"]
  f_rows:FnTx K mg "rows" s_rows ["parts"]
  f_rows_of_units:FnTx K mg "rows_of_units" s_rows_of_units ["units"]
  f_clear:FnTx K mg "clear" s_clear ["board"]
  f_province:FnTx K mg "province" s_province ["board", "kind", "centre", "home"]
  f_land:FnTx K mg "land" s_land ["board", "p", "q"]
  f_sea:FnTx K mg "sea" s_sea ["board", "p", "s", "q", "t"]
  f_man:FnTx K mg "man" s_man ["board", "power", "fleet", "p", "s"]
  f_owner:FnTx K mg "owner" s_owner ["board", "p", "power"]
  f_driven:FnTx K mg "driven" s_driven ["board", "power", "fleet", "p", "s", "origin"]
  f_bar:FnTx K mg "bar" s_bar ["board", "p"]
  f_choices:FnTx K mg "choices" s_choices ["board", "p"]
  f_go:FnTx K mg "go" s_go ["board", "p", "q", "s"]
  f_leave:FnTx K mg "leave" s_leave ["board", "p"]
  f_resolve:FnTx K mg "resolve" s_resolve ["board"]
  f_take:FnTx K mg "take" s_take ["board"]
  f_balance:FnTx K mg "balance" s_balance ["board", "power"]
  f_sites:FnTx K mg "sites" s_sites ["board", "power"]
  f_raise_unit:FnTx K mg "raise_unit" s_raise_unit ["board", "power", "fleet", "p", "s"]
  f_drop:FnTx K mg "drop" s_drop ["board", "p"]
  f_settle:FnTx K mg "settle" s_settle ["board"]
  f_disorder:FnTx K mg "disorder" s_disorder ["board", "power"]
  f_far:FnTx K mg "far" s_far ["board", "power", "p"]
  f_men:FnTx K mg "men" s_men ["board"]
  f_owners:FnTx K mg "owners" s_owners ["board"]
  f_range_of:FnTx K mg "range_of" s_range_of ["board", "argument"]
  f_all_in_range:FnTx K mg "all_in_range" s_all_in_range ["board", "number", "values"]
  f_hand_to:FnTx K mg "hand_to" s_hand_to ["call", "board", "values"]
  f_answer:FnTx K mg "answer" s_answer ["board", "number", "values"]
  f_answers:FnTx K mg "answers" s_answers ["calls"]
  a_Province:mg "Province" = some (.ref (adr mg "Province"))
  k_Province:Cls K (adr mg "Province")
  n_Province_kind:NoAttr K (adr mg "Province") "kind"
  n_Province_centre:NoAttr K (adr mg "Province") "centre"
  n_Province_home:NoAttr K (adr mg "Province") "home"
  n_Province_owner:NoAttr K (adr mg "Province") "owner"
  i_Province:InTx K (adr mg "Province") "Province.__init__" s_Province_init ["self", "kind", "centre", "home"]
  a_Unit:mg "Unit" = some (.ref (adr mg "Unit"))
  k_Unit:Cls K (adr mg "Unit")
  n_Unit_power:NoAttr K (adr mg "Unit") "power"
  n_Unit_fleet:NoAttr K (adr mg "Unit") "fleet"
  n_Unit_province:NoAttr K (adr mg "Unit") "province"
  n_Unit_shore:NoAttr K (adr mg "Unit") "shore"
  i_Unit:InTx K (adr mg "Unit") "Unit.__init__" s_Unit_init ["self", "power", "fleet", "province", "shore"]
  a_DrivenUnit:mg "DrivenUnit" = some (.ref (adr mg "DrivenUnit"))
  k_DrivenUnit:Cls K (adr mg "DrivenUnit")
  n_DrivenUnit_unit:NoAttr K (adr mg "DrivenUnit") "unit"
  n_DrivenUnit_origin:NoAttr K (adr mg "DrivenUnit") "origin"
  n_DrivenUnit_order:NoAttr K (adr mg "DrivenUnit") "order"
  n_DrivenUnit_goal:NoAttr K (adr mg "DrivenUnit") "goal"
  i_DrivenUnit:InTx K (adr mg "DrivenUnit") "DrivenUnit.__init__" s_DrivenUnit_init ["self", "unit", "origin"]
  m_DrivenUnit_order_to_go:MeTx K (adr mg "DrivenUnit") "order_to_go" "DrivenUnit.order_to_go" s_DrivenUnit_order_to_go ["self", "q", "s"]
  m_DrivenUnit_order_to_leave:MeTx K (adr mg "DrivenUnit") "order_to_leave" "DrivenUnit.order_to_leave" s_DrivenUnit_order_to_leave ["self"]
  a_Board:mg "Board" = some (.ref (adr mg "Board"))
  k_Board:Cls K (adr mg "Board")
  n_Board_provinces:NoAttr K (adr mg "Board") "provinces"
  n_Board_land_links:NoAttr K (adr mg "Board") "land_links"
  n_Board_sea_links:NoAttr K (adr mg "Board") "sea_links"
  n_Board_units:NoAttr K (adr mg "Board") "units"
  n_Board_driven:NoAttr K (adr mg "Board") "driven"
  n_Board_barred:NoAttr K (adr mg "Board") "barred"
  n_Board_raises:NoAttr K (adr mg "Board") "raises"
  n_Board_drops:NoAttr K (adr mg "Board") "drops"
  i_Board:InTx K (adr mg "Board") "Board.__init__" s_Board_init ["self"]
  m_Board_wipe:MeTx K (adr mg "Board") "wipe" "Board.wipe" s_Board_wipe ["self"]
  m_Board_forget_raises_and_drops:MeTx K (adr mg "Board") "forget_raises_and_drops" "Board.forget_raises_and_drops" s_Board_forget_raises_and_drops ["self"]
  n_len:mg "len" = none
  n_range:mg "range" = none
  n_zip:mg "zip" = none
  n_sorted:mg "sorted" = none
  n_enumerate:mg "enumerate" = none
  n_max:mg "max" = none
end Sb
end
section
namespace Sb
open PySem PySem.Spec PyProof.Rows L2
def fProv (p:Prov):List (Str×V):=[("kind", .int p.kind),("centre", .int p.centre),("home", .int p.home),("owner", .int p.owner)]
def fUnt (u:Unt):List (Str×V):=[("power", .int u.power),("fleet", .int u.fleet),("province", .int u.prov),("shore", .int u.shore)]
def fDrv (ua:Addr) (d:Drv) (gv:V):List (Str×V):=[("unit", .ref ua),("origin", .int d.origin),("order", .int d.order),("goal", gv)]
structure Ads where
  dx:Addr
  pl:Addr
  la:Addr
  se:Addr
  un:Addr
  dr:Addr
  ba:Addr
  ra:Addr
  dp:Addr
  ps:List Addr
  ku:List (Key×V)
  kd:List (Key×V)
  kr:List (Key×V)
def fBd (A:Ads):List (Str×V):=[("provinces", .ref A.pl),("land_links", .ref A.la),("sea_links", .ref A.se),("units", .ref A.un),("driven", .ref A.dr),("barred", .ref A.ba),("raises", .ref A.ra),("drops", .ref A.dp)]
section
variable (mg:Str→Option Value) (H:Hp)
def PrAt (a:Addr) (p:Prov):Prop:=∃dx,H a=some (.ins (adr mg "Province") dx (fProv p))
def UnAt (a:Addr) (u:Unt):Prop:=∃dx,H a=some (.ins (adr mg "Unit") dx (fUnt u))
def GoAt (gv:V) (g:Option (Int×Int)):Prop:=match g with
  | none=>gv=.non
  | some x=>∃a,gv=.ref a∧H a=some (.tup [.int x.1,.int x.2])
def DrAt (a:Addr) (d:Drv):Prop:=∃dx ua gv,H a=some (.ins (adr mg "DrivenUnit") dx (fDrv ua d gv))∧UnAt mg H ua d.unit∧GoAt H gv d.goal
end
def Dc {α:Type} (R:Addr→α→Prop) (kvs:List (Key×V)) (l:List (Int × α)):Prop:=Paired (fun (kv:Key×V) (x:Int × α)=>kv.1=Sum.inl x.1∧∃a,kv.2=V.ref a∧R a x.2) kvs l
def kLand (k:Int×Int):List Key×V:=([Sum.inl k.1,Sum.inl k.2],.bl true)
def kSea (k:Int×Int×Int×Int):List Key×V:=([Sum.inl k.1,Sum.inl k.2.1,Sum.inl k.2.2.1,Sum.inl k.2.2.2],.bl true)
def kInt (p:Int):Key×V:=(Sum.inl p,.bl true)
def dicts (A:Ads):List Addr:=[A.la,A.se,A.un,A.dr,A.ba,A.ra,A.dp]
structure BdAt (mg:Str→Option Value) (H:Hp) (b:Addr) (A:Ads) (B:Bd):Prop where
  obj:H b=some (.ins (adr mg "Board") A.dx (fBd A))
  pl:H A.pl=some (.lst (A.ps.map V.ref))
  pnd:A.ps.Nodup
  pa:Paired (PrAt mg H) A.ps B.provs
  la:Rd H A.la (.dT (B.land.map kLand))
  se:Rd H A.se (.dT (B.sea.map kSea))
  un:Rd H A.un (.dK A.ku)
  ua:Dc (UnAt mg H) A.ku B.units
  dr:Rd H A.dr (.dK A.kd)
  da:Dc (DrAt mg H) A.kd B.driven
  dnd:(A.kd.map (·.2)).Nodup
  ba:Rd H A.ba (.dK (B.barred.map kInt))
  ra:Rd H A.ra (.dK A.kr)
  raa:Dc (UnAt mg H) A.kr B.raises
  dp:Rd H A.dp (.dK (B.drops.map kInt))
  nd:(dicts A).Nodup
def Wr (H:Hp) (A:Ads):Prop:=∀a∈dicts A,∀o u,H a≠some (.frz o u)
def Foot (b:Addr) (A:Ads) (a:Addr):Prop:=a=b∨a=A.pl∨a∈dicts A∨a∈A.ps∨V.ref a∈A.kd.map (·.2)
def isDc:HO→Bool
  | .dK _=>true
  | .dT _=>true
  | _=>false
def SameL (H H':Hp):Prop:=∀a o,H a=some o→H' a=some o∨(isDc o=true∧∃od,H' a=some (.frz od o))
theorem SameL.of {H H':Hp} (s:Same H H'):SameL H H':=fun a o h=>.inl (s a o h)
theorem SameL.eq {H H':Hp} (s:SameL H H') {a:Addr} {o:HO} (h:H a=some o) (hd:isDc o=false):H' a=some o:=by
  rcases s a o h with q | ⟨q,_⟩
  · exact q
  · rw [hd] at q;cases q
theorem SameL.rd {H H':Hp} (s:SameL H H') {a:Addr} {o:HO} (h:Rd H a o):Rd H' a o:=by
  rcases h with h | ⟨od,h⟩
  · rcases s a o h with q | ⟨_,od,q⟩
    · exact .inl q
    · exact .inr ⟨od,q⟩
  · exact .inr ⟨od,s.eq h rfl⟩
theorem SameL.lock {H:Hp} {d:Addr} {u:HO} (h:H d=some u) (hd:isDc u=true) (od:Obj):SameL H (upd H d (.frz od u)):=fun a o e=>by
  by_cases q:a=d
  · rw [q] at e ⊢
    rw [h] at e
    cases e
    exact .inr ⟨hd,od,upd_same⟩
  · exact .inl (by rw [upd_ne q];exact e)
theorem _root_.L2.Same.unlock {H H':Hp} {d:Addr} {u:HO} {od:Obj} (h:H d=some u) (s:Same (upd H d (.frz od u)) H'):Same H (upd H' d u):=fun a o e=>by
  by_cases q:a=d
  · rw [q] at e ⊢
    rw [upd_same,← h];exact e
  · rw [upd_ne q]
    exact s a o (by rw [upd_ne q];exact e)
theorem _root_.L2.Same.put {H0 H:Hp} (s:Same H0 H) {p:Addr} {o:HO} (h:H0 p=none):Same H0 (upd H p o):=fun b q e=>by
  rw [upd_ne (ne_of_none e h)];exact s b q e
theorem _root_.L2.Same.mk {H:Hp} {p:Addr} {o:HO} (h:H p=none):Same H (upd H p o):=fun b q e=>by
  rw [upd_ne (ne_of_none e h)];exact e
theorem Paired.map' {α β:Type} {R S:α→β→Prop} (f:∀a b,R a b→S a b) {l:List α} {m:List β} (h:Paired R l m):Paired S l m:=L2.Paired.mapP h f
section
variable {mg:Str→Option Value} {H H':Hp} {b:Addr} {A:Ads} {B:Bd}
theorem PrAt.mono (s:SameL H H') {a:Addr} {p:Prov} (h:PrAt mg H a p):PrAt mg H' a p:=let ⟨dx,e⟩:=h;⟨dx,s.eq e rfl⟩
theorem UnAt.mono (s:SameL H H') {a:Addr} {p:Unt} (h:UnAt mg H a p):UnAt mg H' a p:=let ⟨dx,e⟩:=h;⟨dx,s.eq e rfl⟩
theorem GoAt.mono (s:SameL H H') {v:V} {g:Option (Int×Int)} (h:GoAt H v g):GoAt H' v g:=by
  cases g with
  | none=>exact h
  | some x=>obtain ⟨a,e,q⟩:=h;exact ⟨a,e,s.eq q rfl⟩
theorem DrAt.mono (s:SameL H H') {a:Addr} {p:Drv} (h:DrAt mg H a p):DrAt mg H' a p:=let ⟨dx,ua,gv,e,u,g⟩:=h;⟨dx,ua,gv,s.eq e rfl,u.mono s,g.mono s⟩
theorem Dc.imp {α:Type} {R S:Addr→α→Prop} (f:∀a x,R a x→S a x) {kvs:List (Key×V)} {l:List (Int × α)} (h:Dc R kvs l):Dc S kvs l :=
  Paired.map' (fun _ _ ⟨e,a,q,r⟩=>⟨e,a,q,f _ _ r⟩) h
theorem BdAt.mono (h:BdAt mg H b A B) (s:SameL H H'):BdAt mg H' b A B :=
  ⟨s.eq h.obj rfl,s.eq h.pl rfl,h.pnd,Paired.map' (fun _ _ q=>q.mono s) h.pa,s.rd h.la,s.rd h.se,s.rd h.un,h.ua.imp (fun _ _ q=>q.mono s),s.rd h.dr,h.da.imp (fun _ _ q=>q.mono s),h.dnd,s.rd h.ba,s.rd h.ra,h.raa.imp (fun _ _ q=>q.mono s),s.rd h.dp,h.nd⟩
theorem BdAt.same (h:BdAt mg H b A B) (s:Same H H'):BdAt mg H' b A B:=h.mono (.of s)
theorem Dc.val {α:Type} {R:Addr→α→Prop} {kvs:List (Key×V)} {l:List (Int × α)} (h:Dc R kvs l) (p:Int):(∃a x,valV kvs (Sum.inl p)=some (.ref a)∧look l p=some x∧R a x)∨(valV kvs (Sum.inl p)=none∧look l p=none):=by
  unfold Dc at h
  induction h with
  | nil=>exact .inr ⟨rfl,rfl⟩
  | @cons kv x kvs l r t ih =>
    obtain ⟨e,a,ea,ra⟩:=r
    by_cases q:x.1=p
    · refine .inl ⟨a,x.2,?_,?_,ra⟩
      · rw [valV_pos (by rw [e,q]),ea]
      · unfold look
        rw [List.find?_cons,decide_eq_true q]
        rfl
    · have q':¬ kv.1=Sum.inl p:=by rw [e];intro z;exact q (Sum.inl.inj z)
      have e2:look (x::l) p=look l p:=by
        unfold look
        rw [List.find?_cons,decide_eq_false q]
      rw [valV_neg q',e2]
      exact ih
theorem Dc.keys {α:Type} {R:Addr→α→Prop} {kvs:List (Key×V)} {l:List (Int × α)} (h:Dc R kvs l):kvs.map (·.1)=(l.map (·.1)).map Sum.inl:=by
  unfold Dc at h
  induction h with
  | nil=>rfl
  | cons r t ih=>rw [List.map_cons,List.map_cons,List.map_cons,ih,r.1]
theorem Dc.len {α:Type} {R:Addr→α→Prop} {kvs:List (Key×V)} {l:List (Int × α)} (h:Dc R kvs l):kvs.length=l.length:=Paired.length h
theorem Dc.snoc {α:Type} {R:Addr→α→Prop} {kvs:List (Key×V)} {l:List (Int × α)} (h:Dc R kvs l) {p:Int} {a:Addr} {x:α} (r:R a x):Dc R (kvs++[(Sum.inl p,.ref a)]) (l++[(p,x)]):=by
  unfold Dc at h ⊢
  induction h with
  | nil=>exact .cons ⟨rfl,a,rfl,r⟩ .nil
  | cons r t ih=>exact .cons r ih
theorem Dc.get {α:Type} {R:Addr→α→Prop} {kvs:List (Key×V)} {l:List (Int × α)} (h:Dc R kvs l) {i:Nat} {k:Key} {v:V} (e:kvs[i]? = some (k,v)):∃p x a,l[i]? = some (p,x)∧k=Sum.inl p∧v=.ref a∧R a x:=by
  obtain ⟨y,h1,h2,a,h3,h4⟩:=paired_get h e
  exact ⟨y.1,y.2,a,h1,h2,h3,h4⟩
theorem valInts (l:List Int) (p:Int):valV (l.map kInt) (Sum.inl p)=if p∈l then some (.bl true) else none:=by
  induction l with
  | nil=>rfl
  | cons a l ih =>
    rw [List.map_cons]
    by_cases q:a=p
    · rw [valV_pos (by show Sum.inl a=_;rw [q]),if_pos (by rw [q];exact List.mem_cons_self)]
      rfl
    · rw [valV_neg (fun z=>q (Sum.inl.inj z)),ih]
      have:p∈a::l↔p∈l:=by
        rw [List.mem_cons]
        exact ⟨fun z=>z.resolve_left fun w=>q w.symm,.inr⟩
      by_cases q2:p∈l
      · rw [if_pos q2,if_pos (this.mpr q2)]
      · rw [if_neg q2,if_neg (fun z=>q2 (this.mp z))]
end
end Sb
end
section
namespace L2
open PySem PySem.Spec PyProof.Rows
theorem for_it {J:It} {n:Nat} {g:TG} {tb:TS} {D:Ends} {σ:St} {H:Hp} (Pv:Nat→St→Hp→Prop) (h0:Pv 0 σ H) (go:∀i σ H,i<n→Pv i σ H→J.go i H) (stop:∀σ H,Pv n σ H→J.stop n H)
    (hs:∀i x σ H H',i<n→Pv i σ H→J.yld i H x H'→g x σ H' fun σ2 H2=>tb { D with nx:=Pv (i + 1),ct:=Pv (i + 1),bk:=D.nx } σ2 H2) (hd:∀σ H,Pv n σ H→D.nx σ H) :
    ∃W:Nat→Nat→St→Hp→Prop,(∃m,W 0 m σ H)∧∀i m σ H,W i m σ H →
      (J.stop i H∧D.nx σ H)∨(J.go i H∧∃N:St→Hp→Prop,(∀σ' H',N σ' H'→∃m',m' < m∧W (i + 1) m' σ' H')∧∀x H',J.yld i H x H'→g x σ H' fun σ2 H2=>tb { D with nx:=N,ct:=N,bk:=D.nx } σ2 H2):=by
  refine ⟨fun i m σ H=>m=n - i∧i≤n∧Pv i σ H,⟨n,by simp,Nat.zero_le _,h0⟩,?_⟩
  rintro i m σ H ⟨rfl,hi,p⟩
  by_cases hlt:i<n
  · exact .inr ⟨go i σ H hlt p,Pv (i + 1),fun σ' H' p'=>⟨n - (i + 1),by omega,rfl,hlt,p'⟩,fun x H' y=>hs i x σ H H' hlt p y⟩
  · have e:i=n:=by omega
    subst e
    exact .inl ⟨stop σ H p,hd σ H p⟩
theorem lc_acc {J:It} {n:Nat} {g:TG} {tt:TT} {te:TE} {vs:List Nat} {σ:St} {H1:Hp} {D:Addr} {Qd:Hp→Prop} (hD:H1 D=none) (hn:n≤1000) (R:Nat→List V→Hp→Prop)
    (mono:∀i acc H H',(H D=none∨∃l,H D=some (.lst l))→(∀b o,b≠D→H b=some o→H' b=some o)→R i acc H→R i acc H') (go:∀i H,i<n→Same H1 H→J.go i H) (stop:∀H,Same H1 H→J.stop n H) (h0:R 0 [] H1)
    (hs:∀i x H H' acc (Nx:Hp→Prop),i<n→Same H1 H→H D=some (.lst acc)→R i acc H→J.yld i H x H'→(∀H3,Same H H3→R (i + 1) acc H3→Nx H3) →
      (∀y H4,Same H H4→R (i + 1) (acc++[y]) H4→∃acc,H4 D=some (.lst acc)∧acc.length<sizeLine∧Nx (upd H4 D (.lst (acc++[y])))) →
      g x (wipe σ vs) H' fun σ2 H2=>wipe σ2 vs=wipe σ vs∧tt σ2 H2 fun b H3 =>
        if b=true then te σ2 H3 fun y H4=>∃acc,H4 D=some (.lst acc)∧acc.length<sizeLine∧Nx (upd H4 D (.lst (acc++[y]))) else Nx H3)
    (hd:∀H acc,Same H1 H→H D=some (.lst acc)→R n acc H→Qd H) :
    ∃W:Nat→Nat→Hp→Prop,(∃m,W 0 m (upd H1 D (.lst [])))∧∀i m H,W i m H →
      (J.stop i H∧Qd H)∨(J.go i H∧∃Nx:Hp→Prop,(∀H',Nx H'→∃m',m' < m∧W (i + 1) m' H')∧∀x H',J.yld i H x H'→g x (wipe σ vs) H' fun σ2 H2=>wipe σ2 vs=wipe σ vs∧tt σ2 H2 fun b H3 =>
        if b=true then te σ2 H3 fun y H4=>∃acc,H4 D=some (.lst acc)∧acc.length<sizeLine∧Nx (upd H4 D (.lst (acc++[y]))) else Nx H3):=by
  have up:∀{H:Hp} {o:HO},∀b q,b≠D→H b=some q→(upd H D o) b=some q:=fun {H o} b q hb e=>by rw [upd_ne hb];exact e
  let Pv:Nat→Hp→Prop:=fun i H=>Same H1 H∧∃acc,H D=some (.lst acc)∧acc.length≤i∧R i acc H
  refine ⟨fun i m H=>m=n - i∧i≤n∧Pv i H,⟨n,by simp,Nat.zero_le _,Same.mk hD,[],upd_same,Nat.le_refl _,mono _ _ _ _ (.inl hD) up h0⟩,?_⟩
  rintro i m H ⟨rfl,hi,s1,acc,hacc,hlen,r⟩
  by_cases hlt:i<n
  · refine .inr ⟨go i H hlt s1,Pv (i + 1),fun H' p'=>⟨n - (i + 1),by omega,rfl,hlt,p'⟩,fun x H' y=>?_⟩
    refine hs i x H H' acc (Pv (i + 1)) hlt s1 hacc r y (fun H3 s3 r3=>⟨s1.trans s3,acc,s3 _ _ hacc,by omega,r3⟩) (fun y H4 s4 r4=>?_)
    refine ⟨acc,s4 _ _ hacc,Nat.lt_of_le_of_lt (show acc.length≤1000 by omega) (by decide),(s1.trans s4).put hD,acc++[y],upd_same,?_,mono _ _ _ _ (.inr ⟨acc,s4 _ _ hacc⟩) up r4⟩
    rw [List.length_append,List.length_singleton];omega
  · have e:i=n:=by omega
    subst e
    exact .inl ⟨stop H s1,hd H acc s1 hacc r⟩
theorem call_lenR {X:Cx}:CallR X (.builtin "len") (fun xs H Q=>∃a kvs,xs=[V.ref a]∧Rd H a (.dK kvs)∧Q (.int kvs.length) H):=by
  intro pins s σ H xs us Q I r h
  obtain ⟨a,kvs,rfl,ha,q⟩:=h
  obtain ⟨u,rfl,ru⟩:=vals1 r
  cases ru
  exact d_len I ha fun t s' I'=>⟨.int kvs.length,H,I',⟨t,rfl⟩,q⟩
def tCutP (t:TT):TT:=fun σ H Q=>∃c:Bool,(t σ H fun b H'=>b=c∧H' = H)∧Q c H
def tCutS (t:TT):TT:=fun σ H Q=>∃c:Bool,(t σ H fun b H'=>b=c∧Same H H')∧∀H',Same H H'→Q c H'
theorem pt_cutP {X:Cx} {e:Expr} {t:TT} (h:PT X e t):PT X e (tCutP t):=by
  intro pins s σ H Q I ⟨c,h1,h2⟩
  refine thn (h pins s σ H _ I h1) fun b s1 ⟨H',I',e,eH⟩=>⟨H',I',?_⟩
  subst e eH
  exact h2
theorem pt_cutS {X:Cx} {e:Expr} {t:TT} (h:PT X e t):PT X e (tCutS t):=by
  intro pins s σ H Q I ⟨c,h1,h2⟩
  refine thn (h pins s σ H _ I h1) fun b s1 ⟨H',I',e,eH⟩=>⟨H',I',?_⟩
  subst e
  exact h2 _ eH
theorem and_c {c d:Bool} {A:Prop} {H:Hp} (h:c=true→A):if c=true then A else (false=(c && d)∧H=H):=by
  cases c with
  | true=>exact iteT (h rfl)
  | false=>exact iteF ⟨rfl,rfl⟩
theorem or_c {c d:Bool} {A:Prop} {H:Hp} (h:c=false→A):if c=true then (true=(c || d)∧H=H) else A:=by
  cases c with
  | true=>exact iteT ⟨rfl,rfl⟩
  | false=>exact iteF (h rfl)
theorem hu64_of {A:Around} {k:Nat} (hr:Room k A):A.units + 70<cLine:=by have:=hr.un;omega
theorem pe_fldK {X:Cx} {e:Expr} {f:Str} {pos:Pos} {ta:TE} (K':PySem.W.Frag) (hK:X.K=K') (he:PE X e ta) (hb:attributeBase e f X.env (eval e X.env)=eval e X.env):PE X (.Attribute e f pos) (tFld K' ta f):=by
  subst hK;exact pe_fld he hb
theorem ix_listK {X:Cx} (K':PySem.W.Frag) (hK:X.K=K'):IxR X (rIxL K'):=by
  subst hK;exact ix_list
theorem ix_tupK {X:Cx} (K':PySem.W.Frag) (hK:X.K=K'):IxR X (rIxT K'):=by
  subst hK;exact ix_tup
theorem op_catTK {X:Cx} (K':PySem.W.Frag) (hK:X.K=K'):OpR X (binaryOp .Add) (rCatT K'):=by
  subst hK;exact op_catT
theorem pg_tupK {X:Cx} {es:List Expr} {k:Nat} {pos:Pos} {t:TGs} {n:Nat} (K':PySem.W.Frag) (hK:X.K=K') (hc:X.calm=true) (h:PGs X es t)
    (hn:(assignEach es X.env).length=n:=by rfl) (hst:(assignEach es X.env).findIdx? (·.1)=none:=by rfl):PG X (.Tuple es k pos) (gTup K' n t):=by
  subst hK;exact pg_tup hc h hn hst
end L2
end
section
namespace Sb
open PySem PySem.Spec PyProof.Rows L2
section
variable {K:PySem.W.Frag} {mg:Str→Option Value} {H:Hp} {b a:Addr} {A:Ads} {B:Bd}
theorem BdAt.prov (h:BdAt mg H b A B) {p:Int} (hp:IsP B p):∃a x,A.ps[p.toNat]? = some a∧B.provs[p.toNat]? = some x∧PrAt mg H a x:=by
  unfold IsP at hp
  have hi:p.toNat<B.provs.length:=by omega
  have hl:A.ps.length=B.provs.length:=Paired.length h.pa
  obtain ⟨x,h1,h2⟩:=paired_get h.pa (List.getElem?_eq_getElem (show p.toNat<A.ps.length by omega))
  exact ⟨_,x,List.getElem?_eq_getElem _,h1,h2⟩
theorem BdAt.pat (h:BdAt mg H b A B) {p:Int} (hp:IsP B p) {a:Addr} (ha:A.ps[p.toNat]? = some a):atI (A.ps.map V.ref) p=some (.ref a) :=
  at_of (j:=p.toNat) (by unfold IsP at hp;omega) (by rw [List.getElem?_map,ha];rfl)
theorem BdAt.plen (h:BdAt mg H b A B):A.ps.length=B.provs.length:=Paired.length h.pa
end
theorem decV (a b:Int):decide (V.int a=V.int b)=decide (a=b):=by
  by_cases h:a=b
  · subst h;simp
  · have h':¬ V.int a=V.int b:=fun z=>h (V.int.inj z)
    rw [decide_eq_false h,decide_eq_false h']
theorem decS (a b:Str):decide (V.str a=V.str b)=decide (a=b):=by
  by_cases h:a=b
  · subst h;simp
  · have h':¬ V.str a=V.str b:=fun z=>h (V.str.inj z)
    rw [decide_eq_false h,decide_eq_false h']
theorem valLand (l:List (Int×Int)) (k:Int×Int):(valV (l.map kLand) [Sum.inl k.1,Sum.inl k.2]).isSome=decide (k∈l):=by
  rw [← valV_any,List.any_map,Bool.eq_iff_iff,List.any_eq_true,decide_eq_true_iff]
  constructor
  · rintro ⟨x,hx,e⟩
    have e:[Sum.inl x.1,Sum.inl x.2]=([Sum.inl k.1,Sum.inl k.2]:List Key):=of_decide_eq_true e
    simp only [List.cons.injEq,Sum.inl.injEq,and_true] at e
    rw [show k=x from Prod.ext e.1.symm e.2.symm];exact hx
  · intro h
    exact ⟨k,h,decide_eq_true rfl⟩
theorem valSea (l:List (Int×Int×Int×Int)) (k:Int×Int×Int×Int):(valV (l.map kSea) [Sum.inl k.1,Sum.inl k.2.1,Sum.inl k.2.2.1,Sum.inl k.2.2.2]).isSome=decide (k∈l):=by
  rw [← valV_any,List.any_map,Bool.eq_iff_iff,List.any_eq_true,decide_eq_true_iff]
  constructor
  · rintro ⟨x,hx,e⟩
    have e:[Sum.inl x.1,Sum.inl x.2.1,Sum.inl x.2.2.1,Sum.inl x.2.2.2]=([Sum.inl k.1,Sum.inl k.2.1,Sum.inl k.2.2.1,Sum.inl k.2.2.2]:List Key):=of_decide_eq_true e
    simp only [List.cons.injEq,Sum.inl.injEq,and_true] at e
    rw [show k=x from Prod.ext e.1.symm (Prod.ext e.2.1.symm (Prod.ext e.2.2.1.symm e.2.2.2.symm))];exact hx
  · intro h
    exact ⟨k,h,decide_eq_true rfl⟩
theorem dgetK {H:Hp} {a:Addr} {kvs:List (Key×V)} (h:Rd H a (.dK kvs)) (p:Int):DGet H a (.int p) (valV kvs (Sum.inl p)):=.inl ⟨kvs,Sum.inl p,h,rfl,rfl⟩
theorem valI (l:List Int) (p:Int):(valV (l.map kInt) (Sum.inl p)).isSome=decide (p∈l):=by
  rw [valInts]
  by_cases h:p∈l
  · rw [if_pos h,decide_eq_true h];rfl
  · rw [if_neg h,decide_eq_false h];rfl
theorem Dc.some {α:Type} {R:Addr→α→Prop} {kvs:List (Key×V)} {l:List (Int × α)} (h:Dc R kvs l) (p:Int):(valV kvs (Sum.inl p)).isSome=(look l p).isSome:=by
  rcases h.val p with ⟨a,x,h1,h2,_⟩ | ⟨h1,h2⟩
  · rw [h1,h2];rfl
  · rw [h1,h2];rfl
end Sb
end
section
namespace Sb
open PySem PySem.Spec PyProof.Rows L2
def tag:HO→Nat
  | .lst _=>1
  | .tup _=>2
  | .dK _=>3
  | .dT _=>3
  | .ins _ _ []=>9
  | .ins _ _ (x::_)=>if x.1=("power" : Str) then 5 else if x.1=("kind" : Str) then 6 else if x.1=("unit" : Str) then 7 else if x.1=("provinces" : Str) then 8 else 9
  | .frz _ u=>tag u
  | _=>0
theorem ne_tag {H:Hp} {a x:Addr} {o u:HO} (h1:H a=some o) (h2:H x=some u) (h:tag o≠tag u):a≠x:=ne_of h1 h2 fun z=>h (by rw [z])
theorem tag_bd {C dx:Addr} (A:Ads):tag (.ins C dx (fBd A))=8:=rfl
theorem tag_pr {C dx:Addr} (p:Prov):tag (.ins C dx (fProv p))=6:=rfl
theorem tag_un {C dx:Addr} (p:Unt):tag (.ins C dx (fUnt p))=5:=rfl
theorem tag_dr {C dx ua:Addr} (p:Drv) (g:V):tag (.ins C dx (fDrv ua p g))=7:=rfl
section
variable {mg:Str→Option Value} {H H':Hp} {b x a:Addr} {A:Ads} {B:Bd} {ox:HO}
def Kp (x:Addr) (H H':Hp):Prop:=∀a o,H a=some o→a≠x→H' a=some o
theorem Kp.rd (k:Kp x H H') {u:HO} (h:Rd H a u) (ne:a≠x):Rd H' a u:=by
  rcases h with h | ⟨o,h⟩
  · exact .inl (k _ _ h ne)
  · exact .inr ⟨o,k _ _ h ne⟩
theorem Kp.pr (k:Kp x H H') (hx:H x=some ox) (ht:tag ox≠6) {p:Prov} (h:PrAt mg H a p):PrAt mg H' a p:=let ⟨dx,e⟩:=h;⟨dx,k _ _ e (ne_tag e hx (by rw [tag_pr];exact ht.symm))⟩
theorem Kp.un (k:Kp x H H') (hx:H x=some ox) (ht:tag ox≠5) {p:Unt} (h:UnAt mg H a p):UnAt mg H' a p:=let ⟨dx,e⟩:=h;⟨dx,k _ _ e (ne_tag e hx (by rw [tag_un];exact ht.symm))⟩
theorem Kp.go (k:Kp x H H') (hx:H x=some ox) (ht:tag ox≠2) {v:V} {g:Option (Int×Int)} (h:GoAt H v g):GoAt H' v g:=by
  cases g with
  | none=>exact h
  | some y=>obtain ⟨a,e,q⟩:=h;exact ⟨a,e,k _ _ q (ne_tag q hx (fun z=>ht z.symm))⟩
theorem Kp.dr (k:Kp x H H') (hx:H x=some ox) (h5:tag ox≠5) (h2:tag ox≠2) {p:Drv} (h:DrAt mg H a p) (ne:a≠x):DrAt mg H' a p :=
  let ⟨dx,ua,gv,e,u,g⟩:=h;⟨dx,ua,gv,k _ _ e ne,k.un hx h5 u,k.go hx h2 g⟩
theorem DrAt.ne (h:DrAt mg H a p) (hx:H x=some ox) (h7:tag ox≠7):a≠x:=let ⟨dx,ua,gv,e,u,g⟩:=h;ne_tag e hx (by rw [tag_dr];exact h7.symm)
structure Kept (mg:Str→Option Value) (H H':Hp) (b x:Addr) (t:Nat) (A:Ads) (B:Bd):Prop where
  obj:t≠8→H' b=some (.ins (adr mg "Board") A.dx (fBd A))
  pl:t≠1→H' A.pl=some (.lst (A.ps.map V.ref))
  pa:t≠6→Paired (PrAt mg H') A.ps B.provs
  la:A.la≠x→Rd H' A.la (.dT (B.land.map kLand))
  se:A.se≠x→Rd H' A.se (.dT (B.sea.map kSea))
  un:A.un≠x→Rd H' A.un (.dK A.ku)
  ua:t≠5→Dc (UnAt mg H') A.ku B.units
  dr:A.dr≠x→Rd H' A.dr (.dK A.kd)
  da:t≠5→t≠2→t≠7→Dc (DrAt mg H') A.kd B.driven
  ba:A.ba≠x→Rd H' A.ba (.dK (B.barred.map kInt))
  ra:A.ra≠x→Rd H' A.ra (.dK A.kr)
  raa:t≠5→Dc (UnAt mg H') A.kr B.raises
  dp:A.dp≠x→Rd H' A.dp (.dK (B.drops.map kInt))
theorem BdAt.kept (h:BdAt mg H b A B) (hx:H x=some ox) (k:Kp x H H'):Kept mg H H' b x (tag ox) A B where
  obj:=fun t=>k _ _ h.obj (ne_tag h.obj hx (by rw [tag_bd];exact t.symm))
  pl:=fun t=>k _ _ h.pl (ne_tag h.pl hx (fun z=>t z.symm))
  pa:=fun t=>Paired.map' (fun _ _ q=>k.pr hx t q) h.pa
  la:=fun t=>k.rd h.la t
  se:=fun t=>k.rd h.se t
  un:=fun t=>k.rd h.un t
  ua:=fun t=>h.ua.imp fun _ _ q=>k.un hx t q
  dr:=fun t=>k.rd h.dr t
  da:=fun t5 t2 t7=>h.da.imp fun _ _ q=>k.dr hx t5 t2 q (q.ne hx t7)
  ba:=fun t=>k.rd h.ba t
  ra:=fun t=>k.rd h.ra t
  raa:=fun t=>h.raa.imp fun _ _ q=>k.un hx t q
  dp:=fun t=>k.rd h.dp t
theorem Kp.of {H1:Hp} (s:Same H H1) {o:HO}:Kp x H (upd H1 x o):=fun a q e ne=>by rw [upd_ne ne];exact s _ _ e
theorem rd_tag {u:HO} (h:Rd H a u):∃o,H a=some o∧tag o=tag u:=by
  rcases h with h | ⟨o,h⟩
  · exact ⟨_,h,rfl⟩
  · exact ⟨_,h,rfl⟩
theorem BdAt.dtag (h:BdAt mg H b A B) (ha:a∈dicts A):∃o,H a=some o∧tag o=3:=by
  unfold dicts at ha
  simp only [List.mem_cons,List.not_mem_nil,or_false] at ha
  rcases ha with e | e | e | e | e | e | e <;> rw [e]
  · exact rd_tag h.la
  · exact rd_tag h.se
  · exact rd_tag h.un
  · exact rd_tag h.dr
  · exact rd_tag h.ba
  · exact rd_tag h.ra
  · exact rd_tag h.dp
theorem BdAt.dne (h:BdAt mg H b A B) (ha:a∈dicts A) (hx:H x=some ox) (ht:tag ox≠3):a≠x:=by
  obtain ⟨o,e,t⟩:=h.dtag ha
  exact ne_tag e hx (by rw [t];exact ht.symm)
theorem BdAt.foot (h:BdAt mg H b A B) (hf:Foot b A a):∃o,H a=some o:=by
  rcases hf with e | e | e | e | e
  · rw [e];exact ⟨_,h.obj⟩
  · rw [e];exact ⟨_,h.pl⟩
  · obtain ⟨o,q,_⟩:=h.dtag e;exact ⟨o,q⟩
  · obtain ⟨i,hi⟩:=List.mem_iff_getElem?.mp e
    obtain ⟨p,_,dx,q⟩:=paired_get h.pa hi
    exact ⟨_,q⟩
  · obtain ⟨kv,hk,e⟩:=List.mem_map.mp e
    obtain ⟨i,hi⟩:=List.mem_iff_getElem?.mp hk
    obtain ⟨p,d,a',h1,h2,h3,dx,ua,gv,q,_⟩:=h.da.get (k:=kv.1) (v:=kv.2) hi
    rw [h3] at e
    cases e
    exact ⟨_,q⟩
structure Frm (b:Addr) (A A':Ads) (H H':Hp):Prop where
  keep:∀a o,H a=some o→¬ Foot b A a→H' a=some o
  new:∀a,Foot b A' a→Foot b A a∨H a=none
  there:∀a o,H a=some o→∃o',H' a=some o'
theorem Frm.same (s:Same H H'):Frm b A A H H':=⟨fun a o e _=>s a o e,fun _ h=>.inl h,fun a o e=>⟨o,s a o e⟩⟩
theorem Frm.trans {A1 A2:Ads} {H1 H2:Hp} (f:Frm b A A1 H H1) (g:Frm b A1 A2 H1 H2) (th:∀a,Foot b A a→∃o,H a=some o):Frm b A A2 H H2 where
  keep:=fun a o e n=>g.keep a o (f.keep a o e n) fun z=>by
    rcases f.new a z with q | q
    · exact n q
    · rw [q] at e;cases e
  new:=fun a z=>by
    rcases g.new a z with q | q
    · exact f.new a q
    · by_cases n:Foot b A a
      · exact .inl n
      · refine .inr ?_
        cases e:H a with
        | none=>rfl
        | some o=>rw [f.keep a o e n] at q;cases q
  there:=fun a o e=>let ⟨o',e'⟩:=f.there a o e;g.there a o' e'
theorem Wr.same (w:Wr H A) (h:BdAt mg H b A B) (s:Same H H'):Wr H' A:=fun a ha o u z=>by
  obtain ⟨o',e,_⟩:=h.dtag ha
  rw [s a o' e] at z
  cases z
  exact w a ha _ _ e
def spEnd (mg:Str→Option Value) (b:Addr) (A:Ads) (H:Hp) (B':Bd) (out:List Int) (Q:VK):Prop:=∀(H':Hp) (A':Ads) (p:Addr),BdAt mg H' b A' B'→Wr H' A'→Frm b A A' H H'→H' p=some (.lst (out.map V.int))→H p=none→¬ Foot b A' p→Q (.ref p) H'
theorem Frm.none {A':Ads} (f:Frm b A A' H H') {p:Addr} (h:H' p=Option.none):H p=Option.none:=by
  cases e:H p with
  | none=>rfl
  | some o=>obtain ⟨o',e'⟩:=f.there p o e;rw [h] at e';cases e'
theorem spEnd.at_ {H1:Hp} {A1:Ads} {B1:Bd} {out:List Int} {Q:VK} {p:Addr} (k:spEnd mg b A H B1 out Q) (h1:BdAt mg H1 b A1 B1) (w1:Wr H1 A1) (f:Frm b A A1 H H1) (hp:H1 p=some (.lst (out.map V.int))) (hn:H p=Option.none) (nf:¬ Foot b A1 p):Q (.ref p) H1 :=
  k H1 A1 p h1 w1 f hp hn nf
theorem spEnd.done {H1:Hp} {A1:Ads} {B1:Bd} {out:List Int} {Q:VK} {p:Addr} {l:List V} (k:spEnd mg b A H B1 out Q) (h:BdAt mg H b A B) (h1:BdAt mg H1 b A1 B1) (w1:Wr H1 A1) (f:Frm b A A1 H H1) (hp:H1 p=Option.none) (e:l=out.map V.int):Q (.ref p) (upd H1 p (.lst l)):=by
  have s:Same H1 (upd H1 p (.lst l)):=Same.mk hp
  refine k _ A1 p (h1.same s) (w1.same h1 s) (f.trans (Frm.same s) fun a z=>h.foot z) (by rw [e];exact upd_same) (f.none hp) fun z=>?_
  obtain ⟨o,q⟩:=h1.foot z
  rw [hp] at q
  cases q
end
end Sb
end
section
namespace Sb
open PySem PySem.Spec PyProof.Rows L2
theorem one_ok:1≤sizeLine:=by decide
section
variable {mg:Str→Option Value} {H0 H:Hp} {b a:Addr} {A:Ads} {B:Bd}
theorem spEnd.ret {H1:Hp} {out:List Int} {Q:VK} {p:Addr} {l:List V} (k:spEnd mg b A H B out Q) (hB:BdAt mg H b A B) (hW:Wr H A) (s:Same H H1) (hp:H1 p=none) (e:l=out.map V.int):Q (.ref p) (upd H1 p (.lst l)) :=
  k.done hB (hB.same s) (hW.same hB s) (Frm.same s) hp e
theorem Wr.at_ (w:Wr H A) (ha:a∈dicts A) {u:HO} (h:Rd H a u):H a=some u:=by
  rcases h with h | ⟨o,h⟩
  · exact h
  · exact absurd h (w a ha o u)
theorem frm_upd {A':Ads} {o:HO} (s:Same H0 H) (ha:a∈dicts A) (hd:dicts A' = dicts A) (hpl:A'.pl=A.pl) (hps:∀x∈A'.ps,x∈A.ps) (hkd:∀x,V.ref x∈A'.kd.map (·.2)→V.ref x∈A.kd.map (·.2)∨H0 x=none):Frm b A A' H0 (upd H a o) where
  keep:=fun x q e nf=>by
    have ne:x≠a:=fun z=>nf (.inr (.inr (.inl (by rw [z];exact ha))))
    rw [upd_ne ne]
    exact s _ _ e
  new:=fun x z=>by
    rcases z with e | e | e | e | e
    · exact .inl (.inl e)
    · exact .inl (.inr (.inl (by rw [e,hpl])))
    · exact .inl (.inr (.inr (.inl (by rw [← hd];exact e))))
    · exact .inl (.inr (.inr (.inr (.inl (hps x e)))))
    · rcases hkd x e with q | q
      · exact .inl (.inr (.inr (.inr (.inr q))))
      · exact .inr q
  there:=fun x q e=>by
    by_cases z:x=a
    · rw [z];exact ⟨_,upd_same⟩
    · exact ⟨q,by rw [upd_ne z];exact s _ _ e⟩
theorem wr_upd {o:HO} (w:Wr H A) (ho:∀q u,o≠.frz q u):Wr (upd H a o) A:=fun x hx q u z=>by
  by_cases e:x=a
  · rw [e,upd_same] at z
    exact ho q u (Option.some.inj z)
  · rw [upd_ne e] at z
    exact w x hx q u z
theorem BdAt.nds (h:BdAt mg H b A B):(A.la≠A.se∧A.la≠A.un∧A.la≠A.dr∧A.la≠A.ba∧A.la≠A.ra∧A.la≠A.dp)∧(A.se≠A.un∧A.se≠A.dr∧A.se≠A.ba∧A.se≠A.ra∧A.se≠A.dp)∧(A.un≠A.dr∧A.un≠A.ba∧A.un≠A.ra∧A.un≠A.dp) ∧
    (A.dr≠A.ba∧A.dr≠A.ra∧A.dr≠A.dp)∧(A.ba≠A.ra∧A.ba≠A.dp)∧A.ra≠A.dp:=by
  have:=h.nd
  simp only [dicts,List.nodup_cons,List.mem_cons,List.not_mem_nil,or_false,not_or,List.nodup_nil,and_true,not_false_eq_true] at this
  exact this
theorem BdAt.set_la (h:BdAt mg H b A B) (w:Wr H A) (s:Same H0 H) (l:List (Int×Int)) :
    BdAt mg (upd H A.la (.dT (l.map kLand))) b A { B with land:=l }∧Wr (upd H A.la (.dT (l.map kLand))) A∧Frm b A A H0 (upd H A.la (.dT (l.map kLand))):=by
  have hx:=w.at_ (a:=A.la) (by simp [dicts]) h.la
  have n:=h.nds
  have kp:Kp A.la H (upd H A.la (.dT (l.map kLand))):=Kp.of (Same.refl _)
  have kt:Kept mg H (upd H A.la (.dT (l.map kLand))) b A.la 3 A B:=h.kept hx kp
  exact ⟨⟨kt.obj (by decide),kt.pl (by decide),h.pnd,kt.pa (by decide),.inl upd_same,kt.se (Ne.symm n.1.1),kt.un (Ne.symm n.1.2.1),kt.ua (by decide),kt.dr (Ne.symm n.1.2.2.1),kt.da (by decide) (by decide) (by decide),h.dnd,kt.ba (Ne.symm n.1.2.2.2.1),kt.ra (Ne.symm n.1.2.2.2.2.1),kt.raa (by decide),kt.dp (Ne.symm n.1.2.2.2.2.2),h.nd⟩,wr_upd w (fun _ _ z=>nomatch z),frm_upd s (by simp [dicts]) rfl rfl (fun _ q=>q) (fun _ q=>.inl q)⟩
theorem BdAt.set_se (h:BdAt mg H b A B) (w:Wr H A) (s:Same H0 H) (l:List (Int×Int×Int×Int)) :
    BdAt mg (upd H A.se (.dT (l.map kSea))) b A { B with sea:=l }∧Wr (upd H A.se (.dT (l.map kSea))) A∧Frm b A A H0 (upd H A.se (.dT (l.map kSea))):=by
  have hx:=w.at_ (a:=A.se) (by simp [dicts]) h.se
  have n:=h.nds
  have kp:Kp A.se H (upd H A.se (.dT (l.map kSea))):=Kp.of (Same.refl _)
  have kt:Kept mg H (upd H A.se (.dT (l.map kSea))) b A.se 3 A B:=h.kept hx kp
  exact ⟨⟨kt.obj (by decide),kt.pl (by decide),h.pnd,kt.pa (by decide),kt.la n.1.1,.inl upd_same,kt.un (Ne.symm n.2.1.1),kt.ua (by decide),kt.dr (Ne.symm n.2.1.2.1),kt.da (by decide) (by decide) (by decide),h.dnd,kt.ba (Ne.symm n.2.1.2.2.1),kt.ra (Ne.symm n.2.1.2.2.2.1),kt.raa (by decide),kt.dp (Ne.symm n.2.1.2.2.2.2),h.nd⟩,wr_upd w (fun _ _ z=>nomatch z),frm_upd s (by simp [dicts]) rfl rfl (fun _ q=>q) (fun _ q=>.inl q)⟩
theorem BdAt.set_ba (h:BdAt mg H b A B) (w:Wr H A) (s:Same H0 H) (l:List Int) :
    BdAt mg (upd H A.ba (.dK (l.map kInt))) b A { B with barred:=l }∧Wr (upd H A.ba (.dK (l.map kInt))) A∧Frm b A A H0 (upd H A.ba (.dK (l.map kInt))):=by
  have hx:=w.at_ (a:=A.ba) (by simp [dicts]) h.ba
  have n:=h.nds
  have kp:Kp A.ba H (upd H A.ba (.dK (l.map kInt))):=Kp.of (Same.refl _)
  have kt:Kept mg H (upd H A.ba (.dK (l.map kInt))) b A.ba 3 A B:=h.kept hx kp
  exact ⟨⟨kt.obj (by decide),kt.pl (by decide),h.pnd,kt.pa (by decide),kt.la n.1.2.2.2.1,kt.se n.2.1.2.2.1,kt.un n.2.2.1.2.1,kt.ua (by decide),kt.dr n.2.2.2.1.1,kt.da (by decide) (by decide) (by decide),h.dnd,.inl upd_same,kt.ra (Ne.symm n.2.2.2.2.1.1),kt.raa (by decide),kt.dp (Ne.symm n.2.2.2.2.1.2),h.nd⟩,wr_upd w (fun _ _ z=>nomatch z),frm_upd s (by simp [dicts]) rfl rfl (fun _ q=>q) (fun _ q=>.inl q)⟩
theorem BdAt.set_dp (h:BdAt mg H b A B) (w:Wr H A) (s:Same H0 H) (l:List Int) :
    BdAt mg (upd H A.dp (.dK (l.map kInt))) b A { B with drops:=l }∧Wr (upd H A.dp (.dK (l.map kInt))) A∧Frm b A A H0 (upd H A.dp (.dK (l.map kInt))):=by
  have hx:=w.at_ (a:=A.dp) (by simp [dicts]) h.dp
  have n:=h.nds
  have kp:Kp A.dp H (upd H A.dp (.dK (l.map kInt))):=Kp.of (Same.refl _)
  have kt:Kept mg H (upd H A.dp (.dK (l.map kInt))) b A.dp 3 A B:=h.kept hx kp
  exact ⟨⟨kt.obj (by decide),kt.pl (by decide),h.pnd,kt.pa (by decide),kt.la n.1.2.2.2.2.2,kt.se n.2.1.2.2.2.2,kt.un n.2.2.1.2.2.2,kt.ua (by decide),kt.dr n.2.2.2.1.2.2,kt.da (by decide) (by decide) (by decide),h.dnd,kt.ba n.2.2.2.2.1.2,kt.ra n.2.2.2.2.2,kt.raa (by decide),.inl upd_same,h.nd⟩,wr_upd w (fun _ _ z=>nomatch z),frm_upd s (by simp [dicts]) rfl rfl (fun _ q=>q) (fun _ q=>.inl q)⟩
theorem BdAt.set_un (h:BdAt mg H b A B) (w:Wr H A) (s:Same H0 H) {ku:List (Key×V)} {l:List (Int×Unt)} (hd:Dc (UnAt mg H) ku l) :
    BdAt mg (upd H A.un (.dK ku)) b { A with ku:=ku } { B with units:=l }∧Wr (upd H A.un (.dK ku)) { A with ku:=ku }∧Frm b A { A with ku:=ku } H0 (upd H A.un (.dK ku)):=by
  have hx:=w.at_ (a:=A.un) (by simp [dicts]) h.un
  have n:=h.nds
  have kp:Kp A.un H (upd H A.un (.dK ku)):=Kp.of (Same.refl _)
  have kt:Kept mg H (upd H A.un (.dK ku)) b A.un 3 A B:=h.kept hx kp
  exact ⟨⟨kt.obj (by decide),kt.pl (by decide),h.pnd,kt.pa (by decide),kt.la n.1.2.1,kt.se n.2.1.1,.inl upd_same,hd.imp fun _ _ q=>kp.un hx (by show 3≠5;decide) q,kt.dr (Ne.symm n.2.2.1.1),kt.da (by decide) (by decide) (by decide),h.dnd,kt.ba (Ne.symm n.2.2.1.2.1),kt.ra (Ne.symm n.2.2.1.2.2.1),kt.raa (by decide),kt.dp (Ne.symm n.2.2.1.2.2.2),h.nd⟩,wr_upd w (fun _ _ z=>nomatch z),frm_upd s (by simp [dicts]) rfl rfl (fun _ q=>q) (fun _ q=>.inl q)⟩
theorem BdAt.set_ra (h:BdAt mg H b A B) (w:Wr H A) (s:Same H0 H) {ku:List (Key×V)} {l:List (Int×Unt)} (hd:Dc (UnAt mg H) ku l) :
    BdAt mg (upd H A.ra (.dK ku)) b { A with kr:=ku } { B with raises:=l }∧Wr (upd H A.ra (.dK ku)) { A with kr:=ku }∧Frm b A { A with kr:=ku } H0 (upd H A.ra (.dK ku)):=by
  have hx:=w.at_ (a:=A.ra) (by simp [dicts]) h.ra
  have n:=h.nds
  have kp:Kp A.ra H (upd H A.ra (.dK ku)):=Kp.of (Same.refl _)
  have kt:Kept mg H (upd H A.ra (.dK ku)) b A.ra 3 A B:=h.kept hx kp
  exact ⟨⟨kt.obj (by decide),kt.pl (by decide),h.pnd,kt.pa (by decide),kt.la n.1.2.2.2.2.1,kt.se n.2.1.2.2.2.1,kt.un n.2.2.1.2.2.1,kt.ua (by decide),kt.dr n.2.2.2.1.2.1,kt.da (by decide) (by decide) (by decide),h.dnd,kt.ba n.2.2.2.2.1.1,.inl upd_same,hd.imp fun _ _ q=>kp.un hx (by show 3≠5;decide) q,kt.dp (Ne.symm n.2.2.2.2.2),h.nd⟩,wr_upd w (fun _ _ z=>nomatch z),frm_upd s (by simp [dicts]) rfl rfl (fun _ q=>q) (fun _ q=>.inl q)⟩
theorem BdAt.set_dr (h:BdAt mg H b A B) (w:Wr H A) (s:Same H0 H) {ku:List (Key×V)} {l:List (Int×Drv)} (hd:Dc (DrAt mg H) ku l) (hnd:(ku.map (·.2)).Nodup) (hk:∀x,V.ref x∈ku.map (·.2)→V.ref x∈A.kd.map (·.2)∨H0 x=none) :
    BdAt mg (upd H A.dr (.dK ku)) b { A with kd:=ku } { B with driven:=l }∧Wr (upd H A.dr (.dK ku)) { A with kd:=ku }∧Frm b A { A with kd:=ku } H0 (upd H A.dr (.dK ku)):=by
  have hx:=w.at_ (a:=A.dr) (by simp [dicts]) h.dr
  have n:=h.nds
  have kp:Kp A.dr H (upd H A.dr (.dK ku)):=Kp.of (Same.refl _)
  have kt:Kept mg H (upd H A.dr (.dK ku)) b A.dr 3 A B:=h.kept hx kp
  exact ⟨⟨kt.obj (by decide),kt.pl (by decide),h.pnd,kt.pa (by decide),kt.la n.1.2.2.1,kt.se n.2.1.2.1,kt.un n.2.2.1.1,kt.ua (by decide),.inl upd_same,hd.imp fun _ _ q=>kp.dr hx (by show 3≠5;decide) (by show 3≠2;decide) q (q.ne hx (by show 3≠7;decide)),hnd,kt.ba (Ne.symm n.2.2.2.1.1),kt.ra (Ne.symm n.2.2.2.1.2.1),kt.raa (by decide),kt.dp (Ne.symm n.2.2.2.1.2.2),h.nd⟩,wr_upd w (fun _ _ z=>nomatch z),frm_upd s (by simp [dicts]) rfl rfl (fun _ q=>q) (hk)⟩
end
end Sb
end
section
namespace Sb
open PySem PySem.Spec PyProof.Rows L2
def TupsAt (H:Hp) (as:List Addr) (rs:List (List Int)):Prop:=Paired (fun a (r:List Int)=>H a=some (.tup (r.map V.int))) as rs
def LTAt (H:Hp) (p:Addr) (rs:List (List Int)):Prop:=∃as:List Addr,H p=some (.lst (as.map V.ref))∧TupsAt H as rs
def pr2 (x:Int×Int):List Int:=[x.1,x.2]
section
variable {H H':Hp} {as bs:List Addr} {rs qs:List (List Int)} {p D:Addr}
theorem TupsAt.mono (h:TupsAt H as rs) (s:∀a xs,H a=some (.tup xs)→H' a=some (.tup xs)):TupsAt H' as rs:=Paired.map' (fun _ _ q=>s _ _ q) h
theorem TupsAt.same (h:TupsAt H as rs) (s:Same H H'):TupsAt H' as rs:=h.mono fun _ _ e=>s _ _ e
theorem TupsAt.but (h:TupsAt H as rs) {xs:List V} (hD:H D=some (.lst xs)) (s:∀b o,b≠D→H b=some o→H' b=some o):TupsAt H' as rs :=
  h.mono fun a ys e=>s a _ (ne_of e hD (fun z=>nomatch z)) e
theorem TupsAt.butD (h:TupsAt H as rs) (hD:H D=none∨∃l,H D=some (.lst l)) (s:∀b o,b≠D→H b=some o→H' b=some o):TupsAt H' as rs:=by
  rcases hD with hD | ⟨l,hD⟩
  · exact h.mono fun a ys e=>s a _ (ne_of_none e hD) e
  · exact h.but hD s
theorem TupsAt.app (h:TupsAt H as rs) (g:TupsAt H bs qs):TupsAt H (as++bs) (rs++qs):=by
  unfold TupsAt at h
  induction h with
  | nil=>exact g
  | cons r t ih=>exact .cons r ih
theorem TupsAt.snoc (h:TupsAt H as rs) {a:Addr} {r:List Int} (e:H a=some (.tup (r.map V.int))):TupsAt H (as++[a]) (rs++[r]):=h.app (.cons e .nil)
theorem TupsAt.len (h:TupsAt H as rs):as.length=rs.length:=Paired.length h
theorem TupsAt.get (h:TupsAt H as rs) {i:Nat} {a:Addr} (e:as[i]? = some a):∃r,rs[i]? = some r∧H a=some (.tup (r.map V.int)):=paired_get h e
theorem dp_ints {K:PySem.W.Frag}:∀r:List Int,DpAll K H (r.map V.int) (r.map PyData.int)
  | []=>.nil
  | a::r=>.cons (.int a) (dp_ints r)
theorem TupsAt.dp {K:PySem.W.Frag} (h:TupsAt H as rs):DpAll K H (as.map V.ref) (rs.map fun r=>PyData.tuple (r.map PyData.int)):=by
  unfold TupsAt at h
  induction h with
  | nil=>exact .nil
  | cons r t ih=>exact .cons (.tup (SqT.of r) (dp_ints _)) ih
theorem eqv2 (a b c d:Int):PyData.eqv (.tuple ([a,b].map PyData.int)) (.tuple ([c,d].map PyData.int))=decide ((a,b)=(c,d)):=by
  have:PyData.eqv (.tuple ([a,b].map PyData.int)) (.tuple ([c,d].map PyData.int))=((a == c) && ((b == d) && true)):=by rfl
  rw [this,Bool.and_true]
  by_cases h:(a,b)=(c,d)
  · rw [decide_eq_true h]
    obtain ⟨e1,e2⟩:=Prod.mk.inj h
    simp [e1,e2]
  · rw [decide_eq_false h]
    cases e:(a == c && b == d) with
    | false=>rfl
    | true =>
      rw [Bool.and_eq_true,beq_iff_eq,beq_iff_eq] at e
      exact absurd (Prod.ext e.1 e.2) h
theorem any_eqv2 (l:List (Int×Int)) (q:Int×Int):((l.map pr2).map fun r=>PyData.tuple (r.map PyData.int)).any (fun z=>PyData.eqv z (.tuple ((pr2 q).map PyData.int)))=decide (q∈l):=by
  rw [List.map_map,List.any_map,Bool.eq_iff_iff,List.any_eq_true,decide_eq_true_iff]
  constructor
  · rintro ⟨x,hx,e⟩
    have e:PyData.eqv (.tuple ([x.1,x.2].map PyData.int)) (.tuple ([q.1,q.2].map PyData.int))=true:=e
    rw [eqv2,decide_eq_true_iff] at e
    rw [show q=x from Prod.ext (congrArg Prod.fst e).symm (congrArg Prod.snd e).symm]
    exact hx
  · intro h
    refine ⟨q,h,?_⟩
    show PyData.eqv (.tuple ([q.1,q.2].map PyData.int)) (.tuple ([q.1,q.2].map PyData.int))=true
    rw [eqv2];exact decide_eq_true rfl
theorem shaped2 (q:Int×Int):SeqAt.shaped (.tuple ((pr2 q).map PyData.int))=true:=by rfl
theorem shaped2s (l:List (Int×Int)):∀z∈((l.map pr2).map fun r=>PyData.tuple (r.map PyData.int)),SeqAt.shaped z=true:=by
  intro z hz
  obtain ⟨r,hr,rfl⟩:=List.mem_map.mp hz
  obtain ⟨q,_,rfl⟩:=List.mem_map.mp hr
  exact shaped2 q
end
end Sb
end
section
namespace Sb
open PySem PySem.Spec PyProof.Rows L2
def unitsW (l:List (Int×Unt)) (w:Int):List Unt:=(l.filter fun x=>decide (x.2.power=w)).map (·.2)
def dropsW (B:Bd) (w:Int):List Int:=B.drops.filter fun p=>decide ((look B.units p).map (·.power)=some w)
def provsW (f:Prov→Int) (B:Bd) (w:Int):List Int:=((List.range B.provs.length).filter fun i=>decide ((B.provs[i]?.map f)=some w)).map Int.ofNat
def centresW (B:Bd) (w:Int):List Int:=provsW (·.owner) B w
def sitesW (B:Bd) (w:Int):List Int:=(centresW B w).filter fun p=>decide ((B.provs[p.toNat]?.map (·.home))=some w) && (look B.units p).isNone
theorem take_filter {α:Type} {l:List α} {f:α→Bool} {i:Nat} {x:α} (h:l[i]? = some x):(l.take (i + 1)).filter f=(l.take i).filter f++(if f x=true then [x] else []):=by
  rw [List.take_add_one,h,List.filter_append]
  congr 1
  show List.filter f [x]=_
  rw [List.filter_cons]
  split <;> rfl
theorem range_filter_succ (f:Nat→Bool) (i:Nat):(List.range (i + 1)).filter f=(List.range i).filter f++(if f i=true then [i] else []):=by
  rw [List.range_succ,List.filter_append]
  congr 1
  rw [List.filter_cons]
  split <;> rfl
theorem provsW_len (f:Prov→Int) (B:Bd) (w:Int):(provsW f B w).length≤B.provs.length:=by
  unfold provsW
  rw [List.length_map]
  have:=List.length_filter_le (fun i=>decide ((B.provs[i]?.map f)=some w)) (List.range B.provs.length)
  rw [List.length_range] at this
  exact this
theorem provsW_mem {f:Prov→Int} {B:Bd} {w p:Int} (h:p∈provsW f B w):IsP B p:=by
  unfold provsW at h
  obtain ⟨i,hi,rfl⟩:=List.mem_map.mp h
  have:=List.mem_range.mp (List.mem_filter.mp hi).1
  unfold IsP
  exact ⟨Int.natCast_nonneg _,by show (i:Int)<_;omega⟩
def spL (H:Hp) (l:List Int) (Q:VK):Prop:=∀H' p,Same H H'→H p=none→H' p=some (.lst (l.map V.int))→Q (.ref p) H'
def spU (mg:Str→Option Value) (H:Hp) (l:List Unt) (Q:VK):Prop:=∀H' p as,Same H H'→H p=none→H' p=some (.lst (as.map V.ref))→Paired (UnAt mg H') as l→Q (.ref p) H'
section
variable {mg:Str→Option Value} {H H':Hp} {as:List Addr} {us:List Unt} {D:Addr}
theorem uns_butD (h:Paired (UnAt mg H) as us) (hD:H D=none∨∃l,H D=some (.lst l)) (s:∀b o,b≠D→H b=some o→H' b=some o):Paired (UnAt mg H') as us:=by
  refine Paired.map' (fun a u ⟨dx,e⟩=>⟨dx,s a _ ?_ e⟩) h
  rcases hD with q | ⟨l,q⟩
  · exact ne_of_none e q
  · exact ne_of e q (fun z=>nomatch z)
theorem uns_snoc (h:Paired (UnAt mg H) as us) {a:Addr} {u:Unt} (r:UnAt mg H a u):Paired (UnAt mg H) (as++[a]) (us++[u]):=by
  induction h with
  | nil=>exact .cons r .nil
  | cons r t ih=>exact .cons r ih
theorem lock_none {d:Addr} {u:HO} (h:upd H d u D=none):D≠d∧H D=none:=by
  by_cases e:D=d
  · rw [e,upd_same] at h;cases h
  · rw [upd_ne e] at h;exact ⟨e,h⟩
end
def insI (x:Int):List Int→List Int
  | []=>[x]
  | y::l=>if x≤y then x::y::l else y::insI x l
def sortI (l:List Int):List Int:=l.foldr insI []
theorem insI_perm (x:Int):∀l,(insI x l).Perm (x::l)
  | []=>.refl _
  | y::l=>by
    unfold insI
    split
    · exact .refl _
    · exact ((insI_perm x l).cons y).trans (.swap ..)
theorem sortI_perm:∀l,(sortI l).Perm l
  | []=>.refl _
  | x::l=>(insI_perm x _).trans ((sortI_perm l).cons x)
theorem insI_sort {x:Int}:∀{l:List Int},l.Pairwise (· ≤ ·)→(insI x l).Pairwise (· ≤ ·)
  | [],_=>List.pairwise_singleton ..
  | y::l,h=>by
    have h':=List.pairwise_cons.mp h
    unfold insI
    split
    · rename_i e
      refine List.pairwise_cons.mpr ⟨fun z hz=>?_,h⟩
      rcases List.mem_cons.mp hz with q | q
      · rw [q];exact e
      · have:=h'.1 z q;omega
    · rename_i e
      refine List.pairwise_cons.mpr ⟨fun z hz=>?_,insI_sort h'.2⟩
      rcases List.mem_cons.mp ((insI_perm x l).mem_iff.mp hz) with q | q
      · omega
      · exact h'.1 z q
theorem sortI_sort:∀l,(sortI l).Pairwise (· ≤ ·)
  | []=>.nil
  | x::l=>insI_sort (sortI_sort l)
theorem perm_sorted:∀{l m:List Int},l.Perm m→l.Pairwise (· ≤ ·)→m.Pairwise (· ≤ ·)→l=m
  | [],m,h,_,_=>(List.Perm.nil_eq h)
  | x::l,[],h,_,_=>absurd h.length_eq (by simp)
  | x::l,y::m,h,h1,h2=>by
    have h1':=List.pairwise_cons.mp h1
    have h2':=List.pairwise_cons.mp h2
    have e:x=y:=by
      rcases List.mem_cons.mp (h.mem_iff.mp List.mem_cons_self) with q | q
      · exact q
      · rcases List.mem_cons.mp (h.mem_iff.mpr (List.mem_cons_self (a:=y))) with q2 | q2
        · exact q2.symm
        · have a1:=h1'.1 y q2;have a2:=h2'.1 x q;omega
    subst e
    rw [perm_sorted (List.Perm.cons_inv h) h1'.2 h2'.2]
theorem sortI_eq {l m:List Int} (h:l.Perm m) (hs:l.Pairwise (· ≤ ·)):l=sortI m:=perm_sorted (h.trans (sortI_perm m).symm) hs (sortI_sort m)
def inOrd (l:List (Int×Unt)):List Unt:=(sortI (l.map (·.1))).filterMap (look l)
def unum (u:Unt):List Int:=[u.prov,u.power,u.fleet,u.shore]
def rowsU (l:List (Int×Unt)):List Int:=((inOrd l).length:Int)::((inOrd l).map unum).flatten
theorem inOrd_len (l:List (Int×Unt)):(inOrd l).length≤l.length:=by
  unfold inOrd
  have h1:=List.length_filterMap_le (look l) (sortI (l.map (·.1)))
  rw [(sortI_perm _).length_eq,List.length_map] at h1
  exact h1
theorem unum_len (l:List Unt):((l.map unum).flatten).length=4 * l.length:=by
  induction l with
  | nil=>rfl
  | cons a l ih =>
    have e:(((a::l).map unum).flatten).length=4 + ((l.map unum).flatten).length:=by
      rw [List.map_cons,List.flatten_cons,List.length_append];rfl
    rw [e,ih,List.length_cons];omega
def mRaise (B:Bd) (w f p s:Int):Bd×List Int :=
  if 0<B.driven.length then (B,[-7]) else if p∉sitesW B w then (B,[-6]) else if wrong B f p s=true then (B,[-3]) else if (look B.raises p).isSome=true then (B,[-4])
  else if (centresW B w).length - (unitsW B.units w).length≤(unitsW B.raises w).length then (B,[-8]) else if 24≤B.units.length + B.raises.length then (B,[-2])
  else ({ B with raises:=B.raises++[(p,⟨w,f,p,s⟩)] },[0])
def mDrop (B:Bd) (p:Int):Bd×List Int :=
  if 0<B.driven.length then (B,[-7]) else match look B.units p with
    | none=>(B,[-5])
    | some u=>if p∈B.drops then (B,[-4]) else if (unitsW B.units u.power).length - (centresW B u.power).length≤(dropsW B u.power).length then (B,[-8]) else ({ B with drops:=B.drops++[p] },[0])
end Sb
end
section
namespace Sb
open PySem PySem.Spec PyProof.Rows L2
section
variable {P:Program} {w:World} {K:PySem.W.Frag} {mg:Str→Option Value} {base:Heap}
def sp_land_key (K:PySem.W.Frag) (mg:Str→Option Value):Sp:=fun vs H Q _=>∃p q:Int,vs=[.int p,.int q]∧∀H' a,Same H H'→H a=none→H' a=some (.tup [.int (landKey p q).1,.int (landKey p q).2])→Q (.ref a) H'
theorem sc_land_key:FnScope ["p", "q"] ["p", "q"] (defScope s_land_key):=⟨rfl,rfl,rfl,by decide +kernel,rfl,by decide +kernel,by decide +kernel⟩
theorem ok_land_key (T:Txt K mg):Def P w K mg base "land_key" 1 ["p", "q"] (sp_land_key K mg):=by
  obtain ⟨f,fd,hm,F,hb⟩:=T.f_land_key
  refine ⟨f,hm,F.kp,fd,F.ok sc_land_key (fun vs H Q E h=>?_) (fun cdv A outer s H vs Q E hr h=>?_),hb⟩
  · obtain ⟨p,q,rfl,_⟩:=h;rfl
  obtain ⟨p,q,rfl,k⟩:=h
  have hu:=hu_of hr
  have hu64:=hu64_of hr
  have nd:=sc_land_key.nd
  refine ⟨_,(pss_one (ps_ret (pe_ifExp (pt_cmpR op_lt (pv 0) (pv 1) (nomark _)) (pe_tup (pa_cons (pv 0) (pa_cons (pv 1) pa_nil))) (pe_tup (pa_cons (pv 1) (pa_cons (pv 0) pa_nil)))))),?_⟩
  refine ⟨_,rfl,_,rfl,_,_,rfl,rfl,_,rfl,?_⟩
  refine ite2 (fun e=>?_) (fun e=>?_)
  · have e:=of_decide_eq_true e
    refine ⟨_,rfl,_,rfl,(by show 2≤sizeLine;decide),fun a ha=>k _ _ (Same.mk ha) ha ?_⟩
    unfold landKey;rw [if_pos e];exact upd_same
  · have e:¬ p<q:=fun z=>e (decide_eq_true z)
    refine ⟨_,rfl,_,rfl,(by show 2≤sizeLine;decide),fun a ha=>k _ _ (Same.mk ha) ha ?_⟩
    unfold landKey;rw [if_neg e];exact upd_same
def sp_sea_key (K:PySem.W.Frag) (mg:Str→Option Value):Sp:=fun vs H Q _=>∃p s q t:Int,vs=[.int p,.int s,.int q,.int t]∧∀H' a,Same H H'→H a=none→H' a=some (.tup [.int (seaKey p s q t).1,.int (seaKey p s q t).2.1,.int (seaKey p s q t).2.2.1,.int (seaKey p s q t).2.2.2])→Q (.ref a) H'
theorem sc_sea_key:FnScope ["p", "s", "q", "t"] ["p", "s", "q", "t"] (defScope s_sea_key):=⟨rfl,rfl,rfl,by decide +kernel,rfl,by decide +kernel,by decide +kernel⟩
theorem ok_sea_key (T:Txt K mg):Def P w K mg base "sea_key" 1 ["p", "s", "q", "t"] (sp_sea_key K mg):=by
  obtain ⟨f,fd,hm,F,hb⟩:=T.f_sea_key
  refine ⟨f,hm,F.kp,fd,F.ok sc_sea_key (fun vs H Q E h=>?_) (fun cdv A outer s H vs Q E hr h=>?_),hb⟩
  · obtain ⟨p,s,q,t,rfl,_⟩:=h;rfl
  obtain ⟨p,s,q,t,rfl,k⟩:=h
  have hu:=hu_of hr
  have hu64:=hu64_of hr
  have nd:=sc_sea_key.nd
  refine ⟨_,(pss_one (ps_ret (pe_ifExp (pt_cmpR op_lt (pv 0) (pv 2) (nomark _)) (pe_tup (pa_cons (pv 0) (pa_cons (pv 1) (pa_cons (pv 2) (pa_cons (pv 3) pa_nil))))) (pe_tup (pa_cons (pv 2) (pa_cons (pv 3) (pa_cons (pv 0) (pa_cons (pv 1) pa_nil)))))))),?_⟩
  refine ⟨_,rfl,_,rfl,_,_,rfl,rfl,_,rfl,?_⟩
  refine ite2 (fun e=>?_) (fun e=>?_)
  · have e:=of_decide_eq_true e
    refine ⟨_,rfl,_,rfl,_,rfl,_,rfl,(by show 4≤sizeLine;decide),fun a ha=>k _ _ (Same.mk ha) ha ?_⟩
    unfold seaKey;rw [if_pos e];exact upd_same
  · have e:¬ p<q:=fun z=>e (decide_eq_true z)
    refine ⟨_,rfl,_,rfl,_,rfl,_,rfl,(by show 4≤sizeLine;decide),fun a ha=>k _ _ (Same.mk ha) ha ?_⟩
    unfold seaKey;rw [if_neg e];exact upd_same
def sp_is_of_kind (K:PySem.W.Frag) (mg:Str→Option Value):Sp:=fun vs H Q _=>∃(b:Addr) (A:Ads) (B:Bd) (p x:Int),vs=[.ref b,.int p,.int x]∧BdAt mg H b A B∧IsP B p∧Q (.bl (decide (kindAt B p=x))) H
theorem sc_is_of_kind:FnScope ["board", "p", "kind"] ["board", "p", "kind"] (defScope s_is_of_kind):=⟨rfl,rfl,rfl,by decide +kernel,rfl,by decide +kernel,by decide +kernel⟩
theorem ok_is_of_kind (T:Txt K mg):Def P w K mg base "is_of_kind" 1 ["board", "p", "kind"] (sp_is_of_kind K mg):=by
  obtain ⟨f,fd,hm,F,hb⟩:=T.f_is_of_kind
  refine ⟨f,hm,F.kp,fd,F.ok sc_is_of_kind (fun vs H Q E h=>?_) (fun cdv A outer s H vs Q E hr h=>?_),hb⟩
  · obtain ⟨b,A0,B,p,x,rfl,_⟩:=h;rfl
  obtain ⟨b,A0,B,p,x,rfl,hB,hp,k⟩:=h
  have hu:=hu_of hr
  have hu64:=hu64_of hr
  have nd:=sc_is_of_kind.nd
  refine ⟨_,(pss_one (ps_ret (pe_cmpR op_eq (pe_fld (pe_ix ix_list (pe_fld (pv 0) (by rfl)) (pv 1) (fun _ _=>rfl)) (by rfl)) (pv 2) (nomark _)))),?_⟩
  obtain ⟨a,pr,ha,hx,dx,hP⟩:=hB.prov hp
  refine ⟨_,rfl,_,_,_,_,_,rfl,hB.obj,T.k_Board,T.n_Board_provinces,rfl,_,rfl,_,_,_,_,rfl,rfl,SqL.of hB.pl,hB.pat hp ha,_,_,_,_,_,rfl,hP,T.k_Province,T.n_Province_kind,rfl,_,rfl,rfl,?_⟩
  have e:kindAt B p=pr.kind:=by unfold kindAt;rw [hx];rfl
  show Q (V.bl (decide (V.int _=V.int _))) H
  rw [decV,← e]
  exact k
def sp_land_linked (K:PySem.W.Frag) (mg:Str→Option Value):Sp:=fun vs H Q _=>∃(b:Addr) (A:Ads) (B:Bd) (p q:Int),vs=[.ref b,.int p,.int q]∧BdAt mg H b A B∧∀H',Same H H'→Q (.bl (decide (landKey p q∈B.land))) H'
theorem sc_land_linked:FnScope ["board", "p", "q"] ["board", "p", "q"] (defScope s_land_linked):=⟨rfl,rfl,rfl,by decide +kernel,rfl,by decide +kernel,by decide +kernel⟩
theorem ok_land_linked (T:Txt K mg):Def P w K mg base "land_linked" 2 ["board", "p", "q"] (sp_land_linked K mg):=by
  obtain ⟨f,fd,hm,F,hb⟩:=T.f_land_linked
  refine ⟨f,hm,F.kp,fd,F.ok sc_land_linked (fun vs H Q E h=>?_) (fun cdv A outer s H vs Q E hr h=>?_),hb⟩
  · obtain ⟨b,A0,B,p,q,rfl,_⟩:=h;rfl
  obtain ⟨b,A0,B,p,q,rfl,hB,k⟩:=h
  have hu:=hu_of hr
  have hu64:=hu64_of hr
  have nd:=sc_land_linked.nd
  refine ⟨_,(pss_one (ps_ret (pe_cmp (pc_din hu (cl (ok_land_key T) (hr.mono (by decide)) (pa_cons (pv 1) (pa_cons (pv 2) pa_nil))) (pe_fld (pv 0) (by rfl))) (by with_unfolding_all rfl)))),?_⟩
  refine ⟨_,rfl,_,rfl,p,q,rfl,fun H1 a s1 ha hk=>?_⟩
  have hB1:=hB.same s1
  refine ⟨_,rfl,_,_,_,_,_,rfl,hB1.obj,T.k_Board,T.n_Board_land_links,rfl,_,_,rfl,.inr ⟨_,[Sum.inl (landKey p q).1,Sum.inl (landKey p q).2],a,hB1.la,rfl,hk,rfl⟩,?_⟩
  rw [valLand]
  exact k _ s1
def sp_sea_linked (K:PySem.W.Frag) (mg:Str→Option Value):Sp:=fun vs H Q _=>∃(b:Addr) (A:Ads) (B:Bd) (p s q t:Int),vs=[.ref b,.int p,.int s,.int q,.int t]∧BdAt mg H b A B∧∀H',Same H H'→Q (.bl (decide (seaKey p s q t∈B.sea))) H'
theorem sc_sea_linked:FnScope ["board", "p", "s", "q", "t"] ["board", "p", "s", "q", "t"] (defScope s_sea_linked):=⟨rfl,rfl,rfl,by decide +kernel,rfl,by decide +kernel,by decide +kernel⟩
theorem ok_sea_linked (T:Txt K mg):Def P w K mg base "sea_linked" 2 ["board", "p", "s", "q", "t"] (sp_sea_linked K mg):=by
  obtain ⟨f,fd,hm,F,hb⟩:=T.f_sea_linked
  refine ⟨f,hm,F.kp,fd,F.ok sc_sea_linked (fun vs H Q E h=>?_) (fun cdv A outer s H vs Q E hr h=>?_),hb⟩
  · obtain ⟨b,A0,B,p,s',q,t,rfl,_⟩:=h;rfl
  obtain ⟨b,A0,B,p,s',q,t,rfl,hB,k⟩:=h
  have hu:=hu_of hr
  have hu64:=hu64_of hr
  have nd:=sc_sea_linked.nd
  refine ⟨_,(pss_one (ps_ret (pe_cmp (pc_din hu (cl (ok_sea_key T) (hr.mono (by decide)) (pa_cons (pv 1) (pa_cons (pv 2) (pa_cons (pv 3) (pa_cons (pv 4) pa_nil))))) (pe_fld (pv 0) (by rfl))) (by with_unfolding_all rfl)))),?_⟩
  refine ⟨_,rfl,_,rfl,_,rfl,_,rfl,p,s',q,t,rfl,fun H1 a s1 ha hk=>?_⟩
  have hB1:=hB.same s1
  refine ⟨_,rfl,_,_,_,_,_,rfl,hB1.obj,T.k_Board,T.n_Board_sea_links,rfl,_,_,rfl,.inr ⟨_,[Sum.inl (seaKey p s' q t).1,Sum.inl (seaKey p s' q t).2.1,Sum.inl (seaKey p s' q t).2.2.1,Sum.inl (seaKey p s' q t).2.2.2],a,hB1.se,rfl,hk,rfl⟩,?_⟩
  rw [valSea]
  exact k _ s1
def sp_is_wrong_kind (K:PySem.W.Frag) (mg:Str→Option Value):Sp:=fun vs H Q _=>∃(b:Addr) (A:Ads) (B:Bd) (f p s:Int),vs=[.ref b,.int f,.int p,.int s]∧BdAt mg H b A B∧IsP B p∧Q (.bl (wrong B f p s)) H
theorem sc_is_wrong_kind:FnScope ["board", "fleet", "p", "s"] ["board", "fleet", "p", "s"] (defScope s_is_wrong_kind):=⟨rfl,rfl,rfl,by decide +kernel,rfl,by decide +kernel,by decide +kernel⟩
theorem ok_is_wrong_kind (T:Txt K mg):Def P w K mg base "is_wrong_kind" 2 ["board", "fleet", "p", "s"] (sp_is_wrong_kind K mg):=by
  obtain ⟨f,fd,hm,F,hb⟩:=T.f_is_wrong_kind
  refine ⟨f,hm,F.kp,fd,F.ok sc_is_wrong_kind (fun vs H Q E h=>?_) (fun cdv A outer s H vs Q E hr h=>?_),hb⟩
  · obtain ⟨b,A0,B,g,p,s',rfl,_⟩:=h;rfl
  obtain ⟨b,A0,B,g,p,s',rfl,hB,hp,k⟩:=h
  have hu:=hu_of hr
  have hu64:=hu64_of hr
  have nd:=sc_is_wrong_kind.nd
  refine ⟨_,(pss_cons (ps_if (pt_cmpR op_eq (pv 1) pe_int (nomark _))
  (pss_one (ps_ret (cl (ok_is_of_kind T) (hr.mono (by decide)) (pa_cons (pv 0) (pa_cons (pv 2) (pa_cons (pg T.g_LAND) pa_nil))))))
  pss_nil)
 (pss_one (ps_ret (pe_or (cl (ok_is_of_kind T) (hr.mono (by decide)) (pa_cons (pv 0) (pa_cons (pv 2) (pa_cons (pg T.g_SEA) pa_nil)))) (pe_one (pe_cmpR op_ne (pv 3) pe_int (nomark _))))))),?_⟩
  refine ⟨_,rfl,rfl,_,rfl,?_⟩
  unfold wrong at k
  refine ite2 (fun e=>?_) (fun e=>?_)
  · have e:g=1:=by rw [decV] at e;exact of_decide_eq_true e
    rw [if_pos e] at k
    exact ⟨_,rfl,_,rfl,b,A0,B,p,0,rfl,hB,hp,k⟩
  · have e:¬ g=1:=fun z=>e (by rw [decV];exact decide_eq_true z)
    rw [if_neg e] at k
    refine ⟨_,rfl,_,rfl,b,A0,B,p,1,rfl,hB,hp,_,rfl,?_⟩
    refine ite2 (fun e=>?_) (fun e=>?_)
    · rw [e] at k;exact k
    · rw [Bool.eq_false_iff.mpr e,Bool.false_or] at k
      refine ⟨_,rfl,rfl,?_⟩
      show Q (V.bl (!decide (V.int s' = V.int 0))) H
      rw [decV,← decide_not]
      exact k
def sp_is_full_of_units (K:PySem.W.Frag) (mg:Str→Option Value):Sp:=fun vs H Q _=>∃(b:Addr) (A:Ads) (B:Bd),vs=[.ref b]∧BdAt mg H b A B∧Q (.bl (decide (24≤B.units.length + B.driven.length))) H
theorem sc_is_full_of_units:FnScope ["board"] ["board"] (defScope s_is_full_of_units):=⟨rfl,rfl,rfl,by decide +kernel,rfl,by decide +kernel,by decide +kernel⟩
theorem ok_is_full_of_units (T:Txt K mg):Def P w K mg base "is_full_of_units" 1 ["board"] (sp_is_full_of_units K mg):=by
  obtain ⟨f,fd,hm,F,hb⟩:=T.f_is_full_of_units
  refine ⟨f,hm,F.kp,fd,F.ok sc_is_full_of_units (fun vs H Q E h=>?_) (fun cdv A outer s H vs Q E hr h=>?_),hb⟩
  · obtain ⟨b,A0,B,rfl,_⟩:=h;rfl
  obtain ⟨b,A0,B,rfl,hB,k⟩:=h
  have hu:=hu_of hr
  have hu64:=hu64_of hr
  have nd:=sc_is_full_of_units.nd
  refine ⟨_,(pss_one (ps_ret (pe_cmpR op_ge (pe_op op_add (pe_callB call_lenR (by rfl) T.n_len PySem.boot_len (pa_cons (pe_fld (pv 0) (by rfl)) pa_nil)) (pe_callB call_lenR (by rfl) T.n_len PySem.boot_len (pa_cons (pe_fld (pv 0) (by rfl)) pa_nil))) (pg T.g_MOST_UNITS) (nomark _)))),?_⟩
  refine ⟨_,rfl,_,_,_,_,_,rfl,hB.obj,T.k_Board,T.n_Board_units,rfl,_,_,rfl,hB.un,?_⟩
  refine ⟨_,rfl,_,_,_,_,_,rfl,hB.obj,T.k_Board,T.n_Board_driven,rfl,_,_,rfl,hB.dr,_,_,rfl,rfl,_,_,rfl,rfl,?_⟩
  show Q (V.bl (decide ((24:Int)≤(A0.ku.length:Int) + (A0.kd.length:Int)))) H
  have e:decide ((24:Int)≤(A0.ku.length:Int) + (A0.kd.length:Int))=decide (24≤B.units.length + B.driven.length):=by
    rw [hB.ua.len,hB.da.len];apply decide_eq_decide.mpr;omega
  rw [e]
  exact k
end
end Sb
end
section
namespace Sb
open PySem PySem.Spec PyProof.Rows L2
section
variable {P:Program} {w:World} {K:PySem.W.Frag} {mg:Str→Option Value} {base:Heap}
def mkI (H:Hp) (x dx C:Addr) (fs:List (Str×V)):Hp:=upd (upd H dx (.own x)) x (.ins C dx fs)
theorem mkI_same {H:Hp} {x dx C:Addr} {fs:List (Str×V)} (h1:H x=none) (h2:H dx=none):Same H (mkI H x dx C fs):=(Same.mk h2).put h1
def sp_Province_init (K:PySem.W.Frag) (mg:Str→Option Value):Sp:=fun vs H Q _=>∃(x dx:Addr) (a b c:Int),vs=[.ref x,.int a,.int b,.int c]∧H x=some (.ins (adr mg "Province") dx [])∧Q .non (upd H x (.ins (adr mg "Province") dx (fProv ⟨a,b,c,-1⟩)))
theorem sc_Province_init:FnScope ["self", "kind", "centre", "home"] ["self", "kind", "centre", "home"] (defScope s_Province_init):=⟨rfl,rfl,rfl,by decide +kernel,rfl,by decide +kernel,by decide +kernel⟩
theorem ok_Province_init (T:Txt K mg):CDef P w K mg base "Province" (adr mg "Province") 1 ["self", "kind", "centre", "home"] (sp_Province_init K mg):=by
  obtain ⟨f,fd,M,F,hb⟩:=T.i_Province
  refine ⟨T.a_Province,f,M,F.kp,fd,F.ok sc_Province_init (fun vs H Q E h=>?_) (fun cdv A outer s H vs Q E hr h=>?_),hb⟩
  · obtain ⟨x,dx,a,b,c,rfl,_⟩:=h;rfl
  obtain ⟨x,dx,a,b,c,rfl,hx,k⟩:=h
  have hu:=hu_of hr
  have hu64:=hu64_of hr
  have nd:=sc_Province_init.nd
  refine ⟨_,(pss_cons (ps_fld (pv 0) (pv 1) rfl)
 (pss_cons (ps_fld (pv 0) (pv 2) rfl)
 (pss_cons (ps_fld (pv 0) (pv 3) rfl)
 (pss_one (ps_fld (pv 0) (pg T.g_NOBODY) rfl))))),?_⟩
  refine ⟨_,rfl,_,rfl,x,_,dx,[],rfl,hx,T.k_Province,T.n_Province_kind,(by show 0<1000;decide),?_⟩
  refine ⟨_,rfl,_,rfl,x,_,dx,_,rfl,upd_same,T.k_Province,T.n_Province_centre,(by show 1<1000;decide),?_⟩
  refine ⟨_,rfl,_,rfl,x,_,dx,_,rfl,upd_same,T.k_Province,T.n_Province_home,(by show 2<1000;decide),?_⟩
  refine ⟨_,rfl,x,_,dx,_,rfl,upd_same,T.k_Province,T.n_Province_owner,(by show 3<1000;decide),?_⟩
  rw [upd_upd,upd_upd,upd_upd]
  exact k
def sp_Unit_init (K:PySem.W.Frag) (mg:Str→Option Value):Sp:=fun vs H Q _=>∃(x dx:Addr) (a b c d:Int),vs=[.ref x,.int a,.int b,.int c,.int d]∧H x=some (.ins (adr mg "Unit") dx [])∧Q .non (upd H x (.ins (adr mg "Unit") dx (fUnt ⟨a,b,c,d⟩)))
theorem sc_Unit_init:FnScope ["self", "power", "fleet", "province", "shore"] ["self", "power", "fleet", "province", "shore"] (defScope s_Unit_init):=⟨rfl,rfl,rfl,by decide +kernel,rfl,by decide +kernel,by decide +kernel⟩
theorem ok_Unit_init (T:Txt K mg):CDef P w K mg base "Unit" (adr mg "Unit") 1 ["self", "power", "fleet", "province", "shore"] (sp_Unit_init K mg):=by
  obtain ⟨f,fd,M,F,hb⟩:=T.i_Unit
  refine ⟨T.a_Unit,f,M,F.kp,fd,F.ok sc_Unit_init (fun vs H Q E h=>?_) (fun cdv A outer s H vs Q E hr h=>?_),hb⟩
  · obtain ⟨x,dx,a,b,c,d,rfl,_⟩:=h;rfl
  obtain ⟨x,dx,a,b,c,d,rfl,hx,k⟩:=h
  have hu:=hu_of hr
  have hu64:=hu64_of hr
  have nd:=sc_Unit_init.nd
  refine ⟨_,(pss_cons (ps_fld (pv 0) (pv 1) rfl)
 (pss_cons (ps_fld (pv 0) (pv 2) rfl)
 (pss_cons (ps_fld (pv 0) (pv 3) rfl)
 (pss_one (ps_fld (pv 0) (pv 4) rfl))))),?_⟩
  refine ⟨_,rfl,_,rfl,x,_,dx,[],rfl,hx,T.k_Unit,T.n_Unit_power,(by show 0<1000;decide),?_⟩
  refine ⟨_,rfl,_,rfl,x,_,dx,_,rfl,upd_same,T.k_Unit,T.n_Unit_fleet,(by show 1<1000;decide),?_⟩
  refine ⟨_,rfl,_,rfl,x,_,dx,_,rfl,upd_same,T.k_Unit,T.n_Unit_province,(by show 2<1000;decide),?_⟩
  refine ⟨_,rfl,_,rfl,x,_,dx,_,rfl,upd_same,T.k_Unit,T.n_Unit_shore,(by show 3<1000;decide),?_⟩
  rw [upd_upd,upd_upd,upd_upd]
  exact k
def sp_DrivenUnit_init (K:PySem.W.Frag) (mg:Str→Option Value):Sp:=fun vs H Q _=>∃(x dx ua:Addr) (u:Unt) (o:Int),vs=[.ref x,.ref ua,.int o]∧H x=some (.ins (adr mg "DrivenUnit") dx [])∧Q .non (upd H x (.ins (adr mg "DrivenUnit") dx (fDrv ua ⟨u,o,0,none⟩ .non)))
theorem sc_DrivenUnit_init:FnScope ["self", "unit", "origin"] ["self", "unit", "origin"] (defScope s_DrivenUnit_init):=⟨rfl,rfl,rfl,by decide +kernel,rfl,by decide +kernel,by decide +kernel⟩
theorem ok_DrivenUnit_init (T:Txt K mg):CDef P w K mg base "DrivenUnit" (adr mg "DrivenUnit") 1 ["self", "unit", "origin"] (sp_DrivenUnit_init K mg):=by
  obtain ⟨f,fd,M,F,hb⟩:=T.i_DrivenUnit
  refine ⟨T.a_DrivenUnit,f,M,F.kp,fd,F.ok sc_DrivenUnit_init (fun vs H Q E h=>?_) (fun cdv A outer s H vs Q E hr h=>?_),hb⟩
  · obtain ⟨x,dx,ua,u,o,rfl,_⟩:=h;rfl
  obtain ⟨x,dx,ua,u,o,rfl,hx,k⟩:=h
  have hu:=hu_of hr
  have hu64:=hu64_of hr
  have nd:=sc_DrivenUnit_init.nd
  refine ⟨_,(pss_cons (ps_fld (pv 0) (pv 1) rfl)
 (pss_cons (ps_fld (pv 0) (pv 2) rfl)
 (pss_cons (ps_fld (pv 0) (pg T.g_NO_ORDER) rfl)
 (pss_one (ps_fld (pv 0) pe_non rfl))))),?_⟩
  refine ⟨_,rfl,_,rfl,x,_,dx,[],rfl,hx,T.k_DrivenUnit,T.n_DrivenUnit_unit,(by show 0<1000;decide),?_⟩
  refine ⟨_,rfl,_,rfl,x,_,dx,_,rfl,upd_same,T.k_DrivenUnit,T.n_DrivenUnit_origin,(by show 1<1000;decide),?_⟩
  refine ⟨_,rfl,x,_,dx,_,rfl,upd_same,T.k_DrivenUnit,T.n_DrivenUnit_order,(by show 2<1000;decide),?_⟩
  refine ⟨_,rfl,x,_,dx,_,rfl,upd_same,T.k_DrivenUnit,T.n_DrivenUnit_goal,(by show 3<1000;decide),?_⟩
  rw [upd_upd,upd_upd,upd_upd]
  exact k
def sp_DrivenUnit_order_to_go (K:PySem.W.Frag) (mg:Str→Option Value):Sp:=fun vs H Q _=>∃(x dx ua:Addr) (d:Drv) (gv:V) (q s:Int),vs=[.ref x,.int q,.int s]∧H x=some (.ins (adr mg "DrivenUnit") dx (fDrv ua d gv)) ∧
  ∀g,H g=none→Q .non (upd (upd H g (.tup [.int q,.int s])) x (.ins (adr mg "DrivenUnit") dx (fDrv ua { d with order:=1,goal:=some (q,s) } (.ref g))))
theorem sc_DrivenUnit_order_to_go:FnScope ["self", "q", "s"] ["self", "q", "s"] (defScope s_DrivenUnit_order_to_go):=⟨rfl,rfl,rfl,by decide +kernel,rfl,by decide +kernel,by decide +kernel⟩
theorem ok_DrivenUnit_order_to_go (T:Txt K mg):MDef P w K mg base (adr mg "DrivenUnit") "order_to_go" 1 ["self", "q", "s"] (sp_DrivenUnit_order_to_go K mg):=by
  obtain ⟨f,fd,M,F,hb⟩:=T.m_DrivenUnit_order_to_go
  refine ⟨f,M,F.kp,fd,F.ok sc_DrivenUnit_order_to_go (fun vs H Q E h=>?_) (fun cdv A outer s H vs Q E hr h=>?_),hb⟩
  · obtain ⟨x,dx,ua,d,gv,q,s',rfl,_⟩:=h;rfl
  obtain ⟨x,dx,ua,d,gv,q,s',rfl,hx,k⟩:=h
  have hu:=hu_of hr
  have hu64:=hu64_of hr
  have nd:=sc_DrivenUnit_order_to_go.nd
  refine ⟨_,(pss_cons (ps_fld (pv 0) (pg T.g_ORDER_GO) rfl)
 (pss_one (ps_fld (pv 0) (pe_tup (pa_cons (pv 1) (pa_cons (pv 2) pa_nil))) rfl))),?_⟩
  refine ⟨_,rfl,x,_,dx,_,rfl,hx,T.k_DrivenUnit,T.n_DrivenUnit_order,(by show 4<1000;decide),?_⟩
  refine ⟨_,rfl,_,rfl,(by show 2≤sizeLine;decide),fun g hg=>?_⟩
  have ne:g≠x:=fun z=>by rw [z,upd_same] at hg;cases hg
  rw [upd_ne ne] at hg
  refine ⟨_,rfl,x,_,dx,_,rfl,(by rw [upd_ne (Ne.symm ne)];exact upd_same),T.k_DrivenUnit,T.n_DrivenUnit_goal,(by show 4<1000;decide),?_⟩
  have e:upd (upd (upd H x (.ins (adr mg "DrivenUnit") dx (putF "order" (.int 1) (fDrv ua d gv)))) g (.tup [.int q,.int s'])) x (.ins (adr mg "DrivenUnit") dx (putF "goal" (.ref g) (putF "order" (.int 1) (fDrv ua d gv)))) =
      upd (upd H g (.tup [.int q,.int s'])) x (.ins (adr mg "DrivenUnit") dx (fDrv ua { d with order:=1,goal:=some (q,s') } (.ref g))):=by
    funext z
    unfold upd
    by_cases h1:z=x
    · rw [if_pos h1,if_pos h1];rfl
    · rw [if_neg h1,if_neg h1,if_neg h1]
  exact e ▸ k g hg
def sp_DrivenUnit_order_to_leave (K:PySem.W.Frag) (mg:Str→Option Value):Sp:=fun vs H Q _=>∃(x dx ua:Addr) (d:Drv) (gv:V),vs=[.ref x]∧H x=some (.ins (adr mg "DrivenUnit") dx (fDrv ua d gv)) ∧
  Q .non (upd H x (.ins (adr mg "DrivenUnit") dx (fDrv ua { d with order:=2,goal:=none } .non)))
theorem sc_DrivenUnit_order_to_leave:FnScope ["self"] ["self"] (defScope s_DrivenUnit_order_to_leave):=⟨rfl,rfl,rfl,by decide +kernel,rfl,by decide +kernel,by decide +kernel⟩
theorem ok_DrivenUnit_order_to_leave (T:Txt K mg):MDef P w K mg base (adr mg "DrivenUnit") "order_to_leave" 1 ["self"] (sp_DrivenUnit_order_to_leave K mg):=by
  obtain ⟨f,fd,M,F,hb⟩:=T.m_DrivenUnit_order_to_leave
  refine ⟨f,M,F.kp,fd,F.ok sc_DrivenUnit_order_to_leave (fun vs H Q E h=>?_) (fun cdv A outer s H vs Q E hr h=>?_),hb⟩
  · obtain ⟨x,dx,ua,d,gv,rfl,_⟩:=h;rfl
  obtain ⟨x,dx,ua,d,gv,rfl,hx,k⟩:=h
  have hu:=hu_of hr
  have hu64:=hu64_of hr
  have nd:=sc_DrivenUnit_order_to_leave.nd
  refine ⟨_,(pss_cons (ps_fld (pv 0) (pg T.g_ORDER_LEAVE) rfl)
 (pss_one (ps_fld (pv 0) pe_non rfl))),?_⟩
  refine ⟨_,rfl,x,_,dx,_,rfl,hx,T.k_DrivenUnit,T.n_DrivenUnit_order,(by show 4<1000;decide),?_⟩
  refine ⟨_,rfl,x,_,dx,_,rfl,upd_same,T.k_DrivenUnit,T.n_DrivenUnit_goal,(by show 4<1000;decide),?_⟩
  rw [upd_upd]
  exact k
end
end Sb
end
section
namespace Sb
open PySem PySem.Spec PyProof.Rows L2
section
variable {P:Program} {w:World} {K:PySem.W.Frag} {mg:Str→Option Value} {base:Heap}
structure Wp (C dx b:Addr) (H Hc:Hp) (fs:List (Str×V)) (news:List (Addr×HO)):Prop where
  at_:Hc b=some (.ins C dx fs)
  old:∀a o,H a=some o→a≠b→Hc a=some o
  new:∀x∈news,H x.1=none∧Hc x.1=some x.2∧x.1≠b
  nd:(news.map (·.1)).Nodup
  hb:∃o,H b=some o
theorem Wp.start {C dx b:Addr} {H:Hp} {fs:List (Str×V)} (h:H b=some (.ins C dx fs)):Wp C dx b H H fs []:=⟨h,fun _ _ e _=>e,fun _ h=>(nomatch h),.nil,⟨_,h⟩⟩
theorem Wp.step {C dx b p:Addr} {H Hc:Hp} {fs:List (Str×V)} {news:List (Addr×HO)} (W:Wp C dx b H Hc fs news) (hp:Hc p=none) (o:HO) (f:Str):Wp C dx b H (upd (upd Hc p o) b (.ins C dx (putF f (.ref p) fs))) (putF f (.ref p) fs) (news++[(p,o)]):=by
  have nb:p≠b:=fun z=>by rw [z,W.at_] at hp;cases hp
  have hn:H p=none:=by
    cases e:H p with
    | none=>rfl
    | some q=>rw [W.old p q e nb] at hp;cases hp
  refine ⟨upd_same,fun a q e ne=>?_,fun x hx=>?_,?_,W.hb⟩
  · rw [upd_ne ne,upd_ne (ne_of_none e hn)];exact W.old a q e ne
  · rcases List.mem_append.mp hx with z | z
    · obtain ⟨h1,h2,h3⟩:=W.new x z
      exact ⟨h1,by rw [upd_ne h3,upd_ne (ne_of_none h2 hp)];exact h2,h3⟩
    · rw [List.mem_singleton.mp z]
      exact ⟨hn,by rw [upd_ne nb];exact upd_same,nb⟩
  · rw [List.map_append]
    refine nd_snoc W.nd fun m=>?_
    obtain ⟨x,hx,e⟩:=List.mem_map.mp m
    have:=(W.new x hx).2.1
    rw [e,hp] at this
    cases this
def sp_Board_wipe (K:PySem.W.Frag) (mg:Str→Option Value):Sp:=fun vs H Q _=>∃(b dx:Addr) (fs:List (Str×V)),vs=[.ref b]∧H b=some (.ins (adr mg "Board") dx fs)∧(fs=[]∨∃A,fs=fBd A) ∧
  ∀(H':Hp) (A':Ads),BdAt mg H' b A' {}→Wr H' A'→(∀a o,H a=some o→a≠b→H' a=some o)→(∀a,Foot b A' a→a=b∨H a=none)→Q .non H'
theorem sc_Board_wipe:FnScope ["self"] ["self"] (defScope s_Board_wipe):=⟨rfl,rfl,rfl,by decide +kernel,rfl,by decide +kernel,by decide +kernel⟩
theorem ok_Board_wipe (T:Txt K mg):MDef P w K mg base (adr mg "Board") "wipe" 1 ["self"] (sp_Board_wipe K mg):=by
  obtain ⟨f,fd,M,F,hb⟩:=T.m_Board_wipe
  refine ⟨f,M,F.kp,fd,F.ok sc_Board_wipe (fun vs H Q E h=>?_) (fun cdv A outer s H vs Q E hr h=>?_),hb⟩
  · obtain ⟨b,dx,fs,rfl,_⟩:=h;rfl
  obtain ⟨b,dx,fs,rfl,hb',hfs,k⟩:=h
  have hu:=hu_of hr
  have hu64:=hu64_of hr
  have nd:=sc_Board_wipe.nd
  refine ⟨_,(pss_cons (ps_fld (pv 0) (pe_lst pa_nil) rfl)
 (pss_cons (ps_fld (pv 0) pe_dnewT rfl)
 (pss_cons (ps_fld (pv 0) pe_dnewT rfl)
 (pss_cons (ps_fld (pv 0) pe_dnewK rfl)
 (pss_cons (ps_fld (pv 0) pe_dnewK rfl)
 (pss_cons (ps_fld (pv 0) pe_dnewK rfl)
 (pss_cons (ps_fld (pv 0) pe_dnewK rfl)
 (pss_one (ps_fld (pv 0) pe_dnewK rfl))))))))),?_⟩
  have W0:=Wp.start hb'
  have hl:fs.length<900:=by
    rcases hfs with rfl | ⟨A,rfl⟩
    · decide
    · show 8<900;decide
  have lp:∀(f:Str) (v:V) (l:List (Str×V)),(putF f v l).length≤l.length + 1:=fun f v l=>length_putF f v l
  refine ⟨Nat.zero_le _,fun p1 h1=>⟨_,rfl,b,_,dx,_,rfl,(by rw [upd_ne (ne_of_none W0.at_ h1)];exact W0.at_),T.k_Board,T.n_Board_provinces,(by omega),?_⟩⟩
  have W1:=W0.step h1 (.lst []) "provinces"
  intro p2 h2
  refine ⟨_,rfl,b,_,dx,_,rfl,(by rw [upd_ne (ne_of_none W1.at_ h2)];exact W1.at_),T.k_Board,T.n_Board_land_links,(by have:=lp "provinces" (.ref p1) fs;omega),?_⟩
  have W2:=W1.step h2 (.dT []) "land_links"
  have l2:=lp "land_links" (.ref p2) (putF "provinces" (.ref p1) fs)
  have l1:=lp "provinces" (.ref p1) fs
  intro p3 h3
  refine ⟨_,rfl,b,_,dx,_,rfl,(by rw [upd_ne (ne_of_none W2.at_ h3)];exact W2.at_),T.k_Board,T.n_Board_sea_links,(by omega),?_⟩
  have W3:=W2.step h3 (.dT []) "sea_links"
  have l3:=lp "sea_links" (.ref p3) (putF "land_links" (.ref p2) (putF "provinces" (.ref p1) fs))
  intro p4 h4
  refine ⟨_,rfl,b,_,dx,_,rfl,(by rw [upd_ne (ne_of_none W3.at_ h4)];exact W3.at_),T.k_Board,T.n_Board_units,(by omega),?_⟩
  have W4:=W3.step h4 (.dK []) "units"
  have l4:=lp "units" (.ref p4) (putF "sea_links" (.ref p3) (putF "land_links" (.ref p2) (putF "provinces" (.ref p1) fs)))
  intro p5 h5
  refine ⟨_,rfl,b,_,dx,_,rfl,(by rw [upd_ne (ne_of_none W4.at_ h5)];exact W4.at_),T.k_Board,T.n_Board_driven,(by omega),?_⟩
  have W5:=W4.step h5 (.dK []) "driven"
  have l5:=lp "driven" (.ref p5) (putF "units" (.ref p4) (putF "sea_links" (.ref p3) (putF "land_links" (.ref p2) (putF "provinces" (.ref p1) fs))))
  intro p6 h6
  refine ⟨_,rfl,b,_,dx,_,rfl,(by rw [upd_ne (ne_of_none W5.at_ h6)];exact W5.at_),T.k_Board,T.n_Board_barred,(by omega),?_⟩
  have W6:=W5.step h6 (.dK []) "barred"
  have l6:=lp "barred" (.ref p6) (putF "driven" (.ref p5) (putF "units" (.ref p4) (putF "sea_links" (.ref p3) (putF "land_links" (.ref p2) (putF "provinces" (.ref p1) fs)))))
  intro p7 h7
  refine ⟨_,rfl,b,_,dx,_,rfl,(by rw [upd_ne (ne_of_none W6.at_ h7)];exact W6.at_),T.k_Board,T.n_Board_raises,(by omega),?_⟩
  have W7:=W6.step h7 (.dK []) "raises"
  have l7:=lp "raises" (.ref p7) (putF "barred" (.ref p6) (putF "driven" (.ref p5) (putF "units" (.ref p4) (putF "sea_links" (.ref p3) (putF "land_links" (.ref p2) (putF "provinces" (.ref p1) fs))))))
  intro p8 h8
  refine ⟨_,rfl,b,_,dx,_,rfl,(by rw [upd_ne (ne_of_none W7.at_ h8)];exact W7.at_),T.k_Board,T.n_Board_drops,(by omega),?_⟩
  have W8:=W7.step h8 (.dK []) "drops"
  generalize upd (upd _ p8 _) b _=H' at W8 ⊢
  have efs:(putF "drops" (.ref p8) (putF "raises" (.ref p7) (putF "barred" (.ref p6) (putF "driven" (.ref p5) (putF "units" (.ref p4) (putF "sea_links" (.ref p3) (putF "land_links" (.ref p2) (putF "provinces" (.ref p1) fs))))))))=fBd ⟨dx,p1,p2,p3,p4,p5,p6,p7,p8,[],[],[],[]⟩:=by
    rcases hfs with rfl | ⟨A,rfl⟩ <;> rfl
  rw [efs] at W8
  obtain ⟨wa,wo,wn,wd,_⟩:=W8
  simp only [List.nil_append,List.cons_append,List.map_cons,List.map_nil,List.mem_cons,List.not_mem_nil,or_false,forall_eq_or_imp,forall_eq] at wn wd
  obtain ⟨n1,n2,n3,n4,n5,n6,n7,n8⟩:=wn
  refine k H' ⟨dx,p1,p2,p3,p4,p5,p6,p7,p8,[],[],[],[]⟩ ⟨wa,n1.2.1,.nil,.nil,.inl n2.2.1,.inl n3.2.1,.inl n4.2.1,.nil,.inl n5.2.1,.nil,.nil,.inl n6.2.1,.inl n7.2.1,.nil,.inl n8.2.1,(List.nodup_cons.mp wd).2⟩ ?_ wo ?_
  · intro a ha o u
    simp only [dicts,List.mem_cons,List.not_mem_nil,or_false] at ha
    rcases ha with e | e | e | e | e | e | e <;> rw [e]
    · rw [n2.2.1];intro z;cases z
    · rw [n3.2.1];intro z;cases z
    · rw [n4.2.1];intro z;cases z
    · rw [n5.2.1];intro z;cases z
    · rw [n6.2.1];intro z;cases z
    · rw [n7.2.1];intro z;cases z
    · rw [n8.2.1];intro z;cases z
  · rintro a (e | e | e | e | e)
    · exact .inl e
    · rw [e];exact .inr n1.1
    · simp only [dicts,List.mem_cons,List.not_mem_nil,or_false] at e
      rcases e with e | e | e | e | e | e | e <;> rw [e]
      · exact .inr n2.1
      · exact .inr n3.1
      · exact .inr n4.1
      · exact .inr n5.1
      · exact .inr n6.1
      · exact .inr n7.1
      · exact .inr n8.1
    · exact nomatch e
    · exact nomatch e
def sp_Board_forget_raises_and_drops (K:PySem.W.Frag) (mg:Str→Option Value):Sp:=fun vs H Q _=>∃(b:Addr) (A:Ads) (B:Bd),vs=[.ref b]∧BdAt mg H b A B∧Wr H A ∧
  ∀(H':Hp) (A':Ads),BdAt mg H' b A' { B with raises:=[],drops:=[] }→Wr H' A'→Frm b A A' H H'→Q .non H'
theorem sc_Board_forget_raises_and_drops:FnScope ["self"] ["self"] (defScope s_Board_forget_raises_and_drops):=⟨rfl,rfl,rfl,by decide +kernel,rfl,by decide +kernel,by decide +kernel⟩
theorem ok_Board_forget_raises_and_drops (T:Txt K mg):MDef P w K mg base (adr mg "Board") "forget_raises_and_drops" 1 ["self"] (sp_Board_forget_raises_and_drops K mg):=by
  obtain ⟨f,fd,M,F,hb⟩:=T.m_Board_forget_raises_and_drops
  refine ⟨f,M,F.kp,fd,F.ok sc_Board_forget_raises_and_drops (fun vs H Q E h=>?_) (fun cdv A outer s H vs Q E hr h=>?_),hb⟩
  · obtain ⟨b,A0,B,rfl,_⟩:=h;rfl
  obtain ⟨b,A0,B,rfl,hB,hW,k⟩:=h
  have hu:=hu_of hr
  have hu64:=hu64_of hr
  have nd:=sc_Board_forget_raises_and_drops.nd
  refine ⟨_,(pss_cons (ps_fld (pv 0) pe_dnewK rfl)
 (pss_one (ps_fld (pv 0) pe_dnewK rfl))),?_⟩
  have W0:=Wp.start hB.obj
  intro p7 h7
  refine ⟨_,rfl,b,_,A0.dx,_,rfl,(by rw [upd_ne (ne_of_none W0.at_ h7)];exact W0.at_),T.k_Board,T.n_Board_raises,(by show 8<1000;decide),?_⟩
  have W7:=W0.step h7 (.dK []) "raises"
  intro p8 h8
  refine ⟨_,rfl,b,_,A0.dx,_,rfl,(by rw [upd_ne (ne_of_none W7.at_ h8)];exact W7.at_),T.k_Board,T.n_Board_drops,(by show 8<1000;decide),?_⟩
  have W8:=W7.step h8 (.dK []) "drops"
  generalize upd (upd _ p8 _) b _=H' at W8 ⊢
  obtain ⟨wa,wo,wn,wd,_⟩:=W8
  simp only [List.nil_append,List.cons_append,List.map_cons,List.map_nil,List.mem_cons,List.not_mem_nil,or_false,forall_eq_or_imp,forall_eq] at wn wd
  obtain ⟨n7,n8⟩:=wn
  have kp:Kp b H H':=wo
  have kt:Kept mg H H' b b 8 A0 B:=hB.kept hB.obj kp
  have dn:∀a∈dicts A0,a≠b:=fun a ha=>hB.dne ha hB.obj (by rw [tag_bd];decide)
  have od:∀a∈dicts A0,a≠p7∧a≠p8:=fun a ha=>by
    obtain ⟨o,e,_⟩:=hB.dtag ha
    exact ⟨ne_of_none e n7.1,ne_of_none e n8.1⟩
  have m:∀a,a∈[A0.la,A0.se,A0.un,A0.dr,A0.ba]→a∈dicts A0:=fun a ha=>by
    simp only [List.mem_cons,List.not_mem_nil,or_false] at ha
    simp only [dicts,List.mem_cons,List.not_mem_nil,or_false]
    rcases ha with e | e | e | e | e <;> simp [e]
  refine k H' { A0 with ra:=p7,dp:=p8,kr:=[] } ⟨wa,kt.pl (by decide),hB.pnd,kt.pa (by decide),kt.la (dn _ (by simp [dicts])),kt.se (dn _ (by simp [dicts])),kt.un (dn _ (by simp [dicts])),kt.ua (by decide),kt.dr (dn _ (by simp [dicts])),kt.da (by decide) (by decide) (by decide),hB.dnd,
    kt.ba (dn _ (by simp [dicts])),.inl n7.2.1,.nil,.inl n8.2.1,?_⟩ ?_ ⟨fun a o e nf=>wo a o e (fun z=>nf (.inl z)),?_,?_⟩
  · have hn:=hB.nd
    have o1:=od A0.la (by simp [dicts])
    have o2:=od A0.se (by simp [dicts])
    have o3:=od A0.un (by simp [dicts])
    have o4:=od A0.dr (by simp [dicts])
    have o5:=od A0.ba (by simp [dicts])
    simp only [dicts,List.nodup_cons,List.mem_cons,List.not_mem_nil,or_false,not_or,List.nodup_nil,and_true,not_false_eq_true] at hn wd ⊢
    obtain ⟨⟨a1,a2,a3,a4,a5,a6⟩,⟨b2,b3,b4,b5,b6⟩,⟨c3,c4,c5,c6⟩,⟨d4,d5,d6⟩,⟨e5,e6⟩,e7⟩:=hn
    exact ⟨⟨a1,a2,a3,a4,o1.1,o1.2⟩,⟨b2,b3,b4,o2.1,o2.2⟩,⟨c3,c4,o3.1,o3.2⟩,⟨d4,o4.1,o4.2⟩,⟨o5.1,o5.2⟩,wd⟩
  · intro a ha o u
    have h5:a∈[A0.la,A0.se,A0.un,A0.dr,A0.ba]→H' a≠some (.frz o u):=fun hm z=>by
      obtain ⟨o',e,_⟩:=hB.dtag (m a hm)
      rw [wo a o' e (dn a (m a hm))] at z
      cases z
      exact hW a (m a hm) _ _ e
    simp only [dicts,List.mem_cons,List.not_mem_nil,or_false] at ha
    rcases ha with e | e | e | e | e | e | e
    · exact h5 (by simp [e])
    · exact h5 (by simp [e])
    · exact h5 (by simp [e])
    · exact h5 (by simp [e])
    · exact h5 (by simp [e])
    · rw [e,n7.2.1];intro z;cases z
    · rw [e,n8.2.1];intro z;cases z
  · rintro a (e | e | e | e | e)
    · exact .inl (.inl e)
    · exact .inl (.inr (.inl e))
    · have h5:a∈[A0.la,A0.se,A0.un,A0.dr,A0.ba]→Foot b A0 a∨H a=none:=fun hm=>.inl (.inr (.inr (.inl (m a hm))))
      simp only [dicts,List.mem_cons,List.not_mem_nil,or_false] at e
      rcases e with e | e | e | e | e | e | e
      · exact h5 (by simp [e])
      · exact h5 (by simp [e])
      · exact h5 (by simp [e])
      · exact h5 (by simp [e])
      · exact h5 (by simp [e])
      · rw [e];exact .inr n7.1
      · rw [e];exact .inr n8.1
    · exact .inl (.inr (.inr (.inr (.inl e))))
    · exact .inl (.inr (.inr (.inr (.inr e))))
  · intro a o e
    by_cases z:a=b
    · rw [z];exact ⟨_,wa⟩
    · exact ⟨o,wo a o e z⟩
def sp_Board_init (K:PySem.W.Frag) (mg:Str→Option Value):Sp:=fun vs H Q _=>∃(b dx:Addr),vs=[.ref b]∧H b=some (.ins (adr mg "Board") dx []) ∧
  ∀(H':Hp) (A':Ads),BdAt mg H' b A' {}→Wr H' A'→(∀a o,H a=some o→a≠b→H' a=some o)→(∀a,Foot b A' a→a=b∨H a=none)→Q .non H'
theorem sc_Board_init:FnScope ["self"] ["self"] (defScope s_Board_init):=⟨rfl,rfl,rfl,by decide +kernel,rfl,by decide +kernel,by decide +kernel⟩
theorem ok_Board_init (T:Txt K mg):CDef P w K mg base "Board" (adr mg "Board") 2 ["self"] (sp_Board_init K mg):=by
  obtain ⟨f,fd,M,F,hb⟩:=T.i_Board
  refine ⟨T.a_Board,f,M,F.kp,fd,F.ok sc_Board_init (fun vs H Q E h=>?_) (fun cdv A outer s H vs Q E hr h=>?_),hb⟩
  · obtain ⟨b,dx,rfl,_⟩:=h;rfl
  obtain ⟨b,dx,rfl,hb',k⟩:=h
  have hu:=hu_of hr
  have hu64:=hu64_of hr
  have nd:=sc_Board_init.nd
  refine ⟨_,(pss_one (ps_expr (mth0 (ok_Board_wipe T) T.k_Board (hr.mono (by decide)) (pv 0)))),?_⟩
  exact ⟨_,rfl,b,dx,_,rfl,hb',rfl,b,dx,[],rfl,hb',.inl rfl,fun H' A' h1 h2 h3 h4=>k H' A' h1 h2 h3 h4⟩
def sp_clear (K:PySem.W.Frag) (mg:Str→Option Value):Sp:=fun vs H Q _=>∃(b:Addr) (A:Ads) (B:Bd),vs=[.ref b]∧BdAt mg H b A B∧Wr H A∧spEnd mg b A H {} [0] Q
theorem sc_clear:FnScope ["board"] ["board"] (defScope s_clear):=⟨rfl,rfl,rfl,by decide +kernel,rfl,by decide +kernel,by decide +kernel⟩
theorem ok_clear (T:Txt K mg):Def P w K mg base "clear" 2 ["board"] (sp_clear K mg):=by
  obtain ⟨f,fd,hm,F,hb⟩:=T.f_clear
  refine ⟨f,hm,F.kp,fd,F.ok sc_clear (fun vs H Q E h=>?_) (fun cdv A outer s H vs Q E hr h=>?_),hb⟩
  · obtain ⟨b,A0,B,rfl,_⟩:=h;rfl
  obtain ⟨b,A0,B,rfl,hB,hW,k⟩:=h
  have hu:=hu_of hr
  have hu64:=hu64_of hr
  have nd:=sc_clear.nd
  refine ⟨_,(pss_cons (ps_expr (mth0 (ok_Board_wipe T) T.k_Board (hr.mono (by decide)) (pv 0)))
 (pss_one (ps_ret (pe_lst (pa_cons pe_int pa_nil))))),?_⟩
  refine ⟨_,rfl,b,A0.dx,_,rfl,hB.obj,rfl,b,A0.dx,_,rfl,hB.obj,.inr ⟨A0,rfl⟩,fun H1 A1 b1 w1 o1 f1=>?_⟩
  refine ⟨(by show 1≤sizeLine;decide),fun p hp=>?_⟩
  refine k.done hB b1 w1 ⟨fun a o e nf=>o1 a o e fun z=>nf (.inl z),fun a z=>?_,fun a o e=>?_⟩ hp rfl
  · rcases f1 a z with e | e
    · exact .inl (.inl e)
    · exact .inr e
  · by_cases z:a=b
    · rw [z];exact ⟨_,b1.obj⟩
    · exact ⟨o,o1 a o e z⟩
end
end Sb
end
section
namespace Sb
open PySem PySem.Spec PyProof.Rows L2
section
variable {P:Program} {w:World} {K:PySem.W.Frag} {mg:Str→Option Value} {base:Heap}
theorem mk_unit {R:Hp→Prop} {E:XK} {H:Hp} {x dx:Addr} {a b c d:Int} (nx:H x=none) (nd:H dx=none) (k:∀H1,Same H H1→UnAt mg H1 x ⟨a,b,c,d⟩→R H1) :
    sp_Unit_init K mg [.ref x,.int a,.int b,.int c,.int d] (upd (upd H dx (.own x)) x (.ins (adr mg "Unit") dx [])) (fun v H2=>v=.non∧R H2) E :=
  ⟨x,dx,a,b,c,d,rfl,upd_same,rfl,k _ (by rw [upd_upd];exact mkI_same nx nd) ⟨dx,upd_same⟩⟩
theorem mk_prov {R:Hp→Prop} {E:XK} {H:Hp} {x dx:Addr} {a b c:Int} (nx:H x=none) (nd:H dx=none) (k:∀H1,Same H H1→PrAt mg H1 x ⟨a,b,c,-1⟩→R H1) :
    sp_Province_init K mg [.ref x,.int a,.int b,.int c] (upd (upd H dx (.own x)) x (.ins (adr mg "Province") dx [])) (fun v H2=>v=.non∧R H2) E :=
  ⟨x,dx,a,b,c,rfl,upd_same,rfl,k _ (by rw [upd_upd];exact mkI_same nx nd) ⟨dx,upd_same⟩⟩
theorem mk_drv {R:Hp→Prop} {E:XK} {H:Hp} {x dx ua:Addr} {u:Unt} {o:Int} (hu:UnAt mg H ua u) (nx:H x=none) (nd:H dx=none) (k:∀H1,Same H H1→DrAt mg H1 x ⟨u,o,0,none⟩→R H1) :
    sp_DrivenUnit_init K mg [.ref x,.ref ua,.int o] (upd (upd H dx (.own x)) x (.ins (adr mg "DrivenUnit") dx [])) (fun v H2=>v=.non∧R H2) E:=by
  have s:Same H (upd (upd (upd H dx (.own x)) x (.ins (adr mg "DrivenUnit") dx [])) x (.ins (adr mg "DrivenUnit") dx (fDrv ua ⟨u,o,0,none⟩ .non))):=by rw [upd_upd];exact mkI_same nx nd
  exact ⟨x,dx,ua,u,o,rfl,upd_same,rfl,k _ s ⟨dx,ua,.non,upd_same,hu.mono (.of s),rfl⟩⟩
def sp_province (K:PySem.W.Frag) (mg:Str→Option Value):Sp:=fun vs H Q _=>∃(b:Addr) (A:Ads) (B:Bd) (x c h:Int),vs=[.ref b,.int x,.int c,.int h]∧BdAt mg H b A B∧Wr H A∧B.provs.length≤40∧spEnd mg b A H (mProvince B x c h).1 (mProvince B x c h).2 Q
theorem sc_province:FnScope ["board", "kind", "centre", "home"] ["board", "kind", "centre", "home"] (defScope s_province):=⟨rfl,rfl,rfl,by decide +kernel,rfl,by decide +kernel,by decide +kernel⟩
theorem ok_province (T:Txt K mg):Def P w K mg base "province" 3 ["board", "kind", "centre", "home"] (sp_province K mg):=by
  obtain ⟨f,fd,hm,F,hb⟩:=T.f_province
  refine ⟨f,hm,F.kp,fd,F.ok sc_province (fun vs H Q E h=>?_) (fun cdv A outer s H vs Q E hr h=>?_),hb⟩
  · obtain ⟨b,A0,B,x,c,h,rfl,_⟩:=h;rfl
  obtain ⟨b,A0,B,x,c,h,rfl,hB,hW,hn,k⟩:=h
  have hu:=hu_of hr
  have hu64:=hu64_of hr
  have nd:=sc_province.nd
  refine ⟨_,(pss_cons (ps_if (pt_cmpR op_ge (pe_callB call_len_seq (by rfl) T.n_len PySem.boot_len (pa_cons (pe_fld (pv 0) (by rfl)) pa_nil)) (pg T.g_MOST_PROVINCES) (nomark _))
  (pss_one (ps_ret (pe_lst (pa_cons (pg T.g_FULL) pa_nil))))
  pss_nil)
 (pss_cons (ps_if (pt_cutP (pw_and (pt_cmpR op_eq (pv 2) pe_int (nomark _)) (pw_and1 (pt_cmpR op_eq (pv 1) (pg T.g_SEA) (nomark _)))).pt)
  (pss_one (ps_ret (pe_lst (pa_cons (pg T.g_NOT_FIT) pa_nil))))
  pss_nil)
 (pss_cons (ps_if (pt_cutP (pw_and (pt_cmpR op_eq (pv 2) pe_int (nomark _)) (pw_and1 (pt_cmpR op_ne (pv 3) (pg T.g_NOBODY) (nomark _)))).pt)
  (pss_one (ps_ret (pe_lst (pa_cons (pg T.g_NOT_FIT) pa_nil))))
  pss_nil)
 (pss_cons (ps_expr (pe_bm PySem.F.plainAttrs_list PySem.F.slot_list_append PySem.F.type_list_append mt_append (pe_fld (pv 0) (by rfl)) (pa_cons (mkc (ok_Province_init T) (hr.mono (by decide)) (pa_cons (pv 1) (pa_cons (pv 2) (pa_cons (pv 3) pa_nil)))) pa_nil)))
 (pss_one (ps_ret (pe_lst (pa_cons (pe_op op_sub (pe_callB call_len_seq (by rfl) T.n_len PySem.boot_len (pa_cons (pe_fld (pv 0) (by rfl)) pa_nil)) pe_int) pa_nil)))))))),?_⟩
  have hl:=hB.plen
  unfold mProvince at k
  refine ⟨_,rfl,_,_,_,_,_,rfl,hB.obj,T.k_Board,T.n_Board_provinces,rfl,_,_,rfl,.inl (SqL.of hB.pl),_,_,rfl,rfl,_,rfl,ite2 (fun e=>?_) (fun e=>?_)⟩
  · have e:40≤B.provs.length:=by have:=of_decide_eq_true e;rw [List.length_map] at this;omega
    rw [if_pos e] at k
    exact ⟨one_ok,fun p hp=>k.ret hB hW (.refl _) hp rfl⟩
  have e:¬ 40≤B.provs.length:=fun z=>e (decide_eq_true (by rw [List.length_map];omega))
  rw [if_neg e] at k
  refine ⟨decide (c=1) && decide (x=1),⟨_,rfl,rfl,_,rfl,?_⟩,ite2 (fun e1=>?_) (fun e1=>?_)⟩
  · rw [decV]
    exact and_c fun q=>⟨_,rfl,rfl,_,rfl,by rw [decV,q];rfl,rfl⟩
  · rw [Bool.and_eq_true,decide_eq_true_iff,decide_eq_true_iff] at e1
    rw [if_pos e1] at k
    exact ⟨one_ok,fun p hp=>k.ret hB hW (.refl _) hp rfl⟩
  rw [Bool.and_eq_true,decide_eq_true_iff,decide_eq_true_iff] at e1
  rw [if_neg e1] at k
  refine ⟨decide (c=0) && !decide (h = -1),⟨_,rfl,rfl,_,rfl,?_⟩,ite2 (fun e2=>?_) (fun e2=>?_)⟩
  · rw [decV]
    exact and_c fun q=>⟨_,rfl,rfl,_,rfl,by rw [decV,q];rfl,rfl⟩
  · rw [Bool.and_eq_true,decide_eq_true_iff,Bool.not_eq_true',decide_eq_false_iff_not] at e2
    rw [if_pos e2] at k
    exact ⟨one_ok,fun p hp=>k.ret hB hW (.refl _) hp rfl⟩
  rw [Bool.and_eq_true,decide_eq_true_iff,Bool.not_eq_true',decide_eq_false_iff_not] at e2
  rw [if_neg e2] at k
  refine ⟨_,rfl,_,_,_,_,_,rfl,hB.obj,T.k_Board,T.n_Board_provinces,rfl,.inl ⟨rfl,_,SqL.of hB.pl⟩,_,rfl,_,rfl,_,rfl,fun y dx nx ndx ne=>mk_prov nx ndx fun H1 s1 hP=>?_⟩
  have hB1:=hB.same s1
  have hW1:=hW.same hB s1
  refine ⟨_,_,_,rfl,rfl,hB1.pl,(by rw [List.length_map,hl];exact Nat.lt_of_le_of_lt hn (by decide)),?_⟩
  have kp:Kp A0.pl H1 (upd H1 A0.pl (.lst (A0.ps.map V.ref++[.ref y]))):=Kp.of (Same.refl _)
  have kt:Kept mg H1 (upd H1 A0.pl (.lst (A0.ps.map V.ref++[.ref y]))) b A0.pl 1 A0 B:=hB1.kept hB1.pl kp
  have dn:∀a∈dicts A0,a≠A0.pl:=fun a ha=>hB1.dne ha hB1.pl (by show 1≠3;decide)
  have hy:y∉A0.ps:=fun m=>by
    obtain ⟨o,q⟩:=hB.foot (a:=y) (.inr (.inr (.inr (.inl m))))
    rw [nx] at q;cases q
  have hB2:BdAt mg (upd H1 A0.pl (.lst (A0.ps.map V.ref++[.ref y]))) b { A0 with ps:=A0.ps++[y] } { B with provs:=B.provs++[⟨x,c,h,-1⟩] }:=by
    refine ⟨kt.obj (by decide),by rw [List.map_append];exact upd_same,nd_snoc hB.pnd hy,?_,kt.la (dn _ (by simp [dicts])),kt.se (dn _ (by simp [dicts])),kt.un (dn _ (by simp [dicts])),kt.ua (by decide),kt.dr (dn _ (by simp [dicts])),kt.da (by decide) (by decide) (by decide),hB.dnd,
      kt.ba (dn _ (by simp [dicts])),kt.ra (dn _ (by simp [dicts])),kt.raa (by decide),kt.dp (dn _ (by simp [dicts])),hB.nd⟩
    have h2:=kt.pa (by decide)
    have h3:=kp.pr hB1.pl (by show 1≠6;decide) hP
    generalize upd H1 A0.pl _=H2 at h2 h3
    clear kt kp hl k
    revert h2
    generalize A0.ps=as
    generalize B.provs=ps
    intro h2
    induction h2 with
    | nil=>exact .cons h3 .nil
    | cons r t ih=>exact .cons r ih
  have hW2:Wr (upd H1 A0.pl (.lst (A0.ps.map V.ref++[.ref y]))) { A0 with ps:=A0.ps++[y] }:=fun a ha o u z=>by
    rw [upd_ne (dn a ha)] at z
    exact hW1 a ha o u z
  have hF:Frm b A0 { A0 with ps:=A0.ps++[y] } H (upd H1 A0.pl (.lst (A0.ps.map V.ref++[.ref y]))):=by
    refine ⟨fun a o e nf=>?_,fun a z=>?_,fun a o e=>?_⟩
    · rw [upd_ne (fun z=>nf (.inr (.inl z)))];exact s1 _ _ e
    · rcases z with e | e | e | e | e
      · exact .inl (.inl e)
      · exact .inl (.inr (.inl e))
      · exact .inl (.inr (.inr (.inl e)))
      · rcases List.mem_append.mp e with q | q
        · exact .inl (.inr (.inr (.inr (.inl q))))
        · rw [List.mem_singleton.mp q];exact .inr nx
      · exact .inl (.inr (.inr (.inr (.inr e))))
    · by_cases z:a=A0.pl
      · rw [z];exact ⟨_,upd_same⟩
      · exact ⟨o,by rw [upd_ne z];exact s1 _ _ e⟩
  refine ⟨_,rfl,_,_,_,_,_,rfl,hB2.obj,T.k_Board,T.n_Board_provinces,rfl,_,_,rfl,.inl (SqL.of hB2.pl),_,_,rfl,rfl,one_ok,fun p hp=>k.done hB hB2 hW2 hF hp ?_⟩
  show [V.int (((({ A0 with ps:=A0.ps++[y] }:Ads).ps.map V.ref).length:Int) - 1)]=[V.int (B.provs.length:Int)]
  rw [List.length_map,List.length_append,List.length_singleton,hl]
  congr 2;omega
end
end Sb
end
section
namespace Sb
open PySem PySem.Spec PyProof.Rows L2
section
variable {P:Program} {w:World} {K:PySem.W.Frag} {mg:Str→Option Value} {base:Heap}
theorem putT_new {l:List (Int×Int)} {k:Int×Int} (h:k∉l):putK (l.map kLand) [Sum.inl k.1,Sum.inl k.2] (.bl true)=(l++[k]).map kLand:=by
  have e:valV (l.map kLand) [Sum.inl k.1,Sum.inl k.2]=none:=by
    have:=valLand l k
    rw [decide_eq_false h] at this
    cases q:valV (l.map kLand) [Sum.inl k.1,Sum.inl k.2] with
    | none=>rfl
    | some v=>rw [q] at this;cases this
  rw [putK_new _ e,List.map_append]
  rfl
theorem putS_new {l:List (Int×Int×Int×Int)} {k:Int×Int×Int×Int} (h:k∉l):putK (l.map kSea) [Sum.inl k.1,Sum.inl k.2.1,Sum.inl k.2.2.1,Sum.inl k.2.2.2] (.bl true)=(l++[k]).map kSea:=by
  have e:valV (l.map kSea) [Sum.inl k.1,Sum.inl k.2.1,Sum.inl k.2.2.1,Sum.inl k.2.2.2]=none:=by
    have:=valSea l k
    rw [decide_eq_false h] at this
    cases q:valV (l.map kSea) [Sum.inl k.1,Sum.inl k.2.1,Sum.inl k.2.2.1,Sum.inl k.2.2.2] with
    | none=>rfl
    | some v=>rw [q] at this;cases this
  rw [putK_new _ e,List.map_append]
  rfl
def sp_land (K:PySem.W.Frag) (mg:Str→Option Value):Sp:=fun vs H Q _=>∃(b:Addr) (A:Ads) (B:Bd) (p q:Int),vs=[.ref b,.int p,.int q]∧BdAt mg H b A B∧Wr H A∧IsP B p∧IsP B q∧B.land.length≤300∧spEnd mg b A H (mLand B p q).1 (mLand B p q).2 Q
theorem sc_land:FnScope ["board", "p", "q"] ["board", "p", "q"] (defScope s_land):=⟨rfl,rfl,rfl,by decide +kernel,rfl,by decide +kernel,by decide +kernel⟩
theorem ok_land (T:Txt K mg):Def P w K mg base "land" 3 ["board", "p", "q"] (sp_land K mg):=by
  obtain ⟨f,fd,hm,F,hb⟩:=T.f_land
  refine ⟨f,hm,F.kp,fd,F.ok sc_land (fun vs H Q E h=>?_) (fun cdv A outer s H vs Q E hr h=>?_),hb⟩
  · obtain ⟨b,A0,B,p,q,rfl,_⟩:=h;rfl
  obtain ⟨b,A0,B,p,q,rfl,hB,hW,hp,hq,hn,k⟩:=h
  have hu:=hu_of hr
  have hu64:=hu64_of hr
  have nd:=sc_land.nd
  refine ⟨_,(pss_cons (ps_if (pt_cutP (pw_or (pt_cmpR op_eq (pv 1) (pv 2) (nomark _)) (pw_or (pt_val (cl (ok_is_of_kind T) (hr.mono (by decide)) (pa_cons (pv 0) (pa_cons (pv 1) (pa_cons (pg T.g_SEA) pa_nil))))) (pw_or1 (pt_val (cl (ok_is_of_kind T) (hr.mono (by decide)) (pa_cons (pv 0) (pa_cons (pv 2) (pa_cons (pg T.g_SEA) pa_nil)))))))).pt)
  (pss_one (ps_ret (pe_lst (pa_cons (pg T.g_NOT_FIT) pa_nil))))
  pss_nil)
 (pss_cons (ps_if (pt_val (cl (ok_land_linked T) (hr.mono (by decide)) (pa_cons (pv 0) (pa_cons (pv 1) (pa_cons (pv 2) pa_nil)))))
  (pss_one (ps_ret (pe_lst (pa_cons (pg T.g_THERE_ALREADY) pa_nil))))
  pss_nil)
 (pss_cons (ps_if (pt_cmpR op_ge (pe_callB call_lenT (by rfl) T.n_len PySem.boot_len (pa_cons (pe_fld (pv 0) (by rfl)) pa_nil)) (pg T.g_MOST_LINKS) (nomark _))
  (pss_one (ps_ret (pe_lst (pa_cons (pg T.g_FULL) pa_nil))))
  pss_nil)
 (pss_cons (ps_dput hu (pe_fld (pv 0) (by rfl)) (cl (ok_land_key T) (hr.mono (by decide)) (pa_cons (pv 1) (pa_cons (pv 2) pa_nil))) pe_bl rfl)
 (pss_one (ps_ret (pe_lst (pa_cons pe_int pa_nil)))))))),?_⟩
  unfold mLand at k
  refine ⟨decide (p=q) || (decide (kindAt B p=1) || decide (kindAt B q=1)),⟨_,rfl,_,rfl,rfl,_,rfl,?_⟩,ite2 (fun e1=>?_) (fun e1=>?_)⟩
  · rw [decV]
    refine or_c fun e=>⟨_,rfl,_,rfl,b,A0,B,p,1,rfl,hB,hp,_,rfl,?_⟩
    rw [e,Bool.false_or]
    exact or_c fun e2=>⟨_,rfl,_,rfl,b,A0,B,q,1,rfl,hB,hq,_,rfl,by rw [e2];rfl,rfl⟩
  · rw [Bool.or_eq_true,Bool.or_eq_true,decide_eq_true_iff,decide_eq_true_iff,decide_eq_true_iff] at e1
    rw [if_pos e1] at k
    exact ⟨one_ok,fun a ha=>k.ret hB hW (.refl _) ha rfl⟩
  rw [Bool.or_eq_true,Bool.or_eq_true,decide_eq_true_iff,decide_eq_true_iff,decide_eq_true_iff] at e1
  rw [if_neg e1] at k
  refine ⟨_,rfl,_,rfl,_,rfl,b,A0,B,p,q,rfl,hB,fun H1 s1=>⟨_,rfl,ite2 (fun e2=>?_) (fun e2=>?_)⟩⟩
  · rw [decide_eq_true_iff] at e2
    rw [if_pos e2] at k
    exact ⟨one_ok,fun a ha=>k.ret hB hW s1 ha rfl⟩
  rw [decide_eq_true_iff] at e2
  rw [if_neg e2] at k
  have hB1:=hB.same s1
  have hW1:=hW.same hB s1
  have hla:=hW1.at_ (a:=A0.la) (by simp [dicts]) hB1.la
  refine ⟨_,rfl,_,_,_,_,_,rfl,hB1.obj,T.k_Board,T.n_Board_land_links,rfl,_,_,rfl,hla,_,_,rfl,rfl,_,rfl,ite2 (fun e3=>?_) (fun e3=>?_)⟩
  · have e3:300≤B.land.length:=by have:=of_decide_eq_true e3;rw [List.length_map] at this;omega
    rw [if_pos e3] at k
    exact ⟨one_ok,fun a ha=>k.ret hB hW s1 ha rfl⟩
  have e3:¬ 300≤B.land.length:=fun z=>e3 (decide_eq_true (by rw [List.length_map];omega))
  rw [if_neg e3] at k
  refine ⟨_,rfl,_,_,_,_,_,rfl,hB1.obj,T.k_Board,T.n_Board_land_links,rfl,_,rfl,_,rfl,p,q,rfl,fun H2 y s2 hy hk=>?_⟩
  have s12:=s1.trans s2
  have hB2:=hB1.same s2
  have hW2:=hW1.same hB1 s2
  have hla:=hW2.at_ (a:=A0.la) (by simp [dicts]) hB2.la
  obtain ⟨r1,r2,r3⟩:=hB2.set_la hW2 s12 (B.land++[landKey p q])
  rw [← putT_new e2] at r1 r2 r3
  exact ⟨_,_,rfl,DPut.t (k:=[Sum.inl (landKey p q).1,Sum.inl (landKey p q).2]) hla hk (by rw [List.length_map];exact Nat.lt_of_le_of_lt hn (by decide)),one_ok,fun a ha=>k.done hB r1 r2 r3 ha rfl⟩
def sp_sea (K:PySem.W.Frag) (mg:Str→Option Value):Sp:=fun vs H Q _=>∃(b:Addr) (A:Ads) (B:Bd) (p s q t:Int),vs=[.ref b,.int p,.int s,.int q,.int t]∧BdAt mg H b A B∧Wr H A∧IsP B p∧IsP B q∧B.sea.length≤300∧spEnd mg b A H (mSea B p s q t).1 (mSea B p s q t).2 Q
theorem sc_sea:FnScope ["board", "p", "s", "q", "t"] ["board", "p", "s", "q", "t"] (defScope s_sea):=⟨rfl,rfl,rfl,by decide +kernel,rfl,by decide +kernel,by decide +kernel⟩
theorem ok_sea (T:Txt K mg):Def P w K mg base "sea" 3 ["board", "p", "s", "q", "t"] (sp_sea K mg):=by
  obtain ⟨f,fd,hm,F,hb⟩:=T.f_sea
  refine ⟨f,hm,F.kp,fd,F.ok sc_sea (fun vs H Q E h=>?_) (fun cdv A outer s H vs Q E hr h=>?_),hb⟩
  · obtain ⟨b,A0,B,p,u,q,t,rfl,_⟩:=h;rfl
  obtain ⟨b,A0,B,p,u,q,t,rfl,hB,hW,hp,hq,hn,k⟩:=h
  have hu:=hu_of hr
  have hu64:=hu64_of hr
  have nd:=sc_sea.nd
  refine ⟨_,(pss_cons (ps_if (pt_cutP (pw_or (pt_cmpR op_eq (pv 1) (pv 3) (nomark _)) (pw_or (pt_val (cl (ok_is_of_kind T) (hr.mono (by decide)) (pa_cons (pv 0) (pa_cons (pv 1) (pa_cons (pg T.g_LAND) pa_nil))))) (pw_or1 (pt_val (cl (ok_is_of_kind T) (hr.mono (by decide)) (pa_cons (pv 0) (pa_cons (pv 3) (pa_cons (pg T.g_LAND) pa_nil)))))))).pt)
  (pss_one (ps_ret (pe_lst (pa_cons (pg T.g_NOT_FIT) pa_nil))))
  pss_nil)
 (pss_cons (ps_if (pt_val (cl (ok_sea_linked T) (hr.mono (by decide)) (pa_cons (pv 0) (pa_cons (pv 1) (pa_cons (pv 2) (pa_cons (pv 3) (pa_cons (pv 4) pa_nil)))))))
  (pss_one (ps_ret (pe_lst (pa_cons (pg T.g_THERE_ALREADY) pa_nil))))
  pss_nil)
 (pss_cons (ps_if (pt_cmpR op_ge (pe_callB call_lenT (by rfl) T.n_len PySem.boot_len (pa_cons (pe_fld (pv 0) (by rfl)) pa_nil)) (pg T.g_MOST_LINKS) (nomark _))
  (pss_one (ps_ret (pe_lst (pa_cons (pg T.g_FULL) pa_nil))))
  pss_nil)
 (pss_cons (ps_dput hu (pe_fld (pv 0) (by rfl)) (cl (ok_sea_key T) (hr.mono (by decide)) (pa_cons (pv 1) (pa_cons (pv 2) (pa_cons (pv 3) (pa_cons (pv 4) pa_nil))))) pe_bl rfl)
 (pss_one (ps_ret (pe_lst (pa_cons pe_int pa_nil)))))))),?_⟩
  unfold mSea at k
  refine ⟨decide (p=q) || (decide (kindAt B p=0) || decide (kindAt B q=0)),⟨_,rfl,_,rfl,rfl,_,rfl,?_⟩,ite2 (fun e1=>?_) (fun e1=>?_)⟩
  · rw [decV]
    refine or_c fun e=>⟨_,rfl,_,rfl,b,A0,B,p,0,rfl,hB,hp,_,rfl,?_⟩
    rw [e,Bool.false_or]
    exact or_c fun e2=>⟨_,rfl,_,rfl,b,A0,B,q,0,rfl,hB,hq,_,rfl,by rw [e2];rfl,rfl⟩
  · rw [Bool.or_eq_true,Bool.or_eq_true,decide_eq_true_iff,decide_eq_true_iff,decide_eq_true_iff] at e1
    rw [if_pos e1] at k
    exact ⟨one_ok,fun a ha=>k.ret hB hW (.refl _) ha rfl⟩
  rw [Bool.or_eq_true,Bool.or_eq_true,decide_eq_true_iff,decide_eq_true_iff,decide_eq_true_iff] at e1
  rw [if_neg e1] at k
  refine ⟨_,rfl,_,rfl,_,rfl,_,rfl,_,rfl,b,A0,B,p,u,q,t,rfl,hB,fun H1 s1=>⟨_,rfl,ite2 (fun e2=>?_) (fun e2=>?_)⟩⟩
  · rw [decide_eq_true_iff] at e2
    rw [if_pos e2] at k
    exact ⟨one_ok,fun a ha=>k.ret hB hW s1 ha rfl⟩
  rw [decide_eq_true_iff] at e2
  rw [if_neg e2] at k
  have hB1:=hB.same s1
  have hW1:=hW.same hB s1
  have hla:=hW1.at_ (a:=A0.se) (by simp [dicts]) hB1.se
  refine ⟨_,rfl,_,_,_,_,_,rfl,hB1.obj,T.k_Board,T.n_Board_sea_links,rfl,_,_,rfl,hla,_,_,rfl,rfl,_,rfl,ite2 (fun e3=>?_) (fun e3=>?_)⟩
  · have e3:300≤B.sea.length:=by have:=of_decide_eq_true e3;rw [List.length_map] at this;omega
    rw [if_pos e3] at k
    exact ⟨one_ok,fun a ha=>k.ret hB hW s1 ha rfl⟩
  have e3:¬ 300≤B.sea.length:=fun z=>e3 (decide_eq_true (by rw [List.length_map];omega))
  rw [if_neg e3] at k
  refine ⟨_,rfl,_,_,_,_,_,rfl,hB1.obj,T.k_Board,T.n_Board_sea_links,rfl,_,rfl,_,rfl,_,rfl,_,rfl,p,u,q,t,rfl,fun H2 y s2 hy hk=>?_⟩
  have s12:=s1.trans s2
  have hB2:=hB1.same s2
  have hW2:=hW1.same hB1 s2
  have hla:=hW2.at_ (a:=A0.se) (by simp [dicts]) hB2.se
  obtain ⟨r1,r2,r3⟩:=hB2.set_se hW2 s12 (B.sea++[seaKey p u q t])
  rw [← putS_new e2] at r1 r2 r3
  exact ⟨_,_,rfl,DPut.t (k:=[Sum.inl (seaKey p u q t).1,Sum.inl (seaKey p u q t).2.1,Sum.inl (seaKey p u q t).2.2.1,Sum.inl (seaKey p u q t).2.2.2]) hla hk (by rw [List.length_map];exact Nat.lt_of_le_of_lt hn (by decide)),one_ok,fun a ha=>k.done hB r1 r2 r3 ha rfl⟩
theorem putI_new {l:List Int} {p:Int}:putK (l.map kInt) (Sum.inl p) (.bl true)=((if p∈l then l else l++[p]).map kInt):=by
  by_cases h:p∈l
  · rw [if_pos h]
    unfold putK
    have e:((l.map kInt).any fun kv=>decide (kv.1=Sum.inl p))=true:=by
      rw [valV_any,valI,decide_eq_true h]
    rw [if_pos e,List.map_map]
    refine List.map_congr_left fun x _=>?_
    show (if (kInt x).1=Sum.inl p then ((kInt x).1,V.bl true) else kInt x)=kInt x
    split <;> rfl
  · rw [if_neg h,putK_new,List.map_append]
    · rfl
    · rw [valInts,if_neg h]
def sp_bar (K:PySem.W.Frag) (mg:Str→Option Value):Sp:=fun vs H Q _=>∃(b:Addr) (A:Ads) (B:Bd) (p:Int),vs=[.ref b,.int p]∧BdAt mg H b A B∧Wr H A∧B.barred.length≤40∧spEnd mg b A H (mBar B p).1 (mBar B p).2 Q
theorem sc_bar:FnScope ["board", "p"] ["board", "p"] (defScope s_bar):=⟨rfl,rfl,rfl,by decide +kernel,rfl,by decide +kernel,by decide +kernel⟩
theorem ok_bar (T:Txt K mg):Def P w K mg base "bar" 1 ["board", "p"] (sp_bar K mg):=by
  obtain ⟨f,fd,hm,F,hb⟩:=T.f_bar
  refine ⟨f,hm,F.kp,fd,F.ok sc_bar (fun vs H Q E h=>?_) (fun cdv A outer s H vs Q E hr h=>?_),hb⟩
  · obtain ⟨b,A0,B,p,rfl,_⟩:=h;rfl
  obtain ⟨b,A0,B,p,rfl,hB,hW,hn,k⟩:=h
  have hu:=hu_of hr
  have hu64:=hu64_of hr
  have nd:=sc_bar.nd
  refine ⟨_,(pss_cons (ps_dput hu (pe_fld (pv 0) (by rfl)) (pv 1) pe_bl rfl)
 (pss_one (ps_ret (pe_lst (pa_cons (pe_callB call_lenR (by rfl) T.n_len PySem.boot_len (pa_cons (pe_fld (pv 0) (by rfl)) pa_nil)) pa_nil))))),?_⟩
  have hba:=hW.at_ (a:=A0.ba) (by simp [dicts]) hB.ba
  obtain ⟨r1,r2,r3⟩:=hB.set_ba hW (Same.refl _) (if p∈B.barred then B.barred else B.barred++[p])
  rw [← putI_new] at r1 r2 r3
  refine ⟨_,rfl,_,_,_,_,_,rfl,hB.obj,T.k_Board,T.n_Board_barred,rfl,_,rfl,_,_,rfl,DPut.k (k:=Sum.inl p) hba (by rw [List.length_map];exact Nat.lt_of_le_of_lt hn (by decide)),?_⟩
  refine ⟨_,rfl,_,_,_,_,_,rfl,r1.obj,T.k_Board,T.n_Board_barred,rfl,_,_,rfl,r1.ba,one_ok,fun a ha=>?_⟩
  rw [List.length_map] at *
  unfold mBar at k
  by_cases h:p∈B.barred
  · rw [if_pos h] at k
    have r1':=r1
    rw [if_pos h] at r1'
    refine k.done hB r1' r2 r3 ha ?_
    rw [if_pos h];rfl
  · rw [if_neg h] at k
    have r1':=r1
    rw [if_neg h] at r1'
    refine k.done hB r1' r2 r3 ha ?_
    rw [if_neg h,List.length_append];rfl
end
end Sb
end
section
namespace Sb
open PySem PySem.Spec PyProof.Rows L2
section
variable {P:Program} {w:World} {K:PySem.W.Frag} {mg:Str→Option Value} {base:Heap}
theorem putK_dc {α:Type} {R:Addr→α→Prop} {kvs:List (Key×V)} {l:List (Int × α)} (h:Dc R kvs l) {p:Int} (hn:look l p=none) (v:V):putK kvs (Sum.inl p) v=kvs++[(Sum.inl p,v)]:=by
  rcases h.val p with ⟨a,x,h1,h2,_⟩ | ⟨h1,h2⟩
  · rw [hn] at h2;cases h2
  · exact putK_new v h1
def sp_man (K:PySem.W.Frag) (mg:Str→Option Value):Sp:=fun vs H Q _=>∃(b:Addr) (A:Ads) (B:Bd) (w f p s:Int),vs=[.ref b,.int w,.int f,.int p,.int s]∧BdAt mg H b A B∧Wr H A∧IsP B p∧spEnd mg b A H (mMan B w f p s).1 (mMan B w f p s).2 Q
theorem sc_man:FnScope ["board", "power", "fleet", "p", "s"] ["board", "power", "fleet", "p", "s"] (defScope s_man):=⟨rfl,rfl,rfl,by decide +kernel,rfl,by decide +kernel,by decide +kernel⟩
theorem ok_man (T:Txt K mg):Def P w K mg base "man" 3 ["board", "power", "fleet", "p", "s"] (sp_man K mg):=by
  obtain ⟨f,fd,hm,F,hb⟩:=T.f_man
  refine ⟨f,hm,F.kp,fd,F.ok sc_man (fun vs H Q E h=>?_) (fun cdv A outer s H vs Q E hr h=>?_),hb⟩
  · obtain ⟨b,A0,B,w',g,p,u,rfl,_⟩:=h;rfl
  obtain ⟨b,A0,B,w',g,p,u,rfl,hB,hW,hp,k⟩:=h
  have hu:=hu_of hr
  have hu64:=hu64_of hr
  have nd:=sc_man.nd
  refine ⟨_,(pss_cons (ps_if (pt_val (cl (ok_is_wrong_kind T) (hr.mono (by decide)) (pa_cons (pv 0) (pa_cons (pv 2) (pa_cons (pv 3) (pa_cons (pv 4) pa_nil))))))
  (pss_one (ps_ret (pe_lst (pa_cons (pg T.g_NOT_FIT) pa_nil))))
  pss_nil)
 (pss_cons (ps_if (pt_cmp (pc_din hu (pv 3) (pe_fld (pv 0) (by rfl))) (by with_unfolding_all rfl))
  (pss_one (ps_ret (pe_lst (pa_cons (pg T.g_THERE_ALREADY) pa_nil))))
  pss_nil)
 (pss_cons (ps_if (pt_val (cl (ok_is_full_of_units T) (hr.mono (by decide)) (pa_cons (pv 0) pa_nil)))
  (pss_one (ps_ret (pe_lst (pa_cons (pg T.g_FULL) pa_nil))))
  pss_nil)
 (pss_cons (ps_dput hu (pe_fld (pv 0) (by rfl)) (pv 3) (mkc (ok_Unit_init T) (hr.mono (by decide)) (pa_cons (pv 1) (pa_cons (pv 2) (pa_cons (pv 3) (pa_cons (pv 4) pa_nil))))) rfl)
 (pss_cons (ps_expr (mth0 (ok_Board_forget_raises_and_drops T) T.k_Board (hr.mono (by decide)) (pv 0)))
 (pss_one (ps_ret (pe_lst (pa_cons pe_int pa_nil))))))))),?_⟩
  unfold mMan at k
  refine ⟨_,rfl,_,rfl,_,rfl,_,rfl,b,A0,B,g,p,u,rfl,hB,hp,_,rfl,ite2 (fun e1=>?_) (fun e1=>?_)⟩
  · rw [if_pos e1] at k
    exact ⟨one_ok,fun a ha=>k.ret hB hW (.refl _) ha rfl⟩
  rw [if_neg e1] at k
  refine ⟨_,rfl,_,rfl,_,_,_,_,_,rfl,hB.obj,T.k_Board,T.n_Board_units,rfl,_,_,rfl,dgetK hB.un p,_,rfl,ite2 (fun e2=>?_) (fun e2=>?_)⟩
  · rw [hB.ua.some p] at e2
    rw [if_pos e2] at k
    exact ⟨one_ok,fun a ha=>k.ret hB hW (.refl _) ha rfl⟩
  rw [hB.ua.some p] at e2
  rw [if_neg e2] at k
  refine ⟨_,rfl,b,A0,B,rfl,hB,_,rfl,ite2 (fun e3=>?_) (fun e3=>?_)⟩
  · rw [if_pos (of_decide_eq_true e3)] at k
    exact ⟨one_ok,fun a ha=>k.ret hB hW (.refl _) ha rfl⟩
  have e3:¬ 24≤B.units.length + B.driven.length:=fun z=>e3 (decide_eq_true z)
  rw [if_neg e3] at k
  have e2:look B.units p=none:=Option.not_isSome_iff_eq_none.mp e2
  refine ⟨_,rfl,_,rfl,_,rfl,_,rfl,fun x dx nx ndx ne=>mk_unit nx ndx fun H1 s1 hU=>?_⟩
  have hB1:=hB.same s1
  have hW1:=hW.same hB s1
  have hun:=hW1.at_ (a:=A0.un) (by simp [dicts]) hB1.un
  obtain ⟨r1,r2,r3⟩:=hB1.set_un hW1 s1 (hB1.ua.snoc (p:=p) hU)
  rw [← putK_dc hB1.ua e2] at r1 r2 r3
  refine ⟨_,rfl,_,_,_,_,_,rfl,hB1.obj,T.k_Board,T.n_Board_units,rfl,_,rfl,_,_,rfl,DPut.k (k:=Sum.inl p) hun (by rw [hB.ua.len];exact Nat.lt_of_le_of_lt (show B.units.length≤24 by omega) (by decide)),?_⟩
  refine ⟨_,rfl,b,A0.dx,_,rfl,r1.obj,rfl,b,_,_,rfl,r1,r2,fun H2 A2 b2 w2 f2=>?_⟩
  exact ⟨one_ok,fun a ha=>k.done hB b2 w2 (r3.trans f2 fun a z=>hB.foot z) ha rfl⟩
def sp_driven (K:PySem.W.Frag) (mg:Str→Option Value):Sp:=fun vs H Q _=>∃(b:Addr) (A:Ads) (B:Bd) (w f p s o:Int),vs=[.ref b,.int w,.int f,.int p,.int s,.int o]∧BdAt mg H b A B∧Wr H A∧IsP B p∧spEnd mg b A H (mDriven B w f p s o).1 (mDriven B w f p s o).2 Q
theorem sc_driven:FnScope ["board", "power", "fleet", "p", "s", "origin"] ["board", "power", "fleet", "p", "s", "origin"] (defScope s_driven):=⟨rfl,rfl,rfl,by decide +kernel,rfl,by decide +kernel,by decide +kernel⟩
theorem ok_driven (T:Txt K mg):Def P w K mg base "driven" 3 ["board", "power", "fleet", "p", "s", "origin"] (sp_driven K mg):=by
  obtain ⟨f,fd,hm,F,hb⟩:=T.f_driven
  refine ⟨f,hm,F.kp,fd,F.ok sc_driven (fun vs H Q E h=>?_) (fun cdv A outer s H vs Q E hr h=>?_),hb⟩
  · obtain ⟨b,A0,B,w',g,p,u,o,rfl,_⟩:=h;rfl
  obtain ⟨b,A0,B,w',g,p,u,o,rfl,hB,hW,hp,k⟩:=h
  have hu:=hu_of hr
  have hu64:=hu64_of hr
  have nd:=sc_driven.nd
  refine ⟨_,(pss_cons (ps_if (pt_val (cl (ok_is_wrong_kind T) (hr.mono (by decide)) (pa_cons (pv 0) (pa_cons (pv 2) (pa_cons (pv 3) (pa_cons (pv 4) pa_nil))))))
  (pss_one (ps_ret (pe_lst (pa_cons (pg T.g_NOT_FIT) pa_nil))))
  pss_nil)
 (pss_cons (ps_if (pt_cmp (pc_din hu (pv 3) (pe_fld (pv 0) (by rfl))) (by with_unfolding_all rfl))
  (pss_one (ps_ret (pe_lst (pa_cons (pg T.g_THERE_ALREADY) pa_nil))))
  pss_nil)
 (pss_cons (ps_if (pt_val (cl (ok_is_full_of_units T) (hr.mono (by decide)) (pa_cons (pv 0) pa_nil)))
  (pss_one (ps_ret (pe_lst (pa_cons (pg T.g_FULL) pa_nil))))
  pss_nil)
 (pss_cons (ps_dput hu (pe_fld (pv 0) (by rfl)) (pv 3) (mkc (ok_DrivenUnit_init T) (hr.mono (by decide)) (pa_cons (mkc (ok_Unit_init T) (hr.mono (by decide)) (pa_cons (pv 1) (pa_cons (pv 2) (pa_cons (pv 3) (pa_cons (pv 4) pa_nil))))) (pa_cons (pv 5) pa_nil))) rfl)
 (pss_cons (ps_expr (mth0 (ok_Board_forget_raises_and_drops T) T.k_Board (hr.mono (by decide)) (pv 0)))
 (pss_one (ps_ret (pe_lst (pa_cons pe_int pa_nil))))))))),?_⟩
  unfold mDriven at k
  refine ⟨_,rfl,_,rfl,_,rfl,_,rfl,b,A0,B,g,p,u,rfl,hB,hp,_,rfl,ite2 (fun e1=>?_) (fun e1=>?_)⟩
  · rw [if_pos e1] at k
    exact ⟨one_ok,fun a ha=>k.ret hB hW (.refl _) ha rfl⟩
  rw [if_neg e1] at k
  refine ⟨_,rfl,_,rfl,_,_,_,_,_,rfl,hB.obj,T.k_Board,T.n_Board_driven,rfl,_,_,rfl,dgetK hB.dr p,_,rfl,ite2 (fun e2=>?_) (fun e2=>?_)⟩
  · rw [hB.da.some p] at e2
    rw [if_pos e2] at k
    exact ⟨one_ok,fun a ha=>k.ret hB hW (.refl _) ha rfl⟩
  rw [hB.da.some p] at e2
  rw [if_neg e2] at k
  refine ⟨_,rfl,b,A0,B,rfl,hB,_,rfl,ite2 (fun e3=>?_) (fun e3=>?_)⟩
  · rw [if_pos (of_decide_eq_true e3)] at k
    exact ⟨one_ok,fun a ha=>k.ret hB hW (.refl _) ha rfl⟩
  have e3:¬ 24≤B.units.length + B.driven.length:=fun z=>e3 (decide_eq_true z)
  rw [if_neg e3] at k
  have e2:look B.driven p=none:=Option.not_isSome_iff_eq_none.mp e2
  refine ⟨_,rfl,_,rfl,_,rfl,_,rfl,fun x dx nx ndx ne=>mk_unit nx ndx fun H1 s1 hU=>?_⟩
  refine ⟨_,rfl,fun y dy ny ndy ne2=>mk_drv hU ny ndy fun H2 s2 hD=>?_⟩
  have s12:=s1.trans s2
  have hB2:=hB.same s12
  have hW2:=hW.same hB s12
  have hdr:=hW2.at_ (a:=A0.dr) (by simp [dicts]) hB2.dr
  have hy:H y=none:=s1.free ny
  have ny':V.ref y∉A0.kd.map (·.2):=fun m=>by
    obtain ⟨q,e⟩:=hB.foot (a:=y) (.inr (.inr (.inr (.inr m))))
    rw [hy] at e;cases e
  obtain ⟨r1,r2,r3⟩:=hB2.set_dr hW2 s12 (hB2.da.snoc (p:=p) hD) (by rw [List.map_append];exact nd_snoc hB2.dnd ny') (fun z hz=>by
    rw [List.map_append,List.mem_append] at hz
    rcases hz with q | q
    · exact .inl q
    · have:z=y:=by simpa using q
      rw [this];exact .inr hy)
  rw [← putK_dc hB2.da e2] at r1 r2 r3
  refine ⟨_,rfl,_,_,_,_,_,rfl,hB2.obj,T.k_Board,T.n_Board_driven,rfl,_,rfl,_,_,rfl,DPut.k (k:=Sum.inl p) hdr (by rw [hB2.da.len];exact Nat.lt_of_le_of_lt (show B.driven.length≤24 by omega) (by decide)),?_⟩
  refine ⟨_,rfl,b,A0.dx,_,rfl,r1.obj,rfl,b,_,_,rfl,r1,r2,fun H3 A3 b3 w3 f3=>?_⟩
  exact ⟨one_ok,fun a ha=>k.done hB b3 w3 (r3.trans f3 fun a z=>hB.foot z) ha rfl⟩
theorem BdAt.set_owB {H0 H:Hp} {b a dx:Addr} {A:Ads} {B:Bd} {i:Nat} {x:Prov} (h:BdAt mg H b A B) (s:Same H0 H) (ha:A.ps[i]? = some a) (hx:B.provs[i]? = some x) (e:H a=some (.ins (adr mg "Province") dx (fProv x))) (y:Int) :
    BdAt mg (upd H a (.ins (adr mg "Province") dx (fProv { x with owner:=y }))) b A { B with provs:=setOwner B.provs i y }∧Frm b A A H0 (upd H a (.ins (adr mg "Province") dx (fProv { x with owner:=y }))):=by
  have kp:Kp a H (upd H a (.ins (adr mg "Province") dx (fProv { x with owner:=y }))):=Kp.of (Same.refl _)
  have kt:Kept mg H (upd H a (.ins (adr mg "Province") dx (fProv { x with owner:=y }))) b a 6 A B:=h.kept e kp
  have dn:∀c∈dicts A,c≠a:=fun c hc=>h.dne hc e (by rw [tag_pr];decide)
  refine ⟨⟨kt.obj (by decide),kt.pl (by decide),h.pnd,?_,kt.la (dn _ (by simp [dicts])),kt.se (dn _ (by simp [dicts])),kt.un (dn _ (by simp [dicts])),kt.ua (by decide),kt.dr (dn _ (by simp [dicts])),kt.da (by decide) (by decide) (by decide),h.dnd,
      kt.ba (dn _ (by simp [dicts])),kt.ra (dn _ (by simp [dicts])),kt.raa (by decide),kt.dp (dn _ (by simp [dicts])),h.nd⟩,?_⟩
  · have hp:=h.pa
    have hnd:=h.pnd
    clear kt dn h s
    show Paired (PrAt mg (upd H a _)) A.ps (setOwner B.provs i y)
    revert hp hnd ha hx
    generalize A.ps=as
    generalize B.provs=ps
    intro ha hx hp hnd
    induction hp generalizing i with
    | nil=>cases ha
    | @cons c z as ps r t ih =>
      have hnd':=List.nodup_cons.mp hnd
      cases i with
      | zero =>
        obtain rfl:c=a:=Option.some.inj (ha:some c=some a)
        obtain rfl:z=x:=Option.some.inj (hx:some z=some x)
        show Paired _ (c::as) ({ z with owner:=y }::ps)
        refine .cons ⟨dx,upd_same⟩ ?_
        have:∀m∈as,m≠c:=fun m hm q=>hnd'.1 (by rw [← q];exact hm)
        clear ih hnd hnd' ha hx r e kp
        induction t with
        | nil=>exact .nil
        | @cons m u as ps r t ih =>
          obtain ⟨dz,q⟩:=r
          exact .cons ⟨dz,by rw [upd_ne (this m List.mem_cons_self)];exact q⟩ (ih fun n hn=>this n (List.mem_cons_of_mem _ hn))
      | succ i =>
        have hne:c≠a:=fun q=>hnd'.1 (by rw [q];exact List.mem_of_getElem? (show as[i]? = some a from ha))
        obtain ⟨dz,q⟩:=r
        exact .cons ⟨dz,by rw [upd_ne hne];exact q⟩ (ih (show as[i]? = some a from ha) (show ps[i]? = some x from hx) hnd'.2)
  · refine ⟨fun c o q nf=>?_,fun c z=>.inl z,fun c o q=>?_⟩
    · rw [upd_ne (fun z=>nf (.inr (.inr (.inr (.inl (by rw [z];exact List.mem_of_getElem? ha))))))];exact s _ _ q
    · by_cases z:c=a
      · rw [z];exact ⟨_,upd_same⟩
      · exact ⟨o,by rw [upd_ne z];exact s _ _ q⟩
theorem BdAt.set_ow {H0 H:Hp} {b a dx:Addr} {A:Ads} {B:Bd} {i:Nat} {x:Prov} (h:BdAt mg H b A B) (w:Wr H A) (s:Same H0 H) (ha:A.ps[i]? = some a) (hx:B.provs[i]? = some x) (e:H a=some (.ins (adr mg "Province") dx (fProv x))) (y:Int) :
    BdAt mg (upd H a (.ins (adr mg "Province") dx (fProv { x with owner:=y }))) b A { B with provs:=setOwner B.provs i y }∧Wr (upd H a (.ins (adr mg "Province") dx (fProv { x with owner:=y }))) A∧Frm b A A H0 (upd H a (.ins (adr mg "Province") dx (fProv { x with owner:=y }))) :=
  ⟨(h.set_owB s ha hx e y).1,wr_upd w (fun _ _ z=>nomatch z),(h.set_owB s ha hx e y).2⟩
def sp_owner (K:PySem.W.Frag) (mg:Str→Option Value):Sp:=fun vs H Q _=>∃(b:Addr) (A:Ads) (B:Bd) (p w:Int),vs=[.ref b,.int p,.int w]∧BdAt mg H b A B∧Wr H A∧IsP B p∧spEnd mg b A H (mOwner B p w).1 (mOwner B p w).2 Q
theorem sc_owner:FnScope ["board", "p", "power", "owned"] ["board", "p", "power"] (defScope s_owner):=⟨rfl,rfl,rfl,by decide +kernel,rfl,by decide +kernel,by decide +kernel⟩
theorem ok_owner (T:Txt K mg):Def P w K mg base "owner" 2 ["board", "p", "power"] (sp_owner K mg):=by
  obtain ⟨f,fd,hm,F,hb⟩:=T.f_owner
  refine ⟨f,hm,F.kp,fd,F.ok sc_owner (fun vs H Q E h=>?_) (fun cdv A outer s H vs Q E hr h=>?_),hb⟩
  · obtain ⟨b,A0,B,p,y,rfl,_⟩:=h;rfl
  obtain ⟨b,A0,B,p,y,rfl,hB,hW,hp,k⟩:=h
  have hu:=hu_of hr
  have hu64:=hu64_of hr
  have nd:=sc_owner.nd
  refine ⟨_,(pss_cons (ps_set (i:=3) nd rfl (by first | exact Or.inl rfl | exact Or.inr rfl) (pe_ix ix_list (pe_fld (pv 0) (by rfl)) (pv 1) (fun _ _=>rfl)))
 (pss_cons (ps_if (pt_cmpR op_eq (pe_fld (pv 3) (by rfl)) pe_int (nomark _))
  (pss_one (ps_ret (pe_lst (pa_cons (pg T.g_NOT_FIT) pa_nil))))
  pss_nil)
 (pss_cons (ps_fld (pv 3) (pv 2) rfl)
 (pss_cons (ps_expr (mth0 (ok_Board_forget_raises_and_drops T) T.k_Board (hr.mono (by decide)) (pv 0)))
 (pss_one (ps_ret (pe_lst (pa_cons pe_int pa_nil)))))))),?_⟩
  obtain ⟨a,pr,ha,hx,dx,hP⟩:=hB.prov hp
  unfold mOwner at k
  have ec:centreAt B p=pr.centre:=by unfold centreAt;rw [hx];rfl
  rw [ec] at k
  refine ⟨_,rfl,_,_,_,_,_,rfl,hB.obj,T.k_Board,T.n_Board_provinces,rfl,_,rfl,_,_,_,_,rfl,rfl,SqL.of hB.pl,hB.pat hp ha,?_⟩
  refine ⟨_,rfl,_,_,_,_,_,rfl,hP,T.k_Province,T.n_Province_centre,rfl,rfl,_,rfl,?_⟩
  rw [decV]
  refine ite2 (fun e1=>?_) (fun e1=>?_)
  · rw [if_pos (of_decide_eq_true e1)] at k
    exact ⟨one_ok,fun q hq=>k.ret hB hW (.refl _) hq rfl⟩
  have e1:¬ pr.centre=0:=fun z=>e1 (decide_eq_true z)
  rw [if_neg e1] at k
  obtain ⟨r1,r2,r3⟩:=hB.set_ow hW (.refl _) ha hx hP y
  refine ⟨_,rfl,_,rfl,a,_,dx,_,rfl,hP,T.k_Province,T.n_Province_owner,(by show 4<1000;decide),?_⟩
  refine ⟨_,rfl,b,A0.dx,_,rfl,r1.obj,rfl,b,_,_,rfl,r1,r2,fun H3 A3 b3 w3 f3=>?_⟩
  exact ⟨one_ok,fun a ha=>k.done hB b3 w3 (r3.trans f3 fun a z=>hB.foot z) ha rfl⟩
end
end Sb
end
section
namespace Sb
open PySem PySem.Spec PyProof.Rows L2
section
variable {P:Program} {w:World} {K:PySem.W.Frag} {mg:Str→Option Value} {base:Heap}
theorem isNone_not {α:Type} (o:Option α):o.isNone = !o.isSome:=by cases o <;> rfl
def sp_may_enter (K:PySem.W.Frag) (mg:Str→Option Value):Sp:=fun vs H Q _=>∃(b:Addr) (A:Ads) (B:Bd) (d:Addr) (x:Drv) (q:Int),vs=[.ref b,.ref d,.int q]∧BdAt mg H b A B∧DrAt mg H d x∧Q (.bl (mayEnter B x q)) H
theorem sc_may_enter:FnScope ["board", "driven_unit", "q"] ["board", "driven_unit", "q"] (defScope s_may_enter):=⟨rfl,rfl,rfl,by decide +kernel,rfl,by decide +kernel,by decide +kernel⟩
theorem ok_may_enter (T:Txt K mg):Def P w K mg base "may_enter" 1 ["board", "driven_unit", "q"] (sp_may_enter K mg):=by
  obtain ⟨f,fd,hm,F,hb⟩:=T.f_may_enter
  refine ⟨f,hm,F.kp,fd,F.ok sc_may_enter (fun vs H Q E h=>?_) (fun cdv A outer s H vs Q E hr h=>?_),hb⟩
  · obtain ⟨b,A0,B,d,x,q,rfl,_⟩:=h;rfl
  obtain ⟨b,A0,B,d,x,q,rfl,hB,hD,k⟩:=h
  have hu:=hu_of hr
  have hu64:=hu64_of hr
  have nd:=sc_may_enter.nd
  refine ⟨_,(pss_cons (ps_if (pt_cutP (pw_or (pt_cmpR op_eq (pv 2) (pe_fld (pe_fld (pv 1) (by rfl)) (by rfl)) (nomark _)) (pw_or1 (pt_cmpR op_eq (pv 2) (pe_fld (pv 1) (by rfl)) (nomark _)))).pt)
  (pss_one (ps_ret pe_bl))
  pss_nil)
 (pss_one (ps_ret (pe_and (pe_cmp (pc_dnotin hu (pv 2) (pe_fld (pv 0) (by rfl))) (by with_unfolding_all rfl)) (pe_one (pe_cmp (pc_dnotin hu (pv 2) (pe_fld (pv 0) (by rfl))) (by with_unfolding_all rfl))))))),?_⟩
  obtain ⟨dd,ua,gv,hd,⟨du,hU⟩,hg⟩:=hD
  unfold mayEnter at k
  refine ⟨decide (q=x.unit.prov) || decide (q=x.origin),⟨_,rfl,_,rfl,_,_,_,_,_,rfl,hd,T.k_DrivenUnit,T.n_DrivenUnit_unit,rfl,_,_,_,_,_,rfl,hU,T.k_Unit,T.n_Unit_province,rfl,rfl,_,rfl,?_⟩,ite2 (fun e1=>?_) (fun e1=>?_)⟩
  · rw [decV]
    exact or_c fun e=>⟨_,rfl,_,rfl,_,_,_,_,_,rfl,hd,T.k_DrivenUnit,T.n_DrivenUnit_origin,rfl,rfl,_,rfl,by rw [decV,e];rfl,rfl⟩
  · rw [e1] at k
    exact k
  have e1:=Bool.eq_false_iff.mpr e1
  rw [e1] at k
  refine ⟨_,rfl,_,rfl,_,_,_,_,_,rfl,hB.obj,T.k_Board,T.n_Board_barred,rfl,_,_,rfl,dgetK hB.ba q,_,rfl,?_⟩
  rw [valI]
  refine ite2 (fun e2=>?_) (fun e2=>?_)
  · rw [e2] at k
    refine ⟨_,rfl,_,rfl,_,_,_,_,_,rfl,hB.obj,T.k_Board,T.n_Board_units,rfl,_,_,rfl,dgetK hB.un q,?_⟩
    rw [hB.ua.some,← isNone_not]
    exact k
  · rw [Bool.eq_false_iff.mpr e2] at k
    exact k
def reachTo (B:Bd) (u:Unt) (q:Int) (i:Nat):List (Int×Int):=((([0,1,2,3]:List Int).take i).filter fun s=>decide (seaKey u.prov u.shore q s∈B.sea)).map fun s=>(q,s)
theorem reachTo_succ (B:Bd) (u:Unt) (q:Int) {i:Nat} {s:Int} (h:([0,1,2,3]:List Int)[i]? = some s):reachTo B u q (i + 1)=reachTo B u q i++(if seaKey u.prov u.shore q s∈B.sea then [(q,s)] else []):=by
  unfold reachTo
  rw [List.take_add_one,h,List.filter_append,List.map_append]
  congr 1
  by_cases e:seaKey u.prov u.shore q s∈B.sea
  · rw [if_pos e];simp [e]
  · rw [if_neg e];simp [e]
def sp_reached_places (K:PySem.W.Frag) (mg:Str→Option Value):Sp:=fun vs H Q _=>∃(b:Addr) (A:Ads) (B:Bd) (d:Addr) (x:Unt) (q:Int),vs=[.ref b,.ref d,.int q]∧BdAt mg H b A B∧UnAt mg H d x∧IsP B q ∧
  ∀H' p,Same H H'→H p=none→LTAt H' p ((reached B x q).map pr2)→Q (.ref p) H'
theorem sc_reached_places:FnScope ["board", "unit", "q", "t"] ["board", "unit", "q"] (defScope s_reached_places):=⟨rfl,rfl,rfl,by decide +kernel,rfl,by decide +kernel,by decide +kernel⟩
theorem ok_reached_places (T:Txt K mg):Def P w K mg base "reached_places" 3 ["board", "unit", "q"] (sp_reached_places K mg):=by
  obtain ⟨f,fd,hm,F,hb⟩:=T.f_reached_places
  refine ⟨f,hm,F.kp,fd,F.ok sc_reached_places (fun vs H Q E h=>?_) (fun cdv A outer s H vs Q E hr h=>?_),hb⟩
  · obtain ⟨b,A0,B,d,x,q,rfl,_⟩:=h;rfl
  obtain ⟨b,A0,B,d,x,q,rfl,hB,hU0,hq,k⟩:=h
  have hu:=hu_of hr
  have hu64:=hu64_of hr
  have nd:=sc_reached_places.nd
  refine ⟨_,(pss_cons (ps_if (pt_cmpR op_eq (pe_fld (pv 1) (by rfl)) pe_int (nomark _))
  (pss_one (ps_ret (pe_lc (own:=[("t", 3)]) rfl nd (pi_tup (pgr T.r_SHORES)) (blkOk_by (by rfl)) (fun _ _ _ _ _=>(pg_name (i:=3) nd rfl (Or.inl rfl))) (fun _ _ _ _ _=>pts_one (pt_val (cl (ok_sea_linked T) (hr.mono (by decide)) (pa_cons (pv 0) (pa_cons (pe_fldK K rfl (pv 1) (by rfl)) (pa_cons (pe_fldK K rfl (pv 1) (by rfl)) (pa_cons (pv 2) (pa_cons (pv 3) pa_nil)))))))) (fun _ _ _ _ _=>(pe_tup (pa_cons (pv 2) (pa_cons (pv 3) pa_nil)))))))
  pss_nil)
 (pss_cons (ps_if (pt_cutS (pw_or (pt_val (cl (ok_is_of_kind T) (hr.mono (by decide)) (pa_cons (pv 0) (pa_cons (pv 2) (pa_cons (pg T.g_SEA) pa_nil))))) (pw_or1 (pt_not (pt_val (cl (ok_land_linked T) (hr.mono (by decide)) (pa_cons (pv 0) (pa_cons (pe_fld (pv 1) (by rfl)) (pa_cons (pv 2) pa_nil)))))))).pt)
  (pss_one (ps_ret (pe_lst pa_nil)))
  pss_nil)
 (pss_one (ps_ret (pe_lst (pa_cons (pe_tup (pa_cons (pv 2) (pa_cons pe_int pa_nil))) pa_nil)))))),?_⟩
  have hU0':=hU0
  obtain ⟨du,hU⟩:=hU0'
  unfold reached at k
  have hS:∀H:Hp,SqT K H (adr mg "SHORES") [.int 0,.int 1,.int 2,.int 3]:=fun _=>.inr T.t_SHORES
  refine ⟨_,rfl,_,_,_,_,_,rfl,hU,T.k_Unit,T.n_Unit_fleet,rfl,rfl,_,rfl,?_⟩
  rw [decV]
  refine ite2 (fun e1=>?_) (fun e1=>?_)
  · rw [if_pos (of_decide_eq_true e1)] at k
    refine ⟨_,rfl,⟨_,hS H⟩,fun D hD=>lc_acc (n:=4) hD (by decide) (fun i acc H'=>∃as:List Addr,acc=as.map V.ref∧TupsAt H' as ((reachTo B x q i).map pr2)) (fun i acc H1 H2 hd s ⟨as,e,t⟩=>⟨as,e,t.butD hd s⟩)
      (fun i H1 hi s1=>⟨_,_,hS H1,List.getElem?_eq_getElem (by exact hi)⟩) (fun H1 s1=>⟨_,hS H1,Nat.le_refl _⟩) ⟨[],rfl,.nil⟩ ?_ ?_⟩
    · rintro i y H1 H1' acc Nx hi s1 hDl ⟨as,rfl,t⟩ ⟨rfl,hy⟩ kN kY
      have hy:=hy _ (hS _)
      obtain ⟨s0,hs0,rfl⟩:∃s0,([0,1,2,3]:List Int)[i]? = some s0∧y=V.int s0:=by
        have:(([0,1,2,3]:List Int).map V.int)[i]? = some y:=hy
        rw [List.getElem?_map,Option.map_eq_some_iff] at this
        obtain ⟨z,h1,h2⟩:=this
        exact ⟨z,h1,h2.symm⟩
      have hB1:=hB.same s1
      have hU1:=s1 _ _ hU
      refine ⟨rfl,_,rfl,_,rfl,_,_,_,_,_,rfl,hU1,T.k_Unit,T.n_Unit_province,rfl,_,rfl,_,_,_,_,_,rfl,hU1,T.k_Unit,T.n_Unit_shore,rfl,_,rfl,_,rfl,b,A0,B,_,_,_,_,rfl,hB1,fun H3 s3=>⟨_,rfl,ite2 (fun e2=>?_) (fun e2=>?_)⟩⟩
      · have e2:=of_decide_eq_true e2
        refine ⟨_,rfl,_,rfl,(by show 2≤sizeLine;decide),fun z hz=>kY _ _ (s3.trans (Same.mk hz)) ?_⟩
        refine ⟨as++[z],by rw [List.map_append];rfl,?_⟩
        rw [reachTo_succ B x q hs0,if_pos e2,List.map_append]
        exact (t.same (s3.trans (Same.mk hz))).snoc (r:=[q,s0]) upd_same
      · refine kN _ s3 ⟨as,rfl,?_⟩
        rw [reachTo_succ B x q hs0,if_neg (fun z=>e2 (decide_eq_true z)),List.append_nil]
        exact t.same s3
    · rintro H1 acc s1 hacc ⟨as,rfl,t⟩
      exact k H1 D s1 hD ⟨as,hacc,t⟩
  rw [if_neg (fun z=>e1 (decide_eq_true z))] at k
  refine ⟨decide (kindAt B q=1) || !decide (landKey x.prov q∈B.land),⟨_,rfl,_,rfl,b,A0,B,q,1,rfl,hB,hq,_,rfl,?_⟩,fun H1 s1=>ite2 (fun e2=>?_) (fun e2=>?_)⟩
  · refine ite2 (fun e=>⟨by rw [e];rfl,Same.refl _⟩) (fun e=>⟨_,rfl,_,rfl,_,_,_,_,_,rfl,hU,T.k_Unit,T.n_Unit_province,rfl,_,rfl,b,A0,B,_,_,rfl,hB,fun H1 s1=>⟨_,rfl,by rw [Bool.eq_false_iff.mpr e];rfl,s1⟩⟩)
  · rw [Bool.or_eq_true,Bool.not_eq_true',decide_eq_true_iff,decide_eq_false_iff_not] at e2
    rw [if_pos e2] at k
    exact ⟨Nat.zero_le _,fun p hp=>k _ p (s1.put (s1.free hp)) (s1.free hp) ⟨[],upd_same,.nil⟩⟩
  · rw [Bool.or_eq_true,Bool.not_eq_true',decide_eq_true_iff,decide_eq_false_iff_not] at e2
    rw [if_neg e2] at k
    refine ⟨_,rfl,(by show 2≤sizeLine;decide),fun z hz=>⟨one_ok,fun p hp=>?_⟩⟩
    have s2:Same H1 (upd H1 z (.tup [.int q,.int 0])):=Same.mk hz
    refine k _ p ((s1.trans s2).put (s1.free (s2.free hp))) (s1.free (s2.free hp)) ⟨[z],upd_same,.cons ?_ .nil⟩
    rw [upd_ne (fun e=>by rw [← e,upd_same] at hp;cases hp)]
    exact upd_same
end
end Sb
end
section
namespace Sb
open PySem PySem.Spec PyProof.Rows L2
section
variable {P:Program} {w:World} {K:PySem.W.Frag} {mg:Str→Option Value} {base:Heap}
theorem reached_len (B:Bd) (u:Unt) (q:Int):(reached B u q).length≤4:=by
  unfold reached
  split
  · rw [List.length_map];exact List.length_filter_le _ _
  · split
    · exact Nat.zero_le _
    · exact Nat.le_of_lt (by decide:1<4)
def chTo (B:Bd) (d:Drv) (i:Nat):List (Int×Int):=(List.range i).flatMap fun (q:Nat)=>if mayEnter B d q=true then reached B d.unit q else []
theorem chTo_succ (B:Bd) (d:Drv) (i:Nat):chTo B d (i + 1)=chTo B d i++(if mayEnter B d i=true then reached B d.unit i else []):=by
  unfold chTo
  rw [List.range_succ,List.flatMap_append,List.flatMap_singleton]
theorem chTo_len (B:Bd) (d:Drv):∀i,(chTo B d i).length≤4 * i
  | 0=>Nat.le_refl _
  | i + 1=>by
    have h1:=chTo_len B d i
    have h2:=reached_len B d.unit i
    rw [chTo_succ,List.length_append]
    split
    · omega
    · rw [List.length_nil];omega
def sp_choices_of (K:PySem.W.Frag) (mg:Str→Option Value):Sp:=fun vs H Q _=>∃(b:Addr) (A:Ads) (B:Bd) (d:Addr) (x:Drv),vs=[.ref b,.ref d]∧BdAt mg H b A B∧DrAt mg H d x∧B.provs.length≤40 ∧
  ∀H' p,Same H H'→H p=none→LTAt H' p ((mChoices B x).map pr2)→Q (.ref p) H'
theorem sc_choices_of:FnScope ["board", "driven_unit", "places", "q"] ["board", "driven_unit"] (defScope s_choices_of):=⟨rfl,rfl,rfl,by decide +kernel,rfl,by decide +kernel,by decide +kernel⟩
theorem ok_choices_of (T:Txt K mg):Def P w K mg base "choices_of" 4 ["board", "driven_unit"] (sp_choices_of K mg):=by
  obtain ⟨f,fd,hm,F,hb⟩:=T.f_choices_of
  refine ⟨f,hm,F.kp,fd,F.ok sc_choices_of (fun vs H Q E h=>?_) (fun cdv A outer s H vs Q E hr h=>?_),hb⟩
  · obtain ⟨b,A0,B,d,x,rfl,_⟩:=h;rfl
  obtain ⟨b,A0,B,d,x,rfl,hB,hD,hn,k⟩:=h
  have hu:=hu_of hr
  have hu64:=hu64_of hr
  have nd:=sc_choices_of.nd
  refine ⟨_,(pss_cons (ps_set (i:=2) nd rfl (Or.inl rfl) (pe_lst pa_nil))
 (pss_cons (ps_for PassesOwn.never rfl (pi_range1 rfl T.n_range (pa_cons (pe_callB call_len_seq (by rfl) T.n_len PySem.boot_len (pa_cons (pe_fld (pv 0) (by rfl)) pa_nil)) pa_nil)) (pg_name (i:=3) nd rfl (Or.inl rfl))
  (pss_one (ps_if (pt_val (cl (ok_may_enter T) (hr.mono (by decide)) (pa_cons (pv 0) (pa_cons (pv 1) (pa_cons (pv 3) pa_nil)))))
  (pss_one (ps_expr (pe_bm PySem.F.plainAttrs_list PySem.F.slot_list_extend PySem.F.type_list_extend mt_extend (pv 2) (pa_cons (cl (ok_reached_places T) (hr.mono (by decide)) (pa_cons (pv 0) (pa_cons (pe_fld (pv 1) (by rfl)) (pa_cons (pv 3) pa_nil)))) pa_nil))))
  pss_nil)))
 (pss_one (ps_ret (pv 2))))),?_⟩
  have hl:=hB.plen
  refine ⟨Nat.zero_le _,fun pl hpl=>?_⟩
  have s1:Same H (upd H pl (.lst [])):=Same.mk hpl
  have hB1:=hB.same s1
  refine ⟨_,rfl,_,_,_,_,_,rfl,hB1.obj,T.k_Board,T.n_Board_provinces,rfl,_,_,rfl,.inl (SqL.of hB1.pl),_,rfl,(by omega),(by rw [List.length_map];omega),?_⟩
  refine for_range (fun i σ H'=>∃v,σ = [some (.ref b),some (.ref d),some (.ref pl),v]∧Same H H'∧LTAt H' pl ((chTo B x i).map pr2)) ⟨none,rfl,s1,[],upd_same,.nil⟩ ?_ ?_
  · rintro i σ H1 hi ⟨v,rfl,s2,as,hpl2,ht⟩
    have hi':i<B.provs.length:=by rw [List.length_map] at hi;omega
    have hB2:=hB.same s2
    have hD2:=hD.mono (.of s2)
    rw [Int.zero_add]
    refine ⟨_,rfl,_,rfl,_,rfl,b,A0,B,d,x,_,rfl,hB2,hD2,_,rfl,ite2 (fun e=>?_) (fun e=>?_)⟩
    · obtain ⟨dd,ua,gv,hd,hU,hg⟩:=hD2
      refine ⟨_,rfl,.inl ⟨rfl,_,SqL.of hpl2⟩,_,rfl,_,rfl,_,_,_,_,_,rfl,hd,T.k_DrivenUnit,T.n_DrivenUnit_unit,rfl,_,rfl,b,A0,B,ua,x.unit,_,rfl,hB2,hU,⟨by omega,by omega⟩,fun H3 p s3 hp ⟨bs,hp3,tb⟩=>?_⟩
      have hpl3:=s3 _ _ hpl2
      have l1:=ht.len
      have l2:=tb.len
      have c1:=chTo_len B x i
      have c2:=reached_len B x.unit i
      rw [List.length_map] at l1 l2
      refine ⟨pl,p,_,_,rfl,rfl,hpl3,hp3,(by rw [List.length_map,List.length_map,l1,l2];exact Nat.le_trans (show _≤1000 by omega) (by decide)),?_⟩
      refine ⟨_,rfl,(s2.trans s3).put hpl,as++bs,by rw [List.map_append];exact upd_same,?_⟩
      rw [chTo_succ,if_pos e,List.map_append]
      exact ((ht.same s3).app tb).but hpl3 fun a o ne q=>by rw [upd_ne ne];exact q
    · refine ⟨_,rfl,s2,as,hpl2,?_⟩
      rw [chTo_succ,if_neg e,List.append_nil]
      exact ht
  · rintro σ H1 ⟨v,rfl,s2,hpl2⟩
    refine ⟨_,rfl,k H1 pl s2 hpl ?_⟩
    have e:((((A0.ps.map V.ref).length:Nat):Int)).toNat=B.provs.length:=by rw [List.length_map];omega
    rw [e] at hpl2
    exact hpl2
def sp_rows (K:PySem.W.Frag) (mg:Str→Option Value):Sp:=fun vs H Q _=>∃(p:Addr) (rs:List (List Int)),vs=[.ref p]∧LTAt H p rs∧rs.flatten.length≤10000∧∀H' q,Same H H'→H q=none→H' q=some (.lst (((rs.length:Int)::rs.flatten).map V.int))→Q (.ref q) H'
theorem sc_rows:FnScope ["parts", "numbers", "part"] ["parts"] (defScope s_rows):=⟨rfl,rfl,rfl,by decide +kernel,rfl,by decide +kernel,by decide +kernel⟩
theorem ok_rows (T:Txt K mg):Def P w K mg base "rows" 1 ["parts"] (sp_rows K mg):=by
  obtain ⟨f,fd,hm,F,hb⟩:=T.f_rows
  refine ⟨f,hm,F.kp,fd,F.ok sc_rows (fun vs H Q E h=>?_) (fun cdv A outer s H vs Q E hr h=>?_),hb⟩
  · obtain ⟨p,rs,rfl,_⟩:=h;rfl
  obtain ⟨p,rs,rfl,hL,hn,k⟩:=h
  have hu:=hu_of hr
  have hu64:=hu64_of hr
  have nd:=sc_rows.nd
  refine ⟨_,(pss_cons (ps_set (i:=1) nd rfl (Or.inl rfl) (pe_lst (pa_cons (pe_callB call_len_seq (by rfl) T.n_len PySem.boot_len (pa_cons (pv 0) pa_nil)) pa_nil)))
 (pss_cons (ps_for PassesOwn.never rfl (pi_list (pv 0)) (pg_name (i:=2) nd rfl (Or.inl rfl))
  (pss_one (ps_expr (pe_bm PySem.F.plainAttrs_list PySem.F.slot_list_extend PySem.F.type_list_extend mt_extendT (pv 1) (pa_cons (pv 2) pa_nil)))))
 (pss_one (ps_ret (pv 1))))),?_⟩
  obtain ⟨as,hp,ht⟩:=hL
  refine ⟨_,rfl,_,_,rfl,.inl (SqL.of hp),one_ok,fun q hq=>?_⟩
  have s1:Same H (upd H q (.lst [.int ((as.map V.ref).length:Int)])):=Same.mk hq
  refine ⟨_,rfl,p,rfl,⟨_,SqL.of (s1 _ _ hp)⟩,for_list (K:=K) (a:=p) (xs:=as.map V.ref) (fun i σ H'=>∃v,σ = [some (.ref p),some (.ref q),v]∧Same H H'∧H' q=some (.lst (((rs.length:Int)::(rs.take i).flatten).map V.int)))
    ⟨none,rfl,s1,?_⟩ (fun i σ H' _ ⟨_,_,s,_⟩=>SqL.of (s _ _ hp)) ?_ ?_⟩
  · rw [upd_same,List.length_map,ht.len];rfl
  · rintro i y σ H1 hi ⟨v,rfl,s2,hq2⟩
    rw [List.getElem?_map,Option.map_eq_some_iff] at hi
    obtain ⟨a,ha,rfl⟩:=hi
    obtain ⟨r,hr',har⟩:=ht.get ha
    have hlen:(rs.take i).flatten.length + r.length≤rs.flatten.length:=by
      have e:rs.take (i + 1)=rs.take i++[r]:=by rw [List.take_add_one,hr'];rfl
      have e2:(rs.take (i + 1)).flatten.length≤rs.flatten.length:=by
        conv=>rhs;rw [← List.take_append_drop (i + 1) rs]
        rw [List.flatten_append,List.length_append];omega
      rw [e,List.flatten_append,List.length_append] at e2
      simpa using e2
    refine ⟨_,rfl,.inl ⟨rfl,_,SqL.of hq2⟩,_,rfl,q,a,_,_,rfl,rfl,hq2,SqT.of (s2 _ _ har),(by rw [List.length_map,List.length_map,List.length_cons];exact Nat.le_trans (show _≤20000 by omega) (by decide)),?_⟩
    refine ⟨_,rfl,s2.put hq,?_⟩
    rw [upd_same,List.take_add_one,hr',List.flatten_append]
    simp
  · rintro σ H1 ⟨v,rfl,s2,hq2⟩
    refine ⟨_,rfl,k H1 q s2 hq ?_⟩
    rw [List.length_map,ht.len,List.take_length] at hq2
    exact hq2
def sp_row (K:PySem.W.Frag) (mg:Str→Option Value):Sp:=fun vs H Q _=>∃(p:Addr) (l:List Int),vs=[.ref p]∧H p=some (.lst (l.map V.int))∧l.length≤10000∧∀H' q,Same H H'→H q=none→H' q=some (.lst (((l.length:Int)::l).map V.int))→Q (.ref q) H'
theorem sc_row:FnScope ["numbers"] ["numbers"] (defScope s_row):=⟨rfl,rfl,rfl,by decide +kernel,rfl,by decide +kernel,by decide +kernel⟩
theorem ok_row (T:Txt K mg):Def P w K mg base "row" 1 ["numbers"] (sp_row K mg):=by
  obtain ⟨f,fd,hm,F,hb⟩:=T.f_row
  refine ⟨f,hm,F.kp,fd,F.ok sc_row (fun vs H Q E h=>?_) (fun cdv A outer s H vs Q E hr h=>?_),hb⟩
  · obtain ⟨p,l,rfl,_⟩:=h;rfl
  obtain ⟨p,l,rfl,hp,hn,k⟩:=h
  have hu:=hu_of hr
  have hu64:=hu64_of hr
  have nd:=sc_row.nd
  refine ⟨_,(pss_one (ps_ret (pe_op op_cat (pe_lst (pa_cons (pe_callB call_len_seq (by rfl) T.n_len PySem.boot_len (pa_cons (pv 0) pa_nil)) pa_nil)) (pv 0)))),?_⟩
  refine ⟨_,rfl,_,_,rfl,.inl (SqL.of hp),one_ok,fun q hq=>?_⟩
  have s1:Same H (upd H q (.lst [.int ((l.map V.int).length:Int)])):=Same.mk hq
  refine ⟨_,rfl,q,p,_,_,rfl,rfl,upd_same,s1 _ _ hp,(by rw [List.length_map];exact Nat.le_trans (show _≤20000 by simp;omega) (by decide)),fun z hz=>k _ z (s1.trans (Same.mk hz)) (s1.free hz) ?_⟩
  rw [upd_same,List.length_map];rfl
end
end Sb
end
section
namespace Sb
open PySem PySem.Spec PyProof.Rows L2
section
variable {P:Program} {w:World} {K:PySem.W.Frag} {mg:Str→Option Value} {base:Heap}
def sp_choices (K:PySem.W.Frag) (mg:Str→Option Value):Sp:=fun vs H Q _=>∃(b:Addr) (A:Ads) (B:Bd) (p:Int),vs=[.ref b,.int p]∧BdAt mg H b A B∧Wr H A∧B.provs.length≤40∧spEnd mg b A H B (mChoose B p) Q
theorem flat_pr2 (l:List (Int×Int)):(l.map pr2).flatten=flatP l:=by
  unfold flatP
  rw [List.flatMap_def]
  rfl
theorem flatP_len (l:List (Int×Int)):(flatP l).length=2 * l.length:=by
  induction l with
  | nil=>rfl
  | cons a l ih =>
    have e:(flatP (a::l)).length=2 + (flatP l).length:=by show ([a.1,a.2]++flatP l).length=_;rw [List.length_append];rfl
    rw [e,ih,List.length_cons];omega
theorem sc_choices:FnScope ["board", "p"] ["board", "p"] (defScope s_choices):=⟨rfl,rfl,rfl,by decide +kernel,rfl,by decide +kernel,by decide +kernel⟩
theorem ok_choices (T:Txt K mg):Def P w K mg base "choices" 5 ["board", "p"] (sp_choices K mg):=by
  obtain ⟨f,fd,hm,F,hb⟩:=T.f_choices
  refine ⟨f,hm,F.kp,fd,F.ok sc_choices (fun vs H Q E h=>?_) (fun cdv A outer s H vs Q E hr h=>?_),hb⟩
  · obtain ⟨b,A0,B,p,rfl,_⟩:=h;rfl
  obtain ⟨b,A0,B,p,rfl,hB,hW,hn,k⟩:=h
  have hu:=hu_of hr
  have hu64:=hu64_of hr
  have nd:=sc_choices.nd
  refine ⟨_,(pss_cons (ps_if (pt_cmp (pc_dnotin hu (pv 1) (pe_fld (pv 0) (by rfl))) (by with_unfolding_all rfl))
  (pss_one (ps_ret (pe_lst (pa_cons (pg T.g_NOT_THERE) pa_nil))))
  pss_nil)
 (pss_one (ps_ret (cl (ok_rows T) (hr.mono (by decide)) (pa_cons (cl (ok_choices_of T) (hr.mono (by decide)) (pa_cons (pv 0) (pa_cons (pe_dget hu (pe_fld (pv 0) (by rfl)) (pv 1) (fun _ _=>rfl)) pa_nil))) pa_nil))))),?_⟩
  unfold mChoose at k
  refine ⟨_,rfl,_,rfl,_,_,_,_,_,rfl,hB.obj,T.k_Board,T.n_Board_driven,rfl,_,_,rfl,dgetK hB.dr p,_,rfl,?_⟩
  rcases hB.da.val p with ⟨a,x,h1,h2,hD⟩ | ⟨h1,h2⟩
  · rw [h1]
    rw [h2] at k
    refine iteF ⟨_,rfl,_,rfl,_,_,_,_,_,rfl,hB.obj,T.k_Board,T.n_Board_driven,rfl,_,rfl,_,_,rfl,(by have:=dgetK hB.dr p;rw [h1] at this;exact this),b,A0,B,a,x,rfl,hB,hD,hn,fun H1 q s1 hq hL=>?_⟩
    have c1:=chTo_len B x B.provs.length
    have e1:chTo B x B.provs.length=mChoices B x:=rfl
    rw [e1] at c1
    refine ⟨q,_,rfl,hL,(by rw [flat_pr2,flatP_len];omega),fun H2 z s2 hz hl=>?_⟩
    have s12:=s1.trans s2
    refine k.at_ (hB.same s12) (hW.same hB s12) (Frm.same s12) ?_ (s1.free hz) fun hf=>?_
    · rw [flat_pr2,List.length_map] at hl;exact hl
    · obtain ⟨o,e⟩:=hB.foot hf
      rw [s1.free hz] at e;cases e
  · rw [h1]
    rw [h2] at k
    exact iteT ⟨one_ok,fun z hz=>k.ret hB hW (.refl _) hz rfl⟩
theorem BdAt.set_or {H0 H H1:Hp} {b a dx ua:Addr} {A:Ads} {B:Bd} {p:Int} {x:Drv} {gv gv':V} {o:Int} {g:Option (Int×Int)} (h:BdAt mg H b A B) (w:Wr H A) (s:Same H0 H) (hk:(B.driven.map (·.1)).Nodup) (hv:valV A.kd (Sum.inl p)=some (.ref a)) (hl:look B.driven p=some x)
    (e:H a=some (.ins (adr mg "DrivenUnit") dx (fDrv ua x gv))) (hu:UnAt mg H ua x.unit) (hg:GoAt H gv' g) :
    BdAt mg (upd H a (.ins (adr mg "DrivenUnit") dx (fDrv ua { x with order:=o,goal:=g } gv'))) b A { B with driven:=orderD B.driven p o g }∧Wr (upd H a (.ins (adr mg "DrivenUnit") dx (fDrv ua { x with order:=o,goal:=g } gv'))) A ∧
      Frm b A A H0 (upd H a (.ins (adr mg "DrivenUnit") dx (fDrv ua { x with order:=o,goal:=g } gv'))):=by
  have kp:Kp a H (upd H a (.ins (adr mg "DrivenUnit") dx (fDrv ua { x with order:=o,goal:=g } gv'))):=Kp.of (Same.refl _)
  have kt:Kept mg H (upd H a (.ins (adr mg "DrivenUnit") dx (fDrv ua { x with order:=o,goal:=g } gv'))) b a 7 A B:=h.kept e kp
  have dn:∀c∈dicts A,c≠a:=fun c hc=>h.dne hc e (by rw [tag_dr];decide)
  have hmem:V.ref a∈A.kd.map (·.2):=by
    unfold valV at hv
    rw [Option.map_eq_some_iff] at hv
    obtain ⟨kv,hf,e⟩:=hv
    exact List.mem_map.mpr ⟨kv,List.mem_of_find?_eq_some hf,e⟩
  refine ⟨⟨kt.obj (by decide),kt.pl (by decide),h.pnd,kt.pa (by decide),kt.la (dn _ (by simp [dicts])),kt.se (dn _ (by simp [dicts])),kt.un (dn _ (by simp [dicts])),kt.ua (by decide),kt.dr (dn _ (by simp [dicts])),?_,h.dnd,
      kt.ba (dn _ (by simp [dicts])),kt.ra (dn _ (by simp [dicts])),kt.raa (by decide),kt.dp (dn _ (by simp [dicts])),h.nd⟩,wr_upd w (fun _ _ z=>nomatch z),?_⟩
  · have hp:=h.da
    have hnd:=h.dnd
    have hu':=kp.un e (by rw [tag_dr];decide) hu
    have hg':=kp.go e (by rw [tag_dr];decide) hg
    clear kt dn h w s hmem
    show Dc (DrAt mg (upd H a _)) A.kd (orderD B.driven p o g)
    revert hp hnd hv hl hk
    generalize A.kd=kd
    generalize B.driven=ds
    intro hk hv hl hp hnd
    unfold Dc at hp ⊢
    unfold orderD
    induction hp with
    | nil=>exact .nil
    | @cons kv y kd ds r t ih =>
      obtain ⟨e1,c,e2,hD⟩:=r
      have hnd':=List.nodup_cons.mp (show (kv.2::kd.map (·.2)).Nodup from hnd)
      have hk':=List.nodup_cons.mp (show (y.1::ds.map (·.1)).Nodup from hk)
      rw [List.map_cons]
      by_cases q:y.1=p
      · rw [valV_pos (by rw [e1,q])] at hv
        have ec:c=a:=by rw [e2] at hv;exact V.ref.inj (Option.some.inj hv)
        have ex:y.2=x:=by
          unfold look at hl
          rw [List.find?_cons,decide_eq_true q] at hl
          exact Option.some.inj hl
        rw [if_pos q,ex]
        refine .cons ⟨e1,a,by rw [e2,ec],dx,ua,gv',upd_same,hu',hg'⟩ ?_
        have ha:∀kv∈kd,kv.2≠V.ref a:=fun z hz q2=>hnd'.1 (by rw [e2,ec,← q2];exact List.mem_map.mpr ⟨z,hz,rfl⟩)
        have hne:∀z∈ds,z.1≠p:=fun z hz q2=>hk'.1 (by rw [q,← q2];exact List.mem_map.mpr ⟨z,hz,rfl⟩)
        clear ih hnd hnd' hk hk' hv hl
        induction t with
        | nil=>exact .nil
        | @cons kv y kd ds r t ih =>
          obtain ⟨e1,c,e2,hD⟩:=r
          rw [List.map_cons,if_neg (hne y List.mem_cons_self)]
          refine .cons ⟨e1,c,e2,kp.dr e (by rw [tag_dr];decide) (by rw [tag_dr];decide) hD (fun z=>ha kv List.mem_cons_self (by rw [e2,z]))⟩ (ih (fun z hz=>ha z (List.mem_cons_of_mem _ hz)) fun z hz=>hne z (List.mem_cons_of_mem _ hz))
      · have hv':valV kd (Sum.inl p)=some (.ref a):=by
          rw [valV_neg (by rw [e1];intro z;exact q (Sum.inl.inj z))] at hv;exact hv
        have hl':look ds p=some x:=by
          unfold look at hl ⊢
          rw [List.find?_cons,decide_eq_false q] at hl;exact hl
        have hca:c≠a:=fun z=>by
          unfold valV at hv'
          rw [Option.map_eq_some_iff] at hv'
          obtain ⟨kv',hf,e'⟩:=hv'
          exact hnd'.1 (by rw [e2,z,← e'];exact List.mem_map.mpr ⟨kv',List.mem_of_find?_eq_some hf,rfl⟩)
        rw [if_neg q]
        exact .cons ⟨e1,c,e2,kp.dr e (by rw [tag_dr];decide) (by rw [tag_dr];decide) hD hca⟩ (ih hk'.2 hv' hl' hnd'.2)
  · refine ⟨fun c o q nf=>?_,fun c z=>.inl z,fun c o q=>?_⟩
    · rw [upd_ne (fun z=>nf (.inr (.inr (.inr (.inr (by rw [z];exact hmem))))))];exact s _ _ q
    · by_cases z:c=a
      · rw [z];exact ⟨_,upd_same⟩
      · exact ⟨o,by rw [upd_ne z];exact s _ _ q⟩
def sp_go (K:PySem.W.Frag) (mg:Str→Option Value):Sp:=fun vs H Q _=>∃(b:Addr) (A:Ads) (B:Bd) (p q s:Int),vs=[.ref b,.int p,.int q,.int s]∧BdAt mg H b A B∧Wr H A∧B.provs.length≤40∧(B.driven.map (·.1)).Nodup∧spEnd mg b A H (mGo B p q s).1 (mGo B p q s).2 Q
theorem sc_go:FnScope ["board", "p", "q", "s", "driven_unit"] ["board", "p", "q", "s"] (defScope s_go):=⟨rfl,rfl,rfl,by decide +kernel,rfl,by decide +kernel,by decide +kernel⟩
theorem ok_go (T:Txt K mg):Def P w K mg base "go" 5 ["board", "p", "q", "s"] (sp_go K mg):=by
  obtain ⟨f,fd,hm,F,hb⟩:=T.f_go
  refine ⟨f,hm,F.kp,fd,F.ok sc_go (fun vs H Q E h=>?_) (fun cdv A outer s H vs Q E hr h=>?_),hb⟩
  · obtain ⟨b,A0,B,p,q,u,rfl,_⟩:=h;rfl
  obtain ⟨b,A0,B,p,q,u,rfl,hB,hW,hn,hk,k⟩:=h
  have hu:=hu_of hr
  have hu64:=hu64_of hr
  have nd:=sc_go.nd
  refine ⟨_,(pss_cons (ps_if (pt_cmp (pc_dnotin hu (pv 1) (pe_fld (pv 0) (by rfl))) (by with_unfolding_all rfl))
  (pss_one (ps_ret (pe_lst (pa_cons (pg T.g_NOT_THERE) pa_nil))))
  pss_nil)
 (pss_cons (ps_set (i:=4) nd rfl (Or.inl rfl) (pe_dget hu (pe_fld (pv 0) (by rfl)) (pv 1) (fun _ _=>rfl)))
 (pss_cons (ps_if (pt_cmpR (op_notIn_tups hu64) (pe_tup (pa_cons (pv 2) (pa_cons (pv 3) pa_nil))) (cl (ok_choices_of T) (hr.mono (by decide)) (pa_cons (pv 0) (pa_cons (pv 4) pa_nil))) (by with_unfolding_all rfl))
  (pss_one (ps_ret (pe_lst (pa_cons (pg T.g_NOT_ALLOWED) pa_nil))))
  pss_nil)
 (pss_cons (ps_expr (mth (ok_DrivenUnit_order_to_go T) T.k_DrivenUnit (hr.mono (by decide)) (pv 4) (pa_cons (pv 2) (pa_cons (pv 3) pa_nil))))
 (pss_one (ps_ret (pe_lst (pa_cons pe_int pa_nil)))))))),?_⟩
  unfold mGo at k
  refine ⟨_,rfl,_,rfl,_,_,_,_,_,rfl,hB.obj,T.k_Board,T.n_Board_driven,rfl,_,_,rfl,dgetK hB.dr p,_,rfl,?_⟩
  rcases hB.da.val p with ⟨a,x,h1,h2,hD⟩ | ⟨h1,h2⟩
  · rw [h1]
    rw [h2] at k
    dsimp only at k
    refine iteF ⟨_,rfl,_,_,_,_,_,rfl,hB.obj,T.k_Board,T.n_Board_driven,rfl,_,rfl,_,_,rfl,(by have:=dgetK hB.dr p;rw [h1] at this;exact this),?_⟩
    refine ⟨_,rfl,_,rfl,(by show 2≤sizeLine;decide),fun g hg=>?_⟩
    have s1:Same H (upd H g (.tup [.int q,.int u])):=Same.mk hg
    refine ⟨_,rfl,_,rfl,b,A0,B,a,x,rfl,hB.same s1,hD.mono (.of s1),hn,fun H2 z s2 hz ⟨as,hL,ht⟩=>?_⟩
    have s12:=s1.trans s2
    refine ⟨z,_,_,PyData.tuple ((pr2 (q,u)).map PyData.int),rfl,SqL.of hL,ht.dp,.tup (SqT.of (s2 _ _ upd_same)) (dp_ints [q,u]),shaped2 (q,u),shaped2s _,_,rfl,?_⟩
    rw [if_pos rfl,any_eqv2]
    refine ite2 (fun e=>?_) (fun e=>?_)
    · have e:¬ (q,u)∈mChoices B x:=by simpa using e
      rw [if_neg e] at k
      exact ⟨one_ok,fun z hz=>k.ret hB hW s12 hz rfl⟩
    have e:(q,u)∈mChoices B x:=by simpa using e
    rw [if_pos e] at k
    have hB2:=hB.same s12
    have hW2:=hW.same hB s12
    obtain ⟨dx,ua,gv,hd,hU,hgo⟩:=hD.mono (.of s12)
    refine ⟨_,rfl,a,dx,_,rfl,hd,rfl,_,rfl,_,rfl,a,dx,ua,x,gv,q,u,rfl,hd,fun g' hg'=>?_⟩
    have s3:Same H2 (upd H2 g' (.tup [.int q,.int u])):=Same.mk hg'
    have s13:=s12.trans s3
    obtain ⟨r1,r2,r3⟩:=(hB2.same s3).set_or (o:=1) (g:=some (q,u)) (gv':=.ref g') (H1:=H) (hW2.same hB2 s3) s13 hk h1 h2 (s3 _ _ hd) (hU.mono (.of s3)) ⟨g',rfl,upd_same⟩
    exact ⟨one_ok,fun y hy=>k.done hB r1 r2 r3 hy rfl⟩
  · rw [h1]
    rw [h2] at k
    exact iteT ⟨one_ok,fun z hz=>k.ret hB hW (.refl _) hz rfl⟩
def sp_leave (K:PySem.W.Frag) (mg:Str→Option Value):Sp:=fun vs H Q _=>∃(b:Addr) (A:Ads) (B:Bd) (p:Int),vs=[.ref b,.int p]∧BdAt mg H b A B∧Wr H A∧(B.driven.map (·.1)).Nodup∧spEnd mg b A H (mLeave B p).1 (mLeave B p).2 Q
theorem sc_leave:FnScope ["board", "p", "driven_unit"] ["board", "p"] (defScope s_leave):=⟨rfl,rfl,rfl,by decide +kernel,rfl,by decide +kernel,by decide +kernel⟩
theorem ok_leave (T:Txt K mg):Def P w K mg base "leave" 2 ["board", "p"] (sp_leave K mg):=by
  obtain ⟨f,fd,hm,F,hb⟩:=T.f_leave
  refine ⟨f,hm,F.kp,fd,F.ok sc_leave (fun vs H Q E h=>?_) (fun cdv A outer s H vs Q E hr h=>?_),hb⟩
  · obtain ⟨b,A0,B,p,rfl,_⟩:=h;rfl
  obtain ⟨b,A0,B,p,rfl,hB,hW,hk,k⟩:=h
  have hu:=hu_of hr
  have hu64:=hu64_of hr
  have nd:=sc_leave.nd
  refine ⟨_,(pss_cons (ps_if (pt_cmp (pc_dnotin hu (pv 1) (pe_fld (pv 0) (by rfl))) (by with_unfolding_all rfl))
  (pss_one (ps_ret (pe_lst (pa_cons (pg T.g_NOT_THERE) pa_nil))))
  pss_nil)
 (pss_cons (ps_set (i:=2) nd rfl (Or.inl rfl) (pe_dget hu (pe_fld (pv 0) (by rfl)) (pv 1) (fun _ _=>rfl)))
 (pss_cons (ps_expr (mth0 (ok_DrivenUnit_order_to_leave T) T.k_DrivenUnit (hr.mono (by decide)) (pv 2)))
 (pss_one (ps_ret (pe_lst (pa_cons pe_int pa_nil))))))),?_⟩
  unfold mLeave at k
  refine ⟨_,rfl,_,rfl,_,_,_,_,_,rfl,hB.obj,T.k_Board,T.n_Board_driven,rfl,_,_,rfl,dgetK hB.dr p,_,rfl,?_⟩
  rcases hB.da.val p with ⟨a,x,h1,h2,hD⟩ | ⟨h1,h2⟩
  · rw [h1]
    rw [h2] at k
    refine iteF ⟨_,rfl,_,_,_,_,_,rfl,hB.obj,T.k_Board,T.n_Board_driven,rfl,_,rfl,_,_,rfl,(by have:=dgetK hB.dr p;rw [h1] at this;exact this),?_⟩
    obtain ⟨dx,ua,gv,hd,hU,hgo⟩:=hD
    refine ⟨_,rfl,a,dx,_,rfl,hd,rfl,a,dx,ua,x,gv,rfl,hd,?_⟩
    obtain ⟨r1,r2,r3⟩:=hB.set_or (o:=2) (g:=none) (gv':=.non) (H1:=H) hW (.refl _) hk h1 h2 hd hU rfl
    exact ⟨one_ok,fun y hy=>k.done hB r1 r2 r3 hy rfl⟩
  · rw [h1]
    rw [h2] at k
    exact iteT ⟨one_ok,fun z hz=>k.ret hB hW (.refl _) hz rfl⟩
end
end Sb
end
section
namespace Sb
open PySem PySem.Spec PyProof.Rows L2
section
variable {P:Program} {w:World} {K:PySem.W.Frag} {mg:Str→Option Value} {base:Heap}
def sp_units_of (K:PySem.W.Frag) (mg:Str→Option Value):Sp:=fun vs H Q _=>∃(b:Addr) (A:Ads) (B:Bd) (w:Int),vs=[.ref b,.int w]∧BdAt mg H b A B∧Wr H A∧B.units.length≤24∧spU mg H (unitsW B.units w) Q
theorem sc_units_of:FnScope ["board", "power", "unit"] ["board", "power"] (defScope s_units_of):=⟨rfl,rfl,rfl,by decide +kernel,rfl,by decide +kernel,by decide +kernel⟩
theorem ok_units_of (T:Txt K mg):Def P w K mg base "units_of" 1 ["board", "power"] (sp_units_of K mg):=by
  obtain ⟨f,fd,hm,F,hb⟩:=T.f_units_of
  refine ⟨f,hm,F.kp,fd,F.ok sc_units_of (fun vs H Q E h=>?_) (fun cdv A outer s H vs Q E hr h=>?_),hb⟩
  · obtain ⟨b,A0,B,w',rfl,_⟩:=h;rfl
  obtain ⟨b,A0,B,w',rfl,hB,hW,hn,k⟩:=h
  have hu:=hu_of hr
  have hu64:=hu64_of hr
  have nd:=sc_units_of.nd
  refine ⟨_,(pss_one (ps_ret (pe_lock (pe_lc (own:=[("unit", 2)]) rfl nd (pi_values (pe_fld (pv 0) (by rfl))) (blkOk_by (by rfl)) (fun _ _ _ _ _=>(pg_name (i:=2) nd rfl (Or.inl rfl))) (fun _ _ _ _ _=>pts_one (pt_cmpR op_eq (pe_fldK K rfl (pv 2) (by rfl)) (pv 1) (nomark _))) (fun _ _ _ _ _=>(pv 2)))))),?_⟩
  have hun:=hW.at_ (a:=A0.un) (by simp [dicts]) hB.un
  refine ⟨A0.un,_,hun,trivial,fun od=>?_⟩
  have sl:=SameL.lock hun rfl od
  have hB1:=hB.mono sl
  have hl:=hB.ua.len
  refine ⟨_,rfl,_,_,_,_,_,rfl,hB1.obj,T.k_Board,T.n_Board_units,rfl,_,_,_,rfl,upd_same,fun D hD=>lc_acc (n:=A0.ku.length) hD (by omega) (fun i acc H'=>∃as:List Addr,acc=as.map V.ref∧Paired (UnAt mg H') as (unitsW (B.units.take i) w')) (fun i acc H1 H2 hd s ⟨as,e,t⟩=>⟨as,e,uns_butD t hd s⟩)
    (fun i H1 hi s1=>⟨s1 _ _ upd_same,hi⟩) (fun H1 s1=>⟨s1 _ _ upd_same,Nat.le_refl _⟩) ⟨[],rfl,.nil⟩ ?_ ?_⟩
  · rintro i y H1 H1' acc Nx hi s1 hDl ⟨as,rfl,t⟩ ⟨rfl,kk,hy⟩ kN kY
    obtain ⟨p,u,a,h1,h2,h3,hU⟩:=(hB1.same s1).ua.get hy
    subst h3
    have hU':=hU
    obtain ⟨dx,hU⟩:=hU'
    refine ⟨rfl,_,rfl,_,_,_,_,_,rfl,hU,T.k_Unit,T.n_Unit_power,rfl,_,rfl,rfl,_,rfl,?_⟩
    rw [decV]
    have e0:unitsW (B.units.take (i + 1)) w' = unitsW (B.units.take i) w' ++ (if decide (u.power=w')=true then [u] else []):=by
      unfold unitsW
      rw [take_filter h1,List.map_append]
      congr 1
      split <;> rfl
    refine ite2 (fun e=>?_) (fun e=>?_)
    · refine ⟨_,rfl,kY _ _ (.refl _) ⟨as++[a],by rw [List.map_append];rfl,?_⟩⟩
      rw [e0,if_pos e]
      exact uns_snoc t ⟨dx,hU⟩
    · refine kN _ (.refl _) ⟨as,rfl,?_⟩
      rw [e0,if_neg e,List.append_nil]
      exact t
  · rintro H1 acc s1 hacc ⟨as,rfl,t⟩
    obtain ⟨nd',hD'⟩:=lock_none hD
    have hfz:=s1 _ _ upd_same
    refine ⟨hfz,k _ D as (s1.unlock hun) hD' (by rw [upd_ne nd'];exact hacc) ?_⟩
    rw [hl,List.take_length] at t
    exact Paired.map' (fun _ _ q=>(Kp.of (Same.refl _)).un hfz (by show 3≠5;decide) q) t
def sp_raises_of (K:PySem.W.Frag) (mg:Str→Option Value):Sp:=fun vs H Q _=>∃(b:Addr) (A:Ads) (B:Bd) (w:Int),vs=[.ref b,.int w]∧BdAt mg H b A B∧Wr H A∧B.raises.length≤24∧spU mg H (unitsW B.raises w) Q
theorem sc_raises_of:FnScope ["board", "power", "unit"] ["board", "power"] (defScope s_raises_of):=⟨rfl,rfl,rfl,by decide +kernel,rfl,by decide +kernel,by decide +kernel⟩
theorem ok_raises_of (T:Txt K mg):Def P w K mg base "raises_of" 1 ["board", "power"] (sp_raises_of K mg):=by
  obtain ⟨f,fd,hm,F,hb⟩:=T.f_raises_of
  refine ⟨f,hm,F.kp,fd,F.ok sc_raises_of (fun vs H Q E h=>?_) (fun cdv A outer s H vs Q E hr h=>?_),hb⟩
  · obtain ⟨b,A0,B,w',rfl,_⟩:=h;rfl
  obtain ⟨b,A0,B,w',rfl,hB,hW,hn,k⟩:=h
  have hu:=hu_of hr
  have hu64:=hu64_of hr
  have nd:=sc_raises_of.nd
  refine ⟨_,(pss_one (ps_ret (pe_lock (pe_lc (own:=[("unit", 2)]) rfl nd (pi_values (pe_fld (pv 0) (by rfl))) (blkOk_by (by rfl)) (fun _ _ _ _ _=>(pg_name (i:=2) nd rfl (Or.inl rfl))) (fun _ _ _ _ _=>pts_one (pt_cmpR op_eq (pe_fldK K rfl (pv 2) (by rfl)) (pv 1) (nomark _))) (fun _ _ _ _ _=>(pv 2)))))),?_⟩
  have hun:=hW.at_ (a:=A0.ra) (by simp [dicts]) hB.ra
  refine ⟨A0.ra,_,hun,trivial,fun od=>?_⟩
  have sl:=SameL.lock hun rfl od
  have hB1:=hB.mono sl
  have hl:=hB.raa.len
  refine ⟨_,rfl,_,_,_,_,_,rfl,hB1.obj,T.k_Board,T.n_Board_raises,rfl,_,_,_,rfl,upd_same,fun D hD=>lc_acc (n:=A0.kr.length) hD (by omega) (fun i acc H'=>∃as:List Addr,acc=as.map V.ref∧Paired (UnAt mg H') as (unitsW (B.raises.take i) w')) (fun i acc H1 H2 hd s ⟨as,e,t⟩=>⟨as,e,uns_butD t hd s⟩)
    (fun i H1 hi s1=>⟨s1 _ _ upd_same,hi⟩) (fun H1 s1=>⟨s1 _ _ upd_same,Nat.le_refl _⟩) ⟨[],rfl,.nil⟩ ?_ ?_⟩
  · rintro i y H1 H1' acc Nx hi s1 hDl ⟨as,rfl,t⟩ ⟨rfl,kk,hy⟩ kN kY
    obtain ⟨p,u,a,h1,h2,h3,hU⟩:=(hB1.same s1).raa.get hy
    subst h3
    have hU':=hU
    obtain ⟨dx,hU⟩:=hU'
    refine ⟨rfl,_,rfl,_,_,_,_,_,rfl,hU,T.k_Unit,T.n_Unit_power,rfl,_,rfl,rfl,_,rfl,?_⟩
    rw [decV]
    have e0:unitsW (B.raises.take (i + 1)) w' = unitsW (B.raises.take i) w' ++ (if decide (u.power=w')=true then [u] else []):=by
      unfold unitsW
      rw [take_filter h1,List.map_append]
      congr 1
      split <;> rfl
    refine ite2 (fun e=>?_) (fun e=>?_)
    · refine ⟨_,rfl,kY _ _ (.refl _) ⟨as++[a],by rw [List.map_append];rfl,?_⟩⟩
      rw [e0,if_pos e]
      exact uns_snoc t ⟨dx,hU⟩
    · refine kN _ (.refl _) ⟨as,rfl,?_⟩
      rw [e0,if_neg e,List.append_nil]
      exact t
  · rintro H1 acc s1 hacc ⟨as,rfl,t⟩
    obtain ⟨nd',hD'⟩:=lock_none hD
    have hfz:=s1 _ _ upd_same
    refine ⟨hfz,k _ D as (s1.unlock hun) hD' (by rw [upd_ne nd'];exact hacc) ?_⟩
    rw [hl,List.take_length] at t
    exact Paired.map' (fun _ _ q=>(Kp.of (Same.refl _)).un hfz (by show 3≠5;decide) q) t
def sp_drops_of (K:PySem.W.Frag) (mg:Str→Option Value):Sp:=fun vs H Q _=>∃(b:Addr) (A:Ads) (B:Bd) (w:Int),vs=[.ref b,.int w]∧BdAt mg H b A B∧Wr H A∧B.drops.length≤24∧(∀p∈B.drops,(look B.units p).isSome=true)∧spL H (dropsW B w) Q
theorem sc_drops_of:FnScope ["board", "power", "p"] ["board", "power"] (defScope s_drops_of):=⟨rfl,rfl,rfl,by decide +kernel,rfl,by decide +kernel,by decide +kernel⟩
theorem ok_drops_of (T:Txt K mg):Def P w K mg base "drops_of" 1 ["board", "power"] (sp_drops_of K mg):=by
  obtain ⟨f,fd,hm,F,hb⟩:=T.f_drops_of
  refine ⟨f,hm,F.kp,fd,F.ok sc_drops_of (fun vs H Q E h=>?_) (fun cdv A outer s H vs Q E hr h=>?_),hb⟩
  · obtain ⟨b,A0,B,w',rfl,_⟩:=h;rfl
  obtain ⟨b,A0,B,w',rfl,hB,hW,hn,hdr,k⟩:=h
  have hu:=hu_of hr
  have hu64:=hu64_of hr
  have nd:=sc_drops_of.nd
  refine ⟨_,(pss_one (ps_ret (pe_lock (pe_lc (own:=[("p", 2)]) rfl nd (pi_keys (pe_fld (pv 0) (by rfl))) (blkOk_by (by rfl)) (fun _ _ _ _ _=>(pg_name (i:=2) nd rfl (Or.inl rfl))) (fun _ _ _ _ _=>pts_one (pt_cmpR op_eq (pe_fldK K rfl (pe_dget hu (pe_fldK K rfl (pv 0) (by rfl)) (pv 2) (fun _ _=>rfl)) (by rfl)) (pv 1) (nomark _))) (fun _ _ _ _ _=>(pv 2)))))),?_⟩
  have hdp:=hW.at_ (a:=A0.dp) (by simp [dicts]) hB.dp
  refine ⟨A0.dp,_,hdp,trivial,fun od=>?_⟩
  have sl:=SameL.lock hdp rfl od
  have hB1:=hB.mono sl
  refine ⟨_,rfl,_,_,_,_,_,rfl,hB1.obj,T.k_Board,T.n_Board_drops,rfl,_,_,rfl,.inl ⟨_,upd_same,fun D hD=>lc_acc (n:=B.drops.length) hD (by omega) (fun i acc H'=>acc=((B.drops.take i).filter fun p=>decide ((look B.units p).map (·.power)=some w')).map V.int) (fun i acc H1 H2 hd s t=>t)
    (fun i H1 hi s1=>⟨s1 _ _ upd_same,by rw [List.length_map];exact hi⟩) (fun H1 s1=>⟨s1 _ _ upd_same,by rw [List.length_map];exact Nat.le_refl _⟩) rfl ?_ ?_⟩⟩
  · rintro i y H1 H1' acc Nx hi s1 hDl rfl ⟨rfl,kk,v,hy,rfl⟩ kN kY
    obtain ⟨p,hp,e1⟩:∃p,B.drops[i]? = some p∧kk=Sum.inl p:=by
      rw [List.getElem?_map,Option.map_eq_some_iff] at hy
      obtain ⟨p,h1,h2⟩:=hy
      exact ⟨p,h1,(congrArg Prod.fst h2).symm⟩
    subst e1
    have hB2:=hB1.same s1
    rcases hB2.ua.val p with ⟨a,u,h1,h2,dx,hU⟩ | ⟨h1,h2⟩
    · have e0:(decide ((look B.units p).map (·.power)=some w')=true)↔(decide (u.power=w')=true):=by
        rw [h2,decide_eq_true_iff,decide_eq_true_iff]
        exact ⟨fun z=>Option.some.inj z,fun z=>congrArg some z⟩
      refine ⟨rfl,_,rfl,_,_,_,_,_,rfl,hB2.obj,T.k_Board,T.n_Board_units,rfl,_,rfl,_,_,rfl,(by have:=dgetK hB2.un p;rw [h1] at this;exact this),_,_,_,_,_,rfl,hU,T.k_Unit,T.n_Unit_power,rfl,_,rfl,rfl,_,rfl,?_⟩
      rw [decV]
      refine ite2 (fun e=>?_) (fun e=>?_)
      · refine ⟨_,rfl,kY _ _ (.refl _) ?_⟩
        rw [take_filter hp,if_pos (e0.mpr e),List.map_append]
        rfl
      · refine kN _ (.refl _) ?_
        rw [take_filter hp,if_neg (fun z=>e (e0.mp z)),List.append_nil]
    · have:=hdr p (List.mem_of_getElem? hp)
      rw [h2] at this
      cases this
  · rintro H1 acc s1 hacc rfl
    obtain ⟨nd',hD'⟩:=lock_none hD
    have hfz:=s1 _ _ upd_same
    refine ⟨hfz,k _ D (s1.unlock hdp) hD' (by rw [upd_ne nd',hacc,List.take_length];rfl)⟩
def sp_centres_of (K:PySem.W.Frag) (mg:Str→Option Value):Sp:=fun vs H Q _=>∃(b:Addr) (A:Ads) (B:Bd) (w:Int),vs=[.ref b,.int w]∧BdAt mg H b A B∧B.provs.length≤40∧spL H (centresW B w) Q
theorem sc_centres_of:FnScope ["board", "power", "p", "one"] ["board", "power"] (defScope s_centres_of):=⟨rfl,rfl,rfl,by decide +kernel,rfl,by decide +kernel,by decide +kernel⟩
theorem ok_centres_of (T:Txt K mg):Def P w K mg base "centres_of" 1 ["board", "power"] (sp_centres_of K mg):=by
  obtain ⟨f,fd,hm,F,hb⟩:=T.f_centres_of
  refine ⟨f,hm,F.kp,fd,F.ok sc_centres_of (fun vs H Q E h=>?_) (fun cdv A outer s H vs Q E hr h=>?_),hb⟩
  · obtain ⟨b,A0,B,w',rfl,_⟩:=h;rfl
  obtain ⟨b,A0,B,w',rfl,hB,hn,k⟩:=h
  have hu:=hu_of hr
  have hu64:=hu64_of hr
  have nd:=sc_centres_of.nd
  refine ⟨_,(pss_one (ps_ret (pe_lc (own:=[("p", 2),("one", 3)]) rfl nd (pi_enum rfl T.n_enumerate (pa_cons (pe_fld (pv 0) (by rfl)) pa_nil)) (blkOk_by (by rfl)) (fun _ _ _ _ _=>(pg_tupK (n:=2) K rfl rfl (pgs_cons (pg_name (i:=2) nd rfl (Or.inl rfl)) (pgs_cons (pg_name (i:=3) nd rfl (Or.inl rfl)) pgs_nil)))) (fun _ _ _ _ _=>pts_one (pt_cmpR op_eq (pe_fldK K rfl (pv 3) (by rfl)) (pv 1) (nomark _))) (fun _ _ _ _ _=>(pv 2))))),?_⟩
  have hl:=hB.plen
  refine ⟨_,rfl,_,_,_,_,_,rfl,hB.obj,T.k_Board,T.n_Board_provinces,rfl,_,_,rfl,SqL.of hB.pl,fun D hD=>lc_acc (n:=A0.ps.length) hD (by omega) (fun i acc H'=>acc=((List.range i).filter fun j=>decide ((B.provs[j]?.map (·.owner))=some w')).map fun j=>V.int (j:Nat)) (fun i acc H1 H2 hd s t=>t)
    (fun i H1 hi s1=>⟨_,.ref A0.ps[i],SqL.of (s1 _ _ hB.pl),by rw [List.getElem?_map,List.getElem?_eq_getElem hi];rfl⟩) (fun H1 s1=>⟨_,SqL.of (s1 _ _ hB.pl),by rw [List.length_map];exact Nat.le_refl _⟩) rfl ?_ ?_⟩
  · rintro i y H1 H1' acc Nx hi s1 hDl rfl ⟨z,v,rfl,hz,rfl,hy⟩ kN kY
    have hB1:=hB.same s1
    have hy:=hy _ (SqL.of hB1.pl)
    rw [List.getElem?_map,Option.map_eq_some_iff] at hy
    obtain ⟨a,ha,rfl⟩:=hy
    obtain ⟨x,hx,dx,hP⟩:=paired_get hB1.pa ha
    have s2:Same H1 (upd H1 z (.tup [.int (i:Nat),.ref a])):=Same.mk hz
    have hP2:=s2 _ _ hP
    have e0:(decide ((B.provs[i]?.map (·.owner))=some w')=true)↔(decide (x.owner=w')=true):=by
      rw [hx,decide_eq_true_iff,decide_eq_true_iff]
      exact ⟨fun z=>Option.some.inj z,fun z=>congrArg some z⟩
    refine ⟨_,_,rfl,SqT.of upd_same,rfl,_,_,rfl,_,_,rfl,rfl,rfl,_,rfl,_,_,_,_,_,rfl,hP2,T.k_Province,T.n_Province_owner,rfl,_,rfl,rfl,_,rfl,?_⟩
    rw [decV]
    refine ite2 (fun e=>?_) (fun e=>?_)
    · refine ⟨_,rfl,kY _ _ s2 ?_⟩
      rw [range_filter_succ,if_pos (e0.mpr e),List.map_append]
      rfl
    · refine kN _ s2 ?_
      rw [range_filter_succ,if_neg (fun z=>e (e0.mp z)),List.append_nil]
  · rintro H1 acc s1 hacc rfl
    refine k _ D s1 hD ?_
    rw [hacc,hl]
    unfold centresW provsW
    rw [List.map_map]
    rfl
end
end Sb
end
section
namespace Sb
open PySem PySem.Spec PyProof.Rows L2
section
variable {P:Program} {w:World} {K:PySem.W.Frag} {mg:Str→Option Value} {base:Heap}
def sp_sites_of (K:PySem.W.Frag) (mg:Str→Option Value):Sp:=fun vs H Q _=>∃(b:Addr) (A:Ads) (B:Bd) (w:Int),vs=[.ref b,.int w]∧BdAt mg H b A B∧B.provs.length≤40∧spL H (sitesW B w) Q
theorem sc_sites_of:FnScope ["board", "power", "p"] ["board", "power"] (defScope s_sites_of):=⟨rfl,rfl,rfl,by decide +kernel,rfl,by decide +kernel,by decide +kernel⟩
theorem ok_sites_of (T:Txt K mg):Def P w K mg base "sites_of" 2 ["board", "power"] (sp_sites_of K mg):=by
  obtain ⟨f,fd,hm,F,hb⟩:=T.f_sites_of
  refine ⟨f,hm,F.kp,fd,F.ok sc_sites_of (fun vs H Q E h=>?_) (fun cdv A outer s H vs Q E hr h=>?_),hb⟩
  · obtain ⟨b,A0,B,w',rfl,_⟩:=h;rfl
  obtain ⟨b,A0,B,w',rfl,hB,hn,k⟩:=h
  have hu:=hu_of hr
  have hu64:=hu64_of hr
  have nd:=sc_sites_of.nd
  refine ⟨_,(pss_one (ps_ret (pe_lc (own:=[("p", 2)]) rfl nd (pi_list (cl (ok_centres_of T) (hr.mono (by decide)) (pa_cons (pv 0) (pa_cons (pv 1) pa_nil)))) (blkOk_by (by rfl)) (fun _ _ _ _ _=>(pg_name (i:=2) nd rfl (Or.inl rfl))) (fun _ _ _ _ _=>pts_one (pt_cutP (pw_and (pt_cmpR op_eq (pe_fldK K rfl (pe_ix (ix_listK K rfl) (pe_fldK K rfl (pv 0) (by rfl)) (pv 2) (fun _ _=>rfl)) (by rfl)) (pv 1) (nomark _)) (pw_and1 (pt_cmp (pc_dnotin hu (pv 2) (pe_fldK K rfl (pv 0) (by rfl))) (by with_unfolding_all rfl)))).pt)) (fun _ _ _ _ _=>(pv 2))))),?_⟩
  refine ⟨_,rfl,_,rfl,b,A0,B,w',rfl,hB,hn,fun H1 l s1 hl hL=>?_⟩
  have hB1:=hB.same s1
  have hlen:=provsW_len (·.owner) B w'
  refine ⟨_,rfl,⟨_,SqL.of hL⟩,fun D hD=>lc_acc (n:=(centresW B w').length) hD (by unfold centresW;omega) (fun i acc H'=>acc=(((centresW B w').take i).filter fun p=>decide ((B.provs[p.toNat]?.map (·.home))=some w') && (look B.units p).isNone).map V.int) (fun i acc H1 H2 hd s t=>t)
    (fun i H2 hi s2=>⟨_,.int (centresW B w')[i],SqL.of (s2 _ _ hL),by rw [List.getElem?_map,List.getElem?_eq_getElem hi];rfl⟩) (fun H2 s2=>⟨_,SqL.of (s2 _ _ hL),by rw [List.length_map];exact Nat.le_refl _⟩) rfl ?_ ?_⟩
  · rintro i y H2 H2' acc Nx hi s2 hDl rfl ⟨rfl,hy⟩ kN kY
    have hB2:=hB1.same s2
    have hy:=hy _ (SqL.of (s2 _ _ hL))
    rw [List.getElem?_map,Option.map_eq_some_iff] at hy
    obtain ⟨p,hp,rfl⟩:=hy
    have isp:=provsW_mem (List.mem_of_getElem? hp)
    obtain ⟨a,x,ha,hx,dx,hP⟩:=hB2.prov isp
    have e0:decide ((B.provs[p.toNat]?.map (·.home))=some w')=decide (x.home=w'):=by
      rw [hx]
      exact decide_eq_decide.mpr ⟨fun z=>Option.some.inj z,fun z=>congrArg some z⟩
    refine ⟨rfl,decide ((B.provs[p.toNat]?.map (·.home))=some w') && (look B.units p).isNone,⟨_,rfl,_,_,_,_,_,rfl,hB2.obj,T.k_Board,T.n_Board_provinces,rfl,_,rfl,_,_,_,_,rfl,rfl,SqL.of hB2.pl,hB2.pat isp ha,_,_,_,_,_,rfl,hP,T.k_Province,T.n_Province_home,rfl,_,rfl,rfl,_,rfl,?_⟩,ite2 (fun e=>?_) (fun e=>?_)⟩
    · rw [decV,e0]
      refine and_c fun q=>⟨_,rfl,_,rfl,_,_,_,_,_,rfl,hB2.obj,T.k_Board,T.n_Board_units,rfl,_,_,rfl,dgetK hB2.un p,_,rfl,?_,rfl⟩
      rw [hB2.ua.some,q,isNone_not];rfl
    · refine ⟨_,rfl,kY _ _ (.refl _) ?_⟩
      rw [take_filter hp,if_pos e,List.map_append]
      rfl
    · refine kN _ (.refl _) ?_
      rw [take_filter hp,if_neg e,List.append_nil]
  · rintro H2 acc s2 hacc rfl
    exact k _ D (s1.trans s2) (s1.free hD) (by rw [hacc,List.take_length];rfl)
theorem max_sub (c u:Nat):(if (c:Int) - (u:Int) > 0 then (c:Int) - (u:Int) else 0)=((c - u:Nat):Int):=by
  split <;> omega
def sp_most_raises (K:PySem.W.Frag) (mg:Str→Option Value):Sp:=fun vs H Q _=>∃(b:Addr) (A:Ads) (B:Bd) (w:Int),vs=[.ref b,.int w]∧BdAt mg H b A B∧Wr H A∧B.provs.length≤40∧B.units.length≤24∧∀H',Same H H'→Q (.int (((centresW B w).length - (unitsW B.units w).length:Nat):Int)) H'
theorem sc_most_raises:FnScope ["board", "power"] ["board", "power"] (defScope s_most_raises):=⟨rfl,rfl,rfl,by decide +kernel,rfl,by decide +kernel,by decide +kernel⟩
theorem ok_most_raises (T:Txt K mg):Def P w K mg base "most_raises" 2 ["board", "power"] (sp_most_raises K mg):=by
  obtain ⟨f,fd,hm,F,hb⟩:=T.f_most_raises
  refine ⟨f,hm,F.kp,fd,F.ok sc_most_raises (fun vs H Q E h=>?_) (fun cdv A outer s H vs Q E hr h=>?_),hb⟩
  · obtain ⟨b,A0,B,w',rfl,_⟩:=h;rfl
  obtain ⟨b,A0,B,w',rfl,hB,hW,hn,hu1,k⟩:=h
  have hu:=hu_of hr
  have hu64:=hu64_of hr
  have nd:=sc_most_raises.nd
  refine ⟨_,(pss_one (ps_ret (pe_callB (call_max2 rfl) (by rfl) T.n_max boot_max (pa_cons pe_int (pa_cons (pe_op op_sub (pe_callB call_len_seq (by rfl) T.n_len PySem.boot_len (pa_cons (cl (ok_centres_of T) (hr.mono (by decide)) (pa_cons (pv 0) (pa_cons (pv 1) pa_nil))) pa_nil)) (pe_callB call_len_seq (by rfl) T.n_len PySem.boot_len (pa_cons (cl (ok_units_of T) (hr.mono (by decide)) (pa_cons (pv 0) (pa_cons (pv 1) pa_nil))) pa_nil))) pa_nil))))),?_⟩
  refine ⟨_,rfl,_,rfl,b,A0,B,w',rfl,hB,hn,fun H1 l s1 hl hL=>⟨l,_,rfl,.inl (SqL.of hL),?_⟩⟩
  have hB1:=hB.same s1
  refine ⟨_,rfl,_,rfl,b,A0,B,w',rfl,hB1,hW.same hB s1,hu1,fun H2 l2 as s2 hl2 hL2 hU=>⟨l2,_,rfl,.inl (SqL.of hL2),_,_,rfl,rfl,_,_,rfl,?_⟩⟩
  have e:as.length=(unitsW B.units w').length:=Paired.length hU
  rw [List.length_map,List.length_map,e,max_sub]
  exact k _ (s1.trans s2)
def sp_needed_drops (K:PySem.W.Frag) (mg:Str→Option Value):Sp:=fun vs H Q _=>∃(b:Addr) (A:Ads) (B:Bd) (w:Int),vs=[.ref b,.int w]∧BdAt mg H b A B∧Wr H A∧B.provs.length≤40∧B.units.length≤24∧∀H',Same H H'→Q (.int (((unitsW B.units w).length - (centresW B w).length:Nat):Int)) H'
theorem sc_needed_drops:FnScope ["board", "power"] ["board", "power"] (defScope s_needed_drops):=⟨rfl,rfl,rfl,by decide +kernel,rfl,by decide +kernel,by decide +kernel⟩
theorem ok_needed_drops (T:Txt K mg):Def P w K mg base "needed_drops" 2 ["board", "power"] (sp_needed_drops K mg):=by
  obtain ⟨f,fd,hm,F,hb⟩:=T.f_needed_drops
  refine ⟨f,hm,F.kp,fd,F.ok sc_needed_drops (fun vs H Q E h=>?_) (fun cdv A outer s H vs Q E hr h=>?_),hb⟩
  · obtain ⟨b,A0,B,w',rfl,_⟩:=h;rfl
  obtain ⟨b,A0,B,w',rfl,hB,hW,hn,hu1,k⟩:=h
  have hu:=hu_of hr
  have hu64:=hu64_of hr
  have nd:=sc_needed_drops.nd
  refine ⟨_,(pss_one (ps_ret (pe_callB (call_max2 rfl) (by rfl) T.n_max boot_max (pa_cons pe_int (pa_cons (pe_op op_sub (pe_callB call_len_seq (by rfl) T.n_len PySem.boot_len (pa_cons (cl (ok_units_of T) (hr.mono (by decide)) (pa_cons (pv 0) (pa_cons (pv 1) pa_nil))) pa_nil)) (pe_callB call_len_seq (by rfl) T.n_len PySem.boot_len (pa_cons (cl (ok_centres_of T) (hr.mono (by decide)) (pa_cons (pv 0) (pa_cons (pv 1) pa_nil))) pa_nil))) pa_nil))))),?_⟩
  refine ⟨_,rfl,_,rfl,b,A0,B,w',rfl,hB,hW,hu1,fun H2 l2 as s2 hl2 hL2 hU=>⟨l2,_,rfl,.inl (SqL.of hL2),?_⟩⟩
  refine ⟨_,rfl,_,rfl,b,A0,B,w',rfl,hB.same s2,hn,fun H1 l s1 hl hL=>⟨l,_,rfl,.inl (SqL.of hL),_,_,rfl,rfl,_,_,rfl,?_⟩⟩
  have e:as.length=(unitsW B.units w').length:=Paired.length hU
  rw [List.length_map,List.length_map,e,max_sub]
  exact k _ (s2.trans s1)
def sp_balance (K:PySem.W.Frag) (mg:Str→Option Value):Sp:=fun vs H Q _=>∃(b:Addr) (A:Ads) (B:Bd) (w:Int),vs=[.ref b,.int w]∧BdAt mg H b A B∧Wr H A∧B.provs.length≤40∧B.units.length≤24∧B.raises.length≤24∧B.drops.length≤24∧(∀p∈B.drops,(look B.units p).isSome=true) ∧
  spEnd mg b A H B [((centresW B w).length:Int),((unitsW B.units w).length:Int),((unitsW B.raises w).length:Int),((dropsW B w).length:Int)] Q
theorem sc_balance:FnScope ["board", "power"] ["board", "power"] (defScope s_balance):=⟨rfl,rfl,rfl,by decide +kernel,rfl,by decide +kernel,by decide +kernel⟩
theorem ok_balance (T:Txt K mg):Def P w K mg base "balance" 2 ["board", "power"] (sp_balance K mg):=by
  obtain ⟨f,fd,hm,F,hb⟩:=T.f_balance
  refine ⟨f,hm,F.kp,fd,F.ok sc_balance (fun vs H Q E h=>?_) (fun cdv A outer s H vs Q E hr h=>?_),hb⟩
  · obtain ⟨b,A0,B,w',rfl,_⟩:=h;rfl
  obtain ⟨b,A0,B,w',rfl,hB,hW,hn,hu1,hr1,hd1,hdr,k⟩:=h
  have hu:=hu_of hr
  have hu64:=hu64_of hr
  have nd:=sc_balance.nd
  refine ⟨_,(pss_one (ps_ret (pe_lst (pa_cons (pe_callB call_len_seq (by rfl) T.n_len PySem.boot_len (pa_cons (cl (ok_centres_of T) (hr.mono (by decide)) (pa_cons (pv 0) (pa_cons (pv 1) pa_nil))) pa_nil)) (pa_cons (pe_callB call_len_seq (by rfl) T.n_len PySem.boot_len (pa_cons (cl (ok_units_of T) (hr.mono (by decide)) (pa_cons (pv 0) (pa_cons (pv 1) pa_nil))) pa_nil)) (pa_cons (pe_callB call_len_seq (by rfl) T.n_len PySem.boot_len (pa_cons (cl (ok_raises_of T) (hr.mono (by decide)) (pa_cons (pv 0) (pa_cons (pv 1) pa_nil))) pa_nil)) (pa_cons (pe_callB call_len_seq (by rfl) T.n_len PySem.boot_len (pa_cons (cl (ok_drops_of T) (hr.mono (by decide)) (pa_cons (pv 0) (pa_cons (pv 1) pa_nil))) pa_nil)) pa_nil))))))),?_⟩
  refine ⟨_,rfl,_,rfl,b,A0,B,w',rfl,hB,hn,fun H1 l s1 hl hL=>⟨l,_,rfl,.inl (SqL.of hL),?_⟩⟩
  refine ⟨_,rfl,_,rfl,b,A0,B,w',rfl,hB.same s1,hW.same hB s1,hu1,fun H2 l2 as s2 hl2 hL2 hU=>⟨l2,_,rfl,.inl (SqL.of hL2),?_⟩⟩
  have s12:=s1.trans s2
  refine ⟨_,rfl,_,rfl,b,A0,B,w',rfl,hB.same s12,hW.same hB s12,hr1,fun H3 l3 bs s3 hl3 hL3 hR=>⟨l3,_,rfl,.inl (SqL.of hL3),?_⟩⟩
  have s13:=s12.trans s3
  refine ⟨_,rfl,_,rfl,b,A0,B,w',rfl,hB.same s13,hW.same hB s13,hd1,hdr,fun H4 l4 s4 hl4 hL4=>⟨l4,_,rfl,.inl (SqL.of hL4),?_⟩⟩
  refine ⟨(by show 4≤sizeLine;decide),fun q hq=>k.ret hB hW (s13.trans s4) hq ?_⟩
  have e:as.length=(unitsW B.units w').length:=Paired.length hU
  have e2:bs.length=(unitsW B.raises w').length:=Paired.length hR
  rw [List.length_map,List.length_map,List.length_map,List.length_map,e,e2]
  rfl
theorem spEnd.lst {H H1:Hp} {b p:Addr} {A:Ads} {B:Bd} {out:List Int} {Q:VK} (k:spEnd mg b A H B out Q) (hB:BdAt mg H b A B) (hW:Wr H A) (s:Same H H1) (hp:H p=none) (h:H1 p=some (.lst (out.map V.int))):Q (.ref p) H1 :=
  k.at_ (hB.same s) (hW.same hB s) (Frm.same s) h hp fun hf=>by
    obtain ⟨o,e⟩:=hB.foot hf
    rw [hp] at e;cases e
theorem sitesW_len (B:Bd) (w:Int):(sitesW B w).length≤B.provs.length:=by
  unfold sitesW
  have h1:=provsW_len (·.owner) B w
  have h2:=List.length_filter_le (fun p=>decide ((B.provs[p.toNat]?.map (·.home))=some w) && (look B.units p).isNone) (centresW B w)
  unfold centresW at *
  omega
def sp_sites (K:PySem.W.Frag) (mg:Str→Option Value):Sp:=fun vs H Q _=>∃(b:Addr) (A:Ads) (B:Bd) (w:Int),vs=[.ref b,.int w]∧BdAt mg H b A B∧Wr H A∧B.provs.length≤40∧spEnd mg b A H B (((sitesW B w).length:Int)::sitesW B w) Q
theorem sc_sites:FnScope ["board", "power"] ["board", "power"] (defScope s_sites):=⟨rfl,rfl,rfl,by decide +kernel,rfl,by decide +kernel,by decide +kernel⟩
theorem ok_sites (T:Txt K mg):Def P w K mg base "sites" 3 ["board", "power"] (sp_sites K mg):=by
  obtain ⟨f,fd,hm,F,hb⟩:=T.f_sites
  refine ⟨f,hm,F.kp,fd,F.ok sc_sites (fun vs H Q E h=>?_) (fun cdv A outer s H vs Q E hr h=>?_),hb⟩
  · obtain ⟨b,A0,B,w',rfl,_⟩:=h;rfl
  obtain ⟨b,A0,B,w',rfl,hB,hW,hn,k⟩:=h
  have hu:=hu_of hr
  have hu64:=hu64_of hr
  have nd:=sc_sites.nd
  refine ⟨_,(pss_one (ps_ret (cl (ok_row T) (hr.mono (by decide)) (pa_cons (cl (ok_sites_of T) (hr.mono (by decide)) (pa_cons (pv 0) (pa_cons (pv 1) pa_nil))) pa_nil)))),?_⟩
  refine ⟨_,rfl,_,rfl,b,A0,B,w',rfl,hB,hn,fun H1 l s1 hl hL=>⟨l,_,rfl,hL,(by have:=sitesW_len B w';omega),fun H2 q s2 hq hQ=>?_⟩⟩
  exact k.lst hB hW (s1.trans s2) (s1.free hq) hQ
end
end Sb
end
section
namespace Sb
open PySem PySem.Spec PyProof.Rows L2
section
variable {P:Program} {w:World} {K:PySem.W.Frag} {mg:Str→Option Value} {base:Heap}
theorem flat_ints (l:List Int):(l.map V.int).all flatV=true:=by
  rw [List.all_map,List.all_eq_true]
  intro x _
  rfl
theorem inV_ints (p:Int) (l:List Int):inV (.int p) (l.map V.int)=decide (p∈l):=by
  unfold inV
  rw [List.any_map,Bool.eq_iff_iff,List.any_eq_true,decide_eq_true_iff]
  constructor
  · rintro ⟨x,hx,e⟩
    have e:eqV (.int x) (.int p)=true:=e
    have:x=p:=by simpa [eqV] using e
    rw [← this];exact hx
  · intro h
    refine ⟨p,h,?_⟩
    show eqV (.int p) (.int p)=true
    simp [eqV]
def sp_raise_unit (K:PySem.W.Frag) (mg:Str→Option Value):Sp:=fun vs H Q _=>∃(b:Addr) (A:Ads) (B:Bd) (w f p s:Int),vs=[.ref b,.int w,.int f,.int p,.int s]∧BdAt mg H b A B∧Wr H A∧IsP B p∧B.provs.length≤40∧B.units.length≤24∧B.raises.length≤24∧spEnd mg b A H (mRaise B w f p s).1 (mRaise B w f p s).2 Q
theorem sc_raise_unit:FnScope ["board", "power", "fleet", "p", "s"] ["board", "power", "fleet", "p", "s"] (defScope s_raise_unit):=⟨rfl,rfl,rfl,by decide +kernel,rfl,by decide +kernel,by decide +kernel⟩
theorem ok_raise_unit (T:Txt K mg):Def P w K mg base "raise_unit" 3 ["board", "power", "fleet", "p", "s"] (sp_raise_unit K mg):=by
  obtain ⟨f,fd,hm,F,hb⟩:=T.f_raise_unit
  refine ⟨f,hm,F.kp,fd,F.ok sc_raise_unit (fun vs H Q E h=>?_) (fun cdv A outer s H vs Q E hr h=>?_),hb⟩
  · obtain ⟨b,A0,B,w',g,p,u,rfl,_⟩:=h;rfl
  obtain ⟨b,A0,B,w',g,p,u,rfl,hB,hW,hp,hn,hu1,hr1,k⟩:=h
  have hu:=hu_of hr
  have hu64:=hu64_of hr
  have nd:=sc_raise_unit.nd
  refine ⟨_,(pss_cons (ps_if (pt_cmpR op_gt (pe_callB call_lenR (by rfl) T.n_len PySem.boot_len (pa_cons (pe_fld (pv 0) (by rfl)) pa_nil)) pe_int (nomark _))
  (pss_one (ps_ret (pe_lst (pa_cons (pg T.g_SOME_DRIVEN) pa_nil))))
  pss_nil)
 (pss_cons (ps_if (pt_cmpR op_notIn_seq (pv 3) (cl (ok_sites_of T) (hr.mono (by decide)) (pa_cons (pv 0) (pa_cons (pv 1) pa_nil))) (by with_unfolding_all rfl))
  (pss_one (ps_ret (pe_lst (pa_cons (pg T.g_NOT_ALLOWED) pa_nil))))
  pss_nil)
 (pss_cons (ps_if (pt_val (cl (ok_is_wrong_kind T) (hr.mono (by decide)) (pa_cons (pv 0) (pa_cons (pv 2) (pa_cons (pv 3) (pa_cons (pv 4) pa_nil))))))
  (pss_one (ps_ret (pe_lst (pa_cons (pg T.g_NOT_FIT) pa_nil))))
  pss_nil)
 (pss_cons (ps_if (pt_cmp (pc_din hu (pv 3) (pe_fld (pv 0) (by rfl))) (by with_unfolding_all rfl))
  (pss_one (ps_ret (pe_lst (pa_cons (pg T.g_THERE_ALREADY) pa_nil))))
  pss_nil)
 (pss_cons (ps_if (pt_cmpR op_ge (pe_callB call_len_seq (by rfl) T.n_len PySem.boot_len (pa_cons (cl (ok_raises_of T) (hr.mono (by decide)) (pa_cons (pv 0) (pa_cons (pv 1) pa_nil))) pa_nil)) (cl (ok_most_raises T) (hr.mono (by decide)) (pa_cons (pv 0) (pa_cons (pv 1) pa_nil))) (nomark _))
  (pss_one (ps_ret (pe_lst (pa_cons (pg T.g_ENOUGH) pa_nil))))
  pss_nil)
 (pss_cons (ps_if (pt_cmpR op_ge (pe_op op_add (pe_callB call_lenR (by rfl) T.n_len PySem.boot_len (pa_cons (pe_fld (pv 0) (by rfl)) pa_nil)) (pe_callB call_lenR (by rfl) T.n_len PySem.boot_len (pa_cons (pe_fld (pv 0) (by rfl)) pa_nil))) (pg T.g_MOST_UNITS) (nomark _))
  (pss_one (ps_ret (pe_lst (pa_cons (pg T.g_FULL) pa_nil))))
  pss_nil)
 (pss_cons (ps_dput hu (pe_fld (pv 0) (by rfl)) (pv 3) (mkc (ok_Unit_init T) (hr.mono (by decide)) (pa_cons (pv 1) (pa_cons (pv 2) (pa_cons (pv 3) (pa_cons (pv 4) pa_nil))))) rfl)
 (pss_one (ps_ret (pe_lst (pa_cons pe_int pa_nil))))))))))),?_⟩
  unfold mRaise at k
  refine ⟨_,rfl,_,_,_,_,_,rfl,hB.obj,T.k_Board,T.n_Board_driven,rfl,_,_,rfl,hB.dr,_,_,rfl,rfl,_,rfl,ite2 (fun e1=>?_) (fun e1=>?_)⟩
  · have e1:0<B.driven.length:=by have:=of_decide_eq_true e1;rw [hB.da.len] at this;omega
    rw [if_pos e1] at k
    exact ⟨one_ok,fun a ha=>k.ret hB hW (.refl _) ha rfl⟩
  have e1:¬ 0<B.driven.length:=fun z=>e1 (decide_eq_true (by rw [hB.da.len];omega))
  rw [if_neg e1] at k
  refine ⟨_,rfl,_,rfl,_,rfl,b,A0,B,w',rfl,hB,hn,fun H1 l s1 hl hL=>?_⟩
  refine ⟨_,_,rfl,.inl (SqL.of hL),rfl,flat_ints _,_,rfl,?_⟩
  rw [if_pos rfl,inV_ints]
  refine ite2 (fun e2=>?_) (fun e2=>?_)
  · have e2:p∉sitesW B w':=by simpa using e2
    rw [if_pos e2] at k
    exact ⟨one_ok,fun a ha=>k.ret hB hW s1 ha rfl⟩
  have e2:¬ p∉sitesW B w':=by simpa using e2
  rw [if_neg e2] at k
  have hB1:=hB.same s1
  have hW1:=hW.same hB s1
  refine ⟨_,rfl,_,rfl,_,rfl,_,rfl,b,A0,B,g,p,u,rfl,hB1,hp,_,rfl,ite2 (fun e3=>?_) (fun e3=>?_)⟩
  · rw [if_pos e3] at k
    exact ⟨one_ok,fun a ha=>k.ret hB hW s1 ha rfl⟩
  rw [if_neg e3] at k
  refine ⟨_,rfl,_,rfl,_,_,_,_,_,rfl,hB1.obj,T.k_Board,T.n_Board_raises,rfl,_,_,rfl,dgetK hB1.ra p,_,rfl,ite2 (fun e4=>?_) (fun e4=>?_)⟩
  · rw [hB1.raa.some p] at e4
    rw [if_pos e4] at k
    exact ⟨one_ok,fun a ha=>k.ret hB hW s1 ha rfl⟩
  rw [hB1.raa.some p] at e4
  rw [if_neg e4] at k
  refine ⟨_,rfl,_,rfl,b,A0,B,w',rfl,hB1,hW1,hr1,fun H2 l2 as s2 hl2 hL2 hR=>⟨l2,_,rfl,.inl (SqL.of hL2),?_⟩⟩
  have s12:=s1.trans s2
  have hB2:=hB.same s12
  have hW2:=hW.same hB s12
  refine ⟨_,rfl,_,rfl,b,A0,B,w',rfl,hB2,hW2,hn,hu1,fun H3 s3=>⟨_,_,rfl,rfl,_,rfl,?_⟩⟩
  have s13:=s12.trans s3
  have hB3:=hB.same s13
  have hW3:=hW.same hB s13
  have el:as.length=(unitsW B.raises w').length:=Paired.length hR
  rw [List.length_map,el]
  refine ite2 (fun e5=>?_) (fun e5=>?_)
  · have e5:(centresW B w').length - (unitsW B.units w').length≤(unitsW B.raises w').length:=by have:=of_decide_eq_true e5;omega
    rw [if_pos e5] at k
    exact ⟨one_ok,fun a ha=>k.ret hB hW s13 ha rfl⟩
  have e5:¬ (centresW B w').length - (unitsW B.units w').length≤(unitsW B.raises w').length:=fun z=>e5 (decide_eq_true (by omega))
  rw [if_neg e5] at k
  refine ⟨_,rfl,_,_,_,_,_,rfl,hB3.obj,T.k_Board,T.n_Board_units,rfl,_,_,rfl,hB3.un,_,rfl,_,_,_,_,_,rfl,hB3.obj,T.k_Board,T.n_Board_raises,rfl,_,_,rfl,hB3.ra,_,_,rfl,rfl,_,_,rfl,rfl,_,rfl,ite2 (fun e6=>?_) (fun e6=>?_)⟩
  · have e6:24≤B.units.length + B.raises.length:=by have:=of_decide_eq_true e6;rw [hB.ua.len,hB.raa.len] at this;omega
    rw [if_pos e6] at k
    exact ⟨one_ok,fun a ha=>k.ret hB hW s13 ha rfl⟩
  have e6:¬ 24≤B.units.length + B.raises.length:=fun z=>e6 (decide_eq_true (by rw [hB.ua.len,hB.raa.len];omega))
  rw [if_neg e6] at k
  have e4:look B.raises p=none:=Option.not_isSome_iff_eq_none.mp e4
  refine ⟨_,rfl,_,rfl,_,rfl,_,rfl,fun x dx nx ndx ne=>mk_unit nx ndx fun H4 s4 hU=>?_⟩
  have s14:=s13.trans s4
  have hB4:=hB.same s14
  have hW4:=hW.same hB s14
  have hra:=hW4.at_ (a:=A0.ra) (by simp [dicts]) hB4.ra
  obtain ⟨r1,r2,r3⟩:=hB4.set_ra hW4 s14 (hB4.raa.snoc (p:=p) hU)
  rw [← putK_dc hB4.raa e4] at r1 r2 r3
  refine ⟨_,rfl,_,_,_,_,_,rfl,hB4.obj,T.k_Board,T.n_Board_raises,rfl,_,rfl,_,_,rfl,DPut.k (k:=Sum.inl p) hra (by rw [hB4.raa.len];exact Nat.lt_of_le_of_lt hr1 (by decide)),?_⟩
  exact ⟨one_ok,fun a ha=>k.done hB r1 r2 r3 ha rfl⟩
def sp_drop (K:PySem.W.Frag) (mg:Str→Option Value):Sp:=fun vs H Q _=>∃(b:Addr) (A:Ads) (B:Bd) (p:Int),vs=[.ref b,.int p]∧BdAt mg H b A B∧Wr H A∧B.provs.length≤40∧B.units.length≤24∧B.drops.length≤24∧(∀p∈B.drops,(look B.units p).isSome=true)∧spEnd mg b A H (mDrop B p).1 (mDrop B p).2 Q
theorem sc_drop:FnScope ["board", "p", "power"] ["board", "p"] (defScope s_drop):=⟨rfl,rfl,rfl,by decide +kernel,rfl,by decide +kernel,by decide +kernel⟩
theorem ok_drop (T:Txt K mg):Def P w K mg base "drop" 3 ["board", "p"] (sp_drop K mg):=by
  obtain ⟨f,fd,hm,F,hb⟩:=T.f_drop
  refine ⟨f,hm,F.kp,fd,F.ok sc_drop (fun vs H Q E h=>?_) (fun cdv A outer s H vs Q E hr h=>?_),hb⟩
  · obtain ⟨b,A0,B,p,rfl,_⟩:=h;rfl
  obtain ⟨b,A0,B,p,rfl,hB,hW,hn,hu1,hd1,hdr,k⟩:=h
  have hu:=hu_of hr
  have hu64:=hu64_of hr
  have nd:=sc_drop.nd
  refine ⟨_,(pss_cons (ps_if (pt_cmpR op_gt (pe_callB call_lenR (by rfl) T.n_len PySem.boot_len (pa_cons (pe_fld (pv 0) (by rfl)) pa_nil)) pe_int (nomark _))
  (pss_one (ps_ret (pe_lst (pa_cons (pg T.g_SOME_DRIVEN) pa_nil))))
  pss_nil)
 (pss_cons (ps_if (pt_cmp (pc_dnotin hu (pv 1) (pe_fld (pv 0) (by rfl))) (by with_unfolding_all rfl))
  (pss_one (ps_ret (pe_lst (pa_cons (pg T.g_NOT_THERE) pa_nil))))
  pss_nil)
 (pss_cons (ps_if (pt_cmp (pc_din hu (pv 1) (pe_fld (pv 0) (by rfl))) (by with_unfolding_all rfl))
  (pss_one (ps_ret (pe_lst (pa_cons (pg T.g_THERE_ALREADY) pa_nil))))
  pss_nil)
 (pss_cons (ps_set (i:=2) nd rfl (by first | exact Or.inl rfl | exact Or.inr rfl) (pe_fld (pe_dget hu (pe_fld (pv 0) (by rfl)) (pv 1) (fun _ _=>rfl)) (by rfl)))
 (pss_cons (ps_if (pt_cmpR op_ge (pe_callB call_len_seq (by rfl) T.n_len PySem.boot_len (pa_cons (cl (ok_drops_of T) (hr.mono (by decide)) (pa_cons (pv 0) (pa_cons (pv 2) pa_nil))) pa_nil)) (cl (ok_needed_drops T) (hr.mono (by decide)) (pa_cons (pv 0) (pa_cons (pv 2) pa_nil))) (nomark _))
  (pss_one (ps_ret (pe_lst (pa_cons (pg T.g_ENOUGH) pa_nil))))
  pss_nil)
 (pss_cons (ps_dput hu (pe_fld (pv 0) (by rfl)) (pv 1) pe_bl rfl)
 (pss_one (ps_ret (pe_lst (pa_cons pe_int pa_nil)))))))))),?_⟩
  unfold mDrop at k
  refine ⟨_,rfl,_,_,_,_,_,rfl,hB.obj,T.k_Board,T.n_Board_driven,rfl,_,_,rfl,hB.dr,_,_,rfl,rfl,_,rfl,ite2 (fun e1=>?_) (fun e1=>?_)⟩
  · have e1:0<B.driven.length:=by have:=of_decide_eq_true e1;rw [hB.da.len] at this;omega
    rw [if_pos e1] at k
    exact ⟨one_ok,fun a ha=>k.ret hB hW (.refl _) ha rfl⟩
  have e1:¬ 0<B.driven.length:=fun z=>e1 (decide_eq_true (by rw [hB.da.len];omega))
  rw [if_neg e1] at k
  refine ⟨_,rfl,_,rfl,_,_,_,_,_,rfl,hB.obj,T.k_Board,T.n_Board_units,rfl,_,_,rfl,dgetK hB.un p,_,rfl,?_⟩
  rcases hB.ua.val p with ⟨a,x,h1,h2,dx,hU⟩ | ⟨h1,h2⟩
  · rw [h1]
    rw [h2] at k
    dsimp only at k
    refine iteF ⟨_,rfl,_,rfl,_,_,_,_,_,rfl,hB.obj,T.k_Board,T.n_Board_drops,rfl,_,_,rfl,dgetK hB.dp p,_,rfl,?_⟩
    rw [valI]
    refine ite2 (fun e2=>?_) (fun e2=>?_)
    · rw [if_pos (of_decide_eq_true e2)] at k
      exact ⟨one_ok,fun a ha=>k.ret hB hW (.refl _) ha rfl⟩
    have e2:¬ p∈B.drops:=fun z=>e2 (decide_eq_true z)
    rw [if_neg e2] at k
    refine ⟨_,rfl,_,_,_,_,_,rfl,hB.obj,T.k_Board,T.n_Board_units,rfl,_,rfl,_,_,rfl,(by have:=dgetK hB.un p;rw [h1] at this;exact this),_,_,_,_,_,rfl,hU,T.k_Unit,T.n_Unit_power,rfl,?_⟩
    refine ⟨_,rfl,_,rfl,b,A0,B,x.power,rfl,hB,hW,hd1,hdr,fun H1 l s1 hl hL=>⟨l,_,rfl,.inl (SqL.of hL),?_⟩⟩
    refine ⟨_,rfl,_,rfl,b,A0,B,x.power,rfl,hB.same s1,hW.same hB s1,hn,hu1,fun H2 s2=>⟨_,_,rfl,rfl,_,rfl,?_⟩⟩
    have s12:=s1.trans s2
    have hB2:=hB.same s12
    have hW2:=hW.same hB s12
    rw [List.length_map]
    refine ite2 (fun e3=>?_) (fun e3=>?_)
    · have e3:(unitsW B.units x.power).length - (centresW B x.power).length≤(dropsW B x.power).length:=by have:=of_decide_eq_true e3;omega
      rw [if_pos e3] at k
      exact ⟨one_ok,fun a ha=>k.ret hB hW s12 ha rfl⟩
    have e3:¬ (unitsW B.units x.power).length - (centresW B x.power).length≤(dropsW B x.power).length:=fun z=>e3 (decide_eq_true (by omega))
    rw [if_neg e3] at k
    have hdp:=hW2.at_ (a:=A0.dp) (by simp [dicts]) hB2.dp
    obtain ⟨r1,r2,r3⟩:=hB2.set_dp hW2 s12 (if p∈B.drops then B.drops else B.drops++[p])
    rw [← putI_new] at r1 r2 r3
    rw [if_neg e2] at r1
    refine ⟨_,rfl,_,_,_,_,_,rfl,hB2.obj,T.k_Board,T.n_Board_drops,rfl,_,rfl,_,_,rfl,DPut.k (k:=Sum.inl p) hdp (by rw [List.length_map];exact Nat.lt_of_le_of_lt hd1 (by decide)),?_⟩
    exact ⟨one_ok,fun a ha=>k.done hB r1 r2 r3 ha rfl⟩
  · rw [h1]
    rw [h2] at k
    exact iteT ⟨one_ok,fun z hz=>k.ret hB hW (.refl _) hz rfl⟩
def sp_in_order_of_provinces (K:PySem.W.Frag) (mg:Str→Option Value):Sp:=fun vs H Q _=>∃(d:Addr) (kvs:List (Key×V)) (l:List (Int×Unt)),vs=[.ref d]∧Rd H d (.dK kvs)∧Dc (UnAt mg H) kvs l∧l.length≤24∧spU mg H (inOrd l) Q
theorem sc_in_order_of_provinces:FnScope ["units", "p"] ["units"] (defScope s_in_order_of_provinces):=⟨rfl,rfl,rfl,by decide +kernel,rfl,by decide +kernel,by decide +kernel⟩
theorem ok_in_order_of_provinces (T:Txt K mg):Def P w K mg base "in_order_of_provinces" 1 ["units"] (sp_in_order_of_provinces K mg):=by
  obtain ⟨f,fd,hm,F,hb⟩:=T.f_in_order_of_provinces
  refine ⟨f,hm,F.kp,fd,F.ok sc_in_order_of_provinces (fun vs H Q E h=>?_) (fun cdv A outer s H vs Q E hr h=>?_),hb⟩
  · obtain ⟨d,kvs,l,rfl,_⟩:=h;rfl
  obtain ⟨d,kvs,l,rfl,hd,hD,hn,k⟩:=h
  have hu:=hu_of hr
  have hu64:=hu64_of hr
  have nd:=sc_in_order_of_provinces.nd
  refine ⟨_,(pss_one (ps_ret (pe_lc (own:=[("p", 1)]) rfl nd (pi_list (pe_callB (cr_sortedD rfl) (by rfl) T.n_sorted boot_sorted (pa_cons (pv 0) pa_nil))) (blkOk_by (by rfl)) (fun _ _ _ _ _=>(pg_name (i:=1) nd rfl (Or.inl rfl))) (fun _ _ _ _ _=>pts_nil) (fun _ _ _ _ _=>(pe_dget hu (pv 0) (pv 1) (fun _ _=>rfl)))))),?_⟩
  refine ⟨_,rfl,d,kvs,l.map (·.1),rfl,hd,hD.keys,(by rw [List.length_map];omega),fun ns p hp hs hpn=>?_⟩
  have ens:=sortI_eq hp hs
  have s1:Same H (upd H p (.lst (ns.map V.int))):=Same.mk hpn
  have hlen:ns.length=l.length:=by rw [hp.length_eq,List.length_map]
  refine ⟨_,rfl,⟨_,SqL.of upd_same⟩,fun D hDn=>lc_acc (n:=ns.length) hDn (by omega) (fun i acc H'=>∃as:List Addr,acc=as.map V.ref∧Paired (UnAt mg H') as ((ns.take i).filterMap (look l))) (fun i acc H1 H2 hd s ⟨as,e,t⟩=>⟨as,e,uns_butD t hd s⟩)
    (fun i H2 hi s2=>⟨_,.int ns[i],SqL.of (s2 _ _ upd_same),by rw [List.getElem?_map,List.getElem?_eq_getElem hi];rfl⟩) (fun H2 s2=>⟨_,SqL.of (s2 _ _ upd_same),by rw [List.length_map];exact Nat.le_refl _⟩) ⟨[],rfl,.nil⟩ ?_ ?_⟩
  · rintro i y H2 H2' acc Nx hi s2 hDl ⟨as,rfl,t⟩ ⟨rfl,hy⟩ kN kY
    have hy:=hy _ (SqL.of (s2 _ _ upd_same))
    rw [List.getElem?_map,Option.map_eq_some_iff] at hy
    obtain ⟨q,hq,rfl⟩:=hy
    have s12:=s1.trans s2
    have hm:q∈l.map (·.1):=hp.mem_iff.mp (List.mem_of_getElem? hq)
    have hD2:Dc (UnAt mg _) kvs l:=hD.imp fun _ _ z=>z.mono (.of s12)
    rcases hD2.val q with ⟨a,x,h1,h2,hU⟩ | ⟨h1,h2⟩
    · refine ⟨rfl,⟨_,rfl,_,rfl,_,_,rfl,(by have:=dgetK ((SameL.of s12).rd hd) q;rw [h1] at this;exact this),kY _ _ (.refl _) ⟨as++[a],by rw [List.map_append];rfl,?_⟩⟩⟩
      rw [List.take_add_one,hq,List.filterMap_append]
      have e:List.filterMap (look l) (some q).toList=[x]:=by
        show List.filterMap (look l) [q]=[x]
        rw [List.filterMap_cons,h2];rfl
      rw [e]
      exact uns_snoc t hU
    · obtain ⟨z,hz,e⟩:=List.mem_map.mp hm
      exact absurd e (look_none.mp h2 z hz)
  · rintro H2 acc s2 hacc ⟨as,rfl,t⟩
    refine k H2 D as (s1.trans s2) (s1.free hDn) hacc ?_
    rw [List.take_length] at t
    unfold inOrd
    rw [← ens]
    exact t
def sp_rows_of_units (K:PySem.W.Frag) (mg:Str→Option Value):Sp:=fun vs H Q _=>∃(d:Addr) (kvs:List (Key×V)) (l:List (Int×Unt)),vs=[.ref d]∧Rd H d (.dK kvs)∧Dc (UnAt mg H) kvs l∧l.length≤24∧spL H (rowsU l) Q
theorem sc_rows_of_units:FnScope ["units", "unit"] ["units"] (defScope s_rows_of_units):=⟨rfl,rfl,rfl,by decide +kernel,rfl,by decide +kernel,by decide +kernel⟩
theorem ok_rows_of_units (T:Txt K mg):Def P w K mg base "rows_of_units" 2 ["units"] (sp_rows_of_units K mg):=by
  obtain ⟨f,fd,hm,F,hb⟩:=T.f_rows_of_units
  refine ⟨f,hm,F.kp,fd,F.ok sc_rows_of_units (fun vs H Q E h=>?_) (fun cdv A outer s H vs Q E hr h=>?_),hb⟩
  · obtain ⟨d,kvs,l,rfl,_⟩:=h;rfl
  obtain ⟨d,kvs,l,rfl,hd,hD,hn,k⟩:=h
  have hu:=hu_of hr
  have hu64:=hu64_of hr
  have nd:=sc_rows_of_units.nd
  refine ⟨_,(pss_one (ps_ret (cl (ok_rows T) (hr.mono (by decide)) (pa_cons (pe_lc (own:=[("unit", 1)]) rfl nd (pi_list (cl (ok_in_order_of_provinces T) (hr.mono (by decide)) (pa_cons (pv 0) pa_nil))) (blkOk_by (by rfl)) (fun _ _ _ _ _=>(pg_name (i:=1) nd rfl (Or.inl rfl))) (fun _ _ _ _ _=>pts_nil) (fun _ _ _ _ _=>(pe_tup (pa_cons (pe_fldK K rfl (pv 1) (by rfl)) (pa_cons (pe_fldK K rfl (pv 1) (by rfl)) (pa_cons (pe_fldK K rfl (pv 1) (by rfl)) (pa_cons (pe_fldK K rfl (pv 1) (by rfl)) pa_nil))))))) pa_nil)))),?_⟩
  refine ⟨_,rfl,d,kvs,l,rfl,hd,hD,hn,fun H1 p as s1 hp hL hU=>?_⟩
  have hlen:as.length=(inOrd l).length:=Paired.length hU
  have hle:=inOrd_len l
  refine ⟨_,rfl,⟨_,SqL.of hL⟩,fun D hDn=>lc_acc (n:=as.length) hDn (by omega) (fun i acc H'=>∃bs:List Addr,acc=bs.map V.ref∧TupsAt H' bs (((inOrd l).take i).map unum)) (fun i acc H1 H2 hd s ⟨as,e,t⟩=>⟨as,e,t.butD hd s⟩)
    (fun i H2 hi s2=>⟨_,.ref as[i],SqL.of (s2 _ _ hL),by rw [List.getElem?_map,List.getElem?_eq_getElem hi];rfl⟩) (fun H2 s2=>⟨_,SqL.of (s2 _ _ hL),by rw [List.length_map];exact Nat.le_refl _⟩) ⟨[],rfl,.nil⟩ ?_ ?_⟩
  · rintro i y H2 H2' acc Nx hi s2 hDl ⟨bs,rfl,t⟩ ⟨rfl,hy⟩ kN kY
    have hy:=hy _ (SqL.of (s2 _ _ hL))
    rw [List.getElem?_map,Option.map_eq_some_iff] at hy
    obtain ⟨a,ha,rfl⟩:=hy
    obtain ⟨u,hu',hU1⟩:=paired_get hU ha
    obtain ⟨dx,hUa⟩:=hU1.mono (.of s2)
    refine ⟨rfl,⟨_,rfl,_,_,_,_,_,rfl,hUa,T.k_Unit,T.n_Unit_province,rfl,_,rfl,_,_,_,_,_,rfl,hUa,T.k_Unit,T.n_Unit_power,rfl,_,rfl,_,_,_,_,_,rfl,hUa,T.k_Unit,T.n_Unit_fleet,rfl,_,rfl,_,_,_,_,_,rfl,hUa,T.k_Unit,T.n_Unit_shore,rfl,(by show 4≤sizeLine;decide),fun z hz=>kY _ _ (Same.mk hz) ⟨bs++[z],by rw [List.map_append];rfl,?_⟩⟩⟩
    rw [List.take_add_one,hu',List.map_append]
    exact (t.same (Same.mk hz)).snoc (r:=unum u) upd_same
  · rintro H2 acc s2 hacc ⟨bs,rfl,t⟩
    rw [hlen,List.take_length] at t
    refine ⟨D,_,rfl,⟨bs,hacc,t⟩,(by rw [unum_len];omega),fun H3 q s3 hq hQ=>?_⟩
    rw [List.length_map] at hQ
    exact k H3 q ((s1.trans s2).trans s3) (s1.free (s2.free hq)) hQ
def sp_men (K:PySem.W.Frag) (mg:Str→Option Value):Sp:=fun vs H Q _=>∃(b:Addr) (A:Ads) (B:Bd),vs=[.ref b]∧BdAt mg H b A B∧Wr H A∧B.units.length≤24∧spEnd mg b A H B (rowsU B.units) Q
theorem sc_men:FnScope ["board"] ["board"] (defScope s_men):=⟨rfl,rfl,rfl,by decide +kernel,rfl,by decide +kernel,by decide +kernel⟩
theorem ok_men (T:Txt K mg):Def P w K mg base "men" 3 ["board"] (sp_men K mg):=by
  obtain ⟨f,fd,hm,F,hb⟩:=T.f_men
  refine ⟨f,hm,F.kp,fd,F.ok sc_men (fun vs H Q E h=>?_) (fun cdv A outer s H vs Q E hr h=>?_),hb⟩
  · obtain ⟨b,A0,B,rfl,_⟩:=h;rfl
  obtain ⟨b,A0,B,rfl,hB,hW,hn,k⟩:=h
  have hu:=hu_of hr
  have hu64:=hu64_of hr
  have nd:=sc_men.nd
  refine ⟨_,(pss_one (ps_ret (cl (ok_rows_of_units T) (hr.mono (by decide)) (pa_cons (pe_fld (pv 0) (by rfl)) pa_nil)))),?_⟩
  exact ⟨_,rfl,_,_,_,_,_,rfl,hB.obj,T.k_Board,T.n_Board_units,rfl,A0.un,_,_,rfl,hB.un,hB.ua,hn,fun H1 p s1 hp hL=>k.lst hB hW s1 hp hL⟩
def ownTo (B:Bd) (i:Nat):List (List Int):=(List.range i).filterMap fun (j:Nat)=>(B.provs[j]?).bind fun x=>if x.centre=1 then some [(j:Int),x.owner + 1] else none
theorem ownTo_succ (B:Bd) {i:Nat} {x:Prov} (h:B.provs[i]? = some x):ownTo B (i + 1)=ownTo B i++(if x.centre=1 then [[(i:Int),x.owner + 1]] else []):=by
  unfold ownTo
  rw [List.range_succ,List.filterMap_append]
  congr 1
  rw [List.filterMap_cons,h,Option.bind_some]
  by_cases q:x.centre=1
  · rw [if_pos q,if_pos q];rfl
  · rw [if_neg q,if_neg q];rfl
theorem ownTo_len (B:Bd) (i:Nat):(ownTo B i).length≤i∧(ownTo B i).flatten.length≤2 * i:=by
  induction i with
  | zero=>exact ⟨Nat.le_refl _,Nat.le_refl _⟩
  | succ i ih =>
    cases h:B.provs[i]? with
    | none =>
      have e:ownTo B (i + 1)=ownTo B i:=by
        unfold ownTo
        rw [List.range_succ,List.filterMap_append,List.filterMap_cons,h]
        exact List.append_nil _
      rw [e];omega
    | some x =>
      rw [ownTo_succ B h]
      split
      · rw [List.length_append,List.flatten_append,List.length_append]
        have e1:([[(i:Int),x.owner + 1]]:List (List Int)).length=1:=rfl
        have e2:([[(i:Int),x.owner + 1]]:List (List Int)).flatten.length=2:=rfl
        rw [e1,e2];omega
      · rw [List.append_nil];omega
def sp_owners (K:PySem.W.Frag) (mg:Str→Option Value):Sp:=fun vs H Q _=>∃(b:Addr) (A:Ads) (B:Bd),vs=[.ref b]∧BdAt mg H b A B∧Wr H A∧B.provs.length≤40∧spEnd mg b A H B (((ownTo B B.provs.length).length:Int)::(ownTo B B.provs.length).flatten) Q
theorem sc_owners:FnScope ["board", "p", "one"] ["board"] (defScope s_owners):=⟨rfl,rfl,rfl,by decide +kernel,rfl,by decide +kernel,by decide +kernel⟩
theorem ok_owners (T:Txt K mg):Def P w K mg base "owners" 2 ["board"] (sp_owners K mg):=by
  obtain ⟨f,fd,hm,F,hb⟩:=T.f_owners
  refine ⟨f,hm,F.kp,fd,F.ok sc_owners (fun vs H Q E h=>?_) (fun cdv A outer s H vs Q E hr h=>?_),hb⟩
  · obtain ⟨b,A0,B,rfl,_⟩:=h;rfl
  obtain ⟨b,A0,B,rfl,hB,hW,hn,k⟩:=h
  have hu:=hu_of hr
  have hu64:=hu64_of hr
  have nd:=sc_owners.nd
  refine ⟨_,(pss_one (ps_ret (cl (ok_rows T) (hr.mono (by decide)) (pa_cons (pe_lc (own:=[("p", 1),("one", 2)]) rfl nd (pi_enum rfl T.n_enumerate (pa_cons (pe_fld (pv 0) (by rfl)) pa_nil)) (blkOk_by (by rfl)) (fun _ _ _ _ _=>(pg_tupK (n:=2) K rfl rfl (pgs_cons (pg_name (i:=1) nd rfl (Or.inl rfl)) (pgs_cons (pg_name (i:=2) nd rfl (Or.inl rfl)) pgs_nil)))) (fun _ _ _ _ _=>pts_one (pt_cmpR op_eq (pe_fldK K rfl (pv 2) (by rfl)) pe_int (nomark _))) (fun _ _ _ _ _=>(pe_tup (pa_cons (pv 1) (pa_cons (pe_op op_sub (pe_fldK K rfl (pv 2) (by rfl)) (pg T.g_NOBODY)) pa_nil))))) pa_nil)))),?_⟩
  have hl:=hB.plen
  refine ⟨_,rfl,_,_,_,_,_,rfl,hB.obj,T.k_Board,T.n_Board_provinces,rfl,_,_,rfl,SqL.of hB.pl,fun D hD=>lc_acc (n:=A0.ps.length) hD (by omega) (fun i acc H'=>∃bs:List Addr,acc=bs.map V.ref∧TupsAt H' bs (ownTo B i)) (fun i acc H1 H2 hd s ⟨as,e,t⟩=>⟨as,e,t.butD hd s⟩)
    (fun i H1 hi s1=>⟨_,.ref A0.ps[i],SqL.of (s1 _ _ hB.pl),by rw [List.getElem?_map,List.getElem?_eq_getElem hi];rfl⟩) (fun H1 s1=>⟨_,SqL.of (s1 _ _ hB.pl),by rw [List.length_map];exact Nat.le_refl _⟩) ⟨[],rfl,.nil⟩ ?_ ?_⟩
  · rintro i y H1 H1' acc Nx hi s1 hDl ⟨bs,rfl,t⟩ ⟨z,v,rfl,hz,rfl,hy⟩ kN kY
    have hB1:=hB.same s1
    have hy:=hy _ (SqL.of hB1.pl)
    rw [List.getElem?_map,Option.map_eq_some_iff] at hy
    obtain ⟨a,ha,rfl⟩:=hy
    obtain ⟨x,hx,dx,hP⟩:=paired_get hB1.pa ha
    have s2:Same H1 (upd H1 z (.tup [.int (i:Nat),.ref a])):=Same.mk hz
    have hP2:=s2 _ _ hP
    refine ⟨_,_,rfl,SqT.of upd_same,rfl,_,_,rfl,_,_,rfl,rfl,rfl,_,rfl,_,_,_,_,_,rfl,hP2,T.k_Province,T.n_Province_centre,rfl,rfl,_,rfl,?_⟩
    rw [decV]
    refine ite2 (fun e=>?_) (fun e=>?_)
    · refine ⟨_,rfl,_,rfl,_,_,_,_,_,rfl,hP2,T.k_Province,T.n_Province_owner,rfl,_,_,rfl,rfl,(by show 2≤sizeLine;decide),fun w2 hw2=>kY _ _ (s2.trans (Same.mk hw2)) ⟨bs++[w2],by rw [List.map_append];rfl,?_⟩⟩
      rw [ownTo_succ B hx,if_pos (of_decide_eq_true e)]
      refine (t.same (s2.trans (Same.mk hw2))).snoc (r:=[(i:Int),x.owner + 1]) ?_
      rw [upd_same]
      show some (HO.tup [V.int (i:Nat),V.int (x.owner - -1)])=_
      rw [Int.sub_neg];rfl
    · refine kN _ s2 ⟨bs,rfl,?_⟩
      rw [ownTo_succ B hx,if_neg (fun z=>e (decide_eq_true z)),List.append_nil]
      exact t.same s2
  · rintro H1 acc s1 hacc ⟨bs,rfl,t⟩
    have hle:=ownTo_len B B.provs.length
    rw [hl] at t
    refine ⟨D,_,rfl,⟨bs,hacc,t⟩,(by omega),fun H3 q s3 hq hQ=>?_⟩
    exact k.lst hB hW (s1.trans s3) (s1.free hq) hQ
end
end Sb
end
section
namespace Sb
open PySem PySem.Spec PyProof.Rows L2
section
variable {P:Program} {w:World} {K:PySem.W.Frag} {mg:Str→Option Value} {base:Heap}
def seaP (k:Int×Int×Int×Int):Int×Int:=(k.1,k.2.2.1)
def pairsB (B:Bd):List (Int×Int):=B.land++B.sea.map seaP
def nb (l:List (Int×Int)) (j:Nat):List Int:=l.flatMap fun x=>(if (j:Int)=x.1 then [x.2] else [])++(if (j:Int)=x.2 then [x.1] else [])
theorem nb_succ {l:List (Int×Int)} {i:Nat} {x:Int×Int} (h:l[i]? = some x) (j:Nat):nb (l.take (i + 1)) j=(nb (l.take i) j++(if (j:Int)=x.1 then [x.2] else []))++(if (j:Int)=x.2 then [x.1] else []):=by
  unfold nb
  rw [List.take_add_one,h,List.flatMap_append,List.append_assoc]
  congr 1
  show List.flatMap _ [x]=_
  rw [List.flatMap_singleton]
theorem nb_len (l:List (Int×Int)) (j:Nat):(nb l j).length≤2 * l.length:=by
  induction l with
  | nil=>exact Nat.le_refl _
  | cons a l ih =>
    have e:nb (a::l) j=((if (j:Int)=a.1 then [a.2] else [])++(if (j:Int)=a.2 then [a.1] else []))++nb l j:=rfl
    have e1:(if (j:Int)=a.1 then [a.2] else []).length≤1:=by split <;> simp
    have e2:(if (j:Int)=a.2 then [a.1] else []).length≤1:=by split <;> simp
    rw [e,List.length_append,List.length_append,List.length_cons]
    omega
def NbAt (H:Hp) (as:List Addr) (f:Nat→List Int):Prop:=∀(i:Nat) (a:Addr),as[i]? = some a→H a=some (.lst ((f i).map V.int))
theorem NbAt.app {H:Hp} {as:List Addr} {f:Nat→List Int} (h:NbAt H as f) (nd:as.Nodup) {i:Nat} {a:Addr} (hi:as[i]? = some a) (q:Int):NbAt (upd H a (.lst ((f i).map V.int++[.int q]))) as (fun j=>f j++if j=i then [q] else []):=by
  intro j c hj
  by_cases e:j=i
  · subst e
    have:c=a:=Option.some.inj (hj.symm.trans hi)
    show upd H a _ c=some (.lst ((f j++if j=j then [q] else []).map V.int))
    rw [this,upd_same,if_pos rfl,List.map_append]
    rfl
  · have ne:c≠a:=fun z=>e (nd_ix nd hj (by rw [z];exact hi))
    show upd H a _ c=some (.lst ((f j++if j=i then [q] else []).map V.int))
    rw [upd_ne ne,if_neg e,List.append_nil]
    exact h j c hj
theorem NbAt.congr {H:Hp} {as:List Addr} {f g:Nat→List Int} (h:NbAt H as f) (e:∀j,f j=g j):NbAt H as g:=fun i a hi=>by rw [← e];exact h i a hi
def sp_linked_provinces (K:PySem.W.Frag) (mg:Str→Option Value):Sp:=fun vs H Q _=>∃(b:Addr) (A:Ads) (B:Bd),vs=[.ref b]∧BdAt mg H b A B∧Wr H A∧B.provs.length≤40∧B.land.length≤300∧B.sea.length≤300∧(∀x∈pairsB B,IsP B x.1∧IsP B x.2) ∧
  ∀H' l as,Same H H'→H l=none→H' l=some (.lst (as.map V.ref))→as.length=B.provs.length→NbAt H' as (nb (pairsB B))→Q (.ref l) H'
theorem sc_linked_provinces:FnScope ["board", "beside", "pairs", "p", "q", "one", "key"] ["board"] (defScope s_linked_provinces):=⟨rfl,rfl,rfl,by decide +kernel,rfl,by decide +kernel,by decide +kernel⟩
theorem ok_linked_provinces (T:Txt K mg):Def P w K mg base "linked_provinces" 1 ["board"] (sp_linked_provinces K mg):=by
  obtain ⟨f,fd,hm,F,hb⟩:=T.f_linked_provinces
  refine ⟨f,hm,F.kp,fd,F.ok sc_linked_provinces (fun vs H Q E h=>?_) (fun cdv A outer s H vs Q E hr h=>?_),hb⟩
  · obtain ⟨b,A0,B,rfl,_⟩:=h;rfl
  obtain ⟨b,A0,B,rfl,hB,hW,hn,hl1,hs1,hP,k⟩:=h
  have hu:=hu_of hr
  have hu64:=hu64_of hr
  have nd:=sc_linked_provinces.nd
  refine ⟨_,(pss_cons (ps_setLc (i:=1) (own:=[("one", 5)]) rfl nd rfl rfl (sw_true rfl rfl rfl rfl) (pi_list (pe_fld (pv 0) (by rfl))) (blkOk_by (by rfl)) (fun _ _ _ _ _=>(pg_name (i:=5) nd rfl (Or.inl rfl))) (fun _ _ _ _ _=>pts_nil) (fun _ _ _ _ _=>(pe_lst pa_nil)))
 (pss_cons (ps_lock (ps_setLc (i:=2) (own:=[("key", 6)]) rfl nd rfl rfl (sw_true rfl rfl rfl rfl) (pi_keys (pe_fld (pv 0) (by rfl))) (blkOk_by (by rfl)) (fun _ _ _ _ _=>(pg_name (i:=6) nd rfl (Or.inl rfl))) (fun _ _ _ _ _=>pts_nil) (fun _ _ _ _ _=>(pe_tup (pa_cons (pe_ix (ix_tupK K rfl) (pv 6) pe_int (fun _ _=>rfl)) (pa_cons (pe_ix (ix_tupK K rfl) (pv 6) pe_int (fun _ _=>rfl)) pa_nil))))))
 (pss_cons (ps_expr (pe_bm PySem.F.plainAttrs_list PySem.F.slot_list_extend PySem.F.type_list_extend mt_extend (pv 2) (pa_cons (pe_lock (pe_lc (own:=[("key", 6)]) rfl nd (pi_keys (pe_fld (pv 0) (by rfl))) (blkOk_by (by rfl)) (fun _ _ _ _ _=>(pg_name (i:=6) nd rfl (Or.inl rfl))) (fun _ _ _ _ _=>pts_nil) (fun _ _ _ _ _=>(pe_tup (pa_cons (pe_ix (ix_tupK K rfl) (pv 6) pe_int (fun _ _=>rfl)) (pa_cons (pe_ix (ix_tupK K rfl) (pv 6) pe_int (fun _ _=>rfl)) pa_nil)))))) pa_nil)))
 (pss_cons (ps_for PassesOwn.never rfl (pi_list (pv 2)) (pg_tup (n:=2) rfl (pgs_cons (pg_name (i:=3) nd rfl (Or.inl rfl)) (pgs_cons (pg_name (i:=4) nd rfl (Or.inl rfl)) pgs_nil)))
  (pss_cons (ps_expr (pe_bm PySem.F.plainAttrs_list PySem.F.slot_list_append PySem.F.type_list_append mt_append (pe_ix ix_list (pv 1) (pv 3) (fun _ _=>rfl)) (pa_cons (pv 4) pa_nil)))
 (pss_one (ps_expr (pe_bm PySem.F.plainAttrs_list PySem.F.slot_list_append PySem.F.type_list_append mt_append (pe_ix ix_list (pv 1) (pv 4) (fun _ _=>rfl)) (pa_cons (pv 3) pa_nil))))))
 (pss_one (ps_ret (pv 1))))))),?_⟩
  have hl:=hB.plen
  refine ⟨_,rfl,_,_,_,_,_,rfl,hB.obj,T.k_Board,T.n_Board_provinces,rfl,_,rfl,⟨_,SqL.of hB.pl⟩,fun D hD=>lc_acc (n:=A0.ps.length) hD (by omega) (fun i acc H'=>∃as:List Addr,acc=as.map V.ref∧as.length=i∧as.Nodup∧(∀a∈as,H' a=some (.lst [])∧H a=none∧a≠D))
    (fun i acc H1 H2 hd s ⟨as,e,e2,e3,t⟩=>⟨as,e,e2,e3,fun a ha=>⟨s _ _ (t a ha).2.2 (t a ha).1,(t a ha).2⟩⟩)
    (fun i H1 hi s1=>⟨_,.ref A0.ps[i],SqL.of (s1 _ _ hB.pl),by rw [List.getElem?_map,List.getElem?_eq_getElem hi];rfl⟩) (fun H1 s1=>⟨_,SqL.of (s1 _ _ hB.pl),by rw [List.length_map];exact Nat.le_refl _⟩) ⟨[],rfl,rfl,.nil,fun a h=>nomatch h⟩ ?_ ?_⟩
  · rintro i y H1 H1' acc Nx hi s1 hDl ⟨as,rfl,e2,e3,t⟩ ⟨rfl,hy⟩ kN kY
    refine ⟨rfl,⟨Nat.zero_le _,fun z hz=>kY _ _ (Same.mk hz) ⟨as++[z],by rw [List.map_append];rfl,by rw [List.length_append,e2];rfl,nd_snoc e3 (fun m=>?_),fun a ha=>?_⟩⟩⟩
    · rw [(t z m).1] at hz;cases hz
    · rcases List.mem_append.mp ha with q | q
      · exact ⟨by rw [upd_ne (ne_of_none (t a q).1 hz)];exact (t a q).1,(t a q).2⟩
      · rw [List.mem_singleton.mp q]
        exact ⟨upd_same,s1.free hz,fun e=>by rw [e,hDl] at hz;cases hz⟩
  rintro H1 acc s1 hacc ⟨as,rfl,e2,e3,t⟩
  have hB1:=hB.same s1
  have hW1:=hW.same hB s1
  have hla:=hW1.at_ (a:=A0.la) (by simp [dicts]) hB1.la
  refine ⟨A0.la,_,hla,trivial,fun od=>?_⟩
  have hB1':=hB1.mono (SameL.lock hla rfl od)
  refine ⟨_,rfl,_,_,_,_,_,rfl,hB1'.obj,T.k_Board,T.n_Board_land_links,rfl,_,_,rfl,.inr ⟨_,upd_same,fun D2 hD2=>lc_acc (n:=B.land.length) hD2 (by omega) (fun i acc H'=>∃ts:List Addr,acc=ts.map V.ref∧TupsAt H' ts ((B.land.take i).map pr2)) (fun i acc H1 H2 hd s ⟨ts,e,t⟩=>⟨ts,e,t.butD hd s⟩)
    (fun i H2 hi s2=>⟨s2 _ _ upd_same,by rw [List.length_map];exact hi⟩) (fun H2 s2=>⟨s2 _ _ upd_same,by rw [List.length_map];exact Nat.le_refl _⟩) ⟨[],rfl,.nil⟩ ?_ ?_⟩⟩
  · rintro i y H2 H2' acc Nx hi s2 hDl ⟨ts,rfl,tt⟩ ⟨rfl,kk,v,qa,hy,rfl,hqa⟩ kN kY
    rw [List.getElem?_map,Option.map_eq_some_iff] at hy
    obtain ⟨x,hx,e⟩:=hy
    have ek:kk=[Sum.inl x.1,Sum.inl x.2]:=(congrArg Prod.fst e).symm
    subst ek
    refine ⟨rfl,⟨_,rfl,_,_,_,_,rfl,rfl,SqT.of hqa,rfl,_,rfl,_,_,_,_,rfl,rfl,SqT.of hqa,rfl,(by show 2≤sizeLine;decide),fun z hz=>kY _ _ (Same.mk hz) ⟨ts++[z],by rw [List.map_append];rfl,?_⟩⟩⟩
    rw [List.take_add_one,hx,List.map_append]
    exact (tt.same (Same.mk hz)).snoc (r:=pr2 x) upd_same
  rintro H2 acc s2 hacc2 ⟨ts,rfl,tt⟩
  obtain ⟨ndl,hD2'⟩:=lock_none hD2
  have hfz2:=s2 _ _ upd_same
  have s2u:=s2.unlock hla
  have hp2:(upd H2 A0.la (.dT (B.land.map kLand))) D2=some (.lst (ts.map V.ref)):=by rw [upd_ne ndl];exact hacc2
  have tt2:TupsAt (upd H2 A0.la (.dT (B.land.map kLand))) ts (B.land.map pr2):=by
    rw [List.take_length] at tt
    exact tt.mono fun a xs e=>by rw [upd_ne (ne_of e hfz2 (fun z=>nomatch z))];exact e
  refine ⟨hfz2,?_⟩
  generalize upd H2 A0.la (.dT (B.land.map kLand))=H3 at s2u hp2 tt2 ⊢
  have s13:=s1.trans s2u
  have hB3:=hB.same s13
  have hW3:=hW.same hB s13
  refine ⟨_,rfl,.inl ⟨rfl,_,SqL.of hp2⟩,?_⟩
  have hse:=hW3.at_ (a:=A0.se) (by simp [dicts]) hB3.se
  refine ⟨A0.se,_,hse,trivial,fun od=>?_⟩
  have hB3':=hB3.mono (SameL.lock hse rfl od)
  refine ⟨_,rfl,_,_,_,_,_,rfl,hB3'.obj,T.k_Board,T.n_Board_sea_links,rfl,_,_,rfl,.inr ⟨_,upd_same,fun D3 hD3=>lc_acc (n:=B.sea.length) hD3 (by omega) (fun i acc H'=>∃ts:List Addr,acc=ts.map V.ref∧TupsAt H' ts (((B.sea.take i).map seaP).map pr2)) (fun i acc H1 H2 hd s ⟨ts,e,t⟩=>⟨ts,e,t.butD hd s⟩)
    (fun i H2 hi s2=>⟨s2 _ _ upd_same,by rw [List.length_map];exact hi⟩) (fun H2 s2=>⟨s2 _ _ upd_same,by rw [List.length_map];exact Nat.le_refl _⟩) ⟨[],rfl,.nil⟩ ?_ ?_⟩⟩
  · rintro i y H2 H2' acc Nx hi s2 hDl ⟨ts,rfl,tt⟩ ⟨rfl,kk,v,qa,hy,rfl,hqa⟩ kN kY
    rw [List.getElem?_map,Option.map_eq_some_iff] at hy
    obtain ⟨x,hx,e⟩:=hy
    have ek:kk=[Sum.inl x.1,Sum.inl x.2.1,Sum.inl x.2.2.1,Sum.inl x.2.2.2]:=(congrArg Prod.fst e).symm
    subst ek
    refine ⟨rfl,⟨_,rfl,_,_,_,_,rfl,rfl,SqT.of hqa,rfl,_,rfl,_,_,_,_,rfl,rfl,SqT.of hqa,rfl,(by show 2≤sizeLine;decide),fun z hz=>kY _ _ (Same.mk hz) ⟨ts++[z],by rw [List.map_append];rfl,?_⟩⟩⟩
    rw [List.take_add_one,hx,List.map_append,List.map_append]
    exact (tt.same (Same.mk hz)).snoc (r:=pr2 (seaP x)) upd_same
  rintro H4 acc s4 hacc4 ⟨us,rfl,tu⟩
  obtain ⟨nds,hD3'⟩:=lock_none hD3
  have hfz4:=s4 _ _ upd_same
  have s4u:=s4.unlock hse
  have hq4:(upd H4 A0.se (.dT (B.sea.map kSea))) D3=some (.lst (us.map V.ref)):=by rw [upd_ne nds];exact hacc4
  have tu4:TupsAt (upd H4 A0.se (.dT (B.sea.map kSea))) us ((B.sea.map seaP).map pr2):=by
    rw [List.take_length] at tu
    exact tu.mono fun a xs e=>by rw [upd_ne (ne_of e hfz4 (fun z=>nomatch z))];exact e
  refine ⟨hfz4,?_⟩
  generalize upd H4 A0.se (.dT (B.sea.map kSea))=H5 at s4u hq4 tu4 ⊢
  have hp5:=s4u _ _ hp2
  have l1:=tt2.len
  have l2:=tu4.len
  rw [List.length_map] at l1
  rw [List.length_map,List.length_map] at l2
  refine ⟨D2,D3,_,_,rfl,rfl,hp5,hq4,(by rw [List.length_map,List.length_map];exact Nat.le_trans (show _≤1000 by omega) (by decide)),?_⟩
  have hD2n:H D2=none:=s1.free hD2'
  have s15:Same H (upd H5 D2 (.lst (ts.map V.ref++us.map V.ref))):=(s13.trans s4u).put hD2n
  have tp:TupsAt (upd H5 D2 (.lst (ts.map V.ref++us.map V.ref))) (ts++us) ((pairsB B).map pr2):=by
    have:=((tt2.same s4u).app tu4).but (H':=upd H5 D2 (.lst (ts.map V.ref++us.map V.ref))) hp5 fun a o ne q=>by rw [upd_ne ne];exact q
    unfold pairsB
    rw [List.map_append]
    exact this
  have hpr:upd H5 D2 (.lst (ts.map V.ref++us.map V.ref)) D2=some (.lst ((ts++us).map V.ref)):=by rw [List.map_append];exact upd_same
  have s25:Same H1 H5:=s2u.trans s4u
  have hbl:upd H5 D2 (.lst (ts.map V.ref++us.map V.ref)) D=some (.lst (as.map V.ref)):=by
    rw [upd_ne (ne_of_none hacc hD2')];exact s25 _ _ hacc
  have nb0:NbAt (upd H5 D2 (.lst (ts.map V.ref++us.map V.ref))) as (nb ((pairsB B).take 0)):=fun i a hi=>by
    have ta:=(t a (List.mem_of_getElem? hi)).1
    rw [upd_ne (ne_of_none ta hD2')]
    exact s25 _ _ ta
  have nD:D∉as:=fun m=>(t D m).2.2 rfl
  have nD2:D2∉as:=fun m=>by have:=(t D2 m).1;rw [hD2'] at this;cases this
  have nDD:D≠D2:=ne_of_none hacc hD2'
  generalize upd H5 D2 (.lst (ts.map V.ref++us.map V.ref))=H6 at s15 tp hpr hbl nb0 ⊢
  have lp:=tp.len
  rw [List.length_map] at lp
  refine ⟨_,rfl,D2,rfl,⟨_,SqL.of hpr⟩,for_list (K:=K) (a:=D2) (xs:=(ts++us).map V.ref) (fun i σ H'=>∃v3 v4,σ = [some (.ref b),some (.ref D),some (.ref D2),v3,v4,none,none]∧Same H H'∧H' D=some (.lst (as.map V.ref))∧H' D2=some (.lst ((ts++us).map V.ref))∧TupsAt H' (ts++us) ((pairsB B).map pr2)∧NbAt H' as (nb ((pairsB B).take i)))
    ⟨none,none,rfl,s15,hbl,hpr,tp,nb0⟩ (fun i σ H' _ ⟨_,_,_,_,_,h,_⟩=>SqL.of h) ?_ ?_⟩
  · rintro i y σ H7 hi ⟨v3,v4,rfl,s7,hbl7,hpr7,tp7,nb7⟩
    rw [List.getElem?_map,Option.map_eq_some_iff] at hi
    obtain ⟨a,ha,rfl⟩:=hi
    obtain ⟨r,hr',hat⟩:=tp7.get ha
    rw [List.getElem?_map,Option.map_eq_some_iff] at hr'
    obtain ⟨x,hx,rfl⟩:=hr'
    obtain ⟨hx1,hx2⟩:=hP x (List.mem_of_getElem? hx)
    have hx1':=hx1
    have hx2':=hx2
    unfold IsP at hx1' hx2'
    obtain ⟨a1,ha1⟩:∃a1,as[x.1.toNat]? = some a1:=⟨_,List.getElem?_eq_getElem (by omega)⟩
    obtain ⟨a2,ha2⟩:∃a2,as[x.2.toNat]? = some a2:=⟨_,List.getElem?_eq_getElem (by omega)⟩
    have b1:=nb_len ((pairsB B).take i)
    have b2:((pairsB B).take i).length≤600:=by
      rw [List.length_take];unfold pairsB;rw [List.length_append,List.length_map];omega
    have f1:=nb7 _ _ ha1
    refine ⟨a,[.int x.1,.int x.2],rfl,SqT.of hat,rfl,_,_,rfl,_,_,rfl,rfl,?_⟩
    refine ⟨_,rfl,_,rfl,_,_,_,_,rfl,rfl,SqL.of hbl7,at_of (j:=x.1.toNat) (v:=V.ref a1) (by omega) (by rw [List.getElem?_map,ha1];rfl),.inl ⟨rfl,_,SqL.of f1⟩,_,rfl,a1,_,_,rfl,rfl,f1,(by have:=b1 x.1.toNat;rw [List.length_map];exact Nat.lt_of_le_of_lt (show _≤1200 by omega) (by decide)),?_⟩
    have nb8:=nb7.app e3 ha1 x.2
    have na1:a1∈as:=List.mem_of_getElem? ha1
    have s8:Same H (upd H7 a1 (.lst ((nb ((pairsB B).take i) x.1.toNat).map V.int++[.int x.2]))):=s7.put (t a1 na1).2.1
    have hbl8:upd H7 a1 (.lst ((nb ((pairsB B).take i) x.1.toNat).map V.int++[.int x.2])) D=some (.lst (as.map V.ref)):=by rw [upd_ne (fun z=>nD (by rw [z];exact na1))];exact hbl7
    have hpr8:upd H7 a1 (.lst ((nb ((pairsB B).take i) x.1.toNat).map V.int++[.int x.2])) D2=some (.lst ((ts++us).map V.ref)):=by rw [upd_ne (fun z=>nD2 (by rw [z];exact na1))];exact hpr7
    have tp8:=tp7.but (H':=upd H7 a1 (.lst ((nb ((pairsB B).take i) x.1.toNat).map V.int++[.int x.2]))) f1 fun c o ne q=>by rw [upd_ne ne];exact q
    generalize upd H7 a1 (.lst ((nb ((pairsB B).take i) x.1.toNat).map V.int++[.int x.2]))=H8 at nb8 s8 hbl8 hpr8 tp8 ⊢
    have f2:=nb8 _ _ ha2
    have na2:a2∈as:=List.mem_of_getElem? ha2
    refine ⟨_,rfl,_,rfl,_,_,_,_,rfl,rfl,SqL.of hbl8,at_of (j:=x.2.toNat) (v:=V.ref a2) (by omega) (by rw [List.getElem?_map,ha2];rfl),.inl ⟨rfl,_,SqL.of f2⟩,_,rfl,a2,_,_,rfl,rfl,f2,(by
      have:=b1 x.2.toNat
      have e1:(if x.2.toNat=x.1.toNat then [x.2] else []).length≤1:=by split <;> simp
      rw [List.length_map,List.length_append];exact Nat.lt_of_le_of_lt (show _≤1201 by omega) (by decide)),?_⟩
    have nb9:=nb8.app e3 ha2 x.1
    refine ⟨_,_,rfl,s8.put (t a2 na2).2.1,(by rw [upd_ne (fun z=>nD (by rw [z];exact na2))];exact hbl8),(by rw [upd_ne (fun z=>nD2 (by rw [z];exact na2))];exact hpr8),tp8.but f2 (fun c o ne q=>by rw [upd_ne ne];exact q),nb9.congr fun j=>?_⟩
    rw [nb_succ hx]
    have q1:(j=x.1.toNat)↔((j:Int)=x.1):=by omega
    have q2:(j=x.2.toNat)↔((j:Int)=x.2):=by omega
    simp only [q1,q2]
  · rintro σ H7 ⟨v3,v4,rfl,s7,hbl7,hpr7,tp7,nb7⟩
    refine ⟨_,rfl,k H7 D as s7 hD hbl7 (by rw [e2,hl]) ?_⟩
    rw [List.length_map,lp,List.take_length] at nb7
    exact nb7
end
end Sb
end
section
namespace Sb
open PySem PySem.Spec PyProof.Rows L2
def Gm (B:Bd) (w:Int):Nat→Int→Prop
  | 0,p=>p∈provsW (·.home) B w
  | k + 1,p=>Gm B w k p∨∃q,Gm B w k q∧p∈nb (pairsB B) q.toNat
def First (B:Bd) (w:Int) (j:Nat) (p:Int):Prop:=Gm B w j p∧∀i,i<j→¬ Gm B w i p
section
variable {B:Bd} {w:Int}
theorem Gm.mono {i j:Nat} (h:i≤j) {p:Int} (g:Gm B w i p):Gm B w j p:=by
  induction j with
  | zero=>rwa [show i=0 by omega] at g
  | succ j ih =>
    by_cases e:i≤j
    · exact .inl (ih e)
    · rwa [show i=j + 1 by omega] at g
theorem nb_mem {l:List (Int×Int)} {j:Nat} {p:Int} (h:p∈nb l j):∃x∈l,p=x.1∨p=x.2:=by
  unfold nb at h
  obtain ⟨x,hx,h⟩:=List.mem_flatMap.mp h
  refine ⟨x,hx,?_⟩
  rcases List.mem_append.mp h with q | q
  · split at q
    · exact .inr (List.mem_singleton.mp q)
    · cases q
  · split at q
    · exact .inl (List.mem_singleton.mp q)
    · cases q
theorem Gm.isP (hP:∀x∈pairsB B,IsP B x.1∧IsP B x.2):∀{k:Nat} {p:Int},Gm B w k p→IsP B p
  | 0,p,g=>provsW_mem g
  | k + 1,p,g=>by
    rcases g with g | ⟨q,_,h⟩
    · exact Gm.isP hP g
    · obtain ⟨x,hx,e⟩:=nb_mem h
      rcases e with e | e
      · rw [e];exact (hP x hx).1
      · rw [e];exact (hP x hx).2
structure Bfs (B:Bd) (w:Int) (k:Nat) (fs:List (Int×Int)) (re:List Int):Prop where
  nd:(fs.map (·.1)).Nodup
  old:∀x∈fs,∃j:Nat,x.2=(j:Int)∧j<k∧First B w j x.1
  all:∀p j,j<k→Gm B w j p→p∈fs.map (·.1)
  re1:∀p∈re,Gm B w k p
  re2:∀p,Gm B w k p→p∈fs.map (·.1)∨p∈re
structure BfsI (B:Bd) (w:Int) (k:Nat) (done:List Int) (fs:List (Int×Int)) (fol:List Int):Prop where
  nd:(fs.map (·.1)).Nodup
  old:∀x∈fs,∃j:Nat,x.2=(j:Int)∧j≤k∧First B w j x.1
  all:∀p j,j<k→Gm B w j p→p∈fs.map (·.1)
  dn:∀p∈done,p∈fs.map (·.1)
  fol1:∀p∈fol,Gm B w (k + 1) p
  fol2:∀x∈fs,x.2=(k:Int)→∀q∈nb (pairsB B) x.1.toNat,q∈fol
  len:fol.length≤1200 * fs.length
theorem Bfs.start:Bfs B w 0 [] (provsW (·.home) B w):=⟨.nil,fun _ h=>(nomatch h),fun _ _ h=>(nomatch h),fun p h=>h,fun p h=>.inr h⟩
theorem Bfs.begin {k:Nat} {fs:List (Int×Int)} {re:List Int} (b:Bfs B w k fs re):BfsI B w k [] fs [] :=
  ⟨b.nd,fun x hx=>let ⟨j,h1,h2,h3⟩:=b.old x hx;⟨j,h1,Nat.le_of_lt h2,h3⟩,b.all,fun _ h=>(nomatch h),fun _ h=>(nomatch h),fun x hx e=>by
    obtain ⟨j,h1,h2,_⟩:=b.old x hx
    omega,Nat.zero_le _⟩
theorem BfsI.skip {k:Nat} {done:List Int} {fs:List (Int×Int)} {fol:List Int} (b:BfsI B w k done fs fol) {p:Int} (h:p∈fs.map (·.1)):BfsI B w k (done++[p]) fs fol :=
  ⟨b.nd,b.old,b.all,fun q hq=>(List.mem_append.mp hq).elim (b.dn q) (fun z=>by rw [List.mem_singleton.mp z];exact h),b.fol1,b.fol2,b.len⟩
theorem BfsI.take {k:Nat} {done:List Int} {fs:List (Int×Int)} {fol:List Int} (b:BfsI B w k done fs fol) {p:Int} (h:p∉fs.map (·.1)) (hg:Gm B w k p) (hl:(nb (pairsB B) p.toNat).length≤1200) :
    BfsI B w k (done++[p]) (fs++[(p,(k:Int))]) (fol++nb (pairsB B) p.toNat):=by
  have hm:∀q,q∈fs.map (·.1)→q∈(fs++[(p,(k:Int))]).map (·.1):=fun q hq=>by rw [List.map_append];exact List.mem_append_left _ hq
  refine ⟨?_,fun x hx=>?_,fun q j hj g=>hm q (b.all q j hj g),fun q hq=>?_,fun q hq=>?_,fun x hx e q hq=>?_,?_⟩
  · rw [List.map_append];exact nd_snoc b.nd h
  · rcases List.mem_append.mp hx with z | z
    · exact b.old x z
    · rw [List.mem_singleton.mp z]
      exact ⟨k,rfl,Nat.le_refl _,hg,fun i hi g=>h (b.all p i hi g)⟩
  · rcases List.mem_append.mp hq with z | z
    · exact hm q (b.dn q z)
    · rw [List.mem_singleton.mp z,List.map_append];exact List.mem_append_right _ (List.mem_singleton.mpr rfl)
  · rcases List.mem_append.mp hq with z | z
    · exact b.fol1 q z
    · exact .inr ⟨p,hg,z⟩
  · rcases List.mem_append.mp hx with z | z
    · exact List.mem_append_left _ (b.fol2 x z e q hq)
    · rw [List.mem_singleton.mp z] at hq
      exact List.mem_append_right _ hq
  · rw [List.length_append,List.length_append,List.length_singleton]
    have:=b.len
    omega
theorem BfsI.finish {k:Nat} {fs0 fs:List (Int×Int)} {re fol:List Int} (b0:Bfs B w k fs0 re) (b:BfsI B w k re fs fol) (hk:∀p∈fs0.map (·.1),p∈fs.map (·.1)):Bfs B w (k + 1) fs fol:=by
  have all:∀p j,j<k + 1→Gm B w j p→p∈fs.map (·.1):=fun p j hj g=>by
    by_cases e:j<k
    · exact b.all p j e g
    · have:j=k:=by omega
      subst this
      rcases b0.re2 p g with z | z
      · exact hk p z
      · exact b.dn p z
  refine ⟨b.nd,fun x hx=>?_,all,b.fol1,fun p g=>?_⟩
  · obtain ⟨j,h1,h2,h3⟩:=b.old x hx
    exact ⟨j,h1,by omega,h3⟩
  · rcases g with g | ⟨q,g,hq⟩
    · exact .inl (all p k (by omega) g)
    · obtain ⟨x,hx,e⟩:=List.mem_map.mp (all q k (by omega) g)
      obtain ⟨j,h1,h2,h3,_⟩:=b.old x hx
      by_cases ej:j=k
      · exact .inr (b.fol2 x hx (by rw [h1,ej]) p (by rw [e];exact hq))
      · refine .inl (all p k (by omega) (Gm.mono (show j + 1≤k by omega) (.inr ⟨x.1,h3,by rw [e];exact hq⟩)))
structure DistOk (B:Bd) (w:Int) (fs:List (Int×Int)):Prop where
  nd:(fs.map (·.1)).Nodup
  old:∀x∈fs,∃j:Nat,x.2=(j:Int)∧First B w j x.1
  all:∀p j,Gm B w j p→p∈fs.map (·.1)
theorem Bfs.end_ {k:Nat} {fs:List (Int×Int)} (b:Bfs B w k fs []):DistOk B w fs:=by
  have hk:∀p,Gm B w k p→p∈fs.map (·.1):=fun p g=>(b.re2 p g).resolve_right (fun h=>nomatch h)
  refine ⟨b.nd,fun x hx=>let ⟨j,h1,_,h3⟩:=b.old x hx;⟨j,h1,h3⟩,fun p j g=>?_⟩
  by_cases e:j≤k
  · exact hk p (g.mono e)
  · obtain ⟨m,rfl⟩:∃m,j=k + m:=⟨j - k,by omega⟩
    clear e
    induction m generalizing p with
    | zero=>exact hk p g
    | succ m ih =>
      rcases g with g | ⟨q,g,hq⟩
      · exact ih p g
      · obtain ⟨x,hx,e⟩:=List.mem_map.mp (ih q g)
        obtain ⟨i,h1,h2,h3,_⟩:=b.old x hx
        exact hk p (Gm.mono (show i + 1≤k by omega) (.inr ⟨x.1,h3,by rw [e];exact hq⟩))
theorem nodup_le:∀(n:Nat) (l:List Nat),l.Nodup→(∀x∈l,x<n)→l.length≤n
  | 0,l,_,h=>by
    cases l with
    | nil=>exact Nat.le_refl _
    | cons a l=>exact absurd (h a List.mem_cons_self) (Nat.not_lt_zero _)
  | n + 1,l,hd,h=>by
    have ih:=nodup_le n (l.erase n) (hd.erase n) fun x hx=>by
      have h1:=h x (List.mem_of_mem_erase hx)
      have h2:x≠n:=fun e=>by rw [e] at hx;exact hd.not_mem_erase hx
      omega
    have:=List.length_erase (a:=n) (l:=l)
    split at this <;> omega
theorem keys_le {fs:List (Int×Int)} (nd:(fs.map (·.1)).Nodup) (h:∀x∈fs,IsP B x.1):fs.length≤B.provs.length:=by
  have h1:=nodup_le B.provs.length ((fs.map (·.1)).map Int.toNat) ?_ ?_
  · rwa [List.length_map,List.length_map] at h1
  · unfold List.Nodup
    rw [List.pairwise_map]
    refine List.Pairwise.imp_of_mem (fun {a b} ha hb ne e=>?_) nd
    obtain ⟨x,hx,rfl⟩:=List.mem_map.mp ha
    obtain ⟨y,hy,rfl⟩:=List.mem_map.mp hb
    have p1:=h x hx
    have p2:=h y hy
    unfold IsP at p1 p2
    exact ne (by omega)
  · intro z hz
    obtain ⟨q,hq,rfl⟩:=List.mem_map.mp hz
    obtain ⟨x,hx,rfl⟩:=List.mem_map.mp hq
    have p1:=h x hx
    unfold IsP at p1
    omega
end
end Sb
end
section
namespace Sb
open PySem PySem.Spec PyProof.Rows L2
section
variable {P:Program} {w:World} {K:PySem.W.Frag} {mg:Str→Option Value} {base:Heap}
def kD (x:Int×Int):Key×V:=(Sum.inl x.1,.int x.2)
theorem valD (l:List (Int×Int)) (p:Int):valV (l.map kD) (Sum.inl p)=(look l p).map V.int:=by
  induction l with
  | nil=>rfl
  | cons a l ih =>
    rw [List.map_cons]
    unfold look at ih ⊢
    by_cases q:a.1=p
    · rw [valV_pos (by show Sum.inl a.1=_;rw [q]),List.find?_cons,decide_eq_true q];rfl
    · rw [valV_neg (fun z=>q (Sum.inl.inj z)),ih,List.find?_cons,decide_eq_false q]
theorem look_keys {l:List (Int×Int)} {p:Int}:(look l p).isSome=true↔p∈l.map (·.1):=by
  cases e:look l p with
  | none =>
    have:=look_none.mp e
    refine ⟨fun h=>(nomatch h),fun h=>?_⟩
    obtain ⟨x,hx,q⟩:=List.mem_map.mp h
    exact absurd q (this x hx)
  | some v=>exact ⟨fun _=>List.mem_map.mpr ⟨_,look_some_mem e,rfl⟩,fun _=>rfl⟩
structure BOk (B:Bd):Prop where
  n:B.provs.length≤40
  la:B.land.length≤300
  se:B.sea.length≤300
  pp:∀x∈pairsB B,IsP B x.1∧IsP B x.2
def sp_distances (K:PySem.W.Frag) (mg:Str→Option Value):Sp:=fun vs H Q _=>∃(b:Addr) (A:Ads) (B:Bd) (w:Int),vs=[.ref b,.int w]∧BdAt mg H b A B∧Wr H A∧BOk B ∧
  ∀H' d fs,Same H H'→H d=none→H' d=some (.dK (fs.map kD))→DistOk B w fs→fs.length≤40→Q (.ref d) H'
theorem sc_distances:FnScope ["board", "power", "beside", "found", "reached", "steps", "following", "p", "one"] ["board", "power"] (defScope s_distances):=⟨rfl,rfl,rfl,by decide +kernel,rfl,by decide +kernel,by decide +kernel⟩
theorem ok_distances (T:Txt K mg):Def P w K mg base "distances" 2 ["board", "power"] (sp_distances K mg):=by
  obtain ⟨f,fd,hm,F,hb⟩:=T.f_distances
  refine ⟨f,hm,F.kp,fd,F.ok sc_distances (fun vs H Q E h=>?_) (fun cdv A outer s H vs Q E hr h=>?_),hb⟩
  · obtain ⟨b,A0,B,w',rfl,_⟩:=h;rfl
  obtain ⟨b,A0,B,w',rfl,hB,hW,ok,k⟩:=h
  have hu:=hu_of hr
  have hu64:=hu64_of hr
  have nd:=sc_distances.nd
  refine ⟨_,(pss_cons (ps_set (i:=2) nd rfl (Or.inl rfl) (cl (ok_linked_provinces T) (hr.mono (by decide)) (pa_cons (pv 0) pa_nil)))
 (pss_cons (ps_set (i:=3) nd rfl (Or.inl rfl) pe_dnewK)
 (pss_cons (ps_setLc (i:=4) (own:=[("p", 7),("one", 8)]) rfl nd rfl rfl (sw_true rfl rfl rfl rfl) (pi_enum rfl T.n_enumerate (pa_cons (pe_fld (pv 0) (by rfl)) pa_nil)) (blkOk_by (by rfl)) (fun _ _ _ _ _=>(pg_tupK (n:=2) K rfl rfl (pgs_cons (pg_name (i:=7) nd rfl (Or.inl rfl)) (pgs_cons (pg_name (i:=8) nd rfl (Or.inl rfl)) pgs_nil)))) (fun _ _ _ _ _=>pts_one (pt_cmpR op_eq (pe_fldK K rfl (pv 8) (by rfl)) (pv 1) (nomark _))) (fun _ _ _ _ _=>(pv 7)))
 (pss_cons (ps_set (i:=5) nd rfl (Or.inl rfl) pe_int)
 (pss_cons (ps_while PassesOwn.never (pt_cmpR op_gt (pe_callB call_len_seq (by rfl) T.n_len PySem.boot_len (pa_cons (pv 4) pa_nil)) pe_int (nomark _))
  (pss_cons (ps_set (i:=6) nd rfl (Or.inl rfl) (pe_lst pa_nil))
 (pss_cons (ps_for PassesOwn.never rfl (pi_list (pv 4)) (pg_name (i:=7) nd rfl (Or.inl rfl))
  (pss_one (ps_if (pt_cmp (pc_dnotin hu (pv 7) (pv 3)) (by with_unfolding_all rfl))
  (pss_cons (ps_dput hu (pv 3) (pv 7) (pv 5) rfl)
 (pss_one (ps_expr (pe_bm PySem.F.plainAttrs_list PySem.F.slot_list_extend PySem.F.type_list_extend mt_extend (pv 6) (pa_cons (pe_ix ix_list (pv 2) (pv 7) (fun _ _=>rfl)) pa_nil)))))
  pss_nil)))
 (pss_cons (ps_set (i:=4) nd rfl (Or.inl rfl) (pv 6))
 (pss_one (ps_aug (i:=5) nd rfl (Or.inl rfl) pe_int ip_add))))))
 (pss_one (ps_ret (pv 3)))))))),?_⟩
  have hl:=hB.plen
  refine ⟨_,rfl,b,A0,B,rfl,hB,hW,ok.n,ok.la,ok.se,ok.pp,fun H1 l as s1 hl1 hL hlen hnb=>?_⟩
  intro d hd
  have sd:Same H1 (upd H1 d (.dK [])):=Same.mk hd
  have s2:Same H (upd H1 d (.dK [])):=s1.trans sd
  have hL2:=sd _ _ hL
  have hnb2:NbAt (upd H1 d (.dK [])) as (nb (pairsB B)):=fun i a hi=>sd _ _ (hnb i a hi)
  have hd2:upd H1 d (.dK []) d=some (.dK (([]:List (Int×Int)).map kD)):=upd_same
  have hdn:H d=none:=s1.free hd
  generalize upd H1 d (.dK [])=H2 at s2 hL2 hnb2 hd2 ⊢
  have hB2:=hB.same s2
  refine ⟨_,rfl,_,_,_,_,_,rfl,hB2.obj,T.k_Board,T.n_Board_provinces,rfl,_,_,rfl,SqL.of hB2.pl,fun D hD=>lc_acc (n:=A0.ps.length) hD (by have:=ok.n;omega) (fun i acc H'=>acc=((List.range i).filter fun j=>decide ((B.provs[j]?.map (·.home))=some w')).map fun j=>V.int (j:Nat)) (fun i acc H1 H2 hd s t=>t)
    (fun i H1 hi s1=>⟨_,.ref A0.ps[i],SqL.of (s1 _ _ hB2.pl),by rw [List.getElem?_map,List.getElem?_eq_getElem hi];rfl⟩) (fun H1 s1=>⟨_,SqL.of (s1 _ _ hB2.pl),by rw [List.length_map];exact Nat.le_refl _⟩) rfl ?_ ?_⟩
  · rintro i y H3 H3' acc Nx hi s3 hDl rfl ⟨z,v,rfl,hz,rfl,hy⟩ kN kY
    have hB1:=hB2.same s3
    have hy:=hy _ (SqL.of hB1.pl)
    rw [List.getElem?_map,Option.map_eq_some_iff] at hy
    obtain ⟨a,ha,rfl⟩:=hy
    obtain ⟨x,hx,dx,hP⟩:=paired_get hB1.pa ha
    have s2:Same H3 (upd H3 z (.tup [.int (i:Nat),.ref a])):=Same.mk hz
    have hP2:=s2 _ _ hP
    have e0:(decide ((B.provs[i]?.map (·.home))=some w')=true)↔(decide (x.home=w')=true):=by
      rw [hx,decide_eq_true_iff,decide_eq_true_iff]
      exact ⟨fun z=>Option.some.inj z,fun z=>congrArg some z⟩
    refine ⟨_,_,rfl,SqT.of upd_same,rfl,_,_,rfl,_,_,rfl,rfl,rfl,_,rfl,_,_,_,_,_,rfl,hP2,T.k_Province,T.n_Province_home,rfl,_,rfl,rfl,_,rfl,?_⟩
    rw [decV]
    refine ite2 (fun e=>?_) (fun e=>?_)
    · refine ⟨_,rfl,kY _ _ s2 ?_⟩
      rw [range_filter_succ,if_pos (e0.mpr e),List.map_append]
      rfl
    · refine kN _ s2 ?_
      rw [range_filter_succ,if_neg (fun z=>e (e0.mp z)),List.append_nil]
  rintro H3 acc s3 hacc rfl
  have hre:H3 D=some (.lst ((provsW (·.home) B w').map V.int)):=by
    rw [hacc,hl];unfold provsW;rw [List.map_map];rfl
  have s23:=s2.trans s3
  refine ⟨fun m σ H'=>∃(fs:List (Int×Int)) (re:List Int) (c:Nat) (r:Addr) (v6 v7:Option V),σ = [some (.ref b),some (.int w'),some (.ref l),some (.ref d),some (.ref r),some (.int (c:Nat)),v6,v7,none]∧Same H H'∧H' d=some (.dK (fs.map kD))∧H' r=some (.lst (re.map V.int)) ∧
    H' l=some (.lst (as.map V.ref))∧NbAt H' as (nb (pairsB B))∧Bfs B w' c fs re∧m=2 * (B.provs.length - fs.length) + (if re=[] then 0 else 1),
    ⟨_,[],_,0,D,none,none,rfl,s23,s3 _ _ hd2,hre,s3 _ _ hL2,fun i a hi=>s3 _ _ (hnb2 i a hi),Bfs.start,rfl⟩,?_⟩
  rintro m σ H4 ⟨fs0,re,c,r,v6,v7,rfl,s4,hd4,hr4,hl4,hnb4,bf,rfl⟩
  refine ⟨_,rfl,r,_,rfl,.inl (SqL.of hr4),_,_,rfl,rfl,_,rfl,ite2 (fun e1=>?_) (fun e1=>?_)⟩
  · have e1:re≠[]:=fun z=>by
      have:=of_decide_eq_true e1
      rw [z] at this
      exact absurd this (by decide)
    rw [if_neg e1]
    refine ⟨fun σ' H'=>∃m',m' < 2 * (B.provs.length - fs0.length) + 1∧∃(fs:List (Int×Int)) (re:List Int) (c:Nat) (r:Addr) (v6 v7:Option V),σ' = [some (.ref b),some (.int w'),some (.ref l),some (.ref d),some (.ref r),some (.int (c:Nat)),v6,v7,none]∧Same H H'∧H' d=some (.dK (fs.map kD))∧H' r=some (.lst (re.map V.int)) ∧
      H' l=some (.lst (as.map V.ref))∧NbAt H' as (nb (pairsB B))∧Bfs B w' c fs re∧m' = 2 * (B.provs.length - fs.length) + (if re=[] then 0 else 1),fun _ _ h=>h,?_⟩
    refine ⟨Nat.zero_le _,fun z hz=>?_⟩
    have sz:Same H4 (upd H4 z (.lst [])):=Same.mk hz
    have hzn:H z=none:=s4.free hz
    have nzr:r≠z:=ne_of_none hr4 hz
    have nzl:l≠z:=ne_of_none hl4 hz
    have nza:∀a∈as,a≠z:=fun a ha=>by
      obtain ⟨i,hi⟩:=List.mem_iff_getElem?.mp ha
      exact ne_of_none (hnb4 i a hi) hz
    refine ⟨_,rfl,r,rfl,⟨_,SqL.of (sz _ _ hr4)⟩,for_list (K:=K) (a:=r) (xs:=re.map V.int) (fun i σ H'=>∃(fs:List (Int×Int)) (fol:List Int) (v7:Option V),σ = [some (.ref b),some (.int w'),some (.ref l),some (.ref d),some (.ref r),some (.int (c:Nat)),some (.ref z),v7,none]∧Same H H'∧H' d=some (.dK (fs.map kD)) ∧
        H' r=some (.lst (re.map V.int))∧H' l=some (.lst (as.map V.ref))∧NbAt H' as (nb (pairsB B))∧H' z=some (.lst (fol.map V.int))∧BfsI B w' c (re.take i) fs fol∧(∀p∈fs0.map (·.1),p∈fs.map (·.1))∧fs0.length≤fs.length∧(fol=[]∨fs0.length<fs.length))
      ⟨fs0,[],v7,rfl,s4.trans sz,sz _ _ hd4,sz _ _ hr4,sz _ _ hl4,fun i a hi=>sz _ _ (hnb4 i a hi),upd_same,bf.begin,fun _ h=>h,Nat.le_refl _,.inl rfl⟩ (fun i σ H' _ ⟨_,_,_,_,_,_,h,_⟩=>SqL.of h) ?_ ?_⟩
    · rintro i y σ H5 hi ⟨fs,fol,v7,rfl,s5,hd5,hr5,hl5,hnb5,hz5,bi,hk5,hle5,hf5⟩
      rw [List.getElem?_map,Option.map_eq_some_iff] at hi
      obtain ⟨p,hp,rfl⟩:=hi
      have gp:Gm B w' c p:=bf.re1 p (List.mem_of_getElem? hp)
      have ip:=gp.isP ok.pp
      have etake:re.take (i + 1)=re.take i++[p]:=by rw [List.take_add_one,hp];rfl
      have isPs:∀x∈fs,IsP B x.1:=fun x hx=>by
        obtain ⟨j,_,_,h3,_⟩:=bi.old x hx
        exact h3.isP ok.pp
      have fle:=keys_le bi.nd isPs
      have n40:=ok.n
      refine ⟨_,rfl,_,rfl,_,_,rfl,dgetK (.inl hd5) p,_,rfl,?_⟩
      rw [valD,Option.isSome_map]
      refine ite2 (fun e2=>?_) (fun e2=>?_)
      · have e2:p∉fs.map (·.1):=fun m=>by
          rw [look_keys.mpr m] at e2
          exact absurd e2 (by decide)
        have en:valV (fs.map kD) (Sum.inl p)=none:=by
          rw [valD]
          cases q:look fs p with
          | none=>rfl
          | some v=>exact absurd (look_keys.mp (by rw [q];rfl)) e2
        have ip':=ip
        unfold IsP at ip'
        obtain ⟨a,ha⟩:∃a,as[p.toNat]? = some a:=⟨_,List.getElem?_eq_getElem (by omega)⟩
        refine ⟨_,rfl,_,rfl,_,rfl,_,_,rfl,DPut.k (k:=Sum.inl p) hd5 (by rw [List.length_map];exact Nat.lt_of_le_of_lt (show _≤40 by omega) (by decide)),?_⟩
        rw [putK_new _ en]
        have hd6:upd H5 d (.dK (fs.map kD++[(Sum.inl p,.int (c:Nat))])) d=some (.dK ((fs++[(p,(c:Int))]).map kD)):=by rw [List.map_append];exact upd_same
        have lk:∀a xs,H5 a=some (.lst xs)→upd H5 d (.dK (fs.map kD++[(Sum.inl p,.int (c:Nat))])) a=some (.lst xs):=fun a xs e=>by rw [upd_ne (ne_of e hd5 (fun z=>nomatch z))];exact e
        have s6:Same H (upd H5 d (.dK (fs.map kD++[(Sum.inl p,.int (c:Nat))]))):=s5.put hdn
        have hr6:=lk _ _ hr5
        have hl6:=lk _ _ hl5
        have hz6:=lk _ _ hz5
        have hnb6:NbAt (upd H5 d (.dK (fs.map kD++[(Sum.inl p,.int (c:Nat))]))) as (nb (pairsB B)):=fun i a hi=>lk _ _ (hnb5 i a hi)
        generalize upd H5 d (.dK (fs.map kD++[(Sum.inl p,.int (c:Nat))]))=H6 at hd6 s6 hr6 hl6 hz6 hnb6 ⊢
        have fa:=hnb6 _ _ ha
        have b1:=nb_len (pairsB B) p.toNat
        have b2:(pairsB B).length≤600:=by
          have h1:=ok.la
          have h2:=ok.se
          unfold pairsB;rw [List.length_append,List.length_map];omega
        have b3:=bi.len
        refine ⟨_,rfl,.inl ⟨rfl,_,SqL.of hz6⟩,_,rfl,_,rfl,_,_,_,_,rfl,rfl,SqL.of hl6,at_of (j:=p.toNat) (v:=V.ref a) (by omega) (by rw [List.getElem?_map,ha];rfl),z,a,_,_,rfl,rfl,hz6,fa,(by rw [List.length_map,List.length_map];exact Nat.le_trans (show _≤50000 by omega) (by decide)),?_⟩
        refine ⟨fs++[(p,(c:Int))],fol++nb (pairsB B) p.toNat,_,rfl,s6.put hzn,?_,?_,?_,fun i c hi=>?_,?_,?_,fun q hq=>?_,?_,.inr ?_⟩
        · rw [upd_ne (ne_of hd6 hz6 (fun z=>nomatch z))];exact hd6
        · rw [upd_ne nzr];exact hr6
        · rw [upd_ne nzl];exact hl6
        · rw [upd_ne (nza c (List.mem_of_getElem? hi))];exact hnb6 i c hi
        · rw [upd_same,List.map_append]
        · rw [etake];exact bi.take e2 gp (by omega)
        · rw [List.map_append];exact List.mem_append_left _ (hk5 q hq)
        · rw [List.length_append];omega
        · rw [List.length_append,List.length_singleton];omega
      · have e2:p∈fs.map (·.1):=by
          rw [← look_keys]
          cases q:look fs p with
          | none=>rw [q] at e2;exact absurd rfl e2
          | some v=>rfl
        refine ⟨fs,fol,_,rfl,s5,hd5,hr5,hl5,hnb5,hz5,?_,hk5,hle5,hf5⟩
        rw [etake];exact bi.skip e2
    · rintro σ H5 ⟨fs,fol,v7,rfl,s5,hd5,hr5,hl5,hnb5,hz5,bi,hk5,hle5,hf5⟩
      rw [List.length_map,List.take_length] at bi
      have isPs:∀x∈fs,IsP B x.1:=fun x hx=>by
        obtain ⟨j,_,_,h3,_⟩:=bi.old x hx
        exact h3.isP ok.pp
      have fle:=keys_le bi.nd isPs
      refine ⟨_,rfl,_,rfl,_,_,rfl,rfl,_,?_,fs,fol,c + 1,z,_,_,rfl,s5,hd5,hz5,hl5,hnb5,bi.finish bf hk5,rfl⟩
      by_cases q:fol=[]
      · rw [if_pos q];omega
      · rw [if_neg q]
        have:=hf5.resolve_left q
        omega
  · have e1:re=[]:=by
      cases re with
      | nil=>rfl
      | cons a t=>exact absurd (decide_eq_true (by show (0:Int)<((((a::t).map V.int).length:Nat):Int);rw [List.length_map,List.length_cons];omega)) e1
    subst e1
    have dk:=bf.end_
    have isPs:∀x∈fs0,IsP B x.1:=fun x hx=>by
      obtain ⟨j,_,h3,_⟩:=dk.old x hx
      exact h3.isP ok.pp
    have fle:=keys_le dk.nd isPs
    have n40:=ok.n
    exact ⟨_,rfl,k H4 d fs0 s4 hdn hd4 dk (by omega)⟩
end
end Sb
end
section
namespace Sb
open PySem PySem.Spec PyProof.Rows L2
section
variable {P:Program} {w:World} {K:PySem.W.Frag} {mg:Str→Option Value} {base:Heap}
def rk (fs:List (Int×Int)) (u:Unt):I3:=(-((look fs u.prov).getD 40),-u.fleet,u.prov)
def IsDis (B:Bd) (w:Int) (l:List Int):Prop:=∃(fs:List (Int×Int)) (us:List Unt),DistOk B w fs∧us.Perm (unitsW B.units w)∧us.Pairwise (fun a b=>¬ lt3 (rk fs b) (rk fs a))∧l=us.map (·.prov)
def sp_rank_in_disorder (K:PySem.W.Frag) (mg:Str→Option Value):Sp:=fun vs H Q _=>∃(a d:Addr) (u:Unt) (fs:List (Int×Int)),vs=[.ref a,.ref d]∧UnAt mg H a u∧H d=some (.dK (fs.map kD)) ∧
  ∀z,H z=none→Q (.ref z) (upd H z (.tup [.int (rk fs u).1,.int (rk fs u).2.1,.int (rk fs u).2.2]))
theorem sc_rank_in_disorder:FnScope ["unit", "found"] ["unit", "found"] (defScope s_rank_in_disorder):=⟨rfl,rfl,rfl,by decide +kernel,rfl,by decide +kernel,by decide +kernel⟩
theorem ok_rank_in_disorder (T:Txt K mg):Def P w K mg base "rank_in_disorder" 1 ["unit", "found"] (sp_rank_in_disorder K mg):=by
  obtain ⟨f,fd,hm,F,hb⟩:=T.f_rank_in_disorder
  refine ⟨f,hm,F.kp,fd,F.ok sc_rank_in_disorder (fun vs H Q E h=>?_) (fun cdv A outer s H vs Q E hr h=>?_),hb⟩
  · obtain ⟨a,d,u,fs,rfl,_⟩:=h;rfl
  obtain ⟨a,d,u,fs,rfl,hU0,hd,k⟩:=h
  have hu:=hu_of hr
  have hu64:=hu64_of hr
  have nd:=sc_rank_in_disorder.nd
  refine ⟨_,(pss_one (ps_ret (pe_tup (pa_cons (pe_un un_neg (pe_dget2 hu (pv 1) (pe_fld (pv 0) (by rfl)) (pg T.g_MOST_PROVINCES) ⟨rfl,rfl,rfl,rfl⟩)) (pa_cons (pe_un un_neg (pe_fld (pv 0) (by rfl))) (pa_cons (pe_fld (pv 0) (by rfl)) pa_nil)))))),?_⟩
  obtain ⟨dx,hU⟩:=hU0
  refine ⟨_,rfl,_,rfl,.inl ⟨_,.inl hd⟩,_,rfl,_,_,_,_,_,rfl,hU,T.k_Unit,T.n_Unit_province,rfl,_,dgetK (.inl hd) u.prov,(look fs u.prov).getD 40,?_,?_⟩
  · rw [valD]
    cases look fs u.prov <;> rfl
  exact ⟨_,rfl,_,_,_,_,_,rfl,hU,T.k_Unit,T.n_Unit_fleet,rfl,_,rfl,_,rfl,_,_,_,_,_,rfl,hU,T.k_Unit,T.n_Unit_province,rfl,(by show 3≤sizeLine;decide),fun z hz=>k z hz⟩
def sp_disorder_of (K:PySem.W.Frag) (mg:Str→Option Value):Sp:=fun vs H Q _=>∃(b:Addr) (A:Ads) (B:Bd) (w:Int),vs=[.ref b,.int w]∧BdAt mg H b A B∧Wr H A∧BOk B∧B.units.length≤24∧∀l,IsDis B w l→l.length≤24→spL H l Q
theorem sc_disorder_of:FnScope ["board", "power", "found", "ranks", "unit", "rank"] ["board", "power"] (defScope s_disorder_of):=⟨rfl,rfl,rfl,by decide +kernel,rfl,by decide +kernel,by decide +kernel⟩
theorem ok_disorder_of (T:Txt K mg):Def P w K mg base "disorder_of" 3 ["board", "power"] (sp_disorder_of K mg):=by
  obtain ⟨f,fd,hm,F,hb⟩:=T.f_disorder_of
  refine ⟨f,hm,F.kp,fd,F.ok sc_disorder_of (fun vs H Q E h=>?_) (fun cdv A outer s H vs Q E hr h=>?_),hb⟩
  · obtain ⟨b,A0,B,w',rfl,_⟩:=h;rfl
  obtain ⟨b,A0,B,w',rfl,hB,hW,ok,hn,k⟩:=h
  have hu:=hu_of hr
  have hu64:=hu64_of hr
  have nd:=sc_disorder_of.nd
  refine ⟨_,(pss_cons (ps_set (i:=2) nd rfl (by first | exact Or.inl rfl | exact Or.inr rfl) (cl (ok_distances T) (hr.mono (by decide)) (pa_cons (pv 0) (pa_cons (pv 1) pa_nil))))
 (pss_cons (ps_setLc (i:=3) (own:=[("unit", 4)]) rfl nd rfl rfl (sw_true rfl rfl rfl rfl) (pi_list (cl (ok_units_of T) (hr.mono (by decide)) (pa_cons (pv 0) (pa_cons (pv 1) pa_nil)))) (blkOk_by (by rfl)) (fun _ _ _ _ _=>(pg_name (i:=4) nd rfl (Or.inl rfl))) (fun _ _ _ _ _=>pts_nil) (fun _ _ _ _ _=>(cl (ok_rank_in_disorder T) (hr.mono (by decide)) (pa_cons (pv 4) (pa_cons (pv 2) pa_nil)))))
 (pss_one (ps_ret (pe_lc (own:=[("rank", 5)]) rfl nd (pi_list (pe_callB cr_sortedT (by rfl) T.n_sorted boot_sorted (pa_cons (pv 3) pa_nil))) (blkOk_by (by rfl)) (fun _ _ _ _ _=>(pg_name (i:=5) nd rfl (Or.inl rfl))) (fun _ _ _ _ _=>pts_nil) (fun _ _ _ _ _=>(pe_ix (ix_tupK K rfl) (pv 5) pe_int (fun _ _=>rfl)))))))),?_⟩
  refine ⟨_,rfl,_,rfl,b,A0,B,w',rfl,hB,hW,ok,fun H1 d fs s1 hd hd1 dk fle=>?_⟩
  have hB1:=hB.same s1
  have hW1:=hW.same hB s1
  refine ⟨_,rfl,_,rfl,b,A0,B,w',rfl,hB1,hW1,hn,fun H2 p as s2 hp hL hU=>?_⟩
  have hlen:as.length=(unitsW B.units w').length:=Paired.length hU
  have hlu:(unitsW B.units w').length≤24:=by
    unfold unitsW;rw [List.length_map]
    exact Nat.le_trans (List.length_filter_le _ _) hn
  have hd2:=s2 _ _ hd1
  refine ⟨_,rfl,⟨_,SqL.of hL⟩,fun D hD=>lc_acc (n:=as.length) hD (by omega) (fun i acc H'=>∃ts:List (Addr×I3),acc=ts.map (fun x=>V.ref x.1)∧(∀x∈ts,H' x.1=some (.tup [.int x.2.1,.int x.2.2.1,.int x.2.2.2]))∧ts.map (·.2)=((unitsW B.units w').take i).map (rk fs))
    (fun i acc H1 H2 hd s ⟨ts,e,t,q⟩=>⟨ts,e,fun x hx=>s _ _ (by rcases hd with z | ⟨l,z⟩;exact ne_of_none (t x hx) z;exact ne_of (t x hx) z (fun z=>nomatch z)) (t x hx),q⟩)
    (fun i H2 hi s2=>⟨_,.ref as[i],SqL.of (s2 _ _ hL),by rw [List.getElem?_map,List.getElem?_eq_getElem hi];rfl⟩) (fun H2 s2=>⟨_,SqL.of (s2 _ _ hL),by rw [List.length_map];exact Nat.le_refl _⟩) ⟨[],rfl,fun x h=>(nomatch h),rfl⟩ ?_ ?_⟩
  · rintro i y H3 H3' acc Nx hi s3 hDl ⟨ts,rfl,t,q⟩ ⟨rfl,hy⟩ kN kY
    have hy:=hy _ (SqL.of (s3 _ _ hL))
    rw [List.getElem?_map,Option.map_eq_some_iff] at hy
    obtain ⟨a,ha,rfl⟩:=hy
    obtain ⟨u,hu',hU1⟩:=paired_get hU ha
    refine ⟨rfl,⟨_,rfl,_,rfl,a,d,u,fs,rfl,hU1.mono (.of s3),s3 _ _ hd2,fun z hz=>kY _ _ (Same.mk hz) ⟨ts++[(z,rk fs u)],by rw [List.map_append];rfl,fun x hx=>?_,?_⟩⟩⟩
    · rcases List.mem_append.mp hx with m | m
      · rw [upd_ne (ne_of_none (t x m) hz)];exact t x m
      · rw [List.mem_singleton.mp m];exact upd_same
    · rw [List.take_add_one,hu',List.map_append,List.map_append,q];rfl
  rintro H3 acc s3 hacc ⟨ts,rfl,t,q⟩
  rw [hlen,List.take_length] at q
  refine ⟨_,rfl,D,ts,rfl,SqL.of hacc,t,fun ts' r hp' hs' hr'=>?_⟩
  have s4:Same H3 (upd H3 r (.lst (ts'.map fun x=>V.ref x.1))):=Same.mk hr'
  have s14:=(s1.trans (s2.trans s3)).trans s4
  have hl':ts'.length=(unitsW B.units w').length:=by
    rw [hp'.length_eq]
    have:=congrArg List.length q
    simpa using this
  refine ⟨_,rfl,⟨_,SqL.of upd_same⟩,fun E2 hE=>lc_acc (n:=ts'.length) hE (by omega) (fun i acc H'=>acc=((ts'.take i).map fun x=>x.2.2.2).map V.int) (fun i acc H1 H2 hd s t=>t)
    (fun i H2 hi s2=>⟨_,.ref ts'[i].1,SqL.of (s2 _ _ upd_same),by rw [List.getElem?_map,List.getElem?_eq_getElem hi];rfl⟩) (fun H2 s2=>⟨_,SqL.of (s2 _ _ upd_same),by rw [List.length_map];exact Nat.le_refl _⟩) rfl ?_ ?_⟩
  · rintro i y H5 H5' acc Nx hi s5 hDl rfl ⟨rfl,hy⟩ kN kY
    have hy:=hy _ (SqL.of (s5 _ _ upd_same))
    rw [List.getElem?_map,Option.map_eq_some_iff] at hy
    obtain ⟨x,hx,rfl⟩:=hy
    have hx3:=s5 _ _ (s4 _ _ (t x (hp'.mem_iff.mp (List.mem_of_getElem? hx))))
    refine ⟨rfl,⟨_,rfl,_,_,_,_,rfl,rfl,SqT.of hx3,rfl,kY _ _ (.refl _) ?_⟩⟩
    rw [List.take_add_one,hx,List.map_append,List.map_append]
    rfl
  rintro H5 acc s5 hacc5 rfl
  rw [List.take_length] at hacc5
  obtain ⟨us,hup,hue⟩:=perm_map_inv (f:=rk fs) (hp'.map (·.2)) (unitsW B.units w') q
  have e3:ts'.map (fun x=>x.2.2.2)=us.map (·.prov):=by
    have:=congrArg (List.map fun (x:I3)=>x.2.2) hue
    rw [List.map_map,List.map_map] at this
    exact this
  rw [e3] at hacc5
  refine k (us.map (·.prov)) ⟨fs,us,dk,hup,?_,rfl⟩ (by rw [List.length_map,hup.length_eq];exact hlu) H5 E2 (s14.trans s5) ((s1.trans (s2.trans s3)).free (s4.free hE)) hacc5
  have:(ts'.map (·.2)).Pairwise (fun a b=>¬ lt3 b a):=by rw [List.pairwise_map];exact hs'
  rw [hue,List.pairwise_map] at this
  exact this
def sp_disorder (K:PySem.W.Frag) (mg:Str→Option Value):Sp:=fun vs H Q _=>∃(b:Addr) (A:Ads) (B:Bd) (w:Int),vs=[.ref b,.int w]∧BdAt mg H b A B∧Wr H A∧BOk B∧B.units.length≤24∧∀l,IsDis B w l→spEnd mg b A H B ((l.length:Int)::l) Q
theorem sc_disorder:FnScope ["board", "power"] ["board", "power"] (defScope s_disorder):=⟨rfl,rfl,rfl,by decide +kernel,rfl,by decide +kernel,by decide +kernel⟩
theorem ok_disorder (T:Txt K mg):Def P w K mg base "disorder" 4 ["board", "power"] (sp_disorder K mg):=by
  obtain ⟨f,fd,hm,F,hb⟩:=T.f_disorder
  refine ⟨f,hm,F.kp,fd,F.ok sc_disorder (fun vs H Q E h=>?_) (fun cdv A outer s H vs Q E hr h=>?_),hb⟩
  · obtain ⟨b,A0,B,w',rfl,_⟩:=h;rfl
  obtain ⟨b,A0,B,w',rfl,hB,hW,ok,hn,k⟩:=h
  have hu:=hu_of hr
  have hu64:=hu64_of hr
  have nd:=sc_disorder.nd
  refine ⟨_,(pss_one (ps_ret (cl (ok_row T) (hr.mono (by decide)) (pa_cons (cl (ok_disorder_of T) (hr.mono (by decide)) (pa_cons (pv 0) (pa_cons (pv 1) pa_nil))) pa_nil)))),?_⟩
  refine ⟨_,rfl,_,rfl,b,A0,B,w',rfl,hB,hW,ok,hn,fun l hl hle H1 p s1 hp hL=>⟨p,l,rfl,hL,(by omega),fun H2 q s2 hq hQ=>?_⟩⟩
  exact (k l hl).lst hB hW (s1.trans s2) (s1.free hq) hQ
def sp_far (K:PySem.W.Frag) (mg:Str→Option Value):Sp:=fun vs H Q _=>∃(b:Addr) (A:Ads) (B:Bd) (w p:Int),vs=[.ref b,.int w,.int p]∧BdAt mg H b A B∧Wr H A∧BOk B∧∀fs,DistOk B w fs→spEnd mg b A H B [(look fs p).getD (-9)] Q
theorem sc_far:FnScope ["board", "power", "p"] ["board", "power", "p"] (defScope s_far):=⟨rfl,rfl,rfl,by decide +kernel,rfl,by decide +kernel,by decide +kernel⟩
theorem ok_far (T:Txt K mg):Def P w K mg base "far" 3 ["board", "power", "p"] (sp_far K mg):=by
  obtain ⟨f,fd,hm,F,hb⟩:=T.f_far
  refine ⟨f,hm,F.kp,fd,F.ok sc_far (fun vs H Q E h=>?_) (fun cdv A outer s H vs Q E hr h=>?_),hb⟩
  · obtain ⟨b,A0,B,w',p,rfl,_⟩:=h;rfl
  obtain ⟨b,A0,B,w',p,rfl,hB,hW,ok,k⟩:=h
  have hu:=hu_of hr
  have hu64:=hu64_of hr
  have nd:=sc_far.nd
  refine ⟨_,(pss_one (ps_ret (pe_lst (pa_cons (pe_dget2 hu (cl (ok_distances T) (hr.mono (by decide)) (pa_cons (pv 0) (pa_cons (pv 1) pa_nil))) (pv 2) (pg T.g_NO_DISTANCE) ⟨rfl,rfl,rfl,rfl⟩) pa_nil)))),?_⟩
  refine ⟨_,rfl,_,rfl,b,A0,B,w',rfl,hB,hW,ok,fun H1 d fs s1 hd hd1 dk fle=>⟨d,rfl,.inl ⟨_,.inl hd1⟩,_,rfl,_,dgetK (.inl hd1) p,one_ok,fun q hq=>(k fs dk).ret hB hW s1 hq ?_⟩⟩
  rw [valD]
  cases look fs p <;> rfl
end
end Sb
end
section
namespace Sb
open PySem PySem.Spec PyProof.Rows L2
section
variable {P:Program} {w:World} {K:PySem.W.Frag} {mg:Str→Option Value} {base:Heap}
structure DOk (B:Bd):Prop where
  nd:(B.driven.map (·.1)).Nodup
  len:B.driven.length≤24
  go:∀x∈B.driven,x.2.order=1→∃g,x.2.goal=some g
def ordG (d:Drv):Option (Int×Int):=if d.order=1 then d.goal else none
def wantB (l:List (Int×Drv)):List Int:=l.filterMap fun x=>(ordG x.2).map (·.1)
theorem want_succ {l:List (Int×Drv)} {i:Nat} {x:Int×Drv} (h:l[i]? = some x):wantB (l.take (i + 1))=wantB (l.take i)++(match ordG x.2 with | some g=>[g.1] | none=>[]):=by
  unfold wantB
  rw [List.take_add_one,h,List.filterMap_append]
  congr 1
  show List.filterMap _ [x]=_
  rw [List.filterMap_cons]
  cases ordG x.2 <;> rfl
def sp_provinces_ordered_to (K:PySem.W.Frag) (mg:Str→Option Value):Sp:=fun vs H Q _=>∃(b:Addr) (A:Ads) (B:Bd),vs=[.ref b]∧BdAt mg H b A B∧Wr H A∧DOk B∧spL H (wantB B.driven) Q
theorem sc_provinces_ordered_to:FnScope ["board", "one"] ["board"] (defScope s_provinces_ordered_to):=⟨rfl,rfl,rfl,by decide +kernel,rfl,by decide +kernel,by decide +kernel⟩
theorem ok_provinces_ordered_to (T:Txt K mg):Def P w K mg base "provinces_ordered_to" 1 ["board"] (sp_provinces_ordered_to K mg):=by
  obtain ⟨f,fd,hm,F,hb⟩:=T.f_provinces_ordered_to
  refine ⟨f,hm,F.kp,fd,F.ok sc_provinces_ordered_to (fun vs H Q E h=>?_) (fun cdv A outer s H vs Q E hr h=>?_),hb⟩
  · obtain ⟨b,A0,B,rfl,_⟩:=h;rfl
  obtain ⟨b,A0,B,rfl,hB,hW,ok,k⟩:=h
  have hu:=hu_of hr
  have hu64:=hu64_of hr
  have nd:=sc_provinces_ordered_to.nd
  refine ⟨_,(pss_one (ps_ret (pe_lock (pe_lc (own:=[("one", 1)]) rfl nd (pi_values (pe_fld (pv 0) (by rfl))) (blkOk_by (by rfl)) (fun _ _ _ _ _=>(pg_name (i:=1) nd rfl (Or.inl rfl))) (fun _ _ _ _ _=>pts_one (pt_cmpR op_eq (pe_fldK K rfl (pv 1) (by rfl)) (pg T.g_ORDER_GO) (nomark _))) (fun _ _ _ _ _=>(pe_ix (ix_tupK K rfl) (pe_fldK K rfl (pv 1) (by rfl)) pe_int (fun _ _=>rfl))))))),?_⟩
  have hdr:=hW.at_ (a:=A0.dr) (by simp [dicts]) hB.dr
  refine ⟨A0.dr,_,hdr,trivial,fun od=>?_⟩
  have sl:=SameL.lock hdr rfl od
  have hB1:=hB.mono sl
  have hl:=hB.da.len
  have h24:=ok.len
  refine ⟨_,rfl,_,_,_,_,_,rfl,hB1.obj,T.k_Board,T.n_Board_driven,rfl,_,_,_,rfl,upd_same,fun D hD=>lc_acc (n:=A0.kd.length) hD (by omega) (fun i acc H'=>acc=(wantB (B.driven.take i)).map V.int) (fun i acc H1 H2 hd s t=>t)
    (fun i H1 hi s1=>⟨s1 _ _ upd_same,hi⟩) (fun H1 s1=>⟨s1 _ _ upd_same,Nat.le_refl _⟩) rfl ?_ ?_⟩
  · rintro i y H1 H1' acc Nx hi s1 hDl rfl ⟨rfl,kk,hy⟩ kN kY
    obtain ⟨p,d,a,h1,h2,h3,dx,ua,gv,hd,hU,hg⟩:=(hB1.same s1).da.get hy
    subst h3
    refine ⟨rfl,_,rfl,_,_,_,_,_,rfl,hd,T.k_DrivenUnit,T.n_DrivenUnit_order,rfl,rfl,_,rfl,?_⟩
    rw [decV]
    refine ite2 (fun e=>?_) (fun e=>?_)
    · have e:=of_decide_eq_true e
      obtain ⟨g,eg⟩:=ok.go _ (List.mem_of_getElem? h1) e
      rw [eg] at hg
      obtain ⟨ga,rfl,hga⟩:=hg
      refine ⟨_,rfl,_,_,_,_,_,rfl,hd,T.k_DrivenUnit,T.n_DrivenUnit_goal,rfl,_,_,_,_,rfl,rfl,SqT.of hga,rfl,kY _ _ (.refl _) ?_⟩
      rw [want_succ h1,show ordG (p,d).2=some g from by unfold ordG;rw [if_pos e];exact eg,List.map_append]
      rfl
    · refine kN _ (.refl _) ?_
      have e:¬ d.order=1:=fun z=>e (decide_eq_true z)
      rw [want_succ h1,show ordG (p,d).2=none from by unfold ordG;rw [if_neg e],List.append_nil]
  · rintro H1 acc s1 hacc rfl
    obtain ⟨nd',hD'⟩:=lock_none hD
    have hfz:=s1 _ _ upd_same
    refine ⟨hfz,k _ D (s1.unlock hdr) hD' (by rw [upd_ne nd',hacc,hl,List.take_length])⟩
def GoT (H:Hp) (a:Addr) (g:Int×Int):Prop:=H a=some (.tup [.int g.1,.int g.2])
def arrive (B:Bd) (x:Int×Drv):Option (Int×(Int×Int)):=(ordG x.2).bind fun g=>if (wantB B.driven).count g.1=1∧g∈mChoices B x.2 then some (x.1,g) else none
def arrW (B:Bd) (l:List (Int×Drv)):List (Int×(Int×Int)):=l.filterMap (arrive B)
theorem arr_succ (B:Bd) {l:List (Int×Drv)} {i:Nat} {x:Int×Drv} (h:l[i]? = some x):arrW B (l.take (i + 1))=arrW B (l.take i)++(match arrive B x with | some y=>[y] | none=>[]):=by
  unfold arrW
  rw [List.take_add_one,h,List.filterMap_append]
  congr 1
  show List.filterMap _ [x]=_
  rw [List.filterMap_cons]
  cases arrive B x <;> rfl
theorem arrive_key {B:Bd} {x:Int×Drv} {y:Int×(Int×Int)} (h:arrive B x=some y):y.1=x.1:=by
  unfold arrive at h
  obtain ⟨g,_,h⟩:=Option.bind_eq_some_iff.mp h
  split at h
  · cases h;rfl
  · cases h
theorem arr_keys {B:Bd} {l:List (Int×Drv)} {y:Int×(Int×Int)} (h:y∈arrW B l):y.1∈l.map (·.1):=by
  unfold arrW at h
  obtain ⟨x,hx,e⟩:=List.mem_filterMap.mp h
  rw [arrive_key e]
  exact List.mem_map.mpr ⟨x,hx,rfl⟩
theorem arr_len (B:Bd) (l:List (Int×Drv)):(arrW B l).length≤l.length:=List.length_filterMap_le _ _
def sp_arrivals (K:PySem.W.Frag) (mg:Str→Option Value):Sp:=fun vs H Q _=>∃(b:Addr) (A:Ads) (B:Bd),vs=[.ref b]∧BdAt mg H b A B∧Wr H A∧DOk B∧B.provs.length≤40 ∧
  ∀H' d kvs,Same H H'→H d=none→H' d=some (.dK kvs)→Dc (GoT H') kvs (arrW B B.driven)→Q (.ref d) H'
theorem sc_arrivals:FnScope ["board", "wanted", "goals", "p", "driven_unit"] ["board"] (defScope s_arrivals):=⟨rfl,rfl,rfl,by decide +kernel,rfl,by decide +kernel,by decide +kernel⟩
theorem ok_arrivals (T:Txt K mg):Def P w K mg base "arrivals" 5 ["board"] (sp_arrivals K mg):=by
  obtain ⟨f,fd,hm,F,hb⟩:=T.f_arrivals
  refine ⟨f,hm,F.kp,fd,F.ok sc_arrivals (fun vs H Q E h=>?_) (fun cdv A outer s H vs Q E hr h=>?_),hb⟩
  · obtain ⟨b,A0,B,rfl,_⟩:=h;rfl
  obtain ⟨b,A0,B,rfl,hB,hW,ok,hn,k⟩:=h
  have hu:=hu_of hr
  have hu64:=hu64_of hr
  have nd:=sc_arrivals.nd
  refine ⟨_,(pss_cons (ps_set (i:=1) nd rfl (by first | exact Or.inl rfl | exact Or.inr rfl) (cl (ok_provinces_ordered_to T) (hr.mono (by decide)) (pa_cons (pv 0) pa_nil)))
 (pss_cons (ps_set (i:=2) nd rfl (by first | exact Or.inl rfl | exact Or.inr rfl) pe_dnewK)
 (pss_cons (ps_lock (ps_for PassesOwn.never rfl (pi_items (pe_fld (pv 0) (by rfl))) (pg_tup (n:=2) rfl (pgs_cons (pg_name (i:=3) nd rfl (Or.inl rfl)) (pgs_cons (pg_name (i:=4) nd rfl (Or.inl rfl)) pgs_nil)))
  (pss_one (ps_if (pt_cutP (pw_and (pt_cmpR op_eq (pe_fld (pv 4) (by rfl)) (pg T.g_ORDER_GO) (nomark _)) (pw_and1 (pt_cmpR op_eq (pe_bm PySem.F.plainAttrs_list PySem.F.slot_list_count PySem.F.type_list_count mt_countI (pv 1) (pa_cons (pe_ix ix_tup (pe_fld (pv 4) (by rfl)) pe_int (fun _ _=>rfl)) pa_nil)) pe_int (nomark _)))).pt)
  (pss_one (ps_if (pt_cmpR (op_in_tups hu64) (pe_fld (pv 4) (by rfl)) (cl (ok_choices_of T) (hr.mono (by decide)) (pa_cons (pv 0) (pa_cons (pv 4) pa_nil))) (by with_unfolding_all rfl))
  (pss_one (ps_dput hu (pv 2) (pv 3) (pe_fld (pv 4) (by rfl)) rfl))
  pss_nil))
  pss_nil))))
 (pss_one (ps_ret (pv 2)))))),?_⟩
  refine ⟨_,rfl,b,A0,B,rfl,hB,hW,ok,fun H1 wl s1 hwl hL=>?_⟩
  intro g hg
  have hB1:=hB.same s1
  have hW1:=hW.same hB s1
  have hdr1:=hW1.at_ (a:=A0.dr) (by simp [dicts]) hB1.dr
  have ng:A0.dr≠g:=ne_of_none hdr1 hg
  have hdr:=Same.mk (o:=.dK []) hg _ _ hdr1
  refine ⟨A0.dr,_,hdr,trivial,fun od=>?_⟩
  have sb:Same (upd H1 A0.dr (.frz od (.dK A0.kd))) (upd (upd H1 g (.dK [])) A0.dr (.frz od (.dK A0.kd))):=fun a o e=>by
    by_cases q:a=A0.dr
    · rw [q,upd_same] at e ⊢;exact e
    · rw [upd_ne q] at e ⊢
      rw [upd_ne (ne_of_none e hg)];exact e
  have hBb:=hB1.mono (SameL.lock hdr1 rfl od)
  have hLb:upd H1 A0.dr (.frz od (.dK A0.kd)) wl=some (.lst ((wantB B.driven).map V.int)):=by
    rw [upd_ne (ne_of hL hdr1 (fun z=>nomatch z))];exact hL
  have hgb:upd H1 A0.dr (.frz od (.dK A0.kd)) g=none:=by rw [upd_ne (Ne.symm ng)];exact hg
  have hgl:upd (upd H1 g (.dK [])) A0.dr (.frz od (.dK A0.kd)) g=some (.dK []):=by rw [upd_ne (Ne.symm ng)];exact upd_same
  have hdb:upd H1 A0.dr (.frz od (.dK A0.kd)) A0.dr=some (.frz od (.dK A0.kd)):=upd_same
  have back:∀H3,Same (upd H1 A0.dr (.frz od (.dK A0.kd))) H3→Same H1 (upd H3 A0.dr (.dK A0.kd)):=fun H3 s=>s.unlock hdr1
  have hB2:=hBb.same sb
  have hl:=hB.da.len
  have h24:=ok.len
  refine ⟨_,rfl,_,_,_,_,_,rfl,hB2.obj,T.k_Board,T.n_Board_driven,rfl,A0.dr,_,_,rfl,upd_same,?_⟩
  generalize upd H1 A0.dr (.frz od (.dK A0.kd))=Hb at sb hBb hLb hgb hdb back
  generalize upd (upd H1 g (.dK [])) A0.dr (.frz od (.dK A0.kd))=Hs at sb hgl hB2 ⊢
  refine for_it (n:=A0.kd.length) (fun i σ H'=>∃v3 v4 kvs,σ = [some (.ref b),some (.ref wl),some (.ref g),v3,v4]∧Same Hb H'∧H' g=some (.dK kvs)∧Dc (GoT H') kvs (arrW B (B.driven.take i))) ⟨none,none,[],rfl,sb,hgl,.nil⟩
    (fun i σ H' hi ⟨_,_,_,_,s,_⟩=>⟨s _ _ hdb,hi⟩) (fun σ H' ⟨_,_,_,_,s,_⟩=>⟨s _ _ hdb,Nat.le_refl _⟩) ?_ ?_
  · rintro i y σ H3 H3' hi ⟨v3,v4,kvs,rfl,s3,hg3,hDc⟩ ⟨tt,kk,v,hkv,rfl,hT,rfl⟩
    have hB3:=hBb.same s3
    obtain ⟨p,d,a,h1,h2,h3,hD⟩:=hB3.da.get hkv
    subst h2 h3
    have sT:Same H3 (upd H3 tt (.tup [kV (Sum.inl p),.ref a])):=Same.mk hT
    have s4:=s3.trans sT
    have hB4:=hB3.same sT
    have hD4:=hD.mono (.of sT)
    have hg4:=sT _ _ hg3
    have hDc4:Dc (GoT (upd H3 tt (.tup [kV (Sum.inl p),.ref a]))) kvs (arrW B (B.driven.take i)):=hDc.imp fun _ _ z=>sT _ _ z
    have ht4:upd H3 tt (.tup [kV (Sum.inl p),.ref a]) tt=some (.tup [kV (Sum.inl p),.ref a]):=upd_same
    refine ⟨tt,[.int p,.ref a],rfl,SqT.of ht4,rfl,_,_,rfl,_,_,rfl,rfl,?_⟩
    generalize upd H3 tt (.tup [kV (Sum.inl p),.ref a])=H4 at s4 hB4 hD4 hg4 hDc4 ⊢
    have hD4':=hD4
    obtain ⟨dx,ua,gv,hd,hU,hgo⟩:=hD4'
    have h1':(p,d)∈B.driven:=List.mem_of_getElem? h1
    have hL4:=s4 _ _ hLb
    by_cases eo:d.order=1
    · obtain ⟨gg,eg⟩:=ok.go _ h1' eo
      have eg:d.goal=some gg:=eg
      rw [eg] at hgo
      obtain ⟨ga,rfl,hga⟩:=hgo
      have eOG:ordG (p,d).2=some gg:=by unfold ordG;rw [if_pos eo];exact eg
      refine ⟨decide (d.order=1) && decide (((wantB B.driven).count gg.1:Int)=1),⟨_,rfl,_,_,_,_,_,rfl,hd,T.k_DrivenUnit,T.n_DrivenUnit_order,rfl,rfl,_,rfl,?_⟩,ite2 (fun e1=>?_) (fun e1=>?_)⟩
      · rw [decV]
        exact and_c fun q=>⟨_,rfl,.inl ⟨rfl,_,SqL.of hL4⟩,_,rfl,_,_,_,_,_,rfl,hd,T.k_DrivenUnit,T.n_DrivenUnit_goal,rfl,_,_,_,_,rfl,rfl,SqT.of hga,rfl,wl,_,_,rfl,rfl,SqL.of hL4,rfl,_,rfl,by rw [decV,q];rfl,rfl⟩
      · rw [Bool.and_eq_true,decide_eq_true_iff,decide_eq_true_iff] at e1
        have ec:(wantB B.driven).count gg.1=1:=by omega
        refine ⟨_,rfl,_,_,_,_,_,rfl,hd,T.k_DrivenUnit,T.n_DrivenUnit_goal,rfl,_,rfl,_,rfl,b,A0,B,a,d,rfl,hB4,hD4,hn,fun H5 z s5 hz ⟨ts,hL5,ht5⟩=>?_⟩
        refine ⟨z,_,_,PyData.tuple ((pr2 gg).map PyData.int),rfl,SqL.of hL5,ht5.dp,.tup (SqT.of (s5 _ _ hga)) (dp_ints [gg.1,gg.2]),shaped2 gg,shaped2s _,_,rfl,?_⟩
        rw [if_neg Bool.false_ne_true,any_eqv2]
        have s45:=s4.trans s5
        have hg5:=s5 _ _ hg4
        have hDc5:Dc (GoT H5) kvs (arrW B (B.driven.take i)):=hDc4.imp fun _ _ z=>s5 _ _ z
        refine ite2 (fun e2=>?_) (fun e2=>?_)
        · have e2:=of_decide_eq_true e2
          have ea:arrive B (p,d)=some (p,gg):=by
            unfold arrive
            rw [eOG,Option.bind_some,if_pos ⟨ec,e2⟩]
          have hnew:look (arrW B (B.driven.take i)) p=none:=by
            rw [look_none]
            intro x hx ex
            have m:=arr_keys hx
            rw [ex] at m
            have nd':=ok.nd
            obtain ⟨x2,hx2,ex2⟩:=List.mem_map.mp m
            obtain ⟨j,hj⟩:=List.mem_iff_getElem?.mp hx2
            rw [List.getElem?_take] at hj
            split at hj
            · rename_i hji
              have q1:(B.driven.map (·.1))[j]? = some p:=by rw [List.getElem?_map,hj];exact congrArg some ex2
              have q2:(B.driven.map (·.1))[i]? = some p:=by rw [List.getElem?_map,h1];rfl
              have:=nd_ix nd' q1 q2
              omega
            · cases hj
          have hd5:=s5 _ _ hd
          refine ⟨_,rfl,_,_,_,_,_,rfl,hd5,T.k_DrivenUnit,T.n_DrivenUnit_goal,rfl,_,rfl,_,rfl,_,_,rfl,DPut.k (k:=Sum.inl p) hg5 (by
            have:=arr_len B (B.driven.take i)
            have h2:(B.driven.take i).length≤B.driven.length:=by rw [List.length_take];omega
            rw [hDc5.len];exact Nat.lt_of_le_of_lt (show _≤24 by omega) (by decide)),?_⟩
          have epk:putK kvs (Sum.inl p) (V.ref ga)=kvs++[(Sum.inl p,V.ref ga)]:=by
            rcases hDc5.val p with ⟨_,_,_,h2,_⟩ | ⟨h1,_⟩
            · rw [hnew] at h2;cases h2
            · exact putK_new _ h1
          rw [epk]
          refine ⟨_,_,kvs++[(Sum.inl p,V.ref ga)],rfl,s45.put hgb,upd_same,?_⟩
          rw [arr_succ B h1,ea]
          refine Dc.snoc (hDc5.imp fun c x e=>?_) (p:=p) (a:=ga) (x:=gg) ?_
          · show upd H5 g _ c=_
            rw [upd_ne (ne_of (show H5 c=_ from e) hg5 (fun z=>nomatch z))];exact e
          · show upd H5 g _ ga=_
            rw [upd_ne (ne_of (s5 _ _ hga) hg5 (fun z=>nomatch z))];exact s5 _ _ hga
        · have e2:¬ gg∈mChoices B d:=fun z=>e2 (decide_eq_true z)
          have ea:arrive B (p,d)=none:=by
            unfold arrive
            rw [eOG,Option.bind_some,if_neg (fun z=>e2 z.2)]
          refine ⟨_,_,kvs,rfl,s45,hg5,?_⟩
          rw [arr_succ B h1,ea,List.append_nil]
          exact hDc5
      · have ec:¬ (wantB B.driven).count gg.1=1:=fun z=>e1 (by rw [decide_eq_true eo,Bool.true_and];exact decide_eq_true (by omega))
        have ea:arrive B (p,d)=none:=by
          unfold arrive
          rw [eOG,Option.bind_some,if_neg (fun z=>ec z.1)]
        refine ⟨_,_,kvs,rfl,s4,hg4,?_⟩
        rw [arr_succ B h1,ea,List.append_nil]
        exact hDc4
    · have ea:arrive B (p,d)=none:=by
        unfold arrive ordG
        rw [if_neg eo];rfl
      refine ⟨false,⟨_,rfl,_,_,_,_,_,rfl,hd,T.k_DrivenUnit,T.n_DrivenUnit_order,rfl,rfl,_,rfl,?_⟩,iteF ?_⟩
      · rw [decV,decide_eq_false eo]
        exact iteF ⟨rfl,rfl⟩
      · refine ⟨_,_,kvs,rfl,s4,hg4,?_⟩
        rw [arr_succ B h1,ea,List.append_nil]
        exact hDc4
  · rintro σ H3 ⟨v3,v4,kvs,rfl,s3,hg3,hDc⟩
    have hfz:=s3 _ _ hdb
    rw [hl,List.take_length] at hDc
    refine ⟨hfz,_,rfl,k (upd H3 A0.dr (.dK A0.kd)) g kvs (s1.trans (back H3 s3)) (s1.free hg) (by rw [upd_ne (Ne.symm ng)];exact hg3) (hDc.imp fun c x e=>?_)⟩
    show upd H3 A0.dr _ c=_
    rw [upd_ne (ne_of (show H3 c=_ from e) hfz (fun z=>nomatch z))];exact e
end
end Sb
end
section
namespace Sb
open PySem PySem.Spec PyProof.Rows L2
section
variable {P:Program} {w:World} {K:PySem.W.Frag} {mg:Str→Option Value} {base:Heap}
theorem BdAt.off {H:Hp} {b g:Addr} {A:Ads} {B:Bd} {og u:HO} (h:BdAt mg H b A B) (hg:H g=some og) (ht:tag og=3) (nf:¬ Foot b A g):BdAt mg (upd H g u) b A B:=by
  have kp:Kp g H (upd H g u):=Kp.of (Same.refl _)
  have kt:=h.kept hg kp
  rw [ht] at kt
  have dn:∀a∈dicts A,a≠g:=fun a ha z=>nf (.inr (.inr (.inl (by rw [← z];exact ha))))
  exact ⟨kt.obj (by decide),kt.pl (by decide),h.pnd,kt.pa (by decide),kt.la (dn _ (by simp [dicts])),kt.se (dn _ (by simp [dicts])),kt.un (dn _ (by simp [dicts])),kt.ua (by decide),kt.dr (dn _ (by simp [dicts])),kt.da (by decide) (by decide) (by decide),h.dnd,
    kt.ba (dn _ (by simp [dicts])),kt.ra (dn _ (by simp [dicts])),kt.raa (by decide),kt.dp (dn _ (by simp [dicts])),h.nd⟩
theorem Wr.off {H:Hp} {b g:Addr} {A:Ads} {u:HO} (w:Wr H A) (nf:¬ Foot b A g):Wr (upd H g u) A:=fun a ha o q z=>by
  rw [upd_ne (fun e=>nf (.inr (.inr (.inl (by rw [← e];exact ha)))))] at z
  exact w a ha o q z
theorem BdAt.cleared {H H':Hp} {b p5 p6:Addr} {A:Ads} {B:Bd} (hB:BdAt mg H b A B) (hW:Wr H A) (W:Wp (adr mg "Board") A.dx b H H' (fBd { A with dr:=p5,ba:=p6,kd:=[] }) [(p5,.dK []),(p6,.dK [])]) :
    BdAt mg H' b { A with dr:=p5,ba:=p6,kd:=[] } { B with driven:=[],barred:=[] }∧Wr H' { A with dr:=p5,ba:=p6,kd:=[] }∧Frm b A { A with dr:=p5,ba:=p6,kd:=[] } H H':=by
  obtain ⟨wa,wo,wn,wd,_⟩:=W
  simp only [List.map_cons,List.map_nil,List.mem_cons,List.not_mem_nil,or_false,forall_eq_or_imp,forall_eq] at wn wd
  obtain ⟨n7,n8⟩:=wn
  have kp:Kp b H H':=wo
  have kt:Kept mg H H' b b 8 A B:=hB.kept hB.obj kp
  have dn:∀a∈dicts A,a≠b:=fun a ha=>hB.dne ha hB.obj (by rw [tag_bd];decide)
  have od:∀a∈dicts A,a≠p5∧a≠p6:=fun a ha=>by
    obtain ⟨o,e,_⟩:=hB.dtag ha
    exact ⟨ne_of_none e n7.1,ne_of_none e n8.1⟩
  have m:∀a,a∈[A.la,A.se,A.un,A.ra,A.dp]→a∈dicts A:=fun a ha=>by
    simp only [List.mem_cons,List.not_mem_nil,or_false] at ha
    simp only [dicts,List.mem_cons,List.not_mem_nil,or_false]
    rcases ha with e | e | e | e | e <;> simp [e]
  refine ⟨⟨wa,kt.pl (by decide),hB.pnd,kt.pa (by decide),kt.la (dn _ (by simp [dicts])),kt.se (dn _ (by simp [dicts])),kt.un (dn _ (by simp [dicts])),kt.ua (by decide),.inl n7.2.1,.nil,.nil,
    .inl n8.2.1,kt.ra (dn _ (by simp [dicts])),kt.raa (by decide),kt.dp (dn _ (by simp [dicts])),?_⟩,?_,fun a o e nf=>wo a o e (fun z=>nf (.inl z)),?_,?_⟩
  · have hn:=hB.nds
    have o1:=od A.la (by simp [dicts])
    have o2:=od A.se (by simp [dicts])
    have o3:=od A.un (by simp [dicts])
    have o6:=od A.ra (by simp [dicts])
    have o7:=od A.dp (by simp [dicts])
    simp only [dicts,List.nodup_cons,List.mem_cons,List.not_mem_nil,or_false,not_or,List.nodup_nil,and_true,not_false_eq_true] at wd ⊢
    obtain ⟨⟨a1,a2,a3,a4,a5,a6⟩,⟨b2,b3,b4,b5,b6⟩,⟨c3,c4,c5,c6⟩,⟨d4,d5,d6⟩,⟨e5,e6⟩,e7⟩:=hn
    exact ⟨⟨a1,a2,o1.1,o1.2,a5,a6⟩,⟨b2,o2.1,o2.2,b5,b6⟩,⟨o3.1,o3.2,c5,c6⟩,⟨wd,Ne.symm o6.1,Ne.symm o7.1⟩,⟨Ne.symm o6.2,Ne.symm o7.2⟩,e7⟩
  · intro a ha o u
    have h5:a∈[A.la,A.se,A.un,A.ra,A.dp]→H' a≠some (.frz o u):=fun hm z=>by
      obtain ⟨o',e,_⟩:=hB.dtag (m a hm)
      rw [wo a o' e (dn a (m a hm))] at z
      cases z
      exact hW a (m a hm) _ _ e
    simp only [dicts,List.mem_cons,List.not_mem_nil,or_false] at ha
    rcases ha with e | e | e | e | e | e | e
    · exact h5 (by simp [e])
    · exact h5 (by simp [e])
    · exact h5 (by simp [e])
    · rw [e,n7.2.1];intro z;cases z
    · rw [e,n8.2.1];intro z;cases z
    · exact h5 (by simp [e])
    · exact h5 (by simp [e])
  · rintro a (e | e | e | e | e)
    · exact .inl (.inl e)
    · exact .inl (.inr (.inl e))
    · have h5:a∈[A.la,A.se,A.un,A.ra,A.dp]→Foot b A a∨H a=none:=fun hm=>.inl (.inr (.inr (.inl (m a hm))))
      simp only [dicts,List.mem_cons,List.not_mem_nil,or_false] at e
      rcases e with e | e | e | e | e | e | e
      · exact h5 (by simp [e])
      · exact h5 (by simp [e])
      · exact h5 (by simp [e])
      · rw [e];exact .inr n7.1
      · rw [e];exact .inr n8.1
      · exact h5 (by simp [e])
      · exact h5 (by simp [e])
    · exact .inl (.inr (.inr (.inr (.inl e))))
    · exact nomatch e
  · intro a o e
    by_cases z:a=b
    · rw [z];exact ⟨_,wa⟩
    · exact ⟨o,wo a o e z⟩
def landU (B:Bd) (x:Int×(Int×Int)):Option (Int×Unt):=(look B.driven x.1).map fun d=>(x.2.1,⟨d.unit.power,d.unit.fleet,x.2.1,x.2.2⟩)
def endW (B:Bd) (gs:List (Int×(Int×Int))):List (Int×Unt):=gs.filterMap (landU B)
theorem end_succ (B:Bd) {gs:List (Int×(Int×Int))} {i:Nat} {x:Int×(Int×Int)} {y:Int×Unt} (h:gs[i]? = some x) (hy:landU B x=some y):endW B (gs.take (i + 1))=endW B (gs.take i)++[y]:=by
  unfold endW
  rw [List.take_add_one,h,List.filterMap_append]
  congr 1
  show List.filterMap _ [x]=_
  rw [List.filterMap_cons,hy];rfl
theorem end_keys {B:Bd} {gs:List (Int×(Int×Int))} {y:Int×Unt} (h:y∈endW B gs):y.1∈gs.map fun x=>x.2.1:=by
  unfold endW at h
  obtain ⟨x,hx,e⟩:=List.mem_filterMap.mp h
  unfold landU at e
  rw [Option.map_eq_some_iff] at e
  obtain ⟨d,_,rfl⟩:=e
  exact List.mem_map.mpr ⟨x,hx,rfl⟩
def sp_end_driven (K:PySem.W.Frag) (mg:Str→Option Value):Sp:=fun vs H Q _=>∃(b:Addr) (A:Ads) (B:Bd) (g:Addr) (kvs:List (Key×V)) (gs:List (Int×(Int×Int))),vs=[.ref b,.ref g]∧BdAt mg H b A B∧Wr H A∧H g=some (.dK kvs)∧¬ Foot b A g∧Dc (GoT H) kvs gs ∧
  (∀x∈gs,(look B.driven x.1).isSome=true)∧((B.units.map (·.1))++gs.map fun x=>x.2.1).Nodup∧B.units.length + gs.length≤100 ∧
  ∀H' A',BdAt mg H' b A' { B with units:=B.units++endW B gs,driven:=[],barred:=[] }→Wr H' A'→Frm b A A' H H'→Q .non H'
theorem sc_end_driven:FnScope ["board", "goals", "p", "goal", "unit"] ["board", "goals"] (defScope s_end_driven):=⟨rfl,rfl,rfl,by decide +kernel,rfl,by decide +kernel,by decide +kernel⟩
theorem ok_end_driven (T:Txt K mg):Def P w K mg base "end_driven" 3 ["board", "goals"] (sp_end_driven K mg):=by
  obtain ⟨f,fd,hm,F,hb⟩:=T.f_end_driven
  refine ⟨f,hm,F.kp,fd,F.ok sc_end_driven (fun vs H Q E h=>?_) (fun cdv A outer s H vs Q E hr h=>?_),hb⟩
  · obtain ⟨b,A0,B,g,kvs,gs,rfl,_⟩:=h;rfl
  obtain ⟨b,A0,B,g,kvs,gs,rfl,hB,hW,hg,nf,hDc,hs,hnd,hn,k⟩:=h
  have hu:=hu_of hr
  have hu64:=hu64_of hr
  have nd:=sc_end_driven.nd
  refine ⟨_,(pss_cons (ps_lock (ps_for PassesOwn.never rfl (pi_items (pv 1)) (pg_tup (n:=2) rfl (pgs_cons (pg_name (i:=2) nd rfl (Or.inl rfl)) (pgs_cons (pg_name (i:=3) nd rfl (Or.inl rfl)) pgs_nil)))
  (pss_cons (ps_set (i:=4) nd rfl (by first | exact Or.inl rfl | exact Or.inr rfl) (pe_fld (pe_dget hu (pe_fld (pv 0) (by rfl)) (pv 2) (fun _ _=>rfl)) (by rfl)))
 (pss_one (ps_dput hu (pe_fld (pv 0) (by rfl)) (pe_ix ix_tup (pv 3) pe_int (fun _ _=>rfl)) (mkc (ok_Unit_init T) (hr.mono (by decide)) (pa_cons (pe_fld (pv 4) (by rfl)) (pa_cons (pe_fld (pv 4) (by rfl)) (pa_cons (pe_ix ix_tup (pv 3) pe_int (fun _ _=>rfl)) (pa_cons (pe_ix ix_tup (pv 3) pe_int (fun _ _=>rfl)) pa_nil))))) rfl)))))
 (pss_cons (ps_fld (pv 0) pe_dnewK rfl)
 (pss_one (ps_fld (pv 0) pe_dnewK rfl)))),?_⟩
  refine ⟨g,_,hg,trivial,fun od=>?_⟩
  have hBl:=hB.mono (SameL.lock hg rfl od)
  have hWl:Wr (upd H g (.frz od (.dK kvs))) A0:=hW.off nf
  have nun:g≠A0.un:=fun z=>nf (.inr (.inr (.inl (by rw [z];simp [dicts]))))
  have hgl:upd H g (.frz od (.dK kvs)) g=some (.frz od (.dK kvs)):=upd_same
  have hDl:Dc (GoT (upd H g (.frz od (.dK kvs)))) kvs gs:=hDc.imp fun c x e=>by
    show upd H g _ c=_
    rw [upd_ne (ne_of (show H c=_ from e) hg (fun z=>nomatch z))];exact e
  have hl:=hDc.len
  have lo:∀a o,H a=some o→a≠g→upd H g (.frz od (.dK kvs)) a=some o:=fun a o e ne=>by rw [upd_ne ne];exact e
  refine ⟨_,rfl,g,_,_,rfl,upd_same,?_⟩
  generalize upd H g (.frz od (.dK kvs))=Hl at hBl hWl hgl hDl lo ⊢
  refine for_it (n:=kvs.length) (fun i σ H'=>∃v2 v3 v4 ku,σ = [some (.ref b),some (.ref g),v2,v3,v4]∧BdAt mg H' b { A0 with ku:=ku } { B with units:=B.units++endW B (gs.take i) }∧Wr H' { A0 with ku:=ku }∧Kp A0.un Hl H')
    ⟨none,none,none,A0.ku,rfl,(by rw [List.take_zero];show BdAt mg Hl b A0 { B with units:=B.units++[] };rw [List.append_nil];exact hBl),hWl,fun _ _ e _=>e⟩
    (fun i σ H' hi ⟨_,_,_,_,_,_,_,kp⟩=>⟨kp _ _ hgl nun,hi⟩) (fun σ H' ⟨_,_,_,_,_,_,_,kp⟩=>⟨kp _ _ hgl nun,Nat.le_refl _⟩) ?_ ?_
  · rintro i y σ H3 H3' hi ⟨v2,v3,v4,ku,rfl,hB3,hW3,kp3⟩ ⟨tt,kk,v,hkv,rfl,hT,rfl⟩
    obtain ⟨p,gg,ga,h1,h2,h3,hGo⟩:=hDl.get hkv
    subst h2 h3
    have hunl:=hWl.at_ (a:=A0.un) (by simp [dicts]) hBl.un
    have hga3:=kp3 _ _ hGo (ne_of hGo hunl (fun z=>nomatch z))
    have sT:Same H3 (upd H3 tt (.tup [kV (Sum.inl p),.ref ga])):=Same.mk hT
    have hB4:=hB3.same sT
    have hW4:=hW3.same hB3 sT
    have hga4:=sT _ _ hga3
    have kp4:Kp A0.un Hl (upd H3 tt (.tup [kV (Sum.inl p),.ref ga])):=fun a o e ne=>sT _ _ (kp3 a o e ne)
    have ht4:upd H3 tt (.tup [kV (Sum.inl p),.ref ga]) tt=some (.tup [kV (Sum.inl p),.ref ga]):=upd_same
    refine ⟨tt,[.int p,.ref ga],rfl,SqT.of ht4,rfl,_,_,rfl,_,_,rfl,rfl,?_⟩
    generalize upd H3 tt (.tup [kV (Sum.inl p),.ref ga])=H4 at hB4 hW4 hga4 kp4 ⊢
    obtain ⟨a,d,q1,q2,dx,ua,gv,hd,hU0,hgo⟩:∃a d,valV A0.kd (Sum.inl p)=some (.ref a)∧look B.driven p=some d∧DrAt mg H4 a d:=by
      rcases hB4.da.val p with ⟨a,d,q1,q2,q3⟩ | ⟨_,q2⟩
      · exact ⟨a,d,q1,q2,q3⟩
      · have this:(look B.driven p).isSome=true:=hs _ (List.mem_of_getElem? h1)
        have q2:look B.driven p=none:=q2
        rw [q2] at this;cases this
    obtain ⟨du,hU⟩:=hU0
    have hla:landU B (p,gg)=some (gg.1,⟨d.unit.power,d.unit.fleet,gg.1,gg.2⟩):=by
      unfold landU;rw [q2];rfl
    refine ⟨_,rfl,_,_,_,_,_,rfl,hB4.obj,T.k_Board,T.n_Board_driven,rfl,_,rfl,_,_,rfl,(by have:=dgetK hB4.dr p;rw [q1] at this;exact this),_,_,_,_,_,rfl,hd,T.k_DrivenUnit,T.n_DrivenUnit_unit,rfl,?_⟩
    refine ⟨_,rfl,_,_,_,_,_,rfl,hU,T.k_Unit,T.n_Unit_power,rfl,_,rfl,_,_,_,_,_,rfl,hU,T.k_Unit,T.n_Unit_fleet,rfl,_,rfl,_,_,_,_,rfl,rfl,SqT.of hga4,rfl,_,rfl,_,_,_,_,rfl,rfl,SqT.of hga4,rfl,fun x dx nx ndx ne=>mk_unit nx ndx fun H5 s5 hU5=>?_⟩
    have hB5:=hB4.same s5
    have hW5:=hW4.same hB4 s5
    have hun:=hW5.at_ (a:=A0.un) (by simp [dicts]) hB5.un
    have hnew:look (B.units++endW B (gs.take i)) gg.1=none:=by
      rw [look_none]
      intro z hz ez
      rcases List.mem_append.mp hz with m | m
      · have m1:gg.1∈B.units.map (·.1):=List.mem_map.mpr ⟨z,m,ez⟩
        have m2:gg.1∈gs.map fun x=>x.2.1:=List.mem_map.mpr ⟨_,List.mem_of_getElem? h1,rfl⟩
        exact (List.nodup_append.mp hnd).2.2 _ m1 _ m2 rfl
      · have m1:=end_keys m
        rw [ez] at m1
        obtain ⟨z2,hz2,e2⟩:=List.mem_map.mp m1
        obtain ⟨j,hj⟩:=List.mem_iff_getElem?.mp hz2
        rw [List.getElem?_take] at hj
        split at hj
        · rename_i hji
          have w1:(gs.map fun x=>x.2.1)[j]? = some gg.1:=by rw [List.getElem?_map,hj];exact congrArg some e2
          have w2:(gs.map fun x=>x.2.1)[i]? = some gg.1:=by rw [List.getElem?_map,h1];rfl
          have:=nd_ix (List.nodup_append.mp hnd).2.1 w1 w2
          omega
        · cases hj
    obtain ⟨r1,r2,r3⟩:=hB5.set_un hW5 (Same.refl _) (hB5.ua.snoc (p:=gg.1) hU5)
    rw [← putK_dc hB5.ua hnew] at r1 r2 r3
    have hlen:ku.length≤200:=by
      rw [hB5.ua.len,List.length_append]
      have h1:(endW B (gs.take i)).length≤(gs.take i).length:=List.length_filterMap_le _ _
      have h2:(gs.take i).length≤gs.length:=by rw [List.length_take];omega
      omega
    refine ⟨_,rfl,_,_,_,_,_,rfl,hB5.obj,T.k_Board,T.n_Board_units,rfl,_,rfl,_,_,_,_,rfl,rfl,SqT.of (s5 _ _ hga4),rfl,_,_,rfl,DPut.k (k:=Sum.inl gg.1) hun (Nat.lt_of_le_of_lt hlen (by decide)),?_⟩
    refine ⟨_,_,_,_,rfl,?_,r2,fun c o e ne=>?_⟩
    · rw [end_succ B h1 hla,← List.append_assoc]
      exact r1
    · show upd H5 A0.un _ c=some o
      rw [upd_ne ne];exact s5 _ _ (kp4 c o e ne)
  · rintro σ H3 ⟨v2,v3,v4,ku,rfl,hB3,hW3,kp3⟩
    have hg3:=kp3 _ _ hgl nun
    rw [hl,List.take_length] at hB3
    have nf':¬ Foot b { A0 with ku:=ku } g:=nf
    have hB4:=hB3.off (u:=.dK kvs) hg3 rfl nf'
    have hW4:=hW3.off (u:=.dK kvs) nf'
    refine ⟨hg3,?_⟩
    have f4:Frm b A0 { A0 with ku:=ku } H (upd H3 g (.dK kvs)):=by
      refine ⟨fun a o e n=>?_,fun a z=>.inl z,fun a o e=>?_⟩
      · by_cases q:a=g
        · rw [q,upd_same,← hg,← q];exact e
        · rw [upd_ne q]
          exact kp3 a o (lo a o e q) fun z=>n (.inr (.inr (.inl (by rw [z];simp [dicts]))))
      · by_cases q:a=g
        · rw [q];exact ⟨_,upd_same⟩
        · rw [upd_ne q]
          by_cases q2:a=A0.un
          · rw [q2];exact ⟨_,hW3.at_ (a:=A0.un) (by simp [dicts]) hB3.un⟩
          · exact ⟨o,kp3 a o (lo a o e q) q2⟩
    generalize upd H3 g (.dK kvs)=H4 at hB4 hW4 f4 ⊢
    have W0:=Wp.start hB4.obj
    intro p5 h5
    refine ⟨_,rfl,b,_,A0.dx,_,rfl,(by rw [upd_ne (ne_of_none W0.at_ h5)];exact W0.at_),T.k_Board,T.n_Board_driven,(by show 8<1000;decide),?_⟩
    have W5:=W0.step h5 (.dK []) "driven"
    intro p6 h6
    refine ⟨_,rfl,b,_,A0.dx,_,rfl,(by rw [upd_ne (ne_of_none W5.at_ h6)];exact W5.at_),T.k_Board,T.n_Board_barred,(by show 8<1000;decide),?_⟩
    have W6:=W5.step h6 (.dK []) "barred"
    obtain ⟨r1,r2,r3⟩:=hB4.cleared hW4 (p5:=p5) (p6:=p6) W6
    exact k _ _ r1 r2 (f4.trans r3 fun a z=>hB.foot z)
end
end Sb
end
section
namespace Sb
open PySem PySem.Spec PyProof.Rows L2
section
variable {P:Program} {w:World} {K:PySem.W.Frag} {mg:Str→Option Value} {base:Heap}
theorem BdAt.tup_nf {H:Hp} {b a:Addr} {A:Ads} {B:Bd} {xs:List V} (h:BdAt mg H b A B) (e:H a=some (.tup xs)):¬ Foot b A a:=by
  rintro (z | z | z | z | z)
  · rw [z,h.obj] at e;cases e
  · rw [z,h.pl] at e;cases e
  · obtain ⟨o,q,t⟩:=h.dtag z
    rw [e] at q;cases q;cases t
  · obtain ⟨i,hi⟩:=List.mem_iff_getElem?.mp z
    obtain ⟨p,_,dx,q⟩:=paired_get h.pa hi
    rw [e] at q;cases q
  · obtain ⟨kv,hk,e2⟩:=List.mem_map.mp z
    obtain ⟨i,hi⟩:=List.mem_iff_getElem?.mp hk
    obtain ⟨p,d,a',h1,h2,h3,dx,ua,gv,q,_⟩:=h.da.get (k:=kv.1) (v:=kv.2) hi
    rw [h3] at e2
    cases e2
    rw [e] at q;cases q
def outc (gs:List (Int×(Int×Int))) (p:Int):List Int:=match look gs p with
  | some g=>[p,g.1,g.2]
  | none=>[p,-1,0]
def outs (B:Bd):List (List Int):=(sortI (B.driven.map (·.1))).map (outc (arrW B B.driven))
def mResolve (B:Bd):Bd×List Int:=({ B with units:=B.units++endW B (arrW B B.driven),driven:=[],barred:=[],raises:=[],drops:=[] },((outs B).length:Int)::(outs B).flatten)
theorem outs_len (B:Bd):(outs B).length=B.driven.length∧(outs B).flatten.length=3 * B.driven.length:=by
  have h:∀(gs:List (Int×(Int×Int))) (l:List Int),(l.map (outc gs)).flatten.length=3 * l.length:=by
    intro gs l
    induction l with
    | nil=>rfl
    | cons a l ih =>
      have e:(outc gs a).length=3:=by unfold outc;split <;> rfl
      rw [List.map_cons,List.flatten_cons,List.length_append,ih,e,List.length_cons];omega
  unfold outs
  rw [h,List.length_map,(sortI_perm _).length_eq,List.length_map]
  exact ⟨rfl,rfl⟩
def sp_resolve (K:PySem.W.Frag) (mg:Str→Option Value):Sp:=fun vs H Q _=>∃(b:Addr) (A:Ads) (B:Bd),vs=[.ref b]∧BdAt mg H b A B∧Wr H A∧DOk B∧B.provs.length≤40∧B.units.length≤24∧((B.units.map (·.1))++(arrW B B.driven).map fun x=>x.2.1).Nodup ∧
  spEnd mg b A H (mResolve B).1 (mResolve B).2 Q
theorem sc_resolve:FnScope ["board", "goals", "outcomes", "p"] ["board"] (defScope s_resolve):=⟨rfl,rfl,rfl,by decide +kernel,rfl,by decide +kernel,by decide +kernel⟩
theorem ok_resolve (T:Txt K mg):Def P w K mg base "resolve" 6 ["board"] (sp_resolve K mg):=by
  obtain ⟨f,fd,hm,F,hb⟩:=T.f_resolve
  refine ⟨f,hm,F.kp,fd,F.ok sc_resolve (fun vs H Q E h=>?_) (fun cdv A outer s H vs Q E hr h=>?_),hb⟩
  · obtain ⟨b,A0,B,rfl,_⟩:=h;rfl
  obtain ⟨b,A0,B,rfl,hB,hW,ok,hn,hu1,hnd,k⟩:=h
  have hu:=hu_of hr
  have hu64:=hu64_of hr
  have nd:=sc_resolve.nd
  refine ⟨_,(pss_cons (ps_set (i:=1) nd rfl (by first | exact Or.inl rfl | exact Or.inr rfl) (cl (ok_arrivals T) (hr.mono (by decide)) (pa_cons (pv 0) pa_nil)))
 (pss_cons (ps_setLc (i:=2) (own:=[("p", 3)]) rfl nd rfl rfl (sw_true rfl rfl rfl rfl) (pi_list (pe_callB (cr_sortedD rfl) (by rfl) T.n_sorted boot_sorted (pa_cons (pe_fld (pv 0) (by rfl)) pa_nil))) (blkOk_by (by rfl)) (fun _ _ _ _ _=>(pg_name (i:=3) nd rfl (Or.inl rfl))) (fun _ _ _ _ _=>pts_nil) (fun _ _ _ _ _=>(pe_op (op_catTK K rfl) (pe_tup (pa_cons (pv 3) pa_nil)) (pe_dget2 hu (pv 1) (pv 3) (pgr T.r_GONE) ⟨rfl,rfl,rfl,rfl⟩))))
 (pss_cons (ps_expr (cl (ok_end_driven T) (hr.mono (by decide)) (pa_cons (pv 0) (pa_cons (pv 1) pa_nil))))
 (pss_cons (ps_expr (mth0 (ok_Board_forget_raises_and_drops T) T.k_Board (hr.mono (by decide)) (pv 0)))
 (pss_one (ps_ret (cl (ok_rows T) (hr.mono (by decide)) (pa_cons (pv 2) pa_nil)))))))),?_⟩
  have h24:=ok.len
  refine ⟨_,rfl,b,A0,B,rfl,hB,hW,ok,hn,fun H1 g kvs s1 hg hg1 hDc=>?_⟩
  have hB1:=hB.same s1
  have hW1:=hW.same hB s1
  refine ⟨_,rfl,_,_,_,_,_,rfl,hB1.obj,T.k_Board,T.n_Board_driven,rfl,A0.dr,A0.kd,B.driven.map (·.1),rfl,hB1.dr,hB1.da.keys,(by rw [List.length_map];omega),fun ns r hp hs hr=>?_⟩
  have ens:=sortI_eq hp hs
  have s2:Same H1 (upd H1 r (.lst (ns.map V.int))):=Same.mk hr
  have hlen:ns.length=B.driven.length:=by rw [hp.length_eq,List.length_map]
  have hG:∀H:Hp,SqT K H (adr mg "GONE") [.int (-1),.int 0]:=fun _=>.inr T.t_GONE
  refine ⟨_,rfl,⟨_,SqL.of upd_same⟩,fun D hD=>lc_acc (n:=ns.length) hD (by omega) (fun i acc H'=>∃bs:List Addr,acc=bs.map V.ref∧TupsAt H' bs ((ns.take i).map (outc (arrW B B.driven)))) (fun i acc H1 H2 hd s ⟨as,e,t⟩=>⟨as,e,t.butD hd s⟩)
    (fun i H2 hi s2=>⟨_,.int ns[i],SqL.of (s2 _ _ upd_same),by rw [List.getElem?_map,List.getElem?_eq_getElem hi];rfl⟩) (fun H2 s2=>⟨_,SqL.of (s2 _ _ upd_same),by rw [List.length_map];exact Nat.le_refl _⟩) ⟨[],rfl,.nil⟩ ?_ ?_⟩
  · rintro i y H3 H3' acc Nx hi s3 hDl ⟨bs,rfl,t⟩ ⟨rfl,hy⟩ kN kY
    have hy:=hy _ (SqL.of (s3 _ _ upd_same))
    rw [List.getElem?_map,Option.map_eq_some_iff] at hy
    obtain ⟨p,hp',rfl⟩:=hy
    have s13:=s2.trans s3
    have fin:∀(z:Addr) (H5:Hp),Same H3' H5→H5 z=some (.tup ((outc (arrW B B.driven) p).map V.int))→∃cs:List Addr,bs.map V.ref++[V.ref z]=cs.map V.ref∧TupsAt H5 cs ((ns.take (i + 1)).map (outc (arrW B B.driven))):=fun z H5 s5 h5=>by
      refine ⟨bs++[z],by rw [List.map_append];rfl,?_⟩
      rw [List.take_add_one,hp',List.map_append]
      exact (t.same s5).snoc h5
    refine ⟨rfl,⟨_,rfl,one_ok,fun z hz=>?_⟩⟩
    have sz:Same H3' (upd H3' z (.tup [.int p])):=Same.mk hz
    have hgz:=sz _ _ (s13 _ _ hg1)
    rcases hDc.val p with ⟨ga,gg,h1,h2,hga⟩ | ⟨h1,h2⟩
    · refine ⟨_,rfl,g,rfl,.inl ⟨_,.inl hgz⟩,_,rfl,_,dgetK (.inl hgz) p,z,ga,[.int p],[.int gg.1,.int gg.2],rfl,(by rw [h1];rfl),SqT.of upd_same,SqT.of (sz _ _ (s13 _ _ hga)),(by simp),(by show 3≤sizeLine;decide),(fun e=>by cases e),fun _ w2 hw2=>?_⟩
      refine kY _ _ (sz.trans (Same.mk hw2)) (fin w2 _ (sz.trans (Same.mk hw2)) ?_)
      rw [upd_same];unfold outc;rw [h2];rfl
    · refine ⟨_,rfl,g,rfl,.inl ⟨_,.inl hgz⟩,_,rfl,_,dgetK (.inl hgz) p,z,adr mg "GONE", [.int p],[.int (-1),.int 0],rfl,(by rw [h1];rfl),SqT.of upd_same,hG _,(by simp),(by show 3≤sizeLine;decide),(fun e=>by cases e),fun _ w2 hw2=>?_⟩
      refine kY _ _ (sz.trans (Same.mk hw2)) (fin w2 _ (sz.trans (Same.mk hw2)) ?_)
      rw [upd_same];unfold outc;rw [h2];rfl
  rintro H3 acc s3 hacc ⟨bs,rfl,t⟩
  rw [List.take_length,ens] at t
  have t:TupsAt H3 bs (outs B):=t
  have s13:=s1.trans (s2.trans s3)
  have hB3:=hB.same s13
  have hW3:=hW.same hB s13
  have hg3:=s3 _ _ (s2 _ _ hg1)
  have hDn:H D=none:=s1.free (s2.free hD)
  have nfg:¬ Foot b A0 g:=fun z=>by
    obtain ⟨o,e⟩:=hB.foot z
    rw [hg] at e;cases e
  have nfD:¬ Foot b A0 D:=fun z=>by
    obtain ⟨o,e⟩:=hB.foot z
    rw [hDn] at e;cases e
  refine ⟨_,rfl,_,rfl,b,A0,B,g,kvs,arrW B B.driven,rfl,hB3,hW3,hg3,nfg,hDc.imp (fun c x e=>s3 _ _ (s2 _ _ e)),?_,hnd,(by have:=arr_len B B.driven;omega),fun H5 A5 b5 w5 f5=>?_⟩
  · intro x hx
    have m:=arr_keys hx
    obtain ⟨y,hy,e⟩:=List.mem_map.mp m
    cases q:look B.driven x.1 with
    | none=>exact absurd e (look_none.mp q y hy)
    | some v=>rfl
  refine ⟨_,rfl,b,A5.dx,_,rfl,b5.obj,rfl,b,A5,_,rfl,b5,w5,fun H6 A6 b6 w6 f6=>?_⟩
  have f56:=f5.trans f6 fun a z=>hB3.foot z
  have t6:TupsAt H6 bs (outs B):=t.mono fun a xs e=>f56.keep a _ e (hB3.tup_nf e)
  have hD6:=f56.keep D _ hacc nfD
  have ol:=outs_len B
  refine ⟨_,rfl,D,outs B,rfl,⟨bs,hD6,t6⟩,(by omega),fun H7 q s7 hq hQ=>?_⟩
  have f07:Frm b A0 A6 H H7:=((Frm.same s13).trans f56 fun a z=>hB.foot z).trans (Frm.same s7) fun a z=>hB.foot z
  refine k.at_ (b6.same s7) (w6.same b6 s7) f07 hQ (((Frm.same s13).trans f56 fun a z=>hB.foot z).none hq) fun z=>?_
  obtain ⟨o,e⟩:=b6.foot z
  rw [hq] at e;cases e
def tk (s:List Prov×Int) (x:Int×Unt):List Prov×Int:=match s.1[x.1.toNat]? with
  | some y=>if y.centre=1∧y.owner≠x.2.power then (setOwner s.1 x.1.toNat x.2.power,s.2 + 1) else s
  | none=>s
def mTake (B:Bd):Bd×List Int:=if 0<B.driven.length then (B,[-7]) else ({ B with provs:=(B.units.foldl tk (B.provs,0)).1,raises:=[],drops:=[] },[(B.units.foldl tk (B.provs,0)).2])
theorem tk_succ (B:Bd) {i:Nat} {x:Int×Unt} (h:B.units[i]? = some x):(B.units.take (i + 1)).foldl tk (B.provs,0)=tk ((B.units.take i).foldl tk (B.provs,0)) x:=by
  rw [List.take_add_one,h,List.foldl_append]
  rfl
theorem tk_len (l:List (Int×Unt)) (s:List Prov×Int):(l.foldl tk s).1.length=s.1.length:=by
  induction l generalizing s with
  | nil=>rfl
  | cons a l ih =>
    rw [List.foldl_cons,ih]
    unfold tk
    split
    · split
      · exact setOwner_len _ _ _
      · rfl
    · rfl
def sp_take (K:PySem.W.Frag) (mg:Str→Option Value):Sp:=fun vs H Q _=>∃(b:Addr) (A:Ads) (B:Bd),vs=[.ref b]∧BdAt mg H b A B∧Wr H A∧(∀x∈B.units,IsP B x.1)∧spEnd mg b A H (mTake B).1 (mTake B).2 Q
theorem sc_take:FnScope ["board", "taken", "p", "unit", "entered"] ["board"] (defScope s_take):=⟨rfl,rfl,rfl,by decide +kernel,rfl,by decide +kernel,by decide +kernel⟩
theorem ok_take (T:Txt K mg):Def P w K mg base "take" 2 ["board"] (sp_take K mg):=by
  obtain ⟨f,fd,hm,F,hb⟩:=T.f_take
  refine ⟨f,hm,F.kp,fd,F.ok sc_take (fun vs H Q E h=>?_) (fun cdv A outer s H vs Q E hr h=>?_),hb⟩
  · obtain ⟨b,A0,B,rfl,_⟩:=h;rfl
  obtain ⟨b,A0,B,rfl,hB,hW,hP,k⟩:=h
  have hu:=hu_of hr
  have hu64:=hu64_of hr
  have nd:=sc_take.nd
  refine ⟨_,(pss_cons (ps_if (pt_cmpR op_gt (pe_callB call_lenR (by rfl) T.n_len PySem.boot_len (pa_cons (pe_fld (pv 0) (by rfl)) pa_nil)) pe_int (nomark _))
  (pss_one (ps_ret (pe_lst (pa_cons (pg T.g_SOME_DRIVEN) pa_nil))))
  pss_nil)
 (pss_cons (ps_set (i:=1) nd rfl (by first | exact Or.inl rfl | exact Or.inr rfl) pe_int)
 (pss_cons (ps_lock (ps_for PassesOwn.never rfl (pi_items (pe_fld (pv 0) (by rfl))) (pg_tup (n:=2) rfl (pgs_cons (pg_name (i:=2) nd rfl (Or.inl rfl)) (pgs_cons (pg_name (i:=3) nd rfl (Or.inl rfl)) pgs_nil)))
  (pss_cons (ps_set (i:=4) nd rfl (by first | exact Or.inl rfl | exact Or.inr rfl) (pe_ix ix_list (pe_fld (pv 0) (by rfl)) (pv 2) (fun _ _=>rfl)))
 (pss_one (ps_if (pt_cutP (pw_and (pt_cmpR op_eq (pe_fld (pv 4) (by rfl)) pe_int (nomark _)) (pw_and1 (pt_cmpR op_ne (pe_fld (pv 4) (by rfl)) (pe_fld (pv 3) (by rfl)) (nomark _)))).pt)
  (pss_cons (ps_fld (pv 4) (pe_fld (pv 3) (by rfl)) rfl)
 (pss_one (ps_aug (i:=1) nd rfl (Or.inl rfl) pe_int ip_add)))
  pss_nil)))))
 (pss_cons (ps_expr (mth0 (ok_Board_forget_raises_and_drops T) T.k_Board (hr.mono (by decide)) (pv 0)))
 (pss_one (ps_ret (pe_lst (pa_cons (pv 1) pa_nil)))))))),?_⟩
  unfold mTake at k
  refine ⟨_,rfl,_,_,_,_,_,rfl,hB.obj,T.k_Board,T.n_Board_driven,rfl,_,_,rfl,hB.dr,_,_,rfl,rfl,_,rfl,ite2 (fun e1=>?_) (fun e1=>?_)⟩
  · have e1:0<B.driven.length:=by have:=of_decide_eq_true e1;rw [hB.da.len] at this;omega
    rw [if_pos e1] at k
    exact ⟨one_ok,fun a ha=>k.ret hB hW (.refl _) ha rfl⟩
  have e1:¬ 0<B.driven.length:=fun z=>e1 (decide_eq_true (by rw [hB.da.len];omega))
  rw [if_neg e1] at k
  have hun:=hW.at_ (a:=A0.un) (by simp [dicts]) hB.un
  refine ⟨A0.un,_,hun,trivial,fun od=>?_⟩
  have hBl:=hB.mono (SameL.lock hun rfl od)
  have hl:=hB.ua.len
  refine ⟨_,rfl,_,_,_,_,_,rfl,hBl.obj,T.k_Board,T.n_Board_units,rfl,A0.un,_,_,rfl,upd_same,?_⟩
  have hul:upd H A0.un (.frz od (.dK A0.ku)) A0.un=some (.frz od (.dK A0.ku)):=upd_same
  have lo:∀a o,H a=some o→a≠A0.un→upd H A0.un (.frz od (.dK A0.ku)) a=some o:=fun a o e ne=>by rw [upd_ne ne];exact e
  generalize upd H A0.un (.frz od (.dK A0.ku))=Hl at hBl hul lo ⊢
  have nps:∀a∈dicts A0,a∉A0.ps:=fun a ha m=>by
    obtain ⟨i,hi⟩:=List.mem_iff_getElem?.mp m
    obtain ⟨p,_,dx,q⟩:=paired_get hBl.pa hi
    exact hBl.dne ha q (by rw [tag_pr];decide) rfl
  refine for_it (n:=A0.ku.length) (fun i σ H'=>∃v2 v3 v4,σ = [some (.ref b),some (.int ((B.units.take i).foldl tk (B.provs,0)).2),v2,v3,v4]∧BdAt mg H' b A0 { B with provs:=((B.units.take i).foldl tk (B.provs,0)).1 }∧∀a o,Hl a=some o→a∉A0.ps→H' a=some o)
    ⟨none,none,none,rfl,hBl,fun _ _ e _=>e⟩
    (fun i σ H' hi ⟨_,_,_,_,_,kq⟩=>⟨kq _ _ hul (nps _ (by simp [dicts])),hi⟩) (fun σ H' ⟨_,_,_,_,_,kq⟩=>⟨kq _ _ hul (nps _ (by simp [dicts])),Nat.le_refl _⟩) ?_ ?_
  · rintro i y σ H3 H3' hi ⟨v2,v3,v4,rfl,hB3,kq3⟩ ⟨tt,kk,v,hkv,rfl,hT,rfl⟩
    obtain ⟨p,u,ua,h1,h2,h3,hU3⟩:=hB3.ua.get hkv
    have h1:B.units[i]? = some (p,u):=h1
    subst h2 h3
    have sT:Same H3 (upd H3 tt (.tup [kV (Sum.inl p),.ref ua])):=Same.mk hT
    have hB4:=hB3.same sT
    obtain ⟨du,hU⟩:=hU3.mono (.of sT)
    have kq4:∀a o,Hl a=some o→a∉A0.ps→upd H3 tt (.tup [kV (Sum.inl p),.ref ua]) a=some o:=fun a o e n=>sT _ _ (kq3 a o e n)
    have ht4:upd H3 tt (.tup [kV (Sum.inl p),.ref ua]) tt=some (.tup [kV (Sum.inl p),.ref ua]):=upd_same
    refine ⟨tt,[.int p,.ref ua],rfl,SqT.of ht4,rfl,_,_,rfl,_,_,rfl,rfl,?_⟩
    generalize upd H3 tt (.tup [kV (Sum.inl p),.ref ua])=H4 at hB4 hU kq4 ⊢
    generalize hst:(B.units.take i).foldl tk (B.provs,0)=st at hB4 ⊢
    have hst1:st.1.length=B.provs.length:=by rw [← hst,tk_len]
    have ip:IsP { B with provs:=st.1 } p:=by
      have:=hP _ (List.mem_of_getElem? h1)
      unfold IsP at this ⊢
      show 0≤p∧p<(st.1.length:Int)
      rw [hst1];exact this
    obtain ⟨a,x,ha,hx,dx,hPr⟩:=hB4.prov ip
    have hx:st.1[p.toNat]? = some x:=hx
    refine ⟨_,rfl,_,_,_,_,_,rfl,hB4.obj,T.k_Board,T.n_Board_provinces,rfl,_,rfl,_,_,_,_,rfl,rfl,SqL.of hB4.pl,hB4.pat ip ha,?_⟩
    have etk:tk st (p,u)=if x.centre=1∧x.owner≠u.power then (setOwner st.1 p.toNat u.power,st.2 + 1) else st:=by
      unfold tk
      show (match st.1[p.toNat]? with | some y=>_ | none=>_)=_
      rw [hx]
    refine ⟨decide (x.centre=1) && !decide (x.owner=u.power),⟨_,rfl,_,_,_,_,_,rfl,hPr,T.k_Province,T.n_Province_centre,rfl,rfl,_,rfl,?_⟩,ite2 (fun e2=>?_) (fun e2=>?_)⟩
    · rw [decV]
      exact and_c fun q=>⟨_,rfl,_,_,_,_,_,rfl,hPr,T.k_Province,T.n_Province_owner,rfl,_,rfl,_,_,_,_,_,rfl,hU,T.k_Unit,T.n_Unit_power,rfl,rfl,_,rfl,by rw [decV,q];rfl,rfl⟩
    · rw [Bool.and_eq_true,decide_eq_true_iff,Bool.not_eq_true',decide_eq_false_iff_not] at e2
      obtain ⟨r1,r3⟩:=hB4.set_owB (.refl _) ha hx hPr u.power
      refine ⟨_,rfl,_,_,_,_,_,rfl,hU,T.k_Unit,T.n_Unit_power,rfl,_,rfl,a,_,dx,_,rfl,hPr,T.k_Province,T.n_Province_owner,(by show 4<1000;decide),?_⟩
      refine ⟨_,rfl,_,_,rfl,rfl,some (.int p),some (.ref ua),some (.ref a),?_,?_,fun c o e n=>?_⟩
      · rw [tk_succ B h1,hst,etk,if_pos e2];rfl
      · rw [tk_succ B h1,hst,etk,if_pos e2];exact r1
      · show upd H4 a _ c=some o
        rw [upd_ne (fun z=>n (by rw [z];exact List.mem_of_getElem? ha))];exact kq4 c o e n
    · rw [Bool.and_eq_true,decide_eq_true_iff,Bool.not_eq_true',decide_eq_false_iff_not] at e2
      refine ⟨some (.int p),some (.ref ua),some (.ref a),?_,?_,kq4⟩
      · rw [tk_succ B h1,hst,etk,if_neg e2];rfl
      · rw [tk_succ B h1,hst,etk,if_neg e2];exact hB4
  · rintro σ H3 ⟨v2,v3,v4,rfl,hB3,kq3⟩
    rw [hl,List.take_length] at hB3 ⊢
    have hu3:=kq3 _ _ hul (nps _ (by simp [dicts]))
    refine ⟨hu3,?_⟩
    have kp:Kp A0.un H3 (upd H3 A0.un (.dK A0.ku)):=Kp.of (Same.refl _)
    have kt:Kept mg H3 (upd H3 A0.un (.dK A0.ku)) b A0.un 3 A0 _:=hB3.kept hu3 kp
    have n:=hB.nds
    have hB4:BdAt mg (upd H3 A0.un (.dK A0.ku)) b A0 { B with provs:=(B.units.foldl tk (B.provs,0)).1 } :=
      ⟨kt.obj (by decide),kt.pl (by decide),hB3.pnd,kt.pa (by decide),kt.la n.1.2.1,kt.se n.2.1.1,.inl upd_same,kt.ua (by decide),kt.dr (Ne.symm n.2.2.1.1),kt.da (by decide) (by decide) (by decide),hB3.dnd,kt.ba (Ne.symm n.2.2.1.2.1),kt.ra (Ne.symm n.2.2.1.2.2.1),kt.raa (by decide),kt.dp (Ne.symm n.2.2.1.2.2.2),hB3.nd⟩
    have hW4:Wr (upd H3 A0.un (.dK A0.ku)) A0:=fun c hc o u z=>by
      by_cases q:c=A0.un
      · rw [q,upd_same] at z;cases z
      · rw [upd_ne q] at z
        obtain ⟨o',e,_⟩:=hB.dtag hc
        rw [kq3 c o' (lo c o' e q) (nps c hc)] at z
        cases z
        exact hW c hc _ _ e
    have f4:Frm b A0 A0 H (upd H3 A0.un (.dK A0.ku)):=by
      refine ⟨fun a o e nf=>?_,fun a z=>.inl z,fun a o e=>?_⟩
      · have q:a≠A0.un:=fun z=>nf (.inr (.inr (.inl (by rw [z];simp [dicts]))))
        rw [upd_ne q]
        exact kq3 a o (lo a o e q) fun m=>nf (.inr (.inr (.inr (.inl m))))
      · by_cases q:a=A0.un
        · rw [q];exact ⟨_,upd_same⟩
        · rw [upd_ne q]
          by_cases m:a∈A0.ps
          · obtain ⟨i,hi⟩:=List.mem_iff_getElem?.mp m
            obtain ⟨p,_,dx,q⟩:=paired_get hB3.pa hi
            exact ⟨_,q⟩
          · exact ⟨o,kq3 a o (lo a o e q) m⟩
    generalize upd H3 A0.un (.dK A0.ku)=H4 at hB4 hW4 f4 ⊢
    refine ⟨_,rfl,b,A0.dx,_,rfl,hB4.obj,rfl,b,A0,_,rfl,hB4,hW4,fun H6 A6 b6 w6 f6=>?_⟩
    exact ⟨_,rfl,one_ok,fun q hq=>k.done hB b6 w6 (f4.trans f6 fun a z=>hB.foot z) hq rfl⟩
end
end Sb
end
section
namespace Sb
open PySem PySem.Spec PyProof.Rows L2
def goneW (B:Bd) (w:Int) (l:List Int):List Int:=dropsW B w++(l.filter fun p=>!decide (p∈B.drops)).take ((unitsW B.units w).length - (centresW B w).length - (dropsW B w).length)
def goneTo (B:Bd) (ls:Nat→List Int) (i:Nat):List Int:=(List.range i).flatMap fun (w:Nat)=>goneW B (w:Int) (ls w)
structure UOk (B:Bd):Prop where
  nd:(B.units.map (·.1)).Nodup
  key:∀x∈B.units,x.2.prov=x.1
  len:B.units.length≤24
  dnd:B.drops.Nodup
  dlen:B.drops.length≤24
  din:∀p∈B.drops,(look B.units p).isSome=true
  few:∀w:Int,0≤w→w≤6→(dropsW B w).length≤(unitsW B.units w).length - (centresW B w).length
theorem goneTo_succ (B:Bd) (ls:Nat→List Int) (i:Nat):goneTo B ls (i + 1)=goneTo B ls i++goneW B (i:Int) (ls i):=by
  unfold goneTo
  rw [List.range_succ,List.flatMap_append,List.flatMap_singleton]
theorem goneTo_congr {B:Bd} {ls ms:Nat→List Int} {i:Nat} (h:∀w,w<i→ls w=ms w):goneTo B ls i=goneTo B ms i:=by
  induction i with
  | zero=>rfl
  | succ i ih=>rw [goneTo_succ,goneTo_succ,ih fun w hw=>h w (by omega),h i (by omega)]
section
variable {B:Bd} (ok:UOk B)
include ok
theorem mem_unitsW {w:Int} {u:Unt} (h:u∈unitsW B.units w):look B.units u.prov=some u∧u.power=w:=by
  unfold unitsW at h
  obtain ⟨x,hx,rfl⟩:=List.mem_map.mp h
  obtain ⟨h1,h2⟩:=List.mem_filter.mp hx
  refine ⟨?_,of_decide_eq_true h2⟩
  rw [ok.key x h1]
  exact look_of_mem ok.nd h1
theorem dis_mem {w:Int} {l:List Int} (hl:IsDis B w l) {p:Int} (h:p∈l):∃u,look B.units p=some u∧u.power=w:=by
  obtain ⟨fs,us,_,hp,_,rfl⟩:=hl
  obtain ⟨u,hu,rfl⟩:=List.mem_map.mp h
  obtain ⟨h1,h2⟩:=mem_unitsW ok (hp.mem_iff.mp hu)
  exact ⟨u,h1,h2⟩
theorem dis_nd {w:Int} {l:List Int} (hl:IsDis B w l):l.Nodup:=by
  obtain ⟨fs,us,_,hp,_,rfl⟩:=hl
  refine (hp.map (·.prov)).nodup_iff.mpr ?_
  unfold unitsW
  rw [List.map_map]
  have:((B.units.filter fun x=>decide (x.2.power=w)).map (·.1)).Nodup:=(List.filter_sublist.map _).nodup ok.nd
  have e:(B.units.filter fun x=>decide (x.2.power=w)).map ((fun u:Unt=>u.prov) ∘ fun x=>x.2)=(B.units.filter fun x=>decide (x.2.power=w)).map (·.1) :=
    List.map_congr_left fun x hx=>ok.key x (List.mem_filter.mp hx).1
  rw [e];exact this
theorem mem_dropsW {w p:Int} (h:p∈dropsW B w):p∈B.drops∧∃u,look B.units p=some u∧u.power=w:=by
  unfold dropsW at h
  obtain ⟨h1,h2⟩:=List.mem_filter.mp h
  refine ⟨h1,?_⟩
  have h2:=of_decide_eq_true h2
  rw [Option.map_eq_some_iff] at h2
  exact h2
theorem mem_goneW {w:Int} {l:List Int} (hl:IsDis B w l) {p:Int} (h:p∈goneW B w l):∃u,look B.units p=some u∧u.power=w:=by
  unfold goneW at h
  rcases List.mem_append.mp h with q | q
  · exact (mem_dropsW ok q).2
  · exact dis_mem ok hl (List.mem_filter.mp (List.mem_of_mem_take q)).1
theorem goneW_nd {w:Int} {l:List Int} (hl:IsDis B w l):(goneW B w l).Nodup:=by
  unfold goneW
  refine List.nodup_append.mpr ⟨?_,?_,fun a ha b hb e=>?_⟩
  · unfold dropsW;exact List.filter_sublist.nodup ok.dnd
  · exact (List.take_sublist _ _).nodup (List.filter_sublist.nodup (dis_nd ok hl))
  · subst e
    have h1:=(mem_dropsW ok ha).1
    have h2:=(List.mem_filter.mp (List.mem_of_mem_take hb)).2
    rw [decide_eq_true h1] at h2
    cases h2
theorem goneW_len {w:Int} {l:List Int} (h0:0≤w) (h6:w≤6):(goneW B w l).length≤(unitsW B.units w).length:=by
  unfold goneW
  rw [List.length_append,List.length_take]
  have:=ok.few w h0 h6
  omega
theorem goneTo_mem {ls:Nat→List Int} {i:Nat} (hl:∀w,w<i→IsDis B (w:Int) (ls w)) {p:Int} (h:p∈goneTo B ls i):∃w,w<i∧∃u,look B.units p=some u∧u.power=(w:Int):=by
  unfold goneTo at h
  obtain ⟨w,hw,h⟩:=List.mem_flatMap.mp h
  exact ⟨w,List.mem_range.mp hw,mem_goneW ok (hl w (List.mem_range.mp hw)) h⟩
theorem goneTo_nd {ls:Nat→List Int}:∀{i:Nat},(∀w,w<i→IsDis B (w:Int) (ls w))→(goneTo B ls i).Nodup
  | 0,_=>.nil
  | i + 1,hl=>by
    rw [goneTo_succ]
    refine List.nodup_append.mpr ⟨goneTo_nd fun w hw=>hl w (by omega),goneW_nd ok (hl i (by omega)),fun a ha b hb e=>?_⟩
    subst e
    obtain ⟨w,hw,u,h1,h2⟩:=goneTo_mem ok (fun w hw=>hl w (by omega)) ha
    obtain ⟨v,h3,h4⟩:=mem_goneW ok (hl i (by omega)) hb
    rw [h1] at h3
    cases h3
    omega
end
theorem ind_le (a:Int):∀i:Nat,((List.range i).map fun (w:Nat)=>if a=(w:Int) then 1 else 0).sum≤1∧(i≤a.toNat→((List.range i).map fun (w:Nat)=>if a=(w:Int) then 1 else 0).sum=0)
  | 0=>⟨Nat.zero_le _,fun _=>rfl⟩
  | i + 1=>by
    obtain ⟨h1,h2⟩:=ind_le a i
    rw [List.range_succ,List.map_append,List.sum_append]
    have e:((List.map (fun (w:Nat)=>if a=(w:Int) then 1 else 0) [i]).sum:Nat)=if a=(i:Int) then 1 else 0:=by
      rw [List.map_singleton];exact Nat.add_zero _
    rw [e]
    constructor
    · split
      · have:=h2 (by omega);omega
      · omega
    · intro h
      rw [if_neg (by omega)]
      have:=h2 (by omega);omega
theorem sumU:∀(l:List (Int×Unt)) (i:Nat),((List.range i).map fun (w:Nat)=>(unitsW l (w:Int)).length).sum≤l.length
  | [],i=>by
    have:((List.range i).map fun (w:Nat)=>(unitsW [] (w:Int)).length).sum=0:=by
      induction i with
      | zero=>rfl
      | succ i ih=>rw [List.range_succ,List.map_append,List.sum_append,ih];rfl
    omega
  | x::l,i=>by
    have ih:=sumU l i
    have h1:=(ind_le x.2.power i).1
    have e:∀w:Nat,(unitsW (x::l) (w:Int)).length=(unitsW l (w:Int)).length + (if x.2.power=(w:Int) then 1 else 0):=fun w=>by
      unfold unitsW
      rw [List.filter_cons]
      by_cases q:x.2.power=(w:Int)
      · rw [if_pos (decide_eq_true q),if_pos q,List.map_cons,List.length_cons]
      · rw [if_neg (fun z=>q (of_decide_eq_true z)),if_neg q];rfl
    have e2:((List.range i).map fun (w:Nat)=>(unitsW (x::l) (w:Int)).length).sum=((List.range i).map fun (w:Nat)=>(unitsW l (w:Int)).length).sum + ((List.range i).map fun (w:Nat)=>if x.2.power=(w:Int) then 1 else 0).sum:=by
      clear ih h1
      induction i with
      | zero=>rfl
      | succ i ih =>
        rw [List.range_succ,List.map_append,List.map_append,List.map_append,List.sum_append,List.sum_append,List.sum_append,ih]
        simp only [List.map_singleton,List.sum_singleton,e]
        omega
    rw [e2,List.length_cons]
    omega
theorem goneTo_len {B:Bd} (ok:UOk B) {ls:Nat→List Int} {i:Nat} (h7:i≤7):(goneTo B ls i).length≤24:=by
  have h1:(goneTo B ls i).length≤((List.range i).map fun (w:Nat)=>(unitsW B.units (w:Int)).length).sum:=by
    induction i with
    | zero=>exact Nat.zero_le _
    | succ i ih =>
      rw [goneTo_succ,List.range_succ,List.map_append,List.sum_append,List.length_append]
      have:=goneW_len ok (l:=ls i) (w:=(i:Int)) (by omega) (by omega)
      have h2:=ih (by omega)
      simp only [List.map_singleton,List.sum_singleton]
      omega
  have h2:=sumU B.units i
  have h3:=ok.len
  omega
def goneAll (B:Bd) (ls:Nat→List Int):List Int:=sortI (goneTo B ls 7)
def mSettle (B:Bd) (gl:List Int):Bd×List Int:=({ B with units:=(B.units.filter fun x=>!decide (x.1∈gl))++B.raises,raises:=[],drops:=[] },rowsU B.raises++((gl.length:Int)::gl))
end Sb
end
section
namespace Sb
open PySem PySem.Spec PyProof.Rows L2
section
variable {P:Program} {w:World} {K:PySem.W.Frag} {mg:Str→Option Value} {base:Heap}
theorem cut_take (xs:List Int) {n:Int} {k:Nat} (h:n=(k:Int)):cutV (xs.map V.int) none (some n)=(xs.take k).map V.int:=by
  subst h
  unfold cutV
  rw [HT.sIx_none,HT.sIx_nat,List.drop_zero,Nat.sub_zero,List.length_map,List.map_take]
  by_cases q:k≤xs.length
  · rw [Nat.min_eq_left q]
  · rw [Nat.min_eq_right (by omega),List.take_of_length_le (by rw [List.length_map];exact Nat.le_refl _),List.take_of_length_le (by rw [List.length_map];omega)]
def sp_gone_of (K:PySem.W.Frag) (mg:Str→Option Value):Sp:=fun vs H Q _=>∃(b:Addr) (A:Ads) (B:Bd) (w:Int),vs=[.ref b,.int w]∧BdAt mg H b A B∧Wr H A∧BOk B∧UOk B∧0≤w∧w≤6∧∀l,IsDis B w l→spL H (goneW B w l) Q
theorem sc_gone_of:FnScope ["board", "power", "ordered", "lacking", "others", "p"] ["board", "power"] (defScope s_gone_of):=⟨rfl,rfl,rfl,by decide +kernel,rfl,by decide +kernel,by decide +kernel⟩
theorem ok_gone_of (T:Txt K mg):Def P w K mg base "gone_of" 4 ["board", "power"] (sp_gone_of K mg):=by
  obtain ⟨f,fd,hm,F,hb⟩:=T.f_gone_of
  refine ⟨f,hm,F.kp,fd,F.ok sc_gone_of (fun vs H Q E h=>?_) (fun cdv A outer s H vs Q E hr h=>?_),hb⟩
  · obtain ⟨b,A0,B,w',rfl,_⟩:=h;rfl
  obtain ⟨b,A0,B,w',rfl,hB,hW,ok,uk,h0,h6,k⟩:=h
  have hu:=hu_of hr
  have hu64:=hu64_of hr
  have nd:=sc_gone_of.nd
  refine ⟨_,(pss_cons (ps_set (i:=2) nd rfl (by first | exact Or.inl rfl | exact Or.inr rfl) (cl (ok_drops_of T) (hr.mono (by decide)) (pa_cons (pv 0) (pa_cons (pv 1) pa_nil))))
 (pss_cons (ps_set (i:=3) nd rfl (by first | exact Or.inl rfl | exact Or.inr rfl) (pe_op op_sub (cl (ok_needed_drops T) (hr.mono (by decide)) (pa_cons (pv 0) (pa_cons (pv 1) pa_nil))) (pe_callB call_len_seq (by rfl) T.n_len PySem.boot_len (pa_cons (pv 2) pa_nil))))
 (pss_cons (ps_setLc (i:=4) (own:=[("p", 5)]) rfl nd rfl rfl (sw_true rfl rfl rfl rfl) (pi_list (cl (ok_disorder_of T) (hr.mono (by decide)) (pa_cons (pv 0) (pa_cons (pv 1) pa_nil)))) (blkOk_by (by rfl)) (fun _ _ _ _ _=>(pg_name (i:=5) nd rfl (Or.inl rfl))) (fun _ _ _ _ _=>pts_one (pt_cmp (pc_dnotin hu (pv 5) (pe_fldK K rfl (pv 0) (by rfl))) (by with_unfolding_all rfl))) (fun _ _ _ _ _=>(pv 5)))
 (pss_one (ps_ret (pe_op op_cat (pv 2) (pe_slice sl_list (pv 4) po_none (po_some (pv 3))))))))),?_⟩
  refine ⟨_,rfl,_,rfl,b,A0,B,w',rfl,hB,hW,uk.dlen,uk.din,fun H1 o s1 ho hO=>?_⟩
  refine ⟨_,rfl,_,rfl,b,A0,B,w',rfl,hB.same s1,hW.same hB s1,ok.n,uk.len,fun H2 s2=>⟨_,rfl,o,_,rfl,.inl (SqL.of (s2 _ _ hO)),_,_,rfl,rfl,?_⟩⟩
  have s12:=s1.trans s2
  refine ⟨_,rfl,_,rfl,b,A0,B,w',rfl,hB.same s12,hW.same hB s12,ok,uk.len,fun l hl hle H3 p s3 hp hL=>?_⟩
  have s13:=s12.trans s3
  have hB3:=hB.same s13
  refine ⟨_,rfl,⟨_,SqL.of hL⟩,fun D hD=>lc_acc (n:=l.length) hD (by omega) (fun i acc H'=>acc=((l.take i).filter fun p=>!decide (p∈B.drops)).map V.int) (fun i acc H1 H2 hd s t=>t)
    (fun i H2 hi s2=>⟨_,.int l[i],SqL.of (s2 _ _ hL),by rw [List.getElem?_map,List.getElem?_eq_getElem hi];rfl⟩) (fun H2 s2=>⟨_,SqL.of (s2 _ _ hL),by rw [List.length_map];exact Nat.le_refl _⟩) rfl ?_ ?_⟩
  · rintro i y H4 H4' acc Nx hi s4 hDl rfl ⟨rfl,hy⟩ kN kY
    have hB4:=hB3.same s4
    have hy:=hy _ (SqL.of (s4 _ _ hL))
    rw [List.getElem?_map,Option.map_eq_some_iff] at hy
    obtain ⟨q,hq,rfl⟩:=hy
    refine ⟨rfl,_,rfl,_,rfl,_,_,_,_,_,rfl,hB4.obj,T.k_Board,T.n_Board_drops,rfl,_,_,rfl,dgetK hB4.dp q,_,rfl,?_⟩
    rw [valI]
    refine ite2 (fun e=>?_) (fun e=>?_)
    · refine ⟨_,rfl,kY _ _ (.refl _) ?_⟩
      rw [take_filter hq,if_pos e,List.map_append]
      rfl
    · refine kN _ (.refl _) ?_
      rw [take_filter hq,if_neg e,List.append_nil]
  rintro H4 acc s4 hacc rfl
  rw [List.take_length] at hacc
  have s14:=s13.trans s4
  have fw:=uk.few w' h0 h6
  refine ⟨_,rfl,_,rfl,_,rfl,_,rfl,D,_,rfl,SqL.of hacc,fun r hr=>?_⟩
  have hO4:=s4 _ _ (s3 _ _ (s2 _ _ hO))
  have sr:Same H4 (upd H4 r (.lst (cutV ((l.filter fun p=>!decide (p∈B.drops)).map V.int) none (some (((((unitsW B.units w').length - (centresW B w').length:Nat):Int) - ((((dropsW B w').map V.int).length:Nat):Int))))))):=Same.mk hr
  have ec:=cut_take (l.filter fun p=>!decide (p∈B.drops)) (n:=((((unitsW B.units w').length - (centresW B w').length:Nat):Int) - ((((dropsW B w').map V.int).length:Nat):Int))) (k:=(unitsW B.units w').length - (centresW B w').length - (dropsW B w').length) (by rw [List.length_map];omega)
  rw [ec] at sr
  refine ⟨o,r,_,_,rfl,rfl,sr _ _ hO4 |> fun z=>(by rw [ec];exact z),upd_same,?_,fun z hz=>?_⟩
  · rw [ec,List.length_map,List.length_map,List.length_take]
    have h1:=uk.dlen
    have h2:(dropsW B w').length≤B.drops.length:=List.length_filter_le _ _
    have h3:=List.length_filter_le (fun p=>!decide (p∈B.drops)) l
    exact Nat.le_trans (show _≤1000 by omega) (by decide)
  · rw [ec] at hz ⊢
    refine k l hl _ z ((s14.trans sr).put ((s14.trans sr).free hz)) ((s14.trans sr).free hz) ?_
    rw [upd_same,← List.map_append]
    rfl
def sp_all_gone (K:PySem.W.Frag) (mg:Str→Option Value):Sp:=fun vs H Q _=>∃(b:Addr) (A:Ads) (B:Bd),vs=[.ref b]∧BdAt mg H b A B∧Wr H A∧BOk B∧UOk B∧∀ls:Nat→List Int,(∀w:Nat,w<7→IsDis B (w:Int) (ls w))→spL H (goneAll B ls) Q
theorem sc_all_gone:FnScope ["board", "gone", "power"] ["board"] (defScope s_all_gone):=⟨rfl,rfl,rfl,by decide +kernel,rfl,by decide +kernel,by decide +kernel⟩
theorem ok_all_gone (T:Txt K mg):Def P w K mg base "all_gone" 5 ["board"] (sp_all_gone K mg):=by
  obtain ⟨f,fd,hm,F,hb⟩:=T.f_all_gone
  refine ⟨f,hm,F.kp,fd,F.ok sc_all_gone (fun vs H Q E h=>?_) (fun cdv A outer s H vs Q E hr h=>?_),hb⟩
  · obtain ⟨b,A0,B,rfl,_⟩:=h;rfl
  obtain ⟨b,A0,B,rfl,hB,hW,ok,uk,k⟩:=h
  have hu:=hu_of hr
  have hu64:=hu64_of hr
  have nd:=sc_all_gone.nd
  refine ⟨_,(pss_cons (ps_set (i:=1) nd rfl (by first | exact Or.inl rfl | exact Or.inr rfl) (pe_lst pa_nil))
 (pss_cons (ps_for PassesOwn.never rfl (pi_tup (pgr T.r_POWERS)) (pg_name (i:=2) nd rfl (Or.inl rfl))
  (pss_one (ps_expr (pe_bm PySem.F.plainAttrs_list PySem.F.slot_list_extend PySem.F.type_list_extend mt_extend (pv 1) (pa_cons (cl (ok_gone_of T) (hr.mono (by decide)) (pa_cons (pv 0) (pa_cons (pv 2) pa_nil))) pa_nil)))))
 (pss_one (ps_ret (pe_callB cr_sorted (by rfl) T.n_sorted boot_sorted (pa_cons (pv 1) pa_nil)))))),?_⟩
  have hS:∀H:Hp,SqT K H (adr mg "POWERS") [.int 0,.int 1,.int 2,.int 3,.int 4,.int 5,.int 6]:=fun _=>.inr T.t_POWERS
  refine ⟨Nat.zero_le _,fun g hg=>?_⟩
  refine ⟨_,rfl,⟨_,hS _⟩,for_tup (K:=K) (a:=adr mg "POWERS") (xs:=[.int 0,.int 1,.int 2,.int 3,.int 4,.int 5,.int 6]) (fun i σ H'=>∃(v:Option V) (ls:Nat→List Int),σ = [some (.ref b),some (.ref g),v]∧Same H H'∧(∀w:Nat,w<i→IsDis B (w:Int) (ls w))∧H' g=some (.lst ((goneTo B ls i).map V.int)))
    ⟨none,fun _=>[],rfl,Same.mk hg,fun w hw=>(nomatch hw),upd_same⟩ (fun i σ H' _ _=>hS H') ?_ ?_⟩
  · rintro i y σ H1 hi ⟨v,ls,rfl,s1,hls,hg1⟩
    have hi7:i<7:=(List.getElem?_eq_some_iff.mp hi).1
    have hy:y=.int (i:Nat):=by
      have:(((List.range 7).map fun (j:Nat)=>V.int (j:Int)))[i]? = some y:=hi
      rw [List.getElem?_map,List.getElem?_range hi7] at this
      exact (Option.some.inj this).symm
    subst hy
    refine ⟨_,rfl,.inl ⟨rfl,_,SqL.of hg1⟩,_,rfl,_,rfl,b,A0,B,(i:Int),rfl,hB.same s1,hW.same hB s1,ok,uk,(by omega),(by omega),fun l hl H2 z s2 hz hL=>?_⟩
    have hg2:=s2 _ _ hg1
    have l1:=goneTo_len uk (ls:=ls) (i:=i) (by omega)
    have l2:=goneW_len uk (l:=l) (w:=(i:Int)) (by omega) (by omega)
    have l3:(unitsW B.units (i:Int)).length≤24:=by
      have h1:=uk.len
      unfold unitsW;rw [List.length_map]
      exact Nat.le_trans (List.length_filter_le _ _) h1
    refine ⟨g,z,_,_,rfl,rfl,hg2,hL,(by rw [List.length_map,List.length_map];exact Nat.le_trans (show _≤1000 by omega) (by decide)),?_⟩
    refine ⟨_,fun w=>if w=i then l else ls w,rfl,(s1.trans s2).put hg,fun w hw=>?_,?_⟩
    · by_cases q:w=i
      · show IsDis B (w:Int) (if w=i then l else ls w)
        rw [if_pos q,q];exact hl
      · show IsDis B (w:Int) (if w=i then l else ls w)
        rw [if_neg q];exact hls w (by omega)
    · rw [upd_same,goneTo_succ,if_pos rfl,List.map_append,goneTo_congr (ms:=ls) (fun w hw=>if_neg (by omega))]
  · rintro σ H1 ⟨v,ls,rfl,s1,hls,hg1⟩
    refine ⟨_,rfl,g,goneTo B ls 7,rfl,SqL.of hg1,(by have:=goneTo_len uk (ls:=ls) (i:=7) (by omega);omega),fun ns p hp hs hpn=>?_⟩
    have e:=sortI_eq hp hs
    refine k ls hls _ p (s1.put (s1.free hpn)) (s1.free hpn) ?_
    rw [upd_same,e];rfl
end
end Sb
end
section
namespace Sb
open PySem PySem.Spec PyProof.Rows L2
section
variable {P:Program} {w:World} {K:PySem.W.Frag} {mg:Str→Option Value} {base:Heap}
theorem Dc.drop {α:Type} {R:Addr→α→Prop} {kvs:List (Key×V)} {l:List (Int × α)} (h:Dc R kvs l) (p:Int):Dc R (dropK kvs (Sum.inl p)) (l.filter fun x=>decide (x.1≠p)):=by
  unfold Dc at h ⊢
  induction h with
  | nil=>exact .nil
  | @cons kv x kvs l r t ih =>
    by_cases q:x.1=p
    · rw [dropK_pos (by rw [r.1,q]),List.filter_cons,if_neg (by simp [q])];exact ih
    · rw [dropK_neg (by rw [r.1];intro z;exact q (Sum.inl.inj z)),List.filter_cons,if_pos (by simp [q])];exact .cons r ih
theorem Dc.app {α:Type} {R:Addr→α→Prop} {kvs mvs:List (Key×V)} {l m:List (Int × α)} (h:Dc R kvs l) (g:Dc R mvs m):Dc R (kvs++mvs) (l++m):=by
  unfold Dc at h ⊢
  induction h with
  | nil=>exact g
  | cons r t ih=>exact .cons r ih
theorem mergeK_new:∀(more kvs:List (Key×V)),((kvs++more).map (·.1)).Nodup→mergeK kvs more=kvs++more
  | [],kvs,_=>(List.append_nil _).symm
  | x::more,kvs,h=>by
    have hn:valV kvs x.1=none:=by
      cases q:valV kvs x.1 with
      | none=>rfl
      | some v =>
        have m:=valV_in q
        rw [List.map_append,List.map_cons] at h
        exact absurd rfl ((List.nodup_append.mp h).2.2 _ m _ List.mem_cons_self)
    show mergeK (putK kvs x.1 x.2) more=_
    rw [putK_new _ hn,mergeK_new more]
    · rw [List.append_assoc];rfl
    · rw [List.append_assoc];exact h
def sp_end_season (K:PySem.W.Frag) (mg:Str→Option Value):Sp:=fun vs H Q _=>∃(b:Addr) (A:Ads) (B:Bd) (g:Addr) (gl:List Int),vs=[.ref b,.ref g]∧BdAt mg H b A B∧Wr H A∧H g=some (.lst (gl.map V.int))∧¬ Foot b A g∧gl.Nodup∧(∀p∈gl,(look B.units p).isSome=true) ∧
  ((B.units++B.raises).map (·.1)).Nodup∧B.units.length≤24∧B.raises.length≤24 ∧
  ∀H' A',BdAt mg H' b A' { B with units:=(B.units.filter fun x=>!decide (x.1∈gl))++B.raises,raises:=[],drops:=[] }→Wr H' A'→Frm b A A' H H'→Q .non H'
theorem sc_end_season:FnScope ["board", "gone", "p"] ["board", "gone"] (defScope s_end_season):=⟨rfl,rfl,rfl,by decide +kernel,rfl,by decide +kernel,by decide +kernel⟩
theorem ok_end_season (T:Txt K mg):Def P w K mg base "end_season" 2 ["board", "gone"] (sp_end_season K mg):=by
  obtain ⟨f,fd,hm,F,hb⟩:=T.f_end_season
  refine ⟨f,hm,F.kp,fd,F.ok sc_end_season (fun vs H Q E h=>?_) (fun cdv A outer s H vs Q E hr h=>?_),hb⟩
  · obtain ⟨b,A0,B,g,gl,rfl,_⟩:=h;rfl
  obtain ⟨b,A0,B,g,gl,rfl,hB,hW,hg,nf,hnd,hin,hk,hu1,hr1,k⟩:=h
  have hu:=hu_of hr
  have hu64:=hu64_of hr
  have nd:=sc_end_season.nd
  refine ⟨_,(pss_cons (ps_for PassesOwn.never rfl (pi_list (pv 1)) (pg_name (i:=2) nd rfl (Or.inl rfl))
  (pss_one (ps_expr (pe_dpop1 (pe_fld (pv 0) (by rfl)) (pv 2) ⟨rfl,rfl,rfl,rfl⟩))))
 (pss_cons (ps_expr (pe_bm PySem.F.plainAttrs_dict PySem.F.slot_dict_update PySem.F.type_dict_update mt_update (pe_fld (pv 0) (by rfl)) (pa_cons (pe_fld (pv 0) (by rfl)) pa_nil)))
 (pss_one (ps_expr (mth0 (ok_Board_forget_raises_and_drops T) T.k_Board (hr.mono (by decide)) (pv 0)))))),?_⟩
  have nun:g≠A0.un:=fun z=>nf (.inr (.inr (.inl (by rw [z];simp [dicts]))))
  refine ⟨_,rfl,g,rfl,⟨_,SqL.of hg⟩,for_list (K:=K) (a:=g) (xs:=gl.map V.int) (fun i σ H'=>∃v ku,σ = [some (.ref b),some (.ref g),v]∧BdAt mg H' b { A0 with ku:=ku } { B with units:=B.units.filter fun x=>!decide (x.1∈gl.take i) }∧Wr H' { A0 with ku:=ku }∧Kp A0.un H H')
    ⟨none,A0.ku,rfl,(by
      have e:(B.units.filter fun x=>!decide (x.1∈gl.take 0))=B.units:=List.filter_eq_self.mpr fun x _=>rfl
      rw [e];exact hB),hW,fun _ _ e _=>e⟩ (fun i σ H' _ ⟨_,_,_,_,_,kp⟩=>SqL.of (kp _ _ hg nun)) ?_ ?_⟩
  · rintro i y σ H3 hi ⟨v,ku,rfl,hB3,hW3,kp3⟩
    rw [List.getElem?_map,Option.map_eq_some_iff] at hi
    obtain ⟨p,hp,rfl⟩:=hi
    have hun:=hW3.at_ (a:=A0.un) (by simp [dicts]) hB3.un
    have hpt:p∉gl.take i:=fun m=>by
      obtain ⟨j,hj⟩:=List.mem_iff_getElem?.mp m
      rw [List.getElem?_take] at hj
      split at hj
      · have:=nd_ix hnd hj hp;omega
      · cases hj
    have hlk:look (B.units.filter fun x=>!decide (x.1∈gl.take i)) p=look B.units p:=by
      unfold look
      rw [List.find?_filter]
      congr 2
      funext x
      by_cases q:x.1=p
      · rw [q,decide_eq_false hpt];simp
      · simp [q]
    rcases hB3.ua.val p with ⟨a,u,q1,q2,hU⟩ | ⟨_,q2⟩
    · obtain ⟨r1,r2,r3⟩:=hB3.set_un hW3 (Same.refl _) (hB3.ua.drop p)
      refine ⟨_,rfl,_,_,_,_,_,rfl,hB3.obj,T.k_Board,T.n_Board_units,rfl,A0.un,rfl,.inl ⟨_,.inl hun⟩,_,rfl,ku,Sum.inl p,_,hun,rfl,q1,?_⟩
      refine ⟨_,_,rfl,?_,r2,fun c o e ne=>?_⟩
      · have e:(B.units.filter fun x=>!decide (x.1∈gl.take (i + 1)))=(B.units.filter fun x=>!decide (x.1∈gl.take i)).filter fun x=>decide (x.1≠p):=by
          rw [List.filter_filter]
          refine List.filter_congr fun x _=>?_
          have et:gl.take (i + 1)=gl.take i++[p]:=by rw [List.take_add_one,hp];rfl
          rw [et]
          by_cases w1:x.1=p
          · simp [w1]
          · by_cases w2:x.1∈gl.take i
            · simp [w1,w2]
            · simp [w1,w2]
        rw [e];exact r1
      · show upd H3 A0.un _ c=some o
        rw [upd_ne ne];exact kp3 c o e ne
    · have:=hin p (List.mem_of_getElem? hp)
      have q2:look (B.units.filter fun x=>!decide (x.1∈gl.take i)) p=none:=q2
      rw [hlk] at q2
      rw [q2] at this;cases this
  · rintro σ H3 ⟨v,ku,rfl,hB3,hW3,kp3⟩
    rw [List.length_map,List.take_length] at hB3
    have hun:=hW3.at_ (a:=A0.un) (by simp [dicts]) hB3.un
    have hra:=hW3.at_ (a:=A0.ra) (by simp [dicts]) hB3.ra
    have n:=hB.nds
    have l1:=hB3.ua.len
    have l2:=hB3.raa.len
    have l3:(B.units.filter fun x=>!decide (x.1∈gl)).length≤B.units.length:=List.length_filter_le _ _
    have l1:ku.length=(B.units.filter fun x=>!decide (x.1∈gl)).length:=l1
    have l2:A0.kr.length=B.raises.length:=l2
    have hks:((ku++A0.kr).map (·.1)).Nodup:=by
      have e1:ku.map (·.1)=((B.units.filter fun x=>!decide (x.1∈gl)).map (·.1)).map Sum.inl:=hB3.ua.keys
      have e2:A0.kr.map (·.1)=(B.raises.map (·.1)).map Sum.inl:=hB3.raa.keys
      rw [List.map_append,e1,e2,← List.map_append,← List.map_append]
      unfold List.Nodup
      rw [List.pairwise_map]
      have hsub:(((B.units.filter fun x=>!decide (x.1∈gl))++B.raises).map (·.1)).Nodup:=((List.filter_sublist.append_right _).map _).nodup hk
      exact hsub.imp fun ne e=>ne (Sum.inl.inj e)
    obtain ⟨r1,r2,r3⟩:=hB3.set_un hW3 (Same.refl _) (hB3.ua.app hB3.raa)
    rw [← mergeK_new _ _ hks] at r1 r2 r3
    refine ⟨_,rfl,_,_,_,_,_,rfl,hB3.obj,T.k_Board,T.n_Board_units,rfl,.inr (.inr (.inl ⟨rfl,.inl ⟨_,hun⟩⟩)),_,rfl,_,_,_,_,_,rfl,hB3.obj,T.k_Board,T.n_Board_raises,rfl,A0.un,A0.ra,ku,A0.kr,rfl,rfl,hun,hra,n.2.2.1.2.2.1,Nat.le_trans (show _≤100 by omega) (by decide),?_⟩
    have f4:Frm b A0 { A0 with ku:=mergeK ku A0.kr } H (upd H3 A0.un (.dK (mergeK ku A0.kr))):=by
      refine ⟨fun a o e nf=>?_,fun a z=>.inl z,fun a o e=>?_⟩
      · have q:a≠A0.un:=fun z=>nf (.inr (.inr (.inl (by rw [z];simp [dicts]))))
        rw [upd_ne q];exact kp3 a o e q
      · by_cases q:a=A0.un
        · rw [q];exact ⟨_,upd_same⟩
        · exact ⟨o,by rw [upd_ne q];exact kp3 a o e q⟩
    refine ⟨_,rfl,b,A0.dx,_,rfl,r1.obj,rfl,b,_,_,rfl,r1,r2,fun H6 A6 b6 w6 f6=>?_⟩
    exact k H6 A6 b6 w6 (f4.trans f6 fun a z=>hB.foot z)
def sp_settle (K:PySem.W.Frag) (mg:Str→Option Value):Sp:=fun vs H Q _=>∃(b:Addr) (A:Ads) (B:Bd),vs=[.ref b]∧BdAt mg H b A B∧Wr H A∧BOk B∧UOk B∧((B.units++B.raises).map (·.1)).Nodup∧B.raises.length≤24∧(0<B.driven.length→spEnd mg b A H B [-7] Q) ∧
  (¬ 0<B.driven.length→∀ls:Nat→List Int,(∀w:Nat,w<7→IsDis B (w:Int) (ls w))→spEnd mg b A H (mSettle B (goneAll B ls)).1 (mSettle B (goneAll B ls)).2 Q)
theorem sc_settle:FnScope ["board", "gone", "numbers"] ["board"] (defScope s_settle):=⟨rfl,rfl,rfl,by decide +kernel,rfl,by decide +kernel,by decide +kernel⟩
theorem ok_settle (T:Txt K mg):Def P w K mg base "settle" 6 ["board"] (sp_settle K mg):=by
  obtain ⟨f,fd,hm,F,hb⟩:=T.f_settle
  refine ⟨f,hm,F.kp,fd,F.ok sc_settle (fun vs H Q E h=>?_) (fun cdv A outer s H vs Q E hr h=>?_),hb⟩
  · obtain ⟨b,A0,B,rfl,_⟩:=h;rfl
  obtain ⟨b,A0,B,rfl,hB,hW,ok,uk,hk,hr1,k1,k2⟩:=h
  have hu:=hu_of hr
  have hu64:=hu64_of hr
  have nd:=sc_settle.nd
  refine ⟨_,(pss_cons (ps_if (pt_cmpR op_gt (pe_callB call_lenR (by rfl) T.n_len PySem.boot_len (pa_cons (pe_fld (pv 0) (by rfl)) pa_nil)) pe_int (nomark _))
  (pss_one (ps_ret (pe_lst (pa_cons (pg T.g_SOME_DRIVEN) pa_nil))))
  pss_nil)
 (pss_cons (ps_set (i:=1) nd rfl (by first | exact Or.inl rfl | exact Or.inr rfl) (cl (ok_all_gone T) (hr.mono (by decide)) (pa_cons (pv 0) pa_nil)))
 (pss_cons (ps_set (i:=2) nd rfl (by first | exact Or.inl rfl | exact Or.inr rfl) (pe_op op_cat (cl (ok_rows_of_units T) (hr.mono (by decide)) (pa_cons (pe_fld (pv 0) (by rfl)) pa_nil)) (cl (ok_row T) (hr.mono (by decide)) (pa_cons (pv 1) pa_nil))))
 (pss_cons (ps_expr (cl (ok_end_season T) (hr.mono (by decide)) (pa_cons (pv 0) (pa_cons (pv 1) pa_nil))))
 (pss_one (ps_ret (pv 2))))))),?_⟩
  refine ⟨_,rfl,_,_,_,_,_,rfl,hB.obj,T.k_Board,T.n_Board_driven,rfl,_,_,rfl,hB.dr,_,_,rfl,rfl,_,rfl,ite2 (fun e1=>?_) (fun e1=>?_)⟩
  · have e1:0<B.driven.length:=by have:=of_decide_eq_true e1;rw [hB.da.len] at this;omega
    exact ⟨one_ok,fun a ha=>(k1 e1).ret hB hW (.refl _) ha rfl⟩
  have e1:¬ 0<B.driven.length:=fun z=>e1 (decide_eq_true (by rw [hB.da.len];omega))
  refine ⟨_,rfl,b,A0,B,rfl,hB,hW,ok,uk,fun ls hls H1 g s1 hg hG=>?_⟩
  have k:=k2 e1 ls hls
  have hB1:=hB.same s1
  have hW1:=hW.same hB s1
  have glen:(goneAll B ls).length≤24:=by
    unfold goneAll;rw [(sortI_perm _).length_eq];exact goneTo_len uk (by omega)
  refine ⟨_,rfl,_,_,_,_,_,rfl,hB1.obj,T.k_Board,T.n_Board_raises,rfl,A0.ra,_,_,rfl,hB1.ra,hB1.raa,hr1,fun H2 r s2 hr' hR=>?_⟩
  refine ⟨_,rfl,g,goneAll B ls,rfl,s2 _ _ hG,(by omega),fun H3 q s3 hq hQ=>?_⟩
  have hR3:=s3 _ _ hR
  have ol:=inOrd_len B.raises
  have ul:=unum_len (inOrd B.raises)
  refine ⟨r,q,_,_,rfl,rfl,hR3,hQ,(by
    rw [List.length_map,List.length_map,List.length_cons];unfold rowsU;rw [List.length_cons,ul]
    exact Nat.le_trans (show _≤1000 by omega) (by decide)),fun z hz=>?_⟩
  have s13:=s1.trans (s2.trans s3)
  have sz:Same H3 (upd H3 z (.lst ((rowsU B.raises).map V.int++(((goneAll B ls).length:Int)::goneAll B ls).map V.int))):=Same.mk hz
  have s14:=s13.trans sz
  have hz4:upd H3 z (.lst ((rowsU B.raises).map V.int++(((goneAll B ls).length:Int)::goneAll B ls).map V.int)) z=some (.lst ((mSettle B (goneAll B ls)).2.map V.int)):=by
    rw [upd_same];unfold mSettle;rw [List.map_append]
  have hzn:H z=none:=s13.free hz
  have hg4:=sz _ _ (s3 _ _ (s2 _ _ hG))
  generalize upd H3 z (.lst ((rowsU B.raises).map V.int++(((goneAll B ls).length:Int)::goneAll B ls).map V.int))=H4 at sz s14 hz4 hg4 ⊢
  have hB4:=hB.same s14
  have hW4:=hW.same hB s14
  have nfa:∀a,H a=none→¬ Foot b A0 a:=fun a e z=>by
    obtain ⟨o,q⟩:=hB.foot z
    rw [e] at q;cases q
  refine ⟨_,rfl,_,rfl,b,A0,B,g,goneAll B ls,rfl,hB4,hW4,hg4,nfa g hg,?_,?_,hk,uk.len,hr1,fun H5 A5 b5 w5 f5=>?_⟩
  · unfold goneAll;exact (sortI_perm _).nodup_iff.mpr (goneTo_nd uk hls)
  · intro p hp
    unfold goneAll at hp
    obtain ⟨w2,_,u,h1,_⟩:=goneTo_mem uk hls ((sortI_perm _).mem_iff.mp hp)
    rw [h1];rfl
  have hz5:=f5.keep z _ hz4 (nfa z hzn)
  have f05:=(Frm.same s14).trans f5 fun a z=>hB.foot z
  refine ⟨_,rfl,k.at_ b5 w5 f05 hz5 hzn fun zf=>?_⟩
  rcases f5.new z zf with q | q
  · exact nfa z hzn q
  · rw [hz4] at q;cases q
end
end Sb
end
section
namespace Sb
open PySem PySem.Spec PyProof.Rows L2
section
variable {P:Program} {w:World} {K:PySem.W.Frag} {mg:Str→Option Value} {base:Heap}
def argName:Arg→Str
  | .kind=>"kind"
  | .bit=>"zero or one"
  | .shore=>"shore"
  | .power=>"power"
  | .powerN=>"power or nobody"
  | .prov=>"province"
  | .provN=>"province or none"
theorem tab_args:tab_ARGUMENTS=sigs.map fun l=>l.map argName:=by rfl
def sp_range_of (K:PySem.W.Frag) (mg:Str→Option Value):Sp:=fun vs H Q _=>∃(b:Addr) (A:Ads) (B:Bd) (a:Arg),vs=[.ref b,.str (argName a)]∧BdAt mg H b A B∧∀H' z,Same H H'→SqT K H' z [.int (lo a),.int (hi B.provs.length a)]→Q (.ref z) H'
theorem sc_range_of:FnScope ["board", "argument"] ["board", "argument"] (defScope s_range_of):=⟨rfl,rfl,rfl,by decide +kernel,rfl,by decide +kernel,by decide +kernel⟩
theorem ok_range_of (T:Txt K mg):Def P w K mg base "range_of" 1 ["board", "argument"] (sp_range_of K mg):=by
  obtain ⟨f,fd,hm,F,hb⟩:=T.f_range_of
  refine ⟨f,hm,F.kp,fd,F.ok sc_range_of (fun vs H Q E h=>?_) (fun cdv A outer s H vs Q E hr h=>?_),hb⟩
  · obtain ⟨b,A0,B,a,rfl,_⟩:=h;rfl
  obtain ⟨b,A0,B,a,rfl,hB,k⟩:=h
  have hu:=hu_of hr
  have hu64:=hu64_of hr
  have nd:=sc_range_of.nd
  refine ⟨_,(pss_cons (ps_if (pt_cmpR op_eq (pv 1) pe_str (nomark _))
  (pss_one (ps_ret (pe_tup (pa_cons pe_int (pa_cons (pe_op op_sub (pe_callB call_len_seq (by rfl) T.n_len PySem.boot_len (pa_cons (pe_fld (pv 0) (by rfl)) pa_nil)) pe_int) pa_nil)))))
  pss_nil)
 (pss_cons (ps_if (pt_cmpR op_eq (pv 1) pe_str (nomark _))
  (pss_one (ps_ret (pe_tup (pa_cons (pe_un un_neg pe_int) (pa_cons (pe_op op_sub (pe_callB call_len_seq (by rfl) T.n_len PySem.boot_len (pa_cons (pe_fld (pv 0) (by rfl)) pa_nil)) pe_int) pa_nil)))))
  pss_nil)
 (pss_one (ps_ret (pe_kix (pgr T.r_RANGES) (pv 1) (fun _ _=>rfl)))))),?_⟩
  have hl:=hB.plen
  have tabl:∀p∈tab_RANGES,argName a=p.1→lo a=p.2.1→hi B.provs.length a=p.2.2→∃z,KTab K (adr mg "RANGES") (argName a) (.ref z)∧Q (.ref z) H:=fun p hp e1 e2 e3=>by
    obtain ⟨z,h1,h2⟩:=T.t_RANGES p hp
    refine ⟨z,by rw [e1];exact h1,k H z (.refl _) (.inr ?_)⟩
    rw [e2,e3];exact h2
  cases a with
  | prov =>
    refine ⟨_,rfl,rfl,_,rfl,?_⟩
    rw [decS,decide_eq_true (show argName .prov=("province" : Str) from rfl)]
    refine iteT ⟨_,rfl,_,_,_,_,_,rfl,hB.obj,T.k_Board,T.n_Board_provinces,rfl,_,_,rfl,.inl (SqL.of hB.pl),_,_,rfl,rfl,(by show 2≤sizeLine;decide),fun z hz=>k _ z (Same.mk hz) (SqT.of ?_)⟩
    rw [upd_same,List.length_map,hl];rfl
  | provN =>
    refine ⟨_,rfl,rfl,_,rfl,?_⟩
    rw [decS,decide_eq_false (show ¬ argName .provN=("province" : Str) by decide)]
    refine iteF ⟨_,rfl,rfl,_,rfl,?_⟩
    rw [decS,decide_eq_true (show argName .provN=("province or none" : Str) from rfl)]
    refine iteT ⟨_,rfl,_,rfl,_,_,_,_,_,rfl,hB.obj,T.k_Board,T.n_Board_provinces,rfl,_,_,rfl,.inl (SqL.of hB.pl),_,_,rfl,rfl,(by show 2≤sizeLine;decide),fun z hz=>k _ z (Same.mk hz) (SqT.of ?_)⟩
    rw [upd_same,List.length_map,hl];rfl
  | kind =>
    obtain ⟨z,h1,h2⟩:=tabl ("kind", 0,2) (by simp [tab_RANGES]) rfl rfl rfl
    refine ⟨_,rfl,rfl,_,rfl,?_⟩
    rw [decS,decide_eq_false (show ¬ argName .kind=("province" : Str) by decide)]
    refine iteF ⟨_,rfl,rfl,_,rfl,?_⟩
    rw [decS,decide_eq_false (show ¬ argName .kind=("province or none" : Str) by decide)]
    exact iteF ⟨_,rfl,_,_,_,rfl,rfl,h1,h2⟩
  | bit =>
    obtain ⟨z,h1,h2⟩:=tabl ("zero or one", 0,1) (by simp [tab_RANGES]) rfl rfl rfl
    refine ⟨_,rfl,rfl,_,rfl,?_⟩
    rw [decS,decide_eq_false (show ¬ argName .bit=("province" : Str) by decide)]
    refine iteF ⟨_,rfl,rfl,_,rfl,?_⟩
    rw [decS,decide_eq_false (show ¬ argName .bit=("province or none" : Str) by decide)]
    exact iteF ⟨_,rfl,_,_,_,rfl,rfl,h1,h2⟩
  | shore =>
    obtain ⟨z,h1,h2⟩:=tabl ("shore", 0,3) (by simp [tab_RANGES]) rfl rfl rfl
    refine ⟨_,rfl,rfl,_,rfl,?_⟩
    rw [decS,decide_eq_false (show ¬ argName .shore=("province" : Str) by decide)]
    refine iteF ⟨_,rfl,rfl,_,rfl,?_⟩
    rw [decS,decide_eq_false (show ¬ argName .shore=("province or none" : Str) by decide)]
    exact iteF ⟨_,rfl,_,_,_,rfl,rfl,h1,h2⟩
  | power =>
    obtain ⟨z,h1,h2⟩:=tabl ("power", 0,6) (by simp [tab_RANGES]) rfl rfl rfl
    refine ⟨_,rfl,rfl,_,rfl,?_⟩
    rw [decS,decide_eq_false (show ¬ argName .power=("province" : Str) by decide)]
    refine iteF ⟨_,rfl,rfl,_,rfl,?_⟩
    rw [decS,decide_eq_false (show ¬ argName .power=("province or none" : Str) by decide)]
    exact iteF ⟨_,rfl,_,_,_,rfl,rfl,h1,h2⟩
  | powerN =>
    obtain ⟨z,h1,h2⟩:=tabl ("power or nobody", -1,6) (by simp [tab_RANGES]) rfl rfl rfl
    refine ⟨_,rfl,rfl,_,rfl,?_⟩
    rw [decS,decide_eq_false (show ¬ argName .powerN=("province" : Str) by decide)]
    refine iteF ⟨_,rfl,rfl,_,rfl,?_⟩
    rw [decS,decide_eq_false (show ¬ argName .powerN=("province or none" : Str) by decide)]
    exact iteF ⟨_,rfl,_,_,_,rfl,rfl,h1,h2⟩
theorem inR_iff (n:Nat):∀(l:List Arg) (r:List Int),inR n l r=true↔∀(i:Nat) (a:Arg) (x:Int),l[i]? = some a→r[i]? = some x→lo a≤x∧x≤hi n a
  | [],r=>by
    refine ⟨fun _ i a x h=>by simp at h,fun _=>?_⟩
    unfold inR;rfl
  | a::l,[]=>by
    refine ⟨fun _ i a x _ h=>by simp at h,fun _=>?_⟩
    unfold inR;rfl
  | a::l,x::r=>by
    have ih:=inR_iff n l r
    show (Vbsoag.within x (lo a) (hi n a) && inR n l r)=true↔_
    rw [Bool.and_eq_true,ih]
    have hw:Vbsoag.within x (lo a) (hi n a)=true↔lo a≤x∧x≤hi n a:=by
      unfold Vbsoag.within;rw [Bool.and_eq_true,decide_eq_true_iff,decide_eq_true_iff]
    rw [hw]
    constructor
    · rintro ⟨h1,h2⟩ i b y hb hy
      cases i with
      | zero=>cases hb;cases hy;exact h1
      | succ i=>exact h2 i b y (by simpa using hb) (by simpa using hy)
    · intro h
      exact ⟨h 0 a x rfl rfl,fun i b y hb hy=>h (i + 1) b y (by simpa using hb) (by simpa using hy)⟩
theorem args_at (T:Txt K mg) {j:Nat} (hj:j<22):∃(as:List Addr) (a:Addr),KTup K (adr mg "ARGUMENTS") (as.map V.ref)∧as[j]? = some a∧KTup K a (((sig j).map argName).map V.str):=by
  obtain ⟨as,h1,h2⟩:=T.t_ARGUMENTS
  have hl:as.length=22:=by rw [Paired.length h2];rfl
  obtain ⟨xs,h3,h4⟩:=paired_get h2 (List.getElem?_eq_getElem (show j<as.length by omega))
  refine ⟨as,as[j]'(by omega),h1,List.getElem?_eq_getElem (by omega),?_⟩
  rw [tab_args,List.getElem?_map] at h3
  have e:sigs[j]? = some (sig j):=by
    unfold sig
    rw [List.getD_eq_getElem?_getD]
    rw [List.getElem?_eq_getElem (show j<sigs.length by exact hj)];rfl
  rw [e] at h3
  cases h3
  exact h4
def sp_all_in_range (K:PySem.W.Frag) (mg:Str→Option Value):Sp:=fun vs H Q _=>∃(b:Addr) (A:Ads) (B:Bd) (j:Nat) (v:Addr) (args:List Int),vs=[.ref b,.int (j:Int),.ref v]∧BdAt mg H b A B∧j<22∧H v=some (.lst (args.map V.int))∧args.length=ar j ∧
  ∀H',Same H H'→Q (.bl (inR B.provs.length (sig j) args)) H'
theorem sc_all_in_range:FnScope ["board", "number", "values", "argument", "value", "ends"] ["board", "number", "values"] (defScope s_all_in_range):=⟨rfl,rfl,rfl,by decide +kernel,rfl,by decide +kernel,by decide +kernel⟩
theorem ok_all_in_range (T:Txt K mg):Def P w K mg base "all_in_range" 2 ["board", "number", "values"] (sp_all_in_range K mg):=by
  obtain ⟨f,fd,hm,F,hb⟩:=T.f_all_in_range
  refine ⟨f,hm,F.kp,fd,F.ok sc_all_in_range (fun vs H Q E h=>?_) (fun cdv A outer s H vs Q E hr h=>?_),hb⟩
  · obtain ⟨b,A0,B,j,v,args,rfl,_⟩:=h;rfl
  obtain ⟨b,A0,B,j,v,args,rfl,hB,hj,hv,hlen,k⟩:=h
  have hu:=hu_of hr
  have hu64:=hu64_of hr
  have nd:=sc_all_in_range.nd
  refine ⟨_,(pss_cons (ps_for PassesOwn.never rfl (pi_zipT rfl T.n_zip (pa_cons (pe_ix ix_tup (pgr T.r_ARGUMENTS) (pv 1) (fun _ _=>rfl)) (pa_cons (pv 2) pa_nil))) (pg_tup (n:=2) rfl (pgs_cons (pg_name (i:=3) nd rfl (Or.inl rfl)) (pgs_cons (pg_name (i:=4) nd rfl (Or.inl rfl)) pgs_nil)))
  (pss_cons (ps_set (i:=5) nd rfl (by first | exact Or.inl rfl | exact Or.inr rfl) (cl (ok_range_of T) (hr.mono (by decide)) (pa_cons (pv 0) (pa_cons (pv 3) pa_nil))))
 (pss_one (ps_if (pt_cutP (pw_or (pt_cmpR op_lt (pv 4) (pe_ix ix_tup (pv 5) pe_int (fun _ _=>rfl)) (nomark _)) (pw_or1 (pt_cmpR op_gt (pv 4) (pe_ix ix_tup (pv 5) pe_int (fun _ _=>rfl)) (nomark _)))).pt)
  (pss_one (ps_ret pe_bl))
  pss_nil))))
 (pss_one (ps_ret pe_bl))),?_⟩
  obtain ⟨as,a,h1,h2,h3⟩:=args_at T hj
  have hS:∀H:Hp,SqT K H a (((sig j).map argName).map V.str):=fun _=>.inr h3
  have hl2:=sig_len j hj
  refine ⟨_,rfl,_,_,_,_,rfl,rfl,.inr h1,at_of (j:=j) (v:=V.ref a) rfl (by rw [List.getElem?_map,h2];rfl),_,rfl,a,v,_,_,rfl,hS H,SqL.of hv,?_⟩
  refine for_zipT (K:=K) (a:=a) (b:=v) (xs:=((sig j).map argName).map V.str) (ys:=args.map V.int) (by rw [List.length_map,List.length_map,List.length_map,hl2,hlen])
    (fun i σ H'=>∃v3 v4 v5,σ = [some (.ref b),some (.int (j:Int)),some (.ref v),v3,v4,v5]∧Same H H'∧∀(m:Nat) (c:Arg) (x:Int),m<i→(sig j)[m]? = some c→args[m]? = some x→lo c≤x∧x≤hi B.provs.length c)
    ⟨none,none,none,rfl,.refl _,fun m c x h=>nomatch h⟩ (fun i σ H' _ ⟨_,_,_,_,s,_⟩=>⟨hS H',SqL.of (s _ _ hv)⟩) ?_ ?_
  · rintro i y1 y2 tt σ H1 hy1 hy2 ⟨v3,v4,v5,rfl,s1,hin⟩ hT
    rw [List.map_map,List.getElem?_map,Option.map_eq_some_iff] at hy1
    obtain ⟨c,hc,rfl⟩:=hy1
    rw [List.getElem?_map,Option.map_eq_some_iff] at hy2
    obtain ⟨x,hx,rfl⟩:=hy2
    have sT:Same H1 (upd H1 tt (.tup [(V.str ∘ argName) c,V.int x])):=Same.mk hT
    have s2:=s1.trans sT
    refine ⟨tt,[.str (argName c),.int x],rfl,SqT.of upd_same,rfl,_,_,rfl,_,_,rfl,rfl,?_⟩
    refine ⟨_,rfl,_,rfl,b,A0,B,c,rfl,hB.same s2,fun H3 z s3 hz=>?_⟩
    refine ⟨decide (x<lo c) || decide (x > hi B.provs.length c),⟨_,rfl,_,rfl,_,_,_,_,rfl,rfl,hz,rfl,_,_,rfl,rfl,_,rfl,?_⟩,ite2 (fun e=>?_) (fun e=>?_)⟩
    · exact or_c fun q=>⟨_,rfl,_,rfl,_,_,_,_,rfl,rfl,hz,rfl,_,_,rfl,rfl,_,rfl,by rw [q];rfl,rfl⟩
    · rw [Bool.or_eq_true,decide_eq_true_iff,decide_eq_true_iff] at e
      have ef:inR B.provs.length (sig j) args=false:=by
        cases q:inR B.provs.length (sig j) args with
        | false=>rfl
        | true =>
          have:=(inR_iff _ _ _).mp q i c x hc hx
          omega
      rw [ef] at k
      exact k _ (s2.trans s3)
    · rw [Bool.or_eq_true,decide_eq_true_iff,decide_eq_true_iff] at e
      refine ⟨_,_,_,rfl,s2.trans s3,fun m c' x' hm hc' hx'=>?_⟩
      by_cases q:m=i
      · subst q
        rw [hc] at hc';cases hc'
        rw [hx] at hx';cases hx'
        omega
      · exact hin m c' x' (by omega) hc' hx'
  · rintro σ H1 ⟨v3,v4,v5,rfl,s1,hin⟩
    have et:inR B.provs.length (sig j) args=true:=(inR_iff _ _ _).mpr fun m c x hc hx=>hin m c x (by
      have:=(List.getElem?_eq_some_iff.mp hc).1
      rw [List.length_map,List.length_map];exact this) hc hx
    rw [et] at k
    exact k _ s1
end
end Sb
end
section
namespace Sb
open PySem PySem.Spec PyProof.Rows L2
structure RX (B:Bd) (t:Vbsoag.Table):Prop where
  rf:Rf B t
  few:∀w:Int,0≤w→w≤6→(dropsW B w).length≤(unitsW B.units w).length - (centresW B w).length
def spStep (mg:Str→Option Value) (b:Addr) (A:Ads) (H:Hp) (t:Vbsoag.Table) (out:List Int) (Q:VK):Prop:=∀(H':Hp) (A':Ads) (B':Bd) (p:Addr),BdAt mg H' b A' B'→Wr H' A'→RX B' t→Frm b A A' H H'→H' p=some (.lst (out.map V.int))→H p=none→¬ Foot b A' p→out.length≤1000→Q (.ref p) H'
def stepSp (mg:Str→Option Value) (j:Nat):Sp:=fun vs H Q _=>∃(b:Addr) (A:Ads) (B:Bd) (t:Vbsoag.Table) (args:List Int),vs=.ref b::args.map V.int∧BdAt mg H b A B∧Wr H A∧RX B t∧args.length=ar j∧inR B.provs.length (sig j) args=true ∧
  spStep mg b A H (stepN t j args).1 (stepN t j args).2 Q
theorem spStep.of {mg:Str→Option Value} {b:Addr} {A:Ads} {H:Hp} {t:Vbsoag.Table} {B':Bd} {out:List Int} {Q:VK} (k:spStep mg b A H t out Q) (r:RX B' t) (hl:out.length≤1000):spEnd mg b A H B' out Q :=
  fun H' A' p h1 h2 h3 h4 h5 h6=>k H' A' B' p h1 h2 r h3 h4 h5 h6 hl
theorem FnAt.imp {P:Program} {w:World} {K:PySem.W.Frag} {mg:Str→Option Value} {base:Heap} {f:Addr} {j k:Nat} {ps:List Str} {sp sp':Sp} (F:FnAt P w K mg base f j ps sp) (hk:j≤k) (h:∀vs H Q E,sp' vs H Q E→sp vs H Q E):FnAt P w K mg base f k ps sp':=by
  obtain ⟨h1,fd,h2,h3⟩:=F
  exact ⟨h1,fd,(h2.mono hk).imp h,h3⟩
theorem Def.at_ {P:Program} {w:World} {K:PySem.W.Frag} {mg:Str→Option Value} {base:Heap} {x:Str} {j k:Nat} {ps:List Str} {sp sp':Sp} (D:Def P w K mg base x j ps sp) (hk:j≤k) (h:∀vs H Q E,sp' vs H Q E→sp vs H Q E):FnAt P w K mg base (adr mg x) k ps sp':=by
  obtain ⟨f,hm,F⟩:=D
  have e:adr mg x=f:=by unfold adr;rw [hm]
  rw [e]
  exact FnAt.imp F hk h
end Sb
end
section
namespace Sb
open Vbsoaa (Board Man Men kind place linked manAt)
open Vbsoag (Driven Table putIn putMan putOut pairAt provinces outAt)
theorem nodup_sub:∀{l m:List Int},l.Nodup→(∀x∈l,x∈m)→l.length≤m.length
  | [],_,_,_=>Nat.zero_le _
  | a::l,m,hd,h=>by
    have hd':=List.nodup_cons.mp hd
    have ha:=h a List.mem_cons_self
    have ih:=nodup_sub (l:=l) (m:=m.erase a) hd'.2 fun x hx=>(List.mem_erase_of_ne (fun e=>hd'.1 (by rw [← e];exact hx))).mpr (h x (List.mem_cons_of_mem _ hx))
    have h1:=List.length_erase_of_mem ha
    have h2:=List.length_pos_of_mem ha
    rw [List.length_cons]
    omega
section
variable {B:Bd} {t:Table} (R:Rf B t)
include R
theorem ukeys_nd:(B.units.map (·.1)).Nodup:=(R.units.map _).nodup_iff.mpr (men_nodup R.usort)
theorem rkeys_nd:(B.raises.map (·.1)).Nodup:=(R.raises.map _).nodup_iff.mpr (men_nodup R.rsort)
theorem dkeys_nd:(B.driven.map (·.1)).Nodup:=(R.driven.map _).nodup_iff.mpr (out_nodup R.dsort)
theorem unitsP {l:List (Int×Unt)} {m:Men} (h:l.Perm (m.map encMan)) {w:Int} (hw:0≤w):(unitsW l w).Perm ((m.filter fun x=>x.power == w.toNat).map untOf):=by
  unfold unitsW
  refine ((h.filter _).map _).trans (List.Perm.of_eq ?_)
  rw [List.filter_map,List.map_map]
  have e:m.filter ((fun x:Int×Unt=>decide (x.2.power=w)) ∘ encMan)=m.filter fun x=>x.power == w.toNat:=by
    refine List.filter_congr fun x _=>?_
    show decide ((x.power:Int)=w)=(x.power == w.toNat)
    rw [Bool.eq_iff_iff,decide_eq_true_iff,beq_iff_eq]
    omega
  rw [e]
  rfl
theorem unitsW_len {w:Int} (hw:0≤w):(unitsW B.units w).length=(Vbsoag.unitsOf t w.toNat).length:=by
  rw [(unitsP R R.units hw).length_eq,List.length_map];rfl
theorem raisesW_len {w:Int} (hw:0≤w):(unitsW B.raises w).length=(Vbsoag.raisesOf t w.toNat).length:=by
  rw [(unitsP R R.raises hw).length_eq,List.length_map];rfl
theorem own_at {i:Nat} {w:Int} (hw:0≤w):(isCen B i && (pairAt t.owners i == some w.toNat))=decide ((B.provs[i]?.map (·.owner))=some w):=by
  rw [R.own i]
  unfold isCen
  cases e:B.provs[i]? with
  | none=>rfl
  | some p =>
    have ok:=R.pok p (List.mem_of_getElem? e)
    obtain ⟨_,_,hc,_,_,ho,_,hz⟩:=ok
    simp only [Option.map_some,Option.bind_some]
    rw [Bool.eq_iff_iff,Bool.and_eq_true,decide_eq_true_iff,beq_iff_eq,beq_iff_eq]
    constructor
    · rintro ⟨h1,h2⟩
      by_cases q:p.owner = -1
      · rw [if_pos q] at h2;cases h2
      · rw [if_neg q] at h2
        have:=Option.some.inj h2
        exact congrArg some (by omega)
    · intro h
      have h:=Option.some.inj h
      refine ⟨?_,?_⟩
      · rcases hc with q | q
        · have:=hz q;omega
        · rw [q]
      · rw [if_neg (by omega),h]
theorem hom_at {i:Nat} {w:Int} (hw:0≤w):(isCen B i && (pairAt t.homes i == some w.toNat))=decide ((B.provs[i]?.map (·.home))=some w):=by
  rw [R.hom i]
  unfold isCen
  cases e:B.provs[i]? with
  | none=>rfl
  | some p =>
    have ok:=R.pok p (List.mem_of_getElem? e)
    obtain ⟨_,_,hc,hh,_,_,_,hz⟩:=ok
    simp only [Option.map_some,Option.bind_some]
    rw [Bool.eq_iff_iff,Bool.and_eq_true,decide_eq_true_iff,beq_iff_eq,beq_iff_eq]
    constructor
    · rintro ⟨h1,h2⟩
      by_cases q:p.home = -1
      · rw [if_pos q] at h2;cases h2
      · rw [if_neg q] at h2
        have:=Option.some.inj h2
        exact congrArg some (by omega)
    · intro h
      have h:=Option.some.inj h
      refine ⟨?_,?_⟩
      · rcases hc with q | q
        · have:=hz q;omega
        · rw [q]
      · rw [if_neg (by omega),h]
theorem cen_filter (f:Nat→Bool):t.centres.filter f=(List.range B.provs.length).filter fun i=>isCen B i && f i:=by
  rw [R.cen,List.filter_filter]
  refine List.filter_congr fun i _=>?_
  rw [Bool.and_comm]
theorem centresW_eq {w:Int} (hw:0≤w):centresW B w=Vbsoag.ints (Vbsoag.ownedBy t w.toNat):=by
  unfold centresW provsW Vbsoag.ownedBy Vbsoag.ints
  rw [cen_filter R]
  congr 1
  refine List.filter_congr fun i _=>?_
  rw [own_at R hw]
theorem homesW_eq {w:Int} (hw:0≤w):provsW (·.home) B w=Vbsoag.ints (Vbsoag.homesOf t w.toNat):=by
  unfold provsW Vbsoag.homesOf Vbsoag.ints
  rw [cen_filter R]
  congr 1
  refine List.filter_congr fun i _=>?_
  rw [hom_at R hw]
theorem centresW_len {w:Int} (hw:0≤w):(centresW B w).length=(Vbsoag.ownedBy t w.toNat).length:=by
  rw [centresW_eq R hw];unfold Vbsoag.ints;rw [List.length_map]
theorem look_u {p:Nat}:look B.units (p:Int)=(manAt t.men p).map untOf:=by
  have h:(0:Int)≤(p:Int):=by omega
  rw [R.look,if_pos h,Int.toNat_natCast]
theorem look_r (p:Int):look B.raises p=if 0≤p then (manAt t.raises p.toNat).map untOf else none:=by
  rw [← look_men]
  exact look_perm R.raises (rkeys_nd R) p
theorem sitesW_eq {w:Int} (hw:0≤w):sitesW B w=Vbsoag.ints (Vbsoag.sites t w.toNat):=by
  unfold sitesW centresW provsW Vbsoag.sites Vbsoag.ints
  rw [cen_filter R,List.filter_map]
  congr 1
  rw [List.filter_filter]
  refine List.filter_congr fun i _=>?_
  show ((decide ((B.provs[((i:Nat):Int).toNat]?.map (·.home))=some w) && (look B.units ((i:Nat):Int)).isNone) && decide ((B.provs[i]?.map (·.owner))=some w))=(isCen B i && (pairAt t.homes i == some w.toNat && (pairAt t.owners i == some w.toNat && (manAt t.men i).isNone)))
  rw [Int.toNat_natCast,look_u R,Option.isNone_map,← hom_at R hw,← own_at R hw]
  cases isCen B i <;> cases (pairAt t.homes i == some w.toNat) <;> cases (pairAt t.owners i == some w.toNat) <;> cases (manAt t.men i).isNone <;> rfl
theorem dropsP {w:Int} (hw:0≤w):(dropsW B w).Perm ((Vbsoag.dropsOf t w.toNat).map Int.ofNat):=by
  unfold dropsW
  refine (R.drops.filter _).trans (List.Perm.of_eq ?_)
  rw [List.filter_map]
  congr 1
  refine List.filter_congr fun p hp=>?_
  show decide ((look B.units ((p:Nat):Int)).map (·.power)=some w)=(Vbsoag.unitsOf t w.toNat).any fun m=>m.prov == p
  rw [look_u R,Bool.eq_iff_iff,decide_eq_true_iff,List.any_eq_true]
  constructor
  · intro h
    rw [Option.map_map,Option.map_eq_some_iff] at h
    obtain ⟨m,h1,h2⟩:=h
    obtain ⟨h3,h4⟩:=manAt_some h1
    refine ⟨m,List.mem_filter.mpr ⟨h3,?_⟩,by rw [beq_iff_eq];exact h4⟩
    have h2:(m.power:Int)=w:=h2
    rw [beq_iff_eq];omega
  · rintro ⟨m,hm,h⟩
    obtain ⟨h1,h2⟩:=List.mem_filter.mp hm
    rw [beq_iff_eq] at h h2
    subst h
    rw [manAt_of_mem R.usort h1]
    show some (m.power:Int)=some w
    exact congrArg some (by omega)
theorem dropsW_len {w:Int} (hw:0≤w):(dropsW B w).length=(Vbsoag.dropsOf t w.toNat).length:=by
  rw [(dropsP R hw).length_eq,List.length_map]
theorem bok:BOk B where
  n:=R.plen
  la:=by rw [R.land,List.length_map];exact R.landlen
  se:=by rw [R.sea,List.length_map];exact R.sealen
  pp:=fun x hx=>by
    unfold pairsB at hx
    rcases List.mem_append.mp hx with h | h
    · rw [R.land] at h
      obtain ⟨k,hk,rfl⟩:=List.mem_map.mp h
      obtain ⟨h1,h2,_⟩:=R.landok k hk
      unfold lkey landKey IsP
      split <;> exact ⟨⟨by omega,by omega⟩,⟨by omega,by omega⟩⟩
    · rw [R.sea] at h
      obtain ⟨k',hk',rfl⟩:=List.mem_map.mp h
      obtain ⟨k,hk,rfl⟩:=List.mem_map.mp hk'
      obtain ⟨h1,h2,_⟩:=R.seaok k hk
      unfold seaP skey seaKey IsP
      split <;> exact ⟨⟨by show (0:Int)≤((_:Nat):Int);omega,by show ((_:Nat):Int)<_;omega⟩,⟨by show (0:Int)≤((_:Nat):Int);omega,by show ((_:Nat):Int)<_;omega⟩⟩
theorem units24:B.units.length≤24:=by rw [R.ulen];have:=R.few;omega
theorem driven24:B.driven.length≤24:=by rw [R.dlen];have:=R.few;omega
theorem raises24:B.raises.length≤24:=by rw [R.raises.length_eq,List.length_map];have:=R.rfew;omega
theorem drops_in:∀p∈B.drops,(look B.units p).isSome=true:=fun p hp=>by
  obtain ⟨h0,hm⟩:=(mem_nats R.drops p).mp hp
  obtain ⟨m,h1,h2⟩:=R.xok _ hm
  rw [R.look,if_pos h0,← h2,manAt_of_mem R.usort h1];rfl
theorem drops_nd:B.drops.Nodup:=by
  refine R.drops.nodup_iff.mpr ?_
  unfold List.Nodup
  rw [List.pairwise_map]
  exact R.xsort.imp fun h e=>by
    have:(_:Nat)=_:=Int.ofNat.inj e
    omega
theorem drops24:B.drops.length≤24:=by
  have h1:B.drops.Nodup:=drops_nd R
  have h2:∀p∈B.drops,p∈B.units.map (·.1):=fun p hp=>by
    have:=drops_in R p hp
    obtain ⟨u,hu⟩:=Option.isSome_iff_exists.mp this
    exact List.mem_map.mpr ⟨_,look_some_mem hu,rfl⟩
  have h4:=nodup_sub h1 h2
  rw [List.length_map] at h4
  have:=units24 R
  omega
theorem units_isP:∀x∈B.units,IsP B x.1:=fun x hx=>by
  obtain ⟨m,hm,rfl⟩:=List.mem_map.mp (R.units.mem_iff.mp hx)
  have:=(R.uok m hm).1
  unfold IsP
  exact ⟨by show (0:Int)≤(m.prov:Int);omega,by show (m.prov:Int)<_;omega⟩
theorem dok':DOk B where
  nd:=dkeys_nd R
  len:=driven24 R
  go:=fun x hx h=>by
    obtain ⟨d,hd,rfl⟩:=List.mem_map.mp (R.driven.mem_iff.mp hx)
    have h:ordC d.order=1:=h
    show ∃g,goalC d.order=some g
    cases e:d.order with
    | none=>rw [e] at h;cases h
    | some o =>
      cases o with
      | none=>rw [e] at h;cases h
      | some x=>exact ⟨_,rfl⟩
theorem ur_nd:((B.units++B.raises).map (·.1)).Nodup:=by
  rw [List.map_append]
  refine List.nodup_append.mpr ⟨ukeys_nd R,rkeys_nd R,fun a ha b hb e=>?_⟩
  subst e
  obtain ⟨x,hx,ex⟩:=List.mem_map.mp ha
  obtain ⟨y,hy,ey⟩:=List.mem_map.mp hb
  obtain ⟨m,hm,rfl⟩:=List.mem_map.mp (R.units.mem_iff.mp hx)
  obtain ⟨r,hr,rfl⟩:=List.mem_map.mp (R.raises.mem_iff.mp hy)
  have h1:(m.prov:Int)=a:=ex
  have h2:(r.prov:Int)=a:=ey
  exact (R.rok r hr).2 m hm (by omega)
end
theorem RX.uok {B:Bd} {t:Table} (X:RX B t):UOk B where
  nd:=ukeys_nd X.rf
  key:=fun x hx=>by
    obtain ⟨m,hm,rfl⟩:=List.mem_map.mp (X.rf.units.mem_iff.mp hx)
    rfl
  len:=units24 X.rf
  dnd:=drops_nd X.rf
  dlen:=drops24 X.rf
  din:=drops_in X.rf
  few:=X.few
end Sb
end
section
namespace Sb
open Vbsoaa (Board Man Men kind place linked manAt)
open Vbsoag (Driven Table putIn putMan putOut pairAt provinces outAt)
def Few (B:Bd):Prop:=∀w:Int,0≤w→w≤6→(dropsW B w).length≤(unitsW B.units w).length - (centresW B w).length
theorem few_nil {B:Bd} (h:B.drops=[]):Few B:=fun w _ _=>by unfold dropsW;rw [h];exact Nat.zero_le _
section
variable {B:Bd} {t:Table} (R:Rf B t)
include R
theorem pow_ok {w:Int} (hw:0≤w∧w≤6):¬ Vbsoag.isPower w=false:=by
  rw [show Vbsoag.isPower w=true from within_iff.mpr hw];decide
theorem st_balance {w:Int} (hw:0≤w∧w≤6):Vbsoag.step t (.balance w)=(t,[((centresW B w).length:Int),((unitsW B.units w).length:Int),((unitsW B.raises w).length:Int),((dropsW B w).length:Int)]):=by
  show (if Vbsoag.isPower w=false then (t,[-1]) else _)=_
  rw [if_neg (pow_ok R hw),centresW_len R hw.1,unitsW_len R hw.1,raisesW_len R hw.1,dropsW_len R hw.1]
  rfl
theorem st_sites {w:Int} (hw:0≤w∧w≤6):Vbsoag.step t (.sites w)=(t,((sitesW B w).length:Int)::sitesW B w):=by
  show (if Vbsoag.isPower w=false then (t,[-1]) else (t,Vbsoag.row (Vbsoag.sites t w.toNat)))=_
  rw [if_neg (pow_ok R hw),sitesW_eq R hw.1]
  unfold Vbsoag.row Vbsoag.ints
  rw [List.map_cons,List.length_map]
  rfl
theorem busy_iff:Vbsoag.busy t=true↔0<B.driven.length:=by
  unfold Vbsoag.busy
  rw [R.dlen]
  cases t.out <;> simp
theorem inOrd_of {l:List (Int×Unt)} {m:Men} (h:l.Perm (m.map encMan)) (hs:m.Pairwise fun a b=>a.prov<b.prov):inOrd l=m.map untOf:=by
  have e:m.map (fun x=>(x.prov:Int))=sortI (l.map (·.1)):=by
    refine sortI_eq ?_ ?_
    · rw [← men_keys];exact (h.map _).symm
    · rw [List.pairwise_map];exact hs.imp fun q=>by omega
  unfold inOrd
  rw [← e,List.filterMap_map]
  have nd:(l.map (·.1)).Nodup:=(h.map _).nodup_iff.mpr (men_nodup hs)
  have:∀x∈m,(look l ∘ fun x:Man=>(x.prov:Int)) x=some (untOf x):=fun x hx =>
    look_of_mem nd (h.mem_iff.mpr (List.mem_map.mpr ⟨x,hx,rfl⟩))
  clear e nd h hs
  induction m with
  | nil=>rfl
  | cons a m ih =>
    rw [List.filterMap_cons,this a List.mem_cons_self,List.map_cons,ih fun x hx=>this x (List.mem_cons_of_mem _ hx)]
theorem rowsU_of {l:List (Int×Unt)} {m:Men} (h:l.Perm (m.map encMan)) (hs:m.Pairwise fun a b=>a.prov<b.prov):rowsU l=Vbsoag.rows (m.map Vbsoag.manNumbers):=by
  unfold rowsU Vbsoag.rows Vbsoag.ints
  rw [inOrd_of R h hs,List.map_cons,List.length_map,List.length_map,List.map_map]
  congr 1
  clear h hs
  induction m with
  | nil=>rfl
  | cons a m ih =>
    rw [List.map_cons,List.map_cons,List.flatten_cons,List.flatten_cons,List.map_append,ih]
    congr 1
    show [((a.prov:Nat):Int),((a.power:Nat):Int),if a.fleet=true then 1 else 0,((a.shore:Nat):Int)]=[((a.prov:Nat):Int),((a.power:Nat):Int),((Vbsoag.bit a.fleet:Nat):Int),((a.shore:Nat):Int)]
    unfold Vbsoag.bit
    cases a.fleet <;> rfl
theorem st_men:Vbsoag.step t .men=(t,rowsU B.units):=by
  rw [rowsU_of R R.units R.usort];rfl
theorem st_owners:Vbsoag.step t .owners=(t,((ownTo B B.provs.length).length:Int)::(ownTo B B.provs.length).flatten):=by
  have e:ownTo B B.provs.length=(t.centres.map fun p=>[p,(match pairAt t.owners p with | some w=>w + 1 | none=>0)]).map fun l=>l.map Int.ofNat:=by
    unfold ownTo
    rw [R.cen,List.map_map]
    have:∀(l:List Nat),(∀i∈l,i<B.provs.length)→l.filterMap (fun (j:Nat)=>(B.provs[j]?).bind fun x=>if x.centre=1 then some [(j:Int),x.owner + 1] else none) =
        (l.filter (isCen B)).map ((fun l=>l.map Int.ofNat) ∘ fun p=>[p,(match pairAt t.owners p with | some w=>w + 1 | none=>0)]):=by
      intro l hl
      induction l with
      | nil=>rfl
      | cons i l ih =>
        have ih:=ih fun j hj=>hl j (List.mem_cons_of_mem _ hj)
        have hi:=hl i List.mem_cons_self
        rw [List.filterMap_cons,List.filter_cons,List.getElem?_eq_getElem hi,Option.bind_some]
        have hc:isCen B i=decide (B.provs[i].centre=1):=by
          unfold isCen;rw [List.getElem?_eq_getElem hi]
          show (some _ == some _)=_
          rw [Bool.eq_iff_iff,beq_iff_eq,decide_eq_true_iff]
          exact ⟨fun z=>Option.some.inj z,fun z=>congrArg some z⟩
        rw [hc]
        by_cases q:B.provs[i].centre=1
        · rw [if_pos q,decide_eq_true q,if_pos rfl,List.map_cons,ih]
          show _::_=_::_
          congr 1
          have ok:=R.pok _ (List.getElem_mem hi)
          have ow:=R.own i
          rw [List.getElem?_eq_getElem hi,Option.bind_some] at ow
          show [(i:Int),B.provs[i].owner + 1]=[((i:Nat):Int),(((match pairAt t.owners i with | some w=>w + 1 | none=>0):Nat):Int)]
          rw [ow]
          obtain ⟨_,_,_,_,_,ho,_,_⟩:=ok
          by_cases q2:B.provs[i].owner = -1
          · rw [if_pos q2,q2];rfl
          · rw [if_neg q2]
            congr 2
            show B.provs[i].owner + 1=((B.provs[i].owner.toNat + 1:Nat):Int)
            omega
        · rw [if_neg q,decide_eq_false q,if_neg (by decide),ih]
    exact this _ fun i hi=>List.mem_range.mp hi
  rw [e]
  show (t,Vbsoag.rows (t.centres.map fun p=>[p,(match pairAt t.owners p with | some w=>w + 1 | none=>0)]))=_
  unfold Vbsoag.rows Vbsoag.ints
  rw [List.map_cons,List.length_map,List.length_map,List.length_map,List.map_flatten]
  rfl
theorem rf_raise {w f p s:Int} (hw:0≤w∧w≤6) (hf:0≤f∧f≤1) (hp:IsP B p) (hs:0≤s∧s≤3) :
    Rf (mRaise B w f p s).1 (Vbsoag.step t (.raise w f p s)).1∧(Vbsoag.step t (.raise w f p s)).2=(mRaise B w f p s).2:=by
  have hr:¬ (Vbsoag.isPower w && (Vbsoag.within f 0 1 && (Vbsoag.isProv t p && Vbsoag.within s 0 3)))=false:=by
    rw [R.isP.mpr hp,show Vbsoag.isPower w=true from within_iff.mpr hw,within_iff.mpr hs,within_iff.mpr hf];decide
  unfold mRaise Vbsoag.step
  dsimp only
  rw [if_neg hr]
  by_cases h1:0<B.driven.length
  · rw [if_pos h1,if_pos ((busy_iff R).mpr h1)];exact ⟨R,rfl⟩
  rw [if_neg h1,if_neg (fun z=>h1 ((busy_iff R).mp z))]
  have hsite:p∈sitesW B w↔(Vbsoag.sites t w.toNat).contains p.toNat=true:=by
    rw [sitesW_eq R hw.1,List.contains_iff_mem]
    unfold Vbsoag.ints
    rw [List.mem_map]
    constructor
    · rintro ⟨x,hx,e⟩
      have e:(x:Int)=p:=e
      have:p.toNat=x:=by omega
      rw [this];exact hx
    · intro h
      exact ⟨p.toNat,h,Int.toNat_of_nonneg hp.1⟩
  by_cases h2:p∉sitesW B w
  · rw [if_pos h2,if_pos (show (Vbsoag.sites t w.toNat).contains p.toNat=false by
      cases e:(Vbsoag.sites t w.toNat).contains p.toNat with
      | false=>rfl
      | true=>exact absurd (hsite.mpr e) h2)]
    exact ⟨R,rfl⟩
  have h2':p∈sitesW B w:=Classical.byContradiction h2
  rw [if_neg h2,if_neg (show ¬ (Vbsoag.sites t w.toNat).contains p.toNat=false by rw [hsite.mp h2'];decide),R.wrong hp hf]
  by_cases h3:wrong B f p s=true
  · rw [if_pos h3,if_pos h3];exact ⟨R,rfl⟩
  rw [if_neg h3,if_neg h3]
  have hany:(t.raises.any fun m=>m.prov == p.toNat)=(look B.raises p).isSome:=by
    rw [look_r R,if_pos hp.1,Option.isSome_map]
    unfold manAt
    rw [Bool.eq_iff_iff,List.any_eq_true,List.find?_isSome]
  rw [hany]
  by_cases h4:(look B.raises p).isSome=true
  · rw [if_pos h4,if_pos h4];exact ⟨R,rfl⟩
  rw [if_neg h4,if_neg h4]
  have hmore:Vbsoag.more t w.toNat≤(Vbsoag.raisesOf t w.toNat).length↔(centresW B w).length - (unitsW B.units w).length≤(unitsW B.raises w).length:=by
    unfold Vbsoag.more
    rw [centresW_len R hw.1,unitsW_len R hw.1,raisesW_len R hw.1]
  by_cases h5:(centresW B w).length - (unitsW B.units w).length≤(unitsW B.raises w).length
  · rw [if_pos h5,if_pos (hmore.mpr h5)];exact ⟨R,rfl⟩
  rw [if_neg h5,if_neg (fun z=>h5 (hmore.mp z))]
  have hlen:B.units.length + B.raises.length=t.men.length + t.raises.length:=by
    rw [R.ulen,R.raises.length_eq,List.length_map]
  rw [hlen]
  show Rf _ (if 24≤t.men.length + t.raises.length then _ else _:Table×List Int).1∧(if 24≤t.men.length + t.raises.length then _ else _:Table×List Int).2=_
  by_cases h6:24≤t.men.length + t.raises.length
  · rw [if_pos h6,if_pos h6];exact ⟨R,rfl⟩
  rw [if_neg h6,if_neg h6]
  have hfree:∀x∈t.raises,x.prov≠(Vbsoag.unit w f p s).prov:=fun x hx e=>by
    rw [← hany] at h4
    exact h4 (List.any_eq_true.mpr ⟨x,hx,by rw [beq_iff_eq];exact e⟩)
  have hp':=hp
  unfold IsP at hp'
  have hmen:∀x∈t.men,x.prov≠p.toNat:=by
    have hm:=List.contains_iff_mem.mp (hsite.mp h2')
    unfold Vbsoag.sites at hm
    have:=(List.mem_filter.mp hm).2
    simp only [Bool.and_eq_true] at this
    exact manAt_none.mp (Option.isNone_iff_eq_none.mp this.2.2)
  have ok:ManOk B.provs.length (Vbsoag.unit w f p s):=⟨(by show p.toNat<_;omega),(by show w.toNat≤6;omega),(by show s.toNat≤3;omega)⟩
  refine ⟨{ R with raises:=?_,rsort:=?_,rok:=?_,rfew:=?_ },rfl⟩
  · show (B.raises++[_]).Perm ((putMan _ t.raises).map encMan)
    refine List.Perm.trans (List.perm_append_singleton ..) (List.Perm.trans ?_ ((putMan_perm _ t.raises).map encMan).symm)
    rw [List.map_cons,untOf_unit hw.1 hf hp.1 hs.1]
    exact R.raises.cons _
  · exact putMan_sort R.rsort hfree
  · intro m hm
    rcases List.mem_cons.mp ((putMan_perm _ t.raises).mem_iff.mp hm) with z | z
    · rw [z];exact ⟨ok,hmen⟩
    · exact R.rok m z
  · show t.men.length + (putMan _ t.raises).length≤24
    rw [(putMan_perm _ t.raises).length_eq,List.length_cons];omega
theorem rf_drop {p:Int} (hp:IsP B p):Rf (mDrop B p).1 (Vbsoag.step t (.drop p)).1∧(Vbsoag.step t (.drop p)).2=(mDrop B p).2:=by
  have hr:¬ Vbsoag.isProv t p=false:=by rw [R.isP.mpr hp];decide
  unfold mDrop Vbsoag.step
  dsimp only
  rw [if_neg hr]
  by_cases h1:0<B.driven.length
  · rw [if_pos h1,if_pos ((busy_iff R).mpr h1)];exact ⟨R,rfl⟩
  rw [if_neg h1,if_neg (fun z=>h1 ((busy_iff R).mp z)),R.look,if_pos hp.1]
  cases e:manAt t.men p.toNat with
  | none=>exact ⟨R,rfl⟩
  | some m =>
    rw [Option.map_some]
    dsimp only
    obtain ⟨hm1,hm2⟩:=manAt_some e
    have hdc:t.drops.contains p.toNat=true↔p∈B.drops:=by
      rw [List.contains_iff_mem,mem_nats R.drops]
      exact ⟨fun z=>⟨hp.1,z⟩,fun z=>z.2⟩
    by_cases h2:p∈B.drops
    · rw [if_pos h2,if_pos (hdc.mpr h2)];exact ⟨R,rfl⟩
    rw [if_neg h2,if_neg (fun z=>h2 (hdc.mp z))]
    have hpw:(untOf m).power=(m.power:Int):=rfl
    have h0:(0:Int)≤(m.power:Int):=by omega
    have hfew:Vbsoag.fewer t m.power≤(Vbsoag.dropsOf t m.power).length↔(unitsW B.units (untOf m).power).length - (centresW B (untOf m).power).length≤(dropsW B (untOf m).power).length:=by
      unfold Vbsoag.fewer
      rw [hpw,centresW_len R h0,unitsW_len R h0,dropsW_len R h0,Int.toNat_natCast]
    by_cases h3:(unitsW B.units (untOf m).power).length - (centresW B (untOf m).power).length≤(dropsW B (untOf m).power).length
    · rw [if_pos h3,if_pos (hfew.mpr h3)];exact ⟨R,rfl⟩
    rw [if_neg h3,if_neg (fun z=>h3 (hfew.mp z))]
    have hn:p.toNat∉t.drops:=fun q=>h2 ((mem_nats R.drops p).mpr ⟨hp.1,q⟩)
    have pm:=putIn_perm hn
    refine ⟨{ R with drops:=?_,xsort:=putIn_sort R.xsort,xok:=?_ },rfl⟩
    · show (B.drops++[p]).Perm ((putIn p.toNat t.drops).map Int.ofNat)
      refine List.Perm.trans (List.perm_append_singleton ..) (List.Perm.trans ?_ (pm.map _).symm)
      rw [List.map_cons,show Int.ofNat p.toNat=p from Int.toNat_of_nonneg hp.1]
      exact R.drops.cons _
    · intro x hx
      rcases putIn_mem.mp hx with z | z
      · exact ⟨m,hm1,by rw [hm2,z]⟩
      · exact R.xok x z
end
theorem few_drop {B:Bd} (h:Few B) (p:Int):Few (mDrop B p).1:=by
  unfold mDrop
  split
  · exact h
  split
  · exact h
  rename_i u hu
  split
  · exact h
  split
  · exact h
  rename_i h3
  intro w h0 h6
  have h1:=h w h0 h6
  show (dropsW { B with drops:=B.drops++[p] } w).length≤(unitsW B.units w).length - (centresW B w).length
  have e:dropsW { B with drops:=B.drops++[p] } w=dropsW B w++(if u.power=w then [p] else []):=by
    unfold dropsW
    rw [List.filter_append]
    congr 1
    rw [List.filter_cons,hu]
    by_cases q:u.power=w
    · rw [if_pos q,if_pos (by simp [q])];rfl
    · rw [if_neg q,if_neg (by simp [q])];rfl
  rw [e,List.length_append]
  by_cases q:u.power=w
  · subst q;rw [if_pos rfl,List.length_singleton];omega
  · rw [if_neg q];exact h1
theorem few_raise {B:Bd} (h:Few B) (w f p s:Int):Few (mRaise B w f p s).1:=by
  unfold mRaise
  repeat' split
  all_goals exact h
theorem few_province {B:Bd} (h:Few B) (k c x:Int):Few (mProvince B k c x).1:=by
  unfold mProvince
  split
  · exact h
  split
  · exact h
  split
  · exact h
  intro w h0 h6
  have h1:=h w h0 h6
  show (dropsW B w).length≤(unitsW B.units w).length - (centresW { B with provs:=B.provs++[⟨k,c,x,-1⟩] } w).length
  have e:centresW { B with provs:=B.provs++[⟨k,c,x,-1⟩] } w=centresW B w:=by
    unfold centresW provsW
    show ((List.range (B.provs++[_]).length).filter _).map _=_
    rw [List.length_append,List.length_singleton,List.range_succ,List.filter_append,List.map_append]
    have e1:List.filter (fun i=>decide (((B.provs++[(⟨k,c,x,-1⟩:Prov)])[i]?.map (·.owner))=some w)) [B.provs.length]=[]:=by
      rw [List.filter_cons,List.getElem?_append_right (Nat.le_refl _),Nat.sub_self]
      rw [if_neg];rfl
      rw [decide_eq_true_iff]
      intro z
      have:(-1:Int)=w:=Option.some.inj z
      omega
    rw [e1,List.map_nil,List.append_nil]
    congr 1
    refine List.filter_congr fun i hi=>?_
    rw [List.getElem?_append_left (List.mem_range.mp hi)]
  rw [e];exact h1
end Sb
end
section
namespace Sb
open Vbsoaa (Board Man Men kind place linked manAt)
open Vbsoag (Driven Table putIn putMan putOut pairAt provinces outAt)
theorem mem_nb {l:List (Int×Int)} {j:Nat} {q:Int}:q∈nb l j↔∃x∈l,((j:Int)=x.1∧q=x.2)∨((j:Int)=x.2∧q=x.1):=by
  unfold nb
  rw [List.mem_flatMap]
  constructor
  · rintro ⟨x,hx,h⟩
    refine ⟨x,hx,?_⟩
    rcases List.mem_append.mp h with z | z
    · split at z
      · rename_i e;exact .inl ⟨e,List.mem_singleton.mp z⟩
      · cases z
    · split at z
      · rename_i e;exact .inr ⟨e,List.mem_singleton.mp z⟩
      · cases z
  · rintro ⟨x,hx,h⟩
    refine ⟨x,hx,List.mem_append.mpr ?_⟩
    rcases h with ⟨e,rfl⟩ | ⟨e,rfl⟩
    · exact .inl (by rw [if_pos e];exact List.mem_singleton.mpr rfl)
    · exact .inr (by rw [if_pos e];exact List.mem_singleton.mpr rfl)
section
variable {B:Bd} {t:Table} (R:Rf B t)
include R
theorem nb_iff {p:Nat} {q:Int}:q∈nb (pairsB B) p↔∃c:Nat,q=(c:Int)∧Vbsoag.beside t.board p c=true:=by
  have lk:∀k:Nat×Nat,(((p:Int)=(lkey k).1∧q=(lkey k).2)∨((p:Int)=(lkey k).2∧q=(lkey k).1))↔((p=k.1∧q=(k.2:Int))∨(p=k.2∧q=(k.1:Int))):=fun k=>by
    unfold lkey landKey
    split <;> (constructor <;> (rintro (⟨h1,h2⟩ | ⟨h1,h2⟩) <;> simp only [] at h1 h2 ⊢ <;> omega))
  have sk:∀k:Nat×Nat,(((p:Int)=(seaP (skey k)).1∧q=(seaP (skey k)).2)∨((p:Int)=(seaP (skey k)).2∧q=(seaP (skey k)).1))↔((p=k.1 / 4∧q=((k.2 / 4:Nat):Int))∨(p=k.2 / 4∧q=((k.1 / 4:Nat):Int))):=fun k=>by
    unfold seaP skey seaKey
    split <;> (constructor <;> (rintro (⟨h1,h2⟩ | ⟨h1,h2⟩) <;> simp only [] at h1 h2 ⊢ <;> omega))
  rw [mem_nb]
  unfold pairsB Vbsoag.beside
  rw [R.land,R.sea]
  constructor
  · rintro ⟨x,hx,h⟩
    rcases List.mem_append.mp hx with z | z
    · obtain ⟨k,hk,rfl⟩:=List.mem_map.mp z
      rcases (lk k).mp h with ⟨h1,h2⟩ | ⟨h1,h2⟩
      · exact ⟨k.2,h2,by rw [Bool.or_eq_true];exact .inl (linked_iff.mpr ⟨k,hk,.inl ⟨h1.symm,rfl⟩⟩)⟩
      · exact ⟨k.1,h2,by rw [Bool.or_eq_true];exact .inl (linked_iff.mpr ⟨k,hk,.inr ⟨rfl,h1.symm⟩⟩)⟩
    · obtain ⟨k',hk',rfl⟩:=List.mem_map.mp z
      obtain ⟨k,hk,rfl⟩:=List.mem_map.mp hk'
      rcases (sk k).mp h with ⟨h1,h2⟩ | ⟨h1,h2⟩
      · refine ⟨k.2 / 4,h2,?_⟩
        rw [Bool.or_eq_true,List.any_eq_true]
        exact .inr ⟨k,hk,by simp [h1]⟩
      · refine ⟨k.1 / 4,h2,?_⟩
        rw [Bool.or_eq_true,List.any_eq_true]
        exact .inr ⟨k,hk,by simp [h1]⟩
  · rintro ⟨c,rfl,h⟩
    rw [Bool.or_eq_true] at h
    rcases h with h | h
    · obtain ⟨k,hk,h⟩:=linked_iff.mp h
      refine ⟨lkey k,List.mem_append_left _ (List.mem_map.mpr ⟨k,hk,rfl⟩),(lk k).mpr ?_⟩
      rcases h with ⟨h1,h2⟩ | ⟨h1,h2⟩
      · exact .inl ⟨h1.symm,by rw [h2]⟩
      · exact .inr ⟨h2.symm,by rw [h1]⟩
    · obtain ⟨k,hk,h⟩:=List.any_eq_true.mp h
      refine ⟨seaP (skey k),List.mem_append_right _ (List.mem_map.mpr ⟨_,List.mem_map.mpr ⟨k,hk,rfl⟩,rfl⟩),(sk k).mpr ?_⟩
      rw [Bool.or_eq_true,Bool.and_eq_true,Bool.and_eq_true,beq_iff_eq,beq_iff_eq,beq_iff_eq,beq_iff_eq] at h
      rcases h with ⟨h1,h2⟩ | ⟨h1,h2⟩
      · exact .inl ⟨h1.symm,by rw [h2]⟩
      · exact .inr ⟨h2.symm,by rw [h1]⟩
theorem homes_lt {w:Nat}:∀p∈Vbsoag.homesOf t w,p<B.provs.length:=fun p hp=>by
  unfold Vbsoag.homesOf at hp
  rw [cen_filter R] at hp
  exact List.mem_range.mp (List.mem_filter.mp hp).1
theorem gm_iff {w:Int} (hw:0≤w):∀(k:Nat) (p:Int),Gm B w k p↔∃q:Nat,p=(q:Int)∧q∈grown t.board B.provs.length (Vbsoag.homesOf t w.toNat) k
  | 0,p=>by
    show p∈provsW (·.home) B w↔_
    rw [homesW_eq R hw]
    unfold Vbsoag.ints
    rw [List.mem_map]
    exact ⟨fun ⟨q,h1,h2⟩=>⟨q,h2.symm,h1⟩,fun ⟨q,h1,h2⟩=>⟨q,h2,h1.symm⟩⟩
  | k + 1,p=>by
    have ih:=gm_iff hw k
    constructor
    · intro g
      have ip:=g.isP (bok R).pp
      unfold IsP at ip
      rcases g with g | ⟨q,g,h⟩
      · obtain ⟨q,e,h⟩:=(ih p).mp g
        exact ⟨q,e,mem_widen.mpr ⟨by omega,.inl h⟩⟩
      · obtain ⟨q',e,hq⟩:=(ih q).mp g
        rw [e,Int.toNat_natCast] at h
        obtain ⟨c,e2,hb⟩:=(nb_iff R).mp h
        exact ⟨c,e2,mem_widen.mpr ⟨by omega,.inr ⟨q',hq,hb⟩⟩⟩
    · rintro ⟨c,rfl,h⟩
      obtain ⟨h1,h2⟩:=mem_widen.mp h
      rcases h2 with h2 | ⟨q,hq,hb⟩
      · exact .inl ((ih _).mpr ⟨c,rfl,h2⟩)
      · exact .inr ⟨(q:Int),(ih _).mpr ⟨q,rfl,hq⟩,by rw [Int.toNat_natCast];exact (nb_iff R).mpr ⟨c,rfl,hb⟩⟩
theorem first_iff {w:Int} (hw:0≤w) {j p:Nat} (h:First B w j (p:Int)):Vbsoag.farFrom t w.toNat p=some j∧j<B.provs.length:=by
  have h1:p∈grown t.board B.provs.length (Vbsoag.homesOf t w.toNat) j:=by
    obtain ⟨q,e,hq⟩:=(gm_iff R hw j _).mp h.1
    have:p=q:=by omega
    rw [this];exact hq
  have h2:∀i,i<j→p∉grown t.board B.provs.length (Vbsoag.homesOf t w.toNat) i:=fun i hi z=>h.2 i hi ((gm_iff R hw i _).mpr ⟨p,rfl,z⟩)
  refine ⟨?_,grown_few (homes_lt R) h1 h2⟩
  unfold Vbsoag.farFrom
  rw [R.n]
  exact far_some (homes_lt R) h1 h2
theorem dist_far {w:Int} (hw:0≤w) {fs:List (Int×Int)} (dk:DistOk B w fs) (p:Nat):look fs (p:Int)=(Vbsoag.farFrom t w.toNat p).map Int.ofNat∧∀d,Vbsoag.farFrom t w.toNat p=some d→d<40:=by
  have n40:=R.plen
  cases e:look fs (p:Int) with
  | some d =>
    obtain ⟨j,h1,h2⟩:=dk.old _ (look_some_mem e)
    obtain ⟨h3,h4⟩:=first_iff R hw h2
    have h1:d=(j:Int):=h1
    rw [h3]
    refine ⟨by rw [h1];rfl,fun d hd=>?_⟩
    cases hd;omega
  | none =>
    have hn:∀j,p∉grown t.board B.provs.length (Vbsoag.homesOf t w.toNat) j:=fun j z=>by
      have m:=dk.all _ j ((gm_iff R hw j _).mpr ⟨p,rfl,z⟩)
      obtain ⟨x,hx,ex⟩:=List.mem_map.mp m
      exact look_none.mp e x hx ex
    have:Vbsoag.farFrom t w.toNat p=none:=by
      unfold Vbsoag.farFrom
      rw [R.n]
      exact far_none hn
    rw [this]
    exact ⟨rfl,fun d hd=>nomatch hd⟩
theorem st_far {w p:Int} (hw:0≤w∧w≤6) (hp:IsP B p) {fs:List (Int×Int)} (dk:DistOk B w fs):Vbsoag.step t (.far w p)=(t,[(look fs p).getD (-9)]):=by
  have hr:¬ (Vbsoag.isPower w && Vbsoag.isProv t p)=false:=by
    rw [R.isP.mpr hp,show Vbsoag.isPower w=true from within_iff.mpr hw];decide
  show (if (Vbsoag.isPower w && Vbsoag.isProv t p)=false then (t,[-1]) else (t,match Vbsoag.farFrom t w.toNat p.toNat with | some d=>Vbsoag.ints [d] | none=>[-9]))=_
  rw [if_neg hr]
  have h:=(dist_far R hw.1 dk p.toNat).1
  rw [Int.toNat_of_nonneg hp.1] at h
  rw [h]
  cases Vbsoag.farFrom t w.toNat p.toNat <;> rfl
theorem rk_key {w:Int} (hw:0≤w) {fs:List (Int×Int)} (dk:DistOk B w fs) {m n:Man} (hm:m.power=w.toNat) (hn:n.power=w.toNat):L2.lt3 (rk fs (untOf m)) (rk fs (untOf n))↔ltK (Vbsoag.key t m) (Vbsoag.key t n):=by
  have fl:∀x:Man,(rk fs (untOf x)).2.1 = -(if x.fleet=true then (1:Int) else 0):=fun x=>rfl
  have f1:∀x:Man,x.power=w.toNat→∃d:Nat,d≤40∧(rk fs (untOf x)).1 = -(d:Int)∧(((Vbsoag.key t x).1=1000 - d∧d<40)∨((Vbsoag.key t x).1=0∧d=40)):=fun x hx=>by
    obtain ⟨h1,h2⟩:=dist_far R hw dk x.prov
    have e:(rk fs (untOf x)).1 = -((look fs (x.prov:Int)).getD 40):=rfl
    have e2:(Vbsoag.key t x).1=(match Vbsoag.farFrom t x.power x.prov with | some d=>1000 - d | none=>0):=rfl
    rw [hx] at e2
    cases q:Vbsoag.farFrom t w.toNat x.prov with
    | some d =>
      rw [q] at e2 h1
      have:=h2 d q
      exact ⟨d,by omega,by rw [e,h1];rfl,.inl ⟨e2,this⟩⟩
    | none =>
      rw [q] at e2 h1
      exact ⟨40,Nat.le_refl _,by rw [e,h1];rfl,.inr ⟨e2,rfl⟩⟩
  obtain ⟨d1,l1,e1,k1⟩:=f1 m hm
  obtain ⟨d2,l2,e2,k2⟩:=f1 n hn
  have g1:(Vbsoag.key t m).2.1=if m.fleet=true then 0 else 1:=rfl
  have g2:(Vbsoag.key t n).2.1=if n.fleet=true then 0 else 1:=rfl
  have p1:(Vbsoag.key t m).2.2=m.prov:=rfl
  have p2:(Vbsoag.key t n).2.2=n.prov:=rfl
  have q1:(rk fs (untOf m)).2.2=(m.prov:Int):=rfl
  have q2:(rk fs (untOf n)).2.2=(n.prov:Int):=rfl
  have a1:=fl m
  have a2:=fl n
  unfold L2.lt3 ltK
  rw [e1,e2,g1,g2,p1,p2,q1,q2,a1,a2]
  generalize (Vbsoag.key t m).1=x1 at k1 ⊢
  generalize (Vbsoag.key t n).1=x2 at k2 ⊢
  clear g1 g2 p1 p2 q1 q2 a1 a2 e1 e2 f1 fl
  generalize m.prov=y1
  generalize n.prov=y2
  cases m.fleet <;> cases n.fleet <;> simp only [if_true,if_false,Bool.false_eq_true,true_and] <;> omega
theorem dis_eq {w:Int} (hw:0≤w) {l:List Int} (h:IsDis B w l):l=Vbsoag.ints (Vbsoag.disorder t w.toNat):=by
  obtain ⟨fs,us,dk,hp,hs,rfl⟩:=h
  obtain ⟨ms,hm,rfl⟩:=L2.perm_map_inv (f:=untOf) (hp.trans (unitsP R R.units hw)) _ rfl
  have hu:∀m,m∈ms→m∈t.men∧m.power=w.toNat:=fun m hmm=>by
    obtain ⟨h1,h2⟩:=List.mem_filter.mp (hm.mem_iff.mp hmm)
    exact ⟨h1,by rwa [beq_iff_eq] at h2⟩
  have hnd:ms.Pairwise fun a b=>a.prov≠b.prov:=by
    have h1:(Vbsoag.unitsOf t w.toNat).Pairwise fun a b=>a.prov≠b.prov:=(R.usort.filter _).imp fun q=>Nat.ne_of_lt q
    exact (hm.pairwise_iff (fun q=>Ne.symm q)).mpr h1
  have hk:ms.Pairwise fun a b=>ltK (Vbsoag.key t a) (Vbsoag.key t b):=by
    rw [List.pairwise_map] at hs
    refine List.Pairwise.imp_of_mem ?_ (hs.and hnd)
    rintro a b ha hb ⟨q1,q2⟩
    have k1:=rk_key R hw dk (hu b hb).2 (hu a ha).2
    have tot:=ltK_tot (a:=Vbsoag.key t a) (b:=Vbsoag.key t b) q2
    exact tot.resolve_right fun z=>q1 (k1.mpr z)
  have e:=disorder_of (w:=w.toNat) R.usort hk (fun m=>hm.mem_iff)
  rw [e]
  unfold Vbsoag.ints
  rw [List.map_map,List.map_map]
  rfl
theorem st_disorder {w:Int} (hw:0≤w∧w≤6) {l:List Int} (h:IsDis B w l):Vbsoag.step t (.disorder w)=(t,(l.length:Int)::l):=by
  show (if Vbsoag.isPower w=false then (t,[-1]) else (t,Vbsoag.row (Vbsoag.disorder t w.toNat)))=_
  rw [if_neg (pow_ok R hw),dis_eq R hw.1 h]
  unfold Vbsoag.row Vbsoag.ints
  rw [List.map_cons,List.length_map]
  rfl
end
end Sb
end
section
namespace Sb
open Vbsoaa (Board Man Men kind place linked manAt)
open Vbsoag (Driven Table putIn putMan putOut pairAt provinces outAt)
theorem fm_congr {α β:Type} {f g:α→Option β}:∀{l:List α},(∀x∈l,f x=g x)→l.filterMap f=l.filterMap g
  | [],_=>rfl
  | a::l,h=>by
    rw [List.filterMap_cons,List.filterMap_cons,h a List.mem_cons_self,fm_congr fun x hx=>h x (List.mem_cons_of_mem _ hx)]
theorem ordG_of (d:Driven):ordG (drvOf d)=(match d.order with | some (some x)=>some (intP x) | _=>none):=by
  unfold ordG drvOf
  dsimp only
  cases d.order with
  | none=>rfl
  | some o=>cases o <;> rfl
theorem want_count (q:Nat):∀l:List Driven,(wantB (l.map encOut)).count (q:Int)=(l.filter fun d=>match d.order with | some (some x)=>x.1 == q | _=>false).length
  | []=>rfl
  | d::l=>by
    have ih:=want_count q l
    have e:wantB ((d::l).map encOut)=(match d.order with | some (some x)=>[(x.1:Int)] | _=>[])++wantB (l.map encOut):=by
      unfold wantB
      rw [List.map_cons,List.filterMap_cons]
      have e2:ordG (encOut d).2=_:=ordG_of d
      rw [e2]
      cases d.order with
      | none=>rfl
      | some o=>cases o <;> rfl
    rw [e,List.count_append,ih,List.filter_cons]
    cases ho:d.order with
    | none=>simp
    | some o =>
      cases o with
      | none=>simp
      | some x =>
        dsimp only
        by_cases h:x.1=q
        · rw [if_pos (by rw [beq_iff_eq];exact h),List.length_cons,h,List.count_singleton_self];omega
        · rw [if_neg (by rw [beq_iff_eq];exact h),List.count_eq_zero.mpr (by rw [List.mem_singleton];omega)];omega
section
variable {B:Bd} {t:Table} (R:Rf B t)
include R
theorem goers_eq (q:Nat):(wantB B.driven).count (q:Int)=Vbsoag.goers t q:=by
  have h:(wantB B.driven).Perm (wantB (t.out.map encOut)):=by
    unfold wantB;exact R.driven.filterMap _
  rw [h.count_eq,want_count];rfl
theorem arrive_eq {d:Driven} (hd:d∈t.out):arrive B (encOut d)=(Vbsoag.landed t d).map fun x=>((d.man.prov:Int),intP x):=by
  unfold arrive Vbsoag.landed
  have e2:ordG (encOut d).2=_:=ordG_of d
  rw [e2]
  cases d.order with
  | none=>rfl
  | some o =>
    cases o with
    | none=>rfl
    | some x =>
      dsimp only [Option.bind_some]
      have h1:(wantB B.driven).count (intP x).1=Vbsoag.goers t x.1:=goers_eq R x.1
      have h2:intP x∈mChoices B (encOut d).2↔(Vbsoag.choices t d).contains x=true:=by
        rw [List.contains_iff_mem]
        show intP x∈mChoices B (drvOf d)↔_
        rw [← R.choices hd,List.mem_map]
        exact ⟨fun ⟨y,hy,e⟩=>intP_inj e ▸ hy,fun h=>⟨x,h,rfl⟩⟩
      by_cases h:Vbsoag.goers t x.1=1∧(Vbsoag.choices t d).contains x=true
      · rw [if_pos h,if_pos ⟨h1.trans h.1,h2.mpr h.2⟩];rfl
      · rw [if_neg h,if_neg fun z=>h ⟨h1.symm.trans z.1,h2.mp z.2⟩];rfl
theorem arr_perm:(arrW B B.driven).Perm (t.out.filterMap fun d=>(Vbsoag.landed t d).map fun x=>((d.man.prov:Int),intP x)):=by
  unfold arrW
  refine (R.driven.filterMap _).trans (List.Perm.of_eq ?_)
  rw [List.filterMap_map]
  exact fm_congr fun d hd=>arrive_eq R hd
theorem out_inj {d e:Driven} (hd:d∈t.out) (he:e∈t.out) (h:d.man.prov=e.man.prov):d=e:=by
  have h1:=outIn_of_mem R.dsort hd
  rw [h,outIn_of_mem R.dsort he] at h1
  exact (Option.some.inj h1).symm
theorem arr_nd:((arrW B B.driven).map (·.1)).Nodup:=by
  refine ((arr_perm R).map _).nodup_iff.mpr ?_
  unfold List.Nodup
  rw [List.pairwise_map,List.pairwise_filterMap]
  refine R.dsort.imp fun {a b} q x hx y hy e=>?_
  rw [Option.map_eq_some_iff] at hx hy
  obtain ⟨_,_,rfl⟩:=hx
  obtain ⟨_,_,rfl⟩:=hy
  have:(a.man.prov:Int)=(b.man.prov:Int):=e
  omega
theorem look_arr {d:Driven} (hd:d∈t.out):look (arrW B B.driven) (d.man.prov:Int)=(Vbsoag.landed t d).map intP:=by
  cases e:Vbsoag.landed t d with
  | some x =>
    refine look_of_mem (arr_nd R) ((arr_perm R).mem_iff.mpr ?_)
    exact List.mem_filterMap.mpr ⟨d,hd,by rw [e];rfl⟩
  | none =>
    refine look_none.mpr fun y hy ey=>?_
    obtain ⟨d',hd',h⟩:=List.mem_filterMap.mp ((arr_perm R).mem_iff.mp hy)
    rw [Option.map_eq_some_iff] at h
    obtain ⟨x,hx,rfl⟩:=h
    have ey:(d'.man.prov:Int)=(d.man.prov:Int):=ey
    have:=out_inj R hd' hd (by omega)
    rw [this,e] at hx
    cases hx
theorem outs_eq:outs B=t.out.map fun d=>(d.man.prov:Int)::(match Vbsoag.landed t d with | some x=>Vbsoag.ints [x.1,x.2] | none=>[-1,0]):=by
  unfold outs
  have e:t.out.map (fun d=>(d.man.prov:Int))=sortI (B.driven.map (·.1)):=by
    refine sortI_eq ?_ ?_
    · rw [← out_keys];exact (R.driven.map _).symm
    · rw [List.pairwise_map];exact R.dsort.imp fun q=>by omega
  rw [← e,List.map_map]
  refine List.map_congr_left fun d hd=>?_
  show outc _ (d.man.prov:Int)=_
  unfold outc
  rw [look_arr R hd]
  cases Vbsoag.landed t d <;> rfl
theorem landed_ok {d:Driven} (hd:d∈t.out) {x:Nat×Nat} (h:Vbsoag.landed t d=some x):Vbsoag.goers t x.1=1∧d.order=some (some x)∧manAt t.men x.1=none:=by
  unfold Vbsoag.landed at h
  cases ho:d.order with
  | none=>rw [ho] at h;cases h
  | some o =>
    cases o with
    | none=>rw [ho] at h;cases h
    | some y =>
      rw [ho] at h
      dsimp only at h
      split at h
      · rename_i hc
        cases h
        refine ⟨hc.1,rfl,?_⟩
        have hm:=List.contains_iff_mem.mp hc.2
        unfold Vbsoag.choices at hm
        obtain ⟨q,hq,hx⟩:=List.mem_flatMap.mp hm
        have ho:=(List.mem_filter.mp hq).2
        rw [Bool.and_eq_true] at ho
        have ho:=ho.2
        unfold Vbsoag.open_ at ho
        rw [Bool.and_eq_true] at ho
        have e:x.1=q:=by
          split at hx
          · obtain ⟨s,_,rfl⟩:=List.mem_map.mp hx;rfl
          · split at hx
            · rw [List.mem_singleton.mp hx]
            · cases hx
        rw [e]
        exact Option.isNone_iff_eq_none.mp ho.1
      · cases h
theorem landed_ne:(Vbsoag.landedMen t).Pairwise fun a b=>a.prov≠b.prov:=by
  unfold Vbsoag.landedMen
  rw [List.pairwise_filterMap]
  refine List.Pairwise.imp_of_mem ?_ R.dsort
  intro a b ha hb q x hx y hy e
  rw [Option.map_eq_some_iff] at hx hy
  obtain ⟨u,hu,rfl⟩:=hx
  obtain ⟨v,hv,rfl⟩:=hy
  have e:u.1=v.1:=e
  obtain ⟨h1,h2,_⟩:=landed_ok R ha hu
  obtain ⟨h3,h4,_⟩:=landed_ok R hb hv
  unfold Vbsoag.goers at h1
  obtain ⟨z,hz⟩:=List.length_eq_one_iff.mp h1
  have mk:∀(y:Driven) (v:Nat×Nat),y∈t.out→y.order=some (some v)→v.1=u.1→y=z:=fun y v hy ho he=>by
    have:y∈[z]:=by
      rw [← hz]
      refine List.mem_filter.mpr ⟨hy,?_⟩
      rw [ho];simp [he]
    exact List.mem_singleton.mp this
  rw [mk a u ha h2 rfl,mk b v hb h4 e.symm] at q
  exact Nat.lt_irrefl _ q
theorem landed_free:∀x∈Vbsoag.landedMen t,∀y∈t.men,y.prov≠x.prov:=fun x hx y hy=>by
  unfold Vbsoag.landedMen at hx
  obtain ⟨d,hd,h⟩:=List.mem_filterMap.mp hx
  rw [Option.map_eq_some_iff] at h
  obtain ⟨u,hu,rfl⟩:=h
  exact manAt_none.mp (landed_ok R hd hu).2.2 y hy
theorem landed_man:∀x∈Vbsoag.landedMen t,ManOk B.provs.length x:=fun x hx=>by
  unfold Vbsoag.landedMen at hx
  obtain ⟨d,hd,h⟩:=List.mem_filterMap.mp hx
  rw [Option.map_eq_some_iff] at h
  obtain ⟨u,hu,rfl⟩:=h
  have ok:=R.dok d hd
  have h2:=ok.2.2 u (landed_ok R hd hu).2.1
  exact ⟨h2.1,ok.1.2.1,h2.2⟩
theorem end_perm:(endW B (arrW B B.driven)).Perm ((Vbsoag.landedMen t).map encMan):=by
  unfold endW
  refine ((arr_perm R).filterMap _).trans (List.Perm.of_eq ?_)
  unfold Vbsoag.landedMen
  rw [List.filterMap_filterMap,List.map_filterMap]
  refine fm_congr fun d hd=>?_
  have hk:look B.driven (d.man.prov:Int)=some (drvOf d):=by
    rw [R.lookD,if_pos (by omega)]
    show (outIn t.out d.man.prov).map drvOf=_
    rw [outIn_of_mem R.dsort hd];rfl
  cases Vbsoag.landed t d with
  | none=>rfl
  | some x =>
    show landU B ((d.man.prov:Int),intP x)=some (encMan { d.man with prov:=x.1,shore:=x.2,order:=.hold })
    unfold landU
    show (look B.driven (d.man.prov:Int)).map _=_
    rw [hk];rfl
theorem resolve_men:(B.units++endW B (arrW B B.driven)).Perm (((Vbsoag.landedMen t).foldr putMan t.men).map encMan):=by
  refine ((R.units.append (end_perm R)).trans List.perm_append_comm).trans ?_
  rw [← List.map_append]
  exact ((putMen_perm _ _).map _).symm
theorem resolve_sort:((Vbsoag.landedMen t).foldr putMan t.men).Pairwise fun a b=>a.prov<b.prov:=putMen_sort R.usort (landed_ne R) (landed_free R)
theorem resolve_nd:((B.units.map (·.1))++(arrW B B.driven).map fun x=>x.2.1).Nodup:=by
  have h1:((arrW B B.driven).map fun x=>x.2.1).Perm ((endW B (arrW B B.driven)).map (·.1)):=by
    refine ((arr_perm R).map _).trans (List.Perm.trans (List.Perm.of_eq ?_) ((end_perm R).map _).symm)
    rw [men_keys]
    unfold Vbsoag.landedMen
    rw [List.map_filterMap,List.map_filterMap]
    congr 1
    funext d
    rw [Option.map_map,Option.map_map]
    rfl
  refine ((List.Perm.refl _).append h1).nodup_iff.mpr ?_
  rw [← List.map_append]
  exact ((resolve_men R).map _).nodup_iff.mpr (men_nodup (resolve_sort R))
theorem resolve_len:((Vbsoag.landedMen t).foldr putMan t.men).length≤24:=by
  rw [(putMen_perm _ _).length_eq,List.length_append]
  have h:(Vbsoag.landedMen t).length≤t.out.length:=List.length_filterMap_le _ _
  have:=R.few
  omega
theorem rf_resolve:Rf (mResolve B).1 (Vbsoag.step t .resolve).1∧(Vbsoag.step t .resolve).2=(mResolve B).2:=by
  have hl:=resolve_len R
  refine ⟨{ R.forget with units:=resolve_men R,usort:=resolve_sort R,uok:=fun m hm=>?_,driven:=.nil,dsort:=.nil,dok:=fun _ h=>(nomatch h),few:=?_,barred:=.nil,bsort:=.nil,bok:=fun _ h=>(nomatch h),rok:=fun _ h=>(nomatch h),rfew:=?_,xok:=fun _ h=>(nomatch h) },?_⟩
  · rcases List.mem_append.mp ((putMen_perm _ _).mem_iff.mp hm) with z | z
    · exact landed_man R m z
    · exact R.uok m z
  · exact hl
  · exact hl
  · show Vbsoag.ints [t.out.length]++t.out.flatMap _=((outs B).length:Int)::(outs B).flatten
    rw [outs_eq R,List.length_map,List.flatMap_def]
    rfl
end
end Sb
end
section
namespace Sb
open Vbsoaa (Board Man Men kind place linked manAt)
open Vbsoag (Driven Table putIn putMan putOut pairAt provinces outAt)
def gOwn (l:List (Int×Unt)) (i:Nat) (y:Prov):Int:=if y.centre=1 then (match look l (i:Int) with | some u=>u.power | none=>y.owner) else y.owner
def chg (ps:List Prov) (x:Int×Unt):Bool:=match ps[x.1.toNat]? with | some y=>decide (y.centre=1∧y.owner≠x.2.power) | none=>false
theorem look_cons {x:Int×Unt} {l:List (Int×Unt)} {p:Int}:look (x::l) p=if x.1=p then some x.2 else look l p:=by
  unfold look
  rw [List.find?_cons]
  by_cases h:x.1=p
  · rw [decide_eq_true h,if_pos h];rfl
  · rw [decide_eq_false h,if_neg h]
theorem tk_fold:∀(l:List (Int×Unt)) (s:List Prov×Int),(l.map (·.1)).Nodup→(∀x∈l,0≤x.1) →
    (∀i:Nat,(l.foldl tk s).1[i]? = s.1[i]?.map fun y=>{ y with owner:=gOwn l i y })∧(l.foldl tk s).2=s.2 + ((l.filter (chg s.1)).length:Int)
  | [],s,_,_=>by
    refine ⟨fun i=>?_,(Int.add_zero _).symm⟩
    show s.1[i]? = _
    cases s.1[i]? with
    | none=>rfl
    | some y =>
      show some y=some { y with owner:=gOwn [] i y }
      have:gOwn [] i y=y.owner:=by unfold gOwn;split <;> rfl
      rw [this]
  | x::l,s,nd,h0=>by
    rw [List.map_cons,List.nodup_cons] at nd
    have hx:=h0 x List.mem_cons_self
    obtain ⟨i1,i2⟩:=tk_fold l (tk s x) nd.2 fun y hy=>h0 y (List.mem_cons_of_mem _ hy)
    have hl:look l x.1=none:=look_none.mpr fun y hy e=>nd.1 (List.mem_map.mpr ⟨y,hy,e⟩)
    rw [List.foldl_cons]
    have hg:∀(i:Nat) (y:Prov),i≠x.1.toNat→gOwn (x::l) i y=gOwn l i y:=fun i y h=>by
      unfold gOwn
      rw [look_cons,if_neg (show ¬ x.1=(i:Int) by omega)]
    have hg2:∀y:Prov,gOwn (x::l) x.1.toNat y=if y.centre=1 then x.2.power else y.owner:=fun y=>by
      unfold gOwn
      rw [look_cons,if_pos (show x.1=((x.1.toNat:Nat):Int) by omega)]
    have hg3:∀y:Prov,gOwn l x.1.toNat y=y.owner:=fun y=>by
      unfold gOwn
      rw [Int.toNat_of_nonneg hx,hl]
      split <;> rfl
    have at_:∀i:Nat,i≠x.1.toNat→(tk s x).1[i]? = s.1[i]?:=fun i h=>by
      unfold tk
      split
      · split
        · show (setOwner s.1 x.1.toNat x.2.power)[i]? = _
          rw [setOwner_at,if_neg (Ne.symm h)]
        · rfl
      · rfl
    have hc:l.filter (chg (tk s x).1)=l.filter (chg s.1):=List.filter_congr fun y hy=>by
      unfold chg
      rw [at_ y.1.toNat (fun e=>nd.1 (List.mem_map.mpr ⟨y,hy,by have:=h0 y (List.mem_cons_of_mem _ hy);show y.1=x.1;omega⟩))]
    rw [hc] at i2
    rw [List.filter_cons]
    cases e:s.1[x.1.toNat]? with
    | none =>
      have e1:tk s x=s:=by unfold tk;rw [e]
      have e2:chg s.1 x=false:=by unfold chg;rw [e]
      rw [e1] at i1 i2 ⊢
      rw [if_neg (by rw [e2];decide)]
      refine ⟨fun i=>?_,i2⟩
      rw [i1 i]
      by_cases h:i=x.1.toNat
      · rw [h,e];rfl
      · congr 1;funext y;rw [hg i y h]
    | some y =>
      by_cases h:y.centre=1∧y.owner≠x.2.power
      · have e1:tk s x=(setOwner s.1 x.1.toNat x.2.power,s.2 + 1):=by unfold tk;rw [e];dsimp only;rw [if_pos h]
        have e2:chg s.1 x=true:=by unfold chg;rw [e];exact decide_eq_true h
        rw [if_pos e2,List.length_cons]
        refine ⟨fun i=>?_,by rw [i2,e1];show s.2 + 1 + _=_;omega⟩
        by_cases hi:i=x.1.toNat
        · rw [i1 i,e1]
          show ((setOwner s.1 x.1.toNat x.2.power)[i]?).map _=_
          rw [setOwner_at,hi,if_pos rfl,e]
          show some ({ ({ y with owner:=x.2.power }:Prov) with owner:=gOwn l x.1.toNat { y with owner:=x.2.power } })=some ({ y with owner:=gOwn (x::l) x.1.toNat y })
          rw [hg2,hg3,if_pos h.1]
        · rw [i1 i,at_ i hi]
          congr 1;funext y;rw [hg i y hi]
      · have e1:tk s x=s:=by unfold tk;rw [e];dsimp only;rw [if_neg h]
        have e2:chg s.1 x=false:=by unfold chg;rw [e];exact decide_eq_false h
        rw [e1] at i1 i2 ⊢
        rw [if_neg (by rw [e2];decide)]
        refine ⟨fun i=>?_,i2⟩
        rw [i1 i]
        by_cases hi:i=x.1.toNat
        · rw [hi,e]
          show some ({ y with owner:=gOwn l x.1.toNat y })=some ({ y with owner:=gOwn (x::l) x.1.toNat y })
          rw [hg2,hg3]
          by_cases hc:y.centre=1
          · rw [if_pos hc,Classical.byContradiction fun z=>h ⟨hc,z⟩]
          · rw [if_neg hc]
        · congr 1;funext y;rw [hg i y hi]
theorem pairAt_fm (f:Nat→Option Nat) (i:Nat):∀l:List Nat,pairAt (l.filterMap fun p=>(f p).map fun w=>(p,w)) i=if i∈l then f i else none
  | []=>rfl
  | a::l=>by
    have ih:=pairAt_fm f i l
    rw [List.filterMap_cons]
    by_cases h:a=i
    · subst h
      rw [if_pos List.mem_cons_self]
      cases e:f a with
      | none =>
        rw [e] at ih
        show pairAt (l.filterMap _) a=none
        rw [ih];split <;> rfl
      | some w =>
        show pairAt ((a,w)::_) a=some w
        unfold pairAt
        rw [List.find?_cons,show ((a,w).1 == a)=true from beq_iff_eq.mpr rfl];rfl
    · have e2:(i∈a::l)=(i∈l):=by
        rw [List.mem_cons]
        exact propext ⟨fun z=>z.resolve_left (Ne.symm h),.inr⟩
      simp only [e2]
      rw [← ih]
      cases e:f a with
      | none=>rfl
      | some w =>
        show pairAt ((a,w)::_) i=_
        unfold pairAt
        rw [List.find?_cons,show ((a,w).1 == i)=false from beq_eq_false_iff_ne.mpr h]
theorem Rf.reown {B:Bd} {t:Table} (R:Rf B t) {ps:List Prov} {os:List (Nat×Nat)} (g:Nat→Prov→Int) (hl:ps.length=B.provs.length) (hp:∀i:Nat,ps[i]? = B.provs[i]?.map fun y=>{ y with owner:=g i y })
    (hg:∀(i:Nat) (y:Prov),B.provs[i]? = some y→-1≤g i y∧g i y≤6∧(y.centre=0→g i y = -1)) (ho:∀j,pairAt os j=(B.provs[j]?).bind fun y=>if g j y = -1 then none else some (g j y).toNat) :
    Rf { B with provs:=ps } { t with owners:=os }:=by
  refine { R with kinds:=?_,pok:=?_,plen:=?_,cen:=?_,hom:=?_,own:=?_,landok:=?_,seaok:=?_,uok:=?_,dok:=?_,bok:=?_,rok:=?_ }
  · show t.board.kinds=ps.map _
    rw [R.kinds]
    refine List.ext_getElem? fun j=>?_
    rw [List.getElem?_map,List.getElem?_map,hp j,Option.map_map]
    rfl
  · intro p hpm
    obtain ⟨j,hj⟩:=List.mem_iff_getElem?.mp hpm
    have hj:ps[j]? = some p:=hj
    rw [hp j,Option.map_eq_some_iff] at hj
    obtain ⟨x,hx,rfl⟩:=hj
    have ok:=R.pok x (List.mem_of_getElem? hx)
    obtain ⟨g1,g2,g3⟩:=hg j x hx
    exact ⟨ok.1,ok.2.1,ok.2.2.1,ok.2.2.2.1,ok.2.2.2.2.1,g1,g2,fun e=>⟨(ok.2.2.2.2.2.2.2 e).1,g3 e⟩⟩
  · show ps.length≤40;rw [hl];exact R.plen
  · show t.centres=(List.range ps.length).filter _
    rw [hl,R.cen]
    refine range_filter_congr fun j hj=>?_
    unfold Sb.isCen
    show _=((ps[j]?.map _) == some 1)
    rw [hp j,Option.map_map];rfl
  · intro j
    show _=(ps[j]?).bind _
    rw [hp j,R.hom j]
    cases B.provs[j]? <;> rfl
  · intro j
    show pairAt os j=(ps[j]?).bind _
    rw [hp j,ho j]
    cases B.provs[j]? <;> rfl
  · intro x hx;show _<ps.length∧_<ps.length∧_;rw [hl];exact R.landok x hx
  · intro x hx;show _<ps.length∧_<ps.length∧_;rw [hl];exact R.seaok x hx
  · intro x hx;show ManOk ps.length x;rw [hl];exact R.uok x hx
  · intro x hx;show DrvOk ps.length x;rw [hl];exact R.dok x hx
  · intro x hx;show _<ps.length;rw [hl];exact R.bok x hx
  · intro x hx;show ManOk ps.length x∧_;rw [hl];exact R.rok x hx
section
variable {B:Bd} {t:Table} (R:Rf B t)
include R
theorem taken_at (i:Nat):pairAt (Vbsoag.taken t) i=if i∈t.centres then (match manAt t.men i with | some m=>some m.power | none=>pairAt t.owners i) else none:=by
  rw [← pairAt_fm (fun i=>match manAt t.men i with | some m=>some m.power | none=>pairAt t.owners i) i t.centres]
  unfold Vbsoag.taken
  congr 1
  refine fm_congr fun p _=>?_
  cases manAt t.men p <;> rfl
theorem cen_mem {i:Nat}:i∈t.centres↔∃y,B.provs[i]? = some y∧y.centre=1:=by
  rw [← List.contains_iff_mem,R.isCen]
  unfold Sb.isCen
  rw [beq_iff_eq,Option.map_eq_some_iff]
theorem take_own (j:Nat):pairAt (Vbsoag.taken t) j=(B.provs[j]?).bind fun y=>if gOwn B.units j y = -1 then none else some (gOwn B.units j y).toNat:=by
  rw [taken_at R]
  cases e:B.provs[j]? with
  | none=>rw [if_neg (fun z=>by obtain ⟨y,h,_⟩:=(cen_mem R).mp z;rw [e] at h;cases h)];rfl
  | some y =>
    have ok:=R.pok y (List.mem_of_getElem? e)
    rw [Option.bind_some]
    unfold gOwn
    by_cases h:y.centre=1
    · rw [if_pos ((cen_mem R).mpr ⟨y,e,h⟩),if_pos h,look_u R]
      cases q:manAt t.men j with
      | none =>
        have:=R.own j
        rw [e] at this
        exact this
      | some m =>
        show some m.power=if (m.power:Int) = -1 then none else some ((m.power:Int)).toNat
        rw [if_neg (by omega),Int.toNat_natCast]
    · rw [if_neg (fun z=>by obtain ⟨y',h1,h2⟩:=(cen_mem R).mp z;rw [e] at h1;cases h1;exact h h2),if_neg h]
      have h0:y.centre=0:=ok.2.2.1.resolve_right h
      rw [if_pos (ok.2.2.2.2.2.2.2 h0).2]
theorem take_ok (i:Nat) (y:Prov) (e:B.provs[i]? = some y):-1≤gOwn B.units i y∧gOwn B.units i y≤6∧(y.centre=0→gOwn B.units i y = -1):=by
  have ok:=R.pok y (List.mem_of_getElem? e)
  unfold gOwn
  by_cases h:y.centre=1
  · rw [if_pos h,look_u R]
    refine ⟨?_,?_,fun z=>by omega⟩
    · cases q:manAt t.men i with
      | none=>exact ok.2.2.2.2.2.1
      | some m=>show (-1:Int)≤(m.power:Int);omega
    · cases q:manAt t.men i with
      | none=>exact ok.2.2.2.2.2.2.1
      | some m =>
        have:=(R.uok m (manAt_some q).1).2.1
        show (m.power:Int)≤6;omega
  · rw [if_neg h]
    exact ⟨ok.2.2.2.2.2.1,ok.2.2.2.2.2.2.1,fun z=>(ok.2.2.2.2.2.2.2 z).2⟩
theorem units_nn:∀x∈B.units,0≤x.1:=fun x hx=>(units_isP R x hx).1
theorem take_cnt:(B.units.filter (chg B.provs)).length=(t.centres.filter fun p=>pairAt t.owners p != pairAt (Vbsoag.taken t) p).length:=by
  have nd1:((B.units.filter (chg B.provs)).map (·.1)).Nodup:=(List.filter_sublist.map _).nodup (ukeys_nd R)
  have nd2:((t.centres.filter fun p=>pairAt t.owners p != pairAt (Vbsoag.taken t) p).map Int.ofNat).Nodup:=by
    unfold List.Nodup
    rw [List.pairwise_map,R.cen]
    exact ((List.pairwise_lt_range.filter _).filter _).imp fun h e=>by
      have:=Int.ofNat.inj e
      omega
  have hm:∀p:Int,p∈(B.units.filter (chg B.provs)).map (·.1)↔p∈(t.centres.filter fun p=>pairAt t.owners p != pairAt (Vbsoag.taken t) p).map Int.ofNat:=fun p=>by
    rw [List.mem_map,List.mem_map]
    constructor
    · rintro ⟨x,hx,rfl⟩
      obtain ⟨h1,h2⟩:=List.mem_filter.mp hx
      obtain ⟨m,hm,rfl⟩:=List.mem_map.mp (R.units.mem_iff.mp h1)
      refine ⟨m.prov,List.mem_filter.mpr ?_,rfl⟩
      unfold chg at h2
      have e0:((encMan m).1).toNat=m.prov:=rfl
      rw [e0] at h2
      cases e:B.provs[m.prov]? with
      | none=>rw [e] at h2;cases h2
      | some y =>
        rw [e] at h2
        obtain ⟨c1,c2⟩:=of_decide_eq_true h2
        have c2:y.owner≠(m.power:Int):=c2
        have hc:=(cen_mem R).mpr ⟨y,e,c1⟩
        refine ⟨hc,?_⟩
        rw [bne_iff_ne,taken_at R,if_pos hc,manAt_of_mem R.usort hm,R.own m.prov,e,Option.bind_some]
        show (if y.owner = -1 then none else some y.owner.toNat)≠some m.power
        have ok:=R.pok y (List.mem_of_getElem? e)
        have:=ok.2.2.2.2.2.1
        by_cases q:y.owner = -1
        · rw [if_pos q];exact fun z=>nomatch z
        · rw [if_neg q];intro z
          have:=Option.some.inj z
          omega
    · rintro ⟨i,hi,rfl⟩
      obtain ⟨hc,h2⟩:=List.mem_filter.mp hi
      obtain ⟨y,e,c1⟩:=(cen_mem R).mp hc
      rw [bne_iff_ne,taken_at R,if_pos hc] at h2
      cases q:manAt t.men i with
      | none=>rw [q] at h2;exact absurd rfl h2
      | some m =>
        rw [q] at h2
        obtain ⟨m1,m2⟩:=manAt_some q
        refine ⟨encMan m,List.mem_filter.mpr ⟨R.units.mem_iff.mpr (List.mem_map.mpr ⟨m,m1,rfl⟩),?_⟩,by rw [← m2];rfl⟩
        unfold chg
        have e0:((encMan m).1).toNat=i:=m2
        rw [e0,e]
        refine decide_eq_true ⟨c1,fun z=>h2 ?_⟩
        have z:y.owner=(m.power:Int):=z
        rw [R.own i,e,Option.bind_some,if_neg (by omega),z];rfl
  have l1:=nodup_sub nd1 fun x hx=>(hm x).mp hx
  have l2:=nodup_sub nd2 fun x hx=>(hm x).mpr hx
  rw [List.length_map,List.length_map] at l1 l2
  omega
theorem rf_take:Rf (mTake B).1 (Vbsoag.step t .take).1∧(Vbsoag.step t .take).2=(mTake B).2:=by
  unfold mTake Vbsoag.step
  dsimp only
  by_cases h1:0<B.driven.length
  · rw [if_pos h1,if_pos ((busy_iff R).mpr h1)];exact ⟨R,rfl⟩
  rw [if_neg h1,if_neg (fun z=>h1 ((busy_iff R).mp z))]
  obtain ⟨f1,f2⟩:=tk_fold B.units (B.provs,0) (ukeys_nd R) (units_nn R)
  refine ⟨(R.forget).reown (gOwn B.units) (tk_len _ _) f1 (fun i y e=>take_ok (B:=B) R i y e) (fun j=>take_own (B:=B) R j),?_⟩
  rw [f2]
  show [((_:Nat):Int)]=[0 + ((B.units.filter (chg B.provs)).length:Int)]
  rw [take_cnt R,Int.zero_add]
end
theorem few_take {B:Bd} (h:Few B):Few (mTake B).1:=by
  unfold mTake
  split
  · exact h
  · exact few_nil rfl
end Sb
end
section
namespace Sb
open Vbsoaa (Board Man Men kind place linked manAt)
open Vbsoag (Driven Table putIn putMan putOut pairAt provinces outAt)
section
variable {B:Bd} {t:Table} (R:Rf B t)
include R
theorem dis_unit {w p:Nat} (h:p∈Vbsoag.disorder t w):∃m∈t.men,m.prov=p∧m.power=w:=by
  unfold Vbsoag.disorder at h
  obtain ⟨x,hx,rfl⟩:=List.mem_map.mp h
  obtain ⟨m,hm,rfl⟩:=List.mem_map.mp ((putBys_perm _).mem_iff.mp hx)
  unfold Vbsoag.unitsOf at hm
  obtain ⟨h1,h2⟩:=List.mem_filter.mp hm
  exact ⟨m,h1,rfl,by rwa [beq_iff_eq] at h2⟩
theorem told_iff {w p:Nat} (h:p∈Vbsoag.disorder t w):(Vbsoag.dropsOf t w).contains p=decide ((p:Int)∈B.drops):=by
  rw [Bool.eq_iff_iff,List.contains_iff_mem,decide_eq_true_iff,mem_nats R.drops,Int.toNat_natCast]
  unfold Vbsoag.dropsOf
  rw [List.mem_filter]
  constructor
  · exact fun z=>⟨by omega,z.1⟩
  · intro z
    refine ⟨z.2,List.any_eq_true.mpr ?_⟩
    obtain ⟨m,h1,h2,h3⟩:=dis_unit R h
    exact ⟨m,List.mem_filter.mpr ⟨h1,by rw [beq_iff_eq];exact h3⟩,by rw [beq_iff_eq];exact h2⟩
theorem goneW_mem {w:Nat} {l:List Int} (hl:l=Vbsoag.ints (Vbsoag.disorder t w)) (p:Int):p∈goneW B (w:Int) l↔∃q,q∈Vbsoag.goneOf t w∧p=(q:Int):=by
  have h0:(0:Int)≤(w:Int):=by omega
  have hc:(unitsW B.units (w:Int)).length - (centresW B (w:Int)).length - (dropsW B (w:Int)).length=Vbsoag.fewer t w - (Vbsoag.dropsOf t w).length:=by
    rw [unitsW_len R h0,centresW_len R h0,dropsW_len R h0,Int.toNat_natCast];rfl
  have hf:(l.filter fun p=>!decide (p∈B.drops))=((Vbsoag.disorder t w).filter fun p=>!(Vbsoag.dropsOf t w).contains p).map Int.ofNat:=by
    rw [hl]
    unfold Vbsoag.ints
    rw [List.filter_map]
    congr 1
    refine List.filter_congr fun p hp=>?_
    rw [told_iff R hp];rfl
  have hd:=dropsP R h0
  rw [Int.toNat_natCast] at hd
  unfold goneW Vbsoag.goneOf
  rw [hc,hf,← List.map_take,List.mem_append,hd.mem_iff,List.mem_map,List.mem_map]
  dsimp only
  simp only [mem_sorted,List.mem_append]
  constructor
  · rintro (⟨q,hq,rfl⟩ | ⟨q,hq,rfl⟩)
    · exact ⟨q,.inl hq,rfl⟩
    · exact ⟨q,.inr hq,rfl⟩
  · rintro ⟨q,hq | hq,rfl⟩
    · exact .inl ⟨q,hq,rfl⟩
    · exact .inr ⟨q,hq,rfl⟩
end
theorem sortI_lt {l:List Int} (h:l.Nodup):(sortI l).Pairwise (· < ·):=by
  have h1:=sortI_sort l
  have h2:(sortI l).Pairwise (· ≠ ·):=(sortI_perm l).nodup_iff.mpr h
  exact (h1.and h2).imp fun ⟨a,b⟩=>by omega
section
variable {B:Bd} {t:Table} (X:RX B t)
include X
theorem gone_eq {ls:Nat→List Int} (hl:∀w:Nat,w<7→IsDis B (w:Int) (ls w)):goneAll B ls=Vbsoag.ints (Vbsoag.allGone t):=by
  have R:=X.rf
  unfold goneAll Vbsoag.ints
  refine ints_eq (sortI_lt (goneTo_nd X.uok hl)) ?_ fun p=>?_
  · rw [List.pairwise_map]
    exact (sorted_sort _).imp fun h=>Int.ofNat_lt.mpr h
  · rw [(sortI_perm _).mem_iff,List.mem_map]
    unfold goneTo Vbsoag.allGone
    simp only [mem_sorted,List.mem_flatMap,List.mem_range]
    constructor
    · rintro ⟨w,hw,h⟩
      obtain ⟨q,h1,h2⟩:=(goneW_mem R (dis_eq R (by omega) (hl w hw)) p).mp h
      exact ⟨q,⟨w,hw,h1⟩,h2.symm⟩
    · rintro ⟨q,⟨w,hw,h1⟩,h2⟩
      exact ⟨w,hw,(goneW_mem R (dis_eq R (by omega) (hl w hw)) p).mpr ⟨q,h1,h2.symm⟩⟩
theorem rf_settle (h1:¬ 0<B.driven.length) {ls:Nat→List Int} (hl:∀w:Nat,w<7→IsDis B (w:Int) (ls w)) :
    Rf (mSettle B (goneAll B ls)).1 (Vbsoag.step t .settle).1∧(Vbsoag.step t .settle).2=(mSettle B (goneAll B ls)).2:=by
  have R:=X.rf
  rw [gone_eq X hl]
  unfold mSettle Vbsoag.step
  dsimp only
  rw [if_neg (fun z=>h1 ((busy_iff R).mp z))]
  have hf:(B.units.filter fun x=>!decide (x.1∈Vbsoag.ints (Vbsoag.allGone t))).Perm ((t.men.filter fun m=>!(Vbsoag.allGone t).contains m.prov).map encMan):=by
    refine (R.units.filter _).trans (List.Perm.of_eq ?_)
    rw [List.filter_map]
    congr 1
    refine List.filter_congr fun m _=>?_
    show (!decide ((m.prov:Int)∈Vbsoag.ints (Vbsoag.allGone t)))=_
    congr 1
    rw [Bool.eq_iff_iff,decide_eq_true_iff,List.contains_iff_mem]
    unfold Vbsoag.ints
    rw [List.mem_map]
    exact ⟨fun ⟨q,h,e⟩=>by have:q=m.prov:=Int.ofNat.inj e;rwa [← this],fun h=>⟨_,h,rfl⟩⟩
  have hout:t.out.length=0:=by rw [← R.dlen];omega
  have hlen:(t.raises.foldr putMan (t.men.filter fun m=>!(Vbsoag.allGone t).contains m.prov)).length≤24:=by
    rw [(putMen_perm _ _).length_eq,List.length_append]
    have:=List.length_filter_le (fun m:Man=>!(Vbsoag.allGone t).contains m.prov) t.men
    have:=R.rfew
    omega
  refine ⟨{ R.forget with units:=?_,usort:=?_,uok:=fun m hm=>?_,few:=?_,rok:=fun _ h=>(nomatch h),rfew:=?_,xok:=fun _ h=>(nomatch h) },?_⟩
  · refine ((hf.append R.raises).trans List.perm_append_comm).trans ?_
    rw [← List.map_append]
    exact ((putMen_perm _ _).map _).symm
  · refine putMen_sort (R.usort.filter _) (R.rsort.imp fun h=>Nat.ne_of_lt h) fun x hx y hy=>?_
    exact (R.rok x hx).2 y (List.mem_filter.mp hy).1
  · rcases List.mem_append.mp ((putMen_perm _ _).mem_iff.mp hm) with z | z
    · exact (R.rok m z).1
    · exact R.uok m (List.mem_filter.mp z).1
  · show _ + t.out.length≤24
    rw [hout];exact hlen
  · exact hlen
  · show Vbsoag.rows (t.raises.map Vbsoag.manNumbers)++Vbsoag.row (Vbsoag.allGone t)=_
    rw [rowsU_of R R.raises R.rsort]
    unfold Vbsoag.row Vbsoag.ints
    rw [List.map_cons,List.length_map]
    rfl
end
end Sb
end
section
namespace Sb
open PySem PySem.Spec PyProof.Rows L2
open Vbsoag (Table)
section
variable {mg:Str→Option Value} {b:Addr} {A:Ads} {H:Hp} {B:Bd} {t:Table} {out:List Int} {Q:VK}
theorem end_rf {s:Table×List Int} {m:Bd×List Int} (k:spStep mg b A H s.1 s.2 Q) (h:Rf m.1 s.1∧s.2=m.2) (fw:Few m.1) (hl:m.2.length≤1000):spEnd mg b A H m.1 m.2 Q:=by
  rw [h.2] at k
  exact k.of ⟨h.1,fw⟩ hl
theorem end_st {s:Table×List Int} (k:spStep mg b A H s.1 s.2 Q) (X:RX B t) (h:s=(t,out)) (hl:out.length≤1000):spEnd mg b A H B out Q:=by
  rw [h] at k
  exact k.of X hl
end
theorem few_land {B:Bd} (h:Few B) (p q:Int):Few (mLand B p q).1∧(mLand B p q).2.length≤1000:=by
  unfold mLand
  repeat' split
  all_goals exact ⟨h,by show 1≤1000;decide⟩
theorem few_sea {B:Bd} (h:Few B) (p s q u:Int):Few (mSea B p s q u).1∧(mSea B p s q u).2.length≤1000:=by
  unfold mSea
  repeat' split
  all_goals exact ⟨h,by show 1≤1000;decide⟩
theorem few_man {B:Bd} (h:Few B) (w f p s:Int):Few (mMan B w f p s).1∧(mMan B w f p s).2.length≤1000:=by
  unfold mMan
  repeat' split
  all_goals first | exact ⟨h,by show 1≤1000;decide⟩ | exact ⟨few_nil rfl,by show 1≤1000;decide⟩
theorem few_owner {B:Bd} (h:Few B) (p w:Int):Few (mOwner B p w).1∧(mOwner B p w).2.length≤1000:=by
  unfold mOwner
  repeat' split
  all_goals first | exact ⟨h,by show 1≤1000;decide⟩ | exact ⟨few_nil rfl,by show 1≤1000;decide⟩
theorem few_driven {B:Bd} (h:Few B) (w f p s o:Int):Few (mDriven B w f p s o).1∧(mDriven B w f p s o).2.length≤1000:=by
  unfold mDriven
  repeat' split
  all_goals first | exact ⟨h,by show 1≤1000;decide⟩ | exact ⟨few_nil rfl,by show 1≤1000;decide⟩
theorem few_bar {B:Bd} (h:Few B) (p:Int):Few (mBar B p).1∧(mBar B p).2.length≤1000:=by
  unfold mBar
  repeat' split
  all_goals exact ⟨h,by show 1≤1000;decide⟩
theorem few_go {B:Bd} (h:Few B) (p q s:Int):Few (mGo B p q s).1∧(mGo B p q s).2.length≤1000:=by
  unfold mGo
  repeat' split
  all_goals exact ⟨h,by show 1≤1000;decide⟩
theorem few_leave {B:Bd} (h:Few B) (p:Int):Few (mLeave B p).1∧(mLeave B p).2.length≤1000:=by
  unfold mLeave
  repeat' split
  all_goals exact ⟨h,by show 1≤1000;decide⟩
theorem one_province {B:Bd} (k c h:Int):(mProvince B k c h).2.length≤1000:=by
  unfold mProvince
  repeat' split
  all_goals (show 1≤1000;decide)
theorem one_raise {B:Bd} (w f p s:Int):(mRaise B w f p s).2.length≤1000:=by
  unfold mRaise
  repeat' split
  all_goals (show 1≤1000;decide)
theorem one_drop {B:Bd} (p:Int):(mDrop B p).2.length≤1000:=by
  unfold mDrop
  repeat' split
  all_goals (show 1≤1000;decide)
theorem one_take {B:Bd}:(mTake B).2.length≤1000:=by
  unfold mTake
  repeat' split
  all_goals (show 1≤1000;decide)
theorem choose_len {B:Bd} (hn:B.provs.length≤40) (p:Int):(mChoose B p).length≤1000:=by
  unfold mChoose
  split
  · show 1≤1000;decide
  · rename_i d _
    have h:(mChoices B d).length≤4 * B.provs.length:=chTo_len B d B.provs.length
    rw [List.length_cons,flatP_len];omega
theorem rowsU_len (l:List (Int×Unt)):(rowsU l).length≤4 * l.length + 1:=by
  unfold rowsU
  have:=inOrd_len l
  rw [List.length_cons,unum_len];omega
theorem barred40 {B:Bd} {t:Table} (R:Rf B t):B.barred.length≤40:=by
  rw [perm_len R.barred]
  have h:=nodup_le B.provs.length t.barred (R.bsort.imp fun h=>Nat.ne_of_lt h) R.bok
  have:=R.plen
  omega
theorem nil_of {l:List Int} (h:l.length=0):l=[]:=List.length_eq_zero_iff.mp h
section
variable {P:Program} {w:World} {K:PySem.W.Frag} {mg:Str→Option Value} {base:Heap} (T:Txt K mg)
include T
theorem callsAt {j:Nat} (hj:j<22):∃x ps,tab_CALLS[j]? = some x∧FnAt P w K mg base (adr mg x) 6 ps (stepSp mg j):=by
  have rng:∀{n:Nat} {p:Int},(0≤p∧p≤(n:Int) - 1)→0≤p∧p<(n:Int):=fun h=>by omega
  match j,hj with
  | 0,_ =>
    refine ⟨_,_,rfl,Def.at_ (ok_clear T) (by decide) fun vs H Q E=>?_⟩
    rintro ⟨b,A,B,t,args,rfl,hB,hW,X,hl,hr,k⟩
    obtain rfl:=nil_of hl
    exact ⟨b,A,B,rfl,hB,hW,end_rf (s:=Vbsoag.step t .clear) (m:=({},[0])) k ⟨Rf.start,rfl⟩ (few_nil rfl) (by show 1≤1000;decide)⟩
  | 1,_ =>
    refine ⟨_,_,rfl,Def.at_ (ok_province T) (by decide) fun vs H Q E=>?_⟩
    rintro ⟨b,A,B,t,args,rfl,hB,hW,X,hl,hr,k⟩
    obtain ⟨a1,a2,a3,rfl⟩:=args3 hl
    simp only [inR,sig,sigs,lo,hi,List.getD_cons_succ,List.getD_cons_zero,Bool.and_true,Bool.and_eq_true,within_iff] at hr
    exact ⟨b,A,B,a1,a2,a3,rfl,hB,hW,X.rf.plen,end_rf (s:=Vbsoag.step t (.province a1 a2 a3)) k (rf_province X.rf hr.1 hr.2.1 hr.2.2) (few_province X.few _ _ _) (one_province _ _ _)⟩
  | 2,_ =>
    refine ⟨_,_,rfl,Def.at_ (ok_land T) (by decide) fun vs H Q E=>?_⟩
    rintro ⟨b,A,B,t,args,rfl,hB,hW,X,hl,hr,k⟩
    obtain ⟨a1,a2,rfl⟩:=args2 hl
    simp only [inR,sig,sigs,lo,hi,List.getD_cons_succ,List.getD_cons_zero,Bool.and_true,Bool.and_eq_true,within_iff] at hr
    exact ⟨b,A,B,a1,a2,rfl,hB,hW,rng hr.1,rng hr.2,(by rw [X.rf.land,List.length_map];exact X.rf.landlen),end_rf (s:=Vbsoag.step t (.land a1 a2)) k (rf_land X.rf (rng hr.1) (rng hr.2)) (few_land X.few _ _).1 (few_land X.few _ _).2⟩
  | 3,_ =>
    refine ⟨_,_,rfl,Def.at_ (ok_sea T) (by decide) fun vs H Q E=>?_⟩
    rintro ⟨b,A,B,t,args,rfl,hB,hW,X,hl,hr,k⟩
    obtain ⟨a1,a2,a3,a4,rfl⟩:=args4 hl
    simp only [inR,sig,sigs,lo,hi,List.getD_cons_succ,List.getD_cons_zero,Bool.and_true,Bool.and_eq_true,within_iff] at hr
    obtain ⟨r1,r2,r3,r4⟩:=hr
    exact ⟨b,A,B,a1,a2,a3,a4,rfl,hB,hW,rng r1,rng r3,(by rw [X.rf.sea,List.length_map];exact X.rf.sealen),end_rf (s:=Vbsoag.step t (.sea a1 a2 a3 a4)) k (rf_sea X.rf (rng r1) (rng r3) r2 r4) (few_sea X.few _ _ _ _).1 (few_sea X.few _ _ _ _).2⟩
  | 4,_ =>
    refine ⟨_,_,rfl,Def.at_ (ok_man T) (by decide) fun vs H Q E=>?_⟩
    rintro ⟨b,A,B,t,args,rfl,hB,hW,X,hl,hr,k⟩
    obtain ⟨a1,a2,a3,a4,rfl⟩:=args4 hl
    simp only [inR,sig,sigs,lo,hi,List.getD_cons_succ,List.getD_cons_zero,Bool.and_true,Bool.and_eq_true,within_iff] at hr
    obtain ⟨r1,r2,r3,r4⟩:=hr
    exact ⟨b,A,B,a1,a2,a3,a4,rfl,hB,hW,rng r3,end_rf (s:=Vbsoag.step t (.man a1 a2 a3 a4)) k (rf_man X.rf r1 r2 (rng r3) r4) (few_man X.few _ _ _ _).1 (few_man X.few _ _ _ _).2⟩
  | 5,_ =>
    refine ⟨_,_,rfl,Def.at_ (ok_owner T) (by decide) fun vs H Q E=>?_⟩
    rintro ⟨b,A,B,t,args,rfl,hB,hW,X,hl,hr,k⟩
    obtain ⟨a1,a2,rfl⟩:=args2 hl
    simp only [inR,sig,sigs,lo,hi,List.getD_cons_succ,List.getD_cons_zero,Bool.and_true,Bool.and_eq_true,within_iff] at hr
    exact ⟨b,A,B,a1,a2,rfl,hB,hW,rng hr.1,end_rf (s:=Vbsoag.step t (.owner a1 a2)) k (rf_owner X.rf (rng hr.1) hr.2) (few_owner X.few _ _).1 (few_owner X.few _ _).2⟩
  | 6,_ =>
    refine ⟨_,_,rfl,Def.at_ (ok_driven T) (by decide) fun vs H Q E=>?_⟩
    rintro ⟨b,A,B,t,args,rfl,hB,hW,X,hl,hr,k⟩
    obtain ⟨a1,a2,a3,a4,a5,rfl⟩:=args5 hl
    simp only [inR,sig,sigs,lo,hi,List.getD_cons_succ,List.getD_cons_zero,Bool.and_true,Bool.and_eq_true,within_iff] at hr
    obtain ⟨r1,r2,r3,r4,r5⟩:=hr
    exact ⟨b,A,B,a1,a2,a3,a4,a5,rfl,hB,hW,rng r3,end_rf (s:=Vbsoag.step t (.driven a1 a2 a3 a4 a5)) k (rf_driven X.rf r1 r2 (rng r3) r4 (by omega)) (few_driven X.few _ _ _ _ _).1 (few_driven X.few _ _ _ _ _).2⟩
  | 7,_ =>
    refine ⟨_,_,rfl,Def.at_ (ok_bar T) (by decide) fun vs H Q E=>?_⟩
    rintro ⟨b,A,B,t,args,rfl,hB,hW,X,hl,hr,k⟩
    obtain ⟨a1,rfl⟩:=args1 hl
    simp only [inR,sig,sigs,lo,hi,List.getD_cons_succ,List.getD_cons_zero,Bool.and_true,Bool.and_eq_true,within_iff] at hr
    exact ⟨b,A,B,a1,rfl,hB,hW,barred40 X.rf,end_rf (s:=Vbsoag.step t (.bar a1)) k (rf_bar X.rf (rng hr)) (few_bar X.few _).1 (few_bar X.few _).2⟩
  | 8,_ =>
    refine ⟨_,_,rfl,Def.at_ (ok_choices T) (by decide) fun vs H Q E=>?_⟩
    rintro ⟨b,A,B,t,args,rfl,hB,hW,X,hl,hr,k⟩
    obtain ⟨a1,rfl⟩:=args1 hl
    simp only [inR,sig,sigs,lo,hi,List.getD_cons_succ,List.getD_cons_zero,Bool.and_true,Bool.and_eq_true,within_iff] at hr
    have h:=rf_choices X.rf (rng hr)
    exact ⟨b,A,B,a1,rfl,hB,hW,X.rf.plen,end_st (s:=Vbsoag.step t (.choices a1)) k X (Prod.ext h.1 h.2) (choose_len X.rf.plen _)⟩
  | 9,_ =>
    refine ⟨_,_,rfl,Def.at_ (ok_go T) (by decide) fun vs H Q E=>?_⟩
    rintro ⟨b,A,B,t,args,rfl,hB,hW,X,hl,hr,k⟩
    obtain ⟨a1,a2,a3,rfl⟩:=args3 hl
    simp only [inR,sig,sigs,lo,hi,List.getD_cons_succ,List.getD_cons_zero,Bool.and_true,Bool.and_eq_true,within_iff] at hr
    exact ⟨b,A,B,a1,a2,a3,rfl,hB,hW,X.rf.plen,dkeys_nd X.rf,end_rf (s:=Vbsoag.step t (.go a1 a2 a3)) k (rf_go X.rf (rng hr.1) (rng hr.2.1) hr.2.2) (few_go X.few _ _ _).1 (few_go X.few _ _ _).2⟩
  | 10,_ =>
    refine ⟨_,_,rfl,Def.at_ (ok_leave T) (by decide) fun vs H Q E=>?_⟩
    rintro ⟨b,A,B,t,args,rfl,hB,hW,X,hl,hr,k⟩
    obtain ⟨a1,rfl⟩:=args1 hl
    simp only [inR,sig,sigs,lo,hi,List.getD_cons_succ,List.getD_cons_zero,Bool.and_true,Bool.and_eq_true,within_iff] at hr
    exact ⟨b,A,B,a1,rfl,hB,hW,dkeys_nd X.rf,end_rf (s:=Vbsoag.step t (.leave a1)) k (rf_leave X.rf (rng hr)) (few_leave X.few _).1 (few_leave X.few _).2⟩
  | 11,_ =>
    refine ⟨_,_,rfl,Def.at_ (ok_resolve T) (by decide) fun vs H Q E=>?_⟩
    rintro ⟨b,A,B,t,args,rfl,hB,hW,X,hl,hr,k⟩
    obtain rfl:=nil_of hl
    have ol:=outs_len B
    have d:=driven24 X.rf
    exact ⟨b,A,B,rfl,hB,hW,dok' X.rf,X.rf.plen,units24 X.rf,resolve_nd X.rf,end_rf (s:=Vbsoag.step t .resolve) k (rf_resolve X.rf) (few_nil rfl) (by unfold mResolve;rw [List.length_cons];omega)⟩
  | 12,_ =>
    refine ⟨_,_,rfl,Def.at_ (ok_take T) (by decide) fun vs H Q E=>?_⟩
    rintro ⟨b,A,B,t,args,rfl,hB,hW,X,hl,hr,k⟩
    obtain rfl:=nil_of hl
    exact ⟨b,A,B,rfl,hB,hW,units_isP X.rf,end_rf (s:=Vbsoag.step t .take) k (rf_take X.rf) (few_take X.few) one_take⟩
  | 13,_ =>
    refine ⟨_,_,rfl,Def.at_ (ok_balance T) (by decide) fun vs H Q E=>?_⟩
    rintro ⟨b,A,B,t,args,rfl,hB,hW,X,hl,hr,k⟩
    obtain ⟨a1,rfl⟩:=args1 hl
    simp only [inR,sig,sigs,lo,hi,List.getD_cons_succ,List.getD_cons_zero,Bool.and_true,Bool.and_eq_true,within_iff] at hr
    exact ⟨b,A,B,a1,rfl,hB,hW,X.rf.plen,units24 X.rf,raises24 X.rf,drops24 X.rf,drops_in X.rf,end_st (s:=Vbsoag.step t (.balance a1)) k X (st_balance X.rf hr) (by show 4≤1000;decide)⟩
  | 14,_ =>
    refine ⟨_,_,rfl,Def.at_ (ok_sites T) (by decide) fun vs H Q E=>?_⟩
    rintro ⟨b,A,B,t,args,rfl,hB,hW,X,hl,hr,k⟩
    obtain ⟨a1,rfl⟩:=args1 hl
    simp only [inR,sig,sigs,lo,hi,List.getD_cons_succ,List.getD_cons_zero,Bool.and_true,Bool.and_eq_true,within_iff] at hr
    have h1:=sitesW_len B a1
    have h2:=X.rf.plen
    exact ⟨b,A,B,a1,rfl,hB,hW,X.rf.plen,end_st (s:=Vbsoag.step t (.sites a1)) k X (st_sites X.rf hr) (by rw [List.length_cons];omega)⟩
  | 15,_ =>
    refine ⟨_,_,rfl,Def.at_ (ok_raise_unit T) (by decide) fun vs H Q E=>?_⟩
    rintro ⟨b,A,B,t,args,rfl,hB,hW,X,hl,hr,k⟩
    obtain ⟨a1,a2,a3,a4,rfl⟩:=args4 hl
    simp only [inR,sig,sigs,lo,hi,List.getD_cons_succ,List.getD_cons_zero,Bool.and_true,Bool.and_eq_true,within_iff] at hr
    obtain ⟨r1,r2,r3,r4⟩:=hr
    exact ⟨b,A,B,a1,a2,a3,a4,rfl,hB,hW,rng r3,X.rf.plen,units24 X.rf,raises24 X.rf,end_rf (s:=Vbsoag.step t (.raise a1 a2 a3 a4)) k (rf_raise X.rf r1 r2 (rng r3) r4) (few_raise X.few _ _ _ _) (one_raise _ _ _ _)⟩
  | 16,_ =>
    refine ⟨_,_,rfl,Def.at_ (ok_drop T) (by decide) fun vs H Q E=>?_⟩
    rintro ⟨b,A,B,t,args,rfl,hB,hW,X,hl,hr,k⟩
    obtain ⟨a1,rfl⟩:=args1 hl
    simp only [inR,sig,sigs,lo,hi,List.getD_cons_succ,List.getD_cons_zero,Bool.and_true,Bool.and_eq_true,within_iff] at hr
    exact ⟨b,A,B,a1,rfl,hB,hW,X.rf.plen,units24 X.rf,drops24 X.rf,drops_in X.rf,end_rf (s:=Vbsoag.step t (.drop a1)) k (rf_drop X.rf (rng hr)) (few_drop X.few _) (one_drop _)⟩
  | 17,_ =>
    refine ⟨_,_,rfl,Def.at_ (ok_settle T) (by decide) fun vs H Q E=>?_⟩
    rintro ⟨b,A,B,t,args,rfl,hB,hW,X,hl,hr,k⟩
    obtain rfl:=nil_of hl
    have r24:=raises24 X.rf
    refine ⟨b,A,B,rfl,hB,hW,bok X.rf,X.uok,ur_nd X.rf,r24,fun h=>end_st (s:=Vbsoag.step t .settle) k X (if_pos ((busy_iff X.rf).mpr h)) (by show 1≤1000;decide),fun h ls hls=>end_rf (s:=Vbsoag.step t .settle) k (rf_settle X h hls) (few_nil rfl) ?_⟩
    have h1:=rowsU_len B.raises
    have h2:(goneAll B ls).length≤24:=by
      unfold goneAll
      rw [(sortI_perm _).length_eq]
      exact goneTo_len X.uok (Nat.le_refl _)
    unfold mSettle
    rw [List.length_append,List.length_cons];omega
  | 18,_ =>
    refine ⟨_,_,rfl,Def.at_ (ok_disorder T) (by decide) fun vs H Q E=>?_⟩
    rintro ⟨b,A,B,t,args,rfl,hB,hW,X,hl,hr,k⟩
    obtain ⟨a1,rfl⟩:=args1 hl
    simp only [inR,sig,sigs,lo,hi,List.getD_cons_succ,List.getD_cons_zero,Bool.and_true,Bool.and_eq_true,within_iff] at hr
    refine ⟨b,A,B,a1,rfl,hB,hW,bok X.rf,units24 X.rf,fun l hl=>end_st (s:=Vbsoag.step t (.disorder a1)) k X (st_disorder X.rf hr hl) ?_⟩
    obtain ⟨fs,us,_,hp,_,rfl⟩:=hl
    have h1:=hp.length_eq
    have h2:(unitsW B.units a1).length≤B.units.length:=by unfold unitsW;rw [List.length_map];exact List.length_filter_le _ _
    have h3:=units24 X.rf
    rw [List.length_cons,List.length_map];omega
  | 19,_ =>
    refine ⟨_,_,rfl,Def.at_ (ok_far T) (by decide) fun vs H Q E=>?_⟩
    rintro ⟨b,A,B,t,args,rfl,hB,hW,X,hl,hr,k⟩
    obtain ⟨a1,a2,rfl⟩:=args2 hl
    simp only [inR,sig,sigs,lo,hi,List.getD_cons_succ,List.getD_cons_zero,Bool.and_true,Bool.and_eq_true,within_iff] at hr
    exact ⟨b,A,B,a1,a2,rfl,hB,hW,bok X.rf,fun fs dk=>end_st (s:=Vbsoag.step t (.far a1 a2)) k X (st_far X.rf hr.1 (rng hr.2) dk) (by show 1≤1000;decide)⟩
  | 20,_ =>
    refine ⟨_,_,rfl,Def.at_ (ok_men T) (by decide) fun vs H Q E=>?_⟩
    rintro ⟨b,A,B,t,args,rfl,hB,hW,X,hl,hr,k⟩
    obtain rfl:=nil_of hl
    have h1:=rowsU_len B.units
    have h2:=units24 X.rf
    exact ⟨b,A,B,rfl,hB,hW,h2,end_st (s:=Vbsoag.step t .men) k X (st_men X.rf) (by omega)⟩
  | 21,_ =>
    refine ⟨_,_,rfl,Def.at_ (ok_owners T) (by decide) fun vs H Q E=>?_⟩
    rintro ⟨b,A,B,t,args,rfl,hB,hW,X,hl,hr,k⟩
    obtain rfl:=nil_of hl
    have h1:=ownTo_len B B.provs.length
    have h2:=X.rf.plen
    exact ⟨b,A,B,rfl,hB,hW,h2,end_st (s:=Vbsoag.step t .owners) k X (st_owners X.rf) (by rw [List.length_cons];omega)⟩
  | j + 22,h=>exact absurd h (by omega)
end
end Sb
end
section
namespace Sb
open PySem PySem.Spec PyProof.Rows L2
section
variable {P:Program} {w:World} {K:PySem.W.Frag} {mg:Str→Option Value} {base:Heap}
theorem decN (a b:Nat):decide (V.int (a:Int)=V.int (b:Int))=decide (a=b):=by
  rw [decV];exact decide_eq_decide.mpr ⟨fun h=>by omega,fun h=>by omega⟩
theorem ar_le:∀j,j<22→ar j≤5:=by decide
def sp_hand_to (K:PySem.W.Frag) (mg:Str→Option Value):Sp:=fun vs H Q _=>∃(f b v:Addr) (A:Ads) (B:Bd) (t:Vbsoag.Table) (j:Nat) (x:Str) (args:List Int),vs=[.ref f,.ref b,.ref v]∧j<22∧tab_CALLS[j]? = some x∧f=adr mg x∧BdAt mg H b A B∧Wr H A∧RX B t∧H v=some (.lst (args.map V.int))∧args.length=ar j∧inR B.provs.length (sig j) args=true ∧
  spStep mg b A H (stepN t j args).1 (stepN t j args).2 Q
theorem sc_hand_to:FnScope ["call", "board", "values"] ["call", "board", "values"] (defScope s_hand_to):=⟨rfl,rfl,rfl,by decide +kernel,rfl,by decide +kernel,by decide +kernel⟩
theorem ok_hand_to (T:Txt K mg):Def P w K mg base "hand_to" 7 ["call", "board", "values"] (sp_hand_to K mg):=by
  obtain ⟨f,fd,hm,F,hb⟩:=T.f_hand_to
  refine ⟨f,hm,F.kp,fd,F.ok sc_hand_to (fun vs H Q E h=>?_) (fun cdv A outer s H vs Q E hr h=>?_),hb⟩
  · obtain ⟨f',b,v,A0,B,t,j,x,args,rfl,_⟩:=h;rfl
  obtain ⟨f',b,v,A0,B,t,j,x,args,rfl,hj,hx,hf,hB,hW,R,hv,hlen,hin,k⟩:=h
  have hu:=hu_of hr
  have hu64:=hu64_of hr
  have nd:=sc_hand_to.nd
  refine ⟨_,(pss_cons (ps_if (pt_cmpR op_eq (pe_callB call_len_seq (by rfl) T.n_len PySem.boot_len (pa_cons (pv 2) pa_nil)) pe_int (nomark _))
  (pss_one (ps_ret (clv (i:=0) hr (pa_cons (pv 1) pa_nil))))
  pss_nil)
 (pss_cons (ps_if (pt_cmpR op_eq (pe_callB call_len_seq (by rfl) T.n_len PySem.boot_len (pa_cons (pv 2) pa_nil)) pe_int (nomark _))
  (pss_one (ps_ret (clv (i:=0) hr (pa_cons (pv 1) (pa_cons (pe_ix ix_list (pv 2) pe_int (fun _ _=>rfl)) pa_nil)))))
  pss_nil)
 (pss_cons (ps_if (pt_cmpR op_eq (pe_callB call_len_seq (by rfl) T.n_len PySem.boot_len (pa_cons (pv 2) pa_nil)) pe_int (nomark _))
  (pss_one (ps_ret (clv (i:=0) hr (pa_cons (pv 1) (pa_cons (pe_ix ix_list (pv 2) pe_int (fun _ _=>rfl)) (pa_cons (pe_ix ix_list (pv 2) pe_int (fun _ _=>rfl)) pa_nil))))))
  pss_nil)
 (pss_cons (ps_if (pt_cmpR op_eq (pe_callB call_len_seq (by rfl) T.n_len PySem.boot_len (pa_cons (pv 2) pa_nil)) pe_int (nomark _))
  (pss_one (ps_ret (clv (i:=0) hr (pa_cons (pv 1) (pa_cons (pe_ix ix_list (pv 2) pe_int (fun _ _=>rfl)) (pa_cons (pe_ix ix_list (pv 2) pe_int (fun _ _=>rfl)) (pa_cons (pe_ix ix_list (pv 2) pe_int (fun _ _=>rfl)) pa_nil)))))))
  pss_nil)
 (pss_cons (ps_if (pt_cmpR op_eq (pe_callB call_len_seq (by rfl) T.n_len PySem.boot_len (pa_cons (pv 2) pa_nil)) pe_int (nomark _))
  (pss_one (ps_ret (clv (i:=0) hr (pa_cons (pv 1) (pa_cons (pe_ix ix_list (pv 2) pe_int (fun _ _=>rfl)) (pa_cons (pe_ix ix_list (pv 2) pe_int (fun _ _=>rfl)) (pa_cons (pe_ix ix_list (pv 2) pe_int (fun _ _=>rfl)) (pa_cons (pe_ix ix_list (pv 2) pe_int (fun _ _=>rfl)) pa_nil))))))))
  pss_nil)
 (pss_one (ps_ret (clv (i:=0) hr (pa_cons (pv 1) (pa_cons (pe_ix ix_list (pv 2) pe_int (fun _ _=>rfl)) (pa_cons (pe_ix ix_list (pv 2) pe_int (fun _ _=>rfl)) (pa_cons (pe_ix ix_list (pv 2) pe_int (fun _ _=>rfl)) (pa_cons (pe_ix ix_list (pv 2) pe_int (fun _ _=>rfl)) (pa_cons (pe_ix ix_list (pv 2) pe_int (fun _ _=>rfl)) pa_nil)))))))))))))),?_⟩
  obtain ⟨x',ps,hx',F6⟩:=callsAt (P:=P) (w:=w) (base:=base) T hj
  rw [hx] at hx'
  cases hx'
  subst hf
  have kp:=F6.1
  have fin:stepSp mg j (.ref b::args.map V.int) H Q E0:=⟨b,A0,B,t,args,rfl,hB,hW,R,hlen,hin,k⟩
  have h5:args.length≤5:=by rw [hlen];exact ar_le j hj
  clear k hin hlen
  have hq:=SqL.of (K:=K) hv
  have no:∀(n m:Nat),n≠m→¬ decide (V.int (n:Int)=V.int (m:Int))=true:=fun n m h z=>by
    rw [decN] at z;exact h (of_decide_eq_true z)
  have yes:∀(n:Nat),decide (V.int (n:Int)=V.int (n:Int))=true:=fun n=>decide_eq_true rfl
  match args,h5 with
  | [],_ =>
    refine ⟨_,rfl,v,_,rfl,.inl hq,rfl,_,rfl,?_⟩
    refine ite2 (fun _=>?_) (fun e=>absurd (yes 0) e)
    exact ⟨_,rfl,kp,_,rfl,ps,_,F6,fin⟩
  | [a],_ =>
    refine ⟨_,rfl,v,_,rfl,.inl hq,rfl,_,rfl,ite2 (fun e=>absurd e (no 1 0 (by decide))) (fun _=>?_)⟩
    refine ⟨_,rfl,v,_,rfl,.inl hq,rfl,_,rfl,ite2 (fun _=>?_) (fun e=>absurd (yes 1) e)⟩
    exact ⟨_,rfl,kp,_,rfl,_,rfl,_,_,_,_,rfl,rfl,hq,rfl,ps,_,F6,fin⟩
  | [a,c],_ =>
    refine ⟨_,rfl,v,_,rfl,.inl hq,rfl,_,rfl,ite2 (fun e=>absurd e (no 2 0 (by decide))) (fun _=>?_)⟩
    refine ⟨_,rfl,v,_,rfl,.inl hq,rfl,_,rfl,ite2 (fun e=>absurd e (no 2 1 (by decide))) (fun _=>?_)⟩
    refine ⟨_,rfl,v,_,rfl,.inl hq,rfl,_,rfl,ite2 (fun _=>?_) (fun e=>absurd (yes 2) e)⟩
    exact ⟨_,rfl,kp,_,rfl,_,rfl,_,_,_,_,rfl,rfl,hq,rfl,_,rfl,_,_,_,_,rfl,rfl,hq,rfl,ps,_,F6,fin⟩
  | [a,c,d],_ =>
    refine ⟨_,rfl,v,_,rfl,.inl hq,rfl,_,rfl,ite2 (fun e=>absurd e (no 3 0 (by decide))) (fun _=>?_)⟩
    refine ⟨_,rfl,v,_,rfl,.inl hq,rfl,_,rfl,ite2 (fun e=>absurd e (no 3 1 (by decide))) (fun _=>?_)⟩
    refine ⟨_,rfl,v,_,rfl,.inl hq,rfl,_,rfl,ite2 (fun e=>absurd e (no 3 2 (by decide))) (fun _=>?_)⟩
    refine ⟨_,rfl,v,_,rfl,.inl hq,rfl,_,rfl,ite2 (fun _=>?_) (fun e=>absurd (yes 3) e)⟩
    exact ⟨_,rfl,kp,_,rfl,_,rfl,_,_,_,_,rfl,rfl,hq,rfl,_,rfl,_,_,_,_,rfl,rfl,hq,rfl,_,rfl,_,_,_,_,rfl,rfl,hq,rfl,ps,_,F6,fin⟩
  | [a,c,d,e0],_ =>
    refine ⟨_,rfl,v,_,rfl,.inl hq,rfl,_,rfl,ite2 (fun e=>absurd e (no 4 0 (by decide))) (fun _=>?_)⟩
    refine ⟨_,rfl,v,_,rfl,.inl hq,rfl,_,rfl,ite2 (fun e=>absurd e (no 4 1 (by decide))) (fun _=>?_)⟩
    refine ⟨_,rfl,v,_,rfl,.inl hq,rfl,_,rfl,ite2 (fun e=>absurd e (no 4 2 (by decide))) (fun _=>?_)⟩
    refine ⟨_,rfl,v,_,rfl,.inl hq,rfl,_,rfl,ite2 (fun e=>absurd e (no 4 3 (by decide))) (fun _=>?_)⟩
    refine ⟨_,rfl,v,_,rfl,.inl hq,rfl,_,rfl,ite2 (fun _=>?_) (fun e=>absurd (yes 4) e)⟩
    exact ⟨_,rfl,kp,_,rfl,_,rfl,_,_,_,_,rfl,rfl,hq,rfl,_,rfl,_,_,_,_,rfl,rfl,hq,rfl,_,rfl,_,_,_,_,rfl,rfl,hq,rfl,_,rfl,_,_,_,_,rfl,rfl,hq,rfl,ps,_,F6,fin⟩
  | [a,c,d,e0,e9],_ =>
    refine ⟨_,rfl,v,_,rfl,.inl hq,rfl,_,rfl,ite2 (fun e=>absurd e (no 5 0 (by decide))) (fun _=>?_)⟩
    refine ⟨_,rfl,v,_,rfl,.inl hq,rfl,_,rfl,ite2 (fun e=>absurd e (no 5 1 (by decide))) (fun _=>?_)⟩
    refine ⟨_,rfl,v,_,rfl,.inl hq,rfl,_,rfl,ite2 (fun e=>absurd e (no 5 2 (by decide))) (fun _=>?_)⟩
    refine ⟨_,rfl,v,_,rfl,.inl hq,rfl,_,rfl,ite2 (fun e=>absurd e (no 5 3 (by decide))) (fun _=>?_)⟩
    refine ⟨_,rfl,v,_,rfl,.inl hq,rfl,_,rfl,ite2 (fun e=>absurd e (no 5 4 (by decide))) (fun _=>?_)⟩
    exact ⟨_,rfl,kp,_,rfl,_,rfl,_,_,_,_,rfl,rfl,hq,rfl,_,rfl,_,_,_,_,rfl,rfl,hq,rfl,_,rfl,_,_,_,_,rfl,rfl,hq,rfl,_,rfl,_,_,_,_,rfl,rfl,hq,rfl,_,rfl,_,_,_,_,rfl,rfl,hq,rfl,ps,_,F6,fin⟩
  | _::_::_::_::_::_::_,h=>exact absurd h (by simp)
def sp_answer (K:PySem.W.Frag) (mg:Str→Option Value):Sp:=fun vs H Q _=>∃(b v:Addr) (A:Ads) (B:Bd) (t:Vbsoag.Table) (j:Nat) (args:List Int),vs=[.ref b,.int (j:Int),.ref v]∧j<22∧BdAt mg H b A B∧Wr H A∧RX B t∧H v=some (.lst (args.map V.int))∧args.length=ar j ∧
  spStep mg b A H (stepN t j args).1 (stepN t j args).2 Q
theorem sc_answer:FnScope ["board", "number", "values"] ["board", "number", "values"] (defScope s_answer):=⟨rfl,rfl,rfl,by decide +kernel,rfl,by decide +kernel,by decide +kernel⟩
theorem ok_answer (T:Txt K mg):Def P w K mg base "answer" 8 ["board", "number", "values"] (sp_answer K mg):=by
  obtain ⟨f,fd,hm,F,hb⟩:=T.f_answer
  refine ⟨f,hm,F.kp,fd,F.ok sc_answer (fun vs H Q E h=>?_) (fun cdv A outer s H vs Q E hr h=>?_),hb⟩
  · obtain ⟨b,v,A0,B,t,j,args,rfl,_⟩:=h;rfl
  obtain ⟨b,v,A0,B,t,j,args,rfl,hj,hB,hW,R,hv,hlen,k⟩:=h
  have hu:=hu_of hr
  have hu64:=hu64_of hr
  have nd:=sc_answer.nd
  refine ⟨_,(pss_cons (ps_if (pt_not (pt_val (cl (ok_all_in_range T) (hr.mono (by decide)) (pa_cons (pv 0) (pa_cons (pv 1) (pa_cons (pv 2) pa_nil))))))
  (pss_one (ps_ret (pe_lst (pa_cons (pg T.g_OUT_OF_RANGE) pa_nil))))
  pss_nil)
 (pss_one (ps_ret (cl (ok_hand_to T) (hr.mono (by decide)) (pa_cons (pe_ix ix_tup (pgr T.r_CALLS) (pv 1) (fun _ _=>rfl)) (pa_cons (pv 0) (pa_cons (pv 2) pa_nil))))))),?_⟩
  refine ⟨_,rfl,_,rfl,_,rfl,b,A0,B,j,v,args,rfl,hB,hj,hv,hlen,fun H1 s1=>⟨_,rfl,?_⟩⟩
  refine ite2 (fun e=>?_) (fun e=>?_)
  · have ef:inR B.provs.length (sig j) args=false:=by simpa using e
    have er:=refused hj hlen (by rw [R.rf.n];exact ef)
    rw [er] at k
    have k':spEnd mg b A0 H B [-1] Q:=k.of R (by show 1≤1000;omega)
    exact ⟨one_ok,fun p hp=>k'.ret hB hW s1 hp rfl⟩
  · have et:inR B.provs.length (sig j) args=true:=by simpa using e
    have hc:(tab_CALLS.map fun x=>V.ref (adr mg x))[j]? = some (V.ref (adr mg (tab_CALLS[j]'hj))):=by
      rw [List.getElem?_map,List.getElem?_eq_getElem (show j<tab_CALLS.length from hj)];rfl
    refine ⟨_,rfl,_,_,_,_,rfl,rfl,.inr T.t_CALLS,at_of (j:=j) rfl hc,_,rfl,_,rfl,_,b,v,A0,B,t,j,_,args,rfl,hj,List.getElem?_eq_getElem (show j<tab_CALLS.length from hj),rfl,hB.same s1,hW.same hB s1,R,s1 _ _ hv,hlen,et,fun H' A' B' p h1 h2 h3 h4 h5 h6 h7 h8=>?_⟩
    exact k H' A' B' p h1 h2 h3 ((Frm.same s1).trans h4 fun a z=>hB.foot z) h5 (s1.free h6) h7 h8
end
end Sb
end
section
namespace Sb
open PySem PySem.Spec PyProof.Rows L2
section
variable {P:Program} {w:World} {K:PySem.W.Frag} {mg:Str→Option Value} {base:Heap}
theorem BdAt.off1 {H:Hp} {b g:Addr} {A:Ads} {B:Bd} {xs:List V} {u:HO} (h:BdAt mg H b A B) (hg:H g=some (.lst xs)) (nf:¬ Foot b A g):BdAt mg (upd H g u) b A B:=by
  have kp:Kp g H (upd H g u):=Kp.of (Same.refl _)
  have kt:Kept mg H (upd H g u) b g 1 A B:=h.kept hg kp
  have dn:∀a∈dicts A,a≠g:=fun a ha z=>nf (.inr (.inr (.inl (by rw [← z];exact ha))))
  exact ⟨kt.obj (by decide),kp _ _ h.pl (fun z=>nf (.inr (.inl z.symm))),h.pnd,kt.pa (by decide),kt.la (dn _ (by simp [dicts])),kt.se (dn _ (by simp [dicts])),kt.un (dn _ (by simp [dicts])),kt.ua (by decide),kt.dr (dn _ (by simp [dicts])),kt.da (by decide) (by decide) (by decide),h.dnd,
    kt.ba (dn _ (by simp [dicts])),kt.ra (dn _ (by simp [dicts])),kt.raa (by decide),kt.dp (dn _ (by simp [dicts])),h.nd⟩
theorem Wr.off1 {H:Hp} {b g:Addr} {A:Ads} {u:HO} (w:Wr H A) (nf:¬ Foot b A g):Wr (upd H g u) A:=fun a ha o q z=>by
  rw [upd_ne (fun e=>nf (.inr (.inr (.inl (by rw [← e];exact ha)))))] at z
  exact w a ha o q z
theorem SqL.kept {H H':Hp} {a:Addr} {xs:List V} (h:SqL K H a xs) (k:∀o,H a=some o→H' a=some o):SqL K H' a xs:=by
  rcases h with (h | ⟨o,h⟩) | h
  · exact .inl (.inl (k _ h))
  · exact .inl (.inr ⟨o,k _ h⟩)
  · exact .inr h
theorem cut_mid (xs:List Int) {lo hi:Int} {a n:Nat} (hl:lo=((a:Nat):Int)) (hh:hi=((a + n:Nat):Int)) (hle:a + n≤xs.length):cutV (xs.map V.int) (some lo) (some hi)=((xs.drop a).take n).map V.int:=by
  subst hl hh
  unfold cutV
  rw [HT.sIx_nat,HT.sIx_nat,List.length_map,Nat.min_eq_left (show a≤xs.length by omega),Nat.min_eq_left hle,Nat.add_sub_cancel_left,List.map_take,List.map_drop]
def sp_answers (K:PySem.W.Frag) (mg:Str→Option Value):Sp:=fun vs H Q _=>∃(a:Addr) (ns:List Int),vs=[.ref a]∧SqL K H a (ns.map V.int)∧PyVbsoag.answers_asked ns=true∧∀(H':Hp) (p:Addr),H' p=some (.lst ((PyVbsoag.answers ns).map V.int))→Q (.ref p) H'
theorem sc_answers:FnScope ["calls", "board", "told", "start", "number", "end", "numbers"] ["calls"] (defScope s_answers):=⟨rfl,rfl,rfl,by decide +kernel,rfl,by decide +kernel,by decide +kernel⟩
theorem ok_answers (T:Txt K mg) {f:Addr} {fd:FuncData} (F:Fun K "answers" "answers" s_answers f fd):FnOk P w K mg base CX0 9 f fd ["calls"] (sp_answers K mg):=by
  refine F.ok sc_answers (fun vs H Q E h=>?_) (fun cdv A outer s H vs Q E hr h=>?_)
  · obtain ⟨a,ns,rfl,_⟩:=h;rfl
  obtain ⟨a,ns,rfl,hS,hask,k⟩:=h
  have hu:=hu_of hr
  have hu64:=hu64_of hr
  have nd:=sc_answers.nd
  refine ⟨_,(pss_cons (ps_set (i:=1) nd rfl (by first | exact Or.inl rfl | exact Or.inr rfl) (mkc0 (ok_Board_init T) (hr.mono (by decide))))
 (pss_cons (ps_set (i:=2) nd rfl (by first | exact Or.inl rfl | exact Or.inr rfl) (pe_lst pa_nil))
 (pss_cons (ps_set (i:=3) nd rfl (by first | exact Or.inl rfl | exact Or.inr rfl) pe_int)
 (pss_cons (ps_while PassesOwn.never (pt_cmpR op_lt (pv 3) (pe_callB call_len_seq (by rfl) T.n_len PySem.boot_len (pa_cons (pv 0) pa_nil)) (nomark _))
  (pss_cons (ps_set (i:=4) nd rfl (by first | exact Or.inl rfl | exact Or.inr rfl) (pe_ix ix_list (pv 0) (pv 3) (fun _ _=>rfl)))
 (pss_cons (ps_set (i:=5) nd rfl (by first | exact Or.inl rfl | exact Or.inr rfl) (pe_op op_add (pe_op op_add (pv 3) pe_int) (pe_callB call_len_seq (by rfl) T.n_len PySem.boot_len (pa_cons (pe_ix ix_tup (pgr T.r_ARGUMENTS) (pv 4) (fun _ _=>rfl)) pa_nil))))
 (pss_cons (ps_set (i:=6) nd rfl (by first | exact Or.inl rfl | exact Or.inr rfl) (cl (ok_answer T) (hr.mono (by decide)) (pa_cons (pv 1) (pa_cons (pv 4) (pa_cons (pe_slice sl_list (pv 0) (po_some (pe_op op_add (pv 3) pe_int)) (po_some (pv 5))) pa_nil)))))
 (pss_cons (ps_expr (pe_bm PySem.F.plainAttrs_list PySem.F.slot_list_append PySem.F.type_list_append mt_append (pv 2) (pa_cons (pe_callB call_len_seq (by rfl) T.n_len PySem.boot_len (pa_cons (pv 6) pa_nil)) pa_nil)))
 (pss_cons (ps_expr (pe_bm PySem.F.plainAttrs_list PySem.F.slot_list_extend PySem.F.type_list_extend mt_extend (pv 2) (pa_cons (pv 6) pa_nil)))
 (pss_one (ps_set (i:=3) nd rfl (by first | exact Or.inl rfl | exact Or.inr rfl) (pv 5)))))))))
 (pss_one (ps_ret (pv 2))))))),?_⟩
  intro b dx nb nd' ne
  refine ⟨b,dx,rfl,upd_same,fun H1 A1 hB1 hW1 old1 new1=>⟨rfl,?_⟩⟩
  have mk:Same H (mkI H b dx (adr mg "Board") []):=mkI_same nb nd'
  have s1:∀c o,H c=some o→H1 c=some o:=fun c o e=>old1 c o (mk c o e) (ne_of_none e nb)
  have nfH:∀c o,H c=some o→¬ Foot b A1 c:=fun c o e z=>by
    rcases new1 c z with q | q
    · exact ne_of_none e nb q
    · have e2:=mk c o e
      have q:mkI H b dx (adr mg "Board") [] c=none:=q
      rw [q] at e2;cases e2
  refine ⟨Nat.zero_le _,fun tl htl=>?_⟩
  have st:Same H1 (upd H1 tl (.lst [])):=Same.mk htl
  have hB2:=hB1.same st
  have hW2:=hW1.same hB1 st
  have nft:¬ Foot b A1 tl:=fun z=>by
    obtain ⟨o,e⟩:=hB1.foot z
    rw [htl] at e;cases e
  have hS2:SqL K (upd H1 tl (.lst [])) a (ns.map V.int):=SqL.kept hS fun o e=>st _ _ (s1 _ _ e)
  have ht2:upd H1 tl (.lst []) tl=some (.lst (([]:List Int).map V.int)):=upd_same
  have nfa2:∀o,upd H1 tl (.lst []) a=some o→H a=none∨(¬ Foot b A1 a∧a≠tl):=fun o _=>by
    cases e:H a with
    | none=>exact .inl rfl
    | some q=>exact .inr ⟨nfH a q e,ne_of_none (s1 _ _ e) htl⟩
  have hak:H a=none→∃(o:Obj) (its:Array Value) (n:Nat),K.lookup a=some o∧o.cls=.type "list"∧o.dict=none∧o.data=.seq its n∧its.size≤sizeLine∧Vals (ns.map V.int) its.toList:=fun e=>by
    rcases hS with (h | ⟨o,h⟩) | h
    · rw [e] at h;cases h
    · rw [e] at h;cases h
    · exact h
  have hS':(∀H':Hp,SqL K H' a (ns.map V.int))∨(∃o,H a=some o):=by
    cases e:H a with
    | none=>exact .inl fun H'=>.inr (hak e)
    | some o=>exact .inr ⟨o,rfl⟩
  refine ⟨fun m σ H'=>∃(A:Ads) (B:Bd) (t:Vbsoag.Table) (st:Nat) (done rest:List Int) (v4 v5 v6:Option V),σ = [some (.ref a),some (.ref b),some (.ref tl),some (.int (st:Int)),v4,v5,v6]∧BdAt mg H' b A B∧Wr H' A∧RX B t∧st≤ns.length∧Rem (ns.drop st) t rest m∧done++rest=PyVbsoag.answers ns ∧
    H' tl=some (.lst (done.map V.int))∧¬ Foot b A tl∧SqL K H' a (ns.map V.int)∧((∀H':Hp,SqL K H' a (ns.map V.int))∨(¬ Foot b A a∧a≠tl∧∃o,H' a=some o))∧done.length + 1001 * m≤400400,
    ⟨400,A1,{},Vbsoag.start,0,[],PyVbsoag.answers ns,none,none,none,rfl,hB2,hW2,⟨Rf.start,fun w _ _=>Nat.zero_le _⟩,Nat.zero_le _,Rem.start hask,rfl,ht2,nft,hS2,?_,by simp⟩,?_⟩
  · rcases hS' with h | ⟨o,h⟩
    · exact .inl h
    · exact .inr ⟨nfH a o h,ne_of_none (s1 _ _ h) htl,o,st _ _ (s1 _ _ h)⟩
  rintro m σ H3 ⟨A,B,t,n,done,rest,v4,v5,v6,rfl,hB,hW,R,hn,hrem,hdone,htl3,nft3,hS3,hS3',hlen3⟩
  refine ⟨_,rfl,_,rfl,a,_,rfl,.inl hS3,_,_,rfl,rfl,_,rfl,ite2 (fun e1=>?_) (fun e1=>?_)⟩
  · have e1:n<ns.length:=by have:=of_decide_eq_true e1;rw [List.length_map] at this;omega
    rw [List.drop_eq_getElem_cons e1] at hrem
    obtain ⟨j,hj,hp,har,hm0,out',hout,hrem'⟩:=hrem.cons
    have hdl:(ns.drop (n + 1)).length=ns.length - (n + 1):=List.length_drop
    refine ⟨_,fun _ _ h=>h,?_⟩
    obtain ⟨as,ca,g1,g2,g3⟩:=args_at T hj
    refine ⟨_,rfl,_,rfl,_,_,_,_,rfl,rfl,hS3,at_of (j:=n) (v:=V.int (j:Int)) rfl (by rw [List.getElem?_map,List.getElem?_eq_getElem e1];exact congrArg (fun z=>some (V.int z)) hp),?_⟩
    refine ⟨_,rfl,_,_,rfl,rfl,_,rfl,_,_,_,_,rfl,rfl,.inr g1,at_of (j:=j) (v:=V.ref ca) rfl (by rw [List.getElem?_map,g2];rfl),ca,_,rfl,.inr (.inr g3),_,_,rfl,rfl,?_⟩
    have hsl:=sig_len j hj
    refine ⟨_,rfl,_,rfl,_,rfl,_,rfl,_,_,rfl,rfl,_,rfl,_,rfl,_,rfl,a,_,rfl,hS3,fun v hv=>?_⟩
    have ec:=cut_mid ns (lo:=(n:Int) + 1) (hi:=(n:Int) + 1 + (((((sig j).map argName).map V.str).length:Nat):Int)) (a:=n + 1) (n:=ar j) (by omega) (by rw [List.length_map,List.length_map,hsl];omega) (by omega)
    rw [ec]
    have sv:Same H3 (upd H3 v (.lst (((ns.drop (n + 1)).take (ar j)).map V.int))):=Same.mk hv
    have hal:((ns.drop (n + 1)).take (ar j)).length=ar j:=by rw [List.length_take];omega
    refine ⟨b,v,A,B,t,j,(ns.drop (n + 1)).take (ar j),rfl,hj,hB.same sv,hW.same hB sv,R,upd_same,hal,fun H5 A5 B5 p hB5 hW5 R5 f5 hp5 hpn nf5 hl5=>?_⟩
    have tl5:=f5.keep tl _ (sv _ _ htl3) nft3
    have nft5:¬ Foot b A5 tl:=fun z=>by
      rcases f5.new tl z with q | q
      · exact nft3 q
      · rw [sv _ _ htl3] at q;cases q
    have ntp:tl≠p:=ne_of_none (sv _ _ htl3) hpn
    have hS5':(∀H':Hp,SqL K H' a (ns.map V.int))∨(¬ Foot b A5 a∧a≠tl∧∃o,H5 a=some o):=by
      rcases hS3' with h | ⟨h1,h2,o,h3⟩
      · exact .inl h
      · refine .inr ⟨fun z=>?_,h2,o,f5.keep a _ (sv _ _ h3) h1⟩
        rcases f5.new a z with q | q
        · exact h1 q
        · rw [sv _ _ h3] at q;cases q
    have hS5:SqL K H5 a (ns.map V.int):=by
      rcases hS3' with h | ⟨h1,h2,o,h3⟩
      · exact h H5
      · exact SqL.kept hS3 fun o e=>f5.keep a _ (sv _ _ e) h1
    refine ⟨_,rfl,.inl ⟨rfl,_,SqL.of tl5⟩,_,rfl,p,_,rfl,.inl (SqL.of hp5),tl,_,_,rfl,rfl,tl5,(by rw [List.length_map];exact Nat.lt_of_le_of_lt (show _≤400400 by omega) (by decide)),?_⟩
    have hp6:upd H5 tl (.lst (done.map V.int++[.int ((((stepN t j ((ns.drop (n + 1)).take (ar j))).2.map V.int).length:Nat):Int)])) p=some (.lst ((stepN t j ((ns.drop (n + 1)).take (ar j))).2.map V.int)):=by rw [upd_ne (Ne.symm ntp)];exact hp5
    refine ⟨_,rfl,.inl ⟨rfl,_,SqL.of upd_same⟩,_,rfl,tl,p,_,_,rfl,rfl,upd_same,hp6,(by rw [List.length_append,List.length_map,List.length_map,List.length_singleton];exact Nat.le_trans (show _≤500000 by omega) (by decide)),?_⟩
    refine ⟨_,rfl,m - 1,by omega,A5,B5,(stepN t j ((ns.drop (n + 1)).take (ar j))).1,n + 1 + ar j,done++(((stepN t j ((ns.drop (n + 1)).take (ar j))).2.length:Int)::(stepN t j ((ns.drop (n + 1)).take (ar j))).2),out',some (.int (j:Int)),some (.int ((n:Int) + 1 + (((((sig j).map argName).map V.str).length:Nat):Int))),some (.ref p),?_,?_,?_,R5,by omega,?_,?_,?_,nft5,?_,?_,?_⟩
    · have this:(n:Int) + 1 + (((((sig j).map argName).map V.str).length:Nat):Int)=((n + 1 + ar j:Nat):Int):=by rw [List.length_map,List.length_map,hsl];omega
      show [some (V.ref a),some (V.ref b),some (V.ref tl),some (V.int ((n:Int) + 1 + (((((sig j).map argName).map V.str).length:Nat):Int))),some (.int (j:Int)),some (.int ((n:Int) + 1 + (((((sig j).map argName).map V.str).length:Nat):Int))),some (V.ref p)]=_
      rw [this]
    · rw [upd_upd];exact hB5.off1 tl5 nft5
    · rw [upd_upd];exact hW5.off1 nft5
    · rw [← List.drop_drop];exact hrem'
    · rw [← hdone,hout,List.append_assoc];rfl
    · rw [upd_same,List.length_map,List.map_append,List.append_assoc];rfl
    · rcases hS3' with h | ⟨h1,h2,o,h3⟩
      · exact h _
      · refine SqL.kept hS5 fun o e=>?_
        rw [upd_upd,upd_ne h2];exact e
    · rcases hS5' with h | ⟨h1,h2,o,h3⟩
      · exact .inl h
      · exact .inr ⟨h1,h2,o,by rw [upd_upd,upd_ne h2];exact h3⟩
    · rw [List.length_append,List.length_cons];omega
  · have e1:n=ns.length:=by
      have:¬ n<ns.length:=fun z=>e1 (decide_eq_true (by rw [List.length_map];omega))
      omega
    subst e1
    rw [List.drop_length] at hrem
    have:=hrem.nil
    subst this
    rw [List.append_nil] at hdone
    subst hdone
    exact ⟨_,rfl,k H3 tl htl3⟩
end
end Sb
end
section
namespace Sb
open PySem PySem.Spec PyProof.Rows L2
section
variable {K:PySem.W.Frag} {h:Heap} {mg:Str→Option Value} (X:K.In h) (G:h.Ns mainGlobals mg)
include X G
theorem adr_of {x:Str} {f:Addr} (a:PySem.W.nsIn K mainGlobals x=some (some (.ref f))):adr mg x=f:=by
  unfold adr;rw [PySem.W.mg_of X G a]
theorem int_mk {x:Str} {i:Int} {t:Tok} (a:PySem.W.nsIn K mainGlobals x=some (some (.int i t))):GInt mg x i:=⟨t,PySem.W.mg_of X G a⟩
theorem ref_mk {x:Str} {f:Addr} (a:PySem.W.nsIn K mainGlobals x=some (some (.ref f))):mg x=some (.ref (adr mg x)):=by
  rw [adr_of X G a];exact PySem.W.mg_of X G a
theorem ref_rel {x:Str} {f:Addr} (a:PySem.W.nsIn K mainGlobals x=some (some (.ref f))):RelV (.ref (adr mg x)) (.ref f):=by
  rw [adr_of X G a];rfl
omit X G in
theorem ktup_mk {a:Addr} {dd:Option Addr} {sl:Array (Option Value)} {its:Array Value} {n:Nat} {xs:List V} (l:K.lookup a=some ⟨.type "tuple", dd,.seq its n,sl⟩) (hs:its.size≤sizeLine) (hv:Vals xs its.toList):KTup K a xs:=⟨_,its,n,l,rfl,rfl,hs,hv⟩
theorem tup_mk {x:Str} {a:Addr} {dd:Option Addr} {sl:Array (Option Value)} {its:Array Value} {n:Nat} {xs:List V} (e:PySem.W.nsIn K mainGlobals x=some (some (.ref a))) (l:K.lookup a=some ⟨.type "tuple", dd,.seq its n,sl⟩) (hs:its.size≤sizeLine) (hv:Vals xs its.toList):KTup K (adr mg x) xs:=by
  rw [adr_of X G e];exact ktup_mk l hs hv
def refsOf:List Value→List Addr
  | []=>[]
  | .ref a::l=>a::refsOf l
  | _::l=>refsOf l
theorem args_mk {x:Str} {a:Addr} {dd:Option Addr} {sl:Array (Option Value)} {its:Array Value} {n:Nat} {tab:List (List Str)} (e:PySem.W.nsIn K mainGlobals x=some (some (.ref a))) (l:K.lookup a=some ⟨.type "tuple", dd,.seq its n,sl⟩) (hs:its.size≤sizeLine) (hv:Vals ((refsOf its.toList).map V.ref) its.toList)
    (hp:Paired (fun a (xs:List Str)=>KTup K a (xs.map V.str)) (refsOf its.toList) tab):∃as:List Addr,KTup K (adr mg x) (as.map V.ref)∧Paired (fun a (xs:List Str)=>KTup K a (xs.map V.str)) as tab :=
  ⟨_,tup_mk X G e l hs hv,hp⟩
theorem fn_mk {x:Str} {st:Stmt} {ps:List Str} {f:Addr} {oc:Value} {od an:Option Addr} {osl:Array (Option Value)} {kV doc pm cdv ct:Value} (a:PySem.W.nsIn K mainGlobals x=some (some (.ref f)))
    (l:K.lookup f=some ⟨oc,od,.func (PySem.W.fnOf x x (defArgs st) (defBody st) (defScope st) .none kV doc pm an cdv ct),osl⟩) (c:PySem.W.codeIn K cdv x=true) (k:PySem.W.keepIn K (.ref f)=true)
    (hb:∀(kV doc pm:Value) (an:Option Addr) (cdv ct:Value) (us:List Value),us.length=ps.length→bindArgs (PySem.W.fnOf x x (defArgs st) (defBody st) (defScope st) .none kV doc pm an cdv ct) ⟨us,[]⟩=pure (ps.zip us)):FnTx K mg x st ps :=
  have F:=fun_mk (st:=st) l c k
  ⟨f,_,PySem.W.mg_of X G a,F,F.binds hb⟩
theorem cls_mk {x:Str} {C:Addr} (a:PySem.W.nsIn K mainGlobals x=some (some (.ref C))) (pg:PySem.W.plainGet K C Str.empty=true) (hd:PySem.W.hasDictIn K C=true) (po:PySem.W.plainOver K C=true) (sa:PySem.W.findIn K (.ref C) "__setattr__" = some (some (.builtin "object.__setattr__"))):Cls K (adr mg x):=by
  rw [adr_of X G a];exact ⟨pg,hd,po,sa⟩
theorem noa_mk {x f:Str} {C:Addr} (a:PySem.W.nsIn K mainGlobals x=some (some (.ref C))) (n:PySem.W.findIn K (.ref C) f=some none):NoAttr K (adr mg x) f:=by
  rw [adr_of X G a];exact n
theorem ini_mk {x qual:Str} {st:Stmt} {ps:List Str} {C f:Addr} {oc:Value} {od an:Option Addr} {osl:Array (Option Value)} {kV doc pm cdv ct:Value} (a:PySem.W.nsIn K mainGlobals x=some (some (.ref C))) (m:PySem.W.makesIn K C=true) (i:PySem.W.findIn K (.ref C) "__init__" = some (some (.ref f))) (fn:PySem.W.isFn K (.ref f)=true) (n:PySem.W.keepIn K (.ref C)=true)
    (q:PySem.W.keepIn K (.ref C)=true) (l:K.lookup f=some ⟨oc,od,.func (PySem.W.fnOf "__init__" qual (defArgs st) (defBody st) (defScope st) .none kV doc pm an cdv ct),osl⟩) (c:PySem.W.codeIn K cdv qual=true) (k:PySem.W.keepIn K (.ref f)=true)
    (hb:∀(kV doc pm:Value) (an:Option Addr) (cdv ct:Value) (us:List Value),us.length=ps.length→bindArgs (PySem.W.fnOf "__init__" qual (defArgs st) (defBody st) (defScope st) .none kV doc pm an cdv ct) ⟨us,[]⟩=pure (ps.zip us)):InTx K (adr mg x) qual st ps:=by
  rw [adr_of X G a]
  have F:=fun_mk (st:=st) l c k
  exact ⟨f,_,⟨m,i,fn,n⟩,F,F.binds hb⟩
theorem met_mk {x y qual:Str} {st:Stmt} {ps:List Str} {C f:Addr} {oc:Value} {od an:Option Addr} {osl:Array (Option Value)} {kV doc pm cdv ct:Value} (a:PySem.W.nsIn K mainGlobals x=some (some (.ref C))) (i:PySem.W.findIn K (.ref C) y=some (some (.ref f))) (fn:PySem.W.isFn K (.ref f)=true) (n:PySem.W.keepIn K (.ref f)=true)
    (l:K.lookup f=some ⟨oc,od,.func (PySem.W.fnOf y qual (defArgs st) (defBody st) (defScope st) .none kV doc pm an cdv ct),osl⟩) (c:PySem.W.codeIn K cdv qual=true) (k:PySem.W.keepIn K (.ref f)=true)
    (hb:∀(kV doc pm:Value) (an:Option Addr) (cdv ct:Value) (us:List Value),us.length=ps.length→bindArgs (PySem.W.fnOf y qual (defArgs st) (defBody st) (defScope st) .none kV doc pm an cdv ct) ⟨us,[]⟩=pure (ps.zip us)):MeTx K (adr mg x) y qual st ps:=by
  rw [adr_of X G a]
  have F:=fun_mk (st:=st) l c k
  exact ⟨f,_,⟨i,fn,n⟩,F,F.binds hb⟩
theorem ktab_mk {x k:Str} {a:Addr} {o:Obj} {es:Array DictEntry} {ep:Nat} {v:V} {u:Value} (e:PySem.W.nsIn K mainGlobals x=some (some (.ref a))) (hn:(a == sysModules)=false) (l:K.lookup a=some o) (hx:o.ExactDict) (hd:o.data=.dict es ep) (hall:(es.toList.all fun e=>isExactStrKey e.key)=true)
    (hf:(es.toList.find? fun e=>e.key.isStr k).map (·.val)=some u) (r:RelV v u):KTab K (adr mg x) k v:=by
  rw [adr_of X G e];exact ⟨hn,o,es,ep,u,l,hx,hd,hall,hf,r⟩
end
theorem txt_go {K:PySem.W.Frag} {h:Heap} {mg:Str→Option Value} (_:K.In h) (T:Txt K mg):Txt K mg:=T
end Sb
end
section
namespace PySem.W.Fast
def tw3274722071128781337:=0
def tw10533478248404225593:=0
def tw9733673949363395012:=0
def tw17149842447643688229:=0
def tw3448511432163155588:=0
def tw14340183084549743531:=0
def tw8258642646589731006:=0
def tw7052868033143228095:=0
def tw12004986929675514630:=0
def tw1767856597478206617:=0
def tw7453571071797417974:=0
def tw14975994363106005543:=0
def tw6661516197723649988:=0
def tw6924534138118974901:=0
def tw7587349953023530566:=0
def tw16358144113096447406:=0
def tw4659158848680559472:=0
def tw2008164243364944537:=0
def tw17859499264689293510:=0
def tw7330926170517638748:=0
def tw4614271760498061050:=0
def tw3963880586537015946:=0
def tw3149547236288782036:=0
def tw3118677996499149310:=0
def tw8076478910566034801:=0
def tw9389861450845097805:=0
def tw8193255488903291579:=0
def tw6965115822387821117:=0
def tw12409304557278611992:=0
def tw16916475139639653717:=0
def tw5763738900648907528:=0
def tw3794075592429190089:=0
def tw18390222880757868529:=0
def tw5985767122840408305:=0
def tw16001192241024574557:=0
def tw4978421428531603467:=0
def tw5923914263426353197:=0
def tw1268530385481898407:=0
def tw12508596158835774246:=0
def tw7339147573843219918:=0
def tw9746239940132987684:=0
def tw4429227001582727627:=0
def tw4198221502448136315:=0
def tw18264412504635657680:=0
def tw1306325242853624587:=0
def tw2202997909175203166:=0
def tw4676390091477360061:=0
def tw10941946168935191848:=0
def tw373294998646004797:=0
def tw14284747781044992302:=0
def tw2949450357973785372:=0
def tw16620889251909165836:=0
def tw7207475146274920919:=0
def tw12058358544784947532:=0
def tw14273886283943291764:=0
def tw14967309458419918447:=0
def tw18132216777252990853:=0
def tw12171301589697599259:=0
def tw16355880957285584669:=0
def tw5033701851766107996:=0
def tw7912439377798467252:=0
def tw3259802416108070410:=0
def tw15838726651284461285:=0
def tw4995730651123271139:=0
def tw3024742078480355483:=0
def tw7450572830185055951:=0
def tw11069849756285358679:=0
def tw14013258207416978909:=0
def tw14643587157214034250:=0
def tw15509987788556885689:=0
def tw11713067235347725301:=0
def tw12200882551312810317:=0
def tw11356459204822556390:=0
def tw14586352596122742891:=0
def tw2972664046362404584:=0
def tw5969912909932288258:=0
def tw9212791120078629199:=0
def tw10875612074732899400:=0
def tw5341888119190896699:=0
def tw496866503079144994:=0
def tw13782274828481161149:=0
def tw11408084881933093644:=0
def tw8444157835269359904:=0
def tw6043106593978926392:=0
def tw10013020374118269030:=0
def tw590076452657025148:=0
def tw15844200496440418034:=0
def tw13508586924897510251:=0
def tw7052228160149691870:=0
def tw17535067351299703002:=0
def tw8479082096722619448:=0
def tw13373538270706054084:=0
def tw14214448136553829167:=0
def tw16837085924757978757:=0
def tw5662418859059814958:=0
def tw13954624460469429053:=0
def tw3952611196562659524:=0
def tw11556676368449325576:=0
def tw4143659161973868056:=0
def tw12561223942447097699:=0
def tw17242377977897056337:=0
def tw17158552868359894741:=0
def tw1783213377067300125:=0
def tw10183885740138887799:=0
def tw16686509244854322583:=0
def tw7288468675983634804:=0
def tw18372737605144869969:=0
def tw14113760589528253966:=0
def tw10315237978767015196:=0
def tw9766060601024504829:=0
def tw8253351280965788366:=0
def tw17645386650579786193:=0
def tw13208298280388578324:=0
def tw3396125793968180172:=0
def tw13132001398698629738:=0
def tw1552985406698151990:=0
def tw7463870663237023248:=0
def tw15368236178040529616:=0
def tw12866224092530190993:=0
def tw1055058775683396820:=0
def tw6057384127025911732:=0
def tw4357904760678444652:=0
def tw16314733657863375010:=0
def tw5239562493407297348:=0
def tw14867600946826388098:=0
def tw15241528779696457236:=0
def tw3820489573142271880:=0
def tw5433745195017341765:=0
def tw16743538927374481545:=0
def tw3954928011883601222:=0
def tw17037780234578064920:=0
def tw8842744147647964221:=0
def tw12298768933642441351:=0
def tw286495115708729080:=0
def tw1262726128175326950:=0
def tw805004109307272506:=0
def tw11998104605168183994:=0
def tw16393922914355153960:=0
def tw16345548551671188752:=0
def tw10381045805539625291:=0
def tw13793035851436754571:=0
def tw16428199152015892923:=0
def tw14674104887955310700:=0
def tw14057130993585551365:=0
def tw10247060312944685159:=0
def tw8316855973176195355:=0
def tw911529311521629241:=0
def tw15989917121038478347:=0
def tw3524349010097765399:=0
def tw13072006840102813658:=0
def tw5101361325001120266:=0
def tw10045385338469097432:=0
def tw2438122832722589469:=0
def tw713634297301851877:=0
def tw5495999547972374938:=0
def tw12967014558167771405:=0
def tw18155238155605857536:=0
def tw7426893360729896673:=0
def tw3646170985155201857:=0
def tw8819473806054906093:=0
def tw503361040599679565:=0
def tw8250300396504700522:=0
def tw5947398291108354710:=0
def tw11104515975235992513:=0
def tw8505798947853654929:=0
def tw4858540140466911430:=0
def tw10895149659389152069:=0
def tw3684383813262632409:=0
def tw10758100220426975460:=0
def tw7084869581716025456:=0
def tw12441658379989898781:=0
def tw10905857453165263037:=0
def tw7685525180106125555:=0
def tw3862944215522711645:=0
def tw14225931699039446108:=0
def tw7718146173334186961:=0
def tw14157211441256352949:=0
def tw13829651549665239963:=0
def tw18429832920290173884:=0
def tw17618665614859983691:=0
def tw5087622437523410067:=0
def tw11577322547306828377:=0
def tw14744741777427974175:=0
def tw16163791663031351823:=0
def tw2486279026636941935:=0
def tw13706356667302659183:=0
def tw7165369101058569420:=0
def tw14546824909057996147:=0
def tw7298945658103910758:=0
def tw4600046267915085943:=0
def tw15092048084009373978:=0
def tw18438210617630565884:=0
def tw15464910067015381851:=0
def tw13067049153852477630:=0
def tw6844444955206817196:=0
def tw4570251578339139523:=0
def tw6000806967399463364:=0
def tw7888399486739924896:=0
def tw5687150899033029186:=0
def tw2548628263985022496:=0
def tw6539082087629116280:=0
def tw16458790973296207644:=0
def tw16294809494160944303:=0
def tw2450070783310968915:=0
def tw6102204494738177870:=0
def tw10245725883179201414:=0
def tw7805206613417860278:=0
def tw58372994672937346:=0
def tw315595894322908393:=0
def tw9322779619011003872:=0
def tw17505093028539517791:=0
def tw15146038851367691878:=0
def tw11920367273829974573:=0
def tw17283740952023023705:=0
end PySem.W.Fast
open PySem PySem.W PyProof.Rows
set_option maxRecDepth 100000 in
set_option maxHeartbeats 0 in
theorem PySem.Challenge.cw_seasonboard_s01_answers_holds : PySem.Challenge.rw_seasonboard_s01_answers.Holds := by
  w_on;k_headS;(case hw=>exact ⟨[.list [.int 0]],by decide +kernel,by decide +kernel⟩)
  k_fillS
  refine L2.walk_specK (r:=PySem.Challenge.rw_seasonboard_s01_answers) (k:=9) (CX:=L2.CX0) (ps:=["calls"]) (sp:=fun K=>Sb.sp_answers K (fun _=>none)) (by decide +kernel) rfl rfl ⟨rfl,by decide,by decide⟩ (fun w h Y=>PySem.W.kIn_of Y) ?F ?S (fun _ _ _ _ z=>z)
  case F =>
    intro w mg fa h Y KX G hmg
    have T:=Sb.txt_go (mg:=mg) KX (by
      constructor
      · refine' Sb.int_mk KX G ?z1a;(case z1a=>k_is)
      · refine' Sb.int_mk KX G ?z2a;(case z2a=>k_is)
      · refine' Sb.int_mk KX G ?z3a;(case z3a=>k_is)
      · refine' Sb.int_mk KX G ?z4a;(case z4a=>k_is)
      · refine' Sb.int_mk KX G ?z5a;(case z5a=>k_is)
      · refine' Sb.int_mk KX G ?z6a;(case z6a=>k_is)
      · refine' Sb.int_mk KX G ?z7a;(case z7a=>k_is)
      · refine' Sb.int_mk KX G ?z8a;(case z8a=>k_is)
      · refine' Sb.int_mk KX G ?z9a;(case z9a=>k_is)
      · refine' Sb.int_mk KX G ?z10a;(case z10a=>k_is)
      · refine' Sb.int_mk KX G ?z11a;(case z11a=>k_is)
      · refine' Sb.int_mk KX G ?z12a;(case z12a=>k_is)
      · refine' Sb.int_mk KX G ?z13a;(case z13a=>k_is)
      · refine' Sb.int_mk KX G ?z14a;(case z14a=>k_is)
      · refine' Sb.int_mk KX G ?z15a;(case z15a=>k_is)
      · refine' Sb.int_mk KX G ?z16a;(case z16a=>k_is)
      · refine' Sb.int_mk KX G ?z17a;(case z17a=>k_is)
      · refine' Sb.int_mk KX G ?z18a;(case z18a=>k_is)
      · refine' Sb.ref_mk KX G ?z19a;(case z19a=>k_is)
      · refine' Sb.ref_mk KX G ?z20a;(case z20a=>k_is)
      · refine' Sb.ref_mk KX G ?z21a;(case z21a=>k_is)
      · refine' Sb.ref_mk KX G ?z22a;(case z22a=>k_is)
      · refine' Sb.ref_mk KX G ?z23a;(case z23a=>k_is)
      · refine' Sb.ref_mk KX G ?z24a;(case z24a=>k_is)
      · refine' Sb.tup_mk KX G ?z25a ?z25l ?z25s ?z25v;(case z25a=>k_is);(case z25l=>k_is);(case z25s=>decide);(case z25v=>exact .cons ⟨_,rfl⟩ (.cons ⟨_,rfl⟩ (.cons ⟨_,rfl⟩ (.cons ⟨_,rfl⟩ (.cons ⟨_,rfl⟩ (.cons ⟨_,rfl⟩ (.cons ⟨_,rfl⟩ (.nil))))))))
      · refine' Sb.tup_mk KX G ?z26a ?z26l ?z26s ?z26v;(case z26a=>k_is);(case z26l=>k_is);(case z26s=>decide);(case z26v=>exact .cons ⟨_,rfl⟩ (.cons ⟨_,rfl⟩ (.cons ⟨_,rfl⟩ (.cons ⟨_,rfl⟩ (.nil)))))
      · refine' Sb.tup_mk KX G ?z27a ?z27l ?z27s ?z27v;(case z27a=>k_is);(case z27l=>k_is);(case z27s=>decide);(case z27v=>exact .cons ⟨_,rfl⟩ (.cons ⟨_,rfl⟩ (.nil)))
      · refine' Sb.tup_mk KX G ?z28a ?z28l ?z28s ?z28v;(case z28a=>k_is);(case z28l=>k_is);(case z28s=>decide);(case z28v=>exact .cons (by refine' Sb.ref_rel KX G ?z29a;(case z29a=>k_is)) (.cons (by refine' Sb.ref_rel KX G ?z30a;(case z30a=>k_is)) (.cons (by refine' Sb.ref_rel KX G ?z31a;(case z31a=>k_is)) (.cons (by refine' Sb.ref_rel KX G ?z32a;(case z32a=>k_is)) (.cons (by refine' Sb.ref_rel KX G ?z33a;(case z33a=>k_is)) (.cons (by refine' Sb.ref_rel KX G ?z34a;(case z34a=>k_is)) (.cons (by refine' Sb.ref_rel KX G ?z35a;(case z35a=>k_is)) (.cons (by refine' Sb.ref_rel KX G ?z36a;(case z36a=>k_is)) (.cons (by refine' Sb.ref_rel KX G ?z37a;(case z37a=>k_is)) (.cons (by refine' Sb.ref_rel KX G ?z38a;(case z38a=>k_is)) (.cons (by refine' Sb.ref_rel KX G ?z39a;(case z39a=>k_is)) (.cons (by refine' Sb.ref_rel KX G ?z40a;(case z40a=>k_is)) (.cons (by refine' Sb.ref_rel KX G ?z41a;(case z41a=>k_is)) (.cons (by refine' Sb.ref_rel KX G ?z42a;(case z42a=>k_is)) (.cons (by refine' Sb.ref_rel KX G ?z43a;(case z43a=>k_is)) (.cons (by refine' Sb.ref_rel KX G ?z44a;(case z44a=>k_is)) (.cons (by refine' Sb.ref_rel KX G ?z45a;(case z45a=>k_is)) (.cons (by refine' Sb.ref_rel KX G ?z46a;(case z46a=>k_is)) (.cons (by refine' Sb.ref_rel KX G ?z47a;(case z47a=>k_is)) (.cons (by refine' Sb.ref_rel KX G ?z48a;(case z48a=>k_is)) (.cons (by refine' Sb.ref_rel KX G ?z49a;(case z49a=>k_is)) (.cons (by refine' Sb.ref_rel KX G ?z50a;(case z50a=>k_is)) (.nil)))))))))))))))))))))))
      · refine' Sb.args_mk KX G ?z51a ?z51l ?z51s ?z51v ?z51p;(case z51a=>k_is);(case z51l=>k_is);(case z51s=>decide);(case z51v=>exact .cons rfl (.cons rfl (.cons rfl (.cons rfl (.cons rfl (.cons rfl (.cons rfl (.cons rfl (.cons rfl (.cons rfl (.cons rfl (.cons rfl (.cons rfl (.cons rfl (.cons rfl (.cons rfl (.cons rfl (.cons rfl (.cons rfl (.cons rfl (.cons rfl (.cons rfl (.nil)))))))))))))))))))))));(case z51p=>exact .cons (by refine' Sb.ktup_mk ?z52l ?z52s ?z52v;(case z52l=>k_is);(case z52s=>decide);(case z52v=>exact .nil)) (.cons (by refine' Sb.ktup_mk ?z53l ?z53s ?z53v;(case z53l=>k_is);(case z53s=>decide);(case z53v=>exact .cons ⟨_,rfl⟩ (.cons ⟨_,rfl⟩ (.cons ⟨_,rfl⟩ (.nil))))) (.cons (by refine' Sb.ktup_mk ?z54l ?z54s ?z54v;(case z54l=>k_is);(case z54s=>decide);(case z54v=>exact .cons ⟨_,rfl⟩ (.cons ⟨_,rfl⟩ (.nil)))) (.cons (by refine' Sb.ktup_mk ?z55l ?z55s ?z55v;(case z55l=>k_is);(case z55s=>decide);(case z55v=>exact .cons ⟨_,rfl⟩ (.cons ⟨_,rfl⟩ (.cons ⟨_,rfl⟩ (.cons ⟨_,rfl⟩ (.nil)))))) (.cons (by refine' Sb.ktup_mk ?z56l ?z56s ?z56v;(case z56l=>k_is);(case z56s=>decide);(case z56v=>exact .cons ⟨_,rfl⟩ (.cons ⟨_,rfl⟩ (.cons ⟨_,rfl⟩ (.cons ⟨_,rfl⟩ (.nil)))))) (.cons (by refine' Sb.ktup_mk ?z57l ?z57s ?z57v;(case z57l=>k_is);(case z57s=>decide);(case z57v=>exact .cons ⟨_,rfl⟩ (.cons ⟨_,rfl⟩ (.nil)))) (.cons (by refine' Sb.ktup_mk ?z58l ?z58s ?z58v;(case z58l=>k_is);(case z58s=>decide);(case z58v=>exact .cons ⟨_,rfl⟩ (.cons ⟨_,rfl⟩ (.cons ⟨_,rfl⟩ (.cons ⟨_,rfl⟩ (.cons ⟨_,rfl⟩ (.nil))))))) (.cons (by refine' Sb.ktup_mk ?z59l ?z59s ?z59v;(case z59l=>k_is);(case z59s=>decide);(case z59v=>exact .cons ⟨_,rfl⟩ (.nil))) (.cons (by refine' Sb.ktup_mk ?z60l ?z60s ?z60v;(case z60l=>k_is);(case z60s=>decide);(case z60v=>exact .cons ⟨_,rfl⟩ (.nil))) (.cons (by refine' Sb.ktup_mk ?z61l ?z61s ?z61v;(case z61l=>k_is);(case z61s=>decide);(case z61v=>exact .cons ⟨_,rfl⟩ (.cons ⟨_,rfl⟩ (.cons ⟨_,rfl⟩ (.nil))))) (.cons (by refine' Sb.ktup_mk ?z62l ?z62s ?z62v;(case z62l=>k_is);(case z62s=>decide);(case z62v=>exact .cons ⟨_,rfl⟩ (.nil))) (.cons (by refine' Sb.ktup_mk ?z63l ?z63s ?z63v;(case z63l=>k_is);(case z63s=>decide);(case z63v=>exact .nil)) (.cons (by refine' Sb.ktup_mk ?z64l ?z64s ?z64v;(case z64l=>k_is);(case z64s=>decide);(case z64v=>exact .nil)) (.cons (by refine' Sb.ktup_mk ?z65l ?z65s ?z65v;(case z65l=>k_is);(case z65s=>decide);(case z65v=>exact .cons ⟨_,rfl⟩ (.nil))) (.cons (by refine' Sb.ktup_mk ?z66l ?z66s ?z66v;(case z66l=>k_is);(case z66s=>decide);(case z66v=>exact .cons ⟨_,rfl⟩ (.nil))) (.cons (by refine' Sb.ktup_mk ?z67l ?z67s ?z67v;(case z67l=>k_is);(case z67s=>decide);(case z67v=>exact .cons ⟨_,rfl⟩ (.cons ⟨_,rfl⟩ (.cons ⟨_,rfl⟩ (.cons ⟨_,rfl⟩ (.nil)))))) (.cons (by refine' Sb.ktup_mk ?z68l ?z68s ?z68v;(case z68l=>k_is);(case z68s=>decide);(case z68v=>exact .cons ⟨_,rfl⟩ (.nil))) (.cons (by refine' Sb.ktup_mk ?z69l ?z69s ?z69v;(case z69l=>k_is);(case z69s=>decide);(case z69v=>exact .nil)) (.cons (by refine' Sb.ktup_mk ?z70l ?z70s ?z70v;(case z70l=>k_is);(case z70s=>decide);(case z70v=>exact .cons ⟨_,rfl⟩ (.nil))) (.cons (by refine' Sb.ktup_mk ?z71l ?z71s ?z71v;(case z71l=>k_is);(case z71s=>decide);(case z71v=>exact .cons ⟨_,rfl⟩ (.cons ⟨_,rfl⟩ (.nil)))) (.cons (by refine' Sb.ktup_mk ?z72l ?z72s ?z72v;(case z72l=>k_is);(case z72s=>decide);(case z72v=>exact .nil)) (.cons (by refine' Sb.ktup_mk ?z73l ?z73s ?z73v;(case z73l=>k_is);(case z73s=>decide);(case z73v=>exact .nil)) (.nil)))))))))))))))))))))))
      · intro p hp;simp only [Sb.tab_RANGES,List.mem_cons,List.not_mem_nil,or_false] at hp;rcases hp with rfl | rfl | rfl | rfl | rfl
        · (refine' ⟨_,Sb.ktab_mk KX G ?z74a ?z74n ?z74l ?z74x ?z74d ?z74h ?z74f ?z74r,?z74t⟩;(case z74a=>k_is);(case z74n=>decide);(case z74l=>k_is);(case z74x=>exact ⟨rfl,rfl,rfl⟩);(case z74d=>rfl);(case z74h=>rfl);(case z74f=>rfl);(case z74r=>rfl);(case z74t=>refine' Sb.ktup_mk ?z75l ?z75s ?z75v;(case z75l=>k_is);(case z75s=>decide);(case z75v=>exact .cons ⟨_,rfl⟩ (.cons ⟨_,rfl⟩ .nil))))
        · (refine' ⟨_,Sb.ktab_mk KX G ?z76a ?z76n ?z76l ?z76x ?z76d ?z76h ?z76f ?z76r,?z76t⟩;(case z76a=>k_is);(case z76n=>decide);(case z76l=>k_is);(case z76x=>exact ⟨rfl,rfl,rfl⟩);(case z76d=>rfl);(case z76h=>rfl);(case z76f=>rfl);(case z76r=>rfl);(case z76t=>refine' Sb.ktup_mk ?z77l ?z77s ?z77v;(case z77l=>k_is);(case z77s=>decide);(case z77v=>exact .cons ⟨_,rfl⟩ (.cons ⟨_,rfl⟩ .nil))))
        · (refine' ⟨_,Sb.ktab_mk KX G ?z78a ?z78n ?z78l ?z78x ?z78d ?z78h ?z78f ?z78r,?z78t⟩;(case z78a=>k_is);(case z78n=>decide);(case z78l=>k_is);(case z78x=>exact ⟨rfl,rfl,rfl⟩);(case z78d=>rfl);(case z78h=>rfl);(case z78f=>rfl);(case z78r=>rfl);(case z78t=>refine' Sb.ktup_mk ?z79l ?z79s ?z79v;(case z79l=>k_is);(case z79s=>decide);(case z79v=>exact .cons ⟨_,rfl⟩ (.cons ⟨_,rfl⟩ .nil))))
        · (refine' ⟨_,Sb.ktab_mk KX G ?z80a ?z80n ?z80l ?z80x ?z80d ?z80h ?z80f ?z80r,?z80t⟩;(case z80a=>k_is);(case z80n=>decide);(case z80l=>k_is);(case z80x=>exact ⟨rfl,rfl,rfl⟩);(case z80d=>rfl);(case z80h=>rfl);(case z80f=>rfl);(case z80r=>rfl);(case z80t=>refine' Sb.ktup_mk ?z81l ?z81s ?z81v;(case z81l=>k_is);(case z81s=>decide);(case z81v=>exact .cons ⟨_,rfl⟩ (.cons ⟨_,rfl⟩ .nil))))
        · (refine' ⟨_,Sb.ktab_mk KX G ?z82a ?z82n ?z82l ?z82x ?z82d ?z82h ?z82f ?z82r,?z82t⟩;(case z82a=>k_is);(case z82n=>decide);(case z82l=>k_is);(case z82x=>exact ⟨rfl,rfl,rfl⟩);(case z82d=>rfl);(case z82h=>rfl);(case z82f=>rfl);(case z82r=>rfl);(case z82t=>refine' Sb.ktup_mk ?z83l ?z83s ?z83v;(case z83l=>k_is);(case z83s=>decide);(case z83v=>exact .cons ⟨_,rfl⟩ (.cons ⟨_,rfl⟩ .nil))))
      · refine' Sb.fn_mk KX G ?z84a ?z84l ?z84c ?z84k (fun _ _ _ _ _ _ us hl=>match us,hl with | [_,_],_=>rfl);(case z84a=>k_is);(case z84l=>k_is);(case z84c=>k_is);(case z84k=>k_is)
      · refine' Sb.fn_mk KX G ?z85a ?z85l ?z85c ?z85k (fun _ _ _ _ _ _ us hl=>match us,hl with | [_,_,_,_],_=>rfl);(case z85a=>k_is);(case z85l=>k_is);(case z85c=>k_is);(case z85k=>k_is)
      · refine' Sb.fn_mk KX G ?z86a ?z86l ?z86c ?z86k (fun _ _ _ _ _ _ us hl=>match us,hl with | [_,_,_],_=>rfl);(case z86a=>k_is);(case z86l=>k_is);(case z86c=>k_is);(case z86k=>k_is)
      · refine' Sb.fn_mk KX G ?z87a ?z87l ?z87c ?z87k (fun _ _ _ _ _ _ us hl=>match us,hl with | [_,_,_,_,_],_=>rfl);(case z87a=>k_is);(case z87l=>k_is);(case z87c=>k_is);(case z87k=>k_is)
      · refine' Sb.fn_mk KX G ?z88a ?z88l ?z88c ?z88k (fun _ _ _ _ _ _ us hl=>match us,hl with | [_,_,_],_=>rfl);(case z88a=>k_is);(case z88l=>k_is);(case z88c=>k_is);(case z88k=>k_is)
      · refine' Sb.fn_mk KX G ?z89a ?z89l ?z89c ?z89k (fun _ _ _ _ _ _ us hl=>match us,hl with | [_,_,_,_],_=>rfl);(case z89a=>k_is);(case z89l=>k_is);(case z89c=>k_is);(case z89k=>k_is)
      · refine' Sb.fn_mk KX G ?z90a ?z90l ?z90c ?z90k (fun _ _ _ _ _ _ us hl=>match us,hl with | [_],_=>rfl);(case z90a=>k_is);(case z90l=>k_is);(case z90c=>k_is);(case z90k=>k_is)
      · refine' Sb.fn_mk KX G ?z91a ?z91l ?z91c ?z91k (fun _ _ _ _ _ _ us hl=>match us,hl with | [_,_],_=>rfl);(case z91a=>k_is);(case z91l=>k_is);(case z91c=>k_is);(case z91k=>k_is)
      · refine' Sb.fn_mk KX G ?z92a ?z92l ?z92c ?z92k (fun _ _ _ _ _ _ us hl=>match us,hl with | [_],_=>rfl);(case z92a=>k_is);(case z92l=>k_is);(case z92c=>k_is);(case z92k=>k_is)
      · refine' Sb.fn_mk KX G ?z93a ?z93l ?z93c ?z93k (fun _ _ _ _ _ _ us hl=>match us,hl with | [_],_=>rfl);(case z93a=>k_is);(case z93l=>k_is);(case z93c=>k_is);(case z93k=>k_is)
      · refine' Sb.fn_mk KX G ?z94a ?z94l ?z94c ?z94k (fun _ _ _ _ _ _ us hl=>match us,hl with | [_,_],_=>rfl);(case z94a=>k_is);(case z94l=>k_is);(case z94c=>k_is);(case z94k=>k_is)
      · refine' Sb.fn_mk KX G ?z95a ?z95l ?z95c ?z95k (fun _ _ _ _ _ _ us hl=>match us,hl with | [_,_],_=>rfl);(case z95a=>k_is);(case z95l=>k_is);(case z95c=>k_is);(case z95k=>k_is)
      · refine' Sb.fn_mk KX G ?z96a ?z96l ?z96c ?z96k (fun _ _ _ _ _ _ us hl=>match us,hl with | [_,_],_=>rfl);(case z96a=>k_is);(case z96l=>k_is);(case z96c=>k_is);(case z96k=>k_is)
      · refine' Sb.fn_mk KX G ?z97a ?z97l ?z97c ?z97k (fun _ _ _ _ _ _ us hl=>match us,hl with | [_,_],_=>rfl);(case z97a=>k_is);(case z97l=>k_is);(case z97c=>k_is);(case z97k=>k_is)
      · refine' Sb.fn_mk KX G ?z98a ?z98l ?z98c ?z98k (fun _ _ _ _ _ _ us hl=>match us,hl with | [_,_,_],_=>rfl);(case z98a=>k_is);(case z98l=>k_is);(case z98c=>k_is);(case z98k=>k_is)
      · refine' Sb.fn_mk KX G ?z99a ?z99l ?z99c ?z99k (fun _ _ _ _ _ _ us hl=>match us,hl with | [_,_,_],_=>rfl);(case z99a=>k_is);(case z99l=>k_is);(case z99c=>k_is);(case z99k=>k_is)
      · refine' Sb.fn_mk KX G ?z100a ?z100l ?z100c ?z100k (fun _ _ _ _ _ _ us hl=>match us,hl with | [_],_=>rfl);(case z100a=>k_is);(case z100l=>k_is);(case z100c=>k_is);(case z100k=>k_is)
      · refine' Sb.fn_mk KX G ?z101a ?z101l ?z101c ?z101k (fun _ _ _ _ _ _ us hl=>match us,hl with | [_],_=>rfl);(case z101a=>k_is);(case z101l=>k_is);(case z101c=>k_is);(case z101k=>k_is)
      · refine' Sb.fn_mk KX G ?z102a ?z102l ?z102c ?z102k (fun _ _ _ _ _ _ us hl=>match us,hl with | [_,_],_=>rfl);(case z102a=>k_is);(case z102l=>k_is);(case z102c=>k_is);(case z102k=>k_is)
      · refine' Sb.fn_mk KX G ?z103a ?z103l ?z103c ?z103k (fun _ _ _ _ _ _ us hl=>match us,hl with | [_,_],_=>rfl);(case z103a=>k_is);(case z103l=>k_is);(case z103c=>k_is);(case z103k=>k_is)
      · refine' Sb.fn_mk KX G ?z104a ?z104l ?z104c ?z104k (fun _ _ _ _ _ _ us hl=>match us,hl with | [_,_],_=>rfl);(case z104a=>k_is);(case z104l=>k_is);(case z104c=>k_is);(case z104k=>k_is)
      · refine' Sb.fn_mk KX G ?z105a ?z105l ?z105c ?z105k (fun _ _ _ _ _ _ us hl=>match us,hl with | [_,_],_=>rfl);(case z105a=>k_is);(case z105l=>k_is);(case z105c=>k_is);(case z105k=>k_is)
      · refine' Sb.fn_mk KX G ?z106a ?z106l ?z106c ?z106k (fun _ _ _ _ _ _ us hl=>match us,hl with | [_,_],_=>rfl);(case z106a=>k_is);(case z106l=>k_is);(case z106c=>k_is);(case z106k=>k_is)
      · refine' Sb.fn_mk KX G ?z107a ?z107l ?z107c ?z107k (fun _ _ _ _ _ _ us hl=>match us,hl with | [_,_],_=>rfl);(case z107a=>k_is);(case z107l=>k_is);(case z107c=>k_is);(case z107k=>k_is)
      · refine' Sb.fn_mk KX G ?z108a ?z108l ?z108c ?z108k (fun _ _ _ _ _ _ us hl=>match us,hl with | [_,_],_=>rfl);(case z108a=>k_is);(case z108l=>k_is);(case z108c=>k_is);(case z108k=>k_is)
      · refine' Sb.fn_mk KX G ?z109a ?z109l ?z109c ?z109k (fun _ _ _ _ _ _ us hl=>match us,hl with | [_,_],_=>rfl);(case z109a=>k_is);(case z109l=>k_is);(case z109c=>k_is);(case z109k=>k_is)
      · refine' Sb.fn_mk KX G ?z110a ?z110l ?z110c ?z110k (fun _ _ _ _ _ _ us hl=>match us,hl with | [_],_=>rfl);(case z110a=>k_is);(case z110l=>k_is);(case z110c=>k_is);(case z110k=>k_is)
      · refine' Sb.fn_mk KX G ?z111a ?z111l ?z111c ?z111k (fun _ _ _ _ _ _ us hl=>match us,hl with | [_,_],_=>rfl);(case z111a=>k_is);(case z111l=>k_is);(case z111c=>k_is);(case z111k=>k_is)
      · refine' Sb.fn_mk KX G ?z112a ?z112l ?z112c ?z112k (fun _ _ _ _ _ _ us hl=>match us,hl with | [_],_=>rfl);(case z112a=>k_is);(case z112l=>k_is);(case z112c=>k_is);(case z112k=>k_is)
      · refine' Sb.fn_mk KX G ?z113a ?z113l ?z113c ?z113k (fun _ _ _ _ _ _ us hl=>match us,hl with | [_],_=>rfl);(case z113a=>k_is);(case z113l=>k_is);(case z113c=>k_is);(case z113k=>k_is)
      · refine' Sb.fn_mk KX G ?z114a ?z114l ?z114c ?z114k (fun _ _ _ _ _ _ us hl=>match us,hl with | [_],_=>rfl);(case z114a=>k_is);(case z114l=>k_is);(case z114c=>k_is);(case z114k=>k_is)
      · refine' Sb.fn_mk KX G ?z115a ?z115l ?z115c ?z115k (fun _ _ _ _ _ _ us hl=>match us,hl with | [_],_=>rfl);(case z115a=>k_is);(case z115l=>k_is);(case z115c=>k_is);(case z115k=>k_is)
      · refine' Sb.fn_mk KX G ?z116a ?z116l ?z116c ?z116k (fun _ _ _ _ _ _ us hl=>match us,hl with | [_,_,_,_],_=>rfl);(case z116a=>k_is);(case z116l=>k_is);(case z116c=>k_is);(case z116k=>k_is)
      · refine' Sb.fn_mk KX G ?z117a ?z117l ?z117c ?z117k (fun _ _ _ _ _ _ us hl=>match us,hl with | [_,_,_],_=>rfl);(case z117a=>k_is);(case z117l=>k_is);(case z117c=>k_is);(case z117k=>k_is)
      · refine' Sb.fn_mk KX G ?z118a ?z118l ?z118c ?z118k (fun _ _ _ _ _ _ us hl=>match us,hl with | [_,_,_,_,_],_=>rfl);(case z118a=>k_is);(case z118l=>k_is);(case z118c=>k_is);(case z118k=>k_is)
      · refine' Sb.fn_mk KX G ?z119a ?z119l ?z119c ?z119k (fun _ _ _ _ _ _ us hl=>match us,hl with | [_,_,_,_,_],_=>rfl);(case z119a=>k_is);(case z119l=>k_is);(case z119c=>k_is);(case z119k=>k_is)
      · refine' Sb.fn_mk KX G ?z120a ?z120l ?z120c ?z120k (fun _ _ _ _ _ _ us hl=>match us,hl with | [_,_,_],_=>rfl);(case z120a=>k_is);(case z120l=>k_is);(case z120c=>k_is);(case z120k=>k_is)
      · refine' Sb.fn_mk KX G ?z121a ?z121l ?z121c ?z121k (fun _ _ _ _ _ _ us hl=>match us,hl with | [_,_,_,_,_,_],_=>rfl);(case z121a=>k_is);(case z121l=>k_is);(case z121c=>k_is);(case z121k=>k_is)
      · refine' Sb.fn_mk KX G ?z122a ?z122l ?z122c ?z122k (fun _ _ _ _ _ _ us hl=>match us,hl with | [_,_],_=>rfl);(case z122a=>k_is);(case z122l=>k_is);(case z122c=>k_is);(case z122k=>k_is)
      · refine' Sb.fn_mk KX G ?z123a ?z123l ?z123c ?z123k (fun _ _ _ _ _ _ us hl=>match us,hl with | [_,_],_=>rfl);(case z123a=>k_is);(case z123l=>k_is);(case z123c=>k_is);(case z123k=>k_is)
      · refine' Sb.fn_mk KX G ?z124a ?z124l ?z124c ?z124k (fun _ _ _ _ _ _ us hl=>match us,hl with | [_,_,_,_],_=>rfl);(case z124a=>k_is);(case z124l=>k_is);(case z124c=>k_is);(case z124k=>k_is)
      · refine' Sb.fn_mk KX G ?z125a ?z125l ?z125c ?z125k (fun _ _ _ _ _ _ us hl=>match us,hl with | [_,_],_=>rfl);(case z125a=>k_is);(case z125l=>k_is);(case z125c=>k_is);(case z125k=>k_is)
      · refine' Sb.fn_mk KX G ?z126a ?z126l ?z126c ?z126k (fun _ _ _ _ _ _ us hl=>match us,hl with | [_],_=>rfl);(case z126a=>k_is);(case z126l=>k_is);(case z126c=>k_is);(case z126k=>k_is)
      · refine' Sb.fn_mk KX G ?z127a ?z127l ?z127c ?z127k (fun _ _ _ _ _ _ us hl=>match us,hl with | [_],_=>rfl);(case z127a=>k_is);(case z127l=>k_is);(case z127c=>k_is);(case z127k=>k_is)
      · refine' Sb.fn_mk KX G ?z128a ?z128l ?z128c ?z128k (fun _ _ _ _ _ _ us hl=>match us,hl with | [_,_],_=>rfl);(case z128a=>k_is);(case z128l=>k_is);(case z128c=>k_is);(case z128k=>k_is)
      · refine' Sb.fn_mk KX G ?z129a ?z129l ?z129c ?z129k (fun _ _ _ _ _ _ us hl=>match us,hl with | [_,_],_=>rfl);(case z129a=>k_is);(case z129l=>k_is);(case z129c=>k_is);(case z129k=>k_is)
      · refine' Sb.fn_mk KX G ?z130a ?z130l ?z130c ?z130k (fun _ _ _ _ _ _ us hl=>match us,hl with | [_,_,_,_,_],_=>rfl);(case z130a=>k_is);(case z130l=>k_is);(case z130c=>k_is);(case z130k=>k_is)
      · refine' Sb.fn_mk KX G ?z131a ?z131l ?z131c ?z131k (fun _ _ _ _ _ _ us hl=>match us,hl with | [_,_],_=>rfl);(case z131a=>k_is);(case z131l=>k_is);(case z131c=>k_is);(case z131k=>k_is)
      · refine' Sb.fn_mk KX G ?z132a ?z132l ?z132c ?z132k (fun _ _ _ _ _ _ us hl=>match us,hl with | [_],_=>rfl);(case z132a=>k_is);(case z132l=>k_is);(case z132c=>k_is);(case z132k=>k_is)
      · refine' Sb.fn_mk KX G ?z133a ?z133l ?z133c ?z133k (fun _ _ _ _ _ _ us hl=>match us,hl with | [_,_],_=>rfl);(case z133a=>k_is);(case z133l=>k_is);(case z133c=>k_is);(case z133k=>k_is)
      · refine' Sb.fn_mk KX G ?z134a ?z134l ?z134c ?z134k (fun _ _ _ _ _ _ us hl=>match us,hl with | [_,_,_],_=>rfl);(case z134a=>k_is);(case z134l=>k_is);(case z134c=>k_is);(case z134k=>k_is)
      · refine' Sb.fn_mk KX G ?z135a ?z135l ?z135c ?z135k (fun _ _ _ _ _ _ us hl=>match us,hl with | [_],_=>rfl);(case z135a=>k_is);(case z135l=>k_is);(case z135c=>k_is);(case z135k=>k_is)
      · refine' Sb.fn_mk KX G ?z136a ?z136l ?z136c ?z136k (fun _ _ _ _ _ _ us hl=>match us,hl with | [_],_=>rfl);(case z136a=>k_is);(case z136l=>k_is);(case z136c=>k_is);(case z136k=>k_is)
      · refine' Sb.fn_mk KX G ?z137a ?z137l ?z137c ?z137k (fun _ _ _ _ _ _ us hl=>match us,hl with | [_,_],_=>rfl);(case z137a=>k_is);(case z137l=>k_is);(case z137c=>k_is);(case z137k=>k_is)
      · refine' Sb.fn_mk KX G ?z138a ?z138l ?z138c ?z138k (fun _ _ _ _ _ _ us hl=>match us,hl with | [_,_,_],_=>rfl);(case z138a=>k_is);(case z138l=>k_is);(case z138c=>k_is);(case z138k=>k_is)
      · refine' Sb.fn_mk KX G ?z139a ?z139l ?z139c ?z139k (fun _ _ _ _ _ _ us hl=>match us,hl with | [_,_,_],_=>rfl);(case z139a=>k_is);(case z139l=>k_is);(case z139c=>k_is);(case z139k=>k_is)
      · refine' Sb.fn_mk KX G ?z140a ?z140l ?z140c ?z140k (fun _ _ _ _ _ _ us hl=>match us,hl with | [_,_,_],_=>rfl);(case z140a=>k_is);(case z140l=>k_is);(case z140c=>k_is);(case z140k=>k_is)
      · refine' Sb.fn_mk KX G ?z141a ?z141l ?z141c ?z141k (fun _ _ _ _ _ _ us hl=>match us,hl with | [_],_=>rfl);(case z141a=>k_is);(case z141l=>k_is);(case z141c=>k_is);(case z141k=>k_is)
      · refine' Sb.ref_mk KX G ?z142a;(case z142a=>k_is)
      · refine' Sb.cls_mk KX G ?z143a ?z143b ?z143c ?z143d ?z143e;(case z143a=>k_is);(case z143b=>k_is);(case z143c=>k_is);(case z143d=>k_is);(case z143e=>k_is)
      · refine' Sb.noa_mk KX G ?z144a ?z144b;(case z144a=>k_is);(case z144b=>k_is)
      · refine' Sb.noa_mk KX G ?z145a ?z145b;(case z145a=>k_is);(case z145b=>k_is)
      · refine' Sb.noa_mk KX G ?z146a ?z146b;(case z146a=>k_is);(case z146b=>k_is)
      · refine' Sb.noa_mk KX G ?z147a ?z147b;(case z147a=>k_is);(case z147b=>k_is)
      · refine' Sb.ini_mk KX G ?z148a ?z148m ?z148i ?z148f ?z148n ?z148q ?z148l ?z148c ?z148k (fun _ _ _ _ _ _ us hl=>match us,hl with | [_,_,_,_],_=>rfl);(case z148a=>k_is);(case z148m=>k_is);(case z148i=>k_is);(case z148f=>k_is);(case z148n=>k_is);(case z148q=>k_is);(case z148l=>k_is);(case z148c=>k_is);(case z148k=>k_is)
      · refine' Sb.ref_mk KX G ?z149a;(case z149a=>k_is)
      · refine' Sb.cls_mk KX G ?z150a ?z150b ?z150c ?z150d ?z150e;(case z150a=>k_is);(case z150b=>k_is);(case z150c=>k_is);(case z150d=>k_is);(case z150e=>k_is)
      · refine' Sb.noa_mk KX G ?z151a ?z151b;(case z151a=>k_is);(case z151b=>k_is)
      · refine' Sb.noa_mk KX G ?z152a ?z152b;(case z152a=>k_is);(case z152b=>k_is)
      · refine' Sb.noa_mk KX G ?z153a ?z153b;(case z153a=>k_is);(case z153b=>k_is)
      · refine' Sb.noa_mk KX G ?z154a ?z154b;(case z154a=>k_is);(case z154b=>k_is)
      · refine' Sb.ini_mk KX G ?z155a ?z155m ?z155i ?z155f ?z155n ?z155q ?z155l ?z155c ?z155k (fun _ _ _ _ _ _ us hl=>match us,hl with | [_,_,_,_,_],_=>rfl);(case z155a=>k_is);(case z155m=>k_is);(case z155i=>k_is);(case z155f=>k_is);(case z155n=>k_is);(case z155q=>k_is);(case z155l=>k_is);(case z155c=>k_is);(case z155k=>k_is)
      · refine' Sb.ref_mk KX G ?z156a;(case z156a=>k_is)
      · refine' Sb.cls_mk KX G ?z157a ?z157b ?z157c ?z157d ?z157e;(case z157a=>k_is);(case z157b=>k_is);(case z157c=>k_is);(case z157d=>k_is);(case z157e=>k_is)
      · refine' Sb.noa_mk KX G ?z158a ?z158b;(case z158a=>k_is);(case z158b=>k_is)
      · refine' Sb.noa_mk KX G ?z159a ?z159b;(case z159a=>k_is);(case z159b=>k_is)
      · refine' Sb.noa_mk KX G ?z160a ?z160b;(case z160a=>k_is);(case z160b=>k_is)
      · refine' Sb.noa_mk KX G ?z161a ?z161b;(case z161a=>k_is);(case z161b=>k_is)
      · refine' Sb.ini_mk KX G ?z162a ?z162m ?z162i ?z162f ?z162n ?z162q ?z162l ?z162c ?z162k (fun _ _ _ _ _ _ us hl=>match us,hl with | [_,_,_],_=>rfl);(case z162a=>k_is);(case z162m=>k_is);(case z162i=>k_is);(case z162f=>k_is);(case z162n=>k_is);(case z162q=>k_is);(case z162l=>k_is);(case z162c=>k_is);(case z162k=>k_is)
      · refine' Sb.met_mk KX G ?z163a ?z163i ?z163f ?z163n ?z163l ?z163c ?z163k (fun _ _ _ _ _ _ us hl=>match us,hl with | [_,_,_],_=>rfl);(case z163a=>k_is);(case z163i=>k_is);(case z163f=>k_is);(case z163n=>k_is);(case z163l=>k_is);(case z163c=>k_is);(case z163k=>k_is)
      · refine' Sb.met_mk KX G ?z164a ?z164i ?z164f ?z164n ?z164l ?z164c ?z164k (fun _ _ _ _ _ _ us hl=>match us,hl with | [_],_=>rfl);(case z164a=>k_is);(case z164i=>k_is);(case z164f=>k_is);(case z164n=>k_is);(case z164l=>k_is);(case z164c=>k_is);(case z164k=>k_is)
      · refine' Sb.ref_mk KX G ?z165a;(case z165a=>k_is)
      · refine' Sb.cls_mk KX G ?z166a ?z166b ?z166c ?z166d ?z166e;(case z166a=>k_is);(case z166b=>k_is);(case z166c=>k_is);(case z166d=>k_is);(case z166e=>k_is)
      · refine' Sb.noa_mk KX G ?z167a ?z167b;(case z167a=>k_is);(case z167b=>k_is)
      · refine' Sb.noa_mk KX G ?z168a ?z168b;(case z168a=>k_is);(case z168b=>k_is)
      · refine' Sb.noa_mk KX G ?z169a ?z169b;(case z169a=>k_is);(case z169b=>k_is)
      · refine' Sb.noa_mk KX G ?z170a ?z170b;(case z170a=>k_is);(case z170b=>k_is)
      · refine' Sb.noa_mk KX G ?z171a ?z171b;(case z171a=>k_is);(case z171b=>k_is)
      · refine' Sb.noa_mk KX G ?z172a ?z172b;(case z172a=>k_is);(case z172b=>k_is)
      · refine' Sb.noa_mk KX G ?z173a ?z173b;(case z173a=>k_is);(case z173b=>k_is)
      · refine' Sb.noa_mk KX G ?z174a ?z174b;(case z174a=>k_is);(case z174b=>k_is)
      · refine' Sb.ini_mk KX G ?z175a ?z175m ?z175i ?z175f ?z175n ?z175q ?z175l ?z175c ?z175k (fun _ _ _ _ _ _ us hl=>match us,hl with | [_],_=>rfl);(case z175a=>k_is);(case z175m=>k_is);(case z175i=>k_is);(case z175f=>k_is);(case z175n=>k_is);(case z175q=>k_is);(case z175l=>k_is);(case z175c=>k_is);(case z175k=>k_is)
      · refine' Sb.met_mk KX G ?z176a ?z176i ?z176f ?z176n ?z176l ?z176c ?z176k (fun _ _ _ _ _ _ us hl=>match us,hl with | [_],_=>rfl);(case z176a=>k_is);(case z176i=>k_is);(case z176f=>k_is);(case z176n=>k_is);(case z176l=>k_is);(case z176c=>k_is);(case z176k=>k_is)
      · refine' Sb.met_mk KX G ?z177a ?z177i ?z177f ?z177n ?z177l ?z177c ?z177k (fun _ _ _ _ _ _ us hl=>match us,hl with | [_],_=>rfl);(case z177a=>k_is);(case z177i=>k_is);(case z177f=>k_is);(case z177n=>k_is);(case z177l=>k_is);(case z177c=>k_is);(case z177k=>k_is)
      · refine' PySem.W.mg_none_of KX G ?z178a;(case z178a=>k_is)
      · refine' PySem.W.mg_none_of KX G ?z179a;(case z179a=>k_is)
      · refine' PySem.W.mg_none_of KX G ?z180a;(case z180a=>k_is)
      · refine' PySem.W.mg_none_of KX G ?z181a;(case z181a=>k_is)
      · refine' PySem.W.mg_none_of KX G ?z182a;(case z182a=>k_is)
      · refine' PySem.W.mg_none_of KX G ?z183a;(case z183a=>k_is)
      )
    obtain ⟨f,fd,hm,F,hb⟩:=T.f_answers
    have e:=hmg.symm.trans hm
    cases e
    obtain ⟨oc,od,kV,doc,pm,an,cdv,ct,osl,rfl,lk,hcd⟩:=F.ex
    exact ⟨_,fun s us hu=>match us,hu with | [_],_=>.of_eq rfl,fun base _ _=>Sb.ok_answers T F⟩
  case S =>
    intro K H xs a hO hwi hask hx
    cases hx with
    | cons h1 h2 =>
      cases h2
      cases h1 with
      | lst hs ha =>
        have e:=L2.ints_dw a.1 _ ha
        subst e
        exact ⟨_,a.1,rfl,hs,hask,fun H' p hp=>.lst (L2.SqL.of hp) (L2.dw_ints _)⟩
end
