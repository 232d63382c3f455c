import Derived.Test.YtcdijppegfcoaaaGreatDoorZH00
import Derived.Deep.DeepCutAuto
set_option linter.unusedSimpArgs false
namespace Go.Proofs.YtcdijppegfcoaaaGreatDoor
open Go.RowKit Tryz
def XI(p:aA):Bool:=p==dO||(p==xA||(p==iP||p==gV))
def uk(p:aA):Bool:=p !=bK&&(p !=dS&&p !=eS)
def oA(b:Bool)(t:aA):aA:=if b=true then nX++t++nY else t
theorem YI(b:Bool)(t:aA):(oA b t).length<=t.length+2:=by
 unfold oA;split
 ·simp[nX,nY]
 ·omega
def MJ:aA:=[108,101,116,32]
def VI:aA:=[114,101,99,32]
def SJ:aA:=[32,97,110,100,32]
def SK:aA:=[32,61,32]
def nj:aA:=[32,105,110,32]
def j8(h e:Nat->aA):Nat->aA
 |0=>[]
 |j+1=>j8 h e j++((if 0<j then SJ else [])++(h j++SK++e j))
def oU(h:aA):aA:=MJ++(if h=gV then VI else [])
theorem um(e w:Nat->aA)(j k:Nat)(h:j<=k):(j8 e w j).length<=(j8 e w k).length:=by
 induction k with
 |zero=>rw[kW.1 h];exact aV _
 |succ k x=>
  rcases bZ j (k+1)with b|a
  ·have:=x (by omega);rw[j8,bD];omega
  ·rw[show j=k+1 from by omega];exact aV _
theorem LA(h e:Nat->aA)(j:Nat):(j8 h e j).length+(h j).length+(e j).length+3<=(j8 h e (j+1)).length:=by rw[j8];simp only[bD,SK,bU,cB];omega
end Go.Proofs.YtcdijppegfcoaaaGreatDoor
