import Derived.Test.YtcdijppegfcoaaaGreatDoorZG00
import Derived.Deep.DeepCutAuto
set_option linter.unusedSimpArgs false
namespace Go.Proofs.YtcdijppegfcoaaaGreatDoor
open Go.RowKit Tryz
def X6(p:aA):Bool:=p==dO||(p==xA||(p==iP||p==gV))
def rh(p:aA):Bool:=p !=bK&&(p !=dS&&p !=eS)
def oA(b:Bool)(t:aA):aA:=if b=true then nX++t++nY else t
theorem Y4(b:Bool)(t:aA):(oA b t).length<=t.length+2:=by
 unfold oA;split
 ·simp[nX,nY]
 ·omega
def MF:aA:=[108,101,116,32]
def VB:aA:=[114,101,99,32]
def SD:aA:=[32,97,110,100,32]
def SE:aA:=[32,61,32]
def kt:aA:=[32,105,110,32]
def j8(h e:Nat->aA):Nat->aA
 |0=>[]
 |j+1=>j8 h e j++((if 0<j then SD else [])++(h j++SE++e j))
def oU(h:aA):aA:=MF++(if h=gV then VB else [])
theorem ri(e w:Nat->aA)(j k:Nat)(h:j<=k):(j8 e w j).length<=(j8 e w k).length:=by
 induction k with
 |zero=>rw[kW.1 h];exact aV _
 |succ k x=>
  rcases bZ j (k+1)with b|a
  ·have:=x (by omega);rw[j8,bD];omega
  ·rw[show j=k+1 from by omega];exact aV _
theorem L9(h e:Nat->aA)(j:Nat):(j8 h e j).length+(h j).length+(e j).length+3<=(j8 h e (j+1)).length:=by rw[j8];simp only[bD,SE,bU,cB];omega
end Go.Proofs.YtcdijppegfcoaaaGreatDoor
