/-
  OUR OWN TEXT (written by mktext.py). typerref.Text at a leaf, a pair, an if, an application.
-/
import Derived.Test.YtcdijppegfcoaabGreatDoorRefT
import Derived.Deep.RegionWith
namespace Go.Proofs.YtcdijppegfcoaabGreatDoor
open Go.RowKit

def tOpen : List UInt8 := [40]
def tShut : List UInt8 := [41]
def tComma : List UInt8 := [44, 32]
def tIf : List UInt8 := [105, 102, 32]
def tThen : List UInt8 := [32, 116, 104, 101, 110, 32]
def tElse : List UInt8 := [32, 101, 108, 115, 101, 32]
def tSp : List UInt8 := [32]

end Go.Proofs.YtcdijppegfcoaabGreatDoor
