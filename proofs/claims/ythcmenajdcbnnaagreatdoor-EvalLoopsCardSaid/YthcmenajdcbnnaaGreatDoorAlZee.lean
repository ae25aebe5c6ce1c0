import Derived.Test.YthcmenajdcbnnaaGreatDoorAlZed
import Derived.Lib.BufferMore
import Derived.Lib.Strings
namespace Go.Proofs.YthcmenajdcbnnaaGreatDoor
open Go Go.RowKit
theorem Du:type_of% @Lib.cell_of_heap:=@Lib.cell_of_heap
theorem D3:type_of% @Lib.heap_setCell_same:=@Lib.heap_setCell_same
theorem Yf:type_of% @Lib.size_eq:=@Lib.size_eq
theorem Ym:type_of% @Lib.toList_data:=@Lib.toList_data
end Go.Proofs.YthcmenajdcbnnaaGreatDoor
