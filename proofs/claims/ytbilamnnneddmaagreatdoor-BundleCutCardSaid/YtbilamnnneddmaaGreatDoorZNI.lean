import Derived.Test.YtbilamnnneddmaaGreatDoorZNBx
import Derived.Lib.Hide
import Derived.Deep.QuietTactic
