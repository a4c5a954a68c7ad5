package tests

import (
	"testing"

	"loop.example/skyway/impl"
)

func TestLimitsAndCodes(t *testing.T) {
	for _, c := range []struct {
		name     string
		is, asks int
	}{
		{"CltuMax", impl.CltuMax, 63}, {"StreamMax", impl.StreamMax, 400},
		{"FrameMax", impl.FrameMax, 60}, {"CraftMax", impl.CraftMax, 1023}, {"ViaMax", impl.ViaMax, 63}, {"SeqMax", impl.SeqMax, 255},
		{"FarmHalf", impl.FarmHalf, 8}, {"FopMost", impl.FopMost, 4},
		{"FarmTakes", impl.FarmTakes, 0}, {"FarmLate", impl.FarmLate, 1}, {"FarmEarly", impl.FarmEarly, 2}, {"FarmFar", impl.FarmFar, 3},
		{"FarmWaits", impl.FarmWaits, 4}, {"FarmShut", impl.FarmShut, 5}, {"FarmBad", impl.FarmBad, 6}, {"FarmDone", impl.FarmDone, 7},
		{"PackMax", impl.PackMax, 100}, {"CmdMax", impl.CmdMax, 60}, {"ApidMax", impl.ApidMax, 2047}, {"CountMax", impl.CountMax, 16383}, {"TimeMax", impl.TimeMax, 99999},
		{"SegMost", impl.SegMost, 20}, {"RuleMax", impl.RuleMax, 12}, {"PlanMax", impl.PlanMax, 6},
		{"CmdFine", impl.CmdFine, 0}, {"CmdShape", impl.CmdShape, 1}, {"CmdSum", impl.CmdSum, 2}, {"CmdHead", impl.CmdHead, 3},
		{"ModePlain", impl.ModePlain, 0}, {"ModeSafe", impl.ModeSafe, 1},
		{"PlanDone", impl.PlanDone, 0}, {"PlanPast", impl.PlanPast, 1}, {"PlanFull", impl.PlanFull, 2}, {"PlanBad", impl.PlanBad, 3},
		{"ProgMax", impl.ProgMax, 16}, {"CellMax", impl.CellMax, 8}, {"ValueMax", impl.ValueMax, 9999}, {"PortMax", impl.PortMax, 4}, {"BoxMax", impl.BoxMax, 4},
		{"OpSet", impl.OpSet, 1}, {"OpAdd", impl.OpAdd, 2}, {"OpMore", impl.OpMore, 3}, {"OpLess", impl.OpLess, 4}, {"OpJump", impl.OpJump, 5}, {"OpTell", impl.OpTell, 6}, {"OpRaise", impl.OpRaise, 7},
		{"OpTime", impl.OpTime, 8}, {"OpOut", impl.OpOut, 9}, {"OpIn", impl.OpIn, 10}, {"OpRest", impl.OpRest, 11}, {"OpTake", impl.OpTake, 12}, {"OpFar", impl.OpFar, 13},
		{"PartMax", impl.PartMax, 3}, {"TurnMax", impl.TurnMax, 8}, {"BudgetMax", impl.BudgetMax, 40},
		{"DownSize", impl.DownSize, 40}, {"DownData", impl.DownData, 28}, {"QueueMax", impl.QueueMax, 8}, {"FirstNone", impl.FirstNone, 2047}, {"FirstIdle", impl.FirstIdle, 2046},
		{"ServeCheck", impl.ServeCheck, 1}, {"ServeHouse", impl.ServeHouse, 3}, {"ServeEvent", impl.ServeEvent, 5}, {"ServeMode", impl.ServeMode, 8}, {"ServePlan", impl.ServePlan, 11}, {"ServeTest", impl.ServeTest, 17},
		{"LinkMax", impl.LinkMax, 12}, {"SendMax", impl.SendMax, 40}, {"PlayMax", impl.PlayMax, 300}, {"CalmMax", impl.CalmMax, 8},
		{"WorldSend", impl.WorldSend, 1}, {"WorldAgain", impl.WorldAgain, 2}, {"WorldTick", impl.WorldTick, 3}, {"WorldLose", impl.WorldLose, 4}, {"WorldSpoil", impl.WorldSpoil, 5}, {"WorldHear", impl.WorldHear, 6}, {"WorldMiss", impl.WorldMiss, 7},
	} {
		want(t, c.is == c.asks, "%s is %d, not %d", c.name, c.is, c.asks)
	}
}
