package tests

import (
	"testing"

	"loop.example/skyway/impl"
)

func TestLimitsAndCodes(t *testing.T) {
	for _, c := range []struct {
		name     string
		is, asks int
	}{
		{"CltuMax", impl.CltuMax, 63}, {"StreamMax", impl.StreamMax, 400},
		{"FrameMax", impl.FrameMax, 60}, {"CraftMax", impl.CraftMax, 1023}, {"ViaMax", impl.ViaMax, 63}, {"SeqMax", impl.SeqMax, 255},
		{"FarmHalf", impl.FarmHalf, 8}, {"FopMost", impl.FopMost, 4},
		{"FarmTakes", impl.FarmTakes, 0}, {"FarmLate", impl.FarmLate, 1}, {"FarmEarly", impl.FarmEarly, 2}, {"FarmFar", impl.FarmFar, 3},
		{"FarmWaits", impl.FarmWaits, 4}, {"FarmShut", impl.FarmShut, 5}, {"FarmBad", impl.FarmBad, 6}, {"FarmDone", impl.FarmDone, 7},
	} {
		want(t, c.is == c.asks, "%s is %d, not %d", c.name, c.is, c.asks)
	}
}
