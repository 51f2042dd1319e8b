package rules

import (
	"testing"

	"odograph/api"
	"odograph/frame"
	"odograph/judge"
	"odograph/watch"
)

// The errors that DOC.md lists.
func TestErrors(t *testing.T) {
	for _, c := range []struct {
		name string
		got  api.Errno
		want int
	}{
		{"OK", api.OK, 0},
		{"ErrRange", api.ErrRange, 10},
		{"ErrForm", api.ErrForm, 11},
		{"ErrNone", api.ErrNone, 12},
		{"ErrMany", api.ErrMany, 13},
		{"ErrShort", api.ErrShort, 14},
		{"ErrLong", api.ErrLong, 15},
		{"ErrTwice", api.ErrTwice, 16},
		{"ErrOver", api.ErrOver, 20},
		{"ErrZero", api.ErrZero, 21},
		{"ErrKind", api.ErrKind, 30},
		{"ErrSum", api.ErrSum, 31},
		{"ErrLost", api.ErrLost, 40},
		{"ErrConf", api.ErrConf, 50},
		{"ErrTrack", api.ErrTrack, 51},
	} {
		if int(c.got) != c.want {
			t.Errorf("%s = %d; want %d", c.name, c.got, c.want)
		}
	}
}

// The limits that DOC.md lists, and the constants of the chapters.
func TestConstants(t *testing.T) {
	for _, c := range []struct {
		name      string
		got, want int64
	}{
		{"MaxSegments", api.MaxSegments, 200},
		{"MaxGroups", api.MaxGroups, 400},
		{"MaxPieces", api.MaxPieces, 64},
		{"MaxRoutes", api.MaxRoutes, 16},
		{"MaxDepth", api.MaxDepth, 12},
		{"MaxFrames", api.MaxFrames, 32},
		{"MaxLength", api.MaxLength, 1099511627776},
		{"MaxPlace", api.MaxPlace, 17592186044416},
		{"MaxSpeed", api.MaxSpeed, 16777216},
		{"MaxAccel", api.MaxAccel, 1048576},
		{"MaxCirc", api.MaxCirc, 8388608},
		{"MinCirc", api.MinCirc, 131072},
		{"MaxPulses", api.MaxPulses, 1024},
		{"MaxTicks", api.MaxTicks, 4096},
		{"MaxImage", api.MaxImage, 1048576},
		{"frame.First", frame.First, 1},
		{"frame.Second", frame.Second, 2},
		{"frame.Radar", frame.Radar, 3},
		{"frame.Accel", frame.Accel, 4},
		{"frame.Balise", frame.Balise, 5},
		{"watch.Unlocated", watch.Unlocated, 1},
		{"watch.Located", watch.Located, 2},
		{"watch.Degraded", watch.Degraded, 3},
		{"watch.Failed", watch.Failed, 4},
		{"judge.Outside", judge.Outside, 1},
		{"judge.Speed", judge.Speed, 2},
		{"judge.Way", judge.Way, 3},
		{"judge.Wheel", judge.Wheel, 4},
		{"judge.Moves", judge.Moves, 5},
		{"judge.Stands", judge.Stands, 6},
		{"judge.Linked", judge.Linked, 7},
	} {
		if c.got != c.want {
			t.Errorf("%s = %d; want %d", c.name, c.got, c.want)
		}
	}
}
