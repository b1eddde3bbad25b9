package runes

import (
	"sort"

	"caret/api"
)

type classRow struct {
	first, last rune
	class       api.Class
}

// The rows stand in two tables, as a table at package level is to be short. Each is rising, for a search by halves.

const firstHigh = 0x0100

var lowClasses = [...]classRow{
	{0x0000, 0x0008, api.BN},
	{0x0009, 0x0009, api.S},
	{0x000A, 0x000A, api.B},
	{0x000B, 0x000B, api.S},
	{0x000C, 0x000C, api.WS},
	{0x000D, 0x000D, api.B},
	{0x000E, 0x001B, api.BN},
	{0x001C, 0x001E, api.B},
	{0x001F, 0x001F, api.S},
	{0x0020, 0x0020, api.WS},
	{0x0021, 0x0022, api.ON},
	{0x0023, 0x0025, api.ET},
	{0x0026, 0x002A, api.ON},
	{0x002B, 0x002B, api.ES},
	{0x002C, 0x002C, api.CS},
	{0x002D, 0x002D, api.ES},
	{0x002E, 0x002F, api.CS},
	{0x0030, 0x0039, api.EN},
	{0x003A, 0x003A, api.CS},
	{0x003B, 0x0040, api.ON},
	{0x005B, 0x0060, api.ON},
	{0x007B, 0x007E, api.ON},
	{0x007F, 0x0084, api.BN},
	{0x0085, 0x0085, api.B},
	{0x0086, 0x009F, api.BN},
	{0x00A0, 0x00A0, api.CS},
	{0x00A1, 0x00A1, api.ON},
	{0x00A2, 0x00A5, api.ET},
	{0x00A6, 0x00A9, api.ON},
	{0x00AB, 0x00AC, api.ON},
	{0x00AD, 0x00AD, api.BN},
	{0x00AE, 0x00AF, api.ON},
	{0x00B0, 0x00B1, api.ET},
	{0x00B2, 0x00B3, api.EN},
	{0x00B4, 0x00B4, api.ON},
}

var highClasses = [...]classRow{
	{0x0300, 0x036F, api.NSM},
	{0x0591, 0x05BD, api.NSM},
	{0x05BE, 0x05BE, api.R},
	{0x05D0, 0x05EA, api.R},
	{0x0600, 0x0605, api.AN},
	{0x0608, 0x0608, api.AL},
	{0x060C, 0x060C, api.CS},
	{0x061C, 0x061C, api.AL},
	{0x0620, 0x064A, api.AL},
	{0x064B, 0x065F, api.NSM},
	{0x0660, 0x0669, api.AN},
	{0x066A, 0x066A, api.ET},
	{0x066B, 0x066C, api.AN},
	{0x066D, 0x066F, api.AL},
	{0x0670, 0x0670, api.NSM},
	{0x0671, 0x06D3, api.AL},
	{0x06F0, 0x06F9, api.EN},
	{0x200B, 0x200D, api.BN},
	{0x200F, 0x200F, api.R},
	{0x2028, 0x2028, api.WS},
	{0x2029, 0x2029, api.B},
	{0x202F, 0x202F, api.CS},
	{0x2044, 0x2044, api.CS},
	{0x20A0, 0x20BF, api.ET},
	{0x2190, 0x2193, api.ON},
	{0x2600, 0x27BF, api.ON},
	{0x3008, 0x300B, api.ON},
	{0xFE00, 0xFE0F, api.NSM},
	{0xFEFF, 0xFEFF, api.BN},
	{0xFFFD, 0xFFFD, api.ON},
	{0x1F300, 0x1F9FF, api.ON},
}

// ClassOf tells how a rune runs.
func ClassOf(r rune) api.Class {
	// Each of these has a class of its own: rows for them would only make the tables longer.
	switch r {
	case 0x202A:
		return api.LRE
	case 0x202B:
		return api.RLE
	case 0x202C:
		return api.PDF
	case 0x202D:
		return api.LRO
	case 0x202E:
		return api.RLO
	case 0x2066:
		return api.LRI
	case 0x2067:
		return api.RLI
	case 0x2068:
		return api.FSI
	case 0x2069:
		return api.PDI
	}
	if r < firstHigh {
		return lowClass(r)
	}
	return highClass(r)
}

func lowClass(r rune) api.Class {
	i := sort.Search(len(lowClasses), func(i int) bool { return r <= lowClasses[i].last })
	if i < len(lowClasses) && lowClasses[i].first <= r {
		return lowClasses[i].class
	}
	return api.L
}

func highClass(r rune) api.Class {
	i := sort.Search(len(highClasses), func(i int) bool { return r <= highClasses[i].last })
	if i < len(highClasses) && highClasses[i].first <= r {
		return highClasses[i].class
	}
	return api.L
}
