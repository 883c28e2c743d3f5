package message

// The kinds, by their names.
const (
	Disconnect     = 1
	Ignore         = 2
	Unimplemented  = 3
	Debug          = 4
	ServiceRequest = 5
	ServiceAccept  = 6
	KexInit        = 20
	NewKeys        = 21
	ECDHInit       = 30
	ECDHReply      = 31
	AuthRequest    = 50
	AuthFailure    = 51
	AuthSuccess    = 52
	Banner         = 53
	PKOK           = 60
	GlobalRequest  = 80
	RequestSuccess = 81
	RequestFailure = 82
	Open           = 90
	Confirm        = 91
	OpenFailure    = 92
	Adjust         = 93
	Data           = 94
	Extended       = 95
	EOF            = 96
	Close          = 97
	ChannelRequest = 98
	ChannelSuccess = 99
	ChannelFailure = 100
)

type kindRow struct {
	kind         int
	name, fields string
}

var kinds = [...]kindRow{
	{Disconnect, "disconnect", "uss"},
	{Ignore, "ignore", "s"},
	{Unimplemented, "unimplemented", "u"},
	{Debug, "debug", "bss"},
	{ServiceRequest, "service-request", "s"},
	{ServiceAccept, "service-accept", "s"},
	{KexInit, "kexinit", "cnnnnnnnnnnbu"},
	{NewKeys, "newkeys", ""},
	{ECDHInit, "ecdh-init", "s"},
	{ECDHReply, "ecdh-reply", "sss"},
	{AuthRequest, "auth-request", "sssr"},
	{AuthFailure, "auth-failure", "nb"},
	{AuthSuccess, "auth-success", ""},
	{Banner, "banner", "ss"},
	{PKOK, "pk-ok", "ss"},
	{GlobalRequest, "global-request", "sbr"},
	{RequestSuccess, "request-success", "r"},
	{RequestFailure, "request-failure", ""},
	{Open, "open", "suuur"},
	{Confirm, "confirm", "uuuur"},
	{OpenFailure, "open-failure", "uuss"},
	{Adjust, "adjust", "uu"},
	{Data, "data", "us"},
	{Extended, "extended", "uus"},
	{EOF, "eof", "u"},
	{Close, "close", "u"},
	{ChannelRequest, "channel-request", "usbr"},
	{ChannelSuccess, "channel-success", "u"},
	{ChannelFailure, "channel-failure", "u"},
}

// Fields returns the letters of the fields of a kind, and whether there is such a
// kind.
func Fields(kind int) (string, bool) {
	for _, row := range kinds {
		if row.kind == kind {
			return row.fields, true
		}
	}
	return "", false
}

// Name returns the name of a kind, or an empty string if there is no such kind.
func Name(kind int) string {
	for _, row := range kinds {
		if row.kind == kind {
			return row.name
		}
	}
	return ""
}
