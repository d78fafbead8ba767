"""Tables of yes and no: what can come of using them one behind another."""
