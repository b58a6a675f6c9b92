"""Light: what is seen of a window by daylight, band by band, through its panes' glasses and paintings."""
