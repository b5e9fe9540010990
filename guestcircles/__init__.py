"""Groups among guests: circles, in which all know one another, and strangers, of whom nobody knows anybody."""
