"""Groups among guests: circles in which all know one another."""
