"""Set out lists in lists of words at least cost: the calls are in setwidth.desk."""
