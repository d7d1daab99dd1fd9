"""Eachworkread: works that are still read often enough when readers drop out."""
