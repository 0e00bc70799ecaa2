"""How many kinds: a few kinds, each as likely as its weight, and how many different ones so many draws have."""
