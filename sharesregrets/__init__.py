"""Which answers to keep: shares and regrets. The calls are in sharesregrets.shares."""
